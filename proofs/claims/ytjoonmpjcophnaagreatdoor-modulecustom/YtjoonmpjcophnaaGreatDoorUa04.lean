/- OpK. -/
import Derived.Test.YtjoonmpjcophnaaGreatDoorUa01
namespace Go.Proofs.YtjoonmpjcophnaaGreatDoor
open Go.RowKit

set_option maxHeartbeats 4000000 in
set_option maxRecDepth 100000 in
theorem isacc (op : Int) (t : Bool) (h : (40 ≤ op ∧ op ≤ 62) ∧ t = true ∨ (op < 40 ∧ t = false) ∨ (40 ≤ op ∧ 62 < op ∧ t = false)) : Ct 187 #[.int .i64 op] (.bool t) := hide fun W => by
  rcases h with ⟨⟨h1, h2⟩, rfl⟩ | ⟨h1, rfl⟩ | ⟨h1, h2, rfl⟩
  · go_enter Tryz.func187, Tryz.ntmps187
    go_wp2_with fail
    go_ret
    exact ⟨rfl, Below.refl _ _⟩
  · have h2 : ¬ 40 ≤ op := by omega
    go_enter Tryz.func187, Tryz.ntmps187
    go_wp2_with fail
    go_ret
    exact ⟨rfl, Below.refl _ _⟩
  · have h3 : ¬ op ≤ 62 := by omega
    go_enter Tryz.func187, Tryz.ntmps187
    go_wp2_with fail
    go_ret
    exact ⟨rfl, Below.refl _ _⟩
end Go.Proofs.YtjoonmpjcophnaaGreatDoor

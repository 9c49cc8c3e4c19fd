/- isAccess, typeOf, moved. -/
import Derived.Test.YtkpdanjfdcoldaaDoorOpI
namespace Go.Proofs.YtkpdanjfdcoldaaDoor
open Go.RowKit

set_option maxHeartbeats 4000000 in
set_option maxRecDepth 100000 in
theorem isacc (op : Int) (t : Bool) (h : (40 ≤ op ∧ op ≤ 62) ∧ t = true ∨ (op < 40 ∧ t = false) ∨ (40 ≤ op ∧ 62 < op ∧ t = false)) : Ct 21 #[.int .i64 op] (.bool t) := hide fun W => by
  rcases h with ⟨⟨h1, h2⟩, rfl⟩ | ⟨h1, rfl⟩ | ⟨h1, h2, rfl⟩
  · go_enter Tryd.func21, Tryd.ntmps21
    go_wp2_with fail
    go_ret
    exact ⟨rfl, Below.refl _ _⟩
  · have h2 : ¬ 40 ≤ op := by omega
    go_enter Tryd.func21, Tryd.ntmps21
    go_wp2_with fail
    go_ret
    exact ⟨rfl, Below.refl _ _⟩
  · have h3 : ¬ op ≤ 62 := by omega
    go_enter Tryd.func21, Tryd.ntmps21
    go_wp2_with fail
    go_ret
    exact ⟨rfl, Below.refl _ _⟩
set_option maxHeartbeats 4000000 in
set_option maxRecDepth 100000 in
theorem typeOf_i64 : Ct 23 #[.string (bs [105, 54, 52])] (.tuple #[.int .u8 126, .int .i64 8]) := hide fun W => by
  have e1 : ((bs [105, 54, 52]).toList == [105, 51, 50]) = false := by simp [bs, Lib.toList_data]
  have e2 : ((bs [105, 54, 52]).toList == [105, 54, 52]) = true := by simp [bs, Lib.toList_data]
  go_enter Tryd.func23, Tryd.ntmps23
  go_wp2_with fail
  go_ret2
  exact ⟨rfl, Below.refl _ _⟩
set_option maxHeartbeats 4000000 in
set_option maxRecDepth 100000 in
theorem moved_8 (d : List UInt8) (n : Int) (h : 0 ≤ Lib.indexByte d 56) : Ct 24 #[.string (bs d), .int .i64 n] (.int .i64 1) := hide fun W => by
  have h' : 0 ≤ Lib.indexByte (bs d).data.toList 56 := by simpa [bs] using h
  have H := hide (fun W => cont_one (bs d) 56 W)
  have e : decide (0 ≤ Lib.indexByte (bs d).data.toList 56) = true := by simp only [h', decide_true]
  go_enter Tryd.func24, Tryd.ntmps24
  go_wp2_with (go_at_call 37; refine ((unhide H) _).mono ?_; rintro _ w2 ⟨rfl, rfl⟩; rw [e])
  go_ret
  exact ⟨rfl, Below.refl _ _⟩

end Go.Proofs.YtkpdanjfdcoldaaDoor

/- awake. -/
import Derived.Test.YtkpdanjfdcoldaaDoorOpL
namespace Go.Proofs.YtkpdanjfdcoldaaDoor
open Go.RowKit

theorem nm48 : nm 48 = [105, 54, 52] ++ 46 :: [108, 111, 97, 100, 56, 95, 115] := by kernel_rfl
theorem nm106 : nm 106 = [105, 51, 50, 46, 97, 100, 100] := by kernel_rfl
theorem access48 : Ct 10 #[.int .i64 48] (.tuple #[.agg #[.int .u8 126, .int .i64 1, .bool true, .bool false], .bool true]) := hide fun W =>
  access_s (fun _ => True) (fun _ _ _ _ => trivial) 48 (nm 48) [105, 54, 52] [108, 111, 97, 100, 56, 95, 115] (isacc 48 true (.inl ⟨⟨by omega, by omega⟩, rfl⟩)) (name_any 48) nm48 (by decide) (by rw [nm48]; decide) 126 8 1 typeOf_i64
    (hide fun W _ => unhide (moved_8 [108, 111, 97, 100, 56, 95, 115] 8 (by decide)) W) W trivial
set_option maxHeartbeats 8000000 in
set_option maxRecDepth 100000 in
theorem awake_any : Ct 5 #[] (.bool true) := hide fun W => by
  have HA := access48
  have HN : Ct 8 #[.int .i64 106] (.string (bs [105, 51, 50, 46, 97, 100, 100])) := by have := name_any 106; rwa [nm106] at this
  have e : ((bs [105, 51, 50, 46, 97, 100, 100]).toList == [105, 51, 50, 46, 97, 100, 100]) = true := by simp [bs, Lib.toList_data]
  go_enter Tryd.func5, Tryd.ntmps5
  go_wp2_with (go_at_call 10; refine ((unhide HA) _).mono ?_; rintro _ w2 ⟨rfl, hb2⟩)
  refine ((unhide HN) _).mono ?_
  rintro _ w3 ⟨rfl, hb3⟩
  have c0 : w3.cell? ⟨w2.heap.size, 0, none⟩ = some (.int .u8 126) := keep1 hb3 (by simp) (by simp [go_sem])
  have c1 : w3.cell? ⟨w2.heap.size, 1, none⟩ = some (.int .i64 1) := keep1 hb3 (by simp) (by simp [go_sem])
  have c2 : w3.cell? ⟨w2.heap.size, 2, none⟩ = some (.bool true) := keep1 hb3 (by simp) (by simp [go_sem])
  have c3 : w3.cell? ⟨w2.heap.size, 3, none⟩ = some (.bool false) := keep1 hb3 (by simp) (by simp [go_sem])
  have hbW : Below W.heap.size W w3 := bthen (balloc hb2 _) hb3
  clear hb2 hb3
  go_wp2_with fail
  go_ret
  exact ⟨rfl, hbW⟩

end Go.Proofs.YtkpdanjfdcoldaaDoor

/- ImA. -/
import Derived.Test.YtjoonmpjcophnaaGreatDoorUa01
import Derived.Test.YtjoonmpjcophnaaGreatDoorUa04
namespace Go.Proofs.YtjoonmpjcophnaaGreatDoor
open Go.RowKit

set_option maxHeartbeats 4000000 in
set_option maxRecDepth 100000 in
theorem immv_65 : Ct 184 #[.int .i64 65] (.tuple #[.int .i64 8, .bool true]) := hide fun W => by
  go_enter Tryz.func184, Tryz.ntmps184
  go_wp2_with fail
  go_ret2
  exact ⟨rfl, Below.refl _ _⟩
set_option maxHeartbeats 4000000 in
set_option maxRecDepth 100000 in
theorem immv_66 : Ct 184 #[.int .i64 66] (.tuple #[.int .i64 9, .bool true]) := hide fun W => by
  go_enter Tryz.func184, Tryz.ntmps184
  go_wp2_with fail
  go_ret2
  exact ⟨rfl, Below.refl _ _⟩
set_option maxHeartbeats 4000000 in
set_option maxRecDepth 100000 in
theorem immv_67 : Ct 184 #[.int .i64 67] (.tuple #[.int .i64 10, .bool true]) := hide fun W => by
  go_enter Tryz.func184, Tryz.ntmps184
  go_wp2_with fail
  go_ret2
  exact ⟨rfl, Below.refl _ _⟩
set_option maxHeartbeats 4000000 in
set_option maxRecDepth 100000 in
theorem immv_68 : Ct 184 #[.int .i64 68] (.tuple #[.int .i64 11, .bool true]) := hide fun W => by
  go_enter Tryz.func184, Tryz.ntmps184
  go_wp2_with fail
  go_ret2
  exact ⟨rfl, Below.refl _ _⟩
set_option maxHeartbeats 4000000 in
set_option maxRecDepth 100000 in
theorem immv_a (op : Int) (h1 : 40 ≤ op) (h2 : op ≤ 62) : Ct 184 #[.int .i64 op] (.tuple #[.int .i64 6, .bool true]) := hide fun W => by
  have k5 : (op == 65) = false := by simp; omega
  have k6 : (op == 66) = false := by simp; omega
  have k7 : (op == 67) = false := by simp; omega
  have k8 : (op == 68) = false := by simp; omega
  have HI := isacc op true (.inl ⟨⟨h1, h2⟩, rfl⟩)
  clear h1 h2
  go_enter Tryz.func184, Tryz.ntmps184
  go_wp2_with (go_at_call 187; refine ((unhide HI) _).mono ?_; rintro _ w2 ⟨rfl, hb2⟩)
  go_ret2
  exact ⟨rfl, hb2⟩
set_option maxHeartbeats 4000000 in
set_option maxRecDepth 100000 in
theorem immv_n (op ti c tu : Int) (z : Bool) (h : op < 40 ∨ 68 < op) (HK : Cm 188 #[.int .i64 op] (.tuple #[.int .u8 ti, .int .i64 c, .int .u8 tu, .bool z])) : Cm 184 #[.int .i64 op] (.tuple #[.int .i64 0, .bool z]) := hide fun W m => by
  have k5 : (op == 65) = false := by simp; omega
  have k6 : (op == 66) = false := by simp; omega
  have k7 : (op == 67) = false := by simp; omega
  have k8 : (op == 68) = false := by simp; omega
  have HI := isacc op false (h.elim (fun h => .inr (.inl ⟨h, rfl⟩)) (fun h => .inr (.inr ⟨by omega, by omega, rfl⟩)))
  have HM := hide m
  clear h m
  go_enter Tryz.func184, Tryz.ntmps184
  go_wp2_with (go_at_call 187; refine ((unhide HI) _).mono ?_; rintro _ w2 ⟨rfl, hb2⟩)
  refine ((unhide HK) _ ((unhide HM).below hb2)).mono ?_
  rintro _ w3 ⟨rfl, hb3⟩
  go_wp2_with fail
  go_ret2
  exact ⟨rfl, bthen hb2 hb3⟩

end Go.Proofs.YtjoonmpjcophnaaGreatDoor

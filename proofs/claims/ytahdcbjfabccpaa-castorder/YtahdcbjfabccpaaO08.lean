/- CsA. -/
import Derived.Test.YtahdcbjfabccpaaO01
namespace Go.Proofs.Ytahdcbjfabccpaa
open Go.RowKit

set_option maxHeartbeats 4000000 in
set_option maxRecDepth 100000 in
theorem split_i32_n {x y R : Int} (W : World) (g : x < 0) (h1 : IntKind.u64.wrap x = y) (h2 : IntKind.u64.wrap (-y) = R) :
    Calls Try.prog 54 #[.int .i32 x] W fun r W' => r = .returned (.tuple #[.bool true, .int .u64 R]) ∧ Below W.heap.size W W' := by
  have HB := hide (Below.refl W.heap.size W)
  go_enter Try.func54, Try.ntmps54
  go_wp2_with fail
  go_ret2
  exact ⟨rfl, unhide HB⟩
set_option maxHeartbeats 4000000 in
set_option maxRecDepth 100000 in
theorem split_i32_p {x R : Int} (W : World) (g : ¬ x < 0) (h1 : IntKind.u64.wrap x = R) :
    Calls Try.prog 54 #[.int .i32 x] W fun r W' => r = .returned (.tuple #[.bool false, .int .u64 R]) ∧ Below W.heap.size W W' := by
  have HB := hide (Below.refl W.heap.size W)
  go_enter Try.func54, Try.ntmps54
  go_wp2_with fail
  go_ret2
  exact ⟨rfl, unhide HB⟩
set_option maxHeartbeats 4000000 in
set_option maxRecDepth 100000 in
theorem split_u32_p {x R : Int} (W : World) (g : ¬ x < 0) (h1 : IntKind.u64.wrap x = R) :
    Calls Try.prog 55 #[.int .u32 x] W fun r W' => r = .returned (.tuple #[.bool false, .int .u64 R]) ∧ Below W.heap.size W W' := by
  have HB := hide (Below.refl W.heap.size W)
  go_enter Try.func55, Try.ntmps55
  go_wp2_with fail
  go_ret2
  exact ⟨rfl, unhide HB⟩
set_option maxHeartbeats 4000000 in
set_option maxRecDepth 100000 in
theorem split_i64_n {x y R : Int} (W : World) (g : x < 0) (h1 : IntKind.u64.wrap x = y) (h2 : IntKind.u64.wrap (-y) = R) :
    Calls Try.prog 56 #[.int .i64 x] W fun r W' => r = .returned (.tuple #[.bool true, .int .u64 R]) ∧ Below W.heap.size W W' := by
  have HB := hide (Below.refl W.heap.size W)
  go_enter Try.func56, Try.ntmps56
  go_wp2_with fail
  go_ret2
  exact ⟨rfl, unhide HB⟩
set_option maxHeartbeats 4000000 in
set_option maxRecDepth 100000 in
theorem split_i64_p {x R : Int} (W : World) (g : ¬ x < 0) (h1 : IntKind.u64.wrap x = R) :
    Calls Try.prog 56 #[.int .i64 x] W fun r W' => r = .returned (.tuple #[.bool false, .int .u64 R]) ∧ Below W.heap.size W W' := by
  have HB := hide (Below.refl W.heap.size W)
  go_enter Try.func56, Try.ntmps56
  go_wp2_with fail
  go_ret2
  exact ⟨rfl, unhide HB⟩
set_option maxHeartbeats 4000000 in
set_option maxRecDepth 100000 in
theorem split_u64_p {x : Int} (W : World) (g : ¬ x < 0) :
    Calls Try.prog 57 #[.int .u64 x] W fun r W' => r = .returned (.tuple #[.bool false, .int .u64 x]) ∧ Below W.heap.size W W' := by
  have HB := hide (Below.refl W.heap.size W)
  go_enter Try.func57, Try.ntmps57
  go_wp2_with fail
  go_ret2
  exact ⟨rfl, unhide HB⟩
set_option maxHeartbeats 4000000 in
set_option maxRecDepth 100000 in
theorem number_32_t {x a y : Int} {m : Bool} (W : World) (h1 : IntKind.i32.wrap x = y) (HS : Ct 54 #[.int .i32 y] (.tuple #[.bool m, .int .u64 a])) :
    Calls Try.prog 45 #[.int .i64 32, .int .u64 x, .bool true] W fun r W' => r = .returned (.tuple #[.bool m, .int .u64 a]) ∧ Below W.heap.size W W' := by
  have HB := hide (Below.refl W.heap.size W)
  go_enter Try.func45, Try.ntmps45
  go_wp2_with fail
  refine (unhide HS _).mono ?_
  rintro _ w1 ⟨rfl, hb⟩
  have HB := hide (bthen (unhide HB) hb)
  clear hb
  go_wp2_with fail
  go_ret2
  exact ⟨rfl, unhide HB⟩
set_option maxHeartbeats 4000000 in
set_option maxRecDepth 100000 in
theorem number_32_f {x a y : Int} {m : Bool} (W : World) (h1 : IntKind.u32.wrap x = y) (HS : Ct 55 #[.int .u32 y] (.tuple #[.bool m, .int .u64 a])) :
    Calls Try.prog 45 #[.int .i64 32, .int .u64 x, .bool false] W fun r W' => r = .returned (.tuple #[.bool m, .int .u64 a]) ∧ Below W.heap.size W W' := by
  have HB := hide (Below.refl W.heap.size W)
  go_enter Try.func45, Try.ntmps45
  go_wp2_with fail
  refine (unhide HS _).mono ?_
  rintro _ w1 ⟨rfl, hb⟩
  have HB := hide (bthen (unhide HB) hb)
  clear hb
  go_wp2_with fail
  go_ret2
  exact ⟨rfl, unhide HB⟩
set_option maxHeartbeats 4000000 in
set_option maxRecDepth 100000 in
theorem number_64_t {x a y : Int} {m : Bool} (W : World) (h1 : IntKind.i64.wrap x = y) (HS : Ct 56 #[.int .i64 y] (.tuple #[.bool m, .int .u64 a])) :
    Calls Try.prog 45 #[.int .i64 64, .int .u64 x, .bool true] W fun r W' => r = .returned (.tuple #[.bool m, .int .u64 a]) ∧ Below W.heap.size W W' := by
  have HB := hide (Below.refl W.heap.size W)
  go_enter Try.func45, Try.ntmps45
  go_wp2_with fail
  refine (unhide HS _).mono ?_
  rintro _ w1 ⟨rfl, hb⟩
  have HB := hide (bthen (unhide HB) hb)
  clear hb
  go_wp2_with fail
  go_ret2
  exact ⟨rfl, unhide HB⟩
set_option maxHeartbeats 4000000 in
set_option maxRecDepth 100000 in
theorem number_64_f {x a : Int} {m : Bool} (W : World) (HS : Ct 57 #[.int .u64 x] (.tuple #[.bool m, .int .u64 a])) :
    Calls Try.prog 45 #[.int .i64 64, .int .u64 x, .bool false] W fun r W' => r = .returned (.tuple #[.bool m, .int .u64 a]) ∧ Below W.heap.size W W' := by
  have HB := hide (Below.refl W.heap.size W)
  go_enter Try.func45, Try.ntmps45
  go_wp2_with fail
  refine (unhide HS _).mono ?_
  rintro _ w1 ⟨rfl, hb⟩
  have HB := hide (bthen (unhide HB) hb)
  clear hb
  go_wp2_with fail
  go_ret2
  exact ⟨rfl, unhide HB⟩
set_option maxHeartbeats 4000000 in
set_option maxRecDepth 100000 in
theorem whole_f {w x h l V : Int} (W : World) (HO : Ct 28 #[.int .u64 x] (.agg #[.int .u64 h, .int .u64 l])) (HP : Ct 27 #[.int .i64 w, .bool false, .agg #[.int .u64 h, .int .u64 l], .int .i64 0, .bool false] (.int .u64 V)) :
    Calls Try.prog 46 #[.int .i64 w, .bool false, .int .u64 x] W fun r W' => r = .returned (.int .u64 V) ∧ Below W.heap.size W W' := by
  have HB := hide (Below.refl W.heap.size W)
  go_enter Try.func46, Try.ntmps46
  go_wp2_with fail
  refine (unhide HO _).mono ?_
  rintro _ w1 ⟨rfl, hb⟩
  have HB := hide (bthen (unhide HB) hb)
  clear hb
  go_wp2_with fail
  refine (unhide HP _).mono ?_
  rintro _ w2 ⟨rfl, hb⟩
  have HB := hide (bthen (unhide HB) hb)
  clear hb
  go_wp2_with fail
  go_ret
  exact ⟨rfl, unhide HB⟩
set_option maxHeartbeats 4000000 in
set_option maxRecDepth 100000 in
theorem whole_t {w x h l V : Int} {nb : Bool} (W : World) (hx : (x != 0) = nb) (HO : Ct 28 #[.int .u64 x] (.agg #[.int .u64 h, .int .u64 l])) (HP : Ct 27 #[.int .i64 w, .bool nb, .agg #[.int .u64 h, .int .u64 l], .int .i64 0, .bool false] (.int .u64 V)) :
    Calls Try.prog 46 #[.int .i64 w, .bool true, .int .u64 x] W fun r W' => r = .returned (.int .u64 V) ∧ Below W.heap.size W W' := by
  have HB := hide (Below.refl W.heap.size W)
  go_enter Try.func46, Try.ntmps46
  go_wp2_with fail
  refine (unhide HO _).mono ?_
  rintro _ w1 ⟨rfl, hb⟩
  have HB := hide (bthen (unhide HB) hb)
  clear hb
  go_wp2_with fail
  refine (unhide HP _).mono ?_
  rintro _ w2 ⟨rfl, hb⟩
  have HB := hide (bthen (unhide HB) hb)
  clear hb
  go_wp2_with fail
  go_ret
  exact ⟨rfl, unhide HB⟩
set_option maxHeartbeats 4000000 in
set_option maxRecDepth 100000 in
theorem nearest_l {w k x a V : Int} {s m : Bool} (W : World) (HN : Ct 45 #[.int .i64 k, .int .u64 x, .bool s] (.tuple #[.bool m, .int .u64 a])) (HW : Ct 46 #[.int .i64 w, .bool m, .int .u64 a] (.int .u64 V)) :
    Calls Try.prog 25 #[.int .i64 w, .int .i64 k, .int .u64 x, .bool s] W fun r W' => r = .returned (.int .u64 V) ∧ Below W.heap.size W W' := by
  have HB := hide (Below.refl W.heap.size W)
  go_enter Try.func25, Try.ntmps25
  go_wp2_with fail
  refine (unhide HN _).mono ?_
  rintro _ w1 ⟨rfl, hb⟩
  have HB := hide (bthen (unhide HB) hb)
  clear hb
  go_wp2_with fail
  refine (unhide HW _).mono ?_
  rintro _ w2 ⟨rfl, hb⟩
  have HB := hide (bthen (unhide HB) hb)
  clear hb
  go_wp2_with fail
  go_ret
  exact ⟨rfl, unhide HB⟩
set_option maxHeartbeats 4000000 in
set_option maxRecDepth 100000 in
theorem fromUint_l {w k x V : Int} (W : World) (HN : Ct 25 #[.int .i64 w, .int .i64 k, .int .u64 x, .bool false] (.int .u64 V)) :
    Calls Try.prog 10 #[.int .i64 w, .int .i64 k, .int .u64 x] W fun r W' => r = .returned (.int .u64 V) ∧ Below W.heap.size W W' := by
  have HB := hide (Below.refl W.heap.size W)
  go_enter Try.func10, Try.ntmps10
  go_wp2_with fail
  refine (unhide HN _).mono ?_
  rintro _ w1 ⟨rfl, hb⟩
  have HB := hide (bthen (unhide HB) hb)
  clear hb
  go_wp2_with fail
  go_ret
  exact ⟨rfl, unhide HB⟩
set_option maxHeartbeats 4000000 in
set_option maxRecDepth 100000 in
theorem fromInt_l {w k x V : Int} (W : World) (HN : Ct 25 #[.int .i64 w, .int .i64 k, .int .u64 x, .bool true] (.int .u64 V)) :
    Calls Try.prog 11 #[.int .i64 w, .int .i64 k, .int .u64 x] W fun r W' => r = .returned (.int .u64 V) ∧ Below W.heap.size W W' := by
  have HB := hide (Below.refl W.heap.size W)
  go_enter Try.func11, Try.ntmps11
  go_wp2_with fail
  refine (unhide HN _).mono ?_
  rintro _ w1 ⟨rfl, hb⟩
  have HB := hide (bthen (unhide HB) hb)
  clear hb
  go_wp2_with fail
  go_ret
  exact ⟨rfl, unhide HB⟩
set_option maxHeartbeats 4000000 in
set_option maxRecDepth 100000 in
theorem demote_l {x K E S V : Int} {n : Bool} (W : World) (HO : Ct 13 #[.int .i64 64, .int .u64 x] (.agg #[.bool n, .int .i64 K, .int .i64 E, .int .u64 S])) (HN : Ct 12 #[.int .i64 32, .agg #[.bool n, .int .i64 K, .int .i64 E, .int .u64 S]] (.int .u64 V)) :
    Calls Try.prog 9 #[.int .u64 x] W fun r W' => r = .returned (.int .u64 V) ∧ Below W.heap.size W W' := by
  have HB := hide (Below.refl W.heap.size W)
  go_enter Try.func9, Try.ntmps9
  go_wp2_with fail
  refine (unhide HO _).mono ?_
  rintro _ w1 ⟨rfl, hb⟩
  have HB := hide (bthen (unhide HB) hb)
  clear hb
  go_wp2_with fail
  refine (unhide HN _).mono ?_
  rintro _ w2 ⟨rfl, hb⟩
  have HB := hide (bthen (unhide HB) hb)
  clear hb
  go_wp2_with fail
  go_ret
  exact ⟨rfl, unhide HB⟩
end Go.Proofs.Ytahdcbjfabccpaa

/- CsA. -/
import Derived.Test.YtahdcbjfabccpaaDoorB01
namespace Go.Proofs.YtahdcbjfabccpaaDoor
open Go.RowKit

set_option maxHeartbeats 4000000 in
set_option maxRecDepth 100000 in
theorem split_i32_n {x y R : Int} (W : World) (g : x < 0) (h1 : IntKind.u64.wrap x = y) (h2 : IntKind.u64.wrap (-y) = R) :
    Calls Tryd.prog 38 #[.int .i32 x] W fun r W' => r = .returned (.tuple #[.bool true, .int .u64 R]) ∧ Below W.heap.size W W' := by
  have HB := hide (Below.refl W.heap.size W)
  go_enter Tryd.func38, Tryd.ntmps38
  go_wp2_with fail
  go_ret2
  exact ⟨rfl, unhide HB⟩
set_option maxHeartbeats 4000000 in
set_option maxRecDepth 100000 in
theorem split_i32_p {x R : Int} (W : World) (g : ¬ x < 0) (h1 : IntKind.u64.wrap x = R) :
    Calls Tryd.prog 38 #[.int .i32 x] W fun r W' => r = .returned (.tuple #[.bool false, .int .u64 R]) ∧ Below W.heap.size W W' := by
  have HB := hide (Below.refl W.heap.size W)
  go_enter Tryd.func38, Tryd.ntmps38
  go_wp2_with fail
  go_ret2
  exact ⟨rfl, unhide HB⟩
set_option maxHeartbeats 4000000 in
set_option maxRecDepth 100000 in
theorem split_u32_p {x R : Int} (W : World) (g : ¬ x < 0) (h1 : IntKind.u64.wrap x = R) :
    Calls Tryd.prog 39 #[.int .u32 x] W fun r W' => r = .returned (.tuple #[.bool false, .int .u64 R]) ∧ Below W.heap.size W W' := by
  have HB := hide (Below.refl W.heap.size W)
  go_enter Tryd.func39, Tryd.ntmps39
  go_wp2_with fail
  go_ret2
  exact ⟨rfl, unhide HB⟩
set_option maxHeartbeats 4000000 in
set_option maxRecDepth 100000 in
theorem split_i64_n {x y R : Int} (W : World) (g : x < 0) (h1 : IntKind.u64.wrap x = y) (h2 : IntKind.u64.wrap (-y) = R) :
    Calls Tryd.prog 40 #[.int .i64 x] W fun r W' => r = .returned (.tuple #[.bool true, .int .u64 R]) ∧ Below W.heap.size W W' := by
  have HB := hide (Below.refl W.heap.size W)
  go_enter Tryd.func40, Tryd.ntmps40
  go_wp2_with fail
  go_ret2
  exact ⟨rfl, unhide HB⟩
set_option maxHeartbeats 4000000 in
set_option maxRecDepth 100000 in
theorem split_i64_p {x R : Int} (W : World) (g : ¬ x < 0) (h1 : IntKind.u64.wrap x = R) :
    Calls Tryd.prog 40 #[.int .i64 x] W fun r W' => r = .returned (.tuple #[.bool false, .int .u64 R]) ∧ Below W.heap.size W W' := by
  have HB := hide (Below.refl W.heap.size W)
  go_enter Tryd.func40, Tryd.ntmps40
  go_wp2_with fail
  go_ret2
  exact ⟨rfl, unhide HB⟩
set_option maxHeartbeats 4000000 in
set_option maxRecDepth 100000 in
theorem split_u64_p {x : Int} (W : World) (g : ¬ x < 0) :
    Calls Tryd.prog 41 #[.int .u64 x] W fun r W' => r = .returned (.tuple #[.bool false, .int .u64 x]) ∧ Below W.heap.size W W' := by
  have HB := hide (Below.refl W.heap.size W)
  go_enter Tryd.func41, Tryd.ntmps41
  go_wp2_with fail
  go_ret2
  exact ⟨rfl, unhide HB⟩
set_option maxHeartbeats 4000000 in
set_option maxRecDepth 100000 in
theorem number_32_t {x a y : Int} {m : Bool} (W : World) (h1 : IntKind.i32.wrap x = y) (HS : Ct 38 #[.int .i32 y] (.tuple #[.bool m, .int .u64 a])) :
    Calls Tryd.prog 19 #[.int .i64 32, .int .u64 x, .bool true] W fun r W' => r = .returned (.tuple #[.bool m, .int .u64 a]) ∧ Below W.heap.size W W' := by
  have HB := hide (Below.refl W.heap.size W)
  go_enter Tryd.func19, Tryd.ntmps19
  go_wp2_with fail
  refine (unhide HS _).mono ?_
  rintro _ w1 ⟨rfl, hb⟩
  have HB := hide (bthen (unhide HB) hb)
  clear hb
  go_wp2_with fail
  go_ret2
  exact ⟨rfl, unhide HB⟩
set_option maxHeartbeats 4000000 in
set_option maxRecDepth 100000 in
theorem number_32_f {x a y : Int} {m : Bool} (W : World) (h1 : IntKind.u32.wrap x = y) (HS : Ct 39 #[.int .u32 y] (.tuple #[.bool m, .int .u64 a])) :
    Calls Tryd.prog 19 #[.int .i64 32, .int .u64 x, .bool false] W fun r W' => r = .returned (.tuple #[.bool m, .int .u64 a]) ∧ Below W.heap.size W W' := by
  have HB := hide (Below.refl W.heap.size W)
  go_enter Tryd.func19, Tryd.ntmps19
  go_wp2_with fail
  refine (unhide HS _).mono ?_
  rintro _ w1 ⟨rfl, hb⟩
  have HB := hide (bthen (unhide HB) hb)
  clear hb
  go_wp2_with fail
  go_ret2
  exact ⟨rfl, unhide HB⟩
set_option maxHeartbeats 4000000 in
set_option maxRecDepth 100000 in
theorem number_64_t {x a y : Int} {m : Bool} (W : World) (h1 : IntKind.i64.wrap x = y) (HS : Ct 40 #[.int .i64 y] (.tuple #[.bool m, .int .u64 a])) :
    Calls Tryd.prog 19 #[.int .i64 64, .int .u64 x, .bool true] W fun r W' => r = .returned (.tuple #[.bool m, .int .u64 a]) ∧ Below W.heap.size W W' := by
  have HB := hide (Below.refl W.heap.size W)
  go_enter Tryd.func19, Tryd.ntmps19
  go_wp2_with fail
  refine (unhide HS _).mono ?_
  rintro _ w1 ⟨rfl, hb⟩
  have HB := hide (bthen (unhide HB) hb)
  clear hb
  go_wp2_with fail
  go_ret2
  exact ⟨rfl, unhide HB⟩
set_option maxHeartbeats 4000000 in
set_option maxRecDepth 100000 in
theorem number_64_f {x a : Int} {m : Bool} (W : World) (HS : Ct 41 #[.int .u64 x] (.tuple #[.bool m, .int .u64 a])) :
    Calls Tryd.prog 19 #[.int .i64 64, .int .u64 x, .bool false] W fun r W' => r = .returned (.tuple #[.bool m, .int .u64 a]) ∧ Below W.heap.size W W' := by
  have HB := hide (Below.refl W.heap.size W)
  go_enter Tryd.func19, Tryd.ntmps19
  go_wp2_with fail
  refine (unhide HS _).mono ?_
  rintro _ w1 ⟨rfl, hb⟩
  have HB := hide (bthen (unhide HB) hb)
  clear hb
  go_wp2_with fail
  go_ret2
  exact ⟨rfl, unhide HB⟩
set_option maxHeartbeats 4000000 in
set_option maxRecDepth 100000 in
theorem whole_f {w x h l V : Int} (W : World) (HO : Ct 58 #[.int .u64 x] (.agg #[.int .u64 h, .int .u64 l])) (HP : Ct 57 #[.int .i64 w, .bool false, .agg #[.int .u64 h, .int .u64 l], .int .i64 0, .bool false] (.int .u64 V)) :
    Calls Tryd.prog 37 #[.int .i64 w, .bool false, .int .u64 x] W fun r W' => r = .returned (.int .u64 V) ∧ Below W.heap.size W W' := by
  have HB := hide (Below.refl W.heap.size W)
  go_enter Tryd.func37, Tryd.ntmps37
  go_wp2_with fail
  refine (unhide HO _).mono ?_
  rintro _ w1 ⟨rfl, hb⟩
  have HB := hide (bthen (unhide HB) hb)
  clear hb
  go_wp2_with fail
  refine (unhide HP _).mono ?_
  rintro _ w2 ⟨rfl, hb⟩
  have HB := hide (bthen (unhide HB) hb)
  clear hb
  go_wp2_with fail
  go_ret
  exact ⟨rfl, unhide HB⟩
set_option maxHeartbeats 4000000 in
set_option maxRecDepth 100000 in
theorem whole_t {w x h l V : Int} {nb : Bool} (W : World) (hx : (x != 0) = nb) (HO : Ct 58 #[.int .u64 x] (.agg #[.int .u64 h, .int .u64 l])) (HP : Ct 57 #[.int .i64 w, .bool nb, .agg #[.int .u64 h, .int .u64 l], .int .i64 0, .bool false] (.int .u64 V)) :
    Calls Tryd.prog 37 #[.int .i64 w, .bool true, .int .u64 x] W fun r W' => r = .returned (.int .u64 V) ∧ Below W.heap.size W W' := by
  have HB := hide (Below.refl W.heap.size W)
  go_enter Tryd.func37, Tryd.ntmps37
  go_wp2_with fail
  refine (unhide HO _).mono ?_
  rintro _ w1 ⟨rfl, hb⟩
  have HB := hide (bthen (unhide HB) hb)
  clear hb
  go_wp2_with fail
  refine (unhide HP _).mono ?_
  rintro _ w2 ⟨rfl, hb⟩
  have HB := hide (bthen (unhide HB) hb)
  clear hb
  go_wp2_with fail
  go_ret
  exact ⟨rfl, unhide HB⟩
set_option maxHeartbeats 4000000 in
set_option maxRecDepth 100000 in
theorem nearest_l {w k x a V : Int} {s m : Bool} (W : World) (HN : Ct 19 #[.int .i64 k, .int .u64 x, .bool s] (.tuple #[.bool m, .int .u64 a])) (HW : Ct 37 #[.int .i64 w, .bool m, .int .u64 a] (.int .u64 V)) :
    Calls Tryd.prog 17 #[.int .i64 w, .int .i64 k, .int .u64 x, .bool s] W fun r W' => r = .returned (.int .u64 V) ∧ Below W.heap.size W W' := by
  have HB := hide (Below.refl W.heap.size W)
  go_enter Tryd.func17, Tryd.ntmps17
  go_wp2_with fail
  refine (unhide HN _).mono ?_
  rintro _ w1 ⟨rfl, hb⟩
  have HB := hide (bthen (unhide HB) hb)
  clear hb
  go_wp2_with fail
  refine (unhide HW _).mono ?_
  rintro _ w2 ⟨rfl, hb⟩
  have HB := hide (bthen (unhide HB) hb)
  clear hb
  go_wp2_with fail
  go_ret
  exact ⟨rfl, unhide HB⟩
set_option maxHeartbeats 4000000 in
set_option maxRecDepth 100000 in
theorem fromUint_l {w k x V : Int} (W : World) (HN : Ct 17 #[.int .i64 w, .int .i64 k, .int .u64 x, .bool false] (.int .u64 V)) :
    Calls Tryd.prog 6 #[.int .i64 w, .int .i64 k, .int .u64 x] W fun r W' => r = .returned (.int .u64 V) ∧ Below W.heap.size W W' := by
  have HB := hide (Below.refl W.heap.size W)
  go_enter Tryd.func6, Tryd.ntmps6
  go_wp2_with fail
  refine (unhide HN _).mono ?_
  rintro _ w1 ⟨rfl, hb⟩
  have HB := hide (bthen (unhide HB) hb)
  clear hb
  go_wp2_with fail
  go_ret
  exact ⟨rfl, unhide HB⟩
set_option maxHeartbeats 4000000 in
set_option maxRecDepth 100000 in
theorem fromInt_l {w k x V : Int} (W : World) (HN : Ct 17 #[.int .i64 w, .int .i64 k, .int .u64 x, .bool true] (.int .u64 V)) :
    Calls Tryd.prog 7 #[.int .i64 w, .int .i64 k, .int .u64 x] W fun r W' => r = .returned (.int .u64 V) ∧ Below W.heap.size W W' := by
  have HB := hide (Below.refl W.heap.size W)
  go_enter Tryd.func7, Tryd.ntmps7
  go_wp2_with fail
  refine (unhide HN _).mono ?_
  rintro _ w1 ⟨rfl, hb⟩
  have HB := hide (bthen (unhide HB) hb)
  clear hb
  go_wp2_with fail
  go_ret
  exact ⟨rfl, unhide HB⟩
set_option maxHeartbeats 4000000 in
set_option maxRecDepth 100000 in
theorem promote_l {x K E S V : Int} {n : Bool} (W : World) (HO : Ct 30 #[.int .i64 32, .int .u64 x] (.agg #[.bool n, .int .i64 K, .int .i64 E, .int .u64 S])) (HN : Ct 29 #[.int .i64 64, .agg #[.bool n, .int .i64 K, .int .i64 E, .int .u64 S]] (.int .u64 V)) :
    Calls Tryd.prog 13 #[.int .u64 x] W fun r W' => r = .returned (.int .u64 V) ∧ Below W.heap.size W W' := by
  have HB := hide (Below.refl W.heap.size W)
  go_enter Tryd.func13, Tryd.ntmps13
  go_wp2_with fail
  refine (unhide HO _).mono ?_
  rintro _ w1 ⟨rfl, hb⟩
  have HB := hide (bthen (unhide HB) hb)
  clear hb
  go_wp2_with fail
  refine (unhide HN _).mono ?_
  rintro _ w2 ⟨rfl, hb⟩
  have HB := hide (bthen (unhide HB) hb)
  clear hb
  go_wp2_with fail
  go_ret
  exact ⟨rfl, unhide HB⟩
set_option maxHeartbeats 4000000 in
set_option maxRecDepth 100000 in
theorem demote_l {x K E S V : Int} {n : Bool} (W : World) (HO : Ct 30 #[.int .i64 64, .int .u64 x] (.agg #[.bool n, .int .i64 K, .int .i64 E, .int .u64 S])) (HN : Ct 29 #[.int .i64 32, .agg #[.bool n, .int .i64 K, .int .i64 E, .int .u64 S]] (.int .u64 V)) :
    Calls Tryd.prog 12 #[.int .u64 x] W fun r W' => r = .returned (.int .u64 V) ∧ Below W.heap.size W W' := by
  have HB := hide (Below.refl W.heap.size W)
  go_enter Tryd.func12, Tryd.ntmps12
  go_wp2_with fail
  refine (unhide HO _).mono ?_
  rintro _ w1 ⟨rfl, hb⟩
  have HB := hide (bthen (unhide HB) hb)
  clear hb
  go_wp2_with fail
  refine (unhide HN _).mono ?_
  rintro _ w2 ⟨rfl, hb⟩
  have HB := hide (bthen (unhide HB) hb)
  clear hb
  go_wp2_with fail
  go_ret
  exact ⟨rfl, unhide HB⟩
end Go.Proofs.YtahdcbjfabccpaaDoor

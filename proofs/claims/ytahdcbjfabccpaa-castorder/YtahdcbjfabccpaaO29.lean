/- LawO, Number. -/
import Derived.Test.YtahdcbjfabccpaaO28
import Derived.ProofKit
import Derived.Lib.SmallJoins
namespace Go.Proofs.Ytahdcbjfabccpaa
open Go.RowKit
open Go.Proofs.Ytahdcbjfabccpaa.W

set_option maxHeartbeats 4000000 in
set_option maxRecDepth 100000 in
theorem order_no {w x y : Int} (W : World) (HA : Ct 5 #[] (.bool true)) (g1 : (w != 32) = true) (g2 : (w != 64) = true) :
    Calls Try.prog 4 #[.int .i64 w, .int .u64 x, .int .u64 y] W fun r W' => r = .returned (.bool true) ∧ Below W.heap.size W W' := by
  have HB := hide (Below.refl W.heap.size W)
  go_enter Try.func4, Try.ntmps4
  go_wp2_with fail
  refine (unhide HA _).mono ?_
  rintro _ w1 ⟨rfl, hb⟩
  have HB := hide (bthen (unhide HB) hb)
  clear hb
  go_wp2_with fail
  go_ret
  exact ⟨rfl, unhide HB⟩
set_option maxHeartbeats 4000000 in
set_option maxRecDepth 100000 in
theorem order_32a {x y a c : Int} (W : World) (HA : Ct 5 #[] (.bool true)) (g : y < x) (H1 : Ct 10 #[.int .i64 32, .int .i64 64, .int .u64 y] (.int .u64 a)) (H2 : Ct 10 #[.int .i64 32, .int .i64 64, .int .u64 x] (.int .u64 c)) (h : a ≤ c) :
    Calls Try.prog 4 #[.int .i64 32, .int .u64 x, .int .u64 y] W fun r W' => r = .returned (.bool true) ∧ Below W.heap.size W W' := by
  have HB := hide (Below.refl W.heap.size W)
  go_enter Try.func4, Try.ntmps4
  go_wp2_with fail
  refine (unhide HA _).mono ?_
  rintro _ w1 ⟨rfl, hb⟩
  have HB := hide (bthen (unhide HB) hb)
  clear hb
  go_wp2_with fail
  refine (unhide H1 _).mono ?_
  rintro _ w2 ⟨rfl, hb⟩
  have HB := hide (bthen (unhide HB) hb)
  clear hb
  go_wp2_with fail
  refine (unhide H2 _).mono ?_
  rintro _ w3 ⟨rfl, hb⟩
  have HB := hide (bthen (unhide HB) hb)
  clear hb
  go_wp2_with fail
  go_ret
  exact ⟨by simp, unhide HB⟩
set_option maxHeartbeats 4000000 in
set_option maxRecDepth 100000 in
theorem order_32b {x y a c : Int} (W : World) (HA : Ct 5 #[] (.bool true)) (g : x < y) (H1 : Ct 10 #[.int .i64 32, .int .i64 64, .int .u64 x] (.int .u64 a)) (H2 : Ct 10 #[.int .i64 32, .int .i64 64, .int .u64 y] (.int .u64 c)) (h : a ≤ c) :
    Calls Try.prog 4 #[.int .i64 32, .int .u64 x, .int .u64 y] W fun r W' => r = .returned (.bool true) ∧ Below W.heap.size W W' := by
  have HB := hide (Below.refl W.heap.size W)
  go_enter Try.func4, Try.ntmps4
  go_wp2_with fail
  refine (unhide HA _).mono ?_
  rintro _ w1 ⟨rfl, hb⟩
  have HB := hide (bthen (unhide HB) hb)
  clear hb
  go_wp2_with fail
  refine (unhide H1 _).mono ?_
  rintro _ w2 ⟨rfl, hb⟩
  have HB := hide (bthen (unhide HB) hb)
  clear hb
  go_wp2_with fail
  refine (unhide H2 _).mono ?_
  rintro _ w3 ⟨rfl, hb⟩
  have HB := hide (bthen (unhide HB) hb)
  clear hb
  go_wp2_with fail
  go_ret
  exact ⟨by simp, unhide HB⟩
set_option maxHeartbeats 4000000 in
set_option maxRecDepth 100000 in
theorem order_32c {x y a c : Int} (W : World) (HA : Ct 5 #[] (.bool true)) (g : ¬ y < x) (g2 : ¬ x < y) (H1 : Ct 10 #[.int .i64 32, .int .i64 64, .int .u64 x] (.int .u64 a)) (H2 : Ct 10 #[.int .i64 32, .int .i64 64, .int .u64 x] (.int .u64 c)) (h : a ≤ c) :
    Calls Try.prog 4 #[.int .i64 32, .int .u64 x, .int .u64 y] W fun r W' => r = .returned (.bool true) ∧ Below W.heap.size W W' := by
  have HB := hide (Below.refl W.heap.size W)
  go_enter Try.func4, Try.ntmps4
  go_wp2_with fail
  refine (unhide HA _).mono ?_
  rintro _ w1 ⟨rfl, hb⟩
  have HB := hide (bthen (unhide HB) hb)
  clear hb
  go_wp2_with fail
  refine (unhide H1 _).mono ?_
  rintro _ w2 ⟨rfl, hb⟩
  have HB := hide (bthen (unhide HB) hb)
  clear hb
  go_wp2_with fail
  refine (unhide H2 _).mono ?_
  rintro _ w3 ⟨rfl, hb⟩
  have HB := hide (bthen (unhide HB) hb)
  clear hb
  go_wp2_with fail
  go_ret
  exact ⟨by simp, unhide HB⟩
set_option maxHeartbeats 4000000 in
set_option maxRecDepth 100000 in
theorem order_64a {x y a c : Int} (W : World) (HA : Ct 5 #[] (.bool true)) (g : y < x) (H1 : Ct 10 #[.int .i64 64, .int .i64 64, .int .u64 y] (.int .u64 a)) (H2 : Ct 10 #[.int .i64 64, .int .i64 64, .int .u64 x] (.int .u64 c)) (h : a ≤ c) :
    Calls Try.prog 4 #[.int .i64 64, .int .u64 x, .int .u64 y] W fun r W' => r = .returned (.bool true) ∧ Below W.heap.size W W' := by
  have HB := hide (Below.refl W.heap.size W)
  go_enter Try.func4, Try.ntmps4
  go_wp2_with fail
  refine (unhide HA _).mono ?_
  rintro _ w1 ⟨rfl, hb⟩
  have HB := hide (bthen (unhide HB) hb)
  clear hb
  go_wp2_with fail
  refine (unhide H1 _).mono ?_
  rintro _ w2 ⟨rfl, hb⟩
  have HB := hide (bthen (unhide HB) hb)
  clear hb
  go_wp2_with fail
  refine (unhide H2 _).mono ?_
  rintro _ w3 ⟨rfl, hb⟩
  have HB := hide (bthen (unhide HB) hb)
  clear hb
  go_wp2_with fail
  go_ret
  exact ⟨by simp, unhide HB⟩
set_option maxHeartbeats 4000000 in
set_option maxRecDepth 100000 in
theorem order_64b {x y a c : Int} (W : World) (HA : Ct 5 #[] (.bool true)) (g : x < y) (H1 : Ct 10 #[.int .i64 64, .int .i64 64, .int .u64 x] (.int .u64 a)) (H2 : Ct 10 #[.int .i64 64, .int .i64 64, .int .u64 y] (.int .u64 c)) (h : a ≤ c) :
    Calls Try.prog 4 #[.int .i64 64, .int .u64 x, .int .u64 y] W fun r W' => r = .returned (.bool true) ∧ Below W.heap.size W W' := by
  have HB := hide (Below.refl W.heap.size W)
  go_enter Try.func4, Try.ntmps4
  go_wp2_with fail
  refine (unhide HA _).mono ?_
  rintro _ w1 ⟨rfl, hb⟩
  have HB := hide (bthen (unhide HB) hb)
  clear hb
  go_wp2_with fail
  refine (unhide H1 _).mono ?_
  rintro _ w2 ⟨rfl, hb⟩
  have HB := hide (bthen (unhide HB) hb)
  clear hb
  go_wp2_with fail
  refine (unhide H2 _).mono ?_
  rintro _ w3 ⟨rfl, hb⟩
  have HB := hide (bthen (unhide HB) hb)
  clear hb
  go_wp2_with fail
  go_ret
  exact ⟨by simp, unhide HB⟩
set_option maxHeartbeats 4000000 in
set_option maxRecDepth 100000 in
theorem order_64c {x y a c : Int} (W : World) (HA : Ct 5 #[] (.bool true)) (g : ¬ y < x) (g2 : ¬ x < y) (H1 : Ct 10 #[.int .i64 64, .int .i64 64, .int .u64 x] (.int .u64 a)) (H2 : Ct 10 #[.int .i64 64, .int .i64 64, .int .u64 x] (.int .u64 c)) (h : a ≤ c) :
    Calls Try.prog 4 #[.int .i64 64, .int .u64 x, .int .u64 y] W fun r W' => r = .returned (.bool true) ∧ Below W.heap.size W W' := by
  have HB := hide (Below.refl W.heap.size W)
  go_enter Try.func4, Try.ntmps4
  go_wp2_with fail
  refine (unhide HA _).mono ?_
  rintro _ w1 ⟨rfl, hb⟩
  have HB := hide (bthen (unhide HB) hb)
  clear hb
  go_wp2_with fail
  refine (unhide H1 _).mono ?_
  rintro _ w2 ⟨rfl, hb⟩
  have HB := hide (bthen (unhide HB) hb)
  clear hb
  go_wp2_with fail
  refine (unhide H2 _).mono ?_
  rintro _ w3 ⟨rfl, hb⟩
  have HB := hide (bthen (unhide HB) hb)
  clear hb
  go_wp2_with fail
  go_ret
  exact ⟨by simp, unhide HB⟩
end Go.Proofs.Ytahdcbjfabccpaa
namespace Go.Proofs.Ytahdcbjfabccpaa
open Go.ChangeShapes Go.WideShapes Go.ChangeAt Go.RowKit Go.Joins
open Go.Proofs.Ytahdcbjfabccpaa.W

theorem Try.own : ownKnob Try.prog.godebug = none := by kernel_rfl
theorem word_of_wf {x : Int} (h : (Lit.int .u64 x).wf = true) : 0 ≤ x ∧ x < 18446744073709551616 := by
  simp [Lit.wf, IntKind.min, IntKind.max, IntKind.signed, IntKind.bits] at h
  exact ⟨by omega, by omega⟩

end Go.Proofs.Ytahdcbjfabccpaa

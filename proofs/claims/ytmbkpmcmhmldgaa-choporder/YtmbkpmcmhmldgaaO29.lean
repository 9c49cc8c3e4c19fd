/- ChW, Number. -/
import Derived.Test.YtmbkpmcmhmldgaaO01
import Derived.Test.YtmbkpmcmhmldgaaO24
import Derived.ProofKit
import Derived.Lib.SmallJoins
namespace Go.Proofs.Ytmbkpmcmhmldgaa
open Go.RowKit

set_option maxHeartbeats 4000000 in
set_option maxRecDepth 100000 in
theorem awake_l (W : World) (H1 : Ct 6 #[.int .i64 64, .int .i64 32, .int .u64 13829653735729319117, .bool false] (.tuple #[.int .u64 0, .int .i64 0])) (H2 : Ct 6 #[.int .i64 64, .int .i64 32, .int .u64 13840687554816376832, .bool false] (.tuple #[.int .u64 0, .int .i64 3])) (H3 : Ct 7 #[.int .i64 64, .int .i64 32, .int .u64 13840687554816376832, .bool false] (.int .u64 0)) (H4 : Ct 7 #[.int .i64 64, .int .i64 32, .int .u64 4617315517961601024, .bool true] (.int .u64 5)) :
    Calls Try.prog 5 #[] W fun r W' => r = .returned (.bool true) ∧ Below W.heap.size W W' := by
  have HB := hide (Below.refl W.heap.size W)
  go_enter Try.func5, Try.ntmps5
  go_wp2_with fail
  refine (unhide H1 _).mono ?_
  rintro _ w1 ⟨rfl, hb⟩
  have HB := hide (bthen (unhide HB) hb)
  clear hb
  go_wp2_with fail
  refine (unhide H2 _).mono ?_
  rintro _ w2 ⟨rfl, hb⟩
  have HB := hide (bthen (unhide HB) hb)
  clear hb
  go_wp2_with fail
  refine (unhide H3 _).mono ?_
  rintro _ w3 ⟨rfl, hb⟩
  have HB := hide (bthen (unhide HB) hb)
  clear hb
  go_wp2_with fail
  refine (unhide H4 _).mono ?_
  rintro _ w4 ⟨rfl, hb⟩
  have HB := hide (bthen (unhide HB) hb)
  clear hb
  go_wp2_with fail
  go_ret
  exact ⟨by simp, unhide HB⟩
end Go.Proofs.Ytmbkpmcmhmldgaa
namespace Go.Proofs.Ytmbkpmcmhmldgaa
open Go.ChangeShapes Go.WideShapes Go.ChangeAt Go.RowKit Go.Joins
open Go.Proofs.Ytmbkpmcmhmldgaa.W

theorem Try.own : ownKnob Try.prog.godebug = none := by kernel_rfl
theorem word_of_wf {x : Int} (h : (Lit.int .u64 x).wf = true) : 0 ≤ x ∧ x < 18446744073709551616 := by
  simp [Lit.wf, IntKind.min, IntKind.max, IntKind.signed, IntKind.bits] at h
  exact ⟨by omega, by omega⟩

end Go.Proofs.Ytmbkpmcmhmldgaa

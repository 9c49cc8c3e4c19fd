/- ScQ. -/
import Derived.Test.YtalahdkgigcpfaaDoorC28
import Derived.Test.YtalahdkgigcpfaaDoorC29
import Derived.Test.YtalahdkgigcpfaaDoorC30
namespace Go.Proofs.YtalahdkgigcpfaaDoor
open Go.RowKit

set_option maxHeartbeats 1000000 in
set_option maxRecDepth 100000 in
theorem err_any {c : Nat} {a : Option Addr} {len cap k : Nat} {xs : List Int} {e : Int} {W : World} (h : Cs c a len cap xs k e W) : Calls Tryd.prog 13 #[.pointer (some ⟨c, 0, none⟩)] W fun r W' => r = .returned (.int .i64 e) ∧ W' = W := by
  have h2 := h.1.2.2.1
  clear h
  go_enter Tryd.func13, Tryd.ntmps13
  go_wp2_with fail
  go_ret
  exact ⟨rfl, rfl⟩
set_option maxHeartbeats 1000000 in
set_option maxRecDepth 100000 in
theorem left2_any {c : Nat} {a : Option Addr} {len cap k : Nat} {xs : List Int} {e : Int} {W : World} (h : Cs c a len cap xs k e W) : Calls Tryd.prog 23 #[.pointer (some ⟨c, 0, none⟩)] W fun r W' => r = .returned (.int .i64 ((len : Int) - k)) ∧ Fr [] W W' := by
  have HL := hide (left_any h.1 h.2.2.2.2.1 h.2.2.2.2.2)
  clear h
  go_enter Tryd.func23, Tryd.ntmps23
  go_wp2_with fail
  refine (unhide HL).mono ?_
  rintro _ w1 ⟨rfl, hF⟩
  have HF := hide hF
  clear hF
  go_wp2_with fail
  go_ret
  exact ⟨rfl, unhide HF⟩
end Go.Proofs.YtalahdkgigcpfaaDoor

/- LbC. -/
import Derived.Test.YtalahdkgigcpfaaDoorC10
namespace Go.Proofs.YtalahdkgigcpfaaDoor
open Go.RowKit

set_option maxHeartbeats 1000000 in
set_option maxRecDepth 100000 in
theorem uint_w {a : Option Addr} {len cap : Nat} {k bits z n e : Int} {W : World}
    (HR : Calls Tryd.prog 89 #[.slice a len cap, .int .i64 k, .int .i64 bits, .func (.func 90) #[] #[]] W fun r W' => r = .returned (.tuple #[.int .u64 z, .int .i64 n, .int .i64 e]) ∧ Below W.heap.size W W') :
    Calls Tryd.prog 71 #[.slice a len cap, .int .i64 k, .int .i64 bits] W fun r W' => r = .returned (.tuple #[.int .u64 z, .int .i64 n, .int .i64 e]) ∧ Below W.heap.size W W' := by
  have HR := hide HR
  go_enter Tryd.func71, Tryd.ntmps71
  go_wp2_with fail
  refine (unhide HR).mono ?_
  rintro _ w1 ⟨rfl, hb1⟩
  go_wp2_with fail
  exact bodyPost_ret (v := .tuple #[.int .u64 z, .int .i64 n, .int .i64 e]) (by simp [results, Tryd.results71, go_sem]) rfl ⟨rfl, hb1⟩
set_option maxHeartbeats 1000000 in
set_option maxRecDepth 100000 in
theorem sint_w {a : Option Addr} {len cap : Nat} {k bits z n e : Int} {W : World}
    (HR : Calls Tryd.prog 89 #[.slice a len cap, .int .i64 k, .int .i64 bits, .func (.func 93) #[] #[]] W fun r W' => r = .returned (.tuple #[.int .u64 z, .int .i64 n, .int .i64 e]) ∧ Below W.heap.size W W') :
    Calls Tryd.prog 73 #[.slice a len cap, .int .i64 k, .int .i64 bits] W fun r W' => r = .returned (.tuple #[.int .u64 z, .int .i64 n, .int .i64 e]) ∧ Below W.heap.size W W' := by
  have HR := hide HR
  go_enter Tryd.func73, Tryd.ntmps73
  go_wp2_with fail
  refine (unhide HR).mono ?_
  rintro _ w1 ⟨rfl, hb1⟩
  go_wp2_with fail
  exact bodyPost_ret (v := .tuple #[.int .u64 z, .int .i64 n, .int .i64 e]) (by simp [results, Tryd.results73, go_sem]) rfl ⟨rfl, hb1⟩
end Go.Proofs.YtalahdkgigcpfaaDoor

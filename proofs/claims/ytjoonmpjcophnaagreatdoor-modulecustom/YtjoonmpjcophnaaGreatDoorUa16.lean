/- LbC. -/
import Derived.Test.YtjoonmpjcophnaaGreatDoorUa08
namespace Go.Proofs.YtjoonmpjcophnaaGreatDoor
open Go.RowKit

set_option maxHeartbeats 1000000 in
set_option maxRecDepth 100000 in
theorem uint_w {a : Option Addr} {len cap : Nat} {k bits z n e : Int} {W : World}
    (HR : Calls Tryz.prog 96 #[.slice a len cap, .int .i64 k, .int .i64 bits, .func (.func 97) #[] #[]] W fun r W' => r = .returned (.tuple #[.int .u64 z, .int .i64 n, .int .i64 e]) ∧ Below W.heap.size W W') :
    Calls Tryz.prog 67 #[.slice a len cap, .int .i64 k, .int .i64 bits] W fun r W' => r = .returned (.tuple #[.int .u64 z, .int .i64 n, .int .i64 e]) ∧ Below W.heap.size W W' := by
  have HR := hide HR
  go_enter Tryz.func67, Tryz.ntmps67
  go_wp2_with fail
  refine (unhide HR).mono ?_
  rintro _ w1 ⟨rfl, hb1⟩
  go_wp2_with fail
  exact bodyPost_ret (v := .tuple #[.int .u64 z, .int .i64 n, .int .i64 e]) (by simp [results, Tryz.results67, go_sem]) rfl ⟨rfl, hb1⟩
set_option maxHeartbeats 1000000 in
set_option maxRecDepth 100000 in
theorem sint_w {a : Option Addr} {len cap : Nat} {k bits z n e : Int} {W : World}
    (HR : Calls Tryz.prog 96 #[.slice a len cap, .int .i64 k, .int .i64 bits, .func (.func 189) #[] #[]] W fun r W' => r = .returned (.tuple #[.int .u64 z, .int .i64 n, .int .i64 e]) ∧ Below W.heap.size W W') :
    Calls Tryz.prog 186 #[.slice a len cap, .int .i64 k, .int .i64 bits] W fun r W' => r = .returned (.tuple #[.int .u64 z, .int .i64 n, .int .i64 e]) ∧ Below W.heap.size W W' := by
  have HR := hide HR
  go_enter Tryz.func186, Tryz.ntmps186
  go_wp2_with fail
  refine (unhide HR).mono ?_
  rintro _ w1 ⟨rfl, hb1⟩
  go_wp2_with fail
  exact bodyPost_ret (v := .tuple #[.int .u64 z, .int .i64 n, .int .i64 e]) (by simp [results, Tryz.results186, go_sem]) rfl ⟨rfl, hb1⟩
end Go.Proofs.YtjoonmpjcophnaaGreatDoor

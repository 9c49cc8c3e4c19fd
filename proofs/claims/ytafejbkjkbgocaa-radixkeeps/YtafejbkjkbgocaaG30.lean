/- ProdA. -/
import Derived.Test.YtafejbkjkbgocaaG08
import Derived.Test.YtafejbkjkbgocaaG26
namespace Go.Proofs.Ytafejbkjkbgocaa
open Go.RowKit
open Go.Proofs.Ytafejbkjkbgocaa.W

set_option maxRecDepth 100000 in
set_option maxHeartbeats 2000000 in
theorem scale_mid {w x N X S V E : Int} {n : Bool} (W : World) (hn : ¬ N < -4096) (hm : ¬ 4096 < N) (kx : IntKind.i64.wrap (X + N) = E) (HO : Hid (∀ W, Calls Try.prog 13 #[.int .i64 w, .int .u64 x] W fun r W' => r = .returned (.agg #[.bool n, .int .i64 1, .int .i64 X, .int .u64 S]) ∧ Below W.heap.size W W')) (HC : Hid (∀ W, Calls Try.prog 43 #[.int .i64 w, .agg #[.bool n, .int .i64 1, .int .i64 E, .int .u64 S]] W fun r W' => r = .returned (.int .u64 V) ∧ Below W.heap.size W W')) :
    Calls Try.prog 18 #[.int .i64 w, .int .u64 x, .int .i64 N] W fun r W' => r = .returned (.int .u64 V) ∧ Below W.heap.size W W' := by
  go_enter Try.func18, Try.ntmps18
  go_wp2_with fail
  refine (unhide HO _).mono ?_
  rintro _ w1 ⟨rfl, hb⟩
  have HB := hide (balloc hb (.cells #[.bool n, .int .i64 1, .int .i64 E, .int .u64 S] 30))
  clear hb
  go_wp2_with fail
  refine (unhide HC _).mono ?_
  rintro _ w2 ⟨rfl, hb⟩
  have HB := hide (bthen (unhide HB) hb)
  clear hb
  go_wp2_with fail
  go_ret
  exact ⟨rfl, unhide HB⟩
end Go.Proofs.Ytafejbkjkbgocaa

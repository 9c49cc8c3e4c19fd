/- MInS. -/
import Derived.Test.YtpbgpdmffejdgaaGreatDoorG18
namespace Go.Proofs.YtpbgpdmffejdgaaGreatDoor
set_option maxHeartbeats 4000000
set_option maxRecDepth 100000
open Go.RowKit
theorem zG {k x c j T : Int} (HC : Ct 41 #[.int .i64 k,.int .u64 x] (.int .u64 c)) (h1 : IntKind.i64.wrap (k - 1) = j) (HT : Ct 183 #[.int .i64 j] (.int .u64 T)) (g : c < T) : Ct 184 #[.int .i64 k,.int .u64 x] (.tuple #[.bool false,.int .u64 c]):=by
 refine ab (fun W => ?_)
 have HB:=rf W
 go_enter Tryz.func184,Tryz.ntmps184
 go_wp2_with fail
 refine cg0 HC HB fun w1 HB => ?_
 go_wp2_with fail
 refine cg0 HT HB fun w2 HB => ?_
 go_wp2_with fail
 go_ret2
 exact ⟨rfl,aa HB⟩
theorem af9 {x c T R : Int} (HC : Ct 41 #[.int .i64 32,.int .u64 x] (.int .u64 c)) (HT : Ct 183 #[.int .i64 31] (.int .u64 T)) (g : ¬ c < T) (h : IntKind.u64.wrap (4294967296 - c) = R) : Ct 184 #[.int .i64 32,.int .u64 x] (.tuple #[.bool true,.int .u64 R]):=by
 refine ab (fun W => ?_)
 have HB:=rf W
 go_enter Tryz.func184,Tryz.ntmps184
 go_wp2_with fail
 refine cg0 HC HB fun w1 HB => ?_
 go_wp2_with fail
 refine cg0 HT HB fun w2 HB => ?_
 go_wp2_with fail
 go_ret2
 exact ⟨rfl,aa HB⟩
theorem aga {x c T R S : Int} (HC : Ct 41 #[.int .i64 64,.int .u64 x] (.int .u64 c)) (HT : Ct 183 #[.int .i64 63] (.int .u64 T)) (g : ¬ c < T) (h : IntKind.u64.wrap (18446744073709551615 - c) = S) (h' : IntKind.u64.wrap (S + 1) = R) : Ct 184 #[.int .i64 64,.int .u64 x] (.tuple #[.bool true,.int .u64 R]):=by
 refine ab (fun W => ?_)
 have HB:=rf W
 go_enter Tryz.func184,Tryz.ntmps184
 go_wp2_with fail
 refine cg0 HC HB fun w1 HB => ?_
 go_wp2_with fail
 refine cg0 HT HB fun w2 HB => ?_
 go_wp2_with fail
 go_ret2
 exact ⟨rfl,aa HB⟩
theorem iT {w H M : Int} {n : Nat} (k : Wm w n H M) {a : Int} (ha : Rg a) : Ct 184 #[.int .i64 w,.int .u64 a] (.tuple #[.bool (decide (sgv H M a < 0)),.int .u64 ((sgv H M a).natAbs : Int)]):=by
 have HC:=bR k ha
 obtain ⟨c0,c1⟩:=k.cut a
 rcases k with ⟨rfl,rfl,rfl,rfl⟩ | ⟨rfl,rfl,rfl,rfl⟩
 ·have HT:=ab (fun W => dm 31 2147483648 W (by omega) (by omega) (by decide +kernel))
  by_cases g : a % 4294967296 < 2147483648
  ·have e : sgv 2147483648 4294967296 a = a % 4294967296:=by unfold sgv; omega
   rw [e,decide_eq_false (by omega),show ((a % 4294967296).natAbs : Int) = a % 4294967296 by omega]
   exact zG HC (by decide) HT g
  ·have e : sgv 2147483648 4294967296 a = a % 4294967296 - 4294967296:=by unfold sgv; omega
   rw [e,decide_eq_true (by omega),show ((a % 4294967296 - 4294967296).natAbs : Int) = 4294967296 - a % 4294967296 by omega]
   exact af9 HC HT g (by rw [IntKind.wrap_u64]; omega)
 ·have HT:=ab (fun W => dm 63 9223372036854775808 W (by omega) (by omega) (by decide +kernel))
  by_cases g : a % 18446744073709551616 < 9223372036854775808
  ·have e : sgv 9223372036854775808 18446744073709551616 a = a % 18446744073709551616:=by unfold sgv; omega
   rw [e,decide_eq_false (by omega),show ((a % 18446744073709551616).natAbs : Int) = a % 18446744073709551616 by omega]
   exact zG HC (by decide) HT g
  ·have e : sgv 9223372036854775808 18446744073709551616 a = a % 18446744073709551616 - 18446744073709551616:=by unfold sgv; omega
   rw [e,decide_eq_true (by omega),show ((a % 18446744073709551616 - 18446744073709551616).natAbs : Int) = 18446744073709551616 - a % 18446744073709551616 by omega]
   exact aga (S:=18446744073709551615 - a % 18446744073709551616) HC HT g (by rw [IntKind.wrap_u64]; omega) (by rw [IntKind.wrap_u64]; omega)
end Go.Proofs.YtpbgpdmffejdgaaGreatDoor

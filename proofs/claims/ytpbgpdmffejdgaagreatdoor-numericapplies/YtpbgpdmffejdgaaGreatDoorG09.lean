/- MWWide1, MWMul. -/
import Derived.Test.YtpbgpdmffejdgaaGreatDoorG01
import Derived.Test.YtpbgpdmffejdgaaGreatDoorG03
import Derived.Test.YtpbgpdmffejdgaaGreatDoorG04
import Derived.Deep.QuietTactic
import Derived.BigQuiet
namespace Go.Proofs.YtpbgpdmffejdgaaGreatDoor.W
set_option maxHeartbeats 1000000
open Go.RowKit
theorem iR (w : World) (o1 o2 : Obj) : Below w.heap.size w ((w.alloc o1).alloc o2).drew:=(aq w o1 o2).drew
theorem fG (n : Int) (w : World) (h0 : 0 ≤ n) (h1 : n < 18446744073709551616) :
 Calls Tryz.prog 161 #[.int .u64 n] w fun e w' => e = .returned (.agg #[.int .u64 (hi n.toNat),.int .u64 (lo n.toNat)]) ∧ Below w.heap.size w w':=by
 obtain ⟨e1,e2⟩:=o0 n h0 h1
 rw [e1,e2]
 exact aln n w
theorem tO (v u : Nat) (w : World) :
 Calls Tryz.prog 235 #[.agg #[.int .u64 (hi v),.int .u64 (lo v)],.agg #[.int .u64 (hi u),.int .u64 (lo u)]] w fun e w' => e = .returned (.int .i64 (aK v u)) ∧ Below w.heap.size w w':=by
 have h:=af0 (hi v) (lo v) (hi u) (lo u) w
 rw [apx]
 exact h
theorem tP (v : Nat) (w : World) (hv : W2 v) :
 Calls Tryz.prog 233 #[.agg #[.int .u64 (hi v),.int .u64 (lo v)]] w fun e w' => e = .returned (.int .i64 (Go.bitLen v : Int)) ∧ Below w.heap.size w w':=by
 have h:=af1 (hi v) (lo v) w (nD v) (zx hv) (ml v) (oZ v)
 rw [zE]
 exact h
def b7 (v : Nat) (n : Int) : Nat:=v * 2 ^ n.toNat % 340282366920938463463374607431768211456
theorem rl (v : Nat) (n : Int) : W2 (b7 v n):=Nat.mod_lt _ (by omega)
theorem iS (a b c : Nat) (ha : a < 18446744073709551616) (hb : b < 18446744073709551616) (h : a ||| b = c) : bits .or .u64 (a : Int) (b : Int) = (c : Int):=by
 rw [Go.u64_or_nat a b ha hb,h]
theorem fu (x n : Nat) : IntKind.u64.wrap ((x : Int) * 2 ^ n) = ((x * 2 ^ n % 18446744073709551616 : Nat) : Int):=by
 rw [IntKind.wrap_u64]
 simp [Int.natCast_emod,Int.natCast_mul,Int.natCast_pow]
theorem fQ (x n : Nat) : (x : Int) / 2 ^ n = ((x / 2 ^ n : Nat) : Int):=by
 simp [Int.natCast_ediv,Int.natCast_pow]
theorem fR (v : Nat) (n : Int) (w : World) (hv : W2 v) :
 Calls Tryz.prog 234 #[.agg #[.int .u64 (hi v),.int .u64 (lo v)],.int .i64 n] w fun e w' => e = .returned (.agg #[.int .u64 (hi (b7 v n)),.int .u64 (lo (b7 v n))]) ∧ Below w.heap.size w w':=by
 by_cases c1 : n ≤ 0
 ·have HE : Hid (v = b7 v n):=by
   unfold Hid b7; rw [show n.toNat = 0 by omega,Nat.pow_zero,Nat.mul_one]; exact (Nat.mod_eq_of_lt hv).symm
  go_enter Tryz.func234,Tryz.ntmps234
  go_wp2
  exact bodyPost_ret (v:=.agg #[.int .u64 (hi v),.int .u64 (lo v)]) (by simp [results,Tryz.results234,go_sem]) rfl ⟨by rw [← HE.out],aq _ _ _⟩
 by_cases c2 : n < 64
 ·have HA : Hid (bits .or .u64 (IntKind.u64.wrap (hi v * 2 ^ n.toNat)) (lo v / 2 ^ (64 - n).toNat) = hi (b7 v n)):=by
   unfold Hid hi lo b7
   rw [fu,fQ,show (64 - n).toNat = 64 - n.toNat by omega]
   exact iS _ _ _ (by omega) (Nat.lt_of_le_of_lt (Nat.div_le_self _ _) (by omega)) (tR v n.toNat (by omega))
  have HB : Hid (IntKind.u64.wrap (lo v * 2 ^ n.toNat) = lo (b7 v n)):=by
   unfold Hid lo b7
   rw [fu,tQ]
  go_enter Tryz.func234,Tryz.ntmps234
  go_wp2
  go_region
  go_wp2
  exact bodyPost_ret (v:=.agg #[.int .u64 (bits .or .u64 (IntKind.u64.wrap (hi v * 2 ^ n.toNat)) (lo v / 2 ^ (64 - n).toNat)),.int .u64 (IntKind.u64.wrap (lo v * 2 ^ n.toNat))]) (by simp [results,Tryz.results234,go_sem]) rfl ⟨by rw [HA.out,HB.out],iR _ _ _⟩
 by_cases c3 : n < 128
 ·have HA : Hid (IntKind.u64.wrap (lo v * 2 ^ (n - 64).toNat) = hi (b7 v n)):=by
   unfold Hid hi lo b7
   rw [fu,vi,show 64 + (n - 64).toNat = n.toNat by omega]
  have HB : Hid (0 = lo (b7 v n)):=by
   unfold Hid lo b7
   rw [show n.toNat = 64 + (n - 64).toNat by omega,vj]
   rfl
  go_enter Tryz.func234,Tryz.ntmps234
  go_wp2
  exact bodyPost_ret (v:=.agg #[.int .u64 (IntKind.u64.wrap (lo v * 2 ^ (n - 64).toNat)),.int .u64 0]) (by simp [results,Tryz.results234,go_sem]) rfl ⟨by rw [HA.out,HB.out],aq _ _ _⟩
 ·have HE : Hid (b7 v n = 0):=by
   unfold Hid b7; rw [show n.toNat = 128 + (n - 128).toNat by omega,zA]
  go_enter Tryz.func234,Tryz.ntmps234
  go_wp2
  exact bodyPost_ret (v:=.agg #[.int .u64 0,.int .u64 0]) (by simp [results,Tryz.results234,go_sem]) rfl ⟨by rw [HE.out]; rfl,aq _ _ _⟩
theorem vX (x y : Int) (w : World) (hx0 : 0 ≤ x) (hx : x < 18446744073709551616) (hy0 : 0 ≤ y) (hy : y < 18446744073709551616) :
 Calls Tryz.prog 264 #[.int .u64 x,.int .u64 y] w fun e w' => e = .returned (.tuple #[.int .u64 (x * y / 18446744073709551616),.int .u64 (x * y % 18446744073709551616)]) ∧ w' = w:=by
 go_enter Tryz.func264,Tryz.ntmps264
 go_wp2
 go_ret2
 refine ⟨ata ?_ ?_,rfl⟩
 ·simp only [IntKind.wrap_u64,Go.and_low32 x hx0 hx,Go.and_low32 y hy0 hy]
  rw [Go.and_low32 _ (by omega) (by omega)]
  exact Go.mul64_arith x y hx0 hx hy0 hy
 ·exact IntKind.wrap_u64 _
theorem ag6 (a b : Int) (w : World) (ha0 : 0 ≤ a) (ha : a < 18446744073709551616) (hb0 : 0 ≤ b) (hb : b < 18446744073709551616) :
 Calls Tryz.prog 236 #[.int .u64 a,.int .u64 b] w fun e w' => e = .returned (.agg #[.int .u64 (a * b / 18446744073709551616),.int .u64 (a * b % 18446744073709551616)]) ∧ Below w.heap.size w w':=by
 go_enter Tryz.func236,Tryz.ntmps236
 go_wp2_with (go_at_call 264; refine (vX _ _ _ ha0 ha hb0 hb).mono ?_; rintro e w' ⟨rfl,rfl⟩)
 exact bodyPost_ret (v:=.agg #[.int .u64 (a * b / 18446744073709551616),.int .u64 (a * b % 18446744073709551616)]) (by simp [results,Tryz.results236,go_sem]) rfl ⟨rfl,(Below.refl _ _).alloc (Nat.le_refl _) _⟩
theorem aj0 (a b : Int) (w : World) (ha0 : 0 ≤ a) (ha : a < 18446744073709551616) (hb0 : 0 ≤ b) (hb : b < 18446744073709551616) :
 Calls Tryz.prog 236 #[.int .u64 a,.int .u64 b] w fun e w' => e = .returned (.agg #[.int .u64 (hi (a.toNat * b.toNat)),.int .u64 (lo (a.toNat * b.toNat))]) ∧ Below w.heap.size w w':=by
 obtain ⟨x,rfl⟩:=Int.eq_ofNat_of_zero_le ha0
 obtain ⟨y,rfl⟩:=Int.eq_ofNat_of_zero_le hb0
 have h:=ag6 x y w ha0 ha hb0 hb
 have e1 : hi ((x : Int).toNat * (y : Int).toNat) = (x : Int) * y / 18446744073709551616:=by unfold hi; rw [Int.toNat_natCast,Int.toNat_natCast,← Int.natCast_mul]; omega
 have e2 : lo ((x : Int).toNat * (y : Int).toNat) = (x : Int) * y % 18446744073709551616:=by unfold lo; rw [Int.toNat_natCast,Int.toNat_natCast,← Int.natCast_mul]; omega
 rw [e1,e2]
 exact h
end Go.Proofs.YtpbgpdmffejdgaaGreatDoor.W

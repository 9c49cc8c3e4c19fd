/- MInK, MRefS. -/
import Derived.Test.YtpbgpdmffejdgaaGreatDoorG01
import Derived.Test.YtpbgpdmffejdgaaGreatDoorG06
import Derived.Test.YtpbgpdmffejdgaaGreatDoorG07
import Derived.Test.YtpbgpdmffejdgaaGreatDoorG08
import Derived.Test.YtpbgpdmffejdgaaGreatDoorG13
import Derived.Test.YtpbgpdmffejdgaaGreatDoorG14
import Derived.Test.YtpbgpdmffejdgaaGreatDoorG16
import Derived.Laws.Bits128
import Derived.Laws.BitsAllLaws
import Derived.Laws.Bits64b
namespace Go.Proofs.YtpbgpdmffejdgaaGreatDoor
set_option maxHeartbeats 1000000
open Go.RowKit
def Wm (w : Int) (n : Nat) (H M : Int) : Prop:=(w = 32 ∧ n = 32 ∧ H = 2147483648 ∧ M = 4294967296) ∨ (w = 64 ∧ n = 64 ∧ H = 9223372036854775808 ∧ M = 18446744073709551616)
def No (w : Int) : Prop:=¬ w = 32 ∧ ¬ w = 64
theorem Wm.kd {w H M : Int} {n : Nat} (k : Wm w n H M) : ∃ e f P Q b,Kd w e f P Q b ∧ P * Q = H:=by
 rcases k with ⟨rfl,-,rfl,-⟩ | ⟨rfl,-,rfl,-⟩
 ·exact ⟨_,_,_,_,_,Or.inl ⟨rfl,rfl,rfl,rfl,rfl,rfl⟩,rfl⟩
 ·exact ⟨_,_,_,_,_,Or.inr ⟨rfl,rfl,rfl,rfl,rfl,rfl⟩,rfl⟩
theorem Wm.two {w H M : Int} {n : Nat} (k : Wm w n H M) : M = 2 * H ∧ M = ((2 ^ n : Nat) : Int) ∧ w = (n : Int) ∧ 32 ≤ n ∧ n ≤ 64 ∧ 0 < M ∧ M ≤ 18446744073709551616:=by
 rcases k with ⟨rfl,rfl,rfl,rfl⟩ | ⟨rfl,rfl,rfl,rfl⟩ <;> decide +kernel
theorem No.wd {w : Int} (h : No w) : Wd w 0 0 1 1 (-1):=Or.inr (Or.inr ⟨h,rfl,rfl,rfl,rfl,rfl⟩)
theorem Wm.cut {w H M : Int} {n : Nat} (k : Wm w n H M) (a : Int) : 0 ≤ a % M ∧ a % M < M:=⟨Int.emod_nonneg _ (by have:=k.two; omega),Int.emod_lt_of_pos _ k.two.2.2.2.2.2.1⟩
def Rg (a : Int) : Prop:=0 ≤ a ∧ a < 18446744073709551616
theorem Wm.rg {w H M : Int} {n : Nat} (k : Wm w n H M) (a : Int) : Rg (a % M):=⟨(k.cut a).1,Int.lt_of_lt_of_le (k.cut a).2 k.two.2.2.2.2.2.2⟩
theorem ak1 {w H M : Int} {n A : Nat} (k : Wm w n H M) (h : A < 2 ^ n) : Rg (A : Int):=by
 have:=k.two
 unfold Rg
 omega
theorem bG {w H M : Int} {n : Nat} (k : Wm w n H M) {a : Int} (ha : Rg a) : Ct 17 #[.int .i64 w,.int .u64 a] (.int .u64 (a % M)):=by
 obtain ⟨e,f,P,Q,b,kd,hH⟩:=k.kd
 have h:=fun W => cw a kd.wd W ha.1 ha.2
 rw [show aU f P Q a = a % M by unfold aU; rw [if_neg kd.f0,hH,k.two.1]] at h
 exact ab h
theorem bR {w H M : Int} {n : Nat} (k : Wm w n H M) {a : Int} (ha : Rg a) : Ct 41 #[.int .i64 w,.int .u64 a] (.int .u64 (a % M)):=by
 obtain ⟨e,f,P,Q,b,kd,hH⟩:=k.kd
 have h:=fun W => bw a kd W ha.1 ha.2
 rw [show aU f P Q a = a % M by unfold aU; rw [if_neg kd.f0,hH,k.two.1]] at h
 exact ab h
theorem ee {f : Nat} {ar : Array Value} {v v' : Int} (h : Ct f ar (.int .u64 v)) (e : v = v') : Ct f ar (.int .u64 v'):=e ▸ h
theorem ys {w H M : Int} {n : Nat} (k : Wm w n H M) (a b : Int) : Ct 146 #[.int .i64 w,.int .u64 a,.int .u64 b] (.int .u64 ((a + b) % M)):=by
 rcases k with ⟨rfl,rfl,rfl,rfl⟩ | ⟨rfl,rfl,rfl,rfl⟩
 ·exact ee (yM (aez (IntKind.wrap_u32 a) (IntKind.wrap_u32 b) aej)) (by omega)
 ·exact ee (yM (ae0 aek)) (IntKind.wrap_u64 _)
theorem yt {w H M : Int} {n : Nat} (k : Wm w n H M) (a b : Int) : Ct 147 #[.int .i64 w,.int .u64 a,.int .u64 b] (.int .u64 ((a - b) % M)):=by
 rcases k with ⟨rfl,rfl,rfl,rfl⟩ | ⟨rfl,rfl,rfl,rfl⟩
 ·exact ee (yN (ae2 (IntKind.wrap_u32 a) (IntKind.wrap_u32 b) ael)) (by omega)
 ·exact ee (yN (ae3 aem)) (IntKind.wrap_u64 _)
theorem yu {w H M : Int} {n : Nat} (k : Wm w n H M) (a b : Int) : Ct 148 #[.int .i64 w,.int .u64 a,.int .u64 b] (.int .u64 ((a * b) % M)):=by
 rcases k with ⟨rfl,rfl,rfl,rfl⟩ | ⟨rfl,rfl,rfl,rfl⟩
 ·exact ee (yO (ae5 (IntKind.wrap_u32 a) (IntKind.wrap_u32 b) aen)) ((Int.mul_emod a b _).symm)
 ·exact ee (yO (ae6 aeo)) (IntKind.wrap_u64 _)
theorem ir {w H M : Int} {n : Nat} (k : Wm w n H M) {b : Int} (hb : Rg b) : Ct 213 #[.int .i64 w,.int .u64 b] (.int .u64 (b % w)):=by
 rcases k with ⟨rfl,rfl,rfl,rfl⟩ | ⟨rfl,rfl,rfl,rfl⟩
 ·exact la (j:=31) (k:=31) (by decide) (by decide) (bV 5 b 31 hb.1 hb.2 (by decide) (by omega))
 ·exact la (j:=63) (k:=63) (by decide) (by decide) (bV 6 b 63 hb.1 hb.2 (by decide) (by omega))
theorem aef (a X M : Int) : a * X % M = a % M * X % M:=by rw [Int.mul_emod a X,Int.mul_emod (a % M) X,Int.emod_emod]
theorem fE (s : Nat) : (2 : Int) ^ s = ((2 ^ s : Nat) : Int):=by rw [Int.natCast_pow]; rfl
theorem nl {w H M : Int} {n : Nat} (k : Wm w n H M) {A s : Nat} {a b : Int} (ha : a % M = (A : Int)) (hs : b % w = (s : Int)) (hb : Rg b) : Ct 138 #[.int .i64 w,.int .u64 a,.int .u64 b] (.int .u64 (ik A n s : Nat)):=by
 have S:=ir k hb
 rw [hs] at S
 rcases k with ⟨rfl,rfl,rfl,rfl⟩ | ⟨rfl,rfl,rfl,rfl⟩
 ·refine ee (yQ S (ae8 (IntKind.wrap_u32 a) (b:=(s : Int)) (B:=(s : Int)) (by rw [IntKind.wrap_u32]; omega) (aep (by omega) (by omega)))) ?_
  rw [ha,Int.toNat_natCast,fE,← Int.natCast_mul]
  rfl
 ·refine ee (yQ S (ae9 (b:=(s : Int)) (aeq (by omega) (by omega)))) ?_
  rw [IntKind.wrap_u64,Int.toNat_natCast,aef,ha,fE,← Int.natCast_mul]
  rfl
theorem nm {w H M : Int} {n : Nat} (k : Wm w n H M) {A s : Nat} {a b : Int} (ha : a % M = (A : Int)) (hs : b % w = (s : Int)) (hb : Rg b) (hr : Rg a) : Ct 140 #[.int .i64 w,.int .u64 a,.int .u64 b] (.int .u64 (lc A s : Nat)):=by
 have S:=ir k hb
 rw [hs] at S
 rcases k with ⟨rfl,rfl,rfl,rfl⟩ | ⟨rfl,rfl,rfl,rfl⟩
 ·refine ee (yR S (afb (IntKind.wrap_u32 a) (b:=(s : Int)) (B:=(s : Int)) (by rw [IntKind.wrap_u32]; omega) (aer (by omega) (by omega)))) ?_
  rw [ha,Int.toNat_natCast,fE,← Int.natCast_ediv,IntKind.wrap_u64]
  have:=Nat.div_le_self A (2 ^ s)
  unfold lc
  generalize A / 2 ^ s = u at *
  omega
 ·refine ee (yR S (afc (b:=(s : Int)) (aes (by omega) (by omega)))) ?_
  rw [show a = (A : Int) by unfold Rg at hr; omega,Int.toNat_natCast,fE,← Int.natCast_ediv]
  rfl
def sgv (H M a : Int) : Int:=(a + H) % M - H
theorem api {w H M : Int} {n : Nat} (k : Wm w n H M) {a : Int} {A : Nat} (ha : a % M = (A : Int)) : sgv H M a = if A < 2 ^ (n - 1) then (A : Int) else (A : Int) - M:=by
 unfold sgv
 rcases k with ⟨rfl,rfl,rfl,rfl⟩ | ⟨rfl,rfl,rfl,rfl⟩ <;> split <;> omega
theorem yv {A p : Int} (M : Int) (q : Int) (hM : M = p * q) (hp : 0 < p) : (A - M) / p = A / p - q:=by
 rw [hM,Int.sub_eq_add_neg,show -(p * q) = p * -q by rw [Int.mul_neg],Int.add_mul_ediv_left _ _ (by omega)]
 omega
theorem aeg {w H M : Int} {n : Nat} (k : Wm w n H M) {a : Int} {A s : Nat} (ha : a % M = (A : Int)) (hs : s < n) : (sgv H M a / ((2 ^ s : Nat) : Int)) % M = (ld A n s : Nat):=by
 obtain ⟨-,k2,-⟩:=k.two
 have hA : A < 2 ^ n:=by have:=(k.cut a).2; omega
 rw [api k ha]
 unfold ld
 have hd : A / 2 ^ s ≤ A:=Nat.div_le_self _ _
 split
 ·rw [← Int.natCast_ediv,k2,← Int.natCast_emod,Nat.mod_eq_of_lt (by omega)]
 ·have e : (2 : Nat) ^ n = 2 ^ s * 2 ^ (n - s):=by rw [← Nat.pow_add]; congr 1; omega
  have h1 : A / 2 ^ s < 2 ^ (n - s):=Nat.div_lt_of_lt_mul (by rw [← e]; exact hA)
  have h2 : 2 ^ (n - s) ≤ 2 ^ n:=Nat.pow_le_pow_right (by omega) (by omega)
  rw [yv M ((2 ^ (n - s) : Nat) : Int) (by rw [k2,e,Int.natCast_mul]) (by have:=Nat.two_pow_pos s; omega),← Int.natCast_ediv,k2]
  generalize A / 2 ^ s = u at *
  generalize 2 ^ (n - s) = v at *
  generalize 2 ^ n = m at *
  rw [← Int.add_emod_right]
  rw [show (u : Int) - (v : Int) + (m : Int) = ((u + (m - v) : Nat) : Int) by omega,← Int.natCast_emod,Nat.mod_eq_of_lt (by omega)]
theorem tJ {w H M : Int} {n : Nat} (k : Wm w n H M) {A s : Nat} {a b : Int} (ha : a % M = (A : Int)) (hs : b % w = (s : Int)) (hb : Rg b) : Ct 139 #[.int .i64 w,.int .u64 a,.int .u64 b] (.int .u64 (ld A n s : Nat)):=by
 have S:=ir k hb
 rw [hs] at S
 have hsn : s < n:=by
  have:=k.two
  have:=Int.emod_lt_of_pos b (show 0 < w by omega)
  omega
 have v:=aeg k ha hsn
 have k':=k
 rcases k with ⟨rfl,rfl,rfl,rfl⟩ | ⟨rfl,rfl,rfl,rfl⟩
 ·refine ee (yS S (afe (IntKind.wrap_i32 a) (b:=(s : Int)) (B:=(s : Int)) (by rw [IntKind.wrap_i32]; omega) (aet (by omega) (by omega))) (bG k' ⟨?_,?_⟩)) ?_
  ·rw [IntKind.wrap_u64]; omega
  ·rw [IntKind.wrap_u64]; omega
  ·rw [Int.toNat_natCast,fE,IntKind.wrap_u64,Int.emod_emod_of_dvd _ (by decide)]
   exact v
 ·refine ee (yS S (aff (IntKind.wrap_i64 a) (b:=(s : Int)) (B:=(s : Int)) (by rw [IntKind.wrap_i64]; omega) (aeu (by omega) (by omega))) (bG k' ⟨?_,?_⟩)) ?_
  ·rw [IntKind.wrap_u64]; omega
  ·rw [IntKind.wrap_u64]; omega
  ·rw [Int.toNat_natCast,fE,IntKind.wrap_u64,Int.emod_emod_of_dvd _ (by decide)]
   exact v
theorem oR {w H M : Int} {n : Nat} (k : Wm w n H M) {b : Int} {s : Nat} (hs : b % w = (s : Int)) : IntKind.u64.wrap (-b) % w = (((n - s) % n : Nat) : Int) ∧ Rg (IntKind.u64.wrap (-b)):=by
 rw [IntKind.wrap_u64]
 unfold Rg
 rcases k with ⟨rfl,rfl,rfl,rfl⟩ | ⟨rfl,rfl,rfl,rfl⟩ <;> omega
theorem oS {w H M : Int} {n : Nat} (k : Wm w n H M) {A s : Nat} {a b : Int} (ha : a % M = (A : Int)) (hs : b % w = (s : Int)) (hb : Rg b) (hr : Rg a) : Ct 141 #[.int .i64 w,.int .u64 a,.int .u64 b] (.int .u64 (le A n s : Nat)):=by
 obtain ⟨-,k2,-,-,k5,-⟩:=k.two
 have hA : A < 2 ^ n:=by have:=(k.cut a).2; omega
 have h64 : (2 : Nat) ^ n ≤ 18446744073709551616:=Nat.pow_le_pow_right (show 0 < 2 by omega) k5
 obtain ⟨n1,n2⟩:=oR k hs
 refine yT (nl k ha hs hb) rfl (nm k ha n1 n2 hr) ?_
 have q1:=iu A n s
 have q2:=jt ((n - s) % n) hA
 exact Go.u64_or_nat _ _ (by omega) (by omega)
theorem yw {w H M : Int} {n : Nat} (k : Wm w n H M) {A s : Nat} {a b : Int} (ha : a % M = (A : Int)) (hs : b % w = (s : Int)) (hr : Rg a) : Ct 142 #[.int .i64 w,.int .u64 a,.int .u64 b] (.int .u64 (le A n ((n - s) % n) : Nat)):=by
 obtain ⟨n1,n2⟩:=oR k hs
 exact yU rfl (oS k ha n1 n2 hr)
theorem fF {a b c : Nat} (h : a + b = c) (hc : c < 18446744073709551616) : IntKind.u64.wrap ((a : Int) + (b : Int)) = (c : Int):=by rw [IntKind.wrap_u64]; omega
theorem d2 {y q : Nat} (h : y / 2 = q) : (y : Int) / 2 = q:=by omega
theorem d4 {y q : Nat} (h : y / 4 = q) : (y : Int) / 4 = q:=by omega
theorem d16 {y q : Nat} (h : y / 16 = q) : (y : Int) / 16 = q:=by omega
theorem as5 {y q : Nat} (h : y / 256 = q) : (y : Int) / 256 = q:=by omega
theorem ak4 {y q : Nat} (h : y / 65536 = q) : (y : Int) / 65536 = q:=by omega
theorem d32 {y q : Nat} (h : y / 4294967296 = q) : (y : Int) / 4294967296 = q:=by omega
theorem as6 {y q : Nat} (h : y % 128 = q) : (((y : Int) + 9223372036854775808) % 18446744073709551616 - 9223372036854775808) % 128 = (q : Int):=by omega
theorem oT {x : Nat} (hx : x < 18446744073709551616) : Ct 224 #[.int .u64 (x : Int)] (.int .i64 (pop 64 x : Nat)):=by
 obtain ⟨y1,y2,y3,y4,y5,y6,p0,p1,p2,p3,p4,p5,p6,p7,h0,h1,h2,h3,h4,h5,h6,h7,f6,f5,f4,f3,f2,f1,f0,ep⟩:=afs x
 obtain ⟨s1,s2,s3,s4,s5,s6,s7⟩:=vb h0 h1 h2 h3 h4 h5 h6 h7 f6 f5 f4 f3 f2 f1 rfl
 rw [← f0] at s1 s2 s3 s4 s5 s6 s7
 clear h0 h1 h2 h3 h4 h5 h6 h7 f6 f5 f4 f3 f2 f1
 have w1 : F1 8 x < 18446744073709551616:=by
  unfold F1
  rw [y8]
  have q1:=Nat.and_le_right (n:=x / 2) (m:=6148914691236517205)
  have q2:=Nat.and_le_right (n:=x) (m:=6148914691236517205)
  omega
 have e1 : F1 8 x = (x / 2 &&& 6148914691236517205) + (x &&& 6148914691236517205):=by unfold F1; rw [y8]
 have w2 : F2 8 (F1 8 x) ≤ 7378697629483820646:=by
  unfold F2
  rw [y9]
  have q1:=Nat.and_le_right (n:=F1 8 x / 4) (m:=3689348814741910323)
  have q2:=Nat.and_le_right (n:=F1 8 x) (m:=3689348814741910323)
  omega
 have e2 : F2 8 (F1 8 x) = (F1 8 x / 4 &&& 3689348814741910323) + (F1 8 x &&& 3689348814741910323):=by unfold F2; rw [y9]
 have e3 : F3 8 (F2 8 (F1 8 x)) = (F2 8 (F1 8 x) / 16 + F2 8 (F1 8 x)) &&& 1085102592571150095:=by unfold F3; rw [ak8]
 generalize F3 8 (F2 8 (F1 8 x)) = y at *
 generalize F2 8 (F1 8 x) = z at *
 generalize F1 8 x = t at *
 have b1:=Go.bits_and_u64_nat (x / 2) 6148914691236517205 (by omega) (by omega)
 have b2:=Go.bits_and_u64_nat x 6148914691236517205 (by omega) (by omega)
 have b3:=Go.bits_and_u64_nat (t / 4) 3689348814741910323 (by omega) (by omega)
 have b4:=Go.bits_and_u64_nat t 3689348814741910323 (by omega) (by omega)
 have b5:=Go.bits_and_u64_nat (z / 16 + z) 1085102592571150095 (by omega) (by omega)
 rw [← e3] at b5
 generalize (x / 2 &&& 6148914691236517205) = c1 at *
 generalize (x &&& 6148914691236517205) = c2 at *
 generalize (t / 4 &&& 3689348814741910323) = c3 at *
 generalize (t &&& 3689348814741910323) = c4 at *
 clear e3
 refine ak5 (d2 rfl) b1 b2 (fF e1.symm w1) (d4 rfl) b3 b4 (fF e2.symm (by omega)) (d16 rfl) (fF rfl (by omega)) b5 (as5 s1) (fF rfl s2) (ak4 s3) (fF rfl s4) (d32 s5) (fF rfl s6) rfl ?_
 rw [ep,Go.i64_and127,IntKind.wrap_i64]
 exact as6 s7
theorem apj {n A : Nat} (hA : A < 2 ^ n) (hn : n ≤ 64) : pop 64 A = pop n A:=by
 rw [show 64 = n + (64 - n) by omega,kD,Nat.div_eq_of_lt hA]
 have : ∀ m,pop m 0 = 0:=fun m => (lg m 0).2 (Nat.zero_mod _)
 rw [this,Nat.add_zero]
theorem aei {w H M : Int} {n : Nat} (k : Wm w n H M) {A : Nat} {a : Int} (ha : a % M = (A : Int)) (hr : Rg a) : Ct 145 #[.int .i64 w,.int .u64 a] (.int .u64 (pop n A : Nat)):=by
 obtain ⟨-,k2,-,-,k5,-,k7⟩:=k.two
 have hA : A < 2 ^ n:=by have:=(k.cut a).2; omega
 have hc:=bG k hr
 rw [ha] at hc
 have ho:=oT (x:=A) (by omega)
 rw [apj hA k5] at ho
 have hp:=eX n A
 exact ajj hc ho (by rw [IntKind.wrap_u64]; omega)
set_option maxRecDepth 100000
set_option maxHeartbeats 2000000
theorem pv {w K1 X1 S1 K2 X2 S2 V : Int} {n1 n2 : Bool} (W : World) (a3 : (K1 == 3) = true) (HC : Ct 177 #[.int .i64 w] (.int .u64 V)) :
 Calls Tryz.prog 201 #[.int .i64 w,.agg #[.bool n1,.int .i64 K1,.int .i64 X1,.int .u64 S1],.agg #[.bool n2,.int .i64 K2,.int .i64 X2,.int .u64 S2]] W fun r W' => r = .returned (.int .u64 V) ∧ Below W.heap.size W W':=by
 go_enter Tryz.func201,Tryz.ntmps201
 go_wp2_with fail
 have HB:=ab (aq W (.cells #[.bool n1,.int .i64 K1,.int .i64 X1,.int .u64 S1] 105) (.cells #[.bool n2,.int .i64 K2,.int .i64 X2,.int .u64 S2] 105))
 refine cg0 HC HB fun w1 HB => ?_
 go_wp2_with fail
 go_ret
 exact ⟨rfl,aa HB⟩
theorem pz {w K1 X1 S1 K2 X2 S2 V : Int} {n1 n2 : Bool} (W : World) (a3 : (K1 == 3) = false) (b3 : (K2 == 3) = true) (HC : Ct 177 #[.int .i64 w] (.int .u64 V)) :
 Calls Tryz.prog 201 #[.int .i64 w,.agg #[.bool n1,.int .i64 K1,.int .i64 X1,.int .u64 S1],.agg #[.bool n2,.int .i64 K2,.int .i64 X2,.int .u64 S2]] W fun r W' => r = .returned (.int .u64 V) ∧ Below W.heap.size W W':=by
 go_enter Tryz.func201,Tryz.ntmps201
 go_wp2_with fail
 have HB:=ab (aq W (.cells #[.bool n1,.int .i64 K1,.int .i64 X1,.int .u64 S1] 105) (.cells #[.bool n2,.int .i64 K2,.int .i64 X2,.int .u64 S2] 105))
 refine cg0 HC HB fun w1 HB => ?_
 go_wp2_with fail
 go_ret
 exact ⟨rfl,aa HB⟩
theorem pA {w K1 X1 S1 K2 X2 S2 V : Int} {n1 n2 : Bool} (W : World) (a3 : (K1 == 3) = false) (b3 : (K2 == 3) = false) (a2 : (K1 == 2) = true) (b2 : (K2 == 2) = true) (hn : (n1 == n2) = false) (HC : Ct 177 #[.int .i64 w] (.int .u64 V)) :
 Calls Tryz.prog 201 #[.int .i64 w,.agg #[.bool n1,.int .i64 K1,.int .i64 X1,.int .u64 S1],.agg #[.bool n2,.int .i64 K2,.int .i64 X2,.int .u64 S2]] W fun r W' => r = .returned (.int .u64 V) ∧ Below W.heap.size W W':=by
 go_enter Tryz.func201,Tryz.ntmps201
 go_wp2_with fail
 have HB:=ab (aq W (.cells #[.bool n1,.int .i64 K1,.int .i64 X1,.int .u64 S1] 105) (.cells #[.bool n2,.int .i64 K2,.int .i64 X2,.int .u64 S2] 105))
 refine cg0 HC HB fun w1 HB => ?_
 go_wp2_with fail
 go_ret
 exact ⟨rfl,aa HB⟩
theorem pB {w K1 X1 S1 K2 X2 S2 V : Int} {n1 n2 : Bool} (W : World) (a3 : (K1 == 3) = false) (b3 : (K2 == 3) = false) (a2 : (K1 == 2) = true) (b2 : (K2 == 2) = true) (hn : (n1 == n2) = true) (HC : Ct 176 #[.int .i64 w,.bool n1] (.int .u64 V)) :
 Calls Tryz.prog 201 #[.int .i64 w,.agg #[.bool n1,.int .i64 K1,.int .i64 X1,.int .u64 S1],.agg #[.bool n2,.int .i64 K2,.int .i64 X2,.int .u64 S2]] W fun r W' => r = .returned (.int .u64 V) ∧ Below W.heap.size W W':=by
 go_enter Tryz.func201,Tryz.ntmps201
 go_wp2_with fail
 have HB:=ab (aq W (.cells #[.bool n1,.int .i64 K1,.int .i64 X1,.int .u64 S1] 105) (.cells #[.bool n2,.int .i64 K2,.int .i64 X2,.int .u64 S2] 105))
 refine cg0 HC HB fun w1 HB => ?_
 go_wp2_with fail
 go_ret
 exact ⟨rfl,aa HB⟩
theorem pC {w K1 X1 S1 K2 X2 S2 V : Int} {n1 n2 : Bool} (W : World) (a3 : (K1 == 3) = false) (b3 : (K2 == 3) = false) (a2 : (K1 == 2) = true) (b2 : (K2 == 2) = false) (HC : Ct 176 #[.int .i64 w,.bool n1] (.int .u64 V)) :
 Calls Tryz.prog 201 #[.int .i64 w,.agg #[.bool n1,.int .i64 K1,.int .i64 X1,.int .u64 S1],.agg #[.bool n2,.int .i64 K2,.int .i64 X2,.int .u64 S2]] W fun r W' => r = .returned (.int .u64 V) ∧ Below W.heap.size W W':=by
 go_enter Tryz.func201,Tryz.ntmps201
 go_wp2_with fail
 have HB:=ab (aq W (.cells #[.bool n1,.int .i64 K1,.int .i64 X1,.int .u64 S1] 105) (.cells #[.bool n2,.int .i64 K2,.int .i64 X2,.int .u64 S2] 105))
 refine cg0 HC HB fun w1 HB => ?_
 go_wp2_with fail
 go_ret
 exact ⟨rfl,aa HB⟩
theorem pD {w K1 X1 S1 K2 X2 S2 V : Int} {n1 n2 : Bool} (W : World) (a3 : (K1 == 3) = false) (b3 : (K2 == 3) = false) (a2 : (K1 == 2) = false) (b2 : (K2 == 2) = true) (HC : Ct 176 #[.int .i64 w,.bool n2] (.int .u64 V)) :
 Calls Tryz.prog 201 #[.int .i64 w,.agg #[.bool n1,.int .i64 K1,.int .i64 X1,.int .u64 S1],.agg #[.bool n2,.int .i64 K2,.int .i64 X2,.int .u64 S2]] W fun r W' => r = .returned (.int .u64 V) ∧ Below W.heap.size W W':=by
 go_enter Tryz.func201,Tryz.ntmps201
 go_wp2_with fail
 have HB:=ab (aq W (.cells #[.bool n1,.int .i64 K1,.int .i64 X1,.int .u64 S1] 105) (.cells #[.bool n2,.int .i64 K2,.int .i64 X2,.int .u64 S2] 105))
 refine cg0 HC HB fun w1 HB => ?_
 go_wp2_with fail
 go_ret
 exact ⟨rfl,aa HB⟩
theorem pE {w K1 X1 S1 K2 X2 S2 V : Int} {n1 n2 : Bool} (W : World) (a3 : (K1 == 3) = false) (b3 : (K2 == 3) = false) (a2 : (K1 == 2) = false) (b2 : (K2 == 2) = false) (HC : Ct 255 #[.int .i64 w,.agg #[.bool n1,.int .i64 K1,.int .i64 X1,.int .u64 S1],.agg #[.bool n2,.int .i64 K2,.int .i64 X2,.int .u64 S2]] (.int .u64 V)) :
 Calls Tryz.prog 201 #[.int .i64 w,.agg #[.bool n1,.int .i64 K1,.int .i64 X1,.int .u64 S1],.agg #[.bool n2,.int .i64 K2,.int .i64 X2,.int .u64 S2]] W fun r W' => r = .returned (.int .u64 V) ∧ Below W.heap.size W W':=by
 go_enter Tryz.func201,Tryz.ntmps201
 go_wp2_with fail
 have HB:=ab (aq W (.cells #[.bool n1,.int .i64 K1,.int .i64 X1,.int .u64 S1] 105) (.cells #[.bool n2,.int .i64 K2,.int .i64 X2,.int .u64 S2] 105))
 refine cg0 HC HB fun w1 HB => ?_
 go_wp2_with fail
 go_ret
 exact ⟨rfl,aa HB⟩
theorem aa0 {w x y K1 X1 S1 K2 X2 S2 V : Int} {n1 n2 : Bool} (W : World) (HO1 : Ct 101 #[.int .i64 w,.int .u64 x] (.agg #[.bool n1,.int .i64 K1,.int .i64 X1,.int .u64 S1])) (HO2 : Ct 101 #[.int .i64 w,.int .u64 y] (.agg #[.bool n2,.int .i64 K2,.int .i64 X2,.int .u64 S2])) (HP : Ct 201 #[.int .i64 w,.agg #[.bool n1,.int .i64 K1,.int .i64 X1,.int .u64 S1],.agg #[.bool n2,.int .i64 K2,.int .i64 X2,.int .u64 S2]] (.int .u64 V)) :
 Calls Tryz.prog 110 #[.int .i64 w,.int .u64 x,.int .u64 y] W fun r W' => r = .returned (.int .u64 V) ∧ Below W.heap.size W W':=by
 go_enter Tryz.func110,Tryz.ntmps110
 go_wp2_with fail
 refine cg1 HO1 fun w1 hb1 => ?_
 go_wp2_with fail
 refine cg1 HO2 fun w2 hb2 => ?_
 go_wp2_with fail
 refine cg1 HP fun w3 hb3 => ?_
 go_wp2_with fail
 go_ret
 exact ⟨rfl,ac (ac hb1 hb2) hb3⟩
theorem aa1 {w x y K1 X1 S1 K2 X2 S2 V : Int} {n1 n2 : Bool} (W : World) (HO1 : Ct 101 #[.int .i64 w,.int .u64 x] (.agg #[.bool n1,.int .i64 K1,.int .i64 X1,.int .u64 S1])) (HO2 : Ct 101 #[.int .i64 w,.int .u64 y] (.agg #[.bool n2,.int .i64 K2,.int .i64 X2,.int .u64 S2])) (HP : Ct 201 #[.int .i64 w,.agg #[.bool n1,.int .i64 K1,.int .i64 X1,.int .u64 S1],.agg #[.bool (!n2),.int .i64 K2,.int .i64 X2,.int .u64 S2]] (.int .u64 V)) :
 Calls Tryz.prog 111 #[.int .i64 w,.int .u64 x,.int .u64 y] W fun r W' => r = .returned (.int .u64 V) ∧ Below W.heap.size W W':=by
 go_enter Tryz.func111,Tryz.ntmps111
 go_wp2_with fail
 refine cg1 HO2 fun w1 hb => ?_
 go_wp2_with fail
 have HB:=ab ((ad hb (.cells #[.bool (!n2),.int .i64 K2,.int .i64 X2,.int .u64 S2] 105)).drew)
 clear hb
 have HA:=ab ((ak w1 (.bool (!n2)) (.int .i64 K2) (.int .i64 X2) (.int .u64 S2) 105).below ((Below.refl _ _).drew))
 refine wp_region_held_drew (S:=fun w' => w'.cell? ⟨w1.heap.size,0,none⟩ = some (.bool (!n2)) ∧ w'.cell? ⟨w1.heap.size,1,none⟩ = some (.int .i64 K2) ∧ w'.cell? ⟨w1.heap.size,2,none⟩ = some (.int .i64 X2) ∧ w'.cell? ⟨w1.heap.size,3,none⟩ = some (.int .u64 S2)) (by kernel_rfl) ?_ (fun hHeld => ?_)
 ·(try dsimp only)
  exact aa HA
 refine aC 7 (by kernel_rfl) ?_
 refine tkA 0 15 1 ?_
 refine tkA 1 16 3 ?_
 refine tkA 2 17 7 ?_
 refine tkA 4 19 23 ?_
 refine rdA 3 31 (fun Kk hKk => ?_)
 go_simp
 refine cg1 HO1 fun w2 hbl => ?_
 have HB:=bt HB hbl
 have HA:=ab ((aa HA).below hbl)
 clear hbl
 (try go_wp2_with fail)
 refine oA hKk (aa HA) fun hHeld => ?_
 clear hKk Kk
 refine rdA 5 63 (fun Kk hKk => ?_)
 go_simp
 refine cg1 HP fun w2 hbl => ?_
 have HB:=bt HB hbl
 have HA:=ab ((aa HA).below hbl)
 clear hbl
 (try go_wp2_with fail)
 refine oA hKk (aa HA) fun hHeld => ?_
 clear hKk Kk
 refine tkA 6 6 127 ?_
 refine wpAnyH_done (by kernel_rfl) ?_ _
 go_wp2
 go_ret
 exact ⟨rfl,aa HB⟩
end Go.Proofs.YtpbgpdmffejdgaaGreatDoor

/- MInD. -/
import Derived.Test.YtpbgpdmffejdgaaGreatDoorG18
namespace Go.Proofs.YtpbgpdmffejdgaaGreatDoor
open Go.RowKit
theorem za {f : Nat} {ar : Array Value} {v v' t : Int} (h : Ct f ar (.tuple #[.int .u64 v,.int .i64 t])) (e : v = v') : Ct f ar (.tuple #[.int .u64 v',.int .i64 t]):=e ▸ h
theorem nA {w H M : Int} {n : Nat} (k : Wm w n H M) (a : Int) : -H ≤ sgv H M a ∧ sgv H M a < H ∧ (sgv H M a = 0 ↔ a % M = 0) ∧ sgv H M a % M = a % M:=by
 unfold sgv
 rcases k with ⟨rfl,rfl,rfl,rfl⟩ | ⟨rfl,rfl,rfl,rfl⟩ <;> omega
theorem kE {A B : Int} (a0 : 0 ≤ A) (b0 : 0 < B) : A.tdiv B = A / B ∧ 0 ≤ A / B ∧ A / B ≤ A:=⟨Int.tdiv_eq_ediv_of_nonneg a0,Int.ediv_nonneg a0 (by omega),Int.ediv_le_self _ a0⟩
theorem afw {A B H : Int} (a0 : -H ≤ A) (a1 : A < H) (b : ¬ B = 0) (go : ¬ (A = -H ∧ B = -1)) : -H ≤ A.tdiv B ∧ A.tdiv B < H ∧ (A < 0 → B < 0 → 0 ≤ A.tdiv B):=by
 have e1 : ∀ X Y : Int,(-X).tdiv Y = -(X.tdiv Y):=Int.neg_tdiv
 have e2 : ∀ X Y : Int,X.tdiv (-Y) = -(X.tdiv Y):=Int.tdiv_neg
 by_cases hA : 0 ≤ A
 ·by_cases hB : 0 < B
  ·obtain ⟨q1,q2,q3⟩:=kE hA hB
   rw [q1]
   refine ⟨by omega,by omega,fun h => by omega⟩
  ·obtain ⟨q1,q2,q3⟩:=kE hA (show 0 < -B by omega)
   have:=e2 A (-B)
   rw [Int.neg_neg,q1] at this
   rw [this]
   refine ⟨by omega,by omega,fun h => by omega⟩
 ·by_cases hB : 0 < B
  ·obtain ⟨q1,q2,q3⟩:=kE (show 0 ≤ -A by omega) hB
   have:=e1 (-A) B
   rw [Int.neg_neg,q1] at this
   rw [this]
   refine ⟨by omega,by omega,fun _ h => by omega⟩
  ·obtain ⟨q1,q2,q3⟩:=kE (show 0 ≤ -A by omega) (show 0 < -B by omega)
   have h1:=e1 (-A) B
   have h2:=e2 (-A) (-B)
   rw [Int.neg_neg] at h1 h2
   rw [h1,h2,Int.neg_neg,q1]
   refine ⟨by omega,?_,fun _ _ => q2⟩
   by_cases hb : B = -1
   ·have : ¬ A = -H:=fun h => go ⟨h,hb⟩
    omega
   ·have h3:=Int.ediv_mul_le (-A) (show -B ≠ 0 by omega)
    have h4:=Int.mul_le_mul_of_nonneg_left (show 2 ≤ -B by omega) q2
    generalize -A / -B = q at *
    generalize q * -B = z at *
    omega
theorem iM {w H M : Int} {n : Nat} (k : Wm w n H M) (x : Int) : IntKind.u64.wrap x % M = x % M ∧ Rg (IntKind.u64.wrap x):=by
 rw [IntKind.wrap_u64]
 unfold Rg
 refine ⟨?_,by omega,by omega⟩
 rcases k with ⟨rfl,rfl,rfl,rfl⟩ | ⟨rfl,rfl,rfl,rfl⟩
 ·exact Int.emod_emod_of_dvd x (by decide)
 ·exact Int.emod_emod_of_dvd x (by decide)
theorem iN {w H M : Int} {n : Nat} (k : Wm w n H M) (a b : Int) (g : ¬ sgv H M b = 0) (go : ¬ (sgv H M a = -H ∧ sgv H M b = -1)) : Ct 136 #[.int .i64 w,.int .u64 a,.int .u64 b] (.agg #[.int .u64 (IntKind.u64.wrap ((sgv H M a).tdiv (sgv H M b))),.int .u64 (IntKind.u64.wrap ((sgv H M a).tmod (sgv H M b))),.int .i64 0]):=by
 obtain ⟨a0,a1,-⟩:=nA k a
 obtain ⟨q0,q1,q2⟩:=afw a0 a1 g go
 generalize hA : sgv H M a = A at *
 generalize hB : sgv H M b = B at *
 rcases k with ⟨rfl,rfl,rfl,rfl⟩ | ⟨rfl,rfl,rfl,rfl⟩
 ·have eA : IntKind.i32.wrap a = A:=(IntKind.wrap_i32 a).trans hA
  have eB : IntKind.i32.wrap b = B:=(IntKind.wrap_i32 b).trans hB
  have hq : IntKind.i32.wrap (A.tdiv B) = A.tdiv B:=by rw [IntKind.wrap_i32]; omega
  by_cases hA0 : 0 ≤ A
  ·exact bL (gq eA eB (yD hA0 g hq rfl (by rw [Int.tmod_eq_emod_of_nonneg hA0])))
  ·by_cases hB0 : 0 ≤ B
   ·exact bL (gq eA eB (yE (by omega) hB0 g hq rfl rfl))
   ·exact bL (gq eA eB (yF (by omega) (by omega) hq (q2 (by omega) (by omega)) rfl rfl))
 ·have eA : IntKind.i64.wrap a = A:=(IntKind.wrap_i64 a).trans hA
  have eB : IntKind.i64.wrap b = B:=(IntKind.wrap_i64 b).trans hB
  have hq : IntKind.i64.wrap (A.tdiv B) = A.tdiv B:=by rw [IntKind.wrap_i64]; omega
  by_cases hA0 : 0 ≤ A
  ·exact bL (gr eA eB (yI hA0 g hq rfl (by rw [Int.tmod_eq_emod_of_nonneg hA0])))
  ·by_cases hB0 : 0 ≤ B
   ·exact bL (gr eA eB (yJ (by omega) hB0 g hq rfl rfl))
   ·exact bL (gr eA eB (yK (by omega) (by omega) hq (q2 (by omega) (by omega)) rfl rfl))
theorem ll {w H M : Int} {n : Nat} (k : Wm w n H M) (a b : Int) (g : sgv H M b = 0) : Ct 136 #[.int .i64 w,.int .u64 a,.int .u64 b] (.agg #[.int .u64 0,.int .u64 0,.int .i64 2]):=by
 rcases k with ⟨rfl,rfl,rfl,rfl⟩ | ⟨rfl,rfl,rfl,rfl⟩
 ·exact bL (gq (IntKind.wrap_i32 a) (IntKind.wrap_i32 b) (yC g))
 ·exact bL (gr (IntKind.wrap_i64 a) (IntKind.wrap_i64 b) (yH g))
theorem lp {w H M : Int} {n : Nat} (k : Wm w n H M) (a b : Int) (g : sgv H M a = -H) (g' : sgv H M b = -1) : Ct 136 #[.int .i64 w,.int .u64 a,.int .u64 b] (.agg #[.int .u64 0,.int .u64 0,.int .i64 3]):=by
 rcases k with ⟨rfl,rfl,rfl,rfl⟩ | ⟨rfl,rfl,rfl,rfl⟩
 ·exact bL (gq ((IntKind.wrap_i32 a).trans g) ((IntKind.wrap_i32 b).trans g') (yG (q:=-2147483648) (by decide) (by decide) (by decide) (by decide)))
 ·exact bL (gr ((IntKind.wrap_i64 a).trans g) ((IntKind.wrap_i64 b).trans g') (yL (q:=-9223372036854775808) (by decide) (by decide) (by decide) (by decide)))
theorem q6 {w H M : Int} {n : Nat} (k : Wm w n H M) : Ct 17 #[.int .i64 w,.int .u64 0] (.int .u64 0):=by
 have h:=bG k (a:=0) ⟨by omega,by omega⟩
 rw [Int.zero_emod] at h
 exact h
theorem zc {w H M : Int} {n : Nat} (k : Wm w n H M) (a b : Int) (g : ¬ sgv H M b = 0) (go : ¬ (sgv H M a = -H ∧ sgv H M b = -1)) : Ct 72 #[.int .i64 w,.int .u64 a,.int .u64 b] (.tuple #[.int .u64 ((sgv H M a).tdiv (sgv H M b) % M),.int .i64 0]):=
 za (ns (iN k a b g go) (bG k (iM k _).2)) (iM k _).1
theorem alc {w H M : Int} {n : Nat} (k : Wm w n H M) (a b : Int) (g : sgv H M b = 0) : Ct 72 #[.int .i64 w,.int .u64 a,.int .u64 b] (.tuple #[.int .u64 0,.int .i64 2]):=ns (ll k a b g) (q6 k)
theorem ald {w H M : Int} {n : Nat} (k : Wm w n H M) (a b : Int) (g : sgv H M a = -H) (g' : sgv H M b = -1) : Ct 72 #[.int .i64 w,.int .u64 a,.int .u64 b] (.tuple #[.int .u64 0,.int .i64 3]):=ns (lp k a b g g') (q6 k)
theorem zd {w H M : Int} {n : Nat} (k : Wm w n H M) (a b : Int) (g : ¬ sgv H M b = 0) (go : ¬ (sgv H M a = -H ∧ sgv H M b = -1)) : Ct 74 #[.int .i64 w,.int .u64 a,.int .u64 b] (.tuple #[.int .u64 ((sgv H M a).tmod (sgv H M b) % M),.int .i64 0]):=
 za (qZ (iN k a b g go) (bG k (iM k _).2) (by decide)) (iM k _).1
theorem ale {w H M : Int} {n : Nat} (k : Wm w n H M) (a b : Int) (g : sgv H M b = 0) : Ct 74 #[.int .i64 w,.int .u64 a,.int .u64 b] (.tuple #[.int .u64 0,.int .i64 2]):=qZ (ll k a b g) (q6 k) (by decide)
theorem afx {w H M : Int} {n : Nat} (k : Wm w n H M) (a b : Int) (g : sgv H M a = -H) (g' : sgv H M b = -1) : Ct 74 #[.int .i64 w,.int .u64 a,.int .u64 b] (.tuple #[.int .u64 0,.int .i64 0]):=ak6 (lp k a b g g')
theorem iO {w H M : Int} {n : Nat} (k : Wm w n H M) {a b : Int} (ha : Rg a) (hb : Rg b) (g : ¬ b % M = 0) : Ct 137 #[.int .i64 w,.int .u64 a,.int .u64 b] (.agg #[.int .u64 (a % M / (b % M)),.int .u64 (a % M % (b % M)),.int .i64 0]):=by
 obtain ⟨a0,a1⟩:=k.cut a
 obtain ⟨b0,b1⟩:=k.cut b
 rcases k with ⟨rfl,rfl,rfl,rfl⟩ | ⟨rfl,rfl,rfl,rfl⟩
 ·have q1:=Int.ediv_nonneg a0 b0
  have q2:=Int.ediv_le_self (b % 4294967296) a0
  have q3:=Int.emod_nonneg (a % 4294967296) g
  have q4:=Int.emod_lt_of_pos (a % 4294967296) (show 0 < b % 4294967296 by omega)
  exact dT (oU (IntKind.wrap_u32 a) (IntKind.wrap_u32 b) (yz a0 a1 b0 b1 g rfl rfl (by rw [IntKind.wrap_u64]; generalize a % 4294967296 / (b % 4294967296) = q at *; omega) (by rw [IntKind.wrap_u64]; generalize a % 4294967296 % (b % 4294967296) = q at *; omega)))
 ·rw [show a % 18446744073709551616 = a from Int.emod_eq_of_lt ha.1 ha.2] at *
  rw [show b % 18446744073709551616 = b from Int.emod_eq_of_lt hb.1 hb.2] at *
  exact dT (oV (yB a0 a1 b0 b1 g rfl rfl))
theorem ls {w H M : Int} {n : Nat} (k : Wm w n H M) (a : Int) {b : Int} (hb : Rg b) (g : b % M = 0) : Ct 137 #[.int .i64 w,.int .u64 a,.int .u64 b] (.agg #[.int .u64 0,.int .u64 0,.int .i64 2]):=by
 rcases k with ⟨rfl,rfl,rfl,rfl⟩ | ⟨rfl,rfl,rfl,rfl⟩
 ·exact dT (oU (IntKind.wrap_u32 a) (IntKind.wrap_u32 b) (yx g))
 ·exact dT (oV (yA (by unfold Rg at hb; omega)))
theorem ze {w H M : Int} {n : Nat} (k : Wm w n H M) {a b : Int} (ha : Rg a) (hb : Rg b) (g : ¬ b % M = 0) : Ct 73 #[.int .i64 w,.int .u64 a,.int .u64 b] (.tuple #[.int .u64 (a % M / (b % M)),.int .i64 0]):=qX (iO k ha hb g)
theorem zf {w H M : Int} {n : Nat} (k : Wm w n H M) {a b : Int} (ha : Rg a) (hb : Rg b) (g : ¬ b % M = 0) : Ct 75 #[.int .i64 w,.int .u64 a,.int .u64 b] (.tuple #[.int .u64 (a % M % (b % M)),.int .i64 0]):=qY (iO k ha hb g)
theorem alf {w H M : Int} {n : Nat} (k : Wm w n H M) (a : Int) {b : Int} (hb : Rg b) (g : b % M = 0) : Ct 73 #[.int .i64 w,.int .u64 a,.int .u64 b] (.tuple #[.int .u64 0,.int .i64 2]):=qX (ls k a hb g)
theorem alg {w H M : Int} {n : Nat} (k : Wm w n H M) (a : Int) {b : Int} (hb : Rg b) (g : b % M = 0) : Ct 75 #[.int .i64 w,.int .u64 a,.int .u64 b] (.tuple #[.int .u64 0,.int .i64 2]):=qY (ls k a hb g)
theorem kF {w H M : Int} {n : Nat} (k : Wm w n H M) {a b : Int} (ha : Rg a) (hb : Rg b) : Ct 65 #[.int .i64 w,.int .u64 a,.int .u64 b] (.bool (decide (a % M < b % M))):=by
 rcases k with ⟨rfl,rfl,rfl,rfl⟩ | ⟨rfl,rfl,rfl,rfl⟩
 ·exact yP (afh (IntKind.wrap_u32 a) (IntKind.wrap_u32 b) aev)
 ·rw [show a % 18446744073709551616 = a from Int.emod_eq_of_lt ha.1 ha.2,show b % 18446744073709551616 = b from Int.emod_eq_of_lt hb.1 hb.2]
  exact yP (afi aew)
theorem kG {w H M : Int} {n : Nat} (k : Wm w n H M) (a b : Int) : Ct 64 #[.int .i64 w,.int .u64 a,.int .u64 b] (.bool (decide (sgv H M a < sgv H M b))):=by
 rcases k with ⟨rfl,rfl,rfl,rfl⟩ | ⟨rfl,rfl,rfl,rfl⟩
 ·exact yV (afk (IntKind.wrap_i32 a) (IntKind.wrap_i32 b) aex)
 ·exact yV (afl (IntKind.wrap_i64 a) (IntKind.wrap_i64 b) aey)
end Go.Proofs.YtpbgpdmffejdgaaGreatDoor

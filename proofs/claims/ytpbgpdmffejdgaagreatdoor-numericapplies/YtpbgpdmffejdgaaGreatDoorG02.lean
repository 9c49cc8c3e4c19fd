/- MWLeaf, MNear, MSumA, MQuoA, MRadA. -/
import Derived.Test.YtpbgpdmffejdgaaGreatDoorRows
import Derived.WalkKit
import Derived.WalkSpells
import Derived.WalkLawsBesides
import Derived.Laws.MathBits
import Derived.Laws.Pointers
import Derived.Deep.RegionHeld3
import Derived.RowKit3
namespace Go.Proofs.YtpbgpdmffejdgaaGreatDoor.W
set_option maxHeartbeats 400000
open Go.RowKit
theorem aln (n : Int) (w : World) :
 Calls Tryz.prog 161 #[.int .u64 n] w fun e w' => e = .returned (.agg #[.int .u64 0,.int .u64 n]) ∧ Below w.heap.size w w':=by
 go_enter Tryz.func161,Tryz.ntmps161
 go_wp2
 exact bodyPost_ret (v:=.agg #[.int .u64 0,.int .u64 n]) (by simp [results,Tryz.results161,go_sem]) rfl ⟨rfl,(Below.refl _ _).alloc (Nat.le_refl _) _⟩
theorem vd (n : Int) (w : World) :
 Calls Tryz.prog 278 #[.int .u64 n] w fun e w' => e = .returned (.bool false) ∧ w' = w:=by
 go_enter Tryz.func278,Tryz.ntmps278
 go_wp2
 go_ret
 exact ⟨by simp,rfl⟩
def iP (a b : Int) : Int:=if a < b then -1 else if b < a then 1 else 0
theorem jR (a b : Int) (w : World) :
 Calls Tryz.prog 263 #[.int .u64 a,.int .u64 b] w fun e w' => e = .returned (.int .i64 (iP a b)) ∧ w' = w:=by
 unfold iP
 go_enter Tryz.func263,Tryz.ntmps263
 go_wp2_with (go_at_call 278; refine (vd _ _).mono ?_; rintro e w' ⟨rfl,rfl⟩)
 all_goals (go_ret; exact ⟨by simp [*],rfl⟩)
end Go.Proofs.YtpbgpdmffejdgaaGreatDoor.W
namespace Go.Proofs.YtpbgpdmffejdgaaGreatDoor
def bk (a b : Nat) : Nat:=if b < 2 * (a % b) ∨ (2 * (a % b) = b ∧ a / b % 2 = 1) then a / b + 1 else a / b
theorem cC (a b c : Nat) (hc : 0 < c) : bk (a * c) (b * c) = bk a b:=by
 unfold bk
 rw [Nat.mul_mod_mul_right,Nat.mul_div_mul_right _ _ hc]
 have e1 : (b * c < 2 * (a % b * c)) = (b < 2 * (a % b)):=by
  rw [← Nat.mul_assoc]
  exact propext (Nat.mul_lt_mul_right hc)
 have e2 : (2 * (a % b * c) = b * c) = (2 * (a % b) = b):=by
  rw [← Nat.mul_assoc]
  exact propext (Nat.mul_right_cancel_iff hc)
 simp only [e1,e2]
theorem uf {a b k : Nat} (hb : 0 < b) (h : k * b ≤ a) : k ≤ bk a b:=by
 have:=(Nat.le_div_iff_mul_le hb).2 h
 unfold bk
 split <;> omega
theorem ug {a b k : Nat} (hb : 0 < b) (h : a ≤ k * b) : bk a b ≤ k:=by
 unfold bk
 have h1 : a / b ≤ k:=Nat.div_le_of_le_mul (by rw [Nat.mul_comm]; exact h)
 split
 ·rename_i hc
  refine Decidable.byContradiction fun hn => ?_
  have he : a / b = k:=by omega
  have h2:=Nat.div_add_mod a b
  rw [he,Nat.mul_comm b k] at h2
  omega
 ·exact h1
theorem vE {a c b : Nat} (h : a ≤ c) : bk a b ≤ bk c b:=by
 have h1 : a / b ≤ c / b:=Nat.div_le_div_right h
 by_cases he : a / b = c / b
 ·have ha:=Nat.div_add_mod a b
  have hc:=Nat.div_add_mod c b
  rw [← he] at hc
  have hr : a % b ≤ c % b:=by omega
  unfold bk
  rw [← he]
  split
  ·rw [if_pos (by omega)]
   omega
  ·split <;> omega
 ·unfold bk
  split <;> split <;> omega
theorem aag (a : Nat) : bk a 1 = a:=by
 unfold bk
 rw [Nat.mod_one,if_neg (by omega),Nat.div_one]
theorem vF (b : Nat) : bk 0 b = 0:=by
 unfold bk
 rw [Nat.zero_mod,Nat.zero_div,if_neg (by omega)]
theorem pi (a b : Nat) (hb : 0 < b) : bk (a * b) b = a:=by
 have:=cC a 1 b hb
 rw [Nat.one_mul,aag] at this
 exact this
theorem fd {x k : Nat} (h : Go.bitLen x ≤ k) : x < 2 ^ k:=Nat.lt_of_lt_of_le (Go.bitLen_spec x).1 (Nat.pow_le_pow_right (by omega) h)
theorem fM {x k : Nat} (h : k < Go.bitLen x) : 2 ^ k ≤ x:=by
 have hx : x ≠ 0:=fun h0 => by rw [h0] at h; exact absurd h (by rw [show Go.bitLen 0 = 0 from rfl]; omega)
 exact Nat.le_trans (Nat.pow_le_pow_right (by omega) (by omega)) ((Go.bitLen_spec x).2 hx)
theorem nK {x y : Nat} (h : x ≤ y) : Go.bitLen x ≤ Go.bitLen y:=by
 refine Decidable.byContradiction fun hn => ?_
 have h1:=fM (x:=x) (k:=Go.bitLen y) (by omega)
 have h2:=(Go.bitLen_spec y).1
 omega
theorem dO (x k : Nat) (h : x ≠ 0) : Go.bitLen (x * 2 ^ k) = k + Go.bitLen x:=by
 have h1:=Nat.mul_div_cancel x (Nat.two_pow_pos k)
 rw [Go.bitLen_shift (x * 2 ^ k) k (by rw [h1]; exact h),h1]
theorem gx {x : Nat} (h : x ≠ 0) : 0 < Go.bitLen x:=by
 unfold Go.bitLen
 rw [if_neg h]
 omega
theorem aah (v m : Nat) (hm : m ≤ 1) (h : 2 * v + m ≠ 0) : Go.bitLen (2 * v + m) = Go.bitLen v + 1:=by
 by_cases hv : v = 0
 ·subst hv
  have : m = 1:=by omega
  subst this
  decide +kernel
 ·have h1 : (2 * v + m) / 2 ^ 1 = v:=by omega
  rw [Go.bitLen_shift (2 * v + m) 1 (by rw [h1]; exact hv),h1]
  omega
def aT (f L X : Nat) : Nat:=max (Go.bitLen X - (f + 1)) L
def aO (f L X : Nat) : Nat:=(aT f L X - L) * 2 ^ f + bk X (2 ^ aT f L X)
theorem kK (f L X : Nat) : L ≤ aT f L X:=by unfold aT; omega
theorem nL (f L X : Nat) : bk X (2 ^ aT f L X) ≤ 2 * 2 ^ f:=by
 refine ug (Nat.two_pow_pos _) ?_
 rw [show 2 * 2 ^ f = 2 ^ (f + 1) by rw [Nat.pow_succ]; omega,← Nat.pow_add]
 exact Nat.le_of_lt (fd (by unfold aT; omega))
theorem nM {f L X : Nat} (h : L < aT f L X) : 2 ^ f ≤ bk X (2 ^ aT f L X):=by
 refine uf (Nat.two_pow_pos _) ?_
 rw [← Nat.pow_add]
 exact fM (by unfold aT at h ⊢; omega)
theorem dA (f L : Nat) {X Y : Nat} (h : X ≤ Y) : aO f L X ≤ aO f L Y:=by
 have hu : aT f L X ≤ aT f L Y:=by have:=nK h; unfold aT; omega
 unfold aO
 by_cases he : aT f L X = aT f L Y
 ·rw [he]
  exact Nat.add_le_add_left (vE h) _
 ·have h1:=nL f L X
  have h2:=nM (f:=f) (L:=L) (X:=Y) (by have:=kK f L X; omega)
  have h3:=kK f L X
  generalize aT f L X = u at *
  generalize aT f L Y = v at *
  generalize bk X (2 ^ u) = s at *
  generalize bk Y (2 ^ v) = t at *
  have h4 : (u - L + 1) * 2 ^ f ≤ (v - L) * 2 ^ f:=Nat.mul_le_mul_right _ (by omega)
  rw [Nat.add_mul,Nat.one_mul] at h4
  omega
theorem dB (f L : Nat) : aO f L 0 = 0:=by
 have : aT f L 0 = L:=by unfold aT; rw [show Go.bitLen 0 = 0 from rfl]; omega
 unfold aO
 rw [vF,this,Nat.sub_self,Nat.zero_mul]
theorem fe (f L s k : Nat) (h1 : s < 2 ^ (f + 1)) (hk : L ≤ k) (h2 : L < k → 2 ^ f ≤ s) : aO f L (s * 2 ^ k) = (k - L) * 2 ^ f + s:=by
 by_cases hs : s = 0
 ·subst hs
  have hL : ¬ L < k:=fun h => by have:=h2 h; have:=Nat.two_pow_pos f; omega
  rw [Nat.zero_mul,dB f L,show k - L = 0 by omega,Nat.zero_mul]
 have hb1 : Go.bitLen s ≤ f + 1:=by
  refine Decidable.byContradiction fun hn => ?_
  have:=fM (x:=s) (k:=f + 1) (by omega)
  omega
 have hu : aT f L (s * 2 ^ k) = k:=by
  unfold aT
  rw [dO s k hs]
  by_cases hL : L < k
  ·have h3:=h2 hL
   have : f < Go.bitLen s:=Decidable.byContradiction fun hn => by
    have:=fd (x:=s) (k:=f) (by omega)
    omega
   omega
  ·omega
 unfold aO
 rw [hu,pi _ _ (Nat.two_pow_pos k)]
theorem pj (v m j n r : Nat) (hm : m ≤ 1) (hn : n = v / 2 ^ j) (hr : r = v % 2 ^ j) :
 bk (2 * v + m) (2 ^ (j + 2)) = if n % 2 = 1 ∧ ((r ≠ 0 ∨ m = 1) ∨ n / 2 % 2 = 1) then n / 2 + 1 else n / 2:=by
 have hc:=Nat.two_pow_pos j
 have hv:=Nat.div_add_mod v (2 ^ j)
 have hlt:=Nat.mod_lt v hc
 rw [← hn,← hr] at hv
 rw [← hr] at hlt
 have e4 : 2 ^ (j + 2) = 4 * 2 ^ j:=by rw [Nat.pow_add]; omega
 clear hn hr
 generalize 2 ^ j = c at *
 have hns : n = 2 * (n / 2) + n % 2:=by omega
 have hh : n % 2 < 2:=Nat.mod_lt _ (by omega)
 generalize n / 2 = s at *
 generalize n % 2 = h at *
 subst hns
 have hN : 2 * v + m = 4 * c * s + (2 * c * h + 2 * r + m):=by
  rw [← hv,Nat.mul_add c,show c * (2 * s) = 2 * (c * s) by rw [Nat.mul_left_comm],show 4 * c * s = 4 * (c * s) by rw [Nat.mul_assoc],show 2 * c * h = 2 * (c * h) by rw [Nat.mul_assoc]]
  omega
 have hR : 2 * c * h + 2 * r + m < 4 * c:=by
  rcases (show h = 0 ∨ h = 1 by omega) with h0 | h0 <;> subst h0
  ·omega
  ·omega
 have hq : (2 * v + m) / (4 * c) = s:=by
  rw [hN,Nat.mul_add_div (by omega),Nat.div_eq_of_lt hR]
  rfl
 have hr2 : (2 * v + m) % (4 * c) = 2 * c * h + 2 * r + m:=by
  rw [hN,Nat.mul_add_mod,Nat.mod_eq_of_lt hR]
 unfold bk
 rw [e4,hq,hr2]
 rcases (show h = 0 ∨ h = 1 by omega) with h0 | h0 <;> subst h0
 ·rw [if_neg (by omega),if_neg (by omega)]
 ·by_cases hl : r ≠ 0 ∨ m = 1
  ·rw [if_pos (by omega),if_pos (by omega)]
  ·by_cases ho : s % 2 = 1
   ·rw [if_pos (by omega),if_pos (by omega)]
   ·rw [if_neg (by omega),if_neg (by omega)]
theorem aai (n : Nat) : bk n 2 = if n % 2 = 1 ∧ n / 2 % 2 = 1 then n / 2 + 1 else n / 2:=by
 unfold bk
 by_cases h : n % 2 = 1 ∧ n / 2 % 2 = 1
 ·rw [if_pos (by omega),if_pos h]
 ·rw [if_neg (by omega),if_neg h]
def bd (f L c : Nat) : Nat:=if c < 2 ^ (f + 1) then c * 2 ^ L else (2 ^ f + c % 2 ^ f) * 2 ^ (c / 2 ^ f - 1 + L)
theorem bJ (f L s k : Nat) (h1 : s < 2 ^ (f + 1)) (hk : L ≤ k) (h2 : L < k → 2 ^ f ≤ s) : bd f L ((k - L) * 2 ^ f + s) = s * 2 ^ k:=by
 have e2 : 2 ^ (f + 1) = 2 ^ f + 2 ^ f:=by rw [Nat.pow_succ]; omega
 have hp:=Nat.two_pow_pos f
 by_cases hL : L < k
 ·have h3:=h2 hL
  obtain ⟨r,rfl⟩:=Nat.exists_eq_add_of_le h3
  obtain ⟨j,rfl⟩ : ∃ j,k = L + (j + 1):=⟨k - L - 1,by omega⟩
  rw [show L + (j + 1) - L = j + 1 by omega]
  have hc : (j + 1) * 2 ^ f + (2 ^ f + r) = 2 ^ f * (j + 2) + r:=by
   rw [show (j + 1) * 2 ^ f = 2 ^ f * (j + 1) by rw [Nat.mul_comm],show j + 2 = j + 1 + 1 by omega,Nat.mul_add (2 ^ f) (j + 1) 1]
   omega
  have hlt : r < 2 ^ f:=by omega
  rw [hc]
  unfold bd
  rw [if_neg (by
   have:=Nat.mul_le_mul_left (2 ^ f) (show 2 ≤ j + 2 by omega)
   omega)]
  rw [Nat.mul_add_mod,Nat.mod_eq_of_lt hlt,Nat.mul_add_div hp,Nat.div_eq_of_lt hlt,show j + 2 + 0 - 1 + L = L + (j + 1) by omega]
 ·have : k = L:=by omega
  subst this
  rw [Nat.sub_self,Nat.zero_mul,Nat.zero_add]
  unfold bd
  rw [if_pos h1]
theorem fU (f L c : Nat) : ∃ s k,c = (k - L) * 2 ^ f + s ∧ s < 2 ^ (f + 1) ∧ L ≤ k ∧ (L < k → 2 ^ f ≤ s) ∧ bd f L c = s * 2 ^ k:=by
 have e2 : 2 ^ (f + 1) = 2 ^ f + 2 ^ f:=by rw [Nat.pow_succ]; omega
 have hp:=Nat.two_pow_pos f
 by_cases h : c < 2 ^ (f + 1)
 ·refine ⟨c,L,by rw [Nat.sub_self,Nat.zero_mul,Nat.zero_add],h,Nat.le_refl _,fun h => absurd h (Nat.lt_irrefl _),?_⟩
  unfold bd
  rw [if_pos h]
 ·have hd:=Nat.div_add_mod c (2 ^ f)
  have hm:=Nat.mod_lt c hp
  have h2 : 2 ≤ c / 2 ^ f:=(Nat.le_div_iff_mul_le hp).2 (by omega)
  refine ⟨2 ^ f + c % 2 ^ f,c / 2 ^ f - 1 + L,?_,by omega,by omega,fun _ => by omega,?_⟩
  ·rw [show c / 2 ^ f - 1 + L - L = c / 2 ^ f - 1 by omega,Nat.sub_mul,Nat.mul_comm (c / 2 ^ f) (2 ^ f)]
   have:=Nat.mul_le_mul_left (2 ^ f) h2
   omega
  ·unfold bd
   rw [if_neg h]
theorem bU (f L c : Nat) : aO f L (bd f L c) = c:=by
 obtain ⟨s,k,h0,h1,h2,h3,h4⟩:=fU f L c
 rw [h4,fe f L s k h1 h2 h3]
 exact h0.symm
theorem aaf {f L c d : Nat} (h : bd f L c = bd f L d) : c = d:=by
 rw [← bU f L c,h,bU]
theorem eJ {f L c d : Nat} : bd f L c ≤ bd f L d ↔ c ≤ d:=by
 constructor
 ·intro h
  have:=dA f L h
  rwa [bU,bU] at this
 ·intro h
  refine Decidable.byContradiction fun hn => ?_
  have h1:=dA f L (show bd f L d ≤ bd f L c by omega)
  rw [bU,bU] at h1
  have : c = d:=by omega
  subst this
  omega
theorem fL (f L : Nat) : bd f L 0 = 0:=by
 unfold bd
 rw [if_pos (Nat.two_pow_pos _),Nat.zero_mul]
theorem ags (s r B : Nat) (h : 2 * r < B) : bk (s * B + r) B = s:=by
 have hB : 0 < B:=by omega
 have hq : (s * B + r) / B = s:=by rw [Nat.mul_comm,Nat.mul_add_div hB,Nat.div_eq_of_lt (by omega),Nat.add_zero]
 have hr : (s * B + r) % B = r:=by rw [Nat.mul_comm,Nat.mul_add_mod,Nat.mod_eq_of_lt (by omega)]
 unfold bk
 rw [hq,hr,if_neg (by omega)]
theorem ue (s r B : Nat) (h : 2 * r < B) (hs : 0 < s) : bk (s * B - r) B = s:=by
 by_cases h0 : r = 0
 ·subst h0
  rw [Nat.sub_zero]
  exact pi s B (by omega)
 ·have hB : 0 < B:=by omega
  obtain ⟨t,rfl⟩ : ∃ t,s = t + 1:=⟨s - 1,by omega⟩
  have e : (t + 1) * B - r = B * t + (B - r):=by rw [Nat.mul_comm,Nat.mul_add]; omega
  have hq : ((t + 1) * B - r) / B = t:=by rw [e,Nat.mul_add_div hB,Nat.div_eq_of_lt (by omega),Nat.add_zero]
  have hr : ((t + 1) * B - r) % B = B - r:=by rw [e,Nat.mul_add_mod,Nat.mod_eq_of_lt (by omega)]
  unfold bk
  rw [hq,hr,if_pos (by omega)]
theorem mQ {x k : Nat} (h1 : 2 ^ k ≤ x) (h2 : x < 2 ^ (k + 1)) : Go.bitLen x = k + 1:=by
 have h3:=nK h1
 have h4 : Go.bitLen (2 ^ k) = k + 1:=by
  have:=dO 1 k (by omega)
  rw [Nat.one_mul] at this
  rw [this]
  rfl
 have h5 : ¬ k + 1 < Go.bitLen x:=fun h => by have:=fM h; omega
 omega
theorem pg (f L s k r : Nat) (h1 : s < 2 ^ (f + 1)) (h2 : 2 ^ f ≤ s) (hk : L < k) (hr : 4 * r < 2 ^ k) : aO f L (s * 2 ^ k + r) = aO f L (s * 2 ^ k):=by
 rw [fe f L s k h1 (by omega) (fun _ => h2)]
 have hl : Go.bitLen (s * 2 ^ k + r) = f + k + 1:=by
  refine mQ ?_ ?_
  ·rw [Nat.pow_add]
   exact Nat.le_trans (Nat.mul_le_mul_right _ h2) (Nat.le_add_right _ _)
  ·have h3 : (s + 1) * 2 ^ k ≤ 2 ^ (f + 1) * 2 ^ k:=Nat.mul_le_mul_right _ h1
   rw [Nat.add_mul,← Nat.pow_add] at h3
   rw [show f + k + 1 = f + 1 + k by omega]
   omega
 have hu : aT f L (s * 2 ^ k + r) = k:=by unfold aT; rw [hl]; omega
 unfold aO
 rw [hu,ags _ _ _ (by omega)]
theorem ph (f L s k r : Nat) (h1 : s < 2 ^ (f + 1)) (h2 : 2 ^ f ≤ s) (hk : L < k) (hr : 4 * r < 2 ^ k) : aO f L (s * 2 ^ k - r) = aO f L (s * 2 ^ k):=by
 have hp:=Nat.two_pow_pos f
 rw [fe f L s k h1 (by omega) (fun _ => h2)]
 have h3 : s * 2 ^ k < 2 ^ (f + k + 1):=by
  rw [show f + k + 1 = f + 1 + k by omega,Nat.pow_add]
  exact Nat.mul_lt_mul_of_pos_right h1 (Nat.two_pow_pos k)
 by_cases he : s = 2 ^ f ∧ 0 < r
 ·obtain ⟨rfl,h0⟩:=he
  obtain ⟨j,rfl⟩ : ∃ j,k = j + 1:=⟨k - 1,by omega⟩
  have ej : 2 ^ (j + 1) = 2 ^ j + 2 ^ j:=by rw [Nat.pow_succ]; omega
  have ef : 2 ^ f * 2 ^ (j + 1) = 2 ^ (f + 1) * 2 ^ j:=by rw [← Nat.pow_add,← Nat.pow_add,show f + (j + 1) = f + 1 + j by omega]
  have e2 : 2 ^ (f + 1) = 2 ^ f + 2 ^ f:=by rw [Nat.pow_succ]; omega
  have h4 : 1 * 2 ^ j ≤ 2 ^ f * 2 ^ j:=Nat.mul_le_mul_right _ hp
  have e3 : 2 ^ (f + 1) * 2 ^ j = 2 ^ f * 2 ^ j + 2 ^ f * 2 ^ j:=by rw [e2,Nat.add_mul]
  have hl : Go.bitLen (2 ^ f * 2 ^ (j + 1) - r) = f + j + 1:=by
   refine mQ ?_ ?_
   ·rw [Nat.pow_add,ef]
    omega
   ·rw [show f + j + 1 = f + 1 + j by omega,Nat.pow_add 2 (f + 1) j,ef]
    omega
  have hu : aT f L (2 ^ f * 2 ^ (j + 1) - r) = j:=by unfold aT; rw [hl]; omega
  unfold aO
  rw [hu,ef,ue _ _ _ (by omega) (by omega),show j + 1 - L = j - L + 1 by omega,Nat.add_mul]
  omega
 ·have hge : 2 ^ f * 2 ^ k ≤ s * 2 ^ k - r:=by
   by_cases h0 : r = 0
   ·subst h0
    rw [Nat.sub_zero]
    exact Nat.mul_le_mul_right _ h2
   ·have h5 : (2 ^ f + 1) * 2 ^ k ≤ s * 2 ^ k:=Nat.mul_le_mul_right _ (by omega)
    rw [Nat.add_mul] at h5
    omega
  have hl : Go.bitLen (s * 2 ^ k - r) = f + k + 1:=by
   refine mQ ?_ ?_
   ·rw [Nat.pow_add]
    exact hge
   ·omega
  have hu : aT f L (s * 2 ^ k - r) = k:=by unfold aT; rw [hl]; omega
  unfold aO
  rw [hu,ue _ _ _ (by omega) (by omega)]
def ch (f L X D : Nat) : Nat:=max (Go.bitLen (X / D) - (f + 1)) L
def gc (f L X D : Nat) : Nat:=(ch f L X D - L) * 2 ^ f + bk X (D * 2 ^ ch f L X D)
theorem j4 (f L X D c : Nat) (hc : 0 < c) : gc f L (X * c) (D * c) = gc f L X D:=by
 have hu : ch f L (X * c) (D * c) = ch f L X D:=by
  unfold ch
  rw [Nat.mul_div_mul_right _ _ hc]
 unfold gc
 rw [hu,Nat.mul_right_comm,cC _ _ _ hc]
theorem aa8 (f L X D : Nat) (hD : 0 < D) : bk X (D * 2 ^ ch f L X D) ≤ 2 * 2 ^ f:=by
 refine ug (Nat.mul_pos hD (Nat.two_pow_pos _)) ?_
 have h1 : X / D < 2 ^ (f + 1 + ch f L X D):=fd (by unfold ch; omega)
 have h2:=(Nat.div_lt_iff_lt_mul hD).1 h1
 rw [show 2 * 2 ^ f * (D * 2 ^ ch f L X D) = 2 ^ (f + 1 + ch f L X D) * D by
  rw [show 2 * 2 ^ f = 2 ^ (f + 1) by rw [Nat.pow_succ]; omega,Nat.mul_comm D,← Nat.mul_assoc,← Nat.pow_add]]
 omega
theorem aa9 {f L X D : Nat} (hD : 0 < D) (h : L < ch f L X D) : 2 ^ f ≤ bk X (D * 2 ^ ch f L X D):=by
 refine uf (Nat.mul_pos hD (Nat.two_pow_pos _)) ?_
 have h1 : 2 ^ (f + ch f L X D) ≤ X / D:=fM (by unfold ch at h ⊢; omega)
 have h2:=(Nat.le_div_iff_mul_le hD).1 h1
 rw [show 2 ^ f * (D * 2 ^ ch f L X D) = 2 ^ (f + ch f L X D) * D by rw [Nat.mul_comm D,← Nat.mul_assoc,← Nat.pow_add]]
 exact h2
theorem pX (q E r C m : Nat) (hr : r < E) (hm : m = if r = 0 then 0 else 1) (hC : 0 < C) : bk (q * E + r) (E * (2 * C)) = bk (2 * q + m) (2 * (2 * C)):=by
 have hE : 0 < E:=by omega
 have hm1 : m ≤ 1:=by rw [hm]; split <;> omega
 have hmr : r = 0 ↔ m = 0:=by
  rw [hm]
  split
  ·simp_all
  ·simp_all
 clear hm
 have hq:=Nat.div_add_mod q (2 * C)
 have ht:=Nat.mod_lt q (show 0 < 2 * C by omega)
 generalize q / (2 * C) = s at *
 generalize q % (2 * C) = t at *
 have h1 : t * E + r < E * (2 * C):=by
  have:=Nat.mul_le_mul_left E (show t + 1 ≤ 2 * C by omega)
  rw [Nat.mul_add,Nat.mul_one,Nat.mul_comm E t] at this
  omega
 have e1 : q * E + r = E * (2 * C) * s + (t * E + r):=by
  rw [← hq,Nat.add_mul,Nat.mul_comm (2 * C * s) E,← Nat.mul_assoc E (2 * C) s]
  omega
 have e2 : 2 * q + m = 2 * (2 * C) * s + (2 * t + m):=by
  rw [← hq,Nat.mul_add,← Nat.mul_assoc 2 (2 * C) s]
  omega
 have a1 : (q * E + r) / (E * (2 * C)) = s:=by
  rw [e1,Nat.mul_add_div (by omega),Nat.div_eq_of_lt h1]
  rfl
 have a2 : (q * E + r) % (E * (2 * C)) = t * E + r:=by rw [e1,Nat.mul_add_mod,Nat.mod_eq_of_lt h1]
 have b1 : (2 * q + m) / (2 * (2 * C)) = s:=by
  rw [e2,Nat.mul_add_div (by omega),Nat.div_eq_of_lt (by omega)]
  rfl
 have b2 : (2 * q + m) % (2 * (2 * C)) = 2 * t + m:=by rw [e2,Nat.mul_add_mod,Nat.mod_eq_of_lt (by omega)]
 unfold bk
 rw [a1,a2,b1,b2]
 have eC : E * (2 * C) = 2 * (C * E):=by rw [Nat.mul_left_comm,Nat.mul_comm E C]
 rw [eC]
 clear a1 a2 b1 b2 e1 e2 hq h1 eC
 rcases Nat.lt_trichotomy t C with h | h | h
 ·have h2:=Nat.mul_le_mul_right E (show t + 1 ≤ C by omega)
  rw [Nat.add_mul,Nat.one_mul] at h2
  generalize t * E = te at *
  generalize C * E = ce at *
  rw [if_neg (by omega),if_neg (by omega)]
 ·subst h
  generalize t * E = te at *
  by_cases hr0 : r = 0
  ·have hm0:=hmr.1 hr0
   by_cases hs : s % 2 = 1
   ·rw [if_pos (by omega),if_pos (by omega)]
   ·rw [if_neg (by omega),if_neg (by omega)]
  ·have hm0 : m ≠ 0:=fun h => hr0 (hmr.2 h)
   rw [if_pos (by omega),if_pos (by omega)]
 ·have h2:=Nat.mul_le_mul_right E (show C + 1 ≤ t by omega)
  rw [Nat.add_mul,Nat.one_mul] at h2
  generalize t * E = te at *
  generalize C * E = ce at *
  rw [if_pos (by omega),if_pos (by omega)]
theorem nT (f L X D j : Nat) (hD : 0 < D) (hj : 1 ≤ j) (hq : X / (D * 2 ^ j) ≠ 0) (hu : j + 1 ≤ ch f L X D) :
 gc f L X D = aO f L ((2 * (X / (D * 2 ^ j)) + (if X % (D * 2 ^ j) = 0 then 0 else 1)) * 2 ^ (j - 1)):=by
 have hE : 0 < D * 2 ^ j:=Nat.mul_pos hD (Nat.two_pow_pos j)
 have hX:=Nat.div_add_mod X (D * 2 ^ j)
 have hr:=Nat.mod_lt X hE
 obtain ⟨m,hm⟩ : ∃ m,m = if X % (D * 2 ^ j) = 0 then 0 else 1:=⟨_,rfl⟩
 have hm1 : m ≤ 1:=by rw [hm]; split <;> omega
 rw [← hm]
 have hb : Go.bitLen (X / D) = j + Go.bitLen (X / (D * 2 ^ j)):=by
  rw [← Nat.div_div_eq_div_mul]
  exact Go.bitLen_shift (X / D) j (by rw [Nat.div_div_eq_div_mul]; exact hq)
 have hl : aT f L ((2 * (X / (D * 2 ^ j)) + m) * 2 ^ (j - 1)) = ch f L X D:=by
  unfold aT ch
  rw [dO _ _ (by omega),aah _ m hm1 (by omega),hb]
  omega
 unfold gc aO
 rw [hl]
 congr 1
 obtain ⟨c,hc⟩ : ∃ c,ch f L X D = j + (c + 1):=⟨ch f L X D - j - 1,by omega⟩
 rw [hc]
 have e1 : D * 2 ^ (j + (c + 1)) = D * 2 ^ j * (2 * 2 ^ c):=by
  rw [Nat.pow_add,Nat.pow_succ,Nat.mul_comm (2 ^ c) 2,← Nat.mul_assoc]
 have e2 : 2 ^ (j + (c + 1)) = 2 * (2 * 2 ^ c) * 2 ^ (j - 1):=by
  rw [show j + (c + 1) = c + 2 + (j - 1) by omega,Nat.pow_add,show c + 2 = c + 1 + 1 by omega,Nat.pow_succ,Nat.pow_succ,Nat.mul_comm (2 ^ c * 2) 2,Nat.mul_comm (2 ^ c) 2]
 rw [e1,e2,cC _ _ _ (Nat.two_pow_pos _)]
 have:=pX (X / (D * 2 ^ j)) (D * 2 ^ j) (X % (D * 2 ^ j)) (2 ^ c) m hr hm (Nat.two_pow_pos c)
 rw [← this]
 congr 1
 rw [Nat.mul_comm]
 omega
def cm (f L c : Nat) : Nat:=bd f L c + bd f L (c + 1)
theorem jh {f L c d : Nat} : bd f L c < bd f L d ↔ c < d:=by
 have:=eJ (f:=f) (L:=L) (c:=d) (d:=c)
 omega
theorem aht {f L c d : Nat} (h : c < d) : cm f L c < cm f L d:=by
 unfold cm
 have h1:=(jh (f:=f) (L:=L) (c:=c) (d:=d)).2 h
 have h2:=(jh (f:=f) (L:=L) (c:=c + 1) (d:=d + 1)).2 (by omega)
 omega
theorem nV (f : Nat) : 2 ^ (f + 1) = 2 ^ f + 2 ^ f:=by rw [Nat.pow_succ]; omega
theorem mW (f L s k : Nat) (h1 : s < 2 ^ (f + 1)) (hk : L ≤ k) (h2 : L < k → 2 ^ f ≤ s) : bd f L ((k - L) * 2 ^ f + s + 1) = (s + 1) * 2 ^ k:=by
 have e2:=nV f
 have hp:=Nat.two_pow_pos f
 by_cases h : s + 1 < 2 ^ (f + 1)
 ·rw [Nat.add_assoc]
  exact bJ f L (s + 1) k h hk (fun hl => by have:=h2 hl; omega)
 ·have hs : s + 1 = 2 ^ (f + 1):=by omega
  have:=bJ f L (2 ^ f) (k + 1) (by omega) (by omega) (fun _ => Nat.le_refl _)
  rw [show k + 1 - L = k - L + 1 by omega,Nat.add_mul,Nat.one_mul] at this
  rw [Nat.add_assoc ((k - L) * 2 ^ f),hs,e2,← Nat.add_assoc,this,← e2,Nat.pow_succ,Nat.pow_succ,Nat.mul_comm (2 ^ k) 2,Nat.mul_assoc]
theorem nW (f L c : Nat) : ∃ s k,c = (k - L) * 2 ^ f + s ∧ s < 2 ^ (f + 1) ∧ L ≤ k ∧ (L < k → 2 ^ f ≤ s) ∧ bd f L c = s * 2 ^ k ∧ bd f L (c + 1) = (s + 1) * 2 ^ k ∧ cm f L c = (2 * s + 1) * 2 ^ k:=by
 obtain ⟨s,k,h0,h1,h2,h3,h4⟩:=fU f L c
 have h5 : bd f L (c + 1) = (s + 1) * 2 ^ k:=by rw [h0]; exact mW f L s k h1 h2 h3
 refine ⟨s,k,h0,h1,h2,h3,h4,h5,?_⟩
 unfold cm
 rw [h4,h5,← Nat.add_mul,show s + (s + 1) = 2 * s + 1 by omega]
theorem ib (f L s k : Nat) (h1 : s < 2 ^ (f + 1)) (hk : L ≤ k) (h2 : L < k → 2 ^ f ≤ s) : cm f L ((k - L) * 2 ^ f + s) = (2 * s + 1) * 2 ^ k:=by
 unfold cm
 rw [bJ f L s k h1 hk h2,mW f L s k h1 hk h2,← Nat.add_mul,show s + (s + 1) = 2 * s + 1 by omega]
theorem wN (s r B : Nat) (h : r < B) : bk (s * B + r) B = if B < 2 * r ∨ (2 * r = B ∧ s % 2 = 1) then s + 1 else s:=by
 have hB : 0 < B:=by omega
 have hq : (s * B + r) / B = s:=by rw [Nat.mul_comm,Nat.mul_add_div hB,Nat.div_eq_of_lt h,Nat.add_zero]
 have hr : (s * B + r) % B = r:=by rw [Nat.mul_comm,Nat.mul_add_mod,Nat.mod_eq_of_lt h]
 unfold bk
 rw [hq,hr]
theorem wO (f L s k r : Nat) (h1 : s < 2 ^ (f + 1)) (hk : L ≤ k) (h2 : L < k → 2 ^ f ≤ s) (hr : r < 2 ^ k) :
 aO f L (s * 2 ^ k + r) = (k - L) * 2 ^ f + if 2 ^ k < 2 * r ∨ (2 * r = 2 ^ k ∧ s % 2 = 1) then s + 1 else s:=by
 have hu : aT f L (s * 2 ^ k + r) = k:=by
  have hlt : s * 2 ^ k + r < 2 ^ (f + 1 + k):=by
   have:=Nat.mul_le_mul_right (2 ^ k) (show s + 1 ≤ 2 ^ (f + 1) by omega)
   rw [Nat.add_mul,Nat.one_mul,← Nat.pow_add] at this
   omega
  unfold aT
  by_cases hL : L < k
  ·have hge : 2 ^ (f + k) ≤ s * 2 ^ k + r:=by
    have:=Nat.mul_le_mul_right (2 ^ k) (h2 hL)
    rw [← Nat.pow_add] at this
    omega
   have:=mQ hge (by rw [show f + k + 1 = f + 1 + k by omega]; exact hlt)
   omega
  ·have : Go.bitLen (s * 2 ^ k + r) ≤ f + 1 + k:=by
    refine Decidable.byContradiction fun hn => ?_
    have:=fM (x:=s * 2 ^ k + r) (k:=f + 1 + k) (by omega)
    omega
   omega
 unfold aO
 rw [hu,wN _ _ _ hr]
theorem gC (f L X c : Nat) (hf : 1 ≤ f) : aO f L X ≤ c ↔ 2 * X < cm f L c ∨ (2 * X = cm f L c ∧ c % 2 = 0):=by
 obtain ⟨s,k,h0,h1,h2,h3,h4,h5,h6⟩:=nW f L c
 have hp:=Nat.two_pow_pos k
 have e : (s + 1) * 2 ^ k = s * 2 ^ k + 2 ^ k:=by rw [Nat.add_mul,Nat.one_mul]
 have e2 : (2 * s + 1) * 2 ^ k = 2 * (s * 2 ^ k) + 2 ^ k:=by rw [Nat.add_mul,Nat.one_mul,Nat.mul_assoc]
 by_cases hlo : X < bd f L c
 ·have hc:=dA f L (Nat.le_of_lt hlo)
  rw [bU] at hc
  rw [h6,e2]
  rw [h4] at hlo
  exact ⟨fun _ => Or.inl (by omega),fun _ => hc⟩
 ·by_cases hhi : bd f L (c + 1) ≤ X
  ·have hc:=dA f L hhi
   rw [bU] at hc
   rw [h6,e2]
   rw [h5,e] at hhi
   exact ⟨fun h => by omega,fun h => by omega⟩
  ·rw [h4] at hlo
   rw [h5,e] at hhi
   obtain ⟨r,rfl⟩ : ∃ r,X = s * 2 ^ k + r:=⟨X - s * 2 ^ k,by omega⟩
   rw [wO f L s k r h1 h2 h3 (by omega),h6,e2]
   have hpar : c % 2 = s % 2:=by
    obtain ⟨g,rfl⟩ : ∃ g,f = g + 1:=⟨f - 1,by omega⟩
    rw [h0,Nat.pow_succ,← Nat.mul_assoc]
    omega
   generalize (k - L) * 2 ^ f = z at *
   generalize s * 2 ^ k = sk at *
   generalize 2 ^ k = pk at *
   split
   ·rename_i hh
    constructor
    ·intro h
     omega
    ·intro h
     omega
   ·rename_i hh
    constructor
    ·intro _
     omega
    ·intro _
     omega
def bH (f L T c : Nat) : Prop:=4 * T < cm f L c * cm f L c ∨ (4 * T = cm f L c * cm f L c ∧ c % 2 = 0)
theorem j6 {a b : Nat} : a * a < b * b ↔ a < b:=by
 constructor
 ·intro h
  refine Decidable.byContradiction fun hn => ?_
  have:=Nat.mul_le_mul (show b ≤ a by omega) (show b ≤ a by omega)
  omega
 ·intro h
  exact Nat.mul_lt_mul'' h h
theorem aqk {a b : Nat} : a * a ≤ b * b ↔ a ≤ b:=by
 have:=@j6 b a
 omega
theorem qi {f L T T' c : Nat} (h : T ≤ T') (h' : bH f L T' c) : bH f L T c:=by
 unfold bH at *
 omega
theorem dX {f L T c d : Nat} (h : bH f L T c) (hd : c ≤ d) : bH f L T d:=by
 by_cases he : c = d
 ·rw [← he]; exact h
 ·have h1:=aht (f:=f) (L:=L) (show c < d by omega)
  have h2:=j6.2 h1
  unfold bH at *
  omega
theorem ahu (f L N q m j s k : Nat) (hq : q * q ≤ N) (hq1 : N < (q + 1) * (q + 1)) (hm : m = if q * q = N then 0 else 1) (hk : j + 1 ≤ k) (hj : 1 ≤ j) (c : Nat) (hc : cm f L c = (2 * s + 1) * 2 ^ k) :
 bH f L (N * (2 ^ j * 2 ^ j)) c ↔ (2 * ((2 * q + m) * 2 ^ (j - 1)) < cm f L c ∨ (2 * ((2 * q + m) * 2 ^ (j - 1)) = cm f L c ∧ c % 2 = 0)):=by
 obtain ⟨i,rfl⟩ : ∃ i,k = j + 1 + i:=⟨k - (j + 1),by omega⟩
 have hp:=Nat.two_pow_pos j
 obtain ⟨D,hD⟩ : ∃ D,D = (2 * s + 1) * 2 ^ i:=⟨_,rfl⟩
 have e1 : cm f L c = 2 * D * 2 ^ j:=by
  rw [hc,hD,Nat.pow_add,Nat.pow_succ]
  simp only [Nat.mul_comm,Nat.mul_left_comm,Nat.mul_assoc]
 have e2 : 2 * ((2 * q + m) * 2 ^ (j - 1)) = (2 * q + m) * 2 ^ j:=by
  obtain ⟨t,rfl⟩ : ∃ t,j = t + 1:=⟨j - 1,by omega⟩
  rw [Nat.add_sub_cancel,Nat.pow_succ,Nat.mul_comm 2,Nat.mul_assoc]
 have e3 : cm f L c * cm f L c = 4 * (D * D) * (2 ^ j * 2 ^ j):=by
  rw [e1,Nat.mul_mul_mul_comm,Nat.mul_mul_mul_comm 2 D 2 D]
 have hp2 : 0 < 2 ^ j * 2 ^ j:=Nat.mul_pos hp hp
 unfold bH
 rw [e3,← Nat.mul_assoc 4 N,Nat.mul_lt_mul_right hp2,e2,e1,Nat.mul_lt_mul_right hp,Nat.mul_right_cancel_iff hp2,Nat.mul_right_cancel_iff hp]
 have hm1 : m ≤ 1:=by rw [hm]; split <;> omega
 have a1 : 4 * N < 4 * (D * D) ↔ 2 * q + m < 2 * D:=by
  constructor
  ·intro h
   have h2 : q < D:=j6.1 (by omega)
   omega
  ·intro h
   have h2:=Nat.mul_le_mul (show q + 1 ≤ D by omega) (show q + 1 ≤ D by omega)
   omega
 have a2 : 4 * N = 4 * (D * D) ↔ 2 * q + m = 2 * D:=by
  constructor
  ·intro h
   have h1 : q ≤ D:=aqk.1 (by omega)
   have h2 : D < q + 1:=j6.1 (by omega)
   have h3 : q = D:=by omega
   subst h3
   rw [hm,if_pos (by omega)]
   rfl
  ·intro h
   have h0 : m = 0:=by omega
   have h3 : q = D:=by omega
   subst h3
   rw [hm] at h0
   split at h0
   ·omega
   ·omega
 rw [a1,a2]
theorem wQ (f L N q m j : Nat) (hf : 1 ≤ f) (hq : q * q ≤ N) (hq1 : N < (q + 1) * (q + 1)) (hm : m = if q * q = N then 0 else 1) (hj : 1 ≤ j) (hb : f + 3 ≤ Go.bitLen q) (c : Nat) :
 bH f L (N * (2 ^ j * 2 ^ j)) c ↔ aO f L ((2 * q + m) * 2 ^ (j - 1)) ≤ c:=by
 have hm1 : m ≤ 1:=by rw [hm]; split <;> omega
 obtain ⟨X,hX⟩ : ∃ X,X = (2 * q + m) * 2 ^ (j - 1):=⟨_,rfl⟩
 have hge : 2 ^ (f + 2 + j) ≤ X:=by
  have h1 : 2 ^ (f + 2) ≤ q:=fM (by omega)
  have h2 : 2 ^ (f + 3) ≤ 2 * q + m:=by rw [show f + 3 = f + 2 + 1 by omega,Nat.pow_succ]; omega
  have h3:=Nat.mul_le_mul_right (2 ^ (j - 1)) h2
  rw [← Nat.pow_add,show f + 3 + (j - 1) = f + 2 + j by omega] at h3
  rw [hX]
  exact h3
 -- floats whose last bit lies too low are far below
 have hfar : ∀ s k,s < 2 ^ (f + 1) → k ≤ j → (s + 1) * 2 ^ k ≤ 2 ^ (f + 1 + j):=fun s k h1 h2 => by
  have h3:=Nat.mul_le_mul (show s + 1 ≤ 2 ^ (f + 1) by omega) (Nat.pow_le_pow_right (show 0 < 2 by omega) h2)
  rw [← Nat.pow_add] at h3
  exact h3
 have hpj:=nV (f + 1 + j)
 rw [show f + 1 + j + 1 = f + 2 + j by omega] at hpj
 have hlow : ∀ d,(∃ s k,cm f L d = (2 * s + 1) * 2 ^ k ∧ j + 1 ≤ k) ∨ bd f L (d + 1) ≤ 2 ^ (f + 1 + j):=fun d => by
  obtain ⟨s,k,h0,h1,h2,h3,h4,h5,h6⟩:=nW f L d
  by_cases hk : j + 1 ≤ k
  ·exact Or.inl ⟨s,k,h6,hk⟩
  ·exact Or.inr (by rw [h5]; exact hfar s k h1 (by omega))
 rcases hlow c with ⟨s,k,h1,h2⟩ | h
 ·rw [ahu f L N q m j s k hq hq1 hm h2 hj c h1,← hX,gC f L X c hf]
 ·-- both are false
  have hmid : cm f L c ≤ 2 * 2 ^ (f + 1 + j):=by
   have:=(jh (f:=f) (L:=L) (c:=c) (d:=c + 1)).2 (by omega)
   unfold cm
   omega
  have hpp:=Nat.two_pow_pos (f + 1 + j)
  constructor
  ·intro hr
   exfalso
   have hT : 2 ^ (f + 2 + j) * 2 ^ (f + 2 + j) ≤ N * (2 ^ j * 2 ^ j):=by
    have g1 : 2 ^ (f + 2) ≤ q:=fM (by omega)
    have g2:=Nat.le_trans (Nat.mul_le_mul g1 g1) hq
    have g3:=Nat.mul_le_mul_right (2 ^ j * 2 ^ j) g2
    rw [Nat.mul_mul_mul_comm,← Nat.pow_add] at g3
    exact g3
   have hM:=Nat.mul_le_mul hmid hmid
   rw [hpj] at hT
   have e : 2 * 2 ^ (f + 1 + j) = 2 ^ (f + 1 + j) + 2 ^ (f + 1 + j):=by omega
   rw [e] at hM
   have hpos : 0 < (2 ^ (f + 1 + j) + 2 ^ (f + 1 + j)) * (2 ^ (f + 1 + j) + 2 ^ (f + 1 + j)):=Nat.mul_pos (by omega) (by omega)
   unfold bH at hr
   omega
  ·intro hc
   exfalso
   rw [← hX,gC f L X c hf] at hc
   omega
end Go.Proofs.YtpbgpdmffejdgaaGreatDoor

/- MInF, MNearY, MExact, MExactX, MRefTw, MProdB, MProdR, MProdC, MNearQw, MQuoB, MQuoR, MRadB, MCsM, MCsC, MCsE. -/
import Derived.Test.YtpbgpdmffejdgaaGreatDoorG01
import Derived.Test.YtpbgpdmffejdgaaGreatDoorG02
import Derived.Test.YtpbgpdmffejdgaaGreatDoorG04
import Derived.Test.YtpbgpdmffejdgaaGreatDoorG16
import Derived.Test.YtpbgpdmffejdgaaGreatDoorG18
import Derived.Test.YtpbgpdmffejdgaaGreatDoorG19
import Derived.Test.YtpbgpdmffejdgaaGreatDoorG20
import Derived.Test.YtpbgpdmffejdgaaGreatDoorG24
import Derived.Test.YtpbgpdmffejdgaaGreatDoorG30
import Derived.Test.YtpbgpdmffejdgaaGreatDoorG31
import Derived.Test.YtpbgpdmffejdgaaGreatDoorG37
import Derived.Test.YtpbgpdmffejdgaaGreatDoorG41
namespace Go.Proofs.YtpbgpdmffejdgaaGreatDoor
open Go.RowKit
open Go.Proofs.YtpbgpdmffejdgaaGreatDoor.W
theorem Wm.nat {w H M : Int} {n : Nat} (k : Wm w n H M) (a : Int) : ∃ A : Nat,a % M = (A : Int) ∧ A < 2 ^ n:=by
 obtain ⟨h0,h1⟩:=k.cut a
 obtain ⟨-,k2,-⟩:=k.two
 exact ⟨(a % M).toNat,by omega,by omega⟩
theorem Wm.sh {w H M : Int} {n : Nat} (k : Wm w n H M) (b : Int) : ∃ s : Nat,b % w = (s : Int) ∧ s < n:=by
 obtain ⟨-,-,k3,k4,-⟩:=k.two
 have h0:=Int.emod_nonneg b (show w ≠ 0 by omega)
 have h1:=Int.emod_lt_of_pos b (show 0 < w by omega)
 exact ⟨(b % w).toNat,by omega,by omega⟩
theorem alh {w H M : Int} {n : Nat} (k : Wm w n H M) : Ct 221 #[.int .i64 w] (.bool true):=by
 obtain ⟨e,f,P,Q,b,kd,hH⟩:=k.kd
 have h:=ajk (ab (fun W => dS kd.wd W))
 rw [show (e != 0) = true by rcases kd with h | h <;> (obtain ⟨-,rfl,-⟩:=h; rfl)] at h
 exact h
theorem apo {A : Nat} (hA : A < 18446744073709551616) : Ct 222 #[.int .u64 (A : Int)] (.int .i64 (Go.bitLen A : Nat)):=by
 refine ab (fun W => (gS (A : Int) W (by omega) (by omega)).mono ?_)
 rintro _ _ ⟨rfl,rfl⟩
 rw [Int.toNat_natCast]
 exact ⟨rfl,Below.refl _ _⟩
theorem zg {A n : Nat} (h : A < 2 ^ n) : Go.bitLen A ≤ n:=by
 obtain ⟨-,h2⟩:=Go.bitLen_spec A
 by_cases h0 : A = 0
 ·subst h0; exact Nat.zero_le n
 ·refine Decidable.byContradiction fun hn => ?_
  have:=Nat.pow_le_pow_right (show 0 < 2 by omega) (show n ≤ Go.bitLen A - 1 by omega)
  have:=h2 h0
  omega
theorem app {w H M : Int} {n : Nat} (k : Wm w n H M) {a : Int} {A : Nat} (hr : Rg a) (ha : a % M = (A : Int)) (hA : A < 2 ^ n) : Ct 143 #[.int .i64 w,.int .u64 a] (.int .u64 ((n - Go.bitLen A : Nat) : Int)):=by
 obtain ⟨-,k2,k3,-,k5,-,k7⟩:=k.two
 have HC:=bG k hr
 rw [ha] at HC
 have hl:=zg hA
 exact aps (alh k) HC (apo (by omega)) (show IntKind.i64.wrap (w - (Go.bitLen A : Nat)) = ((n - Go.bitLen A : Nat) : Int) by rw [IntKind.wrap_i64]; omega) (by rw [IntKind.wrap_u64]; omega)
theorem apq {w H M : Int} {n : Nat} (k : Wm w n H M) {a : Nat} (h : a < 18446744073709551616) : Cm 144 #[.int .i64 w,.int .u64 (a : Int)] (.int .u64 ((min n (Lib.ctz 64 a) : Nat) : Int)):=by
 obtain ⟨-,k2,k3,-,k5,-,k7⟩:=k.two
 have HT : Cm 223 #[.int .u64 (a : Int)] (.int .i64 ((Lib.ctz 64 a : Nat) : Int)):=by
  refine ab (fun W m => (zl a h W m).mono ?_)
  rintro _ _ ⟨rfl,rfl⟩
  exact ⟨rfl,Below.refl _ _⟩
 by_cases g : n ≤ Lib.ctz 64 a
 ·rw [Nat.min_eq_left g]
  exact ali (alh k) HT (by omega) (by rw [IntKind.wrap_u64]; omega)
 ·rw [Nat.min_eq_right (by omega)]
  exact alj (alh k) HT (by omega) (by rw [IntKind.wrap_u64]; omega)
theorem afy {n a A : Nat} (hn : n ≤ 64) (h : a < 18446744073709551616) (hA : a % 2 ^ n = A) : (A = 0 ∧ min n (Lib.ctz 64 a) = n) ∨ (∃ t,min n (Lib.ctz 64 a) = t ∧ t < n ∧ A / 2 ^ t % 2 = 1 ∧ A % 2 ^ t = 0):=by
 by_cases h0 : a = 0
 ·subst h0
  refine Or.inl ⟨by rw [← hA,Nat.zero_mod],?_⟩
  rw [show Lib.ctz 64 0 = 64 from rfl,Nat.min_eq_left hn]
 ·obtain ⟨m,hm,ht⟩:=Lib.ctzFrom_spec 64 a (by omega) h
  rw [show Lib.ctzFrom 64 a = Lib.ctz 64 a by unfold Lib.ctz; rw [if_neg h0]] at hm ht
  generalize Lib.ctz 64 a = t at *
  by_cases g : n ≤ t
  ·refine Or.inl ⟨?_,Nat.min_eq_left g⟩
   rw [← hA,hm,show t = n + (t - n) by omega,Nat.pow_add,Nat.mul_assoc,Nat.mul_mod_right]
  ·refine Or.inr ⟨t,Nat.min_eq_right (by omega),by omega,?_,?_⟩
   ·have e : A / 2 ^ t = a / 2 ^ t % 2 ^ (n - t):=by
     rw [← hA,show n = t + (n - t) by omega,Nat.pow_add,Nat.mod_mul_right_div_self,show t + (n - t) - t = n - t by omega]
    have e2 : a / 2 ^ t = 2 * m + 1:=by
     rw [hm,Nat.mul_div_cancel_left _ (Nat.two_pow_pos t)]
    rw [e,e2,Nat.mod_mod_of_dvd _ (by have:=Nat.pow_dvd_pow 2 (show 1 ≤ n - t by omega); simpa using this)]
    omega
   ·rw [← hA,Nat.mod_mod_of_dvd _ (Nat.pow_dvd_pow 2 (by omega)),hm,Nat.mul_mod_right]
set_option maxHeartbeats 2000000
theorem mU {x i : Nat} (h : Go.bitLen x ≤ 32 * i) : x < pw i:=by rw [fS]; exact fd h
theorem aa2 : 1 < pw 300:=ck (k:=1) 300 (by rw [re]; omega) (by omega)
theorem ur {x y : Nat} (h : y ≤ x) : decide (aK x y < 0) = false:=df (fun hn => by have:=t7 h; omega)
theorem pL {f b k : Int} (x : Nat) (hx0 : x ≠ 0) (f0 : 0 ≤ f ∧ f ≤ 52) (hL : -1074 ≤ 1 - b - f ∧ 1 - b - f ≤ 0) (k0 : -4000 ≤ k) (k1 : k ≤ 4000) (hx : x < pw 140) {q : Int}
 (hq : q = if (Go.bitLen x : Int) - 1 + k - f < 1 - b - f then 1 - b - f else (Go.bitLen x : Int) - 1 + k - f) :
 aT f.toNat (av f b) (x * 2 ^ (k + 5000).toNat) = (q + 5000).toNat ∧
 ∀ (a b' : Option Addr) (na ca nb cb : Nat) (W : World),ai W (.slice a na ca) x → ai W (.slice b' nb cb) 1 →
  Calls Tryz.prog 258 #[.agg #[.slice a na ca],.agg #[.slice b' nb cb],.int .i64 (k - q)] W fun r W' => ∃ s',r = .returned (.agg #[s']) ∧ ai W' s' (bk (x * 2 ^ (k + 5000).toNat) (2 ^ (q + 5000).toNat)) ∧ Below W.heap.size W W':=by
 have hl:=dO x (k + 5000).toNat hx0
 have hbp:=gx hx0
 have hb140 : Go.bitLen x ≤ 4480:=by have:=gU hx; omega
 have hqr : 1 - b - f ≤ q ∧ (Go.bitLen x : Int) - 1 + k - f ≤ q ∧ q ≤ 9000 ∧ q - k ≤ 8600:=by rw [hq]; split <;> omega
 refine ⟨?_,?_⟩
 ·unfold aT av
  rw [hl,hq]
  split <;> omega
 ·intro a b' na ca nb cb W ha hb
  have h1:=aa2
  have h300 : x < pw 300:=ck 300 hx (by omega)
  by_cases h0 : 0 ≤ k - q
  ·have e : bk (x * 2 ^ (k + 5000).toNat) (2 ^ (q + 5000).toNat) = bk (x * 2 ^ (k - q).toNat) 1:=by
    rw [cd (k + 5000).toNat (k - q).toNat (q + 5000).toNat (by omega),← Nat.mul_assoc]
    have:=cC (x * 2 ^ (k - q).toNat) 1 (2 ^ (q + 5000).toNat) (Nat.two_pow_pos _)
    rw [Nat.one_mul] at this
    exact this
   rw [e]
   refine pP a b' na ca nb cb x 1 (k - q) W ha hb h300 ?_ (by omega) h1 h0 (by omega)
   refine mU ?_
   rw [dO x _ hx0]
   omega
  ·have e : bk (x * 2 ^ (k + 5000).toNat) (2 ^ (q + 5000).toNat) = bk x (1 * 2 ^ (-(k - q)).toNat):=by
    rw [cd (q + 5000).toNat (-(k - q)).toNat (k + 5000).toNat (by omega),cC _ _ _ (Nat.two_pow_pos _),Nat.one_mul]
   rw [e]
   exact pQ a b' na ca nb cb x 1 (k - q) W ha hb h300 (rA _) h1 (nI (by omega)) h0 (by omega) (aj (by omega) (by omega))
theorem pM {w e f P Q b k q : Int} {n u : Bool} (kd : Kd w e f P Q b) (a b' : Option Addr) (na ca nb cb x y G : Nat) (w0 : World) (hx : ai w0 (.slice a na ca) x) (hy : ai w0 (.slice b' nb cb) y)
 (lx : Go.bitLen x ≤ 10000) (ly : Go.bitLen y ≤ 10000) (k0 : -5000 ≤ k) (k1 : k ≤ 5000) (q0 : 1 - b - f ≤ q) (q1 : q ≤ 9000)
 (hq : (Go.bitLen x : Int) - (Go.bitLen y : Int) + k - f < 1 - b - f ∧ 1 - b - f = q ∨ (Go.bitLen x : Int) - (Go.bitLen y : Int) + k - f = 1 - b - f ∧ 1 - b - f = q ∨ 1 - b - f < (Go.bitLen x : Int) - (Go.bitLen y : Int) + k - f ∧ u = false ∧ (Go.bitLen x : Int) - (Go.bitLen y : Int) + k - f = q ∨
  1 - b - f < (Go.bitLen x : Int) - (Go.bitLen y : Int) + k - f ∧ u = true ∧ (Go.bitLen x : Int) - (Go.bitLen y : Int) + k - f - 1 = q)
 (HU : 1 - b - f < (Go.bitLen x : Int) - (Go.bitLen y : Int) + k - f → Hid (∀ W,ai W (.slice a na ca) x → ai W (.slice b' nb cb) y → Calls Tryz.prog 257 #[.agg #[.slice a na ca],.agg #[.slice b' nb cb],.int .i64 (k - ((Go.bitLen x : Int) - (Go.bitLen y : Int) + k - f) - f)] W fun r W' => r = .returned (.bool u) ∧ Below W.heap.size W W'))
 (HG : Hid (∀ W,ai W (.slice a na ca) x → ai W (.slice b' nb cb) y → Calls Tryz.prog 258 #[.agg #[.slice a na ca],.agg #[.slice b' nb cb],.int .i64 (k - q)] W fun r W' => ∃ s',r = .returned (.agg #[s']) ∧ ai W' s' G ∧ Below W.heap.size W W'))
 (hup : (G : Int) ≤ 2 * P) (hdn : 1 - b - f < q → P ≤ (G : Int)) :
 Calls Tryz.prog 202 #[.int .i64 w,.bool n,.agg #[.slice a na ca],.agg #[.slice b' nb cb],.int .i64 k] w0 fun r W' => r = .returned (.int .u64 (fl f P Q n (lid P Q ((q - (1 - b - f)) * P + G)))) ∧ Below w0.heap.size w0 W':=by
 have HF:=ab (fun W => d9 kd W)
 have HL:=ab (fun W => si kd W)
 have HT:=ab (fun W => cO kd W)
 have H2:=ab (fun W => oO kd W)
 have HI:=ab (fun W => cP n kd W)
 have HM:=fun (X Y : Int) (x0 : 0 ≤ X) (x1 : X < Q) (y0 : 0 ≤ Y) (y1 : Y < P) => ab (fun W => eQ n X Y kd W x0 x1 y0 y1)
 have kd':=kd
 have h54 : G < 2 ^ 54:=by rcases kd with ⟨_,_,_,rfl,_⟩ | ⟨_,_,_,rfl,_⟩ <;> omega
 have hG3 : G < pw 300:=mU (Nat.le_trans (dC h54) (by omega))
 have go : ∀ {q2 S V : Int} {G2 : Nat},-2000 ≤ q2 → q2 ≤ 10000 → _ → _ → Calls Tryz.prog 202 #[.int .i64 w,.bool n,.agg #[.slice a na ca],.agg #[.slice b' nb cb],.int .i64 k] w0 fun r W' => r = .returned (.int .u64 V) ∧ Below w0.heap.size w0 W':=fun {q2 S V G2} a1 a2 HQ HC =>
  aml (u:=u) (q:=q) (q2:=q2) (S:=S) (V:=V) a b' na ca nb cb x y G G2 w0 hx hy HF HL HT H2 rfl rfl rfl ⟨by omega,by omega⟩ ⟨by omega,by omega⟩ ⟨by omega,by omega⟩ (by rcases kd' with h | h <;> omega) (by rcases kd' with h | h <;> omega) (by rcases kd' with h | h <;> omega) ⟨by rcases kd' with h | h <;> omega,by omega⟩ ⟨by omega,by omega⟩ rfl
   (by rw [aj (by rcases kd' with h | h <;> omega) (by rcases kd' with h | h <;> omega)]; exact hq) (fun h z hz => by rw [hz]; exact HU h) (fun z hz => by rw [hz]; exact HG) HQ HC
 have lq : -2000 ≤ q:=by rcases kd' with h | h <;> omega
 unfold lid
 rcases kd with ⟨-,-,hf,hp,hQ,hb⟩ | ⟨-,-,hf,hp,hQ,hb⟩
 all_goals
  by_cases hbig : 2 * P ≤ G
  ·have d : f + 1 < (Go.bitLen G : Int):=by
    have hG : G = 2 * P.toNat:=by omega
    rw [hG,hf,hp]
    decide +kernel
   have hs : lo (G / 2 ^ 1) = P:=by rw [show G / 2 ^ 1 = P.toNat by omega,fH (by omega)]; omega
   have HQ : ¬ f + 1 < (Go.bitLen G : Int) ∧ q = q + 1 ∧ G = G / 2 ^ 1 ∨ f + 1 < (Go.bitLen G : Int) ∧ Hid (G < pw 300) ∧ IntKind.i64.wrap (q + 1) = q + 1 ∧ G / 2 ^ 1 = G / 2 ^ 1:=Or.inr ⟨d,hG3,aj (by omega) (by omega),rfl⟩
   by_cases g : 1 - b - f + (Q - 1) - 2 < q + 1
   ·rw [if_pos (by rw [hp]; omega),cI n (x:=Q - 1) (y:=0) (by rw [hp,hQ]; rfl) (by rw [hp,hQ]; rfl)]
    exact go (S:=0) (by omega) (by omega) HQ (Or.inl ⟨dt g,HI⟩)
   ·rw [if_neg (by rw [hp]; omega),cI n (x:=q + 1 - (1 - b - f) + 1) (y:=P - P) (by rw [hp]; omega) (by rw [hp]; omega)]
    exact go (by omega) (by omega) HQ (Or.inr ⟨df g,hs,Or.inr ⟨df (by omega),by rw [Int.sub_self]; decide,fun z hz => by rw [hz]; exact HM _ _ (by omega) (by omega) (by omega) (by omega)⟩⟩)
  ·have d : ¬ f + 1 < (Go.bitLen G : Int):=by
    have:=dC (v:=G) (k:=f.toNat + 1) (by rw [show (2 : Nat) ^ (f.toNat + 1) = 2 * P.toNat by rw [hf,hp]; decide +kernel]; omega)
    omega
   have hs : lo G = (G : Int):=fH (by omega)
   have HQ : ¬ f + 1 < (Go.bitLen G : Int) ∧ q = q ∧ G = G ∨ f + 1 < (Go.bitLen G : Int) ∧ Hid (G < pw 300) ∧ IntKind.i64.wrap (q + 1) = q ∧ G / 2 ^ 1 = G:=Or.inl ⟨d,rfl,rfl⟩
   by_cases g : 1 - b - f + (Q - 1) - 2 < q
   ·rw [if_pos (by rw [hp]; omega),cI n (x:=Q - 1) (y:=0) (by rw [hp,hQ]; rfl) (by rw [hp,hQ]; rfl)]
    exact go (S:=0) (by omega) (by omega) HQ (Or.inl ⟨dt g,HI⟩)
   ·rw [if_neg (by rw [hp]; omega)]
    by_cases t : (G : Int) < P
    ·rw [cI n (x:=0) (y:=(G : Int)) (by rw [hp]; omega) (by rw [hp]; omega)]
     exact go (by omega) (by omega) HQ (Or.inr ⟨df g,hs,Or.inl ⟨dt t,HM _ _ (by omega) (by omega) (by omega) (by omega)⟩⟩)
    ·rw [cI n (x:=q - (1 - b - f) + 1) (y:=(G : Int) - P) (by rw [hp]; omega) (by rw [hp]; omega)]
     exact go (by omega) (by omega) HQ (Or.inr ⟨df g,hs,Or.inr ⟨df t,by rw [IntKind.wrap_u64]; omega,fun z hz => by rw [hz]; exact HM _ _ (by omega) (by omega) (by omega) (by omega)⟩⟩)
theorem sf {w e f P Q b k : Int} {n : Bool} (kd : Kd w e f P Q b) (a b' : Option Addr) (na ca nb cb x : Nat) (w0 : World) (hx : ai w0 (.slice a na ca) x) (hy : ai w0 (.slice b' nb cb) 1)
 (hx0 : x ≠ 0) (k0 : -4000 ≤ k) (k1 : k ≤ 4000) (h140 : x < pw 140) :
 Calls Tryz.prog 202 #[.int .i64 w,.bool n,.agg #[.slice a na ca],.agg #[.slice b' nb cb],.int .i64 k] w0 fun r W' => r = .returned (.int .u64 (fl f P Q n (lid P Q (aO f.toNat (av f b) (x * 2 ^ (k + 5000).toNat) : Nat)))) ∧ Below w0.heap.size w0 W':=by
 obtain ⟨hP,f0,f1,l0,l1,b0,b1⟩:=kd.pow
 obtain ⟨q,hq0⟩ : ∃ q : Int,q = if (Go.bitLen x : Int) - 1 + k - f < 1 - b - f then 1 - b - f else (Go.bitLen x : Int) - 1 + k - f:=⟨_,rfl⟩
 obtain ⟨hu,hg⟩:=pL x hx0 ⟨f0,f1⟩ ⟨l0,l1⟩ k0 k1 h140 hq0
 have hbp:=gx hx0
 have hb140 : Go.bitLen x ≤ 4480:=by have:=gU h140; omega
 have hup:=nL f.toNat (av f b) (x * 2 ^ (k + 5000).toNat)
 have hdn:=fun h => nM (f:=f.toNat) (L:=av f b) (X:=x * 2 ^ (k + 5000).toNat) h
 have hqr : 1 - b - f ≤ q ∧ q ≤ 9000:=by rw [hq0]; split <;> omega
 have hcode : ((aO f.toNat (av f b) (x * 2 ^ (k + 5000).toNat) : Nat) : Int) = (q - (1 - b - f)) * P + (bk (x * 2 ^ (k + 5000).toNat) (2 ^ (q + 5000).toNat) : Nat):=by
  unfold aO
  rw [hu,hP,show q - (1 - b - f) = (((q + 5000).toNat - av f b : Nat) : Int) by unfold av; omega]
  simp
 rw [hcode]
 rw [hu] at hup hdn
 generalize bk (x * 2 ^ (k + 5000).toNat) (2 ^ (q + 5000).toNat) = G at *
 have hup' : (G : Int) ≤ 2 * P:=by rw [hP]; omega
 have hdn' : 1 - b - f < q → P ≤ (G : Int):=fun h => by
  rw [hP]
  have:=hdn (by unfold av; omega)
  omega
 clear hcode hup hdn hu
 have hl1 : (Go.bitLen 1 : Int) = 1:=rfl
 refine pM (u:=false) kd a b' na ca nb cb x 1 G w0 hx hy (by omega) (by omega) (by omega) (by omega) hqr.1 hqr.2 ?_ ?_ (ab (hg a b' na ca nb cb)) hup' hdn'
 ·rw [hl1]
  by_cases hc : (Go.bitLen x : Int) - 1 + k - f < 1 - b - f
  ·rw [if_pos hc] at hq0
   exact Or.inl ⟨hc,hq0.symm⟩
  ·rw [if_neg hc] at hq0
   by_cases he : (Go.bitLen x : Int) - 1 + k - f = 1 - b - f
   ·exact Or.inr (Or.inl ⟨he,by omega⟩)
   ·exact Or.inr (Or.inr (Or.inl ⟨by omega,rfl,hq0.symm⟩))
 ·intro hlt W ha hb
  have hs : k - ((Go.bitLen x : Int) - (Go.bitLen 1 : Int) + k - f) - f = 1 - (Go.bitLen x : Int):=by omega
  have hxl:=fM (x:=x) (k:=Go.bitLen x - 1) (by omega)
  rw [hs]
  by_cases h1 : 0 ≤ 1 - (Go.bitLen x : Int)
  ·have hu:=pN a b' na ca nb cb x 1 (1 - (Go.bitLen x : Int)) W ha hb (ck 300 h140 (by omega)) h1 (by omega)
   rw [ur (by have:=Nat.two_pow_pos (1 - (Go.bitLen x : Int)).toNat; exact Nat.mul_pos (by omega) this)] at hu
   exact hu
  ·have hu:=pO a b' na ca nb cb x 1 (1 - (Go.bitLen x : Int)) W ha hb aa2 h1 (by omega) (aj (by omega) (by omega))
   rw [ur (by rw [show (-(1 - (Go.bitLen x : Int))).toNat = Go.bitLen x - 1 by omega]; omega)] at hu
   exact hu
set_option maxRecDepth 100000
set_option maxHeartbeats 1000000
theorem ahf {w k V : Int} {n : Bool} (a : Option Addr) (na ca : Nat) (w0 : World) (hz : ((na : Int) == 0) = true) (HC : Ct 174 #[.int .i64 w,.bool n,.int .i64 0,.int .u64 0] (.int .u64 V)) :
 Calls Tryz.prog 185 #[.int .i64 w,.bool n,.agg #[.slice a na ca],.int .i64 k] w0 fun r W' => r = .returned (.int .u64 V) ∧ Below w0.heap.size w0 W':=by
 go_enter Tryz.func185,Tryz.ntmps185
 go_wp2_with fail
 refine cg1 HC fun w1 hb => ?_
 have HB:=ab (ac (ae _ _) hb)
 clear hb
 go_wp2_with fail
 go_ret
 exact ⟨rfl,aa HB⟩
theorem ahg {w k V : Int} {n : Bool} (a : Option Addr) (na ca : Nat) (w0 : World) (hz : ((na : Int) == 0) = false) (g : decide (k < -4000) = true) (HC : Ct 174 #[.int .i64 w,.bool n,.int .i64 0,.int .u64 0] (.int .u64 V)) :
 Calls Tryz.prog 185 #[.int .i64 w,.bool n,.agg #[.slice a na ca],.int .i64 k] w0 fun r W' => r = .returned (.int .u64 V) ∧ Below w0.heap.size w0 W':=by
 go_enter Tryz.func185,Tryz.ntmps185
 go_wp2_with fail
 refine cg1 HC fun w1 hb => ?_
 have HB:=ab (ac (ae _ _) hb)
 clear hb
 go_wp2_with fail
 go_ret
 exact ⟨rfl,aa HB⟩
theorem ahh {w k V : Int} {n : Bool} (a : Option Addr) (na ca : Nat) (w0 : World) (hz : ((na : Int) == 0) = false) (g : decide (k < -4000) = false) (g2 : decide (4000 < k) = true) (HC : Ct 176 #[.int .i64 w,.bool n] (.int .u64 V)) :
 Calls Tryz.prog 185 #[.int .i64 w,.bool n,.agg #[.slice a na ca],.int .i64 k] w0 fun r W' => r = .returned (.int .u64 V) ∧ Below w0.heap.size w0 W':=by
 go_enter Tryz.func185,Tryz.ntmps185
 go_wp2_with fail
 refine cg1 HC fun w1 hb => ?_
 have HB:=ab (ac (ae _ _) hb)
 clear hb
 go_wp2_with fail
 go_ret
 exact ⟨rfl,aa HB⟩
theorem ahi {w k V : Int} {n : Bool} (a : Option Addr) (na ca x : Nat) (w0 : World) (hx : ai w0 (.slice a na ca) x) (hz : ((na : Int) == 0) = false) (g : decide (k < -4000) = false) (g2 : decide (4000 < k) = false)
 (HN : Hid (∀ (b' : Option Addr) (nb cb : Nat) (W : World),ai W (.slice a na ca) x → ai W (.slice b' nb cb) 1 → Calls Tryz.prog 202 #[.int .i64 w,.bool n,.agg #[.slice a na ca],.agg #[.slice b' nb cb],.int .i64 k] W fun r W' => r = .returned (.int .u64 V) ∧ Below W.heap.size W W')) :
 Calls Tryz.prog 185 #[.int .i64 w,.bool n,.agg #[.slice a na ca],.int .i64 k] w0 fun r W' => r = .returned (.int .u64 V) ∧ Below w0.heap.size w0 W':=by
 go_enter Tryz.func185,Tryz.ntmps185
 go_wp2_with fail
 have HB:=ab (ae w0 (.cells #[.slice a na ca] 41)).drew
 have HX:=ab (hx.below (aa HB))
 have HA : Hid ((w0.alloc (.cells #[.slice a na ca] 41)).drew.cell? ⟨w0.heap.size,0,none⟩ = some (.slice a na ca)):=by unfold Hid; simp [go_sem]
 clear hx
 refine wp_region_held_drew (S:=fun w' => w'.cell? ⟨w0.heap.size,0,none⟩ = some (.slice a na ca)) (by kernel_rfl) ?_ (fun hHeld => ?_)
 ·(try dsimp only)
  exact aa HA
 refine aC 7 (by kernel_rfl) ?_
 refine tkA 0 25 1 ?_
 refine tkA 1 26 3 ?_
 refine tkA 2 27 7 ?_
 refine tkA 4 29 23 ?_
 refine rdA 3 31 (fun Kk hKk => ?_)
 go_simp
 refine (dN _).mono ?_
 rintro _ w8 ⟨s8,rfl,hN8,hbl⟩
 obtain ⟨a8,n8,c8,rfl⟩:=hN8.slice
 have H8:=ab hN8
 have HX:=ab ((aa HX).below hbl)
 have HA:=ab (aw hbl (ag (aa HA)) (aa HA))
 have HB:=bt HB hbl
 clear hbl hN8
 (try go_wp2_with fail)
 refine oA hKk (aa HA) fun hHeld => ?_
 clear hKk Kk
 refine rdA 5 63 (fun Kk hKk => ?_)
 go_simp
 refine (aa HN _ _ _ _ (aa HX) (aa H8)).mono ?_
 rintro _ w9 ⟨rfl,hbl⟩
 have HA:=ab (aw hbl (ag (aa HA)) (aa HA))
 have HB:=bt HB hbl
 clear hbl
 (try go_wp2_with fail)
 refine oA hKk (aa HA) fun hHeld => ?_
 clear hKk Kk
 refine tkA 6 8 127 ?_
 refine wpAnyH_done (by kernel_rfl) ?_ _
 clear hHeld
 go_wp2
 go_ret
 exact ⟨rfl,aa HB⟩
def fj (f P Q b : Int) (n : Bool) (x : Nat) (k : Int) : Int:=
 if x = 0 ∨ k < -4000 then put f P Q n 0 0 else if 4000 < k then put f P Q n (Q - 1) 0 else fl f P Q n (lid P Q (aO f.toNat (av f b) (x * 2 ^ (k + 5000).toNat) : Nat))
theorem jx {w e f P Q b k : Int} {n : Bool} (kd : Kd w e f P Q b) (x : Nat) (h140 : x < pw 140) (a : Option Addr) (na ca : Nat) (W : World) (hx : ai W (.slice a na ca) x) :
 Calls Tryz.prog 185 #[.int .i64 w,.bool n,.agg #[.slice a na ca],.int .i64 k] W fun r W' => r = .returned (.int .u64 (fj f P Q b n x k)) ∧ Below W.heap.size W W':=by
 obtain ⟨p1,p2,q1,q2⟩:=kd.pos
 have HM:=ab (fun W => eQ n 0 0 kd W (by omega) (by omega) (by omega) (by omega))
 have hp:=hx.pos
 unfold fj
 by_cases h0 : x = 0
 ·rw [if_pos (Or.inl h0)]
  have : ¬ 0 < na:=by rw [hp]; exact fun h => h h0
  exact ahf a na ca W (aH (by omega)) HM
 ·have hz : ((na : Int) == 0) = false:=au (by have : 0 < na:=(by rw [hp]; exact h0); omega)
  by_cases h1 : k < -4000
  ·rw [if_pos (Or.inr h1)]
   exact ahg a na ca W hz (dt h1) HM
  ·rw [if_neg (fun h => h.elim h0 h1)]
   by_cases h2 : 4000 < k
   ·rw [if_pos h2]
    exact ahh a na ca W hz (df h1) (dt h2) (ab (fun W => cP n kd W))
   ·rw [if_neg h2]
    exact ahi a na ca x W hx hz (df h1) (df h2) (ab (fun b' nb cb W ha hb => sf kd a b' na ca nb cb x W ha hb h0 (by omega) (by omega) h140))
theorem mT {f L X : Nat} (h : Go.bitLen X < L) : aO f L X = 0:=by
 have hu : aT f L X = L:=by unfold aT; omega
 have hX : X < 2 ^ (L - 1):=fd (by omega)
 have hp : 2 ^ L = 2 * 2 ^ (L - 1):=by
  have:=cd L 1 (L - 1) (by omega)
  omega
 unfold aO
 rw [hu,Nat.sub_self,Nat.zero_mul,Nat.zero_add]
 unfold bk
 rw [Nat.mod_eq_of_lt (by omega),Nat.div_eq_of_lt (by omega),if_neg (by omega)]
theorem wg {f L X c : Nat} (h : L + f + 1 + c ≤ Go.bitLen X) : c * 2 ^ f ≤ aO f L X:=by
 unfold aO
 have hu : c ≤ aT f L X - L:=by unfold aT; omega
 exact Nat.le_trans (Nat.mul_le_mul_right _ hu) (Nat.le_add_right _ _)
theorem jy {w e f P Q b : Int} (kd : Kd w e f P Q b) (n : Bool) {X : Nat} (h : aO f.toNat (av f b) X = 0) : fl f P Q n (lid P Q (aO f.toNat (av f b) X : Nat)) = put f P Q n 0 0:=by
 rw [h]
 unfold lid
 rw [if_neg (by rcases kd with ⟨-,-,-,rfl,rfl,-⟩ | ⟨-,-,-,rfl,rfl,-⟩ <;> omega)]
 exact cI n (by simp) (by simp)
theorem pK {w e f P Q b : Int} (kd : Kd w e f P Q b) (n : Bool) {X : Nat} (h : av f b + f.toNat + 1 + 2048 ≤ Go.bitLen X) : fl f P Q n (lid P Q (aO f.toNat (av f b) X : Nat)) = put f P Q n (Q - 1) 0:=by
 have hc:=wg h
 have hP:=kd.pow.1
 have hc' : 2048 * P ≤ ((aO f.toNat (av f b) X : Nat) : Int):=by rw [hP]; omega
 generalize ((aO f.toNat (av f b) X : Nat) : Int) = cc at *
 clear hc hP h
 rcases kd with ⟨rfl,rfl,rfl,rfl,rfl,rfl⟩ | ⟨rfl,rfl,rfl,rfl,rfl,rfl⟩
 ·unfold lid
  rw [if_pos (by omega)]
  exact cI n (by rfl) (by rfl)
 ·unfold lid
  rw [if_pos (by omega)]
  exact cI n (by rfl) (by rfl)
def mq (X : Int) : Int:=if X < -10000 then -10001 else if 10000 < X then 9999 else X - 1
theorem se {w e f P Q b : Int} (kd : Kd w e f P Q b) (n m : Bool) (v : Nat) (X : Int) (hv : W2 v) :
 fj f P Q b n (2 * v + m.toNat) (mq X) = fl f P Q n (lid P Q (aO f.toNat (av f b) (num v m (cap X)) : Nat)):=by
 obtain ⟨hP,f0,f1,l0,l1,b0,b1⟩:=kd.pow
 have hb : Go.bitLen v ≤ 128:=iy hv
 have hzm : ¬ 2 * v + m.toNat = 0 → ¬ (v = 0 ∧ m = false):=fun h hh => h (by rw [hh.1,hh.2]; rfl)
 unfold fj
 by_cases h0 : 2 * v + m.toNat = 0
 ·rw [if_pos (Or.inl h0)]
  refine (jy kd n ?_).symm
  unfold num
  rw [h0,Nat.zero_mul,dB]
 ·have hl:=fun E => uh v m E (hzm h0)
  by_cases h1 : mq X < -4000
  ·rw [if_pos (Or.inr h1)]
   refine (jy kd n (mT ?_)).symm
   rw [hl]
   have : cap X ≤ -4000:=by unfold mq at h1; unfold cap; split at h1 <;> (try split at h1) <;> split <;> (try split) <;> omega
   unfold av
   omega
  ·rw [if_neg (fun h => h.elim h0 h1)]
   by_cases h2 : 4000 < mq X
   ·rw [if_pos h2]
    refine (pK kd n ?_).symm
    rw [hl]
    have : 4002 ≤ cap X:=by unfold mq at h2; unfold cap; split at h2 <;> (try split at h2) <;> split <;> (try split) <;> omega
    unfold av
    omega
   ·rw [if_neg h2]
    have hX : mq X = X - 1 ∧ -3999 ≤ X ∧ X ≤ 4001:=by unfold mq at h1 h2 ⊢; split at h1 <;> (try split at h1) <;> omega
    have hc : cap X = X:=by unfold cap; rw [if_neg (by omega),if_neg (by omega)]
    unfold num
    rw [hc,hX.1,show X - 1 + 5000 = X + 4999 by omega]
theorem ahe {x : Nat} (h : x < pw 5) : x < pw 140:=ck 140 h (by omega)
theorem amk {v : Nat} (hv : W2 v) (m : Bool) : 2 * v + m.toNat < pw 140:=by
 refine ahe ?_
 have:=b8 4
 rw [rh] at this
 rw [this]
 unfold W2 at hv
 have : m.toNat ≤ 1:=by cases m <;> simp
 omega
theorem aay {w e f P Q b low : Int} (k : Kd w e f P Q b) (n : Bool) (z : Nat) (h0 : -1200 ≤ low) (h1 : low ≤ 1100) : fj f P Q b n z low = rd f P Q b n (z * 2 ^ (low + 5000).toNat):=by
 unfold fj
 by_cases hz : z = 0
 ·rw [if_pos (Or.inl hz),hz,Nat.zero_mul,fT k]
 ·rw [if_neg (by omega),if_neg (by omega)]
  rfl
theorem ag9 (j : Nat) : 2 ^ j + 2 ^ j = 2 ^ (j + 1):=by rw [Nat.pow_succ]; omega
theorem vZ {S d j k : Nat} (h : S < 2 ^ j) (hk : j + d ≤ k) : S * 2 ^ d < 2 ^ k:=by
 have h1 : S * 2 ^ d < 2 ^ j * 2 ^ d:=Nat.mul_lt_mul_of_pos_right h (Nat.two_pow_pos d)
 rw [← Nat.pow_add] at h1
 exact Nat.lt_of_lt_of_le h1 (Nat.pow_le_pow_right (by omega) hk)
theorem aha {S d i : Nat} (h : S < 9007199254740992) (hd : 53 + d ≤ 32 * i) : S * 2 ^ d < pw i:=by
 rw [fS]
 exact vZ (j:=53) (by omega) hd
theorem nS {S d : Nat} (h : S < 9007199254740992) (hd : d ≤ 2300) : S * 2 ^ d < pw 100:=aha h (by omega)
theorem ahb {x y j k : Nat} (h1 : x < 2 ^ j) (h2 : y < 2 ^ j) (hk : j + 1 ≤ k) : x + y < 2 ^ k:=by
 have h3 : 2 ^ (j + 1) ≤ 2 ^ k:=Nat.pow_le_pow_right (by omega) hk
 rw [← ag9] at h3
 omega
theorem ahc {x y i k : Nat} (h1 : x < pw i) (h2 : y < pw i) (hk : 32 * i + 1 ≤ 32 * k) : x + y < pw k:=by
 rw [fS] at *
 exact ahb h1 h2 hk
theorem ami {x y : Nat} (h1 : x < pw 100) (h2 : y < pw 100) : x + y < pw 140:=ahc h1 h2 (by omega)
theorem pu {w e f P Q b low : Int} (k : Kd w e f P Q b) (n : Bool) (z M : Nat) (hz : z < pw 140) (h0 : -1200 ≤ low) (h1 : low ≤ 1100) (hM : z * 2 ^ (low + 5000).toNat = M) :
 Hid (∀ (a : Option Addr) (m c : Nat) (W : World),ai W (.slice a m c) z → Calls Tryz.prog 185 #[.int .i64 w,.bool n,.agg #[.slice a m c],.int .i64 low] W fun r W' => r = .returned (.int .u64 (rd f P Q b n M)) ∧ Below W.heap.size W W'):=by
 refine ab (fun a m c W hx => ?_)
 have:=jx (n:=n) (k:=low) k z hz a m c W hx
 rw [aay k n z h0 h1,hM] at this
 exact this
theorem we {w e f P Q b K1 X1 S1 K2 X2 S2 : Int} (k : Kd w e f P Q b) (n1 n2 : Bool) (h1 : Prt f P Q b K1 X1 S1) (h2 : Prt f P Q b K2 X2 S2) (k1 : K1 ≠ 2 ∧ K1 ≠ 3) (k2 : K2 ≠ 2 ∧ K2 ≠ 3) (W : World) :
 Calls Tryz.prog 255 #[.int .i64 w,.agg #[.bool n1,.int .i64 K1,.int .i64 X1,.int .u64 S1],.agg #[.bool n2,.int .i64 K2,.int .i64 X2,.int .u64 S2]] W fun r W' => r = .returned (.int .u64 (cl f P Q b n1 K1 (mag X1 S1) n2 K2 (mag X2 S2))) ∧ Below W.heap.size W W':=by
 obtain ⟨x0,x1,s0,-,s1⟩:=h1.in k
 obtain ⟨y0,y1,t0,-,t1⟩:=h2.in k
 have HS : Hid (0 ≤ S1 ∧ S1 < 18446744073709551616 ∧ S1.toNat < pw 2 ∧ 0 ≤ S2 ∧ S2 < 18446744073709551616 ∧ S2.toNat < pw 2):=by
  rw [lu]
  exact ⟨s0,by omega,by omega,t0,by omega,by omega⟩
 unfold cl
 rw [if_neg (by omega),if_neg (by omega),if_neg (by omega)]
 obtain ⟨L,hL⟩ : ∃ L,X1 ≤ X2 ∧ X1 = L ∨ ¬ X1 ≤ X2 ∧ X2 = L:=by
  by_cases hm : X1 ≤ X2
  ·exact ⟨X1,Or.inl ⟨hm,rfl⟩⟩
  ·exact ⟨X2,Or.inr ⟨hm,rfl⟩⟩
 obtain ⟨d1,hd1⟩ : ∃ d : Nat,X1 - L = (d : Int):=⟨(X1 - L).toNat,by omega⟩
 obtain ⟨d2,hd2⟩ : ∃ d : Nat,X2 - L = (d : Int):=⟨(X2 - L).toNat,by omega⟩
 have b1:=nS (S:=S1.toNat) (d:=d1) (by omega) (by omega)
 have b2:=nS (S:=S2.toNat) (d:=d2) (by omega) (by omega)
 have m1 : S1.toNat * 2 ^ d1 * 2 ^ (L + 5000).toNat = mag X1 S1:=by
  unfold mag
  rw [Nat.mul_assoc,← Nat.pow_add,show d1 + (L + 5000).toNat = (X1 + 5000).toNat by omega]
 have m2 : S2.toNat * 2 ^ d2 * 2 ^ (L + 5000).toNat = mag X2 S2:=by
  unfold mag
  rw [Nat.mul_assoc,← Nat.pow_add,show d2 + (L + 5000).toNat = (X2 + 5000).toNat by omega]
 have hp:=Nat.two_pow_pos (L + 5000).toNat
 rw [← m1,← m2]
 refine ahd W hL HS ⟨fun z hz => by rw [hz,hd1]; exact aj (by omega) (by omega),by omega,fun z hz => by rw [hz,hd2]; exact aj (by omega) (by omega),by omega⟩ ⟨ck 300 b1 (by omega),ck 300 b2 (by omega)⟩ ?_
 by_cases hn : n1 = n2
 ·rw [if_pos hn,← Nat.add_mul]
  exact Or.inl ⟨by simp [hn],pu k n1 _ _ (ami b1 b2) (by omega) (by omega) rfl⟩
 ·rw [if_neg hn]
  refine Or.inr ⟨by simp [hn],?_⟩
  rcases Nat.lt_trichotomy (S1.toNat * 2 ^ d1) (S2.toNat * 2 ^ d2) with hl | he | hl
  ·rw [if_neg (Nat.ne_of_lt (Nat.mul_lt_mul_of_pos_right hl hp)),if_pos (Nat.mul_lt_mul_of_pos_right hl hp),← Nat.sub_mul]
   exact Or.inr (Or.inl ⟨by unfold aK; rw [if_pos hl],Nat.le_of_lt hl,pu k n2 _ _ (Nat.lt_of_le_of_lt (Nat.sub_le _ _) (ck 140 b2 (by omega))) (by omega) (by omega) rfl⟩)
  ·rw [if_pos (by rw [he]),gn k.f0,Int.zero_mul,Int.zero_add]
   exact Or.inl ⟨by unfold aK; rw [if_neg (by rw [he]; exact Nat.lt_irrefl _),if_neg (by rw [he]; exact Nat.lt_irrefl _)],rfl⟩
  ·have hg:=Nat.mul_lt_mul_of_pos_right hl hp
   rw [if_neg (fun h => absurd hg (by rw [h]; exact Nat.lt_irrefl _)),if_neg (Nat.not_lt.2 (Nat.le_of_lt hg)),← Nat.sub_mul]
   exact Or.inr (Or.inr ⟨by unfold aK; rw [if_neg (Nat.not_lt.2 (Nat.le_of_lt hl)),if_pos hl],Nat.le_of_lt hl,pu k n1 _ _ (Nat.lt_of_le_of_lt (Nat.sub_le _ _) (ck 140 b1 (by omega))) (by omega) (by omega) rfl⟩)
theorem jc {w e f P Q b K1 X1 S1 K2 X2 S2 : Int} (k : Kd w e f P Q b) (n1 n2 : Bool) (h1 : Prt f P Q b K1 X1 S1) (h2 : Prt f P Q b K2 X2 S2) (W : World) :
 Calls Tryz.prog 201 #[.int .i64 w,.agg #[.bool n1,.int .i64 K1,.int .i64 X1,.int .u64 S1],.agg #[.bool n2,.int .i64 K2,.int .i64 X2,.int .u64 S2]] W fun r W' => r = .returned (.int .u64 (cl f P Q b n1 K1 (mag X1 S1) n2 K2 (mag X2 S2))) ∧ Below W.heap.size W W':=by
 have HE:=fun k1 k2 => ab (fun W => we k n1 n2 h1 h2 k1 k2 W)
 have HN:=ab (fun W => bN k W)
 have HI:=fun n => ab (fun W => cP n k W)
 by_cases a3 : K1 = 3
 ·rw [show cl f P Q b n1 K1 (mag X1 S1) n2 K2 (mag X2 S2) = put f P Q false (Q - 1) (P / 2) by unfold cl; rw [if_pos (Or.inl a3)]]
  exact pv W (aH a3) HN
 by_cases b3 : K2 = 3
 ·rw [show cl f P Q b n1 K1 (mag X1 S1) n2 K2 (mag X2 S2) = put f P Q false (Q - 1) (P / 2) by unfold cl; rw [if_pos (Or.inr (Or.inl b3))]]
  exact pz W (au a3) (aH b3) HN
 by_cases a2 : K1 = 2
 ·by_cases b2 : K2 = 2
  ·by_cases hn : n1 = n2
   ·rw [show cl f P Q b n1 K1 (mag X1 S1) n2 K2 (mag X2 S2) = put f P Q n1 (Q - 1) 0 by
     unfold cl
     rw [if_neg (by rintro (h | h | ⟨_,_,h⟩); exact a3 h; exact b3 h; exact h hn),if_pos a2]]
    exact pB W (au a3) (au b3) (aH a2) (aH b2) (by simp [hn]) (HI n1)
   ·rw [show cl f P Q b n1 K1 (mag X1 S1) n2 K2 (mag X2 S2) = put f P Q false (Q - 1) (P / 2) by unfold cl; rw [if_pos (Or.inr (Or.inr ⟨a2,b2,hn⟩))]]
    exact pA W (au a3) (au b3) (aH a2) (aH b2) (by simp [hn]) HN
  ·rw [show cl f P Q b n1 K1 (mag X1 S1) n2 K2 (mag X2 S2) = put f P Q n1 (Q - 1) 0 by
    unfold cl
    rw [if_neg (by omega),if_pos a2]]
   exact pC W (au a3) (au b3) (aH a2) (au b2) (HI n1)
 ·by_cases b2 : K2 = 2
  ·rw [show cl f P Q b n1 K1 (mag X1 S1) n2 K2 (mag X2 S2) = put f P Q n2 (Q - 1) 0 by
    unfold cl
    rw [if_neg (by omega),if_neg a2,if_pos b2]]
   exact pD W (au a3) (au b3) (au a2) (aH b2) (HI n2)
  ·exact pE W (au a3) (au b3) (au a2) (au b2) (HE ⟨a2,a3⟩ ⟨b2,b3⟩)
theorem r8 {w e f P Q b x y : Int} (k : Kd w e f P Q b) (W : World) (x0 : 0 ≤ x) (x1 : x < 18446744073709551616) (y0 : 0 ≤ y) (y1 : y < 18446744073709551616) :
 Calls Tryz.prog 110 #[.int .i64 w,.int .u64 x,.int .u64 y] W fun r W' => r = .returned (.int .u64 (il f P Q b x y)) ∧ Below W.heap.size W W':=by
 obtain ⟨X1,S1,o1,p1,m1⟩:=aL k x
 obtain ⟨X2,S2,o2,p2,m2⟩:=aL k y
 have HP:=ab (fun W => jc k (oN P Q x) (oN P Q y) p1 p2 W)
 unfold il
 rw [m1,m2] at HP
 exact aa0 W (ab (fun W => aN x k W x0 x1 o1)) (ab (fun W => aN y k W y0 y1 o2)) HP
theorem r9 {w e f P Q b x y : Int} (k : Kd w e f P Q b) (W : World) (x0 : 0 ≤ x) (x1 : x < 18446744073709551616) (y0 : 0 ≤ y) (y1 : y < 18446744073709551616) :
 Calls Tryz.prog 111 #[.int .i64 w,.int .u64 x,.int .u64 y] W fun r W' => r = .returned (.int .u64 (kv f P Q b x y)) ∧ Below W.heap.size W W':=by
 obtain ⟨X1,S1,o1,p1,m1⟩:=aL k x
 obtain ⟨X2,S2,o2,p2,m2⟩:=aL k y
 have HP:=ab (fun W => jc k (oN P Q x) (!oN P Q y) p1 p2 W)
 unfold kv
 rw [m1,m2] at HP
 exact aa1 W (ab (fun W => aN x k W x0 x1 o1)) (ab (fun W => aN y k W y0 y1 o2)) HP
def di (f P Q b : Int) (n1 : Bool) (K1 : Int) (M1 : Nat) (n2 : Bool) (K2 : Int) (M2 : Nat) : Int:=
 if K1 = 3 ∨ K2 = 3 ∨ (K1 = 2 ∧ K2 = 0) ∨ (K1 = 0 ∧ K2 = 2) then cM f P Q
 else if K1 = 2 ∨ K2 = 2 then put f P Q (n1 != n2) (Q - 1) 0
 else rd f P Q b (n1 != n2) (M1 * M2 / 2 ^ Z5)
def jw (f P Q b x y : Int) : Int:=di f P Q b (oN P Q x) (oK P Q x) (oM f P Q b x) (oN P Q y) (oK P Q y) (oM f P Q b y)
theorem nR {X1 S1 X2 S2 : Int} (h1 : -1200 ≤ X1) (h2 : -1200 ≤ X2) : mag X1 S1 * mag X2 S2 / 2 ^ Z5 = S1.toNat * S2.toNat * 2 ^ (X1 + X2 + 5000).toNat:=by
 unfold mag
 have e : S1.toNat * 2 ^ (X1 + 5000).toNat * (S2.toNat * 2 ^ (X2 + 5000).toNat) = S1.toNat * S2.toNat * 2 ^ (X1 + X2 + 5000).toNat * 2 ^ Z5:=by
  rw [Nat.mul_mul_mul_comm,← Nat.pow_add,Nat.mul_assoc _ (2 ^ (X1 + X2 + 5000).toNat),← Nat.pow_add,show (X1 + 5000).toNat + (X2 + 5000).toNat = (X1 + X2 + 5000).toNat + Z5 by unfold Z5; omega]
 rw [e]
 exact Nat.mul_div_cancel _ (Nat.two_pow_pos Z5)
set_option maxHeartbeats 2000000
theorem wi {w x y K1 X1 S1 K2 X2 S2 V : Int} {n1 n2 : Bool} (W : World) (HO1 : Ct 101 #[.int .i64 w,.int .u64 x] (.agg #[.bool n1,.int .i64 K1,.int .i64 X1,.int .u64 S1])) (HO2 : Ct 101 #[.int .i64 w,.int .u64 y] (.agg #[.bool n2,.int .i64 K2,.int .i64 X2,.int .u64 S2])) (a3 : (K1 == 3) = true)  (HC : Ct 177 #[.int .i64 w] (.int .u64 V)) :
 Calls Tryz.prog 112 #[.int .i64 w,.int .u64 x,.int .u64 y] W fun r W' => r = .returned (.int .u64 V) ∧ Below W.heap.size W W':=by
 go_enter Tryz.func112,Tryz.ntmps112
 go_wp2_with fail
 refine cg1 HO1 fun w1 hb => ?_
 have HB:=ab (ad hb (.cells #[.bool n1,.int .i64 K1,.int .i64 X1,.int .u64 S1] 105))
 have HA:=ab (ak w1 (.bool n1) (.int .i64 K1) (.int .i64 X1) (.int .u64 S1) 105)
 clear hb
 go_wp2_with fail
 refine cg1 HO2 fun w2 hb => ?_
 have HB:=ab (ad (ac (aa HB) hb) (.cells #[.bool n2,.int .i64 K2,.int .i64 X2,.int .u64 S2] 105))
 have HA:=ab (((aa HA).below hb).below (ae _ (.cells #[.bool n2,.int .i64 K2,.int .i64 X2,.int .u64 S2] 105)))
 have HA2:=ab (ak w2 (.bool n2) (.int .i64 K2) (.int .i64 X2) (.int .u64 S2) 105)
 clear hb
 obtain ⟨c0,c1,-,-⟩:=aa HA
 obtain ⟨d0,d1,-,-⟩:=aa HA2
 go_wp2_with fail
 refine cg0 HC HB fun w3 HB => ?_
 go_wp2_with fail
 go_ret
 exact ⟨rfl,aa HB⟩
theorem wj {w x y K1 X1 S1 K2 X2 S2 V : Int} {n1 n2 : Bool} (W : World) (HO1 : Ct 101 #[.int .i64 w,.int .u64 x] (.agg #[.bool n1,.int .i64 K1,.int .i64 X1,.int .u64 S1])) (HO2 : Ct 101 #[.int .i64 w,.int .u64 y] (.agg #[.bool n2,.int .i64 K2,.int .i64 X2,.int .u64 S2])) (a3 : (K1 == 3) = false) (b3 : (K2 == 3) = true)  (HC : Ct 177 #[.int .i64 w] (.int .u64 V)) :
 Calls Tryz.prog 112 #[.int .i64 w,.int .u64 x,.int .u64 y] W fun r W' => r = .returned (.int .u64 V) ∧ Below W.heap.size W W':=by
 go_enter Tryz.func112,Tryz.ntmps112
 go_wp2_with fail
 refine cg1 HO1 fun w1 hb => ?_
 have HB:=ab (ad hb (.cells #[.bool n1,.int .i64 K1,.int .i64 X1,.int .u64 S1] 105))
 have HA:=ab (ak w1 (.bool n1) (.int .i64 K1) (.int .i64 X1) (.int .u64 S1) 105)
 clear hb
 go_wp2_with fail
 refine cg1 HO2 fun w2 hb => ?_
 have HB:=ab (ad (ac (aa HB) hb) (.cells #[.bool n2,.int .i64 K2,.int .i64 X2,.int .u64 S2] 105))
 have HA:=ab (((aa HA).below hb).below (ae _ (.cells #[.bool n2,.int .i64 K2,.int .i64 X2,.int .u64 S2] 105)))
 have HA2:=ab (ak w2 (.bool n2) (.int .i64 K2) (.int .i64 X2) (.int .u64 S2) 105)
 clear hb
 obtain ⟨c0,c1,-,-⟩:=aa HA
 obtain ⟨d0,d1,-,-⟩:=aa HA2
 go_wp2_with fail
 refine cg0 HC HB fun w3 HB => ?_
 go_wp2_with fail
 go_ret
 exact ⟨rfl,aa HB⟩
theorem wk {w x y K1 X1 S1 K2 X2 S2 V : Int} {n1 n2 : Bool} (W : World) (HO1 : Ct 101 #[.int .i64 w,.int .u64 x] (.agg #[.bool n1,.int .i64 K1,.int .i64 X1,.int .u64 S1])) (HO2 : Ct 101 #[.int .i64 w,.int .u64 y] (.agg #[.bool n2,.int .i64 K2,.int .i64 X2,.int .u64 S2])) (a3 : (K1 == 3) = false) (b3 : (K2 == 3) = false) (a2 : (K1 == 2) = true) (b0 : (K2 == 0) = true)  (HC : Ct 177 #[.int .i64 w] (.int .u64 V)) :
 Calls Tryz.prog 112 #[.int .i64 w,.int .u64 x,.int .u64 y] W fun r W' => r = .returned (.int .u64 V) ∧ Below W.heap.size W W':=by
 go_enter Tryz.func112,Tryz.ntmps112
 go_wp2_with fail
 refine cg1 HO1 fun w1 hb => ?_
 have HB:=ab (ad hb (.cells #[.bool n1,.int .i64 K1,.int .i64 X1,.int .u64 S1] 105))
 have HA:=ab (ak w1 (.bool n1) (.int .i64 K1) (.int .i64 X1) (.int .u64 S1) 105)
 clear hb
 go_wp2_with fail
 refine cg1 HO2 fun w2 hb => ?_
 have HB:=ab (ad (ac (aa HB) hb) (.cells #[.bool n2,.int .i64 K2,.int .i64 X2,.int .u64 S2] 105))
 have HA:=ab (((aa HA).below hb).below (ae _ (.cells #[.bool n2,.int .i64 K2,.int .i64 X2,.int .u64 S2] 105)))
 have HA2:=ab (ak w2 (.bool n2) (.int .i64 K2) (.int .i64 X2) (.int .u64 S2) 105)
 clear hb
 obtain ⟨c0,c1,-,-⟩:=aa HA
 obtain ⟨d0,d1,-,-⟩:=aa HA2
 go_wp2_with fail
 refine cg0 HC HB fun w3 HB => ?_
 go_wp2_with fail
 go_ret
 exact ⟨rfl,aa HB⟩
theorem ws {w x y K1 X1 S1 K2 X2 S2 V : Int} {n1 n2 : Bool} (W : World) (HO1 : Ct 101 #[.int .i64 w,.int .u64 x] (.agg #[.bool n1,.int .i64 K1,.int .i64 X1,.int .u64 S1])) (HO2 : Ct 101 #[.int .i64 w,.int .u64 y] (.agg #[.bool n2,.int .i64 K2,.int .i64 X2,.int .u64 S2])) (a3 : (K1 == 3) = false) (b3 : (K2 == 3) = false) (a2 : (K1 == 2) = false) (a0 : (K1 == 0) = true) (b2 : (K2 == 2) = true)  (HC : Ct 177 #[.int .i64 w] (.int .u64 V)) :
 Calls Tryz.prog 112 #[.int .i64 w,.int .u64 x,.int .u64 y] W fun r W' => r = .returned (.int .u64 V) ∧ Below W.heap.size W W':=by
 go_enter Tryz.func112,Tryz.ntmps112
 go_wp2_with fail
 refine cg1 HO1 fun w1 hb => ?_
 have HB:=ab (ad hb (.cells #[.bool n1,.int .i64 K1,.int .i64 X1,.int .u64 S1] 105))
 have HA:=ab (ak w1 (.bool n1) (.int .i64 K1) (.int .i64 X1) (.int .u64 S1) 105)
 clear hb
 go_wp2_with fail
 refine cg1 HO2 fun w2 hb => ?_
 have HB:=ab (ad (ac (aa HB) hb) (.cells #[.bool n2,.int .i64 K2,.int .i64 X2,.int .u64 S2] 105))
 have HA:=ab (((aa HA).below hb).below (ae _ (.cells #[.bool n2,.int .i64 K2,.int .i64 X2,.int .u64 S2] 105)))
 have HA2:=ab (ak w2 (.bool n2) (.int .i64 K2) (.int .i64 X2) (.int .u64 S2) 105)
 clear hb
 obtain ⟨c0,c1,-,-⟩:=aa HA
 obtain ⟨d0,d1,-,-⟩:=aa HA2
 go_wp2_with fail
 refine cg0 HC HB fun w3 HB => ?_
 go_wp2_with fail
 go_ret
 exact ⟨rfl,aa HB⟩
theorem wu {w x y K1 X1 S1 K2 X2 S2 V : Int} {n1 n2 : Bool} (W : World) (HO1 : Ct 101 #[.int .i64 w,.int .u64 x] (.agg #[.bool n1,.int .i64 K1,.int .i64 X1,.int .u64 S1])) (HO2 : Ct 101 #[.int .i64 w,.int .u64 y] (.agg #[.bool n2,.int .i64 K2,.int .i64 X2,.int .u64 S2])) (a3 : (K1 == 3) = false) (b3 : (K2 == 3) = false) (a2 : (K1 == 2) = true) (b0 : (K2 == 0) = false) (a0 : (K1 == 0) = false)  (HC : Ct 176 #[.int .i64 w,.bool (n1 != n2)] (.int .u64 V)) :
 Calls Tryz.prog 112 #[.int .i64 w,.int .u64 x,.int .u64 y] W fun r W' => r = .returned (.int .u64 V) ∧ Below W.heap.size W W':=by
 go_enter Tryz.func112,Tryz.ntmps112
 go_wp2_with fail
 refine cg1 HO1 fun w1 hb => ?_
 have HB:=ab (ad hb (.cells #[.bool n1,.int .i64 K1,.int .i64 X1,.int .u64 S1] 105))
 have HA:=ab (ak w1 (.bool n1) (.int .i64 K1) (.int .i64 X1) (.int .u64 S1) 105)
 clear hb
 go_wp2_with fail
 refine cg1 HO2 fun w2 hb => ?_
 have HB:=ab (ad (ac (aa HB) hb) (.cells #[.bool n2,.int .i64 K2,.int .i64 X2,.int .u64 S2] 105))
 have HA:=ab (((aa HA).below hb).below (ae _ (.cells #[.bool n2,.int .i64 K2,.int .i64 X2,.int .u64 S2] 105)))
 have HA2:=ab (ak w2 (.bool n2) (.int .i64 K2) (.int .i64 X2) (.int .u64 S2) 105)
 clear hb
 obtain ⟨c0,c1,-,-⟩:=aa HA
 obtain ⟨d0,d1,-,-⟩:=aa HA2
 go_wp2_with fail
 refine cg0 HC HB fun w3 HB => ?_
 go_wp2_with fail
 go_ret
 exact ⟨rfl,aa HB⟩
theorem wv {w x y K1 X1 S1 K2 X2 S2 V : Int} {n1 n2 : Bool} (W : World) (HO1 : Ct 101 #[.int .i64 w,.int .u64 x] (.agg #[.bool n1,.int .i64 K1,.int .i64 X1,.int .u64 S1])) (HO2 : Ct 101 #[.int .i64 w,.int .u64 y] (.agg #[.bool n2,.int .i64 K2,.int .i64 X2,.int .u64 S2])) (a3 : (K1 == 3) = false) (b3 : (K2 == 3) = false) (a2 : (K1 == 2) = false) (a0 : (K1 == 0) = false) (b2 : (K2 == 2) = true)  (HC : Ct 176 #[.int .i64 w,.bool (n1 != n2)] (.int .u64 V)) :
 Calls Tryz.prog 112 #[.int .i64 w,.int .u64 x,.int .u64 y] W fun r W' => r = .returned (.int .u64 V) ∧ Below W.heap.size W W':=by
 go_enter Tryz.func112,Tryz.ntmps112
 go_wp2_with fail
 refine cg1 HO1 fun w1 hb => ?_
 have HB:=ab (ad hb (.cells #[.bool n1,.int .i64 K1,.int .i64 X1,.int .u64 S1] 105))
 have HA:=ab (ak w1 (.bool n1) (.int .i64 K1) (.int .i64 X1) (.int .u64 S1) 105)
 clear hb
 go_wp2_with fail
 refine cg1 HO2 fun w2 hb => ?_
 have HB:=ab (ad (ac (aa HB) hb) (.cells #[.bool n2,.int .i64 K2,.int .i64 X2,.int .u64 S2] 105))
 have HA:=ab (((aa HA).below hb).below (ae _ (.cells #[.bool n2,.int .i64 K2,.int .i64 X2,.int .u64 S2] 105)))
 have HA2:=ab (ak w2 (.bool n2) (.int .i64 K2) (.int .i64 X2) (.int .u64 S2) 105)
 clear hb
 obtain ⟨c0,c1,-,-⟩:=aa HA
 obtain ⟨d0,d1,-,-⟩:=aa HA2
 go_wp2_with fail
 refine cg0 HC HB fun w3 HB => ?_
 go_wp2_with fail
 go_ret
 exact ⟨rfl,aa HB⟩
theorem ww {w x y K1 X1 S1 K2 X2 S2 E V : Int} {n1 n2 : Bool} (W : World) (HO1 : Ct 101 #[.int .i64 w,.int .u64 x] (.agg #[.bool n1,.int .i64 K1,.int .i64 X1,.int .u64 S1])) (HO2 : Ct 101 #[.int .i64 w,.int .u64 y] (.agg #[.bool n2,.int .i64 K2,.int .i64 X2,.int .u64 S2])) (a3 : (K1 == 3) = false) (b3 : (K2 == 3) = false) (a2 : (K1 == 2) = false) (a0 : (K1 == 0) = true) (b2 : (K2 == 2) = false) (HS : Hid (0 ≤ S1 ∧ S1 < 18446744073709551616 ∧ S1.toNat < pw 2 ∧ 0 ≤ S2 ∧ S2 < 18446744073709551616 ∧ S2.toNat < pw 2)) (kx : IntKind.i64.wrap (X1 + X2) = E) (HE : Hid (∀ (a : Option Addr) (m c : Nat) (W : World),ai W (.slice a m c) (S1.toNat * S2.toNat) → Calls Tryz.prog 185 #[.int .i64 w,.bool (n1 != n2),.agg #[.slice a m c],.int .i64 E] W fun r W' => r = .returned (.int .u64 V) ∧ Below W.heap.size W W')) :
 Calls Tryz.prog 112 #[.int .i64 w,.int .u64 x,.int .u64 y] W fun r W' => r = .returned (.int .u64 V) ∧ Below W.heap.size W W':=by
 go_enter Tryz.func112,Tryz.ntmps112
 go_wp2_with fail
 refine cg1 HO1 fun w1 hb => ?_
 have HB:=ab (ad hb (.cells #[.bool n1,.int .i64 K1,.int .i64 X1,.int .u64 S1] 105))
 have HA:=ab (ak w1 (.bool n1) (.int .i64 K1) (.int .i64 X1) (.int .u64 S1) 105)
 clear hb
 go_wp2_with fail
 refine cg1 HO2 fun w2 hb => ?_
 have HB:=ab (ad (ac (aa HB) hb) (.cells #[.bool n2,.int .i64 K2,.int .i64 X2,.int .u64 S2] 105))
 have HA:=ab (((aa HA).below hb).below (ae _ (.cells #[.bool n2,.int .i64 K2,.int .i64 X2,.int .u64 S2] 105)))
 have HA2:=ab (ak w2 (.bool n2) (.int .i64 K2) (.int .i64 X2) (.int .u64 S2) 105)
 clear hb
 obtain ⟨c0,c1,-,-⟩:=aa HA
 obtain ⟨d0,d1,-,-⟩:=aa HA2
 go_wp2_with fail
 clear c0 c1 d0 d1
 have HB:=ab ((aa HB).drew)
 have HA:=ab ((aa HA).below ((Below.refl _ _).drew))
 have HA2:=ab ((aa HA2).below ((Below.refl _ _).drew))
 refine wp_region_held_drew (S:=fun w' => (w'.cell? ⟨w1.heap.size,0,none⟩ = some (.bool n1) ∧ w'.cell? ⟨w1.heap.size,1,none⟩ = some (.int .i64 K1) ∧ w'.cell? ⟨w1.heap.size,2,none⟩ = some (.int .i64 X1) ∧ w'.cell? ⟨w1.heap.size,3,none⟩ = some (.int .u64 S1)) ∧ (w'.cell? ⟨w2.heap.size,0,none⟩ = some (.bool n2) ∧ w'.cell? ⟨w2.heap.size,1,none⟩ = some (.int .i64 K2) ∧ w'.cell? ⟨w2.heap.size,2,none⟩ = some (.int .i64 X2) ∧ w'.cell? ⟨w2.heap.size,3,none⟩ = some (.int .u64 S2))) (by kernel_rfl) ?_ (fun hHeld => ?_)
 ·(try dsimp only)
  exact ⟨aa HA,aa HA2⟩
 refine aC 16 (by kernel_rfl) ?_
 refine tkA 0 62 1 ?_
 refine tkA 1 63 3 ?_
 refine tkA 2 64 7 ?_
 refine tkA 3 65 15 ?_
 refine tkA 5 67 47 ?_
 refine tkA 6 68 111 ?_
 refine tkA 9 71 623 ?_
 refine tkA 10 72 1647 ?_
 refine tkA 11 73 3695 ?_
 refine tkA 12 74 7791 ?_
 refine tkA 13 75 15983 ?_
 refine rdA 4 15999 (fun Kk hKk => ?_)
 go_simp
 refine (aE S1 _ (aa HS).1 (aa HS).2.1).mono ?_
 rintro _ w3 ⟨s3,rfl,hN,hbl⟩
 obtain ⟨a3,m3,c3,rfl⟩:=hN.slice
 have HB:=bt HB hbl
 have HA:=ab ((aa HA).below hbl)
 have HA2:=ab ((aa HA2).below hbl)
 have H3:=ab hN
 clear hbl hN
 (try go_wp2_with fail)
 refine oA hKk (⟨aa HA,aa HA2⟩) fun hHeld => ?_
 clear hKk Kk
 refine rdA 7 16127 (fun Kk hKk => ?_)
 go_simp
 refine (aE S2 _ (aa HS).2.2.2.1 (aa HS).2.2.2.2.1).mono ?_
 rintro _ w4 ⟨s4,rfl,hN,hbl⟩
 obtain ⟨a4,m4,c4,rfl⟩:=hN.slice
 have HB:=bt HB hbl
 have HA:=ab ((aa HA).below hbl)
 have HA2:=ab ((aa HA2).below hbl)
 have H3:=ab ((aa H3).below hbl)
 have H4:=ab hN
 clear hbl hN
 (try go_wp2_with fail)
 refine oA hKk (⟨aa HA,aa HA2⟩) fun hHeld => ?_
 clear hKk Kk
 refine rdA 8 16383 (fun Kk hKk => ?_)
 go_simp
 refine (fc _ _ _ _ _ _ _ _ _ (aa H3) (aa H4) (Nat.le_trans ((aa H3).short (aa HS).2.2.1) (by omega)) (Nat.le_trans ((aa H4).short (aa HS).2.2.2.2.2) (by omega))).mono ?_
 rintro _ w5 ⟨s5,rfl,hN,hbl⟩
 obtain ⟨a5,m5,c5,rfl⟩:=hN.slice
 have HB:=bt HB hbl
 have HA:=ab ((aa HA).below hbl)
 have HA2:=ab ((aa HA2).below hbl)
 have H5:=ab hN
 clear hbl hN
 (try go_wp2_with fail)
 refine oA hKk (⟨aa HA,aa HA2⟩) fun hHeld => ?_
 clear hKk Kk
 refine rdA 14 32767 (fun Kk hKk => ?_)
 go_simp
 refine (aa HE _ _ _ _ (aa H5)).mono ?_
 rintro _ w6 ⟨rfl,hbl⟩
 have HB:=bt HB hbl
 have HA:=ab ((aa HA).below hbl)
 have HA2:=ab ((aa HA2).below hbl)
 clear hbl
 (try go_wp2_with fail)
 refine oA hKk (⟨aa HA,aa HA2⟩) fun hHeld => ?_
 clear hKk Kk
 refine tkA 15 6 65535 ?_
 refine wpAnyH_done (by kernel_rfl) ?_ _
 go_wp2
 go_ret
 exact ⟨rfl,aa HB⟩
theorem wB {w x y K1 X1 S1 K2 X2 S2 E V : Int} {n1 n2 : Bool} (W : World) (HO1 : Ct 101 #[.int .i64 w,.int .u64 x] (.agg #[.bool n1,.int .i64 K1,.int .i64 X1,.int .u64 S1])) (HO2 : Ct 101 #[.int .i64 w,.int .u64 y] (.agg #[.bool n2,.int .i64 K2,.int .i64 X2,.int .u64 S2])) (a3 : (K1 == 3) = false) (b3 : (K2 == 3) = false) (a2 : (K1 == 2) = false) (a0 : (K1 == 0) = false) (b2 : (K2 == 2) = false) (HS : Hid (0 ≤ S1 ∧ S1 < 18446744073709551616 ∧ S1.toNat < pw 2 ∧ 0 ≤ S2 ∧ S2 < 18446744073709551616 ∧ S2.toNat < pw 2)) (kx : IntKind.i64.wrap (X1 + X2) = E) (HE : Hid (∀ (a : Option Addr) (m c : Nat) (W : World),ai W (.slice a m c) (S1.toNat * S2.toNat) → Calls Tryz.prog 185 #[.int .i64 w,.bool (n1 != n2),.agg #[.slice a m c],.int .i64 E] W fun r W' => r = .returned (.int .u64 V) ∧ Below W.heap.size W W')) :
 Calls Tryz.prog 112 #[.int .i64 w,.int .u64 x,.int .u64 y] W fun r W' => r = .returned (.int .u64 V) ∧ Below W.heap.size W W':=by
 go_enter Tryz.func112,Tryz.ntmps112
 go_wp2_with fail
 refine cg1 HO1 fun w1 hb => ?_
 have HB:=ab (ad hb (.cells #[.bool n1,.int .i64 K1,.int .i64 X1,.int .u64 S1] 105))
 have HA:=ab (ak w1 (.bool n1) (.int .i64 K1) (.int .i64 X1) (.int .u64 S1) 105)
 clear hb
 go_wp2_with fail
 refine cg1 HO2 fun w2 hb => ?_
 have HB:=ab (ad (ac (aa HB) hb) (.cells #[.bool n2,.int .i64 K2,.int .i64 X2,.int .u64 S2] 105))
 have HA:=ab (((aa HA).below hb).below (ae _ (.cells #[.bool n2,.int .i64 K2,.int .i64 X2,.int .u64 S2] 105)))
 have HA2:=ab (ak w2 (.bool n2) (.int .i64 K2) (.int .i64 X2) (.int .u64 S2) 105)
 clear hb
 obtain ⟨c0,c1,-,-⟩:=aa HA
 obtain ⟨d0,d1,-,-⟩:=aa HA2
 go_wp2_with fail
 clear c0 c1 d0 d1
 have HB:=ab ((aa HB).drew)
 have HA:=ab ((aa HA).below ((Below.refl _ _).drew))
 have HA2:=ab ((aa HA2).below ((Below.refl _ _).drew))
 refine wp_region_held_drew (S:=fun w' => (w'.cell? ⟨w1.heap.size,0,none⟩ = some (.bool n1) ∧ w'.cell? ⟨w1.heap.size,1,none⟩ = some (.int .i64 K1) ∧ w'.cell? ⟨w1.heap.size,2,none⟩ = some (.int .i64 X1) ∧ w'.cell? ⟨w1.heap.size,3,none⟩ = some (.int .u64 S1)) ∧ (w'.cell? ⟨w2.heap.size,0,none⟩ = some (.bool n2) ∧ w'.cell? ⟨w2.heap.size,1,none⟩ = some (.int .i64 K2) ∧ w'.cell? ⟨w2.heap.size,2,none⟩ = some (.int .i64 X2) ∧ w'.cell? ⟨w2.heap.size,3,none⟩ = some (.int .u64 S2))) (by kernel_rfl) ?_ (fun hHeld => ?_)
 ·(try dsimp only)
  exact ⟨aa HA,aa HA2⟩
 refine aC 16 (by kernel_rfl) ?_
 refine tkA 0 62 1 ?_
 refine tkA 1 63 3 ?_
 refine tkA 2 64 7 ?_
 refine tkA 3 65 15 ?_
 refine tkA 5 67 47 ?_
 refine tkA 6 68 111 ?_
 refine tkA 9 71 623 ?_
 refine tkA 10 72 1647 ?_
 refine tkA 11 73 3695 ?_
 refine tkA 12 74 7791 ?_
 refine tkA 13 75 15983 ?_
 refine rdA 4 15999 (fun Kk hKk => ?_)
 go_simp
 refine (aE S1 _ (aa HS).1 (aa HS).2.1).mono ?_
 rintro _ w3 ⟨s3,rfl,hN,hbl⟩
 obtain ⟨a3,m3,c3,rfl⟩:=hN.slice
 have HB:=bt HB hbl
 have HA:=ab ((aa HA).below hbl)
 have HA2:=ab ((aa HA2).below hbl)
 have H3:=ab hN
 clear hbl hN
 (try go_wp2_with fail)
 refine oA hKk (⟨aa HA,aa HA2⟩) fun hHeld => ?_
 clear hKk Kk
 refine rdA 7 16127 (fun Kk hKk => ?_)
 go_simp
 refine (aE S2 _ (aa HS).2.2.2.1 (aa HS).2.2.2.2.1).mono ?_
 rintro _ w4 ⟨s4,rfl,hN,hbl⟩
 obtain ⟨a4,m4,c4,rfl⟩:=hN.slice
 have HB:=bt HB hbl
 have HA:=ab ((aa HA).below hbl)
 have HA2:=ab ((aa HA2).below hbl)
 have H3:=ab ((aa H3).below hbl)
 have H4:=ab hN
 clear hbl hN
 (try go_wp2_with fail)
 refine oA hKk (⟨aa HA,aa HA2⟩) fun hHeld => ?_
 clear hKk Kk
 refine rdA 8 16383 (fun Kk hKk => ?_)
 go_simp
 refine (fc _ _ _ _ _ _ _ _ _ (aa H3) (aa H4) (Nat.le_trans ((aa H3).short (aa HS).2.2.1) (by omega)) (Nat.le_trans ((aa H4).short (aa HS).2.2.2.2.2) (by omega))).mono ?_
 rintro _ w5 ⟨s5,rfl,hN,hbl⟩
 obtain ⟨a5,m5,c5,rfl⟩:=hN.slice
 have HB:=bt HB hbl
 have HA:=ab ((aa HA).below hbl)
 have HA2:=ab ((aa HA2).below hbl)
 have H5:=ab hN
 clear hbl hN
 (try go_wp2_with fail)
 refine oA hKk (⟨aa HA,aa HA2⟩) fun hHeld => ?_
 clear hKk Kk
 refine rdA 14 32767 (fun Kk hKk => ?_)
 go_simp
 refine (aa HE _ _ _ _ (aa H5)).mono ?_
 rintro _ w6 ⟨rfl,hbl⟩
 have HB:=bt HB hbl
 have HA:=ab ((aa HA).below hbl)
 have HA2:=ab ((aa HA2).below hbl)
 clear hbl
 (try go_wp2_with fail)
 refine oA hKk (⟨aa HA,aa HA2⟩) fun hHeld => ?_
 clear hKk Kk
 refine tkA 15 6 65535 ?_
 refine wpAnyH_done (by kernel_rfl) ?_ _
 go_wp2
 go_ret
 exact ⟨rfl,aa HB⟩
theorem vS {w e f P Q b E : Int} (k : Kd w e f P Q b) (n : Bool) (v : Nat) (hv : W2 v) (h0 : -4000 ≤ E) (h1 : E ≤ 4000) (W : World) :
 Calls Tryz.prog 160 #[.int .i64 w,.bool n,.agg #[.int .u64 (hi v),.int .u64 (lo v)],.int .i64 E,.bool false] W fun r W' => r = .returned (.int .u64 (rd f P Q b n (v * 2 ^ (E + 5000).toNat))) ∧ Below W.heap.size W W':=by
 have:=fg v n false E k hv W
 rw [lH (by omega) (by omega),gY _ _ (by omega)] at this
 exact this
theorem lV {w e f P Q b low : Int} (k : Kd w e f P Q b) (n : Bool) (z : Nat) (h0 : -4000 ≤ low) (h1 : low ≤ 4000) : fj f P Q b n z low = rd f P Q b n (z * 2 ^ (low + 5000).toNat):=by
 unfold fj
 by_cases hz : z = 0
 ·rw [if_pos (Or.inl hz),hz,Nat.zero_mul,fT k]
 ·rw [if_neg (by omega),if_neg (by omega)]
  rfl
theorem iz {k K1 X1 S1 K2 X2 S2 : Int} (n1 n2 : Bool) (W : World) :
 Calls Tryz.prog 240 #[.int .i64 k,.agg #[.bool n1,.int .i64 K1,.int .i64 X1,.int .u64 S1],.agg #[.bool n2,.int .i64 K2,.int .i64 X2,.int .u64 S2]] W fun r W' => r = .returned (.bool (K1 == k || K2 == k)) ∧ Below W.heap.size W W':=by
 by_cases h : K1 = k
 ·rw [aH h,Bool.true_or]
  exact pt W (aH h)
 ·rw [au h,Bool.false_or]
  exact lW W (au h)
theorem ag3 {K1 K2 k : Int} (h : K1 = k ∨ K2 = k) : (K1 == k || K2 == k) = true:=by simpa using h
theorem ag4 {K1 K2 k : Int} (h : ¬ (K1 = k ∨ K2 = k)) : (K1 == k || K2 == k) = false:=by
 rw [au (fun h' => h (Or.inl h')),au (fun h' => h (Or.inr h'))]
 rfl
theorem uk {S1 S2 : Int} (s1 : S1 < 9007199254740992) (t1 : S2 < 9007199254740992) : S1.toNat * S2.toNat < 340282366920938463463374607431768211456:=by
 have h1 : S1.toNat * S2.toNat ≤ 9007199254740992 * S2.toNat:=Nat.mul_le_mul_right _ (by omega)
 omega
theorem vT {w e f P Q b K1 X1 S1 K2 X2 S2 : Int} (k : Kd w e f P Q b) (n1 n2 : Bool) (h1 : Prt f P Q b K1 X1 S1) (h2 : Prt f P Q b K2 X2 S2) (W : World) :
 Calls Tryz.prog 163 #[.int .i64 w,.agg #[.bool n1,.int .i64 K1,.int .i64 X1,.int .u64 S1],.agg #[.bool n2,.int .i64 K2,.int .i64 X2,.int .u64 S2]] W fun r W' => r = .returned (.int .u64 (di f P Q b n1 K1 (mag X1 S1) n2 K2 (mag X2 S2))) ∧ Below W.heap.size W W':=by
 obtain ⟨x0,x1,s0,-,s1⟩:=h1.in k
 obtain ⟨y0,y1,t0,-,t1⟩:=h2.in k
 have hK1 : K1 = 0 ∨ K1 = 1 ∨ K1 = 2 ∨ K1 = 3:=by unfold Prt at h1; omega
 have hK2 : K2 = 0 ∨ K2 = 1 ∨ K2 = 2 ∨ K2 = 3:=by unfold Prt at h2; omega
 have H3:=fun W => iz (k:=3) (K1:=K1) (X1:=X1) (S1:=S1) (K2:=K2) (X2:=X2) (S2:=S2) n1 n2 W
 have H2:=fun W => iz (k:=2) (K1:=K1) (X1:=X1) (S1:=S1) (K2:=K2) (X2:=X2) (S2:=S2) n1 n2 W
 have H0:=fun W => iz (k:=0) (K1:=K1) (X1:=X1) (S1:=S1) (K2:=K2) (X2:=X2) (S2:=S2) n1 n2 W
 by_cases a3 : K1 = 3 ∨ K2 = 3
 ·rw [show di f P Q b n1 K1 (mag X1 S1) n2 K2 (mag X2 S2) = cM f P Q by unfold di; rw [if_pos (by omega)]]
  rw [ag3 a3] at H3
  exact vU W (ab H3) (ab (fun W => cx k.wd W))
 rw [ag4 a3] at H3
 by_cases a2 : K1 = 2 ∨ K2 = 2
 ·rw [ag3 a2] at H2
  by_cases a0 : K1 = 0 ∨ K2 = 0
  ·rw [show di f P Q b n1 K1 (mag X1 S1) n2 K2 (mag X2 S2) = cM f P Q by unfold di; rw [if_pos (by omega)]]
   rw [ag3 a0] at H0
   exact aav W (ab H3) (ab H2) (ab H0) (ab (fun W => cx k.wd W))
  ·rw [show di f P Q b n1 K1 (mag X1 S1) n2 K2 (mag X2 S2) = put f P Q (n1 != n2) (Q - 1) 0 by unfold di; rw [if_neg (by omega),if_pos a2]]
   rw [ag4 a0] at H0
   exact vV W (ab H3) (ab H2) (ab H0) (ab (fun W => d5 _ k.wd W))
 ·rw [ag4 a2] at H2
  rw [show di f P Q b n1 K1 (mag X1 S1) n2 K2 (mag X2 S2) = rd f P Q b (n1 != n2) (mag X1 S1 * mag X2 S2 / 2 ^ Z5) by unfold di; rw [if_neg (by omega),if_neg a2]]
  by_cases a0 : K1 = 0 ∨ K2 = 0
  ·rw [ag3 a0] at H0
   have hz : mag X1 S1 * mag X2 S2 = 0:=by
    rcases a0 with h | h
    ·rw [h1.mag0 (by omega),Nat.zero_mul]
    ·rw [h2.mag0 (by omega),Nat.mul_zero]
   rw [hz,Nat.zero_div,fT k]
   exact lX W (ab H3) (ab H2) (ab H0) (ab (fun W => bE _ k.wd W))
  ·rw [ag4 a0] at H0
   rw [nR x0 y0]
   exact vW W (ab H3) (ab H2) (ab H0) (aj (by omega) (by omega)) (ab (fun W => aj0 S1 S2 W s0 (by omega) t0 (by omega))) (ab (fun W => vS k _ _ (uk s1 t1) (by omega) (by omega) W))
theorem aau {w e f P Q b x y : Int} (k : Kd w e f P Q b) (W : World) (x0 : 0 ≤ x) (x1 : x < 18446744073709551616) (y0 : 0 ≤ y) (y1 : y < 18446744073709551616) :
 Calls Tryz.prog 87 #[.int .i64 w,.int .u64 x,.int .u64 y] W fun r W' => r = .returned (.int .u64 (jw f P Q b x y)) ∧ Below W.heap.size W W':=by
 obtain ⟨X1,S1,o1,p1,m1⟩:=aL k x
 obtain ⟨X2,S2,o2,p2,m2⟩:=aL k y
 have HP:=ab (fun W => vT k (oN P Q x) (oN P Q y) p1 p2 W)
 unfold jw
 rw [m1,m2] at HP
 exact ajz W (ab (fun W => bj x k.wd W x0 x1 o1)) (ab (fun W => bj y k.wd W y0 y1 o2)) HP
theorem ag5 {w e f P Q b low : Int} (k : Kd w e f P Q b) (n : Bool) (z M : Nat) (hz : z < pw 140) (h0 : -4000 ≤ low) (h1 : low ≤ 4000) (hM : z * 2 ^ (low + 5000).toNat = M) :
 Hid (∀ (a : Option Addr) (m c : Nat) (W : World),ai W (.slice a m c) z → Calls Tryz.prog 185 #[.int .i64 w,.bool n,.agg #[.slice a m c],.int .i64 low] W fun r W' => r = .returned (.int .u64 (rd f P Q b n M)) ∧ Below W.heap.size W W'):=by
 refine ab (fun a m c W hx => ?_)
 have:=jx (n:=n) (k:=low) k z hz a m c W hx
 rw [lV k n z h0 h1,hM] at this
 exact this
theorem ap9 {v : Nat} (hv : W2 v) : v < pw 140:=by
 have h4 : v < pw 4:=by rw [rh]; exact hv
 exact ck 140 h4 (by omega)
theorem pr {w e f P Q b x y : Int} (k : Kd w e f P Q b) (W : World) (x0 : 0 ≤ x) (x1 : x < 18446744073709551616) (y0 : 0 ≤ y) (y1 : y < 18446744073709551616) :
 Calls Tryz.prog 112 #[.int .i64 w,.int .u64 x,.int .u64 y] W fun r W' => r = .returned (.int .u64 (jw f P Q b x y)) ∧ Below W.heap.size W W':=by
 obtain ⟨X1,S1,o1,p1,m1⟩:=aL k x
 obtain ⟨X2,S2,o2,p2,m2⟩:=aL k y
 have HO1:=ab (fun W => aN x k W x0 x1 o1)
 have HO2:=ab (fun W => aN y k W y0 y1 o2)
 have HN:=ab (fun W => bN k W)
 unfold jw
 rw [← m1,← m2]
 generalize oN P Q x = n1 at *
 generalize oN P Q y = n2 at *
 generalize oK P Q x = K1 at *
 generalize oK P Q y = K2 at *
 obtain ⟨u0,u1,s0,-,s1⟩:=p1.in k
 obtain ⟨v0,v1,t0,-,t1⟩:=p2.in k
 have HI:=ab (fun W => cP (n1 != n2) k W)
 by_cases a3 : K1 = 3
 ·rw [show di f P Q b n1 K1 (mag X1 S1) n2 K2 (mag X2 S2) = cM f P Q by unfold di; rw [if_pos (by omega)]]
  exact wi W HO1 HO2 (aH a3) HN
 by_cases b3 : K2 = 3
 ·rw [show di f P Q b n1 K1 (mag X1 S1) n2 K2 (mag X2 S2) = cM f P Q by unfold di; rw [if_pos (by omega)]]
  exact wj W HO1 HO2 (au a3) (aH b3) HN
 have HS : Hid (0 ≤ S1 ∧ S1 < 18446744073709551616 ∧ S1.toNat < pw 2 ∧ 0 ≤ S2 ∧ S2 < 18446744073709551616 ∧ S2.toNat < pw 2):=by
  rw [lu]
  exact ⟨s0,by omega,by omega,t0,by omega,by omega⟩
 have HE:=ag5 k (n1 != n2) (S1.toNat * S2.toNat) _ (ap9 (uk s1 t1)) (show -4000 ≤ X1 + X2 by omega) (by omega) rfl
 have kx : IntKind.i64.wrap (X1 + X2) = X1 + X2:=aj (by omega) (by omega)
 by_cases a2 : K1 = 2
 ·by_cases b0 : K2 = 0
  ·rw [show di f P Q b n1 K1 (mag X1 S1) n2 K2 (mag X2 S2) = cM f P Q by unfold di; rw [if_pos (by omega)]]
   exact wk W HO1 HO2 (au a3) (au b3) (aH a2) (aH b0) HN
  ·rw [show di f P Q b n1 K1 (mag X1 S1) n2 K2 (mag X2 S2) = put f P Q (n1 != n2) (Q - 1) 0 by unfold di; rw [if_neg (by omega),if_pos (Or.inl a2)]]
   exact wu W HO1 HO2 (au a3) (au b3) (aH a2) (au b0) (au (by omega)) HI
 by_cases a0 : K1 = 0
 ·by_cases b2 : K2 = 2
  ·rw [show di f P Q b n1 K1 (mag X1 S1) n2 K2 (mag X2 S2) = cM f P Q by unfold di; rw [if_pos (by omega)]]
   exact ws W HO1 HO2 (au a3) (au b3) (au a2) (aH a0) (aH b2) HN
  ·rw [show di f P Q b n1 K1 (mag X1 S1) n2 K2 (mag X2 S2) = rd f P Q b (n1 != n2) (mag X1 S1 * mag X2 S2 / 2 ^ Z5) by unfold di; rw [if_neg (by omega),if_neg (by omega)],nR u0 v0]
   exact ww W HO1 HO2 (au a3) (au b3) (au a2) (aH a0) (au b2) HS kx HE
 ·by_cases b2 : K2 = 2
  ·rw [show di f P Q b n1 K1 (mag X1 S1) n2 K2 (mag X2 S2) = put f P Q (n1 != n2) (Q - 1) 0 by unfold di; rw [if_neg (by omega),if_pos (Or.inr b2)]]
   exact wv W HO1 HO2 (au a3) (au b3) (au a2) (au a0) (aH b2) HI
  ·rw [show di f P Q b n1 K1 (mag X1 S1) n2 K2 (mag X2 S2) = rd f P Q b (n1 != n2) (mag X1 S1 * mag X2 S2 / 2 ^ Z5) by unfold di; rw [if_neg (by omega),if_neg (by omega)],nR u0 v0]
   exact wB W HO1 HO2 (au a3) (au b3) (au a2) (au a0) (au b2) HS kx HE
def rdQ (f P Q b : Int) (n : Bool) (X D : Nat) : Int:=fl f P Q n (lid P Q (gc f.toNat (av f b) X D : Nat))
theorem aa6 {x : Nat} (h : x < 18446744073709551616) : Go.bitLen x ≤ 64:=dC (k:=64) (by omega)
theorem ahm {x y e t : Nat} (hx : x ≠ 0) (hy : y ≠ 0) (ht : t + Go.bitLen y = Go.bitLen x + e) (h1 : 1 ≤ t) :
 (y * 2 ^ t ≤ x * 2 ^ e → Go.bitLen (x * 2 ^ e / y) = t + 1) ∧ (x * 2 ^ e < y * 2 ^ t → Go.bitLen (x * 2 ^ e / y) = t):=by
 have hyp : 0 < y:=by omega
 have hx1:=fd (x:=x) (k:=Go.bitLen x) (Nat.le_refl _)
 have hx2:=fM (x:=x) (k:=Go.bitLen x - 1) (by have:=gx hx; omega)
 have hy1:=fd (x:=y) (k:=Go.bitLen y) (Nat.le_refl _)
 have hy2:=fM (x:=y) (k:=Go.bitLen y - 1) (by have:=gx hy; omega)
 have px:=gx hx
 have py:=gx hy
 constructor
 ·intro h
  refine mQ ((Nat.le_div_iff_mul_le hyp).2 (by rw [Nat.mul_comm]; exact h)) ((Nat.div_lt_iff_lt_mul hyp).2 ?_)
  have h3 : x * 2 ^ e < 2 ^ Go.bitLen x * 2 ^ e:=Nat.mul_lt_mul_of_pos_right hx1 (Nat.two_pow_pos e)
  have h4 : 2 ^ (t + 1) * 2 ^ (Go.bitLen y - 1) ≤ 2 ^ (t + 1) * y:=Nat.mul_le_mul_left _ hy2
  rw [← Nat.pow_add] at h3 h4
  rw [show t + 1 + (Go.bitLen y - 1) = Go.bitLen x + e by omega] at h4
  omega
 ·intro h
  obtain ⟨i,rfl⟩ : ∃ i,t = i + 1:=⟨t - 1,by omega⟩
  refine mQ ((Nat.le_div_iff_mul_le hyp).2 ?_) ((Nat.div_lt_iff_lt_mul hyp).2 (by rw [Nat.mul_comm (2 ^ (i + 1))]; exact h))
  have h3 : 2 ^ (Go.bitLen x - 1) * 2 ^ e ≤ x * 2 ^ e:=Nat.mul_le_mul_right _ hx2
  have h4 : 2 ^ i * y ≤ 2 ^ i * 2 ^ Go.bitLen y:=Nat.mul_le_mul_left _ (Nat.le_of_lt hy1)
  rw [← Nat.pow_add] at h3 h4
  rw [show i + Go.bitLen y = Go.bitLen x - 1 + e by omega] at h4
  omega
theorem sl {x d i : Nat} (hx : x < 18446744073709551616) (h : 64 + d ≤ 32 * i) : x * 2 ^ d < pw i:=by
 rw [fS]
 have h1 : x * 2 ^ d < 2 ^ 64 * 2 ^ d:=Nat.mul_lt_mul_of_pos_right (by omega) (Nat.two_pow_pos d)
 rw [← Nat.pow_add] at h1
 exact Nat.lt_of_lt_of_le h1 (Nat.pow_le_pow_right (by omega) h)
theorem jA {x : Nat} (hx : x < 18446744073709551616) : x < pw 300:=by
 have:=sl (d:=0) (i:=300) hx (by omega)
 rwa [Nat.pow_zero,Nat.mul_one] at this
theorem wD {k q : Int} (x y : Nat) (hy0 : y ≠ 0) (hx : x < 18446744073709551616) (hy : y < 18446744073709551616) (k0 : -2500 ≤ k) (k1 : k ≤ 2500) (q0 : -1100 ≤ q) (q1 : q ≤ 3000)
 (a b' : Option Addr) (na ca nb cb : Nat) (W : World) (ha : ai W (.slice a na ca) x) (hb : ai W (.slice b' nb cb) y) :
  Calls Tryz.prog 258 #[.agg #[.slice a na ca],.agg #[.slice b' nb cb],.int .i64 (k - q)] W fun r W' => ∃ s',r = .returned (.agg #[s']) ∧ ai W' s' (bk (x * 2 ^ (k + 5000).toNat) (y * 2 ^ (q + 5000).toNat)) ∧ Below W.heap.size W W':=by
 by_cases h0 : 0 ≤ k - q
 ·have e : bk (x * 2 ^ (k + 5000).toNat) (y * 2 ^ (q + 5000).toNat) = bk (x * 2 ^ (k - q).toNat) y:=by
   rw [cd (k + 5000).toNat (k - q).toNat (q + 5000).toNat (by omega),← Nat.mul_assoc]
   exact cC (x * 2 ^ (k - q).toNat) y (2 ^ (q + 5000).toNat) (Nat.two_pow_pos _)
  rw [e]
  exact pP a b' na ca nb cb x y (k - q) W ha hb (jA hx) (sl hx (by omega)) hy0 (jA hy) h0 (by omega)
 ·have e : bk (x * 2 ^ (k + 5000).toNat) (y * 2 ^ (q + 5000).toNat) = bk x (y * 2 ^ (-(k - q)).toNat):=by
   rw [cd (q + 5000).toNat (-(k - q)).toNat (k + 5000).toNat (by omega),← Nat.mul_assoc,cC _ _ _ (Nat.two_pow_pos _)]
  rw [e]
  exact pQ a b' na ca nb cb x y (k - q) W ha hb (jA hx) (Nat.pos_iff_ne_zero.1 (Nat.mul_pos (by omega) (Nat.two_pow_pos _))) (jA hy) (sl hy (by omega)) h0 (by omega) (aj (by omega) (by omega))
theorem nB {x y : Nat} : decide (aK x y < 0) = decide (x < y):=by
 unfold aK
 by_cases h : x < y
 ·rw [if_pos h,dt h]
  rfl
 ·rw [if_neg h,df h]
  split <;> rfl
theorem wE {k s : Int} {t : Nat} (x y : Nat) (hx : x < 18446744073709551616) (hy : y < 18446744073709551616) (k0 : -2500 ≤ k) (k1 : k ≤ 2500) (s0 : -100 ≤ s) (s1 : s ≤ 100) (ht : (t : Int) = k + 5000 - s)
 (a b' : Option Addr) (na ca nb cb : Nat) (W : World) (ha : ai W (.slice a na ca) x) (hb : ai W (.slice b' nb cb) y) :
  Calls Tryz.prog 257 #[.agg #[.slice a na ca],.agg #[.slice b' nb cb],.int .i64 s] W fun r W' => r = .returned (.bool (decide (x * 2 ^ (k + 5000).toNat < y * 2 ^ t))) ∧ Below W.heap.size W W':=by
 by_cases h0 : 0 ≤ s
 ·have hu:=pN a b' na ca nb cb x y s W ha hb (jA hx) h0 (by omega)
  rw [nB] at hu
  have e : (x * 2 ^ (k + 5000).toNat < y * 2 ^ t) = (x * 2 ^ s.toNat < y):=by
   rw [cd (k + 5000).toNat s.toNat t (by omega),← Nat.mul_assoc]
   exact propext (Nat.mul_lt_mul_right (Nat.two_pow_pos t))
  simp only [e]
  exact hu
 ·have hu:=pO a b' na ca nb cb x y s W ha hb (jA hy) h0 (by omega) (aj (by omega) (by omega))
  rw [nB] at hu
  have e : (x * 2 ^ (k + 5000).toNat < y * 2 ^ t) = (x < y * 2 ^ (-s).toNat):=by
   rw [cd t (-s).toNat (k + 5000).toNat (by omega),← Nat.mul_assoc]
   exact propext (Nat.mul_lt_mul_right (Nat.two_pow_pos (k + 5000).toNat))
  simp only [e]
  exact hu
theorem aa7 {w e f P Q b k : Int} {n : Bool} (kd : Kd w e f P Q b) (a b' : Option Addr) (na ca nb cb x y : Nat) (w0 : World) (hx : ai w0 (.slice a na ca) x) (hy : ai w0 (.slice b' nb cb) y)
 (hx0 : x ≠ 0) (hy0 : y ≠ 0) (hx6 : x < 18446744073709551616) (hy6 : y < 18446744073709551616) (k0 : -2500 ≤ k) (k1 : k ≤ 2500) :
 Calls Tryz.prog 202 #[.int .i64 w,.bool n,.agg #[.slice a na ca],.agg #[.slice b' nb cb],.int .i64 k] w0 fun r W' => r = .returned (.int .u64 (rdQ f P Q b n (x * 2 ^ (k + 5000).toNat) y)) ∧ Below w0.heap.size w0 W':=by
 obtain ⟨hP,f0,f1,l0,l1,b0,b1⟩:=kd.pow
 have hbx:=aa6 hx6
 have hby:=aa6 hy6
 have pbx:=gx hx0
 have pby:=gx hy0
 obtain ⟨t,ht⟩ : ∃ t : Nat,(t : Int) = (Go.bitLen x : Int) - Go.bitLen y + k + 5000:=⟨((Go.bitLen x : Int) - Go.bitLen y + k + 5000).toNat,by omega⟩
 obtain ⟨hge,hlt⟩:=ahm (e:=(k + 5000).toNat) (t:=t) hx0 hy0 (by omega) (by omega)
 have hund:=fun W ha hb => wE (k:=k) (s:=k - ((Go.bitLen x : Int) - Go.bitLen y + k - f) - f) (t:=t) x y hx6 hy6 k0 k1 (by omega) (by omega) (by omega) a b' na ca nb cb W ha hb
 have hb : Go.bitLen (x * 2 ^ (k + 5000).toNat / y) = t + 1 ∨ Go.bitLen (x * 2 ^ (k + 5000).toNat / y) = t:=by
  by_cases h : x * 2 ^ (k + 5000).toNat < y * 2 ^ t
  ·exact Or.inr (hlt h)
  ·exact Or.inl (hge (by omega))
 obtain ⟨q,hu,q0,q1,hw⟩ : ∃ q : Int,ch f.toNat (av f b) (x * 2 ^ (k + 5000).toNat) y = (q + 5000).toNat ∧ 1 - b - f ≤ q ∧ q ≤ 3000 ∧
  ((Go.bitLen x : Int) - (Go.bitLen y : Int) + k - f < 1 - b - f ∧ 1 - b - f = q ∨ (Go.bitLen x : Int) - (Go.bitLen y : Int) + k - f = 1 - b - f ∧ 1 - b - f = q ∨ 1 - b - f < (Go.bitLen x : Int) - (Go.bitLen y : Int) + k - f ∧ decide (x * 2 ^ (k + 5000).toNat < y * 2 ^ t) = false ∧ (Go.bitLen x : Int) - (Go.bitLen y : Int) + k - f = q ∨ 1 - b - f < (Go.bitLen x : Int) - (Go.bitLen y : Int) + k - f ∧ decide (x * 2 ^ (k + 5000).toNat < y * 2 ^ t) = true ∧ (Go.bitLen x : Int) - (Go.bitLen y : Int) + k - f - 1 = q):=by
  by_cases hL : (Go.bitLen x : Int) - (Go.bitLen y : Int) + k - f ≤ 1 - b - f
  ·refine ⟨1 - b - f,?_,by omega,by omega,by omega⟩
   unfold ch av
   rcases hb with hb | hb <;> rw [hb] <;> omega
  ·by_cases h : x * 2 ^ (k + 5000).toNat < y * 2 ^ t
   ·refine ⟨(Go.bitLen x : Int) - (Go.bitLen y : Int) + k - f - 1,?_,by omega,by omega,Or.inr (Or.inr (Or.inr ⟨by omega,dt h,rfl⟩))⟩
    unfold ch av
    rw [hlt h]
    omega
   ·refine ⟨(Go.bitLen x : Int) - (Go.bitLen y : Int) + k - f,?_,by omega,by omega,Or.inr (Or.inr (Or.inl ⟨by omega,df h,rfl⟩))⟩
    unfold ch av
    rw [hge (by omega)]
    omega
 have hg:=fun W ha hb => wD (k:=k) (q:=q) x y hy0 hx6 hy6 k0 k1 (by omega) q1 a b' na ca nb cb W ha hb
 have hup:=aa8 f.toNat (av f b) (x * 2 ^ (k + 5000).toNat) y (by omega)
 have hdn:=fun h => aa9 (f:=f.toNat) (L:=av f b) (X:=x * 2 ^ (k + 5000).toNat) (D:=y) (by omega) h
 have hcode : ((gc f.toNat (av f b) (x * 2 ^ (k + 5000).toNat) y : Nat) : Int) = (q - (1 - b - f)) * P + (bk (x * 2 ^ (k + 5000).toNat) (y * 2 ^ (q + 5000).toNat) : Nat):=by
  unfold gc
  rw [hu,hP,show q - (1 - b - f) = (((q + 5000).toNat - av f b : Nat) : Int) by unfold av; omega]
  simp
 unfold rdQ
 rw [hcode]
 rw [hu] at hup hdn
 generalize bk (x * 2 ^ (k + 5000).toNat) (y * 2 ^ (q + 5000).toNat) = G at *
 have hup' : (G : Int) ≤ 2 * P:=by rw [hP]; omega
 have hdn' : 1 - b - f < q → P ≤ (G : Int):=fun h => by
  rw [hP]
  have:=hdn (by unfold av; omega)
  omega
 exact pM kd a b' na ca nb cb x y G w0 hx hy (by omega) (by omega) (by omega) (by omega) q0 (by omega) hw (fun _ => ab hund) (ab hg) hup' hdn'
def fm (f P Q b : Int) (n1 : Bool) (K1 : Int) (M1 : Nat) (n2 : Bool) (K2 : Int) (M2 : Nat) : Int:=
 if K1 = 3 ∨ K2 = 3 ∨ (K1 = 2 ∧ K2 = 2) ∨ (K1 = 0 ∧ K2 = 0) then cM f P Q
 else if K1 = 2 ∨ K2 = 0 then put f P Q (n1 != n2) (Q - 1) 0
 else if K1 = 0 ∨ K2 = 2 then put f P Q (n1 != n2) 0 0
 else rdQ f P Q b (n1 != n2) (M1 * 2 ^ Z5) M2
def jz (f P Q b x y : Int) : Int:=fm f P Q b (oN P Q x) (oK P Q x) (oM f P Q b x) (oN P Q y) (oK P Q y) (oM f P Q b y)
theorem us (f P Q b : Int) (n : Bool) {X1 S1 X2 S2 : Int} (h1 : -1200 ≤ X1) (h2 : -1200 ≤ X2) (h3 : X2 ≤ 1100) :
 rdQ f P Q b n (mag X1 S1 * 2 ^ Z5) (mag X2 S2) = rdQ f P Q b n (S1.toNat * 2 ^ (X1 - X2 + 5000).toNat) S2.toNat:=by
 unfold rdQ mag
 have e : S1.toNat * 2 ^ (X1 + 5000).toNat * 2 ^ Z5 = S1.toNat * 2 ^ (X1 - X2 + 5000).toNat * 2 ^ (X2 + 5000).toNat:=by
  rw [Nat.mul_assoc,← Nat.pow_add,Nat.mul_assoc,← Nat.pow_add,show (X1 + 5000).toNat + Z5 = (X1 - X2 + 5000).toNat + (X2 + 5000).toNat by unfold Z5; omega]
 rw [e,j4 _ _ _ _ _ (Nat.two_pow_pos _)]
theorem aa5 {w e f P Q b X1 S1 X2 S2 : Int} (k : Kd w e f P Q b) (h1 : Prt f P Q b 1 X1 S1) (h2 : Prt f P Q b 1 X2 S2) (up : Nat) (hup : up + Go.bitLen S1.toNat = 128) (m : Bool)
 (hm : m = (S1.toNat * 2 ^ up % S2.toNat != 0)) :
 aO f.toNat (av f b) (num (S1.toNat * 2 ^ up / S2.toNat) m (cap (X1 - up - X2))) = gc f.toNat (av f b) (S1.toNat * 2 ^ (X1 - X2 + 5000).toNat) S2.toNat:=by
 obtain ⟨x0,x1,s0,-,s1⟩:=h1.in k
 obtain ⟨y0,y1,t0,-,t1⟩:=h2.in k
 obtain ⟨hP,f0,f1,l0,l1,b0,b1⟩:=k.pow
 have hS1 : S1.toNat ≠ 0:=by unfold Prt at h1; omega
 have hS2 : 0 < S2.toNat:=by unfold Prt at h2; omega
 have hu1 : up ≤ 128:=by omega
 rw [lH (by omega) (by omega)]
 obtain ⟨j,hj⟩ : ∃ j : Nat,(j : Int) = X1 - up - X2 + 5000:=⟨(X1 - up - X2 + 5000).toNat,by omega⟩
 have e1 : S1.toNat * 2 ^ (X1 - X2 + 5000).toNat = S1.toNat * 2 ^ up * 2 ^ j:=by
  rw [Nat.mul_assoc,← Nat.pow_add,show (X1 - X2 + 5000).toNat = up + j by omega]
 have e2 : S1.toNat * 2 ^ (X1 - X2 + 5000).toNat / (S2.toNat * 2 ^ j) = S1.toNat * 2 ^ up / S2.toNat:=by
  rw [e1,Nat.mul_div_mul_right _ _ (Nat.two_pow_pos j)]
 have e3 : S1.toNat * 2 ^ (X1 - X2 + 5000).toNat % (S2.toNat * 2 ^ j) = S1.toNat * 2 ^ up % S2.toNat * 2 ^ j:=by
  rw [e1,Nat.mul_mod_mul_right]
 have hlen : Go.bitLen (S1.toNat * 2 ^ up) = 128:=by rw [dO _ _ hS1]; omega
 have hbig : 2 ^ 74 ≤ S1.toNat * 2 ^ up / S2.toNat:=by
  rw [Nat.le_div_iff_mul_le hS2]
  have h3 : 2 ^ 127 ≤ S1.toNat * 2 ^ up:=fM (by omega)
  have h4 : 2 ^ 74 * S2.toNat ≤ 2 ^ 74 * 9007199254740992:=Nat.mul_le_mul_left _ (by omega)
  omega
 have hq0 : S1.toNat * 2 ^ up / S2.toNat ≠ 0:=by omega
 have hqb : 75 ≤ Go.bitLen (S1.toNat * 2 ^ up / S2.toNat):=by
  have:=nK hbig
  rw [show Go.bitLen (2 ^ 74) = 75 from by decide +kernel] at this
  exact this
 have hun : j + 1 ≤ ch f.toNat (av f b) (S1.toNat * 2 ^ (X1 - X2 + 5000).toNat) S2.toNat:=by
  unfold ch
  have : Go.bitLen (S1.toNat * 2 ^ (X1 - X2 + 5000).toNat / S2.toNat) = j + Go.bitLen (S1.toNat * 2 ^ up / S2.toNat):=by
   rw [← e2,← Nat.div_div_eq_div_mul]
   exact Go.bitLen_shift _ j (by rw [Nat.div_div_eq_div_mul,e2]; exact hq0)
  omega
 rw [nT _ _ _ _ j hS2 (by omega) (by rw [e2]; exact hq0) hun,e2,e3]
 unfold num
 rw [show (X1 - ↑up - X2 + 4999).toNat = j - 1 by omega]
 congr 3
 rw [hm]
 by_cases hr : S1.toNat * 2 ^ up % S2.toNat = 0
 ·rw [hr,Nat.zero_mul,if_pos rfl]
  rfl
 ·rw [if_neg (by
   intro h
   rcases Nat.mul_eq_zero.1 h with h | h
   ·exact hr h
   ·exact absurd h (Nat.ne_of_gt (Nat.two_pow_pos j)))]
  rw [show (S1.toNat * 2 ^ up % S2.toNat != 0) = true by simpa using hr]
  rfl
theorem sw {w x y K1 X1 S1 K2 X2 S2 V : Int} {n1 n2 : Bool} (W : World) (HO1 : Ct 101 #[.int .i64 w,.int .u64 x] (.agg #[.bool n1,.int .i64 K1,.int .i64 X1,.int .u64 S1])) (HO2 : Ct 101 #[.int .i64 w,.int .u64 y] (.agg #[.bool n2,.int .i64 K2,.int .i64 X2,.int .u64 S2])) (a3 : (K1 == 3) = true)  (HC : Ct 177 #[.int .i64 w] (.int .u64 V)) :
 Calls Tryz.prog 113 #[.int .i64 w,.int .u64 x,.int .u64 y] W fun r W' => r = .returned (.int .u64 V) ∧ Below W.heap.size W W':=by
 go_enter Tryz.func113,Tryz.ntmps113
 go_wp2_with fail
 refine cg1 HO1 fun w1 hb => ?_
 have HB:=ab (ad hb (.cells #[.bool n1,.int .i64 K1,.int .i64 X1,.int .u64 S1] 105))
 have HA:=ab (ak w1 (.bool n1) (.int .i64 K1) (.int .i64 X1) (.int .u64 S1) 105)
 clear hb
 go_wp2_with fail
 refine cg1 HO2 fun w2 hb => ?_
 have HB:=ab (ad (ac (aa HB) hb) (.cells #[.bool n2,.int .i64 K2,.int .i64 X2,.int .u64 S2] 105))
 have HA:=ab (((aa HA).below hb).below (ae _ (.cells #[.bool n2,.int .i64 K2,.int .i64 X2,.int .u64 S2] 105)))
 have HA2:=ab (ak w2 (.bool n2) (.int .i64 K2) (.int .i64 X2) (.int .u64 S2) 105)
 clear hb
 obtain ⟨c0,c1,-,-⟩:=aa HA
 obtain ⟨d0,d1,-,-⟩:=aa HA2
 go_wp2_with fail
 refine cg0 HC HB fun w3 HB => ?_
 go_wp2_with fail
 go_ret
 exact ⟨rfl,aa HB⟩
theorem sA {w x y K1 X1 S1 K2 X2 S2 V : Int} {n1 n2 : Bool} (W : World) (HO1 : Ct 101 #[.int .i64 w,.int .u64 x] (.agg #[.bool n1,.int .i64 K1,.int .i64 X1,.int .u64 S1])) (HO2 : Ct 101 #[.int .i64 w,.int .u64 y] (.agg #[.bool n2,.int .i64 K2,.int .i64 X2,.int .u64 S2])) (a3 : (K1 == 3) = false) (b3 : (K2 == 3) = true)  (HC : Ct 177 #[.int .i64 w] (.int .u64 V)) :
 Calls Tryz.prog 113 #[.int .i64 w,.int .u64 x,.int .u64 y] W fun r W' => r = .returned (.int .u64 V) ∧ Below W.heap.size W W':=by
 go_enter Tryz.func113,Tryz.ntmps113
 go_wp2_with fail
 refine cg1 HO1 fun w1 hb => ?_
 have HB:=ab (ad hb (.cells #[.bool n1,.int .i64 K1,.int .i64 X1,.int .u64 S1] 105))
 have HA:=ab (ak w1 (.bool n1) (.int .i64 K1) (.int .i64 X1) (.int .u64 S1) 105)
 clear hb
 go_wp2_with fail
 refine cg1 HO2 fun w2 hb => ?_
 have HB:=ab (ad (ac (aa HB) hb) (.cells #[.bool n2,.int .i64 K2,.int .i64 X2,.int .u64 S2] 105))
 have HA:=ab (((aa HA).below hb).below (ae _ (.cells #[.bool n2,.int .i64 K2,.int .i64 X2,.int .u64 S2] 105)))
 have HA2:=ab (ak w2 (.bool n2) (.int .i64 K2) (.int .i64 X2) (.int .u64 S2) 105)
 clear hb
 obtain ⟨c0,c1,-,-⟩:=aa HA
 obtain ⟨d0,d1,-,-⟩:=aa HA2
 go_wp2_with fail
 refine cg0 HC HB fun w3 HB => ?_
 go_wp2_with fail
 go_ret
 exact ⟨rfl,aa HB⟩
theorem sB {w x y K1 X1 S1 K2 X2 S2 V : Int} {n1 n2 : Bool} (W : World) (HO1 : Ct 101 #[.int .i64 w,.int .u64 x] (.agg #[.bool n1,.int .i64 K1,.int .i64 X1,.int .u64 S1])) (HO2 : Ct 101 #[.int .i64 w,.int .u64 y] (.agg #[.bool n2,.int .i64 K2,.int .i64 X2,.int .u64 S2])) (a3 : (K1 == 3) = false) (b3 : (K2 == 3) = false) (a2 : (K1 == 2) = true) (b2 : (K2 == 2) = true)  (HC : Ct 177 #[.int .i64 w] (.int .u64 V)) :
 Calls Tryz.prog 113 #[.int .i64 w,.int .u64 x,.int .u64 y] W fun r W' => r = .returned (.int .u64 V) ∧ Below W.heap.size W W':=by
 go_enter Tryz.func113,Tryz.ntmps113
 go_wp2_with fail
 refine cg1 HO1 fun w1 hb => ?_
 have HB:=ab (ad hb (.cells #[.bool n1,.int .i64 K1,.int .i64 X1,.int .u64 S1] 105))
 have HA:=ab (ak w1 (.bool n1) (.int .i64 K1) (.int .i64 X1) (.int .u64 S1) 105)
 clear hb
 go_wp2_with fail
 refine cg1 HO2 fun w2 hb => ?_
 have HB:=ab (ad (ac (aa HB) hb) (.cells #[.bool n2,.int .i64 K2,.int .i64 X2,.int .u64 S2] 105))
 have HA:=ab (((aa HA).below hb).below (ae _ (.cells #[.bool n2,.int .i64 K2,.int .i64 X2,.int .u64 S2] 105)))
 have HA2:=ab (ak w2 (.bool n2) (.int .i64 K2) (.int .i64 X2) (.int .u64 S2) 105)
 clear hb
 obtain ⟨c0,c1,-,-⟩:=aa HA
 obtain ⟨d0,d1,-,-⟩:=aa HA2
 go_wp2_with fail
 refine cg0 HC HB fun w3 HB => ?_
 go_wp2_with fail
 go_ret
 exact ⟨rfl,aa HB⟩
theorem sC {w x y K1 X1 S1 K2 X2 S2 V : Int} {n1 n2 : Bool} (W : World) (HO1 : Ct 101 #[.int .i64 w,.int .u64 x] (.agg #[.bool n1,.int .i64 K1,.int .i64 X1,.int .u64 S1])) (HO2 : Ct 101 #[.int .i64 w,.int .u64 y] (.agg #[.bool n2,.int .i64 K2,.int .i64 X2,.int .u64 S2])) (a3 : (K1 == 3) = false) (b3 : (K2 == 3) = false) (a2 : (K1 == 2) = false) (a0 : (K1 == 0) = true) (b0 : (K2 == 0) = true)  (HC : Ct 177 #[.int .i64 w] (.int .u64 V)) :
 Calls Tryz.prog 113 #[.int .i64 w,.int .u64 x,.int .u64 y] W fun r W' => r = .returned (.int .u64 V) ∧ Below W.heap.size W W':=by
 go_enter Tryz.func113,Tryz.ntmps113
 go_wp2_with fail
 refine cg1 HO1 fun w1 hb => ?_
 have HB:=ab (ad hb (.cells #[.bool n1,.int .i64 K1,.int .i64 X1,.int .u64 S1] 105))
 have HA:=ab (ak w1 (.bool n1) (.int .i64 K1) (.int .i64 X1) (.int .u64 S1) 105)
 clear hb
 go_wp2_with fail
 refine cg1 HO2 fun w2 hb => ?_
 have HB:=ab (ad (ac (aa HB) hb) (.cells #[.bool n2,.int .i64 K2,.int .i64 X2,.int .u64 S2] 105))
 have HA:=ab (((aa HA).below hb).below (ae _ (.cells #[.bool n2,.int .i64 K2,.int .i64 X2,.int .u64 S2] 105)))
 have HA2:=ab (ak w2 (.bool n2) (.int .i64 K2) (.int .i64 X2) (.int .u64 S2) 105)
 clear hb
 obtain ⟨c0,c1,-,-⟩:=aa HA
 obtain ⟨d0,d1,-,-⟩:=aa HA2
 go_wp2_with fail
 refine cg0 HC HB fun w3 HB => ?_
 go_wp2_with fail
 go_ret
 exact ⟨rfl,aa HB⟩
theorem sE {w x y K1 X1 S1 K2 X2 S2 V : Int} {n1 n2 : Bool} (W : World) (HO1 : Ct 101 #[.int .i64 w,.int .u64 x] (.agg #[.bool n1,.int .i64 K1,.int .i64 X1,.int .u64 S1])) (HO2 : Ct 101 #[.int .i64 w,.int .u64 y] (.agg #[.bool n2,.int .i64 K2,.int .i64 X2,.int .u64 S2])) (a3 : (K1 == 3) = false) (b3 : (K2 == 3) = false) (a2 : (K1 == 2) = true) (b2 : (K2 == 2) = false) (a0 : (K1 == 0) = false)  (HC : Ct 176 #[.int .i64 w,.bool (n1 != n2)] (.int .u64 V)) :
 Calls Tryz.prog 113 #[.int .i64 w,.int .u64 x,.int .u64 y] W fun r W' => r = .returned (.int .u64 V) ∧ Below W.heap.size W W':=by
 go_enter Tryz.func113,Tryz.ntmps113
 go_wp2_with fail
 refine cg1 HO1 fun w1 hb => ?_
 have HB:=ab (ad hb (.cells #[.bool n1,.int .i64 K1,.int .i64 X1,.int .u64 S1] 105))
 have HA:=ab (ak w1 (.bool n1) (.int .i64 K1) (.int .i64 X1) (.int .u64 S1) 105)
 clear hb
 go_wp2_with fail
 refine cg1 HO2 fun w2 hb => ?_
 have HB:=ab (ad (ac (aa HB) hb) (.cells #[.bool n2,.int .i64 K2,.int .i64 X2,.int .u64 S2] 105))
 have HA:=ab (((aa HA).below hb).below (ae _ (.cells #[.bool n2,.int .i64 K2,.int .i64 X2,.int .u64 S2] 105)))
 have HA2:=ab (ak w2 (.bool n2) (.int .i64 K2) (.int .i64 X2) (.int .u64 S2) 105)
 clear hb
 obtain ⟨c0,c1,-,-⟩:=aa HA
 obtain ⟨d0,d1,-,-⟩:=aa HA2
 go_wp2_with fail
 refine cg0 HC HB fun w3 HB => ?_
 go_wp2_with fail
 go_ret
 exact ⟨rfl,aa HB⟩
theorem sF {w x y K1 X1 S1 K2 X2 S2 V : Int} {n1 n2 : Bool} (W : World) (HO1 : Ct 101 #[.int .i64 w,.int .u64 x] (.agg #[.bool n1,.int .i64 K1,.int .i64 X1,.int .u64 S1])) (HO2 : Ct 101 #[.int .i64 w,.int .u64 y] (.agg #[.bool n2,.int .i64 K2,.int .i64 X2,.int .u64 S2])) (a3 : (K1 == 3) = false) (b3 : (K2 == 3) = false) (a2 : (K1 == 2) = false) (a0 : (K1 == 0) = false) (b0 : (K2 == 0) = true)  (HC : Ct 176 #[.int .i64 w,.bool (n1 != n2)] (.int .u64 V)) :
 Calls Tryz.prog 113 #[.int .i64 w,.int .u64 x,.int .u64 y] W fun r W' => r = .returned (.int .u64 V) ∧ Below W.heap.size W W':=by
 go_enter Tryz.func113,Tryz.ntmps113
 go_wp2_with fail
 refine cg1 HO1 fun w1 hb => ?_
 have HB:=ab (ad hb (.cells #[.bool n1,.int .i64 K1,.int .i64 X1,.int .u64 S1] 105))
 have HA:=ab (ak w1 (.bool n1) (.int .i64 K1) (.int .i64 X1) (.int .u64 S1) 105)
 clear hb
 go_wp2_with fail
 refine cg1 HO2 fun w2 hb => ?_
 have HB:=ab (ad (ac (aa HB) hb) (.cells #[.bool n2,.int .i64 K2,.int .i64 X2,.int .u64 S2] 105))
 have HA:=ab (((aa HA).below hb).below (ae _ (.cells #[.bool n2,.int .i64 K2,.int .i64 X2,.int .u64 S2] 105)))
 have HA2:=ab (ak w2 (.bool n2) (.int .i64 K2) (.int .i64 X2) (.int .u64 S2) 105)
 clear hb
 obtain ⟨c0,c1,-,-⟩:=aa HA
 obtain ⟨d0,d1,-,-⟩:=aa HA2
 go_wp2_with fail
 refine cg0 HC HB fun w3 HB => ?_
 go_wp2_with fail
 go_ret
 exact ⟨rfl,aa HB⟩
theorem sG {w x y K1 X1 S1 K2 X2 S2 V : Int} {n1 n2 : Bool} (W : World) (HO1 : Ct 101 #[.int .i64 w,.int .u64 x] (.agg #[.bool n1,.int .i64 K1,.int .i64 X1,.int .u64 S1])) (HO2 : Ct 101 #[.int .i64 w,.int .u64 y] (.agg #[.bool n2,.int .i64 K2,.int .i64 X2,.int .u64 S2])) (a3 : (K1 == 3) = false) (b3 : (K2 == 3) = false) (a2 : (K1 == 2) = false) (a0 : (K1 == 0) = true) (b0 : (K2 == 0) = false)  (HC : Ct 174 #[.int .i64 w,.bool (n1 != n2),.int .i64 0,.int .u64 0] (.int .u64 V)) :
 Calls Tryz.prog 113 #[.int .i64 w,.int .u64 x,.int .u64 y] W fun r W' => r = .returned (.int .u64 V) ∧ Below W.heap.size W W':=by
 go_enter Tryz.func113,Tryz.ntmps113
 go_wp2_with fail
 refine cg1 HO1 fun w1 hb => ?_
 have HB:=ab (ad hb (.cells #[.bool n1,.int .i64 K1,.int .i64 X1,.int .u64 S1] 105))
 have HA:=ab (ak w1 (.bool n1) (.int .i64 K1) (.int .i64 X1) (.int .u64 S1) 105)
 clear hb
 go_wp2_with fail
 refine cg1 HO2 fun w2 hb => ?_
 have HB:=ab (ad (ac (aa HB) hb) (.cells #[.bool n2,.int .i64 K2,.int .i64 X2,.int .u64 S2] 105))
 have HA:=ab (((aa HA).below hb).below (ae _ (.cells #[.bool n2,.int .i64 K2,.int .i64 X2,.int .u64 S2] 105)))
 have HA2:=ab (ak w2 (.bool n2) (.int .i64 K2) (.int .i64 X2) (.int .u64 S2) 105)
 clear hb
 obtain ⟨c0,c1,-,-⟩:=aa HA
 obtain ⟨d0,d1,-,-⟩:=aa HA2
 go_wp2_with fail
 refine cg0 HC HB fun w3 HB => ?_
 go_wp2_with fail
 go_ret
 exact ⟨rfl,aa HB⟩
theorem sH {w x y K1 X1 S1 K2 X2 S2 V : Int} {n1 n2 : Bool} (W : World) (HO1 : Ct 101 #[.int .i64 w,.int .u64 x] (.agg #[.bool n1,.int .i64 K1,.int .i64 X1,.int .u64 S1])) (HO2 : Ct 101 #[.int .i64 w,.int .u64 y] (.agg #[.bool n2,.int .i64 K2,.int .i64 X2,.int .u64 S2])) (a3 : (K1 == 3) = false) (b3 : (K2 == 3) = false) (a2 : (K1 == 2) = false) (a0 : (K1 == 0) = false) (b0 : (K2 == 0) = false) (b2 : (K2 == 2) = true)  (HC : Ct 174 #[.int .i64 w,.bool (n1 != n2),.int .i64 0,.int .u64 0] (.int .u64 V)) :
 Calls Tryz.prog 113 #[.int .i64 w,.int .u64 x,.int .u64 y] W fun r W' => r = .returned (.int .u64 V) ∧ Below W.heap.size W W':=by
 go_enter Tryz.func113,Tryz.ntmps113
 go_wp2_with fail
 refine cg1 HO1 fun w1 hb => ?_
 have HB:=ab (ad hb (.cells #[.bool n1,.int .i64 K1,.int .i64 X1,.int .u64 S1] 105))
 have HA:=ab (ak w1 (.bool n1) (.int .i64 K1) (.int .i64 X1) (.int .u64 S1) 105)
 clear hb
 go_wp2_with fail
 refine cg1 HO2 fun w2 hb => ?_
 have HB:=ab (ad (ac (aa HB) hb) (.cells #[.bool n2,.int .i64 K2,.int .i64 X2,.int .u64 S2] 105))
 have HA:=ab (((aa HA).below hb).below (ae _ (.cells #[.bool n2,.int .i64 K2,.int .i64 X2,.int .u64 S2] 105)))
 have HA2:=ab (ak w2 (.bool n2) (.int .i64 K2) (.int .i64 X2) (.int .u64 S2) 105)
 clear hb
 obtain ⟨c0,c1,-,-⟩:=aa HA
 obtain ⟨d0,d1,-,-⟩:=aa HA2
 go_wp2_with fail
 refine cg0 HC HB fun w3 HB => ?_
 go_wp2_with fail
 go_ret
 exact ⟨rfl,aa HB⟩
theorem qe {w x y K1 X1 S1 K2 X2 S2 E V : Int} {n1 n2 : Bool} (W : World) (HO1 : Ct 101 #[.int .i64 w,.int .u64 x] (.agg #[.bool n1,.int .i64 K1,.int .i64 X1,.int .u64 S1])) (HO2 : Ct 101 #[.int .i64 w,.int .u64 y] (.agg #[.bool n2,.int .i64 K2,.int .i64 X2,.int .u64 S2])) (a3 : (K1 == 3) = false) (b3 : (K2 == 3) = false) (a2 : (K1 == 2) = false) (a0 : (K1 == 0) = false) (b0 : (K2 == 0) = false) (b2 : (K2 == 2) = false) (HS : Hid (0 ≤ S1 ∧ S1 < 18446744073709551616 ∧ 0 ≤ S2 ∧ S2 < 18446744073709551616)) (kx : IntKind.i64.wrap (X1 - X2) = E) (HE : Hid (∀ (a : Option Addr) (m c : Nat) (a' : Option Addr) (m' c' : Nat) (W : World),ai W (.slice a m c) S1.toNat → ai W (.slice a' m' c') S2.toNat → Calls Tryz.prog 202 #[.int .i64 w,.bool (n1 != n2),.agg #[.slice a m c],.agg #[.slice a' m' c'],.int .i64 E] W fun r W' => r = .returned (.int .u64 V) ∧ Below W.heap.size W W')) :
 Calls Tryz.prog 113 #[.int .i64 w,.int .u64 x,.int .u64 y] W fun r W' => r = .returned (.int .u64 V) ∧ Below W.heap.size W W':=by
 go_enter Tryz.func113,Tryz.ntmps113
 go_wp2_with fail
 refine cg1 HO1 fun w1 hb => ?_
 have HB:=ab (ad hb (.cells #[.bool n1,.int .i64 K1,.int .i64 X1,.int .u64 S1] 105))
 have HA:=ab (ak w1 (.bool n1) (.int .i64 K1) (.int .i64 X1) (.int .u64 S1) 105)
 clear hb
 go_wp2_with fail
 refine cg1 HO2 fun w2 hb => ?_
 have HB:=ab (ad (ac (aa HB) hb) (.cells #[.bool n2,.int .i64 K2,.int .i64 X2,.int .u64 S2] 105))
 have HA:=ab (((aa HA).below hb).below (ae _ (.cells #[.bool n2,.int .i64 K2,.int .i64 X2,.int .u64 S2] 105)))
 have HA2:=ab (ak w2 (.bool n2) (.int .i64 K2) (.int .i64 X2) (.int .u64 S2) 105)
 clear hb
 obtain ⟨c0,c1,-,-⟩:=aa HA
 obtain ⟨d0,d1,-,-⟩:=aa HA2
 go_wp2_with fail
 clear c0 c1 d0 d1
 have HB:=ab ((aa HB).drew)
 have HA:=ab ((aa HA).below ((Below.refl _ _).drew))
 have HA2:=ab ((aa HA2).below ((Below.refl _ _).drew))
 refine wp_region_held_drew (S:=fun w' => (w'.cell? ⟨w1.heap.size,0,none⟩ = some (.bool n1) ∧ w'.cell? ⟨w1.heap.size,1,none⟩ = some (.int .i64 K1) ∧ w'.cell? ⟨w1.heap.size,2,none⟩ = some (.int .i64 X1) ∧ w'.cell? ⟨w1.heap.size,3,none⟩ = some (.int .u64 S1)) ∧ (w'.cell? ⟨w2.heap.size,0,none⟩ = some (.bool n2) ∧ w'.cell? ⟨w2.heap.size,1,none⟩ = some (.int .i64 K2) ∧ w'.cell? ⟨w2.heap.size,2,none⟩ = some (.int .i64 X2) ∧ w'.cell? ⟨w2.heap.size,3,none⟩ = some (.int .u64 S2))) (by kernel_rfl) ?_ (fun hHeld => ?_)
 ·(try dsimp only)
  exact ⟨aa HA,aa HA2⟩
 refine aC 15 (by kernel_rfl) ?_
 refine tkA 0 73 1 ?_
 refine tkA 1 74 3 ?_
 refine tkA 2 75 7 ?_
 refine tkA 3 76 15 ?_
 refine tkA 5 78 47 ?_
 refine tkA 6 79 111 ?_
 refine tkA 8 81 367 ?_
 refine tkA 9 82 879 ?_
 refine tkA 10 83 1903 ?_
 refine tkA 11 84 3951 ?_
 refine tkA 12 85 8047 ?_
 refine rdA 4 8063 (fun Kk hKk => ?_)
 go_simp
 refine (aE S1 _ (aa HS).1 (aa HS).2.1).mono ?_
 rintro _ w3 ⟨s3,rfl,hN,hbl⟩
 obtain ⟨a3,m3,c3,rfl⟩:=hN.slice
 have HB:=bt HB hbl
 have HA:=ab ((aa HA).below hbl)
 have HA2:=ab ((aa HA2).below hbl)
 have H3:=ab hN
 clear hbl hN
 (try go_wp2_with fail)
 refine oA hKk (⟨aa HA,aa HA2⟩) fun hHeld => ?_
 clear hKk Kk
 refine rdA 7 8191 (fun Kk hKk => ?_)
 go_simp
 refine (aE S2 _ (aa HS).2.2.1 (aa HS).2.2.2).mono ?_
 rintro _ w4 ⟨s4,rfl,hN,hbl⟩
 obtain ⟨a4,m4,c4,rfl⟩:=hN.slice
 have HB:=bt HB hbl
 have HA:=ab ((aa HA).below hbl)
 have HA2:=ab ((aa HA2).below hbl)
 have H3:=ab ((aa H3).below hbl)
 have H4:=ab hN
 clear hbl hN
 (try go_wp2_with fail)
 refine oA hKk (⟨aa HA,aa HA2⟩) fun hHeld => ?_
 clear hKk Kk
 refine rdA 13 16383 (fun Kk hKk => ?_)
 go_simp
 refine (aa HE _ _ _ _ _ _ _ (aa H3) (aa H4)).mono ?_
 rintro _ w6 ⟨rfl,hbl⟩
 have HB:=bt HB hbl
 have HA:=ab ((aa HA).below hbl)
 have HA2:=ab ((aa HA2).below hbl)
 clear hbl
 (try go_wp2_with fail)
 refine oA hKk (⟨aa HA,aa HA2⟩) fun hHeld => ?_
 clear hKk Kk
 refine tkA 14 6 32767 ?_
 refine wpAnyH_done (by kernel_rfl) ?_ _
 go_wp2
 go_ret
 exact ⟨rfl,aa HB⟩
def cT (f L T c : Nat) : Prop:=∀ d,bH f L T d ↔ c ≤ d
theorem cT.uniq {f L T c d : Nat} (h : cT f L T c) (k : cT f L T d) : c = d:=by
 have h1:=(h d).1 ((k d).2 (Nat.le_refl _))
 have h2:=(k c).1 ((h c).2 (Nat.le_refl _))
 omega
theorem cT.mono {f L T T' c d : Nat} (h : cT f L T c) (k : cT f L T' d) (ht : T ≤ T') : c ≤ d:=(h d).1 (qi ht ((k d).2 (Nat.le_refl _)))
theorem uz {w e f P Q b : Int} (k : Kd w e f P Q b) {x : Int} (hx : oK P Q x = 1) {c : Nat} (h : cT f.toNat (av f b) (oM f P Q b x * 2 ^ Z5) c) : 2 ^ f.toNat < c ∧ (c : Int) < top P Q:=by
 obtain ⟨hP,f0,f1,l0,l1,b0,b1⟩:=k.pow
 obtain ⟨hm,ht⟩:=fV k (x:=x) ⟨by omega,by omega⟩
 have hpos : 0 < oc P Q x:=by
  rcases b9 k x with ⟨h1,_⟩ | ⟨h1,_⟩ | ⟨_,h1,_⟩ | ⟨h1,_⟩
  ·omega
  ·omega
  ·exact h1
  ·omega
 have htp:=dP k
 obtain ⟨tp,htt⟩ : ∃ tp : Nat,(tp : Int) = top P Q:=⟨(top P Q).toNat,by omega⟩
 rw [hm] at h
 generalize oc P Q x = d at *
 have hb5 : f + 3 ≤ b:=by rcases k with ⟨-,-,rfl,-,-,rfl⟩ | ⟨-,-,rfl,-,-,rfl⟩ <;> omega
 have hL : av f b + f.toNat + b.toNat = 5001:=by unfold av; omega
 -- one lies among the floats
 have hone : 2 ^ Z5 ≤ bd f.toNat (av f b) (tp - 1):=by
  have hv:=bJ f.toNat (av f b) (2 ^ f.toNat) (av f b + (b.toNat - 1)) (by rw [Nat.pow_succ]; have:=Nat.two_pow_pos f.toNat; omega) (by omega) (fun _ => Nat.le_refl _)
  rw [← Nat.pow_add,show av f b + (b.toNat - 1) - av f b = b.toNat - 1 by omega] at hv
  have e : f.toNat + (av f b + (b.toNat - 1)) = Z5:=by unfold Z5; omega
  rw [e] at hv
  rw [← hv,eJ]
  have : ((b.toNat - 1) * 2 ^ f.toNat + 2 ^ f.toNat : Nat) ≤ tp - 1:=by
   have h2 : (((b.toNat - 1) * 2 ^ f.toNat + 2 ^ f.toNat : Nat) : Int) = b * P:=by
    rw [show (b.toNat - 1) * 2 ^ f.toNat + 2 ^ f.toNat = b.toNat * 2 ^ f.toNat by
     obtain ⟨i,hi⟩ : ∃ i,b.toNat = i + 1:=⟨b.toNat - 1,by omega⟩
     rw [hi,Nat.add_sub_cancel,Nat.add_mul,Nat.one_mul],Int.natCast_mul,← hP,Int.toNat_of_nonneg (by omega)]
   have h3 : b * P + 1 ≤ top P Q:=by
    unfold top
    rcases k with ⟨-,-,-,rfl,rfl,rfl⟩ | ⟨-,-,-,rfl,rfl,rfl⟩ <;> omega
   omega
  exact this
 constructor
 ·refine Decidable.byContradiction fun hn => ?_
  have h1:=(h (2 ^ f.toNat)).2 (by omega)
  have h2 : cm f.toNat (av f b) (2 ^ f.toNat) = (2 * 2 ^ f.toNat + 1) * 2 ^ av f b:=by
   have:=ib f.toNat (av f b) (2 ^ f.toNat) (av f b) (by rw [Nat.pow_succ]; have:=Nat.two_pow_pos f.toNat; omega) (Nat.le_refl _) (fun h => absurd h (Nat.lt_irrefl _))
   rw [Nat.sub_self,Nat.zero_mul,Nat.zero_add] at this
   exact this
  have h3 : cm f.toNat (av f b) (2 ^ f.toNat) ≤ 2 ^ (f.toNat + 2 + av f b):=by
   rw [h2,Nat.pow_add]
   refine Nat.mul_le_mul_right _ ?_
   rw [show f.toNat + 2 = f.toNat + 1 + 1 by omega,Nat.pow_succ,Nat.pow_succ]
   have:=Nat.two_pow_pos f.toNat
   omega
  have h4:=Nat.mul_le_mul h3 h3
  rw [← Nat.pow_add] at h4
  have h5 : 2 ^ (av f b) ≤ bd f.toNat (av f b) d:=by
   have:=(eJ (f:=f.toNat) (L:=av f b) (c:=1) (d:=d)).2 hpos
   have e1 : bd f.toNat (av f b) 1 = 2 ^ av f b:=by
    unfold bd
    rw [if_pos (by rw [Nat.pow_succ]; have:=Nat.two_pow_pos f.toNat; omega),Nat.one_mul]
   omega
  have h6:=Nat.mul_le_mul_right (2 ^ Z5) h5
  rw [← Nat.pow_add] at h6
  have h7 : 2 ^ (f.toNat + 2 + av f b + (f.toNat + 2 + av f b)) ≤ 2 ^ (av f b + Z5):=Nat.pow_le_pow_right (by omega) (by unfold Z5; omega)
  have h8:=Nat.two_pow_pos (av f b + Z5)
  unfold bH at h1
  generalize 2 ^ (av f b + Z5) = A at *
  generalize bd f.toNat (av f b) d * 2 ^ Z5 = T at *
  generalize cm f.toNat (av f b) (2 ^ f.toNat) * cm f.toNat (av f b) (2 ^ f.toNat) = mm at *
  omega
 ·have h1 : bH f.toNat (av f b) (bd f.toNat (av f b) d * 2 ^ Z5) (tp - 1):=by
   have h2 : bd f.toNat (av f b) d ≤ bd f.toNat (av f b) (tp - 1):=eJ.2 (by omega)
   have h3:=Nat.mul_le_mul h2 hone
   have h4 : 2 * bd f.toNat (av f b) (tp - 1) < cm f.toNat (av f b) (tp - 1):=by
    have:=(jh (f:=f.toNat) (L:=av f b) (c:=tp - 1) (d:=tp - 1 + 1)).2 (by omega)
    unfold cm
    omega
   have h5:=j6.2 h4
   rw [Nat.mul_mul_mul_comm] at h5
   unfold bH
   exact Or.inl (by omega)
  have h2:=(h (tp - 1)).1 h1
  omega
def ngs (H : Int) (s : Bool) (x : Int) : Bool:=s && decide (H ≤ x % (2 * H))
def amt (H : Int) (s : Bool) (x : Int) : Int:=if ngs H s x = true then 2 * H - x % (2 * H) else x % (2 * H)
def iF (f P Q b H : Int) (s : Bool) (x : Int) : Int:=rd f P Q b (ngs H s x) ((amt H s x).toNat * 2 ^ Z5)
def dF (f P Q b : Int) (n : Bool) (K : Int) (M : Nat) : Int:=if K = 3 then cM f P Q else if K = 2 then put f P Q n (Q - 1) 0 else rd f P Q b n M
theorem qw (H x : Int) : ngs H false x = false:=rfl
theorem uN (H x : Int) : amt H false x = x % (2 * H):=by unfold amt; rw [qw,if_neg (by decide)]
theorem qx {H x : Int} (h : H ≤ x % (2 * H)) : ngs H true x = true:=by unfold ngs; simpa using h
theorem nd {H x : Int} (h : ¬ H ≤ x % (2 * H)) : ngs H true x = false:=by unfold ngs; simpa using h
theorem qy {H x : Int} (h : H ≤ x % (2 * H)) : amt H true x = 2 * H - x % (2 * H):=by unfold amt; rw [qx h,if_pos rfl]
theorem qz {H x : Int} (h : ¬ H ≤ x % (2 * H)) : amt H true x = x % (2 * H):=by unfold amt; rw [nd h,if_neg (by decide)]
theorem om {w e f P Q b : Int} (k : Kd w e f P Q b) : (w = 32 ∧ P * Q = 2147483648) ∨ (w = 64 ∧ P * Q = 9223372036854775808):=by
 rcases k with ⟨rfl,-,-,rfl,rfl,-⟩ | ⟨rfl,-,-,rfl,rfl,-⟩
 ·exact Or.inl ⟨rfl,rfl⟩
 ·exact Or.inr ⟨rfl,rfl⟩
theorem sY {w e f P Q b : Int} (k : Kd w e f P Q b) (s : Bool) (x : Int) : 0 ≤ amt (P * Q) s x ∧ amt (P * Q) s x < 18446744073709551616 ∧ (ngs (P * Q) s x = true → amt (P * Q) s x ≠ 0):=by
 have hk:=om k
 generalize P * Q = H at *
 have hm : 0 ≤ x % (2 * H) ∧ x % (2 * H) < 2 * H:=⟨Int.emod_nonneg _ (by omega),Int.emod_lt_of_pos _ (by omega)⟩
 cases s
 ·rw [uN,qw]
  exact ⟨hm.1,by omega,fun h => by cases h⟩
 ·by_cases h : H ≤ x % (2 * H)
  ·rw [qy h]
   exact ⟨by omega,by omega,fun _ => by omega⟩
  ·rw [qz h,nd h]
   exact ⟨hm.1,by omega,fun h => by cases h⟩
theorem uL (x : Int) : IntKind.i32.wrap x = if 2147483648 ≤ x % 4294967296 then x % 4294967296 - 4294967296 else x % 4294967296:=by
 simp only [IntKind.wrap,IntKind.bits,IntKind.signed]
 simp
theorem uM (x : Int) : IntKind.i64.wrap x = if 9223372036854775808 ≤ x % 18446744073709551616 then x % 18446744073709551616 - 18446744073709551616 else x % 18446744073709551616:=by
 simp only [IntKind.wrap,IntKind.bits,IntKind.signed]
 simp
theorem aiz (x : Int) : IntKind.u32.wrap x = x % 4294967296:=by
 simp only [IntKind.wrap,IntKind.bits,IntKind.signed]
 simp
theorem me {k e f P Q b x : Int} (kd : Kd k e f P Q b) (s : Bool) (x0 : 0 ≤ x) (x1 : x < 18446744073709551616) : Ct 249 #[.int .i64 k,.int .u64 x,.bool s] (.tuple #[.bool (ngs (P * Q) s x),.int .u64 (amt (P * Q) s x)]):=by
 rcases om kd with ⟨rfl,h⟩ | ⟨rfl,h⟩ <;> rw [h] <;> clear h kd
 ·cases s
  ·rw [qw,uN]
   exact ab (fun W => qH W (aiz x) (ab (fun W => qD W (by omega) (by rw [IntKind.wrap_u64]; omega))))
  ·by_cases g : 2147483648 ≤ x % (2 * 2147483648)
   ·rw [qx g,qy g]
    exact ab (fun W => ki W (y:=x % 4294967296 - 4294967296) (by rw [uL,if_pos (by omega)]) (ab (fun W => qB W (by omega) rfl (by rw [IntKind.wrap_u64,IntKind.wrap_u64]; omega))))
   ·rw [nd g,qz g]
    exact ab (fun W => ki W (y:=x % 4294967296) (by rw [uL,if_neg (by omega)]) (ab (fun W => qC W (by omega) (by rw [IntKind.wrap_u64]; omega))))
 ·cases s
  ·rw [qw,uN,show x % (2 * 9223372036854775808) = x by omega]
   exact ab (fun W => qI W (ab (fun W => qG W (by omega))))
  ·by_cases g : 9223372036854775808 ≤ x % (2 * 9223372036854775808)
   ·rw [qx g,qy g]
    exact ab (fun W => kj W (y:=x % 18446744073709551616 - 18446744073709551616) (by rw [uM,if_pos (by omega)]) (ab (fun W => qE W (by omega) rfl (by rw [IntKind.wrap_u64,IntKind.wrap_u64]; omega))))
   ·rw [nd g,qz g]
    exact ab (fun W => kj W (y:=x % 18446744073709551616) (by rw [uM,if_neg (by omega)]) (ab (fun W => qF W (by omega) (by rw [IntKind.wrap_u64]; omega))))
theorem m7 {w e f P Q b a : Int} (k : Kd w e f P Q b) (n : Bool) (a0 : 0 ≤ a) (a1 : a < 18446744073709551616) (hn : n = true → a ≠ 0) : Ct 250 #[.int .i64 w,.bool n,.int .u64 a] (.int .u64 (rd f P Q b n (a.toNat * 2 ^ Z5))):=by
 have hp:=fun W => iZ (E:=0) k n a.toNat (en a0 a1) (by omega) (by omega) W
 rw [un] at hp
 cases n
 ·exact ab (fun W => uO W (ab (fun W => fG a W a0 a1)) (ab hp))
 ·exact ab (fun W => uP W (nb:=true) (dj (hn rfl)) (ab (fun W => fG a W a0 a1)) (ab hp))
theorem qu {w e f P Q b k e' f' P' Q' b' x : Int} (kw : Kd w e f P Q b) (kk : Kd k e' f' P' Q' b') (s : Bool) (x0 : 0 ≤ x) (x1 : x < 18446744073709551616) : Ct 169 #[.int .i64 w,.int .i64 k,.int .u64 x,.bool s] (.int .u64 (iF f P Q b (P' * Q') s x)):=by
 obtain ⟨a0,a1,a2⟩:=sY kk s x
 exact ab (fun W => jF W (me kk s x0 x1) (m7 kw _ a0 a1 a2))
theorem ii {w e f P Q b k e' f' P' Q' b' x : Int} (kw : Kd w e f P Q b) (kk : Kd k e' f' P' Q' b') (x0 : 0 ≤ x) (x1 : x < 18446744073709551616) : Ct 94 #[.int .i64 w,.int .i64 k,.int .u64 x] (.int .u64 (iF f P Q b (P' * Q') false x)):=ab (fun W => td W (qu kw kk false x0 x1))
theorem ij {w e f P Q b k e' f' P' Q' b' x : Int} (kw : Kd w e f P Q b) (kk : Kd k e' f' P' Q' b') (x0 : 0 ≤ x) (x1 : x < 18446744073709551616) : Ct 93 #[.int .i64 w,.int .i64 k,.int .u64 x] (.int .u64 (iF f P Q b (P' * Q') true x)):=ab (fun W => xt W (qu kw kk true x0 x1))
theorem gH {w e f P Q b w' e' f' P' Q' b' K X S : Int} (k : Kd w e f P Q b) (k' : Kd w' e' f' P' Q' b') (n : Bool) (h : Prt f P Q b K X S) : cV f' P' Q' b' n K X S = dF f' P' Q' b' n K (mag X S):=by
 obtain ⟨a,c,-⟩:=h.in k
 unfold cV dF cM
 rw [uc S a c]
 have hK : K = 0 ∨ K = 1 ∨ K = 2 ∨ K = 3:=by unfold Prt at h; omega
 rcases hK with rfl | rfl | rfl | rfl
 ·rw [if_pos rfl,if_neg (by decide),if_neg (by decide),h.mag0 (by decide),fT k']
 ·rw [if_neg (by decide),if_pos rfl,if_neg (by decide),if_neg (by decide)]
  rfl
 ·simp
 ·simp
theorem qv {x : Int} (x0 : 0 ≤ x) (x1 : x < 18446744073709551616) : Ct 96 #[.int .u64 x] (.int .u64 (dF 52 4503599627370496 2048 1023 (oN 8388608 256 x) (oK 8388608 256 x) (oM 23 8388608 256 127 x))):=by
 obtain ⟨X,S,ho,hp,hm⟩:=aL f9 x
 obtain ⟨-,-,s0,-,s1⟩:=hp.in f9
 have hn:=fun W => cE fw (oN 8388608 256 x) (oK 8388608 256 x) X S s0 (by omega) W
 rw [gH f9 fw _ hp,hm] at hn
 exact ab (fun W => xu W (ab (fun W => bj x f9.wd W x0 x1 ho)) (ab hn))
theorem sX {x : Int} (x0 : 0 ≤ x) (x1 : x < 18446744073709551616) : Ct 95 #[.int .u64 x] (.int .u64 (dF 23 8388608 256 127 (oN 4503599627370496 2048 x) (oK 4503599627370496 2048 x) (oM 52 4503599627370496 2048 1023 x))):=by
 obtain ⟨X,S,ho,hp,hm⟩:=aL fw x
 obtain ⟨-,-,s0,-,s1⟩:=hp.in fw
 have hn:=fun W => cE f9 (oN 4503599627370496 2048 x) (oK 4503599627370496 2048 x) X S s0 (by omega) W
 rw [gH fw f9 _ hp,hm] at hn
 exact ab (fun W => acu W (ab (fun W => bj x fw.wd W x0 x1 ho)) (ab hn))
theorem tk {k e f P Q b x : Int} (kd : Kd k e f P Q b) (x0 : 0 ≤ x) (x1 : x < 18446744073709551616) : Ct 184 #[.int .i64 k,.int .u64 x] (.tuple #[.bool (ngs (P * Q) true x),.int .u64 (amt (P * Q) true x)]):=by
 have HC:=fun W => bw x kd W x0 x1
 rw [show aU f P Q x = x % (2 * (P * Q)) by unfold aU; rw [if_neg kd.f0]] at HC
 rcases om kd with ⟨rfl,h⟩ | ⟨rfl,h⟩ <;> rw [h] at HC ⊢ <;> clear h
 ·have HT:=fun W => dm 31 2147483648 W (by omega) (by omega) (by decide +kernel)
  by_cases g : 2147483648 ≤ x % (2 * 2147483648)
  ·rw [qx g,qy g]
   exact ab (fun W => xB W (ab HC) (ab HT) (by omega) (by rw [IntKind.wrap_u64]; omega))
  ·rw [nd g,qz g]
   exact ab (fun W => qL W (ab HC) (by decide) (ab HT) (by omega))
 ·have HT:=fun W => dm 63 9223372036854775808 W (by omega) (by omega) (by decide +kernel)
  by_cases g : 9223372036854775808 ≤ x % (2 * 9223372036854775808)
  ·rw [qx g,qy g]
   exact ab (fun W => xC W (ab HC) (ab HT) (by omega) (by rw [IntKind.wrap_u64,Int.emod_eq_of_lt (by omega) (by omega)]) (by rw [IntKind.wrap_u64]; omega))
  ·rw [nd g,qz g]
   exact ab (fun W => qL W (ab HC) (by decide) (ab HT) (by omega))
theorem ac4 {x : Int} (x1 : x < 18446744073709551616) : x.toNat < pw 140:=ck (k:=2) 140 (by rw [lu]; omega) (by omega)
theorem uR {w e f P Q b : Int} (k : Kd w e f P Q b) (n : Bool) {a : Int} (a1 : a < 18446744073709551616) :
 Hid (∀ (p : Option Addr) (np cp : Nat) (W : World),ai W (.slice p np cp) a.toNat → Calls Tryz.prog 185 #[.int .i64 w,.bool n,.agg #[.slice p np cp],.int .i64 0] W fun r W' => r = .returned (.int .u64 (rd f P Q b n (a.toNat * 2 ^ Z5))) ∧ Below W.heap.size W W'):=
 pu (low:=0) k n a.toNat (a.toNat * 2 ^ Z5) (ac4 a1) (by omega) (by omega) (by rw [un])
theorem co {w e f P Q b k e' f' P' Q' b' x : Int} (kw : Kd w e f P Q b) (kk : Kd k e' f' P' Q' b') (s : Bool) (x0 : 0 ≤ x) (x1 : x < 18446744073709551616) : Ct 102 #[.int .i64 w,.int .i64 k,.int .u64 x,.bool s] (.int .u64 (iF f P Q b (P' * Q') s x)):=by
 obtain ⟨a0,a1,-⟩:=sY kk s x
 have HC:=fun W => bw x kk W x0 x1
 have hc : aU f' P' Q' x = amt (P' * Q') false x:=by rw [uN]; unfold aU; rw [if_neg kk.f0]
 cases s
 ·rw [hc] at HC
  unfold iF
  rw [qw]
  exact ab (fun W => xD W (ab HC) a0 a1 (uR kw false a1))
 ·exact ab (fun W => xE W (ab HC) (tk kk x0 x1) a0 a1 (uR kw _ a1))
end Go.Proofs.YtpbgpdmffejdgaaGreatDoor

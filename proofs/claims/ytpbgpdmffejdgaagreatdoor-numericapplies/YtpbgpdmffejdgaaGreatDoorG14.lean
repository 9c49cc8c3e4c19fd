/- MInM, MNuD. -/
import Derived.Test.YtpbgpdmffejdgaaGreatDoorG05
import Derived.Laws.MathBits
namespace Go.Proofs.YtpbgpdmffejdgaaGreatDoor
theorem lb (x i : Nat) : x.testBit i = decide (x / 2 ^ i % 2 = 1):=by
 rw [Nat.testBit_eq_decide_div_mod_eq]
def bX (g : Nat → Bool) : Nat → Nat
 | 0 => 0
 | n + 1 => bX g n + (g n).toNat * 2 ^ n
theorem nt (g : Nat → Bool) : ∀ n,bX g n < 2 ^ n
 | 0 => by simp [bX]
 | n + 1 => by
  have:=nt g n
  have h : (g n).toNat ≤ 1:=by cases g n <;> simp
  have:=Nat.mul_le_mul_right (2 ^ n) h
  simp only [bX,Nat.pow_succ]
  omega
theorem tK (g : Nat → Bool) (n i : Nat) : (bX g n).testBit i = (decide (i < n) && g i):=by
 induction n with
 | zero => simp [bX]
 | succ n ih =>
  have h:=Nat.testBit_two_pow_mul_add ((g n).toNat) (nt g n) i
  simp only [bX]
  rw [Nat.mul_comm,Nat.add_comm,h]
  by_cases hi : i < n
  ·rw [if_pos hi,ih]
   simp [hi,show i < n + 1 by omega]
  ·rw [if_neg hi]
   by_cases he : i = n
   ·subst he
    cases g i <;> simp
   ·rw [show decide (i < n + 1) = false from decide_eq_false (by omega)]
    have : i - n ≠ 0:=by omega
    have h1 : (g n).toNat < 2 ^ (i - n):=by
     have:=Nat.pow_le_pow_right (show 0 < 2 by omega) (show 1 ≤ i - n by omega)
     have h : (g n).toNat ≤ 1:=by cases g n <;> simp
     omega
    rw [Nat.testBit_lt_two_pow h1]
    rfl
theorem fA {g : Nat → Bool} {n x : Nat} (hx : x < 2 ^ n) (h : ∀ i,i < n → x.testBit i = g i) : bX g n = x:=by
 apply Nat.eq_of_testBit_eq
 intro i
 rw [tK]
 by_cases hi : i < n
 ·rw [h i hi]; simp [hi]
 ·have : x < 2 ^ i:=Nat.lt_of_lt_of_le hx (Nat.pow_le_pow_right (by omega) (by omega))
  rw [Nat.testBit_lt_two_pow this]; simp [hi]
theorem yW (g : Nat → Bool) (n j : Nat) (hj : j < n) : bX g n / 2 ^ j = 2 * (bX g n / 2 ^ (j + 1)) + (g j).toNat:=by
 have h:=tK g n j
 rw [lb] at h
 simp only [hj,decide_true,Bool.true_and] at h
 have e : bX g n / 2 ^ (j + 1) = bX g n / 2 ^ j / 2:=by rw [Nat.pow_succ,Nat.div_div_eq_div_mul]
 rw [e]
 generalize bX g n / 2 ^ j = z at *
 cases hg : g j
 ·rw [hg] at h; simp at h ⊢; omega
 ·rw [hg] at h; simp at h ⊢; omega
theorem afn (g : Nat → Bool) (n : Nat) : bX g n / 2 ^ n = 0:=Nat.div_eq_of_lt (nt g n)
def ik (A w n : Nat) : Nat:=A * 2 ^ n % 2 ^ w
def lc (A n : Nat) : Nat:=A / 2 ^ n
def ld (A w n : Nat) : Nat:=if A < 2 ^ (w - 1) then A / 2 ^ n else A / 2 ^ n + (2 ^ w - 2 ^ (w - n))
theorem kB (A w n i : Nat) : (ik A w n).testBit i = (decide (i < w) && (decide (n ≤ i) && A.testBit (i - n))):=by
 unfold ik
 rw [Nat.testBit_mod_two_pow,Nat.testBit_mul_two_pow]
theorem iI (A n i : Nat) : (lc A n).testBit i = A.testBit (i + n):=by
 unfold lc
 rw [Nat.testBit_div_two_pow,Nat.add_comm]
theorem gQ {A w i : Nat} (h : A < 2 ^ w) (hi : w ≤ i) : A.testBit i = false:=
 Nat.testBit_lt_two_pow (Nat.lt_of_lt_of_le h (Nat.pow_le_pow_right (by omega) hi))
theorem nv {A w : Nat} (h : A < 2 ^ w) (hw : 0 < w) : A.testBit (w - 1) = decide (2 ^ (w - 1) ≤ A):=by
 rw [lb]
 have e : 2 ^ w = 2 ^ (w - 1) * 2:=by rw [← Nat.pow_succ]; congr 1; omega
 have h2 : A / 2 ^ (w - 1) < 2:=Nat.div_lt_of_lt_mul (by rw [← e]; exact h)
 by_cases hA : 2 ^ (w - 1) ≤ A
 ·have : 1 ≤ A / 2 ^ (w - 1):=(Nat.le_div_iff_mul_le (Nat.two_pow_pos _)).2 (by omega)
  rw [decide_eq_true hA]
  exact decide_eq_true (by omega)
 ·have : A / 2 ^ (w - 1) = 0:=Nat.div_eq_of_lt (by omega)
  rw [decide_eq_false hA,this]
  rfl
theorem tL {A w n i : Nat} (h : A < 2 ^ w) (hn : n < w) (hi : i < w) : (ld A w n).testBit i = if i + n < w then A.testBit (i + n) else A.testBit (w - 1):=by
 rw [nv h (by omega)]
 unfold ld
 by_cases hA : A < 2 ^ (w - 1)
 ·rw [if_pos hA,show decide (2 ^ (w - 1) ≤ A) = false from decide_eq_false (by omega)]
  have:=iI A n i
  unfold lc at this
  rw [this]
  split
  ·rfl
  ·exact gQ h (by omega)
 ·rw [if_neg hA,show decide (2 ^ (w - 1) ≤ A) = true from decide_eq_true (by omega)]
  have e : 2 ^ w - 2 ^ (w - n) = 2 ^ (w - n) * (2 ^ n - 1):=by
   rw [Nat.mul_sub,← Nat.pow_add,Nat.mul_one]; congr 2; omega
  have hlt : A / 2 ^ n < 2 ^ (w - n):=Nat.div_lt_of_lt_mul (by rw [← Nat.pow_add]; rw [show n + (w - n) = w by omega]; exact h)
  rw [e,Nat.add_comm,Nat.testBit_two_pow_mul_add _ hlt]
  by_cases hc : i + n < w
  ·rw [if_pos hc,if_pos (by omega)]
   exact iI A n i
  ·rw [if_neg hc,if_neg (by omega),Nat.testBit_two_pow_sub_one]
   exact decide_eq_true (by omega)
theorem iu (A w n : Nat) : ik A w n < 2 ^ w:=Nat.mod_lt _ (Nat.two_pow_pos _)
theorem jt {A w : Nat} (n : Nat) (h : A < 2 ^ w) : lc A n < 2 ^ w:=Nat.lt_of_le_of_lt (Nat.div_le_self _ _) h
theorem q5 {A w n : Nat} (h : A < 2 ^ w) (hn : n < w) : ld A w n < 2 ^ w:=by
 unfold ld
 split
 ·exact jt n h
 ·have hlt : A / 2 ^ n < 2 ^ (w - n):=Nat.div_lt_of_lt_mul (by rw [← Nat.pow_add]; rw [show n + (w - n) = w by omega]; exact h)
  have : 2 ^ (w - n) ≤ 2 ^ w:=Nat.pow_le_pow_right (by omega) (by omega)
  omega
def dk (A w : Nat) (n : Int) (round inn : Bool) (i : Nat) : Bool:=
 if 0 ≤ (i : Int) - n ∧ (i : Int) - n < w then A.testBit ((i : Int) - n).toNat else if round then A.testBit (((i : Int) - n + w) % w).toNat else inn
theorem yX {A w n : Nat} (_hn : n < w) : bX (dk A w n false false) w = ik A w n:=by
 refine fA (iu _ _ _) (fun i hi => ?_)
 rw [kB]
 unfold dk
 by_cases h : n ≤ i
 ·rw [if_pos (by omega)]
  simp only [hi,h,decide_true,Bool.true_and]
  congr 1; omega
 ·rw [if_neg (by omega)]; simp [h]
theorem yY {A w n : Nat} (hA : A < 2 ^ w) (_hn : n < w) : bX (dk A w (-(n : Int)) false false) w = lc A n:=by
 refine fA (jt _ hA) (fun i hi => ?_)
 rw [iI]
 unfold dk
 by_cases h : i + n < w
 ·rw [if_pos (by omega)]
  congr 1; omega
 ·rw [if_neg (by omega),gQ hA (by omega)]; rfl
theorem yZ {A w n : Nat} (hA : A < 2 ^ w) (hn : n < w) : bX (dk A w (-(n : Int)) false (A.testBit (w - 1))) w = ld A w n:=by
 refine fA (q5 hA hn) (fun i hi => ?_)
 rw [tL hA hn hi]
 unfold dk
 by_cases h : i + n < w
 ·rw [if_pos h,if_pos (by omega)]
  congr 1; omega
 ·rw [if_neg h,if_neg (by omega)]; rfl
def le (A w n : Nat) : Nat:=ik A w n ||| lc A ((w - n) % w)
theorem lf {A w n : Nat} (hA : A < 2 ^ w) : le A w n < 2 ^ w:=Nat.or_lt_two_pow (iu _ _ _) (jt _ hA)
theorem cz {k w : Nat} (h : k < w) : k % w = k:=Nat.mod_eq_of_lt h
theorem eF {k w : Nat} (h : w ≤ k) (h2 : k < w + w) : k % w = k - w:=by
 rw [Nat.mod_eq_sub_mod h,Nat.mod_eq_of_lt (by omega)]
theorem kC {A w n i : Nat} (hA : A < 2 ^ w) (hn : n < w) (hi : i < w) : (le A w n).testBit i = A.testBit ((i + (w - n)) % w):=by
 unfold le
 rw [Nat.testBit_or,kB,iI]
 by_cases h0 : n = 0
 ·subst h0
  rw [show w - 0 = w from rfl,Nat.mod_self,eF (by omega) (by omega)]
  simp [hi]
 ·rw [cz (show w - n < w by omega)]
  by_cases h : n ≤ i
  ·rw [eF (by omega) (by omega),gQ hA (show w ≤ i + (w - n) by omega)]
   simp only [hi,h,decide_true,Bool.true_and,Bool.or_false]
   congr 1; omega
  ·rw [cz (by omega)]; simp [h]
theorem y7 {A w n : Nat} (hA : A < 2 ^ w) (hn : n < w) : bX (dk A w n true false) w = le A w n:=by
 refine fA (lf hA) (fun i hi => ?_)
 rw [kC hA hn hi]
 unfold dk
 by_cases h : n ≤ i
 ·rw [if_pos (by omega),eF (by omega) (by omega)]
  congr 1; omega
 ·rw [if_neg (by omega),cz (by omega),if_pos rfl]
  congr 1
  rw [Int.emod_eq_of_lt (by omega) (by omega)]
  omega
theorem u9 {A w n : Nat} (hA : A < 2 ^ w) (hn : n < w) : bX (dk A w (-(n : Int)) true false) w = le A w ((w - n) % w):=by
 refine fA (lf hA) (fun i hi => ?_)
 rw [kC hA (Nat.mod_lt _ (by omega)) hi]
 unfold dk
 by_cases h0 : n = 0
 ·subst h0
  rw [if_pos (by omega),Nat.sub_zero,Nat.mod_self,Nat.sub_zero,eF (by omega) (by omega)]
  congr 1; omega
 ·rw [cz (show w - n < w by omega)]
  by_cases h : i + n < w
  ·rw [if_pos (by omega),cz (by omega)]
   congr 1; omega
  ·rw [if_neg (by omega),eF (by omega) (by omega),if_pos rfl]
   congr 1
   rw [show (i : Int) - -(n : Int) + w = (i + n + w : Nat) by omega,show ((i + n + w : Nat) : Int) % w = ((i + n + w) % w : Nat) by omega,Int.toNat_natCast]
   rw [show i + n + w = (i + n - w) + w + w by omega,Nat.add_mod_right,Nat.add_mod_right,Nat.mod_eq_of_lt (by omega)]
   omega
def pop : Nat → Nat → Nat
 | 0,_ => 0
 | n + 1,x => x % 2 + pop n (x / 2)
theorem eX : ∀ n x,pop n x ≤ n
 | 0,_ => Nat.le_refl _
 | n + 1,x => by have:=eX n (x / 2); simp only [pop]; omega
theorem kD : ∀ n m x,pop (n + m) x = pop n x + pop m (x / 2 ^ n)
 | 0,m,x => by simp [pop]
 | n + 1,m,x => by
  have:=kD n m (x / 2)
  rw [show n + 1 + m = (n + m) + 1 by omega]
  simp only [pop]
  rw [this,Nat.div_div_eq_div_mul,Nat.pow_succ,Nat.mul_comm 2]
  omega
theorem nw : ∀ n x,pop n (x % 2 ^ n) = pop n x
 | 0,x => rfl
 | n + 1,x => by
  simp only [pop]
  rw [Nat.pow_succ,Nat.mul_comm,Nat.mod_mul]
  have e1 : (x % 2 + 2 * (x / 2 % 2 ^ n)) % 2 = x % 2:=by omega
  have e2 : (x % 2 + 2 * (x / 2 % 2 ^ n)) / 2 = x / 2 % 2 ^ n:=by omega
  rw [e1,e2,nw n (x / 2)]
theorem lg : ∀ n x,pop n x = 0 ↔ x % 2 ^ n = 0
 | 0,x => by simp [pop,Nat.mod_one]
 | n + 1,x => by
  have:=lg n (x / 2)
  simp only [pop]
  rw [Nat.pow_succ,Nat.mul_comm,Nat.mod_mul]
  omega
theorem afp (n x : Nat) : pop (n + 1) x = pop n x + (x.testBit n).toNat:=by
 rw [kD]
 simp only [pop]
 rw [lb]
 by_cases h : x / 2 ^ n % 2 = 1
 ·simp [h]
 ·simp [h]; omega
theorem va (k x c m : Nat) (hc : c < 2 ^ k) : x &&& (c + 2 ^ k * m) = (x % 2 ^ k &&& c) + 2 ^ k * (x / 2 ^ k &&& m):=by
 apply Nat.eq_of_testBit_eq
 intro i
 have h1 : (x % 2 ^ k &&& c) < 2 ^ k:=Nat.and_lt_two_pow _ hc
 rw [Nat.add_comm c,Nat.add_comm (x % 2 ^ k &&& c),Nat.testBit_and,Nat.testBit_two_pow_mul_add _ hc,Nat.testBit_two_pow_mul_add _ h1]
 by_cases hi : i < k
 ·simp only [if_pos hi]
  rw [Nat.testBit_and,Nat.testBit_mod_two_pow]
  simp [hi]
 ·simp only [if_neg hi]
  rw [Nat.testBit_and,Nat.testBit_div_two_pow]
  congr 2; omega
def iJ (c : Nat) : Nat → Nat
 | 0 => 0
 | n + 1 => c + 256 * iJ c n
theorem iK (x c n : Nat) (hc : c < 256) : x &&& iJ c (n + 1) = (x % 256 &&& c) + 256 * (x / 256 &&& iJ c n):=va 8 x c (iJ c n) hc
def f1 (c : Nat) : Nat:=(c / 2 &&& 85) + (c &&& 85)
def f2 (c : Nat) : Nat:=(c / 4 &&& 51) + (c &&& 51)
def F1 (n x : Nat) : Nat:=(x / 2 &&& iJ 85 n) + (x &&& iJ 85 n)
def F2 (n x : Nat) : Nat:=(x / 4 &&& iJ 51 n) + (x &&& iJ 51 n)
def F3 (n x : Nat) : Nat:=(x / 16 + x) &&& iJ 15 n
theorem t1 : (List.range 512).all (fun d => d / 2 &&& 85 == (d % 256) / 2 &&& 85) = true:=by decide +kernel
theorem t2 : (List.range 1024).all (fun d => d / 4 &&& 51 == (d % 256) / 4 &&& 51) = true:=by decide +kernel
theorem t3 : (List.range 256).all (fun d => f1 d < 256 && f2 (f1 d) < 256 && f2 (f1 d) / 16 + f2 (f1 d) % 16 == pop 8 d && f2 (f1 d) / 16 ≤ 4 && f2 (f1 d) % 16 ≤ 4) = true:=by decide +kernel
theorem lh {n : Nat} {p : Nat → Bool} (h : (List.range n).all p = true) {d : Nat} (hd : d < n) : p d = true:=List.all_eq_true.1 h d (List.mem_range.2 hd)
theorem afq (n x : Nat) : F1 (n + 1) x = f1 (x % 256) + 256 * F1 n (x / 256):=by
 unfold F1 f1
 rw [iK _ _ _ (by omega),iK _ _ _ (by omega)]
 have h:=lh t1 (show x % 512 < 512 by omega)
 simp only [beq_iff_eq] at h
 rw [show x / 2 % 256 = x % 512 / 2 by omega,h,show x % 512 % 256 = x % 256 by omega,show x / 2 / 256 = x / 256 / 2 by omega]
 omega
theorem afr (n x : Nat) : F2 (n + 1) x = f2 (x % 256) + 256 * F2 n (x / 256):=by
 unfold F2 f2
 rw [iK _ _ _ (by omega),iK _ _ _ (by omega)]
 have h:=lh t2 (show x % 1024 < 1024 by omega)
 simp only [beq_iff_eq] at h
 rw [show x / 4 % 256 = x % 1024 / 4 by omega,h,show x % 1024 % 256 = x % 256 by omega,show x / 4 / 256 = x / 256 / 4 by omega]
 omega
theorem li {d : Nat} (hd : d < 256) : f1 d < 256 ∧ f2 (f1 d) < 256 ∧ f2 (f1 d) / 16 + f2 (f1 d) % 16 = pop 8 d ∧ f2 (f1 d) / 16 ≤ 4 ∧ f2 (f1 d) % 16 ≤ 4:=by
 have:=lh t3 hd
 simp at this
 omega
def G2 : Nat → Nat → Nat
 | 0,_ => 0
 | n + 1,x => f2 (f1 (x % 256)) + 256 * G2 n (x / 256)
def G3 : Nat → Nat → Nat
 | 0,_ => 0
 | n + 1,x => pop 8 (x % 256) + 256 * G3 n (x / 256)
theorem apl : ∀ n x,F2 n (F1 n x) = G2 n x
 | 0,x => by simp [F2,F1,G2,iJ]
 | n + 1,x => by
  rw [afr,afq]
  have h:=(li (show x % 256 < 256 by omega)).1
  rw [show (f1 (x % 256) + 256 * F1 n (x / 256)) % 256 = f1 (x % 256) by omega,show (f1 (x % 256) + 256 * F1 n (x / 256)) / 256 = F1 n (x / 256) by omega,apl n]
  rfl
theorem ak7 (n x : Nat) : G2 n x % 16 ≤ 4:=by
 cases n with
 | zero => simp [G2]
 | succ n =>
  have h:=li (show x % 256 < 256 by omega)
  simp only [G2]
  omega
theorem apm : ∀ n x,F3 n (G2 n x) = G3 n x
 | 0,x => by simp [F3,G3,iJ]
 | n + 1,x => by
  have h:=li (show x % 256 < 256 by omega)
  have hl:=ak7 n (x / 256)
  have ih:=apm n (x / 256)
  unfold F3 at ih ⊢
  simp only [G2,G3]
  rw [← ih,iK _ _ _ (by omega)]
  generalize f2 (f1 (x % 256)) = c at *
  generalize G2 n (x / 256) = z at *
  have e : ((c + 256 * z) / 16 + (c + 256 * z)) % 256 = c / 16 + c + 16 * (z % 16):=by omega
  have e2 : ((c + 256 * z) / 16 + (c + 256 * z)) / 256 = z / 16 + z:=by omega
  rw [e,e2,show (15 : Nat) = 2 ^ 4 - 1 from rfl,Nat.and_two_pow_sub_one_eq_mod]
  omega
theorem lj (n x : Nat) : pop (8 + n) x = pop 8 (x % 256) + pop n (x / 256):=by
 rw [kD,← nw 8 x]
theorem afs (x : Nat) : ∃ y1 y2 y3 y4 y5 y6 p0 p1 p2 p3 p4 p5 p6 p7 : Nat,p0 ≤ 8 ∧ p1 ≤ 8 ∧ p2 ≤ 8 ∧ p3 ≤ 8 ∧ p4 ≤ 8 ∧ p5 ≤ 8 ∧ p6 ≤ 8 ∧ p7 ≤ 8 ∧
 y6 = p6 + 256 * p7 ∧ y5 = p5 + 256 * y6 ∧ y4 = p4 + 256 * y5 ∧ y3 = p3 + 256 * y4 ∧ y2 = p2 + 256 * y3 ∧ y1 = p1 + 256 * y2 ∧ F3 8 (F2 8 (F1 8 x)) = p0 + 256 * y1 ∧ pop 64 x = p0 + p1 + p2 + p3 + p4 + p5 + p6 + p7:=by
 have e1 : pop 64 x = _:=lj 56 x
 rw [apl,apm,e1,lj 48 (x / 256),lj 40,lj 32,lj 24,lj 16,lj 8]
 clear e1
 simp only [G3,Nat.mul_zero,Nat.add_zero]
 generalize x / 256 = x1
 generalize x1 / 256 = x2
 generalize x2 / 256 = x3
 generalize x3 / 256 = x4
 generalize x4 / 256 = x5
 generalize x5 / 256 = x6
 generalize x6 / 256 = x7
 exact ⟨_,_,_,_,_,_,_,_,_,_,_,_,_,_,eX 8 (x % 256),eX 8 (x1 % 256),eX 8 (x2 % 256),eX 8 (x3 % 256),eX 8 (x4 % 256),eX 8 (x5 % 256),eX 8 (x6 % 256),eX 8 (x7 % 256),rfl,rfl,rfl,rfl,rfl,rfl,rfl,by simp only [Nat.add_assoc]; rw [← nw 8 x7]⟩
theorem vb {y y1 y2 y3 y4 y5 y6 p0 p1 p2 p3 p4 p5 p6 p7 : Nat} (h0 : p0 ≤ 8) (h1 : p1 ≤ 8) (h2 : p2 ≤ 8) (h3 : p3 ≤ 8) (h4 : p4 ≤ 8) (h5 : p5 ≤ 8) (h6 : p6 ≤ 8) (h7 : p7 ≤ 8)
 (f6 : y6 = p6 + 256 * p7) (f5 : y5 = p5 + 256 * y6) (f4 : y4 = p4 + 256 * y5) (f3 : y3 = p3 + 256 * y4) (f2 : y2 = p2 + 256 * y3) (f1 : y1 = p1 + 256 * y2) (f0 : y = p0 + 256 * y1) :
 y / 256 = y1 ∧ y + y1 < 18446744073709551616 ∧ (y + y1) / 65536 = y2 + y3 ∧ y + y1 + (y2 + y3) < 18446744073709551616 ∧ (y + y1 + (y2 + y3)) / 4294967296 = y4 + y5 + (y6 + p7) ∧ y + y1 + (y2 + y3) + (y4 + y5 + (y6 + p7)) < 18446744073709551616 ∧ (y + y1 + (y2 + y3) + (y4 + y5 + (y6 + p7))) % 128 = p0 + p1 + p2 + p3 + p4 + p5 + p6 + p7:=by
 have b6 : y6 ≤ 2056:=by omega
 have b5 : y5 ≤ 526344:=by omega
 have b4 : y4 ≤ 134744072:=by omega
 have b3 : y3 ≤ 34494482440:=by omega
 have b2 : y2 ≤ 8830587504648:=by omega
 have b1 : y1 ≤ 2260630401189896:=by omega
 have b0 : y ≤ 578721382704613384:=by omega
 have k0 : y + y1 = (p0 + p1) + 256 * (p1 + p2) + 65536 * (y2 + y3):=by omega
 have k1 : y2 + y3 = (p2 + p3) + 256 * (p3 + p4) + 65536 * (y4 + y5):=by omega
 have k2 : y4 + y5 = (p4 + p5) + 256 * (p5 + p6) + 65536 * (y6 + p7):=by omega
 have k3 : y6 + p7 = (p6 + p7) + 256 * p7:=by omega
 have k4 : y / 256 = y1:=by omega
 clear f0 f1 f2 f3 f4 f5 f6
 refine ⟨k4,by omega,by omega,by omega,?_,by omega,?_⟩
 ·generalize y2 + y3 = u at *
  generalize y4 + y5 = v at *
  generalize y6 + p7 = t at *
  omega
 ·generalize y2 + y3 = u at *
  generalize y4 + y5 = v at *
  generalize y6 + p7 = t at *
  omega
theorem y8 : iJ 85 8 = 6148914691236517205:=by decide
theorem y9 : iJ 51 8 = 3689348814741910323:=by decide
theorem ak8 : iJ 15 8 = 1085102592571150095:=by decide
set_option maxHeartbeats 4000000
set_option maxRecDepth 100000
open Go.RowKit
theorem kg {k f to a r t : Int} (HQ :
 (k = 1 ∧ Cm 92 #[.int .i64 f,.int .i64 to,.int .u64 a,.bool true] (.tuple #[.int .u64 r,.int .i64 t])) ∨
 (k = 3 ∧ Cm 92 #[.int .i64 f,.int .i64 to,.int .u64 a,.bool true] (.tuple #[.int .u64 r,.int .i64 t])) ∨
 (k = 7 ∧ Cm 92 #[.int .i64 f,.int .i64 to,.int .u64 a,.bool true] (.tuple #[.int .u64 r,.int .i64 t])) ∨
 (k = 9 ∧ Cm 92 #[.int .i64 f,.int .i64 to,.int .u64 a,.bool true] (.tuple #[.int .u64 r,.int .i64 t])) ∨
 (k = 2 ∧ Cm 92 #[.int .i64 f,.int .i64 to,.int .u64 a,.bool false] (.tuple #[.int .u64 r,.int .i64 t])) ∨
 (k = 4 ∧ Cm 92 #[.int .i64 f,.int .i64 to,.int .u64 a,.bool false] (.tuple #[.int .u64 r,.int .i64 t])) ∨
 (k = 8 ∧ Cm 92 #[.int .i64 f,.int .i64 to,.int .u64 a,.bool false] (.tuple #[.int .u64 r,.int .i64 t])) ∨
 (k = 10 ∧ Cm 92 #[.int .i64 f,.int .i64 to,.int .u64 a,.bool false] (.tuple #[.int .u64 r,.int .i64 t]))) :
 Cm 39 #[.int .i64 k,.int .i64 f,.int .i64 to,.int .u64 a] (.tuple #[.int .u64 r,.int .i64 t]):=by
 refine ab (fun W m => ?_)
 have HM:=ab m
 clear m
 rcases HQ with ⟨rfl,HC⟩ | ⟨rfl,HC⟩ | ⟨rfl,HC⟩ | ⟨rfl,HC⟩ | ⟨rfl,HC⟩ | ⟨rfl,HC⟩ | ⟨rfl,HC⟩ | ⟨rfl,HC⟩
 all_goals
  have HB:=rf W
  go_enter Tryz.func39,Tryz.ntmps39
  go_wp2_with fail
  refine (aa HC _ (aa HM)).mono ?_
  rintro _ w1 ⟨rfl,hb⟩
  have HB:=bt HB hb
  clear hb
  go_wp2_with fail
  go_ret2
  exact ⟨rfl,aa HB⟩
theorem eu {k f to a r : Int} (HQ :
 (k = 11 ∧ Cm 93 #[.int .i64 to,.int .i64 f,.int .u64 a] (.int .u64 r)) ∨
 (k = 13 ∧ Cm 93 #[.int .i64 to,.int .i64 f,.int .u64 a] (.int .u64 r)) ∨
 (k = 16 ∧ Cm 93 #[.int .i64 to,.int .i64 f,.int .u64 a] (.int .u64 r)) ∨
 (k = 18 ∧ Cm 93 #[.int .i64 to,.int .i64 f,.int .u64 a] (.int .u64 r)) ∨
 (k = 12 ∧ Cm 94 #[.int .i64 to,.int .i64 f,.int .u64 a] (.int .u64 r)) ∨
 (k = 14 ∧ Cm 94 #[.int .i64 to,.int .i64 f,.int .u64 a] (.int .u64 r)) ∨
 (k = 17 ∧ Cm 94 #[.int .i64 to,.int .i64 f,.int .u64 a] (.int .u64 r)) ∨
 (k = 19 ∧ Cm 94 #[.int .i64 to,.int .i64 f,.int .u64 a] (.int .u64 r)) ∨
 (k = 15 ∧ Cm 95 #[.int .u64 a] (.int .u64 r)) ∨
 (k = 20 ∧ Cm 96 #[.int .u64 a] (.int .u64 r)) ∨
 (k = 5 ∧ Cm 97 #[.int .i64 to,.int .i64 f,.int .u64 a,.bool true] (.int .u64 r)) ∨
 (k = 0 ∧ Cm 17 #[.int .i64 to,.int .u64 a] (.int .u64 r)) ∨
 (k = 6 ∧ Cm 17 #[.int .i64 to,.int .u64 a] (.int .u64 r)) ∨
 (k = 21 ∧ Cm 17 #[.int .i64 to,.int .u64 a] (.int .u64 r)) ∨
 (k = 22 ∧ Cm 17 #[.int .i64 to,.int .u64 a] (.int .u64 r)) ∨
 (k = 23 ∧ Cm 17 #[.int .i64 to,.int .u64 a] (.int .u64 r)) ∨
 (k = 24 ∧ Cm 17 #[.int .i64 to,.int .u64 a] (.int .u64 r))) :
 Cm 39 #[.int .i64 k,.int .i64 f,.int .i64 to,.int .u64 a] (.tuple #[.int .u64 r,.int .i64 0]):=by
 refine ab (fun W m => ?_)
 have HM:=ab m
 clear m
 rcases HQ with ⟨rfl,HC⟩ | ⟨rfl,HC⟩ | ⟨rfl,HC⟩ | ⟨rfl,HC⟩ | ⟨rfl,HC⟩ | ⟨rfl,HC⟩ | ⟨rfl,HC⟩ | ⟨rfl,HC⟩ | ⟨rfl,HC⟩ | ⟨rfl,HC⟩ | ⟨rfl,HC⟩ | ⟨rfl,HC⟩ | ⟨rfl,HC⟩ | ⟨rfl,HC⟩ | ⟨rfl,HC⟩ | ⟨rfl,HC⟩ | ⟨rfl,HC⟩
 all_goals
  have HB:=rf W
  go_enter Tryz.func39,Tryz.ntmps39
  go_wp2_with fail
  refine (aa HC _ (aa HM)).mono ?_
  rintro _ w1 ⟨rfl,hb⟩
  have HB:=bt HB hb
  clear hb
  go_wp2_with fail
  go_ret2
  exact ⟨rfl,aa HB⟩
theorem gG {k f to a r : Int} (HQ :
 (k = 0 ∧ Cm 98 #[.int .i64 f,.int .i64 to,.int .u64 a,.bool true] (.int .u64 r)) ∨
 (k = 2 ∧ Cm 98 #[.int .i64 f,.int .i64 to,.int .u64 a,.bool true] (.int .u64 r)) ∨
 (k = 4 ∧ Cm 98 #[.int .i64 f,.int .i64 to,.int .u64 a,.bool true] (.int .u64 r)) ∨
 (k = 6 ∧ Cm 98 #[.int .i64 f,.int .i64 to,.int .u64 a,.bool true] (.int .u64 r)) ∨
 (k = 1 ∧ Cm 98 #[.int .i64 f,.int .i64 to,.int .u64 a,.bool false] (.int .u64 r)) ∨
 (k = 3 ∧ Cm 98 #[.int .i64 f,.int .i64 to,.int .u64 a,.bool false] (.int .u64 r)) ∨
 (k = 5 ∧ Cm 98 #[.int .i64 f,.int .i64 to,.int .u64 a,.bool false] (.int .u64 r)) ∨
 (k = 7 ∧ Cm 98 #[.int .i64 f,.int .i64 to,.int .u64 a,.bool false] (.int .u64 r))) :
 Cm 40 #[.int .i64 k,.int .i64 f,.int .i64 to,.int .u64 a] (.int .u64 r):=by
 refine ab (fun W m => ?_)
 have HM:=ab m
 clear m
 rcases HQ with ⟨rfl,HC⟩ | ⟨rfl,HC⟩ | ⟨rfl,HC⟩ | ⟨rfl,HC⟩ | ⟨rfl,HC⟩ | ⟨rfl,HC⟩ | ⟨rfl,HC⟩ | ⟨rfl,HC⟩
 all_goals
  have HB:=rf W
  go_enter Tryz.func40,Tryz.ntmps40
  go_wp2_with fail
  refine (aa HC _ (aa HM)).mono ?_
  rintro _ w1 ⟨rfl,hb⟩
  have HB:=bt HB hb
  clear hb
  go_wp2_with fail
  go_ret
  exact ⟨rfl,aa HB⟩
end Go.Proofs.YtpbgpdmffejdgaaGreatDoor

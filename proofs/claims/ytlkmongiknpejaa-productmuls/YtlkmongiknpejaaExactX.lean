/- The reference's Exact and Pack: the code's float. -/
import Derived.Test.YtlkmongiknpejaaExact
namespace Go.Proofs.Ytlkmongiknpejaa
open Go.RowKit
open Go.Proofs.Ytlkmongiknpejaa.W

/-- What the document's Exact is of x times 2^k. -/
def exactN (f P Q b : Int) (n : Bool) (x : Nat) (k : Int) : Int :=
  if x = 0 ∨ k < -4000 then put f P Q n 0 0 else if 4000 < k then put f P Q n (Q - 1) 0 else fl f P Q n (lid P Q (code f.toNat (lowN f b) (x * 2 ^ (k + 5000).toNat) : Nat))

theorem exact_any {w e f P Q b k : Int} {n : Bool} (kd : Kd w e f P Q b) (x : Nat) (h140 : x < pw 140) (a : Option Addr) (na ca : Nat) (W : World) (hx : IsNat W (.slice a na ca) x) :
    Calls Try.prog 27 #[.int .i64 w, .bool n, .agg #[.slice a na ca], .int .i64 k] W fun r W' => r = .returned (.int .u64 (exactN f P Q b n x k)) ∧ Below W.heap.size W W' := by
  obtain ⟨p1, p2, q1, q2⟩ := kd.pos
  have HM := hide (fun W => make_any n 0 0 kd W (by omega) (by omega) (by omega) (by omega))
  have hp := hx.pos
  unfold exactN
  by_cases h0 : x = 0
  · rw [if_pos (Or.inl h0)]
    have : ¬ 0 < na := by rw [hp]; exact fun h => h h0
    exact exact_z a na ca W (eq_t (by omega)) HM
  · have hz : ((na : Int) == 0) = false := eq_f (by have : 0 < na := (by rw [hp]; exact h0); omega)
    by_cases h1 : k < -4000
    · rw [if_pos (Or.inr h1)]
      exact exact_l a na ca W hz (dt h1) HM
    · rw [if_neg (fun h => h.elim h0 h1)]
      by_cases h2 : 4000 < k
      · rw [if_pos h2]
        exact exact_h a na ca W hz (df h1) (dt h2) (hide (fun W => refInf_any n kd W))
      · rw [if_neg h2]
        exact exact_n a na ca x W hx hz (df h1) (df h2) (hide (fun b' nb cb W ha hb => near_known kd a b' na ca nb cb x W ha hb h0 (by omega) (by omega) h140))

theorem code_tiny {f L X : Nat} (h : Go.bitLen X < L) : code f L X = 0 := by
  have hu : unitOf f L X = L := by unfold unitOf; omega
  have hX : X < 2 ^ (L - 1) := bl_lt (by omega)
  have hp : 2 ^ L = 2 * 2 ^ (L - 1) := by
    have := pow_split2 L 1 (L - 1) (by omega)
    omega
  unfold code
  rw [hu, Nat.sub_self, Nat.zero_mul, Nat.zero_add]
  unfold near
  rw [Nat.mod_eq_of_lt (by omega), Nat.div_eq_of_lt (by omega), if_neg (by omega)]
theorem code_huge {f L X c : Nat} (h : L + f + 1 + c ≤ Go.bitLen X) : c * 2 ^ f ≤ code f L X := by
  unfold code
  have hu : c ≤ unitOf f L X - L := by unfold unitOf; omega
  exact Nat.le_trans (Nat.mul_le_mul_right _ hu) (Nat.le_add_right _ _)

theorem zero_code {w e f P Q b : Int} (kd : Kd w e f P Q b) (n : Bool) {X : Nat} (h : code f.toNat (lowN f b) X = 0) : fl f P Q n (lid P Q (code f.toNat (lowN f b) X : Nat)) = put f P Q n 0 0 := by
  rw [h]
  unfold lid
  rw [if_neg (by rcases kd with ⟨-, -, -, rfl, rfl, -⟩ | ⟨-, -, -, rfl, rfl, -⟩ <;> omega)]
  exact fl_eq n (by simp) (by simp)
theorem inf_code {w e f P Q b : Int} (kd : Kd w e f P Q b) (n : Bool) {X : Nat} (h : lowN f b + f.toNat + 1 + 2048 ≤ Go.bitLen X) : fl f P Q n (lid P Q (code f.toNat (lowN f b) X : Nat)) = put f P Q n (Q - 1) 0 := by
  have hc := code_huge h
  have hP := kd.pow.1
  have hc' : 2048 * P ≤ ((code f.toNat (lowN f b) X : Nat) : Int) := by rw [hP]; omega
  generalize ((code f.toNat (lowN f b) X : Nat) : Int) = cc at *
  clear hc hP h
  rcases kd with ⟨rfl, rfl, rfl, rfl, rfl, rfl⟩ | ⟨rfl, rfl, rfl, rfl, rfl, rfl⟩
  · unfold lid
    rw [if_pos (by omega)]
    exact fl_eq n (by rfl) (by rfl)
  · unfold lid
    rw [if_pos (by omega)]
    exact fl_eq n (by rfl) (by rfl)

/-- An exponent as the document's Pack takes it. -/
def capR (X : Int) : Int := if X < -10000 then -10001 else if 10000 < X then 9999 else X - 1

theorem exact_pack {w e f P Q b : Int} (kd : Kd w e f P Q b) (n m : Bool) (v : Nat) (X : Int) (hv : W2 v) :
    exactN f P Q b n (2 * v + m.toNat) (capR X) = fl f P Q n (lid P Q (code f.toNat (lowN f b) (num v m (cap X)) : Nat)) := by
  obtain ⟨hP, f0, f1, l0, l1, b0, b1⟩ := kd.pow
  have hb : Go.bitLen v ≤ 128 := bitLen_128 hv
  have hzm : ¬ 2 * v + m.toNat = 0 → ¬ (v = 0 ∧ m = false) := fun h hh => h (by rw [hh.1, hh.2]; rfl)
  unfold exactN
  by_cases h0 : 2 * v + m.toNat = 0
  · rw [if_pos (Or.inl h0)]
    refine (zero_code kd n ?_).symm
    unfold num
    rw [h0, Nat.zero_mul, code_zero]
  · have hl := fun E => num_len v m E (hzm h0)
    by_cases h1 : capR X < -4000
    · rw [if_pos (Or.inr h1)]
      refine (zero_code kd n (code_tiny ?_)).symm
      rw [hl]
      have : cap X ≤ -4000 := by unfold capR at h1; unfold cap; split at h1 <;> (try split at h1) <;> split <;> (try split) <;> omega
      unfold lowN
      omega
    · rw [if_neg (fun h => h.elim h0 h1)]
      by_cases h2 : 4000 < capR X
      · rw [if_pos h2]
        refine (inf_code kd n ?_).symm
        rw [hl]
        have : 4002 ≤ cap X := by unfold capR at h2; unfold cap; split at h2 <;> (try split at h2) <;> split <;> (try split) <;> omega
        unfold lowN
        omega
      · rw [if_neg h2]
        have hX : capR X = X - 1 ∧ -3999 ≤ X ∧ X ≤ 4001 := by unfold capR at h1 h2 ⊢; split at h1 <;> (try split at h1) <;> omega
        have hc : cap X = X := by unfold cap; rw [if_neg (by omega), if_neg (by omega)]
        unfold num
        rw [hc, hX.1, show X - 1 + 5000 = X + 4999 by omega]

theorem pw5_140 {x : Nat} (h : x < pw 5) : x < pw 140 := lt_pw 140 h (by omega)
theorem two_pw {v : Nat} (hv : W2 v) (m : Bool) : 2 * v + m.toNat < pw 140 := by
  refine pw5_140 ?_
  have := pw_succ 4
  rw [pw_4] at this
  rw [this]
  unfold W2 at hv
  have : m.toNat ≤ 1 := by cases m <;> simp
  omega

end Go.Proofs.Ytlkmongiknpejaa

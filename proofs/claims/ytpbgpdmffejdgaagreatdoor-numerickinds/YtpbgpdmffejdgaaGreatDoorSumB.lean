/- What the sum of two floats is that are taken apart, and what package sum's finite answers. -/
import Derived.Test.YtpbgpdmffejdgaaGreatDoorSumA
import Derived.Test.YtpbgpdmffejdgaaGreatDoorNarrow
import Derived.Test.YtpbgpdmffejdgaaGreatDoorWAdd
import Derived.Test.YtpbgpdmffejdgaaGreatDoorPlusB
import Derived.Test.YtpbgpdmffejdgaaGreatDoorTk
namespace Go.Proofs.YtpbgpdmffejdgaaGreatDoor
open Go.RowKit
open Go.Proofs.YtpbgpdmffejdgaaGreatDoor.W

/-- The number of a float's parts, 5000 bits up. -/
def mag (X S : Int) : Nat := S.toNat * 2 ^ (X + 5000).toNat
/-- The float that is nearest to a number. -/
def rd (f P Q b : Int) (n : Bool) (M : Nat) : Int := fl f P Q n (lid P Q (code f.toNat (lowN f b) M : Nat))
/-- The sum of two floats that are taken apart. -/
def addP (f P Q b : Int) (n1 : Bool) (K1 : Int) (M1 : Nat) (n2 : Bool) (K2 : Int) (M2 : Nat) : Int :=
  if K1 = 3 ∨ K2 = 3 ∨ (K1 = 2 ∧ K2 = 2 ∧ n1 ≠ n2) then put f P Q false (Q - 1) (P / 2)
  else if K1 = 2 then put f P Q n1 (Q - 1) 0
  else if K2 = 2 then put f P Q n2 (Q - 1) 0
  else if n1 = n2 then rd f P Q b n1 (M1 + M2)
  else if M1 = M2 then put f P Q false 0 0
  else if M1 < M2 then rd f P Q b n2 (M2 - M1)
  else rd f P Q b n1 (M1 - M2)
/-- What parts of a float there are. -/
def Prt (f P Q b K X S : Int) : Prop :=
  (K = 3 ∧ X = 0 ∧ S = 0) ∨ (K = 2 ∧ X = 0 ∧ S = 0) ∨ (K = 0 ∧ X = 0 ∧ S = 0) ∨
  (K = 1 ∧ 1 - b - f ≤ X ∧ X ≤ Q - 2 - b - f ∧ 0 < S ∧ S < 2 * P ∧ (1 - b - f < X → P ≤ S))

theorem opened_prt {w e f P Q b x y X S K : Int} {n N : Bool} (k : Kd w e f P Q b) (ho : Opened f P Q b n x y N K X S) (x0 : 0 ≤ x) (x1 : x < Q) (y0 : 0 ≤ y) (y1 : y < P) : Prt f P Q b K X S := by
  have hf := k.f0
  unfold Prt
  rcases ho with ⟨h, _⟩ | ⟨_, _, _, _, rfl, rfl, rfl⟩ | ⟨_, _, _, _, rfl, rfl, rfl⟩ | ⟨_, h1, h2, _, rfl, rfl, rfl⟩ | ⟨_, h1, h2, h3, _, rfl, rfl, rfl⟩ | ⟨_, h1, h2, h3, _, rfl, rfl, rfl⟩
  · exact absurd h hf
  · exact Or.inl ⟨rfl, rfl, rfl⟩
  · exact Or.inr (Or.inl ⟨rfl, rfl, rfl⟩)
  · refine Or.inr (Or.inr (Or.inr ⟨rfl, by omega, by omega, by omega, by omega, fun _ => by omega⟩))
  · have : 2 ≤ Q ∧ 1 ≤ P := by rcases k with k | k <;> omega
    refine Or.inr (Or.inr (Or.inr ⟨rfl, by omega, ?_, by omega, by omega, fun h => by omega⟩))
    rcases k with k | k <;> omega
  · exact Or.inr (Or.inr (Or.inl ⟨rfl, rfl, rfl⟩))

theorem Prt.in {w e f P Q b K X S : Int} (k : Kd w e f P Q b) (h : Prt f P Q b K X S) : -1200 ≤ X ∧ X ≤ 1100 ∧ 0 ≤ S ∧ S < 2 * P ∧ S < 9007199254740992 := by
  unfold Prt at h
  rcases k with ⟨-, -, rfl, rfl, rfl, rfl⟩ | ⟨-, -, rfl, rfl, rfl, rfl⟩ <;> omega
theorem Prt.mag0 {f P Q b K X S : Int} (h : Prt f P Q b K X S) (hK : K ≠ 1) : mag X S = 0 := by
  have : S = 0 := by
    unfold Prt at h
    omega
  subst this
  exact Nat.zero_mul _
theorem Prt.mag1 {f P Q b X S : Int} (h : Prt f P Q b 1 X S) : 0 < mag X S := by
  have : 0 < S := by
    unfold Prt at h
    omega
  exact Nat.mul_pos (by omega) (Nat.two_pow_pos _)
theorem num_mag {X : Int} (S : Int) (h0 : -1200 ≤ X) (h1 : X ≤ 1100) : num S.toNat false (cap X) = mag X S := by
  rw [cap_id (by omega) (by omega), num_plain _ _ (by omega)]
  rfl
theorem narrow_rd {w e f P Q b K X S : Int} (k : Kd w e f P Q b) (n : Bool) (h : Prt f P Q b K X S) :
    narrowN f P Q b n K X S = if K = 0 then put f P Q n 0 0 else if K = 1 then rd f P Q b n (mag X S) else if K = 2 then put f P Q n (Q - 1) 0 else put f P Q false (Q - 1) (P / 2) := by
  obtain ⟨a, c, _⟩ := h.in k
  unfold narrowN rd
  rw [num_mag S a c]
  have hK : K = 0 ∨ K = 1 ∨ K = 2 ∨ K = 3 := by unfold Prt at h; omega
  rcases hK with rfl | rfl | rfl | rfl <;> simp

theorem rd_zero {w e f P Q b : Int} (k : Kd w e f P Q b) (n : Bool) : rd f P Q b n 0 = put f P Q n 0 0 := by
  unfold rd
  have := k.pos
  have hq : ¬ (Q - 1) * P ≤ 0 := by
    have := Int.mul_pos (show 0 < Q - 1 by omega) (show 0 < P by omega)
    omega
  rw [code_zero]
  unfold lid fl
  rw [if_neg (show ¬ (Q - 1) * P ≤ ((0 : Nat) : Int) from hq)]
  simp

theorem pow_int {f P : Int} (h : P = ((2 ^ f.toNat : Nat) : Int)) {S : Int} (s0 : 0 ≤ S) (s1 : S < 2 * P) : S.toNat < 2 ^ (f.toNat + 1) := by
  rw [Nat.pow_succ]
  omega

/-- The lesser of two whose exponents lie far apart changes nothing. -/
theorem add_far {w e f P Q b X1 S1 X2 S2 : Int} (k : Kd w e f P Q b) (n1 n2 : Bool) (h1 : Prt f P Q b 1 X1 S1) (h2 : Prt f P Q b 1 X2 S2) (hd : 64 < X1 - X2) :
    addP f P Q b n1 1 (mag X1 S1) n2 1 (mag X2 S2) = rd f P Q b n1 (mag X1 S1) := by
  obtain ⟨hP, f0, f1, l0, l1, b0, b1⟩ := k.pow
  have g1 : 1 - b - f ≤ X1 ∧ X1 ≤ Q - 2 - b - f ∧ 0 < S1 ∧ S1 < 2 * P ∧ (1 - b - f < X1 → P ≤ S1) := by unfold Prt at h1; omega
  have g2 : 1 - b - f ≤ X2 ∧ X2 ≤ Q - 2 - b - f ∧ 0 < S2 ∧ S2 < 2 * P ∧ (1 - b - f < X2 → P ≤ S2) := by unfold Prt at h2; omega
  obtain ⟨a1, a2, a3, a4, a5⟩ := g1
  obtain ⟨c1, c2, c3, c4, c5⟩ := g2
  have hS1 := pow_int hP (by omega) a4
  have hS2 := pow_int hP (by omega) c4
  have hs1 : 2 ^ f.toNat ≤ S1.toNat := by have := a5 (by omega); omega
  have hr : 4 * mag X2 S2 < 2 ^ (X1 + 5000).toNat := by
    unfold mag
    have h3 : S2.toNat * 2 ^ (X2 + 5000).toNat < 2 ^ (f.toNat + 1) * 2 ^ (X2 + 5000).toNat := Nat.mul_lt_mul_of_pos_right hS2 (Nat.two_pow_pos _)
    rw [← Nat.pow_add] at h3
    have h4 : 2 ^ 2 * 2 ^ (f.toNat + 1 + (X2 + 5000).toNat) ≤ 2 ^ (X1 + 5000).toNat := by
      rw [← Nat.pow_add]
      exact Nat.pow_le_pow_right (by omega) (by omega)
    omega
  have hL : lowN f b < (X1 + 5000).toNat := by unfold lowN; omega
  have hlt : mag X2 S2 < mag X1 S1 := by
    have : 1 * 2 ^ (X1 + 5000).toNat ≤ S1.toNat * 2 ^ (X1 + 5000).toNat := Nat.mul_le_mul_right _ (by omega)
    have e : mag X1 S1 = S1.toNat * 2 ^ (X1 + 5000).toNat := rfl
    omega
  unfold addP
  rw [if_neg (by omega), if_neg (by omega), if_neg (by omega)]
  unfold rd
  by_cases hn : n1 = n2
  · rw [if_pos hn]
    have := code_far_up f.toNat (lowN f b) S1.toNat (X1 + 5000).toNat (mag X2 S2) hS1 hs1 hL hr
    rw [show mag X1 S1 = S1.toNat * 2 ^ (X1 + 5000).toNat from rfl, this]
  · rw [if_neg hn, if_neg (by omega), if_neg (by omega)]
    have := code_far_dn f.toNat (lowN f b) S1.toNat (X1 + 5000).toNat (mag X2 S2) hS1 hs1 hL hr
    rw [show mag X1 S1 = S1.toNat * 2 ^ (X1 + 5000).toNat from rfl, this]

theorem add_comm {f P Q b : Int} (n1 n2 : Bool) (K1 K2 : Int) (M1 M2 : Nat) : addP f P Q b n1 K1 M1 n2 K2 M2 = addP f P Q b n2 K2 M2 n1 K1 M1 := by
  unfold addP
  by_cases h3 : K1 = 3 ∨ K2 = 3 ∨ (K1 = 2 ∧ K2 = 2 ∧ n1 ≠ n2)
  · rw [if_pos h3, if_pos (by
      rcases h3 with h | h | ⟨h1, h2, h⟩
      · exact Or.inr (Or.inl h)
      · exact Or.inl h
      · exact Or.inr (Or.inr ⟨h2, h1, fun he => h he.symm⟩))]
  · have h3' : ¬ (K2 = 3 ∨ K1 = 3 ∨ (K2 = 2 ∧ K1 = 2 ∧ n2 ≠ n1)) := fun h => h3 (by
      rcases h with h | h | ⟨h1, h2, h⟩
      · exact Or.inr (Or.inl h)
      · exact Or.inl h
      · exact Or.inr (Or.inr ⟨h2, h1, fun he => h he.symm⟩))
    rw [if_neg h3, if_neg h3']
    by_cases ka : K1 = 2
    · rw [if_pos ka]
      by_cases kb : K2 = 2
      · rw [if_pos kb]
        have : n1 = n2 := Decidable.byContradiction fun hn => h3 (Or.inr (Or.inr ⟨ka, kb, hn⟩))
        rw [this]
      · rw [if_neg kb, if_pos ka]
    · rw [if_neg ka]
      by_cases kb : K2 = 2
      · rw [if_pos kb, if_pos kb]
      · rw [if_neg kb, if_neg kb, if_neg ka]
        by_cases hn : n1 = n2
        · subst hn
          rw [if_pos rfl, if_pos rfl, Nat.add_comm]
        · rw [if_neg hn, if_neg (fun h : n2 = n1 => hn h.symm)]
          by_cases hM : M1 = M2
          · rw [if_pos hM, if_pos hM.symm]
          · rw [if_neg hM, if_neg (fun h : M2 = M1 => hM h.symm)]
            by_cases hl : M1 < M2
            · rw [if_pos hl, if_neg (by omega)]
            · rw [if_neg hl, if_pos (by omega)]

/-- The greater one, moved up, is no more than 128 bits long; both at the lesser one's exponent. -/
theorem al_mag {X1 S1 X2 : Int} (h0 : -1200 ≤ X2) (h : X2 ≤ X1) : S1.toNat * 2 ^ (X1 - X2).toNat * 2 ^ (X2 + 5000).toNat = mag X1 S1 := by
  unfold mag
  rw [Nat.mul_assoc, ← Nat.pow_add, show (X1 - X2).toNat + (X2 + 5000).toNat = (X1 + 5000).toNat by omega]
theorem al_small {S1 : Int} {d : Int} (s0 : 0 ≤ S1) (s1 : S1 < 9007199254740992) (d1 : d ≤ 64) : S1.toNat * 2 ^ d.toNat < 166153499473114484112975882535043072 := by
  have h1 : 2 ^ d.toNat ≤ 2 ^ 64 := Nat.pow_le_pow_right (by omega) (by omega)
  have h2 : S1.toNat * 2 ^ d.toNat ≤ S1.toNat * 2 ^ 64 := Nat.mul_le_mul_left _ h1
  omega
theorem shl_al {S1 : Int} {d : Int} (s0 : 0 ≤ S1) (s1 : S1 < 9007199254740992) (d1 : d ≤ 64) : shlN S1.toNat d = S1.toNat * 2 ^ d.toNat := by
  have := al_small s0 s1 d1
  unfold shlN
  exact Nat.mod_eq_of_lt (by omega)
theorem pack_at {w e f P Q b E : Int} (k : Kd w e f P Q b) (n : Bool) (v : Nat) (hv : W2 v) (h0 : -1200 ≤ E) (h1 : E ≤ 1100) (W : World) :
    Calls Tryz.prog 160 #[.int .i64 w, .bool n, .agg #[.int .u64 (hi v), .int .u64 (lo v)], .int .i64 E, .bool false] W fun r W' => r = .returned (.int .u64 (rd f P Q b n (v * 2 ^ (E + 5000).toNat))) ∧ Below W.heap.size W W' := by
  have := pack_known v n false E k hv W
  rw [cap_id (by omega) (by omega), num_plain _ _ (by omega)] at this
  exact this

/-- Both at one exponent: their sum, rounded. -/
theorem aligned_any {w e f P Q b E : Int} (k : Kd w e f P Q b) (n1 n2 : Bool) (v u : Nat) (hv : v < 166153499473114484112975882535043072) (hu : u < 166153499473114484112975882535043072) (h0 : -1200 ≤ E) (h1 : E ≤ 1100) (W : World) :
    Calls Tryz.prog 269 #[.int .i64 w, .bool n1, .agg #[.int .u64 (hi v), .int .u64 (lo v)], .bool n2, .agg #[.int .u64 (hi u), .int .u64 (lo u)], .int .i64 E] W fun r W' => r = .returned (.int .u64 (addP f P Q b n1 1 (v * 2 ^ (E + 5000).toNat) n2 1 (u * 2 ^ (E + 5000).toNat))) ∧ Below W.heap.size W W' := by
  have hp := Nat.two_pow_pos (E + 5000).toNat
  unfold addP
  rw [if_neg (by omega), if_neg (by omega), if_neg (by omega)]
  by_cases hn : n1 = n2
  · rw [if_pos hn, ← Nat.add_mul]
    have ha := fun W => add_n v u W
    rw [show addN v u = v + u from Nat.mod_eq_of_lt (by omega)] at ha
    exact aligned_same W (by simp [hn]) (hide ha) (hide (fun W => pack_at k n1 (v + u) (by unfold W2; omega) h0 h1 W))
  · rw [if_neg hn]
    have hn' : (n1 == n2) = false := by simp [hn]
    have hc := fun W => cmp_n v u W
    by_cases he : v = u
    · subst he
      rw [if_pos rfl]
      rw [show cmpN v v = 0 by unfold cmpN; rw [if_neg (by omega), if_neg (by omega)]] at hc
      exact aligned_eq W hn' (hide hc) (hide (fun W => zero_any false k.wd W))
    · rw [if_neg (fun h => he (Nat.eq_of_mul_eq_mul_right hp h))]
      by_cases hl : v < u
      · rw [if_pos (Nat.mul_lt_mul_of_pos_right hl hp), ← Nat.sub_mul]
        rw [show cmpN v u = -1 by unfold cmpN; rw [if_pos hl]] at hc
        have ha := fun W => sub_n u v W (by unfold W2; omega)
        rw [show subN u v = u - v by unfold subN; omega] at ha
        exact aligned_lt W hn' (hide hc) (hide ha) (hide (fun W => pack_at k n2 (u - v) (by unfold W2; omega) h0 h1 W))
      · rw [if_neg (fun h => hl (Nat.lt_of_mul_lt_mul_right h)), ← Nat.sub_mul]
        rw [show cmpN v u = 1 by unfold cmpN; rw [if_neg hl, if_pos (by omega)]] at hc
        have ha := fun W => sub_n v u W (by unfold W2; omega)
        rw [show subN v u = v - u by unfold subN; omega] at ha
        exact aligned_gt W hn' (hide hc) (hide ha) (hide (fun W => pack_at k n1 (v - u) (by unfold W2; omega) h0 h1 W))

theorem narrow_1 {w e f P Q b X S : Int} (k : Kd w e f P Q b) (n : Bool) (h : Prt f P Q b 1 X S) (W : World) :
    Calls Tryz.prog 170 #[.int .i64 w, .agg #[.bool n, .int .i64 1, .int .i64 X, .int .u64 S]] W fun r W' => r = .returned (.int .u64 (rd f P Q b n (mag X S))) ∧ Below W.heap.size W W' := by
  obtain ⟨_, _, s0, _, s1⟩ := h.in k
  have := narrow_any k n 1 X S s0 (by omega) W
  rw [narrow_rd k n h] at this
  exact this
theorem left_d {S1 d : Int} (s0 : 0 ≤ S1) (s1 : S1 < 9007199254740992) (d1 : d ≤ 64) (W : World) :
    Calls Tryz.prog 234 #[.agg #[.int .u64 (hi S1.toNat), .int .u64 (lo S1.toNat)], .int .i64 d] W fun r W' => r = .returned (.agg #[.int .u64 (hi (S1.toNat * 2 ^ d.toNat)), .int .u64 (lo (S1.toNat * 2 ^ d.toNat))]) ∧ Below W.heap.size W W' := by
  have := left_n S1.toNat d W (by unfold W2; omega)
  rw [shl_al s0 s1 d1] at this
  exact this
theorem finite_any {w e f P Q b X1 S1 X2 S2 : Int} (k : Kd w e f P Q b) (n1 n2 : Bool) (h1 : Prt f P Q b 1 X1 S1) (h2 : Prt f P Q b 1 X2 S2) (W : World) :
    Calls Tryz.prog 239 #[.int .i64 w, .agg #[.bool n1, .int .i64 1, .int .i64 X1, .int .u64 S1], .agg #[.bool n2, .int .i64 1, .int .i64 X2, .int .u64 S2]] W fun r W' => r = .returned (.int .u64 (addP f P Q b n1 1 (mag X1 S1) n2 1 (mag X2 S2))) ∧ Below W.heap.size W W' := by
  obtain ⟨x0, x1, s0, -, s1⟩ := h1.in k
  obtain ⟨y0, y1, t0, -, t1⟩ := h2.in k
  by_cases hx : X1 < X2
  · rw [add_comm]
    by_cases hd : 64 < X2 - X1
    · rw [add_far k n2 n1 h2 h1 hd]
      exact finite_far_s W hx (i64_id (by omega) (by omega)) hd (hide (fun W => narrow_1 k n2 h2 W))
    · rw [← al_mag (X1 := X2) (S1 := S2) (X2 := X1) x0 (by omega)]
      exact finite_al_s W hx (i64_id (by omega) (by omega)) hd (hide (fun W => of_n S2 W t0 (by omega))) (hide (fun W => left_d t0 t1 (by omega) W)) (hide (fun W => of_n S1 W s0 (by omega)))
        (hide (fun W => aligned_any k n2 n1 _ _ (al_small t0 t1 (by omega)) (by omega) x0 x1 W))
  · by_cases hd : 64 < X1 - X2
    · rw [add_far k n1 n2 h1 h2 hd]
      exact finite_far W hx (i64_id (by omega) (by omega)) hd (hide (fun W => narrow_1 k n1 h1 W))
    · rw [← al_mag (X1 := X1) (S1 := S1) (X2 := X2) y0 (by omega)]
      exact finite_al W hx (i64_id (by omega) (by omega)) hd (hide (fun W => of_n S1 W s0 (by omega))) (hide (fun W => left_d s0 s1 (by omega) W)) (hide (fun W => of_n S2 W t0 (by omega)))
        (hide (fun W => aligned_any k n1 n2 _ _ (al_small s0 s1 (by omega)) (by omega) y0 y1 W))

theorem plus_any {w e f P Q b K1 X1 S1 K2 X2 S2 : Int} (k : Kd w e f P Q b) (n1 n2 : Bool) (h1 : Prt f P Q b K1 X1 S1) (h2 : Prt f P Q b K2 X2 S2) (W : World) :
    Calls Tryz.prog 162 #[.int .i64 w, .agg #[.bool n1, .int .i64 K1, .int .i64 X1, .int .u64 S1], .agg #[.bool n2, .int .i64 K2, .int .i64 X2, .int .u64 S2]] W fun r W' => r = .returned (.int .u64 (addP f P Q b n1 K1 (mag X1 S1) n2 K2 (mag X2 S2))) ∧ Below W.heap.size W W' := by
  obtain ⟨-, -, s0, -, s1⟩ := h1.in k
  obtain ⟨-, -, t0, -, t1⟩ := h2.in k
  have hK1 : K1 = 0 ∨ K1 = 1 ∨ K1 = 2 ∨ K1 = 3 := by unfold Prt at h1; omega
  have hK2 : K2 = 0 ∨ K2 = 1 ∨ K2 = 2 ∨ K2 = 3 := by unfold Prt at h2; omega
  by_cases hk : K1 = K2
  · subst hk
    have hk' := ne_f (rfl : K1 = K1)
    rcases hK1 with rfl | rfl | rfl | rfl
    · rw [h1.mag0 (by omega), h2.mag0 (by omega)]
      have e : addP f P Q b n1 0 0 n2 0 0 = put f P Q (n1 && n2) 0 0 := by
        unfold addP
        rw [if_neg (by omega), if_neg (by omega), if_neg (by omega)]
        by_cases hn : n1 = n2
        · subst hn
          rw [if_pos rfl, Nat.add_zero, rd_zero k]
          simp
        · rw [if_neg hn, if_pos rfl]
          cases n1 <;> cases n2 <;> simp_all
      rw [e]
      cases n1
      · exact plus_zf W hk' (by simp) (hide (fun W => zero_any false k.wd W))
      · exact plus_zt W hk' (by simp) (hide (fun W => zero_any n2 k.wd W))
    · exact plus_fi W hk' (by simp) (by simp) (by simp) (hide (fun W => finite_any k n1 n2 h1 h2 W))
    · unfold addP
      by_cases hn : n1 = n2
      · rw [if_neg (by
          rintro (h | h | ⟨_, _, h⟩)
          · omega
          · omega
          · exact h hn), if_pos rfl]
        exact plus_is W hk' (by simp) (by simp) (by simp [hn]) (hide (fun W => inf_any n1 k.wd W))
      · rw [if_pos (Or.inr (Or.inr ⟨rfl, rfl, hn⟩))]
        exact plus_id W hk' (by simp) (by simp) (by simp [hn]) (hide (fun W => nan_any k.wd W))
    · unfold addP
      rw [if_pos (Or.inl rfl)]
      exact plus_na W hk' (by simp) (by simp) (by simp) (hide (fun W => nan_any k.wd W))
  · have hk' := ne_t hk
    by_cases hl : K1 < K2
    · have e : addP f P Q b n1 K1 (mag X1 S1) n2 K2 (mag X2 S2) = narrowN f P Q b n2 K2 X2 S2 := by
        rw [narrow_rd k n2 h2, if_neg (by omega)]
        unfold addP
        by_cases h3 : K2 = 3
        · rw [if_pos (Or.inr (Or.inl h3)), if_neg (by omega), if_neg (by omega)]
        · rw [if_neg (by omega), if_neg (by omega)]
          by_cases hi : K2 = 2
          · rw [if_pos hi, if_neg (by omega), if_pos hi]
          · have hK : K2 = 1 := by omega
            subst hK
            have hp := h2.mag1
            rw [if_neg hi, h1.mag0 (by omega), if_pos (rfl : (1 : Int) = 1)]
            by_cases hn : n1 = n2
            · rw [if_pos hn, hn, Nat.zero_add]
            · rw [if_neg hn, if_neg (show ¬ 0 = mag X2 S2 by omega), if_pos hp, Nat.sub_zero]
      rw [e]
      exact plus_lt W hk' hl (hide (fun W => narrow_any k n2 K2 X2 S2 t0 (by omega) W))
    · have e : addP f P Q b n1 K1 (mag X1 S1) n2 K2 (mag X2 S2) = narrowN f P Q b n1 K1 X1 S1 := by
        rw [add_comm, narrow_rd k n1 h1, if_neg (by omega)]
        unfold addP
        by_cases h3 : K1 = 3
        · rw [if_pos (Or.inr (Or.inl h3)), if_neg (by omega), if_neg (by omega)]
        · rw [if_neg (by omega), if_neg (by omega)]
          by_cases hi : K1 = 2
          · rw [if_pos hi, if_neg (by omega), if_pos hi]
          · have hK : K1 = 1 := by omega
            subst hK
            have hp := h1.mag1
            rw [if_neg hi, h2.mag0 (by omega), if_pos (rfl : (1 : Int) = 1)]
            by_cases hn : n2 = n1
            · rw [if_pos hn, hn, Nat.zero_add]
            · rw [if_neg hn, if_neg (show ¬ 0 = mag X1 S1 by omega), if_pos hp, Nat.sub_zero]
      rw [e]
      exact plus_ge W hk' hl (hide (fun W => narrow_any k n1 K1 X1 S1 s0 (by omega) W))

end Go.Proofs.YtpbgpdmffejdgaaGreatDoor

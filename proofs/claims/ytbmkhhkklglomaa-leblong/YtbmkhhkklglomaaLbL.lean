/- Forms with bytes more than they need: plain arithmetic. -/
import Derived.Test.YtbmkhhkklglomaaLbP
namespace Go.Proofs.Ytbmkhhkklglomaa

theorem okU_zero (b : Nat) : okU 0 b = true := by unfold okU; exact decide_eq_true (Int.pow_pos (by omega))
theorem rd_pad {y : Int} (y0 : 0 ≤ y) (y1 : y < 128) : ∀ (f : List Int) (b : Nat) (n : Int), (∀ x ∈ f, ¬ x < 128) → 7 * (f.length + 1) < b → rd VU okU (f ++ [y]) b = (n, f.length + 1, 0) → rd VU okU (f ++ [y + 128, 0]) b = (n, f.length + 2, 0) := by
  intro f
  induction f with
  | nil =>
    intro b n _ hb h
    simp only [List.nil_append, List.length_nil] at h hb ⊢
    have hn : n = y := by
      cases hk : okU y b
      · rw [rd_wrong y1 hk] at h
        have := congrArg (fun t => t.2.2) h
        simp at this
      · rw [rd_last y1 hk] at h
        have := congrArg (fun t => t.1) h
        exact this.symm
    rw [rd_more (by omega) (by omega), rd_last (by omega) (okU_zero _)]
    unfold up VU
    rw [if_pos rfl, hn]
    refine Prod.ext ?_ (Prod.ext rfl rfl)
    show y + 128 - 128 + 128 * 0 = y
    omega
  | cons x f ih =>
    intro b n hf hb h
    simp only [List.cons_append, List.length_cons] at h hb ⊢
    have hx := hf x List.mem_cons_self
    rw [rd_more hx (by omega)] at h ⊢
    have ht : (rd VU okU (f ++ [y]) (b - 7)).2.2 = 0 := by
      refine Decidable.byContradiction fun hn => ?_
      unfold up at h
      rw [if_neg hn] at h
      exact hn (congrArg (fun t => t.2.2) h)
    have h' := h
    unfold up at h'
    rw [if_pos ht] at h'
    have h1 : x - 128 + 128 * (rd VU okU (f ++ [y]) (b - 7)).1 = n := congrArg (fun t => t.1) h'
    have h2 : (rd VU okU (f ++ [y]) (b - 7)).2.1 + 1 = f.length + 1 + 1 := congrArg (fun t => t.2.1) h'
    have h3 : rd VU okU (f ++ [y]) (b - 7) = ((rd VU okU (f ++ [y]) (b - 7)).1, f.length + 1, 0) := Prod.ext rfl (Prod.ext (by show _ = f.length + 1; omega) ht)
    rw [ih (b - 7) _ (fun z hz => hf z (List.mem_cons_of_mem _ hz)) (by omega) h3]
    unfold up
    rw [if_pos rfl]
    refine Prod.ext ?_ (Prod.ext rfl rfl)
    exact h1
theorem rd_too {r : List Int} : ∀ (f : List Int) (b : Nat), (∀ x ∈ f, ¬ x < 128) → 1 ≤ b → b ≤ 7 * f.length → rd VU okU (f ++ r) b = (0, 0, 101) := by
  intro f
  induction f with
  | nil => intro b _ h1 h2; simp at h2; omega
  | cons x f ih =>
    intro b hf h1 h2
    have hx := hf x List.mem_cons_self
    simp only [List.length_cons] at h2
    by_cases hb : b ≤ 7
    · exact rd_long hx hb
    · rw [List.cons_append, rd_more hx hb, ih (b - 7) (fun z hz => hf z (List.mem_cons_of_mem _ hz)) (by omega) (by omega)]
      rfl
/-- A form of n of L bytes. -/
def Lg (n b L : Nat) (f : List Int) (y : Int) : Prop := f.length + 1 = L ∧ (∀ x ∈ f, 128 ≤ x ∧ x < 256) ∧ 0 ≤ y ∧ y < 128 ∧ (7 * (L - 1) < b → rd VU okU (f ++ [y]) b = ((n : Int), L, 0))
theorem lg_ex (n b : Nat) (h : n < 2 ^ b) : ∃ f y, putU n = f ++ [y] ∧ Lg n b (putU n).length f y := by
  have hl := List.dropLast_concat_getLast (putU_ne n)
  have hB := putU_byt n n (Nat.le_refl _)
  have hF := putU_follow n n (Nat.le_refl _)
  have hlast : ∀ (k n : Nat), n ≤ k → (putU n).getLast (putU_ne n) < 128 := by
    intro k
    induction k with
    | zero => intro n hn; simp only [putU_last (show n < 128 by omega)]; simp; omega
    | succ k ih =>
      intro n hn
      by_cases h1 : n < 128
      · simp only [putU_last h1]; simp; omega
      · simp only [putU_more h1]
        rw [List.getLast_cons (putU_ne _)]
        exact ih (n / 128) (by omega)
  refine ⟨(putU n).dropLast, (putU n).getLast (putU_ne n), hl.symm, ?_, fun x hx => ?_, ?_, hlast n n (Nat.le_refl _), fun _ => ?_⟩
  · have := List.length_pos_iff.2 (putU_ne n)
    rw [List.length_dropLast]; omega
  · have h1 := hB x (List.dropLast_subset _ hx)
    have h2 := hF x hx
    omega
  · exact (hB _ (List.getLast_mem _)).1
  · rw [hl]
    have := rd_putU [] n n b (Nat.le_refl _)
    rw [List.append_nil, if_pos h] at this
    exact this
theorem Lg.step {n b L : Nat} {f : List Int} {y : Int} (h : Lg n b L f y) : Lg n b (L + 1) (f ++ [y + 128]) 0 := by
  obtain ⟨h1, h2, h3, h4, h5⟩ := h
  refine ⟨by simp; omega, fun x hx => ?_, by omega, by omega, fun hb => ?_⟩
  · rcases List.mem_append.1 hx with hx | hx
    · exact h2 x hx
    · simp at hx; omega
  · rw [List.append_assoc]
    have := rd_pad h3 h4 f b n (fun x hx => by have := h2 x hx; omega) (by omega) (by rw [h5 (by omega), h1])
    rw [show L + 1 = f.length + 2 by omega]
    exact this
theorem Lg.byt {n b L : Nat} {f : List Int} {y : Int} (h : Lg n b L f y) : Byt (f ++ [y]) := by
  obtain ⟨h1, h2, h3, h4, h5⟩ := h
  intro x hx
  rcases List.mem_append.1 hx with hx | hx
  · have := h2 x hx; omega
  · simp at hx; omega
theorem Lg.too {n b L : Nat} {f : List Int} {y : Int} (h : Lg n b L f y) (h1 : 1 ≤ b) (h2 : b ≤ 7 * (L - 1)) : rd VU okU (f ++ [y]) b = (0, 0, 101) :=
  rd_too f b (fun x hx => by have := h.2.1 x hx; omega) h1 (by have := h.1; omega)
end Go.Proofs.Ytbmkhhkklglomaa

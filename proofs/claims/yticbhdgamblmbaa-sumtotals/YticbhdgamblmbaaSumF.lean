/- A sum never falls as an operand rises; a close difference is exact. -/
import Derived.Test.YticbhdgamblmbaaSumE
namespace Go.Proofs.Yticbhdgamblmbaa
open Go.RowKit
open Go.Proofs.Yticbhdgamblmbaa.W

theorem rz_pos (f P Q b : Int) (M : Nat) : rz f P Q b (M : Int) = lid P Q (code f.toNat (lowN f b) M : Nat) := by
  unfold rz
  rw [if_neg (by omega), Int.toNat_natCast]
theorem rz_neg {w e f P Q b : Int} (k : Kd w e f P Q b) (M : Nat) : rz f P Q b (-(M : Int)) = -(lid P Q (code f.toNat (lowN f b) M : Nat)) := by
  have ht := top_pos k
  unfold rz
  by_cases h : M = 0
  · subst h
    rw [if_neg (by omega), show (-((0 : Nat) : Int)).toNat = 0 from rfl, code_zero]
    unfold lid
    rw [if_neg (show ¬ (Q - 1) * P ≤ ((0 : Nat) : Int) by unfold top at ht; omega)]
    rfl
  · rw [if_pos (by omega), show (-(-(M : Int))).toNat = M by omega]
theorem rz_mono {w e f P Q b : Int} (k : Kd w e f P Q b) {z z' : Int} (h : z ≤ z') : rz f P Q b z ≤ rz f P Q b z' := by
  by_cases h0 : z < 0
  · obtain ⟨m, rfl⟩ : ∃ m : Nat, z = -(m : Int) := ⟨(-z).toNat, by omega⟩
    rw [rz_neg k]
    have a := (lid_top k (code f.toNat (lowN f b) m)).1
    by_cases h1 : z' < 0
    · obtain ⟨m', rfl⟩ : ∃ m' : Nat, z' = -(m' : Int) := ⟨(-z').toNat, by omega⟩
      rw [rz_neg k]
      have := lid_mono P Q (Int.ofNat_le.2 (code_mono f.toNat (lowN f b) (show m' ≤ m by omega)))
      omega
    · obtain ⟨m', rfl⟩ : ∃ m' : Nat, z' = (m' : Int) := ⟨z'.toNat, by omega⟩
      rw [rz_pos]
      have c := (lid_top k (code f.toNat (lowN f b) m')).1
      omega
  · obtain ⟨m, rfl⟩ : ∃ m : Nat, z = (m : Int) := ⟨z.toNat, by omega⟩
    obtain ⟨m', rfl⟩ : ∃ m' : Nat, z' = (m' : Int) := ⟨z'.toNat, by omega⟩
    rw [rz_pos, rz_pos]
    exact lid_mono P Q (Int.ofNat_le.2 (code_mono f.toNat (lowN f b) (show m ≤ m' by omega)))
theorem rd_sc {w e f P Q b : Int} (k : Kd w e f P Q b) (n : Bool) (M : Nat) : oK P Q (rd f P Q b n M) ≠ 3 ∧ sc P Q (rd f P Q b n M) = rz f P Q b (if n then -(M : Int) else (M : Int)) := by
  obtain ⟨c0, c1⟩ := lid_top k (code f.toNat (lowN f b) M)
  obtain ⟨a1, -, -, a4⟩ := fl_kind k n c0 c1
  refine ⟨a1, ?_⟩
  unfold rd
  rw [a4]
  cases n
  · exact (rz_pos f P Q b M).symm
  · exact (rz_neg k M).symm
theorem sc_in {w e f P Q b : Int} (k : Kd w e f P Q b) {x : Int} (h : oK P Q x ≠ 3) : -top P Q ≤ sc P Q x ∧ sc P Q x ≤ top P Q ∧ (oK P Q x = 2 → sc P Q x = (if oN P Q x then -top P Q else top P Q)) ∧ (oK P Q x ≠ 2 → -top P Q < sc P Q x ∧ sc P Q x < top P Q) := by
  have ht := top_pos k
  unfold sc
  rcases kind_oc k x with ⟨h1, _⟩ | ⟨h1, h2, _⟩ | ⟨h1, h2, h3, _⟩ | ⟨h1, h2, _⟩
  · exact absurd h1 h
  · rw [h2]
    cases oN P Q x <;> simp <;> omega
  · cases oN P Q x <;> simp <;> omega
  · rw [h2]
    cases oN P Q x <;> simp <;> omega
theorem sv_mono {w e f P Q b : Int} (k : Kd w e f P Q b) {x y : Int} (hx : oK P Q x ≠ 3 ∧ oK P Q x ≠ 2) (hy : oK P Q y ≠ 3 ∧ oK P Q y ≠ 2) (h : sc P Q x ≤ sc P Q y) : sv f P Q b x ≤ sv f P Q b y := by
  obtain ⟨mx, -⟩ := oM_fin k hx
  obtain ⟨my, -⟩ := oM_fin k hy
  have e1 := fval_le (f := f.toNat) (L := lowN f b) (c := oc P Q x) (d := oc P Q y)
  have e2 := fval_le (f := f.toNat) (L := lowN f b) (c := oc P Q y) (d := oc P Q x)
  have z1 : oc P Q x = 0 → fval f.toNat (lowN f b) (oc P Q x) = 0 := fun h => by rw [h, fval_zero]
  have z2 : oc P Q y = 0 → fval f.toNat (lowN f b) (oc P Q y) = 0 := fun h => by rw [h, fval_zero]
  unfold sv
  unfold sc at h
  rw [mx, my]
  generalize fval f.toNat (lowN f b) (oc P Q x) = u at *
  generalize fval f.toNat (lowN f b) (oc P Q y) = v at *
  revert h
  cases oN P Q x <;> cases oN P Q y <;> simp <;> omega

/-- What the code of a sum is. -/
theorem add_sc {w e f P Q b : Int} (k : Kd w e f P Q b) {x y : Int} (hx : oK P Q x ≠ 3) (hy : oK P Q y ≠ 3) :
    (oK P Q x = 2 ∧ oK P Q y = 2 ∧ addB f P Q b x y = nanB f P Q) ∨ (oK P Q x = 2 ∧ oK P Q (addB f P Q b x y) ≠ 3 ∧ sc P Q (addB f P Q b x y) = sc P Q x) ∨
    (oK P Q x ≠ 2 ∧ oK P Q y = 2 ∧ oK P Q (addB f P Q b x y) ≠ 3 ∧ sc P Q (addB f P Q b x y) = sc P Q y) ∨
    (oK P Q x ≠ 2 ∧ oK P Q y ≠ 2 ∧ oK P Q (addB f P Q b x y) ≠ 3 ∧ sc P Q (addB f P Q b x y) = rz f P Q b (sv f P Q b x + sv f P Q b y)) := by
  have ht := top_pos k
  unfold addB addP
  by_cases hn : oK P Q x = 2 ∧ oK P Q y = 2 ∧ oN P Q x ≠ oN P Q y
  · rw [if_pos (Or.inr (Or.inr hn))]
    exact Or.inl ⟨hn.1, hn.2.1, rfl⟩
  rw [if_neg (by
    rintro (h | h | h)
    · exact hx h
    · exact hy h
    · exact hn h)]
  refine Or.inr ?_
  by_cases kx : oK P Q x = 2
  · rw [if_pos kx, put_inf k]
    obtain ⟨a1, -, -, a4⟩ := fl_kind k (oN P Q x) (Int.le_of_lt ht) (Int.le_refl _)
    refine Or.inl ⟨kx, a1, ?_⟩
    rw [a4, (sc_in k hx).2.2.1 kx]
  rw [if_neg kx]
  refine Or.inr ?_
  by_cases ky : oK P Q y = 2
  · rw [if_pos ky, put_inf k]
    obtain ⟨a1, -, -, a4⟩ := fl_kind k (oN P Q y) (Int.le_of_lt ht) (Int.le_refl _)
    refine Or.inl ⟨kx, ky, a1, ?_⟩
    rw [a4, (sc_in k hy).2.2.1 ky]
  rw [if_neg ky]
  refine Or.inr ⟨kx, ky, ?_⟩
  unfold sv
  generalize oM f P Q b x = u
  generalize oM f P Q b y = v
  by_cases he : oN P Q x = oN P Q y
  · rw [if_pos he]
    obtain ⟨a1, a2⟩ := rd_sc k (oN P Q x) (u + v)
    refine ⟨a1, ?_⟩
    rw [a2, ← he]
    congr 1
    cases oN P Q x <;> simp <;> omega
  rw [if_neg he]
  have hny : oN P Q y = !oN P Q x := by
    revert he
    cases oN P Q x <;> cases oN P Q y <;> simp
  rw [hny]
  rcases Nat.lt_trichotomy u v with hl | hl | hl
  · rw [if_neg (by omega), if_pos hl]
    obtain ⟨a1, a2⟩ := rd_sc k (!oN P Q x) (v - u)
    refine ⟨a1, ?_⟩
    rw [a2]
    congr 1
    cases oN P Q x <;> simp <;> omega
  · subst hl
    rw [if_pos rfl, ← rd_zero k]
    obtain ⟨a1, a2⟩ := rd_sc k false 0
    refine ⟨a1, ?_⟩
    rw [a2]
    congr 1
    cases oN P Q x <;> simp <;> omega
  · rw [if_neg (by omega), if_neg (by omega)]
    obtain ⟨a1, a2⟩ := rd_sc k (oN P Q x) (u - v)
    refine ⟨a1, ?_⟩
    rw [a2]
    congr 1
    cases oN P Q x <;> simp <;> omega

/-- A sum is a word. -/
theorem add_bits {w e f P Q b : Int} (k : Kd w e f P Q b) (x y : Int) : 0 ≤ addB f P Q b x y ∧ addB f P Q b x y < 18446744073709551616 := by
  unfold addB
  rcases add_form k (oN P Q x) (oN P Q y) (oK P Q x) (oK P Q y) (oM f P Q b x) (oM f P Q b y) with h | ⟨n, c, c0, c1, h⟩
  · rw [h]
    exact ⟨(nan_facts k).1, (nan_facts k).2.1⟩
  · rw [h]
    exact ⟨(fl_facts k n c0 c1).1, (fl_facts k n c0 c1).2.1⟩
/-- A sum never falls as an operand rises. -/
theorem order_add {w e f P Q b : Int} (k : Kd w e f P Q b) {x y c : Int} (h : ¬ 0 < cmpB P Q x y) : cmpB P Q (addB f P Q b x c) (addB f P Q b y c) ≠ 1 := by
  have ht := top_pos k
  obtain ⟨-, -, hN, -⟩ := nan_facts k
  unfold cmpB at h
  by_cases h3 : oK P Q x = 3 ∨ oK P Q y = 3
  · rw [if_pos h3] at h
    omega
  rw [if_neg h3] at h
  have hle : sc P Q x ≤ sc P Q y := by
    by_cases h1 : sc P Q x < sc P Q y
    · omega
    · rw [if_neg h1] at h
      by_cases h2 : sc P Q x = sc P Q y
      · omega
      · rw [if_neg h2] at h
        omega
  have hx : oK P Q x ≠ 3 := fun h => h3 (Or.inl h)
  have hy : oK P Q y ≠ 3 := fun h => h3 (Or.inr h)
  unfold cmpB
  by_cases hs : oK P Q (addB f P Q b x c) = 3 ∨ oK P Q (addB f P Q b y c) = 3
  · rw [if_pos hs]
    omega
  rw [if_neg hs]
  have key : sc P Q (addB f P Q b x c) ≤ sc P Q (addB f P Q b y c) := by
    have hc : oK P Q c ≠ 3 := fun h => hs (Or.inl (by rw [addB_comm, (add_nan h).1, hN]))
    obtain ⟨x1, x2, x3, x4⟩ := sc_in k hx
    obtain ⟨y1, y2, y3, y4⟩ := sc_in k hy
    obtain ⟨s1, s2, -, -⟩ := sc_in k (x := addB f P Q b x c) (fun h => hs (Or.inl h))
    obtain ⟨t1, t2, -, -⟩ := sc_in k (x := addB f P Q b y c) (fun h => hs (Or.inr h))
    rcases add_sc k hx hc with ⟨_, _, h1⟩ | ⟨a1, _, a2⟩ | ⟨a1, ac, _, a2⟩ | ⟨a1, ac, _, a2⟩
    · exact absurd (Or.inl (by rw [h1, hN])) hs
    · have e1 := x3 a1
      rcases add_sc k hy hc with ⟨_, _, h1⟩ | ⟨b1, _, b2⟩ | ⟨b1, bc, _, b2⟩ | ⟨b1, bc, _, b2⟩
      · exact absurd (Or.inr (by rw [h1, hN])) hs
      · omega
      · have e2 := y4 b1
        revert e1
        cases oN P Q x <;> simp <;> omega
      · have e2 := y4 b1
        revert e1
        cases oN P Q x <;> simp <;> omega
    · have e1 := x4 a1
      rcases add_sc k hy hc with ⟨_, _, h1⟩ | ⟨b1, _, b2⟩ | ⟨b1, bc, _, b2⟩ | ⟨b1, bc, _, b2⟩
      · exact absurd (Or.inr (by rw [h1, hN])) hs
      · have e2 := y3 b1
        revert e2
        cases oN P Q y <;> simp <;> omega
      · omega
      · exact absurd ac bc
    · have e1 := x4 a1
      rcases add_sc k hy hc with ⟨_, _, h1⟩ | ⟨b1, _, b2⟩ | ⟨b1, bc, _, b2⟩ | ⟨b1, bc, _, b2⟩
      · exact absurd (Or.inr (by rw [h1, hN])) hs
      · have e2 := y3 b1
        revert e2
        cases oN P Q y <;> simp <;> omega
      · exact absurd bc ac
      · rw [a2, b2]
        have := sv_mono (f := f) (b := b) k ⟨hx, a1⟩ ⟨hy, b1⟩ hle
        exact rz_mono k (by omega)
  split
  · omega
  · split
    · omega
    · omega

/-- Twice a float that isn't below another one isn't less than that by their numbers. -/
theorem twice_ge {w e f P Q b : Int} (k : Kd w e f P Q b) {x y : Int} (hx : oK P Q x = 1) (hy : oK P Q y = 1) (nx : oN P Q x = false) (ny : oN P Q y = false) (h : ¬ cmpB P Q (addB f P Q b x x) y < 0) : oM f P Q b y ≤ 2 * oM f P Q b x := by
  obtain ⟨mx, lx⟩ := oM_fin (x := x) k (by omega)
  obtain ⟨my, ly⟩ := oM_fin (x := y) k (by omega)
  rcases add_sc (x := x) (y := x) k (by omega) (by omega) with ⟨h1, _⟩ | ⟨h1, _⟩ | ⟨_, h1, _⟩ | ⟨_, _, h3, h4⟩
  · omega
  · omega
  · omega
  unfold cmpB at h
  rw [if_neg (by omega)] at h
  have hge : sc P Q y ≤ sc P Q (addB f P Q b x x) := by
    by_cases h1 : sc P Q (addB f P Q b x x) < sc P Q y
    · rw [if_pos h1] at h
      omega
    · omega
  obtain ⟨e', he⟩ := twice_rep f.toNat (lowN f b) (oc P Q x)
  have hsv : sv f P Q b x + sv f P Q b x = ((fval f.toNat (lowN f b) e' : Nat) : Int) := by
    unfold sv
    rw [nx, mx, ← he]
    simp
  rw [h4, hsv, rz_pos, fval_code] at hge
  have hsy : sc P Q y = (oc P Q y : Int) := by
    unfold sc
    rw [ny]
    rfl
  have hl : lid P Q (e' : Int) ≤ (e' : Int) := by
    unfold lid
    split <;> omega
  have : oc P Q y ≤ e' := by omega
  have := (fval_le (f := f.toNat) (L := lowN f b)).2 this
  rw [mx, my]
  omega

/-- The parts of a float of a sign and a code. -/
theorem fl_open {w e f P Q b : Int} (k : Kd w e f P Q b) (n : Bool) {c : Nat} (h : (c : Int) < top P Q) : oN P Q (fl f P Q n c) = n ∧ oK P Q (fl f P Q n c) ≠ 3 ∧ oK P Q (fl f P Q n c) ≠ 2 ∧ oM f P Q b (fl f P Q n c) = fval f.toNat (lowN f b) c ∧ 0 ≤ fl f P Q n c ∧ fl f P Q n c < 18446744073709551616 := by
  obtain ⟨a1, -, a3, -⟩ := fl_kind k n (c := (c : Int)) (by omega) (by omega)
  obtain ⟨b0, b1, b2, b3, -, -⟩ := fl_facts k n (c := (c : Int)) (by omega) (by omega)
  have k2 : oK P Q (fl f P Q n c) ≠ 2 := fun h' => by have := a3.1 h'; omega
  obtain ⟨m, -⟩ := oM_fin (x := fl f P Q n c) k ⟨a1, k2⟩
  refine ⟨b3, a1, k2, ?_, b0, b1⟩
  rw [m, show oc P Q (fl f P Q n c) = c by omega]

/-- The difference of two floats of which neither is more than twice the other, and the lesser one, are the greater one. -/
theorem close_add {w e f P Q b : Int} (k : Kd w e f P Q b) {x y : Int} (hx : oK P Q x = 1) (hy : oK P Q y = 1) (nx : oN P Q x = false) (ny : oN P Q y = false)
    (h1 : oM f P Q b y ≤ 2 * oM f P Q b x) (h2 : oM f P Q b x ≤ 2 * oM f P Q b y) :
    0 ≤ subB f P Q b x y ∧ subB f P Q b x y < 18446744073709551616 ∧ addB f P Q b (subB f P Q b x y) y = cutN f P Q x := by
  have ht := top_pos k
  obtain ⟨mx, lx⟩ := oM_fin (x := x) k (by omega)
  obtain ⟨my, ly⟩ := oM_fin (x := y) k (by omega)
  have px : 0 < oM f P Q b x := by
    rcases kind_oc k x with h | h | ⟨_, h, _, h'⟩ | h
    · omega
    · omega
    · rw [h']
      exact fval_pos (by omega)
    · omega
  rw [cut_fl k (by omega), nx]
  have goal : ∀ (n : Bool) (c : Nat), subB f P Q b x y = fl f P Q n c → (c : Int) < top P Q → (n = false → fval f.toNat (lowN f b) c + oM f P Q b y = oM f P Q b x) → (n = true → fval f.toNat (lowN f b) c + oM f P Q b x = oM f P Q b y) →
      0 ≤ subB f P Q b x y ∧ subB f P Q b x y < 18446744073709551616 ∧ addB f P Q b (subB f P Q b x y) y = fl f P Q false (oc P Q x) := by
    intro n c hs hc hp hm
    rw [hs]
    obtain ⟨a1, a2, a3, a4, a5, a6⟩ := fl_open (b := b) k n hc
    refine ⟨a5, a6, ?_⟩
    unfold addB addP
    rw [if_neg (by omega), if_neg a3, if_neg (by omega), a1, a4, ny]
    cases n
    · rw [if_pos rfl, hp rfl, mx, rd_val k _ lx]
    · have := hm rfl
      rw [if_neg (by simp), if_neg (by omega), if_pos (by omega), show oM f P Q b y - fval f.toNat (lowN f b) c = oM f P Q b x by omega, mx, rd_val k _ lx]
  have hsub : subB f P Q b x y = if oM f P Q b x = oM f P Q b y then put f P Q false 0 0 else if oM f P Q b x < oM f P Q b y then rd f P Q b true (oM f P Q b y - oM f P Q b x) else rd f P Q b false (oM f P Q b x - oM f P Q b y) := by
    unfold subB addP
    rw [if_neg (by omega), if_neg (by omega), if_neg (by omega), nx, ny, if_neg (by simp)]
    rfl
  by_cases he : oM f P Q b x = oM f P Q b y
  · rw [if_pos he, put_nought] at hsub
    exact goal false 0 hsub ht (fun _ => by rw [fval_zero]; omega) (fun h => by simp at h)
  · rw [if_neg he] at hsub
    by_cases hl : oM f P Q b x < oM f P Q b y
    · rw [if_pos hl] at hsub
      obtain ⟨c, hc⟩ := close_rep (f := f.toNat) (L := lowN f b) (c := oc P Q y) (d := oc P Q x) (by omega) (by omega)
      have hcl : c ≤ oc P Q y := (fval_le (f := f.toNat) (L := lowN f b)).1 (by omega)
      rw [my, mx, hc, rd_val k _ (by omega)] at hsub
      exact goal true c hsub (by omega) (fun h => by simp at h) (fun _ => by omega)
    · rw [if_neg hl] at hsub
      obtain ⟨c, hc⟩ := close_rep (f := f.toNat) (L := lowN f b) (c := oc P Q x) (d := oc P Q y) (by omega) (by omega)
      have hcl : c ≤ oc P Q x := (fval_le (f := f.toNat) (L := lowN f b)).1 (by omega)
      rw [my, mx, hc, rd_val k _ (by omega)] at hsub
      exact goal false c hsub (by omega) (fun _ => by omega) (fun h => by simp at h)

end Go.Proofs.Yticbhdgamblmbaa

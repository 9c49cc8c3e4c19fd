/- How two floats are held against each other by the sign of their difference; a sum never falls as an operand rises; close differences. -/
import Derived.Test.YticbhdgamblmbaaSumD
import Derived.Test.YticbhdgamblmbaaRefT
namespace Go.Proofs.Yticbhdgamblmbaa
open Go.RowKit
open Go.Proofs.Yticbhdgamblmbaa.W

/-- A float's code with its sign. -/
def sc (P Q x : Int) : Int := if oN P Q x then -(oc P Q x : Int) else (oc P Q x : Int)
/-- What two floats are to each other. -/
def cmpB (P Q x y : Int) : Int := if oK P Q x = 3 ∨ oK P Q y = 3 then 2 else if sc P Q x < sc P Q y then -1 else if sc P Q x = sc P Q y then 0 else 1
/-- A signed number's nearest float's code, with its sign. -/
def rz (f P Q b : Int) (z : Int) : Int := if z < 0 then -(lid P Q (code f.toNat (lowN f b) (-z).toNat : Nat)) else lid P Q (code f.toNat (lowN f b) z.toNat : Nat)
/-- A float's number with its sign. -/
def sv (f P Q b x : Int) : Int := if oN P Q x then -(oM f P Q b x : Int) else (oM f P Q b x : Int)

theorem kinds {w e f P Q b : Int} (k : Kd w e f P Q b) (x : Int) : oK P Q x = 0 ∨ oK P Q x = 1 ∨ oK P Q x = 2 ∨ oK P Q x = 3 := by
  rcases kind_oc k x with h | h | h | h
  · exact Or.inr (Or.inr (Or.inr h.1))
  · exact Or.inr (Or.inr (Or.inl h.1))
  · exact Or.inr (Or.inl h.1)
  · exact Or.inl h.1
/-- A float of a sign and a code: its kind. -/
theorem fl_kind {w e f P Q b c : Int} (k : Kd w e f P Q b) (n : Bool) (c0 : 0 ≤ c) (c1 : c ≤ top P Q) :
    oK P Q (fl f P Q n c) ≠ 3 ∧ (oK P Q (fl f P Q n c) = 0 ↔ c = 0) ∧ (oK P Q (fl f P Q n c) = 2 ↔ c = top P Q) ∧ sc P Q (fl f P Q n c) = (if n then -c else c) := by
  obtain ⟨-, -, r2, r3, -, -⟩ := fl_facts k n c0 c1
  have ht := top_pos k
  have hs : sc P Q (fl f P Q n c) = (if n then -c else c) := by
    unfold sc
    rw [r2, r3]
  refine ⟨?_, ?_, ?_, hs⟩ <;> rcases kind_oc k (fl f P Q n c) with ⟨h, h1, _⟩ | ⟨h, h1, _⟩ | ⟨h, h1, h2, _⟩ | ⟨h, h1, _⟩ <;> omega

theorem fval_dvd (f L c : Nat) : 2 ^ L ∣ fval f L c := by
  obtain ⟨s, k, -, -, hk, -, e⟩ := fval_ex f L c
  rw [e]
  exact Nat.dvd_trans (Nat.pow_dvd_pow 2 hk) (Nat.dvd_mul_left _ _)
/-- A number of the least floats' grain that isn't nought isn't rounded to it. -/
theorem code_ne {f L M : Nat} (h : 2 ^ L ∣ M) (h0 : 0 < M) : 0 < code f L M := by
  have h1 : fval f L 1 ≤ M := by
    unfold fval
    rw [if_pos (by rw [Nat.pow_succ]; have := Nat.two_pow_pos f; omega), Nat.one_mul]
    exact Nat.le_of_dvd h0 h
  have h2 := code_mono f L h1
  rw [fval_code] at h2
  omega
theorem lid_ne {w e f P Q b : Int} (k : Kd w e f P Q b) {c : Nat} (h : 0 < c) : 0 < lid P Q c := by
  have := top_pos k
  unfold top at this
  unfold lid
  split <;> omega
theorem rd_pos {w e f P Q b : Int} (k : Kd w e f P Q b) (n : Bool) {M : Nat} (h : 2 ^ lowN f b ∣ M) (h0 : 0 < M) :
    oK P Q (rd f P Q b n M) ≠ 0 ∧ oK P Q (rd f P Q b n M) ≠ 3 ∧ oN P Q (rd f P Q b n M) = n ∧ 0 ≤ rd f P Q b n M ∧ rd f P Q b n M < 18446744073709551616 := by
  have hl := lid_ne k (code_ne (f := f.toNat) h h0)
  obtain ⟨c0, c1⟩ := lid_top k (code f.toNat (lowN f b) M)
  obtain ⟨a1, a2, -, -⟩ := fl_kind k n c0 c1
  obtain ⟨b0, b1, -, b3, -, -⟩ := fl_facts k n c0 c1
  exact ⟨fun h => by have := a2.1 h; omega, a1, b3, b0, b1⟩

/-- The difference tells how two floats that aren't the same infinite one are to each other. -/
theorem dif_sign {w e f P Q b x y : Int} (k : Kd w e f P Q b) (hx : oK P Q x ≠ 3) (hy : oK P Q y ≠ 3) (hi : ¬ (oK P Q x = 2 ∧ oK P Q y = 2 ∧ oN P Q x = oN P Q y)) :
    0 ≤ subB f P Q b x y ∧ subB f P Q b x y < 18446744073709551616 ∧ (oK P Q (subB f P Q b x y) = 0 ∧ sc P Q x = sc P Q y ∨ oK P Q (subB f P Q b x y) ≠ 0 ∧ oN P Q (subB f P Q b x y) = true ∧ sc P Q x < sc P Q y ∨ oK P Q (subB f P Q b x y) ≠ 0 ∧ oN P Q (subB f P Q b x y) = false ∧ sc P Q y < sc P Q x) := by
  have ht := top_pos k
  have hz : ∀ n : Bool, 0 ≤ put f P Q n 0 0 ∧ put f P Q n 0 0 < 18446744073709551616 ∧ oK P Q (put f P Q n 0 0) = 0 := fun n => by
    rw [put_nought]
    obtain ⟨a0, a1, -⟩ := fl_facts k n (Int.le_refl 0) (Int.le_of_lt ht)
    exact ⟨a0, a1, (fl_kind k n (Int.le_refl 0) (Int.le_of_lt ht)).2.1.2 rfl⟩
  have hinf : ∀ n : Bool, 0 ≤ put f P Q n (Q - 1) 0 ∧ put f P Q n (Q - 1) 0 < 18446744073709551616 ∧ oK P Q (put f P Q n (Q - 1) 0) ≠ 0 ∧ oN P Q (put f P Q n (Q - 1) 0) = n := fun n => by
    rw [put_inf k]
    obtain ⟨a0, a1, -, a3, -⟩ := fl_facts k n (Int.le_of_lt ht) (Int.le_refl _)
    exact ⟨a0, a1, fun h => by have := (fl_kind k n (Int.le_of_lt ht) (Int.le_refl _)).2.1.1 h; omega, a3⟩
  have hcx : (oc P Q x : Int) ≤ top P Q ∧ (oK P Q x ≠ 2 → (oc P Q x : Int) < top P Q) ∧ (oK P Q x = 2 → (oc P Q x : Int) = top P Q) := by
    rcases kind_oc k x with ⟨h, h1, _⟩ | ⟨h, h1, _⟩ | ⟨h, h1, h2, _⟩ | ⟨h, h1, _⟩ <;> omega
  have hcy : (oc P Q y : Int) ≤ top P Q ∧ (oK P Q y ≠ 2 → (oc P Q y : Int) < top P Q) ∧ (oK P Q y = 2 → (oc P Q y : Int) = top P Q) := by
    rcases kind_oc k y with ⟨h, h1, _⟩ | ⟨h, h1, _⟩ | ⟨h, h1, h2, _⟩ | ⟨h, h1, _⟩ <;> omega
  have hni : ¬ (oK P Q x = 3 ∨ oK P Q y = 3 ∨ (oK P Q x = 2 ∧ oK P Q y = 2 ∧ oN P Q x ≠ !oN P Q y)) := by
    rintro (h | h | ⟨h1, h2, h⟩)
    · exact hx h
    · exact hy h
    · refine hi ⟨h1, h2, ?_⟩
      revert h
      cases oN P Q x <;> cases oN P Q y <;> simp
  unfold subB addP
  rw [if_neg hni]
  by_cases kx : oK P Q x = 2
  · rw [if_pos kx]
    obtain ⟨a0, a1, a2, a3⟩ := hinf (oN P Q x)
    refine ⟨a0, a1, ?_⟩
    rw [a3]
    have e1 := hcx.2.2 kx
    unfold sc
    cases hnx : oN P Q x
    · refine Or.inr (Or.inr ⟨by rw [hnx] at a2; exact a2, rfl, ?_⟩)
      by_cases ky : oK P Q y = 2
      · have : oN P Q y = true := by
          have := fun h => hi ⟨kx, ky, h⟩
          rw [hnx] at this
          revert this
          cases oN P Q y <;> simp
        simp [this]
        omega
      · have e2 := hcy.2.1 ky
        cases oN P Q y <;> simp <;> omega
    · refine Or.inr (Or.inl ⟨by rw [hnx] at a2; exact a2, rfl, ?_⟩)
      by_cases ky : oK P Q y = 2
      · have : oN P Q y = false := by
          have := fun h => hi ⟨kx, ky, h⟩
          rw [hnx] at this
          revert this
          cases oN P Q y <;> simp
        simp [this]
        omega
      · have e2 := hcy.2.1 ky
        cases oN P Q y <;> simp <;> omega
  · rw [if_neg kx]
    have e1 := hcx.2.1 kx
    by_cases ky : oK P Q y = 2
    · rw [if_pos ky]
      obtain ⟨a0, a1, a2, a3⟩ := hinf (!oN P Q y)
      refine ⟨a0, a1, ?_⟩
      rw [a3]
      have e2 := hcy.2.2 ky
      unfold sc
      cases hny : oN P Q y
      · refine Or.inr (Or.inl ⟨by rw [hny] at a2; exact a2, rfl, ?_⟩)
        cases oN P Q x <;> simp <;> omega
      · refine Or.inr (Or.inr ⟨by rw [hny] at a2; exact a2, rfl, ?_⟩)
        cases oN P Q x <;> simp <;> omega
    · rw [if_neg ky]
      obtain ⟨mx, lx⟩ := oM_fin k ⟨hx, kx⟩
      obtain ⟨my, ly⟩ := oM_fin k ⟨hy, ky⟩
      have dx := fval_dvd f.toNat (lowN f b) (oc P Q x)
      have dy := fval_dvd f.toNat (lowN f b) (oc P Q y)
      rw [mx, my]
      by_cases hn : oN P Q x = !oN P Q y
      · rw [if_pos hn]
        by_cases hs : fval f.toNat (lowN f b) (oc P Q x) + fval f.toNat (lowN f b) (oc P Q y) = 0
        · rw [hs, rd_zero k]
          obtain ⟨a0, a1, a2⟩ := hz (oN P Q x)
          refine ⟨a0, a1, Or.inl ⟨a2, ?_⟩⟩
          have z1 : oc P Q x = 0 := fval_inj (f := f.toNat) (L := lowN f b) (by rw [fval_zero]; omega)
          have z2 : oc P Q y = 0 := fval_inj (f := f.toNat) (L := lowN f b) (by rw [fval_zero]; omega)
          unfold sc
          rw [z1, z2]
          simp
        · obtain ⟨a0, _, a2, a3, a4⟩ := rd_pos k (oN P Q x) (Nat.dvd_add dx dy) (by omega)
          refine ⟨a3, a4, ?_⟩
          rw [a2]
          have hz1 : ¬ (oc P Q x = 0 ∧ oc P Q y = 0) := fun h => hs (by rw [h.1, h.2, fval_zero])
          unfold sc
          cases hny : oN P Q y
          · rw [hny] at hn
            rw [hn] at a0 ⊢
            exact Or.inr (Or.inl ⟨a0, rfl, by simp; omega⟩)
          · rw [hny] at hn
            rw [hn] at a0 ⊢
            exact Or.inr (Or.inr ⟨a0, rfl, by simp; omega⟩)
      · rw [if_neg hn]
        have hn' : oN P Q x = oN P Q y := by
          revert hn
          cases oN P Q x <;> cases oN P Q y <;> simp
        rcases Nat.lt_trichotomy (fval f.toNat (lowN f b) (oc P Q x)) (fval f.toNat (lowN f b) (oc P Q y)) with hl | he | hl
        · rw [if_neg (Nat.ne_of_lt hl), if_pos hl]
          obtain ⟨a0, _, a2, a3, a4⟩ := rd_pos k (!oN P Q y) (Nat.dvd_sub dy dx) (by omega)
          refine ⟨a3, a4, ?_⟩
          rw [a2]
          have hc : oc P Q x < oc P Q y := Nat.lt_of_not_le fun h => by have := (fval_le (f := f.toNat) (L := lowN f b)).2 h; omega
          unfold sc
          rw [hn']
          cases hny : oN P Q y
          · rw [hny] at a0
            exact Or.inr (Or.inl ⟨a0, rfl, by simp; omega⟩)
          · rw [hny] at a0
            exact Or.inr (Or.inr ⟨a0, rfl, by simp; omega⟩)
        · rw [if_pos he]
          obtain ⟨a0, a1, a2⟩ := hz false
          refine ⟨a0, a1, Or.inl ⟨a2, ?_⟩⟩
          unfold sc
          rw [hn', fval_inj he]
        · rw [if_neg (fun h => absurd hl (by rw [h]; exact Nat.lt_irrefl _)), if_neg (Nat.not_lt.2 (Nat.le_of_lt hl))]
          obtain ⟨a0, _, a2, a3, a4⟩ := rd_pos k (oN P Q x) (Nat.dvd_sub dx dy) (by omega)
          refine ⟨a3, a4, ?_⟩
          rw [a2]
          have hc : oc P Q y < oc P Q x := Nat.lt_of_not_le fun h => by have := (fval_le (f := f.toNat) (L := lowN f b)).2 h; omega
          unfold sc
          rw [← hn']
          cases hnx : oN P Q x
          · rw [hnx] at a0
            exact Or.inr (Or.inr ⟨a0, rfl, by simp; omega⟩)
          · rw [hnx] at a0
            exact Or.inr (Or.inl ⟨a0, rfl, by simp; omega⟩)

theorem refCmpS_any {w e f P Q b x y : Int} (k : Kd w e f P Q b) (W : World) (x0 : 0 ≤ x) (x1 : x < 18446744073709551616) (y0 : 0 ≤ y) (y1 : y < 18446744073709551616) :
    Calls Try.prog 20 #[.int .i64 w, .int .u64 x, .int .u64 y] W fun r W' => r = .returned (.int .i64 (cmpB P Q x y)) ∧ Below W.heap.size W W' := by
  obtain ⟨X1, S1, o1, -, -⟩ := open_kd k x
  obtain ⟨X2, S2, o2, -, -⟩ := open_kd k y
  have HO1 := hide (fun W => refOpen_any x k W x0 x1 o1)
  have HO2 := hide (fun W => refOpen_any y k W y0 y1 o2)
  have HS := hide (fun W => refDif_any k W x0 x1 y0 y1)
  unfold cmpB
  by_cases a3 : oK P Q x = 3
  · rw [if_pos (Or.inl a3)]
    exact refCmp_n1 W HO1 HO2 (eq_t a3)
  by_cases b3 : oK P Q y = 3
  · rw [if_pos (Or.inr b3)]
    exact refCmp_n2 W HO1 HO2 (eq_f a3) (eq_t b3)
  rw [if_neg (by omega)]
  by_cases hi : oK P Q x = 2 ∧ oK P Q y = 2 ∧ oN P Q x = oN P Q y
  · obtain ⟨a2, b2, hn⟩ := hi
    have hs : sc P Q x = sc P Q y := by
      have c1 : (oc P Q x : Int) = top P Q := by rcases kind_oc k x with h | h | h | h <;> omega
      have c2 : (oc P Q y : Int) = top P Q := by rcases kind_oc k y with h | h | h | h <;> omega
      unfold sc
      rw [hn, c1, c2]
    rw [if_neg (by omega), if_pos hs]
    exact refCmp_ii W HO1 HO2 (eq_f a3) (eq_f b3) (eq_t a2) (eq_t b2) (by simp [hn])
  obtain ⟨v0, v1, hv⟩ := dif_sign k a3 b3 hi
  obtain ⟨X3, S3, o3, -, -⟩ := open_kd k (subB f P Q b x y)
  have HO3 := hide (fun W => refOpen_any _ k W v0 v1 o3)
  rcases hv with ⟨g, hc⟩ | ⟨g, hn3, hc⟩ | ⟨g, hn3, hc⟩
  · rw [if_neg (by omega), if_pos hc]
    by_cases a2 : oK P Q x = 2
    · by_cases b2 : oK P Q y = 2
      · exact refCmp_c0 W HO1 HO2 (eq_f a3) (eq_f b3) (eq_t a2) (eq_t b2) (by simp; exact fun h => hi ⟨a2, b2, h⟩) (eq_t g) HS HO3
      · exact refCmp_b0 W HO1 HO2 (eq_f a3) (eq_f b3) (eq_t a2) (eq_f b2) (eq_t g) HS HO3
    · exact refCmp_a0 W HO1 HO2 (eq_f a3) (eq_f b3) (eq_f a2) (eq_t g) HS HO3
  · rw [if_pos hc]
    rw [hn3] at HO3
    by_cases a2 : oK P Q x = 2
    · by_cases b2 : oK P Q y = 2
      · exact refCmp_cl W HO1 HO2 (eq_f a3) (eq_f b3) (eq_t a2) (eq_t b2) (by simp; exact fun h => hi ⟨a2, b2, h⟩) (eq_f g) HS HO3
      · exact refCmp_bl W HO1 HO2 (eq_f a3) (eq_f b3) (eq_t a2) (eq_f b2) (eq_f g) HS HO3
    · exact refCmp_al W HO1 HO2 (eq_f a3) (eq_f b3) (eq_f a2) (eq_f g) HS HO3
  · rw [if_neg (by omega), if_neg (by omega)]
    rw [hn3] at HO3
    by_cases a2 : oK P Q x = 2
    · by_cases b2 : oK P Q y = 2
      · exact refCmp_cg W HO1 HO2 (eq_f a3) (eq_f b3) (eq_t a2) (eq_t b2) (by simp; exact fun h => hi ⟨a2, b2, h⟩) (eq_f g) HS HO3
      · exact refCmp_bg W HO1 HO2 (eq_f a3) (eq_f b3) (eq_t a2) (eq_f b2) (eq_f g) HS HO3
    · exact refCmp_ag W HO1 HO2 (eq_f a3) (eq_f b3) (eq_f a2) (eq_f g) HS HO3

end Go.Proofs.Yticbhdgamblmbaa

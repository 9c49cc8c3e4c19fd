/- The contract of the reference's Div. -/
import Derived.Test.YtjlegmgpgfjciaaWRefH
namespace Go.Proofs.Ytjlegmgpgfjciaa.W
open Go.RowKit

/-- The division's variables at a round's head. -/
structure DivSt (N : Nat) (w wr : World) (b Qs Rs : Value) (y Q R : Nat) : Prop where
  cb : wr.cell? ⟨N + 1, 0, none⟩ = some b
  c2 : wr.cell? ⟨N + 1 + 1, 0, none⟩ = some (.slice none 0 0)
  c3 : wr.cell? ⟨N + 1 + 1 + 1, 0, none⟩ = some (.slice none 0 0)
  cq : wr.cell? ⟨N + 1 + 1 + 1 + 1, 0, none⟩ = some Qs
  cr : wr.cell? ⟨N + 1 + 1 + 1 + 1 + 1, 0, none⟩ = some Rs
  f2 : wr.frozen? ⟨N + 1 + 1, 0, none⟩ = false
  f3 : wr.frozen? ⟨N + 1 + 1 + 1, 0, none⟩ = false
  fq : wr.frozen? ⟨N + 1 + 1 + 1 + 1, 0, none⟩ = false
  fr : wr.frozen? ⟨N + 1 + 1 + 1 + 1 + 1, 0, none⟩ = false
  sz : N + 1 + 1 + 1 + 1 + 1 < wr.heap.size
  nb : IsNat wr b y
  nq : IsNat wr Qs Q
  nr : IsNat wr Rs R
  bel : Below N w wr

theorem DivSt.below {N : Nat} {w wr w' : World} {b Qs Rs : Value} {y Q R : Nat} (h : DivSt N w wr b Qs Rs y Q R) (hb : Below wr.heap.size wr w') : DivSt N w w' b Qs Rs y Q R := by
  have hz := h.sz
  have k : ∀ j, j < wr.heap.size → w'.cell? ⟨j, 0, none⟩ = wr.cell? ⟨j, 0, none⟩ := fun j hj => hb.cell (p := ⟨j, 0, none⟩) hj
  have l : ∀ j, j < wr.heap.size → w'.frozen? ⟨j, 0, none⟩ = wr.frozen? ⟨j, 0, none⟩ := fun j hj => hb.frozen (p := ⟨j, 0, none⟩) hj
  exact { cb := by rw [k _ (by omega)]; exact h.cb, c2 := by rw [k _ (by omega)]; exact h.c2, c3 := by rw [k _ (by omega)]; exact h.c3, cq := by rw [k _ (by omega)]; exact h.cq, cr := by rw [k _ (by omega)]; exact h.cr,
          f2 := by rw [l _ (by omega)]; exact h.f2, f3 := by rw [l _ (by omega)]; exact h.f3, fq := by rw [l _ (by omega)]; exact h.fq, fr := by rw [l _ (by omega)]; exact h.fr,
          sz := Nat.lt_of_lt_of_le hz hb.size, nb := h.nb.below hb, nq := h.nq.below hb, nr := h.nr.below hb, bel := h.bel.trans (hb.mono (by omega)) }

theorem frozen_set (w : World) (p q : Addr) (v : Value) : (w.setCell p v).frozen? q = w.frozen? q := by simp [go_sem]
theorem IsNat.eta {w : World} {s : Value} {x : Nat} (h : IsNat w s x) {b : Nat} (hc : w.cell? ⟨b, 0, none⟩ = some s) {s' : Value} {z : Nat} (v : Value) (k : IsNat w s' z) : IsNat (w.setCell ⟨b, 0, none⟩ v) s' z := by
  obtain ⟨a, n, c, rfl⟩ := h.slice
  exact k.store hc v

theorem DivSt.setR {N : Nat} {w wr : World} {b Qs Rs : Value} {y Q R : Nat} (h : DivSt N w wr b Qs Rs y Q R) {Rs' : Value} {R' : Nat} (k : IsNat wr Rs' R') : DivSt N w (wr.setCell ⟨N + 1 + 1 + 1 + 1 + 1, 0, none⟩ Rs') b Qs Rs' y Q R' := by
  have o : ∀ j, j ≠ N + 1 + 1 + 1 + 1 + 1 → (wr.setCell ⟨N + 1 + 1 + 1 + 1 + 1, 0, none⟩ Rs').cell? ⟨j, 0, none⟩ = wr.cell? ⟨j, 0, none⟩ := fun j hj => World.cell?_setCell_other _ _ _ _ (by intro he; injection he with he1; exact hj he1.symm)
  exact { cb := by rw [o _ (by omega)]; exact h.cb, c2 := by rw [o _ (by omega)]; exact h.c2, c3 := by rw [o _ (by omega)]; exact h.c3, cq := by rw [o _ (by omega)]; exact h.cq, cr := World.cell?_setCell_same _ _ _ h.cr,
          f2 := by rw [frozen_set]; exact h.f2, f3 := by rw [frozen_set]; exact h.f3, fq := by rw [frozen_set]; exact h.fq, fr := by rw [frozen_set]; exact h.fr,
          sz := by simpa using h.sz, nb := h.nr.eta h.cr _ h.nb, nq := h.nr.eta h.cr _ h.nq, nr := h.nr.eta h.cr _ k, bel := h.bel.setCell (by simp; omega) _ }
theorem DivSt.setQ {N : Nat} {w wr : World} {b Qs Rs : Value} {y Q R : Nat} (h : DivSt N w wr b Qs Rs y Q R) {Qs' : Value} {Q' : Nat} (k : IsNat wr Qs' Q') : DivSt N w (wr.setCell ⟨N + 1 + 1 + 1 + 1, 0, none⟩ Qs') b Qs' Rs y Q' R := by
  have o : ∀ j, j ≠ N + 1 + 1 + 1 + 1 → (wr.setCell ⟨N + 1 + 1 + 1 + 1, 0, none⟩ Qs').cell? ⟨j, 0, none⟩ = wr.cell? ⟨j, 0, none⟩ := fun j hj => World.cell?_setCell_other _ _ _ _ (by intro he; injection he with he1; exact hj he1.symm)
  exact { cb := by rw [o _ (by omega)]; exact h.cb, c2 := by rw [o _ (by omega)]; exact h.c2, c3 := by rw [o _ (by omega)]; exact h.c3, cq := World.cell?_setCell_same _ _ _ h.cq, cr := by rw [o _ (by omega)]; exact h.cr,
          f2 := by rw [frozen_set]; exact h.f2, f3 := by rw [frozen_set]; exact h.f3, fq := by rw [frozen_set]; exact h.fq, fr := by rw [frozen_set]; exact h.fr,
          sz := by simpa using h.sz, nb := h.nq.eta h.cq _ h.nb, nq := h.nq.eta h.cq _ k, nr := h.nq.eta h.cq _ h.nr, bel := h.bel.setCell (by simp; omega) _ }

/-- The division's numbers: s bits are still to come. -/
def DivTo (x y Q R k : Nat) : Prop := x = Q * y + R ∧ R < y * 2 ^ k
theorem divTo_start {x y : Nat} (hy : y ≠ 0) : DivTo x y 0 x (Go.bitLen x + 1 - Go.bitLen y) := by
  refine ⟨by simp, ?_⟩
  have h1 := (Go.bitLen_spec x).1
  have h2 := (Go.bitLen_spec y).2 hy
  have h0 : 0 < Go.bitLen y := by unfold Go.bitLen; rw [if_neg hy]; omega
  have h3 := Nat.mul_le_mul_right (2 ^ (Go.bitLen x + 1 - Go.bitLen y)) h2
  rw [← Nat.pow_add] at h3
  have h4 := Nat.pow_le_pow_right (show 0 < 2 by omega) (show Go.bitLen x ≤ Go.bitLen y - 1 + (Go.bitLen x + 1 - Go.bitLen y) by omega)
  omega
theorem divTo_yes {x y Q R t : Nat} (h : DivTo x y Q R (t + 1)) (hT : y * 2 ^ t ≤ R) : DivTo x y (Q + 1 * 2 ^ t) (R - y * 2 ^ t) t := by
  obtain ⟨h1, h2⟩ := h
  rw [Nat.pow_succ, ← Nat.mul_assoc] at h2
  refine ⟨?_, by omega⟩
  rw [Nat.one_mul, Nat.add_mul, Nat.mul_comm (2 ^ t) y]
  omega
theorem divTo_no {x y Q R t : Nat} (h : DivTo x y Q R (t + 1)) (hT : ¬ y * 2 ^ t ≤ R) : DivTo x y Q R t := ⟨h.1, by omega⟩
theorem divTo_end {x y Q R : Nat} (h : DivTo x y Q R 0) : Q = x / y ∧ R = x % y := by
  obtain ⟨h1, h2⟩ := h
  rw [Nat.pow_zero, Nat.mul_one] at h2
  subst h1
  constructor
  · rw [Nat.mul_comm, Nat.mul_add_div (by omega), Nat.div_eq_of_lt h2]; rfl
  · rw [Nat.mul_comm, Nat.mul_add_mod, Nat.mod_eq_of_lt h2]
theorem divTo_le {x y Q R k : Nat} (h : DivTo x y Q R k) (hy : y ≠ 0) : R ≤ x ∧ Q ≤ x := by
  obtain ⟨h1, h2⟩ := h
  have := Nat.le_mul_of_pos_right Q (show 0 < y by omega)
  omega

theorem keepTwo {W w' : World} {b1 b2 : Nat} {s1 s2 : Value} {x1 x2 : Nat} (hb : Below W.heap.size W w') (z1 : b1 < W.heap.size) (z2 : b2 < W.heap.size)
    (h : W.cell? ⟨b1, 0, none⟩ = some s1 ∧ W.cell? ⟨b2, 0, none⟩ = some s2 ∧ IsNat W s1 x1 ∧ IsNat W s2 x2) :
    w'.cell? ⟨b1, 0, none⟩ = some s1 ∧ w'.cell? ⟨b2, 0, none⟩ = some s2 ∧ IsNat w' s1 x1 ∧ IsNat w' s2 x2 :=
  ⟨by rw [hb.cell (p := ⟨b1, 0, none⟩) z1]; exact h.1, by rw [hb.cell (p := ⟨b2, 0, none⟩) z2]; exact h.2.1, h.2.2.1.below hb, h.2.2.2.below hb⟩

theorem i64_same {x : Int} (h1 : -9223372036854775808 ≤ x) (h2 : x < 9223372036854775808) : IntKind.i64.wrap x = x := by
  simp only [IntKind.wrap, IntKind.bits, IntKind.signed]
  simp
  omega
/-- Two stores into variables that hold slices. -/
theorem store_two {w : World} {b1 b2 : Nat} {a1 a2 : Option Addr} {n1 c1 n2 c2 : Nat} {s : Value} {x : Nat} (h : IsNat w s x) (h1 : w.cell? ⟨b1, 0, none⟩ = some (.slice a1 n1 c1)) (h2 : w.cell? ⟨b2, 0, none⟩ = some (.slice a2 n2 c2)) (hne : b1 ≠ b2) (v1 v2 : Value) :
    IsNat ((w.setCell ⟨b1, 0, none⟩ v1).setCell ⟨b2, 0, none⟩ v2) s x :=
  (h.store h1 v1).store (by rw [World.cell?_setCell_other _ _ _ _ (by intro he; injection he with he1; exact hne he1)]; exact h2) v2
theorem bitLen_of' {v k : Nat} (h : v < 2 ^ k) : Go.bitLen v ≤ k := by
  unfold Go.bitLen
  split
  · omega
  · rename_i h0
    have := (Nat.log2_lt h0).2 h
    omega

theorem bitLen_pw {v i : Nat} (h : v < pw i) : Go.bitLen v ≤ 32 * i := bitLen_of' (by rw [← pw_two]; exact h)
theorem cmpN_ge {v u : Nat} (h : u ≤ v) : 0 ≤ cmpN v u := by
  unfold cmpN
  rw [if_neg (by omega)]
  split <;> omega
theorem cmpN_lt {v u : Nat} (h : ¬ u ≤ v) : ¬ 0 ≤ cmpN v u := by
  unfold cmpN
  rw [if_pos (by omega)]
  omega

theorem refOf_1 (w : World) : Calls Try.prog 43 #[.int .u64 1] w fun e w' => ∃ s', e = .returned (.agg #[s']) ∧ IsNat w' s' 1 ∧ Below w.heap.size w w' := refOf_any 1 w (by omega) (by omega)
theorem pow_pw {k i : Nat} (h : k < 32 * i) : 1 * 2 ^ k < pw i := by
  rw [pw_two, Nat.one_mul]
  exact Nat.pow_lt_pow_right (by omega) h

set_option maxRecDepth 100000 in
set_option maxHeartbeats 2000000 in
theorem refDiv_any (a b : Option Addr) (n c m d x y : Nat) (w : World) (hx : IsNat w (.slice a n c) x) (hy : IsNat w (.slice b m d) y) (hy0 : y ≠ 0) (bx : x < pw 300) (hby : y < pw 300) :
    Calls Try.prog 49 #[.agg #[.slice a n c], .agg #[.slice b m d]] w fun e w' => ∃ s1 s2, e = .returned (.tuple #[.agg #[s1], .agg #[s2]]) ∧ IsNat w' s1 (x / y) ∧ IsNat w' s2 (x % y) ∧ Below w.heap.size w w' := by
  have hLx : Go.bitLen x ≤ 9600 := by have := bitLen_pw bx; omega
  have hLy : Go.bitLen y ≤ 9600 := by have := bitLen_pw hby; omega
  have HX := hide hx; have HY := hide hy; have HY0 := hide hy0; have HBX := hide bx; have HBY := hide hby
  clear hx hy hy0 bx hby
  go_enter Try.func49, Try.ntmps49
  go_wp2_with fail
  obtain ⟨wa, hwa⟩ : ∃ wa, wa = (((((w.alloc (.cells #[.slice a n c] 45)).alloc (.cells #[.slice b m d] 45)).alloc (.cells #[.slice none 0 0] 45)).alloc (.cells #[.slice none 0 0] 45)).alloc (.cells #[.slice none 0 0] 45)).alloc (.cells #[.slice a n c] 45) := ⟨_, rfl⟩
  have hBa : Below w.heap.size w wa := by rw [hwa]; exact balloc (balloc (balloc (balloc (below2 _ _ _) _) _) _) _
  have hSt : DivSt w.heap.size w wa (.slice b m d) (.slice none 0 0) (.slice a n c) y 0 x :=
    { cb := by rw [hwa]; simp [go_sem], c2 := by rw [hwa]; simp [go_sem], c3 := by rw [hwa]; simp [go_sem], cq := by rw [hwa]; simp [go_sem], cr := by rw [hwa]; simp [go_sem],
      f2 := by rw [hwa]; simp [go_sem], f3 := by rw [hwa]; simp [go_sem], fq := by rw [hwa]; simp [go_sem], fr := by rw [hwa]; simp [go_sem], sz := by rw [hwa]; simp,
      nb := (unhide HY).below hBa, nq := ⟨[], Or.inl ⟨rfl, rfl⟩, (fun d hd => by simp at hd), Or.inl rfl, rfl⟩, nr := (unhide HX).below hBa, bel := hBa }
  have hca : wa.cell? ⟨w.heap.size, 0, none⟩ = some (.slice a n c) := by rw [hwa]; simp [go_sem]
  rw [← hwa]
  clear hwa hBa
  have hS0 : wa.drew.cell? ⟨w.heap.size, 0, none⟩ = some (.slice a n c) ∧ wa.drew.cell? ⟨w.heap.size + 1, 0, none⟩ = some (.slice b m d) ∧ IsNat wa.drew (.slice a n c) x ∧ IsNat wa.drew (.slice b m d) y := ⟨hca, hSt.cb, hSt.nr, hSt.nb⟩
  have HS0 := hide hS0; have HSt := hide hSt
  have hza : w.heap.size + 1 < wa.heap.size := by have := hSt.sz; omega
  clear hS0 hSt hca
  go_region_held3 (fun w' => w'.cell? ⟨w.heap.size, 0, none⟩ = some (.slice a n c) ∧ w'.cell? ⟨w.heap.size + 1, 0, none⟩ = some (.slice b m d) ∧ IsNat w' (.slice a n c) x ∧ IsNat w' (.slice b m d) y)
    (first | exact keepTwo (by assumption) (by first | omega | (simp; omega)) (by first | omega | (simp; omega)) (by assumption) | exact unhide HS0)
    (first
      | (go_at_call_of 78 (Value.slice a n c); refine (refLen_any a n c x _ ?_).mono ?_; (exact (show _ ∧ _ ∧ IsNat _ (.slice a n c) x ∧ _ by assumption).2.2.1); rintro e w2 ⟨rfl, hb2⟩; have hz2 : w.heap.size + 1 < w2.heap.size := (by have := hb2.size; first | omega | (simp at this; omega)))
      | (go_at_call_of 78 (Value.slice b m d); refine (refLen_any b m d y _ ?_).mono ?_; (exact (show _ ∧ _ ∧ _ ∧ IsNat _ (.slice b m d) y by assumption).2.2.2); rintro e w3 ⟨rfl, hb3⟩; have hz3 : w.heap.size + 1 < w3.heap.size := (by have := hb3.size; first | omega | (simp at this; omega))))
  have HSt := hide (((unhide HSt).below (w' := wa.drew) ((Below.refl _ _).drew)).below (bthen hb2 hb3))
  go_wp2_with fail
  go_loopw [8] (fun v8 wr => ∃ (t : Int) (Qa Ra : Option Addr) (Qn Qc Rn Rc Q R : Nat), v8 = .int .i64 t ∧ -9700 ≤ t ∧ t ≤ 9700 ∧ DivTo x y Q R (t + 1).toNat ∧ DivSt w.heap.size w wr (.slice b m d) (.slice Qa Qn Qc) (.slice Ra Rn Rc) y Q R) (fun i _ => ((intOf i) + 1).toNat)
  case atStart =>
    refine ⟨(Go.bitLen x : Int) - (Go.bitLen y : Int), none, a, 0, 0, n, c, 0, x, by rw [i64_same (by omega) (by omega)], by omega, by omega, ?_, unhide HSt⟩
    rw [show ((Go.bitLen x : Int) - (Go.bitLen y : Int) + 1).toNat = Go.bitLen x + 1 - Go.bitLen y by omega]
    exact divTo_start (unhide HY0)
  case round =>
    clear HSt HS0
    obtain ⟨t, Qa, Ra, Qn, Qc, Rn, Rc, Q, R, rfl, ht1, ht2, hD, hSt⟩ := hrel
    obtain ⟨hRx, hQx⟩ := divTo_le hD (unhide HY0)
    have HD := hide hD; have HSt := hide hSt; have HRx := hide (Nat.lt_of_le_of_lt hRx (unhide HBX)); have HQx := hide (Nat.lt_of_le_of_lt hQx (unhide HBX))
    clear hD hSt hRx hQx
    by_cases hc : 0 ≤ t
    · obtain ⟨k, rfl⟩ := Int.eq_ofNat_of_zero_le hc
      rw [show ((k : Int) + 1).toNat = k + 1 by omega] at HD
      have cb := (unhide HSt).cb; have cr := (unhide HSt).cr; have cq := (unhide HSt).cq
      go_wp2_with fail
      refine (refShl_any b m d y k _ (unhide HSt).nb (Nat.le_trans ((unhide HSt).nb.short (unhide HBY)) (by omega)) (by omega)).mono ?_
      rintro e w4 ⟨s4, rfl, hN4, hb4⟩
      obtain ⟨a4, n4, c4, rfl⟩ := hN4.slice
      have HYes := hide (fun hT => divTo_yes (unhide HD) hT)
      have HNo := hide (fun hT => divTo_no (unhide HD) hT)
      generalize y * 2 ^ k = T at *
      have HN4 := hide hN4; have HSt4 := hide ((unhide HSt).below hb4)
      clear hN4 cb cr cq hb4 HSt HD
      have cr := (unhide HSt4).cr
      have hz4 := (unhide HSt4).sz
      by_cases hT : T ≤ R
      · have hcmp := cmpN_ge hT
        have HT := hide hT
        clear hT
        go_wp2_with fail
        refine (refCmp_any _ _ _ _ _ _ R T _ ((unhide HSt4).nr.alloc _) ((unhide HN4).alloc _)).mono ?_
        rintro e w5 ⟨rfl, hb5⟩
        have hBal := bthen (below1 w4 (.cells #[.slice a4 n4 c4] 45)) hb5
        have HSt5 := hide ((unhide HSt4).below hBal); have HN5 := hide ((unhide HN4).below hBal)
        have c9 : w5.cell? ⟨w4.heap.size, 0, none⟩ = some (.slice a4 n4 c4) := by rw [hb5.cell (by simp)]; simp [go_sem]
        clear cr hBal hb5
        have cr := (unhide HSt5).cr
        go_wp2_with fail
        refine (refSub_any _ _ _ _ _ _ R T _ (unhide HSt5).nr (unhide HN5) (Nat.le_trans ((unhide HSt5).nr.short (unhide HRx)) (by omega)) (unhide HT)).mono ?_
        rintro e w6 ⟨s6, rfl, hN6, hb6⟩
        obtain ⟨a6, n6, c6, rfl⟩ := hN6.slice
        have HSt6 := hide (((unhide HSt5).below hb6).setR hN6)
        have cr := ((unhide HSt5).below hb6).cr; have fr := ((unhide HSt5).below hb6).fr
        clear hN6 c9 hb6
        go_wp2_with fail
        generalize w6.setCell ⟨w.heap.size + 1 + 1 + 1 + 1 + 1, 0, none⟩ (.slice a6 n6 c6) = w7 at *
        have HStd := hide ((unhide HSt6).below (w' := w7.drew) ((Below.refl _ _).drew))
        have cq := (unhide HSt6).cq
        clear cr fr
        go_region_with (first
          | (go_at_call 43; refine (refOf_1 _).mono ?_; rintro e w8 ⟨s8, rfl, hN8, hb8⟩; obtain ⟨a8, n8, c8, rfl⟩ := hN8.slice; have H8 := hide hN8; clear hN8; have HSt8 := hide ((unhide HStd).below hb8); have cq8 := (unhide HSt8).cq)
          | (go_at_call 42; refine (refShl_any a8 n8 c8 1 k _ (unhide H8) (Nat.le_trans ((unhide H8).short (k := 1) (by rw [pw_1]; omega)) (by omega)) (by omega)).mono ?_; rintro e w9 ⟨s9, rfl, hN9, hb9⟩; obtain ⟨a9, n9, c9, rfl⟩ := hN9.slice; have H9 := hide hN9; clear hN9; have HSt9 := hide ((unhide HSt8).below hb9); have cq9 := (unhide HSt9).cq)
          | (go_at_call 40; refine (refAdd_any Qa a9 Qn Qc n9 c9 Q (1 * 2 ^ k) _ (unhide HSt9).nq (unhide H9) (Nat.le_trans ((unhide HSt9).nq.short (unhide HQx)) (by omega)) (Nat.le_trans ((unhide H9).short (pow_pw (i := 310) (by omega))) (by omega))).mono ?_; rintro e w10 ⟨s10, rfl, hN10, hb10⟩; obtain ⟨a10, n10, c10, rfl⟩ := hN10.slice; have HSt10 := hide (((unhide HSt9).below hb10).setQ hN10); have cq10 := ((unhide HSt9).below hb10).cq; have fq10 := ((unhide HSt9).below hb10).fq; clear hN10))
        all_goals
          go_wp2_with fail
          go_roundw
          case rel => exact ⟨(k : Int) - 1, a10, a6, n10, c10, n6, c6, _, _, by go_num, by omega, by omega, by rw [show ((k : Int) - 1 + 1).toNat = k by omega]; exact unhide HYes (unhide HT), unhide HSt10⟩
          case measure => simp [intOf]
      · have hcmp := cmpN_lt hT
        have HT := hide hT
        clear hT
        go_wp2_with fail
        refine (refCmp_any _ _ _ _ _ _ R T _ ((unhide HSt4).nr.alloc _) ((unhide HN4).alloc _)).mono ?_
        rintro e w5 ⟨rfl, hb5⟩
        have hBal := bthen (below1 w4 (.cells #[.slice a4 n4 c4] 45)) hb5
        have HSt5 := hide ((unhide HSt4).below hBal)
        go_wp2_with fail
        go_roundw
        case rel => exact ⟨(k : Int) - 1, Qa, Ra, Qn, Qc, Rn, Rc, Q, R, by go_num, by omega, by omega, by rw [show ((k : Int) - 1 + 1).toNat = k by omega]; exact unhide HNo (unhide HT), unhide HSt5⟩
        case measure => simp [intOf]
    · have ht : (t + 1).toNat = 0 := by omega
      have HE := hide (divTo_end (by rw [← ht]; exact unhide HD))
      clear ht
      have c2 := (unhide HSt).c2; have c3 := (unhide HSt).c3; have cq := (unhide HSt).cq; have cr := (unhide HSt).cr; have f2 := (unhide HSt).f2; have f3 := (unhide HSt).f3
      go_wp2_with fail
      go_region
      all_goals
        go_wp2
        refine bodyPost_ret (v := .tuple #[.agg #[.slice Qa Qn Qc], .agg #[.slice Ra Rn Rc]]) (by simp [results, Try.results49, go_sem, c2, c3]) rfl ⟨_, _, rfl, ?_, ?_, ?_⟩
        · rw [← (unhide HE).1]; exact store_two (unhide HSt).nq c2 c3 (by omega) _ _
        · rw [← (unhide HE).2]; exact store_two (unhide HSt).nr c2 c3 (by omega) _ _
        · exact (((unhide HSt).bel.setCell (by simp; omega) _).setCell (by simp; omega) _).drew

end Go.Proofs.Ytjlegmgpgfjciaa.W

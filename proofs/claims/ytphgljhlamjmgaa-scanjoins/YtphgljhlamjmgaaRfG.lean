/- The document's reader: limits, globals, tables: contracts. -/
import Derived.Test.YtphgljhlamjmgaaRfF
import Derived.Test.YtphgljhlamjmgaaScQ
namespace Go.Proofs.Ytphgljhlamjmgaa
open Go.RowKit

theorem rFlag_in {c : Nat} {a : Option Addr} {len cap k : Nat} {xs : List Int} {e : Int} {W : World} (h : Cs c a len cap xs k e W) :
    Calls Try.prog 36 #[.pointer (some ⟨c, 0, none⟩), .slice (some ⟨W.heap.size, 0, none⟩) 2 2, .int .i64 107] (W.alloc (.cells #[.int .u8 0, .int .u8 1] 5)) fun r W' => r = .returned (.int .u8 (lift rFlag 0 xs k e).1) ∧ Cs c a len cap xs (lift rFlag 0 xs k e).2.1 (lift rFlag 0 xs k e).2.2 W' ∧ Fr [c] W W' := rOne_lit [0, 1] 2 rfl (by omega) h (by decide)
theorem rLimits_any {c : Nat} {a : Option Addr} {len cap k : Nat} {xs : List Int} {e : Int} {W : World} (h : Cs c a len cap xs k e W) :
    Calls Try.prog 18 #[.pointer (some ⟨c, 0, none⟩)] W fun r W' => r = .returned (lmV (lift rLimits (0, 0, false) xs k e).1) ∧ Cs c a len cap xs (lift rLimits (0, 0, false) xs k e).2.1 (lift rLimits (0, 0, false) xs k e).2.2 W' ∧ Fr [c] W W' := by
  have hx := h.2.2.2.1
  have HU := fun W h => rFlag_in (c := c) (a := a) (len := len) (cap := cap) (xs := xs) (k := k) (e := e) (W := W) h
  obtain ⟨⟨b, k1, e1⟩, hU⟩ : ∃ t, lift rFlag 0 xs k e = t := ⟨_, rfl⟩
  rw [hU] at HU
  have HV := fun W h => rUint_any (c := c) (a := a) (len := len) (cap := cap) (xs := xs) (k := k1) (e := e1) (b := 32) (W := W) h (by decide) (by decide)
  have hy := liftU_lt hx k1 e1
  obtain ⟨⟨y, k2, e2⟩, hV⟩ : ∃ t, lift (rU 32) 0 xs k1 e1 = t := ⟨_, rfl⟩
  rw [hV] at HV hy
  dsimp only at HU HV hy
  by_cases hb : b = 1
  · have HX := fun W h => rUint_any (c := c) (a := a) (len := len) (cap := cap) (xs := xs) (k := k2) (e := e2) (b := 32) (W := W) h (by decide) (by decide)
    have hz := liftU_lt hx k2 e2
    obtain ⟨⟨x, k3, e3⟩, hX⟩ : ∃ t, lift (rU 32) 0 xs k2 e2 = t := ⟨_, rfl⟩
    rw [hX] at HX hz
    have hL : lift rLimits (0, 0, false) xs k e = (pk e3 (y, x, true) (0, 0, false), back e3 k3 k, e3) := by
      unfold rLimits
      refine seq_back hU (seq_back hV ?_)
      rw [if_pos hb]
      refine (seq hX (lift_giv _ (0, 0, false) _ _ _)).trans ?_
      rw [pk_pk]
    rw [hL]
    dsimp only at HX hz ⊢
    subst hb
    exact rLimits1_t (hide HU) (hide HV) (hide HX) hy.1 hy.2 hz.1 hz.2 h
  · have hL : lift rLimits (0, 0, false) xs k e = (pk e2 (y, 0, false) (0, 0, false), back e2 k2 k, e2) := by
      unfold rLimits
      refine seq_back hU ?_
      have h2 : lift (if b = 1 then bnd (0, 0, false) (rU 32) fun mx => giv (y, mx, true) else giv (y, 0, false)) (0, 0, false) xs k2 e2 = (pk e2 (y, 0, false) (0, 0, false), k2, e2) := by rw [if_neg hb]; exact lift_giv _ _ _ _ _
      refine (seq hV h2).trans ?_
      rw [pk_pk]
    rw [hL]
    exact rLimits1_f (hide HU) (hide HV) (beq_eq_false_iff_ne.2 hb) hy.1 hy.2 h
set_option maxHeartbeats 1000000 in
set_option maxRecDepth 100000 in
theorem rGlobal1_any {c : Nat} {a : Option Addr} {len cap k : Nat} {xs : List Int} {k1 k2 : Nat} {e e1 e3 y b : Int} {W : World}
    (HU : Hid (∀ W, Cs c a len cap xs k e W → Calls Try.prog 42 #[.pointer (some ⟨c, 0, none⟩)] W fun r W' => r = .returned (.int .u8 y) ∧ Cs c a len cap xs k1 e1 W' ∧ Fr [c] W W'))
    (HV : Hid (∀ W, Cs c a len cap xs k1 e1 W → Calls Try.prog 36 #[.pointer (some ⟨c, 0, none⟩), .slice (some ⟨W.heap.size, 0, none⟩) 2 2, .int .i64 107] (W.alloc (.cells #[.int .u8 0, .int .u8 1] 5)) fun r W' => r = .returned (.int .u8 b) ∧ Cs c a len cap xs k2 e3 W' ∧ Fr [c] W W')) (h : Cs c a len cap xs k e W) :
    Calls Try.prog 20 #[.pointer (some ⟨c, 0, none⟩)] W fun r W' => r = .returned (.tuple #[.int .u8 (pk e3 y 0), .bool (pk e3 (b == 1) false)]) ∧ Cs c a len cap xs (back e3 k2 k) e3 W' ∧ Fr [c] W W' := by
  have HKL := hide h.2.2.2.2.1
  have h1 := h.1.2.1
  have HU := hide (unhide HU _ h)
  clear h
  go_enter Try.func20, Try.ntmps20
  go_wp2_with fail
  refine (unhide HU).mono ?_
  rintro _ w1 ⟨rfl, hC, hF⟩
  have HV := hide (unhide HV _ hC)
  have HF := hide hF
  clear hC hF h1
  go_wp2_with fail
  refine (unhide HV).mono ?_
  rintro _ w2 ⟨rfl, hC, hF⟩
  have HF := hide ((unhide HF).trans hF)
  have H := hide hC
  have h2 := hC.1.2.2.1
  clear hC hF
  by_cases he : e3 = 0
  · subst he
    go_wp2_with fail
    go_ret2
    exact ⟨rfl, unhide H, unhide HF⟩
  · have d : (e3 != 0) = true := bne_iff_ne.2 he
    have HK := hide (rBack_any (k0 := k) (unhide H) (unhide HKL))
    have HE := hide he
    clear he
    go_wp2_with fail
    refine (unhide HK).mono ?_
    rintro _ w9 ⟨rfl, hC, hF⟩
    have HF := hide ((unhide HF).trans hF)
    have H := hide hC
    clear hC hF
    go_wp2_with fail
    go_ret2
    exact ⟨by rw [pk_e (unhide HE), pk_e (unhide HE)]; rfl, unhide H, unhide HF⟩
theorem rGlobal_any {c : Nat} {a : Option Addr} {len cap k : Nat} {xs : List Int} {e : Int} {W : World} (h : Cs c a len cap xs k e W) :
    Calls Try.prog 20 #[.pointer (some ⟨c, 0, none⟩)] W fun r W' => r = .returned (.tuple #[.int .u8 (lift rGlobal (0, false) xs k e).1.1, .bool (lift rGlobal (0, false) xs k e).1.2]) ∧ Cs c a len cap xs (lift rGlobal (0, false) xs k e).2.1 (lift rGlobal (0, false) xs k e).2.2 W' ∧ Fr [c] W W' := by
  have HU : ∀ W, Cs c a len cap xs k e W → Calls Try.prog 42 #[.pointer (some ⟨c, 0, none⟩)] W fun r W' => r = .returned (.int .u8 (lift rValue 0 xs k e).1) ∧ Cs c a len cap xs (lift rValue 0 xs k e).2.1 (lift rValue 0 xs k e).2.2 W' ∧ Fr [c] W W' := fun W h => rValue_any h
  obtain ⟨⟨y, k1, e1⟩, hU⟩ : ∃ t, lift rValue 0 xs k e = t := ⟨_, rfl⟩
  rw [hU] at HU
  have HV := fun W h => rFlag_in (c := c) (a := a) (len := len) (cap := cap) (xs := xs) (k := k1) (e := e1) (W := W) h
  obtain ⟨⟨b, k2, e2⟩, hV⟩ : ∃ t, lift rFlag 0 xs k1 e1 = t := ⟨_, rfl⟩
  rw [hV] at HV
  dsimp only at HU HV
  have hL : lift rGlobal (0, false) xs k e = (pk e2 (y, decide (b = 1)) (0, false), back e2 k2 k, e2) := by
    unfold rGlobal
    refine seq_back hU ?_
    refine (seq hV (lift_giv _ (0, false) _ _ _)).trans ?_
    rw [pk_pk]
  rw [hL]
  dsimp only
  rw [(pk_1 e2 (y, decide (b = 1)) (0, false)).1, (pk_1 e2 (y, decide (b = 1)) (0, false)).2]
  exact rGlobal1_any (hide HU) (hide HV) h
set_option maxHeartbeats 1000000 in
set_option maxRecDepth 100000 in
theorem rTable1_any {c : Nat} {a : Option Addr} {len cap k : Nat} {xs : List Int} {k1 k2 : Nat} {e e1 e3 b : Int} {t : Lm} {W : World}
    (HU : Hid (∀ W, Cs c a len cap xs k e W → Calls Try.prog 36 #[.pointer (some ⟨c, 0, none⟩), .slice (some ⟨W.heap.size, 0, none⟩) 1 1, .int .i64 106] (W.alloc (.cells #[.int .u8 112] 5)) fun r W' => r = .returned (.int .u8 b) ∧ Cs c a len cap xs k1 e1 W' ∧ Fr [c] W W'))
    (HV : Hid (∀ W, Cs c a len cap xs k1 e1 W → Calls Try.prog 18 #[.pointer (some ⟨c, 0, none⟩)] W fun r W' => r = .returned (lmV t) ∧ Cs c a len cap xs k2 e3 W' ∧ Fr [c] W W')) (h : Cs c a len cap xs k e W) :
    Calls Try.prog 22 #[.pointer (some ⟨c, 0, none⟩)] W fun r W' => r = .returned (lmV t) ∧ Cs c a len cap xs (back e3 k2 k) e3 W' ∧ Fr [c] W W' := by
  have hcl := h.1.lt
  have HKL := hide h.2.2.2.2.1
  have HR : Hid (Room W.heap.size 3 (W.alloc (.cells #[.int .u32 0, .int .u32 0, .bool false] 55))) := hide (room_cells W 3 (by decide))
  have H0 := hide h
  have H := hide (h.alloc (.cells #[.int .u32 0, .int .u32 0, .bool false] 55))
  have HF := hide ((Fr.refl [c] W).alloc (.cells #[.int .u32 0, .int .u32 0, .bool false] 55))
  have h1 := (unhide H).1.2.1
  have HU := hide (unhide HU _ (unhide H))
  rw [show (W.alloc (.cells #[.int .u32 0, .int .u32 0, .bool false] 55)).heap.size = W.heap.size + 1 by simp] at HU
  obtain ⟨y, x, q⟩ := t
  unfold lmV at HV ⊢
  dsimp only at HV ⊢
  clear h
  go_enter Try.func22, Try.ntmps22
  go_wp2_with fail
  refine (unhide HU).mono ?_
  rintro _ w1 ⟨rfl, hC, hF⟩
  have HR := hide ((unhide HR).fr hF (by simp; omega))
  have H := hide hC
  have HF := hide ((unhide HF).trans hF)
  clear hC hF h1
  go_wp2_with fail
  refine (unhide HV _ (unhide H)).mono ?_
  rintro _ w2 ⟨rfl, hC, hF⟩
  have HR := hide ((unhide HR).fr hF (by simp; omega))
  have H := hide hC
  have HF := hide ((unhide HF).trans hF)
  clear hC hF
  have hz2 : W.heap.size < w2.heap.size := by obtain ⟨⟨v, hv⟩, -⟩ := unhide HR 0 (by decide); exact World.block_lt_of_cell? w2 _ hv
  have HA : Hid (At3 w2.heap.size (.int .u32 y) (.int .u32 x) (.bool q) (w2.alloc (.cells #[.int .u32 y, .int .u32 x, .bool q] 55))) := hide (by unfold At3; simp [go_sem])
  have HR := hide ((unhide HR).alloc (.cells #[.int .u32 y, .int .u32 x, .bool q] 55))
  have HF := hide ((unhide HF).alloc (.cells #[.int .u32 y, .int .u32 x, .bool q] 55))
  have H := hide ((unhide H).alloc (.cells #[.int .u32 y, .int .u32 x, .bool q] 55))
  have HK := hide (rBack_any (k0 := k) (unhide H) (unhide HKL))
  go_wp2_with fail
  refine (unhide HK).mono ?_
  rintro _ w9 ⟨rfl, hC, hF⟩
  have HA := hide ((unhide HA).fr hF (by simp; omega))
  have HR := hide ((unhide HR).fr hF (by simp; omega))
  have HF := hide ((unhide HF).trans hF)
  have H := hide hC
  clear hC hF
  obtain ⟨c0, c1, c2⟩ := unhide HA
  obtain ⟨⟨u0, r0⟩, g0⟩ := unhide HR 0 (by decide)
  obtain ⟨⟨u1, r1⟩, g1⟩ := unhide HR 1 (by decide)
  obtain ⟨⟨u2, r2⟩, g2⟩ := unhide HR 2 (by decide)
  go_wp2_with fail
  obtain ⟨j0, j1, j2⟩ := (unhide HR).at3 (.int .u32 y) (.int .u32 x) (.bool q)
  exact bodyPost_ret (v := .agg #[.int .u32 y, .int .u32 x, .bool q]) (by simp [results, Try.results22, go_sem, j0, j1, j2]) rfl ⟨rfl, (unhide H).new (unhide H0) ((Fr.refl [W.heap.size] _).set3 (Or.inl (by simp)) _ _ _) (by simp), (unhide HF).set3 (Or.inr (Nat.le_refl _)) _ _ _⟩
theorem rTable_any {c : Nat} {a : Option Addr} {len cap k : Nat} {xs : List Int} {e : Int} {W : World} (h : Cs c a len cap xs k e W) :
    Calls Try.prog 22 #[.pointer (some ⟨c, 0, none⟩)] W fun r W' => r = .returned (lmV (lift rTable (0, 0, false) xs k e).1) ∧ Cs c a len cap xs (lift rTable (0, 0, false) xs k e).2.1 (lift rTable (0, 0, false) xs k e).2.2 W' ∧ Fr [c] W W' := by
  have HU : ∀ W, Cs c a len cap xs k e W → Calls Try.prog 36 #[.pointer (some ⟨c, 0, none⟩), .slice (some ⟨W.heap.size, 0, none⟩) 1 1, .int .i64 106] (W.alloc (.cells #[.int .u8 112] 5)) fun r W' => r = .returned (.int .u8 (lift (rOne [112] 106) 0 xs k e).1) ∧ Cs c a len cap xs (lift (rOne [112] 106) 0 xs k e).2.1 (lift (rOne [112] 106) 0 xs k e).2.2 W' ∧ Fr [c] W W' := fun W h => rOne_lit [112] 1 rfl (by omega) h (by decide)
  obtain ⟨⟨b, k1, e1⟩, hU⟩ : ∃ t, lift (rOne [112] 106) 0 xs k e = t := ⟨_, rfl⟩
  rw [hU] at HU
  have HV := fun W h => rLimits_any (c := c) (a := a) (len := len) (cap := cap) (xs := xs) (k := k1) (e := e1) (W := W) h
  have hn := gd_Limits.nrmL xs k1 e1
  obtain ⟨⟨t, k2, e2⟩, hV⟩ : ∃ t, lift rLimits (0, 0, false) xs k1 e1 = t := ⟨_, rfl⟩
  rw [hV] at HV hn
  dsimp only at HU HV hn
  have hL : lift rTable (0, 0, false) xs k e = (t, back e2 k2 k, e2) := by
    unfold rTable
    refine (seq hU hV).trans ?_
    by_cases he : e2 = 0
    · rw [he, pk_0]
    · rw [pk_e he]
      have := hn he
      injection this with h1 h2
      rw [h1]
  rw [hL]
  exact rTable1_any (hide HU) (hide HV) h
end Go.Proofs.Ytphgljhlamjmgaa

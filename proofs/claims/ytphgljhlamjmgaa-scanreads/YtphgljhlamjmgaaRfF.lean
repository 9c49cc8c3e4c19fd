/- The document's reader: limits, globals, tables. -/
import Derived.Test.YtphgljhlamjmgaaRfB
import Derived.Test.YtphgljhlamjmgaaRfE
import Derived.Test.YtphgljhlamjmgaaScP
namespace Go.Proofs.Ytphgljhlamjmgaa
open Go.RowKit

set_option maxHeartbeats 1000000 in
set_option maxRecDepth 100000 in
theorem rLimits1_t {c : Nat} {a : Option Addr} {len cap k : Nat} {xs : List Int} {k1 k2 k3 : Nat} {e e1 e2 e3 y x : Int} {W : World}
    (HU : Hid (∀ W, Cs c a len cap xs k e W → Calls Try.prog 36 #[.pointer (some ⟨c, 0, none⟩), .slice (some ⟨W.heap.size, 0, none⟩) 2 2, .int .i64 107] (W.alloc (.cells #[.int .u8 0, .int .u8 1] 5)) fun r W' => r = .returned (.int .u8 1) ∧ Cs c a len cap xs k1 e1 W' ∧ Fr [c] W W'))
    (HV : Hid (∀ W, Cs c a len cap xs k1 e1 W → Calls Try.prog 37 #[.pointer (some ⟨c, 0, none⟩), .int .i64 32] W fun r W' => r = .returned (.int .u64 y) ∧ Cs c a len cap xs k2 e2 W' ∧ Fr [c] W W'))
    (HX : Hid (∀ W, Cs c a len cap xs k2 e2 W → Calls Try.prog 37 #[.pointer (some ⟨c, 0, none⟩), .int .i64 32] W fun r W' => r = .returned (.int .u64 x) ∧ Cs c a len cap xs k3 e3 W' ∧ Fr [c] W W'))
    (y0 : 0 ≤ y) (y1 : y < 4294967296) (x0 : 0 ≤ x) (x1 : x < 4294967296) (h : Cs c a len cap xs k e W) :
    Calls Try.prog 18 #[.pointer (some ⟨c, 0, none⟩)] W fun r W' => r = .returned (lmV (pk e3 (y, x, true) (0, 0, false))) ∧ Cs c a len cap xs (back e3 k3 k) e3 W' ∧ Fr [c] W W' := by
  have hcl := h.1.lt
  have HKL := hide h.2.2.2.2.1
  have HR : Hid (Room W.heap.size 3 (W.alloc (.cells #[.int .u32 0, .int .u32 0, .bool false] 55))) := hide (room_cells W 3 (by decide))
  have H0 := hide h
  have H := hide (h.alloc (.cells #[.int .u32 0, .int .u32 0, .bool false] 55))
  have HF := hide ((Fr.refl [c] W).alloc (.cells #[.int .u32 0, .int .u32 0, .bool false] 55))
  have h1 := (unhide H).1.2.1
  have HU := hide (unhide HU _ (unhide H))
  rw [show (W.alloc (.cells #[.int .u32 0, .int .u32 0, .bool false] 55)).heap.size = W.heap.size + 1 by simp] at HU
  clear h
  go_enter Try.func18, Try.ntmps18
  go_wp2_with fail
  refine (unhide HU).mono ?_
  rintro _ w1 ⟨rfl, hC, hF⟩
  have HR := hide ((unhide HR).fr hF (by simp; omega))
  have H := hide hC
  have HF := hide ((unhide HF).trans hF)
  clear hC hF h1
  go_wp2_with fail
  refine (unhide HV _ (unhide H)).mono ?_
  rintro _ w2 ⟨rfl, hC, hF⟩
  have HR := hide ((unhide HR).fr hF (by simp; omega))
  have H := hide hC
  have HF := hide ((unhide HF).trans hF)
  clear hC hF
  have hz2 : W.heap.size < w2.heap.size := by obtain ⟨⟨v, hv⟩, -⟩ := unhide HR 0 (by decide); exact World.block_lt_of_cell? w2 _ hv
  have HA : Hid (At3 w2.heap.size (.int .u32 y) (.int .u32 0) (.bool true) (w2.alloc (.cells #[.int .u32 y, .int .u32 0, .bool true] 55))) := hide (by unfold At3; simp [go_sem])
  have HRm : Hid (Room w2.heap.size 3 (w2.alloc (.cells #[.int .u32 y, .int .u32 0, .bool true] 55))) := hide (room_cells (cs := [.int .u32 y, .int .u32 0, .bool true]) w2 3 (by simp))
  have HR := hide ((unhide HR).alloc (.cells #[.int .u32 y, .int .u32 0, .bool true] 55))
  have HF := hide ((unhide HF).alloc (.cells #[.int .u32 y, .int .u32 0, .bool true] 55))
  have H := hide ((unhide H).alloc (.cells #[.int .u32 y, .int .u32 0, .bool true] 55))
  go_wp2_with fail
  refine (unhide HX _ (unhide H)).mono ?_
  rintro _ w3 ⟨rfl, hC, hF⟩
  have HA := hide ((unhide HA).fr hF (by simp; omega))
  have HRm := hide ((unhide HRm).fr hF (by simp; omega))
  have HR := hide ((unhide HR).fr hF (by simp; omega))
  have H := hide hC
  have HF := hide ((unhide HF).trans hF)
  clear hC hF
  obtain ⟨a0, a1, a2⟩ := unhide HA
  obtain ⟨-, t1⟩ := unhide HRm 1 (by decide)
  have HA : Hid (At3 w2.heap.size (.int .u32 y) (.int .u32 x) (.bool true) (w3.setCell ⟨w2.heap.size, 1, none⟩ (.int .u32 x))) := hide ⟨cell_set_off (by decide) a0, cell_set_same a1, cell_set_off (by decide) a2⟩
  have HR := hide ((unhide HR).fr (l := [w2.heap.size]) ((Fr.refl _ _).set (b := w2.heap.size) 1 (Or.inl (by simp)) (.int .u32 x)) (by simp; omega))
  have H := hide ((unhide H).new (l := [w2.heap.size]) (unhide H0) ((Fr.refl _ _).set (b := w2.heap.size) 1 (Or.inl (by simp)) (.int .u32 x)) (by simp; omega))
  have HF := hide ((unhide HF).set (b := w2.heap.size) 1 (Or.inr (by omega)) (.int .u32 x))
  have h2 := (unhide H).1.2.2.1
  by_cases he : e3 = 0
  · subst he
    obtain ⟨c0, c1, c2⟩ := unhide HA
    obtain ⟨⟨u0, r0⟩, g0⟩ := unhide HR 0 (by decide)
    obtain ⟨⟨u1, r1⟩, g1⟩ := unhide HR 1 (by decide)
    obtain ⟨⟨u2, r2⟩, g2⟩ := unhide HR 2 (by decide)
    go_wp2_with fail
    obtain ⟨j0, j1, j2⟩ := (unhide HR).at3 (.int .u32 y) (.int .u32 x) (.bool true)
    exact bodyPost_ret (v := .agg #[.int .u32 y, .int .u32 x, .bool true]) (by simp [results, Try.results18, go_sem, j0, j1, j2]) rfl ⟨rfl, (unhide H).new (unhide H0) ((Fr.refl [W.heap.size] _).set3 (Or.inl (by simp)) _ _ _) (by simp), (unhide HF).set3 (Or.inr (Nat.le_refl _)) _ _ _⟩
  · have d : (e3 != 0) = true := bne_iff_ne.2 he
    have HK := hide (rBack_any (k0 := k) (unhide H) (unhide HKL))
    have HE := hide he
    clear he
    go_wp2_with fail
    refine (unhide HK).mono ?_
    rintro _ w9 ⟨rfl, hC, hF⟩
    have HR := hide ((unhide HR).fr hF (by simp; omega))
    have HF := hide ((unhide HF).trans hF)
    have H := hide hC
    clear hC hF
    obtain ⟨⟨u0, r0⟩, g0⟩ := unhide HR 0 (by decide)
    obtain ⟨⟨u1, r1⟩, g1⟩ := unhide HR 1 (by decide)
    obtain ⟨⟨u2, r2⟩, g2⟩ := unhide HR 2 (by decide)
    go_wp2_with fail
    obtain ⟨j0, j1, j2⟩ := (unhide HR).at3 (.int .u32 0) (.int .u32 0) (.bool false)
    exact bodyPost_ret (v := .agg #[.int .u32 0, .int .u32 0, .bool false]) (by simp [results, Try.results18, go_sem, j0, j1, j2]) rfl ⟨by rw [pk_e (unhide HE)]; rfl, (unhide H).new (unhide H0) ((Fr.refl [W.heap.size] _).set3 (Or.inl (by simp)) _ _ _) (by simp), (unhide HF).set3 (Or.inr (Nat.le_refl _)) _ _ _⟩
set_option maxHeartbeats 1000000 in
set_option maxRecDepth 100000 in
theorem rLimits1_f {c : Nat} {a : Option Addr} {len cap k : Nat} {xs : List Int} {k1 k2 : Nat} {e e1 e3 y b : Int} {W : World}
    (HU : Hid (∀ W, Cs c a len cap xs k e W → Calls Try.prog 36 #[.pointer (some ⟨c, 0, none⟩), .slice (some ⟨W.heap.size, 0, none⟩) 2 2, .int .i64 107] (W.alloc (.cells #[.int .u8 0, .int .u8 1] 5)) fun r W' => r = .returned (.int .u8 b) ∧ Cs c a len cap xs k1 e1 W' ∧ Fr [c] W W'))
    (HV : Hid (∀ W, Cs c a len cap xs k1 e1 W → Calls Try.prog 37 #[.pointer (some ⟨c, 0, none⟩), .int .i64 32] W fun r W' => r = .returned (.int .u64 y) ∧ Cs c a len cap xs k2 e3 W' ∧ Fr [c] W W'))
    (hb : (b == 1) = false)
    (y0 : 0 ≤ y) (y1 : y < 4294967296) (h : Cs c a len cap xs k e W) :
    Calls Try.prog 18 #[.pointer (some ⟨c, 0, none⟩)] W fun r W' => r = .returned (lmV (pk e3 (y, 0, false) (0, 0, false))) ∧ Cs c a len cap xs (back e3 k2 k) e3 W' ∧ Fr [c] W W' := by
  have hcl := h.1.lt
  have HKL := hide h.2.2.2.2.1
  have HR : Hid (Room W.heap.size 3 (W.alloc (.cells #[.int .u32 0, .int .u32 0, .bool false] 55))) := hide (room_cells W 3 (by decide))
  have H0 := hide h
  have H := hide (h.alloc (.cells #[.int .u32 0, .int .u32 0, .bool false] 55))
  have HF := hide ((Fr.refl [c] W).alloc (.cells #[.int .u32 0, .int .u32 0, .bool false] 55))
  have h1 := (unhide H).1.2.1
  have HU := hide (unhide HU _ (unhide H))
  rw [show (W.alloc (.cells #[.int .u32 0, .int .u32 0, .bool false] 55)).heap.size = W.heap.size + 1 by simp] at HU
  clear h
  go_enter Try.func18, Try.ntmps18
  go_wp2_with fail
  refine (unhide HU).mono ?_
  rintro _ w1 ⟨rfl, hC, hF⟩
  have HR := hide ((unhide HR).fr hF (by simp; omega))
  have H := hide hC
  have HF := hide ((unhide HF).trans hF)
  clear hC hF h1
  go_wp2_with fail
  refine (unhide HV _ (unhide H)).mono ?_
  rintro _ w2 ⟨rfl, hC, hF⟩
  have HR := hide ((unhide HR).fr hF (by simp; omega))
  have H := hide hC
  have HF := hide ((unhide HF).trans hF)
  clear hC hF
  have hz2 : W.heap.size < w2.heap.size := by obtain ⟨⟨v, hv⟩, -⟩ := unhide HR 0 (by decide); exact World.block_lt_of_cell? w2 _ hv
  have HA : Hid (At3 w2.heap.size (.int .u32 y) (.int .u32 0) (.bool false) (w2.alloc (.cells #[.int .u32 y, .int .u32 0, .bool false] 55))) := hide (by unfold At3; simp [go_sem])
  have HRm : Hid (Room w2.heap.size 3 (w2.alloc (.cells #[.int .u32 y, .int .u32 0, .bool false] 55))) := hide (room_cells (cs := [.int .u32 y, .int .u32 0, .bool false]) w2 3 (by simp))
  have HRw := HR
  have HFw := HF
  have Hw := H
  have HR := hide ((unhide HR).alloc (.cells #[.int .u32 y, .int .u32 0, .bool false] 55))
  have HF := hide ((unhide HF).alloc (.cells #[.int .u32 y, .int .u32 0, .bool false] 55))
  have H := hide ((unhide H).alloc (.cells #[.int .u32 y, .int .u32 0, .bool false] 55))
  have h2 := (unhide H).1.2.2.1
  by_cases he : e3 = 0
  · subst he
    obtain ⟨c0, c1, c2⟩ := unhide HA
    obtain ⟨⟨u0, r0⟩, g0⟩ := unhide HRw 0 (by decide)
    obtain ⟨⟨u1, r1⟩, g1⟩ := unhide HRw 1 (by decide)
    obtain ⟨⟨u2, r2⟩, g2⟩ := unhide HRw 2 (by decide)
    go_wp2_with fail
    obtain ⟨j0, j1, j2⟩ := ((unhide HRw).at3 (.int .u32 y) (.int .u32 0) (.bool false)).fr (Fr.of (below1 _ (.cells #[.int .u32 y, .int .u32 0, .bool false] 55)) []) (by simp)
    exact bodyPost_ret (v := .agg #[.int .u32 y, .int .u32 0, .bool false]) (by simp [results, Try.results18, go_sem, j0, j1, j2]) rfl ⟨rfl, ((unhide Hw).new (unhide H0) ((Fr.refl [W.heap.size] _).set3 (Or.inl (by simp)) _ _ _) (by simp)).alloc _, ((unhide HFw).set3 (Or.inr (Nat.le_refl _)) _ _ _).alloc _⟩
  · have d : (e3 != 0) = true := bne_iff_ne.2 he
    have HK := hide (rBack_any (k0 := k) (unhide H) (unhide HKL))
    have HE := hide he
    clear he
    go_wp2_with fail
    refine (unhide HK).mono ?_
    rintro _ w9 ⟨rfl, hC, hF⟩
    have HR := hide ((unhide HR).fr hF (by simp; omega))
    have HF := hide ((unhide HF).trans hF)
    have H := hide hC
    clear hC hF
    obtain ⟨⟨u0, r0⟩, g0⟩ := unhide HR 0 (by decide)
    obtain ⟨⟨u1, r1⟩, g1⟩ := unhide HR 1 (by decide)
    obtain ⟨⟨u2, r2⟩, g2⟩ := unhide HR 2 (by decide)
    go_wp2_with fail
    obtain ⟨j0, j1, j2⟩ := (unhide HR).at3 (.int .u32 0) (.int .u32 0) (.bool false)
    exact bodyPost_ret (v := .agg #[.int .u32 0, .int .u32 0, .bool false]) (by simp [results, Try.results18, go_sem, j0, j1, j2]) rfl ⟨by rw [pk_e (unhide HE)]; rfl, (unhide H).new (unhide H0) ((Fr.refl [W.heap.size] _).set3 (Or.inl (by simp)) _ _ _) (by simp), (unhide HF).set3 (Or.inr (Nat.le_refl _)) _ _ _⟩
end Go.Proofs.Ytphgljhlamjmgaa

/- ScP. -/
import Derived.Test.YtjoonmpjcophnaaGreatDoorUa24
import Derived.Test.YtjoonmpjcophnaaGreatDoorUa29
import Derived.Test.YtjoonmpjcophnaaGreatDoorUa30
namespace Go.Proofs.YtjoonmpjcophnaaGreatDoor
open Go.RowKit

set_option maxHeartbeats 1000000 in
set_option maxRecDepth 100000 in
theorem limits1_t {c : Nat} {a : Option Addr} {len cap k : Nat} {xs : List Int} {q k1 k2 k3 : Nat} {e1 e2 e3 x y : Int} {W : World}
    (HU : Hid (∀ W, Cs c a len cap xs k 0 W → Calls Tryz.prog 144 #[.pointer (some ⟨c, 0, none⟩)] W fun r W' => r = .returned (.bool true) ∧ Cs c a len cap xs k1 e1 W' ∧ Fr [c] W W'))
    (HV : Hid (∀ W, Cs c a len cap xs k1 e1 W → Calls Tryz.prog 38 #[.pointer (some ⟨c, 0, none⟩)] W fun r W' => r = .returned (.int .u32 y) ∧ Cs c a len cap xs k2 e2 W' ∧ Fr [c] W W'))
    (HX : Hid (∀ W, Cs c a len cap xs k2 e2 W → Calls Tryz.prog 38 #[.pointer (some ⟨c, 0, none⟩)] W fun r W' => r = .returned (.int .u32 x) ∧ Cs c a len cap xs k3 e3 W' ∧ Fr [c] W W'))
    (n0 : q ≠ c) (h : Cs c a len cap xs k 0 W) (hB : Bx q (.pointer (some ⟨c, 0, none⟩)) W) :
    Calls Tryz.prog 143 #[.pointer (some ⟨q, 0, none⟩)] W fun r W' => r = .returned (.agg #[.int .u32 y, .int .u32 x, .bool true]) ∧ Cs c a len cap xs k3 e3 W' ∧ Fr [c] W W' := by
  have hcl := h.1.lt
  have HR : Hid (Room W.heap.size 3 (W.alloc (.cells #[.int .u32 0, .int .u32 0, .bool false] 99))) := hide (room_cells W 3 (by decide))
  have H0 := hide h
  have H := hide (h.alloc (.cells #[.int .u32 0, .int .u32 0, .bool false] 99))
  have HF := hide ((Fr.refl [c] W).alloc (.cells #[.int .u32 0, .int .u32 0, .bool false] 99))
  have HB := hide (Bx.bel hB (below1 W (.cells #[.int .u32 0, .int .u32 0, .bool false] 99)))
  have HN := hide n0
  have hb1 := unhide HB
  unfold Bx at hb1
  clear h hB n0
  go_enter Tryz.func143, Tryz.ntmps143
  go_wp2_with fail
  refine (unhide HU _ (unhide H)).mono ?_
  rintro _ w1 ⟨rfl, hC, hF⟩
  have HB := hide ((unhide HB).fr hF (by simpa using unhide HN))
  have HR := hide ((unhide HR).fr hF (by simp; omega))
  have H := hide hC
  have HF := hide ((unhide HF).trans hF)
  have hb1 := unhide HB
  unfold Bx at hb1
  clear hC hF
  go_wp2_with fail
  refine (unhide HV _ (unhide H)).mono ?_
  rintro _ w2 ⟨rfl, hC, hF⟩
  have HB := hide ((unhide HB).fr hF (by simpa using unhide HN))
  have HR := hide ((unhide HR).fr hF (by simp; omega))
  have H := hide hC
  have HF := hide ((unhide HF).trans hF)
  have hb1 := unhide HB
  unfold Bx at hb1
  clear hC hF
  have hz2 : W.heap.size < w2.heap.size := by obtain ⟨⟨v, hv⟩, -⟩ := unhide HR 0 (by decide); exact World.block_lt_of_cell? w2 _ hv
  have HA : Hid (At3 w2.heap.size (.int .u32 y) (.int .u32 0) (.bool true) (w2.alloc (.cells #[.int .u32 y, .int .u32 0, .bool true] 99))) := hide (by unfold At3; simp [go_sem])
  have HRm : Hid (Room w2.heap.size 3 (w2.alloc (.cells #[.int .u32 y, .int .u32 0, .bool true] 99))) := hide (room_cells (cs := [.int .u32 y, .int .u32 0, .bool true]) w2 3 (by simp))
  have HB := hide ((unhide HB).bel (below1 w2 (.cells #[.int .u32 y, .int .u32 0, .bool true] 99)))
  have HR := hide ((unhide HR).alloc (.cells #[.int .u32 y, .int .u32 0, .bool true] 99))
  have HF := hide ((unhide HF).alloc (.cells #[.int .u32 y, .int .u32 0, .bool true] 99))
  have H := hide ((unhide H).alloc (.cells #[.int .u32 y, .int .u32 0, .bool true] 99))
  have hb1 := unhide HB
  unfold Bx at hb1
  go_wp2_with fail
  refine (unhide HX _ (unhide H)).mono ?_
  rintro _ w3 ⟨rfl, hC, hF⟩
  have HA := hide ((unhide HA).fr hF (by simp; omega))
  have HRm := hide ((unhide HRm).fr hF (by simp; omega))
  have HB := hide ((unhide HB).fr hF (by simpa using unhide HN))
  have HR := hide ((unhide HR).fr hF (by simp; omega))
  have H := hide hC
  have HF := hide ((unhide HF).trans hF)
  have hb1 := unhide HB
  unfold Bx at hb1
  clear hC hF
  obtain ⟨a0, a1, a2⟩ := unhide HA
  obtain ⟨-, t1⟩ := unhide HRm 1 (by decide)
  obtain ⟨⟨u0, r0⟩, g0⟩ := unhide HR 0 (by decide)
  obtain ⟨⟨u1, r1⟩, g1⟩ := unhide HR 1 (by decide)
  obtain ⟨⟨u2, r2⟩, g2⟩ := unhide HR 2 (by decide)
  have c0 : (w3.setCell ⟨w2.heap.size, 1, none⟩ (.int .u32 x)).cell? ⟨w2.heap.size, 0, none⟩ = some (.int .u32 y) := cell_set_off (by decide) a0
  have c1 : (w3.setCell ⟨w2.heap.size, 1, none⟩ (.int .u32 x)).cell? ⟨w2.heap.size, 1, none⟩ = some (.int .u32 x) := cell_set_same a1
  have c2 : (w3.setCell ⟨w2.heap.size, 1, none⟩ (.int .u32 x)).cell? ⟨w2.heap.size, 2, none⟩ = some (.bool true) := cell_set_off (by decide) a2
  clear HA HRm
  go_wp2_with fail
  have HR := hide ((unhide HR).fr (l := [w2.heap.size]) ((Fr.refl _ _).set (b := w2.heap.size) 1 (Or.inl (by simp)) (.int .u32 x)) (by simp; omega))
  have H := hide ((unhide H).new (l := [w2.heap.size]) (unhide H0) ((Fr.refl _ _).set (b := w2.heap.size) 1 (Or.inl (by simp)) (.int .u32 x)) (by simp; omega))
  have HF := hide ((unhide HF).set (b := w2.heap.size) 1 (Or.inr (by omega)) (.int .u32 x))
  generalize w3.setCell ⟨w2.heap.size, 1, none⟩ (.int .u32 x) = w4 at *
  obtain ⟨j0, j1, j2⟩ := (unhide HR).at3 (.int .u32 y) (.int .u32 x) (.bool true)
  exact bodyPost_ret (v := .agg #[.int .u32 y, .int .u32 x, .bool true]) (by simp [results, Tryz.results143, go_sem, j0, j1, j2]) rfl ⟨rfl, (unhide H).new (unhide H0) ((Fr.refl [W.heap.size] _).set3 (Or.inl (by simp)) _ _ _) (by simp), (unhide HF).set3 (Or.inr (Nat.le_refl _)) _ _ _⟩
set_option maxHeartbeats 1000000 in
set_option maxRecDepth 100000 in
theorem limits1_f {c : Nat} {a : Option Addr} {len cap k : Nat} {xs : List Int} {q k1 k2 : Nat} {e1 e2 y : Int} {W : World}
    (HU : Hid (∀ W, Cs c a len cap xs k 0 W → Calls Tryz.prog 144 #[.pointer (some ⟨c, 0, none⟩)] W fun r W' => r = .returned (.bool false) ∧ Cs c a len cap xs k1 e1 W' ∧ Fr [c] W W'))
    (HV : Hid (∀ W, Cs c a len cap xs k1 e1 W → Calls Tryz.prog 38 #[.pointer (some ⟨c, 0, none⟩)] W fun r W' => r = .returned (.int .u32 y) ∧ Cs c a len cap xs k2 e2 W' ∧ Fr [c] W W'))
    (n0 : q ≠ c) (h : Cs c a len cap xs k 0 W) (hB : Bx q (.pointer (some ⟨c, 0, none⟩)) W) :
    Calls Tryz.prog 143 #[.pointer (some ⟨q, 0, none⟩)] W fun r W' => r = .returned (.agg #[.int .u32 y, .int .u32 0, .bool false]) ∧ Cs c a len cap xs k2 e2 W' ∧ Fr [c] W W' := by
  have hcl := h.1.lt
  have HR : Hid (Room W.heap.size 3 (W.alloc (.cells #[.int .u32 0, .int .u32 0, .bool false] 99))) := hide (room_cells W 3 (by decide))
  have H0 := hide h
  have H := hide (h.alloc (.cells #[.int .u32 0, .int .u32 0, .bool false] 99))
  have HF := hide ((Fr.refl [c] W).alloc (.cells #[.int .u32 0, .int .u32 0, .bool false] 99))
  have HB := hide (Bx.bel hB (below1 W (.cells #[.int .u32 0, .int .u32 0, .bool false] 99)))
  have HN := hide n0
  have hb1 := unhide HB
  unfold Bx at hb1
  clear h hB n0
  go_enter Tryz.func143, Tryz.ntmps143
  go_wp2_with fail
  refine (unhide HU _ (unhide H)).mono ?_
  rintro _ w1 ⟨rfl, hC, hF⟩
  have HB := hide ((unhide HB).fr hF (by simpa using unhide HN))
  have HR := hide ((unhide HR).fr hF (by simp; omega))
  have H := hide hC
  have HF := hide ((unhide HF).trans hF)
  have hb1 := unhide HB
  unfold Bx at hb1
  clear hC hF
  go_wp2_with fail
  refine (unhide HV _ (unhide H)).mono ?_
  rintro _ w2 ⟨rfl, hC, hF⟩
  have HB := hide ((unhide HB).fr hF (by simpa using unhide HN))
  have HR := hide ((unhide HR).fr hF (by simp; omega))
  have H := hide hC
  have HF := hide ((unhide HF).trans hF)
  have hb1 := unhide HB
  unfold Bx at hb1
  clear hC hF
  have HR := hide ((unhide HR).alloc (.cells #[.int .u32 y, .int .u32 0, .bool false] 99))
  obtain ⟨⟨u0, r0⟩, g0⟩ := unhide HR 0 (by decide)
  obtain ⟨⟨u1, r1⟩, g1⟩ := unhide HR 1 (by decide)
  obtain ⟨⟨u2, r2⟩, g2⟩ := unhide HR 2 (by decide)
  go_wp2_with fail
  have H := hide ((unhide H).alloc (.cells #[.int .u32 y, .int .u32 0, .bool false] 99))
  have HF := hide ((unhide HF).alloc (.cells #[.int .u32 y, .int .u32 0, .bool false] 99))
  obtain ⟨j0, j1, j2⟩ := (unhide HR).at3 (.int .u32 y) (.int .u32 0) (.bool false)
  exact bodyPost_ret (v := .agg #[.int .u32 y, .int .u32 0, .bool false]) (by simp [results, Tryz.results143, go_sem, j0, j1, j2]) rfl ⟨rfl, (unhide H).new (unhide H0) ((Fr.refl [W.heap.size] _).set3 (Or.inl (by simp)) _ _ _) (by simp), (unhide HF).set3 (Or.inr (Nat.le_refl _)) _ _ _⟩
theorem ap_flag {c : Nat} {a : Option Addr} {len cap k : Nat} {xs : List Int} {e : Int} {W : World} (h : Cs c a len cap xs k e W) :
    Calls Tryz.prog 144 #[.pointer (some ⟨c, 0, none⟩)] W fun r W' => r = .returned (.bool (decide ((lift rFlag 0 xs k e).1 = 1))) ∧ Cs c a len cap xs (lift rFlag 0 xs k e).2.1 (lift rFlag 0 xs k e).2.2 W' ∧ Fr [c] W W' := flag_any h
def lmV (t : Lm) : Value := .agg #[.int .u32 t.1, .int .u32 t.2.1, .bool t.2.2]
def glV (t : Int × Bool) : Value := .agg #[.int .u8 t.1, .bool t.2]
theorem lmV_pk (e : Int) (t : Lm) : pk e (lmV t) (lmV (0, 0, false)) = lmV (pk e t (0, 0, false)) := by
  unfold pk; split <;> rfl
theorem glV_pk (e : Int) (t : Int × Bool) : pk e (glV t) (glV (0, false)) = glV (pk e t (0, false)) := by
  unfold pk; split <;> rfl
theorem limits_any {c : Nat} {a : Option Addr} {len cap k : Nat} {xs : List Int} {e : Int} {W : World} (h : Cs c a len cap xs k e W) :
    Calls Tryz.prog 112 #[.pointer (some ⟨c, 0, none⟩)] W fun r W' => r = .returned (lmV (lift rLimits (0, 0, false) xs k e).1) ∧ Cs c a len cap xs (lift rLimits (0, 0, false) xs k e).2.1 (lift rLimits (0, 0, false) xs k e).2.2 W' ∧ Fr [c] W W' := by
  by_cases he : e = 0
  · subst he
    have HU := fun W h => ap_flag (c := c) (a := a) (len := len) (cap := cap) (xs := xs) (k := k) (e := 0) (W := W) h
    obtain ⟨⟨b, k1, e1⟩, hU⟩ : ∃ t, lift rFlag 0 xs k 0 = t := ⟨_, rfl⟩
    rw [hU] at HU
    have HV := fun W h => u32_any (c := c) (a := a) (len := len) (cap := cap) (xs := xs) (k := k1) (e := e1) (W := W) h
    obtain ⟨⟨y, k2, e2⟩, hV⟩ : ∃ t, lift (rU 32) 0 xs k1 e1 = t := ⟨_, rfl⟩
    rw [hV] at HV
    dsimp only at HU HV
    by_cases hb : b = 1
    · have HX := fun W h => u32_any (c := c) (a := a) (len := len) (cap := cap) (xs := xs) (k := k2) (e := e2) (W := W) h
      obtain ⟨⟨x, k3, e3⟩, hX⟩ : ∃ t, lift (rU 32) 0 xs k2 e2 = t := ⟨_, rfl⟩
      rw [hX] at HX
      rw [decide_eq_true hb] at HU
      have hL : lift rLimits (0, 0, false) xs k 0 = (pk e3 (y, x, true) (0, 0, false), back e3 k3 k, e3) := by
        unfold rLimits
        refine seq_back hU (seq_back hV ?_)
        rw [if_pos hb]
        refine (seq hX (lift_giv _ (0, 0, false) _ _ _)).trans ?_
        rw [pk_pk]
      rw [hL]
      dsimp only at HX ⊢
      refine (Limits_live (hide fun W q n0 hC hB => limits1_t (hide HU) (hide HV) (hide HX) n0 hC hB) h).mono ?_
      rintro _ w ⟨rfl, hC, hF⟩
      exact ⟨by rw [← lmV_pk]; rfl, hC, hF⟩
    · rw [decide_eq_false hb] at HU
      have hL : lift rLimits (0, 0, false) xs k 0 = (pk e2 (y, 0, false) (0, 0, false), back e2 k2 k, e2) := by
        unfold rLimits
        refine seq_back hU ?_
        have h2 : lift (if b = 1 then bnd (0, 0, false) (rU 32) fun mx => giv (y, mx, true) else giv (y, 0, false)) (0, 0, false) xs k2 e2 = (pk e2 (y, 0, false) (0, 0, false), k2, e2) := by rw [if_neg hb]; exact lift_giv _ _ _ _ _
        refine (seq hV h2).trans ?_
        rw [pk_pk]
      rw [hL]
      dsimp only
      refine (Limits_live (hide fun W q n0 hC hB => limits1_f (hide HU) (hide HV) n0 hC hB) h).mono ?_
      rintro _ w ⟨rfl, hC, hF⟩
      exact ⟨by rw [← lmV_pk]; rfl, hC, hF⟩
  · rw [lift_e _ _ _ _ he]
    exact Limits_dead h he
set_option maxHeartbeats 1000000 in
set_option maxRecDepth 100000 in
theorem global1_any {c : Nat} {a : Option Addr} {len cap k : Nat} {xs : List Int} {q k1 k2 : Nat} {e1 e2 y : Int} {z : Bool} {W : World}
    (HU : Hid (∀ W, Cs c a len cap xs k 0 W → Calls Tryz.prog 39 #[.pointer (some ⟨c, 0, none⟩)] W fun r W' => r = .returned (.int .u8 y) ∧ Cs c a len cap xs k1 e1 W' ∧ Fr [c] W W'))
    (HV : Hid (∀ W, Cs c a len cap xs k1 e1 W → Calls Tryz.prog 144 #[.pointer (some ⟨c, 0, none⟩)] W fun r W' => r = .returned (.bool z) ∧ Cs c a len cap xs k2 e2 W' ∧ Fr [c] W W'))
    (n0 : q ≠ c) (h : Cs c a len cap xs k 0 W) (hB : Bx q (.pointer (some ⟨c, 0, none⟩)) W) :
    Calls Tryz.prog 146 #[.pointer (some ⟨q, 0, none⟩)] W fun r W' => r = .returned (.agg #[.int .u8 y, .bool z]) ∧ Cs c a len cap xs k2 e2 W' ∧ Fr [c] W W' := by
  have hcl := h.1.lt
  have hq : q < W.heap.size := World.block_lt_of_cell? W _ hB
  have HR : Hid (Room W.heap.size 2 (W.alloc (.cells #[.int .u8 0, .bool false] 101)).drew) := hide ((room_cells W 2 (by decide)).drew)
  have H0 := hide h
  have H := hide ((h.alloc (.cells #[.int .u8 0, .bool false] 101)).drew)
  have HF := hide (((Fr.refl [c] W).alloc (.cells #[.int .u8 0, .bool false] 101)).drew)
  have HB := hide (Bx.bel (Bx.bel hB (below1 W (.cells #[.int .u8 0, .bool false] 101))) ((Below.refl _ _).drew))
  have HN := hide n0
  clear h hB n0
  go_enter Tryz.func146, Tryz.ntmps146
  go_wp2_with fail
  refine wp_region_held_drew (S := fun w' => w'.cell? ⟨q, 0, none⟩ = some (.pointer (some ⟨c, 0, none⟩)) ∧ Room W.heap.size 2 w') (by kernel_rfl) ?_ (fun hHeld => ?_)
  · (try dsimp only)
    exact ⟨unhide HB, unhide HR⟩
  refine lst0 6 (by kernel_rfl) ?_
  refine tkA 0 2 1 ?_
  refine tkA 2 4 5 ?_
  refine rdA 1 7 (fun Kk hKk => ?_)
  go_simp
  refine (unhide HU _ (unhide H)).mono ?_
  rintro _ w1 ⟨rfl, hC, hF⟩
  have HB := hide ((unhide HB).fr hF (by simpa using unhide HN))
  have HR := hide ((unhide HR).fr hF (by simp; omega))
  have H := hide hC
  have HF := hide ((unhide HF).trans hF)
  clear hC hF
  (try go_wp2_with fail)
  refine hKk.out _ _ ?_ (fun hHeld => ?_)
  · (try dsimp only)
    exact ⟨unhide HB, unhide HR⟩
  clear hKk Kk
  (try simp only [List.setIfInBounds_toArray, List.set_cons_zero, List.set_cons_succ])
  refine rdA 3 15 (fun Kk hKk => ?_)
  go_simp
  refine (unhide HV _ (unhide H)).mono ?_
  rintro _ w2 ⟨rfl, hC, hF⟩
  have HB := hide ((unhide HB).fr hF (by simpa using unhide HN))
  have HR := hide ((unhide HR).fr hF (by simp; omega))
  have H := hide hC
  have HF := hide ((unhide HF).trans hF)
  clear hC hF
  (try go_wp2_with fail)
  refine hKk.out _ _ ?_ (fun hHeld => ?_)
  · (try dsimp only)
    exact ⟨unhide HB, unhide HR⟩
  clear hKk Kk
  (try simp only [List.setIfInBounds_toArray, List.set_cons_zero, List.set_cons_succ])
  refine tkA 4 6 31 ?_
  refine rdA 5 63 (fun Kk hKk => ?_)
  obtain ⟨⟨u0, r0⟩, g0⟩ := unhide HR 0 (by decide)
  obtain ⟨⟨u1, r1⟩, g1⟩ := unhide HR 1 (by decide)
  go_simp
  refine hKk.out _ _ ?_ (fun hHeld => ?_)
  · (try dsimp only)
    exact ⟨(unhide HB).fr (l := [W.heap.size]) ((Fr.refl _ _).set2 (b := W.heap.size) (Or.inl (by simp)) _ _) (by simp; omega), ((unhide HR).set 0 _).set 1 _⟩
  clear hKk Kk
  (try simp only [List.setIfInBounds_toArray, List.set_cons_zero, List.set_cons_succ])
  refine wpAnyH_done (by kernel_rfl) ?_ _
  go_wp2_with fail
  obtain ⟨j0, j1⟩ := (unhide HR).at2 (.int .u8 y) (.bool z)
  exact bodyPost_ret (v := .agg #[.int .u8 y, .bool z]) (by simp [results, Tryz.results146, go_sem, j0, j1]) rfl ⟨rfl, (unhide H).new (unhide H0) ((Fr.refl [W.heap.size] _).set2 (Or.inl (by simp)) _ _) (by simp), (unhide HF).set2 (Or.inr (Nat.le_refl _)) _ _⟩
theorem ap_value {c : Nat} {a : Option Addr} {len cap k : Nat} {xs : List Int} {e : Int} {W : World} (h : Cs c a len cap xs k e W) :
    Calls Tryz.prog 39 #[.pointer (some ⟨c, 0, none⟩)] W fun r W' => r = .returned (.int .u8 (lift rValue 0 xs k e).1) ∧ Cs c a len cap xs (lift rValue 0 xs k e).2.1 (lift rValue 0 xs k e).2.2 W' ∧ Fr [c] W W' := value_any h
theorem global_any {c : Nat} {a : Option Addr} {len cap k : Nat} {xs : List Int} {e : Int} {W : World} (h : Cs c a len cap xs k e W) :
    Calls Tryz.prog 113 #[.pointer (some ⟨c, 0, none⟩)] W fun r W' => r = .returned (glV (lift rGlobal (0, false) xs k e).1) ∧ Cs c a len cap xs (lift rGlobal (0, false) xs k e).2.1 (lift rGlobal (0, false) xs k e).2.2 W' ∧ Fr [c] W W' := by
  by_cases he : e = 0
  · subst he
    have HU := fun W h => ap_value (c := c) (a := a) (len := len) (cap := cap) (xs := xs) (k := k) (e := 0) (W := W) h
    obtain ⟨⟨y, k1, e1⟩, hU⟩ : ∃ t, lift rValue 0 xs k 0 = t := ⟨_, rfl⟩
    rw [hU] at HU
    have HV := fun W h => ap_flag (c := c) (a := a) (len := len) (cap := cap) (xs := xs) (k := k1) (e := e1) (W := W) h
    obtain ⟨⟨b, k2, e2⟩, hV⟩ : ∃ t, lift rFlag 0 xs k1 e1 = t := ⟨_, rfl⟩
    rw [hV] at HV
    dsimp only at HU HV
    have hL : lift rGlobal (0, false) xs k 0 = (pk e2 (y, decide (b = 1)) (0, false), back e2 k2 k, e2) := by
      unfold rGlobal
      refine seq_back hU ?_
      refine (seq hV (lift_giv _ (0, false) _ _ _)).trans ?_
      rw [pk_pk]
    rw [hL]
    dsimp only
    refine (Global_live (hide fun W q n0 hC hB => global1_any (hide HU) (hide HV) n0 hC hB) h).mono ?_
    rintro _ w ⟨rfl, hC, hF⟩
    exact ⟨by rw [← glV_pk]; rfl, hC, hF⟩
  · rw [lift_e _ _ _ _ he]
    exact Global_dead h he
set_option maxHeartbeats 1000000 in
set_option maxRecDepth 100000 in
theorem table1_any {c : Nat} {a : Option Addr} {len cap k : Nat} {xs : List Int} {q k1 k2 : Nat} {e1 e2 b x y : Int} {z : Bool} {W : World}
    (HU : Hid (∀ W, Cs c a len cap xs k 0 W → Calls Tryz.prog 68 #[.pointer (some ⟨c, 0, none⟩), .int .i64 106, .slice (some ⟨W.heap.size, 0, none⟩) 1 1] (W.alloc (.cells #[.int .u8 112] 5)) fun r W' => r = .returned (.int .u8 b) ∧ Cs c a len cap xs k1 e1 W' ∧ Fr [c] (W.alloc (.cells #[.int .u8 112] 5)) W'))
    (HV : Hid (∀ W, Cs c a len cap xs k1 e1 W → Calls Tryz.prog 112 #[.pointer (some ⟨c, 0, none⟩)] W fun r W' => r = .returned (.agg #[.int .u32 x, .int .u32 y, .bool z]) ∧ Cs c a len cap xs k2 e2 W' ∧ Fr [c] W W'))
    (n0 : q ≠ c) (h : Cs c a len cap xs k 0 W) (hB : Bx q (.pointer (some ⟨c, 0, none⟩)) W) :
    Calls Tryz.prog 142 #[.pointer (some ⟨q, 0, none⟩)] W fun r W' => r = .returned (.agg #[.int .u32 x, .int .u32 y, .bool z]) ∧ Cs c a len cap xs k2 e2 W' ∧ Fr [c] W W' := by
  have hcl := h.1.lt
  have HR : Hid (Room W.heap.size 3 (W.alloc (.cells #[.int .u32 0, .int .u32 0, .bool false] 99))) := hide (room_cells W 3 (by decide))
  have H0 := hide h
  have H := hide (h.alloc (.cells #[.int .u32 0, .int .u32 0, .bool false] 99))
  have HF := hide ((Fr.refl [c] W).alloc (.cells #[.int .u32 0, .int .u32 0, .bool false] 99))
  have HB := hide (Bx.bel hB (below1 W (.cells #[.int .u32 0, .int .u32 0, .bool false] 99)))
  have HN := hide n0
  have hb1 := unhide HB
  unfold Bx at hb1
  have HU1 := hide (unhide HU _ (unhide H))
  rw [show (W.alloc (.cells #[.int .u32 0, .int .u32 0, .bool false] 99)).heap.size = W.heap.size + 1 by simp] at HU1
  clear h hB n0
  go_enter Tryz.func142, Tryz.ntmps142
  go_wp2_with fail
  refine (unhide HU1).mono ?_
  rintro _ w1 ⟨rfl, hC, hF⟩
  have HB := hide ((unhide HB).bel (below1 _ (.cells #[.int .u8 112] 5)))
  have HR := hide ((unhide HR).alloc (.cells #[.int .u8 112] 5))
  have HF := hide ((unhide HF).alloc (.cells #[.int .u8 112] 5))
  have HB := hide ((unhide HB).fr hF (by simpa using unhide HN))
  have HR := hide ((unhide HR).fr hF (by simp; omega))
  have H := hide hC
  have HF := hide ((unhide HF).trans hF)
  have hb1 := unhide HB
  unfold Bx at hb1
  clear hC hF
  go_wp2_with fail
  refine (unhide HV _ (unhide H)).mono ?_
  rintro _ w2 ⟨rfl, hC, hF⟩
  have HB := hide ((unhide HB).fr hF (by simpa using unhide HN))
  have HR := hide ((unhide HR).fr hF (by simp; omega))
  have H := hide hC
  have HF := hide ((unhide HF).trans hF)
  have hb1 := unhide HB
  unfold Bx at hb1
  clear hC hF
  obtain ⟨⟨u0, r0⟩, g0⟩ := unhide HR 0 (by decide)
  obtain ⟨⟨u1, r1⟩, g1⟩ := unhide HR 1 (by decide)
  obtain ⟨⟨u2, r2⟩, g2⟩ := unhide HR 2 (by decide)
  go_wp2_with fail
  obtain ⟨j0, j1, j2⟩ := (unhide HR).at3 (.int .u32 x) (.int .u32 y) (.bool z)
  exact bodyPost_ret (v := .agg #[.int .u32 x, .int .u32 y, .bool z]) (by simp [results, Tryz.results142, go_sem, j0, j1, j2]) rfl ⟨rfl, (unhide H).new (unhide H0) ((Fr.refl [W.heap.size] _).set3 (Or.inl (by simp)) _ _ _) (by simp), (unhide HF).set3 (Or.inr (Nat.le_refl _)) _ _ _⟩
theorem one_lit {c : Nat} {a : Option Addr} {len cap k : Nat} {xs : List Int} {e er z : Int} {W : World} (h : Cs c a len cap xs k e W) (hz : er ≠ 0) :
    Calls Tryz.prog 68 #[.pointer (some ⟨c, 0, none⟩), .int .i64 er, .slice (some ⟨W.heap.size, 0, none⟩) 1 1] (W.alloc (.cells #[.int .u8 z] 5)) fun r W' => r = .returned (.int .u8 (lift (rOne [z] er) 0 xs k e).1) ∧ Cs c a len cap xs (lift (rOne [z] er) 0 xs k e).2.1 (lift (rOne [z] er) 0 xs k e).2.2 W' ∧ Fr [c] (W.alloc (.cells #[.int .u8 z] 5)) W' :=
  oneOf_any (h.alloc _) hz (sl_lit W [z] 1 rfl (by omega)) (fun p hp _ => by injection hp with hp; subst hp; have := h.1.lt; show W.heap.size ≠ c; omega)
theorem table_any {c : Nat} {a : Option Addr} {len cap k : Nat} {xs : List Int} {e : Int} {W : World} (h : Cs c a len cap xs k e W) :
    Calls Tryz.prog 111 #[.pointer (some ⟨c, 0, none⟩)] W fun r W' => r = .returned (lmV (lift rTable (0, 0, false) xs k e).1) ∧ Cs c a len cap xs (lift rTable (0, 0, false) xs k e).2.1 (lift rTable (0, 0, false) xs k e).2.2 W' ∧ Fr [c] W W' := by
  by_cases he : e = 0
  · subst he
    have HU := fun W h => one_lit (c := c) (a := a) (len := len) (cap := cap) (xs := xs) (k := k) (e := 0) (er := 106) (z := 112) (W := W) h (by decide)
    obtain ⟨⟨b, k1, e1⟩, hU⟩ : ∃ t, lift (rOne [112] 106) 0 xs k 0 = t := ⟨_, rfl⟩
    rw [hU] at HU
    have HV := fun W h => limits_any (c := c) (a := a) (len := len) (cap := cap) (xs := xs) (k := k1) (e := e1) (W := W) h
    obtain ⟨⟨⟨x, y, z⟩, k2, e2⟩, hV⟩ : ∃ t, lift rLimits (0, 0, false) xs k1 e1 = t := ⟨_, rfl⟩
    rw [hV] at HV
    dsimp only at HU HV
    have hL : lift rTable (0, 0, false) xs k 0 = (pk e2 (x, y, z) (0, 0, false), back e2 k2 k, e2) := by
      unfold rTable
      exact seq hU hV
    rw [hL]
    dsimp only
    refine (Table_live (hide fun W q n0 hC hB => table1_any (hide HU) (hide HV) n0 hC hB) h).mono ?_
    rintro _ w ⟨rfl, hC, hF⟩
    exact ⟨by rw [← lmV_pk]; rfl, hC, hF⟩
  · rw [lift_e _ _ _ _ he]
    exact Table_dead h he
end Go.Proofs.YtjoonmpjcophnaaGreatDoor

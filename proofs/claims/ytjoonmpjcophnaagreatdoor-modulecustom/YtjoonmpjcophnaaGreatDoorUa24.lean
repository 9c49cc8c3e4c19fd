/- ScG. -/
import Derived.Test.YtjoonmpjcophnaaGreatDoorUa20
import Derived.Test.YtjoonmpjcophnaaGreatDoorUa22
namespace Go.Proofs.YtjoonmpjcophnaaGreatDoor
open Go.RowKit

theorem nwT {n : Nat} {x1 : Option Addr} {x2 x3 : Nat} {ys : List Int} {w : World} {x y : Value} (h : Nw (n + 2) x1 x2 x3 ys w) : Nw n x1 x2 x3 ys ((w.setCell ⟨n + 1, 0, none⟩ x).setCell ⟨n + 1, 1, none⟩ y) :=
  (h.fr ((Fr.refl [n + 1] _).set2 (Or.inl (by simp)) _ _) (by simp)).mono (by omega)
set_option maxHeartbeats 1000000 in
set_option maxRecDepth 100000 in
theorem Limits_dead {c : Nat} {a : Option Addr} {len cap k : Nat} {xs : List Int} {e : Int} {W : World} (h : Cs c a len cap xs k e W) (he : e ≠ 0) : Calls Tryz.prog 112 #[.pointer (some ⟨c, 0, none⟩)] W fun r W' => r = .returned (.agg #[.int .u32 0, .int .u32 0, .bool false]) ∧ Cs c a len cap xs k e W' ∧ Fr [c] W W' := by
  have HN := hide (fun F W h => dead_Limits (c := c) (a := a) (len := len) (cap := cap) (k := k) (e := e) (F := F) (W := W) h he)
  have HR : Hid (Room (W.heap.size + 1) 3 ((W.alloc (.cells #[.pointer (some ⟨c, 0, none⟩)] 53)).alloc (.cells #[.int .u32 0, .int .u32 0, .bool false] 99))) := hide (by simpa using room_cells (W.alloc (.cells #[.pointer (some ⟨c, 0, none⟩)] 53)) 3 (by decide))
  have H := hide h
  clear h he
  go_enter Tryz.func112, Tryz.ntmps112
  go_wp2_with fail
  refine (unhide HN _ _ ((unhide H).bel (below2 _ _ _)).1).mono ?_
  rintro _ w1 ⟨rfl, hF⟩
  have HR := hide ((unhide HR).fr hF (by simp))
  have HF := hide ((Fr.of (below2 W (.cells #[.pointer (some ⟨c, 0, none⟩)] 53) (.cells #[.int .u32 0, .int .u32 0, .bool false] 99)) []).trans hF)
  clear hF
  obtain ⟨⟨u0, r0⟩, g0⟩ := unhide HR 0 (by decide)
  obtain ⟨⟨u1, r1⟩, g1⟩ := unhide HR 1 (by decide)
  obtain ⟨⟨u2, r2⟩, g2⟩ := unhide HR 2 (by decide)
  go_wp2_with fail
  obtain ⟨j0, j1, j2⟩ := (unhide HR).at3 (.int .u32 0) (.int .u32 0) (.bool false)
  exact bodyPost_ret (v := .agg #[.int .u32 0, .int .u32 0, .bool false]) (by simp [results, Tryz.results112, go_sem, j0, j1, j2]) rfl ⟨rfl, (unhide H).bel ((unhide HF).set3 (Or.inr (by omega)) _ _ _).nil, ((unhide HF).set3 (Or.inr (by omega)) _ _ _).mono (by simp)⟩
set_option maxHeartbeats 1000000 in
set_option maxRecDepth 100000 in
theorem Limits_live {c : Nat} {a : Option Addr} {len cap k : Nat} {xs : List Int} {k1 : Nat} {e1 : Int} {x y : Int} {z : Bool} {W : World}
    (HG : Hid (∀ W q0, q0 ≠ c → Cs c a len cap xs k 0 W → Bx q0 (.pointer (some ⟨c, 0, none⟩)) W → Calls Tryz.prog 143 #[.pointer (some ⟨q0, 0, none⟩)] W fun r W' => r = .returned (.agg #[.int .u32 x, .int .u32 y, .bool z]) ∧ Cs c a len cap xs k1 e1 W' ∧ Fr [c] W W'))
    (h : Cs c a len cap xs k 0 W) : Calls Tryz.prog 112 #[.pointer (some ⟨c, 0, none⟩)] W fun r W' => r = .returned (pk e1 (.agg #[.int .u32 x, .int .u32 y, .bool z]) (.agg #[.int .u32 0, .int .u32 0, .bool false])) ∧ Cs c a len cap xs (back e1 k1 k) e1 W' ∧ Fr [c] W W' := by
  have hcl := h.1.lt
  have H0 := hide h
  have H := hide (h.bel (below2 W (.cells #[.pointer (some ⟨c, 0, none⟩)] 53) (.cells #[.int .u32 0, .int .u32 0, .bool false] 99)))
  have HF := hide (Fr.of (below2 W (.cells #[.pointer (some ⟨c, 0, none⟩)] 53) (.cells #[.int .u32 0, .int .u32 0, .bool false] 99)) [c])
  have HB : Hid (Bx W.heap.size (.pointer (some ⟨c, 0, none⟩)) ((W.alloc (.cells #[.pointer (some ⟨c, 0, none⟩)] 53)).alloc (.cells #[.int .u32 0, .int .u32 0, .bool false] 99))) := hide (by simp [Bx, go_sem])
  have HR : Hid (Room (W.heap.size + 1) 3 ((W.alloc (.cells #[.pointer (some ⟨c, 0, none⟩)] 53)).alloc (.cells #[.int .u32 0, .int .u32 0, .bool false] 99))) := hide (by simpa using room_cells (W.alloc (.cells #[.pointer (some ⟨c, 0, none⟩)] 53)) 3 (by decide))
  have ne0 : Hid (W.heap.size ≠ c) := hide (by omega)
  have ne1 : Hid (W.heap.size + 1 ≠ c) := hide (by omega)
  clear h
  go_enter Tryz.func112, Tryz.ntmps112
  go_wp2_with fail
  refine (read_33 (B := Bx W.heap.size (.pointer (some ⟨c, 0, none⟩))) (fun w w' hb hw => hb.bel hw) (hide fun W' hC hB => unhide HG W' _ (unhide ne0) hC hB) (unhide H) (hide (unhide HB))).mono ?_
  rintro _ w1 ⟨rfl, hC, hF⟩
  have HR := hide ((unhide HR).fr hF (by simpa using unhide ne1))
  have HC := hide hC
  have HF := hide ((unhide HF).trans hF)
  clear hC hF
  by_cases he : e1 = 0
  · subst he
    rw [pk_0]
    obtain ⟨⟨u0, r0⟩, g0⟩ := unhide HR 0 (by decide)
    obtain ⟨⟨u1, r1⟩, g1⟩ := unhide HR 1 (by decide)
    obtain ⟨⟨u2, r2⟩, g2⟩ := unhide HR 2 (by decide)
    go_wp2_with fail
    obtain ⟨j0, j1, j2⟩ := (unhide HR).at3 (.int .u32 x) (.int .u32 y) (.bool z)
    exact bodyPost_ret (v := .agg #[.int .u32 x, .int .u32 y, .bool z]) (by simp [results, Tryz.results112, go_sem, j0, j1, j2]) rfl ⟨rfl, (unhide HC).new (unhide H0) ((Fr.refl [W.heap.size + 1] _).set3 (Or.inl (by simp)) _ _ _) (by simp), (unhide HF).set3 (Or.inr (by omega)) _ _ _⟩
  · rw [pk_e he]
    obtain ⟨⟨u0, r0⟩, g0⟩ := unhide HR 0 (by decide)
    obtain ⟨⟨u1, r1⟩, g1⟩ := unhide HR 1 (by decide)
    obtain ⟨⟨u2, r2⟩, g2⟩ := unhide HR 2 (by decide)
    go_wp2_with fail
    obtain ⟨j0, j1, j2⟩ := (unhide HR).at3 (.int .u32 0) (.int .u32 0) (.bool false)
    exact bodyPost_ret (v := .agg #[.int .u32 0, .int .u32 0, .bool false]) (by simp [results, Tryz.results112, go_sem, j0, j1, j2]) rfl ⟨by rw [pk_e he], (unhide HC).new (unhide H0) ((Fr.refl [W.heap.size + 1] _).set3 (Or.inl (by simp)) _ _ _) (by simp), (unhide HF).set3 (Or.inr (by omega)) _ _ _⟩
set_option maxHeartbeats 1000000 in
set_option maxRecDepth 100000 in
theorem Global_dead {c : Nat} {a : Option Addr} {len cap k : Nat} {xs : List Int} {e : Int} {W : World} (h : Cs c a len cap xs k e W) (he : e ≠ 0) : Calls Tryz.prog 113 #[.pointer (some ⟨c, 0, none⟩)] W fun r W' => r = .returned (.agg #[.int .u8 0, .bool false]) ∧ Cs c a len cap xs k e W' ∧ Fr [c] W W' := by
  have HN := hide (fun F W h => dead_GlobalType (c := c) (a := a) (len := len) (cap := cap) (k := k) (e := e) (F := F) (W := W) h he)
  have HR : Hid (Room (W.heap.size + 1) 2 ((W.alloc (.cells #[.pointer (some ⟨c, 0, none⟩)] 53)).alloc (.cells #[.int .u8 0, .bool false] 101))) := hide (by simpa using room_cells (W.alloc (.cells #[.pointer (some ⟨c, 0, none⟩)] 53)) 2 (by decide))
  have H := hide h
  clear h he
  go_enter Tryz.func113, Tryz.ntmps113
  go_wp2_with fail
  refine (unhide HN _ _ ((unhide H).bel (below2 _ _ _)).1).mono ?_
  rintro _ w1 ⟨rfl, hF⟩
  have HR := hide ((unhide HR).fr hF (by simp))
  have HF := hide ((Fr.of (below2 W (.cells #[.pointer (some ⟨c, 0, none⟩)] 53) (.cells #[.int .u8 0, .bool false] 101)) []).trans hF)
  clear hF
  obtain ⟨⟨u0, r0⟩, g0⟩ := unhide HR 0 (by decide)
  obtain ⟨⟨u1, r1⟩, g1⟩ := unhide HR 1 (by decide)
  go_wp2_with fail
  obtain ⟨j0, j1⟩ := (unhide HR).at2 (.int .u8 0) (.bool false)
  exact bodyPost_ret (v := .agg #[.int .u8 0, .bool false]) (by simp [results, Tryz.results113, go_sem, j0, j1]) rfl ⟨rfl, (unhide H).bel ((unhide HF).set2 (Or.inr (by omega)) _ _).nil, ((unhide HF).set2 (Or.inr (by omega)) _ _).mono (by simp)⟩
set_option maxHeartbeats 1000000 in
set_option maxRecDepth 100000 in
theorem Global_live {c : Nat} {a : Option Addr} {len cap k : Nat} {xs : List Int} {k1 : Nat} {e1 : Int} {x : Int} {z : Bool} {W : World}
    (HG : Hid (∀ W q0, q0 ≠ c → Cs c a len cap xs k 0 W → Bx q0 (.pointer (some ⟨c, 0, none⟩)) W → Calls Tryz.prog 146 #[.pointer (some ⟨q0, 0, none⟩)] W fun r W' => r = .returned (.agg #[.int .u8 x, .bool z]) ∧ Cs c a len cap xs k1 e1 W' ∧ Fr [c] W W'))
    (h : Cs c a len cap xs k 0 W) : Calls Tryz.prog 113 #[.pointer (some ⟨c, 0, none⟩)] W fun r W' => r = .returned (pk e1 (.agg #[.int .u8 x, .bool z]) (.agg #[.int .u8 0, .bool false])) ∧ Cs c a len cap xs (back e1 k1 k) e1 W' ∧ Fr [c] W W' := by
  have hcl := h.1.lt
  have H0 := hide h
  have H := hide (h.bel (below2 W (.cells #[.pointer (some ⟨c, 0, none⟩)] 53) (.cells #[.int .u8 0, .bool false] 101)))
  have HF := hide (Fr.of (below2 W (.cells #[.pointer (some ⟨c, 0, none⟩)] 53) (.cells #[.int .u8 0, .bool false] 101)) [c])
  have HB : Hid (Bx W.heap.size (.pointer (some ⟨c, 0, none⟩)) ((W.alloc (.cells #[.pointer (some ⟨c, 0, none⟩)] 53)).alloc (.cells #[.int .u8 0, .bool false] 101))) := hide (by simp [Bx, go_sem])
  have HR : Hid (Room (W.heap.size + 1) 2 ((W.alloc (.cells #[.pointer (some ⟨c, 0, none⟩)] 53)).alloc (.cells #[.int .u8 0, .bool false] 101))) := hide (by simpa using room_cells (W.alloc (.cells #[.pointer (some ⟨c, 0, none⟩)] 53)) 2 (by decide))
  have ne0 : Hid (W.heap.size ≠ c) := hide (by omega)
  have ne1 : Hid (W.heap.size + 1 ≠ c) := hide (by omega)
  clear h
  go_enter Tryz.func113, Tryz.ntmps113
  go_wp2_with fail
  refine (read_40 (B := Bx W.heap.size (.pointer (some ⟨c, 0, none⟩))) (fun w w' hb hw => hb.bel hw) (hide fun W' hC hB => unhide HG W' _ (unhide ne0) hC hB) (unhide H) (hide (unhide HB))).mono ?_
  rintro _ w1 ⟨rfl, hC, hF⟩
  have HR := hide ((unhide HR).fr hF (by simpa using unhide ne1))
  have HC := hide hC
  have HF := hide ((unhide HF).trans hF)
  clear hC hF
  by_cases he : e1 = 0
  · subst he
    rw [pk_0]
    obtain ⟨⟨u0, r0⟩, g0⟩ := unhide HR 0 (by decide)
    obtain ⟨⟨u1, r1⟩, g1⟩ := unhide HR 1 (by decide)
    go_wp2_with fail
    obtain ⟨j0, j1⟩ := (unhide HR).at2 (.int .u8 x) (.bool z)
    exact bodyPost_ret (v := .agg #[.int .u8 x, .bool z]) (by simp [results, Tryz.results113, go_sem, j0, j1]) rfl ⟨rfl, (unhide HC).new (unhide H0) ((Fr.refl [W.heap.size + 1] _).set2 (Or.inl (by simp)) _ _) (by simp), (unhide HF).set2 (Or.inr (by omega)) _ _⟩
  · rw [pk_e he]
    obtain ⟨⟨u0, r0⟩, g0⟩ := unhide HR 0 (by decide)
    obtain ⟨⟨u1, r1⟩, g1⟩ := unhide HR 1 (by decide)
    go_wp2_with fail
    obtain ⟨j0, j1⟩ := (unhide HR).at2 (.int .u8 0) (.bool false)
    exact bodyPost_ret (v := .agg #[.int .u8 0, .bool false]) (by simp [results, Tryz.results113, go_sem, j0, j1]) rfl ⟨by rw [pk_e he], (unhide HC).new (unhide H0) ((Fr.refl [W.heap.size + 1] _).set2 (Or.inl (by simp)) _ _) (by simp), (unhide HF).set2 (Or.inr (by omega)) _ _⟩
set_option maxHeartbeats 1000000 in
set_option maxRecDepth 100000 in
theorem Table_dead {c : Nat} {a : Option Addr} {len cap k : Nat} {xs : List Int} {e : Int} {W : World} (h : Cs c a len cap xs k e W) (he : e ≠ 0) : Calls Tryz.prog 111 #[.pointer (some ⟨c, 0, none⟩)] W fun r W' => r = .returned (.agg #[.int .u32 0, .int .u32 0, .bool false]) ∧ Cs c a len cap xs k e W' ∧ Fr [c] W W' := by
  have HN := hide (fun F W h => dead_Limits (c := c) (a := a) (len := len) (cap := cap) (k := k) (e := e) (F := F) (W := W) h he)
  have HR : Hid (Room (W.heap.size + 1) 3 ((W.alloc (.cells #[.pointer (some ⟨c, 0, none⟩)] 53)).alloc (.cells #[.int .u32 0, .int .u32 0, .bool false] 99))) := hide (by simpa using room_cells (W.alloc (.cells #[.pointer (some ⟨c, 0, none⟩)] 53)) 3 (by decide))
  have H := hide h
  clear h he
  go_enter Tryz.func111, Tryz.ntmps111
  go_wp2_with fail
  refine (unhide HN _ _ ((unhide H).bel (below2 _ _ _)).1).mono ?_
  rintro _ w1 ⟨rfl, hF⟩
  have HR := hide ((unhide HR).fr hF (by simp))
  have HF := hide ((Fr.of (below2 W (.cells #[.pointer (some ⟨c, 0, none⟩)] 53) (.cells #[.int .u32 0, .int .u32 0, .bool false] 99)) []).trans hF)
  clear hF
  obtain ⟨⟨u0, r0⟩, g0⟩ := unhide HR 0 (by decide)
  obtain ⟨⟨u1, r1⟩, g1⟩ := unhide HR 1 (by decide)
  obtain ⟨⟨u2, r2⟩, g2⟩ := unhide HR 2 (by decide)
  go_wp2_with fail
  obtain ⟨j0, j1, j2⟩ := (unhide HR).at3 (.int .u32 0) (.int .u32 0) (.bool false)
  exact bodyPost_ret (v := .agg #[.int .u32 0, .int .u32 0, .bool false]) (by simp [results, Tryz.results111, go_sem, j0, j1, j2]) rfl ⟨rfl, (unhide H).bel ((unhide HF).set3 (Or.inr (by omega)) _ _ _).nil, ((unhide HF).set3 (Or.inr (by omega)) _ _ _).mono (by simp)⟩
set_option maxHeartbeats 1000000 in
set_option maxRecDepth 100000 in
theorem Table_live {c : Nat} {a : Option Addr} {len cap k : Nat} {xs : List Int} {k1 : Nat} {e1 : Int} {x y : Int} {z : Bool} {W : World}
    (HG : Hid (∀ W q0, q0 ≠ c → Cs c a len cap xs k 0 W → Bx q0 (.pointer (some ⟨c, 0, none⟩)) W → Calls Tryz.prog 142 #[.pointer (some ⟨q0, 0, none⟩)] W fun r W' => r = .returned (.agg #[.int .u32 x, .int .u32 y, .bool z]) ∧ Cs c a len cap xs k1 e1 W' ∧ Fr [c] W W'))
    (h : Cs c a len cap xs k 0 W) : Calls Tryz.prog 111 #[.pointer (some ⟨c, 0, none⟩)] W fun r W' => r = .returned (pk e1 (.agg #[.int .u32 x, .int .u32 y, .bool z]) (.agg #[.int .u32 0, .int .u32 0, .bool false])) ∧ Cs c a len cap xs (back e1 k1 k) e1 W' ∧ Fr [c] W W' := by
  have hcl := h.1.lt
  have H0 := hide h
  have H := hide (h.bel (below2 W (.cells #[.pointer (some ⟨c, 0, none⟩)] 53) (.cells #[.int .u32 0, .int .u32 0, .bool false] 99)))
  have HF := hide (Fr.of (below2 W (.cells #[.pointer (some ⟨c, 0, none⟩)] 53) (.cells #[.int .u32 0, .int .u32 0, .bool false] 99)) [c])
  have HB : Hid (Bx W.heap.size (.pointer (some ⟨c, 0, none⟩)) ((W.alloc (.cells #[.pointer (some ⟨c, 0, none⟩)] 53)).alloc (.cells #[.int .u32 0, .int .u32 0, .bool false] 99))) := hide (by simp [Bx, go_sem])
  have HR : Hid (Room (W.heap.size + 1) 3 ((W.alloc (.cells #[.pointer (some ⟨c, 0, none⟩)] 53)).alloc (.cells #[.int .u32 0, .int .u32 0, .bool false] 99))) := hide (by simpa using room_cells (W.alloc (.cells #[.pointer (some ⟨c, 0, none⟩)] 53)) 3 (by decide))
  have ne0 : Hid (W.heap.size ≠ c) := hide (by omega)
  have ne1 : Hid (W.heap.size + 1 ≠ c) := hide (by omega)
  clear h
  go_enter Tryz.func111, Tryz.ntmps111
  go_wp2_with fail
  refine (read_43 (B := Bx W.heap.size (.pointer (some ⟨c, 0, none⟩))) (fun w w' hb hw => hb.bel hw) (hide fun W' hC hB => unhide HG W' _ (unhide ne0) hC hB) (unhide H) (hide (unhide HB))).mono ?_
  rintro _ w1 ⟨rfl, hC, hF⟩
  have HR := hide ((unhide HR).fr hF (by simpa using unhide ne1))
  have HC := hide hC
  have HF := hide ((unhide HF).trans hF)
  clear hC hF
  by_cases he : e1 = 0
  · subst he
    rw [pk_0]
    obtain ⟨⟨u0, r0⟩, g0⟩ := unhide HR 0 (by decide)
    obtain ⟨⟨u1, r1⟩, g1⟩ := unhide HR 1 (by decide)
    obtain ⟨⟨u2, r2⟩, g2⟩ := unhide HR 2 (by decide)
    go_wp2_with fail
    obtain ⟨j0, j1, j2⟩ := (unhide HR).at3 (.int .u32 x) (.int .u32 y) (.bool z)
    exact bodyPost_ret (v := .agg #[.int .u32 x, .int .u32 y, .bool z]) (by simp [results, Tryz.results111, go_sem, j0, j1, j2]) rfl ⟨rfl, (unhide HC).new (unhide H0) ((Fr.refl [W.heap.size + 1] _).set3 (Or.inl (by simp)) _ _ _) (by simp), (unhide HF).set3 (Or.inr (by omega)) _ _ _⟩
  · rw [pk_e he]
    obtain ⟨⟨u0, r0⟩, g0⟩ := unhide HR 0 (by decide)
    obtain ⟨⟨u1, r1⟩, g1⟩ := unhide HR 1 (by decide)
    obtain ⟨⟨u2, r2⟩, g2⟩ := unhide HR 2 (by decide)
    go_wp2_with fail
    obtain ⟨j0, j1, j2⟩ := (unhide HR).at3 (.int .u32 0) (.int .u32 0) (.bool false)
    exact bodyPost_ret (v := .agg #[.int .u32 0, .int .u32 0, .bool false]) (by simp [results, Tryz.results111, go_sem, j0, j1, j2]) rfl ⟨by rw [pk_e he], (unhide HC).new (unhide H0) ((Fr.refl [W.heap.size + 1] _).set3 (Or.inl (by simp)) _ _ _) (by simp), (unhide HF).set3 (Or.inr (by omega)) _ _ _⟩
set_option maxHeartbeats 1000000 in
set_option maxRecDepth 100000 in
theorem Func_dead {c : Nat} {a : Option Addr} {len cap k : Nat} {xs : List Int} {e : Int} {W : World} (h : Cs c a len cap xs k e W) (he : e ≠ 0) : Calls Tryz.prog 107 #[.pointer (some ⟨c, 0, none⟩)] W fun r W' => r = .returned (.agg #[.slice none 0 0, .slice none 0 0]) ∧ Cs c a len cap xs k e W' ∧ Fr [c] W W' := by
  have HN := hide (fun F W h => dead_FuncType (c := c) (a := a) (len := len) (cap := cap) (k := k) (e := e) (F := F) (W := W) h he)
  have HR : Hid (Room (W.heap.size + 1) 2 ((W.alloc (.cells #[.pointer (some ⟨c, 0, none⟩)] 53)).alloc (.cells #[.slice none 0 0, .slice none 0 0] 96))) := hide (by simpa using room_cells (W.alloc (.cells #[.pointer (some ⟨c, 0, none⟩)] 53)) 2 (by decide))
  have H := hide h
  clear h he
  go_enter Tryz.func107, Tryz.ntmps107
  go_wp2_with fail
  refine (unhide HN _ _ ((unhide H).bel (below2 _ _ _)).1).mono ?_
  rintro _ w1 ⟨rfl, hF⟩
  have HR := hide ((unhide HR).fr hF (by simp))
  have HF := hide ((Fr.of (below2 W (.cells #[.pointer (some ⟨c, 0, none⟩)] 53) (.cells #[.slice none 0 0, .slice none 0 0] 96)) []).trans hF)
  clear hF
  obtain ⟨⟨u0, r0⟩, g0⟩ := unhide HR 0 (by decide)
  obtain ⟨⟨u1, r1⟩, g1⟩ := unhide HR 1 (by decide)
  go_wp2_with fail
  obtain ⟨j0, j1⟩ := (unhide HR).at2 (.slice none 0 0) (.slice none 0 0)
  exact bodyPost_ret (v := .agg #[.slice none 0 0, .slice none 0 0]) (by simp [results, Tryz.results107, go_sem, j0, j1]) rfl ⟨rfl, (unhide H).bel ((unhide HF).set2 (Or.inr (by omega)) _ _).nil, ((unhide HF).set2 (Or.inr (by omega)) _ _).mono (by simp)⟩
set_option maxHeartbeats 1000000 in
set_option maxRecDepth 100000 in
theorem Func_live {c : Nat} {a : Option Addr} {len cap k : Nat} {xs : List Int} {k1 : Nat} {e1 : Int} {ys zs : List Int} {W : World}
    (HG : Hid (∀ W q0, q0 ≠ c → Cs c a len cap xs k 0 W → Bx q0 (.pointer (some ⟨c, 0, none⟩)) W → Calls Tryz.prog 139 #[.pointer (some ⟨q0, 0, none⟩)] W fun r W' => ∃ x1 x2 x3 y1 y2 y3, r = .returned (.agg #[.slice x1 x2 x3, .slice y1 y2 y3]) ∧ Nw W.heap.size x1 x2 x3 ys W' ∧ Nw W.heap.size y1 y2 y3 zs W' ∧ Cs c a len cap xs k1 e1 W' ∧ Fr [c] W W'))
    (h : Cs c a len cap xs k 0 W) : Calls Tryz.prog 107 #[.pointer (some ⟨c, 0, none⟩)] W fun r W' => ∃ x1 x2 x3 y1 y2 y3, r = .returned (.agg #[.slice x1 x2 x3, .slice y1 y2 y3]) ∧ Nw W.heap.size x1 x2 x3 (pk e1 ys []) W' ∧ Nw W.heap.size y1 y2 y3 (pk e1 zs []) W' ∧ Cs c a len cap xs (back e1 k1 k) e1 W' ∧ Fr [c] W W' := by
  have hcl := h.1.lt
  have H0 := hide h
  have H := hide (h.bel (below2 W (.cells #[.pointer (some ⟨c, 0, none⟩)] 53) (.cells #[.slice none 0 0, .slice none 0 0] 96)))
  have HF := hide (Fr.of (below2 W (.cells #[.pointer (some ⟨c, 0, none⟩)] 53) (.cells #[.slice none 0 0, .slice none 0 0] 96)) [c])
  have HB : Hid (Bx W.heap.size (.pointer (some ⟨c, 0, none⟩)) ((W.alloc (.cells #[.pointer (some ⟨c, 0, none⟩)] 53)).alloc (.cells #[.slice none 0 0, .slice none 0 0] 96))) := hide (by simp [Bx, go_sem])
  have HR : Hid (Room (W.heap.size + 1) 2 ((W.alloc (.cells #[.pointer (some ⟨c, 0, none⟩)] 53)).alloc (.cells #[.slice none 0 0, .slice none 0 0] 96))) := hide (by simpa using room_cells (W.alloc (.cells #[.pointer (some ⟨c, 0, none⟩)] 53)) 2 (by decide))
  have ne0 : Hid (W.heap.size ≠ c) := hide (by omega)
  have ne1 : Hid (W.heap.size + 1 ≠ c) := hide (by omega)
  clear h
  go_enter Tryz.func107, Tryz.ntmps107
  go_wp2_with fail
  refine (read_29 (B := Bx W.heap.size (.pointer (some ⟨c, 0, none⟩))) (fun w w' hb hw => hb.bel hw) (hide fun W' hC hB => unhide HG W' _ (unhide ne0) hC hB) (unhide H) (hide (unhide HB))).mono ?_
  rintro _ w1 ⟨x1, x2, x3, y1, y2, y3, rfl, hv1, hv2, hC, hF⟩
  have HV1 := hide (hv1.mono (m := W.heap.size + 2) (by simp))
  have HV2 := hide (hv2.mono (m := W.heap.size + 2) (by simp))
  clear hv1 hv2
  have HR := hide ((unhide HR).fr hF (by simpa using unhide ne1))
  have HC := hide hC
  have HF := hide ((unhide HF).trans hF)
  clear hC hF
  obtain ⟨⟨u0, r0⟩, g0⟩ := unhide HR 0 (by decide)
  obtain ⟨⟨u1, r1⟩, g1⟩ := unhide HR 1 (by decide)
  go_wp2_with fail
  obtain ⟨j0, j1⟩ := (unhide HR).at2 (.slice x1 x2 x3) (.slice y1 y2 y3)
  exact bodyPost_ret (v := .agg #[.slice x1 x2 x3, .slice y1 y2 y3]) (by simp [results, Tryz.results107, go_sem, j0, j1]) rfl ⟨_, _, _, _, _, _, rfl, nwT (unhide HV1), nwT (unhide HV2), (unhide HC).new (unhide H0) ((Fr.refl [W.heap.size + 1] _).set2 (Or.inl (by simp)) _ _) (by simp), (unhide HF).set2 (Or.inr (by omega)) _ _⟩
end Go.Proofs.YtjoonmpjcophnaaGreatDoor

/- ScE. -/
import Derived.Test.YtjoonmpjcophnaaGreatDoorUa13
namespace Go.Proofs.YtjoonmpjcophnaaGreatDoor
open Go.RowKit

theorem Room.fr {b n : Nat} {w w' : World} {l : List Nat} (h : Room b n w) (hf : Fr l w w') (hn : b ∉ l) : Room b n w' := fun o ho => by
  obtain ⟨⟨v, h1⟩, h2⟩ := h o ho
  exact ⟨⟨v, hf.keep h1 hn⟩, (hf.frozen (p := ⟨b, o, none⟩) (World.block_lt_of_cell? w _ h1) hn).trans h2⟩
def At3 (b : Nat) (x y z : Value) (w : World) : Prop := w.cell? ⟨b, 0, none⟩ = some x ∧ w.cell? ⟨b, 1, none⟩ = some y ∧ w.cell? ⟨b, 2, none⟩ = some z
theorem At3.fr {b : Nat} {x y z : Value} {w w' : World} {l : List Nat} (h : At3 b x y z w) (hf : Fr l w w') (hn : b ∉ l) : At3 b x y z w' := ⟨hf.keep h.1 hn, hf.keep h.2.1 hn, hf.keep h.2.2 hn⟩
theorem At2.fr {b : Nat} {x y : Value} {w w' : World} {l : List Nat} (h : At2 b x y w) (hf : Fr l w w') (hn : b ∉ l) : At2 b x y w' := ⟨hf.keep h.1 hn, hf.keep h.2 hn⟩
theorem room_cells {cs : List Value} {t : TypeId} (w : World) (n : Nat) (h : n ≤ cs.length) : Room w.heap.size n (w.alloc (.cells cs.toArray t)) := fun o ho => by
  refine ⟨⟨cs[o]'(by omega), ?_⟩, ?_⟩
  · rw [cell_of_row _ _ _ _ _ _ (heap_alloc_new w _), List.getElem?_toArray, List.getElem?_eq_getElem]
  · show (match (w.alloc (.cells cs.toArray t)).heap[w.heap.size]? with | some (Obj.cells c elem (lo, hi)) => decide (lo ≤ o) && decide (o < hi) | x => false) = false
    rw [heap_alloc_new]
    simp
theorem room_Limits (W : World) : Room W.heap.size 3 ((W.alloc (.cells #[.int .u32 0, .int .u32 0, .bool false] 99)).alloc (.cells #[.int .u32 0, .int .u32 0, .bool false] 99)) := (room_cells W 3 (by decide)).alloc _
theorem room_GlobalType (W : World) : Room W.heap.size 2 ((W.alloc (.cells #[.int .u8 0, .bool false] 101)).alloc (.cells #[.int .u8 0, .bool false] 101)) := (room_cells W 2 (by decide)).alloc _
theorem room_FuncType (W : World) : Room W.heap.size 2 ((W.alloc (.cells #[.slice none 0 0, .slice none 0 0] 96)).alloc (.cells #[.slice none 0 0, .slice none 0 0] 96)) := (room_cells W 2 (by decide)).alloc _
theorem none_Limits (W : World) : At3 (W.heap.size + 1) (.int .u32 0) (.int .u32 0) (.bool false) ((W.alloc (.cells #[.int .u32 0, .int .u32 0, .bool false] 99)).alloc (.cells #[.int .u32 0, .int .u32 0, .bool false] 99)) := by unfold At3; simp [go_sem]
theorem none_GlobalType (W : World) : At2 (W.heap.size + 1) (.int .u8 0) (.bool false) ((W.alloc (.cells #[.int .u8 0, .bool false] 101)).alloc (.cells #[.int .u8 0, .bool false] 101)) := by unfold At2; simp [go_sem]
theorem none_FuncType (W : World) : At2 (W.heap.size + 1) (.slice none 0 0) (.slice none 0 0) ((W.alloc (.cells #[.slice none 0 0, .slice none 0 0] 96)).alloc (.cells #[.slice none 0 0, .slice none 0 0] 96)) := by unfold At2; simp [go_sem]
theorem Room.at2 {b : Nat} {w : World} (h : Room b 2 w) (x y : Value) : At2 b x y ((w.setCell ⟨b, 0, none⟩ x).setCell ⟨b, 1, none⟩ y) := by
  obtain ⟨⟨u0, h0⟩, -⟩ := h 0 (by decide)
  obtain ⟨⟨u1, h1⟩, -⟩ := h 1 (by decide)
  exact ⟨cell_set_off (by decide) (cell_set_same h0), cell_set_same (cell_set_off (by decide) h1)⟩
theorem Room.at3 {b : Nat} {w : World} (h : Room b 3 w) (x y z : Value) : At3 b x y z (((w.setCell ⟨b, 0, none⟩ x).setCell ⟨b, 1, none⟩ y).setCell ⟨b, 2, none⟩ z) := by
  obtain ⟨⟨u0, h0⟩, -⟩ := h 0 (by decide)
  obtain ⟨⟨u1, h1⟩, -⟩ := h 1 (by decide)
  obtain ⟨⟨u2, h2⟩, -⟩ := h 2 (by decide)
  exact ⟨cell_set_off (by decide) (cell_set_off (by decide) (cell_set_same h0)), cell_set_off (by decide) (cell_set_same (cell_set_off (by decide) h1)), cell_set_same (cell_set_off (by decide) (cell_set_off (by decide) h2))⟩
theorem nwS {n m : Nat} {x1 : Option Addr} {x2 x3 : Nat} {ys : List Int} {w : World} {o : Obj} {x y : Value} (h : Nw m x1 x2 x3 ys w) (hm : m = n + 2) : Nw n x1 x2 x3 ys (((w.alloc o).setCell ⟨n, 0, none⟩ x).setCell ⟨n, 1, none⟩ y) :=
  ((h.bel (below1 _ _)).fr ((Fr.refl [n] _).set2 (Or.inl (by simp)) _ _) (by simp; omega)).mono (by omega)
set_option maxHeartbeats 1000000 in
set_option maxRecDepth 100000 in
theorem dead_Limits {c : Nat} {a : Option Addr} {len cap k : Nat} {e : Int} {W : World} {F : Value} (h : Cu c a len cap k e W) (he : e ≠ 0) : Calls Tryz.prog 141 #[.pointer (some ⟨c, 0, none⟩), F] W fun r W' => r = .returned (.agg #[.int .u32 0, .int .u32 0, .bool false]) ∧ Fr [] W W' := by
  have HF := hide (fun W => failed_any (c := c) (a := a) (len := len) (cap := cap) (k := k) (e := e) (W := W))
  have d : (e != 0) = true := bne_iff_ne.2 he
  rw [d] at HF
  have H := hide h
  clear h he d
  go_enter Tryz.func141, Tryz.ntmps141
  go_wp2_with fail
  refine (unhide HF _ ((unhide H).bel (below2 _ _ _))).mono ?_
  rintro _ w1 ⟨rfl, rfl⟩
  go_wp2_with fail
  exact bodyPost_ret (v := .agg #[.int .u32 0, .int .u32 0, .bool false]) (by simp [results, Tryz.results141, go_sem]) rfl ⟨rfl, Fr.of (below2 _ _ _) _⟩
set_option maxHeartbeats 1000000 in
set_option maxRecDepth 100000 in
theorem dead_GlobalType {c : Nat} {a : Option Addr} {len cap k : Nat} {e : Int} {W : World} {F : Value} (h : Cu c a len cap k e W) (he : e ≠ 0) : Calls Tryz.prog 145 #[.pointer (some ⟨c, 0, none⟩), F] W fun r W' => r = .returned (.agg #[.int .u8 0, .bool false]) ∧ Fr [] W W' := by
  have HF := hide (fun W => failed_any (c := c) (a := a) (len := len) (cap := cap) (k := k) (e := e) (W := W))
  have d : (e != 0) = true := bne_iff_ne.2 he
  rw [d] at HF
  have H := hide h
  clear h he d
  go_enter Tryz.func145, Tryz.ntmps145
  go_wp2_with fail
  refine (unhide HF _ ((unhide H).bel (below2 _ _ _))).mono ?_
  rintro _ w1 ⟨rfl, rfl⟩
  go_wp2_with fail
  exact bodyPost_ret (v := .agg #[.int .u8 0, .bool false]) (by simp [results, Tryz.results145, go_sem]) rfl ⟨rfl, Fr.of (below2 _ _ _) _⟩
set_option maxHeartbeats 1000000 in
set_option maxRecDepth 100000 in
theorem dead_FuncType {c : Nat} {a : Option Addr} {len cap k : Nat} {e : Int} {W : World} {F : Value} (h : Cu c a len cap k e W) (he : e ≠ 0) : Calls Tryz.prog 138 #[.pointer (some ⟨c, 0, none⟩), F] W fun r W' => r = .returned (.agg #[.slice none 0 0, .slice none 0 0]) ∧ Fr [] W W' := by
  have HF := hide (fun W => failed_any (c := c) (a := a) (len := len) (cap := cap) (k := k) (e := e) (W := W))
  have d : (e != 0) = true := bne_iff_ne.2 he
  rw [d] at HF
  have H := hide h
  clear h he d
  go_enter Tryz.func138, Tryz.ntmps138
  go_wp2_with fail
  refine (unhide HF _ ((unhide H).bel (below2 _ _ _))).mono ?_
  rintro _ w1 ⟨rfl, rfl⟩
  go_wp2_with fail
  exact bodyPost_ret (v := .agg #[.slice none 0 0, .slice none 0 0]) (by simp [results, Tryz.results138, go_sem]) rfl ⟨rfl, Fr.of (below2 _ _ _) _⟩
set_option maxHeartbeats 1000000 in
set_option maxRecDepth 100000 in
theorem read_33 {c : Nat} {a : Option Addr} {len cap k k1 : Nat} {xs : List Int} {e1 : Int} {W : World} {p1 : Nat} {B : World → Prop} {x y : Int} {z : Bool} (hB : ∀ w w', B w → Below w.heap.size w w' → B w')
    (HG : Hid (∀ W, Cs c a len cap xs k 0 W → B W → Calls Tryz.prog 143 #[.pointer (some ⟨p1, 0, none⟩)] W fun r W' => r = .returned (.agg #[.int .u32 x, .int .u32 y, .bool z]) ∧ Cs c a len cap xs k1 e1 W' ∧ Fr [c] W W'))
    (h : Cs c a len cap xs k 0 W) (HB : Hid (B W)) :
    Calls Tryz.prog 141 #[.pointer (some ⟨c, 0, none⟩), .func (.func 143) #[] #[.pointer (some ⟨p1, 0, none⟩)]] W fun r W' => r = .returned (pk e1 (.agg #[.int .u32 x, .int .u32 y, .bool z]) (.agg #[.int .u32 0, .int .u32 0, .bool false])) ∧ Cs c a len cap xs (back e1 k1 k) e1 W' ∧ Fr [c] W W' := by
  have HD := hide (fun k e W => failed_any (c := c) (a := a) (len := len) (cap := cap) (k := k) (e := e) (W := W))
  have hk := hide h.2.2.2.2.1
  have hcl := h.1.lt
  have H := hide h
  clear h
  have hN : W.heap.size ≠ c := by omega
  have hN' : W.heap.size + 1 ≠ c := by omega
  go_enter Tryz.func141, Tryz.ntmps141
  go_wp2_with fail
  refine (unhide HD k 0 _ ((unhide H).bel (below2 _ _ _)).1).mono ?_
  rintro _ w1 ⟨rfl, rfl⟩
  have h1 := ((unhide H).bel (below2 W (.cells #[.int .u32 0, .int .u32 0, .bool false] 99) (.cells #[.int .u32 0, .int .u32 0, .bool false] 99))).1.2.1
  go_wp2_with fail
  have HB := hide (hB _ _ (unhide HB) (below2 W (.cells #[.int .u32 0, .int .u32 0, .bool false] 99) (.cells #[.int .u32 0, .int .u32 0, .bool false] 99)))
  have HR := hide (room_Limits W)
  have HN := hide (none_Limits W)
  have HF := hide (Fr.of (below2 W (.cells #[.int .u32 0, .int .u32 0, .bool false] 99) (.cells #[.int .u32 0, .int .u32 0, .bool false] 99)) [c])
  refine (unhide HG _ ((unhide H).bel (below2 _ _ _)) (unhide HB)).mono ?_
  rintro _ w2 ⟨rfl, hC, hF⟩
  have HC := hide hC
  have HR := hide ((unhide HR).fr hF (by simpa using hN))
  have HN := hide ((unhide HN).fr hF (by simpa using hN'))
  have HF := hide ((unhide HF).trans hF)
  clear hC hF h1
  go_wp2_with fail
  refine (unhide HD k1 e1 _ ((unhide HC).bel (below1 _ _)).1).mono ?_
  rintro _ w3 ⟨rfl, rfl⟩
  by_cases he : e1 = 0
  · subst he
    have HR := hide ((unhide HR).alloc (.cells #[.int .u32 x, .int .u32 y, .bool z] 99))
    obtain ⟨⟨u0, r0⟩, g0⟩ := unhide HR 0 (by decide)
    obtain ⟨⟨u1, r1⟩, g1⟩ := unhide HR 1 (by decide)
    obtain ⟨⟨u2, r2⟩, g2⟩ := unhide HR 2 (by decide)
    go_wp2_with fail
    obtain ⟨j0, j1, j2⟩ := (unhide HR).at3 (.int .u32 x) (.int .u32 y) (.bool z)
    exact bodyPost_ret (v := .agg #[.int .u32 x, .int .u32 y, .bool z]) (by simp [results, Tryz.results141, go_sem, j0, j1, j2]) rfl ⟨rfl, ((unhide HC).alloc _).new (unhide H) ((Fr.refl [W.heap.size] _).set3 (Or.inl (by simp)) _ _ _) (by simp), ((unhide HF).alloc _).set3 (Or.inr (Nat.le_refl _)) _ _ _⟩
  · have d : (e1 != 0) = true := bne_iff_ne.2 he
    have HC := hide ((unhide HC).alloc (.cells #[.int .u32 x, .int .u32 y, .bool z] 99))
    obtain ⟨q0, q1, q2, qz⟩ := (unhide HC).1
    have f1 := qz 1 (by decide)
    clear qz q0 q2
    have HN := hide ((unhide HN).fr ((Fr.refl [] _).alloc (.cells #[.int .u32 x, .int .u32 y, .bool z] 99)) (by simp))
    obtain ⟨n0, n1, n2⟩ := unhide HN
    have HR := hide ((unhide HR).alloc (.cells #[.int .u32 x, .int .u32 y, .bool z] 99))
    obtain ⟨⟨u0, r0⟩, g0⟩ := unhide HR 0 (by decide)
    obtain ⟨⟨u1, r1⟩, g1⟩ := unhide HR 1 (by decide)
    obtain ⟨⟨u2, r2⟩, g2⟩ := unhide HR 2 (by decide)
    go_wp2_with fail
    obtain ⟨j0, j1, j2⟩ := ((unhide HR).fr (l := [c]) ((Fr.refl _ _).place 1 (.int .i64 (k : Int))) (by simpa using hN)).at3 (.int .u32 0) (.int .u32 0) (.bool false)
    exact bodyPost_ret (v := .agg #[.int .u32 0, .int .u32 0, .bool false]) (by simp [results, Tryz.results141, go_sem, j0, j1, j2]) rfl ⟨by rw [pk_e he], by rw [back_e he]; exact ((unhide HC).place k (unhide hk)).new (unhide H) ((Fr.refl [W.heap.size] _).set3 (Or.inl (by simp)) _ _ _) (by simp), (((unhide HF).alloc _).place _ _).set3 (Or.inr (Nat.le_refl _)) _ _ _⟩
set_option maxHeartbeats 1000000 in
set_option maxRecDepth 100000 in
theorem read_43 {c : Nat} {a : Option Addr} {len cap k k1 : Nat} {xs : List Int} {e1 : Int} {W : World} {p1 : Nat} {B : World → Prop} {x y : Int} {z : Bool} (hB : ∀ w w', B w → Below w.heap.size w w' → B w')
    (HG : Hid (∀ W, Cs c a len cap xs k 0 W → B W → Calls Tryz.prog 142 #[.pointer (some ⟨p1, 0, none⟩)] W fun r W' => r = .returned (.agg #[.int .u32 x, .int .u32 y, .bool z]) ∧ Cs c a len cap xs k1 e1 W' ∧ Fr [c] W W'))
    (h : Cs c a len cap xs k 0 W) (HB : Hid (B W)) :
    Calls Tryz.prog 141 #[.pointer (some ⟨c, 0, none⟩), .func (.func 142) #[] #[.pointer (some ⟨p1, 0, none⟩)]] W fun r W' => r = .returned (pk e1 (.agg #[.int .u32 x, .int .u32 y, .bool z]) (.agg #[.int .u32 0, .int .u32 0, .bool false])) ∧ Cs c a len cap xs (back e1 k1 k) e1 W' ∧ Fr [c] W W' := by
  have HD := hide (fun k e W => failed_any (c := c) (a := a) (len := len) (cap := cap) (k := k) (e := e) (W := W))
  have hk := hide h.2.2.2.2.1
  have hcl := h.1.lt
  have H := hide h
  clear h
  have hN : W.heap.size ≠ c := by omega
  have hN' : W.heap.size + 1 ≠ c := by omega
  go_enter Tryz.func141, Tryz.ntmps141
  go_wp2_with fail
  refine (unhide HD k 0 _ ((unhide H).bel (below2 _ _ _)).1).mono ?_
  rintro _ w1 ⟨rfl, rfl⟩
  have h1 := ((unhide H).bel (below2 W (.cells #[.int .u32 0, .int .u32 0, .bool false] 99) (.cells #[.int .u32 0, .int .u32 0, .bool false] 99))).1.2.1
  go_wp2_with fail
  have HB := hide (hB _ _ (unhide HB) (below2 W (.cells #[.int .u32 0, .int .u32 0, .bool false] 99) (.cells #[.int .u32 0, .int .u32 0, .bool false] 99)))
  have HR := hide (room_Limits W)
  have HN := hide (none_Limits W)
  have HF := hide (Fr.of (below2 W (.cells #[.int .u32 0, .int .u32 0, .bool false] 99) (.cells #[.int .u32 0, .int .u32 0, .bool false] 99)) [c])
  refine (unhide HG _ ((unhide H).bel (below2 _ _ _)) (unhide HB)).mono ?_
  rintro _ w2 ⟨rfl, hC, hF⟩
  have HC := hide hC
  have HR := hide ((unhide HR).fr hF (by simpa using hN))
  have HN := hide ((unhide HN).fr hF (by simpa using hN'))
  have HF := hide ((unhide HF).trans hF)
  clear hC hF h1
  go_wp2_with fail
  refine (unhide HD k1 e1 _ ((unhide HC).bel (below1 _ _)).1).mono ?_
  rintro _ w3 ⟨rfl, rfl⟩
  by_cases he : e1 = 0
  · subst he
    have HR := hide ((unhide HR).alloc (.cells #[.int .u32 x, .int .u32 y, .bool z] 99))
    obtain ⟨⟨u0, r0⟩, g0⟩ := unhide HR 0 (by decide)
    obtain ⟨⟨u1, r1⟩, g1⟩ := unhide HR 1 (by decide)
    obtain ⟨⟨u2, r2⟩, g2⟩ := unhide HR 2 (by decide)
    go_wp2_with fail
    obtain ⟨j0, j1, j2⟩ := (unhide HR).at3 (.int .u32 x) (.int .u32 y) (.bool z)
    exact bodyPost_ret (v := .agg #[.int .u32 x, .int .u32 y, .bool z]) (by simp [results, Tryz.results141, go_sem, j0, j1, j2]) rfl ⟨rfl, ((unhide HC).alloc _).new (unhide H) ((Fr.refl [W.heap.size] _).set3 (Or.inl (by simp)) _ _ _) (by simp), ((unhide HF).alloc _).set3 (Or.inr (Nat.le_refl _)) _ _ _⟩
  · have d : (e1 != 0) = true := bne_iff_ne.2 he
    have HC := hide ((unhide HC).alloc (.cells #[.int .u32 x, .int .u32 y, .bool z] 99))
    obtain ⟨q0, q1, q2, qz⟩ := (unhide HC).1
    have f1 := qz 1 (by decide)
    clear qz q0 q2
    have HN := hide ((unhide HN).fr ((Fr.refl [] _).alloc (.cells #[.int .u32 x, .int .u32 y, .bool z] 99)) (by simp))
    obtain ⟨n0, n1, n2⟩ := unhide HN
    have HR := hide ((unhide HR).alloc (.cells #[.int .u32 x, .int .u32 y, .bool z] 99))
    obtain ⟨⟨u0, r0⟩, g0⟩ := unhide HR 0 (by decide)
    obtain ⟨⟨u1, r1⟩, g1⟩ := unhide HR 1 (by decide)
    obtain ⟨⟨u2, r2⟩, g2⟩ := unhide HR 2 (by decide)
    go_wp2_with fail
    obtain ⟨j0, j1, j2⟩ := ((unhide HR).fr (l := [c]) ((Fr.refl _ _).place 1 (.int .i64 (k : Int))) (by simpa using hN)).at3 (.int .u32 0) (.int .u32 0) (.bool false)
    exact bodyPost_ret (v := .agg #[.int .u32 0, .int .u32 0, .bool false]) (by simp [results, Tryz.results141, go_sem, j0, j1, j2]) rfl ⟨by rw [pk_e he], by rw [back_e he]; exact ((unhide HC).place k (unhide hk)).new (unhide H) ((Fr.refl [W.heap.size] _).set3 (Or.inl (by simp)) _ _ _) (by simp), (((unhide HF).alloc _).place _ _).set3 (Or.inr (Nat.le_refl _)) _ _ _⟩
set_option maxHeartbeats 1000000 in
set_option maxRecDepth 100000 in
theorem read_40 {c : Nat} {a : Option Addr} {len cap k k1 : Nat} {xs : List Int} {e1 : Int} {W : World} {p1 : Nat} {B : World → Prop} {x : Int} {z : Bool} (hB : ∀ w w', B w → Below w.heap.size w w' → B w')
    (HG : Hid (∀ W, Cs c a len cap xs k 0 W → B W → Calls Tryz.prog 146 #[.pointer (some ⟨p1, 0, none⟩)] W fun r W' => r = .returned (.agg #[.int .u8 x, .bool z]) ∧ Cs c a len cap xs k1 e1 W' ∧ Fr [c] W W'))
    (h : Cs c a len cap xs k 0 W) (HB : Hid (B W)) :
    Calls Tryz.prog 145 #[.pointer (some ⟨c, 0, none⟩), .func (.func 146) #[] #[.pointer (some ⟨p1, 0, none⟩)]] W fun r W' => r = .returned (pk e1 (.agg #[.int .u8 x, .bool z]) (.agg #[.int .u8 0, .bool false])) ∧ Cs c a len cap xs (back e1 k1 k) e1 W' ∧ Fr [c] W W' := by
  have HD := hide (fun k e W => failed_any (c := c) (a := a) (len := len) (cap := cap) (k := k) (e := e) (W := W))
  have hk := hide h.2.2.2.2.1
  have hcl := h.1.lt
  have H := hide h
  clear h
  have hN : W.heap.size ≠ c := by omega
  have hN' : W.heap.size + 1 ≠ c := by omega
  go_enter Tryz.func145, Tryz.ntmps145
  go_wp2_with fail
  refine (unhide HD k 0 _ ((unhide H).bel (below2 _ _ _)).1).mono ?_
  rintro _ w1 ⟨rfl, rfl⟩
  have h1 := ((unhide H).bel (below2 W (.cells #[.int .u8 0, .bool false] 101) (.cells #[.int .u8 0, .bool false] 101))).1.2.1
  go_wp2_with fail
  have HB := hide (hB _ _ (unhide HB) (below2 W (.cells #[.int .u8 0, .bool false] 101) (.cells #[.int .u8 0, .bool false] 101)))
  have HR := hide (room_GlobalType W)
  have HN := hide (none_GlobalType W)
  have HF := hide (Fr.of (below2 W (.cells #[.int .u8 0, .bool false] 101) (.cells #[.int .u8 0, .bool false] 101)) [c])
  refine (unhide HG _ ((unhide H).bel (below2 _ _ _)) (unhide HB)).mono ?_
  rintro _ w2 ⟨rfl, hC, hF⟩
  have HC := hide hC
  have HR := hide ((unhide HR).fr hF (by simpa using hN))
  have HN := hide ((unhide HN).fr hF (by simpa using hN'))
  have HF := hide ((unhide HF).trans hF)
  clear hC hF h1
  go_wp2_with fail
  refine (unhide HD k1 e1 _ ((unhide HC).bel (below1 _ _)).1).mono ?_
  rintro _ w3 ⟨rfl, rfl⟩
  by_cases he : e1 = 0
  · subst he
    have HR := hide ((unhide HR).alloc (.cells #[.int .u8 x, .bool z] 101))
    obtain ⟨⟨u0, r0⟩, g0⟩ := unhide HR 0 (by decide)
    obtain ⟨⟨u1, r1⟩, g1⟩ := unhide HR 1 (by decide)
    go_wp2_with fail
    obtain ⟨j0, j1⟩ := (unhide HR).at2 (.int .u8 x) (.bool z)
    exact bodyPost_ret (v := .agg #[.int .u8 x, .bool z]) (by simp [results, Tryz.results145, go_sem, j0, j1]) rfl ⟨rfl, ((unhide HC).alloc _).new (unhide H) ((Fr.refl [W.heap.size] _).set2 (Or.inl (by simp)) _ _) (by simp), ((unhide HF).alloc _).set2 (Or.inr (Nat.le_refl _)) _ _⟩
  · have d : (e1 != 0) = true := bne_iff_ne.2 he
    have HC := hide ((unhide HC).alloc (.cells #[.int .u8 x, .bool z] 101))
    obtain ⟨q0, q1, q2, qz⟩ := (unhide HC).1
    have f1 := qz 1 (by decide)
    clear qz q0 q2
    have HN := hide ((unhide HN).fr ((Fr.refl [] _).alloc (.cells #[.int .u8 x, .bool z] 101)) (by simp))
    obtain ⟨n0, n1⟩ := unhide HN
    have HR := hide ((unhide HR).alloc (.cells #[.int .u8 x, .bool z] 101))
    obtain ⟨⟨u0, r0⟩, g0⟩ := unhide HR 0 (by decide)
    obtain ⟨⟨u1, r1⟩, g1⟩ := unhide HR 1 (by decide)
    go_wp2_with fail
    obtain ⟨j0, j1⟩ := ((unhide HR).fr (l := [c]) ((Fr.refl _ _).place 1 (.int .i64 (k : Int))) (by simpa using hN)).at2 (.int .u8 0) (.bool false)
    exact bodyPost_ret (v := .agg #[.int .u8 0, .bool false]) (by simp [results, Tryz.results145, go_sem, j0, j1]) rfl ⟨by rw [pk_e he], by rw [back_e he]; exact ((unhide HC).place k (unhide hk)).new (unhide H) ((Fr.refl [W.heap.size] _).set2 (Or.inl (by simp)) _ _) (by simp), (((unhide HF).alloc _).place _ _).set2 (Or.inr (Nat.le_refl _)) _ _⟩
set_option maxHeartbeats 1000000 in
set_option maxRecDepth 100000 in
theorem read_29 {c : Nat} {a : Option Addr} {len cap k k1 : Nat} {xs : List Int} {e1 : Int} {W : World} {p1 : Nat} {B : World → Prop} {ys zs : List Int} (hB : ∀ w w', B w → Below w.heap.size w w' → B w')
    (HG : Hid (∀ W, Cs c a len cap xs k 0 W → B W → Calls Tryz.prog 139 #[.pointer (some ⟨p1, 0, none⟩)] W fun r W' => ∃ x1 x2 x3 y1 y2 y3, r = .returned (.agg #[.slice x1 x2 x3, .slice y1 y2 y3]) ∧ Nw W.heap.size x1 x2 x3 ys W' ∧ Nw W.heap.size y1 y2 y3 zs W' ∧ Cs c a len cap xs k1 e1 W' ∧ Fr [c] W W'))
    (h : Cs c a len cap xs k 0 W) (HB : Hid (B W)) :
    Calls Tryz.prog 138 #[.pointer (some ⟨c, 0, none⟩), .func (.func 139) #[] #[.pointer (some ⟨p1, 0, none⟩)]] W fun r W' => ∃ x1 x2 x3 y1 y2 y3, r = .returned (.agg #[.slice x1 x2 x3, .slice y1 y2 y3]) ∧ Nw W.heap.size x1 x2 x3 (pk e1 ys []) W' ∧ Nw W.heap.size y1 y2 y3 (pk e1 zs []) W' ∧ Cs c a len cap xs (back e1 k1 k) e1 W' ∧ Fr [c] W W' := by
  have HD := hide (fun k e W => failed_any (c := c) (a := a) (len := len) (cap := cap) (k := k) (e := e) (W := W))
  have hk := hide h.2.2.2.2.1
  have hcl := h.1.lt
  have H := hide h
  clear h
  have hN : W.heap.size ≠ c := by omega
  have hN' : W.heap.size + 1 ≠ c := by omega
  go_enter Tryz.func138, Tryz.ntmps138
  go_wp2_with fail
  refine (unhide HD k 0 _ ((unhide H).bel (below2 _ _ _)).1).mono ?_
  rintro _ w1 ⟨rfl, rfl⟩
  have h1 := ((unhide H).bel (below2 W (.cells #[.slice none 0 0, .slice none 0 0] 96) (.cells #[.slice none 0 0, .slice none 0 0] 96))).1.2.1
  go_wp2_with fail
  have HB := hide (hB _ _ (unhide HB) (below2 W (.cells #[.slice none 0 0, .slice none 0 0] 96) (.cells #[.slice none 0 0, .slice none 0 0] 96)))
  have HR := hide (room_FuncType W)
  have HN := hide (none_FuncType W)
  have HF := hide (Fr.of (below2 W (.cells #[.slice none 0 0, .slice none 0 0] 96) (.cells #[.slice none 0 0, .slice none 0 0] 96)) [c])
  refine (unhide HG _ ((unhide H).bel (below2 _ _ _)) (unhide HB)).mono ?_
  rintro _ w2 ⟨x1, x2, x3, y1, y2, y3, rfl, hv1, hv2, hC, hF⟩
  have HV1 := hide hv1
  have HV2 := hide hv2
  clear hv1 hv2
  have HC := hide hC
  have HR := hide ((unhide HR).fr hF (by simpa using hN))
  have HN := hide ((unhide HN).fr hF (by simpa using hN'))
  have HF := hide ((unhide HF).trans hF)
  clear hC hF h1
  go_wp2_with fail
  refine (unhide HD k1 e1 _ ((unhide HC).bel (below1 _ _)).1).mono ?_
  rintro _ w3 ⟨rfl, rfl⟩
  by_cases he : e1 = 0
  · subst he
    have HR := hide ((unhide HR).alloc (.cells #[.slice x1 x2 x3, .slice y1 y2 y3] 96))
    obtain ⟨⟨u0, r0⟩, g0⟩ := unhide HR 0 (by decide)
    obtain ⟨⟨u1, r1⟩, g1⟩ := unhide HR 1 (by decide)
    go_wp2_with fail
    obtain ⟨j0, j1⟩ := (unhide HR).at2 (.slice x1 x2 x3) (.slice y1 y2 y3)
    exact bodyPost_ret (v := .agg #[.slice x1 x2 x3, .slice y1 y2 y3]) (by simp [results, Tryz.results138, go_sem, j0, j1]) rfl ⟨x1, x2, x3, y1, y2, y3, rfl, nwS (unhide HV1) (by simp), nwS (unhide HV2) (by simp), ((unhide HC).alloc _).new (unhide H) ((Fr.refl [W.heap.size] _).set2 (Or.inl (by simp)) _ _) (by simp), ((unhide HF).alloc _).set2 (Or.inr (Nat.le_refl _)) _ _⟩
  · have d : (e1 != 0) = true := bne_iff_ne.2 he
    have HC := hide ((unhide HC).alloc (.cells #[.slice x1 x2 x3, .slice y1 y2 y3] 96))
    obtain ⟨q0, q1, q2, qz⟩ := (unhide HC).1
    have f1 := qz 1 (by decide)
    clear qz q0 q2
    have HN := hide ((unhide HN).fr ((Fr.refl [] _).alloc (.cells #[.slice x1 x2 x3, .slice y1 y2 y3] 96)) (by simp))
    obtain ⟨n0, n1⟩ := unhide HN
    have HR := hide ((unhide HR).alloc (.cells #[.slice x1 x2 x3, .slice y1 y2 y3] 96))
    obtain ⟨⟨u0, r0⟩, g0⟩ := unhide HR 0 (by decide)
    obtain ⟨⟨u1, r1⟩, g1⟩ := unhide HR 1 (by decide)
    go_wp2_with fail
    obtain ⟨j0, j1⟩ := ((unhide HR).fr (l := [c]) ((Fr.refl _ _).place 1 (.int .i64 (k : Int))) (by simpa using hN)).at2 (.slice none 0 0) (.slice none 0 0)
    exact bodyPost_ret (v := .agg #[.slice none 0 0, .slice none 0 0]) (by simp [results, Tryz.results138, go_sem, j0, j1]) rfl ⟨_, _, _, _, _, _, rfl, by rw [pk_e he]; exact nw_nil _ _, by rw [pk_e he]; exact nw_nil _ _, by rw [back_e he]; exact ((unhide HC).place k (unhide hk)).new (unhide H) ((Fr.refl [W.heap.size] _).set2 (Or.inl (by simp)) _ _) (by simp), (((unhide HF).alloc _).place _ _).set2 (Or.inr (Nat.le_refl _)) _ _⟩
end Go.Proofs.YtjoonmpjcophnaaGreatDoor

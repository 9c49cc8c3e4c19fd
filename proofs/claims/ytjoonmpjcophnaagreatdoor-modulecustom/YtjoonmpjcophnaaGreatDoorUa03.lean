/- Set2, Laid. -/
import Derived.Test.YtjoonmpjcophnaaGreatDoorUa01
import Derived.Test.YtjoonmpjcophnaaGreatDoorTie
import Derived.ProofKit
import Derived.LaidMore
import Derived.OpenShut
import Derived.Stop.Joined
import Derived.Lib.SmallJoins
namespace Go.Proofs.YtjoonmpjcophnaaGreatDoor
open Go.RowKit
def At4 (b : Nat) (x y z u : Value) (w : World) : Prop := w.cell? ⟨b, 0, none⟩ = some x ∧ w.cell? ⟨b, 1, none⟩ = some y ∧ w.cell? ⟨b, 2, none⟩ = some z ∧ w.cell? ⟨b, 3, none⟩ = some u
theorem At4.below {b : Nat} {x y z u : Value} {w w' : World} (h : At4 b x y z u w) (hb : Below w.heap.size w w') : At4 b x y z u w' :=
  have hz := lt_of_cell h.1
  ⟨keep1 hb hz h.1, keep1 hb hz h.2.1, keep1 hb hz h.2.2.1, keep1 hb hz h.2.2.2⟩
theorem at4_new (w : World) (x y z u : Value) (t : TypeId) : At4 w.heap.size x y z u (w.alloc (.cells #[x, y, z, u] t)) := by unfold At4; simp [go_sem]

theorem at2_new (w : World) (x y : Value) (t : TypeId) : At2 w.heap.size x y (w.alloc (.cells #[x, y] t)) := by unfold At2; simp [go_sem]
end Go.Proofs.YtjoonmpjcophnaaGreatDoor
namespace Go.Proofs.YtjoonmpjcophnaaGreatDoor
open Go.RowKit
open Go.ChangeShapes Go.WideShapes Go.ChangeAt Go.WideElems Go.Joins

def laidL : List (String × DataW Unit) := [("trunnion/numeric.groups", Rows.laid_trunnion_numeric_groups), ("trunnion/numeric.changed", Rows.laid_trunnion_numeric_changed), ("trunnion/numeric.stopped", Rows.laid_trunnion_numeric_stopped)]
theorem own : ownKnob Tryz.prog.godebug = none := by kernel_rfl
theorem gv0 : Tryz.prog.globalNamed "trunnion/numeric.groups" = some 1 := by kernel_rfl
theorem tv0 : (Tryz.prog.globals[1]?).map (·.type) = some 268 := by kernel_rfl
theorem gv1 : Tryz.prog.globalNamed "trunnion/numeric.changed" = some 2 := by kernel_rfl
theorem tv1 : (Tryz.prog.globals[2]?).map (·.type) = some 269 := by kernel_rfl
theorem gv2 : Tryz.prog.globalNamed "trunnion/numeric.stopped" = some 3 := by kernel_rfl
theorem tv2 : (Tryz.prog.globals[3]?).map (·.type) = some 270 := by kernel_rfl
/-- The heap that the initialiser leaves meets the condition. -/
theorem door_met (os : Os) (args : Array Value) : laidMetH Tryz.prog laidL ((World.doorLaid Tryz.prog 400 os).forCall (fun _ _ => 0) ⟨#[], args, []⟩).memory :=
  laidMetH_of_parts3 (fuel := 8) (laidMet_of_run' 8 (by kernel_rfl) (by kernel_rfl)) (by kernel_rfl) (by kernel_rfl)
theorem cvI : Tryz.prog.cellsOf 3 = 1 := by kernel_rfl
theorem cvB : Tryz.prog.cellsOf 5 = 1 := by kernel_rfl
theorem cvG : Tryz.prog.cellsOf 262 = 4 := by kernel_rfl
theorem cvT : Tryz.prog.cellsOf 266 = 2 := by kernel_rfl
/-- Where each part lies as it should, the whole does. -/
theorem tab_parts {W : World} {g s : Nat} {cs : List Value} {α : Type} (D : List α) (c : α → List Value) (h : ∀ i a, D[i]? = some a → (cs.drop (i * s)).take s = c a) (hc : ∀ o, W.cell? ⟨g, o, none⟩ = cs[o]?) : Tab W g (D.flatMap c) := by
  have key : ∀ k, k ≤ D.length → (D.take k).flatMap c = cs.take (k * s) := by
    intro k
    induction k with
    | zero => intro _; simp
    | succ k ih =>
      intro hk
      have hg : D[k]? = some D[k] := List.getElem?_eq_getElem (by omega)
      rw [List.take_add_one, List.flatMap_append, ih (by omega), hg, Nat.add_mul, Nat.one_mul, List.take_add, h k _ hg]
      simp
  intro j v hv
  rw [← List.take_length (l := D), key _ (Nat.le_refl _)] at hv
  rw [hc j]
  rw [List.getElem?_take] at hv
  split at hv
  · exact hv
  · simp at hv
theorem tab_laid {H : Type} {enc : TypeId × Value → H} {W : World} {base : Nat} {sp : Nat → Bool} {hd : Bool} {m n g s : Nat} {e : TypeId} {cs : List Value} {xs : List (DataW H × List MemPlace)} {α : Type} (D : List α) (d : α → DataW H) (c : α → List Value) (hn : D.length = n)
    (hel : ∀ i, i < n → DataW.trod enc Tryz.prog W base sp hd m e ((cs.drop (i * s)).take s) = xs[i]?) (hx : D.map d = xs.map (·.1)) (hE : ∀ a x cs', DataW.trod enc Tryz.prog W base sp hd m e cs' = some x → x.1 = d a → cs' = c a) (hc : ∀ o, W.cell? ⟨g, o, none⟩ = cs[o]?) : Tab W g (D.flatMap c) := by
  refine tab_parts (s := s) D c (fun i a ha => ?_) hc
  have hi : i < D.length := by
    rcases List.getElem?_eq_some_iff.1 ha with ⟨h, _⟩
    exact h
  have h1 := congrArg (·[i]?) hx
  simp only [List.getElem?_map, ha, Option.map_some] at h1
  have h2 := hel i (by omega)
  cases hx' : xs[i]? with
  | none => rw [hx'] at h1; simp at h1
  | some x =>
    rw [hx'] at h1 h2
    simp only [Option.map_some, Option.some.injEq] at h1
    exact hE a x _ h2 h1.symm
set_option maxRecDepth 100000 in
theorem el_typed {H : Type} {enc : TypeId × Value → H} {W : World} {base : Nat} {sp : Nat → Bool} {hd : Bool} {n : Nat} (p : Int × Int) (x : DataW H × List MemPlace) (cs : List Value)
    (h : DataW.trod enc Tryz.prog W base sp hd n 266 cs = some x) (hx : x.1 = .agg [.lit (.int .u8 p.1), .lit (.int .u8 p.2)]) : cs = [.int .u8 p.1, .int .u8 p.2] := by
  obtain ⟨y0, y1, m, rfl, hl, h0, h1⟩ := trod_struct2 Tryz.underlying266 h
  rw [cvT] at hl
  obtain ⟨k0, e0, rfl, -⟩ := DataW.trod_int Tryz.underlying5 h0
  obtain ⟨k1, e1, rfl, -⟩ := DataW.trod_int Tryz.underlying5 h1
  simp only [DataW.agg.injEq, List.cons.injEq, DataW.lit.injEq, Lit.int.injEq, true_and, and_true] at hx
  obtain ⟨rfl, rfl⟩ := hx
  match cs, hl with
  | [v0, v1], _ =>
    simp [cvB] at e0
    simp [cvB] at e1
    rw [e0, e1]
set_option maxRecDepth 100000 in
theorem el_group {H : Type} {enc : TypeId × Value → H} {W : World} {base : Nat} {sp : Nat → Bool} {hd : Bool} {n : Nat} (p : Int × Int × Int × Int) (x : DataW H × List MemPlace) (cs : List Value)
    (h : DataW.trod enc Tryz.prog W base sp hd n 262 cs = some x) (hx : x.1 = .agg [.lit (.int .i64 p.1), .lit (.int .i64 p.2.1), .lit (.int .i64 p.2.2.1), .lit (.int .u8 p.2.2.2)]) : cs = [.int .i64 p.1, .int .i64 p.2.1, .int .i64 p.2.2.1, .int .u8 p.2.2.2] := by
  obtain ⟨y0, y1, y2, y3, m, rfl, hl, h0, h1, h2, h3⟩ := trod_struct4 Tryz.underlying262 h
  rw [cvG] at hl
  obtain ⟨k0, e0, rfl, -⟩ := DataW.trod_int Tryz.underlying3 h0
  obtain ⟨k1, e1, rfl, -⟩ := DataW.trod_int Tryz.underlying3 h1
  obtain ⟨k2, e2, rfl, -⟩ := DataW.trod_int Tryz.underlying3 h2
  obtain ⟨k3, e3, rfl, -⟩ := DataW.trod_int Tryz.underlying5 h3
  simp only [DataW.agg.injEq, List.cons.injEq, DataW.lit.injEq, Lit.int.injEq, true_and, and_true] at hx
  obtain ⟨rfl, rfl, rfl, rfl⟩ := hx
  match cs, hl with
  | [v0, v1, v2, v3], _ =>
    simp [cvI] at e0 e1 e2
    simp [cvB] at e3
    rw [e0, e1, e2, e3]
def gD : List (Int × Int × Int × Int) := [(69, 11, 0, 127), (80, 11, 0, 126), (91, 6, 1, 125), (97, 6, 1, 124), (103, 18, 2, 127), (121, 18, 2, 126), (139, 14, 3, 125), (153, 14, 3, 124), (167, 25, 4, 0), (64512, 8, 5, 0)]
def cD : List (Int × Int) := [(126, 127), (125, 127), (125, 127), (124, 127), (124, 127), (127, 126), (127, 126), (125, 126), (125, 126), (124, 126), (124, 126), (127, 125), (127, 125), (126, 125), (126, 125), (124, 125), (127, 124), (127, 124), (126, 124), (126, 124), (125, 124), (125, 127), (124, 126), (127, 125), (126, 124)]
def sD : List (Int × Int) := [(125, 127), (125, 127), (124, 127), (124, 127), (125, 126), (125, 126), (124, 126), (124, 126)]
set_option maxRecDepth 100000 in
theorem of_laid {W : World} (h : laidMetH Tryz.prog laidL W) : Mk W := by
  rw [MakeChecks.laidMetH_plain _ _ _ (by kernel_rfl)] at h
  obtain ⟨ps, ⟨g0', t0', ⟨cs0⟩, f0, p0, q0, hg0, ht0, hv0, hd0, ⟨g1', t1', ⟨cs1⟩, f1, p1, q1, hg1, ht1, hv1, hd1, ⟨g2', t2', ⟨cs2⟩, f2, p2, q2, hg2, ht2, hv2, hd2, _, _⟩, _⟩, _⟩, _, _⟩ := h
  obtain rfl := Option.some.inj (gv0.symm.trans hg0)
  obtain rfl := Option.some.inj (tv0.symm.trans ht0)
  obtain ⟨xs0, m0, -, hx0, -, -, hel0⟩ := DataW.trod_array Tryz.underlying268 hd0
  rw [cvG] at hel0
  have T0 := tab_laid gD (fun p => .agg [.lit (.int .i64 p.1), .lit (.int .i64 p.2.1), .lit (.int .i64 p.2.2.1), .lit (.int .u8 p.2.2.2)]) (fun p => [.int .i64 p.1, .int .i64 p.2.1, .int .i64 p.2.2.1, .int .u8 p.2.2.2]) rfl hel0 (by simp only [Prod.mk.injEq] at hx0; have hy := hx0.1; unfold Rows.laid_trunnion_numeric_groups at hy; injection hy) el_group (fun o => by have := World.var?_cell hg0 hv0 o; simpa using this)
  obtain rfl := Option.some.inj (gv1.symm.trans hg1)
  obtain rfl := Option.some.inj (tv1.symm.trans ht1)
  obtain ⟨xs1, m1, -, hx1, -, -, hel1⟩ := DataW.trod_array Tryz.underlying269 hd1
  rw [cvT] at hel1
  have T1 := tab_laid cD (fun p => .agg [.lit (.int .u8 p.1), .lit (.int .u8 p.2)]) (fun p => [.int .u8 p.1, .int .u8 p.2]) rfl hel1 (by simp only [Prod.mk.injEq] at hx1; have hy := hx1.1; unfold Rows.laid_trunnion_numeric_changed at hy; injection hy) el_typed (fun o => by have := World.var?_cell hg1 hv1 o; simpa using this)
  obtain rfl := Option.some.inj (gv2.symm.trans hg2)
  obtain rfl := Option.some.inj (tv2.symm.trans ht2)
  obtain ⟨xs2, m2, -, hx2, -, -, hel2⟩ := DataW.trod_array Tryz.underlying270 hd2
  rw [cvT] at hel2
  have T2 := tab_laid sD (fun p => .agg [.lit (.int .u8 p.1), .lit (.int .u8 p.2)]) (fun p => [.int .u8 p.1, .int .u8 p.2]) rfl hel2 (by simp only [Prod.mk.injEq] at hx2; have hy := hx2.1; unfold Rows.laid_trunnion_numeric_stopped at hy; injection hy) el_typed (fun o => by have := World.var?_cell hg2 hv2 o; simpa using this)
  exact ⟨T0, T1, T2⟩
end Go.Proofs.YtjoonmpjcophnaaGreatDoor

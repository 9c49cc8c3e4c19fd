/- ScQ, RfH, Opn, OpB. -/
import Derived.Test.YtjoonmpjcophnaaGreatDoorUa01
import Derived.Test.YtjoonmpjcophnaaGreatDoorUa03
import Derived.Test.YtjoonmpjcophnaaGreatDoorUa18
import Derived.Test.YtjoonmpjcophnaaGreatDoorUa28
import Derived.Test.YtjoonmpjcophnaaGreatDoorUa29
import Derived.Test.YtjoonmpjcophnaaGreatDoorUa30
import Derived.Test.YtjoonmpjcophnaaGreatDoorUa31
import Derived.Test.YtjoonmpjcophnaaGreatDoorUa32
import Derived.ProofKit
import Derived.Lib.SmallJoins
import Derived.ChangeSlices
import Derived.Carry
namespace Go.Proofs.YtjoonmpjcophnaaGreatDoor
open Go.RowKit

set_option maxHeartbeats 1000000 in
set_option maxRecDepth 100000 in
theorem func1_any {c : Nat} {a : Option Addr} {len cap k : Nat} {xs : List Int} {q k1 k2 k3 : Nat} {e1 e2 e3 b : Int} {ys zs : List Int} {W : World}
    (HU : Hid (∀ W, Cs c a len cap xs k 0 W → Calls Tryz.prog 68 #[.pointer (some ⟨c, 0, none⟩), .int .i64 107, .slice (some ⟨W.heap.size, 0, none⟩) 1 1] (W.alloc (.cells #[.int .u8 96] 5)) fun r W' => r = .returned (.int .u8 b) ∧ Cs c a len cap xs k1 e1 W' ∧ Fr [c] (W.alloc (.cells #[.int .u8 96] 5)) W'))
    (HV : Hid (∀ W, Cs c a len cap xs k1 e1 W → Calls Tryz.prog 140 #[.pointer (some ⟨c, 0, none⟩)] W fun r W' => ∃ x1 x2 x3, r = .returned (.slice x1 x2 x3) ∧ Nw W.heap.size x1 x2 x3 ys W' ∧ Cs c a len cap xs k2 e2 W' ∧ Fr [c] W W'))
    (HX2 : Hid (∀ W, Cs c a len cap xs k2 e2 W → Calls Tryz.prog 140 #[.pointer (some ⟨c, 0, none⟩)] W fun r W' => ∃ x1 x2 x3, r = .returned (.slice x1 x2 x3) ∧ Nw W.heap.size x1 x2 x3 zs W' ∧ Cs c a len cap xs k3 e3 W' ∧ Fr [c] W W'))
    (n0 : q ≠ c) (h : Cs c a len cap xs k 0 W) (hB : Bx q (.pointer (some ⟨c, 0, none⟩)) W) :
    Calls Tryz.prog 139 #[.pointer (some ⟨q, 0, none⟩)] W fun r W' => ∃ x1 x2 x3 y1 y2 y3, r = .returned (.agg #[.slice x1 x2 x3, .slice y1 y2 y3]) ∧ Nw W.heap.size x1 x2 x3 ys W' ∧ Nw W.heap.size y1 y2 y3 zs W' ∧ Cs c a len cap xs k3 e3 W' ∧ Fr [c] W W' := by
  have hcl := h.1.lt
  have hq : q < W.heap.size := World.block_lt_of_cell? W _ hB
  have HR : Hid (Room W.heap.size 2 (W.alloc (.cells #[.slice none 0 0, .slice none 0 0] 96))) := hide (room_cells W 2 (by decide))
  have H0 := hide h
  have H := hide (h.alloc (.cells #[.slice none 0 0, .slice none 0 0] 96))
  have HF := hide ((Fr.refl [c] W).alloc (.cells #[.slice none 0 0, .slice none 0 0] 96))
  have HB := hide (Bx.bel hB (below1 W (.cells #[.slice none 0 0, .slice none 0 0] 96)))
  have HN := hide n0
  have hb1 := unhide HB
  unfold Bx at hb1
  have HU1 := hide (unhide HU _ (unhide H))
  rw [show (W.alloc (.cells #[.slice none 0 0, .slice none 0 0] 96)).heap.size = W.heap.size + 1 by simp] at HU1
  clear h hB n0
  go_enter Tryz.func139, Tryz.ntmps139
  go_wp2_with fail
  refine (unhide HU1).mono ?_
  rintro _ w1 ⟨rfl, hC, hF⟩
  have hz1 : W.heap.size + 1 ≤ w1.drew.heap.size := by have := hF.size; simp at this; show W.heap.size + 1 ≤ w1.heap.size; omega
  have HB := hide (Bx.bel ((Bx.bel (unhide HB) (below1 _ (.cells #[.int .u8 96] 5))).fr hF (by simpa using unhide HN)) ((Below.refl _ _).drew))
  have HR := hide ((((unhide HR).alloc (.cells #[.int .u8 96] 5)).fr hF (by simp; omega)).drew)
  have HF := hide ((((unhide HF).alloc (.cells #[.int .u8 96] 5)).trans hF).drew)
  have H := hide hC.drew
  clear hC hF hb1
  go_wp2_with fail
  refine wp_region_held_drew (S := fun w' => w'.cell? ⟨q, 0, none⟩ = some (.pointer (some ⟨c, 0, none⟩)) ∧ Room W.heap.size 2 w') (by kernel_rfl) ?_ (fun hHeld => ?_)
  · (try dsimp only)
    exact ⟨unhide HB, unhide HR⟩
  refine lst0 6 (by kernel_rfl) ?_
  refine tkA 0 5 1 ?_
  refine tkA 2 7 5 ?_
  refine rdA 1 7 (fun Kk hKk => ?_)
  go_simp
  refine (unhide HV _ (unhide H)).mono ?_
  rintro _ w2 ⟨x1, x2, x3, rfl, hN, hC, hF⟩
  have HX := hide (hN.mono (m := W.heap.size + 1) hz1)
  have hz2 := Nat.le_trans hz1 hF.size
  have HB := hide ((unhide HB).fr hF (by simpa using unhide HN))
  have HR := hide ((unhide HR).fr hF (by simp; omega))
  have H := hide hC
  have HF := hide ((unhide HF).trans hF)
  clear hC hF hN
  (try go_wp2_with fail)
  refine hKk.out _ _ ?_ (fun hHeld => ?_)
  · (try dsimp only)
    exact ⟨unhide HB, unhide HR⟩
  clear hKk Kk
  (try simp only [List.setIfInBounds_toArray, List.set_cons_zero, List.set_cons_succ])
  refine rdA 3 15 (fun Kk hKk => ?_)
  go_simp
  refine (unhide HX2 _ (unhide H)).mono ?_
  rintro _ w3 ⟨y1, y2, y3, rfl, hN, hC, hF⟩
  have HX := hide ((unhide HX).fr hF (by simp; omega))
  have HY := hide (hN.mono (m := W.heap.size + 1) hz2)
  have HB := hide ((unhide HB).fr hF (by simpa using unhide HN))
  have HR := hide ((unhide HR).fr hF (by simp; omega))
  have H := hide hC
  have HF := hide ((unhide HF).trans hF)
  clear hC hF hN
  (try go_wp2_with fail)
  refine hKk.out _ _ ?_ (fun hHeld => ?_)
  · (try dsimp only)
    exact ⟨unhide HB, unhide HR⟩
  clear hKk Kk
  (try simp only [List.setIfInBounds_toArray, List.set_cons_zero, List.set_cons_succ])
  refine tkA 4 9 31 ?_
  refine rdA 5 63 (fun Kk hKk => ?_)
  obtain ⟨⟨u0, r0⟩, g0⟩ := unhide HR 0 (by decide)
  obtain ⟨⟨u1, r1⟩, g1⟩ := unhide HR 1 (by decide)
  go_simp
  refine hKk.out _ _ ?_ (fun hHeld => ?_)
  · (try dsimp only)
    exact ⟨(unhide HB).fr (l := [W.heap.size]) ((Fr.refl _ _).set2 (b := W.heap.size) (Or.inl (by simp)) _ _) (by simp; omega), ((unhide HR).set 0 _).set 1 _⟩
  clear hKk Kk
  (try simp only [List.setIfInBounds_toArray, List.set_cons_zero, List.set_cons_succ])
  refine wpAnyH_done (by kernel_rfl) ?_ _
  go_wp2_with fail
  obtain ⟨j0, j1⟩ := (unhide HR).at2 (.slice x1 x2 x3) (.slice y1 y2 y3)
  exact bodyPost_ret (v := .agg #[.slice x1 x2 x3, .slice y1 y2 y3]) (by simp [results, Tryz.results139, go_sem, j0, j1]) rfl ⟨_, _, _, _, _, _, rfl, ((unhide HX).fr ((Fr.refl [W.heap.size] _).set2 (Or.inl (by simp)) _ _) (by simp)).mono (by omega), ((unhide HY).fr ((Fr.refl [W.heap.size] _).set2 (Or.inl (by simp)) _ _) (by simp)).mono (by omega), (unhide H).new (unhide H0) ((Fr.refl [W.heap.size] _).set2 (Or.inl (by simp)) _ _) (by simp), (unhide HF).set2 (Or.inr (Nat.le_refl _)) _ _⟩
theorem pk_1 {A B : Type} (e : Int) (t z : A × B) : (pk e t z).1 = pk e t.1 z.1 ∧ (pk e t z).2 = pk e t.2 z.2 := by
  unfold pk; split <;> exact ⟨rfl, rfl⟩
theorem func_any {c : Nat} {a : Option Addr} {len cap k : Nat} {xs : List Int} {e : Int} {W : World} (h : Cs c a len cap xs k e W) :
    Calls Tryz.prog 107 #[.pointer (some ⟨c, 0, none⟩)] W fun r W' => ∃ x1 x2 x3 y1 y2 y3, r = .returned (.agg #[.slice x1 x2 x3, .slice y1 y2 y3]) ∧ Nw W.heap.size x1 x2 x3 (lift rFunc ([], []) xs k e).1.1 W' ∧ Nw W.heap.size y1 y2 y3 (lift rFunc ([], []) xs k e).1.2 W' ∧ Cs c a len cap xs (lift rFunc ([], []) xs k e).2.1 (lift rFunc ([], []) xs k e).2.2 W' ∧ Fr [c] W W' := by
  by_cases he : e = 0
  · subst he
    have HU := fun W h => one_lit (c := c) (a := a) (len := len) (cap := cap) (xs := xs) (k := k) (e := 0) (er := 107) (z := 96) (W := W) h (by decide)
    obtain ⟨⟨b, k1, e1⟩, hU⟩ : ∃ t, lift (rOne [96] 107) 0 xs k 0 = t := ⟨_, rfl⟩
    rw [hU] at HU
    have HV := fun W h => values_any (c := c) (a := a) (len := len) (cap := cap) (xs := xs) (k := k1) (e := e1) (W := W) h
    obtain ⟨⟨ys, k2, e2⟩, hV⟩ : ∃ t, lift rTypes [] xs k1 e1 = t := ⟨_, rfl⟩
    rw [hV] at HV
    have HX := fun W h => values_any (c := c) (a := a) (len := len) (cap := cap) (xs := xs) (k := k2) (e := e2) (W := W) h
    obtain ⟨⟨zs, k3, e3⟩, hX⟩ : ∃ t, lift rTypes [] xs k2 e2 = t := ⟨_, rfl⟩
    rw [hX] at HX
    dsimp only at HU HV HX
    have hL : lift rFunc ([], []) xs k 0 = (pk e3 (ys, zs) ([], []), back e3 k3 k, e3) := by
      unfold rFunc
      refine seq_back hU (seq_back hV ?_)
      refine (seq hX (lift_giv _ ([], []) _ _ _)).trans ?_
      rw [pk_pk]
    rw [hL]
    dsimp only
    rw [(pk_1 e3 (ys, zs) ([], [])).1, (pk_1 e3 (ys, zs) ([], [])).2]
    exact Func_live (hide fun W q n0 hC hB => func1_any (hide HU) (hide HV) (hide HX) n0 hC hB) h
  · rw [lift_e _ _ _ _ he]
    refine (Func_dead h he).mono ?_
    rintro _ w ⟨rfl, hC, hF⟩
    exact ⟨_, _, _, _, _, _, rfl, nw_nil _ _, nw_nil _ _, hC, hF⟩
set_option maxHeartbeats 1000000 in
set_option maxRecDepth 100000 in
theorem err_any {c : Nat} {a : Option Addr} {len cap k : Nat} {xs : List Int} {e : Int} {W : World} (h : Cs c a len cap xs k e W) : Calls Tryz.prog 15 #[.pointer (some ⟨c, 0, none⟩)] W fun r W' => r = .returned (.int .i64 e) ∧ W' = W := by
  have h2 := h.1.2.2.1
  clear h
  go_enter Tryz.func15, Tryz.ntmps15
  go_wp2_with fail
  go_ret
  exact ⟨rfl, rfl⟩
set_option maxHeartbeats 1000000 in
set_option maxRecDepth 100000 in
theorem left2_any {c : Nat} {a : Option Addr} {len cap k : Nat} {xs : List Int} {e : Int} {W : World} (h : Cs c a len cap xs k e W) : Calls Tryz.prog 46 #[.pointer (some ⟨c, 0, none⟩)] W fun r W' => r = .returned (.int .i64 ((len : Int) - k)) ∧ Fr [] W W' := by
  have HL := hide (left_any h.1 h.2.2.2.2.1 h.2.2.2.2.2)
  clear h
  go_enter Tryz.func46, Tryz.ntmps46
  go_wp2_with fail
  refine (unhide HL).mono ?_
  rintro _ w1 ⟨rfl, hF⟩
  have HF := hide hF
  clear hF
  go_wp2_with fail
  go_ret
  exact ⟨rfl, unhide HF⟩
end Go.Proofs.YtjoonmpjcophnaaGreatDoor
namespace Go.Proofs.YtjoonmpjcophnaaGreatDoor
open Go.RowKit

theorem Cs.old {c : Nat} {a : Option Addr} {len cap k : Nat} {xs : List Int} {k0 : Nat} {e e0 : Int} {w w' W0 : World} (h : Cs c a len cap xs k e w) (h0 : Cs c a len cap xs k0 e0 W0) (hb : Below W0.heap.size w w') : Cs c a len cap xs k e w' := by
  have hc := h0.1.lt
  refine ⟨⟨(hb.cell (p := ⟨c, 0, none⟩) hc).trans h.1.1, (hb.cell (p := ⟨c, 1, none⟩) hc).trans h.1.2.1, (hb.cell (p := ⟨c, 2, none⟩) hc).trans h.1.2.2.1, fun o ho => (hb.frozen (p := ⟨c, o, none⟩) hc).trans (h.1.2.2.2 o ho)⟩, ?_, h.2.2⟩
  obtain ⟨h1, h2, h3, h4⟩ := h.2.1
  refine ⟨h1, h2, h3, ?_⟩
  rcases h4 with h4 | ⟨b, off, h5, h6⟩
  · exact Or.inl h4
  · exact Or.inr ⟨b, off, h5, fun j hj => (hb.cell (p := ⟨b, off + j, none⟩) (h0.2.1.lt ⟨b, off, none⟩ h5 (by omega))).trans (h6 j hj)⟩
theorem Ow.fr {w w' : World} {B : Nat} {v : Value} {xs : List Int} {l : List Nat} (h : Ow w B v xs) (hf : Fr l w w') (hl : ∀ i ∈ l, i < B) : Ow w' B v xs := by
  refine ⟨h.1, ?_⟩
  rcases h.2 with hn | ⟨g, cap, cur, rfl, hg, hgg, rest⟩
  · exact .inl hn
  · exact .inr ⟨g, cap, cur, rfl, hg, by rw [hf.block g (Array.getElem?_eq_some_iff.1 hgg).1 (fun hm => by have := hl g hm; omega)]; exact hgg, rest⟩
end Go.Proofs.YtjoonmpjcophnaaGreatDoor
namespace Go.Proofs.YtjoonmpjcophnaaGreatDoor
open Go.ChangeShapes Go.WideShapes Go.ChangeAt Go.RowKit Go.Joins

theorem Tryz.own : ownKnob Tryz.prog.godebug = none := by kernel_rfl
theorem laid_out : laidOutB Tryz.prog = true := by kernel_rfl
/-- Behind a call that only makes new memory an argument reads as it did. -/
theorem carry {H : Type} {enc : TypeId × Value → H} {t : TypeId} {W W' : World} {v : Value} {d : DataW H} {ps : List MemPlace} (h : DataW.Trod enc Tryz.prog W 0 (fun _ => true) true t v d ps) (hb : Below W.heap.size W W') (hr : Tryz.prog.readableRec t = true) (hrow : t < Tryz.prog.types.size) :
    DataW.Trod enc Tryz.prog W' 0 (fun b => decide (b < W.heap.size)) true t v d ps := by
  refine Below.trod laid_out hr hrow h hb ?_
  obtain ⟨fuel, hf⟩ := h
  exact DataW.trod_lt fuel _ _ _ hf
theorem byte_of_wf {x : Int} (h : (Lit.int .u8 x).wf = true) : 0 ≤ x ∧ x < 256 := by
  simp [Lit.wf, IntKind.min, IntKind.max, IntKind.signed, IntKind.bits] at h
  exact ⟨by omega, by omega⟩
theorem getD_take (zs : List Int) (len j : Nat) (h : j < len) : (zs.take len).getD j 0 = zs.getD j 0 := by
  simp [List.getD, h]
set_option maxRecDepth 100000 in
theorem spot_none {W : World} {base len cap : Nat} {a : Addr} (hv : Value.okWide Tryz.prog W .any base 22 (.slice (some a) len cap)) : a.spot = none := by
  simp only [Value.okWide, Tryz.underlying22, Cell.okWide, Cell.ok] at hv
  exact hv.2.2.2.1
set_option maxRecDepth 100000 in
/-- A row of bytes that came in. -/
theorem open_bytes {H : Type} {enc : TypeId × Value → H} {W : World} {base : Nat} {v : Value} {d : DataW H} {p : List MemPlace}
    (hv : Value.okWide Tryz.prog W .any base 22 v) (h : DataW.Trod enc Tryz.prog W 0 (fun _ => true) true 22 v d p) :
    ∃ (a : Option Addr) (len cap : Nat) (xs : List Int), v = .slice a len cap ∧ (len ≤ 140737488355328 → Sl W a len cap xs) ∧ Byt xs := by
  obtain ⟨a0, len, cap, rfl⟩ := okWide_slice Tryz.underlying22 hv
  obtain ⟨fuel, hf⟩ := h
  rcases open_ints Tryz.underlying22 Tryz.underlying5 (by kernel_rfl) hf with ⟨hcs, hx⟩ | ⟨a, len', cap', zs, hcs, _, hl, hm, hz, hx, hcell, hwz⟩
  · simp [Value.cells] at hcs
    obtain ⟨rfl, rfl, rfl⟩ := hcs
    exact ⟨none, 0, 0, [], rfl, fun _ => ⟨rfl, Nat.le_refl _, by omega, Or.inl ⟨rfl, rfl, rfl⟩⟩, fun z hz => by simp at hz⟩
  · simp [Value.cells] at hcs
    obtain ⟨rfl, rfl, rfl⟩ := hcs
    simp only [if_true] at hz
    obtain ⟨b, off, spot⟩ := a
    have hspot : spot = none := spot_none hv
    subst hspot
    refine ⟨some ⟨b, off, none⟩, len, cap, zs.take len, rfl, fun hle => ⟨by simp; omega, hl, hle, Or.inr ⟨b, off, rfl, fun j hj => ?_⟩⟩, fun z hm => byte_of_wf (hwz z (List.mem_of_mem_take hm))⟩
    rw [getD_take _ _ _ hj, ← add_plain]
    exact hcell j (by omega)
end Go.Proofs.YtjoonmpjcophnaaGreatDoor
namespace Go.Proofs.YtjoonmpjcophnaaGreatDoor
open Go.ChangeShapes Go.WideShapes Go.ChangeAt Go.WideElems Go.RowKit Go.Joins

/-- A row of bytes in a row: where it holds some, they lie in plain memory. -/
def Pt (W : World) (ys : List Int) (v : Value) : Prop := Byt ys ∧ ∃ a cap, v = .slice a ys.length cap ∧ (0 < ys.length → ys.length ≤ 1000 → Sl W a ys.length cap ys)
theorem cell_flat {W : World} {a : Addr} {n : Nat} {f : Nat → Option Value} (hn : 0 < n) (h : ∀ i, i < n → W.cell? (a.add i) = f i) (hf : ∀ i, i < n → (f i).isSome = true) : ∃ b off, a = ⟨b, off, none⟩ ∧ ∀ i, i < n → W.cell? ⟨b, off + i, none⟩ = f i := by
  obtain ⟨b, off, spot⟩ := a
  obtain ⟨u, hu⟩ := Option.isSome_iff_exists.1 (hf 0 hn)
  have h0 := h 0 hn
  rw [hu] at h0
  have hs : spot = none := by simpa [Addr.add] using World.cell?_spot h0
  subst hs
  exact ⟨b, off, rfl, fun i hi => by rw [← add_plain]; exact h i hi⟩
theorem open_brow {H : Type} {enc : TypeId × Value → H} {W : World} {fuel : Nat} {cs : List Value} {x : DataW H × List MemPlace} (h : DataW.trod enc Tryz.prog W 0 (fun _ => true) true fuel 22 cs = some x) :
    ∃ (ys : List Int) (v : Value), cs = [v] ∧ Pt W ys v := by
  rcases open_ints Tryz.underlying22 Tryz.underlying5 (by kernel_rfl) h with ⟨rfl, rfl⟩ | ⟨a, len, cap, zs, rfl, _, hl, hm, hz, rfl, hcell, hwz⟩
  · exact ⟨[], _, rfl, fun z hz => by simp at hz, none, 0, rfl, fun q => absurd q (Nat.lt_irrefl 0)⟩
  · simp only [if_true] at hz
    have hlen : (zs.take len).length = len := by rw [List.length_take]; omega
    refine ⟨zs.take len, _, rfl, fun z hm => byte_of_wf (hwz z (List.mem_of_mem_take hm)), some a, cap, by rw [hlen], fun h0 h1 => ?_⟩
    rw [hlen] at h0 h1 ⊢
    obtain ⟨b, off, rfl, hc⟩ := cell_flat (n := len) (f := fun i => some (.int .u8 (zs.getD i 0))) h0 (fun i hi => hcell i (by omega)) (fun _ _ => rfl)
    exact ⟨hlen, hl, by omega, .inr ⟨b, off, rfl, fun j hj => by rw [getD_take _ _ _ hj]; exact hc j hj⟩⟩
theorem gather {Q : Nat → List Int → Value → Prop} : ∀ k : Nat, (∀ i, i < k → ∃ ys u, Q i ys u) → ∃ yss : List (List Int), yss.length = k ∧ ∀ i ys, yss[i]? = some ys → ∃ u, Q i ys u
  | 0, _ => ⟨[], rfl, fun i ys q => by simp at q⟩
  | k + 1, each => by
    obtain ⟨yss, h1, h2⟩ := gather k (fun i hi => each i (by omega))
    obtain ⟨ys, u, h3⟩ := each k (by omega)
    refine ⟨yss ++ [ys], by simp [h1], fun i zs q => ?_⟩
    by_cases hi : i < yss.length
    · rw [List.getElem?_append_left hi] at q
      exact h2 i zs q
    · have hk := (List.getElem?_eq_some_iff.1 q).1
      rw [List.length_append] at hk
      obtain rfl : i = k := by simp at hk; omega
      rw [List.getElem?_append_right (by omega), h1, Nat.sub_self] at q
      simp at q
      subst q
      exact ⟨u, h3⟩
set_option maxRecDepth 100000 in
/-- The argument. -/
theorem open_brows {H : Type} {enc : TypeId × Value → H} {W : World} {base : Nat} {v : Value} {d : DataW H} {p : List MemPlace} (hv : Value.okWide Tryz.prog W .any base 63 v) (h : DataW.Trod enc Tryz.prog W 0 (fun _ => true) true 63 v d p) :
    ∃ (a : Option Addr) (cap : Nat) (yss : List (List Int)), v = .slice a yss.length cap ∧ yss.length ≤ cap ∧ (yss = [] ∨ ∃ b off, a = some ⟨b, off, none⟩ ∧ ∀ i ys, yss[i]? = some ys → ∃ u, W.cell? ⟨b, off + i, none⟩ = some u ∧ Pt W ys u) := by
  obtain ⟨a0, len0, cap0, rfl⟩ := okWide_slice Tryz.underlying63 hv
  obtain ⟨fuel, hf⟩ := h
  rcases DataW.trod_slice Tryz.underlying63 hf with ⟨hcs, -⟩ | ⟨a, len, cap, elems, rest, n, hfu, hcs, -, _, hl, hm, hlen, hel, -, -⟩
  · simp [Value.cells] at hcs
    obtain ⟨rfl, rfl, rfl⟩ := hcs
    exact ⟨none, 0, [], rfl, Nat.le_refl _, .inl rfl⟩
  · simp [Value.cells] at hcs
    obtain ⟨rfl, rfl, rfl⟩ := hcs
    have hC : Tryz.prog.cellsOf 22 = 1 := by kernel_rfl
    rw [hC] at hel
    have each : ∀ i, i < len0 → ∃ ys u, W.cell? (a.add i) = some u ∧ Pt W ys u := by
      intro i hi
      have hq := hel i hi
      obtain ⟨y, hy⟩ : ∃ y, elems[i]? = some y := ⟨_, List.getElem?_eq_getElem (by omega)⟩
      rw [hy] at hq
      obtain ⟨ws, hws, htr⟩ := Option.bind_eq_some_iff.1 hq
      obtain ⟨ys, u, rfl, hP⟩ := open_brow htr
      obtain ⟨_, _, hcc⟩ := World.cells?_some hws
      have := hcc 0 (by decide)
      rw [Nat.mul_one] at this
      exact ⟨ys, u, by simpa [Addr.add] using this, hP⟩
    obtain ⟨yss, h1, h2⟩ := gather (Q := fun i ys u => W.cell? (a.add i) = some u ∧ Pt W ys u) len0 each
    refine ⟨some a, cap0, yss, by rw [h1], by omega, ?_⟩
    by_cases h0 : len0 = 0
    · exact .inl (List.eq_nil_of_length_eq_zero (by omega))
    · obtain ⟨ys, hy0⟩ : ∃ ys, yss[0]? = some ys := ⟨_, List.getElem?_eq_getElem (by omega)⟩
      obtain ⟨u, hu, -⟩ := h2 0 ys hy0
      obtain ⟨b, off, spot⟩ := a
      have hs : spot = none := by simpa [Addr.add] using World.cell?_spot hu
      subst hs
      exact .inr ⟨b, off, rfl, fun i zs q => by
        obtain ⟨u, hu, hp⟩ := h2 i zs q
        exact ⟨u, by rw [← add_plain]; exact hu, hp⟩⟩
end Go.Proofs.YtjoonmpjcophnaaGreatDoor

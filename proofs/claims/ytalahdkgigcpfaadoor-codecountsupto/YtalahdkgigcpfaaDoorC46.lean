/- CiA, CiB. -/
import Derived.Test.YtalahdkgigcpfaaDoorC02
import Derived.Test.YtalahdkgigcpfaaDoorC33
import Derived.Test.YtalahdkgigcpfaaDoorC34
import Derived.Test.YtalahdkgigcpfaaDoorC40
import Derived.Test.YtalahdkgigcpfaaDoorC44
import Derived.Test.YtalahdkgigcpfaaDoorC45
namespace Go.Proofs.YtalahdkgigcpfaaDoor
open Go.ChangeShapes Go.WideShapes Go.ChangeAt Go.RowKit Go.Joins

abbrev Any : Nat → Prop := fun _ => True
theorem cell_plain {W : World} {a : Addr} {n : Nat} {f : Nat → Option Value} (hn : 0 < n) (h : ∀ i, i < n → W.cell? (a.add i) = f i) (hf : ∀ i, i < n → (f i).isSome = true) : ∃ b off, a = ⟨b, off, none⟩ ∧ ∀ i, i < n → W.cell? ⟨b, off + i, none⟩ = f i := by
  obtain ⟨b, off, spot⟩ := a
  obtain ⟨u, hu⟩ := Option.isSome_iff_exists.1 (hf 0 hn)
  have h0 := h 0 hn
  rw [hu] at h0
  have hs : spot = none := by simpa [Addr.add] using World.cell?_spot h0
  subst hs
  exact ⟨b, off, rfl, fun i hi => by rw [← add_off]; exact h i hi⟩
/-- A row of labels that came in. -/
theorem open_labels {H : Type} {enc : TypeId × Value → H} {W : World} {fuel : Nat} {cs : List Value} {x : DataW H × List MemPlace} (h : DataW.trod enc Tryd.prog W 0 (fun _ => true) true fuel 48 cs = some x) :
    ∃ (ys : List Int) (v : Value), cs = [v] ∧ Slc W Any ys.length (uCells ys) v ∧ ys.length + 1 ≤ Rows.uptoBulk x.1 := by
  rcases open_ints Tryd.underlying48 Tryd.underlying46 (by kernel_rfl) h with ⟨rfl, rfl⟩ | ⟨a, len, cap, zs, rfl, _, hl, hm, hz, rfl, hcell, _⟩
  · exact ⟨[], _, rfl, slc_nil W Any, by simp [Rows.uptoBulk]⟩
  · simp only [if_true] at hz
    have hlen : (zs.take len).length = len := by rw [List.length_take]; omega
    refine ⟨zs.take len, _, rfl, ?_, ?_⟩
    · rw [hlen]
      have hiff : len = 0 ↔ uCells (zs.take len) = [] := ⟨fun h0 => by subst h0; simp [uCells], fun h0 => by
        have := congrArg List.length h0
        rw [uCells_len, hlen] at this
        exact this⟩
      by_cases h0 : len = 0
      · exact ⟨_, cap, rfl, hl, hiff, .inl ⟨h0, fun e => by cases e⟩⟩
      · obtain ⟨b, off, rfl, hc⟩ := cell_plain (n := len) (f := fun i => some (.int .u32 (zs.getD i 0))) (by omega) (fun i hi => hcell i (by omega)) (fun _ _ => rfl)
        refine ⟨_, cap, rfl, hl, hiff, .inr ⟨b, off, rfl, fun _ => trivial, fun j u hj => ?_⟩⟩
        have hjl : j < len := by
          have := (List.getElem?_eq_some_iff.1 hj).1
          rw [uCells_len, hlen] at this
          exact this
        rw [hc j hjl, ← hj]
        unfold uCells
        rw [List.getElem?_map, List.getElem?_take, if_pos hjl, List.getElem?_eq_getElem (by omega)]
        simp [List.getD, show j < zs.length by omega]
    · have := bulks.slice_le (lits (H := H) .u32 (zs.take len)) (lits .u32 (zs.drop len))
      have hl2 : (lits (H := H) .u32 (zs.take len)).length = len := by simp [lits]; omega
      show (zs.take len).length + 1 ≤ Rows.uptoBulk (.slice _ _)
      rw [hlen]
      omega
/-- What is said of an element: its cells, and what they lead to. -/
def Okay (W : World) (n : Nat) (hd : Hd) (t e : Fo) (vl vt ve : Value) : Prop :=
  Slc W Any hd.list.length (uCells hd.list) vl ∧ Fov W Any t vt ∧ Fov W Any e ve ∧ (1 + t.size + e.size ≤ n ∧ hd.list.length ≤ n) ∧ hd.op ≤ 9223372036854775807 ∧ Lok t ∧ Lok e ∧ Lw t ∧ Lw e
theorem open_rows {H : Type} {W : World} {b : Nat} : ∀ (ds : List (DataW H)) (o : Nat), Rows.uptoBulkAll ds ≤ 1048576 →
    (∀ i d, ds[i]? = some d → ∃ hd t e vl vt ve, (∀ j, j < 9 → W.cell? ⟨b, o + i * 9 + j, none⟩ = (hcells hd vl vt ve)[j]?) ∧ Okay W (Rows.uptoBulk d) hd t e vl vt ve) →
    ∃ (T : Fo) (cs : List Value), T.len = ds.length ∧ T.size ≤ Rows.uptoBulkAll ds ∧ Lok T ∧ Lw T ∧ Enc W Any T cs ∧ ∀ k u, cs[k]? = some u → W.cell? ⟨b, o + k, none⟩ = some u
  | [], o, _, _ => ⟨.nil, [], rfl, Nat.zero_le _, trivial, trivial, rfl, fun k u h => by cases h⟩
  | d :: ds, o, hb, H => by
    simp only [Rows.uptoBulkAll] at hb
    obtain ⟨T, cs, h1, h2, h3, h4, h5, h6⟩ := open_rows ds (o + 9) (by omega) (fun i d' hi => by
      obtain ⟨hd, t, e, vl, vt, ve, q1, q2⟩ := H (i + 1) d' hi
      refine ⟨hd, t, e, vl, vt, ve, fun j hj => ?_, q2⟩
      rw [show o + 9 + i * 9 + j = o + (i + 1) * 9 + j by omega]
      exact q1 j hj)
    obtain ⟨hd, t, e, vl, vt, ve, q1, s1, ⟨ct, s2, s2'⟩, ⟨ce, s3, s3'⟩, ⟨s4, s5⟩, s6, s7, s8, s9, s10⟩ := H 0 d rfl
    refine ⟨.cons hd t e T, hcells hd vl vt ve ++ cs, by show T.len + 1 = _; rw [h1]; rfl, ?_, ⟨by omega, s7, s8, h3⟩, ⟨s6, s9, s10, h4⟩, ⟨vl, vt, ve, cs, rfl, s1, ⟨ct, s2, s2'⟩, ⟨ce, s3, s3'⟩, h5⟩, fun k u hu => ?_⟩
    · show 1 + t.size + e.size + T.size ≤ Rows.uptoBulk d + Rows.uptoBulkAll ds
      omega
    · by_cases hk : k < 9
      · rw [List.getElem?_append_left (by show k < 9; exact hk)] at hu
        have := q1 k hk
        rw [Nat.zero_mul, Nat.add_zero] at this
        rw [this, hu]
      · rw [List.getElem?_append_right (by show 9 ≤ k; omega)] at hu
        have := h6 _ _ hu
        rw [show o + 9 + (k - (hcells hd vl vt ve).length) = o + k by show o + 9 + (k - 9) = o + k; omega] at this
        exact this
theorem op_of_wf {x : Int} (h : (Lit.int .i64 x).wf = true) : x ≤ 9223372036854775807 := by
  simp [Lit.wf, IntKind.min, IntKind.max, IntKind.signed, IntKind.bits] at h
  omega
set_option maxRecDepth 100000 in
theorem open_tree {H : Type} {enc : TypeId × Value → H} {W : World} : ∀ (fuel : Nat) (cs : List Value) (x : DataW H × List MemPlace), DataW.trod enc Tryd.prog W 0 (fun _ => true) true fuel 29 cs = some x → Rows.uptoBulk x.1 ≤ 1048576 →
    ∃ (T : Fo) (v : Value), cs = [v] ∧ T.size ≤ Rows.uptoBulk x.1 ∧ Lok T ∧ Lw T ∧ Fov W Any T v := by
  intro fuel
  induction fuel using Nat.strongRecOn with
  | _ fuel ih =>
    intro cs x h hb
    rcases DataW.trod_slice Tryd.underlying29 h with ⟨rfl, rfl⟩ | ⟨a, len, cap, elems, rest, n, hfu, rfl, rfl, _, hl, hm, hlen, hel, -, -⟩
    · exact ⟨.nil, _, rfl, Nat.zero_le _, trivial, trivial, fov_nil W Any⟩
    · have hC : Tryd.prog.cellsOf 50 = 9 := by kernel_rfl
      have hbs : Rows.uptoBulkAll (elems.map (·.1)) + 1 ≤ 1048576 := Nat.le_trans (bulks.slice_elems (elems.map (·.1)) (rest.map (·.1))) hb
      have hbs2 := bulks.slice_elems (elems.map (·.1)) (rest.map (·.1))
      rw [hC] at hel
      have each : ∀ i y, elems[i]? = some y → ∃ ws hd t e vl vt ve, W.cells? 0 (a.add (i * 9)) 9 = some ws ∧ ws = hcells hd vl vt ve ∧ Okay W (Rows.uptoBulk y.1) hd t e vl vt ve := by
        intro i y hy
        have hi : i < len := by have := (List.getElem?_eq_some_iff.1 hy).1; omega
        have hq := hel i hi
        rw [hy] at hq
        obtain ⟨ws, hws, htr⟩ := Option.bind_eq_some_iff.1 hq
        obtain ⟨y0, y1, y2, y3, y4, y5, y6, y7, y8, m, hmf, rfl, hwl, k0, k1, k2, k3, k4, k5, k6, k7, k8⟩ := trod_struct9 Tryd.underlying50 htr
        have hbd : Rows.uptoBulk (DataW.agg [y0.1, y1.1, y2.1, y3.1, y4.1, y5.1, y6.1, y7.1, y8.1]) ≤ 1048576 := by
          have := bulks.part_le (show (DataW.agg [y0.1, y1.1, y2.1, y3.1, y4.1, y5.1, y6.1, y7.1, y8.1]) ∈ elems.map (·.1) from List.mem_map.2 ⟨_, List.mem_of_getElem? hy, rfl⟩)
          omega
        simp only [Rows.uptoBulk, Rows.uptoBulkAll] at hbd
        obtain ⟨z0, q0, -, w0⟩ := DataW.trod_int Tryd.underlying3 k0
        obtain ⟨z1, q1, -, -⟩ := DataW.trod_int Tryd.underlying5 k1
        obtain ⟨z2, q2, -, -⟩ := DataW.trod_int Tryd.underlying46 k2
        obtain ⟨z3, q3, -, -⟩ := DataW.trod_int Tryd.underlying46 k3
        obtain ⟨z4, q4, -, -⟩ := DataW.trod_int Tryd.underlying47 k4
        obtain ⟨ys, vl, q5, hS, hbl⟩ := open_labels k5
        obtain ⟨t, vt, q6, t1, t2, t3, t4⟩ := ih m (by omega) _ _ k6 (by omega)
        obtain ⟨e, ve, q7, e1, e2, e3, e4⟩ := ih m (by omega) _ _ k7 (by omega)
        obtain ⟨bb, q8, -⟩ := DataW.trod_bool Tryd.underlying4 k8
        have c1 : ∀ u, Tryd.prog.cellsOf u = 1 → ∀ (o : Nat) v, (ws.drop o).take (Tryd.prog.cellsOf u) = [v] → ws[o]? = some v := fun u hu o v hv => by
          rw [hu] at hv
          have := congrArg (fun l => l[0]?) hv
          simpa [List.getElem?_take, List.getElem?_drop] using this
        have r0 := c1 _ (by kernel_rfl) _ _ q0
        have r1 := c1 _ (by kernel_rfl) _ _ q1
        have r2 := c1 _ (by kernel_rfl) _ _ q2
        have r3 := c1 _ (by kernel_rfl) _ _ q3
        have r4 := c1 _ (by kernel_rfl) _ _ q4
        have r5 := c1 _ (by kernel_rfl) _ _ q5
        have r6 := c1 _ (by kernel_rfl) _ _ q6
        have r7 := c1 _ (by kernel_rfl) _ _ q7
        have r8 := c1 _ (by kernel_rfl) _ _ q8
        rw [hC] at hwl
        refine ⟨ws, ⟨z0, z1, z2, z3, z4, ys, bb⟩, t, e, vl, vt, ve, hws, ?_, hS, t4, e4, ⟨?_, ?_⟩, op_of_wf w0, t2, e2, t3, e3⟩
        · refine List.ext_getElem? fun j => ?_
          by_cases hj : j < 9
          · have hj : j = 0 ∨ j = 1 ∨ j = 2 ∨ j = 3 ∨ j = 4 ∨ j = 5 ∨ j = 6 ∨ j = 7 ∨ j = 8 := by omega
            rcases hj with rfl | rfl | rfl | rfl | rfl | rfl | rfl | rfl | rfl
            all_goals assumption
          · rw [List.getElem?_eq_none (by omega), List.getElem?_eq_none (by show 9 ≤ j; omega)]
        · simp only [Rows.uptoBulk, Rows.uptoBulkAll]; omega
        · simp only [Rows.uptoBulk, Rows.uptoBulkAll]; show ys.length ≤ _; omega
      have hbb : Rows.uptoBulk (DataW.slice (elems.map (·.1)) (rest.map (·.1))) = Rows.uptoBulkAll (elems.map (·.1)) + Rows.uptoBulkAll (rest.map (·.1)) + 1 := by simp only [Rows.uptoBulk]
      by_cases h0 : len = 0
      · exact ⟨.nil, _, rfl, Nat.zero_le _, trivial, trivial, [], rfl, some a, cap, by rw [h0]; rfl, Nat.zero_le _, by simp [Fo.len], .inl ⟨rfl, fun e => by cases e⟩⟩
      · obtain ⟨y, hy⟩ : ∃ y, elems[0]? = some y := ⟨_, List.getElem?_eq_getElem (by omega)⟩
        obtain ⟨ws, hd, t, e, vl, vt, ve, hws, rfl, -⟩ := each 0 y hy
        obtain ⟨_, _, hcc⟩ := World.cells?_some hws
        obtain ⟨b, off, spot⟩ := a
        have hc0 := hcc 0 (by decide)
        have hs : spot = none := by
          have : W.cell? (((⟨b, off, spot⟩ : Addr).add (0 * 9)).add 0) = some (.int .i64 hd.op) := hc0
          simpa [Addr.add] using World.cell?_spot this
        subst hs
        obtain ⟨T, cs, g1, g2, g3, g4, g5, g6⟩ := open_rows (W := W) (b := b) (elems.map (·.1)) off (by omega) (fun i d hi => by
          rw [List.getElem?_map] at hi
          obtain ⟨y, hy, rfl⟩ := Option.map_eq_some_iff.1 hi
          obtain ⟨ws, hd, t, e, vl, vt, ve, hws, rfl, hok⟩ := each i y hy
          obtain ⟨_, _, hcc⟩ := World.cells?_some hws
          exact ⟨hd, t, e, vl, vt, ve, fun j hj => by rw [← hcc j hj, add_off, add_off], hok⟩)
        rw [List.length_map, hlen] at g1
        have hcl := g5.len
        refine ⟨T, _, rfl, by show T.size ≤ Rows.uptoBulk (DataW.slice (elems.map (·.1)) (rest.map (·.1))); omega, g3, g4, cs, g5, some ⟨b, off, none⟩, cap, by rw [g1], by omega, ⟨fun h => by omega, fun h => ?_⟩, .inr ⟨b, off, rfl, fun _ => trivial, g6⟩⟩
        rw [h] at hcl
        have : 0 = T.len * 9 := hcl
        omega
/-- The argument. -/
theorem open_arg {H : Type} {enc : TypeId × Value → H} {W : World} {v : Value} {d : DataW H} {p : List MemPlace} (h : DataW.Trod enc Tryd.prog W 0 (fun _ => true) true 29 v d p) (hb : Rows.uptoBulk d ≤ 1048576) (hv : v.cells.toList = [v]) :
    ∃ T : Fo, T.size ≤ 1048576 ∧ Lok T ∧ Lw T ∧ Fov W Any T v := by
  obtain ⟨fuel, hf⟩ := h
  obtain ⟨T, u, h1, h2, h3, h4, h5⟩ := open_tree fuel _ _ hf hb
  rw [hv] at h1
  injection h1 with h1
  subst h1
  exact ⟨T, Nat.le_trans h2 hb, h3, h4, h5⟩
end Go.Proofs.YtalahdkgigcpfaaDoor
namespace Go.Proofs.YtalahdkgigcpfaaDoor
open Go.RowKit

theorem codeCounts_any {T : Fo} {v : Value} (W : World) (hm : Mk W) (hz : T.size ≤ 1048576) (hk : Lok T) (hw : Lw T) (hF : Fov W Any T v) : Calls Tryd.prog 4 #[v] W fun r W' => r = .returned (.bool true) ∧ Below W.heap.size W W' :=
  counts_any hm hF hw hk (by omega) (fun P v W h => rdepth_any (T.size + 1) T P v W (Nat.lt_succ_self _) (by omega) h)
end Go.Proofs.YtalahdkgigcpfaaDoor

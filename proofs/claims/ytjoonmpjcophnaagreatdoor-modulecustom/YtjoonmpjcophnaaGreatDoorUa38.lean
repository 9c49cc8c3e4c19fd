/- MsB, MdH, MsC, MpA, MpB, PdA, CdJ, PgA, PgB, PgC, PgN, PcA, PlA, MpC. -/
import Derived.Test.YtjoonmpjcophnaaGreatDoorUa34
import Derived.Test.YtjoonmpjcophnaaGreatDoorUa36
import Derived.Test.YtjoonmpjcophnaaGreatDoorUa37
namespace Go.Proofs.YtjoonmpjcophnaaGreatDoor
open Go.RowKit

theorem bys_cell_at {xs : List Int} {w : World} {b off : Nat} (h : ∀ j u, (bys xs)[j]? = some u → w.cell? ⟨b, off + j, none⟩ = some u) : ∀ j, j < xs.length → w.cell? ⟨b, off + j, none⟩ = some (.int .u8 (xs.getD j 0)) := fun j hj => h j _ (by
  unfold bys
  rw [List.getElem?_map, List.getElem?_eq_getElem hj]
  simp [List.getD, hj])
theorem conv_slc {w : World} {P : Nat → Prop} {xs : List Int} {v : Value} (h : Slc w P xs.length (bys xs) v) : (convert 22 9 v).run Tryz.prog w = .ok (.string (strOfNums xs)) w := by
  obtain ⟨a, cap, rfl, -, -, h⟩ := h
  rcases h with ⟨h0, hc⟩ | ⟨b, off, rfl, -, h⟩
  · obtain rfl : xs = [] := List.eq_nil_of_length_eq_zero h0
    cases a with
    | none =>
      obtain rfl := hc rfl
      exact run_convert_bytes_nil w 22 5 Tryz.underlying22 Tryz.underlying5 0 0 9 Tryz.underlying9
    | some p =>
      rw [run_convert_bytes_string w 22 9 5 _ _ cap Tryz.underlying22 Tryz.underlying5 Tryz.underlying9]
      exact run_bytesToString w p 0 cap [] (run_loadCells_list (P := Tryz.prog) w p [] (fun j v hj => nomatch hj))
  · exact conv_at rfl (bys_cell_at h)
set_option maxHeartbeats 4000000 in
set_option maxRecDepth 100000 in
theorem sametypes_any {L : List Ty} {P P' : Nat → Prop} {v1 v2 : Value} {W : World} (hx : L.length ≤ 4000000) (h1 : Sls eTy W P L v1) (h2 : Sls eTy W P' L v2) : Calls Tryz.prog 28 #[v1, v2] W fun r W' => r = .returned (.bool true) ∧ Fr [] W W' := by
  obtain ⟨a1, c1, rfl, -, h1⟩ := h1.open
  obtain ⟨a2, c2, rfl, -, h2⟩ := h2.open
  have H1 := hide h1
  have H2 := hide h2
  clear h1 h2
  go_enter Tryz.func28, Tryz.ntmps28
  go_wp2_with fail
  go_loopw [5] (fun v5 wr => ∃ (i : Nat), i ≤ L.length ∧ v5 = .int .i64 (i : Int) ∧ Fr [] W wr) (fun v5 _ => L.length - (intOf v5).toNat)
  case atStart => exact ⟨0, by omega, rfl, Fr.refl _ _⟩
  case round =>
    obtain ⟨i, hi, rfl, hF⟩ := hrel
    by_cases hlt : i < L.length
    · have hi' : (i : Int) < (L.length : Int) := by omega
      have hi2 : (0 : Int) ≤ (i : Int) := by omega
      rcases unhide H1 with h0 | ⟨b1, o1, rfl, -, k1⟩
      · omega
      rcases unhide H2 with h0 | ⟨b2, o2, rfl, -, k2⟩
      · omega
      obtain ⟨_, ⟨p1, p2, rfl, s1, s2⟩, k1⟩ := k1 i L[i] (List.getElem?_eq_getElem hlt)
      obtain ⟨_, ⟨q1, q2, rfl, t1, t2⟩, k2⟩ := k2 i L[i] (List.getElem?_eq_getElem hlt)
      generalize L[i] = x at *
      have g10 := hF.keep (k1 0 (by decide)) (by simp)
      have g11 := hF.keep (k1 1 (by decide)) (by simp)
      have g20 := hF.keep (k2 0 (by decide)) (by simp)
      have g21 := hF.keep (k2 1 (by decide)) (by simp)
      change wr.cell? ⟨b1, o1 + i * 2, none⟩ = some p1 at g10
      change wr.cell? ⟨b1, o1 + i * 2 + 1, none⟩ = some p2 at g11
      change wr.cell? ⟨b2, o2 + i * 2, none⟩ = some q1 at g20
      change wr.cell? ⟨b2, o2 + i * 2 + 1, none⟩ = some q2 at g21
      have n1 := fun n => conv_slc ((s1.fr hF (by simp)).fr ((Fr.refl [] wr).drewN n) (by simp))
      have n2 := fun n => conv_slc ((s2.fr hF (by simp)).fr ((Fr.refl [] wr).drewN n) (by simp))
      have m1 := fun n => conv_slc ((t1.fr hF (by simp)).fr ((Fr.refl [] wr).drewN n) (by simp))
      have m2 := fun n => conv_slc ((t2.fr hF (by simp)).fr ((Fr.refl [] wr).drewN n) (by simp))
      generalize strOfNums x.1 = sa at *
      generalize strOfNums x.2 = sb at *
      have HF := hide hF
      clear k1 k2 hF
      go_wp2_with fail
      go_quiet (fail)
      go_wp2_with fail
      have HF := hide ((unhide HF).drewN nq)
      exact ⟨⟨i + 1, by omega, by go_num, unhide HF⟩, by simp [intOf]; omega⟩
    · obtain rfl : i = L.length := by omega
      have HF := hide hF
      clear hF
      go_wp2_with fail
      go_ret
      exact ⟨rfl, unhide HF⟩
end Go.Proofs.YtjoonmpjcophnaaGreatDoor
namespace Go.Proofs.YtjoonmpjcophnaaGreatDoor
open Go.RowKit

/-- A variable of n cells. -/
structure Vr (ib n : Nat) (L : List Value) (w : World) : Prop where
  tab : Tab w ib L
  room : Room ib n w
  lt : ib < w.heap.size
theorem Vr.fr {ib n : Nat} {L : List Value} {w w' : World} {l : List Nat} (h : Vr ib n L w) (hf : Fr l w w') (hn : ib ∉ l) : Vr ib n L w' := ⟨h.tab.fr hf hn, h.room.fr hf hn, Nat.lt_of_lt_of_le h.lt hf.size⟩
theorem Vr.set {ib n : Nat} {L : List Value} {w : World} (h : Vr ib n L w) (o : Nat) (v : Value) : Vr ib n (L.set o v) (w.setCell ⟨ib, o, none⟩ v) := ⟨h.tab.set o v, h.room.set o v, by simpa [World.setCell] using h.lt⟩
theorem vr_new (cs : List Value) (t : TypeId) (W : World) : Vr W.heap.size cs.length cs (W.alloc (.cells cs.toArray t)) := by
  refine ⟨fun j v hj => ?_, room_cells (cs := cs) (t := t) W cs.length (Nat.le_refl _), by simp⟩
  rw [World.cell?_alloc_new]
  simpa using hj
theorem doneE_z {e e2 : Int} {k n : Nat} (h : doneE e e2 k n = 0) : e = 0 ∧ e2 = 0 := by
  unfold doneE at h
  by_cases h1 : e = 0
  · rw [if_neg (by simp [h1])] at h
    by_cases h2 : e2 = 0
    · exact ⟨h1, h2⟩
    · rw [if_pos h2] at h; exact absurd h h2
  · rw [if_pos h1] at h; exact absurd h h1
section
variable {c : Nat} {a : Option Addr} {len cap k : Nat} {xs : List Int} {e : Int} {W : World} {sat : Bool}
end
end Go.Proofs.YtjoonmpjcophnaaGreatDoor
namespace Go.Proofs.YtjoonmpjcophnaaGreatDoor
open Go.RowKit

/-- What is said of a module so that two can be compared. -/
structure Mok (m : Mo) : Prop where
  types : m.types.length ≤ 4000000
  imps : m.imps.length ≤ 4000000
  funcs : m.funcs.length ≤ 4000000
  tabs : m.tabs.length ≤ 4000000
  mems : m.mems.length ≤ 4000000
  globs : m.globs.length ≤ 4000000
  exps : m.exps.length ≤ 4000000
  elems : m.elems.length ≤ 4000000
  datas : m.datas.length ≤ 4000000
  bodies : ∀ f ∈ m.funcs, f.2.2.size ≤ 2000000 ∧ Lok f.2.2
  inits : ∀ f ∈ m.globs, f.2.2.size ≤ 2000000 ∧ Lok f.2.2
  offs : ∀ f ∈ m.elems, f.2.1.size ≤ 2000000 ∧ Lok f.2.1 ∧ f.2.2.length ≤ 4000000
  doffs : ∀ f ∈ m.datas, f.2.1.size ≤ 2000000 ∧ Lok f.2.1
set_option maxHeartbeats 8000000 in
set_option maxRecDepth 100000 in
theorem sameouter_any {m : Mo} {P P' : Nat → Prop} {vs vs' : List Value} {W : World} (hm : Mok m) (h1 : MoR W P m vs) (h2 : MoR W P' m vs') : Calls Tryz.prog 29 #[.agg vs.toArray, .agg vs'.toArray] W fun r W' => r = .returned (.bool true) ∧ Fr [] W W' := by
  obtain ⟨v0, v1, v2, v3, v4, v5, v6, v9, v10, rfl, k0, k1, k2, k3, k4, k5, k6, k9, k10⟩ := h1.ex
  obtain ⟨u0, u1, u2, u3, u4, u5, u6, u9, u10, rfl, l0, l1, l2, l3, l4, l5, l6, l9, l10⟩ := h2.ex
  obtain ⟨a1, c1, rfl, -, k1⟩ := k1.open
  obtain ⟨a2, c2, rfl, -, l1⟩ := l1.open
  obtain ⟨a3, c3, rfl, -, k5⟩ := k5.open
  obtain ⟨a4, c4, rfl, -, l5⟩ := l5.open
  obtain ⟨a5, c5, rfl, -, k6⟩ := k6.open
  obtain ⟨a6, c6, rfl, -, l6⟩ := l6.open
  clear h1 h2
  have x1 := hm.imps
  have x2 := hm.exps
  have x3 := hm.globs
  go_enter Tryz.func29, Tryz.ntmps29
  go_wp2_with fail
  have V1 := (vr_new [v0, .slice a1 m.imps.length c1, v2, v3, v4, .slice a3 m.globs.length c3, .slice a5 m.exps.length c5, .bool m.starts, .int .u32 m.start, v9, v10] 47 W)
  have V2 := (vr_new [u0, .slice a2 m.imps.length c2, u2, u3, u4, .slice a4 m.globs.length c4, .slice a6 m.exps.length c6, .bool m.starts, .int .u32 m.start, u9, u10] 47 (W.alloc (.cells #[v0, .slice a1 m.imps.length c1, v2, v3, v4, .slice a3 m.globs.length c3, .slice a5 m.exps.length c5, .bool m.starts, .int .u32 m.start, v9, v10] 47)))
  have hb := below2 W (.cells #[v0, .slice a1 m.imps.length c1, v2, v3, v4, .slice a3 m.globs.length c3, .slice a5 m.exps.length c5, .bool m.starts, .int .u32 m.start, v9, v10] 47) (.cells #[u0, .slice a2 m.imps.length c2, u2, u3, u4, .slice a4 m.globs.length c4, .slice a6 m.exps.length c6, .bool m.starts, .int .u32 m.start, u9, u10] 47)
  have V1 := V1.fr (Fr.of (below1 _ (.cells #[u0, .slice a2 m.imps.length c2, u2, u3, u4, .slice a4 m.globs.length c4, .slice a6 m.exps.length c6, .bool m.starts, .int .u32 m.start, u9, u10] 47)) []) (by simp)
  rw [show (W.alloc (.cells #[v0, .slice a1 m.imps.length c1, v2, v3, v4, .slice a3 m.globs.length c3, .slice a5 m.exps.length c5, .bool m.starts, .int .u32 m.start, v9, v10] 47)).heap.size = W.heap.size + 1 by simp] at V2
  have V1 := hide V1.tab
  have V2 := hide V2.tab
  change Hid (Tab ((W.alloc (.cells #[v0, .slice a1 m.imps.length c1, v2, v3, v4, .slice a3 m.globs.length c3, .slice a5 m.exps.length c5, .bool m.starts, .int .u32 m.start, v9, v10] 47)).alloc (.cells #[u0, .slice a2 m.imps.length c2, u2, u3, u4, .slice a4 m.globs.length c4, .slice a6 m.exps.length c6, .bool m.starts, .int .u32 m.start, u9, u10] 47)) _ _) at V1
  change Hid (Tab ((W.alloc (.cells #[v0, .slice a1 m.imps.length c1, v2, v3, v4, .slice a3 m.globs.length c3, .slice a5 m.exps.length c5, .bool m.starts, .int .u32 m.start, v9, v10] 47)).alloc (.cells #[u0, .slice a2 m.imps.length c2, u2, u3, u4, .slice a4 m.globs.length c4, .slice a6 m.exps.length c6, .bool m.starts, .int .u32 m.start, u9, u10] 47)) _ _) at V2
  have HF0 := hide (Fr.of hb [])
  have K1 := hide k1
  have L1 := hide l1
  have K5 := hide k5
  have L5 := hide l5
  have K6 := hide k6
  have L6 := hide l6
  clear hb k1 l1 k5 l5 k6 l6
  generalize (W.alloc (.cells #[v0, .slice a1 m.imps.length c1, v2, v3, v4, .slice a3 m.globs.length c3, .slice a5 m.exps.length c5, .bool m.starts, .int .u32 m.start, v9, v10] 47)).alloc (.cells #[u0, .slice a2 m.imps.length c2, u2, u3, u4, .slice a4 m.globs.length c4, .slice a6 m.exps.length c6, .bool m.starts, .int .u32 m.start, u9, u10] 47) = wA at *
  go_loopw [5] (fun v5 wr => ∃ (i : Nat), i ≤ m.imps.length ∧ v5 = .int .i64 (i : Int) ∧ Fr [] wA wr) (fun v5 _ => m.imps.length - (intOf v5).toNat)
  case atStart => exact ⟨0, by omega, rfl, Fr.refl _ _⟩
  case round =>
    obtain ⟨i, hi, rfl, hF⟩ := hrel
    have d1 := (((unhide V1).fr hF (by simp)) 1 _ rfl)
    have d2 := (((unhide V2).fr hF (by simp)) 1 _ rfl)
    by_cases hlt : i < m.imps.length
    · have hi' : (i : Int) < (m.imps.length : Int) := by omega
      have hi2 : (0 : Int) ≤ (i : Int) := by omega
      rcases unhide K1 with h0 | ⟨b1, o1, rfl, -, k1⟩
      · omega
      rcases unhide L1 with h0 | ⟨b2, o2, rfl, -, k2⟩
      · omega
      obtain ⟨_, rfl, k1⟩ := k1 i m.imps[i] (List.getElem?_eq_getElem hlt)
      obtain ⟨_, rfl, k2⟩ := k2 i m.imps[i] (List.getElem?_eq_getElem hlt)
      generalize m.imps[i] = x at *
      have hF2 := (unhide HF0).trans hF
      have g10 := hF2.keep (k1 0 (by decide)) (by simp)
      have g11 := hF2.keep (k1 1 (by decide)) (by simp)
      have g12 := hF2.keep (k1 2 (by decide)) (by simp)
      have g13 := hF2.keep (k1 3 (by decide)) (by simp)
      have g14 := hF2.keep (k1 4 (by decide)) (by simp)
      have g15 := hF2.keep (k1 5 (by decide)) (by simp)
      have g16 := hF2.keep (k1 6 (by decide)) (by simp)
      have g17 := hF2.keep (k1 7 (by decide)) (by simp)
      have g18 := hF2.keep (k1 8 (by decide)) (by simp)
      have g20 := hF2.keep (k2 0 (by decide)) (by simp)
      have g21 := hF2.keep (k2 1 (by decide)) (by simp)
      have g22 := hF2.keep (k2 2 (by decide)) (by simp)
      have g23 := hF2.keep (k2 3 (by decide)) (by simp)
      have g24 := hF2.keep (k2 4 (by decide)) (by simp)
      have g25 := hF2.keep (k2 5 (by decide)) (by simp)
      have g26 := hF2.keep (k2 6 (by decide)) (by simp)
      have g27 := hF2.keep (k2 7 (by decide)) (by simp)
      have g28 := hF2.keep (k2 8 (by decide)) (by simp)
      change wr.cell? ⟨b1, o1 + i * 9, none⟩ = some (.string (strOfNums x.mod)) at g10
      change wr.cell? ⟨b1, o1 + i * 9 + 1, none⟩ = some (.string (strOfNums x.nam)) at g11
      change wr.cell? ⟨b1, o1 + i * 9 + 2, none⟩ = some (.int .i64 x.kind) at g12
      change wr.cell? ⟨b1, o1 + i * 9 + 3, none⟩ = some (.int .u32 x.ty) at g13
      change wr.cell? ⟨b1, o1 + i * 9 + 4, none⟩ = some (.int .u32 x.lim.1) at g14
      change wr.cell? ⟨b1, o1 + i * 9 + 5, none⟩ = some (.int .u32 x.lim.2.1) at g15
      change wr.cell? ⟨b1, o1 + i * 9 + 6, none⟩ = some (.bool x.lim.2.2) at g16
      change wr.cell? ⟨b1, o1 + i * 9 + 7, none⟩ = some (.int .u8 x.val) at g17
      change wr.cell? ⟨b1, o1 + i * 9 + 8, none⟩ = some (.bool x.mu) at g18
      change wr.cell? ⟨b2, o2 + i * 9, none⟩ = some (.string (strOfNums x.mod)) at g20
      change wr.cell? ⟨b2, o2 + i * 9 + 1, none⟩ = some (.string (strOfNums x.nam)) at g21
      change wr.cell? ⟨b2, o2 + i * 9 + 2, none⟩ = some (.int .i64 x.kind) at g22
      change wr.cell? ⟨b2, o2 + i * 9 + 3, none⟩ = some (.int .u32 x.ty) at g23
      change wr.cell? ⟨b2, o2 + i * 9 + 4, none⟩ = some (.int .u32 x.lim.1) at g24
      change wr.cell? ⟨b2, o2 + i * 9 + 5, none⟩ = some (.int .u32 x.lim.2.1) at g25
      change wr.cell? ⟨b2, o2 + i * 9 + 6, none⟩ = some (.bool x.lim.2.2) at g26
      change wr.cell? ⟨b2, o2 + i * 9 + 7, none⟩ = some (.int .u8 x.val) at g27
      change wr.cell? ⟨b2, o2 + i * 9 + 8, none⟩ = some (.bool x.mu) at g28
      have HF := hide hF
      clear k1 k2 hF hF2
      go_wp2_with fail
      go_quiet (fail)
      go_wp2_with fail
      have HF := hide ((unhide HF).drewN nq)
      exact ⟨⟨i + 1, by omega, by go_num, unhide HF⟩, by simp [intOf]; omega⟩
    · obtain rfl : i = m.imps.length := by omega
      have V1 := hide ((unhide V1).fr hF (by simp))
      have V2 := hide ((unhide V2).fr hF (by simp))
      have HF0 := hide ((unhide HF0).trans hF)
      clear hF
      rename World => wB
      go_wp2_with fail
      clear d1 d2
      go_loopw [6] (fun v6 wr => ∃ (i : Nat), i ≤ m.exps.length ∧ v6 = .int .i64 (i : Int) ∧ Fr [] wB wr) (fun v6 _ => m.exps.length - (intOf v6).toNat)
      case atStart => exact ⟨0, by omega, rfl, Fr.refl _ _⟩
      case round =>
        obtain ⟨i, hi, rfl, hF⟩ := hrel
        have d1 := (((unhide V1).fr hF (by simp)) 6 _ rfl)
        have d2 := (((unhide V2).fr hF (by simp)) 6 _ rfl)
        by_cases hlt : i < m.exps.length
        · have hi' : (i : Int) < (m.exps.length : Int) := by omega
          have hi2 : (0 : Int) ≤ (i : Int) := by omega
          rcases unhide K6 with h0 | ⟨b1, o1, rfl, -, k1⟩
          · omega
          rcases unhide L6 with h0 | ⟨b2, o2, rfl, -, k2⟩
          · omega
          obtain ⟨_, rfl, k1⟩ := k1 i m.exps[i] (List.getElem?_eq_getElem hlt)
          obtain ⟨_, rfl, k2⟩ := k2 i m.exps[i] (List.getElem?_eq_getElem hlt)
          generalize m.exps[i] = x at *
          have hF2 := (unhide HF0).trans hF
          have g10 := hF2.keep (k1 0 (by decide)) (by simp)
          have g11 := hF2.keep (k1 1 (by decide)) (by simp)
          have g12 := hF2.keep (k1 2 (by decide)) (by simp)
          have g20 := hF2.keep (k2 0 (by decide)) (by simp)
          have g21 := hF2.keep (k2 1 (by decide)) (by simp)
          have g22 := hF2.keep (k2 2 (by decide)) (by simp)
          change wr.cell? ⟨b1, o1 + i * 3, none⟩ = some (.string (strOfNums x.1)) at g10
          change wr.cell? ⟨b1, o1 + i * 3 + 1, none⟩ = some (.int .i64 x.2.1) at g11
          change wr.cell? ⟨b1, o1 + i * 3 + 2, none⟩ = some (.int .u32 x.2.2) at g12
          change wr.cell? ⟨b2, o2 + i * 3, none⟩ = some (.string (strOfNums x.1)) at g20
          change wr.cell? ⟨b2, o2 + i * 3 + 1, none⟩ = some (.int .i64 x.2.1) at g21
          change wr.cell? ⟨b2, o2 + i * 3 + 2, none⟩ = some (.int .u32 x.2.2) at g22
          have HF := hide hF
          clear k1 k2 hF hF2
          go_wp2_with fail
          go_quiet (fail)
          go_wp2_with fail
          have HF := hide ((unhide HF).drewN nq)
          exact ⟨⟨i + 1, by omega, by go_num, unhide HF⟩, by simp [intOf]; omega⟩
        · obtain rfl : i = m.exps.length := by omega
          have V1 := hide ((unhide V1).fr hF (by simp))
          have V2 := hide ((unhide V2).fr hF (by simp))
          have HF0 := hide ((unhide HF0).trans hF)
          clear hF
          rename World => wC
          go_wp2_with fail
          clear d1 d2
          go_loopw [7] (fun v7 wr => ∃ (i : Nat), i ≤ m.globs.length ∧ v7 = .int .i64 (i : Int) ∧ Fr [] wC wr) (fun v7 _ => m.globs.length - (intOf v7).toNat)
          case atStart => exact ⟨0, by omega, rfl, Fr.refl _ _⟩
          case round =>
            obtain ⟨i, hi, rfl, hF⟩ := hrel
            have d1 := (((unhide V1).fr hF (by simp)) 5 _ rfl)
            have d2 := (((unhide V2).fr hF (by simp)) 5 _ rfl)
            by_cases hlt : i < m.globs.length
            · have hi' : (i : Int) < (m.globs.length : Int) := by omega
              have hi2 : (0 : Int) ≤ (i : Int) := by omega
              rcases unhide K5 with h0 | ⟨b1, o1, rfl, -, k1⟩
              · omega
              rcases unhide L5 with h0 | ⟨b2, o2, rfl, -, k2⟩
              · omega
              have hT := hm.inits m.globs[i] (List.getElem_mem hlt)
              obtain ⟨_, ⟨p1, p2, rfl, rfl, s2⟩, k1⟩ := k1 i m.globs[i] (List.getElem?_eq_getElem hlt)
              obtain ⟨_, ⟨q1, q2, rfl, rfl, t2⟩, k2⟩ := k2 i m.globs[i] (List.getElem?_eq_getElem hlt)
              generalize m.globs[i] = x at *
              have hF2 := (unhide HF0).trans hF
              have g10 := hF2.keep (k1 0 (by decide)) (by simp)
              have g11 := hF2.keep (k1 1 (by decide)) (by simp)
              have g12 := hF2.keep (k1 2 (by decide)) (by simp)
              have g20 := hF2.keep (k2 0 (by decide)) (by simp)
              have g21 := hF2.keep (k2 1 (by decide)) (by simp)
              have g22 := hF2.keep (k2 2 (by decide)) (by simp)
              change wr.cell? ⟨b1, o1 + i * 3, none⟩ = some (.int .u8 x.1) at g10
              change wr.cell? ⟨b1, o1 + i * 3 + 1, none⟩ = some (.bool x.2.1) at g11
              change wr.cell? ⟨b1, o1 + i * 3 + 2, none⟩ = some p2 at g12
              change wr.cell? ⟨b2, o2 + i * 3, none⟩ = some (.int .u8 x.1) at g20
              change wr.cell? ⟨b2, o2 + i * 3 + 1, none⟩ = some (.bool x.2.1) at g21
              change wr.cell? ⟨b2, o2 + i * 3 + 2, none⟩ = some q2 at g22
              have S2 := hide (s2.fr hF2 (by simp))
              have T2 := hide (t2.fr hF2 (by simp))
              have HF := hide hF
              clear k1 k2 hF hF2 s2 t2
              go_wp2_with fail
              have hdr : Fr [] wr wr.drew := (Fr.refl _ _).drew
              have HS := hide (show (fun w' => w'.cell? ⟨W.heap.size, 5, none⟩ = some (.slice (some ⟨b1, o1, none⟩) m.globs.length c3) ∧ w'.cell? ⟨W.heap.size + 1, 5, none⟩ = some (.slice (some ⟨b2, o2, none⟩) m.globs.length c4) ∧ w'.cell? ⟨b1, o1 + i * 3, none⟩ = some (.int .u8 x.1) ∧ w'.cell? ⟨b1, o1 + i * 3 + 1, none⟩ = some (.bool x.2.1) ∧ w'.cell? ⟨b1, o1 + i * 3 + 2, none⟩ = some p2 ∧ w'.cell? ⟨b2, o2 + i * 3, none⟩ = some (.int .u8 x.1) ∧ w'.cell? ⟨b2, o2 + i * 3 + 1, none⟩ = some (.bool x.2.1) ∧ w'.cell? ⟨b2, o2 + i * 3 + 2, none⟩ = some q2) wr.drew from ⟨hdr.keep d1 (by simp), hdr.keep d2 (by simp), hdr.keep g10 (by simp), hdr.keep g11 (by simp), hdr.keep g12 (by simp), hdr.keep g20 (by simp), hdr.keep g21 (by simp), hdr.keep g22 (by simp)⟩)
              have S2 := hide ((unhide S2).fr hdr (by simp))
              have T2 := hide ((unhide T2).fr hdr (by simp))
              have HF := hide ((unhide HF).trans hdr)
              clear d1 d2 g10 g11 g12 g20 g21 g22 hdr
              refine wp_region_held_drew (S := (fun w' => w'.cell? ⟨W.heap.size, 5, none⟩ = some (.slice (some ⟨b1, o1, none⟩) m.globs.length c3) ∧ w'.cell? ⟨W.heap.size + 1, 5, none⟩ = some (.slice (some ⟨b2, o2, none⟩) m.globs.length c4) ∧ w'.cell? ⟨b1, o1 + i * 3, none⟩ = some (.int .u8 x.1) ∧ w'.cell? ⟨b1, o1 + i * 3 + 1, none⟩ = some (.bool x.2.1) ∧ w'.cell? ⟨b1, o1 + i * 3 + 2, none⟩ = some p2 ∧ w'.cell? ⟨b2, o2 + i * 3, none⟩ = some (.int .u8 x.1) ∧ w'.cell? ⟨b2, o2 + i * 3 + 1, none⟩ = some (.bool x.2.1) ∧ w'.cell? ⟨b2, o2 + i * 3 + 2, none⟩ = some q2)) (by kernel_rfl) ?_ (fun hHeld => ?_)
              · exact unhide HS
              generalize wr.drew = wr at *
              refine lst0 44 (by kernel_rfl) ?_
              refine tkA 0 76 1 ?_
              refine tkA 1 77 3 ?_
              refine tkA 2 78 7 ?_
              refine tkA 3 79 15 ?_
              refine tkA 4 80 31 ?_
              refine tkA 5 81 63 ?_
              refine tkA 6 82 127 ?_
              refine tkA 7 83 255 ?_
              refine tkA 8 84 511 ?_
              refine tkA 9 85 1023 ?_
              refine tkA 10 86 2047 ?_
              refine tkA 11 87 4095 ?_
              refine tkA 12 88 8191 ?_
              refine tkA 13 89 16383 ?_
              refine tkA 14 90 32767 ?_
              refine tkA 15 91 65535 ?_
              refine tkA 16 92 131071 ?_
              refine tkA 17 93 262143 ?_
              refine tkA 18 94 524287 ?_
              refine tkA 19 95 1048575 ?_
              refine tkA 20 96 2097151 ?_
              refine tkA 21 97 4194303 ?_
              refine tkA 22 98 8388607 ?_
              refine tkA 23 99 16777215 ?_
              refine tkA 24 100 33554431 ?_
              refine tkA 25 101 67108863 ?_
              refine tkA 26 102 134217727 ?_
              refine tkA 27 103 268435455 ?_
              refine tkA 28 104 536870911 ?_
              refine tkA 29 105 1073741823 ?_
              refine tkA 30 106 2147483647 ?_
              refine tkA 31 107 4294967295 ?_
              refine tkA 32 108 8589934591 ?_
              refine tkA 33 109 17179869183 ?_
              refine tkA 34 110 34359738367 ?_
              refine tkA 35 111 68719476735 ?_
              refine tkA 36 112 137438953471 ?_
              refine tkA 37 113 274877906943 ?_
              refine tkA 38 114 549755813887 ?_
              refine tkA 39 115 1099511627775 ?_
              refine tkA 40 116 2199023255551 ?_
              refine rdA 41 4398046511103 (fun Kk hKk => ?_)
              go_simp
              refine (same_any _ x.2.2 _ _ _ _ _ (Nat.lt_succ_self _) hT.1 hT.2 (unhide S2) (unhide T2)).mono ?_
              rintro _ w2 ⟨rfl, hF1⟩
              obtain ⟨d1, d2, g10, g11, g12, g20, g21, g22⟩ := unhide HS
              have HS := hide (show (fun w' => w'.cell? ⟨W.heap.size, 5, none⟩ = some (.slice (some ⟨b1, o1, none⟩) m.globs.length c3) ∧ w'.cell? ⟨W.heap.size + 1, 5, none⟩ = some (.slice (some ⟨b2, o2, none⟩) m.globs.length c4) ∧ w'.cell? ⟨b1, o1 + i * 3, none⟩ = some (.int .u8 x.1) ∧ w'.cell? ⟨b1, o1 + i * 3 + 1, none⟩ = some (.bool x.2.1) ∧ w'.cell? ⟨b1, o1 + i * 3 + 2, none⟩ = some p2 ∧ w'.cell? ⟨b2, o2 + i * 3, none⟩ = some (.int .u8 x.1) ∧ w'.cell? ⟨b2, o2 + i * 3 + 1, none⟩ = some (.bool x.2.1) ∧ w'.cell? ⟨b2, o2 + i * 3 + 2, none⟩ = some q2) w2 from ⟨hF1.keep d1 (by simp), hF1.keep d2 (by simp), hF1.keep g10 (by simp), hF1.keep g11 (by simp), hF1.keep g12 (by simp), hF1.keep g20 (by simp), hF1.keep g21 (by simp), hF1.keep g22 (by simp)⟩)
              have HF := hide ((unhide HF).trans hF1)
              clear d1 d2 g10 g11 g12 g20 g21 g22 hF1
              (try go_wp2_with fail)
              refine hKk.out _ _ ?_ (fun hHeld => ?_)
              · exact unhide HS
              clear hKk Kk
              (try simp only [List.setIfInBounds_toArray, List.set_cons_zero, List.set_cons_succ])
              refine tkA 42 118 8796093022207 ?_
              refine tkA 43 119 17592186044415 ?_
              refine wpAnyH_done (by kernel_rfl) ?_ _
              go_wp2_with fail
              exact ⟨⟨i + 1, by omega, by go_num, unhide HF⟩, by simp [intOf]; omega⟩
            · obtain rfl : i = m.globs.length := by omega
              have HF := hide ((unhide HF0).trans hF)
              clear hF
              go_wp2_with fail
              go_ret
              exact ⟨rfl, unhide HF⟩
end Go.Proofs.YtjoonmpjcophnaaGreatDoor
namespace Go.Proofs.YtjoonmpjcophnaaGreatDoor

theorem Lk.okk : ∀ {T : Fo}, Lk T → Lok T
  | .nil, _ => trivial
  | .cons _ _ _ _, h => ⟨by have := h.2.1; omega, Lk.okk h.2.2.1, Lk.okk h.2.2.2.1, Lk.okk h.2.2.2.2⟩
/-- Instructions of no more than so many bytes. -/
def Qf (N : Nat) (T : Fo) : Prop := T.size ≤ N ∧ Lok T
theorem rep_red {A : Type} {f : Rr A} {Q : A → Prop} {N : Nat} (hf : ∀ l, Byt l → l.length ≤ N → (f l).2.2 = 0 → Q (f l).1) : ∀ (n : Nat) (l : List Int), Byt l → l.length ≤ N → (repR f n l).2.2 = 0 → (repR f n l).1.length = n ∧ ∀ x ∈ (repR f n l).1, Q x
  | 0, _, _, _, _ => ⟨rfl, fun x hx => by cases hx⟩
  | n + 1, l, hb, hl, h => by
    unfold repR at h ⊢
    obtain ⟨h1, h2, h3⟩ := bd_inv h
    rw [h3]
    obtain ⟨g1, g2, g3⟩ := bd_inv h2
    rw [g3]
    obtain ⟨i1, i2⟩ := rep_red hf n _ (byt_dropS hb _) (by rw [List.length_drop]; omega) g1
    refine ⟨by show (_ :: _).length = n + 1; rw [List.length_cons, i1], fun x hx => ?_⟩
    rcases List.mem_cons.1 hx with rfl | hx
    · exact hf l hb hl h1
    · exact i2 x hx
theorem list_red {A : Type} {f : Rr A} {Q : A → Prop} {N : Nat} (hf : ∀ l, Byt l → l.length ≤ N → (f l).2.2 = 0 → Q (f l).1) {l : List Int} (hb : Byt l) (hl : l.length ≤ N) (h : (rList f l).2.2 = 0) : (rList f l).1.length ≤ 4096 ∧ ∀ x ∈ (rList f l).1, Q x := by
  unfold rList at h ⊢
  obtain ⟨h1, h2, h3⟩ := bd_inv h
  rw [h3]
  obtain ⟨i1, i2⟩ := rep_red hf _ _ (byt_dropS hb _) (by rw [List.length_drop]; omega) h2
  refine ⟨?_, i2⟩
  show (repR f _ _).1.length ≤ 4096
  rw [i1]
  have := (count_le hb 0 0).2
  rw [lift_0, List.drop_zero] at this
  have h' : (rCount l).1 ≤ 4096 := this
  omega
theorem exp_red {sat : Bool} {N : Nat} {l : List Int} (hb : Byt l) (hl : l.length ≤ N) (h : (rExp sat l).2.2 = 0) : Qf N (rExp sat l).1 := by
  unfold rExp at h ⊢
  obtain ⟨h1, h2, h3⟩ := bd_inv h
  rw [h3]
  have hr := sq_red _ l (Nat.le_refl _) hb 0 false h1 (by omega)
  have hg := (gq_sq sat 0 false).len l
  exact ⟨by have := hr.size; show (sq sat 0 false l).1.1.size ≤ N; omega, hr.lk.okk⟩
theorem ce_red {sat : Bool} {N : Nat} {l : List Int} (hb : Byt l) (hl : l.length ≤ N) (h : (rCe sat l).2.2 = 0) : Qf N (rCe sat l).1.2.2 := by
  unfold rCe at h ⊢
  obtain ⟨h1, h2, h3⟩ := bd_inv h
  rw [h3]
  obtain ⟨g1, g2, g3⟩ := bd_inv h2
  rw [g3]
  exact exp_red (byt_dropS hb _) (by rw [List.length_drop]; omega) g1
theorem em_red {sat : Bool} {N : Nat} {l : List Int} (hb : Byt l) (hl : l.length ≤ N) (h : (rEm sat l).2.2 = 0) : Qf N (rEm sat l).1.2.1 ∧ (rEm sat l).1.2.2.length ≤ 4096 := by
  unfold rEm at h ⊢
  obtain ⟨h1, h2, h3⟩ := bd_inv h
  rw [h3]
  obtain ⟨g1, g2, g3⟩ := bd_inv h2
  rw [g3]
  obtain ⟨i1, i2, i3⟩ := bd_inv g2
  rw [i3]
  exact ⟨exp_red (byt_dropS hb _) (by rw [List.length_drop]; omega) g1, (list_red (Q := fun _ => True) (fun _ _ _ _ => trivial) (byt_dropS (byt_dropS hb _) _) (Nat.le_refl _) i1).1⟩
theorem da_red {sat : Bool} {N : Nat} {l : List Int} (hb : Byt l) (hl : l.length ≤ N) (h : (rDa sat l).2.2 = 0) : Qf N (rDa sat l).1.2.1 := by
  unfold rDa at h ⊢
  obtain ⟨h1, h2, h3⟩ := bd_inv h
  rw [h3]
  obtain ⟨g1, g2, g3⟩ := bd_inv h2
  rw [g3]
  obtain ⟨i1, i2, i3⟩ := bd_inv g2
  rw [i3]
  exact exp_red (byt_dropS hb _) (by rw [List.length_drop]; omega) g1
theorem fn_red {sat : Bool} {N : Nat} {l : List Int} (hb : Byt l) (hl : l.length ≤ N) (h : (rFn sat l).2.2 = 0) : Qf N (rFn sat l).1.2.2 := by
  unfold rFn at h ⊢
  obtain ⟨h1, h2, h3⟩ := bd_inv h
  rw [h3]
  obtain ⟨g1, g2, g3⟩ := bd_inv h2
  rw [g3]
  exact exp_red (byt_dropS hb _) (by rw [List.length_drop]; omega) g1
theorem alone_inv {A : Type} {f : Rr A} {b l : List Int} (h : (alone f b l).2.2 = 0) : (f b).2.2 = 0 ∧ ¬ (f b).2.1 < b.length := by
  unfold alone at h
  simp only at h
  split at h
  · rename_i h1
    split at h
    · exact absurd h (by decide)
    · rename_i h2; exact ⟨h1, h2⟩
  · rename_i h1; exact absurd h h1
theorem bytes_red {N : Nat} {l : List Int} (hb : Byt l) (hl : l.length ≤ N) (h : (rBytes l).2.2 = 0) : Byt (rBytes l).1 ∧ (rBytes l).1.length ≤ N := by
  unfold rBytes at h ⊢
  obtain ⟨h1, h2, h3⟩ := bd_inv h
  rw [h3]
  by_cases h4 : (rU 32 l).1.toNat ≤ (l.drop (rU 32 l).2.1).length
  · rw [rP_ok h4]
    exact ⟨byt_take (byt_dropS hb _) _, by show (List.take _ _).length ≤ N; rw [List.length_take, List.length_drop]; omega⟩
  · rw [rP_no h4] at h2
    exact absurd h2 (by decide)
theorem pc_red {A : Type} {z : A} {f : Rr A} {Q : A → Prop} {N : Nat} (hf : ∀ l, Byt l → l.length ≤ N → (f l).2.2 = 0 → Q (f l).1) {l : List Int} (hb : Byt l) (hl : l.length ≤ N) (h : (rPc z f l).2.2 = 0) : Q (rPc z f l).1 := by
  unfold rPc at h ⊢
  obtain ⟨h1, h2, h3⟩ := bd_inv h
  rw [h3]
  obtain ⟨g1, g2⟩ := bytes_red hb hl h1
  exact hf _ g1 g2 (alone_inv h2).1
/-- A field: what is in it, and nothing if its section is still to come. -/
structure Fl {A : Type} (j hi : Int) (Q : A → Prop) (L : List A) : Prop where
  len : L.length ≤ 4096
  all : ∀ x ∈ L, Q x
  non : hi < j → L = []
theorem Fl.more {A : Type} {j hi hi' : Int} {Q : A → Prop} {L : List A} (h : Fl j hi Q L) (hh : hi ≤ hi') : Fl j hi' Q L := ⟨h.len, h.all, fun q => h.non (by omega)⟩
theorem Fl.put {A : Type} {j hi : Int} {Q : A → Prop} {L M : List A} (h : Fl j hi Q L) (hj : hi < j) (h1 : M.length ≤ 4096) (h2 : ∀ x ∈ M, Q x) : Fl j (max hi j) Q (L ++ M) := by
  rw [h.non hj, List.nil_append]
  exact ⟨h1, h2, fun q => by omega⟩
/-- What is read so far. -/
structure Okk (N : Nat) (hi : Int) (s : St) : Prop where
  pos : 0 ≤ hi
  types : Fl 1 hi (fun _ => True) s.1.types
  imps : Fl 2 hi (fun _ => True) s.1.imps
  tabs : Fl 4 hi (fun _ => True) s.1.tabs
  mems : Fl 5 hi (fun _ => True) s.1.mems
  globs : Fl 6 hi (fun x => Qf N x.2.2) s.1.globs
  exps : Fl 7 hi (fun _ => True) s.1.exps
  elems : Fl 9 hi (fun x => Qf N x.2.1 ∧ x.2.2.length ≤ 4096) s.1.elems
  funcs : Fl 10 hi (fun x => Qf N x.2.2) s.1.funcs
  datas : Fl 11 hi (fun x => Qf N x.2.1) s.1.datas
theorem fl_nil {A : Type} (j hi : Int) (Q : A → Prop) : Fl j hi Q ([] : List A) := ⟨Nat.zero_le _, fun x hx => (by cases hx), fun _ => rfl⟩
theorem okk0 (N : Nat) : Okk N 0 (mo0, []) := ⟨Int.le_refl _, fl_nil _ _ _, fl_nil _ _ _, fl_nil _ _ _, fl_nil _ _ _, fl_nil _ _ _, fl_nil _ _ _, fl_nil _ _ _, fl_nil _ _ _, fl_nil _ _ _⟩
theorem Okk.more {N : Nat} {hi hi' : Int} {s : St} (h : Okk N hi s) (hh : hi ≤ hi') : Okk N hi' s := ⟨Int.le_trans h.pos hh, h.types.more hh, h.imps.more hh, h.tabs.more hh, h.mems.more hh, h.globs.more hh, h.exps.more hh, h.elems.more hh, h.funcs.more hh, h.datas.more hh⟩
theorem sec_red {sat : Bool} {N : Nat} {hi n : Int} {s : St} (hs : Okk N hi s) (h0 : 0 ≤ n) (h11 : n ≤ 11) (hn : n = 0 ∨ hi < n) {l : List Int} (hb : Byt l) (hl : l.length ≤ N) (h : (rSec sat n s l).2.2 = 0) : Okk N (max hi n) (rSec sat n s l).1 := by
  have hm := hs.more (show hi ≤ max hi n by omega)
  unfold rSec at h ⊢
  by_cases h1 : n = 0
  · rw [if_pos h1] at h ⊢
    obtain ⟨-, -, h3⟩ := bd_inv h
    rw [h3]
    exact hm
  rw [if_neg h1] at h ⊢
  have hlt : hi < n := hn.resolve_left h1
  by_cases h1 : n = 1
  · subst h1
    rw [if_pos rfl] at h ⊢
    obtain ⟨h1, -, h3⟩ := bd_inv h
    rw [h3]
    obtain ⟨i1, i2⟩ := list_red (Q := fun _ => True) (fun _ _ _ _ => trivial) hb hl h1
    exact { hm with types := hs.types.put hlt i1 i2 }
  rw [if_neg h1] at h ⊢
  by_cases h1 : n = 2
  · subst h1
    rw [if_pos rfl] at h ⊢
    obtain ⟨h1, -, h3⟩ := bd_inv h
    rw [h3]
    obtain ⟨i1, i2⟩ := list_red (Q := fun _ => True) (fun _ _ _ _ => trivial) hb hl h1
    exact { hm with imps := hs.imps.put hlt i1 i2 }
  rw [if_neg h1] at h ⊢
  by_cases h1 : n = 3
  · subst h1
    rw [if_pos rfl] at h ⊢
    obtain ⟨h1, -, h3⟩ := bd_inv h
    rw [h3]
    exact { hm with }
  rw [if_neg h1] at h ⊢
  by_cases h1 : n = 4
  · subst h1
    rw [if_pos rfl] at h ⊢
    obtain ⟨h1, -, h3⟩ := bd_inv h
    rw [h3]
    obtain ⟨i1, i2⟩ := list_red (Q := fun _ => True) (fun _ _ _ _ => trivial) hb hl h1
    exact { hm with tabs := hs.tabs.put hlt i1 i2 }
  rw [if_neg h1] at h ⊢
  by_cases h1 : n = 5
  · subst h1
    rw [if_pos rfl] at h ⊢
    obtain ⟨h1, -, h3⟩ := bd_inv h
    rw [h3]
    obtain ⟨i1, i2⟩ := list_red (Q := fun _ => True) (fun _ _ _ _ => trivial) hb hl h1
    exact { hm with mems := hs.mems.put hlt i1 i2 }
  rw [if_neg h1] at h ⊢
  by_cases h1 : n = 6
  · subst h1
    rw [if_pos rfl] at h ⊢
    obtain ⟨h1, -, h3⟩ := bd_inv h
    rw [h3]
    obtain ⟨i1, i2⟩ := list_red (Q := fun x : Ce => Qf N x.2.2) (fun l a b c => ce_red a b c) hb hl h1
    exact { hm with globs := hs.globs.put hlt i1 i2 }
  rw [if_neg h1] at h ⊢
  by_cases h1 : n = 7
  · subst h1
    rw [if_pos rfl] at h ⊢
    obtain ⟨h1, -, h3⟩ := bd_inv h
    rw [h3]
    obtain ⟨i1, i2⟩ := list_red (Q := fun _ => True) (fun _ _ _ _ => trivial) hb hl h1
    exact { hm with exps := hs.exps.put hlt i1 i2 }
  rw [if_neg h1] at h ⊢
  by_cases h1 : n = 8
  · subst h1
    rw [if_pos rfl] at h ⊢
    obtain ⟨h1, -, h3⟩ := bd_inv h
    rw [h3]
    exact { hm with }
  rw [if_neg h1] at h ⊢
  by_cases h1 : n = 9
  · subst h1
    rw [if_pos rfl] at h ⊢
    obtain ⟨h1, -, h3⟩ := bd_inv h
    rw [h3]
    obtain ⟨i1, i2⟩ := list_red (Q := fun x : Em => Qf N x.2.1 ∧ x.2.2.length ≤ 4096) (fun l a b c => em_red a b c) hb hl h1
    exact { hm with elems := hs.elems.put hlt i1 i2 }
  rw [if_neg h1] at h ⊢
  by_cases h1 : n = 10
  · subst h1
    rw [if_pos rfl] at h ⊢
    obtain ⟨h1, -, h3⟩ := bd_inv h
    rw [h3]
    obtain ⟨i1, i2⟩ := list_red (Q := fun x : Fn => Qf N x.2.2) (fun l a b c => pc_red (Q := fun x : Fn => Qf N x.2.2) (fun l a b c => fn_red a b c) a b c) hb hl h1
    exact { hm with funcs := hs.funcs.put hlt i1 i2 }
  rw [if_neg h1] at h ⊢
  obtain rfl : n = 11 := by omega
  obtain ⟨h1, -, h3⟩ := bd_inv h
  rw [h3]
  obtain ⟨i1, i2⟩ := list_red (Q := fun x : Em => Qf N x.2.1) (fun l a b c => da_red a b c) hb hl h1
  exact { hm with datas := hs.datas.put hlt i1 i2 }
theorem rB_red {l : List Int} (hb : Byt l) : 0 ≤ (rB l).1 := by
  have := (lift_rB_lt hb 0 0).1
  rw [lift_0, List.drop_zero] at this
  exact this
theorem mod_red {sat : Bool} {N : Nat} : ∀ (f : Nat) {hi : Int} {s : St}, Okk N hi s → ∀ {l : List Int}, Byt l → l.length ≤ N → (rMod sat f hi s l).2.2 = 0 → ∃ hi', Okk N hi' (rMod sat f hi s l).1
  | 0, _, _, _, _, _, _, h => absurd h (show ((100 : Int) = 0) → False by decide)
  | f + 1, hi, s, hs, l, hb, hl, h => by
    unfold rMod at h ⊢
    by_cases h0 : l = []
    · rw [if_pos h0]
      exact ⟨hi, hs⟩
    · rw [if_neg h0] at h ⊢
      obtain ⟨h1, h2, h3⟩ := bd_inv h
      rw [h3]
      obtain ⟨g1, g2, g3⟩ := bd_inv h2
      rw [g3]
      have hn := rB_red hb
      unfold stp1 at g1 g2 ⊢
      by_cases hq : 11 < (rB l).1 ∨ 0 < (rB l).1 ∧ (rB l).1 ≤ hi
      · rw [if_pos hq] at g1
        exact absurd g1 (show ((104 : Int) = 0) → False by decide)
      · rw [if_neg hq] at g1 g2 ⊢
        have hs' := pc_red (z := s) (Q := fun x => Okk N (max hi (rB l).1) x) (fun l a b c => sec_red hs hn (by omega) (by omega) a b c) (byt_dropS hb _) (by rw [List.length_drop]; omega) g1
        exact mod_red f hs' (byt_dropS (byt_dropS hb _) _) (by rw [List.length_drop, List.length_drop]; omega) g2
theorem set_mem : ∀ {ts : List Int} {fs : List Fn} {x : Fn}, x ∈ setTypes ts fs → ∃ y ∈ fs, x.2 = y.2
  | [], fs, x, h => ⟨x, by cases fs <;> exact h, rfl⟩
  | _ :: _, [], x, h => by cases h
  | t :: ts, f :: fs, x, h => by
    rcases List.mem_cons.1 h with rfl | h
    · exact ⟨f, List.mem_cons_self, rfl⟩
    · obtain ⟨y, h1, h2⟩ := set_mem h
      exact ⟨y, List.mem_cons_of_mem _ h1, h2⟩
theorem set_len : ∀ (ts : List Int) (fs : List Fn), (setTypes ts fs).length = fs.length
  | [], fs => by cases fs <;> rfl
  | _ :: _, [] => rfl
  | t :: ts, f :: fs => by show (_ :: _).length = _; rw [List.length_cons, List.length_cons, set_len ts fs]
theorem Okk.mok {N : Nat} {hi : Int} {s : St} (h : Okk N hi s) (hN : N ≤ 7000) (ts : List Int) : Mok { s.1 with funcs := setTypes ts s.1.funcs } where
  types := by have := h.types.len; show s.1.types.length ≤ _; omega
  imps := by have := h.imps.len; show s.1.imps.length ≤ _; omega
  funcs := by have := h.funcs.len; show (setTypes ts s.1.funcs).length ≤ _; rw [set_len]; omega
  tabs := by have := h.tabs.len; show s.1.tabs.length ≤ _; omega
  mems := by have := h.mems.len; show s.1.mems.length ≤ _; omega
  globs := by have := h.globs.len; show s.1.globs.length ≤ _; omega
  exps := by have := h.exps.len; show s.1.exps.length ≤ _; omega
  elems := by have := h.elems.len; show s.1.elems.length ≤ _; omega
  datas := by have := h.datas.len; show s.1.datas.length ≤ _; omega
  bodies := fun f hf => by
    obtain ⟨g, h1, h2⟩ := set_mem hf
    obtain ⟨a, b⟩ := h.funcs.all g h1
    rw [h2]
    exact ⟨by omega, b⟩
  inits := fun f hf => by
    obtain ⟨a, b⟩ := h.globs.all f hf
    exact ⟨by omega, b⟩
  offs := fun f hf => by
    obtain ⟨⟨a, b⟩, c⟩ := h.elems.all f hf
    exact ⟨by omega, b, by omega⟩
  doffs := fun f hf => by
    obtain ⟨a, b⟩ := h.datas.all f hf
    exact ⟨by omega, b⟩
theorem mok0 : Mok mo0 := (okk0 0).mok (by omega) []
theorem dec_mok (sat : Bool) {xs : List Int} (hb : Byt xs) (hl : xs.length ≤ 7000) : Mok (dec sat xs).1 := by
  unfold dec
  split
  · exact mok0
  split
  · exact mok0
  split
  · exact mok0
  split
  · exact mok0
  rename_i _ _ h _
  have h := Decidable.not_not.1 h
  obtain ⟨hi, hk⟩ := mod_red (sat := sat) (N := xs.length) _ (okk0 _) (byt_dropS hb 8) (by rw [List.length_drop]; omega) h
  exact hk.mok hl _
end Go.Proofs.YtjoonmpjcophnaaGreatDoor
namespace Go.Proofs.YtjoonmpjcophnaaGreatDoor

theorem rU_small {c : Int} {r : List Int} (h0 : 0 ≤ c) (h : c < 128) : rU 32 (c :: r) = (c, 1, 0) := by
  unfold rU
  rw [rd_last h (by unfold okU; rw [decide_eq_true_iff]; omega)]
  show (VU c % 18446744073709551616, 1, (((0 : Nat)) : Int)) = _
  rw [show VU c = c from rfl, Int.emod_eq_of_lt h0 (by omega)]
  rfl
theorem bytes_sct (b r : List Int) (h : b.length < 128) : rBytes ((b.length : Int) :: (b ++ r)) = (b, 1 + b.length, 0) := by
  unfold rBytes
  have h1 := rU_small (c := (b.length : Int)) (r := b ++ r) (by omega) (by omega)
  rw [bd_ok (by rw [h1]), h1]
  show ((rP ((b.length : Int)).toNat (b ++ r)).1, 1 + (rP ((b.length : Int)).toNat (b ++ r)).2.1, (rP ((b.length : Int)).toNat (b ++ r)).2.2) = _
  rw [Int.toNat_natCast, rP_ok (by rw [List.length_append]; omega), List.take_left']
  rfl
theorem pc_sct {A : Type} (z : A) (f : Rr A) (b r : List Int) (h : b.length < 128) : rPc z f ((b.length : Int) :: (b ++ r)) = ((alone f b []).1, 1 + b.length, (alone f b []).2.2) := by
  unfold rPc
  have h1 := bytes_sct b r h
  rw [bd_ok (by rw [h1]), h1]
  rfl
/-- The same failure; what was read, if there is none. -/
def Agr {A : Type} (a b : A × Nat × Int) : Prop := a.2.2 = b.2.2 ∧ (a.2.2 = 0 → a.1 = b.1)
theorem Agr.refl {A : Type} (a : A × Nat × Int) : Agr a a := ⟨rfl, fun _ => rfl⟩
theorem Agr.trans {A : Type} {a b c : A × Nat × Int} (h : Agr a b) (k : Agr b c) : Agr a c := ⟨h.1.trans k.1, fun q => (h.2 q).trans (k.2 (h.1.symm.trans q))⟩
theorem Agr.symm {A : Type} {a b : A × Nat × Int} (h : Agr a b) : Agr b a := ⟨h.1.symm, fun q => (h.2 (h.1.trans q)).symm⟩
theorem mod_fuel (sat : Bool) : ∀ (f g : Nat) (hi : Int) (s : St) (l : List Int), l.length < f → l.length < g → rMod sat f hi s l = rMod sat g hi s l
  | 0, _, _, _, _, h, _ => absurd h (Nat.not_lt_zero _)
  | _ + 1, 0, _, _, _, _, h => absurd h (Nat.not_lt_zero _)
  | f + 1, g + 1, hi, s, l, h1, h2 => by
    unfold rMod
    by_cases h0 : l = []
    · rw [if_pos h0, if_pos h0]
    · rw [if_neg h0, if_neg h0]
      cases l with
      | nil => exact absurd rfl h0
      | cons x r =>
        rw [List.length_cons] at h1 h2
        refine bd_congr fun _ => bd_congr fun _ => mod_fuel sat f g _ _ _ ?_ ?_
        · show ((r.drop _).length) < f; rw [List.length_drop]; omega
        · show ((r.drop _).length) < g; rw [List.length_drop]; omega
/-- All sections of these bytes. -/
def rAll (sat : Bool) (hi : Int) (s : St) : Rr St := fun l => rMod sat (l.length + 1) hi s l
theorem all_cons (sat : Bool) (hi : Int) (s : St) (x : Int) (r : List Int) : rAll sat hi s (x :: r) = bd s rB (fun n => bd s (stp1 sat hi s n) fun s' => rAll sat (max hi n) s') (x :: r) := by
  show rMod sat ((x :: r).length + 1) hi s (x :: r) = _
  unfold rMod
  rw [if_neg (by simp)]
  refine bd_congr fun _ => bd_congr fun _ => mod_fuel sat _ _ _ _ _ ?_ (Nat.lt_succ_self _)
  show ((r.drop _).length) < _
  rw [List.length_drop, List.length_cons]
  omega
/-- A section ahead. -/
def sct (n : Int) (b : List Int) : List Int := n :: (b.length : Int) :: b
theorem all_bad {sat : Bool} {hi n : Int} {s : St} {r : List Int} (h : 11 < n ∨ 0 < n ∧ n ≤ hi) : (rAll sat hi s (n :: r)).2.2 = 104 := by
  rw [all_cons, bd_ok rfl]
  show (bd s (stp1 sat hi s n) _ r).2.2 = 104
  unfold stp1
  rw [if_pos h, bd_no (show (104 : Int) ≠ 0 by decide)]
theorem all_step {sat : Bool} {hi n : Int} {s : St} {r : List Int} (h : ¬ (11 < n ∨ 0 < n ∧ n ≤ hi)) : (rAll sat hi s (n :: r)).1 = (bd s (rPc s (rSec sat n s)) (fun s' => rAll sat (max hi n) s') r).1 ∧ (rAll sat hi s (n :: r)).2.2 = (bd s (rPc s (rSec sat n s)) (fun s' => rAll sat (max hi n) s') r).2.2 := by
  rw [all_cons, bd_ok rfl]
  show (bd s (stp1 sat hi s n) _ r).1 = _ ∧ (bd s (stp1 sat hi s n) _ r).2.2 = _
  unfold stp1
  rw [if_neg h]
  exact ⟨rfl, rfl⟩
theorem all_sct {sat : Bool} {hi n : Int} {s : St} {b r : List Int} (hb : b.length < 128) (h : ¬ (11 < n ∨ 0 < n ∧ n ≤ hi)) :
    ((alone (rSec sat n s) b []).2.2 ≠ 0 → (rAll sat hi s (sct n b ++ r)).2.2 = (alone (rSec sat n s) b []).2.2) ∧
    ((alone (rSec sat n s) b []).2.2 = 0 → Agr (rAll sat hi s (sct n b ++ r)) (rAll sat (max hi n) (alone (rSec sat n s) b []).1 r)) := by
  have h1 := all_step (sat := sat) (s := s) (r := (b.length : Int) :: (b ++ r)) h
  have h2 := pc_sct s (rSec sat n s) b r hb
  rw [show sct n b ++ r = n :: (b.length : Int) :: (b ++ r) from rfl]
  constructor
  · intro hq
    rw [h1.2, bd_no (by rw [h2]; exact hq), h2]
  · intro hq
    rw [bd_ok (by rw [h2]; exact hq), h2] at h1
    have h3 : List.drop (1 + b.length) ((b.length : Int) :: (b ++ r)) = r := by
      rw [Nat.add_comm, List.drop_succ_cons, List.drop_left']
      rfl
    simp only at h1
    rw [h3] at h1
    exact ⟨h1.2, fun _ => h1.1⟩
theorem all_same {sat : Bool} {X Y : List Int} (H : ∀ hi s, 0 ≤ hi → Agr (rAll sat hi s X) (rAll sat hi s Y)) : ∀ (P : List (Int × List Int)), (∀ q ∈ P, q.2.length < 128) → ∀ hi s, 0 ≤ hi → Agr (rAll sat hi s (P.flatMap (fun q => sct q.1 q.2) ++ X)) (rAll sat hi s (P.flatMap (fun q => sct q.1 q.2) ++ Y))
  | [], _, hi, s, h0 => H hi s h0
  | q :: P, hP, hi, s, h0 => by
    rw [List.flatMap_cons, List.append_assoc, List.append_assoc]
    have hq := hP q List.mem_cons_self
    by_cases hb : 11 < q.1 ∨ 0 < q.1 ∧ q.1 ≤ hi
    · have e1 : (rAll sat hi s (sct q.1 q.2 ++ (P.flatMap (fun q => sct q.1 q.2) ++ X))).2.2 = 104 := all_bad hb
      have e2 : (rAll sat hi s (sct q.1 q.2 ++ (P.flatMap (fun q => sct q.1 q.2) ++ Y))).2.2 = 104 := all_bad hb
      exact ⟨e1.trans e2.symm, fun k => absurd (e1.symm.trans k) (by decide)⟩
    · obtain ⟨a1, a2⟩ := all_sct (sat := sat) (s := s) (r := P.flatMap (fun q => sct q.1 q.2) ++ X) hq hb
      obtain ⟨b1, b2⟩ := all_sct (sat := sat) (s := s) (r := P.flatMap (fun q => sct q.1 q.2) ++ Y) hq hb
      by_cases he : (alone (rSec sat q.1 s) q.2 []).2.2 = 0
      · exact ((a2 he).trans (all_same H P (fun x hx => hP x (List.mem_cons_of_mem _ hx)) _ _ (by omega))).trans (b2 he).symm
      · exact ⟨(a1 he).trans (b1 he).symm, fun k => absurd ((a1 he).symm.trans k) he⟩
/-- A section of the number 0 ahead changes nothing. -/
theorem all_zero {sat : Bool} {hi : Int} {s : St} {z r : List Int} (hz : z.length < 128) (h0 : 0 ≤ hi) (ha : (rName z).2.2 = 0) (hl : (rName z).2.1 ≤ z.length) : Agr (rAll sat hi s (sct 0 z ++ r)) (rAll sat hi s r) := by
  have hs : rSec sat 0 s z = (s, z.length, 0) := by
    unfold rSec
    rw [if_pos rfl, bd_ok ha]
    simp only
    rw [List.length_drop, Nat.add_sub_cancel' hl]
  have h1 : alone (rSec sat 0 s) z [] = (s, 0, 0) := by
    unfold alone
    rw [hs]
    simp
  have h2 := (all_sct (sat := sat) (s := s) (r := r) (n := 0) (hi := hi) hz (by omega)).2 (by rw [h1])
  rw [h1, Int.max_eq_left h0] at h2
  exact h2
theorem bnd_at {A B : Type} {z : B} {f : Rr A} {g : A → Rr B} {l : List Int} {x : A} {y : B} {k1 k2 : Nat} (h1 : f l = (x, k1, 0)) (h2 : g x (l.drop k1) = (y, k2, 0)) : bnd z f g l = (y, k1 + k2, 0) := by
  unfold bnd
  simp only [h1, h2]
  rfl
theorem name_x (c : List Int) : rName ([1, 120] ++ c) = ([120], 2, 0) := by
  have h1 : rU 32 ([1, 120] ++ c) = (1, 1, 0) := rU_small (by decide) (by decide)
  have h2 : rP (1 : Int).toNat (120 :: c) = ([120], 1, 0) := by rw [rP_ok (by simp)]; rfl
  unfold rName
  have h3 : ∀ l : List Int, tst (cnt [120]).isSome [120] [] 102 l = (([120] : List Int), 0, (0 : Int)) := fun l => by rw [show (cnt [120]).isSome = true by kernel_rfl]; rfl
  exact bnd_at (g := fun n : Int => bnd [] (rP n.toNat) fun b => tst (cnt b).isSome b [] 102) h1 (bnd_at (g := fun b => tst (cnt b).isSome b [] 102) h2 (h3 _))
/-- What a module is, of what its sections say. -/
def fin (t : St × Nat × Int) : Mo × Int := if t.2.2 ≠ 0 then (mo0, t.2.2) else if t.1.2.length ≠ t.1.1.funcs.length then (mo0, 109) else ({ t.1.1 with funcs := setTypes t.1.2 t.1.1.funcs }, 0)
theorem dec_fin (sat : Bool) {xs : List Int} (h1 : xs.length ≤ 65536) (h2 : xs.take 8 = magic) : dec sat xs = fin (rAll sat 0 (mo0, []) (xs.drop 8)) := by
  unfold dec
  rw [if_neg (by omega), if_neg (by rw [h2]; simp)]
  rw [mod_fuel sat (xs.length + 1) ((xs.drop 8).length + 1) 0 (mo0, []) (xs.drop 8) (by rw [List.length_drop]; omega) (by omega)]
  rfl
theorem Agr.fin {a b : St × Nat × Int} (h : Agr a b) : fin a = Go.Proofs.YtjoonmpjcophnaaGreatDoor.fin b := by
  unfold Go.Proofs.YtjoonmpjcophnaaGreatDoor.fin
  by_cases h0 : a.2.2 = 0
  · have h1 : ¬ a.2.2 ≠ 0 := fun q => q h0
    have h2 : ¬ b.2.2 ≠ 0 := fun q => q (h.1.symm.trans h0)
    rw [if_neg h1, if_neg h2, h.2 h0]
  · rw [if_pos h0, if_pos (by rw [← h.1]; exact h0), h.1]
theorem dec_zero (sat : Bool) (P Q : List (Int × List Int)) (c : List Int) (hP : ∀ q ∈ P, q.2.length < 128) (hc : c.length ≤ 50) (hl : (magic ++ (P.flatMap (fun q => sct q.1 q.2) ++ (sct 0 ([1, 120] ++ c) ++ Q.flatMap (fun q => sct q.1 q.2)))).length ≤ 65536) :
    dec sat (magic ++ (P.flatMap (fun q => sct q.1 q.2) ++ (sct 0 ([1, 120] ++ c) ++ Q.flatMap (fun q => sct q.1 q.2)))) = dec sat (magic ++ (P.flatMap (fun q => sct q.1 q.2) ++ Q.flatMap (fun q => sct q.1 q.2))) := by
  have hn := name_x c
  rw [dec_fin sat hl rfl, dec_fin sat (by simp only [List.length_append] at hl ⊢; omega) rfl]
  exact Agr.fin (all_same (fun hi s h0 => all_zero (by simp; omega) h0 (by rw [hn]) (by rw [hn]; simp)) P hP 0 (mo0, []) (Int.le_refl _))
end Go.Proofs.YtjoonmpjcophnaaGreatDoor
namespace Go.Proofs.YtjoonmpjcophnaaGreatDoor
open Go.RowKit

theorem Sls.fr2 {α : Type} {E : El α} {w w' : World} {P : Nat → Prop} {l : List Nat} {xs : List α} {v : Value} (h : Sls E w P xs v) (hf : Fr l w w') (hl : ∀ i ∈ l, ¬ P i) : Sls E w' P xs v := h.all fun _ _ hp hc => hf.keep hc (fun hm => hl _ hm hp)
/-- The twelve cells: a module's eleven, and the functions' types. -/
structure Dr (w : World) (P : Nat → Prop) (s : St) (vs : List Value) : Prop where
  ex : ∃ v0 v1 v2 v3 v4 v5 v6 v9 v10 v11, vs = [v0, v1, v2, v3, v4, v5, v6, .bool s.1.starts, .int .u32 s.1.start, v9, v10, v11] ∧ Sls eTy w P s.1.types v0 ∧ Sls eIm w P s.1.imps v1 ∧ Sls eFn w P s.1.funcs v2 ∧ Sls eLim w P s.1.tabs v3 ∧ Sls eLim w P s.1.mems v4 ∧ Sls eCe w P s.1.globs v5 ∧ Sls eEx w P s.1.exps v6 ∧ Sls eEm w P s.1.elems v9 ∧ Sls eDa w P s.1.datas v10 ∧ Sls eU w P s.2 v11
theorem Dr.all {A B : World} {P : Nat → Prop} {s : St} {vs : List Value} (h : Dr A P s vs) (k : ∀ (p : Addr) v, P p.block → A.cell? p = some v → B.cell? p = some v) : Dr B P s vs := by
  obtain ⟨v0, v1, v2, v3, v4, v5, v6, v9, v10, v11, h, a, b, c, d, e, f, g, i, j, m⟩ := h.ex
  exact ⟨⟨v0, v1, v2, v3, v4, v5, v6, v9, v10, v11, h, a.all k, b.all k, c.all k, d.all k, e.all k, f.all k, g.all k, i.all k, j.all k, m.all k⟩⟩
theorem Dr.mono {w : World} {P P' : Nat → Prop} {s : St} {vs : List Value} (h : Dr w P s vs) (k : ∀ b, b < w.heap.size → P b → P' b) : Dr w P' s vs := by
  obtain ⟨v0, v1, v2, v3, v4, v5, v6, v9, v10, v11, h, a, b, c, d, e, f, g, i, j, m⟩ := h.ex
  exact ⟨⟨v0, v1, v2, v3, v4, v5, v6, v9, v10, v11, h, a.mono k, b.mono k, c.mono k, d.mono k, e.mono k, f.mono k, g.mono k, i.mono k, j.mono k, m.mono k⟩⟩
theorem Dr.fr {w w' : World} {P : Nat → Prop} {s : St} {vs : List Value} {l : List Nat} (h : Dr w P s vs) (hf : Fr l w w') (hl : ∀ i ∈ l, ¬ P i) : Dr w' P s vs := h.all fun _ _ hp hc => hf.keep hc (fun hm => hl _ hm hp)
theorem Dr.len {w : World} {P : Nat → Prop} {s : St} {vs : List Value} (h : Dr w P s vs) : vs.length = 12 := by
  obtain ⟨v0, v1, v2, v3, v4, v5, v6, v9, v10, v11, h, -⟩ := h.ex
  rw [h]; rfl
def nil12 : List Value := [.slice none 0 0, .slice none 0 0, .slice none 0 0, .slice none 0 0, .slice none 0 0, .slice none 0 0, .slice none 0 0, .bool false, .int .u32 0, .slice none 0 0, .slice none 0 0, .slice none 0 0]
theorem dr0 (w : World) (P : Nat → Prop) : Dr w P (mo0, []) nil12 := ⟨⟨_, _, _, _, _, _, _, _, _, _, rfl, sls_nil w P, sls_nil w P, sls_nil w P, sls_nil w P, sls_nil w P, sls_nil w P, sls_nil w P, sls_nil w P, sls_nil w P, sls_nil w P⟩⟩
/-- Sections that are still to come have said nothing. -/
structure Non (hi : Int) (s : St) : Prop where
  pos : 0 ≤ hi
  types : hi < 1 → s.1.types = []
  imps : hi < 2 → s.1.imps = []
  tabs : hi < 4 → s.1.tabs = []
  mems : hi < 5 → s.1.mems = []
  globs : hi < 6 → s.1.globs = []
  exps : hi < 7 → s.1.exps = []
  elems : hi < 9 → s.1.elems = []
  funcs : hi < 10 → s.1.funcs = []
  datas : hi < 11 → s.1.datas = []
theorem non0 : Non 0 (mo0, []) := ⟨Int.le_refl _, fun _ => rfl, fun _ => rfl, fun _ => rfl, fun _ => rfl, fun _ => rfl, fun _ => rfl, fun _ => rfl, fun _ => rfl, fun _ => rfl⟩
theorem Non.more {hi hi' : Int} {s : St} (h : Non hi s) (hh : hi ≤ hi') : Non hi' s := ⟨Int.le_trans h.pos hh, fun q => h.types (by omega), fun q => h.imps (by omega), fun q => h.tabs (by omega), fun q => h.mems (by omega), fun q => h.globs (by omega), fun q => h.exps (by omega), fun q => h.elems (by omega), fun q => h.funcs (by omega), fun q => h.datas (by omega)⟩
section
variable {xs : List Int} {k k' : Nat} {e e' : Int} {sat : Bool}
theorem Dr.set_types {w : World} {P : Nat → Prop} {s : St} {vs : List Value} {L} {v : Value} (h : Dr w P s vs) (h0 : s.1.types = []) (hv : Sls eTy w P L v) : Dr w P ({ s.1 with types := s.1.types ++ L }, s.2) (vs.set 0 v) := by
  obtain ⟨v0, v1, v2, v3, v4, v5, v6, v9, v10, v11, rfl, a, b, c, d, e, f, g, i, j, m⟩ := h.ex
  exact ⟨⟨v, v1, v2, v3, v4, v5, v6, v9, v10, v11, rfl, (by rw [h0, List.nil_append]; exact hv), b, c, d, e, f, g, i, j, m⟩⟩
theorem rd_sec1 {s : St} {L} (h : Rd (rList rFunc) xs k e L k' e') : Rd (rSec sat 1 s) xs k e ({ s.1 with types := s.1.types ++ L }, s.2) k' e' := by
  have := h.bd (z := s) (g := fun L => giv (({ s.1 with types := s.1.types ++ L }, s.2) : St)) (Rd.giv _ _ _ _)
  simpa [rSec] using this
theorem Non.step1 {hi : Int} {s : St} (h : Non hi s) {L} (hn : hi < 1) : Non (max hi 1) ({ s.1 with types := s.1.types ++ L }, s.2) :=
  ⟨by omega, fun q => by omega, fun q => h.imps (by omega), fun q => h.tabs (by omega), fun q => h.mems (by omega), fun q => h.globs (by omega), fun q => h.exps (by omega), fun q => h.elems (by omega), fun q => h.funcs (by omega), fun q => h.datas (by omega)⟩
theorem Dr.set_imps {w : World} {P : Nat → Prop} {s : St} {vs : List Value} {L} {v : Value} (h : Dr w P s vs) (h0 : s.1.imps = []) (hv : Sls eIm w P L v) : Dr w P ({ s.1 with imps := s.1.imps ++ L }, s.2) (vs.set 1 v) := by
  obtain ⟨v0, v1, v2, v3, v4, v5, v6, v9, v10, v11, rfl, a, b, c, d, e, f, g, i, j, m⟩ := h.ex
  exact ⟨⟨v0, v, v2, v3, v4, v5, v6, v9, v10, v11, rfl, a, (by rw [h0, List.nil_append]; exact hv), c, d, e, f, g, i, j, m⟩⟩
theorem rd_sec2 {s : St} {L} (h : Rd (rList rImp) xs k e L k' e') : Rd (rSec sat 2 s) xs k e ({ s.1 with imps := s.1.imps ++ L }, s.2) k' e' := by
  have := h.bd (z := s) (g := fun L => giv (({ s.1 with imps := s.1.imps ++ L }, s.2) : St)) (Rd.giv _ _ _ _)
  simpa [rSec] using this
theorem Non.step2 {hi : Int} {s : St} (h : Non hi s) {L} (hn : hi < 2) : Non (max hi 2) ({ s.1 with imps := s.1.imps ++ L }, s.2) :=
  ⟨by omega, fun q => h.types (by omega), fun q => by omega, fun q => h.tabs (by omega), fun q => h.mems (by omega), fun q => h.globs (by omega), fun q => h.exps (by omega), fun q => h.elems (by omega), fun q => h.funcs (by omega), fun q => h.datas (by omega)⟩
theorem Dr.set_funcs {w : World} {P : Nat → Prop} {s : St} {vs : List Value} {L} {v : Value} (h : Dr w P s vs) (h0 : s.1.funcs = []) (hv : Sls eFn w P L v) : Dr w P ({ s.1 with funcs := s.1.funcs ++ L }, s.2) (vs.set 2 v) := by
  obtain ⟨v0, v1, v2, v3, v4, v5, v6, v9, v10, v11, rfl, a, b, c, d, e, f, g, i, j, m⟩ := h.ex
  exact ⟨⟨v0, v1, v, v3, v4, v5, v6, v9, v10, v11, rfl, a, b, (by rw [h0, List.nil_append]; exact hv), d, e, f, g, i, j, m⟩⟩
theorem rd_sec10 {s : St} {L} (h : Rd (rList (rPc (0, [], .nil) (rFn sat))) xs k e L k' e') : Rd (rSec sat 10 s) xs k e ({ s.1 with funcs := s.1.funcs ++ L }, s.2) k' e' := by
  have := h.bd (z := s) (g := fun L => giv (({ s.1 with funcs := s.1.funcs ++ L }, s.2) : St)) (Rd.giv _ _ _ _)
  simpa [rSec] using this
theorem Non.step10 {hi : Int} {s : St} (h : Non hi s) {L} (hn : hi < 10) : Non (max hi 10) ({ s.1 with funcs := s.1.funcs ++ L }, s.2) :=
  ⟨by omega, fun q => h.types (by omega), fun q => h.imps (by omega), fun q => h.tabs (by omega), fun q => h.mems (by omega), fun q => h.globs (by omega), fun q => h.exps (by omega), fun q => h.elems (by omega), fun q => by omega, fun q => h.datas (by omega)⟩
theorem Dr.set_tabs {w : World} {P : Nat → Prop} {s : St} {vs : List Value} {L} {v : Value} (h : Dr w P s vs) (h0 : s.1.tabs = []) (hv : Sls eLim w P L v) : Dr w P ({ s.1 with tabs := s.1.tabs ++ L }, s.2) (vs.set 3 v) := by
  obtain ⟨v0, v1, v2, v3, v4, v5, v6, v9, v10, v11, rfl, a, b, c, d, e, f, g, i, j, m⟩ := h.ex
  exact ⟨⟨v0, v1, v2, v, v4, v5, v6, v9, v10, v11, rfl, a, b, c, (by rw [h0, List.nil_append]; exact hv), e, f, g, i, j, m⟩⟩
theorem rd_sec4 {s : St} {L} (h : Rd (rList rTable) xs k e L k' e') : Rd (rSec sat 4 s) xs k e ({ s.1 with tabs := s.1.tabs ++ L }, s.2) k' e' := by
  have := h.bd (z := s) (g := fun L => giv (({ s.1 with tabs := s.1.tabs ++ L }, s.2) : St)) (Rd.giv _ _ _ _)
  simpa [rSec] using this
theorem Non.step4 {hi : Int} {s : St} (h : Non hi s) {L} (hn : hi < 4) : Non (max hi 4) ({ s.1 with tabs := s.1.tabs ++ L }, s.2) :=
  ⟨by omega, fun q => h.types (by omega), fun q => h.imps (by omega), fun q => by omega, fun q => h.mems (by omega), fun q => h.globs (by omega), fun q => h.exps (by omega), fun q => h.elems (by omega), fun q => h.funcs (by omega), fun q => h.datas (by omega)⟩
theorem Dr.set_mems {w : World} {P : Nat → Prop} {s : St} {vs : List Value} {L} {v : Value} (h : Dr w P s vs) (h0 : s.1.mems = []) (hv : Sls eLim w P L v) : Dr w P ({ s.1 with mems := s.1.mems ++ L }, s.2) (vs.set 4 v) := by
  obtain ⟨v0, v1, v2, v3, v4, v5, v6, v9, v10, v11, rfl, a, b, c, d, e, f, g, i, j, m⟩ := h.ex
  exact ⟨⟨v0, v1, v2, v3, v, v5, v6, v9, v10, v11, rfl, a, b, c, d, (by rw [h0, List.nil_append]; exact hv), f, g, i, j, m⟩⟩
theorem rd_sec5 {s : St} {L} (h : Rd (rList rLimits) xs k e L k' e') : Rd (rSec sat 5 s) xs k e ({ s.1 with mems := s.1.mems ++ L }, s.2) k' e' := by
  have := h.bd (z := s) (g := fun L => giv (({ s.1 with mems := s.1.mems ++ L }, s.2) : St)) (Rd.giv _ _ _ _)
  simpa [rSec] using this
theorem Non.step5 {hi : Int} {s : St} (h : Non hi s) {L} (hn : hi < 5) : Non (max hi 5) ({ s.1 with mems := s.1.mems ++ L }, s.2) :=
  ⟨by omega, fun q => h.types (by omega), fun q => h.imps (by omega), fun q => h.tabs (by omega), fun q => by omega, fun q => h.globs (by omega), fun q => h.exps (by omega), fun q => h.elems (by omega), fun q => h.funcs (by omega), fun q => h.datas (by omega)⟩
theorem Dr.set_globs {w : World} {P : Nat → Prop} {s : St} {vs : List Value} {L} {v : Value} (h : Dr w P s vs) (h0 : s.1.globs = []) (hv : Sls eCe w P L v) : Dr w P ({ s.1 with globs := s.1.globs ++ L }, s.2) (vs.set 5 v) := by
  obtain ⟨v0, v1, v2, v3, v4, v5, v6, v9, v10, v11, rfl, a, b, c, d, e, f, g, i, j, m⟩ := h.ex
  exact ⟨⟨v0, v1, v2, v3, v4, v, v6, v9, v10, v11, rfl, a, b, c, d, e, (by rw [h0, List.nil_append]; exact hv), g, i, j, m⟩⟩
theorem rd_sec6 {s : St} {L} (h : Rd (rList (rCe sat)) xs k e L k' e') : Rd (rSec sat 6 s) xs k e ({ s.1 with globs := s.1.globs ++ L }, s.2) k' e' := by
  have := h.bd (z := s) (g := fun L => giv (({ s.1 with globs := s.1.globs ++ L }, s.2) : St)) (Rd.giv _ _ _ _)
  simpa [rSec] using this
theorem Non.step6 {hi : Int} {s : St} (h : Non hi s) {L} (hn : hi < 6) : Non (max hi 6) ({ s.1 with globs := s.1.globs ++ L }, s.2) :=
  ⟨by omega, fun q => h.types (by omega), fun q => h.imps (by omega), fun q => h.tabs (by omega), fun q => h.mems (by omega), fun q => by omega, fun q => h.exps (by omega), fun q => h.elems (by omega), fun q => h.funcs (by omega), fun q => h.datas (by omega)⟩
theorem Dr.set_exps {w : World} {P : Nat → Prop} {s : St} {vs : List Value} {L} {v : Value} (h : Dr w P s vs) (h0 : s.1.exps = []) (hv : Sls eEx w P L v) : Dr w P ({ s.1 with exps := s.1.exps ++ L }, s.2) (vs.set 6 v) := by
  obtain ⟨v0, v1, v2, v3, v4, v5, v6, v9, v10, v11, rfl, a, b, c, d, e, f, g, i, j, m⟩ := h.ex
  exact ⟨⟨v0, v1, v2, v3, v4, v5, v, v9, v10, v11, rfl, a, b, c, d, e, f, (by rw [h0, List.nil_append]; exact hv), i, j, m⟩⟩
theorem rd_sec7 {s : St} {L} (h : Rd (rList rEx) xs k e L k' e') : Rd (rSec sat 7 s) xs k e ({ s.1 with exps := s.1.exps ++ L }, s.2) k' e' := by
  have := h.bd (z := s) (g := fun L => giv (({ s.1 with exps := s.1.exps ++ L }, s.2) : St)) (Rd.giv _ _ _ _)
  simpa [rSec] using this
theorem Non.step7 {hi : Int} {s : St} (h : Non hi s) {L} (hn : hi < 7) : Non (max hi 7) ({ s.1 with exps := s.1.exps ++ L }, s.2) :=
  ⟨by omega, fun q => h.types (by omega), fun q => h.imps (by omega), fun q => h.tabs (by omega), fun q => h.mems (by omega), fun q => h.globs (by omega), fun q => by omega, fun q => h.elems (by omega), fun q => h.funcs (by omega), fun q => h.datas (by omega)⟩
theorem Dr.set_elems {w : World} {P : Nat → Prop} {s : St} {vs : List Value} {L} {v : Value} (h : Dr w P s vs) (h0 : s.1.elems = []) (hv : Sls eEm w P L v) : Dr w P ({ s.1 with elems := s.1.elems ++ L }, s.2) (vs.set 9 v) := by
  obtain ⟨v0, v1, v2, v3, v4, v5, v6, v9, v10, v11, rfl, a, b, c, d, e, f, g, i, j, m⟩ := h.ex
  exact ⟨⟨v0, v1, v2, v3, v4, v5, v6, v, v10, v11, rfl, a, b, c, d, e, f, g, (by rw [h0, List.nil_append]; exact hv), j, m⟩⟩
theorem rd_sec9 {s : St} {L} (h : Rd (rList (rEm sat)) xs k e L k' e') : Rd (rSec sat 9 s) xs k e ({ s.1 with elems := s.1.elems ++ L }, s.2) k' e' := by
  have := h.bd (z := s) (g := fun L => giv (({ s.1 with elems := s.1.elems ++ L }, s.2) : St)) (Rd.giv _ _ _ _)
  simpa [rSec] using this
theorem Non.step9 {hi : Int} {s : St} (h : Non hi s) {L} (hn : hi < 9) : Non (max hi 9) ({ s.1 with elems := s.1.elems ++ L }, s.2) :=
  ⟨by omega, fun q => h.types (by omega), fun q => h.imps (by omega), fun q => h.tabs (by omega), fun q => h.mems (by omega), fun q => h.globs (by omega), fun q => h.exps (by omega), fun q => by omega, fun q => h.funcs (by omega), fun q => h.datas (by omega)⟩
theorem Dr.set_datas {w : World} {P : Nat → Prop} {s : St} {vs : List Value} {L} {v : Value} (h : Dr w P s vs) (h0 : s.1.datas = []) (hv : Sls eDa w P L v) : Dr w P ({ s.1 with datas := s.1.datas ++ L }, s.2) (vs.set 10 v) := by
  obtain ⟨v0, v1, v2, v3, v4, v5, v6, v9, v10, v11, rfl, a, b, c, d, e, f, g, i, j, m⟩ := h.ex
  exact ⟨⟨v0, v1, v2, v3, v4, v5, v6, v9, v, v11, rfl, a, b, c, d, e, f, g, i, (by rw [h0, List.nil_append]; exact hv), m⟩⟩
theorem rd_sec11 {s : St} {L} (h : Rd (rList (rDa sat)) xs k e L k' e') : Rd (rSec sat 11 s) xs k e ({ s.1 with datas := s.1.datas ++ L }, s.2) k' e' := by
  have := h.bd (z := s) (g := fun L => giv (({ s.1 with datas := s.1.datas ++ L }, s.2) : St)) (Rd.giv _ _ _ _)
  simpa [rSec] using this
theorem Non.step11 {hi : Int} {s : St} (h : Non hi s) {L} (hn : hi < 11) : Non (max hi 11) ({ s.1 with datas := s.1.datas ++ L }, s.2) :=
  ⟨by omega, fun q => h.types (by omega), fun q => h.imps (by omega), fun q => h.tabs (by omega), fun q => h.mems (by omega), fun q => h.globs (by omega), fun q => h.exps (by omega), fun q => h.elems (by omega), fun q => h.funcs (by omega), fun q => by omega⟩
theorem Dr.set_fty {w : World} {P : Nat → Prop} {s : St} {vs : List Value} {L : List Int} {v : Value} (h : Dr w P s vs) (hv : Sls eU w P L v) : Dr w P (s.1, L) (vs.set 11 v) := by
  obtain ⟨v0, v1, v2, v3, v4, v5, v6, v9, v10, v11, rfl, a, b, c, d, e, f, g, i, j, m⟩ := h.ex
  exact ⟨⟨v0, v1, v2, v3, v4, v5, v6, v9, v10, v, rfl, a, b, c, d, e, f, g, i, j, hv⟩⟩
theorem rd_sec3 {s : St} {L : List Int} (h : Rd (rList (rU 32)) xs k e L k' e') : Rd (rSec sat 3 s) xs k e (s.1, L) k' e' := by
  have := h.bd (z := s) (g := fun L => giv ((s.1, L) : St)) (Rd.giv _ _ _ _)
  simpa [rSec] using this
theorem Dr.set_start {w : World} {P : Nat → Prop} {s : St} {vs : List Value} (h : Dr w P s vs) (y : Int) : Dr w P ({ s.1 with starts := true, start := y }, s.2) ((vs.set 7 (.bool true)).set 8 (.int .u32 y)) := by
  obtain ⟨v0, v1, v2, v3, v4, v5, v6, v9, v10, v11, rfl, a, b, c, d, e, f, g, i, j, m⟩ := h.ex
  exact ⟨⟨v0, v1, v2, v3, v4, v5, v6, v9, v10, v11, rfl, a, b, c, d, e, f, g, i, j, m⟩⟩
theorem rd_sec8 {s : St} {y : Int} (h : Rd (rU 32) xs k e y k' e') : Rd (rSec sat 8 s) xs k e ({ s.1 with starts := true, start := y }, s.2) k' e' := by
  have := h.bd (z := s) (g := fun x => giv (({ s.1 with starts := true, start := x }, s.2) : St)) (Rd.giv _ _ _ _)
  simpa [rSec] using this
end
/-- Behind a section. -/
theorem Non.sec {sat : Bool} {hi n : Int} {s : St} (h : Non hi s) (h0 : 0 ≤ n) (h11 : n ≤ 11) (hn : n = 0 ∨ hi < n) {l : List Int} (he : (rSec sat n s l).2.2 = 0) : Non (max hi n) (rSec sat n s l).1 := by
  have hm := h.more (show hi ≤ max hi n by omega)
  unfold rSec at he ⊢
  by_cases q0 : n = 0
  · subst q0
    rw [if_pos rfl] at he ⊢
    obtain ⟨-, -, h3⟩ := bd_inv he
    rw [h3]
    exact { hm with }
  rw [if_neg q0] at he ⊢
  by_cases q1 : n = 1
  · subst q1
    rw [if_pos rfl] at he ⊢
    obtain ⟨-, -, h3⟩ := bd_inv he
    rw [h3]
    exact h.step1 (by omega)
  rw [if_neg q1] at he ⊢
  by_cases q2 : n = 2
  · subst q2
    rw [if_pos rfl] at he ⊢
    obtain ⟨-, -, h3⟩ := bd_inv he
    rw [h3]
    exact h.step2 (by omega)
  rw [if_neg q2] at he ⊢
  by_cases q3 : n = 3
  · subst q3
    rw [if_pos rfl] at he ⊢
    obtain ⟨-, -, h3⟩ := bd_inv he
    rw [h3]
    exact { hm with }
  rw [if_neg q3] at he ⊢
  by_cases q4 : n = 4
  · subst q4
    rw [if_pos rfl] at he ⊢
    obtain ⟨-, -, h3⟩ := bd_inv he
    rw [h3]
    exact h.step4 (by omega)
  rw [if_neg q4] at he ⊢
  by_cases q5 : n = 5
  · subst q5
    rw [if_pos rfl] at he ⊢
    obtain ⟨-, -, h3⟩ := bd_inv he
    rw [h3]
    exact h.step5 (by omega)
  rw [if_neg q5] at he ⊢
  by_cases q6 : n = 6
  · subst q6
    rw [if_pos rfl] at he ⊢
    obtain ⟨-, -, h3⟩ := bd_inv he
    rw [h3]
    exact h.step6 (by omega)
  rw [if_neg q6] at he ⊢
  by_cases q7 : n = 7
  · subst q7
    rw [if_pos rfl] at he ⊢
    obtain ⟨-, -, h3⟩ := bd_inv he
    rw [h3]
    exact h.step7 (by omega)
  rw [if_neg q7] at he ⊢
  by_cases q8 : n = 8
  · subst q8
    rw [if_pos rfl] at he ⊢
    obtain ⟨-, -, h3⟩ := bd_inv he
    rw [h3]
    exact { hm with }
  rw [if_neg q8] at he ⊢
  by_cases q9 : n = 9
  · subst q9
    rw [if_pos rfl] at he ⊢
    obtain ⟨-, -, h3⟩ := bd_inv he
    rw [h3]
    exact h.step9 (by omega)
  rw [if_neg q9] at he ⊢
  by_cases q10 : n = 10
  · subst q10
    rw [if_pos rfl] at he ⊢
    obtain ⟨-, -, h3⟩ := bd_inv he
    rw [h3]
    exact h.step10 (by omega)
  rw [if_neg q10] at he ⊢
  obtain rfl : n = 11 := by omega
  obtain ⟨-, -, h3⟩ := bd_inv he
  rw [h3]
  exact h.step11 (by omega)
end Go.Proofs.YtjoonmpjcophnaaGreatDoor
namespace Go.Proofs.YtjoonmpjcophnaaGreatDoor
open Go.RowKit

set_option maxHeartbeats 2000000 in
set_option maxRecDepth 100000 in
theorem expr_any {c : Nat} {a : Option Addr} {len cap k : Nat} {xs : List Int} {sat : Bool} {e : Int} {W : World} (h : Cs c a len cap xs k e W) (hm : Mk W) (hc : 4 ≤ c) :
    Calls Tryz.prog 147 #[.pointer (some ⟨c, 0, none⟩), .bool sat] W fun r W' => ∃ p q s T t k' e', r = .returned (.slice p q s) ∧ Rd (sq sat 0 false) xs k e (T, t) k' e' ∧ (e' = 0 → Fov W' (fun b => W.heap.size ≤ b) T (.slice p q s)) ∧ (e' ≠ 0 → Value.slice p q s = .slice none 0 0) ∧ Cs c a len cap xs k' e' W' ∧ Mk W' ∧ Fr [c] W W' := by
  have HE := hide (err_any h)
  have H := hide h
  have HM := hide hm
  by_cases he : e = 0
  · have he' : (e != 0) = false := by simp [he]
    have HO : Hid (c < W.heap.size ∧ ∀ p, a = some p → 0 < len → p.block < W.heap.size) := hide ⟨h.1.lt, h.2.1.lt⟩
    clear h hm
    go_enter Tryz.func147, Tryz.ntmps147
    go_wp2_with fail
    refine (unhide HE).mono ?_
    rintro _ w1 ⟨rfl, hww⟩
    obtain rfl : W = w1 := hww.symm
    clear hww HE
    go_wp2_with fail
    have hb := below1 W (.cells #[.pointer (some ⟨c, 0, none⟩), .bool sat, .int .i64 0] 240)
    have hR : Rs c W.heap.size a len cap xs sat 0 k e (W.alloc (.cells #[.pointer (some ⟨c, 0, none⟩), .bool sat, .int .i64 0] 240)) := by
      refine ⟨(unhide H).bel hb, ⟨by simp [go_sem], by simp [go_sem], by simp [go_sem]⟩, room_cells (cs := [.pointer (some ⟨c, 0, none⟩), .bool sat, .int .i64 0]) (t := 240) W 3 (Nat.le_refl _), (unhide HM).below hb, ?_, hc, ?_, fun p hp hl => ?_⟩
      · have := (unhide HO).1; omega
      · have := (unhide HO).1; omega
      · have := (unhide HO).2 p hp hl; omega
    have HF := hide (Fr.of hb [c])
    have HS := hide hb.size
    clear hb
    generalize W.alloc (.cells #[.pointer (some ⟨c, 0, none⟩), .bool sat, .int .i64 0] 240) = w2 at *
    refine (seq_any (len - k + 1) 0 k e false w2 (by decide) (fun _ => by omega) hR).mono ?_
    rintro _ w3 ⟨p, q, s, m, T, t, k', e', rfl, hD, hV, hR, hF⟩
    have HR := hide hR
    have HD := hide hD
    have HV := hide (fun q => (hV q).1.mono (P' := fun b => W.heap.size ≤ b) (fun b _ h => Nat.le_trans (unhide HS) h))
    have HF := hide ((unhide HF).thenL hF (by simp))
    clear hR hD hV hF
    go_wp2_with fail
    refine (rfailed_any (unhide HR)).mono ?_
    rintro _ w4 ⟨rfl, hww⟩
    obtain rfl : w3 = w4 := hww.symm
    clear hww
    by_cases h' : e' = 0
    · have h'' : (e' != 0) = false := by simp [h']
      go_wp2_with fail
      go_ret
      exact ⟨p, q, s, T, t, k', e', rfl, unhide HD, unhide HV, fun q => absurd h' q, (unhide HR).cur, (unhide HR).var, unhide HF⟩
    · have h'' : (e' != 0) = true := by simp [h']
      go_wp2_with fail
      go_ret
      exact ⟨none, 0, 0, T, t, k', e', rfl, unhide HD, fun q => absurd q h', fun _ => rfl, (unhide HR).cur, (unhide HR).var, unhide HF⟩
  · have he' : (e != 0) = true := by simp [he]
    clear h hm
    go_enter Tryz.func147, Tryz.ntmps147
    go_wp2_with fail
    refine (unhide HE).mono ?_
    rintro _ w1 ⟨rfl, hww⟩
    obtain rfl : W = w1 := hww.symm
    clear hww
    go_wp2_with fail
    go_ret
    exact ⟨none, 0, 0, .nil, false, k, e, rfl, Rd.err _ he, fun q => absurd q he, fun _ => rfl, unhide H, unhide HM, Fr.refl _ _⟩
end Go.Proofs.YtjoonmpjcophnaaGreatDoor
namespace Go.Proofs.YtjoonmpjcophnaaGreatDoor
open Go.RowKit

section
variable {c : Nat} {a : Option Addr} {len cap k : Nat} {xs : List Int} {e : Int} {W : World} {sat : Bool}
theorem p_u32 (h : Cs c a len cap xs k e W) : Calls Tryz.prog 38 #[.pointer (some ⟨c, 0, none⟩)] W fun r W' => ∃ y k' e', r = .returned (.int .u32 y) ∧ Rd (rU 32) xs k e y k' e' ∧ (0 ≤ y ∧ y < 4294967296) ∧ Cs c a len cap xs k' e' W' ∧ Fr [c] W W' :=
  (u32_any h).mono (by rintro _ w ⟨rfl, hC, hF⟩; exact ⟨_, _, _, rfl, Rd.lift, liftU_lt h.2.2.2.1 k e, hC, hF⟩)
theorem p_byte (h : Cs c a len cap xs k e W) : Calls Tryz.prog 47 #[.pointer (some ⟨c, 0, none⟩)] W fun r W' => ∃ y k' e', r = .returned (.int .u8 y) ∧ Rd rB xs k e y k' e' ∧ (0 ≤ y ∧ y < 256) ∧ Cs c a len cap xs k' e' W' ∧ Fr [c] W W' :=
  (byte_any h).mono (by rintro _ w ⟨rfl, hC, hF⟩; exact ⟨_, _, _, rfl, Rd.lift, lift_rB_lt h.2.2.2.1 k e, hC, hF⟩)
theorem p_value (h : Cs c a len cap xs k e W) : Calls Tryz.prog 39 #[.pointer (some ⟨c, 0, none⟩)] W fun r W' => ∃ y k' e', r = .returned (.int .u8 y) ∧ Rd rValue xs k e y k' e' ∧ Cs c a len cap xs k' e' W' ∧ Fr [c] W W' :=
  (ap_value h).mono (by rintro _ w ⟨rfl, hC, hF⟩; exact ⟨_, _, _, rfl, Rd.lift, hC, hF⟩)
theorem p_name (h : Cs c a len cap xs k e W) : Calls Tryz.prog 105 #[.pointer (some ⟨c, 0, none⟩)] W fun r W' => ∃ y k' e', r = .returned (.string (strOfNums y)) ∧ Rd rName xs k e y k' e' ∧ Cs c a len cap xs k' e' W' ∧ Fr [c] W W' :=
  (name_any h).mono (by rintro _ w ⟨rfl, hC, hF⟩; exact ⟨_, _, _, rfl, Rd.lift, hC, hF⟩)
theorem p_limits (h : Cs c a len cap xs k e W) : Calls Tryz.prog 112 #[.pointer (some ⟨c, 0, none⟩)] W fun r W' => ∃ (y : Lm) (k' : Nat) (e' : Int), r = .returned (.agg #[.int .u32 y.1, .int .u32 y.2.1, .bool y.2.2]) ∧ Rd rLimits xs k e y k' e' ∧ Cs c a len cap xs k' e' W' ∧ Fr [c] W W' :=
  (limits_any h).mono (by rintro _ w ⟨rfl, hC, hF⟩; exact ⟨_, _, _, rfl, Rd.lift, hC, hF⟩)
theorem p_table (h : Cs c a len cap xs k e W) : Calls Tryz.prog 111 #[.pointer (some ⟨c, 0, none⟩)] W fun r W' => ∃ (y : Lm) (k' : Nat) (e' : Int), r = .returned (.agg #[.int .u32 y.1, .int .u32 y.2.1, .bool y.2.2]) ∧ Rd rTable xs k e y k' e' ∧ Cs c a len cap xs k' e' W' ∧ Fr [c] W W' :=
  (table_any h).mono (by rintro _ w ⟨rfl, hC, hF⟩; exact ⟨_, _, _, rfl, Rd.lift, hC, hF⟩)
theorem p_global (h : Cs c a len cap xs k e W) : Calls Tryz.prog 113 #[.pointer (some ⟨c, 0, none⟩)] W fun r W' => ∃ (y : Int) (z : Bool) (k' : Nat) (e' : Int), r = .returned (.agg #[.int .u8 y, .bool z]) ∧ Rd rGlobal xs k e (y, z) k' e' ∧ Cs c a len cap xs k' e' W' ∧ Fr [c] W W' :=
  (global_any h).mono (by rintro _ w ⟨rfl, hC, hF⟩; exact ⟨_, _, _, _, rfl, Rd.lift, hC, hF⟩)
theorem sl_slcP {w : World} {P : Nat → Prop} {a : Option Addr} {len cap : Nat} {xs : List Int} (h : Sl w a len cap xs) (hp : ∀ p, a = some p → 0 < len → P p.block) : Slc w P xs.length (bys xs) (.slice a len cap) := by
  obtain ⟨h1, h2, h3, h4⟩ := h
  subst h1
  refine ⟨a, cap, rfl, h2, by simp [bys], ?_⟩
  rcases h4 with ⟨rfl, h5, rfl⟩ | ⟨b, off, rfl, h5⟩
  · exact .inl ⟨h5, fun _ => rfl⟩
  · refine .inr ⟨b, off, rfl, fun h0 => hp _ rfl h0, fun j u hj => ?_⟩
    have hjl : j < xs.length := by simpa [bys] using (List.getElem?_eq_some_iff.1 hj).1
    rw [h5 j hjl]
    unfold bys at hj
    rw [List.getElem?_map, List.getElem?_eq_getElem hjl] at hj
    injection hj with hj
    rw [← hj]
    simp [List.getD, hjl]
theorem nw_slc {n : Nat} {x1 : Option Addr} {x2 x3 : Nat} {ys : List Int} {w : World} (h : Nw n x1 x2 x3 ys w) : Slc w (fun b => n ≤ b) ys.length (bys ys) (.slice x1 x2 x3) := sl_slcP h.1 h.2
theorem p_func (h : Cs c a len cap xs k e W) : Calls Tryz.prog 107 #[.pointer (some ⟨c, 0, none⟩)] W fun r W' => ∃ (y : Ty) (v1 v2 : Value) (k' : Nat) (e' : Int), r = .returned (.agg #[v1, v2]) ∧ Rd rFunc xs k e y k' e' ∧ eTy.rep W' (fun b => W.heap.size ≤ b) y [v1, v2] ∧ Cs c a len cap xs k' e' W' ∧ Fr [c] W W' :=
  (func_any h).mono (by rintro _ w ⟨x1, x2, x3, y1, y2, y3, rfl, h1, h2, hC, hF⟩; exact ⟨_, _, _, _, _, rfl, Rd.lift, ⟨_, _, rfl, nw_slc h1, nw_slc h2⟩, hC, hF⟩)
theorem p_take {n : Nat} (h : Cs c a len cap xs k e W) (hb : n < 4294967296) : Calls Tryz.prog 76 #[.pointer (some ⟨c, 0, none⟩), .int .u32 (n : Int)] W fun r W' => ∃ x1 x2 x3 y k' e', r = .returned (.slice x1 x2 x3) ∧ Rd (rP n) xs k e y k' e' ∧ Sl W' x1 x2 x3 y ∧ Slc W' (fun b => W.heap.size ≤ b) y.length (bys y) (.slice x1 x2 x3) ∧ Cs c a len cap xs k' e' W' ∧ Fr [c] W W' :=
  (take_any h hb).mono (by rintro _ w ⟨x1, x2, x3, rfl, h1, hC, hF⟩; exact ⟨_, _, _, _, _, _, rfl, Rd.lift, h1.1, nw_slc h1, hC, hF⟩)
theorem p_count (h : Cs c a len cap xs k e W) : Calls Tryz.prog 65 #[.pointer (some ⟨c, 0, none⟩)] W fun r W' => ∃ (n : Nat) (k' : Nat) (e' : Int), r = .returned (.int .i64 (n : Int)) ∧ Rd rCount xs k e (n : Int) k' e' ∧ n ≤ 4096 ∧ Cs c a len cap xs k' e' W' ∧ Fr [c] W W' :=
  (count_any' h).mono (by
    rintro _ w ⟨rfl, hC, hF⟩
    have hle := count_le h.2.2.2.1 k e
    exact ⟨(lift rCount 0 xs k e).1.toNat, _, _, by rw [Int.toNat_of_nonneg hle.1], by rw [Int.toNat_of_nonneg hle.1]; exact Rd.lift, by omega, hC, hF⟩)
theorem Vr.of2 {t : TypeId} {v1 v2 : Value} (w : World) : Vr w.heap.size 2 [v1, v2] (w.alloc (.cells #[v1, v2] t)) := vr_new [v1, v2] t w
set_option maxHeartbeats 2000000 in
set_option maxRecDepth 100000 in
/-- A reader's expression. -/
theorem p_expr (h : Cs c a len cap xs k e W) (hm : Mk W) (hc : 4 ≤ c) : Calls Tryz.prog 118 #[.agg #[.pointer (some ⟨c, 0, none⟩), .bool sat]] W fun r W' => ∃ p q s T k' e', r = .returned (.slice p q s) ∧ Rd (rExp sat) xs k e T k' e' ∧ (e' = 0 → Fov W' (fun b => W.heap.size ≤ b) T (.slice p q s)) ∧ Cs c a len cap xs k' e' W' ∧ Mk W' ∧ Fr [c] W W' := by
  have hb := below1 W (.cells #[.pointer (some ⟨c, 0, none⟩), .bool sat] 68)
  have HX := hide (expr_any (sat := sat) (h.bel hb) (hm.below hb) hc)
  have HB := hide hb
  clear h hm hb
  go_enter Tryz.func118, Tryz.ntmps118
  go_wp2_with fail
  refine (unhide HX).mono ?_
  rintro _ w1 ⟨p, q, s, T, t, k1, e1, rfl, hD, hT, -, hC, hM, hF⟩
  have HC := hide hC
  have HD := hide hD
  have HT := hide hT
  have HM := hide hM
  have HF := hide hF
  clear hC hD hT hM hF
  go_wp2_with fail
  go_ret
  exact ⟨p, q, s, T, k1, e1, rfl, (unhide HD).bd (Rd.giv _ _ _ _), fun q => (unhide HT q).mono (fun b _ hb => by simp at hb; omega), unhide HC, unhide HM, (Fr.of (unhide HB) [c]).trans (unhide HF)⟩
set_option maxHeartbeats 2000000 in
set_option maxRecDepth 100000 in
/-- A kind. -/
theorem p_kind (h : Cs c a len cap xs k e W) : Calls Tryz.prog 110 #[.agg #[.pointer (some ⟨c, 0, none⟩), .bool sat]] W fun r W' => ∃ y k' e', r = .returned (.int .i64 y) ∧ Rd rKind xs k e y k' e' ∧ (0 ≤ y ∧ y < 256) ∧ (e' = 0 → y ≤ 3) ∧ Cs c a len cap xs k' e' W' ∧ Fr [c] W W' := by
  have hb := below1 W (.cells #[.pointer (some ⟨c, 0, none⟩), .bool sat] 68)
  have HX := hide (p_byte (h.bel hb))
  have HB := hide hb
  have HV := hide (Vr.of2 (t := 68) (v1 := .pointer (some ⟨c, 0, none⟩)) (v2 := .bool sat) W)
  have hcl := h.1.lt
  clear h hb
  go_enter Tryz.func110, Tryz.ntmps110
  go_wp2_with fail
  refine (unhide HX).mono ?_
  rintro _ w1 ⟨x, k3, e3, rfl, hD, hlt, hC, hF⟩
  have iw : IntKind.i64.wrap x = x := i64_id (by omega) (by omega)
  have HC := hide hC
  have HD := hide hD
  have HV := hide ((unhide HV).fr hF (by simp; omega))
  have HF := hide ((Fr.of (unhide HB) [c]).trans hF)
  clear hC hD hF
  have z0 := (unhide HV).tab 0 _ rfl
  by_cases h3 : 3 < x
  · go_wp2_with fail
    refine (Fail_any (unhide HC)).mono ?_
    rintro _ w2 ⟨rfl, hC, hF⟩
    have HC := hide hC
    have HF := hide ((unhide HF).trans hF)
    clear hC hF
    go_wp2_with fail
    go_ret
    exact ⟨x, k3, _, rfl, (unhide HD).bd (by rw [decide_eq_false (show ¬ x ≤ 3 by omega)]; exact Rd.tst_f _ _ _ (by decide) _ _ _), hlt, fun q => (by split at q; exact absurd q (by decide); contradiction), unhide HC, unhide HF⟩
  · go_wp2_with fail
    go_ret
    exact ⟨x, k3, e3, rfl, (unhide HD).bd (by rw [decide_eq_true (show x ≤ 3 by omega)]; exact Rd.tst_t _ _ _ _ _ _), hlt, fun _ => (by omega), unhide HC, unhide HF⟩
end
/-- A row's cells, set one by one. -/
theorem fr_cells (g : Nat) : ∀ (cs : List Value) (o : Nat) (w : World), Fr [g] w (w.setCells g o cs)
  | [], _, _ => Fr.refl _ _
  | v :: r, o, _ => ((Fr.refl [g] _).place o v).trans (fr_cells g r (o + 1) _)
theorem run_storeA {P : Program} (w : World) (ty : TypeId) (g o : Nat) (cs : List Value) (hi : (P.info? ty).map (·.size) = some cs.length) (hc : ∀ j, j < cs.length → (∃ v, w.cell? ⟨g, o + j, none⟩ = some v) ∧ w.frozen? ⟨g, o + j, none⟩ = false) (h1 : ∀ v ∈ cs, v.oneCell' = true) :
    (Instr.storeAt ty (.pointer (some ⟨g, o, none⟩)) (.agg cs.toArray)).run P w = .ok () (w.setCells g o cs) := by
  have hst := run_storeCells_cells (P := P) g o cs 0 w (fun j hj => by obtain ⟨v, h⟩ := (hc j hj).1; rw [Nat.add_zero, h]; rfl) (fun j hj => by rw [Nat.add_zero]; exact (hc j hj).2) h1
  rw [Nat.add_zero] at hst
  cases hq : P.info? ty with
  | none => rw [hq] at hi; cases hi
  | some i =>
    have hs : i.size = cs.length := by rw [hq] at hi; simpa using hi
    simp [Instr.storeAt, Instr.sureAddr, storeVar, sizeOf, typeInfo, hq, hs, Value.cells, hst]
theorem wpList_storeA {P : Program} {ops : Array Oper} {rest : List Oper} {o : Oper} {a : Act} {w : World} {Q : Exit → Act → World → Prop} (hgd : o.guard = none) (ty : TypeId) (x y : Operand) (ho : o.op = .store ty x y) (hd : o.dst = none)
    {g off : Nat} {cs : List Value} (hx : a.eval x = .pointer (some ⟨g, off, none⟩)) (hy : a.eval y = .agg cs.toArray) (hi : (P.info? ty).map (·.size) = some cs.length) (hc : ∀ j, j < cs.length → (∃ v, w.cell? ⟨g, off + j, none⟩ = some v) ∧ w.frozen? ⟨g, off + j, none⟩ = false) (h1 : ∀ v ∈ cs, v.oneCell' = true)
    (h : wpList P ops Q rest a (w.setCells g off cs)) : wpList P ops Q (o :: rest) a w :=
  wpList_plain hgd fun _ hK => by
    unfold Oper.wp execOp
    simp only [ho, hx, hy, Sem.run_bind, run_storeA w ty g off cs hi hc h1]
    exact hK _ _ (by simpa [Act.put, hd] using h)
/-- A row of n things that was made at once, of which the first ones are these. -/
structure Prw {α : Type} (E : El α) (g n B : Nat) (L : List α) (e : Int) (w : World) : Prop where
  room : Room g (n * E.k) w
  lo : B ≤ g
  cells : e = 0 → ∃ cs, Els E w (fun b => B ≤ b ∧ b ≠ g) L cs ∧ ∀ j u, cs[j]? = some u → w.cell? ⟨g, j, none⟩ = some u
section
variable {α : Type} {E : El α}
theorem Prw.made (w : World) (n B : Nat) (z : Array Value) (t : TypeId) (e : Int) (hB : B ≤ w.heap.size) : Prw E w.heap.size n B [] e (w.alloc (.cells (madeCells z (n * E.k)) t)) := by
  refine ⟨fun o ho => ⟨?_, by simp [go_sem]⟩, hB, fun _ => ⟨[], rfl, fun j u h => by cases h⟩⟩
  rw [World.cell?_alloc_new]
  exact ⟨_, Array.getElem?_eq_getElem (by rw [size_madeCells]; exact ho)⟩
theorem Prw.fr {g n B : Nat} {L : List α} {e e' : Int} {w w' : World} {l : List Nat} (h : Prw E g n B L e w) (hf : Fr l w w') (hg : g ∉ l) (hl : ∀ i ∈ l, i < B) (he : e' = 0 → e = 0) : Prw E g n B L e' w' := by
  refine ⟨h.room.fr hf hg, h.lo, fun q => ?_⟩
  obtain ⟨cs, h1, h2⟩ := h.cells (he q)
  exact ⟨cs, h1.fr hf (fun i hi hp => by have := hl i hi; omega), fun j u hj => hf.keep (h2 j u hj) hg⟩
theorem room_cellsL {g m : Nat} : ∀ (cs : List Value) (o : Nat) {w : World}, Room g m w → Room g m (w.setCells g o cs)
  | [], _, _, h => h
  | v :: r, o, _, h => room_cellsL r (o + 1) (h.set o v)
theorem Prw.put {g n B : Nat} {L : List α} {e e' : Int} {w : World} (h : Prw E g n B L e w) (hlt : L.length < n) {y : α} {cs : List Value} (hcl : cs.length = E.k) (he : e' = 0 → e = 0) (hx : e' = 0 → E.rep w (fun b => B ≤ b ∧ b ≠ g) y cs) :
    Prw E g n B (L ++ [y]) e' (w.setCells g (L.length * E.k) cs) := by
  have hf := fr_cells g cs (L.length * E.k) w
  refine ⟨room_cellsL cs _ h.room, h.lo, fun q => ?_⟩
  obtain ⟨ds, h1, h2⟩ := h.cells (he q)
  have hdl := h1.len
  have up : ∀ i ∈ [g], ¬ (fun b => B ≤ b ∧ b ≠ g) i := fun i hi hp => by simp at hi; exact hp.2 hi
  refine ⟨ds ++ cs, Els.app ((els_one (hx q)).fr hf up) (h1.fr hf up), fun j u hj => ?_⟩
  by_cases hj' : j < ds.length
  · rw [List.getElem?_append_left hj'] at hj
    rw [World.cell?_setCells_out g cs _ w _ (fun _ _ => .inl (by rw [← hdl]; exact hj'))]
    exact h2 j u hj
  · rw [List.getElem?_append_right (by omega)] at hj
    have hlt2 : j - ds.length < cs.length := (List.getElem?_eq_some_iff.1 hj).1
    have hin := World.cell?_setCells_in g cs (L.length * E.k) w (fun i hi => by
      have : L.length * E.k + i < n * E.k := by
        have := Nat.mul_le_mul_right E.k (show L.length + 1 ≤ n by omega)
        rw [Nat.add_mul, Nat.one_mul] at this
        omega
      obtain ⟨v, hv⟩ := (h.room _ this).1
      rw [hv]; rfl) (j - ds.length) hlt2
    rw [← hdl, Nat.add_sub_cancel' (by omega)] at hin
    rw [← hdl, hin, ← hj, List.getElem?_eq_getElem hlt2]
theorem Prw.spare {g n B : Nat} {L : List α} {e : Int} {w : World} (h : Prw E g n B L e w) (hlt : L.length < n) {j : Nat} (hj : j < E.k) : (∃ v, w.cell? ⟨g, L.length * E.k + j, none⟩ = some v) ∧ w.frozen? ⟨g, L.length * E.k + j, none⟩ = false := by
  refine h.room _ ?_
  have := Nat.mul_le_mul_right E.k (show L.length + 1 ≤ n by omega)
  rw [Nat.add_mul, Nat.one_mul] at this
  omega
theorem Prw.sls {g n B : Nat} {L : List α} {w : World} (h : Prw E g n B L 0 w) : Sls E w (fun b => B ≤ b) L (.slice (some ⟨g, 0, none⟩) L.length L.length) := by
  obtain ⟨cs, h1, h2⟩ := h.cells rfl
  refine ⟨cs, h1.mono (fun b _ hb => hb.1), some ⟨g, 0, none⟩, L.length, rfl, Nat.le_refl _, ?_, ?_⟩
  · have := h1.len
    have hk := E.kpos
    constructor
    · intro h0
      rw [h0, Nat.zero_mul] at this
      exact List.length_eq_zero_iff.1 this
    · intro h0
      rw [h0, List.length_nil] at this
      rcases Nat.mul_eq_zero.1 this.symm with q | q
      · exact q
      · omega
  · exact .inr ⟨g, 0, rfl, fun _ => h.lo, fun j u hj => by rw [Nat.zero_add]; exact h2 j u hj⟩
theorem Rd.more2 {A B : Type} {f : Rr A} {xs : List Int} {k k2 k3 n : Nat} {e e2 e3 : Int} {L : List A} {y : A} (g : List A → B) {G : Rr B} (HK : ∀ s k' e', Rd (repR f (n + 1)) xs k2 e2 s k' e' → Rd G xs k e (g (L ++ s)) k' e') (h : Rd f xs k2 e2 y k3 e3) :
    ∀ s k' e', Rd (repR f n) xs k3 e3 s k' e' → Rd G xs k e (g (L ++ [y] ++ s)) k' e' := fun s k' e' hs => by
  rw [List.append_assoc]
  exact HK _ _ _ (h.bd (hs.bd (Rd.giv _ _ _ _)))
end
end Go.Proofs.YtjoonmpjcophnaaGreatDoor
namespace Go.Proofs.YtjoonmpjcophnaaGreatDoor
open Go.RowKit

/-- The cells of a thing that was read: as many as they must be; the thing's, if nothing failed. -/
structure El.rep' {α : Type} (E : El α) (w : World) (P : Nat → Prop) (e : Int) (y : α) (cs : List Value) : Prop where
  len : cs.length = E.k
  one : ∀ u ∈ cs, u.oneCell' = true
  val : e = 0 → E.rep w P y cs
theorem El.rep'.rep {α : Type} {E : El α} {w : World} {P P' : Nat → Prop} {e : Int} {y : α} {cs : List Value} (h : E.rep' w P e y cs) (he : e = 0) (k : ∀ b, b < w.heap.size → P b → P' b) : E.rep w P' y cs := E.mono k (h.val he)
theorem El.rep'.fr {α : Type} {E : El α} {w w' : World} {P : Nat → Prop} {e e' : Int} {y : α} {cs : List Value} {l : List Nat} (h : E.rep' w P e y cs) (hf : Fr l w w') (hl : ∀ i ∈ l, ¬ P i) (he : e' = 0 → e = 0) : E.rep' w' P e' y cs :=
  ⟨h.len, h.one, fun q => E.all (h.val (he q)) fun _ _ hp hc => hf.keep hc (fun hm => hl _ hm hp)⟩
theorem El.rep'.mono {α : Type} {E : El α} {w : World} {P P' : Nat → Prop} {e : Int} {y : α} {cs : List Value} (h : E.rep' w P e y cs) (k : ∀ b, b < w.heap.size → P b → P' b) : E.rep' w P' e y cs := ⟨h.len, h.one, fun q => E.mono k (h.val q)⟩
theorem El.rep'.of {α : Type} {E : El α} {w : World} {P : Nat → Prop} {y : α} {cs : List Value} (h : E.rep w P y cs) (e : Int) : E.rep' w P e y cs := ⟨E.len h, E.one h, fun _ => h⟩
theorem make_runK {P : Program} (t e : TypeId) (K : Nat) (ht : P.underlying t = some (.slice e)) {i : TypeInfo} {z : Value} (hi : P.info? e = some i) (hz : i.zero = some z) (hs : i.size = K) (hb : (decide (i.bytes ≤ 1000)) = true) (m : Nat) (hm : m ≤ 4096) (w : World) :
    (Instr.makeSlice t (.int .i64 (m : Int)) (.int .i64 (m : Int))).run P w = .ok (.slice (some ⟨w.heap.size, 0, none⟩) m m) (w.alloc (.cells (madeCells z.cells (m * K)) e)) := by
  have hb := of_decide_eq_true hb
  have h := run_make (P := P) w t e i z ht hi hz .i64 .i64 (m : Int) (m : Int) (by omega) (Int.le_refl _) (by have := Nat.mul_le_mul hb hm; have h2 := Int.ofNat_le.2 this; rw [Int.natCast_mul] at h2; omega) (by omega)
  rw [hs] at h
  exact h
theorem Prw.lower {α : Type} {E : El α} {g n B B' : Nat} {L : List α} {e : Int} {w : World} (h : Prw E g n B L e w) (hB : B' ≤ B) : Prw E g n B' L e w := by
  refine ⟨h.room, Nat.le_trans hB h.lo, fun q => ?_⟩
  obtain ⟨cs, h1, h2⟩ := h.cells q
  exact ⟨cs, h1.mono (fun b _ hb => ⟨Nat.le_trans hB hb.1, hb.2⟩), h2⟩
end Go.Proofs.YtjoonmpjcophnaaGreatDoor
namespace Go.Proofs.YtjoonmpjcophnaaGreatDoor
open Go.RowKit

section
variable {c : Nat} {a : Option Addr} {len cap k : Nat} {xs : List Int} {e : Int} {W : World} {sat : Bool}
theorem rd_ce2 {k k1 k2 : Nat} {e e1 e2 : Int} {y : Int} {z : Bool} {T : Fo} (h1 : Rd rGlobal xs k e (y, z) k1 e1) (h2 : Rd (rExp sat) xs k1 e1 T k2 e2) : Rd (rCe sat) xs k e (y, z, T) k2 e2 := h1.bd (h2.bd (Rd.giv (y, z, T) _ _ _))
theorem rd_ex2 {k k1 k2 k3 : Nat} {e e1 e2 e3 : Int} {y1 : List Int} {y2 y3 : Int} (h1 : Rd rName xs k e y1 k1 e1) (h2 : Rd rKind xs k1 e1 y2 k2 e2) (h3 : Rd (rU 32) xs k2 e2 y3 k3 e3) : Rd rEx xs k e (y1, y2, y3) k3 e3 := h1.bd (h2.bd (h3.bd (Rd.giv (y1, y2, y3) _ _ _)))
theorem rd_em2 {k k1 k2 k3 : Nat} {e e1 e2 e3 : Int} {y : Int} {T : Fo} {L : List Int} (h1 : Rd (rU 32) xs k e y k1 e1) (h2 : Rd (rExp sat) xs k1 e1 T k2 e2) (h3 : Rd (rList (rU 32)) xs k2 e2 L k3 e3) : Rd (rEm sat) xs k e (y, T, L) k3 e3 := h1.bd (h2.bd (h3.bd (Rd.giv (y, T, L) _ _ _)))
theorem rd_da2 {k k1 k2 k3 k4 : Nat} {e e1 e2 e3 e4 : Int} {y : Int} {T : Fo} {n : Nat} {L : List Int} (h1 : Rd (rU 32) xs k e y k1 e1) (h2 : Rd (rExp sat) xs k1 e1 T k2 e2) (h3 : Rd (rU 32) xs k2 e2 (n : Int) k3 e3) (h4 : Rd (rP n) xs k3 e3 L k4 e4) : Rd (rDa sat) xs k e (y, T, L) k4 e4 :=
  h1.bd (h2.bd ((h3.bd (by rw [Int.toNat_natCast]; exact h4) : Rd rBytes xs k2 e2 L k4 e4).bd (Rd.giv (y, T, L) _ _ _)))
end

theorem els_uP {w : World} {P : Nat → Prop} : ∀ {L : List Int} {cs : List Value}, Els eU w P L cs → cs = uCells L
  | [], _, h => h
  | x :: L, cs, ⟨c, r, hc, hx, hr⟩ => by
    rw [hc, els_uP hr, show c = [.int .u32 x] from hx]
    rfl
theorem Sls.uP {w : World} {P : Nat → Prop} {L : List Int} {v : Value} (h : Sls eU w P L v) : Slc w P L.length (uCells L) v := by
  obtain ⟨cs, h1, h2⟩ := h
  rw [els_uP h1] at h2
  exact h2
theorem vr_fill2 {b : Nat} (w : World) (h : Room b 2 w) (hl : b < w.heap.size) {v0 v1 : Value} : Vr b 2 [v0, v1] ((w.setCell ⟨b, 0, none⟩ v0).setCell ⟨b, 1, none⟩ v1) := by
  obtain ⟨j0, j1⟩ := h.at2 v0 v1
  refine ⟨fun j v hj => ?_, (h.set 0 _).set 1 _, by simpa [World.setCell] using hl⟩
  match j, hj with
  | 0, hj => injection hj with hj; rw [← hj]; exact j0
  | 1, hj => injection hj with hj; rw [← hj]; exact j1
theorem vr_fill3 {b : Nat} (w : World) (h : Room b 3 w) (hl : b < w.heap.size) {v0 v1 v2 : Value} : Vr b 3 [v0, v1, v2] (((w.setCell ⟨b, 0, none⟩ v0).setCell ⟨b, 1, none⟩ v1).setCell ⟨b, 2, none⟩ v2) := by
  obtain ⟨j0, j1, j2⟩ := h.at3 v0 v1 v2
  refine ⟨fun j v hj => ?_, ((h.set 0 _).set 1 _).set 2 _, by simpa [World.setCell] using hl⟩
  match j, hj with
  | 0, hj => injection hj with hj; rw [← hj]; exact j0
  | 1, hj => injection hj with hj; rw [← hj]; exact j1
  | 2, hj => injection hj with hj; rw [← hj]; exact j2
end Go.Proofs.YtjoonmpjcophnaaGreatDoor
namespace Go.Proofs.YtjoonmpjcophnaaGreatDoor
open Go.RowKit

section
variable {P : Program} {ops : Array Oper} {Q : Exit → Act → World → Prop} {md : Region.Mode} {S : World → Prop} {l : List Nat}

/-- Operation j neither looks at temporary d nor writes it. -/
def noTouch (ops : Array Oper) (j d : Nat) : Bool :=
  match ops[j]? with
  | some o => !(o.looksAt ops).contains d && o.dst != some d
  | none => false

/-- Whether a pointer lies already in a temporary that operation j does not touch makes no difference to it. -/
theorem wpOp_over {j d : Nat} {v : Value} (hn : noTouch ops j d = true) (hs : Region.noSelect ops = true)
    (hQ : ∀ c a w, Q (.panic c) a w → Q (.panic c) (a.put (some d) v) w) {K : Act → World → Prop} {a : Act} {w : World}
    (h : wpOp P ops Q j (fun a' w' => K (a'.put (some d) v) w') a w) : wpOp P ops Q j K (a.put (some d) v) w := by
  unfold noTouch at hn
  cases hj : ops[j]? with
  | none => simp [hj] at hn
  | some oj =>
    simp [hj] at hn
    obtain ⟨h1', h2'⟩ := hn
    have h1 : ∀ e, some d = some e → e ∉ oj.looksAt ops := fun e he => by injection he with he; subst he; exact h1'
    have h2 : ∀ e, oj.dst = some e → some d ≠ some e := fun e he hd => h2' (by rw [he, hd])
    have hsj : ∀ cs b, oj.op ≠ .select cs b := fun cs b => Region.noSelect_spec hs j oj cs b hj
    unfold wpOp at *
    simp only [hj] at *
    rw [wanted_put oj a (some d) v h1]
    split
    · rename_i hw
      simp only [hw, if_true] at h
      rcases h with h | ⟨hasks, hlets⟩
      case inr => exact .inr ⟨by unfold Oper.asks at *; rw [execOp_put oj hsj a (some d) v h1]; exact hasks, hlets⟩
      refine .inl ?_
      unfold Oper.wp at *
      rw [execOp_put oj hsj a (some d) v h1]
      generalize (execOp a.eval oj).run P w = r at *
      cases r with
      | ok n w' =>
        cases n <;> simp only [Oper.upon] at h ⊢
        case value u => rw [← Act.put_comm a u v h2]; exact h
        case skip => rw [← Act.put_comm a undef v h2]; exact h
        case defer dd =>
          rw [Act.put_defers, ← Act.put_comm _ undef v h2]
          exact h
        case enter f args =>
          refine Calls.mono h fun e w'' he => ?_
          cases e with
          | returned u => simp only [] at he ⊢; rw [← Act.put_comm a u v h2]; exact he
          | panicked c => exact hQ _ _ _ he
          | outgrown => exact he
        case row row args => exact Rows.mono h fun u w'' he => by rw [← Act.put_comm a u v h2]; exact he
      | halt x w' =>
        cases x <;> simp only [Oper.upon] at h ⊢
        case panic u => exact hQ _ _ _ h
        all_goals exact h
    · rename_i hw
      simp only [hw] at h
      rw [← Act.put_comm a undef v h2]; exact h

def ptr (b : Nat) : Value := .pointer (some ⟨b, 0, none⟩)

/-- A new variable that still holds its zero values. -/
structure Fresh (N : Nat) (vs : Array Value) (b : Nat) (w : World) : Prop where
  cell : ∀ o, w.cell? ⟨b, o, none⟩ = vs[o]?
  thawed : ∀ o, w.frozen? ⟨b, o, none⟩ = false
  size : b < w.heap.size
  base : N ≤ b
theorem Fresh.below {N b : Nat} {vs : Array Value} {w w' : World} (h : Fresh N vs b w) (hb : Below w.heap.size w w') : Fresh N vs b w' :=
  ⟨fun o => by rw [hb.cell (p := ⟨b, o, none⟩) h.size]; exact h.cell o, fun o => by rw [hb.frozen (p := ⟨b, o, none⟩) h.size]; exact h.thawed o, Nat.lt_of_lt_of_le h.size hb.size, h.base⟩
theorem Fresh.fr {N b : Nat} {vs : Array Value} {w w' : World} {l : List Nat} (h : Fresh N vs b w) (hf : Fr l w w') (hl : ∀ i ∈ l, i < N) : Fresh N vs b w' := by
  have hn : b ∉ l := fun hm => by have := hl _ hm; have := h.base; omega
  exact ⟨fun o => by rw [hf.cell (p := ⟨b, o, none⟩) h.size hn]; exact h.cell o, fun o => by rw [hf.frozen (p := ⟨b, o, none⟩) h.size hn]; exact h.thawed o, Nat.lt_of_lt_of_le h.size hf.size, h.base⟩
theorem Fresh.new {N : Nat} {vs : Array Value} {t : TypeId} {w : World} (h : N ≤ w.heap.size) : Fresh N vs w.heap.size (w.alloc (.cells vs t)) :=
  ⟨fun o => by rw [World.cell?_alloc_new], fun o => by simp [go_sem], by simp, h⟩

/-- Operation i makes a new variable, whatever the state and the world are. -/
def Makes (P : Program) (ops : Array Oper) (Q : Exit → Act → World → Prop) (i d : Nat) (vs : Array Value) (t : TypeId) : Prop :=
  ∀ (a : Act) (w : World) (K : Act → World → Prop), K (a.put (some d) (ptr w.heap.size)) (w.alloc (.cells vs t)) → wpOp P ops Q i K a w

theorem not_ready {L : Array Bool} {i : Nat} : i ∉ Region.ready md ops (L.setIfInBounds i true) := by
  intro h
  have h0 := (mem_ready.1 h).1
  rw [Array.getD_eq_getD_getElem?, Array.getElem?_setIfInBounds] at h0
  simp at h0
  split at h0 <;> simp_all

theorem alloc_stable {T : World → Prop} (h : Stable T) {w : World} (hT : T w) (o : Obj) : T (w.alloc o) := h _ _ hT (below1 _ _)

theorem yields_over {i d : Nat} {oi : Oper} {v p : Value} {a : Act} (hi : ops[i]? = some oi) (hs : Region.noSelect ops = true) (hn : noTouch ops i d = true) (h : YieldsIf P ops S oi v a) : YieldsIf P ops S oi v (a.put (some d) p) := by
  unfold noTouch at hn
  simp [hi] at hn
  have h1 : ∀ e, some d = some e → e ∉ oi.looksAt ops := fun e he => by injection he with he; subst he; exact hn.1
  exact h.of_same (execOp_put oi (fun cs b => Region.noSelect_spec hs i oi cs b hi) a (some d) p h1) (wanted_put oi a (some d) p h1)

theorem dst_ne {i d : Nat} {oi : Oper} (hi : ops[i]? = some oi) (hn : noTouch ops i d = true) : ∀ e, oi.dst = some e → some d ≠ some e := by
  unfold noTouch at hn
  simp [hi] at hn
  exact fun e he hd => hn.2 (by rw [he, hd])

/-- A walk that leaves the new variable out. -/
def WO (P : Program) (ops : Array Oper) (Q : Exit → Act → World → Prop) (md : Region.Mode) (S : World → Prop) (l : List Nat) (N i1 d1 : Nat) (v1 : Array Value) (f : Nat) : Nat → Array Bool → Act → (World → Prop) → Prop
  | 0, L, a, T => (!(Region.ready md ops L).isEmpty && (Region.ready md ops L).all (fun j => j == i1)) = true ∧
      ∀ w b1, S w → T w → Fresh N v1 b1 w → wpAnyH P md ops Q S f (L.setIfInBounds i1 true) (a.put (some d1) (ptr b1)) w
  | n + 1, L, a, T =>
    (∃ i oi v, ops[i]? = some oi ∧ [L, L.setIfInBounds i1 true].all (fun L' => Region.free md ops L' i && (Region.ready md ops L').contains i) = true ∧ noTouch ops i d1 = true ∧ i ≠ i1 ∧
      (∀ c a w, Q (.panic c) (a.put oi.dst v) w → Q (.panic c) a w) ∧ YieldsIf P ops S oi v a ∧ WO P ops Q md S l N i1 d1 v1 f n (L.setIfInBounds i true) (a.put oi.dst v) T) ∨
    (∃ c, [L, L.setIfInBounds i1 true].all (fun L' => !(Region.ready md ops L').isEmpty && (Region.ready md ops L').all (fun j => j == c || j == i1)) = true ∧ noTouch ops c d1 = true ∧ c ≠ i1 ∧
      ∀ w, S w → T w → wpOp P ops Q c (fun a' w' => Fr l w w' ∧ ∃ T', Stable T' ∧ T' w' ∧ WO P ops Q md S l N i1 d1 v1 f n (L.setIfInBounds c true) a' T') a w)

variable {N i1 d1 : Nat} {v1 : Array Value} {t1 : TypeId} {f : Nat}

theorem wo_any (hs : Region.noSelect ops = true) (hQ : ∀ c a d v w, Q (.panic c) a w → Q (.panic c) (a.put (some d) v) w) (hS : Stable S) (hSl : ∀ w w', S w → Fr l w w' → S w') (hlN : ∀ i ∈ l, i < N) (m1 : Makes P ops Q i1 d1 v1 t1) :
    ∀ (n : Nat) (L : Array Bool) (a : Act) (T : World → Prop), Stable T → WO P ops Q md S l N i1 d1 v1 f n L a T →
      (∀ w, S w → T w → N ≤ w.heap.size → wpAnyH P md ops Q S (f + n + 1) L a w) ∧
      (∀ w b1, S w → T w → N ≤ w.heap.size → Fresh N v1 b1 w → wpAnyH P md ops Q S (f + n) (L.setIfInBounds i1 true) (a.put (some d1) (ptr b1)) w) := by
  intro n
  induction n with
  | zero =>
    intro L a T hT h
    obtain ⟨hr, h1⟩ := h
    simp only [Bool.and_eq_true, List.all_eq_true, beq_iff_eq, Bool.not_eq_true', List.isEmpty_eq_false_iff] at hr
    obtain ⟨e0, r0⟩ := hr
    have g1 : ∀ w b1, S w → T w → N ≤ w.heap.size → Fresh N v1 b1 w → wpAnyH P md ops Q S (f + 0) (L.setIfInBounds i1 true) (a.put (some d1) (ptr b1)) w :=
      fun w b1 hSw hTw _ k1 => h1 w b1 hSw hTw k1
    refine ⟨?_, g1⟩
    intro w hSw hTw hN
    refine ⟨fun h => absurd h e0, fun j hj => ?_⟩
    have hji := r0 j hj
    subst hji
    exact m1 _ _ _ ⟨alloc_stable hS hSw _, g1 _ _ (alloc_stable hS hSw _) (alloc_stable hT hTw _) (by simp; omega) (Fresh.new hN)⟩
  | succ n ih =>
    intro L a T hT h
    rcases h with ⟨i, oi, v, ho, hr, nt1, hi1, hP, hy, hW⟩ | ⟨c, hr, nt1, hc1, hc⟩
    · obtain ⟨h0, h1⟩ := ih _ _ T hT hW
      simp only [List.all_cons, List.all_nil, Bool.and_true, Bool.and_eq_true] at hr
      obtain ⟨⟨f0, r0⟩, ⟨f1, r1⟩⟩ := hr
      refine ⟨?_, ?_⟩
      · intro w hSw hTw hN
        exact wpAnyH_take ho hs f0 r0 hP hy hSw (h0 w hSw hTw hN)
      · intro w b1 hSw hTw hN k1
        refine wpAnyH_take ho hs f1 r1 hP (yields_over ho hs nt1 hy) hSw ?_
        rw [← Act.put_comm a _ _ (dst_ne ho nt1), ← Array.setIfInBounds_comm _ _ hi1]
        exact h1 w b1 hSw hTw hN k1
    · simp only [List.all_cons, List.all_nil, Bool.and_true, Bool.and_eq_true, List.all_eq_true, Bool.or_eq_true, beq_iff_eq, Bool.not_eq_true', List.isEmpty_eq_false_iff] at hr
      obtain ⟨⟨e0, r0⟩, ⟨e1, r1⟩⟩ := hr
      have sz : ∀ {w w' : World}, N ≤ w.heap.size → Fr l w w' → N ≤ w'.heap.size := fun h k => Nat.le_trans h k.size
      have g1 : ∀ w b1, S w → T w → N ≤ w.heap.size → Fresh N v1 b1 w → wpAnyH P md ops Q S (f + (n + 1)) (L.setIfInBounds i1 true) (a.put (some d1) (ptr b1)) w := by
        intro w b1 hSw hTw hN k1
        refine ⟨fun h => absurd h e1, fun j hj => ?_⟩
        rcases r1 j hj with rfl | rfl
        · refine wpOp_over nt1 hs (fun c a w h => hQ c a _ _ w h) (wpOp_mono (fun a' w' hh => ?_) (hc w hSw hTw))
          obtain ⟨hB, T', hT', hTw', hW⟩ := hh
          refine ⟨hSl _ _ hSw hB, ?_⟩
          rw [← Array.setIfInBounds_comm _ _ hc1]
          exact (ih _ _ T' hT' hW).2 w' b1 (hSl _ _ hSw hB) hTw' (sz hN hB) (k1.fr hB hlN)
        · exact absurd hj not_ready
      refine ⟨?_, g1⟩
      intro w hSw hTw hN
      refine ⟨fun h => absurd h e0, fun j hj => ?_⟩
      rcases r0 j hj with rfl | rfl
      · refine wpOp_mono (fun a' w' hh => ?_) (hc w hSw hTw)
        obtain ⟨hB, T', hT', hTw', hW⟩ := hh
        exact ⟨hSl _ _ hSw hB, (ih _ _ T' hT' hW).1 w' (hSl _ _ hSw hB) hTw' (sz hN hB)⟩
      · exact m1 _ _ _ ⟨alloc_stable hS hSw _, g1 _ _ (alloc_stable hS hSw _) (alloc_stable hT hTw _) (by simp; omega) (Fresh.new hN)⟩

theorem wo_start {m n : Nat} {L : Array Bool} {a : Act} {T : World → Prop} {w : World} (hm : m = f + n + 1) (hs : Region.noSelect ops = true) (hQ : ∀ c a d v w, Q (.panic c) a w → Q (.panic c) (a.put (some d) v) w) (hS : Stable S) (hSl : ∀ w w', S w → Fr l w w' → S w') (hlN : ∀ i ∈ l, i < N)
    (m1 : Makes P ops Q i1 d1 v1 t1) (hT : Stable T) (hSw : S w) (hTw : T w) (hN : N ≤ w.heap.size) (h : WO P ops Q md S l N i1 d1 v1 f n L a T) : wpAnyH P md ops Q S m L a w := by
  subst hm
  exact (wo_any hs hQ hS hSl hlN m1 n L a T hT h).1 w hSw hTw hN
theorem wo_take {i : Nat} {oi : Oper} {v : Value} {n : Nat} {L : Array Bool} {a : Act} {T : World → Prop} (ho : ops[i]? = some oi)
    (hr : [L, L.setIfInBounds i1 true].all (fun L' => Region.free md ops L' i && (Region.ready md ops L').contains i) = true) (ht : (noTouch ops i d1 && i != i1) = true)
    (hQ : ∀ c a w, Q (.panic c) (a.put oi.dst v) w → Q (.panic c) a w) (hy : YieldsIf P ops S oi v a) (h : WO P ops Q md S l N i1 d1 v1 f n (L.setIfInBounds i true) (a.put oi.dst v) T) :
    WO P ops Q md S l N i1 d1 v1 f (n + 1) L a T := by
  simp at ht
  exact Or.inl ⟨i, oi, v, ho, hr, ht.1, ht.2, hQ, hy, h⟩
theorem woA (i d : Nat) {v : Value} {op : Op} {ty : TypeId} {pos : String} {af : Array Edge} {g : Option (Nat × Bool)} {n : Nat} {L : Array Bool} {a a' : Act} {T : World → Prop}
    (h : WO P ops Q md S l N i1 d1 v1 f n (L.setIfInBounds i true) a' T)
    (ho : ops[i]? = some ⟨some d, op, ty, pos, af, g⟩ := by rfl)
    (hr : [L, L.setIfInBounds i1 true].all (fun L' => Region.free md ops L' i && (Region.ready md ops L').contains i) = true := by kernel_rfl) (ht : (noTouch ops i d1 && i != i1) = true := by kernel_rfl)
    (hQ : ∀ c a w, Q (.panic c) (a.put (some d) v) w → Q (.panic c) a w := by exact fun _ _ _ h => h)
    (hy : YieldsIf P ops S ⟨some d, op, ty, pos, af, g⟩ v a := by exact Or.inl ⟨by rfl, fun w hSw => by (try dsimp only at hSw); go_simp; with_reducible rfl⟩)
    (ha : a.put (some d) v = a' := by ((try simp only [Act.put, List.setIfInBounds_toArray, List.set_cons_zero, List.set_cons_succ]); rfl)) :
    WO P ops Q md S l N i1 d1 v1 f (n + 1) L a T := by
  subst ha
  exact wo_take ho hr ht hQ hy h
theorem wo_call {c : Nat} {o : Oper} {n : Nat} {L : Array Bool} {a : Act} {T : World → Prop} (ho : ops[c]? = some o)
    (hr : [L, L.setIfInBounds i1 true].all (fun L' => !(Region.ready md ops L').isEmpty && (Region.ready md ops L').all (fun j => j == c || j == i1)) = true) (ht : (noTouch ops c d1 && c != i1) = true)
    (h : ∀ w, S w → T w → ∀ K' : Act → World → Prop, Shut (∀ a' w' T', Fr l w w' → Stable T' → T' w' → WO P ops Q md S l N i1 d1 v1 f n (L.setIfInBounds c true) a' T' → K' a' w') → if Region.wanted o (yielded ops a.tmps) = true then Oper.wp P o a w K' Q else K' (a.put o.dst undef) w) :
    WO P ops Q md S l N i1 d1 v1 f (n + 1) L a T := by
  simp at ht
  refine Or.inr ⟨c, hr, ht.1, ht.2, fun w hSw hTw => ?_⟩
  exact wpOp_step ho (fun K' hK => h w hSw hTw K' (fun a' w' T' hB hT' hTw' hW => hK a' w' ⟨hB, T', hT', hTw', hW⟩))
theorem wo_fin {L : Array Bool} {a : Act} {T : World → Prop} (hr : (!(Region.ready md ops L).isEmpty && (Region.ready md ops L).all (fun j => j == i1)) = true)
    (h : ∀ w b1, S w → T w → Fresh N v1 b1 w → wpAnyH P md ops Q S f (L.setIfInBounds i1 true) (a.put (some d1) (ptr b1)) w) :
    WO P ops Q md S l N i1 d1 v1 f 0 L a T := ⟨hr, h⟩

theorem lstM (n m : Nat) {fuel : Nat} {listed : Array Bool} {a : Act} {w : World} (h : listed = lst n m) (k : wpAnyH P md ops Q S fuel (lst n m) a w) : wpAnyH P md ops Q S fuel listed a w := h ▸ k
end
end Go.Proofs.YtjoonmpjcophnaaGreatDoor
namespace Go.Proofs.YtjoonmpjcophnaaGreatDoor
open Go.RowKit

/-- So many locals of a type. -/
def eGq : El (Int × Int) where
  k := 2
  kpos := by decide
  rep _ _ x cs := cs = [.int .u32 x.1, .int .u8 x.2] ∧ 0 ≤ x.1 ∧ x.1 < 4294967296
  len := by rintro _ _ _ _ ⟨rfl, _⟩; rfl
  one := by
    rintro _ _ x _ ⟨rfl, _⟩ u hu
    simp only [List.mem_cons, List.not_mem_nil, or_false] at hu
    rcases hu with rfl | rfl <;> rfl
  all := by rintro _ _ _ _ _ h _; exact h
  mono := by rintro _ _ _ _ _ _ h; exact h
section
variable {c : Nat} {a : Option Addr} {len cap k : Nat} {xs : List Int} {e : Int} {W : World} {sat : Bool} {q : Nat}
set_option maxHeartbeats 4000000 in
set_option maxRecDepth 100000 in
theorem clos37_any (h : Cs c a len cap xs k e W) (hm : Mk W) (hc : 4 ≤ c) (hB : Tab W q [.pointer (some ⟨c, 0, none⟩)]) (hql : q < W.heap.size) (hqc : q ≠ c) :
    Calls Tryz.prog 37 #[.pointer (some ⟨q, 0, none⟩)] W fun r W' => ∃ y cs k' e', r = .returned (.agg cs.toArray) ∧ Rd rPair xs k e y k' e' ∧ eGq.rep' W' (fun b => W.heap.size ≤ b) 0 y cs ∧ Cs c a len cap xs k' e' W' ∧ Mk W' ∧ Tab W' q [.pointer (some ⟨c, 0, none⟩)] ∧ Fr [c] W W' := by
  have hcl := h.1.lt
  have HAl : ∀ p, a = some p → 0 < len → p.block < W.heap.size := h.2.1.lt
  have hb := below1 W (.cells #[.int .u32 0, .int .u8 0] 132)
  have HR : Hid (Room W.heap.size 2 (W.alloc (.cells #[.int .u32 0, .int .u8 0] 132)).drew) := hide ((room_cells (cs := [.int .u32 0, .int .u8 0]) W 2 (by decide)).drew)
  have H := hide ((h.bel hb).drew)
  have HM := hide ((hm.below hb).below ((Below.refl _ _).drew))
  have HF := hide ((Fr.of hb [c]).drew)
  have HB := hide ((hB.below hb).below ((Below.refl _ _).drew))
  have hs0 : W.heap.size < (W.alloc (.cells #[.int .u32 0, .int .u8 0] 132)).drew.heap.size := by simp [go_sem]
  clear h hm hB hb
  go_enter Tryz.func37, Tryz.ntmps37
  go_wp2_with fail
  refine wp_region_held_drew (S := fun w' => w'.cell? ⟨q, 0, none⟩ = some (.pointer (some ⟨c, 0, none⟩)) ∧ Room W.heap.size 2 w') (by kernel_rfl) ?_ (fun hHeld => ?_)
  · (try dsimp only)
    exact ⟨(unhide HB) 0 _ rfl, unhide HR⟩
  refine lst0 6 (by kernel_rfl) ?_
  refine tkA 0 2 1 ?_
  refine tkA 2 4 5 ?_
  refine rdA 1 7 (fun Kk hKk => ?_)
  go_simp
  refine (p_u32 (unhide H)).mono ?_
  rintro _ w1 ⟨y1, k1, e1, rfl, hD, hlt1, hC, hF⟩
  have HD1 := hide hD
  have HB := hide ((unhide HB).fr hF (by simp; omega))
  have HR := hide ((unhide HR).fr hF (by simp; omega))
  have H := hide hC
  have HM := hide ((unhide HM).fr hF (by simp; omega))
  have hs1 := hF.size
  have HF := hide ((unhide HF).trans hF)
  clear hC hD hF
  (try go_wp2_with fail)
  refine hKk.out _ _ ?_ (fun hHeld => ?_)
  · (try dsimp only)
    exact ⟨(unhide HB) 0 _ rfl, unhide HR⟩
  clear hKk Kk
  (try simp only [List.setIfInBounds_toArray, List.set_cons_zero, List.set_cons_succ])
  refine rdA 3 15 (fun Kk hKk => ?_)
  go_simp
  refine (p_value (unhide H)).mono ?_
  rintro _ w2 ⟨y2, k2, e2, rfl, hD, hC, hF⟩
  have HD2 := hide hD
  have HB := hide ((unhide HB).fr hF (by simp; omega))
  have HR := hide ((unhide HR).fr hF (by simp; omega))
  have H := hide hC
  have HM := hide ((unhide HM).fr hF (by simp; omega))
  have hs2 := hF.size
  have HF := hide ((unhide HF).trans hF)
  clear hC hD hF
  (try go_wp2_with fail)
  refine hKk.out _ _ ?_ (fun hHeld => ?_)
  · (try dsimp only)
    exact ⟨(unhide HB) 0 _ rfl, unhide HR⟩
  clear hKk Kk
  (try simp only [List.setIfInBounds_toArray, List.set_cons_zero, List.set_cons_succ])
  refine tkA 4 6 31 ?_
  refine rdA 5 63 (fun Kk hKk => ?_)
  obtain ⟨⟨u0, r0⟩, g0⟩ := unhide HR 0 (by decide)
  obtain ⟨⟨u1, r1⟩, g1⟩ := unhide HR 1 (by decide)
  have fZ : Fr [W.heap.size] w2 ((w2.setCell ⟨W.heap.size, 0, none⟩ (.int .u32 y1)).setCell ⟨W.heap.size, 1, none⟩ (.int .u8 y2)) := ((Fr.refl _ _).place 0 _).place 1 _
  go_simp
  refine hKk.out _ _ ?_ (fun hHeld => ?_)
  · (try dsimp only)
    exact ⟨((unhide HB).fr fZ (by simp; omega)) 0 _ rfl, ((unhide HR).set 0 _).set 1 _⟩
  clear hKk Kk
  (try simp only [List.setIfInBounds_toArray, List.set_cons_zero, List.set_cons_succ])
  refine wpAnyH_done (by kernel_rfl) ?_ _
  have HV : Hid (Vr W.heap.size 2 [.int .u32 y1, .int .u8 y2] _) := hide (vr_fill2 w2 (unhide HR) (by omega))
  have j0 := (unhide HV).tab 0 _ rfl
  have j1 := (unhide HV).tab 1 _ rfl
  clear r0 g0
  clear r1 g1
  have hsz := (show Fr [W.heap.size] w2 ((w2.setCell ⟨W.heap.size, 0, none⟩ (.int .u32 y1)).setCell ⟨W.heap.size, 1, none⟩ (.int .u8 y2)) from fZ).size
  generalize ((w2.setCell ⟨W.heap.size, 0, none⟩ (.int .u32 y1)).setCell ⟨W.heap.size, 1, none⟩ (.int .u8 y2)) = wz at *
  go_wp2_with fail
  refine bodyPost_ret (v := .agg #[.int .u32 y1, .int .u8 y2]) (by simp [results, Tryz.results37, go_sem, j0, j1]) rfl ?_
  refine ⟨(y1, y2), [.int .u32 y1, .int .u8 y2], _, _, rfl, (unhide HD1).bd ((unhide HD2).bd (Rd.giv _ _ _ _)), ⟨rfl, by simp [Value.oneCell'], fun _ => ?_⟩, (unhide H).fr fZ (by simp; omega) (fun p hp hl => by have := HAl p hp hl; simp; omega), (unhide HM).fr fZ (by simp; omega), (unhide HB).fr fZ (by simp; omega), (unhide HF).thenL fZ (by simp)⟩
  exact ⟨rfl, hlt1⟩
end
end Go.Proofs.YtjoonmpjcophnaaGreatDoor
namespace Go.Proofs.YtjoonmpjcophnaaGreatDoor
open Go.RowKit

theorem szP132 : (Tryz.prog.info? 132).map (·.size) = some 2 := by kernel_rfl
theorem mkP132 (m : Nat) (hm : m ≤ 4096) : ∃ Z : Array Value, ∀ w, (Instr.makeSlice 129 (.int .i64 (m : Int)) (.int .i64 (m : Int))).run Tryz.prog w = .ok (.slice (some ⟨w.heap.size, 0, none⟩) m m) (w.alloc (.cells (madeCells Z (m * 2)) 132)) :=
  ⟨_, fun w => make_runK 129 132 2 Tryz.underlying129 (i := (Tryz.prog.info? 132).getD default) (z := (((Tryz.prog.info? 132).getD default).zero).getD default) (by kernel_rfl) (by kernel_rfl) (by kernel_rfl) (by kernel_rfl) m hm w⟩
section
variable {c : Nat} {a : Option Addr} {len cap k : Nat} {xs : List Int} {e : Int} {W : World} {sat : Bool} {q : Nat}
set_option maxHeartbeats 4000000 in
set_option maxRecDepth 100000 in
theorem list36_any {J : World → Prop} (h : Cs c a len cap xs k e W) (hJ : J W) (HJ : ∀ w w' l, J w → Fr l w w' → (∀ i ∈ l, i = c ∨ W.heap.size ≤ i) → J w')
    (HO : ∀ k e w, W.heap.size ≤ w.heap.size → Cs c a len cap xs k e w → J w → Calls Tryz.prog 37 #[.pointer (some ⟨q, 0, none⟩)] w fun r w' => ∃ y cs k' e', r = .returned (.agg cs.toArray) ∧ Rd rPair xs k e y k' e' ∧ eGq.rep' w' (fun b => w.heap.size ≤ b) 0 y cs ∧ Cs c a len cap xs k' e' w' ∧ J w' ∧ Fr [c] w w') :
    Calls Tryz.prog 36 #[.pointer (some ⟨c, 0, none⟩), .func (.func 37) #[] #[.pointer (some ⟨q, 0, none⟩)]] W fun r W' => ∃ L g k' e', r = .returned (.slice (some ⟨g, 0, none⟩) L.length L.length) ∧ Rd (rList rPair) xs k e L k' e' ∧ Sls eGq W' (fun b => W.heap.size ≤ b) L (.slice (some ⟨g, 0, none⟩) L.length L.length) ∧ L.length ≤ 4096 ∧ Cs c a len cap xs k' e' W' ∧ J W' ∧ Fr [c] W W' := by
  have HX := hide (p_count h)
  have hcl := h.1.lt
  have HAl : Hid (∀ p, a = some p → 0 < len → p.block < W.heap.size) := hide h.2.1.lt
  have HJ0 := hide hJ
  have HJs := hide HJ
  have HOs := hide HO
  clear h hJ HJ HO
  go_enter Tryz.func36, Tryz.ntmps36
  go_wp2_with fail
  refine (unhide HX).mono ?_
  rintro _ w1 ⟨m, k1, e1, rfl, hD, hm, hC, hF⟩
  have HD := hide hD
  have HC := hide hC
  have HF := hide hF
  have hsz := hF.size
  have HJ1 := hide ((unhide HJs) _ _ _ (unhide HJ0) hF (by simp))
  clear hD hC hF HX HJ0
  obtain ⟨Z, hmk⟩ := mkP132 m hm
  go_wp2_with fail
  clear hmk
  have hb := below1 w1 (.cells (madeCells Z (m * 2)) 132)
  have HM := hide (Prw.made (E := eGq) w1 m W.heap.size Z 132 0 hsz)
  change Hid (Prw eGq w1.heap.size m W.heap.size [] 0 (w1.alloc (.cells (madeCells Z (m * 2)) 132))) at HM
  have HC := hide ((unhide HC).bel hb)
  have HF := hide ((unhide HF).bel hb)
  have HJ1 := hide ((unhide HJs) _ _ _ (unhide HJ1) (Fr.of hb []) (by simp))
  have hsz2 : (w1.alloc (.cells (madeCells Z (m * 2)) 132)).heap.size = w1.heap.size + 1 := by simp
  clear hb
  generalize w1.alloc (.cells (madeCells Z (m * 2)) 132) = w2 at *
  go_loopw [12] (fun v12 wr => ∃ (L : List _) (k2 : Nat) (e2 : Int), L.length ≤ m ∧ v12 = .int .i64 (L.length : Int) ∧ Prw eGq w1.heap.size m W.heap.size L 0 wr ∧ Cs c a len cap xs k2 e2 wr ∧ J wr ∧ Fr [c] W wr ∧ w1.heap.size < wr.heap.size ∧ (∀ s k' e', Rd (repR rPair (m - L.length)) xs k2 e2 s k' e' → Rd (rList rPair) xs k e (id (L ++ s)) k' e')) (fun v12 _ => m - (intOf v12).toNat)
  case atStart =>
    refine ⟨[], k1, e1, Nat.zero_le _, rfl, unhide HM, unhide HC, unhide HJ1, unhide HF, by omega, fun s k' e' hs => (unhide HD).bd ?_⟩
    rw [show ((m : Int)).toNat = m by omega]
    exact hs
  case round =>
    obtain ⟨L, k2, e2, hi, rfl, hP, hC, hJ, hF, hlg, hK⟩ := hrel
    clear HM HC HJ1 HF HD
    by_cases hlt : L.length < m
    · have hi' : (L.length : Int) < (m : Int) := by omega
      have HX := hide (unhide HOs k2 e2 _ hF.size hC hJ)
      have HP := hide hP
      have HF := hide hF
      have HK := hide hK
      clear hP hC hJ hF hK
      go_wp2_with fail
      refine (unhide HX).mono ?_
      rintro _ w3 ⟨y, cs, k3, e3, rfl, hD, hy, hC, hJ, hF2⟩
      have hsz3 := hF2.size
      have hsW := (unhide HF).size
      have HP2 := hide ((unhide HP).fr hF2 (by simp; omega) (by simp; omega) (fun q => q))
      have HF3 := hide ((unhide HF).trans hF2)
      have HKn := hide (Rd.more2 id (n := m - (L.length + 1)) (by rw [show m - (L.length + 1) + 1 = m - L.length by omega]; exact unhide HK) hD)
      have hcl2 : cs.length = 2 := hy.len
      have hone := hy.one
      have HY := hide hy
      have HC2 := hide hC
      have HJ2 := hide hJ
      clear hD hy hC hJ hF2 HX HP HF HK
      go_wp2_with ((refine wpList_storeA rfl 132 (.tmp 19) (.tmp 18) rfl rfl (g := w1.heap.size) (off := L.length * 2) (cs := cs) rfl rfl (by rw [hcl2]; exact szP132) (fun j hj => (unhide HP2).spare hlt (show j < 2 by omega)) hone ?_))
      have hFg := fr_cells w1.heap.size cs (L.length * 2) w3
      have hl1 : (L ++ [y]).length = L.length + 1 := by simp
      refine ⟨⟨L ++ [y], k3, e3, by omega, by rw [hl1]; go_num, (unhide HP2).put hlt hcl2 (fun q => q) (fun q => (unhide HY).rep q (fun b _ hb => ⟨by omega, by omega⟩)), (unhide HC2).fr hFg (by simp; omega) (fun p hp hl => by have := unhide HAl p hp hl; simp; omega), unhide HJs _ _ _ (unhide HJ2) hFg (by simp; omega), (unhide HF3).thenL hFg (by simp; omega), by have := hFg.size; omega, by rw [hl1]; exact unhide HKn⟩, by simp [intOf]; omega⟩
    · obtain rfl : m = L.length := by omega
      have HP := hide hP
      have HC := hide hC
      have HJ2 := hide hJ
      have HF := hide hF
      have HK := hide (Rd.fin id hK (.inl (by omega)))
      clear hP hC hF hJ hK
      go_wp2_with fail
      go_ret
      exact ⟨L, w1.heap.size, k2, e2, rfl, unhide HK, (unhide HP).sls, hm, unhide HC, unhide HJ2, unhide HF⟩
end
end Go.Proofs.YtjoonmpjcophnaaGreatDoor
namespace Go.Proofs.YtjoonmpjcophnaaGreatDoor

/-- A part: its number, its content. -/
def pr (ys : List Int) : Int × List Int := (ys.headD 0, ys.tail)
def fl (L : List (List Int)) : List Int := (L.map pr).flatMap (fun q => sct q.1 q.2)
theorem fl_app (L M : List (List Int)) : fl (L ++ M) = fl L ++ fl M := by simp [fl]
theorem fl_one (ys : List Int) : fl [ys] = sct (pr ys).1 (pr ys).2 := by simp [fl]
def cst (c : List Int) : List Int := sct 0 ([1, 120] ++ c)
def aA (yss : List (List Int)) (i : Nat) : List Int := magic ++ fl (yss.take i)
def bB (c : List Int) (j : Nat) (yss : List (List Int)) (i : Nat) : List Int := if i ≤ j then magic ++ fl (yss.take i) else magic ++ (fl (yss.take j) ++ (cst c ++ fl ((yss.take i).drop j)))
variable {c : List Int} {j i : Nat} {yss : List (List Int)} {ys : List Int}
theorem take_at (h : yss[i]? = some ys) : yss.take (i + 1) = yss.take i ++ [ys] := by
  rw [List.take_add_one, h]; rfl
theorem aA_next (h : yss[i]? = some ys) : aA yss (i + 1) = aA yss i ++ sct (pr ys).1 (pr ys).2 := by
  unfold aA
  rw [take_at h, fl_app, fl_one, List.append_assoc]
theorem bB_next (h : yss[i]? = some ys) (hn : i ≠ j) : bB c j yss (i + 1) = bB c j yss i ++ sct (pr ys).1 (pr ys).2 := by
  unfold bB
  by_cases h1 : i ≤ j
  · rw [if_pos h1, if_pos (by omega), take_at h, fl_app, fl_one, List.append_assoc]
  · have hl := (List.getElem?_eq_some_iff.1 h).1
    rw [if_neg h1, if_neg (by omega), take_at h, List.drop_append_of_le_length (by rw [List.length_take]; omega), fl_app, fl_one]
    simp only [List.append_assoc]
theorem bB_here (h : yss[i]? = some ys) (hn : i = j) : bB c j yss (i + 1) = (bB c j yss i ++ cst c) ++ sct (pr ys).1 (pr ys).2 := by
  subst hn
  have hl := (List.getElem?_eq_some_iff.1 h).1
  unfold bB
  rw [if_pos (Nat.le_refl _), if_neg (by omega), take_at h, List.drop_append_of_le_length (by rw [List.length_take]; omega), List.drop_eq_nil_of_le (by rw [List.length_take]; omega), List.nil_append, fl_one]
  simp only [List.append_assoc]
theorem fl_len : ∀ (L : List (List Int)), (∀ ys ∈ L, 1 ≤ ys.length ∧ ys.length ≤ 100) → (fl L).length ≤ 102 * L.length
  | [], _ => Nat.le_refl _
  | ys :: L, h => by
    have h1 := fl_len L (fun z hz => h z (List.mem_cons_of_mem _ hz))
    have h2 := h ys (List.mem_cons_self ..)
    rw [show ys :: L = [ys] ++ L from rfl, fl_app, fl_one, List.length_append, List.length_append]
    show ys.tail.length + 1 + 1 + _ ≤ _
    rw [List.length_tail]
    show _ ≤ 102 * (1 + L.length)
    omega
theorem zero_same (hj : j < yss.length) (hp : ∀ ys ∈ yss, 1 ≤ ys.length ∧ ys.length ≤ 100) (hn : yss.length ≤ 30) (hc : c.length ≤ 50) : dec true (bB c j yss yss.length) = dec true (aA yss yss.length) := by
  unfold bB aA
  rw [if_neg (by omega), List.take_length]
  have h1 := fl_len (yss.take j) (fun z hz => hp z (List.mem_of_mem_take hz))
  have h2 := fl_len (yss.drop j) (fun z hz => hp z (List.mem_of_mem_drop hz))
  rw [List.length_take] at h1
  rw [List.length_drop] at h2
  have hm : magic.length = 8 := rfl
  have h := dec_zero true ((yss.take j).map pr) ((yss.drop j).map pr) c (fun q hq => by
    obtain ⟨z, hz, rfl⟩ := List.mem_map.1 hq
    have := hp z (List.mem_of_mem_take hz)
    show z.tail.length < 128
    rw [List.length_tail]
    omega) hc (by
    show (magic ++ (fl (yss.take j) ++ (sct 0 ([1, 120] ++ c) ++ fl (yss.drop j)))).length ≤ 65536
    simp only [List.length_append, sct, List.length_cons, List.length_nil]
    omega)
  have e : fl yss = fl (yss.take j) ++ fl (yss.drop j) := by rw [← fl_app, List.take_append_drop]
  rw [e]
  exact h
end Go.Proofs.YtjoonmpjcophnaaGreatDoor

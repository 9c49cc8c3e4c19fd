/- CdX, MdH, PgA, PgB, PgC, PgN, PcA, PlC. -/
import Derived.Test.YtjoonmpjcophnaaGreatDoorLo24
import Derived.Test.YtjoonmpjcophnaaGreatDoorLo29
import Derived.Test.YtjoonmpjcophnaaGreatDoorLo37
import Derived.Test.YtjoonmpjcophnaaGreatDoorLo38
import Derived.Test.YtjoonmpjcophnaaGreatDoorLo39
import Derived.Test.YtjoonmpjcophnaaGreatDoorLo40
namespace Go.Proofs.YtjoonmpjcophnaaGreatDoor
open Go.RowKit

section
variable {P : Program} {ops : Array Oper} {Q : Exit → Act → World → Prop} {md : Region.Mode} {S : World → Prop}
end
/-- A row of numbers of one's own. -/
def Ou (w : World) (B : Nat) (v : Value) (ys : List Int) : Prop := w.ownsRow B 30 1 v ys.length (uCells ys)
theorem Ou.fr {w w' : World} {B : Nat} {v : Value} {ys : List Int} {l : List Nat} (h : Ou w B v ys) (hf : Fr l w w') (hl : ∀ i ∈ l, i < B) : Ou w' B v ys := by
  refine ⟨h.1, ?_⟩
  rcases h.2 with hn | ⟨g, cap, cur, h1, hb, hgg, rest⟩
  · exact .inl hn
  · refine .inr ⟨g, cap, cur, h1, hb, ?_, rest⟩
    rw [hf.block g (Array.getElem?_eq_some_iff.1 hgg).1 (fun hm => by have := hl g hm; omega)]
    exact hgg
theorem Ou.slice {w : World} {B : Nat} {v : Value} {ys : List Int} (h : Ou w B v ys) : ∃ p s, v = .slice p ys.length s := by
  rcases h.2 with ⟨h1, h2⟩ | ⟨g, cap, cur, h1, _⟩
  · exact ⟨none, 0, by rw [h1, h2]⟩
  · exact ⟨_, _, h1⟩
theorem Ou.slc {w : World} {B : Nat} {v : Value} {ys : List Int} (h : Ou w B v ys) : Slc w (fun b => B ≤ b) ys.length (uCells ys) v := slc_own h (by decide) (fun g hg => (h.lt g hg).1)
end Go.Proofs.YtjoonmpjcophnaaGreatDoor
namespace Go.Proofs.YtjoonmpjcophnaaGreatDoor
open Go.RowKit

/-- A variable of n cells. -/
structure Vr (ib n : Nat) (L : List Value) (w : World) : Prop where
  tab : Tab w ib L
  room : Room ib n w
  lt : ib < w.heap.size
theorem Vr.fr {ib n : Nat} {L : List Value} {w w' : World} {l : List Nat} (h : Vr ib n L w) (hf : Fr l w w') (hn : ib ∉ l) : Vr ib n L w' := ⟨h.tab.fr hf hn, h.room.fr hf hn, Nat.lt_of_lt_of_le h.lt hf.size⟩
theorem Vr.set {ib n : Nat} {L : List Value} {w : World} (h : Vr ib n L w) (o : Nat) (v : Value) : Vr ib n (L.set o v) (w.setCell ⟨ib, o, none⟩ v) := ⟨h.tab.set o v, h.room.set o v, by simpa [World.setCell] using h.lt⟩
theorem vr_new (cs : List Value) (t : TypeId) (W : World) : Vr W.heap.size cs.length cs (W.alloc (.cells cs.toArray t)) := by
  refine ⟨fun j v hj => ?_, room_cells (cs := cs) (t := t) W cs.length (Nat.le_refl _), by simp⟩
  rw [World.cell?_alloc_new]
  simpa using hj
theorem doneE_z {e e2 : Int} {k n : Nat} (h : doneE e e2 k n = 0) : e = 0 ∧ e2 = 0 := by
  unfold doneE at h
  by_cases h1 : e = 0
  · rw [if_neg (by simp [h1])] at h
    by_cases h2 : e2 = 0
    · exact ⟨h1, h2⟩
    · rw [if_pos h2] at h; exact absurd h h2
  · rw [if_pos h1] at h; exact absurd h h1
section
variable {c : Nat} {a : Option Addr} {len cap k : Nat} {xs : List Int} {e : Int} {W : World} {sat : Bool}
end
end Go.Proofs.YtjoonmpjcophnaaGreatDoor
namespace Go.Proofs.YtjoonmpjcophnaaGreatDoor
open Go.RowKit

section
variable {c : Nat} {a : Option Addr} {len cap k : Nat} {xs : List Int} {e : Int} {W : World} {sat : Bool}
theorem p_u32 (h : Cs c a len cap xs k e W) : Calls Tryz.prog 38 #[.pointer (some ⟨c, 0, none⟩)] W fun r W' => ∃ y k' e', r = .returned (.int .u32 y) ∧ Rd (rU 32) xs k e y k' e' ∧ (0 ≤ y ∧ y < 4294967296) ∧ Cs c a len cap xs k' e' W' ∧ Fr [c] W W' :=
  (u32_any h).mono (by rintro _ w ⟨rfl, hC, hF⟩; exact ⟨_, _, _, rfl, Rd.lift, liftU_lt h.2.2.2.1 k e, hC, hF⟩)
theorem p_byte (h : Cs c a len cap xs k e W) : Calls Tryz.prog 47 #[.pointer (some ⟨c, 0, none⟩)] W fun r W' => ∃ y k' e', r = .returned (.int .u8 y) ∧ Rd rB xs k e y k' e' ∧ (0 ≤ y ∧ y < 256) ∧ Cs c a len cap xs k' e' W' ∧ Fr [c] W W' :=
  (byte_any h).mono (by rintro _ w ⟨rfl, hC, hF⟩; exact ⟨_, _, _, rfl, Rd.lift, lift_rB_lt h.2.2.2.1 k e, hC, hF⟩)
theorem p_value (h : Cs c a len cap xs k e W) : Calls Tryz.prog 39 #[.pointer (some ⟨c, 0, none⟩)] W fun r W' => ∃ y k' e', r = .returned (.int .u8 y) ∧ Rd rValue xs k e y k' e' ∧ Cs c a len cap xs k' e' W' ∧ Fr [c] W W' :=
  (ap_value h).mono (by rintro _ w ⟨rfl, hC, hF⟩; exact ⟨_, _, _, rfl, Rd.lift, hC, hF⟩)
theorem p_name (h : Cs c a len cap xs k e W) : Calls Tryz.prog 105 #[.pointer (some ⟨c, 0, none⟩)] W fun r W' => ∃ y k' e', r = .returned (.string (strOfNums y)) ∧ Rd rName xs k e y k' e' ∧ Cs c a len cap xs k' e' W' ∧ Fr [c] W W' :=
  (name_any h).mono (by rintro _ w ⟨rfl, hC, hF⟩; exact ⟨_, _, _, rfl, Rd.lift, hC, hF⟩)
theorem p_limits (h : Cs c a len cap xs k e W) : Calls Tryz.prog 112 #[.pointer (some ⟨c, 0, none⟩)] W fun r W' => ∃ (y : Lm) (k' : Nat) (e' : Int), r = .returned (.agg #[.int .u32 y.1, .int .u32 y.2.1, .bool y.2.2]) ∧ Rd rLimits xs k e y k' e' ∧ Cs c a len cap xs k' e' W' ∧ Fr [c] W W' :=
  (limits_any h).mono (by rintro _ w ⟨rfl, hC, hF⟩; exact ⟨_, _, _, rfl, Rd.lift, hC, hF⟩)
theorem p_table (h : Cs c a len cap xs k e W) : Calls Tryz.prog 111 #[.pointer (some ⟨c, 0, none⟩)] W fun r W' => ∃ (y : Lm) (k' : Nat) (e' : Int), r = .returned (.agg #[.int .u32 y.1, .int .u32 y.2.1, .bool y.2.2]) ∧ Rd rTable xs k e y k' e' ∧ Cs c a len cap xs k' e' W' ∧ Fr [c] W W' :=
  (table_any h).mono (by rintro _ w ⟨rfl, hC, hF⟩; exact ⟨_, _, _, rfl, Rd.lift, hC, hF⟩)
theorem p_global (h : Cs c a len cap xs k e W) : Calls Tryz.prog 113 #[.pointer (some ⟨c, 0, none⟩)] W fun r W' => ∃ (y : Int) (z : Bool) (k' : Nat) (e' : Int), r = .returned (.agg #[.int .u8 y, .bool z]) ∧ Rd rGlobal xs k e (y, z) k' e' ∧ Cs c a len cap xs k' e' W' ∧ Fr [c] W W' :=
  (global_any h).mono (by rintro _ w ⟨rfl, hC, hF⟩; exact ⟨_, _, _, _, rfl, Rd.lift, hC, hF⟩)
theorem sl_slcP {w : World} {P : Nat → Prop} {a : Option Addr} {len cap : Nat} {xs : List Int} (h : Sl w a len cap xs) (hp : ∀ p, a = some p → 0 < len → P p.block) : Slc w P xs.length (bys xs) (.slice a len cap) := by
  obtain ⟨h1, h2, h3, h4⟩ := h
  subst h1
  refine ⟨a, cap, rfl, h2, by simp [bys], ?_⟩
  rcases h4 with ⟨rfl, h5, rfl⟩ | ⟨b, off, rfl, h5⟩
  · exact .inl ⟨h5, fun _ => rfl⟩
  · refine .inr ⟨b, off, rfl, fun h0 => hp _ rfl h0, fun j u hj => ?_⟩
    have hjl : j < xs.length := by simpa [bys] using (List.getElem?_eq_some_iff.1 hj).1
    rw [h5 j hjl]
    unfold bys at hj
    rw [List.getElem?_map, List.getElem?_eq_getElem hjl] at hj
    injection hj with hj
    rw [← hj]
    simp [List.getD, hjl]
theorem nw_slc {n : Nat} {x1 : Option Addr} {x2 x3 : Nat} {ys : List Int} {w : World} (h : Nw n x1 x2 x3 ys w) : Slc w (fun b => n ≤ b) ys.length (bys ys) (.slice x1 x2 x3) := sl_slcP h.1 h.2
theorem p_func (h : Cs c a len cap xs k e W) : Calls Tryz.prog 107 #[.pointer (some ⟨c, 0, none⟩)] W fun r W' => ∃ (y : Ty) (v1 v2 : Value) (k' : Nat) (e' : Int), r = .returned (.agg #[v1, v2]) ∧ Rd rFunc xs k e y k' e' ∧ eTy.rep W' (fun b => W.heap.size ≤ b) y [v1, v2] ∧ Cs c a len cap xs k' e' W' ∧ Fr [c] W W' :=
  (func_any h).mono (by rintro _ w ⟨x1, x2, x3, y1, y2, y3, rfl, h1, h2, hC, hF⟩; exact ⟨_, _, _, _, _, rfl, Rd.lift, ⟨_, _, rfl, nw_slc h1, nw_slc h2⟩, hC, hF⟩)
theorem p_take {n : Nat} (h : Cs c a len cap xs k e W) (hb : n < 4294967296) : Calls Tryz.prog 76 #[.pointer (some ⟨c, 0, none⟩), .int .u32 (n : Int)] W fun r W' => ∃ x1 x2 x3 y k' e', r = .returned (.slice x1 x2 x3) ∧ Rd (rP n) xs k e y k' e' ∧ Sl W' x1 x2 x3 y ∧ Slc W' (fun b => W.heap.size ≤ b) y.length (bys y) (.slice x1 x2 x3) ∧ Cs c a len cap xs k' e' W' ∧ Fr [c] W W' :=
  (take_any h hb).mono (by rintro _ w ⟨x1, x2, x3, rfl, h1, hC, hF⟩; exact ⟨_, _, _, _, _, _, rfl, Rd.lift, h1.1, nw_slc h1, hC, hF⟩)
theorem p_count (h : Cs c a len cap xs k e W) : Calls Tryz.prog 65 #[.pointer (some ⟨c, 0, none⟩)] W fun r W' => ∃ (n : Nat) (k' : Nat) (e' : Int), r = .returned (.int .i64 (n : Int)) ∧ Rd rCount xs k e (n : Int) k' e' ∧ n ≤ 4096 ∧ Cs c a len cap xs k' e' W' ∧ Fr [c] W W' :=
  (count_any' h).mono (by
    rintro _ w ⟨rfl, hC, hF⟩
    have hle := count_le h.2.2.2.1 k e
    exact ⟨(lift rCount 0 xs k e).1.toNat, _, _, by rw [Int.toNat_of_nonneg hle.1], by rw [Int.toNat_of_nonneg hle.1]; exact Rd.lift, by omega, hC, hF⟩)
theorem Vr.of2 {t : TypeId} {v1 v2 : Value} (w : World) : Vr w.heap.size 2 [v1, v2] (w.alloc (.cells #[v1, v2] t)) := vr_new [v1, v2] t w
set_option maxHeartbeats 2000000 in
set_option maxRecDepth 100000 in
/-- A reader's expression. -/
theorem p_expr (h : Cs c a len cap xs k e W) (hm : Mk W) (hc : 4 ≤ c) : Calls Tryz.prog 118 #[.agg #[.pointer (some ⟨c, 0, none⟩), .bool sat]] W fun r W' => ∃ p q s T k' e', r = .returned (.slice p q s) ∧ Rd (rExp sat) xs k e T k' e' ∧ (e' = 0 → Fov W' (fun b => W.heap.size ≤ b) T (.slice p q s)) ∧ Cs c a len cap xs k' e' W' ∧ Mk W' ∧ Fr [c] W W' := by
  have hb := below1 W (.cells #[.pointer (some ⟨c, 0, none⟩), .bool sat] 68)
  have HX := hide (expr_any (sat := sat) (h.bel hb) (hm.below hb) hc)
  have HB := hide hb
  clear h hm hb
  go_enter Tryz.func118, Tryz.ntmps118
  go_wp2_with fail
  refine (unhide HX).mono ?_
  rintro _ w1 ⟨p, q, s, T, t, k1, e1, rfl, hD, hT, -, hC, hM, hF⟩
  have HC := hide hC
  have HD := hide hD
  have HT := hide hT
  have HM := hide hM
  have HF := hide hF
  clear hC hD hT hM hF
  go_wp2_with fail
  go_ret
  exact ⟨p, q, s, T, k1, e1, rfl, (unhide HD).bd (Rd.giv _ _ _ _), fun q => (unhide HT q).mono (fun b _ hb => by simp at hb; omega), unhide HC, unhide HM, (Fr.of (unhide HB) [c]).trans (unhide HF)⟩
set_option maxHeartbeats 2000000 in
set_option maxRecDepth 100000 in
/-- A kind. -/
theorem p_kind (h : Cs c a len cap xs k e W) : Calls Tryz.prog 110 #[.agg #[.pointer (some ⟨c, 0, none⟩), .bool sat]] W fun r W' => ∃ y k' e', r = .returned (.int .i64 y) ∧ Rd rKind xs k e y k' e' ∧ (0 ≤ y ∧ y < 256) ∧ (e' = 0 → y ≤ 3) ∧ Cs c a len cap xs k' e' W' ∧ Fr [c] W W' := by
  have hb := below1 W (.cells #[.pointer (some ⟨c, 0, none⟩), .bool sat] 68)
  have HX := hide (p_byte (h.bel hb))
  have HB := hide hb
  have HV := hide (Vr.of2 (t := 68) (v1 := .pointer (some ⟨c, 0, none⟩)) (v2 := .bool sat) W)
  have hcl := h.1.lt
  clear h hb
  go_enter Tryz.func110, Tryz.ntmps110
  go_wp2_with fail
  refine (unhide HX).mono ?_
  rintro _ w1 ⟨x, k3, e3, rfl, hD, hlt, hC, hF⟩
  have iw : IntKind.i64.wrap x = x := i64_id (by omega) (by omega)
  have HC := hide hC
  have HD := hide hD
  have HV := hide ((unhide HV).fr hF (by simp; omega))
  have HF := hide ((Fr.of (unhide HB) [c]).trans hF)
  clear hC hD hF
  have z0 := (unhide HV).tab 0 _ rfl
  by_cases h3 : 3 < x
  · go_wp2_with fail
    refine (Fail_any (unhide HC)).mono ?_
    rintro _ w2 ⟨rfl, hC, hF⟩
    have HC := hide hC
    have HF := hide ((unhide HF).trans hF)
    clear hC hF
    go_wp2_with fail
    go_ret
    exact ⟨x, k3, _, rfl, (unhide HD).bd (by rw [decide_eq_false (show ¬ x ≤ 3 by omega)]; exact Rd.tst_f _ _ _ (by decide) _ _ _), hlt, fun q => (by split at q; exact absurd q (by decide); contradiction), unhide HC, unhide HF⟩
  · go_wp2_with fail
    go_ret
    exact ⟨x, k3, e3, rfl, (unhide HD).bd (by rw [decide_eq_true (show x ≤ 3 by omega)]; exact Rd.tst_t _ _ _ _ _ _), hlt, fun _ => (by omega), unhide HC, unhide HF⟩
end
/-- A row's cells, set one by one. -/
theorem fr_cells (g : Nat) : ∀ (cs : List Value) (o : Nat) (w : World), Fr [g] w (w.setCells g o cs)
  | [], _, _ => Fr.refl _ _
  | v :: r, o, _ => ((Fr.refl [g] _).place o v).trans (fr_cells g r (o + 1) _)
theorem run_storeA {P : Program} (w : World) (ty : TypeId) (g o : Nat) (cs : List Value) (hi : (P.info? ty).map (·.size) = some cs.length) (hc : ∀ j, j < cs.length → (∃ v, w.cell? ⟨g, o + j, none⟩ = some v) ∧ w.frozen? ⟨g, o + j, none⟩ = false) (h1 : ∀ v ∈ cs, v.oneCell' = true) :
    (Instr.storeAt ty (.pointer (some ⟨g, o, none⟩)) (.agg cs.toArray)).run P w = .ok () (w.setCells g o cs) := by
  have hst := run_storeCells_cells (P := P) g o cs 0 w (fun j hj => by obtain ⟨v, h⟩ := (hc j hj).1; rw [Nat.add_zero, h]; rfl) (fun j hj => by rw [Nat.add_zero]; exact (hc j hj).2) h1
  rw [Nat.add_zero] at hst
  cases hq : P.info? ty with
  | none => rw [hq] at hi; cases hi
  | some i =>
    have hs : i.size = cs.length := by rw [hq] at hi; simpa using hi
    simp [Instr.storeAt, Instr.sureAddr, storeVar, sizeOf, typeInfo, hq, hs, Value.cells, hst]
theorem wpList_storeA {P : Program} {ops : Array Oper} {rest : List Oper} {o : Oper} {a : Act} {w : World} {Q : Exit → Act → World → Prop} (hgd : o.guard = none) (ty : TypeId) (x y : Operand) (ho : o.op = .store ty x y) (hd : o.dst = none)
    {g off : Nat} {cs : List Value} (hx : a.eval x = .pointer (some ⟨g, off, none⟩)) (hy : a.eval y = .agg cs.toArray) (hi : (P.info? ty).map (·.size) = some cs.length) (hc : ∀ j, j < cs.length → (∃ v, w.cell? ⟨g, off + j, none⟩ = some v) ∧ w.frozen? ⟨g, off + j, none⟩ = false) (h1 : ∀ v ∈ cs, v.oneCell' = true)
    (h : wpList P ops Q rest a (w.setCells g off cs)) : wpList P ops Q (o :: rest) a w :=
  wpList_plain hgd fun _ hK => by
    unfold Oper.wp execOp
    simp only [ho, hx, hy, Sem.run_bind, run_storeA w ty g off cs hi hc h1]
    exact hK _ _ (by simpa [Act.put, hd] using h)
/-- A row of n things that was made at once, of which the first ones are these. -/
structure Prw {α : Type} (E : El α) (g n B : Nat) (L : List α) (e : Int) (w : World) : Prop where
  room : Room g (n * E.k) w
  lo : B ≤ g
  cells : e = 0 → ∃ cs, Els E w (fun b => B ≤ b ∧ b ≠ g) L cs ∧ ∀ j u, cs[j]? = some u → w.cell? ⟨g, j, none⟩ = some u
section
variable {α : Type} {E : El α}
theorem Prw.made (w : World) (n B : Nat) (z : Array Value) (t : TypeId) (e : Int) (hB : B ≤ w.heap.size) : Prw E w.heap.size n B [] e (w.alloc (.cells (madeCells z (n * E.k)) t)) := by
  refine ⟨fun o ho => ⟨?_, by simp [go_sem]⟩, hB, fun _ => ⟨[], rfl, fun j u h => by cases h⟩⟩
  rw [World.cell?_alloc_new]
  exact ⟨_, Array.getElem?_eq_getElem (by rw [size_madeCells]; exact ho)⟩
theorem Prw.fr {g n B : Nat} {L : List α} {e e' : Int} {w w' : World} {l : List Nat} (h : Prw E g n B L e w) (hf : Fr l w w') (hg : g ∉ l) (hl : ∀ i ∈ l, i < B) (he : e' = 0 → e = 0) : Prw E g n B L e' w' := by
  refine ⟨h.room.fr hf hg, h.lo, fun q => ?_⟩
  obtain ⟨cs, h1, h2⟩ := h.cells (he q)
  exact ⟨cs, h1.fr hf (fun i hi hp => by have := hl i hi; omega), fun j u hj => hf.keep (h2 j u hj) hg⟩
theorem room_cellsL {g m : Nat} : ∀ (cs : List Value) (o : Nat) {w : World}, Room g m w → Room g m (w.setCells g o cs)
  | [], _, _, h => h
  | v :: r, o, _, h => room_cellsL r (o + 1) (h.set o v)
theorem Prw.put {g n B : Nat} {L : List α} {e e' : Int} {w : World} (h : Prw E g n B L e w) (hlt : L.length < n) {y : α} {cs : List Value} (hcl : cs.length = E.k) (he : e' = 0 → e = 0) (hx : e' = 0 → E.rep w (fun b => B ≤ b ∧ b ≠ g) y cs) :
    Prw E g n B (L ++ [y]) e' (w.setCells g (L.length * E.k) cs) := by
  have hf := fr_cells g cs (L.length * E.k) w
  refine ⟨room_cellsL cs _ h.room, h.lo, fun q => ?_⟩
  obtain ⟨ds, h1, h2⟩ := h.cells (he q)
  have hdl := h1.len
  have up : ∀ i ∈ [g], ¬ (fun b => B ≤ b ∧ b ≠ g) i := fun i hi hp => by simp at hi; exact hp.2 hi
  refine ⟨ds ++ cs, Els.app ((els_one (hx q)).fr hf up) (h1.fr hf up), fun j u hj => ?_⟩
  by_cases hj' : j < ds.length
  · rw [List.getElem?_append_left hj'] at hj
    rw [World.cell?_setCells_out g cs _ w _ (fun _ _ => .inl (by rw [← hdl]; exact hj'))]
    exact h2 j u hj
  · rw [List.getElem?_append_right (by omega)] at hj
    have hlt2 : j - ds.length < cs.length := (List.getElem?_eq_some_iff.1 hj).1
    have hin := World.cell?_setCells_in g cs (L.length * E.k) w (fun i hi => by
      have : L.length * E.k + i < n * E.k := by
        have := Nat.mul_le_mul_right E.k (show L.length + 1 ≤ n by omega)
        rw [Nat.add_mul, Nat.one_mul] at this
        omega
      obtain ⟨v, hv⟩ := (h.room _ this).1
      rw [hv]; rfl) (j - ds.length) hlt2
    rw [← hdl, Nat.add_sub_cancel' (by omega)] at hin
    rw [← hdl, hin, ← hj, List.getElem?_eq_getElem hlt2]
theorem Prw.spare {g n B : Nat} {L : List α} {e : Int} {w : World} (h : Prw E g n B L e w) (hlt : L.length < n) {j : Nat} (hj : j < E.k) : (∃ v, w.cell? ⟨g, L.length * E.k + j, none⟩ = some v) ∧ w.frozen? ⟨g, L.length * E.k + j, none⟩ = false := by
  refine h.room _ ?_
  have := Nat.mul_le_mul_right E.k (show L.length + 1 ≤ n by omega)
  rw [Nat.add_mul, Nat.one_mul] at this
  omega
theorem Prw.sls {g n B : Nat} {L : List α} {w : World} (h : Prw E g n B L 0 w) : Sls E w (fun b => B ≤ b) L (.slice (some ⟨g, 0, none⟩) L.length L.length) := by
  obtain ⟨cs, h1, h2⟩ := h.cells rfl
  refine ⟨cs, h1.mono (fun b _ hb => hb.1), some ⟨g, 0, none⟩, L.length, rfl, Nat.le_refl _, ?_, ?_⟩
  · have := h1.len
    have hk := E.kpos
    constructor
    · intro h0
      rw [h0, Nat.zero_mul] at this
      exact List.length_eq_zero_iff.1 this
    · intro h0
      rw [h0, List.length_nil] at this
      rcases Nat.mul_eq_zero.1 this.symm with q | q
      · exact q
      · omega
  · exact .inr ⟨g, 0, rfl, fun _ => h.lo, fun j u hj => by rw [Nat.zero_add]; exact h2 j u hj⟩
theorem Rd.more2 {A B : Type} {f : Rr A} {xs : List Int} {k k2 k3 n : Nat} {e e2 e3 : Int} {L : List A} {y : A} (g : List A → B) {G : Rr B} (HK : ∀ s k' e', Rd (repR f (n + 1)) xs k2 e2 s k' e' → Rd G xs k e (g (L ++ s)) k' e') (h : Rd f xs k2 e2 y k3 e3) :
    ∀ s k' e', Rd (repR f n) xs k3 e3 s k' e' → Rd G xs k e (g (L ++ [y] ++ s)) k' e' := fun s k' e' hs => by
  rw [List.append_assoc]
  exact HK _ _ _ (h.bd (hs.bd (Rd.giv _ _ _ _)))
end
end Go.Proofs.YtjoonmpjcophnaaGreatDoor
namespace Go.Proofs.YtjoonmpjcophnaaGreatDoor
open Go.RowKit

/-- The cells of a thing that was read: as many as they must be; the thing's, if nothing failed. -/
structure El.rep' {α : Type} (E : El α) (w : World) (P : Nat → Prop) (e : Int) (y : α) (cs : List Value) : Prop where
  len : cs.length = E.k
  one : ∀ u ∈ cs, u.oneCell' = true
  val : e = 0 → E.rep w P y cs
theorem El.rep'.rep {α : Type} {E : El α} {w : World} {P P' : Nat → Prop} {e : Int} {y : α} {cs : List Value} (h : E.rep' w P e y cs) (he : e = 0) (k : ∀ b, b < w.heap.size → P b → P' b) : E.rep w P' y cs := E.mono k (h.val he)
theorem El.rep'.fr {α : Type} {E : El α} {w w' : World} {P : Nat → Prop} {e e' : Int} {y : α} {cs : List Value} {l : List Nat} (h : E.rep' w P e y cs) (hf : Fr l w w') (hl : ∀ i ∈ l, ¬ P i) (he : e' = 0 → e = 0) : E.rep' w' P e' y cs :=
  ⟨h.len, h.one, fun q => E.all (h.val (he q)) fun _ _ hp hc => hf.keep hc (fun hm => hl _ hm hp)⟩
theorem El.rep'.mono {α : Type} {E : El α} {w : World} {P P' : Nat → Prop} {e : Int} {y : α} {cs : List Value} (h : E.rep' w P e y cs) (k : ∀ b, b < w.heap.size → P b → P' b) : E.rep' w P' e y cs := ⟨h.len, h.one, fun q => E.mono k (h.val q)⟩
theorem El.rep'.of {α : Type} {E : El α} {w : World} {P : Nat → Prop} {y : α} {cs : List Value} (h : E.rep w P y cs) (e : Int) : E.rep' w P e y cs := ⟨E.len h, E.one h, fun _ => h⟩
theorem make_runK {P : Program} (t e : TypeId) (K : Nat) (ht : P.underlying t = some (.slice e)) {i : TypeInfo} {z : Value} (hi : P.info? e = some i) (hz : i.zero = some z) (hs : i.size = K) (hb : (decide (i.bytes ≤ 1000)) = true) (m : Nat) (hm : m ≤ 4096) (w : World) :
    (Instr.makeSlice t (.int .i64 (m : Int)) (.int .i64 (m : Int))).run P w = .ok (.slice (some ⟨w.heap.size, 0, none⟩) m m) (w.alloc (.cells (madeCells z.cells (m * K)) e)) := by
  have hb := of_decide_eq_true hb
  have h := run_make (P := P) w t e i z ht hi hz .i64 .i64 (m : Int) (m : Int) (by omega) (Int.le_refl _) (by have := Nat.mul_le_mul hb hm; have h2 := Int.ofNat_le.2 this; rw [Int.natCast_mul] at h2; omega) (by omega)
  rw [hs] at h
  exact h
theorem Prw.lower {α : Type} {E : El α} {g n B B' : Nat} {L : List α} {e : Int} {w : World} (h : Prw E g n B L e w) (hB : B' ≤ B) : Prw E g n B' L e w := by
  refine ⟨h.room, Nat.le_trans hB h.lo, fun q => ?_⟩
  obtain ⟨cs, h1, h2⟩ := h.cells q
  exact ⟨cs, h1.mono (fun b _ hb => ⟨Nat.le_trans hB hb.1, hb.2⟩), h2⟩
end Go.Proofs.YtjoonmpjcophnaaGreatDoor
namespace Go.Proofs.YtjoonmpjcophnaaGreatDoor
open Go.RowKit

section
variable {c : Nat} {a : Option Addr} {len cap k : Nat} {xs : List Int} {e : Int} {W : World} {sat : Bool}
theorem rd_ce2 {k k1 k2 : Nat} {e e1 e2 : Int} {y : Int} {z : Bool} {T : Fo} (h1 : Rd rGlobal xs k e (y, z) k1 e1) (h2 : Rd (rExp sat) xs k1 e1 T k2 e2) : Rd (rCe sat) xs k e (y, z, T) k2 e2 := h1.bd (h2.bd (Rd.giv (y, z, T) _ _ _))
theorem rd_ex2 {k k1 k2 k3 : Nat} {e e1 e2 e3 : Int} {y1 : List Int} {y2 y3 : Int} (h1 : Rd rName xs k e y1 k1 e1) (h2 : Rd rKind xs k1 e1 y2 k2 e2) (h3 : Rd (rU 32) xs k2 e2 y3 k3 e3) : Rd rEx xs k e (y1, y2, y3) k3 e3 := h1.bd (h2.bd (h3.bd (Rd.giv (y1, y2, y3) _ _ _)))
theorem rd_em2 {k k1 k2 k3 : Nat} {e e1 e2 e3 : Int} {y : Int} {T : Fo} {L : List Int} (h1 : Rd (rU 32) xs k e y k1 e1) (h2 : Rd (rExp sat) xs k1 e1 T k2 e2) (h3 : Rd (rList (rU 32)) xs k2 e2 L k3 e3) : Rd (rEm sat) xs k e (y, T, L) k3 e3 := h1.bd (h2.bd (h3.bd (Rd.giv (y, T, L) _ _ _)))
theorem rd_da2 {k k1 k2 k3 k4 : Nat} {e e1 e2 e3 e4 : Int} {y : Int} {T : Fo} {n : Nat} {L : List Int} (h1 : Rd (rU 32) xs k e y k1 e1) (h2 : Rd (rExp sat) xs k1 e1 T k2 e2) (h3 : Rd (rU 32) xs k2 e2 (n : Int) k3 e3) (h4 : Rd (rP n) xs k3 e3 L k4 e4) : Rd (rDa sat) xs k e (y, T, L) k4 e4 :=
  h1.bd (h2.bd ((h3.bd (by rw [Int.toNat_natCast]; exact h4) : Rd rBytes xs k2 e2 L k4 e4).bd (Rd.giv (y, T, L) _ _ _)))
end

theorem els_uP {w : World} {P : Nat → Prop} : ∀ {L : List Int} {cs : List Value}, Els eU w P L cs → cs = uCells L
  | [], _, h => h
  | x :: L, cs, ⟨c, r, hc, hx, hr⟩ => by
    rw [hc, els_uP hr, show c = [.int .u32 x] from hx]
    rfl
theorem Sls.uP {w : World} {P : Nat → Prop} {L : List Int} {v : Value} (h : Sls eU w P L v) : Slc w P L.length (uCells L) v := by
  obtain ⟨cs, h1, h2⟩ := h
  rw [els_uP h1] at h2
  exact h2
theorem vr_fill2 {b : Nat} (w : World) (h : Room b 2 w) (hl : b < w.heap.size) {v0 v1 : Value} : Vr b 2 [v0, v1] ((w.setCell ⟨b, 0, none⟩ v0).setCell ⟨b, 1, none⟩ v1) := by
  obtain ⟨j0, j1⟩ := h.at2 v0 v1
  refine ⟨fun j v hj => ?_, (h.set 0 _).set 1 _, by simpa [World.setCell] using hl⟩
  match j, hj with
  | 0, hj => injection hj with hj; rw [← hj]; exact j0
  | 1, hj => injection hj with hj; rw [← hj]; exact j1
theorem vr_fill3 {b : Nat} (w : World) (h : Room b 3 w) (hl : b < w.heap.size) {v0 v1 v2 : Value} : Vr b 3 [v0, v1, v2] (((w.setCell ⟨b, 0, none⟩ v0).setCell ⟨b, 1, none⟩ v1).setCell ⟨b, 2, none⟩ v2) := by
  obtain ⟨j0, j1, j2⟩ := h.at3 v0 v1 v2
  refine ⟨fun j v hj => ?_, ((h.set 0 _).set 1 _).set 2 _, by simpa [World.setCell] using hl⟩
  match j, hj with
  | 0, hj => injection hj with hj; rw [← hj]; exact j0
  | 1, hj => injection hj with hj; rw [← hj]; exact j1
  | 2, hj => injection hj with hj; rw [← hj]; exact j2
end Go.Proofs.YtjoonmpjcophnaaGreatDoor
namespace Go.Proofs.YtjoonmpjcophnaaGreatDoor
open Go.RowKit

section
variable {P : Program} {ops : Array Oper} {Q : Exit → Act → World → Prop} {md : Region.Mode} {S : World → Prop} {l : List Nat}

/-- Operation j neither looks at temporary d nor writes it. -/
def noTouch (ops : Array Oper) (j d : Nat) : Bool :=
  match ops[j]? with
  | some o => !(o.looksAt ops).contains d && o.dst != some d
  | none => false

/-- Whether a pointer lies already in a temporary that operation j does not touch makes no difference to it. -/
theorem wpOp_over {j d : Nat} {v : Value} (hn : noTouch ops j d = true) (hs : Region.noSelect ops = true)
    (hQ : ∀ c a w, Q (.panic c) a w → Q (.panic c) (a.put (some d) v) w) {K : Act → World → Prop} {a : Act} {w : World}
    (h : wpOp P ops Q j (fun a' w' => K (a'.put (some d) v) w') a w) : wpOp P ops Q j K (a.put (some d) v) w := by
  unfold noTouch at hn
  cases hj : ops[j]? with
  | none => simp [hj] at hn
  | some oj =>
    simp [hj] at hn
    obtain ⟨h1', h2'⟩ := hn
    have h1 : ∀ e, some d = some e → e ∉ oj.looksAt ops := fun e he => by injection he with he; subst he; exact h1'
    have h2 : ∀ e, oj.dst = some e → some d ≠ some e := fun e he hd => h2' (by rw [he, hd])
    have hsj : ∀ cs b, oj.op ≠ .select cs b := fun cs b => Region.noSelect_spec hs j oj cs b hj
    unfold wpOp at *
    simp only [hj] at *
    rw [wanted_put oj a (some d) v h1]
    split
    · rename_i hw
      simp only [hw, if_true] at h
      rcases h with h | ⟨hasks, hlets⟩
      case inr => exact .inr ⟨by unfold Oper.asks at *; rw [execOp_put oj hsj a (some d) v h1]; exact hasks, hlets⟩
      refine .inl ?_
      unfold Oper.wp at *
      rw [execOp_put oj hsj a (some d) v h1]
      generalize (execOp a.eval oj).run P w = r at *
      cases r with
      | ok n w' =>
        cases n <;> simp only [Oper.upon] at h ⊢
        case value u => rw [← Act.put_comm a u v h2]; exact h
        case skip => rw [← Act.put_comm a undef v h2]; exact h
        case defer dd =>
          rw [Act.put_defers, ← Act.put_comm _ undef v h2]
          exact h
        case enter f args =>
          refine Calls.mono h fun e w'' he => ?_
          cases e with
          | returned u => simp only [] at he ⊢; rw [← Act.put_comm a u v h2]; exact he
          | panicked c => exact hQ _ _ _ he
          | outgrown => exact he
        case row row args => exact Rows.mono h fun u w'' he => by rw [← Act.put_comm a u v h2]; exact he
      | halt x w' =>
        cases x <;> simp only [Oper.upon] at h ⊢
        case panic u => exact hQ _ _ _ h
        all_goals exact h
    · rename_i hw
      simp only [hw] at h
      rw [← Act.put_comm a undef v h2]; exact h

def ptr (b : Nat) : Value := .pointer (some ⟨b, 0, none⟩)

/-- A new variable that still holds its zero values. -/
structure Fresh (N : Nat) (vs : Array Value) (b : Nat) (w : World) : Prop where
  cell : ∀ o, w.cell? ⟨b, o, none⟩ = vs[o]?
  thawed : ∀ o, w.frozen? ⟨b, o, none⟩ = false
  size : b < w.heap.size
  base : N ≤ b
theorem Fresh.below {N b : Nat} {vs : Array Value} {w w' : World} (h : Fresh N vs b w) (hb : Below w.heap.size w w') : Fresh N vs b w' :=
  ⟨fun o => by rw [hb.cell (p := ⟨b, o, none⟩) h.size]; exact h.cell o, fun o => by rw [hb.frozen (p := ⟨b, o, none⟩) h.size]; exact h.thawed o, Nat.lt_of_lt_of_le h.size hb.size, h.base⟩
theorem Fresh.fr {N b : Nat} {vs : Array Value} {w w' : World} {l : List Nat} (h : Fresh N vs b w) (hf : Fr l w w') (hl : ∀ i ∈ l, i < N) : Fresh N vs b w' := by
  have hn : b ∉ l := fun hm => by have := hl _ hm; have := h.base; omega
  exact ⟨fun o => by rw [hf.cell (p := ⟨b, o, none⟩) h.size hn]; exact h.cell o, fun o => by rw [hf.frozen (p := ⟨b, o, none⟩) h.size hn]; exact h.thawed o, Nat.lt_of_lt_of_le h.size hf.size, h.base⟩
theorem Fresh.new {N : Nat} {vs : Array Value} {t : TypeId} {w : World} (h : N ≤ w.heap.size) : Fresh N vs w.heap.size (w.alloc (.cells vs t)) :=
  ⟨fun o => by rw [World.cell?_alloc_new], fun o => by simp [go_sem], by simp, h⟩

/-- Operation i makes a new variable, whatever the state and the world are. -/
def Makes (P : Program) (ops : Array Oper) (Q : Exit → Act → World → Prop) (i d : Nat) (vs : Array Value) (t : TypeId) : Prop :=
  ∀ (a : Act) (w : World) (K : Act → World → Prop), K (a.put (some d) (ptr w.heap.size)) (w.alloc (.cells vs t)) → wpOp P ops Q i K a w

theorem not_ready {L : Array Bool} {i : Nat} : i ∉ Region.ready md ops (L.setIfInBounds i true) := by
  intro h
  have h0 := (mem_ready.1 h).1
  rw [Array.getD_eq_getD_getElem?, Array.getElem?_setIfInBounds] at h0
  simp at h0
  split at h0 <;> simp_all

theorem alloc_stable {T : World → Prop} (h : Stable T) {w : World} (hT : T w) (o : Obj) : T (w.alloc o) := h _ _ hT (below1 _ _)

theorem yields_over {i d : Nat} {oi : Oper} {v p : Value} {a : Act} (hi : ops[i]? = some oi) (hs : Region.noSelect ops = true) (hn : noTouch ops i d = true) (h : YieldsIf P ops S oi v a) : YieldsIf P ops S oi v (a.put (some d) p) := by
  unfold noTouch at hn
  simp [hi] at hn
  have h1 : ∀ e, some d = some e → e ∉ oi.looksAt ops := fun e he => by injection he with he; subst he; exact hn.1
  exact h.of_same (execOp_put oi (fun cs b => Region.noSelect_spec hs i oi cs b hi) a (some d) p h1) (wanted_put oi a (some d) p h1)

theorem dst_ne {i d : Nat} {oi : Oper} (hi : ops[i]? = some oi) (hn : noTouch ops i d = true) : ∀ e, oi.dst = some e → some d ≠ some e := by
  unfold noTouch at hn
  simp [hi] at hn
  exact fun e he hd => hn.2 (by rw [he, hd])

/-- A walk that leaves the new variable out. -/
def WO (P : Program) (ops : Array Oper) (Q : Exit → Act → World → Prop) (md : Region.Mode) (S : World → Prop) (l : List Nat) (N i1 d1 : Nat) (v1 : Array Value) (f : Nat) : Nat → Array Bool → Act → (World → Prop) → Prop
  | 0, L, a, T => (!(Region.ready md ops L).isEmpty && (Region.ready md ops L).all (fun j => j == i1)) = true ∧
      ∀ w b1, S w → T w → Fresh N v1 b1 w → wpAnyH P md ops Q S f (L.setIfInBounds i1 true) (a.put (some d1) (ptr b1)) w
  | n + 1, L, a, T =>
    (∃ i oi v, ops[i]? = some oi ∧ [L, L.setIfInBounds i1 true].all (fun L' => Region.free md ops L' i && (Region.ready md ops L').contains i) = true ∧ noTouch ops i d1 = true ∧ i ≠ i1 ∧
      (∀ c a w, Q (.panic c) (a.put oi.dst v) w → Q (.panic c) a w) ∧ YieldsIf P ops S oi v a ∧ WO P ops Q md S l N i1 d1 v1 f n (L.setIfInBounds i true) (a.put oi.dst v) T) ∨
    (∃ c, [L, L.setIfInBounds i1 true].all (fun L' => !(Region.ready md ops L').isEmpty && (Region.ready md ops L').all (fun j => j == c || j == i1)) = true ∧ noTouch ops c d1 = true ∧ c ≠ i1 ∧
      ∀ w, S w → T w → wpOp P ops Q c (fun a' w' => Fr l w w' ∧ ∃ T', Stable T' ∧ T' w' ∧ WO P ops Q md S l N i1 d1 v1 f n (L.setIfInBounds c true) a' T') a w)

variable {N i1 d1 : Nat} {v1 : Array Value} {t1 : TypeId} {f : Nat}

theorem wo_any (hs : Region.noSelect ops = true) (hQ : ∀ c a d v w, Q (.panic c) a w → Q (.panic c) (a.put (some d) v) w) (hS : Stable S) (hSl : ∀ w w', S w → Fr l w w' → S w') (hlN : ∀ i ∈ l, i < N) (m1 : Makes P ops Q i1 d1 v1 t1) :
    ∀ (n : Nat) (L : Array Bool) (a : Act) (T : World → Prop), Stable T → WO P ops Q md S l N i1 d1 v1 f n L a T →
      (∀ w, S w → T w → N ≤ w.heap.size → wpAnyH P md ops Q S (f + n + 1) L a w) ∧
      (∀ w b1, S w → T w → N ≤ w.heap.size → Fresh N v1 b1 w → wpAnyH P md ops Q S (f + n) (L.setIfInBounds i1 true) (a.put (some d1) (ptr b1)) w) := by
  intro n
  induction n with
  | zero =>
    intro L a T hT h
    obtain ⟨hr, h1⟩ := h
    simp only [Bool.and_eq_true, List.all_eq_true, beq_iff_eq, Bool.not_eq_true', List.isEmpty_eq_false_iff] at hr
    obtain ⟨e0, r0⟩ := hr
    have g1 : ∀ w b1, S w → T w → N ≤ w.heap.size → Fresh N v1 b1 w → wpAnyH P md ops Q S (f + 0) (L.setIfInBounds i1 true) (a.put (some d1) (ptr b1)) w :=
      fun w b1 hSw hTw _ k1 => h1 w b1 hSw hTw k1
    refine ⟨?_, g1⟩
    intro w hSw hTw hN
    refine ⟨fun h => absurd h e0, fun j hj => ?_⟩
    have hji := r0 j hj
    subst hji
    exact m1 _ _ _ ⟨alloc_stable hS hSw _, g1 _ _ (alloc_stable hS hSw _) (alloc_stable hT hTw _) (by simp; omega) (Fresh.new hN)⟩
  | succ n ih =>
    intro L a T hT h
    rcases h with ⟨i, oi, v, ho, hr, nt1, hi1, hP, hy, hW⟩ | ⟨c, hr, nt1, hc1, hc⟩
    · obtain ⟨h0, h1⟩ := ih _ _ T hT hW
      simp only [List.all_cons, List.all_nil, Bool.and_true, Bool.and_eq_true] at hr
      obtain ⟨⟨f0, r0⟩, ⟨f1, r1⟩⟩ := hr
      refine ⟨?_, ?_⟩
      · intro w hSw hTw hN
        exact wpAnyH_take ho hs f0 r0 hP hy hSw (h0 w hSw hTw hN)
      · intro w b1 hSw hTw hN k1
        refine wpAnyH_take ho hs f1 r1 hP (yields_over ho hs nt1 hy) hSw ?_
        rw [← Act.put_comm a _ _ (dst_ne ho nt1), ← Array.setIfInBounds_comm _ _ hi1]
        exact h1 w b1 hSw hTw hN k1
    · simp only [List.all_cons, List.all_nil, Bool.and_true, Bool.and_eq_true, List.all_eq_true, Bool.or_eq_true, beq_iff_eq, Bool.not_eq_true', List.isEmpty_eq_false_iff] at hr
      obtain ⟨⟨e0, r0⟩, ⟨e1, r1⟩⟩ := hr
      have sz : ∀ {w w' : World}, N ≤ w.heap.size → Fr l w w' → N ≤ w'.heap.size := fun h k => Nat.le_trans h k.size
      have g1 : ∀ w b1, S w → T w → N ≤ w.heap.size → Fresh N v1 b1 w → wpAnyH P md ops Q S (f + (n + 1)) (L.setIfInBounds i1 true) (a.put (some d1) (ptr b1)) w := by
        intro w b1 hSw hTw hN k1
        refine ⟨fun h => absurd h e1, fun j hj => ?_⟩
        rcases r1 j hj with rfl | rfl
        · refine wpOp_over nt1 hs (fun c a w h => hQ c a _ _ w h) (wpOp_mono (fun a' w' hh => ?_) (hc w hSw hTw))
          obtain ⟨hB, T', hT', hTw', hW⟩ := hh
          refine ⟨hSl _ _ hSw hB, ?_⟩
          rw [← Array.setIfInBounds_comm _ _ hc1]
          exact (ih _ _ T' hT' hW).2 w' b1 (hSl _ _ hSw hB) hTw' (sz hN hB) (k1.fr hB hlN)
        · exact absurd hj not_ready
      refine ⟨?_, g1⟩
      intro w hSw hTw hN
      refine ⟨fun h => absurd h e0, fun j hj => ?_⟩
      rcases r0 j hj with rfl | rfl
      · refine wpOp_mono (fun a' w' hh => ?_) (hc w hSw hTw)
        obtain ⟨hB, T', hT', hTw', hW⟩ := hh
        exact ⟨hSl _ _ hSw hB, (ih _ _ T' hT' hW).1 w' (hSl _ _ hSw hB) hTw' (sz hN hB)⟩
      · exact m1 _ _ _ ⟨alloc_stable hS hSw _, g1 _ _ (alloc_stable hS hSw _) (alloc_stable hT hTw _) (by simp; omega) (Fresh.new hN)⟩

theorem wo_start {m n : Nat} {L : Array Bool} {a : Act} {T : World → Prop} {w : World} (hm : m = f + n + 1) (hs : Region.noSelect ops = true) (hQ : ∀ c a d v w, Q (.panic c) a w → Q (.panic c) (a.put (some d) v) w) (hS : Stable S) (hSl : ∀ w w', S w → Fr l w w' → S w') (hlN : ∀ i ∈ l, i < N)
    (m1 : Makes P ops Q i1 d1 v1 t1) (hT : Stable T) (hSw : S w) (hTw : T w) (hN : N ≤ w.heap.size) (h : WO P ops Q md S l N i1 d1 v1 f n L a T) : wpAnyH P md ops Q S m L a w := by
  subst hm
  exact (wo_any hs hQ hS hSl hlN m1 n L a T hT h).1 w hSw hTw hN
theorem wo_take {i : Nat} {oi : Oper} {v : Value} {n : Nat} {L : Array Bool} {a : Act} {T : World → Prop} (ho : ops[i]? = some oi)
    (hr : [L, L.setIfInBounds i1 true].all (fun L' => Region.free md ops L' i && (Region.ready md ops L').contains i) = true) (ht : (noTouch ops i d1 && i != i1) = true)
    (hQ : ∀ c a w, Q (.panic c) (a.put oi.dst v) w → Q (.panic c) a w) (hy : YieldsIf P ops S oi v a) (h : WO P ops Q md S l N i1 d1 v1 f n (L.setIfInBounds i true) (a.put oi.dst v) T) :
    WO P ops Q md S l N i1 d1 v1 f (n + 1) L a T := by
  simp at ht
  exact Or.inl ⟨i, oi, v, ho, hr, ht.1, ht.2, hQ, hy, h⟩
theorem woA (i d : Nat) {v : Value} {op : Op} {ty : TypeId} {pos : String} {af : Array Edge} {g : Option (Nat × Bool)} {n : Nat} {L : Array Bool} {a a' : Act} {T : World → Prop}
    (h : WO P ops Q md S l N i1 d1 v1 f n (L.setIfInBounds i true) a' T)
    (ho : ops[i]? = some ⟨some d, op, ty, pos, af, g⟩ := by rfl)
    (hr : [L, L.setIfInBounds i1 true].all (fun L' => Region.free md ops L' i && (Region.ready md ops L').contains i) = true := by kernel_rfl) (ht : (noTouch ops i d1 && i != i1) = true := by kernel_rfl)
    (hQ : ∀ c a w, Q (.panic c) (a.put (some d) v) w → Q (.panic c) a w := by exact fun _ _ _ h => h)
    (hy : YieldsIf P ops S ⟨some d, op, ty, pos, af, g⟩ v a := by exact Or.inl ⟨by rfl, fun w hSw => by (try dsimp only at hSw); go_simp; with_reducible rfl⟩)
    (ha : a.put (some d) v = a' := by ((try simp only [Act.put, List.setIfInBounds_toArray, List.set_cons_zero, List.set_cons_succ]); rfl)) :
    WO P ops Q md S l N i1 d1 v1 f (n + 1) L a T := by
  subst ha
  exact wo_take ho hr ht hQ hy h
theorem wo_call {c : Nat} {o : Oper} {n : Nat} {L : Array Bool} {a : Act} {T : World → Prop} (ho : ops[c]? = some o)
    (hr : [L, L.setIfInBounds i1 true].all (fun L' => !(Region.ready md ops L').isEmpty && (Region.ready md ops L').all (fun j => j == c || j == i1)) = true) (ht : (noTouch ops c d1 && c != i1) = true)
    (h : ∀ w, S w → T w → ∀ K' : Act → World → Prop, Shut (∀ a' w' T', Fr l w w' → Stable T' → T' w' → WO P ops Q md S l N i1 d1 v1 f n (L.setIfInBounds c true) a' T' → K' a' w') → if Region.wanted o (yielded ops a.tmps) = true then Oper.wp P o a w K' Q else K' (a.put o.dst undef) w) :
    WO P ops Q md S l N i1 d1 v1 f (n + 1) L a T := by
  simp at ht
  refine Or.inr ⟨c, hr, ht.1, ht.2, fun w hSw hTw => ?_⟩
  exact wpOp_step ho (fun K' hK => h w hSw hTw K' (fun a' w' T' hB hT' hTw' hW => hK a' w' ⟨hB, T', hT', hTw', hW⟩))
theorem wo_fin {L : Array Bool} {a : Act} {T : World → Prop} (hr : (!(Region.ready md ops L).isEmpty && (Region.ready md ops L).all (fun j => j == i1)) = true)
    (h : ∀ w b1, S w → T w → Fresh N v1 b1 w → wpAnyH P md ops Q S f (L.setIfInBounds i1 true) (a.put (some d1) (ptr b1)) w) :
    WO P ops Q md S l N i1 d1 v1 f 0 L a T := ⟨hr, h⟩

theorem lstM (n m : Nat) {fuel : Nat} {listed : Array Bool} {a : Act} {w : World} (h : listed = lst n m) (k : wpAnyH P md ops Q S fuel (lst n m) a w) : wpAnyH P md ops Q S fuel listed a w := h ▸ k
end
end Go.Proofs.YtjoonmpjcophnaaGreatDoor
namespace Go.Proofs.YtjoonmpjcophnaaGreatDoor
open Go.RowKit

/-- So many locals of a type. -/
def eGq : El (Int × Int) where
  k := 2
  kpos := by decide
  rep _ _ x cs := cs = [.int .u32 x.1, .int .u8 x.2] ∧ 0 ≤ x.1 ∧ x.1 < 4294967296
  len := by rintro _ _ _ _ ⟨rfl, _⟩; rfl
  one := by
    rintro _ _ x _ ⟨rfl, _⟩ u hu
    simp only [List.mem_cons, List.not_mem_nil, or_false] at hu
    rcases hu with rfl | rfl <;> rfl
  all := by rintro _ _ _ _ _ h _; exact h
  mono := by rintro _ _ _ _ _ _ h; exact h
section
variable {c : Nat} {a : Option Addr} {len cap k : Nat} {xs : List Int} {e : Int} {W : World} {sat : Bool} {q : Nat}
set_option maxHeartbeats 4000000 in
set_option maxRecDepth 100000 in
theorem clos37_any (h : Cs c a len cap xs k e W) (hm : Mk W) (hc : 4 ≤ c) (hB : Tab W q [.pointer (some ⟨c, 0, none⟩)]) (hql : q < W.heap.size) (hqc : q ≠ c) :
    Calls Tryz.prog 37 #[.pointer (some ⟨q, 0, none⟩)] W fun r W' => ∃ y cs k' e', r = .returned (.agg cs.toArray) ∧ Rd rPair xs k e y k' e' ∧ eGq.rep' W' (fun b => W.heap.size ≤ b) 0 y cs ∧ Cs c a len cap xs k' e' W' ∧ Mk W' ∧ Tab W' q [.pointer (some ⟨c, 0, none⟩)] ∧ Fr [c] W W' := by
  have hcl := h.1.lt
  have HAl : ∀ p, a = some p → 0 < len → p.block < W.heap.size := h.2.1.lt
  have hb := below1 W (.cells #[.int .u32 0, .int .u8 0] 132)
  have HR : Hid (Room W.heap.size 2 (W.alloc (.cells #[.int .u32 0, .int .u8 0] 132)).drew) := hide ((room_cells (cs := [.int .u32 0, .int .u8 0]) W 2 (by decide)).drew)
  have H := hide ((h.bel hb).drew)
  have HM := hide ((hm.below hb).below ((Below.refl _ _).drew))
  have HF := hide ((Fr.of hb [c]).drew)
  have HB := hide ((hB.below hb).below ((Below.refl _ _).drew))
  have hs0 : W.heap.size < (W.alloc (.cells #[.int .u32 0, .int .u8 0] 132)).drew.heap.size := by simp [go_sem]
  clear h hm hB hb
  go_enter Tryz.func37, Tryz.ntmps37
  go_wp2_with fail
  refine wp_region_held_drew (S := fun w' => w'.cell? ⟨q, 0, none⟩ = some (.pointer (some ⟨c, 0, none⟩)) ∧ Room W.heap.size 2 w') (by kernel_rfl) ?_ (fun hHeld => ?_)
  · (try dsimp only)
    exact ⟨(unhide HB) 0 _ rfl, unhide HR⟩
  refine lst0 6 (by kernel_rfl) ?_
  refine tkA 0 2 1 ?_
  refine tkA 2 4 5 ?_
  refine rdA 1 7 (fun Kk hKk => ?_)
  go_simp
  refine (p_u32 (unhide H)).mono ?_
  rintro _ w1 ⟨y1, k1, e1, rfl, hD, hlt1, hC, hF⟩
  have HD1 := hide hD
  have HB := hide ((unhide HB).fr hF (by simp; omega))
  have HR := hide ((unhide HR).fr hF (by simp; omega))
  have H := hide hC
  have HM := hide ((unhide HM).fr hF (by simp; omega))
  have hs1 := hF.size
  have HF := hide ((unhide HF).trans hF)
  clear hC hD hF
  (try go_wp2_with fail)
  refine hKk.out _ _ ?_ (fun hHeld => ?_)
  · (try dsimp only)
    exact ⟨(unhide HB) 0 _ rfl, unhide HR⟩
  clear hKk Kk
  (try simp only [List.setIfInBounds_toArray, List.set_cons_zero, List.set_cons_succ])
  refine rdA 3 15 (fun Kk hKk => ?_)
  go_simp
  refine (p_value (unhide H)).mono ?_
  rintro _ w2 ⟨y2, k2, e2, rfl, hD, hC, hF⟩
  have HD2 := hide hD
  have HB := hide ((unhide HB).fr hF (by simp; omega))
  have HR := hide ((unhide HR).fr hF (by simp; omega))
  have H := hide hC
  have HM := hide ((unhide HM).fr hF (by simp; omega))
  have hs2 := hF.size
  have HF := hide ((unhide HF).trans hF)
  clear hC hD hF
  (try go_wp2_with fail)
  refine hKk.out _ _ ?_ (fun hHeld => ?_)
  · (try dsimp only)
    exact ⟨(unhide HB) 0 _ rfl, unhide HR⟩
  clear hKk Kk
  (try simp only [List.setIfInBounds_toArray, List.set_cons_zero, List.set_cons_succ])
  refine tkA 4 6 31 ?_
  refine rdA 5 63 (fun Kk hKk => ?_)
  obtain ⟨⟨u0, r0⟩, g0⟩ := unhide HR 0 (by decide)
  obtain ⟨⟨u1, r1⟩, g1⟩ := unhide HR 1 (by decide)
  have fZ : Fr [W.heap.size] w2 ((w2.setCell ⟨W.heap.size, 0, none⟩ (.int .u32 y1)).setCell ⟨W.heap.size, 1, none⟩ (.int .u8 y2)) := ((Fr.refl _ _).place 0 _).place 1 _
  go_simp
  refine hKk.out _ _ ?_ (fun hHeld => ?_)
  · (try dsimp only)
    exact ⟨((unhide HB).fr fZ (by simp; omega)) 0 _ rfl, ((unhide HR).set 0 _).set 1 _⟩
  clear hKk Kk
  (try simp only [List.setIfInBounds_toArray, List.set_cons_zero, List.set_cons_succ])
  refine wpAnyH_done (by kernel_rfl) ?_ _
  have HV : Hid (Vr W.heap.size 2 [.int .u32 y1, .int .u8 y2] _) := hide (vr_fill2 w2 (unhide HR) (by omega))
  have j0 := (unhide HV).tab 0 _ rfl
  have j1 := (unhide HV).tab 1 _ rfl
  clear r0 g0
  clear r1 g1
  have hsz := (show Fr [W.heap.size] w2 ((w2.setCell ⟨W.heap.size, 0, none⟩ (.int .u32 y1)).setCell ⟨W.heap.size, 1, none⟩ (.int .u8 y2)) from fZ).size
  generalize ((w2.setCell ⟨W.heap.size, 0, none⟩ (.int .u32 y1)).setCell ⟨W.heap.size, 1, none⟩ (.int .u8 y2)) = wz at *
  go_wp2_with fail
  refine bodyPost_ret (v := .agg #[.int .u32 y1, .int .u8 y2]) (by simp [results, Tryz.results37, go_sem, j0, j1]) rfl ?_
  refine ⟨(y1, y2), [.int .u32 y1, .int .u8 y2], _, _, rfl, (unhide HD1).bd ((unhide HD2).bd (Rd.giv _ _ _ _)), ⟨rfl, by simp [Value.oneCell'], fun _ => ?_⟩, (unhide H).fr fZ (by simp; omega) (fun p hp hl => by have := HAl p hp hl; simp; omega), (unhide HM).fr fZ (by simp; omega), (unhide HB).fr fZ (by simp; omega), (unhide HF).thenL fZ (by simp)⟩
  exact ⟨rfl, hlt1⟩
end
end Go.Proofs.YtjoonmpjcophnaaGreatDoor
namespace Go.Proofs.YtjoonmpjcophnaaGreatDoor
open Go.RowKit

theorem szP103 : (Tryz.prog.info? 103).map (·.size) = some 9 := by kernel_rfl
theorem mkP103 (m : Nat) (hm : m ≤ 4096) : ∃ Z : Array Value, ∀ w, (Instr.makeSlice 25 (.int .i64 (m : Int)) (.int .i64 (m : Int))).run Tryz.prog w = .ok (.slice (some ⟨w.heap.size, 0, none⟩) m m) (w.alloc (.cells (madeCells Z (m * 9)) 103)) :=
  ⟨_, fun w => make_runK 25 103 9 Tryz.underlying25 (i := (Tryz.prog.info? 103).getD default) (z := (((Tryz.prog.info? 103).getD default).zero).getD default) (by kernel_rfl) (by kernel_rfl) (by kernel_rfl) (by kernel_rfl) m hm w⟩
section
variable {c : Nat} {a : Option Addr} {len cap k : Nat} {xs : List Int} {e : Int} {W : World} {sat : Bool} {q : Nat}
set_option maxHeartbeats 4000000 in
set_option maxRecDepth 100000 in
theorem list108_any {J : World → Prop} (h : Cs c a len cap xs k e W) (hJ : J W) (HJ : ∀ w w' l, J w → Fr l w w' → (∀ i ∈ l, i = c ∨ W.heap.size ≤ i) → J w')
    (HO : ∀ k e w, W.heap.size ≤ w.heap.size → Cs c a len cap xs k e w → J w → Calls Tryz.prog 109 #[.pointer (some ⟨q, 0, none⟩)] w fun r w' => ∃ y cs k' e', r = .returned (.agg cs.toArray) ∧ Rd rImp xs k e y k' e' ∧ eIm.rep' w' (fun b => w.heap.size ≤ b) e' y cs ∧ Cs c a len cap xs k' e' w' ∧ J w' ∧ Fr [c] w w') :
    Calls Tryz.prog 108 #[.pointer (some ⟨c, 0, none⟩), .func (.func 109) #[] #[.pointer (some ⟨q, 0, none⟩)]] W fun r W' => ∃ L g k' e', r = .returned (.slice (some ⟨g, 0, none⟩) L.length L.length) ∧ Rd (rList rImp) xs k e L k' e' ∧ (e' = 0 → Sls eIm W' (fun b => W.heap.size ≤ b) L (.slice (some ⟨g, 0, none⟩) L.length L.length)) ∧ Cs c a len cap xs k' e' W' ∧ J W' ∧ Fr [c] W W' := by
  have HX := hide (p_count h)
  have hcl := h.1.lt
  have HAl : Hid (∀ p, a = some p → 0 < len → p.block < W.heap.size) := hide h.2.1.lt
  have HJ0 := hide hJ
  have HJs := hide HJ
  have HOs := hide HO
  clear h hJ HJ HO
  go_enter Tryz.func108, Tryz.ntmps108
  go_wp2_with fail
  refine (unhide HX).mono ?_
  rintro _ w1 ⟨m, k1, e1, rfl, hD, hm, hC, hF⟩
  have HD := hide hD
  have HC := hide hC
  have HF := hide hF
  have hsz := hF.size
  have HJ1 := hide ((unhide HJs) _ _ _ (unhide HJ0) hF (by simp))
  clear hD hC hF HX HJ0
  obtain ⟨Z, hmk⟩ := mkP103 m hm
  go_wp2_with fail
  clear hmk
  have hb := below1 w1 (.cells (madeCells Z (m * 9)) 103)
  have HM := hide (Prw.made (E := eIm) w1 m W.heap.size Z 103 e1 hsz)
  change Hid (Prw eIm w1.heap.size m W.heap.size [] e1 (w1.alloc (.cells (madeCells Z (m * 9)) 103))) at HM
  have HC := hide ((unhide HC).bel hb)
  have HF := hide ((unhide HF).bel hb)
  have HJ1 := hide ((unhide HJs) _ _ _ (unhide HJ1) (Fr.of hb []) (by simp))
  have hsz2 : (w1.alloc (.cells (madeCells Z (m * 9)) 103)).heap.size = w1.heap.size + 1 := by simp
  clear hb
  generalize w1.alloc (.cells (madeCells Z (m * 9)) 103) = w2 at *
  go_loopw [12] (fun v12 wr => ∃ (L : List _) (k2 : Nat) (e2 : Int), L.length ≤ m ∧ v12 = .int .i64 (L.length : Int) ∧ Prw eIm w1.heap.size m W.heap.size L e2 wr ∧ Cs c a len cap xs k2 e2 wr ∧ J wr ∧ Fr [c] W wr ∧ w1.heap.size < wr.heap.size ∧ (∀ s k' e', Rd (repR rImp (m - L.length)) xs k2 e2 s k' e' → Rd (rList rImp) xs k e (id (L ++ s)) k' e')) (fun v12 _ => m - (intOf v12).toNat)
  case atStart =>
    refine ⟨[], k1, e1, Nat.zero_le _, rfl, unhide HM, unhide HC, unhide HJ1, unhide HF, by omega, fun s k' e' hs => (unhide HD).bd ?_⟩
    rw [show ((m : Int)).toNat = m by omega]
    exact hs
  case round =>
    obtain ⟨L, k2, e2, hi, rfl, hP, hC, hJ, hF, hlg, hK⟩ := hrel
    clear HM HC HJ1 HF HD
    by_cases hlt : L.length < m
    · have hi' : (L.length : Int) < (m : Int) := by omega
      have HX := hide (unhide HOs k2 e2 _ hF.size hC hJ)
      have HP := hide hP
      have HF := hide hF
      have HK := hide hK
      clear hP hC hJ hF hK
      go_wp2_with fail
      refine (unhide HX).mono ?_
      rintro _ w3 ⟨y, cs, k3, e3, rfl, hD, hy, hC, hJ, hF2⟩
      have hsz3 := hF2.size
      have hsW := (unhide HF).size
      have h0 := hD.zero
      have HP2 := hide ((unhide HP).fr hF2 (by simp; omega) (by simp; omega) h0)
      have HF3 := hide ((unhide HF).trans hF2)
      have HKn := hide (Rd.more2 id (n := m - (L.length + 1)) (by rw [show m - (L.length + 1) + 1 = m - L.length by omega]; exact unhide HK) hD)
      have hcl2 : cs.length = 9 := hy.len
      have hone := hy.one
      have HY := hide hy
      have HC2 := hide hC
      have HJ2 := hide hJ
      clear hD hy hC hJ hF2 HX HP HF HK
      go_wp2_with ((refine wpList_storeA rfl 103 (.tmp 19) (.tmp 18) rfl rfl (g := w1.heap.size) (off := L.length * 9) (cs := cs) rfl rfl (by rw [hcl2]; exact szP103) (fun j hj => (unhide HP2).spare hlt (show j < 9 by omega)) hone ?_))
      have hFg := fr_cells w1.heap.size cs (L.length * 9) w3
      have hl1 : (L ++ [y]).length = L.length + 1 := by simp
      refine ⟨⟨L ++ [y], k3, e3, by omega, by rw [hl1]; go_num, (unhide HP2).put hlt hcl2 (fun q => q) (fun q => (unhide HY).rep q (fun b _ hb => ⟨by omega, by omega⟩)), (unhide HC2).fr hFg (by simp; omega) (fun p hp hl => by have := unhide HAl p hp hl; simp; omega), unhide HJs _ _ _ (unhide HJ2) hFg (by simp; omega), (unhide HF3).thenL hFg (by simp; omega), by have := hFg.size; omega, by rw [hl1]; exact unhide HKn⟩, by simp [intOf]; omega⟩
    · obtain rfl : m = L.length := by omega
      have HP := hide hP
      have HC := hide hC
      have HJ2 := hide hJ
      have HF := hide hF
      have HK := hide (Rd.fin id hK (.inl (by omega)))
      clear hP hC hF hJ hK
      go_wp2_with fail
      go_ret
      exact ⟨L, w1.heap.size, k2, e2, rfl, unhide HK, fun q => by subst q; exact (unhide HP).sls, unhide HC, unhide HJ2, unhide HF⟩
end
end Go.Proofs.YtjoonmpjcophnaaGreatDoor

/- MdP, PhA, PhB. -/
import Derived.Test.YtjoonmpjcophnaaGreatDoorUa38
import Derived.Test.YtjoonmpjcophnaaGreatDoorUa41
import Derived.Test.YtjoonmpjcophnaaGreatDoorUa44
import Derived.Test.YtjoonmpjcophnaaGreatDoorUa45
namespace Go.Proofs.YtjoonmpjcophnaaGreatDoor
open Go.RowKit

theorem zeroDa : ((Tryz.prog.info? 93).getD default).zero = some (.agg #[.int .u32 0, .slice none 0 0, .slice none 0 0]) := by kernel_rfl
theorem iDa : Tryz.prog.info? 93 = some ((Tryz.prog.info? 93).getD default) := by kernel_rfl
theorem bytesDa : ((Tryz.prog.info? 93).getD default).bytes = 56 := by kernel_rfl
theorem sizeDa : ((Tryz.prog.info? 93).getD default).size = 3 := by kernel_rfl
section
variable {c sb : Nat} {a : Option Addr} {len cap k : Nat} {xs : List Int} {e : Int} {W : World} {sat : Bool}
end
end Go.Proofs.YtjoonmpjcophnaaGreatDoor
namespace Go.Proofs.YtjoonmpjcophnaaGreatDoor
open Go.RowKit

theorem take_nx {α : Type} {L : List α} {i : Nat} {x : α} (h : L[i]? = some x) : L.take (i + 1) = L.take i ++ [x] := by
  rw [List.take_add_one, h]; rfl
theorem lt_of_at {α : Type} {L : List α} {i : Nat} {x : α} (h : L[i]? = some x) : i < L.length := (List.getElem?_eq_some_iff.1 h).1
/-- One more of a row that is copied. -/
theorem Rye.nx {α : Type} {E : El α} {Q : Nat → Prop} {t ty : TypeId} {f : TypeInfo} {z : Value} {bytes : Nat} (ht : Tryz.prog.underlying t = some (.slice ty)) (hi : Tryz.prog.info? ty = some f) (hz : f.zero = some z)
    (hsize : f.size = E.k) (hby : f.bytes = bytes) (hb1 : bytes ≤ 1000) (hzs : z.cells.size = E.k) {B i : Nat} {v : Value} {L : List α} {cs : List Value} {w w1 : World} (h : Rye E Q ty B v (L.take i) cs 0 w) (hf : Fr [] w w1)
    (hB : B ≤ w.heap.size) (hn : L.length ≤ 10000000000) {x : α} (hx : L[i]? = some x) {c : List Value} {o : Addr}
    (hrep : E.rep w1 (fun b => Q b ∧ b < B ∨ B ≤ b ∧ v.ownBlock ≠ some b) x c) (hcell : ∀ j u, c[j]? = some u → w1.cell? (o.add j) = some u) :
    ∃ p s w3, (Builtin.append_ #[t, t] t #[v, .slice (some o) 1 1]).run Tryz.prog w1 = .ok (.slice p (i + 1) s) w3 ∧ Rye E Q ty B (.slice p (i + 1) s) (L.take (i + 1)) (cs ++ c) 0 w3 ∧ Fr v.ownBlock.toList w1 w3 ∧
      (∀ g, (Value.slice p (i + 1) s).ownBlock = some g → v.ownBlock = some g ∨ w1.heap.size ≤ g) := by
  have hl : (L.take i).length = i := by rw [List.length_take]; have := lt_of_at hx; omega
  obtain ⟨p, s, w3, h1, h2, h3, h4⟩ := h.app2 (e2 := 0) ht hi hz hsize hby hb1 hzs hf hB (by rw [List.length_take]; omega) (E.len hrep) (E.one hrep) (fun q => q) (fun _ => hrep) hcell
  rw [hl] at h1 h2 h4
  rw [← take_nx hx] at h2
  exact ⟨p, s, w3, h1, h2, h3, h4⟩
theorem Rye.slice_i {α : Type} {E : El α} {Q : Nat → Prop} {t : TypeId} {B i : Nat} {v : Value} {L : List α} {cs : List Value} {e : Int} {w : World} (h : Rye E Q t B v (L.take i) cs e w) (hi : i ≤ L.length) : ∃ p s, v = .slice p i s := by
  obtain ⟨p, s, rfl⟩ := h.slice
  exact ⟨p, s, by rw [List.length_take, Nat.min_eq_left hi]⟩
set_option maxHeartbeats 4000000 in
set_option maxRecDepth 100000 in
theorem plimits_any {L : List Lm} {P : Nat → Prop} {v : Value} {W : World} (hx : L.length ≤ 4000000) (h : Sls eLim W P L v) : Calls Tryz.prog 33 #[v] W fun r W' => ∃ u, r = .returned u ∧ Sls eLim W' (fun b => W.heap.size ≤ b) L u ∧ Fr [] W W' := by
  obtain ⟨a1, c1, rfl, -, h1⟩ := h.open
  have H1 := hide h1
  clear h h1
  go_enter Tryz.func33, Tryz.ntmps33
  go_wp2_with fail
  go_loopw [8, 3] (fun v8 v3 wr => ∃ (i : Nat) (cs : List Value), i ≤ L.length ∧ v8 = .int .i64 (i : Int) ∧ Rye eLim (fun _ => False) 104 W.heap.size v3 (L.take i) cs 0 wr ∧ Fr [] W wr) (fun v8 _ _ => L.length - (intOf v8).toNat)
  case atStart => exact ⟨0, [], by omega, rfl, rye_nil _ _ _ _ _ _, Fr.refl _ _⟩
  case round =>
    obtain ⟨i, cs, hi, rfl, hR, hF⟩ := hrel
    obtain ⟨p3, s3, rfl⟩ := hR.slice_i hi
    by_cases hlt : i < L.length
    · have hi' : (i : Int) < (L.length : Int) := by omega
      have hi2 : (0 : Int) ≤ (i : Int) := by omega
      rcases unhide H1 with h0 | ⟨b1, o1, rfl, -, k1⟩
      · omega
      have hat := List.getElem?_eq_getElem hlt
      obtain ⟨_, rfl, k1⟩ := k1 i L[i] hat
      generalize L[i] = x at *
      have g10 := hF.keep (k1 0 (by decide)) (by simp)
      have g11 := hF.keep (k1 1 (by decide)) (by simp)
      have g12 := hF.keep (k1 2 (by decide)) (by simp)
      change wr.cell? ⟨b1, o1 + i * 3, none⟩ = some (.int .u32 x.1) at g10
      change wr.cell? ⟨b1, o1 + i * 3 + 1, none⟩ = some (.int .u32 x.2.1) at g11
      change wr.cell? ⟨b1, o1 + i * 3 + 2, none⟩ = some (.bool x.2.2) at g12
      have hz := hF.size
      have hs : (wr.alloc (.cells #[.int .u32 x.1, .int .u32 x.2.1, .bool x.2.2] 99)).heap.size = wr.heap.size + 1 := by simp
      have hf1 : Fr [] wr ((wr.alloc (.cells #[.int .u32 x.1, .int .u32 x.2.1, .bool x.2.2] 99)).alloc (.cells #[.int .u32 x.1, .int .u32 x.2.1, .bool x.2.2] 104)) := ((Fr.refl [] wr).alloc _).alloc _
      obtain ⟨p, s, w4, hrun, hR4, hfr4, -⟩ := hR.nx (x := x) (c := [.int .u32 x.1, .int .u32 x.2.1, .bool x.2.2]) (o := ⟨wr.heap.size + 1, 0, none⟩) Tryz.underlying41 iLim zeroLim sizeLim bytesLim (by decide) rfl hf1 hz (by omega) hat rfl (fun j u hj => by rw [← hs, add_off, Nat.zero_add, World.cell?_alloc_new]; simpa using hj)
      have HRun := hide hrun
      have HR4 := hide hR4
      have HF4 := hide ((hF.trans hf1).thenL hfr4 (fun b hb => .inr (hR.own.lt b (by simpa using hb)).1))
      clear hrun hR4 hfr4 hf1 hs k1 hR hF
      go_wp2_with (at_builtin; refine wpList_appT (w := (wr.alloc (.cells #[.int .u32 x.1, .int .u32 x.2.1, .bool x.2.2] 99)).alloc (.cells #[.int .u32 x.1, .int .u32 x.2.1, .bool x.2.2] 104)) (t := 41) (by rfl) rfl rfl (unhide HRun) ?_)
      exact ⟨⟨i + 1, _, by omega, by go_num, unhide HR4, unhide HF4⟩, by simp [intOf]; omega⟩
    · obtain rfl : i = L.length := by omega
      rw [List.take_length] at hR
      have HR := hide hR
      have HF := hide hF
      clear hF hR
      go_wp2_with fail
      go_ret
      exact ⟨_, rfl, ((unhide HR).sls rfl).mono (fun b _ q => q.elim (fun q => q.1.elim) id), unhide HF⟩
end Go.Proofs.YtjoonmpjcophnaaGreatDoor
namespace Go.Proofs.YtjoonmpjcophnaaGreatDoor
open Go.RowKit

/-- What the copy may lead to: what came in, and what is new; not the copy itself. -/
def Pq (P : Nat → Prop) (W : World) (tb : Nat) : Nat → Prop := fun b => (P b ∧ b < W.heap.size ∨ W.heap.size + 2 ≤ b) ∧ b ≠ tb
structure Pz (W : World) (P : Nat → Prop) (tb : Nat) (vs : List Value) (mm : Mo) (u0 u1 u2 u3 u4 u5 u6 u9 u10 : Value) (w : World) : Prop where
  vr : Vr tb 11 [u0, u1, u2, u3, u4, u5, u6, .bool mm.starts, .int .u32 mm.start, u9, u10] w
  old : Vr W.heap.size 11 vs w
  res : Vr (W.heap.size + 1) 11 nil11 w
  lo : W.heap.size + 2 ≤ tb
  fr : Fr [] W w
  a : Sls eTy w (Pq P W tb) mm.types u0
  b : Sls eIm w (Pq P W tb) mm.imps u1
  c : Sls eFn w (Pq P W tb) mm.funcs u2
  d : Sls eLim w (Pq P W tb) mm.tabs u3
  e : Sls eLim w (Pq P W tb) mm.mems u4
  f : Sls eCe w (Pq P W tb) mm.globs u5
  g : Sls eEx w (Pq P W tb) mm.exps u6
  i : Sls eEm w (Pq P W tb) mm.elems u9
  j : Sls eDa w (Pq P W tb) mm.datas u10
section
variable {W : World} {P : Nat → Prop} {tb : Nat} {vs : List Value} {mm : Mo} {u0 u1 u2 u3 u4 u5 u6 u9 u10 : Value} {w w' : World}
theorem Pz.sls {α : Type} {E : El α} {L : List α} {v : Value} (h : Sls E w (Pq P W tb) L v) (hf : Fr [tb] w w') : Sls E w' (Pq P W tb) L v := h.fr hf (by simp [Pq])
theorem Pz.new {α : Type} {E : El α} {t : TypeId} {B : Nat} {L : List α} {v : Value} {cs : List Value} (h : Rye E (fun b => P b ∧ b < W.heap.size) t B v L cs 0 w) (hB : tb < B) (lo : W.heap.size + 2 ≤ tb) : Sls E w (Pq P W tb) L v :=
  (h.sls rfl).mono (fun b _ q => by
    rcases q with ⟨q, _⟩ | q
    · exact ⟨.inl q, by have := q.2; omega⟩
    · exact ⟨.inr (by omega), by omega⟩)
theorem Pz.up (h : Pz W P tb vs mm u0 u1 u2 u3 u4 u5 u6 u9 u10 w) (hf : Fr [tb] w w') : Fr [] W w' := h.fr.thenL hf (by simp; have := h.lo; omega)
theorem Pz.fin {α : Type} {E : El α} {L : List α} {v : Value} (h : Sls E w (Pq P W tb) L v) (hf : Fr [W.heap.size + 1] w w') : Sls E w' (fun b => P b ∧ b < W.heap.size ∨ W.heap.size ≤ b) L v :=
  (h.fr hf (by simp [Pq]; omega)).mono (fun b _ q => q.1.elim .inl (fun q => .inr (by omega)))
theorem els_lim {P P' : Nat → Prop} : ∀ {L : List Lm} {cs : List Value}, Els eLim w P L cs → Els eLim w P' L cs
  | [], _, h => h
  | _ :: _, _, ⟨c, r, hc, hx, hr⟩ => ⟨c, r, hc, hx, els_lim hr⟩
/-- Limits lie in no block that was just made for a module. -/
theorem lim_off {P : Nat → Prop} {L : List Lm} {v : Value} {n b1 : Nat} (h : Sls eLim w P L v) (hf : Fresh n nil11.toArray b1 w) : Sls eLim w (fun b => P b ∧ b ≠ b1) L v := by
  obtain ⟨cs, h1, a, cap, h2, h3, h4, h5⟩ := h
  refine ⟨cs, els_lim h1, a, cap, h2, h3, h4, ?_⟩
  rcases h5 with h5 | ⟨b, off, h6, h7, h8⟩
  · exact .inl h5
  · refine .inr ⟨b, off, h6, fun hp => ⟨h7 hp, fun hb => ?_⟩, h8⟩
    subst hb
    cases L with
    | nil => simp at hp
    | cons x L =>
      obtain ⟨c, r, hc, hx, hr⟩ := h1
      obtain rfl : c = lmCells x := hx
      have e0 := h8 0 (.int .u32 x.1) (by rw [hc]; rfl)
      have e1 := h8 1 (.int .u32 x.2.1) (by rw [hc]; rfl)
      rw [hf.cell] at e0 e1
      match off with
      | 0 | 1 | 2 | 3 | 4 | 5 | 6 | 7 | 8 | 9 | 10 => simp [nil11] at e0 e1
      | n + 11 => simp [nil11] at e0
theorem Pz.put0 {v : Value} {cs : List Value} {Bz : Nat} (h : Pz W P tb vs mm u0 u1 u2 u3 u4 u5 u6 u9 u10 w) (m : Mo) (hf : Fr [tb] w w') (hv : Vr tb 11 [v, u1, u2, u3, u4, u5, u6, .bool mm.starts, .int .u32 mm.start, u9, u10] w') (hr : Rye eTy (fun b => P b ∧ b < W.heap.size) 97 Bz v m.types cs 0 w') (hB : Bz = w.heap.size) {mm' : Mo} (hm : mm' = { mm with types := m.types }) : Pz W P tb vs mm' v u1 u2 u3 u4 u5 u6 u9 u10 w' := hm ▸
  ⟨hv, h.old.fr hf (by simp; have := h.lo; omega), h.res.fr hf (by simp; have := h.lo; omega), h.lo, h.up hf, Pz.new hr (by rw [hB]; exact h.vr.lt) h.lo, Pz.sls h.b hf, Pz.sls h.c hf, Pz.sls h.d hf, Pz.sls h.e hf, Pz.sls h.f hf, Pz.sls h.g hf, Pz.sls h.i hf, Pz.sls h.j hf⟩
theorem Pz.put1 {v : Value} {cs : List Value} {Bz : Nat} (h : Pz W P tb vs mm u0 u1 u2 u3 u4 u5 u6 u9 u10 w) (m : Mo) (hf : Fr [tb] w w') (hv : Vr tb 11 [u0, v, u2, u3, u4, u5, u6, .bool mm.starts, .int .u32 mm.start, u9, u10] w') (hr : Rye eIm (fun b => P b ∧ b < W.heap.size) 106 Bz v m.imps cs 0 w') (hB : Bz = w.heap.size) {mm' : Mo} (hm : mm' = { mm with imps := m.imps }) : Pz W P tb vs mm' u0 v u2 u3 u4 u5 u6 u9 u10 w' := hm ▸
  ⟨hv, h.old.fr hf (by simp; have := h.lo; omega), h.res.fr hf (by simp; have := h.lo; omega), h.lo, h.up hf, Pz.sls h.a hf, Pz.new hr (by rw [hB]; exact h.vr.lt) h.lo, Pz.sls h.c hf, Pz.sls h.d hf, Pz.sls h.e hf, Pz.sls h.f hf, Pz.sls h.g hf, Pz.sls h.i hf, Pz.sls h.j hf⟩
theorem Pz.put2 {v : Value} {cs : List Value} {Bz : Nat} (h : Pz W P tb vs mm u0 u1 u2 u3 u4 u5 u6 u9 u10 w) (m : Mo) (hf : Fr [tb] w w') (hv : Vr tb 11 [u0, u1, v, u3, u4, u5, u6, .bool mm.starts, .int .u32 mm.start, u9, u10] w') (hr : Rye eFn (fun b => P b ∧ b < W.heap.size) 85 Bz v m.funcs cs 0 w') (hB : Bz = w.heap.size) {mm' : Mo} (hm : mm' = { mm with funcs := m.funcs }) : Pz W P tb vs mm' u0 u1 v u3 u4 u5 u6 u9 u10 w' := hm ▸
  ⟨hv, h.old.fr hf (by simp; have := h.lo; omega), h.res.fr hf (by simp; have := h.lo; omega), h.lo, h.up hf, Pz.sls h.a hf, Pz.sls h.b hf, Pz.new hr (by rw [hB]; exact h.vr.lt) h.lo, Pz.sls h.d hf, Pz.sls h.e hf, Pz.sls h.f hf, Pz.sls h.g hf, Pz.sls h.i hf, Pz.sls h.j hf⟩
theorem Pz.put5 {v : Value} {cs : List Value} {Bz : Nat} (h : Pz W P tb vs mm u0 u1 u2 u3 u4 u5 u6 u9 u10 w) (m : Mo) (hf : Fr [tb] w w') (hv : Vr tb 11 [u0, u1, u2, u3, u4, v, u6, .bool mm.starts, .int .u32 mm.start, u9, u10] w') (hr : Rye eCe (fun b => P b ∧ b < W.heap.size) 117 Bz v m.globs cs 0 w') (hB : Bz = w.heap.size) {mm' : Mo} (hm : mm' = { mm with globs := m.globs }) : Pz W P tb vs mm' u0 u1 u2 u3 u4 v u6 u9 u10 w' := hm ▸
  ⟨hv, h.old.fr hf (by simp; have := h.lo; omega), h.res.fr hf (by simp; have := h.lo; omega), h.lo, h.up hf, Pz.sls h.a hf, Pz.sls h.b hf, Pz.sls h.c hf, Pz.sls h.d hf, Pz.sls h.e hf, Pz.new hr (by rw [hB]; exact h.vr.lt) h.lo, Pz.sls h.g hf, Pz.sls h.i hf, Pz.sls h.j hf⟩
theorem Pz.put6 {v : Value} {cs : List Value} {Bz : Nat} (h : Pz W P tb vs mm u0 u1 u2 u3 u4 u5 u6 u9 u10 w) (m : Mo) (hf : Fr [tb] w w') (hv : Vr tb 11 [u0, u1, u2, u3, u4, u5, v, .bool mm.starts, .int .u32 mm.start, u9, u10] w') (hr : Rye eEx (fun b => P b ∧ b < W.heap.size) 109 Bz v m.exps cs 0 w') (hB : Bz = w.heap.size) {mm' : Mo} (hm : mm' = { mm with exps := m.exps }) : Pz W P tb vs mm' u0 u1 u2 u3 u4 u5 v u9 u10 w' := hm ▸
  ⟨hv, h.old.fr hf (by simp; have := h.lo; omega), h.res.fr hf (by simp; have := h.lo; omega), h.lo, h.up hf, Pz.sls h.a hf, Pz.sls h.b hf, Pz.sls h.c hf, Pz.sls h.d hf, Pz.sls h.e hf, Pz.sls h.f hf, Pz.new hr (by rw [hB]; exact h.vr.lt) h.lo, Pz.sls h.i hf, Pz.sls h.j hf⟩
theorem Pz.put9 {v : Value} {cs : List Value} {Bz : Nat} (h : Pz W P tb vs mm u0 u1 u2 u3 u4 u5 u6 u9 u10 w) (m : Mo) (hf : Fr [tb] w w') (hv : Vr tb 11 [u0, u1, u2, u3, u4, u5, u6, .bool mm.starts, .int .u32 mm.start, v, u10] w') (hr : Rye eEm (fun b => P b ∧ b < W.heap.size) 90 Bz v m.elems cs 0 w') (hB : Bz = w.heap.size) {mm' : Mo} (hm : mm' = { mm with elems := m.elems }) : Pz W P tb vs mm' u0 u1 u2 u3 u4 u5 u6 v u10 w' := hm ▸
  ⟨hv, h.old.fr hf (by simp; have := h.lo; omega), h.res.fr hf (by simp; have := h.lo; omega), h.lo, h.up hf, Pz.sls h.a hf, Pz.sls h.b hf, Pz.sls h.c hf, Pz.sls h.d hf, Pz.sls h.e hf, Pz.sls h.f hf, Pz.sls h.g hf, Pz.new hr (by rw [hB]; exact h.vr.lt) h.lo, Pz.sls h.j hf⟩
theorem Pz.put10 {v : Value} {cs : List Value} {Bz : Nat} (h : Pz W P tb vs mm u0 u1 u2 u3 u4 u5 u6 u9 u10 w) (m : Mo) (hf : Fr [tb] w w') (hv : Vr tb 11 [u0, u1, u2, u3, u4, u5, u6, .bool mm.starts, .int .u32 mm.start, u9, v] w') (hr : Rye eDa (fun b => P b ∧ b < W.heap.size) 93 Bz v m.datas cs 0 w') (hB : Bz = w.heap.size) {mm' : Mo} (hm : mm' = { mm with datas := m.datas }) : Pz W P tb vs mm' u0 u1 u2 u3 u4 u5 u6 u9 v w' := hm ▸
  ⟨hv, h.old.fr hf (by simp; have := h.lo; omega), h.res.fr hf (by simp; have := h.lo; omega), h.lo, h.up hf, Pz.sls h.a hf, Pz.sls h.b hf, Pz.sls h.c hf, Pz.sls h.d hf, Pz.sls h.e hf, Pz.sls h.f hf, Pz.sls h.g hf, Pz.sls h.i hf, Pz.new hr (by rw [hB]; exact h.vr.lt) h.lo⟩
end
end Go.Proofs.YtjoonmpjcophnaaGreatDoor

/- MsC, MpA, MpB, PdA, PlA. -/
import Derived.Test.YtjoonmpjcophnaaGreatDoorLo37
import Derived.Test.YtjoonmpjcophnaaGreatDoorLo39
import Derived.Test.YtjoonmpjcophnaaGreatDoorLo40
import Derived.Test.YtjoonmpjcophnaaGreatDoorLo41
namespace Go.Proofs.YtjoonmpjcophnaaGreatDoor
open Go.RowKit

/-- What is said of a module so that two can be compared. -/
structure Mok (m : Mo) : Prop where
  types : m.types.length ≤ 4000000
  imps : m.imps.length ≤ 4000000
  funcs : m.funcs.length ≤ 4000000
  tabs : m.tabs.length ≤ 4000000
  mems : m.mems.length ≤ 4000000
  globs : m.globs.length ≤ 4000000
  exps : m.exps.length ≤ 4000000
  elems : m.elems.length ≤ 4000000
  datas : m.datas.length ≤ 4000000
  bodies : ∀ f ∈ m.funcs, f.2.2.size ≤ 2000000 ∧ Lok f.2.2
  inits : ∀ f ∈ m.globs, f.2.2.size ≤ 2000000 ∧ Lok f.2.2
  offs : ∀ f ∈ m.elems, f.2.1.size ≤ 2000000 ∧ Lok f.2.1 ∧ f.2.2.length ≤ 4000000
  doffs : ∀ f ∈ m.datas, f.2.1.size ≤ 2000000 ∧ Lok f.2.1
end Go.Proofs.YtjoonmpjcophnaaGreatDoor
namespace Go.Proofs.YtjoonmpjcophnaaGreatDoor

/-- Instructions of no more than so many bytes. -/
def Qf (N : Nat) (T : Fo) : Prop := T.size ≤ N ∧ Lok T
theorem alone_inv {A : Type} {f : Rr A} {b l : List Int} (h : (alone f b l).2.2 = 0) : (f b).2.2 = 0 ∧ ¬ (f b).2.1 < b.length := by
  unfold alone at h
  simp only at h
  split at h
  · rename_i h1
    split at h
    · exact absurd h (by decide)
    · rename_i h2; exact ⟨h1, h2⟩
  · rename_i h1; exact absurd h h1
/-- A field: what is in it, and nothing if its section is still to come. -/
structure Fl {A : Type} (j hi : Int) (Q : A → Prop) (L : List A) : Prop where
  len : L.length ≤ 4096
  all : ∀ x ∈ L, Q x
  non : hi < j → L = []
theorem Fl.more {A : Type} {j hi hi' : Int} {Q : A → Prop} {L : List A} (h : Fl j hi Q L) (hh : hi ≤ hi') : Fl j hi' Q L := ⟨h.len, h.all, fun q => h.non (by omega)⟩
theorem Fl.put {A : Type} {j hi : Int} {Q : A → Prop} {L M : List A} (h : Fl j hi Q L) (hj : hi < j) (h1 : M.length ≤ 4096) (h2 : ∀ x ∈ M, Q x) : Fl j (max hi j) Q (L ++ M) := by
  rw [h.non hj, List.nil_append]
  exact ⟨h1, h2, fun q => by omega⟩
/-- What is read so far. -/
structure Okk (N : Nat) (hi : Int) (s : St) : Prop where
  pos : 0 ≤ hi
  types : Fl 1 hi (fun _ => True) s.1.types
  imps : Fl 2 hi (fun _ => True) s.1.imps
  tabs : Fl 4 hi (fun _ => True) s.1.tabs
  mems : Fl 5 hi (fun _ => True) s.1.mems
  globs : Fl 6 hi (fun x => Qf N x.2.2) s.1.globs
  exps : Fl 7 hi (fun _ => True) s.1.exps
  elems : Fl 9 hi (fun x => Qf N x.2.1 ∧ x.2.2.length ≤ 4096) s.1.elems
  funcs : Fl 10 hi (fun x => Qf N x.2.2) s.1.funcs
  datas : Fl 11 hi (fun x => Qf N x.2.1) s.1.datas
theorem Okk.more {N : Nat} {hi hi' : Int} {s : St} (h : Okk N hi s) (hh : hi ≤ hi') : Okk N hi' s := ⟨Int.le_trans h.pos hh, h.types.more hh, h.imps.more hh, h.tabs.more hh, h.mems.more hh, h.globs.more hh, h.exps.more hh, h.elems.more hh, h.funcs.more hh, h.datas.more hh⟩
theorem set_len : ∀ (ts : List Int) (fs : List Fn), (setTypes ts fs).length = fs.length
  | [], fs => by cases fs <;> rfl
  | _ :: _, [] => rfl
  | t :: ts, f :: fs => by show (_ :: _).length = _; rw [List.length_cons, List.length_cons, set_len ts fs]
end Go.Proofs.YtjoonmpjcophnaaGreatDoor
namespace Go.Proofs.YtjoonmpjcophnaaGreatDoor

/-- The same failure; what was read, if there is none. -/
def Agr {A : Type} (a b : A × Nat × Int) : Prop := a.2.2 = b.2.2 ∧ (a.2.2 = 0 → a.1 = b.1)
theorem Agr.refl {A : Type} (a : A × Nat × Int) : Agr a a := ⟨rfl, fun _ => rfl⟩
theorem Agr.trans {A : Type} {a b c : A × Nat × Int} (h : Agr a b) (k : Agr b c) : Agr a c := ⟨h.1.trans k.1, fun q => (h.2 q).trans (k.2 (h.1.symm.trans q))⟩
theorem Agr.symm {A : Type} {a b : A × Nat × Int} (h : Agr a b) : Agr b a := ⟨h.1.symm, fun q => (h.2 (h.1.trans q)).symm⟩
theorem mod_fuel (sat : Bool) : ∀ (f g : Nat) (hi : Int) (s : St) (l : List Int), l.length < f → l.length < g → rMod sat f hi s l = rMod sat g hi s l
  | 0, _, _, _, _, h, _ => absurd h (Nat.not_lt_zero _)
  | _ + 1, 0, _, _, _, _, h => absurd h (Nat.not_lt_zero _)
  | f + 1, g + 1, hi, s, l, h1, h2 => by
    unfold rMod
    by_cases h0 : l = []
    · rw [if_pos h0, if_pos h0]
    · rw [if_neg h0, if_neg h0]
      cases l with
      | nil => exact absurd rfl h0
      | cons x r =>
        rw [List.length_cons] at h1 h2
        refine bd_congr fun _ => bd_congr fun _ => mod_fuel sat f g _ _ _ ?_ ?_
        · show ((r.drop _).length) < f; rw [List.length_drop]; omega
        · show ((r.drop _).length) < g; rw [List.length_drop]; omega
/-- All sections of these bytes. -/
def rAll (sat : Bool) (hi : Int) (s : St) : Rr St := fun l => rMod sat (l.length + 1) hi s l
theorem all_cons (sat : Bool) (hi : Int) (s : St) (x : Int) (r : List Int) : rAll sat hi s (x :: r) = bd s rB (fun n => bd s (stp1 sat hi s n) fun s' => rAll sat (max hi n) s') (x :: r) := by
  show rMod sat ((x :: r).length + 1) hi s (x :: r) = _
  unfold rMod
  rw [if_neg (by simp)]
  refine bd_congr fun _ => bd_congr fun _ => mod_fuel sat _ _ _ _ _ ?_ (Nat.lt_succ_self _)
  show ((r.drop _).length) < _
  rw [List.length_drop, List.length_cons]
  omega
/-- What a module is, of what its sections say. -/
def fin (t : St × Nat × Int) : Mo × Int := if t.2.2 ≠ 0 then (mo0, t.2.2) else if t.1.2.length ≠ t.1.1.funcs.length then (mo0, 109) else ({ t.1.1 with funcs := setTypes t.1.2 t.1.1.funcs }, 0)
theorem dec_fin (sat : Bool) {xs : List Int} (h1 : xs.length ≤ 65536) (h2 : xs.take 8 = magic) : dec sat xs = fin (rAll sat 0 (mo0, []) (xs.drop 8)) := by
  unfold dec
  rw [if_neg (by omega), if_neg (by rw [h2]; simp)]
  rw [mod_fuel sat (xs.length + 1) ((xs.drop 8).length + 1) 0 (mo0, []) (xs.drop 8) (by rw [List.length_drop]; omega) (by omega)]
  rfl
theorem Agr.fin {a b : St × Nat × Int} (h : Agr a b) : fin a = Go.Proofs.YtjoonmpjcophnaaGreatDoor.fin b := by
  unfold Go.Proofs.YtjoonmpjcophnaaGreatDoor.fin
  by_cases h0 : a.2.2 = 0
  · have h1 : ¬ a.2.2 ≠ 0 := fun q => q h0
    have h2 : ¬ b.2.2 ≠ 0 := fun q => q (h.1.symm.trans h0)
    rw [if_neg h1, if_neg h2, h.2 h0]
  · rw [if_pos h0, if_pos (by rw [← h.1]; exact h0), h.1]
end Go.Proofs.YtjoonmpjcophnaaGreatDoor
namespace Go.Proofs.YtjoonmpjcophnaaGreatDoor
open Go.RowKit

theorem Sls.fr2 {α : Type} {E : El α} {w w' : World} {P : Nat → Prop} {l : List Nat} {xs : List α} {v : Value} (h : Sls E w P xs v) (hf : Fr l w w') (hl : ∀ i ∈ l, ¬ P i) : Sls E w' P xs v := h.all fun _ _ hp hc => hf.keep hc (fun hm => hl _ hm hp)
/-- The twelve cells: a module's eleven, and the functions' types. -/
structure Dr (w : World) (P : Nat → Prop) (s : St) (vs : List Value) : Prop where
  ex : ∃ v0 v1 v2 v3 v4 v5 v6 v9 v10 v11, vs = [v0, v1, v2, v3, v4, v5, v6, .bool s.1.starts, .int .u32 s.1.start, v9, v10, v11] ∧ Sls eTy w P s.1.types v0 ∧ Sls eIm w P s.1.imps v1 ∧ Sls eFn w P s.1.funcs v2 ∧ Sls eLim w P s.1.tabs v3 ∧ Sls eLim w P s.1.mems v4 ∧ Sls eCe w P s.1.globs v5 ∧ Sls eEx w P s.1.exps v6 ∧ Sls eEm w P s.1.elems v9 ∧ Sls eDa w P s.1.datas v10 ∧ Sls eU w P s.2 v11
theorem Dr.all {A B : World} {P : Nat → Prop} {s : St} {vs : List Value} (h : Dr A P s vs) (k : ∀ (p : Addr) v, P p.block → A.cell? p = some v → B.cell? p = some v) : Dr B P s vs := by
  obtain ⟨v0, v1, v2, v3, v4, v5, v6, v9, v10, v11, h, a, b, c, d, e, f, g, i, j, m⟩ := h.ex
  exact ⟨⟨v0, v1, v2, v3, v4, v5, v6, v9, v10, v11, h, a.all k, b.all k, c.all k, d.all k, e.all k, f.all k, g.all k, i.all k, j.all k, m.all k⟩⟩
theorem Dr.mono {w : World} {P P' : Nat → Prop} {s : St} {vs : List Value} (h : Dr w P s vs) (k : ∀ b, b < w.heap.size → P b → P' b) : Dr w P' s vs := by
  obtain ⟨v0, v1, v2, v3, v4, v5, v6, v9, v10, v11, h, a, b, c, d, e, f, g, i, j, m⟩ := h.ex
  exact ⟨⟨v0, v1, v2, v3, v4, v5, v6, v9, v10, v11, h, a.mono k, b.mono k, c.mono k, d.mono k, e.mono k, f.mono k, g.mono k, i.mono k, j.mono k, m.mono k⟩⟩
theorem Dr.fr {w w' : World} {P : Nat → Prop} {s : St} {vs : List Value} {l : List Nat} (h : Dr w P s vs) (hf : Fr l w w') (hl : ∀ i ∈ l, ¬ P i) : Dr w' P s vs := h.all fun _ _ hp hc => hf.keep hc (fun hm => hl _ hm hp)
theorem Dr.len {w : World} {P : Nat → Prop} {s : St} {vs : List Value} (h : Dr w P s vs) : vs.length = 12 := by
  obtain ⟨v0, v1, v2, v3, v4, v5, v6, v9, v10, v11, h, -⟩ := h.ex
  rw [h]; rfl
def nil12 : List Value := [.slice none 0 0, .slice none 0 0, .slice none 0 0, .slice none 0 0, .slice none 0 0, .slice none 0 0, .slice none 0 0, .bool false, .int .u32 0, .slice none 0 0, .slice none 0 0, .slice none 0 0]
theorem dr0 (w : World) (P : Nat → Prop) : Dr w P (mo0, []) nil12 := ⟨⟨_, _, _, _, _, _, _, _, _, _, rfl, sls_nil w P, sls_nil w P, sls_nil w P, sls_nil w P, sls_nil w P, sls_nil w P, sls_nil w P, sls_nil w P, sls_nil w P, sls_nil w P⟩⟩
/-- Sections that are still to come have said nothing. -/
structure Non (hi : Int) (s : St) : Prop where
  pos : 0 ≤ hi
  types : hi < 1 → s.1.types = []
  imps : hi < 2 → s.1.imps = []
  tabs : hi < 4 → s.1.tabs = []
  mems : hi < 5 → s.1.mems = []
  globs : hi < 6 → s.1.globs = []
  exps : hi < 7 → s.1.exps = []
  elems : hi < 9 → s.1.elems = []
  funcs : hi < 10 → s.1.funcs = []
  datas : hi < 11 → s.1.datas = []
theorem non0 : Non 0 (mo0, []) := ⟨Int.le_refl _, fun _ => rfl, fun _ => rfl, fun _ => rfl, fun _ => rfl, fun _ => rfl, fun _ => rfl, fun _ => rfl, fun _ => rfl, fun _ => rfl⟩
theorem Non.more {hi hi' : Int} {s : St} (h : Non hi s) (hh : hi ≤ hi') : Non hi' s := ⟨Int.le_trans h.pos hh, fun q => h.types (by omega), fun q => h.imps (by omega), fun q => h.tabs (by omega), fun q => h.mems (by omega), fun q => h.globs (by omega), fun q => h.exps (by omega), fun q => h.elems (by omega), fun q => h.funcs (by omega), fun q => h.datas (by omega)⟩
section
variable {xs : List Int} {k k' : Nat} {e e' : Int} {sat : Bool}
theorem Dr.set_types {w : World} {P : Nat → Prop} {s : St} {vs : List Value} {L} {v : Value} (h : Dr w P s vs) (h0 : s.1.types = []) (hv : Sls eTy w P L v) : Dr w P ({ s.1 with types := s.1.types ++ L }, s.2) (vs.set 0 v) := by
  obtain ⟨v0, v1, v2, v3, v4, v5, v6, v9, v10, v11, rfl, a, b, c, d, e, f, g, i, j, m⟩ := h.ex
  exact ⟨⟨v, v1, v2, v3, v4, v5, v6, v9, v10, v11, rfl, (by rw [h0, List.nil_append]; exact hv), b, c, d, e, f, g, i, j, m⟩⟩
theorem rd_sec1 {s : St} {L} (h : Rd (rList rFunc) xs k e L k' e') : Rd (rSec sat 1 s) xs k e ({ s.1 with types := s.1.types ++ L }, s.2) k' e' := by
  have := h.bd (z := s) (g := fun L => giv (({ s.1 with types := s.1.types ++ L }, s.2) : St)) (Rd.giv _ _ _ _)
  simpa [rSec] using this
theorem Non.step1 {hi : Int} {s : St} (h : Non hi s) {L} (hn : hi < 1) : Non (max hi 1) ({ s.1 with types := s.1.types ++ L }, s.2) :=
  ⟨by omega, fun q => by omega, fun q => h.imps (by omega), fun q => h.tabs (by omega), fun q => h.mems (by omega), fun q => h.globs (by omega), fun q => h.exps (by omega), fun q => h.elems (by omega), fun q => h.funcs (by omega), fun q => h.datas (by omega)⟩
theorem Dr.set_imps {w : World} {P : Nat → Prop} {s : St} {vs : List Value} {L} {v : Value} (h : Dr w P s vs) (h0 : s.1.imps = []) (hv : Sls eIm w P L v) : Dr w P ({ s.1 with imps := s.1.imps ++ L }, s.2) (vs.set 1 v) := by
  obtain ⟨v0, v1, v2, v3, v4, v5, v6, v9, v10, v11, rfl, a, b, c, d, e, f, g, i, j, m⟩ := h.ex
  exact ⟨⟨v0, v, v2, v3, v4, v5, v6, v9, v10, v11, rfl, a, (by rw [h0, List.nil_append]; exact hv), c, d, e, f, g, i, j, m⟩⟩
theorem rd_sec2 {s : St} {L} (h : Rd (rList rImp) xs k e L k' e') : Rd (rSec sat 2 s) xs k e ({ s.1 with imps := s.1.imps ++ L }, s.2) k' e' := by
  have := h.bd (z := s) (g := fun L => giv (({ s.1 with imps := s.1.imps ++ L }, s.2) : St)) (Rd.giv _ _ _ _)
  simpa [rSec] using this
theorem Non.step2 {hi : Int} {s : St} (h : Non hi s) {L} (hn : hi < 2) : Non (max hi 2) ({ s.1 with imps := s.1.imps ++ L }, s.2) :=
  ⟨by omega, fun q => h.types (by omega), fun q => by omega, fun q => h.tabs (by omega), fun q => h.mems (by omega), fun q => h.globs (by omega), fun q => h.exps (by omega), fun q => h.elems (by omega), fun q => h.funcs (by omega), fun q => h.datas (by omega)⟩
theorem Dr.set_funcs {w : World} {P : Nat → Prop} {s : St} {vs : List Value} {L} {v : Value} (h : Dr w P s vs) (h0 : s.1.funcs = []) (hv : Sls eFn w P L v) : Dr w P ({ s.1 with funcs := s.1.funcs ++ L }, s.2) (vs.set 2 v) := by
  obtain ⟨v0, v1, v2, v3, v4, v5, v6, v9, v10, v11, rfl, a, b, c, d, e, f, g, i, j, m⟩ := h.ex
  exact ⟨⟨v0, v1, v, v3, v4, v5, v6, v9, v10, v11, rfl, a, b, (by rw [h0, List.nil_append]; exact hv), d, e, f, g, i, j, m⟩⟩
theorem rd_sec10 {s : St} {L} (h : Rd (rList (rPc (0, [], .nil) (rFn sat))) xs k e L k' e') : Rd (rSec sat 10 s) xs k e ({ s.1 with funcs := s.1.funcs ++ L }, s.2) k' e' := by
  have := h.bd (z := s) (g := fun L => giv (({ s.1 with funcs := s.1.funcs ++ L }, s.2) : St)) (Rd.giv _ _ _ _)
  simpa [rSec] using this
theorem Non.step10 {hi : Int} {s : St} (h : Non hi s) {L} (hn : hi < 10) : Non (max hi 10) ({ s.1 with funcs := s.1.funcs ++ L }, s.2) :=
  ⟨by omega, fun q => h.types (by omega), fun q => h.imps (by omega), fun q => h.tabs (by omega), fun q => h.mems (by omega), fun q => h.globs (by omega), fun q => h.exps (by omega), fun q => h.elems (by omega), fun q => by omega, fun q => h.datas (by omega)⟩
theorem Dr.set_tabs {w : World} {P : Nat → Prop} {s : St} {vs : List Value} {L} {v : Value} (h : Dr w P s vs) (h0 : s.1.tabs = []) (hv : Sls eLim w P L v) : Dr w P ({ s.1 with tabs := s.1.tabs ++ L }, s.2) (vs.set 3 v) := by
  obtain ⟨v0, v1, v2, v3, v4, v5, v6, v9, v10, v11, rfl, a, b, c, d, e, f, g, i, j, m⟩ := h.ex
  exact ⟨⟨v0, v1, v2, v, v4, v5, v6, v9, v10, v11, rfl, a, b, c, (by rw [h0, List.nil_append]; exact hv), e, f, g, i, j, m⟩⟩
theorem rd_sec4 {s : St} {L} (h : Rd (rList rTable) xs k e L k' e') : Rd (rSec sat 4 s) xs k e ({ s.1 with tabs := s.1.tabs ++ L }, s.2) k' e' := by
  have := h.bd (z := s) (g := fun L => giv (({ s.1 with tabs := s.1.tabs ++ L }, s.2) : St)) (Rd.giv _ _ _ _)
  simpa [rSec] using this
theorem Non.step4 {hi : Int} {s : St} (h : Non hi s) {L} (hn : hi < 4) : Non (max hi 4) ({ s.1 with tabs := s.1.tabs ++ L }, s.2) :=
  ⟨by omega, fun q => h.types (by omega), fun q => h.imps (by omega), fun q => by omega, fun q => h.mems (by omega), fun q => h.globs (by omega), fun q => h.exps (by omega), fun q => h.elems (by omega), fun q => h.funcs (by omega), fun q => h.datas (by omega)⟩
theorem Dr.set_mems {w : World} {P : Nat → Prop} {s : St} {vs : List Value} {L} {v : Value} (h : Dr w P s vs) (h0 : s.1.mems = []) (hv : Sls eLim w P L v) : Dr w P ({ s.1 with mems := s.1.mems ++ L }, s.2) (vs.set 4 v) := by
  obtain ⟨v0, v1, v2, v3, v4, v5, v6, v9, v10, v11, rfl, a, b, c, d, e, f, g, i, j, m⟩ := h.ex
  exact ⟨⟨v0, v1, v2, v3, v, v5, v6, v9, v10, v11, rfl, a, b, c, d, (by rw [h0, List.nil_append]; exact hv), f, g, i, j, m⟩⟩
theorem rd_sec5 {s : St} {L} (h : Rd (rList rLimits) xs k e L k' e') : Rd (rSec sat 5 s) xs k e ({ s.1 with mems := s.1.mems ++ L }, s.2) k' e' := by
  have := h.bd (z := s) (g := fun L => giv (({ s.1 with mems := s.1.mems ++ L }, s.2) : St)) (Rd.giv _ _ _ _)
  simpa [rSec] using this
theorem Non.step5 {hi : Int} {s : St} (h : Non hi s) {L} (hn : hi < 5) : Non (max hi 5) ({ s.1 with mems := s.1.mems ++ L }, s.2) :=
  ⟨by omega, fun q => h.types (by omega), fun q => h.imps (by omega), fun q => h.tabs (by omega), fun q => by omega, fun q => h.globs (by omega), fun q => h.exps (by omega), fun q => h.elems (by omega), fun q => h.funcs (by omega), fun q => h.datas (by omega)⟩
theorem Dr.set_globs {w : World} {P : Nat → Prop} {s : St} {vs : List Value} {L} {v : Value} (h : Dr w P s vs) (h0 : s.1.globs = []) (hv : Sls eCe w P L v) : Dr w P ({ s.1 with globs := s.1.globs ++ L }, s.2) (vs.set 5 v) := by
  obtain ⟨v0, v1, v2, v3, v4, v5, v6, v9, v10, v11, rfl, a, b, c, d, e, f, g, i, j, m⟩ := h.ex
  exact ⟨⟨v0, v1, v2, v3, v4, v, v6, v9, v10, v11, rfl, a, b, c, d, e, (by rw [h0, List.nil_append]; exact hv), g, i, j, m⟩⟩
theorem rd_sec6 {s : St} {L} (h : Rd (rList (rCe sat)) xs k e L k' e') : Rd (rSec sat 6 s) xs k e ({ s.1 with globs := s.1.globs ++ L }, s.2) k' e' := by
  have := h.bd (z := s) (g := fun L => giv (({ s.1 with globs := s.1.globs ++ L }, s.2) : St)) (Rd.giv _ _ _ _)
  simpa [rSec] using this
theorem Non.step6 {hi : Int} {s : St} (h : Non hi s) {L} (hn : hi < 6) : Non (max hi 6) ({ s.1 with globs := s.1.globs ++ L }, s.2) :=
  ⟨by omega, fun q => h.types (by omega), fun q => h.imps (by omega), fun q => h.tabs (by omega), fun q => h.mems (by omega), fun q => by omega, fun q => h.exps (by omega), fun q => h.elems (by omega), fun q => h.funcs (by omega), fun q => h.datas (by omega)⟩
theorem Dr.set_exps {w : World} {P : Nat → Prop} {s : St} {vs : List Value} {L} {v : Value} (h : Dr w P s vs) (h0 : s.1.exps = []) (hv : Sls eEx w P L v) : Dr w P ({ s.1 with exps := s.1.exps ++ L }, s.2) (vs.set 6 v) := by
  obtain ⟨v0, v1, v2, v3, v4, v5, v6, v9, v10, v11, rfl, a, b, c, d, e, f, g, i, j, m⟩ := h.ex
  exact ⟨⟨v0, v1, v2, v3, v4, v5, v, v9, v10, v11, rfl, a, b, c, d, e, f, (by rw [h0, List.nil_append]; exact hv), i, j, m⟩⟩
theorem rd_sec7 {s : St} {L} (h : Rd (rList rEx) xs k e L k' e') : Rd (rSec sat 7 s) xs k e ({ s.1 with exps := s.1.exps ++ L }, s.2) k' e' := by
  have := h.bd (z := s) (g := fun L => giv (({ s.1 with exps := s.1.exps ++ L }, s.2) : St)) (Rd.giv _ _ _ _)
  simpa [rSec] using this
theorem Non.step7 {hi : Int} {s : St} (h : Non hi s) {L} (hn : hi < 7) : Non (max hi 7) ({ s.1 with exps := s.1.exps ++ L }, s.2) :=
  ⟨by omega, fun q => h.types (by omega), fun q => h.imps (by omega), fun q => h.tabs (by omega), fun q => h.mems (by omega), fun q => h.globs (by omega), fun q => by omega, fun q => h.elems (by omega), fun q => h.funcs (by omega), fun q => h.datas (by omega)⟩
theorem Dr.set_elems {w : World} {P : Nat → Prop} {s : St} {vs : List Value} {L} {v : Value} (h : Dr w P s vs) (h0 : s.1.elems = []) (hv : Sls eEm w P L v) : Dr w P ({ s.1 with elems := s.1.elems ++ L }, s.2) (vs.set 9 v) := by
  obtain ⟨v0, v1, v2, v3, v4, v5, v6, v9, v10, v11, rfl, a, b, c, d, e, f, g, i, j, m⟩ := h.ex
  exact ⟨⟨v0, v1, v2, v3, v4, v5, v6, v, v10, v11, rfl, a, b, c, d, e, f, g, (by rw [h0, List.nil_append]; exact hv), j, m⟩⟩
theorem rd_sec9 {s : St} {L} (h : Rd (rList (rEm sat)) xs k e L k' e') : Rd (rSec sat 9 s) xs k e ({ s.1 with elems := s.1.elems ++ L }, s.2) k' e' := by
  have := h.bd (z := s) (g := fun L => giv (({ s.1 with elems := s.1.elems ++ L }, s.2) : St)) (Rd.giv _ _ _ _)
  simpa [rSec] using this
theorem Non.step9 {hi : Int} {s : St} (h : Non hi s) {L} (hn : hi < 9) : Non (max hi 9) ({ s.1 with elems := s.1.elems ++ L }, s.2) :=
  ⟨by omega, fun q => h.types (by omega), fun q => h.imps (by omega), fun q => h.tabs (by omega), fun q => h.mems (by omega), fun q => h.globs (by omega), fun q => h.exps (by omega), fun q => by omega, fun q => h.funcs (by omega), fun q => h.datas (by omega)⟩
theorem Dr.set_datas {w : World} {P : Nat → Prop} {s : St} {vs : List Value} {L} {v : Value} (h : Dr w P s vs) (h0 : s.1.datas = []) (hv : Sls eDa w P L v) : Dr w P ({ s.1 with datas := s.1.datas ++ L }, s.2) (vs.set 10 v) := by
  obtain ⟨v0, v1, v2, v3, v4, v5, v6, v9, v10, v11, rfl, a, b, c, d, e, f, g, i, j, m⟩ := h.ex
  exact ⟨⟨v0, v1, v2, v3, v4, v5, v6, v9, v, v11, rfl, a, b, c, d, e, f, g, i, (by rw [h0, List.nil_append]; exact hv), m⟩⟩
theorem rd_sec11 {s : St} {L} (h : Rd (rList (rDa sat)) xs k e L k' e') : Rd (rSec sat 11 s) xs k e ({ s.1 with datas := s.1.datas ++ L }, s.2) k' e' := by
  have := h.bd (z := s) (g := fun L => giv (({ s.1 with datas := s.1.datas ++ L }, s.2) : St)) (Rd.giv _ _ _ _)
  simpa [rSec] using this
theorem Non.step11 {hi : Int} {s : St} (h : Non hi s) {L} (hn : hi < 11) : Non (max hi 11) ({ s.1 with datas := s.1.datas ++ L }, s.2) :=
  ⟨by omega, fun q => h.types (by omega), fun q => h.imps (by omega), fun q => h.tabs (by omega), fun q => h.mems (by omega), fun q => h.globs (by omega), fun q => h.exps (by omega), fun q => h.elems (by omega), fun q => h.funcs (by omega), fun q => by omega⟩
theorem Dr.set_fty {w : World} {P : Nat → Prop} {s : St} {vs : List Value} {L : List Int} {v : Value} (h : Dr w P s vs) (hv : Sls eU w P L v) : Dr w P (s.1, L) (vs.set 11 v) := by
  obtain ⟨v0, v1, v2, v3, v4, v5, v6, v9, v10, v11, rfl, a, b, c, d, e, f, g, i, j, m⟩ := h.ex
  exact ⟨⟨v0, v1, v2, v3, v4, v5, v6, v9, v10, v, rfl, a, b, c, d, e, f, g, i, j, hv⟩⟩
theorem rd_sec3 {s : St} {L : List Int} (h : Rd (rList (rU 32)) xs k e L k' e') : Rd (rSec sat 3 s) xs k e (s.1, L) k' e' := by
  have := h.bd (z := s) (g := fun L => giv ((s.1, L) : St)) (Rd.giv _ _ _ _)
  simpa [rSec] using this
theorem Dr.set_start {w : World} {P : Nat → Prop} {s : St} {vs : List Value} (h : Dr w P s vs) (y : Int) : Dr w P ({ s.1 with starts := true, start := y }, s.2) ((vs.set 7 (.bool true)).set 8 (.int .u32 y)) := by
  obtain ⟨v0, v1, v2, v3, v4, v5, v6, v9, v10, v11, rfl, a, b, c, d, e, f, g, i, j, m⟩ := h.ex
  exact ⟨⟨v0, v1, v2, v3, v4, v5, v6, v9, v10, v11, rfl, a, b, c, d, e, f, g, i, j, m⟩⟩
theorem rd_sec8 {s : St} {y : Int} (h : Rd (rU 32) xs k e y k' e') : Rd (rSec sat 8 s) xs k e ({ s.1 with starts := true, start := y }, s.2) k' e' := by
  have := h.bd (z := s) (g := fun x => giv (({ s.1 with starts := true, start := x }, s.2) : St)) (Rd.giv _ _ _ _)
  simpa [rSec] using this
end
/-- Behind a section. -/
theorem Non.sec {sat : Bool} {hi n : Int} {s : St} (h : Non hi s) (h0 : 0 ≤ n) (h11 : n ≤ 11) (hn : n = 0 ∨ hi < n) {l : List Int} (he : (rSec sat n s l).2.2 = 0) : Non (max hi n) (rSec sat n s l).1 := by
  have hm := h.more (show hi ≤ max hi n by omega)
  unfold rSec at he ⊢
  by_cases q0 : n = 0
  · subst q0
    rw [if_pos rfl] at he ⊢
    obtain ⟨-, -, h3⟩ := bd_inv he
    rw [h3]
    exact { hm with }
  rw [if_neg q0] at he ⊢
  by_cases q1 : n = 1
  · subst q1
    rw [if_pos rfl] at he ⊢
    obtain ⟨-, -, h3⟩ := bd_inv he
    rw [h3]
    exact h.step1 (by omega)
  rw [if_neg q1] at he ⊢
  by_cases q2 : n = 2
  · subst q2
    rw [if_pos rfl] at he ⊢
    obtain ⟨-, -, h3⟩ := bd_inv he
    rw [h3]
    exact h.step2 (by omega)
  rw [if_neg q2] at he ⊢
  by_cases q3 : n = 3
  · subst q3
    rw [if_pos rfl] at he ⊢
    obtain ⟨-, -, h3⟩ := bd_inv he
    rw [h3]
    exact { hm with }
  rw [if_neg q3] at he ⊢
  by_cases q4 : n = 4
  · subst q4
    rw [if_pos rfl] at he ⊢
    obtain ⟨-, -, h3⟩ := bd_inv he
    rw [h3]
    exact h.step4 (by omega)
  rw [if_neg q4] at he ⊢
  by_cases q5 : n = 5
  · subst q5
    rw [if_pos rfl] at he ⊢
    obtain ⟨-, -, h3⟩ := bd_inv he
    rw [h3]
    exact h.step5 (by omega)
  rw [if_neg q5] at he ⊢
  by_cases q6 : n = 6
  · subst q6
    rw [if_pos rfl] at he ⊢
    obtain ⟨-, -, h3⟩ := bd_inv he
    rw [h3]
    exact h.step6 (by omega)
  rw [if_neg q6] at he ⊢
  by_cases q7 : n = 7
  · subst q7
    rw [if_pos rfl] at he ⊢
    obtain ⟨-, -, h3⟩ := bd_inv he
    rw [h3]
    exact h.step7 (by omega)
  rw [if_neg q7] at he ⊢
  by_cases q8 : n = 8
  · subst q8
    rw [if_pos rfl] at he ⊢
    obtain ⟨-, -, h3⟩ := bd_inv he
    rw [h3]
    exact { hm with }
  rw [if_neg q8] at he ⊢
  by_cases q9 : n = 9
  · subst q9
    rw [if_pos rfl] at he ⊢
    obtain ⟨-, -, h3⟩ := bd_inv he
    rw [h3]
    exact h.step9 (by omega)
  rw [if_neg q9] at he ⊢
  by_cases q10 : n = 10
  · subst q10
    rw [if_pos rfl] at he ⊢
    obtain ⟨-, -, h3⟩ := bd_inv he
    rw [h3]
    exact h.step10 (by omega)
  rw [if_neg q10] at he ⊢
  obtain rfl : n = 11 := by omega
  obtain ⟨-, -, h3⟩ := bd_inv he
  rw [h3]
  exact h.step11 (by omega)
end Go.Proofs.YtjoonmpjcophnaaGreatDoor
namespace Go.Proofs.YtjoonmpjcophnaaGreatDoor
open Go.RowKit

theorem szP132 : (Tryz.prog.info? 132).map (·.size) = some 2 := by kernel_rfl
theorem mkP132 (m : Nat) (hm : m ≤ 4096) : ∃ Z : Array Value, ∀ w, (Instr.makeSlice 129 (.int .i64 (m : Int)) (.int .i64 (m : Int))).run Tryz.prog w = .ok (.slice (some ⟨w.heap.size, 0, none⟩) m m) (w.alloc (.cells (madeCells Z (m * 2)) 132)) :=
  ⟨_, fun w => make_runK 129 132 2 Tryz.underlying129 (i := (Tryz.prog.info? 132).getD default) (z := (((Tryz.prog.info? 132).getD default).zero).getD default) (by kernel_rfl) (by kernel_rfl) (by kernel_rfl) (by kernel_rfl) m hm w⟩
section
variable {c : Nat} {a : Option Addr} {len cap k : Nat} {xs : List Int} {e : Int} {W : World} {sat : Bool} {q : Nat}
set_option maxHeartbeats 4000000 in
set_option maxRecDepth 100000 in
theorem list36_any {J : World → Prop} (h : Cs c a len cap xs k e W) (hJ : J W) (HJ : ∀ w w' l, J w → Fr l w w' → (∀ i ∈ l, i = c ∨ W.heap.size ≤ i) → J w')
    (HO : ∀ k e w, W.heap.size ≤ w.heap.size → Cs c a len cap xs k e w → J w → Calls Tryz.prog 37 #[.pointer (some ⟨q, 0, none⟩)] w fun r w' => ∃ y cs k' e', r = .returned (.agg cs.toArray) ∧ Rd rPair xs k e y k' e' ∧ eGq.rep' w' (fun b => w.heap.size ≤ b) 0 y cs ∧ Cs c a len cap xs k' e' w' ∧ J w' ∧ Fr [c] w w') :
    Calls Tryz.prog 36 #[.pointer (some ⟨c, 0, none⟩), .func (.func 37) #[] #[.pointer (some ⟨q, 0, none⟩)]] W fun r W' => ∃ L g k' e', r = .returned (.slice (some ⟨g, 0, none⟩) L.length L.length) ∧ Rd (rList rPair) xs k e L k' e' ∧ Sls eGq W' (fun b => W.heap.size ≤ b) L (.slice (some ⟨g, 0, none⟩) L.length L.length) ∧ L.length ≤ 4096 ∧ Cs c a len cap xs k' e' W' ∧ J W' ∧ Fr [c] W W' := by
  have HX := hide (p_count h)
  have hcl := h.1.lt
  have HAl : Hid (∀ p, a = some p → 0 < len → p.block < W.heap.size) := hide h.2.1.lt
  have HJ0 := hide hJ
  have HJs := hide HJ
  have HOs := hide HO
  clear h hJ HJ HO
  go_enter Tryz.func36, Tryz.ntmps36
  go_wp2_with fail
  refine (unhide HX).mono ?_
  rintro _ w1 ⟨m, k1, e1, rfl, hD, hm, hC, hF⟩
  have HD := hide hD
  have HC := hide hC
  have HF := hide hF
  have hsz := hF.size
  have HJ1 := hide ((unhide HJs) _ _ _ (unhide HJ0) hF (by simp))
  clear hD hC hF HX HJ0
  obtain ⟨Z, hmk⟩ := mkP132 m hm
  go_wp2_with fail
  clear hmk
  have hb := below1 w1 (.cells (madeCells Z (m * 2)) 132)
  have HM := hide (Prw.made (E := eGq) w1 m W.heap.size Z 132 0 hsz)
  change Hid (Prw eGq w1.heap.size m W.heap.size [] 0 (w1.alloc (.cells (madeCells Z (m * 2)) 132))) at HM
  have HC := hide ((unhide HC).bel hb)
  have HF := hide ((unhide HF).bel hb)
  have HJ1 := hide ((unhide HJs) _ _ _ (unhide HJ1) (Fr.of hb []) (by simp))
  have hsz2 : (w1.alloc (.cells (madeCells Z (m * 2)) 132)).heap.size = w1.heap.size + 1 := by simp
  clear hb
  generalize w1.alloc (.cells (madeCells Z (m * 2)) 132) = w2 at *
  go_loopw [12] (fun v12 wr => ∃ (L : List _) (k2 : Nat) (e2 : Int), L.length ≤ m ∧ v12 = .int .i64 (L.length : Int) ∧ Prw eGq w1.heap.size m W.heap.size L 0 wr ∧ Cs c a len cap xs k2 e2 wr ∧ J wr ∧ Fr [c] W wr ∧ w1.heap.size < wr.heap.size ∧ (∀ s k' e', Rd (repR rPair (m - L.length)) xs k2 e2 s k' e' → Rd (rList rPair) xs k e (id (L ++ s)) k' e')) (fun v12 _ => m - (intOf v12).toNat)
  case atStart =>
    refine ⟨[], k1, e1, Nat.zero_le _, rfl, unhide HM, unhide HC, unhide HJ1, unhide HF, by omega, fun s k' e' hs => (unhide HD).bd ?_⟩
    rw [show ((m : Int)).toNat = m by omega]
    exact hs
  case round =>
    obtain ⟨L, k2, e2, hi, rfl, hP, hC, hJ, hF, hlg, hK⟩ := hrel
    clear HM HC HJ1 HF HD
    by_cases hlt : L.length < m
    · have hi' : (L.length : Int) < (m : Int) := by omega
      have HX := hide (unhide HOs k2 e2 _ hF.size hC hJ)
      have HP := hide hP
      have HF := hide hF
      have HK := hide hK
      clear hP hC hJ hF hK
      go_wp2_with fail
      refine (unhide HX).mono ?_
      rintro _ w3 ⟨y, cs, k3, e3, rfl, hD, hy, hC, hJ, hF2⟩
      have hsz3 := hF2.size
      have hsW := (unhide HF).size
      have HP2 := hide ((unhide HP).fr hF2 (by simp; omega) (by simp; omega) (fun q => q))
      have HF3 := hide ((unhide HF).trans hF2)
      have HKn := hide (Rd.more2 id (n := m - (L.length + 1)) (by rw [show m - (L.length + 1) + 1 = m - L.length by omega]; exact unhide HK) hD)
      have hcl2 : cs.length = 2 := hy.len
      have hone := hy.one
      have HY := hide hy
      have HC2 := hide hC
      have HJ2 := hide hJ
      clear hD hy hC hJ hF2 HX HP HF HK
      go_wp2_with ((refine wpList_storeA rfl 132 (.tmp 19) (.tmp 18) rfl rfl (g := w1.heap.size) (off := L.length * 2) (cs := cs) rfl rfl (by rw [hcl2]; exact szP132) (fun j hj => (unhide HP2).spare hlt (show j < 2 by omega)) hone ?_))
      have hFg := fr_cells w1.heap.size cs (L.length * 2) w3
      have hl1 : (L ++ [y]).length = L.length + 1 := by simp
      refine ⟨⟨L ++ [y], k3, e3, by omega, by rw [hl1]; go_num, (unhide HP2).put hlt hcl2 (fun q => q) (fun q => (unhide HY).rep q (fun b _ hb => ⟨by omega, by omega⟩)), (unhide HC2).fr hFg (by simp; omega) (fun p hp hl => by have := unhide HAl p hp hl; simp; omega), unhide HJs _ _ _ (unhide HJ2) hFg (by simp; omega), (unhide HF3).thenL hFg (by simp; omega), by have := hFg.size; omega, by rw [hl1]; exact unhide HKn⟩, by simp [intOf]; omega⟩
    · obtain rfl : m = L.length := by omega
      have HP := hide hP
      have HC := hide hC
      have HJ2 := hide hJ
      have HF := hide hF
      have HK := hide (Rd.fin id hK (.inl (by omega)))
      clear hP hC hF hJ hK
      go_wp2_with fail
      go_ret
      exact ⟨L, w1.heap.size, k2, e2, rfl, unhide HK, (unhide HP).sls, hm, unhide HC, unhide HJ2, unhide HF⟩
end
end Go.Proofs.YtjoonmpjcophnaaGreatDoor

/- MsC, MpA, MpB, PdA. -/
import Derived.Test.YtjoonmpjcophnaaGreatDoorCu36
import Derived.Test.YtjoonmpjcophnaaGreatDoorCu41
import Derived.Test.YtjoonmpjcophnaaGreatDoorCu42
import Derived.Test.YtjoonmpjcophnaaGreatDoorCu46
namespace Go.Proofs.YtjoonmpjcophnaaGreatDoor
open Go.RowKit

/-- What is said of a module so that two can be compared. -/
structure Mok (m : Mo) : Prop where
  types : m.types.length ≤ 4000000
  imps : m.imps.length ≤ 4000000
  funcs : m.funcs.length ≤ 4000000
  tabs : m.tabs.length ≤ 4000000
  mems : m.mems.length ≤ 4000000
  globs : m.globs.length ≤ 4000000
  exps : m.exps.length ≤ 4000000
  elems : m.elems.length ≤ 4000000
  datas : m.datas.length ≤ 4000000
  bodies : ∀ f ∈ m.funcs, f.2.2.size ≤ 2000000 ∧ Lok f.2.2
  inits : ∀ f ∈ m.globs, f.2.2.size ≤ 2000000 ∧ Lok f.2.2
  offs : ∀ f ∈ m.elems, f.2.1.size ≤ 2000000 ∧ Lok f.2.1 ∧ f.2.2.length ≤ 4000000
  doffs : ∀ f ∈ m.datas, f.2.1.size ≤ 2000000 ∧ Lok f.2.1
end Go.Proofs.YtjoonmpjcophnaaGreatDoor
namespace Go.Proofs.YtjoonmpjcophnaaGreatDoor

/-- Instructions of no more than so many bytes. -/
def Qf (N : Nat) (T : Fo) : Prop := T.size ≤ N ∧ Lok T
theorem alone_inv {A : Type} {f : Rr A} {b l : List Int} (h : (alone f b l).2.2 = 0) : (f b).2.2 = 0 ∧ ¬ (f b).2.1 < b.length := by
  unfold alone at h
  simp only at h
  split at h
  · rename_i h1
    split at h
    · exact absurd h (by decide)
    · rename_i h2; exact ⟨h1, h2⟩
  · rename_i h1; exact absurd h h1
/-- A field: what is in it, and nothing if its section is still to come. -/
structure Fl {A : Type} (j hi : Int) (Q : A → Prop) (L : List A) : Prop where
  len : L.length ≤ 4096
  all : ∀ x ∈ L, Q x
  non : hi < j → L = []
theorem Fl.more {A : Type} {j hi hi' : Int} {Q : A → Prop} {L : List A} (h : Fl j hi Q L) (hh : hi ≤ hi') : Fl j hi' Q L := ⟨h.len, h.all, fun q => h.non (by omega)⟩
theorem Fl.put {A : Type} {j hi : Int} {Q : A → Prop} {L M : List A} (h : Fl j hi Q L) (hj : hi < j) (h1 : M.length ≤ 4096) (h2 : ∀ x ∈ M, Q x) : Fl j (max hi j) Q (L ++ M) := by
  rw [h.non hj, List.nil_append]
  exact ⟨h1, h2, fun q => by omega⟩
/-- What is read so far. -/
structure Okk (N : Nat) (hi : Int) (s : St) : Prop where
  pos : 0 ≤ hi
  types : Fl 1 hi (fun _ => True) s.1.types
  imps : Fl 2 hi (fun _ => True) s.1.imps
  tabs : Fl 4 hi (fun _ => True) s.1.tabs
  mems : Fl 5 hi (fun _ => True) s.1.mems
  globs : Fl 6 hi (fun x => Qf N x.2.2) s.1.globs
  exps : Fl 7 hi (fun _ => True) s.1.exps
  elems : Fl 9 hi (fun x => Qf N x.2.1 ∧ x.2.2.length ≤ 4096) s.1.elems
  funcs : Fl 10 hi (fun x => Qf N x.2.2) s.1.funcs
  datas : Fl 11 hi (fun x => Qf N x.2.1) s.1.datas
theorem Okk.more {N : Nat} {hi hi' : Int} {s : St} (h : Okk N hi s) (hh : hi ≤ hi') : Okk N hi' s := ⟨Int.le_trans h.pos hh, h.types.more hh, h.imps.more hh, h.tabs.more hh, h.mems.more hh, h.globs.more hh, h.exps.more hh, h.elems.more hh, h.funcs.more hh, h.datas.more hh⟩
theorem set_len : ∀ (ts : List Int) (fs : List Fn), (setTypes ts fs).length = fs.length
  | [], fs => by cases fs <;> rfl
  | _ :: _, [] => rfl
  | t :: ts, f :: fs => by show (_ :: _).length = _; rw [List.length_cons, List.length_cons, set_len ts fs]
end Go.Proofs.YtjoonmpjcophnaaGreatDoor
namespace Go.Proofs.YtjoonmpjcophnaaGreatDoor

theorem gq_P (n : Nat) : Gq (rP n) := by
  constructor
  · exact (gd_P n).len
  · exact (gd_P n).loc
  · intro l k h hk
    by_cases h1 : n ≤ l.length
    · rw [rP_ok h1] at hk
      have hk : k < n := hk
      rw [rP_no (by rw [List.length_take]; omega)]
    · rw [rP_no h1] at h
      exact absurd h (by decide)
  · intro l k h hk
    by_cases h1 : n ≤ l.length
    · rw [rP_ok h1] at hk ⊢
      have hk : n ≤ k := hk
      rw [rP_ok (by rw [List.length_take]; omega), List.take_take, Nat.min_eq_left hk]
    · rw [rP_no h1] at h
      exact absurd h (by decide)
theorem gq_bytes : Gq rBytes := (gq_U 32).bd fun _ => gq_P _
/-- The same failure; what was read, if there is none. -/
def Agr {A : Type} (a b : A × Nat × Int) : Prop := a.2.2 = b.2.2 ∧ (a.2.2 = 0 → a.1 = b.1)
theorem Agr.refl {A : Type} (a : A × Nat × Int) : Agr a a := ⟨rfl, fun _ => rfl⟩
theorem Agr.trans {A : Type} {a b c : A × Nat × Int} (h : Agr a b) (k : Agr b c) : Agr a c := ⟨h.1.trans k.1, fun q => (h.2 q).trans (k.2 (h.1.symm.trans q))⟩
theorem Agr.symm {A : Type} {a b : A × Nat × Int} (h : Agr a b) : Agr b a := ⟨h.1.symm, fun q => (h.2 (h.1.trans q)).symm⟩
theorem mod_fuel (sat : Bool) : ∀ (f g : Nat) (hi : Int) (s : St) (l : List Int), l.length < f → l.length < g → rMod sat f hi s l = rMod sat g hi s l
  | 0, _, _, _, _, h, _ => absurd h (Nat.not_lt_zero _)
  | _ + 1, 0, _, _, _, _, h => absurd h (Nat.not_lt_zero _)
  | f + 1, g + 1, hi, s, l, h1, h2 => by
    unfold rMod
    by_cases h0 : l = []
    · rw [if_pos h0, if_pos h0]
    · rw [if_neg h0, if_neg h0]
      cases l with
      | nil => exact absurd rfl h0
      | cons x r =>
        rw [List.length_cons] at h1 h2
        refine bd_congr fun _ => bd_congr fun _ => mod_fuel sat f g _ _ _ ?_ ?_
        · show ((r.drop _).length) < f; rw [List.length_drop]; omega
        · show ((r.drop _).length) < g; rw [List.length_drop]; omega
/-- All sections of these bytes. -/
def rAll (sat : Bool) (hi : Int) (s : St) : Rr St := fun l => rMod sat (l.length + 1) hi s l
theorem all_cons (sat : Bool) (hi : Int) (s : St) (x : Int) (r : List Int) : rAll sat hi s (x :: r) = bd s rB (fun n => bd s (stp1 sat hi s n) fun s' => rAll sat (max hi n) s') (x :: r) := by
  show rMod sat ((x :: r).length + 1) hi s (x :: r) = _
  unfold rMod
  rw [if_neg (by simp)]
  refine bd_congr fun _ => bd_congr fun _ => mod_fuel sat _ _ _ _ _ ?_ (Nat.lt_succ_self _)
  show ((r.drop _).length) < _
  rw [List.length_drop, List.length_cons]
  omega
theorem all_bad {sat : Bool} {hi n : Int} {s : St} {r : List Int} (h : 11 < n ∨ 0 < n ∧ n ≤ hi) : (rAll sat hi s (n :: r)).2.2 = 104 := by
  rw [all_cons, bd_ok rfl]
  show (bd s (stp1 sat hi s n) _ r).2.2 = 104
  unfold stp1
  rw [if_pos h, bd_no (show (104 : Int) ≠ 0 by decide)]
theorem all_step {sat : Bool} {hi n : Int} {s : St} {r : List Int} (h : ¬ (11 < n ∨ 0 < n ∧ n ≤ hi)) : (rAll sat hi s (n :: r)).1 = (bd s (rPc s (rSec sat n s)) (fun s' => rAll sat (max hi n) s') r).1 ∧ (rAll sat hi s (n :: r)).2.2 = (bd s (rPc s (rSec sat n s)) (fun s' => rAll sat (max hi n) s') r).2.2 := by
  rw [all_cons, bd_ok rfl]
  show (bd s (stp1 sat hi s n) _ r).1 = _ ∧ (bd s (stp1 sat hi s n) _ r).2.2 = _
  unfold stp1
  rw [if_neg h]
  exact ⟨rfl, rfl⟩
/-- What a module is, of what its sections say. -/
def fin (t : St × Nat × Int) : Mo × Int := if t.2.2 ≠ 0 then (mo0, t.2.2) else if t.1.2.length ≠ t.1.1.funcs.length then (mo0, 109) else ({ t.1.1 with funcs := setTypes t.1.2 t.1.1.funcs }, 0)
theorem dec_fin (sat : Bool) {xs : List Int} (h1 : xs.length ≤ 65536) (h2 : xs.take 8 = magic) : dec sat xs = fin (rAll sat 0 (mo0, []) (xs.drop 8)) := by
  unfold dec
  rw [if_neg (by omega), if_neg (by rw [h2]; simp)]
  rw [mod_fuel sat (xs.length + 1) ((xs.drop 8).length + 1) 0 (mo0, []) (xs.drop 8) (by rw [List.length_drop]; omega) (by omega)]
  rfl
theorem Agr.fin {a b : St × Nat × Int} (h : Agr a b) : fin a = Go.Proofs.YtjoonmpjcophnaaGreatDoor.fin b := by
  unfold Go.Proofs.YtjoonmpjcophnaaGreatDoor.fin
  by_cases h0 : a.2.2 = 0
  · have h1 : ¬ a.2.2 ≠ 0 := fun q => q h0
    have h2 : ¬ b.2.2 ≠ 0 := fun q => q (h.1.symm.trans h0)
    rw [if_neg h1, if_neg h2, h.2 h0]
  · rw [if_pos h0, if_pos (by rw [← h.1]; exact h0), h.1]
/-- What was read to the end is read likewise ahead of more. -/
theorem all_app {sat : Bool} : ∀ (n : Nat) {hi : Int} {s : St} {l : List Int}, l.length ≤ n → 0 ≤ hi → Byt l → (rAll sat hi s l).2.2 = 0 → ∃ hi' s', 0 ≤ hi' ∧ ∀ Y, Agr (rAll sat hi s (l ++ Y)) (rAll sat hi' s' Y)
  | _, hi, s, [], _, h0, _, _ => ⟨hi, s, h0, fun Y => Agr.refl _⟩
  | 0, _, _, _ :: _, h, _, _, _ => absurd h (by simp)
  | n + 1, hi, s, x :: r, hl, h0, hb, h => by
    by_cases hx : 11 < x ∨ 0 < x ∧ x ≤ hi
    · have := all_bad (sat := sat) (s := s) (r := r) hx
      rw [this] at h
      exact absurd h (by decide)
    · have h1 := (all_step (sat := sat) (s := s) (r := r) hx).2
      rw [h1] at h
      obtain ⟨g1, g2, -⟩ := bd_inv h
      have g1' := g1
      unfold rPc at g1'
      obtain ⟨i1, i2, -⟩ := bd_inv g1'
      have hk : ∀ Y, rPc s (rSec sat x s) (r ++ Y) = rPc s (rSec sat x s) r := fun Y => by
        have hq := gq_bytes.loc r Y (by rw [i1]; decide)
        unfold rPc
        rw [bd_ok (by rw [hq]; exact i1), bd_ok i1, hq]
        rfl
      have hle : (rPc s (rSec sat x s) r).2.1 ≤ r.length := by
        unfold rPc
        rw [bd_ok i1]
        have := gq_bytes.len r
        show (rBytes r).2.1 + 0 ≤ _
        omega
      rw [List.length_cons] at hl
      obtain ⟨hi', s', h0', hY⟩ := all_app (sat := sat) n (hi := max hi x) (s := (rPc s (rSec sat x s) r).1) (l := r.drop (rPc s (rSec sat x s) r).2.1) (by rw [List.length_drop]; omega) (by omega) (byt_dropS (fun y hy => hb y (List.mem_cons_of_mem _ hy)) _) g2
      refine ⟨hi', s', h0', fun Y => Agr.trans ?_ (hY Y)⟩
      have h2 := all_step (sat := sat) (s := s) (r := r ++ Y) hx
      rw [bd_ok (by rw [hk]; exact g1), hk, drop_app r Y _ hle] at h2
      exact ⟨h2.2, fun _ => h2.1⟩
theorem all_one {sat : Bool} {hi x : Int} {s : St} : ((rAll sat hi s [x]).2.2 = 100 ∨ (rAll sat hi s [x]).2.2 = 104) ∧ (11 < x → (rAll sat hi s [x]).2.2 = 104) := by
  by_cases hx : 11 < x ∨ 0 < x ∧ x ≤ hi
  · have h := all_bad (sat := sat) (s := s) (r := []) hx
    exact ⟨.inr h, fun _ => h⟩
  · refine ⟨.inl ?_, fun q => absurd (Or.inl q) hx⟩
    rw [(all_step (sat := sat) (s := s) (r := []) hx).2]
    rfl
theorem dec_more {sat : Bool} {xs : List Int} (hb : Byt xs) (hl : xs.length ≤ 6000) (h : (dec sat xs).2 = 0) (x : Int) : ((dec sat (xs ++ [x])).2 = 100 ∨ (dec sat (xs ++ [x])).2 = 104) ∧ (11 < x → (dec sat (xs ++ [x])).2 = 104) := by
  have hm : xs.take 8 = magic := by
    apply Decidable.byContradiction
    intro hn
    unfold dec at h
    rw [if_neg (by omega), if_pos hn] at h
    exact absurd h (by decide)
  have h8 : 8 ≤ xs.length := by
    have := congrArg List.length hm
    rw [List.length_take, show magic.length = 8 from rfl] at this
    omega
  have hA : (rAll sat 0 (mo0, []) (xs.drop 8)).2.2 = 0 := by
    apply Decidable.byContradiction
    intro hn
    rw [dec_fin sat (by omega) hm] at h
    unfold fin at h
    rw [if_pos hn] at h
    exact hn h
  have e1 : (xs ++ [x]).take 8 = magic := by rw [List.take_append_of_le_length h8]; exact hm
  obtain ⟨hi', s', -, hY⟩ := all_app _ (Nat.le_refl _) (Int.le_refl _) (byt_dropS hb 8) hA
  have h1 := (hY [x]).1
  have key : ∀ t : Int, t ≠ 0 → (rAll sat hi' s' [x]).2.2 = t → (dec sat (xs ++ [x])).2 = t := fun t ht q => by
    rw [dec_fin sat (by rw [List.length_append]; simp; omega) e1, drop_app xs [x] 8 h8]
    unfold fin
    rw [h1, q, if_pos ht]
  obtain ⟨a, b⟩ := all_one (sat := sat) (hi := hi') (x := x) (s := s')
  exact ⟨a.imp (key 100 (by decide)) (key 104 (by decide)), fun q => key 104 (by decide) (b q)⟩
theorem dec_cut {sat : Bool} {xs : List Int} (hl : xs.length ≤ 7) : (dec sat xs).2 = 103 := by
  unfold dec
  rw [if_neg (by omega), if_pos]
  intro hm
  have := congrArg List.length hm
  rw [List.length_take, show magic.length = 8 from rfl] at this
  omega
end Go.Proofs.YtjoonmpjcophnaaGreatDoor
namespace Go.Proofs.YtjoonmpjcophnaaGreatDoor
open Go.RowKit

theorem Sls.fr2 {α : Type} {E : El α} {w w' : World} {P : Nat → Prop} {l : List Nat} {xs : List α} {v : Value} (h : Sls E w P xs v) (hf : Fr l w w') (hl : ∀ i ∈ l, ¬ P i) : Sls E w' P xs v := h.all fun _ _ hp hc => hf.keep hc (fun hm => hl _ hm hp)
/-- The twelve cells: a module's eleven, and the functions' types. -/
structure Dr (w : World) (P : Nat → Prop) (s : St) (vs : List Value) : Prop where
  ex : ∃ v0 v1 v2 v3 v4 v5 v6 v9 v10 v11, vs = [v0, v1, v2, v3, v4, v5, v6, .bool s.1.starts, .int .u32 s.1.start, v9, v10, v11] ∧ Sls eTy w P s.1.types v0 ∧ Sls eIm w P s.1.imps v1 ∧ Sls eFn w P s.1.funcs v2 ∧ Sls eLim w P s.1.tabs v3 ∧ Sls eLim w P s.1.mems v4 ∧ Sls eCe w P s.1.globs v5 ∧ Sls eEx w P s.1.exps v6 ∧ Sls eEm w P s.1.elems v9 ∧ Sls eDa w P s.1.datas v10 ∧ Sls eU w P s.2 v11
theorem Dr.all {A B : World} {P : Nat → Prop} {s : St} {vs : List Value} (h : Dr A P s vs) (k : ∀ (p : Addr) v, P p.block → A.cell? p = some v → B.cell? p = some v) : Dr B P s vs := by
  obtain ⟨v0, v1, v2, v3, v4, v5, v6, v9, v10, v11, h, a, b, c, d, e, f, g, i, j, m⟩ := h.ex
  exact ⟨⟨v0, v1, v2, v3, v4, v5, v6, v9, v10, v11, h, a.all k, b.all k, c.all k, d.all k, e.all k, f.all k, g.all k, i.all k, j.all k, m.all k⟩⟩
theorem Dr.mono {w : World} {P P' : Nat → Prop} {s : St} {vs : List Value} (h : Dr w P s vs) (k : ∀ b, b < w.heap.size → P b → P' b) : Dr w P' s vs := by
  obtain ⟨v0, v1, v2, v3, v4, v5, v6, v9, v10, v11, h, a, b, c, d, e, f, g, i, j, m⟩ := h.ex
  exact ⟨⟨v0, v1, v2, v3, v4, v5, v6, v9, v10, v11, h, a.mono k, b.mono k, c.mono k, d.mono k, e.mono k, f.mono k, g.mono k, i.mono k, j.mono k, m.mono k⟩⟩
theorem Dr.fr {w w' : World} {P : Nat → Prop} {s : St} {vs : List Value} {l : List Nat} (h : Dr w P s vs) (hf : Fr l w w') (hl : ∀ i ∈ l, ¬ P i) : Dr w' P s vs := h.all fun _ _ hp hc => hf.keep hc (fun hm => hl _ hm hp)
theorem Dr.len {w : World} {P : Nat → Prop} {s : St} {vs : List Value} (h : Dr w P s vs) : vs.length = 12 := by
  obtain ⟨v0, v1, v2, v3, v4, v5, v6, v9, v10, v11, h, -⟩ := h.ex
  rw [h]; rfl
def nil12 : List Value := [.slice none 0 0, .slice none 0 0, .slice none 0 0, .slice none 0 0, .slice none 0 0, .slice none 0 0, .slice none 0 0, .bool false, .int .u32 0, .slice none 0 0, .slice none 0 0, .slice none 0 0]
theorem dr0 (w : World) (P : Nat → Prop) : Dr w P (mo0, []) nil12 := ⟨⟨_, _, _, _, _, _, _, _, _, _, rfl, sls_nil w P, sls_nil w P, sls_nil w P, sls_nil w P, sls_nil w P, sls_nil w P, sls_nil w P, sls_nil w P, sls_nil w P, sls_nil w P⟩⟩
/-- Sections that are still to come have said nothing. -/
structure Non (hi : Int) (s : St) : Prop where
  pos : 0 ≤ hi
  types : hi < 1 → s.1.types = []
  imps : hi < 2 → s.1.imps = []
  tabs : hi < 4 → s.1.tabs = []
  mems : hi < 5 → s.1.mems = []
  globs : hi < 6 → s.1.globs = []
  exps : hi < 7 → s.1.exps = []
  elems : hi < 9 → s.1.elems = []
  funcs : hi < 10 → s.1.funcs = []
  datas : hi < 11 → s.1.datas = []
theorem non0 : Non 0 (mo0, []) := ⟨Int.le_refl _, fun _ => rfl, fun _ => rfl, fun _ => rfl, fun _ => rfl, fun _ => rfl, fun _ => rfl, fun _ => rfl, fun _ => rfl, fun _ => rfl⟩
theorem Non.more {hi hi' : Int} {s : St} (h : Non hi s) (hh : hi ≤ hi') : Non hi' s := ⟨Int.le_trans h.pos hh, fun q => h.types (by omega), fun q => h.imps (by omega), fun q => h.tabs (by omega), fun q => h.mems (by omega), fun q => h.globs (by omega), fun q => h.exps (by omega), fun q => h.elems (by omega), fun q => h.funcs (by omega), fun q => h.datas (by omega)⟩
section
variable {xs : List Int} {k k' : Nat} {e e' : Int} {sat : Bool}
theorem Dr.set_types {w : World} {P : Nat → Prop} {s : St} {vs : List Value} {L} {v : Value} (h : Dr w P s vs) (h0 : s.1.types = []) (hv : Sls eTy w P L v) : Dr w P ({ s.1 with types := s.1.types ++ L }, s.2) (vs.set 0 v) := by
  obtain ⟨v0, v1, v2, v3, v4, v5, v6, v9, v10, v11, rfl, a, b, c, d, e, f, g, i, j, m⟩ := h.ex
  exact ⟨⟨v, v1, v2, v3, v4, v5, v6, v9, v10, v11, rfl, (by rw [h0, List.nil_append]; exact hv), b, c, d, e, f, g, i, j, m⟩⟩
theorem rd_sec1 {s : St} {L} (h : Rd (rList rFunc) xs k e L k' e') : Rd (rSec sat 1 s) xs k e ({ s.1 with types := s.1.types ++ L }, s.2) k' e' := by
  have := h.bd (z := s) (g := fun L => giv (({ s.1 with types := s.1.types ++ L }, s.2) : St)) (Rd.giv _ _ _ _)
  simpa [rSec] using this
theorem Non.step1 {hi : Int} {s : St} (h : Non hi s) {L} (hn : hi < 1) : Non (max hi 1) ({ s.1 with types := s.1.types ++ L }, s.2) :=
  ⟨by omega, fun q => by omega, fun q => h.imps (by omega), fun q => h.tabs (by omega), fun q => h.mems (by omega), fun q => h.globs (by omega), fun q => h.exps (by omega), fun q => h.elems (by omega), fun q => h.funcs (by omega), fun q => h.datas (by omega)⟩
theorem Dr.set_imps {w : World} {P : Nat → Prop} {s : St} {vs : List Value} {L} {v : Value} (h : Dr w P s vs) (h0 : s.1.imps = []) (hv : Sls eIm w P L v) : Dr w P ({ s.1 with imps := s.1.imps ++ L }, s.2) (vs.set 1 v) := by
  obtain ⟨v0, v1, v2, v3, v4, v5, v6, v9, v10, v11, rfl, a, b, c, d, e, f, g, i, j, m⟩ := h.ex
  exact ⟨⟨v0, v, v2, v3, v4, v5, v6, v9, v10, v11, rfl, a, (by rw [h0, List.nil_append]; exact hv), c, d, e, f, g, i, j, m⟩⟩
theorem rd_sec2 {s : St} {L} (h : Rd (rList rImp) xs k e L k' e') : Rd (rSec sat 2 s) xs k e ({ s.1 with imps := s.1.imps ++ L }, s.2) k' e' := by
  have := h.bd (z := s) (g := fun L => giv (({ s.1 with imps := s.1.imps ++ L }, s.2) : St)) (Rd.giv _ _ _ _)
  simpa [rSec] using this
theorem Non.step2 {hi : Int} {s : St} (h : Non hi s) {L} (hn : hi < 2) : Non (max hi 2) ({ s.1 with imps := s.1.imps ++ L }, s.2) :=
  ⟨by omega, fun q => h.types (by omega), fun q => by omega, fun q => h.tabs (by omega), fun q => h.mems (by omega), fun q => h.globs (by omega), fun q => h.exps (by omega), fun q => h.elems (by omega), fun q => h.funcs (by omega), fun q => h.datas (by omega)⟩
theorem Dr.set_funcs {w : World} {P : Nat → Prop} {s : St} {vs : List Value} {L} {v : Value} (h : Dr w P s vs) (h0 : s.1.funcs = []) (hv : Sls eFn w P L v) : Dr w P ({ s.1 with funcs := s.1.funcs ++ L }, s.2) (vs.set 2 v) := by
  obtain ⟨v0, v1, v2, v3, v4, v5, v6, v9, v10, v11, rfl, a, b, c, d, e, f, g, i, j, m⟩ := h.ex
  exact ⟨⟨v0, v1, v, v3, v4, v5, v6, v9, v10, v11, rfl, a, b, (by rw [h0, List.nil_append]; exact hv), d, e, f, g, i, j, m⟩⟩
theorem rd_sec10 {s : St} {L} (h : Rd (rList (rPc (0, [], .nil) (rFn sat))) xs k e L k' e') : Rd (rSec sat 10 s) xs k e ({ s.1 with funcs := s.1.funcs ++ L }, s.2) k' e' := by
  have := h.bd (z := s) (g := fun L => giv (({ s.1 with funcs := s.1.funcs ++ L }, s.2) : St)) (Rd.giv _ _ _ _)
  simpa [rSec] using this
theorem Non.step10 {hi : Int} {s : St} (h : Non hi s) {L} (hn : hi < 10) : Non (max hi 10) ({ s.1 with funcs := s.1.funcs ++ L }, s.2) :=
  ⟨by omega, fun q => h.types (by omega), fun q => h.imps (by omega), fun q => h.tabs (by omega), fun q => h.mems (by omega), fun q => h.globs (by omega), fun q => h.exps (by omega), fun q => h.elems (by omega), fun q => by omega, fun q => h.datas (by omega)⟩
theorem Dr.set_tabs {w : World} {P : Nat → Prop} {s : St} {vs : List Value} {L} {v : Value} (h : Dr w P s vs) (h0 : s.1.tabs = []) (hv : Sls eLim w P L v) : Dr w P ({ s.1 with tabs := s.1.tabs ++ L }, s.2) (vs.set 3 v) := by
  obtain ⟨v0, v1, v2, v3, v4, v5, v6, v9, v10, v11, rfl, a, b, c, d, e, f, g, i, j, m⟩ := h.ex
  exact ⟨⟨v0, v1, v2, v, v4, v5, v6, v9, v10, v11, rfl, a, b, c, (by rw [h0, List.nil_append]; exact hv), e, f, g, i, j, m⟩⟩
theorem rd_sec4 {s : St} {L} (h : Rd (rList rTable) xs k e L k' e') : Rd (rSec sat 4 s) xs k e ({ s.1 with tabs := s.1.tabs ++ L }, s.2) k' e' := by
  have := h.bd (z := s) (g := fun L => giv (({ s.1 with tabs := s.1.tabs ++ L }, s.2) : St)) (Rd.giv _ _ _ _)
  simpa [rSec] using this
theorem Non.step4 {hi : Int} {s : St} (h : Non hi s) {L} (hn : hi < 4) : Non (max hi 4) ({ s.1 with tabs := s.1.tabs ++ L }, s.2) :=
  ⟨by omega, fun q => h.types (by omega), fun q => h.imps (by omega), fun q => by omega, fun q => h.mems (by omega), fun q => h.globs (by omega), fun q => h.exps (by omega), fun q => h.elems (by omega), fun q => h.funcs (by omega), fun q => h.datas (by omega)⟩
theorem Dr.set_mems {w : World} {P : Nat → Prop} {s : St} {vs : List Value} {L} {v : Value} (h : Dr w P s vs) (h0 : s.1.mems = []) (hv : Sls eLim w P L v) : Dr w P ({ s.1 with mems := s.1.mems ++ L }, s.2) (vs.set 4 v) := by
  obtain ⟨v0, v1, v2, v3, v4, v5, v6, v9, v10, v11, rfl, a, b, c, d, e, f, g, i, j, m⟩ := h.ex
  exact ⟨⟨v0, v1, v2, v3, v, v5, v6, v9, v10, v11, rfl, a, b, c, d, (by rw [h0, List.nil_append]; exact hv), f, g, i, j, m⟩⟩
theorem rd_sec5 {s : St} {L} (h : Rd (rList rLimits) xs k e L k' e') : Rd (rSec sat 5 s) xs k e ({ s.1 with mems := s.1.mems ++ L }, s.2) k' e' := by
  have := h.bd (z := s) (g := fun L => giv (({ s.1 with mems := s.1.mems ++ L }, s.2) : St)) (Rd.giv _ _ _ _)
  simpa [rSec] using this
theorem Non.step5 {hi : Int} {s : St} (h : Non hi s) {L} (hn : hi < 5) : Non (max hi 5) ({ s.1 with mems := s.1.mems ++ L }, s.2) :=
  ⟨by omega, fun q => h.types (by omega), fun q => h.imps (by omega), fun q => h.tabs (by omega), fun q => by omega, fun q => h.globs (by omega), fun q => h.exps (by omega), fun q => h.elems (by omega), fun q => h.funcs (by omega), fun q => h.datas (by omega)⟩
theorem Dr.set_globs {w : World} {P : Nat → Prop} {s : St} {vs : List Value} {L} {v : Value} (h : Dr w P s vs) (h0 : s.1.globs = []) (hv : Sls eCe w P L v) : Dr w P ({ s.1 with globs := s.1.globs ++ L }, s.2) (vs.set 5 v) := by
  obtain ⟨v0, v1, v2, v3, v4, v5, v6, v9, v10, v11, rfl, a, b, c, d, e, f, g, i, j, m⟩ := h.ex
  exact ⟨⟨v0, v1, v2, v3, v4, v, v6, v9, v10, v11, rfl, a, b, c, d, e, (by rw [h0, List.nil_append]; exact hv), g, i, j, m⟩⟩
theorem rd_sec6 {s : St} {L} (h : Rd (rList (rCe sat)) xs k e L k' e') : Rd (rSec sat 6 s) xs k e ({ s.1 with globs := s.1.globs ++ L }, s.2) k' e' := by
  have := h.bd (z := s) (g := fun L => giv (({ s.1 with globs := s.1.globs ++ L }, s.2) : St)) (Rd.giv _ _ _ _)
  simpa [rSec] using this
theorem Non.step6 {hi : Int} {s : St} (h : Non hi s) {L} (hn : hi < 6) : Non (max hi 6) ({ s.1 with globs := s.1.globs ++ L }, s.2) :=
  ⟨by omega, fun q => h.types (by omega), fun q => h.imps (by omega), fun q => h.tabs (by omega), fun q => h.mems (by omega), fun q => by omega, fun q => h.exps (by omega), fun q => h.elems (by omega), fun q => h.funcs (by omega), fun q => h.datas (by omega)⟩
theorem Dr.set_exps {w : World} {P : Nat → Prop} {s : St} {vs : List Value} {L} {v : Value} (h : Dr w P s vs) (h0 : s.1.exps = []) (hv : Sls eEx w P L v) : Dr w P ({ s.1 with exps := s.1.exps ++ L }, s.2) (vs.set 6 v) := by
  obtain ⟨v0, v1, v2, v3, v4, v5, v6, v9, v10, v11, rfl, a, b, c, d, e, f, g, i, j, m⟩ := h.ex
  exact ⟨⟨v0, v1, v2, v3, v4, v5, v, v9, v10, v11, rfl, a, b, c, d, e, f, (by rw [h0, List.nil_append]; exact hv), i, j, m⟩⟩
theorem rd_sec7 {s : St} {L} (h : Rd (rList rEx) xs k e L k' e') : Rd (rSec sat 7 s) xs k e ({ s.1 with exps := s.1.exps ++ L }, s.2) k' e' := by
  have := h.bd (z := s) (g := fun L => giv (({ s.1 with exps := s.1.exps ++ L }, s.2) : St)) (Rd.giv _ _ _ _)
  simpa [rSec] using this
theorem Non.step7 {hi : Int} {s : St} (h : Non hi s) {L} (hn : hi < 7) : Non (max hi 7) ({ s.1 with exps := s.1.exps ++ L }, s.2) :=
  ⟨by omega, fun q => h.types (by omega), fun q => h.imps (by omega), fun q => h.tabs (by omega), fun q => h.mems (by omega), fun q => h.globs (by omega), fun q => by omega, fun q => h.elems (by omega), fun q => h.funcs (by omega), fun q => h.datas (by omega)⟩
theorem Dr.set_elems {w : World} {P : Nat → Prop} {s : St} {vs : List Value} {L} {v : Value} (h : Dr w P s vs) (h0 : s.1.elems = []) (hv : Sls eEm w P L v) : Dr w P ({ s.1 with elems := s.1.elems ++ L }, s.2) (vs.set 9 v) := by
  obtain ⟨v0, v1, v2, v3, v4, v5, v6, v9, v10, v11, rfl, a, b, c, d, e, f, g, i, j, m⟩ := h.ex
  exact ⟨⟨v0, v1, v2, v3, v4, v5, v6, v, v10, v11, rfl, a, b, c, d, e, f, g, (by rw [h0, List.nil_append]; exact hv), j, m⟩⟩
theorem rd_sec9 {s : St} {L} (h : Rd (rList (rEm sat)) xs k e L k' e') : Rd (rSec sat 9 s) xs k e ({ s.1 with elems := s.1.elems ++ L }, s.2) k' e' := by
  have := h.bd (z := s) (g := fun L => giv (({ s.1 with elems := s.1.elems ++ L }, s.2) : St)) (Rd.giv _ _ _ _)
  simpa [rSec] using this
theorem Non.step9 {hi : Int} {s : St} (h : Non hi s) {L} (hn : hi < 9) : Non (max hi 9) ({ s.1 with elems := s.1.elems ++ L }, s.2) :=
  ⟨by omega, fun q => h.types (by omega), fun q => h.imps (by omega), fun q => h.tabs (by omega), fun q => h.mems (by omega), fun q => h.globs (by omega), fun q => h.exps (by omega), fun q => by omega, fun q => h.funcs (by omega), fun q => h.datas (by omega)⟩
theorem Dr.set_datas {w : World} {P : Nat → Prop} {s : St} {vs : List Value} {L} {v : Value} (h : Dr w P s vs) (h0 : s.1.datas = []) (hv : Sls eDa w P L v) : Dr w P ({ s.1 with datas := s.1.datas ++ L }, s.2) (vs.set 10 v) := by
  obtain ⟨v0, v1, v2, v3, v4, v5, v6, v9, v10, v11, rfl, a, b, c, d, e, f, g, i, j, m⟩ := h.ex
  exact ⟨⟨v0, v1, v2, v3, v4, v5, v6, v9, v, v11, rfl, a, b, c, d, e, f, g, i, (by rw [h0, List.nil_append]; exact hv), m⟩⟩
theorem rd_sec11 {s : St} {L} (h : Rd (rList (rDa sat)) xs k e L k' e') : Rd (rSec sat 11 s) xs k e ({ s.1 with datas := s.1.datas ++ L }, s.2) k' e' := by
  have := h.bd (z := s) (g := fun L => giv (({ s.1 with datas := s.1.datas ++ L }, s.2) : St)) (Rd.giv _ _ _ _)
  simpa [rSec] using this
theorem Non.step11 {hi : Int} {s : St} (h : Non hi s) {L} (hn : hi < 11) : Non (max hi 11) ({ s.1 with datas := s.1.datas ++ L }, s.2) :=
  ⟨by omega, fun q => h.types (by omega), fun q => h.imps (by omega), fun q => h.tabs (by omega), fun q => h.mems (by omega), fun q => h.globs (by omega), fun q => h.exps (by omega), fun q => h.elems (by omega), fun q => h.funcs (by omega), fun q => by omega⟩
theorem Dr.set_fty {w : World} {P : Nat → Prop} {s : St} {vs : List Value} {L : List Int} {v : Value} (h : Dr w P s vs) (hv : Sls eU w P L v) : Dr w P (s.1, L) (vs.set 11 v) := by
  obtain ⟨v0, v1, v2, v3, v4, v5, v6, v9, v10, v11, rfl, a, b, c, d, e, f, g, i, j, m⟩ := h.ex
  exact ⟨⟨v0, v1, v2, v3, v4, v5, v6, v9, v10, v, rfl, a, b, c, d, e, f, g, i, j, hv⟩⟩
theorem rd_sec3 {s : St} {L : List Int} (h : Rd (rList (rU 32)) xs k e L k' e') : Rd (rSec sat 3 s) xs k e (s.1, L) k' e' := by
  have := h.bd (z := s) (g := fun L => giv ((s.1, L) : St)) (Rd.giv _ _ _ _)
  simpa [rSec] using this
theorem Dr.set_start {w : World} {P : Nat → Prop} {s : St} {vs : List Value} (h : Dr w P s vs) (y : Int) : Dr w P ({ s.1 with starts := true, start := y }, s.2) ((vs.set 7 (.bool true)).set 8 (.int .u32 y)) := by
  obtain ⟨v0, v1, v2, v3, v4, v5, v6, v9, v10, v11, rfl, a, b, c, d, e, f, g, i, j, m⟩ := h.ex
  exact ⟨⟨v0, v1, v2, v3, v4, v5, v6, v9, v10, v11, rfl, a, b, c, d, e, f, g, i, j, m⟩⟩
theorem rd_sec8 {s : St} {y : Int} (h : Rd (rU 32) xs k e y k' e') : Rd (rSec sat 8 s) xs k e ({ s.1 with starts := true, start := y }, s.2) k' e' := by
  have := h.bd (z := s) (g := fun x => giv (({ s.1 with starts := true, start := x }, s.2) : St)) (Rd.giv _ _ _ _)
  simpa [rSec] using this
end
/-- Behind a section. -/
theorem Non.sec {sat : Bool} {hi n : Int} {s : St} (h : Non hi s) (h0 : 0 ≤ n) (h11 : n ≤ 11) (hn : n = 0 ∨ hi < n) {l : List Int} (he : (rSec sat n s l).2.2 = 0) : Non (max hi n) (rSec sat n s l).1 := by
  have hm := h.more (show hi ≤ max hi n by omega)
  unfold rSec at he ⊢
  by_cases q0 : n = 0
  · subst q0
    rw [if_pos rfl] at he ⊢
    obtain ⟨-, -, h3⟩ := bd_inv he
    rw [h3]
    exact { hm with }
  rw [if_neg q0] at he ⊢
  by_cases q1 : n = 1
  · subst q1
    rw [if_pos rfl] at he ⊢
    obtain ⟨-, -, h3⟩ := bd_inv he
    rw [h3]
    exact h.step1 (by omega)
  rw [if_neg q1] at he ⊢
  by_cases q2 : n = 2
  · subst q2
    rw [if_pos rfl] at he ⊢
    obtain ⟨-, -, h3⟩ := bd_inv he
    rw [h3]
    exact h.step2 (by omega)
  rw [if_neg q2] at he ⊢
  by_cases q3 : n = 3
  · subst q3
    rw [if_pos rfl] at he ⊢
    obtain ⟨-, -, h3⟩ := bd_inv he
    rw [h3]
    exact { hm with }
  rw [if_neg q3] at he ⊢
  by_cases q4 : n = 4
  · subst q4
    rw [if_pos rfl] at he ⊢
    obtain ⟨-, -, h3⟩ := bd_inv he
    rw [h3]
    exact h.step4 (by omega)
  rw [if_neg q4] at he ⊢
  by_cases q5 : n = 5
  · subst q5
    rw [if_pos rfl] at he ⊢
    obtain ⟨-, -, h3⟩ := bd_inv he
    rw [h3]
    exact h.step5 (by omega)
  rw [if_neg q5] at he ⊢
  by_cases q6 : n = 6
  · subst q6
    rw [if_pos rfl] at he ⊢
    obtain ⟨-, -, h3⟩ := bd_inv he
    rw [h3]
    exact h.step6 (by omega)
  rw [if_neg q6] at he ⊢
  by_cases q7 : n = 7
  · subst q7
    rw [if_pos rfl] at he ⊢
    obtain ⟨-, -, h3⟩ := bd_inv he
    rw [h3]
    exact h.step7 (by omega)
  rw [if_neg q7] at he ⊢
  by_cases q8 : n = 8
  · subst q8
    rw [if_pos rfl] at he ⊢
    obtain ⟨-, -, h3⟩ := bd_inv he
    rw [h3]
    exact { hm with }
  rw [if_neg q8] at he ⊢
  by_cases q9 : n = 9
  · subst q9
    rw [if_pos rfl] at he ⊢
    obtain ⟨-, -, h3⟩ := bd_inv he
    rw [h3]
    exact h.step9 (by omega)
  rw [if_neg q9] at he ⊢
  by_cases q10 : n = 10
  · subst q10
    rw [if_pos rfl] at he ⊢
    obtain ⟨-, -, h3⟩ := bd_inv he
    rw [h3]
    exact h.step10 (by omega)
  rw [if_neg q10] at he ⊢
  obtain rfl : n = 11 := by omega
  obtain ⟨-, -, h3⟩ := bd_inv he
  rw [h3]
  exact h.step11 (by omega)
end Go.Proofs.YtjoonmpjcophnaaGreatDoor

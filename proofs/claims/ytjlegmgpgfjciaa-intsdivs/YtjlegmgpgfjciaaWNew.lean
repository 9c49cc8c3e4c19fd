/- A region that draws its order, in which new variables are made beside a chain of calls: whenever the variables are made, the calls go their way, each from any world that meets what stands so far. -/
import Derived.Test.YtjlegmgpgfjciaaWRefI
import Derived.Deep.RegionHeld3
namespace Go.Proofs.Ytjlegmgpgfjciaa.W
open Go.RowKit

section
variable {P : Program} {ops : Array Oper} {Q : Exit → Act → World → Prop} {md : Region.Mode} {S : World → Prop}

/-- Operation j neither looks at temporary d nor writes it. -/
def noTouch (ops : Array Oper) (j d : Nat) : Bool :=
  match ops[j]? with
  | some o => !(o.looksAt ops).contains d && o.dst != some d
  | none => false

/-- Whether a pointer lies already in a temporary that operation j does not touch makes no difference to it. -/
theorem wpOp_over {j d : Nat} {v : Value} (hn : noTouch ops j d = true) (hs : Region.noSelect ops = true)
    (hQ : ∀ c a w, Q (.panic c) a w → Q (.panic c) (a.put (some d) v) w) {K : Act → World → Prop} {a : Act} {w : World}
    (h : wpOp P ops Q j (fun a' w' => K (a'.put (some d) v) w') a w) : wpOp P ops Q j K (a.put (some d) v) w := by
  unfold noTouch at hn
  cases hj : ops[j]? with
  | none => simp [hj] at hn
  | some oj =>
    simp [hj] at hn
    obtain ⟨h1', h2'⟩ := hn
    have h1 : ∀ e, some d = some e → e ∉ oj.looksAt ops := fun e he => by injection he with he; subst he; exact h1'
    have h2 : ∀ e, oj.dst = some e → some d ≠ some e := fun e he hd => h2' (by rw [he, hd])
    have hsj : ∀ cs b, oj.op ≠ .select cs b := fun cs b => Region.noSelect_spec hs j oj cs b hj
    unfold wpOp at *
    simp only [hj] at *
    rw [wanted_put oj a (some d) v h1]
    split
    · rename_i hw
      simp only [hw, if_true] at h
      rcases h with h | ⟨hasks, hlets⟩
      case inr => exact .inr ⟨by unfold Oper.asks at *; rw [execOp_put oj hsj a (some d) v h1]; exact hasks, hlets⟩
      refine .inl ?_
      unfold Oper.wp at *
      rw [execOp_put oj hsj a (some d) v h1]
      generalize (execOp a.eval oj).run P w = r at *
      cases r with
      | ok n w' =>
        cases n <;> simp only [Oper.upon] at h ⊢
        case value u => rw [← Act.put_comm a u v h2]; exact h
        case skip => rw [← Act.put_comm a undef v h2]; exact h
        case defer dd =>
          rw [Act.put_defers, ← Act.put_comm _ undef v h2]
          exact h
        case enter f args =>
          refine Calls.mono h fun e w'' he => ?_
          cases e with
          | returned u => simp only [] at he ⊢; rw [← Act.put_comm a u v h2]; exact he
          | panicked c => exact hQ _ _ _ he
          | outgrown => exact he
        case row row args => exact Rows.mono h fun u w'' he => by rw [← Act.put_comm a u v h2]; exact he
      | halt x w' =>
        cases x <;> simp only [Oper.upon] at h ⊢
        case panic u => exact hQ _ _ _ h
        all_goals exact h
    · rename_i hw
      simp only [hw] at h
      rw [← Act.put_comm a undef v h2]; exact h

def ptr (b : Nat) : Value := .pointer (some ⟨b, 0, none⟩)

/-- What holds keeps holding where only new memory is touched. -/
def Stable (T : World → Prop) : Prop := ∀ w w', T w → Below w.heap.size w w' → T w'

/-- A new variable that still holds its zero value. -/
structure Fresh (N : Nat) (v : Value) (b : Nat) (w : World) : Prop where
  cell : w.cell? ⟨b, 0, none⟩ = some v
  thawed : w.frozen? ⟨b, 0, none⟩ = false
  size : b < w.heap.size
  base : N ≤ b
theorem Fresh.below {N b : Nat} {v : Value} {w w' : World} (h : Fresh N v b w) (hb : Below w.heap.size w w') : Fresh N v b w' :=
  ⟨by rw [hb.cell (p := ⟨b, 0, none⟩) h.size]; exact h.cell, by rw [hb.frozen (p := ⟨b, 0, none⟩) h.size]; exact h.thawed, Nat.lt_of_lt_of_le h.size hb.size, h.base⟩
theorem Fresh.new {N : Nat} {v : Value} {t : TypeId} {w : World} (h : N ≤ w.heap.size) : Fresh N v w.heap.size (w.alloc (.cells #[v] t)) :=
  ⟨by simp, by simp [go_sem], by simp, h⟩

/-- Operation i makes a new variable, whatever the state and the world are. -/
def Makes (P : Program) (ops : Array Oper) (Q : Exit → Act → World → Prop) (i d : Nat) (v : Value) (t : TypeId) : Prop :=
  ∀ (a : Act) (w : World) (K : Act → World → Prop), K (a.put (some d) (ptr w.heap.size)) (w.alloc (.cells #[v] t)) → wpOp P ops Q i K a w

/-- The lists that stand where the variables are made early or late. -/
def sides (i1 i2 : Nat) (L : Array Bool) : List (Array Bool) := [L, L.setIfInBounds i1 true, L.setIfInBounds i2 true, (L.setIfInBounds i1 true).setIfInBounds i2 true]

/-- A walk that leaves the two new variables out: its operations are taken first, or each from any world that meets T. -/
def WU (P : Program) (ops : Array Oper) (Q : Exit → Act → World → Prop) (md : Region.Mode) (S : World → Prop) (N i1 d1 : Nat) (v1 : Value) (i2 d2 : Nat) (v2 : Value) (f : Nat) : Nat → Array Bool → Act → (World → Prop) → Prop
  | 0, L, a, T => ((sides i1 i2 L).take 3).all (fun L' => !(Region.ready md ops L').isEmpty && (Region.ready md ops L').all (fun j => j == i1 || j == i2)) = true ∧
      ∀ w b1 b2, b1 ≠ b2 → S w → T w → Fresh N v1 b1 w → Fresh N v2 b2 w → wpAnyH P md ops Q S f ((L.setIfInBounds i1 true).setIfInBounds i2 true) ((a.put (some d1) (ptr b1)).put (some d2) (ptr b2)) w
  | n + 1, L, a, T =>
    (∃ i oi v, ops[i]? = some oi ∧ (sides i1 i2 L).all (fun L' => Region.free md ops L' i && (Region.ready md ops L').contains i) = true ∧ noTouch ops i d1 = true ∧ noTouch ops i d2 = true ∧ i ≠ i1 ∧ i ≠ i2 ∧
      (∀ c a w, Q (.panic c) (a.put oi.dst v) w → Q (.panic c) a w) ∧ YieldsIf P ops S oi v a ∧ WU P ops Q md S N i1 d1 v1 i2 d2 v2 f n (L.setIfInBounds i true) (a.put oi.dst v) T) ∨
    (∃ c, (sides i1 i2 L).all (fun L' => !(Region.ready md ops L').isEmpty && (Region.ready md ops L').all (fun j => j == c || j == i1 || j == i2)) = true ∧ noTouch ops c d1 = true ∧ noTouch ops c d2 = true ∧ c ≠ i1 ∧ c ≠ i2 ∧
      ∀ w, S w → T w → wpOp P ops Q c (fun a' w' => Below w.heap.size w w' ∧ ∃ T', Stable T' ∧ T' w' ∧ WU P ops Q md S N i1 d1 v1 i2 d2 v2 f n (L.setIfInBounds c true) a' T') a w)

theorem not_ready {L : Array Bool} {i : Nat} : i ∉ Region.ready md ops (L.setIfInBounds i true) := by
  intro h
  have h0 := (mem_ready.1 h).1
  rw [Array.getD_eq_getD_getElem?, Array.getElem?_setIfInBounds] at h0
  simp at h0
  split at h0 <;> simp_all

variable {N i1 d1 i2 d2 : Nat} {v1 v2 : Value} {t1 t2 : TypeId} {f : Nat}

theorem alloc_stable {T : World → Prop} (h : Stable T) {w : World} (hT : T w) (o : Obj) : T (w.alloc o) := h _ _ hT (below1 _ _)

theorem yields_over {i d : Nat} {oi : Oper} {v p : Value} {a : Act} (hi : ops[i]? = some oi) (hs : Region.noSelect ops = true) (hn : noTouch ops i d = true) (h : YieldsIf P ops S oi v a) : YieldsIf P ops S oi v (a.put (some d) p) := by
  unfold noTouch at hn
  simp [hi] at hn
  have h1 : ∀ e, some d = some e → e ∉ oi.looksAt ops := fun e he => by injection he with he; subst he; exact hn.1
  exact h.of_same (execOp_put oi (fun cs b => Region.noSelect_spec hs i oi cs b hi) a (some d) p h1) (wanted_put oi a (some d) p h1)

theorem dst_ne {i d : Nat} {oi : Oper} (hi : ops[i]? = some oi) (hn : noTouch ops i d = true) : ∀ e, oi.dst = some e → some d ≠ some e := by
  unfold noTouch at hn
  simp [hi] at hn
  exact fun e he hd => hn.2 (by rw [he, hd])

theorem wu_any (hs : Region.noSelect ops = true) (hQ : ∀ c a d v w, Q (.panic c) a w → Q (.panic c) (a.put (some d) v) w) (hS : Stable S)
    (hd : d1 ≠ d2) (hi : i1 ≠ i2) (m1 : Makes P ops Q i1 d1 v1 t1) (m2 : Makes P ops Q i2 d2 v2 t2) :
    ∀ (n : Nat) (L : Array Bool) (a : Act) (T : World → Prop), Stable T → WU P ops Q md S N i1 d1 v1 i2 d2 v2 f n L a T →
      (∀ w, S w → T w → N ≤ w.heap.size → wpAnyH P md ops Q S (f + n + 2) L a w) ∧
      (∀ w b1, S w → T w → N ≤ w.heap.size → Fresh N v1 b1 w → wpAnyH P md ops Q S (f + n + 1) (L.setIfInBounds i1 true) (a.put (some d1) (ptr b1)) w) ∧
      (∀ w b2, S w → T w → N ≤ w.heap.size → Fresh N v2 b2 w → wpAnyH P md ops Q S (f + n + 1) (L.setIfInBounds i2 true) (a.put (some d2) (ptr b2)) w) ∧
      (∀ w b1 b2, b1 ≠ b2 → S w → T w → N ≤ w.heap.size → Fresh N v1 b1 w → Fresh N v2 b2 w → wpAnyH P md ops Q S (f + n) ((L.setIfInBounds i1 true).setIfInBounds i2 true) ((a.put (some d1) (ptr b1)).put (some d2) (ptr b2)) w) := by
  have hdd : ∀ e, some d1 = some e → some d2 ≠ some e := fun e he hh => hd (by injection he with he; injection hh with hh; omega)
  intro n
  induction n with
  | zero =>
    intro L a T hT h
    obtain ⟨hr, h11⟩ := h
    simp only [sides, List.take_succ_cons, List.take_zero, List.all_cons, List.all_nil, Bool.and_true, Bool.and_eq_true, List.all_eq_true, Bool.or_eq_true, beq_iff_eq, Bool.not_eq_true', List.isEmpty_eq_false_iff] at hr
    obtain ⟨⟨e0, r0⟩, ⟨e1, r1⟩, ⟨e2, r2⟩⟩ := hr
    have g11 : ∀ w b1 b2, b1 ≠ b2 → S w → T w → N ≤ w.heap.size → Fresh N v1 b1 w → Fresh N v2 b2 w → wpAnyH P md ops Q S (f + 0) ((L.setIfInBounds i1 true).setIfInBounds i2 true) ((a.put (some d1) (ptr b1)).put (some d2) (ptr b2)) w :=
      fun w b1 b2 hb hSw hTw _ k1 k2 => h11 w b1 b2 hb hSw hTw k1 k2
    have g10 : ∀ w b1, S w → T w → N ≤ w.heap.size → Fresh N v1 b1 w → wpAnyH P md ops Q S (f + 0 + 1) (L.setIfInBounds i1 true) (a.put (some d1) (ptr b1)) w := by
      intro w b1 hSw hTw hN k1
      refine ⟨fun h => absurd h e1, fun j hj => ?_⟩
      rcases r1 j hj with rfl | rfl
      · exact absurd hj not_ready
      · refine m2 _ _ _ ⟨alloc_stable hS hSw _, g11 _ _ _ ?_ (alloc_stable hS hSw _) (alloc_stable hT hTw _) (by simp; omega) (k1.below (below1 _ _)) (Fresh.new hN)⟩
        have := k1.size; omega
    have g01 : ∀ w b2, S w → T w → N ≤ w.heap.size → Fresh N v2 b2 w → wpAnyH P md ops Q S (f + 0 + 1) (L.setIfInBounds i2 true) (a.put (some d2) (ptr b2)) w := by
      intro w b2 hSw hTw hN k2
      refine ⟨fun h => absurd h e2, fun j hj => ?_⟩
      rcases r2 j hj with rfl | rfl
      · refine m1 _ _ _ ⟨alloc_stable hS hSw _, ?_⟩
        rw [← Act.put_comm a _ _ hdd, ← Array.setIfInBounds_comm _ _ hi]
        refine g11 _ _ _ ?_ (alloc_stable hS hSw _) (alloc_stable hT hTw _) (by simp; omega) (Fresh.new hN) (k2.below (below1 _ _))
        have := k2.size; omega
      · exact absurd hj not_ready
    refine ⟨?_, g10, g01, g11⟩
    intro w hSw hTw hN
    refine ⟨fun h => absurd h e0, fun j hj => ?_⟩
    rcases r0 j hj with rfl | rfl
    · exact m1 _ _ _ ⟨alloc_stable hS hSw _, g10 _ _ (alloc_stable hS hSw _) (alloc_stable hT hTw _) (by simp; omega) (Fresh.new hN)⟩
    · exact m2 _ _ _ ⟨alloc_stable hS hSw _, g01 _ _ (alloc_stable hS hSw _) (alloc_stable hT hTw _) (by simp; omega) (Fresh.new hN)⟩
  | succ n ih =>
    intro L a T hT h
    rcases h with ⟨i, oi, v, ho, hr, nt1, nt2, hi1, hi2, hP, hy, hW⟩ | ⟨c, hr, nt1, nt2, hc1, hc2, hc⟩
    · obtain ⟨h00, h10, h01, h11⟩ := ih _ _ T hT hW
      simp only [sides, List.all_cons, List.all_nil, Bool.and_true, Bool.and_eq_true] at hr
      obtain ⟨⟨f0, r0⟩, ⟨f1, r1⟩, ⟨f2, r2⟩, ⟨f3, r3⟩⟩ := hr
      have c1 := dst_ne ho nt1
      have c2 := dst_ne ho nt2
      refine ⟨?_, ?_, ?_, ?_⟩
      · intro w hSw hTw hN
        exact wpAnyH_take ho hs f0 r0 hP hy hSw (h00 w hSw hTw hN)
      · intro w b1 hSw hTw hN k1
        refine wpAnyH_take ho hs f1 r1 hP (yields_over ho hs nt1 hy) hSw ?_
        rw [← Act.put_comm a _ _ c1, ← Array.setIfInBounds_comm _ _ hi1]
        exact h10 w b1 hSw hTw hN k1
      · intro w b2 hSw hTw hN k2
        refine wpAnyH_take ho hs f2 r2 hP (yields_over ho hs nt2 hy) hSw ?_
        rw [← Act.put_comm a _ _ c2, ← Array.setIfInBounds_comm _ _ hi2]
        exact h01 w b2 hSw hTw hN k2
      · intro w b1 b2 hb hSw hTw hN k1 k2
        refine wpAnyH_take ho hs f3 r3 hP (yields_over ho hs nt2 (yields_over ho hs nt1 hy)) hSw ?_
        rw [← Act.put_comm _ _ _ c2, ← Act.put_comm a _ _ c1, ← Array.setIfInBounds_comm _ _ hi2, ← Array.setIfInBounds_comm _ _ hi1]
        exact h11 w b1 b2 hb hSw hTw hN k1 k2
    · simp only [sides, List.all_cons, List.all_nil, Bool.and_true, Bool.and_eq_true, List.all_eq_true, Bool.or_eq_true, beq_iff_eq, Bool.not_eq_true', List.isEmpty_eq_false_iff] at hr
      obtain ⟨⟨e0, r0⟩, ⟨e1, r1⟩, ⟨e2, r2⟩, ⟨e3, r3⟩⟩ := hr
      have sz : ∀ {w w' : World}, N ≤ w.heap.size → Below w.heap.size w w' → N ≤ w'.heap.size := fun h k => Nat.le_trans h k.size
      have g11 : ∀ w b1 b2, b1 ≠ b2 → S w → T w → N ≤ w.heap.size → Fresh N v1 b1 w → Fresh N v2 b2 w → wpAnyH P md ops Q S (f + (n + 1)) ((L.setIfInBounds i1 true).setIfInBounds i2 true) ((a.put (some d1) (ptr b1)).put (some d2) (ptr b2)) w := by
        intro w b1 b2 hb hSw hTw hN k1 k2
        refine ⟨fun h => absurd h e3, fun j hj => ?_⟩
        rcases r3 j hj with (rfl | rfl) | rfl
        · refine wpOp_over nt2 hs (fun c a w h => hQ c a _ _ w h) (wpOp_over nt1 hs (fun c a w h => hQ c a _ _ w h) (wpOp_mono (fun a' w' hh => ?_) (hc w hSw hTw)))
          obtain ⟨hB, T', hT', hTw', hW⟩ := hh
          refine ⟨hS _ _ hSw hB, ?_⟩
          rw [← Array.setIfInBounds_comm _ _ hc2, ← Array.setIfInBounds_comm _ _ hc1]
          exact (ih _ _ T' hT' hW).2.2.2 w' b1 b2 hb (hS _ _ hSw hB) hTw' (sz hN hB) (k1.below hB) (k2.below hB)
        · rw [Array.setIfInBounds_comm _ _ hi] at hj
          exact absurd hj not_ready
        · exact absurd hj not_ready
      have g10 : ∀ w b1, S w → T w → N ≤ w.heap.size → Fresh N v1 b1 w → wpAnyH P md ops Q S (f + (n + 1) + 1) (L.setIfInBounds i1 true) (a.put (some d1) (ptr b1)) w := by
        intro w b1 hSw hTw hN k1
        refine ⟨fun h => absurd h e1, fun j hj => ?_⟩
        rcases r1 j hj with (rfl | rfl) | rfl
        · refine wpOp_over nt1 hs (fun c a w h => hQ c a _ _ w h) (wpOp_mono (fun a' w' hh => ?_) (hc w hSw hTw))
          obtain ⟨hB, T', hT', hTw', hW⟩ := hh
          refine ⟨hS _ _ hSw hB, ?_⟩
          rw [← Array.setIfInBounds_comm _ _ hc1]
          exact (ih _ _ T' hT' hW).2.1 w' b1 (hS _ _ hSw hB) hTw' (sz hN hB) (k1.below hB)
        · exact absurd hj not_ready
        · refine m2 _ _ _ ⟨alloc_stable hS hSw _, g11 _ _ _ ?_ (alloc_stable hS hSw _) (alloc_stable hT hTw _) (by simp; omega) (k1.below (below1 _ _)) (Fresh.new hN)⟩
          have := k1.size; omega
      have g01 : ∀ w b2, S w → T w → N ≤ w.heap.size → Fresh N v2 b2 w → wpAnyH P md ops Q S (f + (n + 1) + 1) (L.setIfInBounds i2 true) (a.put (some d2) (ptr b2)) w := by
        intro w b2 hSw hTw hN k2
        refine ⟨fun h => absurd h e2, fun j hj => ?_⟩
        rcases r2 j hj with (rfl | rfl) | rfl
        · refine wpOp_over nt2 hs (fun c a w h => hQ c a _ _ w h) (wpOp_mono (fun a' w' hh => ?_) (hc w hSw hTw))
          obtain ⟨hB, T', hT', hTw', hW⟩ := hh
          refine ⟨hS _ _ hSw hB, ?_⟩
          rw [← Array.setIfInBounds_comm _ _ hc2]
          exact (ih _ _ T' hT' hW).2.2.1 w' b2 (hS _ _ hSw hB) hTw' (sz hN hB) (k2.below hB)
        · refine m1 _ _ _ ⟨alloc_stable hS hSw _, ?_⟩
          rw [← Act.put_comm a _ _ hdd, ← Array.setIfInBounds_comm _ _ hi]
          refine g11 _ _ _ ?_ (alloc_stable hS hSw _) (alloc_stable hT hTw _) (by simp; omega) (Fresh.new hN) (k2.below (below1 _ _))
          have := k2.size; omega
        · exact absurd hj not_ready
      refine ⟨?_, g10, g01, g11⟩
      intro w hSw hTw hN
      refine ⟨fun h => absurd h e0, fun j hj => ?_⟩
      rcases r0 j hj with (rfl | rfl) | rfl
      · refine wpOp_mono (fun a' w' hh => ?_) (hc w hSw hTw)
        obtain ⟨hB, T', hT', hTw', hW⟩ := hh
        exact ⟨hS _ _ hSw hB, (ih _ _ T' hT' hW).1 w' (hS _ _ hSw hB) hTw' (sz hN hB)⟩
      · exact m1 _ _ _ ⟨alloc_stable hS hSw _, g10 _ _ (alloc_stable hS hSw _) (alloc_stable hT hTw _) (by simp; omega) (Fresh.new hN)⟩
      · exact m2 _ _ _ ⟨alloc_stable hS hSw _, g01 _ _ (alloc_stable hS hSw _) (alloc_stable hT hTw _) (by simp; omega) (Fresh.new hN)⟩

/-- The beginning: the walk without the new variables serves the region. -/
theorem wu_start {m n : Nat} {L : Array Bool} {a : Act} {T : World → Prop} {w : World} (hm : m = f + n + 2) (hs : Region.noSelect ops = true) (hQ : ∀ c a d v w, Q (.panic c) a w → Q (.panic c) (a.put (some d) v) w) (hS : Stable S)
    (hd : d1 ≠ d2) (hi : i1 ≠ i2) (m1 : Makes P ops Q i1 d1 v1 t1) (m2 : Makes P ops Q i2 d2 v2 t2) (hT : Stable T) (hSw : S w) (hTw : T w) (hN : N ≤ w.heap.size) (h : WU P ops Q md S N i1 d1 v1 i2 d2 v2 f n L a T) : wpAnyH P md ops Q S m L a w := by
  subst hm
  exact (wu_any hs hQ hS hd hi m1 m2 n L a T hT h).1 w hSw hTw hN

theorem wu_take {i : Nat} {oi : Oper} {v : Value} {n : Nat} {L : Array Bool} {a : Act} {T : World → Prop} (ho : ops[i]? = some oi)
    (hr : (sides i1 i2 L).all (fun L' => Region.free md ops L' i && (Region.ready md ops L').contains i) = true) (ht : (noTouch ops i d1 && noTouch ops i d2 && i != i1 && i != i2) = true)
    (hQ : ∀ c a w, Q (.panic c) (a.put oi.dst v) w → Q (.panic c) a w) (hy : YieldsIf P ops S oi v a) (h : WU P ops Q md S N i1 d1 v1 i2 d2 v2 f n (L.setIfInBounds i true) (a.put oi.dst v) T) :
    WU P ops Q md S N i1 d1 v1 i2 d2 v2 f (n + 1) L a T := by
  simp at ht
  exact Or.inl ⟨i, oi, v, ho, hr, ht.1.1.1, ht.1.1.2, ht.1.2, ht.2, hQ, hy, h⟩

theorem wu_call {c : Nat} {o : Oper} {n : Nat} {L : Array Bool} {a : Act} {T : World → Prop} (ho : ops[c]? = some o)
    (hr : (sides i1 i2 L).all (fun L' => !(Region.ready md ops L').isEmpty && (Region.ready md ops L').all (fun j => j == c || j == i1 || j == i2)) = true) (ht : (noTouch ops c d1 && noTouch ops c d2 && c != i1 && c != i2) = true)
    (h : ∀ w, S w → T w → ∀ K' : Act → World → Prop, Shut (∀ a' w' T', Below w.heap.size w w' → Stable T' → T' w' → WU P ops Q md S N i1 d1 v1 i2 d2 v2 f n (L.setIfInBounds c true) a' T' → K' a' w') → if Region.wanted o (yielded ops a.tmps) = true then Oper.wp P o a w K' Q else K' (a.put o.dst undef) w) :
    WU P ops Q md S N i1 d1 v1 i2 d2 v2 f (n + 1) L a T := by
  simp at ht
  refine Or.inr ⟨c, hr, ht.1.1.1, ht.1.1.2, ht.1.2, ht.2, fun w hSw hTw => ?_⟩
  exact wpOp_step ho (fun K' hK => h w hSw hTw K' (fun a' w' T' hB hT' hTw' hW => hK a' w' ⟨hB, T', hT', hTw', hW⟩))

theorem wu_fin {L : Array Bool} {a : Act} {T : World → Prop}
    (hr : ((sides i1 i2 L).take 3).all (fun L' => !(Region.ready md ops L').isEmpty && (Region.ready md ops L').all (fun j => j == i1 || j == i2)) = true)
    (h : ∀ w b1 b2, b1 ≠ b2 → S w → T w → Fresh N v1 b1 w → Fresh N v2 b2 w → wpAnyH P md ops Q S f ((L.setIfInBounds i1 true).setIfInBounds i2 true) ((a.put (some d1) (ptr b1)).put (some d2) (ptr b2)) w) :
    WU P ops Q md S N i1 d1 v1 i2 d2 v2 f 0 L a T := ⟨hr, h⟩

theorem anyH_at {fuel : Nat} {listed : Array Bool} {a : Act} {w : World} (l : Array Bool) (h : listed = l) (k : wpAnyH P md ops Q S fuel l a w) : wpAnyH P md ops Q S fuel listed a w := h ▸ k
theorem Stable.and {A B : World → Prop} (ha : Stable A) (hb : Stable B) : Stable (fun w => A w ∧ B w) := fun w w' h k => ⟨ha w w' h.1 k, hb w w' h.2 k⟩
theorem stable_cell (p : Addr) (v : Value) : Stable (fun w => w.cell? p = some v) := fun w _ h k => (k.cell (World.block_lt_of_cell? w p h)).trans h
theorem stable_var (p : Addr) (v : Value) : Stable (fun w => w.cell? p = some v ∧ w.frozen? p = false) := fun w w' h k => ⟨by rw [k.cell (World.block_lt_of_cell? w p h.1)]; exact h.1, by rw [k.frozen (World.block_lt_of_cell? w p h.1)]; exact h.2⟩
theorem stable_nat (s : Value) (x : Nat) : Stable (fun w => IsNat w s x) := fun _ _ h k => h.below k
theorem stable_below (w0 : World) : Stable (fun w => Below w0.heap.size w0 w) := fun _ _ h k => bthen h k
theorem stable_size (n : Nat) : Stable (fun w => n ≤ w.heap.size) := fun _ _ h k => Nat.le_trans h k.size

end
end Go.Proofs.Ytjlegmgpgfjciaa.W

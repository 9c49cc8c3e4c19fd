/- A region that draws its order, in which one new variable is made beside a chain of calls: whenever it is made, the calls go their way, each from any world that meets what stands so far. -/
import Derived.Test.YtpbgpdmffejdgaaGreatDoorBase
namespace Go.Proofs.YtpbgpdmffejdgaaGreatDoor
open Go.RowKit

section
variable {P : Program} {ops : Array Oper} {Q : Exit → Act → World → Prop} {md : Region.Mode} {S : World → Prop}

/-- Operation j neither looks at temporary d nor writes it. -/
def noTouch (ops : Array Oper) (j d : Nat) : Bool :=
  match ops[j]? with
  | some o => !(o.looksAt ops).contains d && o.dst != some d
  | none => false

/-- Whether a pointer lies already in a temporary that operation j does not touch makes no difference to it. -/
theorem wpOp_over {j d : Nat} {v : Value} (hn : noTouch ops j d = true) (hs : Region.noSelect ops = true)
    (hQ : ∀ c a w, Q (.panic c) a w → Q (.panic c) (a.put (some d) v) w) {K : Act → World → Prop} {a : Act} {w : World}
    (h : wpOp P ops Q j (fun a' w' => K (a'.put (some d) v) w') a w) : wpOp P ops Q j K (a.put (some d) v) w := by
  unfold noTouch at hn
  cases hj : ops[j]? with
  | none => simp [hj] at hn
  | some oj =>
    simp [hj] at hn
    obtain ⟨h1', h2'⟩ := hn
    have h1 : ∀ e, some d = some e → e ∉ oj.looksAt ops := fun e he => by injection he with he; subst he; exact h1'
    have h2 : ∀ e, oj.dst = some e → some d ≠ some e := fun e he hd => h2' (by rw [he, hd])
    have hsj : ∀ cs b, oj.op ≠ .select cs b := fun cs b => Region.noSelect_spec hs j oj cs b hj
    unfold wpOp at *
    simp only [hj] at *
    rw [wanted_put oj a (some d) v h1]
    split
    · rename_i hw
      simp only [hw, if_true] at h
      rcases h with h | ⟨hasks, hlets⟩
      case inr => exact .inr ⟨by unfold Oper.asks at *; rw [execOp_put oj hsj a (some d) v h1]; exact hasks, hlets⟩
      refine .inl ?_
      unfold Oper.wp at *
      rw [execOp_put oj hsj a (some d) v h1]
      generalize (execOp a.eval oj).run P w = r at *
      cases r with
      | ok n w' =>
        cases n <;> simp only [Oper.upon] at h ⊢
        case value u => rw [← Act.put_comm a u v h2]; exact h
        case skip => rw [← Act.put_comm a undef v h2]; exact h
        case defer dd =>
          rw [Act.put_defers, ← Act.put_comm _ undef v h2]
          exact h
        case enter f args =>
          refine Calls.mono h fun e w'' he => ?_
          cases e with
          | returned u => simp only [] at he ⊢; rw [← Act.put_comm a u v h2]; exact he
          | panicked c => exact hQ _ _ _ he
          | outgrown => exact he
        case row row args => exact Rows.mono h fun u w'' he => by rw [← Act.put_comm a u v h2]; exact he
      | halt x w' =>
        cases x <;> simp only [Oper.upon] at h ⊢
        case panic u => exact hQ _ _ _ h
        all_goals exact h
    · rename_i hw
      simp only [hw] at h
      rw [← Act.put_comm a undef v h2]; exact h

def ptr (b : Nat) : Value := .pointer (some ⟨b, 0, none⟩)

/-- A new variable that still holds its zero values. -/
structure Fresh (N : Nat) (vs : Array Value) (b : Nat) (w : World) : Prop where
  cell : ∀ o v, vs[o]? = some v → w.cell? ⟨b, o, none⟩ = some v
  thawed : ∀ o, w.frozen? ⟨b, o, none⟩ = false
  size : b < w.heap.size
  base : N ≤ b
theorem Fresh.below {N b : Nat} {vs : Array Value} {w w' : World} (h : Fresh N vs b w) (hb : Below w.heap.size w w') : Fresh N vs b w' :=
  ⟨fun o v hv => by rw [hb.cell (p := ⟨b, o, none⟩) h.size]; exact h.cell o v hv, fun o => by rw [hb.frozen (p := ⟨b, o, none⟩) h.size]; exact h.thawed o, Nat.lt_of_lt_of_le h.size hb.size, h.base⟩
theorem Fresh.new {N : Nat} {vs : Array Value} {t : TypeId} {w : World} (h : N ≤ w.heap.size) : Fresh N vs w.heap.size (w.alloc (.cells vs t)) :=
  ⟨fun o v hv => by rw [World.cell?_alloc_new]; exact hv, fun o => by simp [go_sem], by simp, h⟩

/-- Operation i makes a new variable, whatever the state and the world are. -/
def Makes (P : Program) (ops : Array Oper) (Q : Exit → Act → World → Prop) (i d : Nat) (vs : Array Value) (t : TypeId) : Prop :=
  ∀ (a : Act) (w : World) (K : Act → World → Prop), K (a.put (some d) (ptr w.heap.size)) (w.alloc (.cells vs t)) → wpOp P ops Q i K a w

theorem not_ready {L : Array Bool} {i : Nat} : i ∉ Region.ready md ops (L.setIfInBounds i true) := by
  intro h
  have h0 := (mem_ready.1 h).1
  rw [Array.getD_eq_getD_getElem?, Array.getElem?_setIfInBounds] at h0
  simp at h0
  split at h0 <;> simp_all

theorem alloc_stable {T : World → Prop} (h : Stable T) {w : World} (hT : T w) (o : Obj) : T (w.alloc o) := h _ _ hT (below1 _ _)

theorem yields_over {i d : Nat} {oi : Oper} {v p : Value} {a : Act} (hi : ops[i]? = some oi) (hs : Region.noSelect ops = true) (hn : noTouch ops i d = true) (h : YieldsIf P ops S oi v a) : YieldsIf P ops S oi v (a.put (some d) p) := by
  unfold noTouch at hn
  simp [hi] at hn
  have h1 : ∀ e, some d = some e → e ∉ oi.looksAt ops := fun e he => by injection he with he; subst he; exact hn.1
  exact h.of_same (execOp_put oi (fun cs b => Region.noSelect_spec hs i oi cs b hi) a (some d) p h1) (wanted_put oi a (some d) p h1)

theorem dst_ne {i d : Nat} {oi : Oper} (hi : ops[i]? = some oi) (hn : noTouch ops i d = true) : ∀ e, oi.dst = some e → some d ≠ some e := by
  unfold noTouch at hn
  simp [hi] at hn
  exact fun e he hd => hn.2 (by rw [he, hd])

/-- A walk that leaves the new variable out. -/
def WO (P : Program) (ops : Array Oper) (Q : Exit → Act → World → Prop) (md : Region.Mode) (S : World → Prop) (N i1 d1 : Nat) (v1 : Array Value) (f : Nat) : Nat → Array Bool → Act → (World → Prop) → Prop
  | 0, L, a, T => (!(Region.ready md ops L).isEmpty && (Region.ready md ops L).all (fun j => j == i1)) = true ∧
      ∀ w b1, S w → T w → Fresh N v1 b1 w → wpAnyH P md ops Q S f (L.setIfInBounds i1 true) (a.put (some d1) (ptr b1)) w
  | n + 1, L, a, T =>
    (∃ i oi v, ops[i]? = some oi ∧ [L, L.setIfInBounds i1 true].all (fun L' => Region.free md ops L' i && (Region.ready md ops L').contains i) = true ∧ noTouch ops i d1 = true ∧ i ≠ i1 ∧
      (∀ c a w, Q (.panic c) (a.put oi.dst v) w → Q (.panic c) a w) ∧ YieldsIf P ops S oi v a ∧ WO P ops Q md S N i1 d1 v1 f n (L.setIfInBounds i true) (a.put oi.dst v) T) ∨
    (∃ c, [L, L.setIfInBounds i1 true].all (fun L' => !(Region.ready md ops L').isEmpty && (Region.ready md ops L').all (fun j => j == c || j == i1)) = true ∧ noTouch ops c d1 = true ∧ c ≠ i1 ∧
      ∀ w, S w → T w → wpOp P ops Q c (fun a' w' => Below w.heap.size w w' ∧ ∃ T', Stable T' ∧ T' w' ∧ WO P ops Q md S N i1 d1 v1 f n (L.setIfInBounds c true) a' T') a w)

variable {N i1 d1 : Nat} {v1 : Array Value} {t1 : TypeId} {f : Nat}

theorem wo_any (hs : Region.noSelect ops = true) (hQ : ∀ c a d v w, Q (.panic c) a w → Q (.panic c) (a.put (some d) v) w) (hS : Stable S) (m1 : Makes P ops Q i1 d1 v1 t1) :
    ∀ (n : Nat) (L : Array Bool) (a : Act) (T : World → Prop), Stable T → WO P ops Q md S N i1 d1 v1 f n L a T →
      (∀ w, S w → T w → N ≤ w.heap.size → wpAnyH P md ops Q S (f + n + 1) L a w) ∧
      (∀ w b1, S w → T w → N ≤ w.heap.size → Fresh N v1 b1 w → wpAnyH P md ops Q S (f + n) (L.setIfInBounds i1 true) (a.put (some d1) (ptr b1)) w) := by
  intro n
  induction n with
  | zero =>
    intro L a T hT h
    obtain ⟨hr, h1⟩ := h
    simp only [Bool.and_eq_true, List.all_eq_true, beq_iff_eq, Bool.not_eq_true', List.isEmpty_eq_false_iff] at hr
    obtain ⟨e0, r0⟩ := hr
    have g1 : ∀ w b1, S w → T w → N ≤ w.heap.size → Fresh N v1 b1 w → wpAnyH P md ops Q S (f + 0) (L.setIfInBounds i1 true) (a.put (some d1) (ptr b1)) w :=
      fun w b1 hSw hTw _ k1 => h1 w b1 hSw hTw k1
    refine ⟨?_, g1⟩
    intro w hSw hTw hN
    refine ⟨fun h => absurd h e0, fun j hj => ?_⟩
    have hji := r0 j hj
    subst hji
    exact m1 _ _ _ ⟨alloc_stable hS hSw _, g1 _ _ (alloc_stable hS hSw _) (alloc_stable hT hTw _) (by simp; omega) (Fresh.new hN)⟩
  | succ n ih =>
    intro L a T hT h
    rcases h with ⟨i, oi, v, ho, hr, nt1, hi1, hP, hy, hW⟩ | ⟨c, hr, nt1, hc1, hc⟩
    · obtain ⟨h0, h1⟩ := ih _ _ T hT hW
      simp only [List.all_cons, List.all_nil, Bool.and_true, Bool.and_eq_true] at hr
      obtain ⟨⟨f0, r0⟩, ⟨f1, r1⟩⟩ := hr
      refine ⟨?_, ?_⟩
      · intro w hSw hTw hN
        exact wpAnyH_take ho hs f0 r0 hP hy hSw (h0 w hSw hTw hN)
      · intro w b1 hSw hTw hN k1
        refine wpAnyH_take ho hs f1 r1 hP (yields_over ho hs nt1 hy) hSw ?_
        rw [← Act.put_comm a _ _ (dst_ne ho nt1), ← Array.setIfInBounds_comm _ _ hi1]
        exact h1 w b1 hSw hTw hN k1
    · simp only [List.all_cons, List.all_nil, Bool.and_true, Bool.and_eq_true, List.all_eq_true, Bool.or_eq_true, beq_iff_eq, Bool.not_eq_true', List.isEmpty_eq_false_iff] at hr
      obtain ⟨⟨e0, r0⟩, ⟨e1, r1⟩⟩ := hr
      have sz : ∀ {w w' : World}, N ≤ w.heap.size → Below w.heap.size w w' → N ≤ w'.heap.size := fun h k => Nat.le_trans h k.size
      have g1 : ∀ w b1, S w → T w → N ≤ w.heap.size → Fresh N v1 b1 w → wpAnyH P md ops Q S (f + (n + 1)) (L.setIfInBounds i1 true) (a.put (some d1) (ptr b1)) w := by
        intro w b1 hSw hTw hN k1
        refine ⟨fun h => absurd h e1, fun j hj => ?_⟩
        rcases r1 j hj with rfl | rfl
        · refine wpOp_over nt1 hs (fun c a w h => hQ c a _ _ w h) (wpOp_mono (fun a' w' hh => ?_) (hc w hSw hTw))
          obtain ⟨hB, T', hT', hTw', hW⟩ := hh
          refine ⟨hS _ _ hSw hB, ?_⟩
          rw [← Array.setIfInBounds_comm _ _ hc1]
          exact (ih _ _ T' hT' hW).2 w' b1 (hS _ _ hSw hB) hTw' (sz hN hB) (k1.below hB)
        · exact absurd hj not_ready
      refine ⟨?_, g1⟩
      intro w hSw hTw hN
      refine ⟨fun h => absurd h e0, fun j hj => ?_⟩
      rcases r0 j hj with rfl | rfl
      · refine wpOp_mono (fun a' w' hh => ?_) (hc w hSw hTw)
        obtain ⟨hB, T', hT', hTw', hW⟩ := hh
        exact ⟨hS _ _ hSw hB, (ih _ _ T' hT' hW).1 w' (hS _ _ hSw hB) hTw' (sz hN hB)⟩
      · exact m1 _ _ _ ⟨alloc_stable hS hSw _, g1 _ _ (alloc_stable hS hSw _) (alloc_stable hT hTw _) (by simp; omega) (Fresh.new hN)⟩

theorem wo_start {m n : Nat} {L : Array Bool} {a : Act} {T : World → Prop} {w : World} (hm : m = f + n + 1) (hs : Region.noSelect ops = true) (hQ : ∀ c a d v w, Q (.panic c) a w → Q (.panic c) (a.put (some d) v) w) (hS : Stable S)
    (m1 : Makes P ops Q i1 d1 v1 t1) (hT : Stable T) (hSw : S w) (hTw : T w) (hN : N ≤ w.heap.size) (h : WO P ops Q md S N i1 d1 v1 f n L a T) : wpAnyH P md ops Q S m L a w := by
  subst hm
  exact (wo_any hs hQ hS m1 n L a T hT h).1 w hSw hTw hN
theorem wo_take {i : Nat} {oi : Oper} {v : Value} {n : Nat} {L : Array Bool} {a : Act} {T : World → Prop} (ho : ops[i]? = some oi)
    (hr : [L, L.setIfInBounds i1 true].all (fun L' => Region.free md ops L' i && (Region.ready md ops L').contains i) = true) (ht : (noTouch ops i d1 && i != i1) = true)
    (hQ : ∀ c a w, Q (.panic c) (a.put oi.dst v) w → Q (.panic c) a w) (hy : YieldsIf P ops S oi v a) (h : WO P ops Q md S N i1 d1 v1 f n (L.setIfInBounds i true) (a.put oi.dst v) T) :
    WO P ops Q md S N i1 d1 v1 f (n + 1) L a T := by
  simp at ht
  exact Or.inl ⟨i, oi, v, ho, hr, ht.1, ht.2, hQ, hy, h⟩
theorem woA (i d : Nat) {v : Value} {op : Op} {ty : TypeId} {pos : String} {af : Array Edge} {g : Option (Nat × Bool)} {n : Nat} {L : Array Bool} {a a' : Act} {T : World → Prop}
    (h : WO P ops Q md S N i1 d1 v1 f n (L.setIfInBounds i true) a' T)
    (ho : ops[i]? = some ⟨some d, op, ty, pos, af, g⟩ := by rfl)
    (hr : [L, L.setIfInBounds i1 true].all (fun L' => Region.free md ops L' i && (Region.ready md ops L').contains i) = true := by kernel_rfl) (ht : (noTouch ops i d1 && i != i1) = true := by kernel_rfl)
    (hQ : ∀ c a w, Q (.panic c) (a.put (some d) v) w → Q (.panic c) a w := by exact fun _ _ _ h => h)
    (hy : YieldsIf P ops S ⟨some d, op, ty, pos, af, g⟩ v a := by exact Or.inl ⟨by rfl, fun w hSw => by (try dsimp only at hSw); go_simp; with_reducible rfl⟩)
    (ha : a.put (some d) v = a' := by ((try simp only [Act.put, List.setIfInBounds_toArray, List.set_cons_zero, List.set_cons_succ]); rfl)) :
    WO P ops Q md S N i1 d1 v1 f (n + 1) L a T := by
  subst ha
  exact wo_take ho hr ht hQ hy h
theorem wo_call {c : Nat} {o : Oper} {n : Nat} {L : Array Bool} {a : Act} {T : World → Prop} (ho : ops[c]? = some o)
    (hr : [L, L.setIfInBounds i1 true].all (fun L' => !(Region.ready md ops L').isEmpty && (Region.ready md ops L').all (fun j => j == c || j == i1)) = true) (ht : (noTouch ops c d1 && c != i1) = true)
    (h : ∀ w, S w → T w → ∀ K' : Act → World → Prop, Shut (∀ a' w' T', Below w.heap.size w w' → Stable T' → T' w' → WO P ops Q md S N i1 d1 v1 f n (L.setIfInBounds c true) a' T' → K' a' w') → if Region.wanted o (yielded ops a.tmps) = true then Oper.wp P o a w K' Q else K' (a.put o.dst undef) w) :
    WO P ops Q md S N i1 d1 v1 f (n + 1) L a T := by
  simp at ht
  refine Or.inr ⟨c, hr, ht.1, ht.2, fun w hSw hTw => ?_⟩
  exact wpOp_step ho (fun K' hK => h w hSw hTw K' (fun a' w' T' hB hT' hTw' hW => hK a' w' ⟨hB, T', hT', hTw', hW⟩))
theorem wo_fin {L : Array Bool} {a : Act} {T : World → Prop} (hr : (!(Region.ready md ops L).isEmpty && (Region.ready md ops L).all (fun j => j == i1)) = true)
    (h : ∀ w b1, S w → T w → Fresh N v1 b1 w → wpAnyH P md ops Q S f (L.setIfInBounds i1 true) (a.put (some d1) (ptr b1)) w) :
    WO P ops Q md S N i1 d1 v1 f 0 L a T := ⟨hr, h⟩

theorem stable_below (w0 : World) : Stable (fun w => Below w0.heap.size w0 w) := fun _ _ h k => bthen h k

end
end Go.Proofs.YtpbgpdmffejdgaaGreatDoor

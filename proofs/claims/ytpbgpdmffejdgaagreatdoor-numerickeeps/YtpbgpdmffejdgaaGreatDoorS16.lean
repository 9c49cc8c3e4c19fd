/- New, Close, Set2, NuE. -/
import Derived.Test.YtpbgpdmffejdgaaGreatDoorS01
namespace Go.Proofs.YtpbgpdmffejdgaaGreatDoor
open Go.RowKit

section
variable {P : Program} {ops : Array Oper} {Q : Exit → Act → World → Prop} {md : Region.Mode} {S : World → Prop}

/-- Operation j neither looks at temporary d nor writes it. -/
def noTouch (ops : Array Oper) (j d : Nat) : Bool :=
  match ops[j]? with
  | some o => !(o.looksAt ops).contains d && o.dst != some d
  | none => false

/-- Whether a pointer lies already in a temporary that operation j does not touch makes no difference to it. -/
theorem wpOp_over {j d : Nat} {v : Value} (hn : noTouch ops j d = true) (hs : Region.noSelect ops = true)
    (hQ : ∀ c a w, Q (.panic c) a w → Q (.panic c) (a.put (some d) v) w) {K : Act → World → Prop} {a : Act} {w : World}
    (h : wpOp P ops Q j (fun a' w' => K (a'.put (some d) v) w') a w) : wpOp P ops Q j K (a.put (some d) v) w := by
  unfold noTouch at hn
  cases hj : ops[j]? with
  | none => simp [hj] at hn
  | some oj =>
    simp [hj] at hn
    obtain ⟨h1', h2'⟩ := hn
    have h1 : ∀ e, some d = some e → e ∉ oj.looksAt ops := fun e he => by injection he with he; subst he; exact h1'
    have h2 : ∀ e, oj.dst = some e → some d ≠ some e := fun e he hd => h2' (by rw [he, hd])
    have hsj : ∀ cs b, oj.op ≠ .select cs b := fun cs b => Region.noSelect_spec hs j oj cs b hj
    unfold wpOp at *
    simp only [hj] at *
    rw [wanted_put oj a (some d) v h1]
    split
    · rename_i hw
      simp only [hw, if_true] at h
      rcases h with h | ⟨hasks, hlets⟩
      case inr => exact .inr ⟨by unfold Oper.asks at *; rw [execOp_put oj hsj a (some d) v h1]; exact hasks, hlets⟩
      refine .inl ?_
      unfold Oper.wp at *
      rw [execOp_put oj hsj a (some d) v h1]
      generalize (execOp a.eval oj).run P w = r at *
      cases r with
      | ok n w' =>
        cases n <;> simp only [Oper.upon] at h ⊢
        case value u => rw [← Act.put_comm a u v h2]; exact h
        case skip => rw [← Act.put_comm a undef v h2]; exact h
        case defer dd =>
          rw [Act.put_defers, ← Act.put_comm _ undef v h2]
          exact h
        case enter f args =>
          refine Calls.mono h fun e w'' he => ?_
          cases e with
          | returned u => simp only [] at he ⊢; rw [← Act.put_comm a u v h2]; exact he
          | panicked c => exact hQ _ _ _ he
          | outgrown => exact he
        case row row args => exact Rows.mono h fun u w'' he => by rw [← Act.put_comm a u v h2]; exact he
      | halt x w' =>
        cases x <;> simp only [Oper.upon] at h ⊢
        case panic u => exact hQ _ _ _ h
        all_goals exact h
    · rename_i hw
      simp only [hw] at h
      rw [← Act.put_comm a undef v h2]; exact h

def ptr (b : Nat) : Value := .pointer (some ⟨b, 0, none⟩)

/-- A new variable that still holds its zero values. -/
structure Fresh (N : Nat) (vs : Array Value) (b : Nat) (w : World) : Prop where
  cell : ∀ o v, vs[o]? = some v → w.cell? ⟨b, o, none⟩ = some v
  thawed : ∀ o, w.frozen? ⟨b, o, none⟩ = false
  size : b < w.heap.size
  base : N ≤ b
theorem Fresh.below {N b : Nat} {vs : Array Value} {w w' : World} (h : Fresh N vs b w) (hb : Below w.heap.size w w') : Fresh N vs b w' :=
  ⟨fun o v hv => by rw [hb.cell (p := ⟨b, o, none⟩) h.size]; exact h.cell o v hv, fun o => by rw [hb.frozen (p := ⟨b, o, none⟩) h.size]; exact h.thawed o, Nat.lt_of_lt_of_le h.size hb.size, h.base⟩
theorem Fresh.new {N : Nat} {vs : Array Value} {t : TypeId} {w : World} (h : N ≤ w.heap.size) : Fresh N vs w.heap.size (w.alloc (.cells vs t)) :=
  ⟨fun o v hv => by rw [World.cell?_alloc_new]; exact hv, fun o => by simp [go_sem], by simp, h⟩

/-- Operation i makes a new variable, whatever the state and the world are. -/
def Makes (P : Program) (ops : Array Oper) (Q : Exit → Act → World → Prop) (i d : Nat) (vs : Array Value) (t : TypeId) : Prop :=
  ∀ (a : Act) (w : World) (K : Act → World → Prop), K (a.put (some d) (ptr w.heap.size)) (w.alloc (.cells vs t)) → wpOp P ops Q i K a w

theorem not_ready {L : Array Bool} {i : Nat} : i ∉ Region.ready md ops (L.setIfInBounds i true) := by
  intro h
  have h0 := (mem_ready.1 h).1
  rw [Array.getD_eq_getD_getElem?, Array.getElem?_setIfInBounds] at h0
  simp at h0
  split at h0 <;> simp_all

theorem alloc_stable {T : World → Prop} (h : Stable T) {w : World} (hT : T w) (o : Obj) : T (w.alloc o) := h _ _ hT (below1 _ _)

theorem yields_over {i d : Nat} {oi : Oper} {v p : Value} {a : Act} (hi : ops[i]? = some oi) (hs : Region.noSelect ops = true) (hn : noTouch ops i d = true) (h : YieldsIf P ops S oi v a) : YieldsIf P ops S oi v (a.put (some d) p) := by
  unfold noTouch at hn
  simp [hi] at hn
  have h1 : ∀ e, some d = some e → e ∉ oi.looksAt ops := fun e he => by injection he with he; subst he; exact hn.1
  exact h.of_same (execOp_put oi (fun cs b => Region.noSelect_spec hs i oi cs b hi) a (some d) p h1) (wanted_put oi a (some d) p h1)

theorem dst_ne {i d : Nat} {oi : Oper} (hi : ops[i]? = some oi) (hn : noTouch ops i d = true) : ∀ e, oi.dst = some e → some d ≠ some e := by
  unfold noTouch at hn
  simp [hi] at hn
  exact fun e he hd => hn.2 (by rw [he, hd])

/-- A walk that leaves the new variable out. -/
def WO (P : Program) (ops : Array Oper) (Q : Exit → Act → World → Prop) (md : Region.Mode) (S : World → Prop) (N i1 d1 : Nat) (v1 : Array Value) (f : Nat) : Nat → Array Bool → Act → (World → Prop) → Prop
  | 0, L, a, T => (!(Region.ready md ops L).isEmpty && (Region.ready md ops L).all (fun j => j == i1)) = true ∧
      ∀ w b1, S w → T w → Fresh N v1 b1 w → wpAnyH P md ops Q S f (L.setIfInBounds i1 true) (a.put (some d1) (ptr b1)) w
  | n + 1, L, a, T =>
    (∃ i oi v, ops[i]? = some oi ∧ [L, L.setIfInBounds i1 true].all (fun L' => Region.free md ops L' i && (Region.ready md ops L').contains i) = true ∧ noTouch ops i d1 = true ∧ i ≠ i1 ∧
      (∀ c a w, Q (.panic c) (a.put oi.dst v) w → Q (.panic c) a w) ∧ YieldsIf P ops S oi v a ∧ WO P ops Q md S N i1 d1 v1 f n (L.setIfInBounds i true) (a.put oi.dst v) T) ∨
    (∃ c, [L, L.setIfInBounds i1 true].all (fun L' => !(Region.ready md ops L').isEmpty && (Region.ready md ops L').all (fun j => j == c || j == i1)) = true ∧ noTouch ops c d1 = true ∧ c ≠ i1 ∧
      ∀ w, S w → T w → wpOp P ops Q c (fun a' w' => Below w.heap.size w w' ∧ ∃ T', Stable T' ∧ T' w' ∧ WO P ops Q md S N i1 d1 v1 f n (L.setIfInBounds c true) a' T') a w)

variable {N i1 d1 : Nat} {v1 : Array Value} {t1 : TypeId} {f : Nat}

theorem wo_any (hs : Region.noSelect ops = true) (hQ : ∀ c a d v w, Q (.panic c) a w → Q (.panic c) (a.put (some d) v) w) (hS : Stable S) (m1 : Makes P ops Q i1 d1 v1 t1) :
    ∀ (n : Nat) (L : Array Bool) (a : Act) (T : World → Prop), Stable T → WO P ops Q md S N i1 d1 v1 f n L a T →
      (∀ w, S w → T w → N ≤ w.heap.size → wpAnyH P md ops Q S (f + n + 1) L a w) ∧
      (∀ w b1, S w → T w → N ≤ w.heap.size → Fresh N v1 b1 w → wpAnyH P md ops Q S (f + n) (L.setIfInBounds i1 true) (a.put (some d1) (ptr b1)) w) := by
  intro n
  induction n with
  | zero =>
    intro L a T hT h
    obtain ⟨hr, h1⟩ := h
    simp only [Bool.and_eq_true, List.all_eq_true, beq_iff_eq, Bool.not_eq_true', List.isEmpty_eq_false_iff] at hr
    obtain ⟨e0, r0⟩ := hr
    have g1 : ∀ w b1, S w → T w → N ≤ w.heap.size → Fresh N v1 b1 w → wpAnyH P md ops Q S (f + 0) (L.setIfInBounds i1 true) (a.put (some d1) (ptr b1)) w :=
      fun w b1 hSw hTw _ k1 => h1 w b1 hSw hTw k1
    refine ⟨?_, g1⟩
    intro w hSw hTw hN
    refine ⟨fun h => absurd h e0, fun j hj => ?_⟩
    have hji := r0 j hj
    subst hji
    exact m1 _ _ _ ⟨alloc_stable hS hSw _, g1 _ _ (alloc_stable hS hSw _) (alloc_stable hT hTw _) (by simp; omega) (Fresh.new hN)⟩
  | succ n ih =>
    intro L a T hT h
    rcases h with ⟨i, oi, v, ho, hr, nt1, hi1, hP, hy, hW⟩ | ⟨c, hr, nt1, hc1, hc⟩
    · obtain ⟨h0, h1⟩ := ih _ _ T hT hW
      simp only [List.all_cons, List.all_nil, Bool.and_true, Bool.and_eq_true] at hr
      obtain ⟨⟨f0, r0⟩, ⟨f1, r1⟩⟩ := hr
      refine ⟨?_, ?_⟩
      · intro w hSw hTw hN
        exact wpAnyH_take ho hs f0 r0 hP hy hSw (h0 w hSw hTw hN)
      · intro w b1 hSw hTw hN k1
        refine wpAnyH_take ho hs f1 r1 hP (yields_over ho hs nt1 hy) hSw ?_
        rw [← Act.put_comm a _ _ (dst_ne ho nt1), ← Array.setIfInBounds_comm _ _ hi1]
        exact h1 w b1 hSw hTw hN k1
    · simp only [List.all_cons, List.all_nil, Bool.and_true, Bool.and_eq_true, List.all_eq_true, Bool.or_eq_true, beq_iff_eq, Bool.not_eq_true', List.isEmpty_eq_false_iff] at hr
      obtain ⟨⟨e0, r0⟩, ⟨e1, r1⟩⟩ := hr
      have sz : ∀ {w w' : World}, N ≤ w.heap.size → Below w.heap.size w w' → N ≤ w'.heap.size := fun h k => Nat.le_trans h k.size
      have g1 : ∀ w b1, S w → T w → N ≤ w.heap.size → Fresh N v1 b1 w → wpAnyH P md ops Q S (f + (n + 1)) (L.setIfInBounds i1 true) (a.put (some d1) (ptr b1)) w := by
        intro w b1 hSw hTw hN k1
        refine ⟨fun h => absurd h e1, fun j hj => ?_⟩
        rcases r1 j hj with rfl | rfl
        · refine wpOp_over nt1 hs (fun c a w h => hQ c a _ _ w h) (wpOp_mono (fun a' w' hh => ?_) (hc w hSw hTw))
          obtain ⟨hB, T', hT', hTw', hW⟩ := hh
          refine ⟨hS _ _ hSw hB, ?_⟩
          rw [← Array.setIfInBounds_comm _ _ hc1]
          exact (ih _ _ T' hT' hW).2 w' b1 (hS _ _ hSw hB) hTw' (sz hN hB) (k1.below hB)
        · exact absurd hj not_ready
      refine ⟨?_, g1⟩
      intro w hSw hTw hN
      refine ⟨fun h => absurd h e0, fun j hj => ?_⟩
      rcases r0 j hj with rfl | rfl
      · refine wpOp_mono (fun a' w' hh => ?_) (hc w hSw hTw)
        obtain ⟨hB, T', hT', hTw', hW⟩ := hh
        exact ⟨hS _ _ hSw hB, (ih _ _ T' hT' hW).1 w' (hS _ _ hSw hB) hTw' (sz hN hB)⟩
      · exact m1 _ _ _ ⟨alloc_stable hS hSw _, g1 _ _ (alloc_stable hS hSw _) (alloc_stable hT hTw _) (by simp; omega) (Fresh.new hN)⟩

theorem wo_start {m n : Nat} {L : Array Bool} {a : Act} {T : World → Prop} {w : World} (hm : m = f + n + 1) (hs : Region.noSelect ops = true) (hQ : ∀ c a d v w, Q (.panic c) a w → Q (.panic c) (a.put (some d) v) w) (hS : Stable S)
    (m1 : Makes P ops Q i1 d1 v1 t1) (hT : Stable T) (hSw : S w) (hTw : T w) (hN : N ≤ w.heap.size) (h : WO P ops Q md S N i1 d1 v1 f n L a T) : wpAnyH P md ops Q S m L a w := by
  subst hm
  exact (wo_any hs hQ hS m1 n L a T hT h).1 w hSw hTw hN
theorem wo_take {i : Nat} {oi : Oper} {v : Value} {n : Nat} {L : Array Bool} {a : Act} {T : World → Prop} (ho : ops[i]? = some oi)
    (hr : [L, L.setIfInBounds i1 true].all (fun L' => Region.free md ops L' i && (Region.ready md ops L').contains i) = true) (ht : (noTouch ops i d1 && i != i1) = true)
    (hQ : ∀ c a w, Q (.panic c) (a.put oi.dst v) w → Q (.panic c) a w) (hy : YieldsIf P ops S oi v a) (h : WO P ops Q md S N i1 d1 v1 f n (L.setIfInBounds i true) (a.put oi.dst v) T) :
    WO P ops Q md S N i1 d1 v1 f (n + 1) L a T := by
  simp at ht
  exact Or.inl ⟨i, oi, v, ho, hr, ht.1, ht.2, hQ, hy, h⟩
theorem woA (i d : Nat) {v : Value} {op : Op} {ty : TypeId} {pos : String} {af : Array Edge} {g : Option (Nat × Bool)} {n : Nat} {L : Array Bool} {a a' : Act} {T : World → Prop}
    (h : WO P ops Q md S N i1 d1 v1 f n (L.setIfInBounds i true) a' T)
    (ho : ops[i]? = some ⟨some d, op, ty, pos, af, g⟩ := by rfl)
    (hr : [L, L.setIfInBounds i1 true].all (fun L' => Region.free md ops L' i && (Region.ready md ops L').contains i) = true := by kernel_rfl) (ht : (noTouch ops i d1 && i != i1) = true := by kernel_rfl)
    (hQ : ∀ c a w, Q (.panic c) (a.put (some d) v) w → Q (.panic c) a w := by exact fun _ _ _ h => h)
    (hy : YieldsIf P ops S ⟨some d, op, ty, pos, af, g⟩ v a := by exact Or.inl ⟨by rfl, fun w hSw => by (try dsimp only at hSw); go_simp; with_reducible rfl⟩)
    (ha : a.put (some d) v = a' := by ((try simp only [Act.put, List.setIfInBounds_toArray, List.set_cons_zero, List.set_cons_succ]); rfl)) :
    WO P ops Q md S N i1 d1 v1 f (n + 1) L a T := by
  subst ha
  exact wo_take ho hr ht hQ hy h
theorem wo_call {c : Nat} {o : Oper} {n : Nat} {L : Array Bool} {a : Act} {T : World → Prop} (ho : ops[c]? = some o)
    (hr : [L, L.setIfInBounds i1 true].all (fun L' => !(Region.ready md ops L').isEmpty && (Region.ready md ops L').all (fun j => j == c || j == i1)) = true) (ht : (noTouch ops c d1 && c != i1) = true)
    (h : ∀ w, S w → T w → ∀ K' : Act → World → Prop, Shut (∀ a' w' T', Below w.heap.size w w' → Stable T' → T' w' → WO P ops Q md S N i1 d1 v1 f n (L.setIfInBounds c true) a' T' → K' a' w') → if Region.wanted o (yielded ops a.tmps) = true then Oper.wp P o a w K' Q else K' (a.put o.dst undef) w) :
    WO P ops Q md S N i1 d1 v1 f (n + 1) L a T := by
  simp at ht
  refine Or.inr ⟨c, hr, ht.1, ht.2, fun w hSw hTw => ?_⟩
  exact wpOp_step ho (fun K' hK => h w hSw hTw K' (fun a' w' T' hB hT' hTw' hW => hK a' w' ⟨hB, T', hT', hTw', hW⟩))
theorem wo_fin {L : Array Bool} {a : Act} {T : World → Prop} (hr : (!(Region.ready md ops L).isEmpty && (Region.ready md ops L).all (fun j => j == i1)) = true)
    (h : ∀ w b1, S w → T w → Fresh N v1 b1 w → wpAnyH P md ops Q S f (L.setIfInBounds i1 true) (a.put (some d1) (ptr b1)) w) :
    WO P ops Q md S N i1 d1 v1 f 0 L a T := ⟨hr, h⟩

theorem stable_below (w0 : World) : Stable (fun w => Below w0.heap.size w0 w) := fun _ _ h k => bthen h k

end
end Go.Proofs.YtpbgpdmffejdgaaGreatDoor
namespace Go.Proofs.YtpbgpdmffejdgaaGreatDoor
open Go.RowKit

theorem At2.set {b c : Nat} {x y : Value} {w : World} (h : At2 b x y w) (hc : b ≠ c) (o : Nat) (k : Value) : At2 b x y (w.setCell ⟨c, o, none⟩ k) :=
  ⟨keep_set _ _ _ hc h.1, keep_set _ _ _ hc h.2⟩
theorem At4.set {b c : Nat} {x y z u : Value} {w : World} (h : At4 b x y z u w) (hc : b ≠ c) (o : Nat) (k : Value) : At4 b x y z u (w.setCell ⟨c, o, none⟩ k) :=
  ⟨keep_set _ _ _ hc h.1, keep_set _ _ _ hc h.2.1, keep_set _ _ _ hc h.2.2.1, keep_set _ _ _ hc h.2.2.2⟩
theorem At2.set5 {b c : Nat} {x y : Value} {w : World} (h : At2 b x y w) (hc : b ≠ c) (v0 v1 v2 v3 v4 : Value) :
    At2 b x y (((((w.setCell ⟨c, 0, none⟩ v0).setCell ⟨c, 1, none⟩ v1).setCell ⟨c, 2, none⟩ v2).setCell ⟨c, 3, none⟩ v3).setCell ⟨c, 4, none⟩ v4) :=
  ((((h.set hc _ _).set hc _ _).set hc _ _).set hc _ _).set hc _ _
theorem At4.set5 {b c : Nat} {x y z u : Value} {w : World} (h : At4 b x y z u w) (hc : b ≠ c) (v0 v1 v2 v3 v4 : Value) :
    At4 b x y z u (((((w.setCell ⟨c, 0, none⟩ v0).setCell ⟨c, 1, none⟩ v1).setCell ⟨c, 2, none⟩ v2).setCell ⟨c, 3, none⟩ v3).setCell ⟨c, 4, none⟩ v4) :=
  ((((h.set hc _ _).set hc _ _).set hc _ _).set hc _ _).set hc _ _
theorem Room.set5 {b : Nat} {w : World} (h : Room b 5 w) (v0 v1 v2 v3 v4 : Value) :
    Room b 5 (((((w.setCell ⟨b, 0, none⟩ v0).setCell ⟨b, 1, none⟩ v1).setCell ⟨b, 2, none⟩ v2).setCell ⟨b, 3, none⟩ v3).setCell ⟨b, 4, none⟩ v4) :=
  ((((h.set _ _).set _ _).set _ _).set _ _).set _ _
theorem set_same {b o : Nat} {w : World} (h : Room b 5 w) (ho : o < 5) (v : Value) : (w.setCell ⟨b, o, none⟩ v).cell? ⟨b, o, none⟩ = some v := by
  obtain ⟨⟨u, h1⟩, _⟩ := h o ho
  exact World.cell?_setCell_same _ _ _ h1
theorem set_off {b o o' : Nat} {w : World} {x : Value} (v : Value) (hne : o ≠ o') (h : w.cell? ⟨b, o, none⟩ = some x) : (w.setCell ⟨b, o', none⟩ v).cell? ⟨b, o, none⟩ = some x := by
  rw [World.cell?_setCell_other _ _ _ _ (by intro hh; injection hh with _ h3; exact hne h3.symm)]; exact h
theorem at5_set5 {b : Nat} {w : World} (h : Room b 5 w) (v0 v1 v2 v3 v4 : Value) :
    At5 b v0 v1 v2 v3 v4 (((((w.setCell ⟨b, 0, none⟩ v0).setCell ⟨b, 1, none⟩ v1).setCell ⟨b, 2, none⟩ v2).setCell ⟨b, 3, none⟩ v3).setCell ⟨b, 4, none⟩ v4) :=
  ⟨set_off _ (by omega) (set_off _ (by omega) (set_off _ (by omega) (set_off _ (by omega) (set_same h (by omega) _)))),
   set_off _ (by omega) (set_off _ (by omega) (set_off _ (by omega) (set_same (h.set _ _) (by omega) _))),
   set_off _ (by omega) (set_off _ (by omega) (set_same ((h.set _ _).set _ _) (by omega) _)),
   set_off _ (by omega) (set_same (((h.set _ _).set _ _).set _ _) (by omega) _),
   set_same ((((h.set _ _).set _ _).set _ _).set _ _) (by omega) _⟩
theorem bset5 {a b : World} {c : Nat} (h : Below a.heap.size a b) (hc : a.heap.size ≤ c) (v0 v1 v2 v3 v4 : Value) :
    Below a.heap.size a (((((b.setCell ⟨c, 0, none⟩ v0).setCell ⟨c, 1, none⟩ v1).setCell ⟨c, 2, none⟩ v2).setCell ⟨c, 3, none⟩ v3).setCell ⟨c, 4, none⟩ v4) :=
  bset (bset (bset (bset (bset h _ hc _ _) _ hc _ _) _ hc _ _) _ hc _ _) _ hc _ _
theorem fresh_room {N b : Nat} {v0 v1 v2 v3 v4 : Value} {w : World} (h : Fresh N #[v0, v1, v2, v3, v4] b w) : Room b 5 w := fun o ho => by
  refine ⟨?_, h.thawed o⟩
  match o, ho with
  | 0, _ => exact ⟨_, h.cell 0 _ rfl⟩
  | 1, _ => exact ⟨_, h.cell 1 _ rfl⟩
  | 2, _ => exact ⟨_, h.cell 2 _ rfl⟩
  | 3, _ => exact ⟨_, h.cell 3 _ rfl⟩
  | 4, _ => exact ⟨_, h.cell 4 _ rfl⟩
theorem stable_at2 (b : Nat) (x y : Value) : Stable (At2 b x y) := fun _ _ h k => h.below k
theorem stable_at4 (b : Nat) (x y z u : Value) : Stable (At4 b x y z u) := fun _ _ h k => h.below k
theorem at5_set3 {b : Nat} {x y z u v : Value} {w : World} (h : At5 b x y z u v w) (k : Value) : At5 b x y z k v (w.setCell ⟨b, 3, none⟩ k) :=
  ⟨set_off _ (by omega) h.1, set_off _ (by omega) h.2.1, set_off _ (by omega) h.2.2.1, World.cell?_setCell_same _ _ _ h.2.2.2.1, set_off _ (by omega) h.2.2.2.2⟩

set_option maxRecDepth 100000 in
set_option maxHeartbeats 4000000 in
theorem fin_big {e f P Q b K X S D R : Int} {n : Bool} (W : World) (hs : Sz e f P Q b) (g0 : 0 ≤ f) (g1 : f ≤ 63)
    (kp : IntKind.u64.wrap (P - 1) = P - 1) (ka : bits .and .u64 S (P - 1) = R) (kd : S / 2 ^ f.toNat = D) (d0 : (D == 0) = false) (d1 : (D == 1) = false) :
    Calls Tryz.prog 283 #[.agg #[.int .i64 e, .int .i64 f], .agg #[.bool n, .int .i64 K, .int .i64 X, .int .u64 S]] W fun r W' => r = .returned (.tuple #[.int .u64 0, .int .i64 2]) ∧ Below W.heap.size W W' := by
  go_enter Tryz.func283, Tryz.ntmps283
  go_wp2_with fail
  have hz0 : W.heap.size ≠ W.heap.size + 1 := by omega
  refine wp_region_held_drew (S := fun w' => (w'.cell? ⟨W.heap.size, 0, none⟩ = some (.int .i64 e) ∧ w'.cell? ⟨W.heap.size, 1, none⟩ = some (.int .i64 f)) ∧ (w'.cell? ⟨W.heap.size + 1, 0, none⟩ = some (.bool n) ∧ w'.cell? ⟨W.heap.size + 1, 1, none⟩ = some (.int .i64 K) ∧ w'.cell? ⟨W.heap.size + 1, 2, none⟩ = some (.int .i64 X) ∧ w'.cell? ⟨W.heap.size + 1, 3, none⟩ = some (.int .u64 S))) (by kernel_rfl) ?_ (fun hHeld => ?_)
  · (try dsimp only)
    simp [go_sem]
  refine wo_start (N := W.heap.size + 1 + 1) (i1 := 10) (d1 := 6) (v1 := #[.int .i64 0, .int .i64 0, .bool false, .int .u64 0, .int .u64 0]) (t1 := 82) (f := 1) (n := 10) (T := fun w' => Below W.heap.size W w') (by kernel_rfl) (by kernel_rfl) (fun _ _ _ _ _ h => h) ((stable_at2 _ _ _).and (stable_at4 _ _ _ _ _)) ?_ (stable_below W) hHeld ((below2 W _ _).drew) (by simp) ?_
  · intro a w K h
    unfold wpOp
    go_simp
    exact Or.inl h
  clear hHeld
  refine woA 0 7 ?_
  refine woA 1 8 ?_
  refine woA 2 9 ?_
  refine woA 3 10 ?_
  refine woA 4 11 ?_
  refine woA 5 12 ?_
  refine wo_call (c := 6) (o := { dst := some 13, op := _, type := _, pos := _, after := _, guard := _ }) rfl (by kernel_rfl) (by kernel_rfl) (fun u hSu hTu Kk hKk => ?_)
  go_simp
  refine (one_any hs _).mono ?_
  rintro _ wn ⟨rfl, hbl⟩
  have HTn := hide (bthen hTu hbl)
  clear hTu hSu
  (try go_wp2_with fail)
  refine hKk.out _ _ (fun w' => Below W.heap.size W w') (by assumption) (stable_below W) (unhide HTn) ?_
  clear hKk Kk HTn
  (try simp only [Act.put, List.setIfInBounds_toArray, List.set_cons_zero, List.set_cons_succ])
  refine woA 7 14 ?_
  refine woA 8 15 ?_
  refine woA 9 16 ?_
  refine wo_fin (by kernel_rfl) (fun wf b1 hSu hTu k1 => ?_)
  (try simp only [Act.put, List.setIfInBounds_toArray, List.set_cons_zero, List.set_cons_succ])
  unfold ptr
  have zb := k1.base
  have HRm := hide (fresh_room k1)
  obtain ⟨⟨v0, c0⟩, f0⟩ := (unhide HRm) 0 (by omega)
  obtain ⟨⟨v1, c1⟩, f1⟩ := (unhide HRm) 1 (by omega)
  obtain ⟨⟨v2, c2⟩, f2⟩ := (unhide HRm) 2 (by omega)
  obtain ⟨⟨v3, c3⟩, f3⟩ := (unhide HRm) 3 (by omega)
  obtain ⟨⟨v4, c4⟩, f4⟩ := (unhide HRm) 4 (by omega)
  refine anyH_at #[true, true, true, true, true, true, true, true, true, true, true, false] (by kernel_rfl) ?_
  refine wpAnyH_ready (rs := [11]) (by kernel_rfl) (by simp) ?_
  refine AllReadyH.cons (o := { dst := none, op := _, type := _, pos := _, after := _, guard := _ }) rfl (fun Kk hKk => ?_) AllReadyH.nil
  go_simp
  refine hKk.out _ _ ?_ (fun hHeld => ?_)
  · (try dsimp only)
    exact ⟨At2.set5 hSu.1 (by omega) _ _ _ _ _, At4.set5 hSu.2 (by omega) _ _ _ _ _⟩
  clear hKk Kk
  refine wpAnyH_done (by kernel_rfl) ?_ _
  have HA5 := hide (at5_set5 (unhide HRm) (.int .i64 e) (.int .i64 f) (.bool n) (.int .u64 0) (.int .u64 R))
  have HB := hide (bset5 (c := b1) hTu (by omega) (.int .i64 e) (.int .i64 f) (.bool n) (.int .u64 0) (.int .u64 R))
  have HRm := hide ((unhide HRm).set5 (.int .i64 e) (.int .i64 f) (.bool n) (.int .u64 0) (.int .u64 R))
  have HS := hide hHeld
  clear hHeld hSu hTu k1 c0 c1 c2 c3 c4 f0 f1 f2 f3 f4
  generalize ((((wf.setCell ⟨b1, 0, none⟩ (.int .i64 e)).setCell ⟨b1, 1, none⟩ (.int .i64 f)).setCell ⟨b1, 2, none⟩ (.bool n)).setCell ⟨b1, 3, none⟩ (.int .u64 0)).setCell ⟨b1, 4, none⟩ (.int .u64 R) = wx at *
  obtain ⟨⟨s0, s1⟩, p0, p1, p2, p3⟩ := unhide HS
  go_wp2_with fail
  clear s0 s1 p0 p1 p2 p3
  go_ret2
  exact ⟨rfl, unhide HB⟩

set_option maxRecDepth 100000 in
set_option maxHeartbeats 4000000 in
theorem fin_z {e f P Q b K X S D R : Int} {n : Bool} (W : World) (hs : Sz e f P Q b) (g0 : 0 ≤ f) (g1 : f ≤ 63)
    (kp : IntKind.u64.wrap (P - 1) = P - 1) (ka : bits .and .u64 S (P - 1) = R) (kd : S / 2 ^ f.toNat = D) (d0 : (D == 0) = true) (z0 : (S == 0) = true) :
    Calls Tryz.prog 283 #[.agg #[.int .i64 e, .int .i64 f], .agg #[.bool n, .int .i64 K, .int .i64 X, .int .u64 S]] W fun r W' => r = .returned (.tuple #[.int .u64 0, .int .i64 2]) ∧ Below W.heap.size W W' := by
  go_enter Tryz.func283, Tryz.ntmps283
  go_wp2_with fail
  have hz0 : W.heap.size ≠ W.heap.size + 1 := by omega
  refine wp_region_held_drew (S := fun w' => (w'.cell? ⟨W.heap.size, 0, none⟩ = some (.int .i64 e) ∧ w'.cell? ⟨W.heap.size, 1, none⟩ = some (.int .i64 f)) ∧ (w'.cell? ⟨W.heap.size + 1, 0, none⟩ = some (.bool n) ∧ w'.cell? ⟨W.heap.size + 1, 1, none⟩ = some (.int .i64 K) ∧ w'.cell? ⟨W.heap.size + 1, 2, none⟩ = some (.int .i64 X) ∧ w'.cell? ⟨W.heap.size + 1, 3, none⟩ = some (.int .u64 S))) (by kernel_rfl) ?_ (fun hHeld => ?_)
  · (try dsimp only)
    simp [go_sem]
  refine wo_start (N := W.heap.size + 1 + 1) (i1 := 10) (d1 := 6) (v1 := #[.int .i64 0, .int .i64 0, .bool false, .int .u64 0, .int .u64 0]) (t1 := 82) (f := 1) (n := 10) (T := fun w' => Below W.heap.size W w') (by kernel_rfl) (by kernel_rfl) (fun _ _ _ _ _ h => h) ((stable_at2 _ _ _).and (stable_at4 _ _ _ _ _)) ?_ (stable_below W) hHeld ((below2 W _ _).drew) (by simp) ?_
  · intro a w K h
    unfold wpOp
    go_simp
    exact Or.inl h
  clear hHeld
  refine woA 0 7 ?_
  refine woA 1 8 ?_
  refine woA 2 9 ?_
  refine woA 3 10 ?_
  refine woA 4 11 ?_
  refine woA 5 12 ?_
  refine wo_call (c := 6) (o := { dst := some 13, op := _, type := _, pos := _, after := _, guard := _ }) rfl (by kernel_rfl) (by kernel_rfl) (fun u hSu hTu Kk hKk => ?_)
  go_simp
  refine (one_any hs _).mono ?_
  rintro _ wn ⟨rfl, hbl⟩
  have HTn := hide (bthen hTu hbl)
  clear hTu hSu
  (try go_wp2_with fail)
  refine hKk.out _ _ (fun w' => Below W.heap.size W w') (by assumption) (stable_below W) (unhide HTn) ?_
  clear hKk Kk HTn
  (try simp only [Act.put, List.setIfInBounds_toArray, List.set_cons_zero, List.set_cons_succ])
  refine woA 7 14 ?_
  refine woA 8 15 ?_
  refine woA 9 16 ?_
  refine wo_fin (by kernel_rfl) (fun wf b1 hSu hTu k1 => ?_)
  (try simp only [Act.put, List.setIfInBounds_toArray, List.set_cons_zero, List.set_cons_succ])
  unfold ptr
  have zb := k1.base
  have HRm := hide (fresh_room k1)
  obtain ⟨⟨v0, c0⟩, f0⟩ := (unhide HRm) 0 (by omega)
  obtain ⟨⟨v1, c1⟩, f1⟩ := (unhide HRm) 1 (by omega)
  obtain ⟨⟨v2, c2⟩, f2⟩ := (unhide HRm) 2 (by omega)
  obtain ⟨⟨v3, c3⟩, f3⟩ := (unhide HRm) 3 (by omega)
  obtain ⟨⟨v4, c4⟩, f4⟩ := (unhide HRm) 4 (by omega)
  refine anyH_at #[true, true, true, true, true, true, true, true, true, true, true, false] (by kernel_rfl) ?_
  refine wpAnyH_ready (rs := [11]) (by kernel_rfl) (by simp) ?_
  refine AllReadyH.cons (o := { dst := none, op := _, type := _, pos := _, after := _, guard := _ }) rfl (fun Kk hKk => ?_) AllReadyH.nil
  go_simp
  refine hKk.out _ _ ?_ (fun hHeld => ?_)
  · (try dsimp only)
    exact ⟨At2.set5 hSu.1 (by omega) _ _ _ _ _, At4.set5 hSu.2 (by omega) _ _ _ _ _⟩
  clear hKk Kk
  refine wpAnyH_done (by kernel_rfl) ?_ _
  have HA5 := hide (at5_set5 (unhide HRm) (.int .i64 e) (.int .i64 f) (.bool n) (.int .u64 0) (.int .u64 R))
  have HB := hide (bset5 (c := b1) hTu (by omega) (.int .i64 e) (.int .i64 f) (.bool n) (.int .u64 0) (.int .u64 R))
  have HRm := hide ((unhide HRm).set5 (.int .i64 e) (.int .i64 f) (.bool n) (.int .u64 0) (.int .u64 R))
  have HS := hide hHeld
  clear hHeld hSu hTu k1 c0 c1 c2 c3 c4 f0 f1 f2 f3 f4
  generalize ((((wf.setCell ⟨b1, 0, none⟩ (.int .i64 e)).setCell ⟨b1, 1, none⟩ (.int .i64 f)).setCell ⟨b1, 2, none⟩ (.bool n)).setCell ⟨b1, 3, none⟩ (.int .u64 0)).setCell ⟨b1, 4, none⟩ (.int .u64 R) = wx at *
  obtain ⟨⟨s0, s1⟩, p0, p1, p2, p3⟩ := unhide HS
  go_wp2_with fail
  clear s0 s1 p0 p1 p2 p3
  have HB := hide (unhide HB).drew
  have HA5 := hide ((unhide HA5).below ((Below.refl _ _).drew))
  have HRm := hide (unhide HRm).drew
  have HS := hide (((stable_at2 _ _ _).and (stable_at4 _ _ _ _ _)) _ _ (unhide HS) ((Below.refl _ _).drew))
  refine wp_region_held_drew (S := fun w' => (w'.cell? ⟨W.heap.size, 0, none⟩ = some (.int .i64 e) ∧ w'.cell? ⟨W.heap.size, 1, none⟩ = some (.int .i64 f)) ∧ (w'.cell? ⟨W.heap.size + 1, 0, none⟩ = some (.bool n) ∧ w'.cell? ⟨W.heap.size + 1, 1, none⟩ = some (.int .i64 K) ∧ w'.cell? ⟨W.heap.size + 1, 2, none⟩ = some (.int .i64 X) ∧ w'.cell? ⟨W.heap.size + 1, 3, none⟩ = some (.int .u64 S))) (by kernel_rfl) ?_ (fun hHeld => ?_)
  · (try dsimp only)
    exact unhide HS
  refine lst0 10 (by kernel_rfl) ?_
  refine tkA 0 24 1 ?_
  refine tkA 1 25 3 ?_
  refine tkA 2 26 7 ?_
  refine tkA 3 27 15 ?_
  refine tkU 4 28 31 ?_
  refine tkU 5 29 63 ?_
  refine tkU 6 30 127 ?_
  refine rdA 7 255 (fun Kk hKk => ?_)
  go_simp
  refine hKk.out _ _ ?_ (fun hHeld => ?_)
  · (try dsimp only)
    exact hHeld
  clear hKk Kk
  (try simp only [List.setIfInBounds_toArray, List.set_cons_zero, List.set_cons_succ])
  refine tkU 8 32 511 ?_
  refine tkA 9 33 1023 ?_
  refine wpAnyH_done (by kernel_rfl) ?_ _
  clear hHeld
  go_wp2_with fail
  go_ret2
  exact ⟨rfl, unhide HB⟩

set_option maxRecDepth 100000 in
set_option maxHeartbeats 4000000 in
theorem fin_x {e f P Q b K X S D R : Int} {n : Bool} (W : World) (hs : Sz e f P Q b) (g0 : 0 ≤ f) (g1 : f ≤ 63)
    (kp : IntKind.u64.wrap (P - 1) = P - 1) (ka : bits .and .u64 S (P - 1) = R) (kd : S / 2 ^ f.toNat = D) (d0 : (D == 0) = true) (z0 : (S == 0) = false) (x0 : (X != 1 - b - f) = true) :
    Calls Tryz.prog 283 #[.agg #[.int .i64 e, .int .i64 f], .agg #[.bool n, .int .i64 K, .int .i64 X, .int .u64 S]] W fun r W' => r = .returned (.tuple #[.int .u64 0, .int .i64 2]) ∧ Below W.heap.size W W' := by
  go_enter Tryz.func283, Tryz.ntmps283
  go_wp2_with fail
  have hz0 : W.heap.size ≠ W.heap.size + 1 := by omega
  refine wp_region_held_drew (S := fun w' => (w'.cell? ⟨W.heap.size, 0, none⟩ = some (.int .i64 e) ∧ w'.cell? ⟨W.heap.size, 1, none⟩ = some (.int .i64 f)) ∧ (w'.cell? ⟨W.heap.size + 1, 0, none⟩ = some (.bool n) ∧ w'.cell? ⟨W.heap.size + 1, 1, none⟩ = some (.int .i64 K) ∧ w'.cell? ⟨W.heap.size + 1, 2, none⟩ = some (.int .i64 X) ∧ w'.cell? ⟨W.heap.size + 1, 3, none⟩ = some (.int .u64 S))) (by kernel_rfl) ?_ (fun hHeld => ?_)
  · (try dsimp only)
    simp [go_sem]
  refine wo_start (N := W.heap.size + 1 + 1) (i1 := 10) (d1 := 6) (v1 := #[.int .i64 0, .int .i64 0, .bool false, .int .u64 0, .int .u64 0]) (t1 := 82) (f := 1) (n := 10) (T := fun w' => Below W.heap.size W w') (by kernel_rfl) (by kernel_rfl) (fun _ _ _ _ _ h => h) ((stable_at2 _ _ _).and (stable_at4 _ _ _ _ _)) ?_ (stable_below W) hHeld ((below2 W _ _).drew) (by simp) ?_
  · intro a w K h
    unfold wpOp
    go_simp
    exact Or.inl h
  clear hHeld
  refine woA 0 7 ?_
  refine woA 1 8 ?_
  refine woA 2 9 ?_
  refine woA 3 10 ?_
  refine woA 4 11 ?_
  refine woA 5 12 ?_
  refine wo_call (c := 6) (o := { dst := some 13, op := _, type := _, pos := _, after := _, guard := _ }) rfl (by kernel_rfl) (by kernel_rfl) (fun u hSu hTu Kk hKk => ?_)
  go_simp
  refine (one_any hs _).mono ?_
  rintro _ wn ⟨rfl, hbl⟩
  have HTn := hide (bthen hTu hbl)
  clear hTu hSu
  (try go_wp2_with fail)
  refine hKk.out _ _ (fun w' => Below W.heap.size W w') (by assumption) (stable_below W) (unhide HTn) ?_
  clear hKk Kk HTn
  (try simp only [Act.put, List.setIfInBounds_toArray, List.set_cons_zero, List.set_cons_succ])
  refine woA 7 14 ?_
  refine woA 8 15 ?_
  refine woA 9 16 ?_
  refine wo_fin (by kernel_rfl) (fun wf b1 hSu hTu k1 => ?_)
  (try simp only [Act.put, List.setIfInBounds_toArray, List.set_cons_zero, List.set_cons_succ])
  unfold ptr
  have zb := k1.base
  have HRm := hide (fresh_room k1)
  obtain ⟨⟨v0, c0⟩, f0⟩ := (unhide HRm) 0 (by omega)
  obtain ⟨⟨v1, c1⟩, f1⟩ := (unhide HRm) 1 (by omega)
  obtain ⟨⟨v2, c2⟩, f2⟩ := (unhide HRm) 2 (by omega)
  obtain ⟨⟨v3, c3⟩, f3⟩ := (unhide HRm) 3 (by omega)
  obtain ⟨⟨v4, c4⟩, f4⟩ := (unhide HRm) 4 (by omega)
  refine anyH_at #[true, true, true, true, true, true, true, true, true, true, true, false] (by kernel_rfl) ?_
  refine wpAnyH_ready (rs := [11]) (by kernel_rfl) (by simp) ?_
  refine AllReadyH.cons (o := { dst := none, op := _, type := _, pos := _, after := _, guard := _ }) rfl (fun Kk hKk => ?_) AllReadyH.nil
  go_simp
  refine hKk.out _ _ ?_ (fun hHeld => ?_)
  · (try dsimp only)
    exact ⟨At2.set5 hSu.1 (by omega) _ _ _ _ _, At4.set5 hSu.2 (by omega) _ _ _ _ _⟩
  clear hKk Kk
  refine wpAnyH_done (by kernel_rfl) ?_ _
  have HA5 := hide (at5_set5 (unhide HRm) (.int .i64 e) (.int .i64 f) (.bool n) (.int .u64 0) (.int .u64 R))
  have HB := hide (bset5 (c := b1) hTu (by omega) (.int .i64 e) (.int .i64 f) (.bool n) (.int .u64 0) (.int .u64 R))
  have HRm := hide ((unhide HRm).set5 (.int .i64 e) (.int .i64 f) (.bool n) (.int .u64 0) (.int .u64 R))
  have HS := hide hHeld
  clear hHeld hSu hTu k1 c0 c1 c2 c3 c4 f0 f1 f2 f3 f4
  generalize ((((wf.setCell ⟨b1, 0, none⟩ (.int .i64 e)).setCell ⟨b1, 1, none⟩ (.int .i64 f)).setCell ⟨b1, 2, none⟩ (.bool n)).setCell ⟨b1, 3, none⟩ (.int .u64 0)).setCell ⟨b1, 4, none⟩ (.int .u64 R) = wx at *
  obtain ⟨⟨s0, s1⟩, p0, p1, p2, p3⟩ := unhide HS
  go_wp2_with fail
  clear s0 s1 p0 p1 p2 p3
  have HB := hide (unhide HB).drew
  have HA5 := hide ((unhide HA5).below ((Below.refl _ _).drew))
  have HRm := hide (unhide HRm).drew
  have HS := hide (((stable_at2 _ _ _).and (stable_at4 _ _ _ _ _)) _ _ (unhide HS) ((Below.refl _ _).drew))
  refine wp_region_held_drew (S := fun w' => (w'.cell? ⟨W.heap.size, 0, none⟩ = some (.int .i64 e) ∧ w'.cell? ⟨W.heap.size, 1, none⟩ = some (.int .i64 f)) ∧ (w'.cell? ⟨W.heap.size + 1, 0, none⟩ = some (.bool n) ∧ w'.cell? ⟨W.heap.size + 1, 1, none⟩ = some (.int .i64 K) ∧ w'.cell? ⟨W.heap.size + 1, 2, none⟩ = some (.int .i64 X) ∧ w'.cell? ⟨W.heap.size + 1, 3, none⟩ = some (.int .u64 S))) (by kernel_rfl) ?_ (fun hHeld => ?_)
  · (try dsimp only)
    exact unhide HS
  refine lst0 10 (by kernel_rfl) ?_
  refine tkA 0 24 1 ?_
  refine tkA 1 25 3 ?_
  refine tkA 2 26 7 ?_
  refine tkA 3 27 15 ?_
  refine tkA 4 28 31 ?_
  refine tkA 5 29 63 ?_
  refine tkA 6 30 127 ?_
  refine rdA 7 255 (fun Kk hKk => ?_)
  go_simp
  refine (least_any hs _).mono ?_
  rintro _ wl ⟨rfl, hbl⟩
  have HB := hide (bthen (unhide HB) hbl)
  have HA5 := hide ((unhide HA5).below hbl)
  have HRm := hide ((unhide HRm).below hbl)
  have HS := hide (((stable_at2 _ _ _).and (stable_at4 _ _ _ _ _)) _ _ (unhide HS) hbl)
  clear hbl
  (try go_wp2_with fail)
  refine hKk.out _ _ ?_ (fun hHeld => ?_)
  · (try dsimp only)
    exact unhide HS
  clear hKk Kk
  (try simp only [List.setIfInBounds_toArray, List.set_cons_zero, List.set_cons_succ])
  refine tkA 8 32 511 ?_
  refine tkA 9 33 1023 ?_
  refine wpAnyH_done (by kernel_rfl) ?_ _
  clear hHeld
  go_wp2_with fail
  go_ret2
  exact ⟨rfl, unhide HB⟩

set_option maxRecDepth 100000 in
set_option maxHeartbeats 4000000 in
theorem fin_sub {e f P Q b K X S D R : Int} {n : Bool} (W : World) (hs : Sz e f P Q b) (g0 : 0 ≤ f) (g1 : f ≤ 63)
    (kp : IntKind.u64.wrap (P - 1) = P - 1) (ka : bits .and .u64 S (P - 1) = R) (kd : S / 2 ^ f.toNat = D) (d0 : (D == 0) = true) (z0 : (S == 0) = false) (x0 : (X != 1 - b - f) = false) {V : Int} (HC : Ct 54 #[.agg #[.int .i64 e, .int .i64 f, .bool n, .int .u64 0, .int .u64 R]] (.int .u64 V)) :
    Calls Tryz.prog 283 #[.agg #[.int .i64 e, .int .i64 f], .agg #[.bool n, .int .i64 K, .int .i64 X, .int .u64 S]] W fun r W' => r = .returned (.tuple #[.int .u64 V, .int .i64 0]) ∧ Below W.heap.size W W' := by
  go_enter Tryz.func283, Tryz.ntmps283
  go_wp2_with fail
  have hz0 : W.heap.size ≠ W.heap.size + 1 := by omega
  refine wp_region_held_drew (S := fun w' => (w'.cell? ⟨W.heap.size, 0, none⟩ = some (.int .i64 e) ∧ w'.cell? ⟨W.heap.size, 1, none⟩ = some (.int .i64 f)) ∧ (w'.cell? ⟨W.heap.size + 1, 0, none⟩ = some (.bool n) ∧ w'.cell? ⟨W.heap.size + 1, 1, none⟩ = some (.int .i64 K) ∧ w'.cell? ⟨W.heap.size + 1, 2, none⟩ = some (.int .i64 X) ∧ w'.cell? ⟨W.heap.size + 1, 3, none⟩ = some (.int .u64 S))) (by kernel_rfl) ?_ (fun hHeld => ?_)
  · (try dsimp only)
    simp [go_sem]
  refine wo_start (N := W.heap.size + 1 + 1) (i1 := 10) (d1 := 6) (v1 := #[.int .i64 0, .int .i64 0, .bool false, .int .u64 0, .int .u64 0]) (t1 := 82) (f := 1) (n := 10) (T := fun w' => Below W.heap.size W w') (by kernel_rfl) (by kernel_rfl) (fun _ _ _ _ _ h => h) ((stable_at2 _ _ _).and (stable_at4 _ _ _ _ _)) ?_ (stable_below W) hHeld ((below2 W _ _).drew) (by simp) ?_
  · intro a w K h
    unfold wpOp
    go_simp
    exact Or.inl h
  clear hHeld
  refine woA 0 7 ?_
  refine woA 1 8 ?_
  refine woA 2 9 ?_
  refine woA 3 10 ?_
  refine woA 4 11 ?_
  refine woA 5 12 ?_
  refine wo_call (c := 6) (o := { dst := some 13, op := _, type := _, pos := _, after := _, guard := _ }) rfl (by kernel_rfl) (by kernel_rfl) (fun u hSu hTu Kk hKk => ?_)
  go_simp
  refine (one_any hs _).mono ?_
  rintro _ wn ⟨rfl, hbl⟩
  have HTn := hide (bthen hTu hbl)
  clear hTu hSu
  (try go_wp2_with fail)
  refine hKk.out _ _ (fun w' => Below W.heap.size W w') (by assumption) (stable_below W) (unhide HTn) ?_
  clear hKk Kk HTn
  (try simp only [Act.put, List.setIfInBounds_toArray, List.set_cons_zero, List.set_cons_succ])
  refine woA 7 14 ?_
  refine woA 8 15 ?_
  refine woA 9 16 ?_
  refine wo_fin (by kernel_rfl) (fun wf b1 hSu hTu k1 => ?_)
  (try simp only [Act.put, List.setIfInBounds_toArray, List.set_cons_zero, List.set_cons_succ])
  unfold ptr
  have zb := k1.base
  have HRm := hide (fresh_room k1)
  obtain ⟨⟨v0, c0⟩, f0⟩ := (unhide HRm) 0 (by omega)
  obtain ⟨⟨v1, c1⟩, f1⟩ := (unhide HRm) 1 (by omega)
  obtain ⟨⟨v2, c2⟩, f2⟩ := (unhide HRm) 2 (by omega)
  obtain ⟨⟨v3, c3⟩, f3⟩ := (unhide HRm) 3 (by omega)
  obtain ⟨⟨v4, c4⟩, f4⟩ := (unhide HRm) 4 (by omega)
  refine anyH_at #[true, true, true, true, true, true, true, true, true, true, true, false] (by kernel_rfl) ?_
  refine wpAnyH_ready (rs := [11]) (by kernel_rfl) (by simp) ?_
  refine AllReadyH.cons (o := { dst := none, op := _, type := _, pos := _, after := _, guard := _ }) rfl (fun Kk hKk => ?_) AllReadyH.nil
  go_simp
  refine hKk.out _ _ ?_ (fun hHeld => ?_)
  · (try dsimp only)
    exact ⟨At2.set5 hSu.1 (by omega) _ _ _ _ _, At4.set5 hSu.2 (by omega) _ _ _ _ _⟩
  clear hKk Kk
  refine wpAnyH_done (by kernel_rfl) ?_ _
  have HA5 := hide (at5_set5 (unhide HRm) (.int .i64 e) (.int .i64 f) (.bool n) (.int .u64 0) (.int .u64 R))
  have HB := hide (bset5 (c := b1) hTu (by omega) (.int .i64 e) (.int .i64 f) (.bool n) (.int .u64 0) (.int .u64 R))
  have HRm := hide ((unhide HRm).set5 (.int .i64 e) (.int .i64 f) (.bool n) (.int .u64 0) (.int .u64 R))
  have HS := hide hHeld
  clear hHeld hSu hTu k1 c0 c1 c2 c3 c4 f0 f1 f2 f3 f4
  generalize ((((wf.setCell ⟨b1, 0, none⟩ (.int .i64 e)).setCell ⟨b1, 1, none⟩ (.int .i64 f)).setCell ⟨b1, 2, none⟩ (.bool n)).setCell ⟨b1, 3, none⟩ (.int .u64 0)).setCell ⟨b1, 4, none⟩ (.int .u64 R) = wx at *
  obtain ⟨⟨s0, s1⟩, p0, p1, p2, p3⟩ := unhide HS
  go_wp2_with fail
  clear s0 s1 p0 p1 p2 p3
  have HB := hide (unhide HB).drew
  have HA5 := hide ((unhide HA5).below ((Below.refl _ _).drew))
  have HRm := hide (unhide HRm).drew
  have HS := hide (((stable_at2 _ _ _).and (stable_at4 _ _ _ _ _)) _ _ (unhide HS) ((Below.refl _ _).drew))
  refine wp_region_held_drew (S := fun w' => (w'.cell? ⟨W.heap.size, 0, none⟩ = some (.int .i64 e) ∧ w'.cell? ⟨W.heap.size, 1, none⟩ = some (.int .i64 f)) ∧ (w'.cell? ⟨W.heap.size + 1, 0, none⟩ = some (.bool n) ∧ w'.cell? ⟨W.heap.size + 1, 1, none⟩ = some (.int .i64 K) ∧ w'.cell? ⟨W.heap.size + 1, 2, none⟩ = some (.int .i64 X) ∧ w'.cell? ⟨W.heap.size + 1, 3, none⟩ = some (.int .u64 S))) (by kernel_rfl) ?_ (fun hHeld => ?_)
  · (try dsimp only)
    exact unhide HS
  refine lst0 10 (by kernel_rfl) ?_
  refine tkA 0 24 1 ?_
  refine tkA 1 25 3 ?_
  refine tkA 2 26 7 ?_
  refine tkA 3 27 15 ?_
  refine tkA 4 28 31 ?_
  refine tkA 5 29 63 ?_
  refine tkA 6 30 127 ?_
  refine rdA 7 255 (fun Kk hKk => ?_)
  go_simp
  refine (least_any hs _).mono ?_
  rintro _ wl ⟨rfl, hbl⟩
  have HB := hide (bthen (unhide HB) hbl)
  have HA5 := hide ((unhide HA5).below hbl)
  have HRm := hide ((unhide HRm).below hbl)
  have HS := hide (((stable_at2 _ _ _).and (stable_at4 _ _ _ _ _)) _ _ (unhide HS) hbl)
  clear hbl
  (try go_wp2_with fail)
  refine hKk.out _ _ ?_ (fun hHeld => ?_)
  · (try dsimp only)
    exact unhide HS
  clear hKk Kk
  (try simp only [List.setIfInBounds_toArray, List.set_cons_zero, List.set_cons_succ])
  refine tkA 8 32 511 ?_
  refine tkA 9 33 1023 ?_
  refine wpAnyH_done (by kernel_rfl) ?_ _
  clear hHeld
  obtain ⟨a0, a1, a2, a3, a4⟩ := unhide HA5
  go_wp2_with fail
  refine (unhide HC _).mono ?_
  rintro _ wz ⟨rfl, hbl⟩
  have HB := hide (bthen (unhide HB) hbl)
  go_wp2_with fail
  go_ret2
  exact ⟨rfl, unhide HB⟩

set_option maxRecDepth 100000 in
set_option maxHeartbeats 4000000 in
theorem fin_lo {e f P Q b K X S D R : Int} {n : Bool} (W : World) (hs : Sz e f P Q b) (g0 : 0 ≤ f) (g1 : f ≤ 63)
    (kp : IntKind.u64.wrap (P - 1) = P - 1) (ka : bits .and .u64 S (P - 1) = R) (kd : S / 2 ^ f.toNat = D) (d0 : (D == 0) = false) (d1 : (D == 1) = true) (x0 : decide (X < 1 - b - f) = true) :
    Calls Tryz.prog 283 #[.agg #[.int .i64 e, .int .i64 f], .agg #[.bool n, .int .i64 K, .int .i64 X, .int .u64 S]] W fun r W' => r = .returned (.tuple #[.int .u64 0, .int .i64 2]) ∧ Below W.heap.size W W' := by
  go_enter Tryz.func283, Tryz.ntmps283
  go_wp2_with fail
  have hz0 : W.heap.size ≠ W.heap.size + 1 := by omega
  refine wp_region_held_drew (S := fun w' => (w'.cell? ⟨W.heap.size, 0, none⟩ = some (.int .i64 e) ∧ w'.cell? ⟨W.heap.size, 1, none⟩ = some (.int .i64 f)) ∧ (w'.cell? ⟨W.heap.size + 1, 0, none⟩ = some (.bool n) ∧ w'.cell? ⟨W.heap.size + 1, 1, none⟩ = some (.int .i64 K) ∧ w'.cell? ⟨W.heap.size + 1, 2, none⟩ = some (.int .i64 X) ∧ w'.cell? ⟨W.heap.size + 1, 3, none⟩ = some (.int .u64 S))) (by kernel_rfl) ?_ (fun hHeld => ?_)
  · (try dsimp only)
    simp [go_sem]
  refine wo_start (N := W.heap.size + 1 + 1) (i1 := 10) (d1 := 6) (v1 := #[.int .i64 0, .int .i64 0, .bool false, .int .u64 0, .int .u64 0]) (t1 := 82) (f := 1) (n := 10) (T := fun w' => Below W.heap.size W w') (by kernel_rfl) (by kernel_rfl) (fun _ _ _ _ _ h => h) ((stable_at2 _ _ _).and (stable_at4 _ _ _ _ _)) ?_ (stable_below W) hHeld ((below2 W _ _).drew) (by simp) ?_
  · intro a w K h
    unfold wpOp
    go_simp
    exact Or.inl h
  clear hHeld
  refine woA 0 7 ?_
  refine woA 1 8 ?_
  refine woA 2 9 ?_
  refine woA 3 10 ?_
  refine woA 4 11 ?_
  refine woA 5 12 ?_
  refine wo_call (c := 6) (o := { dst := some 13, op := _, type := _, pos := _, after := _, guard := _ }) rfl (by kernel_rfl) (by kernel_rfl) (fun u hSu hTu Kk hKk => ?_)
  go_simp
  refine (one_any hs _).mono ?_
  rintro _ wn ⟨rfl, hbl⟩
  have HTn := hide (bthen hTu hbl)
  clear hTu hSu
  (try go_wp2_with fail)
  refine hKk.out _ _ (fun w' => Below W.heap.size W w') (by assumption) (stable_below W) (unhide HTn) ?_
  clear hKk Kk HTn
  (try simp only [Act.put, List.setIfInBounds_toArray, List.set_cons_zero, List.set_cons_succ])
  refine woA 7 14 ?_
  refine woA 8 15 ?_
  refine woA 9 16 ?_
  refine wo_fin (by kernel_rfl) (fun wf b1 hSu hTu k1 => ?_)
  (try simp only [Act.put, List.setIfInBounds_toArray, List.set_cons_zero, List.set_cons_succ])
  unfold ptr
  have zb := k1.base
  have HRm := hide (fresh_room k1)
  obtain ⟨⟨v0, c0⟩, f0⟩ := (unhide HRm) 0 (by omega)
  obtain ⟨⟨v1, c1⟩, f1⟩ := (unhide HRm) 1 (by omega)
  obtain ⟨⟨v2, c2⟩, f2⟩ := (unhide HRm) 2 (by omega)
  obtain ⟨⟨v3, c3⟩, f3⟩ := (unhide HRm) 3 (by omega)
  obtain ⟨⟨v4, c4⟩, f4⟩ := (unhide HRm) 4 (by omega)
  refine anyH_at #[true, true, true, true, true, true, true, true, true, true, true, false] (by kernel_rfl) ?_
  refine wpAnyH_ready (rs := [11]) (by kernel_rfl) (by simp) ?_
  refine AllReadyH.cons (o := { dst := none, op := _, type := _, pos := _, after := _, guard := _ }) rfl (fun Kk hKk => ?_) AllReadyH.nil
  go_simp
  refine hKk.out _ _ ?_ (fun hHeld => ?_)
  · (try dsimp only)
    exact ⟨At2.set5 hSu.1 (by omega) _ _ _ _ _, At4.set5 hSu.2 (by omega) _ _ _ _ _⟩
  clear hKk Kk
  refine wpAnyH_done (by kernel_rfl) ?_ _
  have HA5 := hide (at5_set5 (unhide HRm) (.int .i64 e) (.int .i64 f) (.bool n) (.int .u64 0) (.int .u64 R))
  have HB := hide (bset5 (c := b1) hTu (by omega) (.int .i64 e) (.int .i64 f) (.bool n) (.int .u64 0) (.int .u64 R))
  have HRm := hide ((unhide HRm).set5 (.int .i64 e) (.int .i64 f) (.bool n) (.int .u64 0) (.int .u64 R))
  have HS := hide hHeld
  clear hHeld hSu hTu k1 c0 c1 c2 c3 c4 f0 f1 f2 f3 f4
  generalize ((((wf.setCell ⟨b1, 0, none⟩ (.int .i64 e)).setCell ⟨b1, 1, none⟩ (.int .i64 f)).setCell ⟨b1, 2, none⟩ (.bool n)).setCell ⟨b1, 3, none⟩ (.int .u64 0)).setCell ⟨b1, 4, none⟩ (.int .u64 R) = wx at *
  obtain ⟨⟨s0, s1⟩, p0, p1, p2, p3⟩ := unhide HS
  go_wp2_with fail
  clear s0 s1 p0 p1 p2 p3
  have HB := hide (unhide HB).drew
  have HA5 := hide ((unhide HA5).below ((Below.refl _ _).drew))
  have HRm := hide (unhide HRm).drew
  have HS := hide (((stable_at2 _ _ _).and (stable_at4 _ _ _ _ _)) _ _ (unhide HS) ((Below.refl _ _).drew))
  refine wp_region_held_drew (S := fun w' => (w'.cell? ⟨W.heap.size, 0, none⟩ = some (.int .i64 e) ∧ w'.cell? ⟨W.heap.size, 1, none⟩ = some (.int .i64 f)) ∧ (w'.cell? ⟨W.heap.size + 1, 0, none⟩ = some (.bool n) ∧ w'.cell? ⟨W.heap.size + 1, 1, none⟩ = some (.int .i64 K) ∧ w'.cell? ⟨W.heap.size + 1, 2, none⟩ = some (.int .i64 X) ∧ w'.cell? ⟨W.heap.size + 1, 3, none⟩ = some (.int .u64 S))) (by kernel_rfl) ?_ (fun hHeld => ?_)
  · (try dsimp only)
    exact unhide HS
  refine lst0 12 (by kernel_rfl) ?_
  refine tkA 0 36 1 ?_
  refine tkA 1 37 3 ?_
  refine tkA 2 38 7 ?_
  refine rdA 3 15 (fun Kk hKk => ?_)
  go_simp
  refine (least_any hs _).mono ?_
  rintro _ wl ⟨rfl, hbl⟩
  have HB := hide (bthen (unhide HB) hbl)
  have HA5 := hide ((unhide HA5).below hbl)
  have HRm := hide ((unhide HRm).below hbl)
  have HS := hide (((stable_at2 _ _ _).and (stable_at4 _ _ _ _ _)) _ _ (unhide HS) hbl)
  clear hbl
  (try go_wp2_with fail)
  refine hKk.out _ _ ?_ (fun hHeld => ?_)
  · (try dsimp only)
    exact unhide HS
  clear hKk Kk
  (try simp only [List.setIfInBounds_toArray, List.set_cons_zero, List.set_cons_succ])
  refine tkA 4 40 31 ?_
  refine tkA 5 41 63 ?_
  refine tkU 6 42 127 ?_
  refine tkU 7 43 255 ?_
  refine tkU 8 44 511 ?_
  refine rdA 9 1023 (fun Kk hKk => ?_)
  go_simp
  refine hKk.out _ _ ?_ (fun hHeld => ?_)
  · (try dsimp only)
    exact hHeld
  clear hKk Kk
  (try simp only [List.setIfInBounds_toArray, List.set_cons_zero, List.set_cons_succ])
  refine tkU 10 46 2047 ?_
  refine tkA 11 47 4095 ?_
  refine wpAnyH_done (by kernel_rfl) ?_ _
  clear hHeld
  go_wp2_with fail
  go_ret2
  exact ⟨rfl, unhide HB⟩

set_option maxRecDepth 100000 in
set_option maxHeartbeats 4000000 in
theorem fin_hi {e f P Q b K X S D R : Int} {n : Bool} (W : World) (hs : Sz e f P Q b) (g0 : 0 ≤ f) (g1 : f ≤ 63)
    (kp : IntKind.u64.wrap (P - 1) = P - 1) (ka : bits .and .u64 S (P - 1) = R) (kd : S / 2 ^ f.toNat = D) (d0 : (D == 0) = false) (d1 : (D == 1) = true) (x0 : decide (X < 1 - b - f) = false) (x1 : decide (Q - 2 - b - f < X) = true) :
    Calls Tryz.prog 283 #[.agg #[.int .i64 e, .int .i64 f], .agg #[.bool n, .int .i64 K, .int .i64 X, .int .u64 S]] W fun r W' => r = .returned (.tuple #[.int .u64 0, .int .i64 2]) ∧ Below W.heap.size W W' := by
  go_enter Tryz.func283, Tryz.ntmps283
  go_wp2_with fail
  have hz0 : W.heap.size ≠ W.heap.size + 1 := by omega
  refine wp_region_held_drew (S := fun w' => (w'.cell? ⟨W.heap.size, 0, none⟩ = some (.int .i64 e) ∧ w'.cell? ⟨W.heap.size, 1, none⟩ = some (.int .i64 f)) ∧ (w'.cell? ⟨W.heap.size + 1, 0, none⟩ = some (.bool n) ∧ w'.cell? ⟨W.heap.size + 1, 1, none⟩ = some (.int .i64 K) ∧ w'.cell? ⟨W.heap.size + 1, 2, none⟩ = some (.int .i64 X) ∧ w'.cell? ⟨W.heap.size + 1, 3, none⟩ = some (.int .u64 S))) (by kernel_rfl) ?_ (fun hHeld => ?_)
  · (try dsimp only)
    simp [go_sem]
  refine wo_start (N := W.heap.size + 1 + 1) (i1 := 10) (d1 := 6) (v1 := #[.int .i64 0, .int .i64 0, .bool false, .int .u64 0, .int .u64 0]) (t1 := 82) (f := 1) (n := 10) (T := fun w' => Below W.heap.size W w') (by kernel_rfl) (by kernel_rfl) (fun _ _ _ _ _ h => h) ((stable_at2 _ _ _).and (stable_at4 _ _ _ _ _)) ?_ (stable_below W) hHeld ((below2 W _ _).drew) (by simp) ?_
  · intro a w K h
    unfold wpOp
    go_simp
    exact Or.inl h
  clear hHeld
  refine woA 0 7 ?_
  refine woA 1 8 ?_
  refine woA 2 9 ?_
  refine woA 3 10 ?_
  refine woA 4 11 ?_
  refine woA 5 12 ?_
  refine wo_call (c := 6) (o := { dst := some 13, op := _, type := _, pos := _, after := _, guard := _ }) rfl (by kernel_rfl) (by kernel_rfl) (fun u hSu hTu Kk hKk => ?_)
  go_simp
  refine (one_any hs _).mono ?_
  rintro _ wn ⟨rfl, hbl⟩
  have HTn := hide (bthen hTu hbl)
  clear hTu hSu
  (try go_wp2_with fail)
  refine hKk.out _ _ (fun w' => Below W.heap.size W w') (by assumption) (stable_below W) (unhide HTn) ?_
  clear hKk Kk HTn
  (try simp only [Act.put, List.setIfInBounds_toArray, List.set_cons_zero, List.set_cons_succ])
  refine woA 7 14 ?_
  refine woA 8 15 ?_
  refine woA 9 16 ?_
  refine wo_fin (by kernel_rfl) (fun wf b1 hSu hTu k1 => ?_)
  (try simp only [Act.put, List.setIfInBounds_toArray, List.set_cons_zero, List.set_cons_succ])
  unfold ptr
  have zb := k1.base
  have HRm := hide (fresh_room k1)
  obtain ⟨⟨v0, c0⟩, f0⟩ := (unhide HRm) 0 (by omega)
  obtain ⟨⟨v1, c1⟩, f1⟩ := (unhide HRm) 1 (by omega)
  obtain ⟨⟨v2, c2⟩, f2⟩ := (unhide HRm) 2 (by omega)
  obtain ⟨⟨v3, c3⟩, f3⟩ := (unhide HRm) 3 (by omega)
  obtain ⟨⟨v4, c4⟩, f4⟩ := (unhide HRm) 4 (by omega)
  refine anyH_at #[true, true, true, true, true, true, true, true, true, true, true, false] (by kernel_rfl) ?_
  refine wpAnyH_ready (rs := [11]) (by kernel_rfl) (by simp) ?_
  refine AllReadyH.cons (o := { dst := none, op := _, type := _, pos := _, after := _, guard := _ }) rfl (fun Kk hKk => ?_) AllReadyH.nil
  go_simp
  refine hKk.out _ _ ?_ (fun hHeld => ?_)
  · (try dsimp only)
    exact ⟨At2.set5 hSu.1 (by omega) _ _ _ _ _, At4.set5 hSu.2 (by omega) _ _ _ _ _⟩
  clear hKk Kk
  refine wpAnyH_done (by kernel_rfl) ?_ _
  have HA5 := hide (at5_set5 (unhide HRm) (.int .i64 e) (.int .i64 f) (.bool n) (.int .u64 0) (.int .u64 R))
  have HB := hide (bset5 (c := b1) hTu (by omega) (.int .i64 e) (.int .i64 f) (.bool n) (.int .u64 0) (.int .u64 R))
  have HRm := hide ((unhide HRm).set5 (.int .i64 e) (.int .i64 f) (.bool n) (.int .u64 0) (.int .u64 R))
  have HS := hide hHeld
  clear hHeld hSu hTu k1 c0 c1 c2 c3 c4 f0 f1 f2 f3 f4
  generalize ((((wf.setCell ⟨b1, 0, none⟩ (.int .i64 e)).setCell ⟨b1, 1, none⟩ (.int .i64 f)).setCell ⟨b1, 2, none⟩ (.bool n)).setCell ⟨b1, 3, none⟩ (.int .u64 0)).setCell ⟨b1, 4, none⟩ (.int .u64 R) = wx at *
  obtain ⟨⟨s0, s1⟩, p0, p1, p2, p3⟩ := unhide HS
  go_wp2_with fail
  clear s0 s1 p0 p1 p2 p3
  have HB := hide (unhide HB).drew
  have HA5 := hide ((unhide HA5).below ((Below.refl _ _).drew))
  have HRm := hide (unhide HRm).drew
  have HS := hide (((stable_at2 _ _ _).and (stable_at4 _ _ _ _ _)) _ _ (unhide HS) ((Below.refl _ _).drew))
  refine wp_region_held_drew (S := fun w' => (w'.cell? ⟨W.heap.size, 0, none⟩ = some (.int .i64 e) ∧ w'.cell? ⟨W.heap.size, 1, none⟩ = some (.int .i64 f)) ∧ (w'.cell? ⟨W.heap.size + 1, 0, none⟩ = some (.bool n) ∧ w'.cell? ⟨W.heap.size + 1, 1, none⟩ = some (.int .i64 K) ∧ w'.cell? ⟨W.heap.size + 1, 2, none⟩ = some (.int .i64 X) ∧ w'.cell? ⟨W.heap.size + 1, 3, none⟩ = some (.int .u64 S))) (by kernel_rfl) ?_ (fun hHeld => ?_)
  · (try dsimp only)
    exact unhide HS
  refine lst0 12 (by kernel_rfl) ?_
  refine tkA 0 36 1 ?_
  refine tkA 1 37 3 ?_
  refine tkA 2 38 7 ?_
  refine rdA 3 15 (fun Kk hKk => ?_)
  go_simp
  refine (least_any hs _).mono ?_
  rintro _ wl ⟨rfl, hbl⟩
  have HB := hide (bthen (unhide HB) hbl)
  have HA5 := hide ((unhide HA5).below hbl)
  have HRm := hide ((unhide HRm).below hbl)
  have HS := hide (((stable_at2 _ _ _).and (stable_at4 _ _ _ _ _)) _ _ (unhide HS) hbl)
  clear hbl
  (try go_wp2_with fail)
  refine hKk.out _ _ ?_ (fun hHeld => ?_)
  · (try dsimp only)
    exact unhide HS
  clear hKk Kk
  (try simp only [List.setIfInBounds_toArray, List.set_cons_zero, List.set_cons_succ])
  refine tkA 4 40 31 ?_
  refine tkA 5 41 63 ?_
  refine tkA 6 42 127 ?_
  refine tkA 7 43 255 ?_
  refine tkA 8 44 511 ?_
  refine rdA 9 1023 (fun Kk hKk => ?_)
  go_simp
  refine (most_any hs _).mono ?_
  rintro _ wm ⟨rfl, hbl⟩
  have HB := hide (bthen (unhide HB) hbl)
  have HA5 := hide ((unhide HA5).below hbl)
  have HRm := hide ((unhide HRm).below hbl)
  have HS := hide (((stable_at2 _ _ _).and (stable_at4 _ _ _ _ _)) _ _ (unhide HS) hbl)
  clear hbl
  (try go_wp2_with fail)
  refine hKk.out _ _ ?_ (fun hHeld => ?_)
  · (try dsimp only)
    exact unhide HS
  clear hKk Kk
  (try simp only [List.setIfInBounds_toArray, List.set_cons_zero, List.set_cons_succ])
  refine tkA 10 46 2047 ?_
  refine tkA 11 47 4095 ?_
  refine wpAnyH_done (by kernel_rfl) ?_ _
  clear hHeld
  go_wp2_with fail
  go_ret2
  exact ⟨rfl, unhide HB⟩

set_option maxRecDepth 100000 in
set_option maxHeartbeats 4000000 in
theorem fin_nor {e f P Q b K X S D R : Int} {n : Bool} (W : World) (hs : Sz e f P Q b) (g0 : 0 ≤ f) (g1 : f ≤ 63)
    (kp : IntKind.u64.wrap (P - 1) = P - 1) (ka : bits .and .u64 S (P - 1) = R) (kd : S / 2 ^ f.toNat = D) (d0 : (D == 0) = false) (d1 : (D == 1) = true) (x0 : decide (X < 1 - b - f) = false) (x1 : decide (Q - 2 - b - f < X) = false) {E V G : Int} (HP : Ct 50 #[.agg #[.int .i64 e, .int .i64 f], .int .i64 0] (.int .i64 G)) (k0 : IntKind.i64.wrap (X - G) = E) (k1 : IntKind.u64.wrap E = E) (HC : Ct 54 #[.agg #[.int .i64 e, .int .i64 f, .bool n, .int .u64 E, .int .u64 R]] (.int .u64 V)) :
    Calls Tryz.prog 283 #[.agg #[.int .i64 e, .int .i64 f], .agg #[.bool n, .int .i64 K, .int .i64 X, .int .u64 S]] W fun r W' => r = .returned (.tuple #[.int .u64 V, .int .i64 0]) ∧ Below W.heap.size W W' := by
  go_enter Tryz.func283, Tryz.ntmps283
  go_wp2_with fail
  have hz0 : W.heap.size ≠ W.heap.size + 1 := by omega
  refine wp_region_held_drew (S := fun w' => (w'.cell? ⟨W.heap.size, 0, none⟩ = some (.int .i64 e) ∧ w'.cell? ⟨W.heap.size, 1, none⟩ = some (.int .i64 f)) ∧ (w'.cell? ⟨W.heap.size + 1, 0, none⟩ = some (.bool n) ∧ w'.cell? ⟨W.heap.size + 1, 1, none⟩ = some (.int .i64 K) ∧ w'.cell? ⟨W.heap.size + 1, 2, none⟩ = some (.int .i64 X) ∧ w'.cell? ⟨W.heap.size + 1, 3, none⟩ = some (.int .u64 S))) (by kernel_rfl) ?_ (fun hHeld => ?_)
  · (try dsimp only)
    simp [go_sem]
  refine wo_start (N := W.heap.size + 1 + 1) (i1 := 10) (d1 := 6) (v1 := #[.int .i64 0, .int .i64 0, .bool false, .int .u64 0, .int .u64 0]) (t1 := 82) (f := 1) (n := 10) (T := fun w' => Below W.heap.size W w') (by kernel_rfl) (by kernel_rfl) (fun _ _ _ _ _ h => h) ((stable_at2 _ _ _).and (stable_at4 _ _ _ _ _)) ?_ (stable_below W) hHeld ((below2 W _ _).drew) (by simp) ?_
  · intro a w K h
    unfold wpOp
    go_simp
    exact Or.inl h
  clear hHeld
  refine woA 0 7 ?_
  refine woA 1 8 ?_
  refine woA 2 9 ?_
  refine woA 3 10 ?_
  refine woA 4 11 ?_
  refine woA 5 12 ?_
  refine wo_call (c := 6) (o := { dst := some 13, op := _, type := _, pos := _, after := _, guard := _ }) rfl (by kernel_rfl) (by kernel_rfl) (fun u hSu hTu Kk hKk => ?_)
  go_simp
  refine (one_any hs _).mono ?_
  rintro _ wn ⟨rfl, hbl⟩
  have HTn := hide (bthen hTu hbl)
  clear hTu hSu
  (try go_wp2_with fail)
  refine hKk.out _ _ (fun w' => Below W.heap.size W w') (by assumption) (stable_below W) (unhide HTn) ?_
  clear hKk Kk HTn
  (try simp only [Act.put, List.setIfInBounds_toArray, List.set_cons_zero, List.set_cons_succ])
  refine woA 7 14 ?_
  refine woA 8 15 ?_
  refine woA 9 16 ?_
  refine wo_fin (by kernel_rfl) (fun wf b1 hSu hTu k1 => ?_)
  (try simp only [Act.put, List.setIfInBounds_toArray, List.set_cons_zero, List.set_cons_succ])
  unfold ptr
  have zb := k1.base
  have HRm := hide (fresh_room k1)
  obtain ⟨⟨v0, c0⟩, f0⟩ := (unhide HRm) 0 (by omega)
  obtain ⟨⟨v1, c1⟩, f1⟩ := (unhide HRm) 1 (by omega)
  obtain ⟨⟨v2, c2⟩, f2⟩ := (unhide HRm) 2 (by omega)
  obtain ⟨⟨v3, c3⟩, f3⟩ := (unhide HRm) 3 (by omega)
  obtain ⟨⟨v4, c4⟩, f4⟩ := (unhide HRm) 4 (by omega)
  refine anyH_at #[true, true, true, true, true, true, true, true, true, true, true, false] (by kernel_rfl) ?_
  refine wpAnyH_ready (rs := [11]) (by kernel_rfl) (by simp) ?_
  refine AllReadyH.cons (o := { dst := none, op := _, type := _, pos := _, after := _, guard := _ }) rfl (fun Kk hKk => ?_) AllReadyH.nil
  go_simp
  refine hKk.out _ _ ?_ (fun hHeld => ?_)
  · (try dsimp only)
    exact ⟨At2.set5 hSu.1 (by omega) _ _ _ _ _, At4.set5 hSu.2 (by omega) _ _ _ _ _⟩
  clear hKk Kk
  refine wpAnyH_done (by kernel_rfl) ?_ _
  have HA5 := hide (at5_set5 (unhide HRm) (.int .i64 e) (.int .i64 f) (.bool n) (.int .u64 0) (.int .u64 R))
  have HB := hide (bset5 (c := b1) hTu (by omega) (.int .i64 e) (.int .i64 f) (.bool n) (.int .u64 0) (.int .u64 R))
  have HRm := hide ((unhide HRm).set5 (.int .i64 e) (.int .i64 f) (.bool n) (.int .u64 0) (.int .u64 R))
  have HS := hide hHeld
  clear hHeld hSu hTu k1 c0 c1 c2 c3 c4 f0 f1 f2 f3 f4
  generalize ((((wf.setCell ⟨b1, 0, none⟩ (.int .i64 e)).setCell ⟨b1, 1, none⟩ (.int .i64 f)).setCell ⟨b1, 2, none⟩ (.bool n)).setCell ⟨b1, 3, none⟩ (.int .u64 0)).setCell ⟨b1, 4, none⟩ (.int .u64 R) = wx at *
  obtain ⟨⟨s0, s1⟩, p0, p1, p2, p3⟩ := unhide HS
  go_wp2_with fail
  clear s0 s1 p0 p1 p2 p3
  have HB := hide (unhide HB).drew
  have HA5 := hide ((unhide HA5).below ((Below.refl _ _).drew))
  have HRm := hide (unhide HRm).drew
  have HS := hide (((stable_at2 _ _ _).and (stable_at4 _ _ _ _ _)) _ _ (unhide HS) ((Below.refl _ _).drew))
  refine wp_region_held_drew (S := fun w' => (w'.cell? ⟨W.heap.size, 0, none⟩ = some (.int .i64 e) ∧ w'.cell? ⟨W.heap.size, 1, none⟩ = some (.int .i64 f)) ∧ (w'.cell? ⟨W.heap.size + 1, 0, none⟩ = some (.bool n) ∧ w'.cell? ⟨W.heap.size + 1, 1, none⟩ = some (.int .i64 K) ∧ w'.cell? ⟨W.heap.size + 1, 2, none⟩ = some (.int .i64 X) ∧ w'.cell? ⟨W.heap.size + 1, 3, none⟩ = some (.int .u64 S))) (by kernel_rfl) ?_ (fun hHeld => ?_)
  · (try dsimp only)
    exact unhide HS
  refine lst0 12 (by kernel_rfl) ?_
  refine tkA 0 36 1 ?_
  refine tkA 1 37 3 ?_
  refine tkA 2 38 7 ?_
  refine rdA 3 15 (fun Kk hKk => ?_)
  go_simp
  refine (least_any hs _).mono ?_
  rintro _ wl ⟨rfl, hbl⟩
  have HB := hide (bthen (unhide HB) hbl)
  have HA5 := hide ((unhide HA5).below hbl)
  have HRm := hide ((unhide HRm).below hbl)
  have HS := hide (((stable_at2 _ _ _).and (stable_at4 _ _ _ _ _)) _ _ (unhide HS) hbl)
  clear hbl
  (try go_wp2_with fail)
  refine hKk.out _ _ ?_ (fun hHeld => ?_)
  · (try dsimp only)
    exact unhide HS
  clear hKk Kk
  (try simp only [List.setIfInBounds_toArray, List.set_cons_zero, List.set_cons_succ])
  refine tkA 4 40 31 ?_
  refine tkA 5 41 63 ?_
  refine tkA 6 42 127 ?_
  refine tkA 7 43 255 ?_
  refine tkA 8 44 511 ?_
  refine rdA 9 1023 (fun Kk hKk => ?_)
  go_simp
  refine (most_any hs _).mono ?_
  rintro _ wm ⟨rfl, hbl⟩
  have HB := hide (bthen (unhide HB) hbl)
  have HA5 := hide ((unhide HA5).below hbl)
  have HRm := hide ((unhide HRm).below hbl)
  have HS := hide (((stable_at2 _ _ _).and (stable_at4 _ _ _ _ _)) _ _ (unhide HS) hbl)
  clear hbl
  (try go_wp2_with fail)
  refine hKk.out _ _ ?_ (fun hHeld => ?_)
  · (try dsimp only)
    exact unhide HS
  clear hKk Kk
  (try simp only [List.setIfInBounds_toArray, List.set_cons_zero, List.set_cons_succ])
  refine tkA 10 46 2047 ?_
  refine tkA 11 47 4095 ?_
  refine wpAnyH_done (by kernel_rfl) ?_ _
  clear hHeld
  go_wp2_with fail
  have HB := hide (unhide HB).drew
  have HA5 := hide ((unhide HA5).below ((Below.refl _ _).drew))
  have HRm := hide (unhide HRm).drew
  have HS := hide (((stable_at2 _ _ _).and (stable_at4 _ _ _ _ _)) _ _ (unhide HS) ((Below.refl _ _).drew))
  refine wp_region_held_drew (S := fun w' => ((w'.cell? ⟨W.heap.size, 0, none⟩ = some (.int .i64 e) ∧ w'.cell? ⟨W.heap.size, 1, none⟩ = some (.int .i64 f)) ∧ (w'.cell? ⟨W.heap.size + 1, 0, none⟩ = some (.bool n) ∧ w'.cell? ⟨W.heap.size + 1, 1, none⟩ = some (.int .i64 K) ∧ w'.cell? ⟨W.heap.size + 1, 2, none⟩ = some (.int .i64 X) ∧ w'.cell? ⟨W.heap.size + 1, 3, none⟩ = some (.int .u64 S))) ∧ Room b1 5 w') (by kernel_rfl) ?_ (fun hHeld => ?_)
  · (try dsimp only)
    exact ⟨unhide HS, unhide HRm⟩
  refine lst0 8 (by kernel_rfl) ?_
  refine tkA 0 48 1 ?_
  refine tkA 1 49 3 ?_
  refine tkA 2 50 7 ?_
  refine rdA 3 15 (fun Kk hKk => ?_)
  go_simp
  refine (unhide HP _).mono ?_
  rintro _ wp ⟨rfl, hbl⟩
  have HB := hide (bthen (unhide HB) hbl)
  have HA5 := hide ((unhide HA5).below hbl)
  have HRm := hide ((unhide HRm).below hbl)
  have HS := hide (((stable_at2 _ _ _).and (stable_at4 _ _ _ _ _)) _ _ (unhide HS) hbl)
  clear hbl
  (try go_wp2_with fail)
  refine hKk.out _ _ ?_ (fun hHeld => ?_)
  · (try dsimp only)
    exact ⟨unhide HS, unhide HRm⟩
  clear hKk Kk
  (try simp only [List.setIfInBounds_toArray, List.set_cons_zero, List.set_cons_succ])
  refine tkA 4 52 31 ?_
  refine tkA 5 53 63 ?_
  refine tkA 6 54 127 ?_
  refine rdA 7 255 (fun Kk hKk => ?_)
  obtain ⟨⟨v3, c3⟩, f3⟩ := hHeld.2 3 (by omega)
  go_simp
  refine hKk.out _ _ ?_ (fun hHeld => ?_)
  · (try dsimp only)
    exact ⟨⟨At2.set (unhide HS).1 (by omega) _ _, At4.set (unhide HS).2 (by omega) _ _⟩, hHeld.2.set _ _⟩
  clear hKk Kk
  (try simp only [List.setIfInBounds_toArray, List.set_cons_zero, List.set_cons_succ])
  refine wpAnyH_done (by kernel_rfl) ?_ _
  clear hHeld
  have HA5 := hide (at5_set3 (unhide HA5) (.int .u64 E))
  have HB := hide (bset (unhide HB) b1 (by omega) 3 (.int .u64 E))
  obtain ⟨a0, a1, a2, a3, a4⟩ := unhide HA5
  go_wp2_with fail
  refine (unhide HC _).mono ?_
  rintro _ wz ⟨rfl, hbl⟩
  have HB := hide (bthen (unhide HB) hbl)
  go_wp2_with fail
  go_ret2
  exact ⟨rfl, unhide HB⟩

end Go.Proofs.YtpbgpdmffejdgaaGreatDoor
namespace Go.Proofs.YtpbgpdmffejdgaaGreatDoor
open Go.RowKit
theorem room2_new (W : World) (v0 v1 : Value) (t : TypeId) : Room W.heap.size 2 (W.alloc (.cells #[v0, v1] t)) := by
  intro o ho
  match o, ho with
  | 0, _ | 1, _ => simp [go_sem]
theorem Room.set2 {b : Nat} {w : World} (h : Room b 2 w) (v0 v1 : Value) : Room b 2 ((w.setCell ⟨b, 0, none⟩ v0).setCell ⟨b, 1, none⟩ v1) := (h.set _ _).set _ _
theorem at2_new (w : World) (x y : Value) (t : TypeId) : At2 w.heap.size x y (w.alloc (.cells #[x, y] t)) := by unfold At2; simp [go_sem]
theorem at2_set2 {b : Nat} {w : World} (h : Room b 2 w) (v0 v1 : Value) : At2 b v0 v1 ((w.setCell ⟨b, 0, none⟩ v0).setCell ⟨b, 1, none⟩ v1) := by
  obtain ⟨⟨u0, h0⟩, _⟩ := h 0 (by omega)
  obtain ⟨⟨u1, h1⟩, _⟩ := (h.set 0 v0) 1 (by omega)
  exact ⟨set_off _ (by omega) (World.cell?_setCell_same _ _ _ h0), World.cell?_setCell_same _ _ _ h1⟩
theorem bset2 {a b : World} {c : Nat} (h : Below a.heap.size a b) (hc : a.heap.size ≤ c) (v0 v1 : Value) : Below a.heap.size a ((b.setCell ⟨c, 0, none⟩ v0).setCell ⟨c, 1, none⟩ v1) := bset (bset h _ hc _ _) _ hc _ _
theorem At4.set2 {b c : Nat} {x y z u : Value} {w : World} (h : At4 b x y z u w) (hc : b ≠ c) (v0 v1 : Value) : At4 b x y z u ((w.setCell ⟨c, 0, none⟩ v0).setCell ⟨c, 1, none⟩ v1) := (h.set hc _ _).set hc _ _
end Go.Proofs.YtpbgpdmffejdgaaGreatDoor
namespace Go.Proofs.YtpbgpdmffejdgaaGreatDoor
open Go.RowKit

set_option maxHeartbeats 4000000 in
set_option maxRecDepth 100000 in
theorem app_w {op a b f n d o k ti tu w v x y r t : Int} (HF : Cm 24 #[.int .i64 op] (.tuple #[.agg #[.int .i64 f, .int .i64 n, .int .i64 d, .int .u8 o], .int .i64 k, .bool true])) (HT : Cm 25 #[.agg #[.int .i64 f, .int .i64 n, .int .i64 d, .int .u8 o], .int .i64 k] (.agg #[.int .u8 ti, .int .u8 tu])) (HW : Ct 33 #[.int .u8 ti] (.int .i64 w)) (HV : Ct 33 #[.int .u8 tu] (.int .i64 v)) (HA : Ct 17 #[.int .i64 w, .int .u64 a] (.int .u64 x)) (HC : Ct 17 #[.int .i64 w, .int .u64 b] (.int .u64 y))
    (HQ : (d = 0 ∧ t = 0 ∧ ∃ so, Cm 35 #[.int .i64 k, .int .i64 w, .int .u64 x, .int .u64 y] (.bool so) ∧ Ct 34 #[.bool so] (.int .u64 r)) ∨
     (d = 1 ∧ t = 0 ∧ ∃ so, Cm 36 #[.int .i64 k, .int .i64 w, .int .u64 x, .int .u64 y] (.bool so) ∧ Ct 34 #[.bool so] (.int .u64 r)) ∨
     (d = 2 ∧ Cm 37 #[.int .i64 k, .int .i64 w, .int .u64 x, .int .u64 y] (.tuple #[.int .u64 r, .int .i64 t])) ∨
     (d = 3 ∧ t = 0 ∧ Cm 38 #[.int .i64 k, .int .i64 w, .int .u64 x, .int .u64 y] (.int .u64 r)) ∨
     (d = 4 ∧ Cm 39 #[.int .i64 k, .int .i64 w, .int .i64 v, .int .u64 x] (.tuple #[.int .u64 r, .int .i64 t])) ∨
     (d = 5 ∧ t = 0 ∧ Cm 40 #[.int .i64 k, .int .i64 w, .int .i64 v, .int .u64 x] (.int .u64 r))) :
    Cm 13 #[.int .i64 op, .int .u64 a, .int .u64 b] (.tuple #[.int .u64 r, .int .i64 t]) := by
  refine hide (fun W m => ?_)
  have HM := hide m
  clear m
  have HB := hide (Below.refl W.heap.size W)
  go_enter Tryz.func13, Tryz.ntmps13
  go_wp2_with fail
  refine (unhide HF _ (unhide HM)).mono ?_
  rintro _ w1 ⟨rfl, hb⟩
  have HB := hide (bthen (unhide HB) hb)
  have HM := hide ((unhide HM).below hb)
  clear hb
  have HB := hide (balloc (unhide HB) (.cells #[.int .i64 f, .int .i64 n, .int .i64 d, .int .u8 o] 55))
  have HG := hide (at4_new w1 (.int .i64 f) (.int .i64 n) (.int .i64 d) (.int .u8 o) 55)
  have HM := hide ((unhide HM).below (below1 w1 (.cells #[.int .i64 f, .int .i64 n, .int .i64 d, .int .u8 o] 55)))
  go_wp2_with fail
  refine (unhide HT _ (unhide HM)).mono ?_
  rintro _ w2 ⟨rfl, hb⟩
  have HB := hide (bthen (unhide HB) hb)
  have HM := hide ((unhide HM).below hb)
  have HG := hide ((unhide HG).below hb)
  clear hb
  have HB := hide (balloc (unhide HB) (.cells #[.int .u8 ti, .int .u8 tu] 59)).drew
  have HG := hide ((unhide HG).below (below1 w2 (.cells #[.int .u8 ti, .int .u8 tu] 59)).drew)
  have HM := hide ((unhide HM).below (below1 w2 (.cells #[.int .u8 ti, .int .u8 tu] 59)).drew)
  have H2 := hide ((at2_new w2 (.int .u8 ti) (.int .u8 tu) 59).below ((Below.refl _ _).drew))
  go_wp2_with fail
  refine wp_region_held_drew (S := fun w' => (w'.cell? ⟨w2.heap.size, 0, none⟩ = some (.int .u8 ti) ∧ w'.cell? ⟨w2.heap.size, 1, none⟩ = some (.int .u8 tu))) (by kernel_rfl) ?_ (fun hHeld => ?_)
  · (try dsimp only)
    exact unhide H2
  refine lst0 8 (by kernel_rfl) ?_
  refine tkA 0 25 1 ?_
  refine tkA 1 26 3 ?_
  refine tkA 3 28 11 ?_
  refine tkA 4 29 27 ?_
  refine rdA 2 31 (fun Kk hKk => ?_)
  go_simp
  refine (unhide HW _).mono ?_
  rintro _ w3 ⟨rfl, hb⟩
  have HB := hide (bthen (unhide HB) hb)
  have HM := hide ((unhide HM).below hb)
  have HG := hide ((unhide HG).below hb)
  have H2 := hide ((unhide H2).below hb)
  clear hb
  (try go_wp2_with fail)
  refine hKk.out _ _ ?_ (fun hHeld => ?_)
  · (try dsimp only)
    exact unhide H2
  clear hKk Kk
  (try simp only [List.setIfInBounds_toArray, List.set_cons_zero, List.set_cons_succ])
  refine rdA 5 63 (fun Kk hKk => ?_)
  go_simp
  refine (unhide HV _).mono ?_
  rintro _ w4 ⟨rfl, hb⟩
  have HB := hide (bthen (unhide HB) hb)
  have HM := hide ((unhide HM).below hb)
  have HG := hide ((unhide HG).below hb)
  have H2 := hide ((unhide H2).below hb)
  clear hb
  (try go_wp2_with fail)
  refine hKk.out _ _ ?_ (fun hHeld => ?_)
  · (try dsimp only)
    exact unhide H2
  clear hKk Kk
  (try simp only [List.setIfInBounds_toArray, List.set_cons_zero, List.set_cons_succ])
  refine tkA 6 12 127 ?_
  refine tkA 7 13 255 ?_
  refine wpAnyH_done (by kernel_rfl) ?_ _
  clear hHeld H2
  go_wp2_with fail
  refine (unhide HA _).mono ?_
  rintro _ w5 ⟨rfl, hb⟩
  have HB := hide (bthen (unhide HB) hb)
  have HM := hide ((unhide HM).below hb)
  have HG := hide ((unhide HG).below hb)
  clear hb
  go_wp2_with fail
  refine (unhide HC _).mono ?_
  rintro _ w6 ⟨rfl, hb⟩
  have HB := hide (bthen (unhide HB) hb)
  have HM := hide ((unhide HM).below hb)
  have HG := hide ((unhide HG).below hb)
  clear hb
  obtain ⟨c0, c1, c2, c3⟩ := unhide HG
  have HZ := HB
  have HN := HM
  rcases HQ with ⟨rfl, rfl, so, HQ, HR⟩ | ⟨rfl, rfl, so, HQ, HR⟩ | ⟨rfl, HQ⟩ | ⟨rfl, rfl, HQ⟩ | ⟨rfl, HQ⟩ | ⟨rfl, rfl, HQ⟩
  all_goals
    go_wp2_with fail
    clear c0 c1 c2 c3
    refine (unhide HQ _ (unhide HN)).mono ?_
    rintro _ w7 ⟨rfl, hb⟩
    have HB := hide (bthen (unhide HZ) hb)
    clear hb
    go_wp2_with fail
    try
      refine (unhide HR _).mono ?_
      rintro _ w8 ⟨rfl, hb⟩
      have HB := hide (bthen (unhide HB) hb)
      clear hb
      go_wp2_with fail
    go_ret2
    exact ⟨rfl, unhide HB⟩
set_option maxHeartbeats 4000000 in
set_option maxRecDepth 100000 in
theorem app_no {op a b : Int} (HF : Cm 24 #[.int .i64 op] (.tuple #[.agg #[.int .i64 0, .int .i64 0, .int .i64 0, .int .u8 0], .int .i64 0, .bool false])) : Cm 13 #[.int .i64 op, .int .u64 a, .int .u64 b] (.tuple #[.int .u64 0, .int .i64 0]) := by
  refine hide (fun W m => ?_)
  have HM := hide m
  clear m
  have HB := hide (Below.refl W.heap.size W)
  go_enter Tryz.func13, Tryz.ntmps13
  go_wp2_with fail
  refine (unhide HF _ (unhide HM)).mono ?_
  rintro _ w1 ⟨rfl, hb⟩
  have HB := hide (bthen (unhide HB) hb)
  have HM := hide ((unhide HM).below hb)
  clear hb
  have HB := hide (balloc (unhide HB) (.cells #[.int .i64 0, .int .i64 0, .int .i64 0, .int .u8 0] 55))
  go_wp2_with fail
  go_ret2
  exact ⟨rfl, unhide HB⟩
end Go.Proofs.YtpbgpdmffejdgaaGreatDoor

/- WNew. -/
import Derived.Test.YtpbgpdmffejdgaaGreatDoorS22
import Derived.Deep.RegionHeld3
namespace Go.Proofs.YtpbgpdmffejdgaaGreatDoor.W
open Go.RowKit

section
variable {P : Program} {ops : Array Oper} {Q : Exit → Act → World → Prop} {md : Region.Mode} {S : World → Prop}

/-- Operation j neither looks at temporary d nor writes it. -/
def noTouch (ops : Array Oper) (j d : Nat) : Bool :=
  match ops[j]? with
  | some o => !(o.looksAt ops).contains d && o.dst != some d
  | none => false

/-- Whether a pointer lies already in a temporary that operation j does not touch makes no difference to it. -/
theorem wpOp_over {j d : Nat} {v : Value} (hn : noTouch ops j d = true) (hs : Region.noSelect ops = true)
    (hQ : ∀ c a w, Q (.panic c) a w → Q (.panic c) (a.put (some d) v) w) {K : Act → World → Prop} {a : Act} {w : World}
    (h : wpOp P ops Q j (fun a' w' => K (a'.put (some d) v) w') a w) : wpOp P ops Q j K (a.put (some d) v) w := by
  unfold noTouch at hn
  cases hj : ops[j]? with
  | none => simp [hj] at hn
  | some oj =>
    simp [hj] at hn
    obtain ⟨h1', h2'⟩ := hn
    have h1 : ∀ e, some d = some e → e ∉ oj.looksAt ops := fun e he => by injection he with he; subst he; exact h1'
    have h2 : ∀ e, oj.dst = some e → some d ≠ some e := fun e he hd => h2' (by rw [he, hd])
    have hsj : ∀ cs b, oj.op ≠ .select cs b := fun cs b => Region.noSelect_spec hs j oj cs b hj
    unfold wpOp at *
    simp only [hj] at *
    rw [wanted_put oj a (some d) v h1]
    split
    · rename_i hw
      simp only [hw, if_true] at h
      rcases h with h | ⟨hasks, hlets⟩
      case inr => exact .inr ⟨by unfold Oper.asks at *; rw [execOp_put oj hsj a (some d) v h1]; exact hasks, hlets⟩
      refine .inl ?_
      unfold Oper.wp at *
      rw [execOp_put oj hsj a (some d) v h1]
      generalize (execOp a.eval oj).run P w = r at *
      cases r with
      | ok n w' =>
        cases n <;> simp only [Oper.upon] at h ⊢
        case value u => rw [← Act.put_comm a u v h2]; exact h
        case skip => rw [← Act.put_comm a undef v h2]; exact h
        case defer dd =>
          rw [Act.put_defers, ← Act.put_comm _ undef v h2]
          exact h
        case enter f args =>
          refine Calls.mono h fun e w'' he => ?_
          cases e with
          | returned u => simp only [] at he ⊢; rw [← Act.put_comm a u v h2]; exact he
          | panicked c => exact hQ _ _ _ he
          | outgrown => exact he
        case row row args => exact Rows.mono h fun u w'' he => by rw [← Act.put_comm a u v h2]; exact he
      | halt x w' =>
        cases x <;> simp only [Oper.upon] at h ⊢
        case panic u => exact hQ _ _ _ h
        all_goals exact h
    · rename_i hw
      simp only [hw] at h
      rw [← Act.put_comm a undef v h2]; exact h

def ptr (b : Nat) : Value := .pointer (some ⟨b, 0, none⟩)

/-- What holds keeps holding where only new memory is touched. -/
def Stable (T : World → Prop) : Prop := ∀ w w', T w → Below w.heap.size w w' → T w'

/-- A new variable that still holds its zero value. -/
structure Fresh (N : Nat) (v : Value) (b : Nat) (w : World) : Prop where
  cell : w.cell? ⟨b, 0, none⟩ = some v
  thawed : w.frozen? ⟨b, 0, none⟩ = false
  size : b < w.heap.size
  base : N ≤ b
theorem Fresh.below {N b : Nat} {v : Value} {w w' : World} (h : Fresh N v b w) (hb : Below w.heap.size w w') : Fresh N v b w' :=
  ⟨by rw [hb.cell (p := ⟨b, 0, none⟩) h.size]; exact h.cell, by rw [hb.frozen (p := ⟨b, 0, none⟩) h.size]; exact h.thawed, Nat.lt_of_lt_of_le h.size hb.size, h.base⟩
theorem Fresh.new {N : Nat} {v : Value} {t : TypeId} {w : World} (h : N ≤ w.heap.size) : Fresh N v w.heap.size (w.alloc (.cells #[v] t)) :=
  ⟨by simp, by simp [go_sem], by simp, h⟩

/-- Operation i makes a new variable, whatever the state and the world are. -/
def Makes (P : Program) (ops : Array Oper) (Q : Exit → Act → World → Prop) (i d : Nat) (v : Value) (t : TypeId) : Prop :=
  ∀ (a : Act) (w : World) (K : Act → World → Prop), K (a.put (some d) (ptr w.heap.size)) (w.alloc (.cells #[v] t)) → wpOp P ops Q i K a w

theorem not_ready {L : Array Bool} {i : Nat} : i ∉ Region.ready md ops (L.setIfInBounds i true) := by
  intro h
  have h0 := (mem_ready.1 h).1
  rw [Array.getD_eq_getD_getElem?, Array.getElem?_setIfInBounds] at h0
  simp at h0
  split at h0 <;> simp_all

variable {N i1 d1 i2 d2 : Nat} {v1 v2 : Value} {t1 t2 : TypeId} {f : Nat}

theorem alloc_stable {T : World → Prop} (h : Stable T) {w : World} (hT : T w) (o : Obj) : T (w.alloc o) := h _ _ hT (below1 _ _)

theorem yields_over {i d : Nat} {oi : Oper} {v p : Value} {a : Act} (hi : ops[i]? = some oi) (hs : Region.noSelect ops = true) (hn : noTouch ops i d = true) (h : YieldsIf P ops S oi v a) : YieldsIf P ops S oi v (a.put (some d) p) := by
  unfold noTouch at hn
  simp [hi] at hn
  have h1 : ∀ e, some d = some e → e ∉ oi.looksAt ops := fun e he => by injection he with he; subst he; exact hn.1
  exact h.of_same (execOp_put oi (fun cs b => Region.noSelect_spec hs i oi cs b hi) a (some d) p h1) (wanted_put oi a (some d) p h1)

theorem dst_ne {i d : Nat} {oi : Oper} (hi : ops[i]? = some oi) (hn : noTouch ops i d = true) : ∀ e, oi.dst = some e → some d ≠ some e := by
  unfold noTouch at hn
  simp [hi] at hn
  exact fun e he hd => hn.2 (by rw [he, hd])

theorem anyH_at {fuel : Nat} {listed : Array Bool} {a : Act} {w : World} (l : Array Bool) (h : listed = l) (k : wpAnyH P md ops Q S fuel l a w) : wpAnyH P md ops Q S fuel listed a w := h ▸ k
theorem Stable.and {A B : World → Prop} (ha : Stable A) (hb : Stable B) : Stable (fun w => A w ∧ B w) := fun w w' h k => ⟨ha w w' h.1 k, hb w w' h.2 k⟩
theorem stable_cell (p : Addr) (v : Value) : Stable (fun w => w.cell? p = some v) := fun w _ h k => (k.cell (World.block_lt_of_cell? w p h)).trans h
theorem stable_nat (s : Value) (x : Nat) : Stable (fun w => IsNat w s x) := fun _ _ h k => h.below k
theorem stable_below (w0 : World) : Stable (fun w => Below w0.heap.size w0 w) := fun _ _ h k => bthen h k
end
end Go.Proofs.YtpbgpdmffejdgaaGreatDoor.W

/- WNew, WRefJ, Quot, Grain, RadR. -/
import Derived.Test.YtmbkpmcmhmldgaaO01
import Derived.Test.YtmbkpmcmhmldgaaO14
import Derived.Test.YtmbkpmcmhmldgaaO16
import Derived.Test.YtmbkpmcmhmldgaaO20
import Derived.Test.YtmbkpmcmhmldgaaO22
import Derived.Deep.RegionHeld3
namespace Go.Proofs.Ytmbkpmcmhmldgaa.W
open Go.RowKit

section
variable {P : Program} {ops : Array Oper} {Q : Exit → Act → World → Prop} {md : Region.Mode} {S : World → Prop}

/-- Operation j neither looks at temporary d nor writes it. -/
def noTouch (ops : Array Oper) (j d : Nat) : Bool :=
  match ops[j]? with
  | some o => !(o.looksAt ops).contains d && o.dst != some d
  | none => false

/-- Whether a pointer lies already in a temporary that operation j does not touch makes no difference to it. -/
theorem wpOp_over {j d : Nat} {v : Value} (hn : noTouch ops j d = true) (hs : Region.noSelect ops = true)
    (hQ : ∀ c a w, Q (.panic c) a w → Q (.panic c) (a.put (some d) v) w) {K : Act → World → Prop} {a : Act} {w : World}
    (h : wpOp P ops Q j (fun a' w' => K (a'.put (some d) v) w') a w) : wpOp P ops Q j K (a.put (some d) v) w := by
  unfold noTouch at hn
  cases hj : ops[j]? with
  | none => simp [hj] at hn
  | some oj =>
    simp [hj] at hn
    obtain ⟨h1', h2'⟩ := hn
    have h1 : ∀ e, some d = some e → e ∉ oj.looksAt ops := fun e he => by injection he with he; subst he; exact h1'
    have h2 : ∀ e, oj.dst = some e → some d ≠ some e := fun e he hd => h2' (by rw [he, hd])
    have hsj : ∀ cs b, oj.op ≠ .select cs b := fun cs b => Region.noSelect_spec hs j oj cs b hj
    unfold wpOp at *
    simp only [hj] at *
    rw [wanted_put oj a (some d) v h1]
    split
    · rename_i hw
      simp only [hw, if_true] at h
      rcases h with h | ⟨hasks, hlets⟩
      case inr => exact .inr ⟨by unfold Oper.asks at *; rw [execOp_put oj hsj a (some d) v h1]; exact hasks, hlets⟩
      refine .inl ?_
      unfold Oper.wp at *
      rw [execOp_put oj hsj a (some d) v h1]
      generalize (execOp a.eval oj).run P w = r at *
      cases r with
      | ok n w' =>
        cases n <;> simp only [Oper.upon] at h ⊢
        case value u => rw [← Act.put_comm a u v h2]; exact h
        case skip => rw [← Act.put_comm a undef v h2]; exact h
        case defer dd =>
          rw [Act.put_defers, ← Act.put_comm _ undef v h2]
          exact h
        case enter f args =>
          refine Calls.mono h fun e w'' he => ?_
          cases e with
          | returned u => simp only [] at he ⊢; rw [← Act.put_comm a u v h2]; exact he
          | panicked c => exact hQ _ _ _ he
          | outgrown => exact he
        case row row args => exact Rows.mono h fun u w'' he => by rw [← Act.put_comm a u v h2]; exact he
      | halt x w' =>
        cases x <;> simp only [Oper.upon] at h ⊢
        case panic u => exact hQ _ _ _ h
        all_goals exact h
    · rename_i hw
      simp only [hw] at h
      rw [← Act.put_comm a undef v h2]; exact h

def ptr (b : Nat) : Value := .pointer (some ⟨b, 0, none⟩)

/-- What holds keeps holding where only new memory is touched. -/
def Stable (T : World → Prop) : Prop := ∀ w w', T w → Below w.heap.size w w' → T w'

/-- A new variable that still holds its zero value. -/
structure Fresh (N : Nat) (v : Value) (b : Nat) (w : World) : Prop where
  cell : w.cell? ⟨b, 0, none⟩ = some v
  thawed : w.frozen? ⟨b, 0, none⟩ = false
  size : b < w.heap.size
  base : N ≤ b
theorem Fresh.below {N b : Nat} {v : Value} {w w' : World} (h : Fresh N v b w) (hb : Below w.heap.size w w') : Fresh N v b w' :=
  ⟨by rw [hb.cell (p := ⟨b, 0, none⟩) h.size]; exact h.cell, by rw [hb.frozen (p := ⟨b, 0, none⟩) h.size]; exact h.thawed, Nat.lt_of_lt_of_le h.size hb.size, h.base⟩
theorem Fresh.new {N : Nat} {v : Value} {t : TypeId} {w : World} (h : N ≤ w.heap.size) : Fresh N v w.heap.size (w.alloc (.cells #[v] t)) :=
  ⟨by simp, by simp [go_sem], by simp, h⟩

/-- Operation i makes a new variable, whatever the state and the world are. -/
def Makes (P : Program) (ops : Array Oper) (Q : Exit → Act → World → Prop) (i d : Nat) (v : Value) (t : TypeId) : Prop :=
  ∀ (a : Act) (w : World) (K : Act → World → Prop), K (a.put (some d) (ptr w.heap.size)) (w.alloc (.cells #[v] t)) → wpOp P ops Q i K a w

theorem not_ready {L : Array Bool} {i : Nat} : i ∉ Region.ready md ops (L.setIfInBounds i true) := by
  intro h
  have h0 := (mem_ready.1 h).1
  rw [Array.getD_eq_getD_getElem?, Array.getElem?_setIfInBounds] at h0
  simp at h0
  split at h0 <;> simp_all

variable {N i1 d1 i2 d2 : Nat} {v1 v2 : Value} {t1 t2 : TypeId} {f : Nat}

theorem alloc_stable {T : World → Prop} (h : Stable T) {w : World} (hT : T w) (o : Obj) : T (w.alloc o) := h _ _ hT (below1 _ _)

theorem yields_over {i d : Nat} {oi : Oper} {v p : Value} {a : Act} (hi : ops[i]? = some oi) (hs : Region.noSelect ops = true) (hn : noTouch ops i d = true) (h : YieldsIf P ops S oi v a) : YieldsIf P ops S oi v (a.put (some d) p) := by
  unfold noTouch at hn
  simp [hi] at hn
  have h1 : ∀ e, some d = some e → e ∉ oi.looksAt ops := fun e he => by injection he with he; subst he; exact hn.1
  exact h.of_same (execOp_put oi (fun cs b => Region.noSelect_spec hs i oi cs b hi) a (some d) p h1) (wanted_put oi a (some d) p h1)

theorem dst_ne {i d : Nat} {oi : Oper} (hi : ops[i]? = some oi) (hn : noTouch ops i d = true) : ∀ e, oi.dst = some e → some d ≠ some e := by
  unfold noTouch at hn
  simp [hi] at hn
  exact fun e he hd => hn.2 (by rw [he, hd])

theorem Stable.and {A B : World → Prop} (ha : Stable A) (hb : Stable B) : Stable (fun w => A w ∧ B w) := fun w w' h k => ⟨ha w w' h.1 k, hb w w' h.2 k⟩
theorem stable_below (w0 : World) : Stable (fun w => Below w0.heap.size w0 w) := fun _ _ h k => bthen h k
end
end Go.Proofs.Ytmbkpmcmhmldgaa.W
namespace Go.Proofs.Ytmbkpmcmhmldgaa.W
open Go.RowKit

theorem IsNat.pos {w : World} {a : Option Addr} {n c x : Nat} (h : IsNat w (.slice a n c) x) : (0 < n) = (x ≠ 0) := by
  refine propext ⟨fun hn hx => ?_, fun hx => ?_⟩
  · have := h.short (k := 0) (by rw [pw_0]; omega)
    omega
  · refine Decidable.byContradiction fun hn => ?_
    have := h.len.1
    rw [show n = 0 by omega, pw_0] at this
    omega

end Go.Proofs.Ytmbkpmcmhmldgaa.W
namespace Go.Proofs.Ytmbkpmcmhmldgaa
open Go.RowKit
open Go.Proofs.Ytmbkpmcmhmldgaa.W

/-- The quotient's variables. -/
structure QSt (N B : Nat) (w : World) (bs s1 s2 : Value) (y q r : Nat) (w' : World) : Prop where
  cb : w'.cell? ⟨N + 1, 0, none⟩ = some bs
  c1 : w'.cell? ⟨B, 0, none⟩ = some s1
  c2 : w'.cell? ⟨B + 1, 0, none⟩ = some s2
  cr : w'.cell? ⟨N + 1 + 1, 0, none⟩ = some (.slice none 0 0)
  fr : w'.frozen? ⟨N + 1 + 1, 0, none⟩ = false
  nb : IsNat w' bs y
  n1 : IsNat w' s1 q
  n2 : IsNat w' s2 r
  bel : Below w.heap.size w w'
theorem QSt.below {N B : Nat} {w : World} {bs s1 s2 : Value} {y q r : Nat} {w' w'' : World} (h : QSt N B w bs s1 s2 y q r w') (hb : Below w'.heap.size w' w'') : QSt N B w bs s1 s2 y q r w'' :=
  { cb := keep1 hb (lt_of_cell h.cb) h.cb, c1 := keep1 hb (lt_of_cell h.c1) h.c1, c2 := keep1 hb (lt_of_cell h.c2) h.c2, cr := keep1 hb (lt_of_cell h.cr) h.cr,
    fr := by rw [hb.frozen (lt_of_cell h.cr)]; exact h.fr, nb := h.nb.below hb, n1 := h.n1.below hb, n2 := h.n2.below hb, bel := bthen h.bel hb }

end Go.Proofs.Ytmbkpmcmhmldgaa
namespace Go.Proofs.Ytmbkpmcmhmldgaa
open Go.RowKit
open Go.Proofs.Ytmbkpmcmhmldgaa.W

theorem shl_int (a : Option Addr) (n c x : Nat) (s : Int) (w : World) (hx : IsNat w (.slice a n c) x) (hn : n ≤ 1000) (h0 : 0 ≤ s) (h1 : s ≤ 10000) :
    Calls Try.prog 24 #[.agg #[.slice a n c], .int .i64 s] w fun e w' => ∃ s', e = .returned (.agg #[s']) ∧ IsNat w' s' (x * 2 ^ s.toNat) ∧ Below w.heap.size w w' := by
  have := refShl_any a n c x s.toNat w hx hn (by omega)
  rw [show ((s.toNat : Nat) : Int) = s by omega] at this
  exact this

/-- Two numbers in variables. -/
structure TwoSt (N : Nat) (w : World) (sa sb : Value) (x y : Nat) (w' : World) : Prop where
  ca : w'.cell? ⟨N, 0, none⟩ = some sa
  cb : w'.cell? ⟨N + 1, 0, none⟩ = some sb
  na : IsNat w' sa x
  nb : IsNat w' sb y
  bel : Below w.heap.size w w'
theorem TwoSt.below {N : Nat} {w : World} {sa sb : Value} {x y : Nat} {w' w'' : World} (h : TwoSt N w sa sb x y w') (hb : Below w'.heap.size w' w'') : TwoSt N w sa sb x y w'' :=
  { ca := keep1 hb (lt_of_cell h.ca) h.ca, cb := keep1 hb (lt_of_cell h.cb) h.cb, na := h.na.below hb, nb := h.nb.below hb, bel := bthen h.bel hb }

end Go.Proofs.Ytmbkpmcmhmldgaa
namespace Go.Proofs.Ytmbkpmcmhmldgaa
open Go.RowKit
open Go.Proofs.Ytmbkpmcmhmldgaa.W

/-- Two numbers in variables. -/
structure OvSt (N M : Nat) (w : World) (sa sb : Value) (x y : Nat) (w' : World) : Prop where
  ca : w'.cell? ⟨N, 0, none⟩ = some sa
  cb : w'.cell? ⟨M, 0, none⟩ = some sb
  na : IsNat w' sa x
  nb : IsNat w' sb y
  bel : Below w.heap.size w w'
theorem OvSt.below {N M : Nat} {w : World} {sa sb : Value} {x y : Nat} {w' w'' : World} (h : OvSt N M w sa sb x y w') (hb : Below w'.heap.size w' w'') : OvSt N M w sa sb x y w'' :=
  { ca := keep1 hb (lt_of_cell h.ca) h.ca, cb := keep1 hb (lt_of_cell h.cb) h.cb, na := h.na.below hb, nb := h.nb.below hb, bel := bthen h.bel hb }

end Go.Proofs.Ytmbkpmcmhmldgaa

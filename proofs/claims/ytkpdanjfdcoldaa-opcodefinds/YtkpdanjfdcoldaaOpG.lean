/- A loop in which loops over functions stand: its marks. -/
import Derived.Test.YtkpdanjfdcoldaaOpF
namespace Go.Proofs.Ytkpdanjfdcoldaa
open Go.RowKit
attribute [local go_sem] Oper.semAt_some

/-- A loop of at most N rounds, by what holds ahead of each. -/
theorem rounds_inv {F : Fence} {n : Nat} {P : Program} {c : Code} {Q : Exit → Act → World → Prop} (Inv : Nat → Act → World → Prop) (N : Nat)
    (h : ∀ k a w, k ≤ N → Inv k a w → c.wpIn F n P (Exit.then (fun a' w' => k < N ∧ Inv (k + 1) a' w') Q) a w) : ∀ m k a w, k + m = N → Inv k a w → Code.roundsIn F n P c Q (m + 1) a w
  | 0, k, a, w, hk, hi => by
    rw [roundsIn_succ]
    refine wpIn_mono (h k a w (by omega) hi) ?_
    intro e a' w' hq
    cases e with
    | normal => exact absurd hq.1 (by omega)
    | _ => exact hq
  | m + 1, k, a, w, hk, hi => by
    rw [roundsIn_succ]
    refine wpIn_mono (h k a w (by omega) hi) ?_
    intro e a' w' hq
    cases e with
    | normal => exact rounds_inv Inv N h m (k + 1) a' w' (by omega) hq.2
    | _ => exact hq
def mk (D : Nat) : Deferred := { target := .collected D, args := #[] }
/-- The marks of the loops that are over. -/
def Mg (B : Nat) (Ds : List Nat) (V : World) : Prop := Ds.Nodup ∧ ∀ D ∈ Ds, B ≤ D ∧ V.heap[D]? = some (.deferred (some []))
theorem leaves_marks {F : Fence} {n : Nat} {P : Program} {fn : Func} {tmps : Array Value} {R : Ending → World → Prop} {B : Nat} {I : Unit → World → Prop} (hI : OwnFrom B I)
    (hR : ∀ V, I () V → ∃ v, (results fn tmps).run P V = .ok v V ∧ R (.returned v) V) : ∀ (Ds : List Nat) (V : World), Mg B Ds V → I () V → LeavesInM F n P fn tmps R (Ds.map mk) .returning V
  | [], V, _, h => hR V h
  | D :: Ds, V, hm, h => by
    obtain ⟨hd, ha⟩ := hm
    obtain ⟨hB, hD⟩ := ha D (by simp)
    refine ⟨by simp, .inl ⟨D, _, rfl, run_takeDeferred hD, leaves_marks hI hR Ds _ ⟨(List.nodup_cons.1 hd).2, fun E hE => ?_⟩ (hI.putObj _ h hB hD rfl)⟩⟩
    obtain ⟨h1, h2⟩ := ha E (by simp [hE])
    exact ⟨h1, (World.putObj_heap_other (by intro e; subst e; exact (List.nodup_cons.1 hd).1 hE)).trans h2⟩
theorem mg_own {β : Type} {B C : Nat} {Ds : List Nat} : OwnFrom C (fun (_ : β) V => Mg B Ds V ∧ ∀ D ∈ Ds, D < C) := fun _ V V' row hs hg hr => by
  obtain ⟨⟨hd, ha⟩, hl⟩ := hs
  refine ⟨⟨hd, fun D hD => ?_⟩, hl⟩
  obtain ⟨h1, h2⟩ := ha D hD
  refine ⟨h1, (hg.block D (Array.getElem?_eq_some_iff.1 h2).1 ?_).trans h2⟩
  intro e
  have := (hr D e.symm).1
  have := hl D hD
  omega
theorem Mg.lt {B : Nat} {Ds : List Nat} {V : World} (h : Mg B Ds V) : ∀ D ∈ Ds, D < V.heap.size := fun D hD => (Array.getElem?_eq_some_iff.1 (h.2 D hD).2).1
theorem Mg.keeps {B : Nat} {Ds : List Nat} {V V' : World} (h : Mg B Ds V) (hk : KeepsOthers V V') : Mg B Ds V' := ⟨h.1, fun D hD => ⟨(h.2 D hD).1, hk.same D _ (h.2 D hD).2 rfl⟩⟩
theorem Mg.cons {B C : Nat} {Ds : List Nat} {V : World} (h : Mg B Ds V) (hl : ∀ D ∈ Ds, D < C) {D : Nat} (hD : C ≤ D) (hB : B ≤ C) (hk : V.heap[D]? = some (.deferred (some []))) : Mg B (D :: Ds) V :=
  ⟨List.nodup_cons.2 ⟨fun e => by have := hl D e; omega, h.1⟩, fun E hE => by
    rcases List.mem_cons.1 hE with rfl | hE
    · exact ⟨by omega, hk⟩
    · exact h.2 E hE⟩

end Go.Proofs.Ytkpdanjfdcoldaa

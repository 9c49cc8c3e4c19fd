/- MdD. -/
import Derived.Test.YtjoonmpjcophnaaGreatDoorCu35
import Derived.Test.YtjoonmpjcophnaaGreatDoorCu36
namespace Go.Proofs.YtjoonmpjcophnaaGreatDoor
open Go.RowKit

section
variable {c : Nat} {a : Option Addr} {len cap k : Nat} {xs : List Int} {e : Int} {W : World}
/-- What a piece leaves behind: its own failure, or that some of it is left. -/
def doneE (e e2 : Int) (k2 n : Nat) : Int := if e ≠ 0 then e else if e2 ≠ 0 then e2 else if k2 < n then 105 else 0
theorem rd_alone {A : Type} {f : Rr A} {ys : List Int} {y : A} {k2 : Nat} {e2 : Int} {k' : Nat} (h : Rd f ys 0 e y k2 e2) : Rd (alone f ys) xs k' e y k' (doneE e e2 k2 ys.length) := by
  refine ⟨fun he => ⟨rfl, if_pos he⟩, fun he => ?_, fun he h0 => ?_⟩
  · subst he
    obtain ⟨h1, h2⟩ := h.live rfl
    rw [List.drop_zero] at h1 h2
    refine ⟨rfl, ?_⟩
    unfold doneE alone
    rw [if_neg (by simp), h1, h2, Nat.zero_add]
    by_cases q : (f ys).2.2 = 0
    · simp [q]
    · simp [q]
  · subst he
    have hv := h.val rfl
    rw [List.drop_zero] at hv
    refine hv ?_
    apply Decidable.byContradiction
    intro hn
    unfold doneE at h0
    rw [if_neg (by simp), if_pos hn] at h0
    exact hn h0
theorem Rd.pc {A : Type} {z : A} {f : Rr A} {ys : List Int} {y : A} {k' k2 : Nat} {e' e2 : Int} (h1 : Rd rBytes xs k e ys k' e') (h2 : Rd f ys 0 e' y k2 e2) : Rd (rPc z f) xs k e y k' (doneE e' e2 k2 ys.length) := h1.bd (rd_alone h2)
end
end Go.Proofs.YtjoonmpjcophnaaGreatDoor

/- MdE. -/
import Derived.Test.YtjoonmpjcophnaaGreatDoorCu38
namespace Go.Proofs.YtjoonmpjcophnaaGreatDoor
open Go.RowKit

theorem Rd.more {A B : Type} {f : Rr A} {xs : List Int} {k k2 k3 n : Nat} {e e3 : Int} {L : List A} {y : A} (g : List A → B) {G : Rr B} (HK : ∀ s k' e', Rd (repR f (n + 1)) xs k2 0 s k' e' → Rd G xs k e (g (L ++ s)) k' e') (h : Rd f xs k2 0 y k3 e3) :
    ∀ s k' e', Rd (repR f n) xs k3 e3 s k' e' → Rd G xs k e (g (L ++ [y] ++ s)) k' e' := fun s k' e' hs => by
  rw [List.append_assoc]
  exact HK _ _ _ (h.bd (hs.bd (Rd.giv _ _ _ _)))
theorem Rd.fin {A B : Type} {f : Rr A} {xs : List Int} {k k2 n : Nat} {e e2 : Int} {L : List A} (g : List A → B) {G : Rr B} (HK : ∀ s k' e', Rd (repR f n) xs k2 e2 s k' e' → Rd G xs k e (g (L ++ s)) k' e') (h : n = 0 ∨ e2 ≠ 0) : Rd G xs k e (g L) k2 e2 := by
  have := HK [] k2 e2 (by
    rcases h with rfl | h
    · exact Rd.giv _ _ _ _
    · exact Rd.err _ h)
  rwa [List.append_nil] at this
section
variable {c : Nat} {a : Option Addr} {len cap k : Nat} {xs : List Int} {e : Int} {W : World}
end
end Go.Proofs.YtjoonmpjcophnaaGreatDoor

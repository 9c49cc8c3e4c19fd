/- MdN, MdO. -/
import Derived.Test.YtjoonmpjcophnaaGreatDoorUa45
namespace Go.Proofs.YtjoonmpjcophnaaGreatDoor
open Go.RowKit

theorem zeroCe : ((Tryz.prog.info? 117).getD default).zero = some (.agg #[.int .u8 0, .bool false, .slice none 0 0]) := by kernel_rfl
theorem iCe : Tryz.prog.info? 117 = some ((Tryz.prog.info? 117).getD default) := by kernel_rfl
theorem bytesCe : ((Tryz.prog.info? 117).getD default).bytes = 32 := by kernel_rfl
theorem sizeCe : ((Tryz.prog.info? 117).getD default).size = 3 := by kernel_rfl
section
variable {c sb : Nat} {a : Option Addr} {len cap k : Nat} {xs : List Int} {e : Int} {W : World} {sat : Bool}

end
end Go.Proofs.YtjoonmpjcophnaaGreatDoor
namespace Go.Proofs.YtjoonmpjcophnaaGreatDoor
open Go.RowKit

theorem zeroEm : ((Tryz.prog.info? 90).getD default).zero = some (.agg #[.int .u32 0, .slice none 0 0, .slice none 0 0]) := by kernel_rfl
theorem iEm : Tryz.prog.info? 90 = some ((Tryz.prog.info? 90).getD default) := by kernel_rfl
theorem bytesEm : ((Tryz.prog.info? 90).getD default).bytes = 56 := by kernel_rfl
theorem sizeEm : ((Tryz.prog.info? 90).getD default).size = 3 := by kernel_rfl
theorem els_u {w : World} {P : Nat → Prop} : ∀ {L : List Int} {cs : List Value}, Els eU w P L cs → cs = uCells L
  | [], _, h => h
  | x :: L, cs, ⟨c, r, hc, hx, hr⟩ => by
    rw [hc, els_u hr, show c = [.int .u32 x] from hx]
    rfl
theorem Sls.u {w : World} {P : Nat → Prop} {L : List Int} {v : Value} (h : Sls eU w P L v) : Slc w P L.length (uCells L) v := by
  obtain ⟨cs, h1, h2⟩ := h
  rw [els_u h1] at h2
  exact h2
section
variable {c sb : Nat} {a : Option Addr} {len cap k : Nat} {xs : List Int} {e : Int} {W : World} {sat : Bool}

end
end Go.Proofs.YtjoonmpjcophnaaGreatDoor

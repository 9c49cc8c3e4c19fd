/- MdL, MdM. -/
import Derived.Test.YtjoonmpjcophnaaGreatDoorUa43
namespace Go.Proofs.YtjoonmpjcophnaaGreatDoor
open Go.RowKit

theorem zeroFn : ((Tryz.prog.info? 85).getD default).zero = some (.agg #[.int .u32 0, .slice none 0 0, .slice none 0 0]) := by kernel_rfl
theorem iFn : Tryz.prog.info? 85 = some ((Tryz.prog.info? 85).getD default) := by kernel_rfl
theorem bytesFn : ((Tryz.prog.info? 85).getD default).bytes = 56 := by kernel_rfl
theorem sizeFn : ((Tryz.prog.info? 85).getD default).size = 3 := by kernel_rfl
section
variable {c sb : Nat} {a : Option Addr} {len cap k : Nat} {xs : List Int} {e : Int} {W : World} {sat : Bool}
end
end Go.Proofs.YtjoonmpjcophnaaGreatDoor
namespace Go.Proofs.YtjoonmpjcophnaaGreatDoor
open Go.RowKit

theorem zeroEx : ((Tryz.prog.info? 109).getD default).zero = some (.agg #[.string { data := #[] }, .int .i64 0, .int .u32 0]) := by kernel_rfl
theorem iEx : Tryz.prog.info? 109 = some ((Tryz.prog.info? 109).getD default) := by kernel_rfl
theorem bytesEx : ((Tryz.prog.info? 109).getD default).bytes = 32 := by kernel_rfl
theorem sizeEx : ((Tryz.prog.info? 109).getD default).size = 3 := by kernel_rfl
section
variable {c sb : Nat} {a : Option Addr} {len cap k : Nat} {xs : List Int} {e : Int} {W : World} {sat : Bool}

end
end Go.Proofs.YtjoonmpjcophnaaGreatDoor

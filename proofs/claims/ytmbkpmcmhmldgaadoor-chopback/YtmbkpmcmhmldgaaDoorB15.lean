/- WRefE. -/
import Derived.Test.YtmbkpmcmhmldgaaDoorB14
import Derived.Deep.Cut
namespace Go.Proofs.YtmbkpmcmhmldgaaDoor.W
open Go.RowKit

theorem i22 : Tryd.prog.info? 24 = some ((Tryd.prog.info? 24).getD default) := by kernel_rfl
end Go.Proofs.YtmbkpmcmhmldgaaDoor.W

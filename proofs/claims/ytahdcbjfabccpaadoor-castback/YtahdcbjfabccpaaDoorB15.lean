/- WRefE. -/
import Derived.Test.YtahdcbjfabccpaaDoorB11
import Derived.Deep.Cut
namespace Go.Proofs.YtahdcbjfabccpaaDoor.W
open Go.RowKit

theorem i22 : Tryd.prog.info? 22 = some ((Tryd.prog.info? 22).getD default) := by kernel_rfl
end Go.Proofs.YtahdcbjfabccpaaDoor.W

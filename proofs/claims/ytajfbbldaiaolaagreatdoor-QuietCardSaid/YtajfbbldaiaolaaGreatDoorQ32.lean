import Derived.KernelRfl
import Derived.Test.YtajfbbldaiaolaaGreatDoorRows
set_option linter.unusedSimpArgs false
set_option linter.unusedVariables false
namespace Go.Proofs.YtajfbbldaiaolaaGreatDoor
theorem jA:(Rows.quietRow.inPlace==Tryz.prog.inPlace 3)=true:=by kernel_rfl
end Go.Proofs.YtajfbbldaiaolaaGreatDoor

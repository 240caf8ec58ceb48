import Derived.KernelRfl
import Derived.Test.YtajfbbldaiaolaaGreatDoorRows
set_option linter.unusedSimpArgs false
set_option linter.unusedVariables false
namespace Go.Proofs.YtajfbbldaiaolaaGreatDoor
theorem jB:(Rows.quietRow.unfollowed==Tryz.prog.unfollowed 3)=true:=by kernel_rfl
end Go.Proofs.YtajfbbldaiaolaaGreatDoor

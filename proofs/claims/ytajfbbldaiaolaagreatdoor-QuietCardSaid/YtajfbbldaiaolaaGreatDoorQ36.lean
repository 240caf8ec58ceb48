import Derived.JoinedOf
import Derived.Test.YtajfbbldaiaolaaGreatDoorQ32
import Derived.Test.YtajfbbldaiaolaaGreatDoorQ33
import Derived.Test.YtajfbbldaiaolaaGreatDoorQ34
import Derived.Test.YtajfbbldaiaolaaGreatDoorQ35
set_option linter.unusedSimpArgs false
set_option linter.unusedVariables false
namespace Go.Proofs.YtajfbbldaiaolaaGreatDoor
theorem Fx:joinedFacts Tryz.prog 3 Tryz.f3 Rows.quietSpec Rows.quietRow=true:=by
 unfold joinedFacts
 rw[jA,jB,jC,jD]
 kernel_rfl
end Go.Proofs.YtajfbbldaiaolaaGreatDoor

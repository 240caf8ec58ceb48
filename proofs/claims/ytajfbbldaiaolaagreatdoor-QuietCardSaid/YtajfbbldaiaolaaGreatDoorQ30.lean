import Derived.Test.YtajfbbldaiaolaaGreatDoorQ28
set_option linter.unusedSimpArgs false
set_option linter.unusedVariables false
set_option maxRecDepth 100000
namespace Go.Proofs.YtajfbbldaiaolaaGreatDoor
open Go.RowKit Go.Shelf
theorem Mz:∀n,n< 4->iq (eB 0 n)=true:=by decide+kernel
theorem My:∀n,n< 4->iq (eB 1 n)=true:=by decide+kernel
theorem Mw:∀n,n< 4->iq (eB 2 n)=true:=by decide+kernel
theorem sE:∀n,n< 4->iq (eB 3 n)=true:=by decide+kernel
theorem Mv:∀n,n< 4->iq (eB 4 n)=true:=by decide+kernel
theorem Mu:∀n,n< 4->iq (eB 5 n)=true:=by decide+kernel
theorem Mr:∀n,n< 4->iq (eB 6 n)=true:=by decide+kernel
theorem Mq:∀n,n< 4->iq (eB 7 n)=true:=by decide+kernel
theorem Mp:∀n,n< 4->iq (eB 8 n)=true:=by decide+kernel
theorem Mo:∀n,n< 4->iq (eB 9 n)=true:=by decide+kernel
theorem Lt:∀n,n< 4->iq (eB 10 n)=true:=by decide+kernel
theorem Ls:∀n,n< 4->iq (eB 11 n)=true:=by decide+kernel
end Go.Proofs.YtajfbbldaiaolaaGreatDoor

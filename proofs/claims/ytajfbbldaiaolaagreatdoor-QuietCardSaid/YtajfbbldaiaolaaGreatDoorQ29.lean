import Derived.Test.YtajfbbldaiaolaaGreatDoorQ28
set_option linter.unusedSimpArgs false
set_option linter.unusedVariables false
set_option maxRecDepth 100000
namespace Go.Proofs.YtajfbbldaiaolaaGreatDoor
open Go.RowKit Go.Shelf
theorem Ld:iE IN [{a:=0,b:=2,new:=-1,field:=0,ra:=1,rb:=0}]=true:=by decide+kernel
theorem Ln:∀n,n< 4->iE (eB 0 n) []=true:=by decide+kernel
theorem Lm:∀n,n< 4->iE (eB 1 n) []=true:=by decide+kernel
theorem Ll:∀n,n< 4->iE (eB 2 n) []=true:=by decide+kernel
theorem Lk:∀n,n< 4->iE (eB 3 n) []=true:=by decide+kernel
theorem Lj:∀n,n< 4->iE (eB 4 n) []=true:=by decide+kernel
theorem Li:∀n,n< 4->iE (eB 5 n) []=true:=by decide+kernel
theorem Lh:∀n,n< 4->iE (eB 6 n) []=true:=by decide+kernel
theorem Lg:∀n,n< 4->iE (eB 7 n) []=true:=by decide+kernel
theorem Lf:∀n,n< 4->iE (eB 8 n) []=true:=by decide+kernel
theorem Le:∀n,n< 4->iE (eB 9 n) []=true:=by decide+kernel
theorem Js:∀n,n< 4->iE (eB 10 n) []=true:=by decide+kernel
theorem Jr:∀n,n< 4->iE (eB 11 n) []=true:=by decide+kernel
end Go.Proofs.YtajfbbldaiaolaaGreatDoor

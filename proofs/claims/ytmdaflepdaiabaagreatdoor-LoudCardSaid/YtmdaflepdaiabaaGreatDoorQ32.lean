import Derived.Test.YtmdaflepdaiabaaGreatDoorQ30
set_option linter.unusedSimpArgs false
set_option linter.unusedVariables false
namespace Go.Proofs.YtmdaflepdaiabaaGreatDoor
section
set_option maxRecDepth 100000
open Go.RowKit Go.Shelf
theorem AF:∀n,n< 4→gj (aX 6 n) (co 6 n)=true:=by decide+kernel
theorem AE:∀n,n< 4→gj (aX 7 n) (co 7 n)=true:=by decide+kernel
theorem AD:∀n,n< 4→gj (aX 8 n) (co 8 n)=true:=by decide+kernel
theorem AC:∀n,n< 4→gj (aX 9 n) (co 9 n)=true:=by decide+kernel
theorem zf:∀n,n< 4→gj (aX 10 n) (co 10 n)=true:=by decide+kernel
theorem ze:∀n,n< 4→gj (aX 11 n) (co 11 n)=true:=by decide+kernel
end
end Go.Proofs.YtmdaflepdaiabaaGreatDoor

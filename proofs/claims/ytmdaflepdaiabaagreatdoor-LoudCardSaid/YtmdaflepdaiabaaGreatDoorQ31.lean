import Derived.Test.YtmdaflepdaiabaaGreatDoorQ30
set_option linter.unusedSimpArgs false
set_option linter.unusedVariables false
namespace Go.Proofs.YtmdaflepdaiabaaGreatDoor
section
set_option maxRecDepth 100000
open Go.RowKit Go.Shelf
theorem AL:∀n,n< 4→gj (aX 0 n) (co 0 n)=true:=by decide+kernel
theorem AK:∀n,n< 4→gj (aX 1 n) (co 1 n)=true:=by decide+kernel
theorem AJ:∀n,n< 4→gj (aX 2 n) (co 2 n)=true:=by decide+kernel
theorem AI:∀n,n< 4→gj (aX 3 n) (co 3 n)=true:=by decide+kernel
theorem AH:∀n,n< 4→gj (aX 4 n) (co 4 n)=true:=by decide+kernel
theorem AG:∀n,n< 4→gj (aX 5 n) (co 5 n)=true:=by decide+kernel
end
end Go.Proofs.YtmdaflepdaiabaaGreatDoor

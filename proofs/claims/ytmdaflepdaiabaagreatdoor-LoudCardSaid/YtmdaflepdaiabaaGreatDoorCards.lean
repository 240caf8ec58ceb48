/-
  DERIVED. GIVEN WITH THE SEED: THE CARDS: each row of YtmdaflepdaiabaaGreatDoorRows.lean that lists a variable, with what it lists TIED to the program's text (the seventh form; the later family's looks); each row that meets fmt, with fmt's text TOLD by the authors' own Lean function (tested against real Go, not proved from fmt's source: count such statements apart). THE CARD IS WHAT COUNTS. Prove the row's statement (the work); the ties are given (YtmdaflepdaiabaaGreatDoorTie.lean); close each card by the builder's one call (the guide's Derived/Test/ToyasCard.lean, 'card_holds'). Laid BY PROGRAM, IN A SANDBOX (cutbox-door.mjs). By AI agents, Wed Nov 11 2026. No macro, syntax, notation, axiom, sorry.
-/
import Derived.Test.YtmdaflepdaiabaaGreatDoorRows
import GoSem.ClaimSeven
namespace Go.Proofs.YtmdaflepdaiabaaGreatDoor
namespace Rows

/-- THE TIED CARD OF 'raceskeep.Loud'. -/
def loudCard : Claim7 := { stood := { row := loudRow, standIns := [], harness := (true, "4c3705477c082ecd1d7c876a694211832d172f4b4be791d2e267a7b79b63236b"), looks := true }, kinds := [], alts := [], laidByText := true, laidKinds := [.data, .data, .data, .sentinel, .sentinel], laidTests := true, laidLooks := .later }
def LoudCardSaid : Prop := Claim7.holds Tryz.pinned (.plain (OpenSpec.ofChange loudSpec)) loudCard

/-- THE SECOND FORM's CARD OF 'raceskeep.Loud'. -/
def loudUptoCard : Claim7 := { stood := { row := loudUptoRow, standIns := [], harness := (true, "4c3705477c082ecd1d7c876a694211832d172f4b4be791d2e267a7b79b63236b"), looks := true }, kinds := [], alts := [], laidByText := true, laidKinds := [.data, .data, .data, .sentinel, .sentinel], laidTests := true, laidLooks := .later }
def LoudUptoCardSaid : Prop := Claim7.holds Tryz.pinned (.plain (OpenSpec.upto loudSpec)) loudUptoCard
end Rows
end Go.Proofs.YtmdaflepdaiabaaGreatDoor

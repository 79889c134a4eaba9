/-
  DERIVED. GIVEN WITH THE SEED: THE CARDS: each row of YtagkodkijkpemaaGreatDoorRows.lean that lists a variable, with what it lists TIED to the program's text (the seventh form; the later family's looks); each row that meets fmt, with fmt's text TOLD by the authors' own Lean function (tested against real Go, not proved from fmt's source: count such statements apart). THE CARD IS WHAT COUNTS. Prove the row's statement (the work); the ties are given (YtagkodkijkpemaaGreatDoorTie.lean); close each card by the builder's one call (the guide's Derived/Test/ToyasCard.lean, 'card_holds'). Laid BY PROGRAM, IN A SANDBOX (cutbox-door.mjs). By AI agents, Wed Nov 11 2026. No macro, syntax, notation, axiom, sorry.
-/
import Derived.Test.YtagkodkijkpemaaGreatDoorRows
import GoSem.ClaimSeven
namespace Go.Proofs.YtagkodkijkpemaaGreatDoor
namespace Rows

/-- THE TIED CARD OF 'comblaw06.PackAny'. -/
def packAnyCard : Claim7 := { stood := { row := packAnyRow, standIns := [], harness := (true, "9f472003c7611f34d0dd9f61810188b940c895f60c74e1dc60470709e5ed5a84"), looks := true }, kinds := [], alts := [], laidByText := true, laidKinds := [.data, .data, .data, .data, .called], laidTests := true, laidLooks := .later }
def PackAnyCardSaid : Prop := Claim7.holds Tryz.pinned (.plain (OpenSpec.ofChange packAnySpec)) packAnyCard

/-- THE TIED CARD OF 'comblaw07.RunAny'. -/
def runAnyCard : Claim7 := { stood := { row := runAnyRow, standIns := [], harness := (true, "9f472003c7611f34d0dd9f61810188b940c895f60c74e1dc60470709e5ed5a84"), looks := true }, kinds := [], alts := [], laidByText := true, laidKinds := [.data, .data, .data, .data, .called], laidTests := true, laidLooks := .later }
def RunAnyCardSaid : Prop := Claim7.holds Tryz.pinned (.plain (OpenSpec.ofChange runAnySpec)) runAnyCard

/-- THE SECOND FORM's CARD OF 'comblaw06.PackAny'. -/
def packAnyUptoCard : Claim7 := { stood := { row := packAnyUptoRow, standIns := [], harness := (true, "9f472003c7611f34d0dd9f61810188b940c895f60c74e1dc60470709e5ed5a84"), looks := true }, kinds := [], alts := [], laidByText := true, laidKinds := [.data, .data, .data, .data, .called], laidTests := true, laidLooks := .later }
def PackAnyUptoCardSaid : Prop := Claim7.holds Tryz.pinned (.plain (OpenSpec.upto packAnySpec)) packAnyUptoCard

/-- THE SECOND FORM's CARD OF 'comblaw07.RunAny'. -/
def runAnyUptoCard : Claim7 := { stood := { row := runAnyUptoRow, standIns := [], harness := (true, "9f472003c7611f34d0dd9f61810188b940c895f60c74e1dc60470709e5ed5a84"), looks := true }, kinds := [], alts := [], laidByText := true, laidKinds := [.data, .data, .data, .data, .called], laidTests := true, laidLooks := .later }
def RunAnyUptoCardSaid : Prop := Claim7.holds Tryz.pinned (.plain (OpenSpec.upto runAnySpec)) runAnyUptoCard
end Rows
end Go.Proofs.YtagkodkijkpemaaGreatDoor

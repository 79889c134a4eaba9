/-
  DERIVED. GIVEN WITH THE SEED: THE CARDS: each row of YtfpjphhnjegnjaaGreatDoorRows.lean that lists a variable, with what it lists TIED to the program's text (the seventh form; the later family's looks); each row that meets fmt, with fmt's text TOLD by the authors' own Lean function (tested against real Go, not proved from fmt's source: count such statements apart). THE CARD IS WHAT COUNTS. Prove the row's statement (the work); the ties are given (YtfpjphhnjegnjaaGreatDoorTie.lean); close each card by the builder's one call (the guide's Derived/Test/ToyasCard.lean, 'card_holds'). Laid BY PROGRAM, IN A SANDBOX (cutbox-door.mjs). By AI agents, Wed Nov 11 2026. No macro, syntax, notation, axiom, sorry.
-/
import Derived.Test.YtfpjphhnjegnjaaGreatDoorRows
import GoSem.ClaimSeven
namespace Go.Proofs.YtfpjphhnjegnjaaGreatDoor
namespace Rows

/-- THE TIED CARD OF 'comblaw09.CombLists'. -/
def combListsCard : Claim7 := { stood := { row := combListsRow, standIns := [], harness := (true, "2969db8f1b0604dc35ac7161bd749cb0ed1a0c4632363dcba2225a7916d719ed"), looks := true }, kinds := [], alts := [], laidByText := true, laidKinds := [.data, .data, .data, .data, .called], laidTests := true, laidLooks := .later }
def CombListsCardSaid : Prop := Claim7.holds Tryz.pinned (.plain (OpenSpec.ofChange combListsSpec)) combListsCard

/-- THE SECOND FORM's CARD OF 'comblaw09.CombLists'. -/
def combListsUptoCard : Claim7 := { stood := { row := combListsUptoRow, standIns := [], harness := (true, "2969db8f1b0604dc35ac7161bd749cb0ed1a0c4632363dcba2225a7916d719ed"), looks := true }, kinds := [], alts := [], laidByText := true, laidKinds := [.data, .data, .data, .data, .called], laidTests := true, laidLooks := .later }
def CombListsUptoCardSaid : Prop := Claim7.holds Tryz.pinned (.plain (OpenSpec.upto combListsSpec)) combListsUptoCard
end Rows
end Go.Proofs.YtfpjphhnjegnjaaGreatDoor

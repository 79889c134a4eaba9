/-
  DERIVED. GIVEN WITH THE SEED: THE CARDS: each row of YtjaalkocdbkdeaaGreatDoorRows.lean that lists a variable, with what it lists TIED to the program's text (the seventh form; the later family's looks); each row that meets fmt, with fmt's text TOLD by the authors' own Lean function (tested against real Go, not proved from fmt's source: count such statements apart). THE CARD IS WHAT COUNTS. Prove the row's statement (the work); the ties are given (YtjaalkocdbkdeaaGreatDoorTie.lean); close each card by the builder's one call (the guide's Derived/Test/ToyasCard.lean, 'card_holds'). Laid BY PROGRAM, IN A SANDBOX (cutbox-door.mjs). By AI agents, Wed Nov 11 2026. No macro, syntax, notation, axiom, sorry.
-/
import Derived.Test.YtjaalkocdbkdeaaGreatDoorRows
import GoSem.ClaimSeven
namespace Go.Proofs.YtjaalkocdbkdeaaGreatDoor
namespace Rows

/-- THE TIED CARD OF 'comblaw03.StateAll'. -/
def stateAllCard : Claim7 := { stood := { row := stateAllRow, standIns := [], harness := (true, "c351ba071e4a9e19ffd6a9dccf632aca2983ab485245bd441d9af7839ef7337e"), looks := true }, kinds := [], alts := [], laidByText := true, laidKinds := [.data, .data, .data], laidTests := true, laidLooks := .later }
def StateAllCardSaid : Prop := Claim7.holds Tryz.pinned (.plain (OpenSpec.ofChange stateAllSpec)) stateAllCard

/-- THE TIED CARD OF 'comblaw03.StateEdges'. -/
def stateEdgesCard : Claim7 := { stood := { row := stateEdgesRow, standIns := [], harness := (true, "c351ba071e4a9e19ffd6a9dccf632aca2983ab485245bd441d9af7839ef7337e"), looks := true }, kinds := [], alts := [], laidByText := true, laidKinds := [.data, .data, .data], laidTests := true, laidLooks := .later }
def StateEdgesCardSaid : Prop := Claim7.holds Tryz.pinned (.plain (OpenSpec.ofChange stateEdgesSpec)) stateEdgesCard

/-- THE TIED CARD OF 'comblaw03.StateRows'. -/
def stateRowsCard : Claim7 := { stood := { row := stateRowsRow, standIns := [], harness := (true, "c351ba071e4a9e19ffd6a9dccf632aca2983ab485245bd441d9af7839ef7337e"), looks := true }, kinds := [], alts := [], laidByText := true, laidKinds := [.data, .data, .data], laidTests := true, laidLooks := .later }
def StateRowsCardSaid : Prop := Claim7.holds Tryz.pinned (.plain (OpenSpec.ofChange stateRowsSpec)) stateRowsCard

/-- THE TIED CARD OF 'comblaw03.StateOnce'. -/
def stateOnceCard : Claim7 := { stood := { row := stateOnceRow, standIns := [], harness := (true, "c351ba071e4a9e19ffd6a9dccf632aca2983ab485245bd441d9af7839ef7337e"), looks := true }, kinds := [], alts := [], laidByText := true, laidKinds := [.data, .data, .data], laidTests := true, laidLooks := .later }
def StateOnceCardSaid : Prop := Claim7.holds Tryz.pinned (.plain (OpenSpec.ofChange stateOnceSpec)) stateOnceCard

/-- THE SECOND FORM's CARD OF 'comblaw03.StateAll'. -/
def stateAllUptoCard : Claim7 := { stood := { row := stateAllUptoRow, standIns := [], harness := (true, "c351ba071e4a9e19ffd6a9dccf632aca2983ab485245bd441d9af7839ef7337e"), looks := true }, kinds := [], alts := [], laidByText := true, laidKinds := [.data, .data, .data], laidTests := true, laidLooks := .later }
def StateAllUptoCardSaid : Prop := Claim7.holds Tryz.pinned (.plain (OpenSpec.upto stateAllSpec)) stateAllUptoCard

/-- THE SECOND FORM's CARD OF 'comblaw03.StateEdges'. -/
def stateEdgesUptoCard : Claim7 := { stood := { row := stateEdgesUptoRow, standIns := [], harness := (true, "c351ba071e4a9e19ffd6a9dccf632aca2983ab485245bd441d9af7839ef7337e"), looks := true }, kinds := [], alts := [], laidByText := true, laidKinds := [.data, .data, .data], laidTests := true, laidLooks := .later }
def StateEdgesUptoCardSaid : Prop := Claim7.holds Tryz.pinned (.plain (OpenSpec.upto stateEdgesSpec)) stateEdgesUptoCard

/-- THE SECOND FORM's CARD OF 'comblaw03.StateRows'. -/
def stateRowsUptoCard : Claim7 := { stood := { row := stateRowsUptoRow, standIns := [], harness := (true, "c351ba071e4a9e19ffd6a9dccf632aca2983ab485245bd441d9af7839ef7337e"), looks := true }, kinds := [], alts := [], laidByText := true, laidKinds := [.data, .data, .data], laidTests := true, laidLooks := .later }
def StateRowsUptoCardSaid : Prop := Claim7.holds Tryz.pinned (.plain (OpenSpec.upto stateRowsSpec)) stateRowsUptoCard

/-- THE SECOND FORM's CARD OF 'comblaw03.StateOnce'. -/
def stateOnceUptoCard : Claim7 := { stood := { row := stateOnceUptoRow, standIns := [], harness := (true, "c351ba071e4a9e19ffd6a9dccf632aca2983ab485245bd441d9af7839ef7337e"), looks := true }, kinds := [], alts := [], laidByText := true, laidKinds := [.data, .data, .data], laidTests := true, laidLooks := .later }
def StateOnceUptoCardSaid : Prop := Claim7.holds Tryz.pinned (.plain (OpenSpec.upto stateOnceSpec)) stateOnceUptoCard
end Rows
end Go.Proofs.YtjaalkocdbkdeaaGreatDoor

/-
  DERIVED. GIVEN WITH THE SEED: THE CARDS: each row of YtlcppnabbicmoaaGreatDoorRows.lean that lists a variable, with what it lists TIED to the program's text (the seventh form; the later family's looks); each row that meets fmt, with fmt's text TOLD by the authors' own Lean function (tested against real Go, not proved from fmt's source: count such statements apart). THE CARD IS WHAT COUNTS. Prove the row's statement (the work); the ties are given (YtlcppnabbicmoaaGreatDoorTie.lean); close each card by the builder's one call (the guide's Derived/Test/ToyasCard.lean, 'card_holds'). Laid BY PROGRAM, IN A SANDBOX (cutbox-door.mjs). By AI agents, Wed Nov 11 2026. No macro, syntax, notation, axiom, sorry.
-/
import Derived.Test.YtlcppnabbicmoaaGreatDoorRows
import GoSem.ClaimSeven
namespace Go.Proofs.YtlcppnabbicmoaaGreatDoor
namespace Rows

/-- THE TIED CARD OF 'comblaw02.PlainMakes'. -/
def plainMakesCard : Claim7 := { stood := { row := plainMakesRow, standIns := [], harness := (true, "1ed212a042b5458b66e3f7a670db1125843052f4582c5ad7788a7737cb2effc5"), looks := true }, kinds := [], alts := [], laidByText := true, laidKinds := [.data, .data, .data], laidTests := true, laidLooks := .later }
def PlainMakesCardSaid : Prop := Claim7.holds Tryz.pinned (.plain (OpenSpec.ofChange plainMakesSpec)) plainMakesCard

/-- THE TIED CARD OF 'comblaw02.PlainSets'. -/
def plainSetsCard : Claim7 := { stood := { row := plainSetsRow, standIns := [], harness := (true, "1ed212a042b5458b66e3f7a670db1125843052f4582c5ad7788a7737cb2effc5"), looks := true }, kinds := [], alts := [], laidByText := true, laidKinds := [.data, .data, .data], laidTests := true, laidLooks := .later }
def PlainSetsCardSaid : Prop := Claim7.holds Tryz.pinned (.plain (OpenSpec.ofChange plainSetsSpec)) plainSetsCard

/-- THE TIED CARD OF 'comblaw02.PlainMeans'. -/
def plainMeansCard : Claim7 := { stood := { row := plainMeansRow, standIns := [], harness := (true, "1ed212a042b5458b66e3f7a670db1125843052f4582c5ad7788a7737cb2effc5"), looks := true }, kinds := [], alts := [], laidByText := true, laidKinds := [.data, .data, .data], laidTests := true, laidLooks := .later }
def PlainMeansCardSaid : Prop := Claim7.holds Tryz.pinned (.plain (OpenSpec.ofChange plainMeansSpec)) plainMeansCard

/-- THE TIED CARD OF 'comblaw02.PlainWell'. -/
def plainWellCard : Claim7 := { stood := { row := plainWellRow, standIns := [], harness := (true, "1ed212a042b5458b66e3f7a670db1125843052f4582c5ad7788a7737cb2effc5"), looks := true }, kinds := [], alts := [], laidByText := true, laidKinds := [.data, .data, .data], laidTests := true, laidLooks := .later }
def PlainWellCardSaid : Prop := Claim7.holds Tryz.pinned (.plain (OpenSpec.ofChange plainWellSpec)) plainWellCard

/-- THE TIED CARD OF 'comblaw02.PlainAgain'. -/
def plainAgainCard : Claim7 := { stood := { row := plainAgainRow, standIns := [], harness := (true, "1ed212a042b5458b66e3f7a670db1125843052f4582c5ad7788a7737cb2effc5"), looks := true }, kinds := [], alts := [], laidByText := true, laidKinds := [.data, .data, .data], laidTests := true, laidLooks := .later }
def PlainAgainCardSaid : Prop := Claim7.holds Tryz.pinned (.plain (OpenSpec.ofChange plainAgainSpec)) plainAgainCard

/-- THE TIED CARD OF 'comblaw02.PlainRenamed'. -/
def plainRenamedCard : Claim7 := { stood := { row := plainRenamedRow, standIns := [], harness := (true, "1ed212a042b5458b66e3f7a670db1125843052f4582c5ad7788a7737cb2effc5"), looks := true }, kinds := [], alts := [], laidByText := true, laidKinds := [.data, .data, .data], laidTests := true, laidLooks := .later }
def PlainRenamedCardSaid : Prop := Claim7.holds Tryz.pinned (.plain (OpenSpec.ofChange plainRenamedSpec)) plainRenamedCard

/-- THE SECOND FORM's CARD OF 'comblaw02.PlainMakes'. -/
def plainMakesUptoCard : Claim7 := { stood := { row := plainMakesUptoRow, standIns := [], harness := (true, "1ed212a042b5458b66e3f7a670db1125843052f4582c5ad7788a7737cb2effc5"), looks := true }, kinds := [], alts := [], laidByText := true, laidKinds := [.data, .data, .data], laidTests := true, laidLooks := .later }
def PlainMakesUptoCardSaid : Prop := Claim7.holds Tryz.pinned (.plain (OpenSpec.upto plainMakesSpec)) plainMakesUptoCard

/-- THE SECOND FORM's CARD OF 'comblaw02.PlainSets'. -/
def plainSetsUptoCard : Claim7 := { stood := { row := plainSetsUptoRow, standIns := [], harness := (true, "1ed212a042b5458b66e3f7a670db1125843052f4582c5ad7788a7737cb2effc5"), looks := true }, kinds := [], alts := [], laidByText := true, laidKinds := [.data, .data, .data], laidTests := true, laidLooks := .later }
def PlainSetsUptoCardSaid : Prop := Claim7.holds Tryz.pinned (.plain (OpenSpec.upto plainSetsSpec)) plainSetsUptoCard

/-- THE SECOND FORM's CARD OF 'comblaw02.PlainMeans'. -/
def plainMeansUptoCard : Claim7 := { stood := { row := plainMeansUptoRow, standIns := [], harness := (true, "1ed212a042b5458b66e3f7a670db1125843052f4582c5ad7788a7737cb2effc5"), looks := true }, kinds := [], alts := [], laidByText := true, laidKinds := [.data, .data, .data], laidTests := true, laidLooks := .later }
def PlainMeansUptoCardSaid : Prop := Claim7.holds Tryz.pinned (.plain (OpenSpec.upto plainMeansSpec)) plainMeansUptoCard

/-- THE SECOND FORM's CARD OF 'comblaw02.PlainWell'. -/
def plainWellUptoCard : Claim7 := { stood := { row := plainWellUptoRow, standIns := [], harness := (true, "1ed212a042b5458b66e3f7a670db1125843052f4582c5ad7788a7737cb2effc5"), looks := true }, kinds := [], alts := [], laidByText := true, laidKinds := [.data, .data, .data], laidTests := true, laidLooks := .later }
def PlainWellUptoCardSaid : Prop := Claim7.holds Tryz.pinned (.plain (OpenSpec.upto plainWellSpec)) plainWellUptoCard

/-- THE SECOND FORM's CARD OF 'comblaw02.PlainAgain'. -/
def plainAgainUptoCard : Claim7 := { stood := { row := plainAgainUptoRow, standIns := [], harness := (true, "1ed212a042b5458b66e3f7a670db1125843052f4582c5ad7788a7737cb2effc5"), looks := true }, kinds := [], alts := [], laidByText := true, laidKinds := [.data, .data, .data], laidTests := true, laidLooks := .later }
def PlainAgainUptoCardSaid : Prop := Claim7.holds Tryz.pinned (.plain (OpenSpec.upto plainAgainSpec)) plainAgainUptoCard

/-- THE SECOND FORM's CARD OF 'comblaw02.PlainRenamed'. -/
def plainRenamedUptoCard : Claim7 := { stood := { row := plainRenamedUptoRow, standIns := [], harness := (true, "1ed212a042b5458b66e3f7a670db1125843052f4582c5ad7788a7737cb2effc5"), looks := true }, kinds := [], alts := [], laidByText := true, laidKinds := [.data, .data, .data], laidTests := true, laidLooks := .later }
def PlainRenamedUptoCardSaid : Prop := Claim7.holds Tryz.pinned (.plain (OpenSpec.upto plainRenamedSpec)) plainRenamedUptoCard
end Rows
end Go.Proofs.YtlcppnabbicmoaaGreatDoor

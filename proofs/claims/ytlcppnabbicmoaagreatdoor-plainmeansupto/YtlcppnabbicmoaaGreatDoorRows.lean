/-
  NARROWER THAN 'FOR EVERY INPUT', by the rows' own cells (each row's printed sentence says how): PlainMakes: laid · PlainSets: laid · PlainMeans: laid · PlainWell: laid · PlainAgain: laid · PlainRenamed: laid.
  DERIVED. THE GIVEN ROWS OF THIS SEAT. 6 by the template 'for every input the law returns true; each argument reads behind the call as it read before'; 0 by the template 'total and deterministic' (their statements: YtlcppnabbicmoaaGreatDoorTotals.lean).
  GIVEN WITH THE SEED: the statements are not yours to turn. If you find one false, say at which input.
  Laid BY PROGRAM, IN A SANDBOX (cutbox-rows.mjs): the forced cells as the released guide's own fill.sh prints them over the translation 8b5e2d23f3ac39a5… (all of the seat's roots in one cut). By AI agents, Wed Nov 11 2026. No macro, syntax, notation, axiom, sorry.
-/
import Derived.Test.YtlcppnabbicmoaaGreatDoorChecked
import GoSem.Claim
import GoSem.ClaimJoined
import GoSem.ClaimMapViews
import Derived.JoinedTies
import Derived.KernelRfl
namespace Go.Proofs.YtlcppnabbicmoaaGreatDoor
/- THE CELL 'sum', in the pinned program and in every row, IS THE sha256 OF THE DUMP (.gsa) THAT YtlcppnabbicmoaaGreatDoorProg.lean LOADS. Nothing in Lean hashes anything: it is a label: what it is worth is what the hold of that sum in a sandbox is worth. -/
noncomputable def Tryz.pinned : Pinned := { name := "ytlcppnabbicmoaagreatdoor", sum := "8b5e2d23f3ac39a5c6e89b117f9fcc86bd4ac07f9356873a2eb2defd1b0edb4a", checked := Tryz.checked }
namespace Rows
def none {H : Type} : Left H := { results := [], args := [] }

/- WHAT THE LISTED PACKAGE-LEVEL VARIABLES READ AS WHEN THE CALL BEGINS. Each datum BY PROGRAM (the guide's laid-datum.mjs) off the statement by which the dump's own 'gosem.cut.vars' lays the variable. In a bare row this is a premise. The card (YtlcppnabbicmoaaGreatDoorCards.lean) ties it to the program's text. -/
def laid_math_bits_deBruijn32tab {H : Type} : DataW H := .agg [.lit (.int .u8 0), .lit (.int .u8 1), .lit (.int .u8 28), .lit (.int .u8 2), .lit (.int .u8 29), .lit (.int .u8 14), .lit (.int .u8 24), .lit (.int .u8 3), .lit (.int .u8 30), .lit (.int .u8 22), .lit (.int .u8 20), .lit (.int .u8 15), .lit (.int .u8 25), .lit (.int .u8 17), .lit (.int .u8 4), .lit (.int .u8 8), .lit (.int .u8 31), .lit (.int .u8 27), .lit (.int .u8 13), .lit (.int .u8 23), .lit (.int .u8 21), .lit (.int .u8 19), .lit (.int .u8 16), .lit (.int .u8 7), .lit (.int .u8 26), .lit (.int .u8 12), .lit (.int .u8 18), .lit (.int .u8 6), .lit (.int .u8 11), .lit (.int .u8 5), .lit (.int .u8 10), .lit (.int .u8 9)]
def laid_math_bits_deBruijn64tab {H : Type} : DataW H := .agg [.lit (.int .u8 0), .lit (.int .u8 1), .lit (.int .u8 56), .lit (.int .u8 2), .lit (.int .u8 57), .lit (.int .u8 49), .lit (.int .u8 28), .lit (.int .u8 3), .lit (.int .u8 61), .lit (.int .u8 58), .lit (.int .u8 42), .lit (.int .u8 50), .lit (.int .u8 38), .lit (.int .u8 29), .lit (.int .u8 17), .lit (.int .u8 4), .lit (.int .u8 62), .lit (.int .u8 47), .lit (.int .u8 59), .lit (.int .u8 36), .lit (.int .u8 45), .lit (.int .u8 43), .lit (.int .u8 51), .lit (.int .u8 22), .lit (.int .u8 53), .lit (.int .u8 39), .lit (.int .u8 33), .lit (.int .u8 30), .lit (.int .u8 24), .lit (.int .u8 18), .lit (.int .u8 12), .lit (.int .u8 5), .lit (.int .u8 63), .lit (.int .u8 55), .lit (.int .u8 48), .lit (.int .u8 27), .lit (.int .u8 60), .lit (.int .u8 41), .lit (.int .u8 37), .lit (.int .u8 16), .lit (.int .u8 46), .lit (.int .u8 35), .lit (.int .u8 44), .lit (.int .u8 21), .lit (.int .u8 52), .lit (.int .u8 32), .lit (.int .u8 23), .lit (.int .u8 11), .lit (.int .u8 54), .lit (.int .u8 26), .lit (.int .u8 40), .lit (.int .u8 15), .lit (.int .u8 34), .lit (.int .u8 20), .lit (.int .u8 31), .lit (.int .u8 10), .lit (.int .u8 25), .lit (.int .u8 14), .lit (.int .u8 19), .lit (.int .u8 9), .lit (.int .u8 13), .lit (.int .u8 8), .lit (.int .u8 7), .lit (.int .u8 6)]
def laid_internal_strconv_uint64pow10 {H : Type} : DataW H := .agg [.lit (.int .u64 1), .lit (.int .u64 10), .lit (.int .u64 100), .lit (.int .u64 1000), .lit (.int .u64 10000), .lit (.int .u64 100000), .lit (.int .u64 1000000), .lit (.int .u64 10000000), .lit (.int .u64 100000000), .lit (.int .u64 1000000000), .lit (.int .u64 10000000000), .lit (.int .u64 100000000000), .lit (.int .u64 1000000000000), .lit (.int .u64 10000000000000), .lit (.int .u64 100000000000000), .lit (.int .u64 1000000000000000), .lit (.int .u64 10000000000000000), .lit (.int .u64 100000000000000000), .lit (.int .u64 1000000000000000000), .lit (.int .u64 10000000000000000000)]

/-- 'comblaw02.PlainMakes': WHATEVER THE INPUT: true; the input reads as it did. -/
def plainMakesSpec : ChangeSpec := { name := "plainMakes", fn := fun _ => fun
  | [d] => { results := [.lit (.bool true)], args := [d] }
  | _ => none }
def plainMakesRow : OpenClaim := { program := "ytlcppnabbicmoaagreatdoor", sum := "8b5e2d23f3ac39a5c6e89b117f9fcc86bd4ac07f9356873a2eb2defd1b0edb4a", func := "comb/comblaw02.PlainMakes", spec := "plainMakes", unfollowed := true, recurses := true, named := ["internal/strconv.uint64pow10", "math/bits.deBruijn32tab", "math/bits.deBruijn64tab"], apart := false, laid := [("math/bits.deBruijn32tab", laid_math_bits_deBruijn32tab), ("math/bits.deBruijn64tab", laid_math_bits_deBruijn64tab), ("internal/strconv.uint64pow10", laid_internal_strconv_uint64pow10)] }
def PlainMakesSaid : Prop := plainMakesRow.holds Tryz.pinned (OpenSpec.ofChange plainMakesSpec)

/-- ITS FALSE NEIGHBOUR: 'it returns false'. Refute it at one input. -/
def plainMakesWrong : ChangeSpec := { name := "plainMakes", fn := fun _ => fun
  | [d] => { results := [.lit (.bool false)], args := [d] }
  | _ => none }
def PlainMakesWrongFalsely : Prop := plainMakesRow.holds Tryz.pinned (OpenSpec.ofChange plainMakesWrong)

/-- 'comblaw02.PlainSets': WHATEVER THE INPUT: true; the input reads as it did. -/
def plainSetsSpec : ChangeSpec := { name := "plainSets", fn := fun _ => fun
  | [d] => { results := [.lit (.bool true)], args := [d] }
  | _ => none }
def plainSetsRow : OpenClaim := { program := "ytlcppnabbicmoaagreatdoor", sum := "8b5e2d23f3ac39a5c6e89b117f9fcc86bd4ac07f9356873a2eb2defd1b0edb4a", func := "comb/comblaw02.PlainSets", spec := "plainSets", unfollowed := true, recurses := true, named := ["internal/strconv.uint64pow10", "math/bits.deBruijn32tab", "math/bits.deBruijn64tab"], apart := false, laid := [("math/bits.deBruijn32tab", laid_math_bits_deBruijn32tab), ("math/bits.deBruijn64tab", laid_math_bits_deBruijn64tab), ("internal/strconv.uint64pow10", laid_internal_strconv_uint64pow10)] }
def PlainSetsSaid : Prop := plainSetsRow.holds Tryz.pinned (OpenSpec.ofChange plainSetsSpec)

/-- ITS FALSE NEIGHBOUR: 'it returns false'. Refute it at one input. -/
def plainSetsWrong : ChangeSpec := { name := "plainSets", fn := fun _ => fun
  | [d] => { results := [.lit (.bool false)], args := [d] }
  | _ => none }
def PlainSetsWrongFalsely : Prop := plainSetsRow.holds Tryz.pinned (OpenSpec.ofChange plainSetsWrong)

/-- 'comblaw02.PlainMeans': WHATEVER THE INPUT: true; the input reads as it did. -/
def plainMeansSpec : ChangeSpec := { name := "plainMeans", fn := fun _ => fun
  | [d1, d2] => { results := [.lit (.bool true)], args := [d1, d2] }
  | _ => none }
def plainMeansRow : OpenClaim := { program := "ytlcppnabbicmoaagreatdoor", sum := "8b5e2d23f3ac39a5c6e89b117f9fcc86bd4ac07f9356873a2eb2defd1b0edb4a", func := "comb/comblaw02.PlainMeans", spec := "plainMeans", unfollowed := true, recurses := true, named := ["internal/strconv.uint64pow10", "math/bits.deBruijn32tab", "math/bits.deBruijn64tab"], apart := false, laid := [("math/bits.deBruijn32tab", laid_math_bits_deBruijn32tab), ("math/bits.deBruijn64tab", laid_math_bits_deBruijn64tab), ("internal/strconv.uint64pow10", laid_internal_strconv_uint64pow10)] }
def PlainMeansSaid : Prop := plainMeansRow.holds Tryz.pinned (OpenSpec.ofChange plainMeansSpec)

/-- ITS FALSE NEIGHBOUR: 'it returns false'. Refute it at one input. -/
def plainMeansWrong : ChangeSpec := { name := "plainMeans", fn := fun _ => fun
  | [d1, d2] => { results := [.lit (.bool false)], args := [d1, d2] }
  | _ => none }
def PlainMeansWrongFalsely : Prop := plainMeansRow.holds Tryz.pinned (OpenSpec.ofChange plainMeansWrong)

/-- 'comblaw02.PlainWell': WHATEVER THE INPUT: true; the input reads as it did. -/
def plainWellSpec : ChangeSpec := { name := "plainWell", fn := fun _ => fun
  | [d] => { results := [.lit (.bool true)], args := [d] }
  | _ => none }
def plainWellRow : OpenClaim := { program := "ytlcppnabbicmoaagreatdoor", sum := "8b5e2d23f3ac39a5c6e89b117f9fcc86bd4ac07f9356873a2eb2defd1b0edb4a", func := "comb/comblaw02.PlainWell", spec := "plainWell", unfollowed := true, recurses := true, named := ["internal/strconv.uint64pow10", "math/bits.deBruijn32tab", "math/bits.deBruijn64tab"], apart := false, laid := [("math/bits.deBruijn32tab", laid_math_bits_deBruijn32tab), ("math/bits.deBruijn64tab", laid_math_bits_deBruijn64tab), ("internal/strconv.uint64pow10", laid_internal_strconv_uint64pow10)] }
def PlainWellSaid : Prop := plainWellRow.holds Tryz.pinned (OpenSpec.ofChange plainWellSpec)

/-- ITS FALSE NEIGHBOUR: 'it returns false'. Refute it at one input. -/
def plainWellWrong : ChangeSpec := { name := "plainWell", fn := fun _ => fun
  | [d] => { results := [.lit (.bool false)], args := [d] }
  | _ => none }
def PlainWellWrongFalsely : Prop := plainWellRow.holds Tryz.pinned (OpenSpec.ofChange plainWellWrong)

/-- 'comblaw02.PlainAgain': WHATEVER THE INPUT: true; the input reads as it did. -/
def plainAgainSpec : ChangeSpec := { name := "plainAgain", fn := fun _ => fun
  | [d] => { results := [.lit (.bool true)], args := [d] }
  | _ => none }
def plainAgainRow : OpenClaim := { program := "ytlcppnabbicmoaagreatdoor", sum := "8b5e2d23f3ac39a5c6e89b117f9fcc86bd4ac07f9356873a2eb2defd1b0edb4a", func := "comb/comblaw02.PlainAgain", spec := "plainAgain", inPlace := ["internal/abi.NoEscape"], unfollowed := true, recurses := true, named := ["internal/strconv.uint64pow10", "math/bits.deBruijn32tab", "math/bits.deBruijn64tab"], apart := false, laid := [("math/bits.deBruijn32tab", laid_math_bits_deBruijn32tab), ("math/bits.deBruijn64tab", laid_math_bits_deBruijn64tab), ("internal/strconv.uint64pow10", laid_internal_strconv_uint64pow10)] }
def PlainAgainSaid : Prop := plainAgainRow.holds Tryz.pinned (OpenSpec.ofChange plainAgainSpec)

/-- ITS FALSE NEIGHBOUR: 'it returns false'. Refute it at one input. -/
def plainAgainWrong : ChangeSpec := { name := "plainAgain", fn := fun _ => fun
  | [d] => { results := [.lit (.bool false)], args := [d] }
  | _ => none }
def PlainAgainWrongFalsely : Prop := plainAgainRow.holds Tryz.pinned (OpenSpec.ofChange plainAgainWrong)

/-- 'comblaw02.PlainRenamed': WHATEVER THE INPUT: true; the input reads as it did. -/
def plainRenamedSpec : ChangeSpec := { name := "plainRenamed", fn := fun _ => fun
  | [d] => { results := [.lit (.bool true)], args := [d] }
  | _ => none }
def plainRenamedRow : OpenClaim := { program := "ytlcppnabbicmoaagreatdoor", sum := "8b5e2d23f3ac39a5c6e89b117f9fcc86bd4ac07f9356873a2eb2defd1b0edb4a", func := "comb/comblaw02.PlainRenamed", spec := "plainRenamed", inPlace := ["internal/abi.NoEscape"], unfollowed := true, recurses := true, named := ["internal/strconv.uint64pow10", "math/bits.deBruijn32tab", "math/bits.deBruijn64tab"], apart := false, laid := [("math/bits.deBruijn32tab", laid_math_bits_deBruijn32tab), ("math/bits.deBruijn64tab", laid_math_bits_deBruijn64tab), ("internal/strconv.uint64pow10", laid_internal_strconv_uint64pow10)] }
def PlainRenamedSaid : Prop := plainRenamedRow.holds Tryz.pinned (OpenSpec.ofChange plainRenamedSpec)

/-- ITS FALSE NEIGHBOUR: 'it returns false'. Refute it at one input. -/
def plainRenamedWrong : ChangeSpec := { name := "plainRenamed", fn := fun _ => fun
  | [d] => { results := [.lit (.bool false)], args := [d] }
  | _ => none }
def PlainRenamedWrongFalsely : Prop := plainRenamedRow.holds Tryz.pinned (OpenSpec.ofChange plainRenamedWrong)

/- THE SECOND FORM. 'bulk': how many values and letters a reading holds, each counted each time it is reached (what is shared counts as often as it is met; a slice's spare places count too). A statement '..UptoSaid' is the law's where the arguments, and the package variables that the reading takes, are together of bulk at most 1048576: NARROWER than '..Said'. Prove '..Said' where nothing that the law and all that it calls make is longer than what came in: it says more and counts as full. Else prove '..UptoSaid'. A law counts once. -/
mutual
def uptoBulk {H : Type} : DataW H → Nat
  | .lit (.string bytes) => bytes.length + 1
  | .lit _ => 1
  | .nil => 1
  | .ptr d => uptoBulk d + 1
  | .slice elems spare => uptoBulkAll elems + uptoBulkAll spare + 1
  | .agg parts => uptoBulkAll parts + 1
  | .iface _ d => uptoBulk d + 1
  | .map entries => uptoBulkEntries entries + 1
  | .held _ => 1
def uptoBulkAll {H : Type} : List (DataW H) → Nat
  | [] => 0
  | d :: r => uptoBulk d + uptoBulkAll r
def uptoBulkEntries {H : Type} : List (Lit × DataW H) → Nat
  | [] => 0
  | x :: r => uptoBulkEntry x + uptoBulkEntries r
def uptoBulkEntry {H : Type} : Lit × DataW H → Nat
  | (.string bytes, d) => bytes.length + uptoBulk d + 1
  | (_, d) => uptoBulk d + 1
 end
def uptoSmall : (H : Type) → List (DataW H) → Bool := fun _ ds => decide (uptoBulkAll ds ≤ 1048576)
def OpenSpec.upto (s : _root_.Go.ChangeSpec) : _root_.Go.OpenSpec := { _root_.Go.OpenSpec.ofChange s with cond := some uptoSmall }

/-- 'comblaw02.PlainMakes', WHERE WHAT IT READS IS OF BULK AT MOST 1048576: true; the input reads as it did. -/
def plainMakesUptoRow : OpenClaim := { program := "ytlcppnabbicmoaagreatdoor", sum := "8b5e2d23f3ac39a5c6e89b117f9fcc86bd4ac07f9356873a2eb2defd1b0edb4a", func := "comb/comblaw02.PlainMakes", spec := "plainMakes", unfollowed := true, recurses := true, named := ["internal/strconv.uint64pow10", "math/bits.deBruijn32tab", "math/bits.deBruijn64tab"], apart := false, laid := [("math/bits.deBruijn32tab", laid_math_bits_deBruijn32tab), ("math/bits.deBruijn64tab", laid_math_bits_deBruijn64tab), ("internal/strconv.uint64pow10", laid_internal_strconv_uint64pow10)], narrowed := true }
def PlainMakesUptoSaid : Prop := plainMakesUptoRow.holds Tryz.pinned (OpenSpec.upto plainMakesSpec)

/-- 'comblaw02.PlainSets', WHERE WHAT IT READS IS OF BULK AT MOST 1048576: true; the input reads as it did. -/
def plainSetsUptoRow : OpenClaim := { program := "ytlcppnabbicmoaagreatdoor", sum := "8b5e2d23f3ac39a5c6e89b117f9fcc86bd4ac07f9356873a2eb2defd1b0edb4a", func := "comb/comblaw02.PlainSets", spec := "plainSets", unfollowed := true, recurses := true, named := ["internal/strconv.uint64pow10", "math/bits.deBruijn32tab", "math/bits.deBruijn64tab"], apart := false, laid := [("math/bits.deBruijn32tab", laid_math_bits_deBruijn32tab), ("math/bits.deBruijn64tab", laid_math_bits_deBruijn64tab), ("internal/strconv.uint64pow10", laid_internal_strconv_uint64pow10)], narrowed := true }
def PlainSetsUptoSaid : Prop := plainSetsUptoRow.holds Tryz.pinned (OpenSpec.upto plainSetsSpec)

/-- 'comblaw02.PlainMeans', WHERE WHAT IT READS IS OF BULK AT MOST 1048576: true; the input reads as it did. -/
def plainMeansUptoRow : OpenClaim := { program := "ytlcppnabbicmoaagreatdoor", sum := "8b5e2d23f3ac39a5c6e89b117f9fcc86bd4ac07f9356873a2eb2defd1b0edb4a", func := "comb/comblaw02.PlainMeans", spec := "plainMeans", unfollowed := true, recurses := true, named := ["internal/strconv.uint64pow10", "math/bits.deBruijn32tab", "math/bits.deBruijn64tab"], apart := false, laid := [("math/bits.deBruijn32tab", laid_math_bits_deBruijn32tab), ("math/bits.deBruijn64tab", laid_math_bits_deBruijn64tab), ("internal/strconv.uint64pow10", laid_internal_strconv_uint64pow10)], narrowed := true }
def PlainMeansUptoSaid : Prop := plainMeansUptoRow.holds Tryz.pinned (OpenSpec.upto plainMeansSpec)

/-- 'comblaw02.PlainWell', WHERE WHAT IT READS IS OF BULK AT MOST 1048576: true; the input reads as it did. -/
def plainWellUptoRow : OpenClaim := { program := "ytlcppnabbicmoaagreatdoor", sum := "8b5e2d23f3ac39a5c6e89b117f9fcc86bd4ac07f9356873a2eb2defd1b0edb4a", func := "comb/comblaw02.PlainWell", spec := "plainWell", unfollowed := true, recurses := true, named := ["internal/strconv.uint64pow10", "math/bits.deBruijn32tab", "math/bits.deBruijn64tab"], apart := false, laid := [("math/bits.deBruijn32tab", laid_math_bits_deBruijn32tab), ("math/bits.deBruijn64tab", laid_math_bits_deBruijn64tab), ("internal/strconv.uint64pow10", laid_internal_strconv_uint64pow10)], narrowed := true }
def PlainWellUptoSaid : Prop := plainWellUptoRow.holds Tryz.pinned (OpenSpec.upto plainWellSpec)

/-- 'comblaw02.PlainAgain', WHERE WHAT IT READS IS OF BULK AT MOST 1048576: true; the input reads as it did. -/
def plainAgainUptoRow : OpenClaim := { program := "ytlcppnabbicmoaagreatdoor", sum := "8b5e2d23f3ac39a5c6e89b117f9fcc86bd4ac07f9356873a2eb2defd1b0edb4a", func := "comb/comblaw02.PlainAgain", spec := "plainAgain", inPlace := ["internal/abi.NoEscape"], unfollowed := true, recurses := true, named := ["internal/strconv.uint64pow10", "math/bits.deBruijn32tab", "math/bits.deBruijn64tab"], apart := false, laid := [("math/bits.deBruijn32tab", laid_math_bits_deBruijn32tab), ("math/bits.deBruijn64tab", laid_math_bits_deBruijn64tab), ("internal/strconv.uint64pow10", laid_internal_strconv_uint64pow10)], narrowed := true }
def PlainAgainUptoSaid : Prop := plainAgainUptoRow.holds Tryz.pinned (OpenSpec.upto plainAgainSpec)

/-- 'comblaw02.PlainRenamed', WHERE WHAT IT READS IS OF BULK AT MOST 1048576: true; the input reads as it did. -/
def plainRenamedUptoRow : OpenClaim := { program := "ytlcppnabbicmoaagreatdoor", sum := "8b5e2d23f3ac39a5c6e89b117f9fcc86bd4ac07f9356873a2eb2defd1b0edb4a", func := "comb/comblaw02.PlainRenamed", spec := "plainRenamed", inPlace := ["internal/abi.NoEscape"], unfollowed := true, recurses := true, named := ["internal/strconv.uint64pow10", "math/bits.deBruijn32tab", "math/bits.deBruijn64tab"], apart := false, laid := [("math/bits.deBruijn32tab", laid_math_bits_deBruijn32tab), ("math/bits.deBruijn64tab", laid_math_bits_deBruijn64tab), ("internal/strconv.uint64pow10", laid_internal_strconv_uint64pow10)], narrowed := true }
def PlainRenamedUptoSaid : Prop := plainRenamedUptoRow.holds Tryz.pinned (OpenSpec.upto plainRenamedSpec)

end Rows
end Go.Proofs.YtlcppnabbicmoaaGreatDoor

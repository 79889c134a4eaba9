/-
  No cell of these rows narrows 'for every input' (looked for: loops, veiled, ifaces, maps, wideKeys, modest, calm, conditions, laid).
  DERIVED. THE GIVEN ROWS OF THIS SEAT. 6 by the template 'for every input the law returns true; each argument reads behind the call as it read before'; 0 by the template 'total and deterministic' (their statements: YtonkcljapkeidaaTotals.lean).
  GIVEN WITH THE SEED: the statements are not yours to turn. If you find one false, say at which input.
  Laid BY PROGRAM, IN A SANDBOX (cutbox-rows.mjs): the forced cells as the released guide's own fill.sh prints them over the translation f412e274932b98ee… (all of the seat's roots in one cut). By AI agents, Wed Nov 11 2026. No macro, syntax, notation, axiom, sorry.
-/
import Derived.Test.YtonkcljapkeidaaChecked
import GoSem.Claim
import GoSem.ClaimJoined
import GoSem.ClaimMapViews
import Derived.JoinedTies
import Derived.KernelRfl
namespace Go.Proofs.Ytonkcljapkeidaa
/- THE CELL 'sum', in the pinned program and in every row, IS THE sha256 OF THE DUMP (.gsa) THAT YtonkcljapkeidaaProg.lean LOADS. Nothing in Lean hashes anything: it is a label: what it is worth is what the hold of that sum in a sandbox is worth. -/
noncomputable def Try.pinned : Pinned := { name := "ytonkcljapkeidaa", sum := "f412e274932b98eefd415c39b208b1ca960ce131dce203203ede60153df530b5", checked := Try.checked }
namespace Rows
def none {H : Type} : Left H := { results := [], args := [] }

/-- 'comblaw01.GramParses': WHATEVER THE INPUT: true; the input reads as it did. -/
def gramParsesSpec : ChangeSpec := { name := "gramParses", fn := fun _ => fun
  | [d] => { results := [.lit (.bool true)], args := [d] }
  | _ => none }
def gramParsesRow : OpenClaim := { program := "ytonkcljapkeidaa", sum := "f412e274932b98eefd415c39b208b1ca960ce131dce203203ede60153df530b5", func := "comb/comblaw01.GramParses", spec := "gramParses", inPlace := ["internal/abi.NoEscape"], unfollowed := true, recurses := true, apart := false }
def GramParsesSaid : Prop := gramParsesRow.holds Try.pinned (OpenSpec.ofChange gramParsesSpec)

/-- ITS FALSE NEIGHBOUR: 'it returns false'. Refute it at one input. -/
def gramParsesWrong : ChangeSpec := { name := "gramParses", fn := fun _ => fun
  | [d] => { results := [.lit (.bool false)], args := [d] }
  | _ => none }
def GramParsesWrongFalsely : Prop := gramParsesRow.holds Try.pinned (OpenSpec.ofChange gramParsesWrong)

/-- 'comblaw01.GramPrints': WHATEVER THE INPUT: true; the input reads as it did. -/
def gramPrintsSpec : ChangeSpec := { name := "gramPrints", fn := fun _ => fun
  | [d] => { results := [.lit (.bool true)], args := [d] }
  | _ => none }
def gramPrintsRow : OpenClaim := { program := "ytonkcljapkeidaa", sum := "f412e274932b98eefd415c39b208b1ca960ce131dce203203ede60153df530b5", func := "comb/comblaw01.GramPrints", spec := "gramPrints", inPlace := ["internal/abi.NoEscape"], unfollowed := true, recurses := true, apart := false }
def GramPrintsSaid : Prop := gramPrintsRow.holds Try.pinned (OpenSpec.ofChange gramPrintsSpec)

/-- ITS FALSE NEIGHBOUR: 'it returns false'. Refute it at one input. -/
def gramPrintsWrong : ChangeSpec := { name := "gramPrints", fn := fun _ => fun
  | [d] => { results := [.lit (.bool false)], args := [d] }
  | _ => none }
def GramPrintsWrongFalsely : Prop := gramPrintsRow.holds Try.pinned (OpenSpec.ofChange gramPrintsWrong)

/-- 'comblaw01.GramBack': WHATEVER THE INPUT: true; the input reads as it did. -/
def gramBackSpec : ChangeSpec := { name := "gramBack", fn := fun _ => fun
  | [d] => { results := [.lit (.bool true)], args := [d] }
  | _ => none }
def gramBackRow : OpenClaim := { program := "ytonkcljapkeidaa", sum := "f412e274932b98eefd415c39b208b1ca960ce131dce203203ede60153df530b5", func := "comb/comblaw01.GramBack", spec := "gramBack", inPlace := ["internal/abi.NoEscape"], unfollowed := true, recurses := true, apart := false }
def GramBackSaid : Prop := gramBackRow.holds Try.pinned (OpenSpec.ofChange gramBackSpec)

/-- ITS FALSE NEIGHBOUR: 'it returns false'. Refute it at one input. -/
def gramBackWrong : ChangeSpec := { name := "gramBack", fn := fun _ => fun
  | [d] => { results := [.lit (.bool false)], args := [d] }
  | _ => none }
def GramBackWrongFalsely : Prop := gramBackRow.holds Try.pinned (OpenSpec.ofChange gramBackWrong)

/-- 'comblaw01.GramJoined': WHATEVER THE INPUT: true; the input reads as it did. -/
def gramJoinedSpec : ChangeSpec := { name := "gramJoined", fn := fun _ => fun
  | [d1, d2] => { results := [.lit (.bool true)], args := [d1, d2] }
  | _ => none }
def gramJoinedRow : OpenClaim := { program := "ytonkcljapkeidaa", sum := "f412e274932b98eefd415c39b208b1ca960ce131dce203203ede60153df530b5", func := "comb/comblaw01.GramJoined", spec := "gramJoined", inPlace := ["internal/abi.NoEscape"], unfollowed := true, recurses := true, apart := false }
def GramJoinedSaid : Prop := gramJoinedRow.holds Try.pinned (OpenSpec.ofChange gramJoinedSpec)

/-- ITS FALSE NEIGHBOUR: 'it returns false'. Refute it at one input. -/
def gramJoinedWrong : ChangeSpec := { name := "gramJoined", fn := fun _ => fun
  | [d1, d2] => { results := [.lit (.bool false)], args := [d1, d2] }
  | _ => none }
def GramJoinedWrongFalsely : Prop := gramJoinedRow.holds Try.pinned (OpenSpec.ofChange gramJoinedWrong)

/-- 'comblaw01.GramOwn': WHATEVER THE INPUT: true; the input reads as it did. -/
def gramOwnSpec : ChangeSpec := { name := "gramOwn", fn := fun _ => fun
  | [d] => { results := [.lit (.bool true)], args := [d] }
  | _ => none }
def gramOwnRow : OpenClaim := { program := "ytonkcljapkeidaa", sum := "f412e274932b98eefd415c39b208b1ca960ce131dce203203ede60153df530b5", func := "comb/comblaw01.GramOwn", spec := "gramOwn", inPlace := ["internal/abi.NoEscape"], unfollowed := true, recurses := true, apart := false }
def GramOwnSaid : Prop := gramOwnRow.holds Try.pinned (OpenSpec.ofChange gramOwnSpec)

/-- ITS FALSE NEIGHBOUR: 'it returns false'. Refute it at one input. -/
def gramOwnWrong : ChangeSpec := { name := "gramOwn", fn := fun _ => fun
  | [d] => { results := [.lit (.bool false)], args := [d] }
  | _ => none }
def GramOwnWrongFalsely : Prop := gramOwnRow.holds Try.pinned (OpenSpec.ofChange gramOwnWrong)

/-- 'comblaw01.GramRemarks': WHATEVER THE INPUT: true; the input reads as it did. -/
def gramRemarksSpec : ChangeSpec := { name := "gramRemarks", fn := fun _ => fun
  | [d1, d2] => { results := [.lit (.bool true)], args := [d1, d2] }
  | _ => none }
def gramRemarksRow : OpenClaim := { program := "ytonkcljapkeidaa", sum := "f412e274932b98eefd415c39b208b1ca960ce131dce203203ede60153df530b5", func := "comb/comblaw01.GramRemarks", spec := "gramRemarks", inPlace := ["internal/abi.NoEscape"], unfollowed := true, recurses := true, apart := false }
def GramRemarksSaid : Prop := gramRemarksRow.holds Try.pinned (OpenSpec.ofChange gramRemarksSpec)

/-- ITS FALSE NEIGHBOUR: 'it returns false'. Refute it at one input. -/
def gramRemarksWrong : ChangeSpec := { name := "gramRemarks", fn := fun _ => fun
  | [d1, d2] => { results := [.lit (.bool false)], args := [d1, d2] }
  | _ => none }
def GramRemarksWrongFalsely : Prop := gramRemarksRow.holds Try.pinned (OpenSpec.ofChange gramRemarksWrong)

/- THE SECOND FORM. 'bulk': how many values and letters a reading holds, each counted each time it is reached (what is shared counts as often as it is met; a slice's spare places count too). A statement '..UptoSaid' is the law's where the arguments, and the package variables that the reading takes, are together of bulk at most 1048576: NARROWER than '..Said'. Prove '..Said' where nothing that the law and all that it calls make is longer than what came in: it says more and counts as full. Else prove '..UptoSaid'. A law counts once. -/
mutual
def uptoBulk {H : Type} : DataW H → Nat
  | .lit (.string bytes) => bytes.length + 1
  | .lit _ => 1
  | .nil => 1
  | .ptr d => uptoBulk d + 1
  | .slice elems spare => uptoBulkAll elems + uptoBulkAll spare + 1
  | .agg parts => uptoBulkAll parts + 1
  | .iface _ d => uptoBulk d + 1
  | .map entries => uptoBulkEntries entries + 1
  | .held _ => 1
def uptoBulkAll {H : Type} : List (DataW H) → Nat
  | [] => 0
  | d :: r => uptoBulk d + uptoBulkAll r
def uptoBulkEntries {H : Type} : List (Lit × DataW H) → Nat
  | [] => 0
  | x :: r => uptoBulkEntry x + uptoBulkEntries r
def uptoBulkEntry {H : Type} : Lit × DataW H → Nat
  | (.string bytes, d) => bytes.length + uptoBulk d + 1
  | (_, d) => uptoBulk d + 1
 end
def uptoSmall : (H : Type) → List (DataW H) → Bool := fun _ ds => decide (uptoBulkAll ds ≤ 1048576)
def OpenSpec.upto (s : _root_.Go.ChangeSpec) : _root_.Go.OpenSpec := { _root_.Go.OpenSpec.ofChange s with cond := some uptoSmall }

/-- 'comblaw01.GramParses', WHERE WHAT IT READS IS OF BULK AT MOST 1048576: true; the input reads as it did. -/
def gramParsesUptoRow : OpenClaim := { program := "ytonkcljapkeidaa", sum := "f412e274932b98eefd415c39b208b1ca960ce131dce203203ede60153df530b5", func := "comb/comblaw01.GramParses", spec := "gramParses", inPlace := ["internal/abi.NoEscape"], unfollowed := true, recurses := true, apart := false, narrowed := true }
def GramParsesUptoSaid : Prop := gramParsesUptoRow.holds Try.pinned (OpenSpec.upto gramParsesSpec)

/-- 'comblaw01.GramPrints', WHERE WHAT IT READS IS OF BULK AT MOST 1048576: true; the input reads as it did. -/
def gramPrintsUptoRow : OpenClaim := { program := "ytonkcljapkeidaa", sum := "f412e274932b98eefd415c39b208b1ca960ce131dce203203ede60153df530b5", func := "comb/comblaw01.GramPrints", spec := "gramPrints", inPlace := ["internal/abi.NoEscape"], unfollowed := true, recurses := true, apart := false, narrowed := true }
def GramPrintsUptoSaid : Prop := gramPrintsUptoRow.holds Try.pinned (OpenSpec.upto gramPrintsSpec)

/-- 'comblaw01.GramBack', WHERE WHAT IT READS IS OF BULK AT MOST 1048576: true; the input reads as it did. -/
def gramBackUptoRow : OpenClaim := { program := "ytonkcljapkeidaa", sum := "f412e274932b98eefd415c39b208b1ca960ce131dce203203ede60153df530b5", func := "comb/comblaw01.GramBack", spec := "gramBack", inPlace := ["internal/abi.NoEscape"], unfollowed := true, recurses := true, apart := false, narrowed := true }
def GramBackUptoSaid : Prop := gramBackUptoRow.holds Try.pinned (OpenSpec.upto gramBackSpec)

/-- 'comblaw01.GramJoined', WHERE WHAT IT READS IS OF BULK AT MOST 1048576: true; the input reads as it did. -/
def gramJoinedUptoRow : OpenClaim := { program := "ytonkcljapkeidaa", sum := "f412e274932b98eefd415c39b208b1ca960ce131dce203203ede60153df530b5", func := "comb/comblaw01.GramJoined", spec := "gramJoined", inPlace := ["internal/abi.NoEscape"], unfollowed := true, recurses := true, apart := false, narrowed := true }
def GramJoinedUptoSaid : Prop := gramJoinedUptoRow.holds Try.pinned (OpenSpec.upto gramJoinedSpec)

/-- 'comblaw01.GramOwn', WHERE WHAT IT READS IS OF BULK AT MOST 1048576: true; the input reads as it did. -/
def gramOwnUptoRow : OpenClaim := { program := "ytonkcljapkeidaa", sum := "f412e274932b98eefd415c39b208b1ca960ce131dce203203ede60153df530b5", func := "comb/comblaw01.GramOwn", spec := "gramOwn", inPlace := ["internal/abi.NoEscape"], unfollowed := true, recurses := true, apart := false, narrowed := true }
def GramOwnUptoSaid : Prop := gramOwnUptoRow.holds Try.pinned (OpenSpec.upto gramOwnSpec)

/-- 'comblaw01.GramRemarks', WHERE WHAT IT READS IS OF BULK AT MOST 1048576: true; the input reads as it did. -/
def gramRemarksUptoRow : OpenClaim := { program := "ytonkcljapkeidaa", sum := "f412e274932b98eefd415c39b208b1ca960ce131dce203203ede60153df530b5", func := "comb/comblaw01.GramRemarks", spec := "gramRemarks", inPlace := ["internal/abi.NoEscape"], unfollowed := true, recurses := true, apart := false, narrowed := true }
def GramRemarksUptoSaid : Prop := gramRemarksUptoRow.holds Try.pinned (OpenSpec.upto gramRemarksSpec)

end Rows
end Go.Proofs.Ytonkcljapkeidaa

import Derived.Test.YtonkcljapkeidaaC1
import Derived.Test.YtonkcljapkeidaaB1
import Derived.Deep.QuietTactic
import Derived.BigQuiet
namespace Go.Proofs.Ytonkcljapkeidaa
open Go.RowKit
open Lx (Tk)
open Tr
namespace Lx
def punct (c : Int) : Bool := decide (c = 61 ∨ c = 59 ∨ c = 124 ∨ c = 40 ∨ c = 41 ∨ c = 42 ∨ c = 43 ∨ c = 63)
def known (t : ByteArray) : Bool := decide (byteAt t 0 = 37) || wordB (byteAt t 0) || punct (byteAt t 0)
/-- What the document's reader has as its sign. -/
def refW (t : ByteArray) : ByteArray := if known t = true then t else noText
def refEnd (s : ByteArray) (i : Nat) : Nat := wordEnd s (if byteAt s i = 37 then i + 1 else i)
def refSign (s : ByteArray) (i : Nat) : ByteArray := if i < s.size then s.extract i (if refEnd s i = i ∧ punct (byteAt s i) = true then i + 1 else refEnd s i) else noText
theorem byteAt_extract (s : ByteArray) (i j : Nat) (h : i < j) (hj : j ≤ s.size) : byteAt (s.extract i j) 0 = byteAt s i := by
  rw [byteAt_eq s i (by omega), byteAt_eq (s.extract i j) 0 (by rw [ByteArray.size_extract]; omega)]
  rw [ByteArray.getElem_extract]
  simp
theorem refEnd_bd {s : ByteArray} {i : Nat} (h : i < s.size) : i ≤ refEnd s i ∧ refEnd s i ≤ s.size := by
  have h1 := wordEnd_bd (s := s) (i := if byteAt s i = 37 then i + 1 else i) (by split <;> omega)
  unfold refEnd
  split at h1 <;> simp_all <;> omega
theorem refEnd_known {s : ByteArray} {i : Nat} (h : i < s.size) : refEnd s i = i ↔ (byteAt s i ≠ 37 ∧ wordB (byteAt s i) = false) := by
  unfold refEnd
  by_cases h37 : byteAt s i = 37
  · rw [if_pos h37]
    have := wordEnd_bd (s := s) (i := i + 1) (by omega)
    constructor
    · intro e; omega
    · intro e; exact absurd h37 e.1
  · rw [if_neg h37, wordEnd_step h]
    constructor
    · intro e
      refine ⟨h37, ?_⟩
      cases hw : wordB (byteAt s i)
      · rfl
      · rw [hw, if_pos rfl] at e
        have := wordEnd_bd (s := s) (i := i + 1) (by omega)
        omega
    · intro e
      rw [e.2]; simp
theorem refSign_eq {s : ByteArray} {i : Nat} (h : i ≤ s.size) : refSign s i = refW (hd (lexAt s i)) := by
  unfold refSign
  by_cases hi : i < s.size
  · rw [if_pos hi, lexAt_step hi]
    show _ = refW (s.extract i (signEnd s i))
    have hs := signEnd_bd hi
    have hr := refEnd_bd hi
    have hk := refEnd_known hi
    have hb := byteAt_extract s i (signEnd s i) hs.1 hs.2
    unfold refW known
    rw [hb]
    have he : signEnd s i = max (refEnd s i) (i + 1) := rfl
    by_cases hz : refEnd s i = i
    · obtain ⟨h1, h2⟩ := hk.1 hz
      rw [decide_eq_false h1, h2]
      cases hp : punct (byteAt s i)
      · rw [if_neg (by simp), hz]
        simp only [Bool.or_self, Bool.false_eq_true, if_false]
        apply ByteArray.ext
        simp [noText]
      · rw [if_pos ⟨hz, rfl⟩, he, hz]
        simp
    · have hn : ¬ (byteAt s i ≠ 37 ∧ wordB (byteAt s i) = false) := fun e => hz (hk.2 e)
      rw [if_neg (fun e => hz e.1), he]
      have hmax : max (refEnd s i) (i + 1) = refEnd s i := by omega
      rw [hmax, if_pos]
      by_cases h37 : byteAt s i = 37
      · rw [decide_eq_true h37]; simp
      · cases hw : wordB (byteAt s i)
        · exact absurd ⟨h37, hw⟩ hn
        · simp
  · rw [if_neg hi, lexAt_done (by omega)]
    rfl
end Lx
end Go.Proofs.Ytonkcljapkeidaa

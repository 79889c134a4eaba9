import Derived.WalkKit
namespace Go.Proofs.Ytonkcljapkeidaa
open Go Go.RowKit
namespace Lx

/-- The byte at a place (0 behind the end). -/
def byteAt (s : ByteArray) (i : Nat) : Int := ((s.data.getD i 0).toNat : Int)
theorem byteAt_eq (s : ByteArray) (i : Nat) (h : i < s.size) : byteAt s i = (s[i].toNat : Int) := by
  unfold byteAt
  have h' : i < s.data.size := h
  rw [Array.getD_eq_getD_getElem?, Array.getElem?_eq_getElem h']
  rfl
theorem byteAt_bd (s : ByteArray) (i : Nat) : 0 ≤ byteAt s i ∧ byteAt s i ≤ 255 := by
  unfold byteAt
  have := (s.data.getD i 0).toNat_lt
  omega

/-- where a gap ends -/
def gapTo (s : ByteArray) : Nat → Nat → Bool → Nat
  | 0, i, _ => i
  | f + 1, i, r =>
    if byteAt s i = 10 then gapTo s f (i + 1) false
    else if byteAt s i = 35 then gapTo s f (i + 1) true
    else if r = false ∧ byteAt s i ≠ 32 ∧ byteAt s i ≠ 9 then i
    else gapTo s f (i + 1) r
def gapEnd (s : ByteArray) (i : Nat) (r : Bool) : Nat := gapTo s (s.size - i) i r
theorem gapEnd_done {s : ByteArray} {i : Nat} (r : Bool) (h : s.size ≤ i) : gapEnd s i r = i := by
  unfold gapEnd; rw [show s.size - i = 0 by omega]; rfl
theorem gapEnd_step {s : ByteArray} {i : Nat} (r : Bool) (h : i < s.size) : gapEnd s i r =
    if byteAt s i = 10 then gapEnd s (i + 1) false
    else if byteAt s i = 35 then gapEnd s (i + 1) true
    else if r = false ∧ byteAt s i ≠ 32 ∧ byteAt s i ≠ 9 then i
    else gapEnd s (i + 1) r := by
  unfold gapEnd
  rw [show s.size - i = (s.size - (i + 1)) + 1 by omega]
  rfl
theorem gap_nl {s : ByteArray} {k : Nat} {b : Bool} {r : Nat} (h : k < s.size) (hg : gapEnd s k b = r) (hc : (s[k].toNat : Int) = 10) : gapEnd s (k + 1) false = r := by
  rw [gapEnd_step b h, byteAt_eq s k h, if_pos hc] at hg; exact hg
theorem gap_hash {s : ByteArray} {k : Nat} {b : Bool} {r : Nat} (h : k < s.size) (hg : gapEnd s k b = r) (hc : (s[k].toNat : Int) = 35) : gapEnd s (k + 1) true = r := by
  rw [gapEnd_step b h, byteAt_eq s k h, if_neg (by omega), if_pos hc] at hg; exact hg
theorem gap_rem {s : ByteArray} {k : Nat} {r : Nat} (h : k < s.size) (hg : gapEnd s k true = r) (hc : (s[k].toNat : Int) ≠ 10) (hd : (s[k].toNat : Int) ≠ 35) : gapEnd s (k + 1) true = r := by
  rw [gapEnd_step true h, byteAt_eq s k h, if_neg hc, if_neg hd, if_neg (by simp)] at hg; exact hg
theorem gap_blank {s : ByteArray} {k : Nat} {r : Nat} (h : k < s.size) (hg : gapEnd s k false = r) (hd : (s[k].toNat : Int) = 32 ∨ (s[k].toNat : Int) = 9) : gapEnd s (k + 1) false = r := by
  rw [gapEnd_step false h, byteAt_eq s k h, if_neg (by omega), if_neg (by omega), if_neg (by omega)] at hg; exact hg
theorem gap_stop {s : ByteArray} {k : Nat} {r : Nat} (h : k < s.size) (hg : gapEnd s k false = r) (h1 : (s[k].toNat : Int) ≠ 10) (h2 : (s[k].toNat : Int) ≠ 35) (h3 : (s[k].toNat : Int) ≠ 32) (h4 : (s[k].toNat : Int) ≠ 9) : k = r := by
  rw [gapEnd_step false h, byteAt_eq s k h, if_neg h1, if_neg h2, if_pos ⟨rfl, h3, h4⟩] at hg; exact hg
theorem gapTo_bd (s : ByteArray) : ∀ (f i : Nat) (r : Bool), i ≤ gapTo s f i r ∧ gapTo s f i r ≤ i + f
  | 0, i, r => by simp [gapTo]
  | f + 1, i, r => by
    have h1 := gapTo_bd s f (i + 1) false
    have h2 := gapTo_bd s f (i + 1) true
    have h3 := gapTo_bd s f (i + 1) r
    unfold gapTo
    split
    · omega
    · split
      · omega
      · split <;> omega
theorem gapEnd_bd {s : ByteArray} {i : Nat} (r : Bool) (h : i ≤ s.size) : i ≤ gapEnd s i r ∧ gapEnd s i r ≤ s.size := by
  have := gapTo_bd s (s.size - i) i r
  unfold gapEnd; omega

def small (c : Int) : Bool := decide (97 ≤ c ∧ c ≤ 122)
def capital (c : Int) : Bool := decide (65 ≤ c ∧ c ≤ 90)
def digit (c : Int) : Bool := decide (48 ≤ c ∧ c ≤ 57)
def wordB (c : Int) : Bool := small c || capital c || digit c

def wordTo (s : ByteArray) : Nat → Nat → Nat
  | 0, i => i
  | f + 1, i => if wordB (byteAt s i) = true then wordTo s f (i + 1) else i
def wordEnd (s : ByteArray) (i : Nat) : Nat := wordTo s (s.size - i) i
theorem wordEnd_done {s : ByteArray} {i : Nat} (h : s.size ≤ i) : wordEnd s i = i := by
  unfold wordEnd; rw [show s.size - i = 0 by omega]; rfl
theorem wordEnd_step {s : ByteArray} {i : Nat} (h : i < s.size) : wordEnd s i = if wordB (byteAt s i) = true then wordEnd s (i + 1) else i := by
  unfold wordEnd
  rw [show s.size - i = (s.size - (i + 1)) + 1 by omega]
  rfl
theorem wordTo_bd (s : ByteArray) : ∀ (f i : Nat), i ≤ wordTo s f i ∧ wordTo s f i ≤ i + f
  | 0, i => by simp [wordTo]
  | f + 1, i => by
    have h1 := wordTo_bd s f (i + 1)
    unfold wordTo
    split <;> omega
theorem wordEnd_bd {s : ByteArray} {i : Nat} (h : i ≤ s.size) : i ≤ wordEnd s i ∧ wordEnd s i ≤ s.size := by
  have := wordTo_bd s (s.size - i) i
  unfold wordEnd; omega

/-- where the sign that begins at i ends -/
def signEnd (s : ByteArray) (i : Nat) : Nat := max (wordEnd s (if byteAt s i = 37 then i + 1 else i)) (i + 1)
theorem signEnd_bd {s : ByteArray} {i : Nat} (h : i < s.size) : i < signEnd s i ∧ signEnd s i ≤ s.size := by
  have h1 := wordEnd_bd (s := s) (i := if byteAt s i = 37 then i + 1 else i) (by split <;> omega)
  unfold signEnd; omega
end Lx
end Go.Proofs.Ytonkcljapkeidaa
namespace Go.Proofs.Ytonkcljapkeidaa
open Go Go.RowKit
namespace Lx
/-- A sign: its text and its place. -/
abbrev Tk := ByteArray × Nat
def nextAt (s : ByteArray) (i : Nat) : Nat := gapEnd s (signEnd s i) false
def lexTo (s : ByteArray) : Nat → Nat → List Tk
  | 0, i => [((⟨#[]⟩ : ByteArray), i)]
  | f + 1, i => if i < s.size then (s.extract i (signEnd s i), i) :: lexTo s f (nextAt s i) else [((⟨#[]⟩ : ByteArray), i)]
def lexAt (s : ByteArray) (i : Nat) : List Tk := lexTo s (s.size - i) i
def lex (s : ByteArray) : List Tk := lexAt s (gapEnd s 0 false)
theorem nextAt_bd {s : ByteArray} {i : Nat} (h : i < s.size) : i < nextAt s i ∧ nextAt s i ≤ s.size := by
  have h1 := signEnd_bd h
  have h2 := gapEnd_bd (s := s) (i := signEnd s i) false h1.2
  unfold nextAt; omega
theorem lexTo_fuel (s : ByteArray) : ∀ (f g i : Nat), s.size - i ≤ f → s.size - i ≤ g → lexTo s f i = lexTo s g i
  | 0, 0, i, _, _ => rfl
  | 0, g + 1, i, hf, _ => by simp only [lexTo]; rw [if_neg (by omega)]
  | f + 1, 0, i, _, hg => by simp only [lexTo]; rw [if_neg (by omega)]
  | f + 1, g + 1, i, hf, hg => by
    simp only [lexTo]
    by_cases h : i < s.size
    · have := nextAt_bd h
      rw [if_pos h, if_pos h, lexTo_fuel s f g (nextAt s i) (by omega) (by omega)]
    · rw [if_neg h, if_neg h]
theorem lexAt_done {s : ByteArray} {i : Nat} (h : s.size ≤ i) : lexAt s i = [((⟨#[]⟩ : ByteArray), i)] := by
  unfold lexAt; rw [show s.size - i = 0 by omega]; rfl
theorem lexAt_step {s : ByteArray} {i : Nat} (h : i < s.size) : lexAt s i = (s.extract i (signEnd s i), i) :: lexAt s (nextAt s i) := by
  have hb := nextAt_bd h
  unfold lexAt
  rw [show s.size - i = (s.size - i - 1) + 1 by omega]
  simp only [lexTo]
  rw [if_pos h, lexTo_fuel s _ (s.size - nextAt s i) (nextAt s i) (by omega) (by omega)]
theorem lexTo_len (s : ByteArray) : ∀ (f i : Nat), (lexTo s f i).length ≤ f + 1
  | 0, i => by simp [lexTo]
  | f + 1, i => by
    have := lexTo_len s f (nextAt s i)
    simp only [lexTo]
    split <;> simp <;> omega
theorem lexAt_len (s : ByteArray) (i : Nat) : (lexAt s i).length ≤ s.size + 1 := by
  have := lexTo_len s (s.size - i) i
  unfold lexAt; omega
def tkCells (l : List Tk) : List Value := l.flatMap fun t => [.string t.1, .int .i64 (t.2 : Int)]
theorem tkCells_append (a b : List Tk) : tkCells (a ++ b) = tkCells a ++ tkCells b := by simp [tkCells]
theorem tkCells_len (a : List Tk) : (tkCells a).length = a.length * 2 := by
  induction a with
  | nil => rfl
  | cons t l ih => simp only [tkCells, List.flatMap_cons, List.length_append, List.length_cons, List.length_nil] at *; omega
theorem tkCells_get (l : List Tk) (k : Nat) (t : Tk) (h : l[k]? = some t) : (tkCells l)[k * 2]? = some (.string t.1) ∧ (tkCells l)[k * 2 + 1]? = some (.int .i64 (t.2 : Int)) := by
  induction l generalizing k with
  | nil => simp at h
  | cons u l ih =>
    cases k with
    | zero => simp at h; subst h; simp [tkCells]
    | succ k =>
      have h1 := ih k (by simpa using h)
      have e : tkCells (u :: l) = [.string u.1, .int .i64 (u.2 : Int)] ++ tkCells l := by simp [tkCells]
      rw [e, List.getElem?_append_right (by simp; omega), List.getElem?_append_right (by simp; omega)]
      simp only [List.length_cons, List.length_nil]
      rw [show (k + 1) * 2 - (0 + 1 + 1) = k * 2 by omega, show (k + 1) * 2 + 1 - (0 + 1 + 1) = k * 2 + 1 by omega]
      exact h1
end Lx
end Go.Proofs.Ytonkcljapkeidaa

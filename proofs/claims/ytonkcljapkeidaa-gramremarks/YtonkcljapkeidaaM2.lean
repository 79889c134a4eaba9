import Derived.Test.YtonkcljapkeidaaM1
namespace Go.Proofs.Ytonkcljapkeidaa
open Go.RowKit
open Lx (Tk)
open Tr
namespace Lx
/-- whether the document's form has a blank ahead of a sign -/
def blankR (i : Nat) (l w : ByteArray) : Bool :=
  decide (0 < i) && !(l.toList == [59]) && !(l.toList == [40]) && !(w.toList == [59]) && !(w.toList == [41]) && !(w.toList == [42]) && !(w.toList == [43]) && !(w.toList == [63])
def blankL (b : Bool) : List UInt8 := if b = true then [32] else []
def lineL (b : Bool) : List UInt8 := if b = true then [10] else []
/-- the document's form of signs, from the one of number i on -/
def refForm : Nat → ByteArray → List ByteArray → List UInt8
  | _, _, [] => []
  | i, l, w :: ws => blankL (blankR i l w) ++ (w.data.toList ++ (lineL (w.toList == [59]) ++ refForm (i + 1) w ws))
def formB : ByteArray → List ByteArray → List UInt8
  | _, [] => []
  | b, w :: ws => (gapOf b w).data.toList ++ (w.data.toList ++ formB w ws)
theorem formL_B : ∀ (b : ByteArray) (ts : List Tk), formL b ts = formB b (ts.map Prod.fst)
  | _, [] => rfl
  | b, t :: ts => by simp only [formL, List.map_cons, formB, formL_B t.1 ts]
theorem text_eq {a : ByteArray} {l : List UInt8} (h : (a.toList == l) = true) : a = ⟨l.toArray⟩ := by
  have := eq_of_beq h
  rw [ByteArray.toList_eq] at this
  exact ByteArray.ext (Array.ext' (by simpa using this))
theorem text_ne {a : ByteArray} (h : a ≠ noText) : (a.toList == []) = false := by
  cases he : (a.toList == [])
  · rfl
  · exact absurd (text_eq he) h
theorem gapOf_ref {i : Nat} {b w : ByteArray} (hi : i = 0 ↔ b = noText) (hw : w ≠ noText) : (gapOf b w).data.toList = lineL (b.toList == [59]) ++ blankL (blankR i b w) := by
  have hw0 := text_ne hw
  unfold gapOf blankR
  cases h1 : (b.toList == [59])
  · by_cases hb : b = noText
    · have : i = 0 := hi.2 hb
      subst this
      have h2 : (b.toList == []) = true := by rw [hb]; simp [noText]
      rw [h2]; rfl
    · have h2 := text_ne hb
      have h3 : 0 < i := Nat.pos_of_ne_zero fun e => hb (hi.1 e)
      rw [h2, hw0, decide_eq_true h3]
      cases h4 : (b.toList == [40])
      · cases h5 : (w.toList == [59]) <;> cases h6 : (w.toList == [41]) <;> cases h7 : (w.toList == [42]) <;> cases h8 : (w.toList == [43]) <;> cases h9 : (w.toList == [63]) <;> rfl
      · rfl
  · simp [lineL, blankL]
theorem form_ref : ∀ (ws : List ByteArray) (i : Nat) (b : ByteArray), (i = 0 ↔ b = noText) → (∀ w ∈ ws, w ≠ noText) → formB b (ws ++ [noText]) = lineL (b.toList == [59]) ++ refForm i b ws
  | [], i, b, _, _ => by
    simp only [List.nil_append, formB, refForm, List.append_nil]
    unfold gapOf
    cases h1 : (b.toList == [59])
    · have h2 : (noText.toList == []) = true := by decide +kernel
      rw [h2]; simp [lineL, noText]
    · simp [lineL, noText]
  | w :: ws, i, b, hi, hw => by
    have h0 : w ≠ noText := hw w (by simp)
    have ih := form_ref ws (i + 1) w ⟨fun e => by omega, fun e => absurd e h0⟩ (fun x hx => hw x (by simp [hx]))
    simp only [List.cons_append, formB, refForm]
    rw [ih, gapOf_ref hi h0]
    simp only [List.append_assoc]
theorem pRules_end : ∀ (f : Nat) (ts : List Tk) (acc l : List Rl) (ts' : List Tk), ts.length ≤ f → pRules f ts acc = .ok (l, ts') → hd ts' = noText
  | 0, ts, acc, l, ts', hl, h => by
    simp only [pRules, Except.ok.injEq, Prod.mk.injEq] at h
    cases ts with
    | nil => rw [← h.2]; rfl
    | cons t r => simp at hl
  | f + 1, ts, acc, l, ts', hl, h => by
    simp only [pRules] at h
    split at h
    · rename_i h0
      simp only [Except.ok.injEq, Prod.mk.injEq] at h
      rw [← h.2]; exact h0
    · rename_i h0
      cases hr : pRule ts with
      | error e => rw [hr] at h; cases h
      | ok y =>
        obtain ⟨x, ts1⟩ := y
        rw [hr] at h
        have h1 := pRule_len hr
        have h2 : ts.tail.length + 1 ≤ ts.length := by
          cases ts with
          | nil => exact absurd rfl h0
          | cons t r => simp
        exact pRules_end f ts1 _ l ts' (by omega) h
theorem pGrammar_end {ts ts' : List Tk} {g : Gr} (h : pGrammar ts = .ok (g, ts')) : hd ts' = noText := by
  unfold pGrammar at h
  cases h1 : pLevels ts.length ts [] with
  | error e => rw [h1] at h; cases h
  | ok y =>
    obtain ⟨lv, ts1⟩ := y
    rw [h1] at h
    simp only at h
    cases h2 : pRule ts1 with
    | error e => rw [h2] at h; cases h
    | ok y =>
      obtain ⟨x, ts2⟩ := y
      rw [h2] at h
      simp only at h
      cases h3 : pRules ts2.length ts2 [x] with
      | error e => rw [h3] at h; cases h
      | ok y =>
        obtain ⟨l, ts3⟩ := y
        rw [h3] at h
        simp only [Except.ok.injEq, Prod.mk.injEq] at h
        rw [← h.2]
        exact pRules_end _ _ _ _ _ (Nat.le_refl _) h3
theorem WF.last {ts : List Tk} (h : WF ts) (h0 : hd ts = noText) : ts.map Prod.fst = [noText] := by
  match ts, h with
  | [t], _ => exact congrArg (· :: []) h0
  | t :: u :: r, h => exact absurd h0 h.1
theorem WF.some : ∀ {ts : List Tk} {sg : List ByteArray}, WF ts → ts.map Prod.fst = sg ++ [noText] → ∀ w ∈ sg, w ≠ noText
  | [], _, h, _, _, _ => h.elim
  | [t], sg, h, e, w, hw => by
    cases sg with
    | nil => cases hw
    | cons a l => have := congrArg List.length e; simp at this
  | t :: u :: r, sg, h, e, w, hw => by
    cases sg with
    | nil => cases hw
    | cons a l =>
      simp only [List.map_cons, List.cons_append, List.cons.injEq] at e
      rcases List.mem_cons.1 hw with rfl | hw
      · rw [← e.1]; exact h.1
      · exact WF.some (ts := u :: r) h.2 (by simpa using e.2) w hw
/-- the document's form of the signs that were passed is the plain form -/
theorem refForm_lex {s : ByteArray} {sg : List ByteArray} {ts' : List Tk} (hh : sg ++ ts'.map Prod.fst = (lex s).map Prod.fst) (hw : WF ts') (h0 : hd ts' = noText) : refForm 0 noText sg = formL noText (lex s) := by
  rw [WF.last hw h0] at hh
  rw [formL_B, ← hh, form_ref sg 0 noText ⟨fun _ => rfl, fun _ => rfl⟩ (WF.some (lex_wf s) hh.symm)]
  have : (noText.toList == [59]) = false := by decide +kernel
  rw [this]; rfl
end Lx
end Go.Proofs.Ytonkcljapkeidaa

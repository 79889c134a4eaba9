import Derived.Test.YtonkcljapkeidaaN1
namespace Go.Proofs.Ytonkcljapkeidaa
open Go.RowKit
open Lx (Tk)
open Tr
namespace Lx
/-- whether the document's form has a blank ahead of a sign -/
def blankR (i : Nat) (l w : ByteArray) : Bool :=
  decide (0 < i) && !(l.toList == [59]) && !(l.toList == [40]) && !(w.toList == [59]) && !(w.toList == [41]) && !(w.toList == [42]) && !(w.toList == [43]) && !(w.toList == [63])
def blankL (b : Bool) : List UInt8 := if b = true then [32] else []
def lineL (b : Bool) : List UInt8 := if b = true then [10] else []
/-- the document's form of signs, from the one of number i on -/
def refForm : Nat → ByteArray → List ByteArray → List UInt8
  | _, _, [] => []
  | i, l, w :: ws => blankL (blankR i l w) ++ (w.data.toList ++ (lineL (w.toList == [59]) ++ refForm (i + 1) w ws))
def formB : ByteArray → List ByteArray → List UInt8
  | _, [] => []
  | b, w :: ws => (gapOf b w).data.toList ++ (w.data.toList ++ formB w ws)
theorem formL_B : ∀ (b : ByteArray) (ts : List Tk), formL b ts = formB b (ts.map Prod.fst)
  | _, [] => rfl
  | b, t :: ts => by simp only [formL, List.map_cons, formB, formL_B t.1 ts]
theorem text_eq {a : ByteArray} {l : List UInt8} (h : (a.toList == l) = true) : a = ⟨l.toArray⟩ := by
  have := eq_of_beq h
  rw [ByteArray.toList_eq] at this
  exact ByteArray.ext (Array.ext' (by simpa using this))
theorem text_ne {a : ByteArray} (h : a ≠ noText) : (a.toList == []) = false := by
  cases he : (a.toList == [])
  · rfl
  · exact absurd (text_eq he) h
theorem gapOf_ref {i : Nat} {b w : ByteArray} (hi : i = 0 ↔ b = noText) (hw : w ≠ noText) : (gapOf b w).data.toList = lineL (b.toList == [59]) ++ blankL (blankR i b w) := by
  have hw0 := text_ne hw
  unfold gapOf blankR
  cases h1 : (b.toList == [59])
  · by_cases hb : b = noText
    · have : i = 0 := hi.2 hb
      subst this
      have h2 : (b.toList == []) = true := by rw [hb]; simp [noText]
      rw [h2]; rfl
    · have h2 := text_ne hb
      have h3 : 0 < i := Nat.pos_of_ne_zero fun e => hb (hi.1 e)
      rw [h2, hw0, decide_eq_true h3]
      cases h4 : (b.toList == [40])
      · cases h5 : (w.toList == [59]) <;> cases h6 : (w.toList == [41]) <;> cases h7 : (w.toList == [42]) <;> cases h8 : (w.toList == [43]) <;> cases h9 : (w.toList == [63]) <;> rfl
      · rfl
  · simp [lineL, blankL]
theorem form_ref : ∀ (ws : List ByteArray) (i : Nat) (b : ByteArray), (i = 0 ↔ b = noText) → (∀ w ∈ ws, w ≠ noText) → formB b (ws ++ [noText]) = lineL (b.toList == [59]) ++ refForm i b ws
  | [], i, b, _, _ => by
    simp only [List.nil_append, formB, refForm, List.append_nil]
    unfold gapOf
    cases h1 : (b.toList == [59])
    · have h2 : (noText.toList == []) = true := by decide +kernel
      rw [h2]; simp [lineL, noText]
    · simp [lineL, noText]
  | w :: ws, i, b, hi, hw => by
    have h0 : w ≠ noText := hw w (by simp)
    have ih := form_ref ws (i + 1) w ⟨fun e => by omega, fun e => absurd e h0⟩ (fun x hx => hw x (by simp [hx]))
    simp only [List.cons_append, formB, refForm]
    rw [ih, gapOf_ref hi h0]
    simp only [List.append_assoc]
theorem pRules_end : ∀ (f : Nat) (ts : List Tk) (acc l : List Rl) (ts' : List Tk), ts.length ≤ f → pRules f ts acc = .ok (l, ts') → hd ts' = noText
  | 0, ts, acc, l, ts', hl, h => by
    simp only [pRules, Except.ok.injEq, Prod.mk.injEq] at h
    cases ts with
    | nil => rw [← h.2]; rfl
    | cons t r => simp at hl
  | f + 1, ts, acc, l, ts', hl, h => by
    simp only [pRules] at h
    split at h
    · rename_i h0
      simp only [Except.ok.injEq, Prod.mk.injEq] at h
      rw [← h.2]; exact h0
    · rename_i h0
      cases hr : pRule ts with
      | error e => rw [hr] at h; cases h
      | ok y =>
        obtain ⟨x, ts1⟩ := y
        rw [hr] at h
        have h1 := pRule_len hr
        have h2 : ts.tail.length + 1 ≤ ts.length := by
          cases ts with
          | nil => exact absurd rfl h0
          | cons t r => simp
        exact pRules_end f ts1 _ l ts' (by omega) h
theorem pGrammar_end {ts ts' : List Tk} {g : Gr} (h : pGrammar ts = .ok (g, ts')) : hd ts' = noText := by
  unfold pGrammar at h
  cases h1 : pLevels ts.length ts [] with
  | error e => rw [h1] at h; cases h
  | ok y =>
    obtain ⟨lv, ts1⟩ := y
    rw [h1] at h
    simp only at h
    cases h2 : pRule ts1 with
    | error e => rw [h2] at h; cases h
    | ok y =>
      obtain ⟨x, ts2⟩ := y
      rw [h2] at h
      simp only at h
      cases h3 : pRules ts2.length ts2 [x] with
      | error e => rw [h3] at h; cases h
      | ok y =>
        obtain ⟨l, ts3⟩ := y
        rw [h3] at h
        simp only [Except.ok.injEq, Prod.mk.injEq] at h
        rw [← h.2]
        exact pRules_end _ _ _ _ _ (Nat.le_refl _) h3
theorem WF.last {ts : List Tk} (h : WF ts) (h0 : hd ts = noText) : ts.map Prod.fst = [noText] := by
  match ts, h with
  | [t], _ => exact congrArg (· :: []) h0
  | t :: u :: r, h => exact absurd h0 h.1
theorem WF.some : ∀ {ts : List Tk} {sg : List ByteArray}, WF ts → ts.map Prod.fst = sg ++ [noText] → ∀ w ∈ sg, w ≠ noText
  | [], _, h, _, _, _ => h.elim
  | [t], sg, h, e, w, hw => by
    cases sg with
    | nil => cases hw
    | cons a l => have := congrArg List.length e; simp at this
  | t :: u :: r, sg, h, e, w, hw => by
    cases sg with
    | nil => cases hw
    | cons a l =>
      simp only [List.map_cons, List.cons_append, List.cons.injEq] at e
      rcases List.mem_cons.1 hw with rfl | hw
      · rw [← e.1]; exact h.1
      · exact WF.some (ts := u :: r) h.2 (by simpa using e.2) w hw
/-- the document's form of the signs that were passed is the plain form -/
theorem refForm_lex {s : ByteArray} {sg : List ByteArray} {ts' : List Tk} (hh : sg ++ ts'.map Prod.fst = (lex s).map Prod.fst) (hw : WF ts') (h0 : hd ts' = noText) : refForm 0 noText sg = formL noText (lex s) := by
  rw [WF.last hw h0] at hh
  rw [formL_B, ← hh, form_ref sg 0 noText ⟨fun _ => rfl, fun _ => rfl⟩ (WF.some (lex_wf s) hh.symm)]
  have : (noText.toList == [59]) = false := by decide +kernel
  rw [this]; rfl
end Lx
end Go.Proofs.Ytonkcljapkeidaa
namespace Go.Proofs.Ytonkcljapkeidaa
open Go.RowKit
namespace Lx
/-! The signs of a text, by the list of its bytes. -/
def bt (c : UInt8) : Int := (c.toNat : Int)
def wcB (c : UInt8) : Bool := wordB (bt c)
def gapL : List UInt8 → Bool → List UInt8
  | [], _ => []
  | c :: r, b => if bt c = 10 then gapL r false else if bt c = 35 then gapL r true else if b = false ∧ bt c ≠ 32 ∧ bt c ≠ 9 then c :: r else gapL r b
def signLen : List UInt8 → Nat
  | [] => 0
  | c :: r => if bt c = 37 then 1 + (r.takeWhile wcB).length else max ((c :: r).takeWhile wcB).length 1
def lexP : Nat → Nat → List UInt8 → List Tk
  | 0, o, _ => [(noText, o)]
  | _ + 1, o, [] => [(noText, o)]
  | f + 1, o, c :: r => (⟨((c :: r).take (signLen (c :: r))).toArray⟩, o) :: lexP f (o + ((c :: r).length - (gapL ((c :: r).drop (signLen (c :: r))) false).length)) (gapL ((c :: r).drop (signLen (c :: r))) false)
def bytes (s : ByteArray) : List UInt8 := s.data.toList
theorem bytes_len (s : ByteArray) : (bytes s).length = s.size := data_len s
theorem drop_cons {s : ByteArray} {i : Nat} (h : i < s.size) : ∃ c, (bytes s).drop i = c :: (bytes s).drop (i + 1) ∧ byteAt s i = bt c := by
  have h' : i < (bytes s).length := by rw [bytes_len]; exact h
  refine ⟨(bytes s)[i], List.drop_eq_getElem_cons h', ?_⟩
  rw [byteAt_eq s i h]
  rfl
theorem drop_nil {s : ByteArray} {i : Nat} (h : s.size ≤ i) : (bytes s).drop i = [] := List.drop_eq_nil_of_le (by rw [bytes_len]; exact h)
theorem gapTo_L (s : ByteArray) : ∀ (f i : Nat) (b : Bool), s.size - i ≤ f → i ≤ s.size → (bytes s).drop (gapTo s f i b) = gapL ((bytes s).drop i) b
  | 0, i, b, hf, hi => by
    rw [show gapTo s 0 i b = i from rfl, drop_nil (by omega)]; rfl
  | f + 1, i, b, hf, hi => by
    by_cases h : i < s.size
    · obtain ⟨c, h1, h2⟩ := drop_cons h
      have i1 := gapTo_L s f (i + 1) false (by omega) (by omega)
      have i2 := gapTo_L s f (i + 1) true (by omega) (by omega)
      have i3 := gapTo_L s f (i + 1) b (by omega) (by omega)
      rw [h1]
      simp only [gapTo, gapL, h2]
      split
      · exact i1
      · split
        · exact i2
        · split
          · exact h1
          · exact i3
    · have hz := gapTo_bd s (f + 1) i b
      rw [drop_nil (by omega), drop_nil (i := i) (by omega)]; rfl
theorem gapEnd_L {s : ByteArray} {i : Nat} (b : Bool) (hi : i ≤ s.size) : (bytes s).drop (gapEnd s i b) = gapL ((bytes s).drop i) b := gapTo_L s _ i b (Nat.le_refl _) hi
theorem wordTo_L (s : ByteArray) : ∀ (f i : Nat), s.size - i ≤ f → i ≤ s.size → s.size - i = f → wordTo s f i = i + (((bytes s).drop i).takeWhile wcB).length
  | 0, i, _, hi, hf => by
    rw [drop_nil (by omega)]; rfl
  | f + 1, i, _, hi, hf => by
    obtain ⟨c, h1, h2⟩ := drop_cons (s := s) (i := i) (by omega)
    rw [h1]
    simp only [wordTo, h2, List.takeWhile_cons]
    have ih := wordTo_L s f (i + 1) (by omega) (by omega) (by omega)
    cases hw : wcB c
    · rw [if_neg (by show ¬ wcB c = true; rw [hw]; decide)]; simp
    · rw [if_pos (by exact hw), ih]; simp; omega
theorem wordEnd_L {s : ByteArray} {i : Nat} (hi : i ≤ s.size) : wordEnd s i = i + (((bytes s).drop i).takeWhile wcB).length := wordTo_L s _ i (Nat.le_refl _) hi rfl
theorem signEnd_L {s : ByteArray} {i : Nat} (h : i < s.size) : signEnd s i = i + signLen ((bytes s).drop i) := by
  obtain ⟨c, h1, h2⟩ := drop_cons h
  unfold signEnd
  rw [h1]
  simp only [signLen, h2]
  split
  · rw [wordEnd_L (by omega)]; omega
  · rw [wordEnd_L (by omega), h1]; omega
theorem lexTo_P (s : ByteArray) : ∀ (f i : Nat), i ≤ s.size → lexTo s f i = lexP f i ((bytes s).drop i)
  | 0, i, _ => rfl
  | f + 1, i, hi => by
    by_cases h : i < s.size
    · obtain ⟨c, h1, h2⟩ := drop_cons h
      have hb := signEnd_bd h
      have hn := nextAt_bd h
      have hsE := signEnd_L h
      have hg := gapEnd_L (s := s) (i := signEnd s i) false hb.2
      have ih := lexTo_P s f (nextAt s i) hn.2
      have hlen := congrArg List.length hg
      rw [List.length_drop, bytes_len] at hlen
      rw [hsE, ← List.drop_drop, ← hsE] at hg hlen
      have hl0 : ((bytes s).drop i).length = s.size - i := by rw [List.length_drop, bytes_len]
      simp only [lexTo]
      rw [if_pos h, ih]
      rw [h1] at hsE hg hlen hl0
      rw [h1, lexP]
      have e1 : s.extract i (signEnd s i) = ⟨((c :: (bytes s).drop (i + 1)).take (signLen (c :: (bytes s).drop (i + 1)))).toArray⟩ := by
        refine ByteArray.ext (Array.ext' ?_)
        rw [Lib.extract_data]
        show ((bytes s).drop i).take _ = _
        rw [h1, hsE]
        simp
      have hne : nextAt s i = i + ((c :: (bytes s).drop (i + 1)).length - (gapL ((c :: (bytes s).drop (i + 1)).drop (signLen (c :: (bytes s).drop (i + 1)))) false).length) := by
        have e3 : gapEnd s (signEnd s i) false = nextAt s i := rfl
        rw [e3] at hlen
        omega
      rw [e1]
      refine congrArg _ ?_
      have e4 : (bytes s).drop (nextAt s i) = gapL ((c :: (bytes s).drop (i + 1)).drop (signLen (c :: (bytes s).drop (i + 1)))) false := hg
      rw [e4, hne]
    · have e0 := drop_nil (s := s) (i := i) (by omega)
      rw [e0]
      simp only [lexTo, lexP]
      rw [if_neg h]; rfl
theorem lex_P (s : ByteArray) : lex s = lexP (s.size - gapEnd s 0 false) (gapEnd s 0 false) (gapL (bytes s) false) := by
  have hb := gapEnd_bd (s := s) (i := 0) false (Nat.zero_le _)
  have h1 := gapEnd_L (s := s) (i := 0) false (Nat.zero_le _)
  unfold lex lexAt
  rw [lexTo_P s _ _ hb.2, h1]; rfl
end Lx
end Go.Proofs.Ytonkcljapkeidaa
namespace Go.Proofs.Ytonkcljapkeidaa
open Go.RowKit
namespace Lx
def ngap (c : UInt8) : Prop := bt c ≠ 10 ∧ bt c ≠ 35 ∧ bt c ≠ 32 ∧ bt c ≠ 9
/-- what a sign looks like -/
def Sig : List UInt8 → Prop
  | [] => False
  | c :: r => ngap c ∧ if bt c = 37 ∨ wcB c = true then ∀ x ∈ r, wcB x = true else r = []
/-- what may stand behind a sign -/
def Stop : List UInt8 → List UInt8 → Prop
  | _, [] => True
  | w, x :: _ => wcB x = false ∨ ∃ c, w = [c] ∧ bt c ≠ 37 ∧ wcB c = false
theorem wc37 {c : UInt8} (h : bt c = 37) : wcB c = false := by unfold wcB; rw [h]; decide
theorem takeWhile_stop {r t : List UInt8} (hr : ∀ x ∈ r, wcB x = true) (ht : t = [] ∨ ∃ x t', t = x :: t' ∧ wcB x = false) : ((r ++ t).takeWhile wcB).length = r.length := by
  induction r with
  | nil =>
    rcases ht with rfl | ⟨x, t', rfl, hx⟩
    · rfl
    · simp [hx]
  | cons c r ih =>
    have := ih (fun x hx => hr x (by simp [hx]))
    simp only [List.cons_append, List.takeWhile_cons, hr c (by simp), List.length_cons]
    simp [this]
theorem stop_head {w t : List UInt8} (h : Stop w t) (hw : ¬ ∃ c, w = [c] ∧ bt c ≠ 37 ∧ wcB c = false) : t = [] ∨ ∃ x t', t = x :: t' ∧ wcB x = false := by
  cases t with
  | nil => exact .inl rfl
  | cons x t' => exact .inr ⟨x, t', rfl, h.resolve_right hw⟩
theorem sign_len {w t : List UInt8} (h : Sig w) (hs : Stop w t) : signLen (w ++ t) = w.length := by
  cases w with
  | nil => exact h.elim
  | cons c r =>
    obtain ⟨_, hr⟩ := h
    simp only [List.cons_append, signLen]
    by_cases h37 : bt c = 37
    · rw [if_pos (.inl h37)] at hr
      rw [if_pos h37, takeWhile_stop hr (stop_head hs (fun ⟨d, e, h1, _⟩ => h1 (by cases e; exact h37)))]
      simp; omega
    · rw [if_neg h37]
      cases hc : wcB c
      · rw [if_neg (by simp [h37, hc])] at hr
        subst hr
        simp [hc]
      · rw [if_pos (.inr hc)] at hr
        have h1 := takeWhile_stop (r := c :: r) (t := t) (fun x hx => by
          rcases List.mem_cons.1 hx with rfl | hx
          · exact hc
          · exact hr x hx) (stop_head hs (fun ⟨d, e, _, h2⟩ => by cases e; rw [hc] at h2; cases h2))
        rw [List.cons_append] at h1
        rw [h1]; simp
theorem gap_sig {w t : List UInt8} (h : Sig w) : gapL (w ++ t) false = w ++ t := by
  cases w with
  | nil => exact h.elim
  | cons c r =>
    obtain ⟨⟨h1, h2, h3, h4⟩, _⟩ := h
    simp only [List.cons_append, gapL]
    rw [if_neg h1, if_neg h2, if_pos ⟨trivial, h3, h4⟩]
/-- Signs, with something between each two and something behind the last. -/
def lay (gp : ByteArray → ByteArray → List UInt8) (fin : ByteArray → List UInt8) : ByteArray → List ByteArray → List UInt8
  | b, [] => fin b
  | b, w :: ws => gp b w ++ (bytes w ++ lay gp fin w ws)
structure Gaps (gp : ByteArray → ByteArray → List UInt8) (fin : ByteArray → List UInt8) : Prop where
  gap : ∀ b w r, gapL (gp b w ++ r) false = gapL r false
  gapF : ∀ b, gapL (fin b) false = []
  stop : ∀ b w r, Sig (bytes b) → Sig (bytes w) → Stop (bytes b) (gp b w ++ (bytes w ++ r))
  stopF : ∀ b, Sig (bytes b) → Stop (bytes b) (fin b)
theorem lay_stop {gp : ByteArray → ByteArray → List UInt8} {fin : ByteArray → List UInt8} (hg : Gaps gp fin) {w : ByteArray} {ws : List ByteArray} (hw : Sig (bytes w)) (hs : ∀ x ∈ ws, Sig (bytes x)) : Stop (bytes w) (lay gp fin w ws) := by
  cases ws with
  | nil => exact hg.stopF w hw
  | cons x ws => exact hg.stop w x _ hw (hs x (by simp))
theorem relex {gp : ByteArray → ByteArray → List UInt8} {fin : ByteArray → List UInt8} (hg : Gaps gp fin) : ∀ (ws : List ByteArray) (b : ByteArray) (f o : Nat), (∀ x ∈ ws, Sig (bytes x)) → (gapL (lay gp fin b ws) false).length ≤ f → (lexP f o (gapL (lay gp fin b ws) false)).map Prod.fst = ws ++ [noText]
  | [], b, f, o, _, _ => by
    rw [lay, hg.gapF]
    cases f <;> rfl
  | w :: ws, b, f, o, hs, hf => by
    have hw := hs w (by simp)
    have hst := lay_stop (ws := ws) hg hw (fun x hx => hs x (by simp [hx]))
    have hsl := sign_len hw hst
    rw [lay, hg.gap, gap_sig hw] at hf ⊢
    have hne : bytes w ≠ [] := by intro e; rw [e] at hw; exact hw
    have hpos : 0 < (bytes w).length := List.length_pos_iff.2 hne
    have hll : (gapL (lay gp fin w ws) false).length ≤ (lay gp fin w ws).length := by
      have : ∀ (l : List UInt8) (b : Bool), (gapL l b).length ≤ l.length := by
        intro l
        induction l with
        | nil => intro b; exact Nat.le_refl _
        | cons c r ih =>
          intro b
          have a1 := ih false
          have a2 := ih true
          have a3 := ih b
          simp only [gapL, List.length_cons]
          split
          · omega
          · split
            · omega
            · split
              · simp
              · omega
      exact this _ _
    rw [List.length_append] at hf
    obtain ⟨f', rfl⟩ : ∃ f', f = f' + 1 := ⟨f - 1, by omega⟩
    have ih := fun o => relex hg ws w f' o (fun x hx => hs x (by simp [hx])) (by omega)
    cases hb : bytes w with
    | nil => exact absurd hb hne
    | cons c r =>
      rw [hb, List.cons_append] at hsl
      rw [List.cons_append, lexP, hsl]
      simp only [List.map_cons, List.cons_append]
      have e1 : (c :: (r ++ lay gp fin w ws)).take (c :: r).length = c :: r := by rw [← List.cons_append]; exact List.take_left
      have e2 : (c :: (r ++ lay gp fin w ws)).drop (c :: r).length = lay gp fin w ws := by rw [← List.cons_append]; exact List.drop_left
      rw [e1, e2, ih]
      refine congrArg (· :: _) ?_
      exact ByteArray.ext (Array.ext' hb.symm)
/-- Signs of a text look like signs. -/
theorem gapL_head : ∀ (l : List UInt8) (b : Bool) (c : UInt8) (r : List UInt8), gapL l b = c :: r → ngap c
  | [], _, _, _, h => by cases h
  | x :: l, b, c, r, h => by
    simp only [gapL] at h
    split at h
    · exact gapL_head l false c r h
    · rename_i h1
      split at h
      · exact gapL_head l true c r h
      · rename_i h2
        split at h
        · rename_i h3
          cases h
          exact ⟨h1, h2, h3.2.1, h3.2.2⟩
        · exact gapL_head l b c r h
theorem take_takeWhile (p : UInt8 → Bool) : ∀ l : List UInt8, l.take (l.takeWhile p).length = l.takeWhile p
  | [] => rfl
  | c :: r => by
    simp only [List.takeWhile_cons]
    cases p c
    · rfl
    · simp [take_takeWhile p r]
theorem mem_takeWhile {p : UInt8 → Bool} : ∀ {l : List UInt8} {x : UInt8}, x ∈ l.takeWhile p → p x = true
  | [], _, h => by cases h
  | c :: r, x, h => by
    simp only [List.takeWhile_cons] at h
    cases hc : p c
    · rw [hc] at h; cases h
    · rw [hc] at h
      rcases List.mem_cons.1 h with rfl | h
      · exact hc
      · exact mem_takeWhile h
theorem sig_take {c : UInt8} {r : List UInt8} (h : ngap c) : Sig ((c :: r).take (signLen (c :: r))) := by
  simp only [signLen]
  by_cases h37 : bt c = 37
  · rw [if_pos h37, Nat.add_comm, List.take_succ_cons, take_takeWhile]
    refine ⟨h, ?_⟩
    rw [if_pos (.inl h37)]
    exact fun x hx => mem_takeWhile hx
  · rw [if_neg h37]
    cases hc : wcB c
    · simp only [List.takeWhile_cons, hc]
      refine ⟨h, ?_⟩
      rw [if_neg (by simp [h37, hc])]; rfl
    · simp only [List.takeWhile_cons, hc, if_true, List.length_cons]
      rw [Nat.max_eq_left (by omega), List.take_succ_cons, take_takeWhile]
      refine ⟨h, ?_⟩
      rw [if_pos (.inr hc)]
      exact fun x hx => mem_takeWhile hx
theorem lexP_sig : ∀ (f o : Nat) (l : List UInt8), (∀ c r, l = c :: r → ngap c) → ∀ t ∈ lexP f o l, t.1 = noText ∨ Sig (bytes t.1)
  | 0, o, l, _, t, ht => by
    simp only [lexP, List.mem_singleton] at ht; subst ht; exact .inl rfl
  | f + 1, o, [], _, t, ht => by
    simp only [lexP, List.mem_singleton] at ht; subst ht; exact .inl rfl
  | f + 1, o, c :: r, hl, t, ht => by
    simp only [lexP] at ht
    rcases List.mem_cons.1 ht with rfl | ht
    · right
      show Sig ((c :: r).take (signLen (c :: r)))
      exact sig_take (hl c r rfl)
    · exact lexP_sig f _ _ (fun c r h => gapL_head _ _ _ _ h) t ht
theorem lex_sig (s : ByteArray) (t : Tk) (h : t ∈ lex s) : t.1 = noText ∨ Sig (bytes t.1) := by
  rw [lex_P] at h
  exact lexP_sig _ _ _ (fun c r e => gapL_head _ _ _ _ e) t h
end Lx
end Go.Proofs.Ytonkcljapkeidaa
namespace Go.Proofs.Ytonkcljapkeidaa
open Go.RowKit
namespace Lx
theorem gapOf_cases (b w : ByteArray) : gapOf b w = ⟨#[10]⟩ ∨ gapOf b w = ⟨#[32]⟩ ∨ (gapOf b w = ⟨#[]⟩ ∧ (b = noText ∨ b = ⟨#[40]⟩ ∨ w = noText ∨ w = ⟨#[59]⟩ ∨ w = ⟨#[41]⟩ ∨ w = ⟨#[42]⟩ ∨ w = ⟨#[43]⟩ ∨ w = ⟨#[63]⟩)) := by
  unfold gapOf
  split
  · exact .inl rfl
  · split
    · rename_i h
      refine .inr (.inr ⟨rfl, ?_⟩)
      simp only [Bool.or_eq_true] at h
      rcases h with (h | h) | h
      · exact .inl (text_eq h)
      · exact .inr (.inl (text_eq h))
      · exact .inr (.inr (.inl (text_eq h)))
    · split
      · rename_i h
        refine .inr (.inr ⟨rfl, ?_⟩)
        simp only [Bool.or_eq_true] at h
        rcases h with (((h | h) | h) | h) | h
        · exact .inr (.inr (.inr (.inl (text_eq h))))
        · exact .inr (.inr (.inr (.inr (.inl (text_eq h)))))
        · exact .inr (.inr (.inr (.inr (.inr (.inl (text_eq h))))))
        · exact .inr (.inr (.inr (.inr (.inr (.inr (.inl (text_eq h)))))))
        · exact .inr (.inr (.inr (.inr (.inr (.inr (.inr (text_eq h)))))))
      · exact .inr (.inl rfl)
theorem no_sig : ¬ Sig (bytes noText) := fun h => h
theorem gap_ten (r : List UInt8) : gapL (10 :: r) false = gapL r false := by rw [gapL, if_pos (by decide)]
theorem gap_blk (r : List UInt8) : gapL (32 :: r) false = gapL r false := by
  rw [gapL, if_neg (by decide), if_neg (by decide), if_neg (fun h => h.2.1 (by decide))]
/-- How the plain form's gaps are turned into other ones: what stands for a newline and what for a blank. -/
structure Fill (nl bl fin : List UInt8) : Prop where
  n1 : ∀ r, gapL (nl ++ r) false = gapL r false
  b1 : ∀ r, gapL (bl ++ r) false = gapL r false
  f1 : gapL fin false = []
  n2 : ∃ x r, nl = x :: r ∧ wcB x = false
  b2 : ∃ x r, bl = x :: r ∧ wcB x = false
  f2 : fin = [] ∨ ∃ x r, fin = x :: r ∧ wcB x = false
def fillOf (nl bl : List UInt8) (g : ByteArray) : List UInt8 := if g = ⟨#[10]⟩ then nl else if g = ⟨#[32]⟩ then bl else []
theorem fill_nl (nl bl : List UInt8) : fillOf nl bl ⟨#[10]⟩ = nl := if_pos rfl
theorem fill_bl (nl bl : List UInt8) : fillOf nl bl ⟨#[32]⟩ = bl := by unfold fillOf; rw [if_neg (by decide), if_pos rfl]
theorem fill_no (nl bl : List UInt8) : fillOf nl bl ⟨#[]⟩ = [] := by unfold fillOf; rw [if_neg (by decide), if_neg (by decide)]
theorem Fill.gaps {nl bl fin : List UInt8} (h : Fill nl bl fin) : Gaps (fun b w => fillOf nl bl (gapOf b w)) (fun b => fillOf nl bl (gapOf b noText) ++ fin) := by
  refine ⟨fun b w r => ?_, fun b => ?_, fun b w r hb hw => ?_, fun b hb => ?_⟩
  · rcases gapOf_cases b w with e | e | ⟨e, _⟩ <;> rw [e]
    · rw [fill_nl]; exact h.n1 r
    · rw [fill_bl]; exact h.b1 r
    · rw [fill_no]; rfl
  · rcases gapOf_cases b noText with e | e | ⟨e, _⟩ <;> rw [e]
    · rw [fill_nl, h.n1]; exact h.f1
    · rw [fill_bl, h.b1]; exact h.f1
    · rw [fill_no]; exact h.f1
  · rcases gapOf_cases b w with e | e | ⟨e, hx⟩ <;> rw [e]
    · rw [fill_nl]; obtain ⟨x, t, e', hx⟩ := h.n2; rw [e']; exact .inl hx
    · rw [fill_bl]; obtain ⟨x, t, e', hx⟩ := h.b2; rw [e']; exact .inl hx
    · rw [fill_no]
      rcases hx with rfl | rfl | rfl | rfl | rfl | rfl | rfl | rfl
      · exact absurd hb no_sig
      · show Stop [40] _
        cases hh : ([] ++ (bytes w ++ r)) with
        | nil => trivial
        | cons y z => exact .inr ⟨40, rfl, by decide, by decide⟩
      · exact absurd hw no_sig
      all_goals exact .inl (by decide)
  · rcases gapOf_cases b noText with e | e | ⟨e, _⟩ <;> rw [e]
    · rw [fill_nl]; obtain ⟨x, t, e', hx⟩ := h.n2; rw [e']; exact .inl hx
    · rw [fill_bl]; obtain ⟨x, t, e', hx⟩ := h.b2; rw [e']; exact .inl hx
    · rw [fill_no, List.nil_append]
      rcases h.f2 with rfl | ⟨x, t, rfl, hx⟩
      · trivial
      · exact .inl hx
theorem plain_fill : Fill [10] [32] [] := ⟨gap_ten, gap_blk, rfl, ⟨10, [], rfl, by decide⟩, ⟨32, [], rfl, by decide⟩, .inl rfl⟩
theorem fill_plain (b w : ByteArray) : fillOf [10] [32] (gapOf b w) = bytes (gapOf b w) := by
  rcases gapOf_cases b w with e | e | ⟨e, _⟩ <;> rw [e]
  · rw [fill_nl]; rfl
  · rw [fill_bl]; rfl
  · rw [fill_no]; rfl
theorem form_lay : ∀ (ws : List ByteArray) (b : ByteArray), formB b (ws ++ [noText]) = lay (fun b w => fillOf [10] [32] (gapOf b w)) (fun b => fillOf [10] [32] (gapOf b noText) ++ []) b ws
  | [], b => by
    simp only [List.nil_append, formB, lay, List.append_nil]
    rw [fill_plain]
    show _ ++ ([] : List UInt8) = _
    rw [List.append_nil]; rfl
  | w :: ws, b => by
    simp only [List.cons_append, formB, lay]
    rw [form_lay ws w, fill_plain]; rfl
theorem WF.split : ∀ {ts : List Tk}, WF ts → ∃ ws, ts.map Prod.fst = ws ++ [noText]
  | [], h => h.elim
  | [t], h => ⟨[], congrArg (· :: []) h⟩
  | t :: u :: r, h => by
    obtain ⟨ws, e⟩ := WF.split (ts := u :: r) h.2
    exact ⟨t.1 :: ws, by rw [List.map_cons, e]; rfl⟩
/-- The signs of a text, and what they look like. -/
theorem lex_signs (s : ByteArray) : ∃ ws, (lex s).map Prod.fst = ws ++ [noText] ∧ ∀ x ∈ ws, Sig (bytes x) := by
  obtain ⟨ws, e⟩ := WF.split (lex_wf s)
  refine ⟨ws, e, fun x hx => ?_⟩
  have hn := WF.some (lex_wf s) e x hx
  have : x ∈ (lex s).map Prod.fst := by rw [e]; exact List.mem_append_left _ hx
  obtain ⟨t, ht, rfl⟩ := List.mem_map.1 this
  exact (lex_sig s t ht).resolve_left hn
/-- A text that holds signs as the plain form does, with whatever gaps, has just these signs. -/
theorem lex_laid {nl bl fin : List UInt8} (h : Fill nl bl fin) {ws : List ByteArray} (hw : ∀ x ∈ ws, Sig (bytes x)) {t : ByteArray} (ht : bytes t = lay (fun b w => fillOf nl bl (gapOf b w)) (fun b => fillOf nl bl (gapOf b noText) ++ fin) noText ws) : (lex t).map Prod.fst = ws ++ [noText] := by
  rw [lex_P, ht]
  refine relex h.gaps ws noText _ _ hw ?_
  have h1 := congrArg List.length (gapEnd_L (s := t) (i := 0) false (Nat.zero_le _))
  rw [List.length_drop, bytes_len, List.drop_zero, ht] at h1
  omega
theorem form_lex (s : ByteArray) : (lex ⟨(formL noText (lex s)).toArray⟩).map Prod.fst = (lex s).map Prod.fst := by
  obtain ⟨ws, e, hw⟩ := lex_signs s
  rw [e]
  refine lex_laid plain_fill hw ?_
  show (formL noText (lex s)).toArray.toList = _
  rw [formL_B, e, form_lay]
end Lx
end Go.Proofs.Ytonkcljapkeidaa
namespace Go.Proofs.Ytonkcljapkeidaa
open Go Go.RowKit
namespace Lx
/-- Two rows, one by one. -/
def All2 {α β : Type} (R : α → β → Prop) : List α → List β → Prop
  | [], [] => True
  | a :: l, b :: m => R a b ∧ All2 R l m
  | _, _ => False
theorem All2.push {α β : Type} {R : α → β → Prop} : ∀ {l : List α} {m : List β} {a : α} {b : β}, All2 R l m → R a b → All2 R (l ++ [a]) (m ++ [b])
  | [], [], _, _, _, h => ⟨h, trivial⟩
  | _ :: _, _ :: _, _, _, h, hr => ⟨h.1, All2.push h.2 hr⟩
  | [], _ :: _, _, _, h, _ => h.elim
  | _ :: _, [], _, _, h, _ => h.elim
theorem All2.len {α β : Type} {R : α → β → Prop} : ∀ {l : List α} {m : List β}, All2 R l m → l.length = m.length
  | [], [], _ => rfl
  | _ :: _, _ :: _, h => by simp [All2.len h.2]
  | [], _ :: _, h => h.elim
  | _ :: _, [], h => h.elim
/-- Trees that part only in places. -/
def AltsEq : Nat → List Alt → List Alt → Prop
  | 0, l, m => l = [] ∧ m = []
  | d + 1, l, m => All2 (fun a b => All2 (fun x y => x.kind = y.kind ∧ x.name = y.name ∧ x.mark = y.mark ∧ AltsEq d x.alts y.alts) a.1 b.1 ∧ a.2.1 = b.2.1) l m
def ItEq (d : Nat) (x y : It) : Prop := x.kind = y.kind ∧ x.name = y.name ∧ x.mark = y.mark ∧ AltsEq d x.alts y.alts
def AltEq (d : Nat) (a b : Alt) : Prop := All2 (ItEq d) a.1 b.1 ∧ a.2.1 = b.2.1
theorem AltsEq.nil : ∀ d, AltsEq d [] []
  | 0 => ⟨rfl, rfl⟩
  | _ + 1 => trivial
def TX (ts us : List Tk) : Prop := ts.map Prod.fst = us.map Prod.fst
theorem TX.hd {ts us : List Tk} (h : TX ts us) : hd ts = hd us := by
  cases ts with
  | nil => cases us with
    | nil => rfl
    | cons u us => cases h
  | cons t ts => cases us with
    | nil => cases h
    | cons u us => exact (List.cons.inj h).1
theorem TX.tail {ts us : List Tk} (h : TX ts us) : TX ts.tail us.tail := by
  cases ts with
  | nil => cases us with
    | nil => rfl
    | cons u us => cases h
  | cons t ts => cases us with
    | nil => cases h
    | cons u us => exact (List.cons.inj h).2
theorem TX.len {ts us : List Tk} (h : TX ts us) : ts.length = us.length := by
  have := congrArg List.length h
  simpa using this
theorem TX.push {ts us : List Tk} {t u : Tk} (h : TX ts us) (e : t.1 = u.1) : TX (ts ++ [t]) (us ++ [u]) := by
  unfold TX at *
  rw [List.map_append, List.map_append, h]
  simp [e]
def RelR {α : Type} (R : α → α → Prop) : Res α → Res α → Prop
  | .ok (x, ts), .ok (y, us) => R x y ∧ TX ts us
  | .error e, .error f => e.1 = f.1
  | _, _ => False
def bnd {α β : Type} (r : Res α) (k : α → List Tk → Res β) : Res β :=
  match r with
  | .error e => .error e
  | .ok (x, ts) => k x ts
theorem pItem_eq (grp : List Tk → Res (List Alt)) (ts : List Tk) : pItem grp ts = if hd ts = tOpen then bnd (grp ts) (fun alts ts1 => .ok ((⟨2, noText, (pMark ts1).1, alts, pl ts⟩ : It), (pMark ts1).2))
    else if isName (hd ts) = true then .ok (⟨0, hd ts, (pMark ts.tail).1, [], pl ts⟩, (pMark ts.tail).2)
    else if isToken (hd ts) = true then .ok (⟨1, hd ts, (pMark ts.tail).1, [], pl ts⟩, (pMark ts.tail).2)
    else .error (2, pl ts) := by
  unfold pItem
  split
  · cases grp ts with
    | error e => rfl
    | ok y => rfl
  · rfl
theorem pItems_eq (grp : List Tk → Res (List Alt)) (f : Nat) (ts : List Tk) (a : List It) : pItems grp (f + 1) ts a = if seesItem ts = true then bnd (pItem grp ts) (fun x ts1 => pItems grp f ts1 (a ++ [x])) else .ok (a, ts) := by
  simp only [pItems]
  split
  · cases pItem grp ts with
    | error e => rfl
    | ok y => rfl
  · rfl
theorem pPrec_eq (top : Bool) (a : List It) (ts : List Tk) : pPrec top a ts = if top = true ∧ hd ts = tPrec then bnd (pWord isToken ts.tail) (fun x ts1 => .ok (((a, x, pl ts.tail) : Alt), ts1)) else .ok ((a, noText, 0), ts) := by
  unfold pPrec
  split
  · cases pWord isToken ts.tail with
    | error e => rfl
    | ok y => rfl
  · rfl
theorem pAlt_eq (grp : List Tk → Res (List Alt)) (top : Bool) (ts : List Tk) : pAlt grp top ts = bnd (pItems grp ts.length ts []) (fun x ts1 => pPrec top x ts1) := by
  unfold pAlt
  cases pItems grp ts.length ts [] with
  | error e => rfl
  | ok y => rfl
theorem pMore_eq (grp : List Tk → Res (List Alt)) (top : Bool) (f : Nat) (ts : List Tk) (a : List Alt) : pMore grp top (f + 1) ts a = if hd ts = tBar then bnd (pAlt grp top ts.tail) (fun x ts1 => pMore grp top f ts1 (a ++ [x])) else .ok (a, ts) := by
  simp only [pMore]
  split
  · cases pAlt grp top ts.tail with
    | error e => rfl
    | ok y => rfl
  · rfl
theorem pAltsBy_eq (grp : List Tk → Res (List Alt)) (top : Bool) (ts : List Tk) : pAltsBy grp top ts = bnd (pAlt grp top ts) (fun x ts1 => pMore grp top ts1.length ts1 [x]) := by
  unfold pAltsBy
  cases pAlt grp top ts with
  | error e => rfl
  | ok y => rfl
theorem pGroup_eq (r : List Tk → Res (List Alt)) (ts : List Tk) : pGroup r ts = bnd (r ts.tail) (fun l ts1 => bnd (pMust tShut ts1) fun _ ts2 => .ok (l, ts2)) := by
  unfold pGroup
  cases r ts.tail with
  | error e => rfl
  | ok y =>
    obtain ⟨l, ts1⟩ := y
    simp only [bnd]
    cases pMust tShut ts1 with
    | error e => rfl
    | ok y => rfl
theorem pRule_eq (ts : List Tk) : pRule ts = bnd (pWord isName ts) (fun n ts1 => bnd (pMust tEq ts1) fun _ ts2 => bnd (pAlts 8 ts2) fun l ts3 => bnd (pMust tSemi ts3) fun _ ts4 => .ok ((⟨n, l, pl ts⟩ : Rl), ts4)) := by
  unfold pRule
  cases pWord isName ts with
  | error e => rfl
  | ok y =>
    obtain ⟨n, ts1⟩ := y
    simp only [bnd]
    cases pMust tEq ts1 with
    | error e => rfl
    | ok y =>
      obtain ⟨u, ts2⟩ := y
      simp only
      cases pAlts 8 ts2 with
      | error e => rfl
      | ok y =>
        obtain ⟨l, ts3⟩ := y
        simp only
        cases pMust tSemi ts3 with
        | error e => rfl
        | ok y => rfl
theorem pTokens_eq (f : Nat) (ts a : List Tk) : pTokens (f + 1) ts a = if hd ts = tSemi then .ok (a, ts.tail) else bnd (pWord isToken ts) (fun x ts1 => pTokens f ts1 (a ++ [(x, pl ts)])) := by
  simp only [pTokens]
  split
  · rfl
  · cases pWord isToken ts with
    | error e => rfl
    | ok y => rfl
theorem pLevel_eq (ts : List Tk) : pLevel ts = bnd (pWord isToken ts.tail) (fun b ts1 => bnd (pTokens ts1.length ts1 [(b, pl ts.tail)]) fun l ts2 => .ok ((⟨(levelKind (hd ts)).toNat, l⟩ : Lv), ts2)) := by
  unfold pLevel
  cases pWord isToken ts.tail with
  | error e => rfl
  | ok y =>
    obtain ⟨b, ts1⟩ := y
    simp only [bnd]
    cases pTokens ts1.length ts1 [(b, pl ts.tail)] with
    | error e => rfl
    | ok y => rfl
theorem pLevels_eq (f : Nat) (ts : List Tk) (a : List Lv) : pLevels (f + 1) ts a = if 0 ≤ levelKind (hd ts) then bnd (pLevel ts) (fun x ts1 => pLevels f ts1 (a ++ [x])) else .ok (a, ts) := by
  simp only [pLevels]
  split
  · cases pLevel ts with
    | error e => rfl
    | ok y => rfl
  · rfl
theorem pRules_eq (f : Nat) (ts : List Tk) (a : List Rl) : pRules (f + 1) ts a = if hd ts = noText then .ok (a, ts) else bnd (pRule ts) (fun x ts1 => pRules f ts1 (a ++ [x])) := by
  simp only [pRules]
  split
  · rfl
  · cases pRule ts with
    | error e => rfl
    | ok y => rfl
theorem pGrammar_bnd (ts : List Tk) : pGrammar ts = bnd (pLevels ts.length ts []) (fun lv ts1 => bnd (pRule ts1) fun x ts2 => bnd (pRules ts2.length ts2 [x]) fun l ts3 => .ok ((⟨lv, l⟩ : Gr), ts3)) := by
  unfold pGrammar
  cases pLevels ts.length ts [] with
  | error e => rfl
  | ok y =>
    obtain ⟨lv, ts1⟩ := y
    simp only [bnd]
    cases pRule ts1 with
    | error e => rfl
    | ok y =>
      obtain ⟨x, ts2⟩ := y
      simp only
      cases pRules ts2.length ts2 [x] with
      | error e => rfl
      | ok y => rfl
theorem RelR.on {α β : Type} {R : α → α → Prop} {S : β → β → Prop} {r r' : Res α} (h : RelR R r r') (k k' : α → List Tk → Res β) (hk : ∀ x y ts us, R x y → TX ts us → RelR S (k x ts) (k' y us)) : RelR S (bnd r k) (bnd r' k') := by
  cases r with
  | error e => cases r' with
    | error f => exact h
    | ok y => exact h.elim
  | ok x => cases r' with
    | error f => exact h.elim
    | ok y => exact hk _ _ _ _ h.1 h.2
theorem pWord_rel (k : ByteArray → Bool) {ts us : List Tk} (h : TX ts us) : RelR Eq (pWord k ts) (pWord k us) := by
  unfold pWord
  rw [h.hd]
  split
  · exact ⟨rfl, h.tail⟩
  · exact rfl
theorem pMust_rel (b : ByteArray) {ts us : List Tk} (h : TX ts us) : RelR Eq (pMust b ts) (pMust b us) := by
  unfold pMust
  rw [h.hd]
  split
  · exact ⟨rfl, h.tail⟩
  · exact rfl
theorem pMark_rel {ts us : List Tk} (h : TX ts us) : (pMark ts).1 = (pMark us).1 ∧ TX (pMark ts).2 (pMark us).2 := by
  unfold pMark
  rw [h.hd]
  split
  · exact ⟨rfl, h.tail⟩
  · split
    · exact ⟨rfl, h.tail⟩
    · split
      · exact ⟨rfl, h.tail⟩
      · exact ⟨rfl, h⟩
def GrpRel (d : Nat) (grp : List Tk → Res (List Alt)) : Prop := ∀ ts us, TX ts us → RelR (AltsEq d) (grp ts) (grp us)
theorem pItem_rel {d : Nat} {grp : List Tk → Res (List Alt)} (hg : GrpRel d grp) {ts us : List Tk} (h : TX ts us) : RelR (ItEq d) (pItem grp ts) (pItem grp us) := by
  rw [pItem_eq, pItem_eq, h.hd]
  split
  · exact RelR.on (hg _ _ h) _ _ fun x y t u hx ht => ⟨⟨rfl, rfl, (pMark_rel ht).1, hx⟩, (pMark_rel ht).2⟩
  · split
    · exact ⟨⟨rfl, rfl, (pMark_rel h.tail).1, AltsEq.nil d⟩, (pMark_rel h.tail).2⟩
    · split
      · exact ⟨⟨rfl, rfl, (pMark_rel h.tail).1, AltsEq.nil d⟩, (pMark_rel h.tail).2⟩
      · exact rfl
theorem seesItem_rel {ts us : List Tk} (h : TX ts us) : seesItem ts = seesItem us := by unfold seesItem; rw [h.hd]
theorem pItems_rel {d : Nat} {grp : List Tk → Res (List Alt)} (hg : GrpRel d grp) : ∀ (f : Nat) {ts us : List Tk} {a b : List It}, TX ts us → All2 (ItEq d) a b → RelR (All2 (ItEq d)) (pItems grp f ts a) (pItems grp f us b)
  | 0, ts, us, a, b, h, ha => ⟨ha, h⟩
  | f + 1, ts, us, a, b, h, ha => by
    rw [pItems_eq, pItems_eq, seesItem_rel h]
    split
    · exact RelR.on (pItem_rel hg h) _ _ fun x y t u hx ht => pItems_rel hg f ht (ha.push hx)
    · exact ⟨ha, h⟩
theorem pPrec_rel {d : Nat} (top : Bool) {a b : List It} {ts us : List Tk} (h : TX ts us) (ha : All2 (ItEq d) a b) : RelR (AltEq d) (pPrec top a ts) (pPrec top b us) := by
  rw [pPrec_eq, pPrec_eq, h.hd]
  split
  · exact RelR.on (pWord_rel isToken h.tail) _ _ fun x y t u hx ht => ⟨⟨ha, hx⟩, ht⟩
  · exact ⟨⟨ha, rfl⟩, h⟩
theorem pAlt_rel {d : Nat} {grp : List Tk → Res (List Alt)} (hg : GrpRel d grp) (top : Bool) {ts us : List Tk} (h : TX ts us) : RelR (AltEq d) (pAlt grp top ts) (pAlt grp top us) := by
  rw [pAlt_eq, pAlt_eq, h.len]
  exact RelR.on (pItems_rel hg us.length h (a := []) (b := []) trivial) _ _ fun x y t u hx ht => pPrec_rel top ht hx
theorem pMore_rel {d : Nat} {grp : List Tk → Res (List Alt)} (hg : GrpRel d grp) (top : Bool) : ∀ (f : Nat) {ts us : List Tk} {a b : List Alt}, TX ts us → All2 (AltEq d) a b → RelR (All2 (AltEq d)) (pMore grp top f ts a) (pMore grp top f us b)
  | 0, ts, us, a, b, h, ha => ⟨ha, h⟩
  | f + 1, ts, us, a, b, h, ha => by
    rw [pMore_eq, pMore_eq, h.hd]
    split
    · exact RelR.on (pAlt_rel hg top h.tail) _ _ fun x y t u hx ht => pMore_rel hg top f ht (ha.push hx)
    · exact ⟨ha, h⟩
theorem pAltsBy_rel {d : Nat} {grp : List Tk → Res (List Alt)} (hg : GrpRel d grp) (top : Bool) {ts us : List Tk} (h : TX ts us) : RelR (AltsEq (d + 1)) (pAltsBy grp top ts) (pAltsBy grp top us) := by
  rw [pAltsBy_eq, pAltsBy_eq]
  refine RelR.on (pAlt_rel hg top h) _ _ fun x y t u hx ht => ?_
  rw [ht.len]
  exact pMore_rel hg top u.length ht (a := [x]) (b := [y]) ⟨hx, trivial⟩
theorem pGroup_rel {d : Nat} {r : List Tk → Res (List Alt)} (hr : GrpRel d r) : GrpRel d (pGroup r) := fun ts us h => by
  rw [pGroup_eq, pGroup_eq]
  refine RelR.on (hr _ _ h.tail) _ _ fun x y t u hx ht => ?_
  exact RelR.on (pMust_rel tShut ht) _ _ fun _ _ t u _ ht => ⟨hx, ht⟩
theorem pAlts_rel : ∀ d, GrpRel (d + 1) (pAlts d)
  | 0 => fun _ _ h => pAltsBy_rel (grp := fun ts => .error (3, pl ts)) (fun _ _ _ => rfl) false h
  | d + 1 => fun _ _ h => pAltsBy_rel (pGroup_rel (pAlts_rel d)) (d == 7) h
def RlEq (r s : Rl) : Prop := r.name = s.name ∧ AltsEq 9 r.alts s.alts
def LvEq (l m : Lv) : Prop := l.kind = m.kind ∧ TX l.tokens m.tokens
def GrEq (g h : Gr) : Prop := All2 LvEq g.levels h.levels ∧ All2 RlEq g.rules h.rules
theorem pRule_rel {ts us : List Tk} (h : TX ts us) : RelR RlEq (pRule ts) (pRule us) := by
  rw [pRule_eq, pRule_eq]
  refine RelR.on (pWord_rel isName h) _ _ fun n m t1 u1 hn h1 => ?_
  refine RelR.on (pMust_rel tEq h1) _ _ fun _ _ t2 u2 _ h2 => ?_
  refine RelR.on (pAlts_rel 8 _ _ h2) _ _ fun x y t3 u3 hx h3 => ?_
  exact RelR.on (pMust_rel tSemi h3) _ _ fun _ _ t4 u4 _ h4 => ⟨⟨hn, hx⟩, h4⟩
theorem pTokens_rel : ∀ (f : Nat) {ts us a b : List Tk}, TX ts us → TX a b → RelR TX (pTokens f ts a) (pTokens f us b)
  | 0, ts, us, a, b, h, ha => ⟨ha, h⟩
  | f + 1, ts, us, a, b, h, ha => by
    rw [pTokens_eq, pTokens_eq, h.hd]
    split
    · exact ⟨ha, h.tail⟩
    · exact RelR.on (pWord_rel isToken h) _ _ fun x y t u hx ht => pTokens_rel f ht (ha.push hx)
theorem pLevel_rel {ts us : List Tk} (h : TX ts us) : RelR LvEq (pLevel ts) (pLevel us) := by
  rw [pLevel_eq, pLevel_eq, h.hd]
  refine RelR.on (pWord_rel isToken h.tail) _ _ fun x y t u hx ht => ?_
  rw [ht.len]
  exact RelR.on (pTokens_rel u.length ht (a := [(x, pl ts.tail)]) (b := [(y, pl us.tail)]) (congrArg (· :: []) hx)) _ _ fun l m t2 u2 hl h2 => ⟨⟨rfl, hl⟩, h2⟩
theorem pLevels_rel : ∀ (f : Nat) {ts us : List Tk} {a b : List Lv}, TX ts us → All2 LvEq a b → RelR (All2 LvEq) (pLevels f ts a) (pLevels f us b)
  | 0, ts, us, a, b, h, ha => ⟨ha, h⟩
  | f + 1, ts, us, a, b, h, ha => by
    rw [pLevels_eq, pLevels_eq, h.hd]
    split
    · exact RelR.on (pLevel_rel h) _ _ fun x y t u hx ht => pLevels_rel f ht (ha.push hx)
    · exact ⟨ha, h⟩
theorem pRules_rel : ∀ (f : Nat) {ts us : List Tk} {a b : List Rl}, TX ts us → All2 RlEq a b → RelR (All2 RlEq) (pRules f ts a) (pRules f us b)
  | 0, ts, us, a, b, h, ha => ⟨ha, h⟩
  | f + 1, ts, us, a, b, h, ha => by
    rw [pRules_eq, pRules_eq, h.hd]
    split
    · exact ⟨ha, h⟩
    · exact RelR.on (pRule_rel h) _ _ fun x y t u hx ht => pRules_rel f ht (ha.push hx)
theorem pGrammar_rel {ts us : List Tk} (h : TX ts us) : RelR GrEq (pGrammar ts) (pGrammar us) := by
  rw [pGrammar_bnd, pGrammar_bnd, h.len]
  refine RelR.on (pLevels_rel us.length h (a := []) (b := []) trivial) _ _ fun lv lw t1 u1 hl h1 => ?_
  refine RelR.on (pRule_rel h1) _ _ fun x y t2 u2 hx h2 => ?_
  rw [h2.len]
  exact RelR.on (pRules_rel u2.length h2 (a := [x]) (b := [y]) ⟨hx, trivial⟩) _ _ fun l m t3 u3 hm h3 => ⟨⟨hl, hm⟩, h3⟩
/-- Texts of the same signs bring the same grammar, but for places. -/
theorem parse_same {s t : ByteArray} {g : Gr} (hs : parse s = .ok g) (ht : t.size ≤ 2000) (h : TX (lex s) (lex t)) : ∃ g', parse t = .ok g' ∧ GrEq g g' := by
  unfold parse at hs
  split at hs
  · cases hs
  · have hr := pGrammar_rel h
    cases h1 : pGrammar (lex s) with
    | error e => rw [h1] at hs; cases hs
    | ok x =>
      obtain ⟨g1, ts1⟩ := x
      rw [h1] at hs hr
      cases hs
      cases h2 : pGrammar (lex t) with
      | error e => rw [h2] at hr; exact hr.elim
      | ok y =>
        obtain ⟨g2, ts2⟩ := y
        rw [h2] at hr
        refine ⟨g2, ?_, hr.1⟩
        unfold parse
        rw [if_neg (by omega), h2]
end Lx
end Go.Proofs.Ytonkcljapkeidaa
namespace Go.Proofs.Ytonkcljapkeidaa
open Go.RowKit
open Tr
/-- Two trees of the program's, of one meaning: they are told equal. -/
def AltsEqual (d : Nat) : Prop := ∀ (F F' : Nat → Prop) (w : World) (v v' : Value) (l : List Lx.Alt), (∀ b, F b → b < w.heap.size) → (∀ b, F' b → b < w.heap.size) → AltsIn YP d F w v l → AltsIn YP d F' w v' l →
  Calls Try.prog 28 #[v, v'] w fun e w' => e = .returned (.bool true) ∧ Below w.heap.size w w'
set_option maxHeartbeats 1000000 in
set_option maxRecDepth 100000 in
theorem equal_zero : AltsEqual 0 := by
  intro F F' w v v' l hF hF' h h'
  obtain ⟨rfl, rfl⟩ := h
  obtain ⟨rfl, -⟩ := h'
  go_enter Try.func28, Try.ntmps28
  go_wp2_with fail
  go_loopg [5] 0 (fun k i wr => k = 0 ∧ i = .int .i64 0 ∧ wr = w)
  case atStart => exact ⟨rfl, rfl, rfl⟩
  case round =>
    obtain ⟨rfl, rfl, rfl⟩ := hrel
    go_wp2_with fail
    go_ret
    exact ⟨rfl, Below.refl _ _⟩
set_option maxHeartbeats 2000000 in
set_option maxRecDepth 100000 in
theorem equal_succ {d : Nat} (IH : AltsEqual d) : AltsEqual (d + 1) := by
  intro F F' w v v' l hF hF' h h'
  obtain ⟨a, c, hv, hm⟩ := Seq.len h
  obtain ⟨a', c', hv', -⟩ := Seq.len h'
  subst hv hv'
  unfold maxLen at hm
  go_enter Try.func28, Try.ntmps28
  go_wp2_with fail
  go_loopg [5] l.length (fun k i wr => ∃ j : Nat, j + k = l.length ∧ i = .int .i64 j ∧ Below w.heap.size w wr)
  case atStart => exact ⟨0, by omega, rfl, Below.refl _ _⟩
  case round =>
    revert wr
    intro wz hrel
    obtain ⟨j, hk, rfl, hb⟩ := hrel
    by_cases hlt : j < l.length
    · have h1 : AltsIn YP (d + 1) F wz _ l := AltsIn.move (fun b hb' => hb.block b (hF b hb')) (fun _ h => h) h
      have h2 : AltsIn YP (d + 1) F' wz _ l := AltsIn.move (fun b hb' => hb.block b (hF' b hb')) (fun _ h => h) h'
      obtain ⟨g, cap, vi, hv, hg, hi, hc⟩ := Seq.at h1 (fun _ => rfl) hlt
      obtain ⟨g', cap', vi', hv', hg', hi', hc'⟩ := Seq.at h2 (fun _ => rfl) hlt
      cases hv
      cases hv'
      generalize l[j] = x at hi hc hi' hc'
      obtain ⟨its, prec, pa⟩ := x
      obtain ⟨ia, ic, hvi, him⟩ := Seq.len hi
      obtain ⟨ia', ic', hvi', -⟩ := Seq.len hi'
      subst hvi hvi'
      unfold maxLen at him
      have c0 : wz.cell? ⟨g, j * 2, none⟩ = some (.slice ia its.length ic) := hc 0 (by decide)
      have c1 : wz.cell? ⟨g, j * 2 + 1, none⟩ = some (.string prec) := hc 1 (by decide)
      have d0 : wz.cell? ⟨g', j * 2, none⟩ = some (.slice ia' its.length ic') := hc' 0 (by decide)
      have d1 : wz.cell? ⟨g', j * 2 + 1, none⟩ = some (.string prec) := hc' 1 (by decide)
      go_wp2_with fail
      go_region
      all_goals
        go_wp2_with fail
        clear h1 h2 c1 d1
        go_loopg [6] its.length (fun k i wr => ∃ m : Nat, m + k = its.length ∧ i = .int .i64 m ∧ Below wz.heap.size wz wr)
        case atStart => exact ⟨0, by omega, rfl, (Below.refl _ _).drew⟩
        case round =>
          obtain ⟨m, hkm, rfl, hbz⟩ := hrel
          have hsz := hb.size
          have hbw : Below w.heap.size w wr := hb.trans (hbz.mono hsz)
          have eg : wr.heap[g]? = wz.heap[g]? := hbz.block g (by have := hF g hg; omega)
          have eg' : wr.heap[g']? = wz.heap[g']? := hbz.block g' (by have := hF' g' hg'; omega)
          have c0r : wr.cell? ⟨g, j * 2, none⟩ = some (.slice ia its.length ic) := (World.cell?_of_block (w := wz) eg).trans c0
          have d0r : wr.cell? ⟨g', j * 2, none⟩ = some (.slice ia' its.length ic') := (World.cell?_of_block (w := wz) eg').trans d0
          by_cases hltm : m < its.length
          · have hir : ItemsIn YP d F wr _ its := ItemsIn.move (fun b hb' => hbz.block b (by have := hF b hb'; omega)) (fun _ h => h) hi
            have hir' : ItemsIn YP d F' wr _ its := ItemsIn.move (fun b hb' => hbz.block b (by have := hF' b hb'; omega)) (fun _ h => h) hi'
            unfold ItemsIn ItemsBy at hir hir'
            obtain ⟨n, ncap, va, hv, hn, ha, hcc⟩ := Seq.at hir (fun _ => rfl) hltm
            obtain ⟨n', ncap', va', hv', hn', ha', hcc'⟩ := Seq.at hir' (fun _ => rfl) hltm
            cases hv
            cases hv'
            generalize its[m] = it at ha hcc ha' hcc'
            obtain ⟨sa, sn, sc, hva⟩ := AltsIn.form ha
            obtain ⟨sa', sn', sc', hva'⟩ := AltsIn.form ha'
            subst hva hva'
            have e0 : wr.cell? ⟨n, m * 4, none⟩ = some (.int .i64 (it.kind : Int)) := hcc 0 (by decide)
            have e1 : wr.cell? ⟨n, m * 4 + 1, none⟩ = some (.string it.name) := hcc 1 (by decide)
            have e2 : wr.cell? ⟨n, m * 4 + 2, none⟩ = some (.int .u8 (it.mark : Int)) := hcc 2 (by decide)
            have e3 : wr.cell? ⟨n, m * 4 + 3, none⟩ = some (.slice sa sn sc) := hcc 3 (by decide)
            have k0 : wr.cell? ⟨n', m * 4, none⟩ = some (.int .i64 (it.kind : Int)) := hcc' 0 (by decide)
            have k1 : wr.cell? ⟨n', m * 4 + 1, none⟩ = some (.string it.name) := hcc' 1 (by decide)
            have k2 : wr.cell? ⟨n', m * 4 + 2, none⟩ = some (.int .u8 (it.mark : Int)) := hcc' 2 (by decide)
            have k3 : wr.cell? ⟨n', m * 4 + 3, none⟩ = some (.slice sa' sn' sc') := hcc' 3 (by decide)
            have lg : g < wr.heap.size := by have := hF g hg; have := hbw.size; omega
            have lg' : g' < wr.heap.size := by have := hF' g' hg'; have := hbw.size; omega
            have ln : n < wr.heap.size := by have := hF n hn; have := hbw.size; omega
            have ln' : n' < wr.heap.size := by have := hF' n' hn'; have := hbw.size; omega
            clear hcc hcc' c0 d0 hi hi' h h'
            have hsx : ((wr.alloc (.cells #[.int .i64 (it.kind : Int), .string it.name, .int .u8 (it.mark : Int), .slice sa sn sc] 86)).alloc (.cells #[.int .i64 (it.kind : Int), .string it.name, .int .u8 (it.mark : Int), .slice sa' sn' sc'] 86)).heap.size = wr.heap.size + 2 := by simp
            have mv : ∀ b, b < wr.heap.size → ((wr.alloc (.cells #[.int .i64 (it.kind : Int), .string it.name, .int .u8 (it.mark : Int), .slice sa sn sc] 86)).alloc (.cells #[.int .i64 (it.kind : Int), .string it.name, .int .u8 (it.mark : Int), .slice sa' sn' sc'] 86)).heap[b]? = wr.heap[b]? := fun b hb' => by
              rw [Below.heap_alloc _ _ _ (by simp; omega), Below.heap_alloc _ _ _ hb']
            have ha2 : AltsIn YP d F ((wr.alloc (.cells #[.int .i64 (it.kind : Int), .string it.name, .int .u8 (it.mark : Int), .slice sa sn sc] 86)).alloc (.cells #[.int .i64 (it.kind : Int), .string it.name, .int .u8 (it.mark : Int), .slice sa' sn' sc'] 86)) _ it.alts := AltsIn.move (fun b hb' => mv b (by have := hF b hb'; have := hbw.size; omega)) (fun _ h => h) ha
            have ha2' : AltsIn YP d F' ((wr.alloc (.cells #[.int .i64 (it.kind : Int), .string it.name, .int .u8 (it.mark : Int), .slice sa sn sc] 86)).alloc (.cells #[.int .i64 (it.kind : Int), .string it.name, .int .u8 (it.mark : Int), .slice sa' sn' sc'] 86)) _ it.alts := AltsIn.move (fun b hb' => mv b (by have := hF' b hb'; have := hbw.size; omega)) (fun _ h => h) ha'
            have kx := (Blk.new wr #[.int .i64 (it.kind : Int), .string it.name, .int .u8 (it.mark : Int), .slice sa sn sc] 86).alloc (.cells #[.int .i64 (it.kind : Int), .string it.name, .int .u8 (it.mark : Int), .slice sa' sn' sc'] 86)
            have ky := Blk.new (wr.alloc (.cells #[.int .i64 (it.kind : Int), .string it.name, .int .u8 (it.mark : Int), .slice sa sn sc] 86)) #[.int .i64 (it.kind : Int), .string it.name, .int .u8 (it.mark : Int), .slice sa' sn' sc'] 86
            rw [show (wr.alloc (.cells #[.int .i64 (it.kind : Int), .string it.name, .int .u8 (it.mark : Int), .slice sa sn sc] 86)).heap.size = wr.heap.size + 1 by simp] at ky
            have hb1 : Below wz.heap.size wz ((wr.alloc (.cells #[.int .i64 (it.kind : Int), .string it.name, .int .u8 (it.mark : Int), .slice sa sn sc] 86)).alloc (.cells #[.int .i64 (it.kind : Int), .string it.name, .int .u8 (it.mark : Int), .slice sa' sn' sc'] 86)) := (hbz.alloc hbz.size _).alloc (by have := hbz.size; simp; omega) _
            go_wp2_with fail
            refine (IH F F' _ _ _ _ (fun b hb' => by have := hF b hb'; have := hbw.size; rw [hsx]; omega) (fun b hb' => by have := hF' b hb'; have := hbw.size; rw [hsx]; omega) ha2 ha2').mono ?_
            rintro e w2 ⟨rfl, hb2⟩
            rw [hsx] at hb2
            have kx2 : Blk w2 wr.heap.size _ 86 := (hb2.block _ (by omega)).trans kx
            have ky2 : Blk w2 (wr.heap.size + 1) _ 86 := (hb2.block _ (by omega)).trans ky
            have x0 : w2.cell? ⟨wr.heap.size, 0, none⟩ = some (.int .i64 (it.kind : Int)) := kx2.cell 0
            have x1 : w2.cell? ⟨wr.heap.size, 1, none⟩ = some (.string it.name) := kx2.cell 1
            have x2 : w2.cell? ⟨wr.heap.size, 2, none⟩ = some (.int .u8 (it.mark : Int)) := kx2.cell 2
            have y0 : w2.cell? ⟨wr.heap.size + 1, 0, none⟩ = some (.int .i64 (it.kind : Int)) := ky2.cell 0
            have y1 : w2.cell? ⟨wr.heap.size + 1, 1, none⟩ = some (.string it.name) := ky2.cell 1
            have y2 : w2.cell? ⟨wr.heap.size + 1, 2, none⟩ = some (.int .u8 (it.mark : Int)) := ky2.cell 2
            have hb3 : Below wz.heap.size wz w2 := hb1.trans (hb2.mono (by have := hbz.size; omega))
            clear kx ky kx2 ky2 ha2 ha2' mv hsx hb1 ha ha' e0 e1 e2 e3 k0 k1 k2 k3 c0r d0r eg eg'
            go_wp2_with fail
            go_roundg (its.length - (m + 1))
            case measure => omega
            case rel => exact ⟨m + 1, by omega, by go_num, hb3⟩
          · clear c0 d0
            go_wp2_with fail
            go_roundg (l.length - (j + 1))
            case measure => omega
            case rel => exact ⟨j + 1, by omega, by go_num, hbw⟩
    · go_wp2_with fail
      go_ret
      exact ⟨rfl, hb⟩
theorem equal_at : ∀ d, AltsEqual d
  | 0 => equal_zero
  | d + 1 => equal_succ (equal_at d)
end Go.Proofs.Ytonkcljapkeidaa
namespace Go.Proofs.Ytonkcljapkeidaa
open Go.RowKit
open Lx (Tk)
open Tr
set_option maxHeartbeats 4000000 in
set_option maxRecDepth 100000 in
theorem rules_equal (F F' : Nat → Prop) (w : World) (v v' : Value) (l : List Lx.Rl) (hF : ∀ b, F b → b < w.heap.size) (hF' : ∀ b, F' b → b < w.heap.size) (h : Tr.Seq F w 55 2 cR (KR F w) v l) (h' : Tr.Seq F' w 55 2 cR (KR F' w) v' l) :
    Calls Try.prog 16 #[v, v'] w fun e w' => e = .returned (.bool true) ∧ Below w.heap.size w w' := by
  obtain ⟨la, lc, hvl, hlm⟩ := Seq.len h
  obtain ⟨la', lc', hvL, -⟩ := Seq.len h'
  subst hvl hvL
  unfold maxLen at hlm
  go_enter Try.func16, Try.ntmps16
  go_wp2_with fail
  go_loopg [5] l.length (fun k i wr => ∃ j : Nat, j + k = l.length ∧ i = .int .i64 j ∧ Below w.heap.size w wr)
  case atStart => exact ⟨0, by omega, rfl, Below.refl _ _⟩
  case round =>
    obtain ⟨j, hk, rfl, hb⟩ := hrel
    by_cases hlt : j < l.length
    · have h1 := h.move (fun b hb' => hb.block b (hF b hb')) (fun _ h => h) fun _ _ h => rul_movable _ _ _ _ _ _ (fun b hb' => hb.block b (hF b hb')) (fun _ h => h) h
      have h2 := h'.move (fun b hb' => hb.block b (hF' b hb')) (fun _ h => h) fun _ _ h => rul_movable _ _ _ _ _ _ (fun b hb' => hb.block b (hF' b hb')) (fun _ h => h) h
      obtain ⟨n, cap, va, hv, hn, hi, hc⟩ := Seq.at h1 (fun _ => rfl) hlt
      obtain ⟨n', cap', va', hv', hn', hi', hc'⟩ := Seq.at h2 (fun _ => rfl) hlt
      cases hv
      cases hv'
      generalize l[j] = x at hi hc hi' hc'
      obtain ⟨ta, tn, tc, hva⟩ := AltsIn.form hi
      obtain ⟨ta', tn', tc', hva'⟩ := AltsIn.form hi'
      subst hva hva'
      have hi1 : AltsIn YP 9 F wr.drew _ x.alts := AltsIn.move (fun _ _ => rfl) (fun _ h => h) hi
      have hi2 : AltsIn YP 9 F' wr.drew _ x.alts := AltsIn.move (fun _ _ => rfl) (fun _ h => h) hi'
      have c0 : wr.cell? ⟨n, j * 2, none⟩ = some (.string x.name) := hc 0 (by decide)
      have c1 : wr.cell? ⟨n, j * 2 + 1, none⟩ = some (.slice ta tn tc) := hc 1 (by decide)
      have d0 : wr.cell? ⟨n', j * 2, none⟩ = some (.string x.name) := hc' 0 (by decide)
      have d1 : wr.cell? ⟨n', j * 2 + 1, none⟩ = some (.slice ta' tn' tc') := hc' 1 (by decide)
      have ln : n < w.heap.size := hF n hn
      have ln' : n' < w.heap.size := hF' n' hn'
      have hsz := hb.size
      clear h h' h1 h2 hc hc' hi hi'
      go_wp2_with fail
      go_region_law (refine step_call rfl 28 #[.slice ta tn tc, .slice ta' tn' tc'] (by go_simp) (equal_at 9 F F' _ _ _ x.alts (fun b hb' => Nat.lt_of_lt_of_le (hF b hb') hsz) (fun b hb' => Nat.lt_of_lt_of_le (hF' b hb') hsz) hi1 hi2) ?_; rintro e w1 ⟨rfl, hb1⟩; refine ⟨_, rfl, ?_⟩)
      all_goals
        have hb1' : Below wr.heap.size wr w1 := ⟨hb1.os, hb1.tape, hb1.output, hb1.size, hb1.block⟩
        have c0' : w1.cell? ⟨n, j * 2, none⟩ = some (.string x.name) := (World.cell?_of_block (w := wr) (hb1'.block n (by omega))).trans c0
        have d0' : w1.cell? ⟨n', j * 2, none⟩ = some (.string x.name) := (World.cell?_of_block (w := wr) (hb1'.block n' (by omega))).trans d0
        have hb2 : Below w.heap.size w w1 := hb.trans (hb1'.mono hsz)
        clear hb1 hb1' c0 c1 d0 d1 hi1 hi2
        go_wp2_with fail
        go_quiet (fail)
        go_wp2_with fail
        go_roundg (l.length - (j + 1))
        case measure => omega
        case rel => exact ⟨j + 1, by omega, by go_num, ⟨hb2.os, hb2.tape, hb2.output, hb2.size, hb2.block⟩⟩
    · go_wp2_with fail
      go_ret
      exact ⟨rfl, hb⟩
set_option maxHeartbeats 4000000 in
set_option maxRecDepth 100000 in
theorem levels_equal (F F' : Nat → Prop) (w : World) (v v' : Value) (l : List Lx.Lv) (hF : ∀ b, F b → b < w.heap.size) (hF' : ∀ b, F' b → b < w.heap.size) (h : Tr.Seq F w 57 2 cL (KL F w) v l) (h' : Tr.Seq F' w 57 2 cL (KL F' w) v' l) :
    Calls Try.prog 17 #[v, v'] w fun e w' => e = .returned (.bool true) ∧ Below w.heap.size w w' := by
  obtain ⟨la, lc, hvl, hlm⟩ := Seq.len h
  obtain ⟨la', lc', hvL, -⟩ := Seq.len h'
  subst hvl hvL
  unfold maxLen at hlm
  go_enter Try.func17, Try.ntmps17
  go_wp2_with fail
  go_loopg [5] l.length (fun k i wr => ∃ j : Nat, j + k = l.length ∧ i = .int .i64 j ∧ Below w.heap.size w wr)
  case atStart => exact ⟨0, by omega, rfl, Below.refl _ _⟩
  case round =>
    obtain ⟨j, hk, rfl, hb⟩ := hrel
    by_cases hlt : j < l.length
    · have h1 := h.move (fun b hb' => hb.block b (hF b hb')) (fun _ h => h) fun _ _ h => lev_movable _ _ _ _ _ _ (fun b hb' => hb.block b (hF b hb')) (fun _ h => h) h
      have h2 := h'.move (fun b hb' => hb.block b (hF' b hb')) (fun _ h => h) fun _ _ h => lev_movable _ _ _ _ _ _ (fun b hb' => hb.block b (hF' b hb')) (fun _ h => h) h
      obtain ⟨n, cap, va, hv, hn, hi, hc⟩ := Seq.at h1 (fun _ => rfl) hlt
      obtain ⟨n', cap', va', hv', hn', hi', hc'⟩ := Seq.at h2 (fun _ => rfl) hlt
      cases hv
      cases hv'
      generalize l[j] = x at hi hc hi' hc'
      have o1 := toks_own hi
      have o2 := toks_own hi'
      obtain ⟨ta, tn, tc, rfl⟩ := own_form o1
      obtain ⟨ta', tn', tc', rfl⟩ := own_form o2
      have c0 : wr.cell? ⟨n, j * 2, none⟩ = some (.int .i64 (x.kind : Int)) := hc 0 (by decide)
      have c1 : wr.cell? ⟨n, j * 2 + 1, none⟩ = some (.slice ta tn tc) := hc 1 (by decide)
      have d0 : wr.cell? ⟨n', j * 2, none⟩ = some (.int .i64 (x.kind : Int)) := hc' 0 (by decide)
      have d1 : wr.cell? ⟨n', j * 2 + 1, none⟩ = some (.slice ta' tn' tc') := hc' 1 (by decide)
      have ln : n < w.heap.size := hF n hn
      have ln' : n' < w.heap.size := hF' n' hn'
      have hsz := hb.size
      clear h h' h1 h2 hc hc' hi hi'
      go_wp2_with fail
      go_region_law (refine step_call rfl 25 #[.slice ta tn tc, .slice ta' tn' tc'] (by go_simp) (words_toks x.tokens _ _ _ o1.drew o2.drew) ?_; rintro e w1 ⟨rfl, hb1⟩; refine ⟨_, rfl, ?_⟩)
      all_goals
        have hb1' : Below wr.heap.size wr w1 := ⟨hb1.os, hb1.tape, hb1.output, hb1.size, hb1.block⟩
        have c0' : w1.cell? ⟨n, j * 2, none⟩ = some (.int .i64 (x.kind : Int)) := (World.cell?_of_block (w := wr) (hb1'.block n (by omega))).trans c0
        have d0' : w1.cell? ⟨n', j * 2, none⟩ = some (.int .i64 (x.kind : Int)) := (World.cell?_of_block (w := wr) (hb1'.block n' (by omega))).trans d0
        have hb2 : Below w.heap.size w w1 := hb.trans (hb1'.mono hsz)
        clear hb1 hb1' c0 c1 d0 d1 o1 o2
        go_wp2_with fail
        go_quiet (fail)
        go_wp2_with fail
        go_roundg (l.length - (j + 1))
        case measure => omega
        case rel => exact ⟨j + 1, by omega, by go_num, ⟨hb2.os, hb2.tape, hb2.output, hb2.size, hb2.block⟩⟩
    · go_wp2_with fail
      go_ret
      exact ⟨rfl, hb⟩
end Go.Proofs.Ytonkcljapkeidaa
namespace Go.Proofs.Ytonkcljapkeidaa
open Go.RowKit
open Lx (Tk)
open Tr
theorem swap_row {α : Type} {R : α → α → Prop} {K K' : Value → α → Prop} {c : Value × α → List Value} (hk : ∀ v x y, R x y → K v x → c (v, x) = c (v, y) ∧ K' v y) : ∀ (ps : List (Value × α)) (m : List α), Lx.All2 R (ps.map Prod.snd) m → (∀ q, q ∈ ps → K q.1 q.2) → ∃ ps' : List (Value × α), ps'.map Prod.snd = m ∧ ps'.flatMap c = ps.flatMap c ∧ ∀ q, q ∈ ps' → K' q.1 q.2
  | [], [], _, _ => ⟨[], rfl, rfl, fun q h => by cases h⟩
  | p :: ps, y :: m, h, hq => by
    obtain ⟨ps', h1, h2, h3⟩ := swap_row hk ps m h.2 (fun q hq' => hq q (by simp [hq']))
    obtain ⟨e1, e2⟩ := hk p.1 p.2 y h.1 (hq p (by simp))
    refine ⟨(p.1, y) :: ps', by simp [h1], ?_, fun q hq' => ?_⟩
    · rw [List.flatMap_cons, List.flatMap_cons, h2, ← e1]
    · rcases List.mem_cons.1 hq' with rfl | hq'
      · exact e2
      · exact h3 q hq'
  | [], _ :: _, h, _ => h.elim
  | _ :: _, [], h, _ => h.elim
theorem Tr.Seq.swap {α : Type} {R : α → α → Prop} {F : Nat → Prop} {w : World} {e s : Nat} {c : Value × α → List Value} {K K' : Value → α → Prop} {v : Value} {l m : List α} (h : Tr.Seq F w e s c K v l) (ha : Lx.All2 R l m) (hk : ∀ v x y, R x y → K v x → c (v, x) = c (v, y) ∧ K' v y) : Tr.Seq F w e s c K' v m := by
  obtain ⟨ps, h1, h2, h3, h4⟩ := h
  obtain ⟨ps', g1, g2, g3⟩ := swap_row hk ps m (by rw [h1]; exact ha) h4
  exact ⟨ps', g1, by rw [g2, ← ha.len]; exact h2, h3, g3⟩
theorem AltsIn.swap {F : Nat → Prop} {w : World} : ∀ (d : Nat) {v : Value} {l m : List Lx.Alt}, Lx.AltsEq d l m → AltsIn YP d F w v l → AltsIn YP d F w v m
  | 0, v, l, m, he, h => ⟨h.1, he.2⟩
  | d + 1, v, l, m, he, h => by
    refine Seq.swap (K := fun vi (a : Lx.Alt) => ItemsBy YP (AltsIn YP d F w) F w vi a.1) h he fun vi a b hab hi => ⟨?_, ?_⟩
    · show [vi, Value.string a.2.1] = [vi, Value.string b.2.1]
      rw [hab.2]
    · refine Seq.swap (K := fun va (it : Lx.It) => AltsIn YP d F w va it.alts) hi hab.1 fun va x y hxy hx => ⟨?_, AltsIn.swap d hxy.2.2.2 hx⟩
      show [Value.int .i64 (x.kind : Int), .string x.name, .int .u8 (x.mark : Int), va] = [Value.int .i64 (y.kind : Int), .string y.name, .int .u8 (y.mark : Int), va]
      rw [hxy.1, hxy.2.1, hxy.2.2.1]
theorem tx_all : ∀ {l m : List Tk}, Lx.TX l m → Lx.All2 (fun t u : Tk => t.1 = u.1) l m
  | [], [], _ => trivial
  | [], _ :: _, h => by cases h
  | _ :: _, [], h => by cases h
  | t :: l, u :: m, h => ⟨(List.cons.inj h).1, tx_all (List.cons.inj h).2⟩
theorem GramIn.swap {F : Nat → Prop} {w : World} {vl vr : Value} {g g' : Lx.Gr} (h : GramIn F w vl vr g) (e : Lx.GrEq g g') : GramIn F w vl vr g' := by
  refine ⟨h.1.swap e.1 fun v x y hxy hx => ⟨?_, ?_⟩, h.2.swap e.2 fun v x y hxy hx => ⟨?_, ?_⟩⟩
  · show [Value.int .i64 (x.kind : Int), v] = [Value.int .i64 (y.kind : Int), v]
    rw [hxy.1]
  · refine Seq.swap hx (tx_all hxy.2) fun v t u htu _ => ⟨?_, trivial⟩
    show [Value.string t.1] = [Value.string u.1]
    rw [htu]
  · show [Value.string x.name, v] = [Value.string y.name, v]
    rw [hxy.1]
  · exact AltsIn.swap 9 hxy.2 hx
theorem GramIn.below {F : Nat → Prop} {w w' : World} {vl vr : Value} {g : Lx.Gr} (h : GramIn F w vl vr g) (hF : ∀ b, F b → b < w.heap.size) (hb : Below w.heap.size w w') : GramIn F w' vl vr g :=
  GramIn.move h (fun b hb' => hb.block b (hF b hb')) (fun _ h => h)
namespace Lx
/-- The plain form of a text. -/
def plainOf (s : ByteArray) : ByteArray := ⟨(formL noText (lex s)).toArray⟩
theorem plain_tx (s : ByteArray) : TX (lex s) (lex (plainOf s)) := (form_lex s).symm
theorem plain_again (s : ByteArray) : plainOf (plainOf s) = plainOf s := by
  have h : formL noText (lex (plainOf s)) = formL noText (lex s) := by rw [formL_B, formL_B, show (lex (plainOf s)).map Prod.fst = (lex s).map Prod.fst from form_lex s]
  exact congrArg (fun l : List UInt8 => (⟨l.toArray⟩ : ByteArray)) h
end Lx
theorem PrintEnds.okT {w w' : World} {s : ByteArray} {g : Lx.Gr} {e : Ending} (h : PrintEnds w s e w') (hr : Lx.parse s = .ok g) {T : ByteArray} (hT : T = Lx.plainOf s) : e = .returned (.tuple #[.string T, .int .i64 0, .int .i64 0]) ∧ Below w.heap.size w w' := by
  rw [hT]; exact h.ok hr
theorem PrintEnds.err {w w' : World} {s : ByteArray} {n a : Nat} {e : Ending} (h : PrintEnds w s e w') (hr : Lx.parse s = .error (n, a)) : e = .returned (.tuple #[.string ⟨#[]⟩, .int .i64 (n : Int), .int .i64 (a : Int)]) ∧ Below w.heap.size w w' := by
  unfold PrintEnds at h; rw [hr] at h; exact ⟨h.2, h.1⟩
set_option maxHeartbeats 4000000 in
set_option maxRecDepth 100000 in
theorem GramBack_any (s : ByteArray) (w : World) (hmax : s.size ≤ maxLen) : Calls Try.prog 5 #[.string s] w fun e w' => e = .returned (.bool true) ∧ Below w.heap.size w w' := by
  have P := Parse_any s w hmax
  have PP := fun w => Print_any s w hmax
  clear hmax
  go_enter Try.func5, Try.ntmps5
  go_wp2_with fail
  refine P.mono ?_
  intro e w1 he
  obtain ⟨hb1, ⟨g, vl, vr, hr, rfl, hg⟩ | ⟨n, a, hn, hr, rfl⟩⟩ := he.out
  · have HR : Hid (Lx.parse s = .ok g) := hr
    obtain ⟨T, hT⟩ : ∃ T, T = Lx.plainOf s := ⟨_, rfl⟩
    have HT : Hid (T = Lx.plainOf s) := hT
    clear he P hr hT
    obtain ⟨la, lc, rfl, -⟩ := Seq.len hg.1
    obtain ⟨ra, rc, rfl, -⟩ := Seq.len hg.2
    have kg := Blk.new w1 #[.slice la g.levels.length lc, .slice ra g.rules.length rc] 25
    have hbA := hb1.alloc hb1.size (.cells #[.slice la g.levels.length lc, .slice ra g.rules.length rc] 25)
    have hlA : (w1.alloc (.cells #[.slice la g.levels.length lc, .slice ra g.rules.length rc] 25)).heap.size = w1.heap.size + 1 := by simp
    have hgA : GramIn (In w.heap.size w1.heap.size) (w1.alloc (.cells #[.slice la g.levels.length lc, .slice ra g.rules.length rc] 25)) (.slice la g.levels.length lc) (.slice ra g.rules.length rc) g := GramIn.move hg (fun b hb => Below.heap_alloc _ _ _ hb.2) (fun _ h => h)
    go_wp2_with fail
    refine (PP _).mono ?_
    intro e w2 he
    obtain ⟨rfl, hb2⟩ := he.okT HR.out HT.out
    rw [hlA] at hb2
    have kg2 : Blk w2 w1.heap.size _ 25 := (hb2.block _ (by omega)).trans kg
    have hg2 := hgA.move (w' := w2) (fun b hb => hb2.block b (by have := hb.2; omega)) (fun _ h => h)
    have hs2 : w1.heap.size + 1 ≤ w2.heap.size := by have := hb2.size; omega
    have hbB : Below w.heap.size w w2 := hbA.trans (hb2.mono (by have := hb1.size; omega))
    have P := rparse_any s w2
    clear he kg hgA hbA hb2 hb1 hg
    go_wp2_with fail
    refine P.mono ?_
    intro e w3 he
    obtain ⟨hb3, ⟨g', vL, vR, sgx, hr', rfl, hg3⟩ | ⟨n, a, hr', rfl⟩⟩ := he.out
    case inr => rw [HR.out] at hr'; cases hr'
    obtain ⟨La, Lc, rfl, -⟩ := Seq.len hg3.1
    obtain ⟨Ra, Rc, rfl, -⟩ := Seq.len hg3.2
    have kg3 : Blk w3 w1.heap.size _ 25 := (hb3.block _ (by omega)).trans kg2
    have hg4 := hg2.move (w' := w3) (fun b hb => hb3.block b (by have := hb.2; omega)) (fun _ h => h)
    have hs3 : w1.heap.size + 1 ≤ w3.heap.size := by have := hb3.size; omega
    have hbC : Below w.heap.size w w3 := hbB.trans (hb3.mono (by have := hbB.size; omega))
    clear he P hr' hg3 kg2 hg2 hb3 hbB hs2
    have hbD := hbC.alloc hbC.size (.cells #[.slice La g'.levels.length Lc, .slice Ra g'.rules.length Rc] 32)
    have hlD : (w3.alloc (.cells #[.slice La g'.levels.length Lc, .slice Ra g'.rules.length Rc] 32)).heap.size = w3.heap.size + 1 := by simp
    have kg5 := kg3.alloc (.cells #[.slice La g'.levels.length Lc, .slice Ra g'.rules.length Rc] 32)
    have hg5 : GramIn (In w.heap.size w1.heap.size) (w3.alloc (.cells #[.slice La g'.levels.length Lc, .slice Ra g'.rules.length Rc] 32)) (.slice la g.levels.length lc) (.slice ra g.rules.length rc) g := GramIn.move hg4 (fun b hb => Below.heap_alloc _ _ _ (by have := hb.2; omega)) (fun _ h => h)
    clear kg3 hg4
    by_cases hlong : 2000 < T.size
    · clear kg5 hg5
      go_wp2_with (first
        | (go_at_call 12; refine (num_any _ _).mono ?_; rintro e w' ⟨rfl, hw'⟩; obtain rfl := hw'.symm)
        | (go_at_call 13; refine (alive_any _).mono ?_; rintro e w4 ⟨rfl, hb4⟩))
      go_ret
      exact ⟨rfl, hbD.trans (hb4.mono hbD.size)⟩
    · obtain ⟨g2, hr2, he2⟩ := Lx.parse_same HR.out (t := T) (by omega) (by rw [HT.out]; exact Lx.plain_tx s)
      have HR2 : Hid (Lx.parse T = .ok g2) := hr2
      have HT2 : Hid (T = Lx.plainOf T) := by show _ = _; rw [HT.out]; exact (Lx.plain_again s).symm
      have P := Parse_any T (w3.alloc (.cells #[.slice La g'.levels.length Lc, .slice Ra g'.rules.length Rc] 32)) (by unfold maxLen; omega)
      have PT := fun w => Print_any T w (by unfold maxLen; omega)
      have hg6 := hg5.swap he2
      have hl1 : g.levels.length = g2.levels.length := he2.1.len
      have hl2 : g.rules.length = g2.rules.length := he2.2.len
      rw [hl1, hl2] at hg6 kg5
      rw [hl1, hl2]
      have hlong' : T.size ≤ 2000 := by omega
      clear hr2 he2 hg5 hl1 hl2 PP hlong
      go_wp2_with (first
        | (go_at_call 12; refine (num_any _ _).mono ?_; rintro e w' ⟨rfl, hw'⟩; obtain rfl := hw'.symm))
      refine P.mono ?_
      intro e w4 he
      obtain ⟨hb4, ⟨g3, vl2, vr2, hr3, rfl, hh⟩ | ⟨n, a, hn, hr3, rfl⟩⟩ := he.out
      case inr => rw [HR2.out] at hr3; cases hr3
      rw [HR2.out] at hr3
      cases hr3
      rw [hlD] at hb4 hh
      obtain ⟨ka, kc, rfl, -⟩ := Seq.len hh.1
      obtain ⟨ja, jc, rfl, -⟩ := Seq.len hh.2
      have hs4 : w3.heap.size + 1 ≤ w4.heap.size := by have := hb4.size; omega
      have kg6 : Blk w4 w1.heap.size _ 25 := (hb4.block _ (by omega)).trans kg5
      have hg7 := hg6.move (w' := w4) (fun b hb => hb4.block b (by have := hb.2; omega)) (fun _ h => h)
      have hbE : Below w.heap.size w w4 := hbD.trans (hb4.mono (by have := hbD.size; omega))
      have kh := Blk.new w4 #[.slice ka g2.levels.length kc, .slice ja g2.rules.length jc] 25
      have kg8 := kg6.alloc (.cells #[.slice ka g2.levels.length kc, .slice ja g2.rules.length jc] 25)
      have hlF : (w4.alloc (.cells #[.slice ka g2.levels.length kc, .slice ja g2.rules.length jc] 25)).heap.size = w4.heap.size + 1 := by simp
      have hbF := hbE.alloc hbE.size (.cells #[.slice ka g2.levels.length kc, .slice ja g2.rules.length jc] 25)
      have hg8 : GramIn (In w.heap.size w1.heap.size) (w4.alloc (.cells #[.slice ka g2.levels.length kc, .slice ja g2.rules.length jc] 25)) (.slice la g2.levels.length lc) (.slice ra g2.rules.length rc) g2 := GramIn.move hg7 (fun b hb => Below.heap_alloc _ _ _ (by have := hb.2; omega)) (fun _ h => h)
      have hh8 : GramIn (In (w3.heap.size + 1) w4.heap.size) (w4.alloc (.cells #[.slice ka g2.levels.length kc, .slice ja g2.rules.length jc] 25)) (.slice ka g2.levels.length kc) (.slice ja g2.rules.length jc) g2 := GramIn.move hh (fun b hb => Below.heap_alloc _ _ _ hb.2) (fun _ h => h)
      clear he P hb4 kg5 kg6 hg6 hg7 hh hbE
      go_wp2_with fail
      refine (PT _).mono ?_
      intro e w5 he
      obtain ⟨rfl, hb5⟩ := he.okT HR2.out HT2.out
      rw [hlF] at hb5
      have kgX : Blk w5 w1.heap.size _ 25 := (hb5.block _ (by omega)).trans kg8
      have khX : Blk w5 w4.heap.size _ 25 := (hb5.block _ (by omega)).trans kh
      have hgX := hg8.move (w' := w5) (fun b hb => hb5.block b (by have := hb.2; omega)) (fun _ h => h)
      have hhX := hh8.move (w' := w5) (fun b hb => hb5.block b (by have := hb.2; omega)) (fun _ h => h)
      have hs5 : w4.heap.size + 1 ≤ w5.heap.size := by have := hb5.size; omega
      have hbG : Below w.heap.size w w5 := hbF.trans (hb5.mono (by have := hbF.size; omega))
      have x0 : w5.cell? ⟨w1.heap.size, 0, none⟩ = some (.slice la g2.levels.length lc) := kgX.cell 0
      have x1 : w5.cell? ⟨w1.heap.size, 1, none⟩ = some (.slice ra g2.rules.length rc) := kgX.cell 1
      have y0 : w5.cell? ⟨w4.heap.size, 0, none⟩ = some (.slice ka g2.levels.length kc) := khX.cell 0
      have y1 : w5.cell? ⟨w4.heap.size, 1, none⟩ = some (.slice ja g2.rules.length jc) := khX.cell 1
      clear he PT hb5 kg8 kh hg8 hh8 hbF
      have RE := rules_equal _ _ w5 _ _ _ (fun b hb => by have := hb.2; omega) (fun b hb => by have := hb.2; omega) hgX.2 hhX.2
      go_wp2_with fail
      refine RE.mono ?_
      rintro e w6 ⟨rfl, hb6⟩
      have kgY : Blk w6 w1.heap.size _ 25 := (hb6.block _ (by omega)).trans kgX
      have khY : Blk w6 w4.heap.size _ 25 := (hb6.block _ (by omega)).trans khX
      have hgY := hgX.move (w' := w6) (fun b hb => hb6.block b (by have := hb.2; omega)) (fun _ h => h)
      have hhY := hhX.move (w' := w6) (fun b hb => hb6.block b (by have := hb.2; omega)) (fun _ h => h)
      have hs6 : w4.heap.size + 1 ≤ w6.heap.size := by have := hb6.size; omega
      have hbH : Below w.heap.size w w6 := hbG.trans (hb6.mono hbG.size)
      have x0' : w6.cell? ⟨w1.heap.size, 0, none⟩ = some (.slice la g2.levels.length lc) := kgY.cell 0
      have y0' : w6.cell? ⟨w4.heap.size, 0, none⟩ = some (.slice ka g2.levels.length kc) := khY.cell 0
      clear RE hb6 kgX khX hgX hhX x0 x1 y0 y1 kgY khY
      have LE := levels_equal _ _ w6 _ _ _ (fun b hb => by have := hb.2; omega) (fun b hb => by have := hb.2; omega) hgY.1 hhY.1
      go_wp2_with fail
      refine LE.mono ?_
      rintro e w7 ⟨rfl, hb7⟩
      have hbI : Below w.heap.size w w7 := hbH.trans (hb7.mono hbH.size)
      clear LE hb7 hgY hhY
      go_wp2_with (first
        | (go_at_call 12; refine (num_any _ _).mono ?_; rintro e w' ⟨rfl, hw'⟩; obtain rfl := hw'.symm)
        | (go_at_call 13; refine (alive_any _).mono ?_; rintro e w8 ⟨rfl, hb8⟩))
      go_ret
      exact ⟨rfl, hbI.trans (hb8.mono hbI.size)⟩
  · have HR : Hid (Lx.parse s = .error (n, a)) := hr
    clear he P hr
    have kg := Blk.new w1 #[.slice none 0 0, .slice none 0 0] 25
    have hbA := hb1.alloc hb1.size (.cells #[.slice none 0 0, .slice none 0 0] 25)
    have hlA : (w1.alloc (.cells #[.slice none 0 0, .slice none 0 0] 25)).heap.size = w1.heap.size + 1 := by simp
    go_wp2_with fail
    refine (PP _).mono ?_
    intro e w2 he
    obtain ⟨rfl, hb2⟩ := he.err HR.out
    rw [hlA] at hb2
    have kg2 : Blk w2 w1.heap.size _ 25 := (hb2.block _ (by omega)).trans kg
    have hs2 : w1.heap.size + 1 ≤ w2.heap.size := by have := hb2.size; omega
    have hbB : Below w.heap.size w w2 := hbA.trans (hb2.mono (by have := hb1.size; omega))
    have P := rparse_any s w2
    clear he kg hbA hb2 hb1
    go_wp2_with fail
    refine P.mono ?_
    intro e w3 he
    obtain ⟨hb3, ⟨g', vL, vR, sgx, hr', rfl, hg3⟩ | ⟨n', a', hr', rfl⟩⟩ := he.out
    case inl => rw [HR.out] at hr'; cases hr'
    rw [HR.out] at hr'
    cases hr'
    have kg3 : Blk w3 w1.heap.size _ 25 := (hb3.block _ (by omega)).trans kg2
    have hs3 : w1.heap.size < w3.heap.size := by have := hb3.size; omega
    have hbC : Below w.heap.size w w3 := hbB.trans (hb3.mono (by have := hbB.size; omega))
    have hbD := hbC.alloc hbC.size (.cells #[.slice none 0 0, .slice none 0 0] 32)
    have x0 : w3.cell? ⟨w1.heap.size, 0, none⟩ = some (.slice none 0 0) := kg3.cell 0
    have x1 : w3.cell? ⟨w1.heap.size, 1, none⟩ = some (.slice none 0 0) := kg3.cell 1
    have hn0 : ((n : Int) == 0) = false := beq_eq_false_iff_ne.2 (by omega)
    have q23 : ∀ w, (binOp .eql 23 (.slice none 0 0) (.slice none 0 0)).run Try.prog w = .ok (.bool true) w := fun w => run_eql_nil_slice w 23 55 none 0 0 0 0 Try.underlying23
    have q22 : ∀ w, (binOp .eql 22 (.slice none 0 0) (.slice none 0 0)).run Try.prog w = .ok (.bool true) w := fun w => run_eql_nil_slice w 22 57 none 0 0 0 0 Try.underlying22
    clear he P kg2 kg3 hb3 hbB
    go_wp2_with (first
      | (go_at_call 12; refine (num_any _ _).mono ?_; rintro e w' ⟨rfl, hw'⟩; obtain rfl := hw'.symm)
      | (go_at_call 13; refine (alive_any _).mono ?_; rintro e w4 ⟨rfl, hb4⟩))
    go_ret
    exact ⟨rfl, hbD.trans (hb4.mono hbD.size)⟩
end Go.Proofs.Ytonkcljapkeidaa
namespace Go.Proofs.Ytonkcljapkeidaa
open Go.RowKit
namespace Lx
/-- a sign, further on -/
def sh (k : Nat) (t : Tk) : Tk := (t.1, t.2 + k)
theorem lexP_sh (k : Nat) : ∀ (f o : Nat) (l : List UInt8), lexP f (o + k) l = (lexP f o l).map (sh k)
  | 0, _, _ => rfl
  | _ + 1, _, [] => rfl
  | f + 1, o, c :: r => by
    simp only [lexP, List.map_cons]
    rw [show o + k + ((c :: r).length - (gapL ((c :: r).drop (signLen (c :: r))) false).length) = o + ((c :: r).length - (gapL ((c :: r).drop (signLen (c :: r))) false).length) + k by omega, lexP_sh k f]
    rfl
theorem gapL_len : ∀ (l : List UInt8) (b : Bool), (gapL l b).length ≤ l.length
  | [], _ => Nat.le_refl _
  | c :: r, b => by
    have a1 := gapL_len r false
    have a2 := gapL_len r true
    have a3 := gapL_len r b
    simp only [gapL, List.length_cons]
    split
    · omega
    · split
      · omega
      · split
        · simp
        · omega
theorem signLen_pos (c : UInt8) (r : List UInt8) : 1 ≤ signLen (c :: r) := by
  simp only [signLen]
  split <;> omega
theorem lexP_fuel : ∀ (f f' o : Nat) (l : List UInt8), l.length ≤ f → l.length ≤ f' → lexP f o l = lexP f' o l
  | 0, 0, _, _, _, _ => rfl
  | 0, _ + 1, _, [], _, _ => rfl
  | _ + 1, 0, _, [], _, _ => rfl
  | _ + 1, _ + 1, _, [], _, _ => rfl
  | 0, _, _, c :: r, h, _ => by simp at h
  | _, 0, _, c :: r, _, h => by simp at h
  | f + 1, f' + 1, o, c :: r, h, h' => by
    have h1 := gapL_len ((c :: r).drop (signLen (c :: r))) false
    have h2 := signLen_pos c r
    rw [List.length_drop] at h1
    simp only [List.length_cons] at h h' h1
    simp only [lexP]
    rw [lexP_fuel f f' _ _ (by omega) (by omega)]
def joinL (m l : List UInt8) : List UInt8 :=
  match m with
  | [] => gapL l false
  | c :: r => c :: (r ++ 10 :: l)
theorem gap_join (l2 : List UInt8) : ∀ (l1 : List UInt8) (b : Bool), gapL (l1 ++ 10 :: l2) b = joinL (gapL l1 b) l2
  | [], b => by
    show gapL (10 :: l2) b = gapL l2 false
    simp only [gapL]
    rw [if_pos (by decide)]
  | c :: r, b => by
    have a1 := gap_join l2 r false
    have a2 := gap_join l2 r true
    have a3 := gap_join l2 r b
    simp only [List.cons_append, gapL]
    split
    · exact a1
    · split
      · exact a2
      · split
        · rfl
        · exact a3
theorem take_join (l2 : List UInt8) : ∀ r : List UInt8, (r ++ 10 :: l2).takeWhile wcB = r.takeWhile wcB
  | [] => by
    have : wcB 10 = false := by decide
    simp [this]
  | c :: r => by
    simp only [List.cons_append, List.takeWhile_cons, take_join l2 r]
theorem sign_join (c : UInt8) (r l2 : List UInt8) : signLen (c :: (r ++ 10 :: l2)) = signLen (c :: r) := by
  have h := take_join l2 (c :: r)
  rw [List.cons_append] at h
  simp only [signLen, take_join, h]
theorem takeWhile_le (p : UInt8 → Bool) : ∀ l : List UInt8, (l.takeWhile p).length ≤ l.length
  | [] => Nat.le_refl _
  | c :: r => by
    have := takeWhile_le p r
    simp only [List.takeWhile_cons]
    split
    · simp; omega
    · simp
theorem signLen_le (c : UInt8) (r : List UInt8) : signLen (c :: r) ≤ (c :: r).length := by
  have h1 := takeWhile_le wcB r
  have h2 := takeWhile_le wcB (c :: r)
  simp only [signLen, List.length_cons] at *
  split <;> omega
theorem lexP_ne : ∀ (f o : Nat) (l : List UInt8), lexP f o l ≠ []
  | 0, _, _ => by simp [lexP]
  | _ + 1, _, [] => by simp [lexP]
  | _ + 1, _, _ :: _ => by simp [lexP]
theorem lexP_join (l2 : List UInt8) : ∀ (f1 f f2 o : Nat) (c : UInt8) (r : List UInt8), (c :: r).length ≤ f1 → (c :: (r ++ 10 :: l2)).length ≤ f → (gapL l2 false).length ≤ f2 →
    lexP f o (c :: (r ++ 10 :: l2)) = (lexP f1 o (c :: r)).dropLast ++ (lexP f2 (l2.length - (gapL l2 false).length) (gapL l2 false)).map (sh (o + (c :: r).length + 1))
  | 0, _, _, _, _, _, h, _, _ => by simp at h
  | f1 + 1, f, f2, o, c, r, h1, h2, h3 => by
    obtain ⟨f', rfl⟩ : ∃ f', f = f' + 1 := ⟨f - 1, by simp at h2; omega⟩
    have hp := signLen_pos c r
    have hle := signLen_le c r
    have hg := gapL_len ((c :: r).drop (signLen (c :: r))) false
    have hg2 := gapL_len l2 false
    rw [List.length_drop] at hg
    have e1 : (c :: (r ++ 10 :: l2)).take (signLen (c :: r)) = (c :: r).take (signLen (c :: r)) := by
      rw [← List.cons_append, List.take_append_of_le_length hle]
    have e2 : (c :: (r ++ 10 :: l2)).drop (signLen (c :: r)) = (c :: r).drop (signLen (c :: r)) ++ 10 :: l2 := by
      rw [← List.cons_append, List.drop_append_of_le_length hle]
    have hl : (c :: (r ++ 10 :: l2)).length = (c :: r).length + 1 + l2.length := by simp; omega
    rw [lexP, lexP, sign_join, e1, e2, gap_join]
    rw [List.dropLast_cons_of_ne_nil (lexP_ne _ _ _), List.cons_append]
    refine congrArg _ ?_
    cases hm : gapL ((c :: r).drop (signLen (c :: r))) false with
    | nil =>
      have e3 : (lexP f1 (o + ((c :: r).length - ([] : List UInt8).length)) []).dropLast = [] := by cases f1 <;> rfl
      rw [e3, List.nil_append]
      show lexP f' (o + ((c :: (r ++ 10 :: l2)).length - (gapL l2 false).length)) (gapL l2 false) = _
      rw [hl, show o + ((c :: r).length + 1 + l2.length - (gapL l2 false).length) = (l2.length - (gapL l2 false).length) + (o + (c :: r).length + 1) by omega, lexP_sh, lexP_fuel f' f2 _ _ (by rw [hl] at h2; omega) h3]
    | cons d m =>
      rw [hm] at hg
      simp only [List.length_cons] at h1 hg hp hle
      have ih := lexP_join l2 f1 f' f2 (o + ((c :: r).length - (d :: m).length)) d m (by simp; omega) (by simp at h2 ⊢; omega) h3
      show lexP f' (o + ((c :: (r ++ 10 :: l2)).length - (d :: (m ++ 10 :: l2)).length)) (d :: (m ++ 10 :: l2)) = _
      have e4 : (c :: (r ++ 10 :: l2)).length - (d :: (m ++ 10 :: l2)).length = (c :: r).length - (d :: m).length := by simp; omega
      rw [e4, ih]
      have e5 : o + ((c :: r).length - (d :: m).length) + (d :: m).length + 1 = o + (c :: r).length + 1 := by simp; omega
      rw [e5]
/-- The signs of a text, and of another behind it. -/
theorem lex_join (a b j : ByteArray) (hj : bytes j = bytes a ++ 10 :: bytes b) (ha : hd (lex a) ≠ noText) : lex j = (lex a).dropLast ++ (lex b).map (sh (a.size + 1)) := by
  have ga := gapEnd_L (s := a) (i := 0) false (Nat.zero_le _)
  have gb := gapEnd_L (s := b) (i := 0) false (Nat.zero_le _)
  have gj := gapEnd_L (s := j) (i := 0) false (Nat.zero_le _)
  have ba := gapEnd_bd (s := a) (i := 0) false (Nat.zero_le _)
  have bb := gapEnd_bd (s := b) (i := 0) false (Nat.zero_le _)
  have bj := gapEnd_bd (s := j) (i := 0) false (Nat.zero_le _)
  rw [List.drop_zero] at ga gb gj
  have la := congrArg List.length ga
  have lb := congrArg List.length gb
  have lj := congrArg List.length gj
  rw [List.length_drop, bytes_len] at la lb lj
  have hsz : j.size = a.size + 1 + b.size := by
    have := congrArg List.length hj
    simp only [List.length_append, List.length_cons, bytes_len] at this
    omega
  have hG : gapL (bytes j) false = joinL (gapL (bytes a) false) (bytes b) := by rw [hj, gap_join]
  rw [lex_P j, lex_P a, lex_P b]
  cases hm : gapL (bytes a) false with
  | nil =>
    exfalso
    apply ha
    rw [lex_P a, hm]
    cases a.size - gapEnd a 0 false <;> rfl
  | cons c r =>
    rw [hm] at hG la
    rw [hG] at lj ⊢
    have e0 : (joinL (c :: r) (bytes b)).length = (c :: r).length + 1 + b.size := by
      show (c :: (r ++ 10 :: bytes b)).length = _
      simp only [List.length_cons, List.length_append, bytes_len]; omega
    rw [e0] at lj
    have e1 : gapEnd j 0 false = gapEnd a 0 false := by simp only [List.length_cons] at *; omega
    have e2 : gapEnd b 0 false = (bytes b).length - (gapL (bytes b) false).length := by rw [bytes_len]; omega
    rw [e1]
    show lexP _ _ (c :: (r ++ 10 :: bytes b)) = _
    rw [lexP_join (bytes b) (a.size - gapEnd a 0 false) _ (b.size - gapEnd b 0 false) (gapEnd a 0 false) c r (by omega) (by
      have e3 : (c :: (r ++ 10 :: bytes b)).length = (c :: r).length + 1 + b.size := e0
      rw [e3]; omega) (by omega)]
    rw [e2, show gapEnd a 0 false + (c :: r).length + 1 = a.size + 1 by omega]
end Lx
end Go.Proofs.Ytonkcljapkeidaa
namespace Go.Proofs.Ytonkcljapkeidaa
open Go Go.RowKit
namespace Lx
theorem bnd_ok {α β : Type} {r : Res α} {k : α → List Tk → Res β} {z : β} {ts' : List Tk} (h : bnd r k = .ok (z, ts')) : ∃ x ts, r = .ok (x, ts) ∧ k x ts = .ok (z, ts') := by
  cases r with
  | error e => cases h
  | ok y => exact ⟨y.1, y.2, rfl, h⟩
/-- What is left is an end of what was there. -/
def SF {α : Type} (f : List Tk → Res α) : Prop := ∀ ts x ts', f ts = .ok (x, ts') → ts' <:+ ts
theorem pWord_sf (k : ByteArray → Bool) : SF (pWord k) := fun ts x ts' h => by rw [(pWord_len h).1]; exact List.tail_suffix ts
theorem pMust_sf (b : ByteArray) : SF (pMust b) := fun ts x ts' h => by rw [(pMust_len h).1]; exact List.tail_suffix ts
theorem pMark_sf (ts : List Tk) : (pMark ts).2 <:+ ts := by
  unfold pMark
  split
  · exact List.tail_suffix ts
  · split
    · exact List.tail_suffix ts
    · split
      · exact List.tail_suffix ts
      · exact List.suffix_refl ts
theorem pItem_sf {grp : List Tk → Res (List Alt)} (hg : SF grp) : SF (pItem grp) := fun ts x ts' h => by
  rw [pItem_eq] at h
  split at h
  · obtain ⟨y, t1, h1, h2⟩ := bnd_ok h
    cases h2
    exact (pMark_sf t1).trans (hg _ _ _ h1)
  · split at h
    · cases h; exact (pMark_sf _).trans (List.tail_suffix ts)
    · split at h
      · cases h; exact (pMark_sf _).trans (List.tail_suffix ts)
      · cases h
theorem pItems_sf {grp : List Tk → Res (List Alt)} (hg : SF grp) : ∀ (f : Nat) (ts : List Tk) (a x : List It) (ts' : List Tk), pItems grp f ts a = .ok (x, ts') → ts' <:+ ts
  | 0, ts, a, x, ts', h => by cases h; exact List.suffix_refl _
  | f + 1, ts, a, x, ts', h => by
    rw [pItems_eq] at h
    split at h
    · obtain ⟨y, t1, h1, h2⟩ := bnd_ok h
      exact (pItems_sf hg f _ _ _ _ h2).trans (pItem_sf hg _ _ _ h1)
    · cases h; exact List.suffix_refl _
theorem pPrec_sf (top : Bool) (a : List It) : SF (pPrec top a) := fun ts x ts' h => by
  rw [pPrec_eq] at h
  split at h
  · obtain ⟨y, t1, h1, h2⟩ := bnd_ok h
    cases h2
    exact (pWord_sf _ _ _ _ h1).trans (List.tail_suffix ts)
  · cases h; exact List.suffix_refl _
theorem pAlt_sf {grp : List Tk → Res (List Alt)} (hg : SF grp) (top : Bool) : SF (pAlt grp top) := fun ts x ts' h => by
  rw [pAlt_eq] at h
  obtain ⟨y, t1, h1, h2⟩ := bnd_ok h
  exact (pPrec_sf _ _ _ _ _ h2).trans (pItems_sf hg _ _ _ _ _ h1)
theorem pMore_sf {grp : List Tk → Res (List Alt)} (hg : SF grp) (top : Bool) : ∀ (f : Nat) (ts : List Tk) (a x : List Alt) (ts' : List Tk), pMore grp top f ts a = .ok (x, ts') → ts' <:+ ts
  | 0, ts, a, x, ts', h => by cases h; exact List.suffix_refl _
  | f + 1, ts, a, x, ts', h => by
    rw [pMore_eq] at h
    split at h
    · obtain ⟨y, t1, h1, h2⟩ := bnd_ok h
      exact (pMore_sf hg top f _ _ _ _ h2).trans ((pAlt_sf hg top _ _ _ h1).trans (List.tail_suffix ts))
    · cases h; exact List.suffix_refl _
theorem pAltsBy_sf {grp : List Tk → Res (List Alt)} (hg : SF grp) (top : Bool) : SF (pAltsBy grp top) := fun ts x ts' h => by
  rw [pAltsBy_eq] at h
  obtain ⟨y, t1, h1, h2⟩ := bnd_ok h
  exact (pMore_sf hg top _ _ _ _ _ h2).trans (pAlt_sf hg top _ _ _ h1)
theorem pGroup_sf {r : List Tk → Res (List Alt)} (hr : SF r) : SF (pGroup r) := fun ts x ts' h => by
  rw [pGroup_eq] at h
  obtain ⟨y, t1, h1, h2⟩ := bnd_ok h
  obtain ⟨u, t2, h3, h4⟩ := bnd_ok h2
  cases h4
  exact (pMust_sf _ _ _ _ h3).trans ((hr _ _ _ h1).trans (List.tail_suffix ts))
theorem pAlts_sf : ∀ d, SF (pAlts d)
  | 0 => pAltsBy_sf (grp := fun ts => .error (3, pl ts)) (fun _ _ _ h => by cases h) false
  | d + 1 => pAltsBy_sf (pGroup_sf (pAlts_sf d)) (d == 7)
theorem pRule_sf : SF pRule := fun ts x ts' h => by
  rw [pRule_eq] at h
  obtain ⟨n, t1, h1, h2⟩ := bnd_ok h
  obtain ⟨_, t2, h3, h4⟩ := bnd_ok h2
  obtain ⟨l, t3, h5, h6⟩ := bnd_ok h4
  obtain ⟨_, t4, h7, h8⟩ := bnd_ok h6
  cases h8
  exact (pMust_sf _ _ _ _ h7).trans ((pAlts_sf 8 _ _ _ h5).trans ((pMust_sf _ _ _ _ h3).trans (pWord_sf _ _ _ _ h1)))
theorem pTokens_sf : ∀ (f : Nat) (ts a x ts' : List Tk), pTokens f ts a = .ok (x, ts') → ts' <:+ ts
  | 0, ts, a, x, ts', h => by cases h; exact List.suffix_refl _
  | f + 1, ts, a, x, ts', h => by
    rw [pTokens_eq] at h
    split at h
    · cases h; exact List.tail_suffix ts
    · obtain ⟨y, t1, h1, h2⟩ := bnd_ok h
      exact (pTokens_sf f _ _ _ _ h2).trans (pWord_sf _ _ _ _ h1)
theorem pLevel_sf : SF pLevel := fun ts x ts' h => by
  rw [pLevel_eq] at h
  obtain ⟨n, t1, h1, h2⟩ := bnd_ok h
  obtain ⟨l, t2, h3, h4⟩ := bnd_ok h2
  cases h4
  exact (pTokens_sf _ _ _ _ _ h3).trans ((pWord_sf _ _ _ _ h1).trans (List.tail_suffix ts))
theorem pLevels_sf : ∀ (f : Nat) (ts : List Tk) (a x : List Lv) (ts' : List Tk), pLevels f ts a = .ok (x, ts') → ts' <:+ ts
  | 0, ts, a, x, ts', h => by cases h; exact List.suffix_refl _
  | f + 1, ts, a, x, ts', h => by
    rw [pLevels_eq] at h
    split at h
    · obtain ⟨y, t1, h1, h2⟩ := bnd_ok h
      exact (pLevels_sf f _ _ _ _ h2).trans (pLevel_sf _ _ _ h1)
    · cases h; exact List.suffix_refl _
/-! What is read of signs ahead of an end is read of them ahead of other signs. -/
section
variable (e : Tk) (C : List Tk)
def RelE {α : Type} (r r' : Res α) : Prop := ∀ x ys, r = .ok (x, ys ++ [e]) → ys ≠ [] → r' = .ok (x, ys ++ C)
def RelZ {α : Type} (r r' : Res α) : Prop := ∀ x ys, r = .ok (x, ys ++ [e]) → r' = .ok (x, ys ++ C)
variable {e C}
theorem RelZ.weak {α : Type} {r r' : Res α} (h : RelZ e C r r') : RelE e C r r' := fun x ys hr _ => h x ys hr
theorem suf_form {ys ts : List Tk} (h : ys ++ [e] <:+ ts) : ∃ zs, ts = zs ++ [e] ∧ ys.length ≤ zs.length := by
  obtain ⟨p, rfl⟩ := h
  exact ⟨p ++ ys, by simp, by simp⟩
theorem RelE.on {α β : Type} {r r' : Res α} {k k' : α → List Tk → Res β} (h : RelE e C r r') (hsf : ∀ x, SF (k x)) (hk : ∀ x zs, zs ≠ [] → r = .ok (x, zs ++ [e]) → RelE e C (k x (zs ++ [e])) (k' x (zs ++ C))) : RelE e C (bnd r k) (bnd r' k') := fun z ys hz hy => by
  obtain ⟨x, ts, h1, h2⟩ := bnd_ok hz
  obtain ⟨zs, rfl, hl⟩ := suf_form (hsf x _ _ _ h2)
  have hz0 : zs ≠ [] := by intro e0; subst e0; cases ys with
    | nil => exact hy rfl
    | cons a l => simp at hl
  rw [h x zs h1 hz0]
  exact hk x zs hz0 h1 z ys h2 hy
theorem RelE.onZ {α β : Type} {r r' : Res α} {k k' : α → List Tk → Res β} (h : RelE e C r r') (hsf : ∀ x, SF (k x)) (hne : ∀ x y ts', k x [e] ≠ .ok (y, ts')) (hk : ∀ x zs, zs ≠ [] → r = .ok (x, zs ++ [e]) → RelZ e C (k x (zs ++ [e])) (k' x (zs ++ C))) : RelZ e C (bnd r k) (bnd r' k') := fun z ys hz => by
  obtain ⟨x, ts, h1, h2⟩ := bnd_ok hz
  obtain ⟨zs, rfl, hl⟩ := suf_form (hsf x _ _ _ h2)
  have hz0 : zs ≠ [] := by intro e0; subst e0; exact hne _ _ _ h2
  rw [h x zs h1 hz0]
  exact hk x zs hz0 h1 z ys h2
theorem hd_app {xs : List Tk} (h : xs ≠ []) (ys : List Tk) : hd (xs ++ ys) = hd xs := by
  cases xs with
  | nil => exact absurd rfl h
  | cons a l => rfl
theorem pl_app {xs : List Tk} (h : xs ≠ []) (ys : List Tk) : pl (xs ++ ys) = pl xs := by
  cases xs with
  | nil => exact absurd rfl h
  | cons a l => rfl
theorem tail_app {xs : List Tk} (h : xs ≠ []) (ys : List Tk) : (xs ++ ys).tail = xs.tail ++ ys := by
  cases xs with
  | nil => exact absurd rfl h
  | cons a l => rfl
theorem app_inj {a b : List Tk} (h : a ++ [e] = b ++ [e]) : a = b := List.append_cancel_right h
theorem pWord_e (k : ByteArray → Bool) {xs : List Tk} (h : xs ≠ []) : RelZ e C (pWord k (xs ++ [e])) (pWord k (xs ++ C)) := fun x ys hr => by
  unfold pWord at hr ⊢
  rw [hd_app h, tail_app h] at hr ⊢
  split at hr
  · rename_i hk
    rw [if_pos hk]
    simp only [Except.ok.injEq, Prod.mk.injEq] at hr
    rw [hr.1, app_inj hr.2]
  · cases hr
theorem pMust_e (b : ByteArray) {xs : List Tk} (h : xs ≠ []) : RelZ e C (pMust b (xs ++ [e])) (pMust b (xs ++ C)) := fun x ys hr => by
  unfold pMust at hr ⊢
  rw [hd_app h, tail_app h] at hr ⊢
  split at hr
  · rename_i hk
    rw [if_pos hk]
    simp only [Except.ok.injEq, Prod.mk.injEq] at hr
    rw [app_inj hr.2]
  · cases hr
theorem pMark_e {xs : List Tk} (h : xs ≠ []) : (pMark (xs ++ [e])).1 = (pMark (xs ++ C)).1 ∧ ∃ ys, (pMark (xs ++ [e])).2 = ys ++ [e] ∧ (pMark (xs ++ C)).2 = ys ++ C := by
  unfold pMark
  rw [hd_app h, hd_app h, tail_app h, tail_app h]
  split
  · exact ⟨rfl, _, rfl, rfl⟩
  · split
    · exact ⟨rfl, _, rfl, rfl⟩
    · split
      · exact ⟨rfl, _, rfl, rfl⟩
      · exact ⟨rfl, _, rfl, rfl⟩
def GrpE (grp : List Tk → Res (List Alt)) : Prop := ∀ xs, xs ≠ [] → RelE e C (grp (xs ++ [e])) (grp (xs ++ C))
theorem tail_ne {xs ys : List Tk} {x : Tk} (hy : (pMark (xs.tail ++ [x])).2 = ys ++ [x]) (h0 : ys ≠ []) : xs.tail ≠ [] := by
  intro e0
  rw [e0] at hy
  have := (pMark_sf ([] ++ [x])).length_le
  rw [hy] at this
  cases ys with
  | nil => exact h0 rfl
  | cons a l => simp at this
theorem pItem_e {grp : List Tk → Res (List Alt)} (hg : GrpE (e := e) (C := C) grp) {xs : List Tk} (h : xs ≠ []) : RelE e C (pItem grp (xs ++ [e])) (pItem grp (xs ++ C)) := by
  rw [pItem_eq, pItem_eq, hd_app h, hd_app h, pl_app h, pl_app h, tail_app h, tail_app h]
  split
  · refine RelE.on (hg xs h) (fun x ts y ts' hk => by cases hk; exact pMark_sf ts) fun x zs hz _ => fun y ys hk hy => ?_
    obtain ⟨m1, us, m2, m3⟩ := pMark_e (e := e) (C := C) hz
    simp only [Except.ok.injEq, Prod.mk.injEq] at hk ⊢
    rw [m2] at hk
    rw [← m1, m3, hk.1, app_inj hk.2]
    exact ⟨rfl, rfl⟩
  · split
    · intro y ys hk hy
      simp only [Except.ok.injEq, Prod.mk.injEq] at hk ⊢
      obtain ⟨m1, us, m2, m3⟩ := pMark_e (e := e) (C := C) (tail_ne hk.2 hy)
      rw [m2] at hk
      rw [← m1, m3, hk.1, app_inj hk.2]
      exact ⟨rfl, rfl⟩
    · split
      · intro y ys hk hy
        simp only [Except.ok.injEq, Prod.mk.injEq] at hk ⊢
        obtain ⟨m1, us, m2, m3⟩ := pMark_e (e := e) (C := C) (tail_ne hk.2 hy)
        rw [m2] at hk
        rw [← m1, m3, hk.1, app_inj hk.2]
        exact ⟨rfl, rfl⟩
      · intro y ys hk; cases hk
theorem seesItem_e {xs : List Tk} (h : xs ≠ []) (ys : List Tk) : seesItem (xs ++ ys) = seesItem xs := by unfold seesItem; rw [hd_app h]
theorem ok_same {α : Type} {a : α} {xs : List Tk} : RelZ e C (.ok (a, xs ++ [e])) (.ok (a, xs ++ C)) := fun x ys hr => by
  simp only [Except.ok.injEq, Prod.mk.injEq] at hr
  rw [hr.1, app_inj hr.2]
theorem pItems_e {grp : List Tk → Res (List Alt)} (hg : GrpE (e := e) (C := C) grp) (hs : SF grp) (hl : ∀ ts x ts', grp ts = .ok (x, ts') → ts'.length ≤ ts.tail.length) : ∀ (f f' : Nat) (xs : List Tk) (a : List It), xs ≠ [] → xs.length ≤ f → xs.length ≤ f' → RelE e C (pItems grp f (xs ++ [e]) a) (pItems grp f' (xs ++ C) a)
  | 0, _, xs, _, h, hf, _ => by cases xs with
    | nil => exact absurd rfl h
    | cons a l => simp at hf
  | _ + 1, 0, xs, _, h, _, hf => by cases xs with
    | nil => exact absurd rfl h
    | cons a l => simp at hf
  | f + 1, f' + 1, xs, a, h, hf, hf' => by
    rw [pItems_eq, pItems_eq, seesItem_e h, seesItem_e h]
    split
    · refine RelE.on (pItem_e hg h) (fun x ts y ts' hk => pItems_sf hs f _ _ _ _ hk) fun x zs hz hr => ?_
      have h1 := pItem_len hl hr
      rw [tail_app h] at h1
      have h2 : xs.tail.length + 1 ≤ xs.length := by cases xs with
        | nil => exact absurd rfl h
        | cons a l => simp
      simp only [List.length_append, List.length_cons, List.length_nil] at h1
      exact pItems_e hg hs hl f f' zs _ hz (by omega) (by omega)
    · exact ok_same.weak
theorem pPrec_e (top : Bool) (a : List It) {xs : List Tk} (h : xs ≠ []) : RelE e C (pPrec top a (xs ++ [e])) (pPrec top a (xs ++ C)) := by
  rw [pPrec_eq, pPrec_eq, hd_app h, hd_app h, tail_app h, tail_app h]
  split
  · intro y ys hk hy
    obtain ⟨x, t1, h1, h2⟩ := bnd_ok hk
    have hx : xs.tail ≠ [] := by
      intro e0
      rw [e0] at h1
      have := (pWord_sf _ _ _ _ h1).length_le
      cases h2
      cases ys with
      | nil => exact hy rfl
      | cons a l => simp at this
    have hz := (pWord_e (e := e) (C := C) isToken hx)
    cases h2
    rw [hz x ys h1, pl_app hx, pl_app hx]
    rfl
  · exact ok_same.weak
theorem pAlt_e {grp : List Tk → Res (List Alt)} (hg : GrpE (e := e) (C := C) grp) (hs : SF grp) (hl : ∀ ts x ts', grp ts = .ok (x, ts') → ts'.length ≤ ts.tail.length) (top : Bool) {xs : List Tk} (h : xs ≠ []) : RelE e C (pAlt grp top (xs ++ [e])) (pAlt grp top (xs ++ C)) := by
  rw [pAlt_eq, pAlt_eq]
  exact RelE.on (pItems_e hg hs hl _ _ xs [] h (by simp) (by simp)) (fun x => pPrec_sf top x) fun x zs hz _ => pPrec_e top x hz
theorem pMore_e {grp : List Tk → Res (List Alt)} (hg : GrpE (e := e) (C := C) grp) (hs : SF grp) (hl : ∀ ts x ts', grp ts = .ok (x, ts') → ts'.length ≤ ts.tail.length) (top : Bool) : ∀ (f f' : Nat) (xs : List Tk) (a : List Alt), xs ≠ [] → xs.length ≤ f → xs.length ≤ f' → RelE e C (pMore grp top f (xs ++ [e]) a) (pMore grp top f' (xs ++ C) a)
  | 0, _, xs, _, h, hf, _ => by cases xs with
    | nil => exact absurd rfl h
    | cons a l => simp at hf
  | _ + 1, 0, xs, _, h, _, hf => by cases xs with
    | nil => exact absurd rfl h
    | cons a l => simp at hf
  | f + 1, f' + 1, xs, a, h, hf, hf' => by
    rw [pMore_eq, pMore_eq, hd_app h, hd_app h, tail_app h, tail_app h]
    split
    · intro y ys hk hy
      have hx : xs.tail ≠ [] := by
        intro e0
        obtain ⟨x, t1, h1, h2⟩ := bnd_ok hk
        rw [e0] at h1
        have := ((pMore_sf hs top _ _ _ _ _ h2).trans (pAlt_sf hs top _ _ _ h1)).length_le
        cases ys with
        | nil => exact hy rfl
        | cons a l => simp at this
      refine RelE.on (pAlt_e hg hs hl top hx) (fun x ts y ts' hk => pMore_sf hs top f _ _ _ _ hk) (fun x zs hz hr => ?_) y ys hk hy
      have h1 := pAlt_len hl hr
      have h2 : xs.tail.length + 1 ≤ xs.length := by cases xs with
        | nil => exact absurd rfl h
        | cons a l => simp
      simp only [List.length_append, List.length_cons, List.length_nil] at h1
      exact pMore_e hg hs hl top f f' zs _ hz (by omega) (by omega)
    · exact ok_same.weak
theorem pAltsBy_e {grp : List Tk → Res (List Alt)} (hg : GrpE (e := e) (C := C) grp) (hs : SF grp) (hl : ∀ ts x ts', grp ts = .ok (x, ts') → ts'.length ≤ ts.tail.length) (top : Bool) {xs : List Tk} (h : xs ≠ []) : RelE e C (pAltsBy grp top (xs ++ [e])) (pAltsBy grp top (xs ++ C)) := by
  rw [pAltsBy_eq, pAltsBy_eq]
  exact RelE.on (pAlt_e hg hs hl top h) (fun x ts y ts' hk => pMore_sf hs top _ _ _ _ _ hk) fun x zs hz _ => pMore_e hg hs hl top _ _ zs _ hz (by simp) (by simp)
theorem pGroup_e {r : List Tk → Res (List Alt)} (hr : GrpE (e := e) (C := C) r) (hs : SF r) : GrpE (e := e) (C := C) (pGroup r) := fun xs h => by
  rw [pGroup_eq, pGroup_eq, tail_app h, tail_app h]
  intro y ys hk hy
  have hx : xs.tail ≠ [] := by
    intro e0
    obtain ⟨x, t1, h1, h2⟩ := bnd_ok hk
    obtain ⟨u, t2, h3, h4⟩ := bnd_ok h2
    cases h4
    rw [e0] at h1
    have := ((pMust_sf _ _ _ _ h3).trans (hs _ _ _ h1)).length_le
    cases ys with
    | nil => exact hy rfl
    | cons a l => simp at this
  refine RelE.on (hr _ hx) (fun x ts z ts' hk => ?_) (fun x zs hz _ => ?_) y ys hk hy
  · obtain ⟨u, t2, h3, h4⟩ := bnd_ok hk
    cases h4
    exact pMust_sf _ _ _ _ h3
  · exact RelE.on (pMust_e tShut hz).weak (fun u ts z ts' hk => by cases hk; exact List.suffix_refl _) fun u zs hz _ => ok_same.weak
theorem pAlts_e : ∀ d, GrpE (e := e) (C := C) (pAlts d)
  | 0 => fun xs h => pAltsBy_e (grp := fun ts => .error (3, pl ts)) (fun _ _ _ _ hk => by cases hk) (fun _ _ _ hk => by cases hk) (fun _ _ _ hk => by cases hk) false h
  | d + 1 => fun xs h => pAltsBy_e (pGroup_e (pAlts_e d) (pAlts_sf d)) (pGroup_sf (pAlts_sf d)) (pGroup_len (pAlts_len d)) (d == 7) h
end
end Lx
end Go.Proofs.Ytonkcljapkeidaa
namespace Go.Proofs.Ytonkcljapkeidaa
open Go Go.RowKit
namespace Lx
theorem bnd_go {α β : Type} (x : α) (ts : List Tk) (k : α → List Tk → Res β) : bnd (.ok (x, ts)) k = k x ts := rfl
section
variable {e : Tk} {C : List Tk}
theorem word_end (he : e.1 = noText) {k : ByteArray → Bool} (hk : k noText = false) (x : ByteArray) (ts' : List Tk) : pWord k [e] ≠ .ok (x, ts') := by
  intro h
  have h1 := (pWord_len h).2.2
  have e1 : hd [e] = noText := he
  rw [e1, hk] at h1; cases h1
theorem must_end (he : e.1 = noText) {b : ByteArray} (hb : b ≠ noText) (x : Unit) (ts' : List Tk) : pMust b [e] ≠ .ok (x, ts') := by
  intro h
  have h1 := (pMust_len h).2
  have e1 : hd [e] = noText := he
  rw [e1] at h1; exact hb h1.symm
theorem tok_no : isToken noText = false := by decide
theorem name_no : isName noText = false := by decide
theorem tokens_end (he : e.1 = noText) (f : Nat) (a x ts' : List Tk) : pTokens (f + 1) [e] a ≠ .ok (x, ts') := by
  intro h
  rw [pTokens_eq, if_neg (by rw [show hd [e] = noText from he]; decide)] at h
  obtain ⟨y, t1, h1, _⟩ := bnd_ok h
  exact word_end he tok_no _ _ h1
theorem pTokens_e (he : e.1 = noText) : ∀ (f f' : Nat) (xs a : List Tk), xs ≠ [] → xs.length + 1 ≤ f → xs.length ≤ f' → RelZ e C (pTokens f (xs ++ [e]) a) (pTokens f' (xs ++ C) a)
  | 0, _, _, _, _, hf, _ => by omega
  | _ + 1, 0, xs, _, h, _, hf => by cases xs with
    | nil => exact absurd rfl h
    | cons a l => simp at hf
  | f + 1, f' + 1, xs, a, h, hf, hf' => by
    have hpos : 0 < xs.length := List.length_pos_iff.2 h
    obtain ⟨f0, rfl⟩ : ∃ f0, f = f0 + 1 := ⟨f - 1, by omega⟩
    rw [pTokens_eq, pTokens_eq, hd_app h, hd_app h, tail_app h, tail_app h, pl_app h, pl_app h]
    split
    · exact ok_same
    · refine RelE.onZ (pWord_e isToken h).weak (fun x ts y ts' hk => pTokens_sf _ _ _ _ _ hk) (fun x y ts' => tokens_end he f0 _ _ _) fun x zs hz hr => ?_
      have h1 := (pWord_len hr).1
      rw [tail_app h] at h1
      have h2 := congrArg List.length h1
      simp only [List.length_append, List.length_cons, List.length_nil, List.length_tail] at h2
      exact pTokens_e he (f0 + 1) f' zs _ hz (by omega) (by omega)
theorem pLevel_e (he : e.1 = noText) {xs : List Tk} (h : xs ≠ []) : RelZ e C (pLevel (xs ++ [e])) (pLevel (xs ++ C)) := by
  rw [pLevel_eq, pLevel_eq, hd_app h, hd_app h, tail_app h, tail_app h]
  intro y ys hk
  have hx : xs.tail ≠ [] := by
    intro e0
    obtain ⟨x, t1, h1, h2⟩ := bnd_ok hk
    rw [e0] at h1
    exact word_end he tok_no _ _ h1
  rw [pl_app hx] at hk
  rw [pl_app hx]
  refine RelE.onZ (k := fun b ts1 => bnd (pTokens ts1.length ts1 [(b, pl xs.tail)]) fun l ts2 => .ok ((⟨(levelKind (hd xs)).toNat, l⟩ : Lv), ts2)) (k' := fun b ts1 => bnd (pTokens ts1.length ts1 [(b, pl xs.tail)]) fun l ts2 => .ok ((⟨(levelKind (hd xs)).toNat, l⟩ : Lv), ts2)) (pWord_e isToken hx).weak (fun b ts y ts' hk => ?_) (fun b y ts' hk => ?_) (fun b zs hz _ => ?_) y ys hk
  · obtain ⟨l, t2, h3, h4⟩ := bnd_ok hk
    cases h4
    exact pTokens_sf _ _ _ _ _ h3
  · obtain ⟨l, t2, h3, h4⟩ := bnd_ok hk
    exact tokens_end he 0 _ _ _ h3
  · intro y ys hk
    obtain ⟨l, t2, h3, h4⟩ := bnd_ok hk
    cases h4
    have := pTokens_e (C := C) he _ (zs ++ C).length zs [(b, pl xs.tail)] hz (Nat.le_of_eq (by simp)) (by simp) l ys h3
    show bnd _ _ = _
    rw [this]; rfl
theorem pRule_e (he : e.1 = noText) {xs : List Tk} (h : xs ≠ []) : RelZ e C (pRule (xs ++ [e])) (pRule (xs ++ C)) := by
  rw [pRule_eq, pRule_eq, pl_app h, pl_app h]
  intro y ys hk
  obtain ⟨n, t1, h1, h2⟩ := bnd_ok hk
  obtain ⟨_, t2, h3, h4⟩ := bnd_ok h2
  obtain ⟨l, t3, h5, h6⟩ := bnd_ok h4
  obtain ⟨_, t4, h7, h8⟩ := bnd_ok h6
  cases h8
  obtain ⟨z3, rfl, _⟩ := suf_form (pMust_sf _ _ _ _ h7)
  have n3 : z3 ≠ [] := by intro e0; subst e0; exact must_end he (by decide) _ _ h7
  obtain ⟨z2, rfl, g2⟩ := suf_form (pAlts_sf 8 _ _ _ h5)
  have n2 : z2 ≠ [] := by intro e0; subst e0; exact n3 (List.length_eq_zero_iff.1 (by simpa using g2))
  obtain ⟨z1, rfl, g1⟩ := suf_form (pMust_sf _ _ _ _ h3)
  have n1 : z1 ≠ [] := by intro e0; subst e0; exact n2 (List.length_eq_zero_iff.1 (by simpa using g1))
  rw [pWord_e isName h n z1 h1]
  rw [bnd_go]
  rw [pMust_e tEq n1 _ z2 h3]
  rw [bnd_go]
  rw [pAlts_e 8 z2 n2 l z3 h5 n3]
  rw [bnd_go]
  rw [pMust_e tSemi n3 _ ys h7, bnd_go]
theorem pLevels_e (he : e.1 = noText) : ∀ (f f' : Nat) (xs : List Tk) (a : List Lv), xs ≠ [] → xs.length ≤ f → xs.length ≤ f' → RelE e C (pLevels f (xs ++ [e]) a) (pLevels f' (xs ++ C) a)
  | 0, _, xs, _, h, hf, _ => by cases xs with
    | nil => exact absurd rfl h
    | cons a l => simp at hf
  | _ + 1, 0, xs, _, h, _, hf => by cases xs with
    | nil => exact absurd rfl h
    | cons a l => simp at hf
  | f + 1, f' + 1, xs, a, h, hf, hf' => by
    rw [pLevels_eq, pLevels_eq, hd_app h, hd_app h]
    split
    · refine RelE.on (pLevel_e he h).weak (fun x ts y ts' hk => pLevels_sf _ _ _ _ _ hk) fun x zs hz hr => ?_
      have h1 := pLevel_len hr
      rw [tail_app h] at h1
      have h2 : xs.tail.length + 1 ≤ xs.length := by cases xs with
        | nil => exact absurd rfl h
        | cons a l => simp
      simp only [List.length_append, List.length_cons, List.length_nil] at h1
      exact pLevels_e he f f' zs _ hz (by omega) (by omega)
    · exact ok_same.weak
theorem hd_ne_nil {ts : List Tk} (h : ¬ hd ts = noText) : ts.tail.length + 1 ≤ ts.length := by
  cases ts with
  | nil => exact absurd rfl h
  | cons t r => simp
theorem pRules_fuel : ∀ (f f' : Nat) (ts : List Tk) (a : List Rl), ts.length ≤ f → ts.length ≤ f' → pRules f ts a = pRules f' ts a
  | 0, 0, _, _, _, _ => rfl
  | 0, _ + 1, [], _, _, _ => rfl
  | _ + 1, 0, [], _, _, _ => rfl
  | 0, _ + 1, _ :: _, _, h, _ => by simp at h
  | _ + 1, 0, _ :: _, _, _, h => by simp at h
  | f + 1, f' + 1, ts, a, h, h' => by
    rw [pRules_eq, pRules_eq]
    split
    · rfl
    · rename_i h0
      have h1 := hd_ne_nil h0
      cases hr : pRule ts with
      | error x => rfl
      | ok y =>
        have h2 := pRule_len (show pRule ts = .ok (y.1, y.2) from hr)
        exact pRules_fuel f f' y.2 _ (by omega) (by omega)
theorem pRules_join (he : e.1 = noText) : ∀ (f f' f2 : Nat) (xs : List Tk) (a l : List Rl), (∀ t ∈ xs, t.1 ≠ noText) → xs.length + 1 ≤ f → (xs ++ C).length ≤ f' → C.length ≤ f2 → pRules f (xs ++ [e]) a = .ok (l, [e]) → pRules f' (xs ++ C) a = pRules f2 C l
  | 0, _, _, _, _, _, _, hf, _, _, _ => by omega
  | f + 1, f', f2, [], a, l, hw, hf, hf', hf2, h => by
    rw [List.nil_append, pRules_eq, if_pos (show hd [e] = noText from he)] at h
    cases h
    exact pRules_fuel _ _ _ _ hf' hf2
  | f + 1, f', f2, t :: xs, a, l, hw, hf, hf', hf2, h => by
    obtain ⟨f0, rfl⟩ : ∃ f0, f' = f0 + 1 := ⟨f' - 1, by simp at hf'; omega⟩
    have ht : ¬ hd (t :: xs ++ [e]) = noText := hw t (by simp)
    have ht2 : ¬ hd (t :: xs ++ C) = noText := hw t (by simp)
    rw [pRules_eq, if_neg ht] at h
    rw [pRules_eq, if_neg ht2]
    obtain ⟨x, t1, h1, h2⟩ := bnd_ok h
    obtain ⟨zs, rfl, _⟩ := suf_form (ys := []) (e := e) (by
      have : ∀ (f : Nat) (ts : List Tk) (a l : List Rl) (ts' : List Tk), pRules f ts a = .ok (l, ts') → ts' <:+ ts := by
        intro f
        induction f with
        | zero => intro ts a l ts' h; cases h; exact List.suffix_refl _
        | succ f ih =>
          intro ts a l ts' h
          rw [pRules_eq] at h
          split at h
          · cases h; exact List.suffix_refl _
          · obtain ⟨y, t2, h3, h4⟩ := bnd_ok h
            exact (ih _ _ _ _ h4).trans (pRule_sf _ _ _ h3)
      exact this _ _ _ _ _ h2)
    have hz := pRule_e (C := C) he (xs := t :: xs) (by simp) x zs h1
    have hlen := pRule_len h1
    have hsuf := pRule_sf _ _ _ h1
    have hzw : ∀ u ∈ zs, u.1 ≠ noText := by
      obtain ⟨p, hp⟩ := hsuf
      intro u hu
      have : p ++ zs = t :: xs := List.append_cancel_right (by rw [List.append_assoc]; exact hp)
      exact hw u (by rw [← this]; exact List.mem_append_right _ hu)
    rw [hz]
    simp only [List.cons_append, List.tail_cons, List.length_append, List.length_cons, List.length_nil] at hlen hf hf'
    exact pRules_join he f f0 f2 zs _ l hzw (by omega) (by simp; omega) hf2 h2
/-- Signs of a grammar, and signs behind them. -/
theorem pGrammar_join (he : e.1 = noText) {xs : List Tk} {g : Gr} (hw : ∀ t ∈ xs, t.1 ≠ noText) (hx : xs ≠ []) (h : pGrammar (xs ++ [e]) = .ok (g, [e])) : pGrammar (xs ++ C) = bnd (pRules C.length C g.rules) fun l ts3 => .ok ((⟨g.levels, l⟩ : Gr), ts3) := by
  rw [pGrammar_bnd] at h
  obtain ⟨lv, t1, h1, h2⟩ := bnd_ok h
  obtain ⟨x, t2, h3, h4⟩ := bnd_ok h2
  obtain ⟨l, t3, h5, h6⟩ := bnd_ok h4
  cases h6
  have hsf2 : ∀ (f : Nat) (ts : List Tk) (a l : List Rl) (ts' : List Tk), pRules f ts a = .ok (l, ts') → ts' <:+ ts := by
    intro f
    induction f with
    | zero => intro ts a l ts' h; cases h; exact List.suffix_refl _
    | succ f ih =>
      intro ts a l ts' h
      rw [pRules_eq] at h
      split at h
      · cases h; exact List.suffix_refl _
      · obtain ⟨y, t2, h3, h4⟩ := bnd_ok h
        exact (ih _ _ _ _ h4).trans (pRule_sf _ _ _ h3)
  obtain ⟨z2, rfl, _⟩ := suf_form (ys := []) (hsf2 _ _ _ _ _ h5)
  obtain ⟨z1, rfl, _⟩ := suf_form (pRule_sf _ _ _ h3)
  have n1 : z1 ≠ [] := by
    intro e0; subst e0
    rw [pRule_eq] at h3
    obtain ⟨n, t1, h7, _⟩ := bnd_ok h3
    exact word_end he name_no _ _ h7
  have s1 := pLevels_sf _ _ _ _ _ h1
  have s2 := pRule_sf _ _ _ h3
  have w2 : ∀ u ∈ z2, u.1 ≠ noText := by
    obtain ⟨p, hp⟩ := s2.trans s1
    intro u hu
    have : p ++ z2 = xs := List.append_cancel_right (by rw [List.append_assoc]; exact hp)
    exact hw u (by rw [← this]; exact List.mem_append_right _ hu)
  rw [pGrammar_bnd, pLevels_e he _ (xs ++ C).length xs [] hx (by simp) (by simp) lv z1 h1 n1]
  rw [bnd_go]
  rw [pRule_e he n1 x z2 h3]
  rw [bnd_go]
  rw [pRules_join he _ (z2 ++ C).length C.length z2 [x] l w2 (Nat.le_of_eq (by simp)) (Nat.le_refl _) (Nat.le_refl _) h5]
end
theorem pRules_pre (pre : List Rl) : ∀ (f : Nat) (ts : List Tk) (a : List Rl), pRules f ts (pre ++ a) = bnd (pRules f ts a) fun l ts' => .ok (pre ++ l, ts')
  | 0, _, _ => rfl
  | f + 1, ts, a => by
    rw [pRules_eq, pRules_eq]
    split
    · rfl
    · cases pRule ts with
      | error x => rfl
      | ok y =>
        show pRules f y.2 (pre ++ a ++ [y.1]) = bnd (pRules f y.2 (a ++ [y.1])) _
        rw [List.append_assoc]
        exact pRules_pre pre f _ _
end Lx
end Go.Proofs.Ytonkcljapkeidaa
namespace Go.Proofs.Ytonkcljapkeidaa
open Go Go.RowKit
namespace Lx
/-! Signs further on: errors are told as much further on. -/
section
variable (k : Nat)
def TS (ts us : List Tk) : Prop := WF ts ∧ us = ts.map (sh k)
def RelS {α : Type} : Res α → Res α → Prop
  | .ok (_, ts), .ok (_, us) => TS k ts us
  | .error e, .error f => f.1 = e.1 ∧ f.2 = e.2 + k
  | _, _ => False
variable {k}
theorem TS.hd {ts us : List Tk} (h : TS k ts us) : hd us = hd ts := by
  obtain ⟨hw, rfl⟩ := h
  cases ts with
  | nil => exact hw.elim
  | cons t r => rfl
theorem TS.pl {ts us : List Tk} (h : TS k ts us) : pl us = pl ts + k := by
  obtain ⟨hw, rfl⟩ := h
  cases ts with
  | nil => exact hw.elim
  | cons t r => rfl
theorem TS.tail {ts us : List Tk} (h : TS k ts us) (hn : Lx.hd ts ≠ noText) : TS k ts.tail us.tail := by
  obtain ⟨hw, rfl⟩ := h
  exact ⟨hw.tail hn, by cases ts <;> rfl⟩
theorem TS.len {ts us : List Tk} (h : TS k ts us) : ts.length = us.length := by rw [h.2]; simp
theorem RelS.on {α β : Type} {r r' : Res α} (h : RelS k r r') (f g : α → List Tk → Res β) (hk : ∀ x y ts us, TS k ts us → RelS k (f x ts) (g y us)) : RelS k (bnd r f) (bnd r' g) := by
  cases r with
  | error e => cases r' with
    | error f => exact h
    | ok y => exact h.elim
  | ok x => cases r' with
    | error f => exact h.elim
    | ok y => exact hk _ _ _ _ h
theorem pWord_s {p : ByteArray → Bool} (hp : p noText = false) {ts us : List Tk} (h : TS k ts us) : RelS k (pWord p ts) (pWord p us) := by
  unfold pWord
  rw [h.hd]
  split
  · rename_i hk
    exact h.tail (fun e => by rw [e, hp] at hk; cases hk)
  · exact ⟨rfl, h.pl⟩
theorem pMust_s {b : ByteArray} (hb : b ≠ noText) {ts us : List Tk} (h : TS k ts us) : RelS k (pMust b ts) (pMust b us) := by
  unfold pMust
  rw [h.hd]
  split
  · rename_i hk
    exact h.tail (fun e => hb (hk.symm.trans e))
  · exact ⟨rfl, h.pl⟩
theorem pMark_s {ts us : List Tk} (h : TS k ts us) : TS k (pMark ts).2 (pMark us).2 := by
  unfold pMark
  rw [h.hd]
  split
  · rename_i hk; exact h.tail (fun e => absurd (hk.symm.trans e) (by decide))
  · split
    · rename_i hk; exact h.tail (fun e => absurd (hk.symm.trans e) (by decide))
    · split
      · rename_i hk; exact h.tail (fun e => absurd (hk.symm.trans e) (by decide))
      · exact h
def GrpS (k : Nat) (grp : List Tk → Res (List Alt)) : Prop := ∀ ts us, TS k ts us → Lx.hd ts = tOpen → RelS k (grp ts) (grp us)
theorem pItem_s {grp : List Tk → Res (List Alt)} (hg : GrpS k grp) {ts us : List Tk} (h : TS k ts us) : RelS k (pItem grp ts) (pItem grp us) := by
  rw [pItem_eq, pItem_eq, h.hd]
  split
  · rename_i ho
    exact RelS.on (hg _ _ h ho) _ _ fun x y t u ht => pMark_s ht
  · split
    · rename_i hk; exact pMark_s (h.tail (fun e => by rw [e] at hk; exact absurd hk (by decide)))
    · split
      · rename_i hk; exact pMark_s (h.tail (fun e => by rw [e] at hk; exact absurd hk (by decide)))
      · exact ⟨rfl, h.pl⟩
theorem pItems_s {grp : List Tk → Res (List Alt)} (hg : GrpS k grp) : ∀ (f : Nat) {ts us : List Tk} (a b : List It), TS k ts us → RelS k (pItems grp f ts a) (pItems grp f us b)
  | 0, ts, us, a, b, h => h
  | f + 1, ts, us, a, b, h => by
    rw [pItems_eq, pItems_eq, show seesItem us = seesItem ts by unfold seesItem; rw [h.hd]]
    split
    · exact RelS.on (pItem_s hg h) _ _ fun x y t u ht => pItems_s hg f _ _ ht
    · exact h
theorem pPrec_s (top : Bool) (a b : List It) {ts us : List Tk} (h : TS k ts us) : RelS k (pPrec top a ts) (pPrec top b us) := by
  rw [pPrec_eq, pPrec_eq, h.hd]
  split
  · rename_i hk
    exact RelS.on (pWord_s (by decide) (h.tail (fun e => absurd (hk.2.symm.trans e) (by decide)))) _ _ fun x y t u ht => ht
  · exact h
theorem pAlt_s {grp : List Tk → Res (List Alt)} (hg : GrpS k grp) (top : Bool) {ts us : List Tk} (h : TS k ts us) : RelS k (pAlt grp top ts) (pAlt grp top us) := by
  rw [pAlt_eq, pAlt_eq, h.len]
  exact RelS.on (pItems_s hg us.length [] [] h) _ _ fun x y t u ht => pPrec_s top _ _ ht
theorem pMore_s {grp : List Tk → Res (List Alt)} (hg : GrpS k grp) (top : Bool) : ∀ (f : Nat) {ts us : List Tk} (a b : List Alt), TS k ts us → RelS k (pMore grp top f ts a) (pMore grp top f us b)
  | 0, ts, us, a, b, h => h
  | f + 1, ts, us, a, b, h => by
    rw [pMore_eq, pMore_eq, h.hd]
    split
    · rename_i hk
      exact RelS.on (pAlt_s hg top (h.tail (fun e => absurd (hk.symm.trans e) (by decide)))) _ _ fun x y t u ht => pMore_s hg top f _ _ ht
    · exact h
theorem pAltsBy_s {grp : List Tk → Res (List Alt)} (hg : GrpS k grp) (top : Bool) {ts us : List Tk} (h : TS k ts us) : RelS k (pAltsBy grp top ts) (pAltsBy grp top us) := by
  rw [pAltsBy_eq, pAltsBy_eq]
  refine RelS.on (pAlt_s hg top h) _ _ fun x y t u ht => ?_
  rw [ht.len]
  exact pMore_s hg top u.length _ _ ht
theorem pGroup_s {r : List Tk → Res (List Alt)} (hr : ∀ ts us, TS k ts us → RelS k (r ts) (r us)) : GrpS k (pGroup r) := fun ts us h ho => by
  rw [pGroup_eq, pGroup_eq]
  refine RelS.on (hr _ _ (h.tail (fun e => absurd (ho.symm.trans e) (by decide)))) _ _ fun x y t u ht => ?_
  exact RelS.on (pMust_s (by decide) ht) _ _ fun _ _ t u ht => ht
theorem pAlts_s : ∀ (d : Nat) (ts us : List Tk), TS k ts us → RelS k (pAlts d ts) (pAlts d us)
  | 0, _, _, h => pAltsBy_s (grp := fun ts => .error (3, Lx.pl ts)) (fun _ _ h _ => ⟨rfl, h.pl⟩) false h
  | d + 1, _, _, h => pAltsBy_s (pGroup_s (pAlts_s d)) (d == 7) h
theorem pRule_s {ts us : List Tk} (h : TS k ts us) : RelS k (pRule ts) (pRule us) := by
  rw [pRule_eq, pRule_eq]
  refine RelS.on (pWord_s (by decide) h) _ _ fun n m t1 u1 h1 => ?_
  refine RelS.on (pMust_s (by decide) h1) _ _ fun _ _ t2 u2 h2 => ?_
  refine RelS.on (pAlts_s 8 _ _ h2) _ _ fun x y t3 u3 h3 => ?_
  exact RelS.on (pMust_s (by decide) h3) _ _ fun _ _ t4 u4 h4 => h4
theorem pRules_s : ∀ (f : Nat) {ts us : List Tk} (a b : List Rl), TS k ts us → RelS k (pRules f ts a) (pRules f us b)
  | 0, ts, us, a, b, h => h
  | f + 1, ts, us, a, b, h => by
    rw [pRules_eq, pRules_eq, h.hd]
    split
    · exact h
    · exact RelS.on (pRule_s h) _ _ fun x y t u ht => pRules_s f _ _ ht
theorem pTokens_s : ∀ (f : Nat) {ts us : List Tk} (a b : List Tk), TS k ts us → RelS k (pTokens f ts a) (pTokens f us b)
  | 0, ts, us, a, b, h => h
  | f + 1, ts, us, a, b, h => by
    rw [pTokens_eq, pTokens_eq, h.hd]
    split
    · rename_i hk; exact h.tail (fun e => absurd (hk.symm.trans e) (by decide))
    · exact RelS.on (pWord_s (by decide) h) _ _ fun x y t u ht => pTokens_s f _ _ ht
theorem pLevel_s {ts us : List Tk} (h : TS k ts us) (hn : Lx.hd ts ≠ noText) : RelS k (pLevel ts) (pLevel us) := by
  rw [pLevel_eq, pLevel_eq]
  refine RelS.on (pWord_s (by decide) (h.tail hn)) _ _ fun n m t1 u1 h1 => ?_
  rw [h1.len]
  exact RelS.on (pTokens_s u1.length _ _ h1) _ _ fun x y t2 u2 h2 => h2
theorem pLevels_s : ∀ (f : Nat) {ts us : List Tk} (a b : List Lv), TS k ts us → RelS k (pLevels f ts a) (pLevels f us b)
  | 0, ts, us, a, b, h => h
  | f + 1, ts, us, a, b, h => by
    rw [pLevels_eq, pLevels_eq, h.hd]
    split
    · rename_i hk
      exact RelS.on (pLevel_s h (fun e => by rw [e] at hk; exact absurd hk (by decide))) _ _ fun x y t u ht => pLevels_s f _ _ ht
    · exact h
theorem pGrammar_s {ts us : List Tk} (h : TS k ts us) : RelS k (pGrammar ts) (pGrammar us) := by
  rw [pGrammar_bnd, pGrammar_bnd, h.len]
  refine RelS.on (pLevels_s us.length [] [] h) _ _ fun lv lw t1 u1 h1 => ?_
  refine RelS.on (pRule_s h1) _ _ fun x y t2 u2 h2 => ?_
  rw [h2.len]
  exact RelS.on (pRules_s u2.length _ _ h2) _ _ fun l m t3 u3 h3 => h3
end
/-- Rules alone: no level stands ahead. -/
theorem pGrammar_plain {ts : List Tk} (hl : ¬ 0 ≤ levelKind (hd ts)) : pGrammar ts = bnd (pRule ts) fun x ts2 => bnd (pRules ts2.length ts2 [x]) fun l ts3 => .ok ((⟨[], l⟩ : Gr), ts3) := by
  rw [pGrammar_bnd]
  have : pLevels ts.length ts [] = .ok ([], ts) := by
    cases ts.length with
    | zero => rfl
    | succ n => rw [pLevels_eq, if_neg hl]
  rw [this, bnd_go]
theorem pRules_plain {ts : List Tk} (hl : ¬ 0 ≤ levelKind (hd ts)) (hn : ¬ hd ts = noText) (pre : List Rl) : pRules ts.length ts pre = bnd (pGrammar ts) fun g ts' => .ok (pre ++ g.rules, ts') := by
  rw [pGrammar_plain hl]
  have h1 := hd_ne_nil hn
  obtain ⟨n, hn'⟩ : ∃ n, ts.length = n + 1 := ⟨ts.length - 1, by omega⟩
  rw [hn', pRules_eq, if_neg hn]
  cases hr : pRule ts with
  | error x => rfl
  | ok y =>
    obtain ⟨x, ts2⟩ := y
    have h2 := pRule_len hr
    rw [bnd_go, bnd_go, pRules_fuel n ts2.length ts2 _ (by omega) (Nat.le_refl _), pRules_pre]
    cases pRules ts2.length ts2 [x] with
    | error z => rfl
    | ok z => rfl
theorem tx_sh (k : Nat) (ts : List Tk) : TX ts (ts.map (sh k)) := by
  unfold TX
  rw [List.map_map]; rfl
theorem hd_sh (k : Nat) (ts : List Tk) : hd (ts.map (sh k)) = hd ts := by cases ts <;> rfl
theorem dropLast_fst {ts : List Tk} (h : WF ts) : ∃ e, ts = ts.dropLast ++ [e] ∧ e.1 = noText ∧ ∀ t ∈ ts.dropLast, t.1 ≠ noText := by
  induction ts with
  | nil => exact h.elim
  | cons t r ih =>
    cases r with
    | nil => exact ⟨t, rfl, h, fun u hu => by simp at hu⟩
    | cons u r =>
      obtain ⟨e, e1, e2, e3⟩ := ih h.2
      refine ⟨e, ?_, e2, ?_⟩
      · rw [List.dropLast_cons_of_ne_nil (by simp), List.cons_append, ← e1]
      · intro x hx
        rw [List.dropLast_cons_of_ne_nil (by simp)] at hx
        rcases List.mem_cons.1 hx with rfl | hx
        · exact h.1
        · exact e3 x hx
def gOf (r : Res Gr) : Except (Nat × Nat) Gr :=
  match r with
  | .error e => .error e
  | .ok (g, _) => .ok g
theorem parse_short {s : ByteArray} (h : s.size ≤ 2000) : parse s = gOf (pGrammar (lex s)) := by
  unfold parse
  rw [if_neg (by omega)]
  cases pGrammar (lex s) with
  | error e => rfl
  | ok y => rfl
/-- What is read of a grammar's text and of another behind it. -/
theorem parse_join {a b j : ByteArray} {g : Gr} (ha : parse a = .ok g) (hj : bytes j = bytes a ++ 10 :: bytes b) (hs : j.size ≤ 2000) :
    (hd (lex b) = noText → parse j = .ok g) ∧
    (hd (lex b) ≠ noText → 0 ≤ levelKind (hd (lex b)) → ∃ p, parse j = .error (2, p)) ∧
    (hd (lex b) ≠ noText → ¬ 0 ≤ levelKind (hd (lex b)) → (∀ n p, parse b = .error (n, p) → parse j = .error (n, p + (a.size + 1))) ∧ (∀ h, parse b = .ok h → ∃ l, parse j = .ok ⟨g.levels, g.rules ++ l⟩ ∧ All2 RlEq h.rules l ∧ h.levels = [])) := by
  obtain ⟨has, ts', hpa⟩ := parse_ok ha
  have hfa := pGrammar_first hpa
  have hjl := lex_join a b j hj hfa
  obtain ⟨e, e1, e2, e3⟩ := dropLast_fst (lex_wf a)
  have hend := pGrammar_end hpa
  have hbs : b.size ≤ 2000 := by
    have := congrArg List.length hj
    simp only [List.length_append, List.length_cons, bytes_len] at this
    omega
  have hsf : ts' <:+ lex a := by
    have h := hpa
    rw [pGrammar_bnd] at h
    obtain ⟨lv, t1, h1, h2⟩ := bnd_ok h
    obtain ⟨x, t2, h3, h4⟩ := bnd_ok h2
    obtain ⟨l, t3, h5, h6⟩ := bnd_ok h4
    cases h6
    have : ∀ (f : Nat) (ts : List Tk) (a l : List Rl) (ts' : List Tk), pRules f ts a = .ok (l, ts') → ts' <:+ ts := by
      intro f
      induction f with
      | zero => intro ts a l ts' h; cases h; exact List.suffix_refl _
      | succ f ih =>
        intro ts a l ts' h
        rw [pRules_eq] at h
        split at h
        · cases h; exact List.suffix_refl _
        · obtain ⟨y, t2, h3, h4⟩ := bnd_ok h
          exact (ih _ _ _ _ h4).trans (pRule_sf _ _ _ h3)
    exact (this _ _ _ _ _ h5).trans ((pRule_sf _ _ _ h3).trans (pLevels_sf _ _ _ _ _ h1))
  have hwf : WF ts' := by
    have hrel := pGrammar_s (k := 0) (ts := lex a) ⟨lex_wf a, rfl⟩
    rw [hpa] at hrel
    cases hq : pGrammar ((lex a).map (sh 0)) with
    | error x => rw [hq] at hrel; exact hrel.elim
    | ok y => rw [hq] at hrel; exact hrel.1
  have hts : ts' = [e] := by
    have h1 := WF.last hwf hend
    match ts', h1 with
    | [u], _ =>
      obtain ⟨p, hp⟩ := hsf
      rw [e1] at hp
      have := congrArg List.getLast? hp
      simp at this
      rw [this]
    | [], h1 => simp at h1
    | _ :: _ :: _, h1 => simp at h1
  subst hts
  have hA : (lex a).dropLast ≠ [] := by
    intro e0
    apply hfa
    rw [e1, e0]; exact e2
  rw [e1] at hpa
  have hJ := pGrammar_join (C := (lex b).map (sh (a.size + 1))) e2 e3 hA hpa
  rw [← hjl] at hJ
  have hpj := parse_short hs
  have hpb := parse_short hbs
  have hCl : ((lex b).map (sh (a.size + 1))).length = (lex b).length := by simp
  have hbn := (lex_wf b).ne
  obtain ⟨m, hm⟩ : ∃ m, ((lex b).map (sh (a.size + 1))).length = m + 1 := ⟨(lex b).length - 1, by omega⟩
  refine ⟨fun h0 => ?_, fun h0 hk => ?_, fun h0 hk => ⟨fun n p hb => ?_, fun hg hb => ?_⟩⟩
  · rw [hm, pRules_eq, if_pos (by rw [hd_sh]; exact h0), bnd_go] at hJ
    rw [hpj, hJ]; rfl
  · have hname : isName (hd (lex b)) = false := by
      unfold levelKind at hk
      split at hk
      · rename_i h1; rw [h1]; decide
      · split at hk
        · rename_i h1; rw [h1]; decide
        · split at hk
          · rename_i h1; rw [h1]; decide
          · exact absurd hk (by decide)
    have hru : pRule ((lex b).map (sh (a.size + 1))) = .error (2, pl ((lex b).map (sh (a.size + 1)))) := by
      rw [pRule_eq]
      unfold pWord
      rw [if_neg (by rw [hd_sh, hname]; decide)]; rfl
    rw [hm, pRules_eq, if_neg (by rw [hd_sh]; exact h0), hru] at hJ
    exact ⟨_, by rw [hpj, hJ]; rfl⟩
  · rw [pRules_plain (by rw [hd_sh]; exact hk) (by rw [hd_sh]; exact h0)] at hJ
    have hrel := pGrammar_s (k := a.size + 1) (ts := lex b) ⟨lex_wf b, rfl⟩
    rw [hpb] at hb
    cases hq : pGrammar (lex b) with
    | ok y => rw [hq] at hb; obtain ⟨y1, y2⟩ := y; cases hb
    | error x =>
      rw [hq] at hb hrel
      cases hb
      cases hq2 : pGrammar ((lex b).map (sh (a.size + 1))) with
      | ok y => rw [hq2] at hrel; exact hrel.elim
      | error z =>
        rw [hq2] at hrel hJ
        obtain ⟨z1, z2⟩ := z
        obtain ⟨r1, r2⟩ := hrel
        rw [hpj, hJ]
        show Except.error (z1, z2) = _
        rw [show z1 = n from r1, show z2 = p + (a.size + 1) from r2]
  · rw [pRules_plain (by rw [hd_sh]; exact hk) (by rw [hd_sh]; exact h0)] at hJ
    have hrel := pGrammar_rel (tx_sh (a.size + 1) (lex b))
    rw [hpb] at hb
    cases hq : pGrammar (lex b) with
    | error x => rw [hq] at hb; cases hb
    | ok y =>
      obtain ⟨g1, t1⟩ := y
      rw [hq] at hb hrel
      cases hb
      have hlv : hg.levels = [] := by
        rw [pGrammar_plain hk] at hq
        obtain ⟨x, t2, h3, h4⟩ := bnd_ok hq
        obtain ⟨l, t3, h5, h6⟩ := bnd_ok h4
        cases h6; rfl
      cases hq2 : pGrammar ((lex b).map (sh (a.size + 1))) with
      | error z => rw [hq2] at hrel; exact hrel.elim
      | ok z =>
        obtain ⟨g2, t2⟩ := z
        rw [hq2] at hrel hJ
        exact ⟨g2.rules, by rw [hpj, hJ]; rfl, hrel.1.2, hlv⟩
end Lx
end Go.Proofs.Ytonkcljapkeidaa

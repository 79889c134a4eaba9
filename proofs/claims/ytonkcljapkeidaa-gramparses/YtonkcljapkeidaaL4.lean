import Derived.Test.YtonkcljapkeidaaL3
namespace Go.Proofs.Ytonkcljapkeidaa
open Go Go.RowKit
namespace Lx
/-- An error is none of number 0. -/
def EP {α : Type} (r : Res α) : Prop := ∀ e, r = .error e → 0 < e.1
theorem EP.ok {α : Type} (x : α × List Tk) : EP (.ok x : Res α) := fun _ h => by cases h
theorem EP.no {α : Type} {n a : Nat} (h : 0 < n) : EP (.error (n, a) : Res α) := fun _ e => by cases e; exact h
theorem EP.up {α β : Type} {r : Res α} {e : Nat × Nat} (h : EP r) (hr : r = .error e) : EP (.error e : Res β) := fun _ h' => by cases h'; exact h e hr
theorem pWord_ep (k : ByteArray → Bool) (ts : List Tk) : EP (pWord k ts) := by
  unfold pWord
  split
  · exact EP.ok _
  · exact EP.no (by decide)
theorem pMust_ep (b : ByteArray) (ts : List Tk) : EP (pMust b ts) := by
  unfold pMust
  split
  · exact EP.ok _
  · exact EP.no (by decide)
theorem pItem_ep {grp : List Tk → Res (List Alt)} (hg : ∀ ts, EP (grp ts)) (ts : List Tk) : EP (pItem grp ts) := by
  unfold pItem
  split
  · cases hr0 : grp ts with
    | error e => exact EP.up (hg ts) hr0
    | ok y0 =>
      obtain ⟨x0, ts0⟩ := y0
      exact EP.ok _
  · split
    · exact EP.ok _
    · split
      · exact EP.ok _
      · exact EP.no (by decide)
theorem pItems_ep {grp : List Tk → Res (List Alt)} (hg : ∀ ts, EP (grp ts)) : ∀ (f : Nat) (ts : List Tk) (acc : List It), EP (pItems grp f ts acc)
  | 0, _, _ => EP.ok _
  | f + 1, ts, acc => by
    simp only [pItems]
    split
    · cases hr0 : pItem grp ts with
      | error e => exact EP.up (pItem_ep hg ts) hr0
      | ok y0 =>
        obtain ⟨x0, ts0⟩ := y0
        exact pItems_ep hg f _ _
    · exact EP.ok _
theorem pPrec_ep (top : Bool) (items : List It) (ts : List Tk) : EP (pPrec top items ts) := by
  unfold pPrec
  split
  · cases hr0 : pWord isToken ts.tail with
    | error e => exact EP.up (pWord_ep _ _) hr0
    | ok y0 =>
      obtain ⟨x0, ts0⟩ := y0
      exact EP.ok _
  · exact EP.ok _
theorem pAlt_ep {grp : List Tk → Res (List Alt)} (hg : ∀ ts, EP (grp ts)) (top : Bool) (ts : List Tk) : EP (pAlt grp top ts) := by
  unfold pAlt
  cases hr0 : pItems grp ts.length ts [] with
  | error e => exact EP.up (pItems_ep hg _ _ _) hr0
  | ok y0 =>
    obtain ⟨x0, ts0⟩ := y0
    exact pPrec_ep _ _ _
theorem pMore_ep {grp : List Tk → Res (List Alt)} (hg : ∀ ts, EP (grp ts)) (top : Bool) : ∀ (f : Nat) (ts : List Tk) (acc : List Alt), EP (pMore grp top f ts acc)
  | 0, _, _ => EP.ok _
  | f + 1, ts, acc => by
    simp only [pMore]
    split
    · cases hr0 : pAlt grp top ts.tail with
      | error e => exact EP.up (pAlt_ep hg _ _) hr0
      | ok y0 =>
        obtain ⟨x0, ts0⟩ := y0
        exact pMore_ep hg top f _ _
    · exact EP.ok _
theorem pAltsBy_ep {grp : List Tk → Res (List Alt)} (hg : ∀ ts, EP (grp ts)) (top : Bool) (ts : List Tk) : EP (pAltsBy grp top ts) := by
  unfold pAltsBy
  cases hr0 : pAlt grp top ts with
  | error e => exact EP.up (pAlt_ep hg _ _) hr0
  | ok y0 =>
    obtain ⟨x0, ts0⟩ := y0
    exact pMore_ep hg _ _ _ _
theorem pGroup_ep {r : List Tk → Res (List Alt)} (hr : ∀ ts, EP (r ts)) (ts : List Tk) : EP (pGroup r ts) := by
  unfold pGroup
  cases hr0 : r ts.tail with
  | error e => exact EP.up (hr _) hr0
  | ok y0 =>
    obtain ⟨x0, ts0⟩ := y0
    simp only
    cases hr1 : pMust tShut ts0 with
    | error e => exact EP.up (pMust_ep _ _) hr1
    | ok y1 =>
      obtain ⟨x1, ts1⟩ := y1
      exact EP.ok _
theorem pAlts_ep : ∀ (d : Nat) (ts : List Tk), EP (pAlts d ts)
  | 0, ts => pAltsBy_ep (grp := fun ts => .error (3, pl ts)) (fun _ => EP.no (by decide)) _ _
  | d + 1, ts => pAltsBy_ep (pGroup_ep (pAlts_ep d)) _ _
theorem pRule_ep (ts : List Tk) : EP (pRule ts) := by
  unfold pRule
  cases hr0 : pWord isName ts with
  | error e => exact EP.up (pWord_ep _ _) hr0
  | ok y0 =>
    obtain ⟨x0, ts0⟩ := y0
    simp only
    cases hr1 : pMust tEq ts0 with
    | error e => exact EP.up (pMust_ep _ _) hr1
    | ok y1 =>
      obtain ⟨x1, ts1⟩ := y1
      simp only
      cases hr2 : pAlts 8 ts1 with
      | error e => exact EP.up (pAlts_ep _ _) hr2
      | ok y2 =>
        obtain ⟨x2, ts2⟩ := y2
        simp only
        cases hr3 : pMust tSemi ts2 with
        | error e => exact EP.up (pMust_ep _ _) hr3
        | ok y3 =>
          obtain ⟨x3, ts3⟩ := y3
          exact EP.ok _
theorem pTokens_ep : ∀ (f : Nat) (ts acc : List Tk), EP (pTokens f ts acc)
  | 0, _, _ => EP.ok _
  | f + 1, ts, acc => by
    simp only [pTokens]
    split
    · exact EP.ok _
    · cases hr0 : pWord isToken ts with
      | error e => exact EP.up (pWord_ep _ _) hr0
      | ok y0 =>
        obtain ⟨x0, ts0⟩ := y0
        exact pTokens_ep f _ _
theorem pLevel_ep (ts : List Tk) : EP (pLevel ts) := by
  unfold pLevel
  cases hr0 : pWord isToken ts.tail with
  | error e => exact EP.up (pWord_ep _ _) hr0
  | ok y0 =>
    obtain ⟨x0, ts0⟩ := y0
    simp only
    cases hr1 : pTokens ts0.length ts0 [(x0, pl ts.tail)] with
    | error e => exact EP.up (pTokens_ep _ _ _) hr1
    | ok y1 =>
      obtain ⟨x1, ts1⟩ := y1
      exact EP.ok _
theorem pLevels_ep : ∀ (f : Nat) (ts : List Tk) (acc : List Lv), EP (pLevels f ts acc)
  | 0, _, _ => EP.ok _
  | f + 1, ts, acc => by
    simp only [pLevels]
    split
    · cases hr0 : pLevel ts with
      | error e => exact EP.up (pLevel_ep _) hr0
      | ok y0 =>
        obtain ⟨x0, ts0⟩ := y0
        exact pLevels_ep f _ _
    · exact EP.ok _
theorem pRules_ep : ∀ (f : Nat) (ts : List Tk) (acc : List Rl), EP (pRules f ts acc)
  | 0, _, _ => EP.ok _
  | f + 1, ts, acc => by
    simp only [pRules]
    split
    · exact EP.ok _
    · cases hr0 : pRule ts with
      | error e => exact EP.up (pRule_ep _) hr0
      | ok y0 =>
        obtain ⟨x0, ts0⟩ := y0
        exact pRules_ep f _ _
theorem pGrammar_ep (ts : List Tk) : EP (pGrammar ts) := by
  unfold pGrammar
  cases hr0 : pLevels ts.length ts [] with
  | error e => exact EP.up (pLevels_ep _ _ _) hr0
  | ok y0 =>
    obtain ⟨x0, ts0⟩ := y0
    simp only
    cases hr1 : pRule ts0 with
    | error e => exact EP.up (pRule_ep _) hr1
    | ok y1 =>
      obtain ⟨x1, ts1⟩ := y1
      simp only
      cases hr2 : pRules ts1.length ts1 [x1] with
      | error e => exact EP.up (pRules_ep _ _ _) hr2
      | ok y2 =>
        obtain ⟨x2, ts2⟩ := y2
        exact EP.ok _
theorem parse_pos {s : ByteArray} {n a : Nat} (h : parse s = .error (n, a)) : 0 < n := by
  unfold parse at h
  split at h
  · cases h; decide
  · cases hr : pGrammar (lex s) with
    | error e => rw [hr] at h; cases h; exact pGrammar_ep _ _ hr
    | ok x => obtain ⟨g, ts'⟩ := x; rw [hr] at h; cases h
end Lx
end Go.Proofs.Ytonkcljapkeidaa

import Derived.Test.YtonkcljapkeidaaL1
namespace Go.Proofs.Ytonkcljapkeidaa
open Go Go.RowKit
namespace Lx
def noText : ByteArray := ⟨#[]⟩
/-- Signs that are not yet passed: the last one alone is empty. -/
def WF : List Tk → Prop
  | [] => False
  | [t] => t.1 = noText
  | t :: u :: r => t.1 ≠ noText ∧ WF (u :: r)
def hd (ts : List Tk) : ByteArray := (ts.headD (noText, 0)).1
def pl (ts : List Tk) : Nat := (ts.headD (noText, 0)).2
theorem WF.ne {ts : List Tk} (h : WF ts) : 0 < ts.length := by
  cases ts with
  | nil => exact h.elim
  | cons t r => simp
theorem WF.tail {ts : List Tk} (h : WF ts) (hn : hd ts ≠ noText) : WF ts.tail := by
  match ts, h with
  | [], h => exact h.elim
  | [t], h => exact absurd h hn
  | t :: u :: r, h => exact h.2
theorem WF.tail_len {ts : List Tk} (h : WF ts) : ts.tail.length + 1 = ts.length := by
  have := h.ne
  simp; omega
theorem lexTo_wf (s : ByteArray) : ∀ (f i : Nat), s.size - i ≤ f → WF (lexTo s f i)
  | 0, i, _ => rfl
  | f + 1, i, hf => by
    simp only [lexTo]
    by_cases h : i < s.size
    · have hb := signEnd_bd h
      have hn := nextAt_bd h
      have ih := lexTo_wf s f (nextAt s i) (by omega)
      rw [if_pos h]
      have hne : s.extract i (signEnd s i) ≠ noText := by
        intro e
        have := congrArg ByteArray.size e
        simp [noText, ByteArray.size_extract] at this
        have e0 : (ByteArray.size ⟨#[]⟩) = 0 := rfl
        omega
      cases hl : lexTo s f (nextAt s i) with
      | nil => rw [hl] at ih; exact ih.elim
      | cons u r => rw [hl] at ih; exact ⟨hne, ih⟩
    · rw [if_neg h]; rfl
theorem lex_wf (s : ByteArray) : WF (lex s) := lexTo_wf s _ _ (Nat.le_refl _)

def allOf (p : Int → Bool) (b : ByteArray) : Bool := b.data.toList.all fun c => p (c.toNat : Int) || digit (c.toNat : Int)
def isWord (p : Int → Bool) (b : ByteArray) : Bool := decide (0 < b.size) && decide (b.size ≤ 12) && p (byteAt b 0) && allOf p b
def isName (b : ByteArray) : Bool := isWord small b
def isToken (b : ByteArray) : Bool := isWord capital b

structure It where
  kind : Nat
  name : ByteArray
  mark : Nat
  alts : List (List It × ByteArray × Nat)
  place : Nat
abbrev Alt := List It × ByteArray × Nat
structure Rl where
  name : ByteArray
  alts : List Alt
  place : Nat
structure Lv where
  kind : Nat
  tokens : List Tk
structure Gr where
  levels : List Lv
  rules : List Rl
abbrev Res (α : Type) := Except (Nat × Nat) (α × List Tk)

def tOpen : ByteArray := ⟨#[40]⟩
def tShut : ByteArray := ⟨#[41]⟩
def tStar : ByteArray := ⟨#[42]⟩
def tPlus : ByteArray := ⟨#[43]⟩
def tAsk : ByteArray := ⟨#[63]⟩
def tBar : ByteArray := ⟨#[124]⟩
def tSemi : ByteArray := ⟨#[59]⟩
def tEq : ByteArray := ⟨#[61]⟩
def tPrec : ByteArray := ⟨#[37, 112, 114, 101, 99]⟩
def tLeft : ByteArray := ⟨#[37, 108, 101, 102, 116]⟩
def tRight : ByteArray := ⟨#[37, 114, 105, 103, 104, 116]⟩
def tNone : ByteArray := ⟨#[37, 110, 111, 110, 101]⟩

def pWord (k : ByteArray → Bool) (ts : List Tk) : Res ByteArray := if k (hd ts) = true then .ok (hd ts, ts.tail) else .error (2, pl ts)
def pMust (b : ByteArray) (ts : List Tk) : Res Unit := if hd ts = b then .ok ((), ts.tail) else .error (2, pl ts)
def pMark (ts : List Tk) : Nat × List Tk := if hd ts = tStar then (42, ts.tail) else if hd ts = tPlus then (43, ts.tail) else if hd ts = tAsk then (63, ts.tail) else (0, ts)
def seesItem (ts : List Tk) : Bool := decide (hd ts = tOpen) || isName (hd ts) || isToken (hd ts)
def pItem (grp : List Tk → Res (List Alt)) (ts : List Tk) : Res It :=
  if hd ts = tOpen then
    match grp ts with
    | .error e => .error e
    | .ok (alts, ts1) => .ok (⟨2, noText, (pMark ts1).1, alts, pl ts⟩, (pMark ts1).2)
  else if isName (hd ts) = true then .ok (⟨0, hd ts, (pMark ts.tail).1, [], pl ts⟩, (pMark ts.tail).2)
  else if isToken (hd ts) = true then .ok (⟨1, hd ts, (pMark ts.tail).1, [], pl ts⟩, (pMark ts.tail).2)
  else .error (2, pl ts)
def pItems (grp : List Tk → Res (List Alt)) : Nat → List Tk → List It → Res (List It)
  | 0, ts, acc => .ok (acc, ts)
  | f + 1, ts, acc =>
    if seesItem ts = true then
      match pItem grp ts with
      | .error e => .error e
      | .ok (x, ts1) => pItems grp f ts1 (acc ++ [x])
    else .ok (acc, ts)
def pPrec (top : Bool) (items : List It) (ts : List Tk) : Res Alt :=
  if top = true ∧ hd ts = tPrec then
    match pWord isToken ts.tail with
    | .error e => .error e
    | .ok (b, ts1) => .ok ((items, b, pl ts.tail), ts1)
  else .ok ((items, noText, 0), ts)
def pAlt (grp : List Tk → Res (List Alt)) (top : Bool) (ts : List Tk) : Res Alt :=
  match pItems grp ts.length ts [] with
  | .error e => .error e
  | .ok (items, ts1) => pPrec top items ts1
def pMore (grp : List Tk → Res (List Alt)) (top : Bool) : Nat → List Tk → List Alt → Res (List Alt)
  | 0, ts, acc => .ok (acc, ts)
  | f + 1, ts, acc =>
    if hd ts = tBar then
      match pAlt grp top ts.tail with
      | .error e => .error e
      | .ok (x, ts1) => pMore grp top f ts1 (acc ++ [x])
    else .ok (acc, ts)
def pAltsBy (grp : List Tk → Res (List Alt)) (top : Bool) (ts : List Tk) : Res (List Alt) :=
  match pAlt grp top ts with
  | .error e => .error e
  | .ok (x, ts1) => pMore grp top ts1.length ts1 [x]
def pGroup (alts : List Tk → Res (List Alt)) (ts : List Tk) : Res (List Alt) :=
  match alts ts.tail with
  | .error e => .error e
  | .ok (l, ts1) =>
    match pMust tShut ts1 with
    | .error e => .error e
    | .ok (_, ts2) => .ok (l, ts2)
/-- d: how many groups more may be opened -/
def pAlts : Nat → List Tk → Res (List Alt)
  | 0, ts => pAltsBy (fun ts => .error (3, pl ts)) false ts
  | d + 1, ts => pAltsBy (pGroup (pAlts d)) (d == 7) ts
def pGroupAt : Nat → List Tk → Res (List Alt)
  | 0, ts => .error (3, pl ts)
  | d + 1, ts => pGroup (pAlts d) ts
theorem pAlts_eq (d : Nat) (ts : List Tk) : pAlts d ts = pAltsBy (pGroupAt d) (d == 8) ts := by
  cases d with
  | zero => rfl
  | succ d => simp only [pAlts]; congr 1; simp
theorem pWord_len {k : ByteArray → Bool} {ts ts' : List Tk} {b : ByteArray} (h : pWord k ts = .ok (b, ts')) : ts' = ts.tail ∧ b = hd ts ∧ k (hd ts) = true := by
  unfold pWord at h
  split at h
  · rename_i hk; simp only [Except.ok.injEq, Prod.mk.injEq] at h; exact ⟨h.2.symm, h.1.symm, hk⟩
  · cases h
theorem pMust_len {b : ByteArray} {ts ts' : List Tk} {u : Unit} (h : pMust b ts = .ok (u, ts')) : ts' = ts.tail ∧ hd ts = b := by
  unfold pMust at h
  split at h
  · rename_i hk; simp only [Except.ok.injEq, Prod.mk.injEq] at h; exact ⟨h.2.symm, hk⟩
  · cases h
theorem pMark_len (ts : List Tk) : (pMark ts).2.length ≤ ts.length := by
  unfold pMark
  split
  · simp
  · split
    · simp
    · split <;> simp
def Shrinks {α : Type} (f : List Tk → Res α) : Prop := ∀ ts x ts', f ts = .ok (x, ts') → ts'.length ≤ ts.length
theorem pItem_len {grp : List Tk → Res (List Alt)} (hg : ∀ ts x ts', grp ts = .ok (x, ts') → ts'.length ≤ ts.tail.length) {ts ts' : List Tk} {x : It} (h : pItem grp ts = .ok (x, ts')) : ts'.length ≤ ts.tail.length := by
  unfold pItem at h
  split at h
  · cases hr : grp ts with
    | error e => rw [hr] at h; cases h
    | ok y =>
      obtain ⟨l, ts1⟩ := y
      rw [hr] at h
      simp only [Except.ok.injEq, Prod.mk.injEq] at h
      have h1 := hg _ _ _ hr
      have h2 := pMark_len ts1
      rw [← h.2]; omega
  · split at h
    · simp only [Except.ok.injEq, Prod.mk.injEq] at h
      rw [← h.2]; exact pMark_len _
    · split at h
      · simp only [Except.ok.injEq, Prod.mk.injEq] at h
        rw [← h.2]; exact pMark_len _
      · cases h
theorem pItems_len {grp : List Tk → Res (List Alt)} (hg : ∀ ts x ts', grp ts = .ok (x, ts') → ts'.length ≤ ts.tail.length) : ∀ (f : Nat) (ts : List Tk) (acc : List It) (x : List It) (ts' : List Tk), pItems grp f ts acc = .ok (x, ts') → ts'.length ≤ ts.length
  | 0, ts, acc, x, ts', h => by simp only [pItems, Except.ok.injEq, Prod.mk.injEq] at h; rw [h.2]; exact Nat.le_refl _
  | f + 1, ts, acc, x, ts', h => by
    simp only [pItems] at h
    split at h
    · cases hr : pItem grp ts with
      | error e => rw [hr] at h; cases h
      | ok y =>
        obtain ⟨z, ts1⟩ := y
        rw [hr] at h
        have h1 := pItem_len hg hr
        have h2 := pItems_len hg f ts1 _ x ts' h
        have h3 : ts.tail.length ≤ ts.length := by simp
        omega
    · simp only [Except.ok.injEq, Prod.mk.injEq] at h; rw [h.2]; exact Nat.le_refl _
theorem pPrec_len {top : Bool} {items : List It} {ts ts' : List Tk} {x : Alt} (h : pPrec top items ts = .ok (x, ts')) : ts'.length ≤ ts.length := by
  unfold pPrec at h
  split at h
  · cases hr : pWord isToken ts.tail with
    | error e => rw [hr] at h; cases h
    | ok y =>
      obtain ⟨b, ts1⟩ := y
      rw [hr] at h
      simp only [Except.ok.injEq, Prod.mk.injEq] at h
      have h1 := (pWord_len hr).1
      rw [← h.2, h1]; simp; omega
  · simp only [Except.ok.injEq, Prod.mk.injEq] at h
    rw [← h.2]; exact Nat.le_refl _
theorem pAlt_len {grp : List Tk → Res (List Alt)} (hg : ∀ ts x ts', grp ts = .ok (x, ts') → ts'.length ≤ ts.tail.length) {top : Bool} {ts ts' : List Tk} {x : Alt} (h : pAlt grp top ts = .ok (x, ts')) : ts'.length ≤ ts.length := by
  unfold pAlt at h
  cases hr : pItems grp ts.length ts [] with
  | error e => rw [hr] at h; cases h
  | ok y =>
    obtain ⟨l, ts1⟩ := y
    rw [hr] at h
    have h1 := pItems_len hg _ _ _ _ _ hr
    have h2 := pPrec_len h
    omega
theorem pMore_len {grp : List Tk → Res (List Alt)} (hg : ∀ ts x ts', grp ts = .ok (x, ts') → ts'.length ≤ ts.tail.length) {top : Bool} : ∀ (f : Nat) (ts : List Tk) (acc : List Alt) (x : List Alt) (ts' : List Tk), pMore grp top f ts acc = .ok (x, ts') → ts'.length ≤ ts.length
  | 0, ts, acc, x, ts', h => by simp only [pMore, Except.ok.injEq, Prod.mk.injEq] at h; rw [h.2]; exact Nat.le_refl _
  | f + 1, ts, acc, x, ts', h => by
    simp only [pMore] at h
    split at h
    · cases hr : pAlt grp top ts.tail with
      | error e => rw [hr] at h; cases h
      | ok y =>
        obtain ⟨z, ts1⟩ := y
        rw [hr] at h
        have h1 := pAlt_len hg hr
        have h2 := pMore_len hg f ts1 _ x ts' h
        have h3 : ts.tail.length ≤ ts.length := by simp
        omega
    · simp only [Except.ok.injEq, Prod.mk.injEq] at h; rw [h.2]; exact Nat.le_refl _
theorem pAltsBy_len {grp : List Tk → Res (List Alt)} (hg : ∀ ts x ts', grp ts = .ok (x, ts') → ts'.length ≤ ts.tail.length) {top : Bool} {ts ts' : List Tk} {x : List Alt} (h : pAltsBy grp top ts = .ok (x, ts')) : ts'.length ≤ ts.length := by
  unfold pAltsBy at h
  cases hr : pAlt grp top ts with
  | error e => rw [hr] at h; cases h
  | ok y =>
    obtain ⟨l, ts1⟩ := y
    rw [hr] at h
    have h1 := pAlt_len hg hr
    have h2 := pMore_len hg _ _ _ _ _ h
    omega
theorem pGroup_len {r : List Tk → Res (List Alt)} (hr : ∀ ts x ts', r ts = .ok (x, ts') → ts'.length ≤ ts.length) (ts : List Tk) (x : List Alt) (ts' : List Tk) (h : pGroup r ts = .ok (x, ts')) : ts'.length ≤ ts.tail.length := by
  unfold pGroup at h
  cases h1 : r ts.tail with
  | error e => rw [h1] at h; cases h
  | ok y =>
    obtain ⟨l, ts1⟩ := y
    rw [h1] at h
    cases h2 : pMust tShut ts1 with
    | error e => simp only [h2] at h; cases h
    | ok z =>
      obtain ⟨u, ts2⟩ := z
      simp only [h2, Except.ok.injEq, Prod.mk.injEq] at h
      have := hr _ _ _ h1
      have h3 := (pMust_len h2).1
      rw [← h.2, h3]
      have h4 : ts1.tail.length ≤ ts1.length := by simp
      omega
theorem pAlts_len : ∀ (d : Nat) (ts : List Tk) (x : List Alt) (ts' : List Tk), pAlts d ts = .ok (x, ts') → ts'.length ≤ ts.length
  | 0, ts, x, ts', h => pAltsBy_len (grp := fun ts => .error (3, pl ts)) (fun _ _ _ h => by cases h) h
  | d + 1, ts, x, ts', h => pAltsBy_len (pGroup_len (pAlts_len d)) h
theorem pGroupAt_len : ∀ (d : Nat) (ts : List Tk) (x : List Alt) (ts' : List Tk), pGroupAt d ts = .ok (x, ts') → ts'.length ≤ ts.tail.length
  | 0, ts, x, ts', h => by cases h
  | d + 1, ts, x, ts', h => pGroup_len (pAlts_len d) _ _ _ h
def pRule (ts : List Tk) : Res Rl :=
  match pWord isName ts with
  | .error e => .error e
  | .ok (n, ts1) =>
    match pMust tEq ts1 with
    | .error e => .error e
    | .ok (_, ts2) =>
      match pAlts 8 ts2 with
      | .error e => .error e
      | .ok (l, ts3) =>
        match pMust tSemi ts3 with
        | .error e => .error e
        | .ok (_, ts4) => .ok (⟨n, l, pl ts⟩, ts4)
def levelKind (b : ByteArray) : Int := if b = tLeft then 0 else if b = tRight then 1 else if b = tNone then 2 else -1
def pTokens : Nat → List Tk → List Tk → Res (List Tk)
  | 0, ts, acc => .ok (acc, ts)
  | f + 1, ts, acc =>
    if hd ts = tSemi then .ok (acc, ts.tail)
    else
      match pWord isToken ts with
      | .error e => .error e
      | .ok (b, ts1) => pTokens f ts1 (acc ++ [(b, pl ts)])
def pLevel (ts : List Tk) : Res Lv :=
  match pWord isToken ts.tail with
  | .error e => .error e
  | .ok (b, ts1) =>
    match pTokens ts1.length ts1 [(b, pl ts.tail)] with
    | .error e => .error e
    | .ok (l, ts2) => .ok (⟨(levelKind (hd ts)).toNat, l⟩, ts2)
def pLevels : Nat → List Tk → List Lv → Res (List Lv)
  | 0, ts, acc => .ok (acc, ts)
  | f + 1, ts, acc =>
    if 0 ≤ levelKind (hd ts) then
      match pLevel ts with
      | .error e => .error e
      | .ok (x, ts1) => pLevels f ts1 (acc ++ [x])
    else .ok (acc, ts)
def pRules : Nat → List Tk → List Rl → Res (List Rl)
  | 0, ts, acc => .ok (acc, ts)
  | f + 1, ts, acc =>
    if hd ts = noText then .ok (acc, ts)
    else
      match pRule ts with
      | .error e => .error e
      | .ok (x, ts1) => pRules f ts1 (acc ++ [x])
def pGrammar (ts : List Tk) : Res Gr :=
  match pLevels ts.length ts [] with
  | .error e => .error e
  | .ok (lv, ts1) =>
    match pRule ts1 with
    | .error e => .error e
    | .ok (x, ts2) =>
      match pRules ts2.length ts2 [x] with
      | .error e => .error e
      | .ok (l, ts3) => .ok (⟨lv, l⟩, ts3)
def parse (s : ByteArray) : Except (Nat × Nat) Gr :=
  if 2000 < s.size then .error (1, 0)
  else
    match pGrammar (lex s) with
    | .error e => .error e
    | .ok (g, _) => .ok g
end Lx
end Go.Proofs.Ytonkcljapkeidaa

import Derived.Test.YtonkcljapkeidaaL2
namespace Go.Proofs.Ytonkcljapkeidaa
open Go Go.RowKit
namespace Lx
theorem tail_le (ts : List Tk) : ts.tail.length ≤ ts.length := by simp
theorem pTokens_len : ∀ (f : Nat) (ts acc x ts' : List Tk), pTokens f ts acc = .ok (x, ts') → ts'.length ≤ ts.length
  | 0, ts, acc, x, ts', h => by simp only [pTokens, Except.ok.injEq, Prod.mk.injEq] at h; rw [h.2]; exact Nat.le_refl _
  | f + 1, ts, acc, x, ts', h => by
    have h3 := tail_le ts
    simp only [pTokens] at h
    split at h
    · simp only [Except.ok.injEq, Prod.mk.injEq] at h; rw [← h.2]; exact h3
    · cases hr : pWord isToken ts with
      | error e => rw [hr] at h; cases h
      | ok y =>
        obtain ⟨b, ts1⟩ := y
        rw [hr] at h
        have h1 := (pWord_len hr).1
        have h2 := pTokens_len f ts1 _ x ts' h
        rw [h1] at h2
        omega
theorem pLevel_len {ts ts' : List Tk} {x : Lv} (h : pLevel ts = .ok (x, ts')) : ts'.length ≤ ts.tail.length := by
  unfold pLevel at h
  cases hr : pWord isToken ts.tail with
  | error e => rw [hr] at h; cases h
  | ok y =>
    obtain ⟨b, ts1⟩ := y
    rw [hr] at h
    have h1 := (pWord_len hr).1
    cases hr2 : pTokens ts1.length ts1 [(b, pl ts.tail)] with
    | error e => simp only [hr2] at h; cases h
    | ok z =>
      obtain ⟨l, ts2⟩ := z
      simp only [hr2, Except.ok.injEq, Prod.mk.injEq] at h
      have h2 := pTokens_len _ _ _ _ _ hr2
      have h3 := tail_le ts.tail
      rw [← h.2]; rw [h1] at h2; omega
theorem pRule_len {ts ts' : List Tk} {x : Rl} (h : pRule ts = .ok (x, ts')) : ts'.length ≤ ts.tail.length := by
  unfold pRule at h
  cases hr : pWord isName ts with
  | error e => rw [hr] at h; cases h
  | ok y =>
    obtain ⟨b, ts1⟩ := y
    rw [hr] at h
    have h1 := (pWord_len hr).1
    cases hr2 : pMust tEq ts1 with
    | error e => simp only [hr2] at h; cases h
    | ok z =>
      obtain ⟨u, ts2⟩ := z
      have h2 := (pMust_len hr2).1
      cases hr3 : pAlts 8 ts2 with
      | error e => simp only [hr2, hr3] at h; cases h
      | ok z =>
        obtain ⟨l, ts3⟩ := z
        have h3 := pAlts_len 8 _ _ _ hr3
        cases hr4 : pMust tSemi ts3 with
        | error e => simp only [hr2, hr3, hr4] at h; cases h
        | ok z =>
          obtain ⟨u', ts4⟩ := z
          have h4 := (pMust_len hr4).1
          simp only [hr2, hr3, hr4, Except.ok.injEq, Prod.mk.injEq] at h
          have h5 := tail_le ts3
          have h6 := tail_le ts1
          rw [← h.2, h4]
          rw [h2] at h3
          rw [h1] at h3 h6
          omega
def rulesOf (lv : List Lv) : Res (List Rl) → Res Gr
  | .error e => .error e
  | .ok (l, ts) => .ok (⟨lv, l⟩, ts)
def afterLv (lv : List Lv) (ts1 : List Tk) : Res Gr :=
  match pRule ts1 with
  | .error e => .error e
  | .ok (x, ts2) => rulesOf lv (pRules ts2.length ts2 [x])
def grOf : Res (List Lv) → Res Gr
  | .error e => .error e
  | .ok (lv, ts1) => afterLv lv ts1
theorem pGrammar_eq (ts : List Tk) : pGrammar ts = grOf (pLevels ts.length ts []) := by
  unfold pGrammar
  cases h1 : pLevels ts.length ts [] with
  | error e => rfl
  | ok y =>
    obtain ⟨lv, ts1⟩ := y
    simp only [grOf, afterLv]
    cases h2 : pRule ts1 with
    | error e => rfl
    | ok z =>
      obtain ⟨x, ts2⟩ := z
      simp only
      cases h3 : pRules ts2.length ts2 [x] with
      | error e => rfl
      | ok q => obtain ⟨l, ts3⟩ := q; rfl
end Lx
end Go.Proofs.Ytonkcljapkeidaa

import Derived.Test.YtonkcljapkeidaaP3
import Derived.Test.YtonkcljapkeidaaB7
import Derived.Test.YtonkcljapkeidaaL4
namespace Go.Proofs.Ytonkcljapkeidaa
open Go.RowKit
open Lx (Tk)
open Tr
namespace Lx
theorem pLevels_none {ts : List Tk} (h : hd ts = noText) : ∀ f acc, pLevels f ts acc = .ok (acc, ts)
  | 0, _ => rfl
  | f + 1, acc => by
    have : ¬ 0 ≤ levelKind (hd ts) := by rw [h]; decide
    rw [pLevels, if_neg this]
theorem pGrammar_first {ts ts' : List Tk} {g : Gr} (h : pGrammar ts = .ok (g, ts')) : hd ts ≠ noText := by
  intro e
  unfold pGrammar at h
  rw [pLevels_none e] at h
  have hr : pRule ts = .error (2, pl ts) := by
    unfold pRule pWord
    rw [if_neg (by rw [e]; decide)]
  simp only [hr] at h
  cases h
theorem parse_ok {s : ByteArray} {g : Gr} (h : parse s = .ok g) : s.size ≤ 2000 ∧ ∃ ts', pGrammar (lex s) = .ok (g, ts') := by
  unfold parse at h
  split at h
  · cases h
  · rename_i hs
    cases hr : pGrammar (lex s) with
    | error e => rw [hr] at h; cases h
    | ok x =>
      obtain ⟨g', ts'⟩ := x
      rw [hr] at h
      cases h
      exact ⟨by omega, ts', rfl⟩
theorem formL_ne {b : ByteArray} {ts : List Tk} (h : hd ts ≠ noText) : formL b ts ≠ [] := by
  cases ts with
  | nil => exact absurd rfl h
  | cons t r =>
    intro e
    simp only [formL, List.append_eq_nil_iff] at e
    have e2 := e.2.1
    apply h
    show t.1 = noText
    exact ByteArray.ext (Array.ext' e2)
end Lx
/-- How Print ends. -/
def PrintEnds (w : World) (s : ByteArray) (e : Ending) (w' : World) : Prop :=
  Below w.heap.size w w' ∧
    match Lx.parse s with
    | .ok _ => e = .returned (.tuple #[.string ⟨(Lx.formL Lx.noText (Lx.lex s)).toArray⟩, .int .i64 0, .int .i64 0])
    | .error (n, a) => e = .returned (.tuple #[.string ⟨#[]⟩, .int .i64 (n : Int), .int .i64 (a : Int)])
theorem PrintEnds.yes {w w' : World} {s : ByteArray} {g : Lx.Gr} (hr : Lx.parse s = .ok g) (hb : Below w.heap.size w w') :
    PrintEnds w s (.returned (.tuple #[.string ⟨(Lx.formL Lx.noText (Lx.lex s)).toArray⟩, .int .i64 0, .int .i64 0])) w' := by
  unfold PrintEnds; rw [hr]; exact ⟨hb, rfl⟩
theorem PrintEnds.no {w w' : World} {s : ByteArray} {n a : Nat} (hr : Lx.parse s = .error (n, a)) (hb : Below w.heap.size w w') :
    PrintEnds w s (.returned (.tuple #[.string ⟨#[]⟩, .int .i64 (n : Int), .int .i64 (a : Int)])) w' := by
  unfold PrintEnds; rw [hr]; exact ⟨hb, rfl⟩
theorem ParseEnds.out {w w' : World} {s : ByteArray} {e : Ending} (h : ParseEnds w s e w') : Below w.heap.size w w' ∧
    ((∃ g vl vr, Lx.parse s = .ok g ∧ e = .returned (.tuple #[.agg #[vl, vr], .int .i64 0, .int .i64 0]) ∧ GramIn (In w.heap.size w'.heap.size) w' vl vr g) ∨
     (∃ n a : Nat, 0 < n ∧ Lx.parse s = .error (n, a) ∧ e = .returned (.tuple #[.agg #[.slice none 0 0, .slice none 0 0], .int .i64 (n : Int), .int .i64 (a : Int)]))) := by
  unfold ParseEnds at h
  obtain ⟨hb, h⟩ := h
  refine ⟨hb, ?_⟩
  cases hr : Lx.parse s with
  | ok g => rw [hr] at h; obtain ⟨vl, vr, he, hg⟩ := h; exact .inl ⟨g, vl, vr, rfl, he, hg⟩
  | error x => obtain ⟨n, a⟩ := x; rw [hr] at h; exact .inr ⟨n, a, Lx.parse_pos hr, rfl, h⟩
set_option maxHeartbeats 1000000 in
set_option maxRecDepth 100000 in
theorem Print_any (s : ByteArray) (w : World) (hmax : s.size ≤ maxLen) : Calls Try.prog 14 #[.string s] w (PrintEnds w s) := by
  have P := Parse_any s w hmax
  clear hmax
  go_enter Try.func14, Try.ntmps14
  go_wp2_with fail
  refine P.mono ?_
  intro e w1 he
  obtain ⟨hb1, ⟨g, vl, vr, hr, rfl, hg⟩ | ⟨n, a, hn, hr, rfl⟩⟩ := he.out
  · obtain ⟨la, lk, lc, rfl⟩ := Seq.form hg.1
    obtain ⟨ra, rk, rc, rfl⟩ := Seq.form hg.2
    have HR : Hid _ := hr
    obtain ⟨hs, ts', hpg⟩ := Lx.parse_ok hr
    have hf := Lx.formL_ne (b := Lx.noText) (Lx.pGrammar_first hpg)
    have HF : Hid (Lx.formL Lx.noText (Lx.lex s) ≠ []) := hf
    have hbA := hb1.alloc hb1.size (.cells #[.slice la lk lc, .slice ra rk rc] 25)
    clear hr hpg hf he P hg
    go_wp2_with fail
    refine (All_any s _ hs).mono ?_
    rintro e w2 ⟨v, rfl, hown, hb2⟩
    have hb3 : Below w.heap.size w w2 := hbA.trans (hb2.mono hbA.size)
    obtain ⟨xa, xk, xc, rfl⟩ := own_form hown
    have hlen := Lx.lex_len s
    go_wp2_with fail
    refine (form_any (Lx.lex s) _ w2 (own_le hown (Nat.zero_le _)) (by omega) (fun t ht => Nat.le_trans (Lx.lex_sz s t ht) hs) HF.out).mono ?_
    rintro e w3 ⟨rfl, hb4⟩
    go_wp2_with fail
    refine bodyPost_ret (v := .tuple #[.string ⟨(Lx.formL Lx.noText (Lx.lex s)).toArray⟩, .int .i64 0, .int .i64 0]) (by simp [results, Try.results14, go_sem]) rfl ?_
    exact PrintEnds.yes HR.out (hb3.trans (hb4.mono hb3.size))
  · have HR : Hid _ := hr
    have hn0 : ((n : Int) == 0) = false := beq_eq_false_iff_ne.2 (by omega)
    clear hr he P
    go_wp2_with fail
    refine bodyPost_ret (v := .tuple #[.string ⟨#[]⟩, .int .i64 (n : Int), .int .i64 (a : Int)]) (by simp [results, Try.results14, go_sem]) rfl ?_
    exact PrintEnds.no HR.out (hb1.alloc hb1.size _)
end Go.Proofs.Ytonkcljapkeidaa

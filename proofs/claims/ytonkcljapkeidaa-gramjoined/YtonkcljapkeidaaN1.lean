import Derived.Test.YtonkcljapkeidaaL3
import Derived.Test.YtonkcljapkeidaaA4
import Derived.Test.YtonkcljapkeidaaT1
import Derived.Deep.LoopGhost
import Derived.RegionTactic
import Derived.Test.YtonkcljapkeidaaA9
import Derived.Lib.Builder
import Derived.Lib.AppendStr
import Derived.Lib.UnsafeStr
import Derived.Laws.Externs
import Derived.Test.YtonkcljapkeidaaL2
import Derived.Test.YtonkcljapkeidaaB7
import Derived.Test.YtonkcljapkeidaaWF3
import Derived.Test.YtonkcljapkeidaaB5
import Derived.Test.YtonkcljapkeidaaWG1
import Derived.Deep.QuietTactic
import Derived.BigQuiet
import Derived.Test.YtonkcljapkeidaaWG3
namespace Go.Proofs.Ytonkcljapkeidaa
open Go Go.RowKit
namespace Lx
/-- An error is none of number 0. -/
def EP {α : Type} (r : Res α) : Prop := ∀ e, r = .error e → 0 < e.1
theorem EP.ok {α : Type} (x : α × List Tk) : EP (.ok x : Res α) := fun _ h => by cases h
theorem EP.no {α : Type} {n a : Nat} (h : 0 < n) : EP (.error (n, a) : Res α) := fun _ e => by cases e; exact h
theorem EP.up {α β : Type} {r : Res α} {e : Nat × Nat} (h : EP r) (hr : r = .error e) : EP (.error e : Res β) := fun _ h' => by cases h'; exact h e hr
theorem pWord_ep (k : ByteArray → Bool) (ts : List Tk) : EP (pWord k ts) := by
  unfold pWord
  split
  · exact EP.ok _
  · exact EP.no (by decide)
theorem pMust_ep (b : ByteArray) (ts : List Tk) : EP (pMust b ts) := by
  unfold pMust
  split
  · exact EP.ok _
  · exact EP.no (by decide)
theorem pItem_ep {grp : List Tk → Res (List Alt)} (hg : ∀ ts, EP (grp ts)) (ts : List Tk) : EP (pItem grp ts) := by
  unfold pItem
  split
  · cases hr0 : grp ts with
    | error e => exact EP.up (hg ts) hr0
    | ok y0 =>
      obtain ⟨x0, ts0⟩ := y0
      exact EP.ok _
  · split
    · exact EP.ok _
    · split
      · exact EP.ok _
      · exact EP.no (by decide)
theorem pItems_ep {grp : List Tk → Res (List Alt)} (hg : ∀ ts, EP (grp ts)) : ∀ (f : Nat) (ts : List Tk) (acc : List It), EP (pItems grp f ts acc)
  | 0, _, _ => EP.ok _
  | f + 1, ts, acc => by
    simp only [pItems]
    split
    · cases hr0 : pItem grp ts with
      | error e => exact EP.up (pItem_ep hg ts) hr0
      | ok y0 =>
        obtain ⟨x0, ts0⟩ := y0
        exact pItems_ep hg f _ _
    · exact EP.ok _
theorem pPrec_ep (top : Bool) (items : List It) (ts : List Tk) : EP (pPrec top items ts) := by
  unfold pPrec
  split
  · cases hr0 : pWord isToken ts.tail with
    | error e => exact EP.up (pWord_ep _ _) hr0
    | ok y0 =>
      obtain ⟨x0, ts0⟩ := y0
      exact EP.ok _
  · exact EP.ok _
theorem pAlt_ep {grp : List Tk → Res (List Alt)} (hg : ∀ ts, EP (grp ts)) (top : Bool) (ts : List Tk) : EP (pAlt grp top ts) := by
  unfold pAlt
  cases hr0 : pItems grp ts.length ts [] with
  | error e => exact EP.up (pItems_ep hg _ _ _) hr0
  | ok y0 =>
    obtain ⟨x0, ts0⟩ := y0
    exact pPrec_ep _ _ _
theorem pMore_ep {grp : List Tk → Res (List Alt)} (hg : ∀ ts, EP (grp ts)) (top : Bool) : ∀ (f : Nat) (ts : List Tk) (acc : List Alt), EP (pMore grp top f ts acc)
  | 0, _, _ => EP.ok _
  | f + 1, ts, acc => by
    simp only [pMore]
    split
    · cases hr0 : pAlt grp top ts.tail with
      | error e => exact EP.up (pAlt_ep hg _ _) hr0
      | ok y0 =>
        obtain ⟨x0, ts0⟩ := y0
        exact pMore_ep hg top f _ _
    · exact EP.ok _
theorem pAltsBy_ep {grp : List Tk → Res (List Alt)} (hg : ∀ ts, EP (grp ts)) (top : Bool) (ts : List Tk) : EP (pAltsBy grp top ts) := by
  unfold pAltsBy
  cases hr0 : pAlt grp top ts with
  | error e => exact EP.up (pAlt_ep hg _ _) hr0
  | ok y0 =>
    obtain ⟨x0, ts0⟩ := y0
    exact pMore_ep hg _ _ _ _
theorem pGroup_ep {r : List Tk → Res (List Alt)} (hr : ∀ ts, EP (r ts)) (ts : List Tk) : EP (pGroup r ts) := by
  unfold pGroup
  cases hr0 : r ts.tail with
  | error e => exact EP.up (hr _) hr0
  | ok y0 =>
    obtain ⟨x0, ts0⟩ := y0
    simp only
    cases hr1 : pMust tShut ts0 with
    | error e => exact EP.up (pMust_ep _ _) hr1
    | ok y1 =>
      obtain ⟨x1, ts1⟩ := y1
      exact EP.ok _
theorem pAlts_ep : ∀ (d : Nat) (ts : List Tk), EP (pAlts d ts)
  | 0, ts => pAltsBy_ep (grp := fun ts => .error (3, pl ts)) (fun _ => EP.no (by decide)) _ _
  | d + 1, ts => pAltsBy_ep (pGroup_ep (pAlts_ep d)) _ _
theorem pRule_ep (ts : List Tk) : EP (pRule ts) := by
  unfold pRule
  cases hr0 : pWord isName ts with
  | error e => exact EP.up (pWord_ep _ _) hr0
  | ok y0 =>
    obtain ⟨x0, ts0⟩ := y0
    simp only
    cases hr1 : pMust tEq ts0 with
    | error e => exact EP.up (pMust_ep _ _) hr1
    | ok y1 =>
      obtain ⟨x1, ts1⟩ := y1
      simp only
      cases hr2 : pAlts 8 ts1 with
      | error e => exact EP.up (pAlts_ep _ _) hr2
      | ok y2 =>
        obtain ⟨x2, ts2⟩ := y2
        simp only
        cases hr3 : pMust tSemi ts2 with
        | error e => exact EP.up (pMust_ep _ _) hr3
        | ok y3 =>
          obtain ⟨x3, ts3⟩ := y3
          exact EP.ok _
theorem pTokens_ep : ∀ (f : Nat) (ts acc : List Tk), EP (pTokens f ts acc)
  | 0, _, _ => EP.ok _
  | f + 1, ts, acc => by
    simp only [pTokens]
    split
    · exact EP.ok _
    · cases hr0 : pWord isToken ts with
      | error e => exact EP.up (pWord_ep _ _) hr0
      | ok y0 =>
        obtain ⟨x0, ts0⟩ := y0
        exact pTokens_ep f _ _
theorem pLevel_ep (ts : List Tk) : EP (pLevel ts) := by
  unfold pLevel
  cases hr0 : pWord isToken ts.tail with
  | error e => exact EP.up (pWord_ep _ _) hr0
  | ok y0 =>
    obtain ⟨x0, ts0⟩ := y0
    simp only
    cases hr1 : pTokens ts0.length ts0 [(x0, pl ts.tail)] with
    | error e => exact EP.up (pTokens_ep _ _ _) hr1
    | ok y1 =>
      obtain ⟨x1, ts1⟩ := y1
      exact EP.ok _
theorem pLevels_ep : ∀ (f : Nat) (ts : List Tk) (acc : List Lv), EP (pLevels f ts acc)
  | 0, _, _ => EP.ok _
  | f + 1, ts, acc => by
    simp only [pLevels]
    split
    · cases hr0 : pLevel ts with
      | error e => exact EP.up (pLevel_ep _) hr0
      | ok y0 =>
        obtain ⟨x0, ts0⟩ := y0
        exact pLevels_ep f _ _
    · exact EP.ok _
theorem pRules_ep : ∀ (f : Nat) (ts : List Tk) (acc : List Rl), EP (pRules f ts acc)
  | 0, _, _ => EP.ok _
  | f + 1, ts, acc => by
    simp only [pRules]
    split
    · exact EP.ok _
    · cases hr0 : pRule ts with
      | error e => exact EP.up (pRule_ep _) hr0
      | ok y0 =>
        obtain ⟨x0, ts0⟩ := y0
        exact pRules_ep f _ _
theorem pGrammar_ep (ts : List Tk) : EP (pGrammar ts) := by
  unfold pGrammar
  cases hr0 : pLevels ts.length ts [] with
  | error e => exact EP.up (pLevels_ep _ _ _) hr0
  | ok y0 =>
    obtain ⟨x0, ts0⟩ := y0
    simp only
    cases hr1 : pRule ts0 with
    | error e => exact EP.up (pRule_ep _) hr1
    | ok y1 =>
      obtain ⟨x1, ts1⟩ := y1
      simp only
      cases hr2 : pRules ts1.length ts1 [x1] with
      | error e => exact EP.up (pRules_ep _ _ _) hr2
      | ok y2 =>
        obtain ⟨x2, ts2⟩ := y2
        exact EP.ok _
theorem parse_pos {s : ByteArray} {n a : Nat} (h : parse s = .error (n, a)) : 0 < n := by
  unfold parse at h
  split at h
  · cases h; decide
  · cases hr : pGrammar (lex s) with
    | error e => rw [hr] at h; cases h; exact pGrammar_ep _ _ hr
    | ok x => obtain ⟨g, ts'⟩ := x; rw [hr] at h; cases h
end Lx
end Go.Proofs.Ytonkcljapkeidaa
namespace Go.Proofs.Ytonkcljapkeidaa
open Go.RowKit
open Tr
theorem own_len {w : World} {base e size : Nat} {v : Value} {n : Nat} {xs : List Value} (h : w.ownsRow base e size v n xs) : ∃ a c, v = .slice a n c ∧ n ≤ maxLen := by
  rcases h.2 with ⟨rfl, rfl⟩ | ⟨g, cap, cur, rfl, _, _, h1, h2, _⟩
  · exact ⟨_, _, rfl, Nat.zero_le _⟩
  · exact ⟨_, _, rfl, Nat.le_trans h1 h2⟩
theorem own_below {w w' : World} {base e size : Nat} {v : Value} {n : Nat} {xs : List Value} (h : w.ownsRow base e size v n xs) (hb : Below w.heap.size w w') : w'.ownsRow base e size v n xs :=
  own_move h fun g hg => hb.block g (h.lt g hg).2
set_option maxHeartbeats 1000000 in
theorem words_same (l : List ByteArray) (v v' : Value) (w : World) (h : w.ownsRow 0 9 1 v l.length (l.map Value.string)) (h' : w.ownsRow 0 9 1 v' l.length (l.map Value.string)) :
    Calls Try.prog 25 #[v, v'] w fun e w' => e = .returned (.bool true) ∧ Below w.heap.size w w' := by
  obtain ⟨a, c, rfl, hm⟩ := own_len h
  obtain ⟨a', c', rfl, -⟩ := own_len h'
  unfold maxLen at hm
  go_enter Try.func25, Try.ntmps25
  go_wp2_with fail
  go_loopg [5] l.length (fun k i wr => ∃ j : Nat, j + k = l.length ∧ i = .int .i64 j ∧ Below w.heap.size w wr)
  case atStart => exact ⟨0, by omega, rfl, Below.refl _ _⟩
  case round =>
    obtain ⟨j, hk, rfl, hb⟩ := hrel
    by_cases hlt : j < l.length
    · have h1 := own_below h hb
      have h2 := own_below h' hb
      obtain ⟨g, cap, hv, -, -⟩ := h1.form (by omega)
      obtain ⟨g', cap', hv', -, -⟩ := h2.form (by omega)
      cases hv
      cases hv'
      have c1 := h1.cellAt j (by omega)
      have c2 := h2.cellAt j (by omega)
      rw [List.getElem?_map, List.getElem?_eq_getElem hlt] at c1 c2
      simp only [Option.map_some] at c1 c2
      generalize l[j] = x at c1 c2
      go_wp2_with fail
      go_region
      all_goals
        go_wp2_with fail
        go_roundg (l.length - (j + 1))
        case measure => omega
        case rel => exact ⟨j + 1, by omega, by go_num, hb.drew⟩
    · go_wp2_with fail
      go_ret
      exact ⟨rfl, hb⟩
end Go.Proofs.Ytonkcljapkeidaa
namespace Go.Proofs.Ytonkcljapkeidaa
open Go.RowKit
open Tr
theorem Try.size104 : (Try.prog.info? 104).map (·.size) = some 2 := by kernel_rfl
theorem Try.lies104 : liesAt Try.prog Try.prog.depth 104 (2 / Try.prog.cellsOf 104) 0 104 1 = true := by kernel_rfl
theorem Try.infoByte : (Try.prog.info? 5).map (fun i => (i.zero, i.size, i.bytes)) = some (some (.int .u8 0), 1, 1) := by kernel_rfl
theorem Try.cellsByte : Try.prog.cellsOf 5 = 1 := by kernel_rfl
/-- A builder in its use. -/
abbrev BAt (B b : Nat) (p : Value) (bs : List Value) (w : World) : Prop := Lib.BuilderAt 104 5 B b p bs w
/-- Blocks of signs are none of a builder's. -/
def Kept90 (w w' : World) : Prop := ∀ k cs, Blk w k cs 90 → Blk w' k cs 90
abbrev BIs (B b : Nat) (bs : List Value) (w : World) : Prop := Lib.IsBuilder 104 5 B b bs w
set_option maxHeartbeats 1000000 in
set_option maxRecDepth 100000 in
theorem check_used (b : Nat) (w : World) (h0 : w.cell? ⟨b, 0, none⟩ = some (.pointer (some ⟨b, 0, none⟩))) :
    Calls Try.prog 57 #[.pointer (some ⟨b, 0, none⟩)] w fun e w' => e = .returned (.tuple #[]) ∧ w' = w := by
  obtain ⟨j, hj, _⟩ := Option.map_eq_some_iff.1 Try.size104
  go_enter Try.func57, Try.ntmps57
  go_wp2
  rw [Lib.run_neq_ptr_same w _ Try.underlying101 hj]
  go_wp2
  go_end0
  exact ⟨rfl, rfl⟩
set_option maxHeartbeats 1000000 in
set_option maxRecDepth 100000 in
theorem check_fresh (b : Nat) (w : World) (h0 : w.cell? ⟨b, 0, none⟩ = some (.pointer none)) (hsh : w.shape? b = some (104, 2)) (hfz : w.frozen? ⟨b, 0, none⟩ = false) :
    Calls Try.prog 57 #[.pointer (some ⟨b, 0, none⟩)] w fun e w' => e = .returned (.tuple #[]) ∧ w' = w.setCell ⟨b, 0, none⟩ (.pointer (some ⟨b, 0, none⟩)) := by
  obtain ⟨j, hj, hjs⟩ := Option.map_eq_some_iff.1 Try.size104
  go_enter Try.func57, Try.ntmps57
  go_wp2
  rw [Lib.run_to_unsafe w ⟨b, 0, none⟩ Try.underlying101 Try.underlying120 hj (by rw [hjs]; decide) hsh (Nat.zero_lt_succ 1)]
  simp only [Result.andThen]
  rw [Oper.upon_value]
  go_wp2
  rw [run_callFunc_extern Try.func69 (by kernel_rfl) (by kernel_rfl) (by kernel_rfl) (e := Extern.AbiNoEscape.same) (by kernel_rfl)]
  rw [Lib.run_noEscape]
  simp only [Result.andThen]
  rw [Oper.upon_value]
  go_wp2
  rw [Lib.run_from_unsafe w ⟨b, 0, none⟩ Try.underlying120 Try.underlying101 hj hsh Try.lies104]
  simp only [Result.andThen]
  rw [Oper.upon_value]
  go_wp2
  go_end0
  exact ⟨rfl, rfl⟩
theorem check_any (B b : Nat) (bs : List Value) (w : World) (h : BIs B b bs w) :
    Calls Try.prog 57 #[.pointer (some ⟨b, 0, none⟩)] w fun e w' => e = .returned (.tuple #[]) ∧ BAt B b (.pointer (some ⟨b, 0, none⟩)) bs w' ∧ Below B w w' ∧ Kept90 w w' := by
  rcases h with h | h
  · refine (check_fresh b w h.cell0 h.shape h.frozen0).mono ?_
    rintro e w' ⟨rfl, rfl⟩
    refine ⟨rfl, h.used _, (Below.refl B w).setCell (p := ⟨b, 0, none⟩) h.1 _, fun k cs hk => hk.other (fun e => ?_) _⟩
    subst e
    obtain ⟨_, v, hbk, _⟩ := h
    have := hbk.symm.trans hk
    simp at this
  · refine (check_used b w h.cell0).mono ?_
    rintro e w' ⟨rfl, rfl⟩
    exact ⟨rfl, h, Below.refl B _, fun _ _ h => h⟩
set_option maxHeartbeats 2000000 in
set_option maxRecDepth 100000 in
theorem write_any (B b : Nat) (bs : List Value) (s : ByteArray) (w : World) (h : BIs B b bs w) (hlen : bs.length + s.size ≤ 140737488355328) (hBw : B ≤ w.heap.size) :
    Calls Try.prog 40 #[.pointer (some ⟨b, 0, none⟩), .string s] w fun e w' => e = .returned (.tuple #[.int .i64 s.size, .nilIface]) ∧ BAt B b (.pointer (some ⟨b, 0, none⟩)) (bs ++ Lib.strCells s) w' ∧ Below B w w' ∧ Kept90 w w' := by
  obtain ⟨i0, hi, hz0, hz1, hz2⟩ := info_parts Try.infoByte
  go_enter Try.func40, Try.ntmps40
  go_wp2_with fail
  refine (check_any B b bs _ h).mono ?_
  rintro e w1 ⟨rfl, h1, hb1, hkp⟩
  obtain ⟨hB, v, hbk, hown, hne⟩ := h1
  have c0 : w1.cell? ⟨b, 0, none⟩ = some (.pointer (some ⟨b, 0, none⟩)) := by rw [Lib.cell_of_heap hbk]; rfl
  have c1 : w1.cell? ⟨b, 1, none⟩ = some v := by rw [Lib.cell_of_heap hbk]; rfl
  go_wp2_with (at_builtin; refine Lib.wpList_append_own_string _ rfl _ _ 102 9 rfl B 5 i0 Try.underlying102 Try.underlying9 hi hz0 hz1 hz2 _ _ _ rfl hown s rfl ?c3 ?c4 ?c5 ?_)
  case c3 => unfold maxLen; omega
  case c4 => omega
  case c5 => have := hb1.size; omega
  intro v' w2 hown' hgrow _
  have hlt : b < w1.heap.size := by
    rcases Nat.lt_or_ge b w1.heap.size with h' | h'
    · exact h'
    · simp [Array.getElem?_eq_none h'] at hbk
  have hb2 : w2.heap[b]? = some (.cells #[.pointer (some ⟨b, 0, none⟩), v] 104 (0, 0)) := by
    rw [hgrow.block b hlt (fun e => hne e.symm)]
    exact hbk
  have d0 : w2.cell? ⟨b, 0, none⟩ = some (.pointer (some ⟨b, 0, none⟩)) := by rw [Lib.cell_of_heap hb2]; rfl
  have d1 : w2.cell? ⟨b, 1, none⟩ = some v := by rw [Lib.cell_of_heap hb2]; rfl
  have f1 : w2.frozen? ⟨b, 1, none⟩ = false := Lib.frozen_of_heap hb2 1
  obtain ⟨ao, n', cap, rfl⟩ := own_form hown'
  go_wp2
  go_ret2
  refine ⟨rfl, ?_, ?_, ?_⟩
  · exact Lib.BuilderAt.put (T := 104) (e := 5) hB hb2 (bs' := bs ++ Lib.strCells s) (by simpa [Lib.strCells_length] using hown') (by decide)
  · exact (hb1.grown hgrow (by have := hb1.size; omega) (fun k hk => (hown.lt k hk).1)).setCell (p := ⟨b, 1, none⟩) hB _
  · intro k cs hk
    have hk1 : Blk w1 k cs 90 := hkp k cs hk
    have hk2 : Blk w2 k cs 90 := hk1.grown hgrow (fun e => Lib.ownBlock_ne hown hk1 (by decide) e.symm)
    refine hk2.other (fun e => ?_) _
    subst e
    have := hb2.symm.trans hk2
    simp at this
set_option maxHeartbeats 1000000 in
set_option maxRecDepth 100000 in
theorem string_any (B b : Nat) (l : List UInt8) (w : World) (h : BIs B b (Lib.byteCells l) w) (h0 : l ≠ []) :
    Calls Try.prog 42 #[.pointer (some ⟨b, 0, none⟩)] w fun e w' => e = .returned (.string ⟨l.toArray⟩) ∧ Below B w w' := by
  obtain ⟨p, hB, v, hbk, hown, hne⟩ : ∃ p, BAt B b p (Lib.byteCells l) w := by
    rcases h with h | h
    · exact ⟨_, h⟩
    · exact ⟨_, h⟩
  have hl0 : l.length ≠ 0 := by simpa using h0
  rw [Lib.byteCells_length] at hown
  obtain ⟨g, cap, cur, rfl, hbg, hg, hnc, hcm, hcs, htake⟩ : ∃ g cap cur, v = .slice (some ⟨g, 0, none⟩) l.length cap ∧ B ≤ g ∧ w.heap[g]? = some (.cells cur 5 (0, 0)) ∧ l.length ≤ cap ∧ cap ≤ maxLen ∧ cur.size = cap * 1 ∧ cur.toList.take (l.length * 1) = Lib.byteCells l := by
    rcases hown.2 with ⟨_, hz⟩ | ⟨g, cap, cur, hv, r⟩
    · exact absurd hz hl0
    · exact ⟨g, cap, cur, hv, r⟩
  have c1 : w.drew.cell? ⟨b, 1, none⟩ = some (.slice (some ⟨g, 0, none⟩) l.length cap) := by
    have : w.drew.heap[b]? = some (.cells #[p, .slice (some ⟨g, 0, none⟩) l.length cap] 104 (0, 0)) := hbk
    rw [Lib.cell_of_heap this]; rfl
  have hSD : (Builtin.unsafeSliceData_ #[102] 115 #[.slice (some ⟨g, 0, none⟩) l.length cap]).run Try.prog w.drew = .ok (.pointer (some ⟨g, 0, none⟩)) w.drew :=
    Lib.run_unsafeSliceData_row _ _ _ _ _ _ (by omega)
  have hUS : (Builtin.unsafeString_ #[115, 3] 9 #[.pointer (some ⟨g, 0, none⟩), .int .i64 l.length]).run Try.prog w.drew = .ok (.string ⟨l.toArray⟩) (w.drew.freeze ⟨g, 0, none⟩ l.length) := by
    refine Lib.run_unsafeString_row w.drew 115 3 9 5 Try.underlying115 Try.cellsByte g cur.size (by have hg' : w.drew.heap[g]? = some (.cells cur 5 (0, 0)) := hg; simp [World.shape?, hg']) l h0 (by omega) (by unfold maxLen at hcm; omega) ?_
    intro j x hx
    exact hown.cells (g := g) rfl j (.int .u8 x.toNat) (by simp [Lib.byteCells, hx])
  go_enter Try.func42, Try.ntmps42
  go_wp2
  go_region
  all_goals (go_wp2; go_ret; exact ⟨rfl, Lib.below_freeze (Below.drew (Below.refl B w)) (p := ⟨g, 0, none⟩) hbg _⟩)
end Go.Proofs.Ytonkcljapkeidaa
namespace Go.Proofs.Ytonkcljapkeidaa
open Go.RowKit
open Lx (Tk)
open Tr
namespace Lx
/-- what stands between two signs -/
def gapOf (l r : ByteArray) : ByteArray :=
  if (l.toList == [59]) = true then ⟨#[10]⟩
  else if ((l.toList == []) || (l.toList == [40]) || (r.toList == [])) = true then ⟨#[]⟩
  else if ((r.toList == [59]) || (r.toList == [41]) || (r.toList == [42]) || (r.toList == [43]) || (r.toList == [63])) = true then ⟨#[]⟩ else ⟨#[32]⟩
theorem gapOf_size (l r : ByteArray) : (gapOf l r).size ≤ 1 := by
  unfold gapOf
  split
  · decide
  · split
    · decide
    · split <;> decide
end Lx
theorem ret_str {a b : ByteArray} (h : a = b) : Ending.returned (.string a) = .returned (.string b) := by rw [h]
set_option maxHeartbeats 1000000 in
theorem gap_any (l r : ByteArray) (w : World) : Calls Try.prog 41 #[.string l, .string r] w fun e w' => e = .returned (.string (Lx.gapOf l r)) ∧ w' = w := by
  cases h1 : (l.toList == [59])
  · cases h2 : (l.toList == [])
    · cases h3 : (l.toList == [40])
      · cases h4 : (r.toList == [])
        · cases h5 : (r.toList == [59])
          · cases h6 : (r.toList == [41])
            · cases h7 : (r.toList == [42])
              · cases h8 : (r.toList == [43])
                · cases h9 : (r.toList == [63])
                  · have HE : Hid (Lx.gapOf l r = ⟨#[32]⟩) := by show _ = _; unfold Lx.gapOf; rw [h1, h2, h3, h4, h5, h6, h7, h8, h9]; rfl
                    go_enter Try.func41, Try.ntmps41
                    go_wp2_with fail
                    go_ret
                    exact ⟨ret_str HE.out.symm, rfl⟩
                  · have HE : Hid (Lx.gapOf l r = ⟨#[]⟩) := by show _ = _; unfold Lx.gapOf; rw [h1, h2, h3, h4, h5, h6, h7, h8, h9]; rfl
                    go_enter Try.func41, Try.ntmps41
                    go_wp2_with fail
                    go_ret
                    exact ⟨ret_str HE.out.symm, rfl⟩
                · have HE : Hid (Lx.gapOf l r = ⟨#[]⟩) := by show _ = _; unfold Lx.gapOf; rw [h1, h2, h3, h4, h5, h6, h7, h8]; rfl
                  go_enter Try.func41, Try.ntmps41
                  go_wp2_with fail
                  go_ret
                  exact ⟨ret_str HE.out.symm, rfl⟩
              · have HE : Hid (Lx.gapOf l r = ⟨#[]⟩) := by show _ = _; unfold Lx.gapOf; rw [h1, h2, h3, h4, h5, h6, h7]; rfl
                go_enter Try.func41, Try.ntmps41
                go_wp2_with fail
                go_ret
                exact ⟨ret_str HE.out.symm, rfl⟩
            · have HE : Hid (Lx.gapOf l r = ⟨#[]⟩) := by show _ = _; unfold Lx.gapOf; rw [h1, h2, h3, h4, h5, h6]; rfl
              go_enter Try.func41, Try.ntmps41
              go_wp2_with fail
              go_ret
              exact ⟨ret_str HE.out.symm, rfl⟩
          · have HE : Hid (Lx.gapOf l r = ⟨#[]⟩) := by show _ = _; unfold Lx.gapOf; rw [h1, h2, h3, h4, h5]; rfl
            go_enter Try.func41, Try.ntmps41
            go_wp2_with fail
            go_ret
            exact ⟨ret_str HE.out.symm, rfl⟩
        · have HE : Hid (Lx.gapOf l r = ⟨#[]⟩) := by show _ = _; unfold Lx.gapOf; rw [h1, h2, h3, h4]; rfl
          go_enter Try.func41, Try.ntmps41
          go_wp2_with fail
          go_ret
          exact ⟨ret_str HE.out.symm, rfl⟩
      · have HE : Hid (Lx.gapOf l r = ⟨#[]⟩) := by show _ = _; unfold Lx.gapOf; rw [h1, h2, h3]; rfl
        go_enter Try.func41, Try.ntmps41
        go_wp2_with fail
        go_ret
        exact ⟨ret_str HE.out.symm, rfl⟩
    · have HE : Hid (Lx.gapOf l r = ⟨#[]⟩) := by show _ = _; unfold Lx.gapOf; rw [h1, h2]; rfl
      go_enter Try.func41, Try.ntmps41
      go_wp2_with fail
      go_ret
      exact ⟨ret_str HE.out.symm, rfl⟩
  · have HE : Hid (Lx.gapOf l r = ⟨#[10]⟩) := by show _ = _; unfold Lx.gapOf; rw [h1]; rfl
    go_enter Try.func41, Try.ntmps41
    go_wp2_with fail
    go_ret
    exact ⟨ret_str HE.out.symm, rfl⟩
end Go.Proofs.Ytonkcljapkeidaa
namespace Go.Proofs.Ytonkcljapkeidaa
open Go.RowKit
open Lx (Tk)
open Tr
namespace Lx
/-- the plain form of signs, behind a sign -/
def formL : ByteArray → List Tk → List UInt8
  | _, [] => []
  | b, t :: ts => (gapOf b t.1).data.toList ++ (t.1.data.toList ++ formL t.1 ts)
end Lx
theorem str_cells (a : List UInt8) (s : ByteArray) : Lib.byteCells a ++ Lib.strCells s = Lib.byteCells (a ++ s.data.toList) := by
  rw [Lib.strCells_eq, ← Lib.byteCells_append]
theorem data_len (s : ByteArray) : s.data.toList.length = s.size := by rw [Array.length_toList]; rfl
theorem BAt.alloc {B b : Nat} {p : Value} {bs : List Value} {w : World} (h : BAt B b p bs w) (o : Obj) : BAt B b p bs (w.alloc o) := by
  have hlt := h.lt
  obtain ⟨h1, v, h2, h3, h4⟩ := h
  exact ⟨h1, v, (Below.heap_alloc _ _ _ hlt).trans h2, h3.alloc o, h4⟩
theorem BIs.alloc {B b : Nat} {bs : List Value} {w : World} (h : BIs B b bs w) (o : Obj) : BIs B b bs (w.alloc o) := by
  rcases h with h | h
  · exact .inl (BAt.alloc h o)
  · exact .inr (BAt.alloc h o)
set_option maxHeartbeats 2000000 in
set_option maxRecDepth 100000 in
theorem form_any (ts : List Tk) (v : Value) (w : World) (h : w.ownsRow 0 90 2 v ts.length (Lx.tkCells ts)) (hl : ts.length ≤ 2001) (hs : ∀ t ∈ ts, t.1.size ≤ 2000) (h0 : Lx.formL Lx.noText ts ≠ []) :
    Calls Try.prog 27 #[v] w fun e w' => e = .returned (.string ⟨(Lx.formL Lx.noText ts).toArray⟩) ∧ Below w.heap.size w w' := by
  obtain ⟨va, vc, rfl, -⟩ := own_len h
  have hB := Lib.fresh_isBuilder 104 5 w
  have H0 : Hid (Lx.formL Lx.noText ts ≠ []) := h0
  have b0 : Below w.heap.size w (w.alloc (.cells #[.pointer none, .slice none 0 0] 104)) := (Below.refl _ _).alloc (Nat.le_refl _) _
  clear h0
  go_enter Try.func27, Try.ntmps27
  go_wp2_with fail
  go_loopg [4, 9] ts.length (fun k beh i wr => ∃ (j : Nat) (b : ByteArray) (acc : List UInt8), j + k = ts.length ∧ beh = .string b ∧ i = .int .i64 j ∧ BIs w.heap.size w.heap.size (Lib.byteCells acc) wr ∧ Below w.heap.size w wr ∧ w.heap.size < wr.heap.size ∧ acc.length ≤ j * 2001 ∧ Hid (acc ++ Lx.formL b (ts.drop j) = Lx.formL Lx.noText ts))
  case atStart => exact ⟨0, Lx.noText, [], by omega, rfl, rfl, hB, b0, by simp, by simp, by show _ = _; simp⟩
  case round =>
    clear hB b0
    obtain ⟨j, b, acc, hk, rfl, rfl, hB, hb, hw, hac, hE⟩ := hrel
    by_cases hlt : j < ts.length
    · have h1 := own_below h hb
      obtain ⟨g, cap, hv, -, hg⟩ := h1.form (by omega)
      cases hv
      have hg0 : g < w.heap.size := (h.lt g rfl).2
      have ht : ts[j]? = some ts[j] := List.getElem?_eq_getElem hlt
      obtain ⟨e1, e2⟩ := Lx.tkCells_get ts j _ ht
      have c1 : wr.cell? ⟨g, j * 2, none⟩ = some (.string ts[j].1) := (h1.cellAt (j * 2) (by omega)).trans e1
      have c2 : wr.cell? ⟨g, j * 2 + 1, none⟩ = some (.int .i64 (ts[j].2 : Int)) := (h1.cellAt (j * 2 + 1) (by omega)).trans e2
      have hts := hs ts[j] (List.getElem_mem hlt)
      have hdr : ts.drop j = ts[j] :: ts.drop (j + 1) := List.drop_eq_getElem_cons hlt
      have HE : Hid ((acc ++ (Lx.gapOf b ts[j].1).data.toList ++ ts[j].1.data.toList) ++ Lx.formL ts[j].1 (ts.drop (j + 1)) = Lx.formL Lx.noText ts) := by
        show _ = _
        rw [← hE.out, hdr]; simp [Lx.formL]
      generalize ts[j] = t at c1 c2 hts HE
      clear e1 e2 ht hdr hE
      obtain ⟨tt, tp⟩ := t
      simp only at c1 c2 hts HE
      have hgs := Lx.gapOf_size b tt
      have kS := Blk.new wr #[.string tt, .int .i64 (tp : Int)] 90
      have hBA : BIs w.heap.size w.heap.size (Lib.byteCells acc) (wr.alloc (.cells #[.string tt, .int .i64 (tp : Int)] 90)) := BIs.alloc hB _
      have hbA : Below w.heap.size w (wr.alloc (.cells #[.string tt, .int .i64 (tp : Int)] 90)) := hb.alloc hb.size _
      have s0 : (wr.alloc (.cells #[.string tt, .int .i64 (tp : Int)] 90)).cell? ⟨wr.heap.size, 0, none⟩ = some (.string tt) := kS.cell 0
      go_wp2_with (go_at_call 41; refine (gap_any _ _ _).mono ?_; rintro e w' ⟨rfl, hw'⟩; obtain rfl := hw'.symm)
      refine (write_any w.heap.size w.heap.size _ _ _ hBA (by rw [Lib.byteCells_length]; omega) hbA.size).mono ?_
      rintro e w1 ⟨rfl, hB1, hb1, hk1⟩
      have kS1 := hk1 _ _ kS
      have s1 : w1.cell? ⟨wr.heap.size, 0, none⟩ = some (.string tt) := kS1.cell 0
      rw [str_cells] at hB1
      have hb2 : Below w.heap.size w w1 := hbA.trans hb1
      clear hBA hbA hb1 hk1 kS s0 c1 c2 hB
      go_wp2_with fail
      refine (write_any w.heap.size w.heap.size _ _ _ (.inr hB1) (by rw [Lib.byteCells_length, List.length_append, data_len]; omega) hb2.size).mono ?_
      rintro e w2 ⟨rfl, hB2, hb3, hk2⟩
      have kS2 := hk2 _ _ kS1
      have s2 : w2.cell? ⟨wr.heap.size, 0, none⟩ = some (.string tt) := kS2.cell 0
      rw [str_cells] at hB2
      have hlt2 := hB2.lt
      have hb4 : Below w.heap.size w w2 := hb2.trans hb3
      clear hb2 hb3 hk2 kS1 s1 hB1
      go_wp2_with fail
      go_roundg (ts.length - (j + 1))
      case measure => omega
      case rel => exact ⟨j + 1, tt, _, by omega, rfl, by go_num, .inr hB2, hb4, hlt2, by rw [List.length_append, List.length_append, data_len, data_len]; omega, HE⟩
    · have HE : Hid (acc = Lx.formL Lx.noText ts) := by
        show _ = _
        have := hE.out
        rwa [List.drop_eq_nil_of_le (by omega), show Lx.formL b [] = [] from rfl, List.append_nil] at this
      go_wp2_with fail
      refine (string_any w.heap.size w.heap.size acc _ hB (by rw [HE.out]; exact H0.out)).mono ?_
      rintro e w1 ⟨rfl, hb1⟩
      go_wp2_with fail
      go_ret
      exact ⟨ret_str (by rw [HE.out]), hb.trans hb1⟩
end Go.Proofs.Ytonkcljapkeidaa
namespace Go.Proofs.Ytonkcljapkeidaa
open Go.RowKit
open Lx (Tk)
open Tr
namespace Lx
theorem pLevels_none {ts : List Tk} (h : hd ts = noText) : ∀ f acc, pLevels f ts acc = .ok (acc, ts)
  | 0, _ => rfl
  | f + 1, acc => by
    have : ¬ 0 ≤ levelKind (hd ts) := by rw [h]; decide
    rw [pLevels, if_neg this]
theorem pGrammar_first {ts ts' : List Tk} {g : Gr} (h : pGrammar ts = .ok (g, ts')) : hd ts ≠ noText := by
  intro e
  unfold pGrammar at h
  rw [pLevels_none e] at h
  have hr : pRule ts = .error (2, pl ts) := by
    unfold pRule pWord
    rw [if_neg (by rw [e]; decide)]
  simp only [hr] at h
  cases h
theorem parse_ok {s : ByteArray} {g : Gr} (h : parse s = .ok g) : s.size ≤ 2000 ∧ ∃ ts', pGrammar (lex s) = .ok (g, ts') := by
  unfold parse at h
  split at h
  · cases h
  · rename_i hs
    cases hr : pGrammar (lex s) with
    | error e => rw [hr] at h; cases h
    | ok x =>
      obtain ⟨g', ts'⟩ := x
      rw [hr] at h
      cases h
      exact ⟨by omega, ts', rfl⟩
theorem formL_ne {b : ByteArray} {ts : List Tk} (h : hd ts ≠ noText) : formL b ts ≠ [] := by
  cases ts with
  | nil => exact absurd rfl h
  | cons t r =>
    intro e
    simp only [formL, List.append_eq_nil_iff] at e
    have e2 := e.2.1
    apply h
    show t.1 = noText
    exact ByteArray.ext (Array.ext' e2)
end Lx
/-- How Print ends. -/
def PrintEnds (w : World) (s : ByteArray) (e : Ending) (w' : World) : Prop :=
  Below w.heap.size w w' ∧
    match Lx.parse s with
    | .ok _ => e = .returned (.tuple #[.string ⟨(Lx.formL Lx.noText (Lx.lex s)).toArray⟩, .int .i64 0, .int .i64 0])
    | .error (n, a) => e = .returned (.tuple #[.string ⟨#[]⟩, .int .i64 (n : Int), .int .i64 (a : Int)])
theorem PrintEnds.yes {w w' : World} {s : ByteArray} {g : Lx.Gr} (hr : Lx.parse s = .ok g) (hb : Below w.heap.size w w') :
    PrintEnds w s (.returned (.tuple #[.string ⟨(Lx.formL Lx.noText (Lx.lex s)).toArray⟩, .int .i64 0, .int .i64 0])) w' := by
  unfold PrintEnds; rw [hr]; exact ⟨hb, rfl⟩
theorem PrintEnds.no {w w' : World} {s : ByteArray} {n a : Nat} (hr : Lx.parse s = .error (n, a)) (hb : Below w.heap.size w w') :
    PrintEnds w s (.returned (.tuple #[.string ⟨#[]⟩, .int .i64 (n : Int), .int .i64 (a : Int)])) w' := by
  unfold PrintEnds; rw [hr]; exact ⟨hb, rfl⟩
theorem ParseEnds.out {w w' : World} {s : ByteArray} {e : Ending} (h : ParseEnds w s e w') : Below w.heap.size w w' ∧
    ((∃ g vl vr, Lx.parse s = .ok g ∧ e = .returned (.tuple #[.agg #[vl, vr], .int .i64 0, .int .i64 0]) ∧ GramIn (In w.heap.size w'.heap.size) w' vl vr g) ∨
     (∃ n a : Nat, 0 < n ∧ Lx.parse s = .error (n, a) ∧ e = .returned (.tuple #[.agg #[.slice none 0 0, .slice none 0 0], .int .i64 (n : Int), .int .i64 (a : Int)]))) := by
  unfold ParseEnds at h
  obtain ⟨hb, h⟩ := h
  refine ⟨hb, ?_⟩
  cases hr : Lx.parse s with
  | ok g => rw [hr] at h; obtain ⟨vl, vr, he, hg⟩ := h; exact .inl ⟨g, vl, vr, rfl, he, hg⟩
  | error x => obtain ⟨n, a⟩ := x; rw [hr] at h; exact .inr ⟨n, a, Lx.parse_pos hr, rfl, h⟩
set_option maxHeartbeats 1000000 in
set_option maxRecDepth 100000 in
theorem Print_any (s : ByteArray) (w : World) (hmax : s.size ≤ maxLen) : Calls Try.prog 14 #[.string s] w (PrintEnds w s) := by
  have P := Parse_any s w hmax
  clear hmax
  go_enter Try.func14, Try.ntmps14
  go_wp2_with fail
  refine P.mono ?_
  intro e w1 he
  obtain ⟨hb1, ⟨g, vl, vr, hr, rfl, hg⟩ | ⟨n, a, hn, hr, rfl⟩⟩ := he.out
  · obtain ⟨la, lk, lc, rfl⟩ := Seq.form hg.1
    obtain ⟨ra, rk, rc, rfl⟩ := Seq.form hg.2
    have HR : Hid _ := hr
    obtain ⟨hs, ts', hpg⟩ := Lx.parse_ok hr
    have hf := Lx.formL_ne (b := Lx.noText) (Lx.pGrammar_first hpg)
    have HF : Hid (Lx.formL Lx.noText (Lx.lex s) ≠ []) := hf
    have hbA := hb1.alloc hb1.size (.cells #[.slice la lk lc, .slice ra rk rc] 25)
    clear hr hpg hf he P hg
    go_wp2_with fail
    refine (All_any s _ hs).mono ?_
    rintro e w2 ⟨v, rfl, hown, hb2⟩
    have hb3 : Below w.heap.size w w2 := hbA.trans (hb2.mono hbA.size)
    obtain ⟨xa, xk, xc, rfl⟩ := own_form hown
    have hlen := Lx.lex_len s
    go_wp2_with fail
    refine (form_any (Lx.lex s) _ w2 (own_le hown (Nat.zero_le _)) (by omega) (fun t ht => Nat.le_trans (Lx.lex_sz s t ht) hs) HF.out).mono ?_
    rintro e w3 ⟨rfl, hb4⟩
    go_wp2_with fail
    refine bodyPost_ret (v := .tuple #[.string ⟨(Lx.formL Lx.noText (Lx.lex s)).toArray⟩, .int .i64 0, .int .i64 0]) (by simp [results, Try.results14, go_sem]) rfl ?_
    exact PrintEnds.yes HR.out (hb3.trans (hb4.mono hb3.size))
  · have HR : Hid _ := hr
    have hn0 : ((n : Int) == 0) = false := beq_eq_false_iff_ne.2 (by omega)
    clear hr he P
    go_wp2_with fail
    refine bodyPost_ret (v := .tuple #[.string ⟨#[]⟩, .int .i64 (n : Int), .int .i64 (a : Int)]) (by simp [results, Try.results14, go_sem]) rfl ?_
    exact PrintEnds.no HR.out (hb1.alloc hb1.size _)
end Go.Proofs.Ytonkcljapkeidaa
namespace Go.Proofs.Ytonkcljapkeidaa
open Go.RowKit
open Tr
theorem flat_get {α : Type} (c : Value × α → List Value) (s : Nat) (hc : ∀ q, (c q).length = s) : ∀ (ps : List (Value × α)) (j i : Nat) (q : Value × α), ps[j]? = some q → i < s → (ps.flatMap c)[j * s + i]? = (c q)[i]?
  | [], _, _, _, h, _ => by simp at h
  | p :: ps, 0, i, q, h, hi => by
    simp at h; subst h
    rw [List.flatMap_cons, Nat.zero_mul, Nat.zero_add, List.getElem?_append_left (by rw [hc]; exact hi)]
  | p :: ps, j + 1, i, q, h, hi => by
    have h' : ps[j]? = some q := by simpa using h
    rw [List.flatMap_cons, List.getElem?_append_right (by rw [hc, Nat.succ_mul]; omega), hc, show (j + 1) * s + i - s = j * s + i by rw [Nat.succ_mul]; omega]
    exact flat_get c s hc ps j i q h' hi
theorem Tr.Seq.at {α : Type} {F : Nat → Prop} {w : World} {e s : Nat} {c : Value × α → List Value} {K : Value → α → Prop} {v : Value} {l : List α} (h : Tr.Seq F w e s c K v l) (hc : ∀ q, (c q).length = s) {j : Nat} (hj : j < l.length) :
    ∃ g cap vk, v = .slice (some ⟨g, 0, none⟩) l.length cap ∧ F g ∧ K vk l[j] ∧ ∀ i, i < s → w.cell? ⟨g, j * s + i, none⟩ = (c (vk, l[j]))[i]? := by
  obtain ⟨ps, h1, h2, h3, h4⟩ := h
  obtain ⟨g, cap, rfl, -, -⟩ := h2.form (by omega)
  have hl : ps.length = l.length := by rw [← h1]; simp
  have hq : ps[j]? = some ps[j] := List.getElem?_eq_getElem (by omega)
  have h5 : (ps[j]).2 = l[j] := by
    have : (ps.map Prod.snd)[j]? = l[j]? := by rw [h1]
    rw [List.getElem?_map, hq, List.getElem?_eq_getElem hj] at this
    simpa using this
  refine ⟨g, cap, (ps[j]).1, rfl, h3 g rfl, ?_, ?_⟩
  · rw [← h5]; exact h4 _ (List.getElem_mem _)
  · intro i hi
    have hlt : j * s + i < l.length * s := by
      have : (j + 1) * s ≤ l.length * s := Nat.mul_le_mul_right s hj
      rw [Nat.succ_mul] at this; omega
    rw [h2.cellAt (j * s + i) hlt, flat_get c s hc ps j i _ hq hi, ← h5]
theorem Tr.Seq.len {α : Type} {F : Nat → Prop} {w : World} {e s : Nat} {c : Value × α → List Value} {K : Value → α → Prop} {v : Value} {l : List α} (h : Tr.Seq F w e s c K v l) : ∃ a cap, v = .slice a l.length cap ∧ l.length ≤ maxLen := by
  obtain ⟨ps, h1, h2, h3, h4⟩ := h
  exact own_len h2
theorem AltsIn.len {Y : Lay} {d : Nat} {F : Nat → Prop} {w : World} {v : Value} {l : List Lx.Alt} (h : AltsIn Y d F w v l) : ∃ a cap, v = .slice a l.length cap ∧ l.length ≤ maxLen := by
  cases d with
  | zero => obtain ⟨rfl, rfl⟩ := h; exact ⟨_, _, rfl, Nat.zero_le _⟩
  | succ d => exact Seq.len h
/-- Two trees, one of the program's and one of the document's, of one meaning: they are told the same. -/
def AltsSame (d : Nat) : Prop := ∀ (F F' : Nat → Prop) (w : World) (v v' : Value) (l : List Lx.Alt), (∀ b, F b → b < w.heap.size) → (∀ b, F' b → b < w.heap.size) → AltsIn YP d F w v l → AltsIn YR d F' w v' l →
  Calls Try.prog 26 #[v, v'] w fun e w' => e = .returned (.bool true) ∧ Below w.heap.size w w'
set_option maxHeartbeats 1000000 in
set_option maxRecDepth 100000 in
theorem same_zero : AltsSame 0 := by
  intro F F' w v v' l hF hF' h h'
  obtain ⟨rfl, rfl⟩ := h
  obtain ⟨rfl, -⟩ := h'
  go_enter Try.func26, Try.ntmps26
  go_wp2_with fail
  go_loopg [5] 0 (fun k i wr => k = 0 ∧ i = .int .i64 0 ∧ wr = w)
  case atStart => exact ⟨rfl, rfl, rfl⟩
  case round =>
    obtain ⟨rfl, rfl, rfl⟩ := hrel
    go_wp2_with fail
    go_ret
    exact ⟨rfl, Below.refl _ _⟩
set_option maxHeartbeats 2000000 in
set_option maxRecDepth 100000 in
theorem same_succ {d : Nat} (IH : AltsSame d) : AltsSame (d + 1) := by
  intro F F' w v v' l hF hF' h h'
  obtain ⟨a, c, hv, hm⟩ := Seq.len h
  obtain ⟨a', c', hv', -⟩ := Seq.len h'
  subst hv hv'
  unfold maxLen at hm
  go_enter Try.func26, Try.ntmps26
  go_wp2_with fail
  go_loopg [5] l.length (fun k i wr => ∃ j : Nat, j + k = l.length ∧ i = .int .i64 j ∧ Below w.heap.size w wr)
  case atStart => exact ⟨0, by omega, rfl, Below.refl _ _⟩
  case round =>
    revert wr
    intro wz hrel
    obtain ⟨j, hk, rfl, hb⟩ := hrel
    by_cases hlt : j < l.length
    · have h1 : AltsIn YP (d + 1) F wz _ l := AltsIn.move (fun b hb' => hb.block b (hF b hb')) (fun _ h => h) h
      have h2 : AltsIn YR (d + 1) F' wz _ l := AltsIn.move (fun b hb' => hb.block b (hF' b hb')) (fun _ h => h) h'
      obtain ⟨g, cap, vi, hv, hg, hi, hc⟩ := Seq.at h1 (fun _ => rfl) hlt
      obtain ⟨g', cap', vi', hv', hg', hi', hc'⟩ := Seq.at h2 (fun _ => rfl) hlt
      cases hv
      cases hv'
      generalize l[j] = x at hi hc hi' hc'
      obtain ⟨its, prec, pa⟩ := x
      obtain ⟨ia, ic, hvi, him⟩ := Seq.len hi
      obtain ⟨ia', ic', hvi', -⟩ := Seq.len hi'
      subst hvi hvi'
      unfold maxLen at him
      have c0 : wz.cell? ⟨g, j * 2, none⟩ = some (.slice ia its.length ic) := hc 0 (by decide)
      have c1 : wz.cell? ⟨g, j * 2 + 1, none⟩ = some (.string prec) := hc 1 (by decide)
      have d0 : wz.cell? ⟨g', j * 3, none⟩ = some (.slice ia' its.length ic') := hc' 0 (by decide)
      have d1 : wz.cell? ⟨g', j * 3 + 1, none⟩ = some (.string prec) := hc' 1 (by decide)
      go_wp2_with fail
      go_region
      all_goals
        go_wp2_with fail
        clear h1 h2 c1 d1
        go_loopg [6] its.length (fun k i wr => ∃ m : Nat, m + k = its.length ∧ i = .int .i64 m ∧ Below wz.heap.size wz wr)
        case atStart => exact ⟨0, by omega, rfl, (Below.refl _ _).drew⟩
        case round =>
          obtain ⟨m, hkm, rfl, hbz⟩ := hrel
          have hsz := hb.size
          have hbw : Below w.heap.size w wr := hb.trans (hbz.mono hsz)
          have eg : wr.heap[g]? = wz.heap[g]? := hbz.block g (by have := hF g hg; omega)
          have eg' : wr.heap[g']? = wz.heap[g']? := hbz.block g' (by have := hF' g' hg'; omega)
          have c0r : wr.cell? ⟨g, j * 2, none⟩ = some (.slice ia its.length ic) := (World.cell?_of_block (w := wz) eg).trans c0
          have d0r : wr.cell? ⟨g', j * 3, none⟩ = some (.slice ia' its.length ic') := (World.cell?_of_block (w := wz) eg').trans d0
          by_cases hltm : m < its.length
          · have hir : ItemsIn YP d F wr _ its := ItemsIn.move (fun b hb' => hbz.block b (by have := hF b hb'; omega)) (fun _ h => h) hi
            have hir' : ItemsIn YR d F' wr _ its := ItemsIn.move (fun b hb' => hbz.block b (by have := hF' b hb'; omega)) (fun _ h => h) hi'
            unfold ItemsIn ItemsBy at hir hir'
            obtain ⟨n, ncap, va, hv, hn, ha, hcc⟩ := Seq.at hir (fun _ => rfl) hltm
            obtain ⟨n', ncap', va', hv', hn', ha', hcc'⟩ := Seq.at hir' (fun _ => rfl) hltm
            cases hv
            cases hv'
            generalize its[m] = it at ha hcc ha' hcc'
            obtain ⟨sa, sn, sc, hva⟩ := AltsIn.form ha
            obtain ⟨sa', sn', sc', hva'⟩ := AltsIn.form ha'
            subst hva hva'
            have e0 : wr.cell? ⟨n, m * 4, none⟩ = some (.int .i64 (it.kind : Int)) := hcc 0 (by decide)
            have e1 : wr.cell? ⟨n, m * 4 + 1, none⟩ = some (.string it.name) := hcc 1 (by decide)
            have e2 : wr.cell? ⟨n, m * 4 + 2, none⟩ = some (.int .u8 (it.mark : Int)) := hcc 2 (by decide)
            have e3 : wr.cell? ⟨n, m * 4 + 3, none⟩ = some (.slice sa sn sc) := hcc 3 (by decide)
            have k0 : wr.cell? ⟨n', m * 5, none⟩ = some (.int .i64 (it.kind : Int)) := hcc' 0 (by decide)
            have k1 : wr.cell? ⟨n', m * 5 + 1, none⟩ = some (.string it.name) := hcc' 1 (by decide)
            have k2 : wr.cell? ⟨n', m * 5 + 2, none⟩ = some (.int .u8 (it.mark : Int)) := hcc' 2 (by decide)
            have k3 : wr.cell? ⟨n', m * 5 + 3, none⟩ = some (.slice sa' sn' sc') := hcc' 3 (by decide)
            have k4 : wr.cell? ⟨n', m * 5 + 4, none⟩ = some (.int .i64 (it.place : Int)) := hcc' 4 (by decide)
            have lg : g < wr.heap.size := by have := hF g hg; have := hbw.size; omega
            have lg' : g' < wr.heap.size := by have := hF' g' hg'; have := hbw.size; omega
            have ln : n < wr.heap.size := by have := hF n hn; have := hbw.size; omega
            have ln' : n' < wr.heap.size := by have := hF' n' hn'; have := hbw.size; omega
            clear hcc hcc' c0 d0 hi hi' h h'
            have hsx : ((wr.alloc (.cells #[.int .i64 (it.kind : Int), .string it.name, .int .u8 (it.mark : Int), .slice sa sn sc] 86)).alloc (.cells #[.int .i64 (it.kind : Int), .string it.name, .int .u8 (it.mark : Int), .slice sa' sn' sc', .int .i64 (it.place : Int)] 100)).heap.size = wr.heap.size + 2 := by simp
            have mv : ∀ b, b < wr.heap.size → ((wr.alloc (.cells #[.int .i64 (it.kind : Int), .string it.name, .int .u8 (it.mark : Int), .slice sa sn sc] 86)).alloc (.cells #[.int .i64 (it.kind : Int), .string it.name, .int .u8 (it.mark : Int), .slice sa' sn' sc', .int .i64 (it.place : Int)] 100)).heap[b]? = wr.heap[b]? := fun b hb' => by
              rw [Below.heap_alloc _ _ _ (by simp; omega), Below.heap_alloc _ _ _ hb']
            have ha2 : AltsIn YP d F ((wr.alloc (.cells #[.int .i64 (it.kind : Int), .string it.name, .int .u8 (it.mark : Int), .slice sa sn sc] 86)).alloc (.cells #[.int .i64 (it.kind : Int), .string it.name, .int .u8 (it.mark : Int), .slice sa' sn' sc', .int .i64 (it.place : Int)] 100)) _ it.alts := AltsIn.move (fun b hb' => mv b (by have := hF b hb'; have := hbw.size; omega)) (fun _ h => h) ha
            have ha2' : AltsIn YR d F' ((wr.alloc (.cells #[.int .i64 (it.kind : Int), .string it.name, .int .u8 (it.mark : Int), .slice sa sn sc] 86)).alloc (.cells #[.int .i64 (it.kind : Int), .string it.name, .int .u8 (it.mark : Int), .slice sa' sn' sc', .int .i64 (it.place : Int)] 100)) _ it.alts := AltsIn.move (fun b hb' => mv b (by have := hF' b hb'; have := hbw.size; omega)) (fun _ h => h) ha'
            have kx := (Blk.new wr #[.int .i64 (it.kind : Int), .string it.name, .int .u8 (it.mark : Int), .slice sa sn sc] 86).alloc (.cells #[.int .i64 (it.kind : Int), .string it.name, .int .u8 (it.mark : Int), .slice sa' sn' sc', .int .i64 (it.place : Int)] 100)
            have ky := Blk.new (wr.alloc (.cells #[.int .i64 (it.kind : Int), .string it.name, .int .u8 (it.mark : Int), .slice sa sn sc] 86)) #[.int .i64 (it.kind : Int), .string it.name, .int .u8 (it.mark : Int), .slice sa' sn' sc', .int .i64 (it.place : Int)] 100
            rw [show (wr.alloc (.cells #[.int .i64 (it.kind : Int), .string it.name, .int .u8 (it.mark : Int), .slice sa sn sc] 86)).heap.size = wr.heap.size + 1 by simp] at ky
            have hb1 : Below wz.heap.size wz ((wr.alloc (.cells #[.int .i64 (it.kind : Int), .string it.name, .int .u8 (it.mark : Int), .slice sa sn sc] 86)).alloc (.cells #[.int .i64 (it.kind : Int), .string it.name, .int .u8 (it.mark : Int), .slice sa' sn' sc', .int .i64 (it.place : Int)] 100)) := (hbz.alloc hbz.size _).alloc (by have := hbz.size; simp; omega) _
            go_wp2_with fail
            refine (IH F F' _ _ _ _ (fun b hb' => by have := hF b hb'; have := hbw.size; rw [hsx]; omega) (fun b hb' => by have := hF' b hb'; have := hbw.size; rw [hsx]; omega) ha2 ha2').mono ?_
            rintro e w2 ⟨rfl, hb2⟩
            rw [hsx] at hb2
            have kx2 : Blk w2 wr.heap.size _ 86 := (hb2.block _ (by omega)).trans kx
            have ky2 : Blk w2 (wr.heap.size + 1) _ 100 := (hb2.block _ (by omega)).trans ky
            have x0 : w2.cell? ⟨wr.heap.size, 0, none⟩ = some (.int .i64 (it.kind : Int)) := kx2.cell 0
            have x1 : w2.cell? ⟨wr.heap.size, 1, none⟩ = some (.string it.name) := kx2.cell 1
            have x2 : w2.cell? ⟨wr.heap.size, 2, none⟩ = some (.int .u8 (it.mark : Int)) := kx2.cell 2
            have y0 : w2.cell? ⟨wr.heap.size + 1, 0, none⟩ = some (.int .i64 (it.kind : Int)) := ky2.cell 0
            have y1 : w2.cell? ⟨wr.heap.size + 1, 1, none⟩ = some (.string it.name) := ky2.cell 1
            have y2 : w2.cell? ⟨wr.heap.size + 1, 2, none⟩ = some (.int .u8 (it.mark : Int)) := ky2.cell 2
            have hb3 : Below wz.heap.size wz w2 := hb1.trans (hb2.mono (by have := hbz.size; omega))
            clear kx ky kx2 ky2 ha2 ha2' mv hsx hb1 ha ha' e0 e1 e2 e3 k0 k1 k2 k3 k4 c0r d0r eg eg'
            go_wp2_with fail
            go_roundg (its.length - (m + 1))
            case measure => omega
            case rel => exact ⟨m + 1, by omega, by go_num, hb3⟩
          · clear c0 d0
            go_wp2_with fail
            go_roundg (l.length - (j + 1))
            case measure => omega
            case rel => exact ⟨j + 1, by omega, by go_num, hbw⟩
    · go_wp2_with fail
      go_ret
      exact ⟨rfl, hb⟩
theorem same_at : ∀ d, AltsSame d
  | 0 => same_zero
  | d + 1 => same_succ (same_at d)
end Go.Proofs.Ytonkcljapkeidaa
namespace Go.Proofs.Ytonkcljapkeidaa
open Go.RowKit
open Lx (Tk)
open Tr
theorem flatMap_one {α β : Type} (f : α → β) : ∀ l : List α, (l.flatMap fun x => [f x]) = l.map f
  | [] => rfl
  | a :: l => by rw [List.flatMap_cons, flatMap_one f l]; rfl
theorem toks_own {F : Nat → Prop} {w : World} {v : Value} {l : List Tk} (h : Tr.Seq F w 9 1 cT (fun _ _ => True) v l) : w.ownsRow 0 9 1 v l.length (l.map fun t => .string t.1) := by
  obtain ⟨ps, h1, h2, h3, h4⟩ := h
  have : ps.flatMap cT = l.map fun t => .string t.1 := by
    rw [show cT = fun q : Value × Tk => [Value.string q.2.1] from rfl, flatMap_one, ← h1, List.map_map]; rfl
  rwa [this] at h2
theorem words_toks (l : List Tk) (v v' : Value) (w : World) (h : w.ownsRow 0 9 1 v l.length (l.map fun t => .string t.1)) (h' : w.ownsRow 0 9 1 v' l.length (l.map fun t => .string t.1)) :
    Calls Try.prog 25 #[v, v'] w fun e w' => e = .returned (.bool true) ∧ Below w.heap.size w w' := by
  have e1 : (l.map fun t : Tk => Value.string t.1) = (l.map Prod.fst).map Value.string := by rw [List.map_map]; rfl
  rw [e1] at h h'
  exact words_same (l.map Prod.fst) v v' w (by simpa using h) (by simpa using h')
/-- A grammar of the document's, its rows anywhere. -/
def RG (F : Nat → Prop) (w : World) (vL vR : Value) (g : Lx.Gr) : Prop := Tr.Seq F w 72 3 cLv (KLv F w) vL g.levels ∧ Tr.Seq F w 76 3 cRl (KRl F w) vR g.rules
theorem RG.move {F F' : Nat → Prop} {w w' : World} {vL vR : Value} {g : Lx.Gr} (h : RG F w vL vR g) (hs : ∀ b, F b → w'.heap[b]? = w.heap[b]?) (hF : ∀ b, F b → F' b) : RG F' w' vL vR g :=
  ⟨h.1.move hs hF fun _ _ h => lv_movable _ _ _ _ _ _ hs hF h, h.2.move hs hF fun _ _ h => rule_movable YR 9 _ _ _ _ _ _ hs hF h⟩
set_option maxHeartbeats 4000000 in
set_option maxRecDepth 100000 in
theorem same_any (F F' : Nat → Prop) (w : World) (vl vr vL vR : Value) (g : Lx.Gr) (hF : ∀ b, F b → b < w.heap.size) (hF' : ∀ b, F' b → b < w.heap.size) (h : GramIn F w vl vr g) (h' : RG F' w vL vR g) :
    Calls Try.prog 11 #[.agg #[vl, vr], .agg #[vL, vR]] w fun e w' => e = .returned (.bool true) ∧ Below w.heap.size w w' := by
  obtain ⟨la, lc, hvl, hlm⟩ := Seq.len h.1
  obtain ⟨ra, rc, hvr, hrm⟩ := Seq.len h.2
  obtain ⟨la', lc', hvL, -⟩ := Seq.len h'.1
  obtain ⟨ra', rc', hvR, -⟩ := Seq.len h'.2
  subst hvl hvr hvL hvR
  unfold maxLen at hlm hrm
  have kA := (Blk.new w #[.slice la g.levels.length lc, .slice ra g.rules.length rc] 25).alloc (.cells #[.slice la' g.levels.length lc', .slice ra' g.rules.length rc'] 32)
  have kB := Blk.new (w.alloc (.cells #[.slice la g.levels.length lc, .slice ra g.rules.length rc] 25)) #[.slice la' g.levels.length lc', .slice ra' g.rules.length rc'] 32
  rw [show (w.alloc (.cells #[.slice la g.levels.length lc, .slice ra g.rules.length rc] 25)).heap.size = w.heap.size + 1 by simp] at kB
  have b0 : Below w.heap.size w ((w.alloc (.cells #[.slice la g.levels.length lc, .slice ra g.rules.length rc] 25)).alloc (.cells #[.slice la' g.levels.length lc', .slice ra' g.rules.length rc'] 32)) := ((Below.refl _ _).alloc (Nat.le_refl _) _).alloc (by simp) _
  go_enter Try.func11, Try.ntmps11
  go_wp2_with fail
  go_loopg [5] g.levels.length (fun k i wr => ∃ j : Nat, j + k = g.levels.length ∧ i = .int .i64 j ∧ Below w.heap.size w wr ∧ Blk wr w.heap.size #[.slice la g.levels.length lc, .slice ra g.rules.length rc] 25 ∧ Blk wr (w.heap.size + 1) #[.slice la' g.levels.length lc', .slice ra' g.rules.length rc'] 32)
  case atStart => exact ⟨0, by omega, rfl, b0, kA, kB⟩
  case round =>
    clear kA kB b0
    revert wr
    intro wz hrel
    obtain ⟨j, hk, rfl, hb, kA, kB⟩ := hrel
    have a0 : wz.cell? ⟨w.heap.size, 0, none⟩ = some (.slice la g.levels.length lc) := kA.cell 0
    have a1 : wz.cell? ⟨w.heap.size, 1, none⟩ = some (.slice ra g.rules.length rc) := kA.cell 1
    have b0 : wz.cell? ⟨w.heap.size + 1, 0, none⟩ = some (.slice la' g.levels.length lc') := kB.cell 0
    have b1 : wz.cell? ⟨w.heap.size + 1, 1, none⟩ = some (.slice ra' g.rules.length rc') := kB.cell 1
    by_cases hlt : j < g.levels.length
    · have h1 : GramIn F wz _ _ g := GramIn.move h (fun b hb' => hb.block b (hF b hb')) (fun _ h => h)
      have h2 : RG F' wz _ _ g := RG.move h' (fun b hb' => hb.block b (hF' b hb')) (fun _ h => h)
      obtain ⟨n, cap, va, hv, hn, hi, hc⟩ := Seq.at h1.1 (fun _ => rfl) hlt
      obtain ⟨n', cap', vb, hv', hn', hi', hc'⟩ := Seq.at h2.1 (fun _ => rfl) hlt
      cases hv
      cases hv'
      generalize g.levels[j] = x at hi hc hi' hc'
      have o1 := toks_own hi
      obtain ⟨vT, vA, rfl, o2, o3, -, -⟩ := hi'
      obtain ⟨ta, tn, tc, rfl⟩ := own_form o1
      obtain ⟨ta', tn', tc', rfl⟩ := own_form o2
      have c0 : wz.cell? ⟨n, j * 2, none⟩ = some (.int .i64 (x.kind : Int)) := hc 0 (by decide)
      have c1 : wz.cell? ⟨n, j * 2 + 1, none⟩ = some (.slice ta tn tc) := hc 1 (by decide)
      have d0 : wz.cell? ⟨n', j * 3, none⟩ = some (.int .i64 (x.kind : Int)) := hc' 0 (by decide)
      have d1 : wz.cell? ⟨n', j * 3 + 1, none⟩ = some (.slice ta' tn' tc') := hc' 1 (by decide)
      have ln : n < w.heap.size := hF n hn
      have ln' : n' < w.heap.size := hF' n' hn'
      have hsz := hb.size
      have lA := kA.lt
      have lB := kB.lt
      clear h h' h1 h2 hc hc' hi
      go_wp2_with fail
      go_region_law (refine step_call rfl 25 #[.slice ta tn tc, .slice ta' tn' tc'] (by go_simp) (words_toks x.tokens _ _ _ o1.drew o2.drew) ?_; rintro e w1 ⟨rfl, hb1⟩; refine ⟨_, rfl, ?_⟩)
      all_goals
        have hb1' : Below wz.heap.size wz w1 := ⟨hb1.os, hb1.tape, hb1.output, hb1.size, hb1.block⟩
        have kA1 : Blk w1 w.heap.size #[.slice (some ⟨n, 0, none⟩) g.levels.length lc, .slice ra g.rules.length rc] 25 := (hb1'.block _ lA).trans kA
        have kB1 : Blk w1 (w.heap.size + 1) #[.slice (some ⟨n', 0, none⟩) g.levels.length lc', .slice ra' g.rules.length rc'] 32 := (hb1'.block _ lB).trans kB
        have c0' : w1.cell? ⟨n, j * 2, none⟩ = some (.int .i64 (x.kind : Int)) := (World.cell?_of_block (w := wz) (hb1'.block n (by omega))).trans c0
        have d0' : w1.cell? ⟨n', j * 3, none⟩ = some (.int .i64 (x.kind : Int)) := (World.cell?_of_block (w := wz) (hb1'.block n' (by omega))).trans d0
        have a0' : w1.cell? ⟨w.heap.size, 0, none⟩ = some (.slice (some ⟨n, 0, none⟩) g.levels.length lc) := kA1.cell 0
        have b0' : w1.cell? ⟨w.heap.size + 1, 0, none⟩ = some (.slice (some ⟨n', 0, none⟩) g.levels.length lc') := kB1.cell 0
        have hb2 : Below w.heap.size w w1 := hb.trans (hb1'.mono hsz)
        clear hb1 hb1' c0 c1 d0 d1 a0 a1 b0 b1 kA kB o1 o2 o3
        go_wp2_with fail
        go_quiet (fail)
        go_wp2_with fail
        go_roundg (g.levels.length - (j + 1))
        case measure => omega
        case rel => exact ⟨j + 1, by omega, by go_num, ⟨hb2.os, hb2.tape, hb2.output, hb2.size, hb2.block⟩, kA1, kB1⟩
    · go_wp2_with fail
      go_loopg [7] g.rules.length (fun k i wr => ∃ j : Nat, j + k = g.rules.length ∧ i = .int .i64 j ∧ Below w.heap.size w wr ∧ Blk wr w.heap.size #[.slice la g.levels.length lc, .slice ra g.rules.length rc] 25 ∧ Blk wr (w.heap.size + 1) #[.slice la' g.levels.length lc', .slice ra' g.rules.length rc'] 32)
      case atStart => exact ⟨0, by omega, rfl, hb, kA, kB⟩
      case round =>
        clear kA kB a0 a1 b0 b1 hb
        obtain ⟨j, hk, rfl, hb, kA, kB⟩ := hrel
        have a1 : wr.cell? ⟨w.heap.size, 1, none⟩ = some (.slice ra g.rules.length rc) := kA.cell 1
        have b1 : wr.cell? ⟨w.heap.size + 1, 1, none⟩ = some (.slice ra' g.rules.length rc') := kB.cell 1
        by_cases hlt : j < g.rules.length
        · have h1 : GramIn F wr _ _ g := GramIn.move h (fun b hb' => hb.block b (hF b hb')) (fun _ h => h)
          have h2 : RG F' wr _ _ g := RG.move h' (fun b hb' => hb.block b (hF' b hb')) (fun _ h => h)
          obtain ⟨n, cap, va, hv, hn, hi, hc⟩ := Seq.at h1.2 (fun _ => rfl) hlt
          obtain ⟨n', cap', va', hv', hn', hi', hc'⟩ := Seq.at h2.2 (fun _ => rfl) hlt
          cases hv
          cases hv'
          generalize g.rules[j] = x at hi hc hi' hc'
          obtain ⟨ta, tn, tc, hva⟩ := AltsIn.form hi
          obtain ⟨ta', tn', tc', hva'⟩ := AltsIn.form hi'
          subst hva hva'
          have c0 : wr.cell? ⟨n, j * 2, none⟩ = some (.string x.name) := hc 0 (by decide)
          have c1 : wr.cell? ⟨n, j * 2 + 1, none⟩ = some (.slice ta tn tc) := hc 1 (by decide)
          have d0 : wr.cell? ⟨n', j * 3, none⟩ = some (.string x.name) := hc' 0 (by decide)
          have d1 : wr.cell? ⟨n', j * 3 + 1, none⟩ = some (.slice ta' tn' tc') := hc' 1 (by decide)
          have ln : n < w.heap.size := hF n hn
          have ln' : n' < w.heap.size := hF' n' hn'
          have hsz := hb.size
          have lA := kA.lt
          have lB := kB.lt
          have hi1 : AltsIn YP 9 F wr.drew _ x.alts := AltsIn.move (fun _ _ => rfl) (fun _ h => h) hi
          have hi2 : AltsIn YR 9 F' wr.drew _ x.alts := AltsIn.move (fun _ _ => rfl) (fun _ h => h) hi'
          clear h h' h1 h2 hc hc' hi hi'
          go_wp2_with fail
          go_region_law (refine step_call rfl 26 #[.slice ta tn tc, .slice ta' tn' tc'] (by go_simp) (same_at 9 F F' _ _ _ x.alts (fun b hb' => Nat.lt_of_lt_of_le (hF b hb') hsz) (fun b hb' => Nat.lt_of_lt_of_le (hF' b hb') hsz) hi1 hi2) ?_; rintro e w1 ⟨rfl, hb1⟩; refine ⟨_, rfl, ?_⟩)
          all_goals
            have hb1' : Below wr.heap.size wr w1 := ⟨hb1.os, hb1.tape, hb1.output, hb1.size, hb1.block⟩
            have kA1 : Blk w1 w.heap.size #[.slice la g.levels.length lc, .slice (some ⟨n, 0, none⟩) g.rules.length rc] 25 := (hb1'.block _ lA).trans kA
            have kB1 : Blk w1 (w.heap.size + 1) #[.slice la' g.levels.length lc', .slice (some ⟨n', 0, none⟩) g.rules.length rc'] 32 := (hb1'.block _ lB).trans kB
            have c0' : w1.cell? ⟨n, j * 2, none⟩ = some (.string x.name) := (World.cell?_of_block (w := wr) (hb1'.block n (by omega))).trans c0
            have d0' : w1.cell? ⟨n', j * 3, none⟩ = some (.string x.name) := (World.cell?_of_block (w := wr) (hb1'.block n' (by omega))).trans d0
            have a1' : w1.cell? ⟨w.heap.size, 1, none⟩ = some (.slice (some ⟨n, 0, none⟩) g.rules.length rc) := kA1.cell 1
            have b1' : w1.cell? ⟨w.heap.size + 1, 1, none⟩ = some (.slice (some ⟨n', 0, none⟩) g.rules.length rc') := kB1.cell 1
            have hb2 : Below w.heap.size w w1 := hb.trans (hb1'.mono hsz)
            clear hb1 hb1' c0 c1 d0 d1 a1 b1 kA kB hi1 hi2
            go_wp2_with fail
            go_quiet (fail)
            go_wp2_with fail
            go_roundg (g.rules.length - (j + 1))
            case measure => omega
            case rel => exact ⟨j + 1, by omega, by go_num, ⟨hb2.os, hb2.tape, hb2.output, hb2.size, hb2.block⟩, kA1, kB1⟩
        · go_wp2_with fail
          go_ret
          exact ⟨rfl, hb⟩
end Go.Proofs.Ytonkcljapkeidaa
namespace Go.Proofs.Ytonkcljapkeidaa
open Go.RowKit
open Lx (Tk)
open Tr
def tOne : ByteArray := ⟨#[37, 108, 101, 102, 116, 32, 65, 59, 32, 101, 32, 61, 32, 101, 32, 65, 32, 101, 32, 124, 32, 40, 66, 32, 124, 32, 67, 41, 42, 59]⟩
def tTwo : ByteArray := ⟨#[101, 61, 66, 32, 59]⟩
def shape (r : Except (Nat × Nat) Lx.Gr) : Nat × Nat × List Nat :=
  match r with
  | .ok g => (g.levels.length, g.rules.length, g.rules.map fun r => r.alts.length)
  | .error e => (e.1 + 100, e.2, [])
theorem two_form : Lx.formL Lx.noText (Lx.lex tTwo) = [101, 32, 61, 32, 66, 59, 10] := by kernel_rfl
theorem two_shape : shape (Lx.parse tTwo) = (0, 1, [1]) := by kernel_rfl
theorem one_shape : shape (Lx.parse tOne) = (1, 1, [2]) := by kernel_rfl
theorem one_ok : ∃ g, Lx.parse tOne = .ok g ∧ g.levels.length = 1 ∧ ∃ r, g.rules = [r] ∧ r.alts.length = 2 := by
  have h := one_shape
  cases hp : Lx.parse tOne with
  | error e => rw [hp] at h; simp [shape] at h
  | ok g =>
    rw [hp] at h
    simp only [shape, Prod.mk.injEq] at h
    obtain ⟨h1, h2, h3⟩ := h
    match hg : g.rules, h2 with
    | [r], _ =>
      rw [hg] at h3
      exact ⟨g, rfl, h1, r, hg, by simpa using h3⟩
theorem two_ok : ∃ g, Lx.parse tTwo = .ok g := by
  have h := two_shape
  cases hp : Lx.parse tTwo with
  | error e => rw [hp] at h; simp [shape] at h
  | ok g => exact ⟨g, rfl⟩
theorem PrintEnds.ok {w w' : World} {s : ByteArray} {g : Lx.Gr} {e : Ending} (h : PrintEnds w s e w') (hr : Lx.parse s = .ok g) : e = .returned (.tuple #[.string ⟨(Lx.formL Lx.noText (Lx.lex s)).toArray⟩, .int .i64 0, .int .i64 0]) ∧ Below w.heap.size w w' := by
  unfold PrintEnds at h; rw [hr] at h; exact ⟨h.2, h.1⟩
theorem num_any (n : Int) (w : World) : Calls Try.prog 12 #[.int .i64 n] w fun e w' => e = .returned (.int .i64 n) ∧ w' = w := by
  go_enter Try.func12, Try.ntmps12
  go_wp2_with fail
  go_ret
  exact ⟨rfl, rfl⟩
set_option maxHeartbeats 2000000 in
set_option maxRecDepth 100000 in
theorem alive_any (w : World) : Calls Try.prog 13 #[] w fun e w' => e = .returned (.bool true) ∧ Below w.heap.size w w' := by
  obtain ⟨g, hp1, hl, r, hrs, ha⟩ := one_ok
  obtain ⟨g2, hp2⟩ := two_ok
  have HP2 : Hid (Lx.parse tTwo = .ok g2) := hp2
  have P1 := Parse_any tOne w (by decide)
  clear hp2
  go_enter Try.func13, Try.ntmps13
  go_wp2_with fail
  refine P1.mono ?_
  intro e w1 he
  obtain ⟨hb1, ⟨g', vl, vr, hr, rfl, hg⟩ | ⟨n, a, hn, hr, rfl⟩⟩ := he.out
  case inr => rw [hp1] at hr; cases hr
  rw [hp1] at hr
  cases hr
  obtain ⟨la, lc, rfl, -⟩ := Seq.len hg.1
  obtain ⟨n, cap, va, hv, hn, hk, hc⟩ := Seq.at hg.2 (fun _ => rfl) (j := 0) (by rw [hrs]; simp)
  subst hv
  obtain ⟨aa, ac, rfl, -⟩ := AltsIn.len hk
  have e0 : g.rules[0]'(by rw [hrs]; simp) = r := by simp [hrs]
  rw [e0] at hc
  have c1 : w1.cell? ⟨n, 1, none⟩ = some (.slice aa 2 ac) := by
    have := hc 1 (by decide)
    simpa [cR, ha] using this
  rw [hl, hrs]
  simp only [List.length_cons, List.length_nil]
  have hn1 : n < w1.heap.size := hn.2
  have kg := Blk.new w1 #[.slice la 1 lc, .slice (some ⟨n, 0, none⟩) 1 cap] 25
  have hbA := hb1.alloc hb1.size (.cells #[.slice la 1 lc, .slice (some ⟨n, 0, none⟩) 1 cap] 25)
  have P2 := Print_any tTwo (w1.alloc (.cells #[.slice la 1 lc, .slice (some ⟨n, 0, none⟩) 1 cap] 25)) (by decide)
  clear hg hc hk he P1
  go_wp2_with fail
  refine P2.mono ?_
  intro e w2 he
  obtain ⟨rfl, hb2⟩ := he.ok HP2.out
  have kg2 : Blk w2 w1.heap.size _ 25 := (hb2.block _ (by simp)).trans kg
  have c2 : w2.cell? ⟨n, 1, none⟩ = some (.slice aa 2 ac) := by
    rw [World.cell?_of_block (w := w1) ((hb2.block n (by simp; omega)).trans (Below.heap_alloc _ _ _ hn1))]; exact c1
  have g0 : w2.cell? ⟨w1.heap.size, 0, none⟩ = some (.slice la 1 lc) := kg2.cell 0
  have g1 : w2.cell? ⟨w1.heap.size, 1, none⟩ = some (.slice (some ⟨n, 0, none⟩) 1 cap) := kg2.cell 1
  have hb3 : Below w.heap.size w w2 := hbA.trans (hb2.mono hbA.size)
  rw [two_form]
  clear he P2 c1 kg kg2
  go_wp2_with (go_at_call 12; refine (num_any _ _).mono ?_; rintro e w' ⟨rfl, hw'⟩; obtain rfl := hw'.symm)
  go_ret
  exact ⟨rfl, hb3⟩
end Go.Proofs.Ytonkcljapkeidaa
namespace Go.Proofs.Ytonkcljapkeidaa
open Go.RowKit
open Lx (Tk)
open Tr
theorem Mv.below {q : Nat} {w w' : World} (h : Mv q (.slice none 0 0) w w') (hq : w.heap.size ≤ q) : Below w.heap.size w w' :=
  ⟨h.os, h.tape, h.output, h.size, fun b hb => h.block b hb (by omega) (by simp [Value.ownBlock])⟩
theorem rread_parse (s : ByteArray) : (∃ g ts', Lx.parse s = .ok g ∧ rread s = .ok (g, ts')) ∨ (∃ n a : Nat, Lx.parse s = .error (n, a) ∧ rread s = .error (n, a)) := by
  unfold rread Lx.parse
  split
  · exact .inr ⟨1, 0, rfl, rfl⟩
  · cases hr : Lx.pGrammar (Lx.lex s) with
    | error e => obtain ⟨n, a⟩ := e; exact .inr ⟨n, a, rfl, rfl⟩
    | ok x => obtain ⟨g, ts'⟩ := x; exact .inl ⟨g, ts', rfl, rfl⟩
/-- What both say of a text, in one world: the same grammar, number and place. -/
theorem RParseEnds.out {s : ByteArray} {w w' : World} {e : Ending} (h : RParseEnds s w e w') : Below w.heap.size w w' ∧
    ((∃ g vL vR sgx, Lx.parse s = .ok g ∧ e = .returned (.tuple #[.agg #[vL, vR], .int .i64 0, .int .i64 0]) ∧ RG (Fp w.heap.size sgx w') w' vL vR g) ∨
     (∃ n a : Nat, Lx.parse s = .error (n, a) ∧ e = .returned (.tuple #[.agg #[.slice none 0 0, .slice none 0 0], .int .i64 (n : Int), .int .i64 (a : Int)]))) := by
  obtain ⟨vL, vR, sgx, n, a, rfl, hm, h⟩ := h
  refine ⟨hm.below (by omega), ?_⟩
  rcases rread_parse s with ⟨g, ts', h1, h2⟩ | ⟨m, b, h1, h2⟩
  · rw [h2] at h
    obtain ⟨rfl, rfl, hg⟩ := h
    exact .inl ⟨g, vL, vR, sgx, h1, rfl, hg⟩
  · rw [h2] at h
    obtain ⟨rfl, rfl, rfl, rfl⟩ := h
    exact .inr ⟨_, _, h1, rfl⟩
theorem GramIn.nil (F : Nat → Prop) (w : World) : GramIn F w (.slice none 0 0) (.slice none 0 0) ⟨[], []⟩ := ⟨Seq.nil _ _ _ _ _ _, Seq.nil _ _ _ _ _ _⟩
theorem RG.nil (F : Nat → Prop) (w : World) : RG F w (.slice none 0 0) (.slice none 0 0) ⟨[], []⟩ := ⟨Seq.nil _ _ _ _ _ _, Seq.nil _ _ _ _ _ _⟩
/-- The two answers to a text are one grammar, one number, one place. -/
theorem both_ends {s : ByteArray} {w w1 : World} {e : Ending} (h : ParseEnds w s e w1) : ∃ vl vr, ∃ n a : Nat, e = .returned (.tuple #[.agg #[vl, vr], .int .i64 (n : Int), .int .i64 (a : Int)]) ∧ Below w.heap.size w w1 ∧
    ∃ g, GramIn (In w.heap.size w1.heap.size) w1 vl vr g ∧ ∀ (w2 w3 : World) (e' : Ending), RParseEnds s w2 e' w3 → ∃ vL vR F', e' = .returned (.tuple #[.agg #[vL, vR], .int .i64 (n : Int), .int .i64 (a : Int)]) ∧ Below w2.heap.size w2 w3 ∧ RG F' w3 vL vR g ∧ ∀ b, F' b → b < w3.heap.size := by
  obtain ⟨hb, ⟨g, vl, vr, hr, rfl, hg⟩ | ⟨n, a, hn, hr, rfl⟩⟩ := h.out
  · refine ⟨vl, vr, 0, 0, rfl, hb, g, hg, fun w2 w3 e' h' => ?_⟩
    obtain ⟨hb', ⟨g', vL, vR, sgx, hr', rfl, hg'⟩ | ⟨n, a, hr', rfl⟩⟩ := h'.out
    · rw [hr] at hr'; cases hr'
      exact ⟨vL, vR, _, rfl, hb', hg', fun b hF => hF.2.1⟩
    · rw [hr] at hr'; cases hr'
  · refine ⟨_, _, n, a, rfl, hb, ⟨[], []⟩, GramIn.nil _ _, fun w2 w3 e' h' => ?_⟩
    obtain ⟨hb', ⟨g', vL, vR, sgx, hr', rfl, hg'⟩ | ⟨n', a', hr', rfl⟩⟩ := h'.out
    · rw [hr] at hr'; cases hr'
    · rw [hr] at hr'; cases hr'
      exact ⟨_, _, fun _ => False, rfl, hb', RG.nil _ _, fun b hF => hF.elim⟩
set_option maxHeartbeats 2000000 in
set_option maxRecDepth 100000 in
theorem GramParses_any (s : ByteArray) (w : World) (hmax : s.size ≤ maxLen) : Calls Try.prog 3 #[.string s] w fun e w' => e = .returned (.bool true) ∧ Below w.heap.size w w' := by
  have P := Parse_any s w hmax
  clear hmax
  go_enter Try.func3, Try.ntmps3
  go_wp2_with fail
  refine P.mono ?_
  intro e w1 he
  obtain ⟨vl, vr, n, a, rfl, hb1, g, hg, hR⟩ := both_ends he
  clear he P
  obtain ⟨la, lc, rfl, -⟩ := Seq.len hg.1
  obtain ⟨ra, rc, rfl, -⟩ := Seq.len hg.2
  have kg := Blk.new w1 #[.slice la g.levels.length lc, .slice ra g.rules.length rc] 25
  have hbA := hb1.alloc hb1.size (.cells #[.slice la g.levels.length lc, .slice ra g.rules.length rc] 25)
  have P := rparse_any s (w1.alloc (.cells #[.slice la g.levels.length lc, .slice ra g.rules.length rc] 25))
  go_wp2_with fail
  refine P.mono ?_
  intro e w2 he
  obtain ⟨vL, vR, F', rfl, hb2, hg2, hF'⟩ := hR _ _ _ he
  clear he P hR
  obtain ⟨la', lc', rfl, -⟩ := Seq.len hg2.1
  obtain ⟨ra', rc', rfl, -⟩ := Seq.len hg2.2
  have kg2 : Blk w2 w1.heap.size _ 25 := (hb2.block _ (by simp)).trans kg
  have hsz : w1.heap.size + 1 ≤ w2.heap.size := by have := hb2.size; simpa using this
  have hbB : Below w.heap.size w w2 := hbA.trans (hb2.mono hbA.size)
  have g0 : w2.cell? ⟨w1.heap.size, 0, none⟩ = some (.slice la g.levels.length lc) := kg2.cell 0
  have g1 : w2.cell? ⟨w1.heap.size, 1, none⟩ = some (.slice ra g.rules.length rc) := kg2.cell 1
  have hgA : GramIn (In w.heap.size w1.heap.size) (w2.alloc (.cells #[.slice la' g.levels.length lc', .slice ra' g.rules.length rc'] 32)) (.slice la g.levels.length lc) (.slice ra g.rules.length rc) g :=
    GramIn.move hg (fun b hb => by
      have h2 := hb.2
      rw [Below.heap_alloc _ _ _ (by omega), hb2.block b (by simp; omega), Below.heap_alloc _ _ _ h2]) (fun _ h => h)
  have hgB : RG F' (w2.alloc (.cells #[.slice la' g.levels.length lc', .slice ra' g.rules.length rc'] 32)) (.slice la' g.levels.length lc') (.slice ra' g.rules.length rc') g :=
    RG.move hg2 (fun b hb => Below.heap_alloc _ _ _ (hF' b hb)) (fun _ h => h)
  have S := same_any (In w.heap.size w1.heap.size) F' (w2.alloc (.cells #[.slice la' g.levels.length lc', .slice ra' g.rules.length rc'] 32)) _ _ _ _ g (fun b hb => by have := hb.2; simp; omega) (fun b hb => by have := hF' b hb; simp; omega) hgA hgB
  have hbC := hbB.alloc hbB.size (.cells #[.slice la' g.levels.length lc', .slice ra' g.rules.length rc'] 32)
  have hlt : w1.heap.size < w2.heap.size := by omega
  clear kg kg2 hg hg2 hgA hgB hb2 hbA
  go_wp2_with fail
  refine S.mono ?_
  rintro e w3 ⟨rfl, hb3⟩
  have hbD : Below w.heap.size w w3 := hbC.trans (hb3.mono hbC.size)
  clear S hbC hb3
  go_wp2_with (first
    | (go_at_call 12; refine (num_any _ _).mono ?_; rintro e w' ⟨rfl, hw'⟩; obtain rfl := hw'.symm)
    | (go_at_call 13; refine (alive_any _).mono ?_; rintro e w4 ⟨rfl, hb4⟩))
  go_ret
  exact ⟨rfl, hbD.trans (hb4.mono hbD.size)⟩
end Go.Proofs.Ytonkcljapkeidaa

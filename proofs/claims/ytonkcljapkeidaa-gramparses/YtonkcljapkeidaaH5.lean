import Derived.Test.YtonkcljapkeidaaH4
import Derived.Test.YtonkcljapkeidaaG3
namespace Go.Proofs.Ytonkcljapkeidaa
open Go.RowKit
open Lx (Tk)
open Tr
theorem Mv.below {q : Nat} {w w' : World} (h : Mv q (.slice none 0 0) w w') (hq : w.heap.size ≤ q) : Below w.heap.size w w' :=
  ⟨h.os, h.tape, h.output, h.size, fun b hb => h.block b hb (by omega) (by simp [Value.ownBlock])⟩
theorem rread_parse (s : ByteArray) : (∃ g ts', Lx.parse s = .ok g ∧ rread s = .ok (g, ts')) ∨ (∃ n a : Nat, Lx.parse s = .error (n, a) ∧ rread s = .error (n, a)) := by
  unfold rread Lx.parse
  split
  · exact .inr ⟨1, 0, rfl, rfl⟩
  · cases hr : Lx.pGrammar (Lx.lex s) with
    | error e => obtain ⟨n, a⟩ := e; exact .inr ⟨n, a, rfl, rfl⟩
    | ok x => obtain ⟨g, ts'⟩ := x; exact .inl ⟨g, ts', rfl, rfl⟩
/-- What both say of a text, in one world: the same grammar, number and place. -/
theorem RParseEnds.out {s : ByteArray} {w w' : World} {e : Ending} (h : RParseEnds s w e w') : Below w.heap.size w w' ∧
    ((∃ g vL vR sgx, Lx.parse s = .ok g ∧ e = .returned (.tuple #[.agg #[vL, vR], .int .i64 0, .int .i64 0]) ∧ RG (Fp w.heap.size sgx w') w' vL vR g) ∨
     (∃ n a : Nat, Lx.parse s = .error (n, a) ∧ e = .returned (.tuple #[.agg #[.slice none 0 0, .slice none 0 0], .int .i64 (n : Int), .int .i64 (a : Int)]))) := by
  obtain ⟨vL, vR, sgx, n, a, rfl, hm, h⟩ := h
  refine ⟨hm.below (by omega), ?_⟩
  rcases rread_parse s with ⟨g, ts', h1, h2⟩ | ⟨m, b, h1, h2⟩
  · rw [h2] at h
    obtain ⟨rfl, rfl, hg⟩ := h
    exact .inl ⟨g, vL, vR, sgx, h1, rfl, hg⟩
  · rw [h2] at h
    obtain ⟨rfl, rfl, rfl, rfl⟩ := h
    exact .inr ⟨_, _, h1, rfl⟩
theorem GramIn.nil (F : Nat → Prop) (w : World) : GramIn F w (.slice none 0 0) (.slice none 0 0) ⟨[], []⟩ := ⟨Seq.nil _ _ _ _ _ _, Seq.nil _ _ _ _ _ _⟩
theorem RG.nil (F : Nat → Prop) (w : World) : RG F w (.slice none 0 0) (.slice none 0 0) ⟨[], []⟩ := ⟨Seq.nil _ _ _ _ _ _, Seq.nil _ _ _ _ _ _⟩
/-- The two answers to a text are one grammar, one number, one place. -/
theorem both_ends {s : ByteArray} {w w1 : World} {e : Ending} (h : ParseEnds w s e w1) : ∃ vl vr, ∃ n a : Nat, e = .returned (.tuple #[.agg #[vl, vr], .int .i64 (n : Int), .int .i64 (a : Int)]) ∧ Below w.heap.size w w1 ∧
    ∃ g, GramIn (In w.heap.size w1.heap.size) w1 vl vr g ∧ ∀ (w2 w3 : World) (e' : Ending), RParseEnds s w2 e' w3 → ∃ vL vR F', e' = .returned (.tuple #[.agg #[vL, vR], .int .i64 (n : Int), .int .i64 (a : Int)]) ∧ Below w2.heap.size w2 w3 ∧ RG F' w3 vL vR g ∧ ∀ b, F' b → b < w3.heap.size := by
  obtain ⟨hb, ⟨g, vl, vr, hr, rfl, hg⟩ | ⟨n, a, hn, hr, rfl⟩⟩ := h.out
  · refine ⟨vl, vr, 0, 0, rfl, hb, g, hg, fun w2 w3 e' h' => ?_⟩
    obtain ⟨hb', ⟨g', vL, vR, sgx, hr', rfl, hg'⟩ | ⟨n, a, hr', rfl⟩⟩ := h'.out
    · rw [hr] at hr'; cases hr'
      exact ⟨vL, vR, _, rfl, hb', hg', fun b hF => hF.2.1⟩
    · rw [hr] at hr'; cases hr'
  · refine ⟨_, _, n, a, rfl, hb, ⟨[], []⟩, GramIn.nil _ _, fun w2 w3 e' h' => ?_⟩
    obtain ⟨hb', ⟨g', vL, vR, sgx, hr', rfl, hg'⟩ | ⟨n', a', hr', rfl⟩⟩ := h'.out
    · rw [hr] at hr'; cases hr'
    · rw [hr] at hr'; cases hr'
      exact ⟨_, _, fun _ => False, rfl, hb', RG.nil _ _, fun b hF => hF.elim⟩
set_option maxHeartbeats 2000000 in
set_option maxRecDepth 100000 in
theorem GramParses_any (s : ByteArray) (w : World) (hmax : s.size ≤ maxLen) : Calls Try.prog 3 #[.string s] w fun e w' => e = .returned (.bool true) ∧ Below w.heap.size w w' := by
  have P := Parse_any s w hmax
  clear hmax
  go_enter Try.func3, Try.ntmps3
  go_wp2_with fail
  refine P.mono ?_
  intro e w1 he
  obtain ⟨vl, vr, n, a, rfl, hb1, g, hg, hR⟩ := both_ends he
  clear he P
  obtain ⟨la, lc, rfl, -⟩ := Seq.len hg.1
  obtain ⟨ra, rc, rfl, -⟩ := Seq.len hg.2
  have kg := Blk.new w1 #[.slice la g.levels.length lc, .slice ra g.rules.length rc] 25
  have hbA := hb1.alloc hb1.size (.cells #[.slice la g.levels.length lc, .slice ra g.rules.length rc] 25)
  have P := rparse_any s (w1.alloc (.cells #[.slice la g.levels.length lc, .slice ra g.rules.length rc] 25))
  go_wp2_with fail
  refine P.mono ?_
  intro e w2 he
  obtain ⟨vL, vR, F', rfl, hb2, hg2, hF'⟩ := hR _ _ _ he
  clear he P hR
  obtain ⟨la', lc', rfl, -⟩ := Seq.len hg2.1
  obtain ⟨ra', rc', rfl, -⟩ := Seq.len hg2.2
  have kg2 : Blk w2 w1.heap.size _ 25 := (hb2.block _ (by simp)).trans kg
  have hsz : w1.heap.size + 1 ≤ w2.heap.size := by have := hb2.size; simpa using this
  have hbB : Below w.heap.size w w2 := hbA.trans (hb2.mono hbA.size)
  have g0 : w2.cell? ⟨w1.heap.size, 0, none⟩ = some (.slice la g.levels.length lc) := kg2.cell 0
  have g1 : w2.cell? ⟨w1.heap.size, 1, none⟩ = some (.slice ra g.rules.length rc) := kg2.cell 1
  have hgA : GramIn (In w.heap.size w1.heap.size) (w2.alloc (.cells #[.slice la' g.levels.length lc', .slice ra' g.rules.length rc'] 32)) (.slice la g.levels.length lc) (.slice ra g.rules.length rc) g :=
    GramIn.move hg (fun b hb => by
      have h2 := hb.2
      rw [Below.heap_alloc _ _ _ (by omega), hb2.block b (by simp; omega), Below.heap_alloc _ _ _ h2]) (fun _ h => h)
  have hgB : RG F' (w2.alloc (.cells #[.slice la' g.levels.length lc', .slice ra' g.rules.length rc'] 32)) (.slice la' g.levels.length lc') (.slice ra' g.rules.length rc') g :=
    RG.move hg2 (fun b hb => Below.heap_alloc _ _ _ (hF' b hb)) (fun _ h => h)
  have S := same_any (In w.heap.size w1.heap.size) F' (w2.alloc (.cells #[.slice la' g.levels.length lc', .slice ra' g.rules.length rc'] 32)) _ _ _ _ g (fun b hb => by have := hb.2; simp; omega) (fun b hb => by have := hF' b hb; simp; omega) hgA hgB
  have hbC := hbB.alloc hbB.size (.cells #[.slice la' g.levels.length lc', .slice ra' g.rules.length rc'] 32)
  have hlt : w1.heap.size < w2.heap.size := by omega
  clear kg kg2 hg hg2 hgA hgB hb2 hbA
  go_wp2_with fail
  refine S.mono ?_
  rintro e w3 ⟨rfl, hb3⟩
  have hbD : Below w.heap.size w w3 := hbC.trans (hb3.mono hbC.size)
  clear S hbC hb3
  go_wp2_with (first
    | (go_at_call 12; refine (num_any _ _).mono ?_; rintro e w' ⟨rfl, hw'⟩; obtain rfl := hw'.symm)
    | (go_at_call 13; refine (alive_any _).mono ?_; rintro e w4 ⟨rfl, hb4⟩))
  go_ret
  exact ⟨rfl, hbD.trans (hb4.mono hbD.size)⟩
end Go.Proofs.Ytonkcljapkeidaa

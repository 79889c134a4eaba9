import Derived.Test.YtonkcljapkeidaaB6
namespace Go.Proofs.Ytonkcljapkeidaa
open Go.RowKit
open Lx (Tk)
open Tr
namespace Lx
theorem extract_size (s : ByteArray) (i j : Nat) : (s.extract i j).size ≤ s.size := by
  rw [ByteArray.size_extract]; omega
theorem lexTo_sz (s : ByteArray) : ∀ (f i : Nat) (t : Tk), t ∈ lexTo s f i → t.1.size ≤ s.size
  | 0, i, t, h => by
    simp only [lexTo, List.mem_singleton] at h; subst h; exact Nat.zero_le _
  | f + 1, i, t, h => by
    simp only [lexTo] at h
    split at h
    · rcases List.mem_cons.1 h with rfl | h
      · exact extract_size _ _ _
      · exact lexTo_sz s f _ t h
    · simp only [List.mem_singleton] at h; subst h; exact Nat.zero_le _
theorem lex_sz (s : ByteArray) (t : Tk) (h : t ∈ lex s) : t.1.size ≤ s.size := lexTo_sz s _ _ t h
theorem lex_len (s : ByteArray) : (lex s).length ≤ s.size + 1 := lexAt_len s _
end Lx
/-- The reader as Parse lays it. -/
theorem Rd.start {s : ByteArray} {B : Nat} {w1 : World} {v : Value} (hs : s.size ≤ 2000) (h : w1.ownsRow B 90 2 v (Lx.lex s).length (Lx.tkCells (Lx.lex s))) :
    ∃ sb cap, v = .slice (some ⟨sb, 0, none⟩) (Lx.lex s).length cap ∧ B ≤ sb ∧ sb < w1.heap.size ∧ Rd sb cap (Lx.lex s) w1.heap.size (w1.alloc (.cells #[v, .int .i64 0] 67)) (Lx.lex s) 0 := by
  have hwf := Lx.lex_wf s
  have hne := hwf.ne
  obtain ⟨g, cap, hv, hb, hlt⟩ := h.form hne
  subst hv
  have hcap : (Lx.lex s).length ≤ cap := by
    rcases h.2 with ⟨h0, _⟩ | ⟨g', cap', cur, hv, _, _, hle, _⟩
    · cases h0
    · cases hv; exact hle
  have kN := Blk.new w1 #[.slice (some ⟨g, 0, none⟩) (Lx.lex s).length cap, .int .i64 0] 67
  refine ⟨g, cap, rfl, hb, hlt, ?_⟩
  refine ⟨hwf, ⟨[], rfl⟩, hcap, ?_, kN.cell 1, kN.frozen 0, kN.frozen 1, ?_, by omega, fun t ht => Nat.le_trans (Lx.lex_sz s t ht) hs, by have := Lx.lex_len s; omega⟩
  · rw [show (Lx.lex s).length - (Lx.lex s).length = 0 by omega]; exact kN.cell 0
  · intro j t hj
    obtain ⟨h1, h2⟩ := Lx.tkCells_get _ j t hj
    have c1 := h.cells (g := g) rfl (j * 2) _ h1
    have c2 := h.cells (g := g) rfl (j * 2 + 1) _ h2
    have hadd : ∀ k, (⟨g, 0, none⟩ : Addr).add k = ⟨g, k, none⟩ := fun k => by unfold Addr.add; split <;> simp_all
    rw [hadd] at c1 c2
    have hold : ∀ k, (w1.alloc (.cells #[.slice (some ⟨g, 0, none⟩) (Lx.lex s).length cap, .int .i64 0] 67)).cell? ⟨g, k, none⟩ = w1.cell? ⟨g, k, none⟩ := fun k => World.cell?_of_block (w := w1) (Below.heap_alloc _ _ _ hlt)
    rw [hold, hold]
    exact ⟨c1, c2⟩
/-- How Parse ends. -/
def ParseEnds (w : World) (s : ByteArray) (e : Ending) (w' : World) : Prop :=
  Below w.heap.size w w' ∧
    match Lx.parse s with
    | .ok g => ∃ vl vr, e = .returned (.tuple #[.agg #[vl, vr], .int .i64 0, .int .i64 0]) ∧ GramIn (In w.heap.size w'.heap.size) w' vl vr g
    | .error (n, a) => e = .returned (.tuple #[.agg #[.slice none 0 0, .slice none 0 0], .int .i64 (n : Int), .int .i64 (a : Int)])
theorem ParseEnds.yes {w w' : World} {s : ByteArray} {g : Lx.Gr} {vl vr : Value} (hr : Lx.parse s = .ok g) (hb : Below w.heap.size w w') (hg : GramIn (In w.heap.size w'.heap.size) w' vl vr g) :
    ParseEnds w s (.returned (.tuple #[.agg #[vl, vr], .int .i64 0, .int .i64 0])) w' := by
  unfold ParseEnds; rw [hr]; exact ⟨hb, vl, vr, rfl, hg⟩
theorem ParseEnds.no {w w' : World} {s : ByteArray} {n a : Nat} (hr : Lx.parse s = .error (n, a)) (hb : Below w.heap.size w w') :
    ParseEnds w s (.returned (.tuple #[.agg #[.slice none 0 0, .slice none 0 0], .int .i64 (n : Int), .int .i64 (a : Int)])) w' := by
  unfold ParseEnds; rw [hr]; exact ⟨hb, rfl⟩
set_option maxHeartbeats 1000000 in
set_option maxRecDepth 100000 in
theorem Parse_any (s : ByteArray) (w : World) (hmax : s.size ≤ maxLen) : Calls Try.prog 9 #[.string s] w (ParseEnds w s) := by
  unfold maxLen at hmax
  have hmf : ∀ (fn : Fn) (first cap : Array Value) (w : World), (Instr.makeFunc fn first cap).run Try.prog w = .ok (.func fn first cap) w := fun _ _ _ _ => rfl
  by_cases hlong : 2000 < s.size
  · have HP : Hid (Lx.parse s = .error (1, 0)) := by show _ = _; unfold Lx.parse; rw [if_pos hlong]
    go_enter_defers Try.func9, Try.ntmps9
    go_wp2
    refine leaves_cons (f := 21) (args := #[.pointer (some ⟨w.heap.size, 0, none⟩), .pointer (some ⟨w.heap.size + 1, 0, none⟩), .pointer (some ⟨w.heap.size + 2, 0, none⟩)]) (by simp) (by simp [go_sem]) ?_
    refine (catch_idle _ _ _ _).mono ?_
    rintro e u' w'' ⟨rfl, rfl, rfl⟩
    refine ⟨.tuple #[.agg #[.slice none 0 0, .slice none 0 0], .int .i64 1, .int .i64 0], by simp [results, Try.results9, go_sem], ?_⟩
    exact ParseEnds.no HP.out ((((Below.refl _ _).alloc (Nat.le_refl _) _).alloc (by simp) _).alloc (by simp; omega) _)
  · have hs : s.size ≤ 2000 := by omega
    have hw3 : (((w.alloc (.cells #[.slice none 0 0, .slice none 0 0] 25)).alloc (.cells #[.int .i64 0] 26)).alloc (.cells #[.int .i64 0] 3)).heap.size = w.heap.size + 3 := by simp
    have kg := ((Blk.new w #[.slice none 0 0, .slice none 0 0] 25).alloc (.cells #[.int .i64 0] 26)).alloc (.cells #[.int .i64 0] 3)
    have ke := (Blk.new (w.alloc (.cells #[.slice none 0 0, .slice none 0 0] 25)) #[.int .i64 0] 26).alloc (.cells #[.int .i64 0] 3)
    have ka := Blk.new ((w.alloc (.cells #[.slice none 0 0, .slice none 0 0] 25)).alloc (.cells #[.int .i64 0] 26)) #[.int .i64 0] 3
    rw [show (w.alloc (.cells #[.slice none 0 0, .slice none 0 0] 25)).heap.size = w.heap.size + 1 by simp] at ke
    rw [show ((w.alloc (.cells #[.slice none 0 0, .slice none 0 0] 25)).alloc (.cells #[.int .i64 0] 26)).heap.size = w.heap.size + 2 by simp] at ka
    have b0 : Below w.heap.size w (((w.alloc (.cells #[.slice none 0 0, .slice none 0 0] 25)).alloc (.cells #[.int .i64 0] 26)).alloc (.cells #[.int .i64 0] 3)) := (((Below.refl _ _).alloc (Nat.le_refl _) _).alloc (by simp) _).alloc (by simp; omega) _
    go_enter_defers Try.func9, Try.ntmps9
    go_wp2_with fail
    refine (All_any s _ hs).mono ?_
    rintro e w1 ⟨v, rfl, hown, hb⟩
    rw [hw3] at hown hb
    have hRd := Rd.start hs hown
    obtain ⟨sb, cap, rfl, hsb, hsb1, hrd⟩ := hRd
    have b1 := b0.trans (hb.mono (by omega))
    have kg1 : Blk w1 w.heap.size #[.slice none 0 0, .slice none 0 0] 25 := (hb.block _ (by omega)).trans kg
    have ke1 : Blk w1 (w.heap.size + 1) #[.int .i64 0] 26 := (hb.block _ (by omega)).trans ke
    have ka1 : Blk w1 (w.heap.size + 2) #[.int .i64 0] 3 := (hb.block _ (by omega)).trans ka
    have s1 : w.heap.size + 3 ≤ w1.heap.size := by omega
    clear kg ke ka hown hb hw3
    go_wp2_with fail
    refine (grammar_rd sb cap _ w1.heap.size _ _ hrd).mono ?_
    intro e w2 he
    have b2 := b1.alloc (by omega) (.cells #[.slice (some ⟨sb, 0, none⟩) (Lx.lex s).length cap, .int .i64 0] 67)
    have hsz : (w1.alloc (.cells #[.slice (some ⟨sb, 0, none⟩) (Lx.lex s).length cap, .int .i64 0] 67)).heap.size = w1.heap.size + 1 := by simp
    cases hpg : Lx.pGrammar (Lx.lex s) with
    | error x =>
      obtain ⟨n, a⟩ := x
      obtain ⟨rfl, hg⟩ := he.err hpg
      have HP : Hid (Lx.parse s = .error (n, a)) := by show _ = _; unfold Lx.parse; rw [if_neg hlong, hpg]
      have b3 := b2.grown hg (by rw [hsz]; omega) (fun k hk => by cases hk; omega)
      have kg2 := (kg1.alloc _).grown hg (by simp; omega)
      have ke2 := (ke1.alloc _).grown hg (by simp; omega)
      have ka2 := (ka1.alloc _).grown hg (by simp; omega)
      have hs2 := hg.size
      rw [hsz] at hs2
      clear hpg he
      refine leaves_cons (f := 21) (args := #[.pointer (some ⟨w.heap.size, 0, none⟩), .pointer (some ⟨w.heap.size + 1, 0, none⟩), .pointer (some ⟨w.heap.size + 2, 0, none⟩)]) (by simp) (by simp [go_sem]) ?_
      refine (catch_panicking w.heap.size n a 0 0 [] w2 (by omega) kg2 ke2 ka2).mono ?_
      rintro e u' w3 ⟨rfl, rfl, hb3, kg3, ke3, ka3⟩
      have g0 : w3.cell? ⟨w.heap.size, 0, none⟩ = some (.slice none 0 0) := kg3.cell 0
      have g1 : w3.cell? ⟨w.heap.size, 1, none⟩ = some (.slice none 0 0) := kg3.cell 1
      have e0 : w3.cell? ⟨w.heap.size + 1, 0, none⟩ = some (.int .i64 n) := ke3.cell 0
      have a0 : w3.cell? ⟨w.heap.size + 2, 0, none⟩ = some (.int .i64 a) := ka3.cell 0
      have e0' : w3.cell? ⟨w.heap.size + 1 + 1, 0, none⟩ = some (.int .i64 a) := ka3.cell 0
      refine ⟨.tuple #[.agg #[.slice none 0 0, .slice none 0 0], .int .i64 n, .int .i64 a], by simp [results, Try.results9, go_sem, g0, g1, e0, a0], ?_⟩
      exact ParseEnds.no HP.out (b3.trans hb3)
    | ok x =>
      obtain ⟨g, ts'⟩ := x
      obtain ⟨v, rfl, hg, hrd2, vl, vr, rfl, hG⟩ := he.ok hpg
      have HP : Hid (Lx.parse s = .ok g) := by show _ = _; unfold Lx.parse; rw [if_neg hlong, hpg]
      obtain ⟨la, lk, lc, rfl⟩ := Seq.form hG.1
      obtain ⟨ra, rk, rc, rfl⟩ := Seq.form hG.2
      have b3 := b2.grown hg (by rw [hsz]; omega) (fun k hk => by cases hk; omega)
      have kg2 := (kg1.alloc _).grown hg (by simp; omega)
      have ke2 := (ke1.alloc _).grown hg (by simp; omega)
      have ka2 := (ka1.alloc _).grown hg (by simp; omega)
      have g0 : w2.cell? ⟨w.heap.size, 0, none⟩ = some (.slice none 0 0) := kg2.cell 0
      have g1 : w2.cell? ⟨w.heap.size, 1, none⟩ = some (.slice none 0 0) := kg2.cell 1
      have e0 : w2.cell? ⟨w.heap.size + 1, 0, none⟩ = some (.int .i64 0) := ke2.cell 0
      have a0 : w2.cell? ⟨w.heap.size + 2, 0, none⟩ = some (.int .i64 0) := ka2.cell 0
      have fg : ∀ i, w2.frozen? ⟨w.heap.size, i, none⟩ = false := kg2.frozen
      have fe : ∀ i, w2.frozen? ⟨w.heap.size + 1, i, none⟩ = false := ke2.frozen
      have fa : ∀ i, w2.frozen? ⟨w.heap.size + 2, i, none⟩ = false := ka2.frozen
      rw [hsz] at hG
      clear hpg he hrd hrd2 kg1 ke1 ka1 kg2 ke2 ka2
      go_wp2_with fail
      refine leaves_cons (f := 21) (args := #[.pointer (some ⟨w.heap.size, 0, none⟩), .pointer (some ⟨w.heap.size + 1, 0, none⟩), .pointer (some ⟨w.heap.size + 2, 0, none⟩)]) (by simp) (by simp [go_sem]) ?_
      refine (catch_idle _ _ _ _).mono ?_
      rintro e u' w'' ⟨rfl, rfl, rfl⟩
      refine ⟨.tuple #[.agg #[.slice la lk lc, .slice ra rk rc], .int .i64 0, .int .i64 0], by simp [results, Try.results9, go_sem, g0, g1, e0, a0], ?_⟩
      refine ParseEnds.yes HP.out ((((b3.setCell (Nat.le_refl _) _).setCell (Nat.le_refl _) _).setCell (by simp) _).setCell (by simp; omega) _) ?_
      refine hG.move (fun b hb => ?_) (fun b hb => ?_)
      · have h1 := hb.1
        rw [Below.heap_setCell _ _ _ _ (fun e => by have e' : b = w.heap.size + 1 + 1 := e; omega), Below.heap_setCell _ _ _ _ (fun e => by have e' : b = w.heap.size + 1 := e; omega), Below.heap_setCell _ _ _ _ (fun e => by have e' : b = w.heap.size := e; omega), Below.heap_setCell _ _ _ _ (fun e => by have e' : b = w.heap.size := e; omega)]
      · have h1 := hb.1
        have h2 := hb.2
        exact ⟨by omega, by simpa [World.setCell] using h2⟩
end Go.Proofs.Ytonkcljapkeidaa

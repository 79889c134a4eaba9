import Derived.Test.YtonkcljapkeidaaH2
import Derived.Test.YtonkcljapkeidaaB5
import Derived.Test.YtonkcljapkeidaaG1
import Derived.Deep.QuietTactic
import Derived.BigQuiet
namespace Go.Proofs.Ytonkcljapkeidaa
open Go.RowKit
open Lx (Tk)
open Tr
theorem flatMap_one {α β : Type} (f : α → β) : ∀ l : List α, (l.flatMap fun x => [f x]) = l.map f
  | [] => rfl
  | a :: l => by rw [List.flatMap_cons, flatMap_one f l]; rfl
theorem toks_own {F : Nat → Prop} {w : World} {v : Value} {l : List Tk} (h : Tr.Seq F w 9 1 cT (fun _ _ => True) v l) : w.ownsRow 0 9 1 v l.length (l.map fun t => .string t.1) := by
  obtain ⟨ps, h1, h2, h3, h4⟩ := h
  have : ps.flatMap cT = l.map fun t => .string t.1 := by
    rw [show cT = fun q : Value × Tk => [Value.string q.2.1] from rfl, flatMap_one, ← h1, List.map_map]; rfl
  rwa [this] at h2
theorem words_toks (l : List Tk) (v v' : Value) (w : World) (h : w.ownsRow 0 9 1 v l.length (l.map fun t => .string t.1)) (h' : w.ownsRow 0 9 1 v' l.length (l.map fun t => .string t.1)) :
    Calls Try.prog 25 #[v, v'] w fun e w' => e = .returned (.bool true) ∧ Below w.heap.size w w' := by
  have e1 : (l.map fun t : Tk => Value.string t.1) = (l.map Prod.fst).map Value.string := by rw [List.map_map]; rfl
  rw [e1] at h h'
  exact words_same (l.map Prod.fst) v v' w (by simpa using h) (by simpa using h')
/-- A grammar of the document's, its rows anywhere. -/
def RG (F : Nat → Prop) (w : World) (vL vR : Value) (g : Lx.Gr) : Prop := Tr.Seq F w 72 3 cLv (KLv F w) vL g.levels ∧ Tr.Seq F w 76 3 cRl (KRl F w) vR g.rules
theorem RG.move {F F' : Nat → Prop} {w w' : World} {vL vR : Value} {g : Lx.Gr} (h : RG F w vL vR g) (hs : ∀ b, F b → w'.heap[b]? = w.heap[b]?) (hF : ∀ b, F b → F' b) : RG F' w' vL vR g :=
  ⟨h.1.move hs hF fun _ _ h => lv_movable _ _ _ _ _ _ hs hF h, h.2.move hs hF fun _ _ h => rule_movable YR 9 _ _ _ _ _ _ hs hF h⟩
set_option maxHeartbeats 4000000 in
set_option maxRecDepth 100000 in
theorem same_any (F F' : Nat → Prop) (w : World) (vl vr vL vR : Value) (g : Lx.Gr) (hF : ∀ b, F b → b < w.heap.size) (hF' : ∀ b, F' b → b < w.heap.size) (h : GramIn F w vl vr g) (h' : RG F' w vL vR g) :
    Calls Try.prog 11 #[.agg #[vl, vr], .agg #[vL, vR]] w fun e w' => e = .returned (.bool true) ∧ Below w.heap.size w w' := by
  obtain ⟨la, lc, hvl, hlm⟩ := Seq.len h.1
  obtain ⟨ra, rc, hvr, hrm⟩ := Seq.len h.2
  obtain ⟨la', lc', hvL, -⟩ := Seq.len h'.1
  obtain ⟨ra', rc', hvR, -⟩ := Seq.len h'.2
  subst hvl hvr hvL hvR
  unfold maxLen at hlm hrm
  have kA := (Blk.new w #[.slice la g.levels.length lc, .slice ra g.rules.length rc] 25).alloc (.cells #[.slice la' g.levels.length lc', .slice ra' g.rules.length rc'] 32)
  have kB := Blk.new (w.alloc (.cells #[.slice la g.levels.length lc, .slice ra g.rules.length rc] 25)) #[.slice la' g.levels.length lc', .slice ra' g.rules.length rc'] 32
  rw [show (w.alloc (.cells #[.slice la g.levels.length lc, .slice ra g.rules.length rc] 25)).heap.size = w.heap.size + 1 by simp] at kB
  have b0 : Below w.heap.size w ((w.alloc (.cells #[.slice la g.levels.length lc, .slice ra g.rules.length rc] 25)).alloc (.cells #[.slice la' g.levels.length lc', .slice ra' g.rules.length rc'] 32)) := ((Below.refl _ _).alloc (Nat.le_refl _) _).alloc (by simp) _
  go_enter Try.func11, Try.ntmps11
  go_wp2_with fail
  go_loopg [5] g.levels.length (fun k i wr => ∃ j : Nat, j + k = g.levels.length ∧ i = .int .i64 j ∧ Below w.heap.size w wr ∧ Blk wr w.heap.size #[.slice la g.levels.length lc, .slice ra g.rules.length rc] 25 ∧ Blk wr (w.heap.size + 1) #[.slice la' g.levels.length lc', .slice ra' g.rules.length rc'] 32)
  case atStart => exact ⟨0, by omega, rfl, b0, kA, kB⟩
  case round =>
    clear kA kB b0
    revert wr
    intro wz hrel
    obtain ⟨j, hk, rfl, hb, kA, kB⟩ := hrel
    have a0 : wz.cell? ⟨w.heap.size, 0, none⟩ = some (.slice la g.levels.length lc) := kA.cell 0
    have a1 : wz.cell? ⟨w.heap.size, 1, none⟩ = some (.slice ra g.rules.length rc) := kA.cell 1
    have b0 : wz.cell? ⟨w.heap.size + 1, 0, none⟩ = some (.slice la' g.levels.length lc') := kB.cell 0
    have b1 : wz.cell? ⟨w.heap.size + 1, 1, none⟩ = some (.slice ra' g.rules.length rc') := kB.cell 1
    by_cases hlt : j < g.levels.length
    · have h1 : GramIn F wz _ _ g := GramIn.move h (fun b hb' => hb.block b (hF b hb')) (fun _ h => h)
      have h2 : RG F' wz _ _ g := RG.move h' (fun b hb' => hb.block b (hF' b hb')) (fun _ h => h)
      obtain ⟨n, cap, va, hv, hn, hi, hc⟩ := Seq.at h1.1 (fun _ => rfl) hlt
      obtain ⟨n', cap', vb, hv', hn', hi', hc'⟩ := Seq.at h2.1 (fun _ => rfl) hlt
      cases hv
      cases hv'
      generalize g.levels[j] = x at hi hc hi' hc'
      have o1 := toks_own hi
      obtain ⟨vT, vA, rfl, o2, o3, -, -⟩ := hi'
      obtain ⟨ta, tn, tc, rfl⟩ := own_form o1
      obtain ⟨ta', tn', tc', rfl⟩ := own_form o2
      have c0 : wz.cell? ⟨n, j * 2, none⟩ = some (.int .i64 (x.kind : Int)) := hc 0 (by decide)
      have c1 : wz.cell? ⟨n, j * 2 + 1, none⟩ = some (.slice ta tn tc) := hc 1 (by decide)
      have d0 : wz.cell? ⟨n', j * 3, none⟩ = some (.int .i64 (x.kind : Int)) := hc' 0 (by decide)
      have d1 : wz.cell? ⟨n', j * 3 + 1, none⟩ = some (.slice ta' tn' tc') := hc' 1 (by decide)
      have ln : n < w.heap.size := hF n hn
      have ln' : n' < w.heap.size := hF' n' hn'
      have hsz := hb.size
      have lA := kA.lt
      have lB := kB.lt
      clear h h' h1 h2 hc hc' hi
      go_wp2_with fail
      go_region_law (refine step_call rfl 25 #[.slice ta tn tc, .slice ta' tn' tc'] (by go_simp) (words_toks x.tokens _ _ _ o1.drew o2.drew) ?_; rintro e w1 ⟨rfl, hb1⟩; refine ⟨_, rfl, ?_⟩)
      all_goals
        have hb1' : Below wz.heap.size wz w1 := ⟨hb1.os, hb1.tape, hb1.output, hb1.size, hb1.block⟩
        have kA1 : Blk w1 w.heap.size #[.slice (some ⟨n, 0, none⟩) g.levels.length lc, .slice ra g.rules.length rc] 25 := (hb1'.block _ lA).trans kA
        have kB1 : Blk w1 (w.heap.size + 1) #[.slice (some ⟨n', 0, none⟩) g.levels.length lc', .slice ra' g.rules.length rc'] 32 := (hb1'.block _ lB).trans kB
        have c0' : w1.cell? ⟨n, j * 2, none⟩ = some (.int .i64 (x.kind : Int)) := (World.cell?_of_block (w := wz) (hb1'.block n (by omega))).trans c0
        have d0' : w1.cell? ⟨n', j * 3, none⟩ = some (.int .i64 (x.kind : Int)) := (World.cell?_of_block (w := wz) (hb1'.block n' (by omega))).trans d0
        have a0' : w1.cell? ⟨w.heap.size, 0, none⟩ = some (.slice (some ⟨n, 0, none⟩) g.levels.length lc) := kA1.cell 0
        have b0' : w1.cell? ⟨w.heap.size + 1, 0, none⟩ = some (.slice (some ⟨n', 0, none⟩) g.levels.length lc') := kB1.cell 0
        have hb2 : Below w.heap.size w w1 := hb.trans (hb1'.mono hsz)
        clear hb1 hb1' c0 c1 d0 d1 a0 a1 b0 b1 kA kB o1 o2 o3
        go_wp2_with fail
        go_quiet (fail)
        go_wp2_with fail
        go_roundg (g.levels.length - (j + 1))
        case measure => omega
        case rel => exact ⟨j + 1, by omega, by go_num, ⟨hb2.os, hb2.tape, hb2.output, hb2.size, hb2.block⟩, kA1, kB1⟩
    · go_wp2_with fail
      go_loopg [7] g.rules.length (fun k i wr => ∃ j : Nat, j + k = g.rules.length ∧ i = .int .i64 j ∧ Below w.heap.size w wr ∧ Blk wr w.heap.size #[.slice la g.levels.length lc, .slice ra g.rules.length rc] 25 ∧ Blk wr (w.heap.size + 1) #[.slice la' g.levels.length lc', .slice ra' g.rules.length rc'] 32)
      case atStart => exact ⟨0, by omega, rfl, hb, kA, kB⟩
      case round =>
        clear kA kB a0 a1 b0 b1 hb
        obtain ⟨j, hk, rfl, hb, kA, kB⟩ := hrel
        have a1 : wr.cell? ⟨w.heap.size, 1, none⟩ = some (.slice ra g.rules.length rc) := kA.cell 1
        have b1 : wr.cell? ⟨w.heap.size + 1, 1, none⟩ = some (.slice ra' g.rules.length rc') := kB.cell 1
        by_cases hlt : j < g.rules.length
        · have h1 : GramIn F wr _ _ g := GramIn.move h (fun b hb' => hb.block b (hF b hb')) (fun _ h => h)
          have h2 : RG F' wr _ _ g := RG.move h' (fun b hb' => hb.block b (hF' b hb')) (fun _ h => h)
          obtain ⟨n, cap, va, hv, hn, hi, hc⟩ := Seq.at h1.2 (fun _ => rfl) hlt
          obtain ⟨n', cap', va', hv', hn', hi', hc'⟩ := Seq.at h2.2 (fun _ => rfl) hlt
          cases hv
          cases hv'
          generalize g.rules[j] = x at hi hc hi' hc'
          obtain ⟨ta, tn, tc, hva⟩ := AltsIn.form hi
          obtain ⟨ta', tn', tc', hva'⟩ := AltsIn.form hi'
          subst hva hva'
          have c0 : wr.cell? ⟨n, j * 2, none⟩ = some (.string x.name) := hc 0 (by decide)
          have c1 : wr.cell? ⟨n, j * 2 + 1, none⟩ = some (.slice ta tn tc) := hc 1 (by decide)
          have d0 : wr.cell? ⟨n', j * 3, none⟩ = some (.string x.name) := hc' 0 (by decide)
          have d1 : wr.cell? ⟨n', j * 3 + 1, none⟩ = some (.slice ta' tn' tc') := hc' 1 (by decide)
          have ln : n < w.heap.size := hF n hn
          have ln' : n' < w.heap.size := hF' n' hn'
          have hsz := hb.size
          have lA := kA.lt
          have lB := kB.lt
          have hi1 : AltsIn YP 9 F wr.drew _ x.alts := AltsIn.move (fun _ _ => rfl) (fun _ h => h) hi
          have hi2 : AltsIn YR 9 F' wr.drew _ x.alts := AltsIn.move (fun _ _ => rfl) (fun _ h => h) hi'
          clear h h' h1 h2 hc hc' hi hi'
          go_wp2_with fail
          go_region_law (refine step_call rfl 26 #[.slice ta tn tc, .slice ta' tn' tc'] (by go_simp) (same_at 9 F F' _ _ _ x.alts (fun b hb' => Nat.lt_of_lt_of_le (hF b hb') hsz) (fun b hb' => Nat.lt_of_lt_of_le (hF' b hb') hsz) hi1 hi2) ?_; rintro e w1 ⟨rfl, hb1⟩; refine ⟨_, rfl, ?_⟩)
          all_goals
            have hb1' : Below wr.heap.size wr w1 := ⟨hb1.os, hb1.tape, hb1.output, hb1.size, hb1.block⟩
            have kA1 : Blk w1 w.heap.size #[.slice la g.levels.length lc, .slice (some ⟨n, 0, none⟩) g.rules.length rc] 25 := (hb1'.block _ lA).trans kA
            have kB1 : Blk w1 (w.heap.size + 1) #[.slice la' g.levels.length lc', .slice (some ⟨n', 0, none⟩) g.rules.length rc'] 32 := (hb1'.block _ lB).trans kB
            have c0' : w1.cell? ⟨n, j * 2, none⟩ = some (.string x.name) := (World.cell?_of_block (w := wr) (hb1'.block n (by omega))).trans c0
            have d0' : w1.cell? ⟨n', j * 3, none⟩ = some (.string x.name) := (World.cell?_of_block (w := wr) (hb1'.block n' (by omega))).trans d0
            have a1' : w1.cell? ⟨w.heap.size, 1, none⟩ = some (.slice (some ⟨n, 0, none⟩) g.rules.length rc) := kA1.cell 1
            have b1' : w1.cell? ⟨w.heap.size + 1, 1, none⟩ = some (.slice (some ⟨n', 0, none⟩) g.rules.length rc') := kB1.cell 1
            have hb2 : Below w.heap.size w w1 := hb.trans (hb1'.mono hsz)
            clear hb1 hb1' c0 c1 d0 d1 a1 b1 kA kB hi1 hi2
            go_wp2_with fail
            go_quiet (fail)
            go_wp2_with fail
            go_roundg (g.rules.length - (j + 1))
            case measure => omega
            case rel => exact ⟨j + 1, by omega, by go_num, ⟨hb2.os, hb2.tape, hb2.output, hb2.size, hb2.block⟩, kA1, kB1⟩
        · go_wp2_with fail
          go_ret
          exact ⟨rfl, hb⟩
end Go.Proofs.Ytonkcljapkeidaa

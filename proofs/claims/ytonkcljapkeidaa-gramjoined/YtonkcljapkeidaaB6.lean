import Derived.Test.YtonkcljapkeidaaB5
import Derived.Recover
import Derived.RegionTactic
namespace Go.Proofs.Ytonkcljapkeidaa
open Go.RowKit
open Lx (Tk)
open Tr
theorem assert60 (n a : Int) (w : World) : (Instr.typeAssert (.iface 60 (.agg #[.int .i64 n, .int .i64 a])) 20 60 true).run Try.prog w = .ok (.tuple #[.agg #[.int .i64 n, .int .i64 a], .bool true]) w := by
  simp [Instr.typeAssert, run_underlying Try.underlying60, go_sem, Result.andThen]
set_option maxHeartbeats 1000000 in
set_option maxRecDepth 100000 in
theorem endingOf_any (n a : Int) (w : World) :
    Calls Try.prog 22 #[.iface 60 (.agg #[.int .i64 n, .int .i64 a])] w fun e w' => e = .returned (.agg #[.int .i64 n, .int .i64 a]) ∧ Below w.heap.size w w' := by
  have hta := assert60
  go_enter Try.func22, Try.ntmps22
  go_wp2
  refine bodyPost_ret (v := .agg #[.int .i64 n, .int .i64 a]) (by simp [results, Try.results22, go_sem]) rfl ⟨rfl, ?_⟩
  exact ((Below.refl _ _).alloc (Nat.le_refl _) _).alloc (by simp) _
theorem catch_facts {B : Nat} (n a x y : Int) {w w1 : World} (hb : Below w.heap.size w w1) (hB : B + 2 < w.heap.size) (kg : Blk w1 B #[.slice none 0 0, .slice none 0 0] 25) (ke : Blk w1 (B + 1) #[.int .i64 x] 26) (ka : Blk w1 (B + 2) #[.int .i64 y] 3) :
    Below B w (((((w1.setCell ⟨B, 0, none⟩ (.slice none 0 0)).setCell ⟨B, 1, none⟩ (.slice none 0 0)).setCell ⟨B + 1, 0, none⟩ (.int .i64 n)).setCell ⟨B + 2, 0, none⟩ (.int .i64 a)).alloc (.cells #[.int .i64 n, .int .i64 a] 60)).drew ∧
    Blk (((((w1.setCell ⟨B, 0, none⟩ (.slice none 0 0)).setCell ⟨B, 1, none⟩ (.slice none 0 0)).setCell ⟨B + 1, 0, none⟩ (.int .i64 n)).setCell ⟨B + 2, 0, none⟩ (.int .i64 a)).alloc (.cells #[.int .i64 n, .int .i64 a] 60)).drew B #[.slice none 0 0, .slice none 0 0] 25 ∧
    Blk (((((w1.setCell ⟨B, 0, none⟩ (.slice none 0 0)).setCell ⟨B, 1, none⟩ (.slice none 0 0)).setCell ⟨B + 1, 0, none⟩ (.int .i64 n)).setCell ⟨B + 2, 0, none⟩ (.int .i64 a)).alloc (.cells #[.int .i64 n, .int .i64 a] 60)).drew (B + 1) #[.int .i64 n] 26 ∧
    Blk (((((w1.setCell ⟨B, 0, none⟩ (.slice none 0 0)).setCell ⟨B, 1, none⟩ (.slice none 0 0)).setCell ⟨B + 1, 0, none⟩ (.int .i64 n)).setCell ⟨B + 2, 0, none⟩ (.int .i64 a)).alloc (.cells #[.int .i64 n, .int .i64 a] 60)).drew (B + 2) #[.int .i64 a] 3 := by
  have hs := hb.size
  have b1 := hb.mono (B' := B) (by omega)
  have b2 := (((b1.setCell (p := ⟨B, 0, none⟩) (Nat.le_refl _) (.slice none 0 0)).setCell (p := ⟨B, 1, none⟩) (Nat.le_refl _) (.slice none 0 0)).setCell (p := ⟨B + 1, 0, none⟩) (by simp) (.int .i64 n)).setCell (p := ⟨B + 2, 0, none⟩) (by simp) (.int .i64 a)
  refine ⟨(b2.alloc (by have := b2.size; omega) _).drew, ?_, ?_, ?_⟩
  · exact (((((kg.set 0 (.slice none 0 0)).set 1 (.slice none 0 0)).other (b' := B + 1) (i := 0) (by omega) (.int .i64 n)).other (b' := B + 2) (i := 0) (by omega) (.int .i64 a)).alloc (.cells #[.int .i64 n, .int .i64 a] 60)).drew
  · exact (((((ke.other (b' := B) (i := 0) (by omega) (.slice none 0 0)).other (b' := B) (i := 1) (by omega) (.slice none 0 0)).set 0 (.int .i64 n)).other (b' := B + 2) (i := 0) (by omega) (.int .i64 a)).alloc (.cells #[.int .i64 n, .int .i64 a] 60)).drew
  · exact (((((ka.other (b' := B) (i := 0) (by omega) (.slice none 0 0)).other (b' := B) (i := 1) (by omega) (.slice none 0 0)).other (b' := B + 1) (i := 0) (by omega) (.int .i64 n)).set 0 (.int .i64 a)).alloc (.cells #[.int .i64 n, .int .i64 a] 60)).drew
set_option maxHeartbeats 1000000 in
set_option maxRecDepth 100000 in
theorem catch_panicking (B : Nat) (n a x y : Int) (older : List PanicEntry) (w : World) (hB : B + 2 < w.heap.size) (kg : Blk w B #[.slice none 0 0, .slice none 0 0] 25) (ke : Blk w (B + 1) #[.int .i64 x] 26) (ka : Blk w (B + 2) #[.int .i64 y] 3) :
    CallsD Try.prog 21 #[.pointer (some ⟨B, 0, none⟩), .pointer (some ⟨B + 1, 0, none⟩), .pointer (some ⟨B + 2, 0, none⟩)] (.panicking ({ v := .iface 60 (.agg #[.int .i64 n, .int .i64 a]), recovered := false } :: older)) w fun e u' w' =>
      e = .returned (.tuple #[]) ∧ u' = .panicking ({ v := .iface 60 (.agg #[.int .i64 n, .int .i64 a]), recovered := true } :: older) ∧ Below B w w' ∧ Blk w' B #[.slice none 0 0, .slice none 0 0] 25 ∧ Blk w' (B + 1) #[.int .i64 n] 26 ∧ Blk w' (B + 2) #[.int .i64 a] 3 := by
  refine callsD_of_wpS Try.func21 rfl fun c₀ cs hu => ?_
  apply wpS_seq
  apply wpS_region
  simp [wpOpsS, go_sem, recoverD, hu, Try.ntmps21, Exit.thenS]
  refine wpS_of_wp ?_
  go_wp2_with (go_at_call 22; refine (endingOf_any n a _).mono ?_; rintro e w1 ⟨rfl, hb⟩)
  have G := grown_of_below hb none
  have kg1 := kg.grown G (by simp)
  have ke1 := ke.grown G (by simp)
  have ka1 := ka.grown G (by simp)
  have g0 : w1.cell? ⟨B, 0, none⟩ = some (.slice none 0 0) := kg1.cell 0
  have g1 : w1.cell? ⟨B, 1, none⟩ = some (.slice none 0 0) := kg1.cell 1
  have e0 : w1.cell? ⟨B + 1, 0, none⟩ = some (.int .i64 x) := ke1.cell 0
  have a0 : w1.cell? ⟨B + 2, 0, none⟩ = some (.int .i64 y) := ka1.cell 0
  have fg : ∀ i, w1.frozen? ⟨B, i, none⟩ = false := kg1.frozen
  have fe : ∀ i, w1.frozen? ⟨B + 1, i, none⟩ = false := ke1.frozen
  have fa : ∀ i, w1.frozen? ⟨B + 2, i, none⟩ = false := ka1.frozen
  have hs : w.heap.size ≤ w1.heap.size := hb.size
  have hs0 : B < w1.heap.size := by omega
  have hs1 : B + 1 < w1.heap.size := by omega
  have hs2 : B + 2 < w1.heap.size := by omega
  go_region
  all_goals
    exact ⟨rfl, _, rfl, .tuple #[], results_none rfl _ _ _, rfl, rfl, catch_facts n a x y hb hB kg1 ke1 ka1⟩
set_option maxHeartbeats 1000000 in
set_option maxRecDepth 100000 in
theorem catch_idle (g e a : Addr) (w : World) :
    CallsD Try.prog 21 #[.pointer (some g), .pointer (some e), .pointer (some a)] .returning w fun e u' w' => e = .returned (.tuple #[]) ∧ u' = .returning ∧ w' = w := by
  refine callsD_of_wpS Try.func21 rfl fun c₀ cs hu => ?_
  apply wpS_seq
  apply wpS_region
  simp [wpOpsS, go_sem, recoverD, hu, Try.ntmps21, Exit.thenS]
  refine wpS_of_wp ?_
  go_wp2_with fail
  cases c₀
  simp only at hu
  subst hu
  refine ⟨rfl, _, rfl, .tuple #[], results_none rfl _ _ _, rfl, rfl, rfl⟩
end Go.Proofs.Ytonkcljapkeidaa

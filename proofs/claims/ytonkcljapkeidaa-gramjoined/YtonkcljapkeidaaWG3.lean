import Derived.Test.YtonkcljapkeidaaWG2
namespace Go.Proofs.Ytonkcljapkeidaa
open Go.RowKit
open Lx (Tk)
open Tr
theorem rread_any (s : ByteArray) (w : World) :
    Calls Try.prog 18 #[.string s] w (REnds s (w.heap.size + 1) 0 (RVGram w.heap.size (w.heap.size + 1)) (XGram s (w.heap.size + 1)) w (.slice none 0 0) (rread s)) := by
  by_cases h : 2000 < s.size
  · exact rread_long s w h
  · exact rread_short s w h
/-- How the document's Parse ends. -/
def RParseEnds (s : ByteArray) (w : World) (e : Ending) (w' : World) : Prop :=
  ∃ vL vR sgx, ∃ n a : Nat, e = .returned (.tuple #[.agg #[vL, vR], .int .i64 (n : Int), .int .i64 (a : Int)]) ∧ Mv (w.heap.size + 1 + 1) (.slice none 0 0) w w' ∧
    match rread s with
    | .ok (g, _) => n = 0 ∧ a = 0 ∧ RGramIn w.heap.size sgx w' vL vR g
    | .error (m, b) => n = m ∧ a = b ∧ vL = .slice none 0 0 ∧ vR = .slice none 0 0
set_option maxHeartbeats 1000000 in
set_option maxRecDepth 100000 in
theorem rparse_any (s : ByteArray) (w : World) : Calls Try.prog 10 #[.string s] w (RParseEnds s w) := by
  have hu : (w.alloc (.cells #[.slice none 0 0, .slice none 0 0] 32)).heap.size = w.heap.size + 1 := by simp
  have R := rread_any s (w.alloc (.cells #[.slice none 0 0, .slice none 0 0] 32))
  rw [hu] at R
  have kB := Blk.new w #[.slice none 0 0, .slice none 0 0] 32
  have M0 := (Mv.refl (w.heap.size + 1 + 1) (.slice none 0 0) w).alloc (.cells #[.slice none 0 0, .slice none 0 0] 32)
  go_enter Try.func10, Try.ntmps10
  go_wp2_with fail
  refine R.mono ?_
  intro e w1 he
  cases hr : rread s with
  | error x =>
    obtain ⟨n, a⟩ := x
    obtain ⟨v1, sg1, sl1, rfl, m1, x1, hx1, xa, xk, xc, xa', xk', xc', rfl, -⟩ := he.err hr
    have HR : Hid (rread s = .error (n, a)) := hr
    clear hr he R
    have kB1 := kB.mv m1 (by omega) (by simp [Value.ownBlock])
    have M1 := M0.trans (Nx.refl _ _) m1
    obtain ⟨ii, WW, kqx⟩ := hx1.blk
    have lq := kqx.lt
    have lB := kB1.lt
    have c4 : w1.cell? ⟨w.heap.size + 1 + 1, 4, none⟩ = some (.int .i64 (n : Int)) := kqx.cell 4
    have c5 : w1.cell? ⟨w.heap.size + 1 + 1, 5, none⟩ = some (.int .i64 (a : Int)) := kqx.cell 5
    have h0 : ((n : Int) == 0) = false := beq_eq_false_iff_ne.2 (by have := hx1.pos; omega)
    have e0 : w1.cell? ⟨w.heap.size, 0, none⟩ = some (.slice none 0 0) := kB1.cell 0
    have e1 : w1.cell? ⟨w.heap.size, 1, none⟩ = some (.slice none 0 0) := kB1.cell 1
    have ff : ∀ i, w1.frozen? ⟨w.heap.size, i, none⟩ = false := kB1.frozen
    have kB9 := ((kB1.set 0 (.slice none 0 0)).set 1 (.slice none 0 0)).alloc (.cells #[.slice xa xk xc, .slice xa' xk' xc'] 32)
    have y0 : (((w1.setCell ⟨w.heap.size, 0, none⟩ (.slice none 0 0)).setCell ⟨w.heap.size, 1, none⟩ (.slice none 0 0)).alloc (.cells #[.slice xa xk xc, .slice xa' xk' xc'] 32)).cell? ⟨w.heap.size, 0, none⟩ = some (.slice none 0 0) := kB9.cell 0
    have y1 : (((w1.setCell ⟨w.heap.size, 0, none⟩ (.slice none 0 0)).setCell ⟨w.heap.size, 1, none⟩ (.slice none 0 0)).alloc (.cells #[.slice xa xk xc, .slice xa' xk' xc'] 32)).cell? ⟨w.heap.size, 1, none⟩ = some (.slice none 0 0) := kB9.cell 1
    go_wp2_with fail
    go_region
    all_goals
      go_wp2_with fail
      refine bodyPost_ret (v := .tuple #[.agg #[.slice none 0 0, .slice none 0 0], .int .i64 (n : Int), .int .i64 (a : Int)]) (by simp [results, Try.results10, go_sem, y0, y1]) rfl ?_
      refine ⟨_, _, sg1, n, a, rfl, ?_, ?_⟩
      · first
          | exact (((M1.new (Nat.le_refl _) _ _).new (Nat.le_refl _) _ _).alloc _).drew
          | exact (((M1.alloc _).new (Nat.le_refl _) _ _).new (Nat.le_refl _) _ _).drew
          | exact (((M1.alloc _).drew).new (Nat.le_refl _) _ _).new (Nat.le_refl _) _ _
          | exact (((M1.new (Nat.le_refl _) _ _).new (Nat.le_refl _) _ _).drew).alloc _
      · rw [HR.out]; exact ⟨rfl, rfl, rfl, rfl⟩
  | ok x =>
    obtain ⟨g, ts'⟩ := x
    obtain ⟨v1, sg1, sl1, rfl, m1, x1, hr1, vL, vR, rfl, hg⟩ := he.ok hr
    have HR : Hid (rread s = .ok (g, ts')) := hr
    clear hr he R
    obtain ⟨la, lk, lc, rfl⟩ := Seq.form hg.1
    obtain ⟨ra, rk, rc, rfl⟩ := Seq.form hg.2
    have kB1 := kB.mv m1 (by omega) (by simp [Value.ownBlock])
    have M1 := M0.trans (Nx.refl _ _) m1
    have c4 : w1.cell? ⟨w.heap.size + 1 + 1, 4, none⟩ = some (.int .i64 0) := hr1.blk.cell 4
    have lq := hr1.lt
    have e0 : w1.cell? ⟨w.heap.size, 0, none⟩ = some (.slice none 0 0) := kB1.cell 0
    have e1 : w1.cell? ⟨w.heap.size, 1, none⟩ = some (.slice none 0 0) := kB1.cell 1
    have ff : ∀ i, w1.frozen? ⟨w.heap.size, i, none⟩ = false := kB1.frozen
    have lB : w.heap.size < w1.heap.size := by have := m1.size; rw [hu] at this; omega
    have kB9 := ((kB1.set 0 (.slice la lk lc)).set 1 (.slice ra rk rc)).alloc (.cells #[.slice la lk lc, .slice ra rk rc] 32)
    have z0 : (((w1.setCell ⟨w.heap.size, 0, none⟩ (.slice la lk lc)).setCell ⟨w.heap.size, 1, none⟩ (.slice ra rk rc)).alloc (.cells #[.slice la lk lc, .slice ra rk rc] 32)).cell? ⟨w.heap.size, 0, none⟩ = some (.slice la lk lc) := kB9.cell 0
    have z1 : (((w1.setCell ⟨w.heap.size, 0, none⟩ (.slice la lk lc)).setCell ⟨w.heap.size, 1, none⟩ (.slice ra rk rc)).alloc (.cells #[.slice la lk lc, .slice ra rk rc] 32)).cell? ⟨w.heap.size, 1, none⟩ = some (.slice ra rk rc) := kB9.cell 1
    go_wp2_with fail
    refine bodyPost_ret (v := .tuple #[.agg #[.slice la lk lc, .slice ra rk rc], .int .i64 0, .int .i64 0]) (by simp [results, Try.results10, go_sem, z0, z1]) rfl ?_
    refine ⟨_, _, sg1, 0, 0, rfl, ((M1.new (Nat.le_refl _) _ _).new (Nat.le_refl _) _ _).alloc _, ?_⟩
    rw [HR.out]
    refine ⟨rfl, rfl, ?_, ?_⟩
    · refine Seq.move hg.1 (fun b hb => ?_) (fun b hb => ⟨by have := hb.1; omega, by have := hb.2.1; simp [World.setCell]; omega, hb.2.2⟩) (fun v x hk => lv_movable _ _ _ _ v x (fun b hb => ?_) (fun b hb => ⟨by have := hb.1; omega, by have := hb.2.1; simp [World.setCell]; omega, hb.2.2⟩) hk)
      all_goals
        have hbb : b ≠ w.heap.size := by have := hb.1; omega
        rw [Below.heap_alloc _ _ _ (by have := hb.2.1; simpa [World.setCell] using this), Below.heap_setCell _ _ _ _ hbb, Below.heap_setCell _ _ _ _ hbb]
    · refine Seq.move hg.2 (fun b hb => ?_) (fun b hb => ⟨by have := hb.1; omega, by have := hb.2.1; simp [World.setCell]; omega, hb.2.2⟩) (fun v x hk => rule_movable YR 9 _ _ _ _ v x (fun b hb => ?_) (fun b hb => ⟨by have := hb.1; omega, by have := hb.2.1; simp [World.setCell]; omega, hb.2.2⟩) hk)
      all_goals
        have hbb : b ≠ w.heap.size := by have := hb.1; omega
        rw [Below.heap_alloc _ _ _ (by have := hb.2.1; simpa [World.setCell] using this), Below.heap_setCell _ _ _ _ hbb, Below.heap_setCell _ _ _ _ hbb]
end Go.Proofs.Ytonkcljapkeidaa

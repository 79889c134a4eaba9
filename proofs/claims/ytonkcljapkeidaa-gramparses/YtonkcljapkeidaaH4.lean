import Derived.Test.YtonkcljapkeidaaP4
import Derived.Test.YtonkcljapkeidaaH3
namespace Go.Proofs.Ytonkcljapkeidaa
open Go.RowKit
open Lx (Tk)
open Tr
def tOne : ByteArray := ⟨#[37, 108, 101, 102, 116, 32, 65, 59, 32, 101, 32, 61, 32, 101, 32, 65, 32, 101, 32, 124, 32, 40, 66, 32, 124, 32, 67, 41, 42, 59]⟩
def tTwo : ByteArray := ⟨#[101, 61, 66, 32, 59]⟩
def shape (r : Except (Nat × Nat) Lx.Gr) : Nat × Nat × List Nat :=
  match r with
  | .ok g => (g.levels.length, g.rules.length, g.rules.map fun r => r.alts.length)
  | .error e => (e.1 + 100, e.2, [])
theorem two_form : Lx.formL Lx.noText (Lx.lex tTwo) = [101, 32, 61, 32, 66, 59, 10] := by kernel_rfl
theorem two_shape : shape (Lx.parse tTwo) = (0, 1, [1]) := by kernel_rfl
theorem one_shape : shape (Lx.parse tOne) = (1, 1, [2]) := by kernel_rfl
theorem one_ok : ∃ g, Lx.parse tOne = .ok g ∧ g.levels.length = 1 ∧ ∃ r, g.rules = [r] ∧ r.alts.length = 2 := by
  have h := one_shape
  cases hp : Lx.parse tOne with
  | error e => rw [hp] at h; simp [shape] at h
  | ok g =>
    rw [hp] at h
    simp only [shape, Prod.mk.injEq] at h
    obtain ⟨h1, h2, h3⟩ := h
    match hg : g.rules, h2 with
    | [r], _ =>
      rw [hg] at h3
      exact ⟨g, rfl, h1, r, hg, by simpa using h3⟩
theorem two_ok : ∃ g, Lx.parse tTwo = .ok g := by
  have h := two_shape
  cases hp : Lx.parse tTwo with
  | error e => rw [hp] at h; simp [shape] at h
  | ok g => exact ⟨g, rfl⟩
theorem PrintEnds.ok {w w' : World} {s : ByteArray} {g : Lx.Gr} {e : Ending} (h : PrintEnds w s e w') (hr : Lx.parse s = .ok g) : e = .returned (.tuple #[.string ⟨(Lx.formL Lx.noText (Lx.lex s)).toArray⟩, .int .i64 0, .int .i64 0]) ∧ Below w.heap.size w w' := by
  unfold PrintEnds at h; rw [hr] at h; exact ⟨h.2, h.1⟩
theorem num_any (n : Int) (w : World) : Calls Try.prog 12 #[.int .i64 n] w fun e w' => e = .returned (.int .i64 n) ∧ w' = w := by
  go_enter Try.func12, Try.ntmps12
  go_wp2_with fail
  go_ret
  exact ⟨rfl, rfl⟩
set_option maxHeartbeats 2000000 in
set_option maxRecDepth 100000 in
theorem alive_any (w : World) : Calls Try.prog 13 #[] w fun e w' => e = .returned (.bool true) ∧ Below w.heap.size w w' := by
  obtain ⟨g, hp1, hl, r, hrs, ha⟩ := one_ok
  obtain ⟨g2, hp2⟩ := two_ok
  have HP2 : Hid (Lx.parse tTwo = .ok g2) := hp2
  have P1 := Parse_any tOne w (by decide)
  clear hp2
  go_enter Try.func13, Try.ntmps13
  go_wp2_with fail
  refine P1.mono ?_
  intro e w1 he
  obtain ⟨hb1, ⟨g', vl, vr, hr, rfl, hg⟩ | ⟨n, a, hn, hr, rfl⟩⟩ := he.out
  case inr => rw [hp1] at hr; cases hr
  rw [hp1] at hr
  cases hr
  obtain ⟨la, lc, rfl, -⟩ := Seq.len hg.1
  obtain ⟨n, cap, va, hv, hn, hk, hc⟩ := Seq.at hg.2 (fun _ => rfl) (j := 0) (by rw [hrs]; simp)
  subst hv
  obtain ⟨aa, ac, rfl, -⟩ := AltsIn.len hk
  have e0 : g.rules[0]'(by rw [hrs]; simp) = r := by simp [hrs]
  rw [e0] at hc
  have c1 : w1.cell? ⟨n, 1, none⟩ = some (.slice aa 2 ac) := by
    have := hc 1 (by decide)
    simpa [cR, ha] using this
  rw [hl, hrs]
  simp only [List.length_cons, List.length_nil]
  have hn1 : n < w1.heap.size := hn.2
  have kg := Blk.new w1 #[.slice la 1 lc, .slice (some ⟨n, 0, none⟩) 1 cap] 25
  have hbA := hb1.alloc hb1.size (.cells #[.slice la 1 lc, .slice (some ⟨n, 0, none⟩) 1 cap] 25)
  have P2 := Print_any tTwo (w1.alloc (.cells #[.slice la 1 lc, .slice (some ⟨n, 0, none⟩) 1 cap] 25)) (by decide)
  clear hg hc hk he P1
  go_wp2_with fail
  refine P2.mono ?_
  intro e w2 he
  obtain ⟨rfl, hb2⟩ := he.ok HP2.out
  have kg2 : Blk w2 w1.heap.size _ 25 := (hb2.block _ (by simp)).trans kg
  have c2 : w2.cell? ⟨n, 1, none⟩ = some (.slice aa 2 ac) := by
    rw [World.cell?_of_block (w := w1) ((hb2.block n (by simp; omega)).trans (Below.heap_alloc _ _ _ hn1))]; exact c1
  have g0 : w2.cell? ⟨w1.heap.size, 0, none⟩ = some (.slice la 1 lc) := kg2.cell 0
  have g1 : w2.cell? ⟨w1.heap.size, 1, none⟩ = some (.slice (some ⟨n, 0, none⟩) 1 cap) := kg2.cell 1
  have hb3 : Below w.heap.size w w2 := hbA.trans (hb2.mono hbA.size)
  rw [two_form]
  clear he P2 c1 kg kg2
  go_wp2_with (go_at_call 12; refine (num_any _ _).mono ?_; rintro e w' ⟨rfl, hw'⟩; obtain rfl := hw'.symm)
  go_ret
  exact ⟨rfl, hb3⟩
end Go.Proofs.Ytonkcljapkeidaa

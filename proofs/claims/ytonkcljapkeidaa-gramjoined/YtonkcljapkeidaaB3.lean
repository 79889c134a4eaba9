import Derived.Test.YtonkcljapkeidaaB2
namespace Go.Proofs.Ytonkcljapkeidaa
open Go.RowKit
open Lx (Tk)
open Tr
def VRule (lo : Nat) (w' : World) (v : Value) (r : Lx.Rl) : Prop := ∃ va, v = .agg #[.string r.name, va] ∧ AltsIn YP 9 (In lo w'.heap.size) w' va r.alts
set_option maxHeartbeats 1000000 in
set_option maxRecDepth 100000 in
theorem rule_rd (sb cap : Nat) (L : List Tk) (p : Nat) (w : World) (ts : List Tk) (h : Rd sb cap L p w ts 0) :
    Calls Try.prog 38 #[.pointer (some ⟨p, 0, none⟩)] w (Ends sb cap L p 0 (VRule w.heap.size) w (Lx.pRule ts)) := by
  have hp := h.lt
  have hs := h.lts
  have h1 := h.alloc (.cells #[.string ⟨#[]⟩, .slice none 0 0] 55)
  have kB := Blk.new w #[.string ⟨#[]⟩, .slice none 0 0] 55
  have G0 := grown_alloc w (.cells #[.string ⟨#[]⟩, .slice none 0 0] 55) (some p)
  go_enter Try.func38, Try.ntmps38
  go_wp2_with fail
  refine (name_rd h1).mono ?_
  intro e w1 he
  cases hr1 : Lx.pWord Lx.isName ts with
  | error x =>
    obtain ⟨n, a⟩ := x
    obtain ⟨rfl, hg1⟩ := he.err hr1
    exact ⟨rfl, Ends.no (by unfold Lx.pRule; rw [hr1]) (grown_trans G0 hg1)⟩
  | ok x =>
    obtain ⟨b, ts1⟩ := x
    obtain ⟨v, rfl, hg1, hrd1, rfl⟩ := he.ok hr1
    have HR1 : Hid _ := hr1
    clear hr1 he
    have G1 := grown_trans G0 hg1
    have kB1 := kB.grown hg1 (by simp; omega)
    have s1 := G1.size
    have sB := kB1.lt
    have h2 := hrd1.alloc (.cells #[.string b, .slice none 0 0] 55)
    have kC := Blk.new w1 #[.string b, .slice none 0 0] 55
    have kBA := kB1.alloc (.cells #[.string b, .slice none 0 0] 55)
    have GA := grown_trans G1 (grown_alloc w1 (.cells #[.string b, .slice none 0 0] 55) (some p))
    go_wp2_with fail
    refine (mustPass_rd h2 Lx.tEq (by decide)).mono ?_
    intro e w2 he
    cases hr2 : Lx.pMust Lx.tEq ts1 with
    | error x =>
      obtain ⟨n, a⟩ := x
      obtain ⟨rfl, hg2⟩ := he.err hr2
      exact ⟨rfl, Ends.no (by unfold Lx.pRule; simp only [HR1.out, hr2]) (grown_trans GA hg2)⟩
    | ok x =>
      obtain ⟨u, ts2⟩ := x
      obtain ⟨v, rfl, hg2, hrd2, rfl⟩ := he.ok hr2
      have HR2 : Hid _ := hr2
      clear hr2 he
      have G2 := grown_trans GA hg2
      have kC2 := kC.grown hg2 (by simp; omega)
      have kB2 := kBA.grown hg2 (by simp; omega)
      have sC := kC2.lt
      go_wp2_with fail
      refine (alts_at 8 (Nat.le_refl _) sb cap L p w2 ts2 0 rfl hrd2).mono ?_
      intro e w3 he
      cases hr3 : Lx.pAlts 8 ts2 with
      | error x =>
        obtain ⟨n, a⟩ := x
        obtain ⟨rfl, hg3⟩ := he.err hr3
        exact ⟨rfl, Ends.no (by unfold Lx.pRule; simp only [HR1.out, HR2.out, hr3]) (grown_trans G2 hg3)⟩
      | ok x =>
        obtain ⟨l, ts3⟩ := x
        obtain ⟨v, rfl, hg3, hrd3, hv⟩ := he.ok hr3
        obtain ⟨va, vk, vc, rfl⟩ := AltsIn.form hv
        have HR3 : Hid _ := hr3
        clear hr3 he
        have G3 := grown_trans G2 hg3
        have kC3 := kC2.grown hg3 (by simp; omega)
        have kB3 := kB2.grown hg3 (by simp; omega)
        have c1 : w3.cell? ⟨w1.heap.size, 1, none⟩ = some (.slice none 0 0) := kC3.cell 1
        have f1 : ∀ i, w3.frozen? ⟨w1.heap.size, i, none⟩ = false := kC3.frozen
        have h4 := hrd3.setOther (b := w1.heap.size) 1 (.slice va vk vc) (by omega) (by omega)
        have kC4 := kC3.set 1 (.slice va vk vc)
        have kB4 := kB3.other (b' := w1.heap.size) (i := 1) (by omega) (.slice va vk vc)
        have G4 := grown_new G3 (b := w1.heap.size) s1 1 (.slice va vk vc)
        have hv4 := VAlts.move (lo' := w2.heap.size) hv (Nat.le_refl _) (grown_set w3 w1.heap.size 1 (.slice va vk vc)) (fun k hk => by cases hk; omega)
        clear kC kBA kC2 kB2 kC3 kB3 hv
        go_wp2_with fail
        refine (mustPass_rd h4 Lx.tSemi (by decide)).mono ?_
        intro e w5 he
        cases hr5 : Lx.pMust Lx.tSemi ts3 with
        | error x =>
          obtain ⟨n, a⟩ := x
          obtain ⟨rfl, hg5⟩ := he.err hr5
          exact ⟨rfl, Ends.no (by unfold Lx.pRule; simp only [HR1.out, HR2.out, HR3.out, hr5]) (grown_trans G4 hg5)⟩
        | ok x =>
          obtain ⟨u', ts5⟩ := x
          obtain ⟨v, rfl, hg5, hrd5, rfl⟩ := he.ok hr5
          have HP : Hid (Lx.pRule ts = .ok (⟨b, l, Lx.pl ts⟩, ts5)) := by
            show _ = _; unfold Lx.pRule; simp only [HR1.out, HR2.out, HR3.out, hr5]
          clear hr5 he
          have kC5 := kC4.grown hg5 (by simp; omega)
          have kB5 := kB4.grown hg5 (by simp; omega)
          have d0 : w5.cell? ⟨w1.heap.size, 0, none⟩ = some (.string b) := kC5.cell 0
          have d1 : w5.cell? ⟨w1.heap.size, 1, none⟩ = some (.slice va vk vc) := kC5.cell 1
          have e0 : w5.cell? ⟨w.heap.size, 0, none⟩ = some (.string ⟨#[]⟩) := kB5.cell 0
          have e1 : w5.cell? ⟨w.heap.size, 1, none⟩ = some (.slice none 0 0) := kB5.cell 1
          have f2 : ∀ i, w5.frozen? ⟨w.heap.size, i, none⟩ = false := kB5.frozen
          have s2 := G2.size
          go_wp2_with fail
          refine bodyPost_ret (v := .agg #[.string b, .slice va vk vc]) (by simp [results, Try.results38, go_sem, e0, e1]) rfl ?_
          refine Ends.yes HP.out (grown_new (grown_new (grown_trans G4 hg5) (Nat.le_refl _) _ _) (Nat.le_refl _) _ _) ((hrd5.setOther _ _ (by omega) (by omega)).setOther _ _ (by omega) (by omega)) ⟨_, rfl, ?_⟩
          have m1 := hv4.move (Nat.le_refl _) hg5 (fun k hk => by cases hk; omega)
          have m2 := m1.move (Nat.le_refl _) (grown_set _ w.heap.size 0 (.string b)) (fun k hk => by cases hk; omega)
          exact m2.move s2 (grown_set _ w.heap.size 1 (.slice va vk vc)) (fun k hk => by cases hk; omega)
end Go.Proofs.Ytonkcljapkeidaa

import Derived.Test.YtonkcljapkeidaaA7
import Derived.Test.YtonkcljapkeidaaT1
import Derived.Deep.RegionHeld3
import Derived.Deep.LoopGhost
namespace Go.Proofs.Ytonkcljapkeidaa
open Go.RowKit
open Lx (Tk)
open Tr
/-- How the program's trees lie. -/
def YP : Lay := { eA := 84, sA := 2, cA := fun q => [q.1, .string q.2.2.1], eI := 86, sI := 4, cI := fun q => [.int .i64 (q.2.kind : Int), .string q.2.name, .int .u8 (q.2.mark : Int), q.1] }
def VAlts (d lo : Nat) (w' : World) (v : Value) (l : List Lx.Alt) : Prop := AltsIn YP d (In lo w'.heap.size) w' v l
def VItem (d lo : Nat) (w' : World) (v : Value) (it : Lx.It) : Prop := ∃ va, v = .agg #[.int .i64 (it.kind : Int), .string it.name, .int .u8 (it.mark : Int), va] ∧ AltsIn YP d (In lo w'.heap.size) w' va it.alts
def VAlt (d lo : Nat) (w' : World) (v : Value) (a : Lx.Alt) : Prop := ∃ vi, v = .agg #[vi, .string a.2.1] ∧ ItemsIn YP d (In lo w'.heap.size) w' vi a.1
def AltsSaid (d : Nat) : Prop := ∀ (sb cap : Nat) (L : List Tk) (p : Nat) (w : World) (ts : List Tk) (o : Int), o = 8 - (d : Int) → Rd sb cap L p w ts o →
  Calls Try.prog 56 #[.pointer (some ⟨p, 0, none⟩)] w (Ends sb cap L p o (VAlts (d + 1) w.heap.size) w (Lx.pAlts d ts))
def GroupSaid (d : Nat) : Prop := ∀ (sb cap : Nat) (L : List Tk) (p : Nat) (w : World) (ts : List Tk) (o : Int), o = 8 - (d : Int) → Rd sb cap L p w ts o → Lx.hd ts = Lx.tOpen →
  Calls Try.prog 77 #[.pointer (some ⟨p, 0, none⟩)] w (Ends sb cap L p o (VAlts d w.heap.size) w (Lx.pGroupAt d ts))
def ItemSaid (d : Nat) : Prop := ∀ (sb cap : Nat) (L : List Tk) (p : Nat) (w : World) (ts : List Tk) (o : Int), o = 8 - (d : Int) → Rd sb cap L p w ts o → Lx.seesItem ts = true →
  Calls Try.prog 75 #[.pointer (some ⟨p, 0, none⟩)] w (Ends sb cap L p o (VItem d w.heap.size) w (Lx.pItem (Lx.pGroupAt d) ts))
def AltSaid (d : Nat) : Prop := ∀ (sb cap : Nat) (L : List Tk) (p : Nat) (w : World) (ts : List Tk) (o : Int), o = 8 - (d : Int) → Rd sb cap L p w ts o →
  Calls Try.prog 68 #[.pointer (some ⟨p, 0, none⟩)] w (Ends sb cap L p o (VAlt d w.heap.size) w (Lx.pAlt (Lx.pGroupAt d) (d == 8) ts))

theorem VAlts.move {d lo lo' : Nat} {w w' : World} {v : Value} {l : List Lx.Alt} (h : VAlts d lo w v l) (hlo : lo' ≤ lo) {r : Option Nat} (hg : w.grownBy w' r) (hr : ∀ k, r = some k → k < lo) : VAlts d lo' w' v l :=
  AltsIn.move (fun b hb => hg.block b hb.2 fun e => by have := hr b e.symm; have := hb.1; omega) (fun b hb => ⟨Nat.le_trans hlo hb.1, Nat.lt_of_lt_of_le hb.2 hg.size⟩) h

set_option maxHeartbeats 400000 in
theorem group_zero : GroupSaid 0 := by
  intro sb cap L p w ts o ho h hd
  have hop := h.op
  have h8 : (o == 8) = true := beq_iff_eq.2 (by simpa using ho)
  have HO : Hid _ := ho
  have HD : Hid _ := hd
  clear ho hd
  go_enter Try.func77, Try.ntmps77
  go_wp2_with fail
  refine (throw_rd h 3).mono ?_
  rintro e w' ⟨rfl, hw⟩; obtain rfl := hw.symm
  go_wp2_with fail
  exact ⟨rfl, Ends.no rfl (grown_refl _ _)⟩
set_option maxHeartbeats 400000 in
theorem group_succ {d : Nat} (hd8 : d < 8) (HA : AltsSaid d) : GroupSaid (d + 1) := by
  intro sb cap L p w ts o ho h hd
  have hop := h.op
  have hfz := h.fz1
  have h8 : (o == 8) = false := beq_eq_false_iff_ne.2 (by omega)
  have hb0 : 0 ≤ o := by omega
  have hb1 : o ≤ 8 := by omega
  have HO : Hid (o + 1 = 8 - (d : Int)) := by show _ = _; omega
  have HD : Hid _ := hd
  have HP : Hid (Lx.pMust Lx.tOpen ts = .ok ((), ts.tail)) := if_pos hd
  clear ho hd
  have hR := h.reopen (o + 1)
  go_enter Try.func77, Try.ntmps77
  go_wp2_with fail
  refine (mustPass_rd hR Lx.tOpen (by decide)).mono ?_
  intro e w1 he
  obtain ⟨v, rfl, hg1, hr1, rfl⟩ := he.ok HP.out
  clear he
  go_wp2_with fail
  refine (HA sb cap L p _ _ _ HO.out hr1).mono ?_
  intro e w2 he
  have G1 := grown_trans (grown_set w p 1 (.int .i64 (o + 1))) hg1
  cases hr2 : Lx.pAlts d ts.tail with
  | error x =>
    obtain ⟨n, a⟩ := x
    obtain ⟨rfl, hg2⟩ := he.err hr2
    exact ⟨rfl, Ends.no (by simp only [Lx.pGroupAt, Lx.pGroup, hr2]) (grown_trans G1 hg2)⟩
  | ok x =>
    obtain ⟨l, ts2⟩ := x
    obtain ⟨v, rfl, hg2, hrd2, hv⟩ := he.ok hr2
    have HR2 : Hid _ := hr2
    clear hr2 he
    go_wp2_with fail
    refine (mustPass_rd hrd2 Lx.tShut (by decide)).mono ?_
    intro e w3 he
    have G2 := grown_trans G1 hg2
    cases hr3 : Lx.pMust Lx.tShut ts2 with
    | error x =>
      obtain ⟨n, a⟩ := x
      obtain ⟨rfl, hg3⟩ := he.err hr3
      exact ⟨rfl, Ends.no (by simp only [Lx.pGroupAt, Lx.pGroup, HR2.out, hr3]) (grown_trans G2 hg3)⟩
    | ok x =>
      obtain ⟨u, ts3⟩ := x
      obtain ⟨v', rfl, hg3, hrd3, rfl⟩ := he.ok hr3
      have HR3 : Hid _ := hr3
      clear hr3 he
      have G3 := grown_trans G2 hg3
      have hop3 := hrd3.op
      have hfz3 := hrd3.fz1
      go_wp2_with fail
      go_ret
      refine Ends.yes (x := l) (ts' := ts3) (by simp only [Lx.pGroupAt, Lx.pGroup, HR2.out, HR3.out]) (grown_trans G3 (grown_set w3 p 1 _)) (hrd3.reopen o) ?_
      have hl1 := G1.size
      have hp := h.lt
      exact (hv.move hl1 hg3 (fun k hk => by cases hk; omega)).move (Nat.le_refl _) (grown_set w3 p 1 _) (fun k hk => by cases hk; omega)
end Go.Proofs.Ytonkcljapkeidaa

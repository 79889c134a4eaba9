import Derived.Test.YtonkcljapkeidaaA8
namespace Go.Proofs.Ytonkcljapkeidaa
open Go.RowKit
open Lx (Tk)
open Tr
/-- Block b, whole. -/
def Blk (w : World) (b : Nat) (cs : Array Value) (e : Nat) : Prop := w.heap[b]? = some (.cells cs e (0, 0))
section
variable {w w' : World} {b : Nat} {cs : Array Value} {e : Nat}
theorem Blk.cell (h : Blk w b cs e) (i : Nat) : w.cell? ⟨b, i, none⟩ = cs[i]? := by
  unfold Blk at h; simp [World.cell?, h]
theorem Blk.frozen (h : Blk w b cs e) (i : Nat) : w.frozen? ⟨b, i, none⟩ = false := by
  unfold Blk at h; simp [World.frozen?, h]
theorem Blk.lt (h : Blk w b cs e) : b < w.heap.size := (Array.getElem?_eq_some_iff.1 h).1
theorem Blk.set (h : Blk w b cs e) (i : Nat) (v : Value) : Blk (w.setCell ⟨b, i, none⟩ v) b (cs.setIfInBounds i v) e := by
  unfold Blk at *
  simp [World.setCell, Array.getElem?_modify, h]
theorem Blk.other (h : Blk w b cs e) {b' i : Nat} (hb : b' ≠ b) (v : Value) : Blk (w.setCell ⟨b', i, none⟩ v) b cs e := by
  unfold Blk at *
  rw [Below.heap_setCell _ _ _ _ (Ne.symm hb)]; exact h
theorem Blk.alloc (h : Blk w b cs e) (o : Obj) : Blk (w.alloc o) b cs e := by
  have hl := h.lt
  unfold Blk at *
  rw [Below.heap_alloc _ _ _ hl]; exact h
theorem Blk.new (w : World) (cs : Array Value) (e : Nat) : Blk (w.alloc (.cells cs e)) w.heap.size cs e := heap_alloc_new w _
theorem Blk.grown (h : Blk w b cs e) {r : Option Nat} (hg : w.grownBy w' r) (hr : some b ≠ r) : Blk w' b cs e := by
  have hl := h.lt
  unfold Blk at *
  rw [hg.block b hl hr]; exact h
theorem grown_alloc (w : World) (o : Obj) (r : Option Nat) : w.grownBy (w.alloc o) r := World.grownBy_alloc w o r
end
theorem Rd.alloc {sb cap : Nat} {L : List Tk} {p : Nat} {w : World} {ts : List Tk} {o : Int} (h : Rd sb cap L p w ts o) (ob : Obj) : Rd sb cap L p (w.alloc ob) ts o :=
  h.grown (grown_alloc w ob none) (by simp) (by simp)
theorem Rd.setOther {sb cap : Nat} {L : List Tk} {p : Nat} {w : World} {ts : List Tk} {o : Int} (h : Rd sb cap L p w ts o) {b : Nat} (i : Nat) (v : Value) (hp : b ≠ p) (hs : b ≠ sb) : Rd sb cap L p (w.setCell ⟨b, i, none⟩ v) ts o :=
  h.grown (grown_set w b i v) (by simp; exact Ne.symm hp) (by simp; exact Ne.symm hs)

theorem grown_new {w u : World} {r : Option Nat} (h : w.grownBy u r) {b : Nat} (hb : w.heap.size ≤ b) (i : Nat) (v : Value) : w.grownBy (u.setCell ⟨b, i, none⟩ v) r :=
  ⟨h.os, h.tape, h.output, by have := h.size; simpa [World.setCell] using this, fun k hk hn => (Below.heap_setCell _ _ _ _ (fun e => by have e' : k = b := e; omega)).trans (h.block k hk hn)⟩
set_option maxHeartbeats 400000 in
theorem item_name {d : Nat} (sb cap : Nat) (L : List Tk) (p : Nat) (w : World) (ts : List Tk) (o : Int) (h : Rd sb cap L p w ts o) (hno : ¬ Lx.hd ts = Lx.tOpen) (hn : Lx.isName (Lx.hd ts) = true) :
    Calls Try.prog 75 #[.pointer (some ⟨p, 0, none⟩)] w (Ends sb cap L p o (VItem d w.heap.size) w (Lx.pItem (Lx.pGroupAt d) ts)) := by
  have hsz := h.hsz
  have HP : Hid (Lx.pItem (Lx.pGroupAt d) ts = .ok (⟨0, Lx.hd ts, (Lx.pMark ts.tail).1, [], Lx.pl ts⟩, (Lx.pMark ts.tail).2)) := by
    show _ = _; unfold Lx.pItem; rw [if_neg hno, if_pos hn]
  have HW : Hid (Lx.pWord Lx.isName ts = .ok (Lx.hd ts, ts.tail)) := if_pos hn
  have HN : Hid _ := hn
  have HO : Hid _ := hno
  clear hn hno
  have h2 := (h.alloc (.cells #[.int .i64 0, .string ⟨#[]⟩, .int .u8 0, .slice none 0 0] 86)).alloc (.cells #[.int .i64 0, .string ⟨#[]⟩, .int .u8 0, .slice none 0 0] 86)
  have kB := (Blk.new w #[.int .i64 0, .string ⟨#[]⟩, .int .u8 0, .slice none 0 0] 86).alloc (.cells #[.int .i64 0, .string ⟨#[]⟩, .int .u8 0, .slice none 0 0] 86)
  have kC := Blk.new (w.alloc (.cells #[.int .i64 0, .string ⟨#[]⟩, .int .u8 0, .slice none 0 0] 86)) #[.int .i64 0, .string ⟨#[]⟩, .int .u8 0, .slice none 0 0] 86
  have G0 := grown_trans (grown_alloc w (.cells #[.int .i64 0, .string ⟨#[]⟩, .int .u8 0, .slice none 0 0] 86) (some p)) (grown_alloc _ (.cells #[.int .i64 0, .string ⟨#[]⟩, .int .u8 0, .slice none 0 0] 86) (some p))
  rw [show (w.alloc (.cells #[.int .i64 0, .string ⟨#[]⟩, .int .u8 0, .slice none 0 0] 86)).heap.size = w.heap.size + 1 by simp] at kC
  have hp := h.lt
  have hs := h.lts
  go_enter Try.func75, Try.ntmps75
  go_wp2_with (first
    | (go_at_call 36; refine (ahead_rd h2).mono ?_; rintro e w' ⟨rfl, hw⟩; obtain rfl := hw.symm)
    | (go_at_call 39; refine (sees_rd h2 Lx.tOpen).mono ?_; rintro e w' ⟨rfl, hw⟩; obtain rfl := hw.symm; rw [decide_eq_false HO.out])
    | (go_at_call 66; refine (IsName_any _ _ hsz).mono ?_; rintro e w' ⟨rfl, hw⟩; obtain rfl := hw.symm; rw [HN.out]))
  refine (name_rd h2).mono ?_
  intro e w1 he
  obtain ⟨v, rfl, hg1, hr1, rfl⟩ := he.ok HW.out
  clear he
  have kB1 := kB.grown hg1 (by simp; omega)
  have kC1 := kC.grown hg1 (by simp; omega)
  have c0 : w1.cell? ⟨w.heap.size + 1, 0, none⟩ = some (.int .i64 0) := kC1.cell 0
  have c1 : w1.cell? ⟨w.heap.size + 1, 1, none⟩ = some (.string ⟨#[]⟩) := kC1.cell 1
  have f0 : ∀ i, w1.frozen? ⟨w.heap.size + 1, i, none⟩ = false := kC1.frozen
  have h3 := (hr1.setOther (b := w.heap.size + 1) 0 (.int .i64 0) (by omega) (by omega)).setOther (b := w.heap.size + 1) 1 (.string (Lx.hd ts)) (by omega) (by omega)
  have kB2 := (kB1.other (b' := w.heap.size + 1) (i := 0) (by omega) (.int .i64 0)).other (b' := w.heap.size + 1) (i := 1) (by omega) (.string (Lx.hd ts))
  have kC2 := (kC1.set 0 (.int .i64 0)).set 1 (.string (Lx.hd ts))
  have G1 := grown_trans G0 hg1
  clear kB1 kC1 kB kC
  go_wp2_with fail
  refine (mark_rd h3).mono ?_
  rintro e w2 ⟨rfl, hg2, hr2⟩
  have kB3 := kB2.grown hg2 (by simp; omega)
  have kC3 := kC2.grown hg2 (by simp; omega)
  have d0 : w2.cell? ⟨w.heap.size + 1, 0, none⟩ = some (.int .i64 0) := kC3.cell 0
  have d1 : w2.cell? ⟨w.heap.size + 1, 1, none⟩ = some (.string (Lx.hd ts)) := kC3.cell 1
  have d2 : w2.cell? ⟨w.heap.size + 1, 2, none⟩ = some (.int .u8 0) := kC3.cell 2
  have d3 : w2.cell? ⟨w.heap.size + 1, 3, none⟩ = some (.slice none 0 0) := kC3.cell 3
  have e0 : w2.cell? ⟨w.heap.size, 0, none⟩ = some (.int .i64 0) := kB3.cell 0
  have e1 : w2.cell? ⟨w.heap.size, 1, none⟩ = some (.string ⟨#[]⟩) := kB3.cell 1
  have e2 : w2.cell? ⟨w.heap.size, 2, none⟩ = some (.int .u8 0) := kB3.cell 2
  have e3 : w2.cell? ⟨w.heap.size, 3, none⟩ = some (.slice none 0 0) := kB3.cell 3
  have f1 : ∀ i, w2.frozen? ⟨w.heap.size + 1, i, none⟩ = false := kC3.frozen
  have f2 : ∀ i, w2.frozen? ⟨w.heap.size, i, none⟩ = false := kB3.frozen
  have G2 := grown_trans (grown_new (grown_new G1 (by omega) 0 (.int .i64 0)) (by omega) 1 (.string (Lx.hd ts))) hg2
  clear kB2 kC2 c0 c1 f0
  go_wp2_with fail
  refine bodyPost_ret (v := .agg #[.int .i64 0, .string (Lx.hd ts), .int .u8 ((Lx.pMark ts.tail).1 : Int), .slice none 0 0]) (by simp [results, Try.results75, go_sem, e0, e1, e2, e3]) rfl ?_
  refine Ends.yes HP.out (grown_new (grown_new (grown_new (grown_new (grown_new G2 (by omega) _ _) (Nat.le_refl _) _ _) (Nat.le_refl _) _ _) (Nat.le_refl _) _ _) (Nat.le_refl _) _ _) ?_ ⟨_, rfl, AltsIn.nil _ _ _ _⟩
  exact ((((hr2.setOther _ _ (by omega) (by omega)).setOther _ _ (by omega) (by omega)).setOther _ _ (by omega) (by omega)).setOther _ _ (by omega) (by omega)).setOther _ _ (by omega) (by omega)
set_option maxHeartbeats 400000 in
theorem item_token {d : Nat} (sb cap : Nat) (L : List Tk) (p : Nat) (w : World) (ts : List Tk) (o : Int) (h : Rd sb cap L p w ts o) (hno : ¬ Lx.hd ts = Lx.tOpen) (hnn : Lx.isName (Lx.hd ts) = false) (hn : Lx.isToken (Lx.hd ts) = true) :
    Calls Try.prog 75 #[.pointer (some ⟨p, 0, none⟩)] w (Ends sb cap L p o (VItem d w.heap.size) w (Lx.pItem (Lx.pGroupAt d) ts)) := by
  have hsz := h.hsz
  have HP : Hid (Lx.pItem (Lx.pGroupAt d) ts = .ok (⟨1, Lx.hd ts, (Lx.pMark ts.tail).1, [], Lx.pl ts⟩, (Lx.pMark ts.tail).2)) := by
    show _ = _; unfold Lx.pItem; rw [if_neg hno, if_neg (by rw [hnn]; simp), if_pos hn]
  have HW : Hid (Lx.pWord Lx.isToken ts = .ok (Lx.hd ts, ts.tail)) := if_pos hn
  have HN : Hid _ := hn
  have HO : Hid _ := hno
  have HNN : Hid _ := hnn
  clear hn hno hnn
  have h2 := (h.alloc (.cells #[.int .i64 0, .string ⟨#[]⟩, .int .u8 0, .slice none 0 0] 86)).alloc (.cells #[.int .i64 0, .string ⟨#[]⟩, .int .u8 0, .slice none 0 0] 86)
  have kB := (Blk.new w #[.int .i64 0, .string ⟨#[]⟩, .int .u8 0, .slice none 0 0] 86).alloc (.cells #[.int .i64 0, .string ⟨#[]⟩, .int .u8 0, .slice none 0 0] 86)
  have kC := Blk.new (w.alloc (.cells #[.int .i64 0, .string ⟨#[]⟩, .int .u8 0, .slice none 0 0] 86)) #[.int .i64 0, .string ⟨#[]⟩, .int .u8 0, .slice none 0 0] 86
  have G0 := grown_trans (grown_alloc w (.cells #[.int .i64 0, .string ⟨#[]⟩, .int .u8 0, .slice none 0 0] 86) (some p)) (grown_alloc _ (.cells #[.int .i64 0, .string ⟨#[]⟩, .int .u8 0, .slice none 0 0] 86) (some p))
  rw [show (w.alloc (.cells #[.int .i64 0, .string ⟨#[]⟩, .int .u8 0, .slice none 0 0] 86)).heap.size = w.heap.size + 1 by simp] at kC
  have hp := h.lt
  have hs := h.lts
  go_enter Try.func75, Try.ntmps75
  go_wp2_with (first
    | (go_at_call 36; refine (ahead_rd h2).mono ?_; rintro e w' ⟨rfl, hw⟩; obtain rfl := hw.symm)
    | (go_at_call 39; refine (sees_rd h2 Lx.tOpen).mono ?_; rintro e w' ⟨rfl, hw⟩; obtain rfl := hw.symm; rw [decide_eq_false HO.out])
    | (go_at_call 66; refine (IsName_any _ _ hsz).mono ?_; rintro e w' ⟨rfl, hw⟩; obtain rfl := hw.symm; rw [HNN.out]))
  refine (token_rd h2).mono ?_
  intro e w1 he
  obtain ⟨v, rfl, hg1, hr1, rfl⟩ := he.ok HW.out
  clear he
  have kB1 := kB.grown hg1 (by simp; omega)
  have kC1 := kC.grown hg1 (by simp; omega)
  have c0 : w1.cell? ⟨w.heap.size + 1, 0, none⟩ = some (.int .i64 0) := kC1.cell 0
  have c1 : w1.cell? ⟨w.heap.size + 1, 1, none⟩ = some (.string ⟨#[]⟩) := kC1.cell 1
  have f0 : ∀ i, w1.frozen? ⟨w.heap.size + 1, i, none⟩ = false := kC1.frozen
  have h3 := (hr1.setOther (b := w.heap.size + 1) 0 (.int .i64 1) (by omega) (by omega)).setOther (b := w.heap.size + 1) 1 (.string (Lx.hd ts)) (by omega) (by omega)
  have kB2 := (kB1.other (b' := w.heap.size + 1) (i := 0) (by omega) (.int .i64 1)).other (b' := w.heap.size + 1) (i := 1) (by omega) (.string (Lx.hd ts))
  have kC2 := (kC1.set 0 (.int .i64 1)).set 1 (.string (Lx.hd ts))
  have G1 := grown_trans G0 hg1
  clear kB1 kC1 kB kC
  go_wp2_with fail
  refine (mark_rd h3).mono ?_
  rintro e w2 ⟨rfl, hg2, hr2⟩
  have kB3 := kB2.grown hg2 (by simp; omega)
  have kC3 := kC2.grown hg2 (by simp; omega)
  have d0 : w2.cell? ⟨w.heap.size + 1, 0, none⟩ = some (.int .i64 1) := kC3.cell 0
  have d1 : w2.cell? ⟨w.heap.size + 1, 1, none⟩ = some (.string (Lx.hd ts)) := kC3.cell 1
  have d2 : w2.cell? ⟨w.heap.size + 1, 2, none⟩ = some (.int .u8 0) := kC3.cell 2
  have d3 : w2.cell? ⟨w.heap.size + 1, 3, none⟩ = some (.slice none 0 0) := kC3.cell 3
  have e0 : w2.cell? ⟨w.heap.size, 0, none⟩ = some (.int .i64 0) := kB3.cell 0
  have e1 : w2.cell? ⟨w.heap.size, 1, none⟩ = some (.string ⟨#[]⟩) := kB3.cell 1
  have e2 : w2.cell? ⟨w.heap.size, 2, none⟩ = some (.int .u8 0) := kB3.cell 2
  have e3 : w2.cell? ⟨w.heap.size, 3, none⟩ = some (.slice none 0 0) := kB3.cell 3
  have f1 : ∀ i, w2.frozen? ⟨w.heap.size + 1, i, none⟩ = false := kC3.frozen
  have f2 : ∀ i, w2.frozen? ⟨w.heap.size, i, none⟩ = false := kB3.frozen
  have G2 := grown_trans (grown_new (grown_new G1 (by omega) 0 (.int .i64 1)) (by omega) 1 (.string (Lx.hd ts))) hg2
  clear kB2 kC2 c0 c1 f0
  go_wp2_with fail
  refine bodyPost_ret (v := .agg #[.int .i64 1, .string (Lx.hd ts), .int .u8 ((Lx.pMark ts.tail).1 : Int), .slice none 0 0]) (by simp [results, Try.results75, go_sem, e0, e1, e2, e3]) rfl ?_
  refine Ends.yes HP.out (grown_new (grown_new (grown_new (grown_new (grown_new G2 (by omega) _ _) (Nat.le_refl _) _ _) (Nat.le_refl _) _ _) (Nat.le_refl _) _ _) (Nat.le_refl _) _ _) ?_ ⟨_, rfl, AltsIn.nil _ _ _ _⟩
  exact ((((hr2.setOther _ _ (by omega) (by omega)).setOther _ _ (by omega) (by omega)).setOther _ _ (by omega) (by omega)).setOther _ _ (by omega) (by omega)).setOther _ _ (by omega) (by omega)
set_option maxHeartbeats 400000 in
theorem item_group {d : Nat} (HG : GroupSaid d) (sb cap : Nat) (L : List Tk) (p : Nat) (w : World) (ts : List Tk) (o : Int) (ho : o = 8 - (d : Int)) (h : Rd sb cap L p w ts o) (hn : Lx.hd ts = Lx.tOpen) :
    Calls Try.prog 75 #[.pointer (some ⟨p, 0, none⟩)] w (Ends sb cap L p o (VItem d w.heap.size) w (Lx.pItem (Lx.pGroupAt d) ts)) := by
  have HN : Hid (Lx.hd ts = Lx.tOpen) := hn
  have HO : Hid (o = 8 - (d : Int)) := ho
  clear hn ho
  have h2 := (h.alloc (.cells #[.int .i64 0, .string ⟨#[]⟩, .int .u8 0, .slice none 0 0] 86)).alloc (.cells #[.int .i64 0, .string ⟨#[]⟩, .int .u8 0, .slice none 0 0] 86)
  have kB := (Blk.new w #[.int .i64 0, .string ⟨#[]⟩, .int .u8 0, .slice none 0 0] 86).alloc (.cells #[.int .i64 0, .string ⟨#[]⟩, .int .u8 0, .slice none 0 0] 86)
  have kC := Blk.new (w.alloc (.cells #[.int .i64 0, .string ⟨#[]⟩, .int .u8 0, .slice none 0 0] 86)) #[.int .i64 0, .string ⟨#[]⟩, .int .u8 0, .slice none 0 0] 86
  have G0 := grown_trans (grown_alloc w (.cells #[.int .i64 0, .string ⟨#[]⟩, .int .u8 0, .slice none 0 0] 86) (some p)) (grown_alloc _ (.cells #[.int .i64 0, .string ⟨#[]⟩, .int .u8 0, .slice none 0 0] 86) (some p))
  rw [show (w.alloc (.cells #[.int .i64 0, .string ⟨#[]⟩, .int .u8 0, .slice none 0 0] 86)).heap.size = w.heap.size + 1 by simp] at kC
  have hp := h.lt
  have hs := h.lts
  go_enter Try.func75, Try.ntmps75
  go_wp2_with (first
    | (go_at_call 39; refine (sees_rd h2 Lx.tOpen).mono ?_; rintro e w' ⟨rfl, hw⟩; obtain rfl := hw.symm; rw [decide_eq_true HN.out]))
  refine (HG sb cap L p _ ts o HO.out h2 HN.out).mono ?_
  intro e w1 he
  cases hgr : Lx.pGroupAt d ts with
  | error x =>
    obtain ⟨n, a⟩ := x
    obtain ⟨rfl, hg1⟩ := he.err hgr
    exact ⟨rfl, Ends.no (by unfold Lx.pItem; rw [if_pos HN.out, hgr]) (grown_trans G0 hg1)⟩
  | ok x =>
    obtain ⟨l, ts1⟩ := x
    obtain ⟨v, rfl, hg1, hr1, hv⟩ := he.ok hgr
    obtain ⟨va, vk, vc, rfl⟩ := AltsIn.form hv
    have HP : Hid (Lx.pItem (Lx.pGroupAt d) ts = .ok (⟨2, Lx.noText, (Lx.pMark ts1).1, l, Lx.pl ts⟩, (Lx.pMark ts1).2)) := by
      show _ = _; unfold Lx.pItem; rw [if_pos HN.out, hgr]
    clear he hgr
    have kB1 := kB.grown hg1 (by simp; omega)
    have kC1 := kC.grown hg1 (by simp; omega)
    have c0 : w1.cell? ⟨w.heap.size + 1, 0, none⟩ = some (.int .i64 0) := kC1.cell 0
    have c1 : w1.cell? ⟨w.heap.size + 1, 3, none⟩ = some (.slice none 0 0) := kC1.cell 3
    have f0 : ∀ i, w1.frozen? ⟨w.heap.size + 1, i, none⟩ = false := kC1.frozen
    have h3 := (hr1.setOther (b := w.heap.size + 1) 0 (.int .i64 2) (by omega) (by omega)).setOther (b := w.heap.size + 1) 3 (.slice va vk vc) (by omega) (by omega)
    have kB2 := (kB1.other (b' := w.heap.size + 1) (i := 0) (by omega) (.int .i64 2)).other (b' := w.heap.size + 1) (i := 3) (by omega) (.slice va vk vc)
    have kC2 := (kC1.set 0 (.int .i64 2)).set 3 (.slice va vk vc)
    have G1 := grown_trans G0 hg1
    rw [show ((w.alloc (.cells #[.int .i64 0, .string ⟨#[]⟩, .int .u8 0, .slice none 0 0] 86)).alloc (.cells #[.int .i64 0, .string ⟨#[]⟩, .int .u8 0, .slice none 0 0] 86)).heap.size = w.heap.size + 2 by simp] at hv
    clear kB1 kC1 kB kC
    go_wp2_with fail
    refine (mark_rd h3).mono ?_
    rintro e w2 ⟨rfl, hg2, hr2⟩
    have kB3 := kB2.grown hg2 (by simp; omega)
    have kC3 := kC2.grown hg2 (by simp; omega)
    have d0 : w2.cell? ⟨w.heap.size + 1, 0, none⟩ = some (.int .i64 2) := kC3.cell 0
    have d1 : w2.cell? ⟨w.heap.size + 1, 1, none⟩ = some (.string ⟨#[]⟩) := kC3.cell 1
    have d2 : w2.cell? ⟨w.heap.size + 1, 2, none⟩ = some (.int .u8 0) := kC3.cell 2
    have d3 : w2.cell? ⟨w.heap.size + 1, 3, none⟩ = some (.slice va vk vc) := kC3.cell 3
    have e0 : w2.cell? ⟨w.heap.size, 0, none⟩ = some (.int .i64 0) := kB3.cell 0
    have e1 : w2.cell? ⟨w.heap.size, 1, none⟩ = some (.string ⟨#[]⟩) := kB3.cell 1
    have e2 : w2.cell? ⟨w.heap.size, 2, none⟩ = some (.int .u8 0) := kB3.cell 2
    have e3 : w2.cell? ⟨w.heap.size, 3, none⟩ = some (.slice none 0 0) := kB3.cell 3
    have f1 : ∀ i, w2.frozen? ⟨w.heap.size + 1, i, none⟩ = false := kC3.frozen
    have f2 : ∀ i, w2.frozen? ⟨w.heap.size, i, none⟩ = false := kB3.frozen
    have G2 := grown_trans (grown_new (grown_new G1 (by omega) 0 (.int .i64 2)) (by omega) 3 (.slice va vk vc)) hg2
    have hv2 : VAlts d (w.heap.size + 2) w2 (.slice va vk vc) l := ((hv.move (Nat.le_refl _) (grown_set w1 (w.heap.size + 1) 0 (.int .i64 2)) (fun k hk => by cases hk; omega)).move (Nat.le_refl _) (grown_set _ (w.heap.size + 1) 3 (.slice va vk vc)) (fun k hk => by cases hk; omega)).move (Nat.le_refl _) hg2 (fun k hk => by cases hk; omega)
    clear kB2 kC2 c0 c1 f0 hv
    go_wp2_with fail
    refine bodyPost_ret (v := .agg #[.int .i64 2, .string ⟨#[]⟩, .int .u8 ((Lx.pMark ts1).1 : Int), .slice va vk vc]) (by simp [results, Try.results75, go_sem, e0, e1, e2, e3]) rfl ?_
    have g1 := grown_set w2 (w.heap.size + 1) 2 (.int .u8 ((Lx.pMark ts1).1 : Int))
    refine Ends.yes HP.out (grown_new (grown_new (grown_new (grown_new (grown_new G2 (by omega) _ _) (Nat.le_refl _) _ _) (Nat.le_refl _) _ _) (Nat.le_refl _) _ _) (Nat.le_refl _) _ _) ?_ ⟨_, rfl, ?_⟩
    · exact ((((hr2.setOther _ _ (by omega) (by omega)).setOther _ _ (by omega) (by omega)).setOther _ _ (by omega) (by omega)).setOther _ _ (by omega) (by omega)).setOther _ _ (by omega) (by omega)
    · have m0 := hv2.move (lo' := w.heap.size) (by omega) g1 (fun k hk => by cases hk; omega)
      have m1 := hv2.move (Nat.le_refl _) g1 (fun k hk => by cases hk; omega)
      have m2 := m1.move (Nat.le_refl _) (grown_set _ w.heap.size 0 (.int .i64 2)) (fun k hk => by cases hk; omega)
      have m3 := m2.move (Nat.le_refl _) (grown_set _ w.heap.size 1 (.string ⟨#[]⟩)) (fun k hk => by cases hk; omega)
      have m4 := m3.move (Nat.le_refl _) (grown_set _ w.heap.size 2 (.int .u8 ((Lx.pMark ts1).1 : Int))) (fun k hk => by cases hk; omega)
      exact m4.move (by omega) (grown_set _ w.heap.size 3 (.slice va vk vc)) (fun k hk => by cases hk; omega)
theorem item_all {d : Nat} (HG : GroupSaid d) : ItemSaid d := by
  intro sb cap L p w ts o ho h hsee
  by_cases h1 : Lx.hd ts = Lx.tOpen
  · exact item_group HG sb cap L p w ts o ho h h1
  · cases h2 : Lx.isName (Lx.hd ts)
    · refine item_token sb cap L p w ts o h h1 h2 ?_
      unfold Lx.seesItem at hsee
      rw [decide_eq_false h1, h2] at hsee
      simpa using hsee
    · exact item_name sb cap L p w ts o h h1 h2
end Go.Proofs.Ytonkcljapkeidaa

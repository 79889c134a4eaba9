import Derived.Test.YtonkcljapkeidaaWF3
namespace Go.Proofs.Ytonkcljapkeidaa
open Go.RowKit
open Lx (Tk)
open Tr
theorem pMark_star {ts : List Tk} (h : Lx.hd ts = Lx.tStar) : Lx.pMark ts = (42, ts.tail) := if_pos h
theorem pMark_plus {ts : List Tk} (h : Lx.hd ts = Lx.tPlus) : Lx.pMark ts = (43, ts.tail) := by
  unfold Lx.pMark; rw [if_neg (by rw [h]; decide), if_pos h]
theorem pMark_ask {ts : List Tk} (h : Lx.hd ts = Lx.tAsk) : Lx.pMark ts = (63, ts.tail) := by
  unfold Lx.pMark; rw [if_neg (by rw [h]; decide), if_neg (by rw [h]; decide), if_pos h]
theorem pMark_none {ts : List Tk} (h1 : ¬ Lx.hd ts = Lx.tStar) (h2 : ¬ Lx.hd ts = Lx.tPlus) (h3 : ¬ Lx.hd ts = Lx.tAsk) : Lx.pMark ts = (0, ts) := by
  unfold Lx.pMark; rw [if_neg h1, if_neg h2, if_neg h3]
set_option maxHeartbeats 2000000 in
set_option maxRecDepth 100000 in
theorem ritem_name {d : Nat} (s : ByteArray) (q : Nat) (w : World) (ts : List Tk) (nest : Int) (sgv : Value) (sg : List ByteArray) (h : RR s q w ts nest sgv sg) (hno : ¬ Lx.hd ts = Lx.tOpen) (hn : Lx.isName (Lx.hd ts) = true) :
    Calls Try.prog 71 #[.pointer (some ⟨q, 0, none⟩), .bool true, .bool false] w (REnds s q nest (RVItem d w.heap.size) XItem w sgv (Lx.pItem (Lx.pGroupAt d) ts)) := by
  have hp := h.lt
  have kq := h.blk
  have c1 : w.cell? ⟨q, 1, none⟩ = some (.int .i64 (Lx.pl ts : Int)) := kq.cell 1
  have h2 := (h.alloc (.cells #[.int .i64 0, .string ⟨#[]⟩, .int .u8 0, .slice none 0 0, .int .i64 0] 100)).alloc (.cells #[.int .i64 0, .string (Lx.hd ts), .int .u8 0, .slice none 0 0, .int .i64 (Lx.pl ts : Int)] 100)
  have kB := (Blk.new w #[.int .i64 0, .string ⟨#[]⟩, .int .u8 0, .slice none 0 0, .int .i64 0] 100).alloc (.cells #[.int .i64 0, .string (Lx.hd ts), .int .u8 0, .slice none 0 0, .int .i64 (Lx.pl ts : Int)] 100)
  have kC := Blk.new (w.alloc (.cells #[.int .i64 0, .string ⟨#[]⟩, .int .u8 0, .slice none 0 0, .int .i64 0] 100)) #[.int .i64 0, .string (Lx.hd ts), .int .u8 0, .slice none 0 0, .int .i64 (Lx.pl ts : Int)] 100
  rw [show (w.alloc (.cells #[.int .i64 0, .string ⟨#[]⟩, .int .u8 0, .slice none 0 0, .int .i64 0] 100)).heap.size = w.heap.size + 1 by simp] at kC
  have M0 := ((Mv.refl q sgv w).alloc (.cells #[.int .i64 0, .string ⟨#[]⟩, .int .u8 0, .slice none 0 0, .int .i64 0] 100)).alloc (.cells #[.int .i64 0, .string (Lx.hd ts), .int .u8 0, .slice none 0 0, .int .i64 (Lx.pl ts : Int)] 100)
  have fB : sgv.ownBlock ≠ some w.heap.size := h.fresh (Nat.le_refl _)
  have fC : sgv.ownBlock ≠ some (w.heap.size + 1) := h.fresh (by omega)
  have HK : Hid (Lx.known (Lx.hd ts) = true) := Lx.isName_known hn
  have HNE : Hid (Lx.hd ts ≠ Lx.noText) := isName_ne hn
  have c2 : w.cell? ⟨q, 2, none⟩ = some (.string (Lx.hd ts)) := by have := kq.cell 2; rw [this]; simp only [rblk]; rw [Lx.refW_known HK.out]; rfl
  obtain ⟨L, hL⟩ : ∃ L : List Lx.Alt, L = [] := ⟨_, rfl⟩
  have HP0 : ∀ m t, Lx.pMark ts.tail = (m, t) → Lx.pItem (Lx.pGroupAt d) ts = .ok (⟨0, Lx.hd ts, m, L, Lx.pl ts⟩, t) := by
    intro m t e; unfold Lx.pItem; rw [if_neg hno, if_pos hn]; rw [e, hL]
  have HPP : Hid _ := HP0
  have HL : Hid _ := hL
  clear HP0 hn hL hno 
  go_enter Try.func71, Try.ntmps71
  go_wp2_with fail
  refine (next_rr h2 HK.out HNE.out).mono ?_
  rintro e w1 ⟨rfl, sg1, m1, X1, h3⟩
  have f1B := X1.keep (b := w.heap.size) kB.lt fB
  have f1C := X1.keep (b := w.heap.size + 1) kC.lt fC
  have kC1 := kC.mv m1 (by omega) fC
  have kB1 := kB.mv m1 (by omega) fB
  have M1 := M0.trans (Nx.refl _ _) m1
  have X1 := (Nx.refl sgv w).trans M0.size X1
  have hv1 : AltsIn YR d (Fp (w.heap.size + 2) sg1 w1) w1 (.slice none 0 0) L := by rw [HL.out]; exact AltsIn.nil _ _ _ _
  have HP := HPP.out
  clear kC kB h2 M0 m1 HPP HL c1 c2 kq
  generalize ts.tail = ts1 at *
  by_cases hm : Lx.hd ts1 = Lx.tStar
  · have HPM : Hid _ := HP _ _ (pMark_star hm)
    have HM : Hid (Lx.hd ts1 = Lx.tStar) := hm
    have HKN : Hid (Lx.known (Lx.hd ts1) = true) := by show _ = _; rw [hm]; decide
    have HNN : Hid (Lx.hd ts1 ≠ Lx.noText) := by show _ ≠ _; rw [hm]; decide
    have c2 : w1.cell? ⟨q, 2, none⟩ = some (.string ⟨#[42]⟩) := by
      have := h3.blk.cell 2; rw [this]; simp only [rblk]; rw [Lx.refW_known HKN.out, HM.out]; rfl
    have h4 := h3.other (b := w.heap.size + 1) 2 (.int .u8 42) (by omega) f1C
    have kC4 := kC1.set 2 (.int .u8 42)
    have kB4 := kB1.other (b' := w.heap.size + 1) (i := 2) (by omega) (.int .u8 42)
    have M4 := M1.new (b := w.heap.size + 1) (by omega) 2 (.int .u8 42)
    have d2 : w1.cell? ⟨w.heap.size + 1, 2, none⟩ = some (.int .u8 0) := kC1.cell 2
    have fz1 : ∀ i, w1.frozen? ⟨w.heap.size + 1, i, none⟩ = false := kC1.frozen
    have hv4 : AltsIn YR d (Fp (w.heap.size + 2) sg1 (w1.setCell ⟨w.heap.size + 1, 2, none⟩ (.int .u8 42))) (w1.setCell ⟨w.heap.size + 1, 2, none⟩ (.int .u8 42)) (.slice none 0 0) L :=
      AltsIn.move (fun b hb => Below.heap_setCell _ _ _ _ (fun e => by have e' : b = w.heap.size + 1 := e; have := hb.1; omega)) (fun b hb => ⟨hb.1, by simpa [World.setCell] using hb.2.1, hb.2.2⟩) hv1
    clear hm HP hv1
    go_wp2_with fail
    refine (is_rr h3 Lx.tStar (by decide) (by decide)).mono ?_
    rintro e w' ⟨rfl, hw⟩; obtain rfl := hw.symm; rw [decide_eq_true HM.out]
    go_wp2_with fail
    refine (next_rr h4 HKN.out HNN.out).mono ?_
    rintro e w5 ⟨rfl, sg5, m5, x5, h5⟩
    have f5B := x5.keep (b := w.heap.size) kB4.lt f1B
    have kCf := kC4.mv m5 (by omega) f1C
    have kBf := kB4.mv m5 (by omega) f1B
    have hv5 : AltsIn YR d (Fp (w.heap.size + 2) sg5 w5) w5 (.slice none 0 0) L := AltsIn.move (fun b hb => m5.block b hb.2.1 (fun e => by have := hb.1; omega) hb.2.2) (fun b hb => ⟨hb.1, Nat.lt_of_lt_of_le hb.2.1 m5.size, x5.keep hb.2.1 hb.2.2⟩) hv4
    have M5 := M4.trans X1 m5
    have X5 := X1.trans M4.size x5
    have kBz := kBf
    have d0 : w5.cell? ⟨w.heap.size + 1, 0, none⟩ = some (.int .i64 0) := kCf.cell 0
    have d1 : w5.cell? ⟨w.heap.size + 1, 1, none⟩ = some (.string (Lx.hd ts)) := kCf.cell 1
    have d2 : w5.cell? ⟨w.heap.size + 1, 2, none⟩ = some (.int .u8 42) := kCf.cell 2
    have d3 : w5.cell? ⟨w.heap.size + 1, 3, none⟩ = some (.slice none 0 0) := kCf.cell 3
    have d4 : w5.cell? ⟨w.heap.size + 1, 4, none⟩ = some (.int .i64 (Lx.pl ts : Int)) := kCf.cell 4
    have e0 : w5.cell? ⟨w.heap.size, 0, none⟩ = some (.int .i64 0) := kBf.cell 0
    have e1 : w5.cell? ⟨w.heap.size, 1, none⟩ = some (.string ⟨#[]⟩) := kBf.cell 1
    have e2 : w5.cell? ⟨w.heap.size, 2, none⟩ = some (.int .u8 0) := kBf.cell 2
    have e3 : w5.cell? ⟨w.heap.size, 3, none⟩ = some (.slice none 0 0) := kBf.cell 3
    have e4 : w5.cell? ⟨w.heap.size, 4, none⟩ = some (.int .i64 0) := kBf.cell 4
    have ff2 : ∀ i, w5.frozen? ⟨w.heap.size, i, none⟩ = false := kBf.frozen
    clear kC4 kB4 kC1 kB1 h4 h3 hv4 c2
    go_wp2_with fail
    refine bodyPost_ret (v := .agg #[(.int .i64 0), (.string (Lx.hd ts)), .int .u8 42, (.slice none 0 0), .int .i64 (Lx.pl ts : Int)]) (by simp [results, Try.results71, go_sem, e0, e1, e2, e3, e4]) rfl ?_
    refine REnds.yes HPM.out (((((M5.new (Nat.le_refl _) _ _).new (Nat.le_refl _) _ _).new (Nat.le_refl _) _ _).new (Nat.le_refl _) _ _).new (Nat.le_refl _) _ _) X5 (((((h5.other _ _ (by omega) f5B).other _ _ (by omega) f5B).other _ _ (by omega) f5B).other _ _ (by omega) f5B).other _ _ (by omega) f5B) ⟨_, rfl, ?_⟩
    refine AltsIn.move (fun b hb => ?_) (fun b hb => ⟨by have := hb.1; omega, by simpa [World.setCell] using hb.2.1, hb.2.2⟩) hv5
    have hbb : b ≠ w.heap.size := by have := hb.1; omega
    rw [Below.heap_setCell _ _ _ _ hbb, Below.heap_setCell _ _ _ _ hbb, Below.heap_setCell _ _ _ _ hbb, Below.heap_setCell _ _ _ _ hbb, Below.heap_setCell _ _ _ _ hbb]
  have n42 : Hid (¬ Lx.hd ts1 = Lx.tStar) := hm
  clear hm
  by_cases hm : Lx.hd ts1 = Lx.tPlus
  · have HPM : Hid _ := HP _ _ (pMark_plus hm)
    have HM : Hid (Lx.hd ts1 = Lx.tPlus) := hm
    have HKN : Hid (Lx.known (Lx.hd ts1) = true) := by show _ = _; rw [hm]; decide
    have HNN : Hid (Lx.hd ts1 ≠ Lx.noText) := by show _ ≠ _; rw [hm]; decide
    have c2 : w1.cell? ⟨q, 2, none⟩ = some (.string ⟨#[43]⟩) := by
      have := h3.blk.cell 2; rw [this]; simp only [rblk]; rw [Lx.refW_known HKN.out, HM.out]; rfl
    have h4 := h3.other (b := w.heap.size + 1) 2 (.int .u8 43) (by omega) f1C
    have kC4 := kC1.set 2 (.int .u8 43)
    have kB4 := kB1.other (b' := w.heap.size + 1) (i := 2) (by omega) (.int .u8 43)
    have M4 := M1.new (b := w.heap.size + 1) (by omega) 2 (.int .u8 43)
    have d2 : w1.cell? ⟨w.heap.size + 1, 2, none⟩ = some (.int .u8 0) := kC1.cell 2
    have fz1 : ∀ i, w1.frozen? ⟨w.heap.size + 1, i, none⟩ = false := kC1.frozen
    have hv4 : AltsIn YR d (Fp (w.heap.size + 2) sg1 (w1.setCell ⟨w.heap.size + 1, 2, none⟩ (.int .u8 43))) (w1.setCell ⟨w.heap.size + 1, 2, none⟩ (.int .u8 43)) (.slice none 0 0) L :=
      AltsIn.move (fun b hb => Below.heap_setCell _ _ _ _ (fun e => by have e' : b = w.heap.size + 1 := e; have := hb.1; omega)) (fun b hb => ⟨hb.1, by simpa [World.setCell] using hb.2.1, hb.2.2⟩) hv1
    clear hm HP hv1
    go_wp2_with fail
    refine (is_rr h3 Lx.tStar (by decide) (by decide)).mono ?_
    rintro e w' ⟨rfl, hw⟩; obtain rfl := hw.symm; rw [decide_eq_false (by rw [HM.out]; decide)]
    go_wp2_with fail
    refine (is_rr h3 Lx.tPlus (by decide) (by decide)).mono ?_
    rintro e w' ⟨rfl, hw⟩; obtain rfl := hw.symm; rw [decide_eq_true HM.out]
    go_wp2_with fail
    refine (next_rr h4 HKN.out HNN.out).mono ?_
    rintro e w5 ⟨rfl, sg5, m5, x5, h5⟩
    have f5B := x5.keep (b := w.heap.size) kB4.lt f1B
    have kCf := kC4.mv m5 (by omega) f1C
    have kBf := kB4.mv m5 (by omega) f1B
    have hv5 : AltsIn YR d (Fp (w.heap.size + 2) sg5 w5) w5 (.slice none 0 0) L := AltsIn.move (fun b hb => m5.block b hb.2.1 (fun e => by have := hb.1; omega) hb.2.2) (fun b hb => ⟨hb.1, Nat.lt_of_lt_of_le hb.2.1 m5.size, x5.keep hb.2.1 hb.2.2⟩) hv4
    have M5 := M4.trans X1 m5
    have X5 := X1.trans M4.size x5
    have kBz := kBf
    have d0 : w5.cell? ⟨w.heap.size + 1, 0, none⟩ = some (.int .i64 0) := kCf.cell 0
    have d1 : w5.cell? ⟨w.heap.size + 1, 1, none⟩ = some (.string (Lx.hd ts)) := kCf.cell 1
    have d2 : w5.cell? ⟨w.heap.size + 1, 2, none⟩ = some (.int .u8 43) := kCf.cell 2
    have d3 : w5.cell? ⟨w.heap.size + 1, 3, none⟩ = some (.slice none 0 0) := kCf.cell 3
    have d4 : w5.cell? ⟨w.heap.size + 1, 4, none⟩ = some (.int .i64 (Lx.pl ts : Int)) := kCf.cell 4
    have e0 : w5.cell? ⟨w.heap.size, 0, none⟩ = some (.int .i64 0) := kBf.cell 0
    have e1 : w5.cell? ⟨w.heap.size, 1, none⟩ = some (.string ⟨#[]⟩) := kBf.cell 1
    have e2 : w5.cell? ⟨w.heap.size, 2, none⟩ = some (.int .u8 0) := kBf.cell 2
    have e3 : w5.cell? ⟨w.heap.size, 3, none⟩ = some (.slice none 0 0) := kBf.cell 3
    have e4 : w5.cell? ⟨w.heap.size, 4, none⟩ = some (.int .i64 0) := kBf.cell 4
    have ff2 : ∀ i, w5.frozen? ⟨w.heap.size, i, none⟩ = false := kBf.frozen
    clear kC4 kB4 kC1 kB1 h4 h3 hv4 c2
    go_wp2_with fail
    refine bodyPost_ret (v := .agg #[(.int .i64 0), (.string (Lx.hd ts)), .int .u8 43, (.slice none 0 0), .int .i64 (Lx.pl ts : Int)]) (by simp [results, Try.results71, go_sem, e0, e1, e2, e3, e4]) rfl ?_
    refine REnds.yes HPM.out (((((M5.new (Nat.le_refl _) _ _).new (Nat.le_refl _) _ _).new (Nat.le_refl _) _ _).new (Nat.le_refl _) _ _).new (Nat.le_refl _) _ _) X5 (((((h5.other _ _ (by omega) f5B).other _ _ (by omega) f5B).other _ _ (by omega) f5B).other _ _ (by omega) f5B).other _ _ (by omega) f5B) ⟨_, rfl, ?_⟩
    refine AltsIn.move (fun b hb => ?_) (fun b hb => ⟨by have := hb.1; omega, by simpa [World.setCell] using hb.2.1, hb.2.2⟩) hv5
    have hbb : b ≠ w.heap.size := by have := hb.1; omega
    rw [Below.heap_setCell _ _ _ _ hbb, Below.heap_setCell _ _ _ _ hbb, Below.heap_setCell _ _ _ _ hbb, Below.heap_setCell _ _ _ _ hbb, Below.heap_setCell _ _ _ _ hbb]
  have n43 : Hid (¬ Lx.hd ts1 = Lx.tPlus) := hm
  clear hm
  by_cases hm : Lx.hd ts1 = Lx.tAsk
  · have HPM : Hid _ := HP _ _ (pMark_ask hm)
    have HM : Hid (Lx.hd ts1 = Lx.tAsk) := hm
    have HKN : Hid (Lx.known (Lx.hd ts1) = true) := by show _ = _; rw [hm]; decide
    have HNN : Hid (Lx.hd ts1 ≠ Lx.noText) := by show _ ≠ _; rw [hm]; decide
    have c2 : w1.cell? ⟨q, 2, none⟩ = some (.string ⟨#[63]⟩) := by
      have := h3.blk.cell 2; rw [this]; simp only [rblk]; rw [Lx.refW_known HKN.out, HM.out]; rfl
    have h4 := h3.other (b := w.heap.size + 1) 2 (.int .u8 63) (by omega) f1C
    have kC4 := kC1.set 2 (.int .u8 63)
    have kB4 := kB1.other (b' := w.heap.size + 1) (i := 2) (by omega) (.int .u8 63)
    have M4 := M1.new (b := w.heap.size + 1) (by omega) 2 (.int .u8 63)
    have d2 : w1.cell? ⟨w.heap.size + 1, 2, none⟩ = some (.int .u8 0) := kC1.cell 2
    have fz1 : ∀ i, w1.frozen? ⟨w.heap.size + 1, i, none⟩ = false := kC1.frozen
    have hv4 : AltsIn YR d (Fp (w.heap.size + 2) sg1 (w1.setCell ⟨w.heap.size + 1, 2, none⟩ (.int .u8 63))) (w1.setCell ⟨w.heap.size + 1, 2, none⟩ (.int .u8 63)) (.slice none 0 0) L :=
      AltsIn.move (fun b hb => Below.heap_setCell _ _ _ _ (fun e => by have e' : b = w.heap.size + 1 := e; have := hb.1; omega)) (fun b hb => ⟨hb.1, by simpa [World.setCell] using hb.2.1, hb.2.2⟩) hv1
    clear hm HP hv1
    go_wp2_with fail
    refine (is_rr h3 Lx.tStar (by decide) (by decide)).mono ?_
    rintro e w' ⟨rfl, hw⟩; obtain rfl := hw.symm; rw [decide_eq_false (by rw [HM.out]; decide)]
    go_wp2_with fail
    refine (is_rr h3 Lx.tPlus (by decide) (by decide)).mono ?_
    rintro e w' ⟨rfl, hw⟩; obtain rfl := hw.symm; rw [decide_eq_false (by rw [HM.out]; decide)]
    go_wp2_with fail
    refine (is_rr h3 Lx.tAsk (by decide) (by decide)).mono ?_
    rintro e w' ⟨rfl, hw⟩; obtain rfl := hw.symm; rw [decide_eq_true HM.out]
    go_wp2_with fail
    refine (next_rr h4 HKN.out HNN.out).mono ?_
    rintro e w5 ⟨rfl, sg5, m5, x5, h5⟩
    have f5B := x5.keep (b := w.heap.size) kB4.lt f1B
    have kCf := kC4.mv m5 (by omega) f1C
    have kBf := kB4.mv m5 (by omega) f1B
    have hv5 : AltsIn YR d (Fp (w.heap.size + 2) sg5 w5) w5 (.slice none 0 0) L := AltsIn.move (fun b hb => m5.block b hb.2.1 (fun e => by have := hb.1; omega) hb.2.2) (fun b hb => ⟨hb.1, Nat.lt_of_lt_of_le hb.2.1 m5.size, x5.keep hb.2.1 hb.2.2⟩) hv4
    have M5 := M4.trans X1 m5
    have X5 := X1.trans M4.size x5
    have kBz := kBf
    have d0 : w5.cell? ⟨w.heap.size + 1, 0, none⟩ = some (.int .i64 0) := kCf.cell 0
    have d1 : w5.cell? ⟨w.heap.size + 1, 1, none⟩ = some (.string (Lx.hd ts)) := kCf.cell 1
    have d2 : w5.cell? ⟨w.heap.size + 1, 2, none⟩ = some (.int .u8 63) := kCf.cell 2
    have d3 : w5.cell? ⟨w.heap.size + 1, 3, none⟩ = some (.slice none 0 0) := kCf.cell 3
    have d4 : w5.cell? ⟨w.heap.size + 1, 4, none⟩ = some (.int .i64 (Lx.pl ts : Int)) := kCf.cell 4
    have e0 : w5.cell? ⟨w.heap.size, 0, none⟩ = some (.int .i64 0) := kBf.cell 0
    have e1 : w5.cell? ⟨w.heap.size, 1, none⟩ = some (.string ⟨#[]⟩) := kBf.cell 1
    have e2 : w5.cell? ⟨w.heap.size, 2, none⟩ = some (.int .u8 0) := kBf.cell 2
    have e3 : w5.cell? ⟨w.heap.size, 3, none⟩ = some (.slice none 0 0) := kBf.cell 3
    have e4 : w5.cell? ⟨w.heap.size, 4, none⟩ = some (.int .i64 0) := kBf.cell 4
    have ff2 : ∀ i, w5.frozen? ⟨w.heap.size, i, none⟩ = false := kBf.frozen
    clear kC4 kB4 kC1 kB1 h4 h3 hv4 c2
    go_wp2_with fail
    refine bodyPost_ret (v := .agg #[(.int .i64 0), (.string (Lx.hd ts)), .int .u8 63, (.slice none 0 0), .int .i64 (Lx.pl ts : Int)]) (by simp [results, Try.results71, go_sem, e0, e1, e2, e3, e4]) rfl ?_
    refine REnds.yes HPM.out (((((M5.new (Nat.le_refl _) _ _).new (Nat.le_refl _) _ _).new (Nat.le_refl _) _ _).new (Nat.le_refl _) _ _).new (Nat.le_refl _) _ _) X5 (((((h5.other _ _ (by omega) f5B).other _ _ (by omega) f5B).other _ _ (by omega) f5B).other _ _ (by omega) f5B).other _ _ (by omega) f5B) ⟨_, rfl, ?_⟩
    refine AltsIn.move (fun b hb => ?_) (fun b hb => ⟨by have := hb.1; omega, by simpa [World.setCell] using hb.2.1, hb.2.2⟩) hv5
    have hbb : b ≠ w.heap.size := by have := hb.1; omega
    rw [Below.heap_setCell _ _ _ _ hbb, Below.heap_setCell _ _ _ _ hbb, Below.heap_setCell _ _ _ _ hbb, Below.heap_setCell _ _ _ _ hbb, Below.heap_setCell _ _ _ _ hbb]
  have n63 : Hid (¬ Lx.hd ts1 = Lx.tAsk) := hm
  clear hm
  have HPM : Hid _ := HP _ _ (pMark_none n42.out n43.out n63.out)
  clear HP
  go_wp2_with fail
  refine (is_rr h3 Lx.tStar (by decide) (by decide)).mono ?_
  rintro e w' ⟨rfl, hw⟩; obtain rfl := hw.symm; rw [decide_eq_false n42.out]
  go_wp2_with fail
  refine (is_rr h3 Lx.tPlus (by decide) (by decide)).mono ?_
  rintro e w' ⟨rfl, hw⟩; obtain rfl := hw.symm; rw [decide_eq_false n43.out]
  go_wp2_with fail
  refine (is_rr h3 Lx.tAsk (by decide) (by decide)).mono ?_
  rintro e w' ⟨rfl, hw⟩; obtain rfl := hw.symm; rw [decide_eq_false n63.out]
  have kCf := kC1
  have kBf := kB1
  have kBz := kBf
  have d0 : w1.cell? ⟨w.heap.size + 1, 0, none⟩ = some (.int .i64 0) := kCf.cell 0
  have d1 : w1.cell? ⟨w.heap.size + 1, 1, none⟩ = some (.string (Lx.hd ts)) := kCf.cell 1
  have d2 : w1.cell? ⟨w.heap.size + 1, 2, none⟩ = some (.int .u8 0) := kCf.cell 2
  have d3 : w1.cell? ⟨w.heap.size + 1, 3, none⟩ = some (.slice none 0 0) := kCf.cell 3
  have d4 : w1.cell? ⟨w.heap.size + 1, 4, none⟩ = some (.int .i64 (Lx.pl ts : Int)) := kCf.cell 4
  have e0 : w1.cell? ⟨w.heap.size, 0, none⟩ = some (.int .i64 0) := kBf.cell 0
  have e1 : w1.cell? ⟨w.heap.size, 1, none⟩ = some (.string ⟨#[]⟩) := kBf.cell 1
  have e2 : w1.cell? ⟨w.heap.size, 2, none⟩ = some (.int .u8 0) := kBf.cell 2
  have e3 : w1.cell? ⟨w.heap.size, 3, none⟩ = some (.slice none 0 0) := kBf.cell 3
  have e4 : w1.cell? ⟨w.heap.size, 4, none⟩ = some (.int .i64 0) := kBf.cell 4
  have ff2 : ∀ i, w1.frozen? ⟨w.heap.size, i, none⟩ = false := kBf.frozen
  go_wp2_with fail
  refine bodyPost_ret (v := .agg #[(.int .i64 0), (.string (Lx.hd ts)), .int .u8 0, (.slice none 0 0), .int .i64 (Lx.pl ts : Int)]) (by simp [results, Try.results71, go_sem, e0, e1, e2, e3, e4]) rfl ?_
  refine REnds.yes HPM.out (((((M1.new (Nat.le_refl _) _ _).new (Nat.le_refl _) _ _).new (Nat.le_refl _) _ _).new (Nat.le_refl _) _ _).new (Nat.le_refl _) _ _) X1 (((((h3.other _ _ (by omega) f1B).other _ _ (by omega) f1B).other _ _ (by omega) f1B).other _ _ (by omega) f1B).other _ _ (by omega) f1B) ⟨_, rfl, ?_⟩
  refine AltsIn.move (fun b hb => ?_) (fun b hb => ⟨by have := hb.1; omega, by simpa [World.setCell] using hb.2.1, hb.2.2⟩) hv1
  have hbb : b ≠ w.heap.size := by have := hb.1; omega
  rw [Below.heap_setCell _ _ _ _ hbb, Below.heap_setCell _ _ _ _ hbb, Below.heap_setCell _ _ _ _ hbb, Below.heap_setCell _ _ _ _ hbb, Below.heap_setCell _ _ _ _ hbb]
set_option maxHeartbeats 2000000 in
set_option maxRecDepth 100000 in
theorem ritem_token {d : Nat} (s : ByteArray) (q : Nat) (w : World) (ts : List Tk) (nest : Int) (sgv : Value) (sg : List ByteArray) (h : RR s q w ts nest sgv sg) (hno : ¬ Lx.hd ts = Lx.tOpen) (hnn : Lx.isName (Lx.hd ts) = false) (hn : Lx.isToken (Lx.hd ts) = true) :
    Calls Try.prog 71 #[.pointer (some ⟨q, 0, none⟩), .bool false, .bool true] w (REnds s q nest (RVItem d w.heap.size) XItem w sgv (Lx.pItem (Lx.pGroupAt d) ts)) := by
  have hp := h.lt
  have kq := h.blk
  have c1 : w.cell? ⟨q, 1, none⟩ = some (.int .i64 (Lx.pl ts : Int)) := kq.cell 1
  have h2 := (h.alloc (.cells #[.int .i64 0, .string ⟨#[]⟩, .int .u8 0, .slice none 0 0, .int .i64 0] 100)).alloc (.cells #[.int .i64 1, .string (Lx.hd ts), .int .u8 0, .slice none 0 0, .int .i64 (Lx.pl ts : Int)] 100)
  have kB := (Blk.new w #[.int .i64 0, .string ⟨#[]⟩, .int .u8 0, .slice none 0 0, .int .i64 0] 100).alloc (.cells #[.int .i64 1, .string (Lx.hd ts), .int .u8 0, .slice none 0 0, .int .i64 (Lx.pl ts : Int)] 100)
  have kC := Blk.new (w.alloc (.cells #[.int .i64 0, .string ⟨#[]⟩, .int .u8 0, .slice none 0 0, .int .i64 0] 100)) #[.int .i64 1, .string (Lx.hd ts), .int .u8 0, .slice none 0 0, .int .i64 (Lx.pl ts : Int)] 100
  rw [show (w.alloc (.cells #[.int .i64 0, .string ⟨#[]⟩, .int .u8 0, .slice none 0 0, .int .i64 0] 100)).heap.size = w.heap.size + 1 by simp] at kC
  have M0 := ((Mv.refl q sgv w).alloc (.cells #[.int .i64 0, .string ⟨#[]⟩, .int .u8 0, .slice none 0 0, .int .i64 0] 100)).alloc (.cells #[.int .i64 1, .string (Lx.hd ts), .int .u8 0, .slice none 0 0, .int .i64 (Lx.pl ts : Int)] 100)
  have fB : sgv.ownBlock ≠ some w.heap.size := h.fresh (Nat.le_refl _)
  have fC : sgv.ownBlock ≠ some (w.heap.size + 1) := h.fresh (by omega)
  have HK : Hid (Lx.known (Lx.hd ts) = true) := Lx.isToken_known hn
  have HNE : Hid (Lx.hd ts ≠ Lx.noText) := isToken_ne hn
  have c2 : w.cell? ⟨q, 2, none⟩ = some (.string (Lx.hd ts)) := by have := kq.cell 2; rw [this]; simp only [rblk]; rw [Lx.refW_known HK.out]; rfl
  obtain ⟨L, hL⟩ : ∃ L : List Lx.Alt, L = [] := ⟨_, rfl⟩
  have HP0 : ∀ m t, Lx.pMark ts.tail = (m, t) → Lx.pItem (Lx.pGroupAt d) ts = .ok (⟨1, Lx.hd ts, m, L, Lx.pl ts⟩, t) := by
    intro m t e; unfold Lx.pItem; rw [if_neg hno, if_neg (by rw [hnn]; simp), if_pos hn]; rw [e, hL]
  have HPP : Hid _ := HP0
  have HL : Hid _ := hL
  clear HP0 hn hL hno hnn
  go_enter Try.func71, Try.ntmps71
  go_wp2_with fail
  refine (next_rr h2 HK.out HNE.out).mono ?_
  rintro e w1 ⟨rfl, sg1, m1, X1, h3⟩
  have f1B := X1.keep (b := w.heap.size) kB.lt fB
  have f1C := X1.keep (b := w.heap.size + 1) kC.lt fC
  have kC1 := kC.mv m1 (by omega) fC
  have kB1 := kB.mv m1 (by omega) fB
  have M1 := M0.trans (Nx.refl _ _) m1
  have X1 := (Nx.refl sgv w).trans M0.size X1
  have hv1 : AltsIn YR d (Fp (w.heap.size + 2) sg1 w1) w1 (.slice none 0 0) L := by rw [HL.out]; exact AltsIn.nil _ _ _ _
  have HP := HPP.out
  clear kC kB h2 M0 m1 HPP HL c1 c2 kq
  generalize ts.tail = ts1 at *
  by_cases hm : Lx.hd ts1 = Lx.tStar
  · have HPM : Hid _ := HP _ _ (pMark_star hm)
    have HM : Hid (Lx.hd ts1 = Lx.tStar) := hm
    have HKN : Hid (Lx.known (Lx.hd ts1) = true) := by show _ = _; rw [hm]; decide
    have HNN : Hid (Lx.hd ts1 ≠ Lx.noText) := by show _ ≠ _; rw [hm]; decide
    have c2 : w1.cell? ⟨q, 2, none⟩ = some (.string ⟨#[42]⟩) := by
      have := h3.blk.cell 2; rw [this]; simp only [rblk]; rw [Lx.refW_known HKN.out, HM.out]; rfl
    have h4 := h3.other (b := w.heap.size + 1) 2 (.int .u8 42) (by omega) f1C
    have kC4 := kC1.set 2 (.int .u8 42)
    have kB4 := kB1.other (b' := w.heap.size + 1) (i := 2) (by omega) (.int .u8 42)
    have M4 := M1.new (b := w.heap.size + 1) (by omega) 2 (.int .u8 42)
    have d2 : w1.cell? ⟨w.heap.size + 1, 2, none⟩ = some (.int .u8 0) := kC1.cell 2
    have fz1 : ∀ i, w1.frozen? ⟨w.heap.size + 1, i, none⟩ = false := kC1.frozen
    have hv4 : AltsIn YR d (Fp (w.heap.size + 2) sg1 (w1.setCell ⟨w.heap.size + 1, 2, none⟩ (.int .u8 42))) (w1.setCell ⟨w.heap.size + 1, 2, none⟩ (.int .u8 42)) (.slice none 0 0) L :=
      AltsIn.move (fun b hb => Below.heap_setCell _ _ _ _ (fun e => by have e' : b = w.heap.size + 1 := e; have := hb.1; omega)) (fun b hb => ⟨hb.1, by simpa [World.setCell] using hb.2.1, hb.2.2⟩) hv1
    clear hm HP hv1
    go_wp2_with fail
    refine (is_rr h3 Lx.tStar (by decide) (by decide)).mono ?_
    rintro e w' ⟨rfl, hw⟩; obtain rfl := hw.symm; rw [decide_eq_true HM.out]
    go_wp2_with fail
    refine (next_rr h4 HKN.out HNN.out).mono ?_
    rintro e w5 ⟨rfl, sg5, m5, x5, h5⟩
    have f5B := x5.keep (b := w.heap.size) kB4.lt f1B
    have kCf := kC4.mv m5 (by omega) f1C
    have kBf := kB4.mv m5 (by omega) f1B
    have hv5 : AltsIn YR d (Fp (w.heap.size + 2) sg5 w5) w5 (.slice none 0 0) L := AltsIn.move (fun b hb => m5.block b hb.2.1 (fun e => by have := hb.1; omega) hb.2.2) (fun b hb => ⟨hb.1, Nat.lt_of_lt_of_le hb.2.1 m5.size, x5.keep hb.2.1 hb.2.2⟩) hv4
    have M5 := M4.trans X1 m5
    have X5 := X1.trans M4.size x5
    have kBz := kBf
    have d0 : w5.cell? ⟨w.heap.size + 1, 0, none⟩ = some (.int .i64 1) := kCf.cell 0
    have d1 : w5.cell? ⟨w.heap.size + 1, 1, none⟩ = some (.string (Lx.hd ts)) := kCf.cell 1
    have d2 : w5.cell? ⟨w.heap.size + 1, 2, none⟩ = some (.int .u8 42) := kCf.cell 2
    have d3 : w5.cell? ⟨w.heap.size + 1, 3, none⟩ = some (.slice none 0 0) := kCf.cell 3
    have d4 : w5.cell? ⟨w.heap.size + 1, 4, none⟩ = some (.int .i64 (Lx.pl ts : Int)) := kCf.cell 4
    have e0 : w5.cell? ⟨w.heap.size, 0, none⟩ = some (.int .i64 0) := kBf.cell 0
    have e1 : w5.cell? ⟨w.heap.size, 1, none⟩ = some (.string ⟨#[]⟩) := kBf.cell 1
    have e2 : w5.cell? ⟨w.heap.size, 2, none⟩ = some (.int .u8 0) := kBf.cell 2
    have e3 : w5.cell? ⟨w.heap.size, 3, none⟩ = some (.slice none 0 0) := kBf.cell 3
    have e4 : w5.cell? ⟨w.heap.size, 4, none⟩ = some (.int .i64 0) := kBf.cell 4
    have ff2 : ∀ i, w5.frozen? ⟨w.heap.size, i, none⟩ = false := kBf.frozen
    clear kC4 kB4 kC1 kB1 h4 h3 hv4 c2
    go_wp2_with fail
    refine bodyPost_ret (v := .agg #[(.int .i64 1), (.string (Lx.hd ts)), .int .u8 42, (.slice none 0 0), .int .i64 (Lx.pl ts : Int)]) (by simp [results, Try.results71, go_sem, e0, e1, e2, e3, e4]) rfl ?_
    refine REnds.yes HPM.out (((((M5.new (Nat.le_refl _) _ _).new (Nat.le_refl _) _ _).new (Nat.le_refl _) _ _).new (Nat.le_refl _) _ _).new (Nat.le_refl _) _ _) X5 (((((h5.other _ _ (by omega) f5B).other _ _ (by omega) f5B).other _ _ (by omega) f5B).other _ _ (by omega) f5B).other _ _ (by omega) f5B) ⟨_, rfl, ?_⟩
    refine AltsIn.move (fun b hb => ?_) (fun b hb => ⟨by have := hb.1; omega, by simpa [World.setCell] using hb.2.1, hb.2.2⟩) hv5
    have hbb : b ≠ w.heap.size := by have := hb.1; omega
    rw [Below.heap_setCell _ _ _ _ hbb, Below.heap_setCell _ _ _ _ hbb, Below.heap_setCell _ _ _ _ hbb, Below.heap_setCell _ _ _ _ hbb, Below.heap_setCell _ _ _ _ hbb]
  have n42 : Hid (¬ Lx.hd ts1 = Lx.tStar) := hm
  clear hm
  by_cases hm : Lx.hd ts1 = Lx.tPlus
  · have HPM : Hid _ := HP _ _ (pMark_plus hm)
    have HM : Hid (Lx.hd ts1 = Lx.tPlus) := hm
    have HKN : Hid (Lx.known (Lx.hd ts1) = true) := by show _ = _; rw [hm]; decide
    have HNN : Hid (Lx.hd ts1 ≠ Lx.noText) := by show _ ≠ _; rw [hm]; decide
    have c2 : w1.cell? ⟨q, 2, none⟩ = some (.string ⟨#[43]⟩) := by
      have := h3.blk.cell 2; rw [this]; simp only [rblk]; rw [Lx.refW_known HKN.out, HM.out]; rfl
    have h4 := h3.other (b := w.heap.size + 1) 2 (.int .u8 43) (by omega) f1C
    have kC4 := kC1.set 2 (.int .u8 43)
    have kB4 := kB1.other (b' := w.heap.size + 1) (i := 2) (by omega) (.int .u8 43)
    have M4 := M1.new (b := w.heap.size + 1) (by omega) 2 (.int .u8 43)
    have d2 : w1.cell? ⟨w.heap.size + 1, 2, none⟩ = some (.int .u8 0) := kC1.cell 2
    have fz1 : ∀ i, w1.frozen? ⟨w.heap.size + 1, i, none⟩ = false := kC1.frozen
    have hv4 : AltsIn YR d (Fp (w.heap.size + 2) sg1 (w1.setCell ⟨w.heap.size + 1, 2, none⟩ (.int .u8 43))) (w1.setCell ⟨w.heap.size + 1, 2, none⟩ (.int .u8 43)) (.slice none 0 0) L :=
      AltsIn.move (fun b hb => Below.heap_setCell _ _ _ _ (fun e => by have e' : b = w.heap.size + 1 := e; have := hb.1; omega)) (fun b hb => ⟨hb.1, by simpa [World.setCell] using hb.2.1, hb.2.2⟩) hv1
    clear hm HP hv1
    go_wp2_with fail
    refine (is_rr h3 Lx.tStar (by decide) (by decide)).mono ?_
    rintro e w' ⟨rfl, hw⟩; obtain rfl := hw.symm; rw [decide_eq_false (by rw [HM.out]; decide)]
    go_wp2_with fail
    refine (is_rr h3 Lx.tPlus (by decide) (by decide)).mono ?_
    rintro e w' ⟨rfl, hw⟩; obtain rfl := hw.symm; rw [decide_eq_true HM.out]
    go_wp2_with fail
    refine (next_rr h4 HKN.out HNN.out).mono ?_
    rintro e w5 ⟨rfl, sg5, m5, x5, h5⟩
    have f5B := x5.keep (b := w.heap.size) kB4.lt f1B
    have kCf := kC4.mv m5 (by omega) f1C
    have kBf := kB4.mv m5 (by omega) f1B
    have hv5 : AltsIn YR d (Fp (w.heap.size + 2) sg5 w5) w5 (.slice none 0 0) L := AltsIn.move (fun b hb => m5.block b hb.2.1 (fun e => by have := hb.1; omega) hb.2.2) (fun b hb => ⟨hb.1, Nat.lt_of_lt_of_le hb.2.1 m5.size, x5.keep hb.2.1 hb.2.2⟩) hv4
    have M5 := M4.trans X1 m5
    have X5 := X1.trans M4.size x5
    have kBz := kBf
    have d0 : w5.cell? ⟨w.heap.size + 1, 0, none⟩ = some (.int .i64 1) := kCf.cell 0
    have d1 : w5.cell? ⟨w.heap.size + 1, 1, none⟩ = some (.string (Lx.hd ts)) := kCf.cell 1
    have d2 : w5.cell? ⟨w.heap.size + 1, 2, none⟩ = some (.int .u8 43) := kCf.cell 2
    have d3 : w5.cell? ⟨w.heap.size + 1, 3, none⟩ = some (.slice none 0 0) := kCf.cell 3
    have d4 : w5.cell? ⟨w.heap.size + 1, 4, none⟩ = some (.int .i64 (Lx.pl ts : Int)) := kCf.cell 4
    have e0 : w5.cell? ⟨w.heap.size, 0, none⟩ = some (.int .i64 0) := kBf.cell 0
    have e1 : w5.cell? ⟨w.heap.size, 1, none⟩ = some (.string ⟨#[]⟩) := kBf.cell 1
    have e2 : w5.cell? ⟨w.heap.size, 2, none⟩ = some (.int .u8 0) := kBf.cell 2
    have e3 : w5.cell? ⟨w.heap.size, 3, none⟩ = some (.slice none 0 0) := kBf.cell 3
    have e4 : w5.cell? ⟨w.heap.size, 4, none⟩ = some (.int .i64 0) := kBf.cell 4
    have ff2 : ∀ i, w5.frozen? ⟨w.heap.size, i, none⟩ = false := kBf.frozen
    clear kC4 kB4 kC1 kB1 h4 h3 hv4 c2
    go_wp2_with fail
    refine bodyPost_ret (v := .agg #[(.int .i64 1), (.string (Lx.hd ts)), .int .u8 43, (.slice none 0 0), .int .i64 (Lx.pl ts : Int)]) (by simp [results, Try.results71, go_sem, e0, e1, e2, e3, e4]) rfl ?_
    refine REnds.yes HPM.out (((((M5.new (Nat.le_refl _) _ _).new (Nat.le_refl _) _ _).new (Nat.le_refl _) _ _).new (Nat.le_refl _) _ _).new (Nat.le_refl _) _ _) X5 (((((h5.other _ _ (by omega) f5B).other _ _ (by omega) f5B).other _ _ (by omega) f5B).other _ _ (by omega) f5B).other _ _ (by omega) f5B) ⟨_, rfl, ?_⟩
    refine AltsIn.move (fun b hb => ?_) (fun b hb => ⟨by have := hb.1; omega, by simpa [World.setCell] using hb.2.1, hb.2.2⟩) hv5
    have hbb : b ≠ w.heap.size := by have := hb.1; omega
    rw [Below.heap_setCell _ _ _ _ hbb, Below.heap_setCell _ _ _ _ hbb, Below.heap_setCell _ _ _ _ hbb, Below.heap_setCell _ _ _ _ hbb, Below.heap_setCell _ _ _ _ hbb]
  have n43 : Hid (¬ Lx.hd ts1 = Lx.tPlus) := hm
  clear hm
  by_cases hm : Lx.hd ts1 = Lx.tAsk
  · have HPM : Hid _ := HP _ _ (pMark_ask hm)
    have HM : Hid (Lx.hd ts1 = Lx.tAsk) := hm
    have HKN : Hid (Lx.known (Lx.hd ts1) = true) := by show _ = _; rw [hm]; decide
    have HNN : Hid (Lx.hd ts1 ≠ Lx.noText) := by show _ ≠ _; rw [hm]; decide
    have c2 : w1.cell? ⟨q, 2, none⟩ = some (.string ⟨#[63]⟩) := by
      have := h3.blk.cell 2; rw [this]; simp only [rblk]; rw [Lx.refW_known HKN.out, HM.out]; rfl
    have h4 := h3.other (b := w.heap.size + 1) 2 (.int .u8 63) (by omega) f1C
    have kC4 := kC1.set 2 (.int .u8 63)
    have kB4 := kB1.other (b' := w.heap.size + 1) (i := 2) (by omega) (.int .u8 63)
    have M4 := M1.new (b := w.heap.size + 1) (by omega) 2 (.int .u8 63)
    have d2 : w1.cell? ⟨w.heap.size + 1, 2, none⟩ = some (.int .u8 0) := kC1.cell 2
    have fz1 : ∀ i, w1.frozen? ⟨w.heap.size + 1, i, none⟩ = false := kC1.frozen
    have hv4 : AltsIn YR d (Fp (w.heap.size + 2) sg1 (w1.setCell ⟨w.heap.size + 1, 2, none⟩ (.int .u8 63))) (w1.setCell ⟨w.heap.size + 1, 2, none⟩ (.int .u8 63)) (.slice none 0 0) L :=
      AltsIn.move (fun b hb => Below.heap_setCell _ _ _ _ (fun e => by have e' : b = w.heap.size + 1 := e; have := hb.1; omega)) (fun b hb => ⟨hb.1, by simpa [World.setCell] using hb.2.1, hb.2.2⟩) hv1
    clear hm HP hv1
    go_wp2_with fail
    refine (is_rr h3 Lx.tStar (by decide) (by decide)).mono ?_
    rintro e w' ⟨rfl, hw⟩; obtain rfl := hw.symm; rw [decide_eq_false (by rw [HM.out]; decide)]
    go_wp2_with fail
    refine (is_rr h3 Lx.tPlus (by decide) (by decide)).mono ?_
    rintro e w' ⟨rfl, hw⟩; obtain rfl := hw.symm; rw [decide_eq_false (by rw [HM.out]; decide)]
    go_wp2_with fail
    refine (is_rr h3 Lx.tAsk (by decide) (by decide)).mono ?_
    rintro e w' ⟨rfl, hw⟩; obtain rfl := hw.symm; rw [decide_eq_true HM.out]
    go_wp2_with fail
    refine (next_rr h4 HKN.out HNN.out).mono ?_
    rintro e w5 ⟨rfl, sg5, m5, x5, h5⟩
    have f5B := x5.keep (b := w.heap.size) kB4.lt f1B
    have kCf := kC4.mv m5 (by omega) f1C
    have kBf := kB4.mv m5 (by omega) f1B
    have hv5 : AltsIn YR d (Fp (w.heap.size + 2) sg5 w5) w5 (.slice none 0 0) L := AltsIn.move (fun b hb => m5.block b hb.2.1 (fun e => by have := hb.1; omega) hb.2.2) (fun b hb => ⟨hb.1, Nat.lt_of_lt_of_le hb.2.1 m5.size, x5.keep hb.2.1 hb.2.2⟩) hv4
    have M5 := M4.trans X1 m5
    have X5 := X1.trans M4.size x5
    have kBz := kBf
    have d0 : w5.cell? ⟨w.heap.size + 1, 0, none⟩ = some (.int .i64 1) := kCf.cell 0
    have d1 : w5.cell? ⟨w.heap.size + 1, 1, none⟩ = some (.string (Lx.hd ts)) := kCf.cell 1
    have d2 : w5.cell? ⟨w.heap.size + 1, 2, none⟩ = some (.int .u8 63) := kCf.cell 2
    have d3 : w5.cell? ⟨w.heap.size + 1, 3, none⟩ = some (.slice none 0 0) := kCf.cell 3
    have d4 : w5.cell? ⟨w.heap.size + 1, 4, none⟩ = some (.int .i64 (Lx.pl ts : Int)) := kCf.cell 4
    have e0 : w5.cell? ⟨w.heap.size, 0, none⟩ = some (.int .i64 0) := kBf.cell 0
    have e1 : w5.cell? ⟨w.heap.size, 1, none⟩ = some (.string ⟨#[]⟩) := kBf.cell 1
    have e2 : w5.cell? ⟨w.heap.size, 2, none⟩ = some (.int .u8 0) := kBf.cell 2
    have e3 : w5.cell? ⟨w.heap.size, 3, none⟩ = some (.slice none 0 0) := kBf.cell 3
    have e4 : w5.cell? ⟨w.heap.size, 4, none⟩ = some (.int .i64 0) := kBf.cell 4
    have ff2 : ∀ i, w5.frozen? ⟨w.heap.size, i, none⟩ = false := kBf.frozen
    clear kC4 kB4 kC1 kB1 h4 h3 hv4 c2
    go_wp2_with fail
    refine bodyPost_ret (v := .agg #[(.int .i64 1), (.string (Lx.hd ts)), .int .u8 63, (.slice none 0 0), .int .i64 (Lx.pl ts : Int)]) (by simp [results, Try.results71, go_sem, e0, e1, e2, e3, e4]) rfl ?_
    refine REnds.yes HPM.out (((((M5.new (Nat.le_refl _) _ _).new (Nat.le_refl _) _ _).new (Nat.le_refl _) _ _).new (Nat.le_refl _) _ _).new (Nat.le_refl _) _ _) X5 (((((h5.other _ _ (by omega) f5B).other _ _ (by omega) f5B).other _ _ (by omega) f5B).other _ _ (by omega) f5B).other _ _ (by omega) f5B) ⟨_, rfl, ?_⟩
    refine AltsIn.move (fun b hb => ?_) (fun b hb => ⟨by have := hb.1; omega, by simpa [World.setCell] using hb.2.1, hb.2.2⟩) hv5
    have hbb : b ≠ w.heap.size := by have := hb.1; omega
    rw [Below.heap_setCell _ _ _ _ hbb, Below.heap_setCell _ _ _ _ hbb, Below.heap_setCell _ _ _ _ hbb, Below.heap_setCell _ _ _ _ hbb, Below.heap_setCell _ _ _ _ hbb]
  have n63 : Hid (¬ Lx.hd ts1 = Lx.tAsk) := hm
  clear hm
  have HPM : Hid _ := HP _ _ (pMark_none n42.out n43.out n63.out)
  clear HP
  go_wp2_with fail
  refine (is_rr h3 Lx.tStar (by decide) (by decide)).mono ?_
  rintro e w' ⟨rfl, hw⟩; obtain rfl := hw.symm; rw [decide_eq_false n42.out]
  go_wp2_with fail
  refine (is_rr h3 Lx.tPlus (by decide) (by decide)).mono ?_
  rintro e w' ⟨rfl, hw⟩; obtain rfl := hw.symm; rw [decide_eq_false n43.out]
  go_wp2_with fail
  refine (is_rr h3 Lx.tAsk (by decide) (by decide)).mono ?_
  rintro e w' ⟨rfl, hw⟩; obtain rfl := hw.symm; rw [decide_eq_false n63.out]
  have kCf := kC1
  have kBf := kB1
  have kBz := kBf
  have d0 : w1.cell? ⟨w.heap.size + 1, 0, none⟩ = some (.int .i64 1) := kCf.cell 0
  have d1 : w1.cell? ⟨w.heap.size + 1, 1, none⟩ = some (.string (Lx.hd ts)) := kCf.cell 1
  have d2 : w1.cell? ⟨w.heap.size + 1, 2, none⟩ = some (.int .u8 0) := kCf.cell 2
  have d3 : w1.cell? ⟨w.heap.size + 1, 3, none⟩ = some (.slice none 0 0) := kCf.cell 3
  have d4 : w1.cell? ⟨w.heap.size + 1, 4, none⟩ = some (.int .i64 (Lx.pl ts : Int)) := kCf.cell 4
  have e0 : w1.cell? ⟨w.heap.size, 0, none⟩ = some (.int .i64 0) := kBf.cell 0
  have e1 : w1.cell? ⟨w.heap.size, 1, none⟩ = some (.string ⟨#[]⟩) := kBf.cell 1
  have e2 : w1.cell? ⟨w.heap.size, 2, none⟩ = some (.int .u8 0) := kBf.cell 2
  have e3 : w1.cell? ⟨w.heap.size, 3, none⟩ = some (.slice none 0 0) := kBf.cell 3
  have e4 : w1.cell? ⟨w.heap.size, 4, none⟩ = some (.int .i64 0) := kBf.cell 4
  have ff2 : ∀ i, w1.frozen? ⟨w.heap.size, i, none⟩ = false := kBf.frozen
  go_wp2_with fail
  refine bodyPost_ret (v := .agg #[(.int .i64 1), (.string (Lx.hd ts)), .int .u8 0, (.slice none 0 0), .int .i64 (Lx.pl ts : Int)]) (by simp [results, Try.results71, go_sem, e0, e1, e2, e3, e4]) rfl ?_
  refine REnds.yes HPM.out (((((M1.new (Nat.le_refl _) _ _).new (Nat.le_refl _) _ _).new (Nat.le_refl _) _ _).new (Nat.le_refl _) _ _).new (Nat.le_refl _) _ _) X1 (((((h3.other _ _ (by omega) f1B).other _ _ (by omega) f1B).other _ _ (by omega) f1B).other _ _ (by omega) f1B).other _ _ (by omega) f1B) ⟨_, rfl, ?_⟩
  refine AltsIn.move (fun b hb => ?_) (fun b hb => ⟨by have := hb.1; omega, by simpa [World.setCell] using hb.2.1, hb.2.2⟩) hv1
  have hbb : b ≠ w.heap.size := by have := hb.1; omega
  rw [Below.heap_setCell _ _ _ _ hbb, Below.heap_setCell _ _ _ _ hbb, Below.heap_setCell _ _ _ _ hbb, Below.heap_setCell _ _ _ _ hbb, Below.heap_setCell _ _ _ _ hbb]
end Go.Proofs.Ytonkcljapkeidaa

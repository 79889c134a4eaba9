import Derived.Test.YtonkcljapkeidaaWF8
namespace Go.Proofs.Ytonkcljapkeidaa
open Go.RowKit
open Lx (Tk)
open Tr
def RVRule (lo : Nat) (sgx : Value) (w' : World) (v : Value) (r : Lx.Rl) : Prop := ∃ va, v = .agg #[.string r.name, va, .int .i64 (r.place : Int)] ∧ AltsIn YR 9 (Fp lo sgx w') w' va r.alts
def XRule (v : Value) : Prop := ∃ n a l c p, v = .agg #[.string n, .slice a l c, .int .i64 p]
theorem RR.drew {s : ByteArray} {q : Nat} {w : World} {ts : List Tk} {nest : Int} {sgv : Value} {sg : List ByteArray} (h : RR s q w ts nest sgv sg) : RR s q w.drew ts nest sgv sg := h.move rfl fun _ _ => rfl
theorem RX.drew {s : ByteArray} {q : Nat} {w : World} {n a : Nat} {nest : Int} {sgv : Value} {sg : List ByteArray} (h : RX s q w nest n a sgv sg) : RX s q w.drew nest n a sgv sg := h.move rfl fun _ _ => rfl
set_option maxHeartbeats 1000000 in
set_option maxRecDepth 100000 in
theorem rrule_rr (s : ByteArray) (q : Nat) (w : World) (ts : List Tk) (sgv : Value) (sg : List ByteArray) (h : RR s q w ts 0 sgv sg) :
    Calls Try.prog 32 #[.pointer (some ⟨q, 0, none⟩)] w (REnds s q 0 (RVRule w.heap.size) XRule w sgv (Lx.pRule ts)) := by
  have hp := h.lt
  have hwsz := h.wsz
  have kq := h.blk
  have c1 : w.cell? ⟨q, 1, none⟩ = some (.int .i64 (Lx.pl ts : Int)) := kq.cell 1
  have c2 : w.cell? ⟨q, 2, none⟩ = some (.string (Lx.refW (Lx.hd ts))) := kq.cell 2
  have hZ := h.alloc (.cells #[.string ⟨#[]⟩, .slice none 0 0, .int .i64 0] 76)
  have kZ := Blk.new w #[.string ⟨#[]⟩, .slice none 0 0, .int .i64 0] 76
  have MZ := (Mv.refl q sgv w).alloc (.cells #[.string ⟨#[]⟩, .slice none 0 0, .int .i64 0] 76)
  have f0B : sgv.ownBlock ≠ some w.heap.size := h.fresh (Nat.le_refl _)
  have f0X : sgv.ownBlock ≠ some (w.heap.size + 1) := h.fresh (by omega)
  cases hn : Lx.isName (Lx.hd ts)
  · have HN : Hid _ := hn
    have HE : Hid (Lx.pRule ts = .error (2, Lx.pl ts)) := by
      show _ = _; unfold Lx.pRule Lx.pWord; rw [if_neg (by rw [hn]; simp)]
    clear hn
    go_enter Try.func32, Try.ntmps32
    go_wp2_with (first
      | (go_at_call 48; refine (rIsName_any _ _ hwsz).mono ?_; rintro e w' ⟨rfl, hw⟩; obtain rfl := hw.symm; rw [Lx.isName_refW, HN.out]))
    refine (fail_rr hZ 2 (Lx.pl ts) (by decide)).mono ?_
    rintro e w1 ⟨rfl, m1, hx1⟩
    have kB1 := kZ.mv m1 (by omega) f0B
    have e0 : w1.cell? ⟨w.heap.size, 0, none⟩ = some (.string ⟨#[]⟩) := kB1.cell 0
    have e1 : w1.cell? ⟨w.heap.size, 1, none⟩ = some (.slice none 0 0) := kB1.cell 1
    have e2 : w1.cell? ⟨w.heap.size, 2, none⟩ = some (.int .i64 0) := kB1.cell 2
    have ff : ∀ i, w1.frozen? ⟨w.heap.size, i, none⟩ = false := kB1.frozen
    have M1 := MZ.trans (Nx.refl _ _) m1
    go_wp2_with fail
    refine bodyPost_ret (v := .agg #[.string ⟨#[]⟩, .slice none 0 0, .int .i64 0]) (by simp [results, Try.results32, go_sem, e0, e1, e2]) rfl ?_
    exact REnds.no HE.out (((M1.new (Nat.le_refl _) _ _).new (Nat.le_refl _) _ _).new (Nat.le_refl _) _ _) (Nx.refl _ _) (((hx1.other _ _ (by omega) f0B).other _ _ (by omega) f0B).other _ _ (by omega) f0B) ⟨_, _, _, _, _, rfl⟩
  · have HN : Hid _ := hn
    have HK : Hid (Lx.known (Lx.hd ts) = true) := Lx.isName_known hn
    have HNT : Hid (Lx.hd ts ≠ Lx.noText) := by show _ ≠ _; intro e; rw [e] at hn; revert hn; decide
    have HR1 : Hid (Lx.pWord Lx.isName ts = .ok (Lx.hd ts, ts.tail)) := by
      show _ = _; unfold Lx.pWord; rw [if_pos hn]
    have hrf := Lx.refW_known HK.out
    clear hn
    rw [hrf] at c2 hwsz
    clear hrf
    have hX := (hZ.alloc (.cells #[.string (Lx.hd ts), .slice none 0 0, .int .i64 (Lx.pl ts : Int)] 76)).drew
    have kB0 := (kZ.alloc (.cells #[.string (Lx.hd ts), .slice none 0 0, .int .i64 (Lx.pl ts : Int)] 76)).drew
    have kX0 := Blk.new (w.alloc (.cells #[.string ⟨#[]⟩, .slice none 0 0, .int .i64 0] 76)) #[.string (Lx.hd ts), .slice none 0 0, .int .i64 (Lx.pl ts : Int)] 76
    rw [show (w.alloc (.cells #[.string ⟨#[]⟩, .slice none 0 0, .int .i64 0] 76)).heap.size = w.heap.size + 1 by simp] at kX0
    have kX0 := kX0.drew
    have M0 := (MZ.alloc (.cells #[.string (Lx.hd ts), .slice none 0 0, .int .i64 (Lx.pl ts : Int)] 76)).drew
    go_enter Try.func32, Try.ntmps32
    go_wp2_with (first
      | (go_at_call 48; refine (rIsName_any _ _ hwsz).mono ?_; rintro e w' ⟨rfl, hw⟩; obtain rfl := hw.symm; rw [HN.out]))
    go_region
    go_wp2_with fail
    refine (next_rr hX HK.out HNT.out).mono ?_
    rintro e w1 ⟨rfl, sg1, m1, x1, h1⟩
    have f1B := x1.keep (b := w.heap.size) kB0.lt f0B
    have f1X := x1.keep (b := w.heap.size + 1) kX0.lt f0X
    have kB1 := kB0.mv m1 (by omega) f0B
    have kX1 := kX0.mv m1 (by omega) f0X
    have M1 := M0.trans (Nx.refl _ _) m1
    have X1 := (Nx.refl sgv w).trans M0.size x1
    go_wp2_with fail
    refine (must_rr h1 Lx.tEq (by decide) (by decide)).mono ?_
    intro e w2 he
    cases hr2 : Lx.pMust Lx.tEq ts.tail with
    | error x =>
      obtain ⟨n, a⟩ := x
      obtain ⟨v2, sg2, sl2, rfl, m2, x2, h2, rfl⟩ := he.err hr2
      have HE : Hid (Lx.pRule ts = .error (n, a)) := by show _ = _; unfold Lx.pRule; simp only [HR1.out, hr2]
      clear hr2 he
      have f2B := x2.keep (b := w.heap.size) kB1.lt f1B
      have f2X := x2.keep (b := w.heap.size + 1) kX1.lt f1X
      have kB2 := kB1.mv m2 (by omega) f1B
      have kX2 := kX1.mv m2 (by omega) f1X
      have M2 := M1.trans X1 m2
      have X2 := X1.trans M1.size x2
      go_wp2_with fail
      refine (ralts_rx true s q _ 0 n a _ _ h2).mono ?_
      rintro e w3 ⟨v3, rfl, ⟨va, vk, vc, rfl⟩, m3, h3⟩
      have kX3 := kX2.mv m3 (by omega) f2X
      have kB3 := kB2.mv m3 (by omega) f2B
      have M3 := M2.trans X2 m3
      have X3 := X2
      have f3X := f2X
      have f3B := f2B
      have c31 : w3.cell? ⟨w.heap.size + 1, 1, none⟩ = some (.slice none 0 0) := kX3.cell 1
      have ff3 : ∀ i, w3.frozen? ⟨w.heap.size + 1, i, none⟩ = false := kX3.frozen
      have h3' := h3.other (b := w.heap.size + 1) 1 (.slice va vk vc) (by omega) f3X
      have kX3' := kX3.set 1 (.slice va vk vc)
      have kB3' : Blk (w3.setCell ⟨w.heap.size + 1, 1, none⟩ (.slice va vk vc)) w.heap.size #[.string ⟨#[]⟩, .slice none 0 0, .int .i64 0] 76 := kB3.other (by omega) _
      have M3' := M3.new (b := w.heap.size + 1) (by omega) 1 (.slice va vk vc)
      go_wp2_with fail
      refine (must_rx h3' _).mono ?_
      rintro e w4 ⟨rfl, hw⟩
      obtain rfl := hw.symm
      have kX4 := kX3'
      have kB4 := kB3'
      have M4 := M3'
      have X4 := X3
      have h4 := h3'
      have f4B := f3B
      have d0 : (w3.setCell ⟨w.heap.size + 1, 1, none⟩ (.slice va vk vc)).cell? ⟨w.heap.size + 1, 0, none⟩ = some (.string (Lx.hd ts)) := kX4.cell 0
      have d1 : (w3.setCell ⟨w.heap.size + 1, 1, none⟩ (.slice va vk vc)).cell? ⟨w.heap.size + 1, 1, none⟩ = some (.slice va vk vc) := kX4.cell 1
      have d2 : (w3.setCell ⟨w.heap.size + 1, 1, none⟩ (.slice va vk vc)).cell? ⟨w.heap.size + 1, 2, none⟩ = some (.int .i64 (Lx.pl ts : Int)) := kX4.cell 2
      have e0 : (w3.setCell ⟨w.heap.size + 1, 1, none⟩ (.slice va vk vc)).cell? ⟨w.heap.size, 0, none⟩ = some (.string ⟨#[]⟩) := kB4.cell 0
      have e1 : (w3.setCell ⟨w.heap.size + 1, 1, none⟩ (.slice va vk vc)).cell? ⟨w.heap.size, 1, none⟩ = some (.slice none 0 0) := kB4.cell 1
      have e2 : (w3.setCell ⟨w.heap.size + 1, 1, none⟩ (.slice va vk vc)).cell? ⟨w.heap.size, 2, none⟩ = some (.int .i64 0) := kB4.cell 2
      have ff : ∀ i, (w3.setCell ⟨w.heap.size + 1, 1, none⟩ (.slice va vk vc)).frozen? ⟨w.heap.size, i, none⟩ = false := kB4.frozen
      go_wp2_with fail
      refine bodyPost_ret (v := .agg #[.string (Lx.hd ts), .slice va vk vc, .int .i64 (Lx.pl ts : Int)]) (by simp [results, Try.results32, go_sem, e0, e1, e2]) rfl ?_
      exact REnds.no HE.out (((M4.new (Nat.le_refl _) _ _).new (Nat.le_refl _) _ _).new (Nat.le_refl _) _ _) X4 (((h4.other _ _ (by omega) f4B).other _ _ (by omega) f4B).other _ _ (by omega) f4B) ⟨_, _, _, _, _, rfl⟩
    | ok x =>
      obtain ⟨u2, ts2⟩ := x
      obtain ⟨v2, sg2, sl2, rfl, m2, x2, h2, rfl⟩ := he.ok hr2
      have HR2 : Hid _ := hr2
      clear hr2 he
      have f2B := x2.keep (b := w.heap.size) kB1.lt f1B
      have f2X := x2.keep (b := w.heap.size + 1) kX1.lt f1X
      have kB2 := kB1.mv m2 (by omega) f1B
      have kX2 := kX1.mv m2 (by omega) f1X
      have M2 := M1.trans X1 m2
      have X2 := X1.trans M1.size x2
      go_wp2_with fail
      refine (ralts_at 8 (Nat.le_refl _) s q w2 ts2 0 sg2 sl2 rfl h2).mono ?_
      intro e w3 he
      cases hr3 : Lx.pAlts 8 ts2 with
      | error x =>
        obtain ⟨n, a⟩ := x
        obtain ⟨v3, sg3, sl3, rfl, m3, x3, h3, va, vk, vc, rfl⟩ := he.err hr3
        have HE : Hid (Lx.pRule ts = .error (n, a)) := by show _ = _; unfold Lx.pRule; simp only [HR1.out, HR2.out, hr3]
        clear hr3 he
        have f3B := x3.keep (b := w.heap.size) kB2.lt f2B
        have f3X := x3.keep (b := w.heap.size + 1) kX2.lt f2X
        have kB3 := kB2.mv m3 (by omega) f2B
        have kX3 := kX2.mv m3 (by omega) f2X
        have M3 := M2.trans X2 m3
        have X3 := X2.trans M2.size x3
        have c31 : w3.cell? ⟨w.heap.size + 1, 1, none⟩ = some (.slice none 0 0) := kX3.cell 1
        have ff3 : ∀ i, w3.frozen? ⟨w.heap.size + 1, i, none⟩ = false := kX3.frozen
        have h3' := h3.other (b := w.heap.size + 1) 1 (.slice va vk vc) (by omega) f3X
        have kX3' := kX3.set 1 (.slice va vk vc)
        have kB3' : Blk (w3.setCell ⟨w.heap.size + 1, 1, none⟩ (.slice va vk vc)) w.heap.size #[.string ⟨#[]⟩, .slice none 0 0, .int .i64 0] 76 := kB3.other (by omega) _
        have M3' := M3.new (b := w.heap.size + 1) (by omega) 1 (.slice va vk vc)
        go_wp2_with fail
        refine (must_rx h3' _).mono ?_
        rintro e w4 ⟨rfl, hw⟩
        obtain rfl := hw.symm
        have kX4 := kX3'
        have kB4 := kB3'
        have M4 := M3'
        have X4 := X3
        have h4 := h3'
        have f4B := f3B
        have d0 : (w3.setCell ⟨w.heap.size + 1, 1, none⟩ (.slice va vk vc)).cell? ⟨w.heap.size + 1, 0, none⟩ = some (.string (Lx.hd ts)) := kX4.cell 0
        have d1 : (w3.setCell ⟨w.heap.size + 1, 1, none⟩ (.slice va vk vc)).cell? ⟨w.heap.size + 1, 1, none⟩ = some (.slice va vk vc) := kX4.cell 1
        have d2 : (w3.setCell ⟨w.heap.size + 1, 1, none⟩ (.slice va vk vc)).cell? ⟨w.heap.size + 1, 2, none⟩ = some (.int .i64 (Lx.pl ts : Int)) := kX4.cell 2
        have e0 : (w3.setCell ⟨w.heap.size + 1, 1, none⟩ (.slice va vk vc)).cell? ⟨w.heap.size, 0, none⟩ = some (.string ⟨#[]⟩) := kB4.cell 0
        have e1 : (w3.setCell ⟨w.heap.size + 1, 1, none⟩ (.slice va vk vc)).cell? ⟨w.heap.size, 1, none⟩ = some (.slice none 0 0) := kB4.cell 1
        have e2 : (w3.setCell ⟨w.heap.size + 1, 1, none⟩ (.slice va vk vc)).cell? ⟨w.heap.size, 2, none⟩ = some (.int .i64 0) := kB4.cell 2
        have ff : ∀ i, (w3.setCell ⟨w.heap.size + 1, 1, none⟩ (.slice va vk vc)).frozen? ⟨w.heap.size, i, none⟩ = false := kB4.frozen
        go_wp2_with fail
        refine bodyPost_ret (v := .agg #[.string (Lx.hd ts), .slice va vk vc, .int .i64 (Lx.pl ts : Int)]) (by simp [results, Try.results32, go_sem, e0, e1, e2]) rfl ?_
        exact REnds.no HE.out (((M4.new (Nat.le_refl _) _ _).new (Nat.le_refl _) _ _).new (Nat.le_refl _) _ _) X4 (((h4.other _ _ (by omega) f4B).other _ _ (by omega) f4B).other _ _ (by omega) f4B) ⟨_, _, _, _, _, rfl⟩
      | ok x =>
        obtain ⟨l, ts3⟩ := x
        obtain ⟨v3, sg3, sl3, rfl, m3, x3, h3, hv⟩ := he.ok hr3
        obtain ⟨va, vk, vc, rfl⟩ := AltsIn.form hv
        have HR3 : Hid _ := hr3
        clear hr3 he
        have f3B := x3.keep (b := w.heap.size) kB2.lt f2B
        have f3X := x3.keep (b := w.heap.size + 1) kX2.lt f2X
        have kB3 := kB2.mv m3 (by omega) f2B
        have kX3 := kX2.mv m3 (by omega) f2X
        have M3 := M2.trans X2 m3
        have X3 := X2.trans M2.size x3
        have l2 := kX2.lt
        have c31 : w3.cell? ⟨w.heap.size + 1, 1, none⟩ = some (.slice none 0 0) := kX3.cell 1
        have ff3 : ∀ i, w3.frozen? ⟨w.heap.size + 1, i, none⟩ = false := kX3.frozen
        have h3' := h3.other (b := w.heap.size + 1) 1 (.slice va vk vc) (by omega) f3X
        have kX3' := kX3.set 1 (.slice va vk vc)
        have kB3' : Blk (w3.setCell ⟨w.heap.size + 1, 1, none⟩ (.slice va vk vc)) w.heap.size #[.string ⟨#[]⟩, .slice none 0 0, .int .i64 0] 76 := kB3.other (by omega) _
        have M3' := M3.new (b := w.heap.size + 1) (by omega) 1 (.slice va vk vc)
        go_wp2_with fail
        refine (must_rr h3' Lx.tSemi (by decide) (by decide)).mono ?_
        intro e w4 he
        cases hr4 : Lx.pMust Lx.tSemi ts3 with
        | error x =>
          obtain ⟨n, a⟩ := x
          obtain ⟨v4, sg4, sl4, rfl, m4, x4, h4, rfl⟩ := he.err hr4
          have HE : Hid (Lx.pRule ts = .error (n, a)) := by show _ = _; unfold Lx.pRule; simp only [HR1.out, HR2.out, HR3.out, hr4]
          clear hr4 he
          have f4B := x4.keep (b := w.heap.size) kB3'.lt f3B
          have kB4 := kB3'.mv m4 (by omega) f3B
          have kX4 := kX3'.mv m4 (by omega) f3X
          have M4 := M3'.trans X3 m4
          have X4 := X3.trans M3'.size x4
          have d0 : w4.cell? ⟨w.heap.size + 1, 0, none⟩ = some (.string (Lx.hd ts)) := kX4.cell 0
          have d1 : w4.cell? ⟨w.heap.size + 1, 1, none⟩ = some (.slice va vk vc) := kX4.cell 1
          have d2 : w4.cell? ⟨w.heap.size + 1, 2, none⟩ = some (.int .i64 (Lx.pl ts : Int)) := kX4.cell 2
          have e0 : w4.cell? ⟨w.heap.size, 0, none⟩ = some (.string ⟨#[]⟩) := kB4.cell 0
          have e1 : w4.cell? ⟨w.heap.size, 1, none⟩ = some (.slice none 0 0) := kB4.cell 1
          have e2 : w4.cell? ⟨w.heap.size, 2, none⟩ = some (.int .i64 0) := kB4.cell 2
          have ff : ∀ i, w4.frozen? ⟨w.heap.size, i, none⟩ = false := kB4.frozen
          go_wp2_with fail
          refine bodyPost_ret (v := .agg #[.string (Lx.hd ts), .slice va vk vc, .int .i64 (Lx.pl ts : Int)]) (by simp [results, Try.results32, go_sem, e0, e1, e2]) rfl ?_
          exact REnds.no HE.out (((M4.new (Nat.le_refl _) _ _).new (Nat.le_refl _) _ _).new (Nat.le_refl _) _ _) X4 (((h4.other _ _ (by omega) f4B).other _ _ (by omega) f4B).other _ _ (by omega) f4B) ⟨_, _, _, _, _, rfl⟩
        | ok x =>
          obtain ⟨u4, ts4⟩ := x
          obtain ⟨v4, sg4, sl4, rfl, m4, x4, h4, rfl⟩ := he.ok hr4
          have HP : Hid (Lx.pRule ts = .ok (⟨Lx.hd ts, l, Lx.pl ts⟩, ts4)) := by show _ = _; unfold Lx.pRule; simp only [HR1.out, HR2.out, HR3.out, hr4]
          clear hr4 he
          have f4B := x4.keep (b := w.heap.size) kB3'.lt f3B
          have kB4 := kB3'.mv m4 (by omega) f3B
          have kX4 := kX3'.mv m4 (by omega) f3X
          have M4 := M3'.trans X3 m4
          have X4 := X3.trans M3'.size x4
          have d0 : w4.cell? ⟨w.heap.size + 1, 0, none⟩ = some (.string (Lx.hd ts)) := kX4.cell 0
          have d1 : w4.cell? ⟨w.heap.size + 1, 1, none⟩ = some (.slice va vk vc) := kX4.cell 1
          have d2 : w4.cell? ⟨w.heap.size + 1, 2, none⟩ = some (.int .i64 (Lx.pl ts : Int)) := kX4.cell 2
          have e0 : w4.cell? ⟨w.heap.size, 0, none⟩ = some (.string ⟨#[]⟩) := kB4.cell 0
          have e1 : w4.cell? ⟨w.heap.size, 1, none⟩ = some (.slice none 0 0) := kB4.cell 1
          have e2 : w4.cell? ⟨w.heap.size, 2, none⟩ = some (.int .i64 0) := kB4.cell 2
          have ff : ∀ i, w4.frozen? ⟨w.heap.size, i, none⟩ = false := kB4.frozen
          go_wp2_with fail
          refine bodyPost_ret (v := .agg #[.string (Lx.hd ts), .slice va vk vc, .int .i64 (Lx.pl ts : Int)]) (by simp [results, Try.results32, go_sem, e0, e1, e2]) rfl ?_
          refine REnds.yes HP.out (((M4.new (Nat.le_refl _) _ _).new (Nat.le_refl _) _ _).new (Nat.le_refl _) _ _) X4 (((h4.other _ _ (by omega) f4B).other _ _ (by omega) f4B).other _ _ (by omega) f4B) ⟨_, rfl, ?_⟩
          have sS : (w3.setCell ⟨w.heap.size + 1, 1, none⟩ (.slice va vk vc)).heap.size = w3.heap.size := by simp [World.setCell]
          have s4 := m4.size
          refine AltsIn.move (fun b hb => ?_) (fun b hb => ⟨by have := hb.1; omega, by have := hb.2.1; simp [World.setCell]; rw [sS] at s4; omega, x4.keep (by rw [sS]; exact hb.2.1) hb.2.2⟩) hv
          have hb1 := hb.1
          have hbb : b ≠ w.heap.size := by omega
          have hbc : b ≠ w.heap.size + 1 := by omega
          rw [Below.heap_setCell _ _ _ _ hbb, Below.heap_setCell _ _ _ _ hbb, Below.heap_setCell _ _ _ _ hbb, m4.block b (by rw [sS]; exact hb.2.1) (by omega) hb.2.2, Below.heap_setCell _ _ _ _ hbc]
end Go.Proofs.Ytonkcljapkeidaa

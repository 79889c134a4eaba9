import Derived.Test.YtonkcljapkeidaaWF7
namespace Go.Proofs.Ytonkcljapkeidaa
open Go.RowKit
open Lx (Tk)
open Tr
section
variable {α : Type} {B : Nat} {sgx sgx1 : Value} {w w' : World} {e s : Nat} {c : Value × α → List Value} {K : (Nat → Prop) → World → Value → α → Prop} {v : Value} {l : List α} {q : Nat}
theorem RGrowBy.one (hm : Movable K) {w1 w2 : World} (x : Value × α) (hB : B ≤ w.heap.size) (h1 : w.heap.size ≤ w1.heap.size) (ho1 : ∀ g, sgx1.ownBlock = some g → g < w1.heap.size) (hx : K (Fp w.heap.size sgx1 w1) w1 x.1 x.2) (hc : (c x).length = s) (g2 : w1.grownBy w2 none) :
    RGrowBy B sgx1 (w2.alloc (.cells (c x).toArray e)) e s c K (.slice (some ⟨w2.heap.size, 0, none⟩) 1 1) [x.2] [x] (Fp w.heap.size sgx1 w1) := by
  have s2 := g2.size
  refine ⟨⟨rfl, ⟨by simp [hc], .inr ⟨w2.heap.size, 1, (c x).toArray, rfl, by omega, heap_alloc_new w2 _, Nat.le_refl _, by unfold maxLen; omega, by simp [hc], ?_⟩⟩, ?_, ?_, ?_⟩, ?_, ?_⟩
  · simp only [List.length_cons, List.length_nil, List.flatMap_cons, List.flatMap_nil, List.append_nil]
    exact List.take_of_length_le (by omega)
  · intro q' hq'
    simp at hq'; subst hq'
    exact hm _ _ w1 _ _ _ (fun b hb => by rw [Below.heap_alloc _ _ _ (by have := hb.2.1; omega), g2.block b hb.2.1 (by simp)]) (fun _ h => h) hx
  · intro b hb
    have := hb.1; have := hb.2.1
    simp; omega
  · intro g hg hF
    have : w2.heap.size = g := by simpa [Value.ownBlock] using hg
    have := hF.2.1
    omega
  · exact fun b hb => hb.2.2
  · intro g hg e'
    have : w2.heap.size = g := by simpa [Value.ownBlock] using hg
    have := ho1 _ e'
    omega
theorem RGrowBy.push2 {ps : List (Value × α)} {F : Nat → Prop} {A : Nat} (hm : Movable K) (h : RGrowBy B sgx w e s c K v l ps F) (hq : q < B) (hB : B ≤ w.heap.size) (hA : A < w.heap.size) (hFA : ¬ F A) {w1 w2 w3 : World} (g1 : Mv q sgx w w1) (n1 : Nx sgx w sgx1) (ho1 : ∀ g, sgx1.ownBlock = some g → g < w1.heap.size) (x : Value × α)
    (hx : K (Fp w.heap.size sgx1 w1) w1 x.1 x.2) (g2 : w1.grownBy w2 (some A)) {g cap : Nat} (ho : w3.ownsRow B e s (.slice (some ⟨g, 0, none⟩) (l.length + 1) cap) (l.length + 1) (ps.flatMap c ++ c x))
    (g3 : w2.grownBy w3 v.ownBlock) (ha : v.ownBlock = some g ∨ g = w2.heap.size) : RGrowBy B sgx1 w3 e s c K (.slice (some ⟨g, 0, none⟩) (l.length + 1) cap) (l ++ [x.2]) (ps ++ [x]) (fun b => F b ∨ Fp w.heap.size sgx1 w1 b) := by
  obtain ⟨⟨h1, h2, h3, h4, h5⟩, h6, h7⟩ := h
  have s1 := g1.size
  have s2 := g2.size
  have s3 := g3.size
  have e1 : ∀ b, F b → w3.heap[b]? = w.heap[b]? := fun b hF => by
    have hb := h4 b hF
    rw [g3.block b (by omega) (fun e => h5 b e.symm hF), g2.block b (by omega) (fun e => hFA (by cases e; exact hF)), g1.block b hb.2 (by omega) (h6 b hF)]
  have e2 : ∀ b, Fp w.heap.size sgx1 w1 b → w3.heap[b]? = w1.heap[b]? := fun b hI => by
    rw [g3.block b (by have := hI.2.1; omega) (fun e => by have := (h2.lt b e.symm).2; have := hI.1; omega), g2.block b hI.2.1 (fun e => by cases e; have := hI.1; omega)]
  refine ⟨⟨?_, ?_, ?_, ?_, ?_⟩, ?_, ?_⟩
  · rw [List.map_append, h1]; rfl
  · rw [List.flatMap_append, List.length_append]; simpa using ho
  · intro q' hq'
    rcases List.mem_append.1 hq' with h' | h'
    · exact hm F _ w w3 _ _ e1 (fun _ h => .inl h) (h3 q' h')
    · simp at h'; subst h'
      exact hm _ _ w1 w3 _ _ e2 (fun _ h => .inr h) hx
  · intro b hb
    rcases hb with hb | hb
    · have := h4 b hb; omega
    · have := hb.1; have := hb.2.1; omega
  · intro g' hg'
    have : g = g' := by simpa [Value.ownBlock] using hg'
    subst this
    rintro (hF | hI)
    · rcases ha with ha | ha
      · exact h5 _ ha hF
      · have := h4 _ hF; omega
    · rcases ha with ha | ha
      · have := (h2.lt _ ha).2; have := hI.1; omega
      · have := hI.2.1; omega
  · intro b hb
    rcases hb with hb | hb
    · exact n1.keep (h4 b hb).2 (h6 b hb)
    · exact hb.2.2
  · intro g' hg'
    have : g = g' := by simpa [Value.ownBlock] using hg'
    subst this
    rcases ha with ha | ha
    · exact n1.keep (h2.lt _ ha).2 (h7 _ ha)
    · intro e'; have := ho1 _ e'; omega
end
abbrev KIr (d : Nat) : (Nat → Prop) → World → Value → Lx.Alt → Prop := fun F w vi a => ItemsIn YR d F w vi a.1
set_option maxHeartbeats 1000000 in
set_option maxRecDepth 100000 in
theorem ralts_rx (t : Bool) (s : ByteArray) (q : Nat) (w : World) (nest : Int) (n a : Nat) (sgv : Value) (sg : List ByteArray) (h : RX s q w nest n a sgv sg) :
    Calls Try.prog 49 #[.pointer (some ⟨q, 0, none⟩), .bool t] w fun e w' => ∃ v, e = .returned v ∧ XAlts v ∧ Mv q sgv w w' ∧ RX s q w' nest n a sgv sg := by
  have hp := h.lt
  go_enter Try.func49, Try.ntmps49
  go_wp2_with fail
  refine (ralt_rx t s q _ nest n a sgv sg h).mono ?_
  rintro e w1 ⟨rfl, m1, h1⟩
  have M2 := (m1.alloc (.cells #[.slice none 0 0, .string ⟨#[]⟩, .int .i64 0] 98)).alloc (.cells #[.slice none 0 0, .string ⟨#[]⟩, .int .i64 0] 98)
  have h2 := (h1.alloc (.cells #[.slice none 0 0, .string ⟨#[]⟩, .int .i64 0] 98)).alloc (.cells #[.slice none 0 0, .string ⟨#[]⟩, .int .i64 0] 98)
  go_wp2_with fail
  go_loopg [6] 0 (fun k v wr => (∃ xa xk xc, v = .slice xa xk xc) ∧ Mv q sgv w wr ∧ RX s q wr nest n a sgv sg)
  case atStart => exact ⟨⟨_, _, _, rfl⟩, M2, h2⟩
  case round =>
    obtain ⟨⟨xa, xk, xc, rfl⟩, M3, h3⟩ := hrel
    go_wp2_with (first
      | (go_at_call 59; refine (has_rx h3 _).mono ?_; rintro e w' ⟨rfl, hw⟩; obtain rfl := hw.symm))
    go_ret
    exact ⟨_, rfl, ⟨_, _, _, rfl⟩, M3, h3⟩
set_option maxHeartbeats 2000000 in
set_option maxRecDepth 100000 in
theorem ralts_all {d : Nat} (HA : RAltSaid d) : RAltsSaid d := by
  intro s q w ts nest sgv sg hnest h
  obtain ⟨i0, hi, hz0, hz1, hz2⟩ := info_parts Try.info98
  have hp := h.lt
  have HO : Hid (nest = 8 - (d : Int)) := hnest
  have hcnt := h.cnt
  clear hnest
  have HE : Hid _ := Lx.pAlts_eq d ts
  go_enter Try.func49, Try.ntmps49
  go_wp2_with fail
  refine (HA s q w ts nest sgv sg HO.out h).mono ?_
  intro e w1 he
  cases hr1 : Lx.pAlt (Lx.pGroupAt d) (d == 8) ts with
  | error x =>
    obtain ⟨n, a⟩ := x
    obtain ⟨v1, sg1, sl1, rfl, m1, x1, hx1, xa, xl, xc, xb, xp, rfl⟩ := he.err hr1
    have HPE : Hid (Lx.pAlts d ts = .error (n, a)) := by show _ = _; rw [HE.out]; unfold Lx.pAltsBy; rw [hr1]
    have M2 := (m1.alloc (.cells #[.slice xa xl xc, .string xb, .int .i64 xp] 98)).alloc (.cells #[.slice xa xl xc, .string xb, .int .i64 xp] 98)
    have h2 := (hx1.alloc (.cells #[.slice xa xl xc, .string xb, .int .i64 xp] 98)).alloc (.cells #[.slice xa xl xc, .string xb, .int .i64 xp] 98)
    clear hr1 he HE
    go_wp2_with fail
    go_loopg [6] 0 (fun k v wr => (∃ xa xk xc, v = .slice xa xk xc) ∧ Mv q sgv w wr ∧ RX s q wr nest n a sg1 sl1)
    case atStart => exact ⟨⟨_, _, _, rfl⟩, M2, h2⟩
    case round =>
      obtain ⟨⟨xa, xk, xc, rfl⟩, M3, h3⟩ := hrel
      go_wp2_with (first
        | (go_at_call 59; refine (has_rx h3 _).mono ?_; rintro e w' ⟨rfl, hw⟩; obtain rfl := hw.symm))
      go_ret
      exact REnds.no HPE.out M3 x1 h3 ⟨_, _, _, rfl⟩
  | ok x =>
    obtain ⟨a1, ts1⟩ := x
    obtain ⟨v1, sg1, sl1, rfl, m1, x1, hrr1, vi, rfl, hv⟩ := he.ok hr1
    have hl1 := Lx.pAlt_len (Lx.pGroupAt_len d) hr1
    have HP1 : Hid (Lx.pAlts d ts = Lx.pMore (Lx.pGroupAt d) (d == 8) ts1.length ts1 [a1]) := by
      show _ = _; rw [HE.out]; unfold Lx.pAltsBy; rw [hr1]
    obtain ⟨va, vk, vc, rfl⟩ := ItemsIn.form hv
    have s1 := m1.size
    have hrA := (hrr1.alloc (.cells #[.slice va vk vc, .string a1.2.1, .int .i64 (a1.2.2 : Int)] 98)).alloc (.cells #[.slice va vk vc, .string a1.2.1, .int .i64 (a1.2.2 : Int)] 98)
    have kA0 := (Blk.new w1 #[.slice va vk vc, .string a1.2.1, .int .i64 (a1.2.2 : Int)] 98).alloc (.cells #[.slice va vk vc, .string a1.2.1, .int .i64 (a1.2.2 : Int)] 98)
    have MA := (m1.alloc (.cells #[.slice va vk vc, .string a1.2.1, .int .i64 (a1.2.2 : Int)] 98)).alloc (.cells #[.slice va vk vc, .string a1.2.1, .int .i64 (a1.2.2 : Int)] 98)
    have fA0 : sg1.ownBlock ≠ some w1.heap.size := hrr1.fresh (Nat.le_refl _)
    have G1 := RGrowBy.one (e := 98) (s := 3) (c := YR.cA) (items_movable YR d) (B := w.heap.size) (.slice va vk vc, a1) (Nat.le_refl _) s1 hrr1.owl hv rfl (grown_alloc w1 (.cells #[.slice va vk vc, .string a1.2.1, .int .i64 (a1.2.2 : Int)] 98) none)
    rw [show (w1.alloc (.cells #[.slice va vk vc, .string a1.2.1, .int .i64 (a1.2.2 : Int)] 98)).heap.size = w1.heap.size + 1 by simp] at G1
    have nF : ¬ Fp w.heap.size sg1 w1 w1.heap.size := fun e => by have := e.2.1; omega
    clear hr1 he HE
    go_wp2_with fail
    go_loopg [6] (ts1.length + 1) (fun k v wr => (∃ (tsr : List Tk) (acc : List Lx.Alt) (sgr : Value) (slr : List ByteArray) (f : Nat) (ps : List (Value × Lx.Alt)) (F : Nat → Prop) (ca : Option Addr) (ck cc : Nat) (cb : ByteArray) (cp : Int), tsr.length + 1 = k ∧ tsr.length ≤ f ∧ acc.length + tsr.length ≤ ts.length + 1 ∧ RR s q wr tsr nest sgr slr ∧ Blk wr w1.heap.size #[.slice ca ck cc, .string cb, .int .i64 cp] 98 ∧ sgr.ownBlock ≠ some w1.heap.size ∧
        RGrowBy w.heap.size sgr wr 98 3 YR.cA (KIr d) v acc ps F ∧ ¬ F w1.heap.size ∧ v.ownBlock ≠ some w1.heap.size ∧ Mv q sgv w wr ∧ Nx sgv w sgr ∧ Hid (Lx.pAlts d ts = Lx.pMore (Lx.pGroupAt d) (d == 8) f tsr acc)) ∨
      (∃ (n a : Nat) (sgr : Value) (slr : List ByteArray) (xa : Option Addr) (xk xc : Nat), k = 0 ∧ v = .slice xa xk xc ∧ RX s q wr nest n a sgr slr ∧ Mv q sgv w wr ∧ Nx sgv w sgr ∧ Hid (Lx.pAlts d ts = .error (n, a))))
    case atStart => exact .inl ⟨ts1, [a1], sg1, sl1, ts1.length, _, _, _, _, _, _, _, rfl, Nat.le_refl _, by simp; omega, hrA, kA0, fA0, G1, nF, by simp [Value.ownBlock], MA, x1, HP1⟩
    case round =>
      clear hrA kA0 MA fA0 G1 nF hv
      rcases hrel with ⟨tsr, acc, sgr, slr, f, ps, F, ca, ck, cc, cb, cp, hk, hf, hacc, hr, kA, fA, hrg, hFA, hvA, M, X, hpm⟩ | ⟨n, a, sgr, slr, xa, xk, xc, hk, rfl, hx, M, X, HPE⟩
      · have hne := hr.wf.ne
        obtain ⟨f', rfl⟩ : ∃ f', f = f' + 1 := ⟨f - 1, by omega⟩
        obtain ⟨va', vk', vc', rfl⟩ := own_form hrg.1.2.1
        by_cases hb : Lx.hd tsr = Lx.tBar
        · have HB : Hid (Lx.hd tsr = Lx.tBar) := hb
          clear hb
          have htl := hr.wf.tail_len
          go_wp2_with fail
          refine (has_yes hr Lx.tBar (by decide) (by decide) HB.out).mono ?_
          rintro e w2 ⟨rfl, sg2, m2, x2, hr2⟩
          go_wp2_with fail
          refine (HA s q w2 tsr.tail nest sg2 _ HO.out hr2).mono ?_
          intro e w3 he
          cases hr3 : Lx.pAlt (Lx.pGroupAt d) (d == 8) tsr.tail with
          | error x =>
            obtain ⟨n, a⟩ := x
            obtain ⟨v3, sg3, sl3, rfl, m3, x3, hx3, ya, yl, yc, yb, yp, rfl⟩ := he.err hr3
            have HPE : Hid (Lx.pAlts d ts = .error (n, a)) := by
              show _ = _; rw [hpm.out]; simp only [Lx.pMore]; rw [if_pos HB.out, hr3]
            clear hr3 he hpm
            have f2A := x2.keep (b := w1.heap.size) kA.lt fA
            have kA2 := kA.mv m2 (by omega) fA
            have f3A := x3.keep (b := w1.heap.size) kA2.lt f2A
            have kA3 := kA2.mv m3 (by omega) f2A
            have m23 := m2.trans x2 m3
            have x23 := x2.trans m2.size x3
            have hrg3 := hrg.mv (items_movable YR d) m23 x23 (by omega)
            have M3 := M.trans X m23
            have X3 := X.trans M.size x23
            have sz3 := M3.size
            have szr := M.size
            have c0 : w3.cell? ⟨w1.heap.size, 0, none⟩ = some (.slice ca ck cc) := kA3.cell 0
            have c1 : w3.cell? ⟨w1.heap.size, 1, none⟩ = some (.string cb) := kA3.cell 1
            have c2 : w3.cell? ⟨w1.heap.size, 2, none⟩ = some (.int .i64 cp) := kA3.cell 2
            have ff : ∀ i, w3.frozen? ⟨w1.heap.size, i, none⟩ = false := kA3.frozen
            have lA3 : w1.heap.size < w3.heap.size := kA3.lt
            have hus : (((w3.setCell ⟨w1.heap.size, 0, none⟩ (.slice ya yl yc)).setCell ⟨w1.heap.size, 1, none⟩ (.string yb)).setCell ⟨w1.heap.size, 2, none⟩ (.int .i64 yp)).heap.size = w3.heap.size := by simp [World.setCell]
            have kN := Blk.new (((w3.setCell ⟨w1.heap.size, 0, none⟩ (.slice ya yl yc)).setCell ⟨w1.heap.size, 1, none⟩ (.string yb)).setCell ⟨w1.heap.size, 2, none⟩ (.int .i64 yp)) #[.slice ya yl yc, .string yb, .int .i64 yp] 98
            rw [hus] at kN
            have hownU := own_move (w' := (((w3.setCell ⟨w1.heap.size, 0, none⟩ (.slice ya yl yc)).setCell ⟨w1.heap.size, 1, none⟩ (.string yb)).setCell ⟨w1.heap.size, 2, none⟩ (.int .i64 yp))) hrg3.1.2.1 (fun g hg => by
              have hgA : g ≠ w1.heap.size := fun e => hvA (by rw [hg, e])
              rw [Below.heap_setCell _ _ _ _ hgA, Below.heap_setCell _ _ _ _ hgA, Below.heap_setCell _ _ _ _ hgA])
            have kAU := ((kA3.set 0 (.slice ya yl yc)).set 1 (.string yb)).set 2 (.int .i64 yp)
            have hU := ((hx3.other 0 (.slice ya yl yc) (by omega) f3A).other 1 (.string yb) (by omega) f3A).other 2 (.int .i64 yp) (by omega) f3A
            have MU := ((M3.new (b := w1.heap.size) (by omega) 0 (.slice ya yl yc)).new (b := w1.heap.size) (by omega) 1 (.string yb)).new (b := w1.heap.size) (by omega) 2 (.int .i64 yp)
            go_wp2_with (first
              | (at_builtin; refine wpList_append_lies _ rfl _ _ 74 rfl w.heap.size 98 i0 _ 3 48 Try.underlying74 hi hz0 hz1 hz2 rfl (by decide) (.slice va' vk' vc') acc.length (ps.flatMap YR.cA) rfl (hownU.alloc _) ⟨w3.heap.size, 0, none⟩ 1 1 [.slice ya yl yc, .string yb, .int .i64 yp] rfl rfl (news_of kN) (by simp [Value.oneCell']) (by decide) (by unfold maxLen; omega) (by omega) (by simp [World.setCell]; omega) _ rfl ?_; intro g4 cap4 w4 hown4 hgrow4 hat4 hlt4))
            have hv4 : ∀ k, (Value.slice va' vk' vc').ownBlock = some k → w.heap.size ≤ k := fun k hk => (hrg3.1.2.1.lt _ hk).1
            have kA4 := (kAU.alloc (.cells #[.slice ya yl yc, .string yb, .int .i64 yp] 98)).grown hgrow4 (fun e => hvA e.symm)
            have M4 := (MU.alloc (.cells #[.slice ya yl yc, .string yb, .int .i64 yp] 98)).grown hgrow4 (fun k hk => .inl (hv4 k hk))
            have hU4 := (hU.alloc (.cells #[.slice ya yl yc, .string yb, .int .i64 yp] 98)).move (hgrow4.block q (by simp [World.setCell]; omega) (fun e => by have := hv4 _ e.symm; omega)) (fun g hg => hgrow4.block g (by have := hx3.owl g hg; simp [World.setCell]; omega) (fun e => hrg3.2.2 g e.symm hg))
            go_roundg 0
            case measure => omega
            case rel => exact .inr ⟨n, a, sg3, sl3, _, _, _, rfl, rfl, hU4, M4, X3, HPE⟩
          | ok x =>
            obtain ⟨a3, ts3⟩ := x
            obtain ⟨v3, sg3, sl3, rfl, m3, x3, hr3', vi3, rfl, hv3⟩ := he.ok hr3
            have hl3 := Lx.pAlt_len (Lx.pGroupAt_len d) hr3
            have HP3 : Hid (Lx.pAlts d ts = Lx.pMore (Lx.pGroupAt d) (d == 8) f' ts3 (acc ++ [a3])) := by
              show _ = _; rw [hpm.out]; simp only [Lx.pMore]; rw [if_pos HB.out, hr3]
            obtain ⟨ya, yl, yc, rfl⟩ := ItemsIn.form hv3
            clear hr3 he hpm
            have f2A := x2.keep (b := w1.heap.size) kA.lt fA
            have kA2 := kA.mv m2 (by omega) fA
            have f3A := x3.keep (b := w1.heap.size) kA2.lt f2A
            have kA3 := kA2.mv m3 (by omega) f2A
            have m23 := m2.trans x2 m3
            have x23 := x2.trans m2.size x3
            have hrg3 := hrg.mv (items_movable YR d) m23 x23 (by omega)
            have M3 := M.trans X m23
            have X3 := X.trans M.size x23
            have sz3 := M3.size
            have szr := M.size
            have c0 : w3.cell? ⟨w1.heap.size, 0, none⟩ = some (.slice ca ck cc) := kA3.cell 0
            have c1 : w3.cell? ⟨w1.heap.size, 1, none⟩ = some (.string cb) := kA3.cell 1
            have c2 : w3.cell? ⟨w1.heap.size, 2, none⟩ = some (.int .i64 cp) := kA3.cell 2
            have ff : ∀ i, w3.frozen? ⟨w1.heap.size, i, none⟩ = false := kA3.frozen
            have lA3 : w1.heap.size < w3.heap.size := kA3.lt
            have hus : (((w3.setCell ⟨w1.heap.size, 0, none⟩ (.slice ya yl yc)).setCell ⟨w1.heap.size, 1, none⟩ (.string a3.2.1)).setCell ⟨w1.heap.size, 2, none⟩ (.int .i64 (a3.2.2 : Int))).heap.size = w3.heap.size := by simp [World.setCell]
            have kN := Blk.new (((w3.setCell ⟨w1.heap.size, 0, none⟩ (.slice ya yl yc)).setCell ⟨w1.heap.size, 1, none⟩ (.string a3.2.1)).setCell ⟨w1.heap.size, 2, none⟩ (.int .i64 (a3.2.2 : Int))) #[.slice ya yl yc, .string a3.2.1, .int .i64 (a3.2.2 : Int)] 98
            rw [hus] at kN
            have hownU := own_move (w' := (((w3.setCell ⟨w1.heap.size, 0, none⟩ (.slice ya yl yc)).setCell ⟨w1.heap.size, 1, none⟩ (.string a3.2.1)).setCell ⟨w1.heap.size, 2, none⟩ (.int .i64 (a3.2.2 : Int)))) hrg3.1.2.1 (fun g hg => by
              have hgA : g ≠ w1.heap.size := fun e => hvA (by rw [hg, e])
              rw [Below.heap_setCell _ _ _ _ hgA, Below.heap_setCell _ _ _ _ hgA, Below.heap_setCell _ _ _ _ hgA])
            have kAU := ((kA3.set 0 (.slice ya yl yc)).set 1 (.string a3.2.1)).set 2 (.int .i64 (a3.2.2 : Int))
            have hU := ((hr3'.other 0 (.slice ya yl yc) (by omega) f3A).other 1 (.string a3.2.1) (by omega) f3A).other 2 (.int .i64 (a3.2.2 : Int)) (by omega) f3A
            have MU := ((M3.new (b := w1.heap.size) (by omega) 0 (.slice ya yl yc)).new (b := w1.heap.size) (by omega) 1 (.string a3.2.1)).new (b := w1.heap.size) (by omega) 2 (.int .i64 (a3.2.2 : Int))
            go_wp2_with (first
              | (at_builtin; refine wpList_append_lies _ rfl _ _ 74 rfl w.heap.size 98 i0 _ 3 48 Try.underlying74 hi hz0 hz1 hz2 rfl (by decide) (.slice va' vk' vc') acc.length (ps.flatMap YR.cA) rfl (hownU.alloc _) ⟨w3.heap.size, 0, none⟩ 1 1 [.slice ya yl yc, .string a3.2.1, .int .i64 (a3.2.2 : Int)] rfl rfl (news_of kN) (by simp [Value.oneCell']) (by decide) (by unfold maxLen; omega) (by omega) (by simp [World.setCell]; omega) _ rfl ?_; intro g4 cap4 w4 hown4 hgrow4 hat4 hlt4))
            have hv4 : ∀ k, (Value.slice va' vk' vc').ownBlock = some k → w.heap.size ≤ k := fun k hk => (hrg3.1.2.1.lt _ hk).1
            have kA4 := (kAU.alloc (.cells #[.slice ya yl yc, .string a3.2.1, .int .i64 (a3.2.2 : Int)] 98)).grown hgrow4 (fun e => hvA e.symm)
            have M4 := (MU.alloc (.cells #[.slice ya yl yc, .string a3.2.1, .int .i64 (a3.2.2 : Int)] 98)).grown hgrow4 (fun k hk => .inl (hv4 k hk))
            have hU4 := (hU.alloc (.cells #[.slice ya yl yc, .string a3.2.1, .int .i64 (a3.2.2 : Int)] 98)).move (hgrow4.block q (by simp [World.setCell]; omega) (fun e => by have := hv4 _ e.symm; omega)) (fun g hg => hgrow4.block g (by have := hr3'.owl g hg; simp [World.setCell]; omega) (fun e => hrg3.2.2 g e.symm hg))
            have hv3' : ItemsIn YR d (Fp wr.heap.size sg3 w3) w3 (.slice ya yl yc) a3.1 := ItemsIn.move (fun _ _ => rfl) (fun b hb => ⟨Nat.le_trans m2.size hb.1, hb.2⟩) hv3
            have G4 := RGrowBy.push2 (A := w1.heap.size) (items_movable YR d) hrg (q := q) (by omega) szr kA.lt hFA m23 x23 hr3'.owl (.slice ya yl yc, a3) hv3' (grown_trans (grown_trans (grown_trans (grown_set w3 w1.heap.size 0 _) (grown_set _ w1.heap.size 1 _)) (grown_set _ w1.heap.size 2 _)) (grown_alloc _ _ _)) hown4 hgrow4 hat4
            go_roundg (ts3.length + 1)
            case measure => omega
            case rel =>
              refine .inl ⟨ts3, acc ++ [a3], sg3, sl3, f', _, _, _, _, _, _, _, rfl, by omega, by simp; omega, hU4, kA4, f3A, G4, ?_, ?_, M4, X3, HP3⟩
              · rintro (h1 | h1)
                · exact hFA h1
                · have := h1.1; have := kA.lt; omega
              · intro e
                have e' : g4 = w1.heap.size := by simpa [Value.ownBlock] using e
                rcases hat4 with h1 | h1
                · exact hvA (by rw [h1, e'])
                · have : ((((w3.setCell ⟨w1.heap.size, 0, none⟩ (.slice ya yl yc)).setCell ⟨w1.heap.size, 1, none⟩ (.string a3.2.1)).setCell ⟨w1.heap.size, 2, none⟩ (.int .i64 (a3.2.2 : Int))).alloc (.cells #[.slice ya yl yc, .string a3.2.1, .int .i64 (a3.2.2 : Int)] 98)).heap.size = w3.heap.size + 1 := by simp [World.setCell]
                  omega
        · have HB : Hid (¬ Lx.hd tsr = Lx.tBar) := hb
          clear hb
          go_wp2_with (first
            | (go_at_call 59; refine (has_no hr Lx.tBar (by decide) (by decide) HB.out).mono ?_; rintro e w' ⟨rfl, hw⟩; obtain rfl := hw.symm))
          go_ret
          refine REnds.yes (x := acc) (ts' := tsr) (by rw [hpm.out]; simp only [Lx.pMore]; rw [if_neg HB.out]) M X hr ?_
          exact RGrow.seq (items_movable YR d) ⟨ps, F, hrg⟩
      · go_wp2_with (first
          | (go_at_call 59; refine (has_rx hx _).mono ?_; rintro e w' ⟨rfl, hw⟩; obtain rfl := hw.symm))
        go_ret
        exact REnds.no HPE.out M X hx ⟨_, _, _, rfl⟩
theorem ralts_at : ∀ d, d ≤ 8 → RAltsSaid d
  | 0, _ => ralts_all (ralt_all (ritem_all (by omega) (fun d' h => by omega)))
  | d + 1, h => ralts_all (ralt_all (ritem_all h (fun d' h' => by cases h'; exact ralts_at d (by omega))))
end Go.Proofs.Ytonkcljapkeidaa

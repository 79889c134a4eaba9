import Derived.Test.YtonkcljapkeidaaA9
import Derived.Deep.RegionLaw
namespace Go.Proofs.Ytonkcljapkeidaa
open Go.RowKit
open Lx (Tk)
open Tr
theorem Try.info86 : (Try.prog.info? 86).map (fun i => (i.zero, i.size, i.bytes)) = some (some (.agg #[.int .i64 0, .string ⟨#[]⟩, .int .u8 0, .slice none 0 0]), 4, 56) := by kernel_rfl
theorem Try.info84 : (Try.prog.info? 84).map (fun i => (i.zero, i.size, i.bytes)) = some (some (.agg #[.slice none 0 0, .string ⟨#[]⟩]), 2, 40) := by kernel_rfl
theorem grown_drew (w : World) (r : Option Nat) : w.grownBy w.drew r := ⟨rfl, rfl, rfl, Nat.le_refl _, fun _ _ _ => rfl⟩
theorem Rd.drew {sb cap : Nat} {L : List Tk} {p : Nat} {w : World} {ts : List Tk} {o : Int} (h : Rd sb cap L p w ts o) : Rd sb cap L p w.drew ts o :=
  h.grown (grown_drew w none) (by simp) (by simp)
theorem Blk.drew {w : World} {b : Nat} {cs : Array Value} {e : Nat} (h : Blk w b cs e) : Blk w.drew b cs e := h
theorem step_call {P : Program} {ops : Array Oper} {o : Oper} {a : Act} {w : World} {K : Act → World → Prop} {Q : Exit → Act → World → Prop} {E : Prop} (hgd : o.guard = none) (f : FuncId) (args : Array Value)
    (hrun : (execOp a.eval o).run P w = .ok (.enter f args) w) {R : Ending → World → Prop} (hc : Calls P f args w R) (h : ∀ e w', R e w' → ∃ v, e = .returned v ∧ K (a.put o.dst v) w') :
    if Region.wanted o (yielded ops a.tmps) = true then Oper.wp P o a w K Q else E := by
  have hw : Region.wanted o (yielded ops a.tmps) = true := by simp [Region.wanted, hgd]
  rw [if_pos hw]
  unfold Oper.wp
  rw [hrun, Oper.upon_enter]
  refine hc.mono ?_
  intro e w' hr
  obtain ⟨v, rfl, hk⟩ := h e w' hr
  exact hk
theorem step_panic {P : Program} {ops : Array Oper} {o : Oper} {a : Act} {w : World} {K : Act → World → Prop} {Q : Exit → Act → World → Prop} {E : Prop} (hgd : o.guard = none) (f : FuncId) (args : Array Value)
    (hrun : (execOp a.eval o).run P w = .ok (.enter f args) w) {R : Ending → World → Prop} (hc : Calls P f args w R) (h : ∀ e w', R e w' → ∃ c, e = .panicked c ∧ Q (.panic c) a w') :
    if Region.wanted o (yielded ops a.tmps) = true then Oper.wp P o a w K Q else E := by
  have hw : Region.wanted o (yielded ops a.tmps) = true := by simp [Region.wanted, hgd]
  rw [if_pos hw]
  unfold Oper.wp
  rw [hrun, Oper.upon_enter]
  refine hc.mono ?_
  intro e w' hr
  obtain ⟨v, rfl, hk⟩ := h e w' hr
  exact hk
theorem news_of {w : World} {g : Nat} {cs : Array Value} {e : Nat} (h : Blk w g cs e) : ∀ (j : Nat) (u : Value), cs.toList[j]? = some u → w.cell? ((⟨g, 0, none⟩ : Addr).add j) = some u := by
  intro j u hu
  have hadd : (⟨g, 0, none⟩ : Addr).add j = ⟨g, j, none⟩ := by unfold Addr.add; split <;> simp_all
  rw [hadd, h.cell]
  simpa using hu
theorem grown_append {w u u2 u3 : World} {r s : Option Nat} (h : w.grownBy u s) (h2 : u.grownBy u2 none) (h3 : u2.grownBy u3 r) (hr : ∀ k, r = some k → w.heap.size ≤ k) : w.grownBy u3 s :=
  ⟨h3.os.trans (h2.os.trans h.os), h3.tape.trans (h2.tape.trans h.tape), h3.output.trans (h2.output.trans h.output), Nat.le_trans h.size (Nat.le_trans h2.size h3.size), fun k hk hn =>
    (h3.block k (Nat.lt_of_lt_of_le hk (Nat.le_trans h.size h2.size)) (fun e => by have := hr k e.symm; omega)).trans ((h2.block k (Nat.lt_of_lt_of_le hk h.size) (by simp)).trans (h.block k hk hn))⟩
abbrev KA (d : Nat) : (Nat → Prop) → World → Value → Lx.It → Prop := fun F w va it => AltsIn YP d F w va it.alts
set_option maxHeartbeats 1000000 in
set_option maxRecDepth 100000 in
theorem alt_all {d : Nat} (HI : ItemSaid d) : AltSaid d := by
  intro sb cap L p w ts o ho h
  obtain ⟨i0, hi, hz0, hz1, hz2⟩ := info_parts Try.info86
  have hp := h.lt
  have hs := h.lts
  have HO : Hid (o = 8 - (d : Int)) := ho
  have hlb := h.lb
  have hlen := h.len
  clear ho
  have h2 := (h.alloc (.cells #[.slice none 0 0, .string ⟨#[]⟩] 84)).alloc (.cells #[.slice none 0 0, .string ⟨#[]⟩] 84)
  have kB := (Blk.new w #[.slice none 0 0, .string ⟨#[]⟩] 84).alloc (.cells #[.slice none 0 0, .string ⟨#[]⟩] 84)
  have kC := Blk.new (w.alloc (.cells #[.slice none 0 0, .string ⟨#[]⟩] 84)) #[.slice none 0 0, .string ⟨#[]⟩] 84
  have G0 := grown_trans (grown_alloc w (.cells #[.slice none 0 0, .string ⟨#[]⟩] 84) (some p)) (grown_alloc _ (.cells #[.slice none 0 0, .string ⟨#[]⟩] 84) (some p))
  rw [show (w.alloc (.cells #[.slice none 0 0, .string ⟨#[]⟩] 84)).heap.size = w.heap.size + 1 by simp] at kC
  go_enter Try.func68, Try.ntmps68
  go_wp2_with fail
  go_loopg [] ts.length (fun k wr => ∃ (tsr : List Tk) (acc : List Lx.It) (v : Value) (f : Nat), tsr.length = k ∧ tsr.length ≤ f ∧ acc.length + tsr.length ≤ ts.length ∧ w.heap.size + 2 ≤ wr.heap.size ∧ Rd sb cap L p wr tsr o ∧ Blk wr (w.heap.size + 1) #[v, .string ⟨#[]⟩] 84 ∧ Blk wr w.heap.size #[.slice none 0 0, .string ⟨#[]⟩] 84 ∧
      Grow (w.heap.size + 2) wr 86 4 YP.cI (KA d) v acc ∧ w.grownBy wr (some p) ∧ Hid (Lx.pItems (Lx.pGroupAt d) f tsr acc = Lx.pItems (Lx.pGroupAt d) ts.length ts []))
  case atStart => exact ⟨ts, [], _, ts.length, rfl, Nat.le_refl _, by simp, by simp, h2, kC, kB, Grow.nil _ _ _ _ _ _, G0, rfl⟩
  case round =>
    obtain ⟨tsr, acc, v, f, hk, hf, hacc, hsz, hr, kC1, kB1, hgrow, hg, hpi⟩ := hrel
    clear h2 kB kC G0
    cases hsee : Lx.seesItem tsr
    · have HS : Hid _ := hsee
      clear hsee
      have hpi0 : Lx.pItems (Lx.pGroupAt d) ts.length ts [] = .ok (acc, tsr) := by
        rw [← hpi.out]
        have hne := hr.wf.ne
        obtain ⟨f', rfl⟩ : ∃ f', f = f' + 1 := ⟨f - 1, by omega⟩
        simp only [Lx.pItems]; rw [if_neg (by rw [HS.out]; simp)]
      have HPA : Hid (Lx.pAlt (Lx.pGroupAt d) (d == 8) ts = Lx.pPrec (d == 8) acc tsr) := by
        show _ = _; unfold Lx.pAlt; rw [hpi0]
      clear hpi0 hpi
      have hop := hr.op
      have hseq := hgrow.seq (alts_movable YP d)
      obtain ⟨va, vk, vc, rfl⟩ := Seq.form hseq
      have c0 : wr.cell? ⟨w.heap.size + 1, 0, none⟩ = some (.slice va vk vc) := kC1.cell 0
      have c1 : wr.cell? ⟨w.heap.size + 1, 1, none⟩ = some (.string ⟨#[]⟩) := kC1.cell 1
      have b0 : wr.cell? ⟨w.heap.size, 0, none⟩ = some (.slice none 0 0) := kB1.cell 0
      have b1 : wr.cell? ⟨w.heap.size, 1, none⟩ = some (.string ⟨#[]⟩) := kB1.cell 1
      have fB : ∀ i, wr.frozen? ⟨w.heap.size, i, none⟩ = false := kB1.frozen
      have fC : ∀ i, wr.frozen? ⟨w.heap.size + 1, i, none⟩ = false := kC1.frozen
      by_cases h8 : d = 8
      · have o0 : (o == 0) = true := beq_iff_eq.2 (by have := HO.out; omega)
        by_cases hpr : Lx.hd tsr = Lx.tPrec
        · have hnx : Lx.hd tsr ≠ Lx.noText := by rw [hpr]; decide
          have HPR : Hid (Lx.hd tsr = Lx.tPrec) := hpr
          have H8 : Hid (d = 8) := h8
          clear hpr h8
          go_wp2_with (first
            | (go_at_call 74; refine (seesItem_rd hr).mono ?_; rintro e w' ⟨rfl, hw⟩; obtain rfl := hw.symm; rw [HS.out]))
          refine (passIf_yes hr Lx.tPrec (by decide) HPR.out).mono ?_
          rintro e w1 ⟨rfl, hg1, hr1⟩
          have kC2 := kC1.grown hg1 (by simp; omega)
          have kB2 := kB1.grown hg1 (by simp; omega)
          go_wp2_with fail
          refine (token_rd hr1).mono ?_
          intro e w2 he
          cases hpw : Lx.pWord Lx.isToken tsr.tail with
          | error x =>
            obtain ⟨n, a⟩ := x
            obtain ⟨rfl, hg2⟩ := he.err hpw
            exact ⟨rfl, Ends.no (by rw [HPA.out]; unfold Lx.pPrec; rw [if_pos ⟨by simp [H8.out], HPR.out⟩, hpw]) (grown_trans (grown_trans hg hg1) hg2)⟩
          | ok x =>
            obtain ⟨b, ts2⟩ := x
            obtain ⟨v, rfl, hg2, hr2, rfl⟩ := he.ok hpw
            have HP : Hid (Lx.pAlt (Lx.pGroupAt d) (d == 8) ts = .ok ((acc, b, Lx.pl tsr.tail), ts2)) := by
              show _ = _; rw [HPA.out]; unfold Lx.pPrec; rw [if_pos ⟨by simp [H8.out], HPR.out⟩, hpw]
            clear hpw he
            have kC3 := kC2.grown hg2 (by simp; omega)
            have kB3 := kB2.grown hg2 (by simp; omega)
            have d0 : w2.cell? ⟨w.heap.size + 1, 0, none⟩ = some (.slice va vk vc) := kC3.cell 0
            have d1 : w2.cell? ⟨w.heap.size + 1, 1, none⟩ = some (.string ⟨#[]⟩) := kC3.cell 1
            have e0 : w2.cell? ⟨w.heap.size, 0, none⟩ = some (.slice none 0 0) := kB3.cell 0
            have e1 : w2.cell? ⟨w.heap.size, 1, none⟩ = some (.string ⟨#[]⟩) := kB3.cell 1
            have fB2 : ∀ i, w2.frozen? ⟨w.heap.size, i, none⟩ = false := kB3.frozen
            have fC2 : ∀ i, w2.frozen? ⟨w.heap.size + 1, i, none⟩ = false := kC3.frozen
            go_wp2_with fail
            refine bodyPost_ret (v := .agg #[.slice va vk vc, .string b]) (by simp [results, Try.results68, go_sem, e0, e1]) rfl ?_
            refine Ends.yes HP.out (grown_new (grown_new (grown_new (grown_trans (grown_trans hg hg1) hg2) (by omega) _ _) (Nat.le_refl _) _ _) (Nat.le_refl _) _ _) (((hr2.setOther _ _ (by omega) (by omega)).setOther _ _ (by omega) (by omega)).setOther _ _ (by omega) (by omega)) ⟨_, rfl, ?_⟩
            refine ItemsIn.move (F := In (w.heap.size + 2) wr.heap.size) (w := wr) (fun b hb => ?_) (fun b hb => ?_) hseq
            · have h1 := hb.1
              have h2 := hb.2
              have g1 := hg1.size
              rw [Below.heap_setCell _ _ _ _ (fun e => by have e' : b = w.heap.size := e; omega), Below.heap_setCell _ _ _ _ (fun e => by have e' : b = w.heap.size := e; omega), Below.heap_setCell _ _ _ _ (fun e => by have e' : b = w.heap.size + 1 := e; omega), hg2.block b (by omega) (by simp; omega), hg1.block b h2 (by simp; omega)]
            · have h1 := hb.1
              have h2 := hb.2
              have g1 := hg1.size
              have g2 := hg2.size
              exact ⟨by omega, by simp [World.setCell]; omega⟩
        · have HP : Hid (Lx.pAlt (Lx.pGroupAt d) (d == 8) ts = .ok ((acc, Lx.noText, 0), tsr)) := by
            show _ = _; rw [HPA.out]; unfold Lx.pPrec; rw [if_neg (fun hh => hpr hh.2)]
          have HR : Hid _ := hpr
          clear hpr h8 HPA
          go_wp2_with (first
            | (go_at_call 74; refine (seesItem_rd hr).mono ?_; rintro e w' ⟨rfl, hw⟩; obtain rfl := hw.symm; rw [HS.out])
            | (go_at_call 53; refine (passIf_no hr Lx.tPrec HR.out).mono ?_; rintro e w' ⟨rfl, hw⟩; obtain rfl := hw.symm))
          refine bodyPost_ret (v := .agg #[.slice va vk vc, .string ⟨#[]⟩]) (by simp [results, Try.results68, go_sem, b0, b1]) rfl ?_
          refine Ends.yes HP.out (grown_new (grown_new hg (Nat.le_refl _) _ _) (Nat.le_refl _) _ _) ((hr.setOther _ _ (by omega) (by omega)).setOther _ _ (by omega) (by omega)) ⟨_, rfl, ?_⟩
          refine ItemsIn.move (F := In (w.heap.size + 2) wr.heap.size) (w := wr) (fun b hb => ?_) (fun b hb => ?_) hseq
          · have h1 := hb.1
            rw [Below.heap_setCell _ _ _ _ (fun e => by have e' : b = w.heap.size := e; omega), Below.heap_setCell _ _ _ _ (fun e => by have e' : b = w.heap.size := e; omega)]
          · have h1 := hb.1
            have h2 := hb.2
            exact ⟨by omega, by simpa [World.setCell] using h2⟩
      · have o0 : (o == 0) = false := beq_eq_false_iff_ne.2 (by have := HO.out; omega)
        have HP : Hid (Lx.pAlt (Lx.pGroupAt d) (d == 8) ts = .ok ((acc, Lx.noText, 0), tsr)) := by
          show _ = _; rw [HPA.out]; unfold Lx.pPrec; rw [if_neg (fun hh => h8 (by simpa using hh.1))]
        clear h8 HPA
        go_wp2_with (first
          | (go_at_call 74; refine (seesItem_rd hr).mono ?_; rintro e w' ⟨rfl, hw⟩; obtain rfl := hw.symm; rw [HS.out]))
        refine bodyPost_ret (v := .agg #[.slice va vk vc, .string ⟨#[]⟩]) (by simp [results, Try.results68, go_sem, b0, b1]) rfl ?_
        refine Ends.yes HP.out (grown_new (grown_new hg (Nat.le_refl _) _ _) (Nat.le_refl _) _ _) ((hr.setOther _ _ (by omega) (by omega)).setOther _ _ (by omega) (by omega)) ⟨_, rfl, ?_⟩
        refine ItemsIn.move (F := In (w.heap.size + 2) wr.heap.size) (w := wr) (fun b hb => ?_) (fun b hb => ?_) hseq
        · have h1 := hb.1
          rw [Below.heap_setCell _ _ _ _ (fun e => by have e' : b = w.heap.size := e; omega), Below.heap_setCell _ _ _ _ (fun e => by have e' : b = w.heap.size := e; omega)]
        · have h1 := hb.1
          have h2 := hb.2
          exact ⟨by omega, by simpa [World.setCell] using h2⟩
    · have HS : Hid _ := hsee
      clear hsee
      obtain ⟨ps, F, hgb⟩ := hgrow
      have hown := hgb.2.1
      obtain ⟨va, vk, vc, rfl⟩ := own_form hown
      have c0 : wr.cell? ⟨w.heap.size + 1, 0, none⟩ = some (.slice va vk vc) := kC1.cell 0
      have f0 : ∀ i, wr.frozen? ⟨w.heap.size + 1, i, none⟩ = false := kC1.frozen
      have hrD := hr.drew
      have hgD := grown_trans hg (grown_drew wr (some p))
      have hne := hr.wf.ne
      obtain ⟨f', rfl⟩ : ∃ f', f = f' + 1 := ⟨f - 1, by omega⟩
      cases hit : Lx.pItem (Lx.pGroupAt d) tsr with
      | error x =>
        obtain ⟨n, a⟩ := x
        have HE : Hid (Lx.pAlt (Lx.pGroupAt d) (d == 8) ts = .error (n, a)) := by
          show _ = _
          unfold Lx.pAlt
          rw [← hpi.out]
          simp only [Lx.pItems]
          rw [if_pos HS.out, hit]
        have HIT : Hid _ := hit
        clear hit hpi
        go_wp2_with (first
          | (go_at_call 74; refine (seesItem_rd hr).mono ?_; rintro e w' ⟨rfl, hw⟩; obtain rfl := hw.symm; rw [HS.out]))
        refine wp_region_any (by kernel_rfl) ?_
        refine wpAny_take (i := 0) (v := .pointer (some ⟨w.heap.size + 1, 0, none⟩)) rfl (by kernel_rfl) (by kernel_rfl) (by kernel_rfl) (fun _ _ _ h => h) (Or.inl ⟨by rfl, fun w => by go_simp⟩) ?_
        refine wpAny_take (i := 2) (v := .pointer (some ⟨p, 0, none⟩)) rfl (by kernel_rfl) (by kernel_rfl) (by kernel_rfl) (fun _ _ _ h => h) (Or.inl ⟨by rfl, fun w => by go_simp⟩) ?_
        refine wpAny_ready (rs := [1, 3]) (by kernel_rfl) (by simp) ?_
        refine AllReady.cons rfl (fun K hK => ?_) (AllReady.cons rfl (fun K hK => ?_) AllReady.nil)
        · change if _ then Oper.wp _ _ _ wr.drew _ _ else _
          go_simp
          refine hK _ _ ?_
          clear hK K
          refine wpAny_ready (rs := [3]) (by kernel_rfl) (by simp) ?_
          refine AllReady.cons rfl (fun K hK => ?_) AllReady.nil
          exact step_panic rfl 75 #[.pointer (some ⟨p, 0, none⟩)] (by go_simp) (HI sb cap L p _ tsr o HO.out hrD HS.out) fun e w1 he => by obtain ⟨rfl, hg1⟩ := he.err HIT.out; exact ⟨_, rfl, rfl, Ends.no HE.out (grown_trans hgD hg1)⟩
        · change if _ then Oper.wp _ _ _ wr.drew _ _ else _
          exact step_panic rfl 75 #[.pointer (some ⟨p, 0, none⟩)] (by go_simp) (HI sb cap L p _ tsr o HO.out hrD HS.out) fun e w1 he => by obtain ⟨rfl, hg1⟩ := he.err HIT.out; exact ⟨_, rfl, rfl, Ends.no HE.out (grown_trans hgD hg1)⟩
      | ok x =>
        obtain ⟨it, ts1⟩ := x
        have hl1 := Lx.pItem_len (Lx.pGroupAt_len d) hit
        have hl2 := hr.wf.tail_len
        have HPI : Hid (Lx.pItems (Lx.pGroupAt d) f' ts1 (acc ++ [it]) = Lx.pItems (Lx.pGroupAt d) ts.length ts []) := by
          show _ = _
          rw [← hpi.out]
          simp only [Lx.pItems]
          rw [if_pos HS.out, hit]
        have HIT : Hid _ := hit
        clear hit hpi
        go_wp2_with (first
          | (go_at_call 74; refine (seesItem_rd hr).mono ?_; rintro e w' ⟨rfl, hw⟩; obtain rfl := hw.symm; rw [HS.out]))
        go_region_law (first
          | (refine step_append_lies _ rfl (.tmp 7) (.tmp 10) 82 rfl (w.heap.size + 2) 86 i0 _ 4 56 Try.underlying82 hi hz0 hz1 hz2 rfl (by decide) (.slice va vk vc) acc.length (ps.flatMap YP.cI) (by simp [Act.eval]) (hown1.alloc _) ⟨w1.heap.size, 0, none⟩ 1 1 (YP.cI (.slice xa xk xc, it)) (by simp [Act.eval]) rfl (news_of (Blk.new w1 _ 86)) (by simp [YP, Value.oneCell']) (by decide) (by unfold maxLen; omega) (by omega) (by have := hg1.size; simp at this; simp; omega) _ rfl ?_; intro g cap' w3 hown3 hgrow3 hat hlt; have kC3 := (kC2.alloc _).grown hgrow3 (fun e => by have := (hown.lt _ e.symm).1; omega); have c03 : w3.cell? ⟨w.heap.size + 1, 0, none⟩ = some (.slice va vk vc) := kC3.cell 0; have f03 : ∀ i, w3.frozen? ⟨w.heap.size + 1, i, none⟩ = false := kC3.frozen)
          | (refine step_call rfl 75 #[.pointer (some ⟨p, 0, none⟩)] (by go_simp) (HI sb cap L p _ tsr o HO.out hrD HS.out) ?_; intro e w1 he; obtain ⟨vv, rfl, hg1, hr1, hv1⟩ := he.ok HIT.out; refine ⟨_, rfl, ?_⟩; obtain ⟨vx, rfl, hax⟩ := hv1; obtain ⟨xa, xk, xc, rfl⟩ := AltsIn.form hax; have hown1 := ((hgb.kept (alts_movable YP d) (grown_drew wr none) (by simp)).kept (alts_movable YP d) hg1 (fun k hk => by cases hk; omega)).2.1; have kC2 := kC1.drew.grown hg1 (by simp; omega); have c02 : w1.cell? ⟨w.heap.size + 1, 0, none⟩ = some (.slice va vk vc) := kC2.cell 0; have hlt2 := kC2.lt))
        all_goals
          have G3 := GrowBy.push (alts_movable YP d) (hgb.kept (alts_movable YP d) (grown_drew wr none) (by simp)) (p := p) (by omega) (by simpa using hsz) hg1 (.slice xa xk xc, it) hax (grown_alloc w1 _ none) hown3 hgrow3 hat
          have kB3 := ((kB1.drew.grown hg1 (by simp; omega)).alloc _).grown hgrow3 (fun e => by have := (hown.lt _ e.symm).1; omega)
          have hr3 := (hr1.alloc _).grown hgrow3 (fun e => by have := (hown.lt _ e.symm).1; omega) (fun e => by have := (hown.lt _ e.symm).1; omega)
          have gg3 := grown_append (grown_trans hgD hg1) (grown_alloc w1 _ none) hgrow3 (fun k hk => by have := (hown.lt _ hk).1; omega)
          have hs3 := hgrow3.size
          have hs1 := hg1.size
          have hsD : wr.drew.heap.size = wr.heap.size := rfl
          have hsA : (w1.alloc (.cells (YP.cI (.slice xa xk xc, it)).toArray 86)).heap.size = w1.heap.size + 1 := by simp
          clear hown3 hgrow3 hat hown1 kC2 c02 c0 f0 hax
          go_wp2_with fail
          go_roundg ts1.length
          case measure => omega
          case rel =>
            refine ⟨ts1, acc ++ [it], _, f', rfl, by omega, by simp; omega, ?_, hr3.setOther _ _ (by omega) (by omega), kC3.set 0 _, kB3.other (by omega) _, ?_, grown_new gg3 (by omega) _ _, HPI⟩
            · simp only [World.setCell, Array.size_modify]; have := hs3; simp at this; omega
            · exact Grow.kept (alts_movable YP d) G3 (grown_set w3 (w.heap.size + 1) 0 _) (fun k hk => by cases hk; omega)
end Go.Proofs.Ytonkcljapkeidaa

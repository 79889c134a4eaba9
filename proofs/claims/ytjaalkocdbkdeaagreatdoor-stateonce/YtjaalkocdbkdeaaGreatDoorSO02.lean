import Derived.Test.YtjaalkocdbkdeaaGreatDoorSO01
namespace Go.Proofs.YtjaalkocdbkdeaaGreatDoor
open Go.RowKit
open Tr
theorem jd.below2 {w w' : World} (ht : jd w) (hb : Below w.heap.size w w') : jd w' := ((Lib.tabBelow_of_tabIs ht).on hb).here
set_option maxHeartbeats 16000000 in
set_option maxRecDepth 100000 in
theorem StateOnce_any (s : ByteArray) (w : World) (hmax : s.size ≤ maxLen) (ht : jd w) : Calls Tryz.prog 6 #[.string s] w fun e w' => e = .returned (.bool true) ∧ Below w.heap.size w w' := by
  have HT : Hid (∀ w', Below w.heap.size w w' → jd w') := fun w' hb => ht.below2 hb
  have HM : Hid (∀ w', Below w.heap.size w w' → Calls Tryz.prog 13 #[.string s] w' (ahP s w')) := fun w' hb => XB s w' hmax (HT.out w' hb)
  have HQ : Hid (∀ w', Calls Tryz.prog 8 #[.string s] w' (yN s w')) := fun w' => ad2 s w'
  have q1 := NR s w hmax ht
  clear hmax ht
  cases hr : Lx.kY s with
  | error x =>
    obtain ⟨-, hN⟩ := Lx.YD hr
    have hx0 := Lx.stR_pos hr
    have HN : Hid (Lx.uS s = x) := hN
    have i1 : ((x.1 : Int) == 0) = false := beq_eq_false_iff_ne.2 (by omega)
    have i2 : ((x.1 : Int) != 0) = true := by simp; omega
    have i3 : ¬ (x.1 : Int) = 0 := by omega
    have i4 : ¬ x.1 = 0 := hx0
    clear hr hN hx0
    go_enter Tryz.func6, Tryz.ntmps6
    go_upto_region 2 with (go_at_call 7; refine q1.mono ?_; rintro e w1 ⟨vl, ve, he, hb1, -, -⟩; rw [HN.out] at he; subst he)
    have q2 := HM.out w1 hb1
    have hs1 := hb1.size
    go_upto_region 3 with (go_at_call 13; refine q2.mono ?_; intro e w2 hE; obtain ⟨ta, na, pa, ba, ka, nT, tc, nN, nc, nP, pc, nb, bc, nk, kc, n, a, rfl, hb2⟩ := hE.form; clear hE)
    have hs2 := hb2.size
    obtain ⟨W2, hW2⟩ : ∃ V, V = w2.alloc (.cells #[.slice ta nT tc, .slice na nN nc, .slice pa nP pc, .slice ba nb bc, .slice ka nk kc] 45) := ⟨_, rfl⟩
    have hbW2 : Below w.heap.size w W2 := by rw [hW2]; exact (hb1.trans (hb2.mono hs1)).alloc (by omega) _
    rw [← hW2]
    clear hW2
    have q3 := HQ.out W2
    have IW := hbW2.size
    go_upto_region 4 with (go_at_call 8; refine q3.mono ?_; rintro e w3 ⟨ml, me, he, hb3, -, -⟩; rw [HN.out] at he; subst he)
    have qJ : Below w.heap.size w w3 := hbW2.trans (hb3.mono IW)
    have q4 := agU w3 (HT.out w3 qJ)
    have hs3 := qJ.size
    clear q1 q2 q3
    go_wp2_with (first | (go_at_call 11; refine (Pq _ _).mono ?_; rintro e w' ⟨rfl, hw⟩; obtain rfl := hw.symm) | (go_at_call 12; refine q4.mono ?_; rintro e w4 ⟨rfl, hb4⟩))
    go_ret
    exact ⟨rfl, qJ.trans (hb4.mono hs3)⟩
  | ok S =>
    obtain ⟨hSe, hN⟩ := Lx.PG hr
    obtain ⟨g, hm, hst⟩ := Lx.stR_inv hr
    have hF := Lx.stF (Y0 (YB w hm) (Lx.Pp hm).2.2) hst
    have HN : Hid (Lx.uS s = (0, 0)) := hN
    have HS : Hid (Lx.xZ s = S) := hSe
    have HG : Hid (Lx.eZ s = .ok g) := hm
    clear hr hN hSe hst hm
    go_enter Tryz.func6, Tryz.ntmps6
    go_upto_region 2 with (go_at_call 7; refine q1.mono ?_; rintro e w1 ⟨vl, ve, he, hb1, hP1, -⟩; rw [HN.out] at he; subst he; rw [HS.out] at hP1)
    have q2 := HM.out w1 hb1
    have hs1 := hb1.size
    go_upto_region 3 with (go_at_call 13; refine q2.mono ?_; rintro e w2 ⟨v, n, a, rfl, hb2, hok, -⟩; obtain ⟨rfl, rfl, vT, vN, vP, vB, vK, rfl, h1, h2, h3, h4, h5⟩ := hok g HG.out; clear hok; obtain ⟨ta, tc, rfl, -⟩ := aF h1; obtain ⟨na, nc, rfl, -⟩ := aF h2; obtain ⟨ba, bc, rfl, -⟩ := aF h4; obtain ⟨ka, kc, rfl, -⟩ := aF h5; obtain ⟨pa, pc, rfl, -⟩ : ∃ a c, vP = .slice a (Lx.bI g).length c ∧ (Lx.bI g).length ≤ maxLen := by (obtain ⟨ps, h1, h2, -⟩ := h3; exact aF h2))
    have hs2 := hb2.size
    obtain ⟨W2, hW2⟩ : ∃ V, V = w2.alloc (.cells #[.slice ta (Lx.aD g).length tc, .slice na (Lx.bg g).length nc, .slice pa (Lx.bI g).length pc, .slice ba (Lx.aD g).length bc, .slice ka (Lx.aD g).length kc] 45) := ⟨_, rfl⟩
    have jw : Below w2.heap.size w2 W2 := by rw [hW2]; exact (Below.refl _ _).alloc (Nat.le_refl _) _
    have hbW2 : Below w.heap.size w W2 := (hb1.trans (hb2.mono hs1)).trans (jw.mono (by omega))
    have kA : aj W2 w2.heap.size #[.slice ta (Lx.aD g).length tc, .slice na (Lx.bg g).length nc, .slice pa (Lx.bI g).length pc, .slice ba (Lx.aD g).length bc, .slice ka (Lx.aD g).length kc] 45 := by rw [hW2]; exact aj.new w2 _ 45
    rw [← hW2]
    clear hW2 h1 h2 h4 h5
    have q3 := HQ.out W2
    have IW := hbW2.size
    go_upto_region 4 with (go_at_call 8; refine q3.mono ?_; rintro e w3 ⟨ml, me, he, hb3, -, -⟩; rw [HN.out] at he; subst he)
    have qJ : Below w.heap.size w w3 := hbW2.trans (hb3.mono IW)
    have hP3 : PP (fun _ => True) w3 (.slice pa (Lx.bI g).length pc) (Lx.bI g) := (h3.below jw).below hb3
    have hL3 : yE w.heap.size w3 vl ve S := ((hP1.below hb2).below jw).below hb3
    have kA3 : aj w3 w2.heap.size _ 45 := (hb3.block _ kA.lt).trans kA
    clear q1 q2 q3 hP1 h3 kA
    generalize (Lx.aD g).length = nT at *
    generalize (Lx.bg g).length = nN at *
    generalize Lx.bI g = P at *
    generalize w2.heap.size = pb at *
    obtain ⟨la, lc, rfl, -⟩ := hL3.1.len
    obtain ⟨ea, ec, rfl, hem⟩ : ∃ a c, ve = Value.slice a S.es.length c ∧ S.es.length ≤ maxLen := aF hL3.2
    unfold maxLen at hem
    have HFn : Hid (Lx.StF P S) := hF
    have hkl := hF.kl
    have hs3 := qJ.size
    clear hF
    go_upto_region 6 with (go_at_call 11; refine (Pq _ _).mono ?_; rintro e w' ⟨rfl, hw⟩; obtain rfl := hw.symm)
    go_wp2_with fail
    go_loopg [14] S.ks.length (fun m i wr => ∃ j : Nat, j + m = S.ks.length ∧ i = .int .i64 (j : Int) ∧ Below w3.heap.size w3 wr)
    case atStart => exact ⟨0, by omega, rfl, Below.refl _ _⟩
    case round =>
      revert wr
      intro wz hrel
      obtain ⟨i, hki, rfl, hbz⟩ := hrel
      have hsz := hbz.size
      by_cases hlt : i < S.ks.length
      · obtain ⟨K, hK⟩ : ∃ K, S.ks[i]? = some K := ⟨_, List.getElem?_eq_getElem hlt⟩
        obtain ⟨gkr, akj, a, c, hv, -, ck, rk⟩ := (hL3.1.below hbz).at hK
        cases hv
        have hkm : K.length ≤ maxLen := by obtain ⟨_, _, -, h⟩ := aF rk; exact h
        unfold maxLen at hkm
        have HK : Hid (S.ks[i]? = some K) := hK
        have i1 : (0 : Int) ≤ (i : Int) := by omega
        have i2 : (i : Int) < (S.ks.length : Int) := by omega
        have HO0 : Hid (AnyB (fun s => Lx.bE P s ≠ none) false (K.take 0)) := AnyB.nil _ _
        clear hK
        go_wp2_with fail
        go_loopg [15, 16] K.length (fun m ov kv wr => ∃ (k : Nat) (b : Bool), k + m = K.length ∧ kv = .int .i64 (k : Int) ∧ ov = .bool b ∧ Below wz.heap.size wz wr ∧ Hid (AnyB (fun s => Lx.bE P s ≠ none) b (K.take k)))
        case atStart => exact ⟨0, false, by omega, rfl, rfl, Below.refl _ _, HO0⟩
        case round =>
          clear HO0
          revert wr
          intro wr hrel
          obtain ⟨k, b, hkk, rfl, rfl, hbr, HO⟩ := hrel
          have hsr := hbr.size
          have ek := jS hbr ck
          by_cases hltk : k < K.length
          · obtain ⟨gx, amK, hvx, -, -, hcs⟩ := aJ.at qi (aJ.below rk hbr) hltk
            cases hvx
            have c0 := hcs 0 _ (by decide) rfl
            have c1 := hcs 1 _ (by decide) rfl
            have hsp := HFn.out.wK i K HK.out K[k] (List.getElem_mem hltk)
            have HY1 : Hid (b = true → AnyB (fun s => Lx.bE P s ≠ none) true (K.take (k + 1))) := fun e => AnyB.old hltk (e ▸ HO.out)
            have HY2 : Hid (Lx.bE P K[k] ≠ none → AnyB (fun s => Lx.bE P s ≠ none) true (K.take (k + 1))) := fun h => AnyB.new hltk h
            have HY3 : Hid (b = false → Lx.bE P K[k] = none → AnyB (fun s => Lx.bE P s ≠ none) false (K.take (k + 1))) := fun e h => AnyB.no hltk (e ▸ HO.out) (fun h' => h' h)
            have HRk : Hid (∀ k1, k = k1 + 1 → ∃ h : k1 < K.length, Lx.dP K[k1] K[k]) := fun k1 h => ⟨by omega, (List.pairwise_iff_getElem.1 (HFn.out.rise i K HK.out)) k1 k (by omega) hltk (by omega)⟩
            have hrl := HFn.out.rgt K[k].1
            clear hcs HO
            generalize hxk : K[k] = x at c0 c1 hsp HY2 HY3 hrl HRk
            have HXk : Hid (K[k] = x) := hxk
            clear hxk
            obtain ⟨x0, x1⟩ := x
            simp only [Nat.add_zero] at c0 c1 hsp hrl
            have j5 : Below w3.heap.size w3 wr := hbz.trans (hbr.mono hsz)
            have A8 : aj wr pb _ 45 := (j5.block _ kA3.lt).trans kA3
            have a0 : wr.cell? ⟨pb, 0, none⟩ = some (.slice ta nT tc) := A8.cell 0
            have a1 : wr.cell? ⟨pb, 1, none⟩ = some (.slice na nN nc) := A8.cell 1
            have a2 : wr.cell? ⟨pb, 2, none⟩ = some (.slice pa P.length pc) := A8.cell 2
            have a3 : wr.cell? ⟨pb, 3, none⟩ = some (.slice ba nT bc) := A8.cell 3
            have a4 : wr.cell? ⟨pb, 4, none⟩ = some (.slice ka nT kc) := A8.cell 4
            have j1 : (0 : Int) ≤ (k : Int) := by omega
            have j2 : (k : Int) < (K.length : Int) := by omega
            have q5 : ∀ wx, Below wr.heap.size wr wx → Calls Tryz.prog 14 #[.agg #[.slice ta nT tc, .slice na nN nc, .slice pa P.length pc, .slice ba nT bc, .slice ka nT kc], .agg #[.int .i64 (x0 : Int), .int .i64 (x1 : Int)]] wx fun e w' => e = .returned (.int .i64 (rQ P (x0, x1))) ∧ Below wx.heap.size wx w' := fun wx hx => lbehind_any ((hP3.below j5).below hx) (x0, x1) hsp.1 hsp.2 (by simp only; omega)
            have Q5 : Hid (∀ wx, Below wr.heap.size wr wx → Calls Tryz.prog 14 #[.agg #[.slice ta nT tc, .slice na nN nc, .slice pa P.length pc, .slice ba nT bc, .slice ka nT kc], .agg #[.int .i64 (x0 : Int), .int .i64 (x1 : Int)]] wx fun e w' => e = .returned (.int .i64 (rQ P (x0, x1))) ∧ Below wx.heap.size wx w') := q5
            clear q5
            go_upto_region 13 with fail
            go_region_held3 (fun w' => w'.cell? ⟨pb, 0, none⟩ = some (.slice ta nT tc) ∧ w'.cell? ⟨pb, 1, none⟩ = some (.slice na nN nc) ∧ w'.cell? ⟨pb, 2, none⟩ = some (.slice pa P.length pc) ∧ w'.cell? ⟨pb, 3, none⟩ = some (.slice ba nT bc) ∧ w'.cell? ⟨pb, 4, none⟩ = some (.slice ka nT kc) ∧ w'.cell? ⟨gkr, i, none⟩ = some (.slice (some ⟨gx, 0, none⟩) K.length c) ∧ w'.cell? ⟨gx, k * 2, none⟩ = some (.int .i64 (x0 : Int)) ∧ w'.cell? ⟨gx, k * 2 + 1, none⟩ = some (.int .i64 (x1 : Int))) (first | go_keep | assumption) ((go_at_call 14; refine (Q5.out wr.drew ⟨rfl, rfl, rfl, Nat.le_refl _, fun _ _ => rfl⟩).mono ?_; rintro e w5 ⟨rfl, hb5⟩; have hb6 : Below wr.heap.size wr w5 := (Below.refl _ wr).drew.trans hb5; have S5 : w5.cell? ⟨pb, 0, none⟩ = some (.slice ta nT tc) ∧ w5.cell? ⟨pb, 1, none⟩ = some (.slice na nN nc) ∧ w5.cell? ⟨pb, 2, none⟩ = some (.slice pa P.length pc) ∧ w5.cell? ⟨pb, 3, none⟩ = some (.slice ba nT bc) ∧ w5.cell? ⟨pb, 4, none⟩ = some (.slice ka nT kc) ∧ w5.cell? ⟨gkr, i, none⟩ = some (.slice (some ⟨gx, 0, none⟩) K.length c) ∧ w5.cell? ⟨gx, k * 2, none⟩ = some (.int .i64 (x0 : Int)) ∧ w5.cell? ⟨gx, k * 2 + 1, none⟩ = some (.int .i64 (x1 : Int)) := ⟨jS hb6 a0, jS hb6 a1, jS hb6 a2, jS hb6 a3, jS hb6 a4, jS hb6 ek, jS hb6 c0, jS hb6 c1⟩))
            all_goals
              have hs6 := hb6.size
              have ek5 := jS hb6 ek
              have Ib := jS hb6 c0
              have c15 := jS hb6 c1
              have Qe : Below wz.heap.size wz w5 := hbr.trans (hb6.mono hsr)
              have H3 : k = 0 ∨ (∃ k1 y0 y1 : Nat, k = k1 + 1 ∧ y0 < x0 ∧ w5.cell? ⟨gx, k1 * 2, none⟩ = some (.int .i64 (y0 : Int)) ∧ w5.cell? ⟨gx, k1 * 2 + 1, none⟩ = some (.int .i64 (y1 : Int))) ∨ (∃ k1 y1 : Nat, k = k1 + 1 ∧ y1 < x1 ∧ w5.cell? ⟨gx, k1 * 2, none⟩ = some (.int .i64 (x0 : Int)) ∧ w5.cell? ⟨gx, k1 * 2 + 1, none⟩ = some (.int .i64 (y1 : Int))) := by
                rcases Nat.eq_zero_or_pos k with h0 | h0
                · exact .inl h0
                · obtain ⟨hk1, hsl⟩ := HRk.out (k - 1) (by omega)
                  obtain ⟨g2, cap2, hv2, -, -, hcs2⟩ := aJ.at qi (aJ.below rk Qe) hk1
                  cases hv2
                  have d0 := hcs2 0 _ (by decide) rfl
                  have d1 := hcs2 1 _ (by decide) rfl
                  unfold Lx.dP at hsl
                  simp only [Nat.add_zero] at d0 d1 hsl
                  rcases hsl with h1 | ⟨h1, h2⟩
                  · exact .inr (.inl ⟨k - 1, _, _, by omega, h1, d0, d1⟩)
                  · rw [h1] at d0
                    exact .inr (.inr ⟨k - 1, _, by omega, h2, d0, d1⟩)
              obtain ⟨bi, hbi⟩ : ∃ bi, bi = rQ P (x0, x1) := ⟨_, rfl⟩
              have hbc := bhI_cases P (x0, x1)
              rw [← hbi] at hbc ⊢
              have HBc : Hid ((Lx.bE P (x0, x1) = none ∧ bi = -1) ∨ (Lx.bE P (x0, x1) ≠ none ∧ 0 ≤ bi)) := hbc
              have m1 : (bi == -2) = false := beq_eq_false_iff_ne.2 (by rcases hbc with h | h <;> omega)
              have m2 : ¬ bi = -2 := by rcases hbc with h | h <;> omega
              clear hbi hbc Q5 S5 a0 a1 a2 a3 a4 c0 c1 ek HRk
              rcases H3 with h | h | h
              case' inl =>
                have n1 : ((0 : Int) < (k : Int)) = False := eq_false (by omega)
                have n1' : (0 < k) = False := eq_false (by omega)
                clear h
                go_upto_region 14 with fail
                simp only [List.append_eq, List.cons_append, List.nil_append]
                go_quiet (fail)
              case' inr.inl =>
                obtain ⟨k1, y0, y1, hk1, hy, d0, d1⟩ := h
                have n1 : (0 : Int) < (k : Int) := by omega
                have n1' : (0 < k) = True := eq_true (by omega)
                have n2 : IntKind.i64.wrap ((k : Int) - 1) = (k1 : Int) := by rw [IntKind.wrap_i64]; omega
                have n3 : (0 : Int) ≤ (k1 : Int) := by omega
                have n4 : (k1 : Int) < (K.length : Int) := by omega
                have n5 : ((x0 : Int) < (y0 : Int)) = False := eq_false (by omega)
                have n6 : ((y0 : Int) == (x0 : Int)) = false := beq_eq_false_iff_ne.2 (by omega)
                have n7 : ¬ (y0 : Int) = (x0 : Int) := by omega
                have n8 : ¬ y0 = x0 := by omega
                clear hk1 hy
                go_upto_region 14 with fail
                simp only [List.append_eq, List.cons_append, List.nil_append]
                go_quiet (fail)
              case' inr.inr =>
                obtain ⟨k1, y1, hk1, hy, d0, d1⟩ := h
                have n1 : (0 : Int) < (k : Int) := by omega
                have n1' : (0 < k) = True := eq_true (by omega)
                have n2 : IntKind.i64.wrap ((k : Int) - 1) = (k1 : Int) := by rw [IntKind.wrap_i64]; omega
                have n3 : (0 : Int) ≤ (k1 : Int) := by omega
                have n4 : (k1 : Int) < (K.length : Int) := by omega
                have n6 : ((x1 : Int) ≤ (y1 : Int)) = False := eq_false (by omega)
                clear hk1 hy
                go_upto_region 14 with fail
                simp only [List.append_eq, List.cons_append, List.nil_append]
                go_quiet (fail)
              all_goals
                have hbq : Below wz.heap.size wz (w5.drewN nq) := Qe.trans ⟨rfl, rfl, rfl, Nat.le_refl _, fun _ _ => rfl⟩
                cases b with
                | true =>
                  have HO2 := HY1.out rfl
                  have HO3 : Hid (AnyB (fun s => Lx.bE P s ≠ none) true (K.take (k + 1))) := HO2
                  clear HO2 HY1 HY2 HY3
                  go_wp2_with fail
                  go_roundg (K.length - (k + 1))
                  case measure => omega
                  case rel => exact ⟨k + 1, true, by omega, by go_num, rfl, hbq, HO3⟩
                | false =>
                  rcases HBc.out with ⟨hn, hb⟩ | ⟨hn, hb⟩
                  · have HO3 : Hid (AnyB (fun s => Lx.bE P s ≠ none) false (K.take (k + 1))) := HY3.out rfl hn
                    have m3 : ¬ (0 : Int) ≤ bi := by omega
                    clear hb hn HY1 HY2 HY3 HBc
                    go_wp2_with fail
                    go_roundg (K.length - (k + 1))
                    case measure => omega
                    case rel => exact ⟨k + 1, false, by omega, by go_num, rfl, hbq, HO3⟩
                  · have HO3 : Hid (AnyB (fun s => Lx.bE P s ≠ none) true (K.take (k + 1))) := HY2.out hn
                    clear hn HY1 HY2 HY3 HBc
                    go_wp2_with fail
                    go_roundg (K.length - (k + 1))
                    case measure => omega
                    case rel => exact ⟨k + 1, true, by omega, by go_num, rfl, hbq, HO3⟩
          · obtain rfl : k = K.length := by omega
            have HOf : Hid ((b = true) ↔ ∃ s ∈ K, Lx.bE P s ≠ none) := AnyB.all HO.out
            have Me : Hid (AnyB (fun e : Lx.CU => e.1 = i) false (S.es.take 0)) := AnyB.nil _ _
            have j5 : Below w3.heap.size w3 wr := hbz.trans (hbr.mono hsz)
            have hEr := aJ.below hL3.2 j5
            clear HO
            go_wp2_with fail
            go_loopg [18, 19] S.es.length (fun m ev jv wq => ∃ (j : Nat) (b2 : Bool), j + m = S.es.length ∧ jv = .int .i64 (j : Int) ∧ ev = .bool b2 ∧ wq = wr ∧ Hid (AnyB (fun e : Lx.CU => e.1 = i) b2 (S.es.take j)))
            case atStart => exact ⟨0, false, by omega, rfl, rfl, rfl, Me⟩
            case round =>
              clear Me
              obtain ⟨j, b2, amL, rfl, rfl, rfl, HE⟩ := hrel
              by_cases amM : j < S.es.length
              · obtain ⟨ge, ecap, hve, -, -, hce⟩ := aJ.at Ht hEr amM
                cases hve
                have c0 := hce 0 _ (by decide) rfl
                have HZ1 : Hid (b2 = true → AnyB (fun e : Lx.CU => e.1 = i) true (S.es.take (j + 1))) := fun e => AnyB.old amM (e ▸ HE.out)
                have HZ2 : Hid (S.es[j].1 = i → AnyB (fun e : Lx.CU => e.1 = i) true (S.es.take (j + 1))) := fun h => AnyB.new (p := fun e : Lx.CU => e.1 = i) amM h
                have HZ3 : Hid (b2 = false → ¬ S.es[j].1 = i → AnyB (fun e : Lx.CU => e.1 = i) false (S.es.take (j + 1))) := fun e h => AnyB.no amM (e ▸ HE.out) h
                clear hce HE
                generalize S.es[j] = x at c0 HZ2 HZ3
                obtain ⟨x0, x1, x2⟩ := x
                simp only [Nat.add_zero] at c0 HZ2 HZ3
                have j1 : (0 : Int) ≤ (j : Int) := by omega
                have j2 : (j : Int) < (S.es.length : Int) := by omega
                cases b2 with
                | true =>
                  have HO3 : Hid (AnyB (fun e : Lx.CU => e.1 = i) true (S.es.take (j + 1))) := HZ1.out rfl
                  clear HZ1 HZ2 HZ3
                  go_wp2_with fail
                  go_roundg (S.es.length - (j + 1))
                  case measure => omega
                  case rel => exact ⟨j + 1, true, by omega, by go_num, rfl, rfl, HO3⟩
                | false =>
                  by_cases hx : x0 = i
                  · have HO3 : Hid (AnyB (fun e : Lx.CU => e.1 = i) true (S.es.take (j + 1))) := HZ2.out hx
                    have m1 : ((x0 : Int) == (i : Int)) = true := by simp [hx]
                    have m2 : (x0 : Int) = (i : Int) := by omega
                    clear HZ1 HZ2 HZ3 hx
                    go_wp2_with fail
                    go_roundg (S.es.length - (j + 1))
                    case measure => omega
                    case rel => exact ⟨j + 1, true, by omega, by go_num, rfl, rfl, HO3⟩
                  · have HO3 : Hid (AnyB (fun e : Lx.CU => e.1 = i) false (S.es.take (j + 1))) := HZ3.out rfl hx
                    have m1 : ((x0 : Int) == (i : Int)) = false := beq_eq_false_iff_ne.2 (by omega)
                    have m2 : ¬ (x0 : Int) = (i : Int) := by omega
                    have m3 : ¬ x0 = i := hx
                    clear HZ1 HZ2 HZ3 hx
                    go_wp2_with fail
                    go_roundg (S.es.length - (j + 1))
                    case measure => omega
                    case rel => exact ⟨j + 1, false, by omega, by go_num, rfl, rfl, HO3⟩
              · obtain rfl : j = S.es.length := by omega
                have hbb : b2 = b := by
                  have h1 := AnyB.all HE.out
                  have h2 := HFn.out.edge i K HK.out
                  have h3 := HOf.out
                  exact Bool.eq_iff_iff.2 (h1.trans (h2.trans h3.symm))
                subst hbb
                clear HE HOf
                go_upto_region 24 with fail
                go_wp2_with fail
                refine once4 hL3 j5 hbr rk ek HFn.out.nd HK hlt hkl ?_
                intro v2 v20 v21 v22 v173 aco v175 acp acr acs acu acv acw v182 v183 acy acz acA acB acC acD acE acF acG v193 v194 acH v196 acI v198 acJ acK v201 acL v203 acM acN v206 acO v208 acP v210 acQ v212 acR acS acT acU wq hbq
                have hbwq : Below w3.heap.size w3 wq := j5.trans (hbq.mono j5.size)
                go_wp2_with fail
                go_roundg (S.ks.length - (i + 1))
                case measure => omega
                case rel => exact ⟨i + 1, by omega, by go_num, hbwq⟩
      · obtain rfl : i = S.ks.length := by omega
        have hEz := aJ.below hL3.2 hbz
        have hPw : Hid (S.es.Pairwise fun a b => a.1 < b.1 ∨ (a.1 = b.1 ∧ a.2.1 < b.2.1)) := HFn.out.pw
        go_wp2_with fail
        refine once6 hEz hPw (by omega) ?_
        intro v2 v23 acV v218 acW acX acY v222 acZ ac0 ac1 v226 v227 v228 v229 ac2 ac3 v232 v233 v234 ac4 v236 ac5 ac6 ac7 ac8 ac9 ada adb ade adf adg adh adi adj adk adl adn ado adp v255 v256 v257 v258 v259 v260 v261 v262 wq hbq
        have hbwq : Below w3.heap.size w3 wq := hbz.trans (hbq.mono hsz)
        have hbwf : Below w.heap.size w wq := qJ.trans (hbwq.mono hs3)
        have qa := agU wq (HT.out wq hbwf)
        have hsf := hbwf.size
        go_wp2_with (go_at_call 12; refine qa.mono ?_; rintro e w9 ⟨rfl, zh⟩)
        go_ret
        exact ⟨rfl, hbwf.trans (zh.mono hsf)⟩
end Go.Proofs.YtjaalkocdbkdeaaGreatDoor

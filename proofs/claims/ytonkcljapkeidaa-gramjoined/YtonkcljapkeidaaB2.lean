import Derived.Test.YtonkcljapkeidaaB1
namespace Go.Proofs.Ytonkcljapkeidaa
open Go.RowKit
open Lx (Tk)
open Tr
abbrev KI (d : Nat) : (Nat → Prop) → World → Value → Lx.Alt → Prop := fun F w vi a => ItemsIn YP d F w vi a.1
theorem ItemsIn.form {Y : Lay} {d : Nat} {F : Nat → Prop} {w : World} {v : Value} {l : List Lx.It} (h : ItemsIn Y d F w v l) : ∃ a k c, v = .slice a k c := by
  unfold ItemsIn ItemsBy at h
  exact Seq.form h
set_option maxHeartbeats 1000000 in
set_option maxRecDepth 100000 in
theorem alts_all {d : Nat} (HA : AltSaid d) : AltsSaid d := by
  intro sb cap L p w ts o ho h
  obtain ⟨i0, hi, hz0, hz1, hz2⟩ := info_parts Try.info84
  have hp := h.lt
  have hs := h.lts
  have HO : Hid (o = 8 - (d : Int)) := ho
  have hlb := h.lb
  have hlen := h.len
  clear ho
  have HE : Hid _ := Lx.pAlts_eq d ts
  go_enter Try.func56, Try.ntmps56
  go_wp2_with fail
  refine (HA sb cap L p w ts o HO.out h).mono ?_
  intro e w1 he
  cases hr1 : Lx.pAlt (Lx.pGroupAt d) (d == 8) ts with
  | error x =>
    obtain ⟨n, a⟩ := x
    obtain ⟨rfl, hg1⟩ := he.err hr1
    exact ⟨rfl, Ends.no (by rw [HE.out]; unfold Lx.pAltsBy; rw [hr1]) hg1⟩
  | ok x =>
    obtain ⟨a1, ts1⟩ := x
    obtain ⟨v, rfl, hg1, hrd1, vi, rfl, hv⟩ := he.ok hr1
    have hl1 := Lx.pAlt_len (Lx.pGroupAt_len d) hr1
    have HP1 : Hid (Lx.pAlts d ts = Lx.pMore (Lx.pGroupAt d) (d == 8) ts1.length ts1 [a1]) := by
      show _ = _; rw [HE.out]; unfold Lx.pAltsBy; rw [hr1]
    obtain ⟨va, vk, vc, rfl⟩ := ItemsIn.form hv
    have G1 : Grow w.heap.size (w1.alloc (.cells #[.slice va vk vc, .string a1.2.1] 84)) 84 2 YP.cA (KI d) (.slice (some ⟨w1.heap.size, 0, none⟩) 1 1) [a1] :=
      Grow.one (items_movable YP d) (w := w) (.slice va vk vc, a1) (Nat.le_refl _) hg1.size hv rfl
    have hrdA := hrd1.alloc (.cells #[.slice va vk vc, .string a1.2.1] 84)
    have ggA := grown_trans hg1 (grown_alloc w1 (.cells #[.slice va vk vc, .string a1.2.1] 84) (some p))
    clear hr1 he HE
    go_wp2_with fail
    go_loopg [3] ts1.length (fun k v wr => ∃ (tsr : List Tk) (acc : List Lx.Alt) (f : Nat), tsr.length = k ∧ tsr.length ≤ f ∧ acc.length + tsr.length ≤ ts.length + 1 ∧ Rd sb cap L p wr tsr o ∧
        Grow w.heap.size wr 84 2 YP.cA (KI d) v acc ∧ w.grownBy wr (some p) ∧ Hid (Lx.pAlts d ts = Lx.pMore (Lx.pGroupAt d) (d == 8) f tsr acc))
    case atStart => exact ⟨ts1, [a1], ts1.length, rfl, Nat.le_refl _, by simp; omega, hrdA, G1, ggA, HP1⟩
    case round =>
      obtain ⟨tsr, acc, f, hk, hf, hacc, hr, hgrow, hg, hpm⟩ := hrel
      clear hrdA ggA G1 hv
      have hne := hr.wf.ne
      obtain ⟨f', rfl⟩ : ∃ f', f = f' + 1 := ⟨f - 1, by omega⟩
      by_cases hb : Lx.hd tsr = Lx.tBar
      · have HB : Hid (Lx.hd tsr = Lx.tBar) := hb
        clear hb
        have htl := hr.wf.tail_len
        go_wp2_with fail
        refine (passIf_yes hr Lx.tBar (by decide) HB.out).mono ?_
        rintro e w2 ⟨rfl, hg2, hr2⟩
        have gg2 := grown_trans hg hg2
        go_wp2_with fail
        refine (HA sb cap L p w2 tsr.tail o HO.out hr2).mono ?_
        intro e w3 he
        cases hr3 : Lx.pAlt (Lx.pGroupAt d) (d == 8) tsr.tail with
        | error x =>
          obtain ⟨n, a⟩ := x
          obtain ⟨rfl, hg3⟩ := he.err hr3
          exact ⟨rfl, Ends.no (by rw [hpm.out]; simp only [Lx.pMore]; rw [if_pos HB.out, hr3]) (grown_trans gg2 hg3)⟩
        | ok x =>
          obtain ⟨a3, ts3⟩ := x
          obtain ⟨v, rfl, hg3, hrd3, vi3, rfl, hv3⟩ := he.ok hr3
          have hl3 := Lx.pAlt_len (Lx.pGroupAt_len d) hr3
          have HP3 : Hid (Lx.pAlts d ts = Lx.pMore (Lx.pGroupAt d) (d == 8) f' ts3 (acc ++ [a3])) := by
            show _ = _; rw [hpm.out]; simp only [Lx.pMore]; rw [if_pos HB.out, hr3]
          obtain ⟨xa, xk, xc, rfl⟩ := ItemsIn.form hv3
          clear hr3 he hpm
          obtain ⟨ps, F, hgb⟩ := hgrow
          have hgb2 := hgb.kept (items_movable YP d) hg2 (fun k hk => by cases hk; omega)
          have hgb3 := hgb2.kept (items_movable YP d) hg3 (fun k hk => by cases hk; omega)
          have hown3 := hgb3.2.1
          have s2 := gg2.size
          have s3 := hg3.size
          go_wp2_with (first
            | (at_builtin; refine wpList_append_lies _ rfl _ _ 53 rfl w.heap.size 84 i0 _ 2 40 Try.underlying53 hi hz0 hz1 hz2 rfl (by decide) u3 acc.length (ps.flatMap YP.cA) rfl (hown3.alloc _) ⟨w3.heap.size, 0, none⟩ 1 1 (YP.cA (.slice xa xk xc, a3)) rfl rfl (news_of (Blk.new w3 _ 84)) (by simp [YP, Value.oneCell']) (by decide) (by unfold maxLen; omega) (by omega) (by simp; omega) _ rfl ?_; intro g cap' w4 hown4 hgrow4 hat hlt))
          have G4 := GrowBy.push (items_movable YP d) hgb2 (p := p) (by omega) s2 hg3 (.slice xa xk xc, a3) hv3 (grown_alloc w3 _ none) hown4 hgrow4 hat
          have hr4 := (hrd3.alloc _).grown hgrow4 (fun e => by have := (hown3.lt _ e.symm).1; omega) (fun e => by have := (hown3.lt _ e.symm).1; omega)
          have gg4 := grown_append (grown_trans gg2 hg3) (grown_alloc w3 _ none) hgrow4 (fun k hk => (hown3.lt _ hk).1)
          go_roundg ts3.length
          case measure => omega
          case rel => exact ⟨ts3, acc ++ [a3], f', rfl, by omega, by simp; omega, hr4, G4, gg4, HP3⟩
      · have HB : Hid (¬ Lx.hd tsr = Lx.tBar) := hb
        clear hb
        go_wp2_with (first
          | (go_at_call 53; refine (passIf_no hr Lx.tBar HB.out).mono ?_; rintro e w' ⟨rfl, hw⟩; obtain rfl := hw.symm))
        go_ret
        refine Ends.yes (x := acc) (ts' := tsr) (by rw [hpm.out]; simp only [Lx.pMore]; rw [if_neg HB.out]) hg hr ?_
        exact hgrow.seq (items_movable YP d)
theorem alts_at : ∀ d, d ≤ 8 → AltsSaid d
  | 0, _ => alts_all (alt_all (item_all group_zero))
  | d + 1, h => alts_all (alt_all (item_all (group_succ (by omega) (alts_at d (by omega)))))
end Go.Proofs.Ytonkcljapkeidaa

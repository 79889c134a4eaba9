import Derived.Test.YtonkcljapkeidaaA2
namespace Go.Proofs.Ytonkcljapkeidaa
open Go.RowKit

theorem Try.info90 : (Try.prog.info? 90).map (fun i => (i.zero, i.size, i.bytes)) = some (some (.agg #[.string ByteArray.empty, .int .i64 0]), 2, 24) := by kernel_rfl

theorem two_new {w : World} {g : Nat} {x y : Value} (h0 : w.cell? ⟨g, 0, none⟩ = some x) (h1 : w.cell? ⟨g, 1, none⟩ = some y) : ∀ j u, [x, y][j]? = some u → w.cell? ((⟨g, 0, none⟩ : Addr).add j) = some u := by
  intro j u hj
  match j, hj with
  | 0, hj => simp at hj; subst hj; simpa [Addr.add] using h0
  | 1, hj => simp at hj; subst hj; simpa [Addr.add] using h1
set_option maxHeartbeats 400000 in
theorem All_any (s : ByteArray) (w : World) (hs : s.size ≤ 2000) :
    Calls Try.prog 23 #[.string s] w fun e w' => ∃ v, e = .returned v ∧ w'.ownsRow w.heap.size 90 2 v (Lx.lex s).length (Lx.tkCells (Lx.lex s)) ∧ Below w.heap.size w w' := by
  obtain ⟨i0, hi, hz0, hz1, hz2⟩ := info_parts Try.info90
  have hg0 := Lx.gapEnd_bd (s := s) (i := 0) false (by omega)
  go_enter Try.func23, Try.ntmps23
  go_wp2_with (first | (go_at_call 33; refine (passGap_any s 0 _ hs (by omega)).mono ?_; rintro e w' ⟨rfl, hw⟩; obtain rfl := hw.symm))
  go_loopw [3, 4] (fun v at_ wr => ∃ (k : Nat) (l : List Lx.Tk), k ≤ s.size ∧ l.length ≤ k ∧ at_ = .int .i64 k ∧ wr.ownsRow w.heap.size 90 2 v l.length (Lx.tkCells l) ∧ Hid (l ++ Lx.lexAt s k = Lx.lex s) ∧ Below w.heap.size w wr) (fun _ at_ _ => s.size - (intOf at_).toNat)
  case atStart => exact ⟨_, [], hg0.2, by simp, rfl, World.ownsRow_nil _ _ _ _, rfl, Below.refl _ _⟩
  case round =>
    obtain ⟨k, l, hk, hll, rfl, hown, hl, hnx⟩ := hrel
    by_cases hlt : k < s.size
    · have hst := Lx.lexAt_step hlt
      have HS : Hid _ := hst
      clear hst
      have hbd := Lx.signEnd_bd hlt
      have hgd := Lx.gapEnd_bd (s := s) (i := Lx.signEnd s k) false hbd.2
      have hnx' := hnx.size
      go_wp2_with (first
        | (go_at_call 34; refine (signEnd_any s k _ hs hlt).mono ?_; rintro e w' ⟨rfl, hw⟩; obtain rfl := hw.symm)
        | (go_at_call 33; refine (passGap_any s _ _ hs hbd.2).mono ?_; rintro e w' ⟨rfl, hw⟩; obtain rfl := hw.symm)
        | (at_builtin; refine wpList_append_own _ rfl _ _ 62 rfl w.heap.size 90 i0 _ 2 24 Try.underlying62 hi hz0 hz1 hz2 rfl (by decide) u3 _ _ rfl (hown.alloc _) ⟨_, 0, none⟩ 1 1 [.string (s.extract k (Lx.signEnd s k)), .int .i64 k] rfl rfl (two_new (by simp) (by simp)) (by simp [Value.oneCell']) (by unfold maxLen; omega) (by omega) (by simp; omega) ?_; intro v' w1 hown' hgrow _))
      have hbl := (hnx.alloc hnx' (.cells #[.string (s.extract k (Lx.signEnd s k)), .int .i64 k] 90)).grown hgrow (by simp; omega) (fun q hq => (hown.lt q hq).1)
      refine ⟨⟨Lx.gapEnd s (Lx.signEnd s k) false, l ++ [(s.extract k (Lx.signEnd s k), k)], hgd.2, by simp; omega, rfl, ?_, ?_, hbl⟩, by simp [intOf]; omega⟩
      · rw [Lx.tkCells_append]; simpa [Lx.tkCells] using hown'
      · show _ = _
        rw [← hl.out, HS.out]; simp [Lx.nextAt]
    · have hnx' := hnx.size
      have hst := Lx.lexAt_done (s := s) (i := k) (by omega)
      have HS : Hid _ := hst
      clear hst
      go_wp2_with (first
        | (at_builtin; refine wpList_append_own _ rfl _ _ 62 rfl w.heap.size 90 i0 _ 2 24 Try.underlying62 hi hz0 hz1 hz2 rfl (by decide) u3 _ _ rfl (hown.alloc _) ⟨_, 0, none⟩ 1 1 [.string ⟨#[]⟩, .int .i64 k] rfl rfl (two_new (by simp) (by simp)) (by simp [Value.oneCell']) (by unfold maxLen; omega) (by omega) (by simp; omega) ?_; intro v' w1 hown' hgrow _))
      have hbl := (hnx.alloc hnx' (.cells #[.string ⟨#[]⟩, .int .i64 k] 90)).grown hgrow (by simp; omega) (fun q hq => (hown.lt q hq).1)
      go_ret
      refine ⟨v', rfl, ?_, hbl⟩
      rw [← hl.out, HS.out, Lx.tkCells_append]; simpa [Lx.tkCells] using hown'
end Go.Proofs.Ytonkcljapkeidaa

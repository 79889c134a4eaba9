import Derived.Test.YtonkcljapkeidaaA1
namespace Go.Proofs.Ytonkcljapkeidaa
open Go.RowKit

set_option maxHeartbeats 400000 in
theorem passGap_any (s : ByteArray) (i : Nat) (w : World) (hs : s.size ≤ 2000) (hi : i ≤ s.size) :
    Calls Try.prog 33 #[.string s, .int .i64 i] w fun e w' => e = .returned (.int .i64 (Lx.gapEnd s i false)) ∧ w' = w := by
  go_enter Try.func33, Try.ntmps33
  go_wp2
  go_loop [1, 5] (fun at_ r => ∃ (k : Nat) (b : Bool), k ≤ s.size ∧ at_ = .int .i64 k ∧ r = .bool b ∧ Hid (Lx.gapEnd s k b = Lx.gapEnd s i false)) (fun at_ _ => s.size - (intOf at_).toNat)
  case atStart => exact ⟨i, false, hi, rfl, rfl, rfl⟩
  case round =>
    obtain ⟨k, b, hk, rfl, rfl, hg⟩ := hrel
    by_cases hlt : k < s.size
    · have hbd := Lx.byteAt_bd s k
      rw [Lx.byteAt_eq s k hlt] at hbd
      cases b
      all_goals
        go_wp2
        all_goals
          have h1 := hg.out
          clear hg
          simp only [beq_iff_eq, beq_eq_false_iff_ne, bne_iff_ne, bne_eq_false_iff_eq, ne_eq] at *
          first
          | (refine ⟨⟨k + 1, _, by omega, by go_num, rfl, ?_⟩, by simp [intOf]; omega⟩
             first
             | (refine Lx.gap_nl hlt h1 ?_; omega)
             | (refine Lx.gap_hash hlt h1 ?_; omega)
             | (refine Lx.gap_rem hlt h1 ?_ ?_ <;> omega)
             | (refine Lx.gap_blank hlt h1 ?_; omega))
          | (go_ret
             refine ⟨ret_int ?_, rfl⟩
             rw [← Lx.gap_stop hlt h1 (by omega) (by omega) (by omega) (by omega)])
    · go_wp2
      go_ret
      exact ⟨ret_int (by have := hg.out; rw [Lx.gapEnd_done _ (by omega)] at this; rw [← this]), rfl⟩

set_option maxHeartbeats 400000 in
theorem signEnd_any (s : ByteArray) (i : Nat) (w : World) (hs : s.size ≤ 2000) (hi : i < s.size) :
    Calls Try.prog 34 #[.string s, .int .i64 i] w fun e w' => e = .returned (.int .i64 (Lx.signEnd s i)) ∧ w' = w := by
  have hbe := Lx.byteAt_eq s i hi
  have hbd := Lx.byteAt_bd s i
  obtain ⟨j, hj, hj', hp', HE⟩ : ∃ j : Nat, i ≤ j ∧ j ≤ i + 1 ∧ (j = i + 1 ∧ (((s[i].toNat : Int)) == 37) = true ∨ j = i ∧ (((s[i].toNat : Int)) == 37) = false) ∧ Hid (Lx.signEnd s i = max (Lx.wordEnd s j) (i + 1)) := by
    by_cases hp : s[i].toNat = 37
    · exact ⟨i + 1, by omega, by omega, .inl ⟨rfl, by simp; omega⟩, by show _ = _; unfold Lx.signEnd; rw [hbe, if_pos (by omega)]⟩
    · exact ⟨i, by omega, by omega, .inr ⟨rfl, by simp; omega⟩, by show _ = _; unfold Lx.signEnd; rw [hbe, if_neg (by omega)]⟩
  clear hbe
  rcases hp' with ⟨hj0, hp'⟩ | ⟨hj0, hp'⟩
  all_goals
    have HJ : Hid _ := hj0
    clear hj0
    go_enter Try.func34, Try.ntmps34
    go_wp2
    go_loop [5] (fun at_ => ∃ (k : Nat), k ≤ s.size ∧ at_ = .int .i64 k ∧ Hid (Lx.signEnd s i = max (Lx.wordEnd s k) (i + 1))) (fun at_ => s.size - (intOf at_).toNat)
    case atStart => exact ⟨j, by omega, by first | (rw [HJ.out]; done) | (rw [HJ.out]; go_num), HE⟩
    case round =>
      obtain ⟨k, hk, rfl, hg⟩ := hrel
      by_cases hlt : k < s.size
      · have hst := Lx.wordEnd_step hlt
        have hbd := Lx.byteAt_bd s k
        have hbe := Lx.byteAt_eq s k hlt
        rw [hbe] at hst hbd
        have HS : Hid _ := hst
        clear hst hbe
        cases hw : Lx.wordB (s[k].toNat : Int)
        · have HW : Hid _ := hw
          go_wp2_with (first | (go_at_call 50; refine (isWordByte_any _ _ (by omega) (by omega)).mono ?_; rintro e w' ⟨rfl, rfl⟩))
          all_goals
            go_ret
            refine ⟨ret_int ?_, rfl⟩
            rw [hg.out, HS.out, if_neg (by rw [HW.out]; simp)]
            omega
        · have HW : Hid _ := hw
          go_wp2_with (first | (go_at_call 50; refine (isWordByte_any _ _ (by omega) (by omega)).mono ?_; rintro e w' ⟨rfl, rfl⟩))
          refine ⟨⟨k + 1, by omega, by go_num, ?_⟩, by simp [intOf]; omega⟩
          show _ = _
          rw [hg.out, HS.out, if_pos HW.out]
      · go_wp2_with fail
        all_goals
          go_ret
          refine ⟨ret_int ?_, rfl⟩
          rw [hg.out, Lx.wordEnd_done (by omega)]
          omega
end Go.Proofs.Ytonkcljapkeidaa

import Derived.Test.YtonkcljapkeidaaA5
namespace Go.Proofs.Ytonkcljapkeidaa
open Go.RowKit
open Lx (Tk)
set_option maxHeartbeats 400000 in
theorem rdigit_any (c : Int) (w : World) (h0 : 0 ≤ c) (h1 : c ≤ 255) :
    Calls Try.prog 43 #[.int .u8 c] w fun e w' => e = .returned (.bool (Lx.digit c)) ∧ w' = w := by
  by_cases h : 48 ≤ c
  · by_cases h' : c ≤ 57
    all_goals
      go_enter Try.func43, Try.ntmps43
      go_wp2
      go_ret
      exact ⟨ret_bool (by simp [Lx.digit]; omega), rfl⟩
  · go_enter Try.func43, Try.ntmps43
    go_wp2
    go_ret
    exact ⟨ret_bool (by simp [Lx.digit]; omega), rfl⟩
set_option maxHeartbeats 400000 in
theorem rlow_any (c : Int) (w : World) (h0 : 0 ≤ c) (h1 : c ≤ 255) :
    Calls Try.prog 44 #[.int .u8 c] w fun e w' => e = .returned (.bool (Lx.small c)) ∧ w' = w := by
  by_cases h : 97 ≤ c
  · by_cases h' : c ≤ 122
    all_goals
      go_enter Try.func44, Try.ntmps44
      go_wp2
      go_ret
      exact ⟨ret_bool (by simp [Lx.small]; omega), rfl⟩
  · go_enter Try.func44, Try.ntmps44
    go_wp2
    go_ret
    exact ⟨ret_bool (by simp [Lx.small]; omega), rfl⟩
set_option maxHeartbeats 400000 in
theorem rbig_any (c : Int) (w : World) (h0 : 0 ≤ c) (h1 : c ≤ 255) :
    Calls Try.prog 45 #[.int .u8 c] w fun e w' => e = .returned (.bool (Lx.capital c)) ∧ w' = w := by
  by_cases h : 65 ≤ c
  · by_cases h' : c ≤ 90
    all_goals
      go_enter Try.func45, Try.ntmps45
      go_wp2
      go_ret
      exact ⟨ret_bool (by simp [Lx.capital]; omega), rfl⟩
  · go_enter Try.func45, Try.ntmps45
    go_wp2
    go_ret
    exact ⟨ret_bool (by simp [Lx.capital]; omega), rfl⟩
set_option maxHeartbeats 800000 in
theorem rIsName_any (b : ByteArray) (w : World) (hs : b.size ≤ 2000) :
    Calls Try.prog 48 #[.string b] w fun e w' => e = .returned (.bool (Lx.isName b)) ∧ w' = w := by
  show Calls Try.prog 48 #[.string b] w fun e w' => e = .returned (.bool (Lx.isWord Lx.small b)) ∧ w' = w
  by_cases h0 : b.size = 0
  · have he := Lx.isWord_short (p := Lx.small) h0
    have HE : Hid _ := he
    clear he
    have h0' : ((b.size : Int) == 0) = true := beq_iff_eq.2 (by omega)
    go_enter Try.func48, Try.ntmps48
    go_wp2_with fail
    go_ret
    exact ⟨ret_bool HE.out.symm, rfl⟩
  have h0' : ((b.size : Int) == 0) = false := beq_eq_false_iff_ne.2 (by omega)
  by_cases h1 : 12 < b.size
  · have he := Lx.isWord_long (p := Lx.small) h1
    have HE : Hid _ := he
    clear he
    go_enter Try.func48, Try.ntmps48
    go_wp2_with fail
    go_ret
    exact ⟨ret_bool HE.out.symm, rfl⟩
  have hpos : 0 < b.size := by omega
  have hbd := Lx.byteAt_bd b 0
  rw [Lx.byteAt_eq b 0 hpos] at hbd
  have h1' : decide (12 < (b.size : Int)) = false := decide_eq_false (by omega)
  cases h2 : Lx.small (b[0].toNat : Int)
  · have he := Lx.isWord_first (p := Lx.small) (b := b) (by rw [Lx.byteAt_eq b 0 hpos]; exact h2)
    have HE : Hid _ := he
    have H2 : Hid _ := h2
    clear he h2
    go_enter Try.func48, Try.ntmps48
    go_wp2_with (go_at_call 44; refine (rlow_any _ _ (by omega) (by omega)).mono ?_; rintro e w' ⟨rfl, hw⟩; obtain rfl := hw.symm; rw [H2.out])
    go_ret
    exact ⟨ret_bool HE.out.symm, rfl⟩
  · have H2 : Hid _ := h2
    clear h2
    go_enter Try.func48, Try.ntmps48
    go_wp2_with (go_at_call 44; refine (rlow_any _ _ (by omega) (by omega)).mono ?_; rintro e w' ⟨rfl, hw⟩; obtain rfl := hw.symm; rw [H2.out])
    go_loop [3] (fun i => ∃ (k : Nat), k ≤ b.size ∧ i = .int .i64 k ∧ Hid (∀ j, j < k → (Lx.small (Lx.byteAt b j) || Lx.digit (Lx.byteAt b j)) = true)) (fun i => b.size - (intOf i).toNat)
    case atStart => exact ⟨0, by omega, rfl, fun j hj => absurd hj (by omega)⟩
    case round =>
      obtain ⟨k, hk, rfl, hg⟩ := hrel
      by_cases hlt : k < b.size
      · have hbd := Lx.byteAt_bd b k
        have hbe := Lx.byteAt_eq b k hlt
        rw [hbe] at hbd
        have HB : Hid _ := hbe
        clear hbe
        cases h3 : Lx.small (b[k].toNat : Int)
        · have H3 : Hid _ := h3
          clear h3
          cases h4 : Lx.digit (b[k].toNat : Int)
          · have H4 : Hid _ := h4
            clear h4
            go_wp2_with (first
              | (go_at_call 44; refine (rlow_any _ _ (by omega) (by omega)).mono ?_; rintro e w' ⟨rfl, hw⟩; obtain rfl := hw.symm; rw [H3.out])
              | (go_at_call 43; refine (rdigit_any _ _ (by omega) (by omega)).mono ?_; rintro e w' ⟨rfl, hw⟩; obtain rfl := hw.symm; rw [H4.out]))
            go_ret
            exact ⟨ret_bool (Lx.isWord_not hlt (by rw [HB.out]; exact H3.out) (by rw [HB.out]; exact H4.out)).symm, rfl⟩
          · have H4 : Hid _ := h4
            clear h4
            go_wp2_with (first
              | (go_at_call 44; refine (rlow_any _ _ (by omega) (by omega)).mono ?_; rintro e w' ⟨rfl, hw⟩; obtain rfl := hw.symm; rw [H3.out])
              | (go_at_call 43; refine (rdigit_any _ _ (by omega) (by omega)).mono ?_; rintro e w' ⟨rfl, hw⟩; obtain rfl := hw.symm; rw [H4.out]))
            refine ⟨⟨k + 1, by omega, by go_num, ?_⟩, by simp [intOf]; omega⟩
            intro j hj
            by_cases hjk : j = k
            · subst hjk; rw [HB.out, H4.out]; simp
            · exact hg.out j (by omega)
        · have H3 : Hid _ := h3
          clear h3
          go_wp2_with (first
            | (go_at_call 44; refine (rlow_any _ _ (by omega) (by omega)).mono ?_; rintro e w' ⟨rfl, hw⟩; obtain rfl := hw.symm; rw [H3.out]))
          refine ⟨⟨k + 1, by omega, by go_num, ?_⟩, by simp [intOf]; omega⟩
          intro j hj
          by_cases hjk : j = k
          · subst hjk; rw [HB.out, H3.out]; simp
          · exact hg.out j (by omega)
      · go_wp2_with fail
        go_ret
        exact ⟨ret_bool (Lx.isWord_of hpos (by omega) (by rw [Lx.byteAt_eq b 0 hpos]; exact H2.out) (fun j hj => hg.out j (by omega))).symm, rfl⟩
set_option maxHeartbeats 800000 in
theorem rIsToken_any (b : ByteArray) (w : World) (hs : b.size ≤ 2000) :
    Calls Try.prog 58 #[.string b] w fun e w' => e = .returned (.bool (Lx.isToken b)) ∧ w' = w := by
  show Calls Try.prog 58 #[.string b] w fun e w' => e = .returned (.bool (Lx.isWord Lx.capital b)) ∧ w' = w
  by_cases h0 : b.size = 0
  · have he := Lx.isWord_short (p := Lx.capital) h0
    have HE : Hid _ := he
    clear he
    have h0' : ((b.size : Int) == 0) = true := beq_iff_eq.2 (by omega)
    go_enter Try.func58, Try.ntmps58
    go_wp2_with fail
    go_ret
    exact ⟨ret_bool HE.out.symm, rfl⟩
  have h0' : ((b.size : Int) == 0) = false := beq_eq_false_iff_ne.2 (by omega)
  by_cases h1 : 12 < b.size
  · have he := Lx.isWord_long (p := Lx.capital) h1
    have HE : Hid _ := he
    clear he
    go_enter Try.func58, Try.ntmps58
    go_wp2_with fail
    go_ret
    exact ⟨ret_bool HE.out.symm, rfl⟩
  have hpos : 0 < b.size := by omega
  have hbd := Lx.byteAt_bd b 0
  rw [Lx.byteAt_eq b 0 hpos] at hbd
  have h1' : decide (12 < (b.size : Int)) = false := decide_eq_false (by omega)
  cases h2 : Lx.capital (b[0].toNat : Int)
  · have he := Lx.isWord_first (p := Lx.capital) (b := b) (by rw [Lx.byteAt_eq b 0 hpos]; exact h2)
    have HE : Hid _ := he
    have H2 : Hid _ := h2
    clear he h2
    go_enter Try.func58, Try.ntmps58
    go_wp2_with (go_at_call 45; refine (rbig_any _ _ (by omega) (by omega)).mono ?_; rintro e w' ⟨rfl, hw⟩; obtain rfl := hw.symm; rw [H2.out])
    go_ret
    exact ⟨ret_bool HE.out.symm, rfl⟩
  · have H2 : Hid _ := h2
    clear h2
    go_enter Try.func58, Try.ntmps58
    go_wp2_with (go_at_call 45; refine (rbig_any _ _ (by omega) (by omega)).mono ?_; rintro e w' ⟨rfl, hw⟩; obtain rfl := hw.symm; rw [H2.out])
    go_loop [3] (fun i => ∃ (k : Nat), k ≤ b.size ∧ i = .int .i64 k ∧ Hid (∀ j, j < k → (Lx.capital (Lx.byteAt b j) || Lx.digit (Lx.byteAt b j)) = true)) (fun i => b.size - (intOf i).toNat)
    case atStart => exact ⟨0, by omega, rfl, fun j hj => absurd hj (by omega)⟩
    case round =>
      obtain ⟨k, hk, rfl, hg⟩ := hrel
      by_cases hlt : k < b.size
      · have hbd := Lx.byteAt_bd b k
        have hbe := Lx.byteAt_eq b k hlt
        rw [hbe] at hbd
        have HB : Hid _ := hbe
        clear hbe
        cases h3 : Lx.capital (b[k].toNat : Int)
        · have H3 : Hid _ := h3
          clear h3
          cases h4 : Lx.digit (b[k].toNat : Int)
          · have H4 : Hid _ := h4
            clear h4
            go_wp2_with (first
              | (go_at_call 45; refine (rbig_any _ _ (by omega) (by omega)).mono ?_; rintro e w' ⟨rfl, hw⟩; obtain rfl := hw.symm; rw [H3.out])
              | (go_at_call 43; refine (rdigit_any _ _ (by omega) (by omega)).mono ?_; rintro e w' ⟨rfl, hw⟩; obtain rfl := hw.symm; rw [H4.out]))
            go_ret
            exact ⟨ret_bool (Lx.isWord_not hlt (by rw [HB.out]; exact H3.out) (by rw [HB.out]; exact H4.out)).symm, rfl⟩
          · have H4 : Hid _ := h4
            clear h4
            go_wp2_with (first
              | (go_at_call 45; refine (rbig_any _ _ (by omega) (by omega)).mono ?_; rintro e w' ⟨rfl, hw⟩; obtain rfl := hw.symm; rw [H3.out])
              | (go_at_call 43; refine (rdigit_any _ _ (by omega) (by omega)).mono ?_; rintro e w' ⟨rfl, hw⟩; obtain rfl := hw.symm; rw [H4.out]))
            refine ⟨⟨k + 1, by omega, by go_num, ?_⟩, by simp [intOf]; omega⟩
            intro j hj
            by_cases hjk : j = k
            · subst hjk; rw [HB.out, H4.out]; simp
            · exact hg.out j (by omega)
        · have H3 : Hid _ := h3
          clear h3
          go_wp2_with (first
            | (go_at_call 45; refine (rbig_any _ _ (by omega) (by omega)).mono ?_; rintro e w' ⟨rfl, hw⟩; obtain rfl := hw.symm; rw [H3.out]))
          refine ⟨⟨k + 1, by omega, by go_num, ?_⟩, by simp [intOf]; omega⟩
          intro j hj
          by_cases hjk : j = k
          · subst hjk; rw [HB.out, H3.out]; simp
          · exact hg.out j (by omega)
      · go_wp2_with fail
        go_ret
        exact ⟨ret_bool (Lx.isWord_of hpos (by omega) (by rw [Lx.byteAt_eq b 0 hpos]; exact H2.out) (fun j hj => hg.out j (by omega))).symm, rfl⟩
end Go.Proofs.Ytonkcljapkeidaa

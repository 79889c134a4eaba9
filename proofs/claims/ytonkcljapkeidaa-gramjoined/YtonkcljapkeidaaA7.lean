import Derived.Test.YtonkcljapkeidaaA6
namespace Go.Proofs.Ytonkcljapkeidaa
open Go.RowKit
open Lx (Tk)
theorem text_no {a : ByteArray} {l : List UInt8} (h : a ≠ ⟨l.toArray⟩) : (a.toList == l) = false := by
  rw [ByteArray.toList_eq]
  exact beq_eq_false_iff_ne.2 fun e => h (ByteArray.ext (by rw [← e]))

set_option maxHeartbeats 400000 in
theorem mark_rd {sb cap : Nat} {L : List Tk} {p : Nat} {w : World} {ts : List Tk} {o : Int} (h : Rd sb cap L p w ts o) :
    Calls Try.prog 78 #[.pointer (some ⟨p, 0, none⟩)] w fun e w' => e = .returned (.int .u8 ((Lx.pMark ts).1 : Int)) ∧ w.grownBy w' (some p) ∧ Rd sb cap L p w' (Lx.pMark ts).2 o := by
  by_cases h1 : Lx.hd ts = Lx.tStar
  · have HM : Hid (Lx.pMark ts = (42, ts.tail)) := if_pos h1
    have HN : Hid (Lx.hd ts ≠ Lx.noText) := by rw [h1]; show _ ≠ _; decide
    have H1 : Hid (Lx.hd ts = ⟨#[42]⟩) := h1
    clear h1
    go_enter Try.func78, Try.ntmps78
    go_wp2_with (first
      | (go_at_call 36; refine (ahead_rd h).mono ?_; rintro e w' ⟨rfl, hw⟩; obtain rfl := hw.symm; rw [H1.out])
      | (go_at_call 51; refine (pass_rd h HN.out).mono ?_; rintro e w1 ⟨rfl, hg, hr⟩))
    go_ret
    rw [HM.out]
    exact ⟨rfl, hg, hr⟩
  by_cases h2 : Lx.hd ts = Lx.tPlus
  · have HM : Hid (Lx.pMark ts = (43, ts.tail)) := by show _ = _; unfold Lx.pMark; rw [if_neg h1, if_pos h2]
    have HN : Hid (Lx.hd ts ≠ Lx.noText) := by rw [h2]; show _ ≠ _; decide
    have H1 : Hid (Lx.hd ts = ⟨#[43]⟩) := h2
    clear h1 h2
    go_enter Try.func78, Try.ntmps78
    go_wp2_with (first
      | (go_at_call 36; refine (ahead_rd h).mono ?_; rintro e w' ⟨rfl, hw⟩; obtain rfl := hw.symm; rw [H1.out])
      | (go_at_call 51; refine (pass_rd h HN.out).mono ?_; rintro e w1 ⟨rfl, hg, hr⟩))
    go_ret
    rw [HM.out]
    exact ⟨rfl, hg, hr⟩
  by_cases h3 : Lx.hd ts = Lx.tAsk
  · have HM : Hid (Lx.pMark ts = (63, ts.tail)) := by show _ = _; unfold Lx.pMark; rw [if_neg h1, if_neg h2, if_pos h3]
    have HN : Hid (Lx.hd ts ≠ Lx.noText) := by rw [h3]; show _ ≠ _; decide
    have H1 : Hid (Lx.hd ts = ⟨#[63]⟩) := h3
    clear h1 h2 h3
    go_enter Try.func78, Try.ntmps78
    go_wp2_with (first
      | (go_at_call 36; refine (ahead_rd h).mono ?_; rintro e w' ⟨rfl, hw⟩; obtain rfl := hw.symm; rw [H1.out])
      | (go_at_call 51; refine (pass_rd h HN.out).mono ?_; rintro e w1 ⟨rfl, hg, hr⟩))
    go_ret
    rw [HM.out]
    exact ⟨rfl, hg, hr⟩
  have HM : Hid (Lx.pMark ts = (0, ts)) := by show _ = _; unfold Lx.pMark; rw [if_neg h1, if_neg h2, if_neg h3]
  have g1 : ((Lx.hd ts).toList == [42]) = false := text_no h1
  have g2 : ((Lx.hd ts).toList == [43]) = false := text_no h2
  have g3 : ((Lx.hd ts).toList == [63]) = false := text_no h3
  clear h1 h2 h3
  go_enter Try.func78, Try.ntmps78
  go_wp2_with (first
    | (go_at_call 36; refine (ahead_rd h).mono ?_; rintro e w' ⟨rfl, hw⟩; obtain rfl := hw.symm))
  go_ret
  rw [HM.out]
  exact ⟨rfl, grown_refl _ _, h⟩

set_option maxHeartbeats 400000 in
theorem levelKind_any (b : ByteArray) (w : World) :
    Calls Try.prog 35 #[.string b] w fun e w' => e = .returned (.int .i64 (Lx.levelKind b)) ∧ w' = w := by
  by_cases h1 : b = Lx.tLeft
  · subst h1
    unfold Lx.tLeft
    go_enter Try.func35, Try.ntmps35
    go_wp2
    go_ret
    exact ⟨rfl, rfl⟩
  by_cases h2 : b = Lx.tRight
  · subst h2
    unfold Lx.tRight
    go_enter Try.func35, Try.ntmps35
    go_wp2
    go_ret
    exact ⟨rfl, rfl⟩
  by_cases h3 : b = Lx.tNone
  · subst h3
    unfold Lx.tNone
    go_enter Try.func35, Try.ntmps35
    go_wp2
    go_ret
    exact ⟨rfl, rfl⟩
  have HM : Hid (Lx.levelKind b = -1) := by show _ = _; unfold Lx.levelKind; rw [if_neg h1, if_neg h2, if_neg h3]
  have g1 : (b.toList == [37, 108, 101, 102, 116]) = false := text_no h1
  have g2 : (b.toList == [37, 114, 105, 103, 104, 116]) = false := text_no h2
  have g3 : (b.toList == [37, 110, 111, 110, 101]) = false := text_no h3
  clear h1 h2 h3
  go_enter Try.func35, Try.ntmps35
  go_wp2
  go_ret
  rw [HM.out]
  exact ⟨rfl, rfl⟩

set_option maxHeartbeats 400000 in
theorem seesItem_rd {sb cap : Nat} {L : List Tk} {p : Nat} {w : World} {ts : List Tk} {o : Int} (h : Rd sb cap L p w ts o) :
    Calls Try.prog 74 #[.pointer (some ⟨p, 0, none⟩)] w fun e w' => e = .returned (.bool (Lx.seesItem ts)) ∧ w' = w := by
  have hsz := h.hsz
  cases h1 : decide (Lx.hd ts = Lx.tOpen)
  · cases h2 : Lx.isName (Lx.hd ts)
    · have HM : Hid (Lx.seesItem ts = Lx.isToken (Lx.hd ts)) := by show _ = _; unfold Lx.seesItem; rw [h1, h2]; simp
      have H1 : Hid _ := h1
      have H2 : Hid _ := h2
      clear h1 h2
      go_enter Try.func74, Try.ntmps74
      go_wp2_with (first
        | (go_at_call 36; refine (ahead_rd h).mono ?_; rintro e w' ⟨rfl, hw⟩; obtain rfl := hw.symm)
        | (go_at_call 39; refine (sees_rd h Lx.tOpen).mono ?_; rintro e w' ⟨rfl, hw⟩; obtain rfl := hw.symm; rw [H1.out])
        | (go_at_call 66; refine (IsName_any _ _ hsz).mono ?_; rintro e w' ⟨rfl, hw⟩; obtain rfl := hw.symm; rw [H2.out])
        | (go_at_call 65; refine (IsToken_any _ _ hsz).mono ?_; rintro e w' ⟨rfl, hw⟩; obtain rfl := hw.symm))
      go_ret
      rw [HM.out]
      exact ⟨rfl, rfl⟩
    · have HM : Hid (Lx.seesItem ts = true) := by show _ = _; unfold Lx.seesItem; rw [h1, h2]; simp
      have H1 : Hid _ := h1
      have H2 : Hid _ := h2
      clear h1 h2
      go_enter Try.func74, Try.ntmps74
      go_wp2_with (first
        | (go_at_call 36; refine (ahead_rd h).mono ?_; rintro e w' ⟨rfl, hw⟩; obtain rfl := hw.symm)
        | (go_at_call 39; refine (sees_rd h Lx.tOpen).mono ?_; rintro e w' ⟨rfl, hw⟩; obtain rfl := hw.symm; rw [H1.out])
        | (go_at_call 66; refine (IsName_any _ _ hsz).mono ?_; rintro e w' ⟨rfl, hw⟩; obtain rfl := hw.symm; rw [H2.out]))
      go_ret
      rw [HM.out]
      exact ⟨rfl, rfl⟩
  · have HM : Hid (Lx.seesItem ts = true) := by show _ = _; unfold Lx.seesItem; rw [h1]; simp
    have H1 : Hid _ := h1
    clear h1
    go_enter Try.func74, Try.ntmps74
    go_wp2_with (first
      | (go_at_call 39; refine (sees_rd h Lx.tOpen).mono ?_; rintro e w' ⟨rfl, hw⟩; obtain rfl := hw.symm; rw [H1.out]))
    go_ret
    rw [HM.out]
    exact ⟨rfl, rfl⟩
end Go.Proofs.Ytonkcljapkeidaa

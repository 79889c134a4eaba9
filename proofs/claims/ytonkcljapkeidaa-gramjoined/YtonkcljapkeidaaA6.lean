import Derived.Test.YtonkcljapkeidaaA5
import Derived.Test.YtonkcljapkeidaaS1
namespace Go.Proofs.Ytonkcljapkeidaa
open Go.RowKit
open Lx (Tk)
theorem Clone75 (s : ByteArray) (w : World) (hlim : s.size ≤ 281474976710656) :
    Calls Try.prog 76 #[.string s] w fun e w' => e = .returned (.string s) ∧ Below w.heap.size w w' := Try.stringslite_Clone s w hlim
set_option maxHeartbeats 400000 in
theorem Clone_any (s : ByteArray) (w : World) (hlim : s.size ≤ 2000) :
    Calls Try.prog 72 #[.string s] w fun e w' => e = .returned (.string s) ∧ Below w.heap.size w w' := by
  go_enter Try.func72, Try.ntmps72
  go_wp2_with (go_at_call 76; refine (Clone75 _ _ (by omega)).mono ?_; rintro e w' ⟨rfl, hb⟩)
  go_ret
  exact ⟨rfl, hb⟩
theorem grown_of_below {w w' : World} (h : Below w.heap.size w w') (r : Option Nat) : w.grownBy w' r := ⟨h.os, h.tape, h.output, h.size, fun k hk _ => h.block k hk⟩
theorem Rd.below {sb cap : Nat} {L : List Tk} {p : Nat} {w w' : World} {ts : List Tk} {o : Int} (h : Rd sb cap L p w ts o) (hb : Below w.heap.size w w') : Rd sb cap L p w' ts o :=
  h.grown (grown_of_below hb none) (by simp) (by simp)
theorem isName_ne {b : ByteArray} (h : Lx.isName b = true) : b ≠ Lx.noText := by
  intro e; subst e; revert h; decide
theorem isToken_ne {b : ByteArray} (h : Lx.isToken b = true) : b ≠ Lx.noText := by
  intro e; subst e; revert h; decide

set_option maxHeartbeats 400000 in
theorem word_name {sb cap : Nat} {L : List Tk} {p : Nat} {w : World} {ts : List Tk} {o : Int} (h : Rd sb cap L p w ts o) :
    Calls Try.prog 64 #[.pointer (some ⟨p, 0, none⟩), .func (.func 66) #[] #[]] w (Ends sb cap L p o VText w (Lx.pWord Lx.isName ts)) := by
  have hsz := h.hsz
  cases hd : Lx.isName (Lx.hd ts)
  · have hm : Lx.pWord Lx.isName ts = .error (2, Lx.pl ts) := if_neg (by rw [hd]; simp)
    have HD : Hid _ := hd
    have HM : Hid _ := hm
    clear hd hm
    go_enter Try.func64, Try.ntmps64
    go_wp2_with (first
      | (go_at_call 36; refine (ahead_rd h).mono ?_; rintro e w' ⟨rfl, hw⟩; obtain rfl := hw.symm)
      | (go_at_call 66; refine (IsName_any _ _ hsz).mono ?_; rintro e w' ⟨rfl, hw⟩; obtain rfl := hw.symm; rw [HD.out])
      | (go_at_call 67; refine (throw_rd h 2).mono ?_; rintro e w' ⟨rfl, hw⟩; obtain rfl := hw.symm))
    exact ⟨rfl, Ends.no HM.out (grown_refl _ _)⟩
  · have hm : Lx.pWord Lx.isName ts = .ok (Lx.hd ts, ts.tail) := if_pos hd
    have HN : Hid (Lx.hd ts ≠ Lx.noText) := isName_ne hd
    have HD : Hid _ := hd
    have HM : Hid _ := hm
    clear hd hm
    go_enter Try.func64, Try.ntmps64
    go_wp2_with (first
      | (go_at_call 36; refine (ahead_rd h).mono ?_; rintro e w' ⟨rfl, hw⟩; obtain rfl := hw.symm)
      | (go_at_call 66; refine (IsName_any _ _ hsz).mono ?_; rintro e w' ⟨rfl, hw⟩; obtain rfl := hw.symm; rw [HD.out])
      | (go_at_call 51; refine (pass_rd h HN.out).mono ?_; rintro e w1 ⟨rfl, hg, hr⟩)
      | (go_at_call 72; refine (Clone_any _ _ hsz).mono ?_; rintro e w2 ⟨rfl, hb⟩))
    go_ret
    exact Ends.yes HM.out (grown_trans hg (grown_of_below hb _)) (hr.below hb) rfl
set_option maxHeartbeats 400000 in
theorem name_rd {sb cap : Nat} {L : List Tk} {p : Nat} {w : World} {ts : List Tk} {o : Int} (h : Rd sb cap L p w ts o) :
    Calls Try.prog 54 #[.pointer (some ⟨p, 0, none⟩)] w (Ends sb cap L p o VText w (Lx.pWord Lx.isName ts)) := by
  cases hr : Lx.pWord Lx.isName ts with
  | error x =>
    obtain ⟨n, a⟩ := x
    have HR : Hid _ := hr
    clear hr
    go_enter Try.func54, Try.ntmps54
    go_wp2_with (go_at_call 64; refine (word_name h).mono ?_; intro e w' he; obtain ⟨rfl, hg⟩ := he.err HR.out)
    exact ⟨rfl, Ends.no rfl hg⟩
  | ok x =>
    obtain ⟨b, ts'⟩ := x
    have HR : Hid _ := hr
    clear hr
    go_enter Try.func54, Try.ntmps54
    go_wp2_with (go_at_call 64; refine (word_name h).mono ?_; intro e w' he; obtain ⟨v, rfl, hg, hrd, rfl⟩ := he.ok HR.out)
    go_ret
    exact Ends.yes rfl hg hrd rfl

set_option maxHeartbeats 400000 in
theorem word_token {sb cap : Nat} {L : List Tk} {p : Nat} {w : World} {ts : List Tk} {o : Int} (h : Rd sb cap L p w ts o) :
    Calls Try.prog 64 #[.pointer (some ⟨p, 0, none⟩), .func (.func 65) #[] #[]] w (Ends sb cap L p o VText w (Lx.pWord Lx.isToken ts)) := by
  have hsz := h.hsz
  cases hd : Lx.isToken (Lx.hd ts)
  · have hm : Lx.pWord Lx.isToken ts = .error (2, Lx.pl ts) := if_neg (by rw [hd]; simp)
    have HD : Hid _ := hd
    have HM : Hid _ := hm
    clear hd hm
    go_enter Try.func64, Try.ntmps64
    go_wp2_with (first
      | (go_at_call 36; refine (ahead_rd h).mono ?_; rintro e w' ⟨rfl, hw⟩; obtain rfl := hw.symm)
      | (go_at_call 65; refine (IsToken_any _ _ hsz).mono ?_; rintro e w' ⟨rfl, hw⟩; obtain rfl := hw.symm; rw [HD.out])
      | (go_at_call 67; refine (throw_rd h 2).mono ?_; rintro e w' ⟨rfl, hw⟩; obtain rfl := hw.symm))
    exact ⟨rfl, Ends.no HM.out (grown_refl _ _)⟩
  · have hm : Lx.pWord Lx.isToken ts = .ok (Lx.hd ts, ts.tail) := if_pos hd
    have HN : Hid (Lx.hd ts ≠ Lx.noText) := isToken_ne hd
    have HD : Hid _ := hd
    have HM : Hid _ := hm
    clear hd hm
    go_enter Try.func64, Try.ntmps64
    go_wp2_with (first
      | (go_at_call 36; refine (ahead_rd h).mono ?_; rintro e w' ⟨rfl, hw⟩; obtain rfl := hw.symm)
      | (go_at_call 65; refine (IsToken_any _ _ hsz).mono ?_; rintro e w' ⟨rfl, hw⟩; obtain rfl := hw.symm; rw [HD.out])
      | (go_at_call 51; refine (pass_rd h HN.out).mono ?_; rintro e w1 ⟨rfl, hg, hr⟩)
      | (go_at_call 72; refine (Clone_any _ _ hsz).mono ?_; rintro e w2 ⟨rfl, hb⟩))
    go_ret
    exact Ends.yes HM.out (grown_trans hg (grown_of_below hb _)) (hr.below hb) rfl
set_option maxHeartbeats 400000 in
theorem token_rd {sb cap : Nat} {L : List Tk} {p : Nat} {w : World} {ts : List Tk} {o : Int} (h : Rd sb cap L p w ts o) :
    Calls Try.prog 52 #[.pointer (some ⟨p, 0, none⟩)] w (Ends sb cap L p o VText w (Lx.pWord Lx.isToken ts)) := by
  cases hr : Lx.pWord Lx.isToken ts with
  | error x =>
    obtain ⟨n, a⟩ := x
    have HR : Hid _ := hr
    clear hr
    go_enter Try.func52, Try.ntmps52
    go_wp2_with (go_at_call 64; refine (word_token h).mono ?_; intro e w' he; obtain ⟨rfl, hg⟩ := he.err HR.out)
    exact ⟨rfl, Ends.no rfl hg⟩
  | ok x =>
    obtain ⟨b, ts'⟩ := x
    have HR : Hid _ := hr
    clear hr
    go_enter Try.func52, Try.ntmps52
    go_wp2_with (go_at_call 64; refine (word_token h).mono ?_; intro e w' he; obtain ⟨v, rfl, hg, hrd, rfl⟩ := he.ok HR.out)
    go_ret
    exact Ends.yes rfl hg hrd rfl
end Go.Proofs.Ytonkcljapkeidaa

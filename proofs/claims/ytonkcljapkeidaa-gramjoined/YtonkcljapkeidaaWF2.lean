import Derived.Test.YtonkcljapkeidaaWF1
namespace Go.Proofs.Ytonkcljapkeidaa
open Go.RowKit
open Lx (Tk)
open Tr
section
variable {s : ByteArray} {q : Nat} {w : World} {ts : List Tk} {nest : Int} {sgv : Value} {sg : List ByteArray}
set_option maxHeartbeats 400000 in
theorem fail_rr (h : RR s q w ts nest sgv sg) (n a : Nat) (hn : 0 < n) (ha : a = Lx.pl ts := by rfl) :
    Calls Try.prog 29 #[.pointer (some ⟨q, 0, none⟩), .int .i64 (n : Int), .int .i64 (a : Int)] w fun e w' => e = .returned (.tuple #[]) ∧ Mv q sgv w w' ∧ RX s q w' nest n a sgv sg := by
  have HA : Hid (a = Lx.pl ts) := ha
  clear ha
  have kq := h.blk
  have c4 : w.cell? ⟨q, 4, none⟩ = some (.int .i64 0) := kq.cell 4
  have c5 : w.cell? ⟨q, 5, none⟩ = some (.int .i64 0) := kq.cell 5
  have fq : ∀ j, w.frozen? ⟨q, j, none⟩ = false := kq.frozen
  go_enter Try.func29, Try.ntmps29
  go_wp2
  go_end0
  refine ⟨rfl, ((Mv.refl _ _ _).set 4 _).set 5 _, ⟨⟨_, _, (kq.set 4 _).set 5 _⟩, ?_, h.ne, hn, .inr ⟨ts, fun e => by have := h.wf; rw [e] at this; exact this, h.hist, fun e => by rw [HA.out, h.fst e]⟩⟩⟩
  refine own_move h.own fun g hg => ?_
  have hgq : g ≠ q := fun e => h.ne (by rw [hg, e])
  rw [Below.heap_setCell _ _ _ _ hgq, Below.heap_setCell _ _ _ _ hgq]
set_option maxHeartbeats 400000 in
theorem fail_rx {n a : Nat} (h : RX s q w nest n a sgv sg) (n' a' : Int) :
    Calls Try.prog 29 #[.pointer (some ⟨q, 0, none⟩), .int .i64 n', .int .i64 a'] w fun e w' => e = .returned (.tuple #[]) ∧ w' = w := by
  obtain ⟨i, W, kq⟩ := h.blk
  have c4 : w.cell? ⟨q, 4, none⟩ = some (.int .i64 (n : Int)) := kq.cell 4
  have h0 : ((n : Int) == 0) = false := beq_eq_false_iff_ne.2 (by have := h.pos; omega)
  go_enter Try.func29, Try.ntmps29
  go_wp2
  go_end0
  exact ⟨rfl, rfl⟩
set_option maxHeartbeats 400000 in
theorem is_rr (h : RR s q w ts nest sgv sg) (b : ByteArray) (hb : Lx.known b = true) (hn : b ≠ Lx.noText) :
    Calls Try.prog 70 #[.pointer (some ⟨q, 0, none⟩), .string b] w fun e w' => e = .returned (.bool (decide (Lx.hd ts = b))) ∧ w' = w := by
  have kq := h.blk
  have c4 : w.cell? ⟨q, 4, none⟩ = some (.int .i64 0) := kq.cell 4
  have c2 : w.cell? ⟨q, 2, none⟩ = some (.string (Lx.refW (Lx.hd ts))) := kq.cell 2
  go_enter Try.func70, Try.ntmps70
  go_wp2
  go_ret
  refine ⟨ret_bool ((text_eq _ _).trans ?_), rfl⟩
  by_cases he : Lx.hd ts = b
  · rw [decide_eq_true he, decide_eq_true ((Lx.refW_eq hb hn).2 he)]
  · rw [decide_eq_false he, decide_eq_false (fun e => he ((Lx.refW_eq hb hn).1 e))]
set_option maxHeartbeats 400000 in
theorem is_rx {n a : Nat} (h : RX s q w nest n a sgv sg) (b : ByteArray) :
    Calls Try.prog 70 #[.pointer (some ⟨q, 0, none⟩), .string b] w fun e w' => e = .returned (.bool false) ∧ w' = w := by
  obtain ⟨i, W, kq⟩ := h.blk
  have c4 : w.cell? ⟨q, 4, none⟩ = some (.int .i64 (n : Int)) := kq.cell 4
  have h0 : ((n : Int) == 0) = false := beq_eq_false_iff_ne.2 (by have := h.pos; omega)
  go_enter Try.func70, Try.ntmps70
  go_wp2
  go_ret
  exact ⟨rfl, rfl⟩
set_option maxHeartbeats 400000 in
theorem has_no (h : RR s q w ts nest sgv sg) (b : ByteArray) (hb : Lx.known b = true) (hn : b ≠ Lx.noText) (hd : ¬ Lx.hd ts = b) :
    Calls Try.prog 59 #[.pointer (some ⟨q, 0, none⟩), .string b] w fun e w' => e = .returned (.bool false) ∧ w' = w := by
  have HD : Hid _ := hd
  clear hd
  go_enter Try.func59, Try.ntmps59
  go_wp2_with (first
    | (go_at_call 70; refine (is_rr h b hb hn).mono ?_; rintro e w' ⟨rfl, hw⟩; obtain rfl := hw.symm; rw [decide_eq_false HD.out]))
  go_ret
  exact ⟨rfl, rfl⟩
set_option maxHeartbeats 400000 in
theorem has_rx {n a : Nat} (h : RX s q w nest n a sgv sg) (b : ByteArray) :
    Calls Try.prog 59 #[.pointer (some ⟨q, 0, none⟩), .string b] w fun e w' => e = .returned (.bool false) ∧ w' = w := by
  go_enter Try.func59, Try.ntmps59
  go_wp2_with (first
    | (go_at_call 70; refine (is_rx h b).mono ?_; rintro e w' ⟨rfl, hw⟩; obtain rfl := hw.symm))
  go_ret
  exact ⟨rfl, rfl⟩
set_option maxHeartbeats 400000 in
theorem has_yes (h : RR s q w ts nest sgv sg) (b : ByteArray) (hb : Lx.known b = true) (hn : b ≠ Lx.noText) (hd : Lx.hd ts = b) :
    Calls Try.prog 59 #[.pointer (some ⟨q, 0, none⟩), .string b] w fun e w' => e = .returned (.bool true) ∧ ∃ sgx, Mv q sgv w w' ∧ Nx sgv w sgx ∧ RR s q w' ts.tail nest sgx (sg ++ [Lx.hd ts]) := by
  have HD : Hid (Lx.hd ts = b) := hd
  clear hd
  go_enter Try.func59, Try.ntmps59
  go_wp2_with (first
    | (go_at_call 70; refine (is_rr h b hb hn).mono ?_; rintro e w' ⟨rfl, hw⟩; obtain rfl := hw.symm; rw [decide_eq_true HD.out])
    | (go_at_call 30; refine (next_rr h (by rw [HD.out]; exact hb) (by rw [HD.out]; exact hn)).mono ?_; rintro e w' ⟨rfl, sgx, hm, hx, hr⟩))
  go_ret
  exact ⟨rfl, sgx, hm, hx, hr⟩
end
/-- How a reading by the document's reader ends. -/
def REnds (s : ByteArray) (q : Nat) (nest : Int) {α : Type} (V : Value → World → Value → α → Prop) (VE : Value → Prop) (w : World) (sgv : Value) (r : Lx.Res α) (e : Ending) (w' : World) : Prop :=
  ∃ v sgx sg', e = .returned v ∧ Mv q sgv w w' ∧ Nx sgv w sgx ∧
    match r with
    | .ok (x, ts') => RR s q w' ts' nest sgx sg' ∧ V sgx w' v x
    | .error (n, a) => RX s q w' nest n a sgx sg' ∧ VE v
section
variable {s : ByteArray} {q : Nat} {nest : Int} {α : Type} {V : Value → World → Value → α → Prop} {VE : Value → Prop} {w w' : World} {sgv : Value} {r : Lx.Res α} {e : Ending}
theorem REnds.yes {x : α} {ts' : List Tk} {v sgx : Value} {sg' : List ByteArray} (hr : r = .ok (x, ts')) (hm : Mv q sgv w w') (hx : Nx sgv w sgx) (h1 : RR s q w' ts' nest sgx sg') (h2 : V sgx w' v x) : REnds s q nest V VE w sgv r (.returned v) w' := by
  subst hr; exact ⟨v, sgx, sg', rfl, hm, hx, h1, h2⟩
theorem REnds.no {n a : Nat} {v sgx : Value} {sg' : List ByteArray} (hr : r = .error (n, a)) (hm : Mv q sgv w w') (hx : Nx sgv w sgx) (h1 : RX s q w' nest n a sgx sg') (h2 : VE v) : REnds s q nest V VE w sgv r (.returned v) w' := by
  subst hr; exact ⟨v, sgx, sg', rfl, hm, hx, h1, h2⟩
theorem REnds.ok {x : α} {ts' : List Tk} (h : REnds s q nest V VE w sgv r e w') (hr : r = .ok (x, ts')) : ∃ v sgx sg', e = .returned v ∧ Mv q sgv w w' ∧ Nx sgv w sgx ∧ RR s q w' ts' nest sgx sg' ∧ V sgx w' v x := by
  subst hr; exact h
theorem REnds.err {n a : Nat} (h : REnds s q nest V VE w sgv r e w') (hr : r = .error (n, a)) : ∃ v sgx sg', e = .returned v ∧ Mv q sgv w w' ∧ Nx sgv w sgx ∧ RX s q w' nest n a sgx sg' ∧ VE v := by
  subst hr; exact h
end
section
variable {s : ByteArray} {q : Nat} {w : World} {ts : List Tk} {nest : Int} {sgv : Value} {sg : List ByteArray}
set_option maxHeartbeats 400000 in
theorem must_rr (h : RR s q w ts nest sgv sg) (b : ByteArray) (hb : Lx.known b = true) (hn : b ≠ Lx.noText) :
    Calls Try.prog 47 #[.pointer (some ⟨q, 0, none⟩), .string b] w (REnds s q nest (fun _ _ v (_ : Unit) => v = .tuple #[]) (fun v => v = .tuple #[]) w sgv (Lx.pMust b ts)) := by
  by_cases hd : Lx.hd ts = b
  · have HM : Hid (Lx.pMust b ts = .ok ((), ts.tail)) := if_pos hd
    have HD : Hid (Lx.hd ts = b) := hd
    clear hd
    go_enter Try.func47, Try.ntmps47
    go_wp2_with (first
      | (go_at_call 59; refine (has_yes h b hb hn HD.out).mono ?_; rintro e w' ⟨rfl, sgx, hm, hx, hr⟩))
    go_end0
    exact REnds.yes HM.out hm hx hr rfl
  · have HM : Hid (Lx.pMust b ts = .error (2, Lx.pl ts)) := if_neg hd
    have HD : Hid (¬ Lx.hd ts = b) := hd
    have c1 : w.cell? ⟨q, 1, none⟩ = some (.int .i64 (Lx.pl ts : Int)) := h.blk.cell 1
    clear hd
    go_enter Try.func47, Try.ntmps47
    go_wp2_with (first
      | (go_at_call 59; refine (has_no h b hb hn HD.out).mono ?_; rintro e w' ⟨rfl, hw⟩; obtain rfl := hw.symm)
      | (go_at_call 29; refine (fail_rr h 2 (Lx.pl ts) (by decide)).mono ?_; rintro e w' ⟨rfl, hm, hx⟩))
    go_end0
    exact REnds.no HM.out hm (Nx.refl _ _) hx rfl
set_option maxHeartbeats 400000 in
theorem must_rx {n a : Nat} (h : RX s q w nest n a sgv sg) (b : ByteArray) :
    Calls Try.prog 47 #[.pointer (some ⟨q, 0, none⟩), .string b] w fun e w' => e = .returned (.tuple #[]) ∧ w' = w := by
  obtain ⟨i, W, kq⟩ := h.blk
  have c1 : w.cell? ⟨q, 1, none⟩ = some (.int .i64 (i : Int)) := kq.cell 1
  go_enter Try.func47, Try.ntmps47
  go_wp2_with (first
    | (go_at_call 59; refine (has_rx h b).mono ?_; rintro e w' ⟨rfl, hw⟩; obtain rfl := hw.symm)
    | (go_at_call 29; refine (fail_rx h _ _).mono ?_; rintro e w' ⟨rfl, hw⟩; obtain rfl := hw.symm))
  go_end0
  exact ⟨rfl, rfl⟩
set_option maxHeartbeats 400000 in
theorem rtoken_rr (h : RR s q w ts nest sgv sg) :
    Calls Try.prog 46 #[.pointer (some ⟨q, 0, none⟩)] w (REnds s q nest (fun _ _ v (b : ByteArray) => v = .string b) (fun v => v = .string ⟨#[]⟩) w sgv (Lx.pWord Lx.isToken ts)) := by
  have kq := h.blk
  have c1 : w.cell? ⟨q, 1, none⟩ = some (.int .i64 (Lx.pl ts : Int)) := kq.cell 1
  have c2 : w.cell? ⟨q, 2, none⟩ = some (.string (Lx.refW (Lx.hd ts))) := kq.cell 2
  have c4 : w.cell? ⟨q, 4, none⟩ = some (.int .i64 0) := kq.cell 4
  have hsz := h.wsz
  cases hd : Lx.isToken (Lx.hd ts)
  · have HM : Hid (Lx.pWord Lx.isToken ts = .error (2, Lx.pl ts)) := if_neg (by rw [hd]; simp)
    have HD : Hid (Lx.isToken (Lx.refW (Lx.hd ts)) = false) := by rw [Lx.isToken_refW]; exact hd
    clear hd
    go_enter Try.func46, Try.ntmps46
    go_wp2_with (first
      | (go_at_call 58; refine (rIsToken_any _ _ hsz).mono ?_; rintro e w' ⟨rfl, hw⟩; obtain rfl := hw.symm; rw [HD.out])
      | (go_at_call 29; refine (fail_rr h 2 (Lx.pl ts) (by decide)).mono ?_; rintro e w' ⟨rfl, hm, hx⟩))
    go_ret
    exact REnds.no HM.out hm (Nx.refl _ _) hx rfl
  · have HM : Hid (Lx.pWord Lx.isToken ts = .ok (Lx.hd ts, ts.tail)) := if_pos hd
    have HD : Hid (Lx.isToken (Lx.refW (Lx.hd ts)) = true) := by rw [Lx.isToken_refW]; exact hd
    have HK : Hid (Lx.known (Lx.hd ts) = true) := Lx.isToken_known hd
    have HN : Hid (Lx.hd ts ≠ Lx.noText) := isToken_ne hd
    clear hd
    go_enter Try.func46, Try.ntmps46
    go_wp2_with (first
      | (go_at_call 58; refine (rIsToken_any _ _ hsz).mono ?_; rintro e w' ⟨rfl, hw⟩; obtain rfl := hw.symm; rw [HD.out])
      | (go_at_call 30; refine (next_rr h HK.out HN.out).mono ?_; rintro e w' ⟨rfl, sgx, hm, hx, hr⟩))
    go_ret
    exact REnds.yes HM.out hm hx hr (by rw [Lx.refW_known HK.out]; rfl)
end
end Go.Proofs.Ytonkcljapkeidaa

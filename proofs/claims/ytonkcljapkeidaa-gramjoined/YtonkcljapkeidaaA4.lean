import Derived.Test.YtonkcljapkeidaaA3
import Derived.Test.YtonkcljapkeidaaL2
namespace Go.Proofs.Ytonkcljapkeidaa
open Go.RowKit
open Lx (Tk)

set_option maxHeartbeats 400000 in
theorem ahead_raw (p : Addr) (a : Addr) (len cap : Nat) (t : ByteArray) (w : World) (hp : w.cell? ⟨p.block, p.off, none⟩ = some (.slice (some ⟨a.block, a.off, none⟩) len cap)) (hl : 0 < len)
    (ht : w.cell? ⟨a.block, a.off, none⟩ = some (.string t)) :
    Calls Try.prog 36 #[.pointer (some ⟨p.block, p.off, none⟩)] w fun e w' => e = .returned (.string t) ∧ w' = w := by
  go_enter Try.func36, Try.ntmps36
  go_wp2
  go_ret
  exact ⟨rfl, rfl⟩
set_option maxHeartbeats 400000 in
theorem pass_raw (p : Addr) (a : Addr) (len cap : Nat) (w : World) (hp : w.cell? ⟨p.block, p.off, none⟩ = some (.slice (some ⟨a.block, a.off, none⟩) len cap)) (hl : 1 < len) (hc : len ≤ cap)
    (hf : w.frozen? ⟨p.block, p.off, none⟩ = false) :
    Calls Try.prog 51 #[.pointer (some ⟨p.block, p.off, none⟩)] w fun e w' => e = .returned (.tuple #[]) ∧ w' = w.setCell ⟨p.block, p.off, none⟩ (.slice (some ⟨a.block, a.off + 2, none⟩) (len - 1) (cap - 1)) := by
  have hc1 : ¬ cap = 1 := by omega
  go_enter Try.func51, Try.ntmps51
  go_wp2
  go_end0
  exact ⟨rfl, rfl⟩
/-- what is thrown -/
def thrown (n a : Nat) : List PanicEntry := [{ v := .iface 60 (.agg #[.int .i64 (n : Int), .int .i64 (a : Int)]), recovered := false }]
set_option maxHeartbeats 400000 in
theorem throw_raw (p : Addr) (a : Addr) (len cap : Nat) (t n : Nat) (w : World) (hp : w.cell? ⟨p.block, p.off, none⟩ = some (.slice (some ⟨a.block, a.off, none⟩) len cap)) (hl : 0 < len)
    (ht : w.cell? ⟨a.block, a.off + 1, none⟩ = some (.int .i64 t)) :
    Calls Try.prog 67 #[.pointer (some ⟨p.block, p.off, none⟩), .int .i64 n] w fun e w' => e = .panicked (thrown n t) ∧ w' = w := by
  go_enter Try.func67, Try.ntmps67
  go_wp2
  exact ⟨rfl, rfl, rfl⟩

/-- The reader at block p: the signs that are not yet passed, and how many groups are open. -/
structure Rd (sb cap : Nat) (L : List Tk) (p : Nat) (w : World) (ts : List Tk) (o : Int) : Prop where
  wf : Lx.WF ts
  suf : ∃ pre, L = pre ++ ts
  capL : L.length ≤ cap
  sl : w.cell? ⟨p, 0, none⟩ = some (.slice (some ⟨sb, (L.length - ts.length) * 2, none⟩) ts.length (cap - (L.length - ts.length)))
  op : w.cell? ⟨p, 1, none⟩ = some (.int .i64 o)
  fz0 : w.frozen? ⟨p, 0, none⟩ = false
  fz1 : w.frozen? ⟨p, 1, none⟩ = false
  row : ∀ j t, L[j]? = some t → w.cell? ⟨sb, j * 2, none⟩ = some (.string t.1) ∧ w.cell? ⟨sb, j * 2 + 1, none⟩ = some (.int .i64 (t.2 : Int))
  ne : p ≠ sb
  sz : ∀ t, t ∈ L → t.1.size ≤ 2000
  lb : L.length ≤ 2001
section
variable {sb cap : Nat} {L : List Tk} {p : Nat} {w w' : World} {ts : List Tk} {o : Int}
theorem Rd.at (h : Rd sb cap L p w ts o) : w.cell? ⟨sb, (L.length - ts.length) * 2, none⟩ = some (.string (Lx.hd ts)) ∧ w.cell? ⟨sb, (L.length - ts.length) * 2 + 1, none⟩ = some (.int .i64 (Lx.pl ts : Int)) := by
  obtain ⟨pre, hL⟩ := h.suf
  have hn := h.wf.ne
  cases ts with
  | nil => simp at hn
  | cons t r =>
    have e : L.length - (t :: r).length = pre.length := by rw [hL]; simp
    rw [e]
    exact h.row pre.length t (by rw [hL]; simp)
theorem Rd.hsz (h : Rd sb cap L p w ts o) : (Lx.hd ts).size ≤ 2000 := by
  obtain ⟨pre, hL⟩ := h.suf
  have hn := h.wf.ne
  cases ts with
  | nil => simp at hn
  | cons t r => exact h.sz t (by rw [hL]; simp)
theorem Rd.len (h : Rd sb cap L p w ts o) : ts.length ≤ L.length := by
  obtain ⟨pre, hL⟩ := h.suf
  rw [hL]; simp
theorem Rd.step (h : Rd sb cap L p w ts o) (hn : Lx.hd ts ≠ Lx.noText) :
    Rd sb cap L p (w.setCell ⟨p, 0, none⟩ (.slice (some ⟨sb, (L.length - ts.length) * 2 + 2, none⟩) (ts.length - 1) (cap - (L.length - ts.length) - 1))) ts.tail o := by
  obtain ⟨pre, hL⟩ := h.suf
  have ht := h.wf.tail_len
  have hlen := h.len
  have hne := h.ne
  refine ⟨h.wf.tail hn, ?_, h.capL, ?_, ?_, ?_, ?_, ?_, h.ne, h.sz, h.lb⟩
  · cases ts with
    | nil => exact absurd h.wf.ne (by simp)
    | cons t r => exact ⟨pre ++ [t], by rw [hL]; simp⟩
  · have e1 : (L.length - ts.tail.length) * 2 = (L.length - ts.length) * 2 + 2 := by omega
    have e2 : ts.tail.length = ts.length - 1 := by omega
    have e3 : cap - (L.length - ts.tail.length) = cap - (L.length - ts.length) - 1 := by omega
    rw [e1, e3, e2]
    exact World.cell?_setCell_same _ _ _ h.sl
  · rw [World.cell?_setCell_other]
    · exact h.op
    · simp
  · simpa using h.fz0
  · simpa using h.fz1
  · intro j t hj
    have hb : ∀ o' v', (⟨p, o', none⟩ : Addr) ≠ ⟨sb, v', none⟩ := fun o' v' e => hne (Addr.mk.inj e).1
    rw [World.cell?_setCell_other _ _ _ _ (hb _ _), World.cell?_setCell_other _ _ _ _ (hb _ _)]
    exact h.row j t hj
theorem Rd.reopen (h : Rd sb cap L p w ts o) (o' : Int) : Rd sb cap L p (w.setCell ⟨p, 1, none⟩ (.int .i64 o')) ts o' := by
  have hne := h.ne
  refine ⟨h.wf, h.suf, h.capL, ?_, World.cell?_setCell_same _ _ _ h.op, ?_, ?_, ?_, h.ne, h.sz, h.lb⟩
  · rw [World.cell?_setCell_other]
    · exact h.sl
    · simp
  · simpa using h.fz0
  · simpa using h.fz1
  · intro j t hj
    have hb : ∀ o' v', (⟨p, o', none⟩ : Addr) ≠ ⟨sb, v', none⟩ := fun o' v' e => hne (Addr.mk.inj e).1
    rw [World.cell?_setCell_other _ _ _ _ (hb _ _), World.cell?_setCell_other _ _ _ _ (hb _ _)]
    exact h.row j t hj
theorem Rd.lt (h : Rd sb cap L p w ts o) : p < w.heap.size := World.block_lt_of_cell? _ _ h.sl
theorem Rd.lts (h : Rd sb cap L p w ts o) : sb < w.heap.size := World.block_lt_of_cell? _ _ h.at.1
theorem Rd.grown (h : Rd sb cap L p w ts o) {r : Option Nat} (hg : w.grownBy w' r) (hp : some p ≠ r) (hs : some sb ≠ r) : Rd sb cap L p w' ts o := by
  have e1 : w'.heap[p]? = w.heap[p]? := hg.block p h.lt hp
  have e2 : w'.heap[sb]? = w.heap[sb]? := hg.block sb h.lts hs
  refine ⟨h.wf, h.suf, h.capL, ?_, ?_, ?_, ?_, ?_, h.ne, h.sz, h.lb⟩
  · rw [World.cell?_of_block (w := w) (by exact e1)]; exact h.sl
  · rw [World.cell?_of_block (w := w) (by exact e1)]; exact h.op
  · rw [World.frozen?_of_block (w := w) (by exact e1)]; exact h.fz0
  · rw [World.frozen?_of_block (w := w) (by exact e1)]; exact h.fz1
  · intro j t hj
    have hb : ∀ o', w'.cell? ⟨sb, o', none⟩ = w.cell? ⟨sb, o', none⟩ := fun o' => World.cell?_of_block (w := w) e2
    rw [hb, hb]
    exact h.row j t hj
theorem grown_refl (w : World) (r : Option Nat) : w.grownBy w r := ⟨rfl, rfl, rfl, Nat.le_refl _, fun _ _ _ => rfl⟩
theorem grown_trans {a b c : World} {r : Option Nat} (h : a.grownBy b r) (k : b.grownBy c r) : a.grownBy c r :=
  ⟨k.os.trans h.os, k.tape.trans h.tape, k.output.trans h.output, Nat.le_trans h.size k.size, fun i hi hn => (k.block i (Nat.lt_of_lt_of_le hi h.size) hn).trans (h.block i hi hn)⟩
theorem grown_set (w : World) (p : Nat) (o : Nat) (v : Value) : w.grownBy (w.setCell ⟨p, o, none⟩ v) (some p) :=
  ⟨rfl, rfl, rfl, by simp [World.setCell], fun i _ hn => Below.heap_setCell _ _ _ _ (fun e => hn (by rw [e]))⟩
end

set_option maxHeartbeats 400000 in
theorem ahead_rd {sb cap : Nat} {L : List Tk} {p : Nat} {w : World} {ts : List Tk} {o : Int} (h : Rd sb cap L p w ts o) :
    Calls Try.prog 36 #[.pointer (some ⟨p, 0, none⟩)] w fun e w' => e = .returned (.string (Lx.hd ts)) ∧ w' = w :=
  ahead_raw ⟨p, 0, none⟩ ⟨sb, (L.length - ts.length) * 2, none⟩ _ _ _ w h.sl h.wf.ne h.at.1
set_option maxHeartbeats 400000 in
theorem throw_rd {sb cap : Nat} {L : List Tk} {p : Nat} {w : World} {ts : List Tk} {o : Int} (h : Rd sb cap L p w ts o) (n : Nat) :
    Calls Try.prog 67 #[.pointer (some ⟨p, 0, none⟩), .int .i64 n] w fun e w' => e = .panicked (thrown n (Lx.pl ts)) ∧ w' = w :=
  throw_raw ⟨p, 0, none⟩ ⟨sb, (L.length - ts.length) * 2, none⟩ _ _ _ _ w h.sl h.wf.ne h.at.2
theorem one_lt {ts : List Tk} (h : Lx.WF ts) (hn : Lx.hd ts ≠ Lx.noText) : 1 < ts.length := by
  have := (h.tail hn).ne
  have := h.tail_len
  omega
theorem pass_rd {sb cap : Nat} {L : List Tk} {p : Nat} {w : World} {ts : List Tk} {o : Int} (h : Rd sb cap L p w ts o) (hn : Lx.hd ts ≠ Lx.noText) :
    Calls Try.prog 51 #[.pointer (some ⟨p, 0, none⟩)] w fun e w' => e = .returned (.tuple #[]) ∧ w.grownBy w' (some p) ∧ Rd sb cap L p w' ts.tail o := by
  have hlen := h.len
  have hc := h.capL
  refine (pass_raw ⟨p, 0, none⟩ ⟨sb, (L.length - ts.length) * 2, none⟩ _ _ w h.sl (one_lt h.wf hn) (by omega) h.fz0).mono ?_
  rintro e w' ⟨rfl, rfl⟩
  exact ⟨rfl, grown_set _ _ _ _, h.step hn⟩
theorem text_eq (a b : ByteArray) : (a.toList == b.toList) = decide (a = b) := by
  rw [ByteArray.toList_eq, ByteArray.toList_eq]
  by_cases h : a = b
  · subst h; simp
  · have : a.data.toList ≠ b.data.toList := fun e => h (ByteArray.ext (Array.toList_inj.1 e))
    rw [decide_eq_false h]; exact beq_eq_false_iff_ne.2 this
set_option maxHeartbeats 400000 in
theorem sees_rd {sb cap : Nat} {L : List Tk} {p : Nat} {w : World} {ts : List Tk} {o : Int} (h : Rd sb cap L p w ts o) (b : ByteArray) :
    Calls Try.prog 39 #[.pointer (some ⟨p, 0, none⟩), .string b] w fun e w' => e = .returned (.bool (decide (Lx.hd ts = b))) ∧ w' = w := by
  go_enter Try.func39, Try.ntmps39
  go_wp2_with (go_at_call 36; refine (ahead_rd h).mono ?_; rintro e w' ⟨rfl, hw⟩; obtain rfl := hw.symm)
  go_ret
  exact ⟨ret_bool (text_eq _ _), rfl⟩
set_option maxHeartbeats 400000 in
theorem passIf_no {sb cap : Nat} {L : List Tk} {p : Nat} {w : World} {ts : List Tk} {o : Int} (h : Rd sb cap L p w ts o) (b : ByteArray) (hd : ¬ Lx.hd ts = b) :
    Calls Try.prog 53 #[.pointer (some ⟨p, 0, none⟩), .string b] w fun e w' => e = .returned (.bool false) ∧ w' = w := by
  have HD : Hid _ := hd
  clear hd
  go_enter Try.func53, Try.ntmps53
  go_wp2_with (first
    | (go_at_call 39; refine (sees_rd h b).mono ?_; rintro e w' ⟨rfl, hw⟩; obtain rfl := hw.symm; rw [decide_eq_false HD.out]))
  go_ret
  exact ⟨rfl, rfl⟩
set_option maxHeartbeats 400000 in
theorem passIf_yes {sb cap : Nat} {L : List Tk} {p : Nat} {w : World} {ts : List Tk} {o : Int} (h : Rd sb cap L p w ts o) (b : ByteArray) (hb : b ≠ Lx.noText) (hd : Lx.hd ts = b) :
    Calls Try.prog 53 #[.pointer (some ⟨p, 0, none⟩), .string b] w fun e w' => e = .returned (.bool true) ∧ w.grownBy w' (some p) ∧ Rd sb cap L p w' ts.tail o := by
  have HD : Hid (Lx.hd ts = b) := hd
  clear hd
  go_enter Try.func53, Try.ntmps53
  go_wp2_with (first
    | (go_at_call 39; refine (sees_rd h b).mono ?_; rintro e w' ⟨rfl, hw⟩; obtain rfl := hw.symm; rw [decide_eq_true HD.out])
    | (go_at_call 51; refine (pass_rd h (by rw [HD.out]; exact hb)).mono ?_; rintro e w' ⟨rfl, hg, hr⟩))
  go_ret
  exact ⟨rfl, hg, hr⟩

/-- How a reading ends: what was read, and where the reader stands; or what was thrown. -/
def Ends (sb cap : Nat) (L : List Tk) (p : Nat) (o : Int) {α : Type} (V : World → Value → α → Prop) (w : World) (r : Lx.Res α) (e : Ending) (w' : World) : Prop :=
  w.grownBy w' (some p) ∧
    match r with
    | .ok (x, ts') => ∃ v, e = .returned v ∧ Rd sb cap L p w' ts' o ∧ V w' v x
    | .error (n, a) => e = .panicked (thrown n a)
section
variable {sb cap : Nat} {L : List Tk} {p : Nat} {o : Int} {α : Type} {V : World → Value → α → Prop} {w w' : World} {r : Lx.Res α} {e : Ending}
theorem Ends.yes {x : α} {ts' : List Tk} {v : Value} (hr : r = .ok (x, ts')) (hg : w.grownBy w' (some p)) (h1 : Rd sb cap L p w' ts' o) (h2 : V w' v x) : Ends sb cap L p o V w r (.returned v) w' := by
  subst hr; exact ⟨hg, v, rfl, h1, h2⟩
theorem Ends.no {n a : Nat} (hr : r = .error (n, a)) (hg : w.grownBy w' (some p)) : Ends sb cap L p o V w r (.panicked (thrown n a)) w' := by
  subst hr; exact ⟨hg, rfl⟩
theorem Ends.ok {x : α} {ts' : List Tk} (h : Ends sb cap L p o V w r e w') (hr : r = .ok (x, ts')) : ∃ v, e = .returned v ∧ w.grownBy w' (some p) ∧ Rd sb cap L p w' ts' o ∧ V w' v x := by
  subst hr; obtain ⟨hg, v, he, h1, h2⟩ := h; exact ⟨v, he, hg, h1, h2⟩
theorem Ends.err {n a : Nat} (h : Ends sb cap L p o V w r e w') (hr : r = .error (n, a)) : e = .panicked (thrown n a) ∧ w.grownBy w' (some p) := by
  subst hr; exact ⟨h.2, h.1⟩
end
def VUnit (_ : World) (v : Value) (_ : Unit) : Prop := v = .tuple #[]
def VText (_ : World) (v : Value) (b : ByteArray) : Prop := v = .string b
set_option maxHeartbeats 400000 in
theorem mustPass_rd {sb cap : Nat} {L : List Tk} {p : Nat} {w : World} {ts : List Tk} {o : Int} (h : Rd sb cap L p w ts o) (b : ByteArray) (hb : b ≠ Lx.noText) :
    Calls Try.prog 55 #[.pointer (some ⟨p, 0, none⟩), .string b] w (Ends sb cap L p o VUnit w (Lx.pMust b ts)) := by
  by_cases hd : Lx.hd ts = b
  · have hm : Lx.pMust b ts = .ok ((), ts.tail) := if_pos hd
    have HD : Hid (Lx.hd ts = b) := hd
    have HM : Hid _ := hm
    clear hd hm
    go_enter Try.func55, Try.ntmps55
    go_wp2_with (first
      | (go_at_call 53; refine (passIf_yes h b hb HD.out).mono ?_; rintro e w' ⟨rfl, hg, hr⟩))
    go_end0
    exact Ends.yes HM.out hg hr rfl
  · have hm : Lx.pMust b ts = .error (2, Lx.pl ts) := if_neg hd
    have HD : Hid (¬ Lx.hd ts = b) := hd
    have HM : Hid _ := hm
    clear hd hm
    go_enter Try.func55, Try.ntmps55
    go_wp2_with (first
      | (go_at_call 53; refine (passIf_no h b HD.out).mono ?_; rintro e w' ⟨rfl, hw⟩; obtain rfl := hw.symm)
      | (go_at_call 67; refine (throw_rd h 2).mono ?_; rintro e w' ⟨rfl, hw⟩; obtain rfl := hw.symm))
    exact ⟨rfl, Ends.no HM.out (grown_refl _ _)⟩
end Go.Proofs.Ytonkcljapkeidaa

import Derived.Test.YtonkcljapkeidaaF0
namespace Go.Proofs.Ytonkcljapkeidaa
open Go.RowKit
open Lx (Tk)
open Tr
namespace Lx
theorem hd_lexAt {s : ByteArray} {i : Nat} (h : i < s.size) : hd (lexAt s i) = s.extract i (signEnd s i) := by rw [lexAt_step h]; rfl
theorem pl_lexAt {s : ByteArray} {i : Nat} (h : i ≤ s.size) : pl (lexAt s i) = i := by
  by_cases hi : i < s.size
  · rw [lexAt_step hi]; rfl
  · rw [lexAt_done (by omega)]; rfl
theorem tail_lexAt {s : ByteArray} {i : Nat} (h : i < s.size) : (lexAt s i).tail = lexAt s (nextAt s i) := by rw [lexAt_step h]; rfl
theorem refW_known {b : ByteArray} (h : known b = true) : refW b = b := if_pos h
theorem refW_eq {t b : ByteArray} (hb : known b = true) (hn : b ≠ noText) : refW t = b ↔ t = b := by
  unfold refW
  split
  · exact Iff.rfl
  · rename_i hk
    constructor
    · intro e; exact absurd e.symm hn
    · intro e; subst e; exact absurd hb hk
theorem isWord_known {p : Int → Bool} (hp : ∀ c, p c = true → wordB c = true) {t : ByteArray} (h : isWord p t = true) : known t = true := by
  unfold isWord at h
  simp only [Bool.and_eq_true] at h
  unfold known
  rw [hp _ h.1.2]; simp
theorem isName_refW (t : ByteArray) : isName (refW t) = isName t := by
  unfold refW
  split
  · rfl
  · rename_i hk
    cases h : isName t
    · decide
    · exact absurd (isWord_known (fun c hc => word_s hc) h) hk
theorem isToken_refW (t : ByteArray) : isToken (refW t) = isToken t := by
  unfold refW
  split
  · rfl
  · rename_i hk
    cases h : isToken t
    · decide
    · exact absurd (isWord_known (fun c hc => word_c hc) h) hk
theorem isName_known {t : ByteArray} (h : isName t = true) : known t = true := isWord_known (fun _ hc => word_s hc) h
theorem isToken_known {t : ByteArray} (h : isToken t = true) : known t = true := isWord_known (fun _ hc => word_c hc) h
theorem refW_size (t : ByteArray) : (refW t).size ≤ t.size := by
  unfold refW
  split
  · exact Nat.le_refl _
  · exact Nat.zero_le _
end Lx
/-- The document's reader, all well so far. -/
structure RR (s : ByteArray) (q : Nat) (w : World) (ts : List Tk) (nest : Int) (sgv : Value) (sg : List ByteArray) : Prop where
  blk : Blk w q (rblk s (Lx.pl ts) (Lx.refW (Lx.hd ts)) nest 0 0 sgv) 50
  own : w.ownsRow 0 9 1 sgv sg.length (sg.map Value.string)
  ne : sgv.ownBlock ≠ some q
  lex : ts = Lx.lexAt s (Lx.pl ts)
  ple : Lx.pl ts ≤ s.size
  ss : s.size ≤ 2000
  hist : sg ++ ts.map Prod.fst = (Lx.lex s).map Prod.fst
  fst : sg = [] → ts = Lx.lex s
/-- The document's reader behind an error. -/
structure RX (s : ByteArray) (q : Nat) (w : World) (nest : Int) (n a : Nat) (sgv : Value) (sg : List ByteArray) : Prop where
  blk : ∃ i W, Blk w q (rblk s i W nest (n : Int) (a : Int) sgv) 50
  own : w.ownsRow 0 9 1 sgv sg.length (sg.map Value.string)
  ne : sgv.ownBlock ≠ some q
  pos : 0 < n
  inf : 2000 < s.size ∨ ∃ us : List Tk, us ≠ [] ∧ sg ++ us.map Prod.fst = (Lx.lex s).map Prod.fst ∧ (sg = [] → a = Lx.pl (Lx.lex s))
section
variable {s : ByteArray} {q : Nat} {w w' : World} {ts : List Tk} {nest : Int} {sgv : Value} {sg : List ByteArray}
theorem RR.wf (h : RR s q w ts nest sgv sg) : Lx.WF ts := by
  rw [h.lex]; exact Lx.lexTo_wf s _ _ (Nat.le_refl _)
theorem RR.lt (h : RR s q w ts nest sgv sg) : q < w.heap.size := h.blk.lt
theorem RR.hsz (h : RR s q w ts nest sgv sg) : (Lx.hd ts).size ≤ 2000 := by
  by_cases hi : Lx.pl ts < s.size
  · rw [h.lex, Lx.hd_lexAt hi]
    have := Lx.signEnd_bd hi
    rw [ByteArray.size_extract]
    have := h.ss
    omega
  · rw [h.lex, Lx.lexAt_done (by omega)]; exact Nat.zero_le _
theorem RR.wsz (h : RR s q w ts nest sgv sg) : (Lx.refW (Lx.hd ts)).size ≤ 2000 := Nat.le_trans (Lx.refW_size _) h.hsz
theorem RR.cnt (h : RR s q w ts nest sgv sg) : sg.length + ts.length ≤ 2001 := by
  have := congrArg List.length h.hist
  simp only [List.length_append, List.length_map] at this
  have h2 := Lx.lexAt_len s (Lx.gapEnd s 0 false)
  have h3 := h.ss
  unfold Lx.lex at this
  omega
theorem RR.move (h : RR s q w ts nest sgv sg) (hq : w'.heap[q]? = w.heap[q]?) (hs : ∀ g, sgv.ownBlock = some g → w'.heap[g]? = w.heap[g]?) : RR s q w' ts nest sgv sg :=
  ⟨hq.trans h.blk, own_move h.own hs, h.ne, h.lex, h.ple, h.ss, h.hist, h.fst⟩
theorem RX.move {n a : Nat} (h : RX s q w nest n a sgv sg) (hq : w'.heap[q]? = w.heap[q]?) (hs : ∀ g, sgv.ownBlock = some g → w'.heap[g]? = w.heap[g]?) : RX s q w' nest n a sgv sg := by
  obtain ⟨i, W, hb⟩ := h.blk
  exact ⟨⟨i, W, hq.trans hb⟩, own_move h.own hs, h.ne, h.pos, h.inf⟩
end
set_option maxHeartbeats 400000 in
theorem next_rr {s : ByteArray} {q : Nat} {w : World} {ts : List Tk} {nest : Int} {sgv : Value} {sg : List ByteArray} (h : RR s q w ts nest sgv sg) (hk : Lx.known (Lx.hd ts) = true) (hn : Lx.hd ts ≠ Lx.noText) :
    Calls Try.prog 30 #[.pointer (some ⟨q, 0, none⟩)] w fun e w' => e = .returned (.tuple #[]) ∧ ∃ sgx, Mv q sgv w w' ∧ Nx sgv w sgx ∧ RR s q w' ts.tail nest sgx (sg ++ [Lx.hd ts]) := by
  have hp : Lx.pl ts < s.size := by
    rcases Nat.lt_or_ge (Lx.pl ts) s.size with h1 | h1
    · exact h1
    · have := h.lex; rw [Lx.lexAt_done h1] at this; exact absurd (by rw [this]; rfl) hn
  have hse := Lx.signEnd_bd hp
  have hhd : Lx.hd ts = s.extract (Lx.pl ts) (Lx.signEnd s (Lx.pl ts)) := by rw [h.lex]; rw [Lx.pl_lexAt h.ple, Lx.hd_lexAt hp]
  have hws : Lx.pl ts + (Lx.hd ts).size = Lx.signEnd s (Lx.pl ts) := by rw [hhd, ByteArray.size_extract]; omega
  have kq := h.blk
  rw [Lx.refW_known hk] at kq
  have hcnt := h.cnt
  refine (nextw_all s q (Lx.pl ts) (Lx.nextAt s (Lx.pl ts)) (Lx.hd ts) (text_no (l := []) hn) nest 0 0 sgv sg.length _ w h.ss (by omega) kq h.own h.ne (by omega) (by rw [hws]; rfl)).mono ?_
  rintro e w' ⟨rfl, sgx, st, kq'⟩
  have hnb := Lx.nextAt_bd hp
  have htl : ts.tail = Lx.lexAt s (Lx.nextAt s (Lx.pl ts)) := by
    have e1 : ts.tail = (Lx.lexAt s (Lx.pl ts)).tail := by rw [← h.lex]
    rw [e1, Lx.tail_lexAt hp]
  have hpt : Lx.pl ts.tail = Lx.nextAt s (Lx.pl ts) := by rw [htl, Lx.pl_lexAt hnb.2]
  refine ⟨rfl, sgx, st.mv, st.nx, ⟨?_, ?_, st.ne, ?_, by rw [hpt]; exact hnb.2, h.ss, ?_, fun e => by simp at e⟩⟩
  · rw [hpt, htl, ← Lx.refSign_eq hnb.2]; exact kq'
  · have := st.own; simpa using this
  · rw [hpt]; exact htl
  · have := h.hist
    cases ts with
    | nil => exact absurd (h.wf) (by simp [Lx.WF])
    | cons t r => simpa [Lx.hd] using this
end Go.Proofs.Ytonkcljapkeidaa

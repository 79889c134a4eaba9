import Derived.Test.YtonkcljapkeidaaP2
import Derived.Test.YtonkcljapkeidaaH1
namespace Go.Proofs.Ytonkcljapkeidaa
open Go.RowKit
open Lx (Tk)
open Tr
namespace Lx
/-- the plain form of signs, behind a sign -/
def formL : ByteArray → List Tk → List UInt8
  | _, [] => []
  | b, t :: ts => (gapOf b t.1).data.toList ++ (t.1.data.toList ++ formL t.1 ts)
end Lx
theorem str_cells (a : List UInt8) (s : ByteArray) : Lib.byteCells a ++ Lib.strCells s = Lib.byteCells (a ++ s.data.toList) := by
  rw [Lib.strCells_eq, ← Lib.byteCells_append]
theorem data_len (s : ByteArray) : s.data.toList.length = s.size := by rw [Array.length_toList]; rfl
theorem BAt.alloc {B b : Nat} {p : Value} {bs : List Value} {w : World} (h : BAt B b p bs w) (o : Obj) : BAt B b p bs (w.alloc o) := by
  have hlt := h.lt
  obtain ⟨h1, v, h2, h3, h4⟩ := h
  exact ⟨h1, v, (Below.heap_alloc _ _ _ hlt).trans h2, h3.alloc o, h4⟩
theorem BIs.alloc {B b : Nat} {bs : List Value} {w : World} (h : BIs B b bs w) (o : Obj) : BIs B b bs (w.alloc o) := by
  rcases h with h | h
  · exact .inl (BAt.alloc h o)
  · exact .inr (BAt.alloc h o)
set_option maxHeartbeats 2000000 in
set_option maxRecDepth 100000 in
theorem form_any (ts : List Tk) (v : Value) (w : World) (h : w.ownsRow 0 90 2 v ts.length (Lx.tkCells ts)) (hl : ts.length ≤ 2001) (hs : ∀ t ∈ ts, t.1.size ≤ 2000) (h0 : Lx.formL Lx.noText ts ≠ []) :
    Calls Try.prog 27 #[v] w fun e w' => e = .returned (.string ⟨(Lx.formL Lx.noText ts).toArray⟩) ∧ Below w.heap.size w w' := by
  obtain ⟨va, vc, rfl, -⟩ := own_len h
  have hB := Lib.fresh_isBuilder 104 5 w
  have H0 : Hid (Lx.formL Lx.noText ts ≠ []) := h0
  have b0 : Below w.heap.size w (w.alloc (.cells #[.pointer none, .slice none 0 0] 104)) := (Below.refl _ _).alloc (Nat.le_refl _) _
  clear h0
  go_enter Try.func27, Try.ntmps27
  go_wp2_with fail
  go_loopg [4, 9] ts.length (fun k beh i wr => ∃ (j : Nat) (b : ByteArray) (acc : List UInt8), j + k = ts.length ∧ beh = .string b ∧ i = .int .i64 j ∧ BIs w.heap.size w.heap.size (Lib.byteCells acc) wr ∧ Below w.heap.size w wr ∧ w.heap.size < wr.heap.size ∧ acc.length ≤ j * 2001 ∧ Hid (acc ++ Lx.formL b (ts.drop j) = Lx.formL Lx.noText ts))
  case atStart => exact ⟨0, Lx.noText, [], by omega, rfl, rfl, hB, b0, by simp, by simp, by show _ = _; simp⟩
  case round =>
    clear hB b0
    obtain ⟨j, b, acc, hk, rfl, rfl, hB, hb, hw, hac, hE⟩ := hrel
    by_cases hlt : j < ts.length
    · have h1 := own_below h hb
      obtain ⟨g, cap, hv, -, hg⟩ := h1.form (by omega)
      cases hv
      have hg0 : g < w.heap.size := (h.lt g rfl).2
      have ht : ts[j]? = some ts[j] := List.getElem?_eq_getElem hlt
      obtain ⟨e1, e2⟩ := Lx.tkCells_get ts j _ ht
      have c1 : wr.cell? ⟨g, j * 2, none⟩ = some (.string ts[j].1) := (h1.cellAt (j * 2) (by omega)).trans e1
      have c2 : wr.cell? ⟨g, j * 2 + 1, none⟩ = some (.int .i64 (ts[j].2 : Int)) := (h1.cellAt (j * 2 + 1) (by omega)).trans e2
      have hts := hs ts[j] (List.getElem_mem hlt)
      have hdr : ts.drop j = ts[j] :: ts.drop (j + 1) := List.drop_eq_getElem_cons hlt
      have HE : Hid ((acc ++ (Lx.gapOf b ts[j].1).data.toList ++ ts[j].1.data.toList) ++ Lx.formL ts[j].1 (ts.drop (j + 1)) = Lx.formL Lx.noText ts) := by
        show _ = _
        rw [← hE.out, hdr]; simp [Lx.formL]
      generalize ts[j] = t at c1 c2 hts HE
      clear e1 e2 ht hdr hE
      obtain ⟨tt, tp⟩ := t
      simp only at c1 c2 hts HE
      have hgs := Lx.gapOf_size b tt
      have kS := Blk.new wr #[.string tt, .int .i64 (tp : Int)] 90
      have hBA : BIs w.heap.size w.heap.size (Lib.byteCells acc) (wr.alloc (.cells #[.string tt, .int .i64 (tp : Int)] 90)) := BIs.alloc hB _
      have hbA : Below w.heap.size w (wr.alloc (.cells #[.string tt, .int .i64 (tp : Int)] 90)) := hb.alloc hb.size _
      have s0 : (wr.alloc (.cells #[.string tt, .int .i64 (tp : Int)] 90)).cell? ⟨wr.heap.size, 0, none⟩ = some (.string tt) := kS.cell 0
      go_wp2_with (go_at_call 41; refine (gap_any _ _ _).mono ?_; rintro e w' ⟨rfl, hw'⟩; obtain rfl := hw'.symm)
      refine (write_any w.heap.size w.heap.size _ _ _ hBA (by rw [Lib.byteCells_length]; omega) hbA.size).mono ?_
      rintro e w1 ⟨rfl, hB1, hb1, hk1⟩
      have kS1 := hk1 _ _ kS
      have s1 : w1.cell? ⟨wr.heap.size, 0, none⟩ = some (.string tt) := kS1.cell 0
      rw [str_cells] at hB1
      have hb2 : Below w.heap.size w w1 := hbA.trans hb1
      clear hBA hbA hb1 hk1 kS s0 c1 c2 hB
      go_wp2_with fail
      refine (write_any w.heap.size w.heap.size _ _ _ (.inr hB1) (by rw [Lib.byteCells_length, List.length_append, data_len]; omega) hb2.size).mono ?_
      rintro e w2 ⟨rfl, hB2, hb3, hk2⟩
      have kS2 := hk2 _ _ kS1
      have s2 : w2.cell? ⟨wr.heap.size, 0, none⟩ = some (.string tt) := kS2.cell 0
      rw [str_cells] at hB2
      have hlt2 := hB2.lt
      have hb4 : Below w.heap.size w w2 := hb2.trans hb3
      clear hb2 hb3 hk2 kS1 s1 hB1
      go_wp2_with fail
      go_roundg (ts.length - (j + 1))
      case measure => omega
      case rel => exact ⟨j + 1, tt, _, by omega, rfl, by go_num, .inr hB2, hb4, hlt2, by rw [List.length_append, List.length_append, data_len, data_len]; omega, HE⟩
    · have HE : Hid (acc = Lx.formL Lx.noText ts) := by
        show _ = _
        have := hE.out
        rwa [List.drop_eq_nil_of_le (by omega), show Lx.formL b [] = [] from rfl, List.append_nil] at this
      go_wp2_with fail
      refine (string_any w.heap.size w.heap.size acc _ hB (by rw [HE.out]; exact H0.out)).mono ?_
      rintro e w1 ⟨rfl, hb1⟩
      go_wp2_with fail
      go_ret
      exact ⟨ret_str (by rw [HE.out]), hb.trans hb1⟩
end Go.Proofs.Ytonkcljapkeidaa

import Derived.Test.YtonkcljapkeidaaM2
import Derived.Test.YtonkcljapkeidaaM1
import Derived.Deep.QuietTactic
import Derived.BigQuiet
namespace Go.Proofs.Ytonkcljapkeidaa
open Go.RowKit
open Lx (Tk)
open Tr
theorem append_list (a b : ByteArray) : (a ++ b).data.toList = a.data.toList ++ b.data.toList := by
  rw [ByteArray.data_append, Array.toList_append]
theorem append_sz (a b : ByteArray) : (a ++ b).size = a.size + b.size := ByteArray.size_append
/-- one sign more -/
theorem ref_step {i : Nat} {l x acc : ByteArray} {ws : List ByteArray} {tot : List UInt8} {bl ln : List UInt8} (h : acc.data.toList ++ Lx.refForm i l (x :: ws) = tot) (hb : Lx.blankL (Lx.blankR i l x) = bl) (hn : Lx.lineL (x.toList == [59]) = ln) {acc' : ByteArray} (ha : acc'.data.toList = acc.data.toList ++ bl ++ x.data.toList ++ ln) :
    acc'.data.toList ++ Lx.refForm (i + 1) x ws = tot := by
  rw [← h, ha, Lx.refForm, hb, hn]
  simp only [List.append_assoc]
set_option maxHeartbeats 4000000 in
set_option maxRecDepth 100000 in
theorem rprint_any (s : ByteArray) (w : World) : Calls Try.prog 15 #[.string s] w (PrintEnds w s) := by
  have R := rread_any s w
  go_enter Try.func15, Try.ntmps15
  go_wp2_with fail
  refine R.mono ?_
  intro e w1 he
  rcases rread_parse s with ⟨g, ts', hp, hr⟩ | ⟨n, a, hp, hr⟩
  · obtain ⟨v1, sg1, sl1, rfl, m1, x1, hr1, vL, vR, rfl, hg⟩ := he.ok hr
    have HP : Hid (Lx.parse s = .ok g) := hp
    obtain ⟨hs, ts2, hpg⟩ := Lx.parse_ok hp
    have hpg' : Lx.pGrammar (Lx.lex s) = .ok (g, ts') := by
      unfold rread at hr
      rwa [if_neg (by omega)] at hr
    have HF : Hid (Lx.refForm 0 Lx.noText sl1 = Lx.formL Lx.noText (Lx.lex s)) := Lx.refForm_lex hr1.hist hr1.wf (Lx.pGrammar_end hpg')
    have hsl : sl1.length ≤ 2001 := by
      have h1 := congrArg List.length hr1.hist
      simp only [List.length_append, List.length_map] at h1
      have := Lx.lex_len s
      omega
    have hss : ∀ x ∈ sl1, x.size ≤ 2000 := fun x hx => by
      have : x ∈ (Lx.lex s).map Prod.fst := by rw [← hr1.hist]; exact List.mem_append_left _ hx
      obtain ⟨t, ht, rfl⟩ := List.mem_map.1 this
      exact Nat.le_trans (Lx.lex_sz s t ht) hs
    obtain ⟨la, lk, lc, rfl⟩ := Seq.form hg.1
    obtain ⟨ra, rk, rc, rfl⟩ := Seq.form hg.2
    have hown := hr1.own
    obtain ⟨sa, sc, rfl, -⟩ := own_len hown
    have hb1 := m1.below (by omega)
    have hbA := hb1.alloc hb1.size (.cells #[.slice la lk lc, .slice ra rk rc] 32)
    have c4 : w1.cell? ⟨w.heap.size + 1, 4, none⟩ = some (.int .i64 0) := hr1.blk.cell 4
    have c6 : w1.cell? ⟨w.heap.size + 1, 6, none⟩ = some (.slice sa sl1.length sc) := hr1.blk.cell 6
    have lq := hr1.lt
    clear hp hpg hpg' hr he R hg hr1 m1 x1
    go_wp2_with fail
    go_loopg [7, 8, 9] sl1.length (fun k sv lv i wr => ∃ (j : Nat) (acc l : ByteArray), j + k = sl1.length ∧ sv = .string acc ∧ lv = .string l ∧ i = .int .i64 j ∧ wr = w1.alloc (.cells #[.slice la lk lc, .slice ra rk rc] 32) ∧ acc.size ≤ j * 2002 ∧ Hid (acc.data.toList ++ Lx.refForm j l (sl1.drop j) = Lx.refForm 0 Lx.noText sl1))
    case atStart => exact ⟨0, Lx.noText, Lx.noText, by omega, rfl, rfl, rfl, rfl, Nat.le_refl _, rfl⟩
    case round =>
      obtain ⟨j, acc, l, hk, rfl, rfl, rfl, rfl, hac, hE⟩ := hrel
      by_cases hlt : j < sl1.length
      · obtain ⟨gg, cap, hv, -, hgg⟩ := hown.form (by omega)
        cases hv
        have e1 : w1.cell? ⟨gg, j, none⟩ = some (.string sl1[j]) := by
          rw [hown.cellAt j (by omega), List.getElem?_map, List.getElem?_eq_getElem hlt]; rfl
        have hxs := hss sl1[j] (List.getElem_mem hlt)
        have HE : Hid (acc.data.toList ++ Lx.refForm j l (sl1[j] :: sl1.drop (j + 1)) = Lx.refForm 0 Lx.noText sl1) := by
          show _ = _
          rw [← List.drop_eq_getElem_cons hlt]; exact hE.out
        generalize sl1[j] = x at e1 hxs HE
        clear hE
        by_cases hi : 0 < j
        · cases h1 : (l.toList == [59])
          · cases h2 : (l.toList == [40])
            · cases h3 : (x.toList == [59])
              · cases h4 : (x.toList == [41])
                · cases h5 : (x.toList == [42])
                  · cases h6 : (x.toList == [43])
                    · cases h7 : (x.toList == [63])
                      · have HB : Hid (Lx.blankL (Lx.blankR j l x) = [32]) := by show _ = _; unfold Lx.blankR; rw [decide_eq_true hi, h1, h2, h3, h4, h5, h6, h7]; rfl
                        have HN : Hid (Lx.lineL (x.toList == [59]) = []) := by show _ = _; rw [h3]; rfl
                        have HA : Hid (((acc ++ ⟨#[32]⟩) ++ x : ByteArray).data.toList = acc.data.toList ++ [32] ++ x.data.toList ++ []) := by show _ = _; simp only [append_list, List.append_nil]
                        have HZ : Hid (((acc ++ ⟨#[32]⟩) ++ x : ByteArray).size ≤ (j + 1) * 2002) := by
                          show _ ≤ _
                          simp only [append_sz]
                          have e32 : ByteArray.size ⟨#[32]⟩ = 1 := rfl
                          have e10 : ByteArray.size ⟨#[10]⟩ = 1 := rfl
                          omega
                        go_wp2_with fail
                        go_roundg (sl1.length - (j + 1))
                        case measure => omega
                        case rel => exact ⟨j + 1, _, x, by omega, rfl, rfl, by go_num, rfl, HZ.out, ref_step HE.out HB.out HN.out HA.out⟩
                      · have HB : Hid (Lx.blankL (Lx.blankR j l x) = []) := by show _ = _; unfold Lx.blankR; rw [decide_eq_true hi, h1, h2, h3, h4, h5, h6, h7]; rfl
                        have HN : Hid (Lx.lineL (x.toList == [59]) = []) := by show _ = _; rw [h3]; rfl
                        have HA : Hid ((acc ++ x : ByteArray).data.toList = acc.data.toList ++ [] ++ x.data.toList ++ []) := by show _ = _; simp only [append_list, List.append_nil]
                        have HZ : Hid ((acc ++ x : ByteArray).size ≤ (j + 1) * 2002) := by
                          show _ ≤ _
                          simp only [append_sz]
                          have e32 : ByteArray.size ⟨#[32]⟩ = 1 := rfl
                          have e10 : ByteArray.size ⟨#[10]⟩ = 1 := rfl
                          omega
                        go_wp2_with fail
                        go_roundg (sl1.length - (j + 1))
                        case measure => omega
                        case rel => exact ⟨j + 1, _, x, by omega, rfl, rfl, by go_num, rfl, HZ.out, ref_step HE.out HB.out HN.out HA.out⟩
                    · have HB : Hid (Lx.blankL (Lx.blankR j l x) = []) := by show _ = _; unfold Lx.blankR; rw [decide_eq_true hi, h1, h2, h3, h4, h5, h6]; rfl
                      have HN : Hid (Lx.lineL (x.toList == [59]) = []) := by show _ = _; rw [h3]; rfl
                      have HA : Hid ((acc ++ x : ByteArray).data.toList = acc.data.toList ++ [] ++ x.data.toList ++ []) := by show _ = _; simp only [append_list, List.append_nil]
                      have HZ : Hid ((acc ++ x : ByteArray).size ≤ (j + 1) * 2002) := by
                        show _ ≤ _
                        simp only [append_sz]
                        have e32 : ByteArray.size ⟨#[32]⟩ = 1 := rfl
                        have e10 : ByteArray.size ⟨#[10]⟩ = 1 := rfl
                        omega
                      go_wp2_with fail
                      go_roundg (sl1.length - (j + 1))
                      case measure => omega
                      case rel => exact ⟨j + 1, _, x, by omega, rfl, rfl, by go_num, rfl, HZ.out, ref_step HE.out HB.out HN.out HA.out⟩
                  · have HB : Hid (Lx.blankL (Lx.blankR j l x) = []) := by show _ = _; unfold Lx.blankR; rw [decide_eq_true hi, h1, h2, h3, h4, h5]; rfl
                    have HN : Hid (Lx.lineL (x.toList == [59]) = []) := by show _ = _; rw [h3]; rfl
                    have HA : Hid ((acc ++ x : ByteArray).data.toList = acc.data.toList ++ [] ++ x.data.toList ++ []) := by show _ = _; simp only [append_list, List.append_nil]
                    have HZ : Hid ((acc ++ x : ByteArray).size ≤ (j + 1) * 2002) := by
                      show _ ≤ _
                      simp only [append_sz]
                      have e32 : ByteArray.size ⟨#[32]⟩ = 1 := rfl
                      have e10 : ByteArray.size ⟨#[10]⟩ = 1 := rfl
                      omega
                    go_wp2_with fail
                    go_roundg (sl1.length - (j + 1))
                    case measure => omega
                    case rel => exact ⟨j + 1, _, x, by omega, rfl, rfl, by go_num, rfl, HZ.out, ref_step HE.out HB.out HN.out HA.out⟩
                · have HB : Hid (Lx.blankL (Lx.blankR j l x) = []) := by show _ = _; unfold Lx.blankR; rw [decide_eq_true hi, h1, h2, h3, h4]; rfl
                  have HN : Hid (Lx.lineL (x.toList == [59]) = []) := by show _ = _; rw [h3]; rfl
                  have HA : Hid ((acc ++ x : ByteArray).data.toList = acc.data.toList ++ [] ++ x.data.toList ++ []) := by show _ = _; simp only [append_list, List.append_nil]
                  have HZ : Hid ((acc ++ x : ByteArray).size ≤ (j + 1) * 2002) := by
                    show _ ≤ _
                    simp only [append_sz]
                    have e32 : ByteArray.size ⟨#[32]⟩ = 1 := rfl
                    have e10 : ByteArray.size ⟨#[10]⟩ = 1 := rfl
                    omega
                  go_wp2_with fail
                  go_roundg (sl1.length - (j + 1))
                  case measure => omega
                  case rel => exact ⟨j + 1, _, x, by omega, rfl, rfl, by go_num, rfl, HZ.out, ref_step HE.out HB.out HN.out HA.out⟩
              · have HB : Hid (Lx.blankL (Lx.blankR j l x) = []) := by show _ = _; unfold Lx.blankR; rw [decide_eq_true hi, h1, h2, h3]; rfl
                have HN : Hid (Lx.lineL (x.toList == [59]) = [10]) := by show _ = _; rw [h3]; rfl
                have HA : Hid (((acc ++ x) ++ ⟨#[10]⟩ : ByteArray).data.toList = acc.data.toList ++ [] ++ x.data.toList ++ [10]) := by show _ = _; simp only [append_list, List.append_nil]
                have HZ : Hid (((acc ++ x) ++ ⟨#[10]⟩ : ByteArray).size ≤ (j + 1) * 2002) := by
                  show _ ≤ _
                  simp only [append_sz]
                  have e32 : ByteArray.size ⟨#[32]⟩ = 1 := rfl
                  have e10 : ByteArray.size ⟨#[10]⟩ = 1 := rfl
                  omega
                go_wp2_with fail
                go_roundg (sl1.length - (j + 1))
                case measure => omega
                case rel => exact ⟨j + 1, _, x, by omega, rfl, rfl, by go_num, rfl, HZ.out, ref_step HE.out HB.out HN.out HA.out⟩
            · cases h3 : (x.toList == [59])
              · have HB : Hid (Lx.blankL (Lx.blankR j l x) = []) := by show _ = _; unfold Lx.blankR; rw [decide_eq_true hi, h1, h2]; rfl
                have HN : Hid (Lx.lineL (x.toList == [59]) = []) := by show _ = _; rw [h3]; rfl
                have HA : Hid ((acc ++ x : ByteArray).data.toList = acc.data.toList ++ [] ++ x.data.toList ++ []) := by show _ = _; simp only [append_list, List.append_nil]
                have HZ : Hid ((acc ++ x : ByteArray).size ≤ (j + 1) * 2002) := by
                  show _ ≤ _
                  simp only [append_sz]
                  have e32 : ByteArray.size ⟨#[32]⟩ = 1 := rfl
                  have e10 : ByteArray.size ⟨#[10]⟩ = 1 := rfl
                  omega
                go_wp2_with fail
                go_roundg (sl1.length - (j + 1))
                case measure => omega
                case rel => exact ⟨j + 1, _, x, by omega, rfl, rfl, by go_num, rfl, HZ.out, ref_step HE.out HB.out HN.out HA.out⟩
              · have HB : Hid (Lx.blankL (Lx.blankR j l x) = []) := by show _ = _; unfold Lx.blankR; rw [decide_eq_true hi, h1, h2]; rfl
                have HN : Hid (Lx.lineL (x.toList == [59]) = [10]) := by show _ = _; rw [h3]; rfl
                have HA : Hid (((acc ++ x) ++ ⟨#[10]⟩ : ByteArray).data.toList = acc.data.toList ++ [] ++ x.data.toList ++ [10]) := by show _ = _; simp only [append_list, List.append_nil]
                have HZ : Hid (((acc ++ x) ++ ⟨#[10]⟩ : ByteArray).size ≤ (j + 1) * 2002) := by
                  show _ ≤ _
                  simp only [append_sz]
                  have e32 : ByteArray.size ⟨#[32]⟩ = 1 := rfl
                  have e10 : ByteArray.size ⟨#[10]⟩ = 1 := rfl
                  omega
                go_wp2_with fail
                go_roundg (sl1.length - (j + 1))
                case measure => omega
                case rel => exact ⟨j + 1, _, x, by omega, rfl, rfl, by go_num, rfl, HZ.out, ref_step HE.out HB.out HN.out HA.out⟩
          · cases h3 : (x.toList == [59])
            · have HB : Hid (Lx.blankL (Lx.blankR j l x) = []) := by show _ = _; unfold Lx.blankR; rw [decide_eq_true hi, h1]; rfl
              have HN : Hid (Lx.lineL (x.toList == [59]) = []) := by show _ = _; rw [h3]; rfl
              have HA : Hid ((acc ++ x : ByteArray).data.toList = acc.data.toList ++ [] ++ x.data.toList ++ []) := by show _ = _; simp only [append_list, List.append_nil]
              have HZ : Hid ((acc ++ x : ByteArray).size ≤ (j + 1) * 2002) := by
                show _ ≤ _
                simp only [append_sz]
                have e32 : ByteArray.size ⟨#[32]⟩ = 1 := rfl
                have e10 : ByteArray.size ⟨#[10]⟩ = 1 := rfl
                omega
              go_wp2_with fail
              go_roundg (sl1.length - (j + 1))
              case measure => omega
              case rel => exact ⟨j + 1, _, x, by omega, rfl, rfl, by go_num, rfl, HZ.out, ref_step HE.out HB.out HN.out HA.out⟩
            · have HB : Hid (Lx.blankL (Lx.blankR j l x) = []) := by show _ = _; unfold Lx.blankR; rw [decide_eq_true hi, h1]; rfl
              have HN : Hid (Lx.lineL (x.toList == [59]) = [10]) := by show _ = _; rw [h3]; rfl
              have HA : Hid (((acc ++ x) ++ ⟨#[10]⟩ : ByteArray).data.toList = acc.data.toList ++ [] ++ x.data.toList ++ [10]) := by show _ = _; simp only [append_list, List.append_nil]
              have HZ : Hid (((acc ++ x) ++ ⟨#[10]⟩ : ByteArray).size ≤ (j + 1) * 2002) := by
                show _ ≤ _
                simp only [append_sz]
                have e32 : ByteArray.size ⟨#[32]⟩ = 1 := rfl
                have e10 : ByteArray.size ⟨#[10]⟩ = 1 := rfl
                omega
              go_wp2_with fail
              go_roundg (sl1.length - (j + 1))
              case measure => omega
              case rel => exact ⟨j + 1, _, x, by omega, rfl, rfl, by go_num, rfl, HZ.out, ref_step HE.out HB.out HN.out HA.out⟩
        · cases h3 : (x.toList == [59])
          · have HB : Hid (Lx.blankL (Lx.blankR j l x) = []) := by show _ = _; unfold Lx.blankR; rw [decide_eq_false hi]; rfl
            have HN : Hid (Lx.lineL (x.toList == [59]) = []) := by show _ = _; rw [h3]; rfl
            have HA : Hid ((acc ++ x : ByteArray).data.toList = acc.data.toList ++ [] ++ x.data.toList ++ []) := by show _ = _; simp only [append_list, List.append_nil]
            have HZ : Hid ((acc ++ x : ByteArray).size ≤ (j + 1) * 2002) := by
              show _ ≤ _
              simp only [append_sz]
              have e32 : ByteArray.size ⟨#[32]⟩ = 1 := rfl
              have e10 : ByteArray.size ⟨#[10]⟩ = 1 := rfl
              omega
            go_wp2_with fail
            go_roundg (sl1.length - (j + 1))
            case measure => omega
            case rel => exact ⟨j + 1, _, x, by omega, rfl, rfl, by go_num, rfl, HZ.out, ref_step HE.out HB.out HN.out HA.out⟩
          · have HB : Hid (Lx.blankL (Lx.blankR j l x) = []) := by show _ = _; unfold Lx.blankR; rw [decide_eq_false hi]; rfl
            have HN : Hid (Lx.lineL (x.toList == [59]) = [10]) := by show _ = _; rw [h3]; rfl
            have HA : Hid (((acc ++ x) ++ ⟨#[10]⟩ : ByteArray).data.toList = acc.data.toList ++ [] ++ x.data.toList ++ [10]) := by show _ = _; simp only [append_list, List.append_nil]
            have HZ : Hid (((acc ++ x) ++ ⟨#[10]⟩ : ByteArray).size ≤ (j + 1) * 2002) := by
              show _ ≤ _
              simp only [append_sz]
              have e32 : ByteArray.size ⟨#[32]⟩ = 1 := rfl
              have e10 : ByteArray.size ⟨#[10]⟩ = 1 := rfl
              omega
            go_wp2_with fail
            go_roundg (sl1.length - (j + 1))
            case measure => omega
            case rel => exact ⟨j + 1, _, x, by omega, rfl, rfl, by go_num, rfl, HZ.out, ref_step HE.out HB.out HN.out HA.out⟩
      · have HE : Hid (acc = ⟨(Lx.formL Lx.noText (Lx.lex s)).toArray⟩) := by
          show _ = _
          have := hE.out
          rw [List.drop_eq_nil_of_le (by omega), show Lx.refForm j l [] = [] from rfl, List.append_nil, HF.out] at this
          exact ByteArray.ext (Array.ext' (by simpa using this))
        go_wp2_with fail
        refine bodyPost_ret (v := .tuple #[.string acc, .int .i64 0, .int .i64 0]) (by simp [results, Try.results15, go_sem]) rfl ?_
        rw [HE.out]
        exact PrintEnds.yes HP.out hbA
  · obtain ⟨v1, sg1, sl1, rfl, m1, x1, hx1, xa, xk, xc, xa', xk', xc', rfl⟩ := he.err hr
    have HP : Hid (Lx.parse s = .error (n, a)) := hp
    obtain ⟨ii, WW, kqx⟩ := hx1.blk
    have lq := kqx.lt
    have hb1 := m1.below (by omega)
    have hbA := hb1.alloc hb1.size (.cells #[.slice xa xk xc, .slice xa' xk' xc'] 32)
    have c4 : w1.cell? ⟨w.heap.size + 1, 4, none⟩ = some (.int .i64 (n : Int)) := kqx.cell 4
    have c5 : w1.cell? ⟨w.heap.size + 1, 5, none⟩ = some (.int .i64 (a : Int)) := kqx.cell 5
    have h0 : ((n : Int) == 0) = false := beq_eq_false_iff_ne.2 (by have := hx1.pos; omega)
    clear hp hr he R
    go_wp2_with fail
    go_quiet (fail)
    go_wp2_with fail
    refine bodyPost_ret (v := .tuple #[.string ⟨#[]⟩, .int .i64 (n : Int), .int .i64 (a : Int)]) (by simp [results, Try.results15, go_sem]) rfl ?_
    exact PrintEnds.no HP.out ⟨hbA.os, hbA.tape, hbA.output, hbA.size, hbA.block⟩
end Go.Proofs.Ytonkcljapkeidaa
namespace Go.Proofs.Ytonkcljapkeidaa
open Go.RowKit
open Lx (Tk)
open Tr
/-- What Print answers, of the program's and of the document's. -/
theorem PrintEnds.out {s : ByteArray} {w w' : World} {e : Ending} (h : PrintEnds w s e w') : ∃ (t : ByteArray) (n a : Nat), e = .returned (.tuple #[.string t, .int .i64 (n : Int), .int .i64 (a : Int)]) ∧ Below w.heap.size w w' ∧
    ∀ (w2 w3 : World) (e' : Ending), PrintEnds w2 s e' w3 → e' = .returned (.tuple #[.string t, .int .i64 (n : Int), .int .i64 (a : Int)]) ∧ Below w2.heap.size w2 w3 := by
  unfold PrintEnds at h ⊢
  obtain ⟨hb, h⟩ := h
  cases hr : Lx.parse s with
  | ok g =>
    rw [hr] at h
    exact ⟨_, 0, 0, h, hb, fun _ _ _ h' => ⟨h'.2, h'.1⟩⟩
  | error x =>
    obtain ⟨n, a⟩ := x
    rw [hr] at h
    exact ⟨_, n, a, h, hb, fun _ _ _ h' => ⟨h'.2, h'.1⟩⟩
set_option maxHeartbeats 2000000 in
set_option maxRecDepth 100000 in
theorem GramPrints_any (s : ByteArray) (w : World) (hmax : s.size ≤ maxLen) : Calls Try.prog 4 #[.string s] w fun e w' => e = .returned (.bool true) ∧ Below w.heap.size w w' := by
  have P := Print_any s w hmax
  clear hmax
  go_enter Try.func4, Try.ntmps4
  go_wp2_with fail
  refine P.mono ?_
  intro e w1 he
  obtain ⟨t, n, a, rfl, hb1, hR⟩ := he.out
  clear he P
  have P := rprint_any s w1
  go_wp2_with fail
  refine P.mono ?_
  intro e w2 he
  obtain ⟨rfl, hb2⟩ := hR _ _ _ he
  clear he P hR
  have hbD : Below w.heap.size w w2 := hb1.trans (hb2.mono hb1.size)
  go_wp2_with (first
    | (go_at_call 12; refine (num_any _ _).mono ?_; rintro e w' ⟨rfl, hw'⟩; obtain rfl := hw'.symm)
    | (go_at_call 13; refine (alive_any _).mono ?_; rintro e w4 ⟨rfl, hb4⟩))
  go_ret
  exact ⟨rfl, hbD.trans (hb4.mono hbD.size)⟩
end Go.Proofs.Ytonkcljapkeidaa

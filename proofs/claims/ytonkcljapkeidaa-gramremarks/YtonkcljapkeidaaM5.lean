import Derived.Test.YtonkcljapkeidaaM3
import Derived.Test.YtonkcljapkeidaaM6
namespace Go.Proofs.Ytonkcljapkeidaa
open Go.RowKit
namespace Lx
/-- what stands for a byte of the plain form, where remarks stand for gaps -/
def subL (R : List UInt8) (c : UInt8) : List UInt8 := if bt c = 32 ∨ bt c = 10 then 35 :: (R ++ [10, 9, 32]) else [c]
theorem gap_rem_all {R : List UInt8} (hR : ∀ x ∈ R, bt x ≠ 10) (r : List UInt8) : gapL (R ++ r) true = gapL r true := by
  induction R with
  | nil => rfl
  | cons c R ih =>
    rw [List.cons_append, gapL, if_neg (hR c (by simp))]
    have := ih (fun x hx => hR x (by simp [hx]))
    split
    · exact this
    · rw [if_neg (by simp)]; exact this
theorem gap_hash_all {R : List UInt8} (hR : ∀ x ∈ R, bt x ≠ 10) (r : List UInt8) : gapL (35 :: (R ++ r)) false = gapL r true := by
  rw [gapL, if_neg (by decide), if_pos (by decide), gap_rem_all hR]
theorem rem_fill {R : List UInt8} (hR : ∀ x ∈ R, bt x ≠ 10) : Fill (35 :: (R ++ [10, 9, 32])) (35 :: (R ++ [10, 9, 32])) (35 :: R) := by
  have h1 : ∀ r, gapL ((35 :: (R ++ [10, 9, 32])) ++ r) false = gapL r false := fun r => by
    rw [List.cons_append, List.append_assoc, gap_hash_all hR]
    show gapL (10 :: 9 :: 32 :: r) true = _
    rw [gapL, if_pos (by decide), gapL, if_neg (by decide), if_neg (by decide), if_neg (fun h => h.2.2 (by decide)), gap_blk]
  refine ⟨h1, h1, ?_, ⟨35, _, rfl, by decide⟩, ⟨35, _, rfl, by decide⟩, .inr ⟨35, _, rfl, by decide⟩⟩
  have := gap_hash_all hR []
  rw [List.append_nil] at this
  rw [this]; rfl
theorem wc_ngap {c : UInt8} (h : wcB c = true) : bt c ≠ 32 ∧ bt c ≠ 10 := by
  constructor
  · intro e; unfold wcB at h; rw [e] at h; exact absurd h (by decide)
  · intro e; unfold wcB at h; rw [e] at h; exact absurd h (by decide)
theorem sub_sig {w : List UInt8} (R : List UInt8) (h : Sig w) : w.flatMap (subL R) = w := by
  have key : ∀ l : List UInt8, (∀ x ∈ l, bt x ≠ 32 ∧ bt x ≠ 10) → l.flatMap (subL R) = l := by
    intro l hl
    induction l with
    | nil => rfl
    | cons c r ih =>
      have h0 := hl c (by simp)
      rw [List.flatMap_cons, ih (fun x hx => hl x (by simp [hx]))]
      unfold subL
      rw [if_neg (fun e => e.elim h0.1 h0.2)]; rfl
  apply key
  cases w with
  | nil => exact h.elim
  | cons c r =>
    obtain ⟨⟨h1, _, h3, _⟩, hr⟩ := h
    intro x hx
    rcases List.mem_cons.1 hx with rfl | hx
    · exact ⟨h3, h1⟩
    · split at hr
      · exact wc_ngap (hr x hx)
      · subst hr; cases hx
theorem sub_gap (R : List UInt8) (b w : ByteArray) : (fillOf [10] [32] (gapOf b w)).flatMap (subL R) = fillOf (35 :: (R ++ [10, 9, 32])) (35 :: (R ++ [10, 9, 32])) (gapOf b w) := by
  rcases gapOf_cases b w with e | e | ⟨e, _⟩ <;> rw [e]
  · rw [fill_nl, fill_nl, List.flatMap_cons, List.flatMap_nil, List.append_nil]; exact if_pos (.inr (by decide))
  · rw [fill_bl, fill_bl, List.flatMap_cons, List.flatMap_nil, List.append_nil]; exact if_pos (.inl (by decide))
  · rw [fill_no, fill_no]; rfl
theorem sub_lay (R : List UInt8) : ∀ (ws : List ByteArray) (b : ByteArray), (∀ x ∈ ws, Sig (bytes x)) →
    (lay (fun b w => fillOf [10] [32] (gapOf b w)) (fun b => fillOf [10] [32] (gapOf b noText) ++ []) b ws).flatMap (subL R) ++ 35 :: R =
    lay (fun b w => fillOf (35 :: (R ++ [10, 9, 32])) (35 :: (R ++ [10, 9, 32])) (gapOf b w)) (fun b => fillOf (35 :: (R ++ [10, 9, 32])) (35 :: (R ++ [10, 9, 32])) (gapOf b noText) ++ 35 :: R) b ws
  | [], b, _ => by
    simp only [lay, List.append_nil]
    rw [sub_gap]
  | w :: ws, b, hs => by
    have ih := sub_lay R ws w (fun x hx => hs x (by simp [hx]))
    simp only [lay]
    rw [List.flatMap_append, List.flatMap_append, sub_gap, sub_sig R (hs w (by simp)), List.append_assoc, List.append_assoc, ih]
/-- The plain form with remarks for its gaps, and one at its end, has the same signs. -/
theorem remark_tx (s : ByteArray) {R : List UInt8} (hR : ∀ x ∈ R, bt x ≠ 10) {t : ByteArray} (ht : bytes t = (bytes (plainOf s)).flatMap (subL R) ++ 35 :: R) : (lex t).map Prod.fst = (lex s).map Prod.fst := by
  obtain ⟨ws, e, hw⟩ := lex_signs s
  rw [e]
  refine lex_laid (rem_fill hR) hw ?_
  rw [ht, ← sub_lay R ws noText hw]
  show (formL noText (lex s)).toArray.toList.flatMap _ ++ _ = _
  rw [formL_B, e, form_lay]
theorem plain_of_tx {s t : ByteArray} (h : (lex t).map Prod.fst = (lex s).map Prod.fst) : plainOf t = plainOf s := by
  have h' : formL noText (lex t) = formL noText (lex s) := by rw [formL_B, formL_B, h]
  exact congrArg (fun l : List UInt8 => (⟨l.toArray⟩ : ByteArray)) h'
/-- The plain form is at most one sign longer for each sign than the text. -/
def signsSize (ts : List Tk) : Nat := (ts.map fun t => t.1.size).sum
theorem lexTo_total (s : ByteArray) : ∀ (f i : Nat), i ≤ s.size → signsSize (lexTo s f i) + i ≤ s.size
  | 0, i, hi => by
    have e0 : ByteArray.size ⟨#[]⟩ = 0 := rfl
    simp [lexTo, signsSize, e0]; exact hi
  | f + 1, i, hi => by
    simp only [lexTo]
    split
    · rename_i h
      have hb := signEnd_bd h
      have hn := nextAt_bd h
      have hg := gapEnd_bd (s := s) (i := signEnd s i) false hb.2
      have ih := lexTo_total s f (nextAt s i) hn.2
      have e3 : gapEnd s (signEnd s i) false = nextAt s i := rfl
      rw [e3] at hg
      simp only [signsSize, List.map_cons, List.sum_cons, ByteArray.size_extract] at ih ⊢
      omega
    · have e0 : ByteArray.size ⟨#[]⟩ = 0 := rfl
      simp [signsSize, e0]; exact hi
theorem formL_size : ∀ (b : ByteArray) (ts : List Tk), (formL b ts).length ≤ signsSize ts + ts.length
  | _, [] => Nat.le_refl _
  | b, t :: ts => by
    have ih := formL_size t.1 ts
    have hg := gapOf_size b t.1
    simp only [formL, List.length_append, signsSize, List.map_cons, List.sum_cons, List.length_cons] at ih ⊢
    rw [data_len, data_len]
    omega
theorem plain_size {s : ByteArray} (h : s.size ≤ 2000) : (plainOf s).size ≤ 4001 := by
  have h1 := formL_size noText (lex s)
  have h2 := lexTo_total s (s.size - gapEnd s 0 false) (gapEnd s 0 false) (gapEnd_bd false (Nat.zero_le _)).2
  have h3 := lex_len s
  have e : lexTo s (s.size - gapEnd s 0 false) (gapEnd s 0 false) = lex s := rfl
  rw [e] at h2
  have e2 : (plainOf s).size = (formL noText (lex s)).length := by rw [← bytes_len]; show (formL noText (lex s)).toArray.toList.length = _; simp
  omega
end Lx
end Go.Proofs.Ytonkcljapkeidaa
namespace Go.Proofs.Ytonkcljapkeidaa
open Go.RowKit
open Lx (Tk)
open Tr
set_option maxHeartbeats 8000000 in
set_option maxRecDepth 100000 in
theorem GramRemarks_any (s R : ByteArray) (w : World) (hmax : s.size ≤ maxLen) (hRs : R.size ≤ 140737488355328) : Calls Try.prog 8 #[.string s, .string R] w fun e w' => e = .returned (.bool true) ∧ Below w.heap.size w w' := by
  have P := Parse_any s w hmax
  have PP := fun w => Print_any s w hmax
  clear hmax
  go_enter Try.func8, Try.ntmps8
  go_wp2_with fail
  refine P.mono ?_
  intro e w1 he
  obtain ⟨hb1, ⟨g, vl, vr, hr, rfl, hg⟩ | ⟨n, a, hn, hr, rfl⟩⟩ := he.out
  · have HR : Hid (Lx.parse s = .ok g) := hr
    obtain ⟨T, hT⟩ : ∃ T, T = Lx.plainOf s := ⟨_, rfl⟩
    have HT : Hid (T = Lx.plainOf s) := hT
    have hTs : T.size ≤ 4001 := by rw [hT]; exact Lx.plain_size (Lx.parse_ok hr).1
    clear he P hr hT
    obtain ⟨la, lc, rfl, -⟩ := Seq.len hg.1
    obtain ⟨ra, rc, rfl, -⟩ := Seq.len hg.2
    have kg := Blk.new w1 #[.slice la g.levels.length lc, .slice ra g.rules.length rc] 25
    have hbA := hb1.alloc hb1.size (.cells #[.slice la g.levels.length lc, .slice ra g.rules.length rc] 25)
    have hlA : (w1.alloc (.cells #[.slice la g.levels.length lc, .slice ra g.rules.length rc] 25)).heap.size = w1.heap.size + 1 := by simp
    have hgA : GramIn (In w.heap.size w1.heap.size) (w1.alloc (.cells #[.slice la g.levels.length lc, .slice ra g.rules.length rc] 25)) (.slice la g.levels.length lc) (.slice ra g.rules.length rc) g := GramIn.move hg (fun b hb => Below.heap_alloc _ _ _ hb.2) (fun _ h => h)
    go_wp2_with fail
    refine (PP _).mono ?_
    intro e w2 he
    obtain ⟨rfl, hb2⟩ := he.okT HR.out HT.out
    rw [hlA] at hb2
    have kg2 : Blk w2 w1.heap.size _ 25 := (hb2.block _ (by omega)).trans kg
    have hg2 := hgA.move (w' := w2) (fun b hb => hb2.block b (by have := hb.2; omega)) (fun _ h => h)
    have hs2 : w1.heap.size + 1 ≤ w2.heap.size := by have := hb2.size; omega
    have hbB : Below w.heap.size w w2 := hbA.trans (hb2.mono (by have := hb1.size; omega))
    have P := rparse_any s w2
    clear he kg hgA hbA hb2 hb1 hg
    go_wp2_with fail
    refine P.mono ?_
    intro e w3 he
    obtain ⟨hb3, ⟨g', vL, vR, sgx, hr', rfl, hg3⟩ | ⟨n, a, hr', rfl⟩⟩ := he.out
    case inr => rw [HR.out] at hr'; cases hr'
    obtain ⟨La, Lc, rfl, -⟩ := Seq.len hg3.1
    obtain ⟨Ra, Rc, rfl, -⟩ := Seq.len hg3.2
    have kg3 : Blk w3 w1.heap.size _ 25 := (hb3.block _ (by omega)).trans kg2
    have hg4 := hg2.move (w' := w3) (fun b hb => hb3.block b (by have := hb.2; omega)) (fun _ h => h)
    have hs3 : w1.heap.size + 1 ≤ w3.heap.size := by have := hb3.size; omega
    have hbC : Below w.heap.size w w3 := hbB.trans (hb3.mono (by have := hbB.size; omega))
    clear he P hr' hg3 kg2 hg2 hb3 hbB hs2
    have hbD := hbC.alloc hbC.size (.cells #[.slice La g'.levels.length Lc, .slice Ra g'.rules.length Rc] 32)
    have hlD : (w3.alloc (.cells #[.slice La g'.levels.length Lc, .slice Ra g'.rules.length Rc] 32)).heap.size = w3.heap.size + 1 := by simp
    have kg5 := kg3.alloc (.cells #[.slice La g'.levels.length Lc, .slice Ra g'.rules.length Rc] 32)
    have hg5 : GramIn (In w.heap.size w1.heap.size) (w3.alloc (.cells #[.slice La g'.levels.length Lc, .slice Ra g'.rules.length Rc] 32)) (.slice la g.levels.length lc) (.slice ra g.rules.length rc) g := GramIn.move hg4 (fun b hb => Below.heap_alloc _ _ _ (by have := hb.2; omega)) (fun _ h => h)
    clear kg3 hg4
    go_wp2_with (first
      | (go_at_call 12; refine (num_any _ _).mono ?_; rintro e w' ⟨rfl, hw'⟩; obtain rfl := hw'.symm))
    go_loopg [14] R.size (fun k i wr => ∃ j : Nat, j + k = R.size ∧ i = .int .i64 j ∧ wr = (w3.alloc (.cells #[.slice La g'.levels.length Lc, .slice Ra g'.rules.length Rc] 32)) ∧ Hid (∀ m, m < j → Lx.byteAt R m ≠ 10))
    case atStart => exact ⟨0, by omega, rfl, rfl, fun m hm => absurd hm (by omega)⟩
    case round =>
      obtain ⟨j, hk, rfl, rfl, hno⟩ := hrel
      by_cases hlt : j < R.size
      · have hbe := Lx.byteAt_eq R j hlt
        by_cases hten : (R[j].toNat : Int) = 10
        · have ht : ((R[j].toNat : Int) == 10) = true := beq_iff_eq.2 hten
          clear hten hbe kg5 hg5
          go_wp2_with (first
            | (go_at_call 13; refine (alive_any _).mono ?_; rintro e w4 ⟨rfl, hb4⟩))
          go_ret
          exact ⟨rfl, hbD.trans (hb4.mono hbD.size)⟩
        · have ht : ((R[j].toNat : Int) == 10) = false := beq_eq_false_iff_ne.2 hten
          have HB : Hid (Lx.byteAt R j ≠ 10) := by rw [hbe]; exact hten
          clear hten hbe
          go_wp2_with fail
          go_roundg (R.size - (j + 1))
          case measure => omega
          case rel =>
            refine ⟨j + 1, by omega, by go_num, rfl, fun m hm => ?_⟩
            by_cases hm' : m = j
            · subst hm'; exact HB.out
            · exact hno.out m (by omega)
      · have HNO : Hid (∀ x ∈ Lx.bytes R, Lx.bt x ≠ 10) := fun x hx => by
          obtain ⟨m, hm, rfl⟩ := List.getElem_of_mem hx
          have hm' : m < R.size := by rw [← Lx.bytes_len]; exact hm
          have := hno.out m (by omega)
          rw [Lx.byteAt_eq R m hm'] at this
          exact this
        clear hno
        go_wp2_with fail
        go_loopg [15, 16] T.size (fun k tv i wr => ∃ (j : Nat) (acc : ByteArray), j + k = T.size ∧ tv = .string acc ∧ i = .int .i64 j ∧ wr = (w3.alloc (.cells #[.slice La g'.levels.length Lc, .slice Ra g'.rules.length Rc] 32)) ∧ Hid (acc.size ≤ j * (R.size + 4)) ∧ Hid (Lx.bytes acc = ((Lx.bytes T).take j).flatMap (Lx.subL (Lx.bytes R))))
        case atStart => exact ⟨0, Lx.noText, by omega, rfl, rfl, rfl, Nat.zero_le _, rfl⟩
        case round =>
          obtain ⟨i, acc, hk2, rfl, rfl, rfl, hac, hE⟩ := hrel
          have hac2 : acc.size ≤ 563091191131529044 := by
            have h1 : i * (R.size + 4) ≤ 4001 * (140737488355328 + 4) := Nat.mul_le_mul (by omega) (by omega)
            have h2 := hac.out
            omega
          by_cases hlt2 : i < T.size
          · have hbe := Lx.drop_cons hlt2
            have hge : (Lx.bytes T).take (i + 1) = (Lx.bytes T).take i ++ [T[i]] := by
              have : i < (Lx.bytes T).length := by rw [Lx.bytes_len]; exact hlt2
              rw [List.take_succ_eq_append_getElem this]; rfl
            clear hbe
            by_cases h32 : (T[i].toNat : Int) = 32
            · have HS : Hid (Lx.subL (Lx.bytes R) T[i] = 35 :: (Lx.bytes R ++ [10, 9, 32])) := if_pos (.inl h32)
              have h32' : ((T[i].toNat : Int) == 32) = true := beq_iff_eq.2 h32
              have HE : Hid (Lx.bytes (((acc ++ ⟨#[35]⟩) ++ R) ++ ⟨#[10, 9, 32]⟩) = ((Lx.bytes T).take (i + 1)).flatMap (Lx.subL (Lx.bytes R))) := by
                show _ = _
                rw [hge, List.flatMap_append, ← hE.out, List.flatMap_cons, List.flatMap_nil, List.append_nil, HS.out]
                simp only [Lx.bytes, append_list]
                simp
              have HZ : Hid ((((acc ++ ⟨#[35]⟩) ++ R) ++ ⟨#[10, 9, 32]⟩).size ≤ (i + 1) * (R.size + 4)) := by
                show _ ≤ _
                simp only [append_sz]
                have e1 : ByteArray.size ⟨#[35]⟩ = 1 := rfl
                have e2 : ByteArray.size ⟨#[10, 9, 32]⟩ = 3 := rfl
                have := hac.out
                rw [Nat.succ_mul]
                omega
              clear h32 hge
              go_wp2_with fail
              go_roundg (T.size - (i + 1))
              case measure => omega
              case rel => exact ⟨i + 1, _, by omega, rfl, by go_num, rfl, HZ, HE⟩
            · have h32' : ((T[i].toNat : Int) == 32) = false := beq_eq_false_iff_ne.2 h32
              by_cases h10 : (T[i].toNat : Int) = 10
              · have HS : Hid (Lx.subL (Lx.bytes R) T[i] = 35 :: (Lx.bytes R ++ [10, 9, 32])) := if_pos (.inr h10)
                have h10' : ((T[i].toNat : Int) == 10) = true := beq_iff_eq.2 h10
                have HE : Hid (Lx.bytes (((acc ++ ⟨#[35]⟩) ++ R) ++ ⟨#[10, 9, 32]⟩) = ((Lx.bytes T).take (i + 1)).flatMap (Lx.subL (Lx.bytes R))) := by
                  show _ = _
                  rw [hge, List.flatMap_append, ← hE.out, List.flatMap_cons, List.flatMap_nil, List.append_nil, HS.out]
                  simp only [Lx.bytes, append_list]
                  simp
                have HZ : Hid ((((acc ++ ⟨#[35]⟩) ++ R) ++ ⟨#[10, 9, 32]⟩).size ≤ (i + 1) * (R.size + 4)) := by
                  show _ ≤ _
                  simp only [append_sz]
                  have e1 : ByteArray.size ⟨#[35]⟩ = 1 := rfl
                  have e2 : ByteArray.size ⟨#[10, 9, 32]⟩ = 3 := rfl
                  have := hac.out
                  rw [Nat.succ_mul]
                  omega
                clear h32 h10 hge
                go_wp2_with fail
                go_roundg (T.size - (i + 1))
                case measure => omega
                case rel => exact ⟨i + 1, _, by omega, rfl, by go_num, rfl, HZ, HE⟩
              · have HS : Hid (Lx.subL (Lx.bytes R) T[i] = [T[i]]) := if_neg (fun e => e.elim h32 h10)
                have h10' : ((T[i].toNat : Int) == 10) = false := beq_eq_false_iff_ne.2 h10
                have HX : Hid (Lx.bytes (T.extract i (i + 1)) = [T[i]]) := by
                  show _ = _
                  unfold Lx.bytes
                  rw [Lib.extract_data, show i + 1 - i = 1 by omega]
                  have : i < (Lx.bytes T).length := by rw [Lx.bytes_len]; exact hlt2
                  show ((Lx.bytes T).drop i).take 1 = _
                  rw [List.drop_eq_getElem_cons this]; rfl
                have HE : Hid (Lx.bytes (acc ++ T.extract i (i + 1)) = ((Lx.bytes T).take (i + 1)).flatMap (Lx.subL (Lx.bytes R))) := by
                  show _ = _
                  rw [hge, List.flatMap_append, ← hE.out, List.flatMap_cons, List.flatMap_nil, List.append_nil, HS.out, ← HX.out]
                  simp only [Lx.bytes, append_list]
                have hxz : (T.extract i (i + 1)).size ≤ 1 := by rw [ByteArray.size_extract]; omega
                have HZ : Hid ((acc ++ T.extract i (i + 1)).size ≤ (i + 1) * (R.size + 4)) := by
                  show _ ≤ _
                  rw [append_sz]
                  have := hac.out
                  rw [Nat.succ_mul]
                  omega
                clear h32 h10 hge
                go_wp2_with fail
                go_roundg (T.size - (i + 1))
                case measure => omega
                case rel => exact ⟨i + 1, _, by omega, rfl, by go_num, rfl, HZ, HE⟩
          · obtain ⟨t, ht⟩ : ∃ t, t = (acc ++ ⟨#[35]⟩) ++ R := ⟨_, rfl⟩
            have HB : Hid (Lx.bytes t = (Lx.bytes (Lx.plainOf s)).flatMap (Lx.subL (Lx.bytes R)) ++ 35 :: Lx.bytes R) := by
              show _ = _
              rw [← HT.out, ← List.take_of_length_le (l := Lx.bytes T) (i := i) (by rw [Lx.bytes_len]; omega), ← hE.out, ht]
              simp only [Lx.bytes, append_list]
              simp
            have HTX : Hid ((Lx.lex t).map Prod.fst = (Lx.lex s).map Prod.fst) := Lx.remark_tx s HNO.out HB.out
            have htt : (acc ++ ⟨#[35]⟩) ++ R = t := ht.symm
            have hzz : t.size = acc.size + 1 + R.size := by rw [ht]; simp only [append_sz]; rfl
            clear hE hac HB ht
            by_cases hlong : 2000 < t.size
            · clear kg5 hg5
              go_wp2_with (first
                | (go_at_call 13; refine (alive_any _).mono ?_; rintro e w4 ⟨rfl, hb4⟩))
              go_ret
              exact ⟨rfl, hbD.trans (hb4.mono hbD.size)⟩
            · obtain ⟨g2, hr2, he2⟩ := Lx.parse_same HR.out (t := t) (by omega) HTX.out.symm
              have HR2 : Hid (Lx.parse t = .ok g2) := hr2
              have HT2 : Hid (T = Lx.plainOf t) := HT.out.trans (Lx.plain_of_tx HTX.out).symm
              have P := Parse_any t (w3.alloc (.cells #[.slice La g'.levels.length Lc, .slice Ra g'.rules.length Rc] 32)) (by unfold maxLen; omega)
              have PT := fun w => Print_any t w (by unfold maxLen; omega)
              have hg6 := hg5.swap he2
              have hl1 : g.levels.length = g2.levels.length := he2.1.len
              have hl2 : g.rules.length = g2.rules.length := he2.2.len
              rw [hl1, hl2] at hg6 kg5
              rw [hl1, hl2]
              have hlong' : t.size ≤ 2000 := by omega
              clear hr2 he2 hg5 hl1 hl2 PP hlong
              go_wp2_with (first
                | (go_at_call 12; refine (num_any _ _).mono ?_; rintro e w' ⟨rfl, hw'⟩; obtain rfl := hw'.symm))
              refine P.mono ?_
              intro e w4 he
              obtain ⟨hb4, ⟨g3, vl2, vr2, hr3, rfl, hh⟩ | ⟨n, a, hn, hr3, rfl⟩⟩ := he.out
              case inr => rw [HR2.out] at hr3; cases hr3
              rw [HR2.out] at hr3
              cases hr3
              rw [hlD] at hb4 hh
              obtain ⟨ka, kc, rfl, -⟩ := Seq.len hh.1
              obtain ⟨ja, jc, rfl, -⟩ := Seq.len hh.2
              have hs4 : w3.heap.size + 1 ≤ w4.heap.size := by have := hb4.size; omega
              have kg6 : Blk w4 w1.heap.size _ 25 := (hb4.block _ (by omega)).trans kg5
              have hg7 := hg6.move (w' := w4) (fun b hb => hb4.block b (by have := hb.2; omega)) (fun _ h => h)
              have hbE : Below w.heap.size w w4 := hbD.trans (hb4.mono (by have := hbD.size; omega))
              have kh := Blk.new w4 #[.slice ka g2.levels.length kc, .slice ja g2.rules.length jc] 25
              have kg8 := kg6.alloc (.cells #[.slice ka g2.levels.length kc, .slice ja g2.rules.length jc] 25)
              have hlF : (w4.alloc (.cells #[.slice ka g2.levels.length kc, .slice ja g2.rules.length jc] 25)).heap.size = w4.heap.size + 1 := by simp
              have hbF := hbE.alloc hbE.size (.cells #[.slice ka g2.levels.length kc, .slice ja g2.rules.length jc] 25)
              have hg8 : GramIn (In w.heap.size w1.heap.size) (w4.alloc (.cells #[.slice ka g2.levels.length kc, .slice ja g2.rules.length jc] 25)) (.slice la g2.levels.length lc) (.slice ra g2.rules.length rc) g2 := GramIn.move hg7 (fun b hb => Below.heap_alloc _ _ _ (by have := hb.2; omega)) (fun _ h => h)
              have hh8 : GramIn (In (w3.heap.size + 1) w4.heap.size) (w4.alloc (.cells #[.slice ka g2.levels.length kc, .slice ja g2.rules.length jc] 25)) (.slice ka g2.levels.length kc) (.slice ja g2.rules.length jc) g2 := GramIn.move hh (fun b hb => Below.heap_alloc _ _ _ hb.2) (fun _ h => h)
              clear he P hb4 kg5 kg6 hg6 hg7 hh hbE
              go_wp2_with fail
              refine (PT _).mono ?_
              intro e w5 he
              obtain ⟨rfl, hb5⟩ := he.okT HR2.out HT2.out
              rw [hlF] at hb5
              have kgX : Blk w5 w1.heap.size _ 25 := (hb5.block _ (by omega)).trans kg8
              have khX : Blk w5 w4.heap.size _ 25 := (hb5.block _ (by omega)).trans kh
              have hgX := hg8.move (w' := w5) (fun b hb => hb5.block b (by have := hb.2; omega)) (fun _ h => h)
              have hhX := hh8.move (w' := w5) (fun b hb => hb5.block b (by have := hb.2; omega)) (fun _ h => h)
              have hs5 : w4.heap.size + 1 ≤ w5.heap.size := by have := hb5.size; omega
              have hbG : Below w.heap.size w w5 := hbF.trans (hb5.mono (by have := hbF.size; omega))
              have x0 : w5.cell? ⟨w1.heap.size, 0, none⟩ = some (.slice la g2.levels.length lc) := kgX.cell 0
              have x1 : w5.cell? ⟨w1.heap.size, 1, none⟩ = some (.slice ra g2.rules.length rc) := kgX.cell 1
              have y0 : w5.cell? ⟨w4.heap.size, 0, none⟩ = some (.slice ka g2.levels.length kc) := khX.cell 0
              have y1 : w5.cell? ⟨w4.heap.size, 1, none⟩ = some (.slice ja g2.rules.length jc) := khX.cell 1
              clear he PT hb5 kg8 kh hg8 hh8 hbF
              have RE := rules_equal _ _ w5 _ _ _ (fun b hb => by have := hb.2; omega) (fun b hb => by have := hb.2; omega) hgX.2 hhX.2
              go_wp2_with fail
              refine RE.mono ?_
              rintro e w6 ⟨rfl, hb6⟩
              have kgY : Blk w6 w1.heap.size _ 25 := (hb6.block _ (by omega)).trans kgX
              have khY : Blk w6 w4.heap.size _ 25 := (hb6.block _ (by omega)).trans khX
              have hgY := hgX.move (w' := w6) (fun b hb => hb6.block b (by have := hb.2; omega)) (fun _ h => h)
              have hhY := hhX.move (w' := w6) (fun b hb => hb6.block b (by have := hb.2; omega)) (fun _ h => h)
              have hs6 : w4.heap.size + 1 ≤ w6.heap.size := by have := hb6.size; omega
              have hbH : Below w.heap.size w w6 := hbG.trans (hb6.mono hbG.size)
              have x0' : w6.cell? ⟨w1.heap.size, 0, none⟩ = some (.slice la g2.levels.length lc) := kgY.cell 0
              have y0' : w6.cell? ⟨w4.heap.size, 0, none⟩ = some (.slice ka g2.levels.length kc) := khY.cell 0
              clear RE hb6 kgX khX hgX hhX x0 x1 y0 y1 kgY khY
              have LE := levels_equal _ _ w6 _ _ _ (fun b hb => by have := hb.2; omega) (fun b hb => by have := hb.2; omega) hgY.1 hhY.1
              go_wp2_with fail
              refine LE.mono ?_
              rintro e w7 ⟨rfl, hb7⟩
              have hbI : Below w.heap.size w w7 := hbH.trans (hb7.mono hbH.size)
              clear LE hb7 hgY hhY
              go_wp2_with (first
                | (go_at_call 12; refine (num_any _ _).mono ?_; rintro e w' ⟨rfl, hw'⟩; obtain rfl := hw'.symm)
                | (go_at_call 13; refine (alive_any _).mono ?_; rintro e w8 ⟨rfl, hb8⟩))
              go_ret
              exact ⟨rfl, hbI.trans (hb8.mono hbI.size)⟩
  · have HR : Hid (Lx.parse s = .error (n, a)) := hr
    clear he P hr
    have kg := Blk.new w1 #[.slice none 0 0, .slice none 0 0] 25
    have hbA := hb1.alloc hb1.size (.cells #[.slice none 0 0, .slice none 0 0] 25)
    have hlA : (w1.alloc (.cells #[.slice none 0 0, .slice none 0 0] 25)).heap.size = w1.heap.size + 1 := by simp
    go_wp2_with fail
    refine (PP _).mono ?_
    intro e w2 he
    obtain ⟨rfl, hb2⟩ := he.err HR.out
    rw [hlA] at hb2
    have kg2 : Blk w2 w1.heap.size _ 25 := (hb2.block _ (by omega)).trans kg
    have hs2 : w1.heap.size + 1 ≤ w2.heap.size := by have := hb2.size; omega
    have hbB : Below w.heap.size w w2 := hbA.trans (hb2.mono (by have := hb1.size; omega))
    have P := rparse_any s w2
    clear he kg hbA hb2 hb1
    go_wp2_with fail
    refine P.mono ?_
    intro e w3 he
    obtain ⟨hb3, ⟨g', vL, vR, sgx, hr', rfl, hg3⟩ | ⟨n', a', hr', rfl⟩⟩ := he.out
    case inl => rw [HR.out] at hr'; cases hr'
    rw [HR.out] at hr'
    cases hr'
    have kg3 : Blk w3 w1.heap.size _ 25 := (hb3.block _ (by omega)).trans kg2
    have hs3 : w1.heap.size < w3.heap.size := by have := hb3.size; omega
    have hbC : Below w.heap.size w w3 := hbB.trans (hb3.mono (by have := hbB.size; omega))
    have hbD := hbC.alloc hbC.size (.cells #[.slice none 0 0, .slice none 0 0] 32)
    have x0 : w3.cell? ⟨w1.heap.size, 0, none⟩ = some (.slice none 0 0) := kg3.cell 0
    have x1 : w3.cell? ⟨w1.heap.size, 1, none⟩ = some (.slice none 0 0) := kg3.cell 1
    have hn0 : ((n : Int) == 0) = false := beq_eq_false_iff_ne.2 (by omega)
    have q23 : ∀ w, (binOp .eql 23 (.slice none 0 0) (.slice none 0 0)).run Try.prog w = .ok (.bool true) w := fun w => run_eql_nil_slice w 23 55 none 0 0 0 0 Try.underlying23
    have q22 : ∀ w, (binOp .eql 22 (.slice none 0 0) (.slice none 0 0)).run Try.prog w = .ok (.bool true) w := fun w => run_eql_nil_slice w 22 57 none 0 0 0 0 Try.underlying22
    clear he P kg2 kg3 hb3 hbB
    go_wp2_with (first
      | (go_at_call 12; refine (num_any _ _).mono ?_; rintro e w' ⟨rfl, hw'⟩; obtain rfl := hw'.symm)
      | (go_at_call 13; refine (alive_any _).mono ?_; rintro e w4 ⟨rfl, hb4⟩))
    go_ret
    exact ⟨rfl, hbD.trans (hb4.mono hbD.size)⟩
end Go.Proofs.Ytonkcljapkeidaa

import Derived.Test.YtonkcljapkeidaaM2
import Derived.Test.YtonkcljapkeidaaM1
namespace Go.Proofs.Ytonkcljapkeidaa
open Go.RowKit
namespace Lx
/-! The signs of a text, by the list of its bytes. -/
def bt (c : UInt8) : Int := (c.toNat : Int)
def wcB (c : UInt8) : Bool := wordB (bt c)
def gapL : List UInt8 → Bool → List UInt8
  | [], _ => []
  | c :: r, b => if bt c = 10 then gapL r false else if bt c = 35 then gapL r true else if b = false ∧ bt c ≠ 32 ∧ bt c ≠ 9 then c :: r else gapL r b
def signLen : List UInt8 → Nat
  | [] => 0
  | c :: r => if bt c = 37 then 1 + (r.takeWhile wcB).length else max ((c :: r).takeWhile wcB).length 1
def lexP : Nat → Nat → List UInt8 → List Tk
  | 0, o, _ => [(noText, o)]
  | _ + 1, o, [] => [(noText, o)]
  | f + 1, o, c :: r => (⟨((c :: r).take (signLen (c :: r))).toArray⟩, o) :: lexP f (o + ((c :: r).length - (gapL ((c :: r).drop (signLen (c :: r))) false).length)) (gapL ((c :: r).drop (signLen (c :: r))) false)
def bytes (s : ByteArray) : List UInt8 := s.data.toList
theorem bytes_len (s : ByteArray) : (bytes s).length = s.size := data_len s
theorem drop_cons {s : ByteArray} {i : Nat} (h : i < s.size) : ∃ c, (bytes s).drop i = c :: (bytes s).drop (i + 1) ∧ byteAt s i = bt c := by
  have h' : i < (bytes s).length := by rw [bytes_len]; exact h
  refine ⟨(bytes s)[i], List.drop_eq_getElem_cons h', ?_⟩
  rw [byteAt_eq s i h]
  rfl
theorem drop_nil {s : ByteArray} {i : Nat} (h : s.size ≤ i) : (bytes s).drop i = [] := List.drop_eq_nil_of_le (by rw [bytes_len]; exact h)
theorem gapTo_L (s : ByteArray) : ∀ (f i : Nat) (b : Bool), s.size - i ≤ f → i ≤ s.size → (bytes s).drop (gapTo s f i b) = gapL ((bytes s).drop i) b
  | 0, i, b, hf, hi => by
    rw [show gapTo s 0 i b = i from rfl, drop_nil (by omega)]; rfl
  | f + 1, i, b, hf, hi => by
    by_cases h : i < s.size
    · obtain ⟨c, h1, h2⟩ := drop_cons h
      have i1 := gapTo_L s f (i + 1) false (by omega) (by omega)
      have i2 := gapTo_L s f (i + 1) true (by omega) (by omega)
      have i3 := gapTo_L s f (i + 1) b (by omega) (by omega)
      rw [h1]
      simp only [gapTo, gapL, h2]
      split
      · exact i1
      · split
        · exact i2
        · split
          · exact h1
          · exact i3
    · have hz := gapTo_bd s (f + 1) i b
      rw [drop_nil (by omega), drop_nil (i := i) (by omega)]; rfl
theorem gapEnd_L {s : ByteArray} {i : Nat} (b : Bool) (hi : i ≤ s.size) : (bytes s).drop (gapEnd s i b) = gapL ((bytes s).drop i) b := gapTo_L s _ i b (Nat.le_refl _) hi
theorem wordTo_L (s : ByteArray) : ∀ (f i : Nat), s.size - i ≤ f → i ≤ s.size → s.size - i = f → wordTo s f i = i + (((bytes s).drop i).takeWhile wcB).length
  | 0, i, _, hi, hf => by
    rw [drop_nil (by omega)]; rfl
  | f + 1, i, _, hi, hf => by
    obtain ⟨c, h1, h2⟩ := drop_cons (s := s) (i := i) (by omega)
    rw [h1]
    simp only [wordTo, h2, List.takeWhile_cons]
    have ih := wordTo_L s f (i + 1) (by omega) (by omega) (by omega)
    cases hw : wcB c
    · rw [if_neg (by show ¬ wcB c = true; rw [hw]; decide)]; simp
    · rw [if_pos (by exact hw), ih]; simp; omega
theorem wordEnd_L {s : ByteArray} {i : Nat} (hi : i ≤ s.size) : wordEnd s i = i + (((bytes s).drop i).takeWhile wcB).length := wordTo_L s _ i (Nat.le_refl _) hi rfl
theorem signEnd_L {s : ByteArray} {i : Nat} (h : i < s.size) : signEnd s i = i + signLen ((bytes s).drop i) := by
  obtain ⟨c, h1, h2⟩ := drop_cons h
  unfold signEnd
  rw [h1]
  simp only [signLen, h2]
  split
  · rw [wordEnd_L (by omega)]; omega
  · rw [wordEnd_L (by omega), h1]; omega
theorem lexTo_P (s : ByteArray) : ∀ (f i : Nat), i ≤ s.size → lexTo s f i = lexP f i ((bytes s).drop i)
  | 0, i, _ => rfl
  | f + 1, i, hi => by
    by_cases h : i < s.size
    · obtain ⟨c, h1, h2⟩ := drop_cons h
      have hb := signEnd_bd h
      have hn := nextAt_bd h
      have hsE := signEnd_L h
      have hg := gapEnd_L (s := s) (i := signEnd s i) false hb.2
      have ih := lexTo_P s f (nextAt s i) hn.2
      have hlen := congrArg List.length hg
      rw [List.length_drop, bytes_len] at hlen
      rw [hsE, ← List.drop_drop, ← hsE] at hg hlen
      have hl0 : ((bytes s).drop i).length = s.size - i := by rw [List.length_drop, bytes_len]
      simp only [lexTo]
      rw [if_pos h, ih]
      rw [h1] at hsE hg hlen hl0
      rw [h1, lexP]
      have e1 : s.extract i (signEnd s i) = ⟨((c :: (bytes s).drop (i + 1)).take (signLen (c :: (bytes s).drop (i + 1)))).toArray⟩ := by
        refine ByteArray.ext (Array.ext' ?_)
        rw [Lib.extract_data]
        show ((bytes s).drop i).take _ = _
        rw [h1, hsE]
        simp
      have hne : nextAt s i = i + ((c :: (bytes s).drop (i + 1)).length - (gapL ((c :: (bytes s).drop (i + 1)).drop (signLen (c :: (bytes s).drop (i + 1)))) false).length) := by
        have e3 : gapEnd s (signEnd s i) false = nextAt s i := rfl
        rw [e3] at hlen
        omega
      rw [e1]
      refine congrArg _ ?_
      have e4 : (bytes s).drop (nextAt s i) = gapL ((c :: (bytes s).drop (i + 1)).drop (signLen (c :: (bytes s).drop (i + 1)))) false := hg
      rw [e4, hne]
    · have e0 := drop_nil (s := s) (i := i) (by omega)
      rw [e0]
      simp only [lexTo, lexP]
      rw [if_neg h]; rfl
theorem lex_P (s : ByteArray) : lex s = lexP (s.size - gapEnd s 0 false) (gapEnd s 0 false) (gapL (bytes s) false) := by
  have hb := gapEnd_bd (s := s) (i := 0) false (Nat.zero_le _)
  have h1 := gapEnd_L (s := s) (i := 0) false (Nat.zero_le _)
  unfold lex lexAt
  rw [lexTo_P s _ _ hb.2, h1]; rfl
end Lx
end Go.Proofs.Ytonkcljapkeidaa
namespace Go.Proofs.Ytonkcljapkeidaa
open Go.RowKit
namespace Lx
def ngap (c : UInt8) : Prop := bt c ≠ 10 ∧ bt c ≠ 35 ∧ bt c ≠ 32 ∧ bt c ≠ 9
/-- what a sign looks like -/
def Sig : List UInt8 → Prop
  | [] => False
  | c :: r => ngap c ∧ if bt c = 37 ∨ wcB c = true then ∀ x ∈ r, wcB x = true else r = []
/-- what may stand behind a sign -/
def Stop : List UInt8 → List UInt8 → Prop
  | _, [] => True
  | w, x :: _ => wcB x = false ∨ ∃ c, w = [c] ∧ bt c ≠ 37 ∧ wcB c = false
theorem wc37 {c : UInt8} (h : bt c = 37) : wcB c = false := by unfold wcB; rw [h]; decide
theorem takeWhile_stop {r t : List UInt8} (hr : ∀ x ∈ r, wcB x = true) (ht : t = [] ∨ ∃ x t', t = x :: t' ∧ wcB x = false) : ((r ++ t).takeWhile wcB).length = r.length := by
  induction r with
  | nil =>
    rcases ht with rfl | ⟨x, t', rfl, hx⟩
    · rfl
    · simp [hx]
  | cons c r ih =>
    have := ih (fun x hx => hr x (by simp [hx]))
    simp only [List.cons_append, List.takeWhile_cons, hr c (by simp), List.length_cons]
    simp [this]
theorem stop_head {w t : List UInt8} (h : Stop w t) (hw : ¬ ∃ c, w = [c] ∧ bt c ≠ 37 ∧ wcB c = false) : t = [] ∨ ∃ x t', t = x :: t' ∧ wcB x = false := by
  cases t with
  | nil => exact .inl rfl
  | cons x t' => exact .inr ⟨x, t', rfl, h.resolve_right hw⟩
theorem sign_len {w t : List UInt8} (h : Sig w) (hs : Stop w t) : signLen (w ++ t) = w.length := by
  cases w with
  | nil => exact h.elim
  | cons c r =>
    obtain ⟨_, hr⟩ := h
    simp only [List.cons_append, signLen]
    by_cases h37 : bt c = 37
    · rw [if_pos (.inl h37)] at hr
      rw [if_pos h37, takeWhile_stop hr (stop_head hs (fun ⟨d, e, h1, _⟩ => h1 (by cases e; exact h37)))]
      simp; omega
    · rw [if_neg h37]
      cases hc : wcB c
      · rw [if_neg (by simp [h37, hc])] at hr
        subst hr
        simp [hc]
      · rw [if_pos (.inr hc)] at hr
        have h1 := takeWhile_stop (r := c :: r) (t := t) (fun x hx => by
          rcases List.mem_cons.1 hx with rfl | hx
          · exact hc
          · exact hr x hx) (stop_head hs (fun ⟨d, e, _, h2⟩ => by cases e; rw [hc] at h2; cases h2))
        rw [List.cons_append] at h1
        rw [h1]; simp
theorem gap_sig {w t : List UInt8} (h : Sig w) : gapL (w ++ t) false = w ++ t := by
  cases w with
  | nil => exact h.elim
  | cons c r =>
    obtain ⟨⟨h1, h2, h3, h4⟩, _⟩ := h
    simp only [List.cons_append, gapL]
    rw [if_neg h1, if_neg h2, if_pos ⟨trivial, h3, h4⟩]
/-- Signs, with something between each two and something behind the last. -/
def lay (gp : ByteArray → ByteArray → List UInt8) (fin : ByteArray → List UInt8) : ByteArray → List ByteArray → List UInt8
  | b, [] => fin b
  | b, w :: ws => gp b w ++ (bytes w ++ lay gp fin w ws)
structure Gaps (gp : ByteArray → ByteArray → List UInt8) (fin : ByteArray → List UInt8) : Prop where
  gap : ∀ b w r, gapL (gp b w ++ r) false = gapL r false
  gapF : ∀ b, gapL (fin b) false = []
  stop : ∀ b w r, Sig (bytes b) → Sig (bytes w) → Stop (bytes b) (gp b w ++ (bytes w ++ r))
  stopF : ∀ b, Sig (bytes b) → Stop (bytes b) (fin b)
theorem lay_stop {gp : ByteArray → ByteArray → List UInt8} {fin : ByteArray → List UInt8} (hg : Gaps gp fin) {w : ByteArray} {ws : List ByteArray} (hw : Sig (bytes w)) (hs : ∀ x ∈ ws, Sig (bytes x)) : Stop (bytes w) (lay gp fin w ws) := by
  cases ws with
  | nil => exact hg.stopF w hw
  | cons x ws => exact hg.stop w x _ hw (hs x (by simp))
theorem relex {gp : ByteArray → ByteArray → List UInt8} {fin : ByteArray → List UInt8} (hg : Gaps gp fin) : ∀ (ws : List ByteArray) (b : ByteArray) (f o : Nat), (∀ x ∈ ws, Sig (bytes x)) → (gapL (lay gp fin b ws) false).length ≤ f → (lexP f o (gapL (lay gp fin b ws) false)).map Prod.fst = ws ++ [noText]
  | [], b, f, o, _, _ => by
    rw [lay, hg.gapF]
    cases f <;> rfl
  | w :: ws, b, f, o, hs, hf => by
    have hw := hs w (by simp)
    have hst := lay_stop (ws := ws) hg hw (fun x hx => hs x (by simp [hx]))
    have hsl := sign_len hw hst
    rw [lay, hg.gap, gap_sig hw] at hf ⊢
    have hne : bytes w ≠ [] := by intro e; rw [e] at hw; exact hw
    have hpos : 0 < (bytes w).length := List.length_pos_iff.2 hne
    have hll : (gapL (lay gp fin w ws) false).length ≤ (lay gp fin w ws).length := by
      have : ∀ (l : List UInt8) (b : Bool), (gapL l b).length ≤ l.length := by
        intro l
        induction l with
        | nil => intro b; exact Nat.le_refl _
        | cons c r ih =>
          intro b
          have a1 := ih false
          have a2 := ih true
          have a3 := ih b
          simp only [gapL, List.length_cons]
          split
          · omega
          · split
            · omega
            · split
              · simp
              · omega
      exact this _ _
    rw [List.length_append] at hf
    obtain ⟨f', rfl⟩ : ∃ f', f = f' + 1 := ⟨f - 1, by omega⟩
    have ih := fun o => relex hg ws w f' o (fun x hx => hs x (by simp [hx])) (by omega)
    cases hb : bytes w with
    | nil => exact absurd hb hne
    | cons c r =>
      rw [hb, List.cons_append] at hsl
      rw [List.cons_append, lexP, hsl]
      simp only [List.map_cons, List.cons_append]
      have e1 : (c :: (r ++ lay gp fin w ws)).take (c :: r).length = c :: r := by rw [← List.cons_append]; exact List.take_left
      have e2 : (c :: (r ++ lay gp fin w ws)).drop (c :: r).length = lay gp fin w ws := by rw [← List.cons_append]; exact List.drop_left
      rw [e1, e2, ih]
      refine congrArg (· :: _) ?_
      exact ByteArray.ext (Array.ext' hb.symm)
/-- Signs of a text look like signs. -/
theorem gapL_head : ∀ (l : List UInt8) (b : Bool) (c : UInt8) (r : List UInt8), gapL l b = c :: r → ngap c
  | [], _, _, _, h => by cases h
  | x :: l, b, c, r, h => by
    simp only [gapL] at h
    split at h
    · exact gapL_head l false c r h
    · rename_i h1
      split at h
      · exact gapL_head l true c r h
      · rename_i h2
        split at h
        · rename_i h3
          cases h
          exact ⟨h1, h2, h3.2.1, h3.2.2⟩
        · exact gapL_head l b c r h
theorem take_takeWhile (p : UInt8 → Bool) : ∀ l : List UInt8, l.take (l.takeWhile p).length = l.takeWhile p
  | [] => rfl
  | c :: r => by
    simp only [List.takeWhile_cons]
    cases p c
    · rfl
    · simp [take_takeWhile p r]
theorem mem_takeWhile {p : UInt8 → Bool} : ∀ {l : List UInt8} {x : UInt8}, x ∈ l.takeWhile p → p x = true
  | [], _, h => by cases h
  | c :: r, x, h => by
    simp only [List.takeWhile_cons] at h
    cases hc : p c
    · rw [hc] at h; cases h
    · rw [hc] at h
      rcases List.mem_cons.1 h with rfl | h
      · exact hc
      · exact mem_takeWhile h
theorem sig_take {c : UInt8} {r : List UInt8} (h : ngap c) : Sig ((c :: r).take (signLen (c :: r))) := by
  simp only [signLen]
  by_cases h37 : bt c = 37
  · rw [if_pos h37, Nat.add_comm, List.take_succ_cons, take_takeWhile]
    refine ⟨h, ?_⟩
    rw [if_pos (.inl h37)]
    exact fun x hx => mem_takeWhile hx
  · rw [if_neg h37]
    cases hc : wcB c
    · simp only [List.takeWhile_cons, hc]
      refine ⟨h, ?_⟩
      rw [if_neg (by simp [h37, hc])]; rfl
    · simp only [List.takeWhile_cons, hc, if_true, List.length_cons]
      rw [Nat.max_eq_left (by omega), List.take_succ_cons, take_takeWhile]
      refine ⟨h, ?_⟩
      rw [if_pos (.inr hc)]
      exact fun x hx => mem_takeWhile hx
theorem lexP_sig : ∀ (f o : Nat) (l : List UInt8), (∀ c r, l = c :: r → ngap c) → ∀ t ∈ lexP f o l, t.1 = noText ∨ Sig (bytes t.1)
  | 0, o, l, _, t, ht => by
    simp only [lexP, List.mem_singleton] at ht; subst ht; exact .inl rfl
  | f + 1, o, [], _, t, ht => by
    simp only [lexP, List.mem_singleton] at ht; subst ht; exact .inl rfl
  | f + 1, o, c :: r, hl, t, ht => by
    simp only [lexP] at ht
    rcases List.mem_cons.1 ht with rfl | ht
    · right
      show Sig ((c :: r).take (signLen (c :: r)))
      exact sig_take (hl c r rfl)
    · exact lexP_sig f _ _ (fun c r h => gapL_head _ _ _ _ h) t ht
theorem lex_sig (s : ByteArray) (t : Tk) (h : t ∈ lex s) : t.1 = noText ∨ Sig (bytes t.1) := by
  rw [lex_P] at h
  exact lexP_sig _ _ _ (fun c r e => gapL_head _ _ _ _ e) t h
end Lx
end Go.Proofs.Ytonkcljapkeidaa
namespace Go.Proofs.Ytonkcljapkeidaa
open Go.RowKit
namespace Lx
theorem gapOf_cases (b w : ByteArray) : gapOf b w = ⟨#[10]⟩ ∨ gapOf b w = ⟨#[32]⟩ ∨ (gapOf b w = ⟨#[]⟩ ∧ (b = noText ∨ b = ⟨#[40]⟩ ∨ w = noText ∨ w = ⟨#[59]⟩ ∨ w = ⟨#[41]⟩ ∨ w = ⟨#[42]⟩ ∨ w = ⟨#[43]⟩ ∨ w = ⟨#[63]⟩)) := by
  unfold gapOf
  split
  · exact .inl rfl
  · split
    · rename_i h
      refine .inr (.inr ⟨rfl, ?_⟩)
      simp only [Bool.or_eq_true] at h
      rcases h with (h | h) | h
      · exact .inl (text_eq h)
      · exact .inr (.inl (text_eq h))
      · exact .inr (.inr (.inl (text_eq h)))
    · split
      · rename_i h
        refine .inr (.inr ⟨rfl, ?_⟩)
        simp only [Bool.or_eq_true] at h
        rcases h with (((h | h) | h) | h) | h
        · exact .inr (.inr (.inr (.inl (text_eq h))))
        · exact .inr (.inr (.inr (.inr (.inl (text_eq h)))))
        · exact .inr (.inr (.inr (.inr (.inr (.inl (text_eq h))))))
        · exact .inr (.inr (.inr (.inr (.inr (.inr (.inl (text_eq h)))))))
        · exact .inr (.inr (.inr (.inr (.inr (.inr (.inr (text_eq h)))))))
      · exact .inr (.inl rfl)
theorem no_sig : ¬ Sig (bytes noText) := fun h => h
theorem gap_ten (r : List UInt8) : gapL (10 :: r) false = gapL r false := by rw [gapL, if_pos (by decide)]
theorem gap_blk (r : List UInt8) : gapL (32 :: r) false = gapL r false := by
  rw [gapL, if_neg (by decide), if_neg (by decide), if_neg (fun h => h.2.1 (by decide))]
/-- How the plain form's gaps are turned into other ones: what stands for a newline and what for a blank. -/
structure Fill (nl bl fin : List UInt8) : Prop where
  n1 : ∀ r, gapL (nl ++ r) false = gapL r false
  b1 : ∀ r, gapL (bl ++ r) false = gapL r false
  f1 : gapL fin false = []
  n2 : ∃ x r, nl = x :: r ∧ wcB x = false
  b2 : ∃ x r, bl = x :: r ∧ wcB x = false
  f2 : fin = [] ∨ ∃ x r, fin = x :: r ∧ wcB x = false
def fillOf (nl bl : List UInt8) (g : ByteArray) : List UInt8 := if g = ⟨#[10]⟩ then nl else if g = ⟨#[32]⟩ then bl else []
theorem fill_nl (nl bl : List UInt8) : fillOf nl bl ⟨#[10]⟩ = nl := if_pos rfl
theorem fill_bl (nl bl : List UInt8) : fillOf nl bl ⟨#[32]⟩ = bl := by unfold fillOf; rw [if_neg (by decide), if_pos rfl]
theorem fill_no (nl bl : List UInt8) : fillOf nl bl ⟨#[]⟩ = [] := by unfold fillOf; rw [if_neg (by decide), if_neg (by decide)]
theorem Fill.gaps {nl bl fin : List UInt8} (h : Fill nl bl fin) : Gaps (fun b w => fillOf nl bl (gapOf b w)) (fun b => fillOf nl bl (gapOf b noText) ++ fin) := by
  refine ⟨fun b w r => ?_, fun b => ?_, fun b w r hb hw => ?_, fun b hb => ?_⟩
  · rcases gapOf_cases b w with e | e | ⟨e, _⟩ <;> rw [e]
    · rw [fill_nl]; exact h.n1 r
    · rw [fill_bl]; exact h.b1 r
    · rw [fill_no]; rfl
  · rcases gapOf_cases b noText with e | e | ⟨e, _⟩ <;> rw [e]
    · rw [fill_nl, h.n1]; exact h.f1
    · rw [fill_bl, h.b1]; exact h.f1
    · rw [fill_no]; exact h.f1
  · rcases gapOf_cases b w with e | e | ⟨e, hx⟩ <;> rw [e]
    · rw [fill_nl]; obtain ⟨x, t, e', hx⟩ := h.n2; rw [e']; exact .inl hx
    · rw [fill_bl]; obtain ⟨x, t, e', hx⟩ := h.b2; rw [e']; exact .inl hx
    · rw [fill_no]
      rcases hx with rfl | rfl | rfl | rfl | rfl | rfl | rfl | rfl
      · exact absurd hb no_sig
      · show Stop [40] _
        cases hh : ([] ++ (bytes w ++ r)) with
        | nil => trivial
        | cons y z => exact .inr ⟨40, rfl, by decide, by decide⟩
      · exact absurd hw no_sig
      all_goals exact .inl (by decide)
  · rcases gapOf_cases b noText with e | e | ⟨e, _⟩ <;> rw [e]
    · rw [fill_nl]; obtain ⟨x, t, e', hx⟩ := h.n2; rw [e']; exact .inl hx
    · rw [fill_bl]; obtain ⟨x, t, e', hx⟩ := h.b2; rw [e']; exact .inl hx
    · rw [fill_no, List.nil_append]
      rcases h.f2 with rfl | ⟨x, t, rfl, hx⟩
      · trivial
      · exact .inl hx
theorem plain_fill : Fill [10] [32] [] := ⟨gap_ten, gap_blk, rfl, ⟨10, [], rfl, by decide⟩, ⟨32, [], rfl, by decide⟩, .inl rfl⟩
theorem fill_plain (b w : ByteArray) : fillOf [10] [32] (gapOf b w) = bytes (gapOf b w) := by
  rcases gapOf_cases b w with e | e | ⟨e, _⟩ <;> rw [e]
  · rw [fill_nl]; rfl
  · rw [fill_bl]; rfl
  · rw [fill_no]; rfl
theorem form_lay : ∀ (ws : List ByteArray) (b : ByteArray), formB b (ws ++ [noText]) = lay (fun b w => fillOf [10] [32] (gapOf b w)) (fun b => fillOf [10] [32] (gapOf b noText) ++ []) b ws
  | [], b => by
    simp only [List.nil_append, formB, lay, List.append_nil]
    rw [fill_plain]
    show _ ++ ([] : List UInt8) = _
    rw [List.append_nil]; rfl
  | w :: ws, b => by
    simp only [List.cons_append, formB, lay]
    rw [form_lay ws w, fill_plain]; rfl
theorem WF.split : ∀ {ts : List Tk}, WF ts → ∃ ws, ts.map Prod.fst = ws ++ [noText]
  | [], h => h.elim
  | [t], h => ⟨[], congrArg (· :: []) h⟩
  | t :: u :: r, h => by
    obtain ⟨ws, e⟩ := WF.split (ts := u :: r) h.2
    exact ⟨t.1 :: ws, by rw [List.map_cons, e]; rfl⟩
/-- The signs of a text, and what they look like. -/
theorem lex_signs (s : ByteArray) : ∃ ws, (lex s).map Prod.fst = ws ++ [noText] ∧ ∀ x ∈ ws, Sig (bytes x) := by
  obtain ⟨ws, e⟩ := WF.split (lex_wf s)
  refine ⟨ws, e, fun x hx => ?_⟩
  have hn := WF.some (lex_wf s) e x hx
  have : x ∈ (lex s).map Prod.fst := by rw [e]; exact List.mem_append_left _ hx
  obtain ⟨t, ht, rfl⟩ := List.mem_map.1 this
  exact (lex_sig s t ht).resolve_left hn
/-- A text that holds signs as the plain form does, with whatever gaps, has just these signs. -/
theorem lex_laid {nl bl fin : List UInt8} (h : Fill nl bl fin) {ws : List ByteArray} (hw : ∀ x ∈ ws, Sig (bytes x)) {t : ByteArray} (ht : bytes t = lay (fun b w => fillOf nl bl (gapOf b w)) (fun b => fillOf nl bl (gapOf b noText) ++ fin) noText ws) : (lex t).map Prod.fst = ws ++ [noText] := by
  rw [lex_P, ht]
  refine relex h.gaps ws noText _ _ hw ?_
  have h1 := congrArg List.length (gapEnd_L (s := t) (i := 0) false (Nat.zero_le _))
  rw [List.length_drop, bytes_len, List.drop_zero, ht] at h1
  omega
theorem form_lex (s : ByteArray) : (lex ⟨(formL noText (lex s)).toArray⟩).map Prod.fst = (lex s).map Prod.fst := by
  obtain ⟨ws, e, hw⟩ := lex_signs s
  rw [e]
  refine lex_laid plain_fill hw ?_
  show (formL noText (lex s)).toArray.toList = _
  rw [formL_B, e, form_lay]
end Lx
end Go.Proofs.Ytonkcljapkeidaa
namespace Go.Proofs.Ytonkcljapkeidaa
open Go Go.RowKit
namespace Lx
/-- Two rows, one by one. -/
def All2 {α β : Type} (R : α → β → Prop) : List α → List β → Prop
  | [], [] => True
  | a :: l, b :: m => R a b ∧ All2 R l m
  | _, _ => False
theorem All2.push {α β : Type} {R : α → β → Prop} : ∀ {l : List α} {m : List β} {a : α} {b : β}, All2 R l m → R a b → All2 R (l ++ [a]) (m ++ [b])
  | [], [], _, _, _, h => ⟨h, trivial⟩
  | _ :: _, _ :: _, _, _, h, hr => ⟨h.1, All2.push h.2 hr⟩
  | [], _ :: _, _, _, h, _ => h.elim
  | _ :: _, [], _, _, h, _ => h.elim
theorem All2.len {α β : Type} {R : α → β → Prop} : ∀ {l : List α} {m : List β}, All2 R l m → l.length = m.length
  | [], [], _ => rfl
  | _ :: _, _ :: _, h => by simp [All2.len h.2]
  | [], _ :: _, h => h.elim
  | _ :: _, [], h => h.elim
/-- Trees that part only in places. -/
def AltsEq : Nat → List Alt → List Alt → Prop
  | 0, l, m => l = [] ∧ m = []
  | d + 1, l, m => All2 (fun a b => All2 (fun x y => x.kind = y.kind ∧ x.name = y.name ∧ x.mark = y.mark ∧ AltsEq d x.alts y.alts) a.1 b.1 ∧ a.2.1 = b.2.1) l m
def ItEq (d : Nat) (x y : It) : Prop := x.kind = y.kind ∧ x.name = y.name ∧ x.mark = y.mark ∧ AltsEq d x.alts y.alts
def AltEq (d : Nat) (a b : Alt) : Prop := All2 (ItEq d) a.1 b.1 ∧ a.2.1 = b.2.1
theorem AltsEq.nil : ∀ d, AltsEq d [] []
  | 0 => ⟨rfl, rfl⟩
  | _ + 1 => trivial
def TX (ts us : List Tk) : Prop := ts.map Prod.fst = us.map Prod.fst
theorem TX.hd {ts us : List Tk} (h : TX ts us) : hd ts = hd us := by
  cases ts with
  | nil => cases us with
    | nil => rfl
    | cons u us => cases h
  | cons t ts => cases us with
    | nil => cases h
    | cons u us => exact (List.cons.inj h).1
theorem TX.tail {ts us : List Tk} (h : TX ts us) : TX ts.tail us.tail := by
  cases ts with
  | nil => cases us with
    | nil => rfl
    | cons u us => cases h
  | cons t ts => cases us with
    | nil => cases h
    | cons u us => exact (List.cons.inj h).2
theorem TX.len {ts us : List Tk} (h : TX ts us) : ts.length = us.length := by
  have := congrArg List.length h
  simpa using this
theorem TX.push {ts us : List Tk} {t u : Tk} (h : TX ts us) (e : t.1 = u.1) : TX (ts ++ [t]) (us ++ [u]) := by
  unfold TX at *
  rw [List.map_append, List.map_append, h]
  simp [e]
def RelR {α : Type} (R : α → α → Prop) : Res α → Res α → Prop
  | .ok (x, ts), .ok (y, us) => R x y ∧ TX ts us
  | .error e, .error f => e.1 = f.1
  | _, _ => False
def bnd {α β : Type} (r : Res α) (k : α → List Tk → Res β) : Res β :=
  match r with
  | .error e => .error e
  | .ok (x, ts) => k x ts
theorem pItem_eq (grp : List Tk → Res (List Alt)) (ts : List Tk) : pItem grp ts = if hd ts = tOpen then bnd (grp ts) (fun alts ts1 => .ok ((⟨2, noText, (pMark ts1).1, alts, pl ts⟩ : It), (pMark ts1).2))
    else if isName (hd ts) = true then .ok (⟨0, hd ts, (pMark ts.tail).1, [], pl ts⟩, (pMark ts.tail).2)
    else if isToken (hd ts) = true then .ok (⟨1, hd ts, (pMark ts.tail).1, [], pl ts⟩, (pMark ts.tail).2)
    else .error (2, pl ts) := by
  unfold pItem
  split
  · cases grp ts with
    | error e => rfl
    | ok y => rfl
  · rfl
theorem pItems_eq (grp : List Tk → Res (List Alt)) (f : Nat) (ts : List Tk) (a : List It) : pItems grp (f + 1) ts a = if seesItem ts = true then bnd (pItem grp ts) (fun x ts1 => pItems grp f ts1 (a ++ [x])) else .ok (a, ts) := by
  simp only [pItems]
  split
  · cases pItem grp ts with
    | error e => rfl
    | ok y => rfl
  · rfl
theorem pPrec_eq (top : Bool) (a : List It) (ts : List Tk) : pPrec top a ts = if top = true ∧ hd ts = tPrec then bnd (pWord isToken ts.tail) (fun x ts1 => .ok (((a, x, pl ts.tail) : Alt), ts1)) else .ok ((a, noText, 0), ts) := by
  unfold pPrec
  split
  · cases pWord isToken ts.tail with
    | error e => rfl
    | ok y => rfl
  · rfl
theorem pAlt_eq (grp : List Tk → Res (List Alt)) (top : Bool) (ts : List Tk) : pAlt grp top ts = bnd (pItems grp ts.length ts []) (fun x ts1 => pPrec top x ts1) := by
  unfold pAlt
  cases pItems grp ts.length ts [] with
  | error e => rfl
  | ok y => rfl
theorem pMore_eq (grp : List Tk → Res (List Alt)) (top : Bool) (f : Nat) (ts : List Tk) (a : List Alt) : pMore grp top (f + 1) ts a = if hd ts = tBar then bnd (pAlt grp top ts.tail) (fun x ts1 => pMore grp top f ts1 (a ++ [x])) else .ok (a, ts) := by
  simp only [pMore]
  split
  · cases pAlt grp top ts.tail with
    | error e => rfl
    | ok y => rfl
  · rfl
theorem pAltsBy_eq (grp : List Tk → Res (List Alt)) (top : Bool) (ts : List Tk) : pAltsBy grp top ts = bnd (pAlt grp top ts) (fun x ts1 => pMore grp top ts1.length ts1 [x]) := by
  unfold pAltsBy
  cases pAlt grp top ts with
  | error e => rfl
  | ok y => rfl
theorem pGroup_eq (r : List Tk → Res (List Alt)) (ts : List Tk) : pGroup r ts = bnd (r ts.tail) (fun l ts1 => bnd (pMust tShut ts1) fun _ ts2 => .ok (l, ts2)) := by
  unfold pGroup
  cases r ts.tail with
  | error e => rfl
  | ok y =>
    obtain ⟨l, ts1⟩ := y
    simp only [bnd]
    cases pMust tShut ts1 with
    | error e => rfl
    | ok y => rfl
theorem pRule_eq (ts : List Tk) : pRule ts = bnd (pWord isName ts) (fun n ts1 => bnd (pMust tEq ts1) fun _ ts2 => bnd (pAlts 8 ts2) fun l ts3 => bnd (pMust tSemi ts3) fun _ ts4 => .ok ((⟨n, l, pl ts⟩ : Rl), ts4)) := by
  unfold pRule
  cases pWord isName ts with
  | error e => rfl
  | ok y =>
    obtain ⟨n, ts1⟩ := y
    simp only [bnd]
    cases pMust tEq ts1 with
    | error e => rfl
    | ok y =>
      obtain ⟨u, ts2⟩ := y
      simp only
      cases pAlts 8 ts2 with
      | error e => rfl
      | ok y =>
        obtain ⟨l, ts3⟩ := y
        simp only
        cases pMust tSemi ts3 with
        | error e => rfl
        | ok y => rfl
theorem pTokens_eq (f : Nat) (ts a : List Tk) : pTokens (f + 1) ts a = if hd ts = tSemi then .ok (a, ts.tail) else bnd (pWord isToken ts) (fun x ts1 => pTokens f ts1 (a ++ [(x, pl ts)])) := by
  simp only [pTokens]
  split
  · rfl
  · cases pWord isToken ts with
    | error e => rfl
    | ok y => rfl
theorem pLevel_eq (ts : List Tk) : pLevel ts = bnd (pWord isToken ts.tail) (fun b ts1 => bnd (pTokens ts1.length ts1 [(b, pl ts.tail)]) fun l ts2 => .ok ((⟨(levelKind (hd ts)).toNat, l⟩ : Lv), ts2)) := by
  unfold pLevel
  cases pWord isToken ts.tail with
  | error e => rfl
  | ok y =>
    obtain ⟨b, ts1⟩ := y
    simp only [bnd]
    cases pTokens ts1.length ts1 [(b, pl ts.tail)] with
    | error e => rfl
    | ok y => rfl
theorem pLevels_eq (f : Nat) (ts : List Tk) (a : List Lv) : pLevels (f + 1) ts a = if 0 ≤ levelKind (hd ts) then bnd (pLevel ts) (fun x ts1 => pLevels f ts1 (a ++ [x])) else .ok (a, ts) := by
  simp only [pLevels]
  split
  · cases pLevel ts with
    | error e => rfl
    | ok y => rfl
  · rfl
theorem pRules_eq (f : Nat) (ts : List Tk) (a : List Rl) : pRules (f + 1) ts a = if hd ts = noText then .ok (a, ts) else bnd (pRule ts) (fun x ts1 => pRules f ts1 (a ++ [x])) := by
  simp only [pRules]
  split
  · rfl
  · cases pRule ts with
    | error e => rfl
    | ok y => rfl
theorem pGrammar_bnd (ts : List Tk) : pGrammar ts = bnd (pLevels ts.length ts []) (fun lv ts1 => bnd (pRule ts1) fun x ts2 => bnd (pRules ts2.length ts2 [x]) fun l ts3 => .ok ((⟨lv, l⟩ : Gr), ts3)) := by
  unfold pGrammar
  cases pLevels ts.length ts [] with
  | error e => rfl
  | ok y =>
    obtain ⟨lv, ts1⟩ := y
    simp only [bnd]
    cases pRule ts1 with
    | error e => rfl
    | ok y =>
      obtain ⟨x, ts2⟩ := y
      simp only
      cases pRules ts2.length ts2 [x] with
      | error e => rfl
      | ok y => rfl
theorem RelR.on {α β : Type} {R : α → α → Prop} {S : β → β → Prop} {r r' : Res α} (h : RelR R r r') (k k' : α → List Tk → Res β) (hk : ∀ x y ts us, R x y → TX ts us → RelR S (k x ts) (k' y us)) : RelR S (bnd r k) (bnd r' k') := by
  cases r with
  | error e => cases r' with
    | error f => exact h
    | ok y => exact h.elim
  | ok x => cases r' with
    | error f => exact h.elim
    | ok y => exact hk _ _ _ _ h.1 h.2
theorem pWord_rel (k : ByteArray → Bool) {ts us : List Tk} (h : TX ts us) : RelR Eq (pWord k ts) (pWord k us) := by
  unfold pWord
  rw [h.hd]
  split
  · exact ⟨rfl, h.tail⟩
  · exact rfl
theorem pMust_rel (b : ByteArray) {ts us : List Tk} (h : TX ts us) : RelR Eq (pMust b ts) (pMust b us) := by
  unfold pMust
  rw [h.hd]
  split
  · exact ⟨rfl, h.tail⟩
  · exact rfl
theorem pMark_rel {ts us : List Tk} (h : TX ts us) : (pMark ts).1 = (pMark us).1 ∧ TX (pMark ts).2 (pMark us).2 := by
  unfold pMark
  rw [h.hd]
  split
  · exact ⟨rfl, h.tail⟩
  · split
    · exact ⟨rfl, h.tail⟩
    · split
      · exact ⟨rfl, h.tail⟩
      · exact ⟨rfl, h⟩
def GrpRel (d : Nat) (grp : List Tk → Res (List Alt)) : Prop := ∀ ts us, TX ts us → RelR (AltsEq d) (grp ts) (grp us)
theorem pItem_rel {d : Nat} {grp : List Tk → Res (List Alt)} (hg : GrpRel d grp) {ts us : List Tk} (h : TX ts us) : RelR (ItEq d) (pItem grp ts) (pItem grp us) := by
  rw [pItem_eq, pItem_eq, h.hd]
  split
  · exact RelR.on (hg _ _ h) _ _ fun x y t u hx ht => ⟨⟨rfl, rfl, (pMark_rel ht).1, hx⟩, (pMark_rel ht).2⟩
  · split
    · exact ⟨⟨rfl, rfl, (pMark_rel h.tail).1, AltsEq.nil d⟩, (pMark_rel h.tail).2⟩
    · split
      · exact ⟨⟨rfl, rfl, (pMark_rel h.tail).1, AltsEq.nil d⟩, (pMark_rel h.tail).2⟩
      · exact rfl
theorem seesItem_rel {ts us : List Tk} (h : TX ts us) : seesItem ts = seesItem us := by unfold seesItem; rw [h.hd]
theorem pItems_rel {d : Nat} {grp : List Tk → Res (List Alt)} (hg : GrpRel d grp) : ∀ (f : Nat) {ts us : List Tk} {a b : List It}, TX ts us → All2 (ItEq d) a b → RelR (All2 (ItEq d)) (pItems grp f ts a) (pItems grp f us b)
  | 0, ts, us, a, b, h, ha => ⟨ha, h⟩
  | f + 1, ts, us, a, b, h, ha => by
    rw [pItems_eq, pItems_eq, seesItem_rel h]
    split
    · exact RelR.on (pItem_rel hg h) _ _ fun x y t u hx ht => pItems_rel hg f ht (ha.push hx)
    · exact ⟨ha, h⟩
theorem pPrec_rel {d : Nat} (top : Bool) {a b : List It} {ts us : List Tk} (h : TX ts us) (ha : All2 (ItEq d) a b) : RelR (AltEq d) (pPrec top a ts) (pPrec top b us) := by
  rw [pPrec_eq, pPrec_eq, h.hd]
  split
  · exact RelR.on (pWord_rel isToken h.tail) _ _ fun x y t u hx ht => ⟨⟨ha, hx⟩, ht⟩
  · exact ⟨⟨ha, rfl⟩, h⟩
theorem pAlt_rel {d : Nat} {grp : List Tk → Res (List Alt)} (hg : GrpRel d grp) (top : Bool) {ts us : List Tk} (h : TX ts us) : RelR (AltEq d) (pAlt grp top ts) (pAlt grp top us) := by
  rw [pAlt_eq, pAlt_eq, h.len]
  exact RelR.on (pItems_rel hg us.length h (a := []) (b := []) trivial) _ _ fun x y t u hx ht => pPrec_rel top ht hx
theorem pMore_rel {d : Nat} {grp : List Tk → Res (List Alt)} (hg : GrpRel d grp) (top : Bool) : ∀ (f : Nat) {ts us : List Tk} {a b : List Alt}, TX ts us → All2 (AltEq d) a b → RelR (All2 (AltEq d)) (pMore grp top f ts a) (pMore grp top f us b)
  | 0, ts, us, a, b, h, ha => ⟨ha, h⟩
  | f + 1, ts, us, a, b, h, ha => by
    rw [pMore_eq, pMore_eq, h.hd]
    split
    · exact RelR.on (pAlt_rel hg top h.tail) _ _ fun x y t u hx ht => pMore_rel hg top f ht (ha.push hx)
    · exact ⟨ha, h⟩
theorem pAltsBy_rel {d : Nat} {grp : List Tk → Res (List Alt)} (hg : GrpRel d grp) (top : Bool) {ts us : List Tk} (h : TX ts us) : RelR (AltsEq (d + 1)) (pAltsBy grp top ts) (pAltsBy grp top us) := by
  rw [pAltsBy_eq, pAltsBy_eq]
  refine RelR.on (pAlt_rel hg top h) _ _ fun x y t u hx ht => ?_
  rw [ht.len]
  exact pMore_rel hg top u.length ht (a := [x]) (b := [y]) ⟨hx, trivial⟩
theorem pGroup_rel {d : Nat} {r : List Tk → Res (List Alt)} (hr : GrpRel d r) : GrpRel d (pGroup r) := fun ts us h => by
  rw [pGroup_eq, pGroup_eq]
  refine RelR.on (hr _ _ h.tail) _ _ fun x y t u hx ht => ?_
  exact RelR.on (pMust_rel tShut ht) _ _ fun _ _ t u _ ht => ⟨hx, ht⟩
theorem pAlts_rel : ∀ d, GrpRel (d + 1) (pAlts d)
  | 0 => fun _ _ h => pAltsBy_rel (grp := fun ts => .error (3, pl ts)) (fun _ _ _ => rfl) false h
  | d + 1 => fun _ _ h => pAltsBy_rel (pGroup_rel (pAlts_rel d)) (d == 7) h
def RlEq (r s : Rl) : Prop := r.name = s.name ∧ AltsEq 9 r.alts s.alts
def LvEq (l m : Lv) : Prop := l.kind = m.kind ∧ TX l.tokens m.tokens
def GrEq (g h : Gr) : Prop := All2 LvEq g.levels h.levels ∧ All2 RlEq g.rules h.rules
theorem pRule_rel {ts us : List Tk} (h : TX ts us) : RelR RlEq (pRule ts) (pRule us) := by
  rw [pRule_eq, pRule_eq]
  refine RelR.on (pWord_rel isName h) _ _ fun n m t1 u1 hn h1 => ?_
  refine RelR.on (pMust_rel tEq h1) _ _ fun _ _ t2 u2 _ h2 => ?_
  refine RelR.on (pAlts_rel 8 _ _ h2) _ _ fun x y t3 u3 hx h3 => ?_
  exact RelR.on (pMust_rel tSemi h3) _ _ fun _ _ t4 u4 _ h4 => ⟨⟨hn, hx⟩, h4⟩
theorem pTokens_rel : ∀ (f : Nat) {ts us a b : List Tk}, TX ts us → TX a b → RelR TX (pTokens f ts a) (pTokens f us b)
  | 0, ts, us, a, b, h, ha => ⟨ha, h⟩
  | f + 1, ts, us, a, b, h, ha => by
    rw [pTokens_eq, pTokens_eq, h.hd]
    split
    · exact ⟨ha, h.tail⟩
    · exact RelR.on (pWord_rel isToken h) _ _ fun x y t u hx ht => pTokens_rel f ht (ha.push hx)
theorem pLevel_rel {ts us : List Tk} (h : TX ts us) : RelR LvEq (pLevel ts) (pLevel us) := by
  rw [pLevel_eq, pLevel_eq, h.hd]
  refine RelR.on (pWord_rel isToken h.tail) _ _ fun x y t u hx ht => ?_
  rw [ht.len]
  exact RelR.on (pTokens_rel u.length ht (a := [(x, pl ts.tail)]) (b := [(y, pl us.tail)]) (congrArg (· :: []) hx)) _ _ fun l m t2 u2 hl h2 => ⟨⟨rfl, hl⟩, h2⟩
theorem pLevels_rel : ∀ (f : Nat) {ts us : List Tk} {a b : List Lv}, TX ts us → All2 LvEq a b → RelR (All2 LvEq) (pLevels f ts a) (pLevels f us b)
  | 0, ts, us, a, b, h, ha => ⟨ha, h⟩
  | f + 1, ts, us, a, b, h, ha => by
    rw [pLevels_eq, pLevels_eq, h.hd]
    split
    · exact RelR.on (pLevel_rel h) _ _ fun x y t u hx ht => pLevels_rel f ht (ha.push hx)
    · exact ⟨ha, h⟩
theorem pRules_rel : ∀ (f : Nat) {ts us : List Tk} {a b : List Rl}, TX ts us → All2 RlEq a b → RelR (All2 RlEq) (pRules f ts a) (pRules f us b)
  | 0, ts, us, a, b, h, ha => ⟨ha, h⟩
  | f + 1, ts, us, a, b, h, ha => by
    rw [pRules_eq, pRules_eq, h.hd]
    split
    · exact ⟨ha, h⟩
    · exact RelR.on (pRule_rel h) _ _ fun x y t u hx ht => pRules_rel f ht (ha.push hx)
theorem pGrammar_rel {ts us : List Tk} (h : TX ts us) : RelR GrEq (pGrammar ts) (pGrammar us) := by
  rw [pGrammar_bnd, pGrammar_bnd, h.len]
  refine RelR.on (pLevels_rel us.length h (a := []) (b := []) trivial) _ _ fun lv lw t1 u1 hl h1 => ?_
  refine RelR.on (pRule_rel h1) _ _ fun x y t2 u2 hx h2 => ?_
  rw [h2.len]
  exact RelR.on (pRules_rel u2.length h2 (a := [x]) (b := [y]) ⟨hx, trivial⟩) _ _ fun l m t3 u3 hm h3 => ⟨⟨hl, hm⟩, h3⟩
/-- Texts of the same signs bring the same grammar, but for places. -/
theorem parse_same {s t : ByteArray} {g : Gr} (hs : parse s = .ok g) (ht : t.size ≤ 2000) (h : TX (lex s) (lex t)) : ∃ g', parse t = .ok g' ∧ GrEq g g' := by
  unfold parse at hs
  split at hs
  · cases hs
  · have hr := pGrammar_rel h
    cases h1 : pGrammar (lex s) with
    | error e => rw [h1] at hs; cases hs
    | ok x =>
      obtain ⟨g1, ts1⟩ := x
      rw [h1] at hs hr
      cases hs
      cases h2 : pGrammar (lex t) with
      | error e => rw [h2] at hr; exact hr.elim
      | ok y =>
        obtain ⟨g2, ts2⟩ := y
        rw [h2] at hr
        refine ⟨g2, ?_, hr.1⟩
        unfold parse
        rw [if_neg (by omega), h2]
end Lx
end Go.Proofs.Ytonkcljapkeidaa
namespace Go.Proofs.Ytonkcljapkeidaa
open Go.RowKit
open Tr
/-- Two trees of the program's, of one meaning: they are told equal. -/
def AltsEqual (d : Nat) : Prop := ∀ (F F' : Nat → Prop) (w : World) (v v' : Value) (l : List Lx.Alt), (∀ b, F b → b < w.heap.size) → (∀ b, F' b → b < w.heap.size) → AltsIn YP d F w v l → AltsIn YP d F' w v' l →
  Calls Try.prog 28 #[v, v'] w fun e w' => e = .returned (.bool true) ∧ Below w.heap.size w w'
set_option maxHeartbeats 1000000 in
set_option maxRecDepth 100000 in
theorem equal_zero : AltsEqual 0 := by
  intro F F' w v v' l hF hF' h h'
  obtain ⟨rfl, rfl⟩ := h
  obtain ⟨rfl, -⟩ := h'
  go_enter Try.func28, Try.ntmps28
  go_wp2_with fail
  go_loopg [5] 0 (fun k i wr => k = 0 ∧ i = .int .i64 0 ∧ wr = w)
  case atStart => exact ⟨rfl, rfl, rfl⟩
  case round =>
    obtain ⟨rfl, rfl, rfl⟩ := hrel
    go_wp2_with fail
    go_ret
    exact ⟨rfl, Below.refl _ _⟩
set_option maxHeartbeats 2000000 in
set_option maxRecDepth 100000 in
theorem equal_succ {d : Nat} (IH : AltsEqual d) : AltsEqual (d + 1) := by
  intro F F' w v v' l hF hF' h h'
  obtain ⟨a, c, hv, hm⟩ := Seq.len h
  obtain ⟨a', c', hv', -⟩ := Seq.len h'
  subst hv hv'
  unfold maxLen at hm
  go_enter Try.func28, Try.ntmps28
  go_wp2_with fail
  go_loopg [5] l.length (fun k i wr => ∃ j : Nat, j + k = l.length ∧ i = .int .i64 j ∧ Below w.heap.size w wr)
  case atStart => exact ⟨0, by omega, rfl, Below.refl _ _⟩
  case round =>
    revert wr
    intro wz hrel
    obtain ⟨j, hk, rfl, hb⟩ := hrel
    by_cases hlt : j < l.length
    · have h1 : AltsIn YP (d + 1) F wz _ l := AltsIn.move (fun b hb' => hb.block b (hF b hb')) (fun _ h => h) h
      have h2 : AltsIn YP (d + 1) F' wz _ l := AltsIn.move (fun b hb' => hb.block b (hF' b hb')) (fun _ h => h) h'
      obtain ⟨g, cap, vi, hv, hg, hi, hc⟩ := Seq.at h1 (fun _ => rfl) hlt
      obtain ⟨g', cap', vi', hv', hg', hi', hc'⟩ := Seq.at h2 (fun _ => rfl) hlt
      cases hv
      cases hv'
      generalize l[j] = x at hi hc hi' hc'
      obtain ⟨its, prec, pa⟩ := x
      obtain ⟨ia, ic, hvi, him⟩ := Seq.len hi
      obtain ⟨ia', ic', hvi', -⟩ := Seq.len hi'
      subst hvi hvi'
      unfold maxLen at him
      have c0 : wz.cell? ⟨g, j * 2, none⟩ = some (.slice ia its.length ic) := hc 0 (by decide)
      have c1 : wz.cell? ⟨g, j * 2 + 1, none⟩ = some (.string prec) := hc 1 (by decide)
      have d0 : wz.cell? ⟨g', j * 2, none⟩ = some (.slice ia' its.length ic') := hc' 0 (by decide)
      have d1 : wz.cell? ⟨g', j * 2 + 1, none⟩ = some (.string prec) := hc' 1 (by decide)
      go_wp2_with fail
      go_region
      all_goals
        go_wp2_with fail
        clear h1 h2 c1 d1
        go_loopg [6] its.length (fun k i wr => ∃ m : Nat, m + k = its.length ∧ i = .int .i64 m ∧ Below wz.heap.size wz wr)
        case atStart => exact ⟨0, by omega, rfl, (Below.refl _ _).drew⟩
        case round =>
          obtain ⟨m, hkm, rfl, hbz⟩ := hrel
          have hsz := hb.size
          have hbw : Below w.heap.size w wr := hb.trans (hbz.mono hsz)
          have eg : wr.heap[g]? = wz.heap[g]? := hbz.block g (by have := hF g hg; omega)
          have eg' : wr.heap[g']? = wz.heap[g']? := hbz.block g' (by have := hF' g' hg'; omega)
          have c0r : wr.cell? ⟨g, j * 2, none⟩ = some (.slice ia its.length ic) := (World.cell?_of_block (w := wz) eg).trans c0
          have d0r : wr.cell? ⟨g', j * 2, none⟩ = some (.slice ia' its.length ic') := (World.cell?_of_block (w := wz) eg').trans d0
          by_cases hltm : m < its.length
          · have hir : ItemsIn YP d F wr _ its := ItemsIn.move (fun b hb' => hbz.block b (by have := hF b hb'; omega)) (fun _ h => h) hi
            have hir' : ItemsIn YP d F' wr _ its := ItemsIn.move (fun b hb' => hbz.block b (by have := hF' b hb'; omega)) (fun _ h => h) hi'
            unfold ItemsIn ItemsBy at hir hir'
            obtain ⟨n, ncap, va, hv, hn, ha, hcc⟩ := Seq.at hir (fun _ => rfl) hltm
            obtain ⟨n', ncap', va', hv', hn', ha', hcc'⟩ := Seq.at hir' (fun _ => rfl) hltm
            cases hv
            cases hv'
            generalize its[m] = it at ha hcc ha' hcc'
            obtain ⟨sa, sn, sc, hva⟩ := AltsIn.form ha
            obtain ⟨sa', sn', sc', hva'⟩ := AltsIn.form ha'
            subst hva hva'
            have e0 : wr.cell? ⟨n, m * 4, none⟩ = some (.int .i64 (it.kind : Int)) := hcc 0 (by decide)
            have e1 : wr.cell? ⟨n, m * 4 + 1, none⟩ = some (.string it.name) := hcc 1 (by decide)
            have e2 : wr.cell? ⟨n, m * 4 + 2, none⟩ = some (.int .u8 (it.mark : Int)) := hcc 2 (by decide)
            have e3 : wr.cell? ⟨n, m * 4 + 3, none⟩ = some (.slice sa sn sc) := hcc 3 (by decide)
            have k0 : wr.cell? ⟨n', m * 4, none⟩ = some (.int .i64 (it.kind : Int)) := hcc' 0 (by decide)
            have k1 : wr.cell? ⟨n', m * 4 + 1, none⟩ = some (.string it.name) := hcc' 1 (by decide)
            have k2 : wr.cell? ⟨n', m * 4 + 2, none⟩ = some (.int .u8 (it.mark : Int)) := hcc' 2 (by decide)
            have k3 : wr.cell? ⟨n', m * 4 + 3, none⟩ = some (.slice sa' sn' sc') := hcc' 3 (by decide)
            have lg : g < wr.heap.size := by have := hF g hg; have := hbw.size; omega
            have lg' : g' < wr.heap.size := by have := hF' g' hg'; have := hbw.size; omega
            have ln : n < wr.heap.size := by have := hF n hn; have := hbw.size; omega
            have ln' : n' < wr.heap.size := by have := hF' n' hn'; have := hbw.size; omega
            clear hcc hcc' c0 d0 hi hi' h h'
            have hsx : ((wr.alloc (.cells #[.int .i64 (it.kind : Int), .string it.name, .int .u8 (it.mark : Int), .slice sa sn sc] 86)).alloc (.cells #[.int .i64 (it.kind : Int), .string it.name, .int .u8 (it.mark : Int), .slice sa' sn' sc'] 86)).heap.size = wr.heap.size + 2 := by simp
            have mv : ∀ b, b < wr.heap.size → ((wr.alloc (.cells #[.int .i64 (it.kind : Int), .string it.name, .int .u8 (it.mark : Int), .slice sa sn sc] 86)).alloc (.cells #[.int .i64 (it.kind : Int), .string it.name, .int .u8 (it.mark : Int), .slice sa' sn' sc'] 86)).heap[b]? = wr.heap[b]? := fun b hb' => by
              rw [Below.heap_alloc _ _ _ (by simp; omega), Below.heap_alloc _ _ _ hb']
            have ha2 : AltsIn YP d F ((wr.alloc (.cells #[.int .i64 (it.kind : Int), .string it.name, .int .u8 (it.mark : Int), .slice sa sn sc] 86)).alloc (.cells #[.int .i64 (it.kind : Int), .string it.name, .int .u8 (it.mark : Int), .slice sa' sn' sc'] 86)) _ it.alts := AltsIn.move (fun b hb' => mv b (by have := hF b hb'; have := hbw.size; omega)) (fun _ h => h) ha
            have ha2' : AltsIn YP d F' ((wr.alloc (.cells #[.int .i64 (it.kind : Int), .string it.name, .int .u8 (it.mark : Int), .slice sa sn sc] 86)).alloc (.cells #[.int .i64 (it.kind : Int), .string it.name, .int .u8 (it.mark : Int), .slice sa' sn' sc'] 86)) _ it.alts := AltsIn.move (fun b hb' => mv b (by have := hF' b hb'; have := hbw.size; omega)) (fun _ h => h) ha'
            have kx := (Blk.new wr #[.int .i64 (it.kind : Int), .string it.name, .int .u8 (it.mark : Int), .slice sa sn sc] 86).alloc (.cells #[.int .i64 (it.kind : Int), .string it.name, .int .u8 (it.mark : Int), .slice sa' sn' sc'] 86)
            have ky := Blk.new (wr.alloc (.cells #[.int .i64 (it.kind : Int), .string it.name, .int .u8 (it.mark : Int), .slice sa sn sc] 86)) #[.int .i64 (it.kind : Int), .string it.name, .int .u8 (it.mark : Int), .slice sa' sn' sc'] 86
            rw [show (wr.alloc (.cells #[.int .i64 (it.kind : Int), .string it.name, .int .u8 (it.mark : Int), .slice sa sn sc] 86)).heap.size = wr.heap.size + 1 by simp] at ky
            have hb1 : Below wz.heap.size wz ((wr.alloc (.cells #[.int .i64 (it.kind : Int), .string it.name, .int .u8 (it.mark : Int), .slice sa sn sc] 86)).alloc (.cells #[.int .i64 (it.kind : Int), .string it.name, .int .u8 (it.mark : Int), .slice sa' sn' sc'] 86)) := (hbz.alloc hbz.size _).alloc (by have := hbz.size; simp; omega) _
            go_wp2_with fail
            refine (IH F F' _ _ _ _ (fun b hb' => by have := hF b hb'; have := hbw.size; rw [hsx]; omega) (fun b hb' => by have := hF' b hb'; have := hbw.size; rw [hsx]; omega) ha2 ha2').mono ?_
            rintro e w2 ⟨rfl, hb2⟩
            rw [hsx] at hb2
            have kx2 : Blk w2 wr.heap.size _ 86 := (hb2.block _ (by omega)).trans kx
            have ky2 : Blk w2 (wr.heap.size + 1) _ 86 := (hb2.block _ (by omega)).trans ky
            have x0 : w2.cell? ⟨wr.heap.size, 0, none⟩ = some (.int .i64 (it.kind : Int)) := kx2.cell 0
            have x1 : w2.cell? ⟨wr.heap.size, 1, none⟩ = some (.string it.name) := kx2.cell 1
            have x2 : w2.cell? ⟨wr.heap.size, 2, none⟩ = some (.int .u8 (it.mark : Int)) := kx2.cell 2
            have y0 : w2.cell? ⟨wr.heap.size + 1, 0, none⟩ = some (.int .i64 (it.kind : Int)) := ky2.cell 0
            have y1 : w2.cell? ⟨wr.heap.size + 1, 1, none⟩ = some (.string it.name) := ky2.cell 1
            have y2 : w2.cell? ⟨wr.heap.size + 1, 2, none⟩ = some (.int .u8 (it.mark : Int)) := ky2.cell 2
            have hb3 : Below wz.heap.size wz w2 := hb1.trans (hb2.mono (by have := hbz.size; omega))
            clear kx ky kx2 ky2 ha2 ha2' mv hsx hb1 ha ha' e0 e1 e2 e3 k0 k1 k2 k3 c0r d0r eg eg'
            go_wp2_with fail
            go_roundg (its.length - (m + 1))
            case measure => omega
            case rel => exact ⟨m + 1, by omega, by go_num, hb3⟩
          · clear c0 d0
            go_wp2_with fail
            go_roundg (l.length - (j + 1))
            case measure => omega
            case rel => exact ⟨j + 1, by omega, by go_num, hbw⟩
    · go_wp2_with fail
      go_ret
      exact ⟨rfl, hb⟩
theorem equal_at : ∀ d, AltsEqual d
  | 0 => equal_zero
  | d + 1 => equal_succ (equal_at d)
end Go.Proofs.Ytonkcljapkeidaa
namespace Go.Proofs.Ytonkcljapkeidaa
open Go.RowKit
open Lx (Tk)
open Tr
set_option maxHeartbeats 4000000 in
set_option maxRecDepth 100000 in
theorem rules_equal (F F' : Nat → Prop) (w : World) (v v' : Value) (l : List Lx.Rl) (hF : ∀ b, F b → b < w.heap.size) (hF' : ∀ b, F' b → b < w.heap.size) (h : Tr.Seq F w 55 2 cR (KR F w) v l) (h' : Tr.Seq F' w 55 2 cR (KR F' w) v' l) :
    Calls Try.prog 16 #[v, v'] w fun e w' => e = .returned (.bool true) ∧ Below w.heap.size w w' := by
  obtain ⟨la, lc, hvl, hlm⟩ := Seq.len h
  obtain ⟨la', lc', hvL, -⟩ := Seq.len h'
  subst hvl hvL
  unfold maxLen at hlm
  go_enter Try.func16, Try.ntmps16
  go_wp2_with fail
  go_loopg [5] l.length (fun k i wr => ∃ j : Nat, j + k = l.length ∧ i = .int .i64 j ∧ Below w.heap.size w wr)
  case atStart => exact ⟨0, by omega, rfl, Below.refl _ _⟩
  case round =>
    obtain ⟨j, hk, rfl, hb⟩ := hrel
    by_cases hlt : j < l.length
    · have h1 := h.move (fun b hb' => hb.block b (hF b hb')) (fun _ h => h) fun _ _ h => rul_movable _ _ _ _ _ _ (fun b hb' => hb.block b (hF b hb')) (fun _ h => h) h
      have h2 := h'.move (fun b hb' => hb.block b (hF' b hb')) (fun _ h => h) fun _ _ h => rul_movable _ _ _ _ _ _ (fun b hb' => hb.block b (hF' b hb')) (fun _ h => h) h
      obtain ⟨n, cap, va, hv, hn, hi, hc⟩ := Seq.at h1 (fun _ => rfl) hlt
      obtain ⟨n', cap', va', hv', hn', hi', hc'⟩ := Seq.at h2 (fun _ => rfl) hlt
      cases hv
      cases hv'
      generalize l[j] = x at hi hc hi' hc'
      obtain ⟨ta, tn, tc, hva⟩ := AltsIn.form hi
      obtain ⟨ta', tn', tc', hva'⟩ := AltsIn.form hi'
      subst hva hva'
      have hi1 : AltsIn YP 9 F wr.drew _ x.alts := AltsIn.move (fun _ _ => rfl) (fun _ h => h) hi
      have hi2 : AltsIn YP 9 F' wr.drew _ x.alts := AltsIn.move (fun _ _ => rfl) (fun _ h => h) hi'
      have c0 : wr.cell? ⟨n, j * 2, none⟩ = some (.string x.name) := hc 0 (by decide)
      have c1 : wr.cell? ⟨n, j * 2 + 1, none⟩ = some (.slice ta tn tc) := hc 1 (by decide)
      have d0 : wr.cell? ⟨n', j * 2, none⟩ = some (.string x.name) := hc' 0 (by decide)
      have d1 : wr.cell? ⟨n', j * 2 + 1, none⟩ = some (.slice ta' tn' tc') := hc' 1 (by decide)
      have ln : n < w.heap.size := hF n hn
      have ln' : n' < w.heap.size := hF' n' hn'
      have hsz := hb.size
      clear h h' h1 h2 hc hc' hi hi'
      go_wp2_with fail
      go_region_law (refine step_call rfl 28 #[.slice ta tn tc, .slice ta' tn' tc'] (by go_simp) (equal_at 9 F F' _ _ _ x.alts (fun b hb' => Nat.lt_of_lt_of_le (hF b hb') hsz) (fun b hb' => Nat.lt_of_lt_of_le (hF' b hb') hsz) hi1 hi2) ?_; rintro e w1 ⟨rfl, hb1⟩; refine ⟨_, rfl, ?_⟩)
      all_goals
        have hb1' : Below wr.heap.size wr w1 := ⟨hb1.os, hb1.tape, hb1.output, hb1.size, hb1.block⟩
        have c0' : w1.cell? ⟨n, j * 2, none⟩ = some (.string x.name) := (World.cell?_of_block (w := wr) (hb1'.block n (by omega))).trans c0
        have d0' : w1.cell? ⟨n', j * 2, none⟩ = some (.string x.name) := (World.cell?_of_block (w := wr) (hb1'.block n' (by omega))).trans d0
        have hb2 : Below w.heap.size w w1 := hb.trans (hb1'.mono hsz)
        clear hb1 hb1' c0 c1 d0 d1 hi1 hi2
        go_wp2_with fail
        go_quiet (fail)
        go_wp2_with fail
        go_roundg (l.length - (j + 1))
        case measure => omega
        case rel => exact ⟨j + 1, by omega, by go_num, ⟨hb2.os, hb2.tape, hb2.output, hb2.size, hb2.block⟩⟩
    · go_wp2_with fail
      go_ret
      exact ⟨rfl, hb⟩
set_option maxHeartbeats 4000000 in
set_option maxRecDepth 100000 in
theorem levels_equal (F F' : Nat → Prop) (w : World) (v v' : Value) (l : List Lx.Lv) (hF : ∀ b, F b → b < w.heap.size) (hF' : ∀ b, F' b → b < w.heap.size) (h : Tr.Seq F w 57 2 cL (KL F w) v l) (h' : Tr.Seq F' w 57 2 cL (KL F' w) v' l) :
    Calls Try.prog 17 #[v, v'] w fun e w' => e = .returned (.bool true) ∧ Below w.heap.size w w' := by
  obtain ⟨la, lc, hvl, hlm⟩ := Seq.len h
  obtain ⟨la', lc', hvL, -⟩ := Seq.len h'
  subst hvl hvL
  unfold maxLen at hlm
  go_enter Try.func17, Try.ntmps17
  go_wp2_with fail
  go_loopg [5] l.length (fun k i wr => ∃ j : Nat, j + k = l.length ∧ i = .int .i64 j ∧ Below w.heap.size w wr)
  case atStart => exact ⟨0, by omega, rfl, Below.refl _ _⟩
  case round =>
    obtain ⟨j, hk, rfl, hb⟩ := hrel
    by_cases hlt : j < l.length
    · have h1 := h.move (fun b hb' => hb.block b (hF b hb')) (fun _ h => h) fun _ _ h => lev_movable _ _ _ _ _ _ (fun b hb' => hb.block b (hF b hb')) (fun _ h => h) h
      have h2 := h'.move (fun b hb' => hb.block b (hF' b hb')) (fun _ h => h) fun _ _ h => lev_movable _ _ _ _ _ _ (fun b hb' => hb.block b (hF' b hb')) (fun _ h => h) h
      obtain ⟨n, cap, va, hv, hn, hi, hc⟩ := Seq.at h1 (fun _ => rfl) hlt
      obtain ⟨n', cap', va', hv', hn', hi', hc'⟩ := Seq.at h2 (fun _ => rfl) hlt
      cases hv
      cases hv'
      generalize l[j] = x at hi hc hi' hc'
      have o1 := toks_own hi
      have o2 := toks_own hi'
      obtain ⟨ta, tn, tc, rfl⟩ := own_form o1
      obtain ⟨ta', tn', tc', rfl⟩ := own_form o2
      have c0 : wr.cell? ⟨n, j * 2, none⟩ = some (.int .i64 (x.kind : Int)) := hc 0 (by decide)
      have c1 : wr.cell? ⟨n, j * 2 + 1, none⟩ = some (.slice ta tn tc) := hc 1 (by decide)
      have d0 : wr.cell? ⟨n', j * 2, none⟩ = some (.int .i64 (x.kind : Int)) := hc' 0 (by decide)
      have d1 : wr.cell? ⟨n', j * 2 + 1, none⟩ = some (.slice ta' tn' tc') := hc' 1 (by decide)
      have ln : n < w.heap.size := hF n hn
      have ln' : n' < w.heap.size := hF' n' hn'
      have hsz := hb.size
      clear h h' h1 h2 hc hc' hi hi'
      go_wp2_with fail
      go_region_law (refine step_call rfl 25 #[.slice ta tn tc, .slice ta' tn' tc'] (by go_simp) (words_toks x.tokens _ _ _ o1.drew o2.drew) ?_; rintro e w1 ⟨rfl, hb1⟩; refine ⟨_, rfl, ?_⟩)
      all_goals
        have hb1' : Below wr.heap.size wr w1 := ⟨hb1.os, hb1.tape, hb1.output, hb1.size, hb1.block⟩
        have c0' : w1.cell? ⟨n, j * 2, none⟩ = some (.int .i64 (x.kind : Int)) := (World.cell?_of_block (w := wr) (hb1'.block n (by omega))).trans c0
        have d0' : w1.cell? ⟨n', j * 2, none⟩ = some (.int .i64 (x.kind : Int)) := (World.cell?_of_block (w := wr) (hb1'.block n' (by omega))).trans d0
        have hb2 : Below w.heap.size w w1 := hb.trans (hb1'.mono hsz)
        clear hb1 hb1' c0 c1 d0 d1 o1 o2
        go_wp2_with fail
        go_quiet (fail)
        go_wp2_with fail
        go_roundg (l.length - (j + 1))
        case measure => omega
        case rel => exact ⟨j + 1, by omega, by go_num, ⟨hb2.os, hb2.tape, hb2.output, hb2.size, hb2.block⟩⟩
    · go_wp2_with fail
      go_ret
      exact ⟨rfl, hb⟩
end Go.Proofs.Ytonkcljapkeidaa
namespace Go.Proofs.Ytonkcljapkeidaa
open Go.RowKit
open Lx (Tk)
open Tr
theorem swap_row {α : Type} {R : α → α → Prop} {K K' : Value → α → Prop} {c : Value × α → List Value} (hk : ∀ v x y, R x y → K v x → c (v, x) = c (v, y) ∧ K' v y) : ∀ (ps : List (Value × α)) (m : List α), Lx.All2 R (ps.map Prod.snd) m → (∀ q, q ∈ ps → K q.1 q.2) → ∃ ps' : List (Value × α), ps'.map Prod.snd = m ∧ ps'.flatMap c = ps.flatMap c ∧ ∀ q, q ∈ ps' → K' q.1 q.2
  | [], [], _, _ => ⟨[], rfl, rfl, fun q h => by cases h⟩
  | p :: ps, y :: m, h, hq => by
    obtain ⟨ps', h1, h2, h3⟩ := swap_row hk ps m h.2 (fun q hq' => hq q (by simp [hq']))
    obtain ⟨e1, e2⟩ := hk p.1 p.2 y h.1 (hq p (by simp))
    refine ⟨(p.1, y) :: ps', by simp [h1], ?_, fun q hq' => ?_⟩
    · rw [List.flatMap_cons, List.flatMap_cons, h2, ← e1]
    · rcases List.mem_cons.1 hq' with rfl | hq'
      · exact e2
      · exact h3 q hq'
  | [], _ :: _, h, _ => h.elim
  | _ :: _, [], h, _ => h.elim
theorem Tr.Seq.swap {α : Type} {R : α → α → Prop} {F : Nat → Prop} {w : World} {e s : Nat} {c : Value × α → List Value} {K K' : Value → α → Prop} {v : Value} {l m : List α} (h : Tr.Seq F w e s c K v l) (ha : Lx.All2 R l m) (hk : ∀ v x y, R x y → K v x → c (v, x) = c (v, y) ∧ K' v y) : Tr.Seq F w e s c K' v m := by
  obtain ⟨ps, h1, h2, h3, h4⟩ := h
  obtain ⟨ps', g1, g2, g3⟩ := swap_row hk ps m (by rw [h1]; exact ha) h4
  exact ⟨ps', g1, by rw [g2, ← ha.len]; exact h2, h3, g3⟩
theorem AltsIn.swap {F : Nat → Prop} {w : World} : ∀ (d : Nat) {v : Value} {l m : List Lx.Alt}, Lx.AltsEq d l m → AltsIn YP d F w v l → AltsIn YP d F w v m
  | 0, v, l, m, he, h => ⟨h.1, he.2⟩
  | d + 1, v, l, m, he, h => by
    refine Seq.swap (K := fun vi (a : Lx.Alt) => ItemsBy YP (AltsIn YP d F w) F w vi a.1) h he fun vi a b hab hi => ⟨?_, ?_⟩
    · show [vi, Value.string a.2.1] = [vi, Value.string b.2.1]
      rw [hab.2]
    · refine Seq.swap (K := fun va (it : Lx.It) => AltsIn YP d F w va it.alts) hi hab.1 fun va x y hxy hx => ⟨?_, AltsIn.swap d hxy.2.2.2 hx⟩
      show [Value.int .i64 (x.kind : Int), .string x.name, .int .u8 (x.mark : Int), va] = [Value.int .i64 (y.kind : Int), .string y.name, .int .u8 (y.mark : Int), va]
      rw [hxy.1, hxy.2.1, hxy.2.2.1]
theorem tx_all : ∀ {l m : List Tk}, Lx.TX l m → Lx.All2 (fun t u : Tk => t.1 = u.1) l m
  | [], [], _ => trivial
  | [], _ :: _, h => by cases h
  | _ :: _, [], h => by cases h
  | t :: l, u :: m, h => ⟨(List.cons.inj h).1, tx_all (List.cons.inj h).2⟩
theorem GramIn.swap {F : Nat → Prop} {w : World} {vl vr : Value} {g g' : Lx.Gr} (h : GramIn F w vl vr g) (e : Lx.GrEq g g') : GramIn F w vl vr g' := by
  refine ⟨h.1.swap e.1 fun v x y hxy hx => ⟨?_, ?_⟩, h.2.swap e.2 fun v x y hxy hx => ⟨?_, ?_⟩⟩
  · show [Value.int .i64 (x.kind : Int), v] = [Value.int .i64 (y.kind : Int), v]
    rw [hxy.1]
  · refine Seq.swap hx (tx_all hxy.2) fun v t u htu _ => ⟨?_, trivial⟩
    show [Value.string t.1] = [Value.string u.1]
    rw [htu]
  · show [Value.string x.name, v] = [Value.string y.name, v]
    rw [hxy.1]
  · exact AltsIn.swap 9 hxy.2 hx
theorem GramIn.below {F : Nat → Prop} {w w' : World} {vl vr : Value} {g : Lx.Gr} (h : GramIn F w vl vr g) (hF : ∀ b, F b → b < w.heap.size) (hb : Below w.heap.size w w') : GramIn F w' vl vr g :=
  GramIn.move h (fun b hb' => hb.block b (hF b hb')) (fun _ h => h)
namespace Lx
/-- The plain form of a text. -/
def plainOf (s : ByteArray) : ByteArray := ⟨(formL noText (lex s)).toArray⟩
theorem plain_tx (s : ByteArray) : TX (lex s) (lex (plainOf s)) := (form_lex s).symm
theorem plain_again (s : ByteArray) : plainOf (plainOf s) = plainOf s := by
  have h : formL noText (lex (plainOf s)) = formL noText (lex s) := by rw [formL_B, formL_B, show (lex (plainOf s)).map Prod.fst = (lex s).map Prod.fst from form_lex s]
  exact congrArg (fun l : List UInt8 => (⟨l.toArray⟩ : ByteArray)) h
end Lx
theorem PrintEnds.okT {w w' : World} {s : ByteArray} {g : Lx.Gr} {e : Ending} (h : PrintEnds w s e w') (hr : Lx.parse s = .ok g) {T : ByteArray} (hT : T = Lx.plainOf s) : e = .returned (.tuple #[.string T, .int .i64 0, .int .i64 0]) ∧ Below w.heap.size w w' := by
  rw [hT]; exact h.ok hr
theorem PrintEnds.err {w w' : World} {s : ByteArray} {n a : Nat} {e : Ending} (h : PrintEnds w s e w') (hr : Lx.parse s = .error (n, a)) : e = .returned (.tuple #[.string ⟨#[]⟩, .int .i64 (n : Int), .int .i64 (a : Int)]) ∧ Below w.heap.size w w' := by
  unfold PrintEnds at h; rw [hr] at h; exact ⟨h.2, h.1⟩
set_option maxHeartbeats 4000000 in
set_option maxRecDepth 100000 in
theorem GramBack_any (s : ByteArray) (w : World) (hmax : s.size ≤ maxLen) : Calls Try.prog 5 #[.string s] w fun e w' => e = .returned (.bool true) ∧ Below w.heap.size w w' := by
  have P := Parse_any s w hmax
  have PP := fun w => Print_any s w hmax
  clear hmax
  go_enter Try.func5, Try.ntmps5
  go_wp2_with fail
  refine P.mono ?_
  intro e w1 he
  obtain ⟨hb1, ⟨g, vl, vr, hr, rfl, hg⟩ | ⟨n, a, hn, hr, rfl⟩⟩ := he.out
  · have HR : Hid (Lx.parse s = .ok g) := hr
    obtain ⟨T, hT⟩ : ∃ T, T = Lx.plainOf s := ⟨_, rfl⟩
    have HT : Hid (T = Lx.plainOf s) := hT
    clear he P hr hT
    obtain ⟨la, lc, rfl, -⟩ := Seq.len hg.1
    obtain ⟨ra, rc, rfl, -⟩ := Seq.len hg.2
    have kg := Blk.new w1 #[.slice la g.levels.length lc, .slice ra g.rules.length rc] 25
    have hbA := hb1.alloc hb1.size (.cells #[.slice la g.levels.length lc, .slice ra g.rules.length rc] 25)
    have hlA : (w1.alloc (.cells #[.slice la g.levels.length lc, .slice ra g.rules.length rc] 25)).heap.size = w1.heap.size + 1 := by simp
    have hgA : GramIn (In w.heap.size w1.heap.size) (w1.alloc (.cells #[.slice la g.levels.length lc, .slice ra g.rules.length rc] 25)) (.slice la g.levels.length lc) (.slice ra g.rules.length rc) g := GramIn.move hg (fun b hb => Below.heap_alloc _ _ _ hb.2) (fun _ h => h)
    go_wp2_with fail
    refine (PP _).mono ?_
    intro e w2 he
    obtain ⟨rfl, hb2⟩ := he.okT HR.out HT.out
    rw [hlA] at hb2
    have kg2 : Blk w2 w1.heap.size _ 25 := (hb2.block _ (by omega)).trans kg
    have hg2 := hgA.move (w' := w2) (fun b hb => hb2.block b (by have := hb.2; omega)) (fun _ h => h)
    have hs2 : w1.heap.size + 1 ≤ w2.heap.size := by have := hb2.size; omega
    have hbB : Below w.heap.size w w2 := hbA.trans (hb2.mono (by have := hb1.size; omega))
    have P := rparse_any s w2
    clear he kg hgA hbA hb2 hb1 hg
    go_wp2_with fail
    refine P.mono ?_
    intro e w3 he
    obtain ⟨hb3, ⟨g', vL, vR, sgx, hr', rfl, hg3⟩ | ⟨n, a, hr', rfl⟩⟩ := he.out
    case inr => rw [HR.out] at hr'; cases hr'
    obtain ⟨La, Lc, rfl, -⟩ := Seq.len hg3.1
    obtain ⟨Ra, Rc, rfl, -⟩ := Seq.len hg3.2
    have kg3 : Blk w3 w1.heap.size _ 25 := (hb3.block _ (by omega)).trans kg2
    have hg4 := hg2.move (w' := w3) (fun b hb => hb3.block b (by have := hb.2; omega)) (fun _ h => h)
    have hs3 : w1.heap.size + 1 ≤ w3.heap.size := by have := hb3.size; omega
    have hbC : Below w.heap.size w w3 := hbB.trans (hb3.mono (by have := hbB.size; omega))
    clear he P hr' hg3 kg2 hg2 hb3 hbB hs2
    have hbD := hbC.alloc hbC.size (.cells #[.slice La g'.levels.length Lc, .slice Ra g'.rules.length Rc] 32)
    have hlD : (w3.alloc (.cells #[.slice La g'.levels.length Lc, .slice Ra g'.rules.length Rc] 32)).heap.size = w3.heap.size + 1 := by simp
    have kg5 := kg3.alloc (.cells #[.slice La g'.levels.length Lc, .slice Ra g'.rules.length Rc] 32)
    have hg5 : GramIn (In w.heap.size w1.heap.size) (w3.alloc (.cells #[.slice La g'.levels.length Lc, .slice Ra g'.rules.length Rc] 32)) (.slice la g.levels.length lc) (.slice ra g.rules.length rc) g := GramIn.move hg4 (fun b hb => Below.heap_alloc _ _ _ (by have := hb.2; omega)) (fun _ h => h)
    clear kg3 hg4
    by_cases hlong : 2000 < T.size
    · clear kg5 hg5
      go_wp2_with (first
        | (go_at_call 12; refine (num_any _ _).mono ?_; rintro e w' ⟨rfl, hw'⟩; obtain rfl := hw'.symm)
        | (go_at_call 13; refine (alive_any _).mono ?_; rintro e w4 ⟨rfl, hb4⟩))
      go_ret
      exact ⟨rfl, hbD.trans (hb4.mono hbD.size)⟩
    · obtain ⟨g2, hr2, he2⟩ := Lx.parse_same HR.out (t := T) (by omega) (by rw [HT.out]; exact Lx.plain_tx s)
      have HR2 : Hid (Lx.parse T = .ok g2) := hr2
      have HT2 : Hid (T = Lx.plainOf T) := by show _ = _; rw [HT.out]; exact (Lx.plain_again s).symm
      have P := Parse_any T (w3.alloc (.cells #[.slice La g'.levels.length Lc, .slice Ra g'.rules.length Rc] 32)) (by unfold maxLen; omega)
      have PT := fun w => Print_any T w (by unfold maxLen; omega)
      have hg6 := hg5.swap he2
      have hl1 : g.levels.length = g2.levels.length := he2.1.len
      have hl2 : g.rules.length = g2.rules.length := he2.2.len
      rw [hl1, hl2] at hg6 kg5
      rw [hl1, hl2]
      have hlong' : T.size ≤ 2000 := by omega
      clear hr2 he2 hg5 hl1 hl2 PP hlong
      go_wp2_with (first
        | (go_at_call 12; refine (num_any _ _).mono ?_; rintro e w' ⟨rfl, hw'⟩; obtain rfl := hw'.symm))
      refine P.mono ?_
      intro e w4 he
      obtain ⟨hb4, ⟨g3, vl2, vr2, hr3, rfl, hh⟩ | ⟨n, a, hn, hr3, rfl⟩⟩ := he.out
      case inr => rw [HR2.out] at hr3; cases hr3
      rw [HR2.out] at hr3
      cases hr3
      rw [hlD] at hb4 hh
      obtain ⟨ka, kc, rfl, -⟩ := Seq.len hh.1
      obtain ⟨ja, jc, rfl, -⟩ := Seq.len hh.2
      have hs4 : w3.heap.size + 1 ≤ w4.heap.size := by have := hb4.size; omega
      have kg6 : Blk w4 w1.heap.size _ 25 := (hb4.block _ (by omega)).trans kg5
      have hg7 := hg6.move (w' := w4) (fun b hb => hb4.block b (by have := hb.2; omega)) (fun _ h => h)
      have hbE : Below w.heap.size w w4 := hbD.trans (hb4.mono (by have := hbD.size; omega))
      have kh := Blk.new w4 #[.slice ka g2.levels.length kc, .slice ja g2.rules.length jc] 25
      have kg8 := kg6.alloc (.cells #[.slice ka g2.levels.length kc, .slice ja g2.rules.length jc] 25)
      have hlF : (w4.alloc (.cells #[.slice ka g2.levels.length kc, .slice ja g2.rules.length jc] 25)).heap.size = w4.heap.size + 1 := by simp
      have hbF := hbE.alloc hbE.size (.cells #[.slice ka g2.levels.length kc, .slice ja g2.rules.length jc] 25)
      have hg8 : GramIn (In w.heap.size w1.heap.size) (w4.alloc (.cells #[.slice ka g2.levels.length kc, .slice ja g2.rules.length jc] 25)) (.slice la g2.levels.length lc) (.slice ra g2.rules.length rc) g2 := GramIn.move hg7 (fun b hb => Below.heap_alloc _ _ _ (by have := hb.2; omega)) (fun _ h => h)
      have hh8 : GramIn (In (w3.heap.size + 1) w4.heap.size) (w4.alloc (.cells #[.slice ka g2.levels.length kc, .slice ja g2.rules.length jc] 25)) (.slice ka g2.levels.length kc) (.slice ja g2.rules.length jc) g2 := GramIn.move hh (fun b hb => Below.heap_alloc _ _ _ hb.2) (fun _ h => h)
      clear he P hb4 kg5 kg6 hg6 hg7 hh hbE
      go_wp2_with fail
      refine (PT _).mono ?_
      intro e w5 he
      obtain ⟨rfl, hb5⟩ := he.okT HR2.out HT2.out
      rw [hlF] at hb5
      have kgX : Blk w5 w1.heap.size _ 25 := (hb5.block _ (by omega)).trans kg8
      have khX : Blk w5 w4.heap.size _ 25 := (hb5.block _ (by omega)).trans kh
      have hgX := hg8.move (w' := w5) (fun b hb => hb5.block b (by have := hb.2; omega)) (fun _ h => h)
      have hhX := hh8.move (w' := w5) (fun b hb => hb5.block b (by have := hb.2; omega)) (fun _ h => h)
      have hs5 : w4.heap.size + 1 ≤ w5.heap.size := by have := hb5.size; omega
      have hbG : Below w.heap.size w w5 := hbF.trans (hb5.mono (by have := hbF.size; omega))
      have x0 : w5.cell? ⟨w1.heap.size, 0, none⟩ = some (.slice la g2.levels.length lc) := kgX.cell 0
      have x1 : w5.cell? ⟨w1.heap.size, 1, none⟩ = some (.slice ra g2.rules.length rc) := kgX.cell 1
      have y0 : w5.cell? ⟨w4.heap.size, 0, none⟩ = some (.slice ka g2.levels.length kc) := khX.cell 0
      have y1 : w5.cell? ⟨w4.heap.size, 1, none⟩ = some (.slice ja g2.rules.length jc) := khX.cell 1
      clear he PT hb5 kg8 kh hg8 hh8 hbF
      have RE := rules_equal _ _ w5 _ _ _ (fun b hb => by have := hb.2; omega) (fun b hb => by have := hb.2; omega) hgX.2 hhX.2
      go_wp2_with fail
      refine RE.mono ?_
      rintro e w6 ⟨rfl, hb6⟩
      have kgY : Blk w6 w1.heap.size _ 25 := (hb6.block _ (by omega)).trans kgX
      have khY : Blk w6 w4.heap.size _ 25 := (hb6.block _ (by omega)).trans khX
      have hgY := hgX.move (w' := w6) (fun b hb => hb6.block b (by have := hb.2; omega)) (fun _ h => h)
      have hhY := hhX.move (w' := w6) (fun b hb => hb6.block b (by have := hb.2; omega)) (fun _ h => h)
      have hs6 : w4.heap.size + 1 ≤ w6.heap.size := by have := hb6.size; omega
      have hbH : Below w.heap.size w w6 := hbG.trans (hb6.mono hbG.size)
      have x0' : w6.cell? ⟨w1.heap.size, 0, none⟩ = some (.slice la g2.levels.length lc) := kgY.cell 0
      have y0' : w6.cell? ⟨w4.heap.size, 0, none⟩ = some (.slice ka g2.levels.length kc) := khY.cell 0
      clear RE hb6 kgX khX hgX hhX x0 x1 y0 y1 kgY khY
      have LE := levels_equal _ _ w6 _ _ _ (fun b hb => by have := hb.2; omega) (fun b hb => by have := hb.2; omega) hgY.1 hhY.1
      go_wp2_with fail
      refine LE.mono ?_
      rintro e w7 ⟨rfl, hb7⟩
      have hbI : Below w.heap.size w w7 := hbH.trans (hb7.mono hbH.size)
      clear LE hb7 hgY hhY
      go_wp2_with (first
        | (go_at_call 12; refine (num_any _ _).mono ?_; rintro e w' ⟨rfl, hw'⟩; obtain rfl := hw'.symm)
        | (go_at_call 13; refine (alive_any _).mono ?_; rintro e w8 ⟨rfl, hb8⟩))
      go_ret
      exact ⟨rfl, hbI.trans (hb8.mono hbI.size)⟩
  · have HR : Hid (Lx.parse s = .error (n, a)) := hr
    clear he P hr
    have kg := Blk.new w1 #[.slice none 0 0, .slice none 0 0] 25
    have hbA := hb1.alloc hb1.size (.cells #[.slice none 0 0, .slice none 0 0] 25)
    have hlA : (w1.alloc (.cells #[.slice none 0 0, .slice none 0 0] 25)).heap.size = w1.heap.size + 1 := by simp
    go_wp2_with fail
    refine (PP _).mono ?_
    intro e w2 he
    obtain ⟨rfl, hb2⟩ := he.err HR.out
    rw [hlA] at hb2
    have kg2 : Blk w2 w1.heap.size _ 25 := (hb2.block _ (by omega)).trans kg
    have hs2 : w1.heap.size + 1 ≤ w2.heap.size := by have := hb2.size; omega
    have hbB : Below w.heap.size w w2 := hbA.trans (hb2.mono (by have := hb1.size; omega))
    have P := rparse_any s w2
    clear he kg hbA hb2 hb1
    go_wp2_with fail
    refine P.mono ?_
    intro e w3 he
    obtain ⟨hb3, ⟨g', vL, vR, sgx, hr', rfl, hg3⟩ | ⟨n', a', hr', rfl⟩⟩ := he.out
    case inl => rw [HR.out] at hr'; cases hr'
    rw [HR.out] at hr'
    cases hr'
    have kg3 : Blk w3 w1.heap.size _ 25 := (hb3.block _ (by omega)).trans kg2
    have hs3 : w1.heap.size < w3.heap.size := by have := hb3.size; omega
    have hbC : Below w.heap.size w w3 := hbB.trans (hb3.mono (by have := hbB.size; omega))
    have hbD := hbC.alloc hbC.size (.cells #[.slice none 0 0, .slice none 0 0] 32)
    have x0 : w3.cell? ⟨w1.heap.size, 0, none⟩ = some (.slice none 0 0) := kg3.cell 0
    have x1 : w3.cell? ⟨w1.heap.size, 1, none⟩ = some (.slice none 0 0) := kg3.cell 1
    have hn0 : ((n : Int) == 0) = false := beq_eq_false_iff_ne.2 (by omega)
    have q23 : ∀ w, (binOp .eql 23 (.slice none 0 0) (.slice none 0 0)).run Try.prog w = .ok (.bool true) w := fun w => run_eql_nil_slice w 23 55 none 0 0 0 0 Try.underlying23
    have q22 : ∀ w, (binOp .eql 22 (.slice none 0 0) (.slice none 0 0)).run Try.prog w = .ok (.bool true) w := fun w => run_eql_nil_slice w 22 57 none 0 0 0 0 Try.underlying22
    clear he P kg2 kg3 hb3 hbB
    go_wp2_with (first
      | (go_at_call 12; refine (num_any _ _).mono ?_; rintro e w' ⟨rfl, hw'⟩; obtain rfl := hw'.symm)
      | (go_at_call 13; refine (alive_any _).mono ?_; rintro e w4 ⟨rfl, hb4⟩))
    go_ret
    exact ⟨rfl, hbD.trans (hb4.mono hbD.size)⟩
end Go.Proofs.Ytonkcljapkeidaa

import Derived.Test.YtonkcljapkeidaaN3
namespace Go.Proofs.Ytonkcljapkeidaa
open Go Go.RowKit
namespace Lx
section
variable (φ : Nat → Nat)
def TF (ts us : List Tk) : Prop := WF ts ∧ us = ts.map (fun t => (t.1, φ t.2))
def RelF {α : Type} : Res α → Res α → Prop
  | .ok (_, ts), .ok (_, us) => TF φ ts us
  | .error e, .error f => f.1 = e.1 ∧ f.2 = φ e.2
  | _, _ => False
variable {φ}
theorem TF.hd {ts us : List Tk} (h : TF φ ts us) : hd us = hd ts := by
  obtain ⟨hw, rfl⟩ := h
  cases ts with
  | nil => exact hw.elim
  | cons t r => rfl
theorem TF.pl {ts us : List Tk} (h : TF φ ts us) : pl us = φ (pl ts) := by
  obtain ⟨hw, rfl⟩ := h
  cases ts with
  | nil => exact hw.elim
  | cons t r => rfl
theorem TF.tail {ts us : List Tk} (h : TF φ ts us) (hn : Lx.hd ts ≠ noText) : TF φ ts.tail us.tail := by
  obtain ⟨hw, rfl⟩ := h
  exact ⟨hw.tail hn, by cases ts <;> rfl⟩
theorem TF.len {ts us : List Tk} (h : TF φ ts us) : ts.length = us.length := by rw [h.2]; simp
theorem RelF.on {α β : Type} {r r' : Res α} (h : RelF φ r r') (f g : α → List Tk → Res β) (hk : ∀ x y ts us, TF φ ts us → RelF φ (f x ts) (g y us)) : RelF φ (bnd r f) (bnd r' g) := by
  cases r with
  | error e => cases r' with
    | error f => exact h
    | ok y => exact h.elim
  | ok x => cases r' with
    | error f => exact h.elim
    | ok y => exact hk _ _ _ _ h
theorem pWord_f {p : ByteArray → Bool} (hp : p noText = false) {ts us : List Tk} (h : TF φ ts us) : RelF φ (pWord p ts) (pWord p us) := by
  unfold pWord
  rw [h.hd]
  split
  · rename_i hk
    exact h.tail (fun e => by rw [e, hp] at hk; cases hk)
  · exact ⟨rfl, h.pl⟩
theorem pMust_f {b : ByteArray} (hb : b ≠ noText) {ts us : List Tk} (h : TF φ ts us) : RelF φ (pMust b ts) (pMust b us) := by
  unfold pMust
  rw [h.hd]
  split
  · rename_i hk
    exact h.tail (fun e => hb (hk.symm.trans e))
  · exact ⟨rfl, h.pl⟩
theorem pMark_f {ts us : List Tk} (h : TF φ ts us) : TF φ (pMark ts).2 (pMark us).2 := by
  unfold pMark
  rw [h.hd]
  split
  · rename_i hk; exact h.tail (fun e => absurd (hk.symm.trans e) (by decide))
  · split
    · rename_i hk; exact h.tail (fun e => absurd (hk.symm.trans e) (by decide))
    · split
      · rename_i hk; exact h.tail (fun e => absurd (hk.symm.trans e) (by decide))
      · exact h
def GrpF (φ : Nat → Nat) (grp : List Tk → Res (List Alt)) : Prop := ∀ ts us, TF φ ts us → Lx.hd ts = tOpen → RelF φ (grp ts) (grp us)
theorem pItem_f {grp : List Tk → Res (List Alt)} (hg : GrpF φ grp) {ts us : List Tk} (h : TF φ ts us) : RelF φ (pItem grp ts) (pItem grp us) := by
  rw [pItem_eq, pItem_eq, h.hd]
  split
  · rename_i ho
    exact RelF.on (hg _ _ h ho) _ _ fun x y t u ht => pMark_f ht
  · split
    · rename_i hk; exact pMark_f (h.tail (fun e => by rw [e] at hk; exact absurd hk (by decide)))
    · split
      · rename_i hk; exact pMark_f (h.tail (fun e => by rw [e] at hk; exact absurd hk (by decide)))
      · exact ⟨rfl, h.pl⟩
theorem pItems_f {grp : List Tk → Res (List Alt)} (hg : GrpF φ grp) : ∀ (f : Nat) {ts us : List Tk} (a b : List It), TF φ ts us → RelF φ (pItems grp f ts a) (pItems grp f us b)
  | 0, ts, us, a, b, h => h
  | f + 1, ts, us, a, b, h => by
    rw [pItems_eq, pItems_eq, show seesItem us = seesItem ts by unfold seesItem; rw [h.hd]]
    split
    · exact RelF.on (pItem_f hg h) _ _ fun x y t u ht => pItems_f hg f _ _ ht
    · exact h
theorem pPrec_f (top : Bool) (a b : List It) {ts us : List Tk} (h : TF φ ts us) : RelF φ (pPrec top a ts) (pPrec top b us) := by
  rw [pPrec_eq, pPrec_eq, h.hd]
  split
  · rename_i hk
    exact RelF.on (pWord_f (by decide) (h.tail (fun e => absurd (hk.2.symm.trans e) (by decide)))) _ _ fun x y t u ht => ht
  · exact h
theorem pAlt_f {grp : List Tk → Res (List Alt)} (hg : GrpF φ grp) (top : Bool) {ts us : List Tk} (h : TF φ ts us) : RelF φ (pAlt grp top ts) (pAlt grp top us) := by
  rw [pAlt_eq, pAlt_eq, h.len]
  exact RelF.on (pItems_f hg us.length [] [] h) _ _ fun x y t u ht => pPrec_f top _ _ ht
theorem pMore_f {grp : List Tk → Res (List Alt)} (hg : GrpF φ grp) (top : Bool) : ∀ (f : Nat) {ts us : List Tk} (a b : List Alt), TF φ ts us → RelF φ (pMore grp top f ts a) (pMore grp top f us b)
  | 0, ts, us, a, b, h => h
  | f + 1, ts, us, a, b, h => by
    rw [pMore_eq, pMore_eq, h.hd]
    split
    · rename_i hk
      exact RelF.on (pAlt_f hg top (h.tail (fun e => absurd (hk.symm.trans e) (by decide)))) _ _ fun x y t u ht => pMore_f hg top f _ _ ht
    · exact h
theorem pAltsBy_f {grp : List Tk → Res (List Alt)} (hg : GrpF φ grp) (top : Bool) {ts us : List Tk} (h : TF φ ts us) : RelF φ (pAltsBy grp top ts) (pAltsBy grp top us) := by
  rw [pAltsBy_eq, pAltsBy_eq]
  refine RelF.on (pAlt_f hg top h) _ _ fun x y t u ht => ?_
  rw [ht.len]
  exact pMore_f hg top u.length _ _ ht
theorem pGroup_f {r : List Tk → Res (List Alt)} (hr : ∀ ts us, TF φ ts us → RelF φ (r ts) (r us)) : GrpF φ (pGroup r) := fun ts us h ho => by
  rw [pGroup_eq, pGroup_eq]
  refine RelF.on (hr _ _ (h.tail (fun e => absurd (ho.symm.trans e) (by decide)))) _ _ fun x y t u ht => ?_
  exact RelF.on (pMust_f (by decide) ht) _ _ fun _ _ t u ht => ht
theorem pAlts_f : ∀ (d : Nat) (ts us : List Tk), TF φ ts us → RelF φ (pAlts d ts) (pAlts d us)
  | 0, _, _, h => pAltsBy_f (grp := fun ts => .error (3, Lx.pl ts)) (fun _ _ h _ => ⟨rfl, h.pl⟩) false h
  | d + 1, _, _, h => pAltsBy_f (pGroup_f (pAlts_f d)) (d == 7) h
theorem pRule_f {ts us : List Tk} (h : TF φ ts us) : RelF φ (pRule ts) (pRule us) := by
  rw [pRule_eq, pRule_eq]
  refine RelF.on (pWord_f (by decide) h) _ _ fun n m t1 u1 h1 => ?_
  refine RelF.on (pMust_f (by decide) h1) _ _ fun _ _ t2 u2 h2 => ?_
  refine RelF.on (pAlts_f 8 _ _ h2) _ _ fun x y t3 u3 h3 => ?_
  exact RelF.on (pMust_f (by decide) h3) _ _ fun _ _ t4 u4 h4 => h4
theorem pRules_f : ∀ (f : Nat) {ts us : List Tk} (a b : List Rl), TF φ ts us → RelF φ (pRules f ts a) (pRules f us b)
  | 0, ts, us, a, b, h => h
  | f + 1, ts, us, a, b, h => by
    rw [pRules_eq, pRules_eq, h.hd]
    split
    · exact h
    · exact RelF.on (pRule_f h) _ _ fun x y t u ht => pRules_f f _ _ ht
theorem pTokens_f : ∀ (f : Nat) {ts us : List Tk} (a b : List Tk), TF φ ts us → RelF φ (pTokens f ts a) (pTokens f us b)
  | 0, ts, us, a, b, h => h
  | f + 1, ts, us, a, b, h => by
    rw [pTokens_eq, pTokens_eq, h.hd]
    split
    · rename_i hk; exact h.tail (fun e => absurd (hk.symm.trans e) (by decide))
    · exact RelF.on (pWord_f (by decide) h) _ _ fun x y t u ht => pTokens_f f _ _ ht
theorem pLevel_f {ts us : List Tk} (h : TF φ ts us) (hn : Lx.hd ts ≠ noText) : RelF φ (pLevel ts) (pLevel us) := by
  rw [pLevel_eq, pLevel_eq]
  refine RelF.on (pWord_f (by decide) (h.tail hn)) _ _ fun n m t1 u1 h1 => ?_
  rw [h1.len]
  exact RelF.on (pTokens_f u1.length _ _ h1) _ _ fun x y t2 u2 h2 => h2
theorem pLevels_f : ∀ (f : Nat) {ts us : List Tk} (a b : List Lv), TF φ ts us → RelF φ (pLevels f ts a) (pLevels f us b)
  | 0, ts, us, a, b, h => h
  | f + 1, ts, us, a, b, h => by
    rw [pLevels_eq, pLevels_eq, h.hd]
    split
    · rename_i hk
      exact RelF.on (pLevel_f h (fun e => by rw [e] at hk; exact absurd hk (by decide))) _ _ fun x y t u ht => pLevels_f f _ _ ht
    · exact h
theorem pGrammar_f {ts us : List Tk} (h : TF φ ts us) : RelF φ (pGrammar ts) (pGrammar us) := by
  rw [pGrammar_bnd, pGrammar_bnd, h.len]
  refine RelF.on (pLevels_f us.length [] [] h) _ _ fun lv lw t1 u1 h1 => ?_
  refine RelF.on (pRule_f h1) _ _ fun x y t2 u2 h2 => ?_
  rw [h2.len]
  exact RelF.on (pRules_f u2.length _ _ h2) _ _ fun l m t3 u3 h3 => h3
end
theorem lexTo_pl (s : ByteArray) : ∀ (f i : Nat), i ≤ s.size → ∀ t ∈ lexTo s f i, t.2 ≤ s.size
  | 0, i, hi, t, ht => by
    simp only [lexTo, List.mem_singleton] at ht; subst ht; exact hi
  | f + 1, i, hi, t, ht => by
    simp only [lexTo] at ht
    split at ht
    · rename_i h
      rcases List.mem_cons.1 ht with rfl | ht
      · exact hi
      · exact lexTo_pl s f _ (nextAt_bd h).2 t ht
    · simp only [List.mem_singleton] at ht; subst ht; exact hi
/-- An error stands within its text. -/
theorem parse_place {s : ByteArray} {n a : Nat} (h : parse s = .error (n, a)) (hs : s.size ≤ 2000) : a ≤ s.size := by
  rw [parse_short hs] at h
  have hpl : ∀ t ∈ lex s, t.2 ≤ s.size := lexTo_pl s _ _ (gapEnd_bd false (Nat.zero_le _)).2
  have hmap : (lex s).map (fun t : Tk => (t.1, min t.2 s.size)) = lex s := by
    have : ∀ l : List Tk, (∀ t ∈ l, t.2 ≤ s.size) → l.map (fun t : Tk => (t.1, min t.2 s.size)) = l := by
      intro l hl
      induction l with
      | nil => rfl
      | cons t r ih =>
        rw [List.map_cons, ih (fun u hu => hl u (by simp [hu])), Nat.min_eq_left (hl t (by simp))]
    exact this _ hpl
  have hrel := pGrammar_f (φ := fun p => min p s.size) (ts := lex s) ⟨lex_wf s, rfl⟩
  rw [hmap] at hrel
  cases hq : pGrammar (lex s) with
  | ok y => rw [hq] at h; cases h
  | error x =>
    rw [hq] at h hrel
    cases h
    have h2 : a = min a s.size := hrel.2
    omega
end Lx
end Go.Proofs.Ytonkcljapkeidaa
namespace Go.Proofs.Ytonkcljapkeidaa
open Go.RowKit
open Lx (Tk)
open Tr
namespace Lx
theorem pRules_cnt : ∀ (f : Nat) (ts : List Tk) (a l : List Rl) (ts' : List Tk), pRules f ts a = .ok (l, ts') → a.length ≤ l.length ∧ l.length + ts'.length ≤ a.length + ts.length
  | 0, ts, a, l, ts', h => by cases h; exact ⟨Nat.le_refl _, Nat.le_refl _⟩
  | f + 1, ts, a, l, ts', h => by
    rw [pRules_eq] at h
    split at h
    · cases h; exact ⟨Nat.le_refl _, Nat.le_refl _⟩
    · rename_i h0
      obtain ⟨x, t1, h1, h2⟩ := bnd_ok h
      have := pRules_cnt f _ _ _ _ h2
      have h3 := pRule_len h1
      have h4 := hd_ne_nil h0
      simp only [List.length_append, List.length_cons, List.length_nil] at this
      omega
theorem parse_rules {s : ByteArray} {g : Gr} (h : parse s = .ok g) : 0 < g.rules.length ∧ g.rules.length ≤ 2001 := by
  obtain ⟨hs, ts', hp⟩ := parse_ok h
  have hl := lex_len s
  rw [pGrammar_bnd] at hp
  obtain ⟨lv, t1, h1, h2⟩ := bnd_ok hp
  obtain ⟨x, t2, h3, h4⟩ := bnd_ok h2
  obtain ⟨l, t3, h5, h6⟩ := bnd_ok h4
  cases h6
  have c := pRules_cnt _ _ _ _ _ h5
  have l1 := (pLevels_sf _ _ _ _ _ h1).length_le
  have l2 := pRule_len h3
  have l3 := tail_le t1
  simp only [List.length_cons, List.length_nil] at c
  have : t1.tail.length + 1 ≤ t1.length := by
    cases t1 with
    | nil =>
      rw [pRule_eq] at h3
      obtain ⟨n, t4, h7, _⟩ := bnd_ok h3
      exact absurd (pWord_len h7).2.2 (by decide)
    | cons a b => simp
  show 0 < l.length ∧ l.length ≤ 2001
  omega
theorem parse_levels {s : ByteArray} {g : Gr} (h : parse s = .ok g) (hk : 0 ≤ levelKind (hd (lex s))) : 0 < g.levels.length := by
  obtain ⟨hs, ts', hp⟩ := parse_ok h
  rw [pGrammar_bnd] at hp
  obtain ⟨lv, t1, h1, h2⟩ := bnd_ok hp
  obtain ⟨x, t2, h3, h4⟩ := bnd_ok h2
  obtain ⟨l, t3, h5, h6⟩ := bnd_ok h4
  cases h6
  exact levels_pos h1 hk
theorem lex_place (s : ByteArray) : (hd (lex s) = noText → pl (lex s) = s.size) ∧ (hd (lex s) ≠ noText → pl (lex s) < s.size) := by
  have hb := gapEnd_bd (s := s) (i := 0) false (Nat.zero_le _)
  have hp : pl (lex s) = gapEnd s 0 false := pl_lexAt hb.2
  rw [hp]
  constructor
  · intro h
    rcases Nat.lt_or_ge (gapEnd s 0 false) s.size with h' | h'
    · have hse := signEnd_bd h'
      have h1 : hd (lex s) = s.extract (gapEnd s 0 false) (signEnd s (gapEnd s 0 false)) := hd_lexAt h'
      have := congrArg ByteArray.size (h1.symm.trans h)
      rw [ByteArray.size_extract] at this
      have h0 : (noText).size = 0 := rfl
      omega
    · omega
  · intro h
    rcases Nat.lt_or_ge (gapEnd s 0 false) s.size with h' | h'
    · exact h'
    · exfalso; apply h
      unfold lex
      rw [lexAt_done h']; rfl
end Lx
/-- What Parse answers, with what it means. -/
def PS (s : ByteArray) (n a : Nat) (g : Lx.Gr) (vl vr : Value) : Prop := (Lx.parse s = .ok g ∧ n = 0 ∧ a = 0) ∨ (Lx.parse s = .error (n, a) ∧ 0 < n ∧ g = ⟨[], []⟩ ∧ vl = .slice none 0 0 ∧ vr = .slice none 0 0)
theorem ParseEnds.two {s : ByteArray} {w w1 : World} {e : Ending} (h : ParseEnds w s e w1) : ∃ vl vr, ∃ n a : Nat, e = .returned (.tuple #[.agg #[vl, vr], .int .i64 (n : Int), .int .i64 (a : Int)]) ∧ Below w.heap.size w w1 ∧
    ∃ g, GramIn (In w.heap.size w1.heap.size) w1 vl vr g ∧ Hid (PS s n a g vl vr) ∧ ∀ (w2 w3 : World) (e' : Ending), RParseEnds s w2 e' w3 → ∃ vL vR F', e' = .returned (.tuple #[.agg #[vL, vR], .int .i64 (n : Int), .int .i64 (a : Int)]) ∧ Below w2.heap.size w2 w3 ∧ RG F' w3 vL vR g ∧ ∀ b, F' b → b < w3.heap.size := by
  obtain ⟨hb, ⟨g, vl, vr, hr, rfl, hg⟩ | ⟨n, a, hn, hr, rfl⟩⟩ := h.out
  · refine ⟨vl, vr, 0, 0, rfl, hb, g, hg, .inl ⟨hr, rfl, rfl⟩, fun w2 w3 e' h' => ?_⟩
    obtain ⟨hb', ⟨g', vL, vR, sgx, hr', rfl, hg'⟩ | ⟨n, a, hr', rfl⟩⟩ := h'.out
    · rw [hr] at hr'; cases hr'
      exact ⟨vL, vR, _, rfl, hb', hg', fun b hF => hF.2.1⟩
    · rw [hr] at hr'; cases hr'
  · refine ⟨_, _, n, a, rfl, hb, ⟨[], []⟩, GramIn.nil _ _, .inr ⟨hr, hn, rfl, rfl, rfl⟩, fun w2 w3 e' h' => ?_⟩
    obtain ⟨hb', ⟨g', vL, vR, sgx, hr', rfl, hg'⟩ | ⟨n', a', hr', rfl⟩⟩ := h'.out
    · rw [hr] at hr'; cases hr'
    · rw [hr] at hr'; cases hr'
      exact ⟨_, _, fun _ => False, rfl, hb', RG.nil _ _, fun b hF => hF.elim⟩
theorem AltsIn.moveT {F : Nat → Prop} {w w' : World} (hs : ∀ (b : Nat) (cs : Array Value) (e : Nat), e ≠ 55 → w.heap[b]? = some (Obj.cells cs e (0, 0)) → w'.heap[b]? = w.heap[b]?) : ∀ (d : Nat) {v : Value} {l : List Lx.Alt}, AltsIn YP d F w v l → AltsIn YP d F w' v l
  | 0, _, _, h => h
  | d + 1, v, l, h => by
    have key : ∀ {e s : Nat} {v : Value} {n : Nat} {xs : List Value}, e ≠ 55 → w.ownsRow 0 e s v n xs → w'.ownsRow 0 e s v n xs := fun he ho => by
      refine own_move ho fun g hg => ?_
      rcases ho.2 with ⟨hv, _⟩ | ⟨g', cap, cur, hv, _, hh, _⟩
      · rw [hv] at hg; cases hg
      · rw [hv] at hg; cases hg
        exact hs _ _ _ he hh
    obtain ⟨ps, h1, h2, h3, h4⟩ := h
    refine ⟨ps, h1, key (by decide) h2, h3, fun q hq => ?_⟩
    obtain ⟨pt, k1, k2, k3, k4⟩ := h4 q hq
    exact ⟨pt, k1, key (by decide) k2, k3, fun r hr => AltsIn.moveT hs d (k4 r hr)⟩
end Go.Proofs.Ytonkcljapkeidaa
namespace Go.Proofs.Ytonkcljapkeidaa
open Go.RowKit
open Lx (Tk)
open Tr
theorem grown_typed {w w' : World} {v : Value} {n : Nat} {xs : List Value} (own : w.ownsRow 0 55 2 v n xs) (hg : w.grownBy w' v.ownBlock) : ∀ (b : Nat) (cs : Array Value) (e : Nat), e ≠ 55 → w.heap[b]? = some (Obj.cells cs e (0, 0)) → w'.heap[b]? = w.heap[b]? := fun b cs e he hb => by
  have hlt : b < w.heap.size := (Array.getElem?_eq_some_iff.1 hb).1
  refine hg.block b hlt fun e0 => ?_
  rcases own.2 with ⟨hv, _⟩ | ⟨g, cap, cur, hv, _, hh, _⟩
  · rw [hv] at e0; cases e0
  · rw [hv] at e0; cases e0
    have hq := hb.symm.trans hh
    simp only [Option.some.injEq, Obj.cells.injEq] at hq
    exact he hq.2.1
theorem own_typed {w w' : World} (hs : ∀ (b : Nat) (cs : Array Value) (e : Nat), e ≠ 55 → w.heap[b]? = some (Obj.cells cs e (0, 0)) → w'.heap[b]? = w.heap[b]?) {e s : Nat} {v : Value} {n : Nat} {xs : List Value} (he : e ≠ 55) (ho : w.ownsRow 0 e s v n xs) : w'.ownsRow 0 e s v n xs := by
  refine own_move ho fun g hg => ?_
  rcases ho.2 with ⟨hv, _⟩ | ⟨g', cap, cur, hv, _, hh, _⟩
  · rw [hv] at hg; cases hg
  · rw [hv] at hg; cases hg
    exact hs _ _ _ he hh
theorem levels_moveT {F : Nat → Prop} {w w' : World} (hs : ∀ (b : Nat) (cs : Array Value) (e : Nat), e ≠ 55 → w.heap[b]? = some (Obj.cells cs e (0, 0)) → w'.heap[b]? = w.heap[b]?) {v : Value} {l : List Lx.Lv} (h : Tr.Seq F w 57 2 cL (KL F w) v l) : Tr.Seq F w' 57 2 cL (KL F w') v l := by
  obtain ⟨ps, h1, h2, h3, h4⟩ := h
  refine ⟨ps, h1, own_typed hs (by decide) h2, h3, fun q hq => ?_⟩
  obtain ⟨pt, k1, k2, k3, k4⟩ := h4 q hq
  exact ⟨pt, k1, own_typed hs (by decide) k2, k3, k4⟩
namespace Lx
theorem All2.app {α : Type} {R : α → α → Prop} : ∀ {a b c d : List α}, All2 R a b → All2 R c d → All2 R (a ++ c) (b ++ d)
  | [], [], _, _, _, h => h
  | _ :: _, _ :: _, _, _, h, h' => ⟨h.1, All2.app h.2 h'⟩
  | [], _ :: _, _, _, h, _ => h.elim
  | _ :: _, [], _, _, h, _ => h.elim
theorem All2.refl {α : Type} {R : α → α → Prop} (hR : ∀ x, R x x) : ∀ a : List α, All2 R a a
  | [] => trivial
  | x :: l => ⟨hR x, All2.refl hR l⟩
theorem All2.weak {α : Type} {R S : α → α → Prop} (hR : ∀ x y, R x y → S x y) : ∀ {a b : List α}, All2 R a b → All2 S a b
  | [], [], _ => trivial
  | _ :: _, _ :: _, h => ⟨hR _ _ h.1, All2.weak hR h.2⟩
  | [], _ :: _, h => h.elim
  | _ :: _, [], h => h.elim
end Lx
theorem rules_swapQ {F : Nat → Prop} {w : World} {v : Value} {l m : List Lx.Rl} (h : Tr.Seq F w 55 2 cR (KR F w) v l) (ha : Lx.All2 (fun r s => r = s ∨ Lx.RlEq r s) l m) : Tr.Seq F w 55 2 cR (KR F w) v m := by
  refine h.swap ha fun v x y hxy hx => ?_
  rcases hxy with rfl | hxy
  · exact ⟨rfl, hx⟩
  · refine ⟨?_, AltsIn.swap 9 hxy.2 hx⟩
    show [Value.string x.name, v] = [Value.string y.name, v]
    rw [hxy.1]
set_option maxHeartbeats 8000000 in
set_option maxRecDepth 100000 in
theorem GramJoined_any (o t : ByteArray) (w : World) (ho : o.size ≤ 140737488355328) (ht : t.size ≤ 140737488355328) : Calls Try.prog 6 #[.string o, .string t] w fun e w' => e = .returned (.bool true) ∧ Below w.heap.size w w' := by
  obtain ⟨J, hJ⟩ : ∃ J, J = (o ++ ⟨#[10]⟩) ++ t := ⟨_, rfl⟩
  have HJ : Hid (Lx.bytes J = Lx.bytes o ++ 10 :: Lx.bytes t) := by
    show _ = _
    rw [hJ]
    simp only [Lx.bytes, ByteArray.data_append, Array.toList_append]
    simp
  have hJs : J.size = o.size + 1 + t.size := by
    rw [hJ, ByteArray.size_append, ByteArray.size_append]; rfl
  have hJ' : (o ++ ⟨#[10]⟩) ++ t = J := hJ.symm
  clear hJ
  go_enter Try.func6, Try.ntmps6
  go_wp2_with fail
  refine (Parse_any o _ (by unfold maxLen; omega)).mono ?_
  intro e w1 he
  obtain ⟨vl1, vr1, n1, a1, rfl, hb1, g1, hg1, HP1, hR1⟩ := he.two
  clear he
  obtain ⟨la1, lc1, rfl, -⟩ := Seq.len hg1.1
  obtain ⟨ra1, rc1, rfl, -⟩ := Seq.len hg1.2
  have k1 := Blk.new w1 #[.slice la1 g1.levels.length lc1, .slice ra1 g1.rules.length rc1] 25
  have B1 := hb1.alloc hb1.size (.cells #[.slice la1 g1.levels.length lc1, .slice ra1 g1.rules.length rc1] 25)
  have G1 : GramIn (In w.heap.size w1.heap.size) (w1.alloc (.cells #[.slice la1 g1.levels.length lc1, .slice ra1 g1.rules.length rc1] 25)) (.slice la1 g1.levels.length lc1) (.slice ra1 g1.rules.length rc1) g1 := GramIn.move hg1 (fun b hb => Below.heap_alloc _ _ _ hb.2) (fun _ h => h)
  have z1 : (w1.alloc (.cells #[.slice la1 g1.levels.length lc1, .slice ra1 g1.rules.length rc1] 25)).heap.size = w1.heap.size + 1 := by simp
  clear hg1 hb1
  go_wp2_with fail
  generalize w1.alloc (.cells #[.slice la1 g1.levels.length lc1, .slice ra1 g1.rules.length rc1] 25) = wa at *
  refine (Parse_any t _ (by unfold maxLen; omega)).mono ?_
  intro e w2 he
  obtain ⟨vl2, vr2, n2, a2, rfl, hb2, g2, hg2, HP2, hR2⟩ := he.two
  clear he
  obtain ⟨la2, lc2, rfl, -⟩ := Seq.len hg2.1
  obtain ⟨ra2, rc2, rfl, -⟩ := Seq.len hg2.2
  have s2 := hb2.size
  have k1b : Blk (w2.alloc (.cells #[.slice la2 g2.levels.length lc2, .slice ra2 g2.rules.length rc2] 25)) w1.heap.size _ 25 := Blk.alloc ((hb2.block _ (by omega)).trans k1) _
  have k2 := Blk.new w2 #[.slice la2 g2.levels.length lc2, .slice ra2 g2.rules.length rc2] 25
  have B2 := (B1.trans (hb2.mono B1.size)).alloc (by have := B1.size; omega) (.cells #[.slice la2 g2.levels.length lc2, .slice ra2 g2.rules.length rc2] 25)
  have G1b : GramIn (In w.heap.size w1.heap.size) (w2.alloc (.cells #[.slice la2 g2.levels.length lc2, .slice ra2 g2.rules.length rc2] 25)) (.slice la1 g1.levels.length lc1) (.slice ra1 g1.rules.length rc1) g1 := GramIn.move G1 (fun b hb => by have := hb.2; rw [Below.heap_alloc _ _ _ (by omega), hb2.block b (by omega)]) (fun _ h => h)
  have G2 : GramIn (In wa.heap.size w2.heap.size) (w2.alloc (.cells #[.slice la2 g2.levels.length lc2, .slice ra2 g2.rules.length rc2] 25)) (.slice la2 g2.levels.length lc2) (.slice ra2 g2.rules.length rc2) g2 := GramIn.move hg2 (fun b hb => Below.heap_alloc _ _ _ hb.2) (fun _ h => h)
  have z2 : (w2.alloc (.cells #[.slice la2 g2.levels.length lc2, .slice ra2 g2.rules.length rc2] 25)).heap.size = w2.heap.size + 1 := by simp
  clear hg2 hb2 k1 G1 B1
  go_wp2_with fail
  generalize w2.alloc (.cells #[.slice la2 g2.levels.length lc2, .slice ra2 g2.rules.length rc2] 25) = wb at *
  try rw [hJ']
  refine (Parse_any J _ (by unfold maxLen; omega)).mono ?_
  intro e w3 he
  obtain ⟨vl3, vr3, n3, a3, rfl, hb3, g3, hg3, HP3, -⟩ := he.two
  clear he
  obtain ⟨la3, lc3, rfl, -⟩ := Seq.len hg3.1
  obtain ⟨ra3, rc3, rfl, -⟩ := Seq.len hg3.2
  have s3 := hb3.size
  have k1c : Blk (w3.alloc (.cells #[.slice la3 g3.levels.length lc3, .slice ra3 g3.rules.length rc3] 25)) w1.heap.size _ 25 := Blk.alloc ((hb3.block _ (by omega)).trans k1b) _
  have k2c : Blk (w3.alloc (.cells #[.slice la3 g3.levels.length lc3, .slice ra3 g3.rules.length rc3] 25)) w2.heap.size _ 25 := Blk.alloc ((hb3.block _ (by omega)).trans k2) _
  have k3 := Blk.new w3 #[.slice la3 g3.levels.length lc3, .slice ra3 g3.rules.length rc3] 25
  have B3 := (B2.trans (hb3.mono B2.size)).alloc (by have := B2.size; omega) (.cells #[.slice la3 g3.levels.length lc3, .slice ra3 g3.rules.length rc3] 25)
  have G1c : GramIn (In w.heap.size w1.heap.size) (w3.alloc (.cells #[.slice la3 g3.levels.length lc3, .slice ra3 g3.rules.length rc3] 25)) (.slice la1 g1.levels.length lc1) (.slice ra1 g1.rules.length rc1) g1 := GramIn.move G1b (fun b hb => by have := hb.2; rw [Below.heap_alloc _ _ _ (by omega), hb3.block b (by omega)]) (fun _ h => h)
  have G2c : GramIn (In wa.heap.size w2.heap.size) (w3.alloc (.cells #[.slice la3 g3.levels.length lc3, .slice ra3 g3.rules.length rc3] 25)) (.slice la2 g2.levels.length lc2) (.slice ra2 g2.rules.length rc2) g2 := GramIn.move G2 (fun b hb => by have := hb.2; rw [Below.heap_alloc _ _ _ (by omega), hb3.block b (by omega)]) (fun _ h => h)
  have G3 : GramIn (In wb.heap.size w3.heap.size) (w3.alloc (.cells #[.slice la3 g3.levels.length lc3, .slice ra3 g3.rules.length rc3] 25)) (.slice la3 g3.levels.length lc3) (.slice ra3 g3.rules.length rc3) g3 := GramIn.move hg3 (fun b hb => Below.heap_alloc _ _ _ hb.2) (fun _ h => h)
  have z3 : (w3.alloc (.cells #[.slice la3 g3.levels.length lc3, .slice ra3 g3.rules.length rc3] 25)).heap.size = w3.heap.size + 1 := by simp
  clear hg3 hb3 k1b k2 G1b G2 B2
  go_wp2_with fail
  generalize w3.alloc (.cells #[.slice la3 g3.levels.length lc3, .slice ra3 g3.rules.length rc3] 25) = wc at *
  refine (rparse_any o _).mono ?_
  intro e w4 he
  obtain ⟨vL1, vR1, F1, rfl, hb4, hg4, -⟩ := hR1 _ _ _ he
  clear he hR1
  obtain ⟨La, Lc, rfl, -⟩ := Seq.len hg4.1
  obtain ⟨Ra, Rc, rfl, -⟩ := Seq.len hg4.2
  have s4 := hb4.size
  have hbw : Below wc.heap.size wc (w4.alloc (.cells #[.slice La g1.levels.length Lc, .slice Ra g1.rules.length Rc] 32)) := hb4.alloc s4 _
  have k4 := Blk.new w4 #[.slice La g1.levels.length Lc, .slice Ra g1.rules.length Rc] 32
  have z4 : (w4.alloc (.cells #[.slice La g1.levels.length Lc, .slice Ra g1.rules.length Rc] 32)).heap.size = w4.heap.size + 1 := by simp
  clear hg4 hb4
  go_wp2_with fail
  generalize w4.alloc (.cells #[.slice La g1.levels.length Lc, .slice Ra g1.rules.length Rc] 32) = wd at *
  refine (rparse_any t _).mono ?_
  intro e w5 he
  obtain ⟨vL2, vR2, F2, rfl, hb5, hg5, -⟩ := hR2 _ _ _ he
  clear he hR2
  obtain ⟨La2, Lc2, rfl, -⟩ := Seq.len hg5.1
  obtain ⟨Ra2, Rc2, rfl, -⟩ := Seq.len hg5.2
  have s5 := hb5.size
  have hbx : Below wc.heap.size wc (w5.alloc (.cells #[.slice La2 g2.levels.length Lc2, .slice Ra2 g2.rules.length Rc2] 32)) := (hbw.trans (hb5.mono (by omega))).alloc (by omega) _
  have k4b : Blk (w5.alloc (.cells #[.slice La2 g2.levels.length Lc2, .slice Ra2 g2.rules.length Rc2] 32)) w4.heap.size _ 32 := Blk.alloc ((hb5.block _ (by omega)).trans k4) _
  have k5 := Blk.new w5 #[.slice La2 g2.levels.length Lc2, .slice Ra2 g2.rules.length Rc2] 32
  have z5 : (w5.alloc (.cells #[.slice La2 g2.levels.length Lc2, .slice Ra2 g2.rules.length Rc2] 32)).heap.size = w5.heap.size + 1 := by simp
  clear hg5 hb5 k4 hbw
  go_upto_region 6 with fail
  generalize w5.alloc (.cells #[.slice La2 g2.levels.length Lc2, .slice Ra2 g2.rules.length Rc2] 32) = we at *
  have Be : Below w.heap.size w we := B3.trans (hbx.mono B3.size)
  have ne := Be.size
  have d4 : we.cell? ⟨w4.heap.size, 1, none⟩ = some (.slice Ra g1.rules.length Rc) := k4b.cell 1
  rcases HP1.out with ⟨hp1, hn1, ha1⟩ | ⟨hp1, hn1, -, -, -⟩
  case inr =>
    have hn0 : ((n1 : Int) == 0) = false := beq_eq_false_iff_ne.2 (by omega)
    clear hp1
    go_wp2_with (first
      | (go_at_call 12; refine (num_any _ _).mono ?_; rintro e w' ⟨rfl, hw'⟩; obtain rfl := hw'.symm)
      | (go_at_call 13; refine (alive_any _).mono ?_; rintro e w6 ⟨rfl, hb6⟩))
    go_ret
    exact ⟨rfl, Be.trans (hb6.mono Be.size)⟩
  subst hn1 ha1
  have HP1' : Hid (Lx.parse o = .ok g1) := hp1
  have hru := Lx.parse_rules hp1
  have hrl : ((g1.rules.length : Int) == 0) = false := beq_eq_false_iff_ne.2 (by omega)
  clear hp1 HP1
  by_cases hlong : 2000 < o.size + t.size + 1
  · go_wp2_with (first
      | (go_at_call 12; refine (num_any _ _).mono ?_; rintro e w' ⟨rfl, hw'⟩; obtain rfl := hw'.symm)
      | (go_at_call 13; refine (alive_any _).mono ?_; rintro e w6 ⟨rfl, hb6⟩; have y4 : w6.cell? ⟨w4.heap.size, 1, none⟩ = some (.slice Ra g1.rules.length Rc) := (World.cell?_of_block (w := we) (hb6.block _ (by show w4.heap.size < _; omega))).trans d4))
    go_ret
    exact ⟨rfl, Be.trans (hb6.mono Be.size)⟩
  go_wp2_with (first
    | (go_at_call 12; refine (num_any _ _).mono ?_; rintro e w' ⟨rfl, hw'⟩; obtain rfl := hw'.symm)
    | (go_at_call 13; refine (alive_any _).mono ?_; rintro e w6 ⟨rfl, hb6⟩; have y4 : w6.cell? ⟨w4.heap.size, 1, none⟩ = some (.slice Ra g1.rules.length Rc) := (World.cell?_of_block (w := we) (hb6.block _ (by show w4.heap.size < _; omega))).trans d4))
  have s6 := hb6.size
  have hby : Below wc.heap.size wc w6 := hbx.trans (hb6.mono hbx.size)
  have B6 : Below w.heap.size w w6 := Be.trans (hb6.mono Be.size)
  have k5b : Blk w6 w5.heap.size _ 32 := (hb6.block _ (by omega)).trans k5
  have k1d : Blk w6 w1.heap.size _ 25 := (hby.block _ (by omega)).trans k1c
  have k2d : Blk w6 w2.heap.size _ 25 := (hby.block _ (by omega)).trans k2c
  have k3d : Blk w6 w3.heap.size _ 25 := (hby.block _ (by omega)).trans k3
  have G1d := G1c.move (w' := w6) (fun b hb => hby.block b (by have := hb.2; omega)) (fun _ h => h)
  have G2d := G2c.move (w' := w6) (fun b hb => hby.block b (by have := hb.2; omega)) (fun _ h => h)
  have G3d := G3.move (w' := w6) (fun b hb => hby.block b (by have := hb.2; omega)) (fun _ h => h)
  have hJl : J.size ≤ 2000 := by omega
  have htl : ¬ 2000 < t.size := by omega
  have HPJ := Lx.parse_join HP1'.out HJ.out hJl
  have HPJ' : Hid _ := HPJ
  clear HPJ hb6 hbx hby k4b k5 k1c k2c k3 G1c G2c G3 Be B3 d4 y4 HJ
  refine (rread_any t w6).mono ?_
  intro e w7 he
  rcases rread_parse t with ⟨g2', ts', hp2, hr2⟩ | ⟨n2', a2', hp2, hr2⟩
  · rcases HP2.out with ⟨hq, hn2, ha2⟩ | ⟨hq, -⟩
    case inr => rw [hp2] at hq; cases hq
    obtain rfl : g2 = g2' := by rw [hp2] at hq; exact (Except.ok.inj hq).symm
    subst hn2 ha2
    obtain ⟨v7, sg7, sl7, rfl, m7, x7, hr7, vL7, vR7, rfl, hg7⟩ := he.ok hr2
    obtain ⟨A7, K7, C7, rfl⟩ := Seq.form hg7.1
    obtain ⟨A8, K8, C8, rfl⟩ := Seq.form hg7.2
    obtain ⟨sa, sc, rfl, -⟩ := own_len hr7.own
    have hb7 := m7.below (by omega)
    have s7 := hb7.size
    have lq := hr7.lt
    have c6 : w7.cell? ⟨w6.heap.size + 1, 6, none⟩ = some (.slice sa sl7.length sc) := hr7.blk.cell 6
    have HFD : Hid (Lx.hd (Lx.lex t) ≠ Lx.noText) := by
      obtain ⟨_, ts9, h9⟩ := Lx.parse_ok hp2
      exact Lx.pGrammar_first h9
    have hpg : Lx.pGrammar (Lx.lex t) = .ok (g2, ts') := by
      have := hr2
      unfold rread at this
      rwa [if_neg htl] at this
    have hs0 : ((sl7.length : Int) == 0) = false := by
      refine beq_eq_false_iff_ne.2 fun e0 => ?_
      have h1 := hr7.fst (List.length_eq_zero_iff.1 (by omega))
      have h2 := Lx.pGrammar_end hpg
      rw [h1] at h2
      exact HFD.out h2
    have HP2' : Hid (Lx.parse t = .ok g2) := hp2
    have hru2 := Lx.parse_rules hp2
    have B7 : Below w.heap.size w w7 := B6.trans (hb7.mono B6.size)
    have k5c : Blk w7 w5.heap.size _ 32 := (hb7.block _ (by omega)).trans k5b
    have k1e : Blk w7 w1.heap.size _ 25 := (hb7.block _ (by omega)).trans k1d
    have k2e : Blk w7 w2.heap.size _ 25 := (hb7.block _ (by omega)).trans k2d
    have k3e : Blk w7 w3.heap.size _ 25 := (hb7.block _ (by omega)).trans k3d
    have y5 : w7.cell? ⟨w5.heap.size, 0, none⟩ = some (.slice La2 g2.levels.length Lc2) := k5c.cell 0
    have l5 : w5.heap.size < w7.heap.size := by omega
    have l3 : w3.heap.size < w7.heap.size := by omega
    have l2 : w2.heap.size < w7.heap.size := by omega
    have l1 : w1.heap.size < w7.heap.size := by omega
    by_cases hk : 0 ≤ Lx.levelKind (Lx.hd (Lx.lex t))
    · obtain ⟨p, hpJ⟩ := HPJ'.out.2.1 HFD.out hk
      rcases HP3.out with ⟨hq, -⟩ | ⟨hq, -, -, -, hvr⟩
      case inl => rw [hpJ] at hq; cases hq
      obtain ⟨rfl, rfl⟩ : n3 = 2 ∧ a3 = p := by
        rw [hpJ] at hq
        have := Except.error.inj hq
        simp only [Prod.mk.injEq] at this
        exact ⟨this.1.symm, this.2.symm⟩
      have y3 : w7.cell? ⟨w3.heap.size, 1, none⟩ = some (.slice none 0 0) := by rw [← hvr]; exact k3e.cell 1
      have hl2 := Lx.parse_levels hp2 hk
      have q23 : ∀ w, (binOp .eql 23 (.slice none 0 0) (.slice none 0 0)).run Try.prog w = .ok (.bool true) w := fun w => run_eql_nil_slice w 23 55 none 0 0 0 0 Try.underlying23
      clear he hr2 hp2 hpJ hq hk hvr HP3 HP2 HPJ' hr7 hg7 m7 x7 G1d G2d G3d hpg k1d k2d k3d k5b
      go_wp2_with (first
        | (go_at_call 12; refine (num_any _ _).mono ?_; rintro e w' ⟨rfl, hw'⟩; obtain rfl := hw'.symm))
      go_ret
      exact ⟨rfl, B7.alloc B7.size _⟩
    · obtain ⟨l, hpJ, hall, hlv⟩ := (HPJ'.out.2.2 HFD.out hk).2 g2 hp2
      rcases HP3.out with ⟨hq, hn3, ha3⟩ | ⟨hq, -⟩
      case inr => rw [hpJ] at hq; cases hq
      have hg3 : g3 = ⟨g1.levels, g1.rules ++ l⟩ := by rw [hpJ] at hq; exact (Except.ok.inj hq).symm
      have HL3 : Hid (g3.levels = g1.levels) := by show _ = _; rw [hg3]
      have HR3 : Hid (g3.rules = g1.rules ++ l) := by show _ = _; rw [hg3]
      subst hn3 ha3
      have hl0 : g2.levels.length = 0 := by rw [hlv]; rfl
      have y5' : w7.cell? ⟨w5.heap.size, 0, none⟩ = some (.slice La2 0 Lc2) := by have h9 := y5; rw [hl0] at h9; exact h9
      obtain ⟨i0, hi, hz0, hz1, hz2⟩ := info_parts Try.info55
      have G1e := G1d.move (w' := w7) (fun b hb => hb7.block b (by have := hb.2; omega)) (fun _ h => h)
      have G2e := G2d.move (w' := w7) (fun b hb => hb7.block b (by have := hb.2; omega)) (fun _ h => h)
      have G3e := G3d.move (w' := w7) (fun b hb => hb7.block b (by have := hb.2; omega)) (fun _ h => h)
      obtain ⟨ps1, p1, own1, f1, kk1⟩ := G1e.2
      obtain ⟨ps2, p2, own2, f2, kk2⟩ := G2e.2
      obtain ⟨m0, cap2, hv2, -, hm0⟩ := own2.form (by omega)
      cases hv2
      have x1 : w7.cell? ⟨w1.heap.size, 1, none⟩ = some (.slice ra1 g1.rules.length rc1) := k1e.cell 1
      have x2 : w7.cell? ⟨w2.heap.size, 1, none⟩ = some (.slice (some ⟨m0, 0, none⟩) g2.rules.length rc2) := k2e.cell 1
      have o1 := own1.alloc (.cells #[.slice A7 K7 C7, .slice A8 K8 C8] 32)
      have o2 := own2.alloc (.cells #[.slice A7 K7 C7, .slice A8 K8 C8] 32)
      have hnews : ∀ j u, (ps2.flatMap cR)[j]? = some u → (w7.alloc (.cells #[.slice A7 K7 C7, .slice A8 K8 C8] 32)).cell? ((⟨m0, 0, none⟩ : Addr).add j) = some u := fun j u hu => o2.cells (g := m0) rfl j u hu
      have h1c : ∀ u ∈ ps2.flatMap cR, u.oneCell' = true := fun u hu => by
        obtain ⟨q, hq, hu⟩ := List.mem_flatMap.1 hu
        obtain ⟨fa, fk, fc, hf⟩ := AltsIn.form (kk2 q hq)
        simp only [cR, List.mem_cons, List.not_mem_nil, or_false] at hu
        rcases hu with rfl | rfl
        · rfl
        · rw [hf]; rfl
      have k3x := k3e.alloc (.cells #[.slice A7 K7 C7, .slice A8 K8 C8] 32)
      have k1x := k1e.alloc (.cells #[.slice A7 K7 C7, .slice A8 K8 C8] 32)
      have sW : (w7.alloc (.cells #[.slice A7 K7 C7, .slice A8 K8 C8] 32)).heap.size = w7.heap.size + 1 := by simp
      have hlen2 : (ps2.flatMap cR).length = g2.rules.length * 2 := o2.1
      have BW := B7.alloc B7.size (.cells #[.slice A7 K7 C7, .slice A8 K8 C8] 32)
      clear he hr2 hp2 hpJ hq hk hlv hg3 HP3 HP2 HPJ' hr7 hg7 m7 x7 G1d G2d G3d hpg k1d k2d k3d k5b y5 hl0 own2 k2e k5c
      go_wp2_with (first
        | (at_builtin; refine wpList_append_lies _ rfl _ _ 23 rfl 0 55 i0 _ 2 40 Try.underlying23 hi hz0 hz1 hz2 rfl (by decide) (.slice ra1 g1.rules.length rc1) g1.rules.length (ps1.flatMap cR) rfl o1 ⟨m0, 0, none⟩ g2.rules.length rc2 (ps2.flatMap cR) rfl hlen2 hnews h1c (by omega) (by unfold maxLen; omega) (by omega) (Nat.zero_le _) _ rfl ?_; intro ga capA w8 ownA growA hat hltA; have TT := grown_typed o1 growA; have k3f : Blk w8 w3.heap.size _ 25 := (TT _ _ 25 (by decide) k3x).trans k3x; have y3 : w8.cell? ⟨w3.heap.size, 1, none⟩ = some (.slice ra3 g3.rules.length rc3) := k3f.cell 1))
      have k1f : Blk w8 w1.heap.size _ 25 := (TT _ _ 25 (by decide) k1x).trans k1x
      have s8 := growA.size
      rw [sW] at s8
      have G3f := G3e.move (w' := w8) (fun b hb => by
        have hb1 := hb.1
        have hb2 := hb.2
        rw [growA.block b (by rw [sW]; omega) (fun e0 => by have := (f1 b e0.symm).2; omega), Below.heap_alloc _ _ _ (by omega)]) (fun _ h => h)
      have mvT : ∀ {lo hi : Nat} {va : Value} {al : List Lx.Alt}, AltsIn YP 9 (In lo hi) w7 va al → hi ≤ w7.heap.size → AltsIn YP 9 (fun b => b < w8.heap.size) w8 va al := fun {lo hi va al} ha hle =>
        AltsIn.move (F := In lo hi) (w := w8) (fun _ _ => rfl) (fun b hb => by have := hb.2; omega) (AltsIn.moveT TT 9 (AltsIn.move (F := In lo hi) (fun b hb => Below.heap_alloc _ _ _ (by have := hb.2; omega)) (fun _ h => h) ha))
      have AS : Tr.Seq (fun b => b < w8.heap.size) w8 55 2 cR (KR (fun b => b < w8.heap.size) w8) (.slice (some ⟨ga, 0, none⟩) (g1.rules.length + g2.rules.length) capA) (g1.rules ++ g2.rules) := by
        refine ⟨ps1 ++ ps2, by rw [List.map_append, p1, p2], ?_, fun g hg => (ownA.lt g hg).2, fun q hq => ?_⟩
        · rw [List.flatMap_append, List.length_append]; exact ownA
        · rcases List.mem_append.1 hq with h | h
          · exact mvT (kk1 q h) (by omega)
          · exact mvT (kk2 q h) (by omega)
      have AQ : Tr.Seq (fun b => b < w8.heap.size) w8 55 2 cR (KR (fun b => b < w8.heap.size) w8) (.slice (some ⟨ga, 0, none⟩) (g1.rules.length + g2.rules.length) capA) g3.rules := by
        rw [HR3.out]
        exact rules_swapQ AS (Lx.All2.app (Lx.All2.refl (fun _ => .inl rfl) _) (Lx.All2.weak (fun _ _ h => .inr h) hall))
      have RE := rules_equal (In wb.heap.size w3.heap.size) (fun b => b < w8.heap.size) w8 _ _ g3.rules (fun b hb => by have := hb.2; omega) (fun b hb => hb) G3f.2 AQ
      have B8 := BW.grown growA BW.size (fun k hk => (f1 k hk).1)
      have LV8 := levels_moveT TT (Seq.move (K' := KL (In w.heap.size w1.heap.size) (w7.alloc (.cells #[.slice A7 K7 C7, .slice A8 K8 C8] 32))) G1e.1 (fun b hb => Below.heap_alloc _ _ _ (by have := hb.2; omega)) (fun _ h => h) (fun _ _ h => lev_movable _ _ _ _ _ _ (fun b hb => Below.heap_alloc _ _ _ (by have := hb.2; omega)) (fun _ h => h) h))
      refine RE.mono ?_
      rintro e w9 ⟨rfl, hb9⟩
      have s9 := hb9.size
      have k3g : Blk w9 w3.heap.size _ 25 := (hb9.block _ (by omega)).trans k3f
      have k1g : Blk w9 w1.heap.size _ 25 := (hb9.block _ (by omega)).trans k1f
      have u3 : w9.cell? ⟨w3.heap.size, 0, none⟩ = some (.slice la3 g3.levels.length lc3) := k3g.cell 0
      have u1 : w9.cell? ⟨w1.heap.size, 0, none⟩ = some (.slice la1 g1.levels.length lc1) := k1g.cell 0
      have G3g := G3f.move (w' := w9) (fun b hb => hb9.block b (by have := hb.2; omega)) (fun _ h => h)
      have LV9 : Tr.Seq (In w.heap.size w1.heap.size) w9 57 2 cL (KL (In w.heap.size w1.heap.size) w9) (.slice la1 g1.levels.length lc1) g1.levels := Seq.move LV8 (fun b hb => hb9.block b (by have := hb.2; omega)) (fun _ h => h) (fun _ _ h => lev_movable _ _ _ _ _ _ (fun b hb => hb9.block b (by have := hb.2; omega)) (fun _ h => h) h)
      have LE := levels_equal (In wb.heap.size w3.heap.size) (In w.heap.size w1.heap.size) w9 _ _ g3.levels (fun b hb => by have := hb.2; omega) (fun b hb => by have := hb.2; omega) G3g.1 (by rw [HL3.out]; exact LV9)
      have B9 : Below w.heap.size w w9 := B8.trans (hb9.mono B8.size)
      clear RE AS AQ mvT LV8 G3f G3e G1e G2e
      go_wp2_with fail
      refine LE.mono ?_
      rintro e wx ⟨rfl, hbx⟩
      go_wp2_with (first
        | (go_at_call 12; refine (num_any _ _).mono ?_; rintro e w' ⟨rfl, hw'⟩; obtain rfl := hw'.symm))
      go_ret
      exact ⟨rfl, B9.trans (hbx.mono B9.size)⟩
  · rcases HP2.out with ⟨hq, -⟩ | ⟨hq, hn2, -, -, -⟩
    case inl => rw [hp2] at hq; cases hq
    obtain ⟨rfl, rfl⟩ : n2 = n2' ∧ a2 = a2' := by
      rw [hp2] at hq
      have := Except.error.inj hq
      simp only [Prod.mk.injEq] at this
      exact ⟨this.1.symm, this.2.symm⟩
    obtain ⟨v7, sg7, sl7, rfl, m7, x7, hx7, xa, xk, xc, xa', xk', xc', rfl, hLv⟩ := he.err hr2
    obtain ⟨ii, WW, kqx⟩ := hx7.blk
    obtain ⟨sa, sc, rfl, -⟩ := own_len hx7.own
    have hb7 := m7.below (by omega)
    have s7 := hb7.size
    have lq := kqx.lt
    have c6 : w7.cell? ⟨w6.heap.size + 1, 6, none⟩ = some (.slice sa sl7.length sc) := kqx.cell 6
    have hinf := hx7.inf.resolve_left htl
    have hpl := Lx.lex_place t
    have hpa := Lx.parse_place hp2 (by omega)
    have B7 : Below w.heap.size w w7 := B6.trans (hb7.mono B6.size)
    have BW := B7.alloc B7.size (.cells #[.slice xa xk xc, .slice xa' xk' xc'] 32)
    have k1e : Blk w7 w1.heap.size _ 25 := (hb7.block _ (by omega)).trans k1d
    have k3e : Blk w7 w3.heap.size _ 25 := (hb7.block _ (by omega)).trans k3d
    have l3 : w3.heap.size < w7.heap.size := by omega
    have l1 : w1.heap.size < w7.heap.size := by omega
    have hn0 : ((n2 : Int) == 0) = false := beq_eq_false_iff_ne.2 (by omega)
    have HLV := hLv htl
    by_cases h0 : Lx.hd (Lx.lex t) = Lx.noText
    · obtain ⟨us, u1, u2, u3⟩ := hinf
      have hsl : sl7 = [] := by
        rw [Lx.WF.last (Lx.lex_wf t) h0] at u2
        have := congrArg List.length u2
        have hu := List.length_pos_iff.2 u1
        simp only [List.length_append, List.length_map, List.length_cons, List.length_nil] at this
        exact List.length_eq_zero_iff.1 (by omega)
      have ha2 : a2 = t.size := (u3 hsl).trans (hpl.1 h0)
      have c6' : w7.cell? ⟨w6.heap.size + 1, 6, none⟩ = some (.slice sa 0 sc) := by rw [c6, hsl]; rfl
      have hpJ := HPJ'.out.1 h0
      rcases HP3.out with ⟨hq3, hn3, ha3⟩ | ⟨hq3, -⟩
      case inr => rw [hpJ] at hq3; cases hq3
      have HG3 : Hid (g3 = g1) := by rw [hpJ] at hq3; exact (Except.ok.inj hq3).symm
      subst hn3 ha3
      have heq : ((a2 : Int) == (t.size : Int)) = true := beq_iff_eq.2 (by omega)
      have y3 : w7.cell? ⟨w3.heap.size, 1, none⟩ = some (.slice ra3 g3.rules.length rc3) := k3e.cell 1
      have y1 : w7.cell? ⟨w1.heap.size, 1, none⟩ = some (.slice ra1 g1.rules.length rc1) := k1e.cell 1
      have G1e := G1d.move (w' := w7.alloc (.cells #[.slice xa xk xc, .slice xa' xk' xc'] 32)) (fun b hb => by have := hb.2; rw [Below.heap_alloc _ _ _ (by omega), hb7.block b (by omega)]) (fun _ h => h)
      have G3e := G3d.move (w' := w7.alloc (.cells #[.slice xa xk xc, .slice xa' xk' xc'] 32)) (fun b hb => by have := hb.2; rw [Below.heap_alloc _ _ _ (by omega), hb7.block b (by omega)]) (fun _ h => h)
      have RE := rules_equal (In wb.heap.size w3.heap.size) (In w.heap.size w1.heap.size) (w7.alloc (.cells #[.slice xa xk xc, .slice xa' xk' xc'] 32)) _ _ g3.rules (fun b hb => by have := hb.2; simp; omega) (fun b hb => by have := hb.2; simp; omega) G3e.2 (by rw [HG3.out]; exact G1e.2)
      clear he hr2 hp2 hpJ hq hq3 HP3 HP2 HPJ' m7 x7 G1d G2d G3d k1d k2d k3d k5b c6 hx7 kqx ha2 u3 u2 u1 hsl h0 hpl
      go_wp2_with fail
      refine RE.mono ?_
      rintro e wx ⟨rfl, hbx⟩
      go_wp2_with (first
        | (go_at_call 12; refine (num_any _ _).mono ?_; rintro e w' ⟨rfl, hw'⟩; obtain rfl := hw'.symm))
      go_ret
      exact ⟨rfl, BW.trans (hbx.mono BW.size)⟩
    · have HFD : Hid (Lx.hd (Lx.lex t) ≠ Lx.noText) := h0
      have hne : ((sl7.length : Int) == 0) = false ∨ (((sl7.length : Int) == 0) = true ∧ ((a2 : Int) == (t.size : Int)) = false) := by
        obtain ⟨us, u1, u2, u3⟩ := hinf
        by_cases hs : sl7 = []
        · right
          refine ⟨beq_iff_eq.2 (by rw [hs]; rfl), beq_eq_false_iff_ne.2 ?_⟩
          have h1 := u3 hs
          have h2 := hpl.2 h0
          omega
        · left
          have := List.length_pos_iff.2 hs
          exact beq_eq_false_iff_ne.2 (by omega)
      have d0 : 0 < xk ∨ xk = 0 := by omega
      by_cases hxk : 0 < xk
      · clear he hr2 hp2 hq HP3 HP2 HPJ' m7 x7 G1d G2d G3d k1d k2d k3d k5b hx7 kqx h0 hpl hinf
        rcases hne with hne | ⟨hne, hne2⟩
        all_goals
          go_wp2_with fail
          go_ret
          exact ⟨rfl, BW⟩
      · have hxk0 : xk = 0 := by omega
        subst hxk0
        by_cases hxr : xk' = 0
        · subst hxr
          clear he hr2 hp2 hq HP3 HP2 HPJ' m7 x7 G1d G2d G3d k1d k2d k3d k5b hx7 kqx h0 hpl hinf
          rcases hne with hne | ⟨hne, hne2⟩
          all_goals
            go_wp2_with fail
            go_ret
            exact ⟨rfl, BW⟩
        · have hxr' : ((xk' : Int) == 0) = false := beq_eq_false_iff_ne.2 (by omega)
          have hk : ¬ 0 ≤ Lx.levelKind (Lx.hd (Lx.lex t)) := fun hk => absurd (HLV hk) (by omega)
          have hpJ := (HPJ'.out.2.2 HFD.out hk).1 n2 a2 hp2
          rcases HP3.out with ⟨hq3, -⟩ | ⟨hq3, -, -, -, hvr⟩
          case inl => rw [hpJ] at hq3; cases hq3
          obtain ⟨rfl, rfl⟩ : n3 = n2 ∧ a3 = a2 + (o.size + 1) := by
            rw [hpJ] at hq3
            have := Except.error.inj hq3
            simp only [Prod.mk.injEq] at this
            exact ⟨this.1.symm, this.2.symm⟩
          have y3 : w7.cell? ⟨w3.heap.size, 1, none⟩ = some (.slice none 0 0) := by rw [← hvr]; exact k3e.cell 1
          have q23 : ∀ w, (binOp .eql 23 (.slice none 0 0) (.slice none 0 0)).run Try.prog w = .ok (.bool true) w := fun w => run_eql_nil_slice w 23 55 none 0 0 0 0 Try.underlying23
          have hol : o.size ≤ 2000 := by omega
          clear he hr2 hp2 hq hq3 hpJ hk hvr HP3 HP2 HPJ' m7 x7 G1d G2d G3d k1d k2d k3d k5b hx7 kqx h0 hpl hinf
          rcases hne with hne | ⟨hne, hne2⟩
          all_goals
            go_wp2_with (first
              | (go_at_call 12; refine (num_any _ _).mono ?_; rintro e w' ⟨rfl, hw'⟩; obtain rfl := hw'.symm))
            go_ret
            exact ⟨rfl, BW⟩
end Go.Proofs.Ytonkcljapkeidaa

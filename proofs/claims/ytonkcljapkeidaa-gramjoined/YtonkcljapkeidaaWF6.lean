import Derived.Test.YtonkcljapkeidaaWF5
namespace Go.Proofs.Ytonkcljapkeidaa
open Go.RowKit
open Lx (Tk)
open Tr
theorem ritem_all {d : Nat} (hd : d ≤ 8) (HA : ∀ d', d' + 1 = d → RAltsSaid d') : RItemSaid d := by
  intro s q w ts nest sgv sg hnest h hsee
  by_cases h1 : Lx.hd ts = Lx.tOpen
  · have e1 : Lx.isName (Lx.hd ts) = false := by rw [h1]; decide
    have e2 : Lx.isToken (Lx.hd ts) = false := by rw [h1]; decide
    rw [e1, e2]
    cases d with
    | zero => exact ritem_group_zero s q w ts nest sgv sg (by simpa using hnest) h h1
    | succ d => exact ritem_group_succ (by omega) (HA d rfl) s q w ts nest sgv sg hnest h h1
  · cases h2 : Lx.isName (Lx.hd ts)
    · have h3 : Lx.isToken (Lx.hd ts) = true := by
        unfold Lx.seesItem at hsee
        rw [decide_eq_false h1, h2] at hsee
        simpa using hsee
      rw [h3]
      exact ritem_token s q w ts nest sgv sg h h1 h2 h3
    · have h3 : Lx.isToken (Lx.hd ts) = false := by
        cases h3 : Lx.isToken (Lx.hd ts)
        · rfl
        · exfalso
          unfold Lx.isName Lx.isWord at h2
          unfold Lx.isToken Lx.isWord at h3
          simp only [Bool.and_eq_true] at h2 h3
          have a1 := of_decide_eq_true h2.1.2
          have a2 := of_decide_eq_true h3.1.2
          omega
      rw [h3]
      exact ritem_name s q w ts nest sgv sg h h1 h2
section
variable {α : Type} {q B : Nat} {sgx sgx1 : Value} {w w' : World} {e s : Nat} {c : Value × α → List Value} {K : (Nat → Prop) → World → Value → α → Prop} {v : Value} {l : List α}
/-- As 'Grow', and none of it is the signs'. -/
def RGrowBy (B : Nat) (sgx : Value) (w : World) (e s : Nat) (c : Value × α → List Value) (K : (Nat → Prop) → World → Value → α → Prop) (v : Value) (l : List α) (ps : List (Value × α)) (F : Nat → Prop) : Prop :=
  GrowBy B w e s c K v l ps F ∧ (∀ b, F b → sgx.ownBlock ≠ some b) ∧ ∀ g, v.ownBlock = some g → sgx.ownBlock ≠ some g
def RGrow (B : Nat) (sgx : Value) (w : World) (e s : Nat) (c : Value × α → List Value) (K : (Nat → Prop) → World → Value → α → Prop) (v : Value) (l : List α) : Prop := ∃ ps F, RGrowBy B sgx w e s c K v l ps F
theorem RGrow.nil (B : Nat) (sgx : Value) (w : World) (e s : Nat) (c : Value × α → List Value) (K : (Nat → Prop) → World → Value → α → Prop) : RGrow B sgx w e s c K (.slice none 0 0) [] := by
  obtain ⟨ps, F, h⟩ := Grow.nil (α := α) B w e s c K
  exact ⟨[], fun _ => False, ⟨rfl, World.ownsRow_nil _ _ _ _, fun q h => by simp at h, fun b h => h.elim, fun _ _ h => h⟩, fun b h => h.elim, fun g h => by simp [Value.ownBlock] at h⟩
theorem RGrowBy.mv {ps : List (Value × α)} {F : Nat → Prop} (hm : Movable K) (h : RGrowBy B sgx w e s c K v l ps F) (m : Mv q sgx w w') (n : Nx sgx w sgx1) (hq : q < B) : RGrowBy B sgx1 w' e s c K v l ps F := by
  obtain ⟨⟨h1, h2, h3, h4, h5⟩, h6, h7⟩ := h
  have hF : ∀ b, F b → w'.heap[b]? = w.heap[b]? := fun b hb => m.block b (h4 b hb).2 (fun e => by have := (h4 b hb).1; omega) (h6 b hb)
  refine ⟨⟨h1, own_move h2 fun g hg => m.block g (h2.lt g hg).2 (fun e => by have := (h2.lt g hg).1; omega) (h7 g hg), fun q hq => hm F F w w' _ _ hF (fun _ h => h) (h3 q hq), fun b hb => ⟨(h4 b hb).1, Nat.lt_of_lt_of_le (h4 b hb).2 m.size⟩, h5⟩, fun b hb => n.keep (h4 b hb).2 (h6 b hb), fun g hg => n.keep (h2.lt g hg).2 (h7 g hg)⟩
theorem RGrowBy.kept {ps : List (Value × α)} {F : Nat → Prop} (hm : Movable K) (h : RGrowBy B sgx w e s c K v l ps F) {r : Option Nat} (hg : w.grownBy w' r) (hr : ∀ k, r = some k → k < B) : RGrowBy B sgx w' e s c K v l ps F := ⟨h.1.kept hm hg hr, h.2⟩
theorem RGrow.kept (hm : Movable K) (h : RGrow B sgx w e s c K v l) {r : Option Nat} (hg : w.grownBy w' r) (hr : ∀ k, r = some k → k < B) : RGrow B sgx w' e s c K v l :=
  let ⟨ps, F, h'⟩ := h; ⟨ps, F, h'.kept hm hg hr⟩
theorem RGrow.seq (hm : Movable K) (h : RGrow B sgx w e s c K v l) : Tr.Seq (Fp B sgx w) w e s c (K (Fp B sgx w) w) v l := by
  obtain ⟨ps, F, ⟨h1, h2, h3, h4, h5⟩, h6, h7⟩ := h
  exact ⟨ps, h1, own_le h2 (Nat.zero_le _), fun g hg => ⟨(h2.lt g hg).1, (h2.lt g hg).2, h7 g hg⟩, fun q hq => hm F _ w w _ _ (fun _ _ => rfl) (fun b hb => ⟨(h4 b hb).1, (h4 b hb).2, h6 b hb⟩) (h3 q hq)⟩
theorem RGrowBy.push {ps : List (Value × α)} {F : Nat → Prop} (hm : Movable K) (h : RGrowBy B sgx w e s c K v l ps F) (hq : q < B) (hB : B ≤ w.heap.size) {w1 w2 w3 : World} (g1 : Mv q sgx w w1) (n1 : Nx sgx w sgx1) (ho1 : ∀ g, sgx1.ownBlock = some g → g < w1.heap.size) (x : Value × α)
    (hx : K (Fp w.heap.size sgx1 w1) w1 x.1 x.2) (g2 : w1.grownBy w2 none) {g cap : Nat} (ho : w3.ownsRow B e s (.slice (some ⟨g, 0, none⟩) (l.length + 1) cap) (l.length + 1) (ps.flatMap c ++ c x))
    (g3 : w2.grownBy w3 v.ownBlock) (ha : v.ownBlock = some g ∨ g = w2.heap.size) : RGrow B sgx1 w3 e s c K (.slice (some ⟨g, 0, none⟩) (l.length + 1) cap) (l ++ [x.2]) := by
  obtain ⟨⟨h1, h2, h3, h4, h5⟩, h6, h7⟩ := h
  have s1 := g1.size
  have s2 := g2.size
  have s3 := g3.size
  have e1 : ∀ b, F b → w3.heap[b]? = w.heap[b]? := fun b hF => by
    have hb := h4 b hF
    rw [g3.block b (by omega) (fun e => h5 b e.symm hF), g2.block b (by omega) (by simp), g1.block b hb.2 (by omega) (h6 b hF)]
  have e2 : ∀ b, Fp w.heap.size sgx1 w1 b → w3.heap[b]? = w1.heap[b]? := fun b hI => by
    rw [g3.block b (by have := hI.2.1; omega) (fun e => by have := (h2.lt b e.symm).2; have := hI.1; omega), g2.block b hI.2.1 (by simp)]
  refine ⟨ps ++ [x], fun b => F b ∨ Fp w.heap.size sgx1 w1 b, ⟨?_, ?_, ?_, ?_, ?_⟩, ?_, ?_⟩
  · rw [List.map_append, h1]; rfl
  · rw [List.flatMap_append, List.length_append]; simpa using ho
  · intro q' hq'
    rcases List.mem_append.1 hq' with h' | h'
    · exact hm F _ w w3 _ _ e1 (fun _ h => .inl h) (h3 q' h')
    · simp at h'; subst h'
      exact hm _ _ w1 w3 _ _ e2 (fun _ h => .inr h) hx
  · intro b hb
    rcases hb with hb | hb
    · have := h4 b hb; omega
    · have := hb.1; have := hb.2.1; omega
  · intro g' hg'
    have : g = g' := by simpa [Value.ownBlock] using hg'
    subst this
    rintro (hF | hI)
    · rcases ha with ha | ha
      · exact h5 _ ha hF
      · have := h4 _ hF; omega
    · rcases ha with ha | ha
      · have := (h2.lt _ ha).2; have := hI.1; omega
      · have := hI.2.1; omega
  · intro b hb
    rcases hb with hb | hb
    · exact n1.keep (h4 b hb).2 (h6 b hb)
    · exact hb.2.2
  · intro g' hg'
    have : g = g' := by simpa [Value.ownBlock] using hg'
    subst this
    rcases ha with ha | ha
    · exact n1.keep (h2.lt _ ha).2 (h7 _ ha)
    · intro e'; have := ho1 _ e'; omega
end
end Go.Proofs.Ytonkcljapkeidaa

import Derived.Test.YtonkcljapkeidaaL2
import Derived.WalkKit
import Derived.Deep.AppendLies
namespace Go.Proofs.Ytonkcljapkeidaa
open Go Go.RowKit
namespace Tr
def In (a b : Nat) : Nat → Prop := fun g => a ≤ g ∧ g < b
theorem own_le {w : World} {base base' e size : Nat} {v : Value} {n : Nat} {xs : List Value} (h : w.ownsRow base e size v n xs) (hb : base' ≤ base) : w.ownsRow base' e size v n xs := by
  refine ⟨h.1, ?_⟩
  rcases h.2 with h0 | ⟨g, cap, cur, hv, hg, r⟩
  · exact .inl h0
  · exact .inr ⟨g, cap, cur, hv, Nat.le_trans hb hg, r⟩
theorem own_move {w w' : World} {base e size : Nat} {v : Value} {n : Nat} {xs : List Value} (h : w.ownsRow base e size v n xs) (hs : ∀ g, v.ownBlock = some g → w'.heap[g]? = w.heap[g]?) : w'.ownsRow base e size v n xs := by
  refine ⟨h.1, ?_⟩
  rcases h.2 with h0 | ⟨g, cap, cur, hv, hg, hh, r⟩
  · exact .inl h0
  · refine .inr ⟨g, cap, cur, hv, hg, ?_, r⟩
    rw [hs g (by rw [hv]; rfl)]; exact hh
section
variable {α : Type}
/-- A slice whose elements hold, each, one value that leads on, and plain cells. -/
def Seq (F : Nat → Prop) (w : World) (e s : Nat) (c : Value × α → List Value) (K : Value → α → Prop) (v : Value) (l : List α) : Prop :=
  ∃ ps : List (Value × α), ps.map Prod.snd = l ∧ w.ownsRow 0 e s v l.length (ps.flatMap c) ∧ (∀ g, v.ownBlock = some g → F g) ∧ ∀ q, q ∈ ps → K q.1 q.2
theorem Seq.nil (F : Nat → Prop) (w : World) (e s : Nat) (c : Value × α → List Value) (K : Value → α → Prop) : Seq F w e s c K (.slice none 0 0) [] :=
  ⟨[], rfl, World.ownsRow_nil _ _ _ _, fun g h => by simp [Value.ownBlock] at h, fun q h => by simp at h⟩
theorem Seq.move {F F' : Nat → Prop} {w w' : World} {e s : Nat} {c : Value × α → List Value} {K K' : Value → α → Prop} {v : Value} {l : List α} (h : Seq F w e s c K v l)
    (hs : ∀ b, F b → w'.heap[b]? = w.heap[b]?) (hF : ∀ b, F b → F' b) (hK : ∀ v x, K v x → K' v x) : Seq F' w' e s c K' v l := by
  obtain ⟨ps, h1, h2, h3, h4⟩ := h
  exact ⟨ps, h1, own_move h2 fun g hg => hs g (h3 g hg), fun g hg => hF g (h3 g hg), fun q hq => hK _ _ (h4 q hq)⟩
def Movable (K : (Nat → Prop) → World → Value → α → Prop) : Prop :=
  ∀ (F F' : Nat → Prop) (w w' : World) v x, (∀ b, F b → w'.heap[b]? = w.heap[b]?) → (∀ b, F b → F' b) → K F w v x → K F' w' v x
/-- A slice that is still appended to, of the call's own from block B on. -/
def GrowBy (B : Nat) (w : World) (e s : Nat) (c : Value × α → List Value) (K : (Nat → Prop) → World → Value → α → Prop) (v : Value) (l : List α) (ps : List (Value × α)) (F : Nat → Prop) : Prop :=
  ps.map Prod.snd = l ∧ w.ownsRow B e s v l.length (ps.flatMap c) ∧ (∀ q, q ∈ ps → K F w q.1 q.2) ∧ (∀ b, F b → B ≤ b ∧ b < w.heap.size) ∧ ∀ g, v.ownBlock = some g → ¬ F g
def Grow (B : Nat) (w : World) (e s : Nat) (c : Value × α → List Value) (K : (Nat → Prop) → World → Value → α → Prop) (v : Value) (l : List α) : Prop := ∃ ps F, GrowBy B w e s c K v l ps F
variable {B : Nat} {w w' : World} {e s : Nat} {c : Value × α → List Value} {K : (Nat → Prop) → World → Value → α → Prop} {v : Value} {l : List α} {ps : List (Value × α)} {F : Nat → Prop}
theorem Grow.nil (B : Nat) (w : World) (e s : Nat) (c : Value × α → List Value) (K : (Nat → Prop) → World → Value → α → Prop) : Grow B w e s c K (.slice none 0 0) [] :=
  ⟨[], fun _ => False, rfl, World.ownsRow_nil _ _ _ _, fun q h => by simp at h, fun b h => h.elim, fun _ _ h => h⟩
theorem GrowBy.kept (hm : Movable K) (h : GrowBy B w e s c K v l ps F) {r : Option Nat} (hg : w.grownBy w' r) (hr : ∀ k, r = some k → k < B) : GrowBy B w' e s c K v l ps F := by
  obtain ⟨h1, h2, h3, h4, h5⟩ := h
  have hb : ∀ b, B ≤ b → b < w.heap.size → w'.heap[b]? = w.heap[b]? := fun b hb hlt => hg.block b hlt fun e => by have := hr b e.symm; omega
  refine ⟨h1, own_move h2 fun g hg' => hb g (h2.lt g hg').1 (h2.lt g hg').2, fun q hq => hm F F w w' _ _ (fun b hF => hb b (h4 b hF).1 (h4 b hF).2) (fun _ h => h) (h3 q hq), fun b hF => ⟨(h4 b hF).1, Nat.lt_of_lt_of_le (h4 b hF).2 hg.size⟩, h5⟩
theorem Grow.kept (hm : Movable K) (h : Grow B w e s c K v l) {r : Option Nat} (hg : w.grownBy w' r) (hr : ∀ k, r = some k → k < B) : Grow B w' e s c K v l :=
  let ⟨ps, F, h'⟩ := h; ⟨ps, F, h'.kept hm hg hr⟩
theorem Grow.seq (hm : Movable K) (h : Grow B w e s c K v l) : Seq (In B w.heap.size) w e s c (K (In B w.heap.size) w) v l := by
  obtain ⟨ps, F, h1, h2, h3, h4, h5⟩ := h
  exact ⟨ps, h1, own_le h2 (Nat.zero_le _), fun g hg => h2.lt g hg, fun q hq => hm F _ w w _ _ (fun _ _ => rfl) h4 (h3 q hq)⟩
theorem Grow.one (hm : Movable K) {w1 : World} (q : Value × α) (hB : B ≤ w.heap.size) (h1 : w.heap.size ≤ w1.heap.size) (hq : K (In w.heap.size w1.heap.size) w1 q.1 q.2) (hc : (c q).length = s) :
    Grow B (w1.alloc (.cells (c q).toArray e)) e s c K (.slice (some ⟨w1.heap.size, 0, none⟩) 1 1) [q.2] := by
  refine ⟨[q], In w.heap.size w1.heap.size, rfl, ⟨by simp [hc], .inr ⟨w1.heap.size, 1, (c q).toArray, rfl, by omega, heap_alloc_new w1 _, Nat.le_refl _, by unfold maxLen; omega, by simp [hc], ?_⟩⟩, ?_, ?_, ?_⟩
  · simp only [List.length_cons, List.length_nil, List.flatMap_cons, List.flatMap_nil, List.append_nil]
    exact List.take_of_length_le (by omega)
  · intro q' hq'
    simp at hq'; subst hq'
    exact hm _ _ w1 _ _ _ (fun b hb => Below.heap_alloc _ _ _ hb.2) (fun _ h => h) hq
  · intro b hb
    have := hb.1; have := hb.2
    simp; omega
  · intro g hg hF
    have : w1.heap.size = g := by simpa [Value.ownBlock] using hg
    have := hF.2
    omega
theorem GrowBy.push (hm : Movable K) (h : GrowBy B w e s c K v l ps F) {p : Nat} (hp : p < B) (hB : B ≤ w.heap.size) {w1 w2 w3 : World} (g1 : w.grownBy w1 (some p)) (q : Value × α)
    (hq : K (In w.heap.size w1.heap.size) w1 q.1 q.2) (g2 : w1.grownBy w2 none) {g cap : Nat} (ho : w3.ownsRow B e s (.slice (some ⟨g, 0, none⟩) (l.length + 1) cap) (l.length + 1) (ps.flatMap c ++ c q))
    (g3 : w2.grownBy w3 v.ownBlock) (ha : v.ownBlock = some g ∨ g = w2.heap.size) : Grow B w3 e s c K (.slice (some ⟨g, 0, none⟩) (l.length + 1) cap) (l ++ [q.2]) := by
  obtain ⟨h1, h2, h3, h4, h5⟩ := h
  have s1 := g1.size
  have s2 := g2.size
  have s3 := g3.size
  have e1 : ∀ b, F b → w3.heap[b]? = w.heap[b]? := fun b hF => by
    have hb := h4 b hF
    rw [g3.block b (by omega) (fun e => h5 b e.symm hF), g2.block b (by omega) (by simp), g1.block b hb.2 (fun e => by cases e; omega)]
  have e2 : ∀ b, In w.heap.size w1.heap.size b → w3.heap[b]? = w1.heap[b]? := fun b hI => by
    rw [g3.block b (by have := hI.2; omega) (fun e => by have := (h2.lt b e.symm).2; have := hI.1; omega), g2.block b hI.2 (by simp)]
  refine ⟨ps ++ [q], fun b => F b ∨ In w.heap.size w1.heap.size b, ?_, ?_, ?_, ?_, ?_⟩
  · rw [List.map_append, h1]; rfl
  · rw [List.flatMap_append, List.length_append]; simpa using ho
  · intro q' hq'
    rcases List.mem_append.1 hq' with h' | h'
    · exact hm F _ w w3 _ _ e1 (fun _ h => .inl h) (h3 q' h')
    · simp at h'; subst h'
      exact hm _ _ w1 w3 _ _ e2 (fun _ h => .inr h) hq
  · intro b hb
    rcases hb with hb | hb
    · have := h4 b hb; omega
    · have := hb.1; have := hb.2; omega
  · intro g' hg'
    have : g = g' := by simpa [Value.ownBlock] using hg'
    subst this
    rintro (hF | hI)
    · rcases ha with ha | ha
      · exact h5 _ ha hF
      · have := h4 _ hF; omega
    · rcases ha with ha | ha
      · have := (h2.lt _ ha).2; have := hI.1; omega
      · have := hI.2; omega
end

/-- How a tree lies in memory: of an alt and of an item, the element's type, how many cells, and which. -/
structure Lay where
  eA : Nat
  sA : Nat
  cA : Value × Lx.Alt → List Value
  eI : Nat
  sI : Nat
  cI : Value × Lx.It → List Value
def ItemsBy (Y : Lay) (A : Value → List Lx.Alt → Prop) (F : Nat → Prop) (w : World) (v : Value) (l : List Lx.It) : Prop :=
  Seq F w Y.eI Y.sI Y.cI (fun va it => A va it.alts) v l
def AltsIn (Y : Lay) : Nat → (Nat → Prop) → World → Value → List Lx.Alt → Prop
  | 0, _, _, v, l => v = .slice none 0 0 ∧ l = []
  | d + 1, F, w, v, l => Seq F w Y.eA Y.sA Y.cA (fun vi a => ItemsBy Y (AltsIn Y d F w) F w vi a.1) v l
def ItemsIn (Y : Lay) (d : Nat) (F : Nat → Prop) (w : World) (v : Value) (l : List Lx.It) : Prop := ItemsBy Y (AltsIn Y d F w) F w v l
theorem AltsIn.nil (Y : Lay) (d : Nat) (F : Nat → Prop) (w : World) : AltsIn Y d F w (.slice none 0 0) [] := by
  cases d with
  | zero => exact ⟨rfl, rfl⟩
  | succ d => exact Seq.nil _ _ _ _ _ _
theorem own_form {w : World} {base e size : Nat} {v : Value} {n : Nat} {xs : List Value} (h : w.ownsRow base e size v n xs) : ∃ a k c, v = .slice a k c := by
  rcases h.2 with ⟨rfl, _⟩ | ⟨g, cap, cur, rfl, _⟩
  · exact ⟨_, _, _, rfl⟩
  · exact ⟨_, _, _, rfl⟩
theorem Seq.form {α : Type} {F : Nat → Prop} {w : World} {e s : Nat} {c : Value × α → List Value} {K : Value → α → Prop} {v : Value} {l : List α} (h : Seq F w e s c K v l) : ∃ a k c, v = .slice a k c := by
  obtain ⟨ps, _, h2, _⟩ := h; exact own_form h2
theorem AltsIn.form {Y : Lay} {d : Nat} {F : Nat → Prop} {w : World} {v : Value} {l : List Lx.Alt} (h : AltsIn Y d F w v l) : ∃ a k c, v = .slice a k c := by
  cases d with
  | zero => exact ⟨_, _, _, h.1⟩
  | succ d => exact Seq.form h
theorem AltsIn.move {Y : Lay} {F F' : Nat → Prop} {w w' : World} (hs : ∀ b, F b → w'.heap[b]? = w.heap[b]?) (hF : ∀ b, F b → F' b) : ∀ {d : Nat} {v : Value} {l : List Lx.Alt}, AltsIn Y d F w v l → AltsIn Y d F' w' v l
  | 0, _, _, h => h
  | d + 1, _, _, h => Seq.move (K := fun vi (a : Lx.Alt) => ItemsBy Y (AltsIn Y d F w) F w vi a.1) h hs hF fun _ _ hi => Seq.move (K := fun va (it : Lx.It) => AltsIn Y d F w va it.alts) hi hs hF fun _ _ ha => AltsIn.move hs hF ha
theorem ItemsIn.move {Y : Lay} {d : Nat} {F F' : Nat → Prop} {w w' : World} (hs : ∀ b, F b → w'.heap[b]? = w.heap[b]?) (hF : ∀ b, F b → F' b) {v : Value} {l : List Lx.It} (h : ItemsIn Y d F w v l) : ItemsIn Y d F' w' v l :=
  Seq.move (K := fun va (it : Lx.It) => AltsIn Y d F w va it.alts) h hs hF fun _ _ ha => AltsIn.move hs hF ha
theorem alts_movable (Y : Lay) (d : Nat) : Movable (α := Lx.It) (fun F w va it => AltsIn Y d F w va it.alts) := fun _ _ _ _ _ _ hs hF h => AltsIn.move hs hF h
theorem items_movable (Y : Lay) (d : Nat) : Movable (α := Lx.Alt) (fun F w vi a => ItemsIn Y d F w vi a.1) := fun _ _ _ _ _ _ hs hF h => ItemsIn.move hs hF h
theorem rule_movable (Y : Lay) (d : Nat) : Movable (α := Lx.Rl) (fun F w va r => AltsIn Y d F w va r.alts) := fun _ _ _ _ _ _ hs hF h => AltsIn.move hs hF h
end Tr
end Go.Proofs.Ytonkcljapkeidaa

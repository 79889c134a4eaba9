import Derived.Test.YtonkcljapkeidaaM1
namespace Go.Proofs.Ytonkcljapkeidaa
open Go.RowKit
open Lx (Tk)
open Tr
/-- Where the law writes over what was answered. -/
def Pl (e i : Nat) : Prop := (e = 84 ∧ i % 2 = 1) ∨ (e = 86 ∧ i % 4 = 1) ∨ e = 9
/-- Worlds that part only in such cells, from block B on. -/
structure Sp (B : Nat) (w w' : World) : Prop where
  os : w'.os = w.os
  tape : w'.tape = w.tape
  output : w'.output = w.output
  size : w'.heap.size = w.heap.size
  low : ∀ b, b < B → w'.heap[b]? = w.heap[b]?
  row : ∀ b cs e, Blk w b cs e → ∃ cs', Blk w' b cs' e ∧ cs'.size = cs.size ∧ ∀ i : Nat, cs'[i]? = cs[i]? ∨ (Pl e i ∧ cs'[i]? = some (.string ⟨#[63]⟩))
theorem Sp.refl (B : Nat) (w : World) : Sp B w w := ⟨rfl, rfl, rfl, rfl, fun _ _ => rfl, fun _ cs _ h => ⟨cs, h, rfl, fun _ => .inl rfl⟩⟩
theorem Sp.trans {B : Nat} {a b c : World} (h : Sp B a b) (k : Sp B b c) : Sp B a c := by
  refine ⟨k.os.trans h.os, k.tape.trans h.tape, k.output.trans h.output, k.size.trans h.size, fun x hx => (k.low x hx).trans (h.low x hx), fun x cs e hx => ?_⟩
  obtain ⟨c1, h1, s1, r1⟩ := h.row x cs e hx
  obtain ⟨c2, h2, s2, r2⟩ := k.row x c1 e h1
  refine ⟨c2, h2, s2.trans s1, fun i => ?_⟩
  rcases r2 i with e2 | e2
  · rcases r1 i with e1 | e1
    · exact .inl (e2.trans e1)
    · exact .inr ⟨e1.1, e2.trans e1.2⟩
  · exact .inr e2
theorem Sp.set {B : Nat} {w : World} {g i e : Nat} {cs : Array Value} (h : Blk w g cs e) (hi : i < cs.size) (hp : Pl e i) (hB : B ≤ g) : Sp B w (w.setCell ⟨g, i, none⟩ (.string ⟨#[63]⟩)) := by
  refine ⟨rfl, rfl, rfl, by simp [World.setCell], fun b hb => Below.heap_setCell _ _ _ _ (by show b ≠ g; omega), fun b ds e' hb => ?_⟩
  by_cases hbg : b = g
  · subst hbg
    have hq := hb.symm.trans h
    simp only [Option.some.injEq, Obj.cells.injEq] at hq
    obtain ⟨rfl, rfl, _⟩ := hq
    refine ⟨_, hb.set i _, by simp, fun j => ?_⟩
    by_cases hij : i = j
    · subst hij; right; exact ⟨hp, by rw [Array.getElem?_setIfInBounds_self_of_lt hi]⟩
    · left; rw [Array.getElem?_setIfInBounds_ne hij]
  · exact ⟨ds, hb.other (Ne.symm hbg) _, rfl, fun _ => .inl rfl⟩
theorem Sp.below {B : Nat} {w w' : World} (h : Sp B w w') : Below B w w' := ⟨h.os, h.tape, h.output, Nat.le_of_eq h.size.symm, h.low⟩
theorem Sp.blk {B : Nat} {w w' : World} (h : Sp B w w') {b : Nat} {cs : Array Value} {e : Nat} (hb : Blk w b cs e) (he : ∀ i, ¬ Pl e i) : Blk w' b cs e := by
  obtain ⟨c1, h1, s1, r1⟩ := h.row b cs e hb
  have : c1 = cs := Array.ext_getElem? fun i => (r1 i).resolve_right fun x => he i x.1
  rwa [this] at h1
/-- A cell of a block of a type. -/
def Cl (w : World) (g e i : Nat) (v : Value) : Prop := ∃ cs, Blk w g cs e ∧ cs[i]? = some v
theorem Cl.cell {w : World} {g e i : Nat} {v : Value} (h : Cl w g e i v) : w.cell? ⟨g, i, none⟩ = some v := by
  obtain ⟨cs, h1, h2⟩ := h
  rw [h1.cell i]; exact h2
theorem Cl.frozen {w : World} {g e i : Nat} {v : Value} (h : Cl w g e i v) (j : Nat) : w.frozen? ⟨g, j, none⟩ = false := by
  obtain ⟨cs, h1, _⟩ := h; exact h1.frozen j
theorem Cl.lt {w : World} {g e i : Nat} {v : Value} (h : Cl w g e i v) : g < w.heap.size := by
  obtain ⟨cs, h1, _⟩ := h; exact h1.lt
theorem Cl.ne {w : World} {g n e e' i j : Nat} {v u : Value} (h : Cl w g e i v) (k : Cl w n e' j u) (he : e ≠ e') : g ≠ n := by
  intro x; subst x
  obtain ⟨cs, h1, _⟩ := h
  obtain ⟨ds, k1, _⟩ := k
  have hq := h1.symm.trans k1
  simp only [Option.some.injEq, Obj.cells.injEq] at hq
  exact he hq.2.1
theorem Cl.sp {B : Nat} {w w' : World} {g e i : Nat} {v : Value} (h : Cl w g e i v) (s : Sp B w w') (hp : ¬ Pl e i) : Cl w' g e i v := by
  obtain ⟨cs, h1, h2⟩ := h
  obtain ⟨c1, k1, _, r1⟩ := s.row g cs e h1
  exact ⟨c1, k1, ((r1 i).resolve_right fun x => hp x.1).trans h2⟩
theorem Cl.spP {B : Nat} {P : ByteArray → Prop} (hq : P ⟨#[63]⟩) {w w' : World} {g e i : Nat} {x : ByteArray} (h : Cl w g e i (.string x)) (hx : P x) (s : Sp B w w') : ∃ y, Cl w' g e i (.string y) ∧ P y := by
  obtain ⟨cs, h1, h2⟩ := h
  obtain ⟨c1, k1, _, r1⟩ := s.row g cs e h1
  rcases r1 i with e1 | e1
  · exact ⟨x, ⟨c1, k1, e1.trans h2⟩, hx⟩
  · exact ⟨_, ⟨c1, k1, e1.2⟩, hq⟩
theorem Cl.set {B : Nat} {w : World} {g e i : Nat} {v : Value} (h : Cl w g e i v) (hp : Pl e i) (hB : B ≤ g) : Sp B w (w.setCell ⟨g, i, none⟩ (.string ⟨#[63]⟩)) ∧ Cl (w.setCell ⟨g, i, none⟩ (.string ⟨#[63]⟩)) g e i (.string ⟨#[63]⟩) := by
  obtain ⟨cs, h1, h2⟩ := h
  have hi : i < cs.size := (Array.getElem?_eq_some_iff.1 h2).1
  exact ⟨Sp.set h1 hi hp hB, _, h1.set i _, by rw [Array.getElem?_setIfInBounds_self_of_lt hi]⟩
theorem Cl.below {w w' : World} {g e i : Nat} {v : Value} (h : Cl w g e i v) (hb : Below w.heap.size w w') : Cl w' g e i v := by
  have hl := h.lt
  obtain ⟨cs, h1, h2⟩ := h
  exact ⟨cs, (hb.block g hl).trans h1, h2⟩
/-- A slice, and what is said of each of its elements. -/
def Rw {α : Type} (B : Nat) (v : Value) (l : List α) (C : Nat → Nat → α → Prop) : Prop := ∃ a c, v = .slice a l.length c ∧ l.length ≤ maxLen ∧ ∀ j x, l[j]? = some x → ∃ g, a = some ⟨g, 0, none⟩ ∧ B ≤ g ∧ C g j x
theorem Rw.mono {α : Type} {B : Nat} {v : Value} {l : List α} {C D : Nat → Nat → α → Prop} (h : Rw B v l C) (hc : ∀ g j x, C g j x → D g j x) : Rw B v l D := by
  obtain ⟨a, c, h1, h2, h3⟩ := h
  refine ⟨a, c, h1, h2, fun j x hx => ?_⟩
  obtain ⟨g, g1, g2, g3⟩ := h3 j x hx
  exact ⟨g, g1, g2, hc g j x g3⟩
def ItP (P : ByteArray → Prop) (A : Value → List Lx.Alt → Prop) (w : World) (g m : Nat) (it : Lx.It) : Prop := ∃ va y, Cl w g 86 (m * 4 + 3) va ∧ Cl w g 86 (m * 4 + 1) (.string y) ∧ P y ∧ A va it.alts
def AlP (B : Nat) (P : ByteArray → Prop) (A : Value → List Lx.Alt → Prop) (w : World) (g j : Nat) (a : Lx.Alt) : Prop := ∃ vi x, Cl w g 84 (j * 2) vi ∧ Cl w g 84 (j * 2 + 1) (.string x) ∧ P x ∧ Rw B vi a.1 (ItP P A w)
/-- A tree whose texts are what P says. -/
def ShA (B : Nat) (P : ByteArray → Prop) : Nat → World → Value → List Lx.Alt → Prop
  | 0, _, v, l => v = .slice none 0 0 ∧ l = []
  | d + 1, w, v, l => Rw B v l (AlP B P (ShA B P d w) w)
theorem ItP.move {P : ByteArray → Prop} {A A' : Value → List Lx.Alt → Prop} {w w' : World} (h1 : ∀ {g i v}, ¬ Pl 86 i → Cl w g 86 i v → Cl w' g 86 i v) (h2 : ∀ {g i x}, P x → Cl w g 86 i (.string x) → ∃ y, Cl w' g 86 i (.string y) ∧ P y) (hA : ∀ v l, A v l → A' v l) {g m : Nat} {it : Lx.It} (h : ItP P A w g m it) : ItP P A' w' g m it := by
  obtain ⟨va, y, k1, k2, k3, k4⟩ := h
  obtain ⟨y', k5, k6⟩ := h2 k3 k2
  exact ⟨va, y', h1 (by unfold Pl; omega) k1, k5, k6, hA _ _ k4⟩
theorem AlP.move {B : Nat} {P : ByteArray → Prop} {A A' : Value → List Lx.Alt → Prop} {w w' : World} (h1 : ∀ {g e i v}, ¬ Pl e i → Cl w g e i v → Cl w' g e i v) (h2 : ∀ {g e i x}, P x → Cl w g e i (.string x) → ∃ y, Cl w' g e i (.string y) ∧ P y) (hA : ∀ v l, A v l → A' v l) {g j : Nat} {a : Lx.Alt} (h : AlP B P A w g j a) : AlP B P A' w' g j a := by
  obtain ⟨vi, x, k1, k2, k3, k4⟩ := h
  obtain ⟨x', k5, k6⟩ := h2 k3 k2
  exact ⟨vi, x', h1 (by unfold Pl; omega) k1, k5, k6, k4.mono fun g m it hi => hi.move h1 h2 hA⟩
theorem ShA.move {B : Nat} {P : ByteArray → Prop} {w w' : World} (h1 : ∀ {g e i v}, ¬ Pl e i → Cl w g e i v → Cl w' g e i v) (h2 : ∀ {g e i x}, P x → Cl w g e i (.string x) → ∃ y, Cl w' g e i (.string y) ∧ P y) : ∀ (d : Nat) {v : Value} {l : List Lx.Alt}, ShA B P d w v l → ShA B P d w' v l
  | 0, _, _, h => h
  | d + 1, _, _, h => Rw.mono (C := AlP B P (ShA B P d w) w) h fun _ _ _ ha => ha.move h1 h2 fun _ _ hh => ShA.move h1 h2 d hh
theorem ShA.sp {B : Nat} {P : ByteArray → Prop} (hq : P ⟨#[63]⟩) {w w' : World} (s : Sp B w w') {d : Nat} {v : Value} {l : List Lx.Alt} (h : ShA B P d w v l) : ShA B P d w' v l :=
  ShA.move (fun hp hc => hc.sp s hp) (fun hx hc => Cl.spP hq hc hx s) d h
theorem ItP.sp {B : Nat} {P : ByteArray → Prop} (hq : P ⟨#[63]⟩) {w w' : World} (s : Sp B w w') {d g m : Nat} {it : Lx.It} (h : ItP P (ShA B P d w) w g m it) : ItP P (ShA B P d w') w' g m it :=
  h.move (fun hp hc => hc.sp s hp) (fun hx hc => Cl.spP hq hc hx s) fun _ _ hh => hh.sp hq s
theorem AlP.sp {B : Nat} {P : ByteArray → Prop} (hq : P ⟨#[63]⟩) {w w' : World} (s : Sp B w w') {d g j : Nat} {a : Lx.Alt} (h : AlP B P (ShA B P d w) w g j a) : AlP B P (ShA B P d w') w' g j a :=
  h.move (fun hp hc => hc.sp s hp) (fun hx hc => Cl.spP hq hc hx s) fun _ _ hh => hh.sp hq s
theorem ShA.below {B : Nat} {P : ByteArray → Prop} {w w' : World} (hb : Below w.heap.size w w') {d : Nat} {v : Value} {l : List Lx.Alt} (h : ShA B P d w v l) : ShA B P d w' v l :=
  ShA.move (fun _ hc => hc.below hb) (fun hx hc => ⟨_, hc.below hb, hx⟩) d h
theorem Tr.Seq.blk {α : Type} {F : Nat → Prop} {w : World} {e s : Nat} {c : Value × α → List Value} {K : Value → α → Prop} {v : Value} {l : List α} (h : Tr.Seq F w e s c K v l) (hc : ∀ q, (c q).length = s) {B : Nat} (hF : ∀ b, F b → B ≤ b) : Rw B v l fun g j x => ∃ vk, K vk x ∧ ∀ i u, i < s → (c (vk, x))[i]? = some u → Cl w g e (j * s + i) u := by
  have h0 := h
  obtain ⟨ps, h1, h2, h3, h4⟩ := h
  obtain ⟨a, cp, rfl, hm⟩ := own_len h2
  refine ⟨a, cp, rfl, hm, fun j x hx => ?_⟩
  have hj : j < l.length := by
    rcases Nat.lt_or_ge j l.length with h' | h'
    · exact h'
    · rw [List.getElem?_eq_none h'] at hx; cases hx
  have hlx : l[j] = x := by rw [List.getElem?_eq_getElem hj] at hx; exact Option.some.inj hx
  rcases h2.2 with ⟨hv, h0'⟩ | ⟨g, cap, cur, hv, _, hh, hle, hmx, hsz, htk⟩
  · omega
  · cases hv
    refine ⟨g, rfl, hF g (h3 g rfl), ?_⟩
    have hl : ps.length = l.length := by rw [← h1]; simp
    have hq : ps[j]? = some ps[j] := List.getElem?_eq_getElem (by omega)
    have h5 : (ps[j]).2 = x := by
      have : (ps.map Prod.snd)[j]? = l[j]? := by rw [h1]
      rw [List.getElem?_map, hq, hx] at this
      simpa using this
    refine ⟨(ps[j]).1, by rw [← h5]; exact h4 _ (List.getElem_mem _), fun i u hi hu => ⟨cur, hh, ?_⟩⟩
    have hlt : j * s + i < l.length * s := by
      have : (j + 1) * s ≤ l.length * s := Nat.mul_le_mul_right s hj
      rw [Nat.succ_mul] at this; omega
    have hf := flat_get c s hc ps j i _ hq hi
    rw [← htk, List.getElem?_take_of_lt hlt] at hf
    have e9 : cur[j * s + i]? = cur.toList[j * s + i]? := by simp
    rw [e9, hf, ← hu, ← h5]
theorem ShA.of {F : Nat → Prop} {w : World} {B : Nat} (hF : ∀ b, F b → B ≤ b) : ∀ (d : Nat) {v : Value} {l : List Lx.Alt}, AltsIn YP d F w v l → ShA B (fun _ => True) d w v l
  | 0, _, _, h => h
  | d + 1, v, l, h => by
    refine Rw.mono (Seq.blk (K := fun vi (a : Lx.Alt) => ItemsBy YP (AltsIn YP d F w) F w vi a.1) h (fun _ => rfl) hF) fun g j a ⟨vi, k1, k2⟩ => ?_
    refine ⟨vi, a.2.1, k2 0 _ (by decide) rfl, k2 1 _ (by decide) rfl, trivial, ?_⟩
    refine Rw.mono (Seq.blk (K := fun va (it : Lx.It) => AltsIn YP d F w va it.alts) k1 (fun _ => rfl) hF) fun n m it ⟨va, k3, k4⟩ => ?_
    exact ⟨va, it.name, k4 3 _ (by decide) rfl, k4 1 _ (by decide) rfl, trivial, ShA.of hF d k3⟩
theorem ShA.form {B : Nat} {P : ByteArray → Prop} {d : Nat} {w : World} {v : Value} {l : List Lx.Alt} (h : ShA B P d w v l) : ∃ a k c, v = .slice a k c := by
  cases d with
  | zero => exact ⟨_, _, _, h.1⟩
  | succ d => obtain ⟨a, c, h1, _⟩ := h; exact ⟨_, _, _, h1⟩
end Go.Proofs.Ytonkcljapkeidaa
namespace Go.Proofs.Ytonkcljapkeidaa
open Go.RowKit
open Lx (Tk)
open Tr
abbrev anyT : ByteArray → Prop := fun _ => True
abbrev isQ : ByteArray → Prop := fun x => x = ⟨#[63]⟩
def SpoilSaid (B d : Nat) : Prop := ∀ (w : World) (v : Value) (l : List Lx.Alt), ShA B anyT d w v l → Calls Try.prog 19 #[v] w fun e w' => e = .returned (.tuple #[]) ∧ Sp B w w' ∧ ShA B isQ d w' v l
theorem pl84 (j : Nat) : Pl 84 (j * 2 + 1) := .inl ⟨rfl, by omega⟩
theorem pl86 (j : Nat) : Pl 86 (j * 4 + 1) := .inr (.inl ⟨rfl, by omega⟩)
theorem no84 (j : Nat) : ¬ Pl 84 (j * 2) := by unfold Pl; omega
theorem no86 (j : Nat) : ¬ Pl 86 (j * 4 + 3) := by unfold Pl; omega
set_option maxHeartbeats 1000000 in
set_option maxRecDepth 100000 in
theorem spoil_zero (B : Nat) : SpoilSaid B 0 := by
  intro w v l h
  obtain ⟨rfl, rfl⟩ := h
  go_enter Try.func19, Try.ntmps19
  go_wp2_with fail
  go_loopg [2] 0 (fun k i wr => k = 0 ∧ i = .int .i64 0 ∧ wr = w)
  case atStart => exact ⟨rfl, rfl, rfl⟩
  case round =>
    obtain ⟨rfl, rfl, rfl⟩ := hrel
    go_wp2_with fail
    go_end0
    exact ⟨rfl, Sp.refl _ _, rfl, rfl⟩
set_option maxHeartbeats 2000000 in
set_option maxRecDepth 100000 in
theorem spoil_succ {B d : Nat} (IH : SpoilSaid B d) : SpoilSaid B (d + 1) := by
  intro w v l h
  have h0 := h
  obtain ⟨a, c, rfl, hm, hel⟩ := h
  unfold maxLen at hm
  go_enter Try.func19, Try.ntmps19
  go_wp2_with fail
  go_loopg [2] l.length (fun k i wr => ∃ j : Nat, j + k = l.length ∧ i = .int .i64 j ∧ Sp B w wr ∧ Hid (∀ j' x, j' < j → l[j']? = some x → ∃ g, a = some ⟨g, 0, none⟩ ∧ B ≤ g ∧ AlP B isQ (ShA B isQ d wr) wr g j' x))
  case atStart => exact ⟨0, by omega, rfl, Sp.refl _ _, fun j' x hj => absurd hj (by omega)⟩
  case round =>
    revert wr
    intro wz hrel
    obtain ⟨j, hk, rfl, hs, hdone⟩ := hrel
    by_cases hlt : j < l.length
    · have h1 : ShA B anyT (d + 1) wz _ l := h0.sp trivial hs
      obtain ⟨a1, c1, hv1, -, hel1⟩ := h1
      cases hv1
      have hlx : l[j]? = some l[j] := List.getElem?_eq_getElem hlt
      obtain ⟨g, rfl, hBg, vi, x, k1, k2, -, k3⟩ := hel1 j _ hlx
      generalize l[j] = al at hlx k3
      obtain ⟨ia, ic, rfl, him, hit⟩ := k3
      unfold maxLen at him
      obtain ⟨s1, k4⟩ := k2.set (B := B) (pl84 j) hBg
      have k5 := k1.sp s1 (no84 j)
      have cA : wz.cell? ⟨g, j * 2, none⟩ = some (.slice ia al.1.length ic) := k1.cell
      have cB : wz.cell? ⟨g, j * 2 + 1, none⟩ = some (.string x) := k2.cell
      have fA : ∀ i, wz.frozen? ⟨g, i, none⟩ = false := k1.frozen
      have hit1 : ∀ m y, al.1[m]? = some y → ∃ n, ia = some ⟨n, 0, none⟩ ∧ B ≤ n ∧ ItP anyT (ShA B anyT d (wz.setCell ⟨g, j * 2 + 1, none⟩ (.string ⟨#[63]⟩))) (wz.setCell ⟨g, j * 2 + 1, none⟩ (.string ⟨#[63]⟩)) n m y := fun m y hy => by
        obtain ⟨n, e1, e2, e3⟩ := hit m y hy
        exact ⟨n, e1, e2, e3.sp trivial s1⟩
      have s2 := hs.trans s1
      have HD : Hid (∀ j' x, j' < j → l[j']? = some x → ∃ g', (some ⟨g, 0, none⟩ : Option Addr) = some ⟨g', 0, none⟩ ∧ B ≤ g' ∧ AlP B isQ (ShA B isQ d (wz.setCell ⟨g, j * 2 + 1, none⟩ (.string ⟨#[63]⟩))) (wz.setCell ⟨g, j * 2 + 1, none⟩ (.string ⟨#[63]⟩)) g' j' x) := fun j' x hj hx => by
        obtain ⟨g', e1, e2, e3⟩ := hdone.out j' x hj hx
        exact ⟨g', e1, e2, AlP.sp (P := isQ) rfl s1 e3⟩
      clear hdone hit k1 k2 hel1 h0 hel
      go_wp2_with fail
      clear cA cB fA s1
      generalize wz.setCell ⟨g, j * 2 + 1, none⟩ (.string ⟨#[63]⟩) = wy at *
      go_loopg [3] al.1.length (fun k i wr => ∃ m : Nat, m + k = al.1.length ∧ i = .int .i64 m ∧ Sp B wy wr ∧ Hid (∀ m' y, m' < m → al.1[m']? = some y → ∃ n, ia = some ⟨n, 0, none⟩ ∧ B ≤ n ∧ ItP isQ (ShA B isQ d wr) wr n m' y))
      case atStart => exact ⟨0, by omega, rfl, Sp.refl _ _, fun m' y hm => absurd hm (by omega)⟩
      case round =>
        obtain ⟨m, hkm, rfl, hsy, hdm⟩ := hrel
        have q1 := k5.sp hsy (no84 j)
        have c0 : wr.cell? ⟨g, j * 2, none⟩ = some (.slice ia al.1.length ic) := q1.cell
        by_cases hltm : m < al.1.length
        · have hly : al.1[m]? = some al.1[m] := List.getElem?_eq_getElem hltm
          obtain ⟨n, rfl, hBn, hip⟩ := hit1 m _ hly
          generalize al.1[m] = it at hly hip
          obtain ⟨va, y, q2, q3, -, q4⟩ := hip.sp trivial hsy
          obtain ⟨sa, sn, sc, rfl⟩ := ShA.form q4
          have hne := q1.ne q2 (by decide)
          obtain ⟨t1, q5⟩ := q3.set (B := B) (pl86 m) hBn
          have d0 : wr.cell? ⟨n, m * 4 + 3, none⟩ = some (.slice sa sn sc) := q2.cell
          have d1 : wr.cell? ⟨n, m * 4 + 1, none⟩ = some (.string y) := q3.cell
          have fn : ∀ i, wr.frozen? ⟨n, i, none⟩ = false := q2.frozen
          have q6 := q4.sp trivial t1
          have q7 := q2.sp t1 (no86 m)
          clear hip q1 q2 q3 q4
          go_wp2_with fail
          refine (IH _ _ _ q6).mono ?_
          rintro e w2 ⟨rfl, t2, q8⟩
          have t3 := hsy.trans (t1.trans t2)
          have HI : Hid (∀ m' y, m' < m + 1 → al.1[m']? = some y → ∃ n', (some ⟨n, 0, none⟩ : Option Addr) = some ⟨n', 0, none⟩ ∧ B ≤ n' ∧ ItP isQ (ShA B isQ d w2) w2 n' m' y) := fun m' y hm' hy => by
            by_cases hmm : m' = m
            · subst hmm
              rw [hly] at hy; cases hy
              obtain ⟨y', q9, q10⟩ := Cl.spP (P := isQ) rfl q5 rfl t2
              exact ⟨n, rfl, hBn, _, y', q7.sp t2 (no86 _), q9, q10, q8⟩
            · obtain ⟨n', e1, e2, e3⟩ := hdm.out m' y (by omega) hy
              exact ⟨n', e1, e2, ItP.sp (P := isQ) rfl t2 (ItP.sp (P := isQ) rfl t1 e3)⟩
          clear hdm q5 q6 q7 q8 t1 t2 d0 d1 fn c0
          go_wp2_with fail
          go_roundg (al.1.length - (m + 1))
          case measure => omega
          case rel => exact ⟨m + 1, by omega, by go_num, t3, HI⟩
        · have HJ : Hid (∀ j' x, j' < j + 1 → l[j']? = some x → ∃ g', (some ⟨g, 0, none⟩ : Option Addr) = some ⟨g', 0, none⟩ ∧ B ≤ g' ∧ AlP B isQ (ShA B isQ d wr) wr g' j' x) := fun j' x hj hx => by
            by_cases hjj : j' = j
            · subst hjj
              rw [hlx] at hx; cases hx
              obtain ⟨x', e1, e2⟩ := Cl.spP (P := isQ) rfl k4 rfl hsy
              refine ⟨g, rfl, hBg, _, x', q1, e1, e2, ia, ic, rfl, by unfold maxLen; omega, fun m' y hy => ?_⟩
              have hm' : m' < al.1.length := by
                rcases Nat.lt_or_ge m' al.1.length with h' | h'
                · exact h'
                · rw [List.getElem?_eq_none h'] at hy; cases hy
              exact hdm.out m' y (by omega) hy
            · obtain ⟨g', e1, e2, e3⟩ := HD.out j' x (by omega) hx
              exact ⟨g', e1, e2, AlP.sp (P := isQ) rfl hsy e3⟩
          have s3 := s2.trans hsy
          go_wp2_with fail
          go_roundg (l.length - (j + 1))
          case measure => omega
          case rel => exact ⟨j + 1, by omega, by go_num, s3, HJ⟩
    · have HF : Hid (ShA B isQ (d + 1) wz (.slice a l.length c) l) := ⟨a, c, rfl, by unfold maxLen; omega, fun j' x hx => by
        have hj' : j' < l.length := by
          rcases Nat.lt_or_ge j' l.length with h' | h'
          · exact h'
          · rw [List.getElem?_eq_none h'] at hx; cases hx
        exact hdone.out j' x (by omega) hx⟩
      go_wp2_with fail
      go_end0
      exact ⟨rfl, hs, HF.out⟩
theorem spoil_at (B : Nat) : ∀ d, SpoilSaid B d
  | 0 => spoil_zero B
  | d + 1 => spoil_succ (spoil_at B d)
end Go.Proofs.Ytonkcljapkeidaa
namespace Go.Proofs.Ytonkcljapkeidaa
open Go.RowKit
open Lx (Tk)
open Tr
def SpoiltSaid (B d : Nat) : Prop := ∀ (w : World) (v : Value) (l : List Lx.Alt), ShA B isQ d w v l → Calls Try.prog 20 #[v] w fun e w' => e = .returned (.bool true) ∧ w' = w
set_option maxHeartbeats 1000000 in
set_option maxRecDepth 100000 in
theorem spoilt_zero (B : Nat) : SpoiltSaid B 0 := by
  intro w v l h
  obtain ⟨rfl, rfl⟩ := h
  go_enter Try.func20, Try.ntmps20
  go_wp2_with fail
  go_loopg [3] 0 (fun k i wr => k = 0 ∧ i = .int .i64 0 ∧ wr = w)
  case atStart => exact ⟨rfl, rfl, rfl⟩
  case round =>
    obtain ⟨rfl, rfl, rfl⟩ := hrel
    go_wp2_with fail
    go_ret
    exact ⟨rfl, rfl⟩
set_option maxHeartbeats 2000000 in
set_option maxRecDepth 100000 in
theorem spoilt_succ {B d : Nat} (IH : SpoiltSaid B d) : SpoiltSaid B (d + 1) := by
  intro w v l h
  obtain ⟨a, c, rfl, hm, hel⟩ := h
  unfold maxLen at hm
  go_enter Try.func20, Try.ntmps20
  go_wp2_with fail
  go_loopg [3] l.length (fun k i wr => ∃ j : Nat, j + k = l.length ∧ i = .int .i64 j ∧ wr = w)
  case atStart => exact ⟨0, by omega, rfl, rfl⟩
  case round =>
    obtain ⟨j, hk, rfl, hw⟩ := hrel
    obtain rfl := hw.symm
    by_cases hlt : j < l.length
    · have hlx : l[j]? = some l[j] := List.getElem?_eq_getElem hlt
      obtain ⟨g, rfl, hBg, vi, x, k1, k2, rfl, k3⟩ := hel j _ hlx
      generalize l[j] = al at hlx k3
      obtain ⟨ia, ic, rfl, him, hit⟩ := k3
      unfold maxLen at him
      have cA := k1.cell
      have cB := k2.cell
      clear hel k1 k2
      go_wp2_with fail
      go_loopg [4] al.1.length (fun k i wz => ∃ m : Nat, m + k = al.1.length ∧ i = .int .i64 m ∧ wz = w)
      case atStart => exact ⟨0, by omega, rfl, rfl⟩
      case round =>
        obtain ⟨m, hkm, rfl, hw⟩ := hrel
        obtain rfl := hw.symm
        by_cases hltm : m < al.1.length
        · have hly : al.1[m]? = some al.1[m] := List.getElem?_eq_getElem hltm
          obtain ⟨n, rfl, hBn, va, y, q1, q2, rfl, q3⟩ := hit m _ hly
          generalize al.1[m] = it at hly q3
          obtain ⟨sa, sn, sc, rfl⟩ := ShA.form q3
          have d0 := q1.cell
          have d1 := q2.cell
          clear hit q1 q2
          go_wp2_with (first
            | (go_at_call 20; refine (IH _ _ _ q3).mono ?_; rintro e w' ⟨rfl, hw'⟩; obtain rfl := hw'.symm))
          go_roundg (al.1.length - (m + 1))
          case measure => omega
          case rel => exact ⟨m + 1, by omega, by go_num, rfl⟩
        · go_wp2_with fail
          go_roundg (l.length - (j + 1))
          case measure => omega
          case rel => exact ⟨j + 1, by omega, by go_num, rfl⟩
    · go_wp2_with fail
      go_ret
      exact ⟨rfl, rfl⟩
theorem spoilt_at (B : Nat) : ∀ d, SpoiltSaid B d
  | 0 => spoilt_zero B
  | d + 1 => spoilt_succ (spoilt_at B d)
end Go.Proofs.Ytonkcljapkeidaa
namespace Go.Proofs.Ytonkcljapkeidaa
open Go.RowKit
open Lx (Tk)
open Tr
def RuP (B : Nat) (P : ByteArray → Prop) (w : World) (g j : Nat) (r : Lx.Rl) : Prop := ∃ va, Cl w g 55 (j * 2 + 1) va ∧ ShA B P 9 w va r.alts
def TkP (P : ByteArray → Prop) (w : World) (n m : Nat) (_ : Tk) : Prop := ∃ x, Cl w n 9 m (.string x) ∧ P x
def LvP (B : Nat) (P : ByteArray → Prop) (w : World) (g j : Nat) (lv : Lx.Lv) : Prop := ∃ vt, Cl w g 57 (j * 2 + 1) vt ∧ Rw B vt lv.tokens (TkP P w)
theorem no55 (i : Nat) : ¬ Pl 55 i := by unfold Pl; omega
theorem no57 (i : Nat) : ¬ Pl 57 i := by unfold Pl; omega
theorem no25 (i : Nat) : ¬ Pl 25 i := by unfold Pl; omega
theorem pl9 (i : Nat) : Pl 9 i := .inr (.inr rfl)
section
variable {B : Nat} {P : ByteArray → Prop} {w w' : World} {g j : Nat}
theorem RuP.sp (hq : P ⟨#[63]⟩) (s : Sp B w w') {r : Lx.Rl} (h : RuP B P w g j r) : RuP B P w' g j r := by
  obtain ⟨va, h1, h2⟩ := h
  exact ⟨va, h1.sp s (no55 _), h2.sp hq s⟩
theorem TkP.sp (hq : P ⟨#[63]⟩) (s : Sp B w w') {t : Tk} (h : TkP P w g j t) : TkP P w' g j t := by
  obtain ⟨x, h1, h2⟩ := h
  obtain ⟨y, h3, h4⟩ := Cl.spP hq h1 h2 s
  exact ⟨y, h3, h4⟩
theorem LvP.sp (hq : P ⟨#[63]⟩) (s : Sp B w w') {lv : Lx.Lv} (h : LvP B P w g j lv) : LvP B P w' g j lv := by
  obtain ⟨vt, h1, h2⟩ := h
  exact ⟨vt, h1.sp s (no57 _), h2.mono fun _ _ _ ht => ht.sp hq s⟩
theorem RuP.below (hb : Below w.heap.size w w') {r : Lx.Rl} (h : RuP B P w g j r) : RuP B P w' g j r := by
  obtain ⟨va, h1, h2⟩ := h
  exact ⟨va, h1.below hb, h2.below hb⟩
theorem LvP.below (hb : Below w.heap.size w w') {lv : Lx.Lv} (h : LvP B P w g j lv) : LvP B P w' g j lv := by
  obtain ⟨vt, h1, h2⟩ := h
  exact ⟨vt, h1.below hb, h2.mono fun _ _ _ ⟨x, h3, h4⟩ => ⟨x, h3.below hb, h4⟩⟩
end
theorem gram_rules {F : Nat → Prop} {w : World} {vl vr : Value} {g : Lx.Gr} (h : GramIn F w vl vr g) {B : Nat} (hF : ∀ b, F b → B ≤ b) : Rw B vr g.rules (RuP B anyT w) :=
  Rw.mono (Seq.blk h.2 (fun _ => rfl) hF) fun _ _ _ ⟨va, k1, k2⟩ => ⟨va, k2 1 _ (by decide) rfl, ShA.of hF 9 k1⟩
theorem gram_levels {F : Nat → Prop} {w : World} {vl vr : Value} {g : Lx.Gr} (h : GramIn F w vl vr g) {B : Nat} (hF : ∀ b, F b → B ≤ b) : Rw B vl g.levels (LvP B anyT w) :=
  Rw.mono (Seq.blk h.1 (fun _ => rfl) hF) fun _ _ _ ⟨va, k1, k2⟩ => ⟨va, k2 1 _ (by decide) rfl, Rw.mono (Seq.blk k1 (fun _ => rfl) hF) fun n m t ⟨_, _, k4⟩ => ⟨t.1, by
    have := k4 0 _ (by decide) rfl
    rw [Nat.mul_one, Nat.add_zero] at this
    exact this, trivial⟩⟩
theorem some_lt {α : Type} {l : List α} {j : Nat} {x : α} (h : l[j]? = some x) : j < l.length := by
  rcases Nat.lt_or_ge j l.length with h' | h'
  · exact h'
  · rw [List.getElem?_eq_none h'] at h; cases h
set_option maxHeartbeats 8000000 in
set_option maxRecDepth 100000 in
theorem GramOwn_any (s : ByteArray) (w : World) (hmax : s.size ≤ maxLen) : Calls Try.prog 7 #[.string s] w fun e w' => e = .returned (.bool true) ∧ Below w.heap.size w w' := by
  have PP := fun w => Parse_any s w hmax
  clear hmax
  go_enter Try.func7, Try.ntmps7
  go_wp2_with fail
  refine (PP w).mono ?_
  intro e w1 he
  obtain ⟨vl, vr, n0, a0, rfl, hb1, g, hg, -⟩ := both_ends he
  have hru := gram_rules hg (B := w.heap.size) fun b hb => hb.1
  have hlv := gram_levels hg (B := w.heap.size) fun b hb => hb.1
  obtain ⟨ra, rc, rfl, hrm, hre⟩ := hru
  obtain ⟨la, lc, rfl, hlm, hle⟩ := hlv
  unfold maxLen at hrm hlm
  have hbAl : Below w1.heap.size w1 (w1.alloc (.cells #[.slice la g.levels.length lc, .slice ra g.rules.length rc] 25)) := (Below.refl _ _).alloc (Nat.le_refl _) _
  have kA := Blk.new w1 #[.slice la g.levels.length lc, .slice ra g.rules.length rc] 25
  have hre1 : ∀ j x, g.rules[j]? = some x → ∃ n, ra = some ⟨n, 0, none⟩ ∧ w.heap.size ≤ n ∧ RuP w.heap.size anyT (w1.alloc (.cells #[.slice la g.levels.length lc, .slice ra g.rules.length rc] 25)) n j x := fun j x hx => by
    obtain ⟨n, e1, e2, e3⟩ := hre j x hx
    exact ⟨n, e1, e2, e3.below hbAl⟩
  have hle1 : ∀ j x, g.levels[j]? = some x → ∃ n, la = some ⟨n, 0, none⟩ ∧ w.heap.size ≤ n ∧ LvP w.heap.size anyT (w1.alloc (.cells #[.slice la g.levels.length lc, .slice ra g.rules.length rc] 25)) n j x := fun j x hx => by
    obtain ⟨n, e1, e2, e3⟩ := hle j x hx
    exact ⟨n, e1, e2, e3.below hbAl⟩
  have hbA := hb1.alloc hb1.size (.cells #[.slice la g.levels.length lc, .slice ra g.rules.length rc] 25)
  clear he hg hre hle hbAl
  go_wp2_with fail
  generalize w1.alloc (.cells #[.slice la g.levels.length lc, .slice ra g.rules.length rc] 25) = wA at *
  go_loopg [6] g.rules.length (fun k i wr => ∃ j : Nat, j + k = g.rules.length ∧ i = .int .i64 j ∧ Sp w.heap.size wA wr ∧ Hid (∀ j' x, j' < j → g.rules[j']? = some x → ∃ n, ra = some ⟨n, 0, none⟩ ∧ w.heap.size ≤ n ∧ RuP w.heap.size isQ wr n j' x))
  case atStart => exact ⟨0, by omega, rfl, Sp.refl _ _, fun j' x hj => absurd hj (by omega)⟩
  case round =>
    revert wr
    intro wz hrel
    obtain ⟨j, hk, rfl, hs, hdone⟩ := hrel
    have kz := hs.blk kA no25
    have z1 : wz.cell? ⟨w1.heap.size, 1, none⟩ = some (.slice ra g.rules.length rc) := kz.cell 1
    have z0 : wz.cell? ⟨w1.heap.size, 0, none⟩ = some (.slice la g.levels.length lc) := kz.cell 0
    by_cases hlt : j < g.rules.length
    · have hlx : g.rules[j]? = some g.rules[j] := List.getElem?_eq_getElem hlt
      obtain ⟨n, rfl, hBn, va, k1, k2⟩ := hre1 j _ hlx
      generalize g.rules[j] = r at hlx k2
      have k3 := k1.sp hs (no55 _)
      have k4 := k2.sp trivial hs
      obtain ⟨sa, sn, sc, rfl⟩ := ShA.form k4
      have c1 := k3.cell
      clear k1 k2 kz
      go_wp2_with fail
      refine (spoil_at w.heap.size 9 _ _ _ k4).mono ?_
      rintro e w2 ⟨rfl, t1, q1⟩
      have HD : Hid (∀ j' x, j' < j + 1 → g.rules[j']? = some x → ∃ n', (some ⟨n, 0, none⟩ : Option Addr) = some ⟨n', 0, none⟩ ∧ w.heap.size ≤ n' ∧ RuP w.heap.size isQ w2 n' j' x) := fun j' x hj hx => by
        by_cases hjj : j' = j
        · subst hjj
          rw [hlx] at hx; cases hx
          exact ⟨n, rfl, hBn, _, k3.sp t1 (no55 _), q1⟩
        · obtain ⟨n', e1, e2, e3⟩ := hdone.out j' x (by omega) hx
          exact ⟨n', e1, e2, RuP.sp (P := isQ) rfl t1 e3⟩
      have s2 := hs.trans t1
      clear hdone k3 k4 q1 t1 c1 z0 z1
      go_wp2_with fail
      go_roundg (g.rules.length - (j + 1))
      case measure => omega
      case rel => exact ⟨j + 1, by omega, by go_num, s2, HD⟩
    · have HRU : Hid (∀ j' x, g.rules[j']? = some x → ∃ n, ra = some ⟨n, 0, none⟩ ∧ w.heap.size ≤ n ∧ RuP w.heap.size isQ wz n j' x) := fun j' x hx => hdone.out j' x (by have := some_lt hx; omega) hx
      clear hdone hre1
      go_wp2_with fail
      go_loopg [7] g.levels.length (fun k i wr => ∃ j : Nat, j + k = g.levels.length ∧ i = .int .i64 j ∧ Sp w.heap.size wz wr ∧ Hid (∀ j' x, j' < j → g.levels[j']? = some x → ∃ n, la = some ⟨n, 0, none⟩ ∧ w.heap.size ≤ n ∧ LvP w.heap.size isQ wr n j' x))
      case atStart => exact ⟨0, by omega, rfl, Sp.refl _ _, fun j' x hj => absurd hj (by omega)⟩
      case round =>
        revert wr
        intro wy hrel
        obtain ⟨i, hki, rfl, hsy, hdl⟩ := hrel
        have ky := hsy.blk kz no25
        have y0 : wy.cell? ⟨w1.heap.size, 0, none⟩ = some (.slice la g.levels.length lc) := ky.cell 0
        clear z0 z1
        by_cases hlt2 : i < g.levels.length
        · have hlx : g.levels[i]? = some g.levels[i] := List.getElem?_eq_getElem hlt2
          obtain ⟨n, rfl, hBn, vt, k1, k2⟩ := hle1 i _ hlx
          generalize g.levels[i] = lv at hlx k2
          obtain ⟨ta, tc, rfl, htm, hte⟩ := k2
          unfold maxLen at htm
          have sA := hs.trans hsy
          have k3 := k1.sp sA (no57 _)
          clear k1
          go_wp2_with fail
          go_loopg [8] lv.tokens.length (fun k i wr => ∃ m : Nat, m + k = lv.tokens.length ∧ i = .int .i64 m ∧ Sp w.heap.size wy wr ∧ Hid (∀ m' t, m' < m → lv.tokens[m']? = some t → ∃ n', ta = some ⟨n', 0, none⟩ ∧ w.heap.size ≤ n' ∧ TkP isQ wr n' m' t))
          case atStart => exact ⟨0, by omega, rfl, Sp.refl _ _, fun m' t hm => absurd hm (by omega)⟩
          case round =>
            obtain ⟨m, hkm, rfl, hsr, hdm⟩ := hrel
            have kr := hsr.blk ky no25
            have k4 := k3.sp hsr (no57 _)
            have r0 : wr.cell? ⟨w1.heap.size, 0, none⟩ = some (.slice (some ⟨n, 0, none⟩) g.levels.length lc) := kr.cell 0
            have r1 := k4.cell
            by_cases hltm : m < lv.tokens.length
            · have hly : lv.tokens[m]? = some lv.tokens[m] := List.getElem?_eq_getElem hltm
              obtain ⟨n', rfl, hBn', htk⟩ := hte m _ hly
              generalize lv.tokens[m] = tk at hly htk
              obtain ⟨x, q1, -⟩ := (htk.sp trivial sA).sp trivial hsr
              obtain ⟨t1, q2⟩ := q1.set (B := w.heap.size) (pl9 m) hBn'
              have d0 := q1.cell
              have fn : ∀ i, wr.frozen? ⟨n', i, none⟩ = false := q1.frozen
              have HI : Hid (∀ m' t, m' < m + 1 → lv.tokens[m']? = some t → ∃ n'', (some ⟨n', 0, none⟩ : Option Addr) = some ⟨n'', 0, none⟩ ∧ w.heap.size ≤ n'' ∧ TkP isQ (wr.setCell ⟨n', m, none⟩ (.string ⟨#[63]⟩)) n'' m' t) := fun m' t hm' ht => by
                by_cases hmm : m' = m
                · subst hmm
                  exact ⟨n', rfl, hBn', _, q2, rfl⟩
                · obtain ⟨n'', e1, e2, e3⟩ := hdm.out m' t (by omega) ht
                  exact ⟨n'', e1, e2, TkP.sp (P := isQ) rfl t1 e3⟩
              have s3 := hsr.trans t1
              clear hdm q1 q2 t1 htk
              go_wp2_with fail
              go_roundg (lv.tokens.length - (m + 1))
              case measure => omega
              case rel => exact ⟨m + 1, by omega, by go_num, s3, HI⟩
            · have HL : Hid (∀ j' x, j' < i + 1 → g.levels[j']? = some x → ∃ n', (some ⟨n, 0, none⟩ : Option Addr) = some ⟨n', 0, none⟩ ∧ w.heap.size ≤ n' ∧ LvP w.heap.size isQ wr n' j' x) := fun j' x hj hx => by
                by_cases hjj : j' = i
                · subst hjj
                  rw [hlx] at hx; cases hx
                  exact ⟨n, rfl, hBn, _, k4, ta, tc, rfl, by unfold maxLen; omega, fun m' t ht => hdm.out m' t (by have := some_lt ht; omega) ht⟩
                · obtain ⟨n', e1, e2, e3⟩ := hdl.out j' x (by omega) hx
                  exact ⟨n', e1, e2, LvP.sp (P := isQ) rfl hsr e3⟩
              have s3 := hsy.trans hsr
              go_wp2_with fail
              go_roundg (g.levels.length - (i + 1))
              case measure => omega
              case rel => exact ⟨i + 1, by omega, by go_num, s3, HL⟩
        · have HLV : Hid (∀ j' x, g.levels[j']? = some x → ∃ n, la = some ⟨n, 0, none⟩ ∧ w.heap.size ≤ n ∧ LvP w.heap.size isQ wy n j' x) := fun j' x hx => hdl.out j' x (by have := some_lt hx; omega) hx
          have HRY : Hid (∀ j' x, g.rules[j']? = some x → ∃ n, ra = some ⟨n, 0, none⟩ ∧ w.heap.size ≤ n ∧ RuP w.heap.size isQ wy n j' x) := fun j' x hx => by
            obtain ⟨n, e1, e2, e3⟩ := HRU.out j' x hx
            exact ⟨n, e1, e2, RuP.sp (P := isQ) rfl hsy e3⟩
          have hsz1 : w1.heap.size < wy.heap.size := ky.lt
          have hbY : Below w.heap.size w wy := hbA.trans (hs.trans hsy).below
          clear hdl HRU hle1 kz kA hs hsy hbA
          go_wp2_with fail
          refine (PP wy).mono ?_
          intro e w2 he
          obtain ⟨vl2, vr2, n, a, rfl, hb2, g2, hg2, hR⟩ := both_ends he
          clear he PP
          obtain ⟨ka, kc, rfl, -⟩ := Seq.len hg2.1
          obtain ⟨ja, jc, rfl, -⟩ := Seq.len hg2.2
          have kh := Blk.new w2 #[.slice ka g2.levels.length kc, .slice ja g2.rules.length jc] 25
          have hsz2 := hb2.size
          have hbAl : Below wy.heap.size wy (w2.alloc (.cells #[.slice ka g2.levels.length kc, .slice ja g2.rules.length jc] 25)) := hb2.alloc hsz2 _
          have hlB : (w2.alloc (.cells #[.slice ka g2.levels.length kc, .slice ja g2.rules.length jc] 25)).heap.size = w2.heap.size + 1 := by simp
          have P := rparse_any s (w2.alloc (.cells #[.slice ka g2.levels.length kc, .slice ja g2.rules.length jc] 25))
          go_wp2_with fail
          refine P.mono ?_
          intro e w3 he
          obtain ⟨vL, vR, F', rfl, hb3, hg3, hF'⟩ := hR _ _ _ he
          clear he P hR
          obtain ⟨La, Lc, rfl, -⟩ := Seq.len hg3.1
          obtain ⟨Ra, Rc, rfl, -⟩ := Seq.len hg3.2
          rw [hlB] at hb3
          have hsz3 : w2.heap.size + 1 ≤ w3.heap.size := by have := hb3.size; omega
          have hbC : Below wy.heap.size wy (w3.alloc (.cells #[.slice La g2.levels.length Lc, .slice Ra g2.rules.length Rc] 32)) := (hbAl.trans (hb3.mono (by omega))).alloc (by omega) _
          have kC1 := (hb3.block w1.heap.size (by omega)).trans (Below.heap_alloc w2 (.cells #[.slice ka g2.levels.length kc, .slice ja g2.rules.length jc] 25) w1.heap.size (by omega)) |>.trans ((hb2.block _ hsz1).trans ky)
          have kC1' : Blk w3 w1.heap.size #[.slice la g.levels.length lc, .slice ra g.rules.length rc] 25 := kC1
          have kC2 : Blk w3 w2.heap.size #[.slice ka g2.levels.length kc, .slice ja g2.rules.length jc] 25 := (hb3.block _ (by omega)).trans kh
          have z0 : w3.cell? ⟨w1.heap.size, 0, none⟩ = some (.slice la g.levels.length lc) := kC1'.cell 0
          have z1 : w3.cell? ⟨w1.heap.size, 1, none⟩ = some (.slice ra g.rules.length rc) := kC1'.cell 1
          have x0 : w3.cell? ⟨w2.heap.size, 0, none⟩ = some (.slice ka g2.levels.length kc) := kC2.cell 0
          have x1 : w3.cell? ⟨w2.heap.size, 1, none⟩ = some (.slice ja g2.rules.length jc) := kC2.cell 1
          have HRC : Hid (∀ j' x, g.rules[j']? = some x → ∃ n, ra = some ⟨n, 0, none⟩ ∧ w.heap.size ≤ n ∧ RuP w.heap.size isQ (w3.alloc (.cells #[.slice La g2.levels.length Lc, .slice Ra g2.rules.length Rc] 32)) n j' x) := fun j' x hx => by
            obtain ⟨n, e1, e2, e3⟩ := HRY.out j' x hx
            exact ⟨n, e1, e2, e3.below hbC⟩
          have HLC : Hid (∀ j' x, g.levels[j']? = some x → ∃ n, la = some ⟨n, 0, none⟩ ∧ w.heap.size ≤ n ∧ LvP w.heap.size isQ (w3.alloc (.cells #[.slice La g2.levels.length Lc, .slice Ra g2.rules.length Rc] 32)) n j' x) := fun j' x hx => by
            obtain ⟨n, e1, e2, e3⟩ := HLV.out j' x hx
            exact ⟨n, e1, e2, e3.below hbC⟩
          have hgH : GramIn (In wy.heap.size w2.heap.size) (w3.alloc (.cells #[.slice La g2.levels.length Lc, .slice Ra g2.rules.length Rc] 32)) (.slice ka g2.levels.length kc) (.slice ja g2.rules.length jc) g2 :=
            GramIn.move hg2 (fun b hb => by
              have h2 := hb.2
              rw [Below.heap_alloc _ _ _ (by omega), hb3.block b (by omega), Below.heap_alloc _ _ _ h2]) (fun _ h => h)
          have hgW : RG F' (w3.alloc (.cells #[.slice La g2.levels.length Lc, .slice Ra g2.rules.length Rc] 32)) (.slice La g2.levels.length Lc) (.slice Ra g2.rules.length Rc) g2 :=
            RG.move hg3 (fun b hb => Below.heap_alloc _ _ _ (hF' b hb)) (fun _ h => h)
          have S := same_any _ F' _ _ _ _ _ g2 (fun b hb => by have := hb.2; simp; omega) (fun b hb => by have := hF' b hb; simp; omega) hgH hgW
          have hbW : Below w.heap.size w (w3.alloc (.cells #[.slice La g2.levels.length Lc, .slice Ra g2.rules.length Rc] 32)) := hbY.trans (hbC.mono hbY.size)
          have l1 : w1.heap.size < w3.heap.size := by omega
          have l2 : w2.heap.size < w3.heap.size := by omega
          clear HRY HLV hgH hgW hg2 hg3 kh kC1 kC1' kC2 hb2 hb3 hbAl hbC ky hbY y0
          go_wp2_with fail
          go_loopg [15] g.rules.length (fun k i wr => ∃ j : Nat, j + k = g.rules.length ∧ i = .int .i64 j ∧ wr = w3.alloc (.cells #[.slice La g2.levels.length Lc, .slice Ra g2.rules.length Rc] 32))
          case atStart => exact ⟨0, by omega, rfl, rfl⟩
          case round =>
            obtain ⟨j1, hk1, rfl, rfl⟩ := hrel
            by_cases hlt3 : j1 < g.rules.length
            · have hlx : g.rules[j1]? = some g.rules[j1] := List.getElem?_eq_getElem hlt3
              obtain ⟨n1, rfl, hBn, va, k1, k2⟩ := HRC.out j1 _ hlx
              obtain ⟨sa, sn, sc, rfl⟩ := ShA.form k2
              have hc1 := k1.cell
              go_wp2_with (first
                | (go_at_call 20; refine (spoilt_at w.heap.size 9 _ _ _ k2).mono ?_; rintro e w' ⟨rfl, hw'⟩; obtain rfl := hw'.symm))
              go_roundg (g.rules.length - (j1 + 1))
              case measure => omega
              case rel => exact ⟨j1 + 1, by omega, by go_num, rfl⟩
            · go_wp2_with fail
              go_loopg [17] g.levels.length (fun k i wr => ∃ j : Nat, j + k = g.levels.length ∧ i = .int .i64 j ∧ wr = w3.alloc (.cells #[.slice La g2.levels.length Lc, .slice Ra g2.rules.length Rc] 32))
              case atStart => exact ⟨0, by omega, rfl, rfl⟩
              case round =>
                obtain ⟨j2, hk2, rfl, rfl⟩ := hrel
                by_cases hlt4 : j2 < g.levels.length
                · have hlx : g.levels[j2]? = some g.levels[j2] := List.getElem?_eq_getElem hlt4
                  obtain ⟨n1, rfl, hBn, vt, k1, k2⟩ := HLC.out j2 _ hlx
                  generalize g.levels[j2] = lv at hlx k2
                  obtain ⟨ta, tc, rfl, htm, hte⟩ := k2
                  unfold maxLen at htm
                  have hc1 := k1.cell
                  go_wp2_with fail
                  go_loopg [18] lv.tokens.length (fun k i wr => ∃ j : Nat, j + k = lv.tokens.length ∧ i = .int .i64 j ∧ wr = w3.alloc (.cells #[.slice La g2.levels.length Lc, .slice Ra g2.rules.length Rc] 32))
                  case atStart => exact ⟨0, by omega, rfl, rfl⟩
                  case round =>
                    obtain ⟨j3, hk3, rfl, rfl⟩ := hrel
                    by_cases hlt5 : j3 < lv.tokens.length
                    · have hly : lv.tokens[j3]? = some lv.tokens[j3] := List.getElem?_eq_getElem hlt5
                      obtain ⟨n2, rfl, hBn2, x, q1, rfl⟩ := hte j3 _ hly
                      have hc2 := q1.cell
                      go_wp2_with fail
                      go_roundg (lv.tokens.length - (j3 + 1))
                      case measure => omega
                      case rel => exact ⟨j3 + 1, by omega, by go_num, rfl⟩
                    · go_wp2_with fail
                      go_roundg (g.levels.length - (j2 + 1))
                      case measure => omega
                      case rel => exact ⟨j2 + 1, by omega, by go_num, rfl⟩
                · go_wp2_with fail
                  refine S.mono ?_
                  rintro e w4 ⟨rfl, hb4⟩
                  have hbD : Below w.heap.size w w4 := hbW.trans (hb4.mono hbW.size)
                  go_wp2_with (first
                    | (go_at_call 12; refine (num_any _ _).mono ?_; rintro e w' ⟨rfl, hw'⟩; obtain rfl := hw'.symm)
                    | (go_at_call 13; refine (alive_any _).mono ?_; rintro e w5 ⟨rfl, hb5⟩))
                  go_ret
                  exact ⟨rfl, hbD.trans (hb5.mono hbD.size)⟩
end Go.Proofs.Ytonkcljapkeidaa

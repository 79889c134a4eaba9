import Derived.Test.YtjaalkocdbkdeaaGreatDoorSO00
import Derived.Test.YtjaalkocdbkdeaaGreatDoorSA30
import Derived.Test.YtjaalkocdbkdeaaGreatDoorSA34
import Derived.Laws.Cover3
namespace Go.Proofs.YtjaalkocdbkdeaaGreatDoor
open Go Go.RowKit
namespace Lx
theorem ko.qG {P : List Pd} {sz st : Nat} (hp : mR P sz st) {R : bK} : ∀ (f i : Nat) (S : bK), ko P i 0 S → qG P sz f i S = some R → ∃ m, R.ks.length ≤ m ∧ ko P m 0 R ∧ (S.ks.length ≤ 300 → R.ks.length ≤ 300)
  | 0, i, S, _, h => by cases h
  | f + 1, i, S, hI, h => by
    rw [Lx.qG] at h
    split at h
    · rename_i hi
      split at h
      · cases h
      · rename_i hle
        have hK : S.ks[i]? = some S.ks[i] := List.getElem?_eq_getElem hi
        have h1 := (ko.leave (K := S.ks[i]) sz 0 S hI hK).1
        rw [Nat.zero_add, ← List.range_eq_range'] at h1
        obtain ⟨m, h2, h3, h4⟩ := ko.qG hp f (i + 1) _ (h1.next hp) h
        exact ⟨m, h2, h3, fun _ => h4 (by omega)⟩
    · cases h
      exact ⟨i, by omega, hI, id⟩
theorem states_inv {P : List Pd} {sz st : Nat} (hp : mR P sz st) {R : bK} (h : jV P sz = some R) : ∃ m, R.ks.length ≤ m ∧ ko P m 0 R ∧ R.ks.length ≤ 300 := by
  obtain ⟨m, h1, h2, h3⟩ := ko.qG hp 302 0 _ (ko.first P) h
  exact ⟨m, h1, h2, h3 (by simp)⟩
theorem nxt_open {P : List Pd} {K : List av} : (∃ n, eU P K n ≠ []) ↔ ∃ s ∈ K, bE P s ≠ none := by
  constructor
  · rintro ⟨n, hn⟩
    apply Decidable.byContradiction
    intro hc
    have hno : ∀ s ∈ K, bE P s = none := fun s hs => Decidable.byContradiction fun h => hc ⟨s, hs, h⟩
    have hclo : ∀ i, mZ P K i K := by
      have : ∀ (d i : Nat), K.length - i ≤ d → mZ P K i K := by
        intro d
        induction d with
        | zero => exact fun i h => .done (by omega)
        | succ d ih =>
          intro i h
          by_cases hi : i < K.length
          · refine .step hi ?_
            rw [hno _ (List.getElem_mem hi), F8]
            exact ih (i + 1) (by omega)
          · exact .done (by omega)
      exact fun i => this _ i (Nat.le_refl _)
    have hk := (hclo 0).gM
    apply hn
    refine List.eq_nil_iff_forall_not_mem.2 fun x hx => ?_
    obtain ⟨t, ht, h1, -⟩ := El.1 hx
    rw [← hk] at ht
    rw [hno t ht] at h1
    cases h1
  · rintro ⟨s, hs, hb⟩
    cases h : bE P s with
    | none => exact absurd h hb
    | some n =>
      refine ⟨n, fun e => ?_⟩
      have hc : s ∈ gM P K := by
        have h1 : l9 P K (gM P K) := by
          have : ∀ {l r : List av} {i : Nat}, mZ P l i r → l9 P K l → l9 P K r := by
            intro l r i hd
            induction hd with
            | done _ => exact id
            | step _ _ ih => exact fun hz => ih (hz.add _)
          exact this (KP P K) (l9.refl P K)
        obtain ⟨Z, hz, -⟩ := h1
        rw [hz]
        exact List.mem_append.2 (.inl hs)
      have : (s.1, s.2 + 1) ∈ eU P K n := El.2 ⟨s, hc, h, rfl⟩
      rw [e] at this
      cases this
theorem stR_pos {s : ByteArray} {x : Nat × Nat} (h : kY s = .error x) : x.1 ≠ 0 := by
  unfold kY at h
  cases hm : eZ s with
  | error y => rw [hm] at h; cases h; exact Yp hm
  | ok g =>
    rw [hm] at h
    simp only at h
    split at h
    · cases h; decide
    · cases h
theorem stR_inv {s : ByteArray} {S : bK} (h : kY s = .ok S) : ∃ g, eZ s = .ok g ∧ jV (bI g) (DR g) = some S := by
  unfold kY at h
  cases hm : eZ s with
  | error y => rw [hm] at h; cases h
  | ok g =>
    rw [hm] at h
    simp only at h
    split at h
    · cases h
    · rename_i S' hS
      cases h
      exact ⟨g, rfl, hS⟩
end Lx
end Go.Proofs.YtjaalkocdbkdeaaGreatDoor
namespace Go.Proofs.YtjaalkocdbkdeaaGreatDoor
open Go Go.RowKit
namespace Lx
theorem oh.leave' {P : List Pd} {sz st : Nat} (hp : mR P sz st) {i : Nat} {K : List av} : ∀ (ns : List Nat) (S : bK), oh P S → S.ks[i]? = some K → oh P (Lx.leave P i K S ns)
  | [], _, h, _ => h
  | n :: ns, S, h, hK => oh.leave' hp ns (Lx.edge P i K S n) (h.edge hp hK n) (Pk hK)
theorem oh.qG {P : List Pd} {sz st : Nat} (hp : mR P sz st) {R : bK} : ∀ (f i : Nat) (S : bK), oh P S → qG P sz f i S = some R → oh P R
  | 0, _, _, _, h => by cases h
  | f + 1, i, S, hI, h => by
    rw [Lx.qG] at h
    split at h
    · rename_i hi
      split at h
      · cases h
      · exact oh.qG hp f (i + 1) _ (oh.leave' hp _ S hI (List.getElem?_eq_getElem hi)) h
    · cases h
      exact hI
structure StF (P : List Pd) (S : bK) : Prop where
  wK : ∀ (i : Nat) (K : List av), S.ks[i]? = some K → ∀ s ∈ K, s.1 < P.length ∧ s.2 ≤ (qD P s.1).length
  rgt : ∀ k, (qD P k).length ≤ 2002
  rise : ∀ (i : Nat) (K : List av), S.ks[i]? = some K → K.Pairwise dP
  nd : S.ks.Nodup
  pw : S.es.Pairwise fun a b => a.1 < b.1 ∨ (a.1 = b.1 ∧ a.2.1 < b.2.1)
  edge : ∀ (i : Nat) (K : List av), S.ks[i]? = some K → ((∃ e ∈ S.es, e.1 = i) ↔ ∃ s ∈ K, bE P s ≠ none)
  es : ∀ e ∈ S.es, 0 < e.2.2 ∧ ∃ K, S.ks[e.1]? = some K ∧ S.ks[e.2.2]? = some (eU P K e.2.1)
  kn : ∀ j, j < S.ks.length → 0 < j → ∃ e ∈ S.es, e.2.2 = j
  zero : 0 < S.ks.length
  kl : S.ks.length ≤ 300
  tot : ∀ (i : Nat) (K : List av) (m : Nat), S.ks[i]? = some K → eU P K m ≠ [] → ∃ t, (i, m, t) ∈ S.es
  fst : S.ks[0]? = some [(0, 0)]
theorem stF {P : List Pd} {sz st : Nat} (hp : mR P sz st) {S : bK} (h : jV P sz = some S) : StF P S := by
  obtain ⟨m, hm, hI, hl⟩ := states_inv hp h
  have hO := oh.qG hp 302 0 _ (oh.first hp) h
  have hz := (List.getElem?_eq_some_iff.1 hI.zero).1
  have htot : ∀ (i : Nat) (K : List av) (n : Nat), S.ks[i]? = some K → eU P K n ≠ [] → ∃ t, (i, n, t) ∈ S.es := fun i K n hK hn => by
    have hi := (List.getElem?_eq_some_iff.1 hK).1
    exact hI.all i K n hK (.inl (by omega)) hn
  refine ⟨fun i K hK s hs => ⟨((hO i K hK).wK s hs).1, ((hO i K hK).wK s hs).2.1⟩, Pj hp, hI.rise, hI.nd, hI.pw, fun i K hK => ?_, fun e he => ?_, fun j h1 h2 => ?_, hz, hl, htot, hI.zero⟩
  · rw [← nxt_open]
    constructor
    · rintro ⟨e, he, rfl⟩
      obtain ⟨-, -, K', h1, -, h3⟩ := hI.es e he
      rw [hK] at h1
      cases h1
      exact ⟨_, h3⟩
    · rintro ⟨n, hn⟩
      obtain ⟨t, ht⟩ := htot i K n hK hn
      exact ⟨_, ht, rfl⟩
  · obtain ⟨-, h2, K, h3, h4, -⟩ := hI.es e he
    exact ⟨h2, K, h3, h4⟩
  · obtain ⟨f, n, h3⟩ := hI.kn j h1 h2
    exact ⟨_, h3, rfl⟩
end Lx
open Tr in
theorem ahP.form {s : ByteArray} {w : World} {e : Ending} {w' : World} (h : ahP s w e w') : ∃ (ta na pa ba ka : Option Addr) (nT tc nN nc nP pc nb bc nk kc : Nat) (n a : Int), e = .returned (.tuple #[.agg #[.slice ta nT tc, .slice na nN nc, .slice pa nP pc, .slice ba nb bc, .slice ka nk kc], .int .i64 n, .int .i64 a]) ∧ Below w.heap.size w w' := by
  obtain ⟨v, n, a, rfl, hb, hok, sH⟩ := h
  cases hm : Lx.eZ s with
  | error x =>
    obtain ⟨-, -, rfl⟩ := sH x hm
    exact ⟨none, none, none, none, none, 0, 0, 0, 0, 0, 0, 0, 0, 0, 0, _, _, rfl, hb⟩
  | ok g =>
    obtain ⟨-, -, vT, vN, vP, vB, vK, rfl, h1, h2, h3, h4, h5⟩ := hok g hm
    obtain ⟨ta, tc, rfl, -⟩ := aF h1
    obtain ⟨na, nc, rfl, -⟩ := aF h2
    obtain ⟨ba, bc, rfl, -⟩ := aF h4
    obtain ⟨ka, kc, rfl, -⟩ := aF h5
    obtain ⟨pa, pc, rfl, -⟩ : ∃ a c, vP = .slice a (Lx.bI g).length c ∧ (Lx.bI g).length ≤ maxLen := by obtain ⟨ps, h1, h2, -⟩ := h3; exact aF h2
    exact ⟨_, _, _, _, _, _, _, _, _, _, _, _, _, _, _, _, _, rfl, hb⟩
end Go.Proofs.YtjaalkocdbkdeaaGreatDoor
namespace Go.Proofs.YtjaalkocdbkdeaaGreatDoor
open Go.RowKit
open Tr
set_option maxHeartbeats 8000000 in
set_option maxRecDepth 100000 in
theorem lbehind_any {D : Nat → Prop} {w : World} {ta na ba ka : Option Addr} {nT tc nN nc nb bc nk kc : Nat} {vP : Value} {P : List Lx.Pd} (hP : PP D w vP P) (s : Lx.av) (hs : s.1 < P.length) (hd : s.2 ≤ (Lx.qD P s.1).length) (hrm : (Lx.qD P s.1).length ≤ 100000) : Calls Tryz.prog 14 #[.agg #[.slice ta nT tc, .slice na nN nc, vP, .slice ba nb bc, .slice ka nk kc], .agg #[.int .i64 (s.1 : Int), .int .i64 (s.2 : Int)]] w fun e w' => e = .returned (.int .i64 (rQ P s)) ∧ Below w.heap.size w w' := by
  obtain ⟨gP, Ao, u, hvp, hu, x0, x1, x2⟩ := hP.at hs
  subst hvp
  obtain ⟨ua, uc, hva, -⟩ := aF hu
  have hb : rQ P s = match (P[s.1].right)[s.2]? with
    | some n => (n : Int)
    | none => -1 := by unfold rQ Lx.bE; rw [Ep hs]; cases (P[s.1].right)[s.2]? <;> rfl
  rw [Ep hs] at hd hrm
  have hur : IR 0 w u P[s.1].right := hu
  obtain ⟨k, d⟩ := s
  simp only at hs hd hrm x0 x1 x2 hb hva hur ⊢
  generalize P[k].right = r at *
  subst hva
  have HB : Hid (rQ P (k, d) = match r[d]? with
    | some n => (n : Int)
    | none => -1) := hb
  clear hb hu hP
  have i1 : (0 : Int) ≤ (k : Int) := by omega
  have i2 : (k : Int) < (P.length : Int) := by omega
  have i3 : ((k : Int) < 0) = False := eq_false (by omega)
  have i4 : ((P.length : Int) ≤ (k : Int)) = False := eq_false (by omega)
  have i5 : ((d : Int) < 0) = False := eq_false (by omega)
  have i6 : ((r.length : Int) < (d : Int)) = False := eq_false (by omega)
  obtain ⟨W0, hW0⟩ : ∃ W, W = (w.alloc (.cells #[.slice ta nT tc, .slice na nN nc, .slice (some ⟨gP, 0, none⟩) P.length Ao, .slice ba nb bc, .slice ka nk kc] 45)).alloc (.cells #[.int .i64 (k : Int), .int .i64 (d : Int)] 36) := ⟨_, rfl⟩
  have hb0 : Below w.heap.size w W0 := by rw [hW0]; exact ((Below.refl _ _).alloc (Nat.le_refl _) _).alloc (by simp) _
  have rO : aj W0 w.heap.size #[.slice ta nT tc, .slice na nN nc, .slice (some ⟨gP, 0, none⟩) P.length Ao, .slice ba nb bc, .slice ka nk kc] 45 := by rw [hW0]; exact (aj.new w _ 45).alloc _
  have AY : aj W0 (w.heap.size + 1) #[.int .i64 (k : Int), .int .i64 (d : Int)] 36 := by rw [hW0]; simpa using aj.new (w.alloc (.cells #[.slice ta nT tc, .slice na nN nc, .slice (some ⟨gP, 0, none⟩) P.length Ao, .slice ba nb bc, .slice ka nk kc] 45)) #[.int .i64 (k : Int), .int .i64 (d : Int)] 36
  have a2 : W0.cell? ⟨w.heap.size, 2, none⟩ = some (.slice (some ⟨gP, 0, none⟩) P.length Ao) := rO.cell 2
  have s0 : W0.cell? ⟨w.heap.size + 1, 0, none⟩ = some (.int .i64 (k : Int)) := AY.cell 0
  have s1 : W0.cell? ⟨w.heap.size + 1, 1, none⟩ = some (.int .i64 (d : Int)) := AY.cell 1
  have y1 : W0.cell? ⟨gP, k * 3 + 1, none⟩ = some (.slice ua r.length uc) := jS hb0 x1
  have hs0 := hb0.size
  go_enter Tryz.func14, Tryz.ntmps14
  go_upto_region 1 with fail
  rw [← hW0]
  clear hW0 x0 x1 x2 rO AY
  go_quiet (fail)
  obtain ⟨W1, hW1⟩ : ∃ V, V = W0.drewN nq := ⟨_, rfl⟩
  have hb1 : Below W0.heap.size W0 W1 := by rw [hW1]; exact ⟨rfl, rfl, rfl, Nat.le_refl _, fun _ _ => rfl⟩
  rw [← hW1]
  clear hW1
  have a21 := jS hb1 a2
  have s01 := jS hb1 s0
  have s11 := jS hb1 s1
  have y11 := jS hb1 y1
  have hur1 : IR 0 W1 (.slice ua r.length uc) r := own_below (own_below hur hb0) hb1
  have fM : Below w.heap.size w W1 := hb0.trans (hb1.mono hs0)
  clear a2 s0 s1 y1 hur
  go_upto_region 3 with fail
  go_quiet (fail)
  obtain ⟨W2, hW2⟩ : ∃ V, V = W1.drewN nq := ⟨_, rfl⟩
  have hb2 : Below W1.heap.size W1 W2 := by rw [hW2]; exact ⟨rfl, rfl, rfl, Nat.le_refl _, fun _ _ => rfl⟩
  rw [← hW2]
  clear hW2
  have a22 := jS hb2 a21
  have s02 := jS hb2 s01
  have s12 := jS hb2 s11
  have y12 := jS hb2 y11
  have hur2 : IR 0 W2 (.slice ua r.length uc) r := own_below hur1 hb2
  have hbw2 : Below w.heap.size w W2 := fM.trans (hb2.mono fM.size)
  clear a21 s01 s11 y11 hur1
  by_cases hdl : d = r.length
  · have HB2 : Hid (rQ P (k, d) = -1) := by show _ = _; rw [HB.out, List.getElem?_eq_none (by omega)]
    have j1 : ((d : Int) == (r.length : Int)) = true := by simp [hdl]
    have j2 : (d : Int) = (r.length : Int) := by omega
    clear HB hur2 hdl
    go_wp2_with fail
    go_ret
    exact ⟨by rw [HB2.out]; rfl, hbw2⟩
  · have hlt : d < r.length := by omega
    obtain ⟨gU, ZJ, hvu, lU, cU⟩ := hur2.at hlt
    cases hvu
    have HB2 : Hid (rQ P (k, d) = (r[d] : Int)) := by show _ = _; rw [HB.out, List.getElem?_eq_getElem hlt]
    generalize r[d] = n at cU HB2
    have j1 : ((d : Int) == (r.length : Int)) = false := beq_eq_false_iff_ne.2 (by omega)
    have j2 : ¬ (d : Int) = (r.length : Int) := by omega
    have j3 : ¬ d = r.length := hdl
    have j4 : (0 : Int) ≤ (d : Int) := by omega
    have j5 : (d : Int) < (r.length : Int) := by omega
    clear HB hdl
    go_wp2_with fail
    go_quiet (fail)
    have hbd : Below w.heap.size w (W2.drewN nq) := hbw2.trans ⟨rfl, rfl, rfl, Nat.le_refl _, fun _ _ => rfl⟩
    go_wp2_with fail
    go_ret
    exact ⟨by rw [HB2.out]; rfl, hbd⟩
end Go.Proofs.YtjaalkocdbkdeaaGreatDoor
namespace Go.Proofs.YtjaalkocdbkdeaaGreatDoor
open Go.RowKit
open Tr
theorem bhI_cases (P : List Lx.Pd) (s : Lx.av) : (Lx.bE P s = none ∧ rQ P s = -1) ∨ (Lx.bE P s ≠ none ∧ 0 ≤ rQ P s) := by
  unfold rQ
  cases h : Lx.bE P s with
  | none => exact .inl ⟨rfl, rfl⟩
  | some n => exact .inr ⟨by simp, by simp only; omega⟩
theorem ex_take_succ {α : Type} {l : List α} {j : Nat} (hj : j < l.length) {p : α → Prop} : (∃ x ∈ l.take (j + 1), p x) ↔ (∃ x ∈ l.take j, p x) ∨ p l[j] := by
  rw [List.take_succ_eq_append_getElem hj]
  constructor
  · rintro ⟨x, hx, hp⟩
    rcases List.mem_append.1 hx with h | h
    · exact .inl ⟨x, h, hp⟩
    · rw [List.mem_singleton] at h; subst h; exact .inr hp
  · rintro (⟨x, hx, hp⟩ | hp)
    · exact ⟨x, List.mem_append.2 (.inl hx), hp⟩
    · exact ⟨_, List.mem_append.2 (.inr List.mem_cons_self), hp⟩
def AnyB {α : Type} (p : α → Prop) (b : Bool) (l : List α) : Prop := b = true ↔ ∃ x ∈ l, p x
theorem AnyB.nil {α : Type} (p : α → Prop) (l : List α) : AnyB p false (l.take 0) := by unfold AnyB; simp
theorem AnyB.old {α : Type} {p : α → Prop} {l : List α} {j : Nat} (hj : j < l.length) (h : AnyB p true (l.take j)) : AnyB p true (l.take (j + 1)) := by
  unfold AnyB at *
  rw [ex_take_succ hj]
  exact ⟨fun _ => .inl (h.1 rfl), fun _ => rfl⟩
theorem AnyB.new {α : Type} {p : α → Prop} {l : List α} {j : Nat} (hj : j < l.length) (h : p l[j]) : AnyB p true (l.take (j + 1)) := by
  unfold AnyB
  rw [ex_take_succ hj]
  exact ⟨fun _ => .inr h, fun _ => rfl⟩
theorem AnyB.no {α : Type} {p : α → Prop} {l : List α} {j : Nat} (hj : j < l.length) (h0 : AnyB p false (l.take j)) (h : ¬ p l[j]) : AnyB p false (l.take (j + 1)) := by
  unfold AnyB at *
  rw [ex_take_succ hj]
  exact ⟨fun e => (by cases e), fun e => e.elim (fun e => h0.2 e) (fun e => absurd e h)⟩
theorem AnyB.all {α : Type} {p : α → Prop} {b : Bool} {l : List α} (h : AnyB p b (l.take l.length)) : b = true ↔ ∃ x ∈ l, p x := by
  unfold AnyB at h
  rwa [List.take_length] at h
def SameB (K K' : List Lx.av) (b : Bool) (k : Nat) : Prop := b = true → K.length = K'.length ∧ ∀ i, i < k → K[i]? = K'[i]?
theorem SameB.step {K K' : List Lx.av} {k : Nat} (h : SameB K K' true k) (he : K[k]? = K'[k]?) : SameB K K' true (k + 1) := fun _ => ⟨(h rfl).1, fun i hi => by
  by_cases e : i = k
  · subst e; exact he
  · exact (h rfl).2 i (by omega)⟩
theorem SameB.off (K K' : List Lx.av) (k : Nat) : SameB K K' false k := fun h => by cases h
theorem SameB.done {K K' : List Lx.av} (h : SameB K K' true K.length) : K = K' := by
  obtain ⟨h1, h2⟩ := h rfl
  apply List.ext_getElem?
  intro i
  by_cases hi : i < K.length
  · exact h2 i hi
  · rw [List.getElem?_eq_none (by omega), List.getElem?_eq_none (by omega)]
noncomputable def once4C : Code := (((Tryz.f6.body.map zV).getD [])[3]?).getD .skip
set_option maxHeartbeats 8000000 in
set_option maxRecDepth 1000000 in
theorem once4 {w w3 wz wr : World} {S : Lx.bK} {K : List Lx.av} {i gkr lc c : Nat} {a : Option Addr} {ve : Value} (hL3 : yE w.heap.size w3 (.slice (some ⟨gkr, 0, none⟩) S.ks.length lc) ve S) (j5 : Below w3.heap.size w3 wr) (hbr : Below wz.heap.size wz wr) (rk : aJ 36 2 dI w.heap.size wz (.slice a K.length c) K) (ek : wr.cell? ⟨gkr, i, none⟩ = some (.slice a K.length c)) (hnd : Hid (S.ks.Nodup)) (HK : Hid (S.ks[i]? = some K)) (hlt : i < S.ks.length) (hkl : S.ks.length ≤ 300)
    {Q0 : Exit → Act → World → Prop} {c0 c1 c2 c4 c5 c6 c7 c8 c9 c10 c11 c12 c13 c15 c16 c17 c18 c19 c21 EU c23 c24 c25 c26 c27 c28 c29 MI c31 c32 c33 c34 c35 c36 c37 c38 c39 c40 EY c42 c43 c44 c45 c46 c47 c48 c49 c50 c51 MC c53 MH c55 IV SC c58 c59 c60 c61 c62 c63 c64 c65 c66 c67 c68 c69 c70 SE c72 c73 SF c75 c76 c77 c78 c79 c80 c81 c82 c83 c84 c85 c86 c87 c88 c89 c90 c91 c92 c93 c94 c95 c96 c97 c98 c99 aas aat aau aav aaw c105 aax c107 aay c109 aaz aaA aaB aaC aaD aaE c116 c117 aaF c119 aaG aaH aaI aaJ c124 aaK aaL c127 aaM aaN c130 c131 aaO aaP aaQ aaR aaS aaT c138 c139 aaU c141 aaV c143 aks c145 c146 akt c148 aku akv akw c152 akx c154 aky c156 c157 akz c159 c160 akA c162 akB c164 akC akD c167 c168 akE akF c171 akG c173 akH c175 akI akJ akK akL akM akN c182 c183 akO akP akQ akR akS akT akU akV akW c193 c194 akX c196 akY c198 akZ ak0 c201 ak1 c203 ak2 ak3 c206 ak4 c208 ak5 c210 ak6 c212 c213 ak7 ak8 ak9 ala c218 alb alc ald c222 ale alf alg c226 c227 c228 c229 alh ali c232 c233 c234 alj c236 alk alm aln alo alp alq alr als alu alv alx aly alz alA alB alC alD alE aaW aaX aaY aaZ aa0 aa1 aa2 aa3 aa4 : Value}
    (Zt : ∀ (v2 v20 v21 v22 v173 aco v175 acp acr acs acu acv acw v182 v183 acy acz acA acB acC acD acE acF acG v193 v194 acH v196 acI v198 acJ acK v201 acL v203 acM acN v206 acO v208 acP v210 acQ v212 acR acS acT acU : Value) (wq : World), Below wr.heap.size wr wq → Q0 .normal ⟨List.toArray (c0 :: c1 :: v2 :: .slice (some ⟨gkr, 0, none⟩) S.ks.length lc :: c4 :: c5 :: c6 :: c7 :: c8 :: c9 :: c10 :: c11 :: c12 :: c13 :: .int .i64 (i : Int) :: c15 :: c16 :: c17 :: c18 :: c19 :: v20 :: v21 :: v22 :: c23 :: c24 :: c25 :: c26 :: c27 :: c28 :: c29 :: MI :: c31 :: c32 :: c33 :: c34 :: c35 :: c36 :: c37 :: c38 :: c39 :: c40 :: EY :: c42 :: c43 :: c44 :: c45 :: c46 :: c47 :: c48 :: c49 :: c50 :: c51 :: MC :: c53 :: MH :: c55 :: IV :: SC :: c58 :: c59 :: c60 :: c61 :: c62 :: c63 :: c64 :: c65 :: c66 :: c67 :: c68 :: c69 :: c70 :: SE :: c72 :: c73 :: SF :: c75 :: c76 :: c77 :: c78 :: c79 :: c80 :: c81 :: c82 :: c83 :: c84 :: c85 :: c86 :: c87 :: c88 :: c89 :: c90 :: c91 :: c92 :: c93 :: c94 :: c95 :: c96 :: c97 :: c98 :: c99 :: aas :: aat :: aau :: aav :: aaw :: c105 :: aax :: c107 :: aay :: c109 :: aaz :: aaA :: aaB :: aaC :: aaD :: aaE :: c116 :: c117 :: aaF :: c119 :: aaG :: aaH :: aaI :: aaJ :: c124 :: aaK :: aaL :: c127 :: aaM :: aaN :: c130 :: c131 :: aaO :: aaP :: aaQ :: aaR :: aaS :: aaT :: c138 :: c139 :: aaU :: c141 :: aaV :: c143 :: aks :: c145 :: c146 :: akt :: c148 :: aku :: akv :: akw :: c152 :: akx :: c154 :: aky :: c156 :: c157 :: akz :: c159 :: c160 :: akA :: c162 :: akB :: c164 :: akC :: akD :: c167 :: c168 :: akE :: akF :: c171 :: akG :: v173 :: aco :: v175 :: acp :: acr :: acs :: acu :: acv :: acw :: v182 :: v183 :: acy :: acz :: acA :: acB :: acC :: acD :: acE :: acF :: acG :: v193 :: v194 :: acH :: v196 :: acI :: v198 :: acJ :: acK :: v201 :: acL :: v203 :: acM :: acN :: v206 :: acO :: v208 :: acP :: v210 :: acQ :: v212 :: acR :: acS :: acT :: acU :: ala :: c218 :: alb :: alc :: ald :: c222 :: ale :: alf :: alg :: c226 :: c227 :: c228 :: c229 :: alh :: ali :: c232 :: c233 :: c234 :: alj :: c236 :: alk :: alm :: aln :: alo :: alp :: alq :: alr :: als :: alu :: alv :: alx :: aly :: alz :: alA :: alB :: alC :: alD :: alE :: aaW :: aaX :: aaY :: aaZ :: aa0 :: aa1 :: aa2 :: aa3 :: aa4 :: []), []⟩ wq) :
    Code.wp Tryz.prog (Code.loop once4C) (Exit.inBlock 6 Q0) ⟨List.toArray (c0 :: c1 :: c2 :: .slice (some ⟨gkr, 0, none⟩) S.ks.length lc :: c4 :: c5 :: c6 :: c7 :: c8 :: c9 :: c10 :: c11 :: c12 :: c13 :: .int .i64 (i : Int) :: c15 :: c16 :: c17 :: c18 :: c19 :: .int .i64 0 :: c21 :: EU :: c23 :: c24 :: c25 :: c26 :: c27 :: c28 :: c29 :: MI :: c31 :: c32 :: c33 :: c34 :: c35 :: c36 :: c37 :: c38 :: c39 :: c40 :: EY :: c42 :: c43 :: c44 :: c45 :: c46 :: c47 :: c48 :: c49 :: c50 :: c51 :: MC :: c53 :: MH :: c55 :: IV :: SC :: c58 :: c59 :: c60 :: c61 :: c62 :: c63 :: c64 :: c65 :: c66 :: c67 :: c68 :: c69 :: c70 :: SE :: c72 :: c73 :: SF :: c75 :: c76 :: c77 :: c78 :: c79 :: c80 :: c81 :: c82 :: c83 :: c84 :: c85 :: c86 :: c87 :: c88 :: c89 :: c90 :: c91 :: c92 :: c93 :: c94 :: c95 :: c96 :: c97 :: c98 :: c99 :: aas :: aat :: aau :: aav :: aaw :: c105 :: aax :: c107 :: aay :: c109 :: aaz :: aaA :: aaB :: aaC :: aaD :: aaE :: c116 :: c117 :: aaF :: c119 :: aaG :: aaH :: aaI :: aaJ :: c124 :: aaK :: aaL :: c127 :: aaM :: aaN :: c130 :: c131 :: aaO :: aaP :: aaQ :: aaR :: aaS :: aaT :: c138 :: c139 :: aaU :: c141 :: aaV :: c143 :: aks :: c145 :: c146 :: akt :: c148 :: aku :: akv :: akw :: c152 :: akx :: c154 :: aky :: c156 :: c157 :: akz :: c159 :: c160 :: akA :: c162 :: akB :: c164 :: akC :: akD :: c167 :: c168 :: akE :: akF :: c171 :: akG :: c173 :: akH :: c175 :: akI :: akJ :: akK :: akL :: akM :: akN :: c182 :: c183 :: akO :: akP :: akQ :: akR :: akS :: akT :: akU :: akV :: akW :: c193 :: c194 :: akX :: c196 :: akY :: c198 :: akZ :: ak0 :: c201 :: ak1 :: c203 :: ak2 :: ak3 :: c206 :: ak4 :: c208 :: ak5 :: c210 :: ak6 :: c212 :: c213 :: ak7 :: ak8 :: ak9 :: ala :: c218 :: alb :: alc :: ald :: c222 :: ale :: alf :: alg :: c226 :: c227 :: c228 :: c229 :: alh :: ali :: c232 :: c233 :: c234 :: alj :: c236 :: alk :: alm :: aln :: alo :: alp :: alq :: alr :: als :: alu :: alv :: alx :: aly :: alz :: alA :: alB :: alC :: alD :: alE :: aaW :: aaX :: aaY :: aaZ :: aa0 :: aa1 :: aa2 :: aa3 :: aa4 :: []), []⟩ wr := by
  have i1 : (0 : Int) ≤ (i : Int) := by omega
  have i2 : (i : Int) < (S.ks.length : Int) := by omega
  conv => arg 2; arg 1; whnf
  go_loopg [20] i (fun m jv wq => ∃ j : Nat, j + m = i ∧ jv = .int .i64 (j : Int) ∧ Below wr.heap.size wr wq)
  case atStart => exact ⟨0, by omega, rfl, Below.refl _ _⟩
  case round =>
    revert wr
    intro wq hrel
    obtain ⟨j, amN, rfl, hbq⟩ := hrel
    have hsq := hbq.size
    have ajO := j5.size
    have hbwq : Below w3.heap.size w3 wq := j5.trans (hbq.mono ajO)
    by_cases hji : j < i
    · obtain ⟨K', hK'⟩ : ∃ K', S.ks[j]? = some K' := ⟨_, List.getElem?_eq_getElem (by omega)⟩
      have HNe : Hid (K ≠ K') := fun e => by
        subst e
        obtain ⟨l1, e1⟩ := List.getElem?_eq_some_iff.1 HK.out
        obtain ⟨l2, e2⟩ := List.getElem?_eq_some_iff.1 hK'
        have := (List.getElem_inj hnd.out).1 (e1.trans e2.symm)
        omega
      have ekq := jS hbq ek
      have rkq : aJ 36 2 dI w.heap.size wq (.slice a K.length c) K := aJ.below (aJ.below rk hbr) hbq
      obtain ⟨gk3, kcap3, a3, c3, hv3, -, ck3, rk3⟩ := (hL3.1.below hbwq).at hK'
      cases hv3
      have akp : K'.length ≤ maxLen := by obtain ⟨_, _, -, h⟩ := aF rk3; exact h
      unfold maxLen at akp
      have n1 : (0 : Int) ≤ (j : Int) := by omega
      have n2 : (j : Int) < (i : Int) := by omega
      have n3 : (j : Int) < (S.ks.length : Int) := by omega
      clear hK'
      go_upto_region 27 with fail
      go_quiet (fail)
      have hbd : Below wq.heap.size wq (wq.drewN nq) := ⟨rfl, rfl, rfl, Nat.le_refl _, fun _ _ => rfl⟩
      go_wp2_with fail
      go_loopg [21, 22] K.length (fun m sv kv wv => ∃ (k : Nat) (b3 : Bool), k + m = K.length ∧ kv = .int .i64 (k : Int) ∧ sv = .bool b3 ∧ Below wq.heap.size wq wv ∧ Hid (SameB K K' b3 k))
      case atStart => exact ⟨0, _, by omega, rfl, rfl, hbd, fun h => ⟨(by have h' : (K.length : Int) = (K'.length : Int) := (by simpa using h); omega), fun i h => absurd h (Nat.not_lt_zero _)⟩⟩
      case round =>
        clear hbd
        revert wr
        intro wv hrel
        obtain ⟨k, b3, hkk3, rfl, rfl, hbv, HSm⟩ := hrel
        have hsv := hbv.size
        have ekv := jS hbv ekq
        have ckv := jS hbv ck3
        have hbrv : Below wr.heap.size wr wv := hbq.trans (hbv.mono hsq)
        cases b3 with
        | false =>
          rcases Classical.em ((k : Int) < (K.length : Int)) with hk | hk
          all_goals
            go_wp2_with fail
            go_roundg (i - (j + 1))
            case measure => omega
            case rel => exact ⟨j + 1, by omega, by go_num, hbrv⟩
        | true =>
          by_cases hk : k < K.length
          · have hk' : k < K'.length := by have := (HSm.out rfl).1; omega
            obtain ⟨gx, amK, hvx, -, -, hcs⟩ := aJ.at qi (aJ.below rkq hbv) hk
            cases hvx
            obtain ⟨gy, capy, hvy, -, -, hcy⟩ := aJ.at qi (aJ.below rk3 hbv) hk'
            cases hvy
            have c0 := hcs 0 _ (by decide) rfl
            have c1 := hcs 1 _ (by decide) rfl
            have d0 := hcy 0 _ (by decide) rfl
            have d1 := hcy 1 _ (by decide) rfl
            have HSt : Hid (K[k] = K'[k] → SameB K K' true (k + 1)) := fun e => HSm.out.step (by rw [List.getElem?_eq_getElem hk, List.getElem?_eq_getElem hk', e])
            clear hcs hcy HSm
            generalize K[k] = x at c0 c1 HSt
            generalize K'[k] = y at d0 d1 HSt
            obtain ⟨x0, x1⟩ := x
            obtain ⟨y0, y1⟩ := y
            simp only [Nat.add_zero] at c0 c1 d0 d1
            have p1 : (0 : Int) ≤ (k : Int) := by omega
            have p2 : (k : Int) < (K.length : Int) := by omega
            have p3 : (k : Int) < (K'.length : Int) := by omega
            have HZ : Hid (∀ nq, Below wq.heap.size wq (wv.drewN nq)) := fun nq => hbv.trans ⟨rfl, rfl, rfl, Nat.le_refl _, fun _ _ => rfl⟩
            by_cases he : x0 = y0 ∧ x1 = y1
            · obtain ⟨rfl, rfl⟩ := he
              have HS2 : Hid (SameB K K' true (k + 1)) := HSt.out rfl
              clear HSt
              go_wp2_with fail
              go_quiet (fail)
              go_wp2_with fail
              go_roundg (K.length - (k + 1))
              case measure => omega
              case rel => exact ⟨k + 1, true, by omega, by go_num, rfl, HZ.out _, HS2⟩
            · clear HSt
              rcases Classical.em (x0 = y0) with h1 | h1
              · subst h1
                have m1 : ((x1 : Int) == (y1 : Int)) = false := beq_eq_false_iff_ne.2 (by omega)
                have m2 : ¬ (x1 : Int) = (y1 : Int) := by omega
                have m3 : ¬ x1 = y1 := by omega
                clear he
                go_wp2_with fail
                go_quiet (fail)
                go_wp2_with fail
                go_roundg (K.length - (k + 1))
                case measure => omega
                case rel => exact ⟨k + 1, false, by omega, by go_num, rfl, HZ.out _, SameB.off _ _ _⟩
              · have m1 : ((x0 : Int) == (y0 : Int)) = false := beq_eq_false_iff_ne.2 (by omega)
                have m2 : ¬ (x0 : Int) = (y0 : Int) := by omega
                clear he
                go_wp2_with fail
                go_quiet (fail)
                go_wp2_with fail
                go_roundg (K.length - (k + 1))
                case measure => omega
                case rel => exact ⟨k + 1, false, by omega, by go_num, rfl, HZ.out _, SameB.off _ _ _⟩
          · obtain rfl : k = K.length := by omega
            exact absurd HSm.out.done HNe.out
    · obtain rfl : j = i := by omega
      have n2 : ¬ (j : Int) < (j : Int) := by omega
      have HEX : Hid _ := Zt
      clear Zt
      go_wp2_with fail
      exact HEX.out _ _ _ _ _ _ _ _ _ _ _ _ _ _ _ _ _ _ _ _ _ _ _ _ _ _ _ _ _ _ _ _ _ _ _ _ _ _ _ _ _ _ _ _ _ _ _ _ _ hbq
noncomputable def once6C : Code := (((Tryz.f6.body.map zV).getD [])[5]?).getD .skip
set_option maxHeartbeats 8000000 in
set_option maxRecDepth 1000000 in
theorem once6 {B : Nat} {wz : World} {S : Lx.bK} {ea : Option Addr} {ec : Nat} (hEz : aJ 38 3 nP B wz (.slice ea S.es.length ec) S.es) (hPw : Hid (S.es.Pairwise fun a b => a.1 < b.1 ∨ (a.1 = b.1 ∧ a.2.1 < b.2.1))) (hem : S.es.length ≤ 9223372036854775807)
    {Q0 : Exit → Act → World → Prop} {c0 c1 c2 c3 c5 c6 c7 c8 c9 c10 c11 c12 c13 c14 c15 c16 c17 c18 c19 c20 c21 EU c24 c25 c26 c27 c28 c29 MI c31 c32 c33 c34 c35 c36 c37 c38 c39 c40 EY c42 c43 c44 c45 c46 c47 c48 c49 c50 c51 MC c53 MH c55 IV SC c58 c59 c60 c61 c62 c63 c64 c65 c66 c67 c68 c69 c70 SE c72 c73 SF c75 c76 c77 c78 c79 c80 c81 c82 c83 c84 c85 c86 c87 c88 c89 c90 c91 c92 c93 c94 c95 c96 c97 c98 c99 aas aat aau aav aaw c105 aax c107 aay c109 aaz aaA aaB aaC aaD aaE c116 c117 aaF c119 aaG aaH aaI aaJ c124 aaK aaL c127 aaM aaN c130 c131 aaO aaP aaQ aaR aaS aaT c138 c139 aaU c141 aaV c143 aks c145 c146 akt c148 aku akv akw c152 akx c154 aky c156 c157 akz c159 c160 akA c162 akB c164 akC akD c167 c168 akE akF c171 akG c173 akH c175 akI akJ akK akL akM akN c182 c183 akO akP akQ akR akS akT akU akV akW c193 c194 akX c196 akY c198 akZ ak0 c201 ak1 c203 ak2 ak3 c206 ak4 c208 ak5 c210 ak6 c212 c213 ak7 ak8 ak9 ala c218 alb alc ald c222 ale alf alg c226 c227 c228 c229 alh ali c232 c233 c234 alj c236 alk alm aln alo alp alq alr als alu alv alx aly alz alA alB alC alD alE aaW aaX aaY aaZ aa0 aa1 aa2 aa3 aa4 : Value}
    (Zt : ∀ (v2 v23 acV v218 acW acX acY v222 acZ ac0 ac1 v226 v227 v228 v229 ac2 ac3 v232 v233 v234 ac4 v236 ac5 ac6 ac7 ac8 ac9 ada adb ade adf adg adh adi adj adk adl adn ado adp v255 v256 v257 v258 v259 v260 v261 v262 : Value) (wq : World), Below wz.heap.size wz wq → Q0 .normal ⟨List.toArray (c0 :: c1 :: v2 :: c3 :: .slice ea S.es.length ec :: c5 :: c6 :: c7 :: c8 :: c9 :: c10 :: c11 :: c12 :: c13 :: c14 :: c15 :: c16 :: c17 :: c18 :: c19 :: c20 :: c21 :: EU :: v23 :: c24 :: c25 :: c26 :: c27 :: c28 :: c29 :: MI :: c31 :: c32 :: c33 :: c34 :: c35 :: c36 :: c37 :: c38 :: c39 :: c40 :: EY :: c42 :: c43 :: c44 :: c45 :: c46 :: c47 :: c48 :: c49 :: c50 :: c51 :: MC :: c53 :: MH :: c55 :: IV :: SC :: c58 :: c59 :: c60 :: c61 :: c62 :: c63 :: c64 :: c65 :: c66 :: c67 :: c68 :: c69 :: c70 :: SE :: c72 :: c73 :: SF :: c75 :: c76 :: c77 :: c78 :: c79 :: c80 :: c81 :: c82 :: c83 :: c84 :: c85 :: c86 :: c87 :: c88 :: c89 :: c90 :: c91 :: c92 :: c93 :: c94 :: c95 :: c96 :: c97 :: c98 :: c99 :: aas :: aat :: aau :: aav :: aaw :: c105 :: aax :: c107 :: aay :: c109 :: aaz :: aaA :: aaB :: aaC :: aaD :: aaE :: c116 :: c117 :: aaF :: c119 :: aaG :: aaH :: aaI :: aaJ :: c124 :: aaK :: aaL :: c127 :: aaM :: aaN :: c130 :: c131 :: aaO :: aaP :: aaQ :: aaR :: aaS :: aaT :: c138 :: c139 :: aaU :: c141 :: aaV :: c143 :: aks :: c145 :: c146 :: akt :: c148 :: aku :: akv :: akw :: c152 :: akx :: c154 :: aky :: c156 :: c157 :: akz :: c159 :: c160 :: akA :: c162 :: akB :: c164 :: akC :: akD :: c167 :: c168 :: akE :: akF :: c171 :: akG :: c173 :: akH :: c175 :: akI :: akJ :: akK :: akL :: akM :: akN :: c182 :: c183 :: akO :: akP :: akQ :: akR :: akS :: akT :: akU :: akV :: akW :: c193 :: c194 :: akX :: c196 :: akY :: c198 :: akZ :: ak0 :: c201 :: ak1 :: c203 :: ak2 :: ak3 :: c206 :: ak4 :: c208 :: ak5 :: c210 :: ak6 :: c212 :: c213 :: ak7 :: ak8 :: ak9 :: acV :: v218 :: acW :: acX :: acY :: v222 :: acZ :: ac0 :: ac1 :: v226 :: v227 :: v228 :: v229 :: ac2 :: ac3 :: v232 :: v233 :: v234 :: ac4 :: v236 :: ac5 :: ac6 :: ac7 :: ac8 :: ac9 :: ada :: adb :: ade :: adf :: adg :: adh :: adi :: adj :: adk :: adl :: adn :: ado :: adp :: v255 :: v256 :: v257 :: v258 :: v259 :: v260 :: v261 :: v262 :: aa4 :: []), []⟩ wq) :
    Code.wp Tryz.prog (Code.loop once6C) (Exit.inBlock 10 Q0) ⟨List.toArray (c0 :: c1 :: c2 :: c3 :: .slice ea S.es.length ec :: c5 :: c6 :: c7 :: c8 :: c9 :: c10 :: c11 :: c12 :: c13 :: c14 :: c15 :: c16 :: c17 :: c18 :: c19 :: c20 :: c21 :: EU :: .int .i64 1 :: c24 :: c25 :: c26 :: c27 :: c28 :: c29 :: MI :: c31 :: c32 :: c33 :: c34 :: c35 :: c36 :: c37 :: c38 :: c39 :: c40 :: EY :: c42 :: c43 :: c44 :: c45 :: c46 :: c47 :: c48 :: c49 :: c50 :: c51 :: MC :: c53 :: MH :: c55 :: IV :: SC :: c58 :: c59 :: c60 :: c61 :: c62 :: c63 :: c64 :: c65 :: c66 :: c67 :: c68 :: c69 :: c70 :: SE :: c72 :: c73 :: SF :: c75 :: c76 :: c77 :: c78 :: c79 :: c80 :: c81 :: c82 :: c83 :: c84 :: c85 :: c86 :: c87 :: c88 :: c89 :: c90 :: c91 :: c92 :: c93 :: c94 :: c95 :: c96 :: c97 :: c98 :: c99 :: aas :: aat :: aau :: aav :: aaw :: c105 :: aax :: c107 :: aay :: c109 :: aaz :: aaA :: aaB :: aaC :: aaD :: aaE :: c116 :: c117 :: aaF :: c119 :: aaG :: aaH :: aaI :: aaJ :: c124 :: aaK :: aaL :: c127 :: aaM :: aaN :: c130 :: c131 :: aaO :: aaP :: aaQ :: aaR :: aaS :: aaT :: c138 :: c139 :: aaU :: c141 :: aaV :: c143 :: aks :: c145 :: c146 :: akt :: c148 :: aku :: akv :: akw :: c152 :: akx :: c154 :: aky :: c156 :: c157 :: akz :: c159 :: c160 :: akA :: c162 :: akB :: c164 :: akC :: akD :: c167 :: c168 :: akE :: akF :: c171 :: akG :: c173 :: akH :: c175 :: akI :: akJ :: akK :: akL :: akM :: akN :: c182 :: c183 :: akO :: akP :: akQ :: akR :: akS :: akT :: akU :: akV :: akW :: c193 :: c194 :: akX :: c196 :: akY :: c198 :: akZ :: ak0 :: c201 :: ak1 :: c203 :: ak2 :: ak3 :: c206 :: ak4 :: c208 :: ak5 :: c210 :: ak6 :: c212 :: c213 :: ak7 :: ak8 :: ak9 :: ala :: c218 :: alb :: alc :: ald :: c222 :: ale :: alf :: alg :: c226 :: c227 :: c228 :: c229 :: alh :: ali :: c232 :: c233 :: c234 :: alj :: c236 :: alk :: alm :: aln :: alo :: alp :: alq :: alr :: als :: alu :: alv :: alx :: aly :: alz :: alA :: alB :: alC :: alD :: alE :: aaW :: aaX :: aaY :: aaZ :: aa0 :: aa1 :: aa2 :: aa3 :: aa4 :: []), []⟩ wz := by
  conv => arg 2; arg 1; whnf
  go_loopg [23] S.es.length (fun m kv wq => ∃ k : Nat, k + m = S.es.length + 1 ∧ 1 ≤ k ∧ kv = .int .i64 (k : Int) ∧ Below wz.heap.size wz wq)
  case atStart => exact ⟨1, by omega, by omega, rfl, Below.refl _ _⟩
  case round =>
    revert wr
    intro wq hrel
    obtain ⟨k, hkk4, hk1, rfl, hbq⟩ := hrel
    have hsq := hbq.size
    by_cases hltk : k < S.es.length
    · obtain ⟨k1, hk2⟩ : ∃ k1, k = k1 + 1 := ⟨k - 1, by omega⟩
      have hk3 : k1 < S.es.length := by omega
      obtain ⟨ge, ecap, hve, -, -, hce⟩ := aJ.at Ht (aJ.below hEz hbq) hltk
      cases hve
      obtain ⟨ge2, ecap2, hve2, -, -, hcf⟩ := aJ.at Ht (aJ.below hEz hbq) hk3
      cases hve2
      have c0 := hce 0 _ (by decide) rfl
      have c1 := hce 1 _ (by decide) rfl
      have d0 := hcf 0 _ (by decide) rfl
      have d1 := hcf 1 _ (by decide) rfl
      have hpw := (List.pairwise_iff_getElem.1 hPw.out) k1 k hk3 hltk (by omega)
      clear hce hcf
      generalize S.es[k] = x at c0 c1 hpw
      generalize S.es[k1] = y at d0 d1 hpw
      obtain ⟨x0, x1, x2⟩ := x
      obtain ⟨y0, y1, y2⟩ := y
      simp only [Nat.add_zero] at c0 c1 d0 d1 hpw
      have n2 : IntKind.i64.wrap ((k : Int) - 1) = (k1 : Int) := by rw [IntKind.wrap_i64]; omega
      have n3 : (0 : Int) ≤ (k1 : Int) := by omega
      have n4 : (k1 : Int) < (S.es.length : Int) := by omega
      have p1 : (0 : Int) ≤ (k : Int) := by omega
      have p2 : (k : Int) < (S.es.length : Int) := by omega
      have HZ : Hid (∀ nq, Below wz.heap.size wz (wq.drewN nq)) := fun nq => hbq.trans ⟨rfl, rfl, rfl, Nat.le_refl _, fun _ _ => rfl⟩
      clear hk2
      rcases hpw with h | ⟨h1, h2⟩
      · have n5 : ((x0 : Int) < (y0 : Int)) = False := eq_false (by omega)
        have n6 : ((y0 : Int) == (x0 : Int)) = false := beq_eq_false_iff_ne.2 (by omega)
        have n7 : ¬ (y0 : Int) = (x0 : Int) := by omega
        have n8 : ¬ y0 = x0 := by omega
        clear h
        go_upto_region 37 with fail
        go_quiet (fail)
        go_wp2_with fail
        go_roundg (S.es.length - k)
        case measure => omega
        case rel => exact ⟨k + 1, by omega, by omega, by go_num, HZ.out _⟩
      · subst h1
        have n6 : ((x1 : Int) ≤ (y1 : Int)) = False := eq_false (by omega)
        clear h2
        go_upto_region 37 with fail
        go_quiet (fail)
        go_wp2_with fail
        go_roundg (S.es.length - k)
        case measure => omega
        case rel => exact ⟨k + 1, by omega, by omega, by go_num, HZ.out _⟩
    · have p2 : ¬ (k : Int) < (S.es.length : Int) := by omega
      have HEX : Hid _ := Zt
      clear Zt
      go_wp2_with fail
      exact HEX.out _ _ _ _ _ _ _ _ _ _ _ _ _ _ _ _ _ _ _ _ _ _ _ _ _ _ _ _ _ _ _ _ _ _ _ _ _ _ _ _ _ _ _ _ _ _ _ _ _ hbq
end Go.Proofs.YtjaalkocdbkdeaaGreatDoor

import Derived.Test.YtjaalkocdbkdeaaGreatDoorSA38
import Derived.Test.YtjaalkocdbkdeaaGreatDoorSA30
import Derived.Laws.Cover3
namespace Go.Proofs.YtjaalkocdbkdeaaGreatDoor
open Go Go.RowKit
namespace Lx
theorem ko.qG {P : List Pd} {sz st : Nat} (hp : mR P sz st) {R : bK} : ∀ (f i : Nat) (S : bK), ko P i 0 S → qG P sz f i S = some R → ∃ m, R.ks.length ≤ m ∧ ko P m 0 R ∧ (S.ks.length ≤ 300 → R.ks.length ≤ 300)
  | 0, i, S, _, h => by cases h
  | f + 1, i, S, hI, h => by
    rw [Lx.qG] at h
    split at h
    · rename_i hi
      split at h
      · cases h
      · rename_i hle
        have hK : S.ks[i]? = some S.ks[i] := List.getElem?_eq_getElem hi
        have h1 := (ko.leave (K := S.ks[i]) sz 0 S hI hK).1
        rw [Nat.zero_add, ← List.range_eq_range'] at h1
        obtain ⟨m, h2, h3, h4⟩ := ko.qG hp f (i + 1) _ (h1.next hp) h
        exact ⟨m, h2, h3, fun _ => h4 (by omega)⟩
    · cases h
      exact ⟨i, by omega, hI, id⟩
theorem states_inv {P : List Pd} {sz st : Nat} (hp : mR P sz st) {R : bK} (h : jV P sz = some R) : ∃ m, R.ks.length ≤ m ∧ ko P m 0 R ∧ R.ks.length ≤ 300 := by
  obtain ⟨m, h1, h2, h3⟩ := ko.qG hp 302 0 _ (ko.first P) h
  exact ⟨m, h1, h2, h3 (by simp)⟩
theorem nxt_open {P : List Pd} {K : List av} : (∃ n, eU P K n ≠ []) ↔ ∃ s ∈ K, bE P s ≠ none := by
  constructor
  · rintro ⟨n, hn⟩
    apply Decidable.byContradiction
    intro hc
    have hno : ∀ s ∈ K, bE P s = none := fun s hs => Decidable.byContradiction fun h => hc ⟨s, hs, h⟩
    have hclo : ∀ i, mZ P K i K := by
      have : ∀ (d i : Nat), K.length - i ≤ d → mZ P K i K := by
        intro d
        induction d with
        | zero => exact fun i h => .done (by omega)
        | succ d ih =>
          intro i h
          by_cases hi : i < K.length
          · refine .step hi ?_
            rw [hno _ (List.getElem_mem hi), F8]
            exact ih (i + 1) (by omega)
          · exact .done (by omega)
      exact fun i => this _ i (Nat.le_refl _)
    have hk := (hclo 0).gM
    apply hn
    refine List.eq_nil_iff_forall_not_mem.2 fun x hx => ?_
    obtain ⟨t, ht, h1, -⟩ := El.1 hx
    rw [← hk] at ht
    rw [hno t ht] at h1
    cases h1
  · rintro ⟨s, hs, hb⟩
    cases h : bE P s with
    | none => exact absurd h hb
    | some n =>
      refine ⟨n, fun e => ?_⟩
      have hc : s ∈ gM P K := by
        have h1 : l9 P K (gM P K) := by
          have : ∀ {l r : List av} {i : Nat}, mZ P l i r → l9 P K l → l9 P K r := by
            intro l r i hd
            induction hd with
            | done _ => exact id
            | step _ _ ih => exact fun hz => ih (hz.add _)
          exact this (KP P K) (l9.refl P K)
        obtain ⟨Z, hz, -⟩ := h1
        rw [hz]
        exact List.mem_append.2 (.inl hs)
      have : (s.1, s.2 + 1) ∈ eU P K n := El.2 ⟨s, hc, h, rfl⟩
      rw [e] at this
      cases this
theorem stR_pos {s : ByteArray} {x : Nat × Nat} (h : kY s = .error x) : x.1 ≠ 0 := by
  unfold kY at h
  cases hm : eZ s with
  | error y => rw [hm] at h; cases h; exact Yp hm
  | ok g =>
    rw [hm] at h
    simp only at h
    split at h
    · cases h; decide
    · cases h
theorem stR_inv {s : ByteArray} {S : bK} (h : kY s = .ok S) : ∃ g, eZ s = .ok g ∧ jV (bI g) (DR g) = some S := by
  unfold kY at h
  cases hm : eZ s with
  | error y => rw [hm] at h; cases h
  | ok g =>
    rw [hm] at h
    simp only at h
    split at h
    · cases h
    · rename_i S' hS
      cases h
      exact ⟨g, rfl, hS⟩
end Lx
end Go.Proofs.YtjaalkocdbkdeaaGreatDoor
namespace Go.Proofs.YtjaalkocdbkdeaaGreatDoor
open Go Go.RowKit
namespace Lx
theorem oh.leave' {P : List Pd} {sz st : Nat} (hp : mR P sz st) {i : Nat} {K : List av} : ∀ (ns : List Nat) (S : bK), oh P S → S.ks[i]? = some K → oh P (Lx.leave P i K S ns)
  | [], _, h, _ => h
  | n :: ns, S, h, hK => oh.leave' hp ns (Lx.edge P i K S n) (h.edge hp hK n) (Pk hK)
theorem oh.qG {P : List Pd} {sz st : Nat} (hp : mR P sz st) {R : bK} : ∀ (f i : Nat) (S : bK), oh P S → qG P sz f i S = some R → oh P R
  | 0, _, _, _, h => by cases h
  | f + 1, i, S, hI, h => by
    rw [Lx.qG] at h
    split at h
    · rename_i hi
      split at h
      · cases h
      · exact oh.qG hp f (i + 1) _ (oh.leave' hp _ S hI (List.getElem?_eq_getElem hi)) h
    · cases h
      exact hI
structure StF (P : List Pd) (S : bK) : Prop where
  wK : ∀ (i : Nat) (K : List av), S.ks[i]? = some K → ∀ s ∈ K, s.1 < P.length ∧ s.2 ≤ (qD P s.1).length
  rgt : ∀ k, (qD P k).length ≤ 2002
  rise : ∀ (i : Nat) (K : List av), S.ks[i]? = some K → K.Pairwise dP
  nd : S.ks.Nodup
  pw : S.es.Pairwise fun a b => a.1 < b.1 ∨ (a.1 = b.1 ∧ a.2.1 < b.2.1)
  edge : ∀ (i : Nat) (K : List av), S.ks[i]? = some K → ((∃ e ∈ S.es, e.1 = i) ↔ ∃ s ∈ K, bE P s ≠ none)
  es : ∀ e ∈ S.es, 0 < e.2.2 ∧ ∃ K, S.ks[e.1]? = some K ∧ S.ks[e.2.2]? = some (eU P K e.2.1)
  kn : ∀ j, j < S.ks.length → 0 < j → ∃ e ∈ S.es, e.2.2 = j
  zero : 0 < S.ks.length
  kl : S.ks.length ≤ 300
  tot : ∀ (i : Nat) (K : List av) (m : Nat), S.ks[i]? = some K → eU P K m ≠ [] → ∃ t, (i, m, t) ∈ S.es
  fst : S.ks[0]? = some [(0, 0)]
theorem stF {P : List Pd} {sz st : Nat} (hp : mR P sz st) {S : bK} (h : jV P sz = some S) : StF P S := by
  obtain ⟨m, hm, hI, hl⟩ := states_inv hp h
  have hO := oh.qG hp 302 0 _ (oh.first hp) h
  have hz := (List.getElem?_eq_some_iff.1 hI.zero).1
  have htot : ∀ (i : Nat) (K : List av) (n : Nat), S.ks[i]? = some K → eU P K n ≠ [] → ∃ t, (i, n, t) ∈ S.es := fun i K n hK hn => by
    have hi := (List.getElem?_eq_some_iff.1 hK).1
    exact hI.all i K n hK (.inl (by omega)) hn
  refine ⟨fun i K hK s hs => ⟨((hO i K hK).wK s hs).1, ((hO i K hK).wK s hs).2.1⟩, Pj hp, hI.rise, hI.nd, hI.pw, fun i K hK => ?_, fun e he => ?_, fun j h1 h2 => ?_, hz, hl, htot, hI.zero⟩
  · rw [← nxt_open]
    constructor
    · rintro ⟨e, he, rfl⟩
      obtain ⟨-, -, K', h1, -, h3⟩ := hI.es e he
      rw [hK] at h1
      cases h1
      exact ⟨_, h3⟩
    · rintro ⟨n, hn⟩
      obtain ⟨t, ht⟩ := htot i K n hK hn
      exact ⟨_, ht, rfl⟩
  · obtain ⟨-, h2, K, h3, h4, -⟩ := hI.es e he
    exact ⟨h2, K, h3, h4⟩
  · obtain ⟨f, n, h3⟩ := hI.kn j h1 h2
    exact ⟨_, h3, rfl⟩
end Lx
open Tr in
theorem ahP.form {s : ByteArray} {w : World} {e : Ending} {w' : World} (h : ahP s w e w') : ∃ (ta na pa ba ka : Option Addr) (nT tc nN nc nP pc nb bc nk kc : Nat) (n a : Int), e = .returned (.tuple #[.agg #[.slice ta nT tc, .slice na nN nc, .slice pa nP pc, .slice ba nb bc, .slice ka nk kc], .int .i64 n, .int .i64 a]) ∧ Below w.heap.size w w' := by
  obtain ⟨v, n, a, rfl, hb, hok, sH⟩ := h
  cases hm : Lx.eZ s with
  | error x =>
    obtain ⟨-, -, rfl⟩ := sH x hm
    exact ⟨none, none, none, none, none, 0, 0, 0, 0, 0, 0, 0, 0, 0, 0, _, _, rfl, hb⟩
  | ok g =>
    obtain ⟨-, -, vT, vN, vP, vB, vK, rfl, h1, h2, h3, h4, h5⟩ := hok g hm
    obtain ⟨ta, tc, rfl, -⟩ := aF h1
    obtain ⟨na, nc, rfl, -⟩ := aF h2
    obtain ⟨ba, bc, rfl, -⟩ := aF h4
    obtain ⟨ka, kc, rfl, -⟩ := aF h5
    obtain ⟨pa, pc, rfl, -⟩ : ∃ a c, vP = .slice a (Lx.bI g).length c ∧ (Lx.bI g).length ≤ maxLen := by obtain ⟨ps, h1, h2, -⟩ := h3; exact aF h2
    exact ⟨_, _, _, _, _, _, _, _, _, _, _, _, _, _, _, _, _, rfl, hb⟩
end Go.Proofs.YtjaalkocdbkdeaaGreatDoor
namespace Go.Proofs.YtjaalkocdbkdeaaGreatDoor
open Go.RowKit
open Tr
set_option maxHeartbeats 8000000 in
set_option maxRecDepth 100000 in
theorem lbehind_any {D : Nat → Prop} {w : World} {ta na ba ka : Option Addr} {nT tc nN nc nb bc nk kc : Nat} {vP : Value} {P : List Lx.Pd} (hP : PP D w vP P) (s : Lx.av) (hs : s.1 < P.length) (hd : s.2 ≤ (Lx.qD P s.1).length) (hrm : (Lx.qD P s.1).length ≤ 100000) : Calls Tryz.prog 14 #[.agg #[.slice ta nT tc, .slice na nN nc, vP, .slice ba nb bc, .slice ka nk kc], .agg #[.int .i64 (s.1 : Int), .int .i64 (s.2 : Int)]] w fun e w' => e = .returned (.int .i64 (rQ P s)) ∧ Below w.heap.size w w' := by
  obtain ⟨gP, Ao, u, hvp, hu, x0, x1, x2⟩ := hP.at hs
  subst hvp
  obtain ⟨ua, uc, hva, -⟩ := aF hu
  have hb : rQ P s = match (P[s.1].right)[s.2]? with
    | some n => (n : Int)
    | none => -1 := by unfold rQ Lx.bE; rw [Ep hs]; cases (P[s.1].right)[s.2]? <;> rfl
  rw [Ep hs] at hd hrm
  have hur : IR 0 w u P[s.1].right := hu
  obtain ⟨k, d⟩ := s
  simp only at hs hd hrm x0 x1 x2 hb hva hur ⊢
  generalize P[k].right = r at *
  subst hva
  have HB : Hid (rQ P (k, d) = match r[d]? with
    | some n => (n : Int)
    | none => -1) := hb
  clear hb hu hP
  have i1 : (0 : Int) ≤ (k : Int) := by omega
  have i2 : (k : Int) < (P.length : Int) := by omega
  have i3 : ((k : Int) < 0) = False := eq_false (by omega)
  have i4 : ((P.length : Int) ≤ (k : Int)) = False := eq_false (by omega)
  have i5 : ((d : Int) < 0) = False := eq_false (by omega)
  have i6 : ((r.length : Int) < (d : Int)) = False := eq_false (by omega)
  obtain ⟨W0, hW0⟩ : ∃ W, W = (w.alloc (.cells #[.slice ta nT tc, .slice na nN nc, .slice (some ⟨gP, 0, none⟩) P.length Ao, .slice ba nb bc, .slice ka nk kc] 45)).alloc (.cells #[.int .i64 (k : Int), .int .i64 (d : Int)] 36) := ⟨_, rfl⟩
  have hb0 : Below w.heap.size w W0 := by rw [hW0]; exact ((Below.refl _ _).alloc (Nat.le_refl _) _).alloc (by simp) _
  have rO : aj W0 w.heap.size #[.slice ta nT tc, .slice na nN nc, .slice (some ⟨gP, 0, none⟩) P.length Ao, .slice ba nb bc, .slice ka nk kc] 45 := by rw [hW0]; exact (aj.new w _ 45).alloc _
  have AY : aj W0 (w.heap.size + 1) #[.int .i64 (k : Int), .int .i64 (d : Int)] 36 := by rw [hW0]; simpa using aj.new (w.alloc (.cells #[.slice ta nT tc, .slice na nN nc, .slice (some ⟨gP, 0, none⟩) P.length Ao, .slice ba nb bc, .slice ka nk kc] 45)) #[.int .i64 (k : Int), .int .i64 (d : Int)] 36
  have a2 : W0.cell? ⟨w.heap.size, 2, none⟩ = some (.slice (some ⟨gP, 0, none⟩) P.length Ao) := rO.cell 2
  have s0 : W0.cell? ⟨w.heap.size + 1, 0, none⟩ = some (.int .i64 (k : Int)) := AY.cell 0
  have s1 : W0.cell? ⟨w.heap.size + 1, 1, none⟩ = some (.int .i64 (d : Int)) := AY.cell 1
  have y1 : W0.cell? ⟨gP, k * 3 + 1, none⟩ = some (.slice ua r.length uc) := jS hb0 x1
  have hs0 := hb0.size
  go_enter Tryz.func14, Tryz.ntmps14
  go_upto_region 1 with fail
  rw [← hW0]
  clear hW0 x0 x1 x2 rO AY
  go_quiet (fail)
  obtain ⟨W1, hW1⟩ : ∃ V, V = W0.drewN nq := ⟨_, rfl⟩
  have hb1 : Below W0.heap.size W0 W1 := by rw [hW1]; exact ⟨rfl, rfl, rfl, Nat.le_refl _, fun _ _ => rfl⟩
  rw [← hW1]
  clear hW1
  have a21 := jS hb1 a2
  have s01 := jS hb1 s0
  have s11 := jS hb1 s1
  have y11 := jS hb1 y1
  have hur1 : IR 0 W1 (.slice ua r.length uc) r := own_below (own_below hur hb0) hb1
  have fM : Below w.heap.size w W1 := hb0.trans (hb1.mono hs0)
  clear a2 s0 s1 y1 hur
  go_upto_region 3 with fail
  go_quiet (fail)
  obtain ⟨W2, hW2⟩ : ∃ V, V = W1.drewN nq := ⟨_, rfl⟩
  have hb2 : Below W1.heap.size W1 W2 := by rw [hW2]; exact ⟨rfl, rfl, rfl, Nat.le_refl _, fun _ _ => rfl⟩
  rw [← hW2]
  clear hW2
  have a22 := jS hb2 a21
  have s02 := jS hb2 s01
  have s12 := jS hb2 s11
  have y12 := jS hb2 y11
  have hur2 : IR 0 W2 (.slice ua r.length uc) r := own_below hur1 hb2
  have hbw2 : Below w.heap.size w W2 := fM.trans (hb2.mono fM.size)
  clear a21 s01 s11 y11 hur1
  by_cases hdl : d = r.length
  · have HB2 : Hid (rQ P (k, d) = -1) := by show _ = _; rw [HB.out, List.getElem?_eq_none (by omega)]
    have j1 : ((d : Int) == (r.length : Int)) = true := by simp [hdl]
    have j2 : (d : Int) = (r.length : Int) := by omega
    clear HB hur2 hdl
    go_wp2_with fail
    go_ret
    exact ⟨by rw [HB2.out]; rfl, hbw2⟩
  · have hlt : d < r.length := by omega
    obtain ⟨gU, ZJ, hvu, lU, cU⟩ := hur2.at hlt
    cases hvu
    have HB2 : Hid (rQ P (k, d) = (r[d] : Int)) := by show _ = _; rw [HB.out, List.getElem?_eq_getElem hlt]
    generalize r[d] = n at cU HB2
    have j1 : ((d : Int) == (r.length : Int)) = false := beq_eq_false_iff_ne.2 (by omega)
    have j2 : ¬ (d : Int) = (r.length : Int) := by omega
    have j3 : ¬ d = r.length := hdl
    have j4 : (0 : Int) ≤ (d : Int) := by omega
    have j5 : (d : Int) < (r.length : Int) := by omega
    clear HB hdl
    go_wp2_with fail
    go_quiet (fail)
    have hbd : Below w.heap.size w (W2.drewN nq) := hbw2.trans ⟨rfl, rfl, rfl, Nat.le_refl _, fun _ _ => rfl⟩
    go_wp2_with fail
    go_ret
    exact ⟨by rw [HB2.out]; rfl, hbd⟩
end Go.Proofs.YtjaalkocdbkdeaaGreatDoor
namespace Go.Proofs.YtjaalkocdbkdeaaGreatDoor
open Go.RowKit
open Tr
theorem jd.below3 {w w' : World} (ht : jd w) (hb : Below w.heap.size w w') : jd w' := ((Lib.tabBelow_of_tabIs ht).on hb).here
theorem bhI_ne {P : List Lx.Pd} {s : Lx.av} : ¬ rQ P s = -2 := by
  unfold rQ
  cases Lx.bE P s with
  | none => decide
  | some n => simp only; omega
def OrB {α : Type} (q : Prop) (p : α → Prop) (b : Bool) (l : List α) : Prop := b = true ↔ q ∨ ∃ x ∈ l, p x
theorem ex_take_succ' {α : Type} {l : List α} {j : Nat} (hj : j < l.length) {p : α → Prop} : (∃ x ∈ l.take (j + 1), p x) ↔ (∃ x ∈ l.take j, p x) ∨ p l[j] := by
  rw [List.take_succ_eq_append_getElem hj]
  constructor
  · rintro ⟨x, hx, hp⟩
    rcases List.mem_append.1 hx with h | h
    · exact .inl ⟨x, h, hp⟩
    · rw [List.mem_singleton] at h; subst h; exact .inr hp
  · rintro (⟨x, hx, hp⟩ | hp)
    · exact ⟨x, List.mem_append.2 (.inl hx), hp⟩
    · exact ⟨_, List.mem_append.2 (.inr List.mem_cons_self), hp⟩
theorem OrB.old {α : Type} {q : Prop} {p : α → Prop} {l : List α} {j : Nat} (hj : j < l.length) (h : OrB q p true (l.take j)) : OrB q p true (l.take (j + 1)) := by
  unfold OrB at *
  rw [ex_take_succ' hj]
  exact ⟨fun _ => (h.1 rfl).elim .inl (fun h => .inr (.inl h)), fun _ => rfl⟩
theorem OrB.new {α : Type} {q : Prop} {p : α → Prop} {l : List α} {j : Nat} (hj : j < l.length) (h : p l[j]) : OrB q p true (l.take (j + 1)) := by
  unfold OrB
  rw [ex_take_succ' hj]
  exact ⟨fun _ => .inr (.inr h), fun _ => rfl⟩
theorem OrB.no {α : Type} {q : Prop} {p : α → Prop} {l : List α} {j : Nat} (hj : j < l.length) (h0 : OrB q p false (l.take j)) (h : ¬ p l[j]) : OrB q p false (l.take (j + 1)) := by
  unfold OrB at *
  rw [ex_take_succ' hj]
  exact ⟨fun e => (by cases e), fun e => h0.2 (e.elim .inl (fun e => e.elim .inr (fun e => absurd e h)))⟩
namespace Lx
theorem nxt_spt {P : List Pd} {K : List av} {n : Nat} {s : av} (h : s ∈ eU P K n) : ∃ d, s.2 = d + 1 ∧ (qD P s.1)[d]? = some n := by
  obtain ⟨t, -, h1, rfl⟩ := El.1 h
  exact ⟨t.2, rfl, h1⟩
theorem nxt_has {P : List Pd} {K : List av} {n : Nat} {s : av} (hs : s ∈ K) (h : bE P s = some n) : (s.1, s.2 + 1) ∈ eU P K n := by
  obtain ⟨a, ha⟩ : ∃ a, gM P K = K ++ a := by
    obtain ⟨Z, hz, -⟩ : l9 P K (gM P K) := by
      have : ∀ {l r : List av} {i : Nat}, mZ P l i r → l9 P K l → l9 P K r := by
        intro l r i hd
        induction hd with
        | done _ => exact id
        | step _ _ ih => exact fun hz => ih (hz.add _)
      exact this (KP P K) (l9.refl P K)
    exact ⟨Z, hz⟩
  exact El.2 ⟨s, by rw [ha]; exact List.mem_append.2 (.inl hs), h, rfl⟩
end Lx
set_option maxHeartbeats 16000000 in
set_option maxRecDepth 100000 in
theorem StateEdges_any (s : ByteArray) (w : World) (hmax : s.size ≤ maxLen) (ht : jd w) : Calls Tryz.prog 4 #[.string s] w fun e w' => e = .returned (.bool true) ∧ Below w.heap.size w w' := by
  have HT : Hid (∀ w', Below w.heap.size w w' → jd w') := fun w' hb => ht.below3 hb
  have HM : Hid (∀ w', Below w.heap.size w w' → Calls Tryz.prog 13 #[.string s] w' (ahP s w')) := fun w' hb => XB s w' hmax (HT.out w' hb)
  have HQ : Hid (∀ w', Calls Tryz.prog 8 #[.string s] w' (yN s w')) := fun w' => ad2 s w'
  have q1 := NR s w hmax ht
  clear hmax ht
  cases hr : Lx.kY s with
  | error x =>
    obtain ⟨-, hN⟩ := Lx.YD hr
    have hx0 := Lx.stR_pos hr
    have HN : Hid (Lx.uS s = x) := hN
    have i1 : ((x.1 : Int) == 0) = false := beq_eq_false_iff_ne.2 (by omega)
    have i2 : ((x.1 : Int) != 0) = true := by simp; omega
    have i3 : ¬ (x.1 : Int) = 0 := by omega
    have i4 : ¬ x.1 = 0 := hx0
    clear hr hN hx0
    go_enter Tryz.func4, Tryz.ntmps4
    go_upto_region 2 with (go_at_call 7; refine q1.mono ?_; rintro e w1 ⟨vl, ve, he, hb1, -, -⟩; rw [HN.out] at he; subst he)
    have q2 := HM.out w1 hb1
    have hs1 := hb1.size
    go_upto_region 3 with (go_at_call 13; refine q2.mono ?_; intro e w2 hE; obtain ⟨ta, na, pa, ba, ka, nT, tc, nN, nc, nP, pc, nb, bc, nk, kc, n, a, rfl, hb2⟩ := hE.form; clear hE)
    have hs2 := hb2.size
    obtain ⟨W2, hW2⟩ : ∃ V, V = w2.alloc (.cells #[.slice ta nT tc, .slice na nN nc, .slice pa nP pc, .slice ba nb bc, .slice ka nk kc] 45) := ⟨_, rfl⟩
    have hbW2 : Below w.heap.size w W2 := by rw [hW2]; exact (hb1.trans (hb2.mono hs1)).alloc (by omega) _
    rw [← hW2]
    clear hW2
    have q3 := HQ.out W2
    have IW := hbW2.size
    go_upto_region 4 with (go_at_call 8; refine q3.mono ?_; rintro e w3 ⟨ml, me, he, hb3, -, -⟩; rw [HN.out] at he; subst he)
    have qJ : Below w.heap.size w w3 := hbW2.trans (hb3.mono IW)
    have q4 := agU w3 (HT.out w3 qJ)
    have hs3 := qJ.size
    clear q1 q2 q3
    go_wp2_with (first | (go_at_call 11; refine (Pq _ _).mono ?_; rintro e w' ⟨rfl, hw⟩; obtain rfl := hw.symm) | (go_at_call 12; refine q4.mono ?_; rintro e w4 ⟨rfl, hb4⟩))
    go_ret
    exact ⟨rfl, qJ.trans (hb4.mono hs3)⟩
  | ok S =>
    obtain ⟨hSe, hN⟩ := Lx.PG hr
    obtain ⟨g, hm, hst⟩ := Lx.stR_inv hr
    have hF := Lx.stF (Y0 (YB w hm) (Lx.Pp hm).2.2) hst
    have HN : Hid (Lx.uS s = (0, 0)) := hN
    have HS : Hid (Lx.xZ s = S) := hSe
    have HG : Hid (Lx.eZ s = .ok g) := hm
    clear hr hN hSe hst hm
    go_enter Tryz.func4, Tryz.ntmps4
    go_upto_region 2 with (go_at_call 7; refine q1.mono ?_; rintro e w1 ⟨vl, ve, he, hb1, hP1, -⟩; rw [HN.out] at he; subst he; rw [HS.out] at hP1)
    have q2 := HM.out w1 hb1
    have hs1 := hb1.size
    go_upto_region 3 with (go_at_call 13; refine q2.mono ?_; rintro e w2 ⟨v, n, a, rfl, hb2, hok, -⟩; obtain ⟨rfl, rfl, vT, vN, vP, vB, vK, rfl, h1, h2, h3, h4, h5⟩ := hok g HG.out; clear hok; obtain ⟨ta, tc, rfl, -⟩ := aF h1; obtain ⟨na, nc, rfl, -⟩ := aF h2; obtain ⟨ba, bc, rfl, -⟩ := aF h4; obtain ⟨ka, kc, rfl, -⟩ := aF h5; obtain ⟨pa, pc, rfl, -⟩ : ∃ a c, vP = .slice a (Lx.bI g).length c ∧ (Lx.bI g).length ≤ maxLen := by (obtain ⟨ps, h1, h2, -⟩ := h3; exact aF h2))
    have hs2 := hb2.size
    obtain ⟨W2, hW2⟩ : ∃ V, V = w2.alloc (.cells #[.slice ta (Lx.aD g).length tc, .slice na (Lx.bg g).length nc, .slice pa (Lx.bI g).length pc, .slice ba (Lx.aD g).length bc, .slice ka (Lx.aD g).length kc] 45) := ⟨_, rfl⟩
    have jw : Below w2.heap.size w2 W2 := by rw [hW2]; exact (Below.refl _ _).alloc (Nat.le_refl _) _
    have hbW2 : Below w.heap.size w W2 := (hb1.trans (hb2.mono hs1)).trans (jw.mono (by omega))
    have kA : aj W2 w2.heap.size #[.slice ta (Lx.aD g).length tc, .slice na (Lx.bg g).length nc, .slice pa (Lx.bI g).length pc, .slice ba (Lx.aD g).length bc, .slice ka (Lx.aD g).length kc] 45 := by rw [hW2]; exact aj.new w2 _ 45
    rw [← hW2]
    clear hW2 h1 h2 h4 h5
    have q3 := HQ.out W2
    have IW := hbW2.size
    go_upto_region 4 with (go_at_call 8; refine q3.mono ?_; rintro e w3 ⟨ml, me, he, hb3, -, -⟩; rw [HN.out] at he; subst he)
    have qJ : Below w.heap.size w w3 := hbW2.trans (hb3.mono IW)
    have hP3 : PP (fun _ => True) w3 (.slice pa (Lx.bI g).length pc) (Lx.bI g) := (h3.below jw).below hb3
    have hL3 : yE w.heap.size w3 vl ve S := ((hP1.below hb2).below jw).below hb3
    have kA3 : aj w3 w2.heap.size _ 45 := (hb3.block _ kA.lt).trans kA
    clear q1 q2 q3 hP1 h3 kA
    generalize (Lx.aD g).length = nT at *
    generalize (Lx.bg g).length = nN at *
    generalize Lx.bI g = P at *
    generalize w2.heap.size = pb at *
    obtain ⟨la, lc, rfl, -⟩ := hL3.1.len
    obtain ⟨ea, ec, rfl, hem⟩ : ∃ a c, ve = Value.slice a S.es.length c ∧ S.es.length ≤ maxLen := aF hL3.2
    unfold maxLen at hem
    have HFn : Hid (Lx.StF P S) := hF
    have hkl := hF.kl
    have hs3 := qJ.size
    clear hF
    have hmk : ∀ wx : World, (Instr.makeSlice 48 (.int .i64 (S.ks.length : Int)) (.int .i64 (S.ks.length : Int))).run Tryz.prog wx = .ok (.slice (some ⟨wx.heap.size, 0, none⟩) S.ks.length S.ks.length) (wx.alloc (.cells (bF (List.replicate S.ks.length false)) 4)) := fun wx => aeX (by omega) wx
    have hk0 := HFn.out.zero
    have i1 : ((S.ks.length : Int) == 0) = false := beq_eq_false_iff_ne.2 (by omega)
    have i2 : ¬ (S.ks.length : Int) = 0 := by omega
    have i3 : ¬ S.ks.length = 0 := by omega
    have i4 : (0 : Int) < (S.ks.length : Int) := by omega
    obtain ⟨W4, hW4⟩ : ∃ V, V = w3.alloc (.cells (bF (List.replicate S.ks.length false)) 4) := ⟨_, rfl⟩
    have fV : aj W4 w3.heap.size (bF (List.replicate S.ks.length false)) 4 := by rw [hW4]; exact aj.new w3 _ 4
    have o0 : W4.cell? ⟨w3.heap.size, 0, none⟩ = some (.bool false) := by rw [fV.cell 0, qx _ (by simp; omega)]; simp [Lx.aS, hk0]
    have o1 : W4.frozen? ⟨w3.heap.size, 0, none⟩ = false := fV.frozen 0
    have GV : Below w3.heap.size w3 W4 := by rw [hW4]; exact (Below.refl _ _).alloc (Nat.le_refl _) _
    go_upto_region 6 with (go_at_call 11; refine (Pq _ _).mono ?_; rintro e w' ⟨rfl, hw⟩; obtain rfl := hw.symm)
    go_upto_region 9 with fail
    rw [← hW4]
    clear hW4 hmk
    go_upto_region 10 with fail
    obtain ⟨W5, mg⟩ : ∃ V, V = W4.setCell ⟨w3.heap.size, 0, none⟩ (.bool true) := ⟨_, rfl⟩
    have l8 : aj W5 w3.heap.size (bF ((List.replicate S.ks.length false).set 0 true)) 4 := by rw [mg, ← zL]; exact fV.set 0 _
    have hb35 : Below w3.heap.size w3 W5 := by rw [mg]; exact GV.setCell (p := ⟨w3.heap.size, 0, none⟩) (Nat.le_refl _) _
    have HC0 : Hid (∀ t, t < S.ks.length → (t = 0 ∨ ∃ e ∈ S.es.take 0, e.2.2 = t) → Lx.aS ((List.replicate S.ks.length false).set 0 true) t = true) := fun t ht h => by
      rcases h with rfl | ⟨e, he, -⟩
      · simp [Lx.aS, ht]
      · simp at he
    have hln0 : ((List.replicate S.ks.length false).set 0 true).length = S.ks.length := by simp
    rw [← mg]
    clear mg fV o0 o1 GV
    generalize (List.replicate S.ks.length false).set 0 true = bl0 at *
    generalize hcb : w3.heap.size = cb at l8 ⊢
    have amv : w3.heap.size ≤ cb := by omega
    clear hcb
    go_wp2_with fail
    go_loopg [15] S.es.length (fun m iv wr => ∃ (i : Nat) (bl : List Bool), i + m = S.es.length ∧ iv = .int .i64 (i : Int) ∧ Below w3.heap.size w3 wr ∧ aj wr cb (bF bl) 4 ∧ bl.length = S.ks.length ∧ Hid (∀ t, t < S.ks.length → (t = 0 ∨ ∃ e ∈ S.es.take i, e.2.2 = t) → Lx.aS bl t = true))
    case atStart => exact ⟨0, bl0, by omega, rfl, hb35, l8, hln0, HC0⟩
    case round =>
      clear l8 hb35 HC0 hln0
      revert wr
      intro wz hrel
      obtain ⟨i, bl, hki, rfl, hbz, kCz, hln, HC⟩ := hrel
      have hsz := hbz.size
      by_cases hlt : i < S.es.length
      · obtain ⟨ge, ecap, hv, -, -, hcs⟩ := aJ.at Ht (aJ.below hL3.2 hbz) hlt
        cases hv
        have c0 := hcs 0 _ (by decide) rfl
        have c1 := hcs 1 _ (by decide) rfl
        have c2 := hcs 2 _ (by decide) rfl
        have hes := HFn.out.es S.es[i] (List.getElem_mem hlt)
        have HCn : Hid (∀ bl', (∀ t, Lx.aS bl t = true → t < S.ks.length → Lx.aS bl' t = true) → Lx.aS bl' S.es[i].2.2 = true → ∀ t, t < S.ks.length → (t = 0 ∨ ∃ e ∈ S.es.take (i + 1), e.2.2 = t) → Lx.aS bl' t = true) := fun bl' h1 h2 t ht h => by
          rcases h with rfl | h
          · exact h1 0 (HC.out 0 ht (.inl rfl)) ht
          · rw [List.take_succ_eq_append_getElem hlt] at h
            obtain ⟨e, he, rfl⟩ := h
            rcases List.mem_append.1 he with he | he
            · exact h1 _ (HC.out _ ht (.inr ⟨e, he, rfl⟩)) ht
            · rw [List.mem_singleton] at he; subst he; exact h2
        clear hcs HC
        generalize S.es[i] = x at c0 c1 c2 hes HCn
        obtain ⟨fr, sy, to'⟩ := x
        simp only [Nat.add_zero] at c0 c1 c2 hes HCn
        obtain ⟨hto, K, hK, hKt⟩ := hes
        have hfl := (List.getElem?_eq_some_iff.1 hK).1
        have htl := (List.getElem?_eq_some_iff.1 hKt).1
        have j1 : (0 : Int) ≤ (i : Int) := by omega
        have j2 : (i : Int) < (S.es.length : Int) := by omega
        have j3 : ¬ (fr : Int) < 0 := by omega
        have j4 : ¬ (S.ks.length : Int) ≤ (fr : Int) := by omega
        have j5 : ¬ (to' : Int) ≤ 0 := by omega
        have j6 : ¬ (S.ks.length : Int) ≤ (to' : Int) := by omega
        have j7 : (0 : Int) ≤ (to' : Int) := by omega
        have j8 : (to' : Int) < (S.ks.length : Int) := by omega
        have j9 : (0 : Int) ≤ (fr : Int) := by omega
        have j10 : (fr : Int) < (S.ks.length : Int) := by omega
        obtain ⟨W6, hW6⟩ : ∃ V, V = wz.alloc (.cells #[.int .i64 (fr : Int), .int .i64 (sy : Int), .int .i64 (to' : Int)] 38) := ⟨_, rfl⟩
        have hb6 : Below wz.heap.size wz W6 := by rw [hW6]; exact (Below.refl _ _).alloc (Nat.le_refl _) _
        have kX6 : aj W6 wz.heap.size #[.int .i64 (fr : Int), .int .i64 (sy : Int), .int .i64 (to' : Int)] 38 := by rw [hW6]; exact aj.new wz _ 38
        have Q7 : aj W6 cb (bF bl) 4 := by rw [hW6]; exact kCz.alloc _
        have hs6 := hb6.size
        have x0 : W6.cell? ⟨wz.heap.size, 0, none⟩ = some (.int .i64 (fr : Int)) := kX6.cell 0
        have x2 : W6.cell? ⟨wz.heap.size, 2, none⟩ = some (.int .i64 (to' : Int)) := kX6.cell 2
        have o0 : W6.cell? ⟨cb, to', none⟩ = some (.bool (Lx.aS bl to')) := by rw [Q7.cell to', qx _ (by omega)]
        have o1 : W6.frozen? ⟨cb, to', none⟩ = false := Q7.frozen _
        go_upto_region 14 with fail
        rw [← hW6]
        clear hW6 c0 c1 c2
        go_upto_region 17 with fail
        obtain ⟨W7, hW7⟩ : ∃ V, V = W6.setCell ⟨cb, to', none⟩ (.bool true) := ⟨_, rfl⟩
        have hbx : cb ≠ wz.heap.size := fun e => by have := kCz.lt; omega
        have Mk : aj W7 cb (bF (bl.set to' true)) 4 := by rw [hW7, ← zL]; exact Q7.set to' _
        have kX7 : aj W7 wz.heap.size #[.int .i64 (fr : Int), .int .i64 (sy : Int), .int .i64 (to' : Int)] 38 := by rw [hW7]; exact kX6.other hbx _
        have hb37 : Below w3.heap.size w3 W7 := by rw [hW7]; exact (hbz.trans (hb6.mono hsz)).setCell (p := ⟨cb, to', none⟩) amv _
        have HCm : Hid (∀ t, t < S.ks.length → (t = 0 ∨ ∃ e ∈ S.es.take (i + 1), e.2.2 = t) → Lx.aS (bl.set to' true) t = true) := HCn.out _ (fun t h1 h2 => by
          by_cases e : to' = t
          · subst e; simp [Lx.aS, hln, h2]
          · simpa [Lx.aS, List.getElem?_set, e] using h1) (by simp [Lx.aS, hln, htl])
        have hln2 : (bl.set to' true).length = S.ks.length := by rw [List.length_set]; exact hln
        rw [← hW7]
        clear hW7 HCn Q7 kX6 x0 x2 o0 o1 kCz hb6
        generalize bl.set to' true = bl2 at Mk HCm hln2
        generalize wz.heap.size = xb at kX7 ⊢
        have HKt : Hid (S.ks[to']? = some (Lx.eU P K sy)) := hKt
        have HK : Hid (S.ks[fr]? = some K) := hK
        have hs7 := hb37.size
        clear hKt hK
        go_wp2_with fail
        go_loopg [17] (Lx.eU P K sy).length (fun m kv wr => ∃ k : Nat, k + m = (Lx.eU P K sy).length ∧ kv = .int .i64 (k : Int) ∧ Below W7.heap.size W7 wr)
        case atStart => exact ⟨0, by omega, rfl, Below.refl _ _⟩
        case round =>
          revert wr
          intro wr hrel
          obtain ⟨k, hkk, rfl, hbr⟩ := hrel
          have hsr := hbr.size
          have ZC : Below w3.heap.size w3 wr := hb37.trans (hbr.mono hs7)
          have kXr : aj wr xb _ 38 := (hbr.block _ kX7.lt).trans kX7
          have x0 : wr.cell? ⟨xb, 0, none⟩ = some (.int .i64 (fr : Int)) := kXr.cell 0
          have x1 : wr.cell? ⟨xb, 1, none⟩ = some (.int .i64 (sy : Int)) := kXr.cell 1
          have x2 : wr.cell? ⟨xb, 2, none⟩ = some (.int .i64 (to' : Int)) := kXr.cell 2
          obtain ⟨gk, akj, ka', kc', hv, -, ck, rk⟩ := (hL3.1.below ZC).at HKt.out
          cases hv
          have hkm : (Lx.eU P K sy).length ≤ maxLen := by obtain ⟨_, _, -, h⟩ := aF rk; exact h
          unfold maxLen at hkm
          by_cases hltk : k < (Lx.eU P K sy).length
          · obtain ⟨gx, amK, hvx, -, -, hcs⟩ := aJ.at qi rk hltk
            cases hvx
            have c0 := hcs 0 _ (by decide) rfl
            have c1 := hcs 1 _ (by decide) rfl
            have hsp := HFn.out.wK to' _ HKt.out _ (List.getElem_mem hltk)
            obtain ⟨d, hd1, hd2⟩ := Lx.nxt_spt (List.getElem_mem hltk)
            have hrl := HFn.out.rgt (Lx.eU P K sy)[k].1
            clear hcs
            generalize (Lx.eU P K sy)[k] = sp at c0 c1 hsp hd1 hd2 hrl
            obtain ⟨p0, d0⟩ := sp
            simp only [Nat.add_zero] at c0 c1 hsp hd1 hd2 hrl
            have HD1 : Hid (d0 = d + 1) := hd1
            clear hd1
            have n1 : (0 : Int) ≤ (k : Int) := by omega
            have n2 : (k : Int) < ((Lx.eU P K sy).length : Int) := by omega
            obtain ⟨W8, hW8⟩ : ∃ V, V = wr.alloc (.cells #[.int .i64 (p0 : Int), .int .i64 (d0 : Int)] 36) := ⟨_, rfl⟩
            have jR : Below wr.heap.size wr W8 := by rw [hW8]; exact (Below.refl _ _).alloc (Nat.le_refl _) _
            have kS8 : aj W8 wr.heap.size #[.int .i64 (p0 : Int), .int .i64 (d0 : Int)] 36 := by rw [hW8]; exact aj.new wr _ 36
            have hb38 : Below w3.heap.size w3 W8 := ZC.trans (jR.mono (by have := ZC.size; omega))
            have s0 : W8.cell? ⟨wr.heap.size, 0, none⟩ = some (.int .i64 (p0 : Int)) := kS8.cell 0
            have s1 : W8.cell? ⟨wr.heap.size, 1, none⟩ = some (.int .i64 (d0 : Int)) := kS8.cell 1
            go_upto_region 21 with fail
            rw [← hW8]
            clear hW8 c0 c1
            have y1 := jS jR x1
            have kA8 : aj W8 pb _ 45 := (hb38.block _ kA3.lt).trans kA3
            have a0 : W8.cell? ⟨pb, 0, none⟩ = some (.slice ta nT tc) := kA8.cell 0
            have a1 : W8.cell? ⟨pb, 1, none⟩ = some (.slice na nN nc) := kA8.cell 1
            have a2 : W8.cell? ⟨pb, 2, none⟩ = some (.slice pa P.length pc) := kA8.cell 2
            have a3 : W8.cell? ⟨pb, 3, none⟩ = some (.slice ba nT bc) := kA8.cell 3
            have a4 : W8.cell? ⟨pb, 4, none⟩ = some (.slice ka nT kc) := kA8.cell 4
            have hd1 := HD1.out
            have hk1 : p0 < P.length := hsp.1
            rw [Ep hk1] at hd2
            obtain ⟨gP, Ao, u, hvp, hu, -, z1, -⟩ := (hP3.below hb38).at hk1
            cases hvp
            have hdl : d < P[p0].right.length := (List.getElem?_eq_some_iff.1 hd2).1
            obtain ⟨gU, ZJ, hvu, -, cU⟩ := hu.at hdl
            subst hvu
            have hUe : P[p0].right[d] = sy := (List.getElem?_eq_some_iff.1 hd2).2
            rw [hUe] at cU
            have hrl2 : P[p0].right.length ≤ 2002 := by rw [Ep hk1] at hrl; exact hrl
            have Q5 : Hid (∀ wx, Below W8.heap.size W8 wx → Calls Tryz.prog 14 #[.agg #[.slice ta nT tc, .slice na nN nc, .slice (some ⟨gP, 0, none⟩) P.length pc, .slice ba nT bc, .slice ka nT kc], .agg #[.int .i64 (p0 : Int), .int .i64 (d0 : Int)]] wx fun e w' => e = .returned (.int .i64 (rQ P (p0, d0))) ∧ Below wx.heap.size wx w') := fun wx hx => lbehind_any ((hP3.below hb38).below hx) (p0, d0) hsp.1 hsp.2 (by simp only; omega)
            have hbn := bhI_ne (P := P) (s := (p0, d0))
            have m1 : (rQ P (p0, d0) == -2) = false := beq_eq_false_iff_ne.2 hbn
            generalize rQ P (p0, d0) = bi at Q5 hbn m1
            have m2 : ((d0 : Int) == 0) = false := beq_eq_false_iff_ne.2 (by omega)
            have m3 : ¬ (d0 : Int) = 0 := by omega
            have m4 : ¬ d0 = 0 := by omega
            have m5 : IntKind.i64.wrap ((d0 : Int) - 1) = (d : Int) := by rw [IntKind.wrap_i64]; omega
            have m6 : (0 : Int) ≤ (d : Int) := by omega
            have m7 : (d : Int) < (P[p0].right.length : Int) := by omega
            have m8 : (0 : Int) ≤ (p0 : Int) := by omega
            have m9 : (p0 : Int) < (P.length : Int) := by omega
            clear hu hUe hd2 hsp hrl hd1 hdl
            generalize P[p0].right.length = rl at *
            have hb78 : Below W7.heap.size W7 W8 := hbr.trans (jR.mono hsr)
            have hs78 := hb78.size
            generalize wr.heap.size = sb at *
            go_region_held3 (fun w' => w'.cell? ⟨pb, 0, none⟩ = some (.slice ta nT tc) ∧ w'.cell? ⟨pb, 1, none⟩ = some (.slice na nN nc) ∧ w'.cell? ⟨pb, 2, none⟩ = some (.slice (some ⟨gP, 0, none⟩) P.length pc) ∧ w'.cell? ⟨pb, 3, none⟩ = some (.slice ba nT bc) ∧ w'.cell? ⟨pb, 4, none⟩ = some (.slice ka nT kc) ∧ w'.cell? ⟨sb, 0, none⟩ = some (.int .i64 (p0 : Int)) ∧ w'.cell? ⟨sb, 1, none⟩ = some (.int .i64 (d0 : Int)) ∧ w'.cell? ⟨xb, 1, none⟩ = some (.int .i64 (sy : Int)) ∧ w'.cell? ⟨gP, p0 * 3 + 1, none⟩ = some (.slice (some ⟨gU, 0, none⟩) rl ZJ) ∧ w'.cell? ⟨gU, d, none⟩ = some (.int .i64 (sy : Int))) (first | go_keep | assumption) ((go_at_call 14; refine (Q5.out W8.drew ⟨rfl, rfl, rfl, Nat.le_refl _, fun _ _ => rfl⟩).mono ?_; rintro e w9 ⟨rfl, zh⟩; have hb9' : Below W8.heap.size W8 w9 := (Below.refl _ W8).drew.trans zh; have S9 : w9.cell? ⟨pb, 0, none⟩ = some (.slice ta nT tc) ∧ w9.cell? ⟨pb, 1, none⟩ = some (.slice na nN nc) ∧ w9.cell? ⟨pb, 2, none⟩ = some (.slice (some ⟨gP, 0, none⟩) P.length pc) ∧ w9.cell? ⟨pb, 3, none⟩ = some (.slice ba nT bc) ∧ w9.cell? ⟨pb, 4, none⟩ = some (.slice ka nT kc) ∧ w9.cell? ⟨sb, 0, none⟩ = some (.int .i64 (p0 : Int)) ∧ w9.cell? ⟨sb, 1, none⟩ = some (.int .i64 (d0 : Int)) ∧ w9.cell? ⟨xb, 1, none⟩ = some (.int .i64 (sy : Int)) ∧ w9.cell? ⟨gP, p0 * 3 + 1, none⟩ = some (.slice (some ⟨gU, 0, none⟩) rl ZJ) ∧ w9.cell? ⟨gU, d, none⟩ = some (.int .i64 (sy : Int)) := ⟨jS hb9' a0, jS hb9' a1, jS hb9' a2, jS hb9' a3, jS hb9' a4, jS hb9' s0, jS hb9' s1, jS hb9' y1, jS hb9' z1, jS hb9' cU⟩))
            all_goals
              go_wp2_with fail
              go_roundg ((Lx.eU P K sy).length - (k + 1))
              case measure => omega
              case rel => exact ⟨k + 1, by omega, by go_num, hb78.trans (hb9'.mono hs78)⟩
          · obtain rfl : k = (Lx.eU P K sy).length := by omega
            clear x1 x0
            go_wp2_with fail
            clear x2 ck rk
            go_loopg [19] K.length (fun m kv wq => ∃ k : Nat, k + m = K.length ∧ kv = .int .i64 (k : Int) ∧ Below W7.heap.size W7 wq)
            case atStart => exact ⟨0, by omega, rfl, hbr⟩
            case round =>
              clear hbr hsr ZC kXr
              revert wr
              intro wq hrel
              obtain ⟨k, hkk2, rfl, hbq⟩ := hrel
              have hsq := hbq.size
              have hb3q : Below w3.heap.size w3 wq := hb37.trans (hbq.mono hs7)
              have kXq : aj wq xb _ 38 := (hbq.block _ kX7.lt).trans kX7
              have x0 : wq.cell? ⟨xb, 0, none⟩ = some (.int .i64 (fr : Int)) := kXq.cell 0
              have x1 : wq.cell? ⟨xb, 1, none⟩ = some (.int .i64 (sy : Int)) := kXq.cell 1
              have x2 : wq.cell? ⟨xb, 2, none⟩ = some (.int .i64 (to' : Int)) := kXq.cell 2
              obtain ⟨gk2, kcap2, Ie, Nq, hv, -, ck, rk⟩ := (hL3.1.below hb3q).at HK.out
              cases hv
              have ake : K.length ≤ maxLen := by obtain ⟨_, _, -, h⟩ := aF rk; exact h
              unfold maxLen at ake
              by_cases hltk2 : k < K.length
              · obtain ⟨gx, amK, hvx, -, -, hcs⟩ := aJ.at qi rk hltk2
                cases hvx
                have c0 := hcs 0 _ (by decide) rfl
                have c1 := hcs 1 _ (by decide) rfl
                have hsp := HFn.out.wK fr K HK.out K[k] (List.getElem_mem hltk2)
                have FI : Hid (Lx.bE P K[k] = some sy → (K[k].1, K[k].2 + 1) ∈ Lx.eU P K sy) := fun h => Lx.nxt_has (List.getElem_mem hltk2) h
                have hrl := HFn.out.rgt K[k].1
                clear hcs
                generalize K[k] = sp at c0 c1 hsp FI hrl
                obtain ⟨p0, d0⟩ := sp
                simp only [Nat.add_zero] at c0 c1 hsp FI hrl
                have n1 : (0 : Int) ≤ (k : Int) := by omega
                have n2 : (k : Int) < (K.length : Int) := by omega
                obtain ⟨W8, hW8⟩ : ∃ V, V = wq.alloc (.cells #[.int .i64 (p0 : Int), .int .i64 (d0 : Int)] 36) := ⟨_, rfl⟩
                have jR : Below wq.heap.size wq W8 := by rw [hW8]; exact (Below.refl _ _).alloc (Nat.le_refl _) _
                have kS8 : aj W8 wq.heap.size #[.int .i64 (p0 : Int), .int .i64 (d0 : Int)] 36 := by rw [hW8]; exact aj.new wq _ 36
                have hb38 : Below w3.heap.size w3 W8 := hb3q.trans (jR.mono (by have := hb3q.size; omega))
                have hb78 : Below W7.heap.size W7 W8 := hbq.trans (jR.mono hsq)
                have hs78 := hb78.size
                have s0 : W8.cell? ⟨wq.heap.size, 0, none⟩ = some (.int .i64 (p0 : Int)) := kS8.cell 0
                have s1 : W8.cell? ⟨wq.heap.size, 1, none⟩ = some (.int .i64 (d0 : Int)) := kS8.cell 1
                go_upto_region 27 with fail
                rw [← hW8]
                clear hW8 c0 c1
                have y1 := jS jR x1
                have kA8 : aj W8 pb _ 45 := (hb38.block _ kA3.lt).trans kA3
                have a0 : W8.cell? ⟨pb, 0, none⟩ = some (.slice ta nT tc) := kA8.cell 0
                have a1 : W8.cell? ⟨pb, 1, none⟩ = some (.slice na nN nc) := kA8.cell 1
                have a2 : W8.cell? ⟨pb, 2, none⟩ = some (.slice pa P.length pc) := kA8.cell 2
                have a3 : W8.cell? ⟨pb, 3, none⟩ = some (.slice ba nT bc) := kA8.cell 3
                have a4 : W8.cell? ⟨pb, 4, none⟩ = some (.slice ka nT kc) := kA8.cell 4
                have Q5 : Hid (∀ wx, Below W8.heap.size W8 wx → Calls Tryz.prog 14 #[.agg #[.slice ta nT tc, .slice na nN nc, .slice pa P.length pc, .slice ba nT bc, .slice ka nT kc], .agg #[.int .i64 (p0 : Int), .int .i64 (d0 : Int)]] wx fun e w' => e = .returned (.int .i64 (rQ P (p0, d0))) ∧ Below wx.heap.size wx w') := fun wx hx => lbehind_any ((hP3.below hb38).below hx) (p0, d0) hsp.1 hsp.2 (by simp only; omega)
                have hbe := ai3 (P := P) (s := (p0, d0)) (n := sy)
                have hd0 : d0 ≤ 2002 := by omega
                have HNy : Hid (rQ P (p0, d0) = (sy : Int) → (p0, d0 + 1) ∈ Lx.eU P K sy) := fun h => FI.out (by rw [h] at hbe; simpa using hbe.symm)
                generalize rQ P (p0, d0) = bi at Q5 HNy
                clear hsp hrl hbe FI
                generalize wq.heap.size = sb at *
                go_region_held3 (fun w' => w'.cell? ⟨pb, 0, none⟩ = some (.slice ta nT tc) ∧ w'.cell? ⟨pb, 1, none⟩ = some (.slice na nN nc) ∧ w'.cell? ⟨pb, 2, none⟩ = some (.slice pa P.length pc) ∧ w'.cell? ⟨pb, 3, none⟩ = some (.slice ba nT bc) ∧ w'.cell? ⟨pb, 4, none⟩ = some (.slice ka nT kc) ∧ w'.cell? ⟨sb, 0, none⟩ = some (.int .i64 (p0 : Int)) ∧ w'.cell? ⟨sb, 1, none⟩ = some (.int .i64 (d0 : Int)) ∧ w'.cell? ⟨xb, 1, none⟩ = some (.int .i64 (sy : Int))) (first | go_keep | assumption) ((go_at_call 14; refine (Q5.out W8.drew ⟨rfl, rfl, rfl, Nat.le_refl _, fun _ _ => rfl⟩).mono ?_; rintro e w9 ⟨rfl, zh⟩; have hb9' : Below W8.heap.size W8 w9 := (Below.refl _ W8).drew.trans zh; have S9 : w9.cell? ⟨pb, 0, none⟩ = some (.slice ta nT tc) ∧ w9.cell? ⟨pb, 1, none⟩ = some (.slice na nN nc) ∧ w9.cell? ⟨pb, 2, none⟩ = some (.slice pa P.length pc) ∧ w9.cell? ⟨pb, 3, none⟩ = some (.slice ba nT bc) ∧ w9.cell? ⟨pb, 4, none⟩ = some (.slice ka nT kc) ∧ w9.cell? ⟨sb, 0, none⟩ = some (.int .i64 (p0 : Int)) ∧ w9.cell? ⟨sb, 1, none⟩ = some (.int .i64 (d0 : Int)) ∧ w9.cell? ⟨xb, 1, none⟩ = some (.int .i64 (sy : Int)) := ⟨jS hb9' a0, jS hb9' a1, jS hb9' a2, jS hb9' a3, jS hb9' a4, jS hb9' s0, jS hb9' s1, jS hb9' y1⟩))
                all_goals
                  have hs9 := hb9'.size
                  have hb79 : Below W7.heap.size W7 w9 := hb78.trans (hb9'.mono hs78)
                  have hb39 : Below w3.heap.size w3 w9 := hb37.trans (hb79.mono hs7)
                  have t0 := jS hb9' s0
                  have t1 := jS hb9' s1
                  have Db : aj w9 xb _ 38 := (hb79.block _ kX7.lt).trans kX7
                  have x29 : w9.cell? ⟨xb, 2, none⟩ = some (.int .i64 (to' : Int)) := Db.cell 2
                  obtain ⟨gk4, kcap4, ka4, Td, hv4, -, ck4, rk4⟩ := (hL3.1.below hb39).at HKt.out
                  cases hv4
                  have hkm4 : (Lx.eU P K sy).length ≤ maxLen := by obtain ⟨_, _, -, h⟩ := aF rk4; exact h
                  unfold maxLen at hkm4
                  have hwr1 : IntKind.i64.wrap ((d0 : Int) + 1) = (d0 : Int) + 1 := by rw [IntKind.wrap_i64]; omega
                  have HFin : Hid (∀ b, OrB (¬ bi = (sy : Int)) (fun t : Lx.av => t = (p0, d0 + 1)) b ((Lx.eU P K sy).take (Lx.eU P K sy).length) → b = true) := fun b h => by
                    unfold OrB at h
                    rw [List.take_length] at h
                    refine h.2 ?_
                    by_cases e : bi = (sy : Int)
                    · exact .inr ⟨_, HNy.out e, rfl⟩
                    · exact .inl e
                  clear S9 s0 s1 y1 a0 a1 a2 a3 a4 Q5 HNy x0 x1 x2
                  have HB0 : Hid (OrB (¬ bi = (sy : Int)) (fun t : Lx.av => t = (p0, d0 + 1)) (bi != (sy : Int)) ((Lx.eU P K sy).take 0)) := by unfold Hid OrB; simp
                  go_wp2_with fail
                  go_loopg [21, 22] (Lx.eU P K sy).length (fun m tv jv wv => ∃ (j : Nat) (b : Bool), j + m = (Lx.eU P K sy).length ∧ jv = .int .i64 (j : Int) ∧ tv = .bool b ∧ Below w9.heap.size w9 wv ∧ Hid (OrB (¬ bi = (sy : Int)) (fun t : Lx.av => t = (p0, d0 + 1)) b ((Lx.eU P K sy).take j)))
                  case atStart =>
                    exact ⟨0, _, by omega, rfl, rfl, Below.refl _ _, HB0⟩
                  case round =>
                    clear HB0
                    revert wr
                    intro wv hrel
                    obtain ⟨j, b, hkj, rfl, rfl, hbv, HOr⟩ := hrel
                    have t0v := jS hbv t0
                    have t1v := jS hbv t1
                    have x2v := jS hbv x29
                    have ckv := jS hbv ck4
                    have hb7v : Below W7.heap.size W7 wv := hb79.trans (hbv.mono (by omega))
                    by_cases amM : j < (Lx.eU P K sy).length
                    · obtain ⟨gy, capy, hvy, -, -, hcy⟩ := aJ.at qi (aJ.below rk4 hbv) amM
                      cases hvy
                      have d0' := hcy 0 _ (by decide) rfl
                      have d1' := hcy 1 _ (by decide) rfl
                      have HY1 : Hid (b = true → OrB (¬ bi = (sy : Int)) (fun t : Lx.av => t = (p0, d0 + 1)) true ((Lx.eU P K sy).take (j + 1))) := fun e => OrB.old amM (e ▸ HOr.out)
                      have HY2 : Hid ((Lx.eU P K sy)[j] = (p0, d0 + 1) → OrB (¬ bi = (sy : Int)) (fun t : Lx.av => t = (p0, d0 + 1)) true ((Lx.eU P K sy).take (j + 1))) := fun h => OrB.new (p := fun t : Lx.av => t = (p0, d0 + 1)) amM h
                      have HY3 : Hid (b = false → ¬ (Lx.eU P K sy)[j] = (p0, d0 + 1) → OrB (¬ bi = (sy : Int)) (fun t : Lx.av => t = (p0, d0 + 1)) false ((Lx.eU P K sy).take (j + 1))) := fun e h => OrB.no amM (e ▸ HOr.out) h
                      clear hcy HOr
                      generalize (Lx.eU P K sy)[j] = y at d0' d1' HY2 HY3
                      obtain ⟨y0, y1⟩ := y
                      simp only [Nat.add_zero] at d0' d1'
                      have p1 : (0 : Int) ≤ (j : Int) := by omega
                      have p2 : (j : Int) < ((Lx.eU P K sy).length : Int) := by omega
                      have HZ : Hid (∀ nq, Below w9.heap.size w9 (wv.drewN nq)) := fun nq => hbv.trans ⟨rfl, rfl, rfl, Nat.le_refl _, fun _ _ => rfl⟩
                      cases b with
                      | true =>
                        have HO3 : Hid (OrB (¬ bi = (sy : Int)) (fun t : Lx.av => t = (p0, d0 + 1)) true ((Lx.eU P K sy).take (j + 1))) := HY1.out rfl
                        clear HY1 HY2 HY3
                        go_upto_region 31 with fail
                        go_quiet (fail)
                        go_wp2_with fail
                        go_roundg ((Lx.eU P K sy).length - (j + 1))
                        case measure => omega
                        case rel => exact ⟨j + 1, true, by omega, by go_num, rfl, HZ.out _, HO3⟩
                      | false =>
                        by_cases he : y0 = p0 ∧ y1 = d0 + 1
                        · have HO3 : Hid (OrB (¬ bi = (sy : Int)) (fun t : Lx.av => t = (p0, d0 + 1)) true ((Lx.eU P K sy).take (j + 1))) := HY2.out (by rw [he.1, he.2])
                          have r1 : ((y0 : Int) == (p0 : Int)) = true := by simp [he.1]
                          have r2 : (y0 : Int) = (p0 : Int) := by omega
                          have r3 : ((y1 : Int) == (d0 : Int) + 1) = true := by simp [he.2]
                          have r4 : (y1 : Int) = (d0 : Int) + 1 := by omega
                          clear HY1 HY2 HY3 he
                          go_upto_region 31 with fail
                          go_quiet (fail)
                          go_wp2_with fail
                          go_roundg ((Lx.eU P K sy).length - (j + 1))
                          case measure => omega
                          case rel => exact ⟨j + 1, true, by omega, by go_num, rfl, HZ.out _, HO3⟩
                        · have HO3 : Hid (OrB (¬ bi = (sy : Int)) (fun t : Lx.av => t = (p0, d0 + 1)) false ((Lx.eU P K sy).take (j + 1))) := HY3.out rfl (fun h => he (by cases h; exact ⟨rfl, rfl⟩))
                          clear HY1 HY2 HY3
                          rcases Classical.em (y0 = p0) with h1 | h1
                          · subst h1
                            have r3 : ((y1 : Int) == (d0 : Int) + 1) = false := beq_eq_false_iff_ne.2 (by omega)
                            have r4 : ¬ (y1 : Int) = (d0 : Int) + 1 := by omega
                            clear he
                            go_upto_region 31 with fail
                            go_quiet (fail)
                            go_wp2_with fail
                            go_roundg ((Lx.eU P K sy).length - (j + 1))
                            case measure => omega
                            case rel => exact ⟨j + 1, false, by omega, by go_num, rfl, HZ.out _, HO3⟩
                          · have r1 : ((y0 : Int) == (p0 : Int)) = false := beq_eq_false_iff_ne.2 (by omega)
                            have r2 : ¬ (y0 : Int) = (p0 : Int) := by omega
                            have r5 : ¬ y0 = p0 := h1
                            clear he h1
                            go_upto_region 31 with fail
                            go_quiet (fail)
                            go_wp2_with fail
                            go_roundg ((Lx.eU P K sy).length - (j + 1))
                            case measure => omega
                            case rel => exact ⟨j + 1, false, by omega, by go_num, rfl, HZ.out _, HO3⟩
                    · obtain rfl : j = (Lx.eU P K sy).length := by omega
                      obtain rfl := HFin.out b HOr.out
                      clear HOr
                      go_wp2_with fail
                      go_roundg (K.length - (k + 1))
                      case measure => omega
                      case rel => exact ⟨k + 1, by omega, by go_num, hb7v⟩
              · obtain rfl : k = K.length := by omega
                go_wp2_with fail
                go_roundg (S.es.length - (i + 1))
                case measure => omega
                case rel => exact ⟨i + 1, bl2, by omega, by go_num, hb3q, (hbq.block _ Mk.lt).trans Mk, hln2, HCm⟩
      · obtain rfl : i = S.es.length := by omega
        have HAll : Hid (∀ t, t < S.ks.length → Lx.aS bl t = true) := fun t ht => by
          refine HC.out t ht ?_
          rw [List.take_length]
          rcases Nat.eq_zero_or_pos t with h | h
          · exact .inl h
          · exact .inr (HFn.out.kn t ht h)
        clear HC
        go_wp2_with fail
        go_loopg [23] S.ks.length (fun m kv wq => ∃ k : Nat, k + m = S.ks.length ∧ kv = .int .i64 (k : Int) ∧ wq = wz)
        case atStart => exact ⟨0, by omega, rfl, rfl⟩
        case round =>
          obtain ⟨k, hkk5, rfl, hwq⟩ := hrel
          subst hwq
          by_cases hltk : k < S.ks.length
          · have c0 : wr.cell? ⟨cb, k, none⟩ = some (.bool true) := by rw [kCz.cell k, qx _ (by omega), HAll.out k hltk]
            have p1 : (0 : Int) ≤ (k : Int) := by omega
            have p2 : (k : Int) < (S.ks.length : Int) := by omega
            go_wp2_with fail
            go_roundg (S.ks.length - (k + 1))
            case measure => omega
            case rel => exact ⟨k + 1, by omega, by go_num, rfl⟩
          · have p2 : ¬ (k : Int) < (S.ks.length : Int) := by omega
            have hbwf : Below w.heap.size w wr := qJ.trans (hbz.mono hs3)
            have qa := agU wr (HT.out wr hbwf)
            have hsf := hbwf.size
            go_wp2_with (go_at_call 12; refine qa.mono ?_; rintro e w9 ⟨rfl, zh⟩)
            go_ret
            exact ⟨rfl, hbwf.trans (zh.mono hsf)⟩
end Go.Proofs.YtjaalkocdbkdeaaGreatDoor

import Derived.Test.YtonkcljapkeidaaH1
import Derived.Test.YtonkcljapkeidaaF3
namespace Go.Proofs.Ytonkcljapkeidaa
open Go.RowKit
open Tr
theorem flat_get {α : Type} (c : Value × α → List Value) (s : Nat) (hc : ∀ q, (c q).length = s) : ∀ (ps : List (Value × α)) (j i : Nat) (q : Value × α), ps[j]? = some q → i < s → (ps.flatMap c)[j * s + i]? = (c q)[i]?
  | [], _, _, _, h, _ => by simp at h
  | p :: ps, 0, i, q, h, hi => by
    simp at h; subst h
    rw [List.flatMap_cons, Nat.zero_mul, Nat.zero_add, List.getElem?_append_left (by rw [hc]; exact hi)]
  | p :: ps, j + 1, i, q, h, hi => by
    have h' : ps[j]? = some q := by simpa using h
    rw [List.flatMap_cons, List.getElem?_append_right (by rw [hc, Nat.succ_mul]; omega), hc, show (j + 1) * s + i - s = j * s + i by rw [Nat.succ_mul]; omega]
    exact flat_get c s hc ps j i q h' hi
theorem Tr.Seq.at {α : Type} {F : Nat → Prop} {w : World} {e s : Nat} {c : Value × α → List Value} {K : Value → α → Prop} {v : Value} {l : List α} (h : Tr.Seq F w e s c K v l) (hc : ∀ q, (c q).length = s) {j : Nat} (hj : j < l.length) :
    ∃ g cap vk, v = .slice (some ⟨g, 0, none⟩) l.length cap ∧ F g ∧ K vk l[j] ∧ ∀ i, i < s → w.cell? ⟨g, j * s + i, none⟩ = (c (vk, l[j]))[i]? := by
  obtain ⟨ps, h1, h2, h3, h4⟩ := h
  obtain ⟨g, cap, rfl, -, -⟩ := h2.form (by omega)
  have hl : ps.length = l.length := by rw [← h1]; simp
  have hq : ps[j]? = some ps[j] := List.getElem?_eq_getElem (by omega)
  have h5 : (ps[j]).2 = l[j] := by
    have : (ps.map Prod.snd)[j]? = l[j]? := by rw [h1]
    rw [List.getElem?_map, hq, List.getElem?_eq_getElem hj] at this
    simpa using this
  refine ⟨g, cap, (ps[j]).1, rfl, h3 g rfl, ?_, ?_⟩
  · rw [← h5]; exact h4 _ (List.getElem_mem _)
  · intro i hi
    have hlt : j * s + i < l.length * s := by
      have : (j + 1) * s ≤ l.length * s := Nat.mul_le_mul_right s hj
      rw [Nat.succ_mul] at this; omega
    rw [h2.cellAt (j * s + i) hlt, flat_get c s hc ps j i _ hq hi, ← h5]
theorem Tr.Seq.len {α : Type} {F : Nat → Prop} {w : World} {e s : Nat} {c : Value × α → List Value} {K : Value → α → Prop} {v : Value} {l : List α} (h : Tr.Seq F w e s c K v l) : ∃ a cap, v = .slice a l.length cap ∧ l.length ≤ maxLen := by
  obtain ⟨ps, h1, h2, h3, h4⟩ := h
  exact own_len h2
theorem AltsIn.len {Y : Lay} {d : Nat} {F : Nat → Prop} {w : World} {v : Value} {l : List Lx.Alt} (h : AltsIn Y d F w v l) : ∃ a cap, v = .slice a l.length cap ∧ l.length ≤ maxLen := by
  cases d with
  | zero => obtain ⟨rfl, rfl⟩ := h; exact ⟨_, _, rfl, Nat.zero_le _⟩
  | succ d => exact Seq.len h
/-- Two trees, one of the program's and one of the document's, of one meaning: they are told the same. -/
def AltsSame (d : Nat) : Prop := ∀ (F F' : Nat → Prop) (w : World) (v v' : Value) (l : List Lx.Alt), (∀ b, F b → b < w.heap.size) → (∀ b, F' b → b < w.heap.size) → AltsIn YP d F w v l → AltsIn YR d F' w v' l →
  Calls Try.prog 26 #[v, v'] w fun e w' => e = .returned (.bool true) ∧ Below w.heap.size w w'
set_option maxHeartbeats 1000000 in
set_option maxRecDepth 100000 in
theorem same_zero : AltsSame 0 := by
  intro F F' w v v' l hF hF' h h'
  obtain ⟨rfl, rfl⟩ := h
  obtain ⟨rfl, -⟩ := h'
  go_enter Try.func26, Try.ntmps26
  go_wp2_with fail
  go_loopg [5] 0 (fun k i wr => k = 0 ∧ i = .int .i64 0 ∧ wr = w)
  case atStart => exact ⟨rfl, rfl, rfl⟩
  case round =>
    obtain ⟨rfl, rfl, rfl⟩ := hrel
    go_wp2_with fail
    go_ret
    exact ⟨rfl, Below.refl _ _⟩
set_option maxHeartbeats 2000000 in
set_option maxRecDepth 100000 in
theorem same_succ {d : Nat} (IH : AltsSame d) : AltsSame (d + 1) := by
  intro F F' w v v' l hF hF' h h'
  obtain ⟨a, c, hv, hm⟩ := Seq.len h
  obtain ⟨a', c', hv', -⟩ := Seq.len h'
  subst hv hv'
  unfold maxLen at hm
  go_enter Try.func26, Try.ntmps26
  go_wp2_with fail
  go_loopg [5] l.length (fun k i wr => ∃ j : Nat, j + k = l.length ∧ i = .int .i64 j ∧ Below w.heap.size w wr)
  case atStart => exact ⟨0, by omega, rfl, Below.refl _ _⟩
  case round =>
    revert wr
    intro wz hrel
    obtain ⟨j, hk, rfl, hb⟩ := hrel
    by_cases hlt : j < l.length
    · have h1 : AltsIn YP (d + 1) F wz _ l := AltsIn.move (fun b hb' => hb.block b (hF b hb')) (fun _ h => h) h
      have h2 : AltsIn YR (d + 1) F' wz _ l := AltsIn.move (fun b hb' => hb.block b (hF' b hb')) (fun _ h => h) h'
      obtain ⟨g, cap, vi, hv, hg, hi, hc⟩ := Seq.at h1 (fun _ => rfl) hlt
      obtain ⟨g', cap', vi', hv', hg', hi', hc'⟩ := Seq.at h2 (fun _ => rfl) hlt
      cases hv
      cases hv'
      generalize l[j] = x at hi hc hi' hc'
      obtain ⟨its, prec, pa⟩ := x
      obtain ⟨ia, ic, hvi, him⟩ := Seq.len hi
      obtain ⟨ia', ic', hvi', -⟩ := Seq.len hi'
      subst hvi hvi'
      unfold maxLen at him
      have c0 : wz.cell? ⟨g, j * 2, none⟩ = some (.slice ia its.length ic) := hc 0 (by decide)
      have c1 : wz.cell? ⟨g, j * 2 + 1, none⟩ = some (.string prec) := hc 1 (by decide)
      have d0 : wz.cell? ⟨g', j * 3, none⟩ = some (.slice ia' its.length ic') := hc' 0 (by decide)
      have d1 : wz.cell? ⟨g', j * 3 + 1, none⟩ = some (.string prec) := hc' 1 (by decide)
      go_wp2_with fail
      go_region
      all_goals
        go_wp2_with fail
        clear h1 h2 c1 d1
        go_loopg [6] its.length (fun k i wr => ∃ m : Nat, m + k = its.length ∧ i = .int .i64 m ∧ Below wz.heap.size wz wr)
        case atStart => exact ⟨0, by omega, rfl, (Below.refl _ _).drew⟩
        case round =>
          obtain ⟨m, hkm, rfl, hbz⟩ := hrel
          have hsz := hb.size
          have hbw : Below w.heap.size w wr := hb.trans (hbz.mono hsz)
          have eg : wr.heap[g]? = wz.heap[g]? := hbz.block g (by have := hF g hg; omega)
          have eg' : wr.heap[g']? = wz.heap[g']? := hbz.block g' (by have := hF' g' hg'; omega)
          have c0r : wr.cell? ⟨g, j * 2, none⟩ = some (.slice ia its.length ic) := (World.cell?_of_block (w := wz) eg).trans c0
          have d0r : wr.cell? ⟨g', j * 3, none⟩ = some (.slice ia' its.length ic') := (World.cell?_of_block (w := wz) eg').trans d0
          by_cases hltm : m < its.length
          · have hir : ItemsIn YP d F wr _ its := ItemsIn.move (fun b hb' => hbz.block b (by have := hF b hb'; omega)) (fun _ h => h) hi
            have hir' : ItemsIn YR d F' wr _ its := ItemsIn.move (fun b hb' => hbz.block b (by have := hF' b hb'; omega)) (fun _ h => h) hi'
            unfold ItemsIn ItemsBy at hir hir'
            obtain ⟨n, ncap, va, hv, hn, ha, hcc⟩ := Seq.at hir (fun _ => rfl) hltm
            obtain ⟨n', ncap', va', hv', hn', ha', hcc'⟩ := Seq.at hir' (fun _ => rfl) hltm
            cases hv
            cases hv'
            generalize its[m] = it at ha hcc ha' hcc'
            obtain ⟨sa, sn, sc, hva⟩ := AltsIn.form ha
            obtain ⟨sa', sn', sc', hva'⟩ := AltsIn.form ha'
            subst hva hva'
            have e0 : wr.cell? ⟨n, m * 4, none⟩ = some (.int .i64 (it.kind : Int)) := hcc 0 (by decide)
            have e1 : wr.cell? ⟨n, m * 4 + 1, none⟩ = some (.string it.name) := hcc 1 (by decide)
            have e2 : wr.cell? ⟨n, m * 4 + 2, none⟩ = some (.int .u8 (it.mark : Int)) := hcc 2 (by decide)
            have e3 : wr.cell? ⟨n, m * 4 + 3, none⟩ = some (.slice sa sn sc) := hcc 3 (by decide)
            have k0 : wr.cell? ⟨n', m * 5, none⟩ = some (.int .i64 (it.kind : Int)) := hcc' 0 (by decide)
            have k1 : wr.cell? ⟨n', m * 5 + 1, none⟩ = some (.string it.name) := hcc' 1 (by decide)
            have k2 : wr.cell? ⟨n', m * 5 + 2, none⟩ = some (.int .u8 (it.mark : Int)) := hcc' 2 (by decide)
            have k3 : wr.cell? ⟨n', m * 5 + 3, none⟩ = some (.slice sa' sn' sc') := hcc' 3 (by decide)
            have k4 : wr.cell? ⟨n', m * 5 + 4, none⟩ = some (.int .i64 (it.place : Int)) := hcc' 4 (by decide)
            have lg : g < wr.heap.size := by have := hF g hg; have := hbw.size; omega
            have lg' : g' < wr.heap.size := by have := hF' g' hg'; have := hbw.size; omega
            have ln : n < wr.heap.size := by have := hF n hn; have := hbw.size; omega
            have ln' : n' < wr.heap.size := by have := hF' n' hn'; have := hbw.size; omega
            clear hcc hcc' c0 d0 hi hi' h h'
            have hsx : ((wr.alloc (.cells #[.int .i64 (it.kind : Int), .string it.name, .int .u8 (it.mark : Int), .slice sa sn sc] 86)).alloc (.cells #[.int .i64 (it.kind : Int), .string it.name, .int .u8 (it.mark : Int), .slice sa' sn' sc', .int .i64 (it.place : Int)] 100)).heap.size = wr.heap.size + 2 := by simp
            have mv : ∀ b, b < wr.heap.size → ((wr.alloc (.cells #[.int .i64 (it.kind : Int), .string it.name, .int .u8 (it.mark : Int), .slice sa sn sc] 86)).alloc (.cells #[.int .i64 (it.kind : Int), .string it.name, .int .u8 (it.mark : Int), .slice sa' sn' sc', .int .i64 (it.place : Int)] 100)).heap[b]? = wr.heap[b]? := fun b hb' => by
              rw [Below.heap_alloc _ _ _ (by simp; omega), Below.heap_alloc _ _ _ hb']
            have ha2 : AltsIn YP d F ((wr.alloc (.cells #[.int .i64 (it.kind : Int), .string it.name, .int .u8 (it.mark : Int), .slice sa sn sc] 86)).alloc (.cells #[.int .i64 (it.kind : Int), .string it.name, .int .u8 (it.mark : Int), .slice sa' sn' sc', .int .i64 (it.place : Int)] 100)) _ it.alts := AltsIn.move (fun b hb' => mv b (by have := hF b hb'; have := hbw.size; omega)) (fun _ h => h) ha
            have ha2' : AltsIn YR d F' ((wr.alloc (.cells #[.int .i64 (it.kind : Int), .string it.name, .int .u8 (it.mark : Int), .slice sa sn sc] 86)).alloc (.cells #[.int .i64 (it.kind : Int), .string it.name, .int .u8 (it.mark : Int), .slice sa' sn' sc', .int .i64 (it.place : Int)] 100)) _ it.alts := AltsIn.move (fun b hb' => mv b (by have := hF' b hb'; have := hbw.size; omega)) (fun _ h => h) ha'
            have kx := (Blk.new wr #[.int .i64 (it.kind : Int), .string it.name, .int .u8 (it.mark : Int), .slice sa sn sc] 86).alloc (.cells #[.int .i64 (it.kind : Int), .string it.name, .int .u8 (it.mark : Int), .slice sa' sn' sc', .int .i64 (it.place : Int)] 100)
            have ky := Blk.new (wr.alloc (.cells #[.int .i64 (it.kind : Int), .string it.name, .int .u8 (it.mark : Int), .slice sa sn sc] 86)) #[.int .i64 (it.kind : Int), .string it.name, .int .u8 (it.mark : Int), .slice sa' sn' sc', .int .i64 (it.place : Int)] 100
            rw [show (wr.alloc (.cells #[.int .i64 (it.kind : Int), .string it.name, .int .u8 (it.mark : Int), .slice sa sn sc] 86)).heap.size = wr.heap.size + 1 by simp] at ky
            have hb1 : Below wz.heap.size wz ((wr.alloc (.cells #[.int .i64 (it.kind : Int), .string it.name, .int .u8 (it.mark : Int), .slice sa sn sc] 86)).alloc (.cells #[.int .i64 (it.kind : Int), .string it.name, .int .u8 (it.mark : Int), .slice sa' sn' sc', .int .i64 (it.place : Int)] 100)) := (hbz.alloc hbz.size _).alloc (by have := hbz.size; simp; omega) _
            go_wp2_with fail
            refine (IH F F' _ _ _ _ (fun b hb' => by have := hF b hb'; have := hbw.size; rw [hsx]; omega) (fun b hb' => by have := hF' b hb'; have := hbw.size; rw [hsx]; omega) ha2 ha2').mono ?_
            rintro e w2 ⟨rfl, hb2⟩
            rw [hsx] at hb2
            have kx2 : Blk w2 wr.heap.size _ 86 := (hb2.block _ (by omega)).trans kx
            have ky2 : Blk w2 (wr.heap.size + 1) _ 100 := (hb2.block _ (by omega)).trans ky
            have x0 : w2.cell? ⟨wr.heap.size, 0, none⟩ = some (.int .i64 (it.kind : Int)) := kx2.cell 0
            have x1 : w2.cell? ⟨wr.heap.size, 1, none⟩ = some (.string it.name) := kx2.cell 1
            have x2 : w2.cell? ⟨wr.heap.size, 2, none⟩ = some (.int .u8 (it.mark : Int)) := kx2.cell 2
            have y0 : w2.cell? ⟨wr.heap.size + 1, 0, none⟩ = some (.int .i64 (it.kind : Int)) := ky2.cell 0
            have y1 : w2.cell? ⟨wr.heap.size + 1, 1, none⟩ = some (.string it.name) := ky2.cell 1
            have y2 : w2.cell? ⟨wr.heap.size + 1, 2, none⟩ = some (.int .u8 (it.mark : Int)) := ky2.cell 2
            have hb3 : Below wz.heap.size wz w2 := hb1.trans (hb2.mono (by have := hbz.size; omega))
            clear kx ky kx2 ky2 ha2 ha2' mv hsx hb1 ha ha' e0 e1 e2 e3 k0 k1 k2 k3 k4 c0r d0r eg eg'
            go_wp2_with fail
            go_roundg (its.length - (m + 1))
            case measure => omega
            case rel => exact ⟨m + 1, by omega, by go_num, hb3⟩
          · clear c0 d0
            go_wp2_with fail
            go_roundg (l.length - (j + 1))
            case measure => omega
            case rel => exact ⟨j + 1, by omega, by go_num, hbw⟩
    · go_wp2_with fail
      go_ret
      exact ⟨rfl, hb⟩
theorem same_at : ∀ d, AltsSame d
  | 0 => same_zero
  | d + 1 => same_succ (same_at d)
end Go.Proofs.Ytonkcljapkeidaa

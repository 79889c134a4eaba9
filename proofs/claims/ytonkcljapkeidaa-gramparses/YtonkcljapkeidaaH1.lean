import Derived.Test.YtonkcljapkeidaaA4
import Derived.Test.YtonkcljapkeidaaT1
import Derived.Deep.LoopGhost
import Derived.RegionTactic
namespace Go.Proofs.Ytonkcljapkeidaa
open Go.RowKit
open Tr
theorem own_len {w : World} {base e size : Nat} {v : Value} {n : Nat} {xs : List Value} (h : w.ownsRow base e size v n xs) : ∃ a c, v = .slice a n c ∧ n ≤ maxLen := by
  rcases h.2 with ⟨rfl, rfl⟩ | ⟨g, cap, cur, rfl, _, _, h1, h2, _⟩
  · exact ⟨_, _, rfl, Nat.zero_le _⟩
  · exact ⟨_, _, rfl, Nat.le_trans h1 h2⟩
theorem own_below {w w' : World} {base e size : Nat} {v : Value} {n : Nat} {xs : List Value} (h : w.ownsRow base e size v n xs) (hb : Below w.heap.size w w') : w'.ownsRow base e size v n xs :=
  own_move h fun g hg => hb.block g (h.lt g hg).2
set_option maxHeartbeats 1000000 in
theorem words_same (l : List ByteArray) (v v' : Value) (w : World) (h : w.ownsRow 0 9 1 v l.length (l.map Value.string)) (h' : w.ownsRow 0 9 1 v' l.length (l.map Value.string)) :
    Calls Try.prog 25 #[v, v'] w fun e w' => e = .returned (.bool true) ∧ Below w.heap.size w w' := by
  obtain ⟨a, c, rfl, hm⟩ := own_len h
  obtain ⟨a', c', rfl, -⟩ := own_len h'
  unfold maxLen at hm
  go_enter Try.func25, Try.ntmps25
  go_wp2_with fail
  go_loopg [5] l.length (fun k i wr => ∃ j : Nat, j + k = l.length ∧ i = .int .i64 j ∧ Below w.heap.size w wr)
  case atStart => exact ⟨0, by omega, rfl, Below.refl _ _⟩
  case round =>
    obtain ⟨j, hk, rfl, hb⟩ := hrel
    by_cases hlt : j < l.length
    · have h1 := own_below h hb
      have h2 := own_below h' hb
      obtain ⟨g, cap, hv, -, -⟩ := h1.form (by omega)
      obtain ⟨g', cap', hv', -, -⟩ := h2.form (by omega)
      cases hv
      cases hv'
      have c1 := h1.cellAt j (by omega)
      have c2 := h2.cellAt j (by omega)
      rw [List.getElem?_map, List.getElem?_eq_getElem hlt] at c1 c2
      simp only [Option.map_some] at c1 c2
      generalize l[j] = x at c1 c2
      go_wp2_with fail
      go_region
      all_goals
        go_wp2_with fail
        go_roundg (l.length - (j + 1))
        case measure => omega
        case rel => exact ⟨j + 1, by omega, by go_num, hb.drew⟩
    · go_wp2_with fail
      go_ret
      exact ⟨rfl, hb⟩
end Go.Proofs.Ytonkcljapkeidaa

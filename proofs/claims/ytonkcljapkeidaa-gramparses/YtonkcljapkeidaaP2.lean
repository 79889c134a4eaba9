import Derived.Test.YtonkcljapkeidaaP1
import Derived.Test.YtonkcljapkeidaaL2
namespace Go.Proofs.Ytonkcljapkeidaa
open Go.RowKit
open Lx (Tk)
open Tr
namespace Lx
/-- what stands between two signs -/
def gapOf (l r : ByteArray) : ByteArray :=
  if (l.toList == [59]) = true then ⟨#[10]⟩
  else if ((l.toList == []) || (l.toList == [40]) || (r.toList == [])) = true then ⟨#[]⟩
  else if ((r.toList == [59]) || (r.toList == [41]) || (r.toList == [42]) || (r.toList == [43]) || (r.toList == [63])) = true then ⟨#[]⟩ else ⟨#[32]⟩
theorem gapOf_size (l r : ByteArray) : (gapOf l r).size ≤ 1 := by
  unfold gapOf
  split
  · decide
  · split
    · decide
    · split <;> decide
end Lx
theorem ret_str {a b : ByteArray} (h : a = b) : Ending.returned (.string a) = .returned (.string b) := by rw [h]
set_option maxHeartbeats 1000000 in
theorem gap_any (l r : ByteArray) (w : World) : Calls Try.prog 41 #[.string l, .string r] w fun e w' => e = .returned (.string (Lx.gapOf l r)) ∧ w' = w := by
  cases h1 : (l.toList == [59])
  · cases h2 : (l.toList == [])
    · cases h3 : (l.toList == [40])
      · cases h4 : (r.toList == [])
        · cases h5 : (r.toList == [59])
          · cases h6 : (r.toList == [41])
            · cases h7 : (r.toList == [42])
              · cases h8 : (r.toList == [43])
                · cases h9 : (r.toList == [63])
                  · have HE : Hid (Lx.gapOf l r = ⟨#[32]⟩) := by show _ = _; unfold Lx.gapOf; rw [h1, h2, h3, h4, h5, h6, h7, h8, h9]; rfl
                    go_enter Try.func41, Try.ntmps41
                    go_wp2_with fail
                    go_ret
                    exact ⟨ret_str HE.out.symm, rfl⟩
                  · have HE : Hid (Lx.gapOf l r = ⟨#[]⟩) := by show _ = _; unfold Lx.gapOf; rw [h1, h2, h3, h4, h5, h6, h7, h8, h9]; rfl
                    go_enter Try.func41, Try.ntmps41
                    go_wp2_with fail
                    go_ret
                    exact ⟨ret_str HE.out.symm, rfl⟩
                · have HE : Hid (Lx.gapOf l r = ⟨#[]⟩) := by show _ = _; unfold Lx.gapOf; rw [h1, h2, h3, h4, h5, h6, h7, h8]; rfl
                  go_enter Try.func41, Try.ntmps41
                  go_wp2_with fail
                  go_ret
                  exact ⟨ret_str HE.out.symm, rfl⟩
              · have HE : Hid (Lx.gapOf l r = ⟨#[]⟩) := by show _ = _; unfold Lx.gapOf; rw [h1, h2, h3, h4, h5, h6, h7]; rfl
                go_enter Try.func41, Try.ntmps41
                go_wp2_with fail
                go_ret
                exact ⟨ret_str HE.out.symm, rfl⟩
            · have HE : Hid (Lx.gapOf l r = ⟨#[]⟩) := by show _ = _; unfold Lx.gapOf; rw [h1, h2, h3, h4, h5, h6]; rfl
              go_enter Try.func41, Try.ntmps41
              go_wp2_with fail
              go_ret
              exact ⟨ret_str HE.out.symm, rfl⟩
          · have HE : Hid (Lx.gapOf l r = ⟨#[]⟩) := by show _ = _; unfold Lx.gapOf; rw [h1, h2, h3, h4, h5]; rfl
            go_enter Try.func41, Try.ntmps41
            go_wp2_with fail
            go_ret
            exact ⟨ret_str HE.out.symm, rfl⟩
        · have HE : Hid (Lx.gapOf l r = ⟨#[]⟩) := by show _ = _; unfold Lx.gapOf; rw [h1, h2, h3, h4]; rfl
          go_enter Try.func41, Try.ntmps41
          go_wp2_with fail
          go_ret
          exact ⟨ret_str HE.out.symm, rfl⟩
      · have HE : Hid (Lx.gapOf l r = ⟨#[]⟩) := by show _ = _; unfold Lx.gapOf; rw [h1, h2, h3]; rfl
        go_enter Try.func41, Try.ntmps41
        go_wp2_with fail
        go_ret
        exact ⟨ret_str HE.out.symm, rfl⟩
    · have HE : Hid (Lx.gapOf l r = ⟨#[]⟩) := by show _ = _; unfold Lx.gapOf; rw [h1, h2]; rfl
      go_enter Try.func41, Try.ntmps41
      go_wp2_with fail
      go_ret
      exact ⟨ret_str HE.out.symm, rfl⟩
  · have HE : Hid (Lx.gapOf l r = ⟨#[10]⟩) := by show _ = _; unfold Lx.gapOf; rw [h1]; rfl
    go_enter Try.func41, Try.ntmps41
    go_wp2_with fail
    go_ret
    exact ⟨ret_str HE.out.symm, rfl⟩
end Go.Proofs.Ytonkcljapkeidaa

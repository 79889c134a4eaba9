import Derived.Test.YtonkcljapkeidaaD1
import Derived.Test.YtonkcljapkeidaaD2
import Derived.Test.YtonkcljapkeidaaD3
import Derived.Test.YtonkcljapkeidaaE1
import Derived.Test.YtonkcljapkeidaaE2
import Derived.Test.YtonkcljapkeidaaE3
namespace Go.Proofs.Ytonkcljapkeidaa
open Go.RowKit
open Lx (Tk)
open Tr
theorem non_of {s : ByteArray} {g : Nat} (h : g < s.size) (hr : Lx.refEnd s g = g) : Hid (Lx.digit (s[g].toNat : Int) = false ∧ Lx.small (s[g].toNat : Int) = false ∧ Lx.capital (s[g].toNat : Int) = false ∧ (s[g].toNat : Int) ≠ 37) := by
  obtain ⟨h1, h2⟩ := (Lx.refEnd_known h).1 hr
  rw [Lx.byteAt_eq s g h] at h1 h2
  unfold Lx.wordB at h2
  simp only [Bool.or_eq_false_iff] at h2
  exact ⟨h2.2, h2.1.1, h2.1.2, h1⟩
theorem nextw_all (s : ByteArray) (q j g : Nat) (W : ByteArray) (hW : (W.toList == []) = false) (nest err at_ : Int) (sgv : Value) (n : Nat) (xs : List Value) (w : World) (hs : s.size ≤ 2000) (hi : j + W.size ≤ s.size) (kq : Blk w q (rblk s j W nest err at_ sgv) 50) (hown : w.ownsRow 0 9 1 sgv n xs) (hneq : sgv.ownBlock ≠ some q) (hn : n ≤ 2001) (hg0 : Lx.gapEnd s (j + W.size) false = g) :
    Calls Try.prog 30 #[.pointer (some ⟨q, 0, none⟩)] w fun e w' => e = .returned (.tuple #[]) ∧ ∃ sgx, St q sgv w sgx (n + 1) (xs ++ [.string W]) w' ∧ Blk w' q (rblk s g (Lx.refSign s g) nest err at_ sgx) 50 := by
  by_cases hge : g < s.size
  · by_cases hr : Lx.refEnd s g = g
    · exact nextw_non s q j g W hW nest err at_ sgv n xs w hs hi kq hown hneq hn hg0 hge (non_of hge hr)
    · exact nextw_word s q j g W hW nest err at_ sgv n xs w hs hi kq hown hneq hn hg0 hge hr
  · exact nextw_end s q j g W hW nest err at_ sgv n xs w hs hi kq hown hneq hn hg0 hge
theorem next_all (s : ByteArray) (q i g : Nat) (nest err at_ : Int) (sgv : Value) (n : Nat) (xs : List Value) (w : World) (hs : s.size ≤ 2000) (hi : i ≤ s.size) (kq : Blk w q (rblk s i ⟨#[]⟩ nest err at_ sgv) 50) (hown : w.ownsRow 0 9 1 sgv n xs) (hneq : sgv.ownBlock ≠ some q) (hg0 : Lx.gapEnd s i false = g) :
    Calls Try.prog 30 #[.pointer (some ⟨q, 0, none⟩)] w fun e w' => e = .returned (.tuple #[]) ∧ ∃ sgx, St q sgv w sgx n xs w' ∧ Blk w' q (rblk s g (Lx.refSign s g) nest err at_ sgx) 50 := by
  by_cases hge : g < s.size
  · by_cases hr : Lx.refEnd s g = g
    · exact next_non s q i g nest err at_ sgv n xs w hs hi kq hown hneq hg0 hge (non_of hge hr)
    · exact next_word s q i g nest err at_ sgv n xs w hs hi kq hown hneq hg0 hge hr
  · exact next_end s q i g nest err at_ sgv n xs w hs hi kq hown hneq hg0 hge
end Go.Proofs.Ytonkcljapkeidaa

import Derived.Test.YtonkcljapkeidaaC3
import Derived.Deep.Cut
namespace Go.Proofs.Ytonkcljapkeidaa
open Go.RowKit
open Lx (Tk)
open Tr
set_option maxHeartbeats 4000000 in
set_option maxRecDepth 100000 in
theorem next_end (s : ByteArray) (q i g : Nat) (nest err at_ : Int) (sgv : Value) (n : Nat) (xs : List Value) (w : World) (hs : s.size ≤ 2000) (hi : i ≤ s.size) (kq : Blk w q (rblk s i ⟨#[]⟩ nest err at_ sgv) 50) (hown : w.ownsRow 0 9 1 sgv n xs) (hneq : sgv.ownBlock ≠ some q) (hg0 : Lx.gapEnd s i false = g) (hge : ¬ g < s.size) :
    Calls Try.prog 30 #[.pointer (some ⟨q, 0, none⟩)] w fun e w' => e = .returned (.tuple #[]) ∧ ∃ sgx, St q sgv w sgx n xs w' ∧ Blk w' q (rblk s g (Lx.refSign s g) nest err at_ sgx) 50 := by
  have c0 : w.cell? ⟨q, 0, none⟩ = some (.string s) := kq.cell 0
  have c1 : w.cell? ⟨q, 1, none⟩ = some (.int .i64 (i : Int)) := kq.cell 1
  have c2 : w.cell? ⟨q, 2, none⟩ = some (.string ⟨#[]⟩) := kq.cell 2
  have fq : ∀ j, w.frozen? ⟨q, j, none⟩ = false := kq.frozen
  have HG0 : Hid _ := hg0
  clear hg0
  go_enter Try.func30, Try.ntmps30
  go_wp2_with fail
  go_quiet (fail)
  go_wp2_with fail
  have ku := kq.drewN nq
  have mu := (St.mk (Mv.refl q sgv w) (Nx.refl sgv w) hown hneq).drewN nq
  clear hown hneq
  generalize w.drewN nq = u at *
  have c0 : u.cell? ⟨q, 0, none⟩ = some (.string s) := ku.cell 0
  have fq : ∀ j, u.frozen? ⟨q, j, none⟩ = false := ku.frozen
  have c1 := ku.cell 1
  have c2 := ku.cell 2
  simp only [rblk] at c1 c2
  clear kq
  go_loop [2, 3] (fun at_ r => ∃ (k : Nat) (b : Bool), k ≤ s.size ∧ at_ = .int .i64 k ∧ r = .bool b ∧ Hid (Lx.gapEnd s k b = g)) (fun at_ _ => s.size - (intOf at_).toNat)
  case atStart => exact ⟨i, false, hi, rfl, rfl, HG0⟩
  case round =>
    obtain ⟨k, b, hk, rfl, rfl, hg⟩ := hrel
    by_cases hlt : k < s.size
    · have hbd := Lx.byteAt_bd s k
      rw [Lx.byteAt_eq s k hlt] at hbd
      have hcs : (s[k].toNat : Int) = 10 ∨ (s[k].toNat : Int) = 35 ∨ (s[k].toNat : Int) = 32 ∨ (s[k].toNat : Int) = 9 ∨ ((s[k].toNat : Int) ≠ 10 ∧ (s[k].toNat : Int) ≠ 35 ∧ (s[k].toNat : Int) ≠ 32 ∧ (s[k].toNat : Int) ≠ 9) := by omega
      rcases hcs with hc | hc | hc | hc | hc
      · have HG : Hid (Lx.gapEnd s (k + 1) false = g) := Lx.gap_nl hlt hg.out hc
        cases b
        all_goals
          go_wp2_with fail
          exact ⟨⟨k + 1, _, by omega, by go_num, rfl, HG⟩, by simp [intOf]; omega⟩
      · have HG : Hid (Lx.gapEnd s (k + 1) true = g) := Lx.gap_hash hlt hg.out hc
        cases b
        all_goals
          go_wp2_with fail
          exact ⟨⟨k + 1, _, by omega, by go_num, rfl, HG⟩, by simp [intOf]; omega⟩
      · cases b
        · have HG : Hid (Lx.gapEnd s (k + 1) false = g) := Lx.gap_blank hlt hg.out (.inl hc)
          go_wp2_with fail
          exact ⟨⟨k + 1, _, by omega, by go_num, rfl, HG⟩, by simp [intOf]; omega⟩
        · have HG : Hid (Lx.gapEnd s (k + 1) true = g) := Lx.gap_rem hlt hg.out (by omega) (by omega)
          go_wp2_with fail
          exact ⟨⟨k + 1, _, by omega, by go_num, rfl, HG⟩, by simp [intOf]; omega⟩
      · cases b
        · have HG : Hid (Lx.gapEnd s (k + 1) false = g) := Lx.gap_blank hlt hg.out (.inr hc)
          go_wp2_with fail
          exact ⟨⟨k + 1, _, by omega, by go_num, rfl, HG⟩, by simp [intOf]; omega⟩
        · have HG : Hid (Lx.gapEnd s (k + 1) true = g) := Lx.gap_rem hlt hg.out (by omega) (by omega)
          go_wp2_with fail
          exact ⟨⟨k + 1, _, by omega, by go_num, rfl, HG⟩, by simp [intOf]; omega⟩
      · have t10 : ((s[k].toNat : Int) == 10) = false := beq_eq_false_iff_ne.2 hc.1
        have t35 : ((s[k].toNat : Int) == 35) = false := beq_eq_false_iff_ne.2 hc.2.1
        have t32 : ((s[k].toNat : Int) == 32) = false := beq_eq_false_iff_ne.2 hc.2.2.1
        have t9 : ((s[k].toNat : Int) == 9) = false := beq_eq_false_iff_ne.2 hc.2.2.2
        cases b
        · have hkg : k = g := Lx.gap_stop hlt hg.out hc.1 hc.2.1 hc.2.2.1 hc.2.2.2
          subst hkg
          clear hc
          exact absurd hlt hge
        · have HG : Hid (Lx.gapEnd s (k + 1) true = g) := Lx.gap_rem hlt hg.out hc.1 hc.2.1
          clear hc
          go_wp2_with fail
          exact ⟨⟨k + 1, _, by omega, by go_num, rfl, HG⟩, by simp [intOf]; omega⟩
    · have hkg : k = g := by have := hg.out; rw [Lx.gapEnd_done _ (by omega)] at this; exact this
      subst hkg
      have HQ : Hid (Lx.refSign s k = ⟨#[]⟩) := Lx.refSign_end hlt
      have hkk : ((k : Int) == (s.size : Int)) = true := beq_iff_eq.2 (by omega)
      go_wp2_with fail
      refine bodyPost_ret (results_none rfl _ _ _) rfl ?_
      refine ⟨rfl, _, (mu.set 1 _).set 2 _, ?_⟩
      rw [HQ.out]
      exact (ku.set 1 _).set 2 _
end Go.Proofs.Ytonkcljapkeidaa

import Derived.Test.YtjaalkocdbkdeaaGreatDoorRows
import Derived.Test.YtjaalkocdbkdeaaGreatDoorCards
import Derived.Test.YtjaalkocdbkdeaaGreatDoorTie
import Derived.Test.YtjaalkocdbkdeaaGreatDoorSWC
import Derived.ProofKit
import Derived.ChangeBears2
import Derived.OpenShut
import Derived.LaidMore
import Derived.LaidSub
import Derived.LaidHandle
import Derived.Stop.Joined
import Derived.SevenTiedAt
import Derived.ChangeSlices
import Derived.Deep.DeepHandedRow
import Derived.Deep.DeepWitnessRowRef
namespace Go.Proofs.YtjaalkocdbkdeaaGreatDoor
open Go.ChangeShapes Go.WideShapes Go.ChangeAt Go.RowKit
open Go.ChangeMaps (open_string shut_string)
theorem Tryz.own : ownKnob Tryz.prog.godebug = none := by kernel_rfl
theorem ah9 (os : Os) (args : Array Value) : laidMetH Tryz.prog Rows.stateRowsUptoRow.laid ((World.doorLaid Tryz.prog 24 os).forCall (fun _ _ => 0) ⟨#[], args, []⟩).memory :=
  laidMetH_of_parts (laidMet_of_run' 8 (by kernel_rfl) (by kernel_rfl)) (by kernel_rfl)
theorem ae0 {W : World} (h : laidMetH Tryz.prog Rows.stateRowsUptoRow.laid W) : jd W := by
  have h1 := (laidMetH_iff.1 (h.filter fun x => x.1 == "internal/strconv.uint64pow10")).1
  have h2 : laidMet Tryz.prog [("internal/strconv.uint64pow10", Lib.tabData .u64 Lib.pow10Tab)] W := h1
  exact Lib.tabIs_of_head (g := rA) (t := 259) (e := 224) (n := 20) OC (by kernel_rfl) (by kernel_rfl) (by kernel_rfl) (by kernel_rfl) (by kernel_rfl) h2
theorem cells3 : Tryz.prog.cellsOf 3 = 1 := by kernel_rfl
theorem lits_bulk {H : Type} (k : IntKind) : ∀ zs : List Int, zs.length ≤ Rows.uptoBulkAll (lits (H := H) k zs)
  | [] => Nat.zero_le _
  | z :: zs => by
    have h := lits_bulk (H := H) k zs
    have e : lits (H := H) k (z :: zs) = .lit (.int k z) :: lits k zs := rfl
    rw [e, Rows.uptoBulkAll, List.length_cons]
    have : Rows.uptoBulk (DataW.lit (H := H) (.int k z)) = 1 := by simp [Rows.uptoBulk]
    omega
theorem reads (os : Os) {H : Type} (enc : TypeId × Value → H) : ∃ places, DataW.whole enc Tryz.prog ((World.doorLaid Tryz.prog 24 os).forCall (fun _ _ => 0) ⟨#[], #[.string ⟨#[]⟩, .slice none 0 0], []⟩).memory Tryz.f5.params.toList Rows.stateRowsSpec.vars false #[Value.string ⟨#[]⟩, .slice none 0 0].toList 8 = some ([.lit (.string []), .nil], [], places) :=
  ⟨[], by kernel_rfl⟩
set_option maxHeartbeats 1600000 in
set_option maxRecDepth 100000 in
theorem rows_contract (H : Type) (enc : TypeId × Value → H) (W : World) (base : Nat) (args : Array Value) (ds gs : List (DataW H)) (before : List MemPlace)
    (hval : ∀ (j : Nat) t v, Tryz.f5.params[j]? = some t → args[j]? = some v → Value.okWide Tryz.prog W .any base t v)
    (hW : DataW.Whole enc Tryz.prog Tryz.f5.params.toList Rows.stateRowsSpec.vars false W args.toList ds gs before) (hL : laidMetH Tryz.prog Rows.stateRowsUptoRow.laid W) (hk : Rows.uptoSmall H (ds ++ gs) = true) :
    Calls Tryz.prog 5 args W fun e W' => ∃ v, e = .returned v ∧ Rows.stateRowsSpec.post enc Tryz.prog Tryz.f5 false true false false W args v W' := by
  have hW' := hW
  obtain ⟨p, q, hA0, hV, rfl, hfz, hnd⟩ := hW
  have hA : DataW.TrodAll enc Tryz.prog W 0 (fun _ => true) true Tryz.f5.params.toList args.toList ds p := hA0
  rw [Tryz.params5] at hA hval
  obtain ⟨v0, v1, d0, d1, p0, p1, rfl, rfl, rfl, h0, h1⟩ := trodAll_two hA
  obtain ⟨rfl, rfl⟩ := trodVars_none hV
  obtain ⟨s, rfl, rfl, rfl, ws⟩ := open_string Tryz.underlying9 (hval 0 9 v0 rfl rfl) h0
  obtain ⟨a0, len, cap, rfl⟩ := okWide_slice Tryz.underlying43 (hval 1 43 v1 rfl rfl)
  have ht := ae0 hL
  have hb : Rows.uptoBulkAll ([DataW.lit (.string s.data.toList), d1] ++ ([] : List (DataW H))) ≤ 1048576 := of_decide_eq_true hk
  obtain ⟨fuel, hf⟩ := h1
  clear hA0 hA
  simp only [List.append_nil] at hW' hb
  rcases open_ints Tryz.underlying43 Tryz.underlying3 cells3 hf with ⟨hcs, hx⟩ | ⟨a, len', cap', zs, hcs, _, hl, hm, hz, hx, hcell, hwz⟩
  · simp [Value.cells] at hcs
    obtain ⟨rfl, rfl, rfl⟩ := hcs
    simp only [Prod.mk.injEq] at hx
    obtain ⟨rfl, rfl⟩ := hx
    refine (StateRows_any s (.slice none 0 0) [] W (by unfold maxLen at *; omega) ht ⟨none, 0, rfl, Nat.le_refl _, fun t h => by cases h⟩ (by simp)).mono fun e W' ⟨he, hB⟩ => ?_
    subst he
    refine ⟨_, rfl, _, _, _, [], [], [], hW', ?_, ?_, ?_, hB.frame _, fun h => by cases h⟩
    · exact trodAll_mk1 (shut_bool Tryz.underlying4 true)
    · exact trodAll_mk2 (p := []) (p' := []) (shut_string Tryz.underlying9 ws) (shut_slice_nil Tryz.underlying43)
    · exact hV
  · simp [Value.cells] at hcs
    obtain ⟨rfl, rfl, rfl⟩ := hcs
    simp only [Prod.mk.injEq] at hx
    obtain ⟨rfl, rfl⟩ := hx
    simp only [if_true] at hz
    have hlz : len ≤ zs.length := by omega
    have hbl : (zs.take len).length ≤ 1048576 := by
      have := lits_bulk (H := H) .i64 (zs.take len)
      simp only [Rows.uptoBulkAll, Rows.uptoBulk] at hb
      omega
    have htl : (zs.take len).length = len := by rw [List.length_take]; omega
    obtain ⟨b, off, spot⟩ := a
    have hspot : 0 < zs.length → spot = none := fun h0 => by simpa [Addr.add] using World.cell?_spot (hcell 0 h0)
    have hrz : RowZ W (.slice (some ⟨b, off, spot⟩) len cap) (zs.take len) := by
      refine ⟨some ⟨b, off, spot⟩, cap, by rw [htl], by rw [htl]; exact hl, fun t h => ?_⟩
      rw [htl] at h
      obtain rfl := hspot (by omega)
      have hc : W.cell? ⟨b, off + t, none⟩ = some (.int .i64 (zs.getD t 0)) := by have := hcell t (by omega); rwa [show (⟨b, off, none⟩ : Addr).add t = ⟨b, off + t, none⟩ by simp [Addr.add]] at this
      refine ⟨b, off, rfl, World.block_lt_of_cell? _ _ hc, ?_⟩
      rw [hc]
      simp [List.getD, show t < zs.length by omega]
    refine (StateRows_any s _ (zs.take len) W (by unfold maxLen at *; omega) ht hrz hbl).mono fun e W' ⟨he, hB⟩ => ?_
    subst he
    refine ⟨_, rfl, _, _, _, [], [] ++ MemPlace.row ⟨b, off, spot⟩ zs.length, [], hW', ?_, ?_, ?_, hB.frame _, fun h => by cases h⟩
    · exact trodAll_mk1 (shut_bool Tryz.underlying4 true)
    · refine trodAll_mk2 (shut_string Tryz.underlying9 ws) ⟨2, ?_⟩
      refine shut_ints 0 Tryz.underlying43 Tryz.underlying3 cells3 (Nat.zero_le _) hl hm ?_ (fun i hi => ?_) hwz
      · show zs.length = if decide (b < W.heap.size) = true then cap else len
        split
        · exact hz
        · rename_i hn
          rcases Nat.eq_zero_or_pos zs.length with h0 | h0
          · omega
          · exact absurd (decide_eq_true (World.block_lt_of_cell? _ _ (hcell 0 h0))) (by simpa [Addr.add] using hn)
      · obtain rfl := hspot (by omega)
        exact jS hB (hcell i hi)
    · exact hV
set_option maxRecDepth 100000 in
theorem stateRowsUpto_lifted (os : Os) (started : os.Started) (H : Type) (enc : TypeId × Value → H) (F : Stop.Interp) :
    ReturnsInHanded {} Tryz.checked os 5 .any ((Rows.OpenSpec.upto Rows.stateRowsSpec).preRow enc Tryz.prog Tryz.f5 Rows.stateRowsUptoRow.domain false Rows.stateRowsUptoRow.laid) (((Rows.OpenSpec.upto Rows.stateRowsSpec).at F).post enc Tryz.prog Tryz.f5 false true false false) := by
  obtain ⟨places, hx⟩ := reads os enc
  refine returnsInHanded_of_row (C := Tryz.checked) (s := Rows.OpenSpec.upto Rows.stateRowsSpec) Tryz.own started (by kernel_rfl) Tryz.func5
    (witness_row_atRef (enc := enc) (C := Tryz.checked) false (World.doorLaid Tryz.prog 24 os) #[.string ⟨#[]⟩, .slice none 0 0] rfl (by kernel_rfl) (by kernel_rfl) (by kernel_rfl)
      (OpenSpec.preRow_of_cond 8 hx (by kernel_rfl) (fun k hk => by cases hk; kernel_rfl) (by kernel_rfl) (ah9 os _))) ?_
  intro W base args ds gs before hval hW _ hcond _ hL _ _
  exact rows_contract H enc W base args ds gs before hval hW hL (hcond _ rfl)
theorem stateRowsUpto_holds : Rows.StateRowsUptoSaid :=
  OpenClaim.holds_of_cond 5 Tryz.f5 rfl rfl rfl rfl rfl rfl rfl ⟨rfl, rfl, rfl, rfl, rfl⟩ rfl rfl rfl rfl rfl (by kernel_rfl) Tryz.func5 (by kernel_rfl)
    (of_decide_eq_true (by kernel_rfl)) (by unfold Func.isWrapper; rw [if_neg (by decide +kernel)]; exact ⟨rfl, rfl⟩)
    (fun os started H enc _ F => by rw [OpenClaim.pre_eq_preRow]; exact stateRowsUpto_lifted os started H enc F)
theorem stateRowsUpto_card_holds : Rows.StateRowsUptoCardSaid :=
  Claim7.holds_tied_plain_at .later [] [.data, .data, .data] true (true, "c351ba071e4a9e19ffd6a9dccf632aca2983ab485245bd441d9af7839ef7337e") true
    stateRowsUpto_holds (fun _ h => by cases h) (by kernel_rfl) (fun _ h => by cases h) stateRowsUpto_row_tie rfl ⟨rfl, rfl⟩ (by kernel_rfl) rfl
    (fun f fn hf hfn => by
      obtain rfl : f = 5 := Option.some.inj ((show Tryz.prog.funcNamed "comb/comblaw03.StateRows" = some 5 by kernel_rfl).symm.trans hf) |>.symm
      obtain rfl : fn = Tryz.f5 := (Option.some.inj (Tryz.func5.symm.trans hfn)).symm
      refine ⟨by kernel_rfl, fun j t ht => ?_⟩
      rw [Tryz.params5] at ht
      have h3 : t = 9 ∨ t = 43 := by simpa using Array.mem_of_getElem? ht
      rcases h3 with rfl | rfl
      · exact (show Tryz.prog.wantsStandIn 9 = false by kernel_rfl)
      · exact (show Tryz.prog.wantsStandIn 43 = false by kernel_rfl))
    (by kernel_rfl)
#print axioms stateRowsUpto_card_holds
end Go.Proofs.YtjaalkocdbkdeaaGreatDoor

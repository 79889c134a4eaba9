import Derived.Test.YtfpjphhnjegnjaaGreatDoorRows
import Derived.Test.YtfpjphhnjegnjaaGreatDoorCards
import Derived.Test.YtfpjphhnjegnjaaGreatDoorTie
import Derived.Test.YtfpjphhnjegnjaaGreatDoorCL14
import Derived.ProofKit
import Derived.ChangeBears2
import Derived.OpenShut
import Derived.LaidMore
import Derived.LaidSub
import Derived.LaidHandle
import Derived.Lay
import Derived.Stop.Joined
import Derived.SevenTiedAt
namespace Go.Proofs.YtfpjphhnjegnjaaGreatDoor
open Lx Go.Proofs.Tryz
open Go.ChangeShapes Go.WideShapes Go.ChangeAt Go.RowKit
theorem Tryz.own:ownKnob prog.godebug=none:=by kernel_rfl
theorem ahV:(Rows.combListsRow.laid.filter fun x=>x.snd.handleName?.isNone)=Rows.combListsRow.laid:=by kernel_rfl
theorem akP(os:Os)(args:Array Value):laidMetH prog Rows.combListsRow.laid ((World.laidAll prog os Rows.combListsRow.laid).forCall (fun _ _=>0) ⟨#[],args,[]⟩).memory :=
 laidMetH_of_parts (by rw[ahV];exact laidMet_laidAll args (by kernel_rfl) (by kernel_rfl)) (by kernel_rfl)
set_option maxHeartbeats 1600000 in
set_option maxRecDepth 100000 in
theorem afb(os:Os)(a:os.Started)(H:Type)(enc:TypeId×Value→H):
  ReturnsInHanded {} Tryz.checked os 3 .any (fun w args=>(Rows.combListsSpec.pre enc prog Tryz.f3 [] false w args∧laidMetH prog Rows.combListsRow.laid w)∧sizedMet enc prog Tryz.f3 (OpenSpec.ofChange Rows.combListsSpec) false w args)
   (Rows.combListsSpec.post enc prog Tryz.f3 false true false false):=by
 refine returnsInHanded_of_change_and (C:=Tryz.checked) (X:=fun w _=>laidMetH prog Rows.combListsRow.laid w) (fun _ _ _ u h=>h.of_heap u) Tryz.own a (by kernel_rfl) func3
  (ChangeSpec.witness_shaped (enc:=enc) (C:=Tryz.checked) (os:=os) (X:=fun w _=>laidMetH prog Rows.combListsRow.laid w) false (World.laidAll prog os Rows.combListsRow.laid) #[.int .i64 0] 8 rfl (World.shaped_of_RefB (by kernel_rfl) (by kernel_rfl)) (by kernel_rfl) (by kernel_rfl) (by kernel_rfl) (akP os _)) ?_
 intro W base args r E g b k _ _ s _;have c:∀(j:Nat)t v,Tryz.f3.params[j]?=some t→args[j]?=some v→Value.okWide prog W .any base t v:=b;have f:=k;obtain⟨p,q,d,l,rfl,D,x⟩:=k;have i:DataW.TrodAll enc prog W 0 (fun _=>true) true Tryz.f3.params.toList args.toList r p:=d;rw[params3]at i c;obtain⟨B,F,rfl,rfl,o⟩:=trodAll_one i;obtain⟨rfl,rfl⟩:=trodVars_none l;obtain⟨n,rfl,rfl,rfl,y⟩:=open_int underlying3 (c 0 3 B rfl rfl) o;have m:=amd s;clear d b i;simp only[List.append_nil]at f;refine(Cl.afG m n).mono fun e G⟨z,A⟩=>?_
 subst z;refine⟨_,rfl,_,_,_,[],[],[],f,?_,?_,?_,A.frame _,fun h=>by cases h⟩
 ·exact trodAll_mk1 (shut_bool underlying4 true)
 ·exact trodAll_mk1 (shut_int underlying3 y)
 ·exact l
theorem afg:Rows.CombListsSaid :=
 OpenClaim.holds_of_wide 3 Tryz.f3 rfl rfl rfl rfl rfl rfl rfl ⟨rfl,rfl,rfl,rfl,rfl⟩ rfl rfl rfl rfl rfl (by kernel_rfl) func3 (by kernel_rfl)
  (mL (by kernel_rfl)) (by unfold Func.isWrapper;rw[dt (by decide +kernel)];exact⟨rfl,rfl⟩)
  (fun c a H b _=>afb c a H b)
theorem combLists_card_holds:Rows.CombListsCardSaid :=
 Claim7.holds_tied_plain_at .later [] [.data, .data, .data, .data, .called] true (true, "2969db8f1b0604dc35ac7161bd749cb0ed1a0c4632363dcba2225a7916d719ed") true
  afg (fun _ h=>by cases h) (by kernel_rfl) (fun _ h=>by cases h) combLists_row_tie rfl ⟨rfl,rfl⟩ (by kernel_rfl) rfl
  (fun f d c a=>by
   obtain rfl : f = 3 := Option.some.inj ((show prog.funcNamed "comb/comblaw09.CombLists" = some 3 by kernel_rfl).symm.trans c) |>.symm
   obtain rfl:d=Tryz.f3:=(fL (func3.symm.trans a)).symm;exact⟨by kernel_rfl,fun j t b=>by
    rw[params3]at b;have h3:t=3:=by
     rcases j with _|j
     ·simpa using b.symm
     ·simp at b
    subst h3;exact(show prog.wantsStandIn 3=false by kernel_rfl)⟩)
  (by kernel_rfl)
#print axioms combLists_card_holds

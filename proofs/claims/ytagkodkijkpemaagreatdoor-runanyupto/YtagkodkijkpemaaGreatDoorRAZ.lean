import Derived.Test.YtagkodkijkpemaaGreatDoorRows
import Derived.Test.YtagkodkijkpemaaGreatDoorCards
import Derived.Test.YtagkodkijkpemaaGreatDoorTie
import Derived.Test.YtagkodkijkpemaaGreatDoorRA40
import Derived.Test.YtagkodkijkpemaaGreatDoorRA47
import Derived.Test.YtagkodkijkpemaaGreatDoorRA48
import Derived.ProofKit
import Derived.ChangeBears2
import Derived.OpenShut
import Derived.LaidMore
import Derived.LaidSub
import Derived.LaidHandle
import Derived.Stop.Joined
import Derived.SevenTiedAt
import Derived.ChangeSlices
import Derived.Deep.DeepHandedRow
import Derived.Deep.DeepWitnessRowRef
namespace Go.Proofs.YtagkodkijkpemaaGreatDoor
open Lx Go.Proofs.Tryz
open Go.ChangeShapes Go.WideShapes Go.ChangeAt Go.RowKit
open Go.ChangeMaps (open_string shut_string)
theorem Tryz.own:ownKnob prog.godebug=none:=by kernel_rfl
theorem cells3:prog.cellsOf 3=1:=by kernel_rfl
theorem aai{H:Type}(k:IntKind):∀zs:List Int,zs.length≤Rows.uptoBulkAll (lits (H:=H) k zs)
 | []=>eR _
 |z::zs=>by
  have h:=aai (H:=H) k zs;have e:lits (H:=H) k (z::zs)=.lit (.int k z)::lits k zs:=rfl;rw[e,Rows.uptoBulkAll,el];have:Rows.uptoBulk (DataW.lit (H:=H) (.int k z))=1:=by simp[Rows.uptoBulk]
  omega
theorem reads(os:Os){H:Type}(enc:TypeId×Value→H):∃places,DataW.whole enc prog ((World.laidAll prog os Rows.runAnyUptoRow.laid).forCall (fun _ _=>0) ⟨#[],#[.string ⟨#[]⟩,.slice none 0 0],[]⟩).memory Tryz.f4.params.toList Rows.runAnySpec.vars false #[Value.string ⟨#[]⟩,.slice none 0 0].toList 8=some ([.lit (.string []),.nil],[],places) :=
 ⟨[],by kernel_rfl⟩
set_option maxHeartbeats 1600000 in
set_option maxRecDepth 100000 in
theorem afb (L:Qc) (H:Type) (enc:TypeId×Value→H) (W:World) (base:Nat) (args:Array Value) (C M:List (DataW H)) (n:List MemPlace)
  (l:∀(j:Nat)t v,Tryz.f4.params[j]?=some t→args[j]?=some v→Value.okWide prog W .any base t v)
  (V:DataW.Whole enc prog Tryz.f4.params.toList Rows.runAnySpec.vars false W args.toList C M n) (S:laidMetH prog Rows.runAnyUptoRow.laid W) (hk:Rows.uptoSmall H (C++M)=true) :
  Calls prog 4 args W fun e W'=>∃v,e=.returned v∧Rows.runAnySpec.post enc prog Tryz.f4 false true false false W args v W':=by
 have u:=V;obtain⟨p,q,z,F,rfl,ab,ac⟩:=V;have D:DataW.TrodAll enc prog W 0 (fun _=>true) true Tryz.f4.params.toList args.toList C p:=z;rw[params4]at D l;obtain⟨v0,Y,d0,d1,p0,p1,rfl,rfl,rfl,x,h1⟩:=trodAll_two D;obtain⟨rfl,rfl⟩:=trodVars_none F;obtain⟨s,rfl,rfl,rfl,N⟩:=open_string underlying9 (l 0 9 v0 rfl rfl) x;obtain⟨a0,len,o,rfl⟩:=okWide_slice underlying22 (l 1 22 Y rfl rfl);have B:Rows.uptoBulkAll ([DataW.lit (.string s.data.toList),d1]++([]:List (DataW H)))≤1048576:=js hk;have hs:s.size≤1048576:=by
  simp only[Rows.uptoBulkAll,Rows.uptoBulk,fX,go,kh]at B;have e:s.size=s.data.size:=rfl;omega
 obtain⟨T,X⟩:=h1;clear z D;simp only[eN]at u B;rcases open_ints underlying22 underlying3 cells3 X with ⟨k,y⟩|⟨a,P,R,g,k,_,Q,Z,K,y,c,E⟩
 ·simp[Value.cells]at k
  obtain⟨rfl,rfl,rfl⟩:=k;simp only[ip]at y;obtain⟨rfl,rfl⟩:=y;refine(Zg L s (.slice none 0 0) [] W (by unfold maxLen at *;omega) S ⟨none,0,rfl,io _,fun t h=>by cases h⟩ (by simp)).mono fun e W'⟨J,A⟩=>?_
  subst J;refine⟨_,rfl,_,_,_,[],[],[],u,?_,?_,?_,A.frame _,fun h=>by cases h⟩
  ·exact trodAll_mk1 (shut_bool underlying4 true)
  ·exact trodAll_mk2 (p:=[]) (p':=[]) (shut_string underlying9 N) (shut_slice_nil underlying22)
  ·exact F
 ·simp[Value.cells]at k
  obtain⟨rfl,rfl,rfl⟩:=k;simp only[ip]at y;obtain⟨rfl,rfl⟩:=y;simp only[qe]at K;have aa:len≤g.length:=by omega
  have G:(g.take len).length≤1048576:=by
   have:=aai (H:=H) .i64 (g.take len);simp only[Rows.uptoBulkAll,Rows.uptoBulk]at B;omega
  have r:(g.take len).length=len:=by rw[fN];omega
  obtain⟨b,d,f⟩:=a;have m:0<g.length→f=none:=fun x=>by simpa [Addr.add]using World.cell?_spot (c 0 x)
  have I:oQ W (.slice (some ⟨b,d,f⟩) len o) (g.take len):=by
   refine⟨some ⟨b,d,f⟩,o,by rw[r],by rw[r];exact Q,fun t h=>?_⟩;rw[r]at h;obtain rfl:=m (by omega);have U:W.cell? ⟨b,d+t,none⟩=some (.int .i64 (g.getD t 0)):=by have:=c t (by omega);rwa [show (⟨b,d,none⟩:Addr).add t=⟨b,d+t,none⟩ by simp[Addr.add]]at this
   refine⟨b,d,rfl,od _ _ U,?_⟩;rw[U];simp[List.getD,show t<g.length by omega]
  refine(Zg L s _ (g.take len) W (by unfold maxLen at *;omega) S I G).mono fun e W'⟨J,A⟩=>?_
  subst J;refine⟨_,rfl,_,_,_,[],[]++MemPlace.row ⟨b,d,f⟩ g.length,[],u,?_,?_,?_,A.frame _,fun h=>by cases h⟩
  ·exact trodAll_mk1 (shut_bool underlying4 true)
  ·refine trodAll_mk2 (shut_string underlying9 N) ⟨2,?_⟩
   refine shut_ints 0 underlying22 underlying3 cells3 (eR _) Q Z ?_ (fun i O=>?_) E
   ·show g.length=if decide (b<W.heap.size)=true then o else len
    split
    ·exact K
    ·rename_i hn
     rcases Nat.eq_zero_or_pos g.length with x|x
     ·omega
     ·exact absurd (fh (od _ _ (c 0 x))) (by simpa [Addr.add]using hn)
   ·obtain rfl:=m (by omega)
    exact((cJ (w:=W) (A.block _ (od W _ (c i O)))).trans (c i O))
  ·exact F
set_option maxRecDepth 100000 in
theorem aeD(L:Qc)(os:Os)(a:os.Started)(H:Type)(enc:TypeId×Value→H)(F:Stop.Interp):
  ReturnsInHanded {} Tryz.checked os 4 .any ((Rows.OpenSpec.upto Rows.runAnySpec).preRow enc prog Tryz.f4 Rows.runAnyUptoRow.domain false Rows.runAnyUptoRow.laid) (((Rows.OpenSpec.upto Rows.runAnySpec).at F).post enc prog Tryz.f4 false true false false):=by
 obtain⟨places,g⟩:=reads os enc;refine returnsInHanded_of_row (C:=Tryz.checked) (s:=Rows.OpenSpec.upto Rows.runAnySpec) Tryz.own a (by kernel_rfl) func4
  (witness_row_atRef (enc:=enc) (C:=Tryz.checked) false (World.laidAll prog os Rows.runAnyUptoRow.laid) #[.string ⟨#[]⟩,.slice none 0 0] rfl (by kernel_rfl) (by kernel_rfl) (by kernel_rfl)
   (OpenSpec.preRow_of_cond 8 g (by kernel_rfl) (fun k n=>by cases n;kernel_rfl) (by kernel_rfl) (akC os _))) ?_
 intro W base d i l b f m _ c _ j _ _;exact afb L H enc W base d i l b f m j (c _ rfl)
theorem aeF(L:Qc):Rows.RunAnyUptoSaid :=
 OpenClaim.holds_of_cond 4 Tryz.f4 rfl rfl rfl rfl rfl rfl rfl ⟨rfl,rfl,rfl,rfl,rfl⟩ rfl rfl rfl rfl rfl (by kernel_rfl) func4 (by kernel_rfl)
  (js (by kernel_rfl)) (by unfold Func.isWrapper;rw[dk (by decide +kernel)];exact⟨rfl,rfl⟩)
  (fun c a H b _ F=>by rw[OpenClaim.pre_eq_preRow];exact aeD L c a H b F)
theorem runAnyUpto_card_holds:Rows.RunAnyUptoCardSaid :=
 Claim7.holds_tied_plain_at .later [] [.data, .data, .data, .data, .called] true (true, "9f472003c7611f34d0dd9f61810188b940c895f60c74e1dc60470709e5ed5a84") true
  (aeF fun _ ht h2=>amu ht h2) (fun _ h=>by cases h) (by kernel_rfl) (fun _ h=>by cases h) runAnyUpto_row_tie rfl ⟨rfl,rfl⟩ (by kernel_rfl) rfl
  (fun f b c a=>by
   obtain rfl : f = 4 := Option.some.inj ((show prog.funcNamed "comb/comblaw07.RunAny" = some 4 by kernel_rfl).symm.trans c) |>.symm
   obtain rfl:b=Tryz.f4:=(gh (func4.symm.trans a)).symm;refine⟨by kernel_rfl,fun j t ht=>?_⟩;rw[params4]at ht;have h3:t=9∨t=22:=by simpa using Array.mem_of_getElem? ht
   rcases h3 with rfl|rfl
   ·exact(show prog.wantsStandIn 9=false by kernel_rfl)
   ·exact(show prog.wantsStandIn 22=false by kernel_rfl))
  (by kernel_rfl)
#print axioms runAnyUpto_card_holds
end Go.Proofs.YtagkodkijkpemaaGreatDoor
import Derived.Test.YtagkodkijkpemaaGreatDoorCards
import Derived.Test.YtagkodkijkpemaaGreatDoorTie
import Derived.Test.YtagkodkijkpemaaGreatDoorQA15
import Derived.OpenShut
import Derived.SevenTiedAt
import Derived.Deep.DeepWitnessRowRef
namespace Go.Proofs.YtagkodkijkpemaaGreatDoor
open Lx Go.Proofs.Tryz
open Go.ChangeShapes Go.WideShapes Go.ChangeAt Go.RowKit
open Go.ChangeMaps (open_string shut_string)
theorem Tryz.own:ownKnob prog.godebug=none:=by kernel_rfl
theorem cells3:prog.cellsOf 3=1:=by kernel_rfl
theorem aaY{H:Type}(k:IntKind):∀zs:List Int,zs.length≤Rows.uptoBulkAll (lits (H:=H) k zs)
 | []=>ff _
 |z::zs=>by
  have h:=aaY (H:=H) k zs;have e:lits (H:=H) k (z::zs)=.lit (.int k z)::lits k zs:=rfl;rw[e,Rows.uptoBulkAll,ev];have:Rows.uptoBulk (DataW.lit (H:=H) (.int k z))=1:=by simp[Rows.uptoBulk]
  omega
theorem agk{H:Type}{enc:TypeId×Value→H}{P:Program}{w:World}{base:Nat}{a:Nat→Bool}{b:Bool}{t x c r y:TypeId}{args:Array Value}{u:List (DataW H)}{s:List MemPlace}(h:DataW.TrodAll enc P w base a b [t,x,c,r,y] args.toList u s):
  ∃v v' v'' v3 v4 d d' d'' d3 d4 p p' p'' p3 p4,args=#[v,v',v'',v3,v4]∧u=[d,d',d'',d3,d4]∧s=p++(p'++(p''++(p3++p4)))∧DataW.Trod enc P w base a b t v d p∧DataW.Trod enc P w base a b x v' d' p'∧DataW.Trod enc P w base a b c v'' d'' p''∧DataW.Trod enc P w base a b r v3 d3 p3∧DataW.Trod enc P w base a b y v4 d4 p4:=by
 obtain⟨v,U,d,Q,p,q,k,rfl,rfl,hd,z⟩:=trodAll_cons h;obtain⟨B,N,A,D,E,R,rfl,rfl,rfl,l,i⟩:=trodAll_cons z;obtain⟨F,K,I,J,L,S,rfl,rfl,rfl,o,g⟩:=trodAll_cons i;obtain⟨v3,C,d3,G,p3,T,rfl,rfl,rfl,n,j⟩:=trodAll_cons g;obtain⟨v4,M,d4,O,p4,V,rfl,rfl,rfl,m,f⟩:=trodAll_cons j;obtain⟨rfl,rfl,rfl⟩:=trodAll_nil f;exact⟨v,B,F,v3,v4,d,A,I,d3,d4,p,E,L,p3,p4,by cases args;simp_all,rfl,by simp,hd,l,o,n,m⟩
theorem YZ{H:Type}{enc:TypeId×Value→H}{P:Program}{w:World}{base:Nat}{a:Nat→Bool}{b:Bool}{t l f j o:TypeId}{v n g v3 v4:Value}{d q c m k:DataW H}{p p' p'' p3 p4:List MemPlace}(h:DataW.Trod enc P w base a b t v d p)(r:DataW.Trod enc P w base a b l n q p')(i:DataW.Trod enc P w base a b f g c p'')(h3:DataW.Trod enc P w base a b j v3 m p3)(h4:DataW.Trod enc P w base a b o v4 k p4):DataW.TrodAll enc P w base a b [t,l,f,j,o] [v,n,g,v3,v4] [d,q,c,m,k] (p++(p'++(p''++(p3++p4)))):=⟨p,_,h,⟨p',_,r,trodAll_mk3 i h3 h4,rfl⟩,rfl⟩
theorem reads(os:Os){H:Type}(enc:TypeId×Value→H):∃places,DataW.whole enc prog ((World.laidAll prog os Rows.packAnyUptoRow.laid).forCall (fun _ _=>0) ⟨#[],#[.string ⟨#[]⟩,.string ⟨#[]⟩,.int .i64 0,.string ⟨#[]⟩,.slice none 0 0],[]⟩).memory Tryz.f3.params.toList Rows.packAnySpec.vars false #[Value.string ⟨#[]⟩,.string ⟨#[]⟩,.int .i64 0,.string ⟨#[]⟩,.slice none 0 0].toList 8=some ([.lit (.string []),.lit (.string []),.lit (.int .i64 0),.lit (.string []),.nil],[],places) :=
 ⟨[],by kernel_rfl⟩
set_option maxHeartbeats 1600000 in
set_option maxRecDepth 100000 in
theorem afS(H:Type)(enc:TypeId×Value→H)(W:World)(base:Nat)(args:Array Value)(M gs:List (DataW H))(m:List MemPlace)
  (d:∀(j:Nat)t v,Tryz.f3.params[j]?=some t→args[j]?=some v→Value.okWide prog W .any base t v)
  (T:DataW.Whole enc prog Tryz.f3.params.toList Rows.packAnySpec.vars false W args.toList M gs m) (hL:laidMetH prog Rows.packAnyUptoRow.laid W) (hk:Rows.uptoSmall H (M++gs)=true) :
  Calls prog 3 args W fun e W'=>∃v,e=.returned v∧Rows.packAnySpec.post enc prog Tryz.f3 false true false false W args v W':=by
 have o:=T;obtain⟨p,q,B,G,rfl,aa,ab⟩:=T;have I:DataW.TrodAll enc prog W 0 (fun _=>true) true Tryz.f3.params.toList args.toList M p:=B;rw[params3]at I d;obtain⟨v0,v1,v2,v3,v4,d0,d1,d2,d3,d4,p0,p1,p2,p3,p4,rfl,rfl,rfl,y,h1,h2,h3,h4⟩:=agk I;obtain⟨rfl,rfl⟩:=trodVars_none G;obtain⟨s,rfl,rfl,rfl,X⟩:=open_string underlying9 (d 0 9 v0 rfl rfl) y;obtain⟨z,rfl,rfl,rfl,S⟩:=open_string underlying9 (d 1 9 v1 rfl rfl) h1;obtain⟨n,rfl,rfl,rfl,Z⟩:=open_int underlying3 (d 2 3 v2 rfl rfl) h2;obtain⟨x,rfl,rfl,rfl,Y⟩:=open_string underlying9 (d 3 9 v3 rfl rfl) h3;obtain⟨a0,len,r,rfl⟩:=okWide_slice underlying22 (d 4 22 v4 rfl rfl);have L:Rows.uptoBulkAll ([DataW.lit (.string s.data.toList),DataW.lit (.string z.data.toList),DataW.lit (.int .i64 n),DataW.lit (.string x.data.toList),d4]++([]:List (DataW H)))≤1048576:=iS hk;have A:s.size≤1048576∧z.size≤1048576∧x.size≤1048576:=by
  simp only[Rows.uptoBulkAll,Rows.uptoBulk,List.cons_append,List.nil_append,Array.length_toList]at L;have e:s.size=s.data.size:=rfl;have e2:z.size=z.data.size:=rfl;have e3:x.size=x.data.size:=rfl;omega
 obtain⟨P,hf⟩:=h4;clear B I;simp only[List.append_nil]at o L;rcases open_ints underlying22 underlying3 cells3 hf with ⟨l,C⟩|⟨a,Q,V,g,l,_,R,hm,N,C,c,F⟩
 ·simp[Value.cells]at l
  obtain⟨rfl,rfl,rfl⟩:=l;simp only[Prod.mk.injEq]at C;obtain⟨rfl,rfl⟩:=C;refine(Yt s z x n (.slice none 0 0) [] W A.1 A.2.1 A.2.2 hL ⟨none,0,rfl,dy _,fun t h=>by cases h⟩ (by simp)).mono fun e W'⟨E,D⟩=>?_
  subst E;refine⟨_,rfl,_,_,_,[],[],[],o,?_,?_,?_,D.frame _,fun h=>by cases h⟩
  ·exact trodAll_mk1 (shut_bool underlying4 true)
  ·exact YZ (p:=[]) (p':=[]) (p'':=[]) (p3:=[]) (p4:=[]) (shut_string underlying9 X) (shut_string underlying9 S) (shut_int underlying3 Z) (shut_string underlying9 Y) (shut_slice_nil underlying22)
  ·exact G
 ·simp[Value.cells]at l
  obtain⟨rfl,rfl,rfl⟩:=l;simp only[Prod.mk.injEq]at C;obtain⟨rfl,rfl⟩:=C;simp only[if_true]at N;have ac:len≤g.length:=by omega
  have J:(g.take len).length≤1048576:=by
   have:=aaY (H:=H) .i64 (g.take len);simp only[Rows.uptoBulkAll,Rows.uptoBulk]at L;omega
  have u:(g.take len).length=len:=by rw[j'];omega
  obtain⟨b,off,f⟩:=a;have k:0<g.length→f=none:=fun y=>by simpa [Addr.add]using World.cell?_spot (c 0 y)
  have K:Eh W (.slice (some ⟨b,off,f⟩) len r) (g.take len):=by
   refine⟨some ⟨b,off,f⟩,r,by rw[u],by rw[u];exact R,fun t h=>?_⟩;rw[u]at h;obtain rfl:=k (by omega);have O:W.cell? ⟨b,off+t,none⟩=some (.int .i64 (g.getD t 0)):=by have:=c t (by omega);rwa [show (⟨b,off,none⟩:Addr).add t=⟨b,off+t,none⟩ by simp[Addr.add]]at this
   refine⟨b,off,rfl,oR _ _ O,?_⟩;rw[O];simp[List.getD,show t<g.length by omega]
  refine(Yt s z x n _ (g.take len) W A.1 A.2.1 A.2.2 hL K J).mono fun e W'⟨E,D⟩=>?_
  subst E;refine⟨_,rfl,_,_,_,[],[]++([]++([]++([]++MemPlace.row ⟨b,off,f⟩ g.length))),[],o,?_,?_,?_,D.frame _,fun h=>by cases h⟩
  ·exact trodAll_mk1 (shut_bool underlying4 true)
  ·refine YZ (shut_string underlying9 X) (shut_string underlying9 S) (shut_int underlying3 Z) (shut_string underlying9 Y) ⟨2,?_⟩
   refine shut_ints 0 underlying22 underlying3 cells3 (ff _) R hm ?_ (fun i U=>?_) F
   ·show g.length=if decide (b<W.heap.size)=true then r else len
    split
    ·exact N
    ·rename_i hn
     rcases Nat.eq_zero_or_pos g.length with y|y
     ·omega
     ·exact absurd (fi (oR _ _ (c 0 y))) (by simpa [Addr.add]using hn)
   ·obtain rfl:=k (by omega)
    exact((cM (w:=W) (D.block _ (oR W _ (c i U)))).trans (c i U))
  ·exact G
set_option maxRecDepth 100000 in
theorem afk(os:Os)(a:os.Started)(H:Type)(enc:TypeId×Value→H)(F:Stop.Interp):
  ReturnsInHanded {} Tryz.checked os 3 .any ((Rows.OpenSpec.upto Rows.packAnySpec).preRow enc prog Tryz.f3 Rows.packAnyUptoRow.domain false Rows.packAnyUptoRow.laid) (((Rows.OpenSpec.upto Rows.packAnySpec).at F).post enc prog Tryz.f3 false true false false):=by
 obtain⟨places,m⟩:=reads os enc;refine returnsInHanded_of_row (C:=Tryz.checked) (s:=Rows.OpenSpec.upto Rows.packAnySpec) Tryz.own a (by kernel_rfl) func3
  (witness_row_atRef (enc:=enc) (C:=Tryz.checked) false (World.laidAll prog os Rows.packAnyUptoRow.laid) #[.string ⟨#[]⟩,.string ⟨#[]⟩,.int .i64 0,.string ⟨#[]⟩,.slice none 0 0] rfl (by kernel_rfl) (by kernel_rfl) (by kernel_rfl)
   (OpenSpec.preRow_of_cond 8 m (by kernel_rfl) (fun k i=>by cases i;kernel_rfl) (by kernel_rfl) (alm os _))) ?_
 intro W base d n j b f g _ c _ l _ _;exact afS H enc W base d n j b f g l (c _ rfl)
theorem afl:Rows.PackAnyUptoSaid :=
 OpenClaim.holds_of_cond 3 Tryz.f3 rfl rfl rfl rfl rfl rfl rfl ⟨rfl,rfl,rfl,rfl,rfl⟩ rfl rfl rfl rfl rfl (by kernel_rfl) func3 (by kernel_rfl)
  (iS (by kernel_rfl)) (by unfold Func.isWrapper;rw[dt (by decide +kernel)];exact⟨rfl,rfl⟩)
  (fun c a H b _ F=>by rw[OpenClaim.pre_eq_preRow];exact afk c a H b F)
theorem packAnyUpto_card_holds:Rows.PackAnyUptoCardSaid :=
 Claim7.holds_tied_plain_at .later [] [.data, .data, .data, .data, .called] true (true, "9f472003c7611f34d0dd9f61810188b940c895f60c74e1dc60470709e5ed5a84") true
  afl (fun _ h=>by cases h) (by kernel_rfl) (fun _ h=>by cases h) packAnyUpto_row_tie rfl ⟨rfl,rfl⟩ (by kernel_rfl) rfl
  (fun f b c a=>by
   obtain rfl : f = 3 := Option.some.inj ((show prog.funcNamed "comb/comblaw06.PackAny" = some 3 by kernel_rfl).symm.trans c) |>.symm
   obtain rfl:b=Tryz.f3:=(ie (func3.symm.trans a)).symm;refine⟨by kernel_rfl,fun j t ht=>?_⟩;rw[params3]at ht;have h3:t=9∨t=3∨t=22:=by
    have:=An ht;simp only[List.mem_toArray,List.mem_cons,List.not_mem_nil,or_false]at this;rcases this with h|h|h|h|h
    ·exact .inl h
    ·exact .inl h
    ·exact .inr (.inl h)
    ·exact .inl h
    ·exact .inr (.inr h)
   rcases h3 with rfl|rfl|rfl
   ·exact(show prog.wantsStandIn 9=false by kernel_rfl)
   ·exact(show prog.wantsStandIn 3=false by kernel_rfl)
   ·exact(show prog.wantsStandIn 22=false by kernel_rfl))
  (by kernel_rfl)

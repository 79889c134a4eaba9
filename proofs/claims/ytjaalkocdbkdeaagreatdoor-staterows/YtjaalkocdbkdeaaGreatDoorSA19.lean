import Derived.Test.YtjaalkocdbkdeaaGreatDoorSA18
import Derived.Laws.AppendOwnNone
import Derived.Laws.BytesString
import Derived.Laws.BitsLemmas
set_option maxHeartbeats 8000000
set_option maxRecDepth 1000000
namespace Go.Proofs.YtjaalkocdbkdeaaGreatDoor
open Lx Go.Proofs.Tryz
open Go.RowKit Tr
theorem ay.up{Y:Lay}{F:Nat->Prop}{w:World}:∀{d:Nat}{v:Value}{l:List Lx.Alt},ay Y d F w v l->ay Y (d+1) F w v l
 |0,_,_,h=>by obtain⟨rfl,rfl⟩:=h;exact ay.nil _ _ _ _
 |d+1,_,_,h=>Seq.move (K:=fun vi(a:Lx.Alt)=>ow Y (ay Y d F w) F w vi a.1) h (fun _ _=>rfl) (fun _ h=>h) fun _ _ hi=>Seq.move (K:=fun va(it:Lx.It)=>ay Y d F w va it.alts) hi (fun _ _=>rfl) (fun _ h=>h) fun _ _ ha=>ay.up ha
theorem ay.ups{Y:Lay}{F:Nat->Prop}{w:World}{d:Nat}{v:Value}{l:List Lx.Alt}(h:ay Y d F w v l):∀k,ay Y (d+k) F w v l
 |0=>h
 |k+1=>ay.up (ay.ups h k)
theorem ay.nine{Y:Lay}{F:Nat->Prop}{w:World}{d:Nat}{v:Value}{l:List Lx.Alt}(h:ay Y d F w v l)(hd:d<=9):ay Y 9 F w v l:=by
 have:=ay.ups h (9-d)
 rwa [show d+(9-d)=9 by omega]at this
def HR(B:Nat)(F:Nat->Prop)(w:World)(v:Value)(l:List Lx.It):Prop:=∃ps:List (Value×Lx.It),ps.map Prod.snd=l/\w.ownsRow B 158 5 v l.length (ps.flatMap YR.cI)/\∀q,q∈ps->ay YR 9 F w q.1 q.2.alts
theorem YQ{F:Nat->Prop}{w:World}{q:Value×Lx.It}(h:ay YR 9 F w q.1 q.2.alts):∀u∈YR.cI q,u.oneCell'=true:=by
 obtain⟨a,k,c,e⟩:=ay.form h;intro u hu;simp only[YR,List.mem_cons,List.not_mem_nil,or_false]at hu;rcases hu with rfl|rfl|rfl|rfl|rfl
 ·rfl
 ·rfl
 ·rfl
 ·rw[e];rfl
 ·rfl
theorem X6{F:Nat->Prop}{w:World}{ps:List (Value×Lx.It)}(h:∀q,q∈ps->ay YR 9 F w q.1 q.2.alts):∀u∈ps.flatMap YR.cI,u.oneCell'=true:=by
 intro u hu;obtain⟨q,hq,hu⟩:=List.mem_flatMap.1 hu;exact YQ (h q hq) u hu
theorem Py:∀ps:List (Value×Lx.It),(ps.flatMap YR.cI).length=ps.length*5
 | []=>rfl
 |p::ps=>by rw[List.flatMap_cons,List.length_append,Py ps,List.length_cons,Nat.succ_mul];show 5+_=_;omega
theorem HR.move{B:Nat}{F:Nat->Prop}{w w':World}{v:Value}{l:List Lx.It}(h:HR B F w v l)(hF:∀b,F b->w'.heap[b]?=w.heap[b]?)(hv:∀g,v.ownBlock=some g->w'.heap[g]?=w.heap[g]?):HR B F w' v l:=by
 obtain⟨ps,h1,h2,h3⟩:=h;exact⟨ps,h1,aC h2 hv,fun q hq=>ay.move hF (fun _ h=>h) (h3 q hq)⟩
def JX(d:Nat):Prop:=∀(F:Nat->Prop)(w:World)(v:Value)(l:List Lx.Alt),ay YR d F w v l->d<=9->(∀b,F b->b<w.heap.size)->(aR d l).length<=10000 ->
 Calls prog 57 #[v] w fun e w'=>∃u,e=.returned u/\HR w.heap.size F w' u (aR d l)/\Below w.heap.size w w'
theorem aeD:JX 0:=by
 intro F w v l hl hd hL hn;obtain⟨rfl,rfl⟩:=hl;go_enter func57,ntmps57;go_wp2_with fail
 go_loopg [3,4] 0 (fun k vo i wr=>k=0/\vo=.slice none 0 0/\i=.int .i64 0/\wr=w)
 case atStart=>exact⟨rfl,rfl,rfl,rfl⟩
 case round=>
  obtain⟨rfl,rfl,rfl,rfl⟩:=hrel;go_wp2_with fail;go_ret;exact⟨_,rfl,⟨[],rfl,World.ownsRow_nil _ _ _ _,fun q h=>by cases h⟩,Below.refl _ _⟩
theorem aeE{d:Nat}(IH:JX d):JX (d+1):=by
 intro F w v l hl hd hL hn;obtain⟨i0,hii,hz0,hz1,hz2⟩:=info_parts Tryz.X0;obtain⟨va,vc,hv,hm⟩:=ay.len hl;subst hv;unfold maxLen at hm;rw[af8]at hn|-;go_enter func57,ntmps57;go_wp2_with fail;have H0:Hid ((l.flatMap fun a=>jH d a.1)=[]++((l.drop 0).flatMap fun a=>jH d a.1)):=rfl
 go_loopg [3,4] l.length (fun k vo i wr=>∃(j:Nat)(ho:List Lx.It),j+k=l.length/\i=.int .i64 j/\HR w.heap.size F wr vo ho/\Below w.heap.size w wr/\Hid ((l.flatMap fun a=>jH d a.1)=ho++((l.drop j).flatMap fun a=>jH d a.1)))
 case atStart=>exact⟨0,[],by omega,rfl,⟨[],rfl,World.ownsRow_nil _ _ _ _,fun q h=>by cases h⟩,Below.refl _ _,H0⟩
 case round=>
  clear H0;revert wr;intro wz hrel;obtain⟨j,ho,hk,rfl,hz,hbz,HZ⟩:=hrel;obtain⟨oa,oc,tC,uO⟩:=aF hz.choose_spec.2.1;subst tC
  by_cases hlt:j<l.length
  ·have h1:ay YR (d+1) F wz _ l:=ay.move (fun b hb'=>hbz.block b (hL b hb')) (fun _ h=>h) hl
   obtain⟨gb,cap,vi,hv,hg,hi,hc⟩:=Seq.at h1 (fun _=>rfl) hlt;cases hv;have hz2:=HZ.out;rw[List.drop_eq_getElem_cons hlt,List.flatMap_cons]at hz2;generalize l[j]=x at hi hc hz2;obtain⟨its,prec,pa⟩:=x;obtain⟨ia,ic,iK,him⟩:=Seq.len hi;subst iK;unfold maxLen at him;have c0:wz.cell? ⟨gb,j*3,none⟩=some (.slice ia its.length ic):=hc 0 (by decide);have HZ2:Hid (_=ho++((its.drop 0).flatMap (uw d)++(l.drop (j+1)).flatMap fun a=>jH d a.1)):=hz2;clear h1 hc hz2 HZ;go_wp2_with fail
   go_loopg [3,5] its.length (fun k vo i wr=>∃(m:Nat)(ho:List Lx.It),m+k=its.length/\i=.int .i64 m/\HR w.heap.size F wr vo ho/\Below w.heap.size w wr/\Hid ((l.flatMap fun a=>jH d a.1)=ho++((its.drop m).flatMap (uw d)++(l.drop (j+1)).flatMap fun a=>jH d a.1)))
   case atStart=>exact⟨0,ho,by omega,rfl,hz,hbz,HZ2⟩
   case round=>
    clear HZ2 hz uO oa oc;obtain⟨m,ho,hkm,rfl,hr,hbr,HR1⟩:=hrel;have br:∀b,F b->wr.heap[b]?=wz.heap[b]?:=fun b hb=>(hbr.block b (hL b hb)).trans (hbz.block b (hL b hb)).symm
    have pV:=hbr.size;have eg:wr.heap[gb]?=wz.heap[gb]?:=br gb hg;have d0:wr.cell? ⟨gb,j*3,none⟩=some (.slice ia its.length ic):=(World.cell?_of_block (w:=wz) eg).trans c0;obtain⟨ps,hp1,hp2,hp3⟩:=hr;obtain⟨oa,oc,tC,uO⟩:=aF hp2;subst tC;unfold maxLen at uO
    by_cases bJ:m<its.length
    ·have hir:bM YR d F wr _ its:=bM.move br (fun _ h=>h) hi
     unfold bM ow at hir;obtain⟨n,sG,va,hv,hn2,ha,hcc⟩:=Seq.at hir (fun _=>rfl) bJ;cases hv;have hr2:=HR1.out;rw[List.drop_eq_getElem_cons bJ,List.flatMap_cons,List.append_assoc]at hr2;generalize its[m]=it at ha hcc hr2;obtain⟨sa,sc,hva,-⟩:=ay.len ha;subst hva;have e0:wr.cell? ⟨n,m*5,none⟩=some (.int .i64 (it.kind:Int)):=hcc 0 (by decide);have e1:wr.cell? ⟨n,m*5+1,none⟩=some (.string it.name):=hcc 1 (by decide);have e2:wr.cell? ⟨n,m*5+2,none⟩=some (.int .u8 (it.mark:Int)):=hcc 2 (by decide);have e3:wr.cell? ⟨n,m*5+3,none⟩=some (.slice sa it.alts.length sc):=hcc 3 (by decide);have e4:wr.cell? ⟨n,m*5+4,none⟩=some (.int .i64 (it.place:Int)):=hcc 4 (by decide);have ln:n<wr.heap.size:=by have:=hL n hn2;omega
     have ny:gb<wr.heap.size:=by have:=hL gb hg;omega
     have hnn:=hn;rw[hr2,List.length_append,List.length_append]at hnn;have e5:uw d it=(if Lx.hlp it=true then [it] else [])++aR d it.alts:=rfl;rw[e5]at hr2 hnn;rw[List.length_append]at hnn;clear hcc hir c0 HR1 e5;obtain⟨W1,hW1⟩:∃W1,W1=wr.alloc (.cells #[.int .i64 (it.kind:Int),.string it.name,.int .u8 (it.mark:Int),.slice sa it.alts.length sc,.int .i64 (it.place:Int)] 158):=⟨_,rfl⟩;have hb1:Below wr.heap.size wr W1:=by rw[hW1];exact(Below.refl _ _).alloc (zL0) _
     have hs1:W1.heap.size=wr.heap.size+1:=by rw[hW1];simp
     have kx:aj W1 wr.heap.size #[.int .i64 (it.kind:Int),.string it.name,.int .u8 (it.mark:Int),.slice sa it.alts.length sc,.int .i64 (it.place:Int)] 158:=by rw[hW1];exact aj.new wr _ 158
     have hone:=YQ (q:=(.slice sa it.alts.length sc,it)) (ay.nine ha (by omega));have aml:ps.length=ho.length:=by rw[<-hp1,List.length_map]
     by_cases hh:Lx.hlp it=true
     ·rw[if_pos hh]at hr2 hnn
      have HR2:Hid _:=hr2;clear hr2;have hcase:(it.kind=2)\/(it.kind≠2/\it.mark≠0):=by
       by_cases h2:it.kind=2
       ·exact .inl h2
       ·refine .inr ⟨h2,?_⟩
        simpa [Lx.hlp,h2]using hh
      clear hh;have o2:=(hp2.alloc (.cells #[.int .i64 (it.kind:Int),.string it.name,.int .u8 (it.mark:Int),.slice sa it.alts.length sc,.int .i64 (it.place:Int)] 158)).alloc (.cells #[.int .i64 (it.kind:Int),.string it.name,.int .u8 (it.mark:Int),.slice sa it.alts.length sc,.int .i64 (it.place:Int)] 158);have kx':=aj.new wr #[.int .i64 (it.kind:Int),.string it.name,.int .u8 (it.mark:Int),.slice sa it.alts.length sc,.int .i64 (it.place:Int)] 158;have kn:aj ((wr.alloc (.cells #[.int .i64 (it.kind:Int),.string it.name,.int .u8 (it.mark:Int),.slice sa it.alts.length sc,.int .i64 (it.place:Int)] 158)).alloc (.cells #[.int .i64 (it.kind:Int),.string it.name,.int .u8 (it.mark:Int),.slice sa it.alts.length sc,.int .i64 (it.place:Int)] 158)) (wr.heap.size+1) #[.int .i64 (it.kind:Int),.string it.name,.int .u8 (it.mark:Int),.slice sa it.alts.length sc,.int .i64 (it.place:Int)] 158:=by simpa using aj.new (wr.alloc (.cells #[.int .i64 (it.kind:Int),.string it.name,.int .u8 (it.mark:Int),.slice sa it.alts.length sc,.int .i64 (it.place:Int)] 158)) #[.int .i64 (it.kind:Int),.string it.name,.int .u8 (it.mark:Int),.slice sa it.alts.length sc,.int .i64 (it.place:Int)] 158
      rcases hcase with hk2|⟨hk2,hm2⟩
      have hkb:((it.kind:Int) == 2)=true:=by simp[hk2]
      have HK:Hid (it.kind=2):=hk2;clear hk2
      rotate_left
      have hkb:((it.kind:Int) == 2)=false:=zB0 (by omega);have hmb:((it.mark:Int) == 0)=false:=zB0 (by omega);have HK:Hid (it.kind≠2):=hk2;have HM:Hid (it.mark≠0):=hm2;clear hk2 hm2
      all_goals
       go_wp2_with (at_builtin;go_loud (refine wpList_append_own_at _ rfl _ _ 143 rfl w.heap.size 158 i0 _ 5 64 underlying143 hii hz0 hz1 hz2 rfl (by decide) (.slice oa ho.length oc) _ _ rfl o2 ⟨_,0,none⟩ 1 1 (YR.cI (.slice sa it.alts.length sc,it)) rfl rfl (bC kn) hone (by unfold maxLen;omega) (by omega) (by simp;omega) ?_;intro v3 w3 hown3 hgrow3 _ iI;obtain⟨AP,AQ,hv3,-⟩:=aF hown3;subst hv3;have kx3:aj w3 wr.heap.size _ 158:=(kx'.alloc _).grown hgrow3 (fun e=>by have:=(hp2.lt _ e.symm).2;omega);have x3:w3.cell? ⟨wr.heap.size,3,none⟩=some (.slice sa it.alts.length sc):=kx3.cell 3))
       have hb3:Below w.heap.size w w3:=((hbr.alloc pV _).alloc (by simp;omega) _).grown hgrow3 (by simp;omega) (fun k hk=>(hp2.lt k hk).1);obtain⟨ho3,Ll⟩:∃ho3,ho3=ho++[it]:=⟨_,rfl⟩;have hl3:ho3.length=ho.length+1:=by rw[Ll];simp
       obtain⟨o8,hps⟩:∃o8,o8=ps++[(.slice sa it.alts.length sc,it)]:=⟨_,rfl⟩;have GR:o8.map Prod.snd=ho3:=by rw[hps,Ll,List.map_append,hp1];rfl
       have GU:w3.ownsRow w.heap.size 158 5 (.slice AP ho3.length AQ) ho3.length (o8.flatMap YR.cI):=by rw[hps,List.flatMap_append,hl3];simpa using hown3
       have PZ:∀q,q∈o8->ay YR 9 F w3 q.1 q.2.alts:=by
        intro q hq;have h9:ay YR 9 F wr q.1 q.2.alts:=by
         rw[hps]at hq;rcases List.mem_append.1 hq with hq|hq
         ·exact hp3 q hq
         ·rw[List.mem_singleton.1 hq];exact ay.nine ha (by omega)
        exact ay.move (fun b hb=>(hb3.block b (hL b hb)).trans (hbr.block b (hL b hb)).symm) (fun _ h=>h) h9
       have HR3:Hid ((l.flatMap fun a=>jH d a.1)=ho3++(aR d it.alts++((its.drop (m+1)).flatMap (uw d)++(l.drop (j+1)).flatMap fun a=>jH d a.1))):=by
        have:=HR2.out;show _=_;rw[this,Ll];simp[List.append_assoc]
       rw[<-hl3];simp only[List.length_cons,List.length_nil]at hnn;have ajK:ho3.length+(aR d it.alts).length<=10000:=by omega
       clear HR2 o2 Ll hps hown3 iI hl3 hnn;have hs3:=hb3.size;have Rn:∀b,F b->w3.heap[b]?=wr.heap[b]?:=fun b hb=>(hb3.block b (hL b hb)).trans (hbr.block b (hL b hb)).symm
       have hL3:∀b,F b->b<w3.heap.size:=fun b hb=>by have:=hL b hb;omega
       refine(IH F w3 _ _ (ay.move Rn (fun _ h=>h) ha) (by omega) hL3 (by omega)).mono ?_;rintro e w4⟨u,rfl,⟨qs,hq1,hq2,hq3⟩,hb4⟩;have GV:Below w.heap.size w w4:=hb3.trans (hb4.mono hs3);have hs4:=hb4.size;have qH:=aC (w':=w4) GU (fun g hg=>hb4.block g (GU.lt g hg).2);have GX:∀q,q∈o8->ay YR 9 F w4 q.1 q.2.alts:=fun q hq=>ay.move (fun b hb=>hb4.block b (hL3 b hb)) (fun _ h=>h) (PZ q hq)
       rcases hq2.2 with ⟨hu,hzero⟩|⟨g4,cap4,GY,hu,hg4,Ez,hc4,xu,-,-⟩
       ·subst hu
        have hnil:aR d it.alts=[]:=List.eq_nil_of_length_eq_zero hzero;have HR4:Hid ((l.flatMap fun a=>jH d a.1)=ho3++((its.drop (m+1)).flatMap (uw d)++(l.drop (j+1)).flatMap fun a=>jH d a.1)):=by have:=HR3.out;rw[hnil,List.nil_append]at this;exact this
        clear HR3 hnil hq2 hq1 hq3 hzero
        go_wp2_with (at_builtin;refine wpList_append_own_none rfl _ _ 143 rfl w.heap.size 158 i0 5 underlying143 hii (.slice AP ho3.length AQ) _ _ rfl qH rfl ?_)
        go_roundg (its.length - (m+1))
        case measure=>omega
        case rel=>exact⟨m+1,ho3,by omega,by go_num,⟨o8,GR,qH,GX⟩,GV,HR4⟩
       ·subst hu
        have hlq:qs.length=(aR d it.alts).length:=by rw[<-hq1,List.length_map]
        unfold maxLen at xu;have HR4:Hid ((l.flatMap fun a=>jH d a.1)=(ho3++aR d it.alts)++((its.drop (m+1)).flatMap (uw d)++(l.drop (j+1)).flatMap fun a=>jH d a.1)):=by have:=HR3.out;rw[<-List.append_assoc]at this;exact this
        clear HR3
        go_wp2_with (at_builtin;refine wpList_append_own_at _ rfl _ _ 143 rfl w.heap.size 158 i0 _ 5 64 underlying143 hii hz0 hz1 hz2 rfl (by decide) (.slice AP ho3.length AQ) _ _ rfl qH ⟨g4,0,none⟩ (aR d it.alts).length cap4 (qs.flatMap YR.cI) rfl (by rw[Py,hlq]) (hq2.cells rfl) (X6 hq3) (by unfold maxLen;omega) (by omega) (by omega) ?_;intro v5 w5 hown5 aU _ j6;obtain⟨dU,dV,hv5,-⟩:=aF hown5;subst hv5)
        have hb5:Below w.heap.size w w5:=GV.grown aU (by omega) (fun k hk=>(qH.lt k hk).1);have P7:∀q,q∈o8++qs->ay YR 9 F w5 q.1 q.2.alts:=fun q hq=>ay.move (fun b hb=>aU.block b (by have:=hL b hb;omega) (fun e=>by have:=(qH.lt b e.symm).1;have:=hL b hb;omega)) (fun _ h=>h) ((List.mem_append.1 hq).elim (GX q) (hq3 q))
        go_roundg (its.length - (m+1))
        case measure=>omega
        case rel=>exact⟨m+1,ho3++aR d it.alts,by omega,by go_num,⟨o8++qs,by rw[List.map_append,GR,hq1],by rw[List.length_append,List.flatMap_append];exact hown5,P7⟩,hb5,HR4⟩
     ·rw[if_neg hh]at hr2 hnn
      have hk2:it.kind≠2/\it.mark=0:=by simpa [Lx.hlp]using hh
      have hkb:((it.kind:Int) == 2)=false:=zB0 (by omega);have hmb:((it.mark:Int) == 0)=true:=by simp[hk2.2]
      have HK:Hid (it.kind≠2/\it.mark=0):=hk2;have HR2:Hid _:=hr2;clear hr2 hk2 hh;go_wp2_with fail;rw[<-hW1];have x3:W1.cell? ⟨wr.heap.size,3,none⟩=some (.slice sa it.alts.length sc):=kx.cell 3;obtain⟨w3,hw3⟩:∃w3,w3=W1:=⟨_,rfl⟩;rw[<-hw3];have hb3:Below w.heap.size w w3:=by rw[hw3];exact hbr.trans (hb1.mono pV)
      have GU:w3.ownsRow w.heap.size 158 5 (.slice oa ho.length oc) ho.length (ps.flatMap YR.cI):=aC hp2 fun g hg=>by rw[hw3];exact hb1.block g (hp2.lt g hg).2
      have PZ:∀q,q∈ps->ay YR 9 F w3 q.1 q.2.alts:=fun q hq=>ay.move (fun b hb=>(hb3.block b (hL b hb)).trans (hbr.block b (hL b hb)).symm) (fun _ h=>h) (hp3 q hq)
      obtain⟨AP,AQ,ho3,o8,GR,rfl,rfl,rfl,rfl⟩:∃AP AQ ho3,∃o8:List (Value×Lx.It),o8.map Prod.snd=ho3/\AP=oa/\AQ=oc/\ho3=ho/\o8=ps:=⟨oa,oc,ho,ps,hp1,rfl,rfl,rfl,rfl⟩;have HR3:Hid ((l.flatMap fun a=>jH d a.1)=ho3++(aR d it.alts++((its.drop (m+1)).flatMap (uw d)++(l.drop (j+1)).flatMap fun a=>jH d a.1))):=HR2.out;simp only[List.length_nil]at hnn;have ajK:ho3.length+(aR d it.alts).length<=10000:=by omega
      clear hnn;clear HR2;have hs3:=hb3.size;have Rn:∀b,F b->w3.heap[b]?=wr.heap[b]?:=fun b hb=>(hb3.block b (hL b hb)).trans (hbr.block b (hL b hb)).symm
      have hL3:∀b,F b->b<w3.heap.size:=fun b hb=>by have:=hL b hb;omega
      refine(IH F w3 _ _ (ay.move Rn (fun _ h=>h) ha) (by omega) hL3 (by omega)).mono ?_;rintro e w4⟨u,rfl,⟨qs,hq1,hq2,hq3⟩,hb4⟩;have GV:Below w.heap.size w w4:=hb3.trans (hb4.mono hs3);have hs4:=hb4.size;have qH:=aC (w':=w4) GU (fun g hg=>hb4.block g (GU.lt g hg).2);have GX:∀q,q∈o8->ay YR 9 F w4 q.1 q.2.alts:=fun q hq=>ay.move (fun b hb=>hb4.block b (hL3 b hb)) (fun _ h=>h) (PZ q hq)
      rcases hq2.2 with ⟨hu,hzero⟩|⟨g4,cap4,GY,hu,hg4,Ez,hc4,xu,-,-⟩
      ·subst hu
       have hnil:aR d it.alts=[]:=List.eq_nil_of_length_eq_zero hzero;have HR4:Hid ((l.flatMap fun a=>jH d a.1)=ho3++((its.drop (m+1)).flatMap (uw d)++(l.drop (j+1)).flatMap fun a=>jH d a.1)):=by have:=HR3.out;rw[hnil,List.nil_append]at this;exact this
       clear HR3 hnil hq2 hq1 hq3 hzero
       go_wp2_with (at_builtin;refine wpList_append_own_none rfl _ _ 143 rfl w.heap.size 158 i0 5 underlying143 hii (.slice AP ho3.length AQ) _ _ rfl qH rfl ?_)
       go_roundg (its.length - (m+1))
       case measure=>omega
       case rel=>exact⟨m+1,ho3,by omega,by go_num,⟨o8,GR,qH,GX⟩,GV,HR4⟩
      ·subst hu
       have hlq:qs.length=(aR d it.alts).length:=by rw[<-hq1,List.length_map]
       unfold maxLen at xu;have HR4:Hid ((l.flatMap fun a=>jH d a.1)=(ho3++aR d it.alts)++((its.drop (m+1)).flatMap (uw d)++(l.drop (j+1)).flatMap fun a=>jH d a.1)):=by have:=HR3.out;rw[<-List.append_assoc]at this;exact this
       clear HR3
       go_wp2_with (at_builtin;refine wpList_append_own_at _ rfl _ _ 143 rfl w.heap.size 158 i0 _ 5 64 underlying143 hii hz0 hz1 hz2 rfl (by decide) (.slice AP ho3.length AQ) _ _ rfl qH ⟨g4,0,none⟩ (aR d it.alts).length cap4 (qs.flatMap YR.cI) rfl (by rw[Py,hlq]) (hq2.cells rfl) (X6 hq3) (by unfold maxLen;omega) (by omega) (by omega) ?_;intro v5 w5 hown5 aU _ j6;obtain⟨dU,dV,hv5,-⟩:=aF hown5;subst hv5)
       have hb5:Below w.heap.size w w5:=GV.grown aU (by omega) (fun k hk=>(qH.lt k hk).1);have P7:∀q,q∈o8++qs->ay YR 9 F w5 q.1 q.2.alts:=fun q hq=>ay.move (fun b hb=>aU.block b (by have:=hL b hb;omega) (fun e=>by have:=(qH.lt b e.symm).1;have:=hL b hb;omega)) (fun _ h=>h) ((List.mem_append.1 hq).elim (GX q) (hq3 q))
       go_roundg (its.length - (m+1))
       case measure=>omega
       case rel=>exact⟨m+1,ho3++aR d it.alts,by omega,by go_num,⟨o8++qs,by rw[List.map_append,GR,hq1],by rw[List.length_append,List.flatMap_append];exact hown5,P7⟩,hb5,HR4⟩
    ·have:m=its.length:=by omega
     subst this;have hr2:=HR1.out;rw[List.drop_length,List.flatMap_nil,List.nil_append]at hr2;have HR2:Hid _:=hr2;clear c0 hr2 HR1;go_wp2_with fail;go_roundg (l.length - (j+1))
     case measure=>omega
     case rel=>exact⟨j+1,ho,by omega,by go_num,⟨ps,hp1,hp2,hp3⟩,hbr,HR2⟩
  ·have:j=l.length:=by omega
   subst this;have hz2:=HZ.out;rw[List.drop_length,List.flatMap_nil,List.append_nil]at hz2;have HZ2:Hid _:=hz2;clear hz2 HZ;go_wp2_with fail;go_ret;refine⟨_,rfl,?_,hbz⟩;rw[HZ2.out];exact hz
theorem Ow:∀d,JX d
 |0=>aeD
 |d+1=>aeE (Ow d)
theorem Ox(n:Nat):(pY n).size<=n+1:=by
 show ((Lib.decDigits n).toArray).size<=n+1;rw[List.size_toArray]
 induction n using Nat.strongRecOn with
 |_ n IH=>
  rw[Lib.decDigits]
  split
  ·simp
  ·have:=IH (n / 10) (by omega)
   rw[List.length_append,List.length_singleton];omega
theorem ahi(w:World)(k:Int):(convert 160 9 (.slice (some ⟨w.heap.size,0,none⟩) 1 1)).run prog (w.alloc (.cells #[.int .u8 k] 5))=.ok (.string ⟨#[UInt8.ofNat k.toNat]⟩) (w.alloc (.cells #[.int .u8 k] 5)):=by
 rw[run_convert_bytes_string _ 160 9 5 _ 1 1 (by kernel_rfl) (by kernel_rfl) (by kernel_rfl),run_bytesToString _ ⟨w.heap.size,0,none⟩ 1 1 [k]]
 ·rfl
 ·have h0:(w.alloc (.cells #[.int .u8 k] 5)).cell? ⟨w.heap.size,0,none⟩=some (.int .u8 k):=(aj.new w _ 5).cell 0
  simp[loadCells,loadCellsFrom,go_sem,h0]
theorem aeF(n:Nat):∀(w:World),n<=100000->Calls prog 58 #[.int .i64 (n:Int)] w fun e w'=>e=.returned (.string (pY n))/\Below w.heap.size w w':=by
 induction n using Nat.strongRecOn with
 |_ n IH=>
  intro w hn;have hc:=ahi;go_enter func58,ntmps58
  by_cases h10:n<10
  ·go_wp2_with fail
   go_ret;refine⟨?_,?_⟩
   ·have:pY n=⟨#[UInt8.ofNat (48+n)]⟩:=by unfold pY;rw[Lib.decDigits,dif_pos h10]
    rw[this];rfl
   ·exact(Below.refl _ _).alloc (zL0) _
  ·go_wp2_with fail
   have e1:(n:Int) / 10=((n / 10:Nat):Int):=by omega
   rw[e1];clear e1;refine(IH (n / 10) (by omega) w (by omega)).mono ?_;rintro e w1⟨rfl,hb1⟩;have hsz:=Ox (n / 10);have hsz2:(pY (n / 10)).size<=10001:=by omega
   clear hsz;go_wp2_with fail;go_ret;refine⟨?_,(hb1.alloc hb1.size _)⟩;have:pY n=pY (n / 10)++⟨#[UInt8.ofNat (48+n % 10)]⟩:=by
    unfold pY;rw[Lib.decDigits,dif_neg h10];apply ByteArray.ext;simp
   have e3:UInt8.ofNat (48+n % 10)=48+UInt8.ofNat (n % 10):=by simp
   rw[this,e3];rfl
theorem wrap_small{n:Int}(h0:0<=n)(h1:n<=9223372036854775807):IntKind.i64.wrap n=n:=by rw[IntKind.wrap_i64];omega
def gK(r:List Nat):List Value:=r.map fun(s:Nat)=>.int .i64 (s:Int)
theorem yj(r:List Nat):(gK r).length=r.length:=by simp[gK]
theorem zM(a b:List Nat):gK (a++b)=gK a++gK b:=by simp[gK]
theorem Oy(r:List Nat):∀u∈gK r,u.oneCell'=true:=by
 intro u hu;obtain⟨s,-,rfl⟩:=List.mem_map.1 hu;rfl
theorem agn{r:List Nat}{j:Nat}(h:j<r.length):(gK r)[j]?=some (.int .i64 (r[j]:Int)):=by simp[gK,h]
def IR(B:Nat)(w:World)(v:Value)(r:List Nat):Prop:=w.ownsRow B 3 1 v r.length (gK r)
def Lx.oG(b n:Nat):List Nat:=(List.range n).map fun k=>b+1+k
structure CW(F:Nat->Prop)(w:World)(mb:Nat)(T N:List ByteArray)(b:Nat)(H:List Lx.It):Prop where
 ex:∃vT vN vP vB vK vH vL,aj w mb #[vT,vN,vP,vB,vK,vH,vL] 145/\w.ownsRow 0 9 1 vT T.length (T.map Value.string)/\w.ownsRow 0 9 1 vN N.length (N.map Value.string)/\HR 0 F w vH H/\IR 0 w vL (oG b H.length)
 lt:∀g,F g->g<w.heap.size
 tn:T.length+N.length<=100000
 bn:b+H.length<=200000
 Im:(H.map Lx.It.place).Pairwise (·< ·)
theorem CW.below{F:Nat->Prop}{w w':World}{mb:Nat}{T N:List ByteArray}{b:Nat}{H:List Lx.It}(h:CW F w mb T N b H)(hb:Below w.heap.size w w'):CW F w' mb T N b H:=by
 obtain⟨⟨vT,vN,vP,vB,vK,vH,vL,h1,h2,h3,h4,h5⟩,hl,h6,h7,h8⟩:=h;have hH:∀g,vH.ownBlock=some g->g<w.heap.size:=fun g hg=>by
  obtain⟨ps,-,k2,-⟩:=h4;exact(k2.lt g hg).2
 exact⟨⟨vT,vN,vP,vB,vK,vH,vL,(hb.block _ h1.lt).trans h1,aC h2 fun g hg=>hb.block g (h2.lt g hg).2,aC h3 fun g hg=>hb.block g (h3.lt g hg).2,h4.move (fun b hF=>hb.block b (hl b hF)) (fun g hg=>hb.block g (hH g hg)),aC h5 fun g hg=>hb.block g (h5.lt g hg).2⟩,fun g hg=>Nat.lt_of_lt_of_le (hl g hg) hb.size,h6,h7,h8⟩
def CX(va:Value)(it:Lx.It):Value:=.agg #[.int .i64 (it.kind:Int),.string it.name,.int .u8 (it.mark:Int),va,.int .i64 (it.place:Int)]
def Lx.qz(T N:List ByteArray)(it:Lx.It):Prop:=if it.kind=1 then 0<=bA T it.name else 0<=bA N it.name
theorem UI{F:Nat->Prop}{w:World}{mb:Nat}{T N:List ByteArray}{b:Nat}{H:List Lx.It}(h:CW F w mb T N b H)(it:Lx.It)(sa:Option Addr)(sn sc:Nat)(hp:qz T N it):
  Calls prog 101 #[.pointer (some ⟨mb,0,none⟩),CX (.slice sa sn sc) it] w fun e w'=>e=.returned (.int .i64 (mK T N it:Int))/\Below w.heap.size w w':=by
 obtain⟨⟨vT,vN,vP,vB,vK,vH,vL,h1,h2,h3,h4,h5⟩,hl,h6,h7,h8⟩:=h;obtain⟨ta,tc,yV,-⟩:=aF h2;obtain⟨na,nc,Io,-⟩:=aF h3;subst yV Io;have jQ:=h1.lt;unfold CX;go_enter func101,ntmps101;obtain⟨W1,hW1⟩:∃W1,W1=w.alloc (.cells #[.int .i64 (it.kind:Int),.string it.name,.int .u8 (it.mark:Int),.slice sa sn sc,.int .i64 (it.place:Int)] 158):=⟨_,rfl⟩;have hb1:Below w.heap.size w W1:=by rw[hW1];exact(Below.refl _ _).alloc (zL0) _
 have hs1:W1.heap.size=w.heap.size+1:=by rw[hW1];simp
 have k1:aj W1 mb _ 145:=(hb1.block _ jQ).trans h1;have kx:aj W1 w.heap.size #[.int .i64 (it.kind:Int),.string it.name,.int .u8 (it.mark:Int),.slice sa sn sc,.int .i64 (it.place:Int)] 158:=by rw[hW1];exact aj.new w _ 158
 have o2:W1.ownsRow 0 9 1 (.slice ta T.length tc) T.length (T.map Value.string):=aC h2 fun g hg=>hb1.block g (h2.lt g hg).2
 have o3:W1.ownsRow 0 9 1 (.slice na N.length nc) N.length (N.map Value.string):=aC h3 fun g hg=>hb1.block g (h3.lt g hg).2
 unfold qz at hp
 by_cases hk:it.kind=1
 ·have e1:mK T N it=Lx.fix T it.name:=if_pos hk
  rw[if_pos hk]at hp;have hkb:((it.kind:Int) == 1)=true:=by simp[hk]
  rw[e1];clear hk e1;go_wp2_with fail;rw[<-hW1];refine(Ot k1 o2 it.name hp).mono ?_;rintro e w2⟨rfl,hb2⟩;go_wp2_with fail;go_ret;exact⟨rfl,hb1.trans (hb2.mono hb1.size)⟩
 ·have e1:mK T N it=T.length+Lx.fix N it.name:=if_neg hk
  rw[if_neg hk]at hp;have hkb:((it.kind:Int) == 1)=false:=zB0 (by omega);obtain⟨hf1,hf2⟩:=zT hp;rw[e1];clear hk e1 hp;have c0:W1.cell? ⟨mb,0,none⟩=some (.slice ta T.length tc):=k1.cell 0;have c1:W1.cell? ⟨mb,1,none⟩=some (.slice na N.length nc):=k1.cell 1;have x1:W1.cell? ⟨w.heap.size,1,none⟩=some (.string it.name):=kx.cell 1;have q1:=Ec N it.name _ W1.drew (aC (w':=W1.drew) o3 fun g hg=>rfl);rw[hf1]at q1;have lm1:mb<W1.heap.size:=by omega
  go_wp2_with fail;rw[<-hW1];clear hW1
  go_region_law (refine jK rfl 62 #[.slice na N.length nc,.string it.name] (by go_simp) q1 ?_;rintro e w2⟨rfl,hb2⟩;refine⟨_,rfl,?_⟩;have k2:aj w2 mb _ 145:=(hb2.block _ (show mb<W1.drew.heap.size from lm1)).trans (show aj W1.drew mb _ 145 from k1);have c20:w2.cell? ⟨mb,0,none⟩=some (.slice ta T.length tc):=k2.cell 0)
  all_goals
   have hb3:Below W1.heap.size W1 w2:=(Below.refl _ W1).drew.trans hb2;go_wp2_with fail;go_ret;refine⟨?_,hb1.trans (hb3.mono hb1.size)⟩;simp[Act.put,go_sem]
   all_goals exact wrap_small (by omega) (by omega)
section
open Go.RowKit
open Lx (Tk)
open Tr
section
variable {α:Type} {B:Nat} {aG nO:Value} {w w':World} {e s:Nat} {c:Value×α -> List Value} {K:(Nat -> Prop) -> World -> Value -> α -> Prop} {v:Value} {l:List α} {q:Nat}
theorem iV.one(hm:jF K){w1 w2:World}(x:Value×α)(hB:B<=w.heap.size)(h1:w.heap.size<=w1.heap.size)(ho1:∀g,nO.ownBlock=some g->g<w1.heap.size)(hx:K (Fp w.heap.size nO w1) w1 x.1 x.2)(hc:(c x).length=s)(g2:w1.grownBy w2 none):
  iV B nO (w2.alloc (.cells (c x).toArray e)) e s c K (.slice (some ⟨w2.heap.size,0,none⟩) 1 1) [x.2] [x] (Fp w.heap.size nO w1):=by
 have s2:=g2.size;refine⟨⟨rfl,⟨by simp[hc],.inr ⟨w2.heap.size,1,(c x).toArray,rfl,by omega,heap_alloc_new w2 _,zL0,by unfold maxLen;omega,by simp[hc],?_⟩⟩,?_,?_,?_⟩,?_,?_⟩
 ·simp only[List.length_cons,List.length_nil,List.flatMap_cons,List.flatMap_nil,List.append_nil]
  exact List.take_of_length_le (by omega)
 ·intro q' hq'
  simp at hq';subst hq';exact hm _ _ w1 _ _ _ (fun b hb=>by rw[Below.heap_alloc _ _ _ (by have:=hb.2.1;omega),g2.block b hb.2.1 (by simp)]) (fun _ h=>h) hx
 ·intro b hb
  have:=hb.1;have:=hb.2.1;simp;omega
 ·intro g hg hF
  have:w2.heap.size=g:=by simpa [Value.ownBlock]using hg
  have:=hF.2.1;omega
 ·exact fun b hb=>hb.2.2
 ·intro g hg e'
  have:w2.heap.size=g:=by simpa [Value.ownBlock]using hg
  have:=ho1 _ e';omega
theorem iV.ajq {ps:List (Value×α)} {F:Nat->Prop} {A:Nat} (hm:jF K) (h:iV B aG w e s c K v l ps F) (hq:q<B) (hB:B<=w.heap.size) (hA:A<w.heap.size) (CQ:¬F A) {w1 w2 w3:World} (g1:Mv q aG w w1) (n1:Nx aG w nO) (ho1:∀g,nO.ownBlock=some g->g<w1.heap.size) (x:Value×α)
  (hx:K (Fp w.heap.size nO w1) w1 x.1 x.2) (g2:w1.grownBy w2 (some A)) {g cap:Nat} (ho:w3.ownsRow B e s (.slice (some ⟨g,0,none⟩) (l.length+1) cap) (l.length+1) (ps.flatMap c++c x))
  (g3:w2.grownBy w3 v.ownBlock) (ha:v.ownBlock=some g\/g=w2.heap.size):iV B nO w3 e s c K (.slice (some ⟨g,0,none⟩) (l.length+1) cap) (l++[x.2]) (ps++[x]) (fun b=>F b\/Fp w.heap.size nO w1 b):=by
 obtain⟨⟨h1,h2,h3,h4,h5⟩,h6,h7⟩:=h;have s1:=g1.size;have s2:=g2.size;have s3:=g3.size;have e1:∀b,F b->w3.heap[b]?=w.heap[b]?:=fun b hF=>by
  have hb:=h4 b hF;rw[g3.block b (by omega) (fun e=>h5 b e.symm hF),g2.block b (by omega) (fun e=>CQ (by cases e;exact hF)),g1.block b hb.2 (by omega) (h6 b hF)]
 have e2:∀b,Fp w.heap.size nO w1 b->w3.heap[b]?=w1.heap[b]?:=fun b hI=>by
  rw[g3.block b (by have:=hI.2.1;omega) (fun e=>by have:=(h2.lt b e.symm).2;have:=hI.1;omega),g2.block b hI.2.1 (fun e=>by cases e;have:=hI.1;omega)]
 refine⟨⟨?_,?_,?_,?_,?_⟩,?_,?_⟩
 ·rw[List.map_append,h1];rfl
 ·rw[List.flatMap_append,List.length_append];simpa using ho
 ·intro q' hq'
  rcases List.mem_append.1 hq' with h'|h'
  ·exact hm F _ w w3 _ _ e1 (fun _ h=>.inl h) (h3 q' h')
  ·simp at h';subst h'
   exact hm _ _ w1 w3 _ _ e2 (fun _ h=>.inr h) hx
 ·intro b hb
  rcases hb with hb|hb
  ·have:=h4 b hb;omega
  ·have:=hb.1;have:=hb.2.1;omega
 ·intro g' hg'
  have:g=g':=by simpa [Value.ownBlock]using hg'
  subst this;rintro(hF | hI)
  ·rcases ha with ha | ha
   ·exact h5 _ ha hF
   ·have:=h4 _ hF;omega
  ·rcases ha with ha | ha
   ·have:=(h2.lt _ ha).2;have:=hI.1;omega
   ·have:=hI.2.1;omega
 ·intro b hb
  rcases hb with hb|hb
  ·exact n1.keep (h4 b hb).2 (h6 b hb)
  ·exact hb.2.2
 ·intro g' hg'
  have:g=g':=by simpa [Value.ownBlock]using hg'
  subst this;rcases ha with ha|ha
  ·exact n1.keep (h2.lt _ ha).2 (h7 _ ha)
  ·intro e';have:=ho1 _ e';omega
end
abbrev KIr(d:Nat):(Nat->Prop)->World->Value->Lx.Alt->Prop:=fun F w vi a=>bM YR d F w vi a.1
theorem ahj(t:Bool)(s:ByteArray)(q:Nat)(w:World)(nest:Int)(n a:Nat)(au:Value)(sg:List ByteArray)(h:RX s q w nest n a au sg):
  Calls prog 135 #[.pointer (some ⟨q,0,none⟩),.bool t] w fun e w'=>∃v,e=.returned v/\Zk v/\Mv q au w w'/\RX s q w' nest n a au sg:=by
 have hp:=h.lt;go_enter func135,ntmps135;go_wp2_with fail;refine(aip t s q _ nest n a au sg h).mono ?_;rintro e w1⟨rfl,m1,h1⟩;have M2:=(m1.alloc (.cells #[.slice none 0 0,.string ⟨#[]⟩,.int .i64 0] 155)).alloc (.cells #[.slice none 0 0,.string ⟨#[]⟩,.int .i64 0] 155);have h2:=(h1.alloc (.cells #[.slice none 0 0,.string ⟨#[]⟩,.int .i64 0] 155)).alloc (.cells #[.slice none 0 0,.string ⟨#[]⟩,.int .i64 0] 155);go_wp2_with fail
 go_loopg [6] 0 (fun k v wr=>(∃xa xk xc,v=.slice xa xk xc)/\Mv q au w wr/\RX s q wr nest n a au sg)
 case atStart=>exact⟨⟨_,_,_,rfl⟩,M2,h2⟩
 case round=>
  obtain⟨⟨xa,xk,xc,rfl⟩,M3,h3⟩:=hrel
  go_wp2_with (first
   | (go_at_call 155;refine(KU h3 _).mono ?_;rintro e w'⟨rfl,hw⟩;obtain rfl:=hw.symm))
  go_ret;exact⟨_,rfl,⟨_,_,_,rfl⟩,M3,h3⟩
theorem Wq{d:Nat}(HA:Xh d):J9 d:=by
 intro s q w ts nest au sg su h;obtain⟨i0,hi,hz0,hz1,hz2⟩:=info_parts Tryz.aio;have hp:=h.lt;have HO:Hid (nest=8 - (d:Int)):=su;have hcnt:=h.cnt;clear su;have HE:Hid _:=WU d ts;go_enter func135,ntmps135;go_wp2_with fail;refine(HA s q w ts nest au sg HO.out h).mono ?_;intro e w1 he;cases hr1:dG (bB d) (d == 8) ts with
 |error x=>
  obtain⟨n,a⟩:=x;obtain⟨v1,sg1,sl1,rfl,m1,x1,hx1,xa,xl,xc,xb,xp,rfl⟩:=he.err hr1;have Ip:Hid (iP d ts=.error (n,a)):=by show _=_;rw[HE.out];unfold ou;rw[hr1]
  have M2:=(m1.alloc (.cells #[.slice xa xl xc,.string xb,.int .i64 xp] 155)).alloc (.cells #[.slice xa xl xc,.string xb,.int .i64 xp] 155);have h2:=(hx1.alloc (.cells #[.slice xa xl xc,.string xb,.int .i64 xp] 155)).alloc (.cells #[.slice xa xl xc,.string xb,.int .i64 xp] 155);clear hr1 he HE;go_wp2_with fail
  go_loopg [6] 0 (fun k v wr=>(∃xa xk xc,v=.slice xa xk xc)/\Mv q au w wr/\RX s q wr nest n a sg1 sl1)
  case atStart=>exact⟨⟨_,_,_,rfl⟩,M2,h2⟩
  case round=>
   obtain⟨⟨xa,xk,xc,rfl⟩,M3,h3⟩:=hrel
   go_wp2_with (first
    | (go_at_call 155;refine(KU h3 _).mono ?_;rintro e w'⟨rfl,hw⟩;obtain rfl:=hw.symm))
   go_ret;exact bO.no Ip.out M3 x1 h3 ⟨_,_,_,rfl⟩
 |ok x=>
  obtain⟨a1,aB⟩:=x;obtain⟨v1,sg1,sl1,rfl,m1,x1,P8,vi,rfl,hv⟩:=he.ok hr1;have hl1:=BK (zF d) hr1;have H6:Hid (iP d ts=jh (bB d) (d == 8) aB.length aB [a1]):=by
   show _=_;rw[HE.out];unfold ou;rw[hr1]
  obtain⟨va,vk,vc,rfl⟩:=bM.form hv;have s1:=m1.size;have hrA:=(P8.alloc (.cells #[.slice va vk vc,.string a1.2.1,.int .i64 (a1.2.2:Int)] 155)).alloc (.cells #[.slice va vk vc,.string a1.2.1,.int .i64 (a1.2.2:Int)] 155);have rO:=(aj.new w1 #[.slice va vk vc,.string a1.2.1,.int .i64 (a1.2.2:Int)] 155).alloc (.cells #[.slice va vk vc,.string a1.2.1,.int .i64 (a1.2.2:Int)] 155);have MA:=(m1.alloc (.cells #[.slice va vk vc,.string a1.2.1,.int .i64 (a1.2.2:Int)] 155)).alloc (.cells #[.slice va vk vc,.string a1.2.1,.int .i64 (a1.2.2:Int)] 155);have fA0:sg1.ownBlock≠some w1.heap.size:=P8.fresh (zL0);have G1:=iV.one (e:=155) (s:=3) (c:=YR.cA) (FK YR d) (B:=w.heap.size) (.slice va vk vc,a1) (zL0) s1 P8.dQ hv rfl (bZ w1 (.cells #[.slice va vk vc,.string a1.2.1,.int .i64 (a1.2.2:Int)] 155) none);rw[show (w1.alloc (.cells #[.slice va vk vc,.string a1.2.1,.int .i64 (a1.2.2:Int)] 155)).heap.size=w1.heap.size+1 by simp]at G1;have nF:¬Fp w.heap.size sg1 w1 w1.heap.size:=fun e=>by have:=e.2.1;omega
  clear hr1 he HE;go_wp2_with fail
  go_loopg [6] (aB.length+1) (fun k v wr=>(∃(aA:List Tk)(acc:List Lx.Alt)(bH:Value)(fZ:List ByteArray)(f:Nat)(ps:List (Value×Lx.Alt))(F:Nat->Prop)(ca:Option Addr)(ck cc:Nat)(cb:ByteArray)(cp:Int),aA.length+1=k/\aA.length<=f/\acc.length+aA.length<=ts.length+1/\RR s q wr aA nest bH fZ/\aj wr w1.heap.size #[.slice ca ck cc,.string cb,.int .i64 cp] 155/\bH.ownBlock≠some w1.heap.size /\
    iV w.heap.size bH wr 155 3 YR.cA (KIr d) v acc ps F/\¬F w1.heap.size/\v.ownBlock≠some w1.heap.size/\Mv q au w wr/\Nx au w bH/\Hid (iP d ts=jh (bB d) (d == 8) f aA acc)) \/
   (∃(n a:Nat)(bH:Value)(fZ:List ByteArray)(xa:Option Addr)(xk xc:Nat),k=0/\v=.slice xa xk xc/\RX s q wr nest n a bH fZ/\Mv q au w wr/\Nx au w bH/\Hid (iP d ts=.error (n,a))))
  case atStart=>exact .inl ⟨aB,[a1],sg1,sl1,aB.length,_,_,_,_,_,_,_,rfl,zL0,by simp;omega,hrA,rO,fA0,G1,nF,by simp[Value.ownBlock],MA,x1,H6⟩
  case round=>
   clear hrA rO MA fA0 G1 nF hv;rcases hrel with ⟨aA,acc,bH,fZ,f,ps,F,ca,ck,cc,cb,cp,hk,hf,hacc,hr,kA,fA,hrg,CQ,CR,M,X,hpm⟩|⟨n,a,bH,fZ,xa,xk,xc,hk,rfl,hx,M,X,Ip⟩
   ·have hne:=hr.wf.ne
    obtain⟨f',rfl⟩:∃f',f=f'+1:=⟨f-1,by omega⟩;obtain⟨tF,yY,Mx,rfl⟩:=rW hrg.1.2.1
    by_cases hb:Lx.hd aA=sD
    ·have HB:Hid (Lx.hd aA=sD):=hb
     clear hb;have htl:=hr.wf.mD;go_wp2_with fail;refine(XZ hr sD (by decide) (by decide) HB.out).mono ?_;rintro e w2⟨rfl,sg2,m2,x2,hr2⟩;go_wp2_with fail;refine(HA s q w2 aA.tail nest sg2 _ HO.out hr2).mono ?_;intro e w3 he;cases hr3:dG (bB d) (d == 8) aA.tail with
     |error x=>
      obtain⟨n,a⟩:=x;obtain⟨v3,kI,qM,rfl,m3,x3,hx3,ya,yl,yc,yb,yp,rfl⟩:=he.err hr3;have Ip:Hid (iP d ts=.error (n,a)):=by
       show _=_;rw[hpm.out];simp only[jh];rw[if_pos HB.out,hr3]
      clear hr3 he hpm;have Iq:=x2.keep (b:=w1.heap.size) kA.lt fA;have kA2:=kA.mv m2 (by omega) fA;have AR:=x3.keep (b:=w1.heap.size) kA2.lt Iq;have kA3:=kA2.mv m3 (by omega) Iq;have m23:=m2.trans x2 m3;have x23:=x2.trans m2.size x3;have hrg3:=hrg.mv (FK YR d) m23 x23 (by omega);have M3:=M.trans X m23;have X3:=X.trans M.size x23;have Ir:=M3.size;have szr:=M.size;have c0:w3.cell? ⟨w1.heap.size,0,none⟩=some (.slice ca ck cc):=kA3.cell 0;have c1:w3.cell? ⟨w1.heap.size,1,none⟩=some (.string cb):=kA3.cell 1;have c2:w3.cell? ⟨w1.heap.size,2,none⟩=some (.int .i64 cp):=kA3.cell 2;have ff:∀i,w3.frozen? ⟨w1.heap.size,i,none⟩=false:=kA3.frozen;have lA3:w1.heap.size<w3.heap.size:=kA3.lt;have EW:(((w3.setCell ⟨w1.heap.size,0,none⟩ (.slice ya yl yc)).setCell ⟨w1.heap.size,1,none⟩ (.string yb)).setCell ⟨w1.heap.size,2,none⟩ (.int .i64 yp)).heap.size=w3.heap.size:=by simp[World.setCell]
      have kN:=aj.new (((w3.setCell ⟨w1.heap.size,0,none⟩ (.slice ya yl yc)).setCell ⟨w1.heap.size,1,none⟩ (.string yb)).setCell ⟨w1.heap.size,2,none⟩ (.int .i64 yp)) #[.slice ya yl yc,.string yb,.int .i64 yp] 155;rw[EW]at kN;have PL:=aC (w':=(((w3.setCell ⟨w1.heap.size,0,none⟩ (.slice ya yl yc)).setCell ⟨w1.heap.size,1,none⟩ (.string yb)).setCell ⟨w1.heap.size,2,none⟩ (.int .i64 yp))) hrg3.1.2.1 (fun g hg=>by
       have hgA:g≠w1.heap.size:=fun e=>CR (by rw[hg,e])
       rw[zS0 hgA,zS0 hgA,zS0 hgA])
      have Ro:=((kA3.set 0 (.slice ya yl yc)).set 1 (.string yb)).set 2 (.int .i64 yp);have hU:=((hx3.other 0 (.slice ya yl yc) (by omega) AR).other 1 (.string yb) (by omega) AR).other 2 (.int .i64 yp) (by omega) AR;have MU:=((M3.new (b:=w1.heap.size) (by omega) 0 (.slice ya yl yc)).new (b:=w1.heap.size) (by omega) 1 (.string yb)).new (b:=w1.heap.size) (by omega) 2 (.int .i64 yp)
      go_wp2_with (first
       | (at_builtin;refine wpList_append_lies _ rfl _ _ 137 rfl w.heap.size 155 i0 _ 3 48 underlying137 hi hz0 hz1 hz2 rfl (by decide) (.slice tF yY Mx) acc.length (ps.flatMap YR.cA) rfl (PL.alloc _) ⟨w3.heap.size,0,none⟩ 1 1 [.slice ya yl yc,.string yb,.int .i64 yp] rfl rfl (bC kN) (by simp[Value.oneCell']) (by decide) (by unfold maxLen;omega) (by omega) (by simp[World.setCell];omega) _ rfl ?_;intro g4 cap4 w4 u7 bV ni xg))
      have hv4:∀k,(Value.slice tF yY Mx).ownBlock=some k->w.heap.size<=k:=fun k hk=>(hrg3.1.2.1.lt _ hk).1
      have kA4:=(Ro.alloc (.cells #[.slice ya yl yc,.string yb,.int .i64 yp] 155)).grown bV (fun e=>CR e.symm);have M4:=(MU.alloc (.cells #[.slice ya yl yc,.string yb,.int .i64 yp] 155)).grown bV (fun k hk=>.inl (hv4 k hk));have Rp:=(hU.alloc (.cells #[.slice ya yl yc,.string yb,.int .i64 yp] 155)).move (bV.block q (by simp[World.setCell];omega) (fun e=>by have:=hv4 _ e.symm;omega)) (fun g hg=>bV.block g (by have:=hx3.dQ g hg;simp[World.setCell];omega) (fun e=>hrg3.2.2 g e.symm hg));go_roundg 0
      case measure=>omega
      case rel=>exact .inr ⟨n,a,kI,qM,_,_,_,rfl,rfl,Rp,M4,X3,Ip⟩
     |ok x=>
      obtain⟨a3,eF⟩:=x;obtain⟨v3,kI,qM,rfl,m3,x3,P9,vi3,rfl,hv3⟩:=he.ok hr3;have hl3:=BK (zF d) hr3;have uI:Hid (iP d ts=jh (bB d) (d == 8) f' eF (acc++[a3])):=by
       show _=_;rw[hpm.out];simp only[jh];rw[if_pos HB.out,hr3]
      obtain⟨ya,yl,yc,rfl⟩:=bM.form hv3;clear hr3 he hpm;have Iq:=x2.keep (b:=w1.heap.size) kA.lt fA;have kA2:=kA.mv m2 (by omega) fA;have AR:=x3.keep (b:=w1.heap.size) kA2.lt Iq;have kA3:=kA2.mv m3 (by omega) Iq;have m23:=m2.trans x2 m3;have x23:=x2.trans m2.size x3;have hrg3:=hrg.mv (FK YR d) m23 x23 (by omega);have M3:=M.trans X m23;have X3:=X.trans M.size x23;have Ir:=M3.size;have szr:=M.size;have c0:w3.cell? ⟨w1.heap.size,0,none⟩=some (.slice ca ck cc):=kA3.cell 0;have c1:w3.cell? ⟨w1.heap.size,1,none⟩=some (.string cb):=kA3.cell 1;have c2:w3.cell? ⟨w1.heap.size,2,none⟩=some (.int .i64 cp):=kA3.cell 2;have ff:∀i,w3.frozen? ⟨w1.heap.size,i,none⟩=false:=kA3.frozen;have lA3:w1.heap.size<w3.heap.size:=kA3.lt;have EW:(((w3.setCell ⟨w1.heap.size,0,none⟩ (.slice ya yl yc)).setCell ⟨w1.heap.size,1,none⟩ (.string a3.2.1)).setCell ⟨w1.heap.size,2,none⟩ (.int .i64 (a3.2.2:Int))).heap.size=w3.heap.size:=by simp[World.setCell]
      have kN:=aj.new (((w3.setCell ⟨w1.heap.size,0,none⟩ (.slice ya yl yc)).setCell ⟨w1.heap.size,1,none⟩ (.string a3.2.1)).setCell ⟨w1.heap.size,2,none⟩ (.int .i64 (a3.2.2:Int))) #[.slice ya yl yc,.string a3.2.1,.int .i64 (a3.2.2:Int)] 155;rw[EW]at kN;have PL:=aC (w':=(((w3.setCell ⟨w1.heap.size,0,none⟩ (.slice ya yl yc)).setCell ⟨w1.heap.size,1,none⟩ (.string a3.2.1)).setCell ⟨w1.heap.size,2,none⟩ (.int .i64 (a3.2.2:Int)))) hrg3.1.2.1 (fun g hg=>by
       have hgA:g≠w1.heap.size:=fun e=>CR (by rw[hg,e])
       rw[zS0 hgA,zS0 hgA,zS0 hgA])
      have Ro:=((kA3.set 0 (.slice ya yl yc)).set 1 (.string a3.2.1)).set 2 (.int .i64 (a3.2.2:Int));have hU:=((P9.other 0 (.slice ya yl yc) (by omega) AR).other 1 (.string a3.2.1) (by omega) AR).other 2 (.int .i64 (a3.2.2:Int)) (by omega) AR;have MU:=((M3.new (b:=w1.heap.size) (by omega) 0 (.slice ya yl yc)).new (b:=w1.heap.size) (by omega) 1 (.string a3.2.1)).new (b:=w1.heap.size) (by omega) 2 (.int .i64 (a3.2.2:Int))
      go_wp2_with (first
       | (at_builtin;refine wpList_append_lies _ rfl _ _ 137 rfl w.heap.size 155 i0 _ 3 48 underlying137 hi hz0 hz1 hz2 rfl (by decide) (.slice tF yY Mx) acc.length (ps.flatMap YR.cA) rfl (PL.alloc _) ⟨w3.heap.size,0,none⟩ 1 1 [.slice ya yl yc,.string a3.2.1,.int .i64 (a3.2.2:Int)] rfl rfl (bC kN) (by simp[Value.oneCell']) (by decide) (by unfold maxLen;omega) (by omega) (by simp[World.setCell];omega) _ rfl ?_;intro g4 cap4 w4 u7 bV ni xg))
      have hv4:∀k,(Value.slice tF yY Mx).ownBlock=some k->w.heap.size<=k:=fun k hk=>(hrg3.1.2.1.lt _ hk).1
      have kA4:=(Ro.alloc (.cells #[.slice ya yl yc,.string a3.2.1,.int .i64 (a3.2.2:Int)] 155)).grown bV (fun e=>CR e.symm);have M4:=(MU.alloc (.cells #[.slice ya yl yc,.string a3.2.1,.int .i64 (a3.2.2:Int)] 155)).grown bV (fun k hk=>.inl (hv4 k hk));have Rp:=(hU.alloc (.cells #[.slice ya yl yc,.string a3.2.1,.int .i64 (a3.2.2:Int)] 155)).move (bV.block q (by simp[World.setCell];omega) (fun e=>by have:=hv4 _ e.symm;omega)) (fun g hg=>bV.block g (by have:=P9.dQ g hg;simp[World.setCell];omega) (fun e=>hrg3.2.2 g e.symm hg));have ajL:bM YR d (Fp wr.heap.size kI w3) w3 (.slice ya yl yc) a3.1:=bM.move (fun _ _=>rfl) (fun b hb=>⟨Nat.le_trans m2.size hb.1,hb.2⟩) hv3;have G4:=iV.ajq (A:=w1.heap.size) (FK YR d) hrg (q:=q) (by omega) szr kA.lt CQ m23 x23 P9.dQ (.slice ya yl yc,a3) ajL (aW (aW (aW (gu w3 w1.heap.size 0 _) (gu _ w1.heap.size 1 _)) (gu _ w1.heap.size 2 _)) (bZ _ _ _)) u7 bV ni;go_roundg (eF.length+1)
      case measure=>omega
      case rel=>
       refine .inl ⟨eF,acc++[a3],kI,qM,f',_,_,_,_,_,_,_,rfl,by omega,by simp;omega,Rp,kA4,AR,G4,?_,?_,M4,X3,uI⟩
       ·rintro(h1 | h1)
        ·exact CQ h1
        ·have:=h1.1;have:=kA.lt;omega
       ·intro e
        have e':g4=w1.heap.size:=by simpa [Value.ownBlock]using e
        rcases ni with h1|h1
        ·exact CR (by rw[h1,e'])
        ·have:((((w3.setCell ⟨w1.heap.size,0,none⟩ (.slice ya yl yc)).setCell ⟨w1.heap.size,1,none⟩ (.string a3.2.1)).setCell ⟨w1.heap.size,2,none⟩ (.int .i64 (a3.2.2:Int))).alloc (.cells #[.slice ya yl yc,.string a3.2.1,.int .i64 (a3.2.2:Int)] 155)).heap.size=w3.heap.size+1:=by simp[World.setCell]
         omega
    ·have HB:Hid (¬Lx.hd aA=sD):=hb
     clear hb
     go_wp2_with (first
      | (go_at_call 155;refine(YO hr sD (by decide) (by decide) HB.out).mono ?_;rintro e w'⟨rfl,hw⟩;obtain rfl:=hw.symm))
     go_ret;refine bO.yes (x:=acc) (ts':=aA) (by rw[hpm.out];simp only[jh];rw[if_neg HB.out]) M X hr ?_;exact jr.seq (FK YR d) ⟨ps,F,hrg⟩
   ·go_wp2_with (first
     | (go_at_call 155;refine(KU hx _).mono ?_;rintro e w'⟨rfl,hw⟩;obtain rfl:=hw.symm))
    go_ret;exact bO.no Ip.out M X hx ⟨_,_,_,rfl⟩
theorem Xj:∀d,d<=8->J9 d
 |0,_=>Wq (Xi (Wp (by omega) (fun d' h=>by omega)))
 |d+1,h=>Wq (Xi (Wp h (fun d' h'=>by cases h';exact Xj d (by omega))))
end
end Go.Proofs.YtjaalkocdbkdeaaGreatDoor

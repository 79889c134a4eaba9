import Derived.Test.YtlcppnabbicmoaaGreatDoorME14
import Derived.Test.YtlcppnabbicmoaaGreatDoorME23
import Derived.Laws.AppendOwnNone
import Derived.Laws.BytesString
set_option maxHeartbeats 8000000
set_option maxRecDepth 1000000
namespace Go.Proofs.YtlcppnabbicmoaaGreatDoor
section
open Go.RowKit
open Tr
theorem AltsIn.up {Y:Lay} {F:Nat->Prop} {w:World}:∀ {d:Nat} {v:Value} {l:List Lx.Alt},AltsIn Y d F w v l->AltsIn Y (d+1) F w v l
 | 0,_,_,h=>by obtain⟨rfl,rfl⟩:=h;exact AltsIn.nil _ _ _ _
 | d+1,_,_,h=>Seq.move (K:=fun vi (a:Lx.Alt)=>ItemsBy Y (AltsIn Y d F w) F w vi a.1) h (fun _ _=>rfl) (fun _ h=>h) fun _ _ hi=>Seq.move (K:=fun va (it:Lx.It)=>AltsIn Y d F w va it.alts) hi (fun _ _=>rfl) (fun _ h=>h) fun _ _ ha=>AltsIn.up ha
theorem AltsIn.ups {Y:Lay} {F:Nat->Prop} {w:World} {d:Nat} {v:Value} {l:List Lx.Alt} (h:AltsIn Y d F w v l):∀ k,AltsIn Y (d+k) F w v l
 | 0=>h
 | k+1=>AltsIn.up (AltsIn.ups h k)
theorem AltsIn.nine {Y:Lay}{F:Nat->Prop}{w:World}{d:Nat}{v:Value}{l:List Lx.Alt}(h:AltsIn Y d F w v l)(hd:d<=9):AltsIn Y 9 F w v l:=by
 have:=AltsIn.ups h (9-d)
 rwa [show d+(9-d)=9 by omega]at this
def HR (B:Nat)(F:Nat->Prop)(w:World)(v:Value)(l:List Lx.It):Prop:=∃ ps:List (Value × Lx.It),ps.map Prod.snd=l/\w.ownsRow B 148 5 v l.length (ps.flatMap YR.cI)/\∀ q,q∈ps->AltsIn YR 9 F w q.1 q.2.alts
theorem cI_one {F:Nat->Prop}{w:World}{q:Value × Lx.It}(h:AltsIn YR 9 F w q.1 q.2.alts):∀ u∈YR.cI q,u.oneCell'=true:=by
 obtain⟨a,k,c,e⟩:=AltsIn.form h;intro u hu;simp only[YR,List.mem_cons,List.not_mem_nil,or_false]at hu;rcases hu with rfl | rfl | rfl | rfl | rfl
 ·rfl
 ·rfl
 ·rfl
 ·rw[e];rfl
 ·rfl
theorem cI_ones {F:Nat->Prop}{w:World}{ps:List (Value × Lx.It)}(h:∀ q,q∈ps->AltsIn YR 9 F w q.1 q.2.alts):∀ u∈ps.flatMap YR.cI,u.oneCell'=true:=by
 intro u hu;obtain⟨q,hq,hu⟩:=List.mem_flatMap.1 hu;exact cI_one (h q hq) u hu
theorem cI_len:∀ ps:List (Value × Lx.It),(ps.flatMap YR.cI).length=ps.length*5
 | []=>rfl
 | p::ps=>by rw[List.flatMap_cons,List.length_append,cI_len ps,List.length_cons,Nat.succ_mul];show 5+_=_;omega
theorem HR.move {B:Nat}{F:Nat->Prop}{w w':World}{v:Value}{l:List Lx.It}(h:HR B F w v l)(hF:∀ b,F b->w'.heap[b]?=w.heap[b]?)(hv:∀ g,v.ownBlock=some g->w'.heap[g]?=w.heap[g]?):HR B F w' v l:=by
 obtain⟨ps,h1,h2,h3⟩:=h;exact⟨ps,h1,own_move h2 hv,fun q hq=>AltsIn.move hF (fun _ h=>h) (h3 q hq)⟩
def HelpedSaid (d:Nat):Prop:=∀ (F:Nat->Prop) (w:World) (v:Value) (l:List Lx.Alt),AltsIn YR d F w v l->d<=9->(∀ b,F b->b<w.heap.size)->(Lx.hlpA d l).length<=10000 ->
 Calls Tryz.prog 65 #[v] w fun e w'=>∃ u,e=.returned u/\HR w.heap.size F w' u (Lx.hlpA d l)/\Below w.heap.size w w'
theorem helped_zero:HelpedSaid 0:=by
 intro F w v l hl hd hL hn;obtain⟨rfl,rfl⟩:=hl;go_enter Tryz.func65,Tryz.ntmps65;go_wp2_with fail
 go_loopg [3,4] 0 (fun k vo i wr=>k=0/\vo=.slice none 0 0/\i=.int .i64 0/\wr=w)
 case atStart=>exact⟨rfl,rfl,rfl,rfl⟩
 case round =>
  obtain⟨rfl,rfl,rfl,rfl⟩:=hrel;go_wp2_with fail;go_ret;exact⟨_,rfl,⟨[],rfl,World.ownsRow_nil _ _ _ _,fun q h=>by cases h⟩,Below.refl _ _⟩
theorem helped_succ {d:Nat}(IH:HelpedSaid d):HelpedSaid (d+1):=by
 intro F w v l hl hd hL hn;obtain⟨i0,hii,hz0,hz1,hz2⟩:=info_parts Tryz.info148;obtain⟨va,vc,hv,hm⟩:=AltsIn.len hl;subst hv;unfold maxLen at hm;rw[Lx.hlpA_succ]at hn ⊢;go_enter Tryz.func65,Tryz.ntmps65;go_wp2_with fail;have H0:Hid ((l.flatMap fun a=>Lx.hlpL d a.1)=[]++((l.drop 0).flatMap fun a=>Lx.hlpL d a.1)):=rfl
 go_loopg [3,4] l.length (fun k vo i wr=>∃ (j:Nat) (ho:List Lx.It),j+k=l.length/\i=.int .i64 j/\HR w.heap.size F wr vo ho/\Below w.heap.size w wr/\Hid ((l.flatMap fun a=>Lx.hlpL d a.1)=ho++((l.drop j).flatMap fun a=>Lx.hlpL d a.1)))
 case atStart=>exact⟨0,[],by omega,rfl,⟨[],rfl,World.ownsRow_nil _ _ _ _,fun q h=>by cases h⟩,Below.refl _ _,H0⟩
 case round =>
  clear H0;revert wr;intro wz hrel;obtain⟨j,ho,hk,rfl,hz,hbz,HZ⟩:=hrel;obtain⟨oa,oc,hvo,hom⟩:=own_len hz.choose_spec.2.1;subst hvo
  by_cases hlt:j<l.length
  ·have h1:AltsIn YR (d+1) F wz _ l:=AltsIn.move (fun b hb'=>hbz.block b (hL b hb')) (fun _ h=>h) hl
   obtain⟨gb,cap,vi,hv,hg,hi,hc⟩:=Seq.at h1 (fun _=>rfl) hlt;cases hv;have hz2:=HZ.out;rw[List.drop_eq_getElem_cons hlt,List.flatMap_cons]at hz2;generalize l[j]=x at hi hc hz2;obtain⟨its,prec,pa⟩:=x;obtain⟨ia,ic,hvi,him⟩:=Seq.len hi;subst hvi;unfold maxLen at him;have c0:wz.cell? ⟨gb,j*3,none⟩=some (.slice ia its.length ic):=hc 0 (by decide);have HZ2:Hid (_=ho++((its.drop 0).flatMap (Lx.hlpI d)++(l.drop (j+1)).flatMap fun a=>Lx.hlpL d a.1)):=hz2;clear h1 hc hz2 HZ;go_wp2_with fail
   go_loopg [3,5] its.length (fun k vo i wr=>∃ (m:Nat) (ho:List Lx.It),m+k=its.length/\i=.int .i64 m/\HR w.heap.size F wr vo ho/\Below w.heap.size w wr/\Hid ((l.flatMap fun a=>Lx.hlpL d a.1)=ho++((its.drop m).flatMap (Lx.hlpI d)++(l.drop (j+1)).flatMap fun a=>Lx.hlpL d a.1)))
   case atStart=>exact⟨0,ho,by omega,rfl,hz,hbz,HZ2⟩
   case round =>
    clear HZ2 hz hom oa oc;obtain⟨m,ho,hkm,rfl,hr,hbr,HR1⟩:=hrel;have br:∀ b,F b->wr.heap[b]?=wz.heap[b]?:=fun b hb=>(hbr.block b (hL b hb)).trans (hbz.block b (hL b hb)).symm
    have hszr:=hbr.size;have eg:wr.heap[gb]?=wz.heap[gb]?:=br gb hg;have d0:wr.cell? ⟨gb,j*3,none⟩=some (.slice ia its.length ic):=(World.cell?_of_block (w:=wz) eg).trans c0;obtain⟨ps,hp1,hp2,hp3⟩:=hr;obtain⟨oa,oc,hvo,hom⟩:=own_len hp2;subst hvo;unfold maxLen at hom
    by_cases hltm:m<its.length
    ·have hir:ItemsIn YR d F wr _ its:=ItemsIn.move br (fun _ h=>h) hi
     unfold ItemsIn ItemsBy at hir;obtain⟨n,ncap,va,hv,hn2,ha,hcc⟩:=Seq.at hir (fun _=>rfl) hltm;cases hv;have hr2:=HR1.out;rw[List.drop_eq_getElem_cons hltm,List.flatMap_cons,List.append_assoc]at hr2;generalize its[m]=it at ha hcc hr2;obtain⟨sa,sc,hva,-⟩:=AltsIn.len ha;subst hva;have e0:wr.cell? ⟨n,m*5,none⟩=some (.int .i64 (it.kind:Int)):=hcc 0 (by decide);have e1:wr.cell? ⟨n,m*5+1,none⟩=some (.string it.name):=hcc 1 (by decide);have e2:wr.cell? ⟨n,m*5+2,none⟩=some (.int .u8 (it.mark:Int)):=hcc 2 (by decide);have e3:wr.cell? ⟨n,m*5+3,none⟩=some (.slice sa it.alts.length sc):=hcc 3 (by decide);have e4:wr.cell? ⟨n,m*5+4,none⟩=some (.int .i64 (it.place:Int)):=hcc 4 (by decide);have ln:n<wr.heap.size:=by have:=hL n hn2;omega
     have lgb:gb<wr.heap.size:=by have:=hL gb hg;omega
     have hnn:=hn;rw[hr2,List.length_append,List.length_append]at hnn;have e5:Lx.hlpI d it=(if Lx.hlp it=true then [it] else [])++Lx.hlpA d it.alts:=rfl;rw[e5]at hr2 hnn;rw[List.length_append]at hnn;clear hcc hir c0 HR1 e5;obtain⟨W1,hW1⟩:∃ W1,W1=wr.alloc (.cells #[.int .i64 (it.kind:Int),.string it.name,.int .u8 (it.mark:Int),.slice sa it.alts.length sc,.int .i64 (it.place:Int)] 148):=⟨_,rfl⟩;have hb1:Below wr.heap.size wr W1:=by rw[hW1];exact (Below.refl _ _).alloc (Nat.le_refl _) _
     have hs1:W1.heap.size=wr.heap.size+1:=by rw[hW1];simp
     have kx:Blk W1 wr.heap.size #[.int .i64 (it.kind:Int),.string it.name,.int .u8 (it.mark:Int),.slice sa it.alts.length sc,.int .i64 (it.place:Int)] 148:=by rw[hW1];exact Blk.new wr _ 148
     have hone:=cI_one (q:=(.slice sa it.alts.length sc,it)) (AltsIn.nine ha (by omega));have hlps:ps.length=ho.length:=by rw[<-hp1,List.length_map]
     by_cases hh:Lx.hlp it=true
     ·rw[if_pos hh]at hr2 hnn
      have HR2:Hid _:=hr2;clear hr2;have hcase:(it.kind=2)∨(it.kind≠2/\it.mark≠0):=by
       by_cases h2:it.kind=2
       ·exact .inl h2
       ·refine .inr ⟨h2,?_⟩
        simpa [Lx.hlp,h2]using hh
      clear hh;have o2:=(hp2.alloc (.cells #[.int .i64 (it.kind:Int),.string it.name,.int .u8 (it.mark:Int),.slice sa it.alts.length sc,.int .i64 (it.place:Int)] 148)).alloc (.cells #[.int .i64 (it.kind:Int),.string it.name,.int .u8 (it.mark:Int),.slice sa it.alts.length sc,.int .i64 (it.place:Int)] 148);have kx':=Blk.new wr #[.int .i64 (it.kind:Int),.string it.name,.int .u8 (it.mark:Int),.slice sa it.alts.length sc,.int .i64 (it.place:Int)] 148;have kn:Blk ((wr.alloc (.cells #[.int .i64 (it.kind:Int),.string it.name,.int .u8 (it.mark:Int),.slice sa it.alts.length sc,.int .i64 (it.place:Int)] 148)).alloc (.cells #[.int .i64 (it.kind:Int),.string it.name,.int .u8 (it.mark:Int),.slice sa it.alts.length sc,.int .i64 (it.place:Int)] 148)) (wr.heap.size+1) #[.int .i64 (it.kind:Int),.string it.name,.int .u8 (it.mark:Int),.slice sa it.alts.length sc,.int .i64 (it.place:Int)] 148:=by simpa using Blk.new (wr.alloc (.cells #[.int .i64 (it.kind:Int),.string it.name,.int .u8 (it.mark:Int),.slice sa it.alts.length sc,.int .i64 (it.place:Int)] 148)) #[.int .i64 (it.kind:Int),.string it.name,.int .u8 (it.mark:Int),.slice sa it.alts.length sc,.int .i64 (it.place:Int)] 148
      rcases hcase with hk2 | ⟨hk2,hm2⟩
      have hkb:((it.kind:Int) == 2)=true:=by simp[hk2]
      have HK:Hid (it.kind=2):=hk2;clear hk2
      rotate_left
      have hkb:((it.kind:Int) == 2)=false:=beq_eq_false_iff_ne.2 (by omega);have hmb:((it.mark:Int) == 0)=false:=beq_eq_false_iff_ne.2 (by omega);have HK:Hid (it.kind≠2):=hk2;have HM:Hid (it.mark≠0):=hm2;clear hk2 hm2
      all_goals
       go_wp2_with (at_builtin;go_loud (refine wpList_append_own_at _ rfl _ _ 133 rfl w.heap.size 148 i0 _ 5 64 Tryz.underlying133 hii hz0 hz1 hz2 rfl (by decide) (.slice oa ho.length oc) _ _ rfl o2 ⟨_,0,none⟩ 1 1 (YR.cI (.slice sa it.alts.length sc,it)) rfl rfl (news_of kn) hone (by unfold maxLen;omega) (by omega) (by simp;omega) ?_;intro v3 w3 hown3 hgrow3 _ hat3;obtain⟨oa3,oc3,hv3,-⟩:=own_len hown3;subst hv3;have kx3:Blk w3 wr.heap.size _ 148:=(kx'.alloc _).grown hgrow3 (fun e=>by have:=(hp2.lt _ e.symm).2;omega);have x3:w3.cell? ⟨wr.heap.size,3,none⟩=some (.slice sa it.alts.length sc):=kx3.cell 3))
       have hb3:Below w.heap.size w w3:=((hbr.alloc hszr _).alloc (by simp;omega) _).grown hgrow3 (by simp;omega) (fun k hk=>(hp2.lt k hk).1);obtain⟨ho3,hho3⟩:∃ ho3,ho3=ho++[it]:=⟨_,rfl⟩;have hl3:ho3.length=ho.length+1:=by rw[hho3];simp
       obtain⟨ps3,hps⟩:∃ ps3,ps3=ps++[(.slice sa it.alts.length sc,it)]:=⟨_,rfl⟩;have hps3:ps3.map Prod.snd=ho3:=by rw[hps,hho3,List.map_append,hp1];rfl
       have own3:w3.ownsRow w.heap.size 148 5 (.slice oa3 ho3.length oc3) ho3.length (ps3.flatMap YR.cI):=by rw[hps,List.flatMap_append,hl3];simpa using hown3
       have hp33:∀ q,q∈ps3->AltsIn YR 9 F w3 q.1 q.2.alts:=by
        intro q hq;have h9:AltsIn YR 9 F wr q.1 q.2.alts:=by
         rw[hps]at hq;rcases List.mem_append.1 hq with hq | hq
         ·exact hp3 q hq
         ·rw[List.mem_singleton.1 hq];exact AltsIn.nine ha (by omega)
        exact AltsIn.move (fun b hb=>(hb3.block b (hL b hb)).trans (hbr.block b (hL b hb)).symm) (fun _ h=>h) h9
       have HR3:Hid ((l.flatMap fun a=>Lx.hlpL d a.1)=ho3++(Lx.hlpA d it.alts++((its.drop (m+1)).flatMap (Lx.hlpI d)++(l.drop (j+1)).flatMap fun a=>Lx.hlpL d a.1))):=by
        have:=HR2.out;show _=_;rw[this,hho3];simp[List.append_assoc]
       rw[<-hl3];simp only[List.length_cons,List.length_nil]at hnn;have hbnd:ho3.length+(Lx.hlpA d it.alts).length<=10000:=by omega
       clear HR2 o2 hho3 hps hown3 hat3 hl3 hnn;have hs3:=hb3.size;have br3:∀ b,F b->w3.heap[b]?=wr.heap[b]?:=fun b hb=>(hb3.block b (hL b hb)).trans (hbr.block b (hL b hb)).symm
       have hL3:∀ b,F b->b<w3.heap.size:=fun b hb=>by have:=hL b hb;omega
       refine (IH F w3 _ _ (AltsIn.move br3 (fun _ h=>h) ha) (by omega) hL3 (by omega)).mono ?_;rintro e w4 ⟨u,rfl,⟨qs,hq1,hq2,hq3⟩,hb4⟩;have hb34:Below w.heap.size w w4:=hb3.trans (hb4.mono hs3);have hs4:=hb4.size;have own4:=own_move (w':=w4) own3 (fun g hg=>hb4.block g (own3.lt g hg).2);have hp34:∀ q,q∈ps3->AltsIn YR 9 F w4 q.1 q.2.alts:=fun q hq=>AltsIn.move (fun b hb=>hb4.block b (hL3 b hb)) (fun _ h=>h) (hp33 q hq)
       rcases hq2.2 with ⟨hu,hzero⟩ | ⟨g4,cap4,cur4,hu,hg4,hgg4,hc4,hcm4,-,-⟩
       ·subst hu
        have hnil:Lx.hlpA d it.alts=[]:=List.eq_nil_of_length_eq_zero hzero;have HR4:Hid ((l.flatMap fun a=>Lx.hlpL d a.1)=ho3++((its.drop (m+1)).flatMap (Lx.hlpI d)++(l.drop (j+1)).flatMap fun a=>Lx.hlpL d a.1)):=by have:=HR3.out;rw[hnil,List.nil_append]at this;exact this
        clear HR3 hnil hq2 hq1 hq3 hzero
        go_wp2_with (at_builtin;refine wpList_append_own_none rfl _ _ 133 rfl w.heap.size 148 i0 5 Tryz.underlying133 hii (.slice oa3 ho3.length oc3) _ _ rfl own4 rfl ?_)
        go_roundg (its.length - (m+1))
        case measure=>omega
        case rel=>exact⟨m+1,ho3,by omega,by go_num,⟨ps3,hps3,own4,hp34⟩,hb34,HR4⟩
       ·subst hu
        have hlq:qs.length=(Lx.hlpA d it.alts).length:=by rw[<-hq1,List.length_map]
        unfold maxLen at hcm4;have HR4:Hid ((l.flatMap fun a=>Lx.hlpL d a.1)=(ho3++Lx.hlpA d it.alts)++((its.drop (m+1)).flatMap (Lx.hlpI d)++(l.drop (j+1)).flatMap fun a=>Lx.hlpL d a.1)):=by have:=HR3.out;rw[<-List.append_assoc]at this;exact this
        clear HR3
        go_wp2_with (at_builtin;refine wpList_append_own_at _ rfl _ _ 133 rfl w.heap.size 148 i0 _ 5 64 Tryz.underlying133 hii hz0 hz1 hz2 rfl (by decide) (.slice oa3 ho3.length oc3) _ _ rfl own4 ⟨g4,0,none⟩ (Lx.hlpA d it.alts).length cap4 (qs.flatMap YR.cI) rfl (by rw[cI_len,hlq]) (hq2.cells rfl) (cI_ones hq3) (by unfold maxLen;omega) (by omega) (by omega) ?_;intro v5 w5 hown5 hgrow5 _ hat5;obtain⟨oa5,oc5,hv5,-⟩:=own_len hown5;subst hv5)
        have hb5:Below w.heap.size w w5:=hb34.grown hgrow5 (by omega) (fun k hk=>(own4.lt k hk).1);have hp35:∀ q,q∈ps3++qs->AltsIn YR 9 F w5 q.1 q.2.alts:=fun q hq=>AltsIn.move (fun b hb=>hgrow5.block b (by have:=hL b hb;omega) (fun e=>by have:=(own4.lt b e.symm).1;have:=hL b hb;omega)) (fun _ h=>h) ((List.mem_append.1 hq).elim (hp34 q) (hq3 q))
        go_roundg (its.length - (m+1))
        case measure=>omega
        case rel=>exact⟨m+1,ho3++Lx.hlpA d it.alts,by omega,by go_num,⟨ps3++qs,by rw[List.map_append,hps3,hq1],by rw[List.length_append,List.flatMap_append];exact hown5,hp35⟩,hb5,HR4⟩
     ·rw[if_neg hh]at hr2 hnn
      have hk2:it.kind≠2/\it.mark=0:=by simpa [Lx.hlp]using hh
      have hkb:((it.kind:Int) == 2)=false:=beq_eq_false_iff_ne.2 (by omega);have hmb:((it.mark:Int) == 0)=true:=by simp[hk2.2]
      have HK:Hid (it.kind≠2/\it.mark=0):=hk2;have HR2:Hid _:=hr2;clear hr2 hk2 hh;go_wp2_with fail;rw[<-hW1];have x3:W1.cell? ⟨wr.heap.size,3,none⟩=some (.slice sa it.alts.length sc):=kx.cell 3;obtain⟨w3,hw3⟩:∃ w3,w3=W1:=⟨_,rfl⟩;rw[<-hw3];have hb3:Below w.heap.size w w3:=by rw[hw3];exact hbr.trans (hb1.mono hszr)
      have own3:w3.ownsRow w.heap.size 148 5 (.slice oa ho.length oc) ho.length (ps.flatMap YR.cI):=own_move hp2 fun g hg=>by rw[hw3];exact hb1.block g (hp2.lt g hg).2
      have hp33:∀ q,q∈ps->AltsIn YR 9 F w3 q.1 q.2.alts:=fun q hq=>AltsIn.move (fun b hb=>(hb3.block b (hL b hb)).trans (hbr.block b (hL b hb)).symm) (fun _ h=>h) (hp3 q hq)
      obtain⟨oa3,oc3,ho3,ps3,hps3,rfl,rfl,rfl,rfl⟩:∃ oa3 oc3 ho3,∃ ps3:List (Value × Lx.It),ps3.map Prod.snd=ho3/\oa3=oa/\oc3=oc/\ho3=ho/\ps3=ps:=⟨oa,oc,ho,ps,hp1,rfl,rfl,rfl,rfl⟩;have HR3:Hid ((l.flatMap fun a=>Lx.hlpL d a.1)=ho3++(Lx.hlpA d it.alts++((its.drop (m+1)).flatMap (Lx.hlpI d)++(l.drop (j+1)).flatMap fun a=>Lx.hlpL d a.1))):=HR2.out;simp only[List.length_nil]at hnn;have hbnd:ho3.length+(Lx.hlpA d it.alts).length<=10000:=by omega
      clear hnn;clear HR2;have hs3:=hb3.size;have br3:∀ b,F b->w3.heap[b]?=wr.heap[b]?:=fun b hb=>(hb3.block b (hL b hb)).trans (hbr.block b (hL b hb)).symm
      have hL3:∀ b,F b->b<w3.heap.size:=fun b hb=>by have:=hL b hb;omega
      refine (IH F w3 _ _ (AltsIn.move br3 (fun _ h=>h) ha) (by omega) hL3 (by omega)).mono ?_;rintro e w4 ⟨u,rfl,⟨qs,hq1,hq2,hq3⟩,hb4⟩;have hb34:Below w.heap.size w w4:=hb3.trans (hb4.mono hs3);have hs4:=hb4.size;have own4:=own_move (w':=w4) own3 (fun g hg=>hb4.block g (own3.lt g hg).2);have hp34:∀ q,q∈ps3->AltsIn YR 9 F w4 q.1 q.2.alts:=fun q hq=>AltsIn.move (fun b hb=>hb4.block b (hL3 b hb)) (fun _ h=>h) (hp33 q hq)
      rcases hq2.2 with ⟨hu,hzero⟩ | ⟨g4,cap4,cur4,hu,hg4,hgg4,hc4,hcm4,-,-⟩
      ·subst hu
       have hnil:Lx.hlpA d it.alts=[]:=List.eq_nil_of_length_eq_zero hzero;have HR4:Hid ((l.flatMap fun a=>Lx.hlpL d a.1)=ho3++((its.drop (m+1)).flatMap (Lx.hlpI d)++(l.drop (j+1)).flatMap fun a=>Lx.hlpL d a.1)):=by have:=HR3.out;rw[hnil,List.nil_append]at this;exact this
       clear HR3 hnil hq2 hq1 hq3 hzero
       go_wp2_with (at_builtin;refine wpList_append_own_none rfl _ _ 133 rfl w.heap.size 148 i0 5 Tryz.underlying133 hii (.slice oa3 ho3.length oc3) _ _ rfl own4 rfl ?_)
       go_roundg (its.length - (m+1))
       case measure=>omega
       case rel=>exact⟨m+1,ho3,by omega,by go_num,⟨ps3,hps3,own4,hp34⟩,hb34,HR4⟩
      ·subst hu
       have hlq:qs.length=(Lx.hlpA d it.alts).length:=by rw[<-hq1,List.length_map]
       unfold maxLen at hcm4;have HR4:Hid ((l.flatMap fun a=>Lx.hlpL d a.1)=(ho3++Lx.hlpA d it.alts)++((its.drop (m+1)).flatMap (Lx.hlpI d)++(l.drop (j+1)).flatMap fun a=>Lx.hlpL d a.1)):=by have:=HR3.out;rw[<-List.append_assoc]at this;exact this
       clear HR3
       go_wp2_with (at_builtin;refine wpList_append_own_at _ rfl _ _ 133 rfl w.heap.size 148 i0 _ 5 64 Tryz.underlying133 hii hz0 hz1 hz2 rfl (by decide) (.slice oa3 ho3.length oc3) _ _ rfl own4 ⟨g4,0,none⟩ (Lx.hlpA d it.alts).length cap4 (qs.flatMap YR.cI) rfl (by rw[cI_len,hlq]) (hq2.cells rfl) (cI_ones hq3) (by unfold maxLen;omega) (by omega) (by omega) ?_;intro v5 w5 hown5 hgrow5 _ hat5;obtain⟨oa5,oc5,hv5,-⟩:=own_len hown5;subst hv5)
       have hb5:Below w.heap.size w w5:=hb34.grown hgrow5 (by omega) (fun k hk=>(own4.lt k hk).1);have hp35:∀ q,q∈ps3++qs->AltsIn YR 9 F w5 q.1 q.2.alts:=fun q hq=>AltsIn.move (fun b hb=>hgrow5.block b (by have:=hL b hb;omega) (fun e=>by have:=(own4.lt b e.symm).1;have:=hL b hb;omega)) (fun _ h=>h) ((List.mem_append.1 hq).elim (hp34 q) (hq3 q))
       go_roundg (its.length - (m+1))
       case measure=>omega
       case rel=>exact⟨m+1,ho3++Lx.hlpA d it.alts,by omega,by go_num,⟨ps3++qs,by rw[List.map_append,hps3,hq1],by rw[List.length_append,List.flatMap_append];exact hown5,hp35⟩,hb5,HR4⟩
    ·have:m=its.length:=by omega
     subst this;have hr2:=HR1.out;rw[List.drop_length,List.flatMap_nil,List.nil_append]at hr2;have HR2:Hid _:=hr2;clear c0 hr2 HR1;go_wp2_with fail;go_roundg (l.length - (j+1))
     case measure=>omega
     case rel=>exact⟨j+1,ho,by omega,by go_num,⟨ps,hp1,hp2,hp3⟩,hbr,HR2⟩
  ·have:j=l.length:=by omega
   subst this;have hz2:=HZ.out;rw[List.drop_length,List.flatMap_nil,List.append_nil]at hz2;have HZ2:Hid _:=hz2;clear hz2 HZ;go_wp2_with fail;go_ret;refine⟨_,rfl,?_,hbz⟩;rw[HZ2.out];exact hz
theorem helped_at:∀ d,HelpedSaid d
 | 0=>helped_zero
 | d+1=>helped_succ (helped_at d)
end
section
open Go.RowKit
open Tr
theorem decB_size (n:Nat):(Lx.decB n).size<=n+1:=by
 show ((Lib.decDigits n).toArray).size<=n+1;rw[List.size_toArray]
 induction n using Nat.strongRecOn with
 | _ n IH =>
  rw[Lib.decDigits]
  split
  ·simp
  ·have:=IH (n / 10) (by omega)
   rw[List.length_append,List.length_singleton];omega
theorem conv_one (w:World)(k:Int):(convert 162 9 (.slice (some ⟨w.heap.size,0,none⟩) 1 1)).run Tryz.prog (w.alloc (.cells #[.int .u8 k] 5))=.ok (.string ⟨#[UInt8.ofNat k.toNat]⟩) (w.alloc (.cells #[.int .u8 k] 5)):=by
 rw[run_convert_bytes_string _ 162 9 5 _ 1 1 (by kernel_rfl) (by kernel_rfl) (by kernel_rfl),run_bytesToString _ ⟨w.heap.size,0,none⟩ 1 1 [k]]
 ·rfl
 ·have h0:(w.alloc (.cells #[.int .u8 k] 5)).cell? ⟨w.heap.size,0,none⟩=some (.int .u8 k):=(Blk.new w _ 5).cell 0
  simp[loadCells,loadCellsFrom,go_sem,h0]
theorem decimal_any (n:Nat):∀ (w:World),n<=100000->Calls Tryz.prog 66 #[.int .i64 (n:Int)] w fun e w'=>e=.returned (.string (Lx.decB n))/\Below w.heap.size w w':=by
 induction n using Nat.strongRecOn with
 | _ n IH =>
  intro w hn;have hc:=conv_one;go_enter Tryz.func66,Tryz.ntmps66
  by_cases h10:n<10
  ·go_wp2_with fail
   go_ret;refine⟨?_,?_⟩
   ·have:Lx.decB n=⟨#[UInt8.ofNat (48+n)]⟩:=by unfold Lx.decB;rw[Lib.decDigits,dif_pos h10]
    rw[this];rfl
   ·exact (Below.refl _ _).alloc (Nat.le_refl _) _
  ·go_wp2_with fail
   have e1:(n:Int) / 10=((n / 10:Nat):Int):=by omega
   rw[e1];clear e1;refine (IH (n / 10) (by omega) w (by omega)).mono ?_;rintro e w1 ⟨rfl,hb1⟩;have hsz:=decB_size (n / 10);have hsz2:(Lx.decB (n / 10)).size<=10001:=by omega
   clear hsz;go_wp2_with fail;go_ret;refine⟨?_,(hb1.alloc hb1.size _)⟩;have:Lx.decB n=Lx.decB (n / 10)++⟨#[UInt8.ofNat (48+n % 10)]⟩:=by
    unfold Lx.decB;rw[Lib.decDigits,dif_neg h10];apply ByteArray.ext;simp
   have e3:UInt8.ofNat (48+n % 10)=48+UInt8.ofNat (n % 10):=by simp
   rw[this,e3];rfl
end
end Go.Proofs.YtlcppnabbicmoaaGreatDoor

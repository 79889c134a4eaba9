import Derived.Test.YtlcppnabbicmoaaGreatDoorME32
import Derived.Lib.AppendZeros
set_option maxHeartbeats 8000000
set_option maxRecDepth 1000000
namespace Go.Proofs.YtlcppnabbicmoaaGreatDoor
section
open Go.RowKit
open Tr
theorem grow_any {n:Nat}(hn:1<=n)(hl:n<=1000000)(w:World):Calls Tryz.prog 149 #[.slice none 0 0,.int .i64 (n:Int)] w fun e w'=>∃ v,e=.returned v/\w'.ownsRow w.heap.size 3 1 v 0 []/\Below w.heap.size w w':=by
 obtain⟨i0,hi,hz0,hz1,hz2⟩:=info_parts Tryz.info3;have happ:=Lib.run_append_nil_zeros (P:=Tryz.prog) w 24 3 24 3 i0 (.int .i64 0) .i64 .i64 Tryz.underlying24 (by kernel_rfl) hi hz0 n (by omega) (by omega) (by omega) (by rw[hz2];omega);generalize hcap:grownCap w n 0 3=cap2 at happ;have hcapge:n<=cap2:=by rw[<-hcap];exact grownCap_ge w _ 0 3
 have hcaple:cap2<=maxLen:=by rw[<-hcap];exact grownCap_le_maxLen w _ 0 3 (by unfold maxLen;omega)
 generalize hZ:(Builtin.zeroCells (Value.int .i64 0).cells n++Builtin.zeroCells (Value.int .i64 0).cells (cap2-n))=Z at happ;have hZs:Z.size=cap2:=by rw[<-hZ];simp[size_zeroCells,Value.cells];omega
 clear hcap hZ;have g0:¬ (n:Int)<0:=by omega
 have g1:0<(n:Int):=by omega
 go_enter Tryz.func149,Tryz.ntmps149
 go_wp2_with (at_builtin;refine Lib.wpList_append_run _ rfl _ _ _ _ rfl _ _ rfl rfl _ _ happ ?_)
 go_ret;have hk:Blk (w.drew.alloc (.cells Z 3)) w.heap.size Z 3:=Blk.new w.drew Z 3;have hbb:Below w.heap.size w (w.drew.alloc (.cells Z 3)):=((Below.refl _ _).drew).alloc (Nat.le_refl _) _;refine⟨_,rfl,⟨rfl,.inr ⟨w.heap.size,cap2,Z,rfl,Nat.le_refl _,hk,Nat.zero_le _,hcaple,by omega,by simp⟩⟩,hbb⟩
theorem append_none {P:Program}{t e:TypeId}{i:TypeInfo}(ht:P.underlying t=some (.slice e))(hi:P.info? e=some i)(ty:TypeId)(base:Option Addr)(n cap:Nat)(hle:n<=cap)(w:World):(Builtin.append_ #[t,t] ty #[.slice base n cap,.slice none 0 0]).run P w=.ok (.slice base n cap) w:=by
 cases base <;> simp[Builtin.append_,run_underlying ht,sizeOf,typeInfo,hi,Builtin.lenOf,Builtin.firstCells,storeCells,hle]
theorem own_cap {w:World}{B e z:Nat}{a:Option Addr}{n c:Nat}{xs:List Value}(h:w.ownsRow B e z (.slice a n c) n xs):n<=c:=by
 rcases h.2 with ⟨e1,e2⟩ | ⟨g,cap,cur,hv,-,-,hc,-⟩
 ·omega
 ·simp only[Value.slice.injEq]at hv;omega
theorem flat_take (ps:List (List Nat)){j:Nat}(hj:j<ps.length):(ps.take (j+1)).flatten=(ps.take j).flatten++ps[j]:=by rw[List.take_succ_eq_append_getElem hj,List.flatten_append];simp
theorem flat_le (ps:List (List Nat))(j:Nat):(ps.take j).flatten.length<=ps.flatten.length:=by
 conv=>rhs;rw[<-List.take_append_drop j ps,List.flatten_append,List.length_append]
 omega
theorem concat_any {B:Nat}{w:World}{v:Value}{ps:List (List Nat)}(h:PtR B w v ps)(h1:1<=ps.flatten.length)(hl:ps.flatten.length<=1000000):Calls Tryz.prog 138 #[v] w fun e w'=>∃ u,e=.returned u/\IR w.heap.size w' u ps.flatten/\Below w.heap.size w w':=by
 obtain⟨i0,hii,hz0,hz1,hz2⟩:=info_parts Tryz.info3;obtain⟨a,c,rfl,hm⟩:=h.len;unfold maxLen at hm;go_enter Tryz.func138,Tryz.ntmps138;go_wp2_with fail
 go_loopg [3,11] ps.length (fun k z i wr=>∃ (j zn:Nat),j+k=ps.length/\z=.int .i64 (zn:Int)/\i=.int .i64 j/\wr=w/\Hid (zn=(ps.take j).flatten.length))
 case atStart=>exact⟨0,0,by omega,rfl,rfl,rfl,by show _=_;simp⟩
 case round =>
  revert wr;intro wA hrel;obtain⟨j,zn,hk,rfl,rfl,hww,HZ⟩:=hrel;subst hww
  by_cases hlt:j<ps.length
  ·obtain⟨g,cap,u,hv,hBg,hg,hc,hu⟩:=h.at hlt
   cases hv;obtain⟨ua,uc,rfl,-⟩:=own_len hu;have hz:=flat_take ps hlt;have hle:=flat_le ps (j+1);rw[hz,List.length_append,<-HZ.out]at hle;have HZ2:Hid (zn+ps[j].length=(ps.take (j+1)).flatten.length):=by show _=_;rw[hz,List.length_append,<-HZ.out]
   generalize ps[j].length=m at hc hle HZ2;have hw1:IntKind.i64.wrap ((zn:Int)+(m:Int))=((zn+m:Nat):Int):=by rw[<-Int.natCast_add];exact wrap64 (by omega)
   obtain⟨zm,hzm⟩:∃ zm,zm=zn+m:=⟨_,rfl⟩;rw[<-hzm]at hw1 HZ2 hle;have hneg:¬ (zm:Int)<0:=by omega
   clear hz hzm hu;go_wp2_with fail;go_roundg (ps.length - (j+1))
   case measure=>omega
   case rel=>exact⟨j+1,zm,by omega,rfl,by go_num,rfl,HZ2⟩
  ·have:j=ps.length:=by omega
   subst this;have HZ2:Hid (zn=ps.flatten.length):=by have:=HZ.out;rw[List.take_length]at this;exact this
   clear HZ;have q1:=grow_any (n:=zn) (by rw[HZ2.out];exact h1) (by rw[HZ2.out];exact hl) wA;go_wp2_with fail;refine q1.mono ?_;rintro e w1 ⟨u1,rfl,ho1,hb1⟩;obtain⟨ua,uc,rfl,-⟩:=own_len ho1;clear q1;go_wp2_with fail
   go_loopg [6,27] ps.length (fun k vo i wr=>∃ (j:Nat) (acc:List Nat),j+k=ps.length/\i=.int .i64 j/\IR wA.heap.size wr vo acc/\Below wA.heap.size wA wr/\Hid (acc=(ps.take j).flatten))
   case atStart=>exact⟨0,[],by omega,rfl,ho1,hb1,by show _=_;simp⟩
   case round =>
    clear ho1 hb1 hk hlt HZ2;obtain⟨j,acc,hk,rfl,ho,hbz,HA⟩:=hrel;obtain⟨oa,oc,rfl,-⟩:=own_len ho;have hacl:acc.length<=1000000:=by rw[HA.out];exact Nat.le_trans (flat_le ps j) hl
    by_cases hlt:j<ps.length
    ·have hz:=h.move (w':=wr) fun g _ hg=>hbz.block g hg
     obtain⟨g,cap,u,hv,hBg,hg,hc,hu⟩:=hz.at hlt;cases hv;have hle:=flat_le ps (j+1);rw[flat_take ps hlt,List.length_append,<-HA.out]at hle;have HA2:Hid (acc++ps[j]=(ps.take (j+1)).flatten):=by show _=_;rw[flat_take ps hlt,<-HA.out]
     generalize ps[j]=x at hc hu hle HA2;obtain⟨ua,uc,rfl,-⟩:=own_len hu;have hu2:=hu;unfold IR at hu2;rcases hu2.2 with ⟨e1,e2⟩ | ⟨g3,cap3,cur3,hv3,-,hh3,hx1,hx2,hx3,hx4⟩
     ·have hx0:x=[]:=List.eq_nil_of_length_eq_zero e2
      subst hx0;have happ:=append_none (P:=Tryz.prog) Tryz.underlying24 hii 24 oa acc.length oc (own_cap ho) wr;rw[List.append_nil]at HA2;simp only[Value.slice.injEq]at e1;obtain⟨rfl,-,rfl⟩:=e1;clear e2 hu hu2
      go_wp2_with (at_builtin;refine Lib.wpList_append_run _ rfl _ _ _ _ rfl _ _ rfl rfl _ _ happ ?_)
      go_roundg (ps.length - (j+1))
      case measure=>omega
      case rel=>exact⟨j+1,acc,by omega,by go_num,ho,hbz,HA2.out⟩
     ·cases hv3
      have hnews:∀ i y,(intsV x)[i]?=some y->wr.cell? ((⟨g3,0,none⟩:Addr).add i)=some y:=hu2.cells (g:=g3) rfl
      go_wp2_with (at_builtin;go_loud (refine wpList_append_own_at _ rfl _ _ 24 rfl wA.heap.size 3 i0 _ 1 8 Tryz.underlying24 hii hz0 hz1 hz2 rfl (by decide) (.slice oa acc.length oc) _ _ rfl ho ⟨g3,0,none⟩ x.length _ (intsV x) rfl (by rw[intsV_len,Nat.mul_one]) hnews (intsV_one x) (by unfold maxLen;omega) (by omega) hbz.size ?_;intro v5 w5 hown5 hgrow5 _ hat5;obtain⟨oa5,oc5,hv5,-⟩:=own_len hown5;subst hv5))
      have hb5:Below wA.heap.size wA w5:=hbz.grown hgrow5 hbz.size (fun k hk=>(ho.lt k hk).1);go_roundg (ps.length - (j+1))
      case measure=>omega
      case rel=>exact⟨j+1,acc++x,by omega,by go_num,by unfold IR;rw[List.length_append,intsV_app];exact hown5,hb5,HA2.out⟩
    ·have:j=ps.length:=by omega
     subst this;have HA2:Hid (acc=ps.flatten):=by have:=HA.out;rw[List.take_length]at this;exact this
     clear HA;go_wp2_with fail;go_ret;exact⟨_,rfl,by rw[<-HA2.out];exact ho,hbz⟩
end
section
open Go.RowKit
open Tr
theorem PtR.push {B:Nat}{w w2 w5:World}{v v5 u:Value}{ps:List (List Nat)}{qs:List (Value × List Nat)}{rr:List Nat}{o:Obj}(h:PtBy B w v ps qs)(hB:B<=w.heap.size)(hb2:Below w.heap.size w w2)(hu:IR w.heap.size w2 u rr)(ho:w5.ownsRow B 24 1 v5 (ps.length+1) (qs.map Prod.fst++[u]))(hg5:(w2.alloc o).grownBy w5 v.ownBlock)(hat5:v5.ownBlock=v.ownBlock∨v5.ownBlock=some (w2.alloc o).heap.size):PtR B w5 v5 (ps++[rr]):=by
 obtain⟨hq1,hq2,hq3,hq4⟩:=h;have hs2:=hb2.size;have hat:∀ g,v5.ownBlock=some g->v.ownBlock=some g∨w2.heap.size<=g:=by
  intro g hg;rcases hat5 with h' | h'
  ·exact .inl (h' ▸ hg)
  ·rw[h']at hg;simp at hg;exact .inr (by omega)
 have bl:∀ g,g<w2.heap.size->v.ownBlock≠some g->w5.heap[g]?=w2.heap[g]?:=fun g hg hn=>(hg5.block g (by simp;omega) (fun e=>hn e.symm)).trans (Below.heap_alloc _ _ _ hg)
 refine⟨qs++[(u,rr)],by rw[List.map_append,hq1];rfl,?_,?_,?_⟩
 ·rw[List.length_append,List.map_append];exact ho
 ·intro q hq
  rcases List.mem_append.1 hq with hq | hq
  ·refine own_move (hq3 q hq) fun g hg=>?_
   have hlg:=(hq3 q hq).lt g hg;exact (bl g (by omega) (hq4 q hq g hg)).trans (hb2.block g hlg.2)
  ·rw[List.mem_singleton.1 hq]
   refine own_move (own_le hu hB) fun g hg=>bl g (hu.lt g hg).2 fun e=>?_
   have:=(hu.lt g hg).1;have:=(hq2.lt g e).2;omega
 ·intro q hq g hg e
  rcases hat g e with h' | h'
  ·rcases List.mem_append.1 hq with hq | hq
   ·exact hq4 q hq g hg h'
   ·rw[List.mem_singleton.1 hq]at hg
    have:=(hu.lt g hg).1;have:=(hq2.lt g h').2;omega
  ·rcases List.mem_append.1 hq with hq | hq
   ·have:=((hq3 q hq).lt g hg).2;omega
   ·rw[List.mem_singleton.1 hq]at hg
    have:=(hu.lt g hg).2;omega
def PartsOk (w:World)(G:Nat->Prop)(fS:ByteArray->Int)(fH:Addr->Int)(g:Nat)(l:List Lx.Alt)(ps:List (List Nat)):Prop:=ps.length=l.length/\∀ k (hk:k<l.length) (hk':k<ps.length),l[k].1.length<=10000/\ps[k].length=l[k].1.length/\∀ vi,w.cell? ⟨g,k*2,none⟩=some vi->∀ q (hq:q<l[k].1.length) (hq':q<ps[k].length),G (blkOf vi)/\symP fS fH (⟨blkOf vi,q*4,none⟩,l[k].1[q])=(ps[k][q]:Int)
theorem pparts_any {D F G:Nat->Prop} {w:World} {mb S H:Nat} {ta:Option Addr} {nT tc:Nat} {vN vB vK:Value} {fS:ByteArray->Int} {fH:Addr->Int} {P:List Lx.Pd} (h:Mp D G w mb S H ta nT tc vN vB vK fS fH P) {n m d:Nat} {it:Lx.It} {va:Value} (hi:ItemAt w n m it) (hva:w.cell? ⟨n,m*4+3,none⟩=some va) (hA:AltsIn YP d F w va it.alts) (hF:∀ b,F b->D b) (ps:List (List Nat)) (hp1:it.kind≠2->∃ s:Nat,ps=[[s]]/\fS it.name=(s:Int)) (hp2:it.kind=2->PartsOk w G fS fH (blkOf va) it.alts ps) (hl:it.alts.length<=10000) :
  Calls Tryz.prog 137 #[.pointer (some ⟨mb,0,none⟩),.pointer (some ⟨n,m*4,none⟩)] w fun e w'=>∃ u,e=.returned u/\PtR w.heap.size w' u ps/\Below w.heap.size w w':=by
 obtain⟨i0,hii,hz0,hz1,hz2⟩:=info_parts Tryz.info24;obtain⟨sa,sc,rfl,-⟩:=AltsIn.len hA;have hk0:=hi.kind;have hn0:=hi.name;go_enter Tryz.func137,Tryz.ntmps137
 by_cases hk:it.kind=2
 ·have hkn:((it.kind:Int) != 2)=false:=by simp[hk]
  obtain⟨hpl,hps⟩:=hp2 hk;have HK:Hid (it.kind=2):=hk;clear hk hp1 hp2;go_wp2_with fail
  go_loopg [5,29] it.alts.length (fun k vo i wr=>∃ (j:Nat) (acc:List (List Nat)),j+k=it.alts.length/\i=.int .i64 j/\PtR w.heap.size wr vo acc/\Below w.heap.size w wr/\Hid (acc=ps.take j))
  case atStart=>exact⟨0,[],by omega,rfl,⟨[],rfl,World.ownsRow_nil _ _ _ _,fun q hq=>(by cases hq),fun q hq=>(by cases hq)⟩,Below.refl _ _,rfl⟩
  case round =>
   revert wr;intro wz hrel;obtain⟨j,acc,hk,rfl,ho,hbz,HAC⟩:=hrel;have hsz:=hbz.size;obtain⟨qs,hqs⟩:=ho;have hq2:=hqs.2.1;obtain⟨oa,oc,rfl,hom⟩:=own_len hq2;have hac:acc.length<=10000:=by rw[HAC.out,List.length_take];omega
   by_cases hlt:j<it.alts.length
   ·obtain⟨d',rfl⟩:∃ d',d=d'+1:=by
     cases d with
     | zero=>have:=hA.2;rw[this]at hlt;simp at hlt
     | succ d'=>exact⟨d',rfl⟩
    have hAz:AltsIn YP (d'+1) F wz _ it.alts:=AltsIn.move (fun b hb=>hbz.block b (h.lt b (hF b hb))) (fun _ h=>h) hA;obtain⟨gb,cap,vi,hv,hg,hitm,hc⟩:=Seq.at hAz (fun _=>rfl) hlt;cases hv;have hltp:j<ps.length:=by omega
    obtain⟨hj1,hj2,hj3⟩:=hps j hlt hltp;have hc0w:w.cell? ⟨gb,j*2,none⟩=some vi:=by
     have:wz.cell? ⟨gb,j*2,none⟩=some vi:=hc 0 (by decide)
     rwa [World.cell?_of_block (w:=w) (hbz.block gb (h.lt gb (hF gb hg)))]at this
    have hj3':=hj3 vi hc0w;have HTK:Hid (ps.take (j+1)=acc++[ps[j]]):=by show _=_;rw[HAC.out,List.take_succ_eq_append_getElem hltp]
    generalize it.alts[j]=x at hitm hc hj1 hj2 hj3';generalize ps[j]=rr at hj2 hj3' HTK;obtain⟨its,prec,pa⟩:=x;have hi':ItemsIn YP d' F wz vi its:=hitm;obtain⟨ia,ic,rfl,him⟩:=Seq.len hitm;have c0:wz.cell? ⟨gb,j*2,none⟩=some (.slice ia its.length ic):=hc 0 (by decide);have c1:wz.cell? ⟨gb,j*2+1,none⟩=some (.string prec):=hc 1 (by decide);obtain⟨W1,hW1⟩:∃ W1,W1=wz.alloc (.cells #[.slice ia its.length ic,.string prec] 194):=⟨_,rfl⟩;have hb1:Below wz.heap.size wz W1:=by rw[hW1];exact (Below.refl _ _).alloc (Nat.le_refl _) _
    have hs1:W1.heap.size=wz.heap.size+1:=by rw[hW1];simp
    have hbw1:Below w.heap.size w W1:=hbz.trans (hb1.mono hsz);have q1:=pright_any (h.below hbw1) its _ (ItemsIn.move (fun b hb=>hb1.block b (Nat.lt_of_lt_of_le (h.lt b (hF b hb)) hsz)) (fun _ h=>h) hi') hF rr hj2 (fun k hk=>hj3' k hk (by rw[hj2];exact hk)) hj1 prec;have kl:Blk W1 wz.heap.size #[.slice ia its.length ic,.string prec] 194:=by rw[hW1];exact Blk.new wz _ 194
    have l0:W1.cell? ⟨wz.heap.size,0,none⟩=some (.slice ia its.length ic):=kl.cell 0;have l1:W1.cell? ⟨wz.heap.size,1,none⟩=some (.string prec):=kl.cell 1;have HJ2:Hid (rr.length=(its,prec,pa).1.length):=hj2;clear hc hitm hj3 hj3' hps hc0w hj2;go_wp2_with fail;rw[<-hW1];clear hW1 c0 c1 l0 l1;refine q1.mono ?_;rintro e w2 ⟨u,rfl,hu,hb2⟩;obtain⟨ua,uc,rfl,-⟩:=own_len hu;have hs2:=hb2.size;have hb2z:Below wz.heap.size wz w2:=hb1.trans (hb2.mono (by omega));have own2:=own_below hq2 hb2z;clear q1
    go_wp2_with (at_builtin;go_loud (refine wpList_append_own_at _ rfl _ _ 40 rfl w.heap.size 24 i0 _ 1 24 Tryz.underlying40 hii hz0 hz1 hz2 rfl (by decide) (.slice oa acc.length oc) _ _ rfl (own2.alloc _) ⟨_,0,none⟩ 1 1 [.slice ua rr.length uc] rfl rfl (news_of (Blk.new _ _ 24)) (by simp[Value.oneCell']) (by unfold maxLen;omega) (by omega) (by simp;omega) ?_;intro v5 w5 hown5 hgrow5 _ hat5;obtain⟨oa5,oc5,hv5,-⟩:=own_len hown5;subst hv5))
    have hb5:Below w.heap.size w w5:=((hbz.trans (hb2z.mono hsz)).alloc (by omega) _).grown hgrow5 (by simp;omega) (fun k hk=>(hq2.lt k hk).1);have hpt:=PtR.push hqs hsz hb2z (own_le hu (by omega)) hown5 hgrow5 hat5;go_roundg (it.alts.length - (j+1))
    case measure=>omega
    case rel=>exact⟨j+1,_,by omega,by go_num,hpt,hb5,HTK.out.symm⟩
   ·have:j=it.alts.length:=by omega
    subst this;have HA2:Hid (acc=ps):=by have:=HAC.out;rw[<-hpl,List.take_length]at this;exact this
    clear HAC;go_wp2_with fail;go_ret;refine⟨_,rfl,?_,hbz⟩;rw[<-HA2.out];exact⟨qs,hqs⟩
 ·have hkn:((it.kind:Int) != 2)=true:=bne_iff_ne.2 (by omega)
  have hkd:¬ (it.kind:Int)=2:=by omega
  obtain⟨s,hps,hs⟩:=hp1 hk;have HPS:Hid (ps=[[s]]):=hps;clear hk hp1 hp2 hps;have hl1:=SMap.look (w:=w.drew) (h.sm.move rfl) it.name;rw[hs]at hl1;have d5:w.drew.cell? ⟨mb,5,none⟩=some (.map (some S)):=h.cells.2.1;have dn:w.drew.cell? ⟨n,m*4+1,none⟩=some (.string it.name):=hn0;clear hs;have m5:=h.cells.2.1;have n1:=World.new_ne w ⟨mb,5,none⟩ m5;have n2:=World.new_ne w ⟨n,m*4+1,none⟩ hn0;go_wp2_with fail
  go_region_held3 (fun w'=>w'.cell? ⟨mb,5,none⟩=some (.map (some S))/\w'.cell? ⟨n,m*4+1,none⟩=some (.string it.name)) (go_keep) (fail)
  go_wp2_with fail;go_ret;refine⟨_,rfl,?_,(((Below.refl _ _).alloc (Nat.le_refl _) _).alloc (by simp) _).drew⟩;rw[HPS.out];have ka:=((Blk.new w #[.int .i64 (s:Int)] 3).alloc (.cells #[.slice (some ⟨w.heap.size,0,none⟩) 1 1] 24)).drew;have kb:Blk ((w.alloc (.cells #[.int .i64 (s:Int)] 3)).alloc (.cells #[.slice (some ⟨w.heap.size,0,none⟩) 1 1] 24)).drew (w.heap.size+1) #[.slice (some ⟨w.heap.size,0,none⟩) 1 1] 24:=by simpa using (Blk.new (w.alloc (.cells #[.int .i64 (s:Int)] 3)) #[.slice (some ⟨w.heap.size,0,none⟩) 1 1] 24).drew
  refine⟨[(.slice (some ⟨w.heap.size,0,none⟩) 1 1,[s])],rfl,?_,?_,?_⟩
  ·exact⟨rfl,.inr ⟨w.heap.size+1,1,_,rfl,by omega,kb,Nat.le_refl _,by decide,rfl,rfl⟩⟩
  ·intro q hq
   rw[List.mem_singleton.1 hq];exact⟨rfl,.inr ⟨w.heap.size,1,_,rfl,by omega,ka,Nat.le_refl _,by decide,rfl,rfl⟩⟩
  ·intro q hq g hg
   rw[List.mem_singleton.1 hq]at hg;simp[Value.ownBlock]at hg ⊢;omega
end
end Go.Proofs.YtlcppnabbicmoaaGreatDoor

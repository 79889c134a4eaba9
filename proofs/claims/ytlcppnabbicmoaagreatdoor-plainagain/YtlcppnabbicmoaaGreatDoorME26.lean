import Derived.Test.YtlcppnabbicmoaaGreatDoorME23
set_option maxHeartbeats 8000000
set_option maxRecDepth 1000000
namespace Go.Proofs.YtlcppnabbicmoaaGreatDoor
section
open Go.RowKit
open Lx (Tk)
open Tr
section
variable {α:Type} {B:Nat} {sgx sgx1:Value} {w w':World} {e s:Nat} {c:Value × α -> List Value} {K:(Nat -> Prop) -> World -> Value -> α -> Prop} {v:Value} {l:List α} {q:Nat}
theorem RGrowBy.one (hm:Movable K) {w1 w2:World} (x:Value × α) (hB:B<=w.heap.size) (h1:w.heap.size<=w1.heap.size) (ho1:∀ g,sgx1.ownBlock=some g->g<w1.heap.size) (hx:K (Fp w.heap.size sgx1 w1) w1 x.1 x.2) (hc:(c x).length=s) (g2:w1.grownBy w2 none) :
  RGrowBy B sgx1 (w2.alloc (.cells (c x).toArray e)) e s c K (.slice (some ⟨w2.heap.size,0,none⟩) 1 1) [x.2] [x] (Fp w.heap.size sgx1 w1):=by
 have s2:=g2.size;refine⟨⟨rfl,⟨by simp[hc],.inr ⟨w2.heap.size,1,(c x).toArray,rfl,by omega,heap_alloc_new w2 _,Nat.le_refl _,by unfold maxLen;omega,by simp[hc],?_⟩⟩,?_,?_,?_⟩,?_,?_⟩
 ·simp only[List.length_cons,List.length_nil,List.flatMap_cons,List.flatMap_nil,List.append_nil]
  exact List.take_of_length_le (by omega)
 ·intro q' hq'
  simp at hq';subst hq';exact hm _ _ w1 _ _ _ (fun b hb=>by rw[Below.heap_alloc _ _ _ (by have:=hb.2.1;omega),g2.block b hb.2.1 (by simp)]) (fun _ h=>h) hx
 ·intro b hb
  have:=hb.1;have:=hb.2.1;simp;omega
 ·intro g hg hF
  have:w2.heap.size=g:=by simpa [Value.ownBlock]using hg
  have:=hF.2.1;omega
 ·exact fun b hb=>hb.2.2
 ·intro g hg e'
  have:w2.heap.size=g:=by simpa [Value.ownBlock]using hg
  have:=ho1 _ e';omega
theorem RGrowBy.push2 {ps:List (Value × α)} {F:Nat->Prop} {A:Nat} (hm:Movable K) (h:RGrowBy B sgx w e s c K v l ps F) (hq:q<B) (hB:B<=w.heap.size) (hA:A<w.heap.size) (hFA:¬ F A) {w1 w2 w3:World} (g1:Mv q sgx w w1) (n1:Nx sgx w sgx1) (ho1:∀ g,sgx1.ownBlock=some g->g<w1.heap.size) (x:Value × α)
  (hx:K (Fp w.heap.size sgx1 w1) w1 x.1 x.2) (g2:w1.grownBy w2 (some A)) {g cap:Nat} (ho:w3.ownsRow B e s (.slice (some ⟨g,0,none⟩) (l.length+1) cap) (l.length+1) (ps.flatMap c++c x))
  (g3:w2.grownBy w3 v.ownBlock) (ha:v.ownBlock=some g∨g=w2.heap.size):RGrowBy B sgx1 w3 e s c K (.slice (some ⟨g,0,none⟩) (l.length+1) cap) (l++[x.2]) (ps++[x]) (fun b=>F b∨Fp w.heap.size sgx1 w1 b):=by
 obtain⟨⟨h1,h2,h3,h4,h5⟩,h6,h7⟩:=h;have s1:=g1.size;have s2:=g2.size;have s3:=g3.size;have e1:∀ b,F b->w3.heap[b]?=w.heap[b]?:=fun b hF=>by
  have hb:=h4 b hF;rw[g3.block b (by omega) (fun e=>h5 b e.symm hF),g2.block b (by omega) (fun e=>hFA (by cases e;exact hF)),g1.block b hb.2 (by omega) (h6 b hF)]
 have e2:∀ b,Fp w.heap.size sgx1 w1 b->w3.heap[b]?=w1.heap[b]?:=fun b hI=>by
  rw[g3.block b (by have:=hI.2.1;omega) (fun e=>by have:=(h2.lt b e.symm).2;have:=hI.1;omega),g2.block b hI.2.1 (fun e=>by cases e;have:=hI.1;omega)]
 refine⟨⟨?_,?_,?_,?_,?_⟩,?_,?_⟩
 ·rw[List.map_append,h1];rfl
 ·rw[List.flatMap_append,List.length_append];simpa using ho
 ·intro q' hq'
  rcases List.mem_append.1 hq' with h' | h'
  ·exact hm F _ w w3 _ _ e1 (fun _ h=>.inl h) (h3 q' h')
  ·simp at h';subst h'
   exact hm _ _ w1 w3 _ _ e2 (fun _ h=>.inr h) hx
 ·intro b hb
  rcases hb with hb | hb
  ·have:=h4 b hb;omega
  ·have:=hb.1;have:=hb.2.1;omega
 ·intro g' hg'
  have:g=g':=by simpa [Value.ownBlock]using hg'
  subst this;rintro (hF | hI)
  ·rcases ha with ha | ha
   ·exact h5 _ ha hF
   ·have:=h4 _ hF;omega
  ·rcases ha with ha | ha
   ·have:=(h2.lt _ ha).2;have:=hI.1;omega
   ·have:=hI.2.1;omega
 ·intro b hb
  rcases hb with hb | hb
  ·exact n1.keep (h4 b hb).2 (h6 b hb)
  ·exact hb.2.2
 ·intro g' hg'
  have:g=g':=by simpa [Value.ownBlock]using hg'
  subst this;rcases ha with ha | ha
  ·exact n1.keep (h2.lt _ ha).2 (h7 _ ha)
  ·intro e';have:=ho1 _ e';omega
end
abbrev KIr (d:Nat):(Nat->Prop)->World->Value->Lx.Alt->Prop:=fun F w vi a=>ItemsIn YR d F w vi a.1
theorem ralts_rx (t:Bool) (s:ByteArray) (q:Nat) (w:World) (nest:Int) (n a:Nat) (sgv:Value) (sg:List ByteArray) (h:RX s q w nest n a sgv sg) :
  Calls Tryz.prog 117 #[.pointer (some ⟨q,0,none⟩),.bool t] w fun e w'=>∃ v,e=.returned v/\XAlts v/\Mv q sgv w w'/\RX s q w' nest n a sgv sg:=by
 have hp:=h.lt;go_enter Tryz.func117,Tryz.ntmps117;go_wp2_with fail;refine (ralt_rx t s q _ nest n a sgv sg h).mono ?_;rintro e w1 ⟨rfl,m1,h1⟩;have M2:=(m1.alloc (.cells #[.slice none 0 0,.string ⟨#[]⟩,.int .i64 0] 145)).alloc (.cells #[.slice none 0 0,.string ⟨#[]⟩,.int .i64 0] 145);have h2:=(h1.alloc (.cells #[.slice none 0 0,.string ⟨#[]⟩,.int .i64 0] 145)).alloc (.cells #[.slice none 0 0,.string ⟨#[]⟩,.int .i64 0] 145);go_wp2_with fail
 go_loopg [6] 0 (fun k v wr=>(∃ xa xk xc,v=.slice xa xk xc)/\Mv q sgv w wr/\RX s q wr nest n a sgv sg)
 case atStart=>exact⟨⟨_,_,_,rfl⟩,M2,h2⟩
 case round =>
  obtain⟨⟨xa,xk,xc,rfl⟩,M3,h3⟩:=hrel
  go_wp2_with (first
   | (go_at_call 140;refine (has_rx h3 _).mono ?_;rintro e w' ⟨rfl,hw⟩;obtain rfl:=hw.symm))
  go_ret;exact⟨_,rfl,⟨_,_,_,rfl⟩,M3,h3⟩
theorem ralts_all {d:Nat}(HA:RAltSaid d):RAltsSaid d:=by
 intro s q w ts nest sgv sg hnest h;obtain⟨i0,hi,hz0,hz1,hz2⟩:=info_parts Tryz.info145;have hp:=h.lt;have HO:Hid (nest=8 - (d:Int)):=hnest;have hcnt:=h.cnt;clear hnest;have HE:Hid _:=Lx.pAlts_eq d ts;go_enter Tryz.func117,Tryz.ntmps117;go_wp2_with fail;refine (HA s q w ts nest sgv sg HO.out h).mono ?_;intro e w1 he;cases hr1:Lx.pAlt (Lx.pGroupAt d) (d == 8) ts with
 | error x =>
  obtain⟨n,a⟩:=x;obtain⟨v1,sg1,sl1,rfl,m1,x1,hx1,xa,xl,xc,xb,xp,rfl⟩:=he.err hr1;have HPE:Hid (Lx.pAlts d ts=.error (n,a)):=by show _=_;rw[HE.out];unfold Lx.pAltsBy;rw[hr1]
  have M2:=(m1.alloc (.cells #[.slice xa xl xc,.string xb,.int .i64 xp] 145)).alloc (.cells #[.slice xa xl xc,.string xb,.int .i64 xp] 145);have h2:=(hx1.alloc (.cells #[.slice xa xl xc,.string xb,.int .i64 xp] 145)).alloc (.cells #[.slice xa xl xc,.string xb,.int .i64 xp] 145);clear hr1 he HE;go_wp2_with fail
  go_loopg [6] 0 (fun k v wr=>(∃ xa xk xc,v=.slice xa xk xc)/\Mv q sgv w wr/\RX s q wr nest n a sg1 sl1)
  case atStart=>exact⟨⟨_,_,_,rfl⟩,M2,h2⟩
  case round =>
   obtain⟨⟨xa,xk,xc,rfl⟩,M3,h3⟩:=hrel
   go_wp2_with (first
    | (go_at_call 140;refine (has_rx h3 _).mono ?_;rintro e w' ⟨rfl,hw⟩;obtain rfl:=hw.symm))
   go_ret;exact REnds.no HPE.out M3 x1 h3 ⟨_,_,_,rfl⟩
 | ok x =>
  obtain⟨a1,ts1⟩:=x;obtain⟨v1,sg1,sl1,rfl,m1,x1,hrr1,vi,rfl,hv⟩:=he.ok hr1;have hl1:=Lx.pAlt_len (Lx.pGroupAt_len d) hr1;have HP1:Hid (Lx.pAlts d ts=Lx.pMore (Lx.pGroupAt d) (d == 8) ts1.length ts1 [a1]):=by
   show _=_;rw[HE.out];unfold Lx.pAltsBy;rw[hr1]
  obtain⟨va,vk,vc,rfl⟩:=ItemsIn.form hv;have s1:=m1.size;have hrA:=(hrr1.alloc (.cells #[.slice va vk vc,.string a1.2.1,.int .i64 (a1.2.2:Int)] 145)).alloc (.cells #[.slice va vk vc,.string a1.2.1,.int .i64 (a1.2.2:Int)] 145);have kA0:=(Blk.new w1 #[.slice va vk vc,.string a1.2.1,.int .i64 (a1.2.2:Int)] 145).alloc (.cells #[.slice va vk vc,.string a1.2.1,.int .i64 (a1.2.2:Int)] 145);have MA:=(m1.alloc (.cells #[.slice va vk vc,.string a1.2.1,.int .i64 (a1.2.2:Int)] 145)).alloc (.cells #[.slice va vk vc,.string a1.2.1,.int .i64 (a1.2.2:Int)] 145);have fA0:sg1.ownBlock≠some w1.heap.size:=hrr1.fresh (Nat.le_refl _);have G1:=RGrowBy.one (e:=145) (s:=3) (c:=YR.cA) (items_movable YR d) (B:=w.heap.size) (.slice va vk vc,a1) (Nat.le_refl _) s1 hrr1.owl hv rfl (grown_alloc w1 (.cells #[.slice va vk vc,.string a1.2.1,.int .i64 (a1.2.2:Int)] 145) none);rw[show (w1.alloc (.cells #[.slice va vk vc,.string a1.2.1,.int .i64 (a1.2.2:Int)] 145)).heap.size=w1.heap.size+1 by simp]at G1;have nF:¬ Fp w.heap.size sg1 w1 w1.heap.size:=fun e=>by have:=e.2.1;omega
  clear hr1 he HE;go_wp2_with fail
  go_loopg [6] (ts1.length+1) (fun k v wr=>(∃ (tsr:List Tk) (acc:List Lx.Alt) (sgr:Value) (slr:List ByteArray) (f:Nat) (ps:List (Value × Lx.Alt)) (F:Nat->Prop) (ca:Option Addr) (ck cc:Nat) (cb:ByteArray) (cp:Int),tsr.length+1=k/\tsr.length<=f/\acc.length+tsr.length<=ts.length+1/\RR s q wr tsr nest sgr slr/\Blk wr w1.heap.size #[.slice ca ck cc,.string cb,.int .i64 cp] 145/\sgr.ownBlock≠some w1.heap.size /\
    RGrowBy w.heap.size sgr wr 145 3 YR.cA (KIr d) v acc ps F/\¬ F w1.heap.size/\v.ownBlock≠some w1.heap.size/\Mv q sgv w wr/\Nx sgv w sgr/\Hid (Lx.pAlts d ts=Lx.pMore (Lx.pGroupAt d) (d == 8) f tsr acc)) ∨
   (∃ (n a:Nat) (sgr:Value) (slr:List ByteArray) (xa:Option Addr) (xk xc:Nat),k=0/\v=.slice xa xk xc/\RX s q wr nest n a sgr slr/\Mv q sgv w wr/\Nx sgv w sgr/\Hid (Lx.pAlts d ts=.error (n,a))))
  case atStart=>exact .inl ⟨ts1,[a1],sg1,sl1,ts1.length,_,_,_,_,_,_,_,rfl,Nat.le_refl _,by simp;omega,hrA,kA0,fA0,G1,nF,by simp[Value.ownBlock],MA,x1,HP1⟩
  case round =>
   clear hrA kA0 MA fA0 G1 nF hv;rcases hrel with ⟨tsr,acc,sgr,slr,f,ps,F,ca,ck,cc,cb,cp,hk,hf,hacc,hr,kA,fA,hrg,hFA,hvA,M,X,hpm⟩ | ⟨n,a,sgr,slr,xa,xk,xc,hk,rfl,hx,M,X,HPE⟩
   ·have hne:=hr.wf.ne
    obtain⟨f',rfl⟩:∃ f',f=f'+1:=⟨f-1,by omega⟩;obtain⟨va',vk',vc',rfl⟩:=own_form hrg.1.2.1
    by_cases hb:Lx.hd tsr=Lx.tBar
    ·have HB:Hid (Lx.hd tsr=Lx.tBar):=hb
     clear hb;have htl:=hr.wf.tail_len;go_wp2_with fail;refine (has_yes hr Lx.tBar (by decide) (by decide) HB.out).mono ?_;rintro e w2 ⟨rfl,sg2,m2,x2,hr2⟩;go_wp2_with fail;refine (HA s q w2 tsr.tail nest sg2 _ HO.out hr2).mono ?_;intro e w3 he;cases hr3:Lx.pAlt (Lx.pGroupAt d) (d == 8) tsr.tail with
     | error x =>
      obtain⟨n,a⟩:=x;obtain⟨v3,sg3,sl3,rfl,m3,x3,hx3,ya,yl,yc,yb,yp,rfl⟩:=he.err hr3;have HPE:Hid (Lx.pAlts d ts=.error (n,a)):=by
       show _=_;rw[hpm.out];simp only[Lx.pMore];rw[if_pos HB.out,hr3]
      clear hr3 he hpm;have f2A:=x2.keep (b:=w1.heap.size) kA.lt fA;have kA2:=kA.mv m2 (by omega) fA;have f3A:=x3.keep (b:=w1.heap.size) kA2.lt f2A;have kA3:=kA2.mv m3 (by omega) f2A;have m23:=m2.trans x2 m3;have x23:=x2.trans m2.size x3;have hrg3:=hrg.mv (items_movable YR d) m23 x23 (by omega);have M3:=M.trans X m23;have X3:=X.trans M.size x23;have sz3:=M3.size;have szr:=M.size;have c0:w3.cell? ⟨w1.heap.size,0,none⟩=some (.slice ca ck cc):=kA3.cell 0;have c1:w3.cell? ⟨w1.heap.size,1,none⟩=some (.string cb):=kA3.cell 1;have c2:w3.cell? ⟨w1.heap.size,2,none⟩=some (.int .i64 cp):=kA3.cell 2;have ff:∀ i,w3.frozen? ⟨w1.heap.size,i,none⟩=false:=kA3.frozen;have lA3:w1.heap.size<w3.heap.size:=kA3.lt;have hus:(((w3.setCell ⟨w1.heap.size,0,none⟩ (.slice ya yl yc)).setCell ⟨w1.heap.size,1,none⟩ (.string yb)).setCell ⟨w1.heap.size,2,none⟩ (.int .i64 yp)).heap.size=w3.heap.size:=by simp[World.setCell]
      have kN:=Blk.new (((w3.setCell ⟨w1.heap.size,0,none⟩ (.slice ya yl yc)).setCell ⟨w1.heap.size,1,none⟩ (.string yb)).setCell ⟨w1.heap.size,2,none⟩ (.int .i64 yp)) #[.slice ya yl yc,.string yb,.int .i64 yp] 145;rw[hus]at kN;have hownU:=own_move (w':=(((w3.setCell ⟨w1.heap.size,0,none⟩ (.slice ya yl yc)).setCell ⟨w1.heap.size,1,none⟩ (.string yb)).setCell ⟨w1.heap.size,2,none⟩ (.int .i64 yp))) hrg3.1.2.1 (fun g hg=>by
       have hgA:g≠w1.heap.size:=fun e=>hvA (by rw[hg,e])
       rw[Below.heap_setCell _ _ _ _ hgA,Below.heap_setCell _ _ _ _ hgA,Below.heap_setCell _ _ _ _ hgA])
      have kAU:=((kA3.set 0 (.slice ya yl yc)).set 1 (.string yb)).set 2 (.int .i64 yp);have hU:=((hx3.other 0 (.slice ya yl yc) (by omega) f3A).other 1 (.string yb) (by omega) f3A).other 2 (.int .i64 yp) (by omega) f3A;have MU:=((M3.new (b:=w1.heap.size) (by omega) 0 (.slice ya yl yc)).new (b:=w1.heap.size) (by omega) 1 (.string yb)).new (b:=w1.heap.size) (by omega) 2 (.int .i64 yp)
      go_wp2_with (first
       | (at_builtin;refine wpList_append_lies _ rfl _ _ 97 rfl w.heap.size 145 i0 _ 3 48 Tryz.underlying97 hi hz0 hz1 hz2 rfl (by decide) (.slice va' vk' vc') acc.length (ps.flatMap YR.cA) rfl (hownU.alloc _) ⟨w3.heap.size,0,none⟩ 1 1 [.slice ya yl yc,.string yb,.int .i64 yp] rfl rfl (news_of kN) (by simp[Value.oneCell']) (by decide) (by unfold maxLen;omega) (by omega) (by simp[World.setCell];omega) _ rfl ?_;intro g4 cap4 w4 hown4 hgrow4 hat4 hlt4))
      have hv4:∀ k,(Value.slice va' vk' vc').ownBlock=some k->w.heap.size<=k:=fun k hk=>(hrg3.1.2.1.lt _ hk).1
      have kA4:=(kAU.alloc (.cells #[.slice ya yl yc,.string yb,.int .i64 yp] 145)).grown hgrow4 (fun e=>hvA e.symm);have M4:=(MU.alloc (.cells #[.slice ya yl yc,.string yb,.int .i64 yp] 145)).grown hgrow4 (fun k hk=>.inl (hv4 k hk));have hU4:=(hU.alloc (.cells #[.slice ya yl yc,.string yb,.int .i64 yp] 145)).move (hgrow4.block q (by simp[World.setCell];omega) (fun e=>by have:=hv4 _ e.symm;omega)) (fun g hg=>hgrow4.block g (by have:=hx3.owl g hg;simp[World.setCell];omega) (fun e=>hrg3.2.2 g e.symm hg));go_roundg 0
      case measure=>omega
      case rel=>exact .inr ⟨n,a,sg3,sl3,_,_,_,rfl,rfl,hU4,M4,X3,HPE⟩
     | ok x =>
      obtain⟨a3,ts3⟩:=x;obtain⟨v3,sg3,sl3,rfl,m3,x3,hr3',vi3,rfl,hv3⟩:=he.ok hr3;have hl3:=Lx.pAlt_len (Lx.pGroupAt_len d) hr3;have HP3:Hid (Lx.pAlts d ts=Lx.pMore (Lx.pGroupAt d) (d == 8) f' ts3 (acc++[a3])):=by
       show _=_;rw[hpm.out];simp only[Lx.pMore];rw[if_pos HB.out,hr3]
      obtain⟨ya,yl,yc,rfl⟩:=ItemsIn.form hv3;clear hr3 he hpm;have f2A:=x2.keep (b:=w1.heap.size) kA.lt fA;have kA2:=kA.mv m2 (by omega) fA;have f3A:=x3.keep (b:=w1.heap.size) kA2.lt f2A;have kA3:=kA2.mv m3 (by omega) f2A;have m23:=m2.trans x2 m3;have x23:=x2.trans m2.size x3;have hrg3:=hrg.mv (items_movable YR d) m23 x23 (by omega);have M3:=M.trans X m23;have X3:=X.trans M.size x23;have sz3:=M3.size;have szr:=M.size;have c0:w3.cell? ⟨w1.heap.size,0,none⟩=some (.slice ca ck cc):=kA3.cell 0;have c1:w3.cell? ⟨w1.heap.size,1,none⟩=some (.string cb):=kA3.cell 1;have c2:w3.cell? ⟨w1.heap.size,2,none⟩=some (.int .i64 cp):=kA3.cell 2;have ff:∀ i,w3.frozen? ⟨w1.heap.size,i,none⟩=false:=kA3.frozen;have lA3:w1.heap.size<w3.heap.size:=kA3.lt;have hus:(((w3.setCell ⟨w1.heap.size,0,none⟩ (.slice ya yl yc)).setCell ⟨w1.heap.size,1,none⟩ (.string a3.2.1)).setCell ⟨w1.heap.size,2,none⟩ (.int .i64 (a3.2.2:Int))).heap.size=w3.heap.size:=by simp[World.setCell]
      have kN:=Blk.new (((w3.setCell ⟨w1.heap.size,0,none⟩ (.slice ya yl yc)).setCell ⟨w1.heap.size,1,none⟩ (.string a3.2.1)).setCell ⟨w1.heap.size,2,none⟩ (.int .i64 (a3.2.2:Int))) #[.slice ya yl yc,.string a3.2.1,.int .i64 (a3.2.2:Int)] 145;rw[hus]at kN;have hownU:=own_move (w':=(((w3.setCell ⟨w1.heap.size,0,none⟩ (.slice ya yl yc)).setCell ⟨w1.heap.size,1,none⟩ (.string a3.2.1)).setCell ⟨w1.heap.size,2,none⟩ (.int .i64 (a3.2.2:Int)))) hrg3.1.2.1 (fun g hg=>by
       have hgA:g≠w1.heap.size:=fun e=>hvA (by rw[hg,e])
       rw[Below.heap_setCell _ _ _ _ hgA,Below.heap_setCell _ _ _ _ hgA,Below.heap_setCell _ _ _ _ hgA])
      have kAU:=((kA3.set 0 (.slice ya yl yc)).set 1 (.string a3.2.1)).set 2 (.int .i64 (a3.2.2:Int));have hU:=((hr3'.other 0 (.slice ya yl yc) (by omega) f3A).other 1 (.string a3.2.1) (by omega) f3A).other 2 (.int .i64 (a3.2.2:Int)) (by omega) f3A;have MU:=((M3.new (b:=w1.heap.size) (by omega) 0 (.slice ya yl yc)).new (b:=w1.heap.size) (by omega) 1 (.string a3.2.1)).new (b:=w1.heap.size) (by omega) 2 (.int .i64 (a3.2.2:Int))
      go_wp2_with (first
       | (at_builtin;refine wpList_append_lies _ rfl _ _ 97 rfl w.heap.size 145 i0 _ 3 48 Tryz.underlying97 hi hz0 hz1 hz2 rfl (by decide) (.slice va' vk' vc') acc.length (ps.flatMap YR.cA) rfl (hownU.alloc _) ⟨w3.heap.size,0,none⟩ 1 1 [.slice ya yl yc,.string a3.2.1,.int .i64 (a3.2.2:Int)] rfl rfl (news_of kN) (by simp[Value.oneCell']) (by decide) (by unfold maxLen;omega) (by omega) (by simp[World.setCell];omega) _ rfl ?_;intro g4 cap4 w4 hown4 hgrow4 hat4 hlt4))
      have hv4:∀ k,(Value.slice va' vk' vc').ownBlock=some k->w.heap.size<=k:=fun k hk=>(hrg3.1.2.1.lt _ hk).1
      have kA4:=(kAU.alloc (.cells #[.slice ya yl yc,.string a3.2.1,.int .i64 (a3.2.2:Int)] 145)).grown hgrow4 (fun e=>hvA e.symm);have M4:=(MU.alloc (.cells #[.slice ya yl yc,.string a3.2.1,.int .i64 (a3.2.2:Int)] 145)).grown hgrow4 (fun k hk=>.inl (hv4 k hk));have hU4:=(hU.alloc (.cells #[.slice ya yl yc,.string a3.2.1,.int .i64 (a3.2.2:Int)] 145)).move (hgrow4.block q (by simp[World.setCell];omega) (fun e=>by have:=hv4 _ e.symm;omega)) (fun g hg=>hgrow4.block g (by have:=hr3'.owl g hg;simp[World.setCell];omega) (fun e=>hrg3.2.2 g e.symm hg));have hv3':ItemsIn YR d (Fp wr.heap.size sg3 w3) w3 (.slice ya yl yc) a3.1:=ItemsIn.move (fun _ _=>rfl) (fun b hb=>⟨Nat.le_trans m2.size hb.1,hb.2⟩) hv3;have G4:=RGrowBy.push2 (A:=w1.heap.size) (items_movable YR d) hrg (q:=q) (by omega) szr kA.lt hFA m23 x23 hr3'.owl (.slice ya yl yc,a3) hv3' (grown_trans (grown_trans (grown_trans (grown_set w3 w1.heap.size 0 _) (grown_set _ w1.heap.size 1 _)) (grown_set _ w1.heap.size 2 _)) (grown_alloc _ _ _)) hown4 hgrow4 hat4;go_roundg (ts3.length+1)
      case measure=>omega
      case rel =>
       refine .inl ⟨ts3,acc++[a3],sg3,sl3,f',_,_,_,_,_,_,_,rfl,by omega,by simp;omega,hU4,kA4,f3A,G4,?_,?_,M4,X3,HP3⟩
       ·rintro (h1 | h1)
        ·exact hFA h1
        ·have:=h1.1;have:=kA.lt;omega
       ·intro e
        have e':g4=w1.heap.size:=by simpa [Value.ownBlock]using e
        rcases hat4 with h1 | h1
        ·exact hvA (by rw[h1,e'])
        ·have:((((w3.setCell ⟨w1.heap.size,0,none⟩ (.slice ya yl yc)).setCell ⟨w1.heap.size,1,none⟩ (.string a3.2.1)).setCell ⟨w1.heap.size,2,none⟩ (.int .i64 (a3.2.2:Int))).alloc (.cells #[.slice ya yl yc,.string a3.2.1,.int .i64 (a3.2.2:Int)] 145)).heap.size=w3.heap.size+1:=by simp[World.setCell]
         omega
    ·have HB:Hid (¬ Lx.hd tsr=Lx.tBar):=hb
     clear hb
     go_wp2_with (first
      | (go_at_call 140;refine (has_no hr Lx.tBar (by decide) (by decide) HB.out).mono ?_;rintro e w' ⟨rfl,hw⟩;obtain rfl:=hw.symm))
     go_ret;refine REnds.yes (x:=acc) (ts':=tsr) (by rw[hpm.out];simp only[Lx.pMore];rw[if_neg HB.out]) M X hr ?_;exact RGrow.seq (items_movable YR d) ⟨ps,F,hrg⟩
   ·go_wp2_with (first
     | (go_at_call 140;refine (has_rx hx _).mono ?_;rintro e w' ⟨rfl,hw⟩;obtain rfl:=hw.symm))
    go_ret;exact REnds.no HPE.out M X hx ⟨_,_,_,rfl⟩
theorem ralts_at:∀ d,d<=8->RAltsSaid d
 | 0,_=>ralts_all (ralt_all (ritem_all (by omega) (fun d' h=>by omega)))
 | d+1,h=>ralts_all (ralt_all (ritem_all h (fun d' h'=>by cases h';exact ralts_at d (by omega))))
end
section
open Go.RowKit
open Lx (Tk)
open Tr
def RVRule (lo:Nat)(sgx:Value)(w':World)(v:Value)(r:Lx.Rl):Prop:=∃ va,v=.agg #[.string r.name,va,.int .i64 (r.place:Int)]/\AltsIn YR 9 (Fp lo sgx w') w' va r.alts
def XRule (v:Value):Prop:=∃ n a l c p,v=.agg #[.string n,.slice a l c,.int .i64 p]
theorem RR.drew {s:ByteArray}{q:Nat}{w:World}{ts:List Tk}{nest:Int}{sgv:Value}{sg:List ByteArray}(h:RR s q w ts nest sgv sg):RR s q w.drew ts nest sgv sg:=h.move rfl fun _ _=>rfl
theorem rrule_rr (s:ByteArray) (q:Nat) (w:World) (ts:List Tk) (sgv:Value) (sg:List ByteArray) (h:RR s q w ts 0 sgv sg) :
  Calls Tryz.prog 78 #[.pointer (some ⟨q,0,none⟩)] w (REnds s q 0 (RVRule w.heap.size) XRule w sgv (Lx.pRule ts)):=by
 have hp:=h.lt;have hwsz:=h.wsz;have kq:=h.blk;have c1:w.cell? ⟨q,1,none⟩=some (.int .i64 (Lx.pl ts:Int)):=kq.cell 1;have c2:w.cell? ⟨q,2,none⟩=some (.string (Lx.refW (Lx.hd ts))):=kq.cell 2;have hZ:=h.alloc (.cells #[.string ⟨#[]⟩,.slice none 0 0,.int .i64 0] 99);have kZ:=Blk.new w #[.string ⟨#[]⟩,.slice none 0 0,.int .i64 0] 99;have MZ:=(Mv.refl q sgv w).alloc (.cells #[.string ⟨#[]⟩,.slice none 0 0,.int .i64 0] 99);have f0B:sgv.ownBlock≠some w.heap.size:=h.fresh (Nat.le_refl _);have f0X:sgv.ownBlock≠some (w.heap.size+1):=h.fresh (by omega);cases hn:Lx.isName (Lx.hd ts)
 ·have HN:Hid _:=hn
  have HE:Hid (Lx.pRule ts=.error (2,Lx.pl ts)):=by
   show _=_;unfold Lx.pRule Lx.pWord;rw[if_neg (by rw[hn];simp)]
  clear hn;go_enter Tryz.func78,Tryz.ntmps78
  go_wp2_with (first
   | (go_at_call 116;refine (rIsName_any _ _ hwsz).mono ?_;rintro e w' ⟨rfl,hw⟩;obtain rfl:=hw.symm;rw[Lx.isName_refW,HN.out]))
  refine (fail_rr hZ 2 (Lx.pl ts) (by decide)).mono ?_;rintro e w1 ⟨rfl,m1,hx1⟩;have kB1:=kZ.mv m1 (by omega) f0B;have e0:w1.cell? ⟨w.heap.size,0,none⟩=some (.string ⟨#[]⟩):=kB1.cell 0;have e1:w1.cell? ⟨w.heap.size,1,none⟩=some (.slice none 0 0):=kB1.cell 1;have e2:w1.cell? ⟨w.heap.size,2,none⟩=some (.int .i64 0):=kB1.cell 2;have ff:∀ i,w1.frozen? ⟨w.heap.size,i,none⟩=false:=kB1.frozen;have M1:=MZ.trans (Nx.refl _ _) m1;go_wp2_with fail;refine bodyPost_ret (v:=.agg #[.string ⟨#[]⟩,.slice none 0 0,.int .i64 0]) (by simp[results,Tryz.results78,go_sem,e0,e1,e2]) rfl ?_;exact REnds.no HE.out (((M1.new (Nat.le_refl _) _ _).new (Nat.le_refl _) _ _).new (Nat.le_refl _) _ _) (Nx.refl _ _) (((hx1.other _ _ (by omega) f0B).other _ _ (by omega) f0B).other _ _ (by omega) f0B) ⟨_,_,_,_,_,rfl⟩
 ·have HN:Hid _:=hn
  have HK:Hid (Lx.known (Lx.hd ts)=true):=Lx.isName_known hn;have HNT:Hid (Lx.hd ts≠Lx.noText):=by show _≠_;intro e;rw[e]at hn;revert hn;decide
  have HR1:Hid (Lx.pWord Lx.isName ts=.ok (Lx.hd ts,ts.tail)):=by
   show _=_;unfold Lx.pWord;rw[if_pos hn]
  have hrf:=Lx.refW_known HK.out;clear hn;rw[hrf]at c2 hwsz;clear hrf;have hX:=(hZ.alloc (.cells #[.string (Lx.hd ts),.slice none 0 0,.int .i64 (Lx.pl ts:Int)] 99)).drew;have kB0:=(kZ.alloc (.cells #[.string (Lx.hd ts),.slice none 0 0,.int .i64 (Lx.pl ts:Int)] 99)).drew;have kX0:=Blk.new (w.alloc (.cells #[.string ⟨#[]⟩,.slice none 0 0,.int .i64 0] 99)) #[.string (Lx.hd ts),.slice none 0 0,.int .i64 (Lx.pl ts:Int)] 99;rw[show (w.alloc (.cells #[.string ⟨#[]⟩,.slice none 0 0,.int .i64 0] 99)).heap.size=w.heap.size+1 by simp]at kX0;have kX0:=kX0.drew;have M0:=(MZ.alloc (.cells #[.string (Lx.hd ts),.slice none 0 0,.int .i64 (Lx.pl ts:Int)] 99)).drew;go_enter Tryz.func78,Tryz.ntmps78
  go_wp2_with (first
   | (go_at_call 116;refine (rIsName_any _ _ hwsz).mono ?_;rintro e w' ⟨rfl,hw⟩;obtain rfl:=hw.symm;rw[HN.out]))
  go_region
  go_wp2_with fail;refine (next_rr hX HK.out HNT.out).mono ?_;rintro e w1 ⟨rfl,sg1,m1,x1,h1⟩;have f1B:=x1.keep (b:=w.heap.size) kB0.lt f0B;have f1X:=x1.keep (b:=w.heap.size+1) kX0.lt f0X;have kB1:=kB0.mv m1 (by omega) f0B;have kX1:=kX0.mv m1 (by omega) f0X;have M1:=M0.trans (Nx.refl _ _) m1;have X1:=(Nx.refl sgv w).trans M0.size x1;go_wp2_with fail;refine (must_rr h1 Lx.tEq (by decide) (by decide)).mono ?_;intro e w2 he;cases hr2:Lx.pMust Lx.tEq ts.tail with
  | error x =>
   obtain⟨n,a⟩:=x;obtain⟨v2,sg2,sl2,rfl,m2,x2,h2,rfl⟩:=he.err hr2;have HE:Hid (Lx.pRule ts=.error (n,a)):=by show _=_;unfold Lx.pRule;simp only[HR1.out,hr2]
   clear hr2 he;have f2B:=x2.keep (b:=w.heap.size) kB1.lt f1B;have f2X:=x2.keep (b:=w.heap.size+1) kX1.lt f1X;have kB2:=kB1.mv m2 (by omega) f1B;have kX2:=kX1.mv m2 (by omega) f1X;have M2:=M1.trans X1 m2;have X2:=X1.trans M1.size x2;go_wp2_with fail;refine (ralts_rx true s q _ 0 n a _ _ h2).mono ?_;rintro e w3 ⟨v3,rfl,⟨va,vk,vc,rfl⟩,m3,h3⟩;have kX3:=kX2.mv m3 (by omega) f2X;have kB3:=kB2.mv m3 (by omega) f2B;have M3:=M2.trans X2 m3;have X3:=X2;have f3X:=f2X;have f3B:=f2B;have c31:w3.cell? ⟨w.heap.size+1,1,none⟩=some (.slice none 0 0):=kX3.cell 1;have ff3:∀ i,w3.frozen? ⟨w.heap.size+1,i,none⟩=false:=kX3.frozen;have h3':=h3.other (b:=w.heap.size+1) 1 (.slice va vk vc) (by omega) f3X;have kX3':=kX3.set 1 (.slice va vk vc);have kB3':Blk (w3.setCell ⟨w.heap.size+1,1,none⟩ (.slice va vk vc)) w.heap.size #[.string ⟨#[]⟩,.slice none 0 0,.int .i64 0] 99:=kB3.other (by omega) _;have M3':=M3.new (b:=w.heap.size+1) (by omega) 1 (.slice va vk vc);go_wp2_with fail;refine (must_rx h3' _).mono ?_;rintro e w4 ⟨rfl,hw⟩;obtain rfl:=hw.symm;have kX4:=kX3';have kB4:=kB3';have M4:=M3';have X4:=X3;have h4:=h3';have f4B:=f3B;have d0:(w3.setCell ⟨w.heap.size+1,1,none⟩ (.slice va vk vc)).cell? ⟨w.heap.size+1,0,none⟩=some (.string (Lx.hd ts)):=kX4.cell 0;have d1:(w3.setCell ⟨w.heap.size+1,1,none⟩ (.slice va vk vc)).cell? ⟨w.heap.size+1,1,none⟩=some (.slice va vk vc):=kX4.cell 1;have d2:(w3.setCell ⟨w.heap.size+1,1,none⟩ (.slice va vk vc)).cell? ⟨w.heap.size+1,2,none⟩=some (.int .i64 (Lx.pl ts:Int)):=kX4.cell 2
   have e0:(w3.setCell ⟨w.heap.size+1,1,none⟩ (.slice va vk vc)).cell? ⟨w.heap.size,0,none⟩=some (.string ⟨#[]⟩):=kB4.cell 0;have e1:(w3.setCell ⟨w.heap.size+1,1,none⟩ (.slice va vk vc)).cell? ⟨w.heap.size,1,none⟩=some (.slice none 0 0):=kB4.cell 1;have e2:(w3.setCell ⟨w.heap.size+1,1,none⟩ (.slice va vk vc)).cell? ⟨w.heap.size,2,none⟩=some (.int .i64 0):=kB4.cell 2;have ff:∀ i,(w3.setCell ⟨w.heap.size+1,1,none⟩ (.slice va vk vc)).frozen? ⟨w.heap.size,i,none⟩=false:=kB4.frozen;go_wp2_with fail;refine bodyPost_ret (v:=.agg #[.string (Lx.hd ts),.slice va vk vc,.int .i64 (Lx.pl ts:Int)]) (by simp[results,Tryz.results78,go_sem,e0,e1,e2]) rfl ?_;exact REnds.no HE.out (((M4.new (Nat.le_refl _) _ _).new (Nat.le_refl _) _ _).new (Nat.le_refl _) _ _) X4 (((h4.other _ _ (by omega) f4B).other _ _ (by omega) f4B).other _ _ (by omega) f4B) ⟨_,_,_,_,_,rfl⟩
  | ok x =>
   obtain⟨u2,ts2⟩:=x;obtain⟨v2,sg2,sl2,rfl,m2,x2,h2,rfl⟩:=he.ok hr2;have HR2:Hid _:=hr2;clear hr2 he;have f2B:=x2.keep (b:=w.heap.size) kB1.lt f1B;have f2X:=x2.keep (b:=w.heap.size+1) kX1.lt f1X;have kB2:=kB1.mv m2 (by omega) f1B;have kX2:=kX1.mv m2 (by omega) f1X;have M2:=M1.trans X1 m2;have X2:=X1.trans M1.size x2;go_wp2_with fail;refine (ralts_at 8 (Nat.le_refl _) s q w2 ts2 0 sg2 sl2 rfl h2).mono ?_;intro e w3 he;cases hr3:Lx.pAlts 8 ts2 with
   | error x =>
    obtain⟨n,a⟩:=x;obtain⟨v3,sg3,sl3,rfl,m3,x3,h3,va,vk,vc,rfl⟩:=he.err hr3;have HE:Hid (Lx.pRule ts=.error (n,a)):=by show _=_;unfold Lx.pRule;simp only[HR1.out,HR2.out,hr3]
    clear hr3 he;have f3B:=x3.keep (b:=w.heap.size) kB2.lt f2B;have f3X:=x3.keep (b:=w.heap.size+1) kX2.lt f2X;have kB3:=kB2.mv m3 (by omega) f2B;have kX3:=kX2.mv m3 (by omega) f2X;have M3:=M2.trans X2 m3;have X3:=X2.trans M2.size x3;have c31:w3.cell? ⟨w.heap.size+1,1,none⟩=some (.slice none 0 0):=kX3.cell 1;have ff3:∀ i,w3.frozen? ⟨w.heap.size+1,i,none⟩=false:=kX3.frozen;have h3':=h3.other (b:=w.heap.size+1) 1 (.slice va vk vc) (by omega) f3X;have kX3':=kX3.set 1 (.slice va vk vc);have kB3':Blk (w3.setCell ⟨w.heap.size+1,1,none⟩ (.slice va vk vc)) w.heap.size #[.string ⟨#[]⟩,.slice none 0 0,.int .i64 0] 99:=kB3.other (by omega) _;have M3':=M3.new (b:=w.heap.size+1) (by omega) 1 (.slice va vk vc);go_wp2_with fail;refine (must_rx h3' _).mono ?_;rintro e w4 ⟨rfl,hw⟩;obtain rfl:=hw.symm;have kX4:=kX3';have kB4:=kB3';have M4:=M3';have X4:=X3;have h4:=h3';have f4B:=f3B;have d0:(w3.setCell ⟨w.heap.size+1,1,none⟩ (.slice va vk vc)).cell? ⟨w.heap.size+1,0,none⟩=some (.string (Lx.hd ts)):=kX4.cell 0;have d1:(w3.setCell ⟨w.heap.size+1,1,none⟩ (.slice va vk vc)).cell? ⟨w.heap.size+1,1,none⟩=some (.slice va vk vc):=kX4.cell 1;have d2:(w3.setCell ⟨w.heap.size+1,1,none⟩ (.slice va vk vc)).cell? ⟨w.heap.size+1,2,none⟩=some (.int .i64 (Lx.pl ts:Int)):=kX4.cell 2;have e0:(w3.setCell ⟨w.heap.size+1,1,none⟩ (.slice va vk vc)).cell? ⟨w.heap.size,0,none⟩=some (.string ⟨#[]⟩):=kB4.cell 0;have e1:(w3.setCell ⟨w.heap.size+1,1,none⟩ (.slice va vk vc)).cell? ⟨w.heap.size,1,none⟩=some (.slice none 0 0):=kB4.cell 1
    have e2:(w3.setCell ⟨w.heap.size+1,1,none⟩ (.slice va vk vc)).cell? ⟨w.heap.size,2,none⟩=some (.int .i64 0):=kB4.cell 2;have ff:∀ i,(w3.setCell ⟨w.heap.size+1,1,none⟩ (.slice va vk vc)).frozen? ⟨w.heap.size,i,none⟩=false:=kB4.frozen;go_wp2_with fail;refine bodyPost_ret (v:=.agg #[.string (Lx.hd ts),.slice va vk vc,.int .i64 (Lx.pl ts:Int)]) (by simp[results,Tryz.results78,go_sem,e0,e1,e2]) rfl ?_;exact REnds.no HE.out (((M4.new (Nat.le_refl _) _ _).new (Nat.le_refl _) _ _).new (Nat.le_refl _) _ _) X4 (((h4.other _ _ (by omega) f4B).other _ _ (by omega) f4B).other _ _ (by omega) f4B) ⟨_,_,_,_,_,rfl⟩
   | ok x =>
    obtain⟨l,ts3⟩:=x;obtain⟨v3,sg3,sl3,rfl,m3,x3,h3,hv⟩:=he.ok hr3;obtain⟨va,vk,vc,rfl⟩:=AltsIn.form hv;have HR3:Hid _:=hr3;clear hr3 he;have f3B:=x3.keep (b:=w.heap.size) kB2.lt f2B;have f3X:=x3.keep (b:=w.heap.size+1) kX2.lt f2X;have kB3:=kB2.mv m3 (by omega) f2B;have kX3:=kX2.mv m3 (by omega) f2X;have M3:=M2.trans X2 m3;have X3:=X2.trans M2.size x3;have l2:=kX2.lt;have c31:w3.cell? ⟨w.heap.size+1,1,none⟩=some (.slice none 0 0):=kX3.cell 1;have ff3:∀ i,w3.frozen? ⟨w.heap.size+1,i,none⟩=false:=kX3.frozen;have h3':=h3.other (b:=w.heap.size+1) 1 (.slice va vk vc) (by omega) f3X;have kX3':=kX3.set 1 (.slice va vk vc);have kB3':Blk (w3.setCell ⟨w.heap.size+1,1,none⟩ (.slice va vk vc)) w.heap.size #[.string ⟨#[]⟩,.slice none 0 0,.int .i64 0] 99:=kB3.other (by omega) _;have M3':=M3.new (b:=w.heap.size+1) (by omega) 1 (.slice va vk vc);go_wp2_with fail;refine (must_rr h3' Lx.tSemi (by decide) (by decide)).mono ?_;intro e w4 he;cases hr4:Lx.pMust Lx.tSemi ts3 with
    | error x =>
     obtain⟨n,a⟩:=x;obtain⟨v4,sg4,sl4,rfl,m4,x4,h4,rfl⟩:=he.err hr4;have HE:Hid (Lx.pRule ts=.error (n,a)):=by show _=_;unfold Lx.pRule;simp only[HR1.out,HR2.out,HR3.out,hr4]
     clear hr4 he;have f4B:=x4.keep (b:=w.heap.size) kB3'.lt f3B;have kB4:=kB3'.mv m4 (by omega) f3B;have kX4:=kX3'.mv m4 (by omega) f3X;have M4:=M3'.trans X3 m4;have X4:=X3.trans M3'.size x4;have d0:w4.cell? ⟨w.heap.size+1,0,none⟩=some (.string (Lx.hd ts)):=kX4.cell 0;have d1:w4.cell? ⟨w.heap.size+1,1,none⟩=some (.slice va vk vc):=kX4.cell 1;have d2:w4.cell? ⟨w.heap.size+1,2,none⟩=some (.int .i64 (Lx.pl ts:Int)):=kX4.cell 2;have e0:w4.cell? ⟨w.heap.size,0,none⟩=some (.string ⟨#[]⟩):=kB4.cell 0;have e1:w4.cell? ⟨w.heap.size,1,none⟩=some (.slice none 0 0):=kB4.cell 1;have e2:w4.cell? ⟨w.heap.size,2,none⟩=some (.int .i64 0):=kB4.cell 2;have ff:∀ i,w4.frozen? ⟨w.heap.size,i,none⟩=false:=kB4.frozen;go_wp2_with fail;refine bodyPost_ret (v:=.agg #[.string (Lx.hd ts),.slice va vk vc,.int .i64 (Lx.pl ts:Int)]) (by simp[results,Tryz.results78,go_sem,e0,e1,e2]) rfl ?_;exact REnds.no HE.out (((M4.new (Nat.le_refl _) _ _).new (Nat.le_refl _) _ _).new (Nat.le_refl _) _ _) X4 (((h4.other _ _ (by omega) f4B).other _ _ (by omega) f4B).other _ _ (by omega) f4B) ⟨_,_,_,_,_,rfl⟩
    | ok x =>
     obtain⟨u4,ts4⟩:=x;obtain⟨v4,sg4,sl4,rfl,m4,x4,h4,rfl⟩:=he.ok hr4;have HP:Hid (Lx.pRule ts=.ok (⟨Lx.hd ts,l,Lx.pl ts⟩,ts4)):=by show _=_;unfold Lx.pRule;simp only[HR1.out,HR2.out,HR3.out,hr4]
     clear hr4 he;have f4B:=x4.keep (b:=w.heap.size) kB3'.lt f3B;have kB4:=kB3'.mv m4 (by omega) f3B;have kX4:=kX3'.mv m4 (by omega) f3X;have M4:=M3'.trans X3 m4;have X4:=X3.trans M3'.size x4;have d0:w4.cell? ⟨w.heap.size+1,0,none⟩=some (.string (Lx.hd ts)):=kX4.cell 0;have d1:w4.cell? ⟨w.heap.size+1,1,none⟩=some (.slice va vk vc):=kX4.cell 1;have d2:w4.cell? ⟨w.heap.size+1,2,none⟩=some (.int .i64 (Lx.pl ts:Int)):=kX4.cell 2;have e0:w4.cell? ⟨w.heap.size,0,none⟩=some (.string ⟨#[]⟩):=kB4.cell 0;have e1:w4.cell? ⟨w.heap.size,1,none⟩=some (.slice none 0 0):=kB4.cell 1;have e2:w4.cell? ⟨w.heap.size,2,none⟩=some (.int .i64 0):=kB4.cell 2;have ff:∀ i,w4.frozen? ⟨w.heap.size,i,none⟩=false:=kB4.frozen;go_wp2_with fail;refine bodyPost_ret (v:=.agg #[.string (Lx.hd ts),.slice va vk vc,.int .i64 (Lx.pl ts:Int)]) (by simp[results,Tryz.results78,go_sem,e0,e1,e2]) rfl ?_;refine REnds.yes HP.out (((M4.new (Nat.le_refl _) _ _).new (Nat.le_refl _) _ _).new (Nat.le_refl _) _ _) X4 (((h4.other _ _ (by omega) f4B).other _ _ (by omega) f4B).other _ _ (by omega) f4B) ⟨_,rfl,?_⟩;have sS:(w3.setCell ⟨w.heap.size+1,1,none⟩ (.slice va vk vc)).heap.size=w3.heap.size:=by simp[World.setCell]
     have s4:=m4.size;refine AltsIn.move (fun b hb=>?_) (fun b hb=>⟨by have:=hb.1;omega,by have:=hb.2.1;simp[World.setCell];rw[sS]at s4;omega,x4.keep (by rw[sS];exact hb.2.1) hb.2.2⟩) hv;have hb1:=hb.1;have hbb:b≠w.heap.size:=by omega
     have hbc:b≠w.heap.size+1:=by omega
     rw[Below.heap_setCell _ _ _ _ hbb,Below.heap_setCell _ _ _ _ hbb,Below.heap_setCell _ _ _ _ hbb,m4.block b (by rw[sS];exact hb.2.1) (by omega) hb.2.2,Below.heap_setCell _ _ _ _ hbc]
end
end Go.Proofs.YtlcppnabbicmoaaGreatDoor

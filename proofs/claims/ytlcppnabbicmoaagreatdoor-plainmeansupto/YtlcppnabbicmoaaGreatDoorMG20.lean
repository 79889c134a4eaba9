import Derived.Test.YtlcppnabbicmoaaGreatDoorMG19
set_option maxHeartbeats 8000000
set_option maxRecDepth 1000000
namespace Go.Proofs.YtlcppnabbicmoaaGreatDoor
open Lx Go.Proofs.Tryz
open Go.RowKit Tr
section
open Go.RowKit
open Lx (Tk)
open Tr
theorem Tryz.info3:(prog.info? 3).map (fun i=>(i.zero,i.size,i.bytes))=some (some (.int .i64 0),1,8):=by kernel_rfl
theorem xq {w:World}{base e size:Nat}{v:Value}{n:Nat}{xs:List Value}(h:w.ownsRow base e size v n xs):∃ a c,v=.slice a n c:=by
 rcases h.2 with h0 | ⟨g,cap,cur,hv,_⟩
 ·exact⟨none,0,by rw[h0.1,h0.2]⟩
 ·exact⟨_,_,hv⟩
def LY (lo:Nat)(w:World)(aJ vT vA:Value)(acc:List Tk):Prop :=
 w.ownsRow lo 9 1 vT acc.length (acc.map fun t=>.string t.1)/\w.ownsRow lo 3 1 vA acc.length (acc.map fun t=>.int .i64 (t.2:Int)) /\
 (∀ g,vT.ownBlock=some g->vA.ownBlock≠some g)/\(∀ g,vT.ownBlock=some g->aJ.ownBlock≠some g)/\(∀ g,vA.ownBlock=some g->aJ.ownBlock≠some g)
def aje (lo:Nat)(aJ:Value)(w':World)(v:Value)(lv:Lx.Lv):Prop:=∃ vT vA,v=.agg #[.int .i64 (lv.kind:Int),vT,vA]/\LY lo w' aJ vT vA lv.tokens
def ajB (v:Value):Prop:=∃ k a l c a' l' c',v=.agg #[.int .i64 k,.slice a l c,.slice a' l' c']
def LC (ts aB acc:List Tk):Prop:=(acc=[]/\aB=ts.tail)\/(acc≠[]/\∃ f,aB.length<=f/\gZ ts=E8 (fM (Lx.hd ts)).toNat (iX f aB acc))
theorem LC.err {ts aB acc:List Tk}{e:Nat × Nat}(h:LC ts aB acc)(hne:0<aB.length)(hs:acc=[]\/¬ Lx.hd aB=iI)(he:dz Lx.isToken aB=.error e):gZ ts=.error e:=by
 rcases h with ⟨rfl,rfl⟩ | ⟨h0,f,hf,h⟩
 ·unfold gZ;rw[he]
 ·obtain⟨f',rfl⟩:∃ f',f=f'+1:=⟨f-1,by omega⟩
  rw[h,iX,if_neg (hs.resolve_left h0),he];rfl
theorem LC.ok {ts aB aC acc:List Tk}{b:ByteArray}(h:LC ts aB acc)(hne:0<aB.length)(hl:aC.length+1<=aB.length)(hs:acc=[]\/¬ Lx.hd aB=iI)(he:dz Lx.isToken aB=.ok (b,aC)):LC ts aC (acc++[(b,Lx.pl aB)]):=by
 refine .inr ⟨by simp,?_⟩;rcases h with ⟨rfl,rfl⟩ | ⟨h0,f,hf,h⟩
 ·exact⟨aC.length,lr0,KO he⟩
 ·obtain⟨f',rfl⟩:∃ f',f=f'+1:=⟨f-1,by omega⟩
  exact⟨f',by omega,by rw[h,iX,if_neg (hs.resolve_left h0),he]⟩
theorem LC.done {ts aB acc:List Tk}(h:LC ts aB acc)(hne:0<aB.length)(h0:acc≠[])(hs:Lx.hd aB=iI):gZ ts=.ok (⟨(fM (Lx.hd ts)).toNat,acc⟩,aB.tail):=by
 rcases h with ⟨h1,_⟩ | ⟨_,f,hf,h⟩
 ·exact absurd h1 h0
 ·obtain⟨f',rfl⟩:∃ f',f=f'+1:=⟨f-1,by omega⟩
  rw[h,iX,if_pos hs];rfl
theorem Pq (s:ByteArray) (q:Nat) (w:World) (ts:List Tk) (av:Value) (sg:List ByteArray) (kk:Nat) (h:RR s q w ts 0 av sg) (hk:Lx.known (Lx.hd ts)=true) (hn:Lx.hd ts≠aM) (hkk:kk=(fM (Lx.hd ts)).toNat) :
  Calls prog 77 #[.pointer (some ⟨q,0,none⟩),.int .i64 (kk:Int)] w (bM s q 0 (aje w.heap.size) ajB w av (gZ ts)):=by
 obtain⟨i0,hi,hz0,hz1,hz2⟩:=info_parts Tryz.info3;obtain⟨j0,hj,hy0,hy1,hy2⟩:=info_parts Tryz.yL;have hp:=h.lt;have hcnt:=h.cnt;have HK:Hid _:=hk;have wD:Hid _:=hn;have HKK:Hid _:=hkk;have amX:=h.wf.mJ;clear hk hn hkk;have h0:=(h.alloc (.cells #[.int .i64 0,.slice none 0 0,.slice none 0 0] 137)).alloc (.cells #[.int .i64 (kk:Int),.slice none 0 0,.slice none 0 0] 137);have kB0:=(aj.new w #[.int .i64 0,.slice none 0 0,.slice none 0 0] 137).alloc (.cells #[.int .i64 (kk:Int),.slice none 0 0,.slice none 0 0] 137);have xP:=aj.new (w.alloc (.cells #[.int .i64 0,.slice none 0 0,.slice none 0 0] 137)) #[.int .i64 (kk:Int),.slice none 0 0,.slice none 0 0] 137;rw[show (w.alloc (.cells #[.int .i64 0,.slice none 0 0,.slice none 0 0] 137)).heap.size=w.heap.size+1 by simp]at xP;have M0:=((Mv.refl q av w).alloc (.cells #[.int .i64 0,.slice none 0 0,.slice none 0 0] 137)).alloc (.cells #[.int .i64 (kk:Int),.slice none 0 0,.slice none 0 0] 137);have qQ:av.ownBlock≠some w.heap.size:=h.fresh (lr0);have FL:av.ownBlock≠some (w.heap.size+1):=h.fresh (by omega);go_enter func77,ntmps77;go_wp2_with fail;refine (oV h0 HK.out wD.out).mono ?_;rintro e w1 ⟨rfl,sg1,m1,x1,h1⟩;have bg:=x1.keep (b:=w.heap.size) kB0.lt qQ;have Dq:=x1.keep (b:=w.heap.size+1) xP.lt FL;have kB1:=kB0.mv m1 (by omega) qQ;have sj:=xP.mv m1 (by omega) FL;have M1:=M0.trans (Nx.refl _ _) m1;have X1:=(Nx.refl av w).trans M0.size x1;go_wp2_with fail
 go_loopg [] (ts.tail.length+1) (fun k wr=>(∃ (aB acc:List Tk) (vT vA bI:Value) (gI:List ByteArray),aB.length+1=k/\acc.length+aB.length<=ts.length/\RR s q wr aB 0 bI gI/\aj wr (w.heap.size+1) #[.int .i64 (kk:Int),vT,vA] 137/\aj wr w.heap.size #[.int .i64 0,.slice none 0 0,.slice none 0 0] 137/\bI.ownBlock≠some w.heap.size/\bI.ownBlock≠some (w.heap.size+1) /\
   LY (w.heap.size+2) wr bI vT vA acc/\Mv q av w wr/\Nx av w bI/\Hid (LC ts aB acc)) \/
  (∃ (n a:Nat) (bI:Value) (gI:List ByteArray) (tk:Nat) (ta:Option Addr) (tc:Nat) (aa:Option Addr) (ak ac:Nat),k=0/\RX s q wr 0 n a bI gI/\aj wr (w.heap.size+1) #[.int .i64 (kk:Int),.slice ta (tk+1) tc,.slice aa ak ac] 137/\aj wr w.heap.size #[.int .i64 0,.slice none 0 0,.slice none 0 0] 137/\bI.ownBlock≠some w.heap.size /\
   Mv q av w wr/\Nx av w bI/\Hid (gZ ts=.error (n,a))))
 case atStart=>exact .inl ⟨ts.tail,[],_,_,sg1,_,rfl,by simp,h1,sj,kB1,bg,Dq,⟨World.ownsRow_nil _ _ _ _,World.ownsRow_nil _ _ _ _,fun g hg=>by simp[Value.ownBlock]at hg,fun g hg=>by simp[Value.ownBlock]at hg,fun g hg=>by simp[Value.ownBlock]at hg⟩,M1,X1,.inl ⟨rfl,rfl⟩⟩
 case round =>
  clear h1 kB1 sj M1 X1 bg Dq m1 x1 h0 kB0 xP M0 qQ FL;rcases hrel with ⟨aB,acc,vT,vA,bI,gI,hk,hacc,hr,kX,kB,fB,fX,hrows,M,X,hlc⟩ | ⟨n,a,bI,gI,tk,ta,tc,aa,ak,ac,hk,hx,kX,kB,fB,M,X,HE⟩
  ·obtain⟨oT,oA,Jg,sT,sA⟩:=hrows
   obtain⟨ta,tc,rfl⟩:=xq oT;obtain⟨aa,ac,rfl⟩:=xq oA;have hne:=hr.wf.ne;have htl:=hr.wf.mJ;have szr:=M.size;have lX:=kX.lt;have oAD:=aD (w':=(wr.alloc (.cells #[.int .i64 (Lx.pl aB:Int)] 3)).drew) (oA.alloc (.cells #[.int .i64 (Lx.pl aB:Int)] 3)) fun _ _=>rfl
   have c1:wr.cell? ⟨q,1,none⟩=some (.int .i64 (Lx.pl aB:Int)):=hr.blk.cell 1;have c2:wr.cell? ⟨q,2,none⟩=some (.string (fJ (Lx.hd aB))):=hr.blk.cell 2;have c4:wr.cell? ⟨q,4,none⟩=some (.int .i64 0):=hr.blk.cell 4;have x1:wr.cell? ⟨w.heap.size+1,1,none⟩=some (.slice ta acc.length tc):=kX.cell 1;have x2:wr.cell? ⟨w.heap.size+1,2,none⟩=some (.slice aa acc.length ac):=kX.cell 2
   by_cases ha:acc=[]
   ·have hl0:((acc.length:Int) == 0)=true:=by rw[ha];rfl
    have wE:Hid (acc=[]\/¬ Lx.hd aB=iI):=.inl ha;clear ha;go_wp2_with fail
    go_region_law (first
     | (refine step_append_lies _ rfl (.tmp 30) (.tmp 35) 24 rfl (w.heap.size+2) 3 i0 _ 1 8 underlying24 hi hz0 hz1 hz2 rfl (by decide) (.slice aa acc.length ac) acc.length (acc.map fun t=>.int .i64 (t.2:Int)) (by simp[Act.eval]) oAD ⟨wr.heap.size,0,none⟩ 1 1 [.int .i64 (Lx.pl aB:Int)] (by simp[Act.eval]) rfl (bP (aj.new wr _ 3).drew) (by simp[Value.oneCell']) (by decide) (by unfold maxLen;omega) (by omega) (by simp;omega) _ rfl ?_;intro g2 cap2 w2 Io hgrow2 xG hlt2;have qV:=((kX.alloc _).drew).grown hgrow2 (fun e=>by have:=(oA.lt _ e.symm).1;omega);have FJ:w2.cell? ⟨w.heap.size+1,2,none⟩=some (.slice aa acc.length ac):=qV.cell 2;have f22:∀ i,w2.frozen? ⟨w.heap.size+1,i,none⟩=false:=qV.frozen))
    all_goals
     have kB2:=(kB.alloc (.cells #[.int .i64 (Lx.pl aB:Int)] 3)).drew.grown hgrow2 (fun e=>by have:=(oA.lt _ e.symm).1;omega);have M2:=(M.alloc (.cells #[.int .i64 (Lx.pl aB:Int)] 3)).drew.grown hgrow2 (fun k hk=>.inl (by have:=(oA.lt _ hk).1;omega));have s2:wr.heap.size+1<=w2.heap.size:=by have:=hgrow2.size;simpa using this
     have h2:=(hr.alloc (.cells #[.int .i64 (Lx.pl aB:Int)] 3)).drew.move (hgrow2.block q (by simp;omega) (fun e=>by have:=(oA.lt _ e.symm).1;omega)) (fun g hg=>hgrow2.block g (by have:=hr.eD g hg;simp;omega) (fun e=>sA g e.symm hg));have h2':=h2.other (b:=w.heap.size+1) 2 (Value.slice (some ⟨g2,0,none⟩) (acc.length+1) cap2) (by omega) fX;have yQ:=qV.set 2 (Value.slice (some ⟨g2,0,none⟩) (acc.length+1) cap2);have sW:aj (w2.setCell ⟨w.heap.size+1,2,none⟩ (Value.slice (some ⟨g2,0,none⟩) (acc.length+1) cap2)) w.heap.size #[.int .i64 0,.slice none 0 0,.slice none 0 0] 137:=kB2.other (by omega) _;have zu:=M2.new (b:=w.heap.size+1) (by omega) 2 (Value.slice (some ⟨g2,0,none⟩) (acc.length+1) cap2);have pO:=aD (w':=w2.setCell ⟨w.heap.size+1,2,none⟩ (Value.slice (some ⟨g2,0,none⟩) (acc.length+1) cap2)) Io (fun g hg=>hs0 (fun e=>by have:=(Io.lt g hg).1;have e':g=w.heap.size+1:=e;omega));have pQ:=aD (w':=w2.setCell ⟨w.heap.size+1,2,none⟩ (Value.slice (some ⟨g2,0,none⟩) (acc.length+1) cap2)) oT (fun g hg=>by
      have:=oT.lt g hg;have hgx:g≠w.heap.size+1:=by omega
      rw[hs0 hgx,hgrow2.block g (by simp;omega) (fun e=>Jg g hg e.symm)];exact Below.heap_alloc _ _ _ this.2)
     have zw:∀ g,(Value.slice (some ⟨g2,0,none⟩) (acc.length+1) cap2).ownBlock=some g->bI.ownBlock≠some g:=fun g hg e=>by
      have e':g2=g:=by simpa [Value.ownBlock]using hg
      rcases xG with h1 | h1
      ·exact sA g (by rw[h1,e']) e
      ·have:=hr.eD g e;simp at h1;omega
     have Ip:∀ g,(Value.slice ta acc.length tc).ownBlock=some g->g2≠g:=fun g hg e=>by
      rcases xG with h1 | h1
      ·exact Jg g hg (by rw[h1,e])
      ·have:=(oT.lt g hg).2;simp at h1;omega
     go_wp2_with fail;refine (Pm h2').mono ?_;intro e w3 he;cases hpw:dz Lx.isToken aB with
     | error x =>
      obtain⟨n,a⟩:=x;obtain⟨v3,lI,qU,rfl,m3,x3,h3,rfl⟩:=he.err hpw;have HE:Hid (gZ ts=.error (n,a)):=hlc.out.err hne wE.out hpw;clear hpw he;have x23:=x3;have jM:=yQ.mv m3 (by omega) fX;have kB3:=sW.mv m3 (by omega) fB;have pK:=x3.keep (b:=w.heap.size+1) yQ.lt fX;have lJ:=x3.keep (b:=w.heap.size) sW.lt fB;have M3:=zu.trans X m3;have X3:=X.trans zu.size x3;have l6:=aD pQ (fun g hg=>m3.block g (pQ.lt g hg).2 (fun e=>by have:=(pQ.lt g hg).1;omega) (sT g hg));have zx:=aD pO (fun g hg=>m3.block g (pO.lt g hg).2 (fun e=>by have:=(pO.lt g hg).1;omega) (zw g hg));have wF:∀ g,(Value.slice ta acc.length tc).ownBlock=some g->lI.ownBlock≠some g:=fun g hg=>x3.keep (pQ.lt g hg).2 (sT g hg)
      have Jh:∀ g,(Value.slice (some ⟨g2,0,none⟩) (acc.length+1) cap2).ownBlock=some g->lI.ownBlock≠some g:=fun g hg=>x3.keep (pO.lt g hg).2 (zw g hg)
      have c31:w3.cell? ⟨w.heap.size+1,1,none⟩=some (.slice ta acc.length tc):=jM.cell 1;have Ta:=jM.lt
      go_wp2_with (first
       | (at_builtin;refine wpList_append_lies _ rfl _ _ 22 rfl (w.heap.size+2) 9 j0 _ 1 16 underlying22 hj hy0 hy1 hy2 rfl (by decide) (.slice ta acc.length tc) acc.length (acc.map fun t=>.string t.1) rfl (l6.alloc _) ⟨w3.heap.size,0,none⟩ 1 1 [.string ⟨#[]⟩] rfl rfl (bP (aj.new w3 _ 9)) (by simp[Value.oneCell']) (by decide) (by unfold maxLen;omega) (by omega) (by simp;omega) _ rfl ?_;intro g4 cap4 w4 Dt bX nE xE;have gW:=(jM.alloc _).grown bX (fun e=>by have:=(l6.lt _ e.symm).1;omega);have FM:w4.cell? ⟨w.heap.size+1,1,none⟩=some (.slice ta acc.length tc):=gW.cell 1;have f41:∀ i,w4.frozen? ⟨w.heap.size+1,i,none⟩=false:=gW.frozen))
      have bC:=(kB3.alloc (.cells #[.string ⟨#[]⟩] 9)).grown bX (fun e=>by have:=(l6.lt _ e.symm).1;omega);have M4:=(M3.alloc (.cells #[.string ⟨#[]⟩] 9)).grown bX (fun k hk=>.inl (by have:=(l6.lt _ hk).1;omega));have Tc:w3.heap.size+1<=w4.heap.size:=by have:=bX.size;simpa using this
      have h4:=(h3.alloc (.cells #[.string ⟨#[]⟩] 9)).move (bX.block q (by simp;omega) (fun e=>by have:=(l6.lt _ e.symm).1;omega)) (fun g hg=>bX.block g (by have:=h3.eD g hg;simp;omega) (fun e=>wF g e.symm hg));have h4':=h4.other (b:=w.heap.size+1) 1 (.slice (some ⟨g4,0,none⟩) (acc.length+1) cap4) (by omega) pK;have CO:=gW.set 1 (.slice (some ⟨g4,0,none⟩) (acc.length+1) cap4);have CP:aj (w4.setCell ⟨w.heap.size+1,1,none⟩ (.slice (some ⟨g4,0,none⟩) (acc.length+1) cap4)) w.heap.size #[.int .i64 0,.slice none 0 0,.slice none 0 0] 137:=bC.other (by omega) _;have Du:=M4.new (b:=w.heap.size+1) (by omega) 1 (.slice (some ⟨g4,0,none⟩) (acc.length+1) cap4);go_roundg 0
      case measure=>omega
      case rel=>exact .inr ⟨n,a,lI,qU,acc.length,_,_,_,_,_,rfl,h4',CO,CP,lJ,Du,X3,HE⟩
     | ok x =>
      obtain⟨b,fu⟩:=x;obtain⟨v3,lI,qU,rfl,m3,x3,h3,rfl⟩:=he.ok hpw;have hl3:fu.length+1=aB.length:=by rw[(mY hpw).1];exact htl
      have Td:Hid (LC ts fu (acc++[(b,Lx.pl aB)])):=hlc.out.ok hne (by omega) wE.out hpw;clear hpw he;have x23:=x3;have jM:=yQ.mv m3 (by omega) fX;have kB3:=sW.mv m3 (by omega) fB;have pK:=x3.keep (b:=w.heap.size+1) yQ.lt fX;have lJ:=x3.keep (b:=w.heap.size) sW.lt fB;have M3:=zu.trans X m3;have X3:=X.trans zu.size x3;have l6:=aD pQ (fun g hg=>m3.block g (pQ.lt g hg).2 (fun e=>by have:=(pQ.lt g hg).1;omega) (sT g hg));have zx:=aD pO (fun g hg=>m3.block g (pO.lt g hg).2 (fun e=>by have:=(pO.lt g hg).1;omega) (zw g hg));have wF:∀ g,(Value.slice ta acc.length tc).ownBlock=some g->lI.ownBlock≠some g:=fun g hg=>x3.keep (pQ.lt g hg).2 (sT g hg)
      have Jh:∀ g,(Value.slice (some ⟨g2,0,none⟩) (acc.length+1) cap2).ownBlock=some g->lI.ownBlock≠some g:=fun g hg=>x3.keep (pO.lt g hg).2 (zw g hg)
      have c31:w3.cell? ⟨w.heap.size+1,1,none⟩=some (.slice ta acc.length tc):=jM.cell 1;have Ta:=jM.lt
      go_wp2_with (first
       | (at_builtin;refine wpList_append_lies _ rfl _ _ 22 rfl (w.heap.size+2) 9 j0 _ 1 16 underlying22 hj hy0 hy1 hy2 rfl (by decide) (.slice ta acc.length tc) acc.length (acc.map fun t=>.string t.1) rfl (l6.alloc _) ⟨w3.heap.size,0,none⟩ 1 1 [.string b] rfl rfl (bP (aj.new w3 _ 9)) (by simp[Value.oneCell']) (by decide) (by unfold maxLen;omega) (by omega) (by simp;omega) _ rfl ?_;intro g4 cap4 w4 Dt bX nE xE;have gW:=(jM.alloc _).grown bX (fun e=>by have:=(l6.lt _ e.symm).1;omega);have FM:w4.cell? ⟨w.heap.size+1,1,none⟩=some (.slice ta acc.length tc):=gW.cell 1;have f41:∀ i,w4.frozen? ⟨w.heap.size+1,i,none⟩=false:=gW.frozen))
      have bC:=(kB3.alloc (.cells #[.string b] 9)).grown bX (fun e=>by have:=(l6.lt _ e.symm).1;omega);have M4:=(M3.alloc (.cells #[.string b] 9)).grown bX (fun k hk=>.inl (by have:=(l6.lt _ hk).1;omega));have Tc:w3.heap.size+1<=w4.heap.size:=by have:=bX.size;simpa using this
      have h4:=(h3.alloc (.cells #[.string b] 9)).move (bX.block q (by simp;omega) (fun e=>by have:=(l6.lt _ e.symm).1;omega)) (fun g hg=>bX.block g (by have:=h3.eD g hg;simp;omega) (fun e=>wF g e.symm hg));have h4':=h4.other (b:=w.heap.size+1) 1 (.slice (some ⟨g4,0,none⟩) (acc.length+1) cap4) (by omega) pK;have CO:=gW.set 1 (.slice (some ⟨g4,0,none⟩) (acc.length+1) cap4);have CP:aj (w4.setCell ⟨w.heap.size+1,1,none⟩ (.slice (some ⟨g4,0,none⟩) (acc.length+1) cap4)) w.heap.size #[.int .i64 0,.slice none 0 0,.slice none 0 0] 137:=bC.other (by omega) _;have Du:=M4.new (b:=w.heap.size+1) (by omega) 1 (.slice (some ⟨g4,0,none⟩) (acc.length+1) cap4);go_roundg (fu.length+1)
      case measure=>omega
      case rel =>
       refine .inl ⟨fu,acc++[(b,Lx.pl aB)],_,_,lI,qU,rfl,by simp;omega,h4',CO,CP,lJ,pK,⟨?_,?_,?_,?_,?_⟩,Du,X3,Td⟩
       ·rw[List.map_append,List.length_append]
        exact aD Dt (fun g hg=>hs0 (fun e=>by have:=(Dt.lt g hg).1;have e':g=w.heap.size+1:=e;omega))
       ·rw[List.map_append,List.length_append]
        refine aD zx (fun g hg=>?_);have hg2:g2=g:=by simpa [Value.ownBlock]using hg
        have:=zx.lt g hg;have hgx:g≠w.heap.size+1:=by omega
        rw[hs0 hgx,bX.block g (by simp;omega) (fun e=>Ip g e.symm hg2)];exact Below.heap_alloc _ _ _ this.2
       ·intro g hg e
        have e4:g4=g:=by simpa [Value.ownBlock]using hg
        have e2:g2=g:=by simpa [Value.ownBlock]using e
        rcases nE with h1 | h1
        ·exact Ip g (by rw[h1,e4]) e2
        ·have:=(zx.lt g2 rfl).2;simp at h1;omega
       ·intro g hg e
        have e4:g4=g:=by simpa [Value.ownBlock]using hg
        rcases nE with h1 | h1
        ·exact wF g (by rw[h1,e4]) e
        ·have:=h3.eD g e;simp at h1;omega
       ·exact Jh
   ·have hl0:((acc.length:Int) == 0)=false:=beq_eq_false_iff_ne.2 (by have:=List.length_pos_iff.2 ha;omega)
    have HA:Hid (acc≠[]):=ha;clear ha
    by_cases hs:Lx.hd aB=iI
    ·have t59:((fJ (Lx.hd aB)).toList == [59])=true:=by rw[hs,nO (by decide),ByteArray.toList_eq];rfl
     have HP:Hid (gZ ts=.ok (⟨kk,acc⟩,aB.tail)):=by show _=_;rw[HKK.out];exact hlc.out.done hne HA.out hs
     have HM:Hid (gU iI aB=.ok ((),aB.tail)):=if_pos hs;clear hs;go_wp2_with fail;refine (Lm hr iI (by decide) (by decide)).mono ?_;intro e w9 he;obtain⟨v9,sg9,sl9,rfl,m9,x9,h9,rfl⟩:=he.ok HM.out;clear he;have Dv:=x9.keep (b:=w.heap.size) kB.lt fB;have jN:=kB.mv m9 (by omega) fB;have Dw:=kX.mv m9 (by omega) fX;have M9:=M.trans X m9;have X9:=X.trans M.size x9;have e0:w9.cell? ⟨w.heap.size,0,none⟩=some (.int .i64 0):=jN.cell 0;have e1:w9.cell? ⟨w.heap.size,1,none⟩=some (.slice none 0 0):=jN.cell 1;have e2:w9.cell? ⟨w.heap.size,2,none⟩=some (.slice none 0 0):=jN.cell 2;have d0:w9.cell? ⟨w.heap.size+1,0,none⟩=some (.int .i64 (kk:Int)):=Dw.cell 0;have d1:w9.cell? ⟨w.heap.size+1,1,none⟩=some (.slice ta acc.length tc):=Dw.cell 1;have d2:w9.cell? ⟨w.heap.size+1,2,none⟩=some (.slice aa acc.length ac):=Dw.cell 2;have ff:∀ i,w9.frozen? ⟨w.heap.size,i,none⟩=false:=jN.frozen;go_wp2_with fail;refine bodyPost_ret (v:=.agg #[.int .i64 (kk:Int),(.slice ta acc.length tc),(.slice aa acc.length ac)]) (by simp[results,results77,go_sem,e0,e1,e2]) rfl ?_;refine bM.yes HP.out (((M9.new (lr0) _ _).new (lr0) _ _).new (lr0) _ _) X9 (((h9.other _ _ (by omega) Dv).other _ _ (by omega) Dv).other _ _ (by omega) Dv) ⟨_,_,rfl,?_,?_,Jg,fun g hg=>x9.keep (oT.lt g hg).2 (sT g hg),fun g hg=>x9.keep (oA.lt g hg).2 (sA g hg)⟩
     ·refine dO (aD oT (fun g hg=>?_)) (by omega:w.heap.size<=w.heap.size+2)
      have:=oT.lt g hg;have hgx:g≠w.heap.size:=by omega
      rw[hs0 hgx,hs0 hgx,hs0 hgx,m9.block g this.2 (by omega) (sT g hg)]
     ·refine dO (aD oA (fun g hg=>?_)) (by omega:w.heap.size<=w.heap.size+2)
      have:=oA.lt g hg;have hgx:g≠w.heap.size:=by omega
      rw[hs0 hgx,hs0 hgx,hs0 hgx,m9.block g this.2 (by omega) (sA g hg)]
    ·have t59:((fJ (Lx.hd aB)).toList == [59])=false:=by
      refine lU (l:=[59]) ?_;exact fun e=>hs ((sJ (b:=iI) (by decide) (by decide)).1 e)
     have wE:Hid (acc=[]\/¬ Lx.hd aB=iI):=.inr hs;clear hs;go_wp2_with fail
     go_region_law (first
      | (refine step_append_lies _ rfl (.tmp 30) (.tmp 35) 24 rfl (w.heap.size+2) 3 i0 _ 1 8 underlying24 hi hz0 hz1 hz2 rfl (by decide) (.slice aa acc.length ac) acc.length (acc.map fun t=>.int .i64 (t.2:Int)) (by simp[Act.eval]) oAD ⟨wr.heap.size,0,none⟩ 1 1 [.int .i64 (Lx.pl aB:Int)] (by simp[Act.eval]) rfl (bP (aj.new wr _ 3).drew) (by simp[Value.oneCell']) (by decide) (by unfold maxLen;omega) (by omega) (by simp;omega) _ rfl ?_;intro g2 cap2 w2 Io hgrow2 xG hlt2;have qV:=((kX.alloc _).drew).grown hgrow2 (fun e=>by have:=(oA.lt _ e.symm).1;omega);have FJ:w2.cell? ⟨w.heap.size+1,2,none⟩=some (.slice aa acc.length ac):=qV.cell 2;have f22:∀ i,w2.frozen? ⟨w.heap.size+1,i,none⟩=false:=qV.frozen))
     all_goals
      have kB2:=(kB.alloc (.cells #[.int .i64 (Lx.pl aB:Int)] 3)).drew.grown hgrow2 (fun e=>by have:=(oA.lt _ e.symm).1;omega);have M2:=(M.alloc (.cells #[.int .i64 (Lx.pl aB:Int)] 3)).drew.grown hgrow2 (fun k hk=>.inl (by have:=(oA.lt _ hk).1;omega));have s2:wr.heap.size+1<=w2.heap.size:=by have:=hgrow2.size;simpa using this
      have h2:=(hr.alloc (.cells #[.int .i64 (Lx.pl aB:Int)] 3)).drew.move (hgrow2.block q (by simp;omega) (fun e=>by have:=(oA.lt _ e.symm).1;omega)) (fun g hg=>hgrow2.block g (by have:=hr.eD g hg;simp;omega) (fun e=>sA g e.symm hg));have h2':=h2.other (b:=w.heap.size+1) 2 (Value.slice (some ⟨g2,0,none⟩) (acc.length+1) cap2) (by omega) fX;have yQ:=qV.set 2 (Value.slice (some ⟨g2,0,none⟩) (acc.length+1) cap2);have sW:aj (w2.setCell ⟨w.heap.size+1,2,none⟩ (Value.slice (some ⟨g2,0,none⟩) (acc.length+1) cap2)) w.heap.size #[.int .i64 0,.slice none 0 0,.slice none 0 0] 137:=kB2.other (by omega) _;have zu:=M2.new (b:=w.heap.size+1) (by omega) 2 (Value.slice (some ⟨g2,0,none⟩) (acc.length+1) cap2);have pO:=aD (w':=w2.setCell ⟨w.heap.size+1,2,none⟩ (Value.slice (some ⟨g2,0,none⟩) (acc.length+1) cap2)) Io (fun g hg=>hs0 (fun e=>by have:=(Io.lt g hg).1;have e':g=w.heap.size+1:=e;omega));have pQ:=aD (w':=w2.setCell ⟨w.heap.size+1,2,none⟩ (Value.slice (some ⟨g2,0,none⟩) (acc.length+1) cap2)) oT (fun g hg=>by
       have:=oT.lt g hg;have hgx:g≠w.heap.size+1:=by omega
       rw[hs0 hgx,hgrow2.block g (by simp;omega) (fun e=>Jg g hg e.symm)];exact Below.heap_alloc _ _ _ this.2)
      have zw:∀ g,(Value.slice (some ⟨g2,0,none⟩) (acc.length+1) cap2).ownBlock=some g->bI.ownBlock≠some g:=fun g hg e=>by
       have e':g2=g:=by simpa [Value.ownBlock]using hg
       rcases xG with h1 | h1
       ·exact sA g (by rw[h1,e']) e
       ·have:=hr.eD g e;simp at h1;omega
      have Ip:∀ g,(Value.slice ta acc.length tc).ownBlock=some g->g2≠g:=fun g hg e=>by
       rcases xG with h1 | h1
       ·exact Jg g hg (by rw[h1,e])
       ·have:=(oT.lt g hg).2;simp at h1;omega
      go_wp2_with fail;refine (Pm h2').mono ?_;intro e w3 he;cases hpw:dz Lx.isToken aB with
      | error x =>
       obtain⟨n,a⟩:=x;obtain⟨v3,lI,qU,rfl,m3,x3,h3,rfl⟩:=he.err hpw;have HE:Hid (gZ ts=.error (n,a)):=hlc.out.err hne wE.out hpw;clear hpw he;have x23:=x3;have jM:=yQ.mv m3 (by omega) fX;have kB3:=sW.mv m3 (by omega) fB;have pK:=x3.keep (b:=w.heap.size+1) yQ.lt fX;have lJ:=x3.keep (b:=w.heap.size) sW.lt fB;have M3:=zu.trans X m3;have X3:=X.trans zu.size x3;have l6:=aD pQ (fun g hg=>m3.block g (pQ.lt g hg).2 (fun e=>by have:=(pQ.lt g hg).1;omega) (sT g hg));have zx:=aD pO (fun g hg=>m3.block g (pO.lt g hg).2 (fun e=>by have:=(pO.lt g hg).1;omega) (zw g hg));have wF:∀ g,(Value.slice ta acc.length tc).ownBlock=some g->lI.ownBlock≠some g:=fun g hg=>x3.keep (pQ.lt g hg).2 (sT g hg)
       have Jh:∀ g,(Value.slice (some ⟨g2,0,none⟩) (acc.length+1) cap2).ownBlock=some g->lI.ownBlock≠some g:=fun g hg=>x3.keep (pO.lt g hg).2 (zw g hg)
       have c31:w3.cell? ⟨w.heap.size+1,1,none⟩=some (.slice ta acc.length tc):=jM.cell 1;have Ta:=jM.lt
       go_wp2_with (first
        | (at_builtin;refine wpList_append_lies _ rfl _ _ 22 rfl (w.heap.size+2) 9 j0 _ 1 16 underlying22 hj hy0 hy1 hy2 rfl (by decide) (.slice ta acc.length tc) acc.length (acc.map fun t=>.string t.1) rfl (l6.alloc _) ⟨w3.heap.size,0,none⟩ 1 1 [.string ⟨#[]⟩] rfl rfl (bP (aj.new w3 _ 9)) (by simp[Value.oneCell']) (by decide) (by unfold maxLen;omega) (by omega) (by simp;omega) _ rfl ?_;intro g4 cap4 w4 Dt bX nE xE;have gW:=(jM.alloc _).grown bX (fun e=>by have:=(l6.lt _ e.symm).1;omega);have FM:w4.cell? ⟨w.heap.size+1,1,none⟩=some (.slice ta acc.length tc):=gW.cell 1;have f41:∀ i,w4.frozen? ⟨w.heap.size+1,i,none⟩=false:=gW.frozen))
       have bC:=(kB3.alloc (.cells #[.string ⟨#[]⟩] 9)).grown bX (fun e=>by have:=(l6.lt _ e.symm).1;omega);have M4:=(M3.alloc (.cells #[.string ⟨#[]⟩] 9)).grown bX (fun k hk=>.inl (by have:=(l6.lt _ hk).1;omega));have Tc:w3.heap.size+1<=w4.heap.size:=by have:=bX.size;simpa using this
       have h4:=(h3.alloc (.cells #[.string ⟨#[]⟩] 9)).move (bX.block q (by simp;omega) (fun e=>by have:=(l6.lt _ e.symm).1;omega)) (fun g hg=>bX.block g (by have:=h3.eD g hg;simp;omega) (fun e=>wF g e.symm hg));have h4':=h4.other (b:=w.heap.size+1) 1 (.slice (some ⟨g4,0,none⟩) (acc.length+1) cap4) (by omega) pK;have CO:=gW.set 1 (.slice (some ⟨g4,0,none⟩) (acc.length+1) cap4);have CP:aj (w4.setCell ⟨w.heap.size+1,1,none⟩ (.slice (some ⟨g4,0,none⟩) (acc.length+1) cap4)) w.heap.size #[.int .i64 0,.slice none 0 0,.slice none 0 0] 137:=bC.other (by omega) _;have Du:=M4.new (b:=w.heap.size+1) (by omega) 1 (.slice (some ⟨g4,0,none⟩) (acc.length+1) cap4);go_roundg 0
       case measure=>omega
       case rel=>exact .inr ⟨n,a,lI,qU,acc.length,_,_,_,_,_,rfl,h4',CO,CP,lJ,Du,X3,HE⟩
      | ok x =>
       obtain⟨b,fu⟩:=x;obtain⟨v3,lI,qU,rfl,m3,x3,h3,rfl⟩:=he.ok hpw;have hl3:fu.length+1=aB.length:=by rw[(mY hpw).1];exact htl
       have Td:Hid (LC ts fu (acc++[(b,Lx.pl aB)])):=hlc.out.ok hne (by omega) wE.out hpw;clear hpw he;have x23:=x3;have jM:=yQ.mv m3 (by omega) fX;have kB3:=sW.mv m3 (by omega) fB;have pK:=x3.keep (b:=w.heap.size+1) yQ.lt fX;have lJ:=x3.keep (b:=w.heap.size) sW.lt fB;have M3:=zu.trans X m3;have X3:=X.trans zu.size x3;have l6:=aD pQ (fun g hg=>m3.block g (pQ.lt g hg).2 (fun e=>by have:=(pQ.lt g hg).1;omega) (sT g hg));have zx:=aD pO (fun g hg=>m3.block g (pO.lt g hg).2 (fun e=>by have:=(pO.lt g hg).1;omega) (zw g hg));have wF:∀ g,(Value.slice ta acc.length tc).ownBlock=some g->lI.ownBlock≠some g:=fun g hg=>x3.keep (pQ.lt g hg).2 (sT g hg)
       have Jh:∀ g,(Value.slice (some ⟨g2,0,none⟩) (acc.length+1) cap2).ownBlock=some g->lI.ownBlock≠some g:=fun g hg=>x3.keep (pO.lt g hg).2 (zw g hg)
       have c31:w3.cell? ⟨w.heap.size+1,1,none⟩=some (.slice ta acc.length tc):=jM.cell 1;have Ta:=jM.lt
       go_wp2_with (first
        | (at_builtin;refine wpList_append_lies _ rfl _ _ 22 rfl (w.heap.size+2) 9 j0 _ 1 16 underlying22 hj hy0 hy1 hy2 rfl (by decide) (.slice ta acc.length tc) acc.length (acc.map fun t=>.string t.1) rfl (l6.alloc _) ⟨w3.heap.size,0,none⟩ 1 1 [.string b] rfl rfl (bP (aj.new w3 _ 9)) (by simp[Value.oneCell']) (by decide) (by unfold maxLen;omega) (by omega) (by simp;omega) _ rfl ?_;intro g4 cap4 w4 Dt bX nE xE;have gW:=(jM.alloc _).grown bX (fun e=>by have:=(l6.lt _ e.symm).1;omega);have FM:w4.cell? ⟨w.heap.size+1,1,none⟩=some (.slice ta acc.length tc):=gW.cell 1;have f41:∀ i,w4.frozen? ⟨w.heap.size+1,i,none⟩=false:=gW.frozen))
       have bC:=(kB3.alloc (.cells #[.string b] 9)).grown bX (fun e=>by have:=(l6.lt _ e.symm).1;omega);have M4:=(M3.alloc (.cells #[.string b] 9)).grown bX (fun k hk=>.inl (by have:=(l6.lt _ hk).1;omega));have Tc:w3.heap.size+1<=w4.heap.size:=by have:=bX.size;simpa using this
       have h4:=(h3.alloc (.cells #[.string b] 9)).move (bX.block q (by simp;omega) (fun e=>by have:=(l6.lt _ e.symm).1;omega)) (fun g hg=>bX.block g (by have:=h3.eD g hg;simp;omega) (fun e=>wF g e.symm hg));have h4':=h4.other (b:=w.heap.size+1) 1 (.slice (some ⟨g4,0,none⟩) (acc.length+1) cap4) (by omega) pK;have CO:=gW.set 1 (.slice (some ⟨g4,0,none⟩) (acc.length+1) cap4);have CP:aj (w4.setCell ⟨w.heap.size+1,1,none⟩ (.slice (some ⟨g4,0,none⟩) (acc.length+1) cap4)) w.heap.size #[.int .i64 0,.slice none 0 0,.slice none 0 0] 137:=bC.other (by omega) _;have Du:=M4.new (b:=w.heap.size+1) (by omega) 1 (.slice (some ⟨g4,0,none⟩) (acc.length+1) cap4);go_roundg (fu.length+1)
       case measure=>omega
       case rel =>
        refine .inl ⟨fu,acc++[(b,Lx.pl aB)],_,_,lI,qU,rfl,by simp;omega,h4',CO,CP,lJ,pK,⟨?_,?_,?_,?_,?_⟩,Du,X3,Td⟩
        ·rw[List.map_append,List.length_append]
         exact aD Dt (fun g hg=>hs0 (fun e=>by have:=(Dt.lt g hg).1;have e':g=w.heap.size+1:=e;omega))
        ·rw[List.map_append,List.length_append]
         refine aD zx (fun g hg=>?_);have hg2:g2=g:=by simpa [Value.ownBlock]using hg
         have:=zx.lt g hg;have hgx:g≠w.heap.size+1:=by omega
         rw[hs0 hgx,bX.block g (by simp;omega) (fun e=>Ip g e.symm hg2)];exact Below.heap_alloc _ _ _ this.2
        ·intro g hg e
         have e4:g4=g:=by simpa [Value.ownBlock]using hg
         have e2:g2=g:=by simpa [Value.ownBlock]using e
         rcases nE with h1 | h1
         ·exact Ip g (by rw[h1,e4]) e2
         ·have:=(zx.lt g2 rfl).2;simp at h1;omega
        ·intro g hg e
         have e4:g4=g:=by simpa [Value.ownBlock]using hg
         rcases nE with h1 | h1
         ·exact wF g (by rw[h1,e4]) e
         ·have:=h3.eD g e;simp at h1;omega
        ·exact Jh
  ·have hn0:((n:Int) == 0)=false:=beq_eq_false_iff_ne.2 (by have:=hx.pos;omega)
   have hl0:(((tk+1:Nat):Int) == 0)=false:=bq0 (by omega);have hl0':(((tk:Int)+1) == 0)=false:=bq0 (by omega);obtain⟨ii,WW,rZ⟩:=hx.blk;have c4:wr.cell? ⟨q,4,none⟩=some (.int .i64 (n:Int)):=rZ.cell 4;have x1:wr.cell? ⟨w.heap.size+1,1,none⟩=some (.slice ta (tk+1) tc):=kX.cell 1;go_wp2_with fail;refine (Lp hx _).mono ?_;rintro e w9 ⟨rfl,hw⟩;obtain rfl:=hw;have jN:=kB;have Dw:=kX;have M9:=M;have X9:=X;have h9:=hx;have Dv:=fB;have e0:w9.cell? ⟨w.heap.size,0,none⟩=some (.int .i64 0):=jN.cell 0;have e1:w9.cell? ⟨w.heap.size,1,none⟩=some (.slice none 0 0):=jN.cell 1;have e2:w9.cell? ⟨w.heap.size,2,none⟩=some (.slice none 0 0):=jN.cell 2;have d0:w9.cell? ⟨w.heap.size+1,0,none⟩=some (.int .i64 (kk:Int)):=Dw.cell 0;have d1:w9.cell? ⟨w.heap.size+1,1,none⟩=some (.slice ta (tk+1) tc):=Dw.cell 1;have d2:w9.cell? ⟨w.heap.size+1,2,none⟩=some (.slice aa ak ac):=Dw.cell 2;have ff:∀ i,w9.frozen? ⟨w.heap.size,i,none⟩=false:=jN.frozen;go_wp2_with fail;refine bodyPost_ret (v:=.agg #[.int .i64 (kk:Int),(.slice ta (tk+1) tc),(.slice aa ak ac)]) (by simp[results,results77,go_sem,e0,e1,e2]) rfl ?_;exact bM.no HE.out (((M9.new (lr0) _ _).new (lr0) _ _).new (lr0) _ _) X9 (((h9.other _ _ (by omega) Dv).other _ _ (by omega) Dv).other _ _ (by omega) Dv) ⟨_,_,_,_,_,_,_,rfl⟩
end
theorem afz {w:World}{n m:Nat}{it:Lx.It}(h:o7 w n m it):Calls prog 95 #[.pointer (some ⟨n,m*4,none⟩)] w fun e w'=>e=.returned (.bool (decide (it.kind=0)))/\w'=w:=by
 have h0:=h.kind;go_enter func95,ntmps95
 by_cases hk:it.kind=0
 ·have hkb:((it.kind:Int) == 0)=true:=by simp[hk]
  rw[decide_eq_true hk];clear hk;go_wp2_with fail;go_ret;exact⟨rfl,rfl⟩
 ·have hkb:((it.kind:Int) == 0)=false:=bq0 (by omega)
  rw[decide_eq_false hk];clear hk;go_wp2_with fail;go_ret;exact⟨rfl,rfl⟩
namespace Lx
def vis (names:List ByteArray)(s:List Bool × List Nat)(nm:ByteArray):List Bool × List Nat:=if au s.1 (fix names nm)=true then s else (s.1.set (fix names nm) true,s.2++[fix names nm])
end Lx
structure RS (lo n B:Nat) (num:ByteArray->Int) (w0 w:World) (s:List Bool × List Nat):Prop where
 nb:aj w lo #[.map (some B)] 119
 mp:SMap w B num
 bl:B<lo
 fo:aj w (lo+1) (aL s.1) 4
 fv:aj w (lo+2) #[.slice (some ⟨lo+1,0,none⟩) n n] 39
 ov:∃ vo,aj w (lo+4) #[vo] 24/\w.ownsRow 0 3 1 vo s.2.length (gV s.2)/\∀ g,vo.ownBlock=some g->g=lo+3\/lo+5<=g
 len:Hid (s.1.length=n)
 fr:Below lo w0 w
theorem afA {lo n B:Nat} {num:ByteArray->Int} {w0 w:World} {s:List Bool × List Nat} (h:RS lo n B num w0 w s) {a m:Nat} {it:Lx.It} (hi:o7 w a m it) {names:List ByteArray} (hq:num it.name=(Lx.fix names it.name:Int)) (hl:Lx.fix names it.name<n) (hop:s.2.length<=10000) :
  Calls prog 96 #[.pointer (some ⟨a,m*4,none⟩),.pointer (some ⟨lo,0,none⟩),.pointer (some ⟨lo+2,0,none⟩),.pointer (some ⟨lo+4,0,none⟩)] w fun e w'=>e=.returned (.tuple #[])/\RS lo n B num w0 w' (Lx.vis names s it.name):=by
 obtain⟨i3,hi3,xH,xI,hz32⟩:=info_parts Tryz.info3;obtain⟨h1,h2,h3,h4,h5,⟨vo,h6,h7,h8⟩,h9,h10⟩:=h;have h2d:SMap w.drew B num:=h2.move rfl;have hlk:=h2d.look it.name;rw[hq]at hlk;have x1:=hi.name;have c0:w.cell? ⟨lo,0,none⟩=some (.map (some B)):=h1.cell 0;go_enter func96,ntmps96;go_wp2_with fail
 go_region
 all_goals
  have hv0:Lx.vis names s it.name=if au s.1 (Lx.fix names it.name)=true then s else (s.1.set (Lx.fix names it.name) true,s.2++[Lx.fix names it.name]):=rfl
  have Nt:Hid _:=hv0;have Dx:Lx.fix names it.name<s.1.length:=by have:=h9.out;omega
  clear hv0;obtain⟨wd,hwd⟩:∃ wd,wd=w.drew:=⟨_,rfl⟩;rw[<-hwd];have hh:wd.heap=w.heap:=by rw[hwd];rfl
  have aaL:Below lo w0 wd:=by rw[hwd];exact h10.drew
  have h1d:aj wd lo #[.map (some B)] 119:=by unfold aj;rw[hh];exact h1
  have h2e:SMap wd B num:=h2.move (by rw[hh]);have Ji:aj wd (lo+1) (aL s.1) 4:=by unfold aj;rw[hh];exact h4
  have Nu:aj wd (lo+2) #[.slice (some ⟨lo+1,0,none⟩) n n] 39:=by unfold aj;rw[hh];exact h5
  have Te:aj wd (lo+4) #[vo] 24:=by unfold aj;rw[hh];exact h6
  have Tf:wd.ownsRow 0 3 1 vo s.2.length (gV s.2):=aD h7 fun g _=>by rw[hh]
  have f0:wd.cell? ⟨lo+2,0,none⟩=some (.slice (some ⟨lo+1,0,none⟩) n n):=Nu.cell 0;have o1:wd.cell? ⟨lo+1,Lx.fix names it.name,none⟩=some (.bool (au s.1 (Lx.fix names it.name))):=(Ji.cell _).trans (fI s.1 Dx);have of:∀ i,wd.frozen? ⟨lo+1,i,none⟩=false:=Ji.frozen;have l1:=Ji.lt;have l2:=Nu.lt;have l4:=Te.lt;have HQL:Hid (Lx.fix names it.name<s.1.length):=Dx;clear hwd hh h1 h2 h2d h4 h5 h6 h7 h10 x1 c0 hlk hq hi Dx;generalize Lx.fix names it.name=q at *;cases hb:au s.1 q with
  | true =>
   have hv0:=Nt.out;rw[if_pos hb]at hv0;have Tg:Hid _:=hv0;rw[hb]at o1;clear hv0 Nt hb;go_wp2_with fail
   go_end0
   refine⟨rfl,?_⟩;rw[Tg.out];exact⟨h1d,h2e,h3,Ji,Nu,⟨vo,Te,Tf,h8⟩,h9,aaL⟩
  | false =>
   have hv0:=Nt.out;rw[if_neg (by rw[hb];decide)]at hv0;have Tg:Hid _:=hv0;rw[hb]at o1;clear hv0 Nt hb;obtain⟨oa,oc,tN,uZ⟩:=aI Tf;subst tN;unfold maxLen at uZ;have h6e:aj (wd.setCell ⟨lo+1,q,none⟩ (.bool true)) (lo+4) #[.slice oa s.2.length oc] 24:=Te.other (by omega) _;have o40:(wd.setCell ⟨lo+1,q,none⟩ (.bool true)).cell? ⟨lo+4,0,none⟩=some (.slice oa s.2.length oc):=h6e.cell 0;have h7e:(wd.setCell ⟨lo+1,q,none⟩ (.bool true)).ownsRow 0 3 1 (.slice oa s.2.length oc) s.2.length (gV s.2):=aD Tf fun g hg=>hs0 (fun e=>by have e':g=lo+1:=e;rcases h8 g hg with h | h <;> omega)
   have k41:aj (wd.setCell ⟨lo+1,q,none⟩ (.bool true)) (lo+1) (aL (s.1.set q true)) 4:=by rw[<-p9];exact Ji.set q _
   have hse:(wd.setCell ⟨lo+1,q,none⟩ (.bool true)).heap.size=wd.heap.size:=by simp[World.setCell]
   have hkn:aj ((wd.setCell ⟨lo+1,q,none⟩ (.bool true)).alloc (.cells #[.int .i64 (q:Int)] 3)) wd.heap.size #[.int .i64 (q:Int)] 3:=by rw[<-hse];exact aj.new _ _ 3
   have hn4:(Value.slice oa s.2.length oc).ownBlock≠some (lo+4):=fun e=>by rcases h8 _ e with h | h <;> omega
   go_wp2_with (at_builtin;go_loud (refine wpList_append_own_at _ rfl _ _ 24 rfl 0 3 i3 _ 1 8 underlying24 hi3 xH xI hz32 rfl (by decide) (.slice oa s.2.length oc) _ _ rfl (h7e.alloc _) ⟨_,0,none⟩ 1 1 [.int .i64 (q:Int)] rfl rfl (bP hkn) (by simp[Value.oneCell']) (by unfold maxLen;omega) (by omega) (by simp) ?_;intro v5 w5 hown5 bf _ jT;obtain⟨dL,dM,hv5,-⟩:=aI hown5;subst hv5;have l7:=(h6e.alloc (.cells #[.int .i64 (q:Int)] 3)).grown bf (fun e=>hn4 e.symm);have Nv:w5.cell? ⟨lo+4,0,none⟩=some (.slice oa s.2.length oc):=l7.cell 0;have f54:∀ i,w5.frozen? ⟨lo+4,i,none⟩=false:=l7.frozen))
   go_end0
   refine⟨rfl,?_⟩;rw[Tg.out];have bk:∀ g,g<wd.heap.size->g≠lo+4->g≠lo+1->(Value.slice oa s.2.length oc).ownBlock≠some g->(w5.setCell ⟨lo+4,0,none⟩ (.slice dL (s.2.length+1) dM)).heap[g]?=wd.heap[g]?:=by
    intro g hg h4' h1' hn;rw[hs0 h4',bf.block g (by simp[World.setCell];omega) (fun e=>hn e.symm),Below.heap_alloc _ _ _ (by rw[hse];exact hg),hs0 h1']
   have hno:∀ g,g<lo+3->(Value.slice oa s.2.length oc).ownBlock≠some g:=fun g hg e=>by rcases h8 _ e with h | h <;> omega
   have hs5:=bf.size;simp only[World.size_alloc]at hs5;have uF:∀ g,(Value.slice dL (s.2.length+1) dM).ownBlock=some g->g=lo+3\/lo+5<=g:=by
    intro g hg;rcases jT with h | h
    ·exact h8 g (h ▸ hg)
    ·rw[h]at hg
     have e1:=Option.some.inj hg;have e2:g=wd.heap.size+1:=by rw[<-e1];simp[World.setCell]
     omega
   refine⟨?_,h2e.move (bk B (by omega) (by omega) (by omega) (hno B (by omega))),h3,?_,?_,⟨_,l7.set 0 _,?_,uF⟩,?_,?_⟩
   ·exact (bk lo (by omega) (by omega) (by omega) (hno lo (by omega))).trans h1d
   ·have k5:=(k41.alloc (.cells #[.int .i64 (q:Int)] 3)).grown bf (fun e=>hno (lo+1) (by omega) e.symm)
    exact k5.other (by omega) _
   ·exact (bk (lo+2) (by omega) (by omega) (by omega) (hno (lo+2) (by omega))).trans Nu
   ·rw[List.length_append,yE]
    exact aD hown5 fun g hg=>hs0 (fun e=>by have e':g=lo+4:=e;rcases uF g hg with h | h <;> omega)
   ·show (s.1.set q true).length=n
    rw[List.length_set];exact h9.out
   ·refine aaL.trans ⟨?_,?_,?_,?_,fun g hg=>bk g (by omega) (by omega) (by omega) (hno g (by omega))⟩
    ·exact bf.os
    ·exact bf.tape
    ·exact bf.output
    ·have:=bf.size;simp[World.setCell]at this |-;omega
end Go.Proofs.YtlcppnabbicmoaaGreatDoor

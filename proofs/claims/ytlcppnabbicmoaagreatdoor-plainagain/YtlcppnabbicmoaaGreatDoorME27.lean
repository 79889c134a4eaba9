import Derived.Test.YtlcppnabbicmoaaGreatDoorME26
import Derived.Test.YtlcppnabbicmoaaGreatDoorME06
set_option maxHeartbeats 8000000
set_option maxRecDepth 1000000
namespace Go.Proofs.YtlcppnabbicmoaaGreatDoor
open Go.RowKit
open Lx (Tk)
open Tr
theorem Tryz.info3:(Tryz.prog.info? 3).map (fun i=>(i.zero,i.size,i.bytes))=some (some (.int .i64 0),1,8):=by kernel_rfl
theorem own_form2 {w:World}{base e size:Nat}{v:Value}{n:Nat}{xs:List Value}(h:w.ownsRow base e size v n xs):∃ a c,v=.slice a n c:=by
 rcases h.2 with h0 | ⟨g,cap,cur,hv,_⟩
 ·exact⟨none,0,by rw[h0.1,h0.2]⟩
 ·exact⟨_,_,hv⟩
def LRows (lo:Nat)(w:World)(sgx vT vA:Value)(acc:List Tk):Prop :=
 w.ownsRow lo 9 1 vT acc.length (acc.map fun t=>.string t.1)/\w.ownsRow lo 3 1 vA acc.length (acc.map fun t=>.int .i64 (t.2:Int)) /\
 (∀ g,vT.ownBlock=some g->vA.ownBlock≠some g)/\(∀ g,vT.ownBlock=some g->sgx.ownBlock≠some g)/\(∀ g,vA.ownBlock=some g->sgx.ownBlock≠some g)
def RVLevel (lo:Nat)(sgx:Value)(w':World)(v:Value)(lv:Lx.Lv):Prop:=∃ vT vA,v=.agg #[.int .i64 (lv.kind:Int),vT,vA]/\LRows lo w' sgx vT vA lv.tokens
def XLevel (v:Value):Prop:=∃ k a l c a' l' c',v=.agg #[.int .i64 k,.slice a l c,.slice a' l' c']
def LC (ts tsr acc:List Tk):Prop:=(acc=[]/\tsr=ts.tail)∨(acc≠[]/\∃ f,tsr.length<=f/\Lx.pLevel ts=lvOf (Lx.levelKind (Lx.hd ts)).toNat (Lx.pTokens f tsr acc))
theorem LC.err {ts tsr acc:List Tk}{e:Nat × Nat}(h:LC ts tsr acc)(hne:0<tsr.length)(hs:acc=[]∨¬ Lx.hd tsr=Lx.tSemi)(he:Lx.pWord Lx.isToken tsr=.error e):Lx.pLevel ts=.error e:=by
 rcases h with ⟨rfl,rfl⟩ | ⟨h0,f,hf,h⟩
 ·unfold Lx.pLevel;rw[he]
 ·obtain⟨f',rfl⟩:∃ f',f=f'+1:=⟨f-1,by omega⟩
  rw[h,Lx.pTokens,if_neg (hs.resolve_left h0),he];rfl
theorem LC.ok {ts tsr ts1 acc:List Tk}{b:ByteArray}(h:LC ts tsr acc)(hne:0<tsr.length)(hl:ts1.length+1<=tsr.length)(hs:acc=[]∨¬ Lx.hd tsr=Lx.tSemi)(he:Lx.pWord Lx.isToken tsr=.ok (b,ts1)):LC ts ts1 (acc++[(b,Lx.pl tsr)]):=by
 refine .inr ⟨by simp,?_⟩;rcases h with ⟨rfl,rfl⟩ | ⟨h0,f,hf,h⟩
 ·exact⟨ts1.length,Nat.le_refl _,pLevel_eq he⟩
 ·obtain⟨f',rfl⟩:∃ f',f=f'+1:=⟨f-1,by omega⟩
  exact⟨f',by omega,by rw[h,Lx.pTokens,if_neg (hs.resolve_left h0),he]⟩
theorem LC.done {ts tsr acc:List Tk}(h:LC ts tsr acc)(hne:0<tsr.length)(h0:acc≠[])(hs:Lx.hd tsr=Lx.tSemi):Lx.pLevel ts=.ok (⟨(Lx.levelKind (Lx.hd ts)).toNat,acc⟩,tsr.tail):=by
 rcases h with ⟨h1,_⟩ | ⟨_,f,hf,h⟩
 ·exact absurd h1 h0
 ·obtain⟨f',rfl⟩:∃ f',f=f'+1:=⟨f-1,by omega⟩
  rw[h,Lx.pTokens,if_pos hs];rfl
theorem rlevel_rr (s:ByteArray) (q:Nat) (w:World) (ts:List Tk) (sgv:Value) (sg:List ByteArray) (kk:Nat) (h:RR s q w ts 0 sgv sg) (hk:Lx.known (Lx.hd ts)=true) (hn:Lx.hd ts≠Lx.noText) (hkk:kk=(Lx.levelKind (Lx.hd ts)).toNat) :
  Calls Tryz.prog 77 #[.pointer (some ⟨q,0,none⟩),.int .i64 (kk:Int)] w (REnds s q 0 (RVLevel w.heap.size) XLevel w sgv (Lx.pLevel ts)):=by
 obtain⟨i0,hi,hz0,hz1,hz2⟩:=info_parts Tryz.info3;obtain⟨j0,hj,hy0,hy1,hy2⟩:=info_parts Tryz.info9;have hp:=h.lt;have hcnt:=h.cnt;have HK:Hid _:=hk;have HNT:Hid _:=hn;have HKK:Hid _:=hkk;have htl0:=h.wf.tail_len;clear hk hn hkk;have h0:=(h.alloc (.cells #[.int .i64 0,.slice none 0 0,.slice none 0 0] 137)).alloc (.cells #[.int .i64 (kk:Int),.slice none 0 0,.slice none 0 0] 137);have kB0:=(Blk.new w #[.int .i64 0,.slice none 0 0,.slice none 0 0] 137).alloc (.cells #[.int .i64 (kk:Int),.slice none 0 0,.slice none 0 0] 137);have kX0:=Blk.new (w.alloc (.cells #[.int .i64 0,.slice none 0 0,.slice none 0 0] 137)) #[.int .i64 (kk:Int),.slice none 0 0,.slice none 0 0] 137;rw[show (w.alloc (.cells #[.int .i64 0,.slice none 0 0,.slice none 0 0] 137)).heap.size=w.heap.size+1 by simp]at kX0;have M0:=((Mv.refl q sgv w).alloc (.cells #[.int .i64 0,.slice none 0 0,.slice none 0 0] 137)).alloc (.cells #[.int .i64 (kk:Int),.slice none 0 0,.slice none 0 0] 137);have f0B:sgv.ownBlock≠some w.heap.size:=h.fresh (Nat.le_refl _);have f0X:sgv.ownBlock≠some (w.heap.size+1):=h.fresh (by omega);go_enter Tryz.func77,Tryz.ntmps77;go_wp2_with fail;refine (next_rr h0 HK.out HNT.out).mono ?_;rintro e w1 ⟨rfl,sg1,m1,x1,h1⟩;have f1B:=x1.keep (b:=w.heap.size) kB0.lt f0B;have f1X:=x1.keep (b:=w.heap.size+1) kX0.lt f0X;have kB1:=kB0.mv m1 (by omega) f0B;have kX1:=kX0.mv m1 (by omega) f0X;have M1:=M0.trans (Nx.refl _ _) m1;have X1:=(Nx.refl sgv w).trans M0.size x1;go_wp2_with fail
 go_loopg [] (ts.tail.length+1) (fun k wr=>(∃ (tsr acc:List Tk) (vT vA sgr:Value) (slr:List ByteArray),tsr.length+1=k/\acc.length+tsr.length<=ts.length/\RR s q wr tsr 0 sgr slr/\Blk wr (w.heap.size+1) #[.int .i64 (kk:Int),vT,vA] 137/\Blk wr w.heap.size #[.int .i64 0,.slice none 0 0,.slice none 0 0] 137/\sgr.ownBlock≠some w.heap.size/\sgr.ownBlock≠some (w.heap.size+1) /\
   LRows (w.heap.size+2) wr sgr vT vA acc/\Mv q sgv w wr/\Nx sgv w sgr/\Hid (LC ts tsr acc)) ∨
  (∃ (n a:Nat) (sgr:Value) (slr:List ByteArray) (tk:Nat) (ta:Option Addr) (tc:Nat) (aa:Option Addr) (ak ac:Nat),k=0/\RX s q wr 0 n a sgr slr/\Blk wr (w.heap.size+1) #[.int .i64 (kk:Int),.slice ta (tk+1) tc,.slice aa ak ac] 137/\Blk wr w.heap.size #[.int .i64 0,.slice none 0 0,.slice none 0 0] 137/\sgr.ownBlock≠some w.heap.size /\
   Mv q sgv w wr/\Nx sgv w sgr/\Hid (Lx.pLevel ts=.error (n,a))))
 case atStart=>exact .inl ⟨ts.tail,[],_,_,sg1,_,rfl,by simp,h1,kX1,kB1,f1B,f1X,⟨World.ownsRow_nil _ _ _ _,World.ownsRow_nil _ _ _ _,fun g hg=>by simp[Value.ownBlock]at hg,fun g hg=>by simp[Value.ownBlock]at hg,fun g hg=>by simp[Value.ownBlock]at hg⟩,M1,X1,.inl ⟨rfl,rfl⟩⟩
 case round =>
  clear h1 kB1 kX1 M1 X1 f1B f1X m1 x1 h0 kB0 kX0 M0 f0B f0X;rcases hrel with ⟨tsr,acc,vT,vA,sgr,slr,hk,hacc,hr,kX,kB,fB,fX,hrows,M,X,hlc⟩ | ⟨n,a,sgr,slr,tk,ta,tc,aa,ak,ac,hk,hx,kX,kB,fB,M,X,HE⟩
  ·obtain⟨oT,oA,sTA,sT,sA⟩:=hrows
   obtain⟨ta,tc,rfl⟩:=own_form2 oT;obtain⟨aa,ac,rfl⟩:=own_form2 oA;have hne:=hr.wf.ne;have htl:=hr.wf.tail_len;have szr:=M.size;have lX:=kX.lt;have oAD:=own_move (w':=(wr.alloc (.cells #[.int .i64 (Lx.pl tsr:Int)] 3)).drew) (oA.alloc (.cells #[.int .i64 (Lx.pl tsr:Int)] 3)) fun _ _=>rfl
   have c1:wr.cell? ⟨q,1,none⟩=some (.int .i64 (Lx.pl tsr:Int)):=hr.blk.cell 1;have c2:wr.cell? ⟨q,2,none⟩=some (.string (Lx.refW (Lx.hd tsr))):=hr.blk.cell 2;have c4:wr.cell? ⟨q,4,none⟩=some (.int .i64 0):=hr.blk.cell 4;have x1:wr.cell? ⟨w.heap.size+1,1,none⟩=some (.slice ta acc.length tc):=kX.cell 1;have x2:wr.cell? ⟨w.heap.size+1,2,none⟩=some (.slice aa acc.length ac):=kX.cell 2
   by_cases ha:acc=[]
   ·have hl0:((acc.length:Int) == 0)=true:=by rw[ha];rfl
    have HSE:Hid (acc=[]∨¬ Lx.hd tsr=Lx.tSemi):=.inl ha;clear ha;go_wp2_with fail
    go_region_law (first
     | (refine step_append_lies _ rfl (.tmp 30) (.tmp 35) 24 rfl (w.heap.size+2) 3 i0 _ 1 8 Tryz.underlying24 hi hz0 hz1 hz2 rfl (by decide) (.slice aa acc.length ac) acc.length (acc.map fun t=>.int .i64 (t.2:Int)) (by simp[Act.eval]) oAD ⟨wr.heap.size,0,none⟩ 1 1 [.int .i64 (Lx.pl tsr:Int)] (by simp[Act.eval]) rfl (news_of (Blk.new wr _ 3).drew) (by simp[Value.oneCell']) (by decide) (by unfold maxLen;omega) (by omega) (by simp;omega) _ rfl ?_;intro g2 cap2 w2 oA2x hgrow2 hat2 hlt2;have kX2:=((kX.alloc _).drew).grown hgrow2 (fun e=>by have:=(oA.lt _ e.symm).1;omega);have c22:w2.cell? ⟨w.heap.size+1,2,none⟩=some (.slice aa acc.length ac):=kX2.cell 2;have f22:∀ i,w2.frozen? ⟨w.heap.size+1,i,none⟩=false:=kX2.frozen))
    all_goals
     have kB2:=(kB.alloc (.cells #[.int .i64 (Lx.pl tsr:Int)] 3)).drew.grown hgrow2 (fun e=>by have:=(oA.lt _ e.symm).1;omega);have M2:=(M.alloc (.cells #[.int .i64 (Lx.pl tsr:Int)] 3)).drew.grown hgrow2 (fun k hk=>.inl (by have:=(oA.lt _ hk).1;omega));have s2:wr.heap.size+1<=w2.heap.size:=by have:=hgrow2.size;simpa using this
     have h2:=(hr.alloc (.cells #[.int .i64 (Lx.pl tsr:Int)] 3)).drew.move (hgrow2.block q (by simp;omega) (fun e=>by have:=(oA.lt _ e.symm).1;omega)) (fun g hg=>hgrow2.block g (by have:=hr.owl g hg;simp;omega) (fun e=>sA g e.symm hg));have h2':=h2.other (b:=w.heap.size+1) 2 (Value.slice (some ⟨g2,0,none⟩) (acc.length+1) cap2) (by omega) fX;have kX2':=kX2.set 2 (Value.slice (some ⟨g2,0,none⟩) (acc.length+1) cap2);have kB2':Blk (w2.setCell ⟨w.heap.size+1,2,none⟩ (Value.slice (some ⟨g2,0,none⟩) (acc.length+1) cap2)) w.heap.size #[.int .i64 0,.slice none 0 0,.slice none 0 0] 137:=kB2.other (by omega) _;have M2':=M2.new (b:=w.heap.size+1) (by omega) 2 (Value.slice (some ⟨g2,0,none⟩) (acc.length+1) cap2);have oA2:=own_move (w':=w2.setCell ⟨w.heap.size+1,2,none⟩ (Value.slice (some ⟨g2,0,none⟩) (acc.length+1) cap2)) oA2x (fun g hg=>Below.heap_setCell _ _ _ _ (fun e=>by have:=(oA2x.lt g hg).1;have e':g=w.heap.size+1:=e;omega));have oT2:=own_move (w':=w2.setCell ⟨w.heap.size+1,2,none⟩ (Value.slice (some ⟨g2,0,none⟩) (acc.length+1) cap2)) oT (fun g hg=>by
      have:=oT.lt g hg;have hgx:g≠w.heap.size+1:=by omega
      rw[Below.heap_setCell _ _ _ _ hgx,hgrow2.block g (by simp;omega) (fun e=>sTA g hg e.symm)];exact Below.heap_alloc _ _ _ this.2)
     have sA2:∀ g,(Value.slice (some ⟨g2,0,none⟩) (acc.length+1) cap2).ownBlock=some g->sgr.ownBlock≠some g:=fun g hg e=>by
      have e':g2=g:=by simpa [Value.ownBlock]using hg
      rcases hat2 with h1 | h1
      ·exact sA g (by rw[h1,e']) e
      ·have:=hr.owl g e;simp at h1;omega
     have sTA2:∀ g,(Value.slice ta acc.length tc).ownBlock=some g->g2≠g:=fun g hg e=>by
      rcases hat2 with h1 | h1
      ·exact sTA g hg (by rw[h1,e])
      ·have:=(oT.lt g hg).2;simp at h1;omega
     go_wp2_with fail;refine (rtoken_rr h2').mono ?_;intro e w3 he;cases hpw:Lx.pWord Lx.isToken tsr with
     | error x =>
      obtain⟨n,a⟩:=x;obtain⟨v3,sg3,sl3,rfl,m3,x3,h3,rfl⟩:=he.err hpw;have HE:Hid (Lx.pLevel ts=.error (n,a)):=hlc.out.err hne HSE.out hpw;clear hpw he;have x23:=x3;have kX3:=kX2'.mv m3 (by omega) fX;have kB3:=kB2'.mv m3 (by omega) fB;have f3X:=x3.keep (b:=w.heap.size+1) kX2'.lt fX;have f3B:=x3.keep (b:=w.heap.size) kB2'.lt fB;have M3:=M2'.trans X m3;have X3:=X.trans M2'.size x3;have oT3:=own_move oT2 (fun g hg=>m3.block g (oT2.lt g hg).2 (fun e=>by have:=(oT2.lt g hg).1;omega) (sT g hg));have oA3:=own_move oA2 (fun g hg=>m3.block g (oA2.lt g hg).2 (fun e=>by have:=(oA2.lt g hg).1;omega) (sA2 g hg));have sT3:∀ g,(Value.slice ta acc.length tc).ownBlock=some g->sg3.ownBlock≠some g:=fun g hg=>x3.keep (oT2.lt g hg).2 (sT g hg)
      have sA3:∀ g,(Value.slice (some ⟨g2,0,none⟩) (acc.length+1) cap2).ownBlock=some g->sg3.ownBlock≠some g:=fun g hg=>x3.keep (oA2.lt g hg).2 (sA2 g hg)
      have c31:w3.cell? ⟨w.heap.size+1,1,none⟩=some (.slice ta acc.length tc):=kX3.cell 1;have lX3:=kX3.lt
      go_wp2_with (first
       | (at_builtin;refine wpList_append_lies _ rfl _ _ 22 rfl (w.heap.size+2) 9 j0 _ 1 16 Tryz.underlying22 hj hy0 hy1 hy2 rfl (by decide) (.slice ta acc.length tc) acc.length (acc.map fun t=>.string t.1) rfl (oT3.alloc _) ⟨w3.heap.size,0,none⟩ 1 1 [.string ⟨#[]⟩] rfl rfl (news_of (Blk.new w3 _ 9)) (by simp[Value.oneCell']) (by decide) (by unfold maxLen;omega) (by omega) (by simp;omega) _ rfl ?_;intro g4 cap4 w4 oT4 hgrow4 hat4 hlt4;have kX4:=(kX3.alloc _).grown hgrow4 (fun e=>by have:=(oT3.lt _ e.symm).1;omega);have c41:w4.cell? ⟨w.heap.size+1,1,none⟩=some (.slice ta acc.length tc):=kX4.cell 1;have f41:∀ i,w4.frozen? ⟨w.heap.size+1,i,none⟩=false:=kX4.frozen))
      have kB4:=(kB3.alloc (.cells #[.string ⟨#[]⟩] 9)).grown hgrow4 (fun e=>by have:=(oT3.lt _ e.symm).1;omega);have M4:=(M3.alloc (.cells #[.string ⟨#[]⟩] 9)).grown hgrow4 (fun k hk=>.inl (by have:=(oT3.lt _ hk).1;omega));have s34:w3.heap.size+1<=w4.heap.size:=by have:=hgrow4.size;simpa using this
      have h4:=(h3.alloc (.cells #[.string ⟨#[]⟩] 9)).move (hgrow4.block q (by simp;omega) (fun e=>by have:=(oT3.lt _ e.symm).1;omega)) (fun g hg=>hgrow4.block g (by have:=h3.owl g hg;simp;omega) (fun e=>sT3 g e.symm hg));have h4':=h4.other (b:=w.heap.size+1) 1 (.slice (some ⟨g4,0,none⟩) (acc.length+1) cap4) (by omega) f3X;have kX4':=kX4.set 1 (.slice (some ⟨g4,0,none⟩) (acc.length+1) cap4);have kB4':Blk (w4.setCell ⟨w.heap.size+1,1,none⟩ (.slice (some ⟨g4,0,none⟩) (acc.length+1) cap4)) w.heap.size #[.int .i64 0,.slice none 0 0,.slice none 0 0] 137:=kB4.other (by omega) _;have M4':=M4.new (b:=w.heap.size+1) (by omega) 1 (.slice (some ⟨g4,0,none⟩) (acc.length+1) cap4);go_roundg 0
      case measure=>omega
      case rel=>exact .inr ⟨n,a,sg3,sl3,acc.length,_,_,_,_,_,rfl,h4',kX4',kB4',f3B,M4',X3,HE⟩
     | ok x =>
      obtain⟨b,ts3⟩:=x;obtain⟨v3,sg3,sl3,rfl,m3,x3,h3,rfl⟩:=he.ok hpw;have hl3:ts3.length+1=tsr.length:=by rw[(Lx.pWord_len hpw).1];exact htl
      have HLC:Hid (LC ts ts3 (acc++[(b,Lx.pl tsr)])):=hlc.out.ok hne (by omega) HSE.out hpw;clear hpw he;have x23:=x3;have kX3:=kX2'.mv m3 (by omega) fX;have kB3:=kB2'.mv m3 (by omega) fB;have f3X:=x3.keep (b:=w.heap.size+1) kX2'.lt fX;have f3B:=x3.keep (b:=w.heap.size) kB2'.lt fB;have M3:=M2'.trans X m3;have X3:=X.trans M2'.size x3;have oT3:=own_move oT2 (fun g hg=>m3.block g (oT2.lt g hg).2 (fun e=>by have:=(oT2.lt g hg).1;omega) (sT g hg));have oA3:=own_move oA2 (fun g hg=>m3.block g (oA2.lt g hg).2 (fun e=>by have:=(oA2.lt g hg).1;omega) (sA2 g hg));have sT3:∀ g,(Value.slice ta acc.length tc).ownBlock=some g->sg3.ownBlock≠some g:=fun g hg=>x3.keep (oT2.lt g hg).2 (sT g hg)
      have sA3:∀ g,(Value.slice (some ⟨g2,0,none⟩) (acc.length+1) cap2).ownBlock=some g->sg3.ownBlock≠some g:=fun g hg=>x3.keep (oA2.lt g hg).2 (sA2 g hg)
      have c31:w3.cell? ⟨w.heap.size+1,1,none⟩=some (.slice ta acc.length tc):=kX3.cell 1;have lX3:=kX3.lt
      go_wp2_with (first
       | (at_builtin;refine wpList_append_lies _ rfl _ _ 22 rfl (w.heap.size+2) 9 j0 _ 1 16 Tryz.underlying22 hj hy0 hy1 hy2 rfl (by decide) (.slice ta acc.length tc) acc.length (acc.map fun t=>.string t.1) rfl (oT3.alloc _) ⟨w3.heap.size,0,none⟩ 1 1 [.string b] rfl rfl (news_of (Blk.new w3 _ 9)) (by simp[Value.oneCell']) (by decide) (by unfold maxLen;omega) (by omega) (by simp;omega) _ rfl ?_;intro g4 cap4 w4 oT4 hgrow4 hat4 hlt4;have kX4:=(kX3.alloc _).grown hgrow4 (fun e=>by have:=(oT3.lt _ e.symm).1;omega);have c41:w4.cell? ⟨w.heap.size+1,1,none⟩=some (.slice ta acc.length tc):=kX4.cell 1;have f41:∀ i,w4.frozen? ⟨w.heap.size+1,i,none⟩=false:=kX4.frozen))
      have kB4:=(kB3.alloc (.cells #[.string b] 9)).grown hgrow4 (fun e=>by have:=(oT3.lt _ e.symm).1;omega);have M4:=(M3.alloc (.cells #[.string b] 9)).grown hgrow4 (fun k hk=>.inl (by have:=(oT3.lt _ hk).1;omega));have s34:w3.heap.size+1<=w4.heap.size:=by have:=hgrow4.size;simpa using this
      have h4:=(h3.alloc (.cells #[.string b] 9)).move (hgrow4.block q (by simp;omega) (fun e=>by have:=(oT3.lt _ e.symm).1;omega)) (fun g hg=>hgrow4.block g (by have:=h3.owl g hg;simp;omega) (fun e=>sT3 g e.symm hg));have h4':=h4.other (b:=w.heap.size+1) 1 (.slice (some ⟨g4,0,none⟩) (acc.length+1) cap4) (by omega) f3X;have kX4':=kX4.set 1 (.slice (some ⟨g4,0,none⟩) (acc.length+1) cap4);have kB4':Blk (w4.setCell ⟨w.heap.size+1,1,none⟩ (.slice (some ⟨g4,0,none⟩) (acc.length+1) cap4)) w.heap.size #[.int .i64 0,.slice none 0 0,.slice none 0 0] 137:=kB4.other (by omega) _;have M4':=M4.new (b:=w.heap.size+1) (by omega) 1 (.slice (some ⟨g4,0,none⟩) (acc.length+1) cap4);go_roundg (ts3.length+1)
      case measure=>omega
      case rel =>
       refine .inl ⟨ts3,acc++[(b,Lx.pl tsr)],_,_,sg3,sl3,rfl,by simp;omega,h4',kX4',kB4',f3B,f3X,⟨?_,?_,?_,?_,?_⟩,M4',X3,HLC⟩
       ·rw[List.map_append,List.length_append]
        exact own_move oT4 (fun g hg=>Below.heap_setCell _ _ _ _ (fun e=>by have:=(oT4.lt g hg).1;have e':g=w.heap.size+1:=e;omega))
       ·rw[List.map_append,List.length_append]
        refine own_move oA3 (fun g hg=>?_);have hg2:g2=g:=by simpa [Value.ownBlock]using hg
        have:=oA3.lt g hg;have hgx:g≠w.heap.size+1:=by omega
        rw[Below.heap_setCell _ _ _ _ hgx,hgrow4.block g (by simp;omega) (fun e=>sTA2 g e.symm hg2)];exact Below.heap_alloc _ _ _ this.2
       ·intro g hg e
        have e4:g4=g:=by simpa [Value.ownBlock]using hg
        have e2:g2=g:=by simpa [Value.ownBlock]using e
        rcases hat4 with h1 | h1
        ·exact sTA2 g (by rw[h1,e4]) e2
        ·have:=(oA3.lt g2 rfl).2;simp at h1;omega
       ·intro g hg e
        have e4:g4=g:=by simpa [Value.ownBlock]using hg
        rcases hat4 with h1 | h1
        ·exact sT3 g (by rw[h1,e4]) e
        ·have:=h3.owl g e;simp at h1;omega
       ·exact sA3
   ·have hl0:((acc.length:Int) == 0)=false:=beq_eq_false_iff_ne.2 (by have:=List.length_pos_iff.2 ha;omega)
    have HA:Hid (acc≠[]):=ha;clear ha
    by_cases hs:Lx.hd tsr=Lx.tSemi
    ·have t59:((Lx.refW (Lx.hd tsr)).toList == [59])=true:=by rw[hs,Lx.refW_known (by decide),ByteArray.toList_eq];rfl
     have HP:Hid (Lx.pLevel ts=.ok (⟨kk,acc⟩,tsr.tail)):=by show _=_;rw[HKK.out];exact hlc.out.done hne HA.out hs
     have HM:Hid (Lx.pMust Lx.tSemi tsr=.ok ((),tsr.tail)):=if_pos hs;clear hs;go_wp2_with fail;refine (must_rr hr Lx.tSemi (by decide) (by decide)).mono ?_;intro e w9 he;obtain⟨v9,sg9,sl9,rfl,m9,x9,h9,rfl⟩:=he.ok HM.out;clear he;have f9B:=x9.keep (b:=w.heap.size) kB.lt fB;have kB9:=kB.mv m9 (by omega) fB;have kX9:=kX.mv m9 (by omega) fX;have M9:=M.trans X m9;have X9:=X.trans M.size x9;have e0:w9.cell? ⟨w.heap.size,0,none⟩=some (.int .i64 0):=kB9.cell 0;have e1:w9.cell? ⟨w.heap.size,1,none⟩=some (.slice none 0 0):=kB9.cell 1;have e2:w9.cell? ⟨w.heap.size,2,none⟩=some (.slice none 0 0):=kB9.cell 2;have d0:w9.cell? ⟨w.heap.size+1,0,none⟩=some (.int .i64 (kk:Int)):=kX9.cell 0;have d1:w9.cell? ⟨w.heap.size+1,1,none⟩=some (.slice ta acc.length tc):=kX9.cell 1;have d2:w9.cell? ⟨w.heap.size+1,2,none⟩=some (.slice aa acc.length ac):=kX9.cell 2;have ff:∀ i,w9.frozen? ⟨w.heap.size,i,none⟩=false:=kB9.frozen;go_wp2_with fail;refine bodyPost_ret (v:=.agg #[.int .i64 (kk:Int),(.slice ta acc.length tc),(.slice aa acc.length ac)]) (by simp[results,Tryz.results77,go_sem,e0,e1,e2]) rfl ?_;refine REnds.yes HP.out (((M9.new (Nat.le_refl _) _ _).new (Nat.le_refl _) _ _).new (Nat.le_refl _) _ _) X9 (((h9.other _ _ (by omega) f9B).other _ _ (by omega) f9B).other _ _ (by omega) f9B) ⟨_,_,rfl,?_,?_,sTA,fun g hg=>x9.keep (oT.lt g hg).2 (sT g hg),fun g hg=>x9.keep (oA.lt g hg).2 (sA g hg)⟩
     ·refine own_le (own_move oT (fun g hg=>?_)) (by omega:w.heap.size<=w.heap.size+2)
      have:=oT.lt g hg;have hgx:g≠w.heap.size:=by omega
      rw[Below.heap_setCell _ _ _ _ hgx,Below.heap_setCell _ _ _ _ hgx,Below.heap_setCell _ _ _ _ hgx,m9.block g this.2 (by omega) (sT g hg)]
     ·refine own_le (own_move oA (fun g hg=>?_)) (by omega:w.heap.size<=w.heap.size+2)
      have:=oA.lt g hg;have hgx:g≠w.heap.size:=by omega
      rw[Below.heap_setCell _ _ _ _ hgx,Below.heap_setCell _ _ _ _ hgx,Below.heap_setCell _ _ _ _ hgx,m9.block g this.2 (by omega) (sA g hg)]
    ·have t59:((Lx.refW (Lx.hd tsr)).toList == [59])=false:=by
      refine text_no (l:=[59]) ?_;exact fun e=>hs ((Lx.refW_eq (b:=Lx.tSemi) (by decide) (by decide)).1 e)
     have HSE:Hid (acc=[]∨¬ Lx.hd tsr=Lx.tSemi):=.inr hs;clear hs;go_wp2_with fail
     go_region_law (first
      | (refine step_append_lies _ rfl (.tmp 30) (.tmp 35) 24 rfl (w.heap.size+2) 3 i0 _ 1 8 Tryz.underlying24 hi hz0 hz1 hz2 rfl (by decide) (.slice aa acc.length ac) acc.length (acc.map fun t=>.int .i64 (t.2:Int)) (by simp[Act.eval]) oAD ⟨wr.heap.size,0,none⟩ 1 1 [.int .i64 (Lx.pl tsr:Int)] (by simp[Act.eval]) rfl (news_of (Blk.new wr _ 3).drew) (by simp[Value.oneCell']) (by decide) (by unfold maxLen;omega) (by omega) (by simp;omega) _ rfl ?_;intro g2 cap2 w2 oA2x hgrow2 hat2 hlt2;have kX2:=((kX.alloc _).drew).grown hgrow2 (fun e=>by have:=(oA.lt _ e.symm).1;omega);have c22:w2.cell? ⟨w.heap.size+1,2,none⟩=some (.slice aa acc.length ac):=kX2.cell 2;have f22:∀ i,w2.frozen? ⟨w.heap.size+1,i,none⟩=false:=kX2.frozen))
     all_goals
      have kB2:=(kB.alloc (.cells #[.int .i64 (Lx.pl tsr:Int)] 3)).drew.grown hgrow2 (fun e=>by have:=(oA.lt _ e.symm).1;omega);have M2:=(M.alloc (.cells #[.int .i64 (Lx.pl tsr:Int)] 3)).drew.grown hgrow2 (fun k hk=>.inl (by have:=(oA.lt _ hk).1;omega));have s2:wr.heap.size+1<=w2.heap.size:=by have:=hgrow2.size;simpa using this
      have h2:=(hr.alloc (.cells #[.int .i64 (Lx.pl tsr:Int)] 3)).drew.move (hgrow2.block q (by simp;omega) (fun e=>by have:=(oA.lt _ e.symm).1;omega)) (fun g hg=>hgrow2.block g (by have:=hr.owl g hg;simp;omega) (fun e=>sA g e.symm hg));have h2':=h2.other (b:=w.heap.size+1) 2 (Value.slice (some ⟨g2,0,none⟩) (acc.length+1) cap2) (by omega) fX;have kX2':=kX2.set 2 (Value.slice (some ⟨g2,0,none⟩) (acc.length+1) cap2);have kB2':Blk (w2.setCell ⟨w.heap.size+1,2,none⟩ (Value.slice (some ⟨g2,0,none⟩) (acc.length+1) cap2)) w.heap.size #[.int .i64 0,.slice none 0 0,.slice none 0 0] 137:=kB2.other (by omega) _;have M2':=M2.new (b:=w.heap.size+1) (by omega) 2 (Value.slice (some ⟨g2,0,none⟩) (acc.length+1) cap2);have oA2:=own_move (w':=w2.setCell ⟨w.heap.size+1,2,none⟩ (Value.slice (some ⟨g2,0,none⟩) (acc.length+1) cap2)) oA2x (fun g hg=>Below.heap_setCell _ _ _ _ (fun e=>by have:=(oA2x.lt g hg).1;have e':g=w.heap.size+1:=e;omega));have oT2:=own_move (w':=w2.setCell ⟨w.heap.size+1,2,none⟩ (Value.slice (some ⟨g2,0,none⟩) (acc.length+1) cap2)) oT (fun g hg=>by
       have:=oT.lt g hg;have hgx:g≠w.heap.size+1:=by omega
       rw[Below.heap_setCell _ _ _ _ hgx,hgrow2.block g (by simp;omega) (fun e=>sTA g hg e.symm)];exact Below.heap_alloc _ _ _ this.2)
      have sA2:∀ g,(Value.slice (some ⟨g2,0,none⟩) (acc.length+1) cap2).ownBlock=some g->sgr.ownBlock≠some g:=fun g hg e=>by
       have e':g2=g:=by simpa [Value.ownBlock]using hg
       rcases hat2 with h1 | h1
       ·exact sA g (by rw[h1,e']) e
       ·have:=hr.owl g e;simp at h1;omega
      have sTA2:∀ g,(Value.slice ta acc.length tc).ownBlock=some g->g2≠g:=fun g hg e=>by
       rcases hat2 with h1 | h1
       ·exact sTA g hg (by rw[h1,e])
       ·have:=(oT.lt g hg).2;simp at h1;omega
      go_wp2_with fail;refine (rtoken_rr h2').mono ?_;intro e w3 he;cases hpw:Lx.pWord Lx.isToken tsr with
      | error x =>
       obtain⟨n,a⟩:=x;obtain⟨v3,sg3,sl3,rfl,m3,x3,h3,rfl⟩:=he.err hpw;have HE:Hid (Lx.pLevel ts=.error (n,a)):=hlc.out.err hne HSE.out hpw;clear hpw he;have x23:=x3;have kX3:=kX2'.mv m3 (by omega) fX;have kB3:=kB2'.mv m3 (by omega) fB;have f3X:=x3.keep (b:=w.heap.size+1) kX2'.lt fX;have f3B:=x3.keep (b:=w.heap.size) kB2'.lt fB;have M3:=M2'.trans X m3;have X3:=X.trans M2'.size x3;have oT3:=own_move oT2 (fun g hg=>m3.block g (oT2.lt g hg).2 (fun e=>by have:=(oT2.lt g hg).1;omega) (sT g hg));have oA3:=own_move oA2 (fun g hg=>m3.block g (oA2.lt g hg).2 (fun e=>by have:=(oA2.lt g hg).1;omega) (sA2 g hg));have sT3:∀ g,(Value.slice ta acc.length tc).ownBlock=some g->sg3.ownBlock≠some g:=fun g hg=>x3.keep (oT2.lt g hg).2 (sT g hg)
       have sA3:∀ g,(Value.slice (some ⟨g2,0,none⟩) (acc.length+1) cap2).ownBlock=some g->sg3.ownBlock≠some g:=fun g hg=>x3.keep (oA2.lt g hg).2 (sA2 g hg)
       have c31:w3.cell? ⟨w.heap.size+1,1,none⟩=some (.slice ta acc.length tc):=kX3.cell 1;have lX3:=kX3.lt
       go_wp2_with (first
        | (at_builtin;refine wpList_append_lies _ rfl _ _ 22 rfl (w.heap.size+2) 9 j0 _ 1 16 Tryz.underlying22 hj hy0 hy1 hy2 rfl (by decide) (.slice ta acc.length tc) acc.length (acc.map fun t=>.string t.1) rfl (oT3.alloc _) ⟨w3.heap.size,0,none⟩ 1 1 [.string ⟨#[]⟩] rfl rfl (news_of (Blk.new w3 _ 9)) (by simp[Value.oneCell']) (by decide) (by unfold maxLen;omega) (by omega) (by simp;omega) _ rfl ?_;intro g4 cap4 w4 oT4 hgrow4 hat4 hlt4;have kX4:=(kX3.alloc _).grown hgrow4 (fun e=>by have:=(oT3.lt _ e.symm).1;omega);have c41:w4.cell? ⟨w.heap.size+1,1,none⟩=some (.slice ta acc.length tc):=kX4.cell 1;have f41:∀ i,w4.frozen? ⟨w.heap.size+1,i,none⟩=false:=kX4.frozen))
       have kB4:=(kB3.alloc (.cells #[.string ⟨#[]⟩] 9)).grown hgrow4 (fun e=>by have:=(oT3.lt _ e.symm).1;omega);have M4:=(M3.alloc (.cells #[.string ⟨#[]⟩] 9)).grown hgrow4 (fun k hk=>.inl (by have:=(oT3.lt _ hk).1;omega));have s34:w3.heap.size+1<=w4.heap.size:=by have:=hgrow4.size;simpa using this
       have h4:=(h3.alloc (.cells #[.string ⟨#[]⟩] 9)).move (hgrow4.block q (by simp;omega) (fun e=>by have:=(oT3.lt _ e.symm).1;omega)) (fun g hg=>hgrow4.block g (by have:=h3.owl g hg;simp;omega) (fun e=>sT3 g e.symm hg));have h4':=h4.other (b:=w.heap.size+1) 1 (.slice (some ⟨g4,0,none⟩) (acc.length+1) cap4) (by omega) f3X;have kX4':=kX4.set 1 (.slice (some ⟨g4,0,none⟩) (acc.length+1) cap4);have kB4':Blk (w4.setCell ⟨w.heap.size+1,1,none⟩ (.slice (some ⟨g4,0,none⟩) (acc.length+1) cap4)) w.heap.size #[.int .i64 0,.slice none 0 0,.slice none 0 0] 137:=kB4.other (by omega) _;have M4':=M4.new (b:=w.heap.size+1) (by omega) 1 (.slice (some ⟨g4,0,none⟩) (acc.length+1) cap4);go_roundg 0
       case measure=>omega
       case rel=>exact .inr ⟨n,a,sg3,sl3,acc.length,_,_,_,_,_,rfl,h4',kX4',kB4',f3B,M4',X3,HE⟩
      | ok x =>
       obtain⟨b,ts3⟩:=x;obtain⟨v3,sg3,sl3,rfl,m3,x3,h3,rfl⟩:=he.ok hpw;have hl3:ts3.length+1=tsr.length:=by rw[(Lx.pWord_len hpw).1];exact htl
       have HLC:Hid (LC ts ts3 (acc++[(b,Lx.pl tsr)])):=hlc.out.ok hne (by omega) HSE.out hpw;clear hpw he;have x23:=x3;have kX3:=kX2'.mv m3 (by omega) fX;have kB3:=kB2'.mv m3 (by omega) fB;have f3X:=x3.keep (b:=w.heap.size+1) kX2'.lt fX;have f3B:=x3.keep (b:=w.heap.size) kB2'.lt fB;have M3:=M2'.trans X m3;have X3:=X.trans M2'.size x3;have oT3:=own_move oT2 (fun g hg=>m3.block g (oT2.lt g hg).2 (fun e=>by have:=(oT2.lt g hg).1;omega) (sT g hg));have oA3:=own_move oA2 (fun g hg=>m3.block g (oA2.lt g hg).2 (fun e=>by have:=(oA2.lt g hg).1;omega) (sA2 g hg));have sT3:∀ g,(Value.slice ta acc.length tc).ownBlock=some g->sg3.ownBlock≠some g:=fun g hg=>x3.keep (oT2.lt g hg).2 (sT g hg)
       have sA3:∀ g,(Value.slice (some ⟨g2,0,none⟩) (acc.length+1) cap2).ownBlock=some g->sg3.ownBlock≠some g:=fun g hg=>x3.keep (oA2.lt g hg).2 (sA2 g hg)
       have c31:w3.cell? ⟨w.heap.size+1,1,none⟩=some (.slice ta acc.length tc):=kX3.cell 1;have lX3:=kX3.lt
       go_wp2_with (first
        | (at_builtin;refine wpList_append_lies _ rfl _ _ 22 rfl (w.heap.size+2) 9 j0 _ 1 16 Tryz.underlying22 hj hy0 hy1 hy2 rfl (by decide) (.slice ta acc.length tc) acc.length (acc.map fun t=>.string t.1) rfl (oT3.alloc _) ⟨w3.heap.size,0,none⟩ 1 1 [.string b] rfl rfl (news_of (Blk.new w3 _ 9)) (by simp[Value.oneCell']) (by decide) (by unfold maxLen;omega) (by omega) (by simp;omega) _ rfl ?_;intro g4 cap4 w4 oT4 hgrow4 hat4 hlt4;have kX4:=(kX3.alloc _).grown hgrow4 (fun e=>by have:=(oT3.lt _ e.symm).1;omega);have c41:w4.cell? ⟨w.heap.size+1,1,none⟩=some (.slice ta acc.length tc):=kX4.cell 1;have f41:∀ i,w4.frozen? ⟨w.heap.size+1,i,none⟩=false:=kX4.frozen))
       have kB4:=(kB3.alloc (.cells #[.string b] 9)).grown hgrow4 (fun e=>by have:=(oT3.lt _ e.symm).1;omega);have M4:=(M3.alloc (.cells #[.string b] 9)).grown hgrow4 (fun k hk=>.inl (by have:=(oT3.lt _ hk).1;omega));have s34:w3.heap.size+1<=w4.heap.size:=by have:=hgrow4.size;simpa using this
       have h4:=(h3.alloc (.cells #[.string b] 9)).move (hgrow4.block q (by simp;omega) (fun e=>by have:=(oT3.lt _ e.symm).1;omega)) (fun g hg=>hgrow4.block g (by have:=h3.owl g hg;simp;omega) (fun e=>sT3 g e.symm hg));have h4':=h4.other (b:=w.heap.size+1) 1 (.slice (some ⟨g4,0,none⟩) (acc.length+1) cap4) (by omega) f3X;have kX4':=kX4.set 1 (.slice (some ⟨g4,0,none⟩) (acc.length+1) cap4);have kB4':Blk (w4.setCell ⟨w.heap.size+1,1,none⟩ (.slice (some ⟨g4,0,none⟩) (acc.length+1) cap4)) w.heap.size #[.int .i64 0,.slice none 0 0,.slice none 0 0] 137:=kB4.other (by omega) _;have M4':=M4.new (b:=w.heap.size+1) (by omega) 1 (.slice (some ⟨g4,0,none⟩) (acc.length+1) cap4);go_roundg (ts3.length+1)
       case measure=>omega
       case rel =>
        refine .inl ⟨ts3,acc++[(b,Lx.pl tsr)],_,_,sg3,sl3,rfl,by simp;omega,h4',kX4',kB4',f3B,f3X,⟨?_,?_,?_,?_,?_⟩,M4',X3,HLC⟩
        ·rw[List.map_append,List.length_append]
         exact own_move oT4 (fun g hg=>Below.heap_setCell _ _ _ _ (fun e=>by have:=(oT4.lt g hg).1;have e':g=w.heap.size+1:=e;omega))
        ·rw[List.map_append,List.length_append]
         refine own_move oA3 (fun g hg=>?_);have hg2:g2=g:=by simpa [Value.ownBlock]using hg
         have:=oA3.lt g hg;have hgx:g≠w.heap.size+1:=by omega
         rw[Below.heap_setCell _ _ _ _ hgx,hgrow4.block g (by simp;omega) (fun e=>sTA2 g e.symm hg2)];exact Below.heap_alloc _ _ _ this.2
        ·intro g hg e
         have e4:g4=g:=by simpa [Value.ownBlock]using hg
         have e2:g2=g:=by simpa [Value.ownBlock]using e
         rcases hat4 with h1 | h1
         ·exact sTA2 g (by rw[h1,e4]) e2
         ·have:=(oA3.lt g2 rfl).2;simp at h1;omega
        ·intro g hg e
         have e4:g4=g:=by simpa [Value.ownBlock]using hg
         rcases hat4 with h1 | h1
         ·exact sT3 g (by rw[h1,e4]) e
         ·have:=h3.owl g e;simp at h1;omega
        ·exact sA3
  ·have hn0:((n:Int) == 0)=false:=beq_eq_false_iff_ne.2 (by have:=hx.pos;omega)
   have hl0:(((tk+1:Nat):Int) == 0)=false:=beq_eq_false_iff_ne.2 (by omega);have hl0':(((tk:Int)+1) == 0)=false:=beq_eq_false_iff_ne.2 (by omega);obtain⟨ii,WW,kqx⟩:=hx.blk;have c4:wr.cell? ⟨q,4,none⟩=some (.int .i64 (n:Int)):=kqx.cell 4;have x1:wr.cell? ⟨w.heap.size+1,1,none⟩=some (.slice ta (tk+1) tc):=kX.cell 1;go_wp2_with fail;refine (must_rx hx _).mono ?_;rintro e w9 ⟨rfl,hw⟩;obtain rfl:=hw;have kB9:=kB;have kX9:=kX;have M9:=M;have X9:=X;have h9:=hx;have f9B:=fB;have e0:w9.cell? ⟨w.heap.size,0,none⟩=some (.int .i64 0):=kB9.cell 0;have e1:w9.cell? ⟨w.heap.size,1,none⟩=some (.slice none 0 0):=kB9.cell 1;have e2:w9.cell? ⟨w.heap.size,2,none⟩=some (.slice none 0 0):=kB9.cell 2;have d0:w9.cell? ⟨w.heap.size+1,0,none⟩=some (.int .i64 (kk:Int)):=kX9.cell 0;have d1:w9.cell? ⟨w.heap.size+1,1,none⟩=some (.slice ta (tk+1) tc):=kX9.cell 1;have d2:w9.cell? ⟨w.heap.size+1,2,none⟩=some (.slice aa ak ac):=kX9.cell 2;have ff:∀ i,w9.frozen? ⟨w.heap.size,i,none⟩=false:=kB9.frozen;go_wp2_with fail;refine bodyPost_ret (v:=.agg #[.int .i64 (kk:Int),(.slice ta (tk+1) tc),(.slice aa ak ac)]) (by simp[results,Tryz.results77,go_sem,e0,e1,e2]) rfl ?_;exact REnds.no HE.out (((M9.new (Nat.le_refl _) _ _).new (Nat.le_refl _) _ _).new (Nat.le_refl _) _ _) X9 (((h9.other _ _ (by omega) f9B).other _ _ (by omega) f9B).other _ _ (by omega) f9B) ⟨_,_,_,_,_,_,_,rfl⟩
end Go.Proofs.YtlcppnabbicmoaaGreatDoor

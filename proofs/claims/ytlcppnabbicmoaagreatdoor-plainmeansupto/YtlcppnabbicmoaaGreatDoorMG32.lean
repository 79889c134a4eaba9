import Derived.Test.YtlcppnabbicmoaaGreatDoorMG31
set_option maxHeartbeats 8000000
set_option maxRecDepth 1000000
namespace Go.Proofs.YtlcppnabbicmoaaGreatDoor
open Lx Go.Proofs.Tryz
open Go.RowKit
open Tr
theorem ahH {w:World}{ta na ba ka:Option Addr}{nT tc nN nc nb bc nk kc:Nat}{vP vR:Value}{P:List Lx.Pd}{row:List Nat}(h:Hu w nT nN vP P)(hR:rT w vR row)(hrt:∀ s∈row,0<s/\s<nT)(hN:row.length<=1048576)(h0:0<nN)(b:Bool)(hb:b=true↔dQ P row (.s nT) 0 row.length):Calls prog 19 #[.agg #[.slice ta nT tc,.slice na nN nc,vP,.slice ba nb bc,.slice ka nk kc],vR] w fun e w'=>e=.returned (.bool b)/\Below w.heap.size w w':=by
 obtain⟨pa,pc,rfl,-⟩:∃ a c,vP=.slice a P.length c/\P.length<=maxLen:=by obtain⟨ps,h1,h2,-⟩:=h.pp;exact aI h2
 obtain⟨ra,rc,qX,-,-⟩:=id hR;subst qX;obtain⟨W0,hW0⟩:∃ W,W=w.alloc (.cells #[.slice ta nT tc,.slice na nN nc,.slice pa P.length pc,.slice ba nb bc,.slice ka nk kc] 32):=⟨_,rfl⟩;have hb0:Below w.heap.size w W0:=by rw[hW0];exact (Below.refl _ _).alloc (lr0) _
 have hz9:W0.heap.size=w.heap.size+1:=by rw[hW0];simp
 have r9:aj W0 w.heap.size #[.slice ta nT tc,.slice na nN nc,.slice pa P.length pc,.slice ba nb bc,.slice ka nk kc] 32:=by rw[hW0];exact aj.new w _ 32
 have q1:=afT (ta:=ta) (na:=na) (ba:=ba) (ka:=ka) (tc:=tc) (nc:=nc) (nb:=nb) (bc:=bc) (nk:=nk) (kc:=kc) (h.below hb0) (hR.below hb0) hrt hN;have HB:Hid (b=true↔dQ P row (.s nT) 0 row.length):=hb;clear hb h hR hrt;go_enter func19,ntmps19;go_wp2_with fail;rw[<-hW0];refine q1.mono ?_;rintro e w1 ⟨B0,sb,vO,gs,M,rfl,hS,hgl,hsn,hcl,hb1⟩;have q2:=QA hS (s:=nT) (i:=0) (j:=row.length) (by omega) (Nat.zero_le _) (lr0);have e:eP M (row.length+1) nT 0 row.length=b:=by
  have:=aiK hsn hcl (s:=nT);rw[<-HB.out]at this;cases b <;> cases hq:eP M (row.length+1) nT 0 row.length
  ·rfl
  ·rw[hq]at this;have:=this.1 rfl;cases this
  ·rw[hq]at this;have:=this.2 rfl;cases this
  ·rfl
 rw[e]at q2;have kA1:aj w1 w.heap.size _ 32:=(hb1.block _ (by omega)).trans r9;have z0:w1.cell? ⟨w.heap.size,0,none⟩=some (.slice ta nT tc):=kA1.cell 0;have hb2:Below w.heap.size w w1:=hb0.trans (hb1.mono hb0.size);clear q1 hsn hcl hS HB e;go_wp2_with fail;refine q2.mono ?_;rintro e w2 ⟨rfl,hb3⟩;go_wp2_with fail;go_ret;exact⟨rfl,hb2.trans (hb3.mono hb2.size)⟩
namespace Lx
def kU (g:Gr)(M:List (List Bool))(row:List ByteArray)(r:Nat)(a j:Nat):Prop:=∀ h:r<g.rules.length,MR (RM g M (row.length+1)) row (.A g.rules[r].alts) a j->eP M (row.length+1) r a j=true
theorem qJ.zero {g:Gr}{row:List ByteArray}{n N:Nat}:qJ g row (List.replicate n (List.replicate N false)):=by
 intro r hr i j _ _ h;have:eP (List.replicate n (List.replicate N false)) (row.length+1) r i j=false:=by
  unfold eP rowAt;rw[List.getElem?_replicate]
  split
  ·exact EO
  ·rfl
 rw[this]at h;cases h
theorem qJ.put {g:Gr}{row:List ByteArray}{M:List (List Bool)}(h:qJ g row M)(hr:∀ b∈M,b.length=(row.length+1)*(row.length+1)){r:Nat}(hrl:r<g.rules.length)(hl:r<M.length){a j:Nat}(ha:a<=row.length)(hj:j<=row.length)(hm:Mn g.rules row (.A g.rules[r].alts) a j):qJ g row (pz M r (a*(row.length+1)+j)):=by
 intro s hs i k h1 h2 h3;rcases (Ht hr hl (by omega) (by omega) (by omega)).1 h3 with h4 | ⟨rfl,rfl,rfl⟩
 ·exact h s hs i k h1 h2 h4
 ·exact hm
theorem Z7 {n a k:Nat}(ha:a<n):au ((List.replicate n false).set a true) k=true↔k=a:=by
 rw[at_set,EO]
 by_cases e:a=k
 ·subst e;simp[ha]
 ·simp[e];exact fun h=>absurd h.symm e
theorem From.one {R:ByteArray->Nat->Nat->Prop}{row:List ByteArray}{n a:Nat}{L:List Bool}{nd:Nd}(ha:a<n)(h:From R row ((List.replicate n false).set a true) nd L):L.length=n/\∀ j,j<n->(au L j=true↔MR R row nd a j):=by
 refine⟨h.1.trans (by simp),fun j hj=>(h.2 j (by simpa using hj)).trans ⟨fun ⟨a',h1,h2⟩=>?_,fun h2=>⟨a,(Z7 ha).2 rfl,h2⟩⟩⟩;rw[(Z7 ha).1 h1]at h2;exact h2
end Lx
structure sw (w:World) (mb nn:Nat) (vL vR vW vO:Value) (gs:List Nat) (M:List (List Bool)):Prop where
 blk:aj w mb #[vL,vR,vW,vO] 95
 on:BD (mb+1) w vO nn gs M
theorem sw.below {w w':World}{mb nn:Nat}{vL vR vW vO:Value}{gs:List Nat}{M:List (List Bool)}(h:sw w mb nn vL vR vW vO gs M)(hb:Below w.heap.size w w'):sw w' mb nn vL vR vW vO gs M :=
 ⟨(hb.block _ h.blk.lt).trans h.blk,h.on.move fun g hg=>hb.block g hg⟩
theorem sw.put {w w':World}{mb nn:Nat}{vL vR vW vO:Value}{gs:List Nat}{M:List (List Bool)}(h:sw w mb nn vL vR vW vO gs M){s:Nat}(hs:s<gs.length){k:Nat}(hw:w'=(w.setCell ⟨gs[s],k,none⟩ (.bool true)).drew):sw w' mb nn vL vR vW vO gs (pz M s k):=by
 subst hw;have hs':s<M.length:=by rw[h.on.len];exact hs
 have hg:=h.on.ge _ (List.getElem_mem hs);obtain⟨gO,cap,rC,c0,kb,lb⟩:=h.on.at hs;have hJ:mE w gs[s] (Lx.rowAt M s) ((Lx.rowAt M s).set k true) (w.setCell ⟨gs[s],k,none⟩ (.bool true)).drew:=⟨by have:=(kb.set k (.bool true)).drew;rw[p9]at this;exact this,fun g hg=>hs0 hg,rfl,rfl,rfl,by simp[World.setCell]⟩;exact⟨(hs0 (by show mb≠gs[s];omega)).trans h.blk,h.on.join hs hJ (by rw[List.length_set];exact lb)⟩
theorem ahI {F:Nat->Prop}{w:World}{vL vR vW:Value}{g:Lx.Gr}{row:List ByteArray}(h:DG F w vL vR g)(hW:w.ownsRow 0 9 1 vW row.length (row.map Value.string))(nd:(g.rules.map Lx.Rl.name).Nodup)(h0:0<g.rules.length)(hrl:g.rules.length<=2001)(hK:∀ r∈g.rules,∀ x∈aX 9 r.alts,wS g x)(hN:row.length<=1048576)(b:Bool)(hb:b=true↔Lx.Mn g.rules row (.A g.rules[0].alts) 0 row.length):Calls prog 21 #[.agg #[vL,vR],vW] w fun e w'=>e=.returned (.bool b)/\Below w.heap.size w w':=by
 obtain⟨a1,c1,pR,-⟩:=h.o9;obtain⟨a2,c2,qD,-⟩:=h.qm;obtain⟨wa,wc,DC,-⟩:=aI hW;subst pR qD DC;have zO:=L6 hN;obtain⟨W0,hW0⟩:∃ W,W=(w.alloc (.cells #[.slice a2 g.levels.length c2,.slice a1 g.rules.length c1] 49)).alloc (.cells #[.slice a2 g.levels.length c2,.slice a1 g.rules.length c1,.slice wa row.length wc,.slice none 0 0] 95):=⟨_,rfl⟩;have hb0:Below w.heap.size w W0:=by rw[hW0];exact ((Below.refl _ _).alloc (lr0) _).alloc (by simp) _
 have hz9:W0.heap.size=w.heap.size+2:=by rw[hW0];simp
 have F4:aj W0 w.heap.size #[.slice a2 g.levels.length c2,.slice a1 g.rules.length c1] 49:=by rw[hW0];exact (aj.new w _ 49).alloc _
 have Uk:aj W0 (w.heap.size+1) #[.slice a2 g.levels.length c2,.slice a1 g.rules.length c1,.slice wa row.length wc,.slice none 0 0] 95:=by rw[hW0];simpa using aj.new (w.alloc (.cells #[.slice a2 g.levels.length c2,.slice a1 g.rules.length c1] 49)) #[.slice a2 g.levels.length c2,.slice a1 g.rules.length c1,.slice wa row.length wc,.slice none 0 0] 95
 obtain⟨m,hm⟩:∃ m,m=row.length+1:=⟨_,rfl⟩;obtain⟨nn,hnn⟩:∃ nn,nn=m*m:=⟨_,rfl⟩;have hnb:nn<=1099513724929:=by rw[hnn,hm];exact zO
 have hmk:=fun w=>BO (n:=nn) hnb w
 have MN:=fun w=>BO (n:=m) (by omega) w
 have hmb:m<=1048577:=by omega
 have DW:Hid (nn=(row.length+1)*(row.length+1)):=by rw[hnn,hm];rfl
 have pY:Hid (m=row.length+1):=hm;have JS:Hid (nn=m*m):=hnn;have e1:IntKind.i64.wrap ((row.length:Int)+1)=(m:Int):=by rw[show ((row.length:Int)+1)=((m:Nat):Int) from by omega];exact wrap64 (by omega)
 have e2:IntKind.i64.wrap ((m:Int)*(m:Int))=(nn:Int):=by rw[<-Int.natCast_mul,<-hnn];exact wrap64 (by omega)
 have HB:Hid (b=true↔Lx.Mn g.rules row (.A g.rules[0].alts) 0 row.length):=hb;clear hm hnn hb;obtain⟨i0,hii,hz0,hz1,hz2⟩:=info_parts Tryz.QK;obtain⟨sb,hsb⟩:∃ sb,w.heap.size+1=sb:=⟨_,rfl⟩;go_enter func21,ntmps21;go_wp2_with fail;rw[<-hW0];clear hW0;rw[hsb]at Uk
 go_loopg [7] g.rules.length (fun k i wr=>∃ (j:Nat) (v:Value) (gs:List Nat),j+k=g.rules.length/\i=.int .i64 (j:Int)/\sw wr sb nn (.slice a2 g.levels.length c2) (.slice a1 g.rules.length c1) (.slice wa row.length wc) v gs (List.replicate j (List.replicate nn false))/\gs.length=j/\Below sb W0 wr/\sb+1<=wr.heap.size)
 case atStart=>exact⟨0,.slice none 0 0,[],by omega,rfl,⟨Uk,⟨World.ownsRow_nil _ _ _ _,rfl,(fun i hi=>absurd hi (by simp)),(fun b hb=>by cases hb),List.nodup_nil,(fun g hg=>by cases hg)⟩⟩,rfl,Below.refl _ _,by omega⟩
 case round =>
  clear Uk;revert wr;intro w2 hrel;obtain⟨j,v,gs,hkj,rfl,⟨xZ,hB2⟩,hgl,hbw2,hs2⟩:=hrel;have gy:Hid (gs.length=j):=hgl;clear hgl;obtain⟨oa,oc,rfl,-⟩:=aI hB2.outer;have nI:aj w2 w.heap.size _ 49:=(hbw2.block _ (by omega)).trans F4;have z1:w2.cell? ⟨w.heap.size,1,none⟩=some (.slice a1 g.rules.length c1):=nI.cell 1
  by_cases hlt:j<g.rules.length
  ·have s3:w2.cell? ⟨sb,3,none⟩=some (.slice oa gs.length oc):=xZ.cell 3
   have lsb:sb<w2.heap.size:=by omega
   have hvs:(Value.slice oa gs.length oc).ownBlock≠some sb:=fun e=>by have:=(hB2.outer.lt _ e).1;omega
   obtain⟨W3,hW3⟩:∃ W,W=w2.alloc (.cells (aL (List.replicate nn false)) 4):=⟨_,rfl⟩;have hb3:Below w2.heap.size w2 W3:=by rw[hW3];exact (Below.refl _ _).alloc (lr0) _
   have hs3:W3.heap.size=w2.heap.size+1:=by rw[hW3];simp
   have k3:aj W3 w2.heap.size (aL (List.replicate nn false)) 4:=by rw[hW3];exact aj.new w2 _ 4
   have oD:=aD (w':=(W3.alloc (.cells #[.slice (some ⟨w2.heap.size,0,none⟩) nn nn] 39)).drew) ((aD (w':=W3) hB2.outer fun g hg=>hb3.block g (hB2.outer.lt g hg).2).alloc (.cells #[.slice (some ⟨w2.heap.size,0,none⟩) nn nn] 39)) fun _ _=>rfl
   have Ub:aj (W3.alloc (.cells #[.slice (some ⟨w2.heap.size,0,none⟩) nn nn] 39)).drew sb _ 95:=(aj.alloc ((hb3.block _ lsb).trans xZ) _).drew;have Uc:aj (W3.alloc (.cells #[.slice (some ⟨w2.heap.size,0,none⟩) nn nn] 39)).drew (w2.heap.size+1) #[.slice (some ⟨w2.heap.size,0,none⟩) nn nn] 39:=by
    have:=(aj.new W3 #[.slice (some ⟨w2.heap.size,0,none⟩) nn nn] 39).drew;rw[hs3]at this;exact this
   subst hW3;go_upto_region 6 with fail
   go_region_law (go_loud (refine step_append_lies _ rfl (.tmp 32) (.tmp 37) 81 rfl (sb+1) 39 i0 _ 1 24 underlying81 hii hz0 hz1 hz2 rfl (by decide) (.slice oa gs.length oc) gs.length (gs.map (rz nn)) (by simp[Act.eval]) oD ⟨w2.heap.size+1,0,none⟩ 1 1 [.slice (some ⟨w2.heap.size,0,none⟩) nn nn] (by simp[Act.eval]) rfl (bP Uc) (by simp[Value.oneCell']) (by decide) (by have:=gy.out;unfold maxLen;omega) (by have:=gy.out;omega) (by simp;omega) _ rfl ?_);intro g2 cap2 w5 hown5 bf jT E9;have DX:=Ub.grown bf (fun e=>hvs e.symm);have c53:w5.cell? ⟨sb,3,none⟩=some (.slice oa gs.length oc):=DX.cell 3;have f51:∀ i,w5.frozen? ⟨sb,i,none⟩=false:=DX.frozen)
   all_goals
    have oP:∀ g,g<w2.heap.size->(Value.slice oa gs.length oc).ownBlock≠some g->w5.heap[g]?=w2.heap[g]?:=fun g hg hv=>by
     rw[bf.block g (by simp;omega) (fun e=>hv e.symm)];exact (Below.heap_alloc _ _ _ (by simp;omega)).trans (Below.heap_alloc _ _ _ hg)
    have hgz:(some w2.heap.size)≠(Value.slice oa gs.length oc).ownBlock:=fun e=>by have:=(hB2.outer.lt _ e.symm).2;omega
    have k5:aj w5 w2.heap.size (aL (List.replicate nn false)) 4:=((k3.alloc _).drew).grown bf hgz;have DU:BD (sb+1) w5 (.slice (some ⟨g2,0,none⟩) (gs.length+1) cap2) nn (gs++[w2.heap.size]) (List.replicate (j+1) (List.replicate nn false)):=by
     rw[Y0 j];exact hB2.push (lr0) (by omega) oP hown5 k5 (by simp)
    have hs5:w2.heap.size+1+1<=w5.heap.size:=by have:=bf.size;simp at this;omega
    have Ud:BD (sb+1) (w5.setCell ⟨sb,3,none⟩ (.slice (some ⟨g2,0,none⟩) (gs.length+1) cap2)) _ nn (gs++[w2.heap.size]) (List.replicate (j+1) (List.replicate nn false)):=DU.up fun g hg=>hs0 (by show g≠sb;omega)
    have Ue:=DX.set 3 (.slice (some ⟨g2,0,none⟩) (gs.length+1) cap2);have hb6:Below sb W0 (w5.setCell ⟨sb,3,none⟩ (.slice (some ⟨g2,0,none⟩) (gs.length+1) cap2)):=by
     refine⟨bf.os.trans hbw2.os,bf.tape.trans hbw2.tape,bf.output.trans hbw2.output,by have:=hbw2.size;simp[World.setCell];omega,fun g hg=>?_⟩;rw[hs0 (by show g≠sb;omega),oP g (by omega) (fun e=>by have:=(hB2.outer.lt _ e).1;omega)];exact hbw2.block g hg
    go_wp2_with fail;go_roundg (g.rules.length - (j+1))
    case measure=>omega
    case rel=>exact⟨j+1,_,gs++[w2.heap.size],by omega,by go_num,⟨Ue,Ud⟩,by rw[List.length_append,List.length_singleton,gy.out],hb6,by simp[World.setCell];omega⟩
  ·obtain rfl:j=g.rules.length:=by omega
   have hMe:sw w2 sb nn (.slice a2 g.levels.length c2) (.slice a1 g.rules.length c1) (.slice wa row.length wc) (.slice oa gs.length oc) gs (List.replicate g.rules.length (List.replicate nn false)):=⟨xZ,hB2⟩;have DR:Hid (qJ g row (List.replicate g.rules.length (List.replicate nn false))):=qJ.zero;generalize List.replicate g.rules.length (List.replicate nn false)=M0 at hMe DR;generalize Value.slice oa gs.length oc=vO at hMe;obtain⟨T,hT⟩:∃ T,T=gs.length*nn:=⟨_,rfl⟩;have F3:Hid (∀ {C:List (List Bool)} {x:World},sw x sb nn (.slice a2 g.levels.length c2) (.slice a1 g.rules.length c1) (.slice wa row.length wc) vO gs C->Lx.tot C<=T):=fun hC=>by
    have:=LP hC.on.rl;rw[hC.on.len,<-hT]at this;exact this
   clear hT xZ hB2 hkj hlt hmk nI;go_wp2_with fail;clear z1
   go_loopg [8] (T+1) (fun k v wr=>∃ (bb:Bool) (M:List (List Bool)),v=.bool bb/\Hid (bb=true->T-Lx.tot M+1<=k)/\sw wr sb nn (.slice a2 g.levels.length c2) (.slice a1 g.rules.length c1) (.slice wa row.length wc) vO gs M/\Below sb W0 wr/\sb+1<=wr.heap.size/\Hid (qJ g row M)/\Hid (bb=false->TW g row M))
   case atStart=>exact⟨true,M0,rfl,fun _=>by omega,hMe,hbw2,hs2,DR,fun h=>by cases h⟩
   case round =>
    clear hMe hbw2 hs2 DR;revert wr;intro wy hrel;obtain⟨bb,M,rfl,oQ,Bv,hby,ly,HG,wT⟩:=hrel;have jU:Below w.heap.size w wy:=hb0.trans (hby.mono (by omega));cases bb with
    | false =>
     have e:eP M (row.length+1) 0 0 row.length=b:=by
      have:=aiN HG.out (wT.out rfl) nd h0;rw[<-HB.out]at this;cases b <;> cases hq:eP M (row.length+1) 0 0 row.length
      ·rfl
      ·rw[hq]at this;have:=this.1 rfl;cases this
      ·rw[hq]at this;have:=this.2 rfl;cases this
      ·rfl
     obtain⟨gO,AP,rC,cM,kb,lb⟩:=Bv.on.at (i:=0) (by rw[gy.out];exact h0);have s3:wy.cell? ⟨sb,3,none⟩=some vO:=Bv.blk.cell 3;subst rC;have hrn:row.length<nn:=by
      have:=EM (n:=m) (i:=0) (j:=row.length) (by have:=pY.out;omega) (by have:=pY.out;omega);rw[JS.out];omega
     generalize gs[0]'(by rw[gy.out];exact h0)=gb at cM kb;have cb:wy.cell? ⟨gb,row.length,none⟩=some (.bool b):=by
      rw[kb.cell row.length,fI _ (by omega),<-e];unfold eP;rw[Nat.zero_mul,Nat.zero_add]
     have e5:IntKind.i64.wrap ((m:Int) - 1)=(row.length:Int):=by rw[show ((m:Int) - 1)=((row.length:Nat):Int) from by have:=pY.out;omega];exact wrap64 (by omega)
     have i1:(0:Int)<(gs.length:Int):=by have:=gy.out;omega
     have i2:(0:Int)<=(row.length:Int):=by omega
     have i3:(row.length:Int)<(nn:Int):=by omega
     clear wT oQ e kb;go_wp2_with fail;go_ret;exact⟨rfl,jU⟩
    | true =>
     obtain⟨K0,jV⟩:∃ K0,Hid (K0=gk):=⟨gk,rfl⟩;have CV:Hid (T-Lx.tot M+1<=K0):=by have:=oQ.out rfl;rw[jV.out];exact this
     clear oQ wT;have H0:Hid (gu M M false (∀ r,r<0->∀ i j,i<=row.length->i<=j->j<=row.length->kU g M row r i j)):=⟨fun _=>⟨rfl,fun a ha=>by omega⟩,fun h=>by cases h⟩;go_wp2_with fail
     go_loopg [8,9] g.rules.length (fun k v i wr=>∃ (r:Nat) (bb:Bool) (C:List (List Bool)),r+k=g.rules.length/\v=.bool bb/\i=.int .i64 (r:Int)/\sw wr sb nn (.slice a2 g.levels.length c2) (.slice a1 g.rules.length c1) (.slice wa row.length wc) vO gs C/\Below sb W0 wr/\sb+1<=wr.heap.size/\Hid (qJ g row C)/\Hid (gu M C bb (∀ a,a<r->∀ i j,i<=row.length->i<=j->j<=row.length->kU g M row a i j)))
     case atStart=>exact⟨0,false,M,by omega,rfl,rfl,Bv,hby,ly,HG,H0⟩
     case round =>
      clear H0 Bv hby ly HG jU;revert wr;intro wx hrel;obtain⟨r,bb,C,hkr,rfl,rfl,zS,hbx,lx,HG,HT⟩:=hrel;have Ul:aj wx w.heap.size _ 49:=(hbx.block _ (by omega)).trans F4;have z1:wx.cell? ⟨w.heap.size,1,none⟩=some (.slice a1 g.rules.length c1):=Ul.cell 1
      by_cases hlt:r<g.rules.length
      ·have Bw:Hid ((∀ a,a<r->∀ i j,i<=row.length->i<=j->j<=row.length->kU g M row a i j)->(∀ i j,i<=row.length->i<=j->j<=row.length->kU g M row r i j)->(∀ a,a<r+1->∀ i j,i<=row.length->i<=j->j<=row.length->kU g M row a i j)):=fun h1 h2 a ha=>by
        by_cases e:a=r
        ·subst e;exact h2
        ·exact h1 a (by omega)
       generalize (∀ a,a<r->∀ i j,i<=row.length->i<=j->j<=row.length->kU g M row a i j)=KA at HT Bw;obtain⟨KB,DY⟩:∃ KB,KB=(∀ a,a<r+1->∀ i j,i<=row.length->i<=j->j<=row.length->kU g M row a i j):=⟨_,rfl⟩;rw[<-DY]at Bw;have Uh:Hid (∀ {C b},gu M C b KB->gu M C b (∀ a,a<r+1->∀ i j,i<=row.length->i<=j->j<=row.length->kU g M row a i j)):=fun h=>DY ▸ h
       clear DY;have H0:Hid (gu M C bb (KA/\∀ i,i<0->∀ j,i<=j->j<=row.length->kU g M row r i j)):=HT.out.keep fun _ h=>⟨h,fun i hi=>by omega⟩
       go_wp2_with fail;clear z1 HT Ul
       go_loopg [8,10] m (fun k v i wr=>∃ (a:Nat) (bb:Bool) (C:List (List Bool)),a+k=m/\v=.bool bb/\i=.int .i64 (a:Int)/\sw wr sb nn (.slice a2 g.levels.length c2) (.slice a1 g.rules.length c1) (.slice wa row.length wc) vO gs C/\Below sb W0 wr/\sb+1<=wr.heap.size/\Hid (qJ g row C)/\Hid (gu M C bb (KA/\∀ i,i<a->∀ j,i<=j->j<=row.length->kU g M row r i j)))
       case atStart=>exact⟨0,bb,C,by omega,rfl,rfl,zS,hbx,lx,HG,H0⟩
       case round =>
        clear H0 zS hbx lx HG;revert wr;intro wv hrel;obtain⟨a,bb,C,hka,rfl,rfl,DZ,hbv,lv,HG,HT⟩:=hrel
        by_cases R4:a<m
        ·have zP:Hid ((KA/\∀ i,i<a->∀ j,i<=j->j<=row.length->kU g M row r i j)->(∀ j,a<=j->j<=row.length->kU g M row r a j)->(KA/\∀ i,i<a+1->∀ j,i<=j->j<=row.length->kU g M row r i j)):=fun h1 h2=>⟨h1.1,fun i hi=>by
          by_cases e:i=a
          ·subst e;exact h2
          ·exact h1.2 i (by omega)⟩
         generalize (KA/\∀ i,i<a->∀ j,i<=j->j<=row.length->kU g M row r i j)=KC at HT zP;obtain⟨KD,D8⟩:∃ KD,KD=(KA/\∀ i,i<a+1->∀ j,i<=j->j<=row.length->kU g M row r i j):=⟨_,rfl⟩;rw[<-D8]at zP;have Uj:Hid (∀ {C b},gu M C b KD->gu M C b (KA/\∀ i,i<a+1->∀ j,i<=j->j<=row.length->kU g M row r i j)):=fun h=>D8 ▸ h
         clear D8;obtain⟨ag,hag⟩:∃ ag,wv.heap.size=ag:=⟨_,rfl⟩;obtain⟨W3,hW3⟩:∃ W,W=wv.alloc (.cells (aL (List.replicate m false)) 4):=⟨_,rfl⟩;have k3:aj W3 ag (aL (List.replicate m false)) 4:=by rw[hW3,<-hag];exact aj.new wv _ 4
         have hb3:Below ag wv W3:=by rw[hW3,<-hag];exact (Below.refl _ _).alloc (lr0) _
         have c3:W3.cell? ⟨ag,a,none⟩=some (.bool (au (List.replicate m false) a)):=(k3.cell a).trans (fI _ (by simpa using R4));have f3:∀ i,W3.frozen? ⟨ag,i,none⟩=false:=k3.frozen;obtain⟨W4,yg⟩:∃ W,W=W3.setCell ⟨ag,a,none⟩ (.bool true):=⟨_,rfl⟩;have k4:aj W4 ag (aL ((List.replicate m false).set a true)) 4:=by rw[yg,<-p9];exact k3.set a _
         have hb4:Below ag wv W4:=by rw[yg];exact hb3.setCell (p:=⟨ag,a,none⟩) (lr0) _
         have rU:Below wv.heap.size wv W4:=by rw[hag];exact hb4
         have qK:=DZ.below rU;have R5:Below sb W0 W4:=hbv.trans (rU.mono (by omega));have vY:Below w.heap.size w W4:=hb0.trans (R5.mono (by omega));have me4:Me F (sb+1) W4 sb _ _ _ vO g row gs C:=⟨qK.blk,h.below vY,aD hW fun g hg=>vY.block g (hW.lt g hg).2,by rw[<-DW.out];exact qK.on,hN,gy.out⟩;obtain⟨gR,MC,va,pR,-,hA,-,x1,-⟩:=(h.below vY).rule hlt;cases pR;have q1:Calls prog 39 #[.pointer (some ⟨sb,0,none⟩),va,.slice (some ⟨ag,0,none⟩) m m] W4 (fun e w''=>∃ (lg:Nat) (L:List Bool),e=.returned (.slice (some ⟨lg,0,none⟩) m m)/\W4.heap.size<=lg/\aj w'' lg (aL L) 4/\Hid (L.length=m/\∀ j,j<m->(au L j=true↔Lx.MR (Lx.RM g C (row.length+1)) row (.A g.rules[r].alts) a j))/\Below W4.heap.size W4 w''):=by
          have hm:=pY.out;subst hm;refine (ZF 9 F (sb+1) W4 sb _ _ _ vO g row gs C me4 va g.rules[r].alts hA (hK _ (List.getElem_mem hlt)) ag _ k4 (by simp)).mono ?_;rintro e w'' ⟨lg,L,h1,h2,h3,h4,h5⟩;exact⟨lg,L,h1,h2,h3,h4.one R4,h5⟩
         obtain⟨xa,xc,hva,-⟩:=ay.len hA;subst hva;have xW:aj W4 w.heap.size _ 49:=(R5.block _ (by omega)).trans F4;have z1:W4.cell? ⟨w.heap.size,1,none⟩=some (.slice (some ⟨gR,0,none⟩) g.rules.length c1):=xW.cell 1;have abl:Hid (∀ {j:Nat},Lx.MR (Lx.RM g C (row.length+1)) row (.A g.rules[r].alts) a j->Lx.Mn g.rules row (.A g.rules[r].alts) a j):=fun k=>qJ.sub HG.out (by rw[qK.on.len];exact gy.out) k
         have i1:(0:Int)<=(a:Int):=by omega
         have i2:(a:Int)<(m:Int):=by omega
         have i3:(0:Int)<=(r:Int):=by omega
         have i4:(r:Int)<(g.rules.length:Int):=by omega
         clear me4 hA k4 hb3 k3;go_upto_region 17 with fail
         rw[<-hW3];clear hW3;go_upto_region 18 with fail
         rw[<-yg];clear yg c3 f3;go_wp2_with fail;refine q1.mono ?_;rintro e w5 ⟨lg,L,rfl,Bh,kL,HL,hb5⟩;clear q1 z1 x1 xW;have hS5:=qK.below hb5;have abm:Below sb W0 w5:=R5.trans (hb5.mono (by have:=rU.size;omega));have hs5:sb+1<=w5.heap.size:=by have:=rU.size;have:=hb5.size;omega
         have HLS:Hid (∀ j,j<m->au L j=true->Lx.Mn g.rules row (.A g.rules[r].alts) a j):=fun j hj k=>abl.out ((HL.out.2 j hj).1 k)
         have su:L.length=m:=HL.out.1;have H0:Hid (gu M C bb (KC/\(∀ j,j<m->Lx.MR (Lx.RM g M (row.length+1)) row (.A g.rules[r].alts) a j->au L j=true)/\∀ j,a<=j->j<a->kU g M row r a j)):=HT.out.keep fun e k=>⟨k,fun j hj k2=>(HL.out.2 j hj).2 (e ▸ k2),fun j h1 h2=>by omega⟩
         have HGS:Hid (∀ q (hq:q<gs.length),gs[q]<lg):=fun q hq=>Nat.lt_of_lt_of_le (qK.on.lt (List.getElem_mem hq)) Bh
         clear HL HT abl qK;go_wp2_with fail
         go_loopg [8,13] (m-a) (fun k v i wr=>∃ (jj:Nat) (bb:Bool) (C:List (List Bool)),jj+k=m/\a<=jj/\v=.bool bb/\i=.int .i64 (jj:Int)/\sw wr sb nn (.slice a2 g.levels.length c2) (.slice (some ⟨gR,0,none⟩) g.rules.length c1) (.slice wa row.length wc) vO gs C/\Below sb W0 wr/\sb+1<=wr.heap.size/\aj wr lg (aL L) 4/\Hid (qJ g row C)/\Hid (gu M C bb (KC/\(∀ j,j<m->Lx.MR (Lx.RM g M (row.length+1)) row (.A g.rules[r].alts) a j->au L j=true)/\∀ j,a<=j->j<jj->kU g M row r a j)))
         case atStart=>exact⟨a,bb,C,by omega,lr0,rfl,rfl,hS5,abm,hs5,kL,HG,H0⟩
         case round =>
          clear H0 hS5 abm hs5 kL HG;revert wr;intro wu hrel;obtain⟨jj,bb,C,hkj,haj,rfl,rfl,p8,hbu,lu,kL,HG,HT⟩:=hrel
          by_cases CW:jj<m
          ·have wU:Hid ((KC/\(∀ j,j<m->Lx.MR (Lx.RM g M (row.length+1)) row (.A g.rules[r].alts) a j->au L j=true)/\∀ j,a<=j->j<jj->kU g M row r a j)->kU g M row r a jj->(KC/\(∀ j,j<m->Lx.MR (Lx.RM g M (row.length+1)) row (.A g.rules[r].alts) a j->au L j=true)/\∀ j,a<=j->j<jj+1->kU g M row r a j)):=fun h1 h2=>⟨h1.1,h1.2.1,fun j hj hj2=>by
            by_cases e:j=jj
            ·subst e;exact h2
            ·exact h1.2.2 j hj (by omega)⟩
           obtain⟨mm,hmm⟩:∃ mm,mm=a*m:=⟨_,rfl⟩;obtain⟨k2,hk2⟩:∃ k2,k2=mm+jj:=⟨_,rfl⟩;have abj:k2<nn:=by
            have:=EM (n:=m) (i:=a) (j:=jj) R4 CW;rw[hk2,hmm,JS.out];omega
           obtain⟨gO,AP,rC,cM,kb,lb⟩:=p8.on.at (i:=r) (by rw[gy.out];exact hlt);have hgl:gs[r]'(by rw[gy.out];exact hlt)<lg:=HGS.out r _;have hgs:=p8.on.ge _ (List.getElem_mem (show r<gs.length by rw[gy.out];exact hlt));have qG:Hid (eP C (row.length+1) r a jj=au (Lx.rowAt C r) k2):=by
            show _=_;unfold eP;rw[hk2,hmm,pY.out]
           have s3:wu.cell? ⟨sb,3,none⟩=some vO:=p8.blk.cell 3;subst rC;have e3:IntKind.i64.wrap ((a:Int)*(m:Int))=(mm:Int):=by rw[<-Int.natCast_mul,<-hmm];exact wrap64 (by omega)
           have e4:IntKind.i64.wrap ((mm:Int)+(jj:Int))=(k2:Int):=by rw[<-Int.natCast_add,<-hk2];exact wrap64 (by omega)
           have cL:wu.cell? ⟨lg,jj,none⟩=some (.bool (au L jj)):=(kL.cell jj).trans (fI L (by omega));have i5:(0:Int)<=(jj:Int):=by omega
           have i6:(jj:Int)<(m:Int):=by omega
           have i7:(r:Int)<(gs.length:Int):=by have:=gy.out;omega
           have i8:(0:Int)<=(k2:Int):=by omega
           have i9:(k2:Int)<(nn:Int):=by omega
           have N8:Hid (sw (wu.setCell ⟨gs[r]'(by rw[gy.out];exact hlt),k2,none⟩ (.bool true)) sb nn (.slice a2 g.levels.length c2) (.slice (some ⟨gR,0,none⟩) g.rules.length c1) (.slice wa row.length wc) _ gs (pz C r k2)):=(p8.put (by rw[gy.out];exact hlt) rfl).below ⟨rfl,rfl,rfl,lr0,fun _ _=>rfl⟩;generalize gs[r]'(by rw[gy.out];exact hlt)=gb at cM kb hgl hgs N8;have cb:wu.cell? ⟨gb,k2,none⟩=some (.bool (au (Lx.rowAt C r) k2)):=(kb.cell k2).trans (fI _ (by omega));have f4:∀ i,wu.frozen? ⟨gb,i,none⟩=false:=kb.frozen;cases hL:au L jj with
           | false =>
            have HT2:Hid (gu M C bb (KC/\(∀ j,j<m->Lx.MR (Lx.RM g M (row.length+1)) row (.A g.rules[r].alts) a j->au L j=true)/\∀ j,a<=j->j<jj+1->kU g M row r a j)):=HT.out.keep fun e k=>wU.out k fun _ hm=>by
             have:=k.2.1 jj CW hm;rw[hL]at this;cases this
            rw[hL]at cL;clear hL HT wU N8 qG hmm hk2 kb;go_wp2_with fail;go_roundg (m - (jj+1))
            case measure=>omega
            case rel=>exact⟨jj+1,bb,C,by omega,by omega,rfl,by go_num,p8,hbu,lu,kL,HG,HT2⟩
           | true =>
            rw[hL]at cL;have HML:Hid (Lx.Mn g.rules row (.A g.rules[r].alts) a jj):=HLS.out jj CW hL;clear hL;cases hO:au (Lx.rowAt C r) k2 with
            | true =>
             rw[hO]at cb;have HT2:Hid (gu M C bb (KC/\(∀ j,j<m->Lx.MR (Lx.RM g M (row.length+1)) row (.A g.rules[r].alts) a j->au L j=true)/\∀ j,a<=j->j<jj+1->kU g M row r a j)):=HT.out.keep fun e k=>wU.out k fun _ _=>by rw[<-e,qG.out,hO]
             clear hO HT wU N8 qG hmm hk2 kb;go_wp2_with fail;go_roundg (m - (jj+1))
             case measure=>omega
             case rel=>exact⟨jj+1,bb,C,by omega,by omega,rfl,by go_num,p8,hbu,lu,kL,HG,HT2⟩
            | false =>
             rw[hO]at cb;have FY:r<C.length:=by rw[p8.on.len,gy.out];exact hlt
             have hG2:=HG.out.put (by rw[<-DW.out];exact p8.on.rl) hlt FY (show a<=row.length by have:=pY.out;omega) (show jj<=row.length by have:=pY.out;omega) HML.out;rw[<-pY.out,<-hmm]at hG2;simp only[<-hk2]at hG2;have HG2:Hid (qJ g row (pz C r k2)):=hG2;have HT2:Hid (gu M (pz C r k2) true (KC/\(∀ j,j<m->Lx.MR (Lx.RM g M (row.length+1)) row (.A g.rules[r].alts) a j->au L j=true)/\∀ j,a<=j->j<jj+1->kU g M row r a j)):=HT.out.put (ZC FY (by omega) hO);have Bu:aj (wu.setCell ⟨gb,k2,none⟩ (.bool true)) lg (aL L) 4:=(hs0 (by show lg≠gb;omega)).trans kL;have hbf:Below sb W0 (wu.setCell ⟨gb,k2,none⟩ (.bool true)):=hbu.setCell (p:=⟨gb,k2,none⟩) (by show sb<=gb;omega) _;have JU:sb+1<=(wu.setCell ⟨gb,k2,none⟩ (.bool true)).heap.size:=by simpa [World.setCell]using lu
             clear hG2 hO HT wU qG hmm hk2 kb HG p8;go_wp2_with fail;go_roundg (m - (jj+1))
             case measure=>omega
             case rel=>exact⟨jj+1,true,_,by omega,by omega,rfl,by go_num,N8.out,hbf,JU,Bu,HG2,HT2⟩
          ·obtain rfl:jj=m:=by omega
           have HT2:Hid (gu M C bb KD):=HT.out.keep fun _ k=>zP.out k.1 fun j h1 h2=>k.2.2 j h1 (by have:=pY.out;omega)
           clear HT;go_wp2_with fail;go_roundg (jj - (a+1))
           case measure=>omega
           case rel=>exact⟨a+1,bb,C,by omega,rfl,by go_num,p8,hbu,lu,HG,Uj.out HT2.out⟩
        ·obtain rfl:a=m:=by omega
         have HT2:Hid (gu M C bb KB):=HT.out.keep fun _ k=>Bw.out k.1 fun i j h0 h1 h2=>k.2 i (by have:=pY.out;omega) j h1 h2
         clear HT;go_wp2_with fail;go_roundg (g.rules.length - (r+1))
         case measure=>omega
         case rel=>exact⟨r+1,bb,C,by omega,rfl,by go_num,DZ,hbv,lv,HG,Uh.out HT2.out⟩
      ·obtain rfl:r=g.rules.length:=by omega
       have R3:Hid (bb=true->T-Lx.tot C+1<=K0-1):=fun hb=>by
        have h1:=HT.out.2 hb;have h2:=CV.out;have h3:=F3.out zS;omega
       have wT:Hid (bb=false->TW g row C):=fun hb=>by
        obtain⟨h1,h2⟩:=HT.out.1 hb;intro q hq i j hij hj hm;rw[h1]at hm |-;exact h2 q hq i j (by omega) hij hj hq hm
       have hK':1<=K0:=by have:=CV.out;omega
       clear HT CV;go_wp2_with fail;go_roundg (K0-1)
       case measure=>have:=jV.out;omega
       case rel=>exact⟨bb,C,rfl,R3,zS,hbx,lx,HG,wT⟩
end Go.Proofs.YtlcppnabbicmoaaGreatDoor

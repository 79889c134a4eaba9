import Derived.Test.YtlcppnabbicmoaaGreatDoorMG30
set_option maxHeartbeats 8000000
set_option maxRecDepth 1000000
namespace Go.Proofs.YtlcppnabbicmoaaGreatDoor
open Lx Go.Proofs.Tryz
open Go.RowKit
open Tr
namespace Lx
def lK (M:List (List Bool))(n:Nat)(p:Pd)(i j:Nat):Prop:=qH M n p.right i j->eP M n p.left i j=true
def gu (M C:List (List Bool))(b:Bool)(K:Prop):Prop:=(b=false->C=M/\K)/\(b=true->tot M<tot C)
theorem gu.le {M C:List (List Bool)}{b:Bool}{K:Prop}(h:gu M C b K):tot M<=tot C:=by
 cases b with
 | false=>rw[(h.1 rfl).1];exact lr0
 | true=>exact Nat.le_of_lt (h.2 rfl)
theorem gu.keep {M C:List (List Bool)}{b:Bool}{K K2:Prop}(h:gu M C b K)(hK:C=M->K->K2):gu M C b K2:=⟨fun hb=>⟨(h.1 hb).1,hK (h.1 hb).1 (h.1 hb).2⟩,h.2⟩
theorem gu.put {M C C2:List (List Bool)}{b:Bool}{K K2:Prop}(h:gu M C b K)(hC:tot C2=tot C+1):gu M C2 true K2:=⟨fun hb=>by (cases hb),fun _=>by have:=h.le;omega⟩
structure zQ (P:List Pd) (row:List Nat) (M:List (List Bool)):Prop where
 sn:JN P row M
 tok:∀ i (h:i<row.length),eP M (row.length+1) row[i] i (i+1)=true
theorem zQ.put {P:List Pd}{row:List Nat}{M:List (List Bool)}(h:zQ P row M)(hr:∀ b∈M,b.length=(row.length+1)*(row.length+1)){p:Pd}(hp:p∈P)(hl:p.left<M.length){i j:Nat}(hij:i<=j)(hj:j<=row.length)(hc:qH M (row.length+1) p.right i j):zQ P row (pz M p.left (i*(row.length+1)+j)):=by
 refine⟨fun s a b h1 h2 h3=>?_,fun k hk=>?_⟩
 ·rcases (Ht hr hl (by omega) (by omega) (by omega)).1 h3 with h4 | ⟨rfl,rfl,rfl⟩
  ·exact h.sn s a b h1 h2 h4
  ·exact .pr hp (hc.der h.sn hj)
 ·exact (Ht hr hl (by omega) (by omega) (by omega)).2 (.inl (h.tok k hk))
structure zR (P:List Pd) (row:List Nat) (q:Nat) (M:List (List Bool)):Prop where
 sn:JN P row M
 tok:∀ i (h:i<row.length),i<q->eP M (row.length+1) row[i] i (i+1)=true
theorem zR.zero {P:List Pd}{row:List Nat}{n N:Nat}:zR P row 0 (List.replicate n (List.replicate N false)):=by
 refine⟨fun s i j _ _ h=>?_,fun i h hi=>by omega⟩;have:eP (List.replicate n (List.replicate N false)) (row.length+1) s i j=false:=by
  unfold eP rowAt;rw[List.getElem?_replicate]
  split
  ·exact EO
  ·rfl
 rw[this]at h;cases h
theorem zR.put {P:List Pd}{row:List Nat}{q:Nat}{M:List (List Bool)}(h:zR P row q M)(hr:∀ b∈M,b.length=(row.length+1)*(row.length+1))(hq:q<row.length)(hl:row[q]<M.length):zR P row (q+1) (pz M row[q] (q*(row.length+1)+(q+1))):=by
 refine⟨fun s a b h1 h2 h3=>?_,fun k hk hkq=>?_⟩
 ·rcases (Ht hr hl (by omega) (by omega) (by omega)).1 h3 with h4 | ⟨rfl,rfl,rfl⟩
  ·exact h.sn s a b h1 h2 h4
  ·exact .tok (List.getElem?_eq_getElem hq)
 ·refine (Ht hr hl (by omega) (by omega) (by omega)).2 ?_
  by_cases e:k=q
  ·subst e;exact .inr ⟨rfl,rfl,rfl⟩
  ·exact .inl (h.tok k hk (by omega))
end Lx
def abh (w:World)(n:Nat)(P:List Lx.Pd)(row:List Nat)(e:Ending)(w':World):Prop:=∃ (B0 sb:Nat) (vO:Value) (gs:List Nat) (M:List (List Bool)),e=.returned (.pointer (some ⟨sb,0,none⟩))/\Sp B0 w' sb row.length vO gs M/\gs.length=n/\JN P row M/\DV P row M/\Below w.heap.size w w'
theorem Y0 {α:Type}(n:Nat)(a:α):List.replicate (n+1) a=List.replicate n a++[a]:=by rw[List.replicate_succ']
theorem afT {w:World}{ta na ba ka:Option Addr}{nT tc nN nc nb bc nk kc:Nat}{vP vR:Value}{P:List Lx.Pd}{row:List Nat}(h:Hu w nT nN vP P)(hR:rT w vR row)(hrt:∀ s∈row,0<s/\s<nT)(hN:row.length<=1048576):Calls prog 37 #[.agg #[.slice ta nT tc,.slice na nN nc,vP,.slice ba nb bc,.slice ka nk kc],vR] w (abh w (nT+nN) P row):=by
 obtain⟨hP,hok,hbd,hpm⟩:=h;obtain⟨pa,pc,rfl,-⟩:∃ a c,vP=.slice a P.length c/\P.length<=maxLen:=by obtain⟨ps,h1,h2,-⟩:=hP;exact aI h2
 obtain⟨ra,rc,qX,-,-⟩:=id hR;subst qX;have zO:=L6 hN;have qs:=fun x:World=>ahE (w:=x) (ta:=ta) (na:=na) (pa:=pa) (ba:=ba) (ka:=ka) (tc:=tc) (nc:=nc) (np:=P.length) (pc:=pc) (nb:=nb) (bc:=bc) (nk:=nk) (kc:=kc) hbd
 obtain⟨N,NT⟩:∃ N,N=row.length:=⟨_,rfl⟩;obtain⟨W0,hW0⟩:∃ W,W=(w.alloc (.cells #[.slice ta nT tc,.slice na nN nc,.slice pa P.length pc,.slice ba nb bc,.slice ka nk kc] 32)).alloc (.cells #[.int .i64 (row.length:Int),.slice none 0 0] 158):=⟨_,rfl⟩;have hb0:Below w.heap.size w W0:=by rw[hW0];exact ((Below.refl _ _).alloc (lr0) _).alloc (by simp) _
 have hz9:W0.heap.size=w.heap.size+2:=by rw[hW0];simp
 have r9:aj W0 w.heap.size #[.slice ta nT tc,.slice na nN nc,.slice pa P.length pc,.slice ba nb bc,.slice ka nk kc] 32:=by rw[hW0];exact (aj.new w _ 32).alloc _
 have Ua:aj W0 (w.heap.size+1) #[.int .i64 (row.length:Int),.slice none 0 0] 158:=by rw[hW0];simpa using aj.new (w.alloc (.cells #[.slice ta nT tc,.slice na nN nc,.slice pa P.length pc,.slice ba nb bc,.slice ka nk kc] 32)) #[.int .i64 (row.length:Int),.slice none 0 0] 158
 obtain⟨n,hn⟩:∃ n,n=nT+nN:=⟨_,rfl⟩;have hTn:nT<=n:=by omega
 obtain⟨m,hm⟩:∃ m,m=row.length+1:=⟨_,rfl⟩;obtain⟨nn,hnn⟩:∃ nn,nn=m*m:=⟨_,rfl⟩;have hnb:nn<=1099513724929:=by rw[hnn,hm];exact zO
 have hmk:=fun w=>BO (n:=nn) hnb w
 have DW:Hid (nn=(row.length+1)*(row.length+1)):=by rw[hnn,hm];rfl
 have pY:Hid (m=row.length+1):=hm;have JS:Hid (nn=m*m):=hnn;have e1:IntKind.i64.wrap ((row.length:Int)+1)=(m:Int):=by rw[show ((row.length:Int)+1)=((m:Nat):Int) from by omega];exact wrap64 (by omega)
 have e2:IntKind.i64.wrap ((m:Int)*(m:Int))=(nn:Int):=by rw[<-Int.natCast_mul,<-hnn];exact wrap64 (by omega)
 rw[<-hn]at hok hbd qs |-;clear hn hm hnn NT;obtain⟨i0,hii,hz0,hz1,hz2⟩:=info_parts Tryz.QK;obtain⟨sb,hsb⟩:∃ sb,w.heap.size+1=sb:=⟨_,rfl⟩;unfold abh;go_enter func37,ntmps37;go_wp2_with fail;rw[<-hW0];clear hW0;rw[hsb]at Ua
 go_loopg [6] n (fun k i wr=>∃ (j:Nat) (v:Value) (gs:List Nat),j+k=n/\i=.int .i64 (j:Int)/\aj wr sb #[.int .i64 (row.length:Int),v] 158/\BD (sb+1) wr v nn gs (List.replicate j (List.replicate nn false))/\gs.length=j/\Below sb W0 wr/\sb+1<=wr.heap.size)
 case atStart=>exact⟨0,.slice none 0 0,[],by omega,rfl,Ua,⟨World.ownsRow_nil _ _ _ _,rfl,(fun i hi=>absurd hi (by simp)),(fun b hb=>by cases hb),List.nodup_nil,(fun g hg=>by cases hg)⟩,rfl,Below.refl _ _,by omega⟩
 case round =>
  clear Ua;revert wr;intro wz hrel;obtain⟨j,v,gs,hkj,rfl,kSz,uW,hgl,hbz,hsz⟩:=hrel;have gy:Hid (gs.length=j):=hgl;clear hgl;obtain⟨oa,oc,rfl,-⟩:=aI uW.outer;have dY:aj wz w.heap.size _ 32:=(hbz.block _ (by omega)).trans r9;have z0:wz.cell? ⟨w.heap.size,0,none⟩=some (.slice ta nT tc):=dY.cell 0;have z1:wz.cell? ⟨w.heap.size,1,none⟩=some (.slice na nN nc):=dY.cell 1;have z2:wz.cell? ⟨w.heap.size,2,none⟩=some (.slice pa P.length pc):=dY.cell 2;have z3:wz.cell? ⟨w.heap.size,3,none⟩=some (.slice ba nb bc):=dY.cell 3;have z4:wz.cell? ⟨w.heap.size,4,none⟩=some (.slice ka nk kc):=dY.cell 4;have q1:=qs wz;go_wp2_with fail;refine q1.mono ?_;rintro e w2 ⟨rfl,hb2⟩;clear q1 z0 z1 z2 z3 z4;have hs2:=hb2.size;have xZ:aj w2 sb _ 158:=(hb2.block _ (by omega)).trans kSz;have hB2:BD (sb+1) w2 (.slice oa gs.length oc) nn gs _:=uW.move fun g hg=>hb2.block g hg
  have hbw2:Below sb W0 w2:=hbz.trans (hb2.mono (by omega));clear uW hbz hb2 dY kSz
  by_cases hlt:j<n
  ·have s0:w2.cell? ⟨sb,0,none⟩=some (.int .i64 (row.length:Int)):=xZ.cell 0
   have s1:w2.cell? ⟨sb,1,none⟩=some (.slice oa gs.length oc):=xZ.cell 1;have lsb:sb<w2.heap.size:=by omega
   have hvs:(Value.slice oa gs.length oc).ownBlock≠some sb:=fun e=>by have:=(hB2.outer.lt _ e).1;omega
   obtain⟨W3,hW3⟩:∃ W,W=w2.alloc (.cells (aL (List.replicate nn false)) 4):=⟨_,rfl⟩;have hb3:Below w2.heap.size w2 W3:=by rw[hW3];exact (Below.refl _ _).alloc (lr0) _
   have hs3:W3.heap.size=w2.heap.size+1:=by rw[hW3];simp
   have k3:aj W3 w2.heap.size (aL (List.replicate nn false)) 4:=by rw[hW3];exact aj.new w2 _ 4
   have oD:=aD (w':=(W3.alloc (.cells #[.slice (some ⟨w2.heap.size,0,none⟩) nn nn] 39)).drew) ((aD (w':=W3) hB2.outer fun g hg=>hb3.block g (hB2.outer.lt g hg).2).alloc (.cells #[.slice (some ⟨w2.heap.size,0,none⟩) nn nn] 39)) fun _ _=>rfl
   have Ub:aj (W3.alloc (.cells #[.slice (some ⟨w2.heap.size,0,none⟩) nn nn] 39)).drew sb _ 158:=(aj.alloc ((hb3.block _ lsb).trans xZ) _).drew;have Uc:aj (W3.alloc (.cells #[.slice (some ⟨w2.heap.size,0,none⟩) nn nn] 39)).drew (w2.heap.size+1) #[.slice (some ⟨w2.heap.size,0,none⟩) nn nn] 39:=by
    have:=(aj.new W3 #[.slice (some ⟨w2.heap.size,0,none⟩) nn nn] 39).drew;rw[hs3]at this;exact this
   subst hW3;go_upto_region 5 with fail
   go_region_law (go_loud (refine step_append_lies _ rfl (.tmp 28) (.tmp 41) 81 rfl (sb+1) 39 i0 _ 1 24 underlying81 hii hz0 hz1 hz2 rfl (by decide) (.slice oa gs.length oc) gs.length (gs.map (rz nn)) (by simp[Act.eval]) oD ⟨w2.heap.size+1,0,none⟩ 1 1 [.slice (some ⟨w2.heap.size,0,none⟩) nn nn] (by simp[Act.eval]) rfl (bP Uc) (by simp[Value.oneCell']) (by decide) (by have:=gy.out;unfold maxLen;omega) (by have:=gy.out;omega) (by simp;omega) _ rfl ?_);intro g2 cap2 w5 hown5 bf jT E9;have DX:=Ub.grown bf (fun e=>hvs e.symm);have c51:w5.cell? ⟨sb,1,none⟩=some (.slice oa gs.length oc):=DX.cell 1;have f51:∀ i,w5.frozen? ⟨sb,i,none⟩=false:=DX.frozen)
   all_goals
    have hg2:g2≠sb:=by
     rcases jT with h' | h'
     ·have:=(hB2.outer.lt _ h').1;omega
     ·have:g2=w2.heap.size+1+1:=by simpa using h'
      omega
    have oP:∀ g,g<w2.heap.size->(Value.slice oa gs.length oc).ownBlock≠some g->w5.heap[g]?=w2.heap[g]?:=fun g hg hv=>by
     rw[bf.block g (by simp;omega) (fun e=>hv e.symm)];exact (Below.heap_alloc _ _ _ (by simp;omega)).trans (Below.heap_alloc _ _ _ hg)
    have hgz:(some w2.heap.size)≠(Value.slice oa gs.length oc).ownBlock:=fun e=>by have:=(hB2.outer.lt _ e.symm).2;omega
    have k5:aj w5 w2.heap.size (aL (List.replicate nn false)) 4:=((k3.alloc _).drew).grown bf hgz;have DU:BD (sb+1) w5 (.slice (some ⟨g2,0,none⟩) (gs.length+1) cap2) nn (gs++[w2.heap.size]) (List.replicate (j+1) (List.replicate nn false)):=by
     rw[Y0 j];exact hB2.push (lr0) (by omega) oP hown5 k5 (by simp)
    have hs5:w2.heap.size+1+1<=w5.heap.size:=by have:=bf.size;simp at this;omega
    have Ud:BD (sb+1) (w5.setCell ⟨sb,1,none⟩ (.slice (some ⟨g2,0,none⟩) (gs.length+1) cap2)) _ nn (gs++[w2.heap.size]) (List.replicate (j+1) (List.replicate nn false)):=DU.up fun g hg=>hs0 (by show g≠sb;omega)
    have Ue:=DX.set 1 (.slice (some ⟨g2,0,none⟩) (gs.length+1) cap2);have hb6:Below sb W0 (w5.setCell ⟨sb,1,none⟩ (.slice (some ⟨g2,0,none⟩) (gs.length+1) cap2)):=by
     refine⟨bf.os.trans hbw2.os,bf.tape.trans hbw2.tape,bf.output.trans hbw2.output,by have:=hbw2.size;simp[World.setCell];omega,fun g hg=>?_⟩;rw[hs0 (by show g≠sb;omega),oP g (by omega) (fun e=>by have:=(hB2.outer.lt _ e).1;omega)];exact hbw2.block g hg
    go_wp2_with fail;go_roundg (n - (j+1))
    case measure=>omega
    case rel=>exact⟨j+1,_,gs++[w2.heap.size],by omega,by go_num,Ue,Ud,by rw[List.length_append,List.length_singleton,gy.out],hb6,by simp[World.setCell];omega⟩
  ·obtain rfl:j=n:=by omega
   have hSp:Sp (sb+1) w2 sb row.length (.slice oa gs.length oc) gs (List.replicate j (List.replicate nn false)):=⟨xZ,by rw[<-DW.out];exact hB2,hN,Nat.lt_succ_self _⟩;have Mt:sb+1<=w2.heap.size:=by omega
   have oL:Hid (zR P row 0 (List.replicate j (List.replicate nn false))):=zR.zero;generalize List.replicate j (List.replicate nn false)=M0 at hSp oL;generalize Value.slice oa gs.length oc=vO at hSp;clear xZ hB2 hs2 hsz hkj hlt hmk qs;go_wp2_with fail
   go_loopg [7] row.length (fun k i wr=>∃ (q:Nat) (M:List (List Bool)),q+k=row.length/\i=.int .i64 (q:Int)/\Sp (sb+1) wr sb row.length vO gs M/\Below sb W0 wr/\sb+1<=wr.heap.size/\Hid (zR P row q M))
   case atStart=>exact⟨0,M0,by omega,rfl,hSp,hbw2,Mt,oL⟩
   case round =>
    clear hSp hbw2 Mt oL;revert wr;intro wz hrel;obtain⟨q,M,hkq,rfl,hSz,hbz,lz,HG⟩:=hrel;have mF:Below w.heap.size w wz:=hb0.trans (hbz.mono (by omega))
    by_cases hlt:q<row.length
    ·obtain⟨a9,c9,Uf,-,hcell⟩:=hR.below mF
     cases Uf;obtain⟨gr,o,hra,lgr,cr⟩:=hcell q hlt;subst hra;have anb:gr<w.heap.size:=by
      obtain⟨a8,c8,Ug,-,ajH⟩:=hR;cases Ug;obtain⟨gr8,o8,akZ,ak0,-⟩:=ajH q hlt;cases akZ;exact ak0
     have hst:=hrt row[q] (List.getElem_mem hlt);have dY:aj wz w.heap.size _ 32:=(hbz.block _ (by omega)).trans r9;have z0:wz.cell? ⟨w.heap.size,0,none⟩=some (.slice ta nT tc):=dY.cell 0;obtain⟨s,hs⟩:∃ s,row[q]=s:=⟨_,rfl⟩;obtain⟨mm,hmm⟩:∃ mm,mm=q*m:=⟨_,rfl⟩;have hqm:mm+q+1<nn:=by
      have:=EM (n:=m) (i:=q) (j:=q+1) (by have:=pY.out;omega) (by have:=pY.out;omega);rw[hmm,JS.out];omega
     have HG2:Hid (zR P row (q+1) (pz M s (mm+q+1))):=by
      have hl:row[q]<M.length:=by rw[hSz.on.len,gy.out];omega
      have:=HG.out.put hSz.on.rl hlt hl;rw[<-pY.out,<-hmm,hs]at this;exact this
     rw[hs]at cr hst;obtain⟨gO,AP,rC,cM,kb,lb⟩:=hSz.on.at (i:=s) (by rw[gy.out];omega);subst rC;have s0:wz.cell? ⟨sb,0,none⟩=some (.int .i64 (row.length:Int)):=hSz.blk.cell 0;have s1:wz.cell? ⟨sb,1,none⟩=some (.slice (some ⟨gO,0,none⟩) gs.length AP):=hSz.blk.cell 1;rw[<-DW.out]at cM lb;have e3:IntKind.i64.wrap ((q:Int)*(m:Int))=(mm:Int):=by rw[<-Int.natCast_mul,<-hmm];exact wrap64 (by omega)
     obtain⟨k1,hk1⟩:∃ k1,k1=mm+q:=⟨_,rfl⟩;have e4:IntKind.i64.wrap ((mm:Int)+(q:Int))=(k1:Int):=by rw[<-Int.natCast_add,<-hk1];exact wrap64 (by omega)
     obtain⟨k2,hk2⟩:∃ k2,k2=k1+1:=⟨_,rfl⟩;have e5:IntKind.i64.wrap ((k1:Int)+1)=(k2:Int):=by rw[show ((k1:Int)+1)=((k2:Nat):Int) from by omega];exact wrap64 (by omega)
     rw[<-hk1,<-hk2]at HG2;have abj:k2<nn:=by omega
     have i1:(0:Int)<=(q:Int):=by omega
     have i2:(q:Int)<(row.length:Int):=by omega
     have i3:(0:Int)<(s:Int):=by omega
     have i4:(s:Int)<(nT:Int):=by omega
     have i5:(0:Int)<=(s:Int):=by omega
     have i6:(s:Int)<(gs.length:Int):=by have:=gy.out;omega
     have i7:(0:Int)<=(k2:Int):=by omega
     have i8:(k2:Int)<(nn:Int):=by omega
     have HP:Hid (∀ wq:World,Below wz.heap.size wz wq->Sp (sb+1) ((wq.setCell ⟨gs[s]'(by rw[gy.out];omega),k2,none⟩ (.bool true)).drew) sb row.length (.slice (some ⟨gO,0,none⟩) gs.length AP) gs (pz M s k2)):=fun wq hq=>(hSz.below hq).put (by rw[gy.out];omega) rfl
     have hgs:=hSz.on.ge _ (List.getElem_mem (show s<gs.length by rw[gy.out];omega));have lD:gs[s]'(by rw[gy.out];omega)<wz.heap.size:=hSz.on.lt (List.getElem_mem _);have lgO:gO<wz.heap.size:=(hSz.on.outer.lt gO rfl).2;generalize gs[s]'(by rw[gy.out];omega)=gb at cM kb HP hgs lD;have HZ:Hid (∀ nq,Below wz.heap.size wz (wz.drewN nq)):=fun nq=>⟨rfl,rfl,rfl,lr0,fun _ _=>rfl⟩
     clear hSz hcell HG hs hmm hk1 hk2 dY;go_wp2_with fail
     go_quiet (fail)
     obtain⟨wq,hwq⟩:∃ wq,wq=wz.drewN nq:=⟨_,rfl⟩;have hbq:Below wz.heap.size wz wq:=by rw[hwq];exact HZ.out nq
     rw[<-hwq];clear hwq HZ z0;have t0:wq.cell? ⟨sb,0,none⟩=some (.int .i64 (row.length:Int)):=cell_below hbq s0;have t1:wq.cell? ⟨sb,1,none⟩=some (.slice (some ⟨gO,0,none⟩) gs.length AP):=cell_below hbq s1;have t2:wq.cell? ⟨gr,o+q,none⟩=some (.int .i64 (s:Int)):=cell_below hbq cr;have t3:wq.cell? ⟨gO,s,none⟩=some (.slice (some ⟨gb,0,none⟩) nn nn):=cell_below hbq cM;have kbq:aj wq gb _ 4:=(hbq.block _ lD).trans kb;have t4:wq.cell? ⟨gb,k2,none⟩=some (.bool (au (Lx.rowAt M s) k2)):=(kbq.cell k2).trans (fI _ (by omega));have f4:∀ i,wq.frozen? ⟨gb,i,none⟩=false:=kbq.frozen;clear s0 s1 cr cM kb;have NZ:=HP.out wq hbq;have hbf:Below sb W0 ((wq.setCell ⟨gb,k2,none⟩ (.bool true)).drew):=((hbz.trans (hbq.mono (by omega))).setCell (p:=⟨gb,k2,none⟩) (by show sb<=gb;omega) _).drew;have JU:sb+1<=((wq.setCell ⟨gb,k2,none⟩ (.bool true)).drew).heap.size:=by have:=hbq.size;simp[World.setCell];omega
     go_wp2_with fail
     go_region
     all_goals
      go_wp2_with fail;go_roundg (row.length - (q+1))
      case measure=>omega
      case rel=>exact⟨q+1,_,by omega,by go_num,NZ,hbf,JU,HG2⟩
    ·have HG1:Hid (zQ P row M):=⟨HG.out.sn,fun i h=>HG.out.tok i h (by omega)⟩
     obtain rfl:q=row.length:=by omega
     clear HG hkq hlt;obtain⟨T,hT⟩:∃ T,T=gs.length*nn:=⟨_,rfl⟩;have F3:Hid (∀ {C:List (List Bool)} {x:World},Sp (sb+1) x sb row.length vO gs C->Lx.tot C<=T):=fun hC=>by
      have:=LP hC.on.rl;rw[hC.on.len,<-DW.out,<-hT]at this;exact this
     clear hT;go_wp2_with fail
     go_loopg [8] (T+1) (fun k v wr=>∃ (b:Bool) (M:List (List Bool)),v=.bool b/\Hid (b=true->T-Lx.tot M+1<=k)/\Sp (sb+1) wr sb row.length vO gs M/\Below sb W0 wr/\sb+1<=wr.heap.size/\Hid (zQ P row M)/\Hid (b=false->DV P row M))
     case atStart=>exact⟨true,M,rfl,fun _=>by omega,hSz,hbz,lz,HG1,fun h=>by cases h⟩
     case round =>
      clear hSz hbz lz HG1 mF;revert wr;intro wy hrel;obtain⟨b,M,rfl,oQ,Bv,hby,ly,HG,wT⟩:=hrel;have jU:Below w.heap.size w wy:=hb0.trans (hby.mono (by omega));cases b with
      | false =>
       have ak1:Hid (DV P row M):=wT.out rfl;clear wT oQ;go_wp2_with fail;go_ret;exact⟨sb+1,sb,vO,gs,M,rfl,Bv,gy.out,HG.out.sn,ak1.out,jU⟩
      | true =>
       obtain⟨K0,jV⟩:∃ K0,Hid (K0=gk):=⟨gk,rfl⟩;have CV:Hid (T-Lx.tot M+1<=K0):=by have:=oQ.out rfl;rw[jV.out];exact this
       clear oQ wT;have H0:Hid (gu M M false (∀ a (h:a<P.length),a<0->∀ i j,i<=j->j<=row.length->lK M (row.length+1) P[a] i j)):=⟨fun _=>⟨rfl,fun a h ha=>by omega⟩,fun h=>by cases h⟩;go_wp2_with fail
       go_loopg [8,9] P.length (fun k v i wr=>∃ (p:Nat) (b:Bool) (C:List (List Bool)),p+k=P.length/\v=.bool b/\i=.int .i64 (p:Int)/\Sp (sb+1) wr sb row.length vO gs C/\Below sb W0 wr/\sb+1<=wr.heap.size/\Hid (zQ P row C)/\Hid (gu M C b (∀ a (h:a<P.length),a<p->∀ i j,i<=j->j<=row.length->lK M (row.length+1) P[a] i j)))
       case atStart=>exact⟨0,false,M,by omega,rfl,rfl,Bv,hby,ly,HG,H0⟩
       case round =>
        clear H0 Bv hby ly HG jU;revert wr;intro wx hrel;obtain⟨p,b,C,hkp,rfl,rfl,zS,hbx,lx,HG,HT⟩:=hrel;have MP:Below w.heap.size w wx:=hb0.trans (hbx.mono (by omega));have kAx:aj wx w.heap.size _ 32:=(hbx.block _ (by omega)).trans r9;have z2:wx.cell? ⟨w.heap.size,2,none⟩=some (.slice pa P.length pc):=kAx.cell 2
        by_cases hlt:p<P.length
        ·obtain⟨gp,ak2,u,hvp,hu,x0,x1,-⟩:=(hP.below MP).at hlt
         cases hvp;obtain⟨hleft,hright⟩:=hok P[p] (List.getElem_mem hlt);have abk:Hid (P[p]∈P):=List.getElem_mem hlt;have Bw:Hid ((∀ a (h:a<P.length),a<p->∀ i j,i<=j->j<=row.length->lK M (row.length+1) P[a] i j)->(∀ i j,i<=j->j<=row.length->lK M (row.length+1) P[p] i j)->(∀ a (h:a<P.length),a<p+1->∀ i j,i<=j->j<=row.length->lK M (row.length+1) P[a] i j)):=fun h1 h2 a h ha=>by
          by_cases e:a=p
          ·subst e;exact h2
          ·exact h1 a h (by omega)
         generalize (∀ a (h:a<P.length),a<p->∀ i j,i<=j->j<=row.length->lK M (row.length+1) P[a] i j)=KA at HT Bw;obtain⟨KB,DY⟩:∃ KB,KB=(∀ a (h:a<P.length),a<p+1->∀ i j,i<=j->j<=row.length->lK M (row.length+1) P[a] i j):=⟨_,rfl⟩;rw[<-DY]at Bw;have Uh:Hid (∀ {C b},gu M C b KB->gu M C b (∀ a (h:a<P.length),a<p+1->∀ i j,i<=j->j<=row.length->lK M (row.length+1) P[a] i j)):=fun h=>DY ▸ h
         clear DY;have Ui:Hid (∀ {x:World},Below w.heap.size w x->∃ u',x.cell? ⟨gp,p*3+1,none⟩=some u'/\rT x u' P[p].right):=fun hx=>by
          obtain⟨g8,anc,u8,Ug,hu8,-,x8,-⟩:=(hP.below hx).at hlt;cases Ug;exact⟨u8,x8,hu8.akU⟩
         generalize P[p]=pd at hu x0 x1 hleft hright abk Bw Ui;obtain⟨pl,pr,pp⟩:=pd;simp only at hu x0 x1 hleft hright Ui;have i1:(0:Int)<=(p:Int):=by omega
         have i2:(p:Int)<(P.length:Int):=by omega
         have H0:Hid (gu M C b (KA/\∀ i,i<0->∀ j,i<=j->j<=row.length->lK M (row.length+1) ⟨pl,pr,pp⟩ i j)):=HT.out.keep fun _ h=>⟨h,fun i hi=>by omega⟩
         go_wp2_with fail;clear z2 x0 x1 hu HT
         go_loopg [8,11] (row.length+1) (fun k v i wr=>∃ (i':Nat) (b:Bool) (C:List (List Bool)),i'+k=row.length+1/\v=.bool b/\i=.int .i64 (i':Int)/\Sp (sb+1) wr sb row.length vO gs C/\Below sb W0 wr/\sb+1<=wr.heap.size/\Hid (zQ P row C)/\Hid (gu M C b (KA/\∀ i,i<i'->∀ j,i<=j->j<=row.length->lK M (row.length+1) ⟨pl,pr,pp⟩ i j)))
         case atStart=>exact⟨0,b,C,by omega,rfl,rfl,zS,hbx,lx,HG,H0⟩
         case round =>
          clear H0 zS hbx lx HG MP kAx;revert wr;intro wv hrel;obtain⟨ii,b,C,hki,rfl,rfl,DZ,hbv,lv,HG,HT⟩:=hrel;have s0:wv.cell? ⟨sb,0,none⟩=some (.int .i64 (row.length:Int)):=DZ.blk.cell 0
          by_cases ak3:ii<=row.length
          ·have i3:(ii:Int)<=(row.length:Int):=by omega
           have zP:Hid ((KA/\∀ i,i<ii->∀ j,i<=j->j<=row.length->lK M (row.length+1) ⟨pl,pr,pp⟩ i j)->(∀ j,ii<=j->j<=row.length->lK M (row.length+1) ⟨pl,pr,pp⟩ ii j)->(KA/\∀ i,i<ii+1->∀ j,i<=j->j<=row.length->lK M (row.length+1) ⟨pl,pr,pp⟩ i j)):=fun h1 h2=>⟨h1.1,fun i hi=>by
            by_cases e:i=ii
            ·subst e;exact h2
            ·exact h1.2 i (by omega)⟩
           generalize (KA/\∀ i,i<ii->∀ j,i<=j->j<=row.length->lK M (row.length+1) ⟨pl,pr,pp⟩ i j)=KC at HT zP;obtain⟨KD,D8⟩:∃ KD,KD=(KA/\∀ i,i<ii+1->∀ j,i<=j->j<=row.length->lK M (row.length+1) ⟨pl,pr,pp⟩ i j):=⟨_,rfl⟩;rw[<-D8]at zP;have Uj:Hid (∀ {C b},gu M C b KD->gu M C b (KA/\∀ i,i<ii+1->∀ j,i<=j->j<=row.length->lK M (row.length+1) ⟨pl,pr,pp⟩ i j)):=fun h=>D8 ▸ h
           clear D8;have H0:Hid (gu M C b (KC/\∀ j,ii<=j->j<ii->lK M (row.length+1) ⟨pl,pr,pp⟩ ii j)):=HT.out.keep fun _ h=>⟨h,fun j h1 h2=>by omega⟩
           go_wp2_with fail;clear s0 HT
           go_loopg [8,12] (row.length+1-ii) (fun k v i wr=>∃ (jj:Nat) (b:Bool) (C:List (List Bool)),jj+k=row.length+1/\ii<=jj/\v=.bool b/\i=.int .i64 (jj:Int)/\Sp (sb+1) wr sb row.length vO gs C/\Below sb W0 wr/\sb+1<=wr.heap.size/\Hid (zQ P row C)/\Hid (gu M C b (KC/\∀ j,ii<=j->j<jj->lK M (row.length+1) ⟨pl,pr,pp⟩ ii j)))
           case atStart=>exact⟨ii,b,C,by omega,lr0,rfl,rfl,DZ,hbv,lv,HG,H0⟩
           case round =>
            clear H0 DZ hbv lv HG;revert wr;intro wu hrel;obtain⟨jj,b,C,hkj,hij,rfl,rfl,p8,hbu,lu,HG,HT⟩:=hrel;have s0:wu.cell? ⟨sb,0,none⟩=some (.int .i64 (row.length:Int)):=p8.blk.cell 0
            by_cases CW:jj<=row.length
            ·have i4:(jj:Int)<=(row.length:Int):=by omega
             have wU:Hid ((KC/\∀ j,ii<=j->j<jj->lK M (row.length+1) ⟨pl,pr,pp⟩ ii j)->lK M (row.length+1) ⟨pl,pr,pp⟩ ii jj->(KC/\∀ j,ii<=j->j<jj+1->lK M (row.length+1) ⟨pl,pr,pp⟩ ii j)):=fun h1 h2=>⟨h1.1,fun j hj hj2=>by
              by_cases e:j=jj
              ·subst e;exact h2
              ·exact h1.2 j hj (by omega)⟩
             have q1:=QA p8 (s:=pl) (i:=ii) (j:=jj) (by rw[gy.out];exact hleft) ak3 CW;cases hon:eP C (row.length+1) pl ii jj with
             | true =>
              rw[hon]at q1;have HT2:Hid (gu M C b (KC/\∀ j,ii<=j->j<jj+1->lK M (row.length+1) ⟨pl,pr,pp⟩ ii j)):=HT.out.keep fun e h=>wU.out h fun _=>e ▸ hon
              clear hon HT wU;go_wp2_with fail;refine q1.mono ?_;rintro e w3 ⟨rfl,hb3⟩;have hs3:=hb3.size;have JV:=p8.below hb3;have hb4:Below sb W0 w3:=hbu.trans (hb3.mono (by omega));clear q1 s0;go_wp2_with fail;go_roundg (row.length+1 - (jj+1))
              case measure=>omega
              case rel=>exact⟨jj+1,b,C,by omega,by omega,rfl,by go_num,JV,hb4,by omega,HG,HT2⟩
             | false =>
              rw[hon]at q1;have qG:Hid (eP C (row.length+1) pl ii jj=false):=hon;clear hon;go_wp2_with fail;refine q1.mono ?_;rintro e w3 ⟨rfl,hb3⟩;have hs3:=hb3.size;have JV:=p8.below hb3;have hb4:Below sb W0 w3:=hbu.trans (hb3.mono (by omega));have tq:Below w.heap.size w w3:=hb0.trans (hb4.mono (by omega));have kA3:aj w3 w.heap.size _ 32:=(hb4.block _ (by omega)).trans r9;have z2:w3.cell? ⟨w.heap.size,2,none⟩=some (.slice (some ⟨gp,0,none⟩) P.length pc):=kA3.cell 2;obtain⟨u',x1,hu'⟩:=Ui.out tq;have q2:=Xh pr _ _ _ _ _ _ _ JV u' hu' (fun t ht=>by rw[gy.out];exact hright t ht) ii jj hij CW;clear q1 s0;go_wp2_with fail;refine q2.mono ?_;rintro e w4 ⟨bb,rfl,hbb,hb5⟩;have N7:Hid (bb=true↔qH C (row.length+1) pr ii jj):=hbb;have hs5:=hb5.size;have qK:=JV.below hb5;have hb6:Below sb W0 w4:=hb4.trans (hb5.mono (by omega));clear q2 z2 x1 kA3 hu' hbb;cases bb with
              | false =>
               have HT2:Hid (gu M C b (KC/\∀ j,ii<=j->j<jj+1->lK M (row.length+1) ⟨pl,pr,pp⟩ ii j)):=HT.out.keep fun e h=>wU.out h fun hc=>by
                rw[<-e]at hc;have:=N7.out.2 hc;cases this
               clear HT wU N7;go_wp2_with fail;go_roundg (row.length+1 - (jj+1))
               case measure=>omega
               case rel=>exact⟨jj+1,b,C,by omega,by omega,rfl,by go_num,qK,hb6,by omega,HG,HT2⟩
              | true =>
               have FY:pl<C.length:=by rw[qK.on.len,gy.out];exact hleft
               obtain⟨mm,hmm⟩:∃ mm,mm=ii*m:=⟨_,rfl⟩;obtain⟨k2,hk2⟩:∃ k2,k2=mm+jj:=⟨_,rfl⟩;have abj:k2<nn:=by
                have:=EM (n:=m) (i:=ii) (j:=jj) (by have:=pY.out;omega) (by have:=pY.out;omega);rw[hk2,hmm,JS.out];omega
               have hG2:=HG.out.put qK.on.rl abk.out FY hij CW (N7.out.1 rfl);obtain⟨gO,AP,rC,cM,kb,lb⟩:=qK.on.at (i:=pl) (by rw[gy.out];exact hleft);rw[<-DW.out]at cM lb;have hon:=qG.out;unfold eP at hon;rw[<-pY.out,<-hmm]at hG2 hon;rw[<-hk2]at hon;simp only[<-hk2]at hG2;have HG2:Hid (zQ P row (pz C pl k2)):=hG2;have HT2:Hid (gu M (pz C pl k2) true (KC/\∀ j,ii<=j->j<jj+1->lK M (row.length+1) ⟨pl,pr,pp⟩ ii j)):=HT.out.put (ZC FY (by omega) hon);subst rC;have s0:w4.cell? ⟨sb,0,none⟩=some (.int .i64 (row.length:Int)):=qK.blk.cell 0;have s1:w4.cell? ⟨sb,1,none⟩=some (.slice (some ⟨gO,0,none⟩) gs.length AP):=qK.blk.cell 1;have e3:IntKind.i64.wrap ((ii:Int)*(m:Int))=(mm:Int):=by rw[<-Int.natCast_mul,<-hmm];exact wrap64 (by omega)
               have e4:IntKind.i64.wrap ((mm:Int)+(jj:Int))=(k2:Int):=by rw[<-Int.natCast_add,<-hk2];exact wrap64 (by omega)
               have NZ:Sp (sb+1) ((w4.setCell ⟨gs[pl]'(by rw[gy.out];exact hleft),k2,none⟩ (.bool true)).drew) sb row.length _ gs (pz C pl k2):=qK.put (by rw[gy.out];exact hleft) rfl;have hgs:=qK.on.ge _ (List.getElem_mem (show pl<gs.length by rw[gy.out];exact hleft));generalize gs[pl]'(by rw[gy.out];exact hleft)=gb at cM kb NZ hgs;have i5:(0:Int)<=(pl:Int):=by omega
               have i6:(pl:Int)<(gs.length:Int):=by have:=gy.out;omega
               have i7:(0:Int)<=(k2:Int):=by omega
               have i8:(k2:Int)<(nn:Int):=by omega
               have t4:w4.cell? ⟨gb,k2,none⟩=some (.bool (au (Lx.rowAt C pl) k2)):=(kb.cell k2).trans (fI _ (by omega));have f4:∀ i,w4.frozen? ⟨gb,i,none⟩=false:=kb.frozen;have hbf:Below sb W0 ((w4.setCell ⟨gb,k2,none⟩ (.bool true)).drew):=(hb6.setCell (p:=⟨gb,k2,none⟩) (by show sb<=gb;omega) _).drew;have JU:sb+1<=((w4.setCell ⟨gb,k2,none⟩ (.bool true)).drew).heap.size:=by simp[World.setCell];omega
               clear hG2 hon HT wU N7 HG qG hmm hk2 kb qK JV p8;go_wp2_with fail
               go_region
               all_goals
                go_wp2_with fail;go_roundg (row.length+1 - (jj+1))
                case measure=>omega
                case rel=>exact⟨jj+1,true,_,by omega,by omega,rfl,by go_num,NZ,hbf,JU,HG2,HT2⟩
            ·obtain rfl:jj=row.length+1:=by omega
             have HT2:Hid (gu M C b KD):=HT.out.keep fun _ h=>zP.out h.1 fun j h1 h2=>h.2 j h1 (by omega)
             clear HT;go_wp2_with fail;go_roundg (row.length+1 - (ii+1))
             case measure=>omega
             case rel=>exact⟨ii+1,b,C,by omega,rfl,by go_num,p8,hbu,lu,HG,Uj.out HT2.out⟩
          ·obtain rfl:ii=row.length+1:=by omega
           have HT2:Hid (gu M C b KB):=HT.out.keep fun _ h=>Bw.out h.1 fun i j h1 h2=>h.2 i (by omega) j h1 h2
           clear HT;go_wp2_with fail;go_roundg (P.length - (p+1))
           case measure=>omega
           case rel=>exact⟨p+1,b,C,by omega,rfl,by go_num,DZ,hbv,lv,HG,Uh.out HT2.out⟩
        ·obtain rfl:p=P.length:=by omega
         have R3:Hid (b=true->T-Lx.tot C+1<=K0-1):=fun hb=>by
          have h1:=HT.out.2 hb;have h2:=CV.out;have h3:=F3.out zS;omega
         have wT:Hid (b=false->DV P row C):=fun hb=>by
          obtain⟨h1,h2⟩:=HT.out.1 hb;refine⟨HG.out.tok,fun pd hpd i j hij hj hc=>?_⟩;obtain⟨a,ha,rfl⟩:=List.getElem_of_mem hpd;rw[h1]at hc |-;exact h2 a ha ha i j hij hj hc
         have hK:1<=K0:=by have:=CV.out;omega
         clear HT CV;go_wp2_with fail;go_roundg (K0-1)
         case measure=>have:=jV.out;omega
         case rel=>exact⟨b,C,rfl,R3,zS,hbx,lx,HG,wT⟩
end Go.Proofs.YtlcppnabbicmoaaGreatDoor

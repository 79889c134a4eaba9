import Derived.Test.YtlcppnabbicmoaaGreatDoorME40
set_option maxHeartbeats 8000000
set_option maxRecDepth 1000000
namespace Go.Proofs.YtlcppnabbicmoaaGreatDoor
section
open Go.RowKit
open Tr
namespace Lx
def rowAt (B:List (List Bool))(i:Nat):List Bool:=B[i]?.getD []
def joinS (l:Nat)(B:List (List Bool))(s:Nat):List (List Bool):=B.set l (orL (rowAt B l) (rowAt B s))
def cntA (E:List Bool)(p:Pd):Nat:=min (aheadN E p.right+1) p.right.length
def stepF (E:List Bool)(B:List (List Bool))(p:Pd):List (List Bool):=(p.right.take (cntA E p)).foldl (joinS p.left) B
def passF (P:List Pd)(E:List Bool)(B:List (List Bool)):List (List Bool):=P.foldl (stepF E) B
def tot (B:List (List Bool)):Nat:=(B.map cntB).sum
theorem rowAt_eq {B:List (List Bool)}{i:Nat}(h:i<B.length):rowAt B i=B[i]:=by simp[rowAt,h]
theorem tot_set:∀ {B:List (List Bool)} {l:Nat} {C:List Bool} (h:l<B.length),tot (B.set l C)+cntB B[l]=tot B+cntB C
 | b::B,0,C,_=>by simp[tot];omega
 | b::B,l+1,C,h=>by
  have:=tot_set (B:=B) (l:=l) (C:=C) (by simpa using h);simp[tot]at this ⊢;omega
theorem tot_le {nT:Nat}:∀ {B:List (List Bool)},(∀ b∈B,b.length=nT)->tot B<=B.length*nT
 | [],_=>by simp[tot]
 | b::B,h=>by
  have h1:=tot_le (B:=B) fun x hx=>h x (List.mem_cons_of_mem _ hx)
  have h2:=cntB_le b;rw[h b List.mem_cons_self]at h2;simp[tot,Nat.succ_mul]at h1 ⊢;omega
theorem orL_len (A B:List Bool):(orL A B).length=A.length:=by unfold orL;rw[orTo_len]
end Lx
theorem BB.at {w:World}{gO nT:Nat}{gs:List Nat}{B:List (List Bool)}(h:BB w gO nT gs B){i:Nat}(hi:i<gs.length):w.cell? ⟨gO,i,none⟩=some (.slice (some ⟨gs[i],0,none⟩) nT nT)/\Blk w gs[i] (boolsV (Lx.rowAt B i)) 4/\(Lx.rowAt B i).length=nT:=by
 have hi':i<B.length:=by rw[h.len];exact hi
 rw[Lx.rowAt_eq hi'];refine⟨?_,h.rows i hi hi',h.rl _ (List.getElem_mem hi')⟩;rw[h.outer.cell i,vA_get];simp[hi,slB]
theorem BB.join {w w':World}{gO nT:Nat}{gs:List Nat}{B:List (List Bool)}(h:BB w gO nT gs B){l:Nat}(hl:l<gs.length){A C:List Bool}(hj:JoinP w gs[l] A C w')(hC:C.length=nT):BB w' gO nT gs (B.set l C):=by
 obtain⟨h1,h2,h3,h4,h5,h6⟩:=h;refine⟨(hj.oth gO (fun e=>h6 (e ▸ List.getElem_mem hl))).trans h1,by rw[List.length_set];exact h2,fun i hi hi'=>?_,fun b hb=>?_,h5,h6⟩
 ·rw[List.getElem_set]
  by_cases e:l=i
  ·subst e;rw[if_pos rfl];exact hj.blk
  ·rw[if_neg e]
   rw[List.length_set]at hi';exact (hj.oth _ (fun e'=>e ((List.getElem_inj h5).1 e').symm)).trans (h3 i hi hi')
 ·rcases List.mem_or_eq_of_mem_set hb with hb | hb
  ·exact h4 b hb
  ·rw[hb];exact hC
theorem BB.move {w w':World}{gO nT:Nat}{gs:List Nat}{B:List (List Bool)}(h:BB w gO nT gs B)(hk:∀ g,g<w.heap.size->w'.heap[g]?=w.heap[g]?):BB w' gO nT gs B:=⟨(hk _ h.outer.lt).trans h.outer,h.len,fun i hi hi'=>(hk _ (h.rows i hi hi').lt).trans (h.rows i hi hi'),h.rl,h.nd,h.no⟩
theorem make_lists {n:Nat}(hn:n<=100000)(w:World):(Instr.makeSlice 40 (.int .i64 (n:Int)) (.int .i64 (n:Int))).run Tryz.prog w=.ok (.slice (some ⟨w.heap.size,0,none⟩) n n) (w.alloc (.cells (vA (List.replicate n (Value.slice none 0 0))) 24)):=by
 obtain⟨i0,hi,hz0,hz1,hz2⟩:=info_parts Tryz.info24;have h:=run_make (P:=Tryz.prog) w 40 24 i0 _ (by kernel_rfl) hi hz0 .i64 .i64 (n:Int) (n:Int) (by omega) (Int.le_refl _) (by rw[hz2];omega) (by omega);rw[h,Int.toNat_natCast,hz1];have e:Value.cells (.slice none 0 0)=#[.slice none 0 0]:=rfl;have e2:madeCells #[.slice none 0 0] (n*1)=(vA (List.replicate n (Value.slice none 0 0))):=by
  unfold madeCells vA;apply Array.ext
  ·simp
  ·intro i h1 h2
   simp[Nat.mod_one]
 rw[e,e2]
def PtD (B:Nat)(w:World)(v:Value)(ps:List (List Nat)):Prop:=∃ qs,PtBy B w v ps qs/\qs.Pairwise fun a b=>∀ g,a.1.ownBlock=some g->b.1.ownBlock≠some g
theorem PtD.pt {B:Nat}{w:World}{v:Value}{ps:List (List Nat)}(h:PtD B w v ps):PtR B w v ps:=by
 obtain⟨qs,h1,-⟩:=h;exact⟨qs,h1⟩
def FirstP (w:World)(nT n:Nat)(P:List Lx.Pd)(E:List Bool)(e:Ending)(w':World):Prop:=∃ v B m,e=.returned v/\B=Lx.itr (Lx.passF P E) m (Lx.alone nT n)/\Lx.passF P E B=B/\PtD w.heap.size w' v (B.map Lx.membersL)/\Below w.heap.size w w'
theorem firstTokens_any {w:World}{ta:Option Addr}{nT tc:Nat}{na:Option Addr}{nN nc:Nat}{vP:Value}{P:List Lx.Pd}{ba ka:Option Addr}{nb bc nk kc gE:Nat}{E:List Bool}(h:SetIn w ta nT tc na nN nc vP P)(kE:Blk w gE (boolsV E) 4)(hE:E.length=nT+nN)(hpr:∀ p∈P,p.right.length<=100000):Calls Tryz.prog 32 #[.agg #[.slice ta nT tc,.slice na nN nc,vP,.slice ba nb bc,.slice ka nk kc],.slice (some ⟨gE,0,none⟩) (nT+nN) (nT+nN)] w (FirstP w nT (nT+nN) P E):=by
 obtain⟨hP,hok,hbd⟩:=h;obtain⟨pa,pc,rfl,hpm⟩:∃ a c,vP=.slice a P.length c/\P.length<=maxLen:=by obtain⟨ps,h1,h2,-⟩:=hP;exact own_len h2
 unfold maxLen at hpm;obtain⟨W,hW⟩:∃ W,W=w.alloc (.cells #[.slice ta nT tc,.slice na nN nc,.slice pa P.length pc,.slice ba nb bc,.slice ka nk kc] 26):=⟨_,rfl⟩;have hbW:Below w.heap.size w W:=by rw[hW];exact (Below.refl _ _).alloc (Nat.le_refl _) _
 have hsW:W.heap.size=w.heap.size+1:=by rw[hW];simp
 have kA:Blk W w.heap.size #[.slice ta nT tc,.slice na nN nc,.slice pa P.length pc,.slice ba nb bc,.slice ka nk kc] 26:=by rw[hW];exact Blk.new w _ 26
 have q0:=tokensAlone_any (w:=W) (ta:=ta) (tc:=tc) (na:=na) (nc:=nc) (vP:=.slice pa P.length pc) (vB:=.slice ba nb bc) (vK:=.slice ka nk kc) rfl rfl rfl hbd;have hnT:nT<=100000:=by omega
 obtain⟨n,hn⟩:∃ n,n=nT+nN:=⟨_,rfl⟩;rw[<-hn]at hok hbd hE q0 ⊢;clear hn;unfold FirstP;go_enter Tryz.func32,Tryz.ntmps32;go_wp2_with fail;rw[<-hW];clear hW;refine q0.mono ?_;rintro e w1 ⟨gO,gs,rfl,hgO,hgs,hBB,hb1⟩;clear q0;have hs1:=hb1.size;have hbw1:Below w.heap.size w w1:=hbW.trans (hb1.mono (by omega));have kA1:Blk w1 w.heap.size _ 26:=(hb1.block _ (by omega)).trans kA;have kE1:Blk w1 gE (boolsV E) 4:=(hbw1.block _ kE.lt).trans kE;have lE:=kE.lt;have hgl:gs.length=n:=by rw[<-hBB.len];simp[Lx.alone]
 go_wp2_with fail
 go_loopg [6] (n*nT+1) (fun k v wr=>∃ (b:Bool) (B:List (List Bool)) (m:Nat),v=.bool b/\(b=true->n*nT-Lx.tot B+1<=k)/\BB wr gO nT gs B/\Kp (fun g=>g<W.heap.size) w1 wr/\Hid (B=Lx.itr (Lx.passF P E) m (Lx.alone nT n))/\Hid (b=false->Lx.passF P E B=B))
 case atStart=>exact⟨true,_,0,rfl,fun _=>by omega,hBB,Kp.refl _ _,rfl,fun h=>by cases h⟩
 case round =>
  revert wr;intro wz hrel;obtain⟨b,B,m,rfl,hbk,hBz,hkz,HB,HF⟩:=hrel;have kAz:Blk wz w.heap.size _ 26:=kp_blk kA1 hkz (by show w.heap.size<W.heap.size;omega);have z2:wz.cell? ⟨w.heap.size,2,none⟩=some (.slice pa P.length pc):=kAz.cell 2;cases b with
  | true =>
   obtain⟨K0,HK0⟩:∃ K0,Hid (K0=gk):=⟨gk,rfl⟩;have hk2:n*nT-Lx.tot B+1<=K0:=by rw[HK0.out];exact hbk rfl
   have htl:∀ {C:List (List Bool)} {x:World},BB x gO nT gs C->Lx.tot C<=n*nT:=fun hC=>by
    have:=Lx.tot_le hC.rl;rw[hC.len,hgl]at this;exact this
   clear hbk HF;have H0:Hid (Lx.passF P E B=Lx.passF (P.drop 0) E B):=rfl;go_wp2_with fail
   go_loopg [6,21] P.length (fun k v i wr=>∃ (j:Nat) (b:Bool) (C:List (List Bool)),j+k=P.length/\v=.bool b/\i=.int .i64 j/\BB wr gO nT gs C/\Kp (fun g=>g<W.heap.size) w1 wr/\Hid ((b=false->C=B)/\(b=true->Lx.tot B<Lx.tot C)/\Lx.tot B<=Lx.tot C)/\Hid (Lx.passF P E B=Lx.passF (P.drop j) E C))
   case atStart=>exact⟨0,false,B,by omega,rfl,rfl,hBz,hkz,⟨fun _=>rfl,(fun h=>by cases h),Nat.le_refl _⟩,H0⟩
   case round =>
    clear H0 hBz hkz kAz z2;revert wr;intro wy hrel;obtain⟨j,b,C,hkj,rfl,rfl,hC,hky,HC,HP⟩:=hrel;have hsy:=hky.size;have hby:Below w.heap.size w wy:=⟨hky.os.trans hbw1.os,hky.tape.trans hbw1.tape,hky.output.trans hbw1.output,Nat.le_trans hbw1.size hky.size,fun x hx=>(hky.block x (by show x<W.heap.size;omega)).trans (hbw1.block x hx)⟩
    by_cases hlt:j<P.length
    ·obtain⟨g,cap,u,hv,hu0,x0',x1',x2'⟩:=hP.at hlt
     cases hv;have hu:IR 0 wy u P[j].right:=own_below hu0 hby;have x0:=cell_below hby x0';have x1:=cell_below hby x1';have x2:=cell_below hby x2';clear x0' x1' x2';obtain⟨hleft,hright⟩:=hok P[j] (List.getElem_mem hlt);have hrl:=hpr P[j] (List.getElem_mem hlt);have hd:=HP.out;rw[List.drop_eq_getElem_cons hlt,show Lx.passF (P[j]::P.drop (j+1)) E C=Lx.passF (P.drop (j+1)) E (Lx.stepF E C P[j]) from rfl]at hd;generalize P[j]=pd at hu hu0 x0 x1 x2 hleft hright hd hrl;obtain⟨pl,pr,pp⟩:=pd;simp only at hu hu0 x0 x1 x2 hleft hright hrl;obtain⟨ua,uc,rfl,-⟩:=own_len hu;obtain⟨W1,hW1⟩:∃ W1,W1=wy.alloc (.cells #[.int .i64 (pl:Int),.slice ua pr.length uc,.int .i64 pp] 58):=⟨_,rfl⟩;have hbA:Below wy.heap.size wy W1.drew:=by rw[hW1];exact ((Below.refl _ _).alloc (Nat.le_refl _) _).drew
     have hsA:W1.heap.size=wy.heap.size+1:=by rw[hW1];simp
     have kp:Blk W1.drew wy.heap.size #[.int .i64 (pl:Int),.slice ua pr.length uc,.int .i64 pp] 58:=by rw[hW1];exact (Blk.new wy _ 58).drew
     have kEA:Blk W1.drew gE (boolsV E) 4:=(hbA.block _ (by have:=hby.size;omega)).trans ((hby.block _ lE).trans kE);have hCA:BB W1.drew gO nT gs C:=hC.move fun x hx=>hbA.block x hx
     have hkA:Kp (fun g=>g<W.heap.size) w1 W1.drew:=hky.trans (Kp.below hbA (D:=fun g=>g<wy.heap.size) fun g hg=>hg) fun g hg=>by show g<wy.heap.size;omega
     have p1:W1.drew.cell? ⟨wy.heap.size,1,none⟩=some (.slice ua pr.length uc):=kp.cell 1;have huA:IR 0 W1.drew (.slice ua pr.length uc) pr:=own_below hu hbA;have q1:=emptyAhead_any huA kEA (fun s hs=>by rw[hE];exact hright s hs);rw[hE]at q1;have hale:=Lx.aheadN_le E pr;have HST:Hid (Lx.stepF E C ⟨pl,pr,pp⟩=(pr.take (min (Lx.aheadN E pr+1) pr.length)).foldl (Lx.joinS pl) C):=rfl;obtain⟨cn,hcn⟩:∃ cn,cn=min (Lx.aheadN E pr+1) pr.length:=⟨_,rfl⟩;rw[<-hcn]at HST;have HCN:Hid (cn=min (Lx.aheadN E pr+1) pr.length):=hcn;have hcl:cn<=pr.length:=by omega
     generalize Lx.aheadN E pr=an at q1 hale HCN hcn;clear hcn;go_wp2_with fail;rw[<-hW1];clear hW1 x0 x1 x2
     go_region_held3 (fun w'=>w'.cell? ⟨wy.heap.size,1,none⟩=some (.slice ua pr.length uc)) (first | go_keep | assumption) ((go_at_call 71;refine q1.mono ?_;rintro e w5 ⟨rfl,hw5⟩;subst hw5))
     have hmin:min (IntKind.i64.wrap ((an:Int)+1)) (pr.length:Int)=(cn:Int):=by
      rw[show ((an:Int)+1)=((an+1:Nat):Int) from by omega,wrap64 (by omega),HCN.out];omega
     rw[hmin];clear hmin q1;rw[HST.out]at hd;have HSYM:Hid (∀ s∈pr.take cn,s<n):=fun s hs=>hright s (List.mem_of_mem_take hs)
     have hcap:=own_cap huA;have c0:(0:Int)<=(cn:Int):=by omega
     have c1:(cn:Int)<=(uc:Int):=by omega
     have hlen:(pr.take cn).length=cn:=by rw[List.length_take];omega
     have hgy:∀ x∈gs,x<wy.heap.size:=fun x hx=>by
      obtain⟨i,hi,rfl⟩:=List.getElem_of_mem hx;exact (hC.rows i hi (by rw[hC.len];exact hi)).lt
     have H3:Hid (Lx.passF P E B=Lx.passF (P.drop (j+1)) E (((pr.take cn).drop 0).foldl (Lx.joinS pl) C)):=hd;have HU:Hid (∀ {x:World},Kp (fun g=>g<W.heap.size∨g=wy.heap.size) W1.drew x->IR 0 x (.slice ua pr.length uc) pr):=fun hx=>own_move huA fun g hg=>hx.block g (.inl (by have:=(hu0.lt g hg).2;omega))
     clear hd HP;rcases huA.2 with ⟨e1,e2⟩ | ⟨gR,capR,curR,hvR,-,hhR,hx1,hx2,hx3,hx4⟩
     ·have hcn0:cn=0:=by omega
      subst hcn0;have H4:Hid (Lx.passF P E B=Lx.passF (P.drop (j+1)) E C):=by show _=_;have:=H3.out;simpa using this
      simp only[Value.slice.injEq]at e1;obtain⟨rfl,-,rfl⟩:=e1;have hpr0:pr=[]:=List.eq_nil_of_length_eq_zero e2;subst hpr0;clear H3 HST HCN e2 hlen HSYM HU;go_wp2_with fail
      go_loopg [6,39] 0 (fun k v i wr=>k=0/\v=.bool b/\i=.int .i64 0/\wr=W1.drew)
      case atStart=>exact⟨rfl,rfl,rfl,rfl⟩
      case round =>
       obtain⟨rfl,rfl,rfl,rfl⟩:=hrel;go_wp2_with fail;go_roundg (P.length - (j+1))
       case measure=>omega
       case rel=>exact⟨j+1,b,C,by omega,rfl,by go_num,hCA,hkA,HC,H4⟩
     ·cases hvR
      clear hx4 hx3 hhR hx2 hx1;go_wp2_with fail
      go_loopg [6,39] cn (fun k v i wr=>∃ (q:Nat) (b2:Bool) (C2:List (List Bool)),q+k=cn/\v=.bool b2/\i=.int .i64 q/\BB wr gO nT gs C2/\Kp (fun g=>g<W.heap.size∨g=wy.heap.size) W1.drew wr/\Hid ((b2=false->C2=B)/\(b2=true->Lx.tot B<Lx.tot C2)/\Lx.tot B<=Lx.tot C2)/\Hid (Lx.passF P E B=Lx.passF (P.drop (j+1)) E (((pr.take cn).drop q).foldl (Lx.joinS pl) C2)))
      case atStart=>exact⟨0,b,C,by omega,rfl,rfl,hCA,Kp.refl _ _,HC,H3⟩
      case round =>
       clear H3 hCA p1 kEA;obtain⟨q,b2,C2,hkq,rfl,rfl,hC2,hkr,HC2,H3⟩:=hrel
       by_cases hltq:q<cn
       ·have hur:=HU.out hkr
        obtain⟨gR',capR',hvR',-,cq⟩:=hur.at (j:=q) (by omega);cases hvR';have h3:=H3.out;have hqx:q<(pr.take cn).length:=by rw[hlen];exact hltq
        have hdr:(pr.take cn).drop q=(pr.take cn)[q]::(pr.take cn).drop (q+1):=List.drop_eq_getElem_cons hqx;rw[hdr,List.foldl_cons,List.getElem_take]at h3;have hsn:=hright pr[q] (List.getElem_mem (by omega));generalize pr[q]=sy at cq h3 hsn;obtain⟨o1,o2,o3⟩:=hC2.at (i:=pl) (by omega);obtain⟨y1,y2,y3⟩:=hC2.at (i:=sy) (by omega);have kpr:Blk wr wy.heap.size #[.int .i64 (pl:Int),.slice (some ⟨gR,0,none⟩) pr.length uc,.int .i64 pp] 58:=kp_blk kp hkr (.inr rfl);have dp:wr.drew.cell? ⟨wy.heap.size,0,none⟩=some (.int .i64 (pl:Int)):=kpr.drew.cell 0;have do1:wr.drew.cell? ⟨gO,pl,none⟩=some (.slice (some ⟨gs[pl]'(by omega),0,none⟩) nT nT):=o1;have dy1:wr.drew.cell? ⟨gO,sy,none⟩=some (.slice (some ⟨gs[sy]'(by omega),0,none⟩) nT nT):=y1;have i1:(0:Int)<=(pl:Int):=by omega
        have i2:(pl:Int)<(n:Int):=by omega
        have i3:(0:Int)<=(sy:Int):=by omega
        have i4:(sy:Int)<(n:Int):=by omega
        have hlC:C2.length=n:=by rw[hC2.len];exact hgl
        have hCd:BB wr.drew gO nT gs C2:=hC2.move fun _ _=>rfl
        by_cases hps:sy=pl
        ·subst hps
         have hjs:Lx.joinS sy C2 sy=C2:=by
          unfold Lx.joinS;rw[Lx.orL_self,Lx.rowAt_eq (by omega)];exact List.set_getElem_self _
         rw[hjs]at h3;have H4:Hid (Lx.passF P E B=Lx.passF (P.drop (j+1)) E (((pr.take cn).drop (q+1)).foldl (Lx.joinS sy) C2)):=h3;have q1:=join_self (w:=wr.drew) (o2.drew) o3 hnT;have hkd:Kp (fun g=>g<W.heap.size∨g=wy.heap.size) W1.drew wr.drew:=⟨hkr.os,hkr.tape,hkr.output,hkr.size,hkr.block⟩;generalize gs[sy]'(by omega)=ga at do1 dy1 q1;clear h3 H3 hjs hdr o1 y1 o2 y2;go_wp2_with fail
         go_region_held3 (fun w'=>w'.cell? ⟨wy.heap.size,0,none⟩=some (.int .i64 (sy:Int))/\w'.cell? ⟨gO,sy,none⟩=some (.slice (some ⟨ga,0,none⟩) nT nT)) (first | go_keep | assumption) ((go_at_call 73;refine q1.mono ?_;rintro e w5 ⟨rfl,hw5⟩;subst hw5))
         all_goals
          go_wp2_with fail;go_roundg (cn - (q+1))
          case measure=>omega
          case rel=>exact⟨q+1,b2,C2,by omega,rfl,by go_num,hCd,hkd,HC2,H4⟩
        ·have hgne:gs[pl]'(by omega)≠gs[sy]'(by omega):=fun e=>hps ((List.getElem_inj hC2.nd).1 e).symm
         have H4:Hid (Lx.passF P E B=Lx.passF (P.drop (j+1)) E (((pr.take cn).drop (q+1)).foldl (Lx.joinS pl) (Lx.joinS pl C2 sy))):=h3;have q1:=join_any (w:=wr.drew) hgne (o2.drew) (y2.drew) o3 y3 hnT;have hts:=Lx.tot_set (B:=C2) (l:=pl) (C:=Lx.orL (Lx.rowAt C2 pl) (Lx.rowAt C2 sy)) (by omega);rw[<-Lx.rowAt_eq (B:=C2) (i:=pl) (by omega)]at hts;have hgm:=List.getElem_mem (l:=gs) (n:=pl) (by omega);have hgW:=hgs _ hgm;have hgW2:=hgy _ hgm;have HJ:Hid (∀ {x:World},JoinP wr.drew (gs[pl]'(by omega)) (Lx.rowAt C2 pl) (Lx.orL (Lx.rowAt C2 pl) (Lx.rowAt C2 sy)) x->BB x gO nT gs (Lx.joinS pl C2 sy)):=fun hx=>hCd.join (by omega) hx (by rw[Lx.orL_len];exact o3)
         have HT:Hid (Lx.tot (Lx.joinS pl C2 sy)+Lx.cntB (Lx.rowAt C2 pl)=Lx.tot C2+Lx.cntB (Lx.orL (Lx.rowAt C2 pl) (Lx.rowAt C2 sy))):=hts;have HE0:Hid (Lx.orL (Lx.rowAt C2 pl) (Lx.rowAt C2 sy)=Lx.rowAt C2 pl->Lx.joinS pl C2 sy=C2):=fun he=>by
          unfold Lx.joinS;rw[he,Lx.rowAt_eq (by omega)];exact List.set_getElem_self _
         have hsg:gs[pl]'(by omega)≠wy.heap.size:=by omega
         have hgO:gO≠gs[pl]'(by omega):=fun e=>hC2.no (e ▸ hgm)
         generalize gs[pl]'(by omega)=ga at do1 q1 hgW hsg HJ hgO;generalize gs[sy]'(by omega)=gb at dy1 q1;clear h3 H3 hdr o1 y1 o2 y2 hgne hgm hts;go_wp2_with fail
         go_region_held3 (fun w'=>w'.cell? ⟨wy.heap.size,0,none⟩=some (.int .i64 (pl:Int))/\w'.cell? ⟨gO,pl,none⟩=some (.slice (some ⟨ga,0,none⟩) nT nT)/\w'.cell? ⟨gO,sy,none⟩=some (.slice (some ⟨gb,0,none⟩) nT nT)) (first | go_keep | assumption) ((go_at_call 73;refine q1.mono ?_;rintro e w5 ⟨b3,rfl,hb3t,hb3f,hJP⟩;have S5:w5.cell? ⟨wy.heap.size,0,none⟩=some (.int .i64 (pl:Int))/\w5.cell? ⟨gO,pl,none⟩=some (.slice (some ⟨ga,0,none⟩) nT nT)/\w5.cell? ⟨gO,sy,none⟩=some (.slice (some ⟨gb,0,none⟩) nT nT):=⟨(World.cell?_of_block (w:=wr.drew) (hJP.oth _ (fun e=>hsg e.symm))).trans dp,(World.cell?_of_block (w:=wr.drew) (hJP.oth _ hgO)).trans do1,(World.cell?_of_block (w:=wr.drew) (hJP.oth _ hgO)).trans dy1⟩))
         all_goals
          have hB5:=HJ.out hJP;have hk5:Kp (fun g=>g<W.heap.size∨g=wy.heap.size) W1.drew w5:=⟨hJP.os.trans hkr.os,hJP.tape.trans hkr.tape,hJP.output.trans hkr.output,by rw[hJP.size];exact hkr.size,fun x hx=>(hJP.oth x (by rcases hx with hx | hx <;> omega)).trans (hkr.block x hx)⟩;clear S5 q1 dp do1 dy1;cases b3 with
          | true =>
           have hcl2:=hb3t rfl;have HC3:Hid (Lx.tot B<Lx.tot (Lx.joinS pl C2 sy)):=by have:=HT.out;have:=HC2.out.2.2;show _<_;omega
           clear hb3t hb3f hcl2;go_wp2_with fail;go_roundg (cn - (q+1))
           case measure=>omega
           case rel=>exact⟨q+1,true,_,by omega,rfl,by go_num,hB5,hk5,⟨(fun h=>by cases h),fun _=>HC3.out,Nat.le_of_lt HC3.out⟩,H4⟩
          | false =>
           have he:=HE0.out (hb3f rfl);rw[he]at hB5 H4;clear hb3t hb3f he;go_wp2_with fail;go_roundg (cn - (q+1))
           case measure=>omega
           case rel=>exact⟨q+1,b2,C2,by omega,rfl,by go_num,hB5,hk5,HC2,H4⟩
       ·have:q=cn:=by omega
        subst this;have H4:Hid (Lx.passF P E B=Lx.passF (P.drop (j+1)) E C2):=by
         show _=_;have:=H3.out;rw[show (pr.take q).drop q=[] from List.drop_eq_nil_of_le (by rw[hlen];exact Nat.le_refl _)]at this;exact this
        have hk5:Kp (fun g=>g<W.heap.size) w1 wr:=hkA.trans hkr fun g hg=>.inl hg
        clear H3 HU;go_wp2_with fail;go_roundg (P.length - (j+1))
        case measure=>omega
        case rel=>exact⟨j+1,b2,C2,by omega,rfl,by go_num,hC2,hk5,HC2,H4⟩
    ·have:j=P.length:=by omega
     subst this;have hd:=HP.out;rw[List.drop_length]at hd;have HPF:Hid (Lx.passF P E B=C):=hd;have hcF:=htl hC;have HE2:Hid (C=Lx.itr (Lx.passF P E) (m+1) (Lx.alone nT n)):=by
      show C=Lx.passF P E (Lx.itr (Lx.passF P E) m (Lx.alone nT n));rw[<-HB.out];exact HPF.out.symm
     have HF0:Hid (b=false->Lx.passF P E C=C):=fun hb=>by
      have h1:=HC.out.1 hb;rw[h1];have:=HPF.out;rw[h1]at this;exact this
     have HMS:Hid (b=true->n*nT-Lx.tot C+1<=K0-1):=fun hb=>by
      have:=HC.out.2.1 hb;omega
     clear HC HP hd htl;go_wp2_with fail;go_roundg (K0-1)
     case measure=>have:=HK0.out;omega
     case rel=>exact⟨b,C,m+1,rfl,HMS.out,hC,hky,HE2,HF0⟩
  | false =>
   have HF2:Hid (Lx.passF P E B=B):=HF.out rfl;have hmk:=fun w=>make_lists hbd w
   have hbz:Below w.heap.size w wz:=⟨hkz.os.trans hbw1.os,hkz.tape.trans hbw1.tape,hkz.output.trans hbw1.output,Nat.le_trans hbw1.size hkz.size,fun x hx=>(hkz.block x (by show x<W.heap.size;omega)).trans (hbw1.block x hx)⟩;have hszz:=hbz.size;obtain⟨W3,hW3⟩:∃ W3,W3=wz.alloc (.cells (vA (List.replicate n (Value.slice none 0 0))) 24):=⟨_,rfl⟩;have hb3:Below wz.heap.size wz W3:=by rw[hW3];exact (Below.refl _ _).alloc (Nat.le_refl _) _
   have hs3:W3.heap.size=wz.heap.size+1:=by rw[hW3];simp
   have kL:Blk W3 wz.heap.size (vA (List.replicate n (Value.slice none 0 0))) 24:=by rw[hW3];exact Blk.new wz _ 24
   have hB3:BB W3 gO nT gs B:=hBz.move fun x hx=>hb3.block x hx
   clear hbk HF z2 kAz;go_wp2_with fail;rw[<-hW3];clear hW3 hmk
   go_loopg [60] n (fun k i wr=>∃ (j:Nat) (us:List Value),j+k=n/\i=.int .i64 j/\us.length=j/\Blk wr wz.heap.size (vA (us++List.replicate (n-j) (Value.slice none 0 0))) 24/\(∀ x (hx:x<us.length),IR w.heap.size wr us[x] (Lx.membersL (Lx.rowAt B x))/\us[x].ownBlock≠some wz.heap.size)/\Hid (us.Pairwise fun a b=>∀ g,a.ownBlock=some g->b.ownBlock≠some g)/\Kp (fun g=>g<W3.heap.size/\g≠wz.heap.size) W3 wr)
   case atStart=>exact⟨0,[],by omega,rfl,rfl,by simpa using kL,(fun x hx=>absurd hx (by simp)),List.Pairwise.nil,Kp.refl _ _⟩
   case round =>
    obtain⟨j,us,hkj,rfl,hul,hL,hus,HPW,hkr⟩:=hrel;have hsr:=hkr.size
    by_cases hlt:j<n
    ·have hBr:BB wr gO nT gs B:=by
      have hkk:∀ x,x<wz.heap.size->wr.heap[x]?=wz.heap[x]?:=fun x hx=>(hkr.block x ⟨by omega,by omega⟩).trans (hb3.block x hx)
      exact hBz.move hkk
     obtain⟨o1,o2,o3⟩:=hBr.at (i:=j) (by omega);have q1:=members_any (w:=wr) o2 o3 hnT;have lL:=hL.lt;have cL:wr.cell? ⟨wz.heap.size,j,none⟩=some (.slice none 0 0):=by
      rw[hL.cell j,vA_get,List.getElem?_append_right (by omega),hul,Nat.sub_self,List.getElem?_replicate,if_pos (by omega)]
     have i1:(0:Int)<=(j:Int):=by omega
     have i2:(j:Int)<(n:Int):=by omega
     generalize gs[j]'(by omega)=ga at o1 q1;have hset:∀ u:Value,(us++List.replicate (n-j) (Value.slice none 0 0)).set j u=(us++[u])++List.replicate (n - (j+1)) (Value.slice none 0 0):=fun u=>by
      rw[List.set_append_right _ _ (by omega),show n-j=n - (j+1)+1 by omega,List.replicate_succ,hul];simp
     have HSET:Hid _:=hset;clear hset o2;go_wp2_with fail;refine q1.mono ?_;rintro e w5 ⟨u,rfl,hu,hb5⟩;obtain⟨ua,uc,rfl,-⟩:=own_len hu;have hL5:Blk w5 wz.heap.size _ 24:=(hb5.block _ lL).trans hL;have c5:w5.cell? ⟨wz.heap.size,j,none⟩=some (.slice none 0 0):=cell_below hb5 cL;have f5:∀ i,w5.frozen? ⟨wz.heap.size,i,none⟩=false:=hL5.frozen;have hL6:=hL5.set j (.slice ua (Lx.membersL (Lx.rowAt B j)).length uc);rw[vA_set,HSET.out]at hL6;have hus6:∀ x (hx:x<(us++[Value.slice ua (Lx.membersL (Lx.rowAt B j)).length uc]).length),IR w.heap.size (w5.setCell ⟨wz.heap.size,j,none⟩ (.slice ua (Lx.membersL (Lx.rowAt B j)).length uc)) (us++[Value.slice ua (Lx.membersL (Lx.rowAt B j)).length uc])[x] (Lx.membersL (Lx.rowAt B x))/\(us++[Value.slice ua (Lx.membersL (Lx.rowAt B j)).length uc])[x].ownBlock≠some wz.heap.size:=by
      intro x hx;rw[List.length_append,List.length_singleton]at hx
      by_cases hxu:x<us.length
      ·rw[List.getElem_append_left hxu]
       have h1:=hus x hxu;exact⟨own_move (own_below h1.1 hb5) fun g hg=>Below.heap_setCell _ _ _ _ (fun e=>h1.2 (by rw[hg];exact congrArg some e)),h1.2⟩
      ·have:x=us.length:=by omega
       subst this;rw[List.getElem_append_right (Nat.le_refl _)];simp only[Nat.sub_self,List.getElem_cons_zero];rw[hul];have hnl:(Value.slice ua (Lx.membersL (Lx.rowAt B j)).length uc).ownBlock≠some wz.heap.size:=fun e=>by have:=(hu.lt _ e).1;omega
       exact⟨own_le (own_move hu fun g hg=>Below.heap_setCell _ _ _ _ (fun e=>hnl (by rw[hg];exact congrArg some e))) (by omega),hnl⟩
     have hk6:Kp (fun g=>g<W3.heap.size/\g≠wz.heap.size) W3 (w5.setCell ⟨wz.heap.size,j,none⟩ (.slice ua (Lx.membersL (Lx.rowAt B j)).length uc)):=⟨hb5.os.trans hkr.os,hb5.tape.trans hkr.tape,hb5.output.trans hkr.output,by have:=hb5.size;simp[World.setCell];omega,fun x hx=>(Below.heap_setCell _ _ _ _ hx.2).trans ((hb5.block x (by omega)).trans (hkr.block x hx))⟩;have HP6:Hid ((us++[Value.slice ua (Lx.membersL (Lx.rowAt B j)).length uc]).Pairwise fun a b=>∀ g,a.ownBlock=some g->b.ownBlock≠some g):=List.pairwise_append.2 ⟨HPW.out,List.pairwise_singleton _ _,fun a ha b hb g hg e=>by
      rw[List.mem_singleton]at hb;subst hb;obtain⟨x,hx,rfl⟩:=List.getElem_of_mem ha;have h1:=((hus x hx).1.lt g hg).2;have h2:=(hu.lt g e).1;omega⟩
     have HL6:Hid _:=hL6;have HU6:Hid _:=hus6;clear hL6 hus6 hus hL hL5 q1 cL o1;go_wp2_with fail;go_roundg (n - (j+1))
     case measure=>omega
     case rel=>exact⟨j+1,_,by omega,by go_num,by rw[List.length_append,List.length_singleton];omega,HL6.out,HU6.out,HP6,hk6⟩
    ·have:j=n:=by omega
     subst this;have hlB:B.length=j:=by rw[hBz.len];exact hgl
     have hpt:PtD w.heap.size wr (.slice (some ⟨wz.heap.size,0,none⟩) j j) (B.map Lx.membersL):=by
      have hlen2:us.length=(B.map Lx.membersL).length:=by rw[List.length_map];omega
      have hL':Blk wr wz.heap.size (vA us) 24:=by simpa using hL
      refine⟨us.zip (B.map Lx.membersL),⟨List.map_snd_zip (by omega),?_,?_,?_⟩,?_⟩
      ·rw[List.map_fst_zip (by omega),List.length_map,hlB]
       refine⟨by rw[hul];simp,.inr ⟨wz.heap.size,j,vA us,rfl,by omega,hL',Nat.le_refl _,by unfold maxLen;omega,by simp[vA,hul],?_⟩⟩;unfold vA;rw[Nat.mul_one,<-hul];exact List.take_length
      ·intro q hq
       obtain⟨x,hx,rfl⟩:=List.getElem_of_mem hq;rw[List.length_zip]at hx;rw[List.getElem_zip,List.getElem_map];have h1:=hus x (by omega);rw[Lx.rowAt_eq (by omega)]at h1;exact h1.1
      ·intro q hq g hg e
       obtain⟨x,hx,rfl⟩:=List.getElem_of_mem hq;rw[List.length_zip]at hx;rw[List.getElem_zip]at hg;have e1:wz.heap.size=g:=by simpa [Value.ownBlock]using e
       exact (hus x (by omega)).2 (by rw[e1];exact hg)
      ·rw[List.pairwise_iff_getElem]
       intro x y hx hy hxy g hg;rw[List.length_zip]at hx hy;rw[List.getElem_zip]at hg ⊢;exact List.pairwise_iff_getElem.1 HPW.out x y (by omega) (by omega) hxy g hg
     have hbf:Below w.heap.size w wr:=⟨hkr.os.trans (hb3.os.trans hbz.os),hkr.tape.trans (hb3.tape.trans hbz.tape),hkr.output.trans (hb3.output.trans hbz.output),by omega,fun x hx=>(hkr.block x ⟨by omega,by omega⟩).trans ((hb3.block x (by omega)).trans (hbz.block x hx))⟩;have HPT:Hid _:=hpt;clear hpt hus hL;go_wp2_with fail;go_ret;exact⟨_,B,m,rfl,HB.out,HF2.out,HPT.out,hbf⟩
end
section
open Go.RowKit
open Tr
theorem Lx.mkR_pos {s:ByteArray}{x:Nat × Nat}(h:Lx.mkR s=.error x):x.1≠0:=by
 cases hp:Lx.parse s with
 | error y =>
  obtain⟨n,a⟩:=y;rw[Lx.mkR_err hp]at h;cases h;have:=Lx.parse_pos hp;show n≠0;omega
 | ok g =>
  by_cases hc:(Lx.chk g).1=0
  ·by_cases hm:200<(Lx.prodG g).length
   ·rw[Lx.mkR_many hp hc hm]at h;cases h;decide
   ·rw[Lx.mkR_ok hp hc hm]at h;cases h
  ·rw[Lx.mkR_chk hp hc]at h;cases h;exact hc
def SetOk (g:Lx.Gr):Prop:=Lx.PdOk ((Lx.tokG g).length+(Lx.namG g).length) (Lx.prodG g)/\(Lx.tokG g).length+(Lx.namG g).length<=100000/\∀ p∈Lx.prodG g,p.right.length<=100000
def SetsP (w w':World)(nT n:Nat)(P:List Lx.Pd)(e:Ending):Prop:=∃ gE E k vF B m,e=.returned (.tuple #[.slice (some ⟨gE,0,none⟩) n n,vF,.int .i64 0,.int .i64 0])/\Blk w' gE (boolsV E) 4/\w.heap.size<=gE/\E.length=n/\E=Lx.itr (Lx.passE P) k (List.replicate n false)/\Lx.passE P E=E/\B=Lx.itr (Lx.passF P E) m (Lx.alone nT n)/\Lx.passF P E B=B/\PtD w.heap.size w' vF (B.map Lx.membersL)
def SetsEnds (s:ByteArray)(w:World)(e:Ending)(w':World):Prop :=
 Below w.heap.size w w'/\(∀ x,Lx.mkR s=.error x->e=.returned (.tuple #[.slice none 0 0,.slice none 0 0,.int .i64 (x.1:Int),.int .i64 (x.2:Int)]))/\(∀ g,Lx.mkR s=.ok g->SetsP w w' (Lx.tokG g).length ((Lx.tokG g).length+(Lx.namG g).length) (Lx.prodG g) e)
theorem blk5 (w:World)(x0 x1 x2 x3 x4:Value):Blk (w.alloc (.cells #[x0,x1,x2,x3,x4] 26)) w.heap.size #[x0,x1,x2,x3,x4] 26:=Blk.new w _ 26
theorem sets_any (s:ByteArray)(w:World)(hmax:s.size<=maxLen)(ht:Tab w)(hok:∀ g,Lx.mkR s=.ok g->SetOk g):Calls Tryz.prog 14 #[.string s] w (SetsEnds s w):=by
 have q1:=make_any s w hmax ht;go_enter Tryz.func14,Tryz.ntmps14;go_wp2_with fail;refine q1.mono ?_;rintro e w1 ⟨v,n,a,rfl,hb1,hok1,her1⟩;clear q1;cases hr:Lx.mkR s with
 | error x =>
  obtain⟨rfl,rfl,rfl⟩:=her1 x hr;have hp:=Lx.mkR_pos hr;have HR:Hid (Lx.mkR s=.error x):=hr;have hnb:((x.1:Int) != 0)=true:=bne_iff_ne.2 (by omega);have hnd:¬ (x.1:Int)=0:=by omega
  clear hr her1 hok1 hok hp;unfold none5;go_wp2_with fail;refine bodyPost_ret (v:=.tuple #[.slice none 0 0,.slice none 0 0,.int .i64 (x.1:Int),.int .i64 (x.2:Int)]) (by simp[results,Tryz.results14,go_sem]) rfl ?_;refine⟨hb1.alloc hb1.size _,fun y hy=>?_,fun g hg=>?_⟩
  ·rw[HR.out]at hy;cases hy;rfl
  ·rw[HR.out]at hg;cases hg
 | ok g =>
  obtain⟨rfl,rfl,hP⟩:=hok1 g hr;obtain⟨o1,o2,o3⟩:=hok g hr;obtain⟨vT,vN,vP,vB,vK,rfl,hT,hN,hPP,hB,hK⟩:=hP;obtain⟨ta,tc,rfl,-⟩:=own_len hT;obtain⟨na,nc,rfl,-⟩:=own_len hN;obtain⟨ps,p1,p2,-⟩:=id hPP;obtain⟨pa,pc,rfl,-⟩:=own_len p2;obtain⟨ba,bc,rfl,-⟩:=own_len hB;obtain⟨ka,kc,rfl,-⟩:=own_len hK;have HR:Hid (Lx.mkR s=.ok g):=hr;clear hr her1 hok1 hok hT hN hB hK p1 p2;generalize hNT:(Lx.tokG g).length=nT at *;generalize hNN:(Lx.namG g).length=nN at *;have HNT:Hid _:=hNT;have HNN:Hid _:=hNN;clear hNT hNN;generalize ((Lx.tokG g).map fun t=>(Lx.bkOf g t).1).length=nB at *;generalize ((Lx.tokG g).map fun t=>(Lx.bkOf g t).2).length=nK at *;obtain⟨W,hW⟩:∃ W,W=w1.alloc (.cells #[.slice ta nT tc,.slice na nN nc,.slice pa (Lx.prodG g).length pc,.slice ba nB bc,.slice ka nK kc] 26):=⟨_,rfl⟩;have kW:Blk W w1.heap.size #[.slice ta nT tc,.slice na nN nc,.slice pa (Lx.prodG g).length pc,.slice ba nB bc,.slice ka nK kc] 26:=by rw[hW];exact blk5 _ _ _ _ _ _
  have hbW:Below w1.heap.size w1 W:=by rw[hW];exact (Below.refl _ _).alloc (Nat.le_refl _) _
  have hin:SetIn W ta nT tc na nN nc (.slice pa (Lx.prodG g).length pc) (Lx.prodG g):=⟨hPP.below hbW,o1,o2⟩;have q2:=canBeEmpty_any (ba:=ba) (ka:=ka) (nb:=nB) (bc:=bc) (nk:=nK) (kc:=kc) hin;have c0:W.cell? ⟨w1.heap.size,0,none⟩=some (.slice ta nT tc):=kW.cell 0;have c1:W.cell? ⟨w1.heap.size,1,none⟩=some (.slice na nN nc):=kW.cell 1;have c2:W.cell? ⟨w1.heap.size,2,none⟩=some (.slice pa (Lx.prodG g).length pc):=kW.cell 2;have c3:W.cell? ⟨w1.heap.size,3,none⟩=some (.slice ba nB bc):=kW.cell 3;have c4:W.cell? ⟨w1.heap.size,4,none⟩=some (.slice ka nK kc):=kW.cell 4;go_wp2_with fail;rw[<-hW];clear hW;go_wp2_with fail;refine q2.mono ?_;rintro e w2 ⟨gE,E,k,rfl,hgE,kE,hEl,hE,hEs,hb2⟩;clear q2 c0 c1 c2 c3 c4;have kW2:Blk w2 w1.heap.size _ 26:=(hb2.block _ kW.lt).trans kW;have c0:w2.cell? ⟨w1.heap.size,0,none⟩=some (.slice ta nT tc):=kW2.cell 0;have c1:w2.cell? ⟨w1.heap.size,1,none⟩=some (.slice na nN nc):=kW2.cell 1;have c2:w2.cell? ⟨w1.heap.size,2,none⟩=some (.slice pa (Lx.prodG g).length pc):=kW2.cell 2;have c3:w2.cell? ⟨w1.heap.size,3,none⟩=some (.slice ba nB bc):=kW2.cell 3;have c4:w2.cell? ⟨w1.heap.size,4,none⟩=some (.slice ka nK kc):=kW2.cell 4;have q3:=firstTokens_any (ba:=ba) (ka:=ka) (nb:=nB) (bc:=bc) (nk:=nK) (kc:=kc) (hin.below hb2) kE hEl o3;have HE:Hid _:=hE;have HES:Hid _:=hEs;have HEL:Hid _:=hEl;clear hE hEs hEl hin o1 o3 hPP;go_wp2_with fail;refine q3.mono ?_;rintro e w3 ⟨vF,B,m,rfl,hB,hBs,hpt,hb3⟩;clear q3;have hs1:=hb1.size;have hsW:=hbW.size;have hs2:=hb2.size;have hpt':PtD w.heap.size w3 vF (B.map Lx.membersL):=by
   obtain⟨qs,⟨r1,r2,r3,r4⟩,r5⟩:=hpt;exact⟨qs,⟨r1,own_le r2 (by omega),fun q hq=>own_le (r3 q hq) (by omega),r4⟩,r5⟩
  obtain⟨fa,fc,rfl⟩:∃ fa fc,vF=.slice fa (B.map Lx.membersL).length fc:=by
   obtain⟨qs,⟨r1,r2,-⟩,-⟩:=hpt;obtain⟨fa,fc,e,-⟩:=own_len r2;exact⟨fa,fc,e⟩
  have HB:Hid _:=hB;have HBS:Hid _:=hBs;clear hB hBs;go_wp2_with fail;refine bodyPost_ret (v:=.tuple #[.slice (some ⟨gE,0,none⟩) (nT+nN) (nT+nN),.slice fa (B.map Lx.membersL).length fc,.int .i64 0,.int .i64 0]) (by simp[results,Tryz.results14,go_sem]) rfl ?_;refine⟨hb1.trans ((hbW.trans ((hb2.mono hsW).trans (hb3.mono (by omega)))).mono (by omega)),fun y hy=>?_,fun g' hg=>?_⟩
  ·rw[HR.out]at hy;cases hy
  ·rw[HR.out]at hg
   cases hg;rw[HNT.out,HNN.out];exact⟨gE,E,k,_,B,m,rfl,(hb3.block _ kE.lt).trans kE,by omega,HEL.out,HE.out,HES.out,HB.out,HBS.out,hpt'⟩
end
section
open Go.RowKit
open Tr
end
section
open Go Go.RowKit
namespace Lx
theorem All2.imp {α β:Type} {R S:α->β->Prop}:∀ {l:List α} {m:List β},(∀ a b,a∈l->b∈m->R a b->S a b)->All2 R l m->All2 S l m
 | [],[],_,_=>trivial
 | _::_,_::_,f,h=>⟨f _ _ List.mem_cons_self List.mem_cons_self h.1,All2.imp (fun a b ha hb=>f a b (List.mem_cons_of_mem _ ha) (List.mem_cons_of_mem _ hb)) h.2⟩
 | [],_::_,_,h=>h.elim
 | _::_,[],_,h=>h.elim
theorem All2.app {α β:Type} {R:α->β->Prop}:∀ {l l':List α} {m m':List β},All2 R l m->All2 R l' m'->All2 R (l++l') (m++m')
 | [],_,[],_,_,k=>k
 | _::_,_,_::_,_,h,k=>⟨h.1,All2.app h.2 k⟩
 | [],_,_::_,_,h,_=>h.elim
 | _::_,_,[],_,h,_=>h.elim
theorem All2.flat {α β γ δ:Type} {R:α->β->Prop} {S:γ->δ->Prop} {f:α->List γ} {g:β->List δ}:∀ {l:List α} {m:List β},All2 R l m->(∀ a b,R a b->All2 S (f a) (g b))->All2 S (l.flatMap f) (m.flatMap g)
 | [],[],_,_=>trivial
 | a::l,b::m,h,k=>by rw[List.flatMap_cons,List.flatMap_cons];exact All2.app (k a b h.1) (All2.flat h.2 k)
 | [],_::_,h,_=>h.elim
 | _::_,[],h,_=>h.elim
theorem All2.filt {α β:Type} {R:α->β->Prop} {p:α->Bool} {q:β->Bool} (hp:∀ a b,R a b->p a=q b):∀ {l:List α} {m:List β},All2 R l m->All2 R (l.filter p) (m.filter q)
 | [],[],_=>trivial
 | a::l,b::m,h=>by
  rw[List.filter_cons,List.filter_cons,hp a b h.1]
  split
  ·exact⟨h.1,All2.filt hp h.2⟩
  ·exact All2.filt hp h.2
 | [],_::_,h=>h.elim
 | _::_,[],h=>h.elim
theorem All2.map_eq {α β γ:Type} {R:α->β->Prop} {f:α->γ} {g:β->γ} (h:∀ a b,R a b->g b=f a):∀ {l:List α} {m:List β},All2 R l m->m.map g=l.map f
 | [],[],_=>rfl
 | a::l,b::m,k=>by rw[List.map_cons,List.map_cons,h a b k.1,All2.map_eq h k.2]
 | [],_::_,k=>k.elim
 | _::_,[],k=>k.elim
theorem All2.any_eq {α β:Type} {R:α->β->Prop} {f:α->Bool} {g:β->Bool} (h:∀ a b,R a b->g b=f a):∀ {l:List α} {m:List β},All2 R l m->m.any g=l.any f
 | [],[],_=>rfl
 | a::l,b::m,k=>by rw[List.any_cons,List.any_cons,h a b k.1,All2.any_eq h k.2]
 | [],_::_,k=>k.elim
 | _::_,[],k=>k.elim
theorem All2.all_eq {α β:Type} {R:α->β->Prop} {f:α->Bool} {g:β->Bool} (h:∀ a b,R a b->g b=f a):∀ {l:List α} {m:List β},All2 R l m->m.all g=l.all f
 | [],[],_=>rfl
 | a::l,b::m,k=>by rw[List.all_cons,List.all_cons,h a b k.1,All2.all_eq h k.2]
 | [],_::_,k=>k.elim
 | _::_,[],k=>k.elim
def AltsC (φ:ByteArray->ByteArray) (C:It->It->Prop):Nat->List Alt->List Alt->Prop
 | 0,l,m=>l=[]/\m=[]
 | d+1,l,m=>All2 (fun a b=>All2 (fun x y=>(x.kind=y.kind/\y.name=φ x.name/\x.mark=y.mark)/\C x y/\AltsC φ C d x.alts y.alts) a.1 b.1/\b.2.1=φ a.2.1) l m
def RnI (φ:ByteArray->ByteArray)(x y:It):Prop:=x.kind=y.kind/\y.name=φ x.name/\x.mark=y.mark
theorem RnI.hlp {φ:ByteArray->ByteArray}{x y:It}(h:RnI φ x y):hlp x=hlp y:=by unfold Lx.hlp;rw[h.1,h.2.2]
theorem AltsC.succ {φ:ByteArray->ByteArray}{C:It->It->Prop}{d:Nat}{l m:List Alt}:AltsC φ C (d+1) l m↔All2 (fun a b=>All2 (fun x y=>RnI φ x y/\C x y/\AltsC φ C d x.alts y.alts) a.1 b.1/\b.2.1=φ a.2.1) l m:=Iff.rfl
def TrC:It->It->Prop:=fun _ _=>True
theorem AltsC.its {φ:ByteArray->ByteArray} {C:It->It->Prop}:∀ {d:Nat} {l m:List Alt},AltsC φ C d l m->All2 (fun x y=>RnI φ x y/\C x y/\∃ d',AltsC φ C d' x.alts y.alts) (itsA d l) (itsA d m)
 | 0,_,_,_=>trivial
 | d+1,l,m,h=>by
  rw[itsA_succ,itsA_succ];refine All2.flat h fun a b hab=>?_
  unfold itsL;refine All2.flat hab.1 fun x y hxy=>?_
  exact⟨⟨hxy.1,hxy.2.1,d,hxy.2.2⟩,AltsC.its hxy.2.2⟩
def Cor (I J:List It)(x y:It):Prop:=∃ i:Nat,I[i]?=some x/\J[i]?=some y
theorem Cor.left {I J:List It}{x y:It}(h:Cor I J x y)(I' J':List It):Cor (I++I') (J++J') x y:=by
 obtain⟨i,h1,h2⟩:=h;have l1:=(List.getElem?_eq_some_iff.1 h1).1;have l2:=(List.getElem?_eq_some_iff.1 h2).1;exact⟨i,by rw[List.getElem?_append_left l1];exact h1,by rw[List.getElem?_append_left l2];exact h2⟩
theorem Cor.right {I J:List It}{x y:It}(h:Cor I J x y){I' J':List It}(hl:I'.length=J'.length):Cor (I'++I) (J'++J) x y:=by
 obtain⟨i,h1,h2⟩:=h;refine⟨I'.length+i,?_,?_⟩
 ·rw[List.getElem?_append_right (by omega),Nat.add_sub_cancel_left];exact h1
 ·rw[hl,List.getElem?_append_right (by omega),Nat.add_sub_cancel_left];exact h2
theorem cor_flat {α:Type} {R:α->α->Prop} {f:α->List It} (hl:∀ a b,R a b->(f a).length=(f b).length):∀ {l m:List α},All2 R l m->All2 (fun a b=>R a b/\∀ x y,Cor (f a) (f b) x y->Cor (l.flatMap f) (m.flatMap f) x y) l m
 | [],[],_=>trivial
 | a::l,b::m,h=>by
  refine⟨⟨h.1,fun x y hc=>?_⟩,?_⟩
  ·rw[List.flatMap_cons,List.flatMap_cons];exact hc.left _ _
  ·refine All2.imp (fun u v _ _ hu=>⟨hu.1,fun x y hc=>?_⟩) (cor_flat hl h.2)
   rw[List.flatMap_cons,List.flatMap_cons];exact (hu.2 x y hc).right (hl a b h.1)
 | [],_::_,h=>h.elim
 | _::_,[],h=>h.elim
theorem AltsC.len {φ:ByteArray->ByteArray}{C:It->It->Prop}{d:Nat}{l m:List Alt}(h:AltsC φ C d l m):(itsA d l).length=(itsA d m).length:=h.its.len
theorem AltsC.cor {φ:ByteArray->ByteArray} {C:It->It->Prop}:∀ {d:Nat} {l m:List Alt},AltsC φ TrC d l m->(∀ x y,Cor (itsA d l) (itsA d m) x y->C x y)->AltsC φ C d l m
 | 0,_,_,h,_=>h
 | d+1,l,m,h,hC=>by
  rw[itsA_succ,itsA_succ]at hC;have hI:∀ x y:It,(RnI φ x y/\TrC x y/\AltsC φ TrC d x.alts y.alts)->(itsI d x).length=(itsI d y).length:=fun x y hxy=>by
   unfold itsI;rw[List.length_cons,List.length_cons,hxy.2.2.len]
  have hA:∀ a b:Alt,(All2 (fun x y=>RnI φ x y/\TrC x y/\AltsC φ TrC d x.alts y.alts) a.1 b.1/\b.2.1=φ a.2.1)->(itsL d a.1).length=(itsL d b.1).length:=fun a b hab=>by
   unfold itsL;rw[List.length_flatMap,List.length_flatMap];exact congrArg List.sum (All2.map_eq (fun x y hxy=>(hI x y hxy).symm) hab.1).symm
  have h1:=cor_flat (f:=fun a:Alt=>itsL d a.1) hA h;refine All2.imp (fun a b _ _ hab=>?_) h1;obtain⟨⟨hab1,hab2⟩,hab3⟩:=hab;refine⟨?_,hab2⟩;have h2:=cor_flat (f:=itsI d) hI hab1;refine All2.imp (fun x y _ _ hxy=>?_) h2;obtain⟨⟨hx1,-,hx3⟩,hx4⟩:=hxy;have hup:∀ u v,Cor (itsI d x) (itsI d y) u v->C u v:=fun u v hc=>hC u v (hab3 u v (hx4 u v hc))
  refine⟨hx1,hup x y ⟨0,rfl,rfl⟩,AltsC.cor hx3 fun u v hc=>hup u v ?_⟩;obtain⟨i,c1,c2⟩:=hc;exact⟨i+1,by unfold itsI;rw[List.getElem?_cons_succ];exact c1,by unfold itsI;rw[List.getElem?_cons_succ];exact c2⟩
theorem fixP_cor {φ:ByteArray->ByteArray}:∀ {I J:List It} {x y:It},All2 (RnI φ) I J->(I.map It.place).Pairwise (·< ·)->(J.map It.place).Pairwise (·< ·)->Cor I J x y->hlp x=true->fixP (J.filter hlp) y.place=fixP (I.filter hlp) x.place
 | [],[],x,y,_,_,_,h,_=>by obtain⟨i,h1,-⟩:=h;cases h1
 | a::I,b::J,x,y,h,hI,hJ,hc,hx=>by
  rw[List.map_cons,List.pairwise_cons]at hI hJ;obtain⟨i,h1,h2⟩:=hc;cases i with
  | zero =>
   cases h1;cases h2;have hy:hlp b=true:=by rw[<-h.1.hlp];exact hx
   rw[List.filter_cons,if_pos hy,List.filter_cons,if_pos hx];unfold fixP;rw[List.findIdx_cons,List.findIdx_cons];simp
  | succ i =>
   rw[List.getElem?_cons_succ]at h1 h2;have hxm:x∈I:=List.mem_of_getElem? h1;have hym:y∈J:=List.mem_of_getElem? h2;have nx:a.place≠x.place:=Nat.ne_of_lt (hI.1 _ (List.mem_map_of_mem hxm));have ny:b.place≠y.place:=Nat.ne_of_lt (hJ.1 _ (List.mem_map_of_mem hym));have ih:=fixP_cor h.2 hI.2 hJ.2 ⟨i,h1,h2⟩ hx;rw[List.filter_cons,List.filter_cons,<-h.1.hlp]
   split
   ·unfold fixP at ih ⊢
    rw[List.findIdx_cons,List.findIdx_cons,ih];simp[nx,ny]
   ·exact ih
 | [],_::_,_,_,h,_,_,_,_=>h.elim
 | _::_,[],_,_,h,_,_,_,_=>h.elim
theorem findIdx_map {φ:ByteArray->ByteArray} (hi:∀ a b,φ a=φ b->a=b) (b:ByteArray):∀ l:List ByteArray,(l.map φ).findIdx (fun x=>decide (x=φ b))=l.findIdx fun x=>decide (x=b)
 | []=>rfl
 | a::l=>by
  rw[List.map_cons,List.findIdx_cons,List.findIdx_cons,findIdx_map hi b l];have:decide (φ a=φ b)=decide (a=b):=by
   by_cases e:a=b
   ·subst e;simp
   ·simp[e];exact fun h=>e (hi _ _ h)
  rw[this]
theorem fix_map {φ:ByteArray->ByteArray}(hi:∀ a b,φ a=φ b->a=b)(l:List ByteArray)(b:ByteArray):fix (l.map φ) (φ b)=fix l b:=findIdx_map hi b l
theorem fnd_map {φ:ByteArray->ByteArray}(hi:∀ a b,φ a=φ b->a=b)(l:List ByteArray)(b:ByteArray):fnd (l.map φ) (φ b)=fnd l b:=by
 unfold fnd;rw[fix_map hi,List.length_map]
theorem memB_map {φ:ByteArray->ByteArray}(hi:∀ a b,φ a=φ b->a=b)(b:ByteArray):∀ l:List ByteArray,memB (φ b) (l.map φ)=memB b l:=by
 intro l;rw[Bool.eq_iff_iff,memB_iff,memB_iff,List.mem_map];exact⟨fun ⟨x,hx,e⟩=>hi _ _ e ▸ hx,fun h=>⟨b,h,rfl⟩⟩
theorem addToks_map {φ:ByteArray->ByteArray} (hi:∀ a b,φ a=φ b->a=b):∀ (bs l:List ByteArray),addToks (l.map φ) (bs.map φ)=(addToks l bs).map φ
 | [],_=>rfl
 | b::bs,l=>by
  show addToks (addTok (l.map φ) (φ b)) (bs.map φ)=(addToks (addTok l b) bs).map φ;have:addTok (l.map φ) (φ b)=(addTok l b).map φ:=by
   unfold addTok;rw[fnd_map hi]
   split
   ·rfl
   ·rw[List.map_append];rfl
  rw[this,addToks_map hi bs]
def RlRn (φ:ByteArray->ByteArray)(r s:Rl):Prop:=s.name=φ r.name/\AltsC φ TrC 9 r.alts s.alts
def LvRn (φ:ByteArray->ByteArray)(l m:Lv):Prop:=l.kind=m.kind/\m.tokens.map Prod.fst=(l.tokens.map Prod.fst).map φ
def GrRn (φ:ByteArray->ByteArray)(g h:Gr):Prop:=All2 (LvRn φ) g.levels h.levels/\All2 (RlRn φ) g.rules h.rules
structure Ren (φ:ByteArray->ByteArray):Prop where
 inj:∀ a b,φ a=φ b->a=b
 none:φ noText=noText
 dollar:φ tDollar=tDollar
 start:φ tStart=tStart
 tick:∀ b k,isName b=true->φ (hName b k)=hName (φ b) k
section
variable {φ:ByteArray -> ByteArray} {g h:Gr}
theorem GrRn.names (e:GrRn φ g h):ruleNames h=(ruleNames g).map φ:=by
 unfold ruleNames;rw[List.map_map];exact All2.map_eq (fun r s hrs=>hrs.1) e.2
theorem lvToks_eq (g:Gr):levelToks g=g.levels.flatMap fun lv=>lv.tokens.map Prod.fst:=by
 unfold levelToks textsOf levelWords;rw[List.map_flatMap];congr 1;funext lv;rw[List.map_map];rfl
theorem flat_map_eq {α:Type} {R:α->α->Prop} {f:α->List ByteArray} (hf:∀ a b,R a b->f b=(f a).map φ):∀ {l m:List α},All2 R l m->m.flatMap f=(l.flatMap f).map φ
 | [],[],_=>rfl
 | a::l,b::m,k=>by rw[List.flatMap_cons,List.flatMap_cons,List.map_append,hf a b k.1,flat_map_eq hf k.2]
 | [],_::_,k=>k.elim
 | _::_,[],k=>k.elim
theorem GrRn.ltoks (e:GrRn φ g h):levelToks h=(levelToks g).map φ:=by
 rw[lvToks_eq,lvToks_eq];exact flat_map_eq (fun a b hab=>hab.2) e.1
theorem AltsC.toks {C:It->It->Prop}{d:Nat}{l m:List Alt}(e:AltsC φ C d l m):toksA d m=(toksA d l).map φ:=by
 unfold toksA;rw[List.map_map];have h1:All2 (RnI φ) ((itsA d l).filter fun x=>decide (x.kind=1)) ((itsA d m).filter fun x=>decide (x.kind=1)):=All2.filt (fun a b hab=>by rw[hab.1]) (All2.imp (fun _ _ _ _ h=>h.1) e.its);exact All2.map_eq (fun x y hxy=>hxy.2.1) h1
theorem AltsC.hlpL {C:It->It->Prop}{d:Nat}{l m:List Alt}(e:AltsC φ C d l m):(hlpA d m).length=(hlpA d l).length:=by
 unfold hlpA;exact (All2.len (All2.filt (fun a b hab=>RnI.hlp hab) (All2.imp (fun _ _ _ _ h=>h.1) e.its))).symm
theorem GrRn.tok (hφ:Ren φ)(e:GrRn φ g h):tokG h=(tokG g).map φ:=by
 unfold tokG;have h1:(h.rules.flatMap fun r=>toksA 9 r.alts)=(g.rules.flatMap fun r=>toksA 9 r.alts).map φ:=flat_map_eq (fun a b hab=>hab.2.toks) e.2;rw[e.ltoks,h1,<-List.map_append,<-addToks_map hφ.inj];rw[List.map_singleton,hφ.dollar]
theorem namesR_rn (hφ:Ren φ){r s:Rl}(e:RlRn φ r s)(hn:isName r.name=true):namesR s=(namesR r).map φ:=by
 unfold namesR;rw[List.map_cons,e.1,e.2.hlpL,List.map_map];congr 1;apply List.map_congr_left;intro k _;exact (hφ.tick _ _ hn).symm
theorem GrRn.nam (hφ:Ren φ)(e:GrRn φ g h)(hn:∀ r∈g.rules,isName r.name=true):namG h=(namG g).map φ:=by
 unfold namG;rw[List.map_cons,hφ.start];congr 1;exact flat_map_eq (R:=fun r s=>RlRn φ r s/\isName r.name=true) (fun a b hab=>namesR_rn hφ hab.1 hab.2) (All2.imp (fun a b ha _ hab=>⟨hab,hn a ha⟩) e.2)
def SymC (T N T' N':List ByteArray)(b:Nat)(H H':List It)(x y:It):Prop:=symOf T' N' b H' y=symOf T N b H x
theorem psym_rn (hφ:Ren φ)(T N:List ByteArray){x y:It}(hxy:RnI φ x y):psym (T.map φ) (N.map φ) y=psym T N x:=by
 unfold psym;rw[<-hxy.1,hxy.2.1,fix_map hφ.inj,fix_map hφ.inj,List.length_map]
theorem sym_cor (hφ:Ren φ)(T N:List ByteArray)(b:Nat){I J:List It}(hIJ:All2 (RnI φ) I J)(hI:(I.map It.place).Pairwise (·< ·))(hJ:(J.map It.place).Pairwise (·< ·)){x y:It}(hc:Cor I J x y):SymC T N (T.map φ) (N.map φ) b (I.filter hlp) (J.filter hlp) x y:=by
 have hxy:RnI φ x y:=by
  obtain⟨i,h1,h2⟩:=hc;have aux:∀ {I J:List It} {i:Nat},All2 (RnI φ) I J->I[i]?=some x->J[i]?=some y->RnI φ x y:=by
   intro I
   induction I with
   | nil=>intro J i _ h1 _;simp at h1
   | cons a I ih =>
    intro J i h h1 h2;cases J with
    | nil=>simp at h2
    | cons c J =>
     cases i with
     | zero=>cases h1;cases h2;exact h.1
     | succ i=>exact ih h.2 (by simpa using h1) (by simpa using h2)
  exact aux hIJ h1 h2
 unfold SymC symOf;rw[<-hxy.hlp]
 split
 ·rename_i hh
  rw[fixP_cor hIJ hI hJ hc hh]
 ·exact psym_rn hφ T N hxy
theorem rightOf_rn {T N T' N':List ByteArray}{b:Nat}{H H':List It}{d:Nat}{a c:List It}(h:All2 (fun x y=>RnI φ x y/\SymC T N T' N' b H H' x y/\AltsC φ (SymC T N T' N' b H H') d x.alts y.alts) a c):rightOf T' N' b H' c=rightOf T N b H a:=All2.map_eq (fun _ _ hxy=>hxy.2.1) h
theorem partsOf_rn (hφ:Ren φ){T N:List ByteArray}{b:Nat}{H H':List It}{x y:It}(h:RnI φ x y/\SymC T N (T.map φ) (N.map φ) b H H' x y/\∃ d',AltsC φ (SymC T N (T.map φ) (N.map φ) b H H') d' x.alts y.alts):partsOf (T.map φ) (N.map φ) b H' y=partsOf T N b H x:=by
 obtain⟨h1,-,d',h3⟩:=h;unfold partsOf;rw[<-h1.1]
 split
 ·cases d' with
  | zero=>rw[h3.1,h3.2];rfl
  | succ d'=>exact All2.map_eq (fun a c hac=>rightOf_rn hac.1) (AltsC.succ.1 h3)
 ·rw[psym_rn hφ T N h1]
theorem helpsPd_rn (hφ:Ren φ) {T N:List ByteArray} {b:Nat} {H H':List It}:∀ {l m:List It} (k:Nat),All2 (fun x y=>RnI φ x y/\SymC T N (T.map φ) (N.map φ) b H H' x y/\∃ d',AltsC φ (SymC T N (T.map φ) (N.map φ) b H H') d' x.alts y.alts) l m->helpsPd (T.map φ) (N.map φ) b H' k m=helpsPd T N b H k l
 | [],[],_,_=>rfl
 | x::l,y::m,k,h=>by
  rw[helpsPd,helpsPd,helpsPd_rn hφ (k+1) h.2,partsOf_rn hφ h.1,List.length_map,h.1.1.2.2]
 | [],_::_,_,h=>h.elim
 | _::_,[],_,h=>h.elim
theorem rulePd_rn (hφ:Ren φ){T N:List ByteArray}{b:Nat}{r s:Rl}(e:RlRn φ r s)(hI:((itsA 9 r.alts).map It.place).Pairwise (·< ·))(hJ:((itsA 9 s.alts).map It.place).Pairwise (·< ·)):rulePd (T.map φ) (N.map φ) b s=rulePd T N b r:=by
 have hIJ:All2 (RnI φ) (itsA 9 r.alts) (itsA 9 s.alts):=All2.imp (fun _ _ _ _ h=>h.1) e.2.its;have hC:AltsC φ (SymC T N (T.map φ) (N.map φ) b (hlpA 9 r.alts) (hlpA 9 s.alts)) 9 r.alts s.alts:=AltsC.cor e.2 fun x y hc=>sym_cor hφ T N b hIJ hI hJ hc
 unfold rulePd;congr 1
 ·refine All2.map_eq (fun a c hac=>?_) (AltsC.succ.1 hC)
  unfold altPd;rw[rightOf_rn hac.1,hac.2,List.length_map,fix_map hφ.inj];have:(φ a.2.1=noText)↔a.2.1=noText:=⟨fun h=>hφ.inj _ _ (h.trans hφ.none.symm),fun h=>by rw[h];exact hφ.none⟩
  by_cases hp:a.2.1=noText
  ·rw[if_pos (this.2 hp),if_pos hp]
  ·rw[if_neg (fun h=>hp (this.1 h)),if_neg hp]
 ·exact helpsPd_rn hφ 0 (All2.filt (fun a c hac=>RnI.hlp hac.1) hC.its)
theorem rulesPd_rn (hφ:Ren φ) {T N:List ByteArray}:∀ {rs ss:List Rl} (b:Nat),All2 (RlRn φ) rs ss->((itsG rs).map It.place).Pairwise (·< ·)->((itsG ss).map It.place).Pairwise (·< ·)->rulesPd (T.map φ) (N.map φ) b ss=rulesPd T N b rs
 | [],[],_,_,_,_=>rfl
 | r::rs,s::ss,b,h,hI,hJ=>by
  unfold itsG at hI hJ;rw[List.flatMap_cons,List.map_append,List.pairwise_append]at hI hJ;rw[rulesPd,rulesPd,rulePd_rn hφ h.1 hI.1 hJ.1,h.1.2.hlpL,rulesPd_rn hφ _ h.2 hI.2.1 hJ.2.1]
 | [],_::_,_,h,_,_=>h.elim
 | _::_,[],_,h,_,_=>h.elim
theorem GrRn.prod (hφ:Ren φ)(e:GrRn φ g h)(hn:∀ r∈g.rules,isName r.name=true)(hI:((itsG g.rules).map It.place).Pairwise (·< ·))(hJ:((itsG h.rules).map It.place).Pairwise (·< ·)):prodG h=prodG g:=by
 unfold prodG;rw[e.tok hφ,e.nam hφ hn,List.length_map,rulesPd_rn hφ _ e.2 hI hJ]
theorem bk_rn (hφ:Ren φ) (t:ByteArray):∀ {ls ms:List Lv} (i:Nat) (r:Nat × Nat),All2 (LvRn φ) ls ms->bk (φ t) i ms r=bk t i ls r
 | [],[],_,_,_=>rfl
 | l::ls,m::ms,i,r,k=>by
  rw[bk,bk,k.1.2,fnd_map hφ.inj,k.1.1];exact bk_rn hφ t (i+1) _ k.2
 | [],_::_,_,_,k=>k.elim
 | _::_,[],_,_,k=>k.elim
theorem GrRn.bk (hφ:Ren φ)(e:GrRn φ g h)(t:ByteArray):bkOf h (φ t)=bkOf g t:=bk_rn hφ t 0 _ e.1
end
end Lx
end
section
open Go Go.RowKit
namespace Lx
section
variable {φ:ByteArray -> ByteArray} {g h:Gr}
theorem dup_rn (hi:∀ a b,φ a=φ b->a=b):∀ (ws vs:List Wd) (seen:List ByteArray),textsOf vs=(textsOf ws).map φ->(firstDup (seen.map φ) vs).isSome=(firstDup seen ws).isSome
 | [],[],_,_=>rfl
 | [],_::_,_,e=>by simp[textsOf]at e
 | _::_,[],_,e=>by simp[textsOf]at e
 | w::ws,v::vs,seen,e=>by
  unfold textsOf at e;rw[List.map_cons,List.map_cons,List.map_cons,List.cons.injEq]at e;rw[firstDup,firstDup,e.1,memB_map hi]
  split
  ·rfl
  ·exact dup_rn hi ws vs (w.2.1::seen) e.2
theorem ruleTexts (g:Gr):textsOf (ruleWords g)=ruleNames g:=by
 unfold textsOf ruleWords ruleNames;rw[List.map_map];rfl
theorem or_isSome {α:Type}{a b c d:Option α}(h:a.isSome=c.isSome)(k:b.isSome=d.isSome):(a.or b).isSome=(c.or d).isSome:=by
 cases a <;> cases c <;> simp_all
theorem GrRn.dup (hφ:Ren φ)(e:GrRn φ g h):(dupG h).isSome=(dupG g).isSome:=by
 unfold dupG;exact or_isSome (dup_rn hφ.inj _ _ [] e.ltoks) (dup_rn hφ.inj _ _ [] (by rw[ruleTexts,ruleTexts];exact e.names))
def WdR (φ:ByteArray->ByteArray)(w v:Wd):Prop:=w.1=v.1/\v.2.1=φ w.2.1
theorem unk_rn (hi:∀ a b,φ a=φ b->a=b) (names toks:List ByteArray):∀ {ws vs:List Wd},All2 (WdR φ) ws vs->(firstUnknown (names.map φ) (toks.map φ) vs).isSome=(firstUnknown names toks ws).isSome
 | [],[],_=>rfl
 | w::ws,v::vs,k=>by
  rw[firstUnknown,firstUnknown,<-k.1.1,k.1.2,memB_map hi,memB_map hi]
  split
  ·rfl
  ·exact unk_rn hi names toks k.2
 | [],_::_,k=>k.elim
 | _::_,[],k=>k.elim
theorem flat_rn (hφ:Ren φ) {C:It->It->Prop}:∀ {d:Nat} {l m:List Alt},AltsC φ C d l m->All2 (WdR φ) (flatA d l) (flatA d m)
 | 0,_,_,_=>trivial
 | d+1,l,m,e=>by
  rw[flatA_succ,flatA_succ];refine All2.flat (AltsC.succ.1 e) fun a b hab=>?_
  unfold flatOne;refine All2.app (All2.flat hab.1 fun x y hxy=>?_) ?_
  ·unfold flatI
   refine All2.app ?_ (flat_rn hφ hxy.2.2);rw[<-hxy.1.1]
   split
   ·exact⟨⟨rfl,hxy.1.2.1⟩,trivial⟩
   ·split
    ·exact⟨⟨rfl,hxy.1.2.1⟩,trivial⟩
    ·trivial
  ·rw[hab.2]
   by_cases hp:a.2.1=noText
   ·rw[if_pos hp,if_pos (by rw[hp];exact hφ.none)];trivial
   ·rw[if_neg hp,if_neg (fun h=>hp (hφ.inj _ _ (h.trans hφ.none.symm)))];exact⟨⟨rfl,rfl⟩,trivial⟩
theorem rulesUnk_rn (hφ:Ren φ) (names toks:List ByteArray):∀ {rs ss:List Rl},All2 (RlRn φ) rs ss->(rulesUnknown (names.map φ) (toks.map φ) ss).isSome=(rulesUnknown names toks rs).isSome
 | [],[],_=>rfl
 | _::_,_::_,k=>or_isSome (unk_rn hφ.inj names toks (flat_rn hφ k.1.2)) (rulesUnk_rn hφ names toks k.2)
 | [],_::_,k=>k.elim
 | _::_,[],k=>k.elim
theorem GrRn.unk (hφ:Ren φ)(e:GrRn φ g h):(unkG h).isSome=(unkG g).isSome:=by
 unfold unkG;rw[e.names,e.ltoks];exact rulesUnk_rn hφ _ _ e.2
theorem ixOf_map (hi:∀ a b,φ a=φ b->a=b)(l:List ByteArray)(b:ByteArray):ixOf (l.map φ) (φ b)=ixOf l b:=findIdx_map hi b l
theorem used_rn (hφ:Ren φ){C:It->It->Prop}{l m:List Alt}(e:AltsC φ C 9 l m):usedN m=(usedN l).map φ:=by
 unfold usedN textsOf;rw[List.map_map];exact All2.map_eq (fun w v hwv=>hwv.2) (All2.filt (fun w v hwv=>by rw[hwv.1]) (flat_rn hφ e))
theorem mark_rn (hi:∀ a b,φ a=φ b->a=b) (ns:List ByteArray):∀ (us:List ByteArray) (bs:List Bool),markL (ns.map φ) (us.map φ) bs=markL ns us bs
 | [],_=>rfl
 | u::us,bs=>by
  show markL (ns.map φ) (us.map φ) (bs.set (ixOf (ns.map φ) (φ u)) true)=markL ns us (bs.set (ixOf ns u) true);rw[ixOf_map hi];exact mark_rn hi ns us _
theorem all2_at {R:Rl->Rl->Prop}:∀ {rs ss:List Rl} (i:Nat),All2 R rs ss->(∃ r s,rs[i]?=some r/\ss[i]?=some s/\R r s)∨(rs[i]?=none/\ss[i]?=none)
 | [],[],_,_=>.inr ⟨by simp,by simp⟩
 | r::rs,s::ss,0,k=>.inl ⟨r,s,rfl,rfl,k.1⟩
 | _::_,_::_,i+1,k=>by
  rw[List.getElem?_cons_succ,List.getElem?_cons_succ];exact all2_at i k.2
 | [],_::_,_,k=>k.elim
 | _::_,[],_,k=>k.elim
theorem GrRn.altsAt (e:GrRn φ g h)(i:Nat):AltsC φ TrC 9 (altsAt g i) (altsAt h i):=by
 unfold Lx.altsAt;rcases all2_at i e.2 with ⟨r,s,h1,h2,h3⟩ | ⟨h1,h2⟩
 ·rw[h1,h2];exact h3.2
 ·rw[h1,h2];trivial
theorem GrRn.come (hφ:Ren φ)(e:GrRn φ g h):comeL h=comeL g:=by
 have hs:comeStep h=comeStep g:=by
  funext i bs;unfold comeStep;rw[used_rn hφ (e.altsAt i),e.names,mark_rn hφ.inj]
 unfold comeL;rw[hs,<-All2.len e.2]
theorem ends_rn {on on':ByteArray->Bool} (ho:∀ b,on' (φ b)=on b) {C:It->It->Prop}:∀ {d:Nat} {l m:List Alt},AltsC φ C d l m->endsA on' d m=endsA on d l
 | 0,_,_,_=>rfl
 | d+1,l,m,e=>by
  rw[endsA,endsA];refine All2.any_eq (fun a b hab=>?_) (AltsC.succ.1 e);refine All2.all_eq (fun x y hxy=>?_) hab.1;rw[<-hxy.1.1,<-hxy.1.2.2,hxy.1.2.1,ho,ends_rn ho hxy.2.2]
theorem GrRn.ends (hφ:Ren φ)(e:GrRn φ g h):endL h=endL g:=by
 have hs:endStep h=endStep g:=by
  funext i bs;unfold endStep;rw[ends_rn (on:=onB g bs) (on':=onB h bs) (fun b=>by unfold onB;rw[e.names,ixOf_map hφ.inj]) (e.altsAt i)]
 unfold endL;rw[hs,<-All2.len e.2]
theorem off_rn {R:Rl->Rl->Prop}:∀ {rs ss:List Rl} (bs:List Bool),All2 R rs ss->(firstOff ss bs).isSome=(firstOff rs bs).isSome
 | [],[],_,_=>rfl
 | _::_,_::_,[],_=>rfl
 | _::_,_::_,b::bs,k=>by
  rw[firstOff,firstOff]
  split
  ·exact off_rn bs k.2
  ·rfl
 | [],_::_,_,k=>k.elim
 | _::_,[],_,k=>k.elim
theorem orE_rn {n:Nat}{o o':Option Nat}{r r':Nat × Nat}(h:o'.isSome=o.isSome)(k:r'.1=r.1):(orE n o' r').1=(orE n o r).1:=by
 cases o <;> cases o' <;> simp_all [orE]
theorem GrRn.chk (hφ:Ren φ)(e:GrRn φ g h):(chk h).1=(chk g).1:=by
 unfold Lx.chk;rw[e.come hφ,e.ends hφ];exact orE_rn (e.dup hφ) (orE_rn (e.unk hφ) (orE_rn (off_rn _ e.2) (orE_rn (off_rn _ e.2) rfl)))
end
theorem ren_id:Ren id:=⟨fun _ _ h=>h,rfl,rfl,rfl,fun _ _ _=>rfl⟩
theorem altsEq_rn:∀ {d:Nat} {l m:List Alt},AltsEq d l m->AltsC id TrC d l m
 | 0,_,_,e=>e
 | _+1,_,_,e=>All2.imp (fun _ _ _ _ hab=>⟨All2.imp (fun _ _ _ _ hxy=>⟨⟨hxy.1,hxy.2.1.symm,hxy.2.2.1⟩,trivial,altsEq_rn hxy.2.2.2⟩) hab.1,hab.2.symm⟩) e
theorem grEq_rn {g h:Gr}(e:GrEq g h):GrRn id g h :=
 ⟨All2.imp (fun _ _ _ _ hlm=>⟨hlm.1,by rw[List.map_id];exact hlm.2.symm⟩) e.1,All2.imp (fun _ _ _ _ hrs=>⟨hrs.1.symm,altsEq_rn hrs.2⟩) e.2⟩
structure MkSame (φ:ByteArray->ByteArray) (g h:Gr):Prop where
 tok:tokG h=(tokG g).map φ
 nam:namG h=(namG g).map φ
 prod:prodG h=prodG g
 bk:∀ t,bkOf h (φ t)=bkOf g t
theorem mk_rn {φ:ByteArray->ByteArray} {g h:Gr} {s t:ByteArray} (hφ:Ren φ) (hs:parse s=.ok g) (ht:parse t=.ok h) (e:GrRn φ g h) :
  (∀ g',mkR s=.ok g'->g'=g/\mkR t=.ok h/\MkSame φ g h)/\(∀ x,mkR s=.error x->∃ a,mkR t=.error (x.1,a)):=by
 have hn:∀ r∈g.rules,isName r.name=true:=fun r hr=>((parse_is hs).2.1 r hr).1
 have hp:prodG h=prodG g:=e.prod hφ hn (parse_took hs).2 (parse_took ht).2;have hc:=e.chk hφ
 by_cases h0:(Lx.chk g).1=0
 ·by_cases hm:200<(prodG g).length
  ·refine⟨(fun g' hg=>by rw[mkR_many hs h0 hm]at hg;cases hg),fun x hx=>?_⟩
   rw[mkR_many hs h0 hm]at hx;cases hx;exact⟨0,mkR_many ht (hc.trans h0) (by rw[hp];exact hm)⟩
  ·refine⟨fun g' hg=>?_,fun x hx=>by rw[mkR_ok hs h0 hm]at hx;cases hx⟩
   rw[mkR_ok hs h0 hm]at hg;cases hg;exact⟨rfl,mkR_ok ht (hc.trans h0) (by rw[hp];exact hm),e.tok hφ,e.nam hφ hn,hp,e.bk hφ⟩
 ·refine⟨(fun g' hg=>by rw[mkR_chk hs h0]at hg;cases hg),fun x hx=>?_⟩
  rw[mkR_chk hs h0]at hx;cases hx;refine⟨(Lx.chk h).2,?_⟩;rw[mkR_chk ht (by rw[hc];exact h0),<-hc]
end Lx
end
section
open Go.RowKit
namespace Lx
theorem gapOf_cases (b w:ByteArray):gapOf b w=⟨#[10]⟩∨gapOf b w=⟨#[32]⟩∨(gapOf b w=⟨#[]⟩/\(b=noText∨b=⟨#[40]⟩∨w=noText∨w=⟨#[59]⟩∨w=⟨#[41]⟩∨w=⟨#[42]⟩∨w=⟨#[43]⟩∨w=⟨#[63]⟩)):=by
 unfold gapOf
 split
 ·exact .inl rfl
 ·split
  ·rename_i h
   refine .inr (.inr ⟨rfl,?_⟩);simp only[Bool.or_eq_true]at h;rcases h with (h | h) | h
   ·exact .inl (text_eq h)
   ·exact .inr (.inl (text_eq h))
   ·exact .inr (.inr (.inl (text_eq h)))
  ·split
   ·rename_i h
    refine .inr (.inr ⟨rfl,?_⟩);simp only[Bool.or_eq_true]at h;rcases h with (((h | h) | h) | h) | h
    ·exact .inr (.inr (.inr (.inl (text_eq h))))
    ·exact .inr (.inr (.inr (.inr (.inl (text_eq h)))))
    ·exact .inr (.inr (.inr (.inr (.inr (.inl (text_eq h))))))
    ·exact .inr (.inr (.inr (.inr (.inr (.inr (.inl (text_eq h)))))))
    ·exact .inr (.inr (.inr (.inr (.inr (.inr (.inr (text_eq h)))))))
   ·exact .inr (.inl rfl)
theorem no_sig:¬ Sig (bytes noText):=fun h=>h
theorem gap_ten (r:List UInt8):gapL (10::r) false=gapL r false:=by rw[gapL,if_pos (by decide)]
theorem gap_blk (r:List UInt8):gapL (32::r) false=gapL r false:=by
 rw[gapL,if_neg (by decide),if_neg (by decide),if_neg (fun h=>h.2.1 (by decide))]
structure Fill (nl bl fin:List UInt8):Prop where
 n1:∀ r,gapL (nl++r) false=gapL r false
 b1:∀ r,gapL (bl++r) false=gapL r false
 f1:gapL fin false=[]
 n2:∃ x r,nl=x::r/\wcB x=false
 b2:∃ x r,bl=x::r/\wcB x=false
 f2:fin=[]∨∃ x r,fin=x::r/\wcB x=false
def fillOf (nl bl:List UInt8)(g:ByteArray):List UInt8:=if g=⟨#[10]⟩ then nl else if g=⟨#[32]⟩ then bl else []
theorem fill_nl (nl bl:List UInt8):fillOf nl bl ⟨#[10]⟩=nl:=if_pos rfl
theorem fill_bl (nl bl:List UInt8):fillOf nl bl ⟨#[32]⟩=bl:=by unfold fillOf;rw[if_neg (by decide),if_pos rfl]
theorem fill_no (nl bl:List UInt8):fillOf nl bl ⟨#[]⟩=[]:=by unfold fillOf;rw[if_neg (by decide),if_neg (by decide)]
theorem Fill.gaps {nl bl fin:List UInt8}(h:Fill nl bl fin):Gaps (fun b w=>fillOf nl bl (gapOf b w)) (fun b=>fillOf nl bl (gapOf b noText)++fin):=by
 refine⟨fun b w r=>?_,fun b=>?_,fun b w r hb hw=>?_,fun b hb=>?_⟩
 ·rcases gapOf_cases b w with e | e | ⟨e,_⟩ <;> rw[e]
  ·rw[fill_nl];exact h.n1 r
  ·rw[fill_bl];exact h.b1 r
  ·rw[fill_no];rfl
 ·rcases gapOf_cases b noText with e | e | ⟨e,_⟩ <;> rw[e]
  ·rw[fill_nl,h.n1];exact h.f1
  ·rw[fill_bl,h.b1];exact h.f1
  ·rw[fill_no];exact h.f1
 ·rcases gapOf_cases b w with e | e | ⟨e,hx⟩ <;> rw[e]
  ·rw[fill_nl];obtain⟨x,t,e',hx⟩:=h.n2;rw[e'];exact .inl hx
  ·rw[fill_bl];obtain⟨x,t,e',hx⟩:=h.b2;rw[e'];exact .inl hx
  ·rw[fill_no]
   rcases hx with rfl | rfl | rfl | rfl | rfl | rfl | rfl | rfl
   ·exact absurd hb no_sig
   ·show Stop [40] _
    cases hh:([]++(bytes w++r)) with
    | nil=>trivial
    | cons y z=>exact .inr ⟨40,rfl,by decide,by decide⟩
   ·exact absurd hw no_sig
   all_goals exact .inl (by decide)
 ·rcases gapOf_cases b noText with e | e | ⟨e,_⟩ <;> rw[e]
  ·rw[fill_nl];obtain⟨x,t,e',hx⟩:=h.n2;rw[e'];exact .inl hx
  ·rw[fill_bl];obtain⟨x,t,e',hx⟩:=h.b2;rw[e'];exact .inl hx
  ·rw[fill_no,List.nil_append]
   rcases h.f2 with rfl | ⟨x,t,rfl,hx⟩
   ·trivial
   ·exact .inl hx
theorem plain_fill:Fill [10] [32] []:=⟨gap_ten,gap_blk,rfl,⟨10,[],rfl,by decide⟩,⟨32,[],rfl,by decide⟩,.inl rfl⟩
theorem fill_plain (b w:ByteArray):fillOf [10] [32] (gapOf b w)=bytes (gapOf b w):=by
 rcases gapOf_cases b w with e | e | ⟨e,_⟩ <;> rw[e]
 ·rw[fill_nl];rfl
 ·rw[fill_bl];rfl
 ·rw[fill_no];rfl
theorem form_lay:∀ (ws:List ByteArray) (b:ByteArray),formB b (ws++[noText])=lay (fun b w=>fillOf [10] [32] (gapOf b w)) (fun b=>fillOf [10] [32] (gapOf b noText)++[]) b ws
 | [],b=>by
  simp only[List.nil_append,formB,lay,List.append_nil];rw[fill_plain];show _++([]:List UInt8)=_;rw[List.append_nil];rfl
 | w::ws,b=>by
  simp only[List.cons_append,formB,lay];rw[form_lay ws w,fill_plain];rfl
theorem WF.split:∀ {ts:List Tk},WF ts->∃ ws,ts.map Prod.fst=ws++[noText]
 | [],h=>h.elim
 | [t],h=>⟨[],congrArg (·::[]) h⟩
 | t::u::r,h=>by
  obtain⟨ws,e⟩:=WF.split (ts:=u::r) h.2;exact⟨t.1::ws,by rw[List.map_cons,e];rfl⟩
theorem lex_signs (s:ByteArray):∃ ws,(lex s).map Prod.fst=ws++[noText]/\∀ x∈ws,Sig (bytes x):=by
 obtain⟨ws,e⟩:=WF.split (lex_wf s);refine⟨ws,e,fun x hx=>?_⟩;have hn:=WF.some (lex_wf s) e x hx;have:x∈(lex s).map Prod.fst:=by rw[e];exact List.mem_append_left _ hx
 obtain⟨t,ht,rfl⟩:=List.mem_map.1 this;exact (lex_sig s t ht).resolve_left hn
theorem lex_laid {nl bl fin:List UInt8}(h:Fill nl bl fin){ws:List ByteArray}(hw:∀ x∈ws,Sig (bytes x)){t:ByteArray}(ht:bytes t=lay (fun b w=>fillOf nl bl (gapOf b w)) (fun b=>fillOf nl bl (gapOf b noText)++fin) noText ws):(lex t).map Prod.fst=ws++[noText]:=by
 rw[lex_P,ht];refine relex h.gaps ws noText _ _ hw ?_;have h1:=congrArg List.length (gapEnd_L (s:=t) (i:=0) false (Nat.zero_le _));rw[List.length_drop,bytes_len,List.drop_zero,ht]at h1;omega
theorem form_lex (s:ByteArray):(lex ⟨(formL noText (lex s)).toArray⟩).map Prod.fst=(lex s).map Prod.fst:=by
 obtain⟨ws,e,hw⟩:=lex_signs s;rw[e];refine lex_laid plain_fill hw ?_;show (formL noText (lex s)).toArray.toList=_;rw[formL_B,e,form_lay]
end Lx
end
end Go.Proofs.YtlcppnabbicmoaaGreatDoor

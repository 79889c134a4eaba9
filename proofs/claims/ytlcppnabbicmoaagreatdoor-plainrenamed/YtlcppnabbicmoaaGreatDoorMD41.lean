import Derived.Test.YtlcppnabbicmoaaGreatDoorMD40
set_option maxHeartbeats 8000000
set_option maxRecDepth 1000000
namespace Go.Proofs.YtlcppnabbicmoaaGreatDoor
section
open Go.RowKit
open Tr
namespace Lx
def rowAt (B:List (List Bool))(i:Nat):List Bool:=B[i]?.getD []
def joinS (l:Nat)(B:List (List Bool))(s:Nat):List (List Bool):=B.set l (orL (rowAt B l) (rowAt B s))
def cntA (E:List Bool)(p:Pd):Nat:=min (aheadN E p.right+1) p.right.length
def stepF (E:List Bool)(B:List (List Bool))(p:Pd):List (List Bool):=(p.right.take (cntA E p)).foldl (joinS p.left) B
def passF (P:List Pd)(E:List Bool)(B:List (List Bool)):List (List Bool):=P.foldl (stepF E) B
def tot (B:List (List Bool)):Nat:=(B.map cntB).sum
theorem rowAt_eq {B:List (List Bool)}{i:Nat}(h:i<B.length):rowAt B i=B[i]:=by simp[rowAt,h]
theorem tot_set:∀ {B:List (List Bool)} {l:Nat} {C:List Bool} (h:l<B.length),tot (B.set l C)+cntB B[l]=tot B+cntB C
 | b::B,0,C,_=>by simp[tot];omega
 | b::B,l+1,C,h=>by
  have:=tot_set (B:=B) (l:=l) (C:=C) (by simpa using h);simp[tot]at this ⊢;omega
theorem tot_le {nT:Nat}:∀ {B:List (List Bool)},(∀ b∈B,b.length=nT)->tot B<=B.length*nT
 | [],_=>by simp[tot]
 | b::B,h=>by
  have h1:=tot_le (B:=B) fun x hx=>h x (List.mem_cons_of_mem _ hx)
  have h2:=cntB_le b;rw[h b List.mem_cons_self]at h2;simp[tot,Nat.succ_mul]at h1 ⊢;omega
theorem orL_len (A B:List Bool):(orL A B).length=A.length:=by unfold orL;rw[orTo_len]
end Lx
theorem BB.at {w:World}{gO nT:Nat}{gs:List Nat}{B:List (List Bool)}(h:BB w gO nT gs B){i:Nat}(hi:i<gs.length):w.cell? ⟨gO,i,none⟩=some (.slice (some ⟨gs[i],0,none⟩) nT nT)/\Blk w gs[i] (boolsV (Lx.rowAt B i)) 4/\(Lx.rowAt B i).length=nT:=by
 have hi':i<B.length:=by rw[h.len];exact hi
 rw[Lx.rowAt_eq hi'];refine⟨?_,h.rows i hi hi',h.rl _ (List.getElem_mem hi')⟩;rw[h.outer.cell i,vA_get];simp[hi,slB]
theorem BB.join {w w':World}{gO nT:Nat}{gs:List Nat}{B:List (List Bool)}(h:BB w gO nT gs B){l:Nat}(hl:l<gs.length){A C:List Bool}(hj:JoinP w gs[l] A C w')(hC:C.length=nT):BB w' gO nT gs (B.set l C):=by
 obtain⟨h1,h2,h3,h4,h5,h6⟩:=h;refine⟨(hj.oth gO (fun e=>h6 (e ▸ List.getElem_mem hl))).trans h1,by rw[List.length_set];exact h2,fun i hi hi'=>?_,fun b hb=>?_,h5,h6⟩
 ·rw[List.getElem_set]
  by_cases e:l=i
  ·subst e;rw[if_pos rfl];exact hj.blk
  ·rw[if_neg e]
   rw[List.length_set]at hi';exact (hj.oth _ (fun e'=>e ((List.getElem_inj h5).1 e').symm)).trans (h3 i hi hi')
 ·rcases List.mem_or_eq_of_mem_set hb with hb | hb
  ·exact h4 b hb
  ·rw[hb];exact hC
theorem BB.move {w w':World}{gO nT:Nat}{gs:List Nat}{B:List (List Bool)}(h:BB w gO nT gs B)(hk:∀ g,g<w.heap.size->w'.heap[g]?=w.heap[g]?):BB w' gO nT gs B:=⟨(hk _ h.outer.lt).trans h.outer,h.len,fun i hi hi'=>(hk _ (h.rows i hi hi').lt).trans (h.rows i hi hi'),h.rl,h.nd,h.no⟩
theorem make_lists {n:Nat}(hn:n<=100000)(w:World):(Instr.makeSlice 40 (.int .i64 (n:Int)) (.int .i64 (n:Int))).run Tryz.prog w=.ok (.slice (some ⟨w.heap.size,0,none⟩) n n) (w.alloc (.cells (vA (List.replicate n (Value.slice none 0 0))) 24)):=by
 obtain⟨i0,hi,hz0,hz1,hz2⟩:=info_parts Tryz.info24;have h:=run_make (P:=Tryz.prog) w 40 24 i0 _ (by kernel_rfl) hi hz0 .i64 .i64 (n:Int) (n:Int) (by omega) (Int.le_refl _) (by rw[hz2];omega) (by omega);rw[h,Int.toNat_natCast,hz1];have e:Value.cells (.slice none 0 0)=#[.slice none 0 0]:=rfl;have e2:madeCells #[.slice none 0 0] (n*1)=(vA (List.replicate n (Value.slice none 0 0))):=by
  unfold madeCells vA;apply Array.ext
  ·simp
  ·intro i h1 h2
   simp[Nat.mod_one]
 rw[e,e2]
def PtD (B:Nat)(w:World)(v:Value)(ps:List (List Nat)):Prop:=∃ qs,PtBy B w v ps qs/\qs.Pairwise fun a b=>∀ g,a.1.ownBlock=some g->b.1.ownBlock≠some g
theorem PtD.pt {B:Nat}{w:World}{v:Value}{ps:List (List Nat)}(h:PtD B w v ps):PtR B w v ps:=by
 obtain⟨qs,h1,-⟩:=h;exact⟨qs,h1⟩
def FirstP (w:World)(nT n:Nat)(P:List Lx.Pd)(E:List Bool)(e:Ending)(w':World):Prop:=∃ v B m,e=.returned v/\B=Lx.itr (Lx.passF P E) m (Lx.alone nT n)/\Lx.passF P E B=B/\PtD w.heap.size w' v (B.map Lx.membersL)/\Below w.heap.size w w'
theorem firstTokens_any {w:World}{ta:Option Addr}{nT tc:Nat}{na:Option Addr}{nN nc:Nat}{vP:Value}{P:List Lx.Pd}{ba ka:Option Addr}{nb bc nk kc gE:Nat}{E:List Bool}(h:SetIn w ta nT tc na nN nc vP P)(kE:Blk w gE (boolsV E) 4)(hE:E.length=nT+nN)(hpr:∀ p∈P,p.right.length<=100000):Calls Tryz.prog 32 #[.agg #[.slice ta nT tc,.slice na nN nc,vP,.slice ba nb bc,.slice ka nk kc],.slice (some ⟨gE,0,none⟩) (nT+nN) (nT+nN)] w (FirstP w nT (nT+nN) P E):=by
 obtain⟨hP,hok,hbd⟩:=h;obtain⟨pa,pc,rfl,hpm⟩:∃ a c,vP=.slice a P.length c/\P.length<=maxLen:=by obtain⟨ps,h1,h2,-⟩:=hP;exact own_len h2
 unfold maxLen at hpm;obtain⟨W,hW⟩:∃ W,W=w.alloc (.cells #[.slice ta nT tc,.slice na nN nc,.slice pa P.length pc,.slice ba nb bc,.slice ka nk kc] 26):=⟨_,rfl⟩;have hbW:Below w.heap.size w W:=by rw[hW];exact (Below.refl _ _).alloc (Nat.le_refl _) _
 have hsW:W.heap.size=w.heap.size+1:=by rw[hW];simp
 have kA:Blk W w.heap.size #[.slice ta nT tc,.slice na nN nc,.slice pa P.length pc,.slice ba nb bc,.slice ka nk kc] 26:=by rw[hW];exact Blk.new w _ 26
 have q0:=tokensAlone_any (w:=W) (ta:=ta) (tc:=tc) (na:=na) (nc:=nc) (vP:=.slice pa P.length pc) (vB:=.slice ba nb bc) (vK:=.slice ka nk kc) rfl rfl rfl hbd;have hnT:nT<=100000:=by omega
 obtain⟨n,hn⟩:∃ n,n=nT+nN:=⟨_,rfl⟩;rw[<-hn]at hok hbd hE q0 ⊢;clear hn;unfold FirstP;go_enter Tryz.func32,Tryz.ntmps32;go_wp2_with fail;rw[<-hW];clear hW;refine q0.mono ?_;rintro e w1 ⟨gO,gs,rfl,hgO,hgs,hBB,hb1⟩;clear q0;have hs1:=hb1.size;have hbw1:Below w.heap.size w w1:=hbW.trans (hb1.mono (by omega));have kA1:Blk w1 w.heap.size _ 26:=(hb1.block _ (by omega)).trans kA;have kE1:Blk w1 gE (boolsV E) 4:=(hbw1.block _ kE.lt).trans kE;have lE:=kE.lt;have hgl:gs.length=n:=by rw[<-hBB.len];simp[Lx.alone]
 go_wp2_with fail
 go_loopg [6] (n*nT+1) (fun k v wr=>∃ (b:Bool) (B:List (List Bool)) (m:Nat),v=.bool b/\(b=true->n*nT-Lx.tot B+1<=k)/\BB wr gO nT gs B/\Kp (fun g=>g<W.heap.size) w1 wr/\Hid (B=Lx.itr (Lx.passF P E) m (Lx.alone nT n))/\Hid (b=false->Lx.passF P E B=B))
 case atStart=>exact⟨true,_,0,rfl,fun _=>by omega,hBB,Kp.refl _ _,rfl,fun h=>by cases h⟩
 case round =>
  revert wr;intro wz hrel;obtain⟨b,B,m,rfl,hbk,hBz,hkz,HB,HF⟩:=hrel;have kAz:Blk wz w.heap.size _ 26:=kp_blk kA1 hkz (by show w.heap.size<W.heap.size;omega);have z2:wz.cell? ⟨w.heap.size,2,none⟩=some (.slice pa P.length pc):=kAz.cell 2;cases b with
  | true =>
   obtain⟨K0,HK0⟩:∃ K0,Hid (K0=gk):=⟨gk,rfl⟩;have hk2:n*nT-Lx.tot B+1<=K0:=by rw[HK0.out];exact hbk rfl
   have htl:∀ {C:List (List Bool)} {x:World},BB x gO nT gs C->Lx.tot C<=n*nT:=fun hC=>by
    have:=Lx.tot_le hC.rl;rw[hC.len,hgl]at this;exact this
   clear hbk HF;have H0:Hid (Lx.passF P E B=Lx.passF (P.drop 0) E B):=rfl;go_wp2_with fail
   go_loopg [6,21] P.length (fun k v i wr=>∃ (j:Nat) (b:Bool) (C:List (List Bool)),j+k=P.length/\v=.bool b/\i=.int .i64 j/\BB wr gO nT gs C/\Kp (fun g=>g<W.heap.size) w1 wr/\Hid ((b=false->C=B)/\(b=true->Lx.tot B<Lx.tot C)/\Lx.tot B<=Lx.tot C)/\Hid (Lx.passF P E B=Lx.passF (P.drop j) E C))
   case atStart=>exact⟨0,false,B,by omega,rfl,rfl,hBz,hkz,⟨fun _=>rfl,(fun h=>by cases h),Nat.le_refl _⟩,H0⟩
   case round =>
    clear H0 hBz hkz kAz z2;revert wr;intro wy hrel;obtain⟨j,b,C,hkj,rfl,rfl,hC,hky,HC,HP⟩:=hrel;have hsy:=hky.size;have hby:Below w.heap.size w wy:=⟨hky.os.trans hbw1.os,hky.tape.trans hbw1.tape,hky.output.trans hbw1.output,Nat.le_trans hbw1.size hky.size,fun x hx=>(hky.block x (by show x<W.heap.size;omega)).trans (hbw1.block x hx)⟩
    by_cases hlt:j<P.length
    ·obtain⟨g,cap,u,hv,hu0,x0',x1',x2'⟩:=hP.at hlt
     cases hv;have hu:IR 0 wy u P[j].right:=own_below hu0 hby;have x0:=cell_below hby x0';have x1:=cell_below hby x1';have x2:=cell_below hby x2';clear x0' x1' x2';obtain⟨hleft,hright⟩:=hok P[j] (List.getElem_mem hlt);have hrl:=hpr P[j] (List.getElem_mem hlt);have hd:=HP.out;rw[List.drop_eq_getElem_cons hlt,show Lx.passF (P[j]::P.drop (j+1)) E C=Lx.passF (P.drop (j+1)) E (Lx.stepF E C P[j]) from rfl]at hd;generalize P[j]=pd at hu hu0 x0 x1 x2 hleft hright hd hrl;obtain⟨pl,pr,pp⟩:=pd;simp only at hu hu0 x0 x1 x2 hleft hright hrl;obtain⟨ua,uc,rfl,-⟩:=own_len hu;obtain⟨W1,hW1⟩:∃ W1,W1=wy.alloc (.cells #[.int .i64 (pl:Int),.slice ua pr.length uc,.int .i64 pp] 58):=⟨_,rfl⟩;have hbA:Below wy.heap.size wy W1.drew:=by rw[hW1];exact ((Below.refl _ _).alloc (Nat.le_refl _) _).drew
     have hsA:W1.heap.size=wy.heap.size+1:=by rw[hW1];simp
     have kp:Blk W1.drew wy.heap.size #[.int .i64 (pl:Int),.slice ua pr.length uc,.int .i64 pp] 58:=by rw[hW1];exact (Blk.new wy _ 58).drew
     have kEA:Blk W1.drew gE (boolsV E) 4:=(hbA.block _ (by have:=hby.size;omega)).trans ((hby.block _ lE).trans kE);have hCA:BB W1.drew gO nT gs C:=hC.move fun x hx=>hbA.block x hx
     have hkA:Kp (fun g=>g<W.heap.size) w1 W1.drew:=hky.trans (Kp.below hbA (D:=fun g=>g<wy.heap.size) fun g hg=>hg) fun g hg=>by show g<wy.heap.size;omega
     have p1:W1.drew.cell? ⟨wy.heap.size,1,none⟩=some (.slice ua pr.length uc):=kp.cell 1;have huA:IR 0 W1.drew (.slice ua pr.length uc) pr:=own_below hu hbA;have q1:=emptyAhead_any huA kEA (fun s hs=>by rw[hE];exact hright s hs);rw[hE]at q1;have hale:=Lx.aheadN_le E pr;have HST:Hid (Lx.stepF E C ⟨pl,pr,pp⟩=(pr.take (min (Lx.aheadN E pr+1) pr.length)).foldl (Lx.joinS pl) C):=rfl;obtain⟨cn,hcn⟩:∃ cn,cn=min (Lx.aheadN E pr+1) pr.length:=⟨_,rfl⟩;rw[<-hcn]at HST;have HCN:Hid (cn=min (Lx.aheadN E pr+1) pr.length):=hcn;have hcl:cn<=pr.length:=by omega
     generalize Lx.aheadN E pr=an at q1 hale HCN hcn;clear hcn;go_wp2_with fail;rw[<-hW1];clear hW1 x0 x1 x2
     go_region_held3 (fun w'=>w'.cell? ⟨wy.heap.size,1,none⟩=some (.slice ua pr.length uc)) (first | go_keep | assumption) ((go_at_call 71;refine q1.mono ?_;rintro e w5 ⟨rfl,hw5⟩;subst hw5))
     have hmin:min (IntKind.i64.wrap ((an:Int)+1)) (pr.length:Int)=(cn:Int):=by
      rw[show ((an:Int)+1)=((an+1:Nat):Int) from by omega,wrap64 (by omega),HCN.out];omega
     rw[hmin];clear hmin q1;rw[HST.out]at hd;have HSYM:Hid (∀ s∈pr.take cn,s<n):=fun s hs=>hright s (List.mem_of_mem_take hs)
     have hcap:=own_cap huA;have c0:(0:Int)<=(cn:Int):=by omega
     have c1:(cn:Int)<=(uc:Int):=by omega
     have hlen:(pr.take cn).length=cn:=by rw[List.length_take];omega
     have hgy:∀ x∈gs,x<wy.heap.size:=fun x hx=>by
      obtain⟨i,hi,rfl⟩:=List.getElem_of_mem hx;exact (hC.rows i hi (by rw[hC.len];exact hi)).lt
     have H3:Hid (Lx.passF P E B=Lx.passF (P.drop (j+1)) E (((pr.take cn).drop 0).foldl (Lx.joinS pl) C)):=hd;have HU:Hid (∀ {x:World},Kp (fun g=>g<W.heap.size∨g=wy.heap.size) W1.drew x->IR 0 x (.slice ua pr.length uc) pr):=fun hx=>own_move huA fun g hg=>hx.block g (.inl (by have:=(hu0.lt g hg).2;omega))
     clear hd HP;rcases huA.2 with ⟨e1,e2⟩ | ⟨gR,capR,curR,hvR,-,hhR,hx1,hx2,hx3,hx4⟩
     ·have hcn0:cn=0:=by omega
      subst hcn0;have H4:Hid (Lx.passF P E B=Lx.passF (P.drop (j+1)) E C):=by show _=_;have:=H3.out;simpa using this
      simp only[Value.slice.injEq]at e1;obtain⟨rfl,-,rfl⟩:=e1;have hpr0:pr=[]:=List.eq_nil_of_length_eq_zero e2;subst hpr0;clear H3 HST HCN e2 hlen HSYM HU;go_wp2_with fail
      go_loopg [6,39] 0 (fun k v i wr=>k=0/\v=.bool b/\i=.int .i64 0/\wr=W1.drew)
      case atStart=>exact⟨rfl,rfl,rfl,rfl⟩
      case round =>
       obtain⟨rfl,rfl,rfl,rfl⟩:=hrel;go_wp2_with fail;go_roundg (P.length - (j+1))
       case measure=>omega
       case rel=>exact⟨j+1,b,C,by omega,rfl,by go_num,hCA,hkA,HC,H4⟩
     ·cases hvR
      clear hx4 hx3 hhR hx2 hx1;go_wp2_with fail
      go_loopg [6,39] cn (fun k v i wr=>∃ (q:Nat) (b2:Bool) (C2:List (List Bool)),q+k=cn/\v=.bool b2/\i=.int .i64 q/\BB wr gO nT gs C2/\Kp (fun g=>g<W.heap.size∨g=wy.heap.size) W1.drew wr/\Hid ((b2=false->C2=B)/\(b2=true->Lx.tot B<Lx.tot C2)/\Lx.tot B<=Lx.tot C2)/\Hid (Lx.passF P E B=Lx.passF (P.drop (j+1)) E (((pr.take cn).drop q).foldl (Lx.joinS pl) C2)))
      case atStart=>exact⟨0,b,C,by omega,rfl,rfl,hCA,Kp.refl _ _,HC,H3⟩
      case round =>
       clear H3 hCA p1 kEA;obtain⟨q,b2,C2,hkq,rfl,rfl,hC2,hkr,HC2,H3⟩:=hrel
       by_cases hltq:q<cn
       ·have hur:=HU.out hkr
        obtain⟨gR',capR',hvR',-,cq⟩:=hur.at (j:=q) (by omega);cases hvR';have h3:=H3.out;have hqx:q<(pr.take cn).length:=by rw[hlen];exact hltq
        have hdr:(pr.take cn).drop q=(pr.take cn)[q]::(pr.take cn).drop (q+1):=List.drop_eq_getElem_cons hqx;rw[hdr,List.foldl_cons,List.getElem_take]at h3;have hsn:=hright pr[q] (List.getElem_mem (by omega));generalize pr[q]=sy at cq h3 hsn;obtain⟨o1,o2,o3⟩:=hC2.at (i:=pl) (by omega);obtain⟨y1,y2,y3⟩:=hC2.at (i:=sy) (by omega);have kpr:Blk wr wy.heap.size #[.int .i64 (pl:Int),.slice (some ⟨gR,0,none⟩) pr.length uc,.int .i64 pp] 58:=kp_blk kp hkr (.inr rfl);have dp:wr.drew.cell? ⟨wy.heap.size,0,none⟩=some (.int .i64 (pl:Int)):=kpr.drew.cell 0;have do1:wr.drew.cell? ⟨gO,pl,none⟩=some (.slice (some ⟨gs[pl]'(by omega),0,none⟩) nT nT):=o1;have dy1:wr.drew.cell? ⟨gO,sy,none⟩=some (.slice (some ⟨gs[sy]'(by omega),0,none⟩) nT nT):=y1;have i1:(0:Int)<=(pl:Int):=by omega
        have i2:(pl:Int)<(n:Int):=by omega
        have i3:(0:Int)<=(sy:Int):=by omega
        have i4:(sy:Int)<(n:Int):=by omega
        have hlC:C2.length=n:=by rw[hC2.len];exact hgl
        have hCd:BB wr.drew gO nT gs C2:=hC2.move fun _ _=>rfl
        by_cases hps:sy=pl
        ·subst hps
         have hjs:Lx.joinS sy C2 sy=C2:=by
          unfold Lx.joinS;rw[Lx.orL_self,Lx.rowAt_eq (by omega)];exact List.set_getElem_self _
         rw[hjs]at h3;have H4:Hid (Lx.passF P E B=Lx.passF (P.drop (j+1)) E (((pr.take cn).drop (q+1)).foldl (Lx.joinS sy) C2)):=h3;have q1:=join_self (w:=wr.drew) (o2.drew) o3 hnT;have hkd:Kp (fun g=>g<W.heap.size∨g=wy.heap.size) W1.drew wr.drew:=⟨hkr.os,hkr.tape,hkr.output,hkr.size,hkr.block⟩;generalize gs[sy]'(by omega)=ga at do1 dy1 q1;clear h3 H3 hjs hdr o1 y1 o2 y2;go_wp2_with fail
         go_region_held3 (fun w'=>w'.cell? ⟨wy.heap.size,0,none⟩=some (.int .i64 (sy:Int))/\w'.cell? ⟨gO,sy,none⟩=some (.slice (some ⟨ga,0,none⟩) nT nT)) (first | go_keep | assumption) ((go_at_call 73;refine q1.mono ?_;rintro e w5 ⟨rfl,hw5⟩;subst hw5))
         all_goals
          go_wp2_with fail;go_roundg (cn - (q+1))
          case measure=>omega
          case rel=>exact⟨q+1,b2,C2,by omega,rfl,by go_num,hCd,hkd,HC2,H4⟩
        ·have hgne:gs[pl]'(by omega)≠gs[sy]'(by omega):=fun e=>hps ((List.getElem_inj hC2.nd).1 e).symm
         have H4:Hid (Lx.passF P E B=Lx.passF (P.drop (j+1)) E (((pr.take cn).drop (q+1)).foldl (Lx.joinS pl) (Lx.joinS pl C2 sy))):=h3;have q1:=join_any (w:=wr.drew) hgne (o2.drew) (y2.drew) o3 y3 hnT;have hts:=Lx.tot_set (B:=C2) (l:=pl) (C:=Lx.orL (Lx.rowAt C2 pl) (Lx.rowAt C2 sy)) (by omega);rw[<-Lx.rowAt_eq (B:=C2) (i:=pl) (by omega)]at hts;have hgm:=List.getElem_mem (l:=gs) (n:=pl) (by omega);have hgW:=hgs _ hgm;have hgW2:=hgy _ hgm;have HJ:Hid (∀ {x:World},JoinP wr.drew (gs[pl]'(by omega)) (Lx.rowAt C2 pl) (Lx.orL (Lx.rowAt C2 pl) (Lx.rowAt C2 sy)) x->BB x gO nT gs (Lx.joinS pl C2 sy)):=fun hx=>hCd.join (by omega) hx (by rw[Lx.orL_len];exact o3)
         have HT:Hid (Lx.tot (Lx.joinS pl C2 sy)+Lx.cntB (Lx.rowAt C2 pl)=Lx.tot C2+Lx.cntB (Lx.orL (Lx.rowAt C2 pl) (Lx.rowAt C2 sy))):=hts;have HE0:Hid (Lx.orL (Lx.rowAt C2 pl) (Lx.rowAt C2 sy)=Lx.rowAt C2 pl->Lx.joinS pl C2 sy=C2):=fun he=>by
          unfold Lx.joinS;rw[he,Lx.rowAt_eq (by omega)];exact List.set_getElem_self _
         have hsg:gs[pl]'(by omega)≠wy.heap.size:=by omega
         have hgO:gO≠gs[pl]'(by omega):=fun e=>hC2.no (e ▸ hgm)
         generalize gs[pl]'(by omega)=ga at do1 q1 hgW hsg HJ hgO;generalize gs[sy]'(by omega)=gb at dy1 q1;clear h3 H3 hdr o1 y1 o2 y2 hgne hgm hts;go_wp2_with fail
         go_region_held3 (fun w'=>w'.cell? ⟨wy.heap.size,0,none⟩=some (.int .i64 (pl:Int))/\w'.cell? ⟨gO,pl,none⟩=some (.slice (some ⟨ga,0,none⟩) nT nT)/\w'.cell? ⟨gO,sy,none⟩=some (.slice (some ⟨gb,0,none⟩) nT nT)) (first | go_keep | assumption) ((go_at_call 73;refine q1.mono ?_;rintro e w5 ⟨b3,rfl,hb3t,hb3f,hJP⟩;have S5:w5.cell? ⟨wy.heap.size,0,none⟩=some (.int .i64 (pl:Int))/\w5.cell? ⟨gO,pl,none⟩=some (.slice (some ⟨ga,0,none⟩) nT nT)/\w5.cell? ⟨gO,sy,none⟩=some (.slice (some ⟨gb,0,none⟩) nT nT):=⟨(World.cell?_of_block (w:=wr.drew) (hJP.oth _ (fun e=>hsg e.symm))).trans dp,(World.cell?_of_block (w:=wr.drew) (hJP.oth _ hgO)).trans do1,(World.cell?_of_block (w:=wr.drew) (hJP.oth _ hgO)).trans dy1⟩))
         all_goals
          have hB5:=HJ.out hJP;have hk5:Kp (fun g=>g<W.heap.size∨g=wy.heap.size) W1.drew w5:=⟨hJP.os.trans hkr.os,hJP.tape.trans hkr.tape,hJP.output.trans hkr.output,by rw[hJP.size];exact hkr.size,fun x hx=>(hJP.oth x (by rcases hx with hx | hx <;> omega)).trans (hkr.block x hx)⟩;clear S5 q1 dp do1 dy1;cases b3 with
          | true =>
           have hcl2:=hb3t rfl;have HC3:Hid (Lx.tot B<Lx.tot (Lx.joinS pl C2 sy)):=by have:=HT.out;have:=HC2.out.2.2;show _<_;omega
           clear hb3t hb3f hcl2;go_wp2_with fail;go_roundg (cn - (q+1))
           case measure=>omega
           case rel=>exact⟨q+1,true,_,by omega,rfl,by go_num,hB5,hk5,⟨(fun h=>by cases h),fun _=>HC3.out,Nat.le_of_lt HC3.out⟩,H4⟩
          | false =>
           have he:=HE0.out (hb3f rfl);rw[he]at hB5 H4;clear hb3t hb3f he;go_wp2_with fail;go_roundg (cn - (q+1))
           case measure=>omega
           case rel=>exact⟨q+1,b2,C2,by omega,rfl,by go_num,hB5,hk5,HC2,H4⟩
       ·have:q=cn:=by omega
        subst this;have H4:Hid (Lx.passF P E B=Lx.passF (P.drop (j+1)) E C2):=by
         show _=_;have:=H3.out;rw[show (pr.take q).drop q=[] from List.drop_eq_nil_of_le (by rw[hlen];exact Nat.le_refl _)]at this;exact this
        have hk5:Kp (fun g=>g<W.heap.size) w1 wr:=hkA.trans hkr fun g hg=>.inl hg
        clear H3 HU;go_wp2_with fail;go_roundg (P.length - (j+1))
        case measure=>omega
        case rel=>exact⟨j+1,b2,C2,by omega,rfl,by go_num,hC2,hk5,HC2,H4⟩
    ·have:j=P.length:=by omega
     subst this;have hd:=HP.out;rw[List.drop_length]at hd;have HPF:Hid (Lx.passF P E B=C):=hd;have hcF:=htl hC;have HE2:Hid (C=Lx.itr (Lx.passF P E) (m+1) (Lx.alone nT n)):=by
      show C=Lx.passF P E (Lx.itr (Lx.passF P E) m (Lx.alone nT n));rw[<-HB.out];exact HPF.out.symm
     have HF0:Hid (b=false->Lx.passF P E C=C):=fun hb=>by
      have h1:=HC.out.1 hb;rw[h1];have:=HPF.out;rw[h1]at this;exact this
     have HMS:Hid (b=true->n*nT-Lx.tot C+1<=K0-1):=fun hb=>by
      have:=HC.out.2.1 hb;omega
     clear HC HP hd htl;go_wp2_with fail;go_roundg (K0-1)
     case measure=>have:=HK0.out;omega
     case rel=>exact⟨b,C,m+1,rfl,HMS.out,hC,hky,HE2,HF0⟩
  | false =>
   have HF2:Hid (Lx.passF P E B=B):=HF.out rfl;have hmk:=fun w=>make_lists hbd w
   have hbz:Below w.heap.size w wz:=⟨hkz.os.trans hbw1.os,hkz.tape.trans hbw1.tape,hkz.output.trans hbw1.output,Nat.le_trans hbw1.size hkz.size,fun x hx=>(hkz.block x (by show x<W.heap.size;omega)).trans (hbw1.block x hx)⟩;have hszz:=hbz.size;obtain⟨W3,hW3⟩:∃ W3,W3=wz.alloc (.cells (vA (List.replicate n (Value.slice none 0 0))) 24):=⟨_,rfl⟩;have hb3:Below wz.heap.size wz W3:=by rw[hW3];exact (Below.refl _ _).alloc (Nat.le_refl _) _
   have hs3:W3.heap.size=wz.heap.size+1:=by rw[hW3];simp
   have kL:Blk W3 wz.heap.size (vA (List.replicate n (Value.slice none 0 0))) 24:=by rw[hW3];exact Blk.new wz _ 24
   have hB3:BB W3 gO nT gs B:=hBz.move fun x hx=>hb3.block x hx
   clear hbk HF z2 kAz;go_wp2_with fail;rw[<-hW3];clear hW3 hmk
   go_loopg [60] n (fun k i wr=>∃ (j:Nat) (us:List Value),j+k=n/\i=.int .i64 j/\us.length=j/\Blk wr wz.heap.size (vA (us++List.replicate (n-j) (Value.slice none 0 0))) 24/\(∀ x (hx:x<us.length),IR w.heap.size wr us[x] (Lx.membersL (Lx.rowAt B x))/\us[x].ownBlock≠some wz.heap.size)/\Hid (us.Pairwise fun a b=>∀ g,a.ownBlock=some g->b.ownBlock≠some g)/\Kp (fun g=>g<W3.heap.size/\g≠wz.heap.size) W3 wr)
   case atStart=>exact⟨0,[],by omega,rfl,rfl,by simpa using kL,(fun x hx=>absurd hx (by simp)),List.Pairwise.nil,Kp.refl _ _⟩
   case round =>
    obtain⟨j,us,hkj,rfl,hul,hL,hus,HPW,hkr⟩:=hrel;have hsr:=hkr.size
    by_cases hlt:j<n
    ·have hBr:BB wr gO nT gs B:=by
      have hkk:∀ x,x<wz.heap.size->wr.heap[x]?=wz.heap[x]?:=fun x hx=>(hkr.block x ⟨by omega,by omega⟩).trans (hb3.block x hx)
      exact hBz.move hkk
     obtain⟨o1,o2,o3⟩:=hBr.at (i:=j) (by omega);have q1:=members_any (w:=wr) o2 o3 hnT;have lL:=hL.lt;have cL:wr.cell? ⟨wz.heap.size,j,none⟩=some (.slice none 0 0):=by
      rw[hL.cell j,vA_get,List.getElem?_append_right (by omega),hul,Nat.sub_self,List.getElem?_replicate,if_pos (by omega)]
     have i1:(0:Int)<=(j:Int):=by omega
     have i2:(j:Int)<(n:Int):=by omega
     generalize gs[j]'(by omega)=ga at o1 q1;have hset:∀ u:Value,(us++List.replicate (n-j) (Value.slice none 0 0)).set j u=(us++[u])++List.replicate (n - (j+1)) (Value.slice none 0 0):=fun u=>by
      rw[List.set_append_right _ _ (by omega),show n-j=n - (j+1)+1 by omega,List.replicate_succ,hul];simp
     have HSET:Hid _:=hset;clear hset o2;go_wp2_with fail;refine q1.mono ?_;rintro e w5 ⟨u,rfl,hu,hb5⟩;obtain⟨ua,uc,rfl,-⟩:=own_len hu;have hL5:Blk w5 wz.heap.size _ 24:=(hb5.block _ lL).trans hL;have c5:w5.cell? ⟨wz.heap.size,j,none⟩=some (.slice none 0 0):=cell_below hb5 cL;have f5:∀ i,w5.frozen? ⟨wz.heap.size,i,none⟩=false:=hL5.frozen;have hL6:=hL5.set j (.slice ua (Lx.membersL (Lx.rowAt B j)).length uc);rw[vA_set,HSET.out]at hL6;have hus6:∀ x (hx:x<(us++[Value.slice ua (Lx.membersL (Lx.rowAt B j)).length uc]).length),IR w.heap.size (w5.setCell ⟨wz.heap.size,j,none⟩ (.slice ua (Lx.membersL (Lx.rowAt B j)).length uc)) (us++[Value.slice ua (Lx.membersL (Lx.rowAt B j)).length uc])[x] (Lx.membersL (Lx.rowAt B x))/\(us++[Value.slice ua (Lx.membersL (Lx.rowAt B j)).length uc])[x].ownBlock≠some wz.heap.size:=by
      intro x hx;rw[List.length_append,List.length_singleton]at hx
      by_cases hxu:x<us.length
      ·rw[List.getElem_append_left hxu]
       have h1:=hus x hxu;exact⟨own_move (own_below h1.1 hb5) fun g hg=>Below.heap_setCell _ _ _ _ (fun e=>h1.2 (by rw[hg];exact congrArg some e)),h1.2⟩
      ·have:x=us.length:=by omega
       subst this;rw[List.getElem_append_right (Nat.le_refl _)];simp only[Nat.sub_self,List.getElem_cons_zero];rw[hul];have hnl:(Value.slice ua (Lx.membersL (Lx.rowAt B j)).length uc).ownBlock≠some wz.heap.size:=fun e=>by have:=(hu.lt _ e).1;omega
       exact⟨own_le (own_move hu fun g hg=>Below.heap_setCell _ _ _ _ (fun e=>hnl (by rw[hg];exact congrArg some e))) (by omega),hnl⟩
     have hk6:Kp (fun g=>g<W3.heap.size/\g≠wz.heap.size) W3 (w5.setCell ⟨wz.heap.size,j,none⟩ (.slice ua (Lx.membersL (Lx.rowAt B j)).length uc)):=⟨hb5.os.trans hkr.os,hb5.tape.trans hkr.tape,hb5.output.trans hkr.output,by have:=hb5.size;simp[World.setCell];omega,fun x hx=>(Below.heap_setCell _ _ _ _ hx.2).trans ((hb5.block x (by omega)).trans (hkr.block x hx))⟩;have HP6:Hid ((us++[Value.slice ua (Lx.membersL (Lx.rowAt B j)).length uc]).Pairwise fun a b=>∀ g,a.ownBlock=some g->b.ownBlock≠some g):=List.pairwise_append.2 ⟨HPW.out,List.pairwise_singleton _ _,fun a ha b hb g hg e=>by
      rw[List.mem_singleton]at hb;subst hb;obtain⟨x,hx,rfl⟩:=List.getElem_of_mem ha;have h1:=((hus x hx).1.lt g hg).2;have h2:=(hu.lt g e).1;omega⟩
     have HL6:Hid _:=hL6;have HU6:Hid _:=hus6;clear hL6 hus6 hus hL hL5 q1 cL o1;go_wp2_with fail;go_roundg (n - (j+1))
     case measure=>omega
     case rel=>exact⟨j+1,_,by omega,by go_num,by rw[List.length_append,List.length_singleton];omega,HL6.out,HU6.out,HP6,hk6⟩
    ·have:j=n:=by omega
     subst this;have hlB:B.length=j:=by rw[hBz.len];exact hgl
     have hpt:PtD w.heap.size wr (.slice (some ⟨wz.heap.size,0,none⟩) j j) (B.map Lx.membersL):=by
      have hlen2:us.length=(B.map Lx.membersL).length:=by rw[List.length_map];omega
      have hL':Blk wr wz.heap.size (vA us) 24:=by simpa using hL
      refine⟨us.zip (B.map Lx.membersL),⟨List.map_snd_zip (by omega),?_,?_,?_⟩,?_⟩
      ·rw[List.map_fst_zip (by omega),List.length_map,hlB]
       refine⟨by rw[hul];simp,.inr ⟨wz.heap.size,j,vA us,rfl,by omega,hL',Nat.le_refl _,by unfold maxLen;omega,by simp[vA,hul],?_⟩⟩;unfold vA;rw[Nat.mul_one,<-hul];exact List.take_length
      ·intro q hq
       obtain⟨x,hx,rfl⟩:=List.getElem_of_mem hq;rw[List.length_zip]at hx;rw[List.getElem_zip,List.getElem_map];have h1:=hus x (by omega);rw[Lx.rowAt_eq (by omega)]at h1;exact h1.1
      ·intro q hq g hg e
       obtain⟨x,hx,rfl⟩:=List.getElem_of_mem hq;rw[List.length_zip]at hx;rw[List.getElem_zip]at hg;have e1:wz.heap.size=g:=by simpa [Value.ownBlock]using e
       exact (hus x (by omega)).2 (by rw[e1];exact hg)
      ·rw[List.pairwise_iff_getElem]
       intro x y hx hy hxy g hg;rw[List.length_zip]at hx hy;rw[List.getElem_zip]at hg ⊢;exact List.pairwise_iff_getElem.1 HPW.out x y (by omega) (by omega) hxy g hg
     have hbf:Below w.heap.size w wr:=⟨hkr.os.trans (hb3.os.trans hbz.os),hkr.tape.trans (hb3.tape.trans hbz.tape),hkr.output.trans (hb3.output.trans hbz.output),by omega,fun x hx=>(hkr.block x ⟨by omega,by omega⟩).trans ((hb3.block x (by omega)).trans (hbz.block x hx))⟩;have HPT:Hid _:=hpt;clear hpt hus hL;go_wp2_with fail;go_ret;exact⟨_,B,m,rfl,HB.out,HF2.out,HPT.out,hbf⟩
end
section
open Go.RowKit
open Tr
namespace Lx
def mkR (s:ByteArray):Except (Nat × Nat) Gr :=
 match parse s with
 | .error e=>.error e
 | .ok g=>if (chk g).1=0 then (if 200<(prodG g).length then .error (8,0) else .ok g) else .error (chk g)
theorem mkR_err {s:ByteArray}{e:Nat × Nat}(h:parse s=.error e):mkR s=.error e:=by unfold mkR;rw[h]
theorem mkR_chk {s:ByteArray}{g:Gr}(h:parse s=.ok g)(hc:(chk g).1≠0):mkR s=.error (chk g):=by unfold mkR;rw[h];exact if_neg hc
theorem mkR_many {s:ByteArray}{g:Gr}(h:parse s=.ok g)(hc:(chk g).1=0)(hm:200<(prodG g).length):mkR s=.error (8,0):=by unfold mkR;rw[h];exact (if_pos hc).trans (if_pos hm)
theorem mkR_ok {s:ByteArray}{g:Gr}(h:parse s=.ok g)(hc:(chk g).1=0)(hm:¬ 200<(prodG g).length):mkR s=.ok g:=by unfold mkR;rw[h];exact (if_pos hc).trans (if_neg hm)
theorem chk_zero {g:Gr}(h:(chk g).1=0):dupG g=none/\unkG g=none:=by
 unfold chk at h;cases h1:dupG g with
 | some p=>rw[h1]at h;exact absurd h (by simp[orE])
 | none =>
  rw[h1]at h;cases h2:unkG g with
  | some p=>rw[h2]at h;exact absurd h (by simp[orE])
  | none=>exact⟨rfl,rfl⟩
theorem lvWords_len (g:Gr):(levelWords g).length<=sizeV g.levels:=by
 have:=lvToks_len g;unfold levelToks textsOf at this;rw[List.length_map]at this;exact this
theorem wdOf_len (beh:ByteArray)(il:Bool)(t:Tk)(nx:ByteArray):(wdOf beh il t nx).length<=1:=by
 unfold wdOf
 split
 ·simp
 ·split <;> simp
theorem wl_len:∀ (ts:List Tk) (beh:ByteArray) (il:Bool),(wl beh il ts).length<=ts.length
 | [],_,_=>Nat.le_refl _
 | t::ts,beh,il=>by
  rw[wl,List.length_append,List.length_cons];have h1:=wdOf_len beh il t (hd ts);have h2:=wl_len ts t.1 (nextIn il t);omega
theorem flat_len {s:ByteArray}{g:Gr}(h:parse s=.ok g)(hs:s.size<=2000):(flatG g).length<=100000:=by
 rw[<-words_flat h];have h1:=wl_len (lex s) noText true;have h2:(lex s).length<=2001:=by have:=lexAt_len s (gapEnd s 0 false);unfold lex;omega
 omega
theorem parse_size {s:ByteArray}{g:Gr}(h:parse s=.ok g):s.size<=2000:=by
 unfold parse at h
 split at h
 ·cases h
 ·omega
end Lx
end
section
open Go.RowKit
open Tr
def none5:Value:=.agg #[.slice none 0 0,.slice none 0 0,.slice none 0 0,.slice none 0 0,.slice none 0 0]
def MakeEnds (s:ByteArray)(w:World)(e:Ending)(w':World):Prop :=
 ∃ v,∃ n a:Nat,e=.returned (.tuple #[v,.int .i64 (n:Int),.int .i64 (a:Int)])/\Below w.heap.size w w'/\(∀ g,Lx.mkR s=.ok g->n=0/\a=0/\PlP w' v (Lx.tokG g) (Lx.namG g) (Lx.prodG g) ((Lx.tokG g).map fun t=>(Lx.bkOf g t).1) ((Lx.tokG g).map fun t=>(Lx.bkOf g t).2))/\(∀ x,Lx.mkR s=.error x->n=x.1/\a=x.2/\v=none5)
theorem MakeEnds.no {s:ByteArray}{w w':World}{n a:Nat}(h:Lx.mkR s=.error (n,a))(hb:Below w.heap.size w w'):MakeEnds s w (.returned (.tuple #[none5,.int .i64 (n:Int),.int .i64 (a:Int)])) w' :=
 ⟨_,n,a,rfl,hb,(fun g hg=>by rw[h]at hg;cases hg),(fun x hx=>by rw[h]at hx;cases hx;exact⟨rfl,rfl,rfl⟩)⟩
theorem put5_blk {w:World}{r t:Nat}{x0 x1 x2 x3 x4 y0 y1 y2 y3 y4:Value}(h:Blk w r #[y0,y1,y2,y3,y4] t):Blk (((((w.setCell ⟨r,0,none⟩ x0).setCell ⟨r,1,none⟩ x1).setCell ⟨r,2,none⟩ x2).setCell ⟨r,3,none⟩ x3).setCell ⟨r,4,none⟩ x4) r #[x0,x1,x2,x3,x4] t:=((((h.set 0 _).set 1 _).set 2 _).set 3 _).set 4 _
theorem put5_below {B:Nat}{a w:World}(h:Below B a w){r:Nat}(hr:B<=r)(x0 x1 x2 x3 x4:Value):Below B a (((((w.setCell ⟨r,0,none⟩ x0).setCell ⟨r,1,none⟩ x1).setCell ⟨r,2,none⟩ x2).setCell ⟨r,3,none⟩ x3).setCell ⟨r,4,none⟩ x4) :=
 ((((h.setCell (p:=⟨r,0,none⟩) hr x0).setCell (p:=⟨r,1,none⟩) hr x1).setCell (p:=⟨r,2,none⟩) hr x2).setCell (p:=⟨r,3,none⟩) hr x3).setCell (p:=⟨r,4,none⟩) hr x4
theorem put5_other (w:World)(r:Nat)(x0 x1 x2 x3 x4:Value)(g:Nat)(hn:g≠r):(((((w.setCell ⟨r,0,none⟩ x0).setCell ⟨r,1,none⟩ x1).setCell ⟨r,2,none⟩ x2).setCell ⟨r,3,none⟩ x3).setCell ⟨r,4,none⟩ x4).heap[g]?=w.heap[g]?:=by
 rw[Below.heap_setCell _ _ _ _ hn,Below.heap_setCell _ _ _ _ hn,Below.heap_setCell _ _ _ _ hn,Below.heap_setCell _ _ _ _ hn,Below.heap_setCell _ _ _ _ hn]
theorem own_ne {w:World}{B e z:Nat}{v:Value}{n:Nat}{xs:List Value}(h:w.ownsRow B e z v n xs){r t:Nat}{cs:Array Value}(hb:Blk w r cs t)(hne:e≠t):∀ g,v.ownBlock=some g->g≠r:=by
 intro g hg e1;obtain⟨cur,hc⟩:=own_cells h hg;unfold Blk at hb;rw[e1,hb]at hc;cases hc;exact hne rfl
theorem PlP.other {w w':World}{v:Value}{T N:List ByteArray}{P:List Lx.Pd}{Bs Ks:List Nat}(h:PlP w v T N P Bs Ks){r:Nat}{cs:Array Value}(hb:Blk w r cs 26)(hk:∀ g,g<w.heap.size->g≠r->w'.heap[g]?=w.heap[g]?):PlP w' v T N P Bs Ks:=by
 obtain⟨vT,vN,vP,vB,vK,rfl,h1,h2,⟨ps,p1,p2,p3,p4⟩,h4,h5⟩:=h;exact⟨vT,vN,vP,vB,vK,rfl,own_move h1 fun g hg=>hk g (h1.lt g hg).2 (own_ne h1 hb (by decide) g hg),own_move h2 fun g hg=>hk g (h2.lt g hg).2 (own_ne h2 hb (by decide) g hg),⟨ps,p1,own_move p2 fun g hg=>hk g (p2.lt g hg).2 (own_ne p2 hb (by decide) g hg),fun q hq=>⟨own_move (p3 q hq).1 fun g hg=>hk g ((p3 q hq).1.lt g hg).2 (own_ne (p3 q hq).1 hb (by decide) g hg),(p3 q hq).2⟩,p4⟩,own_move h4 fun g hg=>hk g (h4.lt g hg).2 (own_ne h4 hb (by decide) g hg),own_move h5 fun g hg=>hk g (h5.lt g hg).2 (own_ne h5 hb (by decide) g hg)⟩
theorem make_any (s:ByteArray)(w:World)(hmax:s.size<=maxLen)(ht:Tab w):Calls Tryz.prog 9 #[.string s] w (MakeEnds s w):=by
 obtain⟨W,hW⟩:∃ W,W=w.alloc (.cells #[.slice none 0 0,.slice none 0 0,.slice none 0 0,.slice none 0 0,.slice none 0 0] 26):=⟨_,rfl⟩;have hbW:Below w.heap.size w W:=by rw[hW];exact (Below.refl _ _).alloc (Nat.le_refl _) _
 have hsW:W.heap.size=w.heap.size+1:=by rw[hW];simp
 have kR:Blk W w.heap.size #[.slice none 0 0,.slice none 0 0,.slice none 0 0,.slice none 0 0,.slice none 0 0] 26:=by rw[hW];exact Blk.new w _ 26
 have q1:=Parse_any s W hmax;go_enter Tryz.func9,Tryz.ntmps9;go_wp2_with fail;rw[<-hW];clear hW;refine q1.mono ?_;rintro e w1 ⟨hb1,hm⟩;clear q1;have hbw1:Below w.heap.size w w1:=hbW.trans (hb1.mono (by omega));have kR1:Blk w1 w.heap.size _ 26:=(hb1.block _ (by omega)).trans kR;have hs1:=hb1.size;have lr1:w.heap.size<w1.heap.size:=kR1.lt;have r0:w1.cell? ⟨w.heap.size,0,none⟩=some (.slice none 0 0):=kR1.cell 0;have r1:w1.cell? ⟨w.heap.size,1,none⟩=some (.slice none 0 0):=kR1.cell 1;have r2:w1.cell? ⟨w.heap.size,2,none⟩=some (.slice none 0 0):=kR1.cell 2;have r3:w1.cell? ⟨w.heap.size,3,none⟩=some (.slice none 0 0):=kR1.cell 3;have r4:w1.cell? ⟨w.heap.size,4,none⟩=some (.slice none 0 0):=kR1.cell 4;have rf:∀ i,w1.frozen? ⟨w.heap.size,i,none⟩=false:=kR1.frozen;cases hp:Lx.parse s with
 | error x =>
  obtain⟨n,a⟩:=x;rw[hp]at hm;have he:e=.returned (.tuple #[.agg #[.slice none 0 0,.slice none 0 0],.int .i64 (n:Int),.int .i64 (a:Int)]):=hm;subst he;have HE:Hid (Lx.mkR s=.error (n,a)):=Lx.mkR_err hp;have hn0:0<n:=Lx.parse_pos hp;have hnb:((n:Int) != 0)=true:=bne_iff_ne.2 (by omega);have hnd:¬ (n:Int)=0:=by omega
  clear hm hp hn0;go_wp2_with fail;have kF:=(put5_blk (x0:=.slice none 0 0) (x1:=.slice none 0 0) (x2:=.slice none 0 0) (x3:=.slice none 0 0) (x4:=.slice none 0 0) kR1).alloc (.cells #[.slice none 0 0,.slice none 0 0] 65);have s0:=kF.cell 0;have s1:=kF.cell 1;have s2:=kF.cell 2;have s3:=kF.cell 3;have s4:=kF.cell 4;simp at s0 s1 s2 s3 s4;exact bodyPost_ret (v:=.tuple #[none5,.int .i64 (n:Int),.int .i64 (a:Int)]) (by simp[none5,results,Tryz.results9,go_sem,s0,s1,s2,s3,s4]) rfl (MakeEnds.no HE.out ((put5_below hbw1 (Nat.le_refl _) _ _ _ _ _).alloc (by simp;omega) _))
 | ok g =>
  rw[hp]at hm;obtain⟨vl,vr,rfl,hg⟩:=hm;obtain⟨la,lc,rfl,-⟩:=Seq.len hg.1;obtain⟨ra,rc,rfl,-⟩:=(PGr.len (F:=In W.heap.size w1.heap.size) (w:=w1) ⟨fun b hb=>hb.2,SeqS.weak hg.2 fun A v x hA hk=>AltsInS.weak hA hk⟩);have hss:=Lx.parse_size hp;obtain⟨W1,hW1⟩:∃ W1,W1=w1.alloc (.cells #[.slice la g.levels.length lc,.slice ra g.rules.length rc] 65):=⟨_,rfl⟩;have hbA:Below w1.heap.size w1 W1:=by rw[hW1];exact (Below.refl _ _).alloc (Nat.le_refl _) _
  have hsA:W1.heap.size=w1.heap.size+1:=by rw[hW1];simp
  have kB:Blk W1 w1.heap.size #[.slice la g.levels.length lc,.slice ra g.rules.length rc] 65:=by rw[hW1];exact Blk.new w1 _ 65
  have q2:=wordsOf_any s W1 hss;go_wp2_with fail;rw[<-hW1];clear hW1;refine q2.mono ?_;rintro e w2 ⟨vW,rfl,oW,hb2⟩;clear q2;rw[Lx.words_flat hp]at oW;have hWR:WR w2 vW (Lx.flatG g):=own_le oW (Nat.zero_le _);obtain⟨wa,wc,rfl,-⟩:=hWR.len;have hb12:Below w1.heap.size w1 w2:=hbA.trans (hb2.mono (by omega));have hs2:=hb2.size;have hgm:∀ {w':World},Below w1.heap.size w1 w'->GramIn (In W.heap.size w1.heap.size) w' (.slice la g.levels.length lc) (.slice ra g.rules.length rc) g:=fun hb=>hg.move (fun b hbb=>hb.block b hbb.2) (fun _ h=>h)
  have hpg:∀ {w':World},Below w1.heap.size w1 w'->PGr (In W.heap.size w1.heap.size) w' (.slice ra g.rules.length rc) g.rules:=fun hb=>⟨fun b hbb=>Nat.lt_of_lt_of_le hbb.2 hb.size,SeqS.weak (hgm hb).2 fun A v x hA hk=>AltsInS.weak hA hk⟩
  have q3:=firstFault_any hp (hpg hb12) hWR;have kB2:Blk w2 w1.heap.size #[.slice la g.levels.length lc,.slice ra g.rules.length rc] 65:=(hb2.block _ (by omega)).trans kB;have g1:w2.cell? ⟨w1.heap.size,1,none⟩=some (.slice ra g.rules.length rc):=kB2.cell 1;go_wp2_with fail;refine q3.mono ?_;rintro e w3 ⟨rfl,hb3⟩;clear q3 g1;have hs3:=hb3.size;have hb13:Below w1.heap.size w1 w3:=hb12.trans (hb3.mono hb12.size);have hbw3:Below w.heap.size w w3:=hbw1.trans (hb13.mono (by omega));have kR3:Blk w3 w.heap.size _ 26:=(hb13.block _ lr1).trans kR1;have kB3:Blk w3 w1.heap.size #[.slice la g.levels.length lc,.slice ra g.rules.length rc] 65:=(hb3.block _ (by omega)).trans kB2;clear r0 r1 r2 r3 r4 rf
  by_cases hc:(Lx.chk g).1=0
  ·have h6:=Lx.chk_zero hc
   obtain⟨h1,h2,h3⟩:=Lx.parse_is hp;obtain⟨h4,h5⟩:=Lx.parse_took hp;have hfit:Lx.Fit g:=by
    refine⟨h1,h2,h3,fun r hr=>?_,h4,h5,h6.2,h6.1⟩;obtain⟨i,hi,rfl⟩:=List.mem_iff_getElem.1 hr;obtain⟨_,_,_,-,-,hA,-⟩:=(hpg hb13).at hi;exact altsIn_dp hA
   have q4:=produce_any hp hfit (hgm hb13) (fun b hbb=>Nat.lt_of_lt_of_le hbb.2 hb13.size) (hWR.below hb3) (ht.move (hbw3.block _ ht.lt)) (Lx.flat_len hp hss);have hcb:(((Lx.chk g).1:Int) != 0)=false:=by simp[hc]
   have hcn:((Lx.chk g).1:Int)=0:=by omega
   have HC:Hid ((Lx.chk g).1=0):=hc;have HM:Hid (200<(Lx.prodG g).length->Lx.mkR s=.error (8,0)):=fun hm=>Lx.mkR_many hp hc hm
   have HO:Hid (¬ 200<(Lx.prodG g).length->Lx.mkR s=.ok g):=fun hm=>Lx.mkR_ok hp hc hm
   have g0:w3.cell? ⟨w1.heap.size,0,none⟩=some (.slice la g.levels.length lc):=kB3.cell 0;have g1:w3.cell? ⟨w1.heap.size,1,none⟩=some (.slice ra g.rules.length rc):=kB3.cell 1;clear hc h6 h1 h2 h3 h4 h5;generalize Lx.chk g=cr at hcb hcn HC;go_wp2_with fail;refine q4.mono ?_;rintro e w4 ⟨v,rfl,hPl,hb4⟩;clear q4 g0 g1;obtain⟨vT,vN,vP,vB,vK,rfl,oT,oN,hPP,oB,oK⟩:=id hPl;obtain⟨ps,p1,p2,-⟩:=id hPP;obtain⟨ta,tc,rfl,-⟩:=own_len oT;obtain⟨na,nc,rfl,-⟩:=own_len oN;obtain⟨pa,pc,rfl,hpm⟩:=own_len p2;obtain⟨ba,bc,rfl,-⟩:=own_len oB;obtain⟨ka,kc,rfl,-⟩:=own_len oK;clear oT oN oB oK p1 p2 hPP;generalize ((Lx.tokG g).map fun t=>(Lx.bkOf g t).1).length=nB at hPl;generalize ((Lx.tokG g).map fun t=>(Lx.bkOf g t).2).length=nK at hPl;have hbw4:Below w.heap.size w w4:=hbw3.trans (hb4.mono (by omega));have kR4:Blk w4 w.heap.size _ 26:=(hb4.block _ (by omega)).trans kR3;have lr4:=kR4.lt;have r0:w4.cell? ⟨w.heap.size,0,none⟩=some (.slice none 0 0):=kR4.cell 0;have r1:w4.cell? ⟨w.heap.size,1,none⟩=some (.slice none 0 0):=kR4.cell 1;have r2:w4.cell? ⟨w.heap.size,2,none⟩=some (.slice none 0 0):=kR4.cell 2;have r3:w4.cell? ⟨w.heap.size,3,none⟩=some (.slice none 0 0):=kR4.cell 3;have r4:w4.cell? ⟨w.heap.size,4,none⟩=some (.slice none 0 0):=kR4.cell 4;have rf:∀ i,w4.frozen? ⟨w.heap.size,i,none⟩=false:=kR4.frozen;unfold maxLen at hpm
   by_cases hmany:200<(Lx.prodG g).length
   ·have HE:Hid (Lx.mkR s=.error (8,0)):=HM.out hmany
    have hmi:(200:Int)<((Lx.prodG g).length:Int):=by omega
    clear HM HO hmany;go_wp2_with fail;have kF:=(put5_blk (x0:=.slice none 0 0) (x1:=.slice none 0 0) (x2:=.slice none 0 0) (x3:=.slice none 0 0) (x4:=.slice none 0 0) kR4).alloc (.cells #[.slice ta (Lx.tokG g).length tc,.slice na (Lx.namG g).length nc,.slice pa (Lx.prodG g).length pc,.slice ba nB bc,.slice ka nK kc] 26);have s0:=kF.cell 0;have s1:=kF.cell 1;have s2:=kF.cell 2;have s3:=kF.cell 3;have s4:=kF.cell 4;simp at s0 s1 s2 s3 s4;exact bodyPost_ret (v:=.tuple #[none5,.int .i64 ((8:Nat):Int),.int .i64 ((0:Nat):Int)]) (by simp[none5,results,Tryz.results9,go_sem,s0,s1,s2,s3,s4]) rfl (MakeEnds.no HE.out ((put5_below hbw4 (Nat.le_refl _) _ _ _ _ _).alloc (by simp;omega) _))
   ·have HE:Hid (Lx.mkR s=.ok g):=HO.out hmany
    have hmi:¬ (200:Int)<((Lx.prodG g).length:Int):=by omega
    clear HM HO hmany;go_wp2_with fail;have kF:=(put5_blk (x0:=.slice ta (Lx.tokG g).length tc) (x1:=.slice na (Lx.namG g).length nc) (x2:=.slice pa (Lx.prodG g).length pc) (x3:=.slice ba nB bc) (x4:=.slice ka nK kc) kR4).alloc (.cells #[.slice ta (Lx.tokG g).length tc,.slice na (Lx.namG g).length nc,.slice pa (Lx.prodG g).length pc,.slice ba nB bc,.slice ka nK kc] 26);have s0:=kF.cell 0;have s1:=kF.cell 1;have s2:=kF.cell 2;have s3:=kF.cell 3;have s4:=kF.cell 4;simp at s0 s1 s2 s3 s4;refine bodyPost_ret (v:=.tuple #[.agg #[.slice ta (Lx.tokG g).length tc,.slice na (Lx.namG g).length nc,.slice pa (Lx.prodG g).length pc,.slice ba nB bc,.slice ka nK kc],.int .i64 ((0:Nat):Int),.int .i64 ((0:Nat):Int)]) (by simp[results,Tryz.results9,go_sem,s0,s1,s2,s3,s4]) rfl ⟨_,0,0,rfl,(put5_below hbw4 (Nat.le_refl _) _ _ _ _ _).alloc (by simp;omega) _,?_,?_⟩
    ·intro g' hg'
     rw[HE.out]at hg';cases hg';refine⟨rfl,rfl,hPl.other kR4 fun x hx hn=>?_⟩;rw[Below.heap_alloc _ _ _ (by simp[World.setCell];exact hx)];exact put5_other w4 w.heap.size _ _ _ _ _ x hn
    ·intro x hx;rw[HE.out]at hx;cases hx
  ·have HE:Hid (Lx.mkR s=.error (Lx.chk g)):=Lx.mkR_chk hp hc
   have hcb:(((Lx.chk g).1:Int) != 0)=true:=bne_iff_ne.2 (by omega);have hcd:¬ ((Lx.chk g).1:Int)=0:=by omega
   clear hc;generalize Lx.chk g=cr at HE hcb hcd;have r0:w3.cell? ⟨w.heap.size,0,none⟩=some (.slice none 0 0):=kR3.cell 0;have r1:w3.cell? ⟨w.heap.size,1,none⟩=some (.slice none 0 0):=kR3.cell 1;have r2:w3.cell? ⟨w.heap.size,2,none⟩=some (.slice none 0 0):=kR3.cell 2;have r3:w3.cell? ⟨w.heap.size,3,none⟩=some (.slice none 0 0):=kR3.cell 3;have r4:w3.cell? ⟨w.heap.size,4,none⟩=some (.slice none 0 0):=kR3.cell 4;have rf:∀ i,w3.frozen? ⟨w.heap.size,i,none⟩=false:=kR3.frozen;go_wp2_with fail;have kF:=put5_blk (x0:=.slice none 0 0) (x1:=.slice none 0 0) (x2:=.slice none 0 0) (x3:=.slice none 0 0) (x4:=.slice none 0 0) kR3;have s0:=kF.cell 0;have s1:=kF.cell 1;have s2:=kF.cell 2;have s3:=kF.cell 3;have s4:=kF.cell 4;simp at s0 s1 s2 s3 s4;exact bodyPost_ret (v:=.tuple #[none5,.int .i64 (cr.1:Int),.int .i64 (cr.2:Int)]) (by simp[none5,results,Tryz.results9,go_sem,s0,s1,s2,s3,s4]) rfl (MakeEnds.no HE.out (put5_below hbw3 (Nat.le_refl _) _ _ _ _ _))
end
section
open Go.RowKit
open Tr
theorem Lx.mkR_pos {s:ByteArray}{x:Nat × Nat}(h:Lx.mkR s=.error x):x.1≠0:=by
 cases hp:Lx.parse s with
 | error y =>
  obtain⟨n,a⟩:=y;rw[Lx.mkR_err hp]at h;cases h;have:=Lx.parse_pos hp;show n≠0;omega
 | ok g =>
  by_cases hc:(Lx.chk g).1=0
  ·by_cases hm:200<(Lx.prodG g).length
   ·rw[Lx.mkR_many hp hc hm]at h;cases h;decide
   ·rw[Lx.mkR_ok hp hc hm]at h;cases h
  ·rw[Lx.mkR_chk hp hc]at h;cases h;exact hc
def SetOk (g:Lx.Gr):Prop:=Lx.PdOk ((Lx.tokG g).length+(Lx.namG g).length) (Lx.prodG g)/\(Lx.tokG g).length+(Lx.namG g).length<=100000/\∀ p∈Lx.prodG g,p.right.length<=100000
def SetsP (w w':World)(nT n:Nat)(P:List Lx.Pd)(e:Ending):Prop:=∃ gE E k vF B m,e=.returned (.tuple #[.slice (some ⟨gE,0,none⟩) n n,vF,.int .i64 0,.int .i64 0])/\Blk w' gE (boolsV E) 4/\w.heap.size<=gE/\E.length=n/\E=Lx.itr (Lx.passE P) k (List.replicate n false)/\Lx.passE P E=E/\B=Lx.itr (Lx.passF P E) m (Lx.alone nT n)/\Lx.passF P E B=B/\PtD w.heap.size w' vF (B.map Lx.membersL)
def SetsEnds (s:ByteArray)(w:World)(e:Ending)(w':World):Prop :=
 Below w.heap.size w w'/\(∀ x,Lx.mkR s=.error x->e=.returned (.tuple #[.slice none 0 0,.slice none 0 0,.int .i64 (x.1:Int),.int .i64 (x.2:Int)]))/\(∀ g,Lx.mkR s=.ok g->SetsP w w' (Lx.tokG g).length ((Lx.tokG g).length+(Lx.namG g).length) (Lx.prodG g) e)
theorem blk5 (w:World)(x0 x1 x2 x3 x4:Value):Blk (w.alloc (.cells #[x0,x1,x2,x3,x4] 26)) w.heap.size #[x0,x1,x2,x3,x4] 26:=Blk.new w _ 26
theorem sets_any (s:ByteArray)(w:World)(hmax:s.size<=maxLen)(ht:Tab w)(hok:∀ g,Lx.mkR s=.ok g->SetOk g):Calls Tryz.prog 14 #[.string s] w (SetsEnds s w):=by
 have q1:=make_any s w hmax ht;go_enter Tryz.func14,Tryz.ntmps14;go_wp2_with fail;refine q1.mono ?_;rintro e w1 ⟨v,n,a,rfl,hb1,hok1,her1⟩;clear q1;cases hr:Lx.mkR s with
 | error x =>
  obtain⟨rfl,rfl,rfl⟩:=her1 x hr;have hp:=Lx.mkR_pos hr;have HR:Hid (Lx.mkR s=.error x):=hr;have hnb:((x.1:Int) != 0)=true:=bne_iff_ne.2 (by omega);have hnd:¬ (x.1:Int)=0:=by omega
  clear hr her1 hok1 hok hp;unfold none5;go_wp2_with fail;refine bodyPost_ret (v:=.tuple #[.slice none 0 0,.slice none 0 0,.int .i64 (x.1:Int),.int .i64 (x.2:Int)]) (by simp[results,Tryz.results14,go_sem]) rfl ?_;refine⟨hb1.alloc hb1.size _,fun y hy=>?_,fun g hg=>?_⟩
  ·rw[HR.out]at hy;cases hy;rfl
  ·rw[HR.out]at hg;cases hg
 | ok g =>
  obtain⟨rfl,rfl,hP⟩:=hok1 g hr;obtain⟨o1,o2,o3⟩:=hok g hr;obtain⟨vT,vN,vP,vB,vK,rfl,hT,hN,hPP,hB,hK⟩:=hP;obtain⟨ta,tc,rfl,-⟩:=own_len hT;obtain⟨na,nc,rfl,-⟩:=own_len hN;obtain⟨ps,p1,p2,-⟩:=id hPP;obtain⟨pa,pc,rfl,-⟩:=own_len p2;obtain⟨ba,bc,rfl,-⟩:=own_len hB;obtain⟨ka,kc,rfl,-⟩:=own_len hK;have HR:Hid (Lx.mkR s=.ok g):=hr;clear hr her1 hok1 hok hT hN hB hK p1 p2;generalize hNT:(Lx.tokG g).length=nT at *;generalize hNN:(Lx.namG g).length=nN at *;have HNT:Hid _:=hNT;have HNN:Hid _:=hNN;clear hNT hNN;generalize ((Lx.tokG g).map fun t=>(Lx.bkOf g t).1).length=nB at *;generalize ((Lx.tokG g).map fun t=>(Lx.bkOf g t).2).length=nK at *;obtain⟨W,hW⟩:∃ W,W=w1.alloc (.cells #[.slice ta nT tc,.slice na nN nc,.slice pa (Lx.prodG g).length pc,.slice ba nB bc,.slice ka nK kc] 26):=⟨_,rfl⟩;have kW:Blk W w1.heap.size #[.slice ta nT tc,.slice na nN nc,.slice pa (Lx.prodG g).length pc,.slice ba nB bc,.slice ka nK kc] 26:=by rw[hW];exact blk5 _ _ _ _ _ _
  have hbW:Below w1.heap.size w1 W:=by rw[hW];exact (Below.refl _ _).alloc (Nat.le_refl _) _
  have hin:SetIn W ta nT tc na nN nc (.slice pa (Lx.prodG g).length pc) (Lx.prodG g):=⟨hPP.below hbW,o1,o2⟩;have q2:=canBeEmpty_any (ba:=ba) (ka:=ka) (nb:=nB) (bc:=bc) (nk:=nK) (kc:=kc) hin;have c0:W.cell? ⟨w1.heap.size,0,none⟩=some (.slice ta nT tc):=kW.cell 0;have c1:W.cell? ⟨w1.heap.size,1,none⟩=some (.slice na nN nc):=kW.cell 1;have c2:W.cell? ⟨w1.heap.size,2,none⟩=some (.slice pa (Lx.prodG g).length pc):=kW.cell 2;have c3:W.cell? ⟨w1.heap.size,3,none⟩=some (.slice ba nB bc):=kW.cell 3;have c4:W.cell? ⟨w1.heap.size,4,none⟩=some (.slice ka nK kc):=kW.cell 4;go_wp2_with fail;rw[<-hW];clear hW;go_wp2_with fail;refine q2.mono ?_;rintro e w2 ⟨gE,E,k,rfl,hgE,kE,hEl,hE,hEs,hb2⟩;clear q2 c0 c1 c2 c3 c4;have kW2:Blk w2 w1.heap.size _ 26:=(hb2.block _ kW.lt).trans kW;have c0:w2.cell? ⟨w1.heap.size,0,none⟩=some (.slice ta nT tc):=kW2.cell 0;have c1:w2.cell? ⟨w1.heap.size,1,none⟩=some (.slice na nN nc):=kW2.cell 1;have c2:w2.cell? ⟨w1.heap.size,2,none⟩=some (.slice pa (Lx.prodG g).length pc):=kW2.cell 2;have c3:w2.cell? ⟨w1.heap.size,3,none⟩=some (.slice ba nB bc):=kW2.cell 3;have c4:w2.cell? ⟨w1.heap.size,4,none⟩=some (.slice ka nK kc):=kW2.cell 4;have q3:=firstTokens_any (ba:=ba) (ka:=ka) (nb:=nB) (bc:=bc) (nk:=nK) (kc:=kc) (hin.below hb2) kE hEl o3;have HE:Hid _:=hE;have HES:Hid _:=hEs;have HEL:Hid _:=hEl;clear hE hEs hEl hin o1 o3 hPP;go_wp2_with fail;refine q3.mono ?_;rintro e w3 ⟨vF,B,m,rfl,hB,hBs,hpt,hb3⟩;clear q3;have hs1:=hb1.size;have hsW:=hbW.size;have hs2:=hb2.size;have hpt':PtD w.heap.size w3 vF (B.map Lx.membersL):=by
   obtain⟨qs,⟨r1,r2,r3,r4⟩,r5⟩:=hpt;exact⟨qs,⟨r1,own_le r2 (by omega),fun q hq=>own_le (r3 q hq) (by omega),r4⟩,r5⟩
  obtain⟨fa,fc,rfl⟩:∃ fa fc,vF=.slice fa (B.map Lx.membersL).length fc:=by
   obtain⟨qs,⟨r1,r2,-⟩,-⟩:=hpt;obtain⟨fa,fc,e,-⟩:=own_len r2;exact⟨fa,fc,e⟩
  have HB:Hid _:=hB;have HBS:Hid _:=hBs;clear hB hBs;go_wp2_with fail;refine bodyPost_ret (v:=.tuple #[.slice (some ⟨gE,0,none⟩) (nT+nN) (nT+nN),.slice fa (B.map Lx.membersL).length fc,.int .i64 0,.int .i64 0]) (by simp[results,Tryz.results14,go_sem]) rfl ?_;refine⟨hb1.trans ((hbW.trans ((hb2.mono hsW).trans (hb3.mono (by omega)))).mono (by omega)),fun y hy=>?_,fun g' hg=>?_⟩
  ·rw[HR.out]at hy;cases hy
  ·rw[HR.out]at hg
   cases hg;rw[HNT.out,HNN.out];exact⟨gE,E,k,_,B,m,rfl,(hb3.block _ kE.lt).trans kE,by omega,HEL.out,HE.out,HES.out,HB.out,HBS.out,hpt'⟩
end
section
open Go.RowKit
open Tr
namespace Lx
theorem fix_lt {l:List ByteArray}{b:ByteArray}(h:0<=fnd l b):fix l b<l.length:=(fnd_fix h).2
theorem namG_len (g:Gr):(namG g).length=1+(g.rules.flatMap namesR).length:=by unfold namG;rw[List.length_cons];omega
theorem psym_lt {T N:List ByteArray}{x:It}(h:Plain1 T N x):psym T N x<T.length+N.length:=by
 unfold Plain1 at h;unfold psym
 split
 ·rename_i hk;rw[if_pos hk]at h;have:=fix_lt h;omega
 ·rename_i hk;rw[if_neg hk]at h;have:=fix_lt h;omega
theorem symOf_lt {T N:List ByteArray}{b:Nat}{H:List It}{x:It}(h:SymOk T N H x)(hb:b+1+H.length<=T.length+N.length):symOf T N b H x<T.length+N.length:=by
 unfold SymOk at h;unfold symOf
 split
 ·rename_i hk;rw[if_pos hk]at h;omega
 ·rename_i hk;rw[if_neg hk]at h;exact psym_lt h
theorem rightOf_lt {T N:List ByteArray}{b:Nat}{H:List It}{its:List It}(h:∀ x∈its,SymOk T N H x)(hb:b+1+H.length<=T.length+N.length):∀ s∈rightOf T N b H its,s<T.length+N.length:=by
 intro s hs;obtain⟨x,hx,rfl⟩:=List.mem_map.1 hs;exact symOf_lt (h x hx) hb
theorem helpPd_ok {n s m M L:Nat}{ps:List (List Nat)}(hs:s<M)(h:∀ r∈ps,r.length<=L/\∀ x∈r,x<M):∀ p∈helpPd n s m ps,p.left=s/\p.right.length<=L+1/\∀ x∈p.right,x<M:=by
 intro p hp;unfold helpPd at hp;rcases List.mem_append.1 hp with hp | hp
 ·split at hp
  ·rw[List.mem_singleton.1 hp];exact⟨rfl,Nat.zero_le _,fun x hx=>by cases hx⟩
  ·cases hp
 ·rcases List.mem_append.1 hp with hp | hp
  ·split at hp
   ·cases hp
   ·obtain⟨r,hr,rfl⟩:=List.mem_map.1 hp
    exact⟨rfl,Nat.le_succ_of_le (h r hr).1,(h r hr).2⟩
  ·split at hp
   ·obtain⟨r,hr,rfl⟩:=List.mem_map.1 hp
    refine⟨rfl,Nat.succ_le_succ (h r hr).1,fun x hx=>?_⟩;rcases List.mem_cons.1 hx with rfl | hx
    ·exact hs
    ·exact (h r hr).2 x hx
   ·cases hp
theorem helpsPd_ok {T N:List ByteArray} {b M L:Nat} {H:List It}:∀ (l:List It) (k:Nat),b+1+k+l.length<=M->(∀ x∈l,∀ r∈partsOf T N b H x,r.length<=L/\∀ s∈r,s<M)->∀ p∈helpsPd T N b H k l,(b+1+k<=p.left/\p.left<b+1+k+l.length)/\p.right.length<=L+1/\∀ x∈p.right,x<M
 | [],_,_,_,p,hp=>by cases hp
 | x::l,k,hb,h,p,hp=>by
  rw[List.length_cons]at hb ⊢;rcases List.mem_append.1 hp with hp | hp
  ·obtain⟨h1,h2⟩:=helpPd_ok (s:=b+1+k) (by omega) (h x List.mem_cons_self) p hp
   exact⟨by omega,h2⟩
  ·obtain⟨h1,h2⟩:=helpsPd_ok l (k+1) (by omega) (fun y hy=>h y (List.mem_cons_of_mem _ hy)) p hp
   exact⟨by omega,h2⟩
theorem mem_hlpA {d:Nat}{l:List Alt}{x:It}(h:x∈hlpA d l):x∈itsA d l:=(List.mem_filter.1 h).1
theorem partsOf_ok {g:Gr}(hf:Fit g){r:Rl}(hr:r∈g.rules){b:Nat}(hb:b+1+(hlpA 9 r.alts).length<=(tokG g).length+(namG g).length){x:It}(hx:x∈itsA 9 r.alts):∀ q∈partsOf (tokG g) (namG g) b (hlpA 9 r.alts) x,q.length<=2001/\∀ s∈q,s<(tokG g).length+(namG g).length:=by
 intro q hq;unfold partsOf at hq
 split at hq
 ·obtain⟨a,ha,rfl⟩:=List.mem_map.1 hq
  refine⟨by unfold rightOf;rw[List.length_map];exact (hf.its hr hx).2 a ha,rightOf_lt (fun y hy=>hf.sym hr (its_sub (hf.dp r hr) hx ha hy)) hb⟩
 ·rename_i hk
  rw[List.mem_singleton.1 hq];refine⟨by simp,fun s hs=>?_⟩;rw[List.mem_singleton.1 hs];exact psym_lt (hf.plain hr hx hk)
theorem alts_its {l:List Alt}{a:Alt}(ha:a∈l){x:It}(hx:x∈a.1)(d:Nat):x∈itsA (d+1) l:=mem_itsA.2 ⟨a,ha,x,hx,.inl rfl⟩
theorem rulePd_ok {g:Gr}(hf:Fit g){r:Rl}(hr:r∈g.rules){b:Nat}(hb:b+1+(hlpA 9 r.alts).length<=(tokG g).length+(namG g).length):∀ p∈rulePd (tokG g) (namG g) b r,(b<=p.left/\p.left<b+1+(hlpA 9 r.alts).length)/\p.right.length<=2002/\∀ s∈p.right,s<(tokG g).length+(namG g).length:=by
 intro p hp;unfold rulePd at hp;rcases List.mem_append.1 hp with hp | hp
 ·obtain⟨a,ha,rfl⟩:=List.mem_map.1 hp
  refine⟨⟨Nat.le_refl _,by show b<_;omega⟩,?_,rightOf_lt (fun y hy=>hf.sym hr (alts_its ha hy 8)) hb⟩;show (rightOf _ _ _ _ _).length<=_;unfold rightOf;rw[List.length_map];have:=(hf.alts hr).2 a ha;omega
 ·obtain⟨h1,h2⟩:=helpsPd_ok (M:=(tokG g).length+(namG g).length) (L:=2001) _ 0 (by omega) (fun x hx=>partsOf_ok hf hr hb (mem_hlpA hx)) p hp
  exact⟨by omega,h2⟩
theorem rulesPd_ok {g:Gr} (hf:Fit g):∀ (rs:List Rl) (b:Nat),(∀ r∈rs,r∈g.rules)->b+(rs.flatMap namesR).length<=(tokG g).length+(namG g).length->∀ p∈rulesPd (tokG g) (namG g) b rs,(b<=p.left/\p.left<b+(rs.flatMap namesR).length)/\p.right.length<=2002/\∀ s∈p.right,s<(tokG g).length+(namG g).length
 | [],_,_,_,p,hp=>by cases hp
 | r::rs,b,hin,hb,p,hp=>by
  have hl:=namesR_len r;rw[List.flatMap_cons,List.length_append]at hb ⊢;rcases List.mem_append.1 hp with hp | hp
  ·obtain⟨h1,h2⟩:=rulePd_ok hf (hin r List.mem_cons_self) (b:=b) (by omega) p hp
   exact⟨by omega,h2⟩
  ·obtain⟨h1,h2⟩:=rulesPd_ok hf rs (b+1+(hlpA 9 r.alts).length) (fun q hq=>hin q (List.mem_cons_of_mem _ hq)) (by omega) p hp
   exact⟨by omega,h2⟩
theorem names_pos {g:Gr}(hf:Fit g):1<=(g.rules.flatMap namesR).length:=by
 have:=hf.ne;cases hr:g.rules with
 | nil=>rw[hr]at this;simp at this
 | cons r rs =>
  rw[List.flatMap_cons,List.length_append];have:=namesR_len r;omega
theorem prodG_ok {g:Gr}(hf:Fit g):∀ p∈prodG g,((tokG g).length<=p.left/\p.left<(tokG g).length+(namG g).length)/\p.right.length<=2002/\∀ s∈p.right,s<(tokG g).length+(namG g).length:=by
 intro p hp;have h1:=namG_len g;have h2:=names_pos hf;unfold prodG at hp;rcases List.mem_cons.1 hp with rfl | hp
 ·refine⟨⟨Nat.le_refl _,by show (tokG g).length<_;omega⟩,by simp,fun s hs=>?_⟩
  rw[List.mem_singleton.1 hs];omega
 ·obtain⟨h3,h4⟩:=rulesPd_ok hf g.rules _ (fun r hr=>hr) (by omega) p hp
  exact⟨by omega,h4⟩
end Lx
theorem setOk_of {g:Lx.Gr}(hf:Lx.Fit g):SetOk g:=by
 have h:=Lx.prodG_ok hf;exact⟨fun p hp=>⟨(h p hp).1.2,(h p hp).2.2⟩,by have:=hf.tokL;have:=hf.namL;omega,fun p hp=>by have:=(h p hp).2.1;omega⟩
end
section
open Go Go.RowKit
namespace Lx
theorem All2.imp {α β:Type} {R S:α->β->Prop}:∀ {l:List α} {m:List β},(∀ a b,a∈l->b∈m->R a b->S a b)->All2 R l m->All2 S l m
 | [],[],_,_=>trivial
 | _::_,_::_,f,h=>⟨f _ _ List.mem_cons_self List.mem_cons_self h.1,All2.imp (fun a b ha hb=>f a b (List.mem_cons_of_mem _ ha) (List.mem_cons_of_mem _ hb)) h.2⟩
 | [],_::_,_,h=>h.elim
 | _::_,[],_,h=>h.elim
theorem All2.app {α β:Type} {R:α->β->Prop}:∀ {l l':List α} {m m':List β},All2 R l m->All2 R l' m'->All2 R (l++l') (m++m')
 | [],_,[],_,_,k=>k
 | _::_,_,_::_,_,h,k=>⟨h.1,All2.app h.2 k⟩
 | [],_,_::_,_,h,_=>h.elim
 | _::_,_,[],_,h,_=>h.elim
theorem All2.flat {α β γ δ:Type} {R:α->β->Prop} {S:γ->δ->Prop} {f:α->List γ} {g:β->List δ}:∀ {l:List α} {m:List β},All2 R l m->(∀ a b,R a b->All2 S (f a) (g b))->All2 S (l.flatMap f) (m.flatMap g)
 | [],[],_,_=>trivial
 | a::l,b::m,h,k=>by rw[List.flatMap_cons,List.flatMap_cons];exact All2.app (k a b h.1) (All2.flat h.2 k)
 | [],_::_,h,_=>h.elim
 | _::_,[],h,_=>h.elim
theorem All2.filt {α β:Type} {R:α->β->Prop} {p:α->Bool} {q:β->Bool} (hp:∀ a b,R a b->p a=q b):∀ {l:List α} {m:List β},All2 R l m->All2 R (l.filter p) (m.filter q)
 | [],[],_=>trivial
 | a::l,b::m,h=>by
  rw[List.filter_cons,List.filter_cons,hp a b h.1]
  split
  ·exact⟨h.1,All2.filt hp h.2⟩
  ·exact All2.filt hp h.2
 | [],_::_,h=>h.elim
 | _::_,[],h=>h.elim
theorem All2.map_eq {α β γ:Type} {R:α->β->Prop} {f:α->γ} {g:β->γ} (h:∀ a b,R a b->g b=f a):∀ {l:List α} {m:List β},All2 R l m->m.map g=l.map f
 | [],[],_=>rfl
 | a::l,b::m,k=>by rw[List.map_cons,List.map_cons,h a b k.1,All2.map_eq h k.2]
 | [],_::_,k=>k.elim
 | _::_,[],k=>k.elim
theorem All2.any_eq {α β:Type} {R:α->β->Prop} {f:α->Bool} {g:β->Bool} (h:∀ a b,R a b->g b=f a):∀ {l:List α} {m:List β},All2 R l m->m.any g=l.any f
 | [],[],_=>rfl
 | a::l,b::m,k=>by rw[List.any_cons,List.any_cons,h a b k.1,All2.any_eq h k.2]
 | [],_::_,k=>k.elim
 | _::_,[],k=>k.elim
theorem All2.all_eq {α β:Type} {R:α->β->Prop} {f:α->Bool} {g:β->Bool} (h:∀ a b,R a b->g b=f a):∀ {l:List α} {m:List β},All2 R l m->m.all g=l.all f
 | [],[],_=>rfl
 | a::l,b::m,k=>by rw[List.all_cons,List.all_cons,h a b k.1,All2.all_eq h k.2]
 | [],_::_,k=>k.elim
 | _::_,[],k=>k.elim
def AltsC (φ:ByteArray->ByteArray) (C:It->It->Prop):Nat->List Alt->List Alt->Prop
 | 0,l,m=>l=[]/\m=[]
 | d+1,l,m=>All2 (fun a b=>All2 (fun x y=>(x.kind=y.kind/\y.name=φ x.name/\x.mark=y.mark)/\C x y/\AltsC φ C d x.alts y.alts) a.1 b.1/\b.2.1=φ a.2.1) l m
def RnI (φ:ByteArray->ByteArray)(x y:It):Prop:=x.kind=y.kind/\y.name=φ x.name/\x.mark=y.mark
theorem RnI.hlp {φ:ByteArray->ByteArray}{x y:It}(h:RnI φ x y):hlp x=hlp y:=by unfold Lx.hlp;rw[h.1,h.2.2]
theorem AltsC.succ {φ:ByteArray->ByteArray}{C:It->It->Prop}{d:Nat}{l m:List Alt}:AltsC φ C (d+1) l m↔All2 (fun a b=>All2 (fun x y=>RnI φ x y/\C x y/\AltsC φ C d x.alts y.alts) a.1 b.1/\b.2.1=φ a.2.1) l m:=Iff.rfl
def TrC:It->It->Prop:=fun _ _=>True
theorem AltsC.its {φ:ByteArray->ByteArray} {C:It->It->Prop}:∀ {d:Nat} {l m:List Alt},AltsC φ C d l m->All2 (fun x y=>RnI φ x y/\C x y/\∃ d',AltsC φ C d' x.alts y.alts) (itsA d l) (itsA d m)
 | 0,_,_,_=>trivial
 | d+1,l,m,h=>by
  rw[itsA_succ,itsA_succ];refine All2.flat h fun a b hab=>?_
  unfold itsL;refine All2.flat hab.1 fun x y hxy=>?_
  exact⟨⟨hxy.1,hxy.2.1,d,hxy.2.2⟩,AltsC.its hxy.2.2⟩
def Cor (I J:List It)(x y:It):Prop:=∃ i:Nat,I[i]?=some x/\J[i]?=some y
theorem Cor.left {I J:List It}{x y:It}(h:Cor I J x y)(I' J':List It):Cor (I++I') (J++J') x y:=by
 obtain⟨i,h1,h2⟩:=h;have l1:=(List.getElem?_eq_some_iff.1 h1).1;have l2:=(List.getElem?_eq_some_iff.1 h2).1;exact⟨i,by rw[List.getElem?_append_left l1];exact h1,by rw[List.getElem?_append_left l2];exact h2⟩
theorem Cor.right {I J:List It}{x y:It}(h:Cor I J x y){I' J':List It}(hl:I'.length=J'.length):Cor (I'++I) (J'++J) x y:=by
 obtain⟨i,h1,h2⟩:=h;refine⟨I'.length+i,?_,?_⟩
 ·rw[List.getElem?_append_right (by omega),Nat.add_sub_cancel_left];exact h1
 ·rw[hl,List.getElem?_append_right (by omega),Nat.add_sub_cancel_left];exact h2
theorem cor_flat {α:Type} {R:α->α->Prop} {f:α->List It} (hl:∀ a b,R a b->(f a).length=(f b).length):∀ {l m:List α},All2 R l m->All2 (fun a b=>R a b/\∀ x y,Cor (f a) (f b) x y->Cor (l.flatMap f) (m.flatMap f) x y) l m
 | [],[],_=>trivial
 | a::l,b::m,h=>by
  refine⟨⟨h.1,fun x y hc=>?_⟩,?_⟩
  ·rw[List.flatMap_cons,List.flatMap_cons];exact hc.left _ _
  ·refine All2.imp (fun u v _ _ hu=>⟨hu.1,fun x y hc=>?_⟩) (cor_flat hl h.2)
   rw[List.flatMap_cons,List.flatMap_cons];exact (hu.2 x y hc).right (hl a b h.1)
 | [],_::_,h=>h.elim
 | _::_,[],h=>h.elim
theorem AltsC.len {φ:ByteArray->ByteArray}{C:It->It->Prop}{d:Nat}{l m:List Alt}(h:AltsC φ C d l m):(itsA d l).length=(itsA d m).length:=h.its.len
theorem AltsC.cor {φ:ByteArray->ByteArray} {C:It->It->Prop}:∀ {d:Nat} {l m:List Alt},AltsC φ TrC d l m->(∀ x y,Cor (itsA d l) (itsA d m) x y->C x y)->AltsC φ C d l m
 | 0,_,_,h,_=>h
 | d+1,l,m,h,hC=>by
  rw[itsA_succ,itsA_succ]at hC;have hI:∀ x y:It,(RnI φ x y/\TrC x y/\AltsC φ TrC d x.alts y.alts)->(itsI d x).length=(itsI d y).length:=fun x y hxy=>by
   unfold itsI;rw[List.length_cons,List.length_cons,hxy.2.2.len]
  have hA:∀ a b:Alt,(All2 (fun x y=>RnI φ x y/\TrC x y/\AltsC φ TrC d x.alts y.alts) a.1 b.1/\b.2.1=φ a.2.1)->(itsL d a.1).length=(itsL d b.1).length:=fun a b hab=>by
   unfold itsL;rw[List.length_flatMap,List.length_flatMap];exact congrArg List.sum (All2.map_eq (fun x y hxy=>(hI x y hxy).symm) hab.1).symm
  have h1:=cor_flat (f:=fun a:Alt=>itsL d a.1) hA h;refine All2.imp (fun a b _ _ hab=>?_) h1;obtain⟨⟨hab1,hab2⟩,hab3⟩:=hab;refine⟨?_,hab2⟩;have h2:=cor_flat (f:=itsI d) hI hab1;refine All2.imp (fun x y _ _ hxy=>?_) h2;obtain⟨⟨hx1,-,hx3⟩,hx4⟩:=hxy;have hup:∀ u v,Cor (itsI d x) (itsI d y) u v->C u v:=fun u v hc=>hC u v (hab3 u v (hx4 u v hc))
  refine⟨hx1,hup x y ⟨0,rfl,rfl⟩,AltsC.cor hx3 fun u v hc=>hup u v ?_⟩;obtain⟨i,c1,c2⟩:=hc;exact⟨i+1,by unfold itsI;rw[List.getElem?_cons_succ];exact c1,by unfold itsI;rw[List.getElem?_cons_succ];exact c2⟩
theorem fixP_cor {φ:ByteArray->ByteArray}:∀ {I J:List It} {x y:It},All2 (RnI φ) I J->(I.map It.place).Pairwise (·< ·)->(J.map It.place).Pairwise (·< ·)->Cor I J x y->hlp x=true->fixP (J.filter hlp) y.place=fixP (I.filter hlp) x.place
 | [],[],x,y,_,_,_,h,_=>by obtain⟨i,h1,-⟩:=h;cases h1
 | a::I,b::J,x,y,h,hI,hJ,hc,hx=>by
  rw[List.map_cons,List.pairwise_cons]at hI hJ;obtain⟨i,h1,h2⟩:=hc;cases i with
  | zero =>
   cases h1;cases h2;have hy:hlp b=true:=by rw[<-h.1.hlp];exact hx
   rw[List.filter_cons,if_pos hy,List.filter_cons,if_pos hx];unfold fixP;rw[List.findIdx_cons,List.findIdx_cons];simp
  | succ i =>
   rw[List.getElem?_cons_succ]at h1 h2;have hxm:x∈I:=List.mem_of_getElem? h1;have hym:y∈J:=List.mem_of_getElem? h2;have nx:a.place≠x.place:=Nat.ne_of_lt (hI.1 _ (List.mem_map_of_mem hxm));have ny:b.place≠y.place:=Nat.ne_of_lt (hJ.1 _ (List.mem_map_of_mem hym));have ih:=fixP_cor h.2 hI.2 hJ.2 ⟨i,h1,h2⟩ hx;rw[List.filter_cons,List.filter_cons,<-h.1.hlp]
   split
   ·unfold fixP at ih ⊢
    rw[List.findIdx_cons,List.findIdx_cons,ih];simp[nx,ny]
   ·exact ih
 | [],_::_,_,_,h,_,_,_,_=>h.elim
 | _::_,[],_,_,h,_,_,_,_=>h.elim
theorem findIdx_map {φ:ByteArray->ByteArray} (hi:∀ a b,φ a=φ b->a=b) (b:ByteArray):∀ l:List ByteArray,(l.map φ).findIdx (fun x=>decide (x=φ b))=l.findIdx fun x=>decide (x=b)
 | []=>rfl
 | a::l=>by
  rw[List.map_cons,List.findIdx_cons,List.findIdx_cons,findIdx_map hi b l];have:decide (φ a=φ b)=decide (a=b):=by
   by_cases e:a=b
   ·subst e;simp
   ·simp[e];exact fun h=>e (hi _ _ h)
  rw[this]
theorem fix_map {φ:ByteArray->ByteArray}(hi:∀ a b,φ a=φ b->a=b)(l:List ByteArray)(b:ByteArray):fix (l.map φ) (φ b)=fix l b:=findIdx_map hi b l
theorem fnd_map {φ:ByteArray->ByteArray}(hi:∀ a b,φ a=φ b->a=b)(l:List ByteArray)(b:ByteArray):fnd (l.map φ) (φ b)=fnd l b:=by
 unfold fnd;rw[fix_map hi,List.length_map]
theorem memB_map {φ:ByteArray->ByteArray}(hi:∀ a b,φ a=φ b->a=b)(b:ByteArray):∀ l:List ByteArray,memB (φ b) (l.map φ)=memB b l:=by
 intro l;rw[Bool.eq_iff_iff,memB_iff,memB_iff,List.mem_map];exact⟨fun ⟨x,hx,e⟩=>hi _ _ e ▸ hx,fun h=>⟨b,h,rfl⟩⟩
theorem addToks_map {φ:ByteArray->ByteArray} (hi:∀ a b,φ a=φ b->a=b):∀ (bs l:List ByteArray),addToks (l.map φ) (bs.map φ)=(addToks l bs).map φ
 | [],_=>rfl
 | b::bs,l=>by
  show addToks (addTok (l.map φ) (φ b)) (bs.map φ)=(addToks (addTok l b) bs).map φ;have:addTok (l.map φ) (φ b)=(addTok l b).map φ:=by
   unfold addTok;rw[fnd_map hi]
   split
   ·rfl
   ·rw[List.map_append];rfl
  rw[this,addToks_map hi bs]
def RlRn (φ:ByteArray->ByteArray)(r s:Rl):Prop:=s.name=φ r.name/\AltsC φ TrC 9 r.alts s.alts
def LvRn (φ:ByteArray->ByteArray)(l m:Lv):Prop:=l.kind=m.kind/\m.tokens.map Prod.fst=(l.tokens.map Prod.fst).map φ
def GrRn (φ:ByteArray->ByteArray)(g h:Gr):Prop:=All2 (LvRn φ) g.levels h.levels/\All2 (RlRn φ) g.rules h.rules
structure Ren (φ:ByteArray->ByteArray):Prop where
 inj:∀ a b,φ a=φ b->a=b
 none:φ noText=noText
 dollar:φ tDollar=tDollar
 start:φ tStart=tStart
 tick:∀ b k,isName b=true->φ (hName b k)=hName (φ b) k
section
variable {φ:ByteArray -> ByteArray} {g h:Gr}
theorem GrRn.names (e:GrRn φ g h):ruleNames h=(ruleNames g).map φ:=by
 unfold ruleNames;rw[List.map_map];exact All2.map_eq (fun r s hrs=>hrs.1) e.2
theorem lvToks_eq (g:Gr):levelToks g=g.levels.flatMap fun lv=>lv.tokens.map Prod.fst:=by
 unfold levelToks textsOf levelWords;rw[List.map_flatMap];congr 1;funext lv;rw[List.map_map];rfl
theorem flat_map_eq {α:Type} {R:α->α->Prop} {f:α->List ByteArray} (hf:∀ a b,R a b->f b=(f a).map φ):∀ {l m:List α},All2 R l m->m.flatMap f=(l.flatMap f).map φ
 | [],[],_=>rfl
 | a::l,b::m,k=>by rw[List.flatMap_cons,List.flatMap_cons,List.map_append,hf a b k.1,flat_map_eq hf k.2]
 | [],_::_,k=>k.elim
 | _::_,[],k=>k.elim
theorem GrRn.ltoks (e:GrRn φ g h):levelToks h=(levelToks g).map φ:=by
 rw[lvToks_eq,lvToks_eq];exact flat_map_eq (fun a b hab=>hab.2) e.1
theorem AltsC.toks {C:It->It->Prop}{d:Nat}{l m:List Alt}(e:AltsC φ C d l m):toksA d m=(toksA d l).map φ:=by
 unfold toksA;rw[List.map_map];have h1:All2 (RnI φ) ((itsA d l).filter fun x=>decide (x.kind=1)) ((itsA d m).filter fun x=>decide (x.kind=1)):=All2.filt (fun a b hab=>by rw[hab.1]) (All2.imp (fun _ _ _ _ h=>h.1) e.its);exact All2.map_eq (fun x y hxy=>hxy.2.1) h1
theorem AltsC.hlpL {C:It->It->Prop}{d:Nat}{l m:List Alt}(e:AltsC φ C d l m):(hlpA d m).length=(hlpA d l).length:=by
 unfold hlpA;exact (All2.len (All2.filt (fun a b hab=>RnI.hlp hab) (All2.imp (fun _ _ _ _ h=>h.1) e.its))).symm
theorem GrRn.tok (hφ:Ren φ)(e:GrRn φ g h):tokG h=(tokG g).map φ:=by
 unfold tokG;have h1:(h.rules.flatMap fun r=>toksA 9 r.alts)=(g.rules.flatMap fun r=>toksA 9 r.alts).map φ:=flat_map_eq (fun a b hab=>hab.2.toks) e.2;rw[e.ltoks,h1,<-List.map_append,<-addToks_map hφ.inj];rw[List.map_singleton,hφ.dollar]
theorem namesR_rn (hφ:Ren φ){r s:Rl}(e:RlRn φ r s)(hn:isName r.name=true):namesR s=(namesR r).map φ:=by
 unfold namesR;rw[List.map_cons,e.1,e.2.hlpL,List.map_map];congr 1;apply List.map_congr_left;intro k _;exact (hφ.tick _ _ hn).symm
theorem GrRn.nam (hφ:Ren φ)(e:GrRn φ g h)(hn:∀ r∈g.rules,isName r.name=true):namG h=(namG g).map φ:=by
 unfold namG;rw[List.map_cons,hφ.start];congr 1;exact flat_map_eq (R:=fun r s=>RlRn φ r s/\isName r.name=true) (fun a b hab=>namesR_rn hφ hab.1 hab.2) (All2.imp (fun a b ha _ hab=>⟨hab,hn a ha⟩) e.2)
def SymC (T N T' N':List ByteArray)(b:Nat)(H H':List It)(x y:It):Prop:=symOf T' N' b H' y=symOf T N b H x
theorem psym_rn (hφ:Ren φ)(T N:List ByteArray){x y:It}(hxy:RnI φ x y):psym (T.map φ) (N.map φ) y=psym T N x:=by
 unfold psym;rw[<-hxy.1,hxy.2.1,fix_map hφ.inj,fix_map hφ.inj,List.length_map]
theorem sym_cor (hφ:Ren φ)(T N:List ByteArray)(b:Nat){I J:List It}(hIJ:All2 (RnI φ) I J)(hI:(I.map It.place).Pairwise (·< ·))(hJ:(J.map It.place).Pairwise (·< ·)){x y:It}(hc:Cor I J x y):SymC T N (T.map φ) (N.map φ) b (I.filter hlp) (J.filter hlp) x y:=by
 have hxy:RnI φ x y:=by
  obtain⟨i,h1,h2⟩:=hc;have aux:∀ {I J:List It} {i:Nat},All2 (RnI φ) I J->I[i]?=some x->J[i]?=some y->RnI φ x y:=by
   intro I
   induction I with
   | nil=>intro J i _ h1 _;simp at h1
   | cons a I ih =>
    intro J i h h1 h2;cases J with
    | nil=>simp at h2
    | cons c J =>
     cases i with
     | zero=>cases h1;cases h2;exact h.1
     | succ i=>exact ih h.2 (by simpa using h1) (by simpa using h2)
  exact aux hIJ h1 h2
 unfold SymC symOf;rw[<-hxy.hlp]
 split
 ·rename_i hh
  rw[fixP_cor hIJ hI hJ hc hh]
 ·exact psym_rn hφ T N hxy
theorem rightOf_rn {T N T' N':List ByteArray}{b:Nat}{H H':List It}{d:Nat}{a c:List It}(h:All2 (fun x y=>RnI φ x y/\SymC T N T' N' b H H' x y/\AltsC φ (SymC T N T' N' b H H') d x.alts y.alts) a c):rightOf T' N' b H' c=rightOf T N b H a:=All2.map_eq (fun _ _ hxy=>hxy.2.1) h
theorem partsOf_rn (hφ:Ren φ){T N:List ByteArray}{b:Nat}{H H':List It}{x y:It}(h:RnI φ x y/\SymC T N (T.map φ) (N.map φ) b H H' x y/\∃ d',AltsC φ (SymC T N (T.map φ) (N.map φ) b H H') d' x.alts y.alts):partsOf (T.map φ) (N.map φ) b H' y=partsOf T N b H x:=by
 obtain⟨h1,-,d',h3⟩:=h;unfold partsOf;rw[<-h1.1]
 split
 ·cases d' with
  | zero=>rw[h3.1,h3.2];rfl
  | succ d'=>exact All2.map_eq (fun a c hac=>rightOf_rn hac.1) (AltsC.succ.1 h3)
 ·rw[psym_rn hφ T N h1]
theorem helpsPd_rn (hφ:Ren φ) {T N:List ByteArray} {b:Nat} {H H':List It}:∀ {l m:List It} (k:Nat),All2 (fun x y=>RnI φ x y/\SymC T N (T.map φ) (N.map φ) b H H' x y/\∃ d',AltsC φ (SymC T N (T.map φ) (N.map φ) b H H') d' x.alts y.alts) l m->helpsPd (T.map φ) (N.map φ) b H' k m=helpsPd T N b H k l
 | [],[],_,_=>rfl
 | x::l,y::m,k,h=>by
  rw[helpsPd,helpsPd,helpsPd_rn hφ (k+1) h.2,partsOf_rn hφ h.1,List.length_map,h.1.1.2.2]
 | [],_::_,_,h=>h.elim
 | _::_,[],_,h=>h.elim
theorem rulePd_rn (hφ:Ren φ){T N:List ByteArray}{b:Nat}{r s:Rl}(e:RlRn φ r s)(hI:((itsA 9 r.alts).map It.place).Pairwise (·< ·))(hJ:((itsA 9 s.alts).map It.place).Pairwise (·< ·)):rulePd (T.map φ) (N.map φ) b s=rulePd T N b r:=by
 have hIJ:All2 (RnI φ) (itsA 9 r.alts) (itsA 9 s.alts):=All2.imp (fun _ _ _ _ h=>h.1) e.2.its;have hC:AltsC φ (SymC T N (T.map φ) (N.map φ) b (hlpA 9 r.alts) (hlpA 9 s.alts)) 9 r.alts s.alts:=AltsC.cor e.2 fun x y hc=>sym_cor hφ T N b hIJ hI hJ hc
 unfold rulePd;congr 1
 ·refine All2.map_eq (fun a c hac=>?_) (AltsC.succ.1 hC)
  unfold altPd;rw[rightOf_rn hac.1,hac.2,List.length_map,fix_map hφ.inj];have:(φ a.2.1=noText)↔a.2.1=noText:=⟨fun h=>hφ.inj _ _ (h.trans hφ.none.symm),fun h=>by rw[h];exact hφ.none⟩
  by_cases hp:a.2.1=noText
  ·rw[if_pos (this.2 hp),if_pos hp]
  ·rw[if_neg (fun h=>hp (this.1 h)),if_neg hp]
 ·exact helpsPd_rn hφ 0 (All2.filt (fun a c hac=>RnI.hlp hac.1) hC.its)
theorem rulesPd_rn (hφ:Ren φ) {T N:List ByteArray}:∀ {rs ss:List Rl} (b:Nat),All2 (RlRn φ) rs ss->((itsG rs).map It.place).Pairwise (·< ·)->((itsG ss).map It.place).Pairwise (·< ·)->rulesPd (T.map φ) (N.map φ) b ss=rulesPd T N b rs
 | [],[],_,_,_,_=>rfl
 | r::rs,s::ss,b,h,hI,hJ=>by
  unfold itsG at hI hJ;rw[List.flatMap_cons,List.map_append,List.pairwise_append]at hI hJ;rw[rulesPd,rulesPd,rulePd_rn hφ h.1 hI.1 hJ.1,h.1.2.hlpL,rulesPd_rn hφ _ h.2 hI.2.1 hJ.2.1]
 | [],_::_,_,h,_,_=>h.elim
 | _::_,[],_,h,_,_=>h.elim
theorem GrRn.prod (hφ:Ren φ)(e:GrRn φ g h)(hn:∀ r∈g.rules,isName r.name=true)(hI:((itsG g.rules).map It.place).Pairwise (·< ·))(hJ:((itsG h.rules).map It.place).Pairwise (·< ·)):prodG h=prodG g:=by
 unfold prodG;rw[e.tok hφ,e.nam hφ hn,List.length_map,rulesPd_rn hφ _ e.2 hI hJ]
theorem bk_rn (hφ:Ren φ) (t:ByteArray):∀ {ls ms:List Lv} (i:Nat) (r:Nat × Nat),All2 (LvRn φ) ls ms->bk (φ t) i ms r=bk t i ls r
 | [],[],_,_,_=>rfl
 | l::ls,m::ms,i,r,k=>by
  rw[bk,bk,k.1.2,fnd_map hφ.inj,k.1.1];exact bk_rn hφ t (i+1) _ k.2
 | [],_::_,_,_,k=>k.elim
 | _::_,[],_,_,k=>k.elim
theorem GrRn.bk (hφ:Ren φ)(e:GrRn φ g h)(t:ByteArray):bkOf h (φ t)=bkOf g t:=bk_rn hφ t 0 _ e.1
end
end Lx
end
end Go.Proofs.YtlcppnabbicmoaaGreatDoor

import Derived.Test.YtlcppnabbicmoaaGreatDoorMB40
namespace Go.Proofs.YtlcppnabbicmoaaGreatDoor
section
open Go.RowKit
open Tr
namespace Lx
def rowAt (B:List (List Bool))(i:Nat):List Bool:=B[i]?.getD []
def joinS (l:Nat)(B:List (List Bool))(s:Nat):List (List Bool):=B.set l (orL (rowAt B l) (rowAt B s))
def cntA (E:List Bool)(p:Pd):Nat:=min (aheadN E p.right+1) p.right.length
def stepF (E:List Bool)(B:List (List Bool))(p:Pd):List (List Bool):=(p.right.take (cntA E p)).foldl (joinS p.left) B
def passF (P:List Pd)(E:List Bool)(B:List (List Bool)):List (List Bool):=P.foldl (stepF E) B
def tot (B:List (List Bool)):Nat:=(B.map cntB).sum
theorem rowAt_eq {B:List (List Bool)}{i:Nat}(h:i<B.length):rowAt B i=B[i]:=by simp [rowAt,h]
theorem tot_set:∀ {B:List (List Bool)} {l:Nat} {C:List Bool} (h:l<B.length),tot (B.set l C)+cntB B[l]=tot B+cntB C
 | b::B,0,C,_=>by simp [tot];omega
 | b::B,l+1,C,h=>by
  have:=tot_set (B:=B) (l:=l) (C:=C) (by simpa using h)
  simp [tot] at this ⊢
  omega
theorem tot_le {nT:Nat}:∀ {B:List (List Bool)},(∀ b∈B,b.length=nT)→tot B≤B.length*nT
 | [],_=>by simp [tot]
 | b::B,h=>by
  have h1:=tot_le (B:=B) fun x hx=>h x (List.mem_cons_of_mem _ hx)
  have h2:=cntB_le b
  rw [h b List.mem_cons_self] at h2
  simp [tot,Nat.succ_mul] at h1 ⊢
  omega
theorem orL_len (A B:List Bool):(orL A B).length=A.length:=by unfold orL;rw [orTo_len]
end Lx
theorem BB.at {w:World}{gO nT:Nat}{gs:List Nat}{B:List (List Bool)}(h:BB w gO nT gs B){i:Nat}(hi:i<gs.length):w.cell? ⟨gO,i,none⟩=some (.slice (some ⟨gs[i],0,none⟩) nT nT)∧Blk w gs[i] (boolsV (Lx.rowAt B i)) 4∧(Lx.rowAt B i).length=nT:=by
 have hi':i<B.length:=by rw [h.len];exact hi
 rw [Lx.rowAt_eq hi']
 refine⟨?_,h.rows i hi hi',h.rl _ (List.getElem_mem hi')⟩
 rw [h.outer.cell i,vA_get]
 simp [hi,slB]
theorem BB.join {w w':World}{gO nT:Nat}{gs:List Nat}{B:List (List Bool)}(h:BB w gO nT gs B){l:Nat}(hl:l<gs.length){A C:List Bool}(hj:JoinP w gs[l] A C w')(hC:C.length=nT):BB w' gO nT gs (B.set l C):=by
 obtain⟨h1,h2,h3,h4,h5,h6⟩:=h
 refine⟨(hj.oth gO (fun e=>h6 (e ▸ List.getElem_mem hl))).trans h1,by rw [List.length_set];exact h2,fun i hi hi'=>?_,fun b hb=>?_,h5,h6⟩
 ·rw [List.getElem_set]
  by_cases e:l=i
  ·subst e;rw [if_pos rfl];exact hj.blk
  ·rw [if_neg e]
   rw [List.length_set] at hi'
   exact (hj.oth _ (fun e'=>e ((List.getElem_inj h5).1 e').symm)).trans (h3 i hi hi')
 ·rcases List.mem_or_eq_of_mem_set hb with hb | hb
  ·exact h4 b hb
  ·rw [hb];exact hC
theorem BB.move {w w':World}{gO nT:Nat}{gs:List Nat}{B:List (List Bool)}(h:BB w gO nT gs B)(hk:∀ g,g<w.heap.size→w'.heap[g]?=w.heap[g]?):BB w' gO nT gs B:=⟨(hk _ h.outer.lt).trans h.outer,h.len,fun i hi hi'=>(hk _ (h.rows i hi hi').lt).trans (h.rows i hi hi'),h.rl,h.nd,h.no⟩
theorem make_lists {n:Nat}(hn:n≤100000)(w:World):(Instr.makeSlice 40 (.int .i64 (n:Int)) (.int .i64 (n:Int))).run Tryz.prog w=.ok (.slice (some ⟨w.heap.size,0,none⟩) n n) (w.alloc (.cells (vA (List.replicate n (Value.slice none 0 0))) 24)):=by
 obtain⟨i0,hi,hz0,hz1,hz2⟩:=info_parts Tryz.info24
 have h:=run_make (P:=Tryz.prog) w 40 24 i0 _ (by kernel_rfl) hi hz0 .i64 .i64 (n:Int) (n:Int) (by omega) (Int.le_refl _) (by rw [hz2];omega) (by omega)
 rw [h,Int.toNat_natCast,hz1]
 have e:Value.cells (.slice none 0 0)=#[.slice none 0 0]:=rfl
 have e2:madeCells #[.slice none 0 0] (n*1)=(vA (List.replicate n (Value.slice none 0 0))):=by
  unfold madeCells vA
  apply Array.ext
  ·simp
  ·intro i h1 h2
   simp [Nat.mod_one]
 rw [e,e2]
def PtD (B:Nat)(w:World)(v:Value)(ps:List (List Nat)):Prop:=∃ qs,PtBy B w v ps qs∧qs.Pairwise fun a b=>∀ g,a.1.ownBlock=some g→b.1.ownBlock≠some g
theorem PtD.pt {B:Nat}{w:World}{v:Value}{ps:List (List Nat)}(h:PtD B w v ps):PtR B w v ps:=by
 obtain⟨qs,h1,-⟩:=h
 exact⟨qs,h1⟩
def FirstP (w:World)(nT n:Nat)(P:List Lx.Pd)(E:List Bool)(e:Ending)(w':World):Prop:=∃ v B m,e=.returned v∧B=Lx.itr (Lx.passF P E) m (Lx.alone nT n)∧Lx.passF P E B=B∧PtD w.heap.size w' v (B.map Lx.membersL)∧Below w.heap.size w w'
set_option maxHeartbeats 4000000 in
set_option maxRecDepth 100000 in
theorem firstTokens_any {w:World}{ta:Option Addr}{nT tc:Nat}{na:Option Addr}{nN nc:Nat}{vP:Value}{P:List Lx.Pd}{ba ka:Option Addr}{nb bc nk kc gE:Nat}{E:List Bool}(h:SetIn w ta nT tc na nN nc vP P)(kE:Blk w gE (boolsV E) 4)(hE:E.length=nT+nN)(hpr:∀ p∈P,p.right.length≤100000):Calls Tryz.prog 32 #[.agg #[.slice ta nT tc,.slice na nN nc,vP,.slice ba nb bc,.slice ka nk kc],.slice (some ⟨gE,0,none⟩) (nT+nN) (nT+nN)] w (FirstP w nT (nT+nN) P E):=by
 obtain⟨hP,hok,hbd⟩:=h
 obtain⟨pa,pc,rfl,hpm⟩:∃ a c,vP=.slice a P.length c∧P.length≤maxLen:=by obtain⟨ps,h1,h2,-⟩:=hP;exact own_len h2
 unfold maxLen at hpm
 obtain⟨W,hW⟩:∃ W,W=w.alloc (.cells #[.slice ta nT tc,.slice na nN nc,.slice pa P.length pc,.slice ba nb bc,.slice ka nk kc] 26):=⟨_,rfl⟩
 have hbW:Below w.heap.size w W:=by rw [hW];exact (Below.refl _ _).alloc (Nat.le_refl _) _
 have hsW:W.heap.size=w.heap.size+1:=by rw [hW];simp
 have kA:Blk W w.heap.size #[.slice ta nT tc,.slice na nN nc,.slice pa P.length pc,.slice ba nb bc,.slice ka nk kc] 26:=by rw [hW];exact Blk.new w _ 26
 have q0:=tokensAlone_any (w:=W) (ta:=ta) (tc:=tc) (na:=na) (nc:=nc) (vP:=.slice pa P.length pc) (vB:=.slice ba nb bc) (vK:=.slice ka nk kc) rfl rfl rfl hbd
 have hnT:nT≤100000:=by omega
 obtain⟨n,hn⟩:∃ n,n=nT+nN:=⟨_,rfl⟩
 rw [←hn] at hok hbd hE q0 ⊢
 clear hn
 unfold FirstP
 go_enter Tryz.func32,Tryz.ntmps32
 go_wp2_with fail
 rw [←hW]
 clear hW
 refine q0.mono ?_
 rintro e w1 ⟨gO,gs,rfl,hgO,hgs,hBB,hb1⟩
 clear q0
 have hs1:=hb1.size
 have hbw1:Below w.heap.size w w1:=hbW.trans (hb1.mono (by omega))
 have kA1:Blk w1 w.heap.size _ 26:=(hb1.block _ (by omega)).trans kA
 have kE1:Blk w1 gE (boolsV E) 4:=(hbw1.block _ kE.lt).trans kE
 have lE:=kE.lt
 have hgl:gs.length=n:=by rw [←hBB.len];simp [Lx.alone]
 go_wp2_with fail
 go_loopg [6] (n*nT+1) (fun k v wr=>∃ (b:Bool) (B:List (List Bool)) (m:Nat),v=.bool b∧(b=true→n*nT-Lx.tot B+1≤k)∧BB wr gO nT gs B∧Kp (fun g=>g<W.heap.size) w1 wr∧Hid (B=Lx.itr (Lx.passF P E) m (Lx.alone nT n))∧Hid (b=false→Lx.passF P E B=B))
 case atStart=>exact⟨true,_,0,rfl,fun _=>by omega,hBB,Kp.refl _ _,rfl,fun h=>by cases h⟩
 case round =>
  revert wr
  intro wz hrel
  obtain⟨b,B,m,rfl,hbk,hBz,hkz,HB,HF⟩:=hrel
  have kAz:Blk wz w.heap.size _ 26:=kp_blk kA1 hkz (by show w.heap.size<W.heap.size;omega)
  have z2:wz.cell? ⟨w.heap.size,2,none⟩=some (.slice pa P.length pc):=kAz.cell 2
  cases b with
  | true =>
   obtain⟨K0,HK0⟩:∃ K0,Hid (K0=gk):=⟨gk,rfl⟩
   have hk2:n*nT-Lx.tot B+1≤K0:=by rw [HK0.out];exact hbk rfl
   have htl:∀ {C:List (List Bool)} {x:World},BB x gO nT gs C→Lx.tot C≤n*nT:=fun hC=>by
    have:=Lx.tot_le hC.rl
    rw [hC.len,hgl] at this
    exact this
   clear hbk HF
   have H0:Hid (Lx.passF P E B=Lx.passF (P.drop 0) E B):=rfl
   go_wp2_with fail
   go_loopg [6,21] P.length (fun k v i wr=>∃ (j:Nat) (b:Bool) (C:List (List Bool)),j+k=P.length∧v=.bool b∧i=.int .i64 j∧BB wr gO nT gs C∧Kp (fun g=>g<W.heap.size) w1 wr∧Hid ((b=false→C=B)∧(b=true→Lx.tot B<Lx.tot C)∧Lx.tot B≤Lx.tot C)∧Hid (Lx.passF P E B=Lx.passF (P.drop j) E C))
   case atStart=>exact⟨0,false,B,by omega,rfl,rfl,hBz,hkz,⟨fun _=>rfl,(fun h=>by cases h),Nat.le_refl _⟩,H0⟩
   case round =>
    clear H0 hBz hkz kAz z2
    revert wr
    intro wy hrel
    obtain⟨j,b,C,hkj,rfl,rfl,hC,hky,HC,HP⟩:=hrel
    have hsy:=hky.size
    have hby:Below w.heap.size w wy:=⟨hky.os.trans hbw1.os,hky.tape.trans hbw1.tape,hky.output.trans hbw1.output,Nat.le_trans hbw1.size hky.size,fun x hx=>(hky.block x (by show x<W.heap.size;omega)).trans (hbw1.block x hx)⟩
    by_cases hlt:j<P.length
    ·obtain⟨g,cap,u,hv,hu0,x0',x1',x2'⟩:=hP.at hlt
     cases hv
     have hu:IR 0 wy u P[j].right:=own_below hu0 hby
     have x0:=cell_below hby x0'
     have x1:=cell_below hby x1'
     have x2:=cell_below hby x2'
     clear x0' x1' x2'
     obtain⟨hleft,hright⟩:=hok P[j] (List.getElem_mem hlt)
     have hrl:=hpr P[j] (List.getElem_mem hlt)
     have hd:=HP.out
     rw [List.drop_eq_getElem_cons hlt,show Lx.passF (P[j]::P.drop (j+1)) E C=Lx.passF (P.drop (j+1)) E (Lx.stepF E C P[j]) from rfl] at hd
     generalize P[j]=pd at hu hu0 x0 x1 x2 hleft hright hd hrl
     obtain⟨pl,pr,pp⟩:=pd
     simp only at hu hu0 x0 x1 x2 hleft hright hrl
     obtain⟨ua,uc,rfl,-⟩:=own_len hu
     obtain⟨W1,hW1⟩:∃ W1,W1=wy.alloc (.cells #[.int .i64 (pl:Int),.slice ua pr.length uc,.int .i64 pp] 58):=⟨_,rfl⟩
     have hbA:Below wy.heap.size wy W1.drew:=by rw [hW1];exact ((Below.refl _ _).alloc (Nat.le_refl _) _).drew
     have hsA:W1.heap.size=wy.heap.size+1:=by rw [hW1];simp
     have kp:Blk W1.drew wy.heap.size #[.int .i64 (pl:Int),.slice ua pr.length uc,.int .i64 pp] 58:=by rw [hW1];exact (Blk.new wy _ 58).drew
     have kEA:Blk W1.drew gE (boolsV E) 4:=(hbA.block _ (by have:=hby.size;omega)).trans ((hby.block _ lE).trans kE)
     have hCA:BB W1.drew gO nT gs C:=hC.move fun x hx=>hbA.block x hx
     have hkA:Kp (fun g=>g<W.heap.size) w1 W1.drew:=hky.trans (Kp.below hbA (D:=fun g=>g<wy.heap.size) fun g hg=>hg) fun g hg=>by show g<wy.heap.size;omega
     have p1:W1.drew.cell? ⟨wy.heap.size,1,none⟩=some (.slice ua pr.length uc):=kp.cell 1
     have huA:IR 0 W1.drew (.slice ua pr.length uc) pr:=own_below hu hbA
     have q1:=emptyAhead_any huA kEA (fun s hs=>by rw [hE];exact hright s hs)
     rw [hE] at q1
     have hale:=Lx.aheadN_le E pr
     have HST:Hid (Lx.stepF E C ⟨pl,pr,pp⟩=(pr.take (min (Lx.aheadN E pr+1) pr.length)).foldl (Lx.joinS pl) C):=rfl
     obtain⟨cn,hcn⟩:∃ cn,cn=min (Lx.aheadN E pr+1) pr.length:=⟨_,rfl⟩
     rw [←hcn] at HST
     have HCN:Hid (cn=min (Lx.aheadN E pr+1) pr.length):=hcn
     have hcl:cn≤pr.length:=by omega
     generalize Lx.aheadN E pr=an at q1 hale HCN hcn
     clear hcn
     go_wp2_with fail
     rw [←hW1]
     clear hW1 x0 x1 x2
     go_region_held3 (fun w'=>w'.cell? ⟨wy.heap.size,1,none⟩=some (.slice ua pr.length uc)) (first | go_keep | assumption) ((go_at_call 71;refine q1.mono ?_;rintro e w5 ⟨rfl,hw5⟩;subst hw5))
     have hmin:min (IntKind.i64.wrap ((an:Int)+1)) (pr.length:Int)=(cn:Int):=by
      rw [show ((an:Int)+1)=((an+1:Nat):Int) from by omega,wrap64 (by omega),HCN.out]
      omega
     rw [hmin]
     clear hmin q1
     rw [HST.out] at hd
     have HSYM:Hid (∀ s∈pr.take cn,s<n):=fun s hs=>hright s (List.mem_of_mem_take hs)
     have hcap:=own_cap huA
     have c0:(0:Int)≤(cn:Int):=by omega
     have c1:(cn:Int)≤(uc:Int):=by omega
     have hlen:(pr.take cn).length=cn:=by rw [List.length_take];omega
     have hgy:∀ x∈gs,x<wy.heap.size:=fun x hx=>by
      obtain⟨i,hi,rfl⟩:=List.getElem_of_mem hx
      exact (hC.rows i hi (by rw [hC.len];exact hi)).lt
     have H3:Hid (Lx.passF P E B=Lx.passF (P.drop (j+1)) E (((pr.take cn).drop 0).foldl (Lx.joinS pl) C)):=hd
     have HU:Hid (∀ {x:World},Kp (fun g=>g<W.heap.size∨g=wy.heap.size) W1.drew x→IR 0 x (.slice ua pr.length uc) pr):=fun hx=>own_move huA fun g hg=>hx.block g (.inl (by have:=(hu0.lt g hg).2;omega))
     clear hd HP
     rcases huA.2 with ⟨e1,e2⟩ | ⟨gR,capR,curR,hvR,-,hhR,hx1,hx2,hx3,hx4⟩
     ·have hcn0:cn=0:=by omega
      subst hcn0
      have H4:Hid (Lx.passF P E B=Lx.passF (P.drop (j+1)) E C):=by show _=_;have:=H3.out;simpa using this
      simp only [Value.slice.injEq] at e1
      obtain⟨rfl,-,rfl⟩:=e1
      have hpr0:pr=[]:=List.eq_nil_of_length_eq_zero e2
      subst hpr0
      clear H3 HST HCN e2 hlen HSYM HU
      go_wp2_with fail
      go_loopg [6,39] 0 (fun k v i wr=>k=0∧v=.bool b∧i=.int .i64 0∧wr=W1.drew)
      case atStart=>exact⟨rfl,rfl,rfl,rfl⟩
      case round =>
       obtain⟨rfl,rfl,rfl,rfl⟩:=hrel
       go_wp2_with fail
       go_roundg (P.length - (j+1))
       case measure=>omega
       case rel=>exact⟨j+1,b,C,by omega,rfl,by go_num,hCA,hkA,HC,H4⟩
     ·cases hvR
      clear hx4 hx3 hhR hx2 hx1
      go_wp2_with fail
      go_loopg [6,39] cn (fun k v i wr=>∃ (q:Nat) (b2:Bool) (C2:List (List Bool)),q+k=cn∧v=.bool b2∧i=.int .i64 q∧BB wr gO nT gs C2∧Kp (fun g=>g<W.heap.size∨g=wy.heap.size) W1.drew wr∧Hid ((b2=false→C2=B)∧(b2=true→Lx.tot B<Lx.tot C2)∧Lx.tot B≤Lx.tot C2)∧Hid (Lx.passF P E B=Lx.passF (P.drop (j+1)) E (((pr.take cn).drop q).foldl (Lx.joinS pl) C2)))
      case atStart=>exact⟨0,b,C,by omega,rfl,rfl,hCA,Kp.refl _ _,HC,H3⟩
      case round =>
       clear H3 hCA p1 kEA
       obtain⟨q,b2,C2,hkq,rfl,rfl,hC2,hkr,HC2,H3⟩:=hrel
       by_cases hltq:q<cn
       ·have hur:=HU.out hkr
        obtain⟨gR',capR',hvR',-,cq⟩:=hur.at (j:=q) (by omega)
        cases hvR'
        have h3:=H3.out
        have hqx:q<(pr.take cn).length:=by rw [hlen];exact hltq
        have hdr:(pr.take cn).drop q=(pr.take cn)[q]::(pr.take cn).drop (q+1):=List.drop_eq_getElem_cons hqx
        rw [hdr,List.foldl_cons,List.getElem_take] at h3
        have hsn:=hright pr[q] (List.getElem_mem (by omega))
        generalize pr[q]=sy at cq h3 hsn
        obtain⟨o1,o2,o3⟩:=hC2.at (i:=pl) (by omega)
        obtain⟨y1,y2,y3⟩:=hC2.at (i:=sy) (by omega)
        have kpr:Blk wr wy.heap.size #[.int .i64 (pl:Int),.slice (some ⟨gR,0,none⟩) pr.length uc,.int .i64 pp] 58:=kp_blk kp hkr (.inr rfl)
        have dp:wr.drew.cell? ⟨wy.heap.size,0,none⟩=some (.int .i64 (pl:Int)):=kpr.drew.cell 0
        have do1:wr.drew.cell? ⟨gO,pl,none⟩=some (.slice (some ⟨gs[pl]'(by omega),0,none⟩) nT nT):=o1
        have dy1:wr.drew.cell? ⟨gO,sy,none⟩=some (.slice (some ⟨gs[sy]'(by omega),0,none⟩) nT nT):=y1
        have i1:(0:Int)≤(pl:Int):=by omega
        have i2:(pl:Int)<(n:Int):=by omega
        have i3:(0:Int)≤(sy:Int):=by omega
        have i4:(sy:Int)<(n:Int):=by omega
        have hlC:C2.length=n:=by rw [hC2.len];exact hgl
        have hCd:BB wr.drew gO nT gs C2:=hC2.move fun _ _=>rfl
        by_cases hps:sy=pl
        ·subst hps
         have hjs:Lx.joinS sy C2 sy=C2:=by
          unfold Lx.joinS
          rw [Lx.orL_self,Lx.rowAt_eq (by omega)]
          exact List.set_getElem_self _
         rw [hjs] at h3
         have H4:Hid (Lx.passF P E B=Lx.passF (P.drop (j+1)) E (((pr.take cn).drop (q+1)).foldl (Lx.joinS sy) C2)):=h3
         have q1:=join_self (w:=wr.drew) (o2.drew) o3 hnT
         have hkd:Kp (fun g=>g<W.heap.size∨g=wy.heap.size) W1.drew wr.drew:=⟨hkr.os,hkr.tape,hkr.output,hkr.size,hkr.block⟩
         generalize gs[sy]'(by omega)=ga at do1 dy1 q1
         clear h3 H3 hjs hdr o1 y1 o2 y2
         go_wp2_with fail
         go_region_held3 (fun w'=>w'.cell? ⟨wy.heap.size,0,none⟩=some (.int .i64 (sy:Int))∧w'.cell? ⟨gO,sy,none⟩=some (.slice (some ⟨ga,0,none⟩) nT nT)) (first | go_keep | assumption) ((go_at_call 73;refine q1.mono ?_;rintro e w5 ⟨rfl,hw5⟩;subst hw5))
         all_goals
          go_wp2_with fail
          go_roundg (cn - (q+1))
          case measure=>omega
          case rel=>exact⟨q+1,b2,C2,by omega,rfl,by go_num,hCd,hkd,HC2,H4⟩
        ·have hgne:gs[pl]'(by omega)≠gs[sy]'(by omega):=fun e=>hps ((List.getElem_inj hC2.nd).1 e).symm
         have H4:Hid (Lx.passF P E B=Lx.passF (P.drop (j+1)) E (((pr.take cn).drop (q+1)).foldl (Lx.joinS pl) (Lx.joinS pl C2 sy))):=h3
         have q1:=join_any (w:=wr.drew) hgne (o2.drew) (y2.drew) o3 y3 hnT
         have hts:=Lx.tot_set (B:=C2) (l:=pl) (C:=Lx.orL (Lx.rowAt C2 pl) (Lx.rowAt C2 sy)) (by omega)
         rw [←Lx.rowAt_eq (B:=C2) (i:=pl) (by omega)] at hts
         have hgm:=List.getElem_mem (l:=gs) (n:=pl) (by omega)
         have hgW:=hgs _ hgm
         have hgW2:=hgy _ hgm
         have HJ:Hid (∀ {x:World},JoinP wr.drew (gs[pl]'(by omega)) (Lx.rowAt C2 pl) (Lx.orL (Lx.rowAt C2 pl) (Lx.rowAt C2 sy)) x→BB x gO nT gs (Lx.joinS pl C2 sy)):=fun hx=>hCd.join (by omega) hx (by rw [Lx.orL_len];exact o3)
         have HT:Hid (Lx.tot (Lx.joinS pl C2 sy)+Lx.cntB (Lx.rowAt C2 pl)=Lx.tot C2+Lx.cntB (Lx.orL (Lx.rowAt C2 pl) (Lx.rowAt C2 sy))):=hts
         have HE0:Hid (Lx.orL (Lx.rowAt C2 pl) (Lx.rowAt C2 sy)=Lx.rowAt C2 pl→Lx.joinS pl C2 sy=C2):=fun he=>by
          unfold Lx.joinS
          rw [he,Lx.rowAt_eq (by omega)]
          exact List.set_getElem_self _
         have hsg:gs[pl]'(by omega)≠wy.heap.size:=by omega
         have hgO:gO≠gs[pl]'(by omega):=fun e=>hC2.no (e ▸ hgm)
         generalize gs[pl]'(by omega)=ga at do1 q1 hgW hsg HJ hgO
         generalize gs[sy]'(by omega)=gb at dy1 q1
         clear h3 H3 hdr o1 y1 o2 y2 hgne hgm hts
         go_wp2_with fail
         go_region_held3 (fun w'=>w'.cell? ⟨wy.heap.size,0,none⟩=some (.int .i64 (pl:Int))∧w'.cell? ⟨gO,pl,none⟩=some (.slice (some ⟨ga,0,none⟩) nT nT)∧w'.cell? ⟨gO,sy,none⟩=some (.slice (some ⟨gb,0,none⟩) nT nT)) (first | go_keep | assumption) ((go_at_call 73;refine q1.mono ?_;rintro e w5 ⟨b3,rfl,hb3t,hb3f,hJP⟩;have S5:w5.cell? ⟨wy.heap.size,0,none⟩=some (.int .i64 (pl:Int))∧w5.cell? ⟨gO,pl,none⟩=some (.slice (some ⟨ga,0,none⟩) nT nT)∧w5.cell? ⟨gO,sy,none⟩=some (.slice (some ⟨gb,0,none⟩) nT nT):=⟨(World.cell?_of_block (w:=wr.drew) (hJP.oth _ (fun e=>hsg e.symm))).trans dp,(World.cell?_of_block (w:=wr.drew) (hJP.oth _ hgO)).trans do1,(World.cell?_of_block (w:=wr.drew) (hJP.oth _ hgO)).trans dy1⟩))
         all_goals
          have hB5:=HJ.out hJP
          have hk5:Kp (fun g=>g<W.heap.size∨g=wy.heap.size) W1.drew w5:=⟨hJP.os.trans hkr.os,hJP.tape.trans hkr.tape,hJP.output.trans hkr.output,by rw [hJP.size];exact hkr.size,fun x hx=>(hJP.oth x (by rcases hx with hx | hx <;> omega)).trans (hkr.block x hx)⟩
          clear S5 q1 dp do1 dy1
          cases b3 with
          | true =>
           have hcl2:=hb3t rfl
           have HC3:Hid (Lx.tot B<Lx.tot (Lx.joinS pl C2 sy)):=by have:=HT.out;have:=HC2.out.2.2;show _<_;omega
           clear hb3t hb3f hcl2
           go_wp2_with fail
           go_roundg (cn - (q+1))
           case measure=>omega
           case rel=>exact⟨q+1,true,_,by omega,rfl,by go_num,hB5,hk5,⟨(fun h=>by cases h),fun _=>HC3.out,Nat.le_of_lt HC3.out⟩,H4⟩
          | false =>
           have he:=HE0.out (hb3f rfl)
           rw [he] at hB5 H4
           clear hb3t hb3f he
           go_wp2_with fail
           go_roundg (cn - (q+1))
           case measure=>omega
           case rel=>exact⟨q+1,b2,C2,by omega,rfl,by go_num,hB5,hk5,HC2,H4⟩
       ·have:q=cn:=by omega
        subst this
        have H4:Hid (Lx.passF P E B=Lx.passF (P.drop (j+1)) E C2):=by
         show _=_
         have:=H3.out
         rw [show (pr.take q).drop q=[] from List.drop_eq_nil_of_le (by rw [hlen];exact Nat.le_refl _)] at this
         exact this
        have hk5:Kp (fun g=>g<W.heap.size) w1 wr:=hkA.trans hkr fun g hg=>.inl hg
        clear H3 HU
        go_wp2_with fail
        go_roundg (P.length - (j+1))
        case measure=>omega
        case rel=>exact⟨j+1,b2,C2,by omega,rfl,by go_num,hC2,hk5,HC2,H4⟩
    ·have:j=P.length:=by omega
     subst this
     have hd:=HP.out
     rw [List.drop_length] at hd
     have HPF:Hid (Lx.passF P E B=C):=hd
     have hcF:=htl hC
     have HE2:Hid (C=Lx.itr (Lx.passF P E) (m+1) (Lx.alone nT n)):=by
      show C=Lx.passF P E (Lx.itr (Lx.passF P E) m (Lx.alone nT n))
      rw [←HB.out];exact HPF.out.symm
     have HF0:Hid (b=false→Lx.passF P E C=C):=fun hb=>by
      have h1:=HC.out.1 hb
      rw [h1]
      have:=HPF.out
      rw [h1] at this
      exact this
     have HMS:Hid (b=true→n*nT-Lx.tot C+1≤K0-1):=fun hb=>by
      have:=HC.out.2.1 hb
      omega
     clear HC HP hd htl
     go_wp2_with fail
     go_roundg (K0-1)
     case measure=>have:=HK0.out;omega
     case rel=>exact⟨b,C,m+1,rfl,HMS.out,hC,hky,HE2,HF0⟩
  | false =>
   have HF2:Hid (Lx.passF P E B=B):=HF.out rfl
   have hmk:=fun w=>make_lists hbd w
   have hbz:Below w.heap.size w wz:=⟨hkz.os.trans hbw1.os,hkz.tape.trans hbw1.tape,hkz.output.trans hbw1.output,Nat.le_trans hbw1.size hkz.size,fun x hx=>(hkz.block x (by show x<W.heap.size;omega)).trans (hbw1.block x hx)⟩
   have hszz:=hbz.size
   obtain⟨W3,hW3⟩:∃ W3,W3=wz.alloc (.cells (vA (List.replicate n (Value.slice none 0 0))) 24):=⟨_,rfl⟩
   have hb3:Below wz.heap.size wz W3:=by rw [hW3];exact (Below.refl _ _).alloc (Nat.le_refl _) _
   have hs3:W3.heap.size=wz.heap.size+1:=by rw [hW3];simp
   have kL:Blk W3 wz.heap.size (vA (List.replicate n (Value.slice none 0 0))) 24:=by rw [hW3];exact Blk.new wz _ 24
   have hB3:BB W3 gO nT gs B:=hBz.move fun x hx=>hb3.block x hx
   clear hbk HF z2 kAz
   go_wp2_with fail
   rw [←hW3]
   clear hW3 hmk
   go_loopg [60] n (fun k i wr=>∃ (j:Nat) (us:List Value),j+k=n∧i=.int .i64 j∧us.length=j∧Blk wr wz.heap.size (vA (us++List.replicate (n-j) (Value.slice none 0 0))) 24∧(∀ x (hx:x<us.length),IR w.heap.size wr us[x] (Lx.membersL (Lx.rowAt B x))∧us[x].ownBlock≠some wz.heap.size)∧Hid (us.Pairwise fun a b=>∀ g,a.ownBlock=some g→b.ownBlock≠some g)∧Kp (fun g=>g<W3.heap.size∧g≠wz.heap.size) W3 wr)
   case atStart=>exact⟨0,[],by omega,rfl,rfl,by simpa using kL,(fun x hx=>absurd hx (by simp)),List.Pairwise.nil,Kp.refl _ _⟩
   case round =>
    obtain⟨j,us,hkj,rfl,hul,hL,hus,HPW,hkr⟩:=hrel
    have hsr:=hkr.size
    by_cases hlt:j<n
    ·have hBr:BB wr gO nT gs B:=by
      have hkk:∀ x,x<wz.heap.size→wr.heap[x]?=wz.heap[x]?:=fun x hx=>(hkr.block x ⟨by omega,by omega⟩).trans (hb3.block x hx)
      exact hBz.move hkk
     obtain⟨o1,o2,o3⟩:=hBr.at (i:=j) (by omega)
     have q1:=members_any (w:=wr) o2 o3 hnT
     have lL:=hL.lt
     have cL:wr.cell? ⟨wz.heap.size,j,none⟩=some (.slice none 0 0):=by
      rw [hL.cell j,vA_get,List.getElem?_append_right (by omega),hul,Nat.sub_self,List.getElem?_replicate,if_pos (by omega)]
     have i1:(0:Int)≤(j:Int):=by omega
     have i2:(j:Int)<(n:Int):=by omega
     generalize gs[j]'(by omega)=ga at o1 q1
     have hset:∀ u:Value,(us++List.replicate (n-j) (Value.slice none 0 0)).set j u=(us++[u])++List.replicate (n - (j+1)) (Value.slice none 0 0):=fun u=>by
      rw [List.set_append_right _ _ (by omega),show n-j=n - (j+1)+1 by omega,List.replicate_succ,hul]
      simp
     have HSET:Hid _:=hset
     clear hset o2
     go_wp2_with fail
     refine q1.mono ?_
     rintro e w5 ⟨u,rfl,hu,hb5⟩
     obtain⟨ua,uc,rfl,-⟩:=own_len hu
     have hL5:Blk w5 wz.heap.size _ 24:=(hb5.block _ lL).trans hL
     have c5:w5.cell? ⟨wz.heap.size,j,none⟩=some (.slice none 0 0):=cell_below hb5 cL
     have f5:∀ i,w5.frozen? ⟨wz.heap.size,i,none⟩=false:=hL5.frozen
     have hL6:=hL5.set j (.slice ua (Lx.membersL (Lx.rowAt B j)).length uc)
     rw [vA_set,HSET.out] at hL6
     have hus6:∀ x (hx:x<(us++[Value.slice ua (Lx.membersL (Lx.rowAt B j)).length uc]).length),IR w.heap.size (w5.setCell ⟨wz.heap.size,j,none⟩ (.slice ua (Lx.membersL (Lx.rowAt B j)).length uc)) (us++[Value.slice ua (Lx.membersL (Lx.rowAt B j)).length uc])[x] (Lx.membersL (Lx.rowAt B x))∧(us++[Value.slice ua (Lx.membersL (Lx.rowAt B j)).length uc])[x].ownBlock≠some wz.heap.size:=by
      intro x hx
      rw [List.length_append,List.length_singleton] at hx
      by_cases hxu:x<us.length
      ·rw [List.getElem_append_left hxu]
       have h1:=hus x hxu
       exact⟨own_move (own_below h1.1 hb5) fun g hg=>Below.heap_setCell _ _ _ _ (fun e=>h1.2 (by rw [hg];exact congrArg some e)),h1.2⟩
      ·have:x=us.length:=by omega
       subst this
       rw [List.getElem_append_right (Nat.le_refl _)]
       simp only [Nat.sub_self,List.getElem_cons_zero]
       rw [hul]
       have hnl:(Value.slice ua (Lx.membersL (Lx.rowAt B j)).length uc).ownBlock≠some wz.heap.size:=fun e=>by have:=(hu.lt _ e).1;omega
       exact⟨own_le (own_move hu fun g hg=>Below.heap_setCell _ _ _ _ (fun e=>hnl (by rw [hg];exact congrArg some e))) (by omega),hnl⟩
     have hk6:Kp (fun g=>g<W3.heap.size∧g≠wz.heap.size) W3 (w5.setCell ⟨wz.heap.size,j,none⟩ (.slice ua (Lx.membersL (Lx.rowAt B j)).length uc)):=⟨hb5.os.trans hkr.os,hb5.tape.trans hkr.tape,hb5.output.trans hkr.output,by have:=hb5.size;simp [World.setCell];omega,fun x hx=>(Below.heap_setCell _ _ _ _ hx.2).trans ((hb5.block x (by omega)).trans (hkr.block x hx))⟩
     have HP6:Hid ((us++[Value.slice ua (Lx.membersL (Lx.rowAt B j)).length uc]).Pairwise fun a b=>∀ g,a.ownBlock=some g→b.ownBlock≠some g):=List.pairwise_append.2 ⟨HPW.out,List.pairwise_singleton _ _,fun a ha b hb g hg e=>by
      rw [List.mem_singleton] at hb
      subst hb
      obtain⟨x,hx,rfl⟩:=List.getElem_of_mem ha
      have h1:=((hus x hx).1.lt g hg).2
      have h2:=(hu.lt g e).1
      omega⟩
     have HL6:Hid _:=hL6
     have HU6:Hid _:=hus6
     clear hL6 hus6 hus hL hL5 q1 cL o1
     go_wp2_with fail
     go_roundg (n - (j+1))
     case measure=>omega
     case rel=>exact⟨j+1,_,by omega,by go_num,by rw [List.length_append,List.length_singleton];omega,HL6.out,HU6.out,HP6,hk6⟩
    ·have:j=n:=by omega
     subst this
     have hlB:B.length=j:=by rw [hBz.len];exact hgl
     have hpt:PtD w.heap.size wr (.slice (some ⟨wz.heap.size,0,none⟩) j j) (B.map Lx.membersL):=by
      have hlen2:us.length=(B.map Lx.membersL).length:=by rw [List.length_map];omega
      have hL':Blk wr wz.heap.size (vA us) 24:=by simpa using hL
      refine⟨us.zip (B.map Lx.membersL),⟨List.map_snd_zip (by omega),?_,?_,?_⟩,?_⟩
      ·rw [List.map_fst_zip (by omega),List.length_map,hlB]
       refine⟨by rw [hul];simp,.inr ⟨wz.heap.size,j,vA us,rfl,by omega,hL',Nat.le_refl _,by unfold maxLen;omega,by simp [vA,hul],?_⟩⟩
       unfold vA
       rw [Nat.mul_one,←hul]
       exact List.take_length
      ·intro q hq
       obtain⟨x,hx,rfl⟩:=List.getElem_of_mem hq
       rw [List.length_zip] at hx
       rw [List.getElem_zip,List.getElem_map]
       have h1:=hus x (by omega)
       rw [Lx.rowAt_eq (by omega)] at h1
       exact h1.1
      ·intro q hq g hg e
       obtain⟨x,hx,rfl⟩:=List.getElem_of_mem hq
       rw [List.length_zip] at hx
       rw [List.getElem_zip] at hg
       have e1:wz.heap.size=g:=by simpa [Value.ownBlock] using e
       exact (hus x (by omega)).2 (by rw [e1];exact hg)
      ·rw [List.pairwise_iff_getElem]
       intro x y hx hy hxy g hg
       rw [List.length_zip] at hx hy
       rw [List.getElem_zip] at hg ⊢
       exact List.pairwise_iff_getElem.1 HPW.out x y (by omega) (by omega) hxy g hg
     have hbf:Below w.heap.size w wr:=⟨hkr.os.trans (hb3.os.trans hbz.os),hkr.tape.trans (hb3.tape.trans hbz.tape),hkr.output.trans (hb3.output.trans hbz.output),by omega,fun x hx=>(hkr.block x ⟨by omega,by omega⟩).trans ((hb3.block x (by omega)).trans (hbz.block x hx))⟩
     have HPT:Hid _:=hpt
     clear hpt hus hL
     go_wp2_with fail
     go_ret
     exact⟨_,B,m,rfl,HB.out,HF2.out,HPT.out,hbf⟩
end
section
open Go.RowKit
open Tr
namespace Lx
theorem aheadN_all (E:List Bool):∀ r:List Nat,(aheadN E r=r.length)↔(r.all (at? E)=true)
 | []=>by simp [aheadN]
 | s::r=>by
  have h1:=aheadN_all E r
  have hl:=aheadN_le E r
  rw [aheadN,List.all_cons]
  by_cases h:at? E s=true
  ·rw [if_pos h,h,Bool.true_and,←h1,List.length_cons];omega
  ·rw [if_neg h];simp [h]
theorem set_true_same {E:List Bool}{i:Nat}(h:at? E i=true):E.set i true=E:=by
 refine ext_at (by simp) fun k _=>?_
 rw [at_set]
 split
 ·rename_i hh;rw [←hh.1,h]
 ·rfl
theorem stepE_all {E:List Bool}{p:Pd}(h:p.right.all (at? E)=true):stepE E p=E.set p.left true:=by
 unfold stepE
 have ha:=(aheadN_all E p.right).2 h
 cases hat:at? E p.left with
 | false=>exact if_pos ⟨rfl,ha⟩
 | true=>rw [if_neg (fun h=>by cases h.1)];exact (set_true_same hat).symm
theorem stepE_no {E:List Bool}{p:Pd}(h:p.right.all (at? E)=false):stepE E p=E:=by
 unfold stepE
 refine if_neg fun hh=>?_
 have:=(aheadN_all E p.right).1 hh.2
 rw [h] at this
 cases this
theorem passE_le:∀ (P:List Pd) (E:List Bool),LeB E (passE P E)
 | [],E=>LeB.refl E
 | p::P,E=>(stepE_le E p).trans (passE_le P (stepE E p))
theorem passE_more {n:Nat}:∀ (P:List Pd) (E:List Bool),E.length=n→PdOk n P→passE P E=E∨∃ p∈P,at? E p.left=false∧at? (passE P E) p.left=true
 | [],_,_,_=>.inl rfl
 | p::P,E,hE,hP=>by
  show passE P (stepE E p)=E∨∃ q∈p::P,at? E q.left=false∧at? (passE P (stepE E p)) q.left=true
  have hP':PdOk n P:=fun q hq=>hP q (List.mem_cons_of_mem _ hq)
  by_cases hs:stepE E p=E
  ·rw [hs]
   rcases passE_more P E hE hP' with h | ⟨q,hq,h⟩
   ·exact .inl h
   ·exact .inr ⟨q,List.mem_cons_of_mem _ hq,h⟩
  ·right
   have hl:=(hP p List.mem_cons_self).1
   have h1:at? E p.left=false∧aheadN E p.right=p.right.length:=by
    rcases Classical.em (at? E p.left=false∧aheadN E p.right=p.right.length) with h | h
    ·exact h
    ·exact absurd (if_neg h) hs
   refine⟨p,List.mem_cons_self,h1.1,(passE_le P (stepE E p)).2 _ ?_⟩
   have:stepE E p=E.set p.left true:=if_pos h1
   rw [this,at_set,if_pos ⟨rfl,by omega⟩]
theorem countP_lt_of {α:Type} {f g:α→Bool}:∀ {l:List α},(∀ x,f x=true→g x=true)→(∃ x∈l,f x=false∧g x=true)→l.countP f<l.countP g
 | [],_,h=>by obtain⟨x,hx,-⟩:=h;cases hx
 | y::l,hm,h=>by
  obtain⟨x,hx,h1,h2⟩:=h
  have hle:l.countP f≤l.countP g:=List.countP_mono_left fun z _=>hm z
  rw [List.countP_cons,List.countP_cons]
  rcases List.mem_cons.1 hx with rfl | hx
  ·rw [h1,h2];simp;omega
  ·have:=countP_lt_of hm ⟨x,hx,h1,h2⟩
   cases hf:f y with
   | false=>simp;omega
   | true=>rw [hm y hf];simp;omega
def npE (P:List Pd)(E:List Bool):Nat:=P.countP fun p=>at? E p.left
theorem itr_len (P:List Pd) (E:List Bool):∀ k,(itr (passE P) k E).length=E.length
 | 0=>rfl
 | k+1=>by
  show (passE P (itr (passE P) k E)).length=_
  rw [passE_len,itr_len P E k]
theorem itr_np {n:Nat} {P:List Pd} {E:List Bool} (hE:E.length=n) (hP:PdOk n P):∀ k,passE P (itr (passE P) k E)=itr (passE P) k E∨k≤npE P (itr (passE P) k E)
 | 0=>.inr (Nat.zero_le _)
 | k+1=>by
  show passE P (passE P (itr (passE P) k E))=passE P (itr (passE P) k E)∨k+1≤npE P (passE P (itr (passE P) k E))
  rcases itr_np hE hP k with h | h
  ·left;rw [h,h]
  ·rcases passE_more P (itr (passE P) k E) ((itr_len P E k).trans hE) hP with h2 | h2
   ·left;rw [h2,h2]
   ·right
    have:=countP_lt_of (l:=P) (f:=fun p=>at? (itr (passE P) k E) p.left) (g:=fun p=>at? (passE P (itr (passE P) k E)) p.left) (fun x hx=>(passE_le P _).2 _ hx) h2
    unfold npE at h ⊢
    omega
theorem itr_done {n:Nat}{P:List Pd}{E:List Bool}(hE:E.length=n)(hP:PdOk n P):passE P (itr (passE P) (P.length+1) E)=itr (passE P) (P.length+1) E:=by
 rcases itr_np hE hP (P.length+1) with h | h
 ·exact h
 ·have:npE P (itr (passE P) (P.length+1) E)≤P.length:=List.countP_le_length
  omega
def stepR (E:List Bool) (l:Nat):List (List Bool)→List Nat→List (List Bool)
 | B,[]=>B
 | B,s::r=>if at? E s=true then stepR E l (joinS l B s) r else joinS l B s
theorem stepR_eq (E:List Bool) (l:Nat):∀ (r:List Nat) (B:List (List Bool)),stepR E l B r=(r.take (min (aheadN E r+1) r.length)).foldl (joinS l) B
 | [],B=>by simp [stepR]
 | s::r,B=>by
  rw [stepR,aheadN]
  have hl:=aheadN_le E r
  by_cases h:at? E s=true
  ·rw [if_pos h,if_pos h,stepR_eq E l r,List.length_cons,show min (1+aheadN E r+1) (r.length+1)=min (aheadN E r+1) r.length+1 by omega,List.take_succ_cons]
   rfl
  ·rw [if_neg h,if_neg h,List.length_cons,show min (0+1) (r.length+1)=0+1 by omega,List.take_succ_cons]
   rfl
theorem stepF_R (E:List Bool)(B:List (List Bool))(p:Pd):stepF E B p=stepR E p.left B p.right:=(stepR_eq E p.left p.right B).symm
end Lx
end
section
open Go.RowKit
open Tr
structure SetInD (w:World) (nT nN:Nat) (vP:Value) (P:List Lx.Pd):Prop where
 pp:PR (fun _=>True) w vP P
 ok:Lx.PdOk (nT+nN) P
 bd:nT+nN≤100000
 pl:P.length≤100000
theorem SetInD.below {w w':World}{nT nN:Nat}{vP:Value}{P:List Lx.Pd}(h:SetInD w nT nN vP P)(hb:Below w.heap.size w w'):SetInD w' nT nN vP P:=⟨h.pp.below hb,h.ok,h.bd,h.pl⟩
theorem dsize_any {w:World}{ta na pa ba ka:Option Addr}{nT tc nN nc np pc nb bc nk kc:Nat}(hbd:nT+nN≤100000):Calls Tryz.prog 34 #[.agg #[.slice ta nT tc,.slice na nN nc,.slice pa np pc,.slice ba nb bc,.slice ka nk kc]] w fun e w'=>e=.returned (.int .i64 ((nT+nN:Nat):Int))∧Below w.heap.size w w':=by
 go_enter Tryz.func34,Tryz.ntmps34
 go_wp2_with fail
 go_ret
 exact⟨by rw [Int.natCast_add];rfl,(Below.refl _ _).alloc (Nat.le_refl _) _⟩
def EmptyD (w:World)(n:Nat)(P:List Lx.Pd)(e:Ending)(w':World):Prop:=∃ g E,e=.returned (.slice (some ⟨g,0,none⟩) n n)∧w.heap.size≤g∧Blk w' g (boolsV E) 4∧E.length=n∧E=Lx.itr (Lx.passE P) (P.length+1) (List.replicate n false)∧Below w.heap.size w w'
set_option maxHeartbeats 4000000 in
set_option maxRecDepth 100000 in
theorem dempty_any {w:World}{ta na ba ka:Option Addr}{nT tc nN nc nb bc nk kc:Nat}{vP:Value}{P:List Lx.Pd}(h:SetInD w nT nN vP P):Calls Tryz.prog 35 #[.agg #[.slice ta nT tc,.slice na nN nc,vP,.slice ba nb bc,.slice ka nk kc]] w (EmptyD w (nT+nN) P):=by
 obtain⟨hP,hok,hbd,hpm⟩:=h
 obtain⟨pa,pc,rfl,-⟩:∃ a c,vP=.slice a P.length c∧P.length≤maxLen:=by obtain⟨ps,h1,h2,-⟩:=hP;exact own_len h2
 obtain⟨W0,hW0⟩:∃ W,W=w.alloc (.cells #[.slice ta nT tc,.slice na nN nc,.slice pa P.length pc,.slice ba nb bc,.slice ka nk kc] 32):=⟨_,rfl⟩
 have hb0:Below w.heap.size w W0:=by rw [hW0];exact (Below.refl _ _).alloc (Nat.le_refl _) _
 have hs0:W0.heap.size=w.heap.size+1:=by rw [hW0];simp
 have kA0:Blk W0 w.heap.size #[.slice ta nT tc,.slice na nN nc,.slice pa P.length pc,.slice ba nb bc,.slice ka nk kc] 32:=by rw [hW0];exact Blk.new w _ 32
 have q0:=dsize_any (w:=W0) (ta:=ta) (na:=na) (pa:=pa) (ba:=ba) (ka:=ka) (tc:=tc) (nc:=nc) (np:=P.length) (pc:=pc) (nb:=nb) (bc:=bc) (nk:=nk) (kc:=kc) hbd
 obtain⟨n,hn⟩:∃ n,n=nT+nN:=⟨_,rfl⟩
 rw [←hn] at hok hbd q0 ⊢
 clear hn
 have hmk:=fun w=>make_boolsL hbd w
 have c0:W0.cell? ⟨w.heap.size,0,none⟩=some (.slice ta nT tc):=kA0.cell 0
 have c1:W0.cell? ⟨w.heap.size,1,none⟩=some (.slice na nN nc):=kA0.cell 1
 have c2:W0.cell? ⟨w.heap.size,2,none⟩=some (.slice pa P.length pc):=kA0.cell 2
 have c3:W0.cell? ⟨w.heap.size,3,none⟩=some (.slice ba nb bc):=kA0.cell 3
 have c4:W0.cell? ⟨w.heap.size,4,none⟩=some (.slice ka nk kc):=kA0.cell 4
 unfold EmptyD
 go_enter Tryz.func35,Tryz.ntmps35
 go_wp2_with fail
 rw [←hW0]
 clear hW0
 go_wp2_with fail
 refine q0.mono ?_
 rintro e w1 ⟨rfl,hb1⟩
 clear q0 c0 c1 c2 c3 c4
 have hs1:=hb1.size
 have kA1:Blk w1 w.heap.size _ 32:=(hb1.block _ (by omega)).trans kA0
 have hbw1:Below w.heap.size w w1:=hb0.trans (hb1.mono (by omega))
 obtain⟨W,hW⟩:∃ W,W=w1.alloc (.cells (boolsV (List.replicate n false)) 4):=⟨_,rfl⟩
 have hbW:Below w1.heap.size w1 W:=by rw [hW];exact (Below.refl _ _).alloc (Nat.le_refl _) _
 have hsW:W.heap.size=w1.heap.size+1:=by rw [hW];simp
 have kE:Blk W w1.heap.size (boolsV (List.replicate n false)) 4:=by rw [hW];exact Blk.new w1 _ 4
 have kA:Blk W w.heap.size _ 32:=(hbW.block _ (by omega)).trans kA1
 have hbwW:Below w.heap.size w W:=hbw1.trans (hbW.mono (by omega))
 go_wp2_with fail
 rw [←hW]
 clear hW hmk hb0 kA0 kA1 hb1 hbW hbw1
 obtain⟨gE,hgE⟩:∃ gE,w1.heap.size=gE:=⟨_,rfl⟩
 rw [hgE] at kE hsW hs1 ⊢
 clear hgE
 go_loopg [4] (P.length+1) (fun k v wr=>∃ (j:Nat) (E:List Bool),j+k=P.length+1∧v=.int .i64 j∧E.length=n∧Blk wr gE (boolsV E) 4∧Kp (fun g=>g<W.heap.size∧g≠gE) W wr∧Hid (E=Lx.itr (Lx.passE P) j (List.replicate n false)))
 case atStart=>exact⟨0,_,by omega,rfl,by simp,kE,Kp.refl _ _,rfl⟩
 case round =>
  revert wr
  intro wz hrel
  obtain⟨j0,E,hk0,rfl,hlE,kEz,hkz,HE⟩:=hrel
  have kAz:Blk wz w.heap.size _ 32:=kp_blk kA hkz ⟨by omega,by omega⟩
  have hsz:=hkz.size
  have z2:wz.cell? ⟨w.heap.size,2,none⟩=some (.slice pa P.length pc):=kAz.cell 2
  by_cases hlt0:j0≤P.length
  ·have H0:Hid (Lx.passE P E=Lx.passE (P.drop 0) E):=rfl
   go_wp2_with fail
   go_loopg [5] P.length (fun k i wr=>∃ (j:Nat) (F:List Bool),j+k=P.length∧i=.int .i64 j∧F.length=n∧Blk wr gE (boolsV F) 4∧Kp (fun g=>g<W.heap.size∧g≠gE) W wr∧Hid (Lx.passE P E=Lx.passE (P.drop j) F))
   case atStart=>exact⟨0,E,by omega,rfl,hlE,kEz,hkz,H0⟩
   case round =>
    clear H0 kEz hkz kAz z2
    revert wr
    intro wy hrel
    obtain⟨j,F,hkj,rfl,hlF,kF,hky,HP⟩:=hrel
    have hsy:=hky.size
    have kAy:Blk wy w.heap.size _ 32:=kp_blk kA hky ⟨by omega,by omega⟩
    have y2:wy.cell? ⟨w.heap.size,2,none⟩=some (.slice pa P.length pc):=kAy.cell 2
    have hby:Below w.heap.size w wy:=⟨hky.os.trans hbwW.os,hky.tape.trans hbwW.tape,hky.output.trans hbwW.output,by omega,fun x hx=>(hky.block x ⟨by omega,by omega⟩).trans (hbwW.block x hx)⟩
    by_cases hlt:j<P.length
    ·obtain⟨g,cap,u,hv,hu,x0,x1,x2⟩:=(hP.below hby).at hlt
     cases hv
     obtain⟨hleft,hright⟩:=hok P[j] (List.getElem_mem hlt)
     have hd:=HP.out
     rw [List.drop_eq_getElem_cons hlt,show Lx.passE (P[j]::P.drop (j+1)) F=Lx.passE (P.drop (j+1)) (Lx.stepE F P[j]) from rfl] at hd
     generalize P[j]=pd at hu x0 x1 x2 hleft hright hd
     obtain⟨pl,pr,pp⟩:=pd
     simp only at hu x0 x1 x2 hleft hright
     obtain⟨ua,uc,rfl,hul⟩:=own_len hu
     unfold maxLen at hul
     have H1:Hid (pr.all (Lx.at? F)=(true && (pr.drop 0).all (Lx.at? F))):=by show _=_;simp
     go_wp2_with fail
     go_loopg [6,7] pr.length (fun k v i wr=>∃ (q:Nat) (b:Bool),q+k=pr.length∧v=.bool b∧i=.int .i64 q∧wr=wy∧Hid (pr.all (Lx.at? F)=(b && (pr.drop q).all (Lx.at? F))))
     case atStart=>exact⟨0,true,by omega,rfl,rfl,rfl,H1⟩
     case round =>
      clear H1
      obtain⟨q,b,hkq,rfl,rfl,hww,HQ⟩:=hrel
      subst hww
      by_cases hltq:q<pr.length
      ·obtain⟨gR,capR,hvR,-,cq⟩:=hu.at (j:=q) hltq
       cases hvR
       have hq:=HQ.out
       rw [List.drop_eq_getElem_cons hltq,List.all_cons] at hq
       have hsn:=hright pr[q] (List.getElem_mem hltq)
       generalize pr[q]=sy at cq hq hsn
       have cb:wr.cell? ⟨gE,sy,none⟩=some (.bool (Lx.at? F sy)):=(kF.cell sy).trans (bools_get F (by omega))
       have i1:(0:Int)≤(sy:Int):=by omega
       have i2:(sy:Int)<(n:Int):=by omega
       cases b with
       | true =>
        have HQ2:Hid (pr.all (Lx.at? F)=(Lx.at? F sy && (pr.drop (q+1)).all (Lx.at? F))):=by show _=_;rw [hq,Bool.true_and]
        generalize Lx.at? F sy=bb at cb HQ2
        clear hq HQ
        go_wp2_with fail
        go_roundg (pr.length - (q+1))
        case measure=>omega
        case rel=>exact⟨q+1,bb,by omega,rfl,by go_num,rfl,HQ2⟩
       | false =>
        have HQ2:Hid (pr.all (Lx.at? F)=(false && (pr.drop (q+1)).all (Lx.at? F))):=by show _=_;rw [hq];rfl
        clear hq HQ
        go_wp2_with fail
        go_roundg (pr.length - (q+1))
        case measure=>omega
        case rel=>exact⟨q+1,false,by omega,rfl,by go_num,rfl,HQ2⟩
      ·have:q=pr.length:=by omega
       subst this
       have hq:=HQ.out
       rw [List.drop_length,List.all_nil,Bool.and_true] at hq
       have i1:(0:Int)≤(pl:Int):=by omega
       have i2:(pl:Int)<(n:Int):=by omega
       cases b with
       | true =>
        rw [Lx.stepE_all hq] at hd
        have HP2:Hid (Lx.passE P E=Lx.passE (P.drop (j+1)) (F.set pl true)):=hd
        have cb:wr.cell? ⟨gE,pl,none⟩=some (.bool (Lx.at? F pl)):=(kF.cell pl).trans (bools_get F (by omega))
        have fz:∀ i,wr.frozen? ⟨gE,i,none⟩=false:=kF.frozen
        have kF2:Blk (wr.setCell ⟨gE,pl,none⟩ (.bool true)) gE (boolsV (F.set pl true)) 4:=by rw [←bools_set];exact kF.set pl _
        have hk2:Kp (fun g=>g<W.heap.size∧g≠gE) W (wr.setCell ⟨gE,pl,none⟩ (.bool true)):=⟨hky.os,hky.tape,hky.output,by simp [World.setCell];omega,fun x hx=>(Below.heap_setCell _ _ _ _ hx.2).trans (hky.block x hx)⟩
        have hl2:(F.set pl true).length=n:=by rw [List.length_set];exact hlF
        clear hd HP hq HQ
        go_wp2_with fail
        go_roundg (P.length - (j+1))
        case measure=>omega
        case rel=>exact⟨j+1,_,by omega,by go_num,hl2,kF2,hk2,HP2⟩
       | false =>
        rw [Lx.stepE_no hq] at hd
        have HP2:Hid (Lx.passE P E=Lx.passE (P.drop (j+1)) F):=hd
        clear hd HP hq HQ
        go_wp2_with fail
        go_roundg (P.length - (j+1))
        case measure=>omega
        case rel=>exact⟨j+1,_,by omega,by go_num,hlF,kF,hky,HP2⟩
    ·have:j=P.length:=by omega
     subst this
     have hd:=HP.out
     rw [List.drop_length] at hd
     have HE2:Hid (F=Lx.itr (Lx.passE P) (j0+1) (List.replicate n false)):=by
      show F=Lx.passE P (Lx.itr (Lx.passE P) j0 (List.replicate n false))
      rw [←HE.out]
      exact hd.symm
     clear hd HP
     go_wp2_with fail
     go_roundg (P.length+1 - (j0+1))
     case measure=>omega
     case rel=>exact⟨j0+1,F,by omega,by go_num,hlF,kF,hky,HE2⟩
  ·have hj:j0=P.length+1:=by omega
   subst hj
   have hbz:Below w.heap.size w wz:=⟨hkz.os.trans hbwW.os,hkz.tape.trans hbwW.tape,hkz.output.trans hbwW.output,by omega,fun x hx=>(hkz.block x ⟨by omega,by omega⟩).trans (hbwW.block x hx)⟩
   go_wp2_with fail
   go_ret
   exact⟨gE,E,rfl,by omega,kEz,hlE,HE.out,hbz⟩
end
section
open Go.RowKit
open Tr
namespace Lx
def mkR (s:ByteArray):Except (Nat × Nat) Gr :=
 match parse s with
 | .error e=>.error e
 | .ok g=>if (chk g).1=0 then (if 200<(prodG g).length then .error (8,0) else .ok g) else .error (chk g)
theorem mkR_err {s:ByteArray}{e:Nat × Nat}(h:parse s=.error e):mkR s=.error e:=by unfold mkR;rw [h]
theorem mkR_chk {s:ByteArray}{g:Gr}(h:parse s=.ok g)(hc:(chk g).1≠0):mkR s=.error (chk g):=by unfold mkR;rw [h];exact if_neg hc
theorem mkR_many {s:ByteArray}{g:Gr}(h:parse s=.ok g)(hc:(chk g).1=0)(hm:200<(prodG g).length):mkR s=.error (8,0):=by unfold mkR;rw [h];exact (if_pos hc).trans (if_pos hm)
theorem mkR_ok {s:ByteArray}{g:Gr}(h:parse s=.ok g)(hc:(chk g).1=0)(hm:¬ 200<(prodG g).length):mkR s=.ok g:=by unfold mkR;rw [h];exact (if_pos hc).trans (if_neg hm)
theorem chk_zero {g:Gr}(h:(chk g).1=0):dupG g=none∧unkG g=none:=by
 unfold chk at h
 cases h1:dupG g with
 | some p=>rw [h1] at h;exact absurd h (by simp [orE])
 | none =>
  rw [h1] at h
  cases h2:unkG g with
  | some p=>rw [h2] at h;exact absurd h (by simp [orE])
  | none=>exact⟨rfl,rfl⟩
theorem lvWords_len (g:Gr):(levelWords g).length≤sizeV g.levels:=by
 have:=lvToks_len g
 unfold levelToks textsOf at this
 rw [List.length_map] at this
 exact this
theorem wdOf_len (beh:ByteArray)(il:Bool)(t:Tk)(nx:ByteArray):(wdOf beh il t nx).length≤1:=by
 unfold wdOf
 split
 ·simp
 ·split <;> simp
theorem wl_len:∀ (ts:List Tk) (beh:ByteArray) (il:Bool),(wl beh il ts).length≤ts.length
 | [],_,_=>Nat.le_refl _
 | t::ts,beh,il=>by
  rw [wl,List.length_append,List.length_cons]
  have h1:=wdOf_len beh il t (hd ts)
  have h2:=wl_len ts t.1 (nextIn il t)
  omega
theorem flat_len {s:ByteArray}{g:Gr}(h:parse s=.ok g)(hs:s.size≤2000):(flatG g).length≤100000:=by
 rw [←words_flat h]
 have h1:=wl_len (lex s) noText true
 have h2:(lex s).length≤2001:=by have:=lexAt_len s (gapEnd s 0 false);unfold lex;omega
 omega
theorem parse_size {s:ByteArray}{g:Gr}(h:parse s=.ok g):s.size≤2000:=by
 unfold parse at h
 split at h
 ·cases h
 ·omega
end Lx
end
section
open Go.RowKit
open Tr
def none5:Value:=.agg #[.slice none 0 0,.slice none 0 0,.slice none 0 0,.slice none 0 0,.slice none 0 0]
def MakeEnds (s:ByteArray)(w:World)(e:Ending)(w':World):Prop :=
 ∃ v,∃ n a:Nat,e=.returned (.tuple #[v,.int .i64 (n:Int),.int .i64 (a:Int)])∧Below w.heap.size w w'∧(∀ g,Lx.mkR s=.ok g→n=0∧a=0∧PlP w' v (Lx.tokG g) (Lx.namG g) (Lx.prodG g) ((Lx.tokG g).map fun t=>(Lx.bkOf g t).1) ((Lx.tokG g).map fun t=>(Lx.bkOf g t).2))∧(∀ x,Lx.mkR s=.error x→n=x.1∧a=x.2∧v=none5)
theorem MakeEnds.no {s:ByteArray}{w w':World}{n a:Nat}(h:Lx.mkR s=.error (n,a))(hb:Below w.heap.size w w'):MakeEnds s w (.returned (.tuple #[none5,.int .i64 (n:Int),.int .i64 (a:Int)])) w' :=
 ⟨_,n,a,rfl,hb,(fun g hg=>by rw [h] at hg;cases hg),(fun x hx=>by rw [h] at hx;cases hx;exact⟨rfl,rfl,rfl⟩)⟩
theorem put5_blk {w:World}{r t:Nat}{x0 x1 x2 x3 x4 y0 y1 y2 y3 y4:Value}(h:Blk w r #[y0,y1,y2,y3,y4] t):Blk (((((w.setCell ⟨r,0,none⟩ x0).setCell ⟨r,1,none⟩ x1).setCell ⟨r,2,none⟩ x2).setCell ⟨r,3,none⟩ x3).setCell ⟨r,4,none⟩ x4) r #[x0,x1,x2,x3,x4] t:=((((h.set 0 _).set 1 _).set 2 _).set 3 _).set 4 _
theorem put5_below {B:Nat}{a w:World}(h:Below B a w){r:Nat}(hr:B≤r)(x0 x1 x2 x3 x4:Value):Below B a (((((w.setCell ⟨r,0,none⟩ x0).setCell ⟨r,1,none⟩ x1).setCell ⟨r,2,none⟩ x2).setCell ⟨r,3,none⟩ x3).setCell ⟨r,4,none⟩ x4) :=
 ((((h.setCell (p:=⟨r,0,none⟩) hr x0).setCell (p:=⟨r,1,none⟩) hr x1).setCell (p:=⟨r,2,none⟩) hr x2).setCell (p:=⟨r,3,none⟩) hr x3).setCell (p:=⟨r,4,none⟩) hr x4
theorem put5_other (w:World)(r:Nat)(x0 x1 x2 x3 x4:Value)(g:Nat)(hn:g≠r):(((((w.setCell ⟨r,0,none⟩ x0).setCell ⟨r,1,none⟩ x1).setCell ⟨r,2,none⟩ x2).setCell ⟨r,3,none⟩ x3).setCell ⟨r,4,none⟩ x4).heap[g]?=w.heap[g]?:=by
 rw [Below.heap_setCell _ _ _ _ hn,Below.heap_setCell _ _ _ _ hn,Below.heap_setCell _ _ _ _ hn,Below.heap_setCell _ _ _ _ hn,Below.heap_setCell _ _ _ _ hn]
theorem own_ne {w:World}{B e z:Nat}{v:Value}{n:Nat}{xs:List Value}(h:w.ownsRow B e z v n xs){r t:Nat}{cs:Array Value}(hb:Blk w r cs t)(hne:e≠t):∀ g,v.ownBlock=some g→g≠r:=by
 intro g hg e1
 obtain⟨cur,hc⟩:=own_cells h hg
 unfold Blk at hb
 rw [e1,hb] at hc
 cases hc
 exact hne rfl
theorem PlP.other {w w':World}{v:Value}{T N:List ByteArray}{P:List Lx.Pd}{Bs Ks:List Nat}(h:PlP w v T N P Bs Ks){r:Nat}{cs:Array Value}(hb:Blk w r cs 26)(hk:∀ g,g<w.heap.size→g≠r→w'.heap[g]?=w.heap[g]?):PlP w' v T N P Bs Ks:=by
 obtain⟨vT,vN,vP,vB,vK,rfl,h1,h2,⟨ps,p1,p2,p3,p4⟩,h4,h5⟩:=h
 exact⟨vT,vN,vP,vB,vK,rfl,own_move h1 fun g hg=>hk g (h1.lt g hg).2 (own_ne h1 hb (by decide) g hg),own_move h2 fun g hg=>hk g (h2.lt g hg).2 (own_ne h2 hb (by decide) g hg),⟨ps,p1,own_move p2 fun g hg=>hk g (p2.lt g hg).2 (own_ne p2 hb (by decide) g hg),fun q hq=>⟨own_move (p3 q hq).1 fun g hg=>hk g ((p3 q hq).1.lt g hg).2 (own_ne (p3 q hq).1 hb (by decide) g hg),(p3 q hq).2⟩,p4⟩,own_move h4 fun g hg=>hk g (h4.lt g hg).2 (own_ne h4 hb (by decide) g hg),own_move h5 fun g hg=>hk g (h5.lt g hg).2 (own_ne h5 hb (by decide) g hg)⟩
set_option maxHeartbeats 4000000 in
set_option maxRecDepth 100000 in
theorem make_any (s:ByteArray)(w:World)(hmax:s.size≤maxLen)(ht:Tab w):Calls Tryz.prog 9 #[.string s] w (MakeEnds s w):=by
 obtain⟨W,hW⟩:∃ W,W=w.alloc (.cells #[.slice none 0 0,.slice none 0 0,.slice none 0 0,.slice none 0 0,.slice none 0 0] 26):=⟨_,rfl⟩
 have hbW:Below w.heap.size w W:=by rw [hW];exact (Below.refl _ _).alloc (Nat.le_refl _) _
 have hsW:W.heap.size=w.heap.size+1:=by rw [hW];simp
 have kR:Blk W w.heap.size #[.slice none 0 0,.slice none 0 0,.slice none 0 0,.slice none 0 0,.slice none 0 0] 26:=by rw [hW];exact Blk.new w _ 26
 have q1:=Parse_any s W hmax
 go_enter Tryz.func9,Tryz.ntmps9
 go_wp2_with fail
 rw [←hW]
 clear hW
 refine q1.mono ?_
 rintro e w1 ⟨hb1,hm⟩
 clear q1
 have hbw1:Below w.heap.size w w1:=hbW.trans (hb1.mono (by omega))
 have kR1:Blk w1 w.heap.size _ 26:=(hb1.block _ (by omega)).trans kR
 have hs1:=hb1.size
 have lr1:w.heap.size<w1.heap.size:=kR1.lt
 have r0:w1.cell? ⟨w.heap.size,0,none⟩=some (.slice none 0 0):=kR1.cell 0
 have r1:w1.cell? ⟨w.heap.size,1,none⟩=some (.slice none 0 0):=kR1.cell 1
 have r2:w1.cell? ⟨w.heap.size,2,none⟩=some (.slice none 0 0):=kR1.cell 2
 have r3:w1.cell? ⟨w.heap.size,3,none⟩=some (.slice none 0 0):=kR1.cell 3
 have r4:w1.cell? ⟨w.heap.size,4,none⟩=some (.slice none 0 0):=kR1.cell 4
 have rf:∀ i,w1.frozen? ⟨w.heap.size,i,none⟩=false:=kR1.frozen
 cases hp:Lx.parse s with
 | error x =>
  obtain⟨n,a⟩:=x
  rw [hp] at hm
  have he:e=.returned (.tuple #[.agg #[.slice none 0 0,.slice none 0 0],.int .i64 (n:Int),.int .i64 (a:Int)]):=hm
  subst he
  have HE:Hid (Lx.mkR s=.error (n,a)):=Lx.mkR_err hp
  have hn0:0<n:=Lx.parse_pos hp
  have hnb:((n:Int) != 0)=true:=bne_iff_ne.2 (by omega)
  have hnd:¬ (n:Int)=0:=by omega
  clear hm hp hn0
  go_wp2_with fail
  have kF:=(put5_blk (x0:=.slice none 0 0) (x1:=.slice none 0 0) (x2:=.slice none 0 0) (x3:=.slice none 0 0) (x4:=.slice none 0 0) kR1).alloc (.cells #[.slice none 0 0,.slice none 0 0] 65)
  have s0:=kF.cell 0
  have s1:=kF.cell 1
  have s2:=kF.cell 2
  have s3:=kF.cell 3
  have s4:=kF.cell 4
  simp at s0 s1 s2 s3 s4
  exact bodyPost_ret (v:=.tuple #[none5,.int .i64 (n:Int),.int .i64 (a:Int)]) (by simp [none5,results,Tryz.results9,go_sem,s0,s1,s2,s3,s4]) rfl (MakeEnds.no HE.out ((put5_below hbw1 (Nat.le_refl _) _ _ _ _ _).alloc (by simp;omega) _))
 | ok g =>
  rw [hp] at hm
  obtain⟨vl,vr,rfl,hg⟩:=hm
  obtain⟨la,lc,rfl,-⟩:=Seq.len hg.1
  obtain⟨ra,rc,rfl,-⟩:=(PGr.len (F:=In W.heap.size w1.heap.size) (w:=w1) ⟨fun b hb=>hb.2,SeqS.weak hg.2 fun A v x hA hk=>AltsInS.weak hA hk⟩)
  have hss:=Lx.parse_size hp
  obtain⟨W1,hW1⟩:∃ W1,W1=w1.alloc (.cells #[.slice la g.levels.length lc,.slice ra g.rules.length rc] 65):=⟨_,rfl⟩
  have hbA:Below w1.heap.size w1 W1:=by rw [hW1];exact (Below.refl _ _).alloc (Nat.le_refl _) _
  have hsA:W1.heap.size=w1.heap.size+1:=by rw [hW1];simp
  have kB:Blk W1 w1.heap.size #[.slice la g.levels.length lc,.slice ra g.rules.length rc] 65:=by rw [hW1];exact Blk.new w1 _ 65
  have q2:=wordsOf_any s W1 hss
  go_wp2_with fail
  rw [←hW1]
  clear hW1
  refine q2.mono ?_
  rintro e w2 ⟨vW,rfl,oW,hb2⟩
  clear q2
  rw [Lx.words_flat hp] at oW
  have hWR:WR w2 vW (Lx.flatG g):=own_le oW (Nat.zero_le _)
  obtain⟨wa,wc,rfl,-⟩:=hWR.len
  have hb12:Below w1.heap.size w1 w2:=hbA.trans (hb2.mono (by omega))
  have hs2:=hb2.size
  have hgm:∀ {w':World},Below w1.heap.size w1 w'→GramIn (In W.heap.size w1.heap.size) w' (.slice la g.levels.length lc) (.slice ra g.rules.length rc) g:=fun hb=>hg.move (fun b hbb=>hb.block b hbb.2) (fun _ h=>h)
  have hpg:∀ {w':World},Below w1.heap.size w1 w'→PGr (In W.heap.size w1.heap.size) w' (.slice ra g.rules.length rc) g.rules:=fun hb=>⟨fun b hbb=>Nat.lt_of_lt_of_le hbb.2 hb.size,SeqS.weak (hgm hb).2 fun A v x hA hk=>AltsInS.weak hA hk⟩
  have q3:=firstFault_any hp (hpg hb12) hWR
  have kB2:Blk w2 w1.heap.size #[.slice la g.levels.length lc,.slice ra g.rules.length rc] 65:=(hb2.block _ (by omega)).trans kB
  have g1:w2.cell? ⟨w1.heap.size,1,none⟩=some (.slice ra g.rules.length rc):=kB2.cell 1
  go_wp2_with fail
  refine q3.mono ?_
  rintro e w3 ⟨rfl,hb3⟩
  clear q3 g1
  have hs3:=hb3.size
  have hb13:Below w1.heap.size w1 w3:=hb12.trans (hb3.mono hb12.size)
  have hbw3:Below w.heap.size w w3:=hbw1.trans (hb13.mono (by omega))
  have kR3:Blk w3 w.heap.size _ 26:=(hb13.block _ lr1).trans kR1
  have kB3:Blk w3 w1.heap.size #[.slice la g.levels.length lc,.slice ra g.rules.length rc] 65:=(hb3.block _ (by omega)).trans kB2
  clear r0 r1 r2 r3 r4 rf
  by_cases hc:(Lx.chk g).1=0
  ·have h6:=Lx.chk_zero hc
   obtain⟨h1,h2,h3⟩:=Lx.parse_is hp
   obtain⟨h4,h5⟩:=Lx.parse_took hp
   have hfit:Lx.Fit g:=by
    refine⟨h1,h2,h3,fun r hr=>?_,h4,h5,h6.2,h6.1⟩
    obtain⟨i,hi,rfl⟩:=List.mem_iff_getElem.1 hr
    obtain⟨_,_,_,-,-,hA,-⟩:=(hpg hb13).at hi
    exact altsIn_dp hA
   have q4:=produce_any hp hfit (hgm hb13) (fun b hbb=>Nat.lt_of_lt_of_le hbb.2 hb13.size) (hWR.below hb3) (ht.move (hbw3.block _ ht.lt)) (Lx.flat_len hp hss)
   have hcb:(((Lx.chk g).1:Int) != 0)=false:=by simp [hc]
   have hcn:((Lx.chk g).1:Int)=0:=by omega
   have HC:Hid ((Lx.chk g).1=0):=hc
   have HM:Hid (200<(Lx.prodG g).length→Lx.mkR s=.error (8,0)):=fun hm=>Lx.mkR_many hp hc hm
   have HO:Hid (¬ 200<(Lx.prodG g).length→Lx.mkR s=.ok g):=fun hm=>Lx.mkR_ok hp hc hm
   have g0:w3.cell? ⟨w1.heap.size,0,none⟩=some (.slice la g.levels.length lc):=kB3.cell 0
   have g1:w3.cell? ⟨w1.heap.size,1,none⟩=some (.slice ra g.rules.length rc):=kB3.cell 1
   clear hc h6 h1 h2 h3 h4 h5
   generalize Lx.chk g=cr at hcb hcn HC
   go_wp2_with fail
   refine q4.mono ?_
   rintro e w4 ⟨v,rfl,hPl,hb4⟩
   clear q4 g0 g1
   obtain⟨vT,vN,vP,vB,vK,rfl,oT,oN,hPP,oB,oK⟩:=id hPl
   obtain⟨ps,p1,p2,-⟩:=id hPP
   obtain⟨ta,tc,rfl,-⟩:=own_len oT
   obtain⟨na,nc,rfl,-⟩:=own_len oN
   obtain⟨pa,pc,rfl,hpm⟩:=own_len p2
   obtain⟨ba,bc,rfl,-⟩:=own_len oB
   obtain⟨ka,kc,rfl,-⟩:=own_len oK
   clear oT oN oB oK p1 p2 hPP
   generalize ((Lx.tokG g).map fun t=>(Lx.bkOf g t).1).length=nB at hPl
   generalize ((Lx.tokG g).map fun t=>(Lx.bkOf g t).2).length=nK at hPl
   have hbw4:Below w.heap.size w w4:=hbw3.trans (hb4.mono (by omega))
   have kR4:Blk w4 w.heap.size _ 26:=(hb4.block _ (by omega)).trans kR3
   have lr4:=kR4.lt
   have r0:w4.cell? ⟨w.heap.size,0,none⟩=some (.slice none 0 0):=kR4.cell 0
   have r1:w4.cell? ⟨w.heap.size,1,none⟩=some (.slice none 0 0):=kR4.cell 1
   have r2:w4.cell? ⟨w.heap.size,2,none⟩=some (.slice none 0 0):=kR4.cell 2
   have r3:w4.cell? ⟨w.heap.size,3,none⟩=some (.slice none 0 0):=kR4.cell 3
   have r4:w4.cell? ⟨w.heap.size,4,none⟩=some (.slice none 0 0):=kR4.cell 4
   have rf:∀ i,w4.frozen? ⟨w.heap.size,i,none⟩=false:=kR4.frozen
   unfold maxLen at hpm
   by_cases hmany:200<(Lx.prodG g).length
   ·have HE:Hid (Lx.mkR s=.error (8,0)):=HM.out hmany
    have hmi:(200:Int)<((Lx.prodG g).length:Int):=by omega
    clear HM HO hmany
    go_wp2_with fail
    have kF:=(put5_blk (x0:=.slice none 0 0) (x1:=.slice none 0 0) (x2:=.slice none 0 0) (x3:=.slice none 0 0) (x4:=.slice none 0 0) kR4).alloc (.cells #[.slice ta (Lx.tokG g).length tc,.slice na (Lx.namG g).length nc,.slice pa (Lx.prodG g).length pc,.slice ba nB bc,.slice ka nK kc] 26)
    have s0:=kF.cell 0
    have s1:=kF.cell 1
    have s2:=kF.cell 2
    have s3:=kF.cell 3
    have s4:=kF.cell 4
    simp at s0 s1 s2 s3 s4
    exact bodyPost_ret (v:=.tuple #[none5,.int .i64 ((8:Nat):Int),.int .i64 ((0:Nat):Int)]) (by simp [none5,results,Tryz.results9,go_sem,s0,s1,s2,s3,s4]) rfl (MakeEnds.no HE.out ((put5_below hbw4 (Nat.le_refl _) _ _ _ _ _).alloc (by simp;omega) _))
   ·have HE:Hid (Lx.mkR s=.ok g):=HO.out hmany
    have hmi:¬ (200:Int)<((Lx.prodG g).length:Int):=by omega
    clear HM HO hmany
    go_wp2_with fail
    have kF:=(put5_blk (x0:=.slice ta (Lx.tokG g).length tc) (x1:=.slice na (Lx.namG g).length nc) (x2:=.slice pa (Lx.prodG g).length pc) (x3:=.slice ba nB bc) (x4:=.slice ka nK kc) kR4).alloc (.cells #[.slice ta (Lx.tokG g).length tc,.slice na (Lx.namG g).length nc,.slice pa (Lx.prodG g).length pc,.slice ba nB bc,.slice ka nK kc] 26)
    have s0:=kF.cell 0
    have s1:=kF.cell 1
    have s2:=kF.cell 2
    have s3:=kF.cell 3
    have s4:=kF.cell 4
    simp at s0 s1 s2 s3 s4
    refine bodyPost_ret (v:=.tuple #[.agg #[.slice ta (Lx.tokG g).length tc,.slice na (Lx.namG g).length nc,.slice pa (Lx.prodG g).length pc,.slice ba nB bc,.slice ka nK kc],.int .i64 ((0:Nat):Int),.int .i64 ((0:Nat):Int)]) (by simp [results,Tryz.results9,go_sem,s0,s1,s2,s3,s4]) rfl ⟨_,0,0,rfl,(put5_below hbw4 (Nat.le_refl _) _ _ _ _ _).alloc (by simp;omega) _,?_,?_⟩
    ·intro g' hg'
     rw [HE.out] at hg'
     cases hg'
     refine⟨rfl,rfl,hPl.other kR4 fun x hx hn=>?_⟩
     rw [Below.heap_alloc _ _ _ (by simp [World.setCell];exact hx)]
     exact put5_other w4 w.heap.size _ _ _ _ _ x hn
    ·intro x hx;rw [HE.out] at hx;cases hx
  ·have HE:Hid (Lx.mkR s=.error (Lx.chk g)):=Lx.mkR_chk hp hc
   have hcb:(((Lx.chk g).1:Int) != 0)=true:=bne_iff_ne.2 (by omega)
   have hcd:¬ ((Lx.chk g).1:Int)=0:=by omega
   clear hc
   generalize Lx.chk g=cr at HE hcb hcd
   have r0:w3.cell? ⟨w.heap.size,0,none⟩=some (.slice none 0 0):=kR3.cell 0
   have r1:w3.cell? ⟨w.heap.size,1,none⟩=some (.slice none 0 0):=kR3.cell 1
   have r2:w3.cell? ⟨w.heap.size,2,none⟩=some (.slice none 0 0):=kR3.cell 2
   have r3:w3.cell? ⟨w.heap.size,3,none⟩=some (.slice none 0 0):=kR3.cell 3
   have r4:w3.cell? ⟨w.heap.size,4,none⟩=some (.slice none 0 0):=kR3.cell 4
   have rf:∀ i,w3.frozen? ⟨w.heap.size,i,none⟩=false:=kR3.frozen
   go_wp2_with fail
   have kF:=put5_blk (x0:=.slice none 0 0) (x1:=.slice none 0 0) (x2:=.slice none 0 0) (x3:=.slice none 0 0) (x4:=.slice none 0 0) kR3
   have s0:=kF.cell 0
   have s1:=kF.cell 1
   have s2:=kF.cell 2
   have s3:=kF.cell 3
   have s4:=kF.cell 4
   simp at s0 s1 s2 s3 s4
   exact bodyPost_ret (v:=.tuple #[none5,.int .i64 (cr.1:Int),.int .i64 (cr.2:Int)]) (by simp [none5,results,Tryz.results9,go_sem,s0,s1,s2,s3,s4]) rfl (MakeEnds.no HE.out (put5_below hbw3 (Nat.le_refl _) _ _ _ _ _))
end
section
open Go.RowKit
open Tr
structure BD (B0:Nat) (w:World) (v:Value) (nT:Nat) (gs:List Nat) (B:List (List Bool)):Prop where
 outer:w.ownsRow B0 39 1 v gs.length (gs.map (slB nT))
 len:B.length=gs.length
 rows:∀ i (hi:i<gs.length) (hi':i<B.length),Blk w gs[i] (boolsV B[i]) 4
 rl:∀ b∈B,b.length=nT
 nd:gs.Nodup
 ge:∀ g∈gs,B0≤g
section
variable {B0:Nat} {w w':World} {v:Value} {nT:Nat} {gs:List Nat} {B:List (List Bool)}
theorem BD.lt (h:BD B0 w v nT gs B){g:Nat}(hg:g∈gs):g<w.heap.size:=by
 obtain⟨i,hi,rfl⟩:=List.getElem_of_mem hg
 exact (h.rows i hi (by rw [h.len];exact hi)).lt
theorem BD.no (h:BD B0 w v nT gs B){g:Nat}(hg:g∈gs):v.ownBlock≠some g:=by
 obtain⟨i,hi,rfl⟩:=List.getElem_of_mem hg
 exact fun e=>own_ne h.outer (h.rows i hi (by rw [h.len];exact hi)) (by decide) _ e rfl
theorem BD.at (h:BD B0 w v nT gs B){i:Nat}(hi:i<gs.length):∃ gO cap,v=.slice (some ⟨gO,0,none⟩) gs.length cap∧w.cell? ⟨gO,i,none⟩=some (.slice (some ⟨gs[i],0,none⟩) nT nT)∧Blk w gs[i] (boolsV (Lx.rowAt B i)) 4∧(Lx.rowAt B i).length=nT:=by
 have hi':i<B.length:=by rw [h.len];exact hi
 have ho:=h.outer
 obtain⟨gO,cap,rfl,-,-⟩:=ho.form (by omega)
 refine⟨gO,cap,rfl,?_,?_⟩
 ·rw [ho.cellAt i (by omega)]
  simp [hi,slB]
 ·rw [Lx.rowAt_eq hi']
  exact⟨h.rows i hi hi',h.rl _ (List.getElem_mem hi')⟩
theorem BD.join (h:BD B0 w v nT gs B){l:Nat}(hl:l<gs.length){A C:List Bool}(hj:JoinP w gs[l] A C w')(hC:C.length=nT):BD B0 w' v nT gs (B.set l C):=by
 have hno:=h.no (List.getElem_mem hl)
 obtain⟨h1,h2,h3,h4,h5,h6⟩:=h
 refine⟨own_move h1 fun g hg=>hj.oth g (fun e=>hno (e ▸ hg)),by rw [List.length_set];exact h2,fun i hi hi'=>?_,fun b hb=>?_,h5,h6⟩
 ·rw [List.getElem_set]
  by_cases e:l=i
  ·subst e;rw [if_pos rfl];exact hj.blk
  ·rw [if_neg e]
   refine (hj.oth _ fun e2=>e ?_).trans (h3 i hi (by rw [h2];exact hi))
   exact ((List.getElem_inj h5).1 e2).symm
 ·rcases List.mem_or_eq_of_mem_set hb with hb | rfl
  ·exact h4 b hb
  ·exact hC
theorem BD.move (h:BD B0 w v nT gs B)(hk:∀ g,g<w.heap.size→w'.heap[g]?=w.heap[g]?):BD B0 w' v nT gs B :=
 ⟨own_move h.outer fun g hg=>hk g (h.outer.lt g hg).2,h.len,fun i hi hi'=>(hk _ (h.rows i hi hi').lt).trans (h.rows i hi hi'),h.rl,h.nd,h.ge⟩
theorem BD.push (h:BD B0 w v nT gs B){w2:World}{v2:Value}{gN:Nat}{R:List Bool}(hgN:w.heap.size≤gN)(hB:B0≤w.heap.size)(hw:∀ g,g<w.heap.size→v.ownBlock≠some g→w2.heap[g]?=w.heap[g]?)(ho:w2.ownsRow B0 39 1 v2 (gs.length+1) (gs.map (slB nT)++[slB nT gN]))(hR:Blk w2 gN (boolsV R) 4)(hl:R.length=nT):BD B0 w2 v2 nT (gs++[gN]) (B++[R]):=by
 have hno:∀ g∈gs,v.ownBlock≠some g:=fun g hg=>h.no hg
 have hlt:∀ g∈gs,g<w.heap.size:=fun g hg=>h.lt hg
 obtain⟨h1,h2,h3,h4,h5,h6⟩:=h
 refine⟨by rw [List.length_append,List.map_append];exact ho,by simp [h2],fun i hi hi'=>?_,fun b hb=>?_,?_,fun g hg=>?_⟩
 ·by_cases hig:i<gs.length
  ·rw [List.getElem_append_left hig,List.getElem_append_left (by omega)]
   have hm:=List.getElem_mem hig
   exact (hw _ (hlt _ hm) (hno _ hm)).trans (h3 i hig (by omega))
  ·have hi2:i=gs.length:=by simp at hi;omega
   subst hi2
   rw [List.getElem_append_right (Nat.le_refl _),List.getElem_append_right (by omega)]
   simpa [h2] using hR
 ·rcases List.mem_append.1 hb with hb | hb
  ·exact h4 b hb
  ·rw [List.mem_singleton.1 hb];exact hl
 ·rw [List.nodup_append]
  refine⟨h5,by simp,fun a ha b hb=>?_⟩
  rw [List.mem_singleton.1 hb]
  have:=hlt a ha
  omega
 ·rcases List.mem_append.1 hg with hg | hg
  ·exact h6 g hg
  ·rw [List.mem_singleton.1 hg];omega
end
theorem Lx.alone_succ (nT j:Nat):Lx.alone nT (j+1)=Lx.alone nT j++[Lx.aloneRow nT j]:=by
 unfold Lx.alone
 rw [List.range_succ,List.map_append];rfl
def FirstD (w:World)(nT n:Nat)(P:List Lx.Pd)(e:Ending)(w':World):Prop:=∃ v gs B m,e=.returned v∧B=Lx.itr (Lx.passF P (Lx.itr (Lx.passE P) (P.length+1) (List.replicate n false))) m (Lx.alone nT n)∧Lx.passF P (Lx.itr (Lx.passE P) (P.length+1) (List.replicate n false)) B=B∧BD w.heap.size w' v nT gs B∧gs.length=n∧Below w.heap.size w w'
set_option maxHeartbeats 8000000 in
set_option maxRecDepth 100000 in
theorem dfirst_any {w:World}{ta na ba ka:Option Addr}{nT tc nN nc nb bc nk kc:Nat}{vP:Value}{P:List Lx.Pd}(h:SetInD w nT nN vP P):Calls Tryz.prog 33 #[.agg #[.slice ta nT tc,.slice na nN nc,vP,.slice ba nb bc,.slice ka nk kc]] w (FirstD w nT (nT+nN) P):=by
 have hin:=h
 obtain⟨hP,hok,hbd,hpm⟩:=h
 obtain⟨pa,pc,rfl,-⟩:∃ a c,vP=.slice a P.length c∧P.length≤maxLen:=by obtain⟨ps,h1,h2,-⟩:=hP;exact own_len h2
 obtain⟨W0,hW0⟩:∃ W,W=w.alloc (.cells #[.slice ta nT tc,.slice na nN nc,.slice pa P.length pc,.slice ba nb bc,.slice ka nk kc] 32):=⟨_,rfl⟩
 have hb0:Below w.heap.size w W0:=by rw [hW0];exact (Below.refl _ _).alloc (Nat.le_refl _) _
 have hs0:W0.heap.size=w.heap.size+1:=by rw [hW0];simp
 have kA0:Blk W0 w.heap.size #[.slice ta nT tc,.slice na nN nc,.slice pa P.length pc,.slice ba nb bc,.slice ka nk kc] 32:=by rw [hW0];exact Blk.new w _ 32
 have q0:=dempty_any (w:=W0) (ta:=ta) (na:=na) (ba:=ba) (ka:=ka) (tc:=tc) (nc:=nc) (nb:=nb) (bc:=bc) (nk:=nk) (kc:=kc) (hin.below hb0)
 have qs:=fun x:World=>dsize_any (w:=x) (ta:=ta) (na:=na) (pa:=pa) (ba:=ba) (ka:=ka) (tc:=tc) (nc:=nc) (np:=P.length) (pc:=pc) (nb:=nb) (bc:=bc) (nk:=nk) (kc:=kc) hbd
 have hnT:nT≤100000:=by omega
 obtain⟨n,hn⟩:∃ n,n=nT+nN:=⟨_,rfl⟩
 have hTn:nT≤n:=by omega
 rw [←hn] at hok hbd q0 qs ⊢
 clear hn hin
 have hmk:=fun w=>make_boolsL hnT w
 have c0:W0.cell? ⟨w.heap.size,0,none⟩=some (.slice ta nT tc):=kA0.cell 0
 have c1:W0.cell? ⟨w.heap.size,1,none⟩=some (.slice na nN nc):=kA0.cell 1
 have c2:W0.cell? ⟨w.heap.size,2,none⟩=some (.slice pa P.length pc):=kA0.cell 2
 have c3:W0.cell? ⟨w.heap.size,3,none⟩=some (.slice ba nb bc):=kA0.cell 3
 have c4:W0.cell? ⟨w.heap.size,4,none⟩=some (.slice ka nk kc):=kA0.cell 4
 obtain⟨i0,hii,hz0,hz1,hz2⟩:=info_parts Tryz.info39
 unfold FirstD
 go_enter Tryz.func33,Tryz.ntmps33
 go_wp2_with fail
 rw [←hW0]
 clear hW0
 go_wp2_with fail
 refine q0.mono ?_
 rintro e w1 ⟨gE,E,rfl,hgE,kE,hlE,hEq,hb1⟩
 clear q0 c0 c1 c2 c3 c4
 have HEQ:Hid (E=Lx.itr (Lx.passE P) (P.length+1) (List.replicate n false)):=hEq
 clear hEq
 have hs1:=hb1.size
 have kA1:Blk w1 w.heap.size _ 32:=(hb1.block _ (by omega)).trans kA0
 have hbw1:Below w.heap.size w w1:=hb0.trans (hb1.mono (by omega))
 have lE:=kE.lt
 clear hb0 kA0 hb1
 go_wp2_with fail
 go_loopg [4,5] n (fun k v i wr=>∃ (j:Nat) (gs:List Nat),j+k=n∧i=.int .i64 j∧BD w1.heap.size wr v nT gs (Lx.alone nT j)∧gs.length=j∧Below w1.heap.size w1 wr)
 case atStart=>exact⟨0,[],by omega,rfl,⟨World.ownsRow_nil _ _ _ _,rfl,(fun i hi=>absurd hi (by simp)),(fun b hb=>by simp [Lx.alone] at hb),List.nodup_nil,(fun g hg=>by cases hg)⟩,rfl,Below.refl _ _⟩
 case round =>
  revert wr
  intro wz hrel
  obtain⟨j,gs,hkj,rfl,hBz,hgl,hbz⟩:=hrel
  have HGL:Hid (gs.length=j):=hgl
  clear hgl
  obtain⟨oa,oc,rfl,-⟩:=own_len hBz.outer
  have hsz:=hbz.size
  have kAz:Blk wz w.heap.size _ 32:=(hbz.block _ (by omega)).trans kA1
  have z0:wz.cell? ⟨w.heap.size,0,none⟩=some (.slice ta nT tc):=kAz.cell 0
  have z1:wz.cell? ⟨w.heap.size,1,none⟩=some (.slice na nN nc):=kAz.cell 1
  have z2:wz.cell? ⟨w.heap.size,2,none⟩=some (.slice pa P.length pc):=kAz.cell 2
  have z3:wz.cell? ⟨w.heap.size,3,none⟩=some (.slice ba nb bc):=kAz.cell 3
  have z4:wz.cell? ⟨w.heap.size,4,none⟩=some (.slice ka nk kc):=kAz.cell 4
  have q1:=qs wz
  go_wp2_with fail
  refine q1.mono ?_
  rintro e w2 ⟨rfl,hb2⟩
  clear q1 z0 z1 z2 z3 z4
  have hs2:=hb2.size
  have kA2:Blk w2 w.heap.size _ 32:=(hb2.block _ kAz.lt).trans kAz
  have z0:w2.cell? ⟨w.heap.size,0,none⟩=some (.slice ta nT tc):=kA2.cell 0
  have z2:w2.cell? ⟨w.heap.size,2,none⟩=some (.slice pa P.length pc):=kA2.cell 2
  have hB2:BD w1.heap.size w2 (.slice oa gs.length oc) nT gs (Lx.alone nT j):=hBz.move fun g hg=>hb2.block g hg
  have hbw2:Below w1.heap.size w1 w2:=hbz.trans (hb2.mono hsz)
  clear hBz hbz hb2 kAz
  by_cases hlt:j<n
  ·obtain⟨W3,hW3⟩:∃ W,W=w2.alloc (.cells (boolsV (List.replicate nT false)) 4):=⟨_,rfl⟩
   have hb3:Below w2.heap.size w2 W3:=by rw [hW3];exact (Below.refl _ _).alloc (Nat.le_refl _) _
   have hs3:W3.heap.size=w2.heap.size+1:=by rw [hW3];simp
   have k3:Blk W3 w2.heap.size (boolsV (List.replicate nT false)) 4:=by rw [hW3];exact Blk.new w2 _ 4
   have y0:W3.cell? ⟨w.heap.size,0,none⟩=some (.slice ta nT tc):=cell_below hb3 z0
   by_cases hjT:j<nT
   ·have cN:W3.cell? ⟨w2.heap.size,j,none⟩=some (.bool false):=by
     rw [k3.cell j,bools_get _ (by simpa using hjT)]
     simp [Lx.at?,hjT]
    have fN:∀ i,W3.frozen? ⟨w2.heap.size,i,none⟩=false:=k3.frozen
    have i1:(0:Int)≤(j:Int):=by omega
    have i2:(j:Int)<(nT:Int):=by omega
    have k4:Blk (W3.setCell ⟨w2.heap.size,j,none⟩ (.bool true)) w2.heap.size (boolsV (Lx.aloneRow nT j)) 4:=by
     have:=k3.set j (.bool true)
     rw [bools_set] at this
     unfold Lx.aloneRow
     rw [if_pos hjT]
     exact this
    have hw4:∀ g,g<w2.heap.size→(W3.setCell ⟨w2.heap.size,j,none⟩ (.bool true)).heap[g]?=w2.heap[g]?:=fun g hg=>(Below.heap_setCell _ _ _ _ (by show g≠w2.heap.size;omega)).trans (hb3.block g hg)
    have o4:=own_move hB2.outer (fun g hg=>hw4 g (hB2.outer.lt g hg).2)
    have hbw4:Below w1.heap.size w1 (W3.setCell ⟨w2.heap.size,j,none⟩ (.bool true)):=(hbw2.trans (hb3.mono (by omega))).setCell (p:=⟨w2.heap.size,j,none⟩) (by show w1.heap.size≤w2.heap.size;omega) _
    have hs4:(W3.setCell ⟨w2.heap.size,j,none⟩ (.bool true)).heap.size=w2.heap.size+1:=by simp [World.setCell];exact hs3
    go_upto_region 7 with fail
    rw [←hW3]
    clear hW3 k3
    have hN5:Blk ((W3.setCell ⟨w2.heap.size,j,none⟩ (.bool true)).alloc (.cells #[.slice (some ⟨w2.heap.size,0,none⟩) nT nT] 39)) (w2.heap.size+1) #[.slice (some ⟨w2.heap.size,0,none⟩) nT nT] 39:=by
     have:=Blk.new (W3.setCell ⟨w2.heap.size,j,none⟩ (.bool true)) #[.slice (some ⟨w2.heap.size,0,none⟩) nT nT] 39
     rw [hs4] at this
     exact this
    go_wp2_with (at_builtin;go_loud (refine wpList_append_own_at _ rfl _ _ 81 rfl w1.heap.size 39 i0 _ 1 24 Tryz.underlying81 hii hz0 hz1 hz2 rfl (by decide) (.slice oa gs.length oc) _ _ rfl (o4.alloc _) ⟨_,0,none⟩ 1 1 [.slice (some ⟨w2.heap.size,0,none⟩) nT nT] rfl rfl (news_of hN5) (by simp [Value.oneCell']) (by have:=HGL.out;unfold maxLen;omega) (by have:=HGL.out;omega) (by simp;omega) ?_;intro v5 w5 hown5 hgrow5 _ hat5;obtain⟨oa5,oc5,hv5,-⟩:=own_len hown5;subst hv5))
    have hb5:Below w1.heap.size w1 w5:=(hbw4.alloc (by omega) _).grown hgrow5 (by simp;omega) (fun k hk=>(o4.lt k hk).1)
    have hgz:(some w2.heap.size)≠(Value.slice oa gs.length oc).ownBlock:=fun e=>by have:=(hB2.outer.lt _ e.symm).2;omega
    have hB5:BD w1.heap.size w5 (.slice oa5 (gs.length+1) oc5) nT (gs++[w2.heap.size]) (Lx.alone nT (j+1)):=by
     rw [Lx.alone_succ]
     exact hB2.push (Nat.le_refl _) (by omega) (fun g hg hn=>(hgrow5.block g (by simp;omega) (fun e=>hn e.symm)).trans ((Below.heap_alloc _ _ _ (by omega)).trans (hw4 g hg))) hown5 ((k4.alloc _).grown hgrow5 hgz) (Lx.aloneRow_len _ _)
    go_roundg (n - (j+1))
    case measure=>omega
    case rel=>exact⟨j+1,_,by omega,by go_num,hB5,by rw [List.length_append,List.length_singleton,HGL.out],hb5⟩
   ·have k4:Blk W3 w2.heap.size (boolsV (Lx.aloneRow nT j)) 4:=by
     unfold Lx.aloneRow
     rw [if_neg hjT]
     exact k3
    have hw4:∀ g,g<w2.heap.size→W3.heap[g]?=w2.heap[g]?:=fun g hg=>hb3.block g hg
    have o4:=own_move hB2.outer (fun g hg=>hw4 g (hB2.outer.lt g hg).2)
    have hbw4:Below w1.heap.size w1 W3:=hbw2.trans (hb3.mono (by omega))
    have hs4:=hs3
    go_upto_region 7 with fail
    rw [←hW3]
    clear hW3 k3
    have hN5:Blk (W3.alloc (.cells #[.slice (some ⟨w2.heap.size,0,none⟩) nT nT] 39)) (w2.heap.size+1) #[.slice (some ⟨w2.heap.size,0,none⟩) nT nT] 39:=by
     have:=Blk.new W3 #[.slice (some ⟨w2.heap.size,0,none⟩) nT nT] 39
     rw [hs4] at this
     exact this
    go_wp2_with (at_builtin;go_loud (refine wpList_append_own_at _ rfl _ _ 81 rfl w1.heap.size 39 i0 _ 1 24 Tryz.underlying81 hii hz0 hz1 hz2 rfl (by decide) (.slice oa gs.length oc) _ _ rfl (o4.alloc _) ⟨_,0,none⟩ 1 1 [.slice (some ⟨w2.heap.size,0,none⟩) nT nT] rfl rfl (news_of hN5) (by simp [Value.oneCell']) (by have:=HGL.out;unfold maxLen;omega) (by have:=HGL.out;omega) (by simp;omega) ?_;intro v5 w5 hown5 hgrow5 _ hat5;obtain⟨oa5,oc5,hv5,-⟩:=own_len hown5;subst hv5))
    have hb5:Below w1.heap.size w1 w5:=(hbw4.alloc (by omega) _).grown hgrow5 (by simp;omega) (fun k hk=>(o4.lt k hk).1)
    have hgz:(some w2.heap.size)≠(Value.slice oa gs.length oc).ownBlock:=fun e=>by have:=(hB2.outer.lt _ e.symm).2;omega
    have hB5:BD w1.heap.size w5 (.slice oa5 (gs.length+1) oc5) nT (gs++[w2.heap.size]) (Lx.alone nT (j+1)):=by
     rw [Lx.alone_succ]
     exact hB2.push (Nat.le_refl _) (by omega) (fun g hg hn=>(hgrow5.block g (by simp;omega) (fun e=>hn e.symm)).trans ((Below.heap_alloc _ _ _ (by omega)).trans (hw4 g hg))) hown5 ((k4.alloc _).grown hgrow5 hgz) (Lx.aloneRow_len _ _)
    go_roundg (n - (j+1))
    case measure=>omega
    case rel=>exact⟨j+1,_,by omega,by go_num,hB5,by rw [List.length_append,List.length_singleton,HGL.out],hb5⟩
  ·have hjn:j=n:=by omega
   subst hjn
   generalize Value.slice oa gs.length oc=vf at *
   go_wp2_with fail
   go_loopg [7] (j*nT+1) (fun k v wr=>∃ (b:Bool) (B:List (List Bool)) (m:Nat),v=.bool b∧(b=true→j*nT-Lx.tot B+1≤k)∧BD w1.heap.size wr vf nT gs B∧Below w1.heap.size w1 wr∧wr.heap.size=w2.heap.size∧Hid (B=Lx.itr (Lx.passF P E) m (Lx.alone nT j))∧Hid (b=false→Lx.passF P E B=B))
   case atStart=>exact⟨true,_,0,rfl,fun _=>by omega,hB2,hbw2,rfl,rfl,fun h=>by cases h⟩
   case round =>
    clear z0 z2
    revert wr
    intro wz hrel
    obtain⟨b,B,m,rfl,hbk,hBz,hbz,hsz2,HB,HF⟩:=hrel
    have kAz:Blk wz w.heap.size _ 32:=(hbz.block _ (by omega)).trans kA1
    have z2:wz.cell? ⟨w.heap.size,2,none⟩=some (.slice pa P.length pc):=kAz.cell 2
    cases b with
    | true =>
     obtain⟨K0,HK0⟩:∃ K0,Hid (K0=gk):=⟨gk,rfl⟩
     have hk2:j*nT-Lx.tot B+1≤K0:=by rw [HK0.out];exact hbk rfl
     have htl:∀ {C:List (List Bool)} {x:World},BD w1.heap.size x vf nT gs C→Lx.tot C≤j*nT:=fun hC=>by
      have:=Lx.tot_le hC.rl
      rw [hC.len,HGL.out] at this
      exact this
     clear hbk HF
     have H0:Hid (Lx.passF P E B=Lx.passF (P.drop 0) E B):=rfl
     go_wp2_with fail
     go_loopg [7,8] P.length (fun k v i wr=>∃ (jj:Nat) (b:Bool) (C:List (List Bool)),jj+k=P.length∧v=.bool b∧i=.int .i64 jj∧BD w1.heap.size wr vf nT gs C∧Below w1.heap.size w1 wr∧wr.heap.size=w2.heap.size∧Hid ((b=false→C=B)∧(b=true→Lx.tot B<Lx.tot C)∧Lx.tot B≤Lx.tot C)∧Hid (Lx.passF P E B=Lx.passF (P.drop jj) E C))
     case atStart=>exact⟨0,false,B,by omega,rfl,rfl,hBz,hbz,hsz2,⟨fun _=>rfl,(fun h=>by cases h),Nat.le_refl _⟩,H0⟩
     case round =>
      clear H0 hBz hbz kAz z2 hsz2
      revert wr
      intro wy hrel
      obtain⟨jj,b,C,hkj2,rfl,rfl,hC,hby,hsy,HC,HP⟩:=hrel
      have kAy:Blk wy w.heap.size _ 32:=(hby.block _ (by omega)).trans kA1
      have y0:wy.cell? ⟨w.heap.size,0,none⟩=some (.slice ta nT tc):=kAy.cell 0
      have y2:wy.cell? ⟨w.heap.size,2,none⟩=some (.slice pa P.length pc):=kAy.cell 2
      have hbwy:Below w.heap.size w wy:=hbw1.trans (hby.mono (by omega))
      by_cases hlt:jj<P.length
      ·obtain⟨g,cap,u,hv,hu,x0,x1,x2⟩:=(hP.below hbwy).at hlt
       cases hv
       obtain⟨hleft,hright⟩:=hok P[jj] (List.getElem_mem hlt)
       have hd:=HP.out
       rw [List.drop_eq_getElem_cons hlt,show Lx.passF (P[jj]::P.drop (jj+1)) E C=Lx.passF (P.drop (jj+1)) E (Lx.stepF E C P[jj]) from rfl,Lx.stepF_R] at hd
       have hbu:∀ g,u.ownBlock=some g→g<w1.heap.size:=by
        intro g' hg'
        obtain⟨g2,cap2,u2,hv2,hu2,-,x12,-⟩:=hP.at hlt
        cases hv2
        have:wy.cell? ⟨g,jj*3+1,none⟩=some u2:=cell_below hbwy x12
        rw [x1] at this
        cases this
        have:=(hu2.lt g' hg').2
        omega
       generalize P[jj]=pd at hu x0 x1 x2 hleft hright hd
       obtain⟨pl,pr,pp⟩:=pd
       simp only at hu x0 x1 x2 hleft hright hd
       obtain⟨ua,uc,rfl,hul⟩:=own_len hu
       unfold maxLen at hul
       obtain⟨gO,capO,hvO,oP,kP,lP⟩:=hC.at (i:=pl) (by rw [HGL.out];exact hleft)
       subst hvO
       have i1:(0:Int)≤(pl:Int):=by omega
       have i2:(pl:Int)<(gs.length:Int):=by have:=HGL.out;omega
       have hgP:gs[pl]'(by rw [HGL.out];exact hleft)∈gs:=List.getElem_mem _
       have hgO:gO≠gs[pl]'(by rw [HGL.out];exact hleft):=fun e=>hC.no hgP (by rw [e];rfl)
       obtain⟨ga,hga⟩:∃ ga,gs[pl]'(by rw [HGL.out];exact hleft)=ga:=⟨_,rfl⟩
       rw [hga] at oP kP hgP hgO
       have H3:Hid (Lx.passF P E B=Lx.passF (P.drop (jj+1)) E (Lx.stepR E pl C (pr.drop 0))):=hd
       clear hd HP kP lP
       go_wp2_with fail
       clear x0 x1 x2
       go_loopg [7,11] pr.length (fun k v i wr=>∃ (q:Nat) (b2:Bool) (C2:List (List Bool)),q+k=pr.length∧v=.bool b2∧i=.int .i64 q∧BD w1.heap.size wr (.slice (some ⟨gO,0,none⟩) gs.length capO) nT gs C2∧Below w1.heap.size w1 wr∧wr.heap.size=w2.heap.size∧Hid ((b2=false→C2=B)∧(b2=true→Lx.tot B<Lx.tot C2)∧Lx.tot B≤Lx.tot C2)∧Hid (Lx.passF P E B=Lx.passF (P.drop (jj+1)) E (Lx.stepR E pl C2 (pr.drop q))))
       case atStart=>exact⟨0,b,C,by omega,rfl,rfl,hC,hby,hsy,HC,H3⟩
       case round =>
        clear H3 HC
        revert wr
        intro wx hrel
        obtain⟨q,b2,C2,hkq,rfl,rfl,hC2,hbx,hsx,HC2,H3⟩:=hrel
        have kAx:Blk wx w.heap.size _ 32:=(hbx.block _ (by omega)).trans kA1
        have v0:wx.cell? ⟨w.heap.size,0,none⟩=some (.slice ta nT tc):=kAx.cell 0
        have hur:IR 0 wx (.slice ua pr.length uc) pr:=own_move hu fun g hg=>(hbx.block g (hbu g hg)).trans (hby.block g (hbu g hg)).symm
        have kEx:Blk wx gE (boolsV E) 4:=(hbx.block _ lE).trans kE
        by_cases hltq:q<pr.length
        ·obtain⟨gR,capR,hvR,lgR,cq⟩:=hur.at (j:=q) hltq
         cases hvR
         have lgR1:gR<w1.heap.size:=hbu gR rfl
         have h3:=H3.out
         rw [List.drop_eq_getElem_cons hltq,Lx.stepR] at h3
         have hsn:=hright pr[q] (List.getElem_mem hltq)
         generalize pr[q]=sy at cq h3 hsn
         obtain⟨gO1,capO1,hv1,o1,k1,l1⟩:=hC2.at (i:=pl) (by rw [HGL.out];exact hleft)
         cases hv1
         obtain⟨gO2,capO2,hv2,o2,k2,l2⟩:=hC2.at (i:=sy) (by rw [HGL.out];exact hsn)
         cases hv2
         rw [hga] at o1 k1
         have i3:(0:Int)≤(sy:Int):=by omega
         have i4:(sy:Int)<(gs.length:Int):=by have:=HGL.out;omega
         have i5:(sy:Int)<(j:Int):=by omega
         have lga:=hC2.lt hgP
         have gga:=hC2.ge _ hgP
         have cE:wx.cell? ⟨gE,sy,none⟩=some (.bool (Lx.at? E sy)):=(kEx.cell sy).trans (bools_get E (by omega))
         by_cases hps:sy=pl
         ·subst hps
          rw [hga] at o2 k2
          have hjs:Lx.joinS sy C2 sy=C2:=by
           unfold Lx.joinS
           rw [Lx.orL_self,Lx.rowAt_eq (by have:=hC2.len;have:=HGL.out;omega)]
           exact List.set_getElem_self _
          rw [hjs] at h3
          have H4:Hid (Lx.passF P E B=Lx.passF (P.drop (jj+1)) E (if Lx.at? E sy=true then Lx.stepR E sy C2 (pr.drop (q+1)) else C2)):=h3
          clear h3 H3 hjs
          go_wp2_with fail
          go_loopg [7,12] nT (fun k v i wr=>∃ t:Nat,t+k=nT∧v=.bool b2∧i=.int .i64 t∧wr=wx)
          case atStart=>exact⟨0,by omega,rfl,rfl,rfl⟩
          case round =>
           obtain⟨t,hkt,rfl,rfl,hww⟩:=hrel
           subst hww
           by_cases hltt:t<nT
           ·have cA:wr.cell? ⟨ga,t,none⟩=some (.bool (Lx.at? (Lx.rowAt C2 sy) t)):=(k1.cell t).trans (bools_get _ (by omega))
            have j1:(0:Int)≤(t:Int):=by omega
            have j2:(t:Int)<(nT:Int):=by omega
            cases hat:Lx.at? (Lx.rowAt C2 sy) t with
            | true =>
             rw [hat] at cA
             clear hat
             go_wp2_with fail
             go_roundg (nT - (t+1))
             case measure=>omega
             case rel=>exact⟨t+1,by omega,rfl,by go_num,rfl⟩
            | false =>
             rw [hat] at cA
             clear hat
             go_wp2_with fail
             go_roundg (nT - (t+1))
             case measure=>omega
             case rel=>exact⟨t+1,by omega,rfl,by go_num,rfl⟩
           ·have:t=nT:=by omega
            subst this
            cases hat:Lx.at? E sy with
            | true =>
             have h4:=H4.out
             rw [if_pos hat] at h4
             have H5:Hid _:=h4
             rw [hat] at cE
             clear h4 H4 hat
             go_wp2_with fail
             go_roundg (pr.length - (q+1))
             case measure=>omega
             case rel=>exact⟨q+1,b2,C2,by omega,rfl,by go_num,hC2,hbx,hsx,HC2,H5⟩
            | false =>
             have h4:=H4.out
             rw [if_neg (by rw [hat];decide)] at h4
             have H5:Hid _:=h4
             rw [hat] at cE
             clear h4 H4 hat
             go_wp2_with fail
             go_roundg (P.length - (jj+1))
             case measure=>omega
             case rel=>exact⟨jj+1,b2,C2,by omega,rfl,by go_num,hC2,hbx,hsx,HC2,H5⟩
         ·obtain⟨gb,hgb⟩:∃ gb,gs[sy]'(by rw [HGL.out];exact hsn)=gb:=⟨_,rfl⟩
          have hgS:gs[sy]'(by rw [HGL.out];exact hsn)∈gs:=List.getElem_mem _
          have hgne:ga≠gb:=fun e=>hps ((List.getElem_inj hC2.nd).1 ((hga.trans e).trans hgb.symm)).symm
          have hgOb:gO≠gb:=fun e=>hC2.no hgS (by rw [hgb,←e];rfl)
          rw [hgb] at o2 k2
          have hlC:pl<C2.length:=by rw [hC2.len,HGL.out];exact hleft
          have hts:=Lx.tot_set (B:=C2) (l:=pl) (C:=Lx.orL (Lx.rowAt C2 pl) (Lx.rowAt C2 sy)) hlC
          rw [←Lx.rowAt_eq (B:=C2) (i:=pl) hlC] at hts
          have HJ:Hid (∀ {x:World},JoinP wx ga (Lx.rowAt C2 pl) (Lx.orL (Lx.rowAt C2 pl) (Lx.rowAt C2 sy)) x→BD w1.heap.size x (.slice (some ⟨gO,0,none⟩) gs.length capO) nT gs (Lx.joinS pl C2 sy)):=fun hx=>by
           rw [←hga] at hx
           exact hC2.join (by rw [HGL.out];exact hleft) hx (by rw [Lx.orL_len];exact l1)
          have HT:Hid (Lx.tot (Lx.joinS pl C2 sy)+Lx.cntB (Lx.rowAt C2 pl)=Lx.tot C2+Lx.cntB (Lx.orL (Lx.rowAt C2 pl) (Lx.rowAt C2 sy))):=hts
          have HE0:Hid (Lx.orL (Lx.rowAt C2 pl) (Lx.rowAt C2 sy)=Lx.rowAt C2 pl→Lx.joinS pl C2 sy=C2):=fun he=>by
           unfold Lx.joinS
           rw [he,Lx.rowAt_eq hlC]
           exact List.set_getElem_self _
          have H4:Hid (Lx.passF P E B=Lx.passF (P.drop (jj+1)) E (if Lx.at? E sy=true then Lx.stepR E pl (Lx.joinS pl C2 sy) (pr.drop (q+1)) else Lx.joinS pl C2 sy)):=h3
          generalize hA:Lx.rowAt C2 pl=A at *
          generalize hS:Lx.rowAt C2 sy=S at *
          clear h3 H3 hts hA hS
          go_wp2_with fail
          go_loopg [7,12] nT (fun k v i wr=>∃ (t:Nat) (b3:Bool),t+k=nT∧v=.bool b3∧i=.int .i64 t∧JoinP wx ga A (Lx.orTo A S t) wr∧Hid ((b3=true→b2=true∨Lx.cntB A<Lx.cntB (Lx.orTo A S t))∧(b3=false→b2=false∧Lx.orTo A S t=A)∧Lx.cntB A≤Lx.cntB (Lx.orTo A S t)))
          case atStart=>exact⟨0,b2,by omega,rfl,rfl,⟨by rw [Lx.orTo_zero];exact k1,fun _ _=>rfl,rfl,rfl,rfl,rfl⟩,⟨fun h=>.inl h,fun h=>⟨h,Lx.orTo_zero A S⟩,by rw [Lx.orTo_zero];exact Nat.le_refl _⟩⟩
          case round =>
           obtain⟨t,b3,hkt,rfl,rfl,⟨hb,ho,h1,h2,h3,h4⟩,HB3⟩:=hrel
           have kAr:Blk wr w.heap.size _ 32:=(ho _ (by omega)).trans kAx
           have r0:wr.cell? ⟨w.heap.size,0,none⟩=some (.slice ta nT tc):=kAr.cell 0
           have rq:wr.cell? ⟨gR,q,none⟩=some (.int .i64 (sy:Int)):=(World.cell?_of_block (w:=wx) (ho gR (by omega))).trans cq
           have ro:wr.cell? ⟨gO,sy,none⟩=some (.slice (some ⟨gb,0,none⟩) nT nT):=(World.cell?_of_block (w:=wx) (ho gO hgO)).trans o2
           have kS:Blk wr gb (boolsV S) 4:=(ho gb (fun e=>hgne e.symm)).trans k2
           have rE:wr.cell? ⟨gE,sy,none⟩=some (.bool (Lx.at? E sy)):=(World.cell?_of_block (w:=wx) (ho gE (by omega))).trans cE
           by_cases hltt:t<nT
           ·have cS:wr.cell? ⟨gb,t,none⟩=some (.bool (Lx.at? S t)):=(kS.cell t).trans (bools_get S (by omega))
            have cA:wr.cell? ⟨ga,t,none⟩=some (.bool (Lx.at? (Lx.orTo A S t) t)):=(hb.cell t).trans (bools_get _ (by rw [Lx.orTo_len];omega))
            have fA:∀ i,wr.frozen? ⟨ga,i,none⟩=false:=hb.frozen
            have hJ:=hb.set t (.bool true)
            rw [bools_set] at hJ
            have j1:(0:Int)≤(t:Int):=by omega
            have j2:(t:Int)<(nT:Int):=by omega
            clear rE
            cases haB:Lx.at? S t with
            | false =>
             have HK:Hid (Lx.orTo A S (t+1)=Lx.orTo A S t):=Lx.orTo_keep (A:=A) (B:=S) (i:=t) (.inl haB)
             rw [haB] at cS
             clear haB hJ
             go_wp2_with fail
             go_roundg (nT - (t+1))
             case measure=>omega
             case rel=>exact⟨t+1,b3,by omega,rfl,by go_num,by rw [HK.out];exact⟨hb,ho,h1,h2,h3,h4⟩,by rw [HK.out];exact HB3⟩
            | true =>
             rw [haB] at cS
             cases haA:Lx.at? (Lx.orTo A S t) t with
             | true =>
              have HK:Hid (Lx.orTo A S (t+1)=Lx.orTo A S t):=Lx.orTo_keep (A:=A) (B:=S) (i:=t) (.inr haA)
              rw [haA] at cA
              clear haB haA hJ
              go_wp2_with fail
              go_roundg (nT - (t+1))
              case measure=>omega
              case rel=>exact⟨t+1,b3,by omega,rfl,by go_num,by rw [HK.out];exact⟨hb,ho,h1,h2,h3,h4⟩,by rw [HK.out];exact HB3⟩
             | false =>
              have hcs:=Lx.cnt_set (bs:=Lx.orTo A S t) (i:=t) (by rw [Lx.orTo_len];omega) haA
              have HK:Hid (Lx.orTo A S (t+1)=(Lx.orTo A S t).set t true):=Lx.orTo_put (A:=A) (B:=S) (i:=t) (by omega) haB
              rw [haA] at cA
              have HCT:Hid (Lx.cntB A<Lx.cntB ((Lx.orTo A S t).set t true)):=by have:=HB3.out.2.2;show _<_;omega
              clear haB haA hcs
              go_wp2_with fail
              go_roundg (nT - (t+1))
              case measure=>omega
              case rel=>exact⟨t+1,true,by omega,rfl,by go_num,by rw [HK.out];exact⟨hJ,fun g hg=>(Below.heap_setCell _ _ _ _ hg).trans (ho g hg),h1,h2,h3,by simpa [World.setCell] using h4⟩,by rw [HK.out];exact⟨fun _=>.inr HCT.out,(fun h=>by cases h),Nat.le_of_lt HCT.out⟩⟩
           ·have:t=nT:=by omega
            subst this
            have e1:Lx.orTo A S t=Lx.orL A S:=by unfold Lx.orL;rw [l1]
            rw [e1] at hb HB3
            have hB5:=HJ.out ⟨hb,ho,h1,h2,h3,h4⟩
            have hb5:Below w1.heap.size w1 wr:=⟨h1.trans hbx.os,h2.trans hbx.tape,h3.trans hbx.output,by omega,fun x hx=>(ho x (by omega)).trans (hbx.block x hx)⟩
            have hs5:wr.heap.size=w2.heap.size:=h4.trans hsx
            have HC5:Hid ((b3=false→Lx.joinS pl C2 sy=B)∧(b3=true→Lx.tot B<Lx.tot (Lx.joinS pl C2 sy))∧Lx.tot B≤Lx.tot (Lx.joinS pl C2 sy)):=by
             have a1:=HT.out
             have a2:=HC2.out
             have a3:=HB3.out
             refine⟨fun h=>?_,fun h=>?_,?_⟩
             ·rw [HE0.out (a3.2.1 h).2];exact a2.1 (a3.2.1 h).1
             ·rcases a3.1 h with h | h
              ·have:=a2.2.1 h;have:=a3.2.2;omega
              ·have:=a2.2.2;omega
             ·have:=a2.2.2;have:=a3.2.2;omega
            clear e1 HB3 HT HE0 HJ kS ro
            generalize Lx.joinS pl C2 sy=C5 at hB5 HC5 H4
            cases hat:Lx.at? E sy with
            | true =>
             have h4':=H4.out
             rw [if_pos hat] at h4'
             have H5:Hid _:=h4'
             rw [hat] at rE
             clear h4' H4 hat
             go_wp2_with fail
             go_roundg (pr.length - (q+1))
             case measure=>omega
             case rel=>exact⟨q+1,b3,C5,by omega,rfl,by go_num,hB5,hb5,hs5,HC5,H5⟩
            | false =>
             have h4':=H4.out
             rw [if_neg (by rw [hat];decide)] at h4'
             have H5:Hid _:=h4'
             rw [hat] at rE
             clear h4' H4 hat
             go_wp2_with fail
             go_roundg (P.length - (jj+1))
             case measure=>omega
             case rel=>exact⟨jj+1,b3,C5,by omega,rfl,by go_num,hB5,hb5,hs5,HC5,H5⟩
        ·have:q=pr.length:=by omega
         subst this
         have h3:=H3.out
         rw [List.drop_length,Lx.stepR] at h3
         have H4:Hid _:=h3
         clear h3 H3
         go_wp2_with fail
         go_roundg (P.length - (jj+1))
         case measure=>omega
         case rel=>exact⟨jj+1,b2,C2,by omega,rfl,by go_num,hC2,hbx,hsx,HC2,H4⟩
      ·have:jj=P.length:=by omega
       subst this
       have hd:=HP.out
       rw [List.drop_length] at hd
       have HPF:Hid (Lx.passF P E B=C):=hd
       have hcF:=htl hC
       have HE2:Hid (C=Lx.itr (Lx.passF P E) (m+1) (Lx.alone nT j)):=by
        show C=Lx.passF P E (Lx.itr (Lx.passF P E) m (Lx.alone nT j))
        rw [←HB.out];exact HPF.out.symm
       have HF0:Hid (b=false→Lx.passF P E C=C):=fun hb=>by
        have h1:=HC.out.1 hb
        rw [h1]
        have:=HPF.out
        rw [h1] at this
        exact this
       have HMS:Hid (b=true→j*nT-Lx.tot C+1≤K0-1):=fun hb=>by
        have:=HC.out.2.1 hb
        omega
       clear HC HP hd htl
       go_wp2_with fail
       go_roundg (K0-1)
       case measure=>have:=HK0.out;omega
       case rel=>exact⟨b,C,m+1,rfl,HMS.out,hC,hby,hsy,HE2,HF0⟩
    | false =>
     have HF2:Hid (Lx.passF P E B=B):=HF.out rfl
     have hbf:Below w.heap.size w wz:=hbw1.trans (hbz.mono (by omega))
     have hBf:BD w.heap.size wz vf nT gs B:=⟨own_le hBz.outer (by omega),hBz.len,hBz.rows,hBz.rl,hBz.nd,fun g hg=>Nat.le_trans (by omega) (hBz.ge g hg)⟩
     clear HF hbk
     go_wp2_with fail
     go_ret
     exact⟨vf,gs,B,m,rfl,by rw [←HEQ.out];exact HB.out,by rw [←HEQ.out];exact HF2.out,hBf,HGL.out,hbf⟩
end
end Go.Proofs.YtlcppnabbicmoaaGreatDoor

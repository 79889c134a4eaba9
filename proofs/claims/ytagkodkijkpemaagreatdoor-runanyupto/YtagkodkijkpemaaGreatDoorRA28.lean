import Derived.Test.YtagkodkijkpemaaGreatDoorRA27
set_option maxHeartbeats 8000000
set_option maxRecDepth 1000000
namespace Go.Proofs.YtagkodkijkpemaaGreatDoor
open Lx Go.Proofs.Tryz
open Go.RowKit Tr
namespace Lx
def rowAt(B:List (List Bool))(i:Nat):List Bool:=B[i]?.getD []
def pG(l:Nat)(B:List (List Bool))(s:Nat):List (List Bool):=B.set l (qg (rowAt B l) (rowAt B s))
def anu(E:List Bool)(p:Pd):Nat:=min (mD E p.right+1) p.right.length
def Tx(E:List Bool)(B:List (List Bool))(p:Pd):List (List Bool):=(p.right.take (anu E p)).foldl (pG p.left) B
def gI(P:List Pd)(E:List Bool)(B:List (List Bool)):List (List Bool):=P.foldl (Tx E) B
def tot(B:List (List Bool)):Nat:=(B.map bq).sum
theorem Fp{B:List (List Bool)}{i:Nat}(h:i<B.length):rowAt B i=B[i]:=by simp[rowAt,h]
theorem abJ:∀{B:List (List Bool)}{l:Nat}{C:List Bool}(h:l<B.length),tot (B.set l C)+bq B[l]=tot B+bq C
 |b::B,0,C,_=>by simp[tot];omega
 |b::B,l+1,C,h=>by
  have:=abJ (B:=B) (l:=l) (C:=C) (by simpa using h);simp[tot]at this|-;omega
theorem acD{nT:Nat}:∀{B:List (List Bool)},(∀b∈B,b.length=nT)->tot B<=B.length*nT
 | [],_=>by simp[tot]
 |b::B,h=>by
  have h1:=acD (B:=B) fun x a=>h x (ev _ a)
  have h2:=Bw b;rw[h b eh]at h2;simp[tot,Nat.succ_mul]at h1|-;omega
theorem abK(A B:List Bool):(qg A B).length=A.length:=by unfold qg;rw[wK]
end Lx
theorem BB.at{w:World}{d nT:Nat}{b:List Nat}{B:List (List Bool)}(h:BB w d nT b B){i:Nat}(c:i<b.length):w.cell? ⟨d,i,none⟩=some (.slice (some ⟨b[i],0,none⟩) nT nT)/\aj w b[i] (bE (Lx.rowAt B i)) 4/\(Lx.rowAt B i).length=nT:=by
 have a:i<B.length:=by rw[h.len];exact c
 rw[Fp a];refine⟨?_,h.rows i c a,h.rl _ (dy a)⟩;rw[h.outer.cell i,Td];simp[c,AL]
theorem BB.join{w w':World}{f nT:Nat}{d:List Nat}{B:List (List Bool)}(h:BB w f nT d B){l:Nat}(p:l<d.length){A C:List Bool}(g:NR w d[l] A C w')(n:C.length=nT):BB w' f nT d (B.set l C):=by
 obtain⟨h1,h2,h3,h4,j,k⟩:=h;refine⟨(g.aU f (fun e=>k (e▸dy p))).trans h1,by rw[ib];exact h2,fun i o a=>?_,fun b c=>?_,j,k⟩
 ·rw[ti]
  by_cases e:l=i
  ·subst e;rw[de rfl];exact g.blk
  ·rw[dk e]
   rw[ib]at a;exact(g.aU _ (fun m=>e ((lj j).1 m).symm)).trans (h3 i o a)
 ·rcases pP c with c | c
  ·exact h4 b c
  ·rw[c];exact n
theorem BB.move{w w':World}{c nT:Nat}{d:List Nat}{B:List (List Bool)}(h:BB w c nT d B)(b:∀g,g<w.heap.size->w'.heap[g]?=w.heap[g]?):BB w' c nT d B:=⟨(b _ h.outer.lt).trans h.outer,h.len,fun i f a=>(b _ (h.rows i f a).lt).trans (h.rows i f a),h.rl,h.nd,h.no⟩
theorem Y6{n:Nat}(j:n<=100000)(w:World):(Instr.makeSlice 49 (.int .i64 (n:Int)) (.int .i64 (n:Int))).run prog w=.ok (.slice (some ⟨w.heap.size,0,none⟩) n n) (w.alloc (.cells (vA (List.replicate n (Value.slice none 0 0))) 22)):=by
 obtain⟨g,f,a,c,b⟩:=fd Tryz.ace;have h:=pj (P:=prog) w 49 22 g _ (by kernel_rfl) f a .i64 .i64 (n:Int) (n:Int) (by omega) (nh _) (by rw[b];omega) (by omega);rw[h,gz,c];have e:Value.cells (.slice none 0 0)=#[.slice none 0 0]:=rfl;have d:madeCells #[.slice none 0 0] (n*1)=(vA (List.replicate n (Value.slice none 0 0))):=by
  unfold madeCells vA;apply pN
  ·simp
  ·intro i h1 h2
   simp[Nat.mod_one]
 rw[e,d]
def GL(B:Nat)(w:World)(v:Value)(ps:List (List Nat)):Prop:=∃qs,TR B w v ps qs/\qs.Pairwise fun a b=>∀g,a.1.ownBlock=some g->b.1.ownBlock≠some g
def acE(w:World)(nT n:Nat)(P:List Lx.Pd)(E:List Bool)(e:Ending)(w':World):Prop:=∃v B m,e=.returned v/\B=qZ (gI P E) m (Lx.alone nT n)/\gI P E B=B/\GL w.heap.size w' v (B.map jE)/\Below w.heap.size w w'
theorem aeJ{w:World}{ta:Option Addr}{nT tc:Nat}{na:Option Addr}{nN nc:Nat}{vP:Value}{P:List Lx.Pd}{ba ka:Option Addr}{nb bc nk kc gE:Nat}{E:List Bool}(h:FU w ta nT tc na nN nc vP P)(kE:aj w gE (bE E) 4)(hE:E.length=nT+nN)(bv:∀p∈P,p.right.length<=100000):Calls prog 91 #[.agg #[.slice ta nT tc,.slice na nN nc,vP,.slice ba nb bc,.slice ka nk kc],.slice (some ⟨gE,0,none⟩) (nT+nN) (nT+nN)] w (acE w nT (nT+nN) P E):=by
 obtain⟨hP,a4,ar⟩:=h;obtain⟨pa,pc,rfl,bb⟩:∃a c,vP=.slice a P.length c/\P.length<=maxLen:=by obtain⟨ps,h1,h2,-⟩:=hP;exact aB h2
 unfold maxLen at bb;obtain⟨W,hW⟩:∃W,W=w.alloc (.cells #[.slice ta nT tc,.slice na nN nc,.slice pa P.length pc,.slice ba nb bc,.slice ka nk kc] 56):=⟨_,rfl⟩;have bi:Below w.heap.size w W:=by rw[hW];exact(cV _ _).alloc (zL0) _
 have zk:W.heap.size=w.heap.size+1:=by rw[hW];simp
 have kA:aj W w.heap.size #[.slice ta nT tc,.slice na nN nc,.slice pa P.length pc,.slice ba nb bc,.slice ka nk kc] 56:=by rw[hW];exact aj.new w _ 56
 have q0:=aeI (w:=W) (ta:=ta) (tc:=tc) (na:=na) (nc:=nc) (vP:=.slice pa P.length pc) (vB:=.slice ba nb bc) (vK:=.slice ka nk kc) rfl rfl rfl ar;have CG:nT<=100000:=by omega
 obtain⟨n,hn⟩:∃n,n=nT+nN:=⟨_,rfl⟩;rw[<-hn]at a4 ar hE q0|-;clear hn;unfold acE;go_enter func91,ntmps91;go_wp2_with fail;rw[<-hW];clear hW;refine q0.mono ?_;rintro e w1⟨M,F,rfl,iE,bp,a3,ap⟩;clear q0;have bO:=ap.size;have Z:Below w.heap.size w w1:=bi.trans (ap.mono (by omega));have bs:aj w1 w.heap.size _ 56:=(ap.block _ (by omega)).trans kA;have ck:aj w1 gE (bE E) 4:=(Z.block _ kE.lt).trans kE;have lE:=kE.lt;have al:F.length=n:=by rw[<-a3.len];simp[Lx.alone]
 go_wp2_with fail
 go_loopg [6] (n*nT+1) (fun k v wr=>∃(b:Bool)(B:List (List Bool))(m:Nat),v=.bool b/\(b=true->n*nT-Lx.tot B+1<=k)/\BB wr M nT F B/\Kp (fun g=>g<W.heap.size) w1 wr/\Hid (B=qZ (gI P E) m (Lx.alone nT n))/\Hid (b=false->gI P E B=B))
 case atStart=>exact⟨true,_,0,rfl,fun _=>by omega,a3,Kp.refl _ _,rfl,fun h=>by cases h⟩
 case round=>
  revert wr;intro t hrel;obtain⟨b,B,m,rfl,aw,K8,L,HB,HF⟩:=hrel;have Cq:aj t w.heap.size _ 56:=dW bs L (by show w.heap.size<W.heap.size;omega);have z2:t.cell? ⟨w.heap.size,2,none⟩=some (.slice pa P.length pc):=Cq.cell 2;cases b with
  |true=>
   obtain⟨K0,xU⟩:∃K0,Hid (K0=gk):=⟨gk,rfl⟩;have cm:n*nT-Lx.tot B+1<=K0:=by rw[xU.out];exact aw rfl
   have a5:∀{C:List (List Bool)}{x:World},BB x M nT F C->Lx.tot C<=n*nT:=fun hC=>by
    have:=acD hC.rl;rw[hC.len,al]at this;exact this
   clear aw HF;have H0:Hid (gI P E B=gI (P.drop 0) E B):=rfl;go_wp2_with fail
   go_loopg [6,21] P.length (fun k v i wr=>∃(j:Nat)(b:Bool)(C:List (List Bool)),j+k=P.length/\v=.bool b/\i=.int .i64 j/\BB wr M nT F C/\Kp (fun g=>g<W.heap.size) w1 wr/\Hid ((b=false->C=B)/\(b=true->Lx.tot B<Lx.tot C)/\Lx.tot B<=Lx.tot C)/\Hid (gI P E B=gI (P.drop j) E C))
   case atStart=>exact⟨0,false,B,by omega,rfl,rfl,K8,L,⟨fun _=>rfl,(fun h=>by cases h),zL0⟩,H0⟩
   case round=>
    clear H0 K8 L Cq z2;revert wr;intro A hrel;obtain⟨j,b,C,bj,rfl,rfl,hC,I,HC,HP⟩:=hrel;have bS:=I.size;have T:Below w.heap.size w A:=⟨I.os.trans Z.os,I.tape.trans Z.tape,I.output.trans Z.output,dg Z.size I.size,fun x f=>(I.block x (by show x<W.heap.size;omega)).trans (Z.block x f)⟩
    by_cases hlt:j<P.length
    ·obtain⟨g,bR,u,hv,ae,a2,ax,a1⟩:=hP.at hlt
     cases hv;have hu:IR 0 A u P[j].right:=own_below ae T;have x0:=cell_below T a2;have x1:=cell_below T ax;have x2:=cell_below T a1;clear a2 ax a1;obtain⟨V,r⟩:=a4 P[j] (dy hlt);have a7:=bv P[j] (dy hlt);have hd:=HP.out;rw[eL hlt,show gI (P[j]::P.drop (j+1)) E C=gI (P.drop (j+1)) E (Tx E C P[j]) from rfl]at hd;generalize P[j]=pd at hu ae x0 x1 x2 V r hd a7;obtain⟨pl,pr,pp⟩:=pd;simp only at hu ae x0 x1 x2 V r a7;obtain⟨Q,K,rfl,-⟩:=aB hu;obtain⟨O,ab⟩:∃O,O=A.alloc (.cells #[.int .i64 (pl:Int),.slice Q pr.length K,.int .i64 pp] 120):=⟨_,rfl⟩;have dM:Below A.heap.size A O.drew:=by rw[ab];exact((cV _ _).alloc (zL0) _).drew
     have cd:O.heap.size=A.heap.size+1:=by rw[ab];simp
     have kp:aj O.drew A.heap.size #[.int .i64 (pl:Int),.slice Q pr.length K,.int .i64 pp] 120:=by rw[ab];exact(aj.new A _ 120).drew
     have aG:aj O.drew gE (bE E) 4:=(dM.block _ (by have:=T.size;omega)).trans ((T.block _ lE).trans kE);have VY:BB O.drew M nT F C:=hC.move fun x f=>dM.block x f
     have Ct:Kp (fun g=>g<W.heap.size) w1 O.drew:=I.trans (Kp.below dM (D:=fun g=>g<A.heap.size) fun g H=>H) fun g H=>by show g<A.heap.size;omega
     have p1:O.drew.cell? ⟨A.heap.size,1,none⟩=some (.slice Q pr.length K):=kp.cell 1;have af:IR 0 O.drew (.slice Q pr.length K) pr:=own_below hu dM;have N:=Xd af aG (fun s hs=>by rw[hE];exact r s hs);rw[hE]at N;have JW:=Rq E pr;have ao:Hid (Tx E C ⟨pl,pr,pp⟩=(pr.take (min (mD E pr+1) pr.length)).foldl (pG pl) C):=rfl;obtain⟨z,ac⟩:∃z,z=min (mD E pr+1) pr.length:=⟨_,rfl⟩;rw[<-ac]at ao;have KC:Hid (z=min (mD E pr+1) pr.length):=ac;have ce:z<=pr.length:=by omega
     generalize mD E pr=an at N JW KC ac;clear ac;go_wp2_with fail;rw[<-ab];clear ab x0 x1 x2
     go_region_held3 (fun w'=>w'.cell? ⟨A.heap.size,1,none⟩=some (.slice Q pr.length K)) (first | go_keep | assumption) ((go_at_call 130;refine N.mono ?_;rintro e U⟨rfl,jh⟩;subst jh))
     have ai:min (IntKind.i64.wrap ((an:Int)+1)) (pr.length:Int)=(z:Int):=by
      rw[show ((an:Int)+1)=((an+1:Nat):Int) from by omega,wrap64 (by omega),KC.out];omega
     rw[ai];clear ai N;rw[ao.out]at hd;have bw:Hid (∀s∈pr.take z,s<n):=fun s hs=>r s (nz hs)
     have bN:=Ni af;have c0:(0:Int)<=(z:Int):=by omega
     have c1:(z:Int)<=(K:Int):=by omega
     have Y:(pr.take z).length=z:=by rw[fN];omega
     have CJ:∀x∈F,x<A.heap.size:=fun x f=>by
      obtain⟨i,hi,rfl⟩:=li f;exact(hC.rows i hi (by rw[hC.len];exact hi)).lt
     have H3:Hid (gI P E B=gI (P.drop (j+1)) E (((pr.take z).drop 0).foldl (pG pl) C)):=hd;have HU:Hid (∀{x:World},Kp (fun g=>g<W.heap.size\/g=A.heap.size) O.drew x->IR 0 x (.slice Q pr.length K) pr):=fun f=>aC af fun g H=>f.block g (.inl (by have:=(ae.lt g H).2;omega))
     clear hd HP;rcases af.2 with ⟨e1,e2⟩|⟨gR,cf,ci,jL,-,aP,bh,aH,b1,bo⟩
     ·have bx:z=0:=by omega
      subst bx;have H4:Hid (gI P E B=gI (P.drop (j+1)) E C):=by show _=_;have:=H3.out;simpa using this
      simp only[rm]at e1;obtain⟨rfl,-,rfl⟩:=e1;have bF:pr=[]:=fY e2;subst bF;clear H3 ao KC e2 Y bw HU;go_wp2_with fail
      go_loopg [6,39] 0 (fun k v i wr=>k=0/\v=.bool b/\i=.int .i64 0/\wr=O.drew)
      case atStart=>exact⟨rfl,rfl,rfl,rfl⟩
      case round=>
       obtain⟨rfl,rfl,rfl,rfl⟩:=hrel;go_wp2_with fail;go_roundg (P.length - (j+1))
       case measure=>omega
       case rel=>exact⟨j+1,b,C,by omega,rfl,by go_num,VY,Ct,HC,H4⟩
     ·cases jL
      clear bo b1 aP aH bh;go_wp2_with fail
      go_loopg [6,39] z (fun k v i wr=>∃(q:Nat)(b2:Bool)(o:List (List Bool)),q+k=z/\v=.bool b2/\i=.int .i64 q/\BB wr M nT F o/\Kp (fun g=>g<W.heap.size\/g=A.heap.size) O.drew wr/\Hid ((b2=false->o=B)/\(b2=true->Lx.tot B<Lx.tot o)/\Lx.tot B<=Lx.tot o)/\Hid (gI P E B=gI (P.drop (j+1)) E (((pr.take z).drop q).foldl (pG pl) o)))
      case atStart=>exact⟨0,b,C,by omega,rfl,rfl,VY,Kp.refl _ _,HC,H3⟩
      case round=>
       clear H3 VY p1 aG;obtain⟨q,b2,o,ch,rfl,rfl,R,d,qF,H3⟩:=hrel
       by_cases uV:q<z
       ·have bf:=HU.out d
        obtain⟨bU,cc,b6,-,cq⟩:=bf.at (j:=q) (by omega);cases b6;have h3:=H3.out;have b8:q<(pr.take z).length:=by rw[Y];exact uV
        have av:(pr.take z).drop q=(pr.take z)[q]::(pr.take z).drop (q+1):=eL b8;rw[av,qr,List.getElem_take]at h3;have b4:=r pr[q] (dy (by omega));generalize pr[q]=sy at cq h3 b4;obtain⟨o1,o2,o3⟩:=R.at (i:=pl) (by omega);obtain⟨y1,y2,y3⟩:=R.at (i:=sy) (by omega);have bz:aj wr A.heap.size #[.int .i64 (pl:Int),.slice (some ⟨gR,0,none⟩) pr.length K,.int .i64 pp] 120:=dW kp d (.inr rfl);have dp:wr.drew.cell? ⟨A.heap.size,0,none⟩=some (.int .i64 (pl:Int)):=bz.drew.cell 0;have Pz:wr.drew.cell? ⟨M,pl,none⟩=some (.slice (some ⟨F[pl]'(by omega),0,none⟩) nT nT):=o1;have PD:wr.drew.cell? ⟨M,sy,none⟩=some (.slice (some ⟨F[sy]'(by omega),0,none⟩) nT nT):=y1;have i1:(0:Int)<=(pl:Int):=by omega
        have i2:(pl:Int)<(n:Int):=by omega
        have i3:(0:Int)<=(sy:Int):=by omega
        have i4:(sy:Int)<(n:Int):=by omega
        have cg:o.length=n:=by rw[R.len];exact al
        have a6:BB wr.drew M nT F o:=R.move fun _ _=>rfl
        by_cases hps:sy=pl
        ·subst hps
         have aA:pG sy o sy=o:=by
          unfold pG;rw[ajX,Fp (by omega)];exact List.set_getElem_self _
         rw[aA]at h3;have H4:Hid (gI P E B=gI (P.drop (j+1)) E (((pr.take z).drop (q+1)).foldl (pG sy) o)):=h3;have N:=join_self (w:=wr.drew) (o2.drew) o3 CG;have bg:Kp (fun g=>g<W.heap.size\/g=A.heap.size) O.drew wr.drew:=⟨d.os,d.tape,d.output,d.size,d.block⟩;generalize F[sy]'(by omega)=ga at Pz PD N;clear h3 H3 aA av o1 y1 o2 y2;go_wp2_with fail
         go_region_held3 (fun w'=>w'.cell? ⟨A.heap.size,0,none⟩=some (.int .i64 (sy:Int))/\w'.cell? ⟨M,sy,none⟩=some (.slice (some ⟨ga,0,none⟩) nT nT)) (first | go_keep | assumption) ((go_at_call 132;refine N.mono ?_;rintro e U⟨rfl,jh⟩;subst jh))
         all_goals
          go_wp2_with fail;go_roundg (z - (q+1))
          case measure=>omega
          case rel=>exact⟨q+1,b2,o,by omega,rfl,by go_num,a6,bg,qF,H4⟩
        ·have az:F[pl]'(by omega)≠F[sy]'(by omega):=fun e=>hps ((lj R.nd).1 e).symm
         have H4:Hid (gI P E B=gI (P.drop (j+1)) E (((pr.take z).drop (q+1)).foldl (pG pl) (pG pl o sy))):=h3;have N:=ajY (w:=wr.drew) az (o2.drew) (y2.drew) o3 y3 CG;have am:=abJ (B:=o) (l:=pl) (C:=qg (Lx.rowAt o pl) (Lx.rowAt o sy)) (by omega);rw[<-Fp (B:=o) (i:=pl) (by omega)]at am;have ag:=dy (l:=F) (n:=pl) (by omega);have bt:=bp _ ag;have cj:=CJ _ ag;have HJ:Hid (∀{x:World},NR wr.drew (F[pl]'(by omega)) (Lx.rowAt o pl) (qg (Lx.rowAt o pl) (Lx.rowAt o sy)) x->BB x M nT F (pG pl o sy)):=fun f=>a6.join (by omega) f (by rw[abK];exact o3)
         have HT:Hid (Lx.tot (pG pl o sy)+bq (Lx.rowAt o pl)=Lx.tot o+bq (qg (Lx.rowAt o pl) (Lx.rowAt o sy))):=am;have OP:Hid (qg (Lx.rowAt o pl) (Lx.rowAt o sy)=Lx.rowAt o pl->pG pl o sy=o):=fun he=>by
          unfold pG;rw[he,Fp (by omega)];exact List.set_getElem_self _
         have aF:F[pl]'(by omega)≠A.heap.size:=by omega
         have iE:M≠F[pl]'(by omega):=fun e=>R.no (e▸ag)
         generalize F[pl]'(by omega)=ga at Pz N bt aF HJ iE;generalize F[sy]'(by omega)=gb at PD N;clear h3 H3 av o1 y1 o2 y2 az ag am;go_wp2_with fail
         go_region_held3 (fun w'=>w'.cell? ⟨A.heap.size,0,none⟩=some (.int .i64 (pl:Int))/\w'.cell? ⟨M,pl,none⟩=some (.slice (some ⟨ga,0,none⟩) nT nT)/\w'.cell? ⟨M,sy,none⟩=some (.slice (some ⟨gb,0,none⟩) nT nT)) (first | go_keep | assumption) ((go_at_call 132;refine N.mono ?_;rintro e U⟨b3,rfl,Uv,Uw,AO⟩;have S5:U.cell? ⟨A.heap.size,0,none⟩=some (.int .i64 (pl:Int))/\U.cell? ⟨M,pl,none⟩=some (.slice (some ⟨ga,0,none⟩) nT nT)/\U.cell? ⟨M,sy,none⟩=some (.slice (some ⟨gb,0,none⟩) nT nT):=⟨(cJ (w:=wr.drew) (AO.aU _ (fun e=>aF e.symm))).trans dp,(cJ (w:=wr.drew) (AO.aU _ iE)).trans Pz,(cJ (w:=wr.drew) (AO.aU _ iE)).trans PD⟩))
         all_goals
          have VZ:=HJ.out AO;have ad:Kp (fun g=>g<W.heap.size\/g=A.heap.size) O.drew U:=⟨AO.os.trans d.os,AO.tape.trans d.tape,AO.output.trans d.output,by rw[AO.size];exact d.size,fun x f=>(AO.aU x (by rcases f with f | f <;> omega)).trans (d.block x f)⟩;clear S5 N dp Pz PD;cases b3 with
          |true=>
           have Ud:=Uv rfl;have Aw:Hid (Lx.tot B<Lx.tot (pG pl o sy)):=by have:=HT.out;have:=qF.out.2.2;show _<_;omega
           clear Uv Uw Ud;go_wp2_with fail;go_roundg (z - (q+1))
           case measure=>omega
           case rel=>exact⟨q+1,true,_,by omega,rfl,by go_num,VZ,ad,⟨(fun h=>by cases h),fun _=>Aw.out,lh Aw.out⟩,H4⟩
          |false=>
           have he:=OP.out (Uw rfl);rw[he]at VZ H4;clear Uv Uw he;go_wp2_with fail;go_roundg (z - (q+1))
           case measure=>omega
           case rel=>exact⟨q+1,b2,o,by omega,rfl,by go_num,VZ,ad,qF,H4⟩
       ·have:q=z:=by omega
        subst this;have H4:Hid (gI P E B=gI (P.drop (j+1)) E o):=by
         show _=_;have:=H3.out;rw[show (pr.take q).drop q=[] from tE (by rw[Y];exact zL0)]at this;exact this
        have ad:Kp (fun g=>g<W.heap.size) w1 wr:=Ct.trans d fun g H=>.inl H
        clear H3 HU;go_wp2_with fail;go_roundg (P.length - (j+1))
        case measure=>omega
        case rel=>exact⟨j+1,b2,o,by omega,rfl,by go_num,R,ad,qF,H4⟩
    ·have:j=P.length:=by omega
     subst this;have hd:=HP.out;rw[g8]at hd;have K7:Hid (gI P E B=C):=hd;have cb:=a5 hC;have b0:Hid (C=qZ (gI P E) (m+1) (Lx.alone nT n)):=by
      show C=gI P E (qZ (gI P E) m (Lx.alone nT n));rw[<-HB.out];exact K7.out.symm
     have VW:Hid (b=false->gI P E C=C):=fun hb=>by
      have h1:=HC.out.1 hb;rw[h1];have:=K7.out;rw[h1]at this;exact this
     have VX:Hid (b=true->n*nT-Lx.tot C+1<=K0-1):=fun hb=>by
      have:=HC.out.2.1 hb;omega
     clear HC HP hd a5;go_wp2_with fail;go_roundg (K0-1)
     case measure=>have:=xU.out;omega
     case rel=>exact⟨b,C,m+1,rfl,VX.out,hC,I,b0,VW⟩
  |false=>
   have zi:Hid (gI P E B=B):=HF.out rfl;have bd:=fun w=>Y6 ar w
   have aa:Below w.heap.size w t:=⟨L.os.trans Z.os,L.tape.trans Z.tape,L.output.trans Z.output,dg Z.size L.size,fun x f=>(L.block x (by show x<W.heap.size;omega)).trans (Z.block x f)⟩;have bG:=aa.size;obtain⟨W3,X⟩:∃W3,W3=t.alloc (.cells (vA (List.replicate n (Value.slice none 0 0))) 22):=⟨_,rfl⟩;have S:Below t.heap.size t W3:=by rw[X];exact(cV _ _).alloc (zL0) _
   have cl:W3.heap.size=t.heap.size+1:=by rw[X];simp
   have kL:aj W3 t.heap.size (vA (List.replicate n (Value.slice none 0 0))) 22:=by rw[X];exact aj.new t _ 22
   have ca:BB W3 M nT F B:=K8.move fun x f=>S.block x f
   clear aw HF z2 Cq;go_wp2_with fail;rw[<-X];clear X bd
   go_loopg [60] n (fun k i wr=>∃(j:Nat)(G:List Value),j+k=n/\i=.int .i64 j/\G.length=j/\aj wr t.heap.size (vA (G++List.replicate (n-j) (Value.slice none 0 0))) 22/\(∀x(f:x<G.length),IR w.heap.size wr G[x] (jE (Lx.rowAt B x))/\G[x].ownBlock≠some t.heap.size)/\Hid (G.Pairwise fun a b=>∀g,a.ownBlock=some g->b.ownBlock≠some g)/\Kp (fun g=>g<W3.heap.size/\g≠t.heap.size) W3 wr)
   case atStart=>exact⟨0,[],by omega,rfl,rfl,by simpa using kL,(fun x f=>absurd f (by simp)),n9,Kp.refl _ _⟩
   case round=>
    obtain⟨j,G,bj,rfl,AP,hL,uf,aE,d⟩:=hrel;have bY:=d.size
    by_cases hlt:j<n
    ·have br:BB wr M nT F B:=by
      have bu:∀x,x<t.heap.size->wr.heap[x]?=t.heap[x]?:=fun x f=>(d.block x ⟨by omega,by omega⟩).trans (S.block x f)
      exact K8.move bu
     obtain⟨o1,o2,o3⟩:=br.at (i:=j) (by omega);have N:=agd (w:=wr) o2 o3 CG;have lL:=hL.lt;have cL:wr.cell? ⟨t.heap.size,j,none⟩=some (.slice none 0 0):=by
      rw[hL.cell j,Td,eJ (by omega),AP,ij,ju,de (by omega)]
     have i1:(0:Int)<=(j:Int):=by omega
     have i2:(j:Int)<(n:Int):=by omega
     generalize F[j]'(by omega)=ga at o1 N;have ah:∀u:Value,(G++List.replicate (n-j) (Value.slice none 0 0)).set j u=(G++[u])++List.replicate (n - (j+1)) (Value.slice none 0 0):=fun u=>by
      rw[mr _ _ (by omega),show n-j=n - (j+1)+1 by omega,mT,AP];simp
     have b7:Hid _:=ah;clear ah o2;go_wp2_with fail;refine N.mono ?_;rintro e U⟨u,rfl,hu,J⟩;obtain⟨Q,K,rfl,-⟩:=aB hu;have ak:aj U t.heap.size _ 22:=(J.block _ lL).trans hL;have c5:U.cell? ⟨t.heap.size,j,none⟩=some (.slice none 0 0):=cell_below J cL;have f5:∀i,U.frozen? ⟨t.heap.size,i,none⟩=false:=ak.frozen;have aq:=ak.set j (.slice Q (jE (Lx.rowAt B j)).length K);rw[acB,b7.out]at aq;have a0:∀x(f:x<(G++[Value.slice Q (jE (Lx.rowAt B j)).length K]).length),IR w.heap.size (U.setCell ⟨t.heap.size,j,none⟩ (.slice Q (jE (Lx.rowAt B j)).length K)) (G++[Value.slice Q (jE (Lx.rowAt B j)).length K])[x] (jE (Lx.rowAt B x))/\(G++[Value.slice Q (jE (Lx.rowAt B j)).length K])[x].ownBlock≠some t.heap.size:=by
      intro x f;rw[cH,gx]at f
      by_cases hxu:x<G.length
      ·rw[List.getElem_append_left hxu]
       have h1:=uf x hxu;exact⟨aC (own_below h1.1 J) fun g H=>zS0 (fun e=>h1.2 (by rw[H];exact eS some e)),h1.2⟩
      ·have:x=G.length:=by omega
       subst this;rw[List.getElem_append_right (zL0)];simp only[ij,tB];rw[AP];have a9:(Value.slice Q (jE (Lx.rowAt B j)).length K).ownBlock≠some t.heap.size:=fun e=>by have:=(hu.lt _ e).1;omega
       exact⟨jc (aC hu fun g H=>zS0 (fun e=>a9 (by rw[H];exact eS some e))) (by omega),a9⟩
     have Ap:Kp (fun g=>g<W3.heap.size/\g≠t.heap.size) W3 (U.setCell ⟨t.heap.size,j,none⟩ (.slice Q (jE (Lx.rowAt B j)).length K)):=⟨J.os.trans d.os,J.tape.trans d.tape,J.output.trans d.output,by have:=J.size;simp[World.setCell];omega,fun x f=>(zS0 f.2).trans ((J.block x (by omega)).trans (d.block x f))⟩;have bl:Hid ((G++[Value.slice Q (jE (Lx.rowAt B j)).length K]).Pairwise fun a b=>∀g,a.ownBlock=some g->b.ownBlock≠some g):=oS.2 ⟨aE.out,mw _ _,fun a ha b hb g H e=>by
      rw[cM]at hb;subst hb;obtain⟨x,f,rfl⟩:=li ha;have h1:=((uf x f).1.lt g H).2;have h2:=(hu.lt g e).1;omega⟩
     have aW:Hid _:=aq;have bn:Hid _:=a0;clear aq a0 uf hL ak N cL o1;go_wp2_with fail;go_roundg (n - (j+1))
     case measure=>omega
     case rel=>exact⟨j+1,_,by omega,by go_num,by rw[cH,gx];omega,aW.out,bn.out,bl,Ap⟩
    ·have:j=n:=by omega
     subst this;have aI:B.length=j:=by rw[K8.len];exact al
     have a8:GL w.heap.size wr (.slice (some ⟨t.heap.size,0,none⟩) j j) (B.map jE):=by
      have bT:G.length=(B.map jE).length:=by rw[dt];omega
      have b9:aj wr t.heap.size (vA G) 22:=by simpa using hL
      refine⟨G.zip (B.map jE),⟨List.map_snd_zip (by omega),?_,?_,?_⟩,?_⟩
      ·rw[List.map_fst_zip (by omega),dt,aI]
       refine⟨by rw[AP];simp,.inr ⟨t.heap.size,j,vA G,rfl,by omega,b9,zL0,by unfold maxLen;omega,by simp[vA,AP],?_⟩⟩;unfold vA;rw[jt,<-AP];exact ft
      ·intro q hq
       obtain⟨x,f,rfl⟩:=li hq;rw[List.length_zip]at f;rw[List.getElem_zip,oi];have h1:=uf x (by omega);rw[Fp (by omega)]at h1;exact h1.1
      ·intro q hq g H e
       obtain⟨x,f,rfl⟩:=li hq;rw[List.length_zip]at f;rw[List.getElem_zip]at H;have e1:t.heap.size=g:=by simpa [Value.ownBlock]using e
       exact(uf x (by omega)).2 (by rw[e1];exact H)
      ·rw[lr]
       intro x y f hy bm g H;rw[List.length_zip]at f hy;rw[List.getElem_zip]at H|-;exact lr.1 aE.out x y (by omega) (by omega) bm g H
     have b5:Below w.heap.size w wr:=⟨d.os.trans (S.os.trans aa.os),d.tape.trans (S.tape.trans aa.tape),d.output.trans (S.output.trans aa.output),by omega,fun x f=>(d.block x ⟨by omega,by omega⟩).trans ((S.block x (by omega)).trans (aa.block x f))⟩;have bD:Hid _:=a8;clear a8 uf hL;go_wp2_with fail;go_ret;exact⟨_,B,m,rfl,HB.out,zi.out,bD.out,b5⟩
namespace Tb
def setAt{α:Type}(R:List (List α))(i k:Nat)(x:α):List (List α):=match R[i]? with
 |some r=>R.set i (r.set k x)
 |none=>R
theorem aiw{α β:Type}(f:α->β)(R:List (List α)){i k:Nat}{x:α}{r:List α}(a:R[i]?=some r):(setAt R i k x).map (List.map f)=(R.map (List.map f)).set i ((r.map f).set k (f x)):=by
 rw[setAt,a];simp only;rw[nt,nt]
def gotos(nS nT nN:Nat)(es:List (Nat×Nat×Nat)):Nat->List (List Nat)
 |0=>List.replicate nS (List.replicate nN 0)
 |k+1=>match es[k]? with
  |some e=>if nT<=e.2.1 then setAt (gotos nS nT nN es k) e.1 (e.2.1-nT) e.2.2 else gotos nS nT nN es k
  |none=>gotos nS nT nN es k
theorem aix{α:Type}{R:List (List α)}{i k:Nat}{x:α}:(setAt R i k x).length=R.length:=by
 unfold setAt
 split <;> simp
theorem Rt{α:Type}{R:List (List α)}{i k n:Nat}{x:α}(h:∀r∈R,r.length=n):∀r∈setAt R i k x,r.length=n:=by
 unfold setAt
 split
 ·rename_i b hr0
  intro r a;rcases pP a with a|rfl
  ·exact h r a
  ·rw[ib]
   exact h b (cQ hr0)
 ·exact h
theorem RX(nS nT nN:Nat)(a:List (Nat×Nat×Nat)):∀k,(gotos nS nT nN a k).length=nS/\∀r∈gotos nS nT nN a k,r.length=nN
 |0=>⟨by simp[gotos],fun r b=>by rw[kk b,im]⟩
 |k+1=>by
  have ih:=RX nS nT nN a k;rw[gotos]
  split
  ·split
   ·exact⟨aix.trans ih.1,Rt ih.2⟩
   ·exact ih
  ·exact ih
end Tb
theorem Mx.new(w1:World){a d:Nat}(n N:Nat)(b:a≠d):Mx w1 w1.heap.size w1.heap.size a d n N (w1.alloc (.cells (vA (List.replicate N (Value.slice none 0 0))) a)) [] [] :=
 ⟨aj.new ..,rfl,(fun i g r c=>by simp at c),mf,(fun g c=>by cases c),zL0,(cV _ _).alloc (zL0) _,b,eR _⟩
def V3(w:World)(R:List (List Nat))(e:Ending)(w':World):Prop:=∃v,e=.returned v/\xX w' v R/\Below w.heap.size w w'
theorem agf{w:World}{ve vP vB vK:Value}{ta na:Option Addr}{nS nT nN tc nc:Nat}{a:List (Nat×Nat×Nat)}(he:lQ w ve a)(hS:nS<=100000)(F:nN<=100000)(hl:a.length<=1000000000)(L:∀e∈a,e.1<nS/\e.2.1<nT+nN):Calls prog 40 #[.int .i64 (nS:Int),ve,.agg #[.slice ta nT tc,.slice na nN nc,vP,vB,vK]] w (V3 w (Tb.gotos nS nT nN a a.length)):=by
 obtain⟨ea,ec,rfl,CK⟩:=he;obtain⟨w1,B⟩:∃V,V=w.alloc (.cells #[.slice ta nT tc,.slice na nN nc,vP,vB,vK] 56):=⟨_,rfl⟩;obtain⟨K,T⟩:∃b,w.heap.size=b:=⟨_,rfl⟩;have k1:aj w1 K #[.slice ta nT tc,.slice na nN nc,vP,vB,vK] 56:=by rw[B,<-T];exact aj.new ..
 have u:Below w.heap.size w w1:=by rw[B];exact(cV _ _).alloc (zL0) _
 obtain⟨c,Q⟩:∃b,w1.heap.size=b:=⟨_,rfl⟩;obtain⟨w2,G⟩:∃V,V=w1.alloc (.cells (vA (List.replicate nS (Value.slice none 0 0))) 22):=⟨_,rfl⟩;have X:Mx w1 c c 22 3 nN nS w2 [] []:=by rw[G,<-Q];exact Mx.new w1 nN nS (by decide)
 have H:=fun w=>Y6 (n:=nS) hS w
 have S:=fun w=>Rm (n:=nN) F w
 have Y:Hid (∀wr,Below c w1 wr->wr.cell? ⟨K,0,none⟩=some (.slice ta nT tc)/\wr.cell? ⟨K,1,none⟩=some (.slice na nN nc)/\K<c):=fun wr E=>by
  have z:K<c:=by rw[<-Q];exact k1.lt
  have:aj wr K _ 56:=(E.block K z).trans k1;exact⟨this.cell 0,this.cell 1,z⟩
 have HE:Hid (∀wr,Below c w1 wr->∀(j:Nat)x,a[j]?=some x->∃g,ea=some ⟨g,0,none⟩/\wr.cell? ⟨g,j*3,none⟩=some (.int .i64 (x.1:Int))/\wr.cell? ⟨g,j*3+1,none⟩=some (.int .i64 (x.2.1:Int))/\wr.cell? ⟨g,j*3+2,none⟩=some (.int .i64 (x.2.2:Int))):=fun wr E j x L=>by
  rw[<-Q]at E;obtain⟨g,e,h1,h2,h3⟩:=CK j x L;exact⟨g,e,aV E (aV u h1),aV E (aV u h2),aV E (aV u h3)⟩
 have HB:Hid (∀wr,Below c w1 wr->Below w.heap.size w wr):=fun wr E=>u.trans (E.mono (by rw[<-Q];exact u.size))
 have H0:Hid (∃f,f.length=0/\Mx w1 c c 22 3 nN nS w2 f (List.replicate 0 (dK (List.replicate nN 0)))):=⟨[],rfl,X⟩;clear CK u X k1;go_enter func40,ntmps40;go_upto_region 1 with fail
 rw[<-B];clear B T;go_upto_region 2 with (simp only[H])
 rw[<-G];clear G;go_wp2_with fail
 go_loopw [15] (fun i wr=>∃j:Nat,j<=nS/\i=.int .i64 (j:Int)/\Hid (∃f,f.length=j/\Mx w1 c c 22 3 nN nS wr f (List.replicate j (dK (List.replicate nN 0))))) (fun i _=>nS - (intOf i).toNat)
 case atStart=>exact⟨0,by omega,rfl,H0⟩
 case round=>
  clear H0 Q;obtain⟨j,hj,rfl,W⟩:=hrel;obtain⟨f,l,p⟩:=W.out;clear W
  by_cases hjn:j<nS
  ·have j1:(j:Int)<(nS:Int):=by omega
   obtain⟨c0,c1,z⟩:=Y.out wr p.b;have ab:wr.cell? ⟨c,j,none⟩=some (.slice none 0 0):=by
    rw[p.out.cell,fR,eJ (by rw[dt];omega),dt,l,ij,ju,de (by omega)]
   have dO:∀o,(wr.alloc o).cell? ⟨c,j,none⟩=some (.slice none 0 0):=fun o=>(cJ (w:=wr) (di _ _ _ p.out.lt)).trans ab
   have fO:∀o,(wr.alloc o).frozen? ⟨c,j,none⟩=false:=fun o=>(p.out.alloc o).frozen j
   have F:=p.push (by omega) (dK (List.replicate nN 0));rw[l]at F;have U:Hid (∃f,f.length=j+1/\Mx w1 c c 22 3 nN nS ((wr.alloc (.cells (eO (List.replicate nN 0)) 3)).setCell ⟨c,j,none⟩ (.slice (some ⟨wr.heap.size,0,none⟩) nN nN)) f (List.replicate (j+1) (dK (List.replicate nN 0)))):=⟨f++[wr.heap.size],by rw[cH,l];rfl,by rw[List.replicate_succ'];exact F⟩;clear p F Y HE HB l L H
   go_wp2_with (simp only[S])
   exact⟨⟨j+1,by omega,by go_num,U⟩,by simp[intOf];omega⟩
  ·obtain rfl:j=nS:=by omega
   have H1:Hid (∃f,f.length=j/\Mx w1 c c 22 3 nN j wr f ((Tb.gotos j nT nN a 0).map dK)):=⟨f,l,by rw[Tb.gotos,List.map_replicate];exact p⟩;clear p l H S;go_wp2_with fail
   go_loopw [28] (fun i wr=>∃k:Nat,k<=a.length/\i=.int .i64 (k:Int)/\Hid (∃f,f.length=j/\Mx w1 c c 22 3 nN j wr f ((Tb.gotos j nT nN a k).map dK))) (fun i _=>a.length - (intOf i).toNat)
   case atStart=>exact⟨0,by omega,rfl,H1⟩
   case round=>
    clear H1;revert wr;intro N hrel;obtain⟨k,hk,rfl,W⟩:=hrel;obtain⟨f,l,p⟩:=W.out;clear W
    by_cases hkn:k<a.length
    ·have j1:(k:Int)<(a.length:Int):=by omega
     obtain⟨x,hxk⟩:∃x,a[k]?=some x:=⟨_,cF hkn⟩;obtain⟨g,rfl,c1,c2,c3⟩:=HE.out N p.b k x hxk;have I:=L x (cQ hxk);have t:Tb.gotos j nT nN a (k+1)=if nT<=x.2.1 then Tb.setAt (Tb.gotos j nT nN a k) x.1 (x.2.1-nT) x.2.2 else Tb.gotos j nT nN a k:=by rw[Tb.gotos,hxk]
     obtain⟨y,C,D⟩:=x;simp only at c1 c2 c3 I t;obtain⟨R,O⟩:=Tb.RX j nT nN a k;obtain⟨A,P⟩:∃V,V=N.alloc (.cells #[.int .i64 (y:Int),.int .i64 (C:Int),.int .i64 (D:Int)] 173):=⟨_,rfl⟩;obtain⟨bx,J⟩:∃b,N.heap.size=b:=⟨_,rfl⟩;have Z:aj A bx #[.int .i64 (y:Int),.int .i64 (C:Int),.int .i64 (D:Int)] 173:=by rw[P,<-J];exact aj.new ..
     have m:Mx w1 c c 22 3 nN j A f ((Tb.gotos j nT nN a k).map dK):=p.move (by rw[P];exact(cV _ _).alloc (zL0) _);obtain⟨c0,-,z⟩:=Y.out A m.b;have x1:A.cell? ⟨bx,0,none⟩=some (.int .i64 (y:Int)):=Z.cell 0;have x2:A.cell? ⟨bx,1,none⟩=some (.int .i64 (C:Int)):=Z.cell 1;have x3:A.cell? ⟨bx,2,none⟩=some (.int .i64 (D:Int)):=Z.cell 2;clear p Z HE HB Y L
     by_cases hn:nT<=C
     ·have b1:decide ((nT:Int)<=(C:Int))=true:=fh (by omega)
      rw[de hn]at t;obtain⟨gi,v⟩:∃g,f[y]?=some g:=⟨_,cF (by omega)⟩;obtain⟨r,hr⟩:∃r,(Tb.gotos j nT nN a k)[y]?=some r:=⟨_,cF (by omega)⟩;have aa:=O r (cQ hr);have M:((Tb.gotos j nT nN a k).map dK)[y]?=some (dK r):=by rw[dj,hr];rfl
      obtain⟨d,hd⟩:∃d,C-nT=d:=⟨_,rfl⟩;have e1:(C:Int) - (nT:Int)=(d:Int):=by omega
      have e2:IntKind.i64.wrap (d:Int)=(d:Int):=by rw[gw];omega
      obtain⟨q,hq⟩:∃q,r[d]?=some q:=⟨_,cF (by omega)⟩;have o1:=m.DX v;have o2:A.cell? ⟨gi,d,none⟩=some (.int .i64 (q:Int)):=by rw[m.Et v M,dK,dj,hq];rfl
      have o3:=m.frozen v d;have F:=m.set (k:=d) v M (.int .i64 (D:Int));have U:Hid (∃f,f.length=j/\Mx w1 c c 22 3 nN j (A.setCell ⟨gi,d,none⟩ (.int .i64 (D:Int))).drew f ((Tb.gotos j nT nN a (k+1)).map dK)):=⟨f,l,by
       rw[t,hd];have:=Tb.aiw (fun(s:Nat)=>Value.int .i64 (s:Int)) (Tb.gotos j nT nN a k) (k:=d) (x:=D) hr;have e:(Tb.setAt (Tb.gotos j nT nN a k) y d D).map dK=((Tb.gotos j nT nN a k).map dK).set y ((dK r).set d (.int .i64 (D:Int))):=this;rw[e];exact F.move ⟨rfl,rfl,rfl,zL0,fun _ _=>rfl⟩⟩
      have d0:(0:Int)<=(y:Int):=by omega
      have d1:(y:Int)<(j:Int):=by omega
      have d2:(0:Int)<=(d:Int):=by omega
      have d3:(d:Int)<(nN:Int):=by omega
      clear F m l t R O hr M hq v aa hn hd I;go_upto_region 10 with fail
      rw[<-P];clear P J;go_upto_region 11 with fail
      go_region
      go_wp2_with fail;exact⟨⟨k+1,by omega,by go_num,U⟩,by simp[intOf];omega⟩
     ·have b1:decide ((nT:Int)<=(C:Int))=false:=eV (by omega)
      rw[dk hn]at t;have U:Hid (∃f,f.length=j/\Mx w1 c c 22 3 nN j A f ((Tb.gotos j nT nN a (k+1)).map dK)):=⟨f,l,by rw[t];exact m⟩;clear m l t R O I;go_upto_region 10 with fail
      rw[<-P];clear P J;go_wp2_with fail;exact⟨⟨k+1,by omega,by go_num,U⟩,by simp[intOf];omega⟩
    ·obtain rfl:k=a.length:=by omega
     obtain⟨R,O⟩:=Tb.RX j nT nN a a.length;have HR:Hid (V3 w (Tb.gotos j nT nN a a.length) (.returned (.slice (some ⟨c,0,none⟩) j j)) N):=⟨_,rfl,p.rows l R O fun i g r k x hg hr L=>by
      show N.cell? _=_;rw[jt,p.Et hg (by rw[dj,hr];rfl),dK,dj,L];rfl,HB.out N p.b⟩
     clear p l R O HE HB Y;go_wp2_with fail;go_ret;exact HR.out
namespace Tb
def iK:Nat×List Nat->Nat×Nat
 | (s,[])=>if s=0 then (0,0) else (1,s)
 | (s,p::_)=>if p=0 then (3,0) else if s=0 then (2,p) else (1,s)
def lone(x:Nat×List Nat):Bool:=decide (x.2.length<=1) && (decide (x.1=0) || decide (x.2.length=0))
end Tb
def La(w:World)(g o:Nat)(x:Nat×List Nat):Prop:=w.cell? ⟨g,o,none⟩=some (.int .i64 (x.1:Int))/\∃v,w.cell? ⟨g,o+1,none⟩=some v/\lD w v x.2
theorem La.keep{w w':World}(a:Below w.heap.size w w'){g o:Nat}{x:Nat×List Nat}(h:La w g o x):La w' g o x:=by
 obtain⟨h1,v,h2,h3⟩:=h;exact⟨aV a h1,v,aV a h2,h3.keep a⟩
theorem aha{w:World}{s n pc:Nat}{pa:Option Addr}(h1:n<=1)(h2:s=0\/n=0):Calls prog 104 #[.agg #[.int .i64 (s:Int),.slice pa n pc]] w fun e w'=>e=.returned (.bool false)/\Below w.heap.size w w':=by
 have a:Below w.heap.size w (w.alloc (.cells #[.int .i64 (s:Int),.slice pa n pc] 166)):=(cV _ _).alloc (zL0) _;have i:decide ((1:Int)<(n:Int))=false:=eV (by omega);have b:¬1<n:=by omega
 by_cases hs:s=0
 ·have c:((s:Int) != 0)=false:=by simp[hs]
  have g:Hid (s=0):=hs;clear hs h2;go_enter func104,ntmps104;go_wp2_with fail;go_ret;exact⟨rfl,a⟩
 ·have c:((s:Int) != 0)=true:=by simp;omega
  have d:((n:Int) == 1)=false:=zB0 (by omega);have f:¬(n:Int)=1:=by omega
  clear hs h2 h1;go_enter func104,ntmps104;go_wp2_with fail;go_ret;exact⟨rfl,a⟩
theorem afy{w:World}{s:Nat}{v:Value}{f:List Nat}(h:lD w v f):Calls prog 105 #[.agg #[.int .i64 (s:Int),v]] w fun e w'=>e=.returned (.agg #[.int .i64 ((Tb.iK (s,f)).1:Int),.int .i64 ((Tb.iK (s,f)).2:Int)])/\Below w.heap.size w w':=by
 obtain⟨r,q,rfl,t⟩:=h;obtain⟨w2,a⟩:∃V,V=(w.alloc (.cells #[.int .i64 (s:Int),.slice r f.length q] 166)).alloc (.cells #[.int .i64 0,.int .i64 0] 42):=⟨_,rfl⟩;obtain⟨d,c⟩:∃b,w.heap.size=b:=⟨_,rfl⟩;have k:Below w.heap.size w w2:=by rw[a];exact((cV _ _).alloc (zL0) _).alloc (by simp) _
 have m:aj w2 d #[.int .i64 (s:Int),.slice r f.length q] 166:=by rw[a,<-c];exact(aj.new ..).alloc _
 have kR:aj w2 (d+1) #[.int .i64 0,.int .i64 0] 42:=by
  rw[a,<-c];have:=aj.new (w.alloc (.cells #[.int .i64 (s:Int),.slice r f.length q] 166)) #[.int .i64 0,.int .i64 0] 42
  rwa [fb]at this
 have G:w2.cell? ⟨d,0,none⟩=some (.int .i64 (s:Int)):=m.cell 0;have B:w2.cell? ⟨d,1,none⟩=some (.slice r f.length q):=m.cell 1;have I:w2.cell? ⟨d+1,0,none⟩=some (.int .i64 0):=kR.cell 0;have H:w2.cell? ⟨d+1,1,none⟩=some (.int .i64 0):=kR.cell 1;have J:∀i,w2.frozen? ⟨d+1,i,none⟩=false:=kR.frozen;have l:Hid (∀(x y:Nat)tmps,tmps.getD 2 undef=.pointer (some ⟨d+1,0,none⟩)->Tb.iK (s,f)=(x,y)->bodyPost prog Tryz.f105 (fun e w'=>e=.returned (.agg #[.int .i64 ((Tb.iK (s,f)).1:Int),.int .i64 ((Tb.iK (s,f)).2:Int)])/\Below w.heap.size w w') .ret { tmps,defers:=[] } ((w2.setCell ⟨d+1,0,none⟩ (.int .i64 (x:Int))).setCell ⟨d+1,1,none⟩ (.int .i64 (y:Int)))):=fun x y tmps C e=>by
  rw[e];exact pz rfl C ((kR.set 0 _).set 1 _) (by kernel_rfl) (by kernel_rfl) ⟨rfl,(k.setCell (p:=⟨d+1,0,none⟩) (by rw[c];show d<=d+1;omega) _).setCell (p:=⟨d+1,1,none⟩) (by rw[c];show d<=d+1;omega) _⟩
 cases f with
 |nil=>
  rw[iu]at B a|-;clear t k m kR
  by_cases hs:s=0
  ·have u:((s:Int) != 0)=false:=by simp[hs]
   have j:Hid (Tb.iK (s,[])=(0,0)):=de hs;clear hs;go_enter func105,ntmps105;go_upto_region 1 with fail
   rw[<-a];clear a c;go_wp2_with fail;exact l.out 0 0 _ rfl j.out
  ·have u:((s:Int) != 0)=true:=by simp;omega
   have j:Hid (Tb.iK (s,[])=(1,s)):=dk hs;clear hs;go_enter func105,ntmps105;go_upto_region 1 with fail
   rw[<-a];clear a c;go_wp2_with fail;exact l.out 1 s _ rfl j.out
 |cons p tl=>
  obtain⟨g,rfl,o⟩:=t 0 p rfl;unfold iQ at o;rw[sq]at o;have F:=aV k o;clear t k m kR o;have z:(0:Int)<((p::tl).length:Int):=by rw[el];omega
  have E:decide ((0:Int)<((p::tl).length:Int))=true:=fh z;obtain⟨n,A⟩:∃n,(p::tl).length=n:=⟨_,rfl⟩;rw[A]at z E B a|-;clear A
  by_cases hp0:p=0
  ·have D:((p:Int) == 0)=true:=by simp[hp0]
   have j:Hid (Tb.iK (s,p::tl)=(3,0)):=de hp0;clear hp0;go_enter func105,ntmps105;go_upto_region 1 with fail
   rw[<-a];clear a c;go_wp2_with fail;exact l.out 3 0 _ rfl j.out
  ·have D:((p:Int) == 0)=false:=zB0 (by omega)
   by_cases hs:s=0
   ·have u:((s:Int) != 0)=false:=by simp[hs]
    have j:Hid (Tb.iK (s,p::tl)=(2,p)):=(dk hp0).trans (de hs);clear hs hp0;go_enter func105,ntmps105;go_upto_region 1 with fail
    rw[<-a];clear a c;go_wp2_with fail;exact l.out 2 p _ rfl j.out
   ·have u:((s:Int) != 0)=true:=by simp;omega
    have j:Hid (Tb.iK (s,p::tl)=(1,s)):=(dk hp0).trans (dk hs);clear hs hp0;go_enter func105,ntmps105;go_upto_region 1 with fail
    rw[<-a];clear a c;go_wp2_with fail;exact l.out 1 s _ rfl j.out
end Go.Proofs.YtagkodkijkpemaaGreatDoor

import Derived.Test.YtlcppnabbicmoaaGreatDoorMG29
import Derived.Test.YtlcppnabbicmoaaGreatDoorMG36
set_option maxHeartbeats 8000000
set_option maxRecDepth 1000000
namespace Go.Proofs.YtlcppnabbicmoaaGreatDoor
open Lx Go.Proofs.Tryz
open Go.RowKit
open Tr
theorem agH {w:World}{vP:Value}{P:List Lx.Pd}{ta na ba ka:Option Addr}{nT tc nN nc bc kc:Nat}(hP:PP (fun _=>True) w vP P)(hw:∀ p∈P,LU nT (nT+nN) p)(h0:0<nT)(h1:1<nN)(h2:1<P.length)(hbd:nT+nN<=100000):Calls prog 18 #[.agg #[.slice ta nT tc,.slice na nN nc,vP,.slice ba nT bc,.slice ka nT kc]] w fun e w'=>e=.returned (.bool true)/\Below w.heap.size w w':=by
 obtain⟨pa,pc,rfl,hpm⟩:∃ a c,vP=.slice a P.length c/\P.length<=maxLen:=by obtain⟨ps,h1,h2,-⟩:=hP;exact aI h2
 unfold maxLen at hpm;obtain⟨n,hn⟩:∃ n,n=nT+nN:=⟨_,rfl⟩;have kY:Hid (n=nT+nN):=hn;have hw1:IntKind.i64.wrap ((nT:Int)+(nN:Int))=(n:Int):=by rw[hn,<-Int.natCast_add];exact wrap64 (by omega)
 clear hn;obtain⟨W,hW⟩:∃ W,W=w.alloc (.cells #[.slice ta nT tc,.slice na nN nc,.slice pa P.length pc,.slice ba nT bc,.slice ka nT kc] 26):=⟨_,rfl⟩;have hbW:Below w.heap.size w W:=by rw[hW];exact (Below.refl _ _).alloc (lr0) _
 have wL:W.heap.size=w.heap.size+1:=by rw[hW];simp
 have kA:aj W w.heap.size #[.slice ta nT tc,.slice na nN nc,.slice pa P.length pc,.slice ba nT bc,.slice ka nT kc] 26:=by rw[hW];exact aj.new w _ 26
 go_enter func18,ntmps18;go_wp2_with fail;rw[<-hW];clear hW
 go_loopg [5] P.length (fun k i wr=>∃ j:Nat,j+k=P.length/\i=.int .i64 j/\Below W.heap.size W wr)
 case atStart=>exact⟨0,by omega,rfl,Below.refl _ _⟩
 case round =>
  revert wr;intro wz hrel;obtain⟨j,hkj,rfl,hbz⟩:=hrel;have hsz:=hbz.size;have dY:aj wz w.heap.size _ 26:=(hbz.block _ (by omega)).trans kA;have z1:wz.cell? ⟨w.heap.size,1,none⟩=some (.slice na nN nc):=dY.cell 1;have z2:wz.cell? ⟨w.heap.size,2,none⟩=some (.slice pa P.length pc):=dY.cell 2;have z3:wz.cell? ⟨w.heap.size,3,none⟩=some (.slice ba nT bc):=dY.cell 3;have z4:wz.cell? ⟨w.heap.size,4,none⟩=some (.slice ka nT kc):=dY.cell 4;have hbw:Below w.heap.size w wz:=hbW.trans (hbz.mono (by omega))
  by_cases hlt:j<P.length
  ·obtain⟨g,cap,u,hv,hu,x0,x1,x2⟩:=(hP.below hbw).at hlt
   cases hv;obtain⟨⟨a1,a2⟩,a3,a4,a5,a6⟩:=hw P[j] (List.getElem_mem hlt);generalize P[j]=pd at hu x0 x1 x2 a1 a2 a3 a4 a5 a6;obtain⟨pl,pr,pp⟩:=pd;simp only at hu x0 x1 x2 a1 a2 a3 a4 a5 a6;obtain⟨ua,uc,rfl,Bt⟩:=aI hu;unfold maxLen at Bt;obtain⟨W1,hW1⟩:∃ W1,W1=wz.alloc (.cells #[.int .i64 (pl:Int),.slice ua pr.length uc,.int .i64 pp] 58):=⟨_,rfl⟩;have hb1:Below wz.heap.size wz W1:=by rw[hW1];exact (Below.refl _ _).alloc (lr0) _
   have kp:aj W1 wz.heap.size #[.int .i64 (pl:Int),.slice ua pr.length uc,.int .i64 pp] 58:=by rw[hW1];exact aj.new wz _ 58
   have p0:W1.cell? ⟨wz.heap.size,0,none⟩=some (.int .i64 (pl:Int)):=kp.cell 0;have p1:W1.cell? ⟨wz.heap.size,1,none⟩=some (.slice ua pr.length uc):=kp.cell 1;have p2:W1.cell? ⟨wz.heap.size,2,none⟩=some (.int .i64 pp):=kp.cell 2;have i1:(0:Int)<=(j:Int):=by omega
   have i2:(j:Int)<(P.length:Int):=by omega
   have c1:¬ (pl:Int)<(nT:Int):=by omega
   have c2:¬ (n:Int)<=(pl:Int):=by have:=kY.out;omega
   have c3:¬ pp < -1:=by omega
   have c4:¬ (nT:Int)<=pp:=by omega
   have c5:¬ pp=0:=a6;have c5b:(pp == 0)=false:=beq_eq_false_iff_ne.2 a6;have HR:Hid (∀ s∈pr,0<s/\s<nT+nN/\s≠nT):=a3;have hu1:IR 0 W1 (.slice ua pr.length uc) pr:=own_below hu hb1;have hbW1:Below W.heap.size W W1:=hbz.trans (hb1.mono hsz);clear a1 a2 a3 a4 a5 a6 hu dY;go_upto_region 7 with fail
   rw[<-hW1];clear hW1 x0 x1 x2 z1 z2 z3 z4;go_wp2_with fail
   go_loopg [7] pr.length (fun k i wr=>∃ q:Nat,q+k=pr.length/\i=.int .i64 q/\wr=W1)
   case atStart=>exact⟨0,by omega,rfl,rfl⟩
   case round =>
    obtain⟨q,hkq,rfl,DK⟩:=hrel;subst DK
    by_cases vV:q<pr.length
    ·obtain⟨gR,MC,pR,-,cq⟩:=hu1.at (j:=q) vV
     cases pR;obtain⟨b1,b2,b3⟩:=HR.out pr[q] (List.getElem_mem vV);generalize pr[q]=sy at cq b1 b2 b3;have d1:¬ (sy:Int)<=0:=by omega
     have d2:¬ (n:Int)<=(sy:Int):=by have:=kY.out;omega
     have d3:¬ (sy:Int)=(nT:Int):=by omega
     have d3b:((sy:Int) == (nT:Int))=false:=beq_eq_false_iff_ne.2 d3;have j1:(0:Int)<=(q:Int):=by omega
     have j2:(q:Int)<(pr.length:Int):=by omega
     clear b1 b2 b3;go_wp2_with fail;go_roundg (pr.length - (q+1))
     case measure=>omega
     case rel=>exact⟨q+1,by omega,by go_num,rfl⟩
    ·have:q=pr.length:=by omega
     subst this;go_wp2_with fail;go_roundg (P.length - (j+1))
     case measure=>omega
     case rel=>exact⟨j+1,by omega,by go_num,hbW1⟩
  ·have hj:j=P.length:=by omega
   have e1:(0:Int)<(nT:Int):=by omega
   have e2:(1:Int)<(nN:Int):=by omega
   have e3:(1:Int)<(P.length:Int):=by omega
   go_wp2_with fail;go_ret;exact⟨rfl,hbw⟩
end Go.Proofs.YtlcppnabbicmoaaGreatDoor
namespace Go.Proofs.YtlcppnabbicmoaaGreatDoor
open Lx Go.Proofs.Tryz
open Go.RowKit
open Tr
theorem Lx.LG {s:ByteArray}{g:Lx.Gr}(h:dw s=.ok g):Lx.parse s=.ok g/\(dF g).1=0/\(aU g).length<=200:=by
 cases hp:Lx.parse s with
 | error e=>rw[LA hp]at h;cases h
 | ok g' =>
  by_cases hc:(dF g').1=0
  ·by_cases hm:200<(aU g').length
   ·rw[Lc hp hc hm]at h;cases h
   ·rw[LQ hp hc hm]at h;cases h;exact⟨rfl,hc,by omega⟩
  ·rw[LB hp hc]at h;cases h
theorem Hg {s:ByteArray}{g:Lx.Gr}(w:World)(h:dw s=.ok g):Lx.Fit g:=by
 obtain⟨hp,hc,-⟩:=LG h;obtain⟨e,w1,-,⟨vL,vR,aJ,n,a,-,-,hm⟩,-⟩:=KH s w [];cases hr:jR s with
 | error x=>have:=PG hr;rw[hp]at this;cases this
 | ok x =>
  obtain⟨g',ts⟩:=x;rw[hr]at hm;obtain⟨-,-,hgi⟩:=hm;have:=Qh hr;rw[hp]at this;cases this;have hd1:DG (Fp w.heap.size aJ w1) w1 vL vR g:=⟨fun b hb=>hb.2.1,hgi.1,hgi.2⟩;exact hd1.fit hp hc
end Go.Proofs.YtlcppnabbicmoaaGreatDoor
namespace Go.Proofs.YtlcppnabbicmoaaGreatDoor
open Lx Go.Proofs.Tryz
open Go.RowKit
open Tr
def IJ:ByteArray:=⟨#[101,32,61,32,65,32,40,66,32,65,41,42,59]⟩
def IK:ByteArray:=⟨#[101,32,61,32,65,63,59]⟩
def Gi (r:Except (Nat × Nat) Lx.Gr):Nat × Nat × List Lx.Pd :=
 match r with
 | .ok g=>((aA g).length,(aN g).length,aU g)
 | .error _=>(0,0,[])
theorem ajt:(Gi (dw IJ)).1=3/\(Gi (dw IJ)).2.2.length=4:=⟨by kernel_rfl,by kernel_rfl⟩
def FB:List Lx.Pd:=[⟨2,[3],-1⟩,⟨3,[4],-1⟩,⟨4,[],-1⟩,⟨4,[1],1⟩]
theorem aju:Gi (dw IK)=(2,3,FB):=by kernel_rfl
theorem ajK:∃ g,dw IJ=.ok g/\(aA g).length=3/\(aU g).length=4:=by
 have h:=ajt;cases hp:dw IJ with
 | error e=>rw[hp]at h;simp[Gi]at h
 | ok g=>rw[hp]at h;exact⟨g,rfl,h.1,h.2⟩
theorem aac:∃ g,dw IK=.ok g/\(aA g).length=2/\(aN g).length=3/\aU g=FB:=by
 have h:=aju;cases hp:dw IK with
 | error e=>rw[hp]at h;simp[Gi]at h
 | ok g =>
  rw[hp]at h;simp only[Gi,Prod.mk.injEq]at h;exact⟨g,rfl,h.1,h.2.1,h.2.2⟩
theorem ahN:∀ g,dw IK=.ok g->H6 g:=by
 intro g hg;obtain⟨g',h1,h2,h3,h4⟩:=aac;rw[h1]at hg;cases hg;unfold H6 yV;rw[h2,h3,h4];refine⟨by decide,by decide,by decide⟩
def Sc:List Bool:=[false,false,true,true,true]
theorem aj8 {k:Nat}{E:List Bool}(h:E=gq (bW FB) k (List.replicate (2+3) false))(hs:bW FB E=E):E=Sc:=by
 subst h;exact (YK (m:=3) hs (by kernel_rfl)).trans (by kernel_rfl)
theorem aj9 {m:Nat}{B:List (List Bool)}(h:B=gq (iJ FB Sc) m (Lx.alone 2 (2+3)))(hs:iJ FB Sc B=B):B.map mg=[[0],[1],[1],[1],[1]]:=by
 subst h;rw[YK (m:=3) hs (by kernel_rfl)]
 kernel_rfl
theorem QC (n:Int)(w:World):Calls prog 12 #[.int .i64 n] w fun e w'=>e=.returned (.int .i64 n)/\w'=w:=by
 go_enter func12,ntmps12;go_wp2_with fail;go_ret;exact⟨rfl,rfl⟩
theorem PI (w:World)(ht:nL w):Calls prog 13 #[] w fun e w'=>e=.returned (.bool true)/\Below w.heap.size w w':=by
 have P1:=P8 IJ w (by decide) ht;go_enter func13,ntmps13;go_wp2_with fail;refine P1.mono ?_;rintro e w1 ⟨v,n,a,rfl,hb1,hok,-⟩;clear P1;obtain⟨g,hg,TM,hgP⟩:=ajK;obtain⟨rfl,rfl,hP⟩:=hok g hg;clear hok hg;obtain⟨vT,vN,vP,vB,vK,rfl,hT,hN,⟨ps,p1,p2,-⟩,hB,hK⟩:=hP;obtain⟨ta,tc,rfl,-⟩:=aI hT;obtain⟨na,nc,rfl,-⟩:=aI hN;obtain⟨pa,pc,rfl,-⟩:=aI p2;obtain⟨ba,bc,rfl,-⟩:=aI hB;obtain⟨ka,kc,rfl,-⟩:=aI hK;rw[TM,hgP];clear hT hN hB hK p1 p2 TM hgP;generalize (aN g).length=nN;generalize ((aA g).map fun t=>(dP g t).1).length=nB;generalize ((aA g).map fun t=>(dP g t).2).length=nK;obtain⟨W,hW⟩:∃ W,W=w1.alloc (.cells #[.slice ta 3 tc,.slice na nN nc,.slice pa 4 pc,.slice ba nB bc,.slice ka nK kc] 26):=⟨_,rfl⟩;have kW:aj W w1.heap.size #[.slice ta 3 tc,.slice na nN nc,.slice pa 4 pc,.slice ba nB bc,.slice ka nK kc] 26:=by rw[hW];exact RV _ _ _ _ _ _
 have hbW:Below w.heap.size w W:=by rw[hW];exact hb1.alloc hb1.size _
 have P2:=aiF IK W (by decide) (ht.move (hbW.block _ ht.lt)) ahN;go_wp2_with fail;rw[<-hW];clear hW;refine P2.mono ?_;rintro e w2 ⟨hb2,-,hok⟩;clear P2;obtain⟨g2,h1,h2,h3,h4⟩:=aac;have hS:=hok g2 h1;clear hok h1;rw[h2,h3,h4]at hS;clear h2 h3 h4;obtain⟨gE,E,k,vF,B,m,rfl,kE,hgE,-,hE,JK,hB,JL,hpt⟩:=hS;obtain rfl:=aj8 hE JK;rw[aj9 hB JL]at hpt;obtain⟨gF,cF,u,rfl,-,lF,cu,ou⟩:=hpt.pt.at (j:=2) (by decide);obtain⟨ua,uc,rfl,-⟩:=aI ou;have cE:w2.cell? ⟨gE,2,none⟩=some (.bool true):=kE.cell 2;have zN:aj w2 w1.heap.size _ 26:=(hb2.block _ kW.lt).trans kW;have c0:w2.cell? ⟨w1.heap.size,0,none⟩=some (.slice ta 3 tc):=zN.cell 0;have c2:w2.cell? ⟨w1.heap.size,2,none⟩=some (.slice pa 4 pc):=zN.cell 2;have hbf:Below w.heap.size w w2:=hbW.trans (hb2.mono hbW.size);have cu':w2.cell? ⟨gF,2,none⟩=some (.slice ua 1 uc):=cu;clear cu ou hpt hE JK hB JL kE kW zN hbW hb1 hb2
 go_wp2_with (go_at_call 12;refine (QC _ _).mono ?_;rintro e w' ⟨rfl,hw'⟩;obtain rfl:=hw'.symm)
 go_ret;exact⟨rfl,hbf⟩
end Go.Proofs.YtlcppnabbicmoaaGreatDoor
namespace Go.Proofs.YtlcppnabbicmoaaGreatDoor
open Lx Go.Proofs.Tryz
open Go.RowKit
open Tr
end Go.Proofs.YtlcppnabbicmoaaGreatDoor

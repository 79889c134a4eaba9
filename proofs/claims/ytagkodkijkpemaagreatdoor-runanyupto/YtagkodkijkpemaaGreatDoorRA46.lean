import Derived.Test.YtagkodkijkpemaaGreatDoorRA45
set_option maxHeartbeats 8000000
set_option maxRecDepth 1000000
namespace Go.Proofs.YtagkodkijkpemaaGreatDoor
open Lx Go.Proofs.Tryz
open Go.RowKit Tr
def zL(s:Nat×Nat):Prop:=s=(0,2)\/s=(0,3)\/s=(1,3)
structure iw(c:bA):Prop where
 P:∃a b d,c.P=[⟨2,[3],a⟩,⟨3,[1,3],b⟩,⟨3,[],d⟩]
 f:c.f=oo nG 4
 nT:c.nT=2
section
variable {c:bA} {S:bL}
theorem iw.nw(h:iw c):c.nw=1:=by unfold bA.nw;rw[h.nT];rfl
theorem iw.nm(h:iw c):c.sO (0,2)=[((0,0),0)]/\c.sO (0,3)=[((1,1),1)]/\c.sO (1,3)=[((1,1),1)]:=by
 obtain⟨a,b,d,g⟩:=h.P;unfold bA.sO;rw[g,h.f,h.nT];exact⟨rfl,rfl,rfl⟩
theorem iw.en(h:iw c):c.yC (0,2)=[((0,1),2)]/\c.yC (0,3)=[((1,2),3),((2,0),0)]/\c.yC (1,3)=[((1,2),3),((2,0),1)]:=by
 obtain⟨a,b,d,g⟩:=h.P;unfold bA.yC;rw[g,h.f];exact⟨rfl,rfl,rfl⟩
theorem iw.inn(h:iw c):c.inn ((0,0),0)=(0,3)/\c.inn ((1,1),1)=(1,3):=by
 obtain⟨a,b,d,f⟩:=h.P;unfold bA.inn;rw[f];exact⟨rfl,rfl⟩
theorem iw.oh(h:iw c):oh c.P (0,0)=[]/\oh c.P (1,1)=[]:=by
 obtain⟨a,b,d,f⟩:=h.P;rw[f];exact⟨rfl,rfl⟩
theorem iw.st0(h:iw c):c.st0 2:=by
 obtain⟨a,b,d,f⟩:=h.P;unfold bA.st0;rw[f];rfl
theorem iw.len(h:iw c):c.P.length=3:=by
 obtain⟨a,b,d,f⟩:=h.P;rw[f];rfl
theorem iw.on(h:iw c){s:Nat×Nat}{x:au×Nat}(i:zL s)(a:x∈c.sO s):zL (c.inn x)/\Lx.oh c.P x.1=[]:=by
 obtain⟨l,j,f⟩:=h.nm;obtain⟨g,b⟩:=h.inn;obtain⟨k,d⟩:=h.oh;rcases i with rfl|rfl|rfl
 ·rw[l,cM]at a
  subst a;exact⟨.inr (.inl g),k⟩
 ·rw[j,cM]at a
  subst a;exact⟨.inr (.inr b),d⟩
 ·rw[f,cM]at a
  subst a;exact⟨.inr (.inr b),d⟩
theorem iw.G(h:iw c):Hg c 2 8 zL (fun _ t=>t=0) where
 r0:=.inl rfl
 r1 _ _ d hx:=(h.on d hx).1
 rn l hn hl:=Yp (a:=2) (b:=4) hn fun s d=>by
  rcases hl s d with rfl|rfl|rfl <;> decide
 g0:=rfl
 g1 s x t d hx hp:=by
  rw[(h.on d hx).2]at hp;exact hp
theorem ahx{x y:List Nat}(h:dL y x=y)(a:x.length=y.length){t:Nat}(k:dU x t=true):dU y t=true:=by
 rw[<-h,Rp a,k,Bool.or_true]
theorem iw.all(h:iw c)(g:kV c zL (fun _ t=>t=0) (fun _ _=>True) S)(n:S.wq=[])(G:∀ws∈S.ss,ws.length=1)(D:(0,2)∈S.st):(∀p s,S.st[p]?=some s->zL s/\∀t,dU (S.ss.getD p []) t=true↔t=0)/\(0,3)∈S.st/\(1,3)∈S.st:=by
 obtain⟨J,C,N⟩:=h.nm;obtain⟨B,H⟩:=h.inn;obtain⟨M,I⟩:=h.oh;have b:∀p s,S.st[p]?=some s->(S.ss.getD p []).length=1:=fun p s a=>by
  have k:p<S.ss.length:=by rw[g.ls];exact(cG.1 a).1
  rw[ed,cF k];exact G _ (dy k)
 have o:∀p s,S.st[p]?=some s->S.ws[p]?=some false:=fun p s a=>by
  have k:p<S.ws.length:=by rw[g.lw];exact(cG.1 a).1
  have e:=cF k;cases hb:S.ws[p] with
  |false=>rw[e,hb]
  |true=>
   rw[hb]at e;have:=(g.q p).2 e;rw[n]at this;cases this
 have i:∀p s j x,S.st[p]?=some s->(c.sO s)[j]?=some x->Lx.oh c.P x.1=[]->dU (S.ss.getD p []) 0=true->∃q,S.st[q]?=some (c.inn x)/\dU (S.ss.getD q []) 0=true:=fun p s j x a z L E=>by
  obtain⟨q,l,m⟩:=g.cls p s j x a (o p s a) trivial z;rw[L]at m;exact⟨q,l,ahx m (by rw[b p s a,b q _ l]) E⟩
 have f:∀p q s,S.st[p]?=some s->S.st[q]?=some s->p=q:=fun p q s a n=>by
  obtain⟨h1,A⟩:=cG.1 a;obtain⟨h2,y⟩:=cG.1 n;exact(lj g.nd).1 (A.trans y.symm)
 obtain⟨p0,d⟩:=eQ.1 D;have u:=g.Hl p0 2 h.st0 d;obtain⟨r,hp1,v⟩:=i p0 (0,2) 0 _ d (by rw[J];rfl) M u;rw[B]at hp1;obtain⟨K,hp2,F⟩:=i r (0,3) 0 _ hp1 (by rw[C];rfl) I v;rw[H]at hp2;refine⟨fun p s a=>?_,cQ hp1,cQ hp2⟩;obtain⟨l,m⟩:=g.snd p s a;refine⟨l,fun t=>⟨m t,?_⟩⟩;rintro rfl;rcases l with rfl|rfl|rfl
 ·rw[f p p0 _ a d];exact u
 ·rw[f p r _ a hp1];exact v
 ·rw[f p K _ a hp2];exact F
theorem one_set{ws:List Nat}(a:ws.length=1)(f:kH ws)(d:∀t,dU ws t=true↔t=0):ws=[1]:=by
 match ws,a with
 | [x],_=>
  have b:x<2 ^ 64:=f x (by simp);have:x=1:=by
   apply Nat.eq_of_testBit_eq;intro i
   by_cases hi:i<64
   ·have:=d i
    unfold dU at this;rw[Nat.div_eq_of_lt hi,Nat.mod_eq_of_lt hi]at this;simp only[List.getD_cons_zero]at this;cases i with
    |zero=>simpa using this.2 rfl
    |succ j=>
     have e:x.testBit (j+1)=false:=by
      cases e:x.testBit (j+1) with
      |false=>rfl
      |true=>exact absurd (this.1 e) (by omega)
     rw[e];simp[Nat.testBit_succ]
   ·rw[Nat.testBit_lt_two_pow (dd b (ry (by omega) (by omega)))]
    cases i with
    |zero=>omega
    |succ j=>simp[Nat.testBit_succ]
  rw[this]
def Ic:List (Nat×Nat):=[(2,0),(3,1),(0,2),(1,2)]
theorem iw.ends(h:iw c)(f:(∀p s,S.st[p]?=some s->zL s/\∀t,dU (S.ss.getD p []) t=true↔t=0)/\(0,3)∈S.st/\(1,3)∈S.st)(r:(0,2)∈S.st):(∀e,(∃i,c.yD S i e)↔e∈Ic):=by
 obtain⟨n,j,l⟩:=h.en;obtain⟨f,h1,h2⟩:=f;intro e;constructor
 ·rintro⟨i,s,x,o,a,rfl⟩
  rcases (f i s o).1 with rfl|rfl|rfl
  ·rw[n,cM]at a
   subst a;decide
  ·rw[j]at a
   rcases ee.1 a with rfl|a
   ·decide
   ·rw[cM]at a
    subst a;decide
  ·rw[l]at a
   rcases ee.1 a with rfl|a
   ·decide
   ·rw[cM]at a
    subst a;decide
 ·intro b
  obtain⟨p0,k⟩:=eQ.1 r;obtain⟨m,d⟩:=eQ.1 h1;obtain⟨q,g⟩:=eQ.1 h2;unfold Ic at b;rcases ee.1 b with rfl|b
  ·exact⟨p0,_,((0,1),2),k,by rw[n];simp,rfl⟩
  rcases ee.1 b with rfl|b
  ·exact⟨m,_,((1,2),3),d,by rw[j];simp,rfl⟩
  rcases ee.1 b with rfl|b
  ·exact⟨m,_,((2,0),0),d,by rw[j];simp,rfl⟩
  rcases ee.1 b with rfl|b
  ·exact⟨q,_,((2,0),1),g,by rw[l];simp,rfl⟩
  ·cases b
theorem iw.sets(h:iw c)(g:(∀p s,S.st[p]?=some s->zL s/\∀t,dU (S.ss.getD p []) t=true↔t=0)/\(0,3)∈S.st/\(1,3)∈S.st){K:List (Nat×Nat)}{ss:List (List Nat)}(d:mY S (c.yD S) K ss)(a:∀ws∈ss,ws.length=c.nw/\kH ws):∀p,p<K.length->ss.getD p []=[1]:=fun p f=>by
 have b:p<ss.length:=by rw[d.len];exact f
 have e:ss.getD p []=ss[p]:=by rw[ed,cF b];rfl
 obtain⟨j,m⟩:=a ss[p] (dy b);rw[h.nw]at j;rw[e];refine one_set j m fun t=>?_
 rw[<-e,d.has p K[p] t (cF f)];constructor
 ·rintro⟨i,⟨s,x,a,-,-⟩,l⟩
  exact((g.1 i s a).2 t).1 l
 ·rintro rfl
  obtain⟨i,o⟩:=(d.mem _).1 (dy f);obtain⟨s,x,a,k,n⟩:=o;exact⟨i,⟨s,x,a,k,n⟩,((g.1 i s a).2 0).2 rfl⟩
theorem acR:mX [1] 1=[0]:=by
 unfold mX mX;rw[List.getD_cons_zero,SL (by decide),show (1 &&& (1-1))=0 from rfl,ab2];rfl
theorem iw.ri(h:iw c)(g:(∀p s,S.st[p]?=some s->zL s/\∀t,dU (S.ss.getD p []) t=true↔t=0)/\(0,3)∈S.st/\(1,3)∈S.st){K:List (Nat×Nat)}{ss:List (List Nat)}(a:mY S (c.yD S) K ss)(d:∀ws∈ss,ws.length=c.nw/\kH ws):∀ws∈ss,(mX ws c.nw).length<=1000000:=fun ws f=>by
 obtain⟨p,b,rfl⟩:=pB.1 f;have:=h.sets g a d p (by rw[<-a.len];exact b);rw[ed,cF b,pD]at this;rw[this,h.nw,acR];decide
theorem iw.ans(h:iw c)(j:(∀p s,S.st[p]?=some s->zL s/\∀t,dU (S.ss.getD p []) t=true↔t=0)/\(0,3)∈S.st/\(1,3)∈S.st)(n:(0,2)∈S.st){K:List (Nat×Nat)}{ss:List (List Nat)}(l:mY S (c.yD S) K ss)(o:∀ws∈ss,ws.length=c.nw/\kH ws):((List.range 4).map fun i=>fJ c.nw K ss i c.P.length)=rG:=by
 have g:∀e,e∈K↔e∈Ic:=fun e=>(l.mem e).trans (h.ends j n e)
 have m:=h.sets j l o;have b:∀i k,(i,k)∈Ic->fJ 1 K ss i (k+1)=fJ 1 K ss i k++[(k,[0])]:=fun i k f=>by
  have:=(g _).2 f;have e:ze K (i,k)=some (K.idxOf (i,k)):=by unfold ze;rw[de this]
  rw[fJ,e];show _++[(k,mX (ss.getD (K.idxOf (i,k)) []) 1)]=_;rw[m _ (List.idxOf_lt_length_iff.2 this),acR]
 have a:∀i k,(i,k)∉Ic->fJ 1 K ss i (k+1)=fJ 1 K ss i k:=fun i k f=>by
  have e:ze K (i,k)=none:=by unfold ze;rw[dk fun d=>f ((g _).1 d)]
  rw[fJ,e];exact eN _
 rw[h.nw,h.len];show [fJ 1 K ss 0 3,fJ 1 K ss 1 3,fJ 1 K ss 2 3,fJ 1 K ss 3 3]=rG;rw[b 0 2 (by decide),a 0 1 (by decide),a 0 0 (by decide),b 1 2 (by decide),a 1 1 (by decide),a 1 0 (by decide),a 2 2 (by decide),a 2 1 (by decide),b 2 0 (by decide),a 3 2 (by decide),b 3 1 (by decide),a 3 0 (by decide)];rfl
theorem iw.few(h:iw c)(j:(∀p s,S.st[p]?=some s->zL s/\∀t,dU (S.ss.getD p []) t=true↔t=0)/\(0,3)∈S.st/\(1,3)∈S.st)(k:(0,2)∈S.st)(K:List (Nat×Nat))(d:K.Nodup)(f:∀e∈K,∃i,c.yD S i e):K.length<=1000000000:=by
 have:=Yp (a:=4) (b:=3) d fun s g=>by
  have:=(h.ends j k s).1 (f s g);revert this;unfold Ic;simp only[ee,ph,or_false];rintro(rfl | rfl | rfl | rfl) <;> decide
 omega
end
namespace Lx
theorem agn{nT n l s:Nat}{B:List (List Bool)}(h:B.length=n/\∀r∈B,r.length=nT):(pG l B s).length=n/\∀r∈pG l B s,r.length=nT:=by
 unfold pG;refine⟨by rw[ib];exact h.1,fun r a=>?_⟩
 by_cases hl:l<B.length
 ·rcases pP a with a | rfl
  ·exact h.2 r a
  ·rw[abK,Fp hl]
   exact h.2 _ (dy hl)
 ·rw[List.set_eq_of_length_le (by omega)]at a
  exact h.2 r a
theorem QX{nT n:Nat}{α:Type}{f:List (List Bool)->α->List (List Bool)}(b:∀B a,(B.length=n/\∀r∈B,r.length=nT)->((f B a).length=n/\∀r∈f B a,r.length=nT)):∀(l:List α)(B:List (List Bool)),(B.length=n/\∀r∈B,r.length=nT)->((l.foldl f B).length=n/\∀r∈l.foldl f B,r.length=nT)
 | [],_,h=>h
 |a::l,B,h=>QX b l (f B a) (b B a h)
theorem agp{nT n:Nat}{P:List Pd}{E:List Bool}{B:List (List Bool)}(h:B.length=n/\∀r∈B,r.length=nT):(gI P E B).length=n/\∀r∈gI P E B,r.length=nT :=
 QX (fun _ _ b=>QX (fun _ _ a=>agn a) _ _ b) P B h
theorem XM{nT n:Nat}{P:List Pd}{E:List Bool}:∀m,(qZ (gI P E) m (alone nT n)).length=n/\∀r∈qZ (gI P E) m (alone nT n),r.length=nT
 |0=>⟨by simp[qZ,alone],fun r a=>by
   unfold qZ alone at a;obtain⟨i,-,rfl⟩:=ej.1 a;unfold yK
   split <;> simp⟩
 |m+1=>agp (XM m)
theorem afa{nT:Nat}{A:List Bool}(h:A.length=nT):(jE A).length<=nT/\∀t∈jE A,t<nT:=by
 unfold jE;refine⟨dg (rx ..) (by rw[sX,h];exact zL0),fun t a=>?_⟩;rw[<-h];exact rg.1 (ie.1 a).1
end Lx
theorem GL.inr{B:Nat}{w:World}{v:Value}{d:List (List Nat)}(h:GL B w v d):xX w v d:=by
 obtain⟨f,⟨h1,h2,h3,-⟩,-⟩:=h;obtain⟨a,c,rfl,-⟩:=aB h2;refine⟨a,c,rfl,fun i x b=>?_⟩;rw[<-h1,dj]at b;obtain⟨q,hq,rfl⟩:=mL.1 b;obtain⟨g,l,e,k⟩:=mZ h2 (j:=i) (u:=q.1) (by rw[dj,hq];rfl);cases e;exact⟨g,rfl,q.1,by rw[jt];exact k i _ (by rw[dj,hq];rfl),lD.own (h3 q (cQ hq))⟩
theorem PP.pdc{D:Nat->Prop}{w:World}{pa:Option Addr}{pc:Nat}{P:List Lx.Pd}(h:PP D w (.slice pa P.length pc) P)(s:0<P.length):∃gP,pa=some ⟨gP,0,none⟩/\qH w (fun k=>k<w.heap.size) gP P:=by
 obtain⟨g,a,u,l,d,c,i,f⟩:=PP.at h s;cases l;refine⟨g,rfl,Nl c,fun k p t=>?_⟩;obtain⟨r,rfl⟩:=cG.1 t;obtain⟨z,n,u,l,d,c,i,f⟩:=PP.at h r;cases l;rcases d.2 with ⟨rfl,e⟩|⟨b,a,o,rfl,-,q,h1,h2,-⟩
 ·refine⟨none,0,c,by rw[e];exact i,f,by omega,.inl ⟨rfl,fY e,rfl⟩⟩
 ·refine⟨_,a,c,i,f,h1,.inr ⟨b,rfl,(dv.1 q).1,fun j x m=>?_⟩⟩
  obtain⟨y,v,e,k⟩:=mZ d (j:=j) (u:=.int .i64 (x:Int)) (by unfold dK;rw[dj,m];rfl);cases e;exact k j _ (by unfold dK;rw[dj,m];rfl)
theorem qH.imp{w:World}{F c:Nat->Prop}{g:Nat}{P:List Lx.Pd}(h:qH w F g P)(a:∀k,F k->c k):qH w c g P:=⟨a _ h.own,fun k p m=>by
 obtain⟨j,l,h1,h2,h3,h4,d⟩:=h.row k p m;exact⟨j,l,h1,h2,h3,h4,d.imp id fun⟨b,e,f,i⟩=>⟨b,e,a b f,i⟩⟩⟩
theorem aiZ{l W:World}{lb j gm gP s u tc pc:Nat}{ta:Option Addr}{v1 v3 v4:Value}{P:List Lx.Pd}{E:List Bool}{n:List Nat}{fs:List (List Nat)}(v:Below l.heap.size l W)(N:qH l (fun k=>k<l.heap.size) gP P)(m:∃a b d,P=[⟨2,[3],a⟩,⟨3,[1,3],b⟩,⟨3,[],d⟩])(G:aj l s (bE E) 4)(L:E.length=4)(y:dm bC (fun _=>True) W gm (fun a=>(oo nG 4 a:Int)))(J:aj W u (n.map (gY 1)).toArray 214)(x:n.length=4)(O:∀(i g:Nat),n[i]?=some g->∃ws,fs[i]?=some ws/\TS W g ws/\ws.length=1)(km:W.heap[j]?=some (.map #[] 0))(q:aj W lb #[.slice ta 2 tc,v1,.slice (some ⟨gP,0,none⟩) 3 pc,v3,v4,.map (some gm),.slice (some ⟨s,0,none⟩) 4 4,.slice (some ⟨u,0,none⟩) 4 4,.map (some j),.slice none 0 0,.slice none 0 0,.slice none 0 0,.slice none 0 0] 153)(D:j≠gm)(T:l.heap.size<=lb)(Q:l.heap.size<=j):∃c F S,c.lb=lb/\iw c/\mU c W F W.heap.size/\jP c W F W.heap.size W S/\S.st=[]/\S.wq=[]/\∀k,k<l.heap.size->F k:=by
 have hlp:lb≠j:=by
  rintro rfl;rw[show W.heap[lb]?=_ from q]at km;cases km
 have K:P.length=3:=by obtain⟨a,b,d,rfl⟩:=m;rfl
 have f:∀k,k<l.heap.size->(k<W.heap.size/\k≠lb/\k≠j):=fun k C=>⟨dd C v.size,by omega,by omega⟩
 have A:lb<W.heap.size:=q.lt;have B:j<W.heap.size:=(dv.1 km).1;have r:∀(g t:Nat)(o:Array Value),W.heap[g]?=some (.cells o t)->t≠153->g<W.heap.size/\g≠lb/\g≠j:=fun g t o p M=>by
  refine⟨(dv.1 p).1,?_,?_⟩
  ·rintro rfl
   rw[show W.heap[g]?=_ from q]at p;cases p;exact M rfl
  ·rintro rfl
   rw[km]at p;cases p
 have I:bA.nw ⟨lb,j,gm,gP,s,u,2,tc,pc,4,4,ta,v1,v3,v4,P,oo nG 4,E,n,fs⟩=1:=iw.nw ⟨m,rfl,rfl⟩;refine⟨⟨lb,j,gm,gP,s,u,2,tc,pc,4,4,ta,v1,v3,v4,P,oo nG 4,E,n,fs⟩,fun k=>k<W.heap.size/\k≠lb/\k≠j,⟨.slice none 0 0,.slice none 0 0,.slice none 0 0,.slice none 0 0,[],[],[],[],[]⟩,rfl,⟨m,rfl,rfl⟩,?_,?_,rfl,rfl,f⟩
 ·refine⟨(N.move fun b z=>v.block b z).imp f,(v.block _ G.lt).trans G,L,fun i g H=>?_,x,y,f _ G.lt,r _ _ _ J (by decide),⟨y.lt,?_,fun e=>D e.symm⟩,fun k C=>C,A,B,by show P.length<=200;omega,fun k=>?_,⟨Nat.succ_pos 1,oy rfl⟩⟩
  ·obtain⟨ws,h1,h2,h3⟩:=O i g H
   refine⟨?_,r _ _ _ h2.blk (by decide),ws,h1,h2,h3.trans I.symm⟩;rw[I,J.cell i,fR,dj,H];rfl
  ·intro e
   obtain⟨U,R,k,-⟩:=y;rw[show gm=lb from e,show W.heap[lb]?=_ from q]at k;cases k
  ·obtain⟨a,b,d,rfl⟩:=m
   match k with
   |0=>exact oy rfl
   |1=>exact oy rfl
   |2=>exact oy rfl
   |k+3=>exact oy rfl
 ·refine⟨⟨fun _ _=>rfl,?_,eE _ _ _ _,eE _ _ _ _,?_,eE _ _ _ _,⟨#[],0,km,rfl,fun i e h=>(by simp at h)⟩,fun i g h=>(by simp at h),mf,zL0⟩,rfl,rfl,rfl⟩
  ·show aj W lb _ 153
   unfold bA.cells;rw[show (bA.P _).length=3 from K];exact q
  ·exact .inl ⟨rfl,rfl⟩
namespace Lx
theorem ai0{K:List (Nat×Nat)}{e:Nat×Nat}{p:Nat}(h:ze K e=some p):K[p]?=some e:=by
 unfold ze at h
 split at h
 ·rename_i b
  cases h;have a:=List.idxOf_lt_length_of_mem b;rw[cF a,List.getElem_idxOf a]
 ·cases h
theorem ai1{K:List (Nat×Nat)}{e:Nat×Nat}(h:ze K e=none):e∉K:=by
 unfold ze at h
 split at h
 ·cases h
 ·assumption
end Lx
def WU(c:bA)(W:World)(S:bL)(N:Nat)(e:Ending)(W':World):Prop:=∃(v:Value)(K:List (Nat×Nat))(ss:List (List Nat)),e=.returned v/\Below W.heap.size W W'/\mY S (c.yD S) K ss/\(∀ws∈ss,ws.length=c.nw/\kH ws)/\ru W' v ((List.range N).map fun i=>fJ c.nw K ss i c.P.length)
theorem ahy{c:bA}{W:World}{S:bL}{N:Nat}(kb:aj W c.lb (c.cells S) 153)(Qq:Calls prog 99 #[.pointer (some ⟨c.lb,0,none⟩)] W (LK c W S))(hT:TabAt 2 Lib.deBruijn64tab W)(hN:N<=100000)(hP:c.P.length<=100000)(ax:c.nw<=1000)(zy:∀K ss,mY S (c.yD S) K ss->(∀ws∈ss,ws.length=c.nw/\kH ws)->∀ws∈ss,(mX ws c.nw).length<=1000000):Calls prog 64 #[.pointer (some ⟨c.lb,0,none⟩),.int .i64 (N:Int)] W (WU c W S N):=by
 obtain⟨i0,ak,am,al,ao⟩:=fd Tryz.alR;have ad:=fun w=>akx (n:=N) hN w
 go_enter func64,ntmps64;go_upto_region 2 with (go_at_call 99;refine Qq.mono ?_;rintro e w1⟨gm,vA,K,U,ss,rfl,L,hK,LC,hS,G,hI⟩)
 have R:∀ws∈ss,ws.length=c.nw/\kH ws:=fun ws hws=>by
  obtain⟨i,Y⟩:=eQ.1 hws;obtain⟨g,C⟩:∃g,U[i]?=some g:=⟨_,cF (by rw[G,<-hI.len];exact(cG.1 Y).1)⟩;obtain⟨aw,h1,h2,h3⟩:=hS i g C;rw[Y]at h1;cases h1;exact⟨h3,h2.wd⟩
 have ag:=zy K ss hI R;obtain⟨aA,cA,rfl,-⟩:=aB LC;obtain⟨d,iE⟩:∃b,w1.heap.size=b:=⟨_,rfl⟩;obtain⟨w2,E⟩:∃V,V=w1.alloc (.cells (vA (List.replicate N (Value.slice none 0 0))) 168):=⟨_,rfl⟩;have af:jM w1 d d w2 (List.replicate N (.slice none 0 0)) (List.replicate N []):=by
  refine⟨by rw[E,<-iE];exact aj.new ..,by simp,fun i v l hv hl=>?_,fun i l x hl hx=>?_,fun i j v v' _ hv _ g C=>?_,zL0,by rw[E,<-iE];exact(cV _ _).alloc (zL0) _⟩
  ·rw[kk (cQ hv),kk (cQ hl)]
   exact eE _ _ _ _
  ·rw[kk (cQ hl)]at hx
   cases hx
  ·rw[kk (cQ hv)]at C
   cases C
 have HL:Hid (∀wr,Below d w1 wr->wr.cell? ⟨c.lb,2,none⟩=some (.slice (some ⟨c.gP,0,none⟩) c.P.length c.pc)/\iD bC wr gm K/\TabAt 2 Lib.deBruijn64tab wr/\∀(p g:Nat),U[p]?=some g->∃h,aA=some ⟨h,0,none⟩/\wr.cell? ⟨h,p,none⟩=some (.slice (some ⟨g,0,none⟩) c.nw c.nw)/\∃ws,ss[p]?=some ws/\TS wr g ws/\ws.length=c.nw):=fun wr B=>by
  rw[<-iE]at B;have ac:aj w1 c.lb (c.cells S) 153:=(L.block _ kb.lt).trans kb;have LQ:aj wr c.lb (c.cells S) 153:=(B.block _ ac.lt).trans ac;refine⟨LQ.cell 2,hK.move (B.block _ hK.lt),fun j hj=>aV B (aV L (hT j hj)),fun p g C=>?_⟩;obtain⟨ws,h1,h2,h3⟩:=hS p g C;obtain⟨h,cp,e,hc⟩:=mZ LC (j:=p) (u:=gY c.nw g) (by rw[dj,C];rfl);cases e;exact⟨h,rfl,aV B (hc p _ (by rw[dj,C];rfl)),ws,h1,h2.move (B.block _ h2.blk.lt),h3⟩
 have H0:Hid (∃f D,f.length=N/\jM w1 d d w2 f D/\D.map (List.map iZ)=(List.range N).map fun i=>if i<0 then fJ c.nw K ss i c.P.length else []):=⟨_,_,by simp,af,by
  apply mi
  ·simp
  ·intro i h1 h2
   simp⟩
 have HF:Hid (∀v W',ru W' v ((List.range N).map fun i=>fJ c.nw K ss i c.P.length)->Below d w1 W'->WU c W S N (.returned v) W'):=fun v W' hr B=>⟨v,K,ss,rfl,L.trans (B.mono (by rw[<-iE];exact L.size)),hI,R,hr⟩
 have ap:U.length=K.length:=G;have GY:Hid (K.Nodup/\U.length=K.length):=⟨hI.nd,G⟩;have aa:Hid (∀ws∈ss,(mX ws c.nw).length<=1000000):=ag;clear hI G ap hS LC hK af R zy ag Qq kb hT;go_upto_region 3 with (simp only[ad])
 rw[<-E];clear E iE ad;go_wp2_with fail
 go_loopw [21] (fun i wr=>∃j:Nat,j<=N/\i=.int .i64 (j:Int)/\Hid (∃f D,f.length=N/\jM w1 d d wr f D/\D.map (List.map iZ)=(List.range N).map fun i=>if i<j then fJ c.nw K ss i c.P.length else [])) (fun i _=>N - (intOf i).toNat)
 case atStart=>exact⟨0,by omega,rfl,H0⟩
 case round=>
  clear H0;obtain⟨j,hj,rfl,HI⟩:=hrel;obtain⟨f,D,m,r,y⟩:=HI.out;clear HI
  by_cases hjn:j<N
  ·have j1:(j:Int)<(N:Int):=by omega
   obtain⟨c2,-⟩:=HL.out wr r.b;have H1:Hid (∃f D,f.length=N/\jM w1 d d wr f D/\D.map (List.map iZ)=(List.range N).map fun i=>if i<j then fJ c.nw K ss i c.P.length else if i=j then fJ c.nw K ss i 0 else []):=⟨f,D,m,r,by
    rw[y];refine lz fun i _=>?_
    by_cases h1:i<j
    ·rw[de h1,de h1]
    ·rw[dk h1,dk h1]
     by_cases h2:i=j
     ·rw[de h2];rfl
     ·rw[dk h2]⟩
   clear r y m;go_wp2_with fail;clear c2
   go_loopw [31] (fun i wr=>∃k:Nat,k<=c.P.length/\i=.int .i64 (k:Int)/\Hid (∃f D,f.length=N/\jM w1 d d wr f D/\D.map (List.map iZ)=(List.range N).map fun i=>if i<j then fJ c.nw K ss i c.P.length else if i=j then fJ c.nw K ss i k else [])) (fun i _=>c.P.length - (intOf i).toNat)
   case atStart=>exact⟨0,by omega,rfl,H1⟩
   case round=>
    clear H1;revert wr;intro t hrel;obtain⟨k,hk,rfl,HI⟩:=hrel;obtain⟨f,D,m,r,y⟩:=HI.out;clear HI
    by_cases hkn:k<c.P.length
    ·have k1:(k:Int)<(c.P.length:Int):=by omega
     obtain⟨-,Hz,WV,TH⟩:=HL.out t r.b;cases hf:ze K (j,k) with
     |none=>
      have Q:=iD.miss Tryz.JU Tryz.Jm Tryz.FP Hz (ai1 hf);simp only[bC]at Q;have HN:Hid (∃f D,f.length=N/\jM w1 d d t f D/\D.map (List.map iZ)=(List.range N).map fun i=>if i<j then fJ c.nw K ss i c.P.length else if i=j then fJ c.nw K ss i (k+1) else []):=⟨f,D,m,r,by
       rw[y];refine lz fun i _=>?_
       split
       ·rfl
       ·split
        ·rename_i e
         rw[e,fJ,hf,eN]
        ·rfl⟩
      clear r y m Hz WV TH hf;go_wp2_with fail;exact⟨⟨k+1,by omega,by go_num,HN⟩,by simp[intOf];omega⟩
     |some p=>
      have WW:=ai0 hf;have Q:=iD.hit Tryz.JU Tryz.Jm Hz GY.out.1 WW;simp only[bC]at Q;have ab:=(cG.1 WW).1;obtain⟨g,C⟩:∃g,U[p]?=some g:=⟨_,cF (by rw[GY.out.2];exact ab)⟩;obtain⟨h,rfl,cA,ws,hws,yE,ae⟩:=TH p g C;obtain⟨v,hv⟩:∃v,f[j]?=some v:=⟨_,cF (by omega)⟩;obtain⟨l,hl,ho⟩:=r.at hv;obtain⟨M,F,rfl,-⟩:=aB ho;have az:l.length<=k:=by
       have e:=eS (fun z=>z[j]?) y;simp only[dj,hl,sn hjn]at e;have e2:=gh e;simp only[p7,if_false,qe]at e2;have e3:=eS List.length e2;rw[dt]at e3;rw[e3];exact aa3 ..
      have c0:t.cell? ⟨d,j,none⟩=some (.slice M l.length F):=by rw[r.out.cell,fR];exact hv
      have lo:=r.out.lt;have cO:∀o,(t.alloc o).cell? ⟨d,j,none⟩=some (.slice M l.length F):=fun o=>(cJ (w:=t) (di _ _ _ lo)).trans c0
      have an:=aa.out ws (cQ hws);have P5:=ahu (bx:=t.heap.size) (g:=g) (c:=c.nw) (ws:=ws) (by omega);rw[ae]at P5;have UR:=ahv (w:=t.drew) (a:=some ⟨g,0,none⟩) (n:=c.nw) (c:=c.nw);obtain⟨H,I⟩:∃V,V=t.drew.alloc (.cells #[.slice (some ⟨g,0,none⟩) c.nw c.nw] 214):=⟨_,rfl⟩;have kC:aj H t.heap.size #[.slice (some ⟨g,0,none⟩) c.nw c.nw] 214:=by rw[I];exact aj.new ..
      have A:Below t.heap.size t H:=by
       rw[I];have:=(cV t.heap.size t.drew).alloc (zL0) (.cells #[.slice (some ⟨g,0,none⟩) c.nw c.nw] 214);exact⟨this.1,this.2,this.3,this.4,this.5⟩
      have UU:=agm (w:=H) P5 (fun W' B=>⟨(B.block _ kC.lt).trans kC,yE.move ((B.block _ (dd yE.blk.lt A.size)).trans (A.block _ yE.blk.lt)),fun i Y=>aV B (aV A (WV i Y))⟩) (by omega);rw[<-I]at UR;have cX:H.cell? ⟨d,j,none⟩=some (.slice M l.length F):=aV A c0;have H5:Hid (∀s,Below H.heap.size H s->jM w1 d d s f D):=fun s B=>(r.move A).move B
      have ai:Hid (H.heap.size=H.heap.size/\d<=H.heap.size):=⟨rfl,dg r.size A.size⟩;have HD:Hid (fJ c.nw K ss j (k+1)=fJ c.nw K ss j k++[(k,mX ws c.nw)]):=by
       show _=_;rw[fJ,hf];simp only;rw[ed,hws];rfl
      have O:Hid (f[j]?=some (.slice M l.length F)/\D[j]?=some l/\f.length=N/\D.map (List.map iZ)=(List.range N).map fun i=>if i<j then fJ c.nw K ss i c.P.length else if i=j then fJ c.nw K ss i k else []):=⟨hv,hl,m,y⟩;have d0:(0:Int)<=(j:Int):=by omega
      have d1:(0:Int)<=(p:Int):=by omega
      have d2:(p:Int)<(U.length:Int):=by have:=GY.out.2;omega
      clear r y m Hz WV TH hf WW ab C hws yE ae hv hl ho P5 I kC A;generalize mX ws c.nw=xs at UU HD an;go_upto_region 11 with fail
      go_region_law (first
       | (refine fP rfl 101 #[.slice (some ⟨g,0,none⟩) c.nw c.nw] (by go_simp) UR ?_;rintro e wq⟨rfl,av⟩;subst av;refine⟨_,rfl,?_⟩;clear UR)
       | (refine fP rfl 100 #[.func (.func 140) #[] #[.pointer (some ⟨t.heap.size,0,none⟩)]] (by go_simp) UU ?_;rintro e s⟨v5,rfl,qi,Z⟩;obtain⟨T,X,rfl,-⟩:=aB qi;refine⟨_,rfl,?_⟩;have J:=H5.out s Z;have c5:s.cell? ⟨d,j,none⟩=some (.slice M l.length F):=(by rw[J.out.cell,fR];exact O.out.1);have c6:∀o,(s.alloc o).cell? ⟨d,j,none⟩=some (.slice M l.length F):=(fun o=>(cJ (w:=s) (di _ _ _ J.out.lt)).trans c5);have o6:=(J.row j _ l O.out.1 O.out.2.1).alloc (.cells #[.int .i64 (k:Int),.slice T xs.length X] 170);have AB:=J.out.alloc (.cells #[.int .i64 (k:Int),.slice T xs.length X] 170);have ah:(Value.slice M l.length F).ownBlock≠some d:=(fun e=>(J.kv O.out.1 e).ne J.ko (by decide) rfl);have ar:d<=(s.alloc (.cells #[.int .i64 (k:Int),.slice T xs.length X] 170)).heap.size:=dg J.size (aX s _ none).size;have H6:Hid (jM w1 d d s f D/\s.ownsRow d 3 1 (.slice T xs.length X) xs.length (xs.map bQ)):=⟨J,jc qi ai.out.2⟩;clear J qi Z UU H5)
       | (refine step_append_lies _ rfl (.tmp 48) (.tmp 57) 168 rfl d 170 i0 _ 2 32 Tryz.amo ak am al ao rfl (by decide) (.slice M l.length F) l.length (l.flatMap mV) (by simp[Act.eval]) o6 ⟨s.heap.size,0,none⟩ 1 1 [.int .i64 (k:Int),.slice T xs.length X] (by simp[Act.eval]) rfl (dI (aj.new s _ 170)) (by simp[Value.oneCell']) (by decide) (by unfold maxLen;omega) (by omega) ar _ rfl ?_;intro g9 dw w9 ny jw lY F7;have jC:=AB.grown jw (fun e=>ah e.symm);have c9:w9.cell? ⟨d,j,none⟩=some (.slice M l.length F):=(by rw[jC.cell,fR];exact O.out.1);have f9:=jC.frozen j))
      all_goals
       have HN:Hid (∃f D,f.length=N/\jM w1 d d (w9.setCell ⟨d,j,none⟩ (.slice (some ⟨g9,0,none⟩) (l.length+1) dw)) f D/\D.map (List.map iZ)=(List.range N).map fun i=>if i<j then fJ c.nw K ss i c.P.length else if i=j then fJ c.nw K ss i (k+1) else []):=by
        obtain⟨hv,hl,m,y⟩:=O.out;refine⟨_,_,by rw[ib];exact m,H6.out.1.app (x:=(k,xs,.slice T xs.length X)) hv hl (aL (aX s _ _) jw) (by rw[cH,fL];exact ny) H6.out.2 (by
         rcases lY with e|e
         ·exact .inl e.symm
         ·exact .inr ⟨g9,rfl,by rw[e];exact(aX s _ none).size⟩),?_⟩
        rw[nt,y,ei];apply pA;intro i;rw[fk];have aq:l.map iZ=fJ c.nw K ss j k:=by
         have e:=eS (fun z=>z[j]?) y;simp only[dj,hl,sn hjn]at e;have e2:=gh e;simpa using e2
        by_cases e:j=i
        ·subst e
         rw[de rfl,de (by simp;exact hjn),dj,sn hjn,aq];simp only[Option.map_some,p7,if_false,qe,HD.out];rfl
        ·rw[dk e,dj,dj]
         cases hr:(List.range N)[i]? with
         |none=>rfl
         |some q=>
          have hq:q=i:=by
           obtain⟨h1,h2⟩:=cG.1 hr;rw[<-h2,List.getElem_range]
          simp only[Option.map_some,hq,dk (fun h=>e h.symm:¬i=j)]
       clear ny jw lY jC c9 f9 o6 AB c5 c6 H6 O HD;go_wp2_with fail;exact⟨⟨k+1,by omega,by go_num,HN⟩,by simp[intOf];omega⟩
    ·obtain rfl:k=c.P.length:=by omega
     have HE:Hid (∃f D,f.length=N/\jM w1 d d t f D/\D.map (List.map iZ)=(List.range N).map fun i=>if i<j+1 then fJ c.nw K ss i c.P.length else []):=⟨f,D,m,r,by
      rw[y];refine lz fun i _=>?_
      by_cases h1:i<j
      ·rw[de h1,de (by omega)]
      ·rw[dk h1]
       by_cases h2:i=j
       ·rw[de h2,de (by omega)]
       ·rw[dk h2,dk (by omega)]⟩
     clear r y m;go_wp2_with fail;exact⟨⟨j+1,by omega,by go_num,HE⟩,by simp[intOf];omega⟩
  ·obtain rfl:j=N:=by omega
   have HR:Hid (WU c W S j (.returned (.slice (some ⟨d,0,none⟩) j j)) wr):=HF.out _ _ (by
    have:=r.rows;rw[m,y]at this;have e:((List.range j).map fun i=>if i<j then fJ c.nw K ss i c.P.length else [])=(List.range j).map fun i=>fJ c.nw K ss i c.P.length:=lz fun i Y=>de (rg.1 Y)
    rw[e]at this;exact this) r.b
   clear r y m HL GY aa;go_wp2_with fail;go_ret;exact HR.out
def Bn(W0:World)(lb:Nat)(W:World):Prop:=Calls prog 63 #[.pointer (some ⟨lb,0,none⟩)] W fun e W'=>e=.returned (.tuple #[])/\Calls prog 64 #[.pointer (some ⟨lb,0,none⟩),.int .i64 4] W' fun e w=>∃a cp,e=.returned (.slice a rG.length cp)/\ru w (.slice a rG.length cp) rG/\Below W0.heap.size W0 w
theorem akA{r l W:World}{lb:Nat}(q:Below r.heap.size r l)(o:Below l.heap.size l W)(J:∀W',Below r.heap.size r W'->TabAt 2 Lib.deBruijn64tab W')(h:∃c F S,c.lb=lb/\iw c/\mU c W F W.heap.size/\jP c W F W.heap.size W S/\S.st=[]/\S.wq=[]/\∀k,k<l.heap.size->F k):Bn r lb W:=by
 obtain⟨c,F,S,rfl,b,P,hM,h1,h2,u⟩:=h;have A:=ahs P hM h1 h2 b.G b.st0 (by rw[b.nw];decide) (by decide) (fun s x f V y R=>by rw[(b.on f V).2]at R;cases R);refine A.mono ?_;rintro e W'⟨rfl,z,d,I,hq,H⟩;refine⟨rfl,?_⟩;have hl:∀O∈z.ss,O.length=1:=fun O L=>by
  obtain⟨i,T⟩:=eQ.1 L;obtain⟨g,Y⟩:∃g,z.gs[i]?=some g:=⟨_,cF (by rw[d.m.lg,<-d.m.ls];exact(cG.1 T).1)⟩;obtain⟨-,X,U,-,k2⟩:=d.m.sets i g Y;rw[T]at U;cases U;rw[k2,b.nw]
 have C:=b.all I hq hl H;have B:Below l.heap.size l W':=⟨d.x.fr.1.trans o.1,d.x.fr.2.1.trans o.2,d.x.fr.2.2.trans o.3,dg o.size d.x.bS,fun k n=>(d.m.keep k (u k n)).trans (o.block k n)⟩;have j:=q.trans (B.mono q.size);have Z:=ahw P d.m (dg (b.G.rn z.st I.nd fun s f=>by
  obtain⟨p,hp⟩:=eQ.1 f;exact(I.snd p s hp).1) (by decide)) (by rw[b.nw];decide) (b.few C H)
 have M:=ahy (N:=4) d.m.blk Z (J _ j) (by decide) (by rw[b.len];decide) (by rw[b.nw];decide) (fun K ss D f=>b.ri C D f);refine M.mono ?_;rintro e w⟨v,K,ss,rfl,E,D,f,t⟩;rw[b.ans C H D f]at t;obtain⟨a,Q,rfl,k⟩:=t;exact⟨a,Q,rfl,⟨a,Q,rfl,k⟩,j.trans (E.mono j.size)⟩
theorem adj{P:List Lx.Pd}(h:P.map (fun p=>(p.left,p.right))=Gf):∃a b d,P=[⟨2,[3],a⟩,⟨3,[1,3],b⟩,⟨3,[],d⟩]:=by
 match P,h with
 | [⟨l0,r0,a⟩,⟨l1,r1,b⟩,⟨l2,r2,d⟩],h=>
  simp only[Gf,jp,pH,List.cons.injEq,ip,and_true]at h;obtain⟨⟨rfl,rfl⟩,⟨rfl,rfl⟩,rfl,rfl⟩:=h;exact⟨a,b,d,rfl⟩
theorem akB{g:Lx.Gr}(k:aD g=D5)(j:bI g=Gd)(f:(bJ g).map (fun p=>(p.left,p.right))=Gf):Tz g:=by
 obtain⟨a,b,d,e⟩:=adj f;unfold Tz;rw[k,j,e];refine⟨fun p c=>?_,by decide,fun p c=>?_⟩
 ·simp only[ee,ph,or_false]at c
  rcases c with rfl|rfl|rfl
  ·exact⟨by show 2<4;decide,by show ∀s∈[3],s<4;decide⟩
  ·exact⟨by show 3<4;decide,by show ∀s∈[1,3],s<4;decide⟩
  ·exact⟨by show 3<4;decide,fun s i=>by cases i⟩
 ·simp only[ee,ph,or_false]at c
  rcases c with rfl|rfl|rfl <;> exact oy rfl
theorem zf{w V:World}(h:Below w.heap.size w V)(o:Obj):Below w.heap.size w (V.alloc o):=h.alloc h.size o
theorem OI{w V:World}(h:Below w.heap.size w V):Below w.heap.size w V.drew:=⟨h.1,h.2,h.3,h.4,h.5⟩
theorem amq{W1:World}(u:fq W1):Calls prog 21 #[.string iq] W1 fun e w'=>∃(ta na ba ka:Option Addr)(tc nc gP pc nb bc nk kc:Nat)(P:List Lx.Pd),e=.returned (.tuple #[.agg #[.slice ta 2 tc,.slice na 2 nc,.slice (some ⟨gP,0,none⟩) 3 pc,.slice ba nb bc,.slice ka nk kc],.int .i64 0,.int .i64 0])/\Below W1.heap.size W1 w'/\qH w' (fun k=>k<w'.heap.size) gP P/\∃a b d,P=[⟨2,[3],a⟩,⟨3,[1,3],b⟩,⟨3,[],d⟩]:=by
 obtain⟨q,g,r,i,j⟩:=NU;refine(MZ iq W1 (by decide) u).mono ?_;rintro e w'⟨v,n,a,rfl,c,f,-⟩;obtain⟨rfl,rfl,m⟩:=f q g;rw[r,i]at m;obtain⟨B,C,D,A,z,rfl,p,x,l,s,t,-⟩:=m;obtain⟨ta,tc,rfl,-⟩:=aB p;obtain⟨na,nc,rfl,-⟩:=aB x;obtain⟨ba,bc,rfl,-⟩:=aB s;obtain⟨ka,kc,rfl,-⟩:=aB t;obtain⟨y,pc,rfl,-⟩:=zu.of l;have o:=(acO j).2;obtain⟨gP,rfl,hd⟩:=PP.pdc l (by rw[o];decide);exact⟨ta,na,ba,ka,tc,nc,gP,pc,_,bc,_,kc,_,by rw[o];rfl,c,hd,adj j⟩
theorem amr{W1:World}(g:fq W1):Calls prog 37 #[.string iq] W1 fun e w'=>∃la lc ea ec,e=.returned (.tuple #[.slice la 4 lc,.slice ea 4 ec,.int .i64 0,.int .i64 0])/\Below W1.heap.size W1 w'/\lQ w' (.slice ea 4 ec) nG:=by
 obtain⟨l,n,o⟩:=adh;refine(Yo iq W1 (by decide) g).mono ?_;rintro e w'⟨p,m,rfl,c,⟨⟨i,b,j,-⟩,f⟩,-⟩;rw[o]at f;have d:i.length=4:=by rw[<-n,<-b,dt]
 obtain⟨la,lc,rfl,-⟩:=aB j;have a:lQ w' m nG:=lQ.edg f;obtain⟨ea,ec,rfl,k⟩:=a;exact⟨la,lc,ea,ec,by rw[l,d];rfl,c,⟨ea,ec,rfl,k⟩⟩
theorem ams{W1:World}(C:fq W1):Calls prog 60 #[.string iq] W1 fun e w'=>∃gE E fa fc L,e=.returned (.tuple #[.slice (some ⟨gE,0,none⟩) 4 4,.slice fa 4 fc,.int .i64 0,.int .i64 0])/\Below W1.heap.size W1 w'/\aj w' gE (bE E) 4/\E.length=4/\xX w' (.slice fa 4 fc) L/\L.length=4/\∀l∈L,l.length<=1000000/\∀t∈l,t<2:=by
 obtain⟨j,c,d,b,z⟩:=NU;refine(akh iq W1 (by decide) C fun g o=>?_).mono ?_
 ·rw[c]at o
  cases o;exact akB d b z
 ·rintro e w'⟨v,-,f⟩
  obtain⟨gE,E,k,I,B,m,rfl,G,-,q,-,-,s,-,y⟩:=f j c;rw[d,b]at s q;obtain⟨p,i⟩:=XM (nT:=D5.length) (n:=D5.length+Gd.length) (P:=bJ j) (E:=E) m;rw[<-s]at p i;have A:=y.inr;have a:(B.map jE).length=4:=by rw[dt,p];rfl
  obtain⟨fa,fc,rfl,H⟩:=A;refine⟨gE,E,fa,fc,B.map jE,by rw[a,d,b];rfl,v,G,q,⟨fa,fc,by rw[a],H⟩,a,fun l D=>?_⟩;obtain⟨r,F,rfl⟩:=ej.1 D;obtain⟨u,x⟩:=afa (i r F);exact⟨dg u (by decide),x⟩
def yF:Obj:=.cells #[.slice none 0 0,.slice none 0 0,.slice none 0 0,.slice none 0 0,.slice none 0 0,.map none,.slice none 0 0,.slice none 0 0,.map none,.slice none 0 0,.slice none 0 0,.slice none 0 0,.slice none 0 0] 153
def Ie:Obj:=.map #[] 0
theorem qy{V w':World}{b:Nat}{o:Obj}(a:Below V.heap.size V w')(k:V.heap[b]?=some o):w'.heap[b]?=some o:=(a.block b (dv.1 k).1).trans k
theorem EJ(w:World)(o:Obj):(w.alloc o).heap[w.heap.size]?=some o:=n7 w o
theorem Qr{w:World}{b:Nat}{o:Obj}(a:Obj)(h:w.heap[b]?=some o):(w.alloc a).heap[b]?=some o:=qy ((cV _ w).alloc (zL0) a) h
theorem LW(w:World)(o a:Obj):((w.alloc o).alloc a).heap[w.heap.size]?=some o:=Qr a (EJ w o)
theorem LX(w:World)(o a:Obj):((w.alloc o).alloc a).heap[w.heap.size+1]?=some a:=by
 have:=EJ (w.alloc o) a
 rwa [show (w.alloc o).heap.size=w.heap.size+1 by simp]at this
theorem WX{w:World}{b:Nat}{o:Obj}(h:w.heap[b]?=some o):w.drew.heap[b]?=some o:=h
theorem adk{w:World}{b:Nat}(h:w.heap[b]?=some yF):(∀i,w.frozen? ⟨b,i,none⟩=false)/\w.cell? ⟨b,0,none⟩=some (.slice none 0 0)/\w.cell? ⟨b,1,none⟩=some (.slice none 0 0)/\w.cell? ⟨b,2,none⟩=some (.slice none 0 0)/\w.cell? ⟨b,3,none⟩=some (.slice none 0 0)/\w.cell? ⟨b,4,none⟩=some (.slice none 0 0)/\w.cell? ⟨b,5,none⟩=some (.map none)/\w.cell? ⟨b,6,none⟩=some (.slice none 0 0)/\w.cell? ⟨b,7,none⟩=some (.slice none 0 0)/\w.cell? ⟨b,8,none⟩=some (.map none)/\w.cell? ⟨b,9,none⟩=some (.slice none 0 0)/\w.cell? ⟨b,10,none⟩=some (.slice none 0 0)/\w.cell? ⟨b,11,none⟩=some (.slice none 0 0)/\w.cell? ⟨b,12,none⟩=some (.slice none 0 0):=by
 have k:aj w b _ 153:=h;exact⟨k.frozen,k.cell 0,k.cell 1,k.cell 2,k.cell 3,k.cell 4,k.cell 5,k.cell 6,k.cell 7,k.cell 8,k.cell 9,k.cell 10,k.cell 11,k.cell 12⟩
abbrev FV(w:World)(r:Nat)(x0 x1 x2 x3 x4 x5 x6 x7 x8 x9 x10 zM wo:Value):World:=(((((((((((((w.setCell ⟨r,0,none⟩ x0).setCell ⟨r,1,none⟩ x1).setCell ⟨r,2,none⟩ x2).setCell ⟨r,3,none⟩ x3).setCell ⟨r,4,none⟩ x4).setCell ⟨r,5,none⟩ x5).setCell ⟨r,6,none⟩ x6).setCell ⟨r,7,none⟩ x7).setCell ⟨r,8,none⟩ x8).setCell ⟨r,9,none⟩ x9).setCell ⟨r,10,none⟩ x10).setCell ⟨r,11,none⟩ zM).setCell ⟨r,12,none⟩ wo)
section
variable {w a:World} {r B:Nat} (x0 x1 x2 x3 x4 x5 x6 x7 x8 x9 x10 zM wo:Value)
theorem aah(h:w.heap[r]?=some yF):aj (FV w r x0 x1 x2 x3 x4 x5 x6 x7 x8 x9 x10 zM wo) r #[x0,x1,x2,x3,x4,x5,x6,x7,x8,x9,x10,zM,wo] 153:=by
 have h:aj w r #[.slice none 0 0,.slice none 0 0,.slice none 0 0,.slice none 0 0,.slice none 0 0,.map none,.slice none 0 0,.slice none 0 0,.map none,.slice none 0 0,.slice none 0 0,.slice none 0 0,.slice none 0 0] 153:=h;have k:=((((((((((((h.set 0 x0).set 1 x1).set 2 x2).set 3 x3).set 4 x4).set 5 x5).set 6 x6).set 7 x7).set 8 x8).set 9 x9).set 10 x10).set 11 zM).set 12 wo;simp only[iz,ms,mv]at k;exact k
theorem QJ(h:Below B a w)(b:B<=r):Below B a (FV w r x0 x1 x2 x3 x4 x5 x6 x7 x8 x9 x10 zM wo):=((((((((((((h.setCell b x0).setCell b x1).setCell b x2).setCell b x3).setCell b x4).setCell b x5).setCell b x6).setCell b x7).setCell b x8).setCell b x9).setCell b x10).setCell b zM).setCell b wo
theorem Mc(g:Nat)(b:g≠r):(FV w r x0 x1 x2 x3 x4 x5 x6 x7 x8 x9 x10 zM wo).heap[g]?=w.heap[g]?:=by
 unfold FV
 repeat rw[wu _ _ _ b]
end
theorem ai2{W j s f l:World}{lb r gm gP B D tc pc:Nat}{ta:Option Addr}{v1 v3 v4:Value}{P:List Lx.Pd}{E:List Bool}{u:List Nat}{fs:List (List Nat)}(L:Below W.heap.size W j)(z:∀W',Below W.heap.size W W'->TabAt 2 Lib.deBruijn64tab W')(Q:qH j (fun k=>k<j.heap.size) gP P)(x:∃a b d,P=[⟨2,[3],a⟩,⟨3,[1,3],b⟩,⟨3,[],d⟩])(S:aj j B (bE E) 4)(J:E.length=4)(F:dm bC (fun _=>True) s gm (fun a=>(oo nG 4 a:Int)))(N:Below s.heap.size s f)(O:aj f D (u.map (gY 1)).toArray 214)(t:u.length=4)(R:∀(i g:Nat),u[i]?=some g->∃ws:List Nat,fs[i]?=some ws/\TS f g ws/\ws.length=1)(C:Below j.heap.size j l)(A:∀k,k<f.heap.size->k≠lb->l.heap[k]?=f.heap[k]?)(n:lb<f.heap.size->f.heap[lb]?=some yF)(km:l.heap[r]?=some Ie)(I:aj l lb #[.slice ta 2 tc,v1,.slice (some ⟨gP,0,none⟩) 3 pc,v3,v4,.map (some gm),.slice (some ⟨B,0,none⟩) 4 4,.slice (some ⟨D,0,none⟩) 4 4,.map (some r),.slice none 0 0,.slice none 0 0,.slice none 0 0,.slice none 0 0] 153)(y:r≠gm)(M:j.heap.size<=lb)(K:j.heap.size<=r):Bn W lb l:=by
 have m:∀(k:Nat)(o:Obj),f.heap[k]?=some o->o≠yF->l.heap[k]?=some o:=fun k o q G=>by
  have c:=(dv.1 q).1;refine(A k c fun e=>?_).trans q;subst e;rw[n c]at q;cases q;exact G rfl
 have p:dm bC (fun _=>True) f gm (fun a=>(oo nG 4 a:Int)):=F.move (N.block _ F.lt);have v:dm bC (fun _=>True) l gm (fun a=>(oo nG 4 a:Int)):=p.move (A gm p.lt fun e=>by
  have c:=p.lt;obtain⟨U,T,k,-⟩:=p;rw[e]at c;rw[e,n c]at k;cases k)
 refine akA L C z (aiZ (fs:=fs) C Q x S J v (m _ _ O fun e=>(by unfold yF at e;injection e with _ e2;exact absurd e2 (by decide))) t (fun i g H=>?_) km I y M K);obtain⟨ws,h1,h2,h3⟩:=R i g H;exact⟨ws,h1,⟨m _ _ h2.blk fun e=>(by unfold yF at e;injection e with _ e2;exact absurd e2 (by decide)),h2.wd⟩,h3⟩
theorem amt{a V w:World}(h:Below a.heap.size a V)(b:Below V.heap.size V w):Below a.heap.size a w:=h.trans (b.mono h.size)
theorem kp1{w w':World}{o:Obj}(a:Below (w.alloc o).heap.size (w.alloc o) w'):w'.heap[w.heap.size]?=some o:=qy a (EJ w o)
theorem an9{w w':World}{o:Obj}(a:Below (w.alloc o).drew.heap.size (w.alloc o).drew w'):w'.heap[w.heap.size]?=some o:=qy a (WX (EJ w o))
theorem aoa{w w':World}{o:Obj}(a:Below (w.drew.alloc o).heap.size (w.drew.alloc o) w'):w'.heap[w.heap.size]?=some o:=qy a (EJ w.drew o)
theorem VN{w w':World}{o a:Obj}(b:Below ((w.alloc o).alloc a).heap.size ((w.alloc o).alloc a) w'):w'.heap[w.heap.size]?=some o/\w'.heap[w.heap.size+1]?=some a:=⟨qy b (LW w o a),qy b (LX w o a)⟩
theorem aob{w w':World}{o a:Obj}(b:Below ((w.alloc o).alloc a).drew.heap.size ((w.alloc o).alloc a).drew w'):w'.heap[w.heap.size]?=some o/\w'.heap[w.heap.size+1]?=some a:=⟨qy b (WX (LW w o a)),qy b (WX (LX w o a))⟩
theorem aoc{w w':World}{o a:Obj}(b:Below ((w.drew.alloc o).alloc a).heap.size ((w.drew.alloc o).alloc a) w'):w'.heap[w.heap.size]?=some o/\w'.heap[w.heap.size+1]?=some a:=⟨qy b (LW w.drew o a),qy b (LX w.drew o a)⟩
theorem Ig{w:World}{b:Nat}(h:w.heap[b]?=some yF):w.heap[b]?=some yF:=h
theorem Ih{w:World}{b:Nat}(h:w.heap[b]?=some Ie):w.heap[b]?=some Ie:=h
abbrev OJ(gm:Nat)(v0 v1 v2 v3 v4 v6 v7:Value)(pm:Nat):Array Value:=#[v0,v1,v2,v3,v4,.map (some gm),v6,v7,.map (some pm),.slice none 0 0,.slice none 0 0,.slice none 0 0,.slice none 0 0]
def Lf(W w5 w7:World)(gm:Nat)(v0 v1 v2 v3 v4 v6 v7:Value):Prop:=∀(W8:World)(lb pm:Nat),Below w5.heap.size w5 W8->(∀k,k<w7.heap.size->k≠lb->W8.heap[k]?=w7.heap[k]?)->(lb<w7.heap.size->w7.heap[lb]?=some yF)->W8.heap[pm]?=some Ie->aj W8 lb (OJ gm v0 v1 v2 v3 v4 v6 v7 pm) 153->pm≠gm->w5.heap.size<=lb->w5.heap.size<=pm->Bn W lb W8
section
variable {W w5 w7:World} {gm l p:Nat} {v0 v1 v2 v3 v4 v6 v7:Value}
theorem Ii{w:World}{k:Nat}(h:k<w.heap.size)(o:Obj):(w.alloc o).heap[k]?=w.heap[k]?:=di _ _ _ h
theorem amQ(L:Lf W w5 w7 gm v0 v1 v2 v3 v4 v6 v7)(a:Below w5.heap.size w5 w7)(d:gm<w7.heap.size):Bn W (w7.heap.size+1) ((w7.alloc (.map #[] 0)).alloc (.cells (OJ gm v0 v1 v2 v3 v4 v6 v7 w7.heap.size) 153)):=by
 have b:=a.size;refine L _ _ w7.heap.size (zf (zf a _) _) (fun k c _=>?_) (fun h=>by omega) (LW _ _ _) (LX _ _ _) (by omega) (by omega) b;rw[Ii (by rw[fb];omega),Ii c]
theorem amR(L:Lf W w5 w7 gm v0 v1 v2 v3 v4 v6 v7)(a:Below w5.heap.size w5 w7)(d:gm<w7.heap.size):Bn W w7.heap.size ((w7.alloc (.cells (OJ gm v0 v1 v2 v3 v4 v6 v7 (w7.heap.size+1)) 153)).alloc (.map #[] 0)):=by
 have b:=a.size;refine L _ _ (w7.heap.size+1) (zf (zf a _) _) (fun k c _=>?_) (fun h=>by omega) (LX _ _ _) (LW _ _ _) (by omega) b (by omega);rw[Ii (by rw[fb];omega),Ii c]
theorem adl(L:Lf W w5 w7 gm v0 v1 v2 v3 v4 v6 v7)(a:Below w5.heap.size w5 w7)(km:w7.heap[p]?=some Ie)(c:p≠gm)(b:w5.heap.size<=p):Bn W w7.heap.size (w7.alloc (.cells (OJ gm v0 v1 v2 v3 v4 v6 v7 p) 153)) :=
 L _ _ p (zf a _) (fun _ d _=>Ii d _) (fun h=>by omega) (Qr _ km) (EJ _ _) c a.size b
theorem FW(L:Lf W w5 w7 gm v0 v1 v2 v3 v4 v6 v7)(d:Below w5.heap.size w5 w7)(km:w7.heap[p]?=some Ie)(a:w7.heap[l]?=some yF)(g:p≠gm)(c:w5.heap.size<=p)(b:w5.heap.size<=l):Bn W l (FV w7 l v0 v1 v2 v3 v4 (.map (some gm)) v6 v7 (.map (some p)) (.slice none 0 0) (.slice none 0 0) (.slice none 0 0) (.slice none 0 0)):=by
 refine L _ _ p (QJ _ _ _ _ _ _ _ _ _ _ _ _ _ d b) (fun k _ f=>Mc _ _ _ _ _ _ _ _ _ _ _ _ _ k f) (fun _=>a) ?_ (aah _ _ _ _ _ _ _ _ _ _ _ _ _ a) g b c;rw[Mc _ _ _ _ _ _ _ _ _ _ _ _ _ p (fun e=>by subst e;rw[km]at a;cases a)];exact km
theorem adn(L:Lf W w5 w7 gm v0 v1 v2 v3 v4 v6 v7)(b:Below w5.heap.size w5 w7)(i:gm<w7.heap.size)(a:w7.heap[l]?=some yF)(c:w5.heap.size<=l):Bn W l (FV (w7.alloc (.map #[] 0)) l v0 v1 v2 v3 v4 (.map (some gm)) v6 v7 (.map (some w7.heap.size)) (.slice none 0 0) (.slice none 0 0) (.slice none 0 0) (.slice none 0 0)):=by
 have f:=(dv.1 a).1;refine L _ _ w7.heap.size (QJ _ _ _ _ _ _ _ _ _ _ _ _ _ (zf b _) c) (fun k g d=>(Mc _ _ _ _ _ _ _ _ _ _ _ _ _ k d).trans (Ii g _)) (fun _=>a) ?_ (aah _ _ _ _ _ _ _ _ _ _ _ _ _ (Qr _ a)) (by omega) c b.size;rw[Mc _ _ _ _ _ _ _ _ _ _ _ _ _ _ (by omega)];exact EJ _ _
end
end Go.Proofs.YtagkodkijkpemaaGreatDoor

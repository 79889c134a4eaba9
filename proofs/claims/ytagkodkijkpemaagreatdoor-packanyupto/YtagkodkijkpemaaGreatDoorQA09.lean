import Derived.Test.YtagkodkijkpemaaGreatDoorQA08
set_option maxHeartbeats 8000000
set_option maxRecDepth 1000000
namespace Go.Proofs.YtagkodkijkpemaaGreatDoor
open Lx Go.Proofs.Tryz
open Go.RowKit Tr
namespace Lx
def mg(E:List Bool)(fs:List (List Nat))(xa:List Nat):List Nat->List Nat->List Nat
 | [],x=>dL x xa
 |s::r,x=>if aK E s=true then mg E fs xa r (dL x (fs.getD s [])) else dL x (fs.getD s [])
def gu(x y:List Nat):Prop:=x.length=y.length/\∀i,x.getD i 0 ||| y.getD i 0=y.getD i 0
theorem gu.refl(x:List Nat):gu x x:=⟨rfl,fun _=>Nat.or_self _⟩
theorem Dy(x y:List Nat):(dL x y).length=x.length:=yO ..
theorem IV(x y:List Nat)(i:Nat):(dL x y).getD i 0=if i<x.length then x.getD i 0 ||| y.getD i 0 else x.getD i 0:=by
 unfold dL;rw[BL];simp
theorem gu.join{x y:List Nat}(h:gu x y)(z:List Nat):gu x (dL y z):=by
 refine⟨by rw[Dy];exact h.1,fun i=>?_⟩;rw[IV]
 split
 ·rw[<-tS,h.2 i]
 ·exact h.2 i
theorem gu.mid{x y z:List Nat}(h:gu x y)(k:gu y z)(e:x=z):y=x:=FH h.1.symm fun i a=>by
 subst e;rw[<-h.2 i,Nat.or_comm,k.2 i]
theorem aaH{x y:List Nat}(h:gu x y):dL y x=y:=FH (Dy ..) fun i a=>by
 rw[IV]
 split
 ·rw[Nat.or_comm,h.2 i]
 ·rfl
end Lx
section
variable{c:aZ}{w0:World}{F:Nat -> Prop}{B:Nat}{W W1:World}{S:bL}
theorem jT.aol(s:mY c w0 F B)(h:jT c w0 F B W S){b g:Nat}(hb:S.gs[b]?=some g){x:List Nat}(u:x.length=c.nw)(f:TP W g x W1):bn c w0 F B W S W1 { S with ss:=S.ss.set b x }:=by
 have l:=cJ hb;have kg:=h.kG l;have C:=(h.sets b g hb).1;have j:∀k,k<W.heap.size->k≠g->W1.heap[k]?=W.heap[k]?:=fun k a d=>f.gr.block k a fun e=>d (by cases e;rfl)
 have ne:∀{k t:Nat},pI W k t->t≠277->W1.heap[k]?=W.heap[k]?:=fun a m=>j _ (by obtain⟨y,z⟩:=a;exact(ek.1 z).1) (a.ne kg m)
 refine⟨⟨⟨fun k a=>?_,(ne h.kL (by decide)).trans h.blk,aD h.rS fun k a=>ne (h.kS a) (by decide),aD h.rA fun k a=>ne (h.kA a) (by decide),h.rQ.move fun k a=>ne (h.kQ a) (by decide),aD h.rW fun k a=>ne (h.kW a) (by decide),h.map.move (j _ h.map.lt (h.J5 kg).symm),fun i k a=>?_,h.qj,de h.big f.gr.size⟩,h.lg,by simpa using h.ls,h.lw⟩,fun k a v=>j k a fun e=>v (e▸.inr (.inr (.inr (.inr (.inr (.inr l)))))),fun k e=>.inl e,f.gr.size,f.gr.1,f.gr.2,f.gr.3⟩
 ·have:=(s.low k a).1
  exact(j k (dd this h.big) (by omega)).trans (h.keep k a)
 ·obtain⟨h1,p,h2,h3,h4⟩:=h.sets i k a
  by_cases e:i=b
  ·subst e
   rw[hb]at a;cases a;exact⟨h1,x,by rw[fx];simp[(List.getElem?_eq_some_iff.1 h2).1],f.ts,u⟩
  ·have d:k≠g:=fun r=>e (by
    obtain⟨D,n⟩:=cG.1 a;obtain⟨A,o⟩:=cG.1 hb;exact(lP h.qj).1 (n.trans (r.trans o.symm)))
   exact⟨h1,p,by rw[fx,dt fun q=>e q.symm];exact h2,h3.move (j k h3.blk.lt d),h4⟩
def TlR(w0:World)(F:Nat->Prop)(v:Value)(r:List Nat):Prop:=∃a cap,v=.slice a r.length cap/\r.length<=100000/\∀(j x:Nat),r[j]?=some x->∃b o,a=some ⟨b,o,none⟩/\F b/\w0.cell? ⟨b,o+j,none⟩=some (.int .i64 (x:Int))
structure Hands(c:aZ)(S:bL)(a b:Nat)(r:List Nat)(g:Bool)(S':bL):Prop where
 st:S'.st=S.st
 gs:S'.gs=S.gs
 ws:S'.ws=S.ws
 wq:S'.wq=S.wq
 ss:S'.ss=S.ss.set b (mg c.E c.fs (S.ss.getD a []) r (S.ss.getD b []))
 grew:g=true↔mg c.E c.fs (S.ss.getD a []) r (S.ss.getD b [])≠S.ss.getD b []
theorem ahV(T:mY c w0 F B)(h:jT c w0 F B W S){a b:Nat}{v:Value}{r:List Nat}(ha:a<S.st.length)(hb:b<S.st.length)(hv:TlR w0 F v r)(hr:∀x∈r,x<c.sz)(ah:c.nw<=100000):Calls prog 97 #[.pointer (some ⟨c.lb,0,none⟩),.int .i64 (a:Int),.int .i64 (b:Int),v] W fun e W'=>∃g:Bool,e=.returned (.bool g)/\∃S',bn c w0 F B W S W' S'/\Hands c S a b r g S':=by
 obtain⟨ra,rc,rfl,aw,Y⟩:=hv;obtain⟨ga,A⟩:∃g,S.gs[a]?=some g:=⟨_,cF (by rw[h.lg];exact ha)⟩;obtain⟨q,l⟩:∃g,S.gs[b]?=some g:=⟨_,cF (by rw[h.lg];exact hb)⟩;obtain⟨-,R,Q,al,ar⟩:=h.sets a ga A;obtain⟨-,f,t,ap,av⟩:=h.sets b q l;have ea:S.ss.getD a []=R:=by simp[Q]
 have eb:S.ss.getD b []=f:=by simp[t]
 obtain⟨gA,cA,EJ,Lf,-,-,zH⟩:=I5 h.rA (p:=b) (u:=gX c.nw q) (by rw[di,l];rfl);have ag:Hid (bn c w0 F B W S W { S with ss:=S.ss.set b f }):=by
  have:S.ss.set b f=S.ss:=by
   apply oy;intro i;rw[fx]
   split
   ·rename_i e;subst e;rw[t,dj (cG.1 t).1]
   ·rfl
  show bn ..;rw[this];exact bn.refl h
 have HC:Hid (∀(wr:World)(x:List Nat),bn c w0 F B W S wr { S with ss:=S.ss.set b x }->gu f x->wr.cell? ⟨c.lb,10,none⟩=some (.slice (some ⟨gA,0,none⟩) S.gs.length cA)/\wr.cell? ⟨gA,b,none⟩=some (gX c.nw q)/\wr.cell? ⟨gA,a,none⟩=some (gX c.nw ga)/\TS wr q x/\x.length=c.nw/\∃y,TS wr ga y/\y.length=c.nw/\(q=ga->y=x)/\dL x y=dL x R):=fun wr x z ae=>by
  have hm:=z.m;have o1:=I5 hm.rA (p:=b) (u:=gX c.nw q) (by rw[di];show Option.map _ S.gs[b]?=_;rw[l];rfl);have o2:=I5 hm.rA (p:=a) (u:=gX c.nw ga) (by rw[di];show Option.map _ S.gs[a]?=_;rw[A];rfl);obtain⟨g1,c1,e1,-,q1,-⟩:=o1;obtain⟨g2,c2,e2,-,q2,-⟩:=o2;have ab:S.vA=.slice (some ⟨g1,0,none⟩) S.gs.length c1:=e1;have af:S.vA=.slice (some ⟨g2,0,none⟩) S.gs.length c2:=e2;rw[EJ]at ab af;cases ab;cases af;obtain⟨-,x',ao,X,Z⟩:=hm.sets b q l;have:x'=x:=by
   have h1:(S.ss.set b x)[b]?=some x':=ao;rw[zd (cG.1 t).1]at h1;cases h1;rfl
  subst this;refine⟨by rw[<-EJ];exact hm.blk.cell 10,q1,q2,X,Z,?_⟩;obtain⟨-,y,hy,ty,ly⟩:=hm.sets a ga A;refine⟨y,ty,ly,?_⟩;have N:(S.ss.set b x')[a]?=some y:=hy
  by_cases e:b=a
  ·subst e
   rw[l]at A;cases A;rw[zd (cG.1 t).1]at N;cases N;rw[t]at Q;cases Q;exact⟨fun _=>rfl,by rw[aaH (gu.refl _),aaH ae]⟩
  ·rw[List.getElem?_set_ne e]at N
   rw[Q]at N;cases N;refine⟨fun e2=>absurd ?_ e,rfl⟩;obtain⟨l1,f1⟩:=cG.1 A;obtain⟨l2,f2⟩:=cG.1 l;exact(lP h.qj).1 (f2.trans (e2.trans f1.symm))
 have HG:Hid (∀(wr d:World)(x y:List Nat),bn c w0 F B W S wr { S with ss:=S.ss.set b x }->TP wr q y d->y.length=c.nw->bn c w0 F B W S d { S with ss:=S.ss.set b y }):=fun wr d x y z hP hy=>by
  have:=z.trans (z.m.aol T (b:=b) l hy hP);simpa using this
 have HF:Hid (∀wr:World,(∀b,F b->wr.heap[b]?=w0.heap[b]?)->∀s,s<c.sz->∃g ws,wr.cell? ⟨c.gF,s,none⟩=some (gX c.nw g)/\TS wr g ws/\ws.length=c.nw/\g≠q/\c.fs.getD s []=ws/\wr.cell? ⟨c.gE,s,none⟩=some (.bool (aK c.E s))):=fun wr hk s hs=>by
  obtain⟨g,hg⟩:∃g,c.fg[s]?=some g:=⟨_,cF (by rw[T.aod];exact hs)⟩;obtain⟨h1,h2,ws,h3,h4,h5⟩:=T.first s g hg;have:=(T.low g h2).1;have:=(h.sets b q l).1;exact⟨g,ws,(cM (w:=w0) (hk _ T.fF)).trans h1,h4.move (hk g h2),h5,by omega,by simp[h3],(cM (w:=w0) (hk _ T.fE)).trans ((T.empty.cell s).trans (qR c.E (by rw[T.aoc];exact hs)))⟩
 have HK:Hid (∀wr S1,bn c w0 F B W S wr S1->∀b,F b->wr.heap[b]?=w0.heap[b]?):=fun wr S1 z=>z.m.keep
 have ad:Hid (gu f f/\(false=true↔f≠f)/\mg c.E c.fs R (r.drop 0) f=mg c.E c.fs R r f):=⟨gu.refl _,by simp,rfl⟩;have HE:Hid (∀(W':World)(g:Bool)(x:List Nat),bn c w0 F B W S W' { S with ss:=S.ss.set b x }->(g=true↔x≠f)->x=mg c.E c.fs R r f->∃S',bn c w0 F B W S W' S'/\Hands c S a b r g S'):=fun W' g x z hg hx=>⟨_,z,rfl,rfl,rfl,rfl,by rw[ea,eb,<-hx],by rw[ea,eb,<-hx];exact hg⟩
 have HB:Hid (∀wr S1,bn c w0 F B W S wr S1->wr.cell? ⟨c.lb,7,none⟩=some (.slice (some ⟨c.gF,0,none⟩) c.sz c.fc)/\wr.cell? ⟨c.lb,6,none⟩=some (.slice (some ⟨c.gE,0,none⟩) c.sz c.sz)):=fun wr S1 z=>⟨z.m.blk.cell 7,z.m.blk.cell 6⟩
 have am:Hid (∀(j x:Nat),r[j]?=some x->∃b o,ra=some ⟨b,o,none⟩/\F b/\w0.cell? ⟨b,o+j,none⟩=some (.int .i64 (x:Int))):=Y;have j3:(0:Int)<=(b:Int):=by omega
 have j4:(b:Int)<(S.gs.length:Int):=by rw[h.lg];omega
 have j5:(0:Int)<=(a:Int):=by omega
 have j6:(a:Int)<(S.gs.length:Int):=by rw[h.lg];omega
 clear Y al ap Q t A l ea eb EJ Lf zH h;refine ij.1 (zp (F:=Fence.wide) (n:=9) func97 rfl trivial ?_ rfl);simp only[ntmps97,List.size_toArray,List.length_cons,List.length_nil,Nat.reduceAdd,Nat.reduceSub,Array.replicate_succ,Array.replicate_zero,List.push_toArray,List.append_toArray,List.nil_append,List.cons_append]
 gi_wp2
 gi_loopg [9,14] r.length (fun k gv i wr=>∃(j:Nat)(g:Bool)(x:List Nat),j+k=r.length/\gv=.bool g/\i=.int .i64 (j:Int)/\Hid (bn c w0 F B W S wr { S with ss:=S.ss.set b x })/\Hid (gu f x/\(g=true↔x≠f)/\mg c.E c.fs R (r.drop j) x=mg c.E c.fs R r f))
 case atStart=>exact⟨0,false,f,by omega,rfl,rfl,ag,ad⟩
 case round=>
  clear ag ad;obtain⟨j,g,x,hk,rfl,rfl,U,HI⟩:=hrel;obtain⟨PV,dA,dB,X,Z,y,ty,ly,aa,Ws⟩:=HC.out wr x U.out HI.out.1
  by_cases hlt:j<r.length
  ·obtain⟨s,hs⟩:∃s,r[j]?=some s:=⟨_,cF hlt⟩
   have hsz:=hr s (cJ hs);obtain⟨b',o',rfl,KE,cs⟩:=am.out j s hs;have cs:wr.cell? ⟨b',o'+j,none⟩=some (.int .i64 (s:Int)):=(cM (w:=w0) (HK.out wr _ U.out b' KE)).trans cs;obtain⟨gf,D,df,tf,lf,ai,ac,dE⟩:=HF.out wr (HK.out wr _ U.out) s hsz;obtain⟨d7,d6⟩:=HB.out wr _ U.out;have q1:=fun I=>MK (w:=wr.drewN I) (g:=q) (h:=gf) ⟨X.blk,X.wd⟩ ⟨tf.blk,tf.wd⟩ (fun e=>absurd e.symm ai) Z lf ah
   have i1:(0:Int)<=(j:Int):=by omega
   have i2:(j:Int)<(r.length:Int):=by omega
   have i3:(0:Int)<=(s:Int):=by omega
   have i4:(s:Int)<(c.sz:Int):=by omega
   unfold gX at dA dB df;have an:Hid (∀d,bn c w0 F B W S d { S with ss:=S.ss.set b (dL x D) }->d.cell? ⟨c.lb,10,none⟩=some (.slice (some ⟨gA,0,none⟩) S.gs.length cA)/\d.cell? ⟨gA,b,none⟩=some (.slice (some ⟨q,0,none⟩) c.nw c.nw)/\d.cell? ⟨c.lb,7,none⟩=some (.slice (some ⟨c.gF,0,none⟩) c.sz c.fc)/\d.cell? ⟨c.gF,s,none⟩=some (.slice (some ⟨gf,0,none⟩) c.nw c.nw)):=fun d z=>by
    obtain⟨a1,a2,-⟩:=HC.out d _ z (HI.out.1.join D);exact⟨a1,a2,(HB.out d _ z).1,(cM (w:=wr) ((HK.out d _ z _ T.fF).trans (HK.out wr _ U.out _ T.fF).symm)).trans df⟩
   have Wt:(dL x D).length=c.nw:=by rw[Dy];exact Z
   obtain⟨J,G⟩:∃J:Bool,J=true↔dL x D≠x:=⟨decide (dL x D≠x),by simp⟩;have q2:=fun I=>(q1 I).mono (R':=fun e w'=>e=.returned (.bool J)/\TP (wr.drewN I) q (dL x D) w') fun e w'⟨b5,h1,h2,h3⟩=>⟨by rw[h1,show b5=J from Bool.eq_iff_iff.2 (h3.trans G.symm)],h2⟩
   have C:Hid (gu f (dL x D)/\((J || g)=true↔dL x D≠f)/\(aK c.E s=true->mg c.E c.fs R (r.drop (j+1)) (dL x D)=mg c.E c.fs R r f)/\(aK c.E s=false->dL x D=mg c.E c.fs R r f)):=by
    obtain⟨h1,h2,h3⟩:=HI.out;have hd:r.drop j=s::r.drop (j+1):=by
     obtain⟨h4,h5⟩:=cG.1 hs;rw[eR h4,h5]
    rw[hd]at h3;simp only[mg,ac]at h3;refine⟨h1.join D,?_,fun e=>by rw[dj e]at h3;exact h3,fun e=>by rw[dt (by rw[e];simp)]at h3;exact h3⟩;rw[n7,G,h2];constructor
    ·rintro(h | h)e
     ·exact h (by rw[e];exact(h1.mid ((gu.refl x).join D) e.symm).symm)
     ·exact h (h1.mid ((gu.refl x).join D) e.symm)
    ·intro h
     by_cases e:dL x D=x
     ·exact .inr (e▸h)
     ·exact .inl e
   clear X tf ty aa Ws lf ac Z q1 G
   gi_wp2
   refine qp 14 (by kernel_rfl) (by kernel_rfl) (by kernel_rfl) ?_
   dsimp only[List.take,List.drop,List.length]
   repeat (gi_big_quiet_step (fail))
   refine wpQuietIn_nil ?_;rintro _⟨I,rfl⟩;refine wpAnyIn_ready (rs:=[14]) (by kernel_rfl) (by simp) (AllReadyIn.cons rfl (fun K P=>?_) AllReadyIn.nil)
   go_simp
   refine⟨trivial,(ij.2 (q2 I)).mono ?_⟩;rintro e d⟨rfl,H⟩;have V:Hid (bn c w0 F B W S d { S with ss:=S.ss.set b (dL x D) }):=HG.out wr d x _ U.out ⟨H.ts,⟨H.gr.1,H.gr.2,H.gr.3,H.gr.4,H.gr.5⟩⟩ Wt;have ak:d.cell? ⟨c.gE,s,none⟩=some (.bool (aK c.E s)):=(HF.out d (HK.out d _ V.out) s hsz).choose_spec.choose_spec.2.2.2.2.2;have aq:=(HB.out d _ V.out).2;refine P _ _ ?_;clear P K q2 H PV dA dB df dE d7 d6 an U cs;refine wpAnyIn_ready (rs:=[15]) (by kernel_rfl) (by simp) (AllReadyIn.cons rfl (fun K P=>?_) AllReadyIn.nil)
   go_simp
   refine P _ _ (wpAnyIn_ready (rs:=[16]) (by kernel_rfl) (by simp) (AllReadyIn.cons rfl (fun K2 O=>?_) AllReadyIn.nil));clear P K;cases J
   all_goals
    go_simp
    refine O _ _ (wpAnyIn_ready (rs:=[17]) (by kernel_rfl) (by simp) (AllReadyIn.cons rfl (fun K3 M=>?_) AllReadyIn.nil));clear O K2
    go_simp
    refine M _ _ (wpAnyIn_ready (rs:=[18]) (by kernel_rfl) (by simp) (AllReadyIn.cons rfl (fun K4 L=>?_) AllReadyIn.nil));clear M K3
    go_simp
    refine L _ _ (wpAnyIn_done (by kernel_rfl) ?_ _);clear L K4;cases hE:aK c.E s
    all_goals rw[hE]at ak
   ·gi_wp2
    go_ret;exact⟨g,rfl,HE.out _ _ _ V.out (by simpa using C.out.2.1) (C.out.2.2.2 hE)⟩
   ·gi_wp2
    gi_roundg (r.length - (j+1))
    case measure=>omega
    case rel=>exact⟨j+1,g,_,by omega,rfl,by go_num,V,⟨C.out.1,by simpa using C.out.2.1,C.out.2.2.1 hE⟩⟩
   ·gi_wp2
    go_ret;exact⟨true,rfl,HE.out _ _ _ V.out (by simpa using C.out.2.1) (C.out.2.2.2 hE)⟩
   ·gi_wp2
    gi_roundg (r.length - (j+1))
    case measure=>omega
    case rel=>exact⟨j+1,true,_,by omega,rfl,by go_num,V,⟨C.out.1,by simpa using C.out.2.1,C.out.2.2.1 hE⟩⟩
  ·have hj:j=r.length:=by omega
   have q1:=fun I=>MK (w:=wr.drewN I) (g:=q) (h:=ga) ⟨X.blk,X.wd⟩ ⟨ty.blk,ty.wd⟩ aa Z ly ah
   obtain⟨J,G⟩:∃J:Bool,J=true↔dL x y≠x:=⟨decide (dL x y≠x),by simp⟩;have q2:=fun I=>(q1 I).mono (R':=fun e w'=>e=.returned (.bool J)/\TP (wr.drewN I) q (dL x y) w') fun e w'⟨b5,h1,h2,h3⟩=>⟨by rw[h1,show b5=J from Bool.eq_iff_iff.2 (h3.trans G.symm)],h2⟩
   have C:Hid (((J || g)=true↔dL x y≠f)/\dL x y=mg c.E c.fs R r f):=by
    obtain⟨h1,h2,h3⟩:=HI.out;rw[hj,io]at h3;refine⟨?_,Ws.trans h3⟩;rw[n7,G,h2];constructor
    ·rintro(h | h)e
     ·exact h (by rw[e];exact(h1.mid ((gu.refl x).join y) e.symm).symm)
     ·exact h (h1.mid ((gu.refl x).join y) e.symm)
    ·intro h
     by_cases e:dL x y=x
     ·exact .inr (e▸h)
     ·exact .inl e
   have Wt:(dL x y).length=c.nw:=by rw[Dy];exact Z
   unfold gX at dA dB;clear X ty aa Ws ly Z q1 G
   gi_wp2
   refine qp 14 (by kernel_rfl) (by kernel_rfl) (by kernel_rfl) ?_
   dsimp only[List.take,List.drop,List.length]
   repeat (gi_big_quiet_step (fail))
   refine wpQuietIn_nil ?_;rintro _⟨I,rfl⟩;refine wpAnyIn_ready (rs:=[14]) (by kernel_rfl) (by simp) (AllReadyIn.cons rfl (fun K P=>?_) AllReadyIn.nil)
   go_simp
   refine⟨trivial,(ij.2 (q2 I)).mono ?_⟩;rintro e d⟨rfl,H⟩;have V:Hid (bn c w0 F B W S d { S with ss:=S.ss.set b (dL x y) }):=HG.out wr d x _ U.out ⟨H.ts,⟨H.gr.1,H.gr.2,H.gr.3,H.gr.4,H.gr.5⟩⟩ Wt;refine P _ _ ?_;clear P K q2 H PV dA dB U;refine wpAnyIn_ready (rs:=[15]) (by kernel_rfl) (by simp) (AllReadyIn.cons rfl (fun K P=>?_) AllReadyIn.nil)
   go_simp
   refine P _ _ (wpAnyIn_ready (rs:=[16]) (by kernel_rfl) (by simp) (AllReadyIn.cons rfl (fun K2 O=>?_) AllReadyIn.nil));clear P K;cases J
   all_goals
    go_simp
    refine O _ _ (wpAnyIn_ready (rs:=[17]) (by kernel_rfl) (by simp) (AllReadyIn.cons rfl (fun K3 M=>?_) AllReadyIn.nil));clear O K2
    go_simp
    refine M _ _ (wpAnyIn_ready (rs:=[18]) (by kernel_rfl) (by simp) (AllReadyIn.cons rfl (fun K4 L=>?_) AllReadyIn.nil));clear M K3
    go_simp
    refine L _ _ (wpAnyIn_done (by kernel_rfl) ?_ _);clear L K4
    gi_wp2
    go_ret
   ·exact⟨g,rfl,HE.out _ _ _ V.out (by simpa using C.out.1) C.out.2⟩
   ·exact⟨true,rfl,HE.out _ _ _ V.out (by simpa using C.out.1) C.out.2⟩
end
section
variable{c:aZ}{w0:World}{F:Nat -> Prop}{B:Nat}{W:World}{S:bL}{mp:List (Nat×Nat)}
def aZ.st0(c:aZ)(st:Nat):Prop:=c.P[0]?.map Lx.Pd.left=some st
theorem aaI(a:mY c w0 F B)(h:dh c w0 F B W S mp){st:Nat}(g:c.st0 st):Calls prog 95 #[.pointer (some ⟨c.lb,0,none⟩)] W fun e W'=>e=.returned (.agg #[.int .i64 0,.int .i64 (st:Int)])/\Below W.heap.size W W':=by
 obtain⟨p,b,rfl⟩:=m8.1 g;obtain⟨n,o,f,-⟩:=(a.prods.move h.keep).row 0 p b;have j:0<c.P.length:=(cG.1 b).1;have l:W.cell? ⟨c.lb,2,none⟩=some (.slice (some ⟨c.gP,0,none⟩) c.P.length c.pc):=h.blk.cell 2;have d:c.gP<W.heap.size:=dd (a.low _ a.prods.own).1 h.big;have k:=h.blk.lt;have i:Below W.heap.size W (W.alloc (.cells #[.int .i64 0,.int .i64 0] 212)):=(cV _ _).alloc (zL0) _;rw[pZ]at f;have m:(0:Int)<(c.P.length:Int):=by omega
 go_enter func95,ntmps95;go_wp2_with fail;exact fy (v:=.agg #[.int .i64 0,.int .i64 (p.left:Int)]) (by simp[results,results95,go_sem]) rfl ⟨rfl,(cV _ _).alloc (zL0) _⟩
def Lx.uE(st nT:Nat)(s:Nat×Nat):List Nat:=if s=(0,st) then xI (List.replicate (Lx.nW nT) 0) 0 else List.replicate (Lx.nW nT) 0
theorem TS.new(w:World)(n:Nat):TS (w.alloc (.cells (pq (List.replicate n 0)) 277)) w.heap.size (List.replicate n 0):=⟨aj.new ..,fun x a=>by rw[iu a];decide⟩
theorem Lx.acw(st nT:Nat)(s:Nat×Nat):(uE st nT s).length=Lx.nW nT:=by
 unfold uE
 split
 ·rw[abr,ik]
 ·rw[ik]
theorem agY(E:mY c w0 F B)(h:dh c w0 F B W S mp){st:Nat}(hs:c.st0 st)(s:Nat×Nat):Calls prog 134 #[.pointer (some ⟨c.lb,0,none⟩),.agg #[.int .i64 (s.1:Int),.int .i64 (s.2:Int)]] W fun e W'=>∃g,e=.returned (gX c.nw g)/\W.heap.size<=g/\TS W' g (uE st c.nT s)/\Below W.heap.size W W':=by
 obtain⟨q,n⟩:=s;have X:=E.nT;obtain⟨m,l⟩:∃V,V=W.alloc (.cells #[.int .i64 (q:Int),.int .i64 (n:Int)] 212):=⟨_,rfl⟩;have u:Below W.heap.size W m:=by rw[l];exact(cV _ _).alloc (zL0) _
 have v:m.heap.size=W.heap.size+1:=by rw[l];simp
 have kB:aj m W.heap.size #[.int .i64 (q:Int),.int .i64 (n:Int)] 212:=by rw[l];exact aj.new ..
 have h1:dh c w0 F B m S mp:=h.move (fun k e=>u.block k (e.elim (fun e=>h.yU e) (fun e=>dd (E.low k e).1 h.big))) (by omega);have d0:m.cell? ⟨c.lb,0,none⟩=some (.slice c.ta c.nT c.tc):=h1.blk.cell 0;have H:=QI (w:=m) (n:=c.nT) X.2;obtain⟨j,f⟩:∃V,V=m.alloc (.cells (pq (List.replicate (Lx.nW c.nT) 0)) 277):=⟨_,rfl⟩;have p:Below m.heap.size m j:=by rw[f];exact(cV _ _).alloc (zL0) _
 have z:j.heap.size=W.heap.size+2:=by rw[f];simp;omega
 have N:TS j (W.heap.size+1) (List.replicate (Lx.nW c.nT) 0):=by rw[<-v,f];exact TS.new ..
 have o:aj j W.heap.size #[.int .i64 (q:Int),.int .i64 (n:Int)] 212:=(p.block _ (by omega)).trans kB;have h2:dh c w0 F B j.drew S mp:=h1.move (fun k e=>p.block k (e.elim (fun e=>h1.yU e) (fun e=>dd (E.low k e).1 h1.big))) (by show m.heap.size<=j.heap.size;omega);have D:=aaI E h2 hs;have Z:j.cell? ⟨W.heap.size,0,none⟩=some (.int .i64 (q:Int)):=o.cell 0;have U:j.cell? ⟨W.heap.size,1,none⟩=some (.int .i64 (n:Int)):=o.cell 1;rw[<-f]at H;have Q:Hid (Below W.heap.size W j):=u.trans (p.mono (by omega));have Y:Hid (TS j (W.heap.size+1) (List.replicate (Lx.nW c.nT) 0)):=N;have HK:Hid (aj j W.heap.size #[.int .i64 (q:Int),.int .i64 (n:Int)] 212):=o;have HZ:Hid (j.heap.size=W.heap.size+2):=z;clear f p z N o h2 kB h1;go_enter func134,ntmps134;go_upto_region 1 with fail
 rw[<-l];clear l u;rw[v]at H;clear v;go_upto_region 2 with (go_at_call 92;refine H.mono ?_;rintro e w2⟨rfl,L⟩;obtain rfl:=L)
 have M:Hid (∀d,Below w2.heap.size w2 d->d.cell? ⟨W.heap.size,0,none⟩=some (.int .i64 (q:Int))/\d.cell? ⟨W.heap.size,1,none⟩=some (.int .i64 (n:Int))/\TS d (W.heap.size+1) (List.replicate (Lx.nW c.nT) 0)/\Below W.heap.size W d):=fun d I=>by
  have hz:=HZ.out;have P:aj d W.heap.size #[.int .i64 (q:Int),.int .i64 (n:Int)] 212:=(I.block _ (by omega)).trans HK.out;exact⟨P.cell 0,P.cell 1,Y.out.move (I.block _ (by omega)),Q.out.trans (I.mono (by omega))⟩
 by_cases e:q=0/\n=st
 ·obtain⟨rfl,rfl⟩:=e
  have G:Hid (uE n c.nT (0,n)=xI (List.replicate (Lx.nW c.nT) 0) 0):=dj rfl
  go_region_held3 (fun r=>r.cell? ⟨W.heap.size,0,none⟩=some (.int .i64 (0:Int))/\r.cell? ⟨W.heap.size,1,none⟩=some (.int .i64 (n:Int))) (first|go_keep|assumption) ((go_at_call 95;refine D.mono ?_;rintro e d⟨rfl,a⟩;have A:Below w2.heap.size w2 d:=⟨a.1,a.2,a.3,a.4,a.5⟩;obtain⟨x,y,C,i⟩:=M.out d A;have J:d.cell? ⟨W.heap.size,0,none⟩=some (.int .i64 (0:Int))/\d.cell? ⟨W.heap.size,1,none⟩=some (.int .i64 (n:Int)):=⟨x,y⟩))
  have hW:0<Lx.nW c.nT:=by unfold Lx.nW;omega
  have f:Lx.nW c.nT<=100000:=by unfold Lx.nW;omega
  have O:=abu (t:=0) C (by rw[ik];omega) (by rw[ik];exact f);rw[ik]at O;clear J D Z U x y
  go_wp2_with (go_at_call 93;refine O.mono ?_;rintro e w4⟨rfl,T,K⟩)
  go_ret;exact⟨W.heap.size+1,rfl,by omega,by rw[G.out];exact T,i.grown K i.size (fun k e=>by cases e;omega)⟩
 ·have G:Hid (uE st c.nT (q,n)=List.replicate (Lx.nW c.nT) 0):=dt fun h=>e (by cases h;exact⟨rfl,rfl⟩)
  by_cases hq:(q:Int)=0
  ·have R:¬(n:Int)=(st:Int):=fun b=>e ⟨by omega,by omega⟩
   have e2:((n:Int) == (st:Int))=false:=fY.2 R;have e3:((q:Int) == 0)=true:=by rw[hq];rfl
   have HQ:Hid ((q:Int)=0):=hq;clear hq
   go_region_held3 (fun r=>r.cell? ⟨W.heap.size,0,none⟩=some (.int .i64 (q:Int))/\r.cell? ⟨W.heap.size,1,none⟩=some (.int .i64 (n:Int))) (first|go_keep|assumption) ((go_at_call 95;refine D.mono ?_;rintro e d⟨rfl,a⟩;have A:Below w2.heap.size w2 d:=⟨a.1,a.2,a.3,a.4,a.5⟩;obtain⟨x,y,C,i⟩:=M.out d A;have J:d.cell? ⟨W.heap.size,0,none⟩=some (.int .i64 (q:Int))/\d.cell? ⟨W.heap.size,1,none⟩=some (.int .i64 (n:Int)):=⟨x,y⟩))
   go_wp2_with fail;go_ret;exact⟨W.heap.size+1,rfl,by omega,by rw[G.out];exact C,i⟩
  ·have e3:((q:Int) == 0)=false:=fY.2 hq
   go_region_held3 (fun r=>r.cell? ⟨W.heap.size,0,none⟩=some (.int .i64 (q:Int))/\r.cell? ⟨W.heap.size,1,none⟩=some (.int .i64 (n:Int))) (first|go_keep|assumption) ((go_at_call 95;refine D.mono ?_;rintro e d⟨rfl,a⟩;have A:Below w2.heap.size w2 d:=⟨a.1,a.2,a.3,a.4,a.5⟩;obtain⟨x,y,C,i⟩:=M.out d A;have J:d.cell? ⟨W.heap.size,0,none⟩=some (.int .i64 (q:Int))/\d.cell? ⟨W.heap.size,1,none⟩=some (.int .i64 (n:Int)):=⟨x,y⟩))
   go_wp2_with fail;go_ret;exact⟨W.heap.size+1,rfl,by omega,by rw[G.out];exact C,i⟩
end
namespace Lx
theorem aaJ{α:Type}{R:α->α->Prop}(d:∀a b,R a b->¬R b a):∀{l m:List α},l.Pairwise R->m.Pairwise R->(∀x,x∈l↔x∈m)->l=m
 | [],[],_,_,_=>rfl
 | [],b::m,_,_,h=>absurd ((h b).2 ed) (by simp)
 |a::l,[],_,_,h=>absurd ((h a).1 ed) (by simp)
 |a::l,b::m,hl,hm,h=>by
  rw[mr]at hl hm;have e:a=b:=by
   rcases eC.1 ((h a).1 ed) with e|h1
   ·exact e
   ·rcases eC.1 ((h b).2 ed) with e | h2
    ·exact e.symm
    ·exact absurd (hl.1 b h2) (d _ _ (hm.1 a h1))
  subst e;have key:∀x,x∈l↔x∈m:=fun x=>by
   constructor
   ·intro c
    rcases eC.1 ((h x).1 (ei _ c)) with e|h1
    ·subst e;exact absurd (hl.1 x c) (d _ _ (hl.1 x c))
    ·exact h1
   ·intro c
    rcases eC.1 ((h x).2 (ei _ c)) with e|h1
    ·subst e;exact absurd (hm.1 x c) (d _ _ (hm.1 x c))
    ·exact h1
  rw[aaJ d hl.2 hm.2 key]
def gV(a b:au):Prop:=a.1<b.1\/(a.1=b.1/\a.2<b.2)
instance (a b:au):Decidable (gV a b):=by unfold gV;infer_instance
theorem aky(a b:au)(h:gV a b):¬gV b a:=by unfold gV at *;omega
theorem akz{a b c:au}(h:gV a b)(k:gV b c):gV a c:=by unfold gV at *;omega
theorem ajb{a b:au}(h:¬gV a b)(c:a≠b):gV b a:=by
 have:¬(a.1=b.1/\a.2=b.2):=fun e=>c (qu e.1 e.2)
 unfold gV at *;omega
def ins(s:au):List au->List au
 | []=>[s]
 |x::l=>if gV s x then s::x::l else x::ins s l
theorem SS{s x:au}:∀{l:List au},x∈ins s l↔x=s\/x∈l
 | []=>by simp[ins]
 |y::l=>by
  rw[ins]
  split
  ·simp
  ·rw[eC,SS,eC]
   constructor
   ·rintro(h | h | h)
    ·exact .inr (.inl h)
    ·exact .inl h
    ·exact .inr (.inr h)
   ·rintro(h | h | h)
    ·exact .inr (.inl h)
    ·exact .inl h
    ·exact .inr (.inr h)
theorem adr{s:au}:∀{l:List au},l.Pairwise gV->s∉l->(ins s l).Pairwise gV
 | [],_,_=>by simp[ins]
 |y::l,h,hn=>by
  rw[mr]at h;rw[ins]
  split
  ·rename_i h1
   refine mr.2 ⟨fun z a=>?_,mr.2 h⟩;rcases eC.1 a with rfl|a
   ·exact h1
   ·exact akz h1 (h.1 z a)
  ·rename_i h1
   refine mr.2 ⟨fun z a=>?_,adr h.2 fun a=>hn (ei _ a)⟩;rcases SS.1 a with rfl|a
   ·exact ajb h1 fun e=>hn (e▸ed)
   ·exact h.1 z a
def F9(l:List au)(s:au):List au:=if s∈l then l else ins s l
theorem akA{l:List au}{s:au}(h:l.Pairwise gV):(F9 l s).Pairwise gV:=by
 unfold F9
 split
 ·exact h
 ·rename_i a;exact adr h a
theorem ajc{l:List au}{s x:au}:x∈F9 l s↔x=s\/x∈l:=by
 unfold F9
 split
 ·rename_i h
  exact⟨.inr,fun a=>a.elim (fun e=>e▸h) id⟩
 ·exact SS
def zi(P:List Pd)(n:Nat)(out:List au)(s:au):List au:=if dQ P s=some n then F9 out (s.1,s.2+1) else out
def PX(P:List Pd)(C:List au)(n:Nat):List au:=C.foldl (zi P n) []
theorem TH{P:List Pd}{n:Nat}:∀(C out:List au),out.Pairwise gV->(C.foldl (zi P n) out).Pairwise gV/\∀x,x∈C.foldl (zi P n) out↔x∈out\/∃s∈C,dQ P s=some n/\x=(s.1,s.2+1)
 | [],out,h=>⟨h,fun x=>by simp⟩
 |s::C,out,h=>by
  rw[qT];have h1:(zi P n out s).Pairwise gV:=by
   unfold zi
   split
   ·exact akA h
   ·exact h
  obtain⟨h2,h3⟩:=TH C _ h1;refine⟨h2,fun x=>?_⟩;rw[h3 x];unfold zi
  split
  ·rename_i d
   rw[ajc];constructor
   ·rintro((h | h) | ⟨t,a,h⟩)
    ·exact .inr ⟨s,ed,d,h⟩
    ·exact .inl h
    ·exact .inr ⟨t,ei _ a,h⟩
   ·rintro(h | ⟨t,a,b,c⟩)
    ·exact .inl (.inr h)
    ·rcases eC.1 a with rfl | a
     ·exact .inl (.inl c)
     ·exact .inr ⟨t,a,b,c⟩
  ·rename_i d
   constructor
   ·rintro(h | ⟨t,a,h⟩)
    ·exact .inl h
    ·exact .inr ⟨t,ei _ a,h⟩
   ·rintro(h | ⟨t,a,b,c⟩)
    ·exact .inl h
    ·rcases eC.1 a with rfl | a
     ·exact absurd b d
     ·exact .inr ⟨t,a,b,c⟩
theorem ads(P:List Pd)(C:List au)(n:Nat):(PX P C n).Pairwise gV:=(TH C [] oE).1
theorem DK{P:List Pd}{C:List au}{n:Nat}{x:au}:x∈PX P C n↔∃s∈C,dQ P s=some n/\x=(s.1,s.2+1):=by
 have:=(TH (P:=P) (n:=n) C [] oE).2 x;simpa [PX]using this
def lD(P:List Pd)(C:List au):List (Nat×au):=C.filterMap fun s=>(dQ P s).map fun n=>(n,(s.1,s.2+1))
theorem NC{P:List Pd}{C:List au}{m:Nat×au}:m∈lD P C↔∃s∈C,dQ P s=some m.1/\m.2=(s.1,s.2+1):=by
 unfold lD;rw[List.mem_filterMap];constructor
 ·rintro⟨s,a,h⟩
  obtain⟨n,b,rfl⟩:=m8.1 h;exact⟨s,a,b,rfl⟩
 ·rintro⟨s,a,h1,h2⟩
  exact⟨s,a,by rw[h1];exact fb some (qu rfl h2.symm)⟩
def pF(a b:Nat×au):Prop:=a.1<b.1\/(a.1=b.1/\gV a.2 b.2)
theorem I8:∀(n:Nat)(l:List Nat),l.Nodup->(∀x∈l,x<n)->l.length<=n
 |0,[],_,_=>zL0
 |0,x::_,_,h=>absurd (h x ed) (sL _)
 |n+1,l,hn,h=>by
  by_cases hm:n∈l
  ·have h1:=I8 n (l.erase n) (hn.erase n) fun x a=>by
    have h2:=hn.mem_erase_iff.1 a;have:=h x h2.2;have:=h2.1;omega
   rw[List.length_erase_of_mem hm]at h1;omega
  ·have:=I8 n l hn fun x a=>by
    have:=h x a;have:x≠n:=fun e=>hm (e▸a)
    omega
   omega
def pK(P:List Pd)(K l:List au):Prop:=∃Z,l=K++Z/\Z.Nodup/\∀z∈Z,z.2=0/\z.1<P.length/\z∉K
theorem pK.len{P:List Pd}{K l:List au}(h:pK P K l):l.length<=K.length+P.length:=by
 obtain⟨Z,rfl,k,c⟩:=h;rw[cH];have h1:(Z.map Prod.fst).Nodup:=by
  rw[List.Nodup,pC];refine k.imp_of_mem fun{a b}g i d e=>d ?_
  exact qu e ((c a g).1.trans (c b i).1.symm)
 have h2:=I8 P.length _ h1 fun x j=>by
  obtain⟨z,f,rfl⟩:=ee.1 j;exact(c z f).2.1
 rw[dk]at h2;omega
theorem pK.add{P:List Pd}{K l:List au}(h:pK P K l)(n:Option Nat):pK P K (xJ P n l P.length):=by
 cases n with
 |none=>rw[ML];exact h
 |some n=>
  obtain⟨Z,rfl,k,g⟩:=h;rw[NA];refine⟨Z++(fM P n P.length).filter (fun s=>decide (s∉K++Z)),by rw[dq],?_,fun z c=>?_⟩
  ·rw[ip]
   refine⟨k,(YO _).filter _,fun a f b i e=>?_⟩;have:=iS (hU.1 i).2;exact this (cY.2 (.inr (e▸f)))
  ·rcases cY.1 c with h1 | h1
   ·exact g z h1
   ·obtain⟨h2,h3⟩:=hU.1 h1
    obtain⟨h4,j,-⟩:=Fw.1 h2;exact⟨h4,j,fun d=>iS h3 (cY.2 (.inl d))⟩
theorem pK.refl(P:List Pd)(K:List au):pK P K K:=⟨[],by simp,mj,fun z a=>by cases a⟩
def PY(P:List Pd):Nat->List au->Nat->List au
 |0,l,_=>l
 |f+1,l,i=>if h:i<l.length then PY P f (xJ P (dQ P l[i]) l P.length) (i+1) else l
def jE(P:List Pd)(K:List au):List au:=PY P (K.length+P.length+1) K 0
theorem acy{P:List Pd}{K:List au}:∀(f i:Nat)(l:List au),pK P K l->K.length+P.length+1<=f+i->tY P l i (PY P f l i)
 |0,i,l,h,hf=>.done (by have:=h.len;omega)
 |f+1,i,l,h,hf=>by
  rw[PY]
  split
  ·rename_i a
   exact .step a (acy f (i+1) _ (h.add _) (by omega))
  ·exact .done (by omega)
theorem TI(P:List Pd)(K:List au):tY P K 0 (jE P K):=acy _ 0 K (pK.refl P K) (by omega)
theorem tY.jE{P:List Pd}{K r:List au}(h:tY P K 0 r):r=jE P K:=h.det (TI P K)
theorem Ck.jE{P:List Pd}{st:Nat}(b:OE P st){K r:List au}(a:∀s∈K,s.2=0->P[s.1]?.map Pd.left=some st)(h:Ck P K [] 0 r):r=jE P K:=(akp b h (Am.kernel a)).jE
def jk(P:List Pd)(K:List au)(n:Nat):List au:=PX P (jE P K) n
abbrev Lj:=Nat×Nat×Nat
structure bF where
 ks:List (List au)
 es:List Lj
def jl(l:List (List au))(k:List au):Nat:=l.findIdx fun x=>decide (x=k)
def edge(P:List Pd)(i:Nat)(K:List au)(S:bF)(n:Nat):bF :=
 if jk P K n=[] then S else if jl S.ks (jk P K n)<S.ks.length then ⟨S.ks,S.es++[(i,n,jl S.ks (jk P K n))]⟩ else ⟨S.ks++[jk P K n],S.es++[(i,n,S.ks.length)]⟩
def leave(P:List Pd)(i:Nat)(K:List au)(S:bF)(ns:List Nat):bF:=ns.foldl (edge P i K) S
theorem ajd{P:List Pd}{i:Nat}{K:List au}{S:bF}{n:Nat}(h:jk P K n=[]):edge P i K S n=S:=dj h
def tZ(P:List Pd)(sz:Nat):Nat->Nat->bF->Option bF
 |0,_,_=>none
 |f+1,i,S=>if h:i<S.ks.length then (if 300<(leave P i S.ks[i] S (List.range sz)).ks.length then none else tZ P sz f (i+1) (leave P i S.ks[i] S (List.range sz))) else some S
def rU(P:List Pd)(sz:Nat):Option bF:=tZ P sz 302 0 ⟨[[(0,0)]],[]⟩
theorem aje{P:List Pd}{i:Nat}{K:List au}{S:bF}{n:Nat}:∃a,(edge P i K S n).ks=S.ks++a:=by
 unfold edge
 split
 ·exact⟨[],by simp⟩
 ·split
  ·exact⟨[],by simp⟩
  ·exact⟨_,rfl⟩
theorem take_same{n:Nat}:∀{M:List (Nat×au)},M.Pairwise pF->(∀m∈M,n<=m.1)->M.takeWhile (fun m=>decide (m.1=n))=M.filter (fun m=>decide (m.1=n))/\M.dropWhile (fun m=>decide (m.1=n))=M.filter (fun m=>decide (m.1≠n))
 | [],_,_=>⟨rfl,rfl⟩
 |m::M,h,hn=>by
  rw[mr]at h
  by_cases e:m.1=n
  ·obtain⟨h1,h2⟩:=take_same h.2 fun x b=>hn x (ei _ b)
   constructor
   ·rw[ul,mL];simp only[e,decide_true,if_true];rw[h1]
   ·rw[um,mL];simp only[e,decide_true,if_true,ne_eq,not_true_eq_false,decide_false,Bool.false_eq_true,if_false];rw[h2]
  ·have c:=hn m ed
   have a:∀x∈M,x.1≠n:=fun x b=>by
    have:=h.1 x b;unfold pF at this;omega
   constructor
   ·rw[ul,mL]
    simp only[e,decide_false,Bool.false_eq_true,if_false];exact(t6.2 fun x b=>by simpa using a x b).symm
   ·rw[um,mL]
    simp only[e,decide_false,Bool.false_eq_true,if_false,ne_eq,not_false_eq_true,decide_true,if_true];rw[td.2 fun x b=>by simpa using a x b]
def JI(i:Nat)(S:bF)(n:Nat)(k:List au):bF:=if jl S.ks k<S.ks.length then ⟨S.ks,S.es++[(i,n,jl S.ks k)]⟩ else ⟨S.ks++[k],S.es++[(i,n,S.ks.length)]⟩
theorem ajf{P:List Pd}{i:Nat}{K:List au}{S:bF}{n:Nat}(h:jk P K n≠[]):edge P i K S n=JI i S n (jk P K n):=dt h
inductive sK (i:Nat):List (Nat×au)->bF->bF->Prop
 | nil {S:bF}:sK i [] S S
 | aF {n:Nat} {x:au} {M:List (Nat×au)} {S R:bF} (h:sK i (M.dropWhile fun m=>decide (m.1=n)) (JI i S n (x::(M.takeWhile fun m=>decide (m.1=n)).map Prod.snd)) R):sK i ((n,x)::M) S R
theorem Rk{P:List Pd}{i:Nat}{K:List au}:∀(ns:List Nat)(S:bF),(∀n∈ns,jk P K n=[])->leave P i K S ns=S
 | [],S,_=>rfl
 |n::ns,S,h=>by
  have:leave P i K S (n::ns)=leave P i K (edge P i K S n) ns:=rfl;rw[this,ajd (h n ed)];exact Rk ns S fun m a=>h m (ei _ a)
theorem ajg{P:List Pd}{i:Nat}{K:List au}(a b:List Nat)(S:bF):leave P i K S (a++b)=leave P i K (leave P i K S a) b:=rj
theorem sK.leave{P:List Pd}{i:Nat}{K:List au}{sz:Nat}{M:List (Nat×au)}{S R:bF}(h:sK i M S R):∀a,a<=sz->M.Pairwise pF->(∀m,m∈M↔m∈lD P (jE P K)/\a<=m.1)->(∀m∈M,m.1<sz)->R=leave P i K S (List.range' a (sz-a)):=by
 induction h with
 | @nil S=>
  intro a _ _ d _;refine(Rk _ _ fun n j=>?_).symm;rw[List.mem_range'_1]at j;refine wk.2 fun x I=>?_
  obtain⟨s,r,h1,h2⟩:=DK.1 I;have:=(d (n,x)).2 ⟨NC.2 ⟨s,r,h1,h2⟩,j.1⟩;cases this
 | @aF n x M S R _ ih=>
  intro a J k d z;have j:a<=n:=((d (n,x)).1 ed).2;have F:n<sz:=z (n,x) ed;have f:∀m∈M,n<=m.1:=fun m c=>by
   have:=(mr.1 k).1 m c;unfold pF at this;omega
  obtain⟨B,D⟩:=take_same (mr.1 k).2 f;have b:List.range' a (sz-a)=List.range' a (n-a)++(n::List.range' (n+1) (sz - (n+1))):=by
   have o:sz-a=(n-a)+(1+(sz - (n+1))):=by omega
   rw[o,<-List.range'_append_1,show a+(n-a)=n by omega,Nat.add_comm 1,List.range'_succ]
  have t:jk P K n=x::(M.takeWhile fun m=>decide (m.1=n)).map Prod.snd:=by
   refine aaJ aky (ads _ _ _) ?_ fun y=>?_
   ·have h1:((n,x)::M.takeWhile fun m=>decide (m.1=n)).Pairwise pF:=by
     refine k.sublist (List.Sublist.cons_cons _ (List.takeWhile_sublist _))
    have h2:(((n,x)::M.takeWhile fun m=>decide (m.1=n)).map Prod.snd).Pairwise gV:=by
     rw[pC];refine h1.imp_of_mem fun{u v}G E g=>?_
     have e:∀w∈(n,x)::M.takeWhile (fun m=>decide (m.1=n)),w.1=n:=fun w l=>by
      rcases eC.1 l with rfl|l
      ·rfl
      ·rw[B]at l
       exact iS (hU.1 l).2
     have:=e u G;have:=e v E;unfold pF at g;rcases g with C|C
     ·omega
     ·exact C.2
    exact h2
   ·have e:∀y,(y∈x::(M.takeWhile fun m=>decide (m.1=n)).map Prod.snd)↔(n,y)∈(n,x)::M:=fun y=>by
     rw[B];constructor
     ·intro h
      rcases eC.1 h with rfl|h
      ·exact ed
      ·obtain⟨m,p,rfl⟩:=ee.1 h
       obtain⟨h1,h2⟩:=hU.1 p;have h3:=iS h2;exact ei _ (by rw[<-h3];exact h1)
     ·intro h
      rcases eC.1 h with h|h
      ·cases h;exact ed
      ·exact ei _ (ee.2 ⟨(n,y),hU.2 ⟨h,by simp⟩,rfl⟩)
    rw[e y,d (n,y),NC];unfold jk;rw[DK];exact⟨fun h=>⟨h,j⟩,fun h=>h.1⟩
  rw[b,ajg,Rk (List.range' a (n-a)) S fun q A=>?_]
  ·have o:Lx.leave P i K S (n::List.range' (n+1) (sz - (n+1)))=Lx.leave P i K (edge P i K S n) (List.range' (n+1) (sz - (n+1))):=rfl
   rw[o,ajf (by rw[t];simp),t];refine ih (n+1) (by omega) ?_ (fun m=>?_) fun m c=>?_
   ·exact(mr.1 k).2.sublist (List.dropWhile_sublist _)
   ·rw[D,hU]
    constructor
    ·rintro⟨h1,h2⟩
     have h3:=iS h2;have h4:=(d m).1 (ei _ h1);have:=f m h1;exact⟨h4.1,by omega⟩
    ·rintro⟨h1,h2⟩
     have h3:=(d m).2 ⟨h1,by omega⟩;rcases eC.1 h3 with h4|h4
     ·rw[h4]at h2;exact absurd h2 (by show ¬n+1<=n;omega)
     ·exact⟨h4,by simp;omega⟩
   ·rw[D]at c
    exact z m (ei _ (hU.1 c).1)
  ·rw[List.mem_range'_1]at A
   refine wk.2 fun y H=>?_
   obtain⟨s,r,h1,h2⟩:=DK.1 H;have h3:=(d (q,y)).2 ⟨NC.2 ⟨s,r,h1,h2⟩,A.1⟩;rcases eC.1 h3 with h4|h4
   ·cases h4;omega
   ·have:=f _ h4
    have:n<=q:=this;omega
end Lx
def iI(s:au):List Value:=[.int .i64 (s.1:Int),.int .i64 (s.2:Int)]
theorem Jv{P:List Lx.Pd}{k:Nat}(h:k<P.length):bM P k=P[k].right:=by simp[bM,h]
abbrev aQ(T k:Nat){α:Type}(enc:α->List Value)(B:Nat)(w:World)(v:Value)(l:List α):Prop:=w.ownsRow B T k v l.length (l.flatMap enc)
structure uR{α:Type}(enc:α->List Value)(k:Nat):Prop where
 len:∀x,(enc x).length=k
 one:∀x,∀u∈enc x,u.oneCell'=true
theorem uR.J8{α:Type}{enc:α->List Value}{k:Nat}(h:uR enc k):∀l:List α,(l.flatMap enc).length=l.length*k
 | []=>by simp
 |x::l=>by rw[eh,cH,h.J8 l,h.len,ev,mf];omega
theorem uR.aon{α:Type}{enc:α->List Value}{k:Nat}(h:uR enc k)(l:List α):∀u∈l.flatMap enc,u.oneCell'=true:=by
 intro u b;obtain⟨s,-,a⟩:=fW.1 b;exact h.one s u a
theorem uR.UW{α:Type}{enc:α->List Value}{k:Nat}(h:uR enc k):∀{l:List α}{j i:Nat}(hj:j<l.length),i<k->(l.flatMap enc)[j*k+i]?=(enc l[j])[i]?
 | [],j,i,hj,_=>absurd hj (sL _)
 |x::l,0,i,_,hi=>by rw[eh,pZ,fk,eL (by rw[h.len];exact hi)];rfl
 |x::l,j+1,i,hj,hi=>by
  rw[eh,eN (by rw[h.len,mf];omega),h.len,show (j+1)*k+i-k=j*k+i by rw[mf];omega,h.UW (by simpa using hj) hi];rfl
theorem aQ.at{T k B:Nat}{α:Type}{enc:α->List Value}{w:World}{v:Value}{l:List α}(d:uR enc k)(h:aQ T k enc B w v l){j:Nat}(c:j<l.length):∃g cap,v=.slice (some ⟨g,0,none⟩) l.length cap/\B<=g/\g<w.heap.size/\∀i u,i<k->(enc l[j])[i]?=some u->w.cell? ⟨g,j*k+i,none⟩=some u:=by
 obtain⟨g,cap,e,a,m⟩:=World.ownsRow.form h (by omega);subst e;have f:=mz h (g:=g) rfl;refine⟨g,cap,rfl,a,m,fun i u b n=>?_⟩;have:=f (j*k+i) u (by rw[d.UW c b];exact n);rw[show (⟨g,0,none⟩:Addr).add (j*k+i)=⟨g,j*k+i,none⟩ by unfold Addr.add;split <;> simp_all]at this;exact this
theorem aQ.below{T k B:Nat}{α:Type}{enc:α->List Value}{w w':World}{v:Value}{l:List α}(h:aQ T k enc B w v l)(a:Below w.heap.size w w'):aQ T k enc B w' v l:=own_below h a
theorem Nf{T S k f:Nat}{z:Value}{α:Type}{enc:α->List Value}(N:(prog.info? T).map (fun i=>(i.zero,i.size,i.bytes))=some (some z,k,f))(K:prog.underlying S=some (.slice T))(H:z.cells.size=k)(G:0<k)(E:uR enc k){w:World}{n:Array Oper}{rest:List Oper}{o:Oper}{a:Act}{Q:Exit->Act->World->Prop}(A:o.guard=none)(s x:Operand)(L:o.op=.call { callee:=.builtin .append,args:=#[s,x],argTypes:=#[S,S] })(B:Nat)(M:B<=w.heap.size)(v:Value)(l:List α)(O:a.eval s=v)(D:aQ T k enc B w v l)(y:α)(g c:Nat)(R:a.eval x=.slice (some ⟨g,0,none⟩) 1 c)(V:∀(j:Nat)(u:Value),(enc y)[j]?=some u->w.cell? ((⟨g,0,none⟩:Addr).add j)=some u)(P:l.length+1<=maxLen)(C:(l.length+1)*f<=140737488355328)(h:∀v' w',aQ T k enc B w' v' (l++[y])->Below B w w'->w.grownBy w' v.ownBlock->(v'.ownBlock=v.ownBlock\/v'.ownBlock=some w.heap.size)->wpList prog n Q rest (a.put o.dst v') w'):wpList prog n Q (o::rest) a w:=by
 obtain⟨I,t,q,r,p⟩:=ft N;refine js _ A s x S L B T I _ k f K t q r p H G v l.length (l.flatMap enc) O D ⟨g,0,none⟩ 1 c (enc y) R (by rw[E.len,tj]) V (E.one y) P C M fun U F d m _ J=>?_
 refine h U F ?_ ?_ m J
 ·have e:(l++[y]).flatMap enc=l.flatMap enc++enc y:=by simp
  unfold aQ;rw[e,cH];exact d
 ·exact⟨m.os,m.tape,m.output,m.size,fun b W=>m.block b (by omega) fun e=>absurd (qt D b e.symm).1 (by omega)⟩
theorem Cn:uR iI 2:=⟨fun _=>rfl,fun s u a=>by simp only[iI,List.mem_cons,List.not_mem_nil,or_false]at a;rcases a with rfl|rfl <;> rfl⟩
theorem Lx.acz{s:au}:∀r:List au,(Lx.ins s r).length=r.length+1
 | []=>rfl
 |x::r=>by
  rw[Lx.ins]
  split
  ·rfl
  ·simp only[List.length_cons,acz r]
theorem akB{P:List Lx.Pd}{K l r:List au}{i:Nat}(h:tY P l i r):pK P K l->pK P K r:=by
 induction h with
 |done _=>exact id
 |step _ _ ih=>exact fun a=>ih (a.add _)
theorem Lx.al6(P:List Lx.Pd)(K:List au):(jE P K).length<=K.length+P.length:=(akB (TI P K) (pK.refl P K)).len
theorem Lx.akC{P:List Lx.Pd}{n:Nat}{o:List au}{s:au}:(zi P n o s).length<=o.length+1:=by
 unfold zi F9
 split
 ·split
  ·omega
  ·rw[acz];exact zL0
 ·omega
namespace Lx
def eY(s:ByteArray):Except (Nat×Nat) Gr :=
 match parse s with
 |.error e=>.error e
 |.ok g=>if (kV g).1=0 then (if 200<(aJ g).length then .error (8,0) else .ok g) else .error (kV g)
theorem SV{s:ByteArray}{e:Nat×Nat}(h:parse s=.error e):eY s=.error e:=by unfold eY;rw[h]
theorem SX{s:ByteArray}{g:Gr}(h:parse s=.ok g)(a:(kV g).1≠0):eY s=.error (kV g):=by unfold eY;rw[h];exact dt a
theorem Sq{s:ByteArray}{g:Gr}(h:parse s=.ok g)(b:(kV g).1=0)(a:200<(aJ g).length):eY s=.error (8,0):=by unfold eY;rw[h];exact(dj b).trans (dj a)
theorem TJ{s:ByteArray}{g:Gr}(h:parse s=.ok g)(b:(kV g).1=0)(a:¬200<(aJ g).length):eY s=.ok g:=by unfold eY;rw[h];exact(dj b).trans (dt a)
theorem abx{g:Gr}(h:(kV g).1=0):Ai g=none/\uT g=none:=by
 unfold kV at h;cases h1:Ai g with
 |some p=>rw[h1]at h;exact absurd h (by simp[qF])
 |none=>
  rw[h1]at h;cases h2:uT g with
  |some p=>rw[h2]at h;exact absurd h (by simp[qF])
  |none=>exact⟨rfl,rfl⟩
theorem akD(aI:ByteArray)(b:Bool)(t:Tk)(a:ByteArray):(qX aI b t a).length<=1:=by
 unfold qX
 split
 ·simp
 ·split <;> simp
theorem adt:∀(ts:List Tk)(aI:ByteArray)(il:Bool),(wl aI il ts).length<=ts.length
 | [],_,_=>zL0
 |t::ts,aI,il=>by
  rw[wl,cH,ev];have h1:=akD aI il t (hd ts);have h2:=adt ts t.1 (yS il t);omega
theorem akE{s:ByteArray}{g:Gr}(h:parse s=.ok g)(a:s.size<=2000):(iF g).length<=100000:=by
 rw[<-Rb h];have h1:=adt (lex s) aW true;have h2:(lex s).length<=2001:=by have:=ME s (iT s 0 false);unfold lex;omega
 omega
theorem ahW{s:ByteArray}{g:Gr}(h:parse s=.ok g):s.size<=2000:=by
 unfold parse at h
 split at h
 ·cases h
 ·omega
end Lx
def xq:Value:=.agg #[.slice none 0 0,.slice none 0 0,.slice none 0 0,.slice none 0 0,.slice none 0 0]
def akF(s:ByteArray)(w:World)(e:Ending)(w':World):Prop :=
 ∃v,∃n a:Nat,e=.returned (.tuple #[v,.int .i64 (n:Int),.int .i64 (a:Int)])/\Below w.heap.size w w'/\(∀g,eY s=.ok g->n=0/\a=0/\PlP w' v (ay g) (aS g) (aJ g) ((ay g).map fun t=>(qZ g t).1) ((ay g).map fun t=>(qZ g t).2))/\(∀x,eY s=.error x->n=x.1/\a=x.2/\v=xq)
def DZ(s:ByteArray)(w:World)(e:Ending)(w':World):Prop :=
 ∃v,∃n a:Nat,e=.returned (.tuple #[v,.int .i64 (n:Int),.int .i64 (a:Int)])/\Below w.heap.size w w'/\(∀g,eY s=.ok g->n=0/\a=0/\uZ w.heap.size w' v (ay g) (aS g) (aJ g) ((ay g).map fun t=>(qZ g t).1) ((ay g).map fun t=>(qZ g t).2))/\(∀x,eY s=.error x->n=x.1/\a=x.2/\v=xq)
theorem DZ.no{s:ByteArray}{w w':World}{n a:Nat}(h:eY s=.error (n,a))(d:Below w.heap.size w w'):DZ s w (.returned (.tuple #[xq,.int .i64 (n:Int),.int .i64 (a:Int)])) w' :=
 ⟨_,n,a,rfl,d,(fun g c=>by rw[h]at c;cases c),(fun x b=>by rw[h]at b;cases b;exact⟨rfl,rfl,rfl⟩)⟩
theorem Ng{w:World}{r t:Nat}{x0 x1 x2 x3 x4 a y1 y2 b c:Value}(h:aj w r #[a,y1,y2,b,c] t):aj (((((w.setCell ⟨r,0,none⟩ x0).setCell ⟨r,1,none⟩ x1).setCell ⟨r,2,none⟩ x2).setCell ⟨r,3,none⟩ x3).setCell ⟨r,4,none⟩ x4) r #[x0,x1,x2,x3,x4] t:=((((h.set 0 _).set 1 _).set 2 _).set 3 _).set 4 _
theorem Mv{B:Nat}{a w:World}(h:Below B a w){r:Nat}(b:B<=r)(x0 x1 x2 x3 x4:Value):Below B a (((((w.setCell ⟨r,0,none⟩ x0).setCell ⟨r,1,none⟩ x1).setCell ⟨r,2,none⟩ x2).setCell ⟨r,3,none⟩ x3).setCell ⟨r,4,none⟩ x4) :=
 ((((h.setCell (p:=⟨r,0,none⟩) b x0).setCell (p:=⟨r,1,none⟩) b x1).setCell (p:=⟨r,2,none⟩) b x2).setCell (p:=⟨r,3,none⟩) b x3).setCell (p:=⟨r,4,none⟩) b x4
theorem ahX(w:World)(r:Nat)(x0 x1 x2 x3 x4:Value)(g:Nat)(a:g≠r):(((((w.setCell ⟨r,0,none⟩ x0).setCell ⟨r,1,none⟩ x1).setCell ⟨r,2,none⟩ x2).setCell ⟨r,3,none⟩ x3).setCell ⟨r,4,none⟩ x4).heap[g]?=w.heap[g]?:=by
 rw[zS0 a,zS0 a,zS0 a,zS0 a,zS0 a]
theorem own_ne{w:World}{B e z:Nat}{v:Value}{n:Nat}{i:List Value}(h:w.ownsRow B e z v n i){r t:Nat}{cs:Array Value}(b:aj w r cs t)(a:e≠t):∀g,v.ownBlock=some g->g≠r:=by
 intro g j f;obtain⟨d,c⟩:=gQ h j;unfold aj at b;rw[f,b]at c;cases c;exact a rfl
theorem uZ.other{B:Nat}{w w':World}{v:Value}{T N:List ByteArray}{P:List Lx.Pd}{k l:List Nat}(h:uZ B w v T N P k l){r:Nat}{cs:Array Value}(c:aj w r cs 56)(b:∀g,g<w.heap.size->g≠r->w'.heap[g]?=w.heap[g]?):uZ B w' v T N P k l:=by
 obtain⟨o,n,s,p,t,rfl,h1,h2,⟨x,u,i,f,m⟩,h4,j,y⟩:=h;exact⟨o,n,s,p,t,rfl,aD h1 fun g a=>b g (h1.lt g a).2 (own_ne h1 c (by decide) g a),aD h2 fun g a=>b g (h2.lt g a).2 (own_ne h2 c (by decide) g a),⟨x,u,aD i fun g a=>b g (i.lt g a).2 (own_ne i c (by decide) g a),fun q d=>⟨aD (f q d).1 fun g a=>b g ((f q d).1.lt g a).2 (own_ne (f q d).1 c (by decide) g a),(f q d).2⟩,m⟩,aD h4 fun g a=>b g (h4.lt g a).2 (own_ne h4 c (by decide) g a),aD j fun g a=>b g (j.lt g a).2 (own_ne j c (by decide) g a),y⟩
theorem uZ.mono{B B':Nat}{w:World}{v:Value}{T N:List ByteArray}{P:List Lx.Pd}{c d:List Nat}(h:uZ B w v T N P c d)(f:B'<=B):uZ B' w v T N P c d:=by
 obtain⟨l,k,n,m,o,p,h1,h2,⟨u,s,r,i,j⟩,h4,t,x⟩:=h;exact⟨l,k,n,m,o,p,h1,h2,⟨u,s,r,fun q b=>⟨(i q b).1,fun g a=>de f ((i q b).2 g a)⟩,j⟩,h4,t,fun g a=>de f (x g a)⟩
theorem Nh(s:ByteArray)(w:World)(aa:s.size<=maxLen)(ht:dM w):Calls prog 21 #[.string s] w (DZ s w):=by
 obtain⟨W,T⟩:∃W,W=w.alloc (.cells #[.slice none 0 0,.slice none 0 0,.slice none 0 0,.slice none 0 0,.slice none 0 0] 56):=⟨_,rfl⟩;have ad:Below w.heap.size w W:=by rw[T];exact(cV _ _).alloc (zL0) _
 have zx:W.heap.size=w.heap.size+1:=by rw[T];simp
 have kR:aj W w.heap.size #[.slice none 0 0,.slice none 0 0,.slice none 0 0,.slice none 0 0,.slice none 0 0] 56:=by rw[T];exact aj.new w _ 56
 have q1:=Z9 s W aa;go_enter func21,ntmps21;go_wp2_with fail;rw[<-T];clear T;refine q1.mono ?_;rintro e w1⟨I,C⟩;clear q1;have dY:Below w.heap.size w w1:=ad.trans (I.mono (by omega));have B:aj w1 w.heap.size _ 56:=(I.block _ (by omega)).trans kR;have ao:=I.size;have ac:w.heap.size<w1.heap.size:=B.lt;have r0:w1.cell? ⟨w.heap.size,0,none⟩=some (.slice none 0 0):=B.cell 0;have r1:w1.cell? ⟨w.heap.size,1,none⟩=some (.slice none 0 0):=B.cell 1;have r2:w1.cell? ⟨w.heap.size,2,none⟩=some (.slice none 0 0):=B.cell 2;have r3:w1.cell? ⟨w.heap.size,3,none⟩=some (.slice none 0 0):=B.cell 3;have r4:w1.cell? ⟨w.heap.size,4,none⟩=some (.slice none 0 0):=B.cell 4;have rf:∀i,w1.frozen? ⟨w.heap.size,i,none⟩=false:=B.frozen;cases hp:Lx.parse s with
 |error x=>
  obtain⟨n,a⟩:=x;rw[hp]at C;have he:e=.returned (.tuple #[.agg #[.slice none 0 0,.slice none 0 0],.int .i64 (n:Int),.int .i64 (a:Int)]):=C;subst he;have y:Hid (eY s=.error (n,a)):=SV hp;have ag:0<n:=Z8 hp;have ak:((n:Int) != 0)=true:=lh.2 (by omega);have ap:¬(n:Int)=0:=by omega
  clear C hp ag;go_wp2_with fail;have c:=(Ng (x0:=.slice none 0 0) (x1:=.slice none 0 0) (x2:=.slice none 0 0) (x3:=.slice none 0 0) (x4:=.slice none 0 0) B).alloc (.cells #[.slice none 0 0,.slice none 0 0] 105);have o:=c.cell 0;have k:=c.cell 1;have j:=c.cell 2;have p:=c.cell 3;have f:=c.cell 4;simp at o k j p f;exact fy (v:=.tuple #[xq,.int .i64 (n:Int),.int .i64 (a:Int)]) (by simp[xq,results,results21,go_sem,o,k,j,p,f]) rfl (DZ.no y.out ((Mv dY (zL0) _ _ _ _ _).alloc (by simp;omega) _))
 |ok g=>
  rw[hp]at C;obtain⟨vl,vr,rfl,hg⟩:=C;obtain⟨K,N,rfl,-⟩:=Seq.len hg.1;obtain⟨E,G,rfl,-⟩:=(lY.len (F:=In W.heap.size w1.heap.size) (w:=w1) ⟨fun b M=>M.2,dV.weak hg.2 fun A v x Y hk=>eG.weak Y hk⟩);have P:=ahW hp;obtain⟨O,m⟩:∃O,O=w1.alloc (.cells #[.slice K g.levels.length N,.slice E g.rules.length G] 105):=⟨_,rfl⟩;have fu:Below w1.heap.size w1 O:=by rw[m];exact(cV _ _).alloc (zL0) _
  have an:O.heap.size=w1.heap.size+1:=by rw[m];simp
  have kB:aj O w1.heap.size #[.slice K g.levels.length N,.slice E g.rules.length G] 105:=by rw[m];exact aj.new w1 _ 105
  have q2:=agI s O P;go_wp2_with fail;rw[<-m];clear m;refine q2.mono ?_;rintro e w2⟨vW,rfl,oW,H⟩;clear q2;rw[Rb hp]at oW;have xZ:WR w2 vW (iF g):=jb oW (ff _);obtain⟨wa,wc,rfl,-⟩:=xZ.len;have qD:Below w1.heap.size w1 w2:=fu.trans (H.mono (by omega));have aq:=H.size;have Z:∀{w':World},Below w1.heap.size w1 w'->BM (In W.heap.size w1.heap.size) w' (.slice K g.levels.length N) (.slice E g.rules.length G) g:=fun M=>hg.move (fun b l=>M.block b l.2) (fun _ h=>h)
  have R:∀{w':World},Below w1.heap.size w1 w'->lY (In W.heap.size w1.heap.size) w' (.slice E g.rules.length G) g.rules:=fun M=>⟨fun b l=>dd l.2 M.size,dV.weak (Z M).2 fun A v x Y hk=>eG.weak Y hk⟩
  have q3:=afu hp (R qD) xZ;have ab:aj w2 w1.heap.size #[.slice K g.levels.length N,.slice E g.rules.length G] 105:=(H.block _ (by omega)).trans kB;have g1:w2.cell? ⟨w1.heap.size,1,none⟩=some (.slice E g.rules.length G):=ab.cell 1;go_wp2_with fail;refine q3.mono ?_;rintro e d⟨rfl,z⟩;clear q3 g1;have al:=z.size;have Q:Below w1.heap.size w1 d:=qD.trans (z.mono qD.size);have zk:Below w.heap.size w d:=dY.trans (Q.mono (by omega));have D:aj d w.heap.size _ 56:=(Q.block _ ac).trans B;have S:aj d w1.heap.size #[.slice K g.levels.length N,.slice E g.rules.length G] 105:=(z.block _ (by omega)).trans ab;clear r0 r1 r2 r3 r4 rf
  by_cases hc:(kV g).1=0
  ·have h6:=abx hc
   obtain⟨h1,h2,h3⟩:=FC hp;obtain⟨h4,h5⟩:=Rh hp;have V:Lx.Fit g:=by
    refine⟨h1,h2,h3,fun r hr=>?_,h4,h5,h6.2,h6.1⟩;obtain⟨i,hi,rfl⟩:=pN.1 hr;obtain⟨_,_,_,-,-,Y,-⟩:=(R Q).at hi;exact Rz Y
   have q4:=agQ hp V (Z Q) (fun b l=>dd l.2 Q.size) (xZ.below z) (ht.move (zk.block _ ht.lt)) (akE hp P);have J:(((kV g).1:Int) != 0)=false:=by simp[hc]
   have ah:((kV g).1:Int)=0:=by omega
   have HC:Hid ((kV g).1=0):=hc;have HM:Hid (200<(aJ g).length->eY s=.error (8,0)):=fun C=>Sq hp hc C
   have HO:Hid (¬200<(aJ g).length->eY s=.ok g):=fun C=>TJ hp hc C
   have g0:d.cell? ⟨w1.heap.size,0,none⟩=some (.slice K g.levels.length N):=S.cell 0;have g1:d.cell? ⟨w1.heap.size,1,none⟩=some (.slice E g.rules.length G):=S.cell 1;clear hc h6 h1 h2 h3 h4 h5;generalize kV g=cr at J ah HC;go_wp2_with fail;refine q4.mono ?_;rintro e u⟨v,rfl,L,X⟩
   replace L:=L.mono (B':=w.heap.size) (by have:=zk.size;first | omega | (simp;omega))
   clear q4 g0 g1;obtain⟨vT,vN,vP,vB,vK,rfl,oT,oN,sF,oB,oK,-⟩:=id L;obtain⟨ps,p1,p2,-⟩:=id sF;obtain⟨ta,tc,rfl,-⟩:=aC oT;obtain⟨na,nc,rfl,-⟩:=aC oN;obtain⟨pa,pc,rfl,ae⟩:=aC p2;obtain⟨ba,bc,rfl,-⟩:=aC oB;obtain⟨ka,kc,rfl,-⟩:=aC oK;clear oT oN oB oK p1 p2 sF;generalize ((ay g).map fun t=>(qZ g t).1).length=nB at L;generalize ((ay g).map fun t=>(qZ g t).2).length=nK at L;have mo:Below w.heap.size w u:=zk.trans (X.mono (by omega));have q:aj u w.heap.size _ 56:=(X.block _ (by omega)).trans D;have am:=q.lt;have r0:u.cell? ⟨w.heap.size,0,none⟩=some (.slice none 0 0):=q.cell 0;have r1:u.cell? ⟨w.heap.size,1,none⟩=some (.slice none 0 0):=q.cell 1;have r2:u.cell? ⟨w.heap.size,2,none⟩=some (.slice none 0 0):=q.cell 2;have r3:u.cell? ⟨w.heap.size,3,none⟩=some (.slice none 0 0):=q.cell 3;have r4:u.cell? ⟨w.heap.size,4,none⟩=some (.slice none 0 0):=q.cell 4;have rf:∀i,u.frozen? ⟨w.heap.size,i,none⟩=false:=q.frozen;unfold maxLen at ae
   by_cases Og:200<(aJ g).length
   ·have y:Hid (eY s=.error (8,0)):=HM.out Og
    have af:(200:Int)<((aJ g).length:Int):=by omega
    clear HM HO Og;go_wp2_with fail;have c:=(Ng (x0:=.slice none 0 0) (x1:=.slice none 0 0) (x2:=.slice none 0 0) (x3:=.slice none 0 0) (x4:=.slice none 0 0) q).alloc (.cells #[.slice ta (ay g).length tc,.slice na (aS g).length nc,.slice pa (aJ g).length pc,.slice ba nB bc,.slice ka nK kc] 56);have o:=c.cell 0;have k:=c.cell 1;have j:=c.cell 2;have p:=c.cell 3;have f:=c.cell 4;simp at o k j p f;exact fy (v:=.tuple #[xq,.int .i64 ((8:Nat):Int),.int .i64 ((0:Nat):Int)]) (by simp[xq,results,results21,go_sem,o,k,j,p,f]) rfl (DZ.no y.out ((Mv mo (zL0) _ _ _ _ _).alloc (by simp;omega) _))
   ·have y:Hid (eY s=.ok g):=HO.out Og
    have af:¬(200:Int)<((aJ g).length:Int):=by omega
    clear HM HO Og;go_wp2_with fail;have c:=(Ng (x0:=.slice ta (ay g).length tc) (x1:=.slice na (aS g).length nc) (x2:=.slice pa (aJ g).length pc) (x3:=.slice ba nB bc) (x4:=.slice ka nK kc) q).alloc (.cells #[.slice ta (ay g).length tc,.slice na (aS g).length nc,.slice pa (aJ g).length pc,.slice ba nB bc,.slice ka nK kc] 56);have o:=c.cell 0;have k:=c.cell 1;have j:=c.cell 2;have p:=c.cell 3;have f:=c.cell 4;simp at o k j p f;refine fy (v:=.tuple #[.agg #[.slice ta (ay g).length tc,.slice na (aS g).length nc,.slice pa (aJ g).length pc,.slice ba nB bc,.slice ka nK kc],.int .i64 ((0:Nat):Int),.int .i64 ((0:Nat):Int)]) (by simp[results,results21,go_sem,o,k,j,p,f]) rfl ⟨_,0,0,rfl,(Mv mo (zL0) _ _ _ _ _).alloc (by simp;omega) _,?_,?_⟩
    ·intro g' U
     rw[y.out]at U;cases U;refine⟨rfl,rfl,L.other q fun x hx hn=>?_⟩;rw[dg _ _ _ (by simp[World.setCell];exact hx)];exact ahX u w.heap.size _ _ _ _ _ x hn
    ·intro x hx;rw[y.out]at hx;cases hx
  ·have y:Hid (eY s=.error (kV g)):=SX hp hc
   have J:(((kV g).1:Int) != 0)=true:=lh.2 (by omega);have ai:¬((kV g).1:Int)=0:=by omega
   clear hc;generalize kV g=cr at y J ai;have r0:d.cell? ⟨w.heap.size,0,none⟩=some (.slice none 0 0):=D.cell 0;have r1:d.cell? ⟨w.heap.size,1,none⟩=some (.slice none 0 0):=D.cell 1;have r2:d.cell? ⟨w.heap.size,2,none⟩=some (.slice none 0 0):=D.cell 2;have r3:d.cell? ⟨w.heap.size,3,none⟩=some (.slice none 0 0):=D.cell 3;have r4:d.cell? ⟨w.heap.size,4,none⟩=some (.slice none 0 0):=D.cell 4;have rf:∀i,d.frozen? ⟨w.heap.size,i,none⟩=false:=D.frozen;go_wp2_with fail;have c:=Ng (x0:=.slice none 0 0) (x1:=.slice none 0 0) (x2:=.slice none 0 0) (x3:=.slice none 0 0) (x4:=.slice none 0 0) D;have o:=c.cell 0;have k:=c.cell 1;have j:=c.cell 2;have p:=c.cell 3;have f:=c.cell 4;simp at o k j p f;exact fy (v:=.tuple #[xq,.int .i64 (cr.1:Int),.int .i64 (cr.2:Int)]) (by simp[xq,results,results21,go_sem,o,k,j,p,f]) rfl (DZ.no y.out (Mv zk (zL0) _ _ _ _ _))
theorem Sr(s:ByteArray)(w:World)(b:s.size<=maxLen)(d:dM w):Calls prog 21 #[.string s] w (akF s w):=by
 refine(Nh s w b d).mono ?_;rintro e f⟨v,n,a,h1,h2,h3,h4⟩;exact⟨v,n,a,h1,h2,fun g c=>⟨(h3 g c).1,(h3 g c).2.1,(h3 g c).2.2.pl⟩,h4⟩
theorem Lx.SY{s:ByteArray}{x:Nat×Nat}(h:eY s=.error x):x.1≠0:=by
 cases hp:Lx.parse s with
 |error y=>
  obtain⟨n,a⟩:=y;rw[SV hp]at h;cases h;have:=Z8 hp;show n≠0;omega
 |ok g=>
  by_cases hc:(kV g).1=0
  ·by_cases hm:200<(aJ g).length
   ·rw[Sq hp hc hm]at h;cases h;decide
   ·rw[TJ hp hc hm]at h;cases h
  ·rw[SX hp hc]at h;cases h;exact hc
def ad3(g:Lx.Gr):Prop:=J6 ((ay g).length+(aS g).length) (aJ g)/\(ay g).length+(aS g).length<=100000/\∀p∈aJ g,p.right.length<=100000
def anu(w w':World)(nT n:Nat)(P:List Lx.Pd)(e:Ending):Prop:=∃gE E k vF B m,e=.returned (.tuple #[.slice (some ⟨gE,0,none⟩) n n,vF,.int .i64 0,.int .i64 0])/\aj w' gE (bG E) 4/\w.heap.size<=gE/\E.length=n/\E=rE (kH P) k (List.replicate n false)/\kH P E=E/\B=rE (gI P E) m (Lx.alone nT n)/\gI P E B=B/\GV w.heap.size w' vF (B.map jF)
def akG(s:ByteArray)(w:World)(e:Ending)(w':World):Prop :=
 Below w.heap.size w w'/\(∀x,eY s=.error x->e=.returned (.tuple #[.slice none 0 0,.slice none 0 0,.int .i64 (x.1:Int),.int .i64 (x.2:Int)]))/\(∀g,eY s=.ok g->anu w w' (ay g).length ((ay g).length+(aS g).length) (aJ g) e)
theorem aoo(w:World)(x0 x1 x2 x3 x4:Value):aj (w.alloc (.cells #[x0,x1,x2,x3,x4] 56)) w.heap.size #[x0,x1,x2,x3,x4] 56:=aj.new w _ 56
theorem akH(s:ByteArray)(w:World)(p:s.size<=maxLen)(ht:dM w)(j:∀g,eY s=.ok g->ad3 g):Calls prog 60 #[.string s] w (akG s w):=by
 have q1:=Sr s w p ht;go_enter func60,ntmps60;go_wp2_with fail;refine q1.mono ?_;rintro e w1⟨v,n,a,rfl,d,b,T⟩;clear q1;cases hr:eY s with
 |error x=>
  obtain⟨rfl,rfl,rfl⟩:=T x hr;have hp:=SY hr;have O:Hid (eY s=.error x):=hr;have aa:((x.1:Int) != 0)=true:=lh.2 (by omega);have ad:¬(x.1:Int)=0:=by omega
  clear hr T b j hp;unfold xq;go_wp2_with fail;refine fy (v:=.tuple #[.slice none 0 0,.slice none 0 0,.int .i64 (x.1:Int),.int .i64 (x.2:Int)]) (by simp[results,results60,go_sem]) rfl ?_;refine⟨d.alloc d.size _,fun y r=>?_,fun g o=>?_⟩
  ·rw[O.out]at r;cases r;rfl
  ·rw[O.out]at o;cases o
 |ok g=>
  obtain⟨rfl,rfl,hP⟩:=b g hr;obtain⟨o1,o2,o3⟩:=j g hr;obtain⟨vT,vN,vP,vB,vK,rfl,hT,hN,S,M,hK⟩:=hP;obtain⟨L,u,rfl,-⟩:=aC hT;obtain⟨K,N,rfl,-⟩:=aC hN;obtain⟨ps,p1,p2,-⟩:=id S;obtain⟨A,I,rfl,-⟩:=aC p2;obtain⟨ba,bc,rfl,-⟩:=aC M;obtain⟨ka,kc,rfl,-⟩:=aC hK;have O:Hid (eY s=.ok g):=hr;clear hr T b j hT hN M hK p1 p2;generalize hNT:(ay g).length=nT at *;generalize hNN:(aS g).length=nN at *;have X:Hid _:=hNT;have Vj:Hid _:=hNN;clear hNT hNN;generalize ((ay g).map fun t=>(qZ g t).1).length=nB at *;generalize ((ay g).map fun t=>(qZ g t).2).length=nK at *;obtain⟨W,P⟩:∃W,W=w1.alloc (.cells #[.slice L nT u,.slice K nN N,.slice A (aJ g).length I,.slice ba nB bc,.slice ka nK kc] 56):=⟨_,rfl⟩;have kW:aj W w1.heap.size #[.slice L nT u,.slice K nN N,.slice A (aJ g).length I,.slice ba nB bc,.slice ka nK kc] 56:=by rw[P];exact aoo _ _ _ _ _ _
  have i:Below w1.heap.size w1 W:=by rw[P];exact(cV _ _).alloc (zL0) _
  have l:F8 W L nT u K nN N (.slice A (aJ g).length I) (aJ g):=⟨S.below i,o1,o2⟩;have q2:=afv (ba:=ba) (ka:=ka) (nb:=nB) (bc:=bc) (nk:=nK) (kc:=kc) l;have c0:W.cell? ⟨w1.heap.size,0,none⟩=some (.slice L nT u):=kW.cell 0;have c1:W.cell? ⟨w1.heap.size,1,none⟩=some (.slice K nN N):=kW.cell 1;have c2:W.cell? ⟨w1.heap.size,2,none⟩=some (.slice A (aJ g).length I):=kW.cell 2;have c3:W.cell? ⟨w1.heap.size,3,none⟩=some (.slice ba nB bc):=kW.cell 3;have c4:W.cell? ⟨w1.heap.size,4,none⟩=some (.slice ka nK kc):=kW.cell 4;go_wp2_with fail;rw[<-P];clear P;go_wp2_with fail;refine q2.mono ?_;rintro e w2⟨gE,E,k,rfl,ab,R,f,hE,C,c⟩;clear q2 c0 c1 c2 c3 c4;have F:aj w2 w1.heap.size _ 56:=(c.block _ kW.lt).trans kW;have c0:w2.cell? ⟨w1.heap.size,0,none⟩=some (.slice L nT u):=F.cell 0;have c1:w2.cell? ⟨w1.heap.size,1,none⟩=some (.slice K nN N):=F.cell 1;have c2:w2.cell? ⟨w1.heap.size,2,none⟩=some (.slice A (aJ g).length I):=F.cell 2;have c3:w2.cell? ⟨w1.heap.size,3,none⟩=some (.slice ba nB bc):=F.cell 3;have c4:w2.cell? ⟨w1.heap.size,4,none⟩=some (.slice ka nK kc):=F.cell 4;have q3:=afq (ba:=ba) (ka:=ka) (nb:=nB) (bc:=bc) (nk:=nK) (kc:=kc) (l.below c) R f o3;have HE:Hid _:=hE;have Y:Hid _:=C;have V:Hid _:=f;clear hE C f l o1 o3 S;go_wp2_with fail;refine q3.mono ?_;rintro e w3⟨vF,B,m,rfl,M,H,J,G⟩;clear q3;have ac:=d.size;have zx:=i.size;have ae:=c.size;have Q:GV w.heap.size w3 vF (B.map jF):=by
   obtain⟨qs,⟨r1,Z,r3,r4⟩,r5⟩:=J;exact⟨qs,⟨r1,jb Z (by omega),fun q hq=>jb (r3 q hq) (by omega),r4⟩,r5⟩
  obtain⟨z,D,rfl⟩:∃z D,vF=.slice z (B.map jF).length D:=by
   obtain⟨qs,⟨r1,Z,-⟩,-⟩:=J;obtain⟨z,D,e,-⟩:=aC Z;exact⟨z,D,e⟩
  have HB:Hid _:=M;have U:Hid _:=H;clear M H;go_wp2_with fail;refine fy (v:=.tuple #[.slice (some ⟨gE,0,none⟩) (nT+nN) (nT+nN),.slice z (B.map jF).length D,.int .i64 0,.int .i64 0]) (by simp[results,results60,go_sem]) rfl ?_;refine⟨d.trans ((i.trans ((c.mono zx).trans (G.mono (by omega)))).mono (by omega)),fun y r=>?_,fun g' o=>?_⟩
  ·rw[O.out]at r;cases r
  ·rw[O.out]at o
   cases o;rw[X.out,Vj.out];exact⟨gE,E,k,_,B,m,rfl,(G.block _ R.lt).trans R,by omega,V.out,HE.out,Y.out,HB.out,U.out,Q⟩
namespace Lx
theorem Jw{l:List ByteArray}{b:ByteArray}(h:0<=bZ l b):fix l b<l.length:=(Ns h).2
theorem Ni(g:Gr):(aS g).length=1+(g.rules.flatMap jQ).length:=by unfold aS;rw[ev];omega
theorem Ta{T N:List ByteArray}{x:It}(h:Af T N x):xD T N x<T.length+N.length:=by
 unfold Af at h;unfold xD
 split
 ·rename_i a;rw[dj a]at h;have:=Jw h;omega
 ·rename_i a;rw[dt a]at h;have:=Jw h;omega
theorem aby{T N:List ByteArray}{b:Nat}{H:List It}{x:It}(h:DW T N H x)(c:b+1+H.length<=T.length+N.length):yY T N b H x<T.length+N.length:=by
 unfold DW at h;unfold yY
 split
 ·rename_i a;rw[dj a]at h;omega
 ·rename_i a;rw[dt a]at h;exact Ta h
theorem ZE{T N:List ByteArray}{b:Nat}{H:List It}{its:List It}(h:∀x∈its,DW T N H x)(a:b+1+H.length<=T.length+N.length):∀s∈nD T N b H its,s<T.length+N.length:=by
 intro s d;obtain⟨x,c,rfl⟩:=ee.1 d;exact aby (h x c) a
theorem ajh{n s m M L:Nat}{d:List (List Nat)}(f:s<M)(h:∀r∈d,r.length<=L/\∀x∈r,x<M):∀p∈ou n s m d,p.left=s/\p.right.length<=L+1/\∀x∈p.right,x<M:=by
 intro p a;unfold ou at a;rcases cY.1 a with a|a
 ·split at a
  ·rw[cN.1 a];exact⟨rfl,ff _,fun x c=>by cases c⟩
  ·cases a
 ·rcases cY.1 a with a | a
  ·split at a
   ·cases a
   ·obtain⟨r,b,rfl⟩:=ee.1 a
    exact⟨rfl,Nat.le_succ_of_le (h r b).1,(h r b).2⟩
  ·split at a
   ·obtain⟨r,b,rfl⟩:=ee.1 a
    refine⟨rfl,Nat.succ_le_succ (h r b).1,fun x c=>?_⟩;rcases eC.1 c with rfl|c
    ·exact f
    ·exact(h r b).2 x c
   ·cases a
theorem ZF{T N:List ByteArray}{b M L:Nat}{H:List It}:∀(l:List It)(k:Nat),b+1+k+l.length<=M->(∀x∈l,∀r∈partsOf T N b H x,r.length<=L/\∀s∈r,s<M)->∀p∈oV T N b H k l,(b+1+k<=p.left/\p.left<b+1+k+l.length)/\p.right.length<=L+1/\∀x∈p.right,x<M
 | [],_,_,_,p,a=>by cases a
 |x::l,k,hb,h,p,a=>by
  rw[ev]at hb|-;rcases cY.1 a with a|a
  ·obtain⟨h1,h2⟩:=ajh (s:=b+1+k) (by omega) (h x ed) p a
   exact⟨by omega,h2⟩
  ·obtain⟨h1,h2⟩:=ZF l (k+1) (by omega) (fun y c=>h y (ei _ c)) p a
   exact⟨by omega,h2⟩
theorem abz{d:Nat}{l:List Alt}{x:It}(h:x∈bC d l):x∈dm d l:=(hU.1 h).1
theorem ahY{g:Gr}(f:Fit g){r:Rl}(c:r∈g.rules){b:Nat}(k:b+1+(bC 9 r.alts).length<=(ay g).length+(aS g).length){x:It}(i:x∈dm 9 r.alts):∀q∈partsOf (ay g) (aS g) b (bC 9 r.alts) x,q.length<=2001/\∀s∈q,s<(ay g).length+(aS g).length:=by
 intro q d;unfold partsOf at d
 split at d
 ·obtain⟨a,j,rfl⟩:=ee.1 d
  refine⟨by unfold nD;rw[dk];exact(f.its c i).2 a j,ZE (fun y n=>f.sym c (SE (f.dp r c) i j n)) k⟩
 ·rename_i l
  rw[cN.1 d];refine⟨by simp,fun s m=>?_⟩;rw[cN.1 m];exact Ta (f.plain c i l)
theorem abA{l:List Alt}{a:Alt}(c:a∈l){x:It}(b:x∈a.1)(d:Nat):x∈dm (d+1) l:=FD.2 ⟨a,c,x,b,.inl rfl⟩
theorem aji{g:Gr}(f:Fit g){r:Rl}(d:r∈g.rules){b:Nat}(i:b+1+(bC 9 r.alts).length<=(ay g).length+(aS g).length):∀p∈tu (ay g) (aS g) b r,(b<=p.left/\p.left<b+1+(bC 9 r.alts).length)/\p.right.length<=2002/\∀s∈p.right,s<(ay g).length+(aS g).length:=by
 intro p c;unfold tu at c;rcases cY.1 c with c|c
 ·obtain⟨a,j,rfl⟩:=ee.1 c
  refine⟨⟨zL0,by show b<_;omega⟩,?_,ZE (fun y l=>f.sym d (abA j l 8)) i⟩;show (nD _ _ _ _ _).length<=_;unfold nD;rw[dk];have:=(f.alts d).2 a j;omega
 ·obtain⟨h1,h2⟩:=ZF (M:=(ay g).length+(aS g).length) (L:=2001) _ 0 (by omega) (fun x k=>ahY f d i (abz k)) p c
  exact⟨by omega,h2⟩
theorem ZG{g:Gr}(c:Fit g):∀(rs:List Rl)(b:Nat),(∀r∈rs,r∈g.rules)->b+(rs.flatMap jQ).length<=(ay g).length+(aS g).length->∀p∈jP (ay g) (aS g) b rs,(b<=p.left/\p.left<b+(rs.flatMap jQ).length)/\p.right.length<=2002/\∀s∈p.right,s<(ay g).length+(aS g).length
 | [],_,_,_,p,a=>by cases a
 |r::rs,b,hin,hb,p,a=>by
  have f:=Fj r;rw[eh,cH]at hb|-;rcases cY.1 a with a|a
  ·obtain⟨h1,h2⟩:=aji c (hin r ed) (b:=b) (by omega) p a
   exact⟨by omega,h2⟩
  ·obtain⟨h1,h2⟩:=ZG c rs (b+1+(bC 9 r.alts).length) (fun q d=>hin q (ei _ d)) (by omega) p a
   exact⟨by omega,h2⟩
theorem aaK{g:Gr}(a:Fit g):1<=(g.rules.flatMap jQ).length:=by
 have:=a.ne;cases hr:g.rules with
 |nil=>rw[hr]at this;simp at this
 |cons r rs=>
  rw[eh,cH];have:=Fj r;omega
theorem FJ{g:Gr}(b:Fit g):∀p∈aJ g,((ay g).length<=p.left/\p.left<(ay g).length+(aS g).length)/\p.right.length<=2002/\∀s∈p.right,s<(ay g).length+(aS g).length:=by
 intro p a;have h1:=Ni g;have h2:=aaK b;unfold aJ at a;rcases eC.1 a with rfl|a
 ·refine⟨⟨zL0,by show (ay g).length<_;omega⟩,by simp,fun s d=>?_⟩
  rw[cN.1 d];omega
 ·obtain⟨h3,h4⟩:=ZG b g.rules _ (fun r c=>c) (by omega) p a
  exact⟨by omega,h4⟩
end Lx
theorem akI{g:Lx.Gr}(b:Lx.Fit g):ad3 g:=by
 have h:=FJ b;exact⟨fun p a=>⟨(h p a).1.2,(h p a).2.2⟩,by have:=b.xE;have:=b.Cg;omega,fun p a=>by have:=(h p a).2.1;omega⟩
namespace Lx
theorem Ir(a:ByteArray):∀(bs l:List ByteArray),∃R,fZ (a::l) bs=a::R
 | [],l=>⟨l,rfl⟩
 |b::bs,l=>by
  show ∃R,fZ (jJ (a::l) b) bs=a::R;unfold jJ
  split
  ·exact Ir a bs l
  ·exact Ir a bs (l++[b])
theorem acA{a:ByteArray}{R:List ByteArray}{b:ByteArray}(h:a≠b):0<fix (a::R) b:=by
 unfold fix;rw[List.findIdx_cons];simp[h]
theorem Tc(g:Gr){b:ByteArray}(h:isToken b=true):0<fix (ay g) b:=by
 obtain⟨R,e⟩:=Ir jX (lM g++g.rules.flatMap fun r=>tH 9 r.alts) [];unfold ay;rw[e];refine acA fun e=>?_
 subst e;exact absurd h (by decide)
theorem acB(g:Gr){b:ByteArray}(h:isName b=true):0<fix (aS g) b:=acA (abm h)
theorem abB(g:Gr):0<(ay g).length:=by
 obtain⟨R,e⟩:=Ir jX (lM g++g.rules.flatMap fun r=>tH 9 r.alts) [];unfold ay;rw[e];simp
theorem amW{g:Gr}{H:List It}{b:Nat}{x:It}(d:tL x)(f:(ay g).length<b)(a:DW (ay g) (aS g) H x):0<yY (ay g) (aS g) b H x/\yY (ay g) (aS g) b H x≠(ay g).length:=by
 unfold yY
 split
 ·omega
 ·rename_i c
  unfold DW at a;rw[dt c]at a;unfold xD;unfold Af at a;rcases d with ⟨k,h1,-⟩|⟨k,h1,-⟩|k
  ·rw[dt (by omega)]
   have:=acB g h1;omega
  ·rw[dj k]at a|-
   have:=Tc g h1;have:=Jw a;omega
  ·exact absurd (by unfold hlp;simp[k]) c
theorem al7{g:Gr}{x:It}(c:tL x)(b:x.kind≠2)(a:Af (ay g) (aS g) x):0<xD (ay g) (aS g) x/\xD (ay g) (aS g) x≠(ay g).length:=by
 unfold xD;unfold Af at a;rcases c with ⟨k,h1,-⟩|⟨k,h1,-⟩|k
 ·rw[dt (by omega)]
  have:=acB g h1;omega
 ·rw[dj k]at a|-
  have:=Tc g h1;have:=Jw a;omega
 ·exact absurd k b
theorem Rm(n:Nat):∀(r:List Nat)(p:Int),r.foldl (fun p s=>if s<n then (s:Int) else p) p=p\/∃s∈r,s<n/\r.foldl (fun p s=>if s<n then (s:Int) else p) p=(s:Int)
 | [],p=>.inl rfl
 |s::r,p=>by
  rw[qT]
  by_cases h:s<n
  ·rw[dj h]
   rcases Rm n r (s:Int) with e|⟨u,a,h1,h2⟩
   ·exact .inr ⟨s,ed,h,e⟩
   ·exact .inr ⟨u,ei _ a,h1,h2⟩
  ·rw[dt h]
   rcases Rm n r p with e|⟨u,a,h1,h2⟩
   ·exact .inl e
   ·exact .inr ⟨u,ei _ a,h1,h2⟩
def adu(t n:Nat)(p:Pd):Prop:=(t<=p.left/\p.left<n)/\(∀s∈p.right,0<s/\s<n/\s≠t)/\-1<=p.prec/\p.prec<(t:Int)/\p.prec≠0
theorem aaL{t:Nat}(b:0<t){r:List Nat}(h:∀s∈r,0<s):-1<=o9 t r/\o9 t r<(t:Int)/\o9 t r≠0:=by
 unfold o9;rcases Rm t r (-1) with e|⟨s,a,h1,e⟩
 ·rw[e];omega
 ·rw[e]
  have:=h s a;omega
theorem RU{t n s:Nat}(b:0<t){r:List Nat}(a:t<=s/\s<n)(h:∀s∈r,0<s/\s<n/\s≠t):adu t n (bS t s r):=⟨a,h,aaL b fun s a=>(h s a).1⟩
theorem ahZ{n s m:Nat}{b:List (List Nat)}{p:Pd}:p∈ou n s m b↔((m=42\/m=63)/\p=bS n s [])\/(m≠42/\∃r∈b,p=bS n s r)\/((m=42\/m=43)/\∃r∈b,p=bS n s (s::r)):=by
 unfold ou;rw[cY,cY];refine or_congr ?_ (or_congr ?_ ?_)
 ·split
  ·rename_i h;simp[h]
  ·rename_i h;simp[h]
 ·split
  ·rename_i h;simp[h]
  ·rename_i h
   rw[ee];exact⟨fun⟨r,a,e⟩=>⟨h,r,a,e.symm⟩,fun⟨_,r,a,e⟩=>⟨r,a,e.symm⟩⟩
 ·split
  ·rename_i h
   rw[ee];exact⟨fun⟨r,a,e⟩=>⟨h,r,a,e.symm⟩,fun⟨_,r,a,e⟩=>⟨r,a,e.symm⟩⟩
  ·rename_i h;simp[h]
theorem YS{T N:List ByteArray}{b:Nat}{H:List It}{p:Pd}:∀(l:List It)(k:Nat),p∈oV T N b H k l↔∃i,∃hi:i<l.length,p∈ou T.length (b+1+(k+i)) l[i].mark (partsOf T N b H l[i])
 | [],k=>by simp[oV]
 |x::l,k=>by
  rw[oV,cY,YS l (k+1)];constructor
  ·rintro(h | ⟨i,hi,h⟩)
   ·exact⟨0,by simp,h⟩
   ·exact⟨i+1,by simpa using hi,by rw[show k+(i+1)=k+1+i by omega];exact h⟩
  ·rintro⟨i,hi,h⟩
   cases i with
   |zero=>exact .inl h
   |succ i=>exact .inr ⟨i,by simpa using hi,by rw[show k+1+i=k+(i+1) by omega];exact h⟩
theorem ah0{T N:List ByteArray}{b:Nat}{r:Rl}{p:Pd}:p∈tu T N b r↔(∃a∈r.alts,p=rY T N b (bC 9 r.alts) a)\/∃k,∃hk:k<(bC 9 r.alts).length,p∈ou T.length (b+1+k) (bC 9 r.alts)[k].mark (partsOf T N b (bC 9 r.alts) (bC 9 r.alts)[k]):=by
 unfold tu;rw[cY,ee,YS];refine or_congr ⟨fun⟨a,c,e⟩=>⟨a,c,e.symm⟩,fun⟨a,c,e⟩=>⟨a,c,e.symm⟩⟩ ?_;simp only[Nat.zero_add]
def qV(b:Nat)(rs:List Rl)(j:Nat):Nat:=b+((rs.take j).flatMap jQ).length
theorem YT{T N:List ByteArray}{p:Pd}:∀(rs:List Rl)(b:Nat),p∈jP T N b rs↔∃j,∃hj:j<rs.length,p∈tu T N (qV b rs j) rs[j]
 | [],b=>by simp[jP]
 |r::rs,b=>by
  rw[jP,cY,YT rs];have a:∀j,qV b (r::rs) (j+1)=qV (b+1+(bC 9 r.alts).length) rs j:=fun j=>by
   unfold qV;rw[List.take_succ_cons,eh,cH,Fj];omega
  constructor
  ·rintro(h | ⟨j,hj,h⟩)
   ·exact⟨0,by simp,by simpa [qV]using h⟩
   ·exact⟨j+1,by simpa using hj,by rw[a];exact h⟩
  ·rintro⟨j,hj,h⟩
   cases j with
   |zero=>exact .inl (by simpa [qV]using h)
   |succ j=>exact .inr ⟨j,by simpa using hj,by rw[<-a];exact h⟩
section
variable{g:Gr}
theorem acC(_hf:Fit g){j:Nat}(a:j<g.rules.length):(ay g).length<qV ((ay g).length+1) g.rules j/\qV ((ay g).length+1) g.rules j+1+(bC 9 g.rules[j].alts).length<=(ay g).length+(aS g).length:=by
 have h1:=Ni g;have h2:(g.rules.flatMap jQ).length=((g.rules.take j).flatMap jQ).length+((g.rules.drop j).flatMap jQ).length:=by
  rw[<-cH,<-gw,mA]
 rw[eR a,eh,cH,Fj]at h2;unfold qV;omega
theorem ZH(a:Fit g){j:Nat}(f:j<g.rules.length){its:List It}(h:∀x∈its,x∈dm 9 g.rules[j].alts):∀s∈nD (ay g) (aS g) (qV ((ay g).length+1) g.rules j) (bC 9 g.rules[j].alts) its,0<s/\s<(ay g).length+(aS g).length/\s≠(ay g).length:=by
 intro s i;obtain⟨x,c,rfl⟩:=ee.1 i;have b:g.rules[j]∈g.rules:=du f;have d:=acC a f;have h1:=amW ((a.rl _ b).2.1 x (h x c)) d.1 (a.sym b (h x c));exact⟨h1.1,aby (a.sym b (h x c)) d.2,h1.2⟩
theorem ah1(b:Fit g){j:Nat}(k:j<g.rules.length){x:It}(f:x∈dm 9 g.rules[j].alts):∀r∈partsOf (ay g) (aS g) (qV ((ay g).length+1) g.rules j) (bC 9 g.rules[j].alts) x,∀s∈r,0<s/\s<(ay g).length+(aS g).length/\s≠(ay g).length:=by
 intro r c;have d:g.rules[j]∈g.rules:=du k;unfold partsOf at c
 split at c
 ·obtain⟨a,l,rfl⟩:=ee.1 c
  exact ZH b k fun y n=>SE (b.dp _ d) f l n
 ·rename_i i
  rw[cN.1 c];intro s m;rw[cN.1 m];have h1:=al7 ((b.rl _ d).2.1 x f) i (b.plain d f i);exact⟨h1.1,Ta (b.plain d f i),h1.2⟩
theorem aaM(f:Fit g):∀p∈aJ g,adu (ay g).length ((ay g).length+(aS g).length) p:=by
 intro p c;have l:=abB g;unfold aJ at c;rcases eC.1 c with rfl|c
 ·have h1:=Ni g
  have h2:=aaK f;refine⟨⟨zL0,by show (ay g).length<_;omega⟩,fun s b=>?_,by show (-1:Int)<=-1;omega,by show (-1:Int)<_;omega,by show (-1:Int)≠0;omega⟩;rw[cN.1 b];omega
 ·obtain⟨j,m,c⟩:=(YT _ _).1 c
  have z:=acC f m;have q:g.rules[j]∈g.rules:=du m;rcases ah0.1 c with ⟨a,o,rfl⟩|⟨k,u,c⟩
  ·have i:=ZH f m (its:=a.1) fun x y=>abA o y 8
   refine⟨⟨by show _<=qV _ _ _;omega,by show qV _ _ _<_;omega⟩,i,?_⟩;unfold rY;simp only
   split
   ·exact aaL l fun s b=>(i s b).1
   ·rename_i t
    have h1:=f.prec q o t;have h2:=Jw h1;have h3:isToken a.2.1=true:=by
     rcases (f.rl _ q).2.2 a o with h|h
     ·exact absurd h t
     ·exact h
    have h4:=Tc g h3;omega
  ·have v:(bC 9 g.rules[j].alts)[k]∈dm 9 g.rules[j].alts:=abz (du u)
   have i:=ah1 f m v;have b:(ay g).length<=qV ((ay g).length+1) g.rules j+1+k/\qV ((ay g).length+1) g.rules j+1+k<(ay g).length+(aS g).length:=by omega
   rcases ahZ.1 c with ⟨-,rfl⟩|⟨-,r,n,rfl⟩|⟨-,r,n,rfl⟩
   ·exact RU l b fun s b=>by cases b
   ·exact RU l b (i r n)
   ·refine RU l b fun s d=>?_
    rcases eC.1 d with rfl|d
    ·omega
    ·exact i r n s d
end
structure nV(P:List Pd)(sz st:Nat):Prop where
 len:P.length<=200
 pos:0<P.length
 PZ:∀p∈P,p.right.length<=2002
 sym:∀p∈P,∀s∈p.right,s<sz/\s≠st
 lft:∀p∈P,p.left<sz
 fst:P[0]?.map Pd.left=some st
 szm:sz<=100000
theorem TK{P:List Pd}{s:au}{n:Nat}(h:dQ P s=some n):s.1<P.length/\s.2<(bM P s.1).length:=by
 unfold dQ at h;have h2:=(cG.1 h).1;refine⟨?_,h2⟩;apply kj;intro a;unfold bM at h2;rw[ju (by omega)]at h2;simp at h2
theorem ND{P:List Pd}{sz st:Nat}(a:nV P sz st){s:au}{n:Nat}(h:dQ P s=some n):n<sz/\n≠st:=by
 have h1:=(TK h).1;unfold dQ bM at h;rw[cF h1]at h;exact a.sym _ (du h1) n (cJ h)
theorem acD{P:List Pd}{sz st:Nat}(a:nV P sz st)(k:Nat):(bM P k).length<=2002:=by
 unfold bM;cases h:P[k]? with
 |none=>simp
 |some p=>exact a.PZ p (cJ h)
theorem nV.aeW{P:List Pd}{sz st:Nat}(a:nV P sz st):OE P st:=fun _ _ h=>(ND a h).2
structure sO(P:List Pd)(i:Nat)(K:List au):Prop where
 Bd:∀s∈K,s.1<P.length/\s.2<=(bM P s.1).length/\(s.2=0->s.1=0)
 len:K.length<=1+i*200
theorem acE{P:List Pd}{n:Nat}:∀(C o:List au),(C.foldl (zi P n) o).length<=o.length+C.length
 | [],o=>by simp
 |s::C,o=>by
  rw[qT];have h1:=acE (P:=P) (n:=n) C (zi P n o s);have h2:=akC (P:=P) (n:=n) (o:=o) (s:=s);simp only[List.length_cons];omega
theorem sO.jk{P:List Pd}{sz st:Nat}(a:nV P sz st){i:Nat}{K:List au}(h:sO P i K)(n:Nat){j:Nat}(c:i<j):sO P j (jk P K n):=by
 refine⟨fun s b=>?_,?_⟩
 ·obtain⟨t,-,h1,rfl⟩:=DK.1 b
  obtain⟨h2,h3⟩:=TK h1;exact⟨h2,h3,fun e=>absurd e (Nat.succ_ne_zero _)⟩
 ·have h1:=acE (P:=P) (n:=n) (jE P K) []
  have h2:=al6 P K;have h3:=h.len;have h4:=a.len;have:(Lx.jk P K n).length<=[].length+(jE P K).length:=h1;simp only[List.length_nil]at this;omega
theorem sO.zero{P:List Pd}{sz st:Nat}(a:nV P sz st){i:Nat}{K:List au}(h:sO P i K):∀s∈K,s.2=0->P[s.1]?.map Pd.left=some st:=fun s b e=>by rw[(h.Bd s b).2.2 e];exact a.fst
theorem sO.first{P:List Pd}{sz st:Nat}(b:nV P sz st):sO P 0 [(0,0)]:=by
 refine⟨fun s a=>?_,by simp⟩;rw[cN]at a;subst a;exact⟨b.pos,ff _,fun _=>rfl⟩
def sP(P:List Pd)(S:bF):Prop:=∀j K,S.ks[j]?=some K->sO P j K
theorem sP.first{P:List Pd}{sz st:Nat}(a:nV P sz st):sP P ⟨[[(0,0)]],[]⟩:=by
 intro j K h;cases j with
 |zero=>cases h;exact sO.first a
 |succ j=>simp at h
theorem sP.edge{P:List Pd}{sz st:Nat}(f:nV P sz st){S:bF}(h:sP P S){i:Nat}{K:List au}(c:S.ks[i]?=some K)(n:Nat):sP P (edge P i K S n):=by
 unfold Lx.edge
 split
 ·exact h
 ·split
  ·exact h
  ·intro j k a
   rw[ir]at a
   split at a
   ·exact h j k a
   ·rename_i g
    have d:=(cG.1 c).1;have b:j=S.ks.length:=by
     have:=(cG.1 a).1;simp at this;omega
    subst b;simp at a;subst a;exact(h i K c).jk f n d
theorem acF{P:List Pd}{i:Nat}{K:List au}{S:bF}{n j:Nat}{b:List au}(h:S.ks[j]?=some b):(edge P i K S n).ks[j]?=some b:=by
 obtain⟨a,c⟩:=aje (P:=P) (i:=i) (K:=K) (S:=S) (n:=n);rw[c,eL (cG.1 h).1];exact h
theorem akJ{P:List Pd}{i:Nat}{K:List au}{S:bF}{n:Nat}:(edge P i K S n).ks.length<=S.ks.length+1/\(edge P i K S n).es.length<=S.es.length+1:=by
 unfold edge
 split
 ·exact⟨by omega,by omega⟩
 ·split
  ·simp
  ·simp
theorem ajj{P:List Pd}{sz i:Nat}{S:bF}{K:List au}(b:i<=300)(a:S.ks[i]?=some K):tZ P sz (302-i) i S=if 300<(leave P i K S (List.range sz)).ks.length then none else tZ P sz (302 - (i+1)) (i+1) (leave P i K S (List.range sz)):=by
 obtain⟨h1,h2⟩:=cG.1 a;rw[show 302-i=(302 - (i+1))+1 by omega,tZ,dif_pos h1,h2]
theorem akK{P:List Pd}{sz i:Nat}{S:bF}(a:i<=300)(b:S.ks.length<=i):tZ P sz (302-i) i S=some S:=by
 rw[show 302-i=(302 - (i+1))+1 by omega,tZ,dif_neg (by omega)]
theorem akL{l:List (List au)}{k:List au}(h:∀(j:Nat)(x:List au),l[j]?=some x->x≠k):jl l k=l.length:=by
 unfold jl;rw[List.findIdx_eq_length];intro x a;obtain⟨j,b⟩:=eS.1 a;simpa using h j x b
end Lx
theorem adv{g:Lx.Gr}(a:Lx.Fit g)(d:(aJ g).length<=200):nV (aJ g) ((ay g).length+(aS g).length) (ay g).length:=by
 refine⟨d,by simp[aJ],fun p b=>(FJ a p b).2.1,fun p b s c=>⟨(FJ a p b).2.2 s c,((aaM a p b).2.1 s c).2.2⟩,fun p b=>(FJ a p b).1.2,rfl,by have:=a.xE;have:=a.Cg;omega⟩
theorem amX{w:World}{B B' e j z k:Nat}{v i:Value}{n q:Nat}{m d:List Value}(h:w.ownsRow B e z v n m)(l:w.ownsRow B' j k i q d)(f:e≠j){g:Nat}(o:v.ownBlock=some g):i.ownBlock≠some g:=by
 intro b;obtain⟨c,p⟩:=gQ h o;obtain⟨r,a⟩:=gQ l b;rw[p]at a;injection a with a
 injection a with _ h2
 exact f h2
theorem Fx{w w':World}{B B' e i z j:Nat}{v f:Value}{n m:Nat}{d b:List Value}(h:w.ownsRow B e z v n d)(k:w.ownsRow B' i j f m b)(c:e≠i)(l:w.grownBy w' f.ownBlock):w'.ownsRow B e z v n d :=
 aD h fun g a=>l.block g (qt h g a).2 (fun e=>amX h k c a e.symm)
def Lm(x:Option Addr×Nat×Nat):Value:=.slice x.1 x.2.1 x.2.2
def Lp(x:(Option Addr×Nat×Nat)×List au):List Value:=[Lm x.1]
theorem adw:uR Lp 1:=⟨fun _=>rfl,fun x u a=>by simp only[Lp,List.mem_singleton]at a;subst a;rfl⟩
def jA(S T B:Nat)(w:World)(v:Value)(ks:List (List au)):Prop:=∃xs:List ((Option Addr×Nat×Nat)×List au),xs.map Prod.snd=ks/\aQ S 1 Lp B w v xs/\∀x∈xs,aQ T 2 iI B w (Lm x.1) x.2
theorem jA.len{S T B:Nat}{w:World}{v:Value}{ks:List (List au)}(h:jA S T B w v ks):∃a c,v=.slice a ks.length c/\ks.length<=maxLen:=by
 obtain⟨b,rfl,h2,-⟩:=h;rw[dk];exact aC h2
theorem jA.below{S T B:Nat}{w w':World}{v:Value}{ks:List (List au)}(h:jA S T B w v ks)(a:Below w.heap.size w w'):jA S T B w' v ks:=by
 obtain⟨c,h1,h2,h3⟩:=h;exact⟨c,h1,h2.below a,fun x b=>(h3 x b).below a⟩
theorem jA.grown{S T B B' e z n:Nat}{w w':World}{v c:Value}{d:List Value}{ks:List (List au)}(h:jA S T B w v ks)(a:w.ownsRow B' e z c n d)(j:S≠e)(g:T≠e)(b:w.grownBy w' c.ownBlock):jA S T B w' v ks:=by
 obtain⟨f,h1,h2,h3⟩:=h;exact⟨f,h1,Fx h2 a j b,fun x i=>Fx (h3 x i) a g b⟩
theorem jA.at{S T B:Nat}{w:World}{v:Value}{ks:List (List au)}(h:jA S T B w v ks){j:Nat}{K:List au}(i:ks[j]?=some K):∃g cap a c,v=.slice (some ⟨g,0,none⟩) ks.length cap/\g<w.heap.size/\w.cell? ⟨g,j,none⟩=some (.slice a K.length c)/\aQ T 2 iI B w (.slice a K.length c) K:=by
 obtain⟨n,rfl,h2,h3⟩:=h;rw[di]at i;obtain⟨x,hx,rfl⟩:=m8.1 i;obtain⟨b,d⟩:=cG.1 hx;obtain⟨g,cap,m,-,l,k⟩:=aQ.at adw h2 b;have h4:=h3 x (cJ hx);obtain⟨a,c,f,-⟩:=aC h4;rw[f]at h4;refine⟨g,cap,a,c,by rw[dk];exact m,l,?_,h4⟩;have:=k 0 (Lm x.1) (by decide) (by rw[d];rfl);rw[j9,mn,f]at this;exact this
theorem jA.push{S T B:Nat}{w w':World}{v f:Value}{b:List ((Option Addr×Nat×Nat)×List au)}{x:(Option Addr×Nat×Nat)×List au}(h2:aQ S 1 Lp B w v b)(h3:∀x∈b,aQ T 2 iI B w (Lm x.1) x.2)(g:aQ T 2 iI B w (Lm x.1) x.2)(c:T≠S)(d:w.grownBy w' v.ownBlock)(i:aQ S 1 Lp B w' f (b++[x])):jA S T B w' f (b.map Prod.snd++[x.2]):=by
 refine⟨b++[x],by simp,i,fun y a=>?_⟩;rcases cY.1 a with a|a
 ·exact Fx (h3 y a) h2 c d
 ·rw[cN]at a
  subst a;exact Fx g h2 c d
def vE(e:Lj):List Value:=[.int .i64 (e.1:Int),.int .i64 (e.2.1:Int),.int .i64 (e.2.2:Int)]
theorem al8{w:World}{B g e k:Nat}{cs:Array Value}(h:aj w g cs e)(b:B<=g)(a:cs.size=k):w.ownsRow B e k (.slice (some ⟨g,0,none⟩) 1 1) 1 cs.toList:=by
 refine⟨by rw[tj,<-a];rfl,.inr ⟨g,1,cs,rfl,b,h,zL0,by unfold maxLen;omega,by omega,?_⟩⟩;rw[tj,<-a];exact fR
theorem jA.le{S T B B':Nat}{w:World}{v:Value}{ks:List (List au)}(h:jA S T B w v ks)(a:B'<=B):jA S T B' w v ks:=by
 obtain⟨c,h1,h2,h3⟩:=h;exact⟨c,h1,jb h2 a,fun x b=>jb (h3 x b) a⟩
structure Jy(c:aZ)(st:Nat)(S:bL)(s:Nat×Nat)(p:Nat)(S':bL):Prop where
 at':S'.st[p]?=some s
 or:(S'.st=S.st/\S'.ss=S.ss/\S'.ws=S.ws/\S'.wq=S.wq)\/(s∉S.st/\S'.st=S.st++[s]/\S'.ss=S.ss++[uE st c.nT s]/\S'.ws=S.ws++[true]/\S'.wq=S.wq++[p])
theorem Tryz.al9:(prog.info? 212).map (fun i=>(i.zero,i.size,i.bytes))=some (some (.agg #[.int .i64 0,.int .i64 0]),2,16):=by kernel_rfl
theorem Tryz.Td:(prog.info? 214).map (fun i=>(i.zero,i.size,i.bytes))=some (some (.slice none 0 0),1,24):=by kernel_rfl
theorem Tryz.amY:prog.underlying 151=some (.slice 212):=by kernel_rfl
theorem Tryz.adx:prog.underlying 149=some (.slice 214):=by kernel_rfl
theorem Tryz.amZ:prog.underlying 142=some (.slice 4):=by kernel_rfl
section
variable{c:aZ}{w0:World}{F:Nat -> Prop}{B:Nat}{W W1:World}{S:bL}{mp:List (Nat×Nat)}
theorem dh.Ue(Q:dh c w0 F B W S mp){t:Nat}(f:t≠277)(kp:∀{k u:Nat},pI W k u->u≠t->W1.heap[k]?=W.heap[k]?)(i g:Nat)(hi:S.gs[i]?=some g):B<=g/\∃ws,S.ss[i]?=some ws/\TS W1 g ws/\ws.length=c.nw:=by
 obtain⟨b,ws,j,d,a⟩:=Q.sets i g hi;exact⟨b,ws,j,d.move (kp (Q.kG (cJ hi)) (vj f)),a⟩
theorem Te{k:Nat}{v a:Value}(b:a.ownBlock=some k)(f:v.ownBlock=a.ownBlock\/∃g,a.ownBlock=some g/\W.heap.size<=g):v.ownBlock=some k\/W.heap.size<=k:=by
 rcases f with h|⟨g,h,d⟩
 ·exact .inl (h.trans b)
 ·rw[h]at b
  cases b;exact .inr d
theorem dh.anv(d:mY c w0 F B)(Q:dh c w0 F B W S mp){a:Value}(s:Nat×Nat)(b:W.grownBy W1 S.vS.ownBlock)(l:W1.ownsRow B 212 2 a (S.st.length+1) (S.st.flatMap zF++zF s))(j:S.vS.ownBlock=a.ownBlock\/∃g,a.ownBlock=some g/\W.heap.size<=g):dh c w0 F B (W1.setCell ⟨c.lb,9,none⟩ a) { S with vS:=a,st:=S.st++[s] } mp/\qm c W S (W1.setCell ⟨c.lb,9,none⟩ a) { S with vS:=a,st:=S.st++[s] }:=by
 obtain⟨i,kp,f⟩:=Q.but d (v:=S.vS) (t:=212) (fun g e=>⟨Q.kS e,(Q.rS.lt g e).1⟩) b;refine⟨dh.stored d i ((kp Q.kL (by decide)).trans Q.blk) rfl (by simpa using l) (aD Q.rA fun g e=>kp (Q.kA e) (by decide)) (Q.rQ.move fun g e=>kp (Q.kQ e) (by decide)) (aD Q.rW fun g e=>kp (Q.kW e) (by decide)) f (Q.Ue (by decide) kp) Q.qj (de Q.big b.size),qm.stored (v:=S.vS) (fun g e=>.inr (.inr (.inl e))) b fun k e=>?_⟩;rcases e with e|e|e|e
 ·exact .inl (.inl e)
 ·exact .inl (.inr (.inl e))
 ·exact(Te e j).imp (fun e=>.inr (.inr (.inl e))) id
 ·exact .inl (.inr (.inr (.inr e)))
theorem dh.anw(f:mY c w0 F B)(Q:dh c w0 F B W S mp){a:Value}(b:Bool)(d:W.grownBy W1 S.vW.ownBlock)(m:W1.ownsRow B 4 1 a (S.ws.length+1) (S.ws.map Value.bool++[.bool b]))(l:S.vW.ownBlock=a.ownBlock\/∃g,a.ownBlock=some g/\W.heap.size<=g):dh c w0 F B (W1.setCell ⟨c.lb,12,none⟩ a) { S with vW:=a,ws:=S.ws++[b] } mp/\qm c W S (W1.setCell ⟨c.lb,12,none⟩ a) { S with vW:=a,ws:=S.ws++[b] }:=by
 obtain⟨j,kp,i⟩:=Q.but f (v:=S.vW) (t:=4) (fun g e=>⟨Q.kW e,(Q.rW.lt g e).1⟩) d;refine⟨dh.stored f j ((kp Q.kL (by decide)).trans Q.blk) rfl (aD Q.rS fun g e=>kp (Q.kS e) (by decide)) (aD Q.rA fun g e=>kp (Q.kA e) (by decide)) (Q.rQ.move fun g e=>kp (Q.kQ e) (by decide)) (by simpa using m) i (Q.Ue (by decide) kp) Q.qj (de Q.big d.size),qm.stored (v:=S.vW) (fun g e=>.inr (.inr (.inr (.inr (.inr (.inl e)))))) d fun k e=>?_⟩;rcases e with e|e|e|e|e|e|e
 ·exact .inl (.inl e)
 ·exact .inl (.inr (.inl e))
 ·exact .inl (.inr (.inr (.inl e)))
 ·exact .inl (.inr (.inr (.inr (.inl e))))
 ·exact .inl (.inr (.inr (.inr (.inr (.inl e)))))
 ·exact(Te e l).imp (fun e=>.inr (.inr (.inr (.inr (.inr (.inl e)))))) id
 ·exact .inl (.inr (.inr (.inr (.inr (.inr (.inr e))))))
theorem dh.anx(m:mY c w0 F B)(Q:dh c w0 F B W S mp){f:Value}{g:Nat}{x:List Nat}(J:W.heap.size<=g)(H:x.length=c.nw)(u:S.ss.length=S.gs.length)(j:W.grownBy W1 S.vA.ownBlock)(s:TS W1 g x)(C:W1.ownsRow B 214 1 f (S.gs.length+1) (S.gs.map (gX c.nw)++[gX c.nw g]))(I:S.vA.ownBlock=f.ownBlock\/∃g,f.ownBlock=some g/\W.heap.size<=g):dh c w0 F B (W1.setCell ⟨c.lb,10,none⟩ f) { S with vA:=f,gs:=S.gs++[g],ss:=S.ss++[x] } mp/\qm c W S (W1.setCell ⟨c.lb,10,none⟩ f) { S with vA:=f,gs:=S.gs++[g],ss:=S.ss++[x] }:=by
 obtain⟨E,kp,n⟩:=Q.but m (v:=S.vA) (t:=214) (fun g e=>⟨Q.kA e,(Q.rA.lt g e).1⟩) j;refine⟨dh.stored m E ((kp Q.kL (by decide)).trans Q.blk) rfl (aD Q.rS fun g e=>kp (Q.kS e) (by decide)) (by simpa using C) (Q.rQ.move fun g e=>kp (Q.kQ e) (by decide)) (aD Q.rW fun g e=>kp (Q.kW e) (by decide)) n (fun i k o=>?_) ?_ (de Q.big j.size),qm.stored (v:=S.vA) (fun g e=>.inr (.inr (.inr (.inl e)))) j fun k e=>?_⟩
 ·have d:(S.gs++[g])[i]?=some k:=o
  rw[ir]at d
  split at d
  ·rename_i z
   obtain⟨q,A,y,D,G⟩:=Q.Ue (W1:=W1) (by decide) kp i k d;exact⟨q,A,by show (S.ss++[x])[i]?=_;rw[eL (by omega)];exact y,D,G⟩
  ·rename_i z
   have p:i-S.gs.length=0:=by
    have:=(cG.1 d).1;simp at this;omega
   rw[p]at d;cases d;exact⟨de Q.big J,x,by show (S.ss++[x])[i]?=_;rw[eN (by omega),show i-S.ss.length=0 by omega];rfl,s,H⟩
 ·show (S.gs++[g]).Nodup
  rw[ip];exact⟨Q.qj,by simp,fun a r b l=>by
   rw[cN]at l;subst l;have:=Q.yU (k:=a) (.inr (.inr (.inr (.inr (.inr (.inr r))))));omega⟩
 ·rcases e with e | e | e | e | e | e | e
  ·exact .inl (.inl e)
  ·exact .inl (.inr (.inl e))
  ·exact .inl (.inr (.inr (.inl e)))
  ·exact(Te e I).imp (fun e=>.inr (.inr (.inr (.inl e)))) id
  ·exact .inl (.inr (.inr (.inr (.inr (.inl e)))))
  ·exact .inl (.inr (.inr (.inr (.inr (.inr (.inl e))))))
  ·rcases cY.1 (show k∈S.gs++[g] from e) with e | e
   ·exact .inl (.inr (.inr (.inr (.inr (.inr (.inr e))))))
   ·rw[cN]at e;exact .inr (by omega)
theorem aaN(N:mY c w0 F B)(h:jT c w0 F B W S){st:Nat}(hs:c.st0 st)(a5:S.st.Nodup)(s:Nat×Nat)(hm:S.st.length<=900000/\S.wq.length<=900000):Calls prog 94 #[.pointer (some ⟨c.lb,0,none⟩),.agg #[.int .i64 (s.1:Int),.int .i64 (s.2:Int)]] W fun e W'=>∃(p:Nat)(S':bL),e=.returned (.int .i64 (p:Int))/\bn c w0 F B W S W' S'/\Jy c st S s p S':=by
 obtain⟨W1,u⟩:∃V,V=W.alloc (.cells #[.int .i64 (s.1:Int),.int .i64 (s.2:Int)] 212):=⟨_,rfl⟩;have D:Below W.heap.size W W1:=by rw[u];exact(cV _ _).alloc (zL0) _
 have q:W1.heap.size=W.heap.size+1:=by rw[u];simp
 have kB:aj W1 W.heap.size #[.int .i64 (s.1:Int),.int .i64 (s.2:Int)] 212:=by rw[u];exact aj.new ..
 have O:bn c w0 F B W S W1 S:=bn.move h (fun k o=>D.block k o) N (by omega) ⟨D.1,D.2,D.3⟩;have R:W1.cell? ⟨W.heap.size,0,none⟩=some (.int .i64 (s.1:Int)):=kB.cell 0;have Q:W1.cell? ⟨W.heap.size,1,none⟩=some (.int .i64 (s.2:Int)):=kB.cell 1;have d8:W1.cell? ⟨c.lb,8,none⟩=some (.map (some c.pm)):=O.m.blk.cell 8;obtain⟨n,aw⟩:∃b,W.heap.size=b:=⟨_,rfl⟩;have A:¬S.own c n:=fun e=>by have:=h.yU e;omega
 rw[aw]at R Q kB
 by_cases hin:s∈S.st
 ·obtain⟨p,hp⟩:=eS.1 hin
  have lk:∀j,(Instr.lookup 145 (.map (some c.pm)) (.agg #[.int .i64 (s.1:Int),.int .i64 (s.2:Int)]) true).run prog (W1.drewN j)=.ok (.tuple #[.int .i64 (p:Int),.bool true]) (W1.drewN j):=fun j=>iy.hit (w:=W1.drewN j) Tryz.JG Tryz.Jt (O.m.map.move rfl) a5 hp
  have HT:Hid (∀j,bn c w0 F B W S (W1.drewN j) S):=fun j=>O.trans (bn.move O.m (fun _ _=>rfl) N (zL0) ⟨rfl,rfl,rfl⟩)
  have HP:Hid (Jy c st S s p S):=⟨hp,.inl ⟨rfl,rfl,rfl,rfl⟩⟩;clear O D kB q hin hp;go_enter func94,ntmps94;go_upto_region 1 with fail
  rw[<-u];clear u
  go_quiet (fail)
  go_wp2_with fail;go_ret;exact⟨p,S,rfl,HT.out _,HP.out⟩
 ·have lk:∀j,(Instr.lookup 145 (.map (some c.pm)) (.agg #[.int .i64 (s.1:Int),.int .i64 (s.2:Int)]) true).run prog (W1.drewN j)=.ok (.tuple #[.int .i64 0,.bool false]) (W1.drewN j):=fun j=>iy.miss (w:=W1.drewN j) Tryz.JG Tryz.Jt Tryz.F5 (O.m.map.move rfl) hin
  have HT:Hid (∀j,bn c w0 F B W S (W1.drewN j) S):=fun j=>O.trans (bn.move O.m (fun _ _=>rfl) N (zL0) ⟨rfl,rfl,rfl⟩)
  have HB:Hid (∀j,aj (W1.drewN j) n #[.int .i64 (s.1:Int),.int .i64 (s.2:Int)] 212):=fun j=>kB
  clear O D kB q;go_enter func94,ntmps94;go_upto_region 1 with fail
  rw[<-u];clear u
  go_quiet (fail)
  have T2:=HT.out nq;have kB:=HB.out nq;clear HT HB lk R Q d8;generalize W1.drewN nq=W2 at T2 kB|-;have f:=T2.m;obtain⟨sa,sc,zI,a9⟩:=aC f.rS;have d9:W2.cell? ⟨c.lb,9,none⟩=some (.slice sa S.st.length sc):=by rw[<-zI];exact f.blk.cell 9
  have R:W2.cell? ⟨n,0,none⟩=some (.int .i64 (s.1:Int)):=kB.cell 0;have Q:W2.cell? ⟨n,1,none⟩=some (.int .i64 (s.2:Int)):=kB.cell 1;have d8:W2.cell? ⟨c.lb,8,none⟩=some (.map (some c.pm)):=f.blk.cell 8;obtain⟨a,a0,Bf,K,X⟩:=iy.put (w:=W2.drew) Tryz.JG Tryz.Jt (f.map.move rfl) hin;unfold bE at a0;have M:∀k,k<W2.heap.size->k≠c.pm->a.heap[k]?=W2.heap[k]?:=fun k o hn=>K.block k o fun e=>hn (by cases e;rfl)
  have E:dh c w0 F B a S (S.st++[s]):=by
   have o:∀{k t:Nat},pI W2 k t->a.heap[k]?=W2.heap[k]?:=fun o=>M _ (by obtain⟨y,hy⟩:=o;exact(ek.1 hy).1) (f.J5 o)
   refine⟨fun k o=>?_,(o f.kL).trans f.blk,aD f.rS fun g e=>o (f.kS e),aD f.rA fun g e=>o (f.kA e),f.rQ.move fun g e=>o (f.kQ e),aD f.rW fun g e=>o (f.kW e),Bf,fun i g hi=>?_,f.qj,by rw[X];exact f.big⟩
   ·have hl:=N.low k o
    exact(M k (dd hl.1 f.big) hl.2.2).trans (f.keep k o)
   ·obtain⟨a1,ws,a2,a3,a4⟩:=f.sets i g hi
    exact⟨a1,ws,a2,a3.move (o (f.kG (cJ hi))),a4⟩
  have X3:qm c W S a S:=T2.x.trans ⟨fun k o A=>M k o fun e=>A (e▸.inr (.inl rfl)),fun _ e=>.inl e,by rw[X];exact zL0,K.1,K.2,K.3⟩;have r:aj a n #[.int .i64 (s.1:Int),.int .i64 (s.2:Int)] 212:=(M _ kB.lt fun e=>A (e▸.inr (.inl rfl))).trans kB;have S3:a.cell? ⟨c.lb,8,none⟩=some (.map (some c.pm))/\a.cell? ⟨n,0,none⟩=some (.int .i64 (s.1:Int))/\a.cell? ⟨n,1,none⟩=some (.int .i64 (s.2:Int)):=⟨E.blk.cell 8,r.cell 0,r.cell 1⟩;have Wu:Hid (dh c w0 F B a S (S.st++[s])):=E;have aq:Hid (qm c W S a S):=X3;have HV:Hid (S.vS=.slice sa S.st.length sc):=zI;clear Bf K X M E X3 T2 f zI;go_upto_region 5 with fail
  go_region_held3 (fun w'=>w'.cell? ⟨c.lb,8,none⟩=some (.map (some c.pm))/\w'.cell? ⟨n,0,none⟩=some (.int .i64 (s.1:Int))/\w'.cell? ⟨n,1,none⟩=some (.int .i64 (s.2:Int))) (first | go_keep | assumption | exact S3) (fail)
  have E:=Wu.out;obtain⟨i0,L,H,q,G⟩:=ft Tryz.al9;have d9:a.cell? ⟨c.lb,9,none⟩=some (.slice sa S.st.length sc):=by rw[<-HV.out];exact E.blk.cell 9
  have R:a.cell? ⟨n,0,none⟩=some (.int .i64 (s.1:Int)):=r.cell 0;have Q:a.cell? ⟨n,1,none⟩=some (.int .i64 (s.2:Int)):=r.cell 1;have l1:c.lb<a.heap.size:=E.blk.lt;have l2:n<a.heap.size:=r.lt;have o3:(a.alloc (.cells #[.int .i64 (s.1:Int),.int .i64 (s.2:Int)] 212)).drew.ownsRow B 212 2 (.slice sa S.st.length sc) S.st.length (S.st.flatMap zF):=by
   have:=E.rS;rw[HV.out]at this;exact aD (this.alloc (.cells #[.int .i64 (s.1:Int),.int .i64 (s.2:Int)] 212)) fun _ _=>rfl
  have iK:aj (a.alloc (.cells #[.int .i64 (s.1:Int),.int .i64 (s.2:Int)] 212)).drew c.lb (c.cells S) 153:=(E.blk.alloc _).drew;have ar:(Value.slice sa S.st.length sc).ownBlock≠some c.lb:=fun e=>(E.kS (HV.out▸e)).ne E.kL (by decide) rfl
  have ak:B<=(a.alloc (.cells #[.int .i64 (s.1:Int),.int .i64 (s.2:Int)] 212)).drew.heap.size:=by have:=E.big;show _<=(a.alloc _).heap.size;simp;omega
  clear E S3;go_wp2_with fail
  go_region_law (refine step_append_lies _ rfl (.tmp 33) (.tmp 35) 151 rfl B 212 i0 _ 2 16 Tryz.amY L H q G rfl (by decide) (.slice sa S.st.length sc) S.st.length (S.st.flatMap zF) (by simp[Act.eval]) o3 ⟨a.heap.size,0,none⟩ 1 1 [.int .i64 (s.1:Int),.int .i64 (s.2:Int)] (by simp[Act.eval]) rfl (eO (aj.new a _ 212).drew) (by simp[Value.oneCell']) (by decide) (by unfold maxLen;omega) (by omega) ak _ rfl ?_;intro g4 ah w4 uP oo Ef Gd;have G7:=iK.grown oo (fun e=>ar e.symm);have av:w4.cell? ⟨c.lb,9,none⟩=some S.vS:=G7.cell 9;have a6:=G7.frozen 9)
  all_goals
   obtain⟨T,Z⟩:∃v,v=Value.slice (some ⟨g4,0,none⟩) (S.st.length+1) ah:=⟨_,rfl⟩;rw[<-Z]at uP|-;have UZ:a.grownBy w4 S.vS.ownBlock:=by
    rw[HV.out];exact aR (b:=(a.alloc (.cells #[.int .i64 (s.1:Int),.int .i64 (s.2:Int)] 212)).drew) ⟨rfl,rfl,rfl,(bJ a _ none).size,fun i hi _=>dg _ _ _ hi⟩ oo
   have ac:S.vS.ownBlock=T.ownBlock\/∃g,T.ownBlock=some g/\a.heap.size<=g:=by
    rw[Z];rcases Ef with e|e
    ·exact .inl (HV.out▸e)
    ·refine .inr ⟨g4,rfl,?_⟩
     rw[e];exact(bJ a _ none).size
   obtain⟨P,X4⟩:=Wu.out.anv N s UZ uP ac;have su:aj (w4.setCell ⟨c.lb,9,none⟩ T) n #[.int .i64 (s.1:Int),.int .i64 (s.2:Int)] 212:=(nA _ _ _ fun e=>A (.inl e)).trans ((UZ.block _ l2 fun e=>A (.inr (.inr (.inl e.symm)))).trans r);have Wv:=aq.out.trans X4;clear Z uP UZ ac oo Ef Gd G7 av a6 iK ak ar o3 l1 l2 d9 R Q aq Wu HV r X4;generalize w4.setCell ⟨c.lb,9,none⟩ T=W4 at P Wv su|-;clear d9 R Q d8 kB H q G L i0;obtain⟨j0,hj,ab,ae,al⟩:=ft Tryz.Ob;have PU:W4.cell? ⟨c.lb,12,none⟩=some S.vW:=P.blk.cell 12;have oW:(W4.alloc (.cells #[.bool false] 4)).ownsRow B 4 1 S.vW S.ws.length (S.ws.map Value.bool):=P.rW.alloc (.cells #[.bool false] 4);have G7:aj (W4.alloc (.cells #[.bool false] 4)) c.lb (c.cells { S with vS:=T,st:=S.st++[s] }) 153:=P.blk.alloc _;have ag:S.vW.ownBlock≠some c.lb:=fun e=>(P.kW e).ne P.kL (by decide) rfl
   have ai:B<=(W4.alloc (.cells #[.bool false] 4)).heap.size:=de P.big (bJ W4 _ none).size;have a8:S.ws.length+1<=900001:=by have:=h.lw;omega
   go_upto_region 8 with (at_builtin;refine js _ rfl _ _ 142 rfl B 4 j0 _ 1 1 Tryz.amZ hj ab ae al rfl (by decide) S.vW S.ws.length (S.ws.map Value.bool) rfl oW ⟨W4.heap.size,0,none⟩ 1 1 [.bool false] rfl rfl (eO (aj.new W4 #[.bool false] 4)) (by simp[Value.oneCell']) (by unfold maxLen;omega) (by omega) ai ?_;intro v5 w5 uF aa _ OH;obtain⟨va,vc,rfl,-⟩:=aC uF;have vZ:=G7.grown aa (fun e=>ag e.symm);have c5:w5.cell? ⟨c.lb,12,none⟩=some S.vW:=vZ.cell 12;have f5:=vZ.frozen 12)
   have I:W4.grownBy w5 S.vW.ownBlock:=aR (bJ W4 _ _) aa;have ad:S.vW.ownBlock=(Value.slice va (S.ws.length+1) vc).ownBlock\/∃g,(Value.slice va (S.ws.length+1) vc).ownBlock=some g/\W4.heap.size<=g:=OH.imp Eq.symm fun e=>⟨_,e,(bJ W4 _ none).size⟩
   obtain⟨C,X5⟩:=P.anw N false I uF ad;have zw:aj (w5.setCell ⟨c.lb,12,none⟩ (.slice va (S.ws.length+1) vc)) n #[.int .i64 (s.1:Int),.int .i64 (s.2:Int)] 212:=(nA _ _ _ fun e=>A (.inl e)).trans ((I.block _ su.lt fun e=>A (.inr (.inr (.inr (.inr (.inr (.inl e.symm))))))).trans su);have P5:=Wv.trans X5;clear I ad X5 uF aa OH vZ c5 f5 Wv su P PU oW G7 ag ai hj ab ae al j0;generalize w5.setCell ⟨c.lb,12,none⟩ (.slice va (S.ws.length+1) vc)=W5 at C P5 zw|-;generalize Value.slice va (S.ws.length+1) vc=v5 at C P5|-;obtain⟨i0,L,H,q,G⟩:=ft Tryz.Td;have ap:=agY N (W:=W5.drew) (C.move (fun _ _=>rfl) (zL0)) hs s;have PV:W5.cell? ⟨c.lb,10,none⟩=some S.vA:=C.blk.cell 10;have R:W5.cell? ⟨n,0,none⟩=some (.int .i64 (s.1:Int)):=zw.cell 0;have Q:W5.cell? ⟨n,1,none⟩=some (.int .i64 (s.2:Int)):=zw.cell 1;have HS:Hid (∀(z:Nat)(l:World),W5.heap.size<=z->Below W5.heap.size W5 l->l.cell? ⟨c.lb,10,none⟩=some S.vA/\l.cell? ⟨n,0,none⟩=some (.int .i64 (s.1:Int))/\l.cell? ⟨n,1,none⟩=some (.int .i64 (s.2:Int))/\(l.alloc (.cells #[.slice (some ⟨z,0,none⟩) c.nw c.nw] 214)).ownsRow B 214 1 S.vA S.gs.length (S.gs.map (gX c.nw))/\aj (l.alloc (.cells #[.slice (some ⟨z,0,none⟩) c.nw c.nw] 214)) c.lb (c.cells { S with vS:=T,st:=S.st++[s],vW:=v5,ws:=S.ws++[false] }) 153/\B<=(l.alloc (.cells #[.slice (some ⟨z,0,none⟩) c.nw c.nw] 214)).heap.size):=fun z l EK d=>by
    have AZ:aj l c.lb (c.cells { S with vS:=T,st:=S.st++[s],vW:=v5,ws:=S.ws++[false] }) 153:=(d.block _ C.blk.lt).trans C.blk;have O0:aj l n #[.int .i64 (s.1:Int),.int .i64 (s.2:Int)] 212:=(d.block _ zw.lt).trans zw;exact⟨AZ.cell 10,O0.cell 0,O0.cell 1,(aD C.rA fun g e=>d.block g (C.rA.lt g e).2).alloc _,AZ.alloc _,de C.big (de d.size (bJ l _ none).size)⟩
   have ao:S.vA.ownBlock≠some c.lb:=fun e=>(C.kA e).ne C.kL (by decide) rfl
   have a7:S.gs.length+1<=900001:=by have:=h.lg;omega
   go_wp2_with fail
   go_region_law (first
    | (refine jW rfl 134 #[.pointer (some ⟨c.lb,0,none⟩),.agg #[.int .i64 (s.1:Int),.int .i64 (s.2:Int)]] (by go_simp) ap ?_;rintro e l⟨z,rfl,EK,P6,d⟩;unfold gX;refine⟨_,rfl,?_⟩;have U:Below W5.heap.size W5 l:=⟨d.1,d.2,d.3,d.4,d.5⟩;obtain⟨z0,z1,z2,z3,z4,z5⟩:=HS.out z l EK U;have z6:(l.alloc (.cells #[.slice (some ⟨z,0,none⟩) c.nw c.nw] 214)).cell? ⟨c.lb,10,none⟩=some S.vA:=z4.cell 10)
    | (refine step_append_lies _ rfl (.tmp 52) (.tmp 56) 149 rfl B 214 i0 _ 1 24 Tryz.adx L H q G rfl (by decide) S.vA S.gs.length (S.gs.map (gX c.nw)) (by simp[Act.eval]) z3 ⟨l.heap.size,0,none⟩ 1 1 [.slice (some ⟨z,0,none⟩) c.nw c.nw] (by simp[Act.eval]) rfl (eO (aj.new l _ 214)) (by simp[Value.oneCell']) (by decide) (by unfold maxLen;omega) (by omega) z5 _ rfl ?_;intro g7 az w7 F3 NU Ch ax;have Ww:=z4.grown NU (fun e=>ao e.symm);have c7:w7.cell? ⟨c.lb,10,none⟩=some S.vA:=Ww.cell 10;have f7:=Ww.frozen 10))
   all_goals
    obtain⟨v7,Y⟩:∃v,v=Value.slice (some ⟨g7,0,none⟩) (S.gs.length+1) az:=⟨_,rfl⟩;rw[<-Y]at F3|-;have U0:=(bJ l (.cells #[.slice (some ⟨z,0,none⟩) c.nw c.nw] 214) none).size;have am:W5.grownBy w7 S.vA.ownBlock:=aR ⟨U.1,U.2,U.3,U.size,fun i hi _=>U.block i hi⟩ (aR (bJ l _ _) NU);have JZ:S.vA.ownBlock=v7.ownBlock\/∃g,v7.ownBlock=some g/\W5.heap.size<=g:=by
     rw[Y];rcases Ch with e|e
     ·exact .inl e
     ·exact .inr ⟨g7,rfl,by rw[e];exact de U.size U0⟩
    have af:TS w7 z (uE st c.nT s):=(P6.move (dg _ _ _ P6.blk.lt)).move (NU.block _ (dd P6.blk.lt U0) fun e=>by
     have:=(C.rA.lt z e.symm).2;have:=show W5.heap.size<=z from EK
     omega)
    obtain⟨Q7,X7⟩:=C.anx N EK (acw st c.nT s) (by rw[h.ls,h.lg]) am af F3 JZ;have an:=P5.trans X7;clear X7 P5 C af JZ am U0 Y F3 NU Ch ax Ww c7 f7 z0 z1 z2 z3 z4 z5 z6 d U P6 EK HS ap ao L H q G i0 PV R Q zw;generalize w7.setCell ⟨c.lb,10,none⟩ v7=W7 at Q7 an|-;have M7:jT c w0 F B W7 { S with vS:=T,st:=S.st++[s],vW:=v5,ws:=S.ws++[false],vA:=v7,gs:=S.gs++[z],ss:=S.ss++[uE st c.nT s] }:=⟨Q7,by show (S.gs++[z]).length=(S.st++[s]).length;simp[h.lg],by show (S.ss++[_]).length=(S.st++[s]).length;simp[h.ls],by show (S.ws++[false]).length=(S.st++[s]).length;simp[h.lw]⟩;have q9:=abw N M7 (p:=S.st.length) (by show _<(S.st++[s]).length;simp) (by show S.wq.length+1<=_;omega)
    go_wp2_with (go_at_call 98;refine q9.mono ?_;rintro e w8⟨rfl,S8,T8,J⟩)
    go_ret;have e1:(S.ws++[false])[S.st.length]?=some false:=by rw[<-h.lw];simp
    have e2:(S.ws++[false]).set S.st.length true=S.ws++[true]:=by rw[<-h.lw];simp
    refine⟨S.st.length,S8,rfl,⟨T8.m,an.trans T8.x⟩,by rw[J.st];simp,.inr ⟨hin,J.st,J.ss,J.ws.trans e2,?_⟩⟩;rcases J.wq with ⟨k,-⟩|⟨-,k⟩
    ·have k':(S.ws++[false])[S.st.length]?=some true:=k
     rw[e1]at k';cases k'
    ·exact k
end
namespace Lx
def Ga(E:List Bool)(fs:List (List Nat))(X:Nat->Prop):List Nat->Nat->Prop
 | [],t=>X t
 |s::r,t=>bP (fs.getD s []) t=true\/(aK E s=true/\Ga E fs X r t)
theorem Sv{x y:List Nat}{t:Nat}(h:bP (dL x y) t=true):bP x t=true\/bP y t=true:=by
 unfold bP at h|-;rw[IV]at h
 split at h
 ·rw[rh,n7]at h
  exact h
 ·exact .inl h
theorem aaO{E:List Bool}{fs:List (List Nat)}{a:List Nat}{t:Nat}:∀(r x:List Nat),bP (mg E fs a r x) t=true->bP x t=true\/Ga E fs (fun t=>bP a t=true) r t
 | [],x,h=>Sv h
 |s::r,x,h=>by
  unfold mg at h
  split at h
  ·rename_i b
   rcases aaO r _ h with h|h
   ·exact(Sv h).imp id .inl
   ·exact .inr (.inr ⟨b,h⟩)
  ·exact(Sv h).imp id .inl
theorem gu.trans{x y z:List Nat}(h:gu x y)(k:gu y z):gu x z:=⟨h.1.trans k.1,fun i=>by rw[<-k.2 i,<-tS,h.2 i]⟩
theorem RV{E:List Bool}{fs:List (List Nat)}{a:List Nat}:∀(r x:List Nat),gu x (mg E fs a r x)
 | [],x=>(gu.refl x).join a
 |s::r,x=>by
  unfold mg
  split
  ·exact((gu.refl x).join _).trans (RV r _)
  ·exact(gu.refl x).join _
theorem RX{x y z:List Nat}(h:gu (dL x z) y):dL y z=y:=FH (Dy ..) fun i a=>by
 rw[Dy]at a;have h2:=h.2 i;have h1:=h.1;rw[Dy]at h1;rw[IV,dj (by omega)]at h2;rw[IV,dj a,<-h2,tS,Nat.or_comm (y.getD i 0),<-tS,tS (x.getD i 0),Nat.or_self]
theorem RY{E:List Bool}{fs:List (List Nat)}{b:List Nat}:∀(r x y:List Nat),gu (mg E fs b r x) y->mg E fs b r y=y
 | [],x,y,h=>RX h
 |s::r,x,y,h=>by
  unfold mg at h|-
  split
  ·rename_i a
   rw[dj a]at h;rw[RX ((RV r _).trans h)];exact RY r _ y h
  ·rename_i a
   rw[dt a]at h;exact RX h
def mis:List Nat->Nat
 | []=>0
 |a::x=>(18446744073709551616-a)+mis x
theorem ady:∀{x y:List Nat},gu x y->jD y->mis y<=mis x/\(mis y=mis x->x=y)
 | [],[],_,_=>⟨zL0,fun _=>rfl⟩
 | [],_::_,h,_=>by have:=h.1;simp at this
 |_::_,[],h,_=>by have:=h.1;simp at this
 |a::x,b::y,h,hw=>by
  have c:a ||| b=b:=by simpa using h.2 0
  have d:gu x y:=⟨by simpa using h.1,fun i=>by simpa using h.2 (i+1)⟩;have j:=hw b ed;have g:a<=b:=by rw[<-c];exact Nat.left_le_or
  obtain⟨h1,h2⟩:=ady d fun z f=>hw z (ei _ f)
  simp only[mis];refine⟨by omega,fun e=>?_⟩;obtain rfl:a=b:=by omega
  rw[h2 (by omega)]
theorem acG:∀(x:List Nat),mis x<=x.length*18446744073709551616
 | []=>by simp[mis]
 |a::x=>by
  have:=acG x;simp only[mis,List.length_cons,Nat.add_mul];omega
def xL:List (List Nat)->Nat
 | []=>0
 |x::l=>mis x+xL l
theorem abC:∀(l:List (List Nat))(x:List Nat),xL (l++[x])=xL l+mis x
 | [],x=>by simp[xL]
 |y::l,x=>by
  rw[gx,xL,xL,abC l x];omega
theorem abD:∀(l:List (List Nat))(b:Nat)(x y:List Nat),l[b]?=some x->xL (l.set b y)+mis x=xL l+mis y
 | [],b,x,y,h=>by cases h
 |z::l,0,x,y,h=>by
  cases h;simp only[List.set_cons_zero,xL];omega
 |z::l,b+1,x,y,h=>by
  have:=abD l b x y (by simpa using h);simp only[List.set_cons_succ,xL];omega
theorem Mi{l:List (Nat×Nat)}{a b:Nat}(j:l.Nodup)(h:∀s∈l,s.1<a/\s.2<b):l.length<=a*b:=by
 have h1:(l.map fun s=>s.1*b+s.2).Nodup:=by
  rw[List.Nodup,pC];refine List.Pairwise.imp_of_mem (fun{s u}c k d e=>d ?_) j;have h1:=h s c;have h2:=h u k;have f:s.1=u.1:=by
   have m:(s.1*b+s.2) / b=s.1:=by rw[yv,Nat.mul_add_div (by omega),tB h1.2,mn]
   have g:(u.1*b+u.2) / b=u.1:=by rw[yv,Nat.mul_add_div (by omega),tB h2.2,mn]
   rw[<-m,<-g,e]
  rw[f]at e;exact qu f (by omega)
 have h2:=I8 (a*b) _ h1 fun x i=>by
  obtain⟨s,c,rfl⟩:=ee.1 i;have:=h s c
  calc s.1*b+s.2<s.1*b+b:=by omega
   _=(s.1+1)*b:=by rw[sg,tj]
   _<=a*b:=jj b this.1
 simpa using h2
theorem gu.has{x y:List Nat}(h:gu x y){t:Nat}(k:bP x t=true):bP y t=true:=by
 unfold bP at k|-;rw[<-h.2,rh,k,Bool.true_or]
end Lx
def aZ.rG(c:aZ)(s:Nat×Nat):List (au×Nat):=(iO c.P c.f s.1 s.2 c.P.length).filter (yA c.P c.nT)
def aZ.inn(c:aZ)(x:au×Nat):Nat×Nat:=(x.2,(dQ c.P x.1).getD 0)
def Lr(c:aZ)(S:bL)(p:Nat)(x:au×Nat):Prop:=∃q,S.st[q]?=some (c.inn x)/\mg c.E c.fs (S.ss.getD p []) (nU c.P x.1) (S.ss.getD q [])=S.ss.getD q []
structure C8(c:aZ)(st NM:Nat)(R:Nat×Nat->Prop)(G:Nat×Nat->Nat->Prop):Prop where
 r0:R (0,st)
 r1:∀s x,R s->x∈c.rG s->R (c.inn x)
 rn:∀l:List (Nat×Nat),l.Nodup->(∀s∈l,R s)->l.length<=NM
 g0:G (0,st) 0
 g1:∀s x t,R s->x∈c.rG s->Ga c.E c.fs (G s) (nU c.P x.1) t->G (c.inn x) t
structure jU(c:aZ)(R:Nat×Nat->Prop)(G:Nat×Nat->Nat->Prop)(K:Nat->Nat->Prop)(S:bL):Prop where
 nd:S.st.Nodup
 lw:S.ws.length=S.st.length
 ls:S.ss.length=S.st.length
 qn:S.wq.Nodup
 q:∀p,p∈S.wq↔S.ws[p]?=some true
 snd:∀p s,S.st[p]?=some s->R s/\∀t,bP (S.ss.getD p []) t=true->G s t
 cls:∀p s j x,S.st[p]?=some s->S.ws[p]?=some false->K p j->(c.rG s)[j]?=some x->Lr c S p x
 G8:∀p u,c.st0 u->S.st[p]?=some (0,u)->bP (S.ss.getD p []) 0=true
def bL.mu(c:aZ)(NM:Nat)(S:bL):Nat:=2*((NM-S.st.length)*(c.nw*18446744073709551616+1)+xL S.ss)+S.wq.length

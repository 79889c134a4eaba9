import Derived.Test.YtagkodkijkpemaaGreatDoorRA34
import Derived.Test.YtagkodkijkpemaaGreatDoorRA28
set_option maxHeartbeats 8000000
set_option maxRecDepth 1000000
namespace Go.Proofs.YtagkodkijkpemaaGreatDoor
open Lx Go.Proofs.Tryz
open Go.RowKit Tr
def wW:Value:=.agg #[.slice none 0 0,.slice none 0 0,.slice none 0 0,.slice none 0 0,.slice none 0 0]
def akf(s:ByteArray)(w:World)(e:Ending)(w':World):Prop :=
 ∃v,∃n a:Nat,e=.returned (.tuple #[v,.int .i64 (n:Int),.int .i64 (a:Int)])/\Below w.heap.size w w'/\(∀g,fu s=.ok g->n=0/\a=0/\PlP w' v (aD g) (bI g) (bJ g) ((aD g).map fun t=>(rZ g t).1) ((aD g).map fun t=>(rZ g t).2))/\(∀x,fu s=.error x->n=x.1/\a=x.2/\v=wW)
def DC(s:ByteArray)(w:World)(e:Ending)(w':World):Prop :=
 ∃v,∃n a:Nat,e=.returned (.tuple #[v,.int .i64 (n:Int),.int .i64 (a:Int)])/\Below w.heap.size w w'/\(∀g,fu s=.ok g->n=0/\a=0/\uY w.heap.size w' v (aD g) (bI g) (bJ g) ((aD g).map fun t=>(rZ g t).1) ((aD g).map fun t=>(rZ g t).2))/\(∀x,fu s=.error x->n=x.1/\a=x.2/\v=wW)
theorem DC.no{s:ByteArray}{w w':World}{n a:Nat}(h:fu s=.error (n,a))(d:Below w.heap.size w w'):DC s w (.returned (.tuple #[wW,.int .i64 (n:Int),.int .i64 (a:Int)])) w' :=
 ⟨_,n,a,rfl,d,(fun g c=>by rw[h]at c;cases c),(fun x b=>by rw[h]at b;cases b;exact⟨rfl,rfl,rfl⟩)⟩
theorem MX{w:World}{r t:Nat}{x0 x1 x2 x3 x4 a y1 y2 b c:Value}(h:aj w r #[a,y1,y2,b,c] t):aj (((((w.setCell ⟨r,0,none⟩ x0).setCell ⟨r,1,none⟩ x1).setCell ⟨r,2,none⟩ x2).setCell ⟨r,3,none⟩ x3).setCell ⟨r,4,none⟩ x4) r #[x0,x1,x2,x3,x4] t:=((((h.set 0 _).set 1 _).set 2 _).set 3 _).set 4 _
theorem Mj{B:Nat}{a w:World}(h:Below B a w){r:Nat}(b:B<=r)(x0 x1 x2 x3 x4:Value):Below B a (((((w.setCell ⟨r,0,none⟩ x0).setCell ⟨r,1,none⟩ x1).setCell ⟨r,2,none⟩ x2).setCell ⟨r,3,none⟩ x3).setCell ⟨r,4,none⟩ x4) :=
 ((((h.setCell (p:=⟨r,0,none⟩) b x0).setCell (p:=⟨r,1,none⟩) b x1).setCell (p:=⟨r,2,none⟩) b x2).setCell (p:=⟨r,3,none⟩) b x3).setCell (p:=⟨r,4,none⟩) b x4
theorem ahh(w:World)(r:Nat)(x0 x1 x2 x3 x4:Value)(g:Nat)(a:g≠r):(((((w.setCell ⟨r,0,none⟩ x0).setCell ⟨r,1,none⟩ x1).setCell ⟨r,2,none⟩ x2).setCell ⟨r,3,none⟩ x3).setCell ⟨r,4,none⟩ x4).heap[g]?=w.heap[g]?:=by
 rw[zS0 a,zS0 a,zS0 a,zS0 a,zS0 a]
theorem own_ne{w:World}{B e z:Nat}{v:Value}{n:Nat}{j:List Value}(h:w.ownsRow B e z v n j){r t:Nat}{cs:Array Value}(b:aj w r cs t)(a:e≠t):∀g,v.ownBlock=some g->g≠r:=by
 intro g i d;obtain⟨f,c⟩:=eU h i;unfold aj at b;rw[d,b]at c;cases c;exact a rfl
theorem uY.other{B:Nat}{w w':World}{v:Value}{T N:List ByteArray}{P:List Lx.Pd}{k l:List Nat}(h:uY B w v T N P k l){r:Nat}{cs:Array Value}(b:aj w r cs 56)(c:∀g,g<w.heap.size->g≠r->w'.heap[g]?=w.heap[g]?):uY B w' v T N P k l:=by
 obtain⟨y,p,u,x,s,rfl,h1,h2,⟨n,m,j,f,t⟩,h4,i,o⟩:=h;exact⟨y,p,u,x,s,rfl,aC h1 fun g a=>c g (h1.lt g a).2 (own_ne h1 b (by decide) g a),aC h2 fun g a=>c g (h2.lt g a).2 (own_ne h2 b (by decide) g a),⟨n,m,aC j fun g a=>c g (j.lt g a).2 (own_ne j b (by decide) g a),fun q d=>⟨aC (f q d).1 fun g a=>c g ((f q d).1.lt g a).2 (own_ne (f q d).1 b (by decide) g a),(f q d).2⟩,t⟩,aC h4 fun g a=>c g (h4.lt g a).2 (own_ne h4 b (by decide) g a),aC i fun g a=>c g (i.lt g a).2 (own_ne i b (by decide) g a),o⟩
theorem uY.mono{B B':Nat}{w:World}{v:Value}{T N:List ByteArray}{P:List Lx.Pd}{c i:List Nat}(h:uY B w v T N P c i)(d:B'<=B):uY B' w v T N P c i:=by
 obtain⟨x,o,t,u,r,p,h1,h2,⟨l,k,n,f,s⟩,h4,j,m⟩:=h;exact⟨x,o,t,u,r,p,h1,h2,⟨l,k,n,fun q b=>⟨(f q b).1,fun g a=>dg d ((f q b).2 g a)⟩,s⟩,h4,j,fun g a=>dg d (m g a)⟩
theorem MZ(s:ByteArray)(w:World)(U:s.size<=maxLen)(ht:fq w):Calls prog 21 #[.string s] w (DC s w):=by
 obtain⟨W,X⟩:∃W,W=w.alloc (.cells #[.slice none 0 0,.slice none 0 0,.slice none 0 0,.slice none 0 0,.slice none 0 0] 56):=⟨_,rfl⟩;have ag:Below w.heap.size w W:=by rw[X];exact(cV _ _).alloc (zL0) _
 have zk:W.heap.size=w.heap.size+1:=by rw[X];simp
 have kR:aj W w.heap.size #[.slice none 0 0,.slice none 0 0,.slice none 0 0,.slice none 0 0,.slice none 0 0] 56:=by rw[X];exact aj.new w _ 56
 have q1:=Zu s W U;go_enter func21,ntmps21;go_wp2_with fail;rw[<-X];clear X;refine q1.mono ?_;rintro e w1⟨I,q⟩;clear q1;have dY:Below w.heap.size w w1:=ag.trans (I.mono (by omega));have z:aj w1 w.heap.size _ 56:=(I.block _ (by omega)).trans kR;have ap:=I.size;have ah:w.heap.size<w1.heap.size:=z.lt;have r0:w1.cell? ⟨w.heap.size,0,none⟩=some (.slice none 0 0):=z.cell 0;have r1:w1.cell? ⟨w.heap.size,1,none⟩=some (.slice none 0 0):=z.cell 1;have r2:w1.cell? ⟨w.heap.size,2,none⟩=some (.slice none 0 0):=z.cell 2;have r3:w1.cell? ⟨w.heap.size,3,none⟩=some (.slice none 0 0):=z.cell 3;have r4:w1.cell? ⟨w.heap.size,4,none⟩=some (.slice none 0 0):=z.cell 4;have rf:∀i,w1.frozen? ⟨w.heap.size,i,none⟩=false:=z.frozen;cases hp:Lx.parse s with
 |error x=>
  obtain⟨n,a⟩:=x;rw[hp]at q;have he:e=.returned (.tuple #[.agg #[.slice none 0 0,.slice none 0 0],.int .i64 (n:Int),.int .i64 (a:Int)]):=q;subst he;have y:Hid (fu s=.error (n,a)):=Sy hp;have ac:0<n:=Zt hp;have am:((n:Int) != 0)=true:=j8.2 (by omega);have ak:¬(n:Int)=0:=by omega
  clear q hp ac;go_wp2_with fail;have c:=(MX (x0:=.slice none 0 0) (x1:=.slice none 0 0) (x2:=.slice none 0 0) (x3:=.slice none 0 0) (x4:=.slice none 0 0) z).alloc (.cells #[.slice none 0 0,.slice none 0 0] 105);have s0:=c.cell 0;have k:=c.cell 1;have o:=c.cell 2;have j:=c.cell 3;have f:=c.cell 4;simp at s0 k o j f;exact fx (v:=.tuple #[wW,.int .i64 (n:Int),.int .i64 (a:Int)]) (by simp[wW,results,results21,go_sem,s0,k,o,j,f]) rfl (DC.no y.out ((Mj dY (zL0) _ _ _ _ _).alloc (by simp;omega) _))
 |ok g=>
  rw[hp]at q;obtain⟨vl,vr,rfl,hg⟩:=q;obtain⟨N,M,rfl,-⟩:=Seq.len hg.1;obtain⟨D,E,rfl,-⟩:=(lN.len (F:=In W.heap.size w1.heap.size) (w:=w1) ⟨fun b J=>J.2,dQ.weak hg.2 fun A v x S hk=>eD.weak S hk⟩);have P:=ahg hp;obtain⟨K,l⟩:∃K,K=w1.alloc (.cells #[.slice N g.levels.length M,.slice D g.rules.length E] 105):=⟨_,rfl⟩;have dM:Below w1.heap.size w1 K:=by rw[l];exact(cV _ _).alloc (zL0) _
  have ai:K.heap.size=w1.heap.size+1:=by rw[l];simp
  have kB:aj K w1.heap.size #[.slice N g.levels.length M,.slice D g.rules.length E] 105:=by rw[l];exact aj.new w1 _ 105
  have q2:=afW s K P;go_wp2_with fail;rw[<-l];clear l;refine q2.mono ?_;rintro e w2⟨vW,rfl,oW,H⟩;clear q2;rw[QM hp]at oW;have xS:WR w2 vW (iG g):=jc oW (eR _);obtain⟨wa,wc,rfl,-⟩:=xS.len;have qW:Below w1.heap.size w1 w2:=dM.trans (H.mono (by omega));have an:=H.size;have Q:∀{w':World},Below w1.heap.size w1 w'->BF (In W.heap.size w1.heap.size) w' (.slice N g.levels.length M) (.slice D g.rules.length E) g:=fun J=>hg.move (fun b m=>J.block b m.2) (fun _ h=>h)
  have R:∀{w':World},Below w1.heap.size w1 w'->lN (In W.heap.size w1.heap.size) w' (.slice D g.rules.length E) g.rules:=fun J=>⟨fun b m=>dd m.2 J.size,dQ.weak (Q J).2 fun A v x S hk=>eD.weak S hk⟩
  have q3:=aeN hp (R qW) xS;have aa:aj w2 w1.heap.size #[.slice N g.levels.length M,.slice D g.rules.length E] 105:=(H.block _ (by omega)).trans kB;have g1:w2.cell? ⟨w1.heap.size,1,none⟩=some (.slice D g.rules.length E):=aa.cell 1;go_wp2_with fail;refine q3.mono ?_;rintro e d⟨rfl,B⟩;clear q3 g1;have ao:=B.size;have Y:Below w1.heap.size w1 d:=qW.trans (B.mono qW.size);have Ce:Below w.heap.size w d:=dY.trans (Y.mono (by omega));have C:aj d w.heap.size _ 56:=(Y.block _ ah).trans z;have Z:aj d w1.heap.size #[.slice N g.levels.length M,.slice D g.rules.length E] 105:=(B.block _ (by omega)).trans aa;clear r0 r1 r2 r3 r4 rf
  by_cases hc:(jY g).1=0
  ·have h6:=aaT hc
   obtain⟨h1,h2,h3⟩:=Fb hp;obtain⟨h4,h5⟩:=QS hp;have O:Lx.Fit g:=by
    refine⟨h1,h2,h3,fun r hr=>?_,h4,h5,h6.2,h6.1⟩;obtain⟨i,hi,rfl⟩:=pB.1 hr;obtain⟨_,_,_,-,-,S,-⟩:=(R Y).at hi;exact Rf S
   have q4:=af5 hp O (Q Y) (fun b m=>dd m.2 Y.size) (xS.below B) (ht.move (Ce.block _ ht.lt)) (ake hp P);have G:(((jY g).1:Int) != 0)=false:=by simp[hc]
   have ab:((jY g).1:Int)=0:=by omega
   have HC:Hid ((jY g).1=0):=hc;have HM:Hid (200<(bJ g).length->fu s=.error (8,0)):=fun q=>R3 hp hc q
   have HO:Hid (¬200<(bJ g).length->fu s=.ok g):=fun q=>Tf hp hc q
   have g0:d.cell? ⟨w1.heap.size,0,none⟩=some (.slice N g.levels.length M):=Z.cell 0;have g1:d.cell? ⟨w1.heap.size,1,none⟩=some (.slice D g.rules.length E):=Z.cell 1;clear hc h6 h1 h2 h3 h4 h5;generalize jY g=cr at G ab HC;go_wp2_with fail;refine q4.mono ?_;rintro e u⟨v,rfl,L,V⟩
   replace L:=L.mono (B':=w.heap.size) (by have:=Ce.size;first | omega | (simp;omega))
   clear q4 g0 g1;obtain⟨vT,vN,vP,vB,vK,rfl,oT,oN,sD,oB,oK,-⟩:=id L;obtain⟨ps,p1,p2,-⟩:=id sD;obtain⟨ta,tc,rfl,-⟩:=aB oT;obtain⟨na,nc,rfl,-⟩:=aB oN;obtain⟨pa,pc,rfl,af⟩:=aB p2;obtain⟨ba,bc,rfl,-⟩:=aB oB;obtain⟨ka,kc,rfl,-⟩:=aB oK;clear oT oN oB oK p1 p2 sD;generalize ((aD g).map fun t=>(rZ g t).1).length=nB at L;generalize ((aD g).map fun t=>(rZ g t).2).length=nK at L;have JS:Below w.heap.size w u:=Ce.trans (V.mono (by omega));have p:aj u w.heap.size _ 56:=(V.block _ (by omega)).trans C;have al:=p.lt;have r0:u.cell? ⟨w.heap.size,0,none⟩=some (.slice none 0 0):=p.cell 0;have r1:u.cell? ⟨w.heap.size,1,none⟩=some (.slice none 0 0):=p.cell 1;have r2:u.cell? ⟨w.heap.size,2,none⟩=some (.slice none 0 0):=p.cell 2;have r3:u.cell? ⟨w.heap.size,3,none⟩=some (.slice none 0 0):=p.cell 3;have r4:u.cell? ⟨w.heap.size,4,none⟩=some (.slice none 0 0):=p.cell 4;have rf:∀i,u.frozen? ⟨w.heap.size,i,none⟩=false:=p.frozen;unfold maxLen at af
   by_cases NS:200<(bJ g).length
   ·have y:Hid (fu s=.error (8,0)):=HM.out NS
    have ae:(200:Int)<((bJ g).length:Int):=by omega
    clear HM HO NS;go_wp2_with fail;have c:=(MX (x0:=.slice none 0 0) (x1:=.slice none 0 0) (x2:=.slice none 0 0) (x3:=.slice none 0 0) (x4:=.slice none 0 0) p).alloc (.cells #[.slice ta (aD g).length tc,.slice na (bI g).length nc,.slice pa (bJ g).length pc,.slice ba nB bc,.slice ka nK kc] 56);have s0:=c.cell 0;have k:=c.cell 1;have o:=c.cell 2;have j:=c.cell 3;have f:=c.cell 4;simp at s0 k o j f;exact fx (v:=.tuple #[wW,.int .i64 ((8:Nat):Int),.int .i64 ((0:Nat):Int)]) (by simp[wW,results,results21,go_sem,s0,k,o,j,f]) rfl (DC.no y.out ((Mj JS (zL0) _ _ _ _ _).alloc (by simp;omega) _))
   ·have y:Hid (fu s=.ok g):=HO.out NS
    have ae:¬(200:Int)<((bJ g).length:Int):=by omega
    clear HM HO NS;go_wp2_with fail;have c:=(MX (x0:=.slice ta (aD g).length tc) (x1:=.slice na (bI g).length nc) (x2:=.slice pa (bJ g).length pc) (x3:=.slice ba nB bc) (x4:=.slice ka nK kc) p).alloc (.cells #[.slice ta (aD g).length tc,.slice na (bI g).length nc,.slice pa (bJ g).length pc,.slice ba nB bc,.slice ka nK kc] 56);have s0:=c.cell 0;have k:=c.cell 1;have o:=c.cell 2;have j:=c.cell 3;have f:=c.cell 4;simp at s0 k o j f;refine fx (v:=.tuple #[.agg #[.slice ta (aD g).length tc,.slice na (bI g).length nc,.slice pa (bJ g).length pc,.slice ba nB bc,.slice ka nK kc],.int .i64 ((0:Nat):Int),.int .i64 ((0:Nat):Int)]) (by simp[results,results21,go_sem,s0,k,o,j,f]) rfl ⟨_,0,0,rfl,(Mj JS (zL0) _ _ _ _ _).alloc (by simp;omega) _,?_,?_⟩
    ·intro g' T
     rw[y.out]at T;cases T;refine⟨rfl,rfl,L.other p fun x hx hn=>?_⟩;rw[di _ _ _ (by simp[World.setCell];exact hx)];exact ahh u w.heap.size _ _ _ _ _ x hn
    ·intro x hx;rw[y.out]at hx;cases hx
  ·have y:Hid (fu s=.error (jY g)):=Sz hp hc
   have G:(((jY g).1:Int) != 0)=true:=j8.2 (by omega);have ad:¬((jY g).1:Int)=0:=by omega
   clear hc;generalize jY g=cr at y G ad;have r0:d.cell? ⟨w.heap.size,0,none⟩=some (.slice none 0 0):=C.cell 0;have r1:d.cell? ⟨w.heap.size,1,none⟩=some (.slice none 0 0):=C.cell 1;have r2:d.cell? ⟨w.heap.size,2,none⟩=some (.slice none 0 0):=C.cell 2;have r3:d.cell? ⟨w.heap.size,3,none⟩=some (.slice none 0 0):=C.cell 3;have r4:d.cell? ⟨w.heap.size,4,none⟩=some (.slice none 0 0):=C.cell 4;have rf:∀i,d.frozen? ⟨w.heap.size,i,none⟩=false:=C.frozen;go_wp2_with fail;have c:=MX (x0:=.slice none 0 0) (x1:=.slice none 0 0) (x2:=.slice none 0 0) (x3:=.slice none 0 0) (x4:=.slice none 0 0) C;have s0:=c.cell 0;have k:=c.cell 1;have o:=c.cell 2;have j:=c.cell 3;have f:=c.cell 4;simp at s0 k o j f;exact fx (v:=.tuple #[wW,.int .i64 (cr.1:Int),.int .i64 (cr.2:Int)]) (by simp[wW,results,results21,go_sem,s0,k,o,j,f]) rfl (DC.no y.out (Mj Ce (zL0) _ _ _ _ _))
theorem R4(s:ByteArray)(w:World)(b:s.size<=maxLen)(d:fq w):Calls prog 21 #[.string s] w (akf s w):=by
 refine(MZ s w b d).mono ?_;rintro e f⟨v,n,a,h1,h2,h3,h4⟩;exact⟨v,n,a,h1,h2,fun g c=>⟨(h3 g c).1,(h3 g c).2.1,(h3 g c).2.2.pl⟩,h4⟩
theorem Lx.abQ{s:ByteArray}{x:Nat×Nat}(h:fu s=.error x):x.1≠0:=by
 cases hp:Lx.parse s with
 |error y=>
  obtain⟨n,a⟩:=y;rw[Sy hp]at h;cases h;have:=Zt hp;show n≠0;omega
 |ok g=>
  by_cases hc:(jY g).1=0
  ·by_cases hm:200<(bJ g).length
   ·rw[R3 hp hc hm]at h;cases h;decide
   ·rw[Tf hp hc hm]at h;cases h
  ·rw[Sz hp hc]at h;cases h;exact hc
def Tz(g:Lx.Gr):Prop:=ad4 ((aD g).length+(bI g).length) (bJ g)/\(aD g).length+(bI g).length<=100000/\∀p∈bJ g,p.right.length<=100000
def amL(w w':World)(nT n:Nat)(P:List Lx.Pd)(e:Ending):Prop:=∃gE E k vF B m,e=.returned (.tuple #[.slice (some ⟨gE,0,none⟩) n n,vF,.int .i64 0,.int .i64 0])/\aj w' gE (bE E) 4/\w.heap.size<=gE/\E.length=n/\E=qZ (jU P) k (List.replicate n false)/\jU P E=E/\B=qZ (gI P E) m (Lx.alone nT n)/\gI P E B=B/\GL w.heap.size w' vF (B.map jE)
def akg(s:ByteArray)(w:World)(e:Ending)(w':World):Prop :=
 Below w.heap.size w w'/\(∀x,fu s=.error x->e=.returned (.tuple #[.slice none 0 0,.slice none 0 0,.int .i64 (x.1:Int),.int .i64 (x.2:Int)]))/\(∀g,fu s=.ok g->amL w w' (aD g).length ((aD g).length+(bI g).length) (bJ g) e)
theorem anF(w:World)(x0 x1 x2 x3 x4:Value):aj (w.alloc (.cells #[x0,x1,x2,x3,x4] 56)) w.heap.size #[x0,x1,x2,x3,x4] 56:=aj.new w _ 56
theorem akh(s:ByteArray)(w:World)(p:s.size<=maxLen)(ht:fq w)(l:∀g,fu s=.ok g->Tz g):Calls prog 60 #[.string s] w (akg s w):=by
 have q1:=R4 s w p ht;go_enter func60,ntmps60;go_wp2_with fail;refine q1.mono ?_;rintro e w1⟨v,n,a,rfl,d,b,S⟩;clear q1;cases hr:fu s with
 |error x=>
  obtain⟨rfl,rfl,rfl⟩:=S x hr;have hp:=abQ hr;have A:Hid (fu s=.error x):=hr;have ab:((x.1:Int) != 0)=true:=j8.2 (by omega);have ad:¬(x.1:Int)=0:=by omega
  clear hr S b l hp;unfold wW;go_wp2_with fail;refine fx (v:=.tuple #[.slice none 0 0,.slice none 0 0,.int .i64 (x.1:Int),.int .i64 (x.2:Int)]) (by simp[results,results60,go_sem]) rfl ?_;refine⟨d.alloc d.size _,fun y I=>?_,fun g F=>?_⟩
  ·rw[A.out]at I;cases I;rfl
  ·rw[A.out]at F;cases F
 |ok g=>
  obtain⟨rfl,rfl,hP⟩:=b g hr;obtain⟨o1,o2,o3⟩:=l g hr;obtain⟨vT,vN,vP,vB,vK,rfl,hT,hN,U,M,hK⟩:=hP;obtain⟨o,J,rfl,-⟩:=aB hT;obtain⟨O,D,rfl,-⟩:=aB hN;obtain⟨ps,p1,p2,-⟩:=id U;obtain⟨C,r,rfl,-⟩:=aB p2;obtain⟨ba,bc,rfl,-⟩:=aB M;obtain⟨ka,kc,rfl,-⟩:=aB hK;have A:Hid (fu s=.ok g):=hr;clear hr S b l hT hN M hK p1 p2;generalize hNT:(aD g).length=nT at *;generalize hNN:(bI g).length=nN at *;have Q:Hid _:=hNT;have UW:Hid _:=hNN;clear hNT hNN;generalize ((aD g).map fun t=>(rZ g t).1).length=nB at *;generalize ((aD g).map fun t=>(rZ g t).2).length=nK at *;obtain⟨W,P⟩:∃W,W=w1.alloc (.cells #[.slice o nT J,.slice O nN D,.slice C (bJ g).length r,.slice ba nB bc,.slice ka nK kc] 56):=⟨_,rfl⟩;have kW:aj W w1.heap.size #[.slice o nT J,.slice O nN D,.slice C (bJ g).length r,.slice ba nB bc,.slice ka nK kc] 56:=by rw[P];exact anF _ _ _ _ _ _
  have i:Below w1.heap.size w1 W:=by rw[P];exact(cV _ _).alloc (zL0) _
  have j:FU W o nT J O nN D (.slice C (bJ g).length r) (bJ g):=⟨U.below i,o1,o2⟩;have q2:=aeP (ba:=ba) (ka:=ka) (nb:=nB) (bc:=bc) (nk:=nK) (kc:=kc) j;have c0:W.cell? ⟨w1.heap.size,0,none⟩=some (.slice o nT J):=kW.cell 0;have c1:W.cell? ⟨w1.heap.size,1,none⟩=some (.slice O nN D):=kW.cell 1;have c2:W.cell? ⟨w1.heap.size,2,none⟩=some (.slice C (bJ g).length r):=kW.cell 2;have c3:W.cell? ⟨w1.heap.size,3,none⟩=some (.slice ba nB bc):=kW.cell 3;have c4:W.cell? ⟨w1.heap.size,4,none⟩=some (.slice ka nK kc):=kW.cell 4;go_wp2_with fail;rw[<-P];clear P;go_wp2_with fail;refine q2.mono ?_;rintro e w2⟨gE,E,k,rfl,aa,T,f,hE,L,c⟩;clear q2 c0 c1 c2 c3 c4;have H:aj w2 w1.heap.size _ 56:=(c.block _ kW.lt).trans kW;have c0:w2.cell? ⟨w1.heap.size,0,none⟩=some (.slice o nT J):=H.cell 0;have c1:w2.cell? ⟨w1.heap.size,1,none⟩=some (.slice O nN D):=H.cell 1;have c2:w2.cell? ⟨w1.heap.size,2,none⟩=some (.slice C (bJ g).length r):=H.cell 2;have c3:w2.cell? ⟨w1.heap.size,3,none⟩=some (.slice ba nB bc):=H.cell 3;have c4:w2.cell? ⟨w1.heap.size,4,none⟩=some (.slice ka nK kc):=H.cell 4;have q3:=aeJ (ba:=ba) (ka:=ka) (nb:=nB) (bc:=bc) (nk:=nK) (kc:=kc) (j.below c) T f o3;have HE:Hid _:=hE;have V:Hid _:=L;have Z:Hid _:=f;clear hE L f j o1 o3 U;go_wp2_with fail;refine q3.mono ?_;rintro e w3⟨vF,B,m,rfl,M,K,z,u⟩;clear q3;have ae:=d.size;have zk:=i.size;have ac:=c.size;have R:GL w.heap.size w3 vF (B.map jE):=by
   obtain⟨qs,⟨r1,Y,r3,r4⟩,r5⟩:=z;exact⟨qs,⟨r1,jc Y (by omega),fun q hq=>jc (r3 q hq) (by omega),r4⟩,r5⟩
  obtain⟨G,N,rfl⟩:∃G N,vF=.slice G (B.map jE).length N:=by
   obtain⟨qs,⟨r1,Y,-⟩,-⟩:=z;obtain⟨G,N,e,-⟩:=aB Y;exact⟨G,N,e⟩
  have HB:Hid _:=M;have X:Hid _:=K;clear M K;go_wp2_with fail;refine fx (v:=.tuple #[.slice (some ⟨gE,0,none⟩) (nT+nN) (nT+nN),.slice G (B.map jE).length N,.int .i64 0,.int .i64 0]) (by simp[results,results60,go_sem]) rfl ?_;refine⟨d.trans ((i.trans ((c.mono zk).trans (u.mono (by omega)))).mono (by omega)),fun y I=>?_,fun g' F=>?_⟩
  ·rw[A.out]at I;cases I
  ·rw[A.out]at F
   cases F;rw[Q.out,UW.out];exact⟨gE,E,k,_,B,m,rfl,(u.block _ T.lt).trans T,by omega,Z.out,HE.out,V.out,HB.out,X.out,R⟩
namespace Lx
theorem Jo{l:List ByteArray}{b:ByteArray}(h:0<=bW l b):fix l b<l.length:=(Nf h).2
theorem R5(g:Gr):(bI g).length=1+(g.rules.flatMap jS).length:=by unfold bI;rw[el];omega
theorem SA{T N:List ByteArray}{x:It}(h:zT T N x):xq T N x<T.length+N.length:=by
 unfold zT at h;unfold xq
 split
 ·rename_i a;rw[de a]at h;have:=Jo h;omega
 ·rename_i a;rw[dk a]at h;have:=Jo h;omega
theorem aaU{T N:List ByteArray}{b:Nat}{H:List It}{x:It}(h:Dx T N H x)(c:b+1+H.length<=T.length+N.length):yS T N b H x<T.length+N.length:=by
 unfold Dx at h;unfold yS
 split
 ·rename_i a;rw[de a]at h;omega
 ·rename_i a;rw[dk a]at h;exact SA h
theorem Y9{T N:List ByteArray}{b:Nat}{H:List It}{its:List It}(h:∀x∈its,Dx T N H x)(a:b+1+H.length<=T.length+N.length):∀s∈ng T N b H its,s<T.length+N.length:=by
 intro s d;obtain⟨x,c,rfl⟩:=ej.1 d;exact aaU (h x c) a
theorem aiG{n s m M L:Nat}{d:List (List Nat)}(f:s<M)(h:∀r∈d,r.length<=L/\∀x∈r,x<M):∀p∈nL n s m d,p.left=s/\p.right.length<=L+1/\∀x∈p.right,x<M:=by
 intro p a;unfold nL at a;rcases cY.1 a with a|a
 ·split at a
  ·rw[cM.1 a];exact⟨rfl,eR _,fun x c=>by cases c⟩
  ·cases a
 ·rcases cY.1 a with a | a
  ·split at a
   ·cases a
   ·obtain⟨r,b,rfl⟩:=ej.1 a
    exact⟨rfl,Nat.le_succ_of_le (h r b).1,(h r b).2⟩
  ·split at a
   ·obtain⟨r,b,rfl⟩:=ej.1 a
    refine⟨rfl,Nat.succ_le_succ (h r b).1,fun x c=>?_⟩;rcases ee.1 c with rfl|c
    ·exact f
    ·exact(h r b).2 x c
   ·cases a
theorem Za{T N:List ByteArray}{b M L:Nat}{H:List It}:∀(l:List It)(k:Nat),b+1+k+l.length<=M->(∀x∈l,∀r∈partsOf T N b H x,r.length<=L/\∀s∈r,s<M)->∀p∈oH T N b H k l,(b+1+k<=p.left/\p.left<b+1+k+l.length)/\p.right.length<=L+1/\∀x∈p.right,x<M
 | [],_,_,_,p,a=>by cases a
 |x::l,k,hb,h,p,a=>by
  rw[el]at hb|-;rcases cY.1 a with a|a
  ·obtain⟨h1,h2⟩:=aiG (s:=b+1+k) (by omega) (h x eh) p a
   exact⟨by omega,h2⟩
  ·obtain⟨h1,h2⟩:=Za l (k+1) (by omega) (fun y c=>h y (ev _ c)) p a
   exact⟨by omega,h2⟩
theorem aaV{d:Nat}{l:List Alt}{x:It}(h:x∈bB d l):x∈dh d l:=(ie.1 h).1
theorem ahi{g:Gr}(f:Fit g){r:Rl}(c:r∈g.rules){b:Nat}(l:b+1+(bB 9 r.alts).length<=(aD g).length+(bI g).length){x:It}(i:x∈dh 9 r.alts):∀q∈partsOf (aD g) (bI g) b (bB 9 r.alts) x,q.length<=2001/\∀s∈q,s<(aD g).length+(bI g).length:=by
 intro q d;unfold partsOf at d
 split at d
 ·obtain⟨a,j,rfl⟩:=ej.1 d
  refine⟨by unfold ng;rw[dt];exact(f.its c i).2 a j,Y9 (fun y k=>f.sym c (Sd (f.dp r c) i j k)) l⟩
 ·rename_i n
  rw[cM.1 d];refine⟨by simp,fun s m=>?_⟩;rw[cM.1 m];exact SA (f.plain c i n)
theorem aaW{l:List Alt}{a:Alt}(b:a∈l){x:It}(c:x∈a.1)(d:Nat):x∈dh (d+1) l:=Fe.2 ⟨a,b,x,c,.inl rfl⟩
theorem aiH{g:Gr}(f:Fit g){r:Rl}(d:r∈g.rules){b:Nat}(i:b+1+(bB 9 r.alts).length<=(aD g).length+(bI g).length):∀p∈sZ (aD g) (bI g) b r,(b<=p.left/\p.left<b+1+(bB 9 r.alts).length)/\p.right.length<=2002/\∀s∈p.right,s<(aD g).length+(bI g).length:=by
 intro p c;unfold sZ at c;rcases cY.1 c with c|c
 ·obtain⟨a,j,rfl⟩:=ej.1 c
  refine⟨⟨zL0,by show b<_;omega⟩,?_,Y9 (fun y k=>f.sym d (aaW j k 8)) i⟩;show (ng _ _ _ _ _).length<=_;unfold ng;rw[dt];have:=(f.alts d).2 a j;omega
 ·obtain⟨h1,h2⟩:=Za (M:=(aD g).length+(bI g).length) (L:=2001) _ 0 (by omega) (fun x l=>ahi f d i (aaV l)) p c
  exact⟨by omega,h2⟩
theorem Zb{g:Gr}(c:Fit g):∀(rs:List Rl)(b:Nat),(∀r∈rs,r∈g.rules)->b+(rs.flatMap jS).length<=(aD g).length+(bI g).length->∀p∈jN (aD g) (bI g) b rs,(b<=p.left/\p.left<b+(rs.flatMap jS).length)/\p.right.length<=2002/\∀s∈p.right,s<(aD g).length+(bI g).length
 | [],_,_,_,p,a=>by cases a
 |r::rs,b,hin,hb,p,a=>by
  have f:=EO r;rw[du,cH]at hb|-;rcases cY.1 a with a|a
  ·obtain⟨h1,h2⟩:=aiH c (hin r eh) (b:=b) (by omega) p a
   exact⟨by omega,h2⟩
  ·obtain⟨h1,h2⟩:=Zb c rs (b+1+(bB 9 r.alts).length) (fun q d=>hin q (ev _ d)) (by omega) p a
   exact⟨by omega,h2⟩
theorem Z8{g:Gr}(a:Fit g):1<=(g.rules.flatMap jS).length:=by
 have:=a.ne;cases hr:g.rules with
 |nil=>rw[hr]at this;simp at this
 |cons r rs=>
  rw[du,cH];have:=EO r;omega
theorem R6{g:Gr}(b:Fit g):∀p∈bJ g,((aD g).length<=p.left/\p.left<(aD g).length+(bI g).length)/\p.right.length<=2002/\∀s∈p.right,s<(aD g).length+(bI g).length:=by
 intro p a;have h1:=R5 g;have h2:=Z8 b;unfold bJ at a;rcases ee.1 a with rfl|a
 ·refine⟨⟨zL0,by show (aD g).length<_;omega⟩,by simp,fun s c=>?_⟩
  rw[cM.1 c];omega
 ·obtain⟨h3,h4⟩:=Zb b g.rules _ (fun r d=>d) (by omega) p a
  exact⟨by omega,h4⟩
theorem LZ(a:ByteArray):∀(bs l:List ByteArray),∃R,gH (a::l) bs=a::R
 | [],l=>⟨l,rfl⟩
 |b::bs,l=>by
  show ∃R,gH (jR (a::l) b) bs=a::R;unfold jR
  split
  ·exact LZ a bs l
  ·exact LZ a bs (l++[b])
theorem abR{a:ByteArray}{R:List ByteArray}{b:ByteArray}(h:a≠b):0<fix (a::R) b:=by
 unfold fix;rw[List.findIdx_cons];simp[h]
theorem SB(g:Gr){b:ByteArray}(h:isToken b=true):0<fix (aD g) b:=by
 obtain⟨R,e⟩:=LZ lq (lV g++g.rules.flatMap fun r=>uP 9 r.alts) [];unfold aD;rw[e];refine abR fun e=>?_
 subst e;exact absurd h (by decide)
theorem abS(g:Gr){b:ByteArray}(h:isName b=true):0<fix (bI g) b:=abR (aaC h)
theorem aki(g:Gr):0<(aD g).length:=by
 obtain⟨R,e⟩:=LZ lq (lV g++g.rules.flatMap fun r=>uP 9 r.alts) [];unfold aD;rw[e];simp
theorem ama{g:Gr}{H:List It}{b:Nat}{x:It}(d:tF x)(f:(aD g).length<b)(a:Dx (aD g) (bI g) H x):0<yS (aD g) (bI g) b H x/\yS (aD g) (bI g) b H x≠(aD g).length:=by
 unfold yS
 split
 ·omega
 ·rename_i c
  unfold Dx at a;rw[dk c]at a;unfold xq;unfold zT at a;rcases d with ⟨k,h1,-⟩|⟨k,h1,-⟩|k
  ·rw[dk (by omega)]
   have:=abS g h1;omega
  ·rw[de k]at a|-
   have:=SB g h1;have:=Jo a;omega
  ·exact absurd (by unfold hlp;simp[k]) c
theorem als{g:Gr}{x:It}(b:tF x)(c:x.kind≠2)(a:zT (aD g) (bI g) x):0<xq (aD g) (bI g) x/\xq (aD g) (bI g) x≠(aD g).length:=by
 unfold xq;unfold zT at a;rcases b with ⟨k,h1,-⟩|⟨k,h1,-⟩|k
 ·rw[dk (by omega)]
  have:=abS g h1;omega
 ·rw[de k]at a|-
  have:=SB g h1;have:=Jo a;omega
 ·exact absurd k c
theorem QW(n:Nat):∀(r:List Nat)(p:Int),r.foldl (fun p s=>if s<n then (s:Int) else p) p=p\/∃s∈r,s<n/\r.foldl (fun p s=>if s<n then (s:Int) else p) p=(s:Int)
 | [],p=>.inl rfl
 |s::r,p=>by
  rw[qr]
  by_cases h:s<n
  ·rw[de h]
   rcases QW n r (s:Int) with e|⟨u,a,h1,h2⟩
   ·exact .inr ⟨s,eh,h,e⟩
   ·exact .inr ⟨u,ev _ a,h1,h2⟩
  ·rw[dk h]
   rcases QW n r p with e|⟨u,a,h1,h2⟩
   ·exact .inl e
   ·exact .inr ⟨u,ev _ a,h1,h2⟩
def acJ(t n:Nat)(p:Pd):Prop:=(t<=p.left/\p.left<n)/\(∀s∈p.right,0<s/\s<n/\s≠t)/\-1<=p.prec/\p.prec<(t:Int)/\p.prec≠0
theorem Z9{t:Nat}(b:0<t){r:List Nat}(h:∀s∈r,0<s):-1<=oJ t r/\oJ t r<(t:Int)/\oJ t r≠0:=by
 unfold oJ;rcases QW t r (-1) with e|⟨s,a,h1,e⟩
 ·rw[e];omega
 ·rw[e]
  have:=h s a;omega
theorem Rv{t n s:Nat}(b:0<t){r:List Nat}(a:t<=s/\s<n)(h:∀s∈r,0<s/\s<n/\s≠t):acJ t n (bM t s r):=⟨a,h,Z9 b fun s a=>(h s a).1⟩
theorem ahj{n s m:Nat}{b:List (List Nat)}{p:Pd}:p∈nL n s m b↔((m=42\/m=63)/\p=bM n s [])\/(m≠42/\∃r∈b,p=bM n s r)\/((m=42\/m=43)/\∃r∈b,p=bM n s (s::r)):=by
 unfold nL;rw[cY,cY];refine or_congr ?_ (or_congr ?_ ?_)
 ·split
  ·rename_i h;simp[h]
  ·rename_i h;simp[h]
 ·split
  ·rename_i h;simp[h]
  ·rename_i h
   rw[ej];exact⟨fun⟨r,a,e⟩=>⟨h,r,a,e.symm⟩,fun⟨_,r,a,e⟩=>⟨r,a,e.symm⟩⟩
 ·split
  ·rename_i h
   rw[ej];exact⟨fun⟨r,a,e⟩=>⟨h,r,a,e.symm⟩,fun⟨_,r,a,e⟩=>⟨r,a,e.symm⟩⟩
  ·rename_i h;simp[h]
theorem Ym{T N:List ByteArray}{b:Nat}{H:List It}{p:Pd}:∀(l:List It)(k:Nat),p∈oH T N b H k l↔∃i,∃hi:i<l.length,p∈nL T.length (b+1+(k+i)) l[i].mark (partsOf T N b H l[i])
 | [],k=>by simp[oH]
 |x::l,k=>by
  rw[oH,cY,Ym l (k+1)];constructor
  ·rintro(h | ⟨i,hi,h⟩)
   ·exact⟨0,by simp,h⟩
   ·exact⟨i+1,by simpa using hi,by rw[show k+(i+1)=k+1+i by omega];exact h⟩
  ·rintro⟨i,hi,h⟩
   cases i with
   |zero=>exact .inl h
   |succ i=>exact .inr ⟨i,by simpa using hi,by rw[show k+1+i=k+(i+1) by omega];exact h⟩
theorem ahk{T N:List ByteArray}{b:Nat}{r:Rl}{p:Pd}:p∈sZ T N b r↔(∃a∈r.alts,p=rY T N b (bB 9 r.alts) a)\/∃k,∃hk:k<(bB 9 r.alts).length,p∈nL T.length (b+1+k) (bB 9 r.alts)[k].mark (partsOf T N b (bB 9 r.alts) (bB 9 r.alts)[k]):=by
 unfold sZ;rw[cY,ej,Ym];refine or_congr ⟨fun⟨a,c,e⟩=>⟨a,c,e.symm⟩,fun⟨a,c,e⟩=>⟨a,c,e.symm⟩⟩ ?_;simp only[fi]
def qQ(b:Nat)(rs:List Rl)(j:Nat):Nat:=b+((rs.take j).flatMap jS).length
theorem Yn{T N:List ByteArray}{p:Pd}:∀(rs:List Rl)(b:Nat),p∈jN T N b rs↔∃j,∃hj:j<rs.length,p∈sZ T N (qQ b rs j) rs[j]
 | [],b=>by simp[jN]
 |r::rs,b=>by
  rw[jN,cY,Yn rs];have a:∀j,qQ b (r::rs) (j+1)=qQ (b+1+(bB 9 r.alts).length) rs j:=fun j=>by
   unfold qQ;rw[List.take_succ_cons,du,cH,EO];omega
  constructor
  ·rintro(h | ⟨j,hj,h⟩)
   ·exact⟨0,by simp,by simpa [qQ]using h⟩
   ·exact⟨j+1,by simpa using hj,by rw[a];exact h⟩
  ·rintro⟨j,hj,h⟩
   cases j with
   |zero=>exact .inl (by simpa [qQ]using h)
   |succ j=>exact .inr ⟨j,by simpa using hj,by rw[<-a];exact h⟩
section
variable {g:Gr}
theorem abT(_hf:Fit g){j:Nat}(a:j<g.rules.length):(aD g).length<qQ ((aD g).length+1) g.rules j/\qQ ((aD g).length+1) g.rules j+1+(bB 9 g.rules[j].alts).length<=(aD g).length+(bI g).length:=by
 have h1:=R5 g;have h2:(g.rules.flatMap jS).length=((g.rules.take j).flatMap jS).length+((g.rules.drop j).flatMap jS).length:=by
  rw[<-cH,<-fL,mn]
 rw[eL a,du,cH,EO]at h2;unfold qQ;omega
theorem Zc(a:Fit g){j:Nat}(f:j<g.rules.length){its:List It}(h:∀x∈its,x∈dh 9 g.rules[j].alts):∀s∈ng (aD g) (bI g) (qQ ((aD g).length+1) g.rules j) (bB 9 g.rules[j].alts) its,0<s/\s<(aD g).length+(bI g).length/\s≠(aD g).length:=by
 intro s i;obtain⟨x,c,rfl⟩:=ej.1 i;have b:g.rules[j]∈g.rules:=dy f;have d:=abT a f;have h1:=ama ((a.rl _ b).2.1 x (h x c)) d.1 (a.sym b (h x c));exact⟨h1.1,aaU (a.sym b (h x c)) d.2,h1.2⟩
theorem ahl(b:Fit g){j:Nat}(k:j<g.rules.length){x:It}(f:x∈dh 9 g.rules[j].alts):∀r∈partsOf (aD g) (bI g) (qQ ((aD g).length+1) g.rules j) (bB 9 g.rules[j].alts) x,∀s∈r,0<s/\s<(aD g).length+(bI g).length/\s≠(aD g).length:=by
 intro r d;have c:g.rules[j]∈g.rules:=dy k;unfold partsOf at d
 split at d
 ·obtain⟨a,m,rfl⟩:=ej.1 d
  exact Zc b k fun y l=>Sd (b.dp _ c) f m l
 ·rename_i i
  rw[cM.1 d];intro s n;rw[cM.1 n];have h1:=als ((b.rl _ c).2.1 x f) i (b.plain c f i);exact⟨h1.1,SA (b.plain c f i),h1.2⟩
theorem aiI(f:Fit g):∀p∈bJ g,acJ (aD g).length ((aD g).length+(bI g).length) p:=by
 intro p c;have l:=aki g;unfold bJ at c;rcases ee.1 c with rfl|c
 ·have h1:=R5 g
  have h2:=Z8 f;refine⟨⟨zL0,by show (aD g).length<_;omega⟩,fun s b=>?_,by show (-1:Int)<=-1;omega,by show (-1:Int)<_;omega,by show (-1:Int)≠0;omega⟩;rw[cM.1 b];omega
 ·obtain⟨j,m,c⟩:=(Yn _ _).1 c
  have z:=abT f m;have t:g.rules[j]∈g.rules:=dy m;rcases ahk.1 c with ⟨a,n,rfl⟩|⟨k,y,c⟩
  ·have i:=Zc f m (its:=a.1) fun x u=>aaW n u 8
   refine⟨⟨by show _<=qQ _ _ _;omega,by show qQ _ _ _<_;omega⟩,i,?_⟩;unfold rY;simp only
   split
   ·exact Z9 l fun s b=>(i s b).1
   ·rename_i q
    have h1:=f.prec t n q;have h2:=Jo h1;have h3:isToken a.2.1=true:=by
     rcases (f.rl _ t).2.2 a n with h|h
     ·exact absurd h q
     ·exact h
    have h4:=SB g h3;omega
  ·have v:(bB 9 g.rules[j].alts)[k]∈dh 9 g.rules[j].alts:=aaV (dy y)
   have i:=ahl f m v;have b:(aD g).length<=qQ ((aD g).length+1) g.rules j+1+k/\qQ ((aD g).length+1) g.rules j+1+k<(aD g).length+(bI g).length:=by omega
   rcases ahj.1 c with ⟨-,rfl⟩|⟨-,r,o,rfl⟩|⟨-,r,o,rfl⟩
   ·exact Rv l b fun s b=>by cases b
   ·exact Rv l b (i r o)
   ·refine Rv l b fun s d=>?_
    rcases ee.1 d with rfl|d
    ·omega
    ·exact i r o s d
end
structure om(P:List Pd)(sz st:Nat):Prop where
 len:P.length<=200
 pos:0<P.length
 rgt:∀p∈P,p.right.length<=2002
 sym:∀p∈P,∀s∈p.right,s<sz/\s≠st
 lft:∀p∈P,p.left<sz
 fst:P[0]?.map Pd.left=some st
 szm:sz<=100000
theorem Tg{P:List Pd}{s:au}{n:Nat}(h:eT P s=some n):s.1<P.length/\s.2<(cZ P s.1).length:=by
 unfold eT at h;have h2:=(cG.1 h).1;refine⟨?_,h2⟩;apply jz;intro a;unfold cZ at h2;rw[ld (by omega)]at h2;simp at h2
theorem Nu{P:List Pd}{sz st:Nat}(a:om P sz st){s:au}{n:Nat}(h:eT P s=some n):n<sz/\n≠st:=by
 have h1:=(Tg h).1;unfold eT cZ at h;rw[cF h1]at h;exact a.sym _ (dy h1) n (cQ h)
theorem abU{P:List Pd}{sz st:Nat}(a:om P sz st)(k:Nat):(cZ P k).length<=2002:=by
 unfold cZ;cases h:P[k]? with
 |none=>simp
 |some p=>exact a.rgt p (cQ h)
theorem om.aee{P:List Pd}{sz st:Nat}(a:om P sz st):Om P st:=fun _ _ h=>(Nu a h).2
structure sK(P:List Pd)(i:Nat)(K:List au):Prop where
 AZ:∀s∈K,s.1<P.length/\s.2<=(cZ P s.1).length/\(s.2=0->s.1=0)
 len:K.length<=1+i*200
theorem abV{P:List Pd}{n:Nat}:∀(C o:List au),(C.foldl (yY P n) o).length<=o.length+C.length
 | [],o=>by simp
 |s::C,o=>by
  rw[qr];have h1:=abV (P:=P) (n:=n) C (yY P n o s);have h2:=akc (P:=P) (n:=n) (o:=o) (s:=s);simp only[el];omega
theorem sK.jl{P:List Pd}{sz st:Nat}(a:om P sz st){i:Nat}{K:List au}(h:sK P i K)(n:Nat){j:Nat}(c:i<j):sK P j (jl P K n):=by
 refine⟨fun s b=>?_,?_⟩
 ·obtain⟨t,-,h1,rfl⟩:=FB.1 b
  obtain⟨h2,h3⟩:=Tg h1;exact⟨h2,h3,fun e=>absurd e (Nat.succ_ne_zero _)⟩
 ·have h1:=abV (P:=P) (n:=n) (jD P K) []
  have h2:=alr P K;have h3:=h.len;have h4:=a.len;have:(Lx.jl P K n).length<=[].length+(jD P K).length:=h1;simp only[iu]at this;omega
theorem sK.zero{P:List Pd}{sz st:Nat}(b:om P sz st){i:Nat}{K:List au}(h:sK P i K):∀s∈K,s.2=0->P[s.1]?.map Pd.left=some st:=fun s a e=>by rw[(h.AZ s a).2.2 e];exact b.fst
theorem sK.first{P:List Pd}{sz st:Nat}(b:om P sz st):sK P 0 [(0,0)]:=by
 refine⟨fun s a=>?_,by simp⟩;rw[cM]at a;subst a;exact⟨b.pos,eR _,fun _=>rfl⟩
def sM(P:List Pd)(S:bX):Prop:=∀j K,S.ks[j]?=some K->sK P j K
theorem sM.first{P:List Pd}{sz st:Nat}(a:om P sz st):sM P ⟨[[(0,0)]],[]⟩:=by
 intro j K h;cases j with
 |zero=>cases h;exact sK.first a
 |succ j=>simp at h
theorem sM.edge{P:List Pd}{sz st:Nat}(g:om P sz st){S:bX}(h:sM P S){i:Nat}{K:List au}(c:S.ks[i]?=some K)(n:Nat):sM P (edge P i K S n):=by
 unfold Lx.edge
 split
 ·exact h
 ·split
  ·exact h
  ·intro j f a
   rw[jj]at a
   split at a
   ·exact h j f a
   ·rename_i d
    have k:=(cG.1 c).1;have b:j=S.ks.length:=by
     have:=(cG.1 a).1;simp at this;omega
    subst b;simp at a;subst a;exact(h i K c).jl g n k
theorem abW{P:List Pd}{i:Nat}{K:List au}{S:bX}{n j:Nat}{b:List au}(h:S.ks[j]?=some b):(edge P i K S n).ks[j]?=some b:=by
 obtain⟨a,c⟩:=aiq (P:=P) (i:=i) (K:=K) (S:=S) (n:=n);rw[c,eC (cG.1 h).1];exact h
theorem akj{P:List Pd}{i:Nat}{K:List au}{S:bX}{n:Nat}:(edge P i K S n).ks.length<=S.ks.length+1/\(edge P i K S n).es.length<=S.es.length+1:=by
 unfold edge
 split
 ·exact⟨by omega,by omega⟩
 ·split
  ·simp
  ·simp
theorem aiJ{P:List Pd}{sz i:Nat}{S:bX}{K:List au}(b:i<=300)(a:S.ks[i]?=some K):xC P sz (302-i) i S=if 300<(leave P i K S (List.range sz)).ks.length then none else xC P sz (302 - (i+1)) (i+1) (leave P i K S (List.range sz)):=by
 obtain⟨h1,h2⟩:=cG.1 a;rw[show 302-i=(302 - (i+1))+1 by omega,xC,dif_pos h1,h2]
theorem akk{P:List Pd}{sz i:Nat}{S:bX}(b:i<=300)(a:S.ks.length<=i):xC P sz (302-i) i S=some S:=by
 rw[show 302-i=(302 - (i+1))+1 by omega,xC,dif_neg (by omega)]
theorem akl{l:List (List au)}{k:List au}(h:∀(j:Nat)(x:List au),l[j]?=some x->x≠k):jm l k=l.length:=by
 unfold jm;rw[List.findIdx_eq_length];intro x b;obtain⟨j,a⟩:=eQ.1 b;simpa using h j x a
end Lx
theorem amb{g:Lx.Gr}(a:Lx.Fit g)(d:(bJ g).length<=200):om (bJ g) ((aD g).length+(bI g).length) (aD g).length:=by
 refine⟨d,by simp[bJ],fun p b=>(R6 a p b).2.1,fun p b s c=>⟨(R6 a p b).2.2 s c,((aiI a p b).2.1 s c).2.2⟩,fun p b=>(R6 a p b).1.2,rfl,by have:=a.TQ;have:=a.adB;omega⟩
theorem amc{w:World}{B B' e i z o:Nat}{v j:Value}{n k:Nat}{q f:List Value}(h:w.ownsRow B e z v n q)(p:w.ownsRow B' i o j k f)(d:e≠i){g:Nat}(l:v.ownBlock=some g):j.ownBlock≠some g:=by
 intro b;obtain⟨c,m⟩:=eU h l;obtain⟨r,a⟩:=eU p b;rw[m]at a;injection a with a
 injection a with _ h2
 exact d h2
theorem EX{w w':World}{B B' e d z l:Nat}{v f:Value}{n j:Nat}{i c:List Value}(h:w.ownsRow B e z v n i)(m:w.ownsRow B' d l f j c)(b:e≠d)(k:w.grownBy w' f.ownBlock):w'.ownsRow B e z v n i :=
 aC h fun g a=>k.block g (p6 h g a).2 (fun e=>amc h m b a e.symm)
def Lj(x:Option Addr×Nat×Nat):Value:=.slice x.1 x.2.1 x.2.2
def Ll(x:(Option Addr×Nat×Nat)×List au):List Value:=[Lj x.1]
theorem acK:uQ Ll 1:=⟨fun _=>rfl,fun x u a=>by simp only[Ll,cM]at a;subst a;rfl⟩
def jA(S T B:Nat)(w:World)(v:Value)(ks:List (List au)):Prop:=∃xs:List ((Option Addr×Nat×Nat)×List au),xs.map Prod.snd=ks/\aN S 1 Ll B w v xs/\∀x∈xs,aN T 2 iJ B w (Lj x.1) x.2
theorem jA.len{S T B:Nat}{w:World}{v:Value}{ks:List (List au)}(h:jA S T B w v ks):∃a c,v=.slice a ks.length c/\ks.length<=maxLen:=by
 obtain⟨b,rfl,h2,-⟩:=h;rw[dt];exact aB h2
theorem jA.below{S T B:Nat}{w w':World}{v:Value}{ks:List (List au)}(h:jA S T B w v ks)(a:Below w.heap.size w w'):jA S T B w' v ks:=by
 obtain⟨c,h1,h2,h3⟩:=h;exact⟨c,h1,h2.below a,fun x b=>(h3 x b).below a⟩
theorem jA.grown{S T B B' e z n:Nat}{w w':World}{v a:Value}{d:List Value}{ks:List (List au)}(h:jA S T B w v ks)(c:w.ownsRow B' e z a n d)(g:S≠e)(i:T≠e)(b:w.grownBy w' a.ownBlock):jA S T B w' v ks:=by
 obtain⟨j,h1,h2,h3⟩:=h;exact⟨j,h1,EX h2 c g b,fun x f=>EX (h3 x f) c i b⟩
theorem jA.at{S T B:Nat}{w:World}{v:Value}{ks:List (List au)}(h:jA S T B w v ks){j:Nat}{K:List au}(i:ks[j]?=some K):∃g cap a c,v=.slice (some ⟨g,0,none⟩) ks.length cap/\g<w.heap.size/\w.cell? ⟨g,j,none⟩=some (.slice a K.length c)/\aN T 2 iJ B w (.slice a K.length c) K:=by
 obtain⟨n,rfl,h2,h3⟩:=h;rw[dj]at i;obtain⟨x,hx,rfl⟩:=mL.1 i;obtain⟨d,b⟩:=cG.1 hx;obtain⟨g,cap,k,-,l,m⟩:=aN.at acK h2 d;have h4:=h3 x (cQ hx);obtain⟨a,c,f,-⟩:=aB h4;rw[f]at h4;refine⟨g,cap,a,c,by rw[dt];exact k,l,?_,h4⟩;have:=m 0 (Lj x.1) (by decide) (by rw[b];rfl);rw[jt,lP,f]at this;exact this
theorem jA.push{S T B:Nat}{w w':World}{v d:Value}{c:List ((Option Addr×Nat×Nat)×List au)}{x:(Option Addr×Nat×Nat)×List au}(h2:aN S 1 Ll B w v c)(h3:∀x∈c,aN T 2 iJ B w (Lj x.1) x.2)(g:aN T 2 iJ B w (Lj x.1) x.2)(b:T≠S)(f:w.grownBy w' v.ownBlock)(i:aN S 1 Ll B w' d (c++[x])):jA S T B w' d (c.map Prod.snd++[x.2]):=by
 refine⟨c++[x],by simp,i,fun y a=>?_⟩;rcases cY.1 a with a|a
 ·exact EX (h3 y a) h2 b f
 ·rw[cM]at a
  subst a;exact EX g h2 b f
def uZ(e:KW):List Value:=[.int .i64 (e.1:Int),.int .i64 (e.2.1:Int),.int .i64 (e.2.2:Int)]
namespace Lx
def mW(sz:Nat)(E:List Nat):List Bool:=(List.range sz).map fun n=>decide (n∈E)
theorem alu(sz:Nat)(E:List Nat):(mW sz E).length=sz:=by simp[mW]
theorem amd{sz n:Nat}{E:List Nat}(h:n<sz):aJ (mW sz E) n=decide (n∈E):=by simp[aJ,mW,h]
theorem alv(sz:Nat):mW sz []=List.replicate sz false:=by
 apply mi
 ·simp[mW]
 ·intro i h1 h2;simp[mW]
theorem alx{sz n:Nat}{E:List Nat}:(mW sz E).set n true=mW sz (n::E):=by
 apply mi
 ·simp[mW]
 ·intro i h1 h2
  simp only[mW,dt,sX]at h2;rw[ti];simp only[mW,oi,List.getElem_range,ee]
  by_cases e:n=i
  ·subst e;simp
  ·have:¬i=n:=fun h=>e h.symm
   simp[e,this]
structure kJ(P:List Pd)(st:Nat)(K l:List au)(E:List Nat)(j:Nat):Prop where
 zok:oZ P K l
 jD:Ab P st l E
 AZ:∀s∈l,s.1<P.length/\s.2<=(cZ P s.1).length
 run:∀r,Cb P l E j r->Cb P K [] 0 r
theorem kJ.first{P:List Pd}{sz st:Nat}(b:om P sz st){i:Nat}{K:List au}(h:sK P i K):kJ P st K K [] 0:=⟨oZ.refl P K,Ab.kernel (h.zero b),fun s a=>⟨(h.AZ s a).1,(h.AZ s a).2.1⟩,fun _ h=>h⟩
theorem kJ.step{P:List Pd}{sz st:Nat}(c:om P sz st){K l:List au}{E:List Nat}{j:Nat}(h:kJ P st K l E j)(d:j<l.length):kJ P st K (qA P (eT P l[j]) l E).1 (qA P (eT P l[j]) l E).2 (j+1):=by
 obtain⟨h1,h2⟩:=h.jD.same c.aee l[j];refine⟨by rw[<-h1];exact h.zok.add _,h2,fun s a=>?_,fun r b=>h.run r (.step d b)⟩;rw[<-h1]at a;cases hb:eT P l[j] with
 |none=>rw[hb,MC]at a;exact h.AZ s a
 |some n=>
  rw[hb,Np]at a;rcases cY.1 a with a|a
  ·exact h.AZ s a
  ·obtain⟨g,f,-⟩:=EW.1 (ie.1 a).1
   exact⟨f,by omega⟩
theorem kJ.known{P:List Pd}{st:Nat}{K l:List au}{E:List Nat}{j n:Nat}(h:kJ P st K (qA P (some n) l E).1 (qA P (some n) l E).2 j)(a:n∈E):kJ P st K l E j:=by
 unfold qA at h;simp only[de a]at h;exact h
theorem kJ.new{P:List Pd}{st:Nat}{K l:List au}{E:List Nat}{j n:Nat}(h:kJ P st K (qA P (some n) l E).1 (qA P (some n) l E).2 j)(a:n∉E):kJ P st K (l++fG P n P.length) (n::E) j:=by
 unfold qA at h;simp only[dk a]at h;exact h
theorem kJ.done{P:List Pd}{sz st:Nat}(a:om P sz st){i:Nat}{K l:List au}(b:sK P i K){E:List Nat}{j:Nat}(h:kJ P st K l E j)(c:l.length<=j):l=Lx.jD P K:=(h.run l (.done c)).jD a.aee (b.zero a)
end Lx
theorem Tryz.Nv:(prog.info? 160).map (fun i=>(i.zero,i.size,i.bytes))=some (some (.agg #[.int .i64 0,.int .i64 0]),2,16):=by kernel_rfl
theorem Tryz.Ik:prog.underlying 161=some (.slice 160):=by kernel_rfl
theorem agj{n:Nat}(g:n<=100000)(w:World):(Instr.makeSlice 142 (.int .i64 (n:Int)) (.int .i64 (n:Int))).run prog w=.ok (.slice (some ⟨w.heap.size,0,none⟩) n n) (w.alloc (.cells (bE (List.replicate n false)) 4)):=by
 obtain⟨d,f,a,c,b⟩:=fd Tryz.NK;have h:=pj (P:=prog) w 142 4 d _ (by kernel_rfl) f a .i64 .i64 (n:Int) (n:Int) (by omega) (nh _) (by rw[b];omega) (by omega);rw[h,gz,c];have e:Value.cells (.bool false)=#[.bool false]:=rfl;rw[e,QN]
theorem ahm{w:World}{B:Nat}{v:Value}{K:List au}(h:aN 160 2 iJ B w v K)(N:K.length<=1000000):Calls prog 170 #[v] w fun e w'=>∃v',e=.returned v'/\aN 160 2 iJ w.heap.size w' v' K/\Below w.heap.size w w':=by
 obtain⟨G,C,s,q,z⟩:=fd Tryz.Nv;have D:∀(w:World)(a:Option Addr)(n c o r:Nat),(binOp .eql 161 (.slice a n c) (.slice none o r)).run prog w=.ok (.bool a.isNone) w:=fun w a n c o r=>Lib.run_eql_slice_nil w _ _ a n c o r Tryz.Ik
 have m:=h;unfold aN at m;rcases m.2 with ⟨rfl,d⟩|⟨A,i,E,rfl,x,p,t,y,-,-⟩
 ·obtain rfl:K=[]:=fY d
  go_enter func170,ntmps170;go_wp2_with fail;go_ret;exact⟨_,rfl,eE _ _ _ _,cV _ _⟩
 ·have l:=ml m (g:=A) rfl
  have F:Hid (∀(j:Nat)(u:Value),(K.flatMap iJ)[j]?=some u->w.cell? ((⟨A,0,none⟩:Addr).add j)=some u):=l;clear l m x p t y;go_enter func170,ntmps170
  go_wp2_with (at_builtin;go_loud (refine ge _ rfl _ _ 161 rfl w.heap.size 160 G _ 2 16 Tryz.Ik C s q z rfl (by decide) _ 0 [] rfl (World.ownsRow_made w #[] 0 (zL0) (eR _) rfl) ⟨A,0,none⟩ K.length i (K.flatMap iJ) rfl (Cc.JR K) (fun j u H=>Lib.cell?_alloc_some _ (F.out j u H)) (Cc.anp K) (by unfold maxLen;omega) (by omega) (by simp) ?_;intro J M b L _ _))
  go_ret;rw[fi]at b;exact⟨J,rfl,b,((cV _ w).alloc (zL0) _).grown L (by simp) (by intro k I;have f:some w.heap.size=some k:=I;injection f with f;omega)⟩
def NT(w:World)(C:List au)(e:Ending)(w':World):Prop:=∃v,e=.returned v/\aN 160 2 iJ w.heap.size w' v C/\Below w.heap.size w w'
theorem NT.mk{w:World}{C:List au}{e:Ending}{w':World}(v:Value)(a:e=.returned v)(h:aN 160 2 iJ w.heap.size w' v C)(b:Below w.heap.size w w'):NT w C e w':=⟨v,a,h,b⟩
theorem Lx.aiK{P:List Lx.Pd}{n q:Nat}(a:q<P.length)(h:P[q].left=n):fG P n (q+1)=fG P n q++[(q,0)]:=by
 rw[fG,de (by simp[a,h])]
theorem Lx.akm{P:List Lx.Pd}{n q:Nat}(a:q<P.length)(h:¬P[q].left=n):fG P n (q+1)=fG P n q:=by
 rw[fG,dk (by simp[a,h]),eN]
theorem afz{D:Nat->Prop}{w:World}{f:Nat}{ta na:Option Addr}{nT tc nN nc i st:Nat}{vP vB vQ vm vk ve vK:Value}{P:List Lx.Pd}{K:List au}{B0:Nat}(kF:aj w f #[.slice ta nT tc,.slice na nN nc,vP,vB,vQ,vm,vk,ve] 157)(hP:PP D w vP P)(W:om P (nT+nN) st)(hK:aN 160 2 iJ B0 w vK K)(ap:sK P i K)(bb:K.length<=100000):Calls prog 143 #[.pointer (some ⟨f,0,none⟩),vK] w (NT w (jD P K)):=by
 obtain⟨pa,pc,rfl,-⟩:∃a c,vP=.slice a P.length c/\P.length<=maxLen:=by obtain⟨ps,h1,h2,-⟩:=hP;exact aB h2
 have UC:=W.szm;have aG:=W.len;have ag:IntKind.i64.wrap ((nT:Int)+(nN:Int))=(nT:Int)+(nN:Int):=by rw[gw];omega
 obtain⟨g,hsz⟩:∃g,g=nT+nN:=⟨_,rfl⟩;have aw:∀wx:World,(Instr.makeSlice 142 (.int .i64 ((nT:Int)+(nN:Int))) (.int .i64 ((nT:Int)+(nN:Int)))).run prog wx=.ok (.slice (some ⟨wx.heap.size,0,none⟩) g g) (wx.alloc (.cells (bE (mW g [])) 4)):=fun wx=>by
  have:=agj (n:=nT+nN) UC wx;rw[alv,hsz];rw[pt]at this;exact this
 rw[<-hsz]at W UC;have ah:Hid (kJ P st K K [] 0):=kJ.first W ap;have aq:Hid (∀(l:List au)(E:List Nat)(j:Nat),kJ P st K l E j->l.length<=j->l=jD P K):=fun l E j h hj=>h.done W ap hj
 have ar:Hid (∀(l:List au)(E:List Nat)(j:Nat)(h:j<l.length),kJ P st K l E j->kJ P st K (qA P (eT P l[j]) l E).1 (qA P (eT P l[j]) l E).2 (j+1)):=fun l E j h hI=>hI.step W h
 have a0:Hid (∀(s:au)(n:Nat),eT P s=some n->n<g):=fun s n h=>(Nu W h).1
 have q1:=ahm hK (by omega);have L:=kF.lt;go_enter func143,ntmps143;go_upto_region 2 with (go_at_call 170;refine q1.mono ?_;rintro e w1⟨v1,rfl,an,U⟩)
 clear q1;have o9:aj w1 f _ 157:=(U.block _ L).trans kF;have d0:w1.cell? ⟨f,0,none⟩=some (.slice ta nT tc):=o9.cell 0;have d1:w1.cell? ⟨f,1,none⟩=some (.slice na nN nc):=o9.cell 1;have a5:=U.size;clear hsz
 go_region
 obtain⟨W2,C⟩:∃V,V=(w1.alloc (.cells (bE (mW g [])) 4)).drew:=⟨_,rfl⟩;have ao:aj W2 w1.heap.size (bE (mW g [])) 4:=by rw[C];exact(aj.new w1 _ 4).drew
 have qW:Below w1.heap.size w1 W2:=by rw[C];exact((cV _ _).alloc (zL0) _).drew
 have ae:aN 160 2 iJ w.heap.size W2 v1 K:=aN.below an qW;have am:Below w.heap.size w W2:=U.trans (qW.mono (by omega));rw[<-C];clear C qW an o9 d0 d1 aw ag;generalize rE:w1.heap.size=ob at *;clear rE;go_wp2_with fail
 go_loopg [5,7] (K.length+P.length+1) (fun m v iv wr=>∃(j:Nat)(l:List au)(E:List Nat),j+m=K.length+P.length+1/\iv=.int .i64 (j:Int)/\j<=l.length/\aN 160 2 iJ w.heap.size wr v l/\aj wr ob (bE (mW g E)) 4/\Below w.heap.size w wr/\Hid (kJ P st K l E j))
 case atStart=>exact⟨0,K,[],by omega,rfl,eR _,ae,ao,am,ah⟩
 case round=>
  clear ae ao am ah;revert wr;intro wz hrel;obtain⟨j,l,E,ba,rfl,a9,hL,kO,t,HI⟩:=hrel;obtain⟨la,lc,rfl,-⟩:∃a c,_=Value.slice a l.length c/\l.length<=maxLen:=aB hL;have a7:=HI.out.zok.len;have hsz:=t.size
  by_cases hlt:j<l.length
  ·obtain⟨gL,aH,hv,-,aF,N⟩:=aN.at Cc hL hlt
   cases hv;have c0:=N 0 _ (by decide) rfl;have c1:=N 1 _ (by decide) rfl;have z:=HI.out.AZ l[j] (dy hlt);have A:=ar.out l E j hlt HI.out;have d:eT P l[j]=(cZ P l[j].1)[l[j].2]?:=rfl;clear N HI;generalize l[j]=sp at c0 c1 z A d;obtain⟨B,k⟩:=sp;simp only[lP]at c0 c1 z d;have M:B<P.length:=z.1;have ax:k<=P[B].right.length:=by have:=z.2;rw[Jk M]at this;exact this
   obtain⟨gP,az,u,Y,O,-,x1,-⟩:=(hP.below t).at M;cases Y;rw[Jk M]at d;clear z;obtain⟨ua,uc,rfl,-⟩:∃a c,u=Value.slice a P[B].right.length c/\P[B].right.length<=maxLen:=aB O;generalize P[B].right=r at O x1 ax d;have Lm:aj wz f _ 157:=(t.block _ L).trans kF;have d2:wz.cell? ⟨f,2,none⟩=some (.slice (some ⟨gP,0,none⟩) P.length pc):=Lm.cell 2;have i1:(0:Int)<=(j:Int):=by omega
   have i2:(j:Int)<(l.length:Int):=by omega
   have i3:(0:Int)<=(B:Int):=by omega
   have i4:(B:Int)<(P.length:Int):=by omega
   go_wp2_with fail
   go_quiet (fail)
   obtain⟨x,G⟩:∃V,V=wz.drewN nq:=⟨_,rfl⟩;have e0:x.cell? ⟨gL,j*2,none⟩=some (.int .i64 (B:Int)):=by rw[G];exact c0
   have e1:x.cell? ⟨gL,j*2+1,none⟩=some (.int .i64 (k:Int)):=by rw[G];exact c1
   have Q:Below w.heap.size w x:=by rw[G];exact t.trans ⟨rfl,rfl,rfl,zL0,fun _ _=>rfl⟩
   have EA:aN 160 2 iJ w.heap.size x (.slice (some ⟨gL,0,none⟩) l.length lc) l:=by rw[G];exact hL
   have GV:aj x ob (bE (mW g E)) 4:=by rw[G];exact kO
   have CV:IR 0 x (.slice ua r.length uc) r:=by rw[G];exact O
   have a3:x.cell? ⟨f,2,none⟩=some (.slice (some ⟨gP,0,none⟩) P.length pc):=by rw[G];exact d2
   rw[<-G];clear G c0 c1 hL kO O x1 d2 Lm
   by_cases hd:k=r.length
   ·have o:Hid (kJ P st K l E (j+1)):=by rw[d,ld (by omega)]at A;exact A
    have i5:((k:Int) == (r.length:Int))=true:=by simp[hd]
    have i6:(k:Int)=(r.length:Int):=by omega
    clear A d hd CV;go_wp2_with fail;go_roundg (K.length+P.length+1 - (j+1))
    case measure=>omega
    case rel=>exact⟨j+1,l,E,by omega,by go_num,by omega,EA,GV,Q,o⟩
   ·have al:k<r.length:=by omega
    obtain⟨gU,bc,a1,-,cU⟩:=CV.at al;cases a1;have R:eT P (B,k)=some r[k]:=by rw[d,cF al]
    have J:=a0.out _ _ R;rw[R]at A;have i5:((k:Int) == (r.length:Int))=false:=zB0 (by omega);have i6:¬(k:Int)=(r.length:Int):=by omega
    have aE:¬k=r.length:=hd;have i7:(0:Int)<=(k:Int):=by omega
    have i8:(k:Int)<(r.length:Int):=by omega
    clear R d hd;generalize r[k]=n at cU J A;have i9:(0:Int)<=(n:Int):=by omega
    have aI:(n:Int)<(g:Int):=by omega
    have o0:x.cell? ⟨ob,n,none⟩=some (.bool (decide (n∈E))):=by rw[GV.cell n,qM _ (by rw[alu];exact J),amd J]
    have o1:x.frozen? ⟨ob,n,none⟩=false:=GV.frozen n
    by_cases PU:n∈E
    ·rw[fh PU]at o0
     have o:Hid (kJ P st K l E (j+1)):=kJ.known A PU;clear A CV;go_wp2_with fail;go_roundg (K.length+P.length+1 - (j+1))
     case measure=>omega
     case rel=>exact⟨j+1,l,E,by omega,by go_num,by omega,EA,GV,Q,o⟩
    ·rw[eV PU]at o0
     have o:Hid (kJ P st K (l++fG P n P.length) (n::E) (j+1)):=kJ.new A PU;clear A CV;obtain⟨I,y⟩:∃V,V=x.setCell ⟨ob,n,none⟩ (.bool true):=⟨_,rfl⟩;have ai:aj I ob (bE (mW g (n::E))) 4:=by rw[y,<-alx,<-Di];exact GV.set n _
     have Uu:∀b,b≠ob->I.heap[b]?=x.heap[b]?:=fun b hb=>by rw[y];exact zS0 hb
     have ac:aN 160 2 iJ w.heap.size I (.slice (some ⟨gL,0,none⟩) l.length lc) l:=aC EA fun b hb=>Uu b (own_ne EA GV (by decide) b hb)
     have T:Below w.heap.size w I:=by rw[y];exact Q.setCell (p:=⟨ob,n,none⟩) a5 _
     have av:I.cell? ⟨f,2,none⟩=some (.slice (some ⟨gP,0,none⟩) P.length pc):=by
      have zB:aj I f _ 157:=(T.block _ L).trans kF;exact zB.cell 2
     go_upto_region 10 with fail
     rw[<-y];clear y Uu o0 o1 e0 e1 cU a3;go_wp2_with fail;have H:aN 160 2 iJ w.heap.size I (.slice (some ⟨gL,0,none⟩) l.length lc) (l++fG P n 0):=by rw[show l++fG P n 0=l from eN l];exact ac
     go_loopg [5,85] P.length (fun m v iv wr=>∃q:Nat,q+m=P.length/\iv=.int .i64 (q:Int)/\aN 160 2 iJ w.heap.size wr v (l++fG P n q)/\aj wr ob (bE (mW g (n::E))) 4/\Below w.heap.size w wr)
     case atStart=>exact⟨0,by omega,rfl,H,ai,T⟩
     case round=>
      clear ac H ai T av;revert wr;intro wr hrel;obtain⟨q,a8,rfl,PV,af,F⟩:=hrel;obtain⟨X,hX⟩:∃X,X=l++fG P n q:=⟨_,rfl⟩;rw[<-hX]at PV;have aA:X.length<=1000000:=by have:=ZW (P:=P) (n:=n) q;rw[hX,cH];omega
      have a4:j+1<=X.length:=by rw[hX,cH];omega
      have HX:Hid (X=l++fG P n q):=hX;clear hX;obtain⟨ra,rc,rfl,-⟩:∃a c,_=Value.slice a X.length c/\X.length<=maxLen:=aB PV;have a6:=F.size
      by_cases uV:q<P.length
      ·obtain⟨aP,az,u,Y,O,x0,x1,x2⟩:=(hP.below F).at uV
       cases Y;obtain⟨ak,ab,rfl,-⟩:∃a c,u=Value.slice a P[q].right.length c/\P[q].right.length<=maxLen:=aB O;clear O;have j1:(0:Int)<=(q:Int):=by omega
       have j2:(q:Int)<(P.length:Int):=by omega
       have HY:Hid (P[q].left=n->fG P n (q+1)=fG P n q++[(q,0)]):=aiK uV;have HN:Hid (¬P[q].left=n->fG P n (q+1)=fG P n q):=akm uV;obtain⟨Z,zl⟩:∃V,V=wr.alloc (.cells #[.int .i64 (P[q].left:Int),.slice ak P[q].right.length ab,.int .i64 P[q].prec] 120):=⟨_,rfl⟩;have aa:Below wr.heap.size wr Z:=by rw[zl];exact(cV _ _).alloc (zL0) _
       have ad:aj Z wr.heap.size #[.int .i64 (P[q].left:Int),.slice ak P[q].right.length ab,.int .i64 P[q].prec] 120:=by rw[zl];exact aj.new wr _ 120
       have S:aN 160 2 iJ w.heap.size Z (.slice ra X.length rc) X:=PV.below aa;have Wh:aj Z ob (bE (mW g (n::E))) 4:=by rw[zl];exact af.alloc _
       have DW:Below w.heap.size w Z:=F.trans (aa.mono a6);have aW:=DW.size;have y0:Z.cell? ⟨wr.heap.size,0,none⟩=some (.int .i64 (P[q].left:Int)):=ad.cell 0;clear ad;generalize P[q].left=lf at *;generalize P[q].prec=pf at *;generalize P[q].right.length=rl at *;go_upto_region 13 with fail
       rw[<-zl];clear zl x0 x1 x2
       by_cases hc:lf=n
       ·have HE:Hid (fG P n (q+1)=fG P n q++[(q,0)]):=HY.out hc
        have k1:((lf:Int) == (n:Int))=true:=by simp[hc]
        have k2:(lf:Int)=(n:Int):=by omega
        clear HY HN hc
        go_wp2_with (at_builtin;go_loud (refine MW Tryz.Nv Tryz.Ik rfl (by decide) Cc rfl _ _ rfl w.heap.size (by simp;omega) _ X rfl (aN.below S ((cV _ _).alloc (zL0) _)) (q,0) _ 1 rfl (dI (aj.new _ _ 160)) (by unfold maxLen;omega) (by omega) ?_;intro v8 w8 CW nZ A8 GD))
        have a2:aj w8 ob (bE (mW g (n::E))) 4:=(Wh.alloc _).grown A8 (fun e=>own_ne (aN.below S ((cV _ _).alloc (zL0) (.cells #[.int .i64 (q:Int),.int .i64 0] 160))) (Wh.alloc _) (by decide) ob e.symm rfl);go_roundg (P.length - (q+1))
        case measure=>omega
        case rel=>exact⟨q+1,by omega,by go_num,by rw[HE.out,<-dq,<-HX.out];exact CW,a2,DW.trans (((cV _ Z).alloc (by omega) _).trans nZ)⟩
       ·have HE:Hid (fG P n (q+1)=fG P n q):=HN.out hc
        have k1:((lf:Int) == (n:Int))=false:=zB0 (by omega);have k2:¬(lf:Int)=(n:Int):=by omega
        have k3:¬lf=n:=hc;clear HY HN hc;go_wp2_with fail;go_roundg (P.length - (q+1))
        case measure=>omega
        case rel=>exact⟨q+1,by omega,by go_num,by rw[HE.out,<-HX.out];exact S,Wh,DW⟩
      ·obtain rfl:q=P.length:=by omega
       have j2:¬(P.length:Int)<(P.length:Int):=by omega
       go_wp2_with fail;go_roundg (K.length+P.length+1 - (j+1))
       case measure=>omega
       case rel=>exact⟨j+1,X,n::E,by omega,by go_num,a4,PV,af,F,by rw[HX.out];exact o⟩
  ·have HC:Hid (l=jD P K):=aq.out l E j HI.out (by omega)
   have i2:¬(j:Int)<(l.length:Int):=by omega
   clear HI;go_wp2_with fail;go_ret;exact NT.mk _ rfl (by rw[<-HC.out];exact hL) t
end Go.Proofs.YtagkodkijkpemaaGreatDoor

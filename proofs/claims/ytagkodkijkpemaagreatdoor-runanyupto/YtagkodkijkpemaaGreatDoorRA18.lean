import Derived.Test.YtagkodkijkpemaaGreatDoorRA16
import Derived.Test.YtagkodkijkpemaaGreatDoorRA17
set_option maxHeartbeats 8000000
set_option maxRecDepth 1000000
namespace Go.Proofs.YtagkodkijkpemaaGreatDoor
open Lx Go.Proofs.Tryz
open Go.RowKit Tr
def PlP(w:World)(v:Value)(T N:List ByteArray)(P:List Lx.Pd)(Bs Ks:List Nat):Prop:=∃vT vN vP vB vK,v=.agg #[vT,vN,vP,vB,vK]/\w.ownsRow 0 9 1 vT T.length (T.map Value.string)/\w.ownsRow 0 9 1 vN N.length (N.map Value.string)/\PP (fun _=>True) w vP P/\IR 0 w vB Bs/\IR 0 w vK Ks
def uY(B:Nat)(w:World)(v:Value)(T N:List ByteArray)(P:List Lx.Pd)(Bs Ks:List Nat):Prop:=∃vT vN vP vB vK,v=.agg #[vT,vN,vP,vB,vK]/\w.ownsRow 0 9 1 vT T.length (T.map Value.string)/\w.ownsRow 0 9 1 vN N.length (N.map Value.string)/\PP (fun g=>B<=g) w vP P/\IR 0 w vB Bs/\IR 0 w vK Ks/\∀g,vP.ownBlock=some g->B<=g
theorem uY.pl{B:Nat}{w:World}{v:Value}{T N:List ByteArray}{P:List Lx.Pd}{b a:List Nat}(h:uY B w v T N P b a):PlP w v T N P b a:=by
 obtain⟨n,o,i,f,r,m,h1,h2,⟨k,l,c,g,p⟩,h4,d,-⟩:=h;exact⟨n,o,i,f,r,m,h1,h2,⟨k,l,c,fun q j=>⟨(g q j).1,fun _ _=>trivial⟩,p⟩,h4,d⟩
theorem PP.move{D D':Nat->Prop}{w w':World}{v:Value}{P:List Lx.Pd}(h:PP D w v P)(i:∀g,D g->D' g)(f:∀g,D g->w'.heap[g]?=w.heap[g]?)(c:∀g,v.ownBlock=some g->w'.heap[g]?=w.heap[g]?):PP D' w' v P:=by
 obtain⟨d,h1,h2,h3,h4⟩:=h;exact⟨d,h1,aC h2 c,fun q a=>⟨aC (h3 q a).1 fun g b=>f g ((h3 q a).2 g b),fun g b=>i g ((h3 q a).2 g b)⟩,h4⟩
theorem dm.empty{κ:Type}{K:κ->Value}{G:κ->Prop}{w:World}{B:Nat}(h:w.heap[B]?=some (.map #[] 0)):dm K G w B (fun _=>0) :=
 ⟨#[],0,h,fun i e h=>by simp at h,fun i j e b h=>by simp at h,fun a h=>absurd rfl h⟩
theorem eU{w:World}{B e z:Nat}{v:Value}{n:Nat}{b:List Value}(h:w.ownsRow B e z v n b){g:Nat}(a:v.ownBlock=some g):∃cur:Array Value,w.heap[g]?=some (.cells cur e):=by
 rcases h.2 with i|⟨j,c,cur,f,-,d,-⟩
 ·rw[i.1]at a;simp[Value.ownBlock]at a
 ·have:j=g:=by rw[f]at a;simpa [Value.ownBlock]using a
  subst this;exact⟨cur,d⟩
def ac3(g:Lx.Gr)(w:World)(e:Ending)(w':World):Prop:=∃v,e=.returned v/\uY w.heap.size w' v (aD g) (bI g) (bJ g) ((aD g).map fun t=>(rZ g t).1) ((aD g).map fun t=>(rZ g t).2)/\Below w.heap.size w w'
theorem af5{F:Nat->Prop}{w:World}{vl vr vW:Value}{g:Lx.Gr}{s:ByteArray}(U:Lx.parse s=.ok g)(B:Lx.Fit g)(hg:BF F w vl vr g)(y:∀b,F b->b<w.heap.size)(xS:WR w vW (iG g))(ht:fq w)(a7:(iG g).length<=100000):
  Calls prog 44 #[.agg #[vl,vr],vW] w (ac3 g w):=by
 obtain⟨la,lc,rfl,-⟩:=Seq.len hg.1;obtain⟨n,m,rfl,-⟩:=(lN.len (F:=F) (w:=w) ⟨y,dQ.weak hg.2 fun A v x z L=>eD.weak z L⟩);obtain⟨wa,wc,rfl,-⟩:=xS.len;have bg:=@r7 prog;unfold ac3;go_enter func44,ntmps44;go_wp2_with fail;have e4:w.heap.size+1+1+1+1=w.heap.size+4:=rfl;have e3:w.heap.size+1+1+1=w.heap.size+3:=rfl;have e2:w.heap.size+1+1=w.heap.size+2:=rfl;rw[e4,e3,e2];clear e4 e3 e2 bg;obtain⟨o,u⟩:∃o,o=(w.alloc (.cells #[.slice la g.levels.length lc,.slice n g.rules.length m] 105)).alloc (.cells #[.slice none 0 0,.slice none 0 0,.slice none 0 0,.slice none 0 0,.slice none 0 0] 56):=⟨_,rfl⟩;have O:o.heap.size=w.heap.size+2:=by rw[u];simp
 obtain⟨W,Q⟩:∃W,W=((o.alloc (.map #[] 0)).alloc (.map #[] 0)).alloc (.cells #[.slice none 0 0,.slice none 0 0,.slice none 0 0,.slice none 0 0,.slice none 0 0,.map (some (w.heap.size+2)),.map (some (w.heap.size+3))] 198):=⟨_,rfl⟩;have dM:Below w.heap.size w o:=by rw[u];exact((cV _ _).alloc (zL0) _).alloc (by simp) _
 have Oj:Below o.heap.size o W:=by rw[Q];exact(((cV _ _).alloc (zL0) _).alloc (by simp) _).alloc (by simp;omega) _
 have C:Below w.heap.size w W:=dM.trans (Oj.mono (by omega));have zk:W.heap.size=w.heap.size+5:=by rw[Q];simp[O]
 have kG:aj W w.heap.size #[.slice la g.levels.length lc,.slice n g.rules.length m] 105:=by
  have:aj o w.heap.size #[.slice la g.levels.length lc,.slice n g.rules.length m] 105:=by rw[u];exact(aj.new w _ 105).alloc _
  exact(Oj.block _ (by omega)).trans this
 have bi:aj W (w.heap.size+1) #[.slice none 0 0,.slice none 0 0,.slice none 0 0,.slice none 0 0,.slice none 0 0] 56:=by
  have:aj o (w.heap.size+1) #[.slice none 0 0,.slice none 0 0,.slice none 0 0,.slice none 0 0,.slice none 0 0] 56:=by rw[u];simpa using aj.new (w.alloc (.cells #[.slice la g.levels.length lc,.slice n g.rules.length m] 105)) #[.slice none 0 0,.slice none 0 0,.slice none 0 0,.slice none 0 0,.slice none 0 0] 56
  exact(Oj.block _ (by omega)).trans this
 have aA:W.heap[w.heap.size+2]?=some (.map #[] 0):=by
  rw[Q,di _ _ _ (by simp;omega),di _ _ _ (by simp;omega),<-O];exact n7 o _
 have bj:W.heap[w.heap.size+3]?=some (.map #[] 0):=by
  rw[Q,di _ _ _ (by simp;omega),show w.heap.size+3=(o.alloc (.map #[] 0)).heap.size by simp;omega];exact n7 _ _
 have kM:aj W (w.heap.size+4) #[.slice none 0 0,.slice none 0 0,.slice none 0 0,.slice none 0 0,.slice none 0 0,.map (some (w.heap.size+2)),.map (some (w.heap.size+3))] 198:=by
  have:=aj.new ((o.alloc (.map #[] 0)).alloc (.map #[] 0)) #[.slice none 0 0,.slice none 0 0,.slice none 0 0,.slice none 0 0,.slice none 0 0,.map (some (w.heap.size+2)),.map (some (w.heap.size+3))] 198;rw[Q];simpa [O]using this
 rw[u]at Q;rw[<-Q];clear Q u dM Oj O;clear o;have ag:=xS.below C;have q1:=ae2 (S:=w.heap.size+2) kM (dm.empty aA) ag (fun b c=>by have:=(xS.lt b c).2;omega) (ag1 U) (af4 U) a7;rw[ah5 (ajz U B.unk)]at q1;refine q1.mono ?_;rintro e w2⟨rfl,⟨vT,kT,oT⟩,sT,Y⟩;clear q1 ag;obtain⟨K,I,rfl,-⟩:=aB oT;have a8:aj w2 (w.heap.size+4) #[.slice K (aD g).length I,.slice none 0 0,.slice none 0 0,.slice none 0 0,.slice none 0 0,.map (some (w.heap.size+2)),.map (some (w.heap.size+3))] 198:=kT;have bm:=Y.size;have b2:∀x,x<w.heap.size+2\/x=w.heap.size+3->w2.heap[x]?=W.heap[x]?:=fun x a=>Y.block x (by omega)
 have g2:∀x,x<w.heap.size->w2.heap[x]?=w.heap[x]?:=fun x a=>(b2 x (by omega)).trans (C.block x a)
 have ai:aj w2 w.heap.size _ 105:=(b2 _ (by omega)).trans kG;have gl:w2.cell? ⟨w.heap.size,0,none⟩=some (.slice la g.levels.length lc):=ai.cell 0;have ap:g.levels.length<=100000:=by
  have h1:g.levels.length<=BJ g.levels:=Fx (fun l:Lx.Lv=>1+l.tokens.length) fun _ _=>by omega
  have:=B.sz;omega
 have q2:=ae3 (S:=w.heap.size+2) a8 (jc oT (eR _)) sT (Seq.move hg.1 (fun b c=>g2 b (y b c)) (fun _ h=>h) (fun v x h=>zN F F w w2 v x (fun b c=>g2 b (y b c)) (fun _ h=>h) h)) (fun b c=>by have:=y b c;omega) (Xl _ _ (by simp)) (fun l hl t ht=>abn (ej.2 ⟨(0,t.1,t.2),gd.2 ⟨l,hl,ej.2 ⟨t,ht,rfl⟩⟩,rfl⟩)) (by have:=B.TQ;omega) ap;go_wp2_with fail;refine q2.mono ?_;rintro e d⟨rfl,⟨vB,vK,kL,oB,oK,bv⟩,H⟩;clear q2 gl;have bn:=H.size;have g3:∀x,x<w.heap.size->d.heap[x]?=w.heap[x]?:=fun x a=>(H.block x (by omega)).trans (g2 x a)
 have bd:aj d (w.heap.size+4) #[.slice K (aD g).length I,.slice none 0 0,.slice none 0 0,vB,vK,.map (some (w.heap.size+2)),.map (some (w.heap.size+3))] 198:=kL;have KG:aj d w.heap.size _ 105:=(H.block w.heap.size (by omega)).trans ai;have gr:d.cell? ⟨w.heap.size,1,none⟩=some (.slice n g.rules.length m):=KG.cell 1;have ar:SMap d (w.heap.size+2) (jd (aD g)):=sT.move (H.block _ (by omega));have aE:d.heap[w.heap.size+3]?=some (.map #[] 0):=(H.block _ (by omega)).trans ((b2 _ (.inr rfl)).trans bj);have D6:Tr.dQ F d 254 2 cR KR (.slice n g.rules.length m) g.rules:=dQ.move hg.2 (fun b c=>g3 b (y b c)) (fun _ h=>h) fun A v x z L=>rM A A w d v x (fun b c=>g3 b (y b (z b c))) (fun _ h=>h) L
 have aF:=ht.lt;have t3:fq d:=ht.move (g3 r9 aF);have a5:∀r∈g.rules,r.name.size<=2000:=fun r hr=>by have:=ZM (B.rl r hr).1;omega
 have aW:(aS g.rules).length<=50000:=by have h1:(bI g).length<=2002:=B.adB;have h2:bI g=aS g.rules:=rfl;rw[<-h2];omega
 have q3:=afn (D:=fun x=>x<d.heap.size/\x≠w.heap.size+4/\x≠w.heap.size+2/\x≠w.heap.size+3) bd ar (dm.empty aE) D6 (fun b c=>by have:=y b c;exact⟨by omega,by omega,by omega,by omega⟩) (fun b c=>c.1) (fun h=>h.2.1 rfl) (fun h=>h.2.2.1 rfl) (fun h=>h.2.2.2 rfl) (by omega) t3 ⟨by omega,by omega,by omega,by omega⟩ (Ri B.dup) a5 (by have:=B.TQ;omega) aW (by have:=B.rules;omega);go_wp2_with fail;refine q3.mono ?_;rintro e j⟨rfl,⟨fH,fS,n4,am,bl,a1⟩,J⟩;clear q3 gr;rw[ft]at n4;obtain⟨vN,k4,oN,dN⟩:=n4.ex;have bp:=J.size;have g4:∀x,x<w.heap.size->j.heap[x]?=w.heap[x]?:=fun x a=>(J.block x ⟨by omega,by omega,by omega,by omega⟩).trans (g3 x a)
 have bs:w.heap.size+3<j.heap.size:=dm.lt n4.pm;have br:w.heap.size+2<j.heap.size:=dm.lt am;have bu:=k4.lt;have a9:Mp (fun x=>(x<d.heap.size/\x≠w.heap.size+4/\x≠w.heap.size+2/\x≠w.heap.size+3)\/x=w.heap.size+2\/x=w.heap.size+3\/vN.ownBlock=some x) (fun b=>F b/\iU d b) j (w.heap.size+4) (w.heap.size+2) (w.heap.size+3) K (aD g).length I vN vB vK fS fH []:=by
  refine⟨⟨.slice none 0 0,k4,⟨[],rfl,eE _ _ _ _,fun q hq=>(by cases hq),n9⟩,fun x a=>(by cases a)⟩,am,n4.pm,.inr (.inl rfl),.inr (.inr (.inl rfl)),?_,?_,?_⟩
  ·rintro(h | h | h | h)
   ·exact h.2.1 rfl
   ·omega
   ·omega
   ·exact(dN _ h).2.1 rfl
  ·rintro x(h | h | h | h)
   ·omega
   ·omega
   ·omega
   ·exact(oN.lt x h).2
  ·intro b c
   have af:=y b c.1;exact⟨.inl ⟨by omega,by omega,by omega,by omega⟩,c.2.move (J.block b ⟨by omega,by omega,by omega,by omega⟩)⟩
 have KH:∀b,F b->j.heap[b]?=d.heap[b]?:=fun b c=>by
  have af:=y b c;exact J.block b ⟨by omega,by omega,by omega,by omega⟩
 have ah:Tr.dQ F j 254 2 cR KR (.slice n g.rules.length m) g.rules:=dQ.move D6 KH (fun _ h=>h) fun A v x z L=>rM A A d j v x (fun b c=>KH b (z b c)) (fun _ h=>h) L
 have aH:lN F d (.slice n g.rules.length m) g.rules:=⟨fun b c=>by have:=y b c;omega,dQ.weak D6 fun A v x z L=>eD.weak z L⟩;have aa:lN F j (.slice n g.rules.length m) g.rules:=⟨fun b c=>by have:=y b c;omega,dQ.weak ah fun A v x z L=>eD.weak z L⟩;have a2:∀i(hi:i<g.rules.length),cv j ⟨aQ (.slice n g.rules.length m),i*2+1,none⟩=cv d ⟨aQ (.slice n g.rules.length m),i*2+1,none⟩/\aK 9 j (cv j ⟨aQ (.slice n g.rules.length m),i*2+1,none⟩) g.rules[i].alts=aK 9 d (cv d ⟨aQ (.slice n g.rules.length m),i*2+1,none⟩) g.rules[i].alts:=fun i hi=>by
  obtain⟨R,bo,va,hv,aP,z,c0,c1⟩:=aH.at hi;rw[hv];show cv j ⟨R,i*2+1,none⟩=cv d ⟨R,i*2+1,none⟩/\_;have e1:cv j ⟨R,i*2+1,none⟩=cv d ⟨R,i*2+1,none⟩:=Sg (KH R aP);refine⟨e1,?_⟩;show aK 9 j (cv j ⟨R,i*2+1,none⟩) _=aK 9 d (cv d ⟨R,i*2+1,none⟩) _;have e2:cv d ⟨R,i*2+1,none⟩=va:=by unfold cv;rw[c1];rfl
  rw[e1,e2];exact IQ z KH
 have ae:xw j (aQ (.slice n g.rules.length m)) (aD g).length g.rules g.rules.length fH:=by
  intro i hi bh k p U;refine a1 i hi bh k p ?_;unfold hlA at U|-;rw[(a2 i hi).2]at U;exact U
 have hQ:=ajB B aa (Xh ah) bl ae (G:=fun b=>F b/\iU d b) (fun b c hc=>⟨c,hc.move (KH b c).symm⟩);have aq:aj j w.heap.size _ 105:=(J.block w.heap.size ⟨by omega,by omega,by omega,by omega⟩).trans KG;have aw:j.cell? ⟨w.heap.size,1,none⟩=some (.slice n g.rules.length m):=aq.cell 1;have q4:=afp (T:=aD g) (N:=bI g) a9 aa (fun b c=>by have af:=y b c;exact .inl ⟨by omega,by omega,by omega,by omega⟩) hQ B.ne (by have:=B.rules;omega);go_wp2_with fail;refine q4.mono ?_;rintro e f⟨rfl,E,hE,eP,V⟩;clear q4 aw hQ ae;obtain⟨vP,k5,sD,Ay⟩:=eP.ex;have al:∀x,x<d.heap.size->x≠w.heap.size+4->x≠w.heap.size+2->x≠w.heap.size+3->f.heap[x]?=j.heap[x]?:=fun x h1 h2 h3 h4=>V.block x (.inl ⟨h1,h2,h3,h4⟩)
 have Pj:∀x,x<d.heap.size->x≠w.heap.size+4->x≠w.heap.size+2->x≠w.heap.size+3->f.heap[x]?=d.heap[x]?:=fun x h1 h2 h3 h4=>(al x h1 h2 h3 h4).trans (J.block x ⟨h1,h2,h3,h4⟩)
 have M:aj f (w.heap.size+1) #[.slice none 0 0,.slice none 0 0,.slice none 0 0,.slice none 0 0,.slice none 0 0] 56:=(Pj _ (by omega) (by omega) (by omega) (by omega)).trans ((H.block _ (by omega)).trans ((b2 _ (by omega)).trans bi));have aG:f.ownsRow 0 9 1 (.slice K (aD g).length I) (aD g).length ((aD g).map Value.string):=jc (aC (aC oT fun x a=>H.block x (by have:=oT.lt x a;omega)) fun x a=>by have:=oT.lt x a;exact Pj x (by omega) (by omega) (by omega) (by omega)) (eR _);have a4:(Value.slice K (aD g).length I).ownBlock≠some (w.heap.size+1):=fun e=>by have:=(oT.lt _ e).1;omega
 have ak:=jc (aC (w':=f) oB fun x a=>by have:=oB.lt x a;exact Pj x (by omega) (by omega) (by omega) (by omega)) (eR _);have ao:vB.ownBlock≠some (w.heap.size+1):=fun e=>by have:=(oB.lt _ e).1;omega
 have an:=jc (aC (w':=f) oK fun x a=>by have:=oK.lt x a;exact Pj x (by omega) (by omega) (by omega) (by omega)) (eR _);have a6:vK.ownBlock≠some (w.heap.size+1):=fun e=>by have:=(oK.lt _ e).1;omega
 have ad:=aC (w':=f) oN fun x a=>V.block x (.inr (.inr (.inr a)))
 have bb:vN.ownBlock≠some (w.heap.size+1):=fun e=>(dN _ e).1 (.inl ⟨by omega,by omega,by omega,by omega⟩)
 have av:E (w.heap.size+1):=hE _ (.inl ⟨by omega,by omega,by omega,by omega⟩);have az:vP.ownBlock≠some (w.heap.size+1):=fun e=>(Ay _ e).1 av
 have ax:∀x,vP.ownBlock=some x->w.heap.size<=x:=fun x a=>by have:=(Ay x a).2;omega
 have ab:PP (fun x=>x≠w.heap.size+1/\w.heap.size<=x) f vP (bJ g):=by
  obtain⟨ps,p1,p2,p3,p4⟩:=sD;refine⟨ps,p1,p2,fun q hq=>⟨(p3 q hq).1,fun x a=>⟨fun e=>?_,by have:=((p3 q hq).2 x a).2;omega⟩⟩,p4⟩;obtain⟨bt,hc⟩:=eU (p3 q hq).1 a;unfold aj at M;rw[e,M]at hc;cases hc
 have DW:Below w.heap.size w f:=⟨V.os.trans (J.os.trans (H.os.trans (Y.os.trans C.os))),V.tape.trans (J.tape.trans (H.tape.trans (Y.tape.trans C.tape))),V.output.trans (J.output.trans (H.output.trans (Y.output.trans C.output))),by have:=V.size;omega,fun x a=>(al x (by omega) (by omega) (by omega) (by omega)).trans (g4 x a)⟩;obtain⟨na,nc,rfl,-⟩:=aB ad;obtain⟨ps,bf,ac,a0⟩:=id ab;obtain⟨pa,pc,rfl,-⟩:=aB ac;obtain⟨ba,bc,rfl,-⟩:=aB ak;obtain⟨ka,kc,rfl,-⟩:=aB an;have m0:f.cell? ⟨w.heap.size+4,0,none⟩=some (.slice K (aD g).length I):=k5.cell 0;have m1:f.cell? ⟨w.heap.size+4,1,none⟩=some (.slice na (aS g.rules).length nc):=k5.cell 1;have m2:f.cell? ⟨w.heap.size+4,2,none⟩=some (.slice pa (bJ g).length pc):=k5.cell 2;have m3:=k5.cell 3;have m4:=k5.cell 4;have r0:f.cell? ⟨w.heap.size+1,0,none⟩=some (.slice none 0 0):=M.cell 0;have r1:f.cell? ⟨w.heap.size+1,1,none⟩=some (.slice none 0 0):=M.cell 1;have r2:f.cell? ⟨w.heap.size+1,2,none⟩=some (.slice none 0 0):=M.cell 2;have r3:f.cell? ⟨w.heap.size+1,3,none⟩=some (.slice none 0 0):=M.cell 3;have r4:f.cell? ⟨w.heap.size+1,4,none⟩=some (.slice none 0 0):=M.cell 4;have rf:∀i,f.frozen? ⟨w.heap.size+1,i,none⟩=false:=M.frozen;clear bf ac a0;clear eP V J H Y sD Ay hE;simp at m3 m4;obtain⟨Z,KJ⟩:∃Z,Z=((((f.setCell ⟨w.heap.size+1,0,none⟩ (.slice K (aD g).length I)).setCell ⟨w.heap.size+1,1,none⟩ (.slice na (aS g.rules).length nc)).setCell ⟨w.heap.size+1,2,none⟩ (.slice pa (bJ g).length pc)).setCell ⟨w.heap.size+1,3,none⟩ (.slice ba ((aD g).map fun t=>(Lx.bk t 0 g.levels (0,0)).1).length bc)).setCell ⟨w.heap.size+1,4,none⟩ (.slice ka ((aD g).map fun t=>(Lx.bk t 0 g.levels (0,0)).2).length kc):=⟨_,rfl⟩
 have k6:aj Z (w.heap.size+1) #[.slice K (aD g).length I,.slice na (aS g.rules).length nc,.slice pa (bJ g).length pc,.slice ba ((aD g).map fun t=>(Lx.bk t 0 g.levels (0,0)).1).length bc,.slice ka ((aD g).map fun t=>(Lx.bk t 0 g.levels (0,0)).2).length kc] 56:=by rw[KJ];exact((((M.set 0 _).set 1 _).set 2 _).set 3 _).set 4 _
 have X:∀x,x≠w.heap.size+1->Z.heap[x]?=f.heap[x]?:=fun x a=>by rw[KJ,zS0 a,zS0 a,zS0 a,zS0 a,zS0 a]
 have a3:Below w.heap.size w Z:=by rw[KJ];exact((((DW.setCell (p:=⟨w.heap.size+1,0,none⟩) (by show w.heap.size<=w.heap.size+1;omega) _).setCell (p:=⟨w.heap.size+1,1,none⟩) (by show w.heap.size<=w.heap.size+1;omega) _).setCell (p:=⟨w.heap.size+1,2,none⟩) (by show w.heap.size<=w.heap.size+1;omega) _).setCell (p:=⟨w.heap.size+1,3,none⟩) (by show w.heap.size<=w.heap.size+1;omega) _).setCell (p:=⟨w.heap.size+1,4,none⟩) (by show w.heap.size<=w.heap.size+1;omega) _
 have P:uY w.heap.size Z (.agg #[.slice K (aD g).length I,.slice na (aS g.rules).length nc,.slice pa (bJ g).length pc,.slice ba ((aD g).map fun t=>(Lx.bk t 0 g.levels (0,0)).1).length bc,.slice ka ((aD g).map fun t=>(Lx.bk t 0 g.levels (0,0)).2).length kc]) (aD g) (bI g) (bJ g) ((aD g).map fun t=>(rZ g t).1) ((aD g).map fun t=>(rZ g t).2) :=
  ⟨_,_,_,_,_,rfl,aC aG fun x a=>X x fun e=>a4 (e▸a),aC ad fun x a=>X x fun e=>bb (e▸a),ab.move (fun _ a=>a.2) (fun x a=>X x a.1) (fun x a=>X x fun e=>az (e▸a)),aC ak fun x a=>X x fun e=>ao (e▸a),aC an fun x a=>X x fun e=>a6 (e▸a),ax⟩
 have s0:=k6.cell 0;have s1:=k6.cell 1;have s2:=k6.cell 2;have s3:=k6.cell 3;have s4:=k6.cell 4;simp at s0 s1 s2 s3 s4;have Ky:Hid (((aD g).map fun t=>(Lx.bk t 0 g.levels (0,0)).1).length=(aD g).length):=by show _=_;simp
 have aI:Hid (((aD g).map fun t=>(Lx.bk t 0 g.levels (0,0)).2).length=(aD g).length):=by show _=_;simp
 rw[Ky.out,aI.out]at KJ P;go_wp2_with fail;rw[<-KJ];exact fx (v:=.agg #[.slice K (aD g).length I,.slice na (aS g.rules).length nc,.slice pa (bJ g).length pc,.slice ba (aD g).length bc,.slice ka (aD g).length kc]) (by simp[results,results44,go_sem,s0,s1,s2,s3,s4]) rfl ⟨_,rfl,P,a3⟩
def Kd(W:World)(k t:Nat):Prop:=∃cur:Array Value,W.heap[k]?=some (.cells cur t)
theorem Kd.ne{W:World}{k l t u:Nat}(h:Kd W k t)(d:Kd W l u)(a:t≠u):k≠l:=fun e=>by
 subst e;obtain⟨x,c⟩:=h;obtain⟨y,b⟩:=d;rw[c]at b;cases b;exact a rfl
theorem Kd.lt{W:World}{k t:Nat}(h:Kd W k t):k<W.heap.size:=by
 obtain⟨x,a⟩:=h;exact(dv.1 a).1
theorem Fz{W:World}{B e:Nat}{v:Value}{n:Nat}{b:List Value}(h:W.ownsRow B e 1 v n b){p:Nat}{u:Value}(c:b[p]?=some u):∃g cap,v=.slice (some ⟨g,0,none⟩) n cap/\v.ownBlock=some g/\W.cell? ⟨g,p,none⟩=some u:=by
 have f:=(cG.1 c).1;rcases h.2 with ⟨rfl,i⟩|⟨g,cap,d,rfl,-⟩
 ·have:=h.1
  omega
 ·have a:(⟨g,0,none⟩:Addr).add p=⟨g,p,none⟩:=by unfold Addr.add;split <;> simp_all
  exact⟨g,cap,rfl,rfl,by rw[<-a];exact ml h (g:=g) rfl _ _ c⟩
section
variable {w w':World} {B pb:Nat} {v:fV} {p:Pk.T}
theorem aO.kp(h:aO w B pb v p):Kd w pb 79:=⟨_,h.blk⟩
theorem aO.kB(h:aO w B pb v p){g:Nat}(a:v.vB.ownBlock=some g):Kd w g 3:=eU h.rB a
theorem aO.kP(h:aO w B pb v p){g:Nat}(a:v.vP.ownBlock=some g):Kd w g 138:=eU h.rP a
theorem aO.kR(h:aO w B pb v p){g:Nat}(a:v.vR.ownBlock=some g):Kd w g 81:=eU h.rR a
theorem aO.kD(h:aO w B pb v p){g:Nat}(a:v.vD.ownBlock=some g):Kd w g 3:=eU h.rD a
theorem aO.ty(h:aO w B pb v p){k:Nat}(a:v.own pb k):∃t,Kd w k t/\(t=79\/t=3\/t=138\/t=9\/t=81):=by
 rcases a with rfl|a|a|a|a|a|a
 ·exact⟨79,h.kp,by simp⟩
 ·exact⟨3,h.kB a,by simp⟩
 ·exact⟨138,h.kP a,by simp⟩
 ·obtain⟨g,h1,h2⟩:=h.rT
  rw[h1]at a;cases a;exact⟨9,⟨_,h2⟩,by simp⟩
 ·obtain⟨g,h1,h2⟩:=h.rN
  rw[h1]at a;cases a;exact⟨9,⟨_,h2⟩,by simp⟩
 ·exact⟨81,h.kR a,by simp⟩
 ·exact⟨3,h.kD a,by simp⟩
theorem aO.base(h:aO w B pb v p)(b:B<=pb){k:Nat}(a:v.own pb k):B<=k:=by
 rcases a with rfl|a|a|a|a|a|a
 ·exact b
 ·exact(h.rB.lt k a).1
 ·exact(h.rP.lt k a).1
 ·exact h.lo k (.inl a)
 ·exact h.lo k (.inr a)
 ·exact(h.rR.lt k a).1
 ·exact(h.rD.lt k a).1
theorem aO.Ej(h:aO w B pb v p){rb:Nat}{b:ByteArray}{r:Pk.Rd}(a:fI w rb b r):¬v.own pb rb:=fun e=>by
 obtain⟨t,h1,h2⟩:=h.ty e;exact h1.ne ⟨_,a.blk⟩ (by omega) rfl
theorem aO.read(h:aO w B pb v p){rb:Nat}{b:ByteArray}{r r':Pk.Rd}(c:fI w rb b r)(T:jf w rb b w' r'):aO w' B pb v p:=h.move fun k a=>T.g.block k (h.lt a) fun e=>by
 cases e;exact h.Ej c a
theorem aO.aU(h:aO w B pb v p){u x:Value}{t i:Nat}(d:∀g,u.ownBlock=some g->Kd w g t)(c:w.grownBy w' u.ownBlock){k s:Nat}(a:Kd w k s)(f:s≠t)(b:s≠79):(w'.setCell ⟨pb,i,none⟩ x).heap[k]?=w.heap[k]?:=by
 rw[fQ _ _ (a.ne h.kp b)];exact c.block k a.lt fun e=>a.ne (d k e.symm) f rfl
theorem aO.set(h:aO w B pb v p){u x:Value}{t i:Nat}(c:∀g,u.ownBlock=some g->Kd w g t)(b:t≠79)(a:w.grownBy w' u.ownBlock):aj (w'.setCell ⟨pb,i,none⟩ x) pb (v.cells.setIfInBounds i x) 79:=by
 refine aj.set ?_ i x;exact(a.block pb h.kp.lt fun e=>h.kp.ne (c pb e.symm) (Ne.symm b) rfl).trans h.blk
theorem aO.JN(h:aO w B pb v p){x:Value}{l:List (Nat×Nat×Nat)}(a:w.grownBy w' v.vP.ownBlock)(b:w'.ownsRow B 138 3 x l.length (l.flatMap bV)):aO (w'.setCell ⟨pb,1,none⟩ x) B pb { v with vP:=x } { p with ak:=l } where
 blk:=h.set (fun g e=>h.kP e) (by decide) a
 rB:=aC h.rB fun g e=>h.aU (fun g e=>h.kP e) a (h.kB e) (by decide) (by decide)
 rP:=aC b fun g e=>fQ _ _ ((show Kd w' g 138 from eU b e).ne (show Kd w' pb 79 from ⟨_,(a.block pb h.kp.lt fun e=>h.kp.ne (h.kP e.symm) (by decide) rfl).trans h.blk⟩) (by decide))
 rT:=by
  obtain⟨g,h1,h2⟩:=h.rT;exact⟨g,h1,(h.aU (fun g e=>h.kP e) a (show Kd w g 9 from ⟨_,h2⟩) (by decide) (by decide)).trans h2⟩
 rN:=by
  obtain⟨g,h1,h2⟩:=h.rN;exact⟨g,h1,(h.aU (fun g e=>h.kP e) a (show Kd w g 9 from ⟨_,h2⟩) (by decide) (by decide)).trans h2⟩
 rR:=aC h.rR fun g e=>h.aU (fun g e=>h.kP e) a (h.kR e) (by decide) (by decide)
 rD:=aC h.rD fun g e=>h.aU (fun g e=>h.kP e) a (h.kD e) (by decide) (by decide)
 ne:=h.ne
 lo:=h.lo
theorem aO.anm(h:aO w B pb v p){x:Value}{l:List (Nat×Nat)}(a:w.grownBy w' v.vR.ownBlock)(b:w'.ownsRow B 81 2 x l.length (l.flatMap eX)):aO (w'.setCell ⟨pb,4,none⟩ x) B pb { v with vR:=x } { p with prods:=l } where
 blk:=h.set (fun g e=>h.kR e) (by decide) a
 rB:=aC h.rB fun g e=>h.aU (fun g e=>h.kR e) a (h.kB e) (by decide) (by decide)
 rR:=aC b fun g e=>fQ _ _ ((show Kd w' g 81 from eU b e).ne (show Kd w' pb 79 from ⟨_,(a.block pb h.kp.lt fun e=>h.kp.ne (h.kR e.symm) (by decide) rfl).trans h.blk⟩) (by decide))
 rT:=by
  obtain⟨g,h1,h2⟩:=h.rT;exact⟨g,h1,(h.aU (fun g e=>h.kR e) a (show Kd w g 9 from ⟨_,h2⟩) (by decide) (by decide)).trans h2⟩
 rN:=by
  obtain⟨g,h1,h2⟩:=h.rN;exact⟨g,h1,(h.aU (fun g e=>h.kR e) a (show Kd w g 9 from ⟨_,h2⟩) (by decide) (by decide)).trans h2⟩
 rP:=aC h.rP fun g e=>h.aU (fun g e=>h.kR e) a (h.kP e) (by decide) (by decide)
 rD:=aC h.rD fun g e=>h.aU (fun g e=>h.kR e) a (h.kD e) (by decide) (by decide)
 ne:=h.ne
 lo:=h.lo
theorem aO.ann(h:aO w B pb v p){x:Value}{l:List Nat}(a:w.grownBy w' v.vD.ownBlock)(d:w'.ownsRow B 3 1 x l.length (l.map bQ))(b:x.ownBlock=v.vD.ownBlock\/∃g,x.ownBlock=some g/\w.heap.size<=g):aO (w'.setCell ⟨pb,5,none⟩ x) B pb { v with vD:=x } { p with aI:=l } where
 blk:=h.set (fun g e=>h.kD e) (by decide) a
 rB:=aC h.rB fun g e=>by
  rw[fQ _ _ ((h.kB e).ne h.kp (by decide))];exact a.block g (h.kB e).lt fun c=>h.ne g e c.symm
 rD:=aC d fun g e=>fQ _ _ ((show Kd w' g 3 from eU d e).ne (show Kd w' pb 79 from ⟨_,(a.block pb h.kp.lt fun e=>h.kp.ne (h.kD e.symm) (by decide) rfl).trans h.blk⟩) (by decide))
 rT:=by
  obtain⟨g,h1,h2⟩:=h.rT;exact⟨g,h1,(h.aU (fun g e=>h.kD e) a (show Kd w g 9 from ⟨_,h2⟩) (by decide) (by decide)).trans h2⟩
 rN:=by
  obtain⟨g,h1,h2⟩:=h.rN;exact⟨g,h1,(h.aU (fun g e=>h.kD e) a (show Kd w g 9 from ⟨_,h2⟩) (by decide) (by decide)).trans h2⟩
 lo:=h.lo
 rP:=aC h.rP fun g e=>h.aU (fun g e=>h.kD e) a (h.kP e) (by decide) (by decide)
 rR:=aC h.rR fun g e=>h.aU (fun g e=>h.kD e) a (h.kR e) (by decide) (by decide)
 ne g e:=by
  rcases b with b|⟨k,b,f⟩
  ·show x.ownBlock≠_
   rw[b];exact h.ne g e
  ·show x.ownBlock≠_
   rw[b];intro c;cases c;have:=(h.kB e).lt;omega
theorem aO.ano(h:aO w B pb v p){x:Value}{l:List Nat}(a:w.grownBy w' v.vB.ownBlock)(d:w'.ownsRow B 3 1 x l.length (l.map bQ))(b:x.ownBlock=v.vB.ownBlock\/∃g,x.ownBlock=some g/\w.heap.size<=g):aO (w'.setCell ⟨pb,0,none⟩ x) B pb { v with vB:=x } { p with ay:=l } where
 blk:=h.set (fun g e=>h.kB e) (by decide) a
 rD:=aC h.rD fun g e=>by
  rw[fQ _ _ ((h.kD e).ne h.kp (by decide))];exact a.block g (h.kD e).lt fun c=>h.ne g c.symm e
 rB:=aC d fun g e=>fQ _ _ ((show Kd w' g 3 from eU d e).ne (show Kd w' pb 79 from ⟨_,(a.block pb h.kp.lt fun e=>h.kp.ne (h.kB e.symm) (by decide) rfl).trans h.blk⟩) (by decide))
 rT:=by
  obtain⟨g,h1,h2⟩:=h.rT;exact⟨g,h1,(h.aU (fun g e=>h.kB e) a (show Kd w g 9 from ⟨_,h2⟩) (by decide) (by decide)).trans h2⟩
 rN:=by
  obtain⟨g,h1,h2⟩:=h.rN;exact⟨g,h1,(h.aU (fun g e=>h.kB e) a (show Kd w g 9 from ⟨_,h2⟩) (by decide) (by decide)).trans h2⟩
 lo:=h.lo
 rP:=aC h.rP fun g e=>h.aU (fun g e=>h.kB e) a (h.kP e) (by decide) (by decide)
 rR:=aC h.rR fun g e=>h.aU (fun g e=>h.kB e) a (h.kR e) (by decide) (by decide)
 ne g e:=by
  rcases b with b|⟨k,b,i⟩
  ·exact h.ne g (b▸e)
  ·intro c
   have f:x.ownBlock=some g:=e;rw[b]at f;cases f;have:=(h.kD c).lt;omega
end
namespace Pk
def Jv:List Nat:=[0,498536548,997073096,651767980,1994146192,1802195444,1303535960,1342533948,3988292384,4027552580,3604390888,3412177804,2607071920,2262029012,2685067896,3183342108]
def Dz(i:Nat):Nat:=Jv.getD i 0
def BX(x:Nat):Nat:=x / 16 ^^^ Dz (x % 16)
def sumTo(b:ByteArray):Nat->Nat
 |0=>4294967295
 |i+1=>BX (BX (sumTo b i ^^^ l6 b i))
def sum(b:ByteArray)(n:Nat):Nat:=4294967295 ^^^ sumTo b n
theorem abw(i:Nat):Dz i<4294967296:=by
 unfold Dz;rcases po i 16 with h|h
 ·have:∀i,i<16->Jv.getD i 0<4294967296:=by decide
  exact this i h
 ·rw[ed,ld (by simp[Jv];omega)]
  decide
theorem Jj{a b:Nat}(c:a<4294967296)(d:b<4294967296):a ^^^ b<4294967296:=Nat.xor_lt_two_pow (n:=32) c d
theorem Nk{x:Nat}(h:x<4294967296):BX x<4294967296:=Jj (by omega) (abw _)
theorem Fg(b:ByteArray):∀n,sumTo b n<4294967296
 |0=>by rw[sumTo];decide
 |n+1=>Nk (Nk (Jj (Fg b n) (by have:=Jg b n;omega)))
theorem sum_lt(b:ByteArray)(n:Nat):sum b n<4294967296:=Jj (by decide) (Fg b n)
theorem ak1(b:ByteArray)(n i:Nat)(h:i<n):l6 (b.extract 0 n) i=l6 b i:=by
 unfold l6;rw[ByteArray.data_extract,mB,mB,Array.getElem?_extract];congr 2
 split
 ·rw[fi]
 ·rename_i h2
  rw[rj (by omega)]
theorem ZU(b:ByteArray)(n:Nat):∀i,i<=n->sumTo (b.extract 0 n) i=sumTo b i
 |0,_=>rfl
 |i+1,h=>by rw[sumTo,sumTo,ZU b n i (by omega),ak1 b n i (by omega)]
end Pk
def pF(w:World):Prop:=∀i,i<16->w.cell? ⟨0,i,none⟩=some (.int .u32 ((Pk.Dz i:Nat):Int))
theorem MS{w:World}(b:pF w){a:Nat}(h:a<4294967296):bits BinOp.and IntKind.u32 (a:Int) 15=((a % 16:Nat):Int)/\((a:Int) % 16).toNat=a % 16/\w.cell? ⟨0,a % 16,none⟩=some (.int .u32 ((Pk.Dz (a % 16):Nat):Int))/\bits BinOp.xor IntKind.u32 ((a:Int) / 16) ((Pk.Dz (a % 16):Nat):Int)=((Pk.BX a:Nat):Int):=by
 refine⟨?_,by omega,b _ (tw _ (by decide)),?_⟩
 ·have:=u32_and_nat a 15 h (by decide)
  rw[nat_mask4]at this;exact this
 ·have e:(a:Int) / 16=((a / 16:Nat):Int):=by omega
  rw[e,u32_xor_nat _ _ (by omega) (Pk.abw _)];rfl
theorem ak2{w:World}(l:pF w)(s:ByteArray)(y:s.size<=281474976710656):Calls prog 31 #[.string s] w fun e w'=>e=.returned (.int .u32 ((Pk.sum s s.size:Nat):Int))/\w'=w:=by
 have r:Hid (∀i(o:i<s.size),((s[i]).toNat:Int)=((Pk.l6 s i:Nat):Int)):=fun i o=>by
  unfold Pk.l6;have p:i<s.data.size:=o;rw[mB,j7 p];rfl
 go_enter func31,ntmps31;go_wp2_with fail
 go_loop [3,7] (fun v i=>∃j:Nat,j<=s.size/\i=.int .i64 (j:Int)/\v=.int .u32 ((Pk.sumTo s j:Nat):Int)) (fun _ i=>s.size - (intOf i).toNat)
 case atStart=>exact⟨0,by omega,rfl,rfl⟩
 case round=>
  obtain⟨j,z,rfl,rfl⟩:=hrel
  by_cases hjn:j<s.size
  ·have A:(j:Int)<(s.size:Int):=by omega
   have D:=r.out j hjn;have b:=Pk.Fg s j;have m:=Pk.Jg s j;obtain⟨a,f⟩:∃a,Pk.sumTo s j ^^^ Pk.l6 s j=a:=⟨_,rfl⟩;have d:a<4294967296:=by rw[<-f];exact Pk.Jj b (by omega)
   have C:bits BinOp.xor IntKind.u32 (Pk.sumTo s j:Int) (Pk.l6 s j:Int)=(a:Int):=by rw[u32_xor_nat _ _ b (by omega),f]
   obtain⟨c,g⟩:∃c,Pk.BX a=c:=⟨_,rfl⟩;have k:c<4294967296:=by rw[<-g];exact Pk.Nk d
   have n:Pk.sumTo s (j+1)=Pk.BX c:=by rw[Pk.sumTo,f,g]
   obtain⟨x,H,G,q⟩:=MS l d;obtain⟨u,B,F,t⟩:=MS l k;rw[g]at q;rw[<-n]at t;have E:(Pk.l6 s j:Int) % 4294967296=(Pk.l6 s j:Int):=by omega
   clear g f n b m l;go_wp2_with fail;exact⟨⟨j+1,by omega,by go_num,rfl⟩,by simp[intOf];omega⟩
  ·obtain rfl:j=s.size:=by omega
   go_wp2_with fail;go_ret;exact⟨Dl (u32_xor_nat 4294967295 _ (by decide) (Pk.Fg ..)),rfl⟩
theorem pF.move{w w':World}(h:pF w)(b:w'.heap[0]?=w.heap[0]?):pF w':=fun i a=>(cJ (w:=w) b).trans (h i a)
theorem ak3(b:ByteArray){k:Nat}(h:k<=b.size):Pk.sum (b.extract 0 k) (b.extract 0 k).size=Pk.sum b k:=by
 have e:(b.extract 0 k).size=k:=by simp;omega
 rw[e];unfold Pk.sum;rw[Pk.ZU b k k (zL0)]
namespace Pk
def be:Nat->Nat->List Nat
 |0,_=>[]
 |n+1,x=>x / 256 ^ n % 256::be n x
theorem qP(x:Nat):∀n,(be n x).length=n
 |0=>rfl
 |n+1=>by rw[be,el,qP x n]
end Pk
def uh(n:Nat):Value:=.int .u8 (n:Int)
theorem Tryz.info5:(prog.info? 5).map (fun i=>(i.zero,i.size,i.bytes))=some (some (.int .u8 0),1,1):=by kernel_rfl
theorem Tryz.acg:prog.underlying 112=some (.slice 5):=by kernel_rfl
structure bH(W0:World)(B wb:Nat)(vB:Value)(W:World)(l:List Nat):Prop where
 blk:aj W wb #[vB] 114
 r:W.ownsRow B 5 1 vB l.length (l.map uh)
 b:Below B W0 W
 lb:B<=wb
section
variable {W0 W W':World} {B wb:Nat} {vB x:Value} {l:List Nat}
theorem bH.kw(h:bH W0 B wb vB W l):Kd W wb 114:=⟨_,h.blk⟩
theorem bH.kB(h:bH W0 B wb vB W l){g:Nat}(a:vB.ownBlock=some g):Kd W g 5:=eU h.r a
theorem bH.size(h:bH W0 B wb vB W l):B<=W.heap.size:=dg h.lb (lh h.blk.lt)
theorem bH.set(h:bH W0 B wb vB W l){m:List Nat}(a:W.grownBy W' vB.ownBlock)(c:W'.ownsRow B 5 1 x m.length (m.map uh)):bH W0 B wb x (W'.setCell ⟨wb,0,none⟩ x) m where
 blk:=by
  have:aj W' wb _ 114:=(a.block wb h.kw.lt fun e=>h.kw.ne (h.kB e.symm) (by decide) rfl).trans h.blk;exact this.set 0 x
 r:=aC c fun g e=>fQ _ _ ((show Kd W' g 5 from eU c e).ne (show Kd W' wb 114 from ⟨_,(a.block wb h.kw.lt fun e=>h.kw.ne (h.kB e.symm) (by decide) rfl).trans h.blk⟩) (by decide))
 b:=⟨a.1.trans h.b.1,a.2.trans h.b.2,a.3.trans h.b.3,by simpa using dg h.b.4 a.size,fun k d=>(fQ _ _ (by have:=h.lb;omega)).trans ((a.block k (dd d h.size) fun e=>by have:=(h.r.lt k e.symm).1;omega).trans (h.b.block k d))⟩
 lb:=h.lb
def jk(W W':World):Prop:=∀k t,Kd W k t->t≠114->t≠5->W'.heap[k]?=W.heap[k]?
theorem jk.refl(W:World):jk W W:=fun _ _ _ _ _=>rfl
theorem jk.trans{W W1 W2:World}(h:jk W W1)(k:jk W1 W2):jk W W2:=fun b t c h1 h2=>by
 have e:=h b t c h1 h2;obtain⟨a,d⟩:=c;exact(k b t ⟨a,e.trans d⟩ h1 h2).trans e
theorem jk.blk{W W':World}(h:jk W W'){b t:Nat}{cs:Array Value}(k:aj W b cs t)(h1:t≠114)(h2:t≠5):aj W' b cs t:=(h b t ⟨_,k⟩ h1 h2).trans k
theorem bH.aU(h:bH W0 B wb vB W l)(b:W.grownBy W' vB.ownBlock)(x:Value):jk W (W'.setCell ⟨wb,0,none⟩ x):=fun k _ a h1 h2=>
 (fQ _ _ (a.ne h.kw h1)).trans (b.block k a.lt fun e=>a.ne (h.kB e.symm) h2 rfl)
theorem wI(h:bH W0 B wb vB W l){n k:Nat}(hn:n<=4)(T:l.length<=1000000000):Calls prog 45 #[.pointer (some ⟨wb,0,none⟩),.int .i64 (n:Int),.int .i64 (k:Int)] W fun e W'=>e=.returned (.tuple #[])/\∃gZ,bH W0 B wb gZ W' (l++Pk.be n k)/\jk W W':=by
 obtain⟨i0,J,A,D,K⟩:=fd Tryz.info5;have O:Hid (∃a p,bH W0 B wb p W a/\a++Pk.be n k=l++Pk.be n k/\a.length<=1000000000+(4-n)/\jk W W):=⟨l,vB,h,rfl,by omega,jk.refl _⟩;clear h T;go_enter func45,ntmps45;go_wp2_with fail
 go_loopw [6] (fun i wr=>∃j:Nat,j<=n/\i=.int .i64 ((j:Int) - 1)/\Hid (∃a p,bH W0 B wb p wr a/\a++Pk.be j k=l++Pk.be n k/\a.length<=1000000000+(4-j)/\jk W wr)) (fun i _=>(intOf i+1).toNat)
 case atStart=>exact⟨n,zL0,rfl,O⟩
 case round=>
  clear O;obtain⟨j,hj,rfl,P⟩:=hrel;obtain⟨a,p,h1,c,U,g⟩:=P.out;clear P
  by_cases hj0:j=0
  ·subst hj0
   rw[Pk.be,eN]at c;have HE:Hid (bH W0 B wb p wr (l++Pk.be n k)/\jk W wr):=⟨by rw[<-c];exact h1,g⟩;clear h1 c g;go_wp2_with fail
   go_end0
   exact⟨rfl,p,HE.out⟩
  ·obtain⟨m,rfl⟩:∃m,j=m+1:=⟨j-1,by omega⟩
   have e0:((m+1:Nat):Int) - 1=(m:Int):=by omega
   rw[e0];have m0:(0:Int)<=(m:Int):=by omega
   have bm:decide ((0:Int)<=(m:Int))=true:=fh m0;obtain⟨d,f,rfl,-⟩:=aB h1.r;have V:wr.cell? ⟨wb,0,none⟩=some (.slice d a.length f):=h1.blk.cell 0;obtain⟨q,v⟩:∃q,k / 256 ^ m=q:=⟨_,rfl⟩;obtain⟨y,u⟩:∃y,k / 256 ^ m % 256=y:=⟨_,rfl⟩;have S:∀w:World,(Op.shift BinOp.shr IntKind.i64 (k:Int) IntKind.i64 (IntKind.i64.wrap (8*(m:Int)))).run prog w=.ok (.int .i64 (q:Int)) w:=fun w=>by
    have ew:IntKind.i64.wrap (8*(m:Int))=((8*m:Nat):Int):=by rw[gw];omega
    have X:(2:Int) ^ (8*m)=((256 ^ m:Nat):Int):=by
     have m4:m<4:=by omega
     have:m=0\/m=1\/m=2\/m=3:=by omega
     rcases this with rfl|rfl|rfl|rfl <;> rfl
    have e2:(k:Int) / 2 ^ min ((8*m:Nat):Int).toNat IntKind.i64.bits=(q:Int):=by
     rw[gz,sg (show 8*m<=IntKind.i64.bits by show 8*m<=64;omega),X,<-v,Int.natCast_ediv]
    rw[ew,shift_shr_any _ _ _ _ (by omega),e2];rfl
   have eu:IntKind.u8.wrap (q:Int)=(y:Int):=by rw[IntKind.wrap_u8',<-u,v];omega
   have Y:=h1.blk.lt;have Z:∀o,(wr.alloc o).cell? ⟨wb,0,none⟩=some (.slice d a.length f):=fun o=>(cJ (w:=wr) (di _ _ _ Y)).trans V
   have N:(wr.alloc (.cells #[.int .u8 (y:Int)] 5)).drew.ownsRow B 5 1 (.slice d a.length f) a.length (a.map uh):=aC (h1.r.alloc (.cells #[.int .u8 (y:Int)] 5)) fun _ _=>rfl
   have Q:aj (wr.alloc (.cells #[.int .u8 (y:Int)] 5)).drew wb #[.slice d a.length f] 114:=(h1.blk.alloc _).drew;have z:(Value.slice d a.length f).ownBlock≠some wb:=fun e=>(h1.kB e).ne h1.kw (by decide) rfl
   have F:B<=(wr.alloc (.cells #[.int .u8 (y:Int)] 5)).drew.heap.size:=dg h1.size (aX wr _ none).size;have t:Hid (bH W0 B wb (.slice d a.length f) wr a/\jk W wr):=⟨h1,g⟩;have HB:Hid (a++Pk.be (m+1) k=l++Pk.be n k):=c;have HY:Hid (k / 256 ^ m % 256=y):=u;clear h1 c u v g;go_upto_region 3 with fail
   go_region_law (refine step_append_lies _ rfl (.tmp 17) (.tmp 23) 112 rfl B 5 i0 _ 1 1 Tryz.acg J A D K rfl (by decide) (.slice d a.length f) a.length (a.map uh) (by simp[Act.eval]) N ⟨wr.heap.size,0,none⟩ 1 1 [.int .u8 (y:Int)] (by simp[Act.eval]) rfl (dI (aj.new wr _ 5).drew) (by simp[Value.oneCell']) (by decide) (by unfold maxLen;omega) (by omega) F _ rfl ?_;intro H E s L G lY F7;have C:=Q.grown G (fun e=>z e.symm);have c9:s.cell? ⟨wb,0,none⟩=some (.slice d a.length f):=C.cell 0;have f9:=C.frozen 0)
   all_goals
    have I:wr.grownBy s (Value.slice d a.length f).ownBlock:=aL (b:=(wr.alloc (.cells #[.int .u8 (y:Int)] 5)).drew) ⟨rfl,rfl,rfl,(aX wr _ none).size,fun i hi _=>di _ _ _ hi⟩ G;have R:=t.out.1.set (m:=a++[y]) I (by rw[ei,cH];exact L);have M:Hid (bH W0 B wb (.slice (some ⟨H,0,none⟩) (a.length+1) E) (s.setCell ⟨wb,0,none⟩ (.slice (some ⟨H,0,none⟩) (a.length+1) E)) (a++[y])/\jk W (s.setCell ⟨wb,0,none⟩ (.slice (some ⟨H,0,none⟩) (a.length+1) E))):=⟨R,t.out.2.trans (t.out.1.aU I _)⟩;clear R I L G lY C c9 f9 N Q Z t;go_wp2_with fail;refine⟨⟨m,by omega,by go_num,a++[y],_,M.out.1,?_,by simp only[cH,el,iu];omega,M.out.2⟩,by simp[intOf]⟩;rw[<-HB.out,Pk.be,HY.out,dq];rfl
end
def Pm(b:ByteArray):List Value:=b.data.toList.map fun x=>uh x.toNat
theorem ajC{w:World}{B:Nat}{v:Value}(n:pF w)(s:ByteArray)(q:w.ownsRow B 5 1 v s.size (Pm s)):Calls prog 48 #[v] w fun e w'=>e=.returned (.int .u32 ((Pk.sum s s.size:Nat):Int))/\w'=w:=by
 obtain⟨z,G,rfl,k⟩:=aB q;have y:Hid (∀i,i<s.size->∃g,z=some ⟨g,0,none⟩/\w.cell? ⟨g,i,none⟩=some (.int .u8 ((Pk.l6 s i:Nat):Int))):=fun i A=>by
  have t:i<s.data.size:=A;obtain⟨g,c,r,-,d⟩:=Fz q (p:=i) (u:=uh (Pk.l6 s i)) (by
   unfold Pm Pk.l6;rw[dj,fW,j7 t,mB,j7 t];rfl)
  cases r;exact⟨g,rfl,d⟩
 have H:s.size<=9223372036854775807:=by unfold maxLen at k;omega
 clear q k;go_enter func48,ntmps48;go_wp2_with fail
 go_loop [3,7] (fun v i=>∃j:Nat,j<=s.size/\i=.int .i64 (j:Int)/\v=.int .u32 ((Pk.sumTo s j:Nat):Int)) (fun _ i=>s.size - (intOf i).toNat)
 case atStart=>exact⟨0,by omega,rfl,rfl⟩
 case round=>
  obtain⟨j,O,rfl,rfl⟩:=hrel
  by_cases hjn:j<s.size
  ·have K:(j:Int)<(s.size:Int):=by omega
   obtain⟨g,rfl,M⟩:=y.out j hjn;have b:=Pk.Fg s j;have o:=Pk.Jg s j;obtain⟨a,l⟩:∃a,Pk.sumTo s j ^^^ Pk.l6 s j=a:=⟨_,rfl⟩;have f:a<4294967296:=by rw[<-l];exact Pk.Jj b (by omega)
   have L:bits BinOp.xor IntKind.u32 (Pk.sumTo s j:Int) (Pk.l6 s j:Int)=(a:Int):=by rw[u32_xor_nat _ _ b (by omega),l]
   obtain⟨c,d⟩:∃c,Pk.BX a=c:=⟨_,rfl⟩;have m:c<4294967296:=by rw[<-d];exact Pk.Nk f
   have x:Pk.sumTo s (j+1)=Pk.BX c:=by rw[Pk.sumTo,l,d]
   obtain⟨F,Q,P,C⟩:=MS n f;obtain⟨E,I,J,D⟩:=MS n m;rw[d]at C;rw[<-x]at D;have N:(Pk.l6 s j:Int) % 4294967296=(Pk.l6 s j:Int):=by omega
   clear d l x b o n y;go_wp2_with fail;exact⟨⟨j+1,by omega,by go_num,rfl⟩,by simp[intOf];omega⟩
  ·obtain rfl:j=s.size:=by omega
   go_wp2_with fail;go_ret;exact⟨Dl (u32_xor_nat 4294967295 _ (by decide) (Pk.Fg ..)),rfl⟩
namespace Pk
def most(p:T):Nat:=p.ay.length*(p.toks.length+p.aS.length)
def SN(b:ByteArray)(p:T)(r:Rd):Nat×Nat×Nat×Nat×Rd:=((num b 2 r).1,(below b p.ay.length 2 (num b 2 r).2).1,(num b 2 (below b p.ay.length 2 (num b 2 r).2).2).1 / 4096,(num b 2 (below b p.ay.length 2 (num b 2 r).2).2).1 % 4096,(num b 2 (below b p.ay.length 2 (num b 2 r).2).2).2)
def wJ(b:ByteArray)(p:T):Nat->Rd->List (Nat×Nat×Nat)->List (Nat×Nat×Nat)×Rd
 |0,r,l=>(l,r)
 |n+1,r,l=>match SN b p r with
  | (g,s,d,t,r')=>if (r'.bad || decide (most p<=l.length+g) || !BS p d t (((l.length+g:Nat):Int) - (p.ay.getD s 0:Nat)))=true then (l,r'.fail) else wJ b p n r' (l++List.replicate g (0,0,0)++[(d,t,s)])
def places(b:ByteArray)(p:T)(r:Rd):List (Nat×Nat×Nat)×Rd:=wJ b p (below b (most p+1) 3 r).1 (below b (most p+1) 3 r).2 []
end Pk
theorem Tryz.abx:(prog.info? 138).map (fun i=>(i.zero,i.size,i.bytes))=some (some (.agg #[.int .i64 0,.int .i64 0,.int .i64 0]),3,24):=by kernel_rfl
theorem Tryz.Tp:prog.underlying 74=some (.slice 138):=by kernel_rfl
theorem Tryz.adX:prog.underlying 3=some (.int .i64):=by kernel_rfl
theorem aif(m:Nat):(List.replicate m ((0,0,0):Nat×Nat×Nat)).flatMap bV=List.replicate (m*3) (.int .i64 0):=by
 induction m with
 |zero=>rfl
 |succ m ih=>
  rw[mT,du,ih,show (m+1)*3=m*3+1+1+1 by omega];rfl
theorem MU(m:Nat):(Builtin.zeroCells (Value.cells (.agg #[.int .i64 0,.int .i64 0,.int .i64 0])) m).toList=(List.replicate m ((0,0,0):Nat×Nat×Nat)).flatMap bV:=by
 rw[aif,List.eq_replicate_iff];refine⟨by rw[kh,sE];rfl,fun u a=>?_⟩;unfold Builtin.zeroCells at a;rw[Array.toList_map,ej]at a;obtain⟨i,-,rfl⟩:=a;have h3:i % (Value.cells (.agg #[.int .i64 0,.int .i64 0,.int .i64 0])).size<3:=tw _ (by decide);generalize i % (Value.cells (.agg #[.int .i64 0,.int .i64 0,.int .i64 0])).size=k at h3;obtain rfl|rfl|rfl:k=0\/k=1\/k=2:=by omega
 all_goals rfl
theorem ach(l:List (Nat×Nat×Nat)):∀u∈l.flatMap bV,u.oneCell'=true:=fun u b=>by
 obtain⟨x,-,a⟩:=gd.1 b;simp only[bV,ee,ph,or_false]at a;rcases a with rfl|rfl|rfl <;> rfl
structure gQ(w:World)(rb pb:Nat)(v:fV)(w':World)(v':fV):Prop where
 aU:∀k,k<w.heap.size->k≠rb->¬v.own pb k->w'.heap[k]?=w.heap[k]?
 new:∀k,v'.own pb k->v.own pb k\/w.heap.size<=k
 bS:w.heap.size<=w'.heap.size
 fr:w'.os=w.os/\w'.tape=w.tape/\w'.output=w.output
theorem gQ.trans{w w1 w2:World}{rb pb:Nat}{v v1 a:fV}(h:gQ w rb pb v w1 v1)(k:gQ w1 rb pb v1 w2 a):gQ w rb pb v w2 a where
 aU x hx h1 h2:=(k.aU x (dd hx h.bS) h1 fun e=>(h.new x e).elim h2 fun e=>by omega).trans (h.aU x hx h1 h2)
 new x hx:=(k.new x hx).elim (h.new x) fun e=>.inr (dg h.bS e)
 bS:=dg h.bS k.bS
 fr:=⟨k.fr.1.trans h.fr.1,k.fr.2.1.trans h.fr.2.1,k.fr.2.2.trans h.fr.2.2⟩
theorem gQ.read{w w':World}{rb pb:Nat}{v:fV}{b:ByteArray}{r':Pk.Rd}(T:jf w rb b w' r'):gQ w rb pb v w' v:=⟨fun k c a _=>T.g.block k c fun e=>a (by cases e;rfl),fun _ e=>.inl e,T.g.size,T.g.1,T.g.2,T.g.3⟩
theorem gQ.below{w w':World}{rb pb:Nat}{v:fV}(h:Below w.heap.size w w'):gQ w rb pb v w' v:=⟨fun k a _ _=>h.block k a,fun _ e=>.inl e,h.size,h.1,h.2,h.3⟩
theorem gQ.JN{w w':World}{rb pb:Nat}{v:fV}{x:Value}(a:w.grownBy w' v.vP.ownBlock)(b:x.ownBlock=v.vP.ownBlock\/∃g,x.ownBlock=some g/\w.heap.size<=g):gQ w rb pb v (w'.setCell ⟨pb,1,none⟩ x) { v with vP:=x } where
 aU k hk _ hn:=by
  rw[fQ _ _ fun e=>hn (.inl e)];exact a.block k hk fun e=>hn (.inr (.inr (.inl e.symm)))
 new k hk:=by
  rcases hk with e|e|e|e|e|e|e
  ·exact .inl (.inl e)
  ·exact .inl (.inr (.inl e))
  ·rcases b with b | ⟨g,b,d⟩
   ·exact .inl (.inr (.inr (.inl (b▸e))))
   ·have c:x.ownBlock=some k:=e
    rw[b]at c;cases c;exact .inr d
  ·exact .inl (.inr (.inr (.inr (.inl e))))
  ·exact .inl (.inr (.inr (.inr (.inr (.inl e)))))
  ·exact .inl (.inr (.inr (.inr (.inr (.inr (.inl e))))))
  ·exact .inl (.inr (.inr (.inr (.inr (.inr (.inr e))))))
 bS:=by simpa using a.size
 fr:=⟨a.1,a.2,a.3⟩
end Go.Proofs.YtagkodkijkpemaaGreatDoor

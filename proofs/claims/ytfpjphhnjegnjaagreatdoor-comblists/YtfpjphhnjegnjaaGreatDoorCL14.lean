import Derived.Test.YtfpjphhnjegnjaaGreatDoorCL13
import Derived.Test.YtfpjphhnjegnjaaGreatDoorCL11
import Derived.Test.YtfpjphhnjegnjaaGreatDoorRows
import Derived.LaidMore
import Derived.LaidSub
import Derived.LaidHandle
set_option maxHeartbeats 8000000
set_option maxRecDepth 1000000
namespace Go.Proofs.YtfpjphhnjegnjaaGreatDoor
open Lx Go.Proofs.Tryz
open Go.RowKit Tr
open Go.Value renaming slice→ς,int→ι,string→τ,pointer→π,bool→μ,agg→γ,tuple→θ
open Go.IntKind renaming i64→ξ
open Option renaming none→ν,some→ο
open Go.Ending renaming returned→δ
open Go.Obj renaming cells→ζ
open Bool renaming true→η,false→ε
open Go renaming World→ω,Value→υ,Calls→χ
open Go.RowKit renaming Below→φ
open List renaming replicate→ψ
variable{A:Tb.CH}{B s x:ByteArray}{C:List (List (Nat×Nat))}{E:List (Nat×Nat×Nat)}{G:Nat×Nat->Nat->Prop}{N NM b gP gm lb n nS nT pc sz tc:Nat}{P:List Lx.Pd}{R:Nat×Nat->Prop}{V W t w w':ω}{f:Nat×Nat->Nat}{l:List Nat}{m:Pk.Mk}{nb:List ((Nat×Nat)×Nat)}{q:List (List Bool)}{ta:Option Addr}{tb:List ((Nat×Nat)×List Nat)}{v1 v3 v4:υ}
def Ri(W0:ω)(P:List Lx.Pd)(f:Nat×Nat->Nat)(E0:List Bool)(F0:List (List Nat))(nT N st:Nat)(R:Nat×Nat->Prop)(G:Nat×Nat->Nat->Prop)(v:υ)(w:ω):Prop:=∃(c:aW)(S:bK)(K:List (Nat×Nat))(ss:List (List Nat)),c.P=P/\c.f=f/\c.nT=nT/\c.E=E0/\c.fs=F0/\jA c R G (fun _ _=>True) S/\S.wq=[]/\(0,st)∈S.st/\(∀ws∈S.ss,ws.length=c.nw)/\mW S (c.Bw S) K ss/\(∀ws∈ss,ws.length=c.nw/\jU ws)/\qA w v ((List.range N).map fun i=>ja c.nw K ss i c.P.length)/\φ W0.heap.size W0 w
def PK(Z:υ->ω->Prop)(N lb:Nat)(W:ω):Prop:=χ prog 29 #[π (ο ⟨lb,0,ν⟩)] W fun e W'=>e=δ (θ #[])/\χ prog 30 #[π (ο ⟨lb,0,ν⟩),ι ξ (N:Int)] W' fun e w=>∃a cp,e=δ (ς a N cp)/\Z (ς a N cp) w
structure MS(P:List Lx.Pd)(f:Nat×Nat->Nat)(E0:List Bool)(F0:List (List Nat))(nT sz N st NM:Nat)(R:Nat×Nat->Prop)(G:Nat×Nat->Nat->Prop):Prop where
 n0:0<N
 nl:N<=300
 fN:∀a,f a<N
 ok:Vp sz P
 p0:0<P.length
 pl:P.length<=200
 rl:∀p∈P,p.right.length<=2002
 t0:0<nT
 tl:nT<=60000
 rN:∀s,R s->s.1<N
 nm:NM<=900000
 s0:P[0]?.map Lx.Pd.left=ο st
 g:∀c:aW,c.P=P->c.f=f->c.nT=nT->c.sz=sz->c.E=E0->c.fs=F0->Fg c st NM R G
theorem al8{q:ω}{V:List Bool}{O:List (List Nat)}{st:Nat}(C:φ t.heap.size t q)(z:φ q.heap.size q W)(X:∀W',φ t.heap.size t W'->TabAt 2 Lib.deBruijn64tab W')(hp:MS P f V O nT sz N st NM R G)(h:∃c F S,c.lb=lb/\c.P=P/\c.f=f/\c.nT=nT/\c.sz=sz/\c.E=V/\c.fs=O/\mK c W F W.heap.size/\jV c W F W.heap.size W S/\S.st=[]/\S.wq=[]/\∀k,k<q.heap.size->F k):PK (Ri t P f V O nT N st R G) N lb W:=by
 obtain⟨c,F,S,rfl,rfl,rfl,rfl,rfl,rfl,rfl,hF,hM,h1,h2,u⟩:=h;have H:=hp.g c rfl rfl rfl rfl rfl rfl;have j:c.nw<=1000:=by
  have:=hp.tl;unfold aW.nw Lx.nW;omega
 have Q:∀(k y:Nat),y∈bW c.P k->y<c.sz:=fun k y n=>by
  unfold bW at n;cases e:c.P[k]? with
  |none=>rw[e]at n;cases n
  |some p=>rw[e]at n;exact(hp.ok p (cM e)).2 y n
 have L:=ahA hF hM h1 h2 H hp.s0 (cY j (by decide)) hp.nm (fun s x _ _ y n=>Q _ y (xh n));refine L.mono ?_;rintro e W'⟨rfl,B,d,U,hq,h0⟩;refine⟨rfl,?_⟩;have hl:∀ws∈B.ss,ws.length=c.nw:=fun ws I=>by
  obtain⟨i,hi⟩:=fb.1 I;obtain⟨g,H⟩:∃g,B.gs[i]?=ο g:=⟨_,cG (by rw[d.m.lg,<-d.m.ls];exact(cH.1 hi).1)⟩;obtain⟨-,aa,Z,-,k2⟩:=d.m.sets i g H;rw[hi]at Z;cases Z;exact k2
 have hR:∀s∈B.st,R s:=fun s hs=>by
  obtain⟨p,hp⟩:=fb.1 hs;exact(U.snd p s hp).1
 have T:φ q.heap.size q W':=⟨d.x.fr.1.trans z.1,d.x.fr.2.1.trans z.2,d.x.fr.2.2.trans z.3,cY z.size d.x.bL,fun k A=>(d.m.keep k (u k A)).trans (z.block k A)⟩;have o:=C.trans (T.mono C.size);have Rh:=ahI hF d.m (cY (H.rn B.st U.nd hR) hp.nm) (cY j (by decide)) (fun K hn hK=>cY (Y6 (a:=N) (b:=c.P.length) hn fun e he=>by
  obtain⟨i,s,x,hs,Y,rfl⟩:=hK e he;obtain⟨Y,-⟩:=j'.1 Y;obtain⟨sp,r⟩:=x;obtain⟨h1,h2,h3,h4⟩:=(NR _).1 Y;refine⟨?_,h1⟩;show r<N;rw[h4];exact ac4 hp.fN _ _ (hp.rN s (hR s (cM hs)))) (cY (AD hp.nl hp.pl) (by decide)))
 have J:=ahS (N:=N) d.m.blk Rh (X _ o) (cY hp.nl (by decide)) (cY hp.pl (by decide)) j (fun K ss _ hs ws hw=>cY (ab8 (hs ws hw).2 _) (cY (kj 64 j) (by decide)));refine J.mono ?_;rintro e w⟨v,K,ss,rfl,M,hA,hs,D⟩;have l:=D;obtain⟨a,cp,rfl,-⟩:=D;rw[dk,pA]at l|-;exact⟨a,cp,rfl,c,B,K,ss,rfl,rfl,rfl,rfl,rfl,U,hq,h0,hl,hA,hs,l,o.trans (M.mono o.size)⟩
theorem akI{l:ω}{j J D st:Nat}{n:List Bool}{u:List Nat}{s:List (List Nat)}(hp:MS P f n s nT sz N st NM R G)(x:φ l.heap.size l W)(T:sJ l (fun k=>k<l.heap.size) gP P)(A:aj l J (bE n) 4)(O:n.length=sz)(y:bZ bq (fun _=>True) W gm (fun a=>(f a:Int)))(K:aj W D (u.map (iw (Lx.nW nT))).toArray 174)(C:u.length=sz)(Q:∀(i g:Nat),u[i]?=ο g->∃ws,s[i]?=ο ws/\TS W g ws/\ws.length=Lx.nW nT)(km:W.heap[j]?=ο (.map #[] 0))(r:aj W lb #[ς ta nT tc,v1,ς (ο ⟨gP,0,ν⟩) P.length pc,v3,v4,.map (ο gm),ς (ο ⟨J,0,ν⟩) sz sz,ς (ο ⟨D,0,ν⟩) sz sz,.map (ο j),ς ν 0 0,ς ν 0 0,ς ν 0 0,ς ν 0 0] 92)(B:j≠gm)(V:l.heap.size<=lb)(U:l.heap.size<=j):∃c F S,c.lb=lb/\c.P=P/\c.f=f/\c.nT=nT/\c.sz=sz/\c.E=n/\c.fs=s/\mK c W F W.heap.size/\jV c W F W.heap.size W S/\S.st=[]/\S.wq=[]/\∀k,k<l.heap.size->F k:=by
 have hlp:lb≠j:=by
  rintro rfl;rw[show W.heap[lb]?=_ from r]at km;cases km
 have d:∀k,k<l.heap.size->(k<W.heap.size/\k≠lb/\k≠j):=fun k z=>⟨dg z x.size,by omega,by omega⟩
 have v:=r.lt;have H:=(ei.1 km).1;have q:∀(g t:Nat)(m:Array υ),W.heap[g]?=ο (ζ m t)->t≠92->g<W.heap.size/\g≠lb/\g≠j:=fun g t m o M=>by
  refine⟨(ei.1 o).1,?_,?_⟩
  ·rintro rfl
   rw[show W.heap[g]?=_ from r]at o;cases o;exact M rfl
  ·rintro rfl
   rw[km]at o;cases o
 refine⟨⟨lb,j,gm,gP,J,D,nT,tc,pc,sz,sz,ta,v1,v3,v4,P,f,n,u,s⟩,fun k=>k<W.heap.size/\k≠lb/\k≠j,⟨ς ν 0 0,ς ν 0 0,ς ν 0 0,ς ν 0 0,[],[],[],[],[]⟩,rfl,rfl,rfl,rfl,rfl,rfl,rfl,?_,?_,rfl,rfl,d⟩
 ·refine⟨(T.move fun b I=>x.block b I).imp d,(x.block _ A.lt).trans A,O,fun i g L=>?_,C,y,d _ A.lt,q _ _ _ K (by decide),⟨y.lt,?_,fun e=>B e.symm⟩,fun k z=>z,v,H,hp.pl,fun k=>?_,⟨hp.t0,cY hp.tl (by decide)⟩⟩
  ·obtain⟨ws,h1,h2,h3⟩:=Q i g L
   refine⟨?_,q _ _ _ h2.blk (by decide),ws,h1,h2,h3⟩;rw[K.cell i,ie,dj,L];rfl
  ·intro e
   obtain⟨X,Y,k,-⟩:=y;rw[show gm=lb from e,show W.heap[lb]?=_ from r]at k;cases k
  ·unfold bW
   show ((P[k]?.map Lx.Pd.right).getD []).length<=2002;cases e:P[k]? with
   |none=>exact fi _
   |some p=>exact hp.rl p (cM e)
 ·refine⟨⟨fun _ _=>rfl,r,eV _ _ _ _,eV _ _ _ _,?_,eV _ _ _ _,⟨#[],0,km,rfl,fun i e h=>(by simp at h)⟩,fun i g h=>(by simp at h),ot,zL0⟩,rfl,rfl,rfl⟩
  exact .inl ⟨rfl,rfl⟩
namespace Lx
def JZ(E:List Bool)(fs:List (List Nat))(X:Nat->Bool):List Nat->Nat->Bool
 | [],t=>X t
 |s::r,t=>dL (fs.getD s []) t || (aJ E s && JZ E fs X r t)
theorem Sy{E:List Bool}{a:List (List Nat)}{X:Nat->Bool}{t:Nat}:∀r,JZ E a X r t=η↔xJ E a (fun t=>X t=η) r t
 | []=>Iff.rfl
 |s::r=>by rw[JZ,xJ,oY,ml,Sy r]
theorem RX{E:List Bool}{a:List (List Nat)}{X Y:Nat->Prop}{t:Nat}(h:X t->Y t):∀r,xJ E a X r t->xJ E a Y r t
 | []=>h
 |_::r=>Or.imp id (And.imp id (RX h r))
theorem has_lt{ws:List Nat}{t:Nat}(a:ws.length=1)(h:dL ws t=η):t<64:=by
 apply jt;intro b;unfold dL at h;rw[di,kf (by rw[a];omega)]at h;simp at h
theorem aa8{E:List Bool}{a:List (List Nat)}{X:Nat->Prop}{t:Nat}(b:X t->t<64):∀r,(∀y∈r,(a.getD y []).length=1)->xJ E a X r t->t<64
 | [],_,h=>b h
 |s::r,hf,h=>by
  rcases h with h|⟨-,h⟩
  ·exact has_lt (hf s eE) h
  ·exact aa8 b r (fun y c=>hf y (eR _ c)) h
theorem Nz{E:List Bool}{a:List (List Nat)}{d:List Nat}{n t:Nat}(c:d.length=n):∀r x,(∀y∈r,(a.getD y []).length=n)->x.length=n->(dL x t=η\/xJ E a (fun t=>dL d t=η) r t)->dL (jR E a d r x) t=η
 | [],x,_,hx,h=>by
  rw[jR,Nu (c.trans hx.symm),oY];exact h
 |s::r,x,hf,hx,h=>by
  have i:=hf s eE;have f:=Nu (ws:=x) (vs:=a.getD s []) (i.trans hx.symm) t;unfold jR;rcases h with h|h|⟨g,h⟩
  ·have:dL (dZ x (a.getD s [])) t=η:=by rw[f,h];rfl
   split
   ·exact Nz c r _ (fun y b=>hf y (eR _ b)) (by rw[yT];exact hx) (.inl this)
   ·exact this
  ·have:dL (dZ x (a.getD s [])) t=η:=by rw[f,h,Bool.or_true]
   split
   ·exact Nz c r _ (fun y b=>hf y (eR _ b)) (by rw[yT];exact hx) (.inl this)
   ·exact this
  ·rw[du g]
   exact Nz c r _ (fun y b=>hf y (eR _ b)) (by rw[yT];exact hx) (.inr h)
def Yh(P:List Pd)(f:Nat×Nat->Nat)(nT:Nat)(s:Nat×Nat):List (au×Nat):=(iE P f s.1 s.2 P.length).filter (iN P nT)
def Yi(P:List Pd)(x:au×Nat):Nat×Nat:=(x.2,(eF P x.1).getD 0)
def Rj(P:List Pd)(f:Nat×Nat->Nat)(s:Nat×Nat):List (Nat×Nat):=((iE P f s.1 s.2 P.length).filter (Dg P)).map aW.end
def vX(tb:List ((Nat×Nat)×List Nat))(s:Nat×Nat):List Nat:=(tb.lookup s).getD []
def grow(P:List Pd)(f:Nat×Nat->Nat)(nT:Nat)(E:List Bool)(fs:List (List Nat)):List Nat->List ((Nat×Nat)×List Nat)->List ((Nat×Nat)×List Nat)
 | [],F=>F
 |i::l,F=>grow P f nT E fs l (match F[i]? with
  |some y=>F++(Yh P f nT y.1).map fun x=>(Yi P x,(List.range 64).filter (JZ E fs (fun t=>y.2.contains t) (qy P x.1)))
  |none=>F)
def PL(nb:List ((Nat×Nat)×Nat))(i:Nat):Nat->List (Nat×List Nat)
 |0=>[]
 |k+1=>PL nb i k++(match nb.lookup (i,k) with
  |some m=>[(k,oO [m] 1)]
  |none=>[])
theorem amN{ws:List Nat}{m:Nat}(d:ws.length=1)(a:jU ws)(b:m<18446744073709551616)(c:∀t,t<64->(dL ws t=η↔dL [m] t=η)):ws=[m]:=by
 match ws,d with
 | [x],_=>
  have f:x<2 ^ 64:=a x (by simp);have:x=m:=by
   apply ww;intro i
   by_cases hi:i<64
   ·have:=c i hi
    unfold dL at this;rw[ut hi,zb hi,List.getD_cons_zero,List.getD_cons_zero]at this;cases h1:x.testBit i <;> cases h2:m.testBit i <;> simp_all
   ·have hp:(2:Nat) ^ 64<=2 ^ i:=tB (by omega) (by omega)
    rw[vf (dg f hp),vf (dg b hp)]
  rw[this]
theorem RY{α β:Type}[BEq α][LawfulBEq α]{a:α}{b:β}:∀{l:List (α×β)},l.lookup a=ο b->(a,b)∈l
 | [],h=>by cases h
 | (x,y)::l,h=>by
  rw[List.lookup_cons]at h
  split at h
  ·rename_i e
   cases h;rw[eq_of_beq e];exact eE
  ·exact eR _ (RY h)
theorem Y9{α β:Type}[BEq α][LawfulBEq α]{a:α}:∀{l:List (α×β)},a∈l.map Prod.fst->∃b,l.lookup a=ο b
 | [],h=>by cases h
 | (x,y)::l,h=>by
  rw[List.lookup_cons];cases e:a == x with
  |true=>exact⟨y,rfl⟩
  |false=>
   rcases fh.1 h with h|h
   ·have h:a=x:=h
    rw[h,tj]at e;cases e
   ·exact Y9 h
end Lx
structure yO(P:List Lx.Pd)(f:Nat×Nat->Nat)(nT sz N st:Nat)(E:List Bool)(fs:List (List Nat))(tb:List ((Nat×Nat)×List Nat))(F:List ((Nat×Nat)×List Nat))(nb:List ((Nat×Nat)×Nat))(A:Tb.CH):Prop where
 nw:Lx.nW nT=1
 z:(0,st)∈tb.map Prod.fst/\0∈vX tb (0,st)
 bd:∀s∈tb.map Prod.fst,s.1<N/\s.2<sz
 tn:∀y∈tb,vX tb y.1=y.2/\∀t∈y.2,t<64
 cl:∀s∈tb.map Prod.fst,∀x∈Yh P f nT s,Yi P x∈tb.map Prod.fst/\(∀t∈List.range 64,JZ E fs (fun t=>(vX tb s).contains t) (qy P x.1) t=η->t∈vX tb (Yi P x))/\∀y∈qy P x.1,(fs.getD y []).length=1
 Ql:∀y∈tb,(∃z∈F,z.1=y.1)/\∀t∈y.2,∃z∈F,z.1=y.1/\t∈z.2
 en:∀y∈tb,∀e∈Rj P f y.1,e∈nb.map Prod.fst
 nt:∀y∈nb,(∃z∈tb,y.1∈Rj P f z.1)/\y.2<18446744073709551616/\∀t∈List.range 64,dL [y.2] t=η↔∃z∈tb,y.1∈Rj P f z.1/\t∈z.2
 an:(List.range N).map (fun i=>PL nb i P.length)=A
section
variable{c:aW}{S:bK}{sz N st:Nat}{tb F:List ((Nat×Nat)×List Nat)}{nb:List ((Nat×Nat)×Nat)}{A:Tb.CH}
def IQ(tb:List ((Nat×Nat)×List Nat))(s:Nat×Nat):Prop:=s∈tb.map Prod.fst
def MU(tb:List ((Nat×Nat)×List Nat))(s:Nat×Nat)(t:Nat):Prop:=t∈vX tb s
theorem J2(h:yO c.P c.f c.nT sz N st c.E c.fs tb F nb A){s:Nat×Nat}(b:IQ tb s):∃y∈tb,y.1=s/\vX tb s=y.2/\∀t∈y.2,t<64:=by
 obtain⟨y,a,rfl⟩:=fk.1 b;exact⟨y,a,rfl,h.tn y a⟩
theorem yO.Gq(h:yO c.P c.f c.nT sz N st c.E c.fs tb F nb A):Fg c st (N*sz) (IQ tb) (MU tb) where
 r0:=h.z.1
 r1 s x a hx:=(h.cl s a x hx).1
 rn l hn hl:=Y6 hn fun s a=>h.bd s (hl s a)
 g0:=h.z.2
 g1 s x t a hx hp:=by
  obtain⟨-,h2,h3⟩:=h.cl s a x hx;obtain⟨y,-,-,g,d⟩:=J2 h a;have i:=aa8 (fun b=>by unfold MU at b;rw[g]at b;exact d t b) _ h3 hp;refine h2 t (pN.2 i) ((Sy _).2 (RX (fun b=>?_) _ hp));exact wj.2 b
def Got(S:bK)(F:List ((Nat×Nat)×List Nat)):Prop:=∀y∈F,∃p,S.st[p]?=ο y.1/\∀t∈y.2,dL (S.ss.getD p []) t=η
theorem ade(b:S.ss.length=S.st.length)(a:∀ws∈S.ss,ws.length=n){p:Nat}{s:Nat×Nat}(hp:S.st[p]?=ο s):(S.ss.getD p []).length=n:=by
 have k:p<S.ss.length:=by rw[b];exact(cH.1 hp).1
 rw[di,cG k];exact a _ (eJ k)
theorem Got.grow{R:Nat×Nat->Prop}{G:Nat×Nat->Nat->Prop}(a:jA c R G (fun _ _=>True) S)(r:S.wq=[])(d:∀ws∈S.ss,ws.length=1)(n:∀s,R s->∀x∈Yh c.P c.f c.nT s,∀y∈qy c.P x.1,(c.fs.getD y []).length=1):∀(l:List Nat)(F:List ((Nat×Nat)×List Nat)),Got S F->Got S (Lx.grow c.P c.f c.nT c.E c.fs l F)
 | [],F,h=>h
 |i::l,F,h=>by
  unfold Lx.grow;refine Got.grow a r d n l _ ?_;cases e:F[i]? with
  |none=>exact h
  |some y=>
   intro z b;rcases dq.1 b with b|b
   ·exact h z b
   obtain⟨x,o,rfl⟩:=fk.1 b;obtain⟨p,hp,v⟩:=h y (cM e);have u:S.ws[p]?=ο ε:=by
    have k:p<S.ws.length:=by rw[a.lw];exact(cH.1 hp).1
    have e:=cG k;cases hb:S.ws[p] with
    |false=>rw[e,hb]
    |true=>
     rw[hb]at e;have:=(a.q p).2 e;rw[r]at this;cases this
   obtain⟨j,C⟩:=fb.1 o;obtain⟨q,m,B⟩:=a.cls p y.1 j x hp u trivial C;refine⟨q,m,fun t g=>?_⟩;obtain⟨-,g⟩:=j'.1 g;have D:=RX (Y:=fun t=>dL (S.ss.getD p []) t=η) (t:=t) (fun H=>v t (wj.1 H)) _ ((Sy _).1 g);rw[<-B];exact Nz (ade a.ls d hp) _ _ (n y.1 (a.snd p _ hp).1 x o) (ade a.ls d m) (.inr D)
theorem yO.all(h:yO c.P c.f c.nT sz N st c.E c.fs tb (Lx.grow c.P c.f c.nT c.E c.fs l [((0,st),[0])]) nb A)(a:jA c (IQ tb) (MU tb) (fun _ _=>True) S)(n:S.wq=[])(B:∀ws∈S.ss,ws.length=c.nw)(D:(0,st)∈S.st)(m:c.st0 st):(∀p s,S.st[p]?=ο s->∀t,dL (S.ss.getD p []) t=η↔t∈vX tb s)/\∀s,s∈S.st↔IQ tb s:=by
 have o:∀ws∈S.ss,ws.length=1:=fun ws v=>(B ws v).trans h.nw
 have u:Got S _:=Got.grow a n o (fun s d x G=>(h.cl s d x G).2.2) l [((0,st),[0])] fun y b=>by
  obtain rfl:=dd.1 b;obtain⟨p,hp⟩:=fb.1 D;refine⟨p,hp,fun t i=>?_⟩;obtain rfl:=dd.1 i;exact a.Iq p st m hp
 have k:∀p q s,S.st[p]?=ο s->S.st[q]?=ο s->p=q:=fun p q s hp n=>by
  obtain⟨h1,g⟩:=cH.1 hp;obtain⟨h2,H⟩:=cH.1 n;exact(mC a.nd).1 (g.trans H.symm)
 refine⟨fun p s hp t=>⟨(a.snd p s hp).2 t,fun i=>?_⟩,fun s=>⟨fun d=>?_,fun d=>?_⟩⟩
 ·obtain⟨y,b,rfl,e,-⟩:=J2 h (a.snd p s hp).1
  rw[e]at i;obtain⟨z,r,g,j⟩:=(h.Ql y b).2 t i;obtain⟨q,hq',C⟩:=u z r;rw[g]at hq';rw[k p q _ hp hq'];exact C t j
 ·obtain⟨p,hp⟩:=fb.1 d
  exact(a.snd p s hp).1
 ·obtain⟨y,b,rfl,-⟩:=J2 h d
  obtain⟨z,r,g⟩:=(h.Ql y b).1;obtain⟨q,hq',-⟩:=u z r;rw[g]at hq';exact cM hq'
theorem yO.ans(h:yO c.P c.f c.nT sz N st c.E c.fs tb (Lx.grow c.P c.f c.nT c.E c.fs l [((0,st),[0])]) nb A)(M:jA c (IQ tb) (MU tb) (fun _ _=>True) S)(J:S.wq=[])(O:∀ws∈S.ss,ws.length=c.nw)(H:(0,st)∈S.st)(r:c.st0 st){K:List (Nat×Nat)}{ss:List (List Nat)}(u:mW S (c.Bw S) K ss)(Q:∀ws∈ss,ws.length=c.nw/\jU ws):((List.range N).map fun i=>ja c.nw K ss i c.P.length)=A:=by
 obtain⟨D,q⟩:=h.all M J O H r;have hd:∀i e,c.Bw S i e↔∃s,S.st[i]?=ο s/\e∈Rj c.P c.f s:=fun i e=>by
  constructor
  ·rintro⟨s,x,h1,h2,rfl⟩
   exact⟨s,h1,fk.2 ⟨x,h2,rfl⟩⟩
  ·rintro⟨s,h1,h2⟩
   obtain⟨x,h3,rfl⟩:=fk.1 h2;exact⟨s,x,h1,h3,rfl⟩
 have B:∀e,e∈K↔e∈nb.map Prod.fst:=fun e=>by
  rw[u.mem];constructor
  ·rintro⟨i,a⟩
   obtain⟨s,h1,h2⟩:=(hd i e).1 a;obtain⟨y,j,rfl,-⟩:=J2 h ((q s).1 (cM h1));exact h.en y j e h2
  ·intro T
   obtain⟨y,j,rfl⟩:=fk.1 T;obtain⟨⟨z,o,h2⟩,-⟩:=h.nt y j;obtain⟨i,a⟩:=fb.1 ((q z.1).2 (xn o));exact⟨i,(hd i _).2 ⟨z.1,a,h2⟩⟩
 have n:∀p e m,K[p]?=ο e->(e,m)∈nb->ss.getD p []=[m]:=fun p e m hp v=>by
  have g:p<ss.length:=by rw[u.len];exact(cH.1 hp).1
  have C:ss.getD p []=ss[p]:=by rw[di,cG g];rfl
  obtain⟨G,R⟩:=Q ss[p] (eJ g);obtain⟨-,U,I⟩:=h.nt _ v;rw[C];refine amN (G.trans h.nw) R U fun t b=>?_
  rw[<-C,u.has p e t hp,I t (pN.2 b)];constructor
  ·rintro⟨i,a,b⟩
   obtain⟨s,h1,h2⟩:=(hd i e).1 a;have b:=(D i s h1 t).1 b;obtain⟨y,j,rfl,L,-⟩:=J2 h ((q s).1 (cM h1));exact⟨y,j,h2,by rw[<-L];exact b⟩
  ·rintro⟨z,o,h2,b⟩
   obtain⟨i,a⟩:=fb.1 ((q z.1).2 (xn o));exact⟨i,(hd i e).2 ⟨z.1,a,h2⟩,(D i z.1 a t).2 (by rw[(h.tn z o).1];exact b)⟩
 have a:∀i k,ja 1 K ss i k=PL nb i k:=fun i k=>by
  induction k with
  |zero=>rfl
  |succ k ih=>
   rw[ja,PL,ih];congr 1;unfold Eo
   by_cases hk:(i,k)∈K
   ·rw[du hk]
    obtain⟨m,e⟩:=Y9 ((B _).1 hk);rw[e];have d:=List.idxOf_lt_length_iff.2 hk;simp only;rw[n _ (i,k) m (by rw[cG d];exact fd ο (List.getElem_idxOf d)) (RY e)]
   ·rw[dt hk]
    cases e:nb.lookup (i,k) with
    |none=>rfl
    |some m=>exact absurd ((B _).2 (fk.2 ⟨_,RY e,rfl⟩)) hk
 have v:c.nw=1:=h.nw;rw[<-h.an,v];exact ju fun i _=>a i _
end
def yP:Obj:=ζ #[ς ν 0 0,ς ν 0 0,ς ν 0 0,ς ν 0 0,ς ν 0 0,.map ν,ς ν 0 0,ς ν 0 0,.map ν,ς ν 0 0,ς ν 0 0,ς ν 0 0,ς ν 0 0] 92
def IU:Obj:=.map #[] 0
theorem tu{o:Obj}(a:φ V.heap.size V w')(k:V.heap[b]?=ο o):w'.heap[b]?=ο o:=(a.block b (ei.1 k).1).trans k
theorem IV(w:ω)(o:Obj):(w.alloc o).heap[w.heap.size]?=ο o:=py w o
theorem Rm{o:Obj}(a:Obj)(h:w.heap[b]?=ο o):(w.alloc a).heap[b]?=ο o:=tu ((cV _ w).alloc (zL0) a) h
theorem Ro(w:ω)(o a:Obj):((w.alloc o).alloc a).heap[w.heap.size]?=ο o:=Rm a (IV w o)
theorem Rp(w:ω)(o a:Obj):((w.alloc o).alloc a).heap[w.heap.size+1]?=ο a:=by
 have:=IV (w.alloc o) a
 rwa [show (w.alloc o).heap.size=w.heap.size+1 by simp]at this
theorem Yj{o:Obj}(h:w.heap[b]?=ο o):w.drew.heap[b]?=ο o:=h
theorem adO(h:w.heap[b]?=ο yP):(∀i,w.frozen? ⟨b,i,ν⟩=ε)/\w.cell? ⟨b,0,ν⟩=ο (ς ν 0 0)/\w.cell? ⟨b,1,ν⟩=ο (ς ν 0 0)/\w.cell? ⟨b,2,ν⟩=ο (ς ν 0 0)/\w.cell? ⟨b,3,ν⟩=ο (ς ν 0 0)/\w.cell? ⟨b,4,ν⟩=ο (ς ν 0 0)/\w.cell? ⟨b,5,ν⟩=ο (.map ν)/\w.cell? ⟨b,6,ν⟩=ο (ς ν 0 0)/\w.cell? ⟨b,7,ν⟩=ο (ς ν 0 0)/\w.cell? ⟨b,8,ν⟩=ο (.map ν)/\w.cell? ⟨b,9,ν⟩=ο (ς ν 0 0)/\w.cell? ⟨b,10,ν⟩=ο (ς ν 0 0)/\w.cell? ⟨b,11,ν⟩=ο (ς ν 0 0)/\w.cell? ⟨b,12,ν⟩=ο (ς ν 0 0):=by
 have k:aj w b _ 92:=h;exact⟨k.frozen,k.cell 0,k.cell 1,k.cell 2,k.cell 3,k.cell 4,k.cell 5,k.cell 6,k.cell 7,k.cell 8,k.cell 9,k.cell 10,k.cell 11,k.cell 12⟩
abbrev Gu(w:ω)(r:Nat)(x0 x1 x2 x3 x4 x5 x6 x7 x8 x9 x10 z8 wV:υ):ω:=(((((((((((((w.setCell ⟨r,0,ν⟩ x0).setCell ⟨r,1,ν⟩ x1).setCell ⟨r,2,ν⟩ x2).setCell ⟨r,3,ν⟩ x3).setCell ⟨r,4,ν⟩ x4).setCell ⟨r,5,ν⟩ x5).setCell ⟨r,6,ν⟩ x6).setCell ⟨r,7,ν⟩ x7).setCell ⟨r,8,ν⟩ x8).setCell ⟨r,9,ν⟩ x9).setCell ⟨r,10,ν⟩ x10).setCell ⟨r,11,ν⟩ z8).setCell ⟨r,12,ν⟩ wV)
section
variable{w a:ω}{r B:Nat}(x0 x1 x2 x3 x4 x5 x6 x7 x8 x9 x10 z8 wV:υ)
theorem aay(h:w.heap[r]?=ο yP):aj (Gu w r x0 x1 x2 x3 x4 x5 x6 x7 x8 x9 x10 z8 wV) r #[x0,x1,x2,x3,x4,x5,x6,x7,x8,x9,x10,z8,wV] 92:=by
 have h:aj w r #[ς ν 0 0,ς ν 0 0,ς ν 0 0,ς ν 0 0,ς ν 0 0,.map ν,ς ν 0 0,ς ν 0 0,.map ν,ς ν 0 0,ς ν 0 0,ς ν 0 0,ς ν 0 0] 92:=h;have k:=((((((((((((h.set 0 x0).set 1 x1).set 2 x2).set 3 x3).set 4 x4).set 5 x5).set 6 x6).set 7 x7).set 8 x8).set 9 x9).set 10 x10).set 11 z8).set 12 wV;simp only[List.setIfInBounds_toArray,List.set_cons_zero,List.set_cons_succ]at k;exact k
theorem RJ(h:φ B a w)(b:B<=r):φ B a (Gu w r x0 x1 x2 x3 x4 x5 x6 x7 x8 x9 x10 z8 wV):=((((((((((((h.setCell b x0).setCell b x1).setCell b x2).setCell b x3).setCell b x4).setCell b x5).setCell b x6).setCell b x7).setCell b x8).setCell b x9).setCell b x10).setCell b z8).setCell b wV
theorem Ni(g:Nat)(b:g≠r):(Gu w r x0 x1 x2 x3 x4 x5 x6 x7 x8 x9 x10 z8 wV).heap[g]?=w.heap[g]?:=by
 unfold Gu
 repeat rw[wW _ _ _ b]
end
theorem amO{a:ω}(h:φ a.heap.size a V)(b:φ V.heap.size V w):φ a.heap.size a w:=h.trans (b.mono h.size)
theorem kp1{o:Obj}(a:φ (w.alloc o).heap.size (w.alloc o) w'):w'.heap[w.heap.size]?=ο o:=tu a (IV w o)
theorem aoI{o:Obj}(a:φ (w.alloc o).drew.heap.size (w.alloc o).drew w'):w'.heap[w.heap.size]?=ο o:=tu a (Yj (IV w o))
theorem XV{o a:Obj}(b:φ ((w.alloc o).alloc a).heap.size ((w.alloc o).alloc a) w'):w'.heap[w.heap.size]?=ο o/\w'.heap[w.heap.size+1]?=ο a:=⟨tu b (Ro w o a),tu b (Rp w o a)⟩
theorem aoJ{o a:Obj}(b:φ ((w.alloc o).alloc a).drew.heap.size ((w.alloc o).alloc a).drew w'):w'.heap[w.heap.size]?=ο o/\w'.heap[w.heap.size+1]?=ο a:=⟨tu b (Yj (Ro w o a)),tu b (Yj (Rp w o a))⟩
theorem IW(h:w.heap[b]?=ο yP):w.heap[b]?=ο yP:=h
theorem IX(h:w.heap[b]?=ο IU):w.heap[b]?=ο IU:=h
abbrev Kz(gm:Nat)(v0 v1 v2 v3 v4 v6 v7:υ)(pm:Nat):Array υ:=#[v0,v1,v2,v3,v4,.map (ο gm),v6,v7,.map (ο pm),ς ν 0 0,ς ν 0 0,ς ν 0 0,ς ν 0 0]
def Lg(Nx:Nat->ω->Prop)(w5 w7:ω)(gm:Nat)(v0 v1 v2 v3 v4 v6 v7:υ):Prop:=∀(W8:ω)(lb pm:Nat),φ w5.heap.size w5 W8->(∀k,k<w7.heap.size->k≠lb->W8.heap[k]?=w7.heap[k]?)->(lb<w7.heap.size->w7.heap[lb]?=ο yP)->W8.heap[pm]?=ο IU->aj W8 lb (Kz gm v0 v1 v2 v3 v4 v6 v7 pm) 92->pm≠gm->w5.heap.size<=lb->w5.heap.size<=pm->Nx lb W8
section
variable{Nx:Nat -> ω -> Prop}{w5 w7:ω}{gm l p:Nat}{v0 v1 v2 v3 v4 v6 v7:υ}
theorem IY{k:Nat}(h:k<w.heap.size)(o:Obj):(w.alloc o).heap[k]?=w.heap[k]?:=ed _ _ _ h
theorem ank(L:Lg Nx w5 w7 gm v0 v1 v2 v3 v4 v6 v7)(a:φ w5.heap.size w5 w7)(d:gm<w7.heap.size):Nx (w7.heap.size+1) ((w7.alloc (.map #[] 0)).alloc (ζ (Kz gm v0 v1 v2 v3 v4 v6 v7 w7.heap.size) 92)):=by
 have c:=a.size;refine L _ _ w7.heap.size (zB (zB a _) _) (fun k b _=>?_) (fun h=>by omega) (Ro _ _ _) (Rp _ _ _) (by omega) (by omega) c;rw[IY (by rw[eC];omega),IY b]
theorem anl(L:Lg Nx w5 w7 gm v0 v1 v2 v3 v4 v6 v7)(a:φ w5.heap.size w5 w7)(d:gm<w7.heap.size):Nx w7.heap.size ((w7.alloc (ζ (Kz gm v0 v1 v2 v3 v4 v6 v7 (w7.heap.size+1)) 92)).alloc (.map #[] 0)):=by
 have c:=a.size;refine L _ _ (w7.heap.size+1) (zB (zB a _) _) (fun k b _=>?_) (fun h=>by omega) (Rp _ _ _) (Ro _ _ _) (by omega) c (by omega);rw[IY (by rw[eC];omega),IY b]
theorem adP(L:Lg Nx w5 w7 gm v0 v1 v2 v3 v4 v6 v7)(a:φ w5.heap.size w5 w7)(km:w7.heap[p]?=ο IU)(hp:p≠gm)(b:w5.heap.size<=p):Nx w7.heap.size (w7.alloc (ζ (Kz gm v0 v1 v2 v3 v4 v6 v7 p) 92)) :=
 L _ _ p (zB a _) (fun _ c _=>IY c _) (fun h=>by omega) (Rm _ km) (IV _ _) hp a.size b
theorem Gv(L:Lg Nx w5 w7 gm v0 v1 v2 v3 v4 v6 v7)(d:φ w5.heap.size w5 w7)(km:w7.heap[p]?=ο IU)(a:w7.heap[l]?=ο yP)(hp:p≠gm)(c:w5.heap.size<=p)(b:w5.heap.size<=l):Nx l (Gu w7 l v0 v1 v2 v3 v4 (.map (ο gm)) v6 v7 (.map (ο p)) (ς ν 0 0) (ς ν 0 0) (ς ν 0 0) (ς ν 0 0)):=by
 refine L _ _ p (RJ _ _ _ _ _ _ _ _ _ _ _ _ _ d b) (fun k _ f=>Ni _ _ _ _ _ _ _ _ _ _ _ _ _ k f) (fun _=>a) ?_ (aay _ _ _ _ _ _ _ _ _ _ _ _ _ a) hp b c;rw[Ni _ _ _ _ _ _ _ _ _ _ _ _ _ p (fun e=>by subst e;rw[km]at a;cases a)];exact km
theorem adQ(L:Lg Nx w5 w7 gm v0 v1 v2 v3 v4 v6 v7)(c:φ w5.heap.size w5 w7)(i:gm<w7.heap.size)(a:w7.heap[l]?=ο yP)(b:w5.heap.size<=l):Nx l (Gu (w7.alloc (.map #[] 0)) l v0 v1 v2 v3 v4 (.map (ο gm)) v6 v7 (.map (ο w7.heap.size)) (ς ν 0 0) (ς ν 0 0) (ς ν 0 0) (ς ν 0 0)):=by
 have f:=(ei.1 a).1;refine L _ _ w7.heap.size (RJ _ _ _ _ _ _ _ _ _ _ _ _ _ (zB c _) b) (fun k d g=>(Ni _ _ _ _ _ _ _ _ _ _ _ _ _ k g).trans (IY d _)) (fun _=>a) ?_ (aay _ _ _ _ _ _ _ _ _ _ _ _ _ (Rm _ a)) (by omega) b c.size;rw[Ni _ _ _ _ _ _ _ _ _ _ _ _ _ _ (by omega)];exact IV _ _
end
theorem akJ{d c j:ω}{F C st:Nat}{q:List Bool}{v:List Nat}{u:List (List Nat)}(H:φ W.heap.size W d)(y:∀W',φ W.heap.size W W'->TabAt 2 Lib.deBruijn64tab W')(A:MS P f q u nT sz N st NM R G)(T:sJ d (fun k=>k<d.heap.size) gP P)(M:aj d F (bE q) 4)(K:q.length=sz)(D:bZ bq (fun _=>True) t gm (fun a=>(f a:Int)))(S:φ t.heap.size t c)(J:aj c C (v.map (iw (Lx.nW nT))).toArray 174)(z:v.length=sz)(Q:∀(i g:Nat),v[i]?=ο g->∃ws:List Nat,u[i]?=ο ws/\TS c g ws/\ws.length=Lx.nW nT)(B:φ d.heap.size d j)(E:∀k,k<c.heap.size->k≠lb->j.heap[k]?=c.heap[k]?)(m:lb<c.heap.size->c.heap[lb]?=ο yP)(km:j.heap[n]?=ο IU)(U:aj j lb (Kz gm (ς ta nT tc) v1 (ς (ο ⟨gP,0,ν⟩) P.length pc) v3 v4 (ς (ο ⟨F,0,ν⟩) sz sz) (ς (ο ⟨C,0,ν⟩) sz sz) n) 92)(x:n≠gm)(O:d.heap.size<=lb)(hp:d.heap.size<=n):PK (Ri W P f q u nT N st R G) N lb j:=by
 have l:∀(k:Nat)(o:Obj),c.heap[k]?=ο o->o≠yP->j.heap[k]?=ο o:=fun k o p L=>by
  have b:=(ei.1 p).1;refine(E k b fun e=>?_).trans p;subst e;rw[m b]at p;cases p;exact L rfl
 have r:=D.move (S.block _ D.lt);have s:bZ bq (fun _=>True) j gm (fun a=>(f a:Int)):=r.move (E gm r.lt fun e=>by
  have b:=r.lt;obtain⟨V,X,k,-⟩:=r;rw[e]at b;rw[e,m b]at k;cases k)
 refine al8 H B y A (akI A B T M K s (l _ _ J fun e=>(by unfold yP at e;injection e with _ e2;exact absurd e2 (by decide))) z (fun i g I=>?_) km U x O hp);obtain⟨ws,h1,h2,h3⟩:=Q i g I;exact⟨ws,h1,⟨l _ _ h2.blk fun e=>(by unfold yP at e;injection e with _ e2;exact absurd e2 (by decide)),h2.wd⟩,h3⟩
theorem ahT{g:Lx.Gr}{S:bI}{E0:List Bool}{B0:List (List Bool)}{st:Nat}(M:sP s g S)(hX:Ky g E0 B0)(hq:MS (bY g) (jB S.es S.es.length) E0 ((B0.map fq).map fun ts=>dQ (Lx.nW (aG g).length) ts ts.length) (aG g).length (jW g) S.ks.length st NM R G)(oC:∀W',φ W.heap.size W W'->iy W')(ai:∀W',φ W.heap.size W W'->TabAt 2 Lib.deBruijn64tab W'):χ prog 12 #[τ s] W fun e w'=>∃v,e=δ (θ #[v,ι ξ 0,ι ξ 0])/\Ri W (bY g) (jB S.es S.es.length) E0 ((B0.map fq).map fun ts=>dQ (Lx.nW (aG g).length) ts ts.length) (aG g).length S.ks.length st R G v w':=by
 have MV:=acj (W1:=W) M (oC W (cV _ _));have HM:Hid (∀W1,φ W.heap.size W W1->iy W1):=oC;have H2:Hid (∀W',φ W.heap.size W W'->TabAt 2 Lib.deBruijn64tab W'):=ai;have ac:Hid (∀W1,iy W1->_):=fun W1 h=>aci (W1:=W1) M h
 have ae:Hid (∀W1,iy W1->_):=fun W1 h=>al7 (W1:=W1) M hX h
 have HQ:Hid (MS (bY g) (jB S.es S.es.length) E0 ((B0.map fq).map fun ts=>dQ (Lx.nW (aG g).length) ts ts.length) (aG g).length (jW g) S.ks.length st NM R G):=hq;have HB:Hid (S.es.length<=1000000000/\(jW g)<=100000/\(aG g).length<=100000):=by
  have h1:=M.el;have h2:=M.fit.Ef;have h3:=M.fit.O3;exact⟨by omega,by unfold jW;omega,by omega⟩
 clear oC ai hq M hX;generalize hL:B0.map fq=L at *;clear hL;generalize (aG g).length=nT at *;generalize (gH g).length=nN at *;generalize jW g=sz at *;generalize bY g=P at *;obtain⟨ks,es⟩:=S;simp only at *;generalize ks.length=N at *;generalize hne:es.length=ne at *;have PV:Hid (es.length=ne):=hne;clear hne;go_enter func12,ntmps12;go_upto_region 4 with (go_at_call 14;refine MV.mono ?_;rintro e w1⟨la,lc,ea,ec,rfl,C,hE⟩)
 have yD:=ac.out w1 (HM.out w1 C);clear MV ac;go_upto_region 5 with (go_at_call 13;refine yD.mono ?_;rintro e w2⟨F,Y,X,H,D,T,K,Z,I,J,nk,kc,rfl,O,hP⟩)
 obtain⟨q,Df⟩:=aF w2.heap.size;obtain⟨w3,z⟩:=aC (w2.alloc (ζ #[ς F nT D,ς Y nN T,ς (ο ⟨K,0,ν⟩) P.length Z,ς X I J,ς H nk kc] 49));have k3:aj w3 q #[ς F nT D,ς Y nN T,ς (ο ⟨K,0,ν⟩) P.length Z,ς X I J,ς H nk kc] 49:=by rw[z,<-Df];exact aj.new ..
 have Cy:φ w2.heap.size w2 w3:=by rw[z];exact(cV _ _).alloc (zL0) _
 have vU:=O.trans (Cy.mono O.size);have Ar:=C.trans (vU.mono C.size);have IL:=hE.keep vU;have ag:=(hP.move fun b Q=>Cy.block b Q).imp fun k hk=>dg hk Cy.size
 rw[<-z];have aa:=ae.out w3 (HM.out w3 Ar);rw[Df];clear z Df yD O Cy vU C hE HM ae hP;go_upto_region 6 with (go_at_call 26;refine aa.mono ?_;rintro e c⟨gE,fa,fc,rfl,p,kE,ar,hI,Wz,af⟩)
 have Cx:=Ar.trans (p.mono Ar.size);have k5:=k3.on p;have jS:=IL.keep p;have mJ:=(ag.move fun b Q=>p.block b Q).imp fun k hk=>dg hk p.size
 have j:Hid (L.length=sz):=Wz;clear aa p k3 IL ag Ar Wz;have c0:=k5.a0;have c1:=k5.a1;have c2:=k5.a2;have c3:=k5.a3;have c4:=k5.a4;have ah:Hid (∀V,φ c.heap.size c V->χ prog 27 #[γ #[ς F nT D,ς Y nN T,ς (ο ⟨K,0,ν⟩) P.length Z,ς X I J,ς H nk kc],ς ea ne ec] V fun e w'=>∃r,e=δ (γ #[ς F nT D,ς Y nN T,ς (ο ⟨K,0,ν⟩) P.length Z,ς X I J,ς H nk kc,.map (ο r)])/\V.heap.size<=r/\bZ bq (fun _=>True) w' r (fun a=>(jB es ne a:Int))/\φ c.heap.size c w'/\φ V.heap.size V w'/\w'.cell? ⟨q,0,ν⟩=ο (ς F nT D)):=fun V B=>(afm (jS.keep B) (by rw[PV.out];exact HB.out.1)).mono (by
  rintro e w'⟨r,rfl,h1,h2,h3⟩;rw[PV.out]at h2;exact⟨r,rfl,h1,h2,B.trans (h3.mono B.size),h3,aU (B.trans (h3.mono B.size)) c0⟩)
 have ab:Hid (∀V,φ c.heap.size c V->χ prog 28 #[ς fa sz fc,ι ξ (nT:Int)] V fun e w'=>∃(gF:Nat)(gs:List Nat),e=δ (ς (ο ⟨gF,0,ν⟩) sz sz)/\φ c.heap.size c w'/\φ V.heap.size V w'/\V.heap.size<=gF/\aj w' gF (gs.map (iw (Lx.nW nT))).toArray 174/\gs.length=sz/\(∀(i g:Nat),gs[i]?=ο g->∃ws:List Nat,(L.map fun ts=>dQ (Lx.nW nT) ts ts.length)[i]?=ο ws/\TS w' g ws/\ws.length=Lx.nW nT)):=fun V B=>(ahC (nT:=nT) (hI.keep B) (by rw[j.out];exact HB.out.2.1) HB.out.2.2 af).mono (by
  rintro e w'⟨gO,gs,rfl,h1,h2,h3⟩;refine⟨gO,gs,by rw[j.out],B.trans (h3.b.mono B.size),h3.b,h2,?_,h1.trans j.out,fun i g hg=>?_⟩
  ·have:=h3.out
   rw[h1,io,tU,fW]at this;exact this
  ·obtain⟨l,hl⟩:∃l,L[i]?=ο l:=⟨_,cG (by rw[<-h1];exact(cH.1 hg).1)⟩
   have e1:(L.map fun ts=>dQ (Lx.nW nT) ts ts.length)[i]?=ο (dQ (Lx.nW nT) l l.length):=by rw[dj,hl];rfl
   obtain⟨s1,s2⟩:=TN (Lx.nW nT) l l.length;refine⟨_,e1,⟨?_,s2⟩,s1⟩;have:=h3.row i g (wL (dQ (Lx.nW nT) l l.length)) hg (by rw[dj];exact fd (Option.map wL) e1);exact this)
 clear jS hI af j k5;have hS:∀V,φ c.heap.size c V->V.cell? ⟨q,0,ν⟩=ο (ς F nT D)/\V.cell? ⟨q,1,ν⟩=ο (ς Y nN T)/\V.cell? ⟨q,2,ν⟩=ο (ς (ο ⟨K,0,ν⟩) P.length Z)/\V.cell? ⟨q,3,ν⟩=ο (ς X I J)/\V.cell? ⟨q,4,ν⟩=ο (ς H nk kc):=fun V hb=>⟨aU hb c0,aU hb c1,aU hb c2,aU hb c3,aU hb c4⟩
 have HS:Hid (∀V,φ c.heap.size c V->_):=hS;clear hS;have aq:=@sq prog
 go_region_held3 (fun V=>V.cell? ⟨q,0,ν⟩=ο (ς F nT D)/\V.cell? ⟨q,1,ν⟩=ο (ς Y nN T)/\V.cell? ⟨q,2,ν⟩=ο (ς (ο ⟨K,0,ν⟩) P.length Z)/\V.cell? ⟨q,3,ν⟩=ο (ς X I J)/\V.cell? ⟨q,4,ν⟩=ο (ς H nk kc)) ((refine HS.out _ ?_;repeat (first | with_reducible exact f | with_reducible exact u | with_reducible exact cV _ _ | with_reducible refine zB ?_ _ | with_reducible refine PI ?_ | with_reducible refine RJ _ _ _ _ _ _ _ _ _ _ _ _ _ ?_ (by have:=u.size;first | omega | (have:=f.size;omega))))) (first
  | (go_at_call 27;refine(ah.out _ (by repeat (first | with_reducible exact cV _ _ | with_reducible refine zB ?_ _ | with_reducible refine PI ?_))).mono ?_;rintro e w6⟨r,rfl,U,hG,u,t,av⟩;clear ah av;have s6:c.heap.size<=w6.heap.size:=u.size;have Fe:r<w6.heap.size:=hG.lt;(first | (have ak:c.heap.size+2<=r:=by simpa using U) | (have ak:c.heap.size+1<=r:=by simpa using U) | (have ak:c.heap.size<=r:=U));(first | have x:=aoJ t | have x:=apA t | have x:=aoI t | have x:=apB t | skip))
  | (go_at_call 28;refine(ab.out _ (by repeat (first|with_reducible exact u|with_reducible refine zB ?_ _|with_reducible refine PI ?_))).mono ?_;rintro e w7⟨gF,gs,rfl,f,A,ax,kF,ad,hr⟩;clear ab;have y:φ w6.heap.size w6 w7:=amO (by repeat (first|with_reducible exact cV _ _|with_reducible refine zB ?_ _|with_reducible refine PI ?_)) A;(first|have E:=XV A|have E:=kp1 A|skip);(first|have m:=IX E.1|have m:=IX E.2|have m:=IX E|have m:=IX (tu y x.1)|have m:=IX (tu y x.2)|have m:=IX (tu y x)|skip);(first|have d:=IW E.1|have d:=IW E.2|have d:=IW E|have d:=IW (tu y x.1)|have d:=IW (tu y x.2)|have d:=IW (tu y x)|skip);(try (have kz:=adO d;obtain⟨yf,y0,y1,y2,y3,y4,y5,y6,y7,y8,y9,al,ao,an⟩:=kz;have kz:=adO (Rm (.map #[] 0) d);obtain⟨xf,x0,x1,x2,x3,x4,x5,x6,x7,x8,x9,ap,z8,wV⟩:=kz));have jf:r<w7.heap.size:=dg Fe y.size;have o:Hid (Lg (PK (Ri W P (jB es ne) E0 (L.map fun ts=>dQ (Lx.nW nT) ts ts.length) nT N st R G) N) c w7 r (ς F nT D) (ς Y nN T) (ς (ο ⟨K,0,ν⟩) P.length Z) (ς X I J) (ς H nk kc) (ς (ο ⟨gE,0,ν⟩) sz sz) (ς (ο ⟨gF,0,ν⟩) sz sz)):=fun W8 lb pm eY hx aw km kl am hl hp=>akJ Cx H2.out HQ.out mJ kE ar hG y kF ad hr eY hx aw km kl am hl hp;clear hG kF ad hr))
 have n:=ank o.out f jf
 rotate_left
 have n:=anl o.out f jf
 rotate_left
 have n:=adP o.out f m (by omega) (by omega)
 rotate_left
 have n:=Gv o.out f m d (by omega) (by omega) (by omega)
 rotate_left
 have n:=adQ o.out f jf d (by omega)
 rotate_left
 have n:=Gv o.out f m d (by omega) (by omega) (by omega)
 rotate_left
 have n:=adP o.out f m (by omega) (by omega)
 rotate_left
 have n:=Gv o.out f m d (by omega) (by omega) (by omega)
 rotate_left
 have n:=Gv o.out f m d (by omega) (by omega) (by omega)
 rotate_left
 have n:=adQ o.out f jf d (by omega)
 rotate_left
 have n:=Gv o.out f m d (by omega) (by omega) (by omega)
 rotate_left
 have n:=Gv o.out f m d (by omega) (by omega) (by omega)
 rotate_left
 all_goals
  unfold PK at n
  try clear yf y0 y1 y2 y3 y4 y5 y6 y7 y8 y9 al ao an xf x0 x1 x2 x3 x4 x5 x6 x7 x8 x9 ap z8 wV
  clear o aq HS c0 c1 c2 c3 c4 mJ kE u f t A y Cx
  try clear x
  try clear E
  try clear m
  try clear d
  go_wp2_with (first | (go_at_call 29;refine n.mono ?_;rintro e w9⟨rfl,Dt⟩;clear n) | (go_at_call 30;refine Dt.mono ?_;rintro e wE⟨ra,rc,rfl,hZ⟩;clear Dt))
  refine iS (Np rfl _ _ _) rfl ?_;exact⟨_,rfl,hZ⟩
theorem ajf{g:Lx.Gr}{S:bI}{r:List Bool}{st:Nat}(h:sP s g S)(B:Ky g r q)(i:(bY g)[0]?.map Lx.Pd.left=ο st)(d:yO (bY g) (jB S.es S.es.length) (aG g).length (jW g) S.ks.length st r ((q.map fq).map fun ts=>dQ (Lx.nW (aG g).length) ts ts.length) tb (Lx.grow (bY g) (jB S.es S.es.length) (aG g).length r ((q.map fq).map fun ts=>dQ (Lx.nW (aG g).length) ts ts.length) l [((0,st),[0])]) nb A)(J:S.ks.length*jW g<=900000)(L:∀W',φ W.heap.size W W'->iy W')(t:∀W',φ W.heap.size W W'->TabAt 2 Lib.deBruijn64tab W'):χ prog 12 #[τ s] W fun e w'=>∃v,e=δ (θ #[v,ι ξ 0,ι ξ 0])/\qA w' v A/\φ W.heap.size W w':=by
 have f:=h.fit.pk;have t1:=h.fit.Ef;have E:0<(aG g).length:=List.length_pos_of_mem ((RD _ _).1 l7 (dd.2 rfl));have F:∀a,jB S.es S.es.length a<S.ks.length:=fun a=>Uk h.k0 (fun e M=>(h.es e M).2.2.2) a _
 refine(ahT (st:=st) (NM:=S.ks.length*jW g) (R:=IQ tb) (G:=MU tb) h B ⟨h.k0,h.kl,F,fun p hp=>⟨(f p hp).1.2,fun s m=>((f p hp).2.2 s m).1⟩,h.p0,h.pl,fun p hp=>(f p hp).2.1,E,by omega,fun s m=>(d.bd s m).1,J,i,?_⟩ L t).mono ?_
 ·rintro c n o j-k b
  rw[<-n,<-o,<-j,<-k]at d;rw[j,k,<-b]at d;rw[<-k,<-j]at d;exact d.Gq
 ·rintro e w⟨v,rfl,c,O,K,N,n,o,j,k,b,H,C,y,I,D,m,x,z⟩
  refine⟨v,rfl,?_,z⟩;have u:c.st0 st:=by
   unfold aW.st0;rw[n];exact i
  rw[<-b,<-k,<-j,<-n,<-o]at d;rw[<-d.ans H C I y u D m];exact x
structure MW(T N:List ByteArray)(P:List Lx.Pd)(nS:Nat)(E:List (Nat×Nat×Nat))(A:Tb.CH)(C:List (List (Nat×Nat)))(G:List (List Nat))(m:Pk.Mk)(B:ByteArray):Prop where
 a1:A.length=nS/\nS<=100000/\T.length<=100000/\N.length<=100000/\E.length<=1000000000
 a2:∀l∈A,l.length<=1000000/\∀x∈l,x.2.length<=1000000/\∀t∈x.2,t<T.length
 e1:∀e∈E,e.1<nS/\e.2.1<T.length+N.length
 c0:(Tb.choices A E T.length).map (List.map Tb.iZ)=C
 c1:∀r∈Tb.choices A E T.length,r.length=T.length/\∀x∈r,Tb.lone x=η
 c3:(Tb.choices A E T.length).length<=100000
 g0:Tb.gotos nS T.length N.length E E.length=G
 n1:C.length=G.length/\C.length<=1000000/\0<P.length/\P.length<=100000
 n2:∀r∈C,r.length<=100000/\∀x∈r,x.1=2->x.2<P.length
 n3:∀r∈G,r.length<=100000
 n4:∀k,k<=C.length->(Pk.mk P.length C G k).ak.length<=2000000
 m0:Pk.mk P.length C G C.length=m
 w0:0<m.aH.length/\0<T.length/\0<N.length/\0<(Pk.gV P).length
 w1:m.aD.length=m.aH.length
 w2:∀x∈Pk.gV P,T.length<=x.1/\x.1<=1000000000
 w3:∀x∈m.ak,x.1<=15/\x.2.1<4096
 w4:(Pk.sj T N (Pk.gV P) m).length<=100000000
 w5:m.ak.length<=10000000
 w6:m.aH.length<=1000000/\T.length<=1000000/\N.length<=1000000/\(Pk.gV P).length<=1000000
 wb:Pk.written T N (Pk.gV P) m=B
def LkV(w:ω)(A:Tb.CH)(e:Ending)(w':ω):Prop:=∃v,e=δ (θ #[v,ι ξ 0,ι ξ 0])/\qA w' v A/\φ w.heap.size w w'
def MX(w:ω)(C:List (List (Nat×Nat)))(G:List (List Nat))(e:Ending)(w':ω):Prop:=∃vc vg,e=δ (θ #[vc,vg,ς ν 0 0,ι ξ 0,ι ξ 0,ι ξ 0])/\Fq w' vc C/\yM w' vg G/\φ w.heap.size w w'
theorem akK{P:List Lx.Pd}{m:Pk.Mk}{B:ByteArray}{g:Lx.Gr}{S:bI}{T N:List ByteArray}{G:List (List Nat)}(h:sP s g S)(hT:aG g=T)(hN:gH g=N)(az:S.ks.length=nS)(ae:S.es=E)(t:MW T N P nS E A C G m B)(oC:∀W',φ W.heap.size W W'->iy W')(ar:χ prog 12 #[τ s] W (LkV W A)):χ prog 8 #[τ s] W (MX W C G):=by
 have HM:Hid (∀i,φ W.heap.size W i->χ prog 13 #[τ s] i fun e Q=>∃(f j K u o:Option Addr)(c k J x p q nk y:Nat),e=δ (θ #[γ #[ς f T.length c,ς j N.length k,ς K J x,ς u p q,ς o nk y],ι ξ 0,ι ξ 0])/\φ W.heap.size W Q/\φ i.heap.size i Q):=fun i l=>(aci h (oC i l)).mono (by
  rintro e Q⟨f,j,u,o,c,k,gP,x,p,q,nk,y,rfl,a,-⟩;rw[hT,hN];exact⟨f,j,_,u,o,c,k,_,x,p,q,nk,y,rfl,l.trans (a.mono l.size),a⟩)
 have HS:Hid (∀i,φ W.heap.size W i->χ prog 14 #[τ s] i fun e Q=>∃vl n,e=δ (θ #[vl,n,ι ξ 0,ι ξ 0])/\φ i.heap.size i Q/\lM Q n E):=fun i l=>(acj h (oC i l)).mono (by
  rintro e Q⟨la,lc,ea,ec,rfl,a,F⟩;rw[ae]at F|-;exact⟨_,_,rfl,a,F⟩)
 obtain⟨a1,ad,Yk,ag,Yl⟩:=t.a1;have ap:Hid (∀(I:ω)(va n:υ),qA I va A->lM I n E->χ prog 16 #[va,n,ι ξ (T.length:Int)] I (XP I (Tb.choices A E T.length))):=fun I va n V F=>afB V F (by omega) Yk t.a2 Yl fun e he=>by rw[a1];exact(t.e1 e he).1
 have H6:Hid (∀(d:υ)U MZ,qA U MZ (Tb.choices A E T.length)->χ prog 15 #[d,MZ] U (XO U C)):=fun d U MZ hc=>by
  rw[<-t.c0];exact ai2 hc (fun r hr=>(t.c1 r hr).1) (fun r hr=>(t.c1 r hr).2) t.c3 Yk
 have Y:Hid (∀(b:ω)(n vP vB vK:υ)(f j:Option Addr)(c k:Nat),lM b n E->χ prog 17 #[ι ξ (A.length:Int),n,γ #[ς f T.length c,ς j N.length k,vP,vB,vK]] b (XM b G)):=fun b n vP vB vK f j c k he=>by
  rw[<-t.g0,a1];exact agH he ad ag Yl t.e1
 clear hT hN az ae oC t h a1 ad Yk ag Yl;generalize T.length=nT at *;generalize N.length=nN at *;clear T N P m B;go_enter func8,ntmps8;go_upto_region 4 with (go_at_call 12;refine ar.mono ?_;rintro e w1⟨va,rfl,V,aq⟩;obtain⟨aa,ac,av,am⟩:=V;subst av;have V:qA w1 (ς aa A.length ac) A:=⟨aa,ac,rfl,am⟩;clear am)
 have yD:=HM.out w1 aq;clear ar HM;go_upto_region 5 with (go_at_call 13;refine yD.mono ?_;rintro e w2⟨f,j,K,u,o,c,k,J,x,p,q,nk,y,rfl,a,rV⟩)
 obtain⟨ax,VK⟩:=aF w2.heap.size;obtain⟨w3,D⟩:=aC (w2.alloc (ζ #[ς f nT c,ς j nN k,ς K J x,ς u p q,ς o nk y] 49));have k3:aj w3 ax #[ς f nT c,ς j nN k,ς K J x,ς u p q,ς o nk y] 49:=by rw[D,<-VK];exact aj.new ..
 have Cy:φ w2.heap.size w2 w3:=by rw[D];exact(cV _ _).alloc (zL0) _
 have Ar:=a.trans (Cy.mono a.size);have ab:=(V.keep rV).keep Cy;rw[<-D];have MV:=HS.out w3 Ar;rw[VK];clear D VK yD rV Cy a aq V HS;go_upto_region 6 with (go_at_call 14;refine MV.mono ?_;rintro e X⟨vl,n,rfl,H,F⟩;obtain⟨ea,ec,aw,Z⟩:=F;subst aw;have F:lM X (ς ea E.length ec) E:=⟨ea,ec,rfl,Z⟩;clear Z)
 have VL:=Ar.trans (H.mono Ar.size);have ai:=ab.keep H;have O:=k3.on H;clear MV H k3 Ar ab;have c0:=O.a0;have c1:=O.a1;have c2:=O.a2;have c3:=O.a3;have c4:=O.a4;obtain⟨z,al⟩:=aF X.heap.size;obtain⟨I,fQ⟩:=aC (X.alloc (ζ #[ς f nT c,ς j nN k,ς K J x,ς u p q,ς o nk y,ς ν 0 0,ι ξ 0] 57));have k5:aj I z #[ς f nT c,ς j nN k,ς K J x,ς u p q,ς o nk y,ς ν 0 0,ι ξ 0] 57:=by rw[fQ,<-al];exact aj.new ..
 have KC:φ X.heap.size X I:=by rw[fQ];exact(cV _ _).alloc (zL0) _
 have Cx:=VL.trans (KC.mono VL.size);have Ym:=O.on KC;have KX:=ai.keep KC;have jS:=F.keep KC;go_upto_region 7 with fail
 rw[<-fQ];clear fQ al c0 c1 c2 c3 c4 KC ai F O VL;have c0:=Ym.a0;have ak:=ap.out I _ _ KX jS;clear ap;go_upto_region 8 with (first
  | (go_at_call 16;refine ak.mono ?_;rintro e U⟨MZ,rfl,ah,L,-⟩;have ao:=H6.out (π (ο ⟨z,0,ν⟩)) U MZ ah;clear ak)
  | (go_at_call 15;refine ao.mono ?_;rintro e w7⟨vc,rfl,an,fG⟩))
 have KD:=L.trans (fG.mono L.size);have VN:=Cx.trans (KD.mono Cx.size);have Yn:=k5.on KD;have R:=Ym.on KD;have af:=jS.keep KD;clear ao H6 ah L fG c0 KX jS k5 Ym Cx KD;have d0:=R.a0;have d1:=R.a1;have d2:=R.a2;have d3:=R.a3;have d4:=R.a4;have e5:=Yn.a5;have e6:=Yn.a6;have Rq:=Y.out w7.drew (ς ea E.length ec) (ς K J x) (ς u p q) (ς o nk y) f j c k (af.keep ⟨rfl,rfl,rfl,zL0,fun _ _=>rfl⟩);clear Y;have HN:Hid (∀M b,yM b M G->φ w7.drew.heap.size w7.drew b->b.cell? ⟨z,5,ν⟩=ο (ς ν 0 0)/\b.cell? ⟨z,6,ν⟩=ο (ι ξ 0)/\MX W C G (δ (θ #[vc,M,ς ν 0 0,ι ξ 0,ι ξ 0,ι ξ 0])) b):=fun M b hg l=>by
  have PN:φ w7.heap.size w7 b:=⟨l.1,l.2,l.3,l.4,l.5⟩;exact⟨aU PN e5,aU PN e6,vc,M,rfl,an.keep PN,hg,VN.trans (PN.mono VN.size)⟩
 generalize A.length=nA at Rq|-;generalize E.length=nE at Rq|-;clear an VN Yn R af
 go_region_law (refine eZ rfl 17 #[ι ξ (nA:Int),ς ea nE ec,γ #[ς f nT c,ς j nN k,ς K J x,ς u p q,ς o nk y]] (by go_simp) Rq ?_;rintro e b⟨M,rfl,hg,eY⟩;refine⟨_,rfl,?_⟩;obtain⟨g5,g6,HF⟩:=HN.out M b hg eY;clear Rq hg eY)
 all_goals
  go_wp2_with fail;exact iS (v:=θ #[vc,M,ς ν 0 0,ι ξ 0,ι ξ 0,ι ξ 0]) (by simp[results,results8,go_sem]) rfl HF
theorem akL{P:List Lx.Pd}{m:Pk.Mk}{gr:Lx.Gr}{S:bI}{T N:List ByteArray}{G:List (List Nat)}(h:sP s gr S)(WG:aG gr=T)(J:gH gr=N)(L:bY gr=P)(c:MW T N P nS E A C G m B)(hS:kZ W)(Y:0<W.heap.size)(oC:∀W',φ W.heap.size W W'->iy W')(z:χ prog 8 #[τ s] W (MX W C G)):χ prog 9 #[τ s] W fun e w'=>e=δ (θ #[τ B,ι ξ 0,ι ξ 0])/\φ W.heap.size W w':=by
 have HM:Hid (∀x,φ W.heap.size W x->χ prog 13 #[τ s] x (adN gr x)):=fun x hb=>NV h.gd x (oC x hb)
 have HQ:Hid (∀w1 w2 M F v,φ W.heap.size W w1->Fq w1 M C->yM w1 F G->φ w1.heap.size w1 w2->vV w1.heap.size w2 v (aG gr) (gH gr) (bY gr) ((aG gr).map fun t=>(vC gr t).1) ((aG gr).map fun t=>(vC gr t).2)->∃(ta na g l j:Option Addr)(tc nc r i u k nk n:Nat),v=γ #[ς ta T.length tc,ς na N.length nc,ς g r i,ς l u k,ς j nk n]/\∀w3,φ w2.heap.size w2 w3->χ prog 19 #[γ #[ς ta T.length tc,ς na N.length nc,ς g r i,ς l u k,ς j nk n],M,F] w3 fun e w4=>∃I,e=δ (π (ο ⟨I,0,ν⟩))/\φ W.heap.size W w4/\χ prog 18 #[π (ο ⟨I,0,ν⟩)] w4 fun e w5=>e=δ (τ B)/\φ W.heap.size W w5):=fun w1 w2 M F v f O Q d hp=>by
  rw[WG,J,L]at hp;obtain⟨vT,vN,vP,vB,vK,rfl,p1,p2,p3,p4,p5,-⟩:=hp;obtain⟨ta,tc,rfl,-⟩:=aB p1;obtain⟨na,nc,rfl,-⟩:=aB p2;obtain⟨l,k,rfl,-⟩:=aB p4;obtain⟨j,n,rfl,-⟩:=aB p5;have sT:=zy.own p1;have sN:=zy.own p2;have V:=Bv.of p3;obtain⟨g,i,rfl,R⟩:=V;have V:Bv w2 (ς g P.length i) P:=⟨g,i,rfl,R⟩;refine⟨ta,na,g,l,j,tc,nc,_,i,_,k,_,n,rfl,fun w3 a=>?_⟩;have ab:=d.trans (a.mono d.size);have H:=f.trans (ab.mono f.size);refine(agG (ta:=ta) (na:=na) (nT:=T.length) (tc:=tc) (nN:=N.length) (nc:=nc) (V.keep a) ((O.keep d).keep a) ((Q.keep d).keep a) c.n1.1 c.n1.2.2.1 c.n1.2.2.2 c.n2 c.n3 c.n4 c.n1.2.1).mono ?_;rintro e w4⟨wx,I,vs,rfl,Z,X,o⟩;have U:=Z.trans (o.b.mono X);have K:=H.trans (U.mono H.size);rw[c.m0]at o;refine⟨I,rfl,K,(agL (T:=T) (N:=N) (P:=Pk.gV P) (m:=m) (hS.move (K.block 0 Y)) (dg Y K.size) o.blk ((sT.keep a).keep U) ((sN.keep a).keep U) (jX.own (o.row 0 (.inl rfl))) (lM.own (o.row 1 (.inr (.inl rfl)))) (wQ.own (o.row 4 (.inr (.inr (.inl rfl))))) (jX.own (o.row 5 (.inr (.inr (.inr rfl))))) c.w0 c.w1 c.w2 c.w3 c.w4 c.w5 c.w6).mono ?_⟩;rintro e w5⟨rfl,p⟩;exact⟨by rw[c.wb],K.trans (p.mono K.size)⟩
 clear WG J L c hS Y oC h;generalize T.length=nT at *;generalize N.length=nN at *;clear T N P m;go_enter func9,ntmps9;go_upto_region 6 with (go_at_call 8;refine z.mono ?_;rintro e w1⟨M,F,rfl,O,Q,f⟩)
 have yD:=HM.out w1 f;clear z HM;go_upto_region 7 with (go_at_call 13;refine yD.mono ?_;rintro e w2⟨v,rfl,d,y⟩;obtain⟨ta,na,g,l,j,tc,nc,r,i,u,k,nk,n,rfl,Ik⟩:=HQ.out w1 w2 M F v f O Q d y)
 have a:φ w2.heap.size w2 (w2.alloc (ζ #[ς ta nT tc,ς na nN nc,ς g r i,ς l u k,ς j nk n] 49)):=(cV _ _).alloc (zL0) _;have q:=Ik _ a;have D:aj (w2.alloc (ζ #[ς ta nT tc,ς na nN nc,ς g r i,ς l u k,ς j nk n] 49)) w2.heap.size #[ς ta nT tc,ς na nN nc,ς g r i,ς l u k,ς j nk n] 49:=aj.new ..;clear Ik y O Q f d a HQ yD;have k0:=D.cell 0;have k1:=D.cell 1;have k2:=D.cell 2;have k4:=D.cell 3;have k5:=D.cell 4;simp only[List.getElem?_toArray,List.getElem?_cons_zero,List.getElem?_cons_succ]at k0 k1 k2 k4 k5
 go_wp2_with (first
  | (go_at_call 19;refine q.mono ?_;rintro e w4⟨I,rfl,ac,aa⟩;clear q)
  | (go_at_call 18;refine aa.mono ?_;rintro e w5⟨rfl,p⟩))
 exact iS (v:=θ #[τ B,ι ξ 0,ι ξ 0]) (by simp[results,results9,go_sem]) rfl ⟨rfl,p⟩
theorem agQ{G:List (List Nat)}(f:χ prog 8 #[τ s] W (MX W C G))(a:∀w1,φ W.heap.size W w1->χ prog 9 #[τ s] w1 fun e w'=>e=δ (θ #[τ B,ι ξ 0,ι ξ 0])/\φ w1.heap.size w1 w'):χ prog 5 #[τ s] W fun e w'=>e=δ (θ #[τ B,ς ν 0 0,ι ξ 0,ι ξ 0])/\φ W.heap.size W w':=by
 have g:Hid (∀w1,φ W.heap.size W w1->χ prog 9 #[τ s] w1 fun e w'=>e=δ (θ #[τ B,ι ξ 0,ι ξ 0])/\φ W.heap.size W w'):=fun w1 d=>(a w1 d).mono (by
  rintro e w'⟨rfl,h⟩;exact⟨rfl,d.trans (h.mono d.size)⟩)
 clear a;go_enter func5,ntmps5;go_upto_region 6 with (go_at_call 8;refine f.mono ?_;rintro e w1⟨i,j,rfl,-,-,c⟩)
 have a:=g.out w1 c;clear f g
 go_wp2_with (go_at_call 9;refine a.mono ?_;rintro e w2⟨rfl,b⟩)
 exact iS (v:=θ #[τ B,ς ν 0 0,ι ξ 0,ι ξ 0]) (by simp[results,results5,go_sem]) rfl ⟨rfl,b⟩
def qO(x:Nat×List Nat×Int):Lx.Pd:=⟨x.1,x.2.1,x.2.2⟩
structure Rs(t:ByteArray)(g:Lx.Gr)(S:bI)(T N:List ByteArray)(P:List (Nat×List Nat×Int))(nS:Nat)(E:List (Nat×Nat×Nat))(E0:List Bool)(B0:List (List Bool))(st:Nat)(tb:List ((Nat×Nat)×List Nat))(l:List Nat)(nb:List ((Nat×Nat)×Nat))(A:Tb.CH)(C:List (List (Nat×Nat)))(G:List (List Nat))(m:Pk.Mk)(B:ByteArray):Prop where
 gs:sP t g S
 tT:aG g=T
 tN:gH g=N
 tP:bY g=P.map qO
 tk:S.ks.length=nS
 tE:S.es=E
 sz:nS*(T.length+N.length)<=900000
 x1:∃k,iT (mq (P.map qO)) k (ψ (T.length+N.length) ε)=E0
 x2:mq (P.map qO) E0=E0
 x3:∃m,iT (iq (P.map qO) E0) m (Lx.alone T.length (T.length+N.length))=B0
 x4:iq (P.map qO) E0 B0=B0
 s0:(P.map qO)[0]?.map Lx.Pd.left=ο st
 u:yO (P.map qO) (jB E E.length) T.length (T.length+N.length) nS st E0 ((B0.map fq).map fun ts=>dQ (Lx.nW T.length) ts ts.length) tb (Lx.grow (P.map qO) (jB E E.length) T.length E0 ((B0.map fq).map fun ts=>dQ (Lx.nW T.length) ts ts.length) l [((0,st),[0])]) nb A
 x:MW T N (P.map qO) nS E A C G m B
theorem Rs.gen{t:ByteArray}{g:Lx.Gr}{S:bI}{T N:List ByteArray}{P:List (Nat×List Nat×Int)}{z:Nat}{s:List Bool}{st:Nat}{G:List (List Nat)}(h:Rs t g S T N P z E s q st tb l nb A C G m B)(F:kZ W)(v:0<W.heap.size)(n:∀W',φ W.heap.size W W'->iy W')(i:∀W',φ W.heap.size W W'->TabAt 2 Lib.deBruijn64tab W'):χ prog 5 #[τ t] W fun e w'=>e=δ (θ #[τ B,ς ν 0 0,ι ξ 0,ι ξ 0])/\φ W.heap.size W w':=by
 have c:=h.tT;have o:=h.tN;have d:=h.tP;have k:=h.tk;have r:=h.tE;have p:jW g=T.length+N.length:=by unfold jW;rw[c,o]
 have j:=h.gs;have D:Ky g s q:=by
  unfold Ky;rw[d,p,c];exact⟨h.x1,h.x2,h.x3,h.x4⟩
 have f:∀w1,φ W.heap.size W w1->χ prog 12 #[τ t] w1 (LkV w1 A):=fun w1 b=>ajf (st:=st) (tb:=tb) (l:=l) (nb:=nb) j D (by rw[d];exact h.s0) (by rw[d,r,c,p,k];exact h.u) (by rw[k,p];exact h.sz) (fun W' a=>n W' (b.trans (a.mono b.size))) (fun W' a=>i W' (b.trans (a.mono b.size)))
 have y:∀w1,φ W.heap.size W w1->χ prog 8 #[τ t] w1 (MX w1 C G):=fun w1 b=>akK j c o k r h.x (fun W' a=>n W' (b.trans (a.mono b.size))) (f w1 b)
 exact agQ (y W (cV _ _)) fun w1 b=>akL j c o d h.x (F.move (b.block 0 v)) (dg v b.size) (fun W' a=>n W' (b.trans (a.mono b.size))) (y w1 b)
namespace Lx
instance (b:ByteArray) (l:List ByteArray):Decidable (b∈l):=decidable_of_iff (0<=fM l b) pX
instance (x:It):Decidable (UL x):=by unfold UL;infer_instance
instance (a:Alt):Decidable (UM a):=by unfold UM;infer_instance
instance (r:Rl):Decidable (UN r):=by unfold UN;infer_instance
end Lx
namespace Cl
def gr(t:ByteArray):Lx.Gr:=match Lx.parse t with
 |.ok g=>g
 |.error _=>⟨[],[]⟩
def Rt(t:ByteArray):bI:=(BK (bY (gr t)) (jW (gr t))).getD ⟨[],[]⟩
def t1:ByteArray:=⟨#[115,32,61,32,65,32,115,32,124,32,59]⟩
def T1:List ByteArray:=[⟨#[36]⟩,⟨#[65]⟩]
def N1:List ByteArray:=[⟨#[36,115,116,97,114,116]⟩,⟨#[115]⟩]
def P1:List (Nat×List Nat×Int):=[(2,[3],-1),(3,[1,3],1),(3,[],-1)]
def E1:List (Nat×Nat×Nat):=[(0,1,1),(0,3,2),(1,1,1),(1,3,3)]
def VO:List Bool:=[ε,ε,η,η]
def VP:List (List Bool):=[[η,ε],[ε,η],[ε,η],[ε,η]]
def tb1:List ((Nat×Nat)×List Nat):=[((0,2),[0]),((0,3),[0]),((1,3),[0])]
def nb1:List ((Nat×Nat)×Nat):=[((2,0),1),((3,1),1),((0,2),1),((1,2),1)]
def A1:Tb.CH:=[[(2,[0])],[(2,[0])],[(0,[0])],[(1,[0])]]
def C1:List (List (Nat×Nat)):=[[(2,2),(1,1)],[(2,2),(1,1)],[(3,0),(0,0)],[(2,1),(0,0)]]
def G1:List (List Nat):=[[0,2],[0,3],[0,0],[0,0]]
def m1:Pk.Mk:=⟨[0,1,0,0],[(3,0,2),(1,1,0),(1,1,1),(1,2,0),(1,3,1)],[2,2,0,1]⟩
def B1:ByteArray:=⟨#[0,3,0,1,0,1,0,2,1,36,1,65,6,36,115,116,97,114,116,1,115,0,0,0,1,0,1,0,2,0,1,0,0,2,0,0,0,2,0,0,1,0,0,0,0,1,0,0,0,0,0,5,0,0,0,2,48,0,0,0,0,0,16,1,0,0,0,1,16,1,0,0,0,0,16,2,0,0,0,1,16,3,187,56,146,246]⟩
theorem u1:yO (P1.map qO) (jB E1 E1.length) T1.length (T1.length+N1.length) 4 2 VO ((VP.map fq).map fun ts=>dQ (Lx.nW T1.length) ts ts.length) tb1 (Lx.grow (P1.map qO) (jB E1 E1.length) T1.length VO ((VP.map fq).map fun ts=>dQ (Lx.nW T1.length) ts ts.length) [0,1] [((0,2),[0])]) nb1 A1:=by
 constructor <;> decide +kernel
theorem x1:MW T1 N1 (P1.map qO) 4 E1 A1 C1 G1 m1 B1:=by
 constructor <;> first | decide +kernel | kernel_rfl
theorem f1:Lx.Fit (gr t1):=by constructor <;> decide +kernel
theorem d1:Lx.Gd t1 (gr t1) where
 hp:=by kernel_rfl
 fit:=f1
 wf:=by decide +kernel
 fl:=by decide +kernel
 tw:=by decide +kernel
 un:=by decide +kernel
 cm:=by decide +kernel
 en:=by decide +kernel
 sm:=by decide +kernel
 dl:=by decide +kernel
 tk:=by decide +kernel
theorem s1:sP t1 (gr t1) (Rt t1) where
 gd:=d1
 st:=by kernel_rfl
 p0:=by decide +kernel
 k0:=by decide +kernel
 kl:=by decide +kernel
 es:=by decide +kernel
 el:=by decide +kernel
theorem g1:Rs t1 (gr t1) (Rt t1) T1 N1 P1 4 E1 VO VP 2 tb1 [0,1] nb1 A1 C1 G1 m1 B1 where
 gs:=s1
 tT:=by decide +kernel
 tN:=by decide +kernel
 tP:=by kernel_rfl
 tk:=by decide +kernel
 tE:=by decide +kernel
 sz:=by decide
 x1:=⟨3,by decide +kernel⟩
 x2:=by decide +kernel
 x3:=⟨3,by decide +kernel⟩
 x4:=by decide +kernel
 s0:=by decide +kernel
 u:=u1
 x:=x1
def t2:ByteArray:=⟨#[115,32,61,32,65,32,40,66,32,65,41,42,32,67,63,32,40,68,32,124,32,69,41,43,59]⟩
def T2:List ByteArray:=[⟨#[36]⟩,⟨#[65]⟩,⟨#[66]⟩,⟨#[67]⟩,⟨#[68]⟩,⟨#[69]⟩]
def N2:List ByteArray:=[⟨#[36,115,116,97,114,116]⟩,⟨#[115]⟩,⟨#[115,39,49]⟩,⟨#[115,39,50]⟩,⟨#[115,39,51]⟩]
def P2:List (Nat×List Nat×Int):=[(6,[7],-1),(7,[1,8,9,10],1),(8,[],-1),(8,[8,2,1],1),(9,[],-1),(9,[3],3),(10,[4],4),(10,[5],5),(10,[10,4],4),(10,[10,5],5)]
def E2:List (Nat×Nat×Nat):=[(0,1,1),(0,7,2),(1,8,3),(3,2,4),(3,3,5),(3,9,6),(4,1,7),(6,4,8),(6,5,9),(6,10,10),(10,4,11),(10,5,12)]
def VQ:List Bool:=[ε,ε,ε,ε,ε,ε,ε,ε,η,η,ε]
def VR:List (List Bool):=[[η,ε,ε,ε,ε,ε],[ε,η,ε,ε,ε,ε],[ε,ε,η,ε,ε,ε],[ε,ε,ε,η,ε,ε],[ε,ε,ε,ε,η,ε],[ε,ε,ε,ε,ε,η],[ε,η,ε,ε,ε,ε],[ε,η,ε,ε,ε,ε],[ε,ε,η,ε,ε,ε],[ε,ε,ε,η,ε,ε],[ε,ε,ε,ε,η,η]]
def tb2:List ((Nat×Nat)×List Nat):=[((0,6),[0]),((0,7),[0]),((1,8),[2,3,4,5]),((3,9),[4,5]),((6,10),[0,4,5])]
def nb2:List ((Nat×Nat)×Nat):=[((2,0),1),((10,1),1),((1,2),60),((7,3),60),((3,4),48),((5,5),48),((8,6),49),((9,7),49),((11,8),49),((12,9),49)]
def A2:Tb.CH:=[[],[(2,[2,3,4,5])],[(0,[0])],[(4,[4,5])],[],[(5,[4,5])],[],[(3,[2,3,4,5])],[(6,[0,4,5])],[(7,[0,4,5])],[(1,[0])],[(8,[0,4,5])],[(9,[0,4,5])]]
def C2:List (List (Nat×Nat)):=[[(0,0),(1,1),(0,0),(0,0),(0,0),(0,0)],[(0,0),(0,0),(2,2),(2,2),(2,2),(2,2)],[(3,0),(0,0),(0,0),(0,0),(0,0),(0,0)],[(0,0),(0,0),(1,4),(1,5),(2,4),(2,4)],[(0,0),(1,7),(0,0),(0,0),(0,0),(0,0)],[(0,0),(0,0),(0,0),(0,0),(2,5),(2,5)],[(0,0),(0,0),(0,0),(0,0),(1,8),(1,9)],[(0,0),(0,0),(2,3),(2,3),(2,3),(2,3)],[(2,6),(0,0),(0,0),(0,0),(2,6),(2,6)],[(2,7),(0,0),(0,0),(0,0),(2,7),(2,7)],[(2,1),(0,0),(0,0),(0,0),(1,11),(1,12)],[(2,8),(0,0),(0,0),(0,0),(2,8),(2,8)],[(2,9),(0,0),(0,0),(0,0),(2,9),(2,9)]]
def G2:List (List Nat):=[[0,2,0,0,0],[0,0,3,0,0],[0,0,0,0,0],[0,0,0,6,0],[0,0,0,0,0],[0,0,0,0,0],[0,0,0,0,10],[0,0,0,0,0],[0,0,0,0,0],[0,0,0,0,0],[0,0,0,0,0],[0,0,0,0,0],[0,0,0,0,0]]
def m2:Pk.Mk:=⟨[0,0,0,0,3,0,1,0,0,0,8,0,0],[(3,0,2),(1,1,0),(1,4,3),(1,5,3),(1,7,4),(1,8,6),(1,9,6),(1,2,0),(1,3,1),(1,6,3),(0,0,0),(1,10,6),(1,11,10),(1,12,10)],[0,2,0,4,0,5,0,3,6,7,1,8,9]⟩
def B2:ByteArray:=⟨#[0,12,0,5,0,4,0,9,1,36,1,65,1,66,1,67,1,68,1,69,6,36,115,116,97,114,116,1,115,3,115,39,49,3,115,39,50,3,115,39,51,0,0,0,1,0,1,0,4,0,2,0,0,0,2,0,3,0,3,0,0,0,3,0,1,0,4,0,1,0,4,0,1,0,4,0,2,0,4,0,2,0,0,0,0,2,0,0,0,0,0,0,0,4,0,0,0,0,0,0,3,5,0,0,0,0,0,0,1,3,0,0,0,6,0,0,0,7,0,0,0,1,0,0,8,8,0,0,0,9,0,0,0,0,0,13,0,0,0,2,48,0,0,0,0,0,16,1,0,0,0,3,16,4,0,0,0,3,16,5,0,0,0,4,16,7,0,0,0,6,16,8,0,0,0,6,16,9,0,0,0,0,16,2,0,0,0,1,16,3,0,0,0,3,16,6,0,1,0,6,16,10,0,0,0,10,16,11,0,0,0,10,16,12,139,39,225,217]⟩
theorem u2:yO (P2.map qO) (jB E2 E2.length) T2.length (T2.length+N2.length) 13 6 VQ ((VR.map fq).map fun ts=>dQ (Lx.nW T2.length) ts ts.length) tb2 (Lx.grow (P2.map qO) (jB E2 E2.length) T2.length VQ ((VR.map fq).map fun ts=>dQ (Lx.nW T2.length) ts ts.length) [0,1,2,4] [((0,6),[0])]) nb2 A2:=by
 constructor <;> decide +kernel
theorem x2:MW T2 N2 (P2.map qO) 13 E2 A2 C2 G2 m2 B2:=by
 constructor <;> first | decide +kernel | kernel_rfl
theorem f2:Lx.Fit (gr t2):=by constructor <;> decide +kernel
theorem d2:Lx.Gd t2 (gr t2) where
 hp:=by kernel_rfl
 fit:=f2
 wf:=by decide +kernel
 fl:=by decide +kernel
 tw:=by decide +kernel
 un:=by decide +kernel
 cm:=by decide +kernel
 en:=by decide +kernel
 sm:=by decide +kernel
 dl:=by decide +kernel
 tk:=by decide +kernel
theorem s2:sP t2 (gr t2) (Rt t2) where
 gd:=d2
 st:=by kernel_rfl
 p0:=by decide +kernel
 k0:=by decide +kernel
 kl:=by decide +kernel
 es:=by decide +kernel
 el:=by decide +kernel
theorem g2:Rs t2 (gr t2) (Rt t2) T2 N2 P2 13 E2 VQ VR 6 tb2 [0,1,2,4] nb2 A2 C2 G2 m2 B2 where
 gs:=s2
 tT:=by decide +kernel
 tN:=by decide +kernel
 tP:=by kernel_rfl
 tk:=by decide +kernel
 tE:=by decide +kernel
 sz:=by decide
 x1:=⟨3,by decide +kernel⟩
 x2:=by decide +kernel
 x3:=⟨3,by decide +kernel⟩
 x4:=by decide +kernel
 s0:=by decide +kernel
 u:=u2
 x:=x2
end Cl
section
open Go.RowKit
open Tr
namespace Cl
open Rk
def p1:Pk.T:=⟨m1.aD,m1.ak,T1,N1,[(2,1),(3,2),(3,0)],m1.aH⟩
def p2:Pk.T:=⟨m2.aD,m2.ak,T2,N2,[(6,1),(7,4),(8,0),(8,3),(9,0),(9,1),(10,1),(10,1),(10,2),(10,2)],m2.aH⟩
theorem pk1:Pk.pack B1=p1:=by kernel_rfl
theorem ok1:Pk.ok B1=η:=by decide +kernel
theorem pk2:Pk.pack B2=p2:=by kernel_rfl
theorem ok2:Pk.ok B2=η:=by decide +kernel
def g(u:UInt8):Int:=Cm.oH T2 1 5 ⟨#[u]⟩
def Lt(xs:List UInt8):Prop:=∀u∈xs,u=65\/u=66\/u=67\/u=68\/u=69
theorem ae9{u:UInt8}(h:u=65\/u=66\/u=67\/u=68\/u=69):(∃a:Fin 6,g u=(a.val:Int))/\g u≠0/\jK p2 (g u)=[u]:=by
 rcases h with rfl|rfl|rfl|rfl|rfl
 ·exact⟨⟨1,by decide +kernel⟩,by decide +kernel,by kernel_rfl⟩
 ·exact⟨⟨2,by decide +kernel⟩,by decide +kernel,by kernel_rfl⟩
 ·exact⟨⟨3,by decide +kernel⟩,by decide +kernel,by kernel_rfl⟩
 ·exact⟨⟨4,by decide +kernel⟩,by decide +kernel,by kernel_rfl⟩
 ·exact⟨⟨5,by decide +kernel⟩,by decide +kernel,by kernel_rfl⟩
theorem anm{b:List UInt8}(h:Lt b):∃a:Fin 6,hd (b.map g)=(a.val:Int):=by
 cases b with
 |nil=>exact⟨0,rfl⟩
 |cons u b=>exact(ae9 (h u eE)).1
def fU:Nat->List UInt8
 |0=>[]
 |n+1=>66::65::fU n
theorem acn:∀n,fU n++[66,65]=fU (n+1)
 |0=>rfl
 |n+1=>by show 66::65::(fU n++[66,65])=_;rw[acn n];rfl
theorem OB:∀n,Lt (fU n)
 |0=>fun u a=>by cases a
 |n+1=>fun u a=>by
  rcases fh.1 a with rfl|a
  ·simp
  ·rcases fh.1 a with rfl | a
   ·simp
   ·exact OB n u a
theorem Lt.app{a ys:List UInt8}(h:Lt a)(c:Lt ys):Lt (a++ys):=fun u b=>(dq.1 b).elim (h u) (c u)
def one(u:UInt8):List UInt8:=[u]
section
variable{row:List Int}{rem:List UInt8}
theorem KE:1000<=Rn.most row:=by unfold Rn.most;omega
theorem df{q d:Nat}(h:∀a:Fin 6,Pk.act p2 (q:Int) (a.val:Int)=(2,d)){b:List UInt8}(c:Lt b):Pk.act p2 (q:Int) (hd (b.map g))=(2,d):=by
 obtain⟨a,e⟩:=anm c;rw[e,h a]
theorem lp(b:∀a∈row,a≠0):∀n{c:Nat}{X:List (List UInt8)}{rem:List UInt8},Lt rem->At p2 row ((fU n++rem).map g) [0,1,3] [[[65]],X] c->c+3*n<=1000->At p2 row (rem.map g) [0,1,3] [[[65]],X++(fU n).map one] (c+3*n)
 |0,c,X,rem,_,h,_=>by rw[show (fU 0).map one=[] from rfl,fW];exact h
 |n+1,c,X,rem,hr,h,hc=>by
  have f:=KE (row:=row);have d:=(OB n).app hr;have h1:=At.shift b (a:=g 66) (rem:=g 65::(fU n++rem).map g) h 4 (by decide +kernel) (by omega);have h2:=h1.shift b 7 (by decide +kernel) (by omega);rw[show jK p2 (g 66)=[66] by kernel_rfl,show jK p2 (g 65)=[65] by kernel_rfl]at h2;have h3:=h2.reduce b 3 (df (q:=7) (by decide +kernel) d) (by decide +kernel) (by omega) (xI:=[0,1,3]) (by kernel_rfl) (st2:=[[[65]],X++[[66],[65]]]) (by
   unfold uD;rw[show Pk.bH p2 ((3:Nat):Int)=(8,3) by kernel_rfl,show hp p2 ((3:Nat):Int)=η by decide +kernel];simp)
  have h4:=lp b n hr h3 (by omega);rw[show c+3*(n+1)=c+1+1+1+3*n by omega,show X++(fU (n+1)).map one=X++[[66],[65]]++(fU n).map one by rw[dy];rfl];exact h4
def DE(xs:List UInt8):Prop:=∀u∈xs,u=68\/u=69
theorem DE.lt{a:List UInt8}(h:DE a):Lt a:=fun u b=>(h u b).elim (fun e=>.inr (.inr (.inr (.inl e)))) fun e=>.inr (.inr (.inr (.inr e)))
theorem ld(f:∀a∈row,a≠0):∀(ds:List UInt8){c:Nat}{X Y Z:List (List UInt8)}{rem:List UInt8},DE ds->Lt rem->At p2 row ((ds++rem).map g) [0,1,3,6,10] [[[65]],X,Y,Z] c->c+2*ds.length<=1000->At p2 row (rem.map g) [0,1,3,6,10] [[[65]],X,Y,Z++ds.map one] (c+2*ds.length)
 | [],c,X,Y,Z,rem,_,_,h,_=>by rw[qr,fW];exact h
 |d::ds,c,X,Y,Z,rem,hq,hr,h,hc=>by
  have k:=KE (row:=row);rw[eh]at hc;have b:DE ds:=fun u j=>hq u (eR _ j)
  have i:=b.lt.app hr;have h3:At p2 row ((ds++rem).map g) [0,1,3,6,10] [[[65]],X,Y,Z++[[d]]] (c+1+1):=by
   rcases hq d eE with rfl|rfl
   ·have h1:=At.shift f (a:=g 68) (rem:=(ds++rem).map g) h 11 (by decide +kernel) (by omega)
    rw[show jK p2 (g 68)=[68] by kernel_rfl]at h1;exact h1.reduce f 8 (df (q:=11) (by decide +kernel) i) (by decide +kernel) (by omega) (by kernel_rfl) (by
     unfold uD;rw[show Pk.bH p2 ((8:Nat):Int)=(10,2) by kernel_rfl,show hp p2 ((8:Nat):Int)=η by decide +kernel];simp)
   ·have h1:=At.shift f (a:=g 69) (rem:=(ds++rem).map g) h 12 (by decide +kernel) (by omega)
    rw[show jK p2 (g 69)=[69] by kernel_rfl]at h1;exact h1.reduce f 9 (df (q:=12) (by decide +kernel) i) (by decide +kernel) (by omega) (by kernel_rfl) (by
     unfold uD;rw[show Pk.bH p2 ((9:Nat):Int)=(10,2) by kernel_rfl,show hp p2 ((9:Nat):Int)=η by decide +kernel];simp)
  have h4:=ld f ds b hr h3 (by omega);rw[eh,show c+2*(ds.length+1)=c+1+1+2*ds.length by omega,show Z++(d::ds).map one=Z++[[d]]++ds.map one by rw[dy];rfl];exact h4
theorem upto(d:∀a∈row,a≠0){o b:List UInt8}(y:n<=200)(m:o=[]\/o=[67])(f:DE b)(v:b.length<=5)(l:Lt rem)(i:row=(65::(fU n++(o++(68::b++rem)))).map g):∃c,c<=900/\At p2 row (rem.map g) [0,1,3,6,10] [[[65]],(fU n).map one,o.map one,(68::b).map one] c:=by
 have z:=KE (row:=row);have s:=Lt.app (DE.lt fun u k=>by rcases fh.1 k with rfl | k;exact .inl rfl;exact f u k) l;have r:Lt (o++(68::b++rem)):=Lt.app (by rcases m with rfl | rfl <;> intro u k <;> simp_all) s;have t:At p2 row ((65::(fU n++(o++(68::b++rem)))).map g) [0] [] 0:=by rw[<-i];exact At.zero
 have h1:=At.shift d (a:=g 65) (rem:=(fU n++(o++(68::b++rem))).map g) (pile:=[0]) (st:=[]) (c:=0) (p:=p2) (row:=row) t 1 (by decide +kernel) (by omega);rw[show jK p2 (g 65)=[65] by kernel_rfl]at h1;have h2:=h1.reduce d 2 (df (q:=1) (by decide +kernel) ((OB n).app r)) (by decide +kernel) (by omega) (xI:=[0,1,3]) (by kernel_rfl) (st2:=[[[65]],[]]) (by
  unfold uD;rw[show Pk.bH p2 ((2:Nat):Int)=(8,0) by kernel_rfl,show hp p2 ((2:Nat):Int)=η by decide +kernel];simp)
 have h3:=lp d n r h2 (by omega);rw[jn]at h3;obtain⟨c,A,h4⟩:∃c,c<=800/\At p2 row ((68::b++rem).map g) [0,1,3,6] [[[65]],(fU n).map one,o.map one] c:=by
  rcases m with rfl|rfl
  ·exact⟨_,by omega,h3.reduce d 4 (show Pk.act p2 3 (g 68)=(2,4) by decide +kernel) (by decide +kernel) (by omega) (by kernel_rfl) (by
    unfold uD;rw[show Pk.bH p2 ((4:Nat):Int)=(9,0) by kernel_rfl,show hp p2 ((4:Nat):Int)=η by decide +kernel];simp)⟩
  ·have j:=At.shift d (a:=g 67) (rem:=(68::b++rem).map g) h3 5 (by decide +kernel) (by omega)
   rw[show jK p2 (g 67)=[67] by kernel_rfl]at j;exact⟨_,by omega,j.reduce d 5 (df (q:=5) (by decide +kernel) s) (by decide +kernel) (by omega) (by kernel_rfl) (by
    unfold uD;rw[show Pk.bH p2 ((5:Nat):Int)=(9,1) by kernel_rfl,show hp p2 ((5:Nat):Int)=η by decide +kernel];simp[one])⟩
 have j:=At.shift d (a:=g 68) (rem:=(b++rem).map g) h4 8 (by decide +kernel) (by omega);rw[show jK p2 (g 68)=[68] by kernel_rfl]at j;have x:=j.reduce d 6 (df (q:=8) (by decide +kernel) (f.lt.app l)) (by decide +kernel) (by omega) (xI:=[0,1,3,6,10]) (by kernel_rfl) (st2:=[[[65]],(fU n).map one,o.map one,[[68]]]) (by
  unfold uD;rw[show Pk.bH p2 ((6:Nat):Int)=(10,1) by kernel_rfl,show hp p2 ((6:Nat):Int)=η by decide +kernel];simp)
 exact⟨_,by omega,ld d b f l x (by omega)⟩
end
end Cl
end
section
open Go.RowKit
open Tr
namespace Cl
open Rk
theorem Ga:∀n,(fU n).length=2*n
 |0=>rfl
 |n+1=>by show (fU n).length+1+1=_;rw[Ga n];omega
def ws(n:Nat)(o ds:List UInt8):List UInt8:=65::(fU n++(o++68::ds))
def bl(xs:List UInt8):List UInt8:=xs.flatMap fun u=>[32,u]
theorem OC:∀xs,(bl xs).length=2*xs.length
 | []=>rfl
 |x::xs=>by show (bl xs).length+1+1=2*(xs.length+1);rw[OC xs];omega
theorem amP(a:List UInt8):(a.map one).flatMap (32::·)=bl a:=by rw[uB];rfl
theorem adf(a ys:List UInt8):bl (a++ys)=bl a++bl ys:=ik
theorem OP{o c:List UInt8}(d:o=[]\/o=[67])(b:DE c):Lt (ws n o c):=fun u a=>by
 rcases fh.1 a with rfl|a
 ·simp
 ·refine(OB n).app (Lt.app ?_ (DE.lt fun u a=>?_)) u a
  ·rcases d with rfl | rfl <;> intro u a <;> simp_all
  ·rcases fh.1 a with rfl | a
   ·exact .inl rfl
   ·exact b u a
theorem Un{b:List UInt8}(h:Lt b):∀a∈b.map g,a≠0/\-1000000000<=a/\a<=1000000000:=fun a c=>by
 obtain⟨u,d,rfl⟩:=fk.1 c;obtain⟨⟨q,e⟩,h2,-⟩:=ae9 (h u d);refine⟨h2,?_⟩;rw[e];omega
theorem last(n:Nat)(o a:List UInt8):uD p2 [[[65]],(fU n).map one,o.map one,(68::a).map one] 1=[[40::115::(bl (ws n o a)++[41])]]:=by
 unfold uD;rw[show Pk.bH p2 ((1:Nat):Int)=(7,4) by kernel_rfl,show hp p2 ((1:Nat):Int)=ε by decide +kernel,show iN p2 ((7,4).1:Nat)=[115] by kernel_rfl];have:([[[65]],(fU n).map one,o.map one,(68::a).map one]:List (List (List UInt8))).flatten=(ws n o a).map one:=by
  unfold ws;simp[one]
 show []++[if ε=η then _ else [40::([115]++(List.flatten _).flatMap (32::·)++[41])]]=_;rw[dt (by decide),show List.drop _ [[[65]],(fU n).map one,o.map one,(68::a).map one]=[[[65]],(fU n).map one,o.map one,(68::a).map one] from rfl,this,amP];rfl
section
variable{n:Nat}{o ds:List UInt8}
theorem Uo(c:n<=200)(b:o=[]\/o=[67])(a:ds.length<=5):(ws n o ds).length<=410:=by
 have:o.length<=1:=by rcases b with rfl | rfl <;> decide
 unfold ws;rw[eh,cJ,cJ,Ga,eh];omega
theorem amQ(k:n<=200)(j:o=[]\/o=[67])(d:DE ds)(f:ds.length<=5):(Rn.run p2 ((ws n o ds).map g)).1.1=0/\En p2 ((nodes p2 ((ws n o ds).map g) (Rn.run p2 ((ws n o ds).map g)).2.steps).map xQ) (40::115::(bl (ws n o ds)++[41])):=by
 have p:=Uo k j f;have i:=Un (OP (n:=n) j d);have m:=KE (row:=(ws n o ds).map g);obtain⟨c,q,h⟩:=upto (rem:=[]) (fun a b=>(i a b).1) k j d f (fun u l=>by cases l) (by rw[fW];rfl);exact h.fin (fun a b=>(i a b).1) 1 (by decide +kernel) (by decide +kernel) (by omega) (xI:=[0,2]) (by kernel_rfl) (last n o ds) (by decide +kernel) (by omega) (by decide +kernel) (by
  rw[eh,eh,cJ,OC];show _+1+1+1<=_;omega) (fun a b=>(i a b).2) (by decide +kernel) (by decide +kernel) (by decide +kernel) (by decide +kernel)
theorem al9(q:n<=200)(j:o=[]\/o=[67])(d:DE ds)(i:ds.length<=5):(Rn.run p2 ((ws n o ds++[65]).map g)).1.1=11/\(Rn.run p2 ((ws n o ds++[65]).map g)).1.2=(ws n o ds).length:=by
 have k:Lt [65]:=fun u m=>.inl (dd.1 m)
 have f:=Un ((OP (n:=n) j d).app k);have r:=KE (row:=(ws n o ds++[65]).map g);obtain⟨c,s,h⟩:=upto (rem:=[65]) (fun a b=>(f a b).1) q j d i k (by unfold ws;simp);have h2:=h.reduce (fun a b=>(f a b).1) 1 (by decide +kernel) (by decide +kernel) (by omega) (xI:=[0,2]) (by kernel_rfl) (last n o ds);obtain⟨l,p⟩:=h2.err (fun a b=>(f a b).1) (by decide +kernel) (by omega);refine⟨l,p.trans ?_⟩;rw[dk,cJ];rfl
end
end Cl
end
section
open Go.RowKit
open Tr
namespace Cl
open Rk
def pl:Nat->List UInt8->List (Nat×ByteArray)
 |_,[]=>[]
 |i,u::us=>(i,⟨#[u]⟩)::pl (i+2) us
theorem adg:∀(us:List UInt8)i k,k<us.length->((pl i us).map Prod.fst)[k]?=ο (i+2*k)
 | [],_,_,h=>by cases h
 |_::_,_,0,_=>rfl
 |u::us,i,k+1,h=>by
  show ((pl (i+2) us).map Prod.fst)[k]?=_;rw[adg us (i+2) k (Nat.lt_of_succ_lt_succ h)];congr 1;omega
theorem adh(f:ByteArray->Int):∀(us:List UInt8)i,(pl i us).map (fun x=>f x.2)=us.map fun u=>f ⟨#[u]⟩
 | [],_=>rfl
 |u::us,i=>by show _::(pl (i+2) us).map _=_;rw[adh f us];rfl
theorem Uq:∀(us:List UInt8)i,(pl i us).length=us.length
 | [],_=>rfl
 |u::us,i=>by show (pl (i+2) us).length+1=_;rw[Uq us];rfl
theorem TW{i:Nat}{u:UInt8}{r:List UInt8}(h:s.data.toList.drop i=u::r):i<s.size/\s.data.toList[i]?=ο u/\fV s i=(u.toNat:Int)/\s.data.toList.drop (i+1)=r:=by
 have a:i<s.data.toList.length:=by
  apply jt;intro f;rw[pD (by omega)]at h;cases h
 rw[eN a]at h;obtain⟨c,d⟩:=xv h;have b:s.data.toList[i]?=ο u:=by rw[cG a,c]
 refine⟨by rw[jx]at a;exact a,b,?_,d⟩;unfold fV;rw[nF,<-gz,b];rfl
theorem nbl{u:UInt8}(h:u=65\/u=66\/u=67\/u=68\/u=69):Cm.blk (u.toNat:Int)=ε:=by
 rcases h with rfl|rfl|rfl|rfl|rfl <;> decide
theorem adi{s:ByteArray}:∀(us:List UInt8)(u:UInt8)(i:Nat),Lt (u::us)->s.data.toList.drop i=u::bl us->Cm.pK s i=pl i (u::us)
 |us,u,i,hl,h=>by
  obtain⟨h1,h2,h3,h4⟩:=TW h;have e:Cm.mV s i=i+1:=by
   rw[Cm.SK h1,h3,nbl (hl u eE),du rfl];cases us with
   |nil=>exact Cm.abG (by have:=fd List.length h4;rw[m7,jx]at this;exact Cd this)
   |cons v us=>
    obtain⟨a,-,b,-⟩:=TW (u:=32) (r:=v::bl us) h4;rw[Cm.SK a,b];rfl
  have c:s.extract i (i+1)=⟨#[u]⟩:=by
   refine ul (zr.1 ?_);rw[B8,Array.toList_extract,List.extract_eq_take_drop,h,uv];rfl
  rw[Cm.SL h1,e,du (tr i),c];show (i,_)::Cm.pK s (i+2)=_::pl (i+2) us;congr 1;cases us with
  |nil=>exact Cm.abH (by have:=fd List.length h4;rw[m7,jx]at this;exact Nat.le_succ_of_le (Cd this))
  |cons v us=>exact adi us v (i+2) (fun x d=>hl x (eR _ d)) (TW (u:=32) (r:=v::bl us) h4).2.2.2
end Cl
end
section
open Go.RowKit
open Tr
namespace Cl
open Rk
theorem pkg{p:Pk.T}(h:∀i:Fin p.ak.length,p.ak[i]=(0,0,0)\/(p.ak[i].2.2<p.aD.length/\Pk.Al p p.ak[i].1 p.ak[i].2.1 ((i.val:Int) - (p.aD.getD p.ak[i].2.2 0:Nat))=η))(i:Nat)(x:Nat×Nat×Nat)(b:p.ak[i]?=ο x):x=(0,0,0)\/(x.2.2<p.aD.length/\Pk.Al p x.1 x.2.1 ((i:Int) - (p.aD.getD x.2.2 0:Nat))=η):=by
 obtain⟨a,rfl⟩:=cH.1 b;exact h ⟨i,a⟩
theorem zC:pJ p1:=by refine⟨⟨?_,?_,?_,?_,?_⟩,?_,?_,?_,?_,?_,?_,pkg ?_,?_⟩ <;> decide +kernel
theorem Ay:pJ p2:=by refine⟨⟨?_,?_,?_,?_,?_⟩,?_,?_,?_,?_,?_,?_,pkg ?_,?_⟩ <;> decide +kernel
section
variable{n:Nat}{o ds:List UInt8}{W:ω}{s:ByteArray}
theorem adj{us:List UInt8}(a:Lt (65::us))(c:s.data.toList=65::bl us):Cm.dm s=pl 0 (65::us)/\(Cm.dm s).map (fun x=>Cm.oH T2 1 5 x.2)=(65::us).map g/\∀x∈Cm.dm s,Cm.oH T2 1 5 x.2≠0:=by
 have e:Cm.dm s=pl 0 (65::us):=adi us 65 0 a c;have b:(Cm.dm s).map (fun x=>Cm.oH T2 1 5 x.2)=(65::us).map g:=by rw[e];exact adh _ _ _
 refine⟨e,b,fun x d=>(Un a _ ?_).1⟩;rw[<-b];exact fk.2 ⟨x,d,rfl⟩
theorem JK{us:List UInt8}(a:s.data.toList=65::bl us):s.size=2*us.length+1:=by
 have:=fd List.length a;rw[jx,eh,OC]at this;exact this
theorem ama(r:kZ W)(l:0<W.heap.size)(k:n<=200)(g:o=[]\/o=[67])(a:DE ds)(c:ds.length<=5)(i:s.data.toList=65::bl (fU n++(o++68::ds))):χ prog 7 #[τ B2,τ s] W fun e w'=>e=δ (θ #[τ (⟨#[40,115,32]⟩++s++⟨#[41]⟩),ι ξ 0,ι ξ 0])/\φ W.heap.size W w':=by
 obtain⟨p,t,q⟩:=adj (OP (n:=n) g a) i;have x:=JK i;have u:=Uo k g c;have v:(ws n o ds).length=(fU n++(o++68::ds)).length+1:=rfl;obtain⟨d,j⟩:=amQ k g a c;unfold ws at d j;rw[<-t]at d j;refine(Tf (b:=B2) (s:=s) pk2 ok2 Ay r l (by decide +kernel) (by decide) (by decide) (f:=Cm.oH T2 1 5) rfl (by omega) q (by rw[p,Uq];show (ws n o ds).length<=_;omega) (.inl ⟨d,j⟩)).mono ?_;rintro e w'⟨m,⟨-,rfl⟩|⟨h,-⟩⟩
 ·refine⟨?_,m⟩
  congr 5;refine ul (zr.1 ?_);rw[rd,rd,pZ,pZ,i];rfl
 ·rw[d]at h
  cases h
theorem akM(B:kZ W)(y:0<W.heap.size)(m:n<=200)(j:o=[]\/o=[67])(a:DE ds)(d:ds.length<=5)(l:s.data.toList=65::bl (fU n++(o++68::ds))):χ prog 7 #[τ B2,τ (s++⟨#[32]⟩++⟨#[65]⟩)] W fun e w'=>e=δ (θ #[τ ⟨#[]⟩,ι ξ 11,ι ξ ((s.size:Int)+1)])/\φ W.heap.size W w':=by
 have c:(s++⟨#[32]⟩++⟨#[65]⟩).data.toList=65::bl (fU n++(o++68::ds)++[65]):=by
  rw[rd,rd,pZ,pZ,l,adf];simp[bl]
 obtain⟨r,C,A⟩:=adj (us:=fU n++(o++68::ds)++[65]) (by rw[show 65::(fU n++(o++68::ds)++[65])=ws n o ds++[65] from rfl];exact(OP (n:=n) j a).app fun u x=>.inl (dd.1 x)) c;have G:=JK l;have t:=JK c;have E:=Uo m j d;have F:(ws n o ds).length=(fU n++(o++68::ds)).length+1:=rfl;rw[cJ,gw]at t;obtain⟨i,k⟩:=al9 m j a d;have v:(ws n o ds++[65]).map g=(65::(fU n++(o++68::ds)++[65])).map g:=rfl;rw[v,<-C]at i k;have D:(Cm.dm (s++⟨#[32]⟩++⟨#[65]⟩)).length=(ws n o ds).length+1:=by
  rw[r,Uq];show (ws n o ds++[65]).length=_;rw[cJ];rfl
 refine(Tf (T:=[]) (b:=B2) pk2 ok2 Ay B y (by decide +kernel) (by decide) (by decide) (f:=Cm.oH T2 1 5) rfl (by omega) A (by omega) (.inr ⟨i,by rw[k];omega⟩)).mono ?_;rintro e w'⟨z,⟨h,-⟩ | ⟨-,q,p,rfl⟩⟩
 ·rw[i]at h
  cases h
 ·refine⟨?_,z⟩
  rw[k,eL (by rw[dk];omega),r,adg _ _ _ (by show _<(ws n o ds++[65]).length;rw[cJ];exact tr _)]at p;have:=fL p;rw[show (q:Int)=(s.size:Int)+1 by omega]
theorem akN(d:kZ W)(g:0<W.heap.size):χ prog 7 #[τ B1,τ ⟨#[32,65,32]⟩] W fun e w'=>e=δ (θ #[τ ⟨#[40,115,32,65,32,40,115,41,41]⟩,ι ξ 0,ι ξ 0])/\φ W.heap.size W w':=by
 have j:(Cm.dm ⟨#[32,65,32]⟩).map (fun x=>Cm.oH T1 1 1 x.2)=[1]:=by kernel_rfl
 have a:(Rn.run p1 [1]).1.1=0:=by decide +kernel
 have c:En p1 ((nodes p1 [1] (Rn.run p1 [1]).2.steps).map xQ) [40,115,32,65,32,40,115,41,41]:=abO (l':=[-1,2]) (k:=1) (ps:=1) (by kernel_rfl) (by decide) (by decide +kernel) (by decide +kernel) (by kernel_rfl) (by decide +kernel) (by decide) (by decide) (by decide +kernel) (by decide) (by decide +kernel) (by decide +kernel);rw[<-j]at a c;refine(Tf (b:=B1) (s:=⟨#[32,65,32]⟩) pk1 ok1 zC d g (by decide +kernel) (by decide) (by decide) (f:=Cm.oH T1 1 1) rfl (by decide) (by decide +kernel) (by decide +kernel) (.inl ⟨a,c⟩)).mono ?_;rintro e w'⟨i,⟨-,rfl⟩ | ⟨h,-⟩⟩
 ·exact⟨rfl,i⟩
 ·rw[a]at h
  cases h
end
end Cl
end
namespace Cl
theorem aco(x:Int):χ prog 6 #[ι ξ x] w fun e w'=>e=δ (ι ξ x)/\w'=w:=by
 go_enter func6,ntmps6;go_wp2_with fail;go_ret;exact⟨rfl,rfl⟩
structure Wo(W:ω):Prop where
 s:kZ W
 z:0<W.heap.size
 t:∀W',φ W.heap.size W W'->iy W'
 u:∀W',φ W.heap.size W W'->TabAt 2 Lib.deBruijn64tab W'
theorem Wo.on{W':ω}(h:Wo W)(b:φ W.heap.size W W'):Wo W':=⟨h.s.move (b.block 0 h.z),dg h.z b.size,fun c a=>h.t c (b.trans (a.mono b.size)),fun c a=>h.u c (b.trans (a.mono b.size))⟩
theorem ajg(h:Wo W):χ prog 4 #[] W fun e w'=>e=δ (μ η)/\φ W.heap.size W w':=by
 have b:=g1.gen h.s h.z h.t h.u;unfold t1 at b;have i:=fun w x=>aco (w:=w) x
 have d:Hid (∀w1,φ W.heap.size W w1->χ prog 7 #[τ B1,τ ⟨#[32,65,32]⟩] w1 fun e w'=>e=δ (θ #[τ ⟨#[40,115,32,65,32,40,115,41,41]⟩,ι ξ 0,ι ξ 0])/\φ W.heap.size W w'):=fun w1 a=>(akN (h.on a).s (h.on a).z).mono (by
  rintro e w'⟨rfl,h2⟩;exact⟨rfl,a.trans (h2.mono a.size)⟩)
 clear h;generalize B1=bb at b d;go_enter func4,ntmps4;go_upto_region 2 with (go_at_call 5;refine b.mono ?_;rintro e w1⟨rfl,f⟩)
 have g:=d.out w1 f;clear d b;go_upto_region 3 with (go_at_call 7;refine g.mono ?_;rintro e w2⟨rfl,c⟩;clear g)
 go_wp2_with (go_at_call 6;refine(i _ _).mono ?_;rintro e j⟨rfl,rfl⟩)
 go_ret;exact⟨rfl,c⟩
end Cl
namespace Cl
def de(k:Nat):List UInt8:=(List.range k).map fun j=>if j % 2=0 then 68 else 69
theorem amb(k:Nat):de (k+1)=de k++[if k % 2=0 then 68 else 69]:=by
 unfold de;rw[wg,ee];rfl
theorem amc(k:Nat):∃ds,de (k+1)=68::ds/\DE ds/\ds.length=k:=by
 unfold de;rw[List.range_succ_eq_map,n9];refine⟨_,rfl,fun u a=>?_,by simp⟩;obtain⟨j,-,rfl⟩:=fk.1 a
 split
 ·exact .inl rfl
 ·exact .inr rfl
theorem ann{a ys:List UInt8}(h:s.data.toList=65::bl a)(b:x.data.toList=bl ys):(s++x).data.toList=65::bl (a++ys):=by
 rw[rd,pZ,h,b,adf];rfl
theorem UH{a ys:List UInt8}(h:s.data.toList=65::bl a)(c:x.data.toList=bl ys)(g:a.length<=1000)(i:ys.length<=10):∃s2,(Op.stringOp .add s x).run prog w=.ok (τ s2) w/\Hid (s2.data.toList=65::bl (a++ys)):=by
 refine⟨_,run_string_add_sum w s x ?_,ann h c⟩;have d:=JK h;have b:=fd List.length c;rw[jx,OC]at b;have f:x.size=2*ys.length:=b;omega
theorem afG(h:Wo W)(n:Int):χ prog 3 #[ι ξ n] W fun e w'=>e=δ (μ η)/\φ W.heap.size W w':=by
 have K:Hid (∀w1,φ W.heap.size W w1->χ prog 4 #[] w1 fun e w'=>e=δ (μ η)/\φ W.heap.size W w'):=fun w1 d=>(ajg (h.on d)).mono (by
  rintro e w'⟨rfl,h2⟩;exact⟨rfl,d.trans (h2.mono d.size)⟩)
 by_cases hn:n<0\/200<n
 ·have I:=K.out W (cV _ _)
  clear K h;go_enter func3,ntmps3
  by_cases h0:n<0
  ·go_wp2_with (go_at_call 4;refine I.mono ?_;rintro e w1⟨rfl,g⟩)
   go_ret;exact⟨rfl,g⟩
  ·have h2:200<n:=by omega
   go_wp2_with (go_at_call 4;refine I.mono ?_;rintro e w1⟨rfl,g⟩)
   go_ret;exact⟨rfl,g⟩
 obtain⟨N,rfl,hN⟩:∃N:Nat,n=(N:Int)/\N<=200:=⟨n.toNat,by omega,by omega⟩;have L:=g2.gen h.s h.z h.t h.u;unfold t2 at L;have Z:=fun w x=>aco (w:=w) x
 have n0:¬(N:Int)<0:=by omega
 have n2:¬(200:Int)<(N:Int):=by omega
 have R:Hid (∀w1 o r s,φ W.heap.size W w1->(o=[]\/o=[67])->DE r->r.length<=5->s.data.toList=65::bl (fU N++(o++68::r))->χ prog 7 #[τ B2,τ s] w1 (fun e w'=>e=δ (θ #[τ (⟨#[40,115,32]⟩++s++⟨#[41]⟩),ι ξ 0,ι ξ 0])/\φ W.heap.size W w')/\χ prog 7 #[τ B2,τ (s++⟨#[32]⟩++⟨#[65]⟩)] w1 (fun e w'=>e=δ (θ #[τ ⟨#[]⟩,ι ξ 11,ι ξ ((s.size:Int)+1)])/\φ W.heap.size W w')):=fun w1 o r s d q A l f=>⟨(ama (h.on d).s (h.on d).z hN q A l f).mono (by
  rintro e w'⟨rfl,h2⟩;exact⟨rfl,d.trans (h2.mono d.size)⟩),(akM (h.on d).s (h.on d).z hN q A l f).mono (by
  rintro e w'⟨rfl,h2⟩;exact⟨rfl,d.trans (h2.mono d.size)⟩)⟩
 clear h hn;generalize B2=bb at L R;go_enter func3,ntmps3;go_upto_region 4 with (go_at_call 5;refine L.mono ?_;rintro e w1⟨rfl,g⟩)
 clear L;go_upto_region 6 with (go_at_call 6;refine(Z _ _).mono ?_;rintro e w3⟨rfl,rfl⟩)
 go_wp2_with fail
 go_loopg [7,8] N (fun U Y X wr=>∃(i:Nat)(s:ByteArray),U+i=N/\X=ι ξ (i:Int)/\Y=τ s/\wr=w3/\Hid (s.data.toList=65::bl (fU i)))
 case atStart=>exact⟨0,_,by omega,rfl,rfl,rfl,rfl⟩
 case round=>
  obtain⟨i,s,T,rfl,rfl,rfl,f⟩:=hrel
  by_cases Yq:i<N
  ·have M:(i:Int)<(N:Int):=by omega
   have P:IntKind.i64.wrap ((i:Int)+1)=((i+1:Nat):Int):=by rw[gx];omega
   obtain⟨s2,j,c⟩:=UH (w:=wr) (x:=⟨#[32,66,32,65]⟩) (ys:=[66,65]) f.out rfl (by rw[Ga];omega) (by decide);rw[acn]at c;clear f;go_wp2_with fail;go_roundg (gk-1)
   case measure=>omega
   case rel=>exact⟨i+1,_,by omega,rfl,rfl,rfl,c⟩
  ·have M:¬(i:Int)<(N:Int):=by omega
   have e:N=i:=by omega
   subst e;clear T Yq;obtain⟨o,q,hp⟩:∃o:List UInt8,(o=[]\/o=[67])/\((N % 2=1/\o=[67])\/(N % 2=0/\o=[])):=by
    rcases AE N with e|e
    ·exact⟨[],.inl rfl,.inr ⟨e,rfl⟩⟩
    ·exact⟨[67],.inr rfl,.inl ⟨e,rfl⟩⟩
   have O:∀a b:Nat,Int.tmod (a:Int) (b:Int)=((a % b:Nat):Int):=fun a b=>by rw[Int.tmod_eq_emod_of_nonneg (by omega)];omega
   have t2:Int.tmod (N:Int) 2=((N % 2:Nat):Int):=O N 2;have t5:Int.tmod (N:Int) 5=((N % 5:Nat):Int):=O N 5;have V:Hid (N % 5<=4):=by show N % 5<=4;omega
   obtain⟨p,B⟩:=aF (N % 5);rw[B]at t5 V;clear B;have HG:Hid (∃s2,(o=[]/\s2=s\/o=[67]/\(Op.stringOp .add s ⟨#[32,67]⟩).run prog wr=.ok (τ s2) wr)/\Hid (s2.data.toList=65::bl (fU N++(o++de 0)))):=by
    rcases hp with ⟨-,rfl⟩|⟨-,rfl⟩
    ·obtain⟨s2,ha,h2⟩:=UH (w:=wr) (x:=⟨#[32,67]⟩) (ys:=[67]) f.out rfl (by rw[Ga];omega) (by decide)
     exact⟨s2,.inr ⟨rfl,ha⟩,h2⟩
    ·exact⟨s,.inl ⟨rfl,rfl⟩,by show _=65::bl (fU N++[]);rw[fW];exact f.out⟩
   obtain⟨s2,c,D⟩:=HG.out;clear HG f;go_upto_region 11 with fail
   rcases hp with ⟨Q,m⟩|⟨Q,m⟩
   case' inl=>
    rw[Q]at t2;have j:(Op.stringOp .add s ⟨#[32,67]⟩).run prog wr=.ok (τ s2) wr:=by
     rcases c with ⟨h,-⟩|⟨-,h⟩
     ·rw[m]at h;cases h
     ·exact h
    clear c;go_upto_region 13 with fail
    clear j
   case' inr=>
    rw[Q]at t2;obtain rfl:s2=s:=by
     rcases c with ⟨-,h⟩|⟨h,-⟩
     ·exact h
     ·rw[m]at h;cases h
    clear c;go_upto_region 13 with fail
   all_goals
    clear t2 Q m M
    rename ω=>wq
    go_wp2_with fail
    go_loopg [7,9] (p+1) (fun U Y X wr=>∃(i:Nat)(s:ByteArray),U+i=p+1/\X=ι ξ (i:Int)/\Y=τ s/\wr=wq/\Hid (s.data.toList=65::bl (fU N++(o++de i))))
    case atStart=>exact⟨0,_,by omega,rfl,rfl,rfl,D⟩
    case round=>
     clear D;obtain⟨i,s,T,rfl,rfl,rfl,f⟩:=hrel;have J:=V.out;have ol:o.length<=1:=by rcases q with rfl|rfl <;> decide
     have dl:(de i).length=i:=by unfold de;simp
     by_cases Yq:i<=p
     ·have M:(i:Int)<=(p:Int):=by omega
      have P:IntKind.i64.wrap ((i:Int)+1)=((i+1:Nat):Int):=by rw[gx];omega
      have t2:Int.tmod (i:Int) 2=((i % 2:Nat):Int):=O i 2;have hd:=amb i;obtain⟨u,F⟩:∃u:UInt8,(if i % 2=0 then 68 else 69)=u:=⟨_,rfl⟩;rw[F]at hd;obtain⟨s2,j,c⟩:=UH (w:=wr) (x:=⟨#[32,u]⟩) (ys:=[u]) f.out rfl (by rw[cJ,cJ,Ga];omega) (by simp);rw[dy,dy,<-hd]at c;clear f hd dl ol J;rcases AE i with e|e
      ·rw[e]at t2 F
       obtain rfl:68=u:=F;go_wp2_with fail;go_roundg (gk-1)
       case measure=>omega
       case rel=>exact⟨i+1,_,by omega,rfl,rfl,rfl,c⟩
      ·rw[e]at t2 F
       obtain rfl:69=u:=F;go_wp2_with fail;go_roundg (gk-1)
       case measure=>omega
       case rel=>exact⟨i+1,_,by omega,rfl,rfl,rfl,c⟩
     ·have M:¬(i:Int)<=(p:Int):=by omega
      have e:i=p+1:=by omega
      subst e;clear T Yq;obtain⟨r,hd,C,l⟩:=amc p;have k:=f.out;rw[hd]at k;have hsz:s.size<=2000:=by
       rw[JK k,cJ,cJ,Ga,eh];omega
      have v:Hid (∀w1,φ W.heap.size W w1->_):=fun w1 d=>R.out w1 o r s d q C (by omega) k
      have E:∀(x y:ByteArray)(w:ω),x.size+y.size<=3000->(Op.stringOp .add x y).run prog w=.ok (τ (x++y)) w:=fun x y w h=>run_string_add_sum w x y (by omega)
      have z1:(s++⟨#[32]⟩).size=s.size+1:=CA;have z2:(⟨#[40,115,32]⟩++s:ByteArray).size=3+s.size:=CA;have a1:=fun w=>E s ⟨#[32]⟩ w (by show _+1<=_;omega)
      have a2:=fun w=>E (s++⟨#[32]⟩) ⟨#[65]⟩ w (by show _+1<=_;omega)
      have a3:=fun w=>E ⟨#[40,115,32]⟩ s w (by show 3+_<=_;omega)
      have a4:=fun w=>E (⟨#[40,115,32]⟩++s) ⟨#[41]⟩ w (by show _+1<=_;omega)
      have P:IntKind.i64.wrap ((s.size:Int)+1)=(s.size:Int)+1:=by rw[gx];omega
      obtain⟨z,hz⟩:=aF ((s.size:Int)+1);have e2:RowKit.wrap64 ((s.size:Int)+1)=z:=by unfold RowKit.wrap64;omega
      rw[hz]at P v;clear P hz;generalize s++⟨#[32]⟩++⟨#[65]⟩=s4 at a2 v;generalize ⟨#[40,115,32]⟩++s++⟨#[41]⟩=s6 at a4 v;generalize s++⟨#[32]⟩=s3 at a1 a2 z1;generalize (⟨#[40,115,32]⟩:ByteArray)++s=s5 at a3 a4 z2;clear z1 z2 hsz k hd C l f R E O V J dl ol q;have G:=(v.out wr g).1;go_upto_region 20 with (go_at_call 7;refine G.mono ?_;rintro e w5⟨rfl,H⟩;clear G)
      have G:=(v.out w5 H).2;clear v g;go_upto_region 21 with (go_at_call 7;refine G.mono ?_;rintro e w6⟨rfl,S⟩;clear G)
      have I:=K.out w6 S;clear K H a1 a2
      go_wp2_with (first
       | (go_at_call 6;refine(Z _ _).mono ?_;rintro e w7⟨rfl,hw⟩;subst hw)
       | (go_at_call 4;refine I.mono ?_;rintro e w8⟨rfl,eY⟩;clear I))
      go_ret;exact⟨rfl,eY⟩
end Cl
section
open Go.ChangeShapes Go.WideShapes Go.RowKit
theorem akO(h:laidMetH prog Rows.combListsRow.laid W):iy W:=by
 have h1 := (laidMetH_iff.1 (h.filter fun x => x.1 == "internal/strconv.uint64pow10")).1
 have h2 : laidMet prog [("internal/strconv.uint64pow10", Lib.tabData .u64 Lib.pow10Tab)] W := h1
 exact Lib.tabIs_of_head (g:=rU) (t:=381) (e:=275) (n:=20) Jj (by kernel_rfl) (by kernel_rfl) (by kernel_rfl) (by kernel_rfl) (by kernel_rfl) h2
theorem aa9 : prog.globalNamed "math/bits.deBruijn64tab" = some 2 := by kernel_rfl
theorem ahU(h:laidMetH prog Rows.combListsRow.laid W):TabAt 2 Lib.deBruijn64tab W:=by
 have h1 := (laidMetH_iff.1 (h.filter fun x => x.1 == "math/bits.deBruijn64tab")).1
 have h2 : laidMet prog [("math/bits.deBruijn64tab", Lib.tabData .u8 (Lib.deBruijn64tab.map fun (x : Nat) => (x : Int)))] W := h1
 have h3:=Lib.tabIs_of_head (g:=2) (t:=335) (e:=5) (n:=64) aa9 (by kernel_rfl) (by kernel_rfl) (by kernel_rfl) (by kernel_rfl) (by kernel_rfl) h2;intro j a;have:=h3.cell aa9 j (by rw[dk];exact a);rw[this];simp[List.getD,a]
theorem RZ : prog.globalNamed "comb/pack.sums" = some 0 := by kernel_rfl
theorem aaz(h:laidMetH prog Rows.combListsRow.laid W):kZ W/\0<W.heap.size:=by
 have h1 := (laidMetH_iff.1 (h.filter fun x => x.1 == "comb/pack.sums")).1
 have h2 : laidMet prog [("comb/pack.sums", Lib.tabData .u32 (Pk.JU.map fun (x : Nat) => (x : Int)))] W := h1
 have h3:=Lib.tabIs_of_head (g:=0) (t:=235) (e:=140) (n:=16) RZ (by kernel_rfl) (by kernel_rfl) (by kernel_rfl) (by kernel_rfl) (by kernel_rfl) h2;refine⟨fun j a=>?_,Oi (h3.cell RZ 0 (by decide))⟩;have:=h3.cell RZ j (by rw[dk];exact a);rw[this];have b:j<Pk.JU.length:=a;simp[Pk.D6,List.getD,b]
theorem amd(a:laidMetH prog Rows.combListsRow.laid W):Cl.Wo W:=by
 refine⟨(aaz a).1,(aaz a).2,fun d c=>?_,fun d c j f=>aU c (ahU a j f)⟩;have h:=akO a;have g:=h.cell Jj 0 (by decide);have b:=Oi g;have e:=c.block _ b
 show d.var? prog "internal/strconv.uint64pow10" = _
 rw [show d.var? prog "internal/strconv.uint64pow10" = W.var? prog "internal/strconv.uint64pow10" by unfold World.var?; rw [Jj]; simp only [Option.bind_some]; rw [e]]
 exact h
end

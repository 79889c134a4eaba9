import Derived.Test.YtfpjphhnjegnjaaGreatDoorCL12
import Derived.Test.YtfpjphhnjegnjaaGreatDoorCL10
import Derived.Test.YtfpjphhnjegnjaaGreatDoorCL09
set_option maxHeartbeats 8000000
set_option maxRecDepth 1000000
namespace Go.Proofs.YtfpjphhnjegnjaaGreatDoor
open Lx Go.Proofs.Tryz
open Go.RowKit Tr
open Go.Value renaming slice→ς,int→ι,string→τ,pointer→π,bool→μ,agg→γ,tuple→θ
open Go.IntKind renaming i64→ξ
open Option renaming none→ν,some→ο
open Go.Ending renaming returned→δ
open Go.Obj renaming cells→ζ
open Bool renaming true→η,false→ε
open Go renaming World→ω,Value→υ,Calls→χ
open Go.RowKit renaming Below→φ
open List renaming replicate→ψ
variable{B i j k n p q t x:Nat}{K:List (Nat×Nat)}{W1 w:ω}{a:Act}{e f:Nat×Nat}{l:List (Nat×Nat×Nat)}{v:υ}
abbrev qA(w:ω):=tL 1 (rQ w 2 (ME w))
theorem qA.keep{w w':ω}{v:υ}{l:List (List (Nat×List Nat))}(h:qA w v l)(a:φ w.heap.size w w'):qA w' v l:=h.mono fun _ _ _=>rQ.keep a fun _ _ _=>ME.keep a
namespace Tb
def oz(r:List (Nat×List Nat))(n k:Nat):List (Nat×Nat):=(r.take k).map iZ++ψ (n-k) (0,0)
theorem ai0{r:List (Nat×List Nat)}{x:Nat×List Nat}(a:r[k]?=ο x)(d:k<n):(oz r n k).set k (iZ x)=oz r n (k+1):=by
 have c:=(cH.1 a).1;unfold oz;have b:((r.take k).map iZ).length=k:=by rw[dk,fR];omega
 rw[nn _ _ (by omega),b,io,show n-k=(n - (k+1))+1 by omega,oi,n7,ki,a,ee,dy];rfl
theorem ai1(r:List (Nat×List Nat))(b:r.length=n)(a:k<=n):(oz r n k).length=n:=by
 unfold oz;rw[cJ,dk,fR,js];omega
end Tb
def XO(w:ω)(C:List (List (Nat×Nat)))(e:Ending)(w':ω):Prop:=∃v,e=δ v/\Fq w' v C/\φ w.heap.size w w'
theorem ai2{d:υ}{vc:υ}{a:List (List (Nat×List Nat))}(hc:qA w vc a)(Y:∀r∈a,r.length=n)(hl:∀r∈a,∀x∈r,Tb.lone x=η)(hS:a.length<=100000)(hN:n<=100000):χ prog 15 #[d,vc] w (XO w (a.map (List.map Tb.iZ))):=by
 obtain⟨ca,cc,rfl,S⟩:=hc;obtain⟨c,iG⟩:=aF w.heap.size;obtain⟨w2,A⟩:=aC (w.alloc (ζ (vA (ψ a.length (ς ν 0 0))) 114));have V:Mx w c c 114 118 n a.length w2 [] []:=by rw[A,<-iG];exact Mx.new w n a.length (by decide)
 have D:=fun w=>afA (n:=a.length) hS w
 have E:=fun w=>ahH (n:=n) hN w
 have HC:Hid (∀wr,φ c w wr->∀(j:Nat)r,a[j]?=ο r->∃g R xc,ca=ο ⟨g,0,ν⟩/\wr.cell? ⟨g,j,ν⟩=ο (ς R n xc)/\∀q,φ c w q->∀(k:Nat)x,r[k]?=ο x->∃h v,R=ο ⟨h,0,ν⟩/\q.cell? ⟨h,k*2,ν⟩=ο (ι ξ (x.1:Int))/\q.cell? ⟨h,k*2+1,ν⟩=ο v/\jX q v x.2):=fun wr y j r hr=>by
  rw[<-iG]at y|-;obtain⟨g,e,v,h1,R,xc,h2,h3⟩:=S j r hr;rw[j9]at h1;rw[Y r (cM hr)]at h2;subst h2;refine⟨g,R,xc,e,aU y h1,fun q H k x hx=>?_⟩;obtain⟨h,e2,h4,v,h5,h6⟩:=h3 k x hx;exact⟨h,v,e2,aU H h4,aU H h5,h6.keep H⟩
 have H0:Hid (∃f,f.length=0/\Mx w c c 114 118 n a.length w2 f (((a.take 0).map (List.map Tb.iZ)).map (List.flatMap fI))):=⟨[],rfl,V⟩;have HG:Hid _:=iG;clear S V;go_enter func15,ntmps15;go_upto_region 2 with (simp only[D])
 rw[<-A];clear A iG;go_wp2_with fail
 go_loopw [15] (fun i wr=>∃j:Nat,j<=a.length/\i=ι ξ (j:Int)/\Hid (∃f,f.length=j/\Mx w c c 114 118 n a.length wr f (((a.take j).map (List.map Tb.iZ)).map (List.flatMap fI)))) (fun i _=>a.length - (intOf i).toNat)
 case atStart=>exact⟨0,by omega,rfl,H0⟩
 case round=>
  clear H0;obtain⟨j,hj,rfl,HI⟩:=hrel;obtain⟨f,t,l⟩:=HI.out;clear HI
  by_cases hjn:j<a.length
  ·have j1:(j:Int)<(a.length:Int):=by omega
   obtain⟨r,hr⟩:∃r,a[j]?=ο r:=⟨_,cG hjn⟩;obtain⟨g,R,xc,rfl,c1,hX⟩:=HC.out wr l.b j r hr;have K:=Y r (cM hr);have W:=hl r (cM hr);have Q:wr.cell? ⟨c,j,ν⟩=ο (ς ν 0 0):=by
    rw[l.out.cell,ie,eQ (by rw[dk];omega),dk,t,io,mi,du (by omega)]
   have dO:∀o,(wr.alloc o).cell? ⟨c,j,ν⟩=ο (ς ν 0 0):=fun o=>(cQ (w:=wr) (ed _ _ _ l.out.lt)).trans Q
   have fO:∀o,(wr.alloc o).frozen? ⟨c,j,ν⟩=ε:=fun o=>(l.out.alloc o).frozen j
   have hP:=l.push (by omega) ((ψ n ((0,0):Nat×Nat)).flatMap fI);rw[t]at hP;have HT:Hid (((a.take (j+1)).map (List.map Tb.iZ)).map (List.flatMap fI)=((a.take j).map (List.map Tb.iZ)).map (List.flatMap fI)++[(Tb.oz r n n).flatMap fI]):=by
    show _=_;rw[ki,hr,ee,ee];have:Tb.oz r n n=r.map Tb.iZ:=by
     unfold Tb.oz;rw[io,tU,fW,vn (by omega)]
    rw[this];rfl
   have L:(((a.take j).map (List.map Tb.iZ)).map (List.flatMap fI)).length=j:=by
    rw[dk,dk,fR];omega
   have B:Hid _:=L;have H1:Hid (∃f,f.length=j+1/\Mx w c c 114 118 n a.length ((wr.alloc (ζ ((ψ n ((0,0):Nat×Nat)).flatMap fI).toArray 118)).setCell ⟨c,j,ν⟩ (ς (ο ⟨wr.heap.size,0,ν⟩) n n)) f (((a.take j).map (List.map Tb.iZ)).map (List.flatMap fI)++[(Tb.oz r n 0).flatMap fI])):=⟨f++[wr.heap.size],by rw[cJ,t];rfl,hP⟩;have HX:Hid _:=hX;have Z:Hid (r.length=n/\∀x∈r,Tb.lone x=η):=⟨K,W⟩;clear l hP L HC t Y hl hX K W D;generalize ((a.take j).map (List.map Tb.iZ)).map (List.flatMap fI)=pr at HT B H1
   go_wp2_with (simp only[E])
   clear E Q dO fO c1
   go_loopw [28] (fun i wr=>∃k:Nat,k<=n/\i=ι ξ (k:Int)/\Hid (∃f,f.length=j+1/\Mx w c c 114 118 n a.length wr f (pr++[(Tb.oz r n k).flatMap fI]))) (fun i _=>n - (intOf i).toNat)
   case atStart=>exact⟨0,by omega,rfl,H1⟩
   case round=>
    clear H1;revert wr;intro q hrel;obtain⟨k,hk,rfl,HI⟩:=hrel;obtain⟨F,lU,l⟩:=HI.out;clear HI
    by_cases hkn:k<n
    ·have k1:(k:Int)<(n:Int):=by omega
     obtain⟨x,hx⟩:∃x,r[k]?=ο x:=⟨_,cG (by rw[Z.out.1];exact hkn)⟩;obtain⟨h,v,rfl,c1,c2,N⟩:=HX.out q l.b k x hx;have O:=Z.out.2 x (cM hx);obtain⟨P,X,rfl,zH⟩:=N;have N:jX q (ς P x.2.length X) x.2:=⟨P,X,rfl,zH⟩;clear zH;obtain⟨s,ps⟩:=x;simp only at c1 c2 N;obtain⟨I,aV⟩:=aC (q.alloc (ζ #[ι ξ (s:Int),ς P ps.length X] 116));obtain⟨bx,T⟩:=aF q.heap.size;have kX:aj I bx #[ι ξ (s:Int),ς P ps.length X] 116:=by rw[aV,<-T];exact aj.new ..
     have p:φ q.heap.size q I:=by rw[aV];exact(cV _ _).alloc (zL0) _
     have G:=l.move p;obtain⟨J,m⟩:∃g,F[j]?=ο g:=⟨_,cG (by omega)⟩;have zV:(pr++[(Tb.oz r n k).flatMap fI])[j]?=ο ((Tb.oz r n k).flatMap fI):=by
      rw[eQ (by rw[B.out];exact zL0),B.out,io];rfl
     have ab:=Tb.ai1 r (k:=k) Z.out.1 hk;obtain⟨z,H⟩:∃z,(Tb.oz r n k)[k]?=ο z:=⟨_,cG (by omega)⟩;obtain⟨f1,f2⟩:=JA _ _ _ H;have o1:=G.Cw m;have x1:=kX.a0;have x2:=kX.a1;have QT:=ahG (w:=I.drew) (pd:=d) (st:=(j:Int)) (tk:=(k:Int)) (s:=s) (N.keep (w':=I.drew) ⟨p.1,p.2,p.3,p.4,p.5⟩) O;obtain⟨C,y2,hy⟩:∃C y2,Tb.iZ (s,ps)=(C,y2):=⟨_,_,rfl⟩;rw[hy]at QT;simp only at QT;have HM:Hid (∀u,φ I.drew.heap.size I.drew u->u.cell? ⟨c,j,ν⟩=ο (ς (ο ⟨J,0,ν⟩) n n)/\u.cell? ⟨J,k*2,ν⟩=ο (ι ξ (z.1:Int))/\u.cell? ⟨J,k*2+1,ν⟩=ο (ι ξ (z.2:Int))/\(∀i,u.frozen? ⟨J,i,ν⟩=ε)/\∃f,f.length=j+1/\Mx w c c 114 118 n a.length ((u.setCell ⟨J,k*2,ν⟩ (ι ξ (C:Int))).setCell ⟨J,k*2+1,ν⟩ (ι ξ (y2:Int))) f (pr++[(Tb.oz r n (k+1)).flatMap fI])):=fun u y=>by
      have M:=G.move (W':=u) ⟨y.1,y.2,y.3,y.4,y.5⟩;refine⟨M.Cw m,by rw[M.Fu m zV];exact f1,by rw[M.Fu m zV];exact f2,fun i=>M.frozen m i,F,lU,?_⟩;have h6:=M.set (k:=k*2) m zV (ι ξ (C:Int));have aa:((pr++[(Tb.oz r n k).flatMap fI]).set j (((Tb.oz r n k).flatMap fI).set (k*2) (ι ξ (C:Int))))[j]?=ο (((Tb.oz r n k).flatMap fI).set (k*2) (ι ξ (C:Int))):=by
       rw[g8,du rfl,du (by rw[cJ,B.out];show j<j+1;omega)]
      have h7:=h6.set (k:=k*2+1) m aa (ι ξ (y2:Int));rw[List.set_set]at h7;have e:=Y8 (Tb.oz r n k) k (C,y2);simp only at e;rw[e]at h7;have e2:=Tb.ai0 hx hkn;rw[hy]at e2;rw[e2,nn _ _ (by rw[B.out];exact zL0),B.out,io,n7]at h7;exact h7
     have d0:(0:Int)<=(j:Int):=by omega
     have d1:(0:Int)<=(k:Int):=by omega
     clear l G p N kX O zV ab H f1 f2 m lU hy HX Z hx;go_upto_region 9 with fail
     rw[<-aV];clear aV T c1 c2
     go_region_law (refine eZ rfl 37 #[d,ι ξ (j:Int),ι ξ (k:Int),γ #[ι ξ (s:Int),ς P ps.length X]] (by go_simp) QT ?_;rintro e u⟨rfl,U⟩;refine⟨_,rfl,?_⟩;obtain⟨m1,m2,m3,m4,HN⟩:=HM.out u U;clear QT U HM)
     all_goals
      have Fp:Hid _:=HN;clear HN;go_wp2_with fail;exact⟨⟨k+1,by omega,by go_num,Fp⟩,by simp[intOf];omega⟩
    ·obtain rfl:k=n:=by omega
     have HE:Hid (∃f,f.length=j+1/\Mx w c c 114 118 k a.length q f (((a.take (j+1)).map (List.map Tb.iZ)).map (List.flatMap fI))):=⟨F,lU,by rw[HT.out];exact l⟩;clear l lU HT HX Z B;go_wp2_with fail;exact⟨⟨j+1,by omega,by go_num,HE⟩,by simp[intOf];omega⟩
  ·obtain rfl:j=a.length:=by omega
   rw[ff]at l;have HR:Hid (XO w (a.map (List.map Tb.iZ)) (δ (ς (ο ⟨c,0,ν⟩) a.length a.length)) wr):=⟨_,rfl,l.rows t (by rw[dk]) (fun r hr=>by
    obtain⟨r0,h0,rfl⟩:=fk.1 hr;rw[dk];exact Y r0 h0) (fun i g r k x hg hr hx=>by
     obtain⟨f1,f2⟩:=JA _ _ _ hx;have:=fun k=>l.Fu (k:=k) hg (r:=r.flatMap fI) (by rw[dj,hr];rfl)
     exact⟨(this _).trans f1,(this _).trans f2⟩),by rw[HG.out];exact l.b⟩
   clear l t HC Y hl D E;go_wp2_with fail;go_ret;exact HR.out
namespace Tb
def at2{α:Type}(R:List (List α))(i t:Nat):Option α:=match R[i]? with
 |some r=>r[t]?
 |none=>ν
theorem FV{α:Type}{R:List (List α)}{x:α}(h:at2 R i t=ο x):∃r,R[i]?=ο r/\r[t]?=ο x:=by
 unfold at2 at h
 split at h
 ·exact⟨_,by assumption,h⟩
 ·cases h
theorem Oz{α:Type}{R:List (List α)}{r:List α}{x:α}(h:R[i]?=ο r)(a:r[t]?=ο x):at2 R i t=ο x:=by
 unfold at2;rw[h];exact a
theorem JB{α:Type}{R:List (List α)}{b a:Nat}{x y:α}(h:at2 R i t=ο y):at2 (setAt R i t x) b a=if b=i/\a=t then ο x else at2 R b a:=by
 obtain⟨r,c,g⟩:=FV h;have d:=(cH.1 c).1;have f:=(cH.1 g).1;unfold setAt at2;rw[c];simp only;rw[g8]
 by_cases e:i=b
 ·subst e
  rw[du rfl,du d,c];simp only;rw[g8]
  by_cases e2:t=a
  ·subst e2
   rw[du rfl,du f,du (by simp)]
  ·rw[dt e2,dt fun h=>e2 h.2.symm]
 ·rw[dt e,dt fun h=>e h.1.symm]
theorem ab6{α β:Type}(f:α->β)(R:List (List α))(i t:Nat):at2 (R.map (List.map f)) i t=(at2 R i t).map f:=by
 unfold at2;rw[dj];cases R[i]? with
 |none=>rfl
 |some r=>exact dj
theorem Zy{α β:Type}(f:α->β)(R:List (List α))(i t:Nat)(x:α):(setAt R i t x).map (List.map f)=setAt (R.map (List.map f)) i t (f x):=by
 unfold setAt;rw[dj];cases R[i]? with
 |none=>rfl
 |some r=>
  show (R.set i (r.set t x)).map (List.map f)=(R.map (List.map f)).set i ((r.map f).set t (f x));rw[oR,oR]
end Tb
abbrev gG:=Nat×List Nat×υ
def mM(x:gG):List υ:=[ι ξ (x.1:Int),x.2.2]
def iU(x:gG):Nat×List Nat:=(x.1,x.2.1)
theorem Ol:∀(l:List gG)(i:Nat)(x:gG),l[i]?=ο x->(l.flatMap mM)[i*2]?=ο (ι ξ (x.1:Int))/\(l.flatMap mM)[i*2+1]?=ο x.2.2
 | [],_,_,h=>by simp at h
 |y::l,0,x,h=>by
  cases h;exact⟨rfl,rfl⟩
 |y::l,i+1,x,h=>by
  have:=Ol l i x (by simpa using h);rw[eS,show (i+1)*2=i*2+1+1 by omega];exact this
theorem RH:∀(l:List gG)(k:Nat)(x:gG),l[k]?=ο x->∀(s:Nat)(v:υ)(ps:List Nat),(l.flatMap mM).set (k*2) (ι ξ (s:Int))=(l.set k (s,x.2.1,x.2.2)).flatMap mM/\(l.flatMap mM).set (k*2+1) v=(l.set k (x.1,ps,v)).flatMap mM
 | [],k,x,h=>by simp at h
 |y::l,0,x,h=>fun s v ps=>by
  cases h;exact⟨rfl,rfl⟩
 |y::l,k+1,x,h=>fun s v ps=>by
  obtain⟨h1,h2⟩:=RH l k x (by simpa using h) s v ps;rw[ox,ox,eS,eS,eS,<-h1,<-h2,show (k+1)*2=k*2+1+1 by omega];exact⟨rfl,rfl⟩
structure dF(w0:ω)(B gO n N:Nat)(W:ω)(gs:List Nat)(D:List (List gG)):Prop where
 mx:Mx w0 B gO 113 116 n N W gs (D.map (List.flatMap mM))
 own:∀(i t:Nat)(x:gG),Tb.at2 D i t=ο x->W.ownsRow B 3 1 x.2.2 x.2.1.length (x.2.1.map bA)
 ne:∀(i t i' t':Nat)(x x':gG),Tb.at2 D i t=ο x->Tb.at2 D i' t'=ο x'->¬(i'=i/\t'=t)->∀g,x.2.2.ownBlock=ο g->x'.2.2.ownBlock≠ο g
 rl:∀r∈D,r.length=n
section
variable{w0 W W':ω}{B gO n N:Nat}{gs:List Nat}{D:List (List gG)}
theorem dF.len(h:dF w0 B gO n N W gs D):D.length=gs.length:=by have:=h.mx.len;rwa [dk]at this
theorem dF.kg(h:dF w0 B gO n N W gs D){g:Nat}(b:g∈gs):Kd W g 116:=by
 obtain⟨i,c⟩:=fb.1 b;obtain⟨r,-,a⟩:=h.mx.rowAt c;exact⟨_,a⟩
theorem dF.ko(h:dF w0 B gO n N W gs D):Kd W gO 113:=⟨_,h.mx.out⟩
theorem dF.kv(h:dF w0 B gO n N W gs D){g:Nat}{x:gG}(b:Tb.at2 D i t=ο x)(a:x.2.2.ownBlock=ο g):Kd W g 3:=bJ (h.own i t x b) a
theorem dF.move(h:dF w0 B gO n N W gs D)(b:φ W.heap.size W W'):dF w0 B gO n N W' gs D :=
 ⟨h.mx.move b,fun i t x a=>ay (h.own i t x a) fun g c=>b.block g (h.kv a c).lt,h.ne,h.rl⟩
theorem dF.cells(h:dF w0 B gO n N W gs D){g:Nat}{x:gG}(c:gs[i]?=ο g)(d:Tb.at2 D i t=ο x):W.cell? ⟨g,t*2,ν⟩=ο (ι ξ (x.1:Int))/\W.cell? ⟨g,t*2+1,ν⟩=ο x.2.2:=by
 obtain⟨r,f,b⟩:=Tb.FV d;obtain⟨f1,f2⟩:=Ol r t x b;have a:(D.map (List.flatMap mM))[i]?=ο (r.flatMap mM):=by rw[dj,f];rfl
 exact⟨(h.mx.Fu c a).trans f1,(h.mx.Fu c a).trans f2⟩
theorem Tb.ab7{α:Type}{D:List (List α)}{r:List α}{x:α}(h:at2 (D++[r]) i t=ο x):at2 D i t=ο x\/(i=D.length/\r[t]?=ο x):=by
 obtain⟨c,a,b⟩:=FV h;rw[kh]at a
 split at a
 ·exact .inl (Oz a b)
 ·rename_i d
  have:=(cH.1 a).1;simp at this;have e:i-D.length=0:=by omega
  rw[e]at a;cases a;exact .inr ⟨by omega,b⟩
theorem dF.push(h:dF w0 B gO n N W gs D)(j:gs.length<N):dF w0 B gO n N ((W.alloc (ζ ((ψ n ((0,[],ς ν 0 0):gG)).flatMap mM).toArray 116)).setCell ⟨gO,gs.length,ν⟩ (ς (ο ⟨W.heap.size,0,ν⟩) n n)) (gs++[W.heap.size]) (D++[ψ n ((0,[],ς ν 0 0):gG)]):=by
 have f:∀{i t:Nat}{x:gG},Tb.at2 (D++[ψ n ((0,[],ς ν 0 0):gG)]) i t=ο x->Tb.at2 D i t=ο x\/(x.2.1=[]/\x.2.2=ς ν 0 0):=fun hx=>by
  rcases Tb.ab7 hx with hx|⟨-,hx⟩
  ·exact .inl hx
  ·have:=mA (cM hx)
   rw[this];exact .inr ⟨rfl,rfl⟩
 refine⟨?_,fun i t x hx=>?_,fun i t m k x o hx a d g b=>?_,fun r c=>?_⟩
 ·have:=h.mx.push j ((ψ n ((0,[],ς ν 0 0):gG)).flatMap mM)
  rw[ee];exact this
 ·rcases f hx with hx | ⟨l,p⟩
  ·exact ay (h.own i t x hx) fun g b=>(aY _ _ ((h.kv hx b).ne h.ko (by decide))).trans (ed _ _ _ (h.kv hx b).lt)
  ·rw[l,p]
   exact eV _ _ _ _
 ·rcases f hx with hx | ⟨-,e⟩
  ·rcases f a with a | ⟨-,e⟩
   ·exact h.ne i t m k x o hx a d g b
   ·rw[e]
    exact fun h=>by cases h
  ·rw[e]at b
   cases b
 ·rw[dq,dd]at c
  rcases c with c|rfl
  ·exact h.rl r c
  ·exact js ..
theorem dF.shift(h:dF w0 B gO n N W gs D){g:Nat}{x:gG}(hg:gs[i]?=ο g)(c:Tb.at2 D i t=ο x)(s:Nat):dF w0 B gO n N (W.setCell ⟨g,t*2,ν⟩ (ι ξ (s:Int))) gs (Tb.setAt D i t (s,x.2.1,x.2.2)):=by
 obtain⟨r,o,m⟩:=Tb.FV c;have l:(D.map (List.flatMap mM))[i]?=ο (r.flatMap mM):=by rw[dj,o];rfl
 refine⟨?_,fun v p I a=>?_,fun u t1 q t2 x1 x2 h1 h2 f z b=>?_,Tb.Sv h.rl⟩
 ·have:=h.mx.set (k:=t*2) hg l (ι ξ (s:Int))
  rw[(RH r t x m s undef []).1]at this;unfold Tb.setAt;rw[o];simp only;rw[oR];exact this
 ·have d:∀{v p:Nat}{y:gG}(j:Tb.at2 D v p=ο y),(W.setCell ⟨g,t*2,ν⟩ (ι ξ (s:Int))).ownsRow B 3 1 y.2.2 y.2.1.length (y.2.1.map bA):=fun j=>ay (h.own _ _ _ j) fun z b=>aY _ _ ((h.kv j b).ne (h.kg (cM hg)) (by decide))
  rw[Tb.JB c]at a
  split at a
  ·cases a
   have:=@d i t x c;exact this
  ·exact d a
 ·rw[Tb.JB c]at h1 h2
  have A:∃y,Tb.at2 D u t1=ο y/\y.2.2=x1.2.2:=by
   split at h1
   ·rename_i e
    cases h1;rw[e.1,e.2];exact⟨x,c,rfl⟩
   ·exact⟨_,h1,rfl⟩
  have G:∃y,Tb.at2 D q t2=ο y/\y.2.2=x2.2.2:=by
   split at h2
   ·rename_i e
    cases h2;rw[e.1,e.2];exact⟨x,c,rfl⟩
   ·exact⟨_,h2,rfl⟩
  obtain⟨F,a1,C⟩:=A;obtain⟨H,a2,E⟩:=G;rw[<-E];rw[<-C]at b;exact h.ne u t1 q t2 F H a1 a2 f z b
theorem dF.app(h:dF w0 B gO n N W gs D){g:Nat}{x:gG}(hg:gs[i]?=ο g)(o:Tb.at2 D i t=ο x)(l:W.grownBy W' x.2.2.ownBlock)(K:W'.ownsRow B 3 1 v (x.2.1++[p]).length ((x.2.1++[p]).map bA))(G:v.ownBlock=x.2.2.ownBlock\/∃k,v.ownBlock=ο k/\W.heap.size<=k):dF w0 B gO n N (W'.setCell ⟨g,t*2+1,ν⟩ v) gs (Tb.setAt D i t (x.1,x.2.1++[p],v)):=by
 obtain⟨r,L,I⟩:=Tb.FV o;have S:=cM hg;have H:(D.map (List.flatMap mM))[i]?=ο (r.flatMap mM):=by rw[dj,L];rfl
 have z:Mx w0 B gO 113 116 n N W' gs (D.map (List.flatMap mM)):=h.mx.keep (fun k C=>by
  rcases C with rfl|C
  ·exact l.block k h.ko.lt fun e=>h.ko.ne (h.kv o e.symm) (by decide) rfl
  ·exact l.block k (h.kg C).lt fun e=>(h.kg C).ne (h.kv o e.symm) (by decide) rfl) (h.mx.b.grown l h.mx.size fun k e=>((h.own i t x o).lt k e).1)
 have A:Kd W' g 116:=by
  obtain⟨T,-,P⟩:=z.rowAt hg;exact⟨_,P⟩
 have E:∀{u s:Nat}{y:gG},Tb.at2 D u s=ο y->¬(u=i/\s=t)->(W'.setCell ⟨g,t*2+1,ν⟩ v).ownsRow B 3 1 y.2.2 y.2.1.length (y.2.1.map bA):=fun q d=>ay (h.own _ _ _ q) fun f c=>by
  have m:=l.block f (h.kv q c).lt fun e=>h.ne _ _ _ _ _ _ o q d f e.symm c
  have Q:Kd W' f 3:=by obtain⟨F,R⟩:=h.kv q c;exact⟨F,m.trans R⟩
  exact(aY _ _ (Q.ne A (by decide))).trans m
 have M:∀{u s f:Nat}{y:gG},Tb.at2 D u s=ο y->¬(u=i/\s=t)->y.2.2.ownBlock=ο f->v.ownBlock≠ο f:=fun q d c e=>by
  rcases G with G|⟨k,J,O⟩
  ·exact h.ne _ _ _ _ _ _ o q d _ (G▸e) c
  ·rw[e]at J
   cases J;have:=(h.kv q c).lt;omega
 refine⟨?_,fun u s V j=>?_,fun X t1 U t2 x1 x2 h1 h2 d f c=>?_,Tb.Sv h.rl⟩
 ·have:=z.set (k:=t*2+1) hg H v
  rw[(RH r t x I 0 v (x.2.1++[p])).2]at this;unfold Tb.setAt;rw[L];simp only;rw[oR];exact this
 ·rw[Tb.JB o]at j
  split at j
  ·cases j
   exact ay K fun f c=>aY _ _ ((show Kd W' f 3 from bJ K c).ne A (by decide))
  ·rename_i d
   exact E j d
 ·rw[Tb.JB o]at h1 h2
  split at h1
  ·rename_i m
   cases h1;rw[dt (by rintro⟨a,b⟩;exact d ⟨a.trans m.1.symm,b.trans m.2.symm⟩)]at h2;intro e;exact M h2 (by rintro⟨a,b⟩;exact d ⟨a.trans m.1.symm,b.trans m.2.symm⟩) e c
  ·rename_i m
   split at h2
   ·cases h2
    exact M h1 m c
   ·exact h.ne _ _ _ _ _ _ h1 h2 d f c
end
namespace Tb
abbrev CH:=List (List (Nat×List Nat))
def Px(C:CH)(i t p:Nat):CH:=match at2 C i t with
 |some x=>setAt C i t (x.1,x.2++[p])
 |none=>C
def GQ(C:CH)(i t s:Nat):CH:=match at2 C i t with
 |some x=>setAt C i t (s,x.2)
 |none=>C
def uO(C:CH)(i p:Nat)(ts:List Nat):Nat->CH
 |0=>C
 |k+1=>match ts[k]? with
  |some t=>Px (uO C i p ts k) i t p
  |none=>uO C i p ts k
def uP(C:CH)(i:Nat)(l:List (Nat×List Nat)):Nat->CH
 |0=>C
 |k+1=>match l[k]? with
  |some x=>uO (uP C i l k) i x.1 x.2 x.2.length
  |none=>uP C i l k
def sO(A:CH)(n:Nat):Nat->CH
 |0=>[]
 |j+1=>match A[j]? with
  |some l=>uP (sO A n j++[ψ n (0,[])]) j l l.length
  |none=>sO A n j
def uQ(C:CH)(es:List (Nat×Nat×Nat))(n:Nat):Nat->CH
 |0=>C
 |k+1=>match es[k]? with
  |some e=>if e.2.1<n then GQ (uQ C es n k) e.1 e.2.1 e.2.2 else uQ C es n k
  |none=>uQ C es n k
def choices(A:CH)(es:List (Nat×Nat×Nat))(n:Nat):CH:=uQ (sO A n A.length) es n es.length
end Tb
theorem Tryz.alF:(prog.info? 113).map (fun i=>(i.zero,i.size,i.bytes))=ο (ο (.slice ν 0 0),1,24):=by kernel_rfl
theorem Tryz.alG:(prog.info? 116).map (fun i=>(i.zero,i.size,i.bytes))=ο (ο (.agg #[.int ξ 0,.slice ν 0 0]),2,32):=by kernel_rfl
theorem agJ(g:n<=100000)(w:ω):(Instr.makeSlice 59 (ι ξ (n:Int)) (ι ξ (n:Int))).run prog w=.ok (ς (ο ⟨w.heap.size,0,ν⟩) n n) (w.alloc (ζ (vA (ψ n (ς ν 0 0))) 113)):=by
 obtain⟨d,f,b,c,a⟩:=ft Tryz.alF;have h:=qh (P:=prog) w 59 113 d _ (by kernel_rfl) f b ξ ξ (n:Int) (n:Int) (by omega) (oX _) (by rw[a];omega) (by omega);rw[h,ij,c];have e:Value.cells (ς ν 0 0)=#[ς ν 0 0]:=rfl;rw[e,Sw]
def Fw(n:Nat):List υ:=(ψ n ((0,[],ς ν 0 0):gG)).flatMap mM
theorem alH(n:Nat):∀i,i<n*2->(Fw n)[i]?=ο (if i % 2=0 then ι ξ 0 else ς ν 0 0):=fun i a=>by
 have h:(ψ n ((0,[],ς ν 0 0):gG))[i / 2]?=ο (0,[],ς ν 0 0):=by rw[mi,du (by omega)]
 obtain⟨f1,f2⟩:=Ol _ _ _ h
 by_cases e:i % 2=0
 ·rw[du e,show i=i / 2*2 by omega]
  exact f1
 ·rw[dt e,show i=i / 2*2+1 by omega]
  exact f2
theorem TR(n:Nat):(Fw n).length=n*2:=by
 unfold Fw
 induction n with
 |zero=>rfl
 |succ n ih=>
  rw[oi,eS,cJ,ih];show 2+n*2=_;omega
theorem akp(k:n<=100000)(w:ω):(Instr.makeSlice 113 (ι ξ (n:Int)) (ι ξ (n:Int))).run prog w=.ok (ς (ο ⟨w.heap.size,0,ν⟩) n n) (w.alloc (ζ (Fw n).toArray 116)):=by
 obtain⟨d,g,b,c,a⟩:=ft Tryz.alG;have h:=qh (P:=prog) w 113 116 d _ (by kernel_rfl) g b ξ ξ (n:Int) (n:Int) (by omega) (oX _) (by rw[a];omega) (by omega);rw[h,ij,c];have e:Value.cells (γ #[ι ξ 0,ς ν 0 0])=#[ι ξ 0,ς ν 0 0]:=rfl;rw[e];have j:madeCells #[ι ξ 0,ς ν 0 0] (n*2)=(Fw n).toArray:=by
  unfold madeCells;apply rK
  ·simp[TR]
  ·intro i h1 h2
   have h3:i<n*2:=by simpa [TR]using h2
   have h4:=alH n i h3;have f:(Fw n).toArray[i]=if i % 2=0 then ι ξ 0 else ς ν 0 0:=by
    rw[cG (by rw[TR];exact h3)]at h4;simpa using h4
   rw[f];have:i % 2=0\/i % 2=1:=by omega
   rcases this with e|e <;> simp[e]
 rw[j]
section
variable{w0 W W':ω}{B gO n N:Nat}{gs:List Nat}{D:List (List gG)}
theorem dF.at(h:dF w0 B gO n N W gs D)(b:i<gs.length)(c:t<n):∃x,Tb.at2 D i t=ο x:=by
 obtain⟨r,hr⟩:∃r,D[i]?=ο r:=⟨_,cG (by rw[h.len];exact b)⟩;have a:=h.rl r (cM hr);exact⟨_,Tb.Oz hr (cG (by omega))⟩
theorem Tb.akq{x:gG}(a:Tb.at2 D i t=ο x):(Tb.setAt D i t (x.1,x.2.1++[p],v)).map (List.map iU)=Tb.Px (D.map (List.map iU)) i t p:=by
 rw[Tb.Zy];unfold Tb.Px;rw[Tb.ab6,a];rfl
theorem Tb.akr{s:Nat}{x:gG}(a:Tb.at2 D i t=ο x):(Tb.setAt D i t (s,x.2.1,x.2.2)).map (List.map iU)=Tb.GQ (D.map (List.map iU)) i t s:=by
 rw[Tb.Zy];unfold Tb.GQ;rw[Tb.ab6,a];rfl
theorem dF.rows(h:dF w0 B gO n N W gs D)(d:gs.length=N):qA W (ς (ο ⟨gO,0,ν⟩) N N) (D.map (List.map iU)) :=
 h.mx.rows d (by rw[dk,h.len,d]) (fun r a=>by
  obtain⟨c,j,rfl⟩:=fk.1 a;rw[dk];exact h.rl c j) fun i g r k x l a b=>by
  rw[dj]at a;cases hr0:D[i]? with
  |none=>rw[hr0]at a;cases a
  |some c=>
   rw[hr0]at a;cases a;rw[dj]at b;cases hx0:c[k]? with
   |none=>rw[hx0]at b;cases b
   |some x0=>
    rw[hx0]at b;cases b;have h2:=Tb.Oz hr0 hx0;obtain⟨m,f⟩:=h.cells l h2;exact⟨m,_,f,jX.own (h.own i k x0 h2)⟩
end
def ChT(B S:Nat)(w:ω)(v:υ)(C:Tb.CH):Prop:=∃ca cc,v=ς ca C.length cc/\∀wr:ω,(∀k,B<=k->k<S->wr.heap[k]?=w.heap[k]?)->∀(j:Nat)r,C[j]?=ο r->∃g xa xc,ca=ο ⟨g,0,ν⟩/\wr.cell? ⟨g,j,ν⟩=ο (ς xa r.length xc)/\∀wz:ω,(∀k,B<=k->k<S->wz.heap[k]?=w.heap[k]?)->∀(k:Nat)x,r[k]?=ο x->∃h v,xa=ο ⟨h,0,ν⟩/\wz.cell? ⟨h,k*2,ν⟩=ο (ι ξ (x.1:Int))/\wz.cell? ⟨h,k*2+1,ν⟩=ο v/\jX wz v x.2/\∀g m c,v=ς (ο ⟨g,0,ν⟩) m c->B<=g/\g<S
section
variable{w0 W W':ω}{B gO n N:Nat}{gs:List Nat}{D:List (List gG)}
theorem dF.off(h:dF w0 B gO n N W gs D)(a:∀k,B<=k->k<W.heap.size->W'.heap[k]?=W.heap[k]?):dF W' B gO n N W' gs D :=
 ⟨⟨(a _ h.mx.no h.mx.out.lt).trans h.mx.out,h.mx.len,fun i g r hg c=>(a g (h.mx.lo g (cM hg)) (h.mx.lt (cM hg))).trans (h.mx.row i g r hg c),h.mx.nd,h.mx.lo,h.mx.no,cV _ _,h.mx.ne,h.mx.le⟩,fun i t x b=>ay (h.own i t x b) fun g hg=>a g ((h.own i t x b).lt g hg).1 (h.kv b hg).lt,h.ne,h.rl⟩
theorem dF.uO(h:dF w0 B gO n N W gs D)(s:gs.length=N):ChT B W.heap.size W (ς (ο ⟨gO,0,ν⟩) N N) (D.map (List.map iU)):=by
 refine⟨_,N,by rw[dk,h.len,s],fun wr q j r b=>?_⟩;rw[dj]at b;cases hj0:D[j]? with
 |none=>rw[hj0]at b;cases b
 |some r0=>
  rw[hj0]at b;cases b;obtain⟨g,f⟩:∃g,gs[j]?=ο g:=⟨_,cG (by rw[<-h.len];exact(cH.1 hj0).1)⟩;refine⟨gO,ο ⟨g,0,ν⟩,n,rfl,?_,fun u l k x a=>?_⟩
  ·rw[(h.off q).mx.Cw f,dk,h.rl r0 (cM hj0)]
  ·rw[dj]at a
   cases hx0:r0[k]? with
   |none=>rw[hx0]at a;cases a
   |some x0=>
    rw[hx0]at a;cases a;have h2:=Tb.Oz hj0 hx0;obtain⟨t,o⟩:=(h.off l).cells f h2;refine⟨g,_,rfl,t,o,jX.own ((h.off l).own j k x0 h2),fun i m c e=>?_⟩;have p:=h.own j k x0 h2;have d:x0.2.2.ownBlock=ο i:=by rw[e];rfl
    exact⟨(p.lt i d).1,(h.kv h2 d).lt⟩
end
def XP(w:ω)(C:Tb.CH)(e:Ending)(w':ω):Prop:=∃v,e=δ v/\qA w' v C/\φ w.heap.size w w'/\ChT w.heap.size w'.heap.size w' v C
theorem afB{va ve:υ}{A:Tb.CH}{z:List (Nat×Nat×Nat)}(ha:qA w va A)(he:lM w ve z)(hS:A.length<=100000)(hN:n<=100000)(hx:∀l∈A,l.length<=1000000/\∀x∈l,x.2.length<=1000000/\∀t∈x.2,t<n)(a9:z.length<=1000000000)(am:∀e∈z,e.1<A.length):χ prog 16 #[va,ve,ι ξ (n:Int)] w (XP w (Tb.choices A z n)):=by
 obtain⟨aa,ac,rfl,al⟩:=ha;obtain⟨ea,ec,rfl,Dp⟩:=he;obtain⟨i3,ax,Ec,Ed,an⟩:=ft Tryz.info3';obtain⟨a,iG⟩:=aF w.heap.size;obtain⟨w2,ab⟩:=aC (w.alloc (ζ (vA (ψ A.length (ς ν 0 0))) 113));have ah:dF w a a n A.length w2 [] []:=⟨by rw[ab,<-iG];exact Mx.new w n A.length (by decide),fun i t x h=>by simp[Tb.at2]at h,fun i t i' t' x x' h=>by simp[Tb.at2]at h,fun r hr=>by cases hr⟩;have ao:=fun w=>agJ (n:=A.length) hS w
 have ae:=fun w=>akp (n:=n) hN w
 have HA:Hid (∀wr,φ a w wr->∀(j:Nat)l,A[j]?=ο l->∃g xa xc,aa=ο ⟨g,0,ν⟩/\wr.cell? ⟨g,j,ν⟩=ο (ς xa l.length xc)/\∀I,φ a w I->∀(k:Nat)x,l[k]?=ο x->∃h V R,xa=ο ⟨h,0,ν⟩/\I.cell? ⟨h,k*2,ν⟩=ο (ι ξ (x.1:Int))/\I.cell? ⟨h,k*2+1,ν⟩=ο (ς V x.2.length R)/\∀f,φ a w f->∀(m:Nat)t,x.2[m]?=ο t->∃b,V=ο ⟨b,0,ν⟩/\f.cell? ⟨b,m,ν⟩=ο (ι ξ (t:Int))):=fun wr hb j l hl=>by
  rw[<-iG]at hb|-;obtain⟨g,e,v,h1,xa,xc,rfl,h3⟩:=al j l hl;rw[j9]at h1;refine⟨g,xa,xc,e,aU hb h1,fun I hz k x hx=>?_⟩;obtain⟨h,e2,h4,v,h5,V,R,rfl,h6⟩:=h3 k x hx;refine⟨h,V,R,e2,aU hz h4,aU hz h5,fun f hy m t ht=>?_⟩;obtain⟨b,e3,h7⟩:=h6 m t ht;unfold iQ at h7;rw[j9]at h7;exact⟨b,e3,aU hy h7⟩
 have HE:Hid (∀wr,φ a w wr->∀(j:Nat)x,z[j]?=ο x->∃g,ea=ο ⟨g,0,ν⟩/\wr.cell? ⟨g,j*3,ν⟩=ο (ι ξ (x.1:Int))/\wr.cell? ⟨g,j*3+1,ν⟩=ο (ι ξ (x.2.1:Int))/\wr.cell? ⟨g,j*3+2,ν⟩=ο (ι ξ (x.2.2:Int))):=fun wr hb j x hx=>by
  rw[<-iG]at hb;obtain⟨g,e,h1,h2,h3⟩:=Dp j x hx;exact⟨g,e,aU hb h1,aU hb h2,aU hb h3⟩
 have H0:Hid (∃c D,c.length=0/\dF w a a n A.length w2 c D/\D.map (List.map iU)=Tb.sO A n 0):=⟨[],[],rfl,ah,rfl⟩;have HG:Hid _:=iG;obtain⟨U,ap⟩:∃M:Nat,M=1000000:=⟨_,rfl⟩;have ai:Hid _:=ap;clear ap;clear al Dp ah;go_enter func16,ntmps16;go_upto_region 2 with (simp only[ao])
 rw[<-ab];clear ab iG ao;go_wp2_with fail
 go_loopw [22] (fun i wr=>∃j:Nat,j<=A.length/\i=ι ξ (j:Int)/\Hid (∃c D,c.length=j/\dF w a a n A.length wr c D/\D.map (List.map iU)=Tb.sO A n j)) (fun i _=>A.length - (intOf i).toNat)
 case atStart=>exact⟨0,by omega,rfl,H0⟩
 case round=>
  clear H0;obtain⟨j,hj,rfl,O⟩:=hrel;obtain⟨c,D,G,d,y⟩:=O.out;clear O
  by_cases hjn:j<A.length
  ·have j1:(j:Int)<(A.length:Int):=by omega
   obtain⟨l,hl⟩:∃l,A[j]?=ο l:=⟨_,cG hjn⟩;obtain⟨g,xa,xc,rfl,W,hX⟩:=HA.out wr d.mx.b j l hl;have ad:=hx l (cM hl);have ak:wr.cell? ⟨a,j,ν⟩=ο (ς ν 0 0):=by
    rw[d.mx.out.cell,ie,eQ (by rw[dk];omega),dk,G,io,mi,du (by omega)]
   have dO:∀o,(wr.alloc o).cell? ⟨a,j,ν⟩=ο (ς ν 0 0):=fun o=>(cQ (w:=wr) (ed _ _ _ d.mx.out.lt)).trans ak
   have fO:∀o,(wr.alloc o).frozen? ⟨a,j,ν⟩=ε:=fun o=>(d.mx.out.alloc o).frozen j
   have hP:=d.push (by omega);rw[G]at hP;have hz:∀t x,Tb.at2 (D++[ψ n ((0,[],ς ν 0 0):gG)]) j t=ο x->x.2.1.length<=0*U:=fun t x hx=>by
    rcases Tb.ab7 hx with hx|⟨-,hx⟩
    ·obtain⟨r,hr,-⟩:=Tb.FV hx
     have:=(cH.1 hr).1;rw[d.len,G]at this;omega
    ·rw[mA (cM hx)]
     exact fi _
   have HS:Hid (Tb.sO A n (j+1)=Tb.uP (Tb.sO A n j++[ψ n (0,[])]) j l l.length):=by
    show _=_;rw[Tb.sO,hl]
   have H1:Hid (∃c D,c.length=j+1/\dF w a a n A.length ((wr.alloc (ζ (Fw n).toArray 116)).setCell ⟨a,j,ν⟩ (ς (ο ⟨wr.heap.size,0,ν⟩) n n)) c D/\D.map (List.map iU)=Tb.uP (Tb.sO A n j++[ψ n (0,[])]) j l 0/\∀t x,Tb.at2 D j t=ο x->x.2.1.length<=0*U):=⟨c++[wr.heap.size],_,by rw[cJ,G];rfl,hP,by rw[ee,y,Tb.uP,n8,List.map_replicate];rfl,hz⟩;have HX:Hid _:=hX;clear d hP HA HE G hX hx y hl am;generalize Tb.sO A n j++[ψ n (0,[])]=C0 at HS H1
   go_wp2_with (simp only[ae])
   clear ae ak dO fO W
   go_loopw [34] (fun i wr=>∃k:Nat,k<=l.length/\i=ι ξ (k:Int)/\Hid (∃c D,c.length=j+1/\dF w a a n A.length wr c D/\D.map (List.map iU)=Tb.uP C0 j l k/\∀t x,Tb.at2 D j t=ο x->x.2.1.length<=k*U)) (fun i _=>l.length - (intOf i).toNat)
   case atStart=>exact⟨0,by omega,rfl,H1⟩
   case round=>
    clear H1;revert wr;intro I hrel;obtain⟨k,hk,rfl,O⟩:=hrel;obtain⟨E,D2,K,d,y,hq⟩:=O.out;clear O
    by_cases hkn:k<l.length
    ·have k1:(k:Int)<(l.length:Int):=by omega
     obtain⟨x,hxk⟩:∃x,l[k]?=ο x:=⟨_,cG hkn⟩;obtain⟨h,V,R,rfl,W,c2,hT⟩:=HX.out I d.mx.b k x hxk;have Y:=ad.2 x (cM hxk);have N:Hid (Tb.uP C0 j l (k+1)=Tb.uO (Tb.uP C0 j l k) j x.1 x.2 x.2.length):=by
      show _=_;rw[Tb.uP,hxk]
     obtain⟨p,C⟩:=x;simp only at W c2 hT Y N;obtain⟨Z,P⟩:=aC (I.alloc (ζ #[ι ξ (p:Int),ς V C.length R] 122));obtain⟨Q,J⟩:=aF I.heap.size;have F:aj Z Q #[ι ξ (p:Int),ς V C.length R] 122:=by rw[P,<-J];exact aj.new ..
     have u:dF w a a n A.length Z E D2:=d.move (by rw[P];exact(cV _ _).alloc (zL0) _);have x2:=F.a1;have HT:Hid _:=hT;have H2:Hid (∃c D,c.length=j+1/\dF w a a n A.length Z c D/\D.map (List.map iU)=Tb.uO (Tb.uP C0 j l k) j p C 0/\aj Z Q #[ι ξ (p:Int),ς V C.length R] 122/\∀t x,Tb.at2 D j t=ο x->x.2.1.length<=k*U+0):=⟨E,D2,K,u,y,F,fun t x h=>by have:=hq t x h;omega⟩;clear d u hT F K y HX hxk hq;generalize Tb.uP C0 j l k=C1 at N H2;go_upto_region 9 with fail
     rw[<-P];clear P J W c2;go_wp2_with fail;clear x2
     go_loopw [41] (fun i wr=>∃m:Nat,m<=C.length/\i=ι ξ (m:Int)/\Hid (∃c D,c.length=j+1/\dF w a a n A.length wr c D/\D.map (List.map iU)=Tb.uO C1 j p C m/\aj wr Q #[ι ξ (p:Int),ς V C.length R] 122/\∀t x,Tb.at2 D j t=ο x->x.2.1.length<=k*U+m)) (fun i _=>C.length - (intOf i).toNat)
     case atStart=>exact⟨0,by omega,rfl,H2⟩
     case round=>
      clear H2;revert wr;intro f hrel;obtain⟨m,hm,rfl,O⟩:=hrel;obtain⟨Fx,D3,Py,d,y,F,hq⟩:=O.out;clear O
      by_cases hmn:m<C.length
      ·have m1:(m:Int)<(C.length:Int):=by omega
       obtain⟨t,ht⟩:∃t,C[m]?=ο t:=⟨_,cG hmn⟩;obtain⟨b,rfl,W⟩:=HT.out f d.mx.b m t ht;have ar:=Y.2 t (cM ht);obtain⟨x,hx⟩:=d.at (i:=j) (t:=t) (by omega) ar;obtain⟨L,q⟩:∃g,Fx[j]?=ο g:=⟨_,cG (by omega)⟩;obtain⟨rc,-,kG⟩:=d.mx.rowAt q;have o1:=d.mx.Cw q;have ag:=hq t x hx;have ho:=d.own j t x hx;obtain⟨-,d1⟩:=d.cells q hx;have EK:Hid (Tb.uO C1 j p C (m+1)=Tb.Px (Tb.uO C1 j p C m) j t p):=by
        show _=_;rw[Tb.uO,ht]
       obtain⟨s,B,v⟩:=x;simp only at d1 ho ag;obtain⟨oa,oc,rfl,-⟩:=aB ho;have lg:=kG.lt;have lx:=F.lt;have x1:=F.a0;have dA:∀o,(f.alloc o).cell? ⟨L,t*2+1,ν⟩=ο (ς oa B.length oc):=fun o=>(cQ (w:=f) (ed _ _ _ lg)).trans d1
       have xA:∀o,(f.alloc o).cell? ⟨Q,0,ν⟩=ο (ι ξ (p:Int)):=fun o=>(cQ (w:=f) (ed _ _ _ lx)).trans x1
       have o3:(f.alloc (ζ #[ι ξ (p:Int)] 3)).drew.ownsRow a 3 1 (ς oa B.length oc) B.length (B.map bA):=ay (ho.alloc (ζ #[ι ξ (p:Int)] 3)) fun _ _=>rfl
       have Li:aj (f.alloc (ζ #[ι ξ (p:Int)] 3)).drew L rc.toArray 116:=(kG.alloc _).drew;have aw:(ς oa B.length oc).ownBlock≠ο L:=fun e=>(d.kv hx e).ne (show Kd f L 116 from ⟨_,kG⟩) (by decide) rfl
       have av:a<=(f.alloc (ζ #[ι ξ (p:Int)] 3)).drew.heap.size:=cY d.mx.size (aM f _ ν).size;have dG:rc[t*2+1]?=ο (ς oa B.length oc):=by rw[<-d1,kG.cell,ie]
       have H9:Hid (∀S v9,f.grownBy S (ς oa B.length oc).ownBlock->S.ownsRow a 3 1 v9 (B++[p]).length ((B++[p]).map bA)->(v9.ownBlock=(ς oa B.length oc).ownBlock\/∃k,v9.ownBlock=ο k/\f.heap.size<=k)->∃c D,c.length=j+1/\dF w a a n A.length (S.setCell ⟨L,t*2+1,ν⟩ v9) c D/\D.map (List.map iU)=Tb.uO C1 j p C (m+1)/\aj (S.setCell ⟨L,t*2+1,ν⟩ v9) Q #[ι ξ (p:Int),ς (ο ⟨b,0,ν⟩) C.length R] 122/\∀t x,Tb.at2 D j t=ο x->x.2.1.length<=k*U+(m+1)):=fun S v9 aq kI LV=>by
        have hA:=d.app (p:=p) q hx aq kI LV;refine⟨Fx,_,Py,hA,by rw[EK.out,<-y];exact Tb.akq hx,?_,fun t' x' X=>?_⟩
        ·have kx:Kd f Q 122:=⟨_,F⟩
         exact(aY _ _ (kx.ne (show Kd f L 116 from ⟨_,kG⟩) (by decide))).trans ((aq.block Q lx fun e=>kx.ne (d.kv hx e.symm) (by decide) rfl).trans F)
        ·rw[Tb.JB hx]at X
         split at X
         ·cases X
          show (B++[p]).length<=_;rw[cJ,gw];omega
         ·have:=hq t' x' X
          omega
       have d0:(0:Int)<=(j:Int):=by omega
       have d2:(0:Int)<=(t:Int):=by omega
       have d3:(t:Int)<(n:Int):=by omega
       have aA:=ad.1;have az:B.length<=10000000000000:=by
        have h1:=Y.1;have h2:k*U<=1000000*1000000:=AD (by omega) (by rw[ai.out];exact zL0);omega
       clear d y Py hq ho hx q kG F EK HT ht ag ad HS N;go_upto_region 13 with fail
       go_region_law (refine step_append_lies _ rfl (.tmp 55) (.tmp 58) 47 rfl a 3 i3 _ 1 8 underlying47 ax Ec Ed an rfl (by decide) (.slice oa B.length oc) B.length (B.map bA) (by simp[Act.eval]) o3 ⟨f.heap.size,0,ν⟩ 1 1 [.int ξ (p:Int)] (by simp[Act.eval]) rfl (bQ (aj.new f _ 3).drew) (by simp[Value.oneCell']) (by decide) (by unfold maxLen;omega) (by omega) av _ rfl ?_;intro g9 bM S jE iC iY Co;have jy:=Li.grown iC (fun e=>aw e.symm);have c9:S.cell? ⟨L,t*2+1,ν⟩=ο (.slice oa B.length oc):=(by rw[jy.cell,ie];exact dG);have f9:=jy.frozen (t*2+1))
       all_goals
        have HN:Hid (∃c D,c.length=j+1/\dF w a a n A.length (S.setCell ⟨L,t*2+1,ν⟩ (ς (ο ⟨g9,0,ν⟩) (B.length+1) bM)) c D/\D.map (List.map iU)=Tb.uO C1 j p C (m+1)/\aj (S.setCell ⟨L,t*2+1,ν⟩ (ς (ο ⟨g9,0,ν⟩) (B.length+1) bM)) Q #[ι ξ (p:Int),ς (ο ⟨b,0,ν⟩) C.length R] 122/\∀t x,Tb.at2 D j t=ο x->x.2.1.length<=k*U+(m+1)):=H9.out S _ (aI (b:=(f.alloc (ζ #[ι ξ (p:Int)] 3)).drew) ⟨rfl,rfl,rfl,(aM f _ ν).size,fun i hi _=>ed _ _ _ hi⟩ iC) (by rw[cJ,ee];exact jE) (by
         rcases iY with e|e
         ·exact .inl e.symm
         ·exact .inr ⟨g9,rfl,by rw[e];exact(aM f _ ν).size⟩)
        clear jE iC iY jy c9 f9 o3 Li dA xA H9;go_wp2_with fail;exact⟨⟨m+1,by omega,by go_num,HN⟩,by simp[intOf];omega⟩
      ·obtain rfl:m=C.length:=by omega
       have HE:Hid (∃c D,c.length=j+1/\dF w a a n A.length f c D/\D.map (List.map iU)=Tb.uP C0 j l (k+1)/\∀t x,Tb.at2 D j t=ο x->x.2.1.length<=(k+1)*U):=⟨Fx,D3,Py,d,by rw[N.out];exact y,fun t x hx=>by have:=hq t x hx;have:=Y.1;have:=ai.out;rw[tD,ud];omega⟩;clear d Py y F N HT hq;go_wp2_with fail;exact⟨⟨k+1,by omega,by go_num,HE⟩,by simp[intOf];omega⟩
    ·obtain rfl:k=l.length:=by omega
     have HE:Hid (∃c D,c.length=j+1/\dF w a a n A.length I c D/\D.map (List.map iU)=Tb.sO A n (j+1)):=⟨E,D2,K,d,by rw[HS.out];exact y⟩;clear d K y HS HX hq;go_wp2_with fail;exact⟨⟨j+1,by omega,by go_num,HE⟩,by simp[intOf];omega⟩
  ·obtain rfl:j=A.length:=by omega
   have H1:Hid (∃c D,c.length=A.length/\dF w a a n A.length wr c D/\D.map (List.map iU)=Tb.uQ (Tb.sO A n A.length) z n 0):=⟨c,D,G,d,y⟩;have HC:Hid (Tb.choices A z n=Tb.uQ (Tb.sO A n A.length) z n z.length):=rfl;clear d G y ae HA hx;generalize Tb.sO A n A.length=C0 at H1 HC;go_wp2_with fail
   go_loopw [67] (fun i wr=>∃k:Nat,k<=z.length/\i=ι ξ (k:Int)/\Hid (∃c D,c.length=A.length/\dF w a a n A.length wr c D/\D.map (List.map iU)=Tb.uQ C0 z n k)) (fun i _=>z.length - (intOf i).toNat)
   case atStart=>exact⟨0,by omega,rfl,H1⟩
   case round=>
    clear H1;revert wr;intro I hrel;obtain⟨k,hk,rfl,O⟩:=hrel;obtain⟨E,D2,K,d,y⟩:=O.out;clear O
    by_cases hkn:k<z.length
    ·have k1:(k:Int)<(z.length:Int):=by omega
     obtain⟨x,hxk⟩:∃x,z[k]?=ο x:=⟨_,cG hkn⟩;obtain⟨g,rfl,W,c2,c3⟩:=HE.out I d.mx.b k x hxk;have af:=am x (cM hxk);have H:Tb.uQ C0 z n (k+1)=if x.2.1<n then Tb.GQ (Tb.uQ C0 z n k) x.1 x.2.1 x.2.2 else Tb.uQ C0 z n k:=by rw[Tb.uQ,hxk]
     obtain⟨y1,T,y3⟩:=x;simp only at W c2 c3 af H;obtain⟨Z,P⟩:=aC (I.alloc (ζ #[ι ξ (y1:Int),ι ξ (T:Int),ι ξ (y3:Int)] 125));obtain⟨Q,J⟩:=aF I.heap.size;have F:aj Z Q #[ι ξ (y1:Int),ι ξ (T:Int),ι ξ (y3:Int)] 125:=by rw[P,<-J];exact aj.new ..
     have u:dF w a a n A.length Z E D2:=d.move (by rw[P];exact(cV _ _).alloc (zL0) _);have x1:=F.a0;have x2:=F.a1;have x3:=F.a2;clear d F HE
     by_cases hn:T<n
     ·have b1:decide ((T:Int)<(n:Int))=η:=ge (by omega)
      rw[du hn]at H;obtain⟨L,q⟩:∃g,E[y1]?=ο g:=⟨_,cG (by omega)⟩;obtain⟨x,hx⟩:=u.at (i:=y1) (t:=T) (by omega) hn;have o1:=u.mx.Cw q;obtain⟨o2,-⟩:=u.cells q hx;have o3:=u.mx.frozen q (T*2);have HN:Hid (∃c D,c.length=A.length/\dF w a a n A.length (Z.setCell ⟨L,T*2,ν⟩ (ι ξ (y3:Int))).drew c D/\D.map (List.map iU)=Tb.uQ C0 z n (k+1)):=⟨E,_,K,(u.shift q hx y3).move ⟨rfl,rfl,rfl,zL0,fun _ _=>rfl⟩,by rw[H,<-y];exact Tb.akr hx⟩;have d0:(0:Int)<=(y1:Int):=by omega
      have d1:(y1:Int)<(A.length:Int):=by omega
      have d2:(0:Int)<=(T:Int):=by omega
      have d3:(T:Int)<(n:Int):=by omega
      clear u K y H hx q af;go_upto_region 20 with fail
      rw[<-P];clear P J W c2 c3;go_upto_region 21 with fail
      go_region
      go_wp2_with fail;exact⟨⟨k+1,by omega,by go_num,HN⟩,by simp[intOf];omega⟩
     ·have b1:decide ((T:Int)<(n:Int))=ε:=fx (by omega)
      rw[dt hn]at H;have HN:Hid (∃c D,c.length=A.length/\dF w a a n A.length Z c D/\D.map (List.map iU)=Tb.uQ C0 z n (k+1)):=⟨E,D2,K,u,by rw[H];exact y⟩;clear u K y H af;go_upto_region 20 with fail
      rw[<-P];clear P J W c2 c3;go_wp2_with fail;exact⟨⟨k+1,by omega,by go_num,HN⟩,by simp[intOf];omega⟩
    ·obtain rfl:k=z.length:=by omega
     have HR:Hid (XP w (Tb.choices A z n) (δ (ς (ο ⟨a,0,ν⟩) A.length A.length)) I):=⟨_,rfl,by rw[HC.out,<-y];exact d.rows K,by rw[HG.out];exact d.mx.b,by rw[HC.out,<-y,HG.out];exact d.uO K⟩;clear d K y HC HE;go_wp2_with fail;go_ret;exact HR.out
def aW.Fy(c:aW)(s:Nat×Nat):List (au×Nat):=(iE c.P c.f s.1 s.2 c.P.length).filter (Dg c.P)
def aW.end(x:au×Nat):Nat×Nat:=(x.2,x.1.1)
structure mW(S:bK)(dn:Nat->Nat×Nat->Prop)(K:List (Nat×Nat))(ss:List (List Nat)):Prop where
 nd:K.Nodup
 len:ss.length=K.length
 mem:∀e,e∈K↔∃i,dn i e
 has:∀(p:Nat)e t,K[p]?=ο e->(dL (ss.getD p []) t=η↔∃i,dn i e/\dL (S.ss.getD i []) t=η)
def aW.Bw(c:aW)(S:bK)(i:Nat)(e:Nat×Nat):Prop:=∃s x,S.st[i]?=ο s/\x∈c.Fy s/\e=aW.end x
def MH(c:aW)(W:ω)(S:bK)(e:Ending)(W':ω):Prop:=∃(gm:Nat)(vA:υ)(K:List (Nat×Nat))(gs:List Nat)(ss:List (List Nat)),e=δ (θ #[.map (ο gm),vA])/\φ W.heap.size W W'/\iF bq W' gm K/\W'.ownsRow W.heap.size 174 1 vA gs.length (gs.map (iw c.nw))/\(∀(i g:Nat),gs[i]?=ο g->∃ws,ss[i]?=ο ws/\TS W' g ws/\ws.length=c.nw)/\gs.length=K.length/\mW S (c.Bw S) K ss
namespace Lx
def Eo(K:List (Nat×Nat))(e:Nat×Nat):Option Nat:=if e∈K then ο (K.idxOf e) else ν
def ja(nw:Nat)(K:List (Nat×Nat))(ss:List (List Nat))(i:Nat):Nat->List (Nat×List Nat)
 |0=>[]
 |k+1=>ja nw K ss i k++(match Eo K (i,k) with
  |some p=>[(k,oO (ss.getD p []) nw)]
  |none=>[])
theorem aa1(nw:Nat)(K:List (Nat×Nat))(a:List (List Nat))(i:Nat):∀k,(ja nw K a i k).length<=k
 |0=>zL0
 |k+1=>by
  have:=aa1 nw K a i k;rw[ja,cJ]
  split <;> simp <;> omega
end Lx
theorem Tryz.alI:(prog.info? 120).map (fun i=>(i.zero,i.size,i.bytes))=ο (ο (.slice ν 0 0),1,24):=by kernel_rfl
theorem Tryz.alJ:(prog.info? 122).map (fun i=>(i.zero,i.size,i.bytes))=ο (ο (.agg #[.int ξ 0,.slice ν 0 0]),2,32):=by kernel_rfl
theorem Tryz.amI:prog.underlying 120=ο (.slice 122):=by kernel_rfl
theorem aks(g:n<=100000)(w:ω):(Instr.makeSlice 42 (ι ξ (n:Int)) (ι ξ (n:Int))).run prog w=.ok (ς (ο ⟨w.heap.size,0,ν⟩) n n) (w.alloc (ζ (vA (ψ n (ς ν 0 0))) 120)):=by
 obtain⟨d,f,b,c,a⟩:=ft Tryz.alI;have h:=qh (P:=prog) w 42 120 d _ (by kernel_rfl) f b ξ ξ (n:Int) (n:Int) (by omega) (oX _) (by rw[a];omega) (by omega);rw[h,ij,c];have e:Value.cells (ς ν 0 0)=#[ς ν 0 0]:=rfl;rw[e,Sw]
structure jN(w0:ω)(B gO:Nat)(W:ω)(vs:List υ)(D:List (List gG)):Prop where
 out:aj W gO vs.toArray 120
 len:D.length=vs.length
 row:∀(i:Nat)(v:υ)(l:List gG),vs[i]?=ο v->D[i]?=ο l->W.ownsRow B 122 2 v l.length (l.flatMap mM)
 ent:∀(i:Nat)(l:List gG)(x:gG),D[i]?=ο l->x∈l->W.ownsRow B 3 1 x.2.2 x.2.1.length (x.2.1.map bA)
 ne:∀(i j:Nat)(v v':υ),i≠j->vs[i]?=ο v->vs[j]?=ο v'->∀g,v.ownBlock=ο g->v'.ownBlock≠ο g
 no:B<=gO
 b:φ B w0 W
section
variable{w0 W W':ω}{B gO:Nat}{vs:List υ}{D:List (List gG)}
theorem jN.size(h:jN w0 B gO W vs D):B<=W.heap.size:=cY h.no (lA h.out.lt)
theorem jN.ko(h:jN w0 B gO W vs D):Kd W gO 120:=⟨_,h.out⟩
theorem jN.at(h:jN w0 B gO W vs D)(a:vs[i]?=ο v):∃l,D[i]?=ο l/\W.ownsRow B 122 2 v l.length (l.flatMap mM):=by
 obtain⟨l,b⟩:∃l,D[i]?=ο l:=⟨_,cG (by rw[h.len];exact(cH.1 a).1)⟩;exact⟨l,b,h.row i v l a b⟩
theorem jN.kv(h:jN w0 B gO W vs D){g:Nat}(a:vs[i]?=ο v)(b:v.ownBlock=ο g):Kd W g 122:=by
 obtain⟨l,-,c⟩:=h.at a;exact bJ c b
theorem jN.move(h:jN w0 B gO W vs D)(c:φ W.heap.size W W'):jN w0 B gO W' vs D :=
 ⟨(c.block gO h.out.lt).trans h.out,h.len,fun i v l f a=>ay (h.row i v l f a) fun g d=>c.block g (h.kv f d).lt,fun i l x a j=>ay (h.ent i l x a j) fun g d=>c.block g ((h.ent i l x a j).lt g d).2,h.ne,h.no,h.b.trans (c.mono h.size)⟩
theorem jN.app(h:jN w0 B gO W vs D){q:υ}{l:List gG}{x:gG}(t:vs[i]?=ο v)(K:D[i]?=ο l)(o:W.grownBy W' v.ownBlock)(J:W'.ownsRow B 122 2 q (l++[x]).length ((l++[x]).flatMap mM))(N:W.ownsRow B 3 1 x.2.2 x.2.1.length (x.2.1.map bA))(H:q.ownBlock=v.ownBlock\/∃k,q.ownBlock=ο k/\W.heap.size<=k):jN w0 B gO (W'.setCell ⟨gO,i,ν⟩ q) (vs.set i q) (D.set i (l++[x])):=by
 have kv:=h.row i v l t K;have E:aj W' gO vs.toArray 120:=(o.block gO h.out.lt fun e=>h.ko.ne (h.kv t e.symm) (by decide) rfl).trans h.out;have C:=(cH.1 t).1;have r:∀{u:υ}{n:Nat}{xs:List υ},W.ownsRow B 3 1 u n xs->(W'.setCell ⟨gO,i,ν⟩ q).ownsRow B 3 1 u n xs:=fun A=>ay A fun g d=>by
  have I:Kd W g 3:=bJ A d;exact(aY _ _ (I.ne h.ko (by decide))).trans (o.block g I.lt fun e=>I.ne (h.kv t e.symm) (by decide) rfl)
 have L:∀{j g:Nat}{u:υ},i≠j->vs[j]?=ο u->u.ownBlock=ο g->q.ownBlock≠ο g:=fun G a d e=>by
  rcases H with H|⟨k,F,M⟩
  ·exact h.ne _ _ _ _ G t a _ (H▸e) d
  ·rw[e]at F
   cases F;have:=(h.kv a d).lt;omega
 refine⟨?_,by simp[h.len],fun j u m a f=>?_,fun j m y f z=>?_,fun j k u P s a c g d=>?_,h.no,(h.b.grown o h.size fun k e=>(kv.lt k e).1).setCell (p:=⟨gO,i,ν⟩) h.no _⟩
 ·have:=E.set i q
  rw[j8]at this;exact this
 ·rw[g8]at a f
  split at a
  ·rename_i e
   rw[du e,du (by rw[h.len];exact C)]at f
   try rw[du C]at a
   cases a;cases f;exact ay J fun g d=>aY _ _ ((show Kd W' g 122 from bJ J d).ne ⟨_,E⟩ (by decide))
  ·rename_i e
   rw[dt e]at f;exact ay (h.row j u m a f) fun g d=>(aY _ _ ((h.kv a d).ne h.ko (by decide))).trans (o.block g (h.kv a d).lt fun F=>h.ne i j v u e t a g F.symm d)
 ·rw[g8]at f
  split at f
  ·try rw[du (by rw[h.len];exact C)]at f
   cases f;rw[dq,dd]at z;rcases z with z|rfl
   ·exact r (h.ent i l y K z)
   ·exact r N
  ·exact r (h.ent j m y f z)
 ·rw[g8]at a c
  split at a
  ·rename_i e
   try rw[du C]at a
   cases a;rw[dt (by rw[e];exact s)]at c;intro O;exact L (by rw[e];exact s) c O d
  ·rename_i e
   split at c
   ·try rw[du C]at c
    cases c;exact L e a d
   ·exact h.ne j k u P s a c g d
theorem jN.rows(h:jN w0 B gO W vs D):qA W (ς (ο ⟨gO,0,ν⟩) vs.length vs.length) (D.map (List.map iU)):=by
 refine⟨_,_,by rw[dk,h.len],fun i r b=>⟨gO,rfl,?_⟩⟩;rw[dj]at b;cases hl:D[i]? with
 |none=>rw[hl]at b;cases b
 |some l=>
  rw[hl]at b;cases b;obtain⟨v,j⟩:∃v,vs[i]?=ο v:=⟨_,cG (by rw[<-h.len];exact(cH.1 hl).1)⟩;have f:=h.row i v l j hl;obtain⟨a,c,rfl,-⟩:=aB f;refine⟨ς a l.length c,by rw[j9,h.out.cell,ie,j],a,c,by rw[dk],fun k x d=>?_⟩;rw[dj]at d;cases hy:l[k]? with
  |none=>rw[hy]at d;cases d
  |some y=>
   rw[hy]at d;cases d;obtain⟨f1,f2⟩:=Ol _ _ _ hy;obtain⟨g,n,e,m⟩:=jC f f1;cases e;exact⟨g,rfl,m _ _ f1,_,m _ _ f2,jX.own (h.ent i l y hl (cM hy))⟩
end
structure jl(c:aW)(W:ω)(B:Nat)(W':ω)(vA:υ)(K:List (Nat×Nat))(gs:List Nat)(ss:List (List Nat)):Prop where
 b:φ B W W'
 k1:aj W' B #[π (ο ⟨c.lb,0,ν⟩)] 176
 kg:iF bq W' (B+1) K
 k4:aj W' (B+2) #[.map (ο (B+1))] 183
 k5:aj W' (B+3) #[vA] 88
 row:W'.ownsRow (B+4) 174 1 vA gs.length (gs.map (iw c.nw))
 sets:∀(i g:Nat),gs[i]?=ο g->B+4<=g/\∃ws,ss[i]?=ο ws/\TS W' g ws/\ws.length=c.nw
 pQ:gs.Nodup
 lg:gs.length=K.length
 ls:ss.length=K.length
def wT(B:Nat)(vA:υ)(gs:List Nat)(k:Nat):Prop:=(B<=k/\k<B+4)\/vA.ownBlock=ο k\/k∈gs
structure nR(B:Nat)(W:ω)(vA:υ)(gs:List Nat)(W':ω)(zW:υ)(gs':List Nat):Prop where
 aK:∀k,k<W.heap.size->¬wT B vA gs k->W'.heap[k]?=W.heap[k]?
 new:∀k,wT B zW gs' k->wT B vA gs k\/W.heap.size<=k
 bL:W.heap.size<=W'.heap.size
section
variable{c:aW}{W W1 W2:ω}{B:Nat}{vA Bz vA2:υ}{K:List (Nat×Nat)}{gs gs1 gs2:List Nat}{ss:List (List Nat)}
theorem nR.refl(B:Nat)(W:ω)(vA:υ)(gs:List Nat):nR B W vA gs W vA gs:=⟨fun _ _ _=>rfl,fun _ h=>.inl h,zL0⟩
theorem nR.trans(h:nR B W vA gs W1 Bz gs1)(k:nR B W1 Bz gs1 W2 vA2 gs2):nR B W vA gs W2 vA2 gs2 where
 aK x hx hn:=(k.aK x (dg hx h.bL) fun e=>by
  rcases h.new x e with e|e
  ·exact hn e
  ·omega).trans (h.aK x hx hn)
 new x hx:=by
  rcases k.new x hx with e|e
  ·exact h.new x e
  ·exact .inr (cY h.bL e)
 bL:=cY h.bL k.bL
theorem nR.below(a:φ W.heap.size W W1):nR B W vA gs W1 vA gs:=⟨fun k b _=>a.block k b,fun _ h=>.inl h,a.size⟩
theorem jl.lt(h:jl c W B W1 vA K gs ss){k:Nat}(a:wT B vA gs k):k<W1.heap.size:=by
 rcases a with ⟨h1,h2⟩|a|a
 ·have:=h.k5.lt
  omega
 ·exact(h.row.lt k a).2
 ·obtain⟨i,b⟩:=fb.1 a
  obtain⟨-,ws,-,d,-⟩:=h.sets i k b;exact d.blk.lt
theorem jl.kA(h:jl c W B W1 vA K gs ss){g:Nat}(a:vA.ownBlock=ο g):Kd W1 g 174:=bJ h.row a
theorem jl.kG(h:jl c W B W1 vA K gs ss){g:Nat}(a:g∈gs):Kd W1 g 275:=by
 obtain⟨i,b⟩:=fb.1 a;obtain⟨-,ws,-,d,-⟩:=h.sets i g b;exact⟨_,d.blk⟩
theorem jl.move(h:jl c W B W1 vA K gs ss)(a:∀k,k<W1.heap.size->wT B vA gs k->W2.heap[k]?=W1.heap[k]?)(d:φ B W W2):jl c W B W2 vA K gs ss:=by
 have h4:∀i,i<4->W2.heap[B+i]?=W1.heap[B+i]?:=fun i f=>a _ (by have:=h.k5.lt;omega) (.inl ⟨by omega,by omega⟩)
 exact⟨d,(h4 0 (by omega)).trans h.k1,h.kg.move (h4 1 (by omega)),(h4 2 (by omega)).trans h.k4,(h4 3 (by omega)).trans h.k5,ay h.row fun g hg=>a g (h.row.lt g hg).2 (.inr (.inl hg)),fun i g hg=>by
  obtain⟨h1,ws,h2,h3,b⟩:=h.sets i g hg;exact⟨h1,ws,h2,h3.move (a g h3.blk.lt (.inr (.inr (cM hg)))),b⟩,h.pQ,h.lg,h.ls⟩
theorem jl.below(h:jl c W B W1 vA K gs ss)(a:φ W1.heap.size W1 W2):jl c W B W2 vA K gs ss:=h.move (fun k d _=>a.block k d) (h.b.trans (a.mono (lA h.k1.lt)))
theorem jl.join(h:jl c W B W1 vA K gs ss){g:Nat}{ws:List Nat}(hg:gs[p]?=ο g)(m:ws.length=c.nw)(f:TP W1 g ws W2):jl c W B W2 vA K gs (ss.set p ws)/\nR B W1 vA gs W2 vA gs:=by
 have d:=cM hg;obtain⟨v,-⟩:=h.sets p g hg;have ne:∀k,k<W1.heap.size->k≠g->W2.heap[k]?=W1.heap[k]?:=fun k a j=>f.gr.block k a fun e=>j (by cases e;rfl)
 have h4:∀i,i<4->W2.heap[B+i]?=W1.heap[B+i]?:=fun i s=>ne _ (by have:=h.k5.lt;omega) (by omega)
 refine⟨⟨h.b.grown f.gr (lA h.k1.lt) (fun k e=>by cases e;omega),(h4 0 (by omega)).trans h.k1,h.kg.move (h4 1 (by omega)),(h4 2 (by omega)).trans h.k4,(h4 3 (by omega)).trans h.k5,ay h.row fun k a=>ne k (h.row.lt k a).2 ((h.kA a).ne (h.kG d) (by decide)),fun i k a=>?_,h.pQ,h.lg,by rw[jp];exact h.ls⟩,fun k a j=>ne k a fun e=>j (by rw[e];exact .inr (.inr d)),fun _ e=>.inl e,f.gr.size⟩;obtain⟨h1,l,h2,h3,o⟩:=h.sets i k a
 by_cases e:p=i
 ·subst e
  rw[hg]at a;cases a;exact⟨h1,ws,by rw[g8,du rfl,du (iD h2)],f.ts,m⟩
 ·exact⟨h1,l,by rw[g8,dt e];exact h2,h3.move (ne k h3.blk.lt fun q=>e (by
   subst q;obtain⟨t,n⟩:=cH.1 hg;obtain⟨u,r⟩:=cH.1 a;exact(mC h.pQ).1 (n.trans r.symm))),o⟩
theorem jl.put(h:jl c W B W1 vA K gs ss){g:Nat}{w3:ω}(n:W1.grownBy W2 (ο (B+1)))(r:iF bq W2 (B+1) (K++[e]))(t:W1.heap.size<=g)(D:TS W2 g (ψ c.nw 0))(d:W2.grownBy w3 vA.ownBlock)(E:w3.ownsRow (B+4) 174 1 v (gs++[g]).length ((gs++[g]).map (iw c.nw)))(o:v.ownBlock=vA.ownBlock\/∃k,v.ownBlock=ο k/\W2.heap.size<=k):jl c W B (w3.setCell ⟨B+3,0,ν⟩ v) v (K++[e]) (gs++[g]) (ss++[ψ c.nw 0])/\nR B W1 vA gs (w3.setCell ⟨B+3,0,ν⟩ v) v (gs++[g]):=by
 have J:=h.k5.lt;have s:∀k,k<W1.heap.size->k≠B+1->W2.heap[k]?=W1.heap[k]?:=fun k hk j=>n.block k hk fun e=>j (by cases e;rfl)
 have M:∀k,vA.ownBlock=ο k->Kd W2 k 174:=fun k hk=>by
  obtain⟨u,G⟩:=h.kA hk;have:=(h.row.lt k hk).1;exact⟨u,(s k (h.row.lt k hk).2 (by omega)).trans G⟩
 have p:∀k,k<W2.heap.size->vA.ownBlock≠ο k->w3.heap[k]?=W2.heap[k]?:=fun k hk j=>d.block k hk fun e=>j e.symm
 have f:∀k,k<B+4->vA.ownBlock≠ο k:=fun k hk e=>by have:=(h.row.lt k e).1;omega
 have l:=n.size;have m:=d.size;have q:∀k,k≠B+3->(w3.setCell ⟨B+3,0,ν⟩ v).heap[k]?=w3.heap[k]?:=fun k hk=>aY _ _ hk
 have all:∀k,k<W1.heap.size->k≠B+1->k≠B+3->vA.ownBlock≠ο k->(w3.setCell ⟨B+3,0,ν⟩ v).heap[k]?=W1.heap[k]?:=fun k hk h1 h3 o=>(q k h3).trans ((p k (by omega) o).trans (s k hk h1))
 have y:=D.blk.lt;have MB:vA.ownBlock≠ο g:=fun e=>by have:=(h.row.lt g e).2;omega
 refine⟨⟨⟨d.1.trans (n.1.trans h.b.1),d.2.trans (n.2.trans h.b.2),d.3.trans (n.3.trans h.b.3),by simpa using cY h.b.4 (cY l m),fun k hk=>(all k (by omega) (by omega) (by omega) (f k (by omega))).trans (h.b.block k hk)⟩,(all B (by omega) (by omega) (by omega) (f B (by omega))).trans h.k1,r.move ((q _ (by omega)).trans (p _ (by omega) (f _ (by omega)))),(all (B+2) (by omega) (by omega) (by omega) (f _ (by omega))).trans h.k4,?_,?_,fun i k hk=>?_,?_,by simp[h.lg],by simp[h.ls]⟩,fun k hk j=>all k hk (fun e=>j (by rw[e];exact .inl ⟨by omega,by omega⟩)) (fun e=>j (by rw[e];exact .inl ⟨by omega,by omega⟩)) (fun e=>j (.inr (.inl e))),fun k hk=>?_,by simpa using cY l m⟩
 ·have k5:aj w3 (B+3) #[vA] 88:=(p _ (by omega) (f _ (by omega))).trans ((s _ J (by omega)).trans h.k5)
  exact k5.set 0 v
 ·exact ay E fun k hk=>q k fun e=>by have:=(E.lt k hk).1;omega
 ·rw[kh]at hk
  split at hk
  ·rename_i H
   obtain⟨h1,ws,h2,h3,F⟩:=h.sets i k hk;refine⟨h1,ws,by rw[eL (iD h2)];exact h2,h3.move (all k h3.blk.lt (by omega) (by omega) fun e=>(h.kA e).ne (h.kG (cM hk)) (by decide) rfl),F⟩
  ·rename_i H
   have z:i-gs.length=0:=by
    have:=(cH.1 hk).1;simp at this;omega
   rw[z]at hk;cases hk;have x:i=gs.length:=by omega
   refine⟨by omega,_,by rw[x,h.lg,<-h.ls];simp,D.move ((q _ (by omega)).trans (p _ y MB)),js ..⟩
 ·rw[j7]
  exact⟨h.pQ,by simp,fun a I b A=>by
   rw[dd]at A;rw[A];rintro rfl;have:=h.lt (.inr (.inr I));omega⟩
 ·rcases hk with hk | hk | hk
  ·exact .inl (.inl hk)
  ·rcases o with o | ⟨L,C,N⟩
   ·exact .inl (.inr (.inl (o▸hk)))
   ·rw[hk]at C
    cases C;exact .inr (by omega)
  ·rw[dq,dd]at hk
   rcases hk with hk|rfl
   ·exact .inl (.inr (.inr hk))
   ·exact .inr t
end
section
variable{c:aW}{S:bK}{dn dn':Nat -> Nat×Nat -> Prop}{K:List (Nat×Nat)}{ss:List (List Nat)}{j p nw:Nat}{e:Nat×Nat}
theorem mW.ext(h:mW S dn K ss)(hd:∀q f,dn q f↔dn' q f):mW S dn' K ss :=
 ⟨h.nd,h.len,fun f=>by rw[h.mem];exact⟨fun⟨i,k⟩=>⟨i,(hd i f).1 k⟩,fun⟨i,k⟩=>⟨i,(hd i f).2 k⟩⟩,fun q f t a=>by rw[h.has q f t a];exact⟨fun⟨i,k,l⟩=>⟨i,(hd i f).1 k,l⟩,fun⟨i,k,l⟩=>⟨i,(hd i f).2 k,l⟩⟩⟩
theorem mW.hit(h:mW S dn K ss)(hp:K[p]?=ο e)(g:(S.ss.getD j []).length=(ss.getD p []).length):mW S (fun q f=>dn q f\/(q=j/\f=e)) K (ss.set p (dZ (ss.getD p []) (S.ss.getD j []))):=by
 refine⟨h.nd,by rw[jp];exact h.len,fun f=>?_,fun q f t a=>?_⟩
 ·rw[h.mem]
  constructor
  ·rintro⟨i,k⟩
   exact⟨i,.inl k⟩
  ·rintro⟨i,k | ⟨-,rfl⟩⟩
   ·exact⟨i,k⟩
   ·exact(h.mem _).1 (cM hp)
 ·have b:p<ss.length:=by rw[h.len];exact iD hp
  rw[di,g8]
  by_cases e1:p=q
  ·subst e1
   rw[hp]at a;cases a;rw[du rfl,du b,rj,Nu g,oY,h.has p e t hp];constructor
   ·rintro(⟨i,k,l⟩ | k)
    ·exact⟨i,.inl k,l⟩
    ·exact⟨j,.inr ⟨rfl,rfl⟩,k⟩
   ·rintro⟨i,k | ⟨rfl,-⟩,l⟩
    ·exact .inl ⟨i,k,l⟩
    ·exact .inr l
  ·rw[dt e1,<-di,h.has q f t a]
   constructor
   ·rintro⟨i,k,l⟩
    exact⟨i,.inl k,l⟩
   ·rintro⟨i,k | ⟨-,rfl⟩,l⟩
    ·exact⟨i,k,l⟩
    ·obtain⟨n,d⟩:=cH.1 hp
     obtain⟨o,m⟩:=cH.1 a;exact absurd ((mC h.nd).1 (d.trans m.symm)) e1
theorem mW.miss(h:mW S dn K ss)(hp:e∉K)(o:(S.ss.getD j []).length=nw):mW S (fun q f=>dn q f\/(q=j/\f=e)) (K++[e]) ((ss++[ψ nw 0]).set K.length (dZ ((ss++[ψ nw 0]).getD K.length []) (S.ss.getD j []))):=by
 have s:(ss++[ψ nw 0]).getD K.length []=ψ nw 0:=by rw[di,<-h.len];simp
 have g:∀t,dL (ψ nw 0) t=ε:=fun t=>by
  unfold dL;rw[di,mi]
  split <;> simp
 have d:∀i,¬dn i e:=fun i k=>hp ((h.mem e).2 ⟨i,k⟩)
 rw[s];refine⟨?_,by simp[h.len],fun f=>?_,fun q f t hq=>?_⟩
 ·rw[j7]
  exact⟨h.nd,by simp,fun a r b n=>by rw[dd]at n;rw[n];rintro rfl;exact hp r⟩
 ·rw[dq,dd,h.mem]
  constructor
  ·rintro(⟨i,k⟩ | rfl)
   ·exact⟨i,.inl k⟩
   ·exact⟨j,.inr ⟨rfl,rfl⟩⟩
  ·rintro⟨i,k | ⟨-,rfl⟩⟩
   ·exact .inl ⟨i,k⟩
   ·exact .inr rfl
 ·rw[di,g8]
  rw[kh]at hq
  by_cases e1:K.length=q
  ·subst e1
   rw[dt (by omega),io]at hq;cases hq;rw[du rfl,du (by simp[h.len]),rj,Nu (by rw[o,js]),g,A4];constructor
   ·intro k
    exact⟨j,.inr ⟨rfl,rfl⟩,k⟩
   ·rintro⟨i,k | ⟨rfl,-⟩,l⟩
    ·exact absurd k (d i)
    ·exact l
  ·rw[dt e1]
   split at hq
   ·rename_i m
    rw[eL (by rw[h.len];exact m),<-di,h.has q f t hq];constructor
    ·rintro⟨i,k,l⟩
     exact⟨i,.inl k,l⟩
    ·rintro⟨i,k | ⟨-,rfl⟩,l⟩
     ·exact⟨i,k,l⟩
     ·exact absurd (cM hq) hp
   ·rename_i m
    have:=iD hq;simp at this;omega
def aW.qB(c:aW)(S:bK)(j i q:Nat)(f:Nat×Nat):Prop:=(q<j/\c.Bw S q f)\/(q=j/\∃s x,S.st[j]?=ο s/\x∈(c.Fy s).take i/\f=aW.end x)
theorem akt:c.qB S 0 0 q f↔False:=by
 unfold aW.qB;constructor
 ·rintro(⟨h,-⟩ | ⟨-,s,x,-,h,-⟩)
  ·omega
  ·cases h
 ·exact False.elim
theorem aa2{s:Nat×Nat}{x:au×Nat}(d:S.st[j]?=ο s)(l:(c.Fy s)[i]?=ο x)(q:Nat)(f:Nat×Nat):(c.qB S j i q f\/(q=j/\f=aW.end x))↔c.qB S j (i+1) q f:=by
 unfold aW.qB;have g:(c.Fy s).take (i+1)=(c.Fy s).take i++[x]:=by rw[ki,l];rfl
 constructor
 ·rintro((h | ⟨rfl,k,y,a,b,rfl⟩) | ⟨rfl,rfl⟩)
  ·exact .inl h
  ·rw[d]at a
   cases a;exact .inr ⟨rfl,s,y,d,by rw[g,dq];exact .inl b,rfl⟩
  ·exact .inr ⟨rfl,s,x,d,by rw[g];simp,rfl⟩
 ·rintro(h | ⟨rfl,k,y,a,b,rfl⟩)
  ·exact .inl (.inl h)
  ·rw[d]at a
   cases a;rw[g,dq,dd]at b;rcases b with b|rfl
   ·exact .inl (.inr ⟨rfl,s,y,d,b,rfl⟩)
   ·exact .inr ⟨rfl,rfl⟩
theorem aku{s:Nat×Nat}(d:S.st[j]?=ο s)(q:Nat)(f:Nat×Nat):c.qB S j (c.Fy s).length q f↔c.qB S (j+1) 0 q f:=by
 unfold aW.qB;constructor
 ·rintro(⟨h,k⟩ | ⟨rfl,g,y,a,b,rfl⟩)
  ·exact .inl ⟨by omega,k⟩
  ·rw[d]at a
   cases a;rw[ff]at b;exact .inl ⟨by omega,s,y,d,b,rfl⟩
 ·rintro(⟨h,k⟩ | ⟨-,g,y,-,b,-⟩)
  ·by_cases e:q=j
   ·subst e
    obtain⟨g,y,a,b,rfl⟩:=k;rw[d]at a;cases a;exact .inr ⟨rfl,s,y,d,by rw[ff];exact b,rfl⟩
   ·exact .inl ⟨by omega,k⟩
  ·cases b
theorem alK:c.qB S S.st.length 0 q f↔c.Bw S q f:=by
 unfold aW.qB;constructor
 ·rintro(⟨-,k⟩ | ⟨-,b,y,-,a,-⟩)
  ·exact k
  ·cases a
 ·rintro⟨s,x,h1,h2,rfl⟩
  exact .inl ⟨iD h1,s,x,h1,h2,rfl⟩
end
section
open Go.RowKit Go.Shelf
open Tr
attribute [local go_sem] my
section
variable{c:aW}{w0:ω}{F:Nat -> Prop}{B0:Nat}{W:ω}{S:bK}
theorem jl.DR{vA:υ}{f:List Nat}{g:List (List Nat)}(h:jl c W B W1 vA K f g)(b:wT B vA f k)(i:Option (List Deferred)):W1.heap[k]?≠ο (.deferred i):=fun e=>by
 have a:∀{t:Nat},Kd W1 k t->False:=fun⟨y,d⟩=>by rw[e]at d;cases d
 rcases b with ⟨h1,h2⟩|b|b
 ·have:k=B\/k=B+1\/k=B+2\/k=B+3:=by omega
  rcases this with rfl|rfl|rfl|rfl
  ·exact a ⟨_,h.k1⟩
  ·obtain⟨l,j,h3,-⟩:=h.kg
   rw[e]at h3;cases h3
  ·exact a ⟨_,h.k4⟩
  ·exact a ⟨_,h.k5⟩
 ·exact a (h.kA b)
 ·exact a (h.kG b)
theorem ai3{P:Program}{id:Nat}{Q:Exit->Act->ω->Prop}{b:List Oper}(g:P.follows .mixedOrders=η)(f:Region.lexB .any b.toArray=η)
  (h:wpQuietIn Fence.wide n P b.toArray (fun w'=>∃n,w'=w.drewN n) (fun a'=>∀w',(∃n,w'=w.drewN n)->Q .normal a' w') b a):(Code.region id b.toArray η).wpIn Fence.wide n P Q a w:=by
 simp only[Region.lexB,Bool.and_eq_true]at f;refine wpIn_region_any g (wpAnyIn_of_quiet (C:=fun w'=>∃n,w'=w.drewN n) (Q:=fun a'=>∀w',(∃n,w'=w.drewN n)->Q .normal a' w') rfl (fun _ w' d h=>h w' d) _ _ _ _ ⟨1,rfl⟩ ?_);have:=wpAnyQIn_lex (F:=Fence.wide) (n:=n) (P:=P) (C:=fun w'=>∃n,w'=w.drewN n) (md:=.any) f.1 b 0 (Array.replicate b.toArray.size ε) a (by simp) (by simpa using f.2) h;simpa using this
def xX(c:aW)(W:ω)(B:Nat)(S:bK)(j:Nat)(w7:ω)(vA:υ)(gs:List Nat)(i:Nat)(Z:Nat->Prop)(W':ω):Prop:=∃zW K' gs' ss',jl c W B W' zW K' gs' ss'/\mW S (c.qB S j i) K' ss'/\nR B w7 vA gs W' zW gs'/\∀k,Z k->w7.heap.size<=k/\k<W'.heap.size/\¬wT B zW gs' k
theorem xX.oD{m:ω}{vA:υ}{p:List Nat}(q:B+4<=m.heap.size):sF (xX c W B S j m vA p) where
 own i Z A C row hs hg hr:=by
  obtain⟨v,K,g,s,M,I,X,z⟩:=hs;have ne:∀k,k<A.heap.size->¬Z k->C.heap[k]?=A.heap[k]?:=fun k a d=>hg.block k a fun e=>d (hr k e.symm)
  refine⟨v,K,g,s,M.move (fun k a n=>ne k a fun f=>(z k f).2.2 n) (M.b.grown hg (lA M.k1.lt) fun k e=>by have:=(z k (hr k e)).1;omega),I,⟨fun k a d=>(ne k (dg a X.bL) fun f=>by have:=(z k f).1;omega).trans (X.aK k a d),X.new,cY X.bL hg.size⟩,fun k a=>⟨(z k a).1,dg (z k a).2.1 hg.size,(z k a).2.2⟩⟩
 new i Z A o hs:=by
  obtain⟨v,K,g,s,M,I,X,z⟩:=hs;have l:φ A.heap.size A (A.alloc o):=(cV _ _).alloc (zL0) o;refine⟨v,K,g,s,M.below l,I,X.trans (nR.below l),fun k a=>?_⟩;rw[eC];rcases a with a|rfl
  ·exact⟨(z k a).1,by have:=(z k a).2.1;omega,(z k a).2.2⟩
  ·exact⟨X.bL,by omega,fun e=>by have:=M.lt e;omega⟩
theorem xX.next{n l:ω}{vA o r:υ}{s b p:List Nat}{q:List (Nat×Nat)}{m:List (List Nat)}{Z:Nat->Prop}(x:nR B n vA s W1 o b)(g:∀k,Z k->n.heap.size<=k/\k<W1.heap.size/\¬wT B o b k)(v:jl c W B l r q p m)(u:mW S (c.qB S j (i+1)) q m)(f:nR B W1 o b l r p):tq Z (xX c W B S j n vA s (i+1) Z) W1 .normal a l :=
 ⟨⟨r,q,p,m,v,u,x.trans f,fun k d=>⟨(g k d).1,dg (g k d).2.1 f.bL,fun e=>by
  have:=g k d;rcases f.new k e with e|e
  ·exact this.2.2 e
  ·omega⟩⟩,fun k d t=>f.aK k t (g k d).2.2⟩
theorem ahI(hF:mK c w0 F B0)(h:jV c w0 F B0 W S)(cS:S.st.length<=900000)(bR:c.nw<=100000)(IB:∀K:List (Nat×Nat),K.Nodup->(∀e∈K,∃i,c.Bw S i e)->K.length<=1000000000):χ prog 65 #[π (ο ⟨c.lb,0,ν⟩)] W (MH c W S):=by
 have hm:prog.follows .mixedOrders=η:=by kernel_rfl
 have cB:=@sq prog;obtain⟨B,hB⟩:=aF W.heap.size;obtain⟨sa,sc,oG,-⟩:=aB h.rS;have d9:W.cell? ⟨c.lb,9,ν⟩=ο (ς sa S.st.length sc):=by rw[<-oG];exact h.blk.cell 9
 have ll:=h.blk.lt;obtain⟨w4,aa⟩:=aC ((((W.alloc (ζ #[π (ο ⟨c.lb,0,ν⟩)] 176)).alloc (.map #[] 0)).alloc (ζ #[.map (ο (B+1))] 183)).alloc (ζ #[ς ν 0 0] 88));have z1:(W.alloc (ζ #[π (ο ⟨c.lb,0,ν⟩)] 176)).heap.size=B+1:=by rw[eC,hB]
 have z2:((W.alloc (ζ #[π (ο ⟨c.lb,0,ν⟩)] 176)).alloc (.map #[] 0)).heap.size=B+2:=by rw[eC,z1]
 have z3:(((W.alloc (ζ #[π (ο ⟨c.lb,0,ν⟩)] 176)).alloc (.map #[] 0)).alloc (ζ #[.map (ο (B+1))] 183)).heap.size=B+3:=by rw[eC,z2]
 have ap:φ B W w4:=by
  rw[aa,<-hB];exact((((cV _ _).alloc (zL0) _).alloc (by simp) _).alloc (by simp;omega) _).alloc (by simp;omega) _
 have M4:jl c W B w4 (ς ν 0 0) [] [] []:=by
  refine⟨ap,?_,?_,?_,?_,eV _ _ _ _,(fun i g hg=>by simp at hg),ot,rfl,rfl⟩
  ·rw[aa,<-hB]
   exact(((aj.new ..).alloc _).alloc _).alloc _
  ·rw[aa,<-z1]
   exact((iF.made _ _).move (ed _ _ _ (by simp))).move (ed _ _ _ (by simp))
  ·rw[aa,<-z2]
   exact(aj.new ..).alloc _
  ·rw[aa,<-z3]
   exact aj.new ..
 have IC:Hid (∀m,φ B W m->aj m c.lb (c.cells S) 92/\(∀b,F b->m.heap[b]?=w0.heap[b]?)/\(∀(j:Nat)s,S.st[j]?=ο s->∃g,sa=ο ⟨g,0,ν⟩/\m.cell? ⟨g,j*2,ν⟩=ο (ι ξ (s.1:Int))/\m.cell? ⟨g,j*2+1,ν⟩=ο (ι ξ (s.2:Int))/\∃ga ca gj,S.vA=ς (ο ⟨ga,0,ν⟩) S.gs.length ca/\m.cell? ⟨ga,j,ν⟩=ο (ς (ο ⟨gj,0,ν⟩) c.nw c.nw)/\TS m gj (S.ss.getD j [])/\(S.ss.getD j []).length=c.nw/\gj<B/\j<S.gs.length)):=fun m hb=>by
  have lb:c.lb<B:=by rw[<-hB];exact ll
  refine⟨(hb.block _ lb).trans h.blk,fun b R=>(hb.block b (by rw[<-hB];exact dg (hF.low b R).1 h.big)).trans (h.keep b R),fun j s hs=>?_⟩;obtain⟨sx,sy⟩:=s;obtain⟨f1,f2⟩:=TL _ _ _ _ hs;obtain⟨g,cp,e,hc⟩:=jC h.rS f1;rw[oG]at e;cases e;have cn:=iD hs;obtain⟨gj,av⟩:∃g,S.gs[j]?=ο g:=⟨_,cG (by rw[h.lg];exact cn)⟩;obtain⟨-,ws,Y,yN,cz⟩:=h.sets j gj av;obtain⟨ga,ca,e2,c8⟩:=jC h.rA (j:=j) (u:=iw c.nw gj) (by rw[dj,av];rfl);have e3:=Oh Y;rw[<-hB]at hb;rw[e3];exact⟨g,rfl,aU hb (hc _ _ f1),aU hb (hc _ _ f2),ga,ca,gj,e2,aU hb (c8 j _ (by rw[dj,av];rfl)),yN.move (hb.block _ yN.blk.lt),cz,by rw[<-hB];exact yN.blk.lt,iD av⟩
 have dA:w4.cell? ⟨c.lb,9,ν⟩=ο (ς sa S.st.length sc):=by
  rw[<-hB]at ap;exact aU ap d9
 have H0:Hid (jl c W B w4 (ς ν 0 0) [] [] []/\mW S (c.qB S 0 0) [] []/\r9 w4 []/\∀D∈([]:List Nat),B+4<=D):=⟨M4,⟨ot,rfl,(fun e=>⟨fun h=>(by cases h),fun⟨i,h⟩=>(akt.1 h).elim⟩),(fun p e t hp=>by simp at hp)⟩,⟨by simp,by simp⟩,by simp⟩;have aE:Hid (∀m vA K gs ss,jl c W B m vA K gs ss->mW S (c.qB S S.st.length 0) K ss->MH c W S (δ (θ #[.map (ο (B+1)),vA])) m):=fun m vA K gs ss M I=>⟨B+1,vA,K,gs,ss,rfl,by rw[hB];exact M.b,M.kg,by rw[hB];exact jb M.row (by omega),fun i g hg=>(M.sets i g hg).2,M.lg,I.ext fun q f=>alK⟩
 have x1:=M4.k1.a0;clear z1 z2 z3 ap M4 d9 h oG;obtain⟨Q,hQ⟩:=aC (bodyPostM Fence.wide 9 prog Tryz.f65 (MH c W S));refine gh.1 (callsIn_of_wp_marks (F:=Fence.wide) (n:=9) func65 rfl trivial ?_ rfl);rw[<-hQ];simp only[ntmps65,List.size_toArray,List.length_cons,List.length_nil,Nat.reduceAdd,Nat.reduceSub,Array.replicate_succ,Array.replicate_zero,List.push_toArray,List.append_toArray,List.nil_append,List.cons_append]
 gi_upto_region 3 with fail
 rw[<-aa];clear aa cB hB
 gi_wp2
 clear x1 dA;refine wpIn_loop_ghost_k (fun n a w=>∃(u6 u7 u8 u9 yF zM zN bU ck b1 b0 cf bD b4 ci b7 aH bd aV bx bo bi bb bv aR bp zO bt zP aP sD ba bc aX zQ bg bh yG bj yH ak wK am yK yL ah az ai LM LP ax a9 LQ an LU:υ)(Ds:List Nat)(j:Nat)(vA:υ)(K:List (Nat×Nat))(gs:List Nat)(ss:List (List Nat)),n=S.st.length-j/\j<=S.st.length/\a={ tmps:=#[π (ο ⟨c.lb,0,ν⟩),π (ο ⟨B,0,ν⟩),.map ν,ς ν 0 0,π (ο ⟨B+1+1,0,ν⟩),π (ο ⟨B+1+1+1,0,ν⟩),u6,u7,u8,u9,yF,.map (ο (B+1)),π (ο ⟨c.lb,0,ν⟩),π (ο ⟨c.lb,0,ν⟩),π (ο ⟨c.lb,9,ν⟩),ς sa S.st.length sc,ι ξ (S.st.length:Int),ι ξ (j:Int),zM,zN,bU,ck,b1,b0,cf,bD,b4,ci,b7,aH,bd,aV,bx,bo,bi,bb,bv,aR,bp,zO,bt,zP,aP,sD,ba,bc,aX,zQ,bg,bh,yG,bj,yH,ak,wK,am,yK,yL,ah,az,ai,LM,LP,ax,a9,LQ,an,LU],defers:=QJ Ds }/\Hid (jl c W B w vA K gs ss/\mW S (c.qB S j 0) K ss/\r9 w Ds/\∀D∈Ds,B+4<=D)) (S.st.length-0) ⟨undef,undef,undef,undef,undef,undef,undef,undef,undef,undef,undef,undef,undef,undef,undef,undef,undef,undef,undef,undef,undef,undef,undef,undef,undef,undef,undef,undef,undef,undef,undef,undef,undef,undef,undef,undef,undef,undef,undef,undef,undef,undef,undef,undef,undef,undef,undef,undef,undef,undef,undef,undef,undef,undef,undef,[],0,ς ν 0 0,[],[],[],rfl,fi _,rfl,H0⟩ ?_;clear H0;rintro n a w⟨u6,u7,u8,u9,yF,zM,zN,bU,ck,b1,b0,cf,bD,b4,ci,b7,aH,bd,aV,bx,bo,bi,bb,bv,aR,bp,zO,bt,zP,aP,sD,ba,bc,aX,zQ,bg,bh,yG,bj,yH,ak,wK,am,yK,yL,ah,az,ai,LM,LP,ax,a9,LQ,an,LU,Ds,j,vA,K,gs,ss,rfl,hj,rfl,H1⟩J K0 hJ hK
 obtain⟨M,I,hC,hD⟩:=H1.out;clear H1
 by_cases hjn:j<S.st.length
 ·have j1:(j:Int)<(S.st.length:Int):=by omega
  have j0:(0:Int)<=(j:Int):=by omega
  obtain⟨s,hs⟩:∃s,S.st[j]?=ο s:=⟨_,cG hjn⟩;obtain⟨V,-,ab⟩:=IC.out w M.b;obtain⟨g,rfl,c1,c2,-⟩:=ab j s hs;obtain⟨s1,s2⟩:=s;simp only at c1 c2
  gi_upto_region 6 with fail
  obtain⟨w5,fQ⟩:=aC ((w.alloc (ζ #[ι ξ (j:Int)] 3)).alloc (ζ #[ι ξ (s1:Int),ι ξ (s2:Int)] 172));rw[<-fQ];obtain⟨b6,br⟩:=aF w.heap.size;have bf:φ w.heap.size w w5:=by rw[fQ];exact((cV _ _).alloc (zL0) _).alloc (by simp) _
  have k6:aj w5 b6 #[ι ξ (j:Int)] 3:=by rw[fQ,<-br];exact(aj.new ..).alloc _
  have k7:aj w5 (b6+1) #[ι ξ (s1:Int),ι ξ (s2:Int)] 172:=by
   rw[fQ,<-br];have:=aj.new (w.alloc (ζ #[ι ξ (j:Int)] 3)) #[ι ξ (s1:Int),ι ξ (s2:Int)] 172
   rwa [eC]at this
  have M5:=M.below bf;have C5:=hC.move fun D aq=>bf.block D (ei.1 (hC.at' D aq)).1
  have n6:¬wT B vA gs b6/\¬wT B vA gs (b6+1):=⟨fun e=>by have:=M.lt e;omega,fun e=>by have:=M.lt e;omega⟩;rw[br];clear fQ bf c1 c2 V ab M hC;obtain⟨V,-,-⟩:=IC.out w5 M5.b;have x1:=M5.k1.a0;have m0:=V.a0;have m1:=V.a1;have m2:=V.a2;have m3:=V.a3;have m4:=V.a4;have m5:=V.a5;have y1:=k7.a0;have y2:=k7.a1;refine kV 5 (by kernel_rfl) (by kernel_rfl) (by kernel_rfl) ?_
  dsimp only[List.take,List.drop,List.length]
  repeat (gi_big_quiet_step (fail))
  refine wpQuietIn_nil ?_;rintro _⟨qX,rfl⟩;refine wpAnyIn_ready (rs:=[5]) (by kernel_rfl) (by simp) (AllReadyIn.cons rfl (fun y l=>?_) AllReadyIn.nil)
  go_simp
  refine⟨trivial,(gh.2 aj1).mono ?_⟩;rintro e w7⟨rfl,O⟩;refine l _ _ (wpAnyIn_done (by kernel_rfl) ?_ _);clear l y;have b9:Hid (w7=_):=O;clear x1 m0 m1 m2 m3 m4 m5 y1 y2 V O
  gi_wp2
  have O:=b9.out;clear b9;obtain⟨bm,wN⟩:=aF w5.heap.size;have cW:w7.heap.size=bm+2:=by rw[O];simp[wN]
  have fG:φ w5.heap.size w5 w7:=by rw[O];exact((show φ w5.heap.size w5 (w5.drewN qX) from ⟨rfl,rfl,rfl,zL0,fun _ _=>rfl⟩).alloc (zL0) _).alloc (by rw[eC];exact nh _) _
  have kM:aj w7 bm #[ς c.ta c.nT c.tc,c.v1,ς (ο ⟨c.gP,0,ν⟩) c.P.length c.pc,c.v3,c.v4,.map (ο c.gm)] 86:=by
   rw[O,<-wN];exact(aj.new (w5.drewN qX) _ _).alloc _
  have kS:aj w7 (bm+1) #[ι ξ (s1:Int),ι ξ (s2:Int)] 172:=by
   rw[O,<-wN];have:=aj.new ((w5.drewN qX).alloc (ζ #[ς c.ta c.nT c.tc,c.v1,ς (ο ⟨c.gP,0,ν⟩) c.P.length c.pc,c.v3,c.v4,.map (ο c.gm)] 86)) #[ι ξ (s1:Int),ι ξ (s2:Int)] 172
   rwa [eC]at this
  have M7:=M5.below fG;have XT:=k6.on fG;have C7:=C5.move fun D aq=>fG.block D (ei.1 (C5.at' D aq)).1
  have nM:¬wT B vA gs bm/\¬wT B vA gs (bm+1):=⟨fun e=>by have:=M5.lt e;omega,fun e=>by have:=M5.lt e;omega⟩;have zT:Hid (jl c W B w7 vA K gs ss/\r9 w7 Ds/\mW S (c.qB S j 0) K ss):=⟨M7,C7,I⟩;have HK:Hid (∀{m zW gs'},nR B w7 vA gs m zW gs'->aj m b6 #[ι ξ (j:Int)] 3):=fun X=>(X.aK b6 XT.lt n6.1).trans XT
  have HR:Hid (∀{m zW K' gs' ss'},jl c W B m zW K' gs' ss'->nR B w7 vA gs m zW gs'->Ma w0 F m bm (ς c.ta c.nT c.tc) c.v1 (ς (ο ⟨c.gP,0,ν⟩) c.P.length c.pc) c.v3 c.v4 c.gm c.f/\aj m (bm+1) #[ι ξ (s1:Int),ι ξ (s2:Int)] 172):=fun M' X=>by
   obtain⟨-,kp,-⟩:=IC.out _ M'.b;exact⟨⟨(X.aK bm kM.lt nM.1).trans kM,kp,hF.goes.move (kp _ hF.fm)⟩,(X.aK (bm+1) kS.lt nM.2).trans kS⟩
  have Mr:B+4<=w7.heap.size:=M7.k5.lt;have c3:(w5.drewN qX).heap.size=bm:=wN
  try simp only[c3]
  try rw[wN]
  clear O fG kM kS nM M7 C7 XT M5 C5 k6 k7 I;have aA:=aj2 (w0:=w0) (F:=F) (bm:=bm) (bs:=bm+1) (gm:=c.gm) (gP:=c.gP) (pc:=c.pc) (q:=s1) (n:=s2) (v0:=ς c.ta c.nT c.tc) (v1:=c.v1) (v3:=c.v3) (v4:=c.v4) (f:=c.f) hF.prods hF.pl hF.rl;refine BF (gf:=166) (lb:=#[π (ο ⟨bm,0,ν⟩),π (ο ⟨bm+1,0,ν⟩)]) rfl (enters_of func166 (by kernel_rfl) rfl) aA (fun _=>rfl) (xX c W B S j w7 vA gs) (xX.oD Mr) (fun i Z m h=>by obtain⟨v',K',g',s',M',-,X',-⟩:=h;exact HR.out M' X') ⟨vA,K,gs,ss,zT.out.1,zT.out.2.2,nR.refl _ _ _ _,fun k h=>h.elim⟩
   (fun x a' m=>∃Bx,w7.heap.size+2<=Bx/\aj m Bx #[ι ξ (x.2:Int),ι ξ (x.1.1:Int)] 187/\a'={ tmps:=#[π (ο ⟨c.lb,0,ν⟩),π (ο ⟨B,0,ν⟩),.map ν,ς ν 0 0,π (ο ⟨B+1+1,0,ν⟩),π (ο ⟨B+1+1+1,0,ν⟩),π (ο ⟨b6,0,ν⟩),π (ο ⟨b6+1,0,ν⟩),π (ο ⟨Bx,0,ν⟩),u9,yF,.map (ο (B+1)),π (ο ⟨c.lb,0,ν⟩),π (ο ⟨c.lb,0,ν⟩),π (ο ⟨c.lb,9,ν⟩),ς (ο ⟨g,0,ν⟩) S.st.length sc,ι ξ (S.st.length:Int),ι ξ (j:Int),μ η,ι ξ (j:Int),π (ο ⟨g,j*2,ν⟩),γ #[ι ξ (s1:Int),ι ξ (s2:Int)],π (ο ⟨c.lb,0,ν⟩),π (ο ⟨c.lb,0,ν⟩),π (ο ⟨c.lb,0,ν⟩),γ #[ς c.ta c.nT c.tc,c.v1,ς (ο ⟨c.gP,0,ν⟩) c.P.length c.pc,c.v3,c.v4,.map (ο c.gm)],γ #[ι ξ (s1:Int),ι ξ (s2:Int)],.func (.func 166) #[] #[π (ο ⟨bm,0,ν⟩),π (ο ⟨bm+1,0,ν⟩)],bq (aW.end x),aH,bd,aV,bx,bo,bi,bb,bv,aR,bp,zO,bt,zP,aP,sD,ba,bc,aX,zQ,bg,bh,yG,bj,yH,ak,wK,am,yK,yL,ah,az,ai,LM,LP,ax,a9,LQ,an,LU],defers:=[] })
   ?hAx ?assign ?body ?done
  case hAx=>
   rintro x a' A o'⟨Bx,h1,h2,rfl⟩;exact⟨Bx,h1,(World.putObj_heap_other (by omega)).trans h2,rfl⟩
  case assign=>
   rintro l' i⟨⟨k,d⟩,r⟩Z m K' hsz hi cy;simp only[Vo,bq]
   gi_wp2
   exact cy _ _ (by simp) (fun k _ hk=>ed _ _ _ hk) ((xX.oD Mr).own _ _ _ _ ν hi (sg _ _ ν) (fun r e=>by cases e)) ⟨m.heap.size,by omega,aj.new ..,rfl⟩
  case body=>
   clear aA HR;rintro l' i⟨⟨k,d⟩,r⟩Z a' m hx⟨Bz,H,G,bz,C,I1,X1,z⟩⟨Bx,cK,kX,rfl⟩;have ag:(c.Fy (s1,s2))[i]?=ο ((k,d),r):=hx;obtain⟨V,-,ab⟩:=IC.out m C.b;obtain⟨-,-,-,-,ga,ca,gj,Fa,cj,bu,al,cP,cO⟩:=ab j (s1,s2) hs;have b8:m.cell? ⟨c.lb,10,ν⟩=ο (ς (ο ⟨ga,0,ν⟩) S.gs.length ca):=by rw[<-Fa];exact V.cell 10
   have k6:=HK.out X1;have x0:m.cell? ⟨Bx,0,ν⟩=ο (ι ξ (r:Int)):=kX.cell 0;have x1:m.cell? ⟨Bx,1,ν⟩=ο (ι ξ (k:Int)):=kX.cell 1;have x4:m.cell? ⟨B+1+1,0,ν⟩=ο (.map (ο (B+1))):=C.k4.cell 0;have ao:=I1.nd
   by_cases hin:aW.end ((k,d),r)∈H
   ·obtain⟨p,hp⟩:=fb.1 hin
    have ac:=iF.hit Tryz.Ko Tryz.JH C.kg ao hp;simp only[bq,aW.end]at ac;obtain⟨gp,wU⟩:∃g,G[p]?=ο g:=⟨_,cG (by rw[C.lg];exact iD hp)⟩;obtain⟨cD,ws,Y,MJ,hlp⟩:=C.sets p gp wU;obtain⟨gA,cA,MK,ae⟩:=jC C.row (j:=p) (u:=iw c.nw gp) (by rw[dj,wU];rfl);have cp:m.cell? ⟨gA,p,ν⟩=ο (ς (ο ⟨gp,0,ν⟩) c.nw c.nw):=ae p _ (by rw[dj,wU];rfl);have x5:m.cell? ⟨B+1+1+1,0,ν⟩=ο (ς (ο ⟨gA,0,ν⟩) G.length cA):=by rw[<-MK];exact C.k5.cell 0
    have xb:=C.k1.a0;have xj:=k6.a0;have Kw:∀nq,_:=fun nq=>Nv (w:=m.drewN nq) (g:=gp) (h:=gj) (nw:=c.nw) (MJ.move rfl) (bu.move rfl) (fun e=>by omega) hlp al bR
    have e1:=Oh Y;have HN:Hid (∀nq W9(a:Act),TP (m.drewN nq) gp (dZ ws (S.ss.getD j [])) W9->tq Z (xX c W B S j w7 vA gs (i+1) Z) m .normal a W9):=fun nq W9 a Fz=>by
     have R:φ m.heap.size m (m.drewN nq):=⟨rfl,rfl,rfl,zL0,fun _ _=>rfl⟩;obtain⟨M9,X9⟩:=(C.below R).join (p:=p) wU (by rw[dZ,yY];exact hlp) Fz;have I9:=(I1.hit (j:=j) hp (by rw[al,e1,hlp])).ext (aa2 hs ag);rw[e1]at I9;exact xX.next X1 z M9 I9 ((nR.below R).trans X9)
    have d0:(0:Int)<=(p:Int):=by omega
    have d1:(p:Int)<(G.length:Int):=by have:=iD wU;omega
    have d2:(j:Int)<(S.gs.length:Int):=by omega
    clear C I1 X1 z hx ag V ab bu al MJ hlp Y wU MK ae hin hp ao k6 kX e1 Fa HK zT
    gi_upto_region 13 with fail
    refine Nn 11 (by kernel_rfl) (by kernel_rfl) (by kernel_rfl) (by kernel_rfl) ?_
    dsimp only[List.take,List.drop,List.length]
    repeat (gi_big_quiet_step (fail))
    refine wpQuietIn_nil ?_;rintro _⟨co,rfl⟩;refine wpAnyIn_ready (rs:=[11]) (by kernel_rfl) (by simp) (AllReadyIn.cons rfl (fun y l=>?_) AllReadyIn.nil)
    go_simp
    refine⟨trivial,(gh.2 (Kw _)).mono ?_⟩;rintro e W9⟨b,rfl,Fz,-⟩;refine l _ _ (wpAnyIn_done (by kernel_rfl) ?_ _);clear l y
    gi_wp2
    exact HN.out _ _ _ Fz
   ·have ac:=iF.miss Tryz.Ko Tryz.JH Tryz.Gl C.kg hin
    simp only[bq,aW.end]at ac;obtain⟨W2,bw,bn,aw,cw⟩:=iF.put Tryz.Ko Tryz.JH C.kg hin;simp only[bq,aW.end]at bw;obtain⟨va,vc,rfl,-⟩:=aB C.row;have x5:m.cell? ⟨B+1+1+1,0,ν⟩=ο (ς va H.length vc):=by rw[<-C.lg];exact C.k5.cell 0
    have lB:=C.k5.lt;have e2:∀k,k<m.heap.size->k≠B+1->W2.heap[k]?=m.heap[k]?:=fun k hk hn=>aw.block k hk fun e=>hn (by cases e;rfl)
    have l2:=aw.size;have ML:aj W2 c.lb (c.cells S) 92:=(e2 _ V.lt fun e=>by have:=C.kg;rw[<-e]at this;obtain⟨es,cl,h3,-⟩:=this;have Im:=V;unfold aj at Im;rw[h3]at Im;cases Im).trans V;have QU:aj W2 (B+1+1+1) #[ς va H.length vc] 88:=(e2 (B+3) lB (by omega)).trans (by rw[<-C.lg];exact C.k5);have cm:aj W2 B #[π (ο ⟨c.lb,0,ν⟩)] 176:=(e2 B (by omega) (by omega)).trans C.k1;obtain⟨L,af⟩:=aF W2.heap.size;obtain⟨i0,c5,c7,cC,cb⟩:=ft Tryz.TI;obtain⟨X3,IE⟩:=aC (((W2.alloc (ζ (oh (ψ c.nw 0)) 275)).alloc (ζ #[ς (ο ⟨L,0,ν⟩) c.nw c.nw] 174)).drew);have bT:X3.heap.size=L+2:=by
     rw[IE];show ((W2.alloc (ζ (oh (ψ c.nw 0)) 275)).alloc (ζ #[ς (ο ⟨L,0,ν⟩) c.nw c.nw] 174)).heap.size=L+2;rw[eC,eC,af]
    have ad:φ W2.heap.size W2 X3:=by
     rw[IE];exact(((cV _ _).alloc (zL0) _).alloc (by rw[eC];exact nh _) _).drew
    have rX:X3.ownsRow (B+4) 174 1 (ς va G.length vc) G.length (G.map (iw c.nw)):=ay C.row fun k hk=>by
     have c6:=C.row.lt k hk;exact(ad.block k (by omega)).trans (e2 k c6.2 (by omega))
    have nX:∀j u,[ς (ο ⟨L,0,ν⟩) c.nw c.nw][j]?=ο u->X3.cell? ((⟨L+1,0,ν⟩:Addr).add j)=ο u:=by
     have kN:aj X3 (L+1) #[ς (ο ⟨L,0,ν⟩) c.nw c.nw] 174:=by
      rw[IE];have:=aj.new (W2.alloc (ζ (oh (ψ c.nw 0)) 275)) #[ς (ο ⟨L,0,ν⟩) c.nw c.nw] 174;rw[eC,af]at this;exact this.drew
     exact bQ kN
    have cF:H.length<=1000000000:=IB H ao fun e he=>by
     obtain⟨q,hq⟩:=(I1.mem e).1 he;rcases hq with ⟨-,hq⟩|⟨rfl,s',x',cs,cr,rfl⟩
     ·exact⟨q,hq⟩
     ·exact⟨q,s',x',cs,mw cr,rfl⟩
    obtain⟨v9,T,zI,kI,uz,-,iY⟩:=run_append_own_at (P:=prog) X3 (B+4) 88 88 174 i0 _ 1 24 Tryz.adK c5 c7 cC cb rfl (by decide) (ς va G.length vc) G.length (G.map (iw c.nw)) rX ⟨L+1,0,ν⟩ 1 1 [ς (ο ⟨L,0,ν⟩) c.nw c.nw] rfl nX (by simp[Value.oneCell']) (by rw[C.lg];unfold maxLen;omega) (by rw[C.lg];omega) (by rw[bT];omega);rw[C.lg]at zI kI rX;obtain⟨N,bM,rfl⟩:∃g c,v9=ς (ο ⟨g,0,ν⟩) (H.length+1) c:=by
     obtain⟨g,cp,e,-⟩:=jC kI (j:=0) (u:=(G.map (iw c.nw)++[ς (ο ⟨L,0,ν⟩) c.nw c.nw])[0]) (cG _);exact⟨g,cp,e⟩
    obtain⟨U,ar⟩:=aF (H.length+1);rw[ar]at zI kI iY;have cE:Hid _:=ar;have tN:TS X3 L (ψ c.nw 0):=by
     have h1:TS (W2.alloc (ζ (oh (ψ c.nw 0)) 275)) W2.heap.size (ψ c.nw 0):=TS.new ..;rw[af]at h1;rw[IE];exact(h1.move (ed _ _ _ h1.blk.lt)).move rfl
    obtain⟨M9,X9⟩:=C.put (e:=aW.end ((k,d),r)) (g:=L) (v:=ς (ο ⟨N,0,ν⟩) U bM) (w3:=T) (W2:=X3) (aI aw (I4 ad _)) (bn.move (ad.block _ bn.lt)) (by omega) tN uz (by rw[cJ,C.lg,ee];show T.ownsRow _ _ _ _ (H.length+1) _;rw[ar];exact kI) (iY.imp id fun e=>⟨_,e,zL0⟩);have f9:T.frozen? ⟨B+1+1+1,0,ν⟩=ε/\T.cell? ⟨B+1+1+1,0,ν⟩=ο (ς va H.length vc):=by
     have kx:=QU.on ad;have k9:=kx.grown uz fun e=>by have:=(C.row.lt _ e.symm).1;omega
     exact⟨k9.frozen 0,k9.cell 0⟩
    obtain⟨da,c9⟩:=f9;have b2:=HK.out (X1.trans X9);obtain⟨Ih,-,ce⟩:=IC.out _ M9.b;obtain⟨-,-,-,-,cc,c4,b3,bF,cd,b5,Vz,cI,cU⟩:=ce j (s1,s2) hs;have wU:(G++[L])[H.length]?=ο L:=by rw[<-C.lg];simp
    obtain⟨cD,ws,Y,MJ,hlp⟩:=M9.sets H.length L wU;obtain⟨gA,cA,MK,ae⟩:=jC M9.row (j:=H.length) (u:=iw c.nw L) (by rw[dj,wU];rfl);have cq:N=gA:=by
     injection MK with e1 e2 e3
     cases e1;rfl
    subst cq;clear MK;have I9:=(I1.miss (j:=j) (nw:=c.nw) hin Vz).ext (aa2 hs ag);have e1:=Oh Y;rw[e1]at I9;have HN:Hid (∀nq W9(a:Act),TP ((T.setCell ⟨B+1+1+1,0,ν⟩ (ς (ο ⟨N,0,ν⟩) U bM)).drewN nq) L (dZ ws (S.ss.getD j [])) W9->tq Z (xX c W B S j w7 vA gs (i+1) Z) m .normal a W9):=fun nq W9 a Fz=>by
     have R:φ (T.setCell ⟨B+3,0,ν⟩ (ς (ο ⟨N,0,ν⟩) U bM)).heap.size (T.setCell ⟨B+3,0,ν⟩ (ς (ο ⟨N,0,ν⟩) U bM)) ((T.setCell ⟨B+3,0,ν⟩ (ς (ο ⟨N,0,ν⟩) U bM)).drewN nq):=⟨rfl,rfl,rfl,zL0,fun _ _=>rfl⟩;obtain⟨MA,XA⟩:=(M9.below R).join (p:=H.length) wU (by rw[dZ,yY];exact hlp) Fz;exact xX.next X1 z MA I9 ((X9.trans (nR.below R)).trans XA)
    have Kw:∀nq,_:=fun nq=>Nv (w:=(T.setCell ⟨B+1+1+1,0,ν⟩ (ς (ο ⟨N,0,ν⟩) U bM)).drewN nq) (g:=L) (h:=b3) (nw:=c.nw) (MJ.move rfl) (b5.move rfl) (fun e=>by omega) hlp Vz bR
    have cp:(T.setCell ⟨B+1+1+1,0,ν⟩ (ς (ο ⟨N,0,ν⟩) U bM)).cell? ⟨N,H.length,ν⟩=ο (ς (ο ⟨L,0,ν⟩) c.nw c.nw):=ae H.length _ (by rw[dj,wU];rfl);have y5:(T.setCell ⟨B+1+1+1,0,ν⟩ (ς (ο ⟨N,0,ν⟩) U bM)).cell? ⟨B+1+1+1,0,ν⟩=ο (ς (ο ⟨N,0,ν⟩) U bM):=M9.k5.cell 0;have yb:(T.setCell ⟨B+1+1+1,0,ν⟩ (ς (ο ⟨N,0,ν⟩) U bM)).cell? ⟨B,0,ν⟩=ο (π (ο ⟨c.lb,0,ν⟩)):=M9.k1.cell 0;have yj:(T.setCell ⟨B+1+1+1,0,ν⟩ (ς (ο ⟨N,0,ν⟩) U bM)).cell? ⟨b6,0,ν⟩=ο (ι ξ (j:Int)):=b2.cell 0;have yk:(T.setCell ⟨B+1+1+1,0,ν⟩ (ς (ο ⟨N,0,ν⟩) U bM)).cell? ⟨c.lb,10,ν⟩=ο (ς (ο ⟨cc,0,ν⟩) S.gs.length c4):=by rw[<-bF];exact Ih.cell 10
    have bN:(T.setCell ⟨B+1+1+1,0,ν⟩ (ς (ο ⟨N,0,ν⟩) U bM)).cell? ⟨cc,j,ν⟩=ο (ς (ο ⟨b3,0,ν⟩) c.nw c.nw):=cd;obtain⟨ct,VA⟩:=aC (T.setCell ⟨B+1+1+1,0,ν⟩ (ς (ο ⟨N,0,ν⟩) U bM));rw[<-VA]at HN Kw cp y5 yb yj yk bN;have mt:=ML.a0;have lk:=ML.lt;have l5:=QU.lt;have bV:=QU.a0;have wV:=cm.a0;have cg:∀o,(W2.alloc o).cell? ⟨B+1+1+1,0,ν⟩=ο (ς va H.length vc):=fun o=>(cQ (w:=W2) (ed _ _ _ l5)).trans bV
    have cx:∀o o',((W2.alloc o).alloc o').cell? ⟨B+1+1+1,0,ν⟩=ο (ς va H.length vc):=fun o o'=>(cQ (w:=W2.alloc o) (ed _ _ _ (by rw[eC];exact Nat.lt_succ_of_lt l5))).trans (cg o)
    have Fv:χ prog 58 #[ι ξ (c.nT:Int)] W2.drew fun e w'=>e=δ (ς (ο ⟨W2.drew.heap.size,0,ν⟩) c.nw c.nw)/\w'=W2.drew.alloc (ζ (oh (ψ c.nw 0)) 275):=Rx (w:=W2.drew) (n:=c.nT) hF.nT.2
    have cX:Hid _:=af;have d0:(0:Int)<=(H.length:Int):=by omega
    have d3:(H.length:Int)<(U:Int):=by omega
    have d2:(j:Int)<(S.gs.length:Int):=by omega
    clear C M9 X9 I1 I9 X1 z hx ag V ab bu al MJ hlp Y wU ae hin ao k6 kX e1 Fa HK zT Ih ce b5 Vz bF b2 tN rX nX ad kI uz iY bn aw ML QU cm cd e2 ar cw bT
    gi_upto_region 12 with fail
    rename_i K5 uI;have ch:K5 { tmps:=#[π (ο ⟨c.lb,0,ν⟩),π (ο ⟨B,0,ν⟩),.map ν,ς ν 0 0,π (ο ⟨B+1+1,0,ν⟩),π (ο ⟨B+1+1+1,0,ν⟩),π (ο ⟨b6,0,ν⟩),π (ο ⟨b6+1,0,ν⟩),π (ο ⟨Bx,0,ν⟩),ι ξ (H.length:Int),μ ε,.map (ο (B+1)),π (ο ⟨c.lb,0,ν⟩),π (ο ⟨c.lb,0,ν⟩),π (ο ⟨c.lb,9,ν⟩),ς (ο ⟨g,0,ν⟩) S.st.length sc,ι ξ (S.st.length:Int),ι ξ (j:Int),μ η,ι ξ (j:Int),π (ο ⟨g,j*2,ν⟩),γ #[ι ξ (s1:Int),ι ξ (s2:Int)],π (ο ⟨c.lb,0,ν⟩),π (ο ⟨c.lb,0,ν⟩),π (ο ⟨c.lb,0,ν⟩),γ #[ς c.ta c.nT c.tc,c.v1,ς (ο ⟨c.gP,0,ν⟩) c.P.length c.pc,c.v3,c.v4,.map (ο c.gm)],γ #[ι ξ (s1:Int),ι ξ (s2:Int)],.func (.func 166) #[] #[π (ο ⟨bm,0,ν⟩),π (ο ⟨bm+1,0,ν⟩)],bq (aW.end ((k,d),r)),θ #[ι ξ 0,μ ε],.map (ο (B+1)),γ #[ι ξ (r:Int),ι ξ (k:Int)],θ #[ι ξ 0,μ ε],ι ξ 0,μ ε,μ ε,μ η,ς va H.length vc,ι ξ (H.length:Int),.map (ο (B+1)),γ #[ι ξ (r:Int),ι ξ (k:Int)],ι ξ (H.length:Int),ς va H.length vc,π (ο ⟨c.lb,0,ν⟩),π (ο ⟨c.lb,0,ν⟩),π (ο ⟨c.lb,0,ν⟩),π (ο ⟨c.lb,0,ν⟩),π (ο ⟨c.lb,0,ν⟩),ς c.ta c.nT c.tc,ι ξ (c.nT:Int),ς (ο ⟨L,0,ν⟩) c.nw c.nw,ς (ο ⟨L+1,0,ν⟩) 1 1,ς (ο ⟨N,0,ν⟩) U bM,ak,wK,am,yK,yL,ah,az,ai,LM,LP,ax,a9,LQ,an,LU],defers:=[] } ct:=by
     refine uI _ _ ?_;clear uI K5 x0 x1 x4 x5 ac bw b8 cj mt bV wV cg cx Fv zI IE VA
     gi_wp2
     refine Nn 11 (by kernel_rfl) (by kernel_rfl) (by kernel_rfl) (by kernel_rfl) ?_
     dsimp only[List.take,List.drop,List.length]
     repeat (gi_big_quiet_step (fail))
     refine wpQuietIn_nil ?_;rintro _⟨co,rfl⟩;refine wpAnyIn_ready (rs:=[11]) (by kernel_rfl) (by simp) (AllReadyIn.cons rfl (fun y l=>?_) AllReadyIn.nil)
     go_simp
     refine⟨trivial,(gh.2 (Kw _)).mono ?_⟩;rintro e W9⟨b,rfl,Fz,-⟩;refine l _ _ (wpAnyIn_done (by kernel_rfl) ?_ _);clear l y
     gi_wp2
     exact HN.out _ _ _ Fz
    clear uI HN Kw cp y5 yb yj yk bN x0 x1 x4 x5 ac bw b8 cj;rw[IE]at zI;refine wpIn_region_any hm (Je rfl (by kernel_rfl) l' _ _ _ _ ?_)
    change wpAnyIn _ _ _ _ _ _ _ _ _ (World.drew _)
    repeat' (first
     | (refine wpAnyIn_done (by decide +kernel) ?_ _;rw[<-VA];exact ch)
     | (refine iW 10 (by decide +kernel) rfl fun y l=>?_;refine Na rfl (.tmp 42) (.tmp 51) 88 88 rfl _ _ rfl rfl _ _ zI ?_;refine l _ _ ?_;clear l y)
     | ((first
      | refine iW 1 (by decide +kernel) rfl fun y l=>?_
      | refine iW 2 (by decide +kernel) rfl fun y l=>?_
      | refine iW 3 (by decide +kernel) rfl fun y l=>?_
      | refine iW 4 (by decide +kernel) rfl fun y l=>?_
      | refine iW 5 (by decide +kernel) rfl fun y l=>?_
      | refine iW 6 (by decide +kernel) rfl fun y l=>?_
      | refine iW 7 (by decide +kernel) rfl fun y l=>?_
      | refine iW 8 (by decide +kernel) rfl fun y l=>?_
      | refine iW 9 (by decide +kernel) rfl fun y l=>?_
      | refine iW 11 (by decide +kernel) rfl fun y l=>?_
      | refine iW 0 (by decide +kernel) rfl fun y l=>?_
      | refine jQ 0 1 (by decide +kernel) rfl rfl (fun y l=>?_) fun y l=>?_
      | refine jQ 0 2 (by decide +kernel) rfl rfl (fun y l=>?_) fun y l=>?_
      | refine jQ 0 3 (by decide +kernel) rfl rfl (fun y l=>?_) fun y l=>?_
      | refine jQ 0 4 (by decide +kernel) rfl rfl (fun y l=>?_) fun y l=>?_
      | refine jQ 0 5 (by decide +kernel) rfl rfl (fun y l=>?_) fun y l=>?_
      | refine jQ 0 6 (by decide +kernel) rfl rfl (fun y l=>?_) fun y l=>?_
      | refine jQ 0 7 (by decide +kernel) rfl rfl (fun y l=>?_) fun y l=>?_
      | refine jQ 0 8 (by decide +kernel) rfl rfl (fun y l=>?_) fun y l=>?_
      | refine jQ 0 9 (by decide +kernel) rfl rfl (fun y l=>?_) fun y l=>?_) <;> (go_simp;(first | refine l _ _ ?_ | (refine⟨trivial,(gh.2 Fv).mono ?_⟩;rintro e wq⟨rfl,c0⟩;subst c0;refine l _ _ ?_));clear l y)))
  case done=>
   rintro D Z m aq oF⟨Bz,H,G,bz,C,I1,X1,z⟩XF;obtain⟨M7,C7,I7⟩:=zT.out
   gi_wp2
   refine⟨S.st.length - (j+1),by omega,hJ _ _ _ ⟨_,_,_,_,_,_,_,_,_,_,_,_,_,_,_,_,_,_,_,_,_,_,_,_,_,_,_,_,_,_,_,_,_,_,_,_,_,_,_,_,_,_,_,_,_,_,_,_,_,_,_,_,_,_,_,D::Ds,j+1,Bz,H,G,bz,rfl,by omega,rfl,C,I1.ext (aku hs),⟨tR.2 ⟨fun e=>?_,C7.nd⟩,fun E hE=>?_⟩,fun E hE=>?_⟩⟩
   ·have:=(ei.1 (C7.at' D e)).1
    omega
   ·rcases fh.1 hE with rfl | hE
    ·exact XF
    ·exact(X1.aK E (ei.1 (C7.at' E hE)).1 fun e=>M7.DR e _ (C7.at' E hE)).trans (C7.at' E hE)
   ·rcases fh.1 hE with rfl | hE
    ·omega
    ·exact hD E hE
 ·obtain rfl:j=S.st.length:=by omega
  obtain⟨va,vc,rfl,-⟩:=aB M.row;have x4:w.cell? ⟨B+1+1,0,ν⟩=ο (.map (ο (B+1))):=M.k4.cell 0;have x5:w.cell? ⟨B+1+1+1,0,ν⟩=ο (ς va gs.length vc):=M.k5.cell 0;have HE:Hid (∀nq w',Vv Ds (w.drewN nq) w'->MH c W S (δ (θ #[.map (ο (B+1)),ς va gs.length vc])) w'):=fun nq w' hw=>aE.out _ _ _ _ _ (M.move (fun k hk ho=>hw.heap k fun e=>M.DR ho _ (hC.at' k e)) ⟨hw.fr.1.trans M.b.1,hw.fr.2.1.trans M.b.2,hw.fr.2.2.trans M.b.3,by rw[hw.bL];exact M.b.4,fun k hk=>(hw.heap k fun e=>by have:=hD k e;omega).trans (M.b.block k hk)⟩) I
  have HC:Hid (∀nq,r9 (w.drewN nq) Ds):=fun nq=>hC.move fun _ _=>rfl
  clear M I hC hD IC aE
  gi_upto_region 15 with fail
  refine ai3 hm (by kernel_rfl) ?_
  repeat (gi_big_quiet_step (fail))
  refine wpQuietIn_nil ?_;rintro _⟨qX,rfl⟩;rw[hQ]
  gi_wp2
  exact RG Ds _ (HC.out qX) fun w' hw=>⟨θ #[.map (ο (B+1)),ς va gs.length vc],results_tmp2 (fn:=Tryz.f65) (t:=2) (u:=3) rfl _ _ _,HE.out qX w' hw⟩
end
end
namespace Lx
theorem Uk{c:List (Nat×Nat×Nat)}{N:Nat}(b:0<N)(h:∀e∈c,e.2.2<N)(a:Nat×Nat):∀k,jB c k a<N
 |0=>b
 |k+1=>by
  unfold jB
  split
  ·rename_i e he
   split
   ·exact h e (cM he)
   ·exact Uk b h a k
  ·exact Uk b h a k
theorem ac4{f:Nat×Nat->Nat}{N:Nat}(b:∀a,f a<N):∀(l:List Nat)(q:Nat),q<N->uE f q l<N
 | [],_,hq=>hq
 |x::l,q,_=>ac4 b l (f (q,x)) (b _)
theorem alL(h:x≠0)(a:x<2 ^ 64):Lib.ctz 64 x<64/\x.testBit (Lib.ctz 64 x)=η:=by
 obtain⟨h1,h2⟩:=Lib.lowest_bit 64 x h a;refine⟨h2,?_⟩;have:(x &&& (2 ^ 64-x)).testBit (Lib.ctz 64 x)=η:=by rw[h1,Nat.testBit_two_pow_self]
 rw[we,ml]at this;exact this.1
theorem akv(h:x≠0)(f:x<2 ^ 64):∀i,i<Lib.ctz 64 x+1->(x &&& (x-1)).testBit i=ε:=fun i b=>by
 obtain⟨m,a,-⟩:=Lib.ctzFrom_spec 64 x (by omega) f;have e:Lib.ctz 64 x=Lib.ctzFrom 64 x:=dt h;rw[<-e]at a;generalize Lib.ctz 64 x=c at a b;have hp:=Nat.two_pow_pos c;rw[we]
 by_cases hc:i=c
 ·subst hc
  have:(x-1).testBit i=ε:=by
   rw[Nat.testBit_eq_decide_div_mod_eq];have d:(x-1) / 2 ^ i=2*m:=by
    rw[a,Nat.mul_add,j9];rw[show 2 ^ i*(2*m)+2 ^ i-1=(2 ^ i-1)+2 ^ i*(2*m) by omega,Nat.add_mul_div_left _ _ hp,ut (by omega),fX]
   rw[d];exact fx (by omega)
  rw[this,Bool.and_false]
 ·have:x.testBit i=ε:=by
   rw[a,Nat.testBit_two_pow_mul];rw[fx (by omega)];rfl
  rw[this,Bool.false_and]
theorem aaw:∀(n x j:Nat),x<=n->x<2 ^ 64->(∀i,i<j->x.testBit i=ε)->(ow x).length<=64-j
 |n,x,j,hn,hx,hj=>by
  by_cases h:x=0
  ·subst h
   rw[ab4];exact fi _
  ·obtain⟨d,b⟩:=alL h hx
   have f:j<=Lib.ctz 64 x:=Nat.le_of_not_lt fun a=>by rw[hj _ a]at b;cases b
   rw[TQ h,eh];have c:x &&& (x-1)<=x-1:=uu
   match n,hn with
   |0,hn=>omega
   |n+1,hn=>
    have:=aaw n _ (Lib.ctz 64 x+1) (by omega) (by omega) (akv h hx);omega
theorem amJ{ws:List Nat}(a:jU ws)(n:Nat):ws.getD n 0<2 ^ 64:=by
 rw[di];cases e:ws[n]? with
 |none=>rw[Option.getD_none];exact Nat.two_pow_pos 64
 |some x=>rw[rj];exact a x (cM e)
theorem ab8{ws:List Nat}(a:jU ws):∀(n:Nat),(oO ws n).length<=n*64
 |0=>zL0
 |n+1=>by
  have:=ab8 a n;have:=aaw _ _ 0 (zL0) (amJ a n) (fun i b=>absurd b (tM _));rw[oO,cJ,dk];omega
end Lx
theorem alM(d t:Nat)(hd:d<=15)(a:t<4096):bits BinOp.or IntKind.i64 ((d*4096:Nat):Int) (t:Int)=((d*4096+t:Nat):Int):=by
 have h1:(BitVec.ofInt 64 ((d*4096:Nat):Int)).toNat=d*4096:=by rw[xT];omega
 have h2:(BitVec.ofInt 64 (t:Int)).toNat=t:=by rw[xT];omega
 have h3:d*4096 ||| t=d*4096+t:=by
  have:=Nat.two_pow_add_eq_or_of_lt (i:=12) (b:=t) a d;rw[show d*4096=2 ^ 12*d by omega];exact this.symm
 show IntKind.i64.wrap ((BitVec.ofInt 64 ((d*4096:Nat):Int) ||| BitVec.ofInt 64 (t:Int)).toNat:Nat)=_;rw[BitVec.toNat_or,h1,h2,h3,gx];omega
section
variable{W0 W W':ω}{B wb:Nat}{vB x:υ}{l:List Nat}
theorem bC.move(h:bC W0 B wb vB W l)(a:φ W.heap.size W W'):bC W0 B wb vB W' l :=
 ⟨(a.block wb h.kw.lt).trans h.blk,ay h.r fun g c=>a.block g (h.kB c).lt,h.b.trans (a.mono h.size),h.lb⟩
theorem Pk.akw(l:List (Nat×Nat×Nat)):Pk.tF l<=l.length:=ti ..
theorem Pk.ahJ{l:List (Nat×Nat×Nat)}{x:Nat×Nat×Nat}(h:l[j]?=ο x):Pk.tF (l.take (j+1))=Pk.tF (l.take j)+(if x.1=0 then 0 else 1):=by
 unfold Pk.tF;rw[ki,h,mT,cJ]
 by_cases e:x.1=0
 ·simp[e]
 ·simp[e]
theorem Pk.Ul:∀(l:List (Nat×Nat×Nat))(g:Nat),(Pk.wP g l).length<=6*l.length
 | [],_=>zL0
 |x::l,g=>by
  have h1:=Pk.Ul l (g+1);have h2:=Pk.Ul l 0;rw[Pk.wP,eh]
  split
  ·omega
  ·simp only[List.length_append,Pk.qJ]
   omega
theorem agK(h:bC W0 W0.heap.size wb vB W l){vP:υ}{d:List (Nat×Nat×Nat)}(hP:lM W0 vP d)(hl:l.length+3+6*d.length<=1000000000)(A:∀x∈d,x.1<=15/\x.2.1<4096):χ prog 40 #[π (ο ⟨wb,0,ν⟩),vP] W fun e W'=>e=δ (θ #[])/\∃iA,bC W0 W0.heap.size wb iA W' (l++Pk.nQ d):=by
 obtain⟨a,c,rfl,hc⟩:=hP;obtain⟨B,Y⟩:=aF W0.heap.size;have L:Hid (∀(wr:ω)(k:List Nat)(v:υ),bC W0 B wb v wr k->∀(j:Nat)x,d[j]?=ο x->∃g,a=ο ⟨g,0,ν⟩/\wr.cell? ⟨g,j*3,ν⟩=ο (ι ξ (x.1:Int))/\wr.cell? ⟨g,j*3+1,ν⟩=ο (ι ξ (x.2.1:Int))/\wr.cell? ⟨g,j*3+2,ν⟩=ο (ι ξ (x.2.2:Int))):=fun wr k v hw j x A=>by
  have G:=hw.b;rw[<-Y]at G;obtain⟨g,e,h1,h2,h3⟩:=hc j x A;exact⟨g,e,aU G h1,aU G h2,aU G h3⟩
 rw[Y]at h|-;clear Y hc;have E:Hid (bC W0 B wb vB W l):=h;clear h;go_enter func40,ntmps40;go_wp2_with fail
 go_loopw [4,12] (fun v i wr=>∃j:Nat,j<=d.length/\i=ι ξ (j:Int)/\v=ι ξ (Pk.tF (d.take j):Int)/\Hid (bC W0 B wb vB wr l)) (fun _ i _=>d.length - (intOf i).toNat)
 case atStart=>exact⟨0,by omega,rfl,rfl,E⟩
 case round=>
  clear E;obtain⟨j,hj,rfl,rfl,r⟩:=hrel
  by_cases hjn:j<d.length
  ·have j1:(j:Int)<(d.length:Int):=by omega
   obtain⟨x,hxj⟩:∃x,d[j]?=ο x:=⟨_,cG hjn⟩;obtain⟨g,rfl,U,P,V⟩:=L.out wr l vB r.out j x hxj;have D:Hid _:=Pk.ahJ hxj;have ht:=Pk.akw (d.take j);rw[fR]at ht;generalize Pk.tF (d.take j)=t1 at D ht;obtain⟨m,p,q⟩:=x;simp only at U P V;have I:Hid (bC W0 B wb vB (wr.alloc (ζ #[ι ξ (m:Int),ι ξ (p:Int),ι ξ (q:Int)] 233)) l):=r.out.move ((cV _ _).alloc (zL0) _);clear r L A
   by_cases h0:m=0
   ·have T:((m:Int) != 0)=ε:=by simp[h0]
    have F:Hid (Pk.tF (d.take (j+1))=t1):=D.out.trans (by simp[h0]);clear D h0;go_wp2_with fail;exact⟨⟨j+1,by omega,by go_num,by rw[F.out],I⟩,by simp[intOf];omega⟩
   ·have T:((m:Int) != 0)=η:=by simp;omega
    have F:Hid (Pk.tF (d.take (j+1))=t1+1):=D.out.trans (by simp[h0]);clear D h0;go_wp2_with fail;exact⟨⟨j+1,by omega,by go_num,by rw[F.out];go_num,I⟩,by simp[intOf];omega⟩
  ·obtain rfl:j=d.length:=by omega
   rw[ff];have z:l.length<=1000000000:=by omega
   have R:χ prog 38 #[π (ο ⟨wb,0,ν⟩),ι ξ 3,ι ξ (Pk.tF d:Int)] wr fun e W'=>e=δ (θ #[])/\∃iA,bC W0 B wb iA W' (l++Pk.be 3 (Pk.tF d))/\jk wr W':=xg (n:=3) r.out (by decide) z
   have M:Hid (Pk.nQ d=Pk.be 3 (Pk.tF d)++Pk.wP 0 d):=rfl;generalize Pk.tF d=tn at R M;clear r;go_upto_region 8 with (go_at_call 38;refine R.mono ?_;rintro e w2⟨rfl,O,h2,-⟩)
   clear R;have E:Hid (∃k o,bC W0 B wb o w2 k/\k++Pk.wP 0 (d.drop 0)=l++Pk.nQ d):=⟨_,O,h2,by rw[M.out,t8,dy]⟩;have HL:Hid ((l++Pk.nQ d).length<=1000000000):=by
    show _<=_;have:=Pk.Ul d 0;rw[M.out];simp only[List.length_append,Pk.qJ];omega
   clear h2 M;go_wp2_with fail
   go_loopw [7,28] (fun v i wr=>∃j g:Nat,j<=d.length/\g<=j/\i=ι ξ (j:Int)/\v=ι ξ (g:Int)/\Hid (∃k o,bC W0 B wb o wr k/\k++Pk.wP g (d.drop j)=l++Pk.nQ d)) (fun _ i _=>d.length - (intOf i).toNat)
   case atStart=>exact⟨0,0,by omega,zL0,rfl,rfl,E⟩
   case round=>
    clear E;revert wr;intro K hrel;obtain⟨j,t,hj,ad,rfl,rfl,r⟩:=hrel;obtain⟨k,o,h1,f⟩:=r.out;clear r
    by_cases hjn:j<d.length
    ·have j1:(j:Int)<(d.length:Int):=by omega
     obtain⟨x,hxj⟩:∃x,d[j]?=ο x:=⟨_,cG hjn⟩;obtain⟨g,rfl,U,P,V⟩:=L.out K k o h1 j x hxj;have hd:d.drop j=x::d.drop (j+1):=by
      obtain⟨hh,e⟩:=cH.1 hxj;rw[eN hh,e]
     have s:=A x (cM hxj);rw[hd,Pk.wP]at f;obtain⟨m,p,q⟩:=x;simp only at U P V s f;obtain⟨C,y⟩:=aC (K.alloc (ζ #[ι ξ (m:Int),ι ξ (p:Int),ι ξ (q:Int)] 233));obtain⟨bx,u⟩:=aF K.heap.size;have H:aj C bx #[ι ξ (m:Int),ι ξ (p:Int),ι ξ (q:Int)] 233:=by rw[y,<-u];exact aj.new ..
     have h2:bC W0 B wb o C k:=by rw[y];exact h1.move ((cV _ _).alloc (zL0) _)
     have x1:=H.a0;clear h1 hd L A
     by_cases h0:m=0
     ·have T:((m:Int) == 0)=η:=by simp[h0]
      rw[du h0]at f;have I:Hid (∃k o,bC W0 B wb o C k/\k++Pk.wP (t+1) (d.drop (j+1))=l++Pk.nQ d):=⟨k,o,h2,f⟩;clear h2 f H h0;go_upto_region 12 with fail
      rw[<-y];clear y u;go_wp2_with fail;exact⟨⟨j+1,t+1,by omega,by omega,by go_num,by go_num,I⟩,by simp[intOf];omega⟩
     ·have T:((m:Int) == 0)=ε:=zB0 (by omega)
      rw[dt h0]at f;have ab:k.length+6<=1000000000:=by
       have h4:=fd List.length f;have J:=HL.out;rw[<-h4]at J;simp only[List.length_append,Pk.qJ]at J;omega
      have HB:Hid (k++(Pk.be 2 t++Pk.be 2 q++Pk.be 2 (m*4096+p)++Pk.wP 0 (d.drop (j+1)))=l++Pk.nQ d):=f;have q1:χ prog 38 #[π (ο ⟨wb,0,ν⟩),ι ξ 2,ι ξ (t:Int)] C fun e W'=>e=δ (θ #[])/\∃iA,bC W0 B wb iA W' (k++Pk.be 2 t)/\jk C W':=xg (n:=2) h2 (by decide) (by omega)
      clear h2 f;go_upto_region 12 with fail
      rw[<-y];clear y u;go_upto_region 15 with (go_at_call 38;refine q1.mono ?_;rintro e w3⟨rfl,aa,h3,o3⟩)
      have N:=o3.blk H (by decide) (by decide);have z3:=N.a2;have q2:χ prog 38 #[π (ο ⟨wb,0,ν⟩),ι ξ 2,ι ξ (q:Int)] w3 fun e W'=>e=δ (θ #[])/\∃iA,bC W0 B wb iA W' (k++Pk.be 2 t++Pk.be 2 q)/\jk w3 W':=xg (n:=2) h3 (by decide) (by rw[cJ,Pk.qJ];omega)
      clear q1 h3 o3 H x1;go_upto_region 16 with (go_at_call 38;refine q2.mono ?_;rintro e Z⟨rfl,ac,h4,o4⟩)
      have S:=o4.blk N (by decide) (by decide);have z1:=S.a0;have z2:=S.a1;have q3:χ prog 38 #[π (ο ⟨wb,0,ν⟩),ι ξ 2,ι ξ ((m*4096+p:Nat):Int)] Z fun e W'=>e=δ (θ #[])/\∃iA,bC W0 B wb iA W' (k++Pk.be 2 t++Pk.be 2 q++Pk.be 2 (m*4096+p))/\jk Z W':=xg (n:=2) h4 (by decide) (by rw[cJ,cJ,Pk.qJ,Pk.qJ];omega)
      have eo:=alM m p s.1 s.2;rw[show ((m*4096:Nat):Int)=(m:Int)*4096 by omega]at eo;obtain⟨yy,X⟩:=aF (m*4096+p);rw[X]at q3 eo;have HY:Hid (m*4096+p=yy):=X;clear q2 h4 o4 N S z3 X
      go_wp2_with (go_at_call 38;refine q3.mono ?_;rintro e w5⟨rfl,Q,J,o5⟩)
      refine⟨⟨j+1,0,by omega,by omega,by go_num,rfl,_,Q,J,?_⟩,by simp[intOf];omega⟩;rw[<-HB.out,HY.out];simp only[List.append_assoc]
    ·obtain rfl:j=d.length:=by omega
     rw[im,Pk.wP,fW]at f;have F:Hid (bC W0 B wb o K (l++Pk.nQ d)):=by rw[<-f];exact h1
     clear h1 f;go_wp2_with fail
     go_end0
     exact⟨rfl,o,F.out⟩
end
namespace Pk
def By(l:List Nat):Prop:=∀x∈l,x<256
theorem By.app{l k:List Nat}(h:By l)(b:By k):By (l++k):=fun x a=>(dq.1 a).elim (h x) (b x)
theorem tH(x:Nat):∀n,By (be n x)
 |0=>fun y a=>by cases a
 |n+1=>fun y a=>by
  rw[be,fh]at a;rcases a with rfl|a
  ·exact vj _ (by decide)
  ·exact tH x n y a
theorem ac7(t:ByteArray):By (uL t):=fun x a=>by
 obtain⟨y,-,rfl⟩:=fk.1 a;exact y.toNat_lt
theorem Oo{α:Type}{f:α->List Nat}{l:List α}(h:∀x,By (f x)):By (l.flatMap f):=fun x a=>by
 obtain⟨y,-,b⟩:=li.1 a;exact h y x b
theorem UE:∀(l:List (Nat×Nat×Nat))(g:Nat),By (wP g l)
 | [],_=>fun x a=>by cases a
 |y::l,g=>by
  rw[wP]
  split
  ·exact UE l _
  ·exact(((tH _ _).app (tH _ _)).app (tH _ _)).app (UE l _)
theorem adM(m:Mk):∀k,By (wD m k)
 |0=>fun x a=>by cases a
 |k+1=>(adM m k).app ((tH _ _).app (tH _ _))
theorem ac8(m:Mk):∀k,(wD m k).length=4*k
 |0=>rfl
 |k+1=>by
  rw[wD,cJ,ac8 m k,cJ,qJ,qJ];omega
def wZ(l:List Nat):List Nat:=l.flatMap fun s=>be 2 (s-1)
def QW(T N:List ByteArray)(P:List (Nat×Nat))(m:Mk):List Nat:=[m.aH.length,T.length,N.length,P.length]
theorem acf(T N:List ByteArray)(P:List (Nat×Nat))(m:Mk):sj T N P m=wZ (QW T N P m)++(wS T++(wS N++(wR T.length P++(wD m m.aH.length++nQ m.ak)))):=by
 simp[sj,wZ,QW,List.append_assoc]
theorem alR(T N:List ByteArray)(P:List (Nat×Nat))(m:Mk):By (sj T N P m):=by
 rw[acf];exact(Oo fun _=>tH _ _).app ((Oo fun _=>(tH _ _).app (ac7 _)).app ((Oo fun _=>(tH _ _).app (ac7 _)).app ((Oo fun _=>(tH _ _).app (tH _ _)).app ((adM _ _).app ((tH _ _).app (UE _ _))))))
theorem aa4(l:List Nat):(Bu l).size=l.length:=by
 show (l.map fun x=>UInt8.ofNat x).toArray.size=_;simp
end Pk
theorem alS{l:List Nat}(h:Pk.By l):QO (Pk.Bu l)=l.map uK:=by
 unfold QO Pk.Bu;simp only[List.map_map];refine ju fun x b=>?_
 have a:=h x b;show uK (UInt8.ofNat x).toNat=uK x;rw[xx,zb a]
theorem agL{pb:Nat}{ta na:Option Addr}{tc nc:Nat}{vs:Nat->υ}{T N:List ByteArray}{P:List (Nat×Nat)}{m:Pk.Mk}(hS:kZ w)(bb:0<w.heap.size)(kp:aj w pb (Mv (ς ta T.length tc) (ς na N.length nc) vs) 134)(hT:zy w (ς ta T.length tc) T)(hN:zy w (ς na N.length nc) N)(r0:jX w (vs 0) m.aD)(r1:lM w (vs 1) m.ak)(r4:wQ w (vs 4) P)(r5:jX w (vs 5) m.aH)(h0:0<m.aH.length/\0<T.length/\0<N.length/\0<P.length)(an:m.aD.length=m.aH.length)(hp:∀x∈P,T.length<=x.1/\x.1<=1000000000)(I:∀x∈m.ak,x.1<=15/\x.2.1<4096)(L:(Pk.sj T N P m).length<=100000000)(bm:m.ak.length<=10000000)(bj:m.aH.length<=1000000/\T.length<=1000000/\N.length<=1000000/\P.length<=1000000):χ prog 18 #[π (ο ⟨pb,0,ν⟩)] w fun e w'=>e=δ (τ (Pk.written T N P m))/\φ w.heap.size w w':=by
 obtain⟨a0,k0,av,ao⟩:=r0;obtain⟨a1,k1,ae,ac⟩:=r1;obtain⟨a4,k4,af,ap⟩:=r4;obtain⟨a5,k5,ai,qQ⟩:=r5;obtain⟨B,hB⟩:=aF w.heap.size;obtain⟨w1,F⟩:=aC (w.alloc (ζ #[ς ν 0 0] 128));have h1:bC w B B (ς ν 0 0) w1 []:=⟨by rw[F,<-hB];exact aj.new ..,eV _ _ _ _,by rw[F,<-hB];exact(cV _ _).alloc (zL0) _,zL0⟩;have p:Hid (∀wr l v,bC w B B v wr l->wr.cell? ⟨pb,0,ν⟩=ο (ς a0 m.aD.length k0)/\wr.cell? ⟨pb,1,ν⟩=ο (ς a1 m.ak.length k1)/\wr.cell? ⟨pb,2,ν⟩=ο (ς ta T.length tc)/\wr.cell? ⟨pb,3,ν⟩=ο (ς na N.length nc)/\wr.cell? ⟨pb,4,ν⟩=ο (ς a4 P.length k4)/\wr.cell? ⟨pb,5,ν⟩=ο (ς a5 m.aH.length k5)):=fun wr l v h=>by
  have k:=kp.go h.b (by rw[<-hB];exact kp.lt);exact⟨by rw[<-av];exact k.cell 0,by rw[<-ae];exact k.cell 1,k.cell 2,k.cell 3,by rw[<-af];exact k.cell 4,by rw[<-ai];exact k.cell 5⟩
 have Y:Hid (∀wr,φ B w wr->(∀(j:Nat)x,m.aD[j]?=ο x->∃g,a0=ο ⟨g,0,ν⟩/\wr.cell? ⟨g,j,ν⟩=ο (ι ξ (x:Int)))/\(∀(j:Nat)x,m.aH[j]?=ο x->∃g,a5=ο ⟨g,0,ν⟩/\wr.cell? ⟨g,j,ν⟩=ο (ι ξ (x:Int)))/\(∀(j:Nat)x,P[j]?=ο x->∃g,a4=ο ⟨g,0,ν⟩/\wr.cell? ⟨g,j*2,ν⟩=ο (ι ξ (x.1:Int))/\wr.cell? ⟨g,j*2+1,ν⟩=ο (ι ξ (x.2:Int)))):=fun wr Q=>by
  rw[<-hB]at Q;refine⟨fun j x I=>?_,fun j x I=>?_,fun j x I=>?_⟩
  ·obtain⟨g,e,h⟩:=ao j x I
   rw[j9]at h;exact⟨g,e,aU Q h⟩
  ·obtain⟨g,e,h⟩:=qQ j x I
   rw[j9]at h;exact⟨g,e,aU Q h⟩
  ·obtain⟨g,e,h,h'⟩:=ap j x I
   exact⟨g,e,aU Q h,aU Q h'⟩
 have H:Hid ((∀wr v l,bC w B B v wr l->l.length+(Pk.wS T).length<=1000000000->χ prog 39 #[π (ο ⟨B,0,ν⟩),ς ta T.length tc] wr fun e c=>e=δ (θ #[])/\∃iA,bC w B B iA c (l++Pk.wS T))/\(∀wr v l,bC w B B v wr l->l.length+(Pk.wS N).length<=1000000000->χ prog 39 #[π (ο ⟨B,0,ν⟩),ς na N.length nc] wr fun e c=>e=δ (θ #[])/\∃iA,bC w B B iA c (l++Pk.wS N))/\(∀wr v l,bC w B B v wr l->l.length+3+6*m.ak.length<=1000000000->χ prog 40 #[π (ο ⟨B,0,ν⟩),ς a1 m.ak.length k1] wr fun e c=>e=δ (θ #[])/\∃iA,bC w B B iA c (l++Pk.nQ m.ak))/\(∀wr,φ B w wr->kZ wr)):=by
  subst hB;exact⟨fun wr v l h L=>Zx h hT L,fun wr v l h L=>Zx h hN L,fun wr v l h L=>agK h ⟨a1,k1,rfl,ac⟩ L I,fun wr Q=>hS.move (Q.block 0 bb)⟩
 obtain⟨c0,R,Z,c3,c4,c5⟩:=p.out _ _ _ h1;have q:Hid _:=Pk.acf T N P m;have XW:Hid (Pk.By (Pk.sj T N P m)):=Pk.alR T N P m;have HW:Hid (Pk.written T N P m=Pk.Bu (Pk.sj T N P m++Pk.be 4 (Pk.sum (Pk.Bu (Pk.sj T N P m)) (Pk.sj T N P m).length))):=rfl;have aX:Hid _:=hB;obtain⟨z,hz⟩:=aF (Pk.QW T N P m);obtain⟨w2,C⟩:=aC ((w1.alloc (ζ #[ι ξ (m.aH.length:Int),ι ξ (T.length:Int),ι ξ (N.length:Int),ι ξ (P.length:Int)] 3)).drew);obtain⟨bs,ax⟩:=aF w1.heap.size;have k2:aj w2 bs (dY z) 3:=by rw[C,<-ax,<-hz];exact(aj.new ..).drew
 have h2:bC w B B (ς ν 0 0) w2 []:=h1.move (by rw[C];exact((cV _ _).alloc (zL0) _).drew);have HZ:Hid (z.length=4/\∀x∈z,0<x/\x<=1000000):=by
  refine⟨by rw[<-hz];rfl,?_⟩;rw[<-hz];simp only[Pk.QW,List.mem_cons,List.not_mem_nil,or_false];rintro x(rfl | rfl | rfl | rfl) <;> omega
 have G:Hid (∃v l,bC w B B v w2 l/\aj w2 bs (dY z) 3/\l++(Pk.wZ (z.drop 0)++(Pk.wS T++(Pk.wS N++(Pk.wR T.length P++(Pk.wD m m.aH.length++Pk.nQ m.ak)))))=Pk.sj T N P m):=⟨_,[],h2,k2,by rw[q.out,hz];rfl⟩;clear ao ac ap qQ av ae af ai kp hT hN I hS h1 k2 h2 hz q;have ah:Hid _:=an;have HP:Hid _:=hp;clear an hp h0;obtain⟨o,aq⟩:=aF (Pk.sj T N P m);rw[aq]at L G XW HW;clear aq;go_enter func18,ntmps18;go_upto_region 2 with fail
 rw[<-F];clear F
 go_region
 rw[<-C];clear C c0 R Z c3 c4 c5;go_wp2_with fail
 go_loopw [32] (fun i wr=>∃j:Nat,j<=4/\i=ι ξ (j:Int)/\Hid (∃v l,bC w B B v wr l/\aj wr bs (dY z) 3/\l++(Pk.wZ (z.drop j)++(Pk.wS T++(Pk.wS N++(Pk.wR T.length P++(Pk.wD m m.aH.length++Pk.nQ m.ak)))))=o)) (fun i _=>4 - (intOf i).toNat)
 case atStart=>exact⟨0,by omega,rfl,G⟩
 case round=>
  clear G;obtain⟨j,hj,rfl,K⟩:=hrel;obtain⟨v,l,h1,kS,a⟩:=K.out;clear K
  by_cases hjn:j<4
  ·have j1:(j:Int)<4:=by omega
   obtain⟨s,hs⟩:∃s,z[j]?=ο s:=⟨_,cG (by rw[HZ.out.1];exact hjn)⟩;have bn:=HZ.out.2 s (cM hs);have cs:wr.cell? ⟨bs,j,ν⟩=ο (ι ξ (s:Int)):=by rw[kS.cell];exact Ta hs
   have hd:z.drop j=s::z.drop (j+1):=by
    obtain⟨hh,e⟩:=cH.1 hs;rw[eN hh,e]
   have e1:Pk.wZ (z.drop j)=Pk.be 2 (s-1)++Pk.wZ (z.drop (j+1)):=by rw[hd];rfl
   rw[e1]at a;obtain⟨s',rfl⟩:∃s',s=s'+1:=⟨s-1,by omega⟩;rw[Nat.add_sub_cancel]at a;rw[show ((s'+1:Nat):Int)=(s':Int)+1 by omega]at cs;have D:l.length<=100000000:=by
    have:=fd List.length a;rw[cJ]at this;omega
   have u:χ prog 38 #[π (ο ⟨B,0,ν⟩),ι ξ 2,ι ξ (s':Int)] wr fun e c=>e=δ (θ #[])/\∃iA,bC w B B iA c (l++Pk.be 2 s')/\jk wr c:=xg (n:=2) h1 (by decide) (by omega)
   have q:Hid _:=a;clear h1 a hd e1 p Y H
   go_wp2_with (go_at_call 38;refine u.mono ?_;rintro e f⟨rfl,aA,h3,o3⟩)
   refine⟨⟨j+1,by omega,by go_num,aA,_,h3,o3.blk kS (by decide) (by decide),?_⟩,by simp[intOf];omega⟩;rw[<-q.out];simp only[List.append_assoc]
  ·obtain rfl:j=4:=by omega
   rw[pD (by rw[HZ.out.1];exact zL0)]at a;have q:Hid (l++(Pk.wS T++(Pk.wS N++(Pk.wR T.length P++(Pk.wD m m.aH.length++Pk.nQ m.ak))))=o):=a;have J:Hid ((l++(Pk.wS T++(Pk.wS N++(Pk.wR T.length P++(Pk.wD m m.aH.length++Pk.nQ m.ak))))).length<=100000000):=by show _<=_;rw[q.out];exact L
   have ab:=J.out;simp only[List.length_append]at ab;have q1:=H.out.1 wr v l h1 (by omega);obtain⟨-,-,Z,-,-,-⟩:=p.out _ _ _ h1;clear h1 kS a HZ;go_upto_region 8 with (go_at_call 39;refine q1.mono ?_;rintro e f⟨rfl,v3,h3⟩)
   have q2:=H.out.2.1 f v3 _ h3 (by rw[cJ];omega);obtain⟨-,-,-,c3,-,-⟩:=p.out _ _ _ h3;clear q1 Z h3;go_upto_region 9 with (go_at_call 39;refine q2.mono ?_;rintro e w4⟨rfl,v4,h4⟩)
   obtain⟨-,-,-,-,c4,-⟩:=p.out _ _ _ h4;have G:Hid (∃v l,bC w B B v w4 l/\l++(Pk.wR T.length (P.drop 0)++(Pk.wD m m.aH.length++Pk.nQ m.ak))=o):=⟨v4,_,h4,by rw[<-q.out];simp only[List.append_assoc,List.drop_zero]⟩;clear q2 c3 h4 q J ab;go_wp2_with fail;clear c4
   go_loopw [55] (fun i wr=>∃j:Nat,j<=P.length/\i=ι ξ (j:Int)/\Hid (∃v l,bC w B B v wr l/\l++(Pk.wR T.length (P.drop j)++(Pk.wD m m.aH.length++Pk.nQ m.ak))=o)) (fun i _=>P.length - (intOf i).toNat)
   case atStart=>exact⟨0,by omega,rfl,G⟩
   case round=>
    clear G;revert wr;intro wz hrel;obtain⟨j,hj,rfl,K⟩:=hrel;obtain⟨v,l,h1,a⟩:=K.out;clear K
    by_cases hjn:j<P.length
    ·have j1:(j:Int)<(P.length:Int):=by omega
     obtain⟨x,hxj⟩:∃x,P[j]?=ο x:=⟨_,cG hjn⟩;obtain⟨g,rfl,R,Z⟩:=(Y.out wz h1.b).2.2 j x hxj;have ad:=HP.out x (cM hxj);have hd:P.drop j=x::P.drop (j+1):=by
      obtain⟨hh,e⟩:=cH.1 hxj;rw[eN hh,e]
     have e1:Pk.wR T.length (P.drop j)=(Pk.be 2 (x.1-T.length)++Pk.be 2 x.2)++Pk.wR T.length (P.drop (j+1)):=by rw[hd];rfl
     rw[e1]at a;obtain⟨y1,y2⟩:=x;simp only at R Z ad a;obtain⟨d,am⟩:=aF (y1-T.length);rw[am]at a;have e3:(y1:Int) - (T.length:Int)=(d:Int):=by omega
     have e4:IntKind.i64.wrap (d:Int)=(d:Int):=by rw[gx];omega
     have Qv:d<=1000000000:=by omega
     have D:l.length+4<=100000000:=by
      have:=fd List.length a;simp only[List.length_append,Pk.qJ]at this;omega
     obtain⟨V,aV⟩:=aC (wz.alloc (ζ #[ι ξ (y1:Int),ι ξ (y2:Int)] 138));obtain⟨bx,ag⟩:=aF wz.heap.size;have kX:aj V bx #[ι ξ (y1:Int),ι ξ (y2:Int)] 138:=by rw[aV,<-ag];exact aj.new ..
     have h2:bC w B B v V l:=h1.move (by rw[aV];exact(cV _ _).alloc (zL0) _);have x1:=kX.a0;obtain⟨-,-,aP,-,-,-⟩:=p.out _ _ _ h2;have u:∀nq,χ prog 38 #[π (ο ⟨B,0,ν⟩),ι ξ 2,ι ξ (d:Int)] (V.drewN nq) fun e c=>e=δ (θ #[])/\∃iA,bC w B B iA c (l++Pk.be 2 d)/\jk (V.drewN nq) c:=fun nq=>xg (n:=2) (W:=V.drewN nq) (h2.move ⟨rfl,rfl,rfl,zL0,fun _ _=>rfl⟩) (by decide) (by omega)
     have q:Hid _:=a;have al:Hid (∀nq f,jk (V.drewN nq) f->aj f bx #[ι ξ (y1:Int),ι ξ (y2:Int)] 138):=fun nq f ho=>ho.blk (show aj (V.drewN nq) bx _ 138 from kX) (by decide) (by decide)
     clear h1 h2 a hd e1 kX p Y H am ad HP;go_upto_region 12 with fail
     rw[<-aV];clear aV ag;refine(pn (n:=9)).1 ?_;refine kV 8 (by kernel_rfl) (by kernel_rfl) (by kernel_rfl) ?_
     dsimp only[List.take,List.drop,List.length]
     repeat (gi_big_quiet_step (fail))
     refine wpQuietIn_nil ?_;rintro _⟨Ll,rfl⟩;refine wpAnyIn_ready (rs:=[8]) (by kernel_rfl) (by simp) (AllReadyIn.cons rfl (fun K2 ar=>?_) AllReadyIn.nil)
     go_simp
     refine⟨trivial,(gh.2 (u _)).mono ?_⟩;rintro e f⟨rfl,v3,h3,o3⟩;have EQ:=al.out _ _ o3;have z2:=EQ.a1;have XY:χ prog 38 #[π (ο ⟨B,0,ν⟩),ι ξ 2,ι ξ (y2:Int)] f fun e c=>e=δ (θ #[])/\∃iA,bC w B B iA c (l++Pk.be 2 d++Pk.be 2 y2)/\jk f c:=xg (n:=2) h3 (by decide) (by rw[cJ,Pk.qJ];omega)
     clear u h3 o3 al EQ x1 aP;refine ar _ _ (wpAnyIn_done (by kernel_rfl) ?_ _);clear ar K2
     go_wp2_with (go_at_call 38;refine XY.mono ?_;rintro e w4⟨rfl,v4,h4,o4⟩)
     refine⟨⟨j+1,by omega,by go_num,v4,_,h4,?_⟩,by simp[intOf];omega⟩;rw[<-q.out];simp only[List.append_assoc]
    ·obtain rfl:j=P.length:=by omega
     rw[im]at a;obtain⟨-,-,-,-,-,c5⟩:=p.out _ _ _ h1;have G:Hid (∃v t,bC w B B v wz (t++Pk.wD m 0)/\t++(Pk.wD m m.aH.length++Pk.nQ m.ak)=o):=⟨v,l,by rw[Pk.wD,fW];exact h1,a⟩;clear h1 a HP;go_wp2_with fail;clear c5
     go_loopw [77] (fun i wr=>∃j:Nat,j<=m.aH.length/\i=ι ξ (j:Int)/\Hid (∃v t,bC w B B v wr (t++Pk.wD m j)/\t++(Pk.wD m m.aH.length++Pk.nQ m.ak)=o)) (fun i _=>m.aH.length - (intOf i).toNat)
     case atStart=>exact⟨0,by omega,rfl,G⟩
     case round=>
      clear G;revert wr;intro wy hrel;obtain⟨j,hj,rfl,K⟩:=hrel;obtain⟨v,t,h1,a⟩:=K.out;clear K
      by_cases hjn:j<m.aH.length
      ·have j1:(j:Int)<(m.aH.length:Int):=by omega
       have j2:(j:Int)<(m.aD.length:Int):=by have:=ah.out;omega
       obtain⟨x,hxj⟩:∃x,m.aH[j]?=ο x:=⟨_,cG hjn⟩;obtain⟨y,aa⟩:∃x,m.aD[j]?=ο x:=⟨_,cG (by have:=ah.out;omega)⟩;obtain⟨g,rfl,R⟩:=(Y.out wy h1.b).2.1 j x hxj;have hD:Pk.wD m (j+1)=Pk.wD m j++(Pk.be 1 x++Pk.be 3 y):=by
        rw[Pk.wD,di,di,hxj,aa];rfl
       have D:(t++Pk.wD m j).length+4<=100000000:=by
        have A:=fd List.length a;simp only[List.length_append,Pk.ac8]at A|-;omega
       have u:χ prog 38 #[π (ο ⟨B,0,ν⟩),ι ξ 1,ι ξ (x:Int)] wy fun e c=>e=δ (θ #[])/\∃iA,bC w B B iA c (t++Pk.wD m j++Pk.be 1 x)/\jk wy c:=xg (n:=1) h1 (by decide) (by omega)
       have q:Hid _:=a;have bd:Hid _:=hD;clear h1 a hD;go_upto_region 19 with (go_at_call 38;refine u.mono ?_;rintro e f⟨rfl,v3,h3,o3⟩)
       obtain⟨c0,-⟩:=p.out _ _ _ h3;obtain⟨g0,rfl,Z⟩:=(Y.out f h3.b).1 j y aa;have XY:χ prog 38 #[π (ο ⟨B,0,ν⟩),ι ξ 3,ι ξ (y:Int)] f fun e c=>e=δ (θ #[])/\∃iA,bC w B B iA c (t++Pk.wD m j++Pk.be 1 x++Pk.be 3 y)/\jk f c:=xg (n:=3) h3 (by decide) (by rw[cJ,Pk.qJ];omega)
       clear u h3 o3 R p Y H
       go_wp2_with (go_at_call 38;refine XY.mono ?_;rintro e w4⟨rfl,v4,h4,o4⟩)
       refine⟨⟨j+1,by omega,by go_num,v4,t,?_,q.out⟩,by simp[intOf];omega⟩;rw[bd.out];simp only[List.append_assoc]at h4|-;exact h4
      ·obtain rfl:j=m.aH.length:=by omega
       obtain⟨-,R,-⟩:=p.out _ _ _ h1;have D:(t++Pk.wD m m.aH.length).length<=100000000:=by
        have A:=fd List.length a;simp only[List.length_append]at A|-;omega
       have XZ:=H.out.2.2.1 wy v _ h1 (by omega);rw[dy,a]at XZ;clear h1 a D;go_upto_region 22 with (go_at_call 40;refine XZ.mono ?_;rintro e f⟨rfl,v3,h3⟩)
       clear XZ R;obtain⟨ba,bc,rfl,-⟩:=aB h3.r;have c3:=h3.blk.a0;have zJ:=akh (v:=ς ba o.length bc) (B:=B) (H.out.2.2.2 f h3.b) (Pk.Bu o) (by rw[Pk.aa4,alS XW.out];exact h3.r);rw[Pk.aa4]at zJ;obtain⟨U,E⟩:=aF (Pk.sum (Pk.Bu o) o.length);rw[E]at zJ;have a9:Hid _:=E;have bi:U<4294967296:=by rw[<-E];exact Pk.sum_lt _ _
       have u:χ prog 38 #[π (ο ⟨B,0,ν⟩),ι ξ 4,ι ξ (U:Int)] f fun e c=>e=δ (θ #[])/\∃iA,bC w B B iA c (o++Pk.be 4 U)/\jk f c:=xg (n:=4) h3 (by decide) (by omega)
       clear h3 E H p Y;go_upto_region 23 with (first
        | (go_at_call 41;refine zJ.mono ?_;rintro e w4⟨rfl,az⟩;obtain rfl:=az.symm)
        | (go_at_call 38;refine u.mono ?_;rintro e w5⟨rfl,v5,A,o5⟩))
       clear zJ u c3;have S:Pk.By (o++Pk.be 4 U):=XW.out.app (Pk.tH _ _);have M:Hid (Pk.written T N P m=⟨((o++Pk.be 4 U).map fun x=>UInt8.ofNat x).toArray⟩):=by show _=_;rw[HW.out,a9.out];rfl
       have O:o++Pk.be 4 U≠[]:=by rw[Pk.be];simp
       generalize o++Pk.be 4 U=X at A S M O;rcases A.r.2 with ⟨-,aE⟩|⟨g,bf,bh,rfl,-⟩
       ·exact absurd (ir aE) O
       ·have aR:=run_convert_bytes_back (P:=prog) w5 126 9 5 ⟨g,0,ν⟩ bf (X.map fun x=>UInt8.ofNat x) Tryz.Rv underlying5 underlying9 (fun j hj=>by
         have aw:j<X.length:=by simpa using hj
         have:=oj A.r (g:=g) rfl j (uK X[j]) (by simp[aw]);rw[this,pH,xx,zb (S _ (eJ aw))];rfl)
        rw[dk]at aR;have c5:=A.blk.a0;have bg:=A.b;clear A O S;go_wp2_with fail;go_ret;exact⟨by rw[M.out];rfl,by rw[aX.out];exact bg⟩
end Go.Proofs.YtfpjphhnjegnjaaGreatDoor
namespace Go.Proofs.YtfpjphhnjegnjaaGreatDoor
open Lx Go.Proofs.Tryz
open Go.RowKit
open Tr
end Go.Proofs.YtfpjphhnjegnjaaGreatDoor
namespace Go.Proofs.YtfpjphhnjegnjaaGreatDoor
open Lx Go.Proofs.Tryz
open Go.RowKit Tr
end Go.Proofs.YtfpjphhnjegnjaaGreatDoor
namespace Go.Proofs.YtfpjphhnjegnjaaGreatDoor
open Lx Go.Proofs.Tryz
open Go.RowKit
open Tr
end Go.Proofs.YtfpjphhnjegnjaaGreatDoor
namespace Go.Proofs.YtfpjphhnjegnjaaGreatDoor
open Lx Go.Proofs.Tryz
open Go.RowKit Tr
end Go.Proofs.YtfpjphhnjegnjaaGreatDoor
namespace Go.Proofs.YtfpjphhnjegnjaaGreatDoor
open Lx Go.Proofs.Tryz
open Go.RowKit
open Tr
end Go.Proofs.YtfpjphhnjegnjaaGreatDoor
namespace Go.Proofs.YtfpjphhnjegnjaaGreatDoor
open Lx Go.Proofs.Tryz
open Go.RowKit Tr
theorem lM.edg{w:World}{B e:Nat}{v:Value}{l:List (Nat×Nat×Nat)}(h:aO e 3 vY B w v l):lM w v l:=lM.own (B:=B) (e:=e) h
end Go.Proofs.YtfpjphhnjegnjaaGreatDoor
namespace Go.Proofs.YtfpjphhnjegnjaaGreatDoor
open Lx Go.Proofs.Tryz
open Go.RowKit
open Tr
end Go.Proofs.YtfpjphhnjegnjaaGreatDoor
namespace Go.Proofs.YtfpjphhnjegnjaaGreatDoor
open Lx Go.Proofs.Tryz
open Go.RowKit Tr
open Go.Value renaming slice→ς,int→ι,pointer→π
open Go.IntKind renaming i64→ξ
open Option renaming none→ν,some→ο
open Go.Ending renaming returned→δ
open Go.Obj renaming cells→ζ
open Go renaming World→ω,Value→υ,Calls→χ
open Go.RowKit renaming Below→φ
open List renaming replicate→ψ
variable{B n nT p:Nat}{K:List (Nat×Nat)}{e:Nat×Nat}{v:υ}{w:ω}
namespace Lx
theorem agO{l s:Nat}{B:List (List Bool)}(h:B.length=n/\∀r∈B,r.length=nT):(rO l B s).length=n/\∀r∈rO l B s,r.length=nT:=by
 unfold rO;refine⟨by rw[jp];exact h.1,fun r a=>?_⟩
 by_cases hl:l<B.length
 ·rcases r6 a with a | rfl
  ·exact h.2 r a
  ·rw[abZ,FU hl]
   exact h.2 _ (eJ hl)
 ·rw[List.set_eq_of_length_le (by omega)]at a
  exact h.2 r a
theorem RV{nT n:Nat}{α:Type}{f:List (List Bool)->α->List (List Bool)}(b:∀B a,(B.length=n/\∀r∈B,r.length=nT)->((f B a).length=n/\∀r∈f B a,r.length=nT)):∀(l:List α)(B:List (List Bool)),(B.length=n/\∀r∈B,r.length=nT)->((l.foldl f B).length=n/\∀r∈l.foldl f B,r.length=nT)
 | [],_,h=>h
 |a::l,B,h=>RV b l (f B a) (b B a h)
theorem agP{P:List Pd}{E:List Bool}{B:List (List Bool)}(h:B.length=n/\∀r∈B,r.length=nT):(iq P E B).length=n/\∀r∈iq P E B,r.length=nT :=
 RV (fun _ _ a=>RV (fun _ _ b=>agO b) _ _ a) P B h
theorem YQ{nT n:Nat}{P:List Pd}{E:List Bool}:∀m,(iT (iq P E) m (alone nT n)).length=n/\∀r∈iT (iq P E) m (alone nT n),r.length=nT
 |0=>⟨by simp[iT,alone],fun r a=>by
   unfold iT alone at a;obtain⟨i,-,rfl⟩:=fk.1 a;unfold yX
   split <;> simp⟩
 |m+1=>agP (YQ m)
theorem afF{A:List Bool}(h:A.length=nT):(fq A).length<=nT/\∀t∈fq A,t<nT:=by
 unfold fq;refine⟨cY (ti ..) (by rw[pA,h];exact zL0),fun t a=>?_⟩;rw[<-h];exact pN.1 (j'.1 a).1
end Lx
theorem Ip.inr{ps:List (List Nat)}(h:Ip B w v ps):yM w v ps:=by
 obtain⟨d,⟨h1,h2,h3,-⟩,-⟩:=h;obtain⟨a,c,rfl,-⟩:=aB h2;refine⟨a,c,rfl,fun i x b=>?_⟩;rw[<-h1,dj]at b;obtain⟨q,hq,rfl⟩:=mS.1 b;obtain⟨g,f,e,k⟩:=jC h2 (j:=i) (u:=q.1) (by rw[dj,hq];rfl);cases e;exact⟨g,rfl,q.1,by rw[j9];exact k i _ (by rw[dj,hq];rfl),jX.own (h3 q (cM hq))⟩
theorem PP.pdc{D:Nat->Prop}{pa:Option Addr}{pc:Nat}{P:List Lx.Pd}(h:PP D w (ς pa P.length pc) P)(r:0<P.length):∃gP,pa=ο ⟨gP,0,ν⟩/\sJ w (fun k=>k<w.heap.size) gP P:=by
 obtain⟨g,a,u,d,f,c,l,i⟩:=PP.at h r;cases d;refine⟨g,rfl,Oi c,fun k p hp=>?_⟩;obtain⟨s,rfl⟩:=cH.1 hp;obtain⟨v,m,u,d,f,c,l,i⟩:=PP.at h s;cases d;rcases f.2 with ⟨rfl,e⟩|⟨b,a,o,rfl,-,q,h1,h2,-⟩
 ·refine⟨ν,0,c,by rw[e];exact l,i,by omega,.inl ⟨rfl,ir e,rfl⟩⟩
 ·refine⟨_,a,c,l,i,h1,.inr ⟨b,rfl,(ei.1 q).1,fun j x n=>?_⟩⟩
  obtain⟨g2,t,e,k⟩:=jC f (j:=j) (u:=ι ξ (x:Int)) (by unfold dP;rw[dj,n];rfl);cases e;exact k j _ (by unfold dP;rw[dj,n];rfl)
theorem sJ.imp{w:ω}{F a:Nat->Prop}{g:Nat}{P:List Lx.Pd}(h:sJ w F g P)(c:∀k,F k->a k):sJ w a g P:=⟨c _ h.own,fun k p hp=>by
 obtain⟨d,i,h1,h2,h3,h4,f⟩:=h.row k p hp;exact⟨d,i,h1,h2,h3,h4,f.imp id fun⟨b,e,j,l⟩=>⟨b,e,c b j,l⟩⟩⟩
namespace Lx
theorem ajd(h:Eo K e=ο p):K[p]?=ο e:=by
 unfold Eo at h
 split at h
 ·rename_i b
  cases h;have a:=List.idxOf_lt_length_of_mem b;rw[cG a,List.getElem_idxOf a]
 ·cases h
theorem aje(h:Eo K e=ν):e∉K:=by
 unfold Eo at h
 split at h
 ·cases h
 ·assumption
end Lx
def Ye(c:aW)(W:ω)(S:bK)(N:Nat)(e:Ending)(W':ω):Prop:=∃(v:υ)(K:List (Nat×Nat))(ss:List (List Nat)),e=δ v/\φ W.heap.size W W'/\mW S (c.Bw S) K ss/\(∀ws∈ss,ws.length=c.nw/\jU ws)/\qA W' v ((List.range N).map fun i=>ja c.nw K ss i c.P.length)
theorem ahS{c:aW}{W:ω}{S:bK}{N:Nat}(kb:aj W c.lb (c.cells S) 92)(Rh:χ prog 65 #[π (ο ⟨c.lb,0,ν⟩)] W (MH c W S))(hT:TabAt 2 Lib.deBruijn64tab W)(hN:N<=100000)(hP:c.P.length<=100000)(av:c.nw<=1000)(zV:∀K ss,mW S (c.Bw S) K ss->(∀ws∈ss,ws.length=c.nw/\jU ws)->∀ws∈ss,(oO ws c.nw).length<=1000000):χ prog 30 #[π (ο ⟨c.lb,0,ν⟩),ι ξ (N:Int)] W (Ye c W S N):=by
 obtain⟨i0,aq,ah,ao,al⟩:=ft Tryz.alJ;have ad:=fun w=>aks (n:=N) hN w
 go_enter func30,ntmps30;go_upto_region 2 with (go_at_call 65;refine Rh.mono ?_;rintro e w1⟨gm,vA,K,V,ss,rfl,I,hK,Me,hS,F,hI⟩)
 have Q:∀ws∈ss,ws.length=c.nw/\jU ws:=fun ws hws=>by
  obtain⟨i,U⟩:=fb.1 hws;obtain⟨g,C⟩:∃g,V[i]?=ο g:=⟨_,cG (by rw[F,<-hI.len];exact(cH.1 U).1)⟩;obtain⟨aw,h1,h2,h3⟩:=hS i g C;rw[U]at h1;cases h1;exact⟨h3,h2.wd⟩
 have X:=zV K ss hI Q;obtain⟨aA,cA,rfl,-⟩:=aB Me;obtain⟨d,iG⟩:=aF w1.heap.size;obtain⟨w2,E⟩:=aC (w1.alloc (ζ (vA (ψ N (ς ν 0 0))) 120));have Y:jN w1 d d w2 (ψ N (ς ν 0 0)) (ψ N []):=by
  refine⟨by rw[E,<-iG];exact aj.new ..,by simp,fun i v l hv hl=>?_,fun i l x hl hx=>?_,fun i j v v' _ hv _ g C=>?_,zL0,by rw[E,<-iG];exact(cV _ _).alloc (zL0) _⟩
  ·rw[mA (cM hv),mA (cM hl)]
   exact eV _ _ _ _
  ·rw[mA (cM hl)]at hx
   cases hx
  ·rw[mA (cM hv)]at C
   cases C
 have HL:Hid (∀wr,φ d w1 wr->wr.cell? ⟨c.lb,2,ν⟩=ο (ς (ο ⟨c.gP,0,ν⟩) c.P.length c.pc)/\iF bq wr gm K/\TabAt 2 Lib.deBruijn64tab wr/\∀(p g:Nat),V[p]?=ο g->∃h,aA=ο ⟨h,0,ν⟩/\wr.cell? ⟨h,p,ν⟩=ο (ς (ο ⟨g,0,ν⟩) c.nw c.nw)/\∃ws,ss[p]?=ο ws/\TS wr g ws/\ws.length=c.nw):=fun wr B=>by
  rw[<-iG]at B;have ar:=kb.on I;have ML:=ar.on B;refine⟨ML.cell 2,hK.move (B.block _ hK.lt),fun j hj=>aU B (aU I (hT j hj)),fun p g C=>?_⟩;obtain⟨ws,h1,h2,h3⟩:=hS p g C;obtain⟨h,cp,e,hc⟩:=jC Me (j:=p) (u:=iw c.nw g) (by rw[dj,C];rfl);cases e;exact⟨h,rfl,aU B (hc p _ (by rw[dj,C];rfl)),ws,h1,h2.move (B.block _ h2.blk.lt),h3⟩
 have H0:Hid (∃f D,f.length=N/\jN w1 d d w2 f D/\D.map (List.map iU)=(List.range N).map fun i=>if i<0 then ja c.nw K ss i c.P.length else []):=⟨_,_,by simp,Y,by
  apply od
  ·simp
  ·intro i h1 h2
   simp⟩
 have HF:Hid (∀v W',qA W' v ((List.range N).map fun i=>ja c.nw K ss i c.P.length)->φ d w1 W'->Ye c W S N (δ v) W'):=fun v W' hr B=>⟨v,K,ss,rfl,I.trans (B.mono (by rw[<-iG];exact I.size)),hI,Q,hr⟩
 have ai:=F;have IK:Hid (K.Nodup/\V.length=K.length):=⟨hI.nd,F⟩;have ab:Hid _:=X;clear hI F ai hS Me hK Y Q zV X Rh kb hT;go_upto_region 3 with (simp only[ad])
 rw[<-E];clear E iG ad;go_wp2_with fail
 go_loopw [21] (fun i wr=>∃j:Nat,j<=N/\i=ι ξ (j:Int)/\Hid (∃f D,f.length=N/\jN w1 d d wr f D/\D.map (List.map iU)=(List.range N).map fun i=>if i<j then ja c.nw K ss i c.P.length else [])) (fun i _=>N - (intOf i).toNat)
 case atStart=>exact⟨0,by omega,rfl,H0⟩
 case round=>
  clear H0;obtain⟨j,hj,rfl,Z⟩:=hrel;obtain⟨f,D,m,r,t⟩:=Z.out;clear Z
  by_cases hjn:j<N
  ·have j1:(j:Int)<(N:Int):=by omega
   obtain⟨c2,-⟩:=HL.out wr r.b;have H1:Hid (∃f D,f.length=N/\jN w1 d d wr f D/\D.map (List.map iU)=(List.range N).map fun i=>if i<j then ja c.nw K ss i c.P.length else if i=j then ja c.nw K ss i 0 else []):=⟨f,D,m,r,by
    rw[t];refine ju fun i _=>?_
    by_cases h1:i<j
    ·rw[du h1,du h1]
    ·rw[dt h1,dt h1]
     by_cases h2:i=j
     ·rw[du h2];rfl
     ·rw[dt h2]⟩
   clear r t m;go_wp2_with fail;clear c2
   go_loopw [31] (fun i wr=>∃k:Nat,k<=c.P.length/\i=ι ξ (k:Int)/\Hid (∃f D,f.length=N/\jN w1 d d wr f D/\D.map (List.map iU)=(List.range N).map fun i=>if i<j then ja c.nw K ss i c.P.length else if i=j then ja c.nw K ss i k else [])) (fun i _=>c.P.length - (intOf i).toNat)
   case atStart=>exact⟨0,by omega,rfl,H1⟩
   case round=>
    clear H1;revert wr;intro y hrel;obtain⟨k,hk,rfl,Z⟩:=hrel;obtain⟨f,D,m,r,t⟩:=Z.out;clear Z
    by_cases hkn:k<c.P.length
    ·have k1:(k:Int)<(c.P.length:Int):=by omega
     obtain⟨-,IB,Yf,UG⟩:=HL.out y r.b;cases hf:Eo K (j,k) with
     |none=>
      have O:=iF.miss Tryz.Ko Tryz.JH Tryz.Gl IB (aje hf);simp only[bq]at O;have HN:Hid (∃f D,f.length=N/\jN w1 d d y f D/\D.map (List.map iU)=(List.range N).map fun i=>if i<j then ja c.nw K ss i c.P.length else if i=j then ja c.nw K ss i (k+1) else []):=⟨f,D,m,r,by
       rw[t];refine ju fun i _=>?_
       split
       ·rfl
       ·split
        ·rename_i e
         rw[e,ja,hf,fW]
        ·rfl⟩
      clear r t m IB Yf UG hf;go_wp2_with fail;exact⟨⟨k+1,by omega,by go_num,HN⟩,by simp[intOf];omega⟩
     |some p=>
      have Yg:=ajd hf;have O:=iF.hit Tryz.Ko Tryz.JH IB IK.out.1 Yg;simp only[bq]at O;have aa:=(cH.1 Yg).1;obtain⟨g,C⟩:∃g,V[p]?=ο g:=⟨_,cG (by rw[IK.out.2];exact aa)⟩;obtain⟨h,rfl,cA,ws,hws,yN,ac⟩:=UG p g C;obtain⟨v,hv⟩:∃v,f[j]?=ο v:=⟨_,cG (by omega)⟩;obtain⟨l,hl,ho⟩:=r.at hv;obtain⟨M,J,rfl,-⟩:=aB ho;have ax:l.length<=k:=by
       have e:=fd (fun z=>z[j]?) t;simp only[List.getElem?_map,hl,List.getElem?_range hjn]at e;have e2:=fL e;simp only[Nat.lt_irrefl,if_false,if_true]at e2;have e3:=fd List.length e2;rw[dk]at e3;rw[e3];exact aa1 ..
      have c0:y.cell? ⟨d,j,ν⟩=ο (ς M l.length J):=by rw[r.out.cell,ie];exact hv
      have lo:=r.out.lt;have cO:∀o,(y.alloc o).cell? ⟨d,j,ν⟩=ο (ς M l.length J):=fun o=>(cQ (w:=y) (ed _ _ _ lo)).trans c0
      have an:=ab.out ws (cM hws);have Ra:=ahD (bx:=y.heap.size) (g:=g) (c:=c.nw) (ws:=ws) (by omega);rw[ac]at Ra;have VI:=ahE (w:=y.drew) (a:=ο ⟨g,0,ν⟩) (n:=c.nw) (c:=c.nw);obtain⟨L,G⟩:=aC (y.drew.alloc (ζ #[ς (ο ⟨g,0,ν⟩) c.nw c.nw] 174));have kC:aj L y.heap.size #[ς (ο ⟨g,0,ν⟩) c.nw c.nw] 174:=by rw[G];exact aj.new ..
      have A:φ y.heap.size y L:=by
       rw[G];have:=(cV y.heap.size y.drew).alloc (zL0) (ζ #[ς (ο ⟨g,0,ν⟩) c.nw c.nw] 174);exact⟨this.1,this.2,this.3,this.4,this.5⟩
      have VJ:=agI (w:=L) Ra (fun W' B=>⟨(B.block _ kC.lt).trans kC,yN.move ((B.block _ (dg yN.blk.lt A.size)).trans (A.block _ yN.blk.lt)),fun i U=>aU B (aU A (Yf i U))⟩) (by omega);rw[<-G]at VI;have cX:=aU A c0;have H5:Hid (∀s,φ L.heap.size L s->jN w1 d d s f D):=fun s B=>(r.move A).move B
      have ag:Hid (L.heap.size=L.heap.size/\d<=L.heap.size):=⟨rfl,cY r.size A.size⟩;have HD:Hid (ja c.nw K ss j (k+1)=ja c.nw K ss j k++[(k,oO ws c.nw)]):=by
       show _=_;rw[ja,hf];simp only;rw[di,hws];rfl
      have R:Hid (f[j]?=ο (ς M l.length J)/\D[j]?=ο l/\f.length=N/\D.map (List.map iU)=(List.range N).map fun i=>if i<j then ja c.nw K ss i c.P.length else if i=j then ja c.nw K ss i k else []):=⟨hv,hl,m,t⟩;have d0:(0:Int)<=(j:Int):=by omega
      have d1:(0:Int)<=(p:Int):=by omega
      have d2:(p:Int)<(V.length:Int):=by have:=IK.out.2;omega
      clear r t m IB Yf UG hf Yg aa C hws yN ac hv hl ho Ra G kC A;generalize oO ws c.nw=xs at VJ HD an;go_upto_region 11 with fail
      go_region_law (first
       | (refine eZ rfl 67 #[ς (ο ⟨g,0,ν⟩) c.nw c.nw] (by go_simp) VI ?_;rintro e wq⟨rfl,ap⟩;subst ap;refine⟨_,rfl,?_⟩;clear VI)
       | (refine eZ rfl 66 #[.func (.func 122) #[] #[π (ο ⟨y.heap.size,0,ν⟩)]] (by go_simp) VJ ?_;rintro e s⟨v5,rfl,kH,ae⟩;obtain⟨a5,T,rfl,-⟩:=aB kH;refine⟨_,rfl,?_⟩;have H:=H5.out s ae;have c5:s.cell? ⟨d,j,ν⟩=ο (ς M l.length J):=(by rw[H.out.cell,ie];exact R.out.1);have c6:∀o,(s.alloc o).cell? ⟨d,j,ν⟩=ο (ς M l.length J):=(fun o=>(cQ (w:=s) (ed _ _ _ H.out.lt)).trans c5);have o6:=(H.row j _ l R.out.1 R.out.2.1).alloc (ζ #[ι ξ (k:Int),ς a5 xs.length T] 122);have Br:=H.out.alloc (ζ #[ι ξ (k:Int),ς a5 xs.length T] 122);have af:(ς M l.length J).ownBlock≠ο d:=(fun e=>(H.kv R.out.1 e).ne H.ko (by decide) rfl);have ak:d<=(s.alloc (ζ #[ι ξ (k:Int),ς a5 xs.length T] 122)).heap.size:=cY H.size (aM s _ ν).size;have H6:Hid (jN w1 d d s f D/\s.ownsRow d 3 1 (ς a5 xs.length T) xs.length (xs.map bA)):=⟨H,jb kH ag.out.2⟩;clear H kH ae VJ H5)
       | (refine step_append_lies _ rfl (.tmp 48) (.tmp 57) 120 rfl d 122 i0 _ 2 32 Tryz.amI aq ah ao al rfl (by decide) (ς M l.length J) l.length (l.flatMap mM) (by simp[Act.eval]) o6 ⟨s.heap.size,0,ν⟩ 1 1 [ι ξ (k:Int),ς a5 xs.length T] (by simp[Act.eval]) rfl (bQ (aj.new s _ 122)) (by simp[Value.oneCell']) (by decide) (by unfold maxLen;omega) (by omega) ak _ rfl ?_;intro g9 bM w9 jE iC iY Co;have jy:=Br.grown iC (fun e=>af e.symm);have c9:w9.cell? ⟨d,j,ν⟩=ο (ς M l.length J):=(by rw[jy.cell,ie];exact R.out.1);have f9:=jy.frozen j))
      all_goals
       have HN:Hid (∃f D,f.length=N/\jN w1 d d (w9.setCell ⟨d,j,ν⟩ (ς (ο ⟨g9,0,ν⟩) (l.length+1) bM)) f D/\D.map (List.map iU)=(List.range N).map fun i=>if i<j then ja c.nw K ss i c.P.length else if i=j then ja c.nw K ss i (k+1) else []):=by
        obtain⟨hv,hl,m,t⟩:=R.out;refine⟨_,_,by rw[jp];exact m,H6.out.1.app (x:=(k,xs,ς a5 xs.length T)) hv hl (aI (aM s _ _) iC) (by rw[cJ,ik];exact jE) H6.out.2 (by
         rcases iY with e|e
         ·exact .inl e.symm
         ·exact .inr ⟨g9,rfl,by rw[e];exact(aM s _ ν).size⟩),?_⟩
        rw[oR,t,ee];apply pS;intro i;rw[g8];have am:l.map iU=ja c.nw K ss j k:=by
         have e:=fd (fun z=>z[j]?) t;simp only[List.getElem?_map,hl,List.getElem?_range hjn]at e;have e2:=fL e;simpa using e2
        by_cases e:j=i
        ·subst e
         rw[du rfl,du (by simp;exact hjn),dj,pT hjn,am];simp only[Option.map_some,Nat.lt_irrefl,if_false,if_true,HD.out];rfl
        ·rw[dt e,dj,dj]
         cases hr:(List.range N)[i]? with
         |none=>rfl
         |some q=>
          have hq:q=i:=by
           obtain⟨h1,h2⟩:=cH.1 hr;rw[<-h2,xz]
          simp only[Option.map_some,hq,if_neg (fun h=>e h.symm:¬i=j)]
       clear jE iC iY jy c9 f9 o6 Br c5 c6 H6 R HD;go_wp2_with fail;exact⟨⟨k+1,by omega,by go_num,HN⟩,by simp[intOf];omega⟩
    ·obtain rfl:k=c.P.length:=by omega
     have HE:Hid (∃f D,f.length=N/\jN w1 d d y f D/\D.map (List.map iU)=(List.range N).map fun i=>if i<j+1 then ja c.nw K ss i c.P.length else []):=⟨f,D,m,r,by
      rw[t];refine ju fun i _=>?_
      by_cases h1:i<j
      ·rw[du h1,du (by omega)]
      ·rw[dt h1]
       by_cases h2:i=j
       ·rw[du h2,du (by omega)]
       ·rw[dt h2,dt (by omega)]⟩
     clear r t m;go_wp2_with fail;exact⟨⟨j+1,by omega,by go_num,HE⟩,by simp[intOf];omega⟩
  ·obtain rfl:j=N:=by omega
   have HR:Hid (Ye c W S j (δ (ς (ο ⟨d,0,ν⟩) j j)) wr):=HF.out _ _ (by
    have:=r.rows;rw[m,t]at this;have e:((List.range j).map fun i=>if i<j then ja c.nw K ss i c.P.length else [])=(List.range j).map fun i=>ja c.nw K ss i c.P.length:=ju fun i U=>du (pN.1 U)
    rw[e]at this;exact this) r.b
   clear r t m HL IK ab;go_wp2_with fail;go_ret;exact HR.out
end Go.Proofs.YtfpjphhnjegnjaaGreatDoor
namespace Go.Proofs.YtfpjphhnjegnjaaGreatDoor
open Lx Go.Proofs.Tryz
open Go.RowKit
open Tr
end Go.Proofs.YtfpjphhnjegnjaaGreatDoor
namespace Go.Proofs.YtfpjphhnjegnjaaGreatDoor
open Lx Go.Proofs.Tryz
open Go.RowKit Tr
variable{V W1 w:World}{k:Nat}{s:ByteArray}
theorem zB(h:Below w.heap.size w V)(o:Obj):Below w.heap.size w (V.alloc o):=h.alloc h.size o
theorem PI(h:Below w.heap.size w V):Below w.heap.size w V.drew:=⟨h.1,h.2,h.3,h.4,h.5⟩
structure sP(s:ByteArray)(g:Lx.Gr)(S:bI):Prop where
 gd:Lx.Gd s g
 st:BK (bY g) (jW g)=some S
 p0:0<(bY g).length
 k0:0<S.ks.length
 kl:S.ks.length<=300
 es:∀e∈S.es,e.1<S.ks.length/\e.2.1<jW g/\0<e.2.2/\e.2.2<S.ks.length
 el:S.es.length<=10000000
theorem sP.fit{s:ByteArray}{g:Lx.Gr}{S:bI}(h:sP s g S):Lx.Fit g:=h.gd.fit
theorem sP.pl{s:ByteArray}{g:Lx.Gr}{S:bI}(h:sP s g S):(bY g).length<=200:=h.gd.fit.pl
theorem aci{g:Lx.Gr}{S:bI}(h:sP s g S)(f:iy W1):Calls prog 13 #[.string s] W1 fun e w'=>∃(ta na ba ka:Option Addr)(tc nc gP pc nb bc nk kc:Nat),e=.returned (.tuple #[.agg #[.slice ta (aG g).length tc,.slice na (gH g).length nc,.slice (some ⟨gP,0,none⟩) (bY g).length pc,.slice ba nb bc,.slice ka nk kc],.int .i64 0,.int .i64 0])/\Below W1.heap.size W1 w'/\sJ w' (fun k=>k<w'.heap.size) gP (bY g):=by
 refine(NV h.gd W1 f).mono ?_;rintro e w'⟨v,rfl,a,hp⟩;obtain⟨j,i,n,m,l,rfl,p1,p2,b,d,c,-⟩:=hp;obtain⟨ta,tc,rfl,-⟩:=aB p1;obtain⟨na,nc,rfl,-⟩:=aB p2;obtain⟨ba,bc,rfl,-⟩:=aB d;obtain⟨ka,kc,rfl,-⟩:=aB c;obtain⟨o,pc,rfl,-⟩:=Bv.of b;obtain⟨gP,rfl,hd⟩:=PP.pdc b h.p0;exact⟨ta,na,ba,ka,tc,nc,gP,pc,_,bc,_,kc,rfl,a,hd⟩
theorem acj{g:Lx.Gr}{S:bI}(h:sP s g S)(i:iy W1):Calls prog 14 #[.string s] W1 fun e w'=>∃la lc ea ec,e=.returned (.tuple #[.slice la S.ks.length lc,.slice ea S.es.length ec,.int .i64 0,.int .i64 0])/\Below W1.heap.size W1 w'/\lM w' (.slice ea S.es.length ec) S.es:=by
 refine(agN h.gd h.st W1 i).mono ?_;rintro e w'⟨m,n,rfl,c,⟨j,d,l,-⟩,f⟩;have b:j.length=S.ks.length:=by rw[<-d,dk]
 obtain⟨la,lc,rfl,-⟩:=aB l;have a:=lM.edg f;obtain⟨ea,ec,rfl,k⟩:=a;exact⟨la,lc,ea,ec,by rw[b],c,⟨ea,ec,rfl,k⟩⟩
namespace Lx
theorem TV{α:Type}{f:α->α}{x:α}{k:Nat}(h:f (iT f k x)=iT f k x):∀j,iT f (k+j) x=iT f k x
 |0=>rfl
 |j+1=>by rw[<-AT,iT,TV h j,h]
theorem aa7{α:Type}{f:α->α}{x:α}{m:Nat}(h1:f (iT f k x)=iT f k x)(h2:f (iT f m x)=iT f m x):iT f k x=iT f m x:=by rw[<-TV h1 m,BT,TV h2 k]
end Lx
def Ky(g:Lx.Gr)(E0:List Bool)(B0:List (List Bool)):Prop:=(∃k,iT (mq (bY g)) k (List.replicate (jW g) false)=E0)/\mq (bY g) E0=E0/\(∃m,iT (iq (bY g) E0) m (Lx.alone (aG g).length (jW g))=B0)/\iq (bY g) E0 B0=B0
theorem al7{g:Lx.Gr}{S:bI}(h:sP s g S){f:List Bool}{b:List (List Bool)}(y:Ky g f b)(p:iy W1):Calls prog 26 #[.string s] W1 fun e w'=>∃gE fa fc,e=.returned (.tuple #[.slice (some ⟨gE,0,none⟩) (jW g) (jW g),.slice fa (jW g) fc,.int .i64 0,.int .i64 0])/\Below W1.heap.size W1 w'/\aj w' gE (bE f) 4/\f.length=jW g/\yM w' (.slice fa (jW g) fc) (b.map fq)/\(b.map fq).length=jW g/\∀l∈b.map fq,l.length<=1000000/\∀t∈l,t<(aG g).length:=by
 refine(akH h.gd W1 p).mono ?_;rintro e w'⟨v,gE,E,k,L,B,m,rfl,G,-,D,i,d,u,c,C⟩;obtain⟨⟨M,x1⟩,x2,⟨O,x⟩,o⟩:=y;have K:E=f:=by
  rw[i]at d|-;rw[<-x1]at x2|-;exact aa7 d x2
 subst K;have A:B=b:=by
  rw[u]at c|-;rw[<-x]at o|-;exact aa7 c o
 subst A;obtain⟨j,q⟩:=YQ (nT:=(aG g).length) (n:=(aG g).length+(gH g).length) (P:=bY g) (E:=E) m;rw[<-u]at j q;have J:=C.inr;have a:(B.map fq).length=jW g:=by rw[dk,j];rfl
 obtain⟨fa,fc,rfl,z⟩:=J;have p:=h.fit.Ef;refine⟨gE,fa,fc,by rw[a];rfl,v,G,D,⟨fa,fc,by rw[a],z⟩,a,fun l H=>?_⟩;obtain⟨r,I,rfl⟩:=fk.1 H;obtain⟨N,F⟩:=afF (q r I);exact⟨by omega,F⟩

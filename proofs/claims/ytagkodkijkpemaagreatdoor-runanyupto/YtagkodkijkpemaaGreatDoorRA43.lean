import Derived.Test.YtagkodkijkpemaaGreatDoorRA42
set_option maxHeartbeats 8000000
set_option maxRecDepth 1000000
namespace Go.Proofs.YtagkodkijkpemaaGreatDoor
open Lx Go.Proofs.Tryz
open Go.RowKit Tr
namespace Lx
def JB(E:List Bool)(fs:List (List Nat))(X:Nat->Prop):List Nat->Nat->Prop
 | [],t=>X t
 |s::r,t=>dU (fs.getD s []) t=true\/(aJ E s=true/\JB E fs X r t)
theorem R7{x y:List Nat}{t:Nat}(h:dU (dL x y) t=true):dU x t=true\/dU y t=true:=by
 unfold dU at h|-;rw[IJ]at h
 split at h
 ·rw[qT,oE]at h
  exact h
 ·exact .inl h
theorem aag{E:List Bool}{fs:List (List Nat)}{a:List Nat}{t:Nat}:∀(r x:List Nat),dU (lX E fs a r x) t=true->dU x t=true\/JB E fs (fun t=>dU a t=true) r t
 | [],x,h=>R7 h
 |s::r,x,h=>by
  unfold lX at h
  split at h
  ·rename_i b
   rcases aag r _ h with h|h
   ·exact(R7 h).imp id .inl
   ·exact .inr (.inr ⟨b,h⟩)
  ·exact(R7 h).imp id .inl
theorem fT.trans{x y z:List Nat}(h:fT x y)(k:fT y z):fT x z:=⟨h.1.trans k.1,fun i=>by rw[<-k.2 i,<-tv,h.2 i]⟩
theorem Rw{E:List Bool}{fs:List (List Nat)}{a:List Nat}:∀(r x:List Nat),fT x (lX E fs a r x)
 | [],x=>(fT.refl x).join a
 |s::r,x=>by
  unfold lX
  split
  ·exact((fT.refl x).join _).trans (Rw r _)
  ·exact(fT.refl x).join _
theorem Rx{x y z:List Nat}(h:fT (dL x z) y):dL y z=y:=Fj (Dk ..) fun i a=>by
 rw[Dk]at a;have h2:=h.2 i;have h1:=h.1;rw[Dk]at h1;rw[IJ,de (by omega)]at h2;rw[IJ,de a,<-h2,tv,Nat.or_comm (y.getD i 0),<-tv,tv (x.getD i 0),Nat.or_self]
theorem Ry{E:List Bool}{fs:List (List Nat)}{b:List Nat}:∀(r x y:List Nat),fT (lX E fs b r x) y->lX E fs b r y=y
 | [],x,y,h=>Rx h
 |s::r,x,y,h=>by
  unfold lX at h|-
  split
  ·rename_i a
   rw[de a]at h;rw[Rx ((Rw r _).trans h)];exact Ry r _ y h
  ·rename_i a
   rw[dk a]at h;exact Rx h
def mis:List Nat->Nat
 | []=>0
 |a::x=>(18446744073709551616-a)+mis x
theorem acQ:∀{x y:List Nat},fT x y->kH y->mis y<=mis x/\(mis y=mis x->x=y)
 | [],[],_,_=>⟨zL0,fun _=>rfl⟩
 | [],_::_,h,_=>by have:=h.1;simp at this
 |_::_,[],h,_=>by have:=h.1;simp at this
 |a::x,b::y,h,hw=>by
  have g:a ||| b=b:=by simpa using h.2 0
  have c:fT x y:=⟨by simpa using h.1,fun i=>by simpa using h.2 (i+1)⟩;have j:=hw b eh;have d:a<=b:=by rw[<-g];exact Nat.left_le_or
  obtain⟨h1,h2⟩:=acQ c fun z f=>hw z (ev _ f)
  simp only[mis];refine⟨by omega,fun e=>?_⟩;obtain rfl:a=b:=by omega
  rw[h2 (by omega)]
theorem ab1:∀(x:List Nat),mis x<=x.length*18446744073709551616
 | []=>by simp[mis]
 |a::x=>by
  have:=ab1 x;simp only[mis,el,rI];omega
def xG:List (List Nat)->Nat
 | []=>0
 |x::l=>mis x+xG l
theorem aa1:∀(l:List (List Nat))(x:List Nat),xG (l++[x])=xG l+mis x
 | [],x=>by simp[xG]
 |y::l,x=>by
  rw[fX,xG,xG,aa1 l x];omega
theorem aa2:∀(l:List (List Nat))(b:Nat)(x y:List Nat),l[b]?=some x->xG (l.set b y)+mis x=xG l+mis y
 | [],b,x,y,h=>by cases h
 |z::l,0,x,y,h=>by
  cases h;simp only[ms,xG];omega
 |z::l,b+1,x,y,h=>by
  have:=aa2 l b x y (by simpa using h);simp only[mv,xG];omega
theorem Yp{l:List (Nat×Nat)}{a b:Nat}(j:l.Nodup)(h:∀s∈l,s.1<a/\s.2<b):l.length<=a*b:=by
 have h1:(l.map fun s=>s.1*b+s.2).Nodup:=by
  rw[List.Nodup,rd];refine List.Pairwise.imp_of_mem (fun{s u}d k c e=>c ?_) j;have h1:=h s d;have h2:=h u k;have f:s.1=u.1:=by
   have m:(s.1*b+s.2) / b=s.1:=by rw[Nat.mul_comm,Nat.mul_add_div (by omega),Nat.div_eq_of_lt h1.2,lP]
   have g:(u.1*b+u.2) / b=u.1:=by rw[Nat.mul_comm,Nat.mul_add_div (by omega),Nat.div_eq_of_lt h2.2,lP]
   rw[<-m,<-g,e]
  rw[f]at e;exact qS f (by omega)
 have h2:=IV (a*b) _ h1 fun x i=>by
  obtain⟨s,d,rfl⟩:=ej.1 i;have:=h s d
  calc s.1*b+s.2<s.1*b+b:=by omega
   _=(s.1+1)*b:=by rw[rI,sL]
   _<=a*b:=j9 b this.1
 simpa using h2
theorem fT.has{x y:List Nat}(h:fT x y){t:Nat}(k:dU x t=true):dU y t=true:=by
 unfold dU at k|-;rw[<-h.2,qT,k,Bool.true_or]
end Lx
def bA.sO(c:bA)(s:Nat×Nat):List (au×Nat):=(iP c.P c.f s.1 s.2 c.P.length).filter (zw c.P c.nT)
def bA.inn(c:bA)(x:au×Nat):Nat×Nat:=(x.2,(eT c.P x.1).getD 0)
def LG(c:bA)(S:bL)(p:Nat)(x:au×Nat):Prop:=∃q,S.st[q]?=some (c.inn x)/\lX c.E c.fs (S.ss.getD p []) (oh c.P x.1) (S.ss.getD q [])=S.ss.getD q []
structure Hg(c:bA)(st NM:Nat)(R:Nat×Nat->Prop)(G:Nat×Nat->Nat->Prop):Prop where
 r0:R (0,st)
 r1:∀s x,R s->x∈c.sO s->R (c.inn x)
 rn:∀l:List (Nat×Nat),l.Nodup->(∀s∈l,R s)->l.length<=NM
 g0:G (0,st) 0
 g1:∀s x t,R s->x∈c.sO s->JB c.E c.fs (G s) (oh c.P x.1) t->G (c.inn x) t
structure kV(c:bA)(R:Nat×Nat->Prop)(G:Nat×Nat->Nat->Prop)(K:Nat->Nat->Prop)(S:bL):Prop where
 nd:S.st.Nodup
 lw:S.ws.length=S.st.length
 ls:S.ss.length=S.st.length
 qn:S.wq.Nodup
 q:∀p,p∈S.wq↔S.ws[p]?=some true
 snd:∀p s,S.st[p]?=some s->R s/\∀t,dU (S.ss.getD p []) t=true->G s t
 cls:∀p s j x,S.st[p]?=some s->S.ws[p]?=some false->K p j->(c.sO s)[j]?=some x->LG c S p x
 Hl:∀p u,c.st0 u->S.st[p]?=some (0,u)->dU (S.ss.getD p []) 0=true
def bL.mu(c:bA)(NM:Nat)(S:bL):Nat:=2*((NM-S.st.length)*(c.nw*18446744073709551616+1)+xG S.ss)+S.wq.length
section
variable {c:bA} {w0:World} {F:Nat -> Prop} {B:Nat} {W:World} {S S' zD:bL} {R:Nat×Nat -> Prop} {G:Nat×Nat -> Nat -> Prop} {K:Nat -> Nat -> Prop} {st NM:Nat}
theorem jP.wd(h:jP c w0 F B W S){i:Nat}{x:List Nat}(b:S.ss[i]?=some x):kH x/\x.length=c.nw:=by
 have d:=(cG.1 b).1;obtain⟨g,k⟩:∃g,S.gs[i]?=some g:=⟨_,cF (by rw[h.lg,<-h.ls];exact d)⟩;obtain⟨-,l,a,f,j⟩:=h.sets i g k;rw[b]at a;cases a;exact⟨f.wd,j⟩
theorem Ny{α:Type}{l:List (List α)}{i:Nat}{x:List α}(h:l[i]?=some x):l.getD i []=x:=by simp[h]
theorem M6{α:Type}{l:List (List α)}{i:Nat}{x:List α}(h:i<l.length):(l++[x]).getD i []=l.getD i []:=by simp[List.getElem?_append_left h]
theorem iA{α:Type}{l:List α}{i:Nat}{x:α}(h:l[i]?=some x):i<l.length:=(cG.1 h).1
theorem kV.pop(h:kV c R G (fun _ _=>True) S){a:Nat}{n:List Nat}(g:S.wq=a::n)(b:S'.st=S.st)(d:S'.ss=S.ss)(i:S'.ws=S.ws.set a false)(m:S'.wq=n):kV c R G (fun p j=>p≠a\/j<0) S'/\S'.mu c NM+1=S.mu c NM/\a<S.st.length:=by
 have l:=h.qn;rw[g,qk]at l;have o:S.ws[a]?=some true:=(h.q a).1 (by rw[g];exact eh);have f:=iA o;refine⟨⟨by rw[b];exact h.nd,by rw[i,b,ib];exact h.lw,by rw[b,d];exact h.ls,by rw[m];exact l.2,fun p=>?_,by rw[b,d];exact h.snd,fun p s j x h1 h2 h3 h4=>?_,by rw[b,d];exact h.Hl⟩,?_,by rw[<-h.lw];exact f⟩
 ·rw[m,i,fk]
  by_cases e:a=p
  ·subst e
   rw[de rfl,de f];exact⟨fun k=>absurd k l.1,fun k=>by cases k⟩
  ·rw[dk e,<-h.q p,g,ee]
   exact⟨.inr,fun k=>k.resolve_left fun k=>e k.symm⟩
 ·have r:p≠a:=h3.resolve_right (Nat.not_lt_zero j)
  rw[i,fk,dk fun e=>r e.symm]at h2;rw[b]at h1;have:=h.cls p s j x h1 h2 trivial h4;unfold LG at this|-;rw[b,d];exact this
 ·unfold bL.mu
  rw[b,d,m,g,el];omega
theorem kV.placed(h:kV c R G K S)(U:Hg c st NM R G){s:Nat×Nat}{p:Nat}(Z:R s)(I:Jp c st S s p S')(CG:0<c.nT)(L:c.st0 st):kV c R G K S'/\S'.mu c NM<=S.mu c NM/\S'.st[p]?=some s/\(∀(i:Nat)u,S.st[i]?=some u->S'.st[i]?=some u):=by
 rcases I.or with ⟨f,l,m,n⟩|⟨V,f,l,m,n⟩
 ·refine⟨⟨by rw[f];exact h.nd,by rw[m,f];exact h.lw,by rw[f,l];exact h.ls,by rw[n];exact h.qn,by rw[n,m];exact h.q,by rw[f,l];exact h.snd,fun p s j x h1 h2 h3 h4=>?_,by rw[f,l];exact h.Hl⟩,?_,I.at',by rw[f];exact fun _ _ h=>h⟩
  ·rw[f]at h1
   rw[m]at h2;have:=h.cls p s j x h1 h2 h3 h4;unfold LG at this|-;rw[f,l];exact this
  ·unfold bL.mu
   rw[f,l,n];exact zL0
 ·have hp:p=S.st.length:=by
   have k:=I.at';rw[f,jj]at k
   split at k
   ·exact absurd (cQ k) V
   ·have:=iA k
    simp at this;omega
  have D:S'.st.Nodup:=by
   rw[f,ik];exact⟨h.nd,by simp,fun a M b A=>by rw[cM]at A;subst A;exact fun e=>V (e▸M)⟩
  have H:∀q u,S'.st[q]?=some u->R u/\∀t,dU (S'.ss.getD q []) t=true->G u t:=fun q u g=>by
   rw[f,jj]at g
   split at g
   ·rename_i v
    rw[l,M6 (by rw[h.ls];exact v)];exact h.snd q u g
   ·rename_i v
    have y:q=S.st.length:=by have:=iA g;simp at this;omega
    subst y;simp at g;subst g;refine⟨Z,fun t r=>?_⟩;have Q:S'.ss.getD S.st.length []=uG st c.nT s:=by rw[l,<-h.ls];simp
    rw[Q]at r;unfold uG at r;have T:∀t,dU (List.replicate (Lx.nW c.nT) 0) t=false:=fun t=>by
     unfold dU;rw[ed,ju]
     split <;> simp
    split at r
    ·rename_i C
     subst C;rw[aaJ (by rw[im];unfold Lx.nW;omega),T,Bool.false_or,ii]at r;subst r;exact U.g0
    ·rw[T]at r
     cases r
  have N:∀q u,c.st0 u->S'.st[q]?=some (0,u)->dU (S'.ss.getD q []) 0=true:=fun q u E g=>by
   rw[f,jj]at g
   split at g
   ·rename_i v
    rw[l,M6 (by rw[h.ls];exact v)];exact h.Hl q u E g
   ·rename_i v
    have y:q=S.st.length:=by have:=iA g;simp at this;omega
    subst y;simp at g;subst g;have Q:S'.ss.getD S.st.length []=uG st c.nT (0,u):=by rw[l,<-h.ls];simp
    have C:u=st:=gh (E.symm.trans L);rw[Q,C,uG,de rfl,aaJ (by rw[im];unfold Lx.nW;omega)];simp
  have Y:S.st.length+1<=NM:=by
   have:=U.rn S'.st D fun u g=>by
    obtain⟨q,hq⟩:=eQ.1 g;exact(H q u hq).1
   rw[f]at this;simpa using this
  refine⟨⟨D,by rw[m,f];simp[h.lw],by rw[f,l];simp[h.ls],?_,fun q=>?_,H,fun q u j x h1 h2 h3 h4=>?_,N⟩,?_,I.at',fun i u g=>by rw[f,eC (iA g)];exact g⟩
  ·rw[n,ik]
   exact⟨h.qn,by simp,fun a M b A=>by
    rw[cM]at A;subst A;have:=iA ((h.q a).1 M);rw[h.lw]at this;omega⟩
  ·rw[n,m,cY,cM,jj,h.lw,h.q q]
   split
   ·rename_i v
    exact⟨fun k=>k.resolve_right (by omega),.inl⟩
   ·rename_i v
    constructor
    ·rintro(k | k)
     ·have:=iA k;rw[h.lw]at this;omega
     ·subst k;rw[hp];simp
    ·intro k
     have:=iA k;simp at this;exact .inr (by omega)
  ·have P:q<S.st.length:=by
    have k:=iA h1;rw[f]at k;rcases po q S.st.length with X|X
    ·exact X
    ·have C:q=S.ws.length:=by simp at k;rw[h.lw];omega
     rw[m,C]at h2;simp at h2
   rw[f,eC P]at h1;rw[m,eC (by rw[h.lw];exact P)]at h2;obtain⟨o,J,k2⟩:=h.cls q u j x h1 h2 h3 h4;have z:=iA J;refine⟨o,by rw[f,eC z];exact J,?_⟩;rw[l,M6 (by rw[h.ls];exact P),M6 (by rw[h.ls];exact z)];exact k2
  ·unfold bL.mu
   rw[f,l,n,cH,cH,aa1];have J:=ab1 (uG st c.nT s);rw[ab0]at J;obtain⟨d,hd⟩:∃d,NM-S.st.length=d+1:=⟨NM-S.st.length-1,by omega⟩;have O:NM - (S.st.length+[s].length)=d:=by simp;omega
   rw[hd,O,rI,sL];unfold bA.nw;simp only[gx];omega
theorem kV.hand (hg:Hg c st NM R G) {a b i:Nat} {x:au×Nat} {s:Nat×Nat} (h:kV c R G (fun p j=>p≠a\/j<i) S) (U:S.st[a]?=some s) (hx:(c.sO s)[i]?=some x) (T:S.st[b]?=some (c.inn x)) {g:Bool} (d:Hands c S a b (oh c.P x.1) g S')
  (hW:∀(i:Nat)y,S'.ss[i]?=some y->kH y) (h0:g=false->zD=S') (h1:g=true->Waits S' b zD):kV c R G (fun p j=>p≠a\/j<i+1) zD/\zD.mu c NM<=S.mu c NM/\zD.st=S.st:=by
 have ah:=iA U;have Z:=iA T;obtain⟨C,l⟩:∃y,S.ss[b]?=some y:=⟨_,cF (by rw[h.ls];exact Z)⟩;have Q:=Ny l;obtain⟨y,O⟩:∃y,y=lX c.E c.fs (S.ss.getD a []) (oh c.P x.1) C:=⟨_,rfl⟩;have m:S'.ss=S.ss.set b y:=by rw[d.ss,Q,<-O]
 have ab:g=true↔y≠C:=by rw[d.grew,Q,<-O]
 have n:fT C y:=by rw[O];exact Rw ..
 have M:∀q,S'.ss.getD q []=if q=b then y else S.ss.getD q []:=fun q=>by
  rw[m];simp only[ed,fk]
  by_cases e:b=q
  ·subst e;rw[de rfl,de rfl,de (iA l)];rfl
  ·rw[dk e,dk fun k=>e k.symm]
 have aa:∀p u,S.st[p]?=some u->R u/\∀t,dU (S'.ss.getD p []) t=true->G u t:=fun p u N=>by
  refine⟨(h.snd p u N).1,fun t Y=>?_⟩;rw[M]at Y
  split at Y
  ·rename_i e
   subst e;rw[T]at N;cases N;rw[O]at Y;rcases aag _ _ Y with k|k
   ·exact(h.snd p _ T).2 t (by rw[Q];exact k)
   ·refine hg.g1 s x t (h.snd a s U).1 (cQ hx) ?_
    have hm:∀(r:List Nat),JB c.E c.fs (fun t=>dU (S.ss.getD a []) t=true) r t->JB c.E c.fs (G s) r t:=fun r=>by
     induction r with
     |nil=>exact fun k=>(h.snd a s U).2 t k
     |cons o r ih=>exact fun k=>k.imp id fun k=>⟨k.1,ih k.2⟩
    exact hm _ k
  ·exact(h.snd p u N).2 t Y
 have X:∀p u,c.st0 u->S.st[p]?=some (0,u)->dU (S'.ss.getD p []) 0=true:=fun p u af N=>by
  have:=h.Hl p u af N;rw[M]
  split
  ·rename_i e
   subst e;rw[Q]at this;exact n.has this
  ·exact this
 cases g with
 |false=>
  have ey:y=C:=Decidable.by_contra fun k=>by have:=ab.2 k;cases this
  have es:S'.ss=S.ss:=by
   rw[m,ey];apply pA;intro j;rw[fk]
   split
   ·rename_i e;subst e;rw[l,de (iA l)]
   ·rfl
  rw[h0 rfl];refine⟨⟨by rw[d.st];exact h.nd,by rw[d.ws,d.st];exact h.lw,by rw[es,d.st];exact h.ls,by rw[d.wq];exact h.qn,by rw[d.wq,d.ws];exact h.q,by rw[d.st];exact aa,fun p u j z A I k3 H=>?_,by rw[d.st];exact X⟩,?_,d.st⟩
  ·rw[d.st]at A
   rw[d.ws]at I;unfold LG;rw[d.st,es]
   by_cases e:p≠a\/j<i
   ·exact h.cls p u j z A I e H
   ·obtain rfl:p=a:=Decidable.by_contra fun k=>e (.inl k)
    obtain rfl:j=i:=by omega
    rw[U]at A;cases A;rw[hx]at H;cases H;exact⟨b,T,by rw[Q,<-O];exact ey⟩
  ·unfold bL.mu
   rw[d.st,es,d.wq];exact zL0
 |true=>
  have ad:=ab.1 rfl;have w:=h1 rfl;have ag:S'.ss[b]?=some y:=by rw[m,fk,de rfl,de (iA l)]
  have hm:=acQ n (hW b y ag);have ae:=aa2 S.ss b C y l;rw[<-m]at ae;have v:zD.ws=S.ws.set b true:=by rw[w.ws,d.ws]
  have D:b<S.ws.length:=by rw[h.lw];exact Z
  have f:zD.st=S.st:=w.st.trans d.st;have L:(S.ws[b]?=some true/\zD.wq=S.wq)\/(S.ws[b]?=some false/\zD.wq=S.wq++[b]):=by
   have:=w.wq;rw[d.ws,d.wq]at this;exact this
  refine⟨⟨by rw[f];exact h.nd,by rw[v,f,ib];exact h.lw,by rw[w.ss,m,f,ib];exact h.ls,?_,fun p=>?_,by rw[f,w.ss];exact aa,fun p u j z A I k3 H=>?_,by rw[f,w.ss];exact X⟩,?_,f⟩
  ·rcases L with ⟨-,k⟩ | ⟨V,k⟩
   ·rw[k];exact h.qn
   ·rw[k,ik]
    exact⟨h.qn,by simp,fun o ho o' ac=>by
     rw[cM]at ac;subst ac;intro e;subst e;rw[(h.q _).1 ho]at V;cases V⟩
  ·rw[v,fk]
   rcases L with ⟨V,k⟩|⟨V,k⟩
   ·rw[k,h.q p]
    by_cases e:b=p
    ·subst e;rw[de rfl,de D,V]
    ·rw[dk e]
   ·rw[k,cY,cM,h.q p]
    by_cases e:b=p
    ·subst e;rw[de rfl,de D];exact⟨fun _=>rfl,fun _=>.inr rfl⟩
    ·rw[dk e];exact⟨fun k=>k.resolve_right fun k=>e k.symm,.inl⟩
  ·rw[f]at A
   have J:p≠b:=fun e=>by
    subst e;rw[v,fk,de rfl,de D]at I;cases I
   rw[v,fk,dk fun e=>J e.symm]at I;unfold LG;rw[f,w.ss]
   by_cases e:p≠a\/j<i
   ·obtain⟨o,m1,m2⟩:=h.cls p u j z A I e H
    refine⟨o,m1,?_⟩;rw[M p,dk J,M o]
    split
    ·rename_i e2
     subst e2;rw[Q]at m2;exact Ry _ C y (by rw[m2];exact n)
    ·exact m2
   ·obtain rfl:p=a:=Decidable.by_contra fun k=>e (.inl k)
    obtain rfl:j=i:=by omega
    rw[U]at A;cases A;rw[hx]at H;cases H;refine⟨b,T,?_⟩;rw[M p,dk J,M b,de rfl];exact Ry _ C y (by rw[<-O];exact fT.refl y)
  ·unfold bL.mu
   rw[f,w.ss];have ai:Lx.mis y<Lx.mis C:=Nat.lt_of_le_of_ne hm.1 fun e=>ad (hm.2 e).symm
   have mO:zD.wq.length<=S.wq.length+1:=by
    rcases L with ⟨-,k⟩|⟨-,k⟩ <;> rw[k] <;> simp
   omega
end
def Qh(Ds:List Nat):List Deferred:=Ds.map fun D=>{ target:=.collected D,args:=#[] }
structure oU(w:World)(Ds:List Nat):Prop where
 nd:Ds.Nodup
 at':∀D∈Ds,w.heap[D]?=some (.deferred (some []))
theorem oU.move{w w':World}{a:List Nat}(h:oU w a)(c:∀D∈a,w'.heap[D]?=w.heap[D]?):oU w' a:=⟨h.nd,fun D b=>(c D b).trans (h.at' D b)⟩
structure UN(Ds:List Nat)(w w':World):Prop where
 heap:∀k,k∉Ds->w'.heap[k]?=w.heap[k]?
 bS:w'.heap.size=w.heap.size
 fr:w'.os=w.os/\w'.tape=w.tape/\w'.output=w.output
theorem QI{F:Fence}{n:Nat}{P:Program}{fn:Func}{tmps:Array Value}{R:Ending->World->Prop}:∀(Ds:List Nat)(w:World),oU w Ds->(∀w',UN Ds w w'->LeavesIn F n P fn tmps R [] .returning w')->LeavesInM F n P fn tmps R (Qh Ds) .returning w
 | [],w,_,h=>h w ⟨fun _ _=>rfl,rfl,rfl,rfl,rfl⟩
 |D::Ds,w,hc,h=>by
  have c:=qk.1 hc.nd;refine⟨by simp,.inl ⟨D,_,rfl,run_takeDeferred (hc.at' D eh),QI Ds _ ⟨c.2,fun E b=>(World.putObj_heap_other (by rintro rfl;exact c.1 b)).trans (hc.at' E (ev _ b))⟩ fun w' a=>h w' ⟨fun k d=>(a.heap k fun e=>d (ev _ e)).trans (World.putObj_heap_other (by rintro rfl;exact d eh)),by rw[a.bS];simp[World.putObj],a.fr⟩⟩⟩
section
variable {c:bA} {w0:World} {F:Nat -> Prop} {B:Nat} {W:World} {S:bL} {R:Nat×Nat -> Prop} {G:Nat×Nat -> Nat -> Prop} {st NM:Nat}
theorem kV.none0(h:jP c w0 F B W S)(h1:S.st=[])(h2:S.wq=[]):kV c R G (fun _ _=>True) S:=by
 have b:S.ws=[]:=List.length_eq_zero_iff.1 (by rw[h.lw,h1];rfl);refine⟨by rw[h1];simp,h.lw,h.ls,by rw[h2];simp,fun p=>by rw[h2,b];simp,fun p s a=>by rw[h1]at a;simp at a,fun p s j x a=>by rw[h1]at a;simp at a,fun p u _ a=>by rw[h1]at a;simp at a⟩
theorem jP.an6(b:mU c w0 F B)(h:jP c w0 F B W S){v:Value}{a:List Nat}(f:lK B W v a)(d:v.ownBlock=S.vQ.ownBlock):aY c w0 F B W S (W.setCell ⟨c.lb,11,none⟩ v) { S with vQ:=v,wq:=a } :=
 ⟨⟨cu.stored b h.keep h.blk rfl h.rS h.rA f h.rW h.map h.sets h.qd h.big,h.lg,h.ls,h.lw⟩,ql.stored (v:=.int .i64 0) (fun g e=>by cases e) ⟨rfl,rfl,rfl,zL0,fun _ _ _=>rfl⟩ fun k e=>by
  rcases e with e|e|e|e|e|e
  ·exact .inl (.inl e)
  ·exact .inl (.inr (.inl e))
  ·exact .inl (.inr (.inr (.inl e)))
  ·exact .inl (.inr (.inr (.inr (.inl e))))
  ·exact .inl (.inr (.inr (.inr (.inr (.inl (d.symm.trans e))))))
  ·exact .inl (.inr (.inr (.inr (.inr (.inr e)))))⟩
theorem cu.Dr{g:List (Nat×Nat)}(h:cu c w0 F B W S g){k:Nat}(a:S.own c k)(f:Option (List Deferred)):W.heap[k]?≠some (.deferred f):=fun e=>by
 have b:∀{t:Nat},o7 W k t->False:=fun⟨y,d⟩=>by rw[e]at d;cases d
 rcases a with rfl|rfl|a|a|a|a|a
 ·exact b h.kL
 ·obtain⟨i,j,h1,-⟩:=h.map
  rw[e]at h1;cases h1
 ·exact b (h.kS a)
 ·exact b (h.kA a)
 ·exact b (h.kQ a)
 ·exact b (h.kW a)
 ·exact b (h.kG a)
theorem cu.SH{f:List (Nat×Nat)}(h:cu c w0 F B W S f){k:Nat}(a:S.own c k){cs:Array Value}(d:aj W k cs 216):False:=by
 have b:∀{t:Nat},o7 W k t->t≠216->False:=fun h1 h2=>h1.ne ⟨cs,d⟩ h2 rfl
 rcases a with rfl|rfl|a|a|a|a|a
 ·exact b h.kL (by decide)
 ·exact h.JV ⟨cs,d⟩ rfl
 ·exact b (h.kS a) (by decide)
 ·exact b (h.kA a) (by decide)
 ·exact b (h.kQ a) (by decide)
 ·exact b (h.kW a) (by decide)
 ·exact b (h.kG a) (by decide)
theorem SI:∀(l:List (Nat×Nat))(a:Nat)(x y:Nat),l[a]?=some (x,y)->(l.flatMap zx)[a*2]?=some (.int .i64 (x:Int))/\(l.flatMap zx)[a*2+1]?=some (.int .i64 (y:Int))
 | [],a,x,y,h=>by simp at h
 |p::l,0,x,y,h=>by
  simp only[ir,lA]at h;subst h;exact⟨rfl,rfl⟩
 |p::l,a+1,x,y,h=>by
  have:=SI l a x y (by simpa using h);rw[du,show zx p=[.int .i64 (p.1:Int),.int .i64 (p.2:Int)] from rfl,show (a+1)*2=a*2+2 by omega];exact this
theorem akv{w:World}{v:Value}{n:Nat}{l:List (Nat×Nat)}(h:w.ownsRow B 212 2 v n (l.flatMap zx)){a x y:Nat}(k:l[a]?=some (x,y)):∃g cap,v=.slice (some ⟨g,0,none⟩) n cap/\v.ownBlock=some g/\w.cell? ⟨g,a*2,none⟩=some (.int .i64 (x:Int))/\w.cell? ⟨g,a*2+1,none⟩=some (.int .i64 (y:Int))/\n<=maxLen:=by
 obtain⟨i,d⟩:=SI l a x y k;have f:=iA d;rcases h.2 with ⟨rfl,q⟩|⟨g,cap,m,rfl,o,p,h1,h2,h3,h4⟩
 ·have:=h.1
  omega
 ·have b:∀j,(⟨g,0,none⟩:Addr).add j=⟨g,j,none⟩:=fun j=>by unfold Addr.add;split <;> simp_all
  exact⟨g,cap,rfl,rfl,by rw[<-b];exact ml h (g:=g) rfl _ _ i,by rw[<-b];exact ml h (g:=g) rfl _ _ d,dg h1 h2⟩
def Af(c:bA)(w0:World)(F:Nat->Prop)(B:Nat)(R:Nat×Nat->Prop)(G:Nat×Nat->Nat->Prop)(NM a0:Nat)(w7:World)(S6:bL)(i:Nat)(Z:Nat->Prop)(W':World):Prop:=∃S',aY c w0 F B w7 S6 W' S'/\kV c R G (fun p j=>p≠a0\/j<i) S'/\S'.mu c NM<=S6.mu c NM/\(∀(j:Nat)u,S6.st[j]?=some u->S'.st[j]?=some u)/\∀k,Z k->w7.heap.size<=k/\k<W'.heap.size/\¬S'.own c k
theorem Af.vO(d:mU c w0 F B){NM j:Nat}{g:World}{l:bL}(n:B<=g.heap.size):xJ (Af c w0 F B R G NM j g l) where
 own i Z A C row hs hg hr:=by
  obtain⟨b,T,I,m,st,z⟩:=hs;have ne:∀k,k<A.heap.size->(∀r,row=some r->k≠r)->C.heap[k]?=A.heap[k]?:=fun k a f=>hg.block k a fun e=>f k e.symm rfl
  refine⟨b,⟨T.m.move (fun k a=>ne k ?_ fun r e=>?_) hg.size,fun k a f=>(ne k (dd a T.x.bS) fun r e=>?_).trans (T.x.aU k a f),T.x.new,dg T.x.bS hg.size,hg.1.trans T.x.fr.1,hg.2.trans T.x.fr.2.1,hg.3.trans T.x.fr.2.2⟩,I,m,st,fun k a=>⟨(z k a).1,dd (z k a).2.1 hg.size,(z k a).2.2⟩⟩
  ·exact a.elim (fun e=>T.m.yP e) fun e=>dd (d.low k e).1 T.m.big
  ·have:=z r (hr r e)
   rcases a with a|a
   ·rintro rfl;exact this.2.2 a
   ·have:=(d.low k a).1;omega
  ·have:=z r (hr r e);omega
 new i Z A o hs:=by
  obtain⟨b,T,I,m,st,z⟩:=hs;refine⟨b,T.trans (aY.move T.m (fun k a=>di _ _ _ a) d (by simp) ⟨rfl,rfl,rfl⟩),I,m,st,fun k a=>?_⟩;rw[fb];rcases a with a|rfl
  ·exact⟨(z k a).1,by have:=(z k a).2.1;omega,(z k a).2.2⟩
  ·exact⟨T.x.bS,by omega,fun e=>by have:=T.m.yP e;omega⟩
theorem akw(l:mU c w0 F B){k d:Nat}(hd:d<(cZ c.P k).length):TlR w0 F (tailV (Ga w0 c.gP k) d) (oh c.P (k,d)):=by
 obtain⟨p,i⟩:∃p,c.P[k]?=some p:=by
  cases h:c.P[k]? with
  |none=>simp[cZ,h]at hd
  |some p=>exact⟨p,rfl⟩
 have g:cZ c.P k=p.right:=by simp[cZ,i]
 have o:=l.rl k;rw[g]at hd o;obtain⟨s,t,-,m,-,q,a⟩:=l.prods.row k p i;obtain⟨b,rfl,n,r⟩:=a.resolve_left fun h=>by rw[h.2.1]at hd;exact absurd hd (Nat.not_lt_zero _)
 have e:(oh c.P (k,d)).length=p.right.length-d-1:=by unfold oh;rw[g,oe];omega
 unfold Ga;rw[m];refine⟨_,_,by rw[e];rfl,by omega,fun j x f=>⟨b,d+1,?_,n,?_⟩⟩
 ·have:=iA f
  rw[e]at this;rw[dk (by omega),fi]
 ·unfold oh at f
  rw[g,sv]at f;exact r _ _ f
theorem kV.bnd{K:Nat->Nat->Prop}(h:kV c R G K S)(d:Hg c st NM R G):S.st.length<=NM/\S.wq.length<=S.st.length:=by
 refine⟨d.rn S.st h.nd fun s a=>?_,IV _ _ h.qn fun p b=>?_⟩
 ·obtain⟨i,f⟩:=eQ.1 a
  exact(h.snd i s f).1
 ·rw[<-h.lw]
  exact iA ((h.q p).1 b)
theorem amm{s:Nat×Nat}{k d r:Nat}(h:((k,d),r)∈c.sO s):d<(cZ c.P k).length:=by
 have h2:=(ie.1 h).2;unfold zw eT at h2;rcases po d (cZ c.P k).length with h|h
 ·exact h
 ·rw[ld h]at h2
  cases h2
theorem Af.next{NM r i:Nat}{o q:World}{g b f:bL}{Z:Nat->Prop}{a:Act}(v:aY c w0 F B o g W b)(y:b.mu c NM<=g.mu c NM)(n:∀(j:Nat)u,g.st[j]?=some u->b.st[j]?=some u)(l:∀k,Z k->o.heap.size<=k/\k<W.heap.size/\¬b.own c k)(T:aY c w0 F B W b q f)(t:kV c R G (fun p j=>p≠r\/j<i+1) f)(z:f.mu c NM<=b.mu c NM)(m:∀(j:Nat)u,b.st[j]?=some u->f.st[j]?=some u):yN Z (Af c w0 F B R G NM r o g (i+1) Z) W .normal a q :=
 ⟨⟨f,v.trans T,t,dg z y,fun j u h=>m j u (n j u h),fun k d=>⟨(l k d).1,dd (l k d).2.1 T.x.bS,fun e=>by
  have:=l k d;rcases T.x.new k e with e|e
  ·exact this.2.2 e
  ·omega⟩⟩,fun k d s=>T.x.aU k s (l k d).2.2⟩
def J4:Code->Code
 |.seq _ d=>d
 |k=>k
def FH(c:bA)(w0:World)(F:Nat->Prop)(B:Nat)(W:World)(S:bL)(R:Nat×Nat->Prop)(G:Nat×Nat->Nat->Prop)(st:Nat)(e:Ending)(W':World):Prop:=e=.returned (.tuple #[])/\∃S',aY c w0 F B W S W' S'/\kV c R G (fun _ _=>True) S'/\S'.wq=[]/\(0,st)∈S'.st
attribute [local go_sem] px
theorem agl(X:mU c w0 F B)(hG:Hg c st NM R G)(hs:c.st0 st)(cc:c.nw<=100000)(co:NM<=900000)(b9:∀s x,R s->x∈c.sO s->∀y∈oh c.P x.1,y<c.sz){w3:World}{S3:bL}{t p0:Nat}(cr:W.heap.size=t)(cn:B<=W.heap.size)(O:aY c w0 F B W S w3 S3)(hI:kV c R G (fun _ _=>True) S3)(kB:aj w3 t #[.pointer (some ⟨c.lb,0,none⟩)] 216)(hp:(0,st)∈S3.st):(J4 (J4 (Tryz.f63.body.getD .skip))).wpIn Fence.wide 9 prog (bodyPostM Fence.wide 9 prog Tryz.f63 (FH c w0 F B W S R G st)) { tmps:=#[.pointer (some ⟨c.lb,0,none⟩),.pointer (some ⟨t,0,none⟩),undef,undef,undef,undef,.pointer (some ⟨c.lb,0,none⟩),.pointer (some ⟨c.lb,0,none⟩),.agg #[.int .i64 0,.int .i64 (st:Int)],.int .i64 (p0:Int),undef,undef,undef,undef,undef,undef,undef,undef,undef,undef,undef,undef,undef,undef,undef,undef,undef,undef,undef,undef,undef,undef,undef,undef,undef,undef,undef,undef,undef,undef,undef,undef,undef,undef,undef,undef,undef,undef,undef,undef,undef,undef,undef,undef,undef,undef,undef,undef,undef,undef,undef],defers:=[] } w3:=by
 have H0:Hid (aY c w0 F B W S w3 S3/\kV c R G (fun _ _=>True) S3/\oU w3 []/\(∀D∈([]:List Nat),W.heap.size<=D)/\aj w3 t #[.pointer (some ⟨c.lb,0,none⟩)] 216/\(0,st)∈S3.st):=⟨O,hI,⟨by simp,by simp⟩,by simp,kB,hp⟩;clear O hI kB hp;obtain⟨Q,hQ⟩:∃Q,Q=bodyPostM Fence.wide 9 prog Tryz.f63 (FH c w0 F B W S R G st):=⟨_,rfl⟩;rw[<-hQ]
 dsimp only[Tryz.f63,J4,Option.getD]
 gi_wp2
 refine wpIn_loop_ghost_k (fun n a w=>∃(u2 u3 u4 u5 zF Ho Hq Hr Ht Hu al Hw Bd Bf ar ag ap ai am ae ah ao ad ak aP aE a9 aH a1 a7 a5 aW ax Bg a2 Bh aG tY aA a8 aI Bj a6 a3 zG av zH aw yx ac yA yB an af ab:Value)(Ds:List Nat)(l:bL),n=l.mu c NM/\a={ tmps:=#[.pointer (some ⟨c.lb,0,none⟩),.pointer (some ⟨t,0,none⟩),u2,u3,u4,u5,.pointer (some ⟨c.lb,0,none⟩),.pointer (some ⟨c.lb,0,none⟩),.agg #[.int .i64 0,.int .i64 (st:Int)],.int .i64 (p0:Int),zF,Ho,Hq,Hr,Ht,Hu,al,Hw,Bd,Bf,ar,ag,ap,ai,am,ae,ah,ao,ad,ak,aP,aE,a9,aH,a1,a7,a5,aW,ax,Bg,a2,Bh,aG,tY,aA,a8,aI,Bj,a6,a3,zG,av,zH,aw,yx,ac,yA,yB,an,af,ab],defers:=Qh Ds }/\Hid (aY c w0 F B W S w l/\kV c R G (fun _ _=>True) l/\oU w Ds/\(∀D∈Ds,W.heap.size<=D)/\aj w t #[.pointer (some ⟨c.lb,0,none⟩)] 216/\(0,st)∈l.st)) (S3.mu c NM) ⟨undef,undef,undef,undef,undef,undef,undef,undef,undef,undef,undef,undef,undef,undef,undef,undef,undef,undef,undef,undef,undef,undef,undef,undef,undef,undef,undef,undef,undef,undef,undef,undef,undef,undef,undef,undef,undef,undef,undef,undef,undef,undef,undef,undef,undef,undef,undef,undef,undef,undef,undef,undef,undef,undef,undef,[],S3,rfl,rfl,H0⟩ ?_;clear H0;rintro n a w⟨u2,u3,u4,u5,zF,Ho,Hq,Hr,Ht,Hu,al,Hw,Bd,Bf,ar,ag,ap,ai,am,ae,ah,ao,ad,ak,aP,aE,a9,aH,a1,a7,a5,aW,ax,Bg,a2,Bh,aG,tY,aA,a8,aI,Bj,a6,a3,zG,av,zH,aw,yx,ac,yA,yB,an,af,ab,Ds,l,rfl,rfl,H1⟩J K hJ hK;obtain⟨O,hI,hC,hD,kB,hp⟩:=H1.out;clear H1;have x0:w.cell? ⟨t,0,none⟩=some (.pointer (some ⟨c.lb,0,none⟩)):=kB.cell 0
 cases hq:l.wq with
 |nil=>
  obtain⟨qa,qc,uq⟩:=O.m.rQ.form;have He:w.cell? ⟨c.lb,11,none⟩=some (.slice qa 0 qc):=by rw[hq]at uq;rw[show (0:Nat)=([]:List Nat).length from rfl,<-uq];exact O.m.blk.cell 11
  clear uq;have HF:Hid (∀w',UN Ds w w'->FH c w0 F B W S R G st (.returned (.tuple #[])) w'):=fun w' hw=>by
   have bG:∀k,l.own c k\/F k->k∉Ds:=fun k M b8=>by
    rcases M with M|M
    ·exact O.m.Dr M _ (hC.at' k b8)
    ·have:=(X.low k M).1
     have:=hD k b8;omega
   have hz:w.heap.size<=w'.heap.size:=Nat.le_of_eq hw.bS.symm;have bi:=O.x.fr;exact⟨rfl,l,⟨O.m.move (fun k M=>hw.heap k (bG k M)) hz,⟨fun k M hn=>(hw.heap k fun e=>by have:=hD k e;omega).trans (O.x.aU k M hn),O.x.new,dg O.x.bS hz,hw.fr.1.trans bi.1,hw.fr.2.1.trans bi.2.1,hw.fr.2.2.trans bi.2.2⟩⟩,hI,hq,hp⟩
  gi_wp2
  exact QI Ds w hC fun w' hw=>⟨_,oY rfl _ _ _,HF.out w' hw⟩
 |cons a0 tl=>
  have bj:=O.m.rQ;rw[hq]at bj;obtain⟨gq,oq,cq,uq,b7,bn,WB⟩:=bj.front;have He:w.cell? ⟨c.lb,11,none⟩=some (.slice (some ⟨gq,oq,none⟩) (tl.length+1) cq):=by rw[<-uq];exact O.m.blk.cell 11
  have e1:(0:Int)<((tl.length+1:Nat):Int):=by omega
  have e2:(0:Int)<(tl.length:Int)+1:=by omega
  have e3:decide ((0:Int)<(tl.length:Int)+1)=true:=fh e2;have l1:t<w.heap.size:=kB.lt;have l2:c.lb<w.heap.size:=O.m.blk.lt;have HV:Hid (l.vQ=.slice (some ⟨gq,oq,none⟩) (tl.length+1) cq):=uq;have HC:Hid (tl.length+1<=cq):=b7;clear uq b7
  gi_upto_region 4 with fail
  rename_i K5 uF;obtain⟨H,a4⟩:∃V,V=w.alloc (.cells #[.int .i64 (a0:Int)] 3):=⟨_,rfl⟩;rw[<-a4];have aa:Below w.heap.size w H:=by rw[a4];exact(cV _ _).alloc (zL0) _
  have bo:H.heap.size=w.heap.size+1:=by rw[a4];simp
  have Y:aj H w.heap.size #[.int .i64 (a0:Int)] 3:=by rw[a4];exact aj.new ..
  have T4:aY c w0 F B w l H l:=aY.move O.m (fun k M=>aa.block k M) X (by omega) ⟨aa.1,aa.2,aa.3⟩;have oV:aj H t #[.pointer (some ⟨c.lb,0,none⟩)] 216:=(aa.block _ l1).trans kB;have ba:¬l.own c w.heap.size:=fun e=>by have:=O.m.yP e;omega
  have bw:¬l.own c t:=fun e=>O.m.SH e kB
  have C4:oU H Ds:=hC.move fun D N=>aa.block D (dv.1 (hC.at' D N)).1
  obtain⟨bf,bU⟩:∃b,w.heap.size=b:=⟨_,rfl⟩;rw[bU]at Y bo ba|-;clear a4 x0 He bn kB;have x0:H.cell? ⟨t,0,none⟩=some (.pointer (some ⟨c.lb,0,none⟩)):=oV.cell 0;have He:H.cell? ⟨c.lb,11,none⟩=some (.slice (some ⟨gq,oq,none⟩) (tl.length+1) cq):=(T4.m.blk.cell 11).trans (eS some HV.out);have bY:=T4.m.blk.frozen 11;have cb:=HC.out;have bu:=WB.move (w':=H) fun g e=>aa.block g (WB.lt g e).2
  have HP:Hid (∀o v,lK B H v tl->v.ownBlock=some gq->aY c w0 F B w l ((H.drewN o).setCell ⟨c.lb,11,none⟩ v) { l with vQ:=v,wq:=tl }):=fun o v hv he=>T4.trans (aY.trans (aY.move T4.m (W1:=H.drewN o) (fun _ _=>rfl) X (zL0) ⟨rfl,rfl,rfl⟩) (jP.an6 (W:=H.drewN o) X (T4.m.move (fun _ _=>rfl) (zL0)) (hv.move fun _ _=>rfl) (by rw[he,HV.out];rfl)))
  have bD:Hid (∃v5:Value,lK B H v5 tl/\v5.ownBlock=some gq/\(cq-1=0->v5=.slice (some ⟨gq,oq,none⟩) 0 0)/\(¬cq-1=0->v5=.slice (some ⟨gq,oq+1,none⟩) tl.length (cq-1))):=by
   refine⟨_,bu,by split <;> rfl,fun e=>?_,fun e=>?_⟩
   ·rw[de (by omega),e,show tl.length=0 by omega]
   ·rw[dk (by omega)]
  obtain⟨v5,bz,qi,b5,b4⟩:=bD.out;have T5:=fun o=>HP.out o v5 bz qi
  clear bu WB HP bD bz bj;have WC:∀o v,aj ((H.drewN o).setCell ⟨c.lb,11,none⟩ v) bf #[.int .i64 (a0:Int)] 3/\aj ((H.drewN o).setCell ⟨c.lb,11,none⟩ v) t #[.pointer (some ⟨c.lb,0,none⟩)] 216/\oU ((H.drewN o).setCell ⟨c.lb,11,none⟩ v) Ds:=fun o v=>by
   have ne:∀{k:Nat},k≠c.lb->((H.drewN o).setCell ⟨c.lb,11,none⟩ v).heap[k]?=H.heap[k]?:=fun M=>wu (H.drewN o) 11 v M
   refine⟨(ne fun e=>ba (.inl e)).trans Y,(ne fun e=>bw (.inl e)).trans oV,C4.move fun D N=>ne fun e=>?_⟩;exact T4.m.Dr (k:=D) (.inl e) _ (C4.at' D N)
  have bh:∀(u3 u4 u5 zF Ho Hq Hr Ht Hu al Hw Bd Bf ar ag ap ai am ae ah ao ad ak aP aE a9 aH a1 a7 a5 aW ax Bg a2 Bh aG tY aA a8 aI Bj a6 a3 zG av zH aw yx ac yA yB an af ab v5:Value)(U:World),aY c w0 F B w l U { l with vQ:=v5,wq:=tl }->(∀k,v5.ownBlock=some k->l.vQ.ownBlock=some k)->aj U bf #[.int .i64 (a0:Int)] 3/\aj U t #[.pointer (some ⟨c.lb,0,none⟩)] 216/\oU U Ds->K5 { tmps:=#[.pointer (some ⟨c.lb,0,none⟩),.pointer (some ⟨t,0,none⟩),.pointer (some ⟨bf,0,none⟩),u3,u4,u5,.pointer (some ⟨c.lb,0,none⟩),.pointer (some ⟨c.lb,0,none⟩),.agg #[.int .i64 0,.int .i64 (st:Int)],.int .i64 (p0:Int),zF,Ho,Hq,Hr,Ht,Hu,al,Hw,Bd,Bf,ar,ag,ap,ai,am,ae,ah,ao,ad,ak,aP,aE,a9,aH,a1,a7,a5,aW,ax,Bg,a2,Bh,aG,tY,aA,a8,aI,Bj,a6,a3,zG,av,zH,aw,yx,ac,yA,yB,an,af,ab],defers:=Qh Ds } U:=by
   clear T5 WC HV HC C4 Y oV bo aa T4 x0 He bY cb e1 e2 e3 qi b5 b4 v5 H;intro u3 u4 u5 zF Ho Hq Hr Ht Hu al Hw Bd Bf ar ag ap ai am ae ah ao ad ak aP aE a9 aH a1 a7 a5 aW ax Bg a2 Bh aG tY aA a8 aI Bj a6 a3 zG av zH aw yx ac yA yB an af ab v5 U T5 bx ⟨Y,kB,WE⟩;refine uF _ _ ?_;clear uF K5;obtain⟨I6,WG,cf⟩:=hI.pop (NM:=NM) (S':={ l with vQ:=v5,wq:=tl,ws:=l.ws.set a0 false }) hq rfl rfl rfl rfl;have br:l.ws[a0]?=some true:=(hI.q a0).1 (by rw[hq];exact eh);obtain⟨⟨s1,s2⟩,bv⟩:∃s,l.st[a0]?=some s:=⟨_,cF cf⟩;obtain⟨gW,cW,Gm,GI,cw,fw,ch⟩:=IW T5.m.rW (p:=a0) (u:=.bool true) (by rw[dj];show Option.map _ l.ws[a0]?=_;rw[br];rfl);have x0:U.cell? ⟨t,0,none⟩=some (.pointer (some ⟨c.lb,0,none⟩)):=kB.cell 0;have x1:U.cell? ⟨bf,0,none⟩=some (.int .i64 (a0:Int)):=Y.cell 0;have Qd:U.cell? ⟨c.lb,12,none⟩=some (.slice (some ⟨gW,0,none⟩) l.ws.length cW):=(T5.m.blk.cell 12).trans (eS some Gm);have fa:=fw a0;have j1:(0:Int)<=(a0:Int):=by omega
   have j2:(a0:Int)<(l.ws.length:Int):=by rw[hI.lw];omega
   have b3:Hid (∀o,aY c w0 F B w l ((U.drewN o).setCell ⟨gW,a0,none⟩ (.bool false)) { l with vQ:=v5,wq:=tl,ws:=l.ws.set a0 false }):=fun o=>T5.trans (aY.trans (aY.move T5.m (W1:=U.drewN o) (fun _ _=>rfl) X (zL0) ⟨rfl,rfl,rfl⟩) ((T5.m.move (W':=U.drewN o) (fun _ _=>rfl) (zL0)).setW X GI a0 false))
   have Ey:Hid (∀o,aj ((U.drewN o).setCell ⟨gW,a0,none⟩ (.bool false)) bf #[.int .i64 (a0:Int)] 3/\aj ((U.drewN o).setCell ⟨gW,a0,none⟩ (.bool false)) t #[.pointer (some ⟨c.lb,0,none⟩)] 216/\oU ((U.drewN o).setCell ⟨gW,a0,none⟩ (.bool false)) Ds):=fun o=>by
    have ne:∀{k:Nat},k≠gW->((U.drewN o).setCell ⟨gW,a0,none⟩ (.bool false)).heap[k]?=U.heap[k]?:=fun M=>wu (U.drewN o) a0 (.bool false) M
    have bg:l.own c gW:=.inr (.inr (.inr (.inr (.inr (.inl GI)))));refine⟨(ne (k:=bf) fun e=>ba (by rw[e];exact bg)).trans Y,(ne (k:=t) fun e=>bw (by rw[e];exact bg)).trans kB,WE.move fun D N=>ne fun e=>?_⟩;exact T5.m.Dr (k:=D) (by rw[e];exact .inr (.inr (.inr (.inr (.inr (.inl GI)))))) _ (WE.at' D N)
   clear T5 Y kB WE Gm GI fw ch br hI hq hC
   gi_wp2
   refine mo 6 (by kernel_rfl) (by kernel_rfl) (by kernel_rfl) ?_
   dsimp only[List.take,List.drop,List.length]
   repeat (gi_big_quiet_step (fail))
   refine wpQuietIn_nil ?_;rintro _⟨o,rfl⟩;refine wpAnyIn_ready (rs:=[6]) (by kernel_rfl) (by simp) (AllReadyIn.cons rfl (fun K2 L=>?_) AllReadyIn.nil)
   go_simp
   refine L _ _ (wpAnyIn_done (by kernel_rfl) ?_ _);clear L K2;have T6:=b3.out o;obtain⟨Y,kB,Qi⟩:=Ey.out o;clear b3 Ey x0 x1 Qd fa j2 cw;generalize (U.drewN o).setCell ⟨gW,a0,none⟩ (.bool false)=w6 at T6 Y kB Qi|-;have b2:¬bL.own c { l with vQ:=v5,wq:=tl,ws:=l.ws.set a0 false } bf:=fun e=>ba (by
    rcases e with e|e|e|e|e|e|e
    ·exact .inl e
    ·exact .inr (.inl e)
    ·exact .inr (.inr (.inl e))
    ·exact .inr (.inr (.inr (.inl e)))
    ·exact .inr (.inr (.inr (.inr (.inl (bx _ e)))))
    ·exact .inr (.inr (.inr (.inr (.inr (.inl e)))))
    ·exact .inr (.inr (.inr (.inr (.inr (.inr e))))))
   have b0:¬bL.own c { l with vQ:=v5,wq:=tl,ws:=l.ws.set a0 false } t:=fun e=>T6.m.SH e kB
   obtain⟨C,Qj⟩:∃C:bL,C={ l with vQ:=v5,wq:=tl,ws:=l.ws.set a0 false }:=⟨_,rfl⟩;have OH:C.st[a0]?=some (s1,s2):=by rw[Qj];exact bv
   have ca:(0,st)∈C.st:=by rw[Qj];exact hp
   rw[<-Qj]at T6 I6 WG b2 b0;clear Qj bv hp bx;obtain⟨gS,cS,pq,cl,y1,y2,Ao⟩:=akv T6.m.rS OH;have x0:w6.cell? ⟨t,0,none⟩=some (.pointer (some ⟨c.lb,0,none⟩)):=kB.cell 0;have x1:w6.cell? ⟨bf,0,none⟩=some (.int .i64 (a0:Int)):=Y.cell 0;have m0:w6.cell? ⟨c.lb,0,none⟩=some (.slice c.ta c.nT c.tc):=T6.m.blk.cell 0;have m1:w6.cell? ⟨c.lb,1,none⟩=some c.v1:=T6.m.blk.cell 1;have m2:w6.cell? ⟨c.lb,2,none⟩=some (.slice (some ⟨c.gP,0,none⟩) c.P.length c.pc):=T6.m.blk.cell 2;have m3:w6.cell? ⟨c.lb,3,none⟩=some c.v3:=T6.m.blk.cell 3;have m4:w6.cell? ⟨c.lb,4,none⟩=some c.v4:=T6.m.blk.cell 4;have m5:w6.cell? ⟨c.lb,5,none⟩=some (.map (some c.gm)):=T6.m.blk.cell 5;have d9:w6.cell? ⟨c.lb,9,none⟩=some (.slice (some ⟨gS,0,none⟩) C.st.length cS):=(T6.m.blk.cell 9).trans (eS some pq);have j2:(a0:Int)<(C.st.length:Int):=by have:=iA OH;omega
   clear pq cl Ao
   gi_wp2
   refine mo 11 (by kernel_rfl) (by kernel_rfl) (by kernel_rfl) ?_
   dsimp only[List.take,List.drop,List.length]
   repeat (gi_big_quiet_step (fail))
   refine wpQuietIn_nil ?_;rintro _⟨rF,rfl⟩;refine wpAnyIn_ready (rs:=[11]) (by kernel_rfl) (by simp) (AllReadyIn.cons rfl (fun K2 L=>?_) AllReadyIn.nil)
   go_simp
   refine⟨trivial,(hU.2 ait).mono ?_⟩;rintro e w7⟨rfl,aF⟩;refine L _ _ (wpAnyIn_done (by kernel_rfl) ?_ _);clear L K2;clear x0 x1 m0 m1 m2 m3 m4 m5 d9 j2 y1 y2
   gi_wp2
   obtain⟨bm,vX⟩:∃b,w6.heap.size=b:=⟨_,rfl⟩;have cp:w7.heap.size=bm+2:=by rw[aF];simp[vX]
   have gJ:Below w6.heap.size w6 w7:=by rw[aF];exact((show Below w6.heap.size w6 (w6.drewN rF) from ⟨rfl,rfl,rfl,zL0,fun _ _=>rfl⟩).alloc (zL0) _).alloc (by rw[fb];exact oR _) _
   have T7:aY c w0 F B w6 C w7 C:=aY.move T6.m (fun k M=>gJ.block k M) X (by omega) ⟨gJ.1,gJ.2,gJ.3⟩;have kM:aj w7 bm #[.slice c.ta c.nT c.tc,c.v1,.slice (some ⟨c.gP,0,none⟩) c.P.length c.pc,c.v3,c.v4,.map (some c.gm)] 147:=by
    rw[aF,<-vX];exact(aj.new (w6.drewN rF) _ _).alloc _
   have kS:aj w7 (bm+1) #[.int .i64 (s1:Int),.int .i64 (s2:Int)] 212:=by
    rw[aF,<-vX];have:=aj.new ((w6.drewN rF).alloc (.cells #[.slice c.ta c.nT c.tc,c.v1,.slice (some ⟨c.gP,0,none⟩) c.P.length c.pc,c.v3,c.v4,.map (some c.gm)] 147)) #[.int .i64 (s1:Int),.int .i64 (s2:Int)] 212
    rwa [fb]at this
   have WH:aj w7 t #[.pointer (some ⟨c.lb,0,none⟩)] 216:=(gJ.block _ kB.lt).trans kB;have WI:aj w7 bf #[.int .i64 (a0:Int)] 3:=(gJ.block _ Y.lt).trans Y;have bp:oU w7 Ds:=Qi.move fun D N=>gJ.block D (dv.1 (Qi.at' D N)).1
   have WJ:¬C.own c bm/\¬C.own c (bm+1):=⟨fun e=>by have:=T6.m.yP e;omega,fun e=>by have:=T6.m.yP e;omega⟩;have bt:=T6.trans T7;have zI:Hid (aY c w0 F B w l w7 C/\jP c w0 F B w7 C/\oU w7 Ds/\kV c R G (fun p j=>p≠a0\/j<0) C/\C.mu c NM+1=l.mu c NM):=⟨bt,T7.m,bp,I6,WG⟩;have HK:Hid (∀{W' S'},aY c w0 F B w7 C W' S'->aj W' t #[.pointer (some ⟨c.lb,0,none⟩)] 216/\aj W' bf #[.int .i64 (a0:Int)] 3):=fun T=>⟨(T.x.aU t WH.lt b0).trans WH,(T.x.aU bf WI.lt b2).trans WI⟩
   have HR:Hid (∀{W' S'},aY c w0 F B w7 C W' S'->KY w0 F W' bm (.slice c.ta c.nT c.tc) c.v1 (.slice (some ⟨c.gP,0,none⟩) c.P.length c.pc) c.v3 c.v4 c.gm c.f/\aj W' (bm+1) #[.int .i64 (s1:Int),.int .i64 (s2:Int)] 212):=fun T=>⟨⟨(T.x.aU bm kM.lt WJ.1).trans kM,T.m.keep,X.goes.move (T.m.keep _ X.fm)⟩,(T.x.aU (bm+1) kS.lt WJ.2).trans kS⟩
   have LH:B<=w7.heap.size:=T7.m.big;have bT:(w6.drewN rF).heap.size=bm:=vX
   try simp only[bT]
   clear aF gJ T7 bt kM kS WH WI bp WJ Y kB Qi T6 I6 WG;have bd:=aiu (w0:=w0) (F:=F) (bm:=bm) (bs:=bm+1) (gm:=c.gm) (gP:=c.gP) (pc:=c.pc) (q:=s1) (n:=s2) (nT:=c.nT) (tc:=c.tc) (ta:=c.ta) (v1:=c.v1) (v3:=c.v3) (v4:=c.v4) (f:=c.f) X.prods X.pl X.rl;refine Iw (gf:=135) (lb:=#[.pointer (some ⟨bm,0,none⟩),.pointer (some ⟨bm+1,0,none⟩)]) rfl (enters_of func135 (by kernel_rfl) rfl) bd (fun _=>rfl) (Af c w0 F B R G NM a0 w7 C) (Af.vO X LH) (fun i Z W' h=>by obtain⟨S',T,-⟩:=h;exact HR.out T) ⟨C,aY.refl zI.out.2.1,zI.out.2.2.2.1,zL0,fun _ _ h=>h,fun k h=>h.elim⟩
    (fun x a' W'=>∃Bx,w7.heap.size+2<=Bx/\aj W' Bx #[.int .i64 (x.2:Int),.int .i64 ((eT c.P x.1).getD 0:Int)] 212/\a'={ tmps:=#[.pointer (some ⟨c.lb,0,none⟩),.pointer (some ⟨t,0,none⟩),.pointer (some ⟨bf,0,none⟩),.pointer (some ⟨Bx,0,none⟩),tailV (Ga w0 c.gP x.1.1) x.1.2,u5,.pointer (some ⟨c.lb,0,none⟩),.pointer (some ⟨c.lb,0,none⟩),.agg #[.int .i64 0,.int .i64 (st:Int)],.int .i64 (p0:Int),zF,Ho,Hq,Hr,Ht,Hu,al,Hw,Bd,Bf,ar,ag,ap,ai,am,ae,ah,ao,ad,ak,.pointer (some ⟨c.lb,0,none⟩),.pointer (some ⟨c.lb,0,none⟩),.pointer (some ⟨c.lb,12,none⟩),.slice (some ⟨gW,0,none⟩) l.ws.length cW,.int .i64 (a0:Int),.pointer (some ⟨gW,a0,none⟩),.pointer (some ⟨c.lb,0,none⟩),.pointer (some ⟨c.lb,0,none⟩),.pointer (some ⟨c.lb,0,none⟩),.agg #[.slice c.ta c.nT c.tc,c.v1,.slice (some ⟨c.gP,0,none⟩) c.P.length c.pc,c.v3,c.v4,.map (some c.gm)],.pointer (some ⟨c.lb,0,none⟩),.pointer (some ⟨c.lb,0,none⟩),.pointer (some ⟨c.lb,9,none⟩),.slice (some ⟨gS,0,none⟩) C.st.length cS,.int .i64 (a0:Int),.pointer (some ⟨gS,a0*2,none⟩),.agg #[.int .i64 (s1:Int),.int .i64 (s2:Int)],.func (.func 135) #[] #[.pointer (some ⟨bm,0,none⟩),.pointer (some ⟨bm+1,0,none⟩)],.agg #[.int .i64 (x.2:Int),.int .i64 ((eT c.P x.1).getD 0:Int)],tailV (Ga w0 c.gP x.1.1) x.1.2,zG,av,zH,aw,yx,ac,yA,yB,an,af,ab],defers:=[] })
    ?hAx ?assign ?body ?done
   case hAx=>
    rintro x a' A o'⟨Bx,h1,h2,rfl⟩;exact⟨Bx,h1,(World.putObj_heap_other (by omega)).trans h2,rfl⟩
   case assign=>
    rintro l' i⟨⟨k,d⟩,r⟩Z W' K' hsz hi bR;simp only[Us,bC]
    gi_wp2
    exact bR _ _ (by simp) (fun k _ M=>di _ _ _ M) ((Af.vO X LH).own _ _ _ _ none hi (qh _ _ none) (fun r e=>by cases e)) ⟨W'.heap.size,by omega,aj.new ..,rfl⟩
   case body=>
    clear bd HR;rintro l' i⟨⟨k,d⟩,r⟩Z a' W' hx⟨S',T,I,m,aq,z⟩⟨Bx,cs,kX,rfl⟩;obtain⟨kB,Y⟩:=HK.out T;have x0:W'.cell? ⟨t,0,none⟩=some (.pointer (some ⟨c.lb,0,none⟩)):=kB.cell 0;have x1:W'.cell? ⟨Bx,0,none⟩=some (.int .i64 (r:Int)):=kX.cell 0;have x2:W'.cell? ⟨Bx,1,none⟩=some (.int .i64 ((eT c.P (k,d)).getD 0:Int)):=kX.cell 1;have ck:=I.bnd hG;have bb:((k,d),r)∈c.sO (s1,s2):=cQ hx;have b6:=amm bb;have az:=aq a0 _ OH;have bl:=(I.snd a0 _ az).1;have Qk:=aaf X T.m hs I.nd (c.inn ((k,d),r)) ⟨by omega,by omega⟩;have HI:Hid (aY c w0 F B w7 C W' S'/\kV c R G (fun p j=>p≠a0\/j<i) S'/\S'.mu c NM<=C.mu c NM):=⟨T,I,m⟩;clear T I m kX kB Y
    gi_upto_region 10 with (refine⟨trivial,?_⟩;gi_at_call 94;refine(CallsIn.inRound l' (hU.2 Qk)).mono ?_;rintro e W9⟨p,S9,rfl,T9,hP⟩)
    obtain⟨T,I,m⟩:=HI.out;obtain⟨I9,m9,bc,WK⟩:=I.placed hG (hG.r1 _ _ bl bb) hP X.nT.1 hs;obtain⟨kB,Y⟩:=HK.out (T.trans T9);clear x0 x1 x2;have x0:W9.cell? ⟨t,0,none⟩=some (.pointer (some ⟨c.lb,0,none⟩)):=kB.cell 0;have x1:W9.cell? ⟨bf,0,none⟩=some (.int .i64 (a0:Int)):=Y.cell 0;have WL:=WK a0 _ az;have ci:=ahr X T9.m (iA WL) (iA bc) (akw X b6) (b9 _ _ bl bb) cc;have HN:Hid (∀(g:Bool)uH rJ Ql LJ(a:Act),aY c w0 F B W9 S9 uH rJ->Hands c S9 a0 p (oh c.P (k,d)) g rJ->(g=false->LJ=rJ)->(g=true->Waits rJ p LJ)->aY c w0 F B uH rJ Ql LJ->yN Z (Af c w0 F B R G NM a0 w7 C (i+1) Z) W' .normal a Ql):=fun g uH rJ Ql LJ a zJ hH h0 h1 WM=>by
     obtain⟨cj,bF,cd⟩:=I9.hand hG (x:=((k,d),r)) WL hx bc hH (fun j y hy=>(zJ.m.wd hy).1) h0 h1;exact Af.next T m aq z (T9.trans (zJ.trans WM)) cj (dg bF m9) fun j u h=>by rw[cd];exact WK j u h
    have HW:Hid (∀(g:Bool)uH rJ,aY c w0 F B W9 S9 uH rJ->Hands c S9 a0 p (oh c.P (k,d)) g rJ->aj uH t #[.pointer (some ⟨c.lb,0,none⟩)] 216/\aY c w0 F B uH rJ uH rJ/\Calls prog 98 #[.pointer (some ⟨c.lb,0,none⟩),.int .i64 (p:Int)] uH fun e W'=>e=.returned (.tuple #[])/\∃S',aY c w0 F B uH rJ W' S'/\Waits rJ p S'):=fun g uH rJ zJ hH=>by
     have GZ:=I9.bnd hG;exact⟨(HK.out ((T.trans T9).trans zJ)).1,aY.refl zJ.m,aa0 X zJ.m (by rw[hH.st];exact iA bc) (by rw[hH.wq];omega)⟩
    clear T I m I9 m9 bc WK kB Y T9 hP Qk HI HK zI az WL ck bl bb b6 b9 aq z hx
    gi_wp2_with (first
     | (refine⟨trivial,?_⟩;gi_at_call 97;refine(CallsIn.inRound l' (hU.2 ci)).mono ?_;rintro e uH⟨g,rfl,rJ,zJ,hH⟩;obtain⟨kB,cg,ce⟩:=HW.out _ _ _ zJ hH;have x0:uH.cell? ⟨t,0,none⟩=some (.pointer (some ⟨c.lb,0,none⟩)):=kB.cell 0;cases g)
     | (refine⟨trivial,?_⟩;gi_at_call 98;refine(CallsIn.inRound l' (hU.2 ce)).mono ?_;rintro e Ql⟨rfl,LJ,WM,bO⟩))
    all_goals first
     | exact HN.out _ _ _ _ _ _ zJ hH (fun _=>rfl) (fun e=>by cases e) cg
     | exact HN.out _ _ _ _ _ _ zJ hH (fun e=>by cases e) (fun _=>bO) WM
   case done=>
    rintro D Z W' N CB⟨S',T,I,m,aq,z⟩WN;obtain⟨T7,M7,C7,I7,cm⟩:=zI.out;have az:=aq a0 _ OH;refine hK _ _ ⟨S'.mu c NM,by omega,hJ _ _ _ ⟨_,_,_,_,_,_,_,_,_,_,_,_,_,_,_,_,_,_,_,_,_,_,_,_,_,_,_,_,_,_,_,_,_,_,_,_,_,_,_,_,_,_,_,_,_,_,_,_,_,_,_,_,_,_,_,D::Ds,S',rfl,rfl,O.trans (T7.trans T),⟨I.nd,I.lw,I.ls,I.qn,I.q,I.snd,fun p s j x h1 h2 _ h4=>I.cls p s j x h1 h2 ?_ h4,I.Hl⟩,⟨qk.2 ⟨fun e=>?_,C7.nd⟩,fun E hE=>?_⟩,fun E hE=>?_,(HK.out T).1,?_⟩⟩
    ·by_cases e:p=a0
     ·subst e
      rw[az]at h1;cases h1;exact .inr (iA h4)
     ·exact .inl e
    ·have:=(dv.1 (C7.at' D e)).1
     omega
    ·rcases ee.1 hE with rfl | hE
     ·exact WN
     ·exact(T.x.aU E (dv.1 (C7.at' E hE)).1 fun e=>M7.Dr e _ (C7.at' E hE)).trans (C7.at' E hE)
    ·rcases ee.1 hE with rfl | hE
     ·exact dg O.x.bS (dg T7.x.bS N)
     ·exact hD E hE
    ·obtain⟨q,hq⟩:=eQ.1 ca
     exact cQ (aq q _ hq)
  clear uF
  by_cases hc1:cq-1=0
  ·have bN:cq=1:=by omega
   subst bN;rw[b5 rfl]at T5;refine mo 8 (by kernel_rfl) (by kernel_rfl) (by kernel_rfl) ?_
   dsimp only[List.take,List.drop,List.length]
   repeat (gi_big_quiet_step (fail))
   refine wpQuietIn_nil ?_;rintro _⟨o,rfl⟩;refine wpAnyIn_ready (rs:=[8]) (by kernel_rfl) (by simp) (AllReadyIn.cons rfl (fun K2 L=>?_) AllReadyIn.nil)
   go_simp
   refine L _ _ (wpAnyIn_done (by kernel_rfl) ?_ _);exact bh _ _ _ _ _ _ _ _ _ _ _ _ _ _ _ _ _ _ _ _ _ _ _ _ _ _ _ _ _ _ _ _ _ _ _ _ _ _ _ _ _ _ _ _ _ _ _ _ _ _ _ _ _ _ _ _ (T5 o) (fun k e=>by rw[HV.out];exact e) (WC o _)
  ·rw[b4 hc1]at T5
   refine mo 8 (by kernel_rfl) (by kernel_rfl) (by kernel_rfl) ?_
   dsimp only[List.take,List.drop,List.length]
   repeat (gi_big_quiet_step (fail))
   refine wpQuietIn_nil ?_;rintro _⟨o,rfl⟩;refine wpAnyIn_ready (rs:=[8]) (by kernel_rfl) (by simp) (AllReadyIn.cons rfl (fun K2 L=>?_) AllReadyIn.nil)
   go_simp
   refine L _ _ (wpAnyIn_done (by kernel_rfl) ?_ _);exact bh _ _ _ _ _ _ _ _ _ _ _ _ _ _ _ _ _ _ _ _ _ _ _ _ _ _ _ _ _ _ _ _ _ _ _ _ _ _ _ _ _ _ _ _ _ _ _ _ _ _ _ _ _ _ _ _ (T5 o) (fun k e=>by rw[HV.out];exact e) (WC o _)
theorem ahs(l:mU c w0 F B)(h:jP c w0 F B W S)(h1:S.st=[])(h2:S.wq=[])(H:Hg c st NM R G)(q:c.st0 st)(z:c.nw<=100000)(v:NM<=900000)(t:∀s x,R s->x∈c.sO s->∀y∈oh c.P x.1,y<c.sz):Calls prog 63 #[.pointer (some ⟨c.lb,0,none⟩)] W (FH c w0 F B W S R G st):=by
 refine hU.1 (callsIn_of_wp_marks (F:=Fence.wide) (n:=9) func63 rfl trivial ?_ rfl);simp only[ntmps63,kf,el,iu,Nat.reduceAdd,Nat.reduceSub,mA,mz,n8,m7,go,fX];have Z:prog.follows .mixedOrders=true:=by kernel_rfl
 obtain⟨g,A⟩:∃b,W.heap.size=b:=⟨_,rfl⟩;obtain⟨w1,f⟩:∃V,V=W.alloc (.cells #[.pointer (some ⟨c.lb,0,none⟩)] 216):=⟨_,rfl⟩;have a:Below W.heap.size W w1:=by rw[f];exact(cV _ _).alloc (zL0) _
 have d:aj w1 g #[.pointer (some ⟨c.lb,0,none⟩)] 216:=by rw[f,<-A];exact aj.new ..
 have D:aY c w0 F B W S w1 S:=aY.move h (fun k K=>a.block k K) l a.size ⟨a.1,a.2,a.3⟩;have r:B<=W.heap.size:=h.big;have I0:kV c R G (fun _ _=>True) S:=kV.none0 h h1 h2;have M:=aae l (W:=w1.drew) (D.m.tocu.move (fun _ _=>rfl) (zL0)) q;have T:Hid (∀w2,Below w1.drew.heap.size w1.drew w2->w2.cell? ⟨g,0,none⟩=some (.pointer (some ⟨c.lb,0,none⟩))/\aj w2 g #[.pointer (some ⟨c.lb,0,none⟩)] 216/\aY c w0 F B W S w2 S/\Calls prog 94 #[.pointer (some ⟨c.lb,0,none⟩),.agg #[.int .i64 0,.int .i64 (st:Int)]] w2 fun e U=>∃(p:Nat)(S':bL),e=.returned (.int .i64 (p:Int))/\aY c w0 F B w2 S U S'/\Jp c st S (0,st) p S'):=fun w2 o=>by
  have i:aj w2 g #[.pointer (some ⟨c.lb,0,none⟩)] 216:=(o.block _ d.lt).trans d;have j:aY c w0 F B W S w2 S:=D.trans (aY.move D.m (fun k K=>o.block k K) l o.size ⟨o.1,o.2,o.3⟩);exact⟨i.cell 0,i,j,aaf l j.m q (by rw[h1];exact mf) (0,st) ⟨by rw[h1];simp,by rw[h2];simp⟩⟩
 have O:Hid (∀w2 u p0 C,aj w2 g #[.pointer (some ⟨c.lb,0,none⟩)] 216->aY c w0 F B W S w2 S->aY c w0 F B w2 S u C->Jp c st S (0,st) p0 C->(J4 (J4 (Tryz.f63.body.getD .skip))).wpIn Fence.wide 9 prog (bodyPostM Fence.wide 9 prog Tryz.f63 (FH c w0 F B W S R G st)) { tmps:=#[.pointer (some ⟨c.lb,0,none⟩),.pointer (some ⟨g,0,none⟩),undef,undef,undef,undef,.pointer (some ⟨c.lb,0,none⟩),.pointer (some ⟨c.lb,0,none⟩),.agg #[.int .i64 0,.int .i64 (st:Int)],.int .i64 (p0:Int),undef,undef,undef,undef,undef,undef,undef,undef,undef,undef,undef,undef,undef,undef,undef,undef,undef,undef,undef,undef,undef,undef,undef,undef,undef,undef,undef,undef,undef,undef,undef,undef,undef,undef,undef,undef,undef,undef,undef,undef,undef,undef,undef,undef,undef,undef,undef,undef,undef,undef,undef],defers:=[] } u):=fun w2 u p0 C i j E L=>by
  obtain⟨X,-,at3,-⟩:=I0.placed H H.r0 L l.nT.1 q;refine agl l H q z v t A r (j.trans E) X ((E.x.aU g i.lt fun e=>?_).trans i) (cQ at3);exact j.m.SH e i
 have x0:w1.cell? ⟨g,0,none⟩=some (.pointer (some ⟨c.lb,0,none⟩)):=d.cell 0;clear I0 D a d h h1 h2 l H q z v t r;obtain⟨Q,N⟩:∃Q,Q=bodyPostM Fence.wide 9 prog Tryz.f63 (FH c w0 F B W S R G st):=⟨_,rfl⟩;rw[<-N]at O|-;clear N
 gi_upto_region 1 with fail
 rename_i K1 J;rw[<-f];clear f
 gi_region_with_o (first
  | (refine⟨trivial,?_⟩;gi_at_call 95;refine(hU.2 M).mono ?_;rintro e w2⟨rfl,I⟩;obtain⟨y0,i,j,Y⟩:=T.out w2 I)
  | (refine⟨trivial,?_⟩;gi_at_call 94;refine(hU.2 Y).mono ?_;rintro e u⟨p0,C,rfl,E,L⟩))
 all_goals exact J _ _ (O.out w2 u p0 C i j E L)
end
end Go.Proofs.YtagkodkijkpemaaGreatDoor

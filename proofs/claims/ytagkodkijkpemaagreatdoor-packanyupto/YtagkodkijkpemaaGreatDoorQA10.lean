import Derived.Test.YtagkodkijkpemaaGreatDoorQA09
import Derived.Shelf.Spec.TrailingZeros
import Derived.Maps.OwnIn
set_option maxHeartbeats 8000000
set_option maxRecDepth 1000000
namespace Go.Proofs.YtagkodkijkpemaaGreatDoor
open Lx Go.Proofs.Tryz
open Go.RowKit Tr
section
variable{c:aZ}{w0:World}{F:Nat -> Prop}{B:Nat}{W:World}{S S' zJ:bL}{R:Nat×Nat -> Prop}{G:Nat×Nat -> Nat -> Prop}{K:Nat -> Nat -> Prop}{st NM:Nat}
theorem jT.wd(h:jT c w0 F B W S){i:Nat}{x:List Nat}(a:S.ss[i]?=some x):jD x/\x.length=c.nw:=by
 have f:=(cG.1 a).1;obtain⟨g,k⟩:∃g,S.gs[i]?=some g:=⟨_,cF (by rw[h.lg,<-h.ls];exact f)⟩;obtain⟨-,l,b,j,d⟩:=h.sets i g k;rw[a]at b;cases b;exact⟨j.wd,d⟩
theorem NE{α:Type}{l:List (List α)}{i:Nat}{x:List α}(h:l[i]?=some x):l.getD i []=x:=by simp[h]
theorem Nj{α:Type}{l:List (List α)}{i:Nat}{x:List α}(h:i<l.length):(l++[x]).getD i []=l.getD i []:=by simp[List.getElem?_append_left h]
theorem ig{α:Type}{l:List α}{i:Nat}{x:α}(h:l[i]?=some x):i<l.length:=(cG.1 h).1
theorem jU.pop(h:jU c R G (fun _ _=>True) S){a:Nat}{tl:List Nat}(g:S.wq=a::tl)(b:S'.st=S.st)(d:S'.ss=S.ss)(i:S'.ws=S.ws.set a false)(m:S'.wq=tl):jU c R G (fun p j=>p≠a\/j<0) S'/\S'.mu c NM+1=S.mu c NM/\a<S.st.length:=by
 have l:=h.qn;rw[g,ph]at l;have n:S.ws[a]?=some true:=(h.q a).1 (by rw[g];exact ed);have f:=ig n;refine⟨⟨by rw[b];exact h.nd,by rw[i,b,ii];exact h.lw,by rw[b,d];exact h.ls,by rw[m];exact l.2,fun p=>?_,by rw[b,d];exact h.snd,fun p s j x h1 h2 h3 h4=>?_,by rw[b,d];exact h.G8⟩,?_,by rw[<-h.lw];exact f⟩
 ·rw[m,i,fx]
  by_cases e:a=p
  ·subst e
   rw[dj rfl,dj f];exact⟨fun k=>absurd k l.1,fun k=>by cases k⟩
  ·rw[dt e,<-h.q p,g,eC]
   exact⟨.inr,fun k=>k.resolve_left fun k=>e k.symm⟩
 ·have o:p≠a:=h3.resolve_right (sL j)
  rw[i,fx,dt fun e=>o e.symm]at h2;rw[b]at h1;have:=h.cls p s j x h1 h2 trivial h4;unfold Lr at this|-;rw[b,d];exact this
 ·unfold bL.mu
  rw[b,d,m,g,ev];omega
theorem jU.placed(h:jU c R G K S)(U:C8 c st NM R G){s:Nat×Nat}{p:Nat}(hs:R s)(I:Jy c st S s p S')(sJ:0<c.nT)(O:c.st0 st):jU c R G K S'/\S'.mu c NM<=S.mu c NM/\S'.st[p]?=some s/\(∀(i:Nat)u,S.st[i]?=some u->S'.st[i]?=some u):=by
 rcases I.or with ⟨f,l,m,n⟩|⟨V,f,l,m,n⟩
 ·refine⟨⟨by rw[f];exact h.nd,by rw[m,f];exact h.lw,by rw[f,l];exact h.ls,by rw[n];exact h.qn,by rw[n,m];exact h.q,by rw[f,l];exact h.snd,fun p s j x h1 h2 h3 h4=>?_,by rw[f,l];exact h.G8⟩,?_,I.at',by rw[f];exact fun _ _ h=>h⟩
  ·rw[f]at h1
   rw[m]at h2;have:=h.cls p s j x h1 h2 h3 h4;unfold Lr at this|-;rw[f,l];exact this
  ·unfold bL.mu
   rw[f,l,n];exact zL0
 ·have hp:p=S.st.length:=by
   have k:=I.at';rw[f,ir]at k
   split at k
   ·exact absurd (cJ k) V
   ·have:=ig k
    simp at this;omega
  have H:S'.st.Nodup:=by
   rw[f,ip];exact⟨h.nd,by simp,fun a L b A=>by rw[cN]at A;subst A;exact fun e=>V (e▸L)⟩
  have z:∀q u,S'.st[q]?=some u->R u/\∀t,bP (S'.ss.getD q []) t=true->G u t:=fun q u g=>by
   rw[f,ir]at g
   split at g
   ·rename_i y
    rw[l,Nj (by rw[h.ls];exact y)];exact h.snd q u g
   ·rename_i y
    have r:q=S.st.length:=by have:=ig g;simp at this;omega
    subst r;simp at g;subst g;refine⟨hs,fun t v=>?_⟩;have N:S'.ss.getD S.st.length []=uE st c.nT s:=by rw[l,<-h.ls];simp
    rw[N]at v;unfold uE at v;have T:∀t,bP (List.replicate (Lx.nW c.nT) 0) t=false:=fun t=>by
     unfold bP;rw[ej,jn]
     split <;> simp
    split at v
    ·rename_i E
     subst E;rw[Sm (by rw[ik];unfold Lx.nW;omega),T,ye,kh]at v;subst v;exact U.g0
    ·rw[T]at v
     cases v
  have P:∀q u,c.st0 u->S'.st[q]?=some (0,u)->bP (S'.ss.getD q []) 0=true:=fun q u D g=>by
   rw[f,ir]at g
   split at g
   ·rename_i y
    rw[l,Nj (by rw[h.ls];exact y)];exact h.G8 q u D g
   ·rename_i y
    have r:q=S.st.length:=by have:=ig g;simp at this;omega
    subst r;simp at g;subst g;have N:S'.ss.getD S.st.length []=uE st c.nT (0,u):=by rw[l,<-h.ls];simp
    have E:u=st:=ie (D.symm.trans O);rw[N,E,uE,dj rfl,Sm (by rw[ik];unfold Lx.nW;omega)];simp
  have aa:S.st.length+1<=NM:=by
   have:=U.rn S'.st H fun u g=>by
    obtain⟨q,Y⟩:=eS.1 g;exact(z q u Y).1
   rw[f]at this;simpa using this
  refine⟨⟨H,by rw[m,f];simp[h.lw],by rw[f,l];simp[h.ls],?_,fun q=>?_,z,fun q u j x h1 h2 h3 h4=>?_,P⟩,?_,I.at',fun i u g=>by rw[f,eL (ig g)];exact g⟩
  ·rw[n,ip]
   exact⟨h.qn,by simp,fun a L b A=>by
    rw[cN]at A;subst A;have:=ig ((h.q a).1 L);rw[h.lw]at this;omega⟩
  ·rw[n,m,cY,cN,ir,h.lw,h.q q]
   split
   ·rename_i y
    exact⟨fun k=>k.resolve_right (by omega),.inl⟩
   ·rename_i y
    constructor
    ·rintro(k | k)
     ·have:=ig k;rw[h.lw]at this;omega
     ·subst k;rw[hp];simp
    ·intro k
     have:=ig k;simp at this;exact .inr (by omega)
  ·have Q:q<S.st.length:=by
    have k:=ig h1;rw[f]at k;rcases pt q S.st.length with X|X
    ·exact X
    ·have E:q=S.ws.length:=by simp at k;rw[h.lw];omega
     rw[m,E]at h2;simp at h2
   rw[f,eL Q]at h1;rw[m,eL (by rw[h.lw];exact Q)]at h2;obtain⟨o,J,Z⟩:=h.cls q u j x h1 h2 h3 h4;have C:=ig J;refine⟨o,by rw[f,eL C];exact J,?_⟩;rw[l,Nj (by rw[h.ls];exact Q),Nj (by rw[h.ls];exact C)];exact Z
  ·unfold bL.mu
   rw[f,l,n,cH,cH,abC];have J:=acG (uE st c.nT s);rw[acw]at J;obtain⟨d,hd⟩:∃d,NM-S.st.length=d+1:=⟨NM-S.st.length-1,by omega⟩;have M:NM - (S.st.length+[s].length)=d:=by simp;omega
   rw[hd,M,sg,tj];unfold aZ.nw;simp only[List.length_singleton];omega
theorem jU.hand(hg:C8 c st NM R G){a b i:Nat}{x:au×Nat}{s:Nat×Nat}(h:jU c R G (fun p j=>p≠a\/j<i) S)(U:S.st[a]?=some s)(hx:(c.rG s)[i]?=some x)(V:S.st[b]?=some (c.inn x)){g:Bool}(d:Hands c S a b (nU c.P x.1) g S')
  (hW:∀(i:Nat)y,S'.ss[i]?=some y->jD y) (h0:g=false->zJ=S') (h1:g=true->Waits S' b zJ):jU c R G (fun p j=>p≠a\/j<i+1) zJ/\zJ.mu c NM<=S.mu c NM/\zJ.st=S.st:=by
 have ah:=ig U;have ac:=ig V;obtain⟨C,l⟩:∃y,S.ss[b]?=some y:=⟨_,cF (by rw[h.ls];exact ac)⟩;have N:=NE l;obtain⟨y,Q⟩:∃y,y=mg c.E c.fs (S.ss.getD a []) (nU c.P x.1) C:=⟨_,rfl⟩;have m:S'.ss=S.ss.set b y:=by rw[d.ss,N,<-Q]
 have X:g=true↔y≠C:=by rw[d.grew,N,<-Q]
 have n:gu C y:=by rw[Q];exact RV ..
 have M:∀q,S'.ss.getD q []=if q=b then y else S.ss.getD q []:=fun q=>by
  rw[m];simp only[List.getD_eq_getElem?_getD,List.getElem?_set]
  by_cases e:b=q
  ·subst e;rw[dj rfl,dj rfl,dj (ig l)];rfl
  ·rw[dt e,dt fun k=>e k.symm]
 have T:∀p u,S.st[p]?=some u->R u/\∀t,bP (S'.ss.getD p []) t=true->G u t:=fun p u O=>by
  refine⟨(h.snd p u O).1,fun t Z=>?_⟩;rw[M]at Z
  split at Z
  ·rename_i e
   subst e;rw[V]at O;cases O;rw[Q]at Z;rcases aaO _ _ Z with k|k
   ·exact(h.snd p _ V).2 t (by rw[N];exact k)
   ·refine hg.g1 s x t (h.snd a s U).1 (cJ hx) ?_
    have hm:∀(r:List Nat),Ga c.E c.fs (fun t=>bP (S.ss.getD a []) t=true) r t->Ga c.E c.fs (G s) r t:=fun r=>by
     induction r with
     |nil=>exact fun k=>(h.snd a s U).2 t k
     |cons o r ih=>exact fun k=>k.imp id fun k=>⟨k.1,ih k.2⟩
    exact hm _ k
  ·exact(h.snd p u O).2 t Z
 have ab:∀p u,c.st0 u->S.st[p]?=some (0,u)->bP (S'.ss.getD p []) 0=true:=fun p u ae O=>by
  have:=h.G8 p u ae O;rw[M]
  split
  ·rename_i e
   subst e;rw[N]at this;exact n.has this
  ·exact this
 cases g with
 |false=>
  have ey:y=C:=un fun k=>by have:=X.2 k;cases this
  have es:S'.ss=S.ss:=by
   rw[m,ey];apply oy;intro j;rw[fx]
   split
   ·rename_i e;subst e;rw[l,dj (ig l)]
   ·rfl
  rw[h0 rfl];refine⟨⟨by rw[d.st];exact h.nd,by rw[d.ws,d.st];exact h.lw,by rw[es,d.st];exact h.ls,by rw[d.wq];exact h.qn,by rw[d.wq,d.ws];exact h.q,by rw[d.st];exact T,fun p u j z A J k3 H=>?_,by rw[d.st];exact ab⟩,?_,d.st⟩
  ·rw[d.st]at A
   rw[d.ws]at J;unfold Lr;rw[d.st,es]
   by_cases e:p≠a\/j<i
   ·exact h.cls p u j z A J e H
   ·obtain rfl:p=a:=un fun k=>e (.inl k)
    obtain rfl:j=i:=by omega
    rw[U]at A;cases A;rw[hx]at H;cases H;exact⟨b,V,by rw[N,<-Q];exact ey⟩
  ·unfold bL.mu
   rw[d.st,es,d.wq];exact zL0
 |true=>
  have ag:=X.1 rfl;have w:=h1 rfl;have ad:S'.ss[b]?=some y:=by rw[m,fx,dj rfl,dj (ig l)]
  have hm:=ady n (hW b y ad);have af:=abD S.ss b C y l;rw[<-m]at af;have v:zJ.ws=S.ws.set b true:=by rw[w.ws,d.ws]
  have L:b<S.ws.length:=by rw[h.lw];exact ac
  have f:zJ.st=S.st:=w.st.trans d.st;have D:(S.ws[b]?=some true/\zJ.wq=S.wq)\/(S.ws[b]?=some false/\zJ.wq=S.wq++[b]):=by
   have:=w.wq;rw[d.ws,d.wq]at this;exact this
  refine⟨⟨by rw[f];exact h.nd,by rw[v,f,ii];exact h.lw,by rw[w.ss,m,f,ii];exact h.ls,?_,fun p=>?_,by rw[f,w.ss];exact T,fun p u j z A J k3 H=>?_,by rw[f,w.ss];exact ab⟩,?_,f⟩
  ·rcases D with ⟨-,k⟩ | ⟨Y,k⟩
   ·rw[k];exact h.qn
   ·rw[k,ip]
    exact⟨h.qn,by simp,fun o ho o' aa=>by
     rw[cN]at aa;subst aa;intro e;subst e;rw[(h.q _).1 ho]at Y;cases Y⟩
  ·rw[v,fx]
   rcases D with ⟨Y,k⟩|⟨Y,k⟩
   ·rw[k,h.q p]
    by_cases e:b=p
    ·subst e;rw[dj rfl,dj L,Y]
    ·rw[dt e]
   ·rw[k,cY,cN,h.q p]
    by_cases e:b=p
    ·subst e;rw[dj rfl,dj L];exact⟨fun _=>rfl,fun _=>.inr rfl⟩
    ·rw[dt e];exact⟨fun k=>k.resolve_right fun k=>e k.symm,.inl⟩
  ·rw[f]at A
   have I:p≠b:=fun e=>by
    subst e;rw[v,fx,dj rfl,dj L]at J;cases J
   rw[v,fx,dt fun e=>I e.symm]at J;unfold Lr;rw[f,w.ss]
   by_cases e:p≠a\/j<i
   ·obtain⟨o,m1,m2⟩:=h.cls p u j z A J e H
    refine⟨o,m1,?_⟩;rw[M p,dt I,M o]
    split
    ·rename_i e2
     subst e2;rw[N]at m2;exact RY _ C y (by rw[m2];exact n)
    ·exact m2
   ·obtain rfl:p=a:=un fun k=>e (.inl k)
    obtain rfl:j=i:=by omega
    rw[U]at A;cases A;rw[hx]at H;cases H;refine⟨b,V,?_⟩;rw[M p,dt I,M b,dj rfl];exact RY _ C y (by rw[<-Q];exact gu.refl y)
  ·unfold bL.mu
   rw[f,w.ss];have ai:Lx.mis y<Lx.mis C:=Nat.lt_of_le_of_ne hm.1 fun e=>ag (hm.2 e).symm
   have mV:zJ.wq.length<=S.wq.length+1:=by
    rcases D with ⟨-,k⟩|⟨-,k⟩ <;> rw[k] <;> simp
   omega
end
def P7(Ds:List Nat):List Deferred:=Ds.map fun D=>{ target:=.collected D,args:=#[] }
structure pG(w:World)(Ds:List Nat):Prop where
 nd:Ds.Nodup
 at':∀D∈Ds,w.heap[D]?=some (.deferred (some []))
theorem pG.move{w w':World}{a:List Nat}(h:pG w a)(c:∀D∈a,w'.heap[D]?=w.heap[D]?):pG w' a:=⟨h.nd,fun D b=>(c D b).trans (h.at' D b)⟩
structure U1(Ds:List Nat)(w w':World):Prop where
 heap:∀k,k∉Ds->w'.heap[k]?=w.heap[k]?
 bX:w'.heap.size=w.heap.size
 fr:w'.os=w.os/\w'.tape=w.tape/\w'.output=w.output
theorem QW{F:Fence}{n:Nat}{P:Program}{fn:Func}{tmps:Array Value}{R:Ending->World->Prop}:∀(Ds:List Nat)(w:World),pG w Ds->(∀w',U1 Ds w w'->LeavesIn F n P fn tmps R [] .returning w')->LeavesInM F n P fn tmps R (P7 Ds) .returning w
 | [],w,_,h=>h w ⟨fun _ _=>rfl,rfl,rfl,rfl,rfl⟩
 |D::Ds,w,hc,h=>by
  have d:=ph.1 hc.nd;refine⟨by simp,.inl ⟨D,_,rfl,run_takeDeferred (hc.at' D ed),QW Ds _ ⟨d.2,fun E c=>(World.putObj_heap_other (by rintro rfl;exact d.1 c)).trans (hc.at' E (ei _ c))⟩ fun w' a=>h w' ⟨fun k b=>(a.heap k fun e=>b (ei _ e)).trans (World.putObj_heap_other (by rintro rfl;exact b ed)),by rw[a.bX];simp[World.putObj],a.fr⟩⟩⟩
section
variable{c:aZ}{w0:World}{F:Nat -> Prop}{B:Nat}{W:World}{S:bL}{R:Nat×Nat -> Prop}{G:Nat×Nat -> Nat -> Prop}{st NM:Nat}
theorem jU.none0(h:jT c w0 F B W S)(h1:S.st=[])(h2:S.wq=[]):jU c R G (fun _ _=>True) S:=by
 have b:S.ws=[]:=List.length_eq_zero_iff.1 (by rw[h.lw,h1];rfl);refine⟨by rw[h1];simp,h.lw,h.ls,by rw[h2];simp,fun p=>by rw[h2,b];simp,fun p s a=>by rw[h1]at a;simp at a,fun p s j x a=>by rw[h1]at a;simp at a,fun p u _ a=>by rw[h1]at a;simp at a⟩
theorem jT.aor(d:mY c w0 F B)(h:jT c w0 F B W S){v:Value}{tl:List Nat}(b:lU B W v tl)(a:v.ownBlock=S.vQ.ownBlock):bn c w0 F B W S (W.setCell ⟨c.lb,11,none⟩ v) { S with vQ:=v,wq:=tl } :=
 ⟨⟨dh.stored d h.keep h.blk rfl h.rS h.rA b h.rW h.map h.sets h.qj h.big,h.lg,h.ls,h.lw⟩,qm.stored (v:=.int .i64 0) (fun g e=>by cases e) ⟨rfl,rfl,rfl,zL0,fun _ _ _=>rfl⟩ fun k e=>by
  rcases e with e|e|e|e|e|e
  ·exact .inl (.inl e)
  ·exact .inl (.inr (.inl e))
  ·exact .inl (.inr (.inr (.inl e)))
  ·exact .inl (.inr (.inr (.inr (.inl e))))
  ·exact .inl (.inr (.inr (.inr (.inr (.inl (a.symm.trans e))))))
  ·exact .inl (.inr (.inr (.inr (.inr (.inr e)))))⟩
theorem dh.DL{f:List (Nat×Nat)}(h:dh c w0 F B W S f){k:Nat}(a:S.own c k)(g:Option (List Deferred)):W.heap[k]?≠some (.deferred g):=fun e=>by
 have b:∀{t:Nat},pI W k t->False:=fun⟨y,d⟩=>by rw[e]at d;cases d
 rcases a with rfl|rfl|a|a|a|a|a
 ·exact b h.kL
 ·obtain⟨i,j,h1,-⟩:=h.map
  rw[e]at h1;cases h1
 ·exact b (h.kS a)
 ·exact b (h.kA a)
 ·exact b (h.kQ a)
 ·exact b (h.kW a)
 ·exact b (h.kG a)
theorem dh.Tf{f:List (Nat×Nat)}(h:dh c w0 F B W S f){k:Nat}(a:S.own c k){cs:Array Value}(d:aj W k cs 216):False:=by
 have b:∀{t:Nat},pI W k t->t≠216->False:=fun h1 h2=>h1.ne ⟨cs,d⟩ h2 rfl
 rcases a with rfl|rfl|a|a|a|a|a
 ·exact b h.kL (by decide)
 ·exact h.J5 ⟨cs,d⟩ rfl
 ·exact b (h.kS a) (by decide)
 ·exact b (h.kA a) (by decide)
 ·exact b (h.kQ a) (by decide)
 ·exact b (h.kW a) (by decide)
 ·exact b (h.kG a) (by decide)
theorem Tg:∀(l:List (Nat×Nat))(a:Nat)(x y:Nat),l[a]?=some (x,y)->(l.flatMap zF)[a*2]?=some (.int .i64 (x:Int))/\(l.flatMap zF)[a*2+1]?=some (.int .i64 (y:Int))
 | [],a,x,y,h=>by simp at h
 |p::l,0,x,y,h=>by
  simp only[List.getElem?_cons_zero,Option.some.injEq]at h;subst h;exact⟨rfl,rfl⟩
 |p::l,a+1,x,y,h=>by
  have:=Tg l a x y (by simpa using h);rw[eh,show zF p=[.int .i64 (p.1:Int),.int .i64 (p.2:Int)] from rfl,show (a+1)*2=a*2+2 by omega];exact this
theorem akM{w:World}{v:Value}{n:Nat}{l:List (Nat×Nat)}(h:w.ownsRow B 212 2 v n (l.flatMap zF)){a x y:Nat}(i:l[a]?=some (x,y)):∃g cap,v=.slice (some ⟨g,0,none⟩) n cap/\v.ownBlock=some g/\w.cell? ⟨g,a*2,none⟩=some (.int .i64 (x:Int))/\w.cell? ⟨g,a*2+1,none⟩=some (.int .i64 (y:Int))/\n<=maxLen:=by
 obtain⟨k,f⟩:=Tg l a x y i;have d:=ig f;rcases h.2 with ⟨rfl,p⟩|⟨g,cap,m,rfl,o,q,h1,h2,h3,h4⟩
 ·have:=h.1
  omega
 ·have b:∀j,(⟨g,0,none⟩:Addr).add j=⟨g,j,none⟩:=fun j=>by unfold Addr.add;split <;> simp_all
  exact⟨g,cap,rfl,rfl,by rw[<-b];exact mz h (g:=g) rfl _ _ k,by rw[<-b];exact mz h (g:=g) rfl _ _ f,de h1 h2⟩
def Ao(c:aZ)(w0:World)(F:Nat->Prop)(B:Nat)(R:Nat×Nat->Prop)(G:Nat×Nat->Nat->Prop)(NM a0:Nat)(w7:World)(S6:bL)(i:Nat)(Z:Nat->Prop)(W':World):Prop:=∃S',bn c w0 F B w7 S6 W' S'/\jU c R G (fun p j=>p≠a0\/j<i) S'/\S'.mu c NM<=S6.mu c NM/\(∀(j:Nat)u,S6.st[j]?=some u->S'.st[j]?=some u)/\∀k,Z k->w7.heap.size<=k/\k<W'.heap.size/\¬S'.own c k
theorem Ao.wm(d:mY c w0 F B){NM l:Nat}{g:World}{j:bL}(n:B<=g.heap.size):xR (Ao c w0 F B R G NM l g j) where
 own i Z A C row hs hg hr:=by
  obtain⟨b,T,I,m,st,z⟩:=hs;have ne:∀k,k<A.heap.size->(∀r,row=some r->k≠r)->C.heap[k]?=A.heap[k]?:=fun k a f=>hg.block k a fun e=>f k e.symm rfl
  refine⟨b,⟨T.m.move (fun k a=>ne k ?_ fun r e=>?_) hg.size,fun k a f=>(ne k (dd a T.x.bX) fun r e=>?_).trans (T.x.bK k a f),T.x.new,de T.x.bX hg.size,hg.1.trans T.x.fr.1,hg.2.trans T.x.fr.2.1,hg.3.trans T.x.fr.2.2⟩,I,m,st,fun k a=>⟨(z k a).1,dd (z k a).2.1 hg.size,(z k a).2.2⟩⟩
  ·exact a.elim (fun e=>T.m.yU e) fun e=>dd (d.low k e).1 T.m.big
  ·have:=z r (hr r e)
   rcases a with a|a
   ·rintro rfl;exact this.2.2 a
   ·have:=(d.low k a).1;omega
  ·have:=z r (hr r e);omega
 new i Z A o hs:=by
  obtain⟨b,T,I,m,st,z⟩:=hs;refine⟨b,T.trans (bn.move T.m (fun k a=>dg _ _ _ a) d (by simp) ⟨rfl,rfl,rfl⟩),I,m,st,fun k a=>?_⟩;rw[fd];rcases a with a|rfl
  ·exact⟨(z k a).1,by have:=(z k a).2.1;omega,(z k a).2.2⟩
  ·exact⟨T.x.bX,by omega,fun e=>by have:=T.m.yU e;omega⟩
theorem akN(l:mY c w0 F B){k d:Nat}(hd:d<(bM c.P k).length):TlR w0 F (tailV (Gn w0 c.gP k) d) (nU c.P (k,d)):=by
 obtain⟨p,i⟩:∃p,c.P[k]?=some p:=by
  cases h:c.P[k]? with
  |none=>simp[bM,h]at hd
  |some p=>exact⟨p,rfl⟩
 have g:bM c.P k=p.right:=by simp[bM,i]
 have n:=l.rl k;rw[g]at hd n;obtain⟨t,s,-,r,-,q,a⟩:=l.prods.row k p i;obtain⟨b,rfl,o,m⟩:=a.resolve_left fun h=>by rw[h.2.1]at hd;exact absurd hd (sL _)
 have e:(nU c.P (k,d)).length=p.right.length-d-1:=by unfold nU;rw[g,pn];omega
 unfold Gn;rw[r];refine⟨_,_,by rw[e];rfl,by omega,fun j x f=>⟨b,d+1,?_,o,?_⟩⟩
 ·have:=ig f
  rw[e]at this;rw[dt (by omega),fk]
 ·unfold nU at f
  rw[g,List.getElem?_drop]at f;exact m _ _ f
theorem jU.bnd{K:Nat->Nat->Prop}(h:jU c R G K S)(d:C8 c st NM R G):S.st.length<=NM/\S.wq.length<=S.st.length:=by
 refine⟨d.rn S.st h.nd fun s f=>?_,I8 _ _ h.qn fun p b=>?_⟩
 ·obtain⟨i,a⟩:=eS.1 f
  exact(h.snd i s a).1
 ·rw[<-h.lw]
  exact ig ((h.q p).1 b)
theorem am0{s:Nat×Nat}{k d r:Nat}(h:((k,d),r)∈c.rG s):d<(bM c.P k).length:=by
 have h2:=(hU.1 h).2;unfold yA dQ at h2;rcases pt d (bM c.P k).length with h|h
 ·exact h
 ·rw[ju h]at h2
  cases h2
theorem Ao.next{NM r i:Nat}{n q:World}{l b f:bL}{Z:Nat->Prop}{a:Act}(s:bn c w0 F B n l W b)(z:b.mu c NM<=l.mu c NM)(o:∀(j:Nat)u,l.st[j]?=some u->b.st[j]?=some u)(g:∀k,Z k->n.heap.size<=k/\k<W.heap.size/\¬b.own c k)(T:bn c w0 F B W b q f)(y:jU c R G (fun p j=>p≠r\/j<i+1) f)(v:f.mu c NM<=b.mu c NM)(m:∀(j:Nat)u,b.st[j]?=some u->f.st[j]?=some u):yR Z (Ao c w0 F B R G NM r n l (i+1) Z) W .normal a q :=
 ⟨⟨f,s.trans T,y,de v z,fun j u h=>m j u (o j u h),fun k d=>⟨(g k d).1,dd (g k d).2.1 T.x.bX,fun e=>by
  have:=g k d;rcases T.x.new k e with e|e
  ·exact this.2.2 e
  ·omega⟩⟩,fun k d t=>T.x.bK k t (g k d).2.2⟩
def J9:Code->Code
 |.seq _ d=>d
 |k=>k
def FU(c:aZ)(w0:World)(F:Nat->Prop)(B:Nat)(W:World)(S:bL)(R:Nat×Nat->Prop)(G:Nat×Nat->Nat->Prop)(st:Nat)(e:Ending)(W':World):Prop:=e=.returned (.tuple #[])/\∃S',bn c w0 F B W S W' S'/\jU c R G (fun _ _=>True) S'/\S'.wq=[]/\(0,st)∈S'.st
attribute [local go_sem] pB
theorem agZ(M:mY c w0 F B)(hG:C8 c st NM R G)(hs:c.st0 st)(ca:c.nw<=100000)(cp:NM<=900000)(bx:∀s x,R s->x∈c.rG s->∀y∈nU c.P x.1,y<c.sz){w3:World}{S3:bL}{t p0:Nat}(cs:W.heap.size=t)(co:B<=W.heap.size)(O:bn c w0 F B W S w3 S3)(hI:jU c R G (fun _ _=>True) S3)(kB:aj w3 t #[.pointer (some ⟨c.lb,0,none⟩)] 216)(hp:(0,st)∈S3.st):(J9 (J9 (Tryz.f63.body.getD .skip))).wpIn Fence.wide 9 prog (bodyPostM Fence.wide 9 prog Tryz.f63 (FU c w0 F B W S R G st)) { tmps:=#[.pointer (some ⟨c.lb,0,none⟩),.pointer (some ⟨t,0,none⟩),undef,undef,undef,undef,.pointer (some ⟨c.lb,0,none⟩),.pointer (some ⟨c.lb,0,none⟩),.agg #[.int .i64 0,.int .i64 (st:Int)],.int .i64 (p0:Int),undef,undef,undef,undef,undef,undef,undef,undef,undef,undef,undef,undef,undef,undef,undef,undef,undef,undef,undef,undef,undef,undef,undef,undef,undef,undef,undef,undef,undef,undef,undef,undef,undef,undef,undef,undef,undef,undef,undef,undef,undef,undef,undef,undef,undef,undef,undef,undef,undef,undef,undef],defers:=[] } w3:=by
 have H0:Hid (bn c w0 F B W S w3 S3/\jU c R G (fun _ _=>True) S3/\pG w3 []/\(∀D∈([]:List Nat),W.heap.size<=D)/\aj w3 t #[.pointer (some ⟨c.lb,0,none⟩)] 216/\(0,st)∈S3.st):=⟨O,hI,⟨by simp,by simp⟩,by simp,kB,hp⟩;clear O hI kB hp;obtain⟨Q,hQ⟩:∃Q,Q=bodyPostM Fence.wide 9 prog Tryz.f63 (FU c w0 F B W S R G st):=⟨_,rfl⟩;rw[<-hQ]
 dsimp only[Tryz.f63,J9,Option.getD]
 gi_wp2
 refine wpIn_loop_ghost_k (fun n a w=>∃(u2 u3 u4 u5 zK EL EM G9 He Hf aq EN zL zM ag av ae af ah aw ac ai am ao a1 a4 a8 aH aG a5 aI a6 a7 Bg a9 Bh a3 uo aF aP az Bj ax a2 zN ap zO ab yC al yD yE ad an ak:Value)(Ds:List Nat)(l:bL),n=l.mu c NM/\a={ tmps:=#[.pointer (some ⟨c.lb,0,none⟩),.pointer (some ⟨t,0,none⟩),u2,u3,u4,u5,.pointer (some ⟨c.lb,0,none⟩),.pointer (some ⟨c.lb,0,none⟩),.agg #[.int .i64 0,.int .i64 (st:Int)],.int .i64 (p0:Int),zK,EL,EM,G9,He,Hf,aq,EN,zL,zM,ag,av,ae,af,ah,aw,ac,ai,am,ao,a1,a4,a8,aH,aG,a5,aI,a6,a7,Bg,a9,Bh,a3,uo,aF,aP,az,Bj,ax,a2,zN,ap,zO,ab,yC,al,yD,yE,ad,an,ak],defers:=P7 Ds }/\Hid (bn c w0 F B W S w l/\jU c R G (fun _ _=>True) l/\pG w Ds/\(∀D∈Ds,W.heap.size<=D)/\aj w t #[.pointer (some ⟨c.lb,0,none⟩)] 216/\(0,st)∈l.st)) (S3.mu c NM) ⟨undef,undef,undef,undef,undef,undef,undef,undef,undef,undef,undef,undef,undef,undef,undef,undef,undef,undef,undef,undef,undef,undef,undef,undef,undef,undef,undef,undef,undef,undef,undef,undef,undef,undef,undef,undef,undef,undef,undef,undef,undef,undef,undef,undef,undef,undef,undef,undef,undef,undef,undef,undef,undef,undef,undef,[],S3,rfl,rfl,H0⟩ ?_;clear H0;rintro n a w⟨u2,u3,u4,u5,zK,EL,EM,G9,He,Hf,aq,EN,zL,zM,ag,av,ae,af,ah,aw,ac,ai,am,ao,a1,a4,a8,aH,aG,a5,aI,a6,a7,Bg,a9,Bh,a3,uo,aF,aP,az,Bj,ax,a2,zN,ap,zO,ab,yC,al,yD,yE,ad,an,ak,Ds,l,rfl,rfl,H1⟩J K hJ hK;obtain⟨O,hI,hC,hD,kB,hp⟩:=H1.out;clear H1;have x0:w.cell? ⟨t,0,none⟩=some (.pointer (some ⟨c.lb,0,none⟩)):=kB.cell 0
 cases hq:l.wq with
 |nil=>
  obtain⟨qa,qc,uy⟩:=O.m.rQ.form;have GZ:w.cell? ⟨c.lb,11,none⟩=some (.slice qa 0 qc):=by rw[hq]at uy;rw[show (0:Nat)=([]:List Nat).length from rfl,<-uy];exact O.m.blk.cell 11
  clear uy;have HF:Hid (∀w',U1 Ds w w'->FU c w0 F B W S R G st (.returned (.tuple #[])) w'):=fun w' hw=>by
   have bV:∀k,l.own c k\/F k->k∉Ds:=fun k L bq=>by
    rcases L with L|L
    ·exact O.m.DL L _ (hC.at' k bq)
    ·have:=(M.low k L).1
     have:=hD k bq;omega
   have hz:w.heap.size<=w'.heap.size:=yW hw.bX.symm;have bi:=O.x.fr;exact⟨rfl,l,⟨O.m.move (fun k L=>hw.heap k (bV k L)) hz,⟨fun k L hn=>(hw.heap k fun e=>by have:=hD k e;omega).trans (O.x.bK k L hn),O.x.new,de O.x.bX hz,hw.fr.1.trans bi.1,hw.fr.2.1.trans bi.2.1,hw.fr.2.2.trans bi.2.2⟩⟩,hI,hq,hp⟩
  gi_wp2
  exact QW Ds w hC fun w' hw=>⟨_,py rfl _ _ _,HF.out w' hw⟩
 |cons a0 tl=>
  have bl:=O.m.rQ;rw[hq]at bl;obtain⟨gq,oq,cq,uy,b9,bh,Wy⟩:=bl.front;have GZ:w.cell? ⟨c.lb,11,none⟩=some (.slice (some ⟨gq,oq,none⟩) (tl.length+1) cq):=by rw[<-uy];exact O.m.blk.cell 11
  have e1:(0:Int)<((tl.length+1:Nat):Int):=by omega
  have e2:(0:Int)<(tl.length:Int)+1:=by omega
  have e3:decide ((0:Int)<(tl.length:Int)+1)=true:=fi e2;have l1:t<w.heap.size:=kB.lt;have l2:c.lb<w.heap.size:=O.m.blk.lt;have HV:Hid (l.vQ=.slice (some ⟨gq,oq,none⟩) (tl.length+1) cq):=uy;have HC:Hid (tl.length+1<=cq):=b9;clear uy b9
  gi_upto_region 4 with fail
  rename_i K5 uG;obtain⟨H,aA⟩:∃V,V=w.alloc (.cells #[.int .i64 (a0:Int)] 3):=⟨_,rfl⟩;rw[<-aA];have aa:Below w.heap.size w H:=by rw[aA];exact(cV _ _).alloc (zL0) _
  have bw:H.heap.size=w.heap.size+1:=by rw[aA];simp
  have Y:aj H w.heap.size #[.int .i64 (a0:Int)] 3:=by rw[aA];exact aj.new ..
  have T4:bn c w0 F B w l H l:=bn.move O.m (fun k L=>aa.block k L) M (by omega) ⟨aa.1,aa.2,aa.3⟩;have su:aj H t #[.pointer (some ⟨c.lb,0,none⟩)] 216:=(aa.block _ l1).trans kB;have ba:¬l.own c w.heap.size:=fun e=>by have:=O.m.yU e;omega
  have b5:¬l.own c t:=fun e=>O.m.Tf e kB
  have C4:pG H Ds:=hC.move fun D U=>aa.block D (ek.1 (hC.at' D U)).1
  obtain⟨bf,ci⟩:∃b,w.heap.size=b:=⟨_,rfl⟩;rw[ci]at Y bw ba|-;clear aA x0 GZ bh kB;have x0:H.cell? ⟨t,0,none⟩=some (.pointer (some ⟨c.lb,0,none⟩)):=su.cell 0;have GZ:H.cell? ⟨c.lb,11,none⟩=some (.slice (some ⟨gq,oq,none⟩) (tl.length+1) cq):=(T4.m.blk.cell 11).trans (fb some HV.out);have bR:=T4.m.blk.frozen 11;have ch:=HC.out;have b8:=Wy.move (w':=H) fun g e=>aa.block g (Wy.lt g e).2
  have HP:Hid (∀o v,lU B H v tl->v.ownBlock=some gq->bn c w0 F B w l ((H.drewN o).setCell ⟨c.lb,11,none⟩ v) { l with vQ:=v,wq:=tl }):=fun o v hv he=>T4.trans (bn.trans (bn.move T4.m (W1:=H.drewN o) (fun _ _=>rfl) M (zL0) ⟨rfl,rfl,rfl⟩) (jT.aor (W:=H.drewN o) M (T4.m.move (fun _ _=>rfl) (zL0)) (hv.move fun _ _=>rfl) (by rw[he,HV.out];rfl)))
  have b2:Hid (∃v5:Value,lU B H v5 tl/\v5.ownBlock=some gq/\(cq-1=0->v5=.slice (some ⟨gq,oq,none⟩) 0 0)/\(¬cq-1=0->v5=.slice (some ⟨gq,oq+1,none⟩) tl.length (cq-1))):=by
   refine⟨_,b8,by split <;> rfl,fun e=>?_,fun e=>?_⟩
   ·rw[dj (by omega),e,show tl.length=0 by omega]
   ·rw[dt (by omega)]
  obtain⟨v5,br,uF,Wz,b6⟩:=b2.out;have T5:=fun o=>HP.out o v5 br uF
  clear b8 Wy HP b2 br bl;have WB:∀o v,aj ((H.drewN o).setCell ⟨c.lb,11,none⟩ v) bf #[.int .i64 (a0:Int)] 3/\aj ((H.drewN o).setCell ⟨c.lb,11,none⟩ v) t #[.pointer (some ⟨c.lb,0,none⟩)] 216/\pG ((H.drewN o).setCell ⟨c.lb,11,none⟩ v) Ds:=fun o v=>by
   have ne:∀{k:Nat},k≠c.lb->((H.drewN o).setCell ⟨c.lb,11,none⟩ v).heap[k]?=H.heap[k]?:=fun L=>nA (H.drewN o) 11 v L
   refine⟨(ne fun e=>ba (.inl e)).trans Y,(ne fun e=>b5 (.inl e)).trans su,C4.move fun D U=>ne fun e=>?_⟩;exact T4.m.DL (k:=D) (.inl e) _ (C4.at' D U)
  have bd:∀(u3 u4 u5 zK EL EM G9 He Hf aq EN zL zM ag av ae af ah aw ac ai am ao a1 a4 a8 aH aG a5 aI a6 a7 Bg a9 Bh a3 uo aF aP az Bj ax a2 zN ap zO ab yC al yD yE ad an ak v5:Value)(X:World),bn c w0 F B w l X { l with vQ:=v5,wq:=tl }->(∀k,v5.ownBlock=some k->l.vQ.ownBlock=some k)->aj X bf #[.int .i64 (a0:Int)] 3/\aj X t #[.pointer (some ⟨c.lb,0,none⟩)] 216/\pG X Ds->K5 { tmps:=#[.pointer (some ⟨c.lb,0,none⟩),.pointer (some ⟨t,0,none⟩),.pointer (some ⟨bf,0,none⟩),u3,u4,u5,.pointer (some ⟨c.lb,0,none⟩),.pointer (some ⟨c.lb,0,none⟩),.agg #[.int .i64 0,.int .i64 (st:Int)],.int .i64 (p0:Int),zK,EL,EM,G9,He,Hf,aq,EN,zL,zM,ag,av,ae,af,ah,aw,ac,ai,am,ao,a1,a4,a8,aH,aG,a5,aI,a6,a7,Bg,a9,Bh,a3,uo,aF,aP,az,Bj,ax,a2,zN,ap,zO,ab,yC,al,yD,yE,ad,an,ak],defers:=P7 Ds } X:=by
   clear T5 WB HV HC C4 Y su bw aa T4 x0 GZ bR ch e1 e2 e3 uF Wz b6 v5 H;intro u3 u4 u5 zK EL EM G9 He Hf aq EN zL zM ag av ae af ah aw ac ai am ao a1 a4 a8 aH aG a5 aI a6 a7 Bg a9 Bh a3 uo aF aP az Bj ax a2 zN ap zO ab yC al yD yE ad an ak v5 X T5 b7 ⟨Y,kB,WC⟩;refine uG _ _ ?_;clear uG K5;obtain⟨I6,WE,bN⟩:=hI.pop (NM:=NM) (S':={ l with vQ:=v5,wq:=tl,ws:=l.ws.set a0 false }) hq rfl rfl rfl rfl;have bp:l.ws[a0]?=some true:=(hI.q a0).1 (by rw[hq];exact ed);obtain⟨⟨s1,s2⟩,b4⟩:∃s,l.st[a0]?=some s:=⟨_,cF bN⟩;obtain⟨gW,cW,Gy,GQ,cw,fw,cm⟩:=I5 T5.m.rW (p:=a0) (u:=.bool true) (by rw[di];show Option.map _ l.ws[a0]?=_;rw[bp];rfl);have x0:X.cell? ⟨t,0,none⟩=some (.pointer (some ⟨c.lb,0,none⟩)):=kB.cell 0;have x1:X.cell? ⟨bf,0,none⟩=some (.int .i64 (a0:Int)):=Y.cell 0;have PU:X.cell? ⟨c.lb,12,none⟩=some (.slice (some ⟨gW,0,none⟩) l.ws.length cW):=(T5.m.blk.cell 12).trans (fb some Gy);have fa:=fw a0;have j1:(0:Int)<=(a0:Int):=by omega
   have j2:(a0:Int)<(l.ws.length:Int):=by rw[hI.lw];omega
   have bz:Hid (∀o,bn c w0 F B w l ((X.drewN o).setCell ⟨gW,a0,none⟩ (.bool false)) { l with vQ:=v5,wq:=tl,ws:=l.ws.set a0 false }):=fun o=>T5.trans (bn.trans (bn.move T5.m (W1:=X.drewN o) (fun _ _=>rfl) M (zL0) ⟨rfl,rfl,rfl⟩) ((T5.m.move (W':=X.drewN o) (fun _ _=>rfl) (zL0)).setW M GQ a0 false))
   have bt:Hid (∀o,aj ((X.drewN o).setCell ⟨gW,a0,none⟩ (.bool false)) bf #[.int .i64 (a0:Int)] 3/\aj ((X.drewN o).setCell ⟨gW,a0,none⟩ (.bool false)) t #[.pointer (some ⟨c.lb,0,none⟩)] 216/\pG ((X.drewN o).setCell ⟨gW,a0,none⟩ (.bool false)) Ds):=fun o=>by
    have ne:∀{k:Nat},k≠gW->((X.drewN o).setCell ⟨gW,a0,none⟩ (.bool false)).heap[k]?=X.heap[k]?:=fun L=>nA (X.drewN o) a0 (.bool false) L
    have bc:l.own c gW:=.inr (.inr (.inr (.inr (.inr (.inl GQ)))));refine⟨(ne (k:=bf) fun e=>ba (by rw[e];exact bc)).trans Y,(ne (k:=t) fun e=>b5 (by rw[e];exact bc)).trans kB,WC.move fun D U=>ne fun e=>?_⟩;exact T5.m.DL (k:=D) (by rw[e];exact .inr (.inr (.inr (.inr (.inr (.inl GQ)))))) _ (WC.at' D U)
   clear T5 Y kB WC Gy GQ fw cm bp hI hq hC
   gi_wp2
   refine qp 6 (by kernel_rfl) (by kernel_rfl) (by kernel_rfl) ?_
   dsimp only[List.take,List.drop,List.length]
   repeat (gi_big_quiet_step (fail))
   refine wpQuietIn_nil ?_;rintro _⟨o,rfl⟩;refine wpAnyIn_ready (rs:=[6]) (by kernel_rfl) (by simp) (AllReadyIn.cons rfl (fun K2 N=>?_) AllReadyIn.nil)
   go_simp
   refine N _ _ (wpAnyIn_done (by kernel_rfl) ?_ _);clear N K2;have T6:=bz.out o;obtain⟨Y,kB,P8⟩:=bt.out o;clear bz bt x0 x1 PU fa j2 cw;generalize (X.drewN o).setCell ⟨gW,a0,none⟩ (.bool false)=w6 at T6 Y kB P8|-;have b3:¬bL.own c { l with vQ:=v5,wq:=tl,ws:=l.ws.set a0 false } bf:=fun e=>ba (by
    rcases e with e|e|e|e|e|e|e
    ·exact .inl e
    ·exact .inr (.inl e)
    ·exact .inr (.inr (.inl e))
    ·exact .inr (.inr (.inr (.inl e)))
    ·exact .inr (.inr (.inr (.inr (.inl (b7 _ e)))))
    ·exact .inr (.inr (.inr (.inr (.inr (.inl e)))))
    ·exact .inr (.inr (.inr (.inr (.inr (.inr e))))))
   have bu:¬bL.own c { l with vQ:=v5,wq:=tl,ws:=l.ws.set a0 false } t:=fun e=>T6.m.Tf e kB
   obtain⟨C,P9⟩:∃C:bL,C={ l with vQ:=v5,wq:=tl,ws:=l.ws.set a0 false }:=⟨_,rfl⟩;have OI:C.st[a0]?=some (s1,s2):=by rw[P9];exact b4
   have bU:(0,st)∈C.st:=by rw[P9];exact hp
   rw[<-P9]at T6 I6 WE b3 bu;clear P9 b4 hp b7;obtain⟨gS,cS,zI,ce,y1,y2,AA⟩:=akM T6.m.rS OI;have x0:w6.cell? ⟨t,0,none⟩=some (.pointer (some ⟨c.lb,0,none⟩)):=kB.cell 0;have x1:w6.cell? ⟨bf,0,none⟩=some (.int .i64 (a0:Int)):=Y.cell 0;have m0:w6.cell? ⟨c.lb,0,none⟩=some (.slice c.ta c.nT c.tc):=T6.m.blk.cell 0;have m1:w6.cell? ⟨c.lb,1,none⟩=some c.v1:=T6.m.blk.cell 1;have m2:w6.cell? ⟨c.lb,2,none⟩=some (.slice (some ⟨c.gP,0,none⟩) c.P.length c.pc):=T6.m.blk.cell 2;have m3:w6.cell? ⟨c.lb,3,none⟩=some c.v3:=T6.m.blk.cell 3;have m4:w6.cell? ⟨c.lb,4,none⟩=some c.v4:=T6.m.blk.cell 4;have m5:w6.cell? ⟨c.lb,5,none⟩=some (.map (some c.gm)):=T6.m.blk.cell 5;have d9:w6.cell? ⟨c.lb,9,none⟩=some (.slice (some ⟨gS,0,none⟩) C.st.length cS):=(T6.m.blk.cell 9).trans (fb some zI);have j2:(a0:Int)<(C.st.length:Int):=by have:=ig OI;omega
   clear zI ce AA
   gi_wp2
   refine qp 11 (by kernel_rfl) (by kernel_rfl) (by kernel_rfl) ?_
   dsimp only[List.take,List.drop,List.length]
   repeat (gi_big_quiet_step (fail))
   refine wpQuietIn_nil ?_;rintro _⟨wo,rfl⟩;refine wpAnyIn_ready (rs:=[11]) (by kernel_rfl) (by simp) (AllReadyIn.cons rfl (fun K2 N=>?_) AllReadyIn.nil)
   go_simp
   refine⟨trivial,(ij.2 ai7).mono ?_⟩;rintro e w7⟨rfl,aX⟩;refine N _ _ (wpAnyIn_done (by kernel_rfl) ?_ _);clear N K2;clear x0 x1 m0 m1 m2 m3 m4 m5 d9 j2 y1 y2
   gi_wp2
   obtain⟨bm,zP⟩:∃b,w6.heap.size=b:=⟨_,rfl⟩;have cn:w7.heap.size=bm+2:=by rw[aX];simp[zP]
   have eD:Below w6.heap.size w6 w7:=by rw[aX];exact((show Below w6.heap.size w6 (w6.drewN wo) from ⟨rfl,rfl,rfl,zL0,fun _ _=>rfl⟩).alloc (zL0) _).alloc (by rw[fd];exact pL _) _
   have T7:bn c w0 F B w6 C w7 C:=bn.move T6.m (fun k L=>eD.block k L) M (by omega) ⟨eD.1,eD.2,eD.3⟩;have kM:aj w7 bm #[.slice c.ta c.nT c.tc,c.v1,.slice (some ⟨c.gP,0,none⟩) c.P.length c.pc,c.v3,c.v4,.map (some c.gm)] 147:=by
    rw[aX,<-zP];exact(aj.new (w6.drewN wo) _ _).alloc _
   have kS:aj w7 (bm+1) #[.int .i64 (s1:Int),.int .i64 (s2:Int)] 212:=by
    rw[aX,<-zP];have:=aj.new ((w6.drewN wo).alloc (.cells #[.slice c.ta c.nT c.tc,c.v1,.slice (some ⟨c.gP,0,none⟩) c.P.length c.pc,c.v3,c.v4,.map (some c.gm)] 147)) #[.int .i64 (s1:Int),.int .i64 (s2:Int)] 212
    rwa [fd]at this
   have WG:aj w7 t #[.pointer (some ⟨c.lb,0,none⟩)] 216:=(eD.block _ kB.lt).trans kB;have WH:aj w7 bf #[.int .i64 (a0:Int)] 3:=(eD.block _ Y.lt).trans Y;have bo:pG w7 Ds:=P8.move fun D U=>eD.block D (ek.1 (P8.at' D U)).1
   have WI:¬C.own c bm/\¬C.own c (bm+1):=⟨fun e=>by have:=T6.m.yU e;omega,fun e=>by have:=T6.m.yU e;omega⟩;have b0:=T6.trans T7;have zQ:Hid (bn c w0 F B w l w7 C/\jT c w0 F B w7 C/\pG w7 Ds/\jU c R G (fun p j=>p≠a0\/j<0) C/\C.mu c NM+1=l.mu c NM):=⟨b0,T7.m,bo,I6,WE⟩;have HK:Hid (∀{W' S'},bn c w0 F B w7 C W' S'->aj W' t #[.pointer (some ⟨c.lb,0,none⟩)] 216/\aj W' bf #[.int .i64 (a0:Int)] 3):=fun T=>⟨(T.x.bK t WG.lt bu).trans WG,(T.x.bK bf WH.lt b3).trans WH⟩
   have HR:Hid (∀{W' S'},bn c w0 F B w7 C W' S'->K7 w0 F W' bm (.slice c.ta c.nT c.tc) c.v1 (.slice (some ⟨c.gP,0,none⟩) c.P.length c.pc) c.v3 c.v4 c.gm c.f/\aj W' (bm+1) #[.int .i64 (s1:Int),.int .i64 (s2:Int)] 212):=fun T=>⟨⟨(T.x.bK bm kM.lt WI.1).trans kM,T.m.keep,M.goes.move (T.m.keep _ M.fm)⟩,(T.x.bK (bm+1) kS.lt WI.2).trans kS⟩
   have Ls:B<=w7.heap.size:=T7.m.big;have cd:(w6.drewN wo).heap.size=bm:=zP
   try simp only[cd]
   clear aX eD T7 b0 kM kS WG WH bo WI Y kB P8 T6 I6 WE;have bg:=ai8 (w0:=w0) (F:=F) (bm:=bm) (bs:=bm+1) (gm:=c.gm) (gP:=c.gP) (pc:=c.pc) (q:=s1) (n:=s2) (nT:=c.nT) (tc:=c.tc) (ta:=c.ta) (v1:=c.v1) (v3:=c.v3) (v4:=c.v4) (f:=c.f) M.prods M.pl M.rl;refine IC (gf:=135) (lb:=#[.pointer (some ⟨bm,0,none⟩),.pointer (some ⟨bm+1,0,none⟩)]) rfl (enters_of func135 (by kernel_rfl) rfl) bg (fun _=>rfl) (Ao c w0 F B R G NM a0 w7 C) (Ao.wm M Ls) (fun i Z W' h=>by obtain⟨S',T,-⟩:=h;exact HR.out T) ⟨C,bn.refl zQ.out.2.1,zQ.out.2.2.2.1,zL0,fun _ _ h=>h,fun k h=>h.elim⟩
    (fun x a' W'=>∃Bx,w7.heap.size+2<=Bx/\aj W' Bx #[.int .i64 (x.2:Int),.int .i64 ((dQ c.P x.1).getD 0:Int)] 212/\a'={ tmps:=#[.pointer (some ⟨c.lb,0,none⟩),.pointer (some ⟨t,0,none⟩),.pointer (some ⟨bf,0,none⟩),.pointer (some ⟨Bx,0,none⟩),tailV (Gn w0 c.gP x.1.1) x.1.2,u5,.pointer (some ⟨c.lb,0,none⟩),.pointer (some ⟨c.lb,0,none⟩),.agg #[.int .i64 0,.int .i64 (st:Int)],.int .i64 (p0:Int),zK,EL,EM,G9,He,Hf,aq,EN,zL,zM,ag,av,ae,af,ah,aw,ac,ai,am,ao,.pointer (some ⟨c.lb,0,none⟩),.pointer (some ⟨c.lb,0,none⟩),.pointer (some ⟨c.lb,12,none⟩),.slice (some ⟨gW,0,none⟩) l.ws.length cW,.int .i64 (a0:Int),.pointer (some ⟨gW,a0,none⟩),.pointer (some ⟨c.lb,0,none⟩),.pointer (some ⟨c.lb,0,none⟩),.pointer (some ⟨c.lb,0,none⟩),.agg #[.slice c.ta c.nT c.tc,c.v1,.slice (some ⟨c.gP,0,none⟩) c.P.length c.pc,c.v3,c.v4,.map (some c.gm)],.pointer (some ⟨c.lb,0,none⟩),.pointer (some ⟨c.lb,0,none⟩),.pointer (some ⟨c.lb,9,none⟩),.slice (some ⟨gS,0,none⟩) C.st.length cS,.int .i64 (a0:Int),.pointer (some ⟨gS,a0*2,none⟩),.agg #[.int .i64 (s1:Int),.int .i64 (s2:Int)],.func (.func 135) #[] #[.pointer (some ⟨bm,0,none⟩),.pointer (some ⟨bm+1,0,none⟩)],.agg #[.int .i64 (x.2:Int),.int .i64 ((dQ c.P x.1).getD 0:Int)],tailV (Gn w0 c.gP x.1.1) x.1.2,zN,ap,zO,ab,yC,al,yD,yE,ad,an,ak],defers:=[] })
    ?hAx ?assign ?body ?done
   case hAx=>
    rintro x a' A o'⟨Bx,h1,h2,rfl⟩;exact⟨Bx,h1,(World.putObj_heap_other (by omega)).trans h2,rfl⟩
   case assign=>
    rintro l' i⟨⟨k,d⟩,r⟩Z W' K' hsz hi cb;simp only[UN,bE]
    gi_wp2
    exact cb _ _ (by simp) (fun k _ L=>dg _ _ _ L) ((Ao.wm M Ls).own _ _ _ _ none hi (qS _ _ none) (fun r e=>by cases e)) ⟨W'.heap.size,by omega,aj.new ..,rfl⟩
   case body=>
    clear bg HR;rintro l' i⟨⟨k,d⟩,r⟩Z a' W' hx⟨S',T,I,m,ar,z⟩⟨Bx,ct,kX,rfl⟩;obtain⟨kB,Y⟩:=HK.out T;have x0:W'.cell? ⟨t,0,none⟩=some (.pointer (some ⟨c.lb,0,none⟩)):=kB.cell 0;have x1:W'.cell? ⟨Bx,0,none⟩=some (.int .i64 (r:Int)):=kX.cell 0;have x2:W'.cell? ⟨Bx,1,none⟩=some (.int .i64 ((dQ c.P (k,d)).getD 0:Int)):=kX.cell 1;have bH:=I.bnd hG;have aY:((k,d),r)∈c.rG (s1,s2):=cJ hx;have bv:=am0 aY;have aE:=ar a0 _ OI;have bj:=(I.snd a0 _ aE).1;have Qa:=aaN M T.m hs I.nd (c.inn ((k,d),r)) ⟨by omega,by omega⟩;have HI:Hid (bn c w0 F B w7 C W' S'/\jU c R G (fun p j=>p≠a0\/j<i) S'/\S'.mu c NM<=C.mu c NM):=⟨T,I,m⟩;clear T I m kX kB Y
    gi_upto_region 10 with (refine⟨trivial,?_⟩;gi_at_call 94;refine(CallsIn.inRound l' (ij.2 Qa)).mono ?_;rintro e W9⟨p,S9,rfl,T9,hP⟩)
    obtain⟨T,I,m⟩:=HI.out;obtain⟨I9,m9,bb,WJ⟩:=I.placed hG (hG.r1 _ _ bj aY) hP M.nT.1 hs;obtain⟨kB,Y⟩:=HK.out (T.trans T9);clear x0 x1 x2;have x0:W9.cell? ⟨t,0,none⟩=some (.pointer (some ⟨c.lb,0,none⟩)):=kB.cell 0;have x1:W9.cell? ⟨bf,0,none⟩=some (.int .i64 (a0:Int)):=Y.cell 0;have WK:=WJ a0 _ aE;have cc:=ahV M T9.m (ig WK) (ig bb) (akN M bv) (bx _ _ bj aY) ca;have HN:Hid (∀(g:Bool)uH rH Qb Lu(a:Act),bn c w0 F B W9 S9 uH rH->Hands c S9 a0 p (nU c.P (k,d)) g rH->(g=false->Lu=rH)->(g=true->Waits rH p Lu)->bn c w0 F B uH rH Qb Lu->yR Z (Ao c w0 F B R G NM a0 w7 C (i+1) Z) W' .normal a Qb):=fun g uH rH Qb Lu a zR hH h0 h1 WL=>by
     obtain⟨bD,cf,cg⟩:=I9.hand hG (x:=((k,d),r)) WK hx bb hH (fun j y hy=>(zR.m.wd hy).1) h0 h1;exact Ao.next T m ar z (T9.trans (zR.trans WL)) bD (de cf m9) fun j u h=>by rw[cg];exact WJ j u h
    have HW:Hid (∀(g:Bool)uH rH,bn c w0 F B W9 S9 uH rH->Hands c S9 a0 p (nU c.P (k,d)) g rH->aj uH t #[.pointer (some ⟨c.lb,0,none⟩)] 216/\bn c w0 F B uH rH uH rH/\Calls prog 98 #[.pointer (some ⟨c.lb,0,none⟩),.int .i64 (p:Int)] uH fun e W'=>e=.returned (.tuple #[])/\∃S',bn c w0 F B uH rH W' S'/\Waits rH p S'):=fun g uH rH zR hH=>by
     have C9:=I9.bnd hG;exact⟨(HK.out ((T.trans T9).trans zR)).1,bn.refl zR.m,abw M zR.m (by rw[hH.st];exact ig bb) (by rw[hH.wq];omega)⟩
    clear T I m I9 m9 bb WJ kB Y T9 hP Qa HI HK zQ aE WK bH bj aY bv bx ar z hx
    gi_wp2_with (first
     | (refine⟨trivial,?_⟩;gi_at_call 97;refine(CallsIn.inRound l' (ij.2 cc)).mono ?_;rintro e uH⟨g,rfl,rH,zR,hH⟩;obtain⟨kB,ck,bT⟩:=HW.out _ _ _ zR hH;have x0:uH.cell? ⟨t,0,none⟩=some (.pointer (some ⟨c.lb,0,none⟩)):=kB.cell 0;cases g)
     | (refine⟨trivial,?_⟩;gi_at_call 98;refine(CallsIn.inRound l' (ij.2 bT)).mono ?_;rintro e Qb⟨rfl,Lu,WL,cl⟩))
    all_goals first
     | exact HN.out _ _ _ _ _ _ zR hH (fun _=>rfl) (fun e=>by cases e) ck
     | exact HN.out _ _ _ _ _ _ zR hH (fun e=>by cases e) (fun _=>cl) WL
   case done=>
    rintro D Z W' U CW⟨S',T,I,m,ar,z⟩WM;obtain⟨T7,M7,C7,I7,cr⟩:=zQ.out;have aE:=ar a0 _ OI;refine hK _ _ ⟨S'.mu c NM,by omega,hJ _ _ _ ⟨_,_,_,_,_,_,_,_,_,_,_,_,_,_,_,_,_,_,_,_,_,_,_,_,_,_,_,_,_,_,_,_,_,_,_,_,_,_,_,_,_,_,_,_,_,_,_,_,_,_,_,_,_,_,_,D::Ds,S',rfl,rfl,O.trans (T7.trans T),⟨I.nd,I.lw,I.ls,I.qn,I.q,I.snd,fun p s j x h1 h2 _ h4=>I.cls p s j x h1 h2 ?_ h4,I.G8⟩,⟨ph.2 ⟨fun e=>?_,C7.nd⟩,fun E hE=>?_⟩,fun E hE=>?_,(HK.out T).1,?_⟩⟩
    ·by_cases e:p=a0
     ·subst e
      rw[aE]at h1;cases h1;exact .inr (ig h4)
     ·exact .inl e
    ·have:=(ek.1 (C7.at' D e)).1
     omega
    ·rcases eC.1 hE with rfl | hE
     ·exact WM
     ·exact(T.x.bK E (ek.1 (C7.at' E hE)).1 fun e=>M7.DL e _ (C7.at' E hE)).trans (C7.at' E hE)
    ·rcases eC.1 hE with rfl | hE
     ·exact de O.x.bX (de T7.x.bX U)
     ·exact hD E hE
    ·obtain⟨q,hq⟩:=eS.1 bU
     exact cJ (ar q _ hq)
  clear uG
  by_cases hc1:cq-1=0
  ·have cj:cq=1:=by omega
   subst cj;rw[Wz rfl]at T5;refine qp 8 (by kernel_rfl) (by kernel_rfl) (by kernel_rfl) ?_
   dsimp only[List.take,List.drop,List.length]
   repeat (gi_big_quiet_step (fail))
   refine wpQuietIn_nil ?_;rintro _⟨o,rfl⟩;refine wpAnyIn_ready (rs:=[8]) (by kernel_rfl) (by simp) (AllReadyIn.cons rfl (fun K2 N=>?_) AllReadyIn.nil)
   go_simp
   refine N _ _ (wpAnyIn_done (by kernel_rfl) ?_ _);exact bd _ _ _ _ _ _ _ _ _ _ _ _ _ _ _ _ _ _ _ _ _ _ _ _ _ _ _ _ _ _ _ _ _ _ _ _ _ _ _ _ _ _ _ _ _ _ _ _ _ _ _ _ _ _ _ _ (T5 o) (fun k e=>by rw[HV.out];exact e) (WB o _)
  ·rw[b6 hc1]at T5
   refine qp 8 (by kernel_rfl) (by kernel_rfl) (by kernel_rfl) ?_
   dsimp only[List.take,List.drop,List.length]
   repeat (gi_big_quiet_step (fail))
   refine wpQuietIn_nil ?_;rintro _⟨o,rfl⟩;refine wpAnyIn_ready (rs:=[8]) (by kernel_rfl) (by simp) (AllReadyIn.cons rfl (fun K2 N=>?_) AllReadyIn.nil)
   go_simp
   refine N _ _ (wpAnyIn_done (by kernel_rfl) ?_ _);exact bd _ _ _ _ _ _ _ _ _ _ _ _ _ _ _ _ _ _ _ _ _ _ _ _ _ _ _ _ _ _ _ _ _ _ _ _ _ _ _ _ _ _ _ _ _ _ _ _ _ _ _ _ _ _ _ _ (T5 o) (fun k e=>by rw[HV.out];exact e) (WB o _)
theorem ah2(j:mY c w0 F B)(h:jT c w0 F B W S)(h1:S.st=[])(h2:S.wq=[])(H:C8 c st NM R G)(C:c.st0 st)(u:c.nw<=100000)(z:NM<=900000)(v:∀s x,R s->x∈c.rG s->∀y∈nU c.P x.1,y<c.sz):Calls prog 63 #[.pointer (some ⟨c.lb,0,none⟩)] W (FU c w0 F B W S R G st):=by
 refine ij.1 (callsIn_of_wp_marks (F:=Fence.wide) (n:=9) func63 rfl trivial ?_ rfl);simp only[ntmps63,List.size_toArray,List.length_cons,List.length_nil,Nat.reduceAdd,Nat.reduceSub,Array.replicate_succ,Array.replicate_zero,List.push_toArray,List.append_toArray,List.nil_append,List.cons_append];have hm:prog.follows .mixedOrders=true:=by kernel_rfl
 obtain⟨g,q⟩:∃b,W.heap.size=b:=⟨_,rfl⟩;obtain⟨w1,d⟩:∃V,V=W.alloc (.cells #[.pointer (some ⟨c.lb,0,none⟩)] 216):=⟨_,rfl⟩;have a:Below W.heap.size W w1:=by rw[d];exact(cV _ _).alloc (zL0) _
 have f:aj w1 g #[.pointer (some ⟨c.lb,0,none⟩)] 216:=by rw[d,<-q];exact aj.new ..
 have E:bn c w0 F B W S w1 S:=bn.move h (fun k I=>a.block k I) j a.size ⟨a.1,a.2,a.3⟩;have A:B<=W.heap.size:=h.big;have T:jU c R G (fun _ _=>True) S:=jU.none0 h h1 h2;have M:=aaI j (W:=w1.drew) (E.m.todh.move (fun _ _=>rfl) (zL0)) C;have X:Hid (∀w2,Below w1.drew.heap.size w1.drew w2->w2.cell? ⟨g,0,none⟩=some (.pointer (some ⟨c.lb,0,none⟩))/\aj w2 g #[.pointer (some ⟨c.lb,0,none⟩)] 216/\bn c w0 F B W S w2 S/\Calls prog 94 #[.pointer (some ⟨c.lb,0,none⟩),.agg #[.int .i64 0,.int .i64 (st:Int)]] w2 fun e U=>∃(p:Nat)(S':bL),e=.returned (.int .i64 (p:Int))/\bn c w0 F B w2 S U S'/\Jy c st S (0,st) p S'):=fun w2 o=>by
  have i:aj w2 g #[.pointer (some ⟨c.lb,0,none⟩)] 216:=(o.block _ f.lt).trans f;have l:bn c w0 F B W S w2 S:=E.trans (bn.move E.m (fun k I=>o.block k I) j o.size ⟨o.1,o.2,o.3⟩);exact⟨i.cell 0,i,l,aaN j l.m C (by rw[h1];exact mj) (0,st) ⟨by rw[h1];simp,by rw[h2];simp⟩⟩
 have O:Hid (∀w2 t p0 r,aj w2 g #[.pointer (some ⟨c.lb,0,none⟩)] 216->bn c w0 F B W S w2 S->bn c w0 F B w2 S t r->Jy c st S (0,st) p0 r->(J9 (J9 (Tryz.f63.body.getD .skip))).wpIn Fence.wide 9 prog (bodyPostM Fence.wide 9 prog Tryz.f63 (FU c w0 F B W S R G st)) { tmps:=#[.pointer (some ⟨c.lb,0,none⟩),.pointer (some ⟨g,0,none⟩),undef,undef,undef,undef,.pointer (some ⟨c.lb,0,none⟩),.pointer (some ⟨c.lb,0,none⟩),.agg #[.int .i64 0,.int .i64 (st:Int)],.int .i64 (p0:Int),undef,undef,undef,undef,undef,undef,undef,undef,undef,undef,undef,undef,undef,undef,undef,undef,undef,undef,undef,undef,undef,undef,undef,undef,undef,undef,undef,undef,undef,undef,undef,undef,undef,undef,undef,undef,undef,undef,undef,undef,undef,undef,undef,undef,undef,undef,undef,undef,undef,undef,undef],defers:=[] } t):=fun w2 t p0 r i l D J=>by
  obtain⟨Z,-,at3,-⟩:=T.placed H H.r0 J j.nT.1 C;refine agZ j H C u z v q A (l.trans D) Z ((D.x.bK g i.lt fun e=>?_).trans i) (cJ at3);exact l.m.Tf e i
 have x0:w1.cell? ⟨g,0,none⟩=some (.pointer (some ⟨c.lb,0,none⟩)):=f.cell 0;clear T E a f h h1 h2 j H C u z v A;obtain⟨Q,N⟩:∃Q,Q=bodyPostM Fence.wide 9 prog Tryz.f63 (FU c w0 F B W S R G st):=⟨_,rfl⟩;rw[<-N]at O|-;clear N
 gi_upto_region 1 with fail
 rename_i K1 K;rw[<-d];clear d
 gi_region_with_o (first
  | (refine⟨trivial,?_⟩;gi_at_call 95;refine(ij.2 M).mono ?_;rintro e w2⟨rfl,L⟩;obtain⟨y0,i,l,Y⟩:=X.out w2 L)
  | (refine⟨trivial,?_⟩;gi_at_call 94;refine(ij.2 Y).mono ?_;rintro e t⟨p0,r,rfl,D,J⟩))
 all_goals exact K _ _ (O.out w2 t p0 r i l D J)
end
namespace Lx
def lG(es:List (Nat×Nat×Nat)):Nat->Nat×Nat->Nat
 |0,_=>0
 |k+1,a=>match es[k]? with
  |some e=>if a=(e.1,e.2.1) then e.2.2 else lG es k a
  |none=>lG es k a
end Lx
def NmE(w:World)(v0 v1 v2 v3 v4:Value)(es:List (Nat×Nat×Nat))(e:Ending)(w':World):Prop:=∃gm,e=.returned (.agg #[v0,v1,v2,v3,v4,.map (some gm)])/\w.heap.size<=gm/\dF bE (fun _=>True) w' gm (fun a=>(lG es es.length a:Int))/\Below w.heap.size w w'
theorem afw{w:World}{ve:Value}{v l r n o:Option Addr}{m n1 n2 y f s p q u z:Nat}{es:List (Nat×Nat×Nat)}(he:lZ w ve es)(hl:es.length<=1000000000):Calls prog 61 #[.agg #[.slice v m s,.slice l n1 p,.slice r n2 q,.slice n y u,.slice o f z],ve] w (NmE w (.slice v m s) (.slice l n1 p) (.slice r n2 q) (.slice n y u) (.slice o f z) es):=by
 obtain⟨ea,ec,rfl,CZ⟩:=he;have aa:=@sr prog;obtain⟨R,ab⟩:∃R:Array Value,#[.slice v m s,.slice l n1 p,.slice r n2 q,.slice n y u,.slice o f z,.map (some (w.heap.size+2))]=R:=⟨_,rfl⟩;obtain⟨d,E⟩:∃b,w.heap.size=b:=⟨_,rfl⟩;obtain⟨H,C⟩:∃V,V=(((w.alloc (.cells #[.slice v m s,.slice l n1 p,.slice r n2 q,.slice n y u,.slice o f z] 56)).alloc (.cells #[.slice none 0 0,.slice none 0 0,.slice none 0 0,.slice none 0 0,.slice none 0 0,.map none] 147)).alloc (.map #[] 0)).alloc (.cells #[.slice v m s,.slice l n1 p,.slice r n2 q,.slice n y u,.slice o f z,.map (some (d+1+1))] 147):=⟨_,rfl⟩;have N:Below d w H:=by
  rw[C];have:=(((cV w.heap.size w).alloc (zL0) (.cells #[.slice v m s,.slice l n1 p,.slice r n2 q,.slice n y u,.slice o f z] 56)).alloc (by simp) (.cells #[.slice none 0 0,.slice none 0 0,.slice none 0 0,.slice none 0 0,.slice none 0 0,.map none] 147)).alloc (by simp;omega) (.map #[] 0);have:=this.alloc (by simp;omega) (.cells #[.slice v m s,.slice l n1 p,.slice r n2 q,.slice n y u,.slice o f z,.map (some (d+1+1))] 147);rw[E]at this;exact this
 have s1:(w.alloc (.cells #[.slice v m s,.slice l n1 p,.slice r n2 q,.slice n y u,.slice o f z] 56)).heap.size=d+1:=by rw[fd,E]
 have s2:((w.alloc (.cells #[.slice v m s,.slice l n1 p,.slice r n2 q,.slice n y u,.slice o f z] 56)).alloc (.cells #[.slice none 0 0,.slice none 0 0,.slice none 0 0,.slice none 0 0,.slice none 0 0,.map none] 147)).heap.size=d+1+1:=by rw[fd,s1]
 have kR:aj H (d+1) #[.slice none 0 0,.slice none 0 0,.slice none 0 0,.slice none 0 0,.slice none 0 0,.map none] 147:=by
  rw[C,<-s1];exact((aj.new ..).alloc _).alloc _
 have G:dF bE (fun _=>True) H (d+1+1) (fun a=>(lG es 0 a:Int)):=by
  rw[C,<-s2];exact(dF.made _ _).move (dg _ _ _ (by simp))
 have B:aj H (d+1+1+1) #[.slice v m s,.slice l n1 p,.slice r n2 q,.slice n y u,.slice o f z,.map (some (d+1+1))] 147:=by
  rw[C];have:=aj.new (((w.alloc (.cells #[.slice v m s,.slice l n1 p,.slice r n2 q,.slice n y u,.slice o f z] 56)).alloc (.cells #[.slice none 0 0,.slice none 0 0,.slice none 0 0,.slice none 0 0,.slice none 0 0,.map none] 147)).alloc (.map #[] 0)) #[.slice v m s,.slice l n1 p,.slice r n2 q,.slice n y u,.slice o f z,.map (some (d+1+1))] 147;rw[fd,s2]at this;exact this
 have HE:Hid (∀wr,Below d w wr->∀(j:Nat)x,es[j]?=some x->∃g,ea=some ⟨g,0,none⟩/\wr.cell? ⟨g,j*3,none⟩=some (.int .i64 (x.1:Int))/\wr.cell? ⟨g,j*3+1,none⟩=some (.int .i64 (x.2.1:Int))/\wr.cell? ⟨g,j*3+2,none⟩=some (.int .i64 (x.2.2:Int))):=fun wr F j x hx=>by
  rw[<-E]at F;obtain⟨g,e,h1,h2,h3⟩:=CZ j x hx;exact⟨g,e,aM F h1,aM F h2,aM F h3⟩
 have H0:Hid (Below d w H/\dF bE (fun _=>True) H (d+1+1) (fun a=>(lG es 0 a:Int))/\aj H (d+1) #[.slice none 0 0,.slice none 0 0,.slice none 0 0,.slice none 0 0,.slice none 0 0,.map none] 147/\aj H (d+1+1+1) #[.slice v m s,.slice l n1 p,.slice r n2 q,.slice n y u,.slice o f z,.map (some (d+1+1))] 147):=⟨N,G,kR,B⟩;have HB:Hid (w.heap.size=d):=E;clear CZ N G kR B s1 s2 ab;go_enter func61,ntmps61;go_upto_region 2 with fail
 rw[<-C];clear C E aa;go_wp2_with fail
 go_loopw [13] (fun i wr=>∃j:Nat,j<=es.length/\i=.int .i64 (j:Int)/\Hid (Below d w wr/\dF bE (fun _=>True) wr (d+1+1) (fun a=>(lG es j a:Int))/\aj wr (d+1) #[.slice none 0 0,.slice none 0 0,.slice none 0 0,.slice none 0 0,.slice none 0 0,.map none] 147/\aj wr (d+1+1+1) #[.slice v m s,.slice l n1 p,.slice r n2 q,.slice n y u,.slice o f z,.map (some (d+1+1))] 147)) (fun i _=>es.length - (intOf i).toNat)
 case atStart=>exact⟨0,by omega,rfl,H0⟩
 case round=>
  clear H0;obtain⟨j,hj,rfl,HI⟩:=hrel;obtain⟨F,G,kR,B⟩:=HI.out;clear HI
  by_cases hjn:j<es.length
  ·have j1:(j:Int)<(es.length:Int):=by omega
   obtain⟨x,O⟩:∃x,es[j]?=some x:=⟨_,cF hjn⟩;obtain⟨g,rfl,d1,d2,d3⟩:=HE.out wr F j x O;obtain⟨M,W,S⟩:=x;simp only at d1 d2 d3;obtain⟨I,aY⟩:∃V,V=wr.alloc (.cells #[.int .i64 (M:Int),.int .i64 (W:Int),.int .i64 (S:Int)] 173):=⟨_,rfl⟩;obtain⟨Z,Q⟩:∃b,wr.heap.size=b:=⟨_,rfl⟩;have Y:aj I Z #[.int .i64 (M:Int),.int .i64 (W:Int),.int .i64 (S:Int)] 173:=by rw[aY,<-Q];exact aj.new ..
   have A:Below wr.heap.size wr I:=by rw[aY];exact(cV _ _).alloc (zL0) _
   have P:=G.move (A.block _ G.lt);obtain⟨T,ac,U,J,-⟩:=dF.put Tryz.JG Tryz.Jt (fun _ _=>trivial) P (a:=(M,W)) trivial (S:Int);simp only[bE]at ac;have k5:∀{b t:Nat}{R:Array Value},aj wr b R t->aj T b R t:=fun K=>(J.block _ (dd K.lt A.size) fun e=>by
    cases e;obtain⟨ad,cl,h1,-⟩:=G;unfold aj at K;rw[h1]at K;cases K).trans ((A.block _ K.lt).trans K)
   have HN:Hid (Below d w T/\dF bE (fun _=>True) T (d+1+1) (fun a=>(lG es (j+1) a:Int))/\aj T (d+1) #[.slice none 0 0,.slice none 0 0,.slice none 0 0,.slice none 0 0,.slice none 0 0,.map none] 147/\aj T (d+1+1+1) #[.slice v m s,.slice l n1 p,.slice r n2 q,.slice n y u,.slice o f z,.map (some (d+1+1))] 147):=by
    refine⟨(F.trans (A.mono (by have:=kR.lt;omega))).grown J (by have:=kR.lt;have:=A.size;omega) (fun k e=>by cases e;omega),?_,k5 kR,k5 B⟩;have e:(fun a=>(lG es (j+1) a:Int))=fun c=>if c=(M,W) then (S:Int) else (lG es j c:Int):=by
     funext a;rw[lG,O];simp only
     split <;> rfl
    rw[e];exact U
   have X:aj I _ _ 147:=(A.block _ B.lt).trans B;have m5:I.cell? ⟨d+1+1+1,5,none⟩=some (.map (some (d+1+1))):=X.cell 5;have x1:I.cell? ⟨Z,0,none⟩=some (.int .i64 (M:Int)):=Y.cell 0;have x2:I.cell? ⟨Z,1,none⟩=some (.int .i64 (W:Int)):=Y.cell 1;have x3:I.cell? ⟨Z,2,none⟩=some (.int .i64 (S:Int)):=Y.cell 2;clear F G kR B Y A P U J k5 X HE;go_upto_region 5 with fail
   rw[<-aY];clear aY Q d1 d2 d3;go_wp2_with fail;exact⟨⟨j+1,by omega,by go_num,HN⟩,by simp[intOf];omega⟩
  ·obtain rfl:j=es.length:=by omega
   have m0:wr.cell? ⟨d+1+1+1,0,none⟩=some (.slice v m s):=B.cell 0;have m1:wr.cell? ⟨d+1+1+1,1,none⟩=some (.slice l n1 p):=B.cell 1;have m2:wr.cell? ⟨d+1+1+1,2,none⟩=some (.slice r n2 q):=B.cell 2;have m3:wr.cell? ⟨d+1+1+1,3,none⟩=some (.slice n y u):=B.cell 3;have m4:wr.cell? ⟨d+1+1+1,4,none⟩=some (.slice o f z):=B.cell 4;have m5:wr.cell? ⟨d+1+1+1,5,none⟩=some (.map (some (d+1+1))):=B.cell 5;have r0:wr.cell? ⟨d+1,0,none⟩=some (.slice none 0 0):=kR.cell 0;have r1:wr.cell? ⟨d+1,1,none⟩=some (.slice none 0 0):=kR.cell 1;have r2:wr.cell? ⟨d+1,2,none⟩=some (.slice none 0 0):=kR.cell 2;have r3:wr.cell? ⟨d+1,3,none⟩=some (.slice none 0 0):=kR.cell 3;have r4:wr.cell? ⟨d+1,4,none⟩=some (.slice none 0 0):=kR.cell 4;have r5:wr.cell? ⟨d+1,5,none⟩=some (.map none):=kR.cell 5;have rf:∀i,wr.frozen? ⟨d+1,i,none⟩=false:=kR.frozen;have kF:=(((((kR.set 0 (.slice v m s)).set 1 (.slice l n1 p)).set 2 (.slice r n2 q)).set 3 (.slice n y u)).set 4 (.slice o f z)).set 5 (.map (some (d+1+1)));have HF:Hid (dF bE (fun _=>True) ((((((wr.setCell ⟨d+1,0,none⟩ (.slice v m s)).setCell ⟨d+1,1,none⟩ (.slice l n1 p)).setCell ⟨d+1,2,none⟩ (.slice r n2 q)).setCell ⟨d+1,3,none⟩ (.slice n y u)).setCell ⟨d+1,4,none⟩ (.slice o f z)).setCell ⟨d+1,5,none⟩ (.map (some (d+1+1)))) (d+1+1) (fun a=>(lG es es.length a:Int))/\Below d w ((((((wr.setCell ⟨d+1,0,none⟩ (.slice v m s)).setCell ⟨d+1,1,none⟩ (.slice l n1 p)).setCell ⟨d+1,2,none⟩ (.slice r n2 q)).setCell ⟨d+1,3,none⟩ (.slice n y u)).setCell ⟨d+1,4,none⟩ (.slice o f z)).setCell ⟨d+1,5,none⟩ (.map (some (d+1+1))))):=by
    have D:d+1+1≠d+1:=by omega
    refine⟨G.move (by rw[zS0 D,zS0 D,zS0 D,zS0 D,zS0 D,zS0 D]),?_⟩;have L:∀i,d<=(⟨d+1,i,none⟩:Addr).block:=fun _=>pL d
    exact(((((F.setCell (L 0) _).setCell (L 1) _).setCell (L 2) _).setCell (L 3) _).setCell (L 4) _).setCell (L 5) _
   clear F G kR B HE;go_wp2_with fail;exact pR rfl rfl kF (by kernel_rfl) (by kernel_rfl) ⟨d+1+1,rfl,by rw[HB.out];omega,HF.out.1,by rw[HB.out];exact HF.out.2⟩
def wL(ws:List Nat):List Value:=ws.map fun(x:Nat)=>.int .u64 (x:Int)
theorem Mx.put{w0 W W':World}{B m o f n N:Nat}{gs:List Nat}{rs:List (List Value)}(h:Mx w0 B m o f n N W gs rs){i g:Nat}{r':List Value}(hg:gs[i]?=some g)(a:W.grownBy W' (some g))(u:aj W' g r'.toArray f):Mx w0 B m o f n N W' gs (rs.set i r'):=by
 have d:=cJ hg;refine⟨(a.block m h.out.lt fun e=>by cases e;exact h.La d rfl).trans h.out,by simp[h.len],fun j p r hg' c=>?_,h.nd,h.lo,h.no,h.b.grown a h.size fun k e=>by cases e;exact h.lo g d,h.ne,h.le⟩;rw[fx]at c
 split at c
 ·rename_i e
  subst e;rw[hg]at hg';cases hg';have l:i<rs.length:=by rw[h.len];exact(cG.1 hg).1
  rw[dj l]at c;cases c;exact u
 ·rename_i e
  refine(a.block p (h.lt (cJ hg')) fun s=>e ?_).trans (h.row j p r hg' c);cases s;obtain⟨h1,q⟩:=cG.1 hg;obtain⟨h2,t⟩:=cG.1 hg';exact(lP h.nd).1 (q.trans t.symm)
namespace Lx
def iA(nw:Nat)(ts:List Nat):Nat->List Nat
 |0=>List.replicate nw 0
 |k+1=>match ts[k]? with
  |some t=>xI (iA nw ts k) t
  |none=>iA nw ts k
theorem NG(nw:Nat)(ts:List Nat):∀k,(iA nw ts k).length=nw/\jD (iA nw ts k)
 |0=>⟨ik ..,fun x a=>by rw[iu a];decide⟩
 |k+1=>by
  have ih:=NG nw ts k;rw[iA]
  split
  ·exact⟨(abr ..).trans ih.1,acr ih.2 _⟩
  ·exact ih
end Lx
def SoE(w:World)(nw:Nat)(L:List (List Nat))(e:Ending)(w':World):Prop:=∃gO gs,e=.returned (.slice (some ⟨gO,0,none⟩) L.length L.length)/\gs.length=L.length/\w.heap.size<=gO/\Mx w w.heap.size gO 214 277 nw L.length w' gs ((L.map fun ts=>iA nw ts ts.length).map wL)
theorem ajk{n:Nat}(j:n<=100000)(w:World):(Instr.makeSlice 149 (.int .i64 (n:Int)) (.int .i64 (n:Int))).run prog w=.ok (.slice (some ⟨w.heap.size,0,none⟩) n n) (w.alloc (.cells (vA (List.replicate n (Value.slice none 0 0))) 214)):=by
 obtain⟨f,d,b,c,a⟩:=ft Tryz.Td;have h:=pA (P:=prog) w 149 214 f _ (by kernel_rfl) d b .i64 .i64 (n:Int) (n:Int) (by omega) (nF _) (by rw[a];omega) (by omega);rw[h,im,c];have e:Value.cells (.slice none 0 0)=#[.slice none 0 0]:=rfl;have g:madeCells #[.slice none 0 0] (n*1)=(vA (List.replicate n (Value.slice none 0 0))):=by
  unfold madeCells vA;apply qe
  ·simp
  ·intro i h1 h2
   simp[Nat.mod_one]
 rw[e,g]
theorem ah3{w:World}{vl:Value}{L:List (List Nat)}{nT:Nat}(hL:yw w vl L)(hN:L.length<=100000)(hT:nT<=100000)(hx:∀l∈L,l.length<=1000000/\∀t∈l,t<nT):Calls prog 62 #[vl,.int .i64 (nT:Int)] w (SoE w (Lx.nW nT) L):=by
 obtain⟨la,lc,rfl,F⟩:=hL;obtain⟨c,Q⟩:∃b,w.heap.size=b:=⟨_,rfl⟩;obtain⟨nw,r⟩:∃n,Lx.nW nT=n:=⟨_,rfl⟩;have ac:nw<=100000:=by rw[<-r];unfold Lx.nW;omega
 have ab:nT<=nw*64:=by rw[<-r];unfold Lx.nW;omega
 obtain⟨w2,z⟩:∃V,V=w.alloc (.cells (vA (List.replicate L.length (Value.slice none 0 0))) 214):=⟨_,rfl⟩;have I:Mx w c c 214 277 nw L.length w2 [] []:=by rw[z,<-Q];exact Mx.new w nw L.length (by decide)
 have J:=fun w=>ajk (n:=L.length) hN w
 have M:=fun w=>QI (w:=w) hT
 simp only[r]at M;rw[r];have Y:Hid (∀wr,Below c w wr->∀(j:Nat)l,L[j]?=some l->∃g C O,la=some ⟨g,0,none⟩/\wr.cell? ⟨g,j,none⟩=some (.slice C l.length O)/\∀p,Below c w p->∀(k:Nat)t,l[k]?=some t->∃b,C=some ⟨b,0,none⟩/\p.cell? ⟨b,k,none⟩=some (.int .i64 (t:Int))):=fun wr hb j l hl=>by
  rw[<-Q]at hb|-;obtain⟨g,e,v,h1,C,O,rfl,h3⟩:=F j l hl;rw[j9]at h1;refine⟨g,C,O,e,aM hb h1,fun p hz k t ht=>?_⟩;obtain⟨b,e3,S⟩:=h3 k t ht;unfold iQ at S;rw[j9]at S;exact⟨b,e3,aM hz S⟩
 have H0:Hid (∃d,d.length=0/\Mx w c c 214 277 nw L.length w2 d (((L.take 0).map fun a=>iA nw a a.length).map wL)):=⟨[],rfl,I⟩;have HG:Hid (w.heap.size=c):=Q;clear F I r;go_enter func62,ntmps62;go_upto_region 2 with (simp only[J])
 rw[<-z];clear z Q J;go_wp2_with fail
 go_loopw [15] (fun i wr=>∃j:Nat,j<=L.length/\i=.int .i64 (j:Int)/\Hid (∃d,d.length=j/\Mx w c c 214 277 nw L.length wr d (((L.take j).map fun a=>iA nw a a.length).map wL))) (fun i _=>L.length - (intOf i).toNat)
 case atStart=>exact⟨0,by omega,rfl,H0⟩
 case round=>
  clear H0;obtain⟨j,hj,rfl,G⟩:=hrel;obtain⟨d,m,f⟩:=G.out;clear G
  by_cases hjn:j<L.length
  ·have j1:(j:Int)<(L.length:Int):=by omega
   obtain⟨l,hl⟩:∃l,L[j]?=some l:=⟨_,cF hjn⟩;obtain⟨g,C,O,rfl,c1,hX⟩:=Y.out wr f.b j l hl;have Z:=hx l (cJ hl);have K:wr.cell? ⟨c,j,none⟩=some (.slice none 0 0):=by
    rw[f.out.cell,ge,eN (by rw[dk];omega),dk,m,ib,jn,dj (by omega)]
   have dO:∀o,(wr.alloc o).cell? ⟨c,j,none⟩=some (.slice none 0 0):=fun o=>(cM (w:=wr) (dg _ _ _ f.out.lt)).trans K
   have fO:∀o,(wr.alloc o).frozen? ⟨c,j,none⟩=false:=fun o=>(f.out.alloc o).frozen j
   have R:=f.push (by omega) (wL (List.replicate nw 0));rw[m]at R;have D:(((L.take j).map fun a=>iA nw a a.length).map wL).length=j:=by rw[dk,dk,j'];omega
   have T:Hid (((L.take (j+1)).map fun a=>iA nw a a.length).map wL=((L.take j).map fun a=>iA nw a a.length).map wL++[wL (iA nw l l.length)]):=by
    show _=_;rw[pi,hl,eJ,eJ];rfl
   have B:Hid ((((L.take j).map fun a=>iA nw a a.length).map wL).length=j):=D;have X:Hid (∃d,d.length=j+1/\Mx w c c 214 277 nw L.length ((wr.alloc (.cells (pq (List.replicate nw 0)) 277)).setCell ⟨c,j,none⟩ (.slice (some ⟨wr.heap.size,0,none⟩) nw nw)) d (((L.take j).map fun a=>iA nw a a.length).map wL++[wL (iA nw l 0)])):=⟨d++[wr.heap.size],by rw[cH,m];rfl,R⟩;have U:Hid (∀p,Below c w p->∀(k:Nat)t,l[k]?=some t->∃b,C=some ⟨b,0,none⟩/\p.cell? ⟨b,k,none⟩=some (.int .i64 (t:Int))):=hX;have q:=M wr;clear f R D Y m hX hx M hl;generalize ((L.take j).map fun a=>iA nw a a.length).map wL=pr at T B X
   go_wp2_with (go_at_call 92;refine q.mono ?_;rintro e w3⟨rfl,aa⟩;subst aa)
   clear K dO fO c1 q
   go_loopw [27] (fun i wr=>∃k:Nat,k<=l.length/\i=.int .i64 (k:Int)/\Hid (∃d,d.length=j+1/\Mx w c c 214 277 nw L.length wr d (pr++[wL (iA nw l k)]))) (fun i _=>l.length - (intOf i).toNat)
   case atStart=>exact⟨0,by omega,rfl,X⟩
   case round=>
    clear X;revert wr;intro p hrel;obtain⟨k,hk,rfl,G⟩:=hrel;obtain⟨x,P,f⟩:=G.out;clear G
    by_cases hkn:k<l.length
    ·have k1:(k:Int)<(l.length:Int):=by omega
     obtain⟨t,ht⟩:∃t,l[k]?=some t:=⟨_,cF hkn⟩;obtain⟨b,rfl,c1⟩:=U.out p f.b k t ht;have ad:=Z.2 t (cJ ht);obtain⟨N,s⟩:∃g,x[j]?=some g:=⟨_,cF (by omega)⟩;have Bl:(pr++[wL (iA nw l k)])[j]?=some (wL (iA nw l k)):=by
      rw[eN (by rw[B.out];exact zL0),B.out,ib];rfl
     have o1:=f.Cm s;obtain⟨u,H⟩:=NG nw l k;have E:=abu (w:=p) (g:=N) (t:=t) (ws:=iA nw l k) ⟨f.row j N _ s Bl,H⟩ (by rw[u];omega) (by omega);rw[u]at E;have HN:Hid (∀A,TS A N (xI (iA nw l k) t)->p.grownBy A (some N)->∃d,d.length=j+1/\Mx w c c 214 277 nw L.length A d (pr++[wL (iA nw l (k+1))])):=fun A W y=>by
      refine⟨x,P,?_⟩;have:=f.put s y (r':=wL (xI (iA nw l k) t)) W.blk;rw[mB _ _ (by rw[B.out];exact zL0),B.out,ib,oe]at this;rw[iA,ht];exact this
     have d0:(0:Int)<=(j:Int):=by omega
     clear f Bl s P u H U ht
     go_wp2_with (go_at_call 93;refine E.mono ?_;rintro e A⟨rfl,W,y⟩)
     exact⟨⟨k+1,by omega,by go_num,HN.out A W y⟩,by simp[intOf];omega⟩
    ·obtain rfl:k=l.length:=by omega
     have HE:Hid (∃d,d.length=j+1/\Mx w c c 214 277 nw L.length p d (((L.take (j+1)).map fun a=>iA nw a a.length).map wL)):=⟨x,P,by rw[T.out];exact f⟩;clear f P T U B;go_wp2_with fail;exact⟨⟨j+1,by omega,by go_num,HE⟩,by simp[intOf];omega⟩
  ·obtain rfl:j=L.length:=by omega
   rw[fR]at f;have HR:Hid (SoE w nw L (.returned (.slice (some ⟨c,0,none⟩) L.length L.length)) wr):=⟨c,d,rfl,m,by rw[HG.out];exact zL0,by rw[HG.out];exact f⟩;clear f m Y hx M;go_wp2_with fail;go_ret;exact HR.out
theorem ama{w:World}(x k a:Nat)(b:((x:Int) == 0)=false)(key:IntKind.u64.wrap (bits BinOp.and IntKind.u64 (x:Int) (IntKind.u64.wrap (-(x:Int)))*285870213051353865) / 288230376151711744=(a:Int))(d:a<64)(c:k<64)(f:w.cell? ⟨2,a,none⟩=some (.int .u8 (k:Int))):Calls prog 141 #[.int .u64 (x:Int)] w fun e w'=>e=.returned (.int .i64 (k:Int))/\w'=w:=by
 go_enter func141,ntmps141
 go_wp2_with (simp only[key])
 go_ret;exact⟨rfl,rfl⟩
theorem am1{w:World}(j:TabAt 2 Lib.deBruijn64tab w){x:Nat}(g:x<18446744073709551616)(a:x≠0):Calls prog 141 #[.int .u64 (x:Int)] w fun e w'=>e=.returned (.int .i64 ((Lib.ctz 64 x:Nat):Int))/\w'=w:=by
 obtain⟨c,d⟩:=Lib.lowest_bit 64 x a g;obtain⟨f,b⟩:=Lib.deBruijn64_at _ d;have i:=j _ f;rw[b]at i;exact ama x _ _ (by simp;omega) (tz64_key x _ g a c) f d i
namespace Lx
def xu:Nat->Nat->List Nat
 |0,_=>[]
 |n+1,x=>if x=0 then [] else Lib.ctz 64 x::xu n (x &&& (x-1))
def oz(x:Nat):List Nat:=xu x x
theorem Sw:∀(n m x:Nat),x<=n->x<=m->xu n x=xu m x
 |0,0,_,_,_=>rfl
 |0,m+1,x,h,_=>by rw[xu,xu,dj (by omega)]
 |n+1,0,x,_,h=>by rw[xu,xu,dj (by omega)]
 |n+1,m+1,x,h,k=>by
  have a:x &&& (x-1)<=x-1:=r6;rw[xu,xu]
  split
  ·rfl
  ·rw[Sw n m _ (by omega) (by omega)]
theorem NH:oz 0=[]:=rfl
theorem Jk{x:Nat}(h:x≠0):oz x=Lib.ctz 64 x::oz (x &&& (x-1)):=by
 have a:x &&& (x-1)<=x-1:=r6;unfold oz;rw[Sw x (x+1) x (zL0) (pL _),xu,dt h,Sw x _ _ (by omega) (zL0)]
def jm(ws:List Nat):Nat->List Nat
 |0=>[]
 |k+1=>jm ws k++(oz (ws.getD k 0)).map (k*64+·)
theorem acH(ws:List Nat)(k:Nat):∀n,k<=n->jm ws k <+: jm ws n
 |0,h=>by rw[show k=0 by omega];exact List.prefix_refl _
 |n+1,h=>by
  by_cases e:k=n+1
  ·rw[e];exact List.prefix_refl _
  ·exact(acH ws k n (by omega)).trans (List.prefix_append _ _)
theorem am2{ws:List Nat}{k n d y:Nat}(c:k<n)(a:(oz (ws.getD k 0))[d]?=some y):(jm ws n)[(jm ws k).length+d]?=some (k*64+y):=by
 obtain⟨r,b⟩:=acH ws (k+1) n c;rw[<-b,jm,dq,eN (by omega),yi,eL (by rw[dk];exact(cG.1 a).1),di,a];rfl
end Lx
def encI(x:Nat):Array Value:=#[.int .i64 (x:Int)]
theorem ah4{bx g c:Nat}{ws:List Nat}(hl:ws.length<=1000):Ah prog 140 #[.pointer (some ⟨bx,0,none⟩)] encI (jm ws ws.length) (fun W=>aj W bx #[.slice (some ⟨g,0,none⟩) ws.length c] 214/\TS W g ws/\TabAt 2 Lib.deBruijn64tab W):=by
 intro l J W hJ C hY I;refine ij.1 (zp (F:=Fence.wide) (n:=9) func140 rfl trivial ?_ rfl);simp only[ntmps140,List.size_toArray,List.length_cons,List.length_nil,Nat.reduceAdd,Nat.reduceSub,Array.replicate_succ,Array.replicate_zero,List.push_toArray,List.append_toArray,List.nil_append,List.cons_append];have m0:W.cell? ⟨bx,0,none⟩=some (.slice (some ⟨g,0,none⟩) ws.length c):=(C _ _ _ I).1.cell 0
 gi_wp2
 gi_loopg [7] ws.length (fun m i wr=>∃(k:Nat)(Z:Nat->Prop),k+m=ws.length/\i=.int .i64 (k:Int)/\J (jm ws k).length Z wr)
 case atStart=>exact⟨0,_,by omega,rfl,I⟩
 case round=>
  clear I m0;obtain⟨k,Z,hk,rfl,u⟩:=hrel
  by_cases hlt:k<ws.length
  ·have O:wr.cell? ⟨g,k,none⟩=some (.int .u64 ((ws.getD k 0:Nat):Int)):=((C _ _ _ u).2.1.blk.cell k).trans (IQ ws hlt)
   have v:ws.getD k 0<18446744073709551616:=(C _ _ _ u).2.1.wd.get k;obtain⟨b,p⟩:∃x,ws.getD k 0=x:=⟨_,rfl⟩;rw[p]at O v;have H:Hid (ws.getD k 0=b):=p;clear p;have j1:(0:Int)<=(k:Int):=by omega
   have j2:(k:Int)<(ws.length:Int):=by omega
   gi_wp2
   gi_loopg [4] b (fun X av B=>∃(m d:Nat)(s:Nat->Prop),m=X/\d<=(oz b).length/\m<18446744073709551616/\av=.int .u64 (m:Int)/\Hid ((oz b).drop d=oz m)/\J ((jm ws k).length+d) s B)
   case atStart=>exact⟨b,0,Z,rfl,ff _,v,rfl,rfl,u⟩
   case round=>
    clear u O;revert wr;intro B hrel;obtain⟨m,d,s,rfl,M,K,rfl,t,a⟩:=hrel
    by_cases hm0:m=0
    ·subst hm0
     have hd:(oz b).length<=d:=by
      have:=t.out;rw[NH]at this;exact List.drop_eq_nil_iff.1 this
     have Y:Hid (J (jm ws (k+1)).length s B):=by
      rw[jm,cH,dk,H.out];rw[show (oz b).length=d by omega];exact a
     clear a t
     gi_wp2
     gi_roundg (ws.length - (k+1))
     case measure=>omega
     case rel=>exact⟨k+1,s,by omega,by go_num,Y.out⟩
    ·have f:(oz (ws.getD k 0))[d]?=some (Lib.ctz 64 m):=by
      rw[H.out];have:=t.out;rw[Jk hm0]at this;have e:=fb (·[0]?) this;simpa using e
     obtain⟨fn,tmps,assign,body,A,Q⟩:=hY _ _ s B (am2 hlt f) a;have q:=am1 (C _ _ _ a).2.2 K hm0;have U:Hid ((oz b).drop (d+1)=oz (m &&& (m-1))):=by
      show (oz b).drop (d+1)=oz (m &&& (m-1));have e:=t.out;rw[Jk hm0]at e;have P:=fb (List.drop 1) e;rw[List.drop_drop]at P;simpa using P
     have N:d+1<=(oz b).length:=by
      rw[H.out]at f;exact(cG.1 f).1
     obtain⟨z,E⟩:∃z,Lib.ctz 64 m=z:=⟨_,rfl⟩;have aa:z<64:=by rw[<-E];exact(Lib.lowest_bit 64 m hm0 K).2
     obtain⟨r,j⟩:∃y,m &&& (m-1)=y:=⟨_,rfl⟩;have o:r<m:=by rw[<-j];exact Nat.lt_of_le_of_lt r6 (by omega)
     have G:bits BinOp.and IntKind.u64 (m:Int) ((m:Int) - 1)=(r:Int):=by
      rw[show (m:Int) - 1=((m-1:Nat):Int) by omega,bits_and_u64_nat m (m-1) K (by omega),j]
     rw[E]at A q;rw[j]at U;simp only[encI]at A;have S:((k*64+z:Nat):Int)=(k:Int)*64+(z:Int):=by omega
     rw[S]at A;have b0:((m:Int) != 0)=true:=by simp;omega
     have b1:(m:Int)≠0:=by omega
     clear j E f t;have ab:IntKind.i64.wrap ((k:Int)*64)=(k:Int)*64:=by rw[iz];omega
     have V:IntKind.i64.wrap ((k:Int)*64+(z:Int))=(k:Int)*64+(z:Int):=by rw[iz];omega
     have R:Hid (bits BinOp.and IntKind.u64 (m:Int) ((m:Int) - 1)=(r:Int)):=G;have T:Hid (r<m):=o;clear G S M hm0 hlt o j1 j2
     gi_upto_region 5 with fail
     gi_upto_region 4 with (first
      | (refine⟨trivial,?_⟩;gi_at_call 141;refine(ij.2 q).mono ?_;rintro e w2⟨rfl,L⟩;subst L))
     refine(IJ Q).mono ?_;rintro e W3⟨rfl,D,-⟩;have G:=R.out;clear A Q q a R
     gi_wp2
     gi_roundg r
     case measure=>exact T.out
     case rel=>exact⟨r,d+1,s,rfl,N,by have:=T.out;omega,by go_num,U,D⟩
  ·gi_wp2
   go_end0
   exact⟨⟨_,rfl⟩,Z,by rw[show ws.length=k by omega];exact u⟩
section
open Go.RowKit Go.Shelf
open Tr
attribute [local go_sem] pB
theorem ah5{w:World}{a:Option Addr}{n c:Nat}:Calls prog 101 #[.slice a n c] w fun e w'=>e=.returned (.func (.func 140) #[] #[.pointer (some ⟨w.heap.size,0,none⟩)])/\w'=w.alloc (.cells #[.slice a n c] 214):=by
 go_enter func101,ntmps101;go_wp2_with fail;go_ret;exact⟨rfl,rfl⟩
def Hg(w:World)(n:Nat)(xs:List Nat)(i:Nat)(Z:Nat->Prop)(W:World):Prop:=Below n w W/\(∀k,Z k->n<k/\k<W.heap.size)/\∃v,aj W n #[v] 22/\W.ownsRow n 3 1 v (xs.take i).length ((xs.take i).map fG)/\∀g,v.ownBlock=some g->¬Z g
theorem Hg.wm{w:World}{n:Nat}{j:List Nat}:xR (Hg w n j) where
 own i Z A B row h hg hr:=by
  obtain⟨h1,h2,v,h3,h4,d⟩:=h;have a:∀k,row=some k->Z k:=fun k e=>hr k e
  refine⟨h1.grown hg (mi h3.lt) fun k e=>mi (h2 k (a k e)).1,fun k b=>⟨(h2 k b).1,dd (h2 k b).2 hg.size⟩,v,(hg.block n h3.lt fun e=>by have:=(h2 n (a n e.symm)).1;omega).trans h3,aD h4 fun g c=>hg.block g (h4.lt g c).2 fun e=>d g c (a g e.symm),d⟩
 new i Z A o h:=by
  obtain⟨h1,h2,v,h3,h4,d⟩:=h;have l:=h3.lt;refine⟨h1.alloc (mi l) o,fun k b=>?_,v,h3.alloc o,h4.alloc o,fun g hg f=>?_⟩
  ·rw[fd]
   rcases b with b|rfl
   ·have:=h2 k b
    omega
   ·omega
  ·rcases f with f | rfl
   ·exact d g hg f
   ·have:=(h4.lt _ hg).2
    omega
theorem afL{w:World}{lb:Array Value}{c:List Nat}{Rd:World->Prop}(r:Ah prog 140 lb encI c Rd)(R:∀W,Below w.heap.size w W->Rd W)(ac:c.length<=1000000000):Calls prog 139 #[.slice none 0 0,.func (.func 140) #[] lb] w fun e w'=>∃v,e=.returned v/\w'.ownsRow w.heap.size 3 1 v c.length (c.map fG)/\Below w.heap.size w w':=by
 obtain⟨i0,N,L,Q,H⟩:=ft Tryz.info3';refine ij.1 (callsIn_of_wp_marks (F:=Fence.wide) (n:=9) func139 rfl trivial ?_ rfl);simp only[ntmps139,List.size_toArray,List.length_cons,List.length_nil,Nat.reduceAdd,Nat.reduceSub,Array.replicate_succ,Array.replicate_zero,List.push_toArray,List.append_toArray,List.nil_append,List.cons_append];obtain⟨n,O⟩:∃n,w.heap.size=n:=⟨_,rfl⟩;obtain⟨w1,q⟩:∃V,V=w.alloc (.cells #[.slice none 0 0] 22):=⟨_,rfl⟩;have h0:Hg w n c 0 (fun _=>False) w1:=⟨by rw[q,<-O];exact(cV _ _).alloc (zL0) _,fun k b=>b.elim,_,by rw[q,<-O];exact aj.new ..,eQ _ _ _ _,fun g e=>by cases e⟩;rw[O]at R|-
 gi_upto_region 1 with fail
 rw[<-q];clear q
 gi_wp2
 refine IC (gf:=140) (lb:=lb) rfl (enters_of func140 (by kernel_rfl) rfl) r (fun _=>rfl) (Hg w n c) Hg.wm (fun i Z W h=>R W h.1) h0
  (fun x a' W=>a'={ tmps:=#[.slice none 0 0,.func (.func 140) #[] lb,.pointer (some ⟨n,0,none⟩),undef,.slice none 0 0,.int .i64 (x:Int),.func (.func 140) #[] lb,.int .i64 (x:Int),undef,undef,undef,undef,undef],defers:=[] }) ?hAx ?assign ?body ?done
 case hAx=>exact fun _ _ _ _ h=>h
 case assign=>
  rintro l' i x Z W K hsz hi I;simp only[encI]
  gi_wp2
  exact I _ _ (zL0) (fun _ _ _=>rfl) hi rfl
 case body=>
  rintro l' i x Z a' W hx⟨s,y,v,kB,m,B⟩rfl;obtain⟨d,f,rfl,-⟩:=aC m;have ab:=(cG.1 hx).1;have u:(c.take i).length=i:=by rw[j'];omega
  rw[u]at m kB B;have c0:W.cell? ⟨n,0,none⟩=some (.slice d i f):=kB.cell 0;have E:(Value.slice d i f).ownBlock≠some n:=fun e=>by
   obtain⟨U,G⟩:=gQ m e;unfold aj at kB;rw[G]at kB;cases kB
  have hsz:n<=W.heap.size:=mi kB.lt;have HF:Hid (∀o l a,l.ownsRow n 3 1 o (i+1) ((c.take i).map fG++[.int .i64 (x:Int)])->(W.alloc (.cells #[.int .i64 (x:Int)] 3)).grownBy l (Value.slice d i f).ownBlock->(o.ownBlock=(Value.slice d i f).ownBlock\/o.ownBlock=some (W.alloc (.cells #[.int .i64 (x:Int)] 3)).heap.size)->yR Z (Hg w n c (i+1) Z) W .normal a (l.setCell ⟨n,0,none⟩ o)):=fun o l a uF J S=>by
   have z:W.grownBy l (Value.slice d i f).ownBlock:=aR (bJ W _ _) J;have P:∀k,Z k->l.heap[k]?=W.heap[k]?:=fun k b=>z.block k (y k b).2 fun e=>B k e.symm b
   have A:aj l n #[.slice d i f] 22:=(z.block n kB.lt fun e=>E e.symm).trans kB;have C:∀g,o.ownBlock=some g->g≠n:=fun g e e2=>by
    obtain⟨U,G⟩:=gQ uF e;unfold aj at A;rw[e2,A]at G;cases G
   refine⟨⟨(s.grown z hsz fun k e=>(m.lt k e).1).setCell (p:=⟨n,0,none⟩) (zL0) _,fun k b=>⟨(y k b).1,by have:=(y k b).2;have:=z.size;simpa using (by omega:k<l.heap.size)⟩,o,A.set 0 o,?_,fun g e Y=>?_⟩,fun k b aa=>(fV _ _ (by have:=(y k b).1;omega)).trans (P k b)⟩
   ·rw[pi,hx,eJ,cH,u]
    exact aD uF fun g e=>fV _ _ (C g e)
   ·rcases S with M | M
    ·exact B g (M▸e) Y
    ·rw[M]at e
     cases e;have:=(y _ Y).2;simp at this;omega
  clear s y B R r h0
  gi_wp2_with (gi_at_builtin;refine wpListIn_append_own_at _ rfl _ _ 22 rfl n 3 i0 _ 1 8 underlying22 N L Q H rfl (by decide) (.slice d i f) _ _ rfl (m.alloc _) ⟨_,0,none⟩ 1 1 [.int .i64 (x:Int)] rfl rfl (eO (aj.new _ _ 3)) (by simp[Value.oneCell']) (by unfold maxLen;omega) (by omega) (by simp;omega) ?_;intro o l j X _ S;obtain⟨mG,mH,T,-⟩:=aC j;subst T;have A:=(kB.alloc (.cells #[.int .i64 (x:Int)] 3)).grown X (fun e=>E e.symm);have c5:l.cell? ⟨n,0,none⟩=some (.slice d i f):=A.cell 0;have f5:=A.frozen 0)
  exact HF.out _ _ _ j X S
 case done=>
  rintro D Z W hD CW⟨s,y,v,kB,m,B⟩I;rw[fR]at m;obtain⟨d,f,rfl,-⟩:=aC m;have c0:W.cell? ⟨n,0,none⟩=some (.slice d c.length f):=kB.cell 0
  gi_wp2
  refine⟨by simp,.inl ⟨_,_,rfl,run_takeDeferred I,?_⟩⟩;refine⟨.slice d c.length f,results_tmp (fn:=Tryz.f139) (t:=4) rfl _ _ _,.slice d c.length f,rfl,aD m fun g z=>World.putObj_heap_other fun e=>B g z (e▸CW),?_⟩;exact⟨s.1,s.2,s.3,by simpa [World.putObj]using s.4,fun k b=>(World.putObj_heap_other (by have:=(y D CW).1;omega)).trans (s.block k b)⟩
theorem ag0{w:World}{lb:Array Value}{b:List Nat}{Rd:World->Prop}(a:Ah prog 140 lb encI b Rd)(d:∀W,Below w.heap.size w W->Rd W)(c:b.length<=1000000000):Calls prog 100 #[.func (.func 140) #[] lb] w fun e w'=>∃v,e=.returned v/\w'.ownsRow w.heap.size 3 1 v b.length (b.map fG)/\Below w.heap.size w w':=by
 have q:=afL a d c;go_enter func100,ntmps100
 go_wp2_with (go_at_call 139;refine q.mono ?_;rintro e w1⟨v,rfl,h1,h2⟩)
 go_ret;exact⟨_,rfl,h1,h2⟩
end
abbrev qL(w:World):=tX 1 (rQ w 2 (Le w))
theorem qL.keep{w w':World}{v:Value}{l:List (List (Nat×List Nat))}(h:qL w v l)(a:Below w.heap.size w w'):qL w' v l:=h.mono fun _ _ _=>rQ.keep a fun _ _ _=>Le.keep a
namespace Tb
end Tb
namespace Tb
def at2{α:Type}(R:List (List α))(i t:Nat):Option α:=match R[i]? with
 |some r=>r[t]?
 |none=>none
theorem Dz{α:Type}{R:List (List α)}{i t:Nat}{x:α}(h:at2 R i t=some x):∃r,R[i]?=some r/\r[t]?=some x:=by
 unfold at2 at h
 split at h
 ·exact⟨_,by assumption,h⟩
 ·cases h
theorem NV{α:Type}{R:List (List α)}{i t:Nat}{r:List α}{x:α}(h:R[i]?=some r)(a:r[t]?=some x):at2 R i t=some x:=by
 unfold at2;rw[h];exact a
theorem Jl{α:Type}{R:List (List α)}{i t b a:Nat}{x y:α}(h:at2 R i t=some y):at2 (setAt R i t x) b a=if b=i/\a=t then some x else at2 R b a:=by
 obtain⟨r,c,g⟩:=Dz h;have f:=(cG.1 c).1;have d:=(cG.1 g).1;unfold setAt at2;rw[c];simp only;rw[fx]
 by_cases e:i=b
 ·subst e
  rw[dj rfl,dj f,c];simp only;rw[fx]
  by_cases e2:t=a
  ·subst e2
   rw[dj rfl,dj d,dj (by simp)]
  ·rw[dt e2,dt fun h=>e2 h.2.symm]
 ·rw[dt e,dt fun h=>e h.1.symm]
theorem acI{α β:Type}(f:α->β)(R:List (List α))(i t:Nat):at2 (R.map (List.map f)) i t=(at2 R i t).map f:=by
 unfold at2;rw[di];cases R[i]? with
 |none=>rfl
 |some r=>exact di
theorem ZI{α β:Type}(f:α->β)(R:List (List α))(i t:Nat)(x:α):(setAt R i t x).map (List.map f)=setAt (R.map (List.map f)) i t (f x):=by
 unfold setAt;rw[di];cases R[i]? with
 |none=>rfl
 |some r=>
  show (R.set i (r.set t x)).map (List.map f)=(R.map (List.map f)).set i ((r.map f).set t (f x));rw[oj,oj]
end Tb
abbrev fT:=Nat×List Nat×Value
def mZ(x:fT):List Value:=[.int .i64 (x.1:Int),x.2.2]
def iR(x:fT):Nat×List Nat:=(x.1,x.2.1)
theorem NI:∀(l:List fT)(i:Nat)(x:fT),l[i]?=some x->(l.flatMap mZ)[i*2]?=some (.int .i64 (x.1:Int))/\(l.flatMap mZ)[i*2+1]?=some x.2.2
 | [],_,_,h=>by simp at h
 |y::l,0,x,h=>by
  cases h;exact⟨rfl,rfl⟩
 |y::l,i+1,x,h=>by
  have:=NI l i x (by simpa using h);rw[eh,show (i+1)*2=i*2+1+1 by omega];exact this
theorem QY:∀(l:List fT)(k:Nat)(x:fT),l[k]?=some x->∀(s:Nat)(v:Value)(ps:List Nat),(l.flatMap mZ).set (k*2) (.int .i64 (s:Int))=(l.set k (s,x.2.1,x.2.2)).flatMap mZ/\(l.flatMap mZ).set (k*2+1) v=(l.set k (x.1,ps,v)).flatMap mZ
 | [],k,x,h=>by simp at h
 |y::l,0,x,h=>fun s v ps=>by
  cases h;exact⟨rfl,rfl⟩
 |y::l,k+1,x,h=>fun s v ps=>by
  obtain⟨h1,h2⟩:=QY l k x (by simpa using h) s v ps;rw[oi,oi,eh,eh,eh,<-h1,<-h2,show (k+1)*2=k*2+1+1 by omega];exact⟨rfl,rfl⟩
structure dw(w0:World)(B gO n N:Nat)(W:World)(gs:List Nat)(D:List (List fT)):Prop where
 mx:Mx w0 B gO 164 166 n N W gs (D.map (List.flatMap mZ))
 own:∀(i t:Nat)(x:fT),Tb.at2 D i t=some x->W.ownsRow B 3 1 x.2.2 x.2.1.length (x.2.1.map fG)
 ne:∀(i t i' t':Nat)(x x':fT),Tb.at2 D i t=some x->Tb.at2 D i' t'=some x'->¬(i'=i/\t'=t)->∀g,x.2.2.ownBlock=some g->x'.2.2.ownBlock≠some g
 rl:∀r∈D,r.length=n
section
variable{w0 W W':World}{B gO n N:Nat}{gs:List Nat}{D:List (List fT)}
theorem dw.len(h:dw w0 B gO n N W gs D):D.length=gs.length:=by have:=h.mx.len;rwa [dk]at this
theorem dw.kg(h:dw w0 B gO n N W gs D){g:Nat}(c:g∈gs):Kd W g 166:=by
 obtain⟨i,b⟩:=eS.1 c;obtain⟨r,-,a⟩:=h.mx.rowAt b;exact⟨_,a⟩
theorem dw.ko(h:dw w0 B gO n N W gs D):Kd W gO 164:=⟨_,h.mx.out⟩
theorem dw.kv(h:dw w0 B gO n N W gs D){i t g:Nat}{x:fT}(b:Tb.at2 D i t=some x)(a:x.2.2.ownBlock=some g):Kd W g 3:=gQ (h.own i t x b) a
theorem dw.move(h:dw w0 B gO n N W gs D)(a:Below W.heap.size W W'):dw w0 B gO n N W' gs D :=
 ⟨h.mx.move a,fun i t x b=>aD (h.own i t x b) fun g c=>a.block g (h.kv b c).lt,h.ne,h.rl⟩
theorem dw.cells(h:dw w0 B gO n N W gs D){i t g:Nat}{x:fT}(c:gs[i]?=some g)(f:Tb.at2 D i t=some x):W.cell? ⟨g,t*2,none⟩=some (.int .i64 (x.1:Int))/\W.cell? ⟨g,t*2+1,none⟩=some x.2.2:=by
 obtain⟨r,d,b⟩:=Tb.Dz f;obtain⟨k,j⟩:=NI r t x b;have a:(D.map (List.flatMap mZ))[i]?=some (r.flatMap mZ):=by rw[di,d];rfl
 exact⟨(h.mx.EH c a).trans k,(h.mx.EH c a).trans j⟩
theorem Tb.acJ{α:Type}{D:List (List α)}{r:List α}{i t:Nat}{x:α}(h:at2 (D++[r]) i t=some x):at2 D i t=some x\/(i=D.length/\r[t]?=some x):=by
 obtain⟨d,a,b⟩:=Dz h;rw[ir]at a
 split at a
 ·exact .inl (NV a b)
 ·rename_i c
  have:=(cG.1 a).1;simp at this;have e:i-D.length=0:=by omega
  rw[e]at a;cases a;exact .inr ⟨by omega,b⟩
theorem dw.push(h:dw w0 B gO n N W gs D)(o:gs.length<N):dw w0 B gO n N ((W.alloc (.cells ((List.replicate n ((0,[],.slice none 0 0):fT)).flatMap mZ).toArray 166)).setCell ⟨gO,gs.length,none⟩ (.slice (some ⟨W.heap.size,0,none⟩) n n)) (gs++[W.heap.size]) (D++[List.replicate n ((0,[],.slice none 0 0):fT)]):=by
 have d:∀{i t:Nat}{x:fT},Tb.at2 (D++[List.replicate n ((0,[],.slice none 0 0):fT)]) i t=some x->Tb.at2 D i t=some x\/(x.2.1=[]/\x.2.2=.slice none 0 0):=fun hx=>by
  rcases Tb.acJ hx with hx|⟨-,hx⟩
  ·exact .inl hx
  ·have:=iu (cJ hx)
   rw[this];exact .inr ⟨rfl,rfl⟩
 refine⟨?_,fun i t x hx=>?_,fun i t m k x l hx a f g b=>?_,fun r c=>?_⟩
 ·have:=h.mx.push o ((List.replicate n ((0,[],.slice none 0 0):fT)).flatMap mZ)
  rw[eJ];exact this
 ·rcases d hx with hx | ⟨j,p⟩
  ·exact aD (h.own i t x hx) fun g b=>(fV _ _ ((h.kv hx b).ne h.ko (by decide))).trans (dg _ _ _ (h.kv hx b).lt)
  ·rw[j,p]
   exact eQ _ _ _ _
 ·rcases d hx with hx | ⟨-,e⟩
  ·rcases d a with a | ⟨-,e⟩
   ·exact h.ne i t m k x l hx a f g b
   ·rw[e]
    exact fun h=>by cases h
  ·rw[e]at b
   cases b
 ·rw[cY,cN]at c
  rcases c with c|rfl
  ·exact h.rl r c
  ·exact ik ..
theorem dw.shift(h:dw w0 B gO n N W gs D){i t g:Nat}{x:fT}(hg:gs[i]?=some g)(c:Tb.at2 D i t=some x)(s:Nat):dw w0 B gO n N (W.setCell ⟨g,t*2,none⟩ (.int .i64 (s:Int))) gs (Tb.setAt D i t (s,x.2.1,x.2.2)):=by
 obtain⟨r,o,f⟩:=Tb.Dz c;have l:(D.map (List.flatMap mZ))[i]?=some (r.flatMap mZ):=by rw[di,o];rfl
 refine⟨?_,fun u q P a=>?_,fun C v p z O G h1 h2 j A b=>?_,Tb.IU h.rl⟩
 ·have:=h.mx.set (k:=t*2) hg l (.int .i64 (s:Int))
  rw[(QY r t x f s undef []).1]at this;unfold Tb.setAt;rw[o];simp only;rw[oj];exact this
 ·have d:∀{u q:Nat}{y:fT}(m:Tb.at2 D u q=some y),(W.setCell ⟨g,t*2,none⟩ (.int .i64 (s:Int))).ownsRow B 3 1 y.2.2 y.2.1.length (y.2.1.map fG):=fun m=>aD (h.own _ _ _ m) fun A b=>fV _ _ ((h.kv m b).ne (h.kg (cJ hg)) (by decide))
  rw[Tb.Jl c]at a
  split at a
  ·cases a
   have:=@d i t x c;exact this
  ·exact d a
 ·rw[Tb.Jl c]at h1 h2
  have H:∃y,Tb.at2 D C v=some y/\y.2.2=O.2.2:=by
   split at h1
   ·rename_i e
    cases h1;rw[e.1,e.2];exact⟨x,c,rfl⟩
   ·exact⟨_,h1,rfl⟩
  have M:∃y,Tb.at2 D p z=some y/\y.2.2=G.2.2:=by
   split at h2
   ·rename_i e
    cases h2;rw[e.1,e.2];exact⟨x,c,rfl⟩
   ·exact⟨_,h2,rfl⟩
  obtain⟨I,E,J⟩:=H;obtain⟨K,F,L⟩:=M;rw[<-L];rw[<-J]at b;exact h.ne C v p z I K E F j A b
theorem dw.app(h:dw w0 B gO n N W gs D){i t g:Nat}{x:fT}(hg:gs[i]?=some g)(o:Tb.at2 D i t=some x){p:Nat}{v:Value}(l:W.grownBy W' x.2.2.ownBlock)(K:W'.ownsRow B 3 1 v (x.2.1++[p]).length ((x.2.1++[p]).map fG))(E:v.ownBlock=x.2.2.ownBlock\/∃k,v.ownBlock=some k/\W.heap.size<=k):dw w0 B gO n N (W'.setCell ⟨g,t*2+1,none⟩ v) gs (Tb.setAt D i t (x.1,x.2.1++[p],v)):=by
 obtain⟨r,J,F⟩:=Tb.Dz o;have S:=cJ hg;have G:(D.map (List.flatMap mZ))[i]?=some (r.flatMap mZ):=by rw[di,J];rfl
 have A:Mx w0 B gO 164 166 n N W' gs (D.map (List.flatMap mZ)):=h.mx.keep (fun k C=>by
  rcases C with rfl|C
  ·exact l.block k h.ko.lt fun e=>h.ko.ne (h.kv o e.symm) (by decide) rfl
  ·exact l.block k (h.kg C).lt fun e=>(h.kg C).ne (h.kv o e.symm) (by decide) rfl) (h.mx.b.grown l h.mx.size fun k e=>((h.own i t x o).lt k e).1)
 have z:Kd W' g 166:=by
  obtain⟨r',-,P⟩:=A.rowAt hg;exact⟨_,P⟩
 have I:∀{s u:Nat}{y:fT},Tb.at2 D s u=some y->¬(s=i/\u=t)->(W'.setCell ⟨g,t*2+1,none⟩ v).ownsRow B 3 1 y.2.2 y.2.1.length (y.2.1.map fG):=fun q d=>aD (h.own _ _ _ q) fun f c=>by
  have j:W'.heap[f]?=W.heap[f]?:=l.block f (h.kv q c).lt fun e=>h.ne _ _ _ _ _ _ o q d f e.symm c
  have Q:Kd W' f 3:=by obtain⟨H,O⟩:=h.kv q c;exact⟨H,j.trans O⟩
  exact(fV _ _ (Q.ne z (by decide))).trans j
 have M:∀{s u f:Nat}{y:fT},Tb.at2 D s u=some y->¬(s=i/\u=t)->y.2.2.ownBlock=some f->v.ownBlock≠some f:=fun q d c e=>by
  rcases E with E|⟨k,L,R⟩
  ·exact h.ne _ _ _ _ _ _ o q d _ (E▸e) c
  ·rw[e]at L
   cases L;have:=(h.kv q c).lt;omega
 refine⟨?_,fun s u Z m=>?_,fun X U Y t2 V T h1 h2 d f c=>?_,Tb.IU h.rl⟩
 ·have:=A.set (k:=t*2+1) hg G v
  rw[(QY r t x F 0 v (x.2.1++[p])).2]at this;unfold Tb.setAt;rw[J];simp only;rw[oj];exact this
 ·rw[Tb.Jl o]at m
  split at m
  ·cases m
   exact aD K fun f c=>fV _ _ ((show Kd W' f 3 from gQ K c).ne z (by decide))
  ·rename_i d
   exact I m d
 ·rw[Tb.Jl o]at h1 h2
  split at h1
  ·rename_i j
   cases h1;rw[dt (by rintro⟨a,b⟩;exact d ⟨a.trans j.1.symm,b.trans j.2.symm⟩)]at h2;intro e;exact M h2 (by rintro⟨a,b⟩;exact d ⟨a.trans j.1.symm,b.trans j.2.symm⟩) e c
  ·rename_i j
   split at h2
   ·cases h2
    exact M h1 j c
   ·exact h.ne _ _ _ _ _ _ h1 h2 d f c
end
namespace Tb
abbrev CH:=List (List (Nat×List Nat))
def Cq(C:CH)(i t p:Nat):CH:=match at2 C i t with
 |some x=>setAt C i t (x.1,x.2++[p])
 |none=>C
def Cr(C:CH)(i t s:Nat):CH:=match at2 C i t with
 |some x=>setAt C i t (s,x.2)
 |none=>C
def oH(C:CH)(i p:Nat)(ts:List Nat):Nat->CH
 |0=>C
 |k+1=>match ts[k]? with
  |some t=>Cq (oH C i p ts k) i t p
  |none=>oH C i p ts k
def oI(C:CH)(i:Nat)(l:List (Nat×List Nat)):Nat->CH
 |0=>C
 |k+1=>match l[k]? with
  |some x=>oH (oI C i l k) i x.1 x.2 x.2.length
  |none=>oI C i l k
def qM(A:CH)(n:Nat):Nat->CH
 |0=>[]
 |j+1=>match A[j]? with
  |some l=>oI (qM A n j++[List.replicate n (0,[])]) j l l.length
  |none=>qM A n j
def nY(C:CH)(es:List (Nat×Nat×Nat))(n:Nat):Nat->CH
 |0=>C
 |k+1=>match es[k]? with
  |some e=>if e.2.1<n then Cr (nY C es n k) e.1 e.2.1 e.2.2 else nY C es n k
  |none=>nY C es n k
def choices(A:CH)(es:List (Nat×Nat×Nat))(n:Nat):CH:=nY (qM A n A.length) es n es.length
end Tb
theorem Tryz.amb:(prog.info? 164).map (fun i=>(i.zero,i.size,i.bytes))=some (some (.slice none 0 0),1,24):=by kernel_rfl
theorem Tryz.amc:(prog.info? 166).map (fun i=>(i.zero,i.size,i.bytes))=some (some (.agg #[.int .i64 0,.slice none 0 0]),2,32):=by kernel_rfl
theorem ag1{n:Nat}(g:n<=100000)(w:World):(Instr.makeSlice 99 (.int .i64 (n:Int)) (.int .i64 (n:Int))).run prog w=.ok (.slice (some ⟨w.heap.size,0,none⟩) n n) (w.alloc (.cells (vA (List.replicate n (Value.slice none 0 0))) 164)):=by
 obtain⟨f,d,b,c,a⟩:=ft Tryz.amb;have h:=pA (P:=prog) w 99 164 f _ (by kernel_rfl) d b .i64 .i64 (n:Int) (n:Int) (by omega) (nF _) (by rw[a];omega) (by omega);rw[h,im,c];have e:Value.cells (.slice none 0 0)=#[.slice none 0 0]:=rfl;rw[e,RQ]
def EQ(n:Nat):List Value:=(List.replicate n ((0,[],.slice none 0 0):fT)).flatMap mZ
theorem amd(n:Nat):∀i,i<n*2->(EQ n)[i]?=some (if i % 2=0 then .int .i64 0 else .slice none 0 0):=fun i c=>by
 have h:(List.replicate n ((0,[],.slice none 0 0):fT))[i / 2]?=some (0,[],.slice none 0 0):=by rw[jn,dj (by omega)]
 obtain⟨b,a⟩:=NI _ _ _ h
 by_cases e:i % 2=0
 ·rw[dj e,show i=i / 2*2 by omega]
  exact b
 ·rw[dt e,show i=i / 2*2+1 by omega]
  exact a
theorem Ti(n:Nat):(EQ n).length=n*2:=by
 unfold EQ
 induction n with
 |zero=>rfl
 |succ n ih=>
  rw[nh,eh,cH,ih];show 2+n*2=_;omega
theorem akO{n:Nat}(k:n<=100000)(w:World):(Instr.makeSlice 164 (.int .i64 (n:Int)) (.int .i64 (n:Int))).run prog w=.ok (.slice (some ⟨w.heap.size,0,none⟩) n n) (w.alloc (.cells (EQ n).toArray 166)):=by
 obtain⟨g,d,b,c,a⟩:=ft Tryz.amc;have h:=pA (P:=prog) w 164 166 g _ (by kernel_rfl) d b .i64 .i64 (n:Int) (n:Int) (by omega) (nF _) (by rw[a];omega) (by omega);rw[h,im,c];have e:Value.cells (.agg #[.int .i64 0,.slice none 0 0])=#[.int .i64 0,.slice none 0 0]:=rfl;rw[e];have j:madeCells #[.int .i64 0,.slice none 0 0] (n*2)=(EQ n).toArray:=by
  unfold madeCells;apply qe
  ·simp[Ti]
  ·intro i h1 h2
   have h3:i<n*2:=by simpa [Ti]using h2
   have h4:=amd n i h3;have f:(EQ n).toArray[i]=if i % 2=0 then Value.int .i64 0 else .slice none 0 0:=by
    rw[cF (by rw[Ti];exact h3)]at h4;simpa using h4
   rw[f];have:i % 2=0\/i % 2=1:=by omega
   rcases this with e|e <;> simp[e]
 rw[j]
section
variable{w0 W W':World}{B gO n N:Nat}{gs:List Nat}{D:List (List fT)}
theorem dw.at(h:dw w0 B gO n N W gs D){i t:Nat}(b:i<gs.length)(c:t<n):∃x,Tb.at2 D i t=some x:=by
 obtain⟨r,hr⟩:∃r,D[i]?=some r:=⟨_,cF (by rw[h.len];exact b)⟩;have a:=h.rl r (cJ hr);exact⟨_,Tb.NV hr (cF (by omega))⟩
theorem Tb.akP{i t p:Nat}{x:fT}{v:Value}(a:Tb.at2 D i t=some x):(Tb.setAt D i t (x.1,x.2.1++[p],v)).map (List.map iR)=Tb.Cq (D.map (List.map iR)) i t p:=by
 rw[Tb.ZI];unfold Tb.Cq;rw[Tb.acI,a];rfl
theorem Tb.akQ{i t s:Nat}{x:fT}(a:Tb.at2 D i t=some x):(Tb.setAt D i t (s,x.2.1,x.2.2)).map (List.map iR)=Tb.Cr (D.map (List.map iR)) i t s:=by
 rw[Tb.ZI];unfold Tb.Cr;rw[Tb.acI,a];rfl
theorem dw.rows(h:dw w0 B gO n N W gs D)(d:gs.length=N):qL W (.slice (some ⟨gO,0,none⟩) N N) (D.map (List.map iR)) :=
 h.mx.rows d (by rw[dk,h.len,d]) (fun r a=>by
  obtain⟨c,f,rfl⟩:=ee.1 a;rw[dk];exact h.rl c f) fun i g r k x j a b=>by
  rw[di]at a;cases hr0:D[i]? with
  |none=>rw[hr0]at a;cases a
  |some c=>
   rw[hr0]at a;cases a;rw[di]at b;cases hx0:c[k]? with
   |none=>rw[hx0]at b;cases b
   |some x0=>
    rw[hx0]at b;cases b;have h2:=Tb.NV hr0 hx0;obtain⟨l,m⟩:=h.cells j h2;exact⟨l,_,m,bQ.own (h.own i k x0 h2)⟩
end
def LB(B S:Nat)(w:World)(v:Value)(C:Tb.CH):Prop:=∃ca cc,v=.slice ca C.length cc/\∀wr:World,(∀k,B<=k->k<S->wr.heap[k]?=w.heap[k]?)->∀(j:Nat)r,C[j]?=some r->∃g xa xc,ca=some ⟨g,0,none⟩/\wr.cell? ⟨g,j,none⟩=some (.slice xa r.length xc)/\∀wz:World,(∀k,B<=k->k<S->wz.heap[k]?=w.heap[k]?)->∀(k:Nat)x,r[k]?=some x->∃h v,xa=some ⟨h,0,none⟩/\wz.cell? ⟨h,k*2,none⟩=some (.int .i64 (x.1:Int))/\wz.cell? ⟨h,k*2+1,none⟩=some v/\bQ wz v x.2/\∀g m c,v=.slice (some ⟨g,0,none⟩) m c->B<=g/\g<S
section
variable{w0 W W':World}{B gO n N:Nat}{gs:List Nat}{D:List (List fT)}
theorem dw.off(h:dw w0 B gO n N W gs D)(a:∀k,B<=k->k<W.heap.size->W'.heap[k]?=W.heap[k]?):dw W' B gO n N W' gs D :=
 ⟨⟨(a _ h.mx.no h.mx.out.lt).trans h.mx.out,h.mx.len,fun i g r hg c=>(a g (h.mx.lo g (cJ hg)) (h.mx.lt (cJ hg))).trans (h.mx.row i g r hg c),h.mx.nd,h.mx.lo,h.mx.no,cV _ _,h.mx.ne,h.mx.le⟩,fun i t x b=>aD (h.own i t x b) fun g hg=>a g ((h.own i t x b).lt g hg).1 (h.kv b hg).lt,h.ne,h.rl⟩
theorem dw.oH(h:dw w0 B gO n N W gs D)(p:gs.length=N):LB B W.heap.size W (.slice (some ⟨gO,0,none⟩) N N) (D.map (List.map iR)):=by
 refine⟨_,N,by rw[dk,h.len,p],fun wr o j r a=>?_⟩;rw[di]at a;cases hj0:D[j]? with
 |none=>rw[hj0]at a;cases a
 |some r0=>
  rw[hj0]at a;cases a;obtain⟨g,f⟩:∃g,gs[j]?=some g:=⟨_,cF (by rw[<-h.len];exact(cG.1 hj0).1)⟩;refine⟨gO,some ⟨g,0,none⟩,n,rfl,?_,fun u d k x b=>?_⟩
  ·rw[(h.off o).mx.Cm f,dk,h.rl r0 (cJ hj0)]
  ·rw[di]at b
   cases hx0:r0[k]? with
   |none=>rw[hx0]at b;cases b
   |some x0=>
    rw[hx0]at b;cases b;have h2:=Tb.NV hj0 hx0;obtain⟨s,t⟩:=(h.off d).cells f h2;refine⟨g,_,rfl,s,t,bQ.own ((h.off d).own j k x0 h2),fun l m c e=>?_⟩;have q:=h.own j k x0 h2;have i:x0.2.2.ownBlock=some l:=by rw[e];rfl
    exact⟨(q.lt l i).1,(h.kv h2 i).lt⟩
end
def WN(w:World)(C:Tb.CH)(e:Ending)(w':World):Prop:=∃v,e=.returned v/\qL w' v C/\Below w.heap.size w w'/\LB w.heap.size w'.heap.size w' v C
theorem afM{w:World}{va ve:Value}{A:Tb.CH}{es:List (Nat×Nat×Nat)}{n:Nat}(ha:qL w va A)(he:lZ w ve es)(hS:A.length<=100000)(hN:n<=100000)(hx:∀l∈A,l.length<=1000000/\∀x∈l,x.2.length<=1000000/\∀t∈x.2,t<n)(a2:es.length<=1000000000)(aq:∀e∈es,e.1<A.length):Calls prog 39 #[va,ve,.int .i64 (n:Int)] w (WN w (Tb.choices A es n)):=by
 obtain⟨aa,ac,rfl,ar⟩:=ha;obtain⟨ea,ec,rfl,CZ⟩:=he;obtain⟨i3,aw,Ed,Ee,ai⟩:=ft Tryz.info3';obtain⟨a,iC⟩:∃b,w.heap.size=b:=⟨_,rfl⟩;obtain⟨w2,ae⟩:∃V,V=w.alloc (.cells (vA (List.replicate A.length (Value.slice none 0 0))) 164):=⟨_,rfl⟩;have ao:dw w a a n A.length w2 [] []:=⟨by rw[ae,<-iC];exact Mx.new w n A.length (by decide),fun i t x h=>by simp[Tb.at2]at h,fun i t i' t' x x' h=>by simp[Tb.at2]at h,fun r hr=>by cases hr⟩;have al:=fun w=>ag1 (n:=A.length) hS w
 have af:=fun w=>akO (n:=n) hN w
 have HA:Hid (∀wr,Below a w wr->∀(j:Nat)l,A[j]?=some l->∃g xa xc,aa=some ⟨g,0,none⟩/\wr.cell? ⟨g,j,none⟩=some (.slice xa l.length xc)/\∀B,Below a w B->∀(k:Nat)x,l[k]?=some x->∃h J L,xa=some ⟨h,0,none⟩/\B.cell? ⟨h,k*2,none⟩=some (.int .i64 (x.1:Int))/\B.cell? ⟨h,k*2+1,none⟩=some (.slice J x.2.length L)/\∀f,Below a w f->∀(m:Nat)t,x.2[m]?=some t->∃b,J=some ⟨b,0,none⟩/\f.cell? ⟨b,m,none⟩=some (.int .i64 (t:Int))):=fun wr hb j l hl=>by
  rw[<-iC]at hb|-;obtain⟨g,e,v,h1,xa,xc,rfl,h3⟩:=ar j l hl;rw[j9]at h1;refine⟨g,xa,xc,e,aM hb h1,fun B hz k x hx=>?_⟩;obtain⟨h,e2,h4,v,h5,J,L,rfl,h6⟩:=h3 k x hx;refine⟨h,J,L,e2,aM hz h4,aM hz h5,fun f hy m t ht=>?_⟩;obtain⟨b,e3,h7⟩:=h6 m t ht;unfold iQ at h7;rw[j9]at h7;exact⟨b,e3,aM hy h7⟩
 have HE:Hid (∀wr,Below a w wr->∀(j:Nat)x,es[j]?=some x->∃g,ea=some ⟨g,0,none⟩/\wr.cell? ⟨g,j*3,none⟩=some (.int .i64 (x.1:Int))/\wr.cell? ⟨g,j*3+1,none⟩=some (.int .i64 (x.2.1:Int))/\wr.cell? ⟨g,j*3+2,none⟩=some (.int .i64 (x.2.2:Int))):=fun wr hb j x hx=>by
  rw[<-iC]at hb;obtain⟨g,e,h1,h2,h3⟩:=CZ j x hx;exact⟨g,e,aM hb h1,aM hb h2,aM hb h3⟩
 have H0:Hid (∃c D,c.length=0/\dw w a a n A.length w2 c D/\D.map (List.map iR)=Tb.qM A n 0):=⟨[],[],rfl,ao,rfl⟩;have HG:Hid (w.heap.size=a):=iC;obtain⟨U,ah⟩:∃M:Nat,M=1000000:=⟨_,rfl⟩;have am:Hid (U=1000000):=ah;clear ah;clear ar CZ ao;go_enter func39,ntmps39;go_upto_region 2 with (simp only[al])
 rw[<-ae];clear ae iC al;go_wp2_with fail
 go_loopw [22] (fun i wr=>∃j:Nat,j<=A.length/\i=.int .i64 (j:Int)/\Hid (∃c D,c.length=j/\dw w a a n A.length wr c D/\D.map (List.map iR)=Tb.qM A n j)) (fun i _=>A.length - (intOf i).toNat)
 case atStart=>exact⟨0,by omega,rfl,H0⟩
 case round=>
  clear H0;obtain⟨j,hj,rfl,S⟩:=hrel;obtain⟨c,D,I,d,y⟩:=S.out;clear S
  by_cases hjn:j<A.length
  ·have j1:(j:Int)<(A.length:Int):=by omega
   obtain⟨l,hl⟩:∃l,A[j]?=some l:=⟨_,cF hjn⟩;obtain⟨g,xa,xc,rfl,X,hX⟩:=HA.out wr d.mx.b j l hl;have ag:=hx l (cJ hl);have ak:wr.cell? ⟨a,j,none⟩=some (.slice none 0 0):=by
    rw[d.mx.out.cell,ge,eN (by rw[dk];omega),dk,I,ib,jn,dj (by omega)]
   have dO:∀o,(wr.alloc o).cell? ⟨a,j,none⟩=some (.slice none 0 0):=fun o=>(cM (w:=wr) (dg _ _ _ d.mx.out.lt)).trans ak
   have fO:∀o,(wr.alloc o).frozen? ⟨a,j,none⟩=false:=fun o=>(d.mx.out.alloc o).frozen j
   have hP:=d.push (by omega);rw[I]at hP;have hz:∀t x,Tb.at2 (D++[List.replicate n ((0,[],.slice none 0 0):fT)]) j t=some x->x.2.1.length<=0*U:=fun t x hx=>by
    rcases Tb.acJ hx with hx|⟨-,hx⟩
    ·obtain⟨r,hr,-⟩:=Tb.Dz hx
     have:=(cG.1 hr).1;rw[d.len,I]at this;omega
    ·rw[iu (cJ hx)]
     exact ff _
   have HS:Hid (Tb.qM A n (j+1)=Tb.oI (Tb.qM A n j++[List.replicate n (0,[])]) j l l.length):=by
    show _=_;rw[Tb.qM,hl]
   have H1:Hid (∃c D,c.length=j+1/\dw w a a n A.length ((wr.alloc (.cells (EQ n).toArray 166)).setCell ⟨a,j,none⟩ (.slice (some ⟨wr.heap.size,0,none⟩) n n)) c D/\D.map (List.map iR)=Tb.oI (Tb.qM A n j++[List.replicate n (0,[])]) j l 0/\∀t x,Tb.at2 D j t=some x->x.2.1.length<=0*U):=⟨c++[wr.heap.size],_,by rw[cH,I];rfl,hP,by rw[eJ,y,Tb.oI,List.map_singleton,List.map_replicate];rfl,hz⟩;have HX:Hid (∀B,Below a w B->∀(k:Nat)x,l[k]?=some x->∃h J L,xa=some ⟨h,0,none⟩/\B.cell? ⟨h,k*2,none⟩=some (.int .i64 (x.1:Int))/\B.cell? ⟨h,k*2+1,none⟩=some (.slice J x.2.length L)/\∀f,Below a w f->∀(m:Nat)t,x.2[m]?=some t->∃b,J=some ⟨b,0,none⟩/\f.cell? ⟨b,m,none⟩=some (.int .i64 (t:Int))):=hX;clear d hP HA HE I hX hx y hl aq;generalize Tb.qM A n j++[List.replicate n (0,[])]=C0 at HS H1
   go_wp2_with (simp only[af])
   clear af ak dO fO X
   go_loopw [34] (fun i wr=>∃k:Nat,k<=l.length/\i=.int .i64 (k:Int)/\Hid (∃c D,c.length=j+1/\dw w a a n A.length wr c D/\D.map (List.map iR)=Tb.oI C0 j l k/\∀t x,Tb.at2 D j t=some x->x.2.1.length<=k*U)) (fun i _=>l.length - (intOf i).toNat)
   case atStart=>exact⟨0,by omega,rfl,H1⟩
   case round=>
    clear H1;revert wr;intro B hrel;obtain⟨k,hk,rfl,S⟩:=hrel;obtain⟨E,D2,P,d,y,Y⟩:=S.out;clear S
    by_cases hkn:k<l.length
    ·have k1:(k:Int)<(l.length:Int):=by omega
     obtain⟨x,hxk⟩:∃x,l[k]?=some x:=⟨_,cF hkn⟩;obtain⟨h,J,L,rfl,X,c2,hT⟩:=HX.out B d.mx.b k x hxk;have Z:=ag.2 x (cJ hxk);have T:Hid (Tb.oI C0 j l (k+1)=Tb.oH (Tb.oI C0 j l k) j x.1 x.2 x.2.length):=by
      show _=_;rw[Tb.oI,hxk]
     obtain⟨p,z⟩:=x;simp only at X c2 hT Z T;obtain⟨K,Q⟩:∃V,V=B.alloc (.cells #[.int .i64 (p:Int),.slice J z.length L] 170):=⟨_,rfl⟩;obtain⟨H,N⟩:∃b,B.heap.size=b:=⟨_,rfl⟩;have G:aj K H #[.int .i64 (p:Int),.slice J z.length L] 170:=by rw[Q,<-N];exact aj.new ..
     have u:dw w a a n A.length K E D2:=d.move (by rw[Q];exact(cV _ _).alloc (zL0) _);have x2:K.cell? ⟨H,1,none⟩=some (.slice J z.length L):=G.cell 1;have HT:Hid (∀f,Below a w f->∀(m:Nat)t,z[m]?=some t->∃b,J=some ⟨b,0,none⟩/\f.cell? ⟨b,m,none⟩=some (.int .i64 (t:Int))):=hT;have H2:Hid (∃c D,c.length=j+1/\dw w a a n A.length K c D/\D.map (List.map iR)=Tb.oH (Tb.oI C0 j l k) j p z 0/\aj K H #[.int .i64 (p:Int),.slice J z.length L] 170/\∀t x,Tb.at2 D j t=some x->x.2.1.length<=k*U+0):=⟨E,D2,P,u,y,G,fun t x h=>by have:=Y t x h;omega⟩;clear d u hT G P y HX hxk Y;generalize Tb.oI C0 j l k=C1 at T H2;go_upto_region 9 with fail
     rw[<-Q];clear Q N X c2;go_wp2_with fail;clear x2
     go_loopw [41] (fun i wr=>∃m:Nat,m<=z.length/\i=.int .i64 (m:Int)/\Hid (∃c D,c.length=j+1/\dw w a a n A.length wr c D/\D.map (List.map iR)=Tb.oH C1 j p z m/\aj wr H #[.int .i64 (p:Int),.slice J z.length L] 170/\∀t x,Tb.at2 D j t=some x->x.2.1.length<=k*U+m)) (fun i _=>z.length - (intOf i).toNat)
     case atStart=>exact⟨0,by omega,rfl,H2⟩
     case round=>
      clear H2;revert wr;intro f hrel;obtain⟨m,hm,rfl,S⟩:=hrel;obtain⟨ER,D3,OJ,d,y,G,Y⟩:=S.out;clear S
      by_cases hmn:m<z.length
      ·have m1:(m:Int)<(z.length:Int):=by omega
       obtain⟨t,ht⟩:∃t,z[m]?=some t:=⟨_,cF hmn⟩;obtain⟨b,rfl,X⟩:=HT.out f d.mx.b m t ht;have ax:=Z.2 t (cJ ht);obtain⟨x,hx⟩:=d.at (i:=j) (t:=t) (by omega) ax;obtain⟨O,q⟩:∃g,ER[j]?=some g:=⟨_,cF (by omega)⟩;obtain⟨rc,-,kG⟩:=d.mx.rowAt q;have o1:=d.mx.Cm q;have ap:=Y t x hx;have ho:=d.own j t x hx;obtain⟨-,d1⟩:=d.cells q hx;have AY:Hid (Tb.oH C1 j p z (m+1)=Tb.Cq (Tb.oH C1 j p z m) j t p):=by
        show _=_;rw[Tb.oH,ht]
       obtain⟨s,C,v⟩:=x;simp only at d1 ho ap;obtain⟨oa,oc,rfl,-⟩:=aC ho;have lg:=kG.lt;have lx:=G.lt;have x1:f.cell? ⟨H,0,none⟩=some (.int .i64 (p:Int)):=G.cell 0;have dA:∀o,(f.alloc o).cell? ⟨O,t*2+1,none⟩=some (.slice oa C.length oc):=fun o=>(cM (w:=f) (dg _ _ _ lg)).trans d1
       have xA:∀o,(f.alloc o).cell? ⟨H,0,none⟩=some (.int .i64 (p:Int)):=fun o=>(cM (w:=f) (dg _ _ _ lx)).trans x1
       have o3:(f.alloc (.cells #[.int .i64 (p:Int)] 3)).drew.ownsRow a 3 1 (.slice oa C.length oc) C.length (C.map fG):=aD (ho.alloc (.cells #[.int .i64 (p:Int)] 3)) fun _ _=>rfl
       have KQ:aj (f.alloc (.cells #[.int .i64 (p:Int)] 3)).drew O rc.toArray 166:=(kG.alloc _).drew;have a0:(Value.slice oa C.length oc).ownBlock≠some O:=fun e=>(d.kv hx e).ne (show Kd f O 166 from ⟨_,kG⟩) (by decide) rfl
       have az:a<=(f.alloc (.cells #[.int .i64 (p:Int)] 3)).drew.heap.size:=de d.mx.size (bJ f _ none).size;have dG:rc[t*2+1]?=some (.slice oa C.length oc):=by rw[<-d1,kG.cell,ge]
       have H9:Hid (∀W v9,f.grownBy W (Value.slice oa C.length oc).ownBlock->W.ownsRow a 3 1 v9 (C++[p]).length ((C++[p]).map fG)->(v9.ownBlock=(Value.slice oa C.length oc).ownBlock\/∃k,v9.ownBlock=some k/\f.heap.size<=k)->∃c D,c.length=j+1/\dw w a a n A.length (W.setCell ⟨O,t*2+1,none⟩ v9) c D/\D.map (List.map iR)=Tb.oH C1 j p z (m+1)/\aj (W.setCell ⟨O,t*2+1,none⟩ v9) H #[.int .i64 (p:Int),.slice (some ⟨b,0,none⟩) z.length L] 170/\∀t x,Tb.at2 D j t=some x->x.2.1.length<=k*U+(m+1)):=fun W v9 an oG av=>by
        have hA:=d.app (p:=p) q hx an oG av;refine⟨ER,_,OJ,hA,by rw[AY.out,<-y];exact Tb.akP hx,?_,fun t' x' ab=>?_⟩
        ·have kx:Kd f H 170:=⟨_,G⟩
         exact(fV _ _ (kx.ne (show Kd f O 166 from ⟨_,kG⟩) (by decide))).trans ((an.block H lx fun e=>kx.ne (d.kv hx e.symm) (by decide) rfl).trans G)
        ·rw[Tb.Jl hx]at ab
         split at ab
         ·cases ab
          show (C++[p]).length<=_;rw[cH,gd];omega
         ·have:=Y t' x' ab
          omega
       have d0:(0:Int)<=(j:Int):=by omega
       have d2:(0:Int)<=(t:Int):=by omega
       have d3:(t:Int)<(n:Int):=by omega
       have a1:=ag.1;have a3:C.length<=10000000000000:=by
        have h1:=Z.1;have h2:k*U<=1000000*1000000:=pH (by omega) (by rw[am.out];exact zL0);omega
       clear d y OJ Y ho hx q kG G AY HT ht ap ag HS T;go_upto_region 13 with fail
       go_region_law (refine step_append_lies _ rfl (.tmp 55) (.tmp 58) 22 rfl a 3 i3 _ 1 8 underlying22 aw Ed Ee ai rfl (by decide) (.slice oa C.length oc) C.length (C.map fG) (by simp[Act.eval]) o3 ⟨f.heap.size,0,none⟩ 1 1 [.int .i64 (p:Int)] (by simp[Act.eval]) rfl (eO (aj.new f _ 3).drew) (by simp[Value.oneCell']) (by decide) (by unfold maxLen;omega) (by omega) az _ rfl ?_;intro g9 dI W nL jw mh Gm;have jC:=KQ.grown jw (fun e=>a0 e.symm);have c9:W.cell? ⟨O,t*2+1,none⟩=some (.slice oa C.length oc):=(by rw[jC.cell,ge];exact dG);have f9:=jC.frozen (t*2+1))
       all_goals
        have HN:Hid (∃c D,c.length=j+1/\dw w a a n A.length (W.setCell ⟨O,t*2+1,none⟩ (.slice (some ⟨g9,0,none⟩) (C.length+1) dI)) c D/\D.map (List.map iR)=Tb.oH C1 j p z (m+1)/\aj (W.setCell ⟨O,t*2+1,none⟩ (.slice (some ⟨g9,0,none⟩) (C.length+1) dI)) H #[.int .i64 (p:Int),.slice (some ⟨b,0,none⟩) z.length L] 170/\∀t x,Tb.at2 D j t=some x->x.2.1.length<=k*U+(m+1)):=H9.out W _ (aR (b:=(f.alloc (.cells #[.int .i64 (p:Int)] 3)).drew) ⟨rfl,rfl,rfl,(bJ f _ none).size,fun i hi _=>dg _ _ _ hi⟩ jw) (by rw[cH,eJ];exact nL) (by
         rcases mh with e|e
         ·exact .inl e.symm
         ·exact .inr ⟨g9,rfl,by rw[e];exact(bJ f _ none).size⟩)
        clear nL jw mh jC c9 f9 o3 KQ dA xA H9;go_wp2_with fail;exact⟨⟨m+1,by omega,by go_num,HN⟩,by simp[intOf];omega⟩
      ·obtain rfl:m=z.length:=by omega
       have HE:Hid (∃c D,c.length=j+1/\dw w a a n A.length f c D/\D.map (List.map iR)=Tb.oI C0 j l (k+1)/\∀t x,Tb.at2 D j t=some x->x.2.1.length<=(k+1)*U):=⟨ER,D3,OJ,d,by rw[T.out];exact y,fun t x hx=>by have:=Y t x hx;have:=Z.1;have:=am.out;rw[sg,tj];omega⟩;clear d OJ y G T HT Y;go_wp2_with fail;exact⟨⟨k+1,by omega,by go_num,HE⟩,by simp[intOf];omega⟩
    ·obtain rfl:k=l.length:=by omega
     have HE:Hid (∃c D,c.length=j+1/\dw w a a n A.length B c D/\D.map (List.map iR)=Tb.qM A n (j+1)):=⟨E,D2,P,d,by rw[HS.out];exact y⟩;clear d P y HS HX Y;go_wp2_with fail;exact⟨⟨j+1,by omega,by go_num,HE⟩,by simp[intOf];omega⟩
  ·obtain rfl:j=A.length:=by omega
   have H1:Hid (∃c D,c.length=A.length/\dw w a a n A.length wr c D/\D.map (List.map iR)=Tb.nY (Tb.qM A n A.length) es n 0):=⟨c,D,I,d,y⟩;have HC:Hid (Tb.choices A es n=Tb.nY (Tb.qM A n A.length) es n es.length):=rfl;clear d I y af HA hx;generalize Tb.qM A n A.length=C0 at H1 HC;go_wp2_with fail
   go_loopw [67] (fun i wr=>∃k:Nat,k<=es.length/\i=.int .i64 (k:Int)/\Hid (∃c D,c.length=A.length/\dw w a a n A.length wr c D/\D.map (List.map iR)=Tb.nY C0 es n k)) (fun i _=>es.length - (intOf i).toNat)
   case atStart=>exact⟨0,by omega,rfl,H1⟩
   case round=>
    clear H1;revert wr;intro B hrel;obtain⟨k,hk,rfl,S⟩:=hrel;obtain⟨E,D2,P,d,y⟩:=S.out;clear S
    by_cases hkn:k<es.length
    ·have k1:(k:Int)<(es.length:Int):=by omega
     obtain⟨x,hxk⟩:∃x,es[k]?=some x:=⟨_,cF hkn⟩;obtain⟨g,rfl,X,c2,c3⟩:=HE.out B d.mx.b k x hxk;have ad:=aq x (cJ hxk);have F:Tb.nY C0 es n (k+1)=if x.2.1<n then Tb.Cr (Tb.nY C0 es n k) x.1 x.2.1 x.2.2 else Tb.nY C0 es n k:=by rw[Tb.nY,hxk]
     obtain⟨y1,R,y3⟩:=x;simp only at X c2 c3 ad F;obtain⟨K,Q⟩:∃V,V=B.alloc (.cells #[.int .i64 (y1:Int),.int .i64 (R:Int),.int .i64 (y3:Int)] 173):=⟨_,rfl⟩;obtain⟨H,N⟩:∃b,B.heap.size=b:=⟨_,rfl⟩;have G:aj K H #[.int .i64 (y1:Int),.int .i64 (R:Int),.int .i64 (y3:Int)] 173:=by rw[Q,<-N];exact aj.new ..
     have u:dw w a a n A.length K E D2:=d.move (by rw[Q];exact(cV _ _).alloc (zL0) _);have x1:K.cell? ⟨H,0,none⟩=some (.int .i64 (y1:Int)):=G.cell 0;have x2:K.cell? ⟨H,1,none⟩=some (.int .i64 (R:Int)):=G.cell 1;have x3:K.cell? ⟨H,2,none⟩=some (.int .i64 (y3:Int)):=G.cell 2;clear d G HE
     by_cases hn:R<n
     ·have b1:decide ((R:Int)<(n:Int))=true:=fi (by omega)
      rw[dj hn]at F;obtain⟨O,q⟩:∃g,E[y1]?=some g:=⟨_,cF (by omega)⟩;obtain⟨x,hx⟩:=u.at (i:=y1) (t:=R) (by omega) hn;have o1:=u.mx.Cm q;obtain⟨o2,-⟩:=u.cells q hx;have o3:=u.mx.frozen q (R*2);have HN:Hid (∃c D,c.length=A.length/\dw w a a n A.length (K.setCell ⟨O,R*2,none⟩ (.int .i64 (y3:Int))).drew c D/\D.map (List.map iR)=Tb.nY C0 es n (k+1)):=⟨E,_,P,(u.shift q hx y3).move ⟨rfl,rfl,rfl,zL0,fun _ _=>rfl⟩,by rw[F,<-y];exact Tb.akQ hx⟩;have d0:(0:Int)<=(y1:Int):=by omega
      have d1:(y1:Int)<(A.length:Int):=by omega
      have d2:(0:Int)<=(R:Int):=by omega
      have d3:(R:Int)<(n:Int):=by omega
      clear u P y F hx q ad;go_upto_region 20 with fail
      rw[<-Q];clear Q N X c2 c3;go_upto_region 21 with fail
      go_region
      go_wp2_with fail;exact⟨⟨k+1,by omega,by go_num,HN⟩,by simp[intOf];omega⟩
     ·have b1:decide ((R:Int)<(n:Int))=false:=eE (by omega)
      rw[dt hn]at F;have HN:Hid (∃c D,c.length=A.length/\dw w a a n A.length K c D/\D.map (List.map iR)=Tb.nY C0 es n (k+1)):=⟨E,D2,P,u,by rw[F];exact y⟩;clear u P y F ad;go_upto_region 20 with fail
      rw[<-Q];clear Q N X c2 c3;go_wp2_with fail;exact⟨⟨k+1,by omega,by go_num,HN⟩,by simp[intOf];omega⟩
    ·obtain rfl:k=es.length:=by omega
     have HR:Hid (WN w (Tb.choices A es n) (.returned (.slice (some ⟨a,0,none⟩) A.length A.length)) B):=⟨_,rfl,by rw[HC.out,<-y];exact d.rows P,by rw[HG.out];exact d.mx.b,by rw[HC.out,<-y,HG.out];exact d.oH P⟩;clear d P y HC HE;go_wp2_with fail;go_ret;exact HR.out
def aZ.yF(c:aZ)(s:Nat×Nat):List (au×Nat):=(iO c.P c.f s.1 s.2 c.P.length).filter (EG c.P)
def aZ.end(x:au×Nat):Nat×Nat:=(x.2,x.1.1)
structure ng(S:bL)(dn:Nat->Nat×Nat->Prop)(K:List (Nat×Nat))(ss:List (List Nat)):Prop where
 nd:K.Nodup
 len:ss.length=K.length
 mem:∀e,e∈K↔∃i,dn i e
 has:∀(p:Nat)e t,K[p]?=some e->(bP (ss.getD p []) t=true↔∃i,dn i e/\bP (S.ss.getD i []) t=true)
def aZ.zS(c:aZ)(S:bL)(i:Nat)(e:Nat×Nat):Prop:=∃s x,S.st[i]?=some s/\x∈c.yF s/\e=aZ.end x
def LC(c:aZ)(W:World)(S:bL)(e:Ending)(W':World):Prop:=∃(gm:Nat)(vA:Value)(K:List (Nat×Nat))(gs:List Nat)(ss:List (List Nat)),e=.returned (.tuple #[.map (some gm),vA])/\Below W.heap.size W W'/\iy bE W' gm K/\W'.ownsRow W.heap.size 214 1 vA gs.length (gs.map (gX c.nw))/\(∀(i g:Nat),gs[i]?=some g->∃ws,ss[i]?=some ws/\TS W' g ws/\ws.length=c.nw)/\gs.length=K.length/\ng S (c.zS S) K ss
namespace Lx
def vG(K:List (Nat×Nat))(e:Nat×Nat):Option Nat:=if e∈K then some (K.idxOf e) else none
def fq(nw:Nat)(K:List (Nat×Nat))(ss:List (List Nat))(i:Nat):Nat->List (Nat×List Nat)
 |0=>[]
 |k+1=>fq nw K ss i k++(match vG K (i,k) with
  |some p=>[(k,jm (ss.getD p []) nw)]
  |none=>[])
theorem Sy(nw:Nat)(K:List (Nat×Nat))(ss:List (List Nat))(i:Nat):∀k,(fq nw K ss i k).length<=k
 |0=>zL0
 |k+1=>by
  have:=Sy nw K ss i k;rw[fq,cH]
  split <;> simp <;> omega
end Lx
theorem Tryz.ame:(prog.info? 168).map (fun i=>(i.zero,i.size,i.bytes))=some (some (.slice none 0 0),1,24):=by kernel_rfl
theorem Tryz.amf:(prog.info? 170).map (fun i=>(i.zero,i.size,i.bytes))=some (some (.agg #[.int .i64 0,.slice none 0 0]),2,32):=by kernel_rfl
theorem Tryz.am3:prog.underlying 168=some (.slice 170):=by kernel_rfl
theorem akR{n:Nat}(g:n<=100000)(w:World):(Instr.makeSlice 89 (.int .i64 (n:Int)) (.int .i64 (n:Int))).run prog w=.ok (.slice (some ⟨w.heap.size,0,none⟩) n n) (w.alloc (.cells (vA (List.replicate n (Value.slice none 0 0))) 168)):=by
 obtain⟨f,d,b,c,a⟩:=ft Tryz.ame;have h:=pA (P:=prog) w 89 168 f _ (by kernel_rfl) d b .i64 .i64 (n:Int) (n:Int) (by omega) (nF _) (by rw[a];omega) (by omega);rw[h,im,c];have e:Value.cells (.slice none 0 0)=#[.slice none 0 0]:=rfl;rw[e,RQ]
structure jN(w0:World)(B gO:Nat)(W:World)(vs:List Value)(D:List (List fT)):Prop where
 out:aj W gO vs.toArray 168
 len:D.length=vs.length
 row:∀(i:Nat)(v:Value)(l:List fT),vs[i]?=some v->D[i]?=some l->W.ownsRow B 170 2 v l.length (l.flatMap mZ)
 ent:∀(i:Nat)(l:List fT)(x:fT),D[i]?=some l->x∈l->W.ownsRow B 3 1 x.2.2 x.2.1.length (x.2.1.map fG)
 ne:∀(i j:Nat)(v v':Value),i≠j->vs[i]?=some v->vs[j]?=some v'->∀g,v.ownBlock=some g->v'.ownBlock≠some g
 no:B<=gO
 b:Below B w0 W
section
variable{w0 W W':World}{B gO:Nat}{vs:List Value}{D:List (List fT)}
theorem jN.size(h:jN w0 B gO W vs D):B<=W.heap.size:=de h.no (mi h.out.lt)
theorem jN.ko(h:jN w0 B gO W vs D):Kd W gO 168:=⟨_,h.out⟩
theorem jN.at(h:jN w0 B gO W vs D){i:Nat}{v:Value}(a:vs[i]?=some v):∃l,D[i]?=some l/\W.ownsRow B 170 2 v l.length (l.flatMap mZ):=by
 obtain⟨l,b⟩:∃l,D[i]?=some l:=⟨_,cF (by rw[h.len];exact(cG.1 a).1)⟩;exact⟨l,b,h.row i v l a b⟩
theorem jN.kv(h:jN w0 B gO W vs D){i g:Nat}{v:Value}(b:vs[i]?=some v)(a:v.ownBlock=some g):Kd W g 170:=by
 obtain⟨l,-,c⟩:=h.at b;exact gQ c a
theorem jN.move(h:jN w0 B gO W vs D)(a:Below W.heap.size W W'):jN w0 B gO W' vs D :=
 ⟨(a.block gO h.out.lt).trans h.out,h.len,fun i v l f c=>aD (h.row i v l f c) fun g d=>a.block g (h.kv f d).lt,fun i l x c j=>aD (h.ent i l x c j) fun g d=>a.block g ((h.ent i l x c j).lt g d).2,h.ne,h.no,h.b.trans (a.mono h.size)⟩
theorem jN.app(h:jN w0 B gO W vs D){i:Nat}{v q:Value}{l:List fT}{x:fT}(t:vs[i]?=some v)(J:D[i]?=some l)(o:W.grownBy W' v.ownBlock)(K:W'.ownsRow B 170 2 q (l++[x]).length ((l++[x]).flatMap mZ))(P:W.ownsRow B 3 1 x.2.2 x.2.1.length (x.2.1.map fG))(H:q.ownBlock=v.ownBlock\/∃k,q.ownBlock=some k/\W.heap.size<=k):jN w0 B gO (W'.setCell ⟨gO,i,none⟩ q) (vs.set i q) (D.set i (l++[x])):=by
 have kv:=h.row i v l t J;have C:aj W' gO vs.toArray 168:=(o.block gO h.out.lt fun e=>h.ko.ne (h.kv t e.symm) (by decide) rfl).trans h.out;have z:=(cG.1 t).1;have r:∀{u:Value}{n:Nat}{xs:List Value},W.ownsRow B 3 1 u n xs->(W'.setCell ⟨gO,i,none⟩ q).ownsRow B 3 1 u n xs:=fun A=>aD A fun g d=>by
  have I:Kd W g 3:=gQ A d;exact(fV _ _ (I.ne h.ko (by decide))).trans (o.block g I.lt fun e=>I.ne (h.kv t e.symm) (by decide) rfl)
 have L:∀{j g:Nat}{u:Value},i≠j->vs[j]?=some u->u.ownBlock=some g->q.ownBlock≠some g:=fun G a d e=>by
  rcases H with H|⟨k,F,N⟩
  ·exact h.ne _ _ _ _ G t a _ (H▸e) d
  ·rw[e]at F
   cases F;have:=(h.kv a d).lt;omega
 refine⟨?_,by simp[h.len],fun j u m a f=>?_,fun j m y f E=>?_,fun j k u M s a c g d=>?_,h.no,(h.b.grown o h.size fun k e=>(kv.lt k e).1).setCell (p:=⟨gO,i,none⟩) h.no _⟩
 ·have:=C.set i q
  rw[kf]at this;exact this
 ·rw[fx]at a f
  split at a
  ·rename_i e
   rw[dj e,dj (by rw[h.len];exact z)]at f
   try rw[dj z]at a
   cases a;cases f;exact aD K fun g d=>fV _ _ ((show Kd W' g 170 from gQ K d).ne ⟨_,C⟩ (by decide))
  ·rename_i e
   rw[dt e]at f;exact aD (h.row j u m a f) fun g d=>(fV _ _ ((h.kv a d).ne h.ko (by decide))).trans (o.block g (h.kv a d).lt fun F=>h.ne i j v u e t a g F.symm d)
 ·rw[fx]at f
  split at f
  ·try rw[dj (by rw[h.len];exact z)]at f
   cases f;rw[cY,cN]at E;rcases E with E|rfl
   ·exact r (h.ent i l y J E)
   ·exact r P
  ·exact r (h.ent j m y f E)
 ·rw[fx]at a c
  split at a
  ·rename_i e
   try rw[dj z]at a
   cases a;rw[dt (by rw[e];exact s)]at c;intro O;exact L (by rw[e];exact s) c O d
  ·rename_i e
   split at c
   ·try rw[dj z]at c
    cases c;exact L e a d
   ·exact h.ne j k u M s a c g d
theorem jN.rows(h:jN w0 B gO W vs D):qL W (.slice (some ⟨gO,0,none⟩) vs.length vs.length) (D.map (List.map iR)):=by
 refine⟨_,_,by rw[dk,h.len],fun i r b=>⟨gO,rfl,?_⟩⟩;rw[di]at b;cases hl:D[i]? with
 |none=>rw[hl]at b;cases b
 |some l=>
  rw[hl]at b;cases b;obtain⟨v,n⟩:∃v,vs[i]?=some v:=⟨_,cF (by rw[<-h.len];exact(cG.1 hl).1)⟩;have m:=h.row i v l n hl;obtain⟨a,c,rfl,-⟩:=aC m;refine⟨.slice a l.length c,by rw[j9,h.out.cell,ge,n],a,c,by rw[dk],fun k x d=>?_⟩;rw[di]at d;cases hy:l[k]? with
  |none=>rw[hy]at d;cases d
  |some y=>
   rw[hy]at d;cases d;obtain⟨j,o⟩:=NI _ _ _ hy;obtain⟨g,p,e,f⟩:=pQ m j;cases e;exact⟨g,rfl,f _ _ j,_,f _ _ o,bQ.own (h.ent i l y hl (cJ hy))⟩
end
structure jo(c:aZ)(W:World)(B:Nat)(W':World)(vA:Value)(K:List (Nat×Nat))(gs:List Nat)(ss:List (List Nat)):Prop where
 b:Below B W W'
 k1:aj W' B #[.pointer (some ⟨c.lb,0,none⟩)] 216
 kg:iy bE W' (B+1) K
 k4:aj W' (B+2) #[.map (some (B+1))] 223
 k5:aj W' (B+3) #[vA] 149
 row:W'.ownsRow (B+4) 214 1 vA gs.length (gs.map (gX c.nw))
 sets:∀(i g:Nat),gs[i]?=some g->B+4<=g/\∃ws,ss[i]?=some ws/\TS W' g ws/\ws.length=c.nw
 qj:gs.Nodup
 lg:gs.length=K.length
 ls:ss.length=K.length
def wu(B:Nat)(vA:Value)(gs:List Nat)(k:Nat):Prop:=(B<=k/\k<B+4)\/vA.ownBlock=some k\/k∈gs
structure oJ(B:Nat)(W:World)(vA:Value)(gs:List Nat)(W':World)(zT:Value)(gs':List Nat):Prop where
 bK:∀k,k<W.heap.size->¬wu B vA gs k->W'.heap[k]?=W.heap[k]?
 new:∀k,wu B zT gs' k->wu B vA gs k\/W.heap.size<=k
 bX:W.heap.size<=W'.heap.size
section
variable{c:aZ}{W W1 W2:World}{B:Nat}{vA Bn vA2:Value}{K:List (Nat×Nat)}{gs gs1 gs2:List Nat}{ss:List (List Nat)}
theorem oJ.refl(B:Nat)(W:World)(vA:Value)(gs:List Nat):oJ B W vA gs W vA gs:=⟨fun _ _ _=>rfl,fun _ h=>.inl h,zL0⟩
theorem oJ.trans(h:oJ B W vA gs W1 Bn gs1)(k:oJ B W1 Bn gs1 W2 vA2 gs2):oJ B W vA gs W2 vA2 gs2 where
 bK x hx hn:=(k.bK x (dd hx h.bX) fun e=>by
  rcases h.new x e with e|e
  ·exact hn e
  ·omega).trans (h.bK x hx hn)
 new x hx:=by
  rcases k.new x hx with e|e
  ·exact h.new x e
  ·exact .inr (de h.bX e)
 bX:=de h.bX k.bX
theorem oJ.below(a:Below W.heap.size W W1):oJ B W vA gs W1 vA gs:=⟨fun k b _=>a.block k b,fun _ h=>.inl h,a.size⟩
theorem jo.lt(h:jo c W B W1 vA K gs ss){k:Nat}(a:wu B vA gs k):k<W1.heap.size:=by
 rcases a with ⟨h1,h2⟩|a|a
 ·have:=h.k5.lt
  omega
 ·exact(h.row.lt k a).2
 ·obtain⟨i,b⟩:=eS.1 a
  obtain⟨-,f,-,d,-⟩:=h.sets i k b;exact d.blk.lt
theorem jo.kA(h:jo c W B W1 vA K gs ss){g:Nat}(a:vA.ownBlock=some g):Kd W1 g 214:=gQ h.row a
theorem jo.kG(h:jo c W B W1 vA K gs ss){g:Nat}(b:g∈gs):Kd W1 g 277:=by
 obtain⟨i,a⟩:=eS.1 b;obtain⟨-,f,-,d,-⟩:=h.sets i g a;exact⟨_,d.blk⟩
theorem jo.move(h:jo c W B W1 vA K gs ss)(a:∀k,k<W1.heap.size->wu B vA gs k->W2.heap[k]?=W1.heap[k]?)(b:Below B W W2):jo c W B W2 vA K gs ss:=by
 have h4:∀i,i<4->W2.heap[B+i]?=W1.heap[B+i]?:=fun i j=>a _ (by have:=h.k5.lt;omega) (.inl ⟨by omega,by omega⟩)
 exact⟨b,(h4 0 (by omega)).trans h.k1,h.kg.move (h4 1 (by omega)),(h4 2 (by omega)).trans h.k4,(h4 3 (by omega)).trans h.k5,aD h.row fun g hg=>a g (h.row.lt g hg).2 (.inr (.inl hg)),fun i g hg=>by
  obtain⟨h1,f,h2,h3,d⟩:=h.sets i g hg;exact⟨h1,f,h2,h3.move (a g h3.blk.lt (.inr (.inr (cJ hg)))),d⟩,h.qj,h.lg,h.ls⟩
theorem jo.below(h:jo c W B W1 vA K gs ss)(a:Below W1.heap.size W1 W2):jo c W B W2 vA K gs ss:=h.move (fun k d _=>a.block k d) (h.b.trans (a.mono (mi h.k1.lt)))
theorem jo.join(h:jo c W B W1 vA K gs ss){p g:Nat}{ws:List Nat}(hg:gs[p]?=some g)(r:ws.length=c.nw)(f:TP W1 g ws W2):jo c W B W2 vA K gs (ss.set p ws)/\oJ B W1 vA gs W2 vA gs:=by
 have d:=cJ hg;obtain⟨u,-⟩:=h.sets p g hg;have ne:∀k,k<W1.heap.size->k≠g->W2.heap[k]?=W1.heap[k]?:=fun k a l=>f.gr.block k a fun e=>l (by cases e;rfl)
 have h4:∀i,i<4->W2.heap[B+i]?=W1.heap[B+i]?:=fun i s=>ne _ (by have:=h.k5.lt;omega) (by omega)
 refine⟨⟨h.b.grown f.gr (mi h.k1.lt) (fun k e=>by cases e;omega),(h4 0 (by omega)).trans h.k1,h.kg.move (h4 1 (by omega)),(h4 2 (by omega)).trans h.k4,(h4 3 (by omega)).trans h.k5,aD h.row fun k a=>ne k (h.row.lt k a).2 ((h.kA a).ne (h.kG d) (by decide)),fun i k a=>?_,h.qj,h.lg,by rw[ii];exact h.ls⟩,fun k a l=>ne k a fun e=>l (by rw[e];exact .inr (.inr d)),fun _ e=>.inl e,f.gr.size⟩;obtain⟨h1,j,h2,h3,q⟩:=h.sets i k a
 by_cases e:p=i
 ·subst e
  rw[hg]at a;cases a;exact⟨h1,ws,by rw[fx,dj rfl,dj (ig h2)],f.ts,r⟩
 ·exact⟨h1,j,by rw[fx,dt e];exact h2,h3.move (ne k h3.blk.lt fun n=>e (by
   subst n;obtain⟨v,m⟩:=cG.1 hg;obtain⟨t,o⟩:=cG.1 a;exact(lP h.qj).1 (m.trans o.symm))),q⟩
theorem jo.put(h:jo c W B W1 vA K gs ss){e:Nat×Nat}{g:Nat}{v:Value}{w3:World}(n:W1.grownBy W2 (some (B+1)))(x:iy bE W2 (B+1) (K++[e]))(r:W1.heap.size<=g)(A:TS W2 g (List.replicate c.nw 0))(d:W2.grownBy w3 vA.ownBlock)(D:w3.ownsRow (B+4) 214 1 v (gs++[g]).length ((gs++[g]).map (gX c.nw)))(m:v.ownBlock=vA.ownBlock\/∃k,v.ownBlock=some k/\W2.heap.size<=k):jo c W B (w3.setCell ⟨B+3,0,none⟩ v) v (K++[e]) (gs++[g]) (ss++[List.replicate c.nw 0])/\oJ B W1 vA gs (w3.setCell ⟨B+3,0,none⟩ v) v (gs++[g]):=by
 have L:B+3<W1.heap.size:=h.k5.lt;have s:∀k,k<W1.heap.size->k≠B+1->W2.heap[k]?=W1.heap[k]?:=fun k hk j=>n.block k hk fun e=>j (by cases e;rfl)
 have O:∀k,vA.ownBlock=some k->Kd W2 k 214:=fun k hk=>by
  obtain⟨z,G⟩:=h.kA hk;have:=(h.row.lt k hk).1;exact⟨z,(s k (h.row.lt k hk).2 (by omega)).trans G⟩
 have q:∀k,k<W2.heap.size->vA.ownBlock≠some k->w3.heap[k]?=W2.heap[k]?:=fun k hk j=>d.block k hk fun e=>j e.symm
 have f:∀k,k<B+4->vA.ownBlock≠some k:=fun k hk e=>by have:=(h.row.lt k e).1;omega
 have o:W1.heap.size<=W2.heap.size:=n.size;have l:W2.heap.size<=w3.heap.size:=d.size;have p:∀k,k≠B+3->(w3.setCell ⟨B+3,0,none⟩ v).heap[k]?=w3.heap[k]?:=fun k hk=>fV _ _ hk
 have all:∀k,k<W1.heap.size->k≠B+1->k≠B+3->vA.ownBlock≠some k->(w3.setCell ⟨B+3,0,none⟩ v).heap[k]?=W1.heap[k]?:=fun k hk h1 h3 m=>(p k h3).trans ((q k (by omega) m).trans (s k hk h1))
 have y:g<W2.heap.size:=A.blk.lt;have La:vA.ownBlock≠some g:=fun e=>by have:=(h.row.lt g e).2;omega
 refine⟨⟨⟨d.1.trans (n.1.trans h.b.1),d.2.trans (n.2.trans h.b.2),d.3.trans (n.3.trans h.b.3),by simpa using de h.b.4 (de o l),fun k hk=>(all k (by omega) (by omega) (by omega) (f k (by omega))).trans (h.b.block k hk)⟩,(all B (by omega) (by omega) (by omega) (f B (by omega))).trans h.k1,x.move ((p _ (by omega)).trans (q _ (by omega) (f _ (by omega)))),(all (B+2) (by omega) (by omega) (by omega) (f _ (by omega))).trans h.k4,?_,?_,fun i k hk=>?_,?_,by simp[h.lg],by simp[h.ls]⟩,fun k hk j=>all k hk (fun e=>j (by rw[e];exact .inl ⟨by omega,by omega⟩)) (fun e=>j (by rw[e];exact .inl ⟨by omega,by omega⟩)) (fun e=>j (.inr (.inl e))),fun k hk=>?_,by simpa using de o l⟩
 ·have k5:aj w3 (B+3) #[vA] 149:=(q _ (by omega) (f _ (by omega))).trans ((s _ L (by omega)).trans h.k5)
  exact k5.set 0 v
 ·exact aD D fun k hk=>p k fun e=>by have:=(D.lt k hk).1;omega
 ·rw[ir]at hk
  split at hk
  ·rename_i I
   obtain⟨h1,J,h2,h3,H⟩:=h.sets i k hk;refine⟨h1,J,by rw[eL (ig h2)];exact h2,h3.move (all k h3.blk.lt (by omega) (by omega) fun e=>(h.kA e).ne (h.kG (cJ hk)) (by decide) rfl),H⟩
  ·rename_i I
   have t:i-gs.length=0:=by
    have:=(cG.1 hk).1;simp at this;omega
   rw[t]at hk;cases hk;have u:i=gs.length:=by omega
   refine⟨by omega,_,by rw[u,h.lg,<-h.ls];simp,A.move ((p _ (by omega)).trans (q _ y La)),ik ..⟩
 ·rw[ip]
  exact⟨h.qj,by simp,fun a F b C=>by
   rw[cN]at C;rw[C];rintro rfl;have:=h.lt (.inr (.inr F));omega⟩
 ·rcases hk with hk | hk | hk
  ·exact .inl (.inl hk)
  ·rcases m with m | ⟨M,E,N⟩
   ·exact .inl (.inr (.inl (m▸hk)))
   ·rw[hk]at E
    cases E;exact .inr (by omega)
  ·rw[cY,cN]at hk
   rcases hk with hk|rfl
   ·exact .inl (.inr (.inr hk))
   ·exact .inr r
end
section
variable{c:aZ}{S:bL}{dn dn':Nat -> Nat×Nat -> Prop}{K:List (Nat×Nat)}{ss:List (List Nat)}{j p nw:Nat}{e:Nat×Nat}
theorem ng.ext(h:ng S dn K ss)(hd:∀q f,dn q f↔dn' q f):ng S dn' K ss :=
 ⟨h.nd,h.len,fun f=>by rw[h.mem];exact⟨fun⟨i,k⟩=>⟨i,(hd i f).1 k⟩,fun⟨i,k⟩=>⟨i,(hd i f).2 k⟩⟩,fun q f t a=>by rw[h.has q f t a];exact⟨fun⟨i,k,l⟩=>⟨i,(hd i f).1 k,l⟩,fun⟨i,k,l⟩=>⟨i,(hd i f).2 k,l⟩⟩⟩
theorem ng.hit(h:ng S dn K ss)(hp:K[p]?=some e)(g:(S.ss.getD j []).length=(ss.getD p []).length):ng S (fun q f=>dn q f\/(q=j/\f=e)) K (ss.set p (dL (ss.getD p []) (S.ss.getD j []))):=by
 refine⟨h.nd,by rw[ii];exact h.len,fun f=>?_,fun q f t a=>?_⟩
 ·rw[h.mem]
  constructor
  ·rintro⟨i,k⟩
   exact⟨i,.inl k⟩
  ·rintro⟨i,k | ⟨-,rfl⟩⟩
   ·exact⟨i,k⟩
   ·exact(h.mem _).1 (cJ hp)
 ·have b:p<ss.length:=by rw[h.len];exact ig hp
  rw[ej,fx]
  by_cases e1:p=q
  ·subst e1
   rw[hp]at a;cases a;rw[dj rfl,dj b,od,RL g,n7,h.has p e t hp];constructor
   ·rintro(⟨i,k,l⟩ | k)
    ·exact⟨i,.inl k,l⟩
    ·exact⟨j,.inr ⟨rfl,rfl⟩,k⟩
   ·rintro⟨i,k | ⟨rfl,-⟩,l⟩
    ·exact .inl ⟨i,k,l⟩
    ·exact .inr l
  ·rw[dt e1,<-ej,h.has q f t a]
   constructor
   ·rintro⟨i,k,l⟩
    exact⟨i,.inl k,l⟩
   ·rintro⟨i,k | ⟨-,rfl⟩,l⟩
    ·exact⟨i,k,l⟩
    ·obtain⟨o,d⟩:=cG.1 hp
     obtain⟨n,m⟩:=cG.1 a;exact absurd ((lP h.nd).1 (d.trans m.symm)) e1
theorem ng.miss(h:ng S dn K ss)(d:e∉K)(u:(S.ss.getD j []).length=nw):ng S (fun q f=>dn q f\/(q=j/\f=e)) (K++[e]) ((ss++[List.replicate nw 0]).set K.length (dL ((ss++[List.replicate nw 0]).getD K.length []) (S.ss.getD j []))):=by
 have s:(ss++[List.replicate nw 0]).getD K.length []=List.replicate nw 0:=by rw[ej,<-h.len];simp
 have g:∀t,bP (List.replicate nw 0) t=false:=fun t=>by
  unfold bP;rw[ej,jn]
  split <;> simp
 have m:∀i,¬dn i e:=fun i k=>d ((h.mem e).2 ⟨i,k⟩)
 rw[s];refine⟨?_,by simp[h.len],fun f=>?_,fun q f t hq=>?_⟩
 ·rw[ip]
  exact⟨h.nd,by simp,fun a r b n=>by rw[cN]at n;rw[n];rintro rfl;exact d r⟩
 ·rw[cY,cN,h.mem]
  constructor
  ·rintro(⟨i,k⟩ | rfl)
   ·exact⟨i,.inl k⟩
   ·exact⟨j,.inr ⟨rfl,rfl⟩⟩
  ·rintro⟨i,k | ⟨-,rfl⟩⟩
   ·exact .inl ⟨i,k⟩
   ·exact .inr rfl
 ·rw[ej,fx]
  rw[ir]at hq
  by_cases e1:K.length=q
  ·subst e1
   rw[dt (by omega),ib]at hq;cases hq;rw[dj rfl,dj (by simp[h.len]),od,RL (by rw[u,ik]),g,ye];constructor
   ·intro k
    exact⟨j,.inr ⟨rfl,rfl⟩,k⟩
   ·rintro⟨i,k | ⟨rfl,-⟩,l⟩
    ·exact absurd k (m i)
    ·exact l
  ·rw[dt e1]
   split at hq
   ·rename_i o
    rw[eL (by rw[h.len];exact o),<-ej,h.has q f t hq];constructor
    ·rintro⟨i,k,l⟩
     exact⟨i,.inl k,l⟩
    ·rintro⟨i,k | ⟨-,rfl⟩,l⟩
     ·exact⟨i,k,l⟩
     ·exact absurd (cJ hq) d
   ·rename_i o
    have:=ig hq;simp at this;omega
def aZ.qO(c:aZ)(S:bL)(j i q:Nat)(f:Nat×Nat):Prop:=(q<j/\c.zS S q f)\/(q=j/\∃s x,S.st[j]?=some s/\x∈(c.yF s).take i/\f=aZ.end x)
theorem akS{f:Nat×Nat}{q:Nat}:c.qO S 0 0 q f↔False:=by
 unfold aZ.qO;constructor
 ·rintro(⟨h,-⟩ | ⟨-,s,x,-,h,-⟩)
  ·omega
  ·cases h
 ·exact False.elim
theorem abE{s:Nat×Nat}{x:au×Nat}{i:Nat}(d:S.st[j]?=some s)(l:(c.yF s)[i]?=some x)(q:Nat)(f:Nat×Nat):(c.qO S j i q f\/(q=j/\f=aZ.end x))↔c.qO S j (i+1) q f:=by
 unfold aZ.qO;have g:(c.yF s).take (i+1)=(c.yF s).take i++[x]:=by rw[pi,l];rfl
 constructor
 ·rintro((h | ⟨rfl,k,y,a,b,rfl⟩) | ⟨rfl,rfl⟩)
  ·exact .inl h
  ·rw[d]at a
   cases a;exact .inr ⟨rfl,s,y,d,by rw[g,cY];exact .inl b,rfl⟩
  ·exact .inr ⟨rfl,s,x,d,by rw[g];simp,rfl⟩
 ·rintro(h | ⟨rfl,k,y,a,b,rfl⟩)
  ·exact .inl (.inl h)
  ·rw[d]at a
   cases a;rw[g,cY,cN]at b;rcases b with b|rfl
   ·exact .inl (.inr ⟨rfl,s,y,d,b,rfl⟩)
   ·exact .inr ⟨rfl,rfl⟩
theorem akT{s:Nat×Nat}(d:S.st[j]?=some s)(q:Nat)(f:Nat×Nat):c.qO S j (c.yF s).length q f↔c.qO S (j+1) 0 q f:=by
 unfold aZ.qO;constructor
 ·rintro(⟨h,k⟩ | ⟨rfl,g,y,a,b,rfl⟩)
  ·exact .inl ⟨by omega,k⟩
  ·rw[d]at a
   cases a;rw[fR]at b;exact .inl ⟨by omega,s,y,d,b,rfl⟩
 ·rintro(⟨h,k⟩ | ⟨-,g,y,-,b,-⟩)
  ·by_cases e:q=j
   ·subst e
    obtain⟨g,y,a,b,rfl⟩:=k;rw[d]at a;cases a;exact .inr ⟨rfl,s,y,d,by rw[fR];exact b,rfl⟩
   ·exact .inl ⟨by omega,k⟩
  ·cases b
theorem amg{q:Nat}{f:Nat×Nat}:c.qO S S.st.length 0 q f↔c.zS S q f:=by
 unfold aZ.qO;constructor
 ·rintro(⟨-,k⟩ | ⟨-,b,y,-,a,-⟩)
  ·exact k
  ·cases a
 ·rintro⟨s,x,h1,h2,rfl⟩
  exact .inl ⟨ig h1,s,x,h1,h2,rfl⟩
end
section
variable{w:World}{B pb:Nat}{v:gG}{p:Pk.T}
theorem abF(h:aT w B pb v p){q s:Nat}(hq:q<p.aB.length)(hz:p.aB.getD q 0+s<=1000000000):Calls prog 33 #[.pointer (some ⟨pb,0,none⟩),.int .i64 (q:Int),.int .i64 (s:Int)] w fun e w'=>e=.returned (.agg #[.int .i64 ((Pk.cell p q s).1:Int),.int .i64 ((Pk.cell p q s).2:Int)])/\Below w.heap.size w w':=by
  obtain⟨z,WO⟩:∃z,p.aB[q]?=some z:=⟨_,cF hq⟩;have ez:p.aB.getD q 0=z:=by simp[WO]
  unfold Pk.cell;rw[ez]at hz|-;obtain⟨x,hx⟩:∃x,Pk.BK p (z+s)=x:=⟨_,rfl⟩;obtain⟨w1,y⟩:∃V,V=w.alloc (.cells #[.int .i64 0,.int .i64 0] 42):=⟨_,rfl⟩;have c:Below w.heap.size w w1:=by rw[y];exact(cV _ _).alloc (zL0) _
  have kR:aj w1 w.heap.size #[.int .i64 0,.int .i64 0] 42:=by rw[y];exact aj.new ..
  have h1:aT w1 B pb v p:=h.move fun k A=>c.block k (h.lt A)
  obtain⟨Y,cB,H,-,cz⟩:=Nw h1.rB (p:=q) (u:=fG z) (by rw[di,WO];rfl);obtain⟨X,W,AU,-⟩:=aC h1.rP;have c0:w1.cell? ⟨pb,0,none⟩=some (.slice (some ⟨Y,0,none⟩) p.aB.length cB):=by rw[<-H];exact h1.blk.cell 0
  have c1:w1.cell? ⟨pb,1,none⟩=some (.slice X p.ak.length W):=by rw[<-AU];exact h1.blk.cell 1
  unfold fG at cz;have L:Hid (∀J,Below w.heap.size w J->Calls prog 59 #[.slice X p.ak.length W,.int .i64 ((z:Int)+(s:Int))] J fun e w'=>e=.returned (.agg #[.int .i64 (x.1:Int),.int .i64 (x.2.1:Int),.int .i64 (x.2.2:Int)])/\Below J.heap.size J w'):=fun J i=>by
    have:=ahO (h.move (W':=J) fun k A=>i.block k (h.lt A)) (z+s);rw[hx,AU,px]at this;exact this
  rw[hx];obtain⟨o,Z⟩:∃o:Nat×Nat,(if x.2.2=q then (x.1,x.2.1) else (0,0))=o:=⟨_,rfl⟩;rw[Z];have P:Hid (o=if x.2.2=q then (x.1,x.2.1) else (0,0)):=Z.symm;clear Z;have N:pb<w1.heap.size:=h1.blk.lt;have ab:Y<w1.heap.size:=(h1.rB.lt Y (by rw[H];rfl)).2;have R:∀o(g j:Nat)u,g<w1.heap.size->w1.cell? ⟨g,j,none⟩=some u->(w1.alloc o).cell? ⟨g,j,none⟩=some u:=fun o g j u hg e=>(cM (w:=w1) (dg _ _ _ hg)).trans e
  have d0:=fun o=>R o _ _ _ N c0
  have d1:=fun o=>R o _ _ _ N c1
  have dz:=fun o=>R o _ _ _ ab cz
  clear R;have O:w1.heap.size=w.heap.size+1:=by rw[y];simp
  obtain⟨d,t⟩:∃r,w.heap.size=r:=⟨_,rfl⟩;obtain⟨f,M⟩:∃r,w1.heap.size=r:=⟨_,rfl⟩;have Q:Hid (Below d w (w1.alloc (.cells #[.int .i64 0,.int .i64 0,.int .i64 0] 138)).drew/\∀w2,Below (w1.alloc (.cells #[.int .i64 0,.int .i64 0,.int .i64 0] 138)).drew.heap.size (w1.alloc (.cells #[.int .i64 0,.int .i64 0,.int .i64 0] 138)).drew w2->aj w2 f #[.int .i64 0,.int .i64 0,.int .i64 0] 138/\aj w2 d #[.int .i64 0,.int .i64 0] 42/\Below d w w2):=by
    have K:Below d w (w1.alloc (.cells #[.int .i64 0,.int .i64 0,.int .i64 0] 138)).drew:=by
      rw[t]at c;have:=c.alloc (by omega) (.cells #[.int .i64 0,.int .i64 0,.int .i64 0] 138);exact⟨this.1,this.2,this.3,this.4,this.5⟩
    have l:aj (w1.alloc (.cells #[.int .i64 0,.int .i64 0,.int .i64 0] 138)).drew f #[.int .i64 0,.int .i64 0,.int .i64 0] 138:=by rw[<-M];exact(aj.new ..).drew
    have kr:aj (w1.alloc (.cells #[.int .i64 0,.int .i64 0,.int .i64 0] 138)).drew d #[.int .i64 0,.int .i64 0] 42:=by rw[<-t];exact(kR.alloc _).drew
    refine⟨K,fun w2 i=>⟨(i.block _ l.lt).trans l,(i.block _ kr.lt).trans kr,i.1.trans K.1,i.2.trans K.2,i.3.trans K.3,de K.4 i.4,fun k A=>(i.block k (yz A kr.lt)).trans (K.block k A)⟩⟩
  have S:Hid (Below d w w1.drew/\∀w2,Below w1.drew.heap.size w1.drew w2->aj w2 d #[.int .i64 0,.int .i64 0] 42/\Below d w w2/\d<w2.heap.size):=by
    rw[t]at c kR;refine⟨⟨c.1,c.2,c.3,c.4,c.5⟩,fun w2 i=>?_⟩;have kr:aj w2 d #[.int .i64 0,.int .i64 0] 42:=(i.block d kR.lt).trans kR;exact⟨kr,⟨i.1.trans c.1,i.2.trans c.2,i.3.trans c.3,de c.4 i.4,fun k A=>(i.block k (yz A kR.lt)).trans (c.block k A)⟩,kr.lt⟩
  rw[t]at L|-;have q0:(0:Int)<=(q:Int):=by omega
  have q1:(q:Int)<(p.aB.length:Int):=by omega
  have ew:IntKind.i64.wrap ((z:Int)+(s:Int))=(z:Int)+(s:Int):=by rw[iz];omega
  have HZ:Hid (w1.heap.size=w.heap.size+1):=O;clear h h1 c kR H AU WO ez hx O;go_enter func33,ntmps33;go_upto_region 1 with fail
  rw[<-y];clear y
  go_region_law (first
    | (refine jW rfl 59 #[.slice X p.ak.length W,.int .i64 ((z:Int)+(s:Int))] (by go_simp) (L.out _ Q.out.1) ?_;rintro e w2⟨rfl,m⟩;refine⟨_,rfl,?_⟩;clear L;obtain⟨l,kr,C⟩:=Q.out.2 w2 m;clear Q S m;have t0:w2.cell? ⟨f,0,none⟩=some (.int .i64 0):=l.cell 0;have t1:w2.cell? ⟨f,1,none⟩=some (.int .i64 0):=l.cell 1;have t2:w2.cell? ⟨f,2,none⟩=some (.int .i64 0):=l.cell 2;have f0:=l.frozen 0;have f1:=l.frozen 1;have f2:=l.frozen 2)
    | (refine jW rfl 59 #[.slice X p.ak.length W,.int .i64 ((z:Int)+(s:Int))] (by go_simp) (L.out _ S.out.1) ?_;rintro e w2⟨rfl,m⟩;refine⟨_,rfl,?_⟩;clear L;obtain⟨kr,C,G⟩:=S.out.2 w2 m;clear Q S m))
  all_goals
    first
      | (have aa:=G
         have I:aj (w2.alloc (.cells #[.int .i64 (x.1:Int),.int .i64 (x.2.1:Int),.int .i64 (x.2.2:Int)] 138)) w2.heap.size #[.int .i64 (x.1:Int),.int .i64 (x.2.1:Int),.int .i64 (x.2.2:Int)] 138:=aj.new ..;have E:=kr.alloc (.cells #[.int .i64 (x.1:Int),.int .i64 (x.2.1:Int),.int .i64 (x.2.2:Int)] 138);have n:=C.alloc (mi G) (.cells #[.int .i64 (x.1:Int),.int .i64 (x.2.1:Int),.int .i64 (x.2.2:Int)] 138);generalize w2.alloc (.cells #[.int .i64 (x.1:Int),.int .i64 (x.2.1:Int),.int .i64 (x.2.2:Int)] 138)=w3 at I E n|-;clear aa G)
      | (have I:aj (((w2.setCell ⟨f,0,none⟩ (.int .i64 (x.1:Int))).setCell ⟨f,1,none⟩ (.int .i64 (x.2.1:Int))).setCell ⟨f,2,none⟩ (.int .i64 (x.2.2:Int))) f #[.int .i64 (x.1:Int),.int .i64 (x.2.1:Int),.int .i64 (x.2.2:Int)] 138:=((l.set 0 _).set 1 _).set 2 _
         have F:f≠d:=fun e=>by rw[e]at l;unfold aj at l kr;rw[l]at kr;cases kr
         have E:aj (((w2.setCell ⟨f,0,none⟩ (.int .i64 (x.1:Int))).setCell ⟨f,1,none⟩ (.int .i64 (x.2.1:Int))).setCell ⟨f,2,none⟩ (.int .i64 (x.2.2:Int))) d #[.int .i64 0,.int .i64 0] 42:=((kr.other F _).other F _).other F _;have D:d<=f:=by have:=M;have:=t;have:=HZ.out;omega
         have n:Below d w (((w2.setCell ⟨f,0,none⟩ (.int .i64 (x.1:Int))).setCell ⟨f,1,none⟩ (.int .i64 (x.2.1:Int))).setCell ⟨f,2,none⟩ (.int .i64 (x.2.2:Int))):=Bv (Bv (Bv C D) D) D;generalize ((w2.setCell ⟨f,0,none⟩ (.int .i64 (x.1:Int))).setCell ⟨f,1,none⟩ (.int .i64 (x.2.1:Int))).setCell ⟨f,2,none⟩ (.int .i64 (x.2.2:Int))=w3 at I E n|-;clear F D t0 t1 t2 f0 f1 f2 l)
    have y0:w3.cell? ⟨_,0,none⟩=some (.int .i64 (x.1:Int)):=I.cell 0;have y1:w3.cell? ⟨_,1,none⟩=some (.int .i64 (x.2.1:Int)):=I.cell 1;have y2:w3.cell? ⟨_,2,none⟩=some (.int .i64 (x.2.2:Int)):=I.cell 2;have r0:w3.cell? ⟨d,0,none⟩=some (.int .i64 0):=E.cell 0;have r1:w3.cell? ⟨d,1,none⟩=some (.int .i64 0):=E.cell 1;have g0:=E.frozen 0;have g1:=E.frozen 1;have U:Hid (∀a b:Value,aj ((w3.setCell ⟨d,0,none⟩ a).setCell ⟨d,1,none⟩ b) d #[a,b] 42/\Below d w ((w3.setCell ⟨d,0,none⟩ a).setCell ⟨d,1,none⟩ b)):=fun a b=>⟨(E.set 0 a).set 1 b,Bv (Bv n (zL0)) (zL0)⟩
    clear I E n kr C d0 d1 dz c0 c1 cz
    by_cases Qc:x.2.2=q
    · have b1:((x.2.2:Int) == (q:Int))=true:=by rw[Qc];exact beq_self_eq_true _
      rw[dj Qc]at P;clear Qc;go_wp2_with fail;exact pR rfl rfl (U.out _ _).1 (by kernel_rfl) (by kernel_rfl) ⟨by rw[P.out],(U.out _ _).2⟩
    · have b1:((x.2.2:Int) == (q:Int))=false:=zB0 (by omega)
      rw[dt Qc]at P;go_wp2_with fail;exact pR rfl rfl (U.out _ _).1 (by kernel_rfl) (by kernel_rfl) ⟨by rw[P.out];rfl,(U.out _ _).2⟩
end

import Derived.Test.YtfpjphhnjegnjaaGreatDoorCL07
import Derived.Lib.ItoaMem
import Derived.Shelf.Strconv.AppendIntPublic10
import Derived.Shelf.SlSortCmp.WholeK
import Derived.Shelf.SlGeneric
import Derived.Ground.NamesProg
import Derived.Ground.SlsfProg
import Derived.Test.YtfpjphhnjegnjaaGreatDoorProg
import Derived.Lib.ItoaLen
import Derived.Lib.Slices
import Derived.Lib.Hide
import Derived.Laws.IdiomStrings
set_option maxHeartbeats 8000000
set_option maxRecDepth 1000000
namespace Go.Proofs.YtfpjphhnjegnjaaGreatDoor
open Lx Go.Proofs.Tryz
open Go.RowKit Tr
open Go.Value renaming slice→ς,int→ι,string→τ,pointer→π,bool→μ,agg→γ,tuple→θ
open Go.IntKind renaming i64→ξ
open Option renaming none→ν,some→ο
open Go.Ending renaming returned→δ
open Go.Obj renaming cells→ζ
open Bool renaming true→η,false→ε
open Go renaming World→ω,Value→υ,Calls→χ
open Go.RowKit renaming Below→φ
open List renaming replicate→ψ
variable{B B' NM a a0 b bc d e i j k kc n nN nT nb nc nk sz t tc u z:Nat}{K:List au}{P:List Pd}{ba ka na ta:Option Addr}{cs:Array υ}{ks:List (List au)}{l:List (Nat×Nat)}{s:Nat×Nat}{v vB vK vP:υ}{w w':ω}{x y:List Nat}
namespace Lx
structure nO(P:List Pd)(sz st:Nat):Prop where
 len:P.length<=200
 pos:0<P.length
 rgt:∀p∈P,p.right.length<=2002
 sym:∀p∈P,∀s∈p.right,s<sz/\s≠st
 lft:∀p∈P,p.left<sz
 fst:P[0]?.map Pd.left=ο st
 szm:sz<=100000
theorem Uh{s:au}(h:eF P s=ο n):s.1<P.length/\s.2<(bW P s.1).length:=by
 unfold eF at h;have h2:=(cH.1 h).1;refine⟨?_,h2⟩;apply jt;intro a;unfold bW at h2;rw[kf (by omega)]at h2;simp at h2
theorem Og{st:Nat}(hp:nO P sz st){s:au}(h:eF P s=ο n):n<sz/\n≠st:=by
 have h1:=(Uh h).1;unfold eF bW at h;rw[cG h1]at h;exact hp.sym _ (eJ h1) n (cM h)
theorem abV{st:Nat}(hp:nO P sz st)(k:Nat):(bW P k).length<=2002:=by
 unfold bW;cases h:P[k]? with
 |none=>simp
 |some p=>exact hp.rgt p (cM h)
theorem nO.aeI{st:Nat}(hp:nO P sz st):Pq P st:=fun _ _ h=>(Og hp h).2
structure eX(P:List Pd)(i:Nat)(K:List au):Prop where
 Bn:∀s∈K,s.1<P.length/\s.2<=(bW P s.1).length/\(s.2=0->s.1=0)
 len:K.length<=1+i*200
theorem abW{P:List Pd}{n:Nat}:∀(C o:List au),(C.foldl (zx P n) o).length<=o.length+C.length
 | [],o=>by simp
 |s::C,o=>by
  rw[si];have h1:=abW (P:=P) (n:=n) C (zx P n o s);have h2:=akb (P:=P) (n:=n) (o:=o) (s:=s);simp only[List.length_cons];omega
theorem eX.jh{P:List Pd}{sz st:Nat}(hp:nO P sz st){i:Nat}{K:List au}(h:eX P i K)(n:Nat){j:Nat}(b:i<j):eX P j (Lx.jh P K n):=by
 refine⟨fun s a=>?_,?_⟩
 ·obtain⟨t,-,h1,rfl⟩:=F7.1 a
  obtain⟨h2,h3⟩:=Uh h1;exact⟨h2,h3,fun e=>absurd e (Nat.succ_ne_zero _)⟩
 ·have h1:=abW (P:=P) (n:=n) (jL P K) []
  have h2:=alu P K;have h3:=h.len;have h4:=hp.len;have:(Lx.jh P K n).length<=[].length+(jL P K).length:=h1;simp only[List.length_nil]at this;omega
theorem eX.zero{st:Nat}(hp:nO P sz st)(h:eX P i K):∀s∈K,s.2=0->P[s.1]?.map Pd.left=ο st:=fun s a e=>by rw[(h.Bn s a).2.2 e];exact hp.fst
theorem eX.first{st:Nat}(hp:nO P sz st):eX P 0 [(0,0)]:=by
 refine⟨fun s a=>?_,by simp⟩;rw[dd]at a;subst a;exact⟨hp.pos,fi _,fun _=>rfl⟩
def sM(P:List Pd)(S:bI):Prop:=∀j K,S.ks[j]?=ο K->eX P j K
theorem sM.first{P:List Pd}{sz st:Nat}(hp:nO P sz st):sM P ⟨[[(0,0)]],[]⟩:=by
 intro j K h;cases j with
 |zero=>cases h;exact eX.first hp
 |succ j=>simp at h
theorem sM.edge{P:List Pd}{sz st:Nat}(hp:nO P sz st){S:bI}(h:sM P S){i:Nat}{K:List au}(c:S.ks[i]?=ο K)(n:Nat):sM P (Lx.edge P i K S n):=by
 unfold Lx.edge
 split
 ·exact h
 ·split
  ·exact h
  ·intro j g a
   rw[kh]at a
   split at a
   ·exact h j g a
   ·rename_i d
    have f:=(cH.1 c).1;have b:j=S.ks.length:=by
     have:=(cH.1 a).1;simp at this;omega
    subst b;simp at a;subst a;exact(h i K c).jh hp n f
theorem abX{S:bI}{b:List au}(h:S.ks[j]?=ο b):(edge P i K S n).ks[j]?=ο b:=by
 obtain⟨a,c⟩:=aiR (P:=P) (i:=i) (K:=K) (S:=S) (n:=n);rw[c,eL (cH.1 h).1];exact h
theorem akc{S:bI}:(edge P i K S n).ks.length<=S.ks.length+1/\(edge P i K S n).es.length<=S.es.length+1:=by
 unfold edge
 split
 ·exact⟨by omega,by omega⟩
 ·split
  ·simp
  ·simp
theorem aiU{S:bI}(b:i<=300)(a:S.ks[i]?=ο K):xV P sz (302-i) i S=if 300<(leave P i K S (List.range sz)).ks.length then ν else xV P sz (302 - (i+1)) (i+1) (leave P i K S (List.range sz)):=by
 obtain⟨h1,h2⟩:=cH.1 a;rw[show 302-i=(302 - (i+1))+1 by omega,xV,dif_pos h1,h2]
theorem akd{S:bI}(b:i<=300)(a:S.ks.length<=i):xV P sz (302-i) i S=ο S:=by
 rw[show 302-i=(302 - (i+1))+1 by omega,xV,dif_neg (by omega)]
theorem ake{l:List (List au)}{k:List au}(h:∀(j:Nat)(x:List au),l[j]?=ο x->x≠k):ji l k=l.length:=by
 unfold ji;rw[List.findIdx_eq_length];intro x b;obtain⟨j,a⟩:=fb.1 b;simpa using h j x a
end Lx
theorem amB{g:Lx.Gr}(a:Lx.Fit g):nO (bY g) ((aG g).length+(gH g).length) (aG g).length :=
 ⟨a.pl,by simp[bY],fun p hp=>(a.pk p hp).2.1,fun p hp=>(a.pk p hp).2.2,fun p hp=>(a.pk p hp).1.2,rfl,by have:=a.Ef;have:=a.O3;omega⟩
theorem amC{o:Nat}{i:υ}{m b:List υ}(h:w.ownsRow B e z v n m)(l:w.ownsRow B' j o i k b)(d:e≠j){g:Nat}(p:v.ownBlock=ο g):i.ownBlock≠ο g:=by
 intro f;obtain⟨c,q⟩:=bJ h p;obtain⟨r,a⟩:=bJ l f;rw[q]at a;injection a with a
 injection a with _ h2
 exact d h2
theorem FK{m:Nat}{d:υ}{f b:List υ}(h:w.ownsRow B e z v n f)(k:w.ownsRow B' i m d j b)(c:e≠i)(l:w.grownBy w' d.ownBlock):w'.ownsRow B e z v n f :=
 ay h fun g a=>l.block g (sf h g a).2 (fun e=>amC h k c a e.symm)
def Mi(x:Option Addr×Nat×Nat):υ:=ς x.1 x.2.1 x.2.2
def Mj(x:(Option Addr×Nat×Nat)×List au):List υ:=[Mi x.1]
theorem acS:vz Mj 1:=⟨fun _=>rfl,fun x u a=>by simp only[Mj,List.mem_singleton]at a;subst a;rfl⟩
def jF(S T B:Nat)(w:ω)(v:υ)(ks:List (List au)):Prop:=∃xs:List ((Option Addr×Nat×Nat)×List au),xs.map Prod.snd=ks/\aO S 1 Mj B w v xs/\∀x∈xs,aO T 2 jq B w (Mi x.1) x.2
theorem jF.len{S T:Nat}(h:jF S T B w v ks):∃a c,v=ς a ks.length c/\ks.length<=maxLen:=by
 obtain⟨b,rfl,h2,-⟩:=h;rw[dk];exact aB h2
theorem jF.below{S T B:Nat}{w w':ω}{v:υ}{ks:List (List au)}(h:jF S T B w v ks)(a:φ w.heap.size w w'):jF S T B w' v ks:=by
 obtain⟨b,h1,h2,h3⟩:=h;exact⟨b,h1,h2.below a,fun x c=>(h3 x c).below a⟩
theorem jF.grown{S T:Nat}{b:υ}{ys:List υ}(h:jF S T B w v ks)(a:w.ownsRow B' e z b n ys)(d:S≠e)(f:T≠e)(c:w.grownBy w' b.ownBlock):jF S T B w' v ks:=by
 obtain⟨g,h1,h2,h3⟩:=h;exact⟨g,h1,FK h2 a d c,fun x i=>FK (h3 x i) a f c⟩
theorem jF.at{S T B:Nat}{w:ω}{v:υ}{ks:List (List au)}(h:jF S T B w v ks){j:Nat}{K:List au}(i:ks[j]?=ο K):∃g cap a c,v=ς (ο ⟨g,0,ν⟩) ks.length cap/\g<w.heap.size/\w.cell? ⟨g,j,ν⟩=ο (ς a K.length c)/\aO T 2 jq B w (ς a K.length c) K:=by
 obtain⟨n,rfl,h2,h3⟩:=h;rw[dj]at i;obtain⟨x,hx,rfl⟩:=mS.1 i;obtain⟨b,d⟩:=cH.1 hx;obtain⟨g,cap,l,-,k,m⟩:=aO.at acS h2 b;have h4:=h3 x (cM hx);obtain⟨a,c,f,-⟩:=aB h4;rw[f]at h4;refine⟨g,cap,a,c,by rw[dk];exact l,k,?_,h4⟩;have:=m 0 (Mi x.1) (by decide) (by rw[d];rfl);rw[j9,nz,f]at this;exact this
theorem jF.push{S T:Nat}{d:υ}{b:List ((Option Addr×Nat×Nat)×List au)}{x:(Option Addr×Nat×Nat)×List au}(h2:aO S 1 Mj B w v b)(h3:∀x∈b,aO T 2 jq B w (Mi x.1) x.2)(g:aO T 2 jq B w (Mi x.1) x.2)(c:T≠S)(f:w.grownBy w' v.ownBlock)(i:aO S 1 Mj B w' d (b++[x])):jF S T B w' d (b.map Prod.snd++[x.2]):=by
 refine⟨b++[x],by simp,i,fun y a=>?_⟩;rcases dq.1 a with a|a
 ·exact FK (h3 y a) h2 c f
 ·rw[dd]at a
  subst a;exact FK g h2 c f
def vY(e:Mh):List υ:=[ι ξ (e.1:Int),ι ξ (e.2.1:Int),ι ξ (e.2.2:Int)]
def vA(l:List υ):Array υ:=l.toArray
theorem acT(l:List υ)(i:Nat)(v:υ):(vA l).setIfInBounds i v=vA (l.set i v):=by unfold vA;rw[j8]
theorem Ui(l:List υ)(i:Nat):(vA l)[i]?=l[i]?:=by unfold vA;rw[ie]
def Bo(n g:Nat):υ:=ς (ο ⟨g,0,ν⟩) n n
theorem Tryz.amD:(prog.info? 81).map (fun i=>(i.zero,i.size,i.bytes))=ο (ο (.slice ν 0 0),1,24):=by kernel_rfl
theorem aiV(j:n<=100000)(w:ω):(Instr.makeSlice 271 (ι ξ (n:Int)) (ι ξ (n:Int))).run prog w=.ok (ς (ο ⟨w.heap.size,0,ν⟩) n n) (w.alloc (ζ (vA (ψ n (ς ν 0 0))) 81)):=by
 obtain⟨d,g,b,c,a⟩:=ft Tryz.amD;have h:=qh (P:=prog) w 271 81 d _ (by kernel_rfl) g b ξ ξ (n:Int) (n:Int) (by omega) (oX _) (by rw[a];omega) (by omega);rw[h,ij,c];have e:Value.cells (ς ν 0 0)=#[ς ν 0 0]:=rfl;have f:madeCells #[ς ν 0 0] (n*1)=(vA (ψ n (ς ν 0 0))):=by
  unfold madeCells vA;apply rK
  ·simp
  ·intro i h1 h2
   simp[Nat.mod_one]
 rw[e,f]
structure BB(w:ω)(gO nT:Nat)(gs:List Nat)(B:List (List Bool)):Prop where
 outer:aj w gO (vA (gs.map (Bo nT))) 81
 len:B.length=gs.length
 rows:∀i(hi:i<gs.length)(hi':i<B.length),aj w gs[i] (bE B[i]) 4
 rl:∀b∈B,b.length=nT
 nd:gs.Nodup
 no:gO∉gs
namespace Lx
def yX(nT i:Nat):List Bool:=if i<nT then (ψ nT ε).set i η else ψ nT ε
def alone(nT n:Nat):List (List Bool):=(List.range n).map (yX nT)
theorem af4(nT i:Nat):(yX nT i).length=nT:=by unfold yX;split <;> simp
end Lx
def acU(w:ω)(nT n:Nat)(e:Ending)(w':ω):Prop:=∃gO gs,e=δ (ς (ο ⟨gO,0,ν⟩) n n)/\w.heap.size<=gO/\(∀g∈gs,w.heap.size<=g)/\BB w' gO nT gs (Lx.alone nT n)/\φ w.heap.size w w'
theorem afe{pa:Option Addr}{J pc:Nat}(AO:vP=ς pa J pc)(N:vB=ς ba nb bc)(O:vK=ς ka nk kc)(I:nT+nN<=100000):χ prog 113 #[γ #[ς ta nT tc,ς na nN nc,vP,vB,vK]] w (acU w nT (nT+nN)):=by
 subst AO N O;obtain⟨n,F⟩:=aC (nT+nN);have P:IntKind.i64.wrap ((nT:Int)+(nN:Int))=(n:Int):=by rw[F,<-qv];exact wrap64 (by omega)
 have U:nT<=100000:=by omega
 rw[<-F]at I|-;clear F;have Q:=fun w=>aiV I w
 unfold acU;go_enter func113,ntmps113;go_wp2_with fail;obtain⟨W,A⟩:=aC ((w.alloc (ζ #[ς ta nT tc,ς na nN nc,ς pa J pc,ς ba nb bc,ς ka nk kc] 49)).alloc (ζ (vA (ψ n (ς ν 0 0))) 81));rw[<-A];have r:φ w.heap.size w W:=by rw[A];exact((cV _ _).alloc (zL0) _).alloc (by simp) _
 have zD:W.heap.size=w.heap.size+2:=by rw[A];simp
 have kA:aj W w.heap.size #[ς ta nT tc,ς na nN nc,ς pa J pc,ς ba nb bc,ς ka nk kc] 49:=by rw[A];exact(aj.new w _ 49).alloc _
 have S:aj W (w.heap.size+1) (vA (ψ n (ς ν 0 0))) 81:=by
  rw[A];simpa using aj.new (w.alloc (ζ #[ς ta nT tc,ς na nN nc,ς pa J pc,ς ba nb bc,ς ka nk kc] 49)) (vA (ψ n (ς ν 0 0))) 81
 clear A Q P
 go_loopg [15] n (fun k i wr=>∃(j:Nat)(c:List Nat),j+k=n/\i=ι ξ j/\c.length=j/\aj wr (w.heap.size+1) (vA (c.map (Bo nT)++ψ (n-j) (ς ν 0 0))) 81/\(∀i(t:i<c.length),aj wr c[i] (bE (yX nT i)) 4)/\(∀g∈c,w.heap.size+2<=g)/\c.Nodup/\Kp (fun g=>g<W.heap.size/\g≠w.heap.size+1) W wr)
 case atStart=>exact⟨0,[],by omega,rfl,rfl,by simpa using S,(fun i t=>absurd t (by simp)),(fun g l=>by cases l),ot,Kp.refl _ _⟩
 case round=>
  obtain⟨j,c,hk,rfl,q,u,f,o,s,d⟩:=hrel;have V:=d.size;have R:=eD kA d ⟨by omega,by omega⟩
  by_cases hlt:j<n
  ·have a0:=R.a0
   have T:=fun w=>Y5 U w
   have lO:=u.lt;have lw:=R.lt;have cO:wr.cell? ⟨w.heap.size+1,j,ν⟩=ο (ς ν 0 0):=by
    rw[u.cell j,Ui,eQ (by simp;omega),dk,q,io,mi,du (by omega)]
   have fO:=u.frozen;have H:∀g∈c,g<wr.heap.size:=fun g l=>by
    obtain⟨i,t,rfl⟩:=mB l;exact(f i t).lt
   have v:(vA (c.map (Bo nT)++ψ (n-j) (ς ν 0 0))).setIfInBounds j (Bo nT wr.heap.size)=(vA ((c++[wr.heap.size]).map (Bo nT)++ψ (n - (j+1)) (ς ν 0 0))):=by
    rw[acT,nn _ _ (by simp;omega),show n-j=n - (j+1)+1 by omega,oi];simp[q]
   have HS:Hid _:=v;have y:∀{C:List Bool},C=yX nT j->∀B,B=(wr.setCell ⟨w.heap.size+1,j,ν⟩ (Bo nT wr.heap.size)).alloc (ζ (bE C) 4)->aj B (w.heap.size+1) (vA ((c++[wr.heap.size]).map (Bo nT)++ψ (n - (j+1)) (ς ν 0 0))) 81/\(∀i(t:i<(c++[wr.heap.size]).length),aj B (c++[wr.heap.size])[i] (bE (yX nT i)) 4)/\(∀g∈c++[wr.heap.size],w.heap.size+2<=g)/\(c++[wr.heap.size]).Nodup/\Kp (fun g=>g<W.heap.size/\g≠w.heap.size+1) W B:=by
    intro C z B m;have E:∀g,g<wr.heap.size->g≠w.heap.size+1->B.heap[g]?=wr.heap[g]?:=fun g l F=>by
     rw[m,ed _ _ _ (by simp[World.setCell];exact l),zS0 F]
    refine⟨?_,?_,?_,?_,?_⟩
    ·rw[m,<-HS.out];exact(u.set j _).alloc _
    ·intro i t
     rw[cJ,gw]at t
     by_cases hij:i<c.length
     ·rw[AW hij]
      have h1:=o c[i] (eJ hij);exact(E _ (H _ (eJ hij)) (by omega)).trans (f i hij)
     ·have:i=c.length:=by omega
      subst this;rw[AK (zL0)];simp only[Nat.sub_self,List.getElem_cons_zero];rw[q,<-z,m];have:=aj.new (wr.setCell ⟨w.heap.size+1,j,ν⟩ (Bo nT wr.heap.size)) (bE C) 4;simpa [World.setCell]using this
    ·intro g l
     rcases dq.1 l with l|l
     ·exact o g l
     ·rw[dd.1 l];omega
    ·rw[j7]
     refine⟨s,by simp,fun a ha b K e=>?_⟩;rw[dd.1 K]at e;have:=H a ha;omega
    ·refine⟨by rw[m];exact d.os,by rw[m];exact d.tape,by rw[m];exact d.output,by rw[m];simp[World.setCell];omega,fun g l=>(E g (by omega) l.2).trans (d.block g l)⟩
   have G:Hid _:=@y;clear y v
   by_cases hjt:j<nT
   ·have aa:(bE (ψ nT ε))[j]?=ο (μ ε):=by rw[qE _ (by simpa using hjt)];simp[aJ,hjt]
    have z:(ψ nT ε).set j η=yX nT j:=(du hjt).symm;have M:Hid _:=z;clear z f u o s;go_wp2_with fail;rw[Dz];have p:=G.out M.out _ rfl;go_roundg (n - (j+1))
    case measure=>omega
    case rel=>exact⟨j+1,c++[wr.heap.size],by omega,by go_num,by simp[q],p.1,p.2.1,p.2.2.1,p.2.2.2.1,p.2.2.2.2⟩
   ·have z:ψ nT ε=yX nT j:=(dt hjt).symm
    have M:Hid _:=z;clear z f u o s;go_wp2_with fail;have p:=G.out M.out _ rfl;go_roundg (n - (j+1))
    case measure=>omega
    case rel=>exact⟨j+1,c++[wr.heap.size],by omega,by go_num,by simp[q],p.1,p.2.1,p.2.2.1,p.2.2.2.1,p.2.2.2.2⟩
  ·have:j=n:=by omega
   subst this;have L:φ w.heap.size w wr:=⟨d.os.trans r.os,d.tape.trans r.tape,d.output.trans r.output,by omega,fun x p=>(d.block x ⟨by omega,by omega⟩).trans (r.block x p)⟩;have D:BB wr (w.heap.size+1) nT c (Lx.alone nT j):=by
    refine⟨by simpa using u,by simp[Lx.alone,q],fun i t Z=>?_,?_,s,fun hm=>by have:=o _ hm;omega⟩
    ·have:(Lx.alone nT j)[i]=yX nT i:=by simp[Lx.alone]
     rw[this];exact f i t
    ·intro b K
     obtain⟨i,-,rfl⟩:=fk.1 K;exact af4 nT i
   have Y:Hid _:=D;have X:Hid (∀g∈c,w.heap.size<=g):=fun g l=>by have:=o g l;omega
   clear D u f o;go_wp2_with fail;go_ret;exact⟨_,c,rfl,by omega,X.out,Y.out,L⟩
namespace Lx
def rowAt(B:List (List Bool))(i:Nat):List Bool:=B[i]?.getD []
def rO(l:Nat)(B:List (List Bool))(s:Nat):List (List Bool):=B.set l (pR (rowAt B l) (rowAt B s))
def aoc(E:List Bool)(p:Pd):Nat:=min (mQ E p.right+1) p.right.length
def UB(E:List Bool)(B:List (List Bool))(p:Pd):List (List Bool):=(p.right.take (aoc E p)).foldl (rO p.left) B
def iq(P:List Pd)(E:List Bool)(B:List (List Bool)):List (List Bool):=P.foldl (UB E) B
def tot(B:List (List Bool)):Nat:=(B.map aZ).sum
theorem FU{B:List (List Bool)}(h:i<B.length):rowAt B i=B[i]:=by simp[rowAt,h]
theorem abY:∀{B:List (List Bool)}{l:Nat}{C:List Bool}(h:l<B.length),tot (B.set l C)+aZ B[l]=tot B+aZ C
 |b::B,0,C,_=>by simp[tot];omega
 |b::B,l+1,C,h=>by
  have:=abY (B:=B) (l:=l) (C:=C) (by simpa using h);simp[tot]at this|-;omega
theorem acV{nT:Nat}:∀{B:List (List Bool)},(∀b∈B,b.length=nT)->tot B<=B.length*nT
 | [],_=>by simp[tot]
 |b::B,h=>by
  have h1:=acV (B:=B) fun x a=>h x (eR _ a)
  have h2:=BN b;rw[h b eE]at h2;simp[tot,Nat.succ_mul]at h1|-;omega
theorem abZ(A B:List Bool):(pR A B).length=A.length:=by unfold pR;rw[wY]
end Lx
theorem BB.at{b:List Nat}{B:List (List Bool)}(h:BB w d nT b B)(c:i<b.length):w.cell? ⟨d,i,ν⟩=ο (ς (ο ⟨b[i],0,ν⟩) nT nT)/\aj w b[i] (bE (Lx.rowAt B i)) 4/\(Lx.rowAt B i).length=nT:=by
 have a:i<B.length:=by rw[h.len];exact c
 rw[FU a];refine⟨?_,h.rows i c a,h.rl _ (eJ a)⟩;rw[h.outer.cell i,Ui];simp[c,Bo]
theorem BB.join{g:Nat}{d:List Nat}{B:List (List Bool)}(h:BB w g nT d B){l:Nat}(n:l<d.length){A C:List Bool}(f:OL w d[l] A C w')(m:C.length=nT):BB w' g nT d (B.set l C):=by
 obtain⟨h1,h2,h3,h4,k,j⟩:=h;refine⟨(f.aK g (fun e=>j (e▸eJ n))).trans h1,by rw[jp];exact h2,fun i p a=>?_,fun b c=>?_,k,j⟩
 ·rw[uA]
  by_cases e:l=i
  ·subst e;rw[du rfl];exact f.blk
  ·rw[dt e]
   rw[jp]at a;exact(f.aK _ (fun o=>e ((mC k).1 o).symm)).trans (h3 i p a)
 ·rcases r6 c with c | c
  ·exact h4 b c
  ·rw[c];exact m
theorem BB.move{c:Nat}{b:List Nat}{B:List (List Bool)}(h:BB w c nT b B)(d:∀g,g<w.heap.size->w'.heap[g]?=w.heap[g]?):BB w' c nT b B:=⟨(d _ h.outer.lt).trans h.outer,h.len,fun i f a=>(d _ (h.rows i f a).lt).trans (h.rows i f a),h.rl,h.nd,h.no⟩
theorem Zw(j:n<=100000)(w:ω):(Instr.makeSlice 32 (ι ξ (n:Int)) (ι ξ (n:Int))).run prog w=.ok (ς (ο ⟨w.heap.size,0,ν⟩) n n) (w.alloc (ζ (vA (ψ n (ς ν 0 0))) 47)):=by
 obtain⟨d,g,b,c,a⟩:=ft Tryz.acy;have h:=qh (P:=prog) w 32 47 d _ (by kernel_rfl) g b ξ ξ (n:Int) (n:Int) (by omega) (oX _) (by rw[a];omega) (by omega);rw[h,ij,c];have e:Value.cells (ς ν 0 0)=#[ς ν 0 0]:=rfl;have f:madeCells #[ς ν 0 0] (n*1)=(vA (ψ n (ς ν 0 0))):=by
  unfold madeCells vA;apply rK
  ·simp
  ·intro i h1 h2
   simp[Nat.mod_one]
 rw[e,f]
def Ip(B:Nat)(w:ω)(v:υ)(ps:List (List Nat)):Prop:=∃qs,UR B w v ps qs/\qs.Pairwise fun a b=>∀g,a.1.ownBlock=ο g->b.1.ownBlock≠ο g
def acW(w:ω)(nT n:Nat)(P:List Lx.Pd)(E:List Bool)(e:Ending)(w':ω):Prop:=∃v B m,e=δ v/\B=iT (iq P E) m (Lx.alone nT n)/\iq P E B=B/\Ip w.heap.size w' v (B.map fq)/\φ w.heap.size w w'
theorem aff{P:List Lx.Pd}{gE:Nat}{E:List Bool}(h:Gq w ta nT tc na nN nc vP P)(kE:aj w gE (bE E) 4)(hE:E.length=nT+nN)(bM:∀p∈P,p.right.length<=100000):χ prog 57 #[γ #[ς ta nT tc,ς na nN nc,vP,ς ba nb bc,ς ka nk kc],ς (ο ⟨gE,0,ν⟩) (nT+nN) (nT+nN)] w (acW w nT (nT+nN) P E):=by
 obtain⟨hP,ax,ak⟩:=h;obtain⟨pa,pc,rfl,bo⟩:∃a c,vP=ς a P.length c/\P.length<=maxLen:=by obtain⟨ps,h1,h2,-⟩:=hP;exact aB h2
 unfold maxLen at bo;obtain⟨W,hW⟩:=aC (w.alloc (ζ #[ς ta nT tc,ς na nN nc,ς pa P.length pc,ς ba nb bc,ς ka nk kc] 49));have bV:φ w.heap.size w W:=by rw[hW];exact(cV _ _).alloc (zL0) _
 have zD:W.heap.size=w.heap.size+1:=by rw[hW];simp
 have kA:aj W w.heap.size #[ς ta nT tc,ς na nN nc,ς pa P.length pc,ς ba nb bc,ς ka nk kc] 49:=by rw[hW];exact aj.new w _ 49
 have q0:=afe (w:=W) (ta:=ta) (tc:=tc) (na:=na) (nc:=nc) (vP:=ς pa P.length pc) (vB:=ς ba nb bc) (vK:=ς ka nk kc) rfl rfl rfl ak;have Di:nT<=100000:=by omega
 obtain⟨n,hn⟩:=aC (nT+nN);rw[<-hn]at ax ak hE q0|-;clear hn;unfold acW;go_enter func57,ntmps57;go_wp2_with fail;rw[<-hW];clear hW;refine q0.mono ?_;rintro e w1⟨M,t,rfl,iG,b6,bh,aq⟩;clear q0;have cw:=aq.size;have V:=bV.trans (aq.mono (by omega));have bL:=kA.go aq (by omega);have cp:=kE.on V;have lE:=kE.lt;have ai:t.length=n:=by rw[<-bh.len];simp[Lx.alone]
 go_wp2_with fail
 go_loopg [6] (n*nT+1) (fun k v wr=>∃(b:Bool)(B:List (List Bool))(m:Nat),v=μ b/\(b=η->n*nT-Lx.tot B+1<=k)/\BB wr M nT t B/\Kp (fun g=>g<W.heap.size) w1 wr/\Hid (B=iT (iq P E) m (Lx.alone nT n))/\Hid (b=ε->iq P E B=B))
 case atStart=>exact⟨η,_,0,rfl,fun _=>by omega,bh,Kp.refl _ _,rfl,fun h=>by cases h⟩
 case round=>
  revert wr;intro r hrel;obtain⟨b,B,m,rfl,ao,Ml,J,HB,HF⟩:=hrel;have CP:=eD bL J (by show w.heap.size<W.heap.size;omega);have z2:=CP.a2;cases b with
  |true=>
   obtain⟨K0,yA⟩:∃K0,Hid (K0=gk):=⟨gk,rfl⟩;have ck:n*nT-Lx.tot B+1<=K0:=by rw[yA.out];exact ao rfl
   have bd:∀{C:List (List Bool)}{x:ω},BB x M nT t C->Lx.tot C<=n*nT:=fun hC=>by
    have:=acV hC.rl;rw[hC.len,ai]at this;exact this
   clear ao HF;have H0:Hid (iq P E B=iq (P.drop 0) E B):=rfl;go_wp2_with fail
   go_loopg [6,21] P.length (fun k v i wr=>∃(j:Nat)(b:Bool)(C:List (List Bool)),j+k=P.length/\v=μ b/\i=ι ξ j/\BB wr M nT t C/\Kp (fun g=>g<W.heap.size) w1 wr/\Hid ((b=ε->C=B)/\(b=η->Lx.tot B<Lx.tot C)/\Lx.tot B<=Lx.tot C)/\Hid (iq P E B=iq (P.drop j) E C))
   case atStart=>exact⟨0,ε,B,by omega,rfl,rfl,Ml,J,⟨fun _=>rfl,(fun h=>by cases h),zL0⟩,H0⟩
   case round=>
    clear H0 Ml J CP z2;revert wr;intro z hrel;obtain⟨j,b,C,bp,rfl,rfl,hC,H,HC,HP⟩:=hrel;have ci:=H.size;have Q:φ w.heap.size w z:=⟨H.os.trans V.os,H.tape.trans V.tape,H.output.trans V.output,cY V.size H.size,fun x f=>(H.block x (by show x<W.heap.size;omega)).trans (V.block x f)⟩
    by_cases hlt:j<P.length
    ·obtain⟨g,cz,u,hv,ac,aE,bb,av⟩:=hP.at hlt
     cases hv;have hu:IR 0 z u P[j].right:=own_below ac Q;have x0:=cell_below Q aE;have x1:=cell_below Q bb;have x2:=cell_below Q av;clear aE bb av;obtain⟨Y,o⟩:=ax P[j] (eJ hlt);have aP:=bM P[j] (eJ hlt);have hd:=HP.out;rw[eN hlt,show iq (P[j]::P.drop (j+1)) E C=iq (P.drop (j+1)) E (UB E C P[j]) from rfl]at hd;generalize P[j]=pd at hu ac x0 x1 x2 Y o hd aP;obtain⟨pl,pr,pp⟩:=pd;simp only at hu ac x0 x1 x2 Y o aP;obtain⟨O,L,rfl,-⟩:=aB hu;obtain⟨Z,U⟩:=aC (z.alloc (ζ #[ι ξ (pl:Int),ς O pr.length L,ι ξ pp] 143));have dU:φ z.heap.size z Z.drew:=by rw[U];exact((cV _ _).alloc (zL0) _).drew
     have cs:Z.heap.size=z.heap.size+1:=by rw[U];simp
     have kp:aj Z.drew z.heap.size #[ι ξ (pl:Int),ς O pr.length L,ι ξ pp] 143:=by rw[U];exact(aj.new z _ 143).drew
     have aw:aj Z.drew gE (bE E) 4:=(dU.block _ (by have:=Q.size;omega)).trans ((Q.block _ lE).trans kE);have Xn:=hC.move fun x f=>dU.block x f
     have CR:Kp (fun g=>g<W.heap.size) w1 Z.drew:=H.trans (Kp.below dU (D:=fun g=>g<z.heap.size) fun g F=>F) fun g F=>by show g<z.heap.size;omega
     have p1:=kp.a1;have ab:IR 0 Z.drew (ς O pr.length L) pr:=own_below hu dU;have K:=Yw ab aw (fun s hs=>by rw[hE];exact o s hs);rw[hE]at K;have Kr:=Sk E pr;have ar:Hid (UB E C ⟨pl,pr,pp⟩=(pr.take (min (mQ E pr+1) pr.length)).foldl (rO pl) C):=rfl;obtain⟨G,aa⟩:=aC (min (mQ E pr+1) pr.length);rw[<-aa]at ar;have Ld:Hid _:=aa;have c3:G<=pr.length:=by omega
     generalize mQ E pr=an at K Kr Ld aa;clear aa;go_wp2_with fail;rw[<-U];clear U x0 x1 x2
     go_region_held3 (fun w'=>w'.cell? ⟨z.heap.size,1,ν⟩=ο (ς O pr.length L)) (first | go_keep | assumption) ((go_at_call 112;refine K.mono ?_;rintro e w5⟨rfl,fQ⟩;subst fQ))
     have af:min (IntKind.i64.wrap ((an:Int)+1)) (pr.length:Int)=(G:Int):=by
      rw[show ((an:Int)+1)=((an+1:Nat):Int) from by omega,wrap64 (by omega),Ld.out];omega
     rw[af];clear af K;rw[ar.out]at hd;have b9:Hid (∀s∈pr.take G,s<n):=fun s hs=>o s (mw hs)
     have cd:=DK ab;have c0:(0:Int)<=(G:Int):=by omega
     have c1:(G:Int)<=(L:Int):=by omega
     have T:(pr.take G).length=G:=by rw[fR];omega
     have Dj:∀x∈t,x<z.heap.size:=fun x f=>by
      obtain⟨i,hi,rfl⟩:=mB f;exact(hC.rows i hi (by rw[hC.len];exact hi)).lt
     have H3:Hid (iq P E B=iq (P.drop (j+1)) E (((pr.take G).drop 0).foldl (rO pl) C)):=hd;have HU:Hid (∀{x:ω},Kp (fun g=>g<W.heap.size\/g=z.heap.size) Z.drew x->IR 0 x (ς O pr.length L) pr):=fun f=>ay ab fun g F=>f.block g (.inl (by have:=(ac.lt g F).2;omega))
     clear hd HP;rcases ab.2 with ⟨e1,e2⟩|⟨gR,co,cr,jJ,-,b8,ca,bj,bu,bn⟩
     ·have b1:G=0:=by omega
      subst b1;have H4:Hid (iq P E B=iq (P.drop (j+1)) E C):=by show _=_;have:=H3.out;simpa using this
      simp only[Value.slice.injEq]at e1;obtain⟨rfl,-,rfl⟩:=e1;have bT:=ir e2;subst bT;clear H3 ar Ld e2 T b9 HU;go_wp2_with fail
      go_loopg [6,39] 0 (fun k v i wr=>k=0/\v=μ b/\i=ι ξ 0/\wr=Z.drew)
      case atStart=>exact⟨rfl,rfl,rfl,rfl⟩
      case round=>
       obtain⟨rfl,rfl,rfl,rfl⟩:=hrel;go_wp2_with fail;go_roundg (P.length - (j+1))
       case measure=>omega
       case rel=>exact⟨j+1,b,C,by omega,rfl,by go_num,Xn,CR,HC,H4⟩
     ·cases jJ
      clear bn bu b8 bj ca;go_wp2_with fail
      go_loopg [6,39] G (fun k v i wr=>∃(q:Nat)(b2:Bool)(C2:List (List Bool)),q+k=G/\v=μ b2/\i=ι ξ q/\BB wr M nT t C2/\Kp (fun g=>g<W.heap.size\/g=z.heap.size) Z.drew wr/\Hid ((b2=ε->C2=B)/\(b2=η->Lx.tot B<Lx.tot C2)/\Lx.tot B<=Lx.tot C2)/\Hid (iq P E B=iq (P.drop (j+1)) E (((pr.take G).drop q).foldl (rO pl) C2)))
      case atStart=>exact⟨0,b,C,by omega,rfl,rfl,Xn,Kp.refl _ _,HC,H3⟩
      case round=>
       clear H3 Xn p1 aw;obtain⟨q,b2,C2,cx,rfl,rfl,N,d,Fb,H3⟩:=hrel
       by_cases vI:q<G
       ·have bD:=HU.out d
        obtain⟨ch,cy,br,-,cq⟩:=bD.at (j:=q) (by omega);cases br;have h3:=H3.out;have bU:q<(pr.take G).length:=by rw[T];exact vI
        have ap:=eN bU;rw[ap,si,yo]at h3;have bw:=o pr[q] (eJ (by omega));generalize pr[q]=sy at cq h3 bw;obtain⟨o1,o2,o3⟩:=N.at (i:=pl) (by omega);obtain⟨y1,y2,y3⟩:=N.at (i:=sy) (by omega);have b5:=eD kp d (.inr rfl);have dp:=b5.drew.a0;have QE:wr.drew.cell? ⟨M,pl,ν⟩=ο (ς (ο ⟨t[pl]'(by omega),0,ν⟩) nT nT):=o1;have QF:wr.drew.cell? ⟨M,sy,ν⟩=ο (ς (ο ⟨t[sy]'(by omega),0,ν⟩) nT nT):=y1;have i1:(0:Int)<=(pl:Int):=by omega
        have i2:(pl:Int)<(n:Int):=by omega
        have i3:(0:Int)<=(sy:Int):=by omega
        have i4:(sy:Int)<(n:Int):=by omega
        have cm:C2.length=n:=by rw[N.len];exact ai
        have aR:BB wr.drew M nT t C2:=N.move fun _ _=>rfl
        by_cases hps:sy=pl
        ·subst hps
         have bf:rO sy C2 sy=C2:=by
          unfold rO;rw[aj4,FU (by omega)];exact Cf _
         rw[bf]at h3;have H4:Hid _:=h3;have K:=join_self (w:=wr.drew) (o2.drew) o3 Di;have bF:Kp (fun g=>g<W.heap.size\/g=z.heap.size) Z.drew wr.drew:=⟨d.os,d.tape,d.output,d.size,d.block⟩;generalize t[sy]'(by omega)=ga at QE QF K;clear h3 H3 bf ap o1 y1 o2 y2;go_wp2_with fail
         go_region_held3 (fun w'=>w'.cell? ⟨z.heap.size,0,ν⟩=ο (ι ξ (sy:Int))/\w'.cell? ⟨M,sy,ν⟩=ο (ς (ο ⟨ga,0,ν⟩) nT nT)) (first | go_keep | assumption) ((go_at_call 114;refine K.mono ?_;rintro e w5⟨rfl,fQ⟩;subst fQ))
         all_goals
          go_wp2_with fail;go_roundg (G - (q+1))
          case measure=>omega
          case rel=>exact⟨q+1,b2,C2,by omega,rfl,by go_num,aR,bF,Fb,H4⟩
        ·have aX:t[pl]'(by omega)≠t[sy]'(by omega):=fun e=>hps ((mC N.nd).1 e).symm
         have H4:Hid _:=h3;have K:=aj5 (w:=wr.drew) aX (o2.drew) (y2.drew) o3 y3 Di;have am:=abY (B:=C2) (l:=pl) (C:=pR (Lx.rowAt C2 pl) (Lx.rowAt C2 sy)) (by omega);rw[<-FU (B:=C2) (i:=pl) (by omega)]at am;have ad:=eJ (l:=t) (n:=pl) (by omega);have cc:=b6 _ ad;have cf:=Dj _ ad;have HJ:Hid (∀{x:ω},OL wr.drew (t[pl]'(by omega)) (Lx.rowAt C2 pl) (pR (Lx.rowAt C2 pl) (Lx.rowAt C2 sy)) x->BB x M nT t (rO pl C2 sy)):=fun f=>aR.join (by omega) f (by rw[abZ];exact o3)
         have HT:Hid (Lx.tot (rO pl C2 sy)+aZ (Lx.rowAt C2 pl)=Lx.tot C2+aZ (pR (Lx.rowAt C2 pl) (Lx.rowAt C2 sy))):=am;have PW:Hid (pR (Lx.rowAt C2 pl) (Lx.rowAt C2 sy)=Lx.rowAt C2 pl->rO pl C2 sy=C2):=fun he=>by
          unfold rO;rw[he,FU (by omega)];exact Cf _
         have aH:t[pl]'(by omega)≠z.heap.size:=by omega
         have iG:M≠t[pl]'(by omega):=fun e=>N.no (e▸ad)
         generalize t[pl]'(by omega)=ga at QE K cc aH HJ iG;generalize t[sy]'(by omega)=gb at QF K;clear h3 H3 ap o1 y1 o2 y2 aX ad am;go_wp2_with fail
         go_region_held3 (fun w'=>w'.cell? ⟨z.heap.size,0,ν⟩=ο (ι ξ (pl:Int))/\w'.cell? ⟨M,pl,ν⟩=ο (ς (ο ⟨ga,0,ν⟩) nT nT)/\w'.cell? ⟨M,sy,ν⟩=ο (ς (ο ⟨gb,0,ν⟩) nT nT)) (first | go_keep | assumption) ((go_at_call 114;refine K.mono ?_;rintro e w5⟨b3,rfl,Vs,Vt,Bp⟩;have S5:w5.cell? ⟨z.heap.size,0,ν⟩=ο (ι ξ (pl:Int))/\w5.cell? ⟨M,pl,ν⟩=ο (ς (ο ⟨ga,0,ν⟩) nT nT)/\w5.cell? ⟨M,sy,ν⟩=ο (ς (ο ⟨gb,0,ν⟩) nT nT):=⟨(cQ (w:=wr.drew) (Bp.aK _ (fun e=>aH e.symm))).trans dp,(cQ (w:=wr.drew) (Bp.aK _ iG)).trans QE,(cQ (w:=wr.drew) (Bp.aK _ iG)).trans QF⟩))
         all_goals
          have Xo:=HJ.out Bp;have ae:Kp (fun g=>g<W.heap.size\/g=z.heap.size) Z.drew w5:=⟨Bp.os.trans d.os,Bp.tape.trans d.tape,Bp.output.trans d.output,by rw[Bp.size];exact d.size,fun x f=>(Bp.aK x (by rcases f with f | f <;> omega)).trans (d.block x f)⟩;clear S5 K dp QE QF;cases b3 with
          |true=>
           have U4:=Vs rfl;have a9:Hid (Lx.tot B<Lx.tot (rO pl C2 sy)):=by have:=HT.out;have:=Fb.out.2.2;show _<_;omega
           clear Vs Vt U4;go_wp2_with fail;go_roundg (G - (q+1))
           case measure=>omega
           case rel=>exact⟨q+1,η,_,by omega,rfl,by go_num,Xo,ae,⟨(fun h=>by cases h),fun _=>a9.out,lA a9.out⟩,H4⟩
          |false=>
           have he:=PW.out (Vt rfl);rw[he]at Xo H4;clear Vs Vt he;go_wp2_with fail;go_roundg (G - (q+1))
           case measure=>omega
           case rel=>exact⟨q+1,b2,C2,by omega,rfl,by go_num,Xo,ae,Fb,H4⟩
       ·have:q=G:=by omega
        subst this;have H4:Hid (iq P E B=iq (P.drop (j+1)) E C2):=by
         show _=_;have:=H3.out;rw[show (pr.take q).drop q=[] from pD (by rw[T];exact zL0)]at this;exact this
        have ae:=CR.trans d fun g F=>.inl F
        clear H3 HU;go_wp2_with fail;go_roundg (P.length - (j+1))
        case measure=>omega
        case rel=>exact⟨j+1,b2,C2,by omega,rfl,by go_num,N,ae,Fb,H4⟩
    ·have:j=P.length:=by omega
     subst this;have hd:=HP.out;rw[im]at hd;have Md:Hid (iq P E B=C):=hd;have ct:=bd hC;have cb:Hid (C=iT (iq P E) (m+1) (Lx.alone nT n)):=by
      show C=iq P E (iT (iq P E) m (Lx.alone nT n));rw[<-HB.out];exact Md.out.symm
     have Xj:Hid (b=ε->iq P E C=C):=fun hb=>by
      have h1:=HC.out.1 hb;rw[h1];have:=Md.out;rw[h1]at this;exact this
     have Xk:Hid (b=η->n*nT-Lx.tot C+1<=K0-1):=fun hb=>by
      have:=HC.out.2.1 hb;omega
     clear HC HP hd bd;go_wp2_with fail;go_roundg (K0-1)
     case measure=>have:=yA.out;omega
     case rel=>exact⟨b,C,m+1,rfl,Xk.out,hC,H,cb,Xj⟩
  |false=>
   have wu:Hid _:=HF.out rfl;have b4:=fun w=>Zw ak w
   have S:φ w.heap.size w r:=⟨J.os.trans V.os,J.tape.trans V.tape,J.output.trans V.output,cY V.size J.size,fun x f=>(J.block x (by show x<W.heap.size;omega)).trans (V.block x f)⟩;have ce:=S.size;obtain⟨W3,X⟩:=aC (r.alloc (ζ (vA (ψ n (ς ν 0 0))) 47));have R:φ r.heap.size r W3:=by rw[X];exact(cV _ _).alloc (zL0) _
   have cg:W3.heap.size=r.heap.size+1:=by rw[X];simp
   have kL:aj W3 r.heap.size (vA (ψ n (ς ν 0 0))) 47:=by rw[X];exact aj.new r _ 47
   have cj:=Ml.move fun x f=>R.block x f
   clear ao HF z2 CP;go_wp2_with fail;rw[<-X];clear X b4
   go_loopg [60] n (fun k i wr=>∃(j:Nat)(A:List υ),j+k=n/\i=ι ξ j/\A.length=j/\aj wr r.heap.size (vA (A++ψ (n-j) (ς ν 0 0))) 47/\(∀x(f:x<A.length),IR w.heap.size wr A[x] (fq (Lx.rowAt B x))/\A[x].ownBlock≠ο r.heap.size)/\Hid (A.Pairwise fun a b=>∀g,a.ownBlock=ο g->b.ownBlock≠ο g)/\Kp (fun g=>g<W3.heap.size/\g≠r.heap.size) W3 wr)
   case atStart=>exact⟨0,[],by omega,rfl,rfl,by simpa using kL,(fun x f=>absurd f (by simp)),pC,Kp.refl _ _⟩
   case round=>
    obtain⟨j,A,bp,rfl,sG,hL,uh,az,d⟩:=hrel;have cl:=d.size
    by_cases hlt:j<n
    ·have bR:BB wr M nT t B:=by
      have bm:∀x,x<r.heap.size->wr.heap[x]?=r.heap[x]?:=fun x f=>(d.block x ⟨by omega,by omega⟩).trans (R.block x f)
      exact Ml.move bm
     obtain⟨o1,o2,o3⟩:=bR.at (i:=j) (by omega);have K:=agC (w:=wr) o2 o3 Di;have lL:=hL.lt;have cL:wr.cell? ⟨r.heap.size,j,ν⟩=ο (ς ν 0 0):=by
      rw[hL.cell j,Ui,eQ (by omega),sG,io,mi,du (by omega)]
     have i1:(0:Int)<=(j:Int):=by omega
     have i2:(j:Int)<(n:Int):=by omega
     generalize t[j]'(by omega)=ga at o1 K;have ag:∀u:υ,(A++ψ (n-j) (ς ν 0 0)).set j u=(A++[u])++ψ (n - (j+1)) (ς ν 0 0):=fun u=>by
      rw[nn _ _ (by omega),show n-j=n - (j+1)+1 by omega,oi,sG];simp
     have bv:Hid _:=ag;clear ag o2;go_wp2_with fail;refine K.mono ?_;rintro e w5⟨u,rfl,hu,I⟩;obtain⟨O,L,rfl,-⟩:=aB hu;have al:=hL.go I lL;have c5:=cell_below I cL;have f5:=al.frozen;have ah:=al.set j (ς O (fq (Lx.rowAt B j)).length L);rw[acT,bv.out]at ah;have aA:∀x(f:x<(A++[ς O (fq (Lx.rowAt B j)).length L]).length),IR w.heap.size (w5.setCell ⟨r.heap.size,j,ν⟩ (ς O (fq (Lx.rowAt B j)).length L)) (A++[ς O (fq (Lx.rowAt B j)).length L])[x] (fq (Lx.rowAt B x))/\(A++[ς O (fq (Lx.rowAt B j)).length L])[x].ownBlock≠ο r.heap.size:=by
      intro x f;rw[cJ,gw]at f
      by_cases hxu:x<A.length
      ·rw[AW hxu]
       have h1:=uh x hxu;exact⟨ay (own_below h1.1 I) fun g F=>zS0 (fun e=>h1.2 (by rw[F];exact fd ο e)),h1.2⟩
      ·have:x=A.length:=by omega
       subst this;rw[AK (zL0)];simp only[Nat.sub_self,List.getElem_cons_zero];rw[sG];have bg:(ς O (fq (Lx.rowAt B j)).length L).ownBlock≠ο r.heap.size:=fun e=>by have:=(hu.lt _ e).1;omega
       exact⟨jb (ay hu fun g F=>zS0 (fun e=>bg (by rw[F];exact fd ο e))) (by omega),bg⟩
     have tZ:Kp (fun g=>g<W3.heap.size/\g≠r.heap.size) W3 (w5.setCell ⟨r.heap.size,j,ν⟩ (ς O (fq (Lx.rowAt B j)).length L)):=⟨I.os.trans d.os,I.tape.trans d.tape,I.output.trans d.output,by have:=I.size;simp[World.setCell];omega,fun x f=>(zS0 f.2).trans ((I.block x (by omega)).trans (d.block x f))⟩;have bz:Hid ((A++[ς O (fq (Lx.rowAt B j)).length L]).Pairwise fun a b=>∀g,a.ownBlock=ο g->b.ownBlock≠ο g):=rh.2 ⟨az.out,p7 _ _,fun a ha b hb g F e=>by
      rw[dd]at hb;subst hb;obtain⟨x,f,rfl⟩:=mB ha;have h1:=((uh x f).1.lt g F).2;have h2:=(hu.lt g e).1;omega⟩
     have bx:Hid _:=ah;have bi:Hid _:=aA;clear ah aA uh hL al K cL o1;go_wp2_with fail;go_roundg (n - (j+1))
     case measure=>omega
     case rel=>exact⟨j+1,_,by omega,by go_num,by rw[cJ,gw];omega,bx.out,bi.out,bz,tZ⟩
    ·have:j=n:=by omega
     subst this;have bs:B.length=j:=by rw[Ml.len];exact ai
     have aV:Ip w.heap.size wr (ς (ο ⟨r.heap.size,0,ν⟩) j j) (B.map fq):=by
      have c2:A.length=(B.map fq).length:=by rw[dk];omega
      have bN:aj wr r.heap.size (vA A) 47:=by simpa using hL
      refine⟨A.zip (B.map fq),⟨List.map_snd_zip (by omega),?_,?_,?_⟩,?_⟩
      ·rw[List.map_fst_zip (by omega),dk,bs]
       refine⟨by rw[sG];simp,.inr ⟨r.heap.size,j,vA A,rfl,by omega,bN,zL0,by unfold maxLen;omega,by simp[vA,sG],?_⟩⟩;unfold vA;rw[j9,<-sG];exact ff
      ·intro q hq
       obtain⟨x,f,rfl⟩:=mB hq;rw[As]at f;rw[zj,pH];have h1:=uh x (by omega);rw[FU (by omega)]at h1;exact h1.1
      ·intro q hq g F e
       obtain⟨x,f,rfl⟩:=mB hq;rw[As]at f;rw[zj]at F;have e1:r.heap.size=g:=by simpa [Value.ownBlock]using e
       exact(uh x (by omega)).2 (by rw[e1];exact F)
      ·rw[mN]
       intro x y f hy b0 g F;rw[As]at f hy;rw[zj]at F|-;exact mN.1 az.out x y (by omega) (by omega) b0 g F
     have bt:φ w.heap.size w wr:=⟨d.os.trans (R.os.trans S.os),d.tape.trans (R.tape.trans S.tape),d.output.trans (R.output.trans S.output),by omega,fun x f=>(d.block x ⟨by omega,by omega⟩).trans ((R.block x (by omega)).trans (S.block x f))⟩;have b7:Hid _:=aV;clear aV uh hL;go_wp2_with fail;go_ret;exact⟨_,B,m,rfl,HB.out,wu.out,b7.out,bt⟩
theorem alv{g:Nat}(h:aj w g cs e)(b:B<=g)(a:cs.size=k):w.ownsRow B e k (ς (ο ⟨g,0,ν⟩) 1 1) 1 cs.toList:=by
 refine⟨by rw[ud,<-a];rfl,.inr ⟨g,1,cs,rfl,b,h,zL0,by unfold maxLen;omega,by omega,?_⟩⟩;rw[ud,<-a];exact ff
theorem jF.le{S T:Nat}(h:jF S T B w v ks)(a:B'<=B):jF S T B' w v ks:=by
 obtain⟨b,h1,h2,h3⟩:=h;exact⟨b,h1,jb h2 a,fun x c=>jb (h3 x c) a⟩
structure JJ(c:aW)(st:Nat)(S:bK)(s:Nat×Nat)(p:Nat)(S':bK):Prop where
 at':S'.st[p]?=ο s
 or:(S'.st=S.st/\S'.ss=S.ss/\S'.ws=S.ws/\S'.wq=S.wq)\/(s∉S.st/\S'.st=S.st++[s]/\S'.ss=S.ss++[uG st c.nT s]/\S'.ws=S.ws++[η]/\S'.wq=S.wq++[p])
theorem Tryz.alx:(prog.info? 172).map (fun i=>(i.zero,i.size,i.bytes))=ο (ο (.agg #[.int ξ 0,.int ξ 0]),2,16):=by kernel_rfl
theorem Tryz.TI:(prog.info? 174).map (fun i=>(i.zero,i.size,i.bytes))=ο (ο (.slice ν 0 0),1,24):=by kernel_rfl
theorem Tryz.am9:prog.underlying 90=ο (.slice 172):=by kernel_rfl
theorem Tryz.adK:prog.underlying 88=ο (.slice 174):=by kernel_rfl
theorem Tryz.ana:prog.underlying 81=ο (.slice 4):=by kernel_rfl
section
variable{c:aW}{w0:ω}{F:Nat -> Prop}{B:Nat}{W W1:ω}{S:bK}{mp:List (Nat×Nat)}
theorem dD.UC(Q:dD c w0 F B W S mp)(a:t≠275)(kp:∀{k u:Nat},oJ W k u->u≠t->W1.heap[k]?=W.heap[k]?)(i g:Nat)(hi:S.gs[i]?=ο g):B<=g/\∃ws,S.ss[i]?=ο ws/\TS W1 g ws/\ws.length=c.nw:=by
 obtain⟨a1,ws,a2,a3,a4⟩:=Q.sets i g hi;exact⟨a1,ws,a2,a3.move (kp (Q.kG (cM hi)) (yn a)),a4⟩
theorem TJ{b:υ}(a:b.ownBlock=ο k)(f:v.ownBlock=b.ownBlock\/∃g,b.ownBlock=ο g/\W.heap.size<=g):v.ownBlock=ο k\/W.heap.size<=k:=by
 rcases f with h|⟨g,h,d⟩
 ·exact .inl (h.trans a)
 ·rw[h]at a
  cases a;exact .inr d
theorem dD.anb(d:mK c w0 F B)(Q:dD c w0 F B W S mp){a:υ}(s:Nat×Nat)(b:W.grownBy W1 S.vS.ownBlock)(i:W1.ownsRow B 172 2 a (S.st.length+1) (S.st.flatMap zR++zR s))(f:S.vS.ownBlock=a.ownBlock\/∃g,a.ownBlock=ο g/\W.heap.size<=g):dD c w0 F B (W1.setCell ⟨c.lb,9,ν⟩ a) { S with vS:=a,st:=S.st++[s] } mp/\qY c W S (W1.setCell ⟨c.lb,9,ν⟩ a) { S with vS:=a,st:=S.st++[s] }:=by
 obtain⟨j,kp,km⟩:=Q.but d (v:=S.vS) (t:=172) (fun g e=>⟨Q.kS e,(Q.rS.lt g e).1⟩) b;refine⟨dD.stored d j ((kp Q.kL (by decide)).trans Q.blk) rfl (by simpa using i) (ay Q.rA fun g e=>kp (Q.kA e) (by decide)) (Q.rQ.move fun g e=>kp (Q.kQ e) (by decide)) (ay Q.rW fun g e=>kp (Q.kW e) (by decide)) km (Q.UC (by decide) kp) Q.pQ (cY Q.big b.size),qY.stored (v:=S.vS) (fun g e=>.inr (.inr (.inl e))) b fun k e=>?_⟩;rcases e with e|e|e|e
 ·exact .inl (.inl e)
 ·exact .inl (.inr (.inl e))
 ·exact(TJ e f).imp (fun e=>.inr (.inr (.inl e))) id
 ·exact .inl (.inr (.inr (.inr e)))
theorem dD.anc(f:mK c w0 F B)(Q:dD c w0 F B W S mp){a:υ}(b:Bool)(d:W.grownBy W1 S.vW.ownBlock)(j:W1.ownsRow B 4 1 a (S.ws.length+1) (S.ws.map μ++[μ b]))(i:S.vW.ownBlock=a.ownBlock\/∃g,a.ownBlock=ο g/\W.heap.size<=g):dD c w0 F B (W1.setCell ⟨c.lb,12,ν⟩ a) { S with vW:=a,ws:=S.ws++[b] } mp/\qY c W S (W1.setCell ⟨c.lb,12,ν⟩ a) { S with vW:=a,ws:=S.ws++[b] }:=by
 obtain⟨l,kp,km⟩:=Q.but f (v:=S.vW) (t:=4) (fun g e=>⟨Q.kW e,(Q.rW.lt g e).1⟩) d;refine⟨dD.stored f l ((kp Q.kL (by decide)).trans Q.blk) rfl (ay Q.rS fun g e=>kp (Q.kS e) (by decide)) (ay Q.rA fun g e=>kp (Q.kA e) (by decide)) (Q.rQ.move fun g e=>kp (Q.kQ e) (by decide)) (by simpa using j) km (Q.UC (by decide) kp) Q.pQ (cY Q.big d.size),qY.stored (v:=S.vW) (fun g e=>.inr (.inr (.inr (.inr (.inr (.inl e)))))) d fun k e=>?_⟩;rcases e with e|e|e|e|e|e|e
 ·exact .inl (.inl e)
 ·exact .inl (.inr (.inl e))
 ·exact .inl (.inr (.inr (.inl e)))
 ·exact .inl (.inr (.inr (.inr (.inl e))))
 ·exact .inl (.inr (.inr (.inr (.inr (.inl e)))))
 ·exact(TJ e i).imp (fun e=>.inr (.inr (.inr (.inr (.inr (.inl e)))))) id
 ·exact .inl (.inr (.inr (.inr (.inr (.inr (.inr e))))))
theorem dD.ane(m:mK c w0 F B)(Q:dD c w0 F B W S mp){f:υ}{g:Nat}(u:W.heap.size<=g)(s:x.length=c.nw)(C:S.ss.length=S.gs.length)(j:W.grownBy W1 S.vA.ownBlock)(q:TS W1 g x)(o:W1.ownsRow B 174 1 f (S.gs.length+1) (S.gs.map (iw c.nw)++[iw c.nw g]))(n:S.vA.ownBlock=f.ownBlock\/∃g,f.ownBlock=ο g/\W.heap.size<=g):dD c w0 F B (W1.setCell ⟨c.lb,10,ν⟩ f) { S with vA:=f,gs:=S.gs++[g],ss:=S.ss++[x] } mp/\qY c W S (W1.setCell ⟨c.lb,10,ν⟩ f) { S with vA:=f,gs:=S.gs++[g],ss:=S.ss++[x] }:=by
 obtain⟨A,kp,km⟩:=Q.but m (v:=S.vA) (t:=174) (fun g e=>⟨Q.kA e,(Q.rA.lt g e).1⟩) j;refine⟨dD.stored m A ((kp Q.kL (by decide)).trans Q.blk) rfl (ay Q.rS fun g e=>kp (Q.kS e) (by decide)) (by simpa using o) (Q.rQ.move fun g e=>kp (Q.kQ e) (by decide)) (ay Q.rW fun g e=>kp (Q.kW e) (by decide)) km (fun i k y=>?_) ?_ (cY Q.big j.size),qY.stored (v:=S.vA) (fun g e=>.inr (.inr (.inr (.inl e)))) j fun k e=>?_⟩
 ·have d:(S.gs++[g])[i]?=ο k:=y
  rw[kh]at d
  split at d
  ·rename_i p
   obtain⟨a1,ws,a2,a3,a4⟩:=Q.UC (W1:=W1) (by decide) kp i k d;exact⟨a1,ws,by show (S.ss++[x])[i]?=_;rw[eL (by omega)];exact a2,a3,a4⟩
  ·rename_i p
   have r:i-S.gs.length=0:=by
    have:=(cH.1 d).1;simp at this;omega
   rw[r]at d;cases d;exact⟨cY Q.big u,x,by show (S.ss++[x])[i]?=_;rw[eQ (by omega),show i-S.ss.length=0 by omega];rfl,q,s⟩
 ·show (S.gs++[g]).Nodup
  rw[j7];exact⟨Q.pQ,by simp,fun a z b l=>by
   rw[dd]at l;subst l;have:=Q.zf (k:=a) (.inr (.inr (.inr (.inr (.inr (.inr z))))));omega⟩
 ·rcases e with e | e | e | e | e | e | e
  ·exact .inl (.inl e)
  ·exact .inl (.inr (.inl e))
  ·exact .inl (.inr (.inr (.inl e)))
  ·exact(TJ e n).imp (fun e=>.inr (.inr (.inr (.inl e)))) id
  ·exact .inl (.inr (.inr (.inr (.inr (.inl e)))))
  ·exact .inl (.inr (.inr (.inr (.inr (.inr (.inl e))))))
  ·rcases dq.1 (show k∈S.gs++[g] from e) with e | e
   ·exact .inl (.inr (.inr (.inr (.inr (.inr (.inr e))))))
   ·rw[dd]at e;exact .inr (by omega)
theorem aat(M:mK c w0 F B)(h:jV c w0 F B W S){st:Nat}(hs:c.st0 st)(aw:S.st.Nodup)(s:Nat×Nat)(hm:S.st.length<=900000/\S.wq.length<=900000):χ prog 60 #[π (ο ⟨c.lb,0,ν⟩),γ #[ι ξ (s.1:Int),ι ξ (s.2:Int)]] W fun e W'=>∃(p:Nat)(S':bK),e=δ (ι ξ (p:Int))/\bB c w0 F B W S W' S'/\JJ c st S s p S':=by
 obtain⟨W1,r⟩:=aC (W.alloc (ζ #[ι ξ (s.1:Int),ι ξ (s.2:Int)] 172));have z:φ W.heap.size W W1:=by rw[r];exact(cV _ _).alloc (zL0) _
 have n:W1.heap.size=W.heap.size+1:=by rw[r];simp
 have kB:aj W1 W.heap.size #[ι ξ (s.1:Int),ι ξ (s.2:Int)] 172:=by rw[r];exact aj.new ..
 have T1:=bB.move h (fun k l=>z.block k l) M (by omega) ⟨z.1,z.2,z.3⟩;have N:=kB.a0;have x1:=kB.a1;have d8:=T1.m.blk.a8;obtain⟨D,ao⟩:=aF W.heap.size;have o:¬S.own c D:=fun e=>by have:=h.zf e;omega
 rw[ao]at N x1 kB
 by_cases hin:s∈S.st
 ·obtain⟨p,hp⟩:=fb.1 hin
  have lk:∀nq,(Instr.lookup 84 (.map (ο c.pm)) (γ #[ι ξ (s.1:Int),ι ξ (s.2:Int)]) η).run prog (W1.drewN nq)=.ok (θ #[ι ξ (p:Int),μ η]) (W1.drewN nq):=fun nq=>iF.hit (w:=W1.drewN nq) Tryz.JV Tryz.JW (T1.m.map.move rfl) aw hp
  have HT:Hid (∀nq,bB c w0 F B W S (W1.drewN nq) S):=fun nq=>T1.trans (bB.move T1.m (fun _ _=>rfl) M (zL0) ⟨rfl,rfl,rfl⟩)
  have HP:Hid (JJ c st S s p S):=⟨hp,.inl ⟨rfl,rfl,rfl,rfl⟩⟩;clear T1 z kB n hin hp;go_enter func60,ntmps60;go_upto_region 1 with fail
  rw[<-r];clear r
  go_quiet (fail)
  go_wp2_with fail;go_ret;exact⟨p,S,rfl,HT.out _,HP.out⟩
 ·have lk:∀nq,(Instr.lookup 84 (.map (ο c.pm)) (γ #[ι ξ (s.1:Int),ι ξ (s.2:Int)]) η).run prog (W1.drewN nq)=.ok (θ #[ι ξ 0,μ ε]) (W1.drewN nq):=fun nq=>iF.miss (w:=W1.drewN nq) Tryz.JV Tryz.JW Tryz.Gl (T1.m.map.move rfl) hin
  have HT:Hid (∀nq,bB c w0 F B W S (W1.drewN nq) S):=fun nq=>T1.trans (bB.move T1.m (fun _ _=>rfl) M (zL0) ⟨rfl,rfl,rfl⟩)
  have HB:Hid (∀nq,aj (W1.drewN nq) D #[ι ξ (s.1:Int),ι ξ (s.2:Int)] 172):=fun nq=>kB
  clear T1 z kB n;go_enter func60,ntmps60;go_upto_region 1 with fail
  rw[<-r];clear r
  go_quiet (fail)
  have T2:=HT.out nq;have kB:=HB.out nq;clear HT HB lk N x1 d8;generalize W1.drewN nq=W2 at T2 kB|-;have d:=T2.m;obtain⟨sa,sc,oG,a9⟩:=aB d.rS;have d9:W2.cell? ⟨c.lb,9,ν⟩=ο (ς sa S.st.length sc):=by rw[<-oG];exact d.blk.cell 9
  have N:=kB.a0;have x1:=kB.a1;have d8:=d.blk.a8;obtain⟨f,av,Bq,E,Q⟩:=iF.put (w:=W2.drew) Tryz.JV Tryz.JW (d.map.move rfl) hin;unfold bq at av;have I:∀k,k<W2.heap.size->k≠c.pm->f.heap[k]?=W2.heap[k]?:=fun k l hn=>E.block k l fun e=>hn (by cases e;rfl)
  have A:dD c w0 F B f S (S.st++[s]):=by
   have l:∀{k t:Nat},oJ W2 k t->f.heap[k]?=W2.heap[k]?:=fun l=>I _ (by obtain⟨y,hy⟩:=l;exact(ei.1 hy).1) (d.Kq l)
   refine⟨fun k l=>?_,(l d.kL).trans d.blk,ay d.rS fun g e=>l (d.kS e),ay d.rA fun g e=>l (d.kA e),d.rQ.move fun g e=>l (d.kQ e),ay d.rW fun g e=>l (d.kW e),Bq,fun i g hi=>?_,d.pQ,by rw[Q];exact d.big⟩
   ·have hl:=M.low k l
    exact(I k (dg hl.1 d.big) hl.2.2).trans (d.keep k l)
   ·obtain⟨a1,ws,a2,a3,a4⟩:=d.sets i g hi
    exact⟨a1,ws,a2,a3.move (l (d.kG (cM hi))),a4⟩
  have X3:=T2.x.trans ⟨fun k l o=>I k l fun e=>o (e▸.inr (.inl rfl)),fun _ e=>.inl e,by rw[Q];exact zL0,E.1,E.2,E.3⟩;have u:aj f D #[ι ξ (s.1:Int),ι ξ (s.2:Int)] 172:=(I _ kB.lt fun e=>o (e▸.inr (.inl rfl))).trans kB;have S3:f.cell? ⟨c.lb,8,ν⟩=ο (.map (ο c.pm))/\f.cell? ⟨D,0,ν⟩=ο (ι ξ (s.1:Int))/\f.cell? ⟨D,1,ν⟩=ο (ι ξ (s.2:Int)):=⟨A.blk.cell 8,u.cell 0,u.cell 1⟩;have Xp:Hid _:=A;have af:Hid _:=X3;have V:Hid _:=oG;clear Bq E Q I A X3 T2 d oG;go_upto_region 5 with fail
  go_region_held3 (fun w'=>w'.cell? ⟨c.lb,8,ν⟩=ο (.map (ο c.pm))/\w'.cell? ⟨D,0,ν⟩=ο (ι ξ (s.1:Int))/\w'.cell? ⟨D,1,ν⟩=ο (ι ξ (s.2:Int))) (first | go_keep | assumption | exact S3) (fail)
  have A:=Xp.out;obtain⟨i0,J,C,n,H⟩:=ft Tryz.alx;have d9:f.cell? ⟨c.lb,9,ν⟩=ο (ς sa S.st.length sc):=by rw[<-V.out];exact A.blk.cell 9
  have N:=u.a0;have x1:=u.a1;have l1:=A.blk.lt;have l2:=u.lt;have o3:(f.alloc (ζ #[ι ξ (s.1:Int),ι ξ (s.2:Int)] 172)).drew.ownsRow B 172 2 (ς sa S.st.length sc) S.st.length (S.st.flatMap zR):=by
   have:=A.rS;rw[V.out]at this;exact ay (this.alloc (ζ #[ι ξ (s.1:Int),ι ξ (s.2:Int)] 172)) fun _ _=>rfl
  have jg:aj (f.alloc (ζ #[ι ξ (s.1:Int),ι ξ (s.2:Int)] 172)).drew c.lb (c.cells S) 92:=(A.blk.alloc _).drew;have ai:(ς sa S.st.length sc).ownBlock≠ο c.lb:=fun e=>(A.kS (V.out▸e)).ne A.kL (by decide) rfl
  have ad:B<=(f.alloc (ζ #[ι ξ (s.1:Int),ι ξ (s.2:Int)] 172)).drew.heap.size:=by have:=A.big;show _<=(f.alloc _).heap.size;simp;omega
  clear A S3;go_wp2_with fail
  go_region_law (refine step_append_lies _ rfl (.tmp 33) (.tmp 35) 90 rfl B 172 i0 _ 2 16 Tryz.am9 J C n H rfl (by decide) (ς sa S.st.length sc) S.st.length (S.st.flatMap zR) (by simp[Act.eval]) o3 ⟨f.heap.size,0,ν⟩ 1 1 [ι ξ (s.1:Int),ι ξ (s.2:Int)] (by simp[Act.eval]) rfl (bQ (aj.new f _ 172).drew) (by simp[Value.oneCell']) (by decide) (by unfold maxLen;omega) (by omega) ad _ rfl ?_;intro g4 ag w4 uY ni Ee xL;have X:=jg.grown ni (fun e=>ai e.symm);have ar:w4.cell? ⟨c.lb,9,ν⟩=ο S.vS:=X.cell 9;have aq:=X.frozen 9)
  all_goals
   obtain⟨O,R⟩:=aC (ς (ο ⟨g4,0,ν⟩) (S.st.length+1) ag);rw[<-R]at uY|-;have Ki:f.grownBy w4 S.vS.ownBlock:=by
    rw[V.out];exact aI (b:=(f.alloc (ζ #[ι ξ (s.1:Int),ι ξ (s.2:Int)] 172)).drew) ⟨rfl,rfl,rfl,(aM f _ ν).size,fun i hi _=>ed _ _ _ hi⟩ ni
   have O8:S.vS.ownBlock=O.ownBlock\/∃g,O.ownBlock=ο g/\f.heap.size<=g:=by
    rw[R];rcases Ee with e|e
    ·exact .inl (V.out▸e)
    ·refine .inr ⟨g4,rfl,?_⟩
     rw[e];exact(aM f _ ν).size
   obtain⟨L,X4⟩:=Xp.out.anb M s Ki uY O8;have mE:aj (w4.setCell ⟨c.lb,9,ν⟩ O) D #[ι ξ (s.1:Int),ι ξ (s.2:Int)] 172:=(wW _ _ _ fun e=>o (.inl e)).trans ((Ki.block _ l2 fun e=>o (.inr (.inr (.inl e.symm)))).trans u);have Xq:=af.out.trans X4;clear R uY Ki O8 ni Ee xL X ar aq jg ad ai o3 l1 l2 d9 N x1 af Xp V u X4;generalize w4.setCell ⟨c.lb,9,ν⟩ O=W4 at L Xq mE|-;clear d9 N x1 d8 kB C n H J i0;obtain⟨j0,hj,aa,ac,an⟩:=ft Tryz.OH;have Qy:W4.cell? ⟨c.lb,12,ν⟩=ο S.vW:=L.blk.cell 12;have oW:(W4.alloc (ζ #[μ ε] 4)).ownsRow B 4 1 S.vW S.ws.length (S.ws.map μ):=L.rW.alloc (ζ #[μ ε] 4);have X:aj (W4.alloc (ζ #[μ ε] 4)) c.lb (c.cells { S with vS:=O,st:=S.st++[s] }) 92:=L.blk.alloc _;have ah:S.vW.ownBlock≠ο c.lb:=fun e=>(L.kW e).ne L.kL (by decide) rfl
   have am:B<=(W4.alloc (ζ #[μ ε] 4)).heap.size:=cY L.big (aM W4 _ ν).size;have aA:S.ws.length+1<=900001:=by have:=h.lw;omega
   go_upto_region 8 with (at_builtin;refine ii _ rfl _ _ 81 rfl B 4 j0 _ 1 1 Tryz.ana hj aa ac an rfl (by decide) S.vW S.ws.length (S.ws.map μ) rfl oW ⟨W4.heap.size,0,ν⟩ 1 1 [μ ε] rfl rfl (bQ (aj.new W4 #[μ ε] 4)) (by simp[Value.oneCell']) (by unfold maxLen;omega) (by omega) am ?_;intro v5 w5 kH U _ Em;obtain⟨Z,vc,rfl,-⟩:=aB kH;have wO:=X.grown U (fun e=>ah e.symm);have c5:w5.cell? ⟨c.lb,12,ν⟩=ο S.vW:=wO.cell 12;have f5:=wO.frozen 12)
   have K:=aI (aM W4 _ _) U;have al:S.vW.ownBlock=(ς Z (S.ws.length+1) vc).ownBlock\/∃g,(ς Z (S.ws.length+1) vc).ownBlock=ο g/\W4.heap.size<=g:=Em.imp Eq.symm fun e=>⟨_,e,(aM W4 _ ν).size⟩
   obtain⟨v,X5⟩:=L.anc M ε K kH al;have lJ:aj (w5.setCell ⟨c.lb,12,ν⟩ (ς Z (S.ws.length+1) vc)) D #[ι ξ (s.1:Int),ι ξ (s.2:Int)] 172:=(wW _ _ _ fun e=>o (.inl e)).trans ((K.block _ mE.lt fun e=>o (.inr (.inr (.inr (.inr (.inr (.inl e.symm))))))).trans mE);have QG:=Xq.trans X5;clear K al X5 kH U Em wO c5 f5 Xq mE L Qy oW X ah am hj aa ac an j0;generalize w5.setCell ⟨c.lb,12,ν⟩ (ς Z (S.ws.length+1) vc)=W5 at v QG lJ|-;generalize ς Z (S.ws.length+1) vc=v5 at v QG|-;obtain⟨i0,J,C,n,H⟩:=ft Tryz.TI;have Y:=agD M (W:=W5.drew) (v.move (fun _ _=>rfl) (zL0)) hs s;have QA:W5.cell? ⟨c.lb,10,ν⟩=ο S.vA:=v.blk.cell 10;have N:=lJ.a0;have x1:=lJ.a1;have HS:Hid (∀(q:Nat)(j:ω),W5.heap.size<=q->φ W5.heap.size W5 j->j.cell? ⟨c.lb,10,ν⟩=ο S.vA/\j.cell? ⟨D,0,ν⟩=ο (ι ξ (s.1:Int))/\j.cell? ⟨D,1,ν⟩=ο (ι ξ (s.2:Int))/\(j.alloc (ζ #[ς (ο ⟨q,0,ν⟩) c.nw c.nw] 174)).ownsRow B 174 1 S.vA S.gs.length (S.gs.map (iw c.nw))/\aj (j.alloc (ζ #[ς (ο ⟨q,0,ν⟩) c.nw c.nw] 174)) c.lb (c.cells { S with vS:=O,st:=S.st++[s],vW:=v5,ws:=S.ws++[ε] }) 92/\B<=(j.alloc (ζ #[ς (ο ⟨q,0,ν⟩) c.nw c.nw] 174)).heap.size):=fun q j Fe a=>by
    have Br:aj j c.lb (c.cells { S with vS:=O,st:=S.st++[s],vW:=v5,ws:=S.ws++[ε] }) 92:=(a.block _ v.blk.lt).trans v.blk;have qR:=lJ.on a;exact⟨Br.cell 10,qR.cell 0,qR.cell 1,(ay v.rA fun g e=>a.block g (v.rA.lt g e).2).alloc _,Br.alloc _,cY v.big (cY a.size (aM j _ ν).size)⟩
   have ab:S.vA.ownBlock≠ο c.lb:=fun e=>(v.kA e).ne v.kL (by decide) rfl
   have az:S.gs.length+1<=900001:=by have:=h.lg;omega
   go_wp2_with fail
   go_region_law (first
    | (refine eZ rfl 116 #[π (ο ⟨c.lb,0,ν⟩),γ #[ι ξ (s.1:Int),ι ξ (s.2:Int)]] (by go_simp) Y ?_;rintro e j⟨q,rfl,Fe,QI,a⟩;unfold iw;refine⟨_,rfl,?_⟩;have P:φ W5.heap.size W5 j:=⟨a.1,a.2,a.3,a.4,a.5⟩;obtain⟨z0,z1,z2,z3,z4,z5⟩:=HS.out q j Fe P;have z6:(j.alloc (ζ #[ς (ο ⟨q,0,ν⟩) c.nw c.nw] 174)).cell? ⟨c.lb,10,ν⟩=ο S.vA:=z4.cell 10)
    | (refine step_append_lies _ rfl (.tmp 52) (.tmp 56) 88 rfl B 174 i0 _ 1 24 Tryz.adK J C n H rfl (by decide) S.vA S.gs.length (S.gs.map (iw c.nw)) (by simp[Act.eval]) z3 ⟨j.heap.size,0,ν⟩ 1 1 [ς (ο ⟨q,0,ν⟩) c.nw c.nw] (by simp[Act.eval]) rfl (bQ (aj.new j _ 174)) (by simp[Value.oneCell']) (by decide) (by unfold maxLen;omega) (by omega) z5 _ rfl ?_;intro g7 ap w7 rM ze rY ax;have Ij:=z4.grown ze (fun e=>ab e.symm);have c7:w7.cell? ⟨c.lb,10,ν⟩=ο S.vA:=Ij.cell 10;have f7:=Ij.frozen 10))
   all_goals
    obtain⟨v7,T⟩:=aC (ς (ο ⟨g7,0,ν⟩) (S.gs.length+1) ap);rw[<-T]at rM|-;have Vu:=(aM j (ζ #[ς (ο ⟨q,0,ν⟩) c.nw c.nw] 174) ν).size;have Po:=aI ⟨P.1,P.2,P.3,P.size,fun i hi _=>P.block i hi⟩ (aI (aM j _ _) ze);have Eh:S.vA.ownBlock=v7.ownBlock\/∃g,v7.ownBlock=ο g/\W5.heap.size<=g:=by
     rw[T];rcases rY with e|e
     ·exact .inl e
     ·exact .inr ⟨g7,rfl,by rw[e];exact cY P.size Vu⟩
    have ae:TS w7 q (uG st c.nT s):=(QI.move (ed _ _ _ QI.blk.lt)).move (ze.block _ (dg QI.blk.lt Vu) fun e=>by
     have:=(v.rA.lt q e.symm).2;have:=show W5.heap.size<=q from Fe
     omega)
    obtain⟨Q7,X7⟩:=v.ane M Fe (abS st c.nT s) (by rw[h.ls,h.lg]) Po ae rM Eh;have ak:=QG.trans X7;clear X7 QG v ae Eh Po Vu T rM ze rY ax Ij c7 f7 z0 z1 z2 z3 z4 z5 z6 a P QI Fe HS Y ab J C n H i0 QA N x1 lJ;generalize w7.setCell ⟨c.lb,10,ν⟩ v7=W7 at Q7 ak|-;have M7:jV c w0 F B W7 { S with vS:=O,st:=S.st++[s],vW:=v5,ws:=S.ws++[ε],vA:=v7,gs:=S.gs++[q],ss:=S.ss++[uG st c.nT s] }:=⟨Q7,by show (S.gs++[q]).length=(S.st++[s]).length;simp[h.lg],by show (S.ss++[_]).length=(S.st++[s]).length;simp[h.ls],by show (S.ws++[ε]).length=(S.st++[s]).length;simp[h.lw]⟩;have q9:=aaX M M7 (p:=S.st.length) (by show _<(S.st++[s]).length;simp) (by show S.wq.length+1<=_;omega)
    go_wp2_with (go_at_call 64;refine q9.mono ?_;rintro e w8⟨rfl,S8,T8,G⟩)
    go_ret;have e1:(S.ws++[ε])[S.st.length]?=ο ε:=by rw[<-h.lw];simp
    have e2:(S.ws++[ε]).set S.st.length η=S.ws++[η]:=by rw[<-h.lw];simp
    refine⟨S.st.length,S8,rfl,⟨T8.m,ak.trans T8.x⟩,by rw[G.st];simp,.inr ⟨hin,G.st,G.ss,G.ws.trans e2,?_⟩⟩;rcases G.wq with ⟨k,-⟩|⟨-,k⟩
    ·have k':(S.ws++[ε])[S.st.length]?=ο η:=k
     rw[e1]at k';cases k'
    ·exact k
end
namespace Lx
def xJ(E:List Bool)(fs:List (List Nat))(X:Nat->Prop):List Nat->Nat->Prop
 | [],t=>X t
 |s::r,t=>dL (fs.getD s []) t=η\/(aJ E s=η/\xJ E fs X r t)
theorem SY(h:dL (dZ x y) t=η):dL x t=η\/dL y t=η:=by
 unfold dL at h|-;rw[Jm]at h
 split at h
 ·rw[sL,oY]at h
  exact h
 ·exact .inl h
theorem aau{E:List Bool}{a:List (List Nat)}{b:List Nat}{t:Nat}:∀(r x:List Nat),dL (jR E a b r x) t=η->dL x t=η\/xJ E a (fun t=>dL b t=η) r t
 | [],x,h=>SY h
 |s::r,x,h=>by
  unfold jR at h
  split at h
  ·rename_i c
   rcases aau r _ h with h|h
   ·exact(SY h).imp id .inl
   ·exact .inr (.inr ⟨c,h⟩)
  ·exact(SY h).imp id .inl
theorem gI.trans{x y z:List Nat}(h:gI x y)(k:gI y z):gI x z:=⟨h.1.trans k.1,fun i=>by rw[<-k.2 i,<-vh,h.2 i]⟩
theorem Sn{E:List Bool}{b:List (List Nat)}{a:List Nat}:∀(r x:List Nat),gI x (jR E b a r x)
 | [],x=>(gI.refl x).join a
 |s::r,x=>by
  unfold jR
  split
  ·exact((gI.refl x).join _).trans (Sn r _)
  ·exact(gI.refl x).join _
theorem Sq{z:List Nat}(h:gI (dZ x z) y):dZ y z=y:=FT (yT ..) fun i a=>by
 rw[yT]at a;have h2:=h.2 i;have h1:=h.1;rw[yT]at h1;rw[Jm,du (by omega)]at h2;rw[Jm,du a,<-h2,vh,Nat.or_comm (y.getD i 0),<-vh,vh (x.getD i 0),Nat.or_self]
theorem Sr{E:List Bool}{b:List (List Nat)}{c:List Nat}:∀(r x y:List Nat),gI (jR E b c r x) y->jR E b c r y=y
 | [],x,y,h=>Sq h
 |s::r,x,y,h=>by
  unfold jR at h|-
  split
  ·rename_i a
   rw[du a]at h;rw[Sq ((Sn r _).trans h)];exact Sr r _ y h
  ·rename_i a
   rw[dt a]at h;exact Sq h
def mis:List Nat->Nat
 | []=>0
 |a::x=>(18446744073709551616-a)+mis x
theorem acX:∀{x y:List Nat},gI x y->jU y->mis y<=mis x/\(mis y=mis x->x=y)
 | [],[],_,_=>⟨zL0,fun _=>rfl⟩
 | [],_::_,h,_=>by have:=h.1;simp at this
 |_::_,[],h,_=>by have:=h.1;simp at this
 |a::x,b::y,h,hw=>by
  have d:a ||| b=b:=by simpa using h.2 0
  have f:gI x y:=⟨by simpa using h.1,fun i=>by simpa using h.2 (i+1)⟩;have j:=hw b eE;have c:a<=b:=by rw[<-d];exact Nat.left_le_or
  obtain⟨h1,h2⟩:=acX f fun z g=>hw z (eR _ g)
  simp only[mis];refine⟨by omega,fun e=>?_⟩;obtain rfl:a=b:=by omega
  rw[h2 (by omega)]
theorem ab0:∀(x:List Nat),mis x<=x.length*18446744073709551616
 | []=>by simp[mis]
 |a::x=>by
  have:=ab0 x;simp only[mis,List.length_cons,Nat.add_mul];omega
def xW:List (List Nat)->Nat
 | []=>0
 |x::l=>mis x+xW l
theorem aaY:∀(l:List (List Nat))(x:List Nat),xW (l++[x])=xW l+mis x
 | [],x=>by simp[xW]
 |y::l,x=>by
  rw[ip,xW,xW,aaY l x];omega
theorem aaZ:∀(l:List (List Nat))(b:Nat)(x y:List Nat),l[b]?=ο x->xW (l.set b y)+mis x=xW l+mis y
 | [],b,x,y,h=>by cases h
 |z::l,0,x,y,h=>by
  cases h;simp only[List.set_cons_zero,xW];omega
 |z::l,b+1,x,y,h=>by
  have:=aaZ l b x y (by simpa using h);simp only[List.set_cons_succ,xW];omega
theorem Y6(m:l.Nodup)(h:∀s∈l,s.1<a/\s.2<b):l.length<=a*b:=by
 have h1:(l.map fun s=>s.1*b+s.2).Nodup:=by
  rw[List.Nodup,ue];refine List.Pairwise.imp_of_mem (fun{s u}d j c e=>c ?_) m;have h1:=h s d;have h2:=h u j;have f:s.1=u.1:=by
   have g:(s.1*b+s.2) / b=s.1:=by rw[BE,Nat.mul_add_div (by omega),ut h1.2,nz]
   have i:(u.1*b+u.2) / b=u.1:=by rw[BE,Nat.mul_add_div (by omega),ut h2.2,nz]
   rw[<-g,<-i,e]
  rw[f]at e;exact sE f (by omega)
 have h2:=Js (a*b) _ h1 fun x k=>by
  obtain⟨s,d,rfl⟩:=fk.1 k;have:=h s d
  calc s.1*b+s.2<s.1*b+b:=by omega
   _=(s.1+1)*b:=by rw[tD,ud]
   _<=a*b:=kj b this.1
 simpa using h2
theorem gI.has(h:gI x y)(k:dL x t=η):dL y t=η:=by
 unfold dL at k|-;rw[<-h.2,sL,k,Bool.true_or]
end Lx
def aW.Dk(c:aW)(s:Nat×Nat):List (au×Nat):=(iE c.P c.f s.1 s.2 c.P.length).filter (iN c.P c.nT)
def aW.inn(c:aW)(x:au×Nat):Nat×Nat:=(x.2,(eF c.P x.1).getD 0)
def Mq(c:aW)(S:bK)(p:Nat)(x:au×Nat):Prop:=∃q,S.st[q]?=ο (c.inn x)/\jR c.E c.fs (S.ss.getD p []) (qy c.P x.1) (S.ss.getD q [])=S.ss.getD q []
structure Fg(c:aW)(st NM:Nat)(R:Nat×Nat->Prop)(G:Nat×Nat->Nat->Prop):Prop where
 r0:R (0,st)
 r1:∀s x,R s->x∈c.Dk s->R (c.inn x)
 rn:∀l:List (Nat×Nat),l.Nodup->(∀s∈l,R s)->l.length<=NM
 g0:G (0,st) 0
 g1:∀s x t,R s->x∈c.Dk s->xJ c.E c.fs (G s) (qy c.P x.1) t->G (c.inn x) t
structure jA(c:aW)(R:Nat×Nat->Prop)(G:Nat×Nat->Nat->Prop)(K:Nat->Nat->Prop)(S:bK):Prop where
 nd:S.st.Nodup
 lw:S.ws.length=S.st.length
 ls:S.ss.length=S.st.length
 qn:S.wq.Nodup
 q:∀p,p∈S.wq↔S.ws[p]?=ο η
 snd:∀p s,S.st[p]?=ο s->R s/\∀t,dL (S.ss.getD p []) t=η->G s t
 cls:∀p s j x,S.st[p]?=ο s->S.ws[p]?=ο ε->K p j->(c.Dk s)[j]?=ο x->Mq c S p x
 Iq:∀p u,c.st0 u->S.st[p]?=ο (0,u)->dL (S.ss.getD p []) 0=η
def bK.mu(c:aW)(NM:Nat)(S:bK):Nat:=2*((NM-S.st.length)*(c.nw*18446744073709551616+1)+xW S.ss)+S.wq.length
section
variable{c:aW}{w0:ω}{F:Nat -> Prop}{B:Nat}{W:ω}{S S' Bt:bK}{R:Nat×Nat -> Prop}{G:Nat×Nat -> Nat -> Prop}{K:Nat -> Nat -> Prop}{st NM:Nat}
theorem jV.wd(h:jV c w0 F B W S){i:Nat}{x:List Nat}(a:S.ss[i]?=ο x):jU x/\x.length=c.nw:=by
 have d:=(cH.1 a).1;obtain⟨g,b⟩:∃g,S.gs[i]?=ο g:=⟨_,cG (by rw[h.lg,<-h.ls];exact d)⟩;obtain⟨-,ws,a2,a3,a4⟩:=h.sets i g b;rw[a]at a2;cases a2;exact⟨a3.wd,a4⟩
theorem Oh{α:Type}{l:List (List α)}{x:List α}(h:l[i]?=ο x):l.getD i []=x:=by simp[h]
theorem NT{α:Type}{l:List (List α)}{x:List α}(h:i<l.length):(l++[x]).getD i []=l.getD i []:=by simp[List.getElem?_append_left h]
theorem iD{α:Type}{l:List α}{x:α}(h:l[i]?=ο x):i<l.length:=(cH.1 h).1
theorem jA.pop(h:jA c R G (fun _ _=>True) S){n:List Nat}(g:S.wq=a::n)(b:S'.st=S.st)(f:S'.ss=S.ss)(l:S'.ws=S.ws.set a ε)(m:S'.wq=n):jA c R G (fun p j=>p≠a\/j<0) S'/\S'.mu c NM+1=S.mu c NM/\a<S.st.length:=by
 have i:=h.qn;rw[g,tR]at i;have o:=(h.q a).1 (by rw[g];exact eE);have d:=iD o;refine⟨⟨by rw[b];exact h.nd,by rw[l,b,jp];exact h.lw,by rw[b,f];exact h.ls,by rw[m];exact i.2,fun p=>?_,by rw[b,f];exact h.snd,fun p s j x h1 h2 h3 h4=>?_,by rw[b,f];exact h.Iq⟩,?_,by rw[<-h.lw];exact d⟩
 ·rw[m,l,g8]
  by_cases e:a=p
  ·subst e
   rw[du rfl,du d];exact⟨fun k=>absurd k i.1,fun k=>by cases k⟩
  ·rw[dt e,<-h.q p,g,fh]
   exact⟨.inr,fun k=>k.resolve_left fun k=>e k.symm⟩
 ·have hp:=h3.resolve_right (tM j)
  rw[l,g8,dt fun e=>hp e.symm]at h2;rw[b]at h1;have:=h.cls p s j x h1 h2 trivial h4;unfold Mq at this|-;rw[b,f];exact this
 ·unfold bK.mu
  rw[b,f,m,g,eh];omega
theorem jA.placed(h:jA c R G K S)(T:Fg c st NM R G){p:Nat}(Z:R s)(J:JJ c st S s p S')(Di:0<c.nT)(N:c.st0 st):jA c R G K S'/\S'.mu c NM<=S.mu c NM/\S'.st[p]?=ο s/\(∀(i:Nat)u,S.st[i]?=ο u->S'.st[i]?=ο u):=by
 rcases J.or with ⟨f,l,m,y⟩|⟨X,f,l,m,y⟩
 ·refine⟨⟨by rw[f];exact h.nd,by rw[m,f];exact h.lw,by rw[f,l];exact h.ls,by rw[y];exact h.qn,by rw[y,m];exact h.q,by rw[f,l];exact h.snd,fun p s j x h1 h2 h3 h4=>?_,by rw[f,l];exact h.Iq⟩,?_,J.at',by rw[f];exact fun _ _ h=>h⟩
  ·rw[f]at h1
   rw[m]at h2;have:=h.cls p s j x h1 h2 h3 h4;unfold Mq at this|-;rw[f,l];exact this
  ·unfold bK.mu
   rw[f,l,y];exact zL0
 ·have hp:p=S.st.length:=by
   have k:=J.at';rw[f,kh]at k
   split at k
   ·exact absurd (cM k) X
   ·have:=iD k
    simp at this;omega
  have E:S'.st.Nodup:=by
   rw[f,j7];exact⟨h.nd,by simp,fun a Q b A=>by rw[dd]at A;subst A;exact fun e=>X (e▸Q)⟩
  have C:∀q u,S'.st[q]?=ο u->R u/\∀t,dL (S'.ss.getD q []) t=η->G u t:=fun q u g=>by
   rw[f,kh]at g
   split at g
   ·rename_i v
    rw[l,NT (by rw[h.ls];exact v)];exact h.snd q u g
   ·rename_i v
    have r:q=S.st.length:=by have:=iD g;simp at this;omega
    subst r;simp at g;subst g;refine⟨Z,fun t n=>?_⟩;have L:S'.ss.getD S.st.length []=uG st c.nT s:=by rw[l,<-h.ls];simp
    rw[L]at n;unfold uG at n;have V:∀t,dL (ψ (Lx.nW c.nT) 0) t=ε:=fun t=>by
     unfold dL;rw[di,mi]
     split <;> simp
    split at n
    ·rename_i D
     subst D;rw[aaT (by rw[js];unfold Lx.nW;omega),V,A4,me]at n;subst n;exact T.g0
    ·rw[V]at n
     cases n
  have M:∀q u,c.st0 u->S'.st[q]?=ο (0,u)->dL (S'.ss.getD q []) 0=η:=fun q u H g=>by
   rw[f,kh]at g
   split at g
   ·rename_i v
    rw[l,NT (by rw[h.ls];exact v)];exact h.Iq q u H g
   ·rename_i v
    have r:q=S.st.length:=by have:=iD g;simp at this;omega
    subst r;simp at g;subst g;have L:S'.ss.getD S.st.length []=uG st c.nT (0,u):=by rw[l,<-h.ls];simp
    have D:=fL (H.symm.trans N);rw[L,D,uG,du rfl,aaT (by rw[js];unfold Lx.nW;omega)];simp
  have aa:S.st.length+1<=NM:=by
   have:=T.rn S'.st E fun u g=>by
    obtain⟨q,Y⟩:=fb.1 g;exact(C q u Y).1
   rw[f]at this;simpa using this
  refine⟨⟨E,by rw[m,f];simp[h.lw],by rw[f,l];simp[h.ls],?_,fun q=>?_,C,fun q u j x h1 h2 h3 h4=>?_,M⟩,?_,J.at',fun i u g=>by rw[f,eL (iD g)];exact g⟩
  ·rw[y,j7]
   exact⟨h.qn,by simp,fun a Q b A=>by
    rw[dd]at A;subst A;have:=iD ((h.q a).1 Q);rw[h.lw]at this;omega⟩
  ·rw[y,m,dq,dd,kh,h.lw,h.q q]
   split
   ·rename_i v
    exact⟨fun k=>k.resolve_right (by omega),.inl⟩
   ·rename_i v
    constructor
    ·rintro(k | k)
     ·have:=iD k;rw[h.lw]at this;omega
     ·subst k;rw[hp];simp
    ·intro k
     have:=iD k;simp at this;exact .inr (by omega)
  ·have O:q<S.st.length:=by
    have k:=iD h1;rw[f]at k;rcases s7 q S.st.length with U|U
    ·exact U
    ·have D:q=S.ws.length:=by simp at k;rw[h.lw];omega
     rw[m,D]at h2;simp at h2
   rw[f,eL O]at h1;rw[m,eL (by rw[h.lw];exact O)]at h2;obtain⟨o,I,k2⟩:=h.cls q u j x h1 h2 h3 h4;have z:=iD I;refine⟨o,by rw[f,eL z];exact I,?_⟩;rw[l,NT (by rw[h.ls];exact O),NT (by rw[h.ls];exact z)];exact k2
  ·unfold bK.mu
   rw[f,l,y,cJ,cJ,aaY];have I:=ab0 (uG st c.nT s);rw[abS]at I;obtain⟨d,hd⟩:∃d,NM-S.st.length=d+1:=⟨NM-S.st.length-1,by omega⟩;have P:NM - (S.st.length+[s].length)=d:=by simp;omega
   rw[hd,P,tD,ud];unfold aW.nw;simp only[List.length_singleton];omega
theorem jA.hand(hg:Fg c st NM R G){x:au×Nat}(h:jA c R G (fun p j=>p≠a\/j<i) S)(ha:S.st[a]?=ο s)(hx:(c.Dk s)[i]?=ο x)(X:S.st[b]?=ο (c.inn x)){g:Bool}(d:Hands c S a b (qy c.P x.1) g S')
  (hW:∀(i:Nat)y,S'.ss[i]?=ο y->jU y) (h0:g=ε->Bt=S') (h1:g=η->Waits S' b Bt):jA c R G (fun p j=>p≠a\/j<i+1) Bt/\Bt.mu c NM<=S.mu c NM/\Bt.st=S.st:=by
 have ah:=iD ha;have T:=iD X;obtain⟨I,l⟩:∃y,S.ss[b]?=ο y:=⟨_,cG (by rw[h.ls];exact T)⟩;have N:=Oh l;obtain⟨y,O⟩:=aC (jR c.E c.fs (S.ss.getD a []) (qy c.P x.1) I);have m:S'.ss=S.ss.set b y:=by rw[d.ss,N,<-O]
 have aa:g=η↔y≠I:=by rw[d.grew,N,<-O]
 have n:gI I y:=by rw[O];exact Sn ..
 have M:∀q,S'.ss.getD q []=if q=b then y else S.ss.getD q []:=fun q=>by
  rw[m];simp only[List.getD_eq_getElem?_getD,List.getElem?_set]
  by_cases e:b=q
  ·subst e;rw[du rfl,du rfl,du (iD l)];rfl
  ·rw[dt e,dt fun k=>e k.symm]
 have Y:∀p u,S.st[p]?=ο u->R u/\∀t,dL (S'.ss.getD p []) t=η->G u t:=fun p u Q=>by
  refine⟨(h.snd p u Q).1,fun t V=>?_⟩;rw[M]at V
  split at V
  ·rename_i e
   subst e;rw[X]at Q;cases Q;rw[O]at V;rcases aau _ _ V with k|k
   ·exact(h.snd p _ X).2 t (by rw[N];exact k)
   ·refine hg.g1 s x t (h.snd a s ha).1 (cM hx) ?_
    have hm:∀(r:List Nat),xJ c.E c.fs (fun t=>dL (S.ss.getD a []) t=η) r t->xJ c.E c.fs (G s) r t:=fun r=>by
     induction r with
     |nil=>exact fun k=>(h.snd a s ha).2 t k
     |cons o r ih=>exact fun k=>k.imp id fun k=>⟨k.1,ih k.2⟩
    exact hm _ k
  ·exact(h.snd p u Q).2 t V
 have U:∀p u,c.st0 u->S.st[p]?=ο (0,u)->dL (S'.ss.getD p []) 0=η:=fun p u af Q=>by
  have:=h.Iq p u af Q;rw[M]
  split
  ·rename_i e
   subst e;rw[N]at this;exact n.has this
  ·exact this
 cases g with
 |false=>
  have ey:y=I:=xr fun k=>by have:=aa.2 k;cases this
  have es:S'.ss=S.ss:=by
   rw[m,ey];apply pS;intro j;rw[g8]
   split
   ·rename_i e;subst e;rw[l,du (iD l)]
   ·rfl
  rw[h0 rfl];refine⟨⟨by rw[d.st];exact h.nd,by rw[d.ws,d.st];exact h.lw,by rw[es,d.st];exact h.ls,by rw[d.wq];exact h.qn,by rw[d.wq,d.ws];exact h.q,by rw[d.st];exact Y,fun p u j z v J k3 L=>?_,by rw[d.st];exact U⟩,?_,d.st⟩
  ·rw[d.st]at v
   rw[d.ws]at J;unfold Mq;rw[d.st,es]
   by_cases e:p≠a\/j<i
   ·exact h.cls p u j z v J e L
   ·obtain rfl:p=a:=xr fun k=>e (.inl k)
    obtain rfl:j=i:=by omega
    rw[ha]at v;cases v;rw[hx]at L;cases L;exact⟨b,X,by rw[N,<-O];exact ey⟩
  ·unfold bK.mu
   rw[d.st,es,d.wq];exact zL0
 |true=>
  have ac:=aa.1 rfl;have w:=h1 rfl;have ad:S'.ss[b]?=ο y:=by rw[m,g8,du rfl,du (iD l)]
  have hm:=acX n (hW b y ad);have ae:=aaZ S.ss b I y l;rw[<-m]at ae;have A:Bt.ws=S.ws.set b η:=by rw[w.ws,d.ws]
  have D:b<S.ws.length:=by rw[h.lw];exact T
  have f:=w.st.trans d.st;have H:(S.ws[b]?=ο η/\Bt.wq=S.wq)\/(S.ws[b]?=ο ε/\Bt.wq=S.wq++[b]):=by
   have:=w.wq;rw[d.ws,d.wq]at this;exact this
  refine⟨⟨by rw[f];exact h.nd,by rw[A,f,jp];exact h.lw,by rw[w.ss,m,f,jp];exact h.ls,?_,fun p=>?_,by rw[f,w.ss];exact Y,fun p u j z v J k3 L=>?_,by rw[f,w.ss];exact U⟩,?_,f⟩
  ·rcases H with ⟨-,k⟩ | ⟨Z,k⟩
   ·rw[k];exact h.qn
   ·rw[k,j7]
    exact⟨h.qn,by simp,fun o ho o' ab=>by
     rw[dd]at ab;subst ab;intro e;subst e;rw[(h.q _).1 ho]at Z;cases Z⟩
  ·rw[A,g8]
   rcases H with ⟨Z,k⟩|⟨Z,k⟩
   ·rw[k,h.q p]
    by_cases e:b=p
    ·subst e;rw[du rfl,du D,Z]
    ·rw[dt e]
   ·rw[k,dq,dd,h.q p]
    by_cases e:b=p
    ·subst e;rw[du rfl,du D];exact⟨fun _=>rfl,fun _=>.inr rfl⟩
    ·rw[dt e];exact⟨fun k=>k.resolve_right fun k=>e k.symm,.inl⟩
  ·rw[f]at v
   have C:p≠b:=fun e=>by
    subst e;rw[A,g8,du rfl,du D]at J;cases J
   rw[A,g8,dt fun e=>C e.symm]at J;unfold Mq;rw[f,w.ss]
   by_cases e:p≠a\/j<i
   ·obtain⟨o,m1,m2⟩:=h.cls p u j z v J e L
    refine⟨o,m1,?_⟩;rw[M p,dt C,M o]
    split
    ·rename_i e2
     subst e2;rw[N]at m2;exact Sr _ I y (by rw[m2];exact n)
    ·exact m2
   ·obtain rfl:p=a:=xr fun k=>e (.inl k)
    obtain rfl:j=i:=by omega
    rw[ha]at v;cases v;rw[hx]at L;cases L;refine⟨b,X,?_⟩;rw[M p,dt C,M b,du rfl];exact Sr _ I y (by rw[<-O];exact gI.refl y)
  ·unfold bK.mu
   rw[f,w.ss];have ag:=Nat.lt_of_le_of_ne hm.1 fun e=>ac (hm.2 e).symm
   have mF:Bt.wq.length<=S.wq.length+1:=by
    rcases H with ⟨-,k⟩|⟨-,k⟩ <;> rw[k] <;> simp
   omega
end
def QJ(Ds:List Nat):List Deferred:=Ds.map fun D=>{ target:=.collected D,args:=#[] }
structure r9(w:ω)(Ds:List Nat):Prop where
 nd:Ds.Nodup
 at':∀D∈Ds,w.heap[D]?=ο (.deferred (ο []))
theorem r9.move{a:List Nat}(h:r9 w a)(c:∀D∈a,w'.heap[D]?=w.heap[D]?):r9 w' a:=⟨h.nd,fun D b=>(c D b).trans (h.at' D b)⟩
structure Vv(Ds:List Nat)(w w':ω):Prop where
 heap:∀k,k∉Ds->w'.heap[k]?=w.heap[k]?
 bL:w'.heap.size=w.heap.size
 fr:w'.os=w.os/\w'.tape=w.tape/\w'.output=w.output
theorem RG{F:Fence}{n:Nat}{P:Program}{fn:Func}{tmps:Array υ}{R:Ending->ω->Prop}:∀(Ds:List Nat)(w:ω),r9 w Ds->(∀w',Vv Ds w w'->LeavesIn F n P fn tmps R [] .returning w')->LeavesInM F n P fn tmps R (QJ Ds) .returning w
 | [],w,_,h=>h w ⟨fun _ _=>rfl,rfl,rfl,rfl,rfl⟩
 |D::Ds,w,hc,h=>by
  have d:=tR.1 hc.nd;refine⟨by simp,.inl ⟨D,_,rfl,run_takeDeferred (hc.at' D eE),RG Ds _ ⟨d.2,fun E b=>(World.putObj_heap_other (by rintro rfl;exact d.1 b)).trans (hc.at' E (eR _ b))⟩ fun w' a=>h w' ⟨fun k c=>(a.heap k fun e=>c (eR _ e)).trans (World.putObj_heap_other (by rintro rfl;exact c eE)),by rw[a.bL];simp[World.putObj],a.fr⟩⟩⟩
section
variable{c:aW}{w0:ω}{F:Nat -> Prop}{B:Nat}{W:ω}{S:bK}{R:Nat×Nat -> Prop}{G:Nat×Nat -> Nat -> Prop}{st NM:Nat}
theorem jA.none0(h:jV c w0 F B W S)(h1:S.st=[])(h2:S.wq=[]):jA c R G (fun _ _=>True) S:=by
 have a:=so.1 (by rw[h.lw,h1];rfl);refine⟨by rw[h1];simp,h.lw,h.ls,by rw[h2];simp,fun p=>by rw[h2,a];simp,fun p s hp=>by rw[h1]at hp;simp at hp,fun p s j x hp=>by rw[h1]at hp;simp at hp,fun p u _ hp=>by rw[h1]at hp;simp at hp⟩
theorem jV.aoj(f:mK c w0 F B)(h:jV c w0 F B W S){a:List Nat}(b:lG B W v a)(d:v.ownBlock=S.vQ.ownBlock):bB c w0 F B W S (W.setCell ⟨c.lb,11,ν⟩ v) { S with vQ:=v,wq:=a } :=
 ⟨⟨dD.stored f h.keep h.blk rfl h.rS h.rA b h.rW h.map h.sets h.pQ h.big,h.lg,h.ls,h.lw⟩,qY.stored (v:=ι ξ 0) (fun g e=>by cases e) ⟨rfl,rfl,rfl,zL0,fun _ _ _=>rfl⟩ fun k e=>by
  rcases e with e|e|e|e|e|e
  ·exact .inl (.inl e)
  ·exact .inl (.inr (.inl e))
  ·exact .inl (.inr (.inr (.inl e)))
  ·exact .inl (.inr (.inr (.inr (.inl e))))
  ·exact .inl (.inr (.inr (.inr (.inr (.inl (d.symm.trans e))))))
  ·exact .inl (.inr (.inr (.inr (.inr (.inr e)))))⟩
theorem dD.DR{g:List (Nat×Nat)}(h:dD c w0 F B W S g)(a:S.own c k)(f:Option (List Deferred)):W.heap[k]?≠ο (.deferred f):=fun e=>by
 have b:∀{t:Nat},oJ W k t->False:=fun⟨y,d⟩=>by rw[e]at d;cases d
 rcases a with rfl|rfl|a|a|a|a|a
 ·exact b h.kL
 ·obtain⟨j,i,h1,-⟩:=h.map
  rw[e]at h1;cases h1
 ·exact b (h.kS a)
 ·exact b (h.kA a)
 ·exact b (h.kQ a)
 ·exact b (h.kW a)
 ·exact b (h.kG a)
theorem dD.TK{f:List (Nat×Nat)}(h:dD c w0 F B W S f)(a:S.own c k)(d:aj W k cs 176):False:=by
 have b:∀{t:Nat},oJ W k t->t≠176->False:=fun h1 h2=>h1.ne ⟨cs,d⟩ h2 rfl
 rcases a with rfl|rfl|a|a|a|a|a
 ·exact b h.kL (by decide)
 ·exact h.Kq ⟨cs,d⟩ rfl
 ·exact b (h.kS a) (by decide)
 ·exact b (h.kA a) (by decide)
 ·exact b (h.kQ a) (by decide)
 ·exact b (h.kW a) (by decide)
 ·exact b (h.kG a) (by decide)
theorem TL:∀(l:List (Nat×Nat))(a:Nat)(x y:Nat),l[a]?=ο (x,y)->(l.flatMap zR)[a*2]?=ο (ι ξ (x:Int))/\(l.flatMap zR)[a*2+1]?=ο (ι ξ (y:Int))
 | [],a,x,y,h=>by simp at h
 |p::l,0,x,y,h=>by
  simp only[List.getElem?_cons_zero,Option.some.injEq]at h;subst h;exact⟨rfl,rfl⟩
 |p::l,a+1,x,y,h=>by
  have:=TL l a x y (by simpa using h);rw[eS,show zR p=[ι ξ (p.1:Int),ι ξ (p.2:Int)] from rfl,show (a+1)*2=a*2+2 by omega];exact this
theorem akf(h:w.ownsRow B 172 2 v n (l.flatMap zR)){x y:Nat}(i:l[a]?=ο (x,y)):∃g cap,v=ς (ο ⟨g,0,ν⟩) n cap/\v.ownBlock=ο g/\w.cell? ⟨g,a*2,ν⟩=ο (ι ξ (x:Int))/\w.cell? ⟨g,a*2+1,ν⟩=ο (ι ξ (y:Int))/\n<=maxLen:=by
 obtain⟨f1,f2⟩:=TL l a x y i;have d:=iD f2;rcases h.2 with ⟨rfl,m⟩|⟨g,cap,f,rfl,o,k,h1,h2,h3,h4⟩
 ·have:=h.1
  omega
 ·have b:∀j,(⟨g,0,ν⟩:Addr).add j=⟨g,j,ν⟩:=fun j=>by unfold Addr.add;split <;> simp_all
  exact⟨g,cap,rfl,rfl,by rw[<-b];exact oj h (g:=g) rfl _ _ f1,by rw[<-b];exact oj h (g:=g) rfl _ _ f2,cY h1 h2⟩
def Ao(c:aW)(w0:ω)(F:Nat->Prop)(B:Nat)(R:Nat×Nat->Prop)(G:Nat×Nat->Nat->Prop)(NM a0:Nat)(w7:ω)(S6:bK)(i:Nat)(Z:Nat->Prop)(W':ω):Prop:=∃S',bB c w0 F B w7 S6 W' S'/\jA c R G (fun p j=>p≠a0\/j<i) S'/\S'.mu c NM<=S6.mu c NM/\(∀(j:Nat)u,S6.st[j]?=ο u->S'.st[j]?=ο u)/\∀k,Z k->w7.heap.size<=k/\k<W'.heap.size/\¬S'.own c k
theorem Ao.oD(d:mK c w0 F B){g:ω}{j:bK}(l:B<=g.heap.size):sF (Ao c w0 F B R G NM a0 g j) where
 own i Z A C row hs hg hr:=by
  obtain⟨b,T,I,m,st,z⟩:=hs;have ne:∀k,k<A.heap.size->(∀r,row=ο r->k≠r)->C.heap[k]?=A.heap[k]?:=fun k a f=>hg.block k a fun e=>f k e.symm rfl
  refine⟨b,⟨T.m.move (fun k a=>ne k ?_ fun r e=>?_) hg.size,fun k a f=>(ne k (dg a T.x.bL) fun r e=>?_).trans (T.x.aK k a f),T.x.new,cY T.x.bL hg.size,hg.1.trans T.x.fr.1,hg.2.trans T.x.fr.2.1,hg.3.trans T.x.fr.2.2⟩,I,m,st,fun k a=>⟨(z k a).1,dg (z k a).2.1 hg.size,(z k a).2.2⟩⟩
  ·exact a.elim (fun e=>T.m.zf e) fun e=>dg (d.low k e).1 T.m.big
  ·have:=z r (hr r e)
   rcases a with a|a
   ·rintro rfl;exact this.2.2 a
   ·have:=(d.low k a).1;omega
  ·have:=z r (hr r e);omega
 new i Z A o hs:=by
  obtain⟨b,T,I,m,st,z⟩:=hs;refine⟨b,T.trans (bB.move T.m (fun k a=>ed _ _ _ a) d (by simp) ⟨rfl,rfl,rfl⟩),I,m,st,fun k a=>?_⟩;rw[eC];rcases a with a|rfl
  ·exact⟨(z k a).1,by have:=(z k a).2.1;omega,(z k a).2.2⟩
  ·exact⟨T.x.bL,by omega,fun e=>by have:=T.m.zf e;omega⟩
theorem akg(i:mK c w0 F B)(hd:d<(bW c.P k).length):TlR w0 F (tailV (GU w0 c.gP k) d) (qy c.P (k,d)):=by
 obtain⟨p,hp⟩:∃p,c.P[k]?=ο p:=by
  cases h:c.P[k]? with
  |none=>simp[bW,h]at hd
  |some p=>exact⟨p,rfl⟩
 have g:bW c.P k=p.right:=by simp[bW,hp]
 have l:=i.rl k;rw[g]at hd l;obtain⟨r,s,-,q,-,m,a⟩:=i.prods.row k p hp;obtain⟨b,rfl,n,o⟩:=a.resolve_left fun h=>by rw[h.2.1]at hd;exact absurd hd (tM _)
 have e:(qy c.P (k,d)).length=p.right.length-d-1:=by unfold qy;rw[g,m7];omega
 unfold GU;rw[q];refine⟨_,_,by rw[e];rfl,by omega,fun j x f=>⟨b,d+1,?_,n,?_⟩⟩
 ·have:=iD f
  rw[e]at this;rw[dt (by omega),fX]
 ·unfold qy at f
  rw[g,t7]at f;exact o _ _ f
theorem jA.bnd{K:Nat->Nat->Prop}(h:jA c R G K S)(d:Fg c st NM R G):S.st.length<=NM/\S.wq.length<=S.st.length:=by
 refine⟨d.rn S.st h.nd fun s a=>?_,Js _ _ h.qn fun p hp=>?_⟩
 ·obtain⟨i,b⟩:=fb.1 a
  exact(h.snd i s b).1
 ·rw[<-h.lw]
  exact iD ((h.q p).1 hp)
theorem amE{r:Nat}(h:((k,d),r)∈c.Dk s):d<(bW c.P k).length:=by
 have h2:=(j'.1 h).2;unfold iN eF at h2;rcases s7 d (bW c.P k).length with h|h
 ·exact h
 ·rw[kf h]at h2
  cases h2
theorem Ao.next{o q:ω}{g b f:bK}{Z:Nat->Prop}{a:Act}(T1:bB c w0 F B o g W b)(m1:b.mu c NM<=g.mu c NM)(m:∀(j:Nat)u,g.st[j]?=ο u->b.st[j]?=ο u)(l:∀k,Z k->o.heap.size<=k/\k<W.heap.size/\¬b.own c k)(T:bB c w0 F B W b q f)(t:jA c R G (fun p j=>p≠a0\/j<i+1) f)(s:f.mu c NM<=b.mu c NM)(n:∀(j:Nat)u,b.st[j]?=ο u->f.st[j]?=ο u):tq Z (Ao c w0 F B R G NM a0 o g (i+1) Z) W .normal a q :=
 ⟨⟨f,T1.trans T,t,cY s m1,fun j u h=>n j u (m j u h),fun k d=>⟨(l k d).1,dg (l k d).2.1 T.x.bL,fun e=>by
  have:=l k d;rcases T.x.new k e with e|e
  ·exact this.2.2 e
  ·omega⟩⟩,fun k d r=>T.x.aK k r (l k d).2.2⟩
def Ku:Code->Code
 |.seq _ d=>d
 |k=>k
def F8(c:aW)(w0:ω)(F:Nat->Prop)(B:Nat)(W:ω)(S:bK)(R:Nat×Nat->Prop)(G:Nat×Nat->Nat->Prop)(st:Nat)(e:Ending)(W':ω):Prop:=e=δ (θ #[])/\∃S',bB c w0 F B W S W' S'/\jA c R G (fun _ _=>True) S'/\S'.wq=[]/\(0,st)∈S'.st
attribute [local go_sem] my
theorem agE(L:mK c w0 F B)(hG:Fg c st NM R G)(hs:c.st0 st)(co:c.nw<=100000)(c2:NM<=900000)(b7:∀s x,R s->x∈c.Dk s->∀y∈qy c.P x.1,y<c.sz){w3:ω}{S3:bK}{M p0:Nat}(c4:W.heap.size=M)(c0:B<=W.heap.size)(H:bB c w0 F B W S w3 S3)(hI:jA c R G (fun _ _=>True) S3)(kB:aj w3 M #[π (ο ⟨c.lb,0,ν⟩)] 176)(hp:(0,st)∈S3.st):(Ku (Ku (Tryz.f29.body.getD .skip))).wpIn Fence.wide 9 prog (bodyPostM Fence.wide 9 prog Tryz.f29 (F8 c w0 F B W S R G st)) { tmps:=#[π (ο ⟨c.lb,0,ν⟩),π (ο ⟨M,0,ν⟩),undef,undef,undef,undef,π (ο ⟨c.lb,0,ν⟩),π (ο ⟨c.lb,0,ν⟩),γ #[ι ξ 0,ι ξ (st:Int)],ι ξ (p0:Int),undef,undef,undef,undef,undef,undef,undef,undef,undef,undef,undef,undef,undef,undef,undef,undef,undef,undef,undef,undef,undef,undef,undef,undef,undef,undef,undef,undef,undef,undef,undef,undef,undef,undef,undef,undef,undef,undef,undef,undef,undef,undef,undef,undef,undef,undef,undef,undef,undef,undef,undef],defers:=[] } w3:=by
 have H0:Hid (bB c w0 F B W S w3 S3/\jA c R G (fun _ _=>True) S3/\r9 w3 []/\(∀D∈([]:List Nat),W.heap.size<=D)/\aj w3 M #[π (ο ⟨c.lb,0,ν⟩)] 176/\(0,st)∈S3.st):=⟨H,hI,⟨by simp,by simp⟩,by simp,kB,hp⟩;clear H hI kB hp;obtain⟨Q,hQ⟩:=aC (bodyPostM Fence.wide 9 prog Tryz.f29 (F8 c w0 F B W S R G st));rw[<-hQ]
 dsimp only[Tryz.f29,Ku,Option.getD]
 gi_wp2
 refine wpIn_loop_ghost_k (fun n a w=>∃(u2 u3 u4 u5 yF ER ET EU EW EX ab EY zM zN an ar ad ac ap am ak aq al aa aR az bj bd bc aH bi ax bg zO bh zP aw sD aA aP a9 zQ ba bb yG ao yH ah wK ai yK yL ae av ag:υ)(Ds:List Nat)(b:bK),n=b.mu c NM/\a={ tmps:=#[π (ο ⟨c.lb,0,ν⟩),π (ο ⟨M,0,ν⟩),u2,u3,u4,u5,π (ο ⟨c.lb,0,ν⟩),π (ο ⟨c.lb,0,ν⟩),γ #[ι ξ 0,ι ξ (st:Int)],ι ξ (p0:Int),yF,ER,ET,EU,EW,EX,ab,EY,zM,zN,an,ar,ad,ac,ap,am,ak,aq,al,aa,aR,az,bj,bd,bc,aH,bi,ax,bg,zO,bh,zP,aw,sD,aA,aP,a9,zQ,ba,bb,yG,ao,yH,ah,wK,ai,yK,yL,ae,av,ag],defers:=QJ Ds }/\Hid (bB c w0 F B W S w b/\jA c R G (fun _ _=>True) b/\r9 w Ds/\(∀D∈Ds,W.heap.size<=D)/\aj w M #[π (ο ⟨c.lb,0,ν⟩)] 176/\(0,st)∈b.st)) (S3.mu c NM) ⟨undef,undef,undef,undef,undef,undef,undef,undef,undef,undef,undef,undef,undef,undef,undef,undef,undef,undef,undef,undef,undef,undef,undef,undef,undef,undef,undef,undef,undef,undef,undef,undef,undef,undef,undef,undef,undef,undef,undef,undef,undef,undef,undef,undef,undef,undef,undef,undef,undef,undef,undef,undef,undef,undef,undef,[],S3,rfl,rfl,H0⟩ ?_;clear H0;rintro n a w⟨u2,u3,u4,u5,yF,ER,ET,EU,EW,EX,ab,EY,zM,zN,an,ar,ad,ac,ap,am,ak,aq,al,aa,aR,az,bj,bd,bc,aH,bi,ax,bg,zO,bh,zP,aw,sD,aA,aP,a9,zQ,ba,bb,yG,ao,yH,ah,wK,ai,yK,yL,ae,av,ag,Ds,b,rfl,rfl,H1⟩J K hJ hK;obtain⟨H,hI,hC,hD,kB,hp⟩:=H1.out;clear H1;have x0:=kB.a0
 cases hq:b.wq with
 |nil=>
  obtain⟨qa,qc,uH⟩:=H.m.rQ.form;have Il:w.cell? ⟨c.lb,11,ν⟩=ο (ς qa 0 qc):=by rw[hq]at uH;rw[show (0:Nat)=([]:List Nat).length from rfl,<-uH];exact H.m.blk.cell 11
  clear uH;have HF:Hid (∀w',Vv Ds w w'->F8 c w0 F B W S R G st (δ (θ #[])) w'):=fun w' hw=>by
   have cn:∀k,b.own c k\/F k->k∉Ds:=fun k l b2=>by
    rcases l with l|l
    ·exact H.m.DR l _ (hC.at' k b2)
    ·have:=(L.low k l).1
     have:=hD k b2;omega
   have hz:=Nat.le_of_eq hw.bL.symm;have bw:=H.x.fr;exact⟨rfl,b,⟨H.m.move (fun k l=>hw.heap k (cn k l)) hz,⟨fun k l hn=>(hw.heap k fun e=>by have:=hD k e;omega).trans (H.x.aK k l hn),H.x.new,cY H.x.bL hz,hw.fr.1.trans bw.1,hw.fr.2.1.trans bw.2.1,hw.fr.2.2.trans bw.2.2⟩⟩,hI,hq,hp⟩
  gi_wp2
  exact RG Ds w hC fun w' hw=>⟨_,po rfl _ _ _,HF.out w' hw⟩
 |cons a0 tl=>
  have bx:=H.m.rQ;rw[hq]at bx;obtain⟨gq,oq,cq,uH,b5,bv,Xt⟩:=bx.front;have Il:w.cell? ⟨c.lb,11,ν⟩=ο (ς (ο ⟨gq,oq,ν⟩) (tl.length+1) cq):=by rw[<-uH];exact H.m.blk.cell 11
  have e1:(0:Int)<((tl.length+1:Nat):Int):=by omega
  have e2:(0:Int)<(tl.length:Int)+1:=by omega
  have e3:=ge e2;have l1:=kB.lt;have l2:=H.m.blk.lt;have HV:Hid _:=uH;have HC:Hid _:=b5;clear uH b5
  gi_upto_region 4 with fail
  rename_i K5 uI;obtain⟨Y,aX⟩:=aC (w.alloc (ζ #[ι ξ (a0:Int)] 3));rw[<-aX];have N:φ w.heap.size w Y:=by rw[aX];exact(cV _ _).alloc (zL0) _
  have b9:Y.heap.size=w.heap.size+1:=by rw[aX];simp
  have O:aj Y w.heap.size #[ι ξ (a0:Int)] 3:=by rw[aX];exact aj.new ..
  have T4:=bB.move H.m (fun k l=>N.block k l) L (by omega) ⟨N.1,N.2,N.3⟩;have mE:=kB.go N l1;have bo:¬b.own c w.heap.size:=fun e=>by have:=H.m.zf e;omega
  have b4:¬b.own c M:=fun e=>H.m.TK e kB
  have C4:=hC.move fun D t=>N.block D (ei.1 (hC.at' D t)).1
  obtain⟨bf,cd⟩:=aF w.heap.size;rw[cd]at O b9 bo|-;clear aX x0 Il bv kB;have x0:=mE.a0;have Il:=(T4.m.blk.cell 11).trans (fd ο HV.out);have cp:=T4.m.blk.frozen 11;have cx:=HC.out;have b8:=Xt.move (w':=Y) fun g e=>N.block g (Xt.lt g e).2
  have HP:Hid (∀nq v,lG B Y v tl->v.ownBlock=ο gq->bB c w0 F B w b ((Y.drewN nq).setCell ⟨c.lb,11,ν⟩ v) { b with vQ:=v,wq:=tl }):=fun nq v hv he=>T4.trans (bB.trans (bB.move T4.m (W1:=Y.drewN nq) (fun _ _=>rfl) L (zL0) ⟨rfl,rfl,rfl⟩) (jV.aoj (W:=Y.drewN nq) L (T4.m.move (fun _ _=>rfl) (zL0)) (hv.move fun _ _=>rfl) (by rw[he,HV.out];rfl)))
  have bT:Hid (∃X:υ,lG B Y X tl/\X.ownBlock=ο gq/\(cq-1=0->X=ς (ο ⟨gq,oq,ν⟩) 0 0)/\(¬cq-1=0->X=ς (ο ⟨gq,oq+1,ν⟩) tl.length (cq-1))):=by
   refine⟨_,b8,by split <;> rfl,fun e=>?_,fun e=>?_⟩
   ·rw[du (by omega),e,show tl.length=0 by omega]
   ·rw[dt (by omega)]
  obtain⟨X,bV,kH,Xu,bR⟩:=bT.out;have T5:=fun nq=>HP.out nq X bV kH
  clear b8 Xt HP bT bV bx;have Xv:∀nq v,aj ((Y.drewN nq).setCell ⟨c.lb,11,ν⟩ v) bf #[ι ξ (a0:Int)] 3/\aj ((Y.drewN nq).setCell ⟨c.lb,11,ν⟩ v) M #[π (ο ⟨c.lb,0,ν⟩)] 176/\r9 ((Y.drewN nq).setCell ⟨c.lb,11,ν⟩ v) Ds:=fun nq v=>by
   have ne:∀{k:Nat},k≠c.lb->((Y.drewN nq).setCell ⟨c.lb,11,ν⟩ v).heap[k]?=Y.heap[k]?:=fun l=>wW (Y.drewN nq) 11 v l
   refine⟨(ne fun e=>bo (.inl e)).trans O,(ne fun e=>b4 (.inl e)).trans mE,C4.move fun D t=>ne fun e=>?_⟩;exact T4.m.DR (k:=D) (.inl e) _ (C4.at' D t)
  have bt:∀(u3 u4 u5 yF ER ET EU EW EX ab EY zM zN an ar ad ac ap am ak aq al aa aR az bj bd bc aH bi ax bg zO bh zP aw sD aA aP a9 zQ ba bb yG ao yH ah wK ai yK yL ae av ag X:υ)(U:ω),bB c w0 F B w b U { b with vQ:=X,wq:=tl }->(∀k,X.ownBlock=ο k->b.vQ.ownBlock=ο k)->aj U bf #[ι ξ (a0:Int)] 3/\aj U M #[π (ο ⟨c.lb,0,ν⟩)] 176/\r9 U Ds->K5 { tmps:=#[π (ο ⟨c.lb,0,ν⟩),π (ο ⟨M,0,ν⟩),π (ο ⟨bf,0,ν⟩),u3,u4,u5,π (ο ⟨c.lb,0,ν⟩),π (ο ⟨c.lb,0,ν⟩),γ #[ι ξ 0,ι ξ (st:Int)],ι ξ (p0:Int),yF,ER,ET,EU,EW,EX,ab,EY,zM,zN,an,ar,ad,ac,ap,am,ak,aq,al,aa,aR,az,bj,bd,bc,aH,bi,ax,bg,zO,bh,zP,aw,sD,aA,aP,a9,zQ,ba,bb,yG,ao,yH,ah,wK,ai,yK,yL,ae,av,ag],defers:=QJ Ds } U:=by
   clear T5 Xv HV HC C4 O mE b9 N T4 x0 Il cp cx e1 e2 e3 kH Xu bR X Y;intro u3 u4 u5 yF ER ET EU EW EX ab EY zM zN an ar ad ac ap am ak aq al aa aR az bj bd bc aH bi ax bg zO bh zP aw sD aA aP a9 zQ ba bb yG ao yH ah wK ai yK yL ae av ag X U T5 bM ⟨O,kB,Xw⟩;refine uI _ _ ?_;clear uI K5;obtain⟨I6,Xx,cy⟩:=hI.pop (NM:=NM) (S':={ b with vQ:=X,wq:=tl,ws:=b.ws.set a0 ε }) hq rfl rfl rfl rfl;have bU:=(hI.q a0).1 (by rw[hq];exact eE);obtain⟨⟨s1,s2⟩,b0⟩:∃s,b.st[a0]?=ο s:=⟨_,cG cy⟩;obtain⟨gW,cW,G8,Ir,cw,fw,cf⟩:=Jr T5.m.rW (p:=a0) (u:=μ η) (by rw[dj];show Option.map _ b.ws[a0]?=_;rw[bU];rfl);have x0:=kB.a0;have x1:=O.a0;have Qy:U.cell? ⟨c.lb,12,ν⟩=ο (ς (ο ⟨gW,0,ν⟩) b.ws.length cW):=(T5.m.blk.cell 12).trans (fd ο G8);have fa:=fw a0;have j1:(0:Int)<=(a0:Int):=by omega
   have j2:(a0:Int)<(b.ws.length:Int):=by rw[hI.lw];omega
   have ca:Hid (∀nq,bB c w0 F B w b ((U.drewN nq).setCell ⟨gW,a0,ν⟩ (μ ε)) { b with vQ:=X,wq:=tl,ws:=b.ws.set a0 ε }):=fun nq=>T5.trans (bB.trans (bB.move T5.m (W1:=U.drewN nq) (fun _ _=>rfl) L (zL0) ⟨rfl,rfl,rfl⟩) ((T5.m.move (W':=U.drewN nq) (fun _ _=>rfl) (zL0)).setW L Ir a0 ε))
   have EM:Hid (∀nq,aj ((U.drewN nq).setCell ⟨gW,a0,ν⟩ (μ ε)) bf #[ι ξ (a0:Int)] 3/\aj ((U.drewN nq).setCell ⟨gW,a0,ν⟩ (μ ε)) M #[π (ο ⟨c.lb,0,ν⟩)] 176/\r9 ((U.drewN nq).setCell ⟨gW,a0,ν⟩ (μ ε)) Ds):=fun nq=>by
    have ne:∀{k:Nat},k≠gW->((U.drewN nq).setCell ⟨gW,a0,ν⟩ (μ ε)).heap[k]?=U.heap[k]?:=fun l=>wW (U.drewN nq) a0 (μ ε) l
    have br:b.own c gW:=.inr (.inr (.inr (.inr (.inr (.inl Ir)))));refine⟨(ne (k:=bf) fun e=>bo (by rw[e];exact br)).trans O,(ne (k:=M) fun e=>b4 (by rw[e];exact br)).trans kB,Xw.move fun D t=>ne fun e=>?_⟩;exact T5.m.DR (k:=D) (by rw[e];exact .inr (.inr (.inr (.inr (.inr (.inl Ir)))))) _ (Xw.at' D t)
   clear T5 O kB Xw G8 Ir fw cf bU hI hq hC
   gi_wp2
   refine kV 6 (by kernel_rfl) (by kernel_rfl) (by kernel_rfl) ?_
   dsimp only[List.take,List.drop,List.length]
   repeat (gi_big_quiet_step (fail))
   refine wpQuietIn_nil ?_;rintro _⟨nq,rfl⟩;refine wpAnyIn_ready (rs:=[6]) (by kernel_rfl) (by simp) (AllReadyIn.cons rfl (fun K2 o=>?_) AllReadyIn.nil)
   go_simp
   refine o _ _ (wpAnyIn_done (by kernel_rfl) ?_ _);clear o K2;have V:=ca.out nq;obtain⟨O,kB,QK⟩:=EM.out nq;clear ca EM x0 x1 Qy fa j2 cw;generalize (U.drewN nq).setCell ⟨gW,a0,ν⟩ (μ ε)=w6 at V O kB QK|-;have b3:¬bK.own c { b with vQ:=X,wq:=tl,ws:=b.ws.set a0 ε } bf:=fun e=>bo (by
    rcases e with e|e|e|e|e|e|e
    ·exact .inl e
    ·exact .inr (.inl e)
    ·exact .inr (.inr (.inl e))
    ·exact .inr (.inr (.inr (.inl e)))
    ·exact .inr (.inr (.inr (.inr (.inl (bM _ e)))))
    ·exact .inr (.inr (.inr (.inr (.inr (.inl e)))))
    ·exact .inr (.inr (.inr (.inr (.inr (.inr e))))))
   have bD:¬bK.own c { b with vQ:=X,wq:=tl,ws:=b.ws.set a0 ε } M:=fun e=>V.m.TK e kB
   obtain⟨C,QL⟩:∃C:bK,C={ b with vQ:=X,wq:=tl,ws:=b.ws.set a0 ε }:=⟨_,rfl⟩;have Pv:C.st[a0]?=ο (s1,s2):=by rw[QL];exact b0
   have ce:(0,st)∈C.st:=by rw[QL];exact hp
   rw[<-QL]at V I6 Xx b3 bD;clear QL b0 hp bM;obtain⟨gS,cS,oG,cj,y1,y2,AA⟩:=akf V.m.rS Pv;have x0:=kB.a0;have x1:=O.a0;have m0:=V.m.blk.a0;have m1:=V.m.blk.a1;have m2:=V.m.blk.a2;have m3:=V.m.blk.a3;have m4:=V.m.blk.a4;have m5:=V.m.blk.a5;have d9:=(V.m.blk.cell 9).trans (fd ο oG);have j2:(a0:Int)<(C.st.length:Int):=by have:=iD Pv;omega
   clear oG cj AA
   gi_wp2
   refine kV 11 (by kernel_rfl) (by kernel_rfl) (by kernel_rfl) ?_
   dsimp only[List.take,List.drop,List.length]
   repeat (gi_big_quiet_step (fail))
   refine wpQuietIn_nil ?_;rintro _⟨qX,rfl⟩;refine wpAnyIn_ready (rs:=[11]) (by kernel_rfl) (by simp) (AllReadyIn.cons rfl (fun K2 o=>?_) AllReadyIn.nil)
   go_simp
   refine⟨trivial,(gh.2 aiM).mono ?_⟩;rintro e w7⟨rfl,aV⟩;refine o _ _ (wpAnyIn_done (by kernel_rfl) ?_ _);clear o K2;clear x0 x1 m0 m1 m2 m3 m4 m5 d9 j2 y1 y2
   gi_wp2
   obtain⟨bm,wN⟩:=aF w6.heap.size;have c3:w7.heap.size=bm+2:=by rw[aV];simp[wN]
   have fG:φ w6.heap.size w6 w7:=by rw[aV];exact((show φ w6.heap.size w6 (w6.drewN qX) from ⟨rfl,rfl,rfl,zL0,fun _ _=>rfl⟩).alloc (zL0) _).alloc (by rw[eC];exact nh _) _
   have T7:=bB.move V.m (fun k l=>fG.block k l) L (by omega) ⟨fG.1,fG.2,fG.3⟩;have kM:aj w7 bm #[ς c.ta c.nT c.tc,c.v1,ς (ο ⟨c.gP,0,ν⟩) c.P.length c.pc,c.v3,c.v4,.map (ο c.gm)] 86:=by
    rw[aV,<-wN];exact(aj.new (w6.drewN qX) _ _).alloc _
   have kS:aj w7 (bm+1) #[ι ξ (s1:Int),ι ξ (s2:Int)] 172:=by
    rw[aV,<-wN];have:=aj.new ((w6.drewN qX).alloc (ζ #[ς c.ta c.nT c.tc,c.v1,ς (ο ⟨c.gP,0,ν⟩) c.P.length c.pc,c.v3,c.v4,.map (ο c.gm)] 86)) #[ι ξ (s1:Int),ι ξ (s2:Int)] 172
    rwa [eC]at this
   have Xy:=kB.on fG;have Xz:=O.on fG;have b6:=QK.move fun D t=>fG.block D (ei.1 (QK.at' D t)).1
   have XB:¬C.own c bm/\¬C.own c (bm+1):=⟨fun e=>by have:=V.m.zf e;omega,fun e=>by have:=V.m.zf e;omega⟩;have bF:=V.trans T7;have zT:Hid (bB c w0 F B w b w7 C/\jV c w0 F B w7 C/\r9 w7 Ds/\jA c R G (fun p j=>p≠a0\/j<0) C/\C.mu c NM+1=b.mu c NM):=⟨bF,T7.m,b6,I6,Xx⟩;have HK:Hid (∀{W' S'},bB c w0 F B w7 C W' S'->aj W' M #[π (ο ⟨c.lb,0,ν⟩)] 176/\aj W' bf #[ι ξ (a0:Int)] 3):=fun T=>⟨(T.x.aK M Xy.lt bD).trans Xy,(T.x.aK bf Xz.lt b3).trans Xz⟩
   have HR:Hid (∀{W' S'},bB c w0 F B w7 C W' S'->Ma w0 F W' bm (ς c.ta c.nT c.tc) c.v1 (ς (ο ⟨c.gP,0,ν⟩) c.P.length c.pc) c.v3 c.v4 c.gm c.f/\aj W' (bm+1) #[ι ξ (s1:Int),ι ξ (s2:Int)] 172):=fun T=>⟨⟨(T.x.aK bm kM.lt XB.1).trans kM,T.m.keep,L.goes.move (T.m.keep _ L.fm)⟩,(T.x.aK (bm+1) kS.lt XB.2).trans kS⟩
   have Mr:=T7.m.big;have ck:(w6.drewN qX).heap.size=bm:=wN
   try simp only[ck]
   clear aV fG T7 bF kM kS Xy Xz b6 XB O kB QK V I6 Xx;have bu:=aiN (w0:=w0) (F:=F) (bm:=bm) (bs:=bm+1) (gm:=c.gm) (gP:=c.gP) (pc:=c.pc) (q:=s1) (n:=s2) (nT:=c.nT) (tc:=c.tc) (ta:=c.ta) (v1:=c.v1) (v3:=c.v3) (v4:=c.v4) (f:=c.f) L.prods L.pl L.rl;refine BF (gf:=117) (lb:=#[π (ο ⟨bm,0,ν⟩),π (ο ⟨bm+1,0,ν⟩)]) rfl (enters_of func117 (by kernel_rfl) rfl) bu (fun _=>rfl) (Ao c w0 F B R G NM a0 w7 C) (Ao.oD L Mr) (fun i Z W' h=>by obtain⟨S',T,-⟩:=h;exact HR.out T) ⟨C,bB.refl zT.out.2.1,zT.out.2.2.2.1,zL0,fun _ _ h=>h,fun k h=>h.elim⟩
    (fun x a' W'=>∃Bx,w7.heap.size+2<=Bx/\aj W' Bx #[ι ξ (x.2:Int),ι ξ ((eF c.P x.1).getD 0:Int)] 172/\a'={ tmps:=#[π (ο ⟨c.lb,0,ν⟩),π (ο ⟨M,0,ν⟩),π (ο ⟨bf,0,ν⟩),π (ο ⟨Bx,0,ν⟩),tailV (GU w0 c.gP x.1.1) x.1.2,u5,π (ο ⟨c.lb,0,ν⟩),π (ο ⟨c.lb,0,ν⟩),γ #[ι ξ 0,ι ξ (st:Int)],ι ξ (p0:Int),yF,ER,ET,EU,EW,EX,ab,EY,zM,zN,an,ar,ad,ac,ap,am,ak,aq,al,aa,π (ο ⟨c.lb,0,ν⟩),π (ο ⟨c.lb,0,ν⟩),π (ο ⟨c.lb,12,ν⟩),ς (ο ⟨gW,0,ν⟩) b.ws.length cW,ι ξ (a0:Int),π (ο ⟨gW,a0,ν⟩),π (ο ⟨c.lb,0,ν⟩),π (ο ⟨c.lb,0,ν⟩),π (ο ⟨c.lb,0,ν⟩),γ #[ς c.ta c.nT c.tc,c.v1,ς (ο ⟨c.gP,0,ν⟩) c.P.length c.pc,c.v3,c.v4,.map (ο c.gm)],π (ο ⟨c.lb,0,ν⟩),π (ο ⟨c.lb,0,ν⟩),π (ο ⟨c.lb,9,ν⟩),ς (ο ⟨gS,0,ν⟩) C.st.length cS,ι ξ (a0:Int),π (ο ⟨gS,a0*2,ν⟩),γ #[ι ξ (s1:Int),ι ξ (s2:Int)],.func (.func 117) #[] #[π (ο ⟨bm,0,ν⟩),π (ο ⟨bm+1,0,ν⟩)],γ #[ι ξ (x.2:Int),ι ξ ((eF c.P x.1).getD 0:Int)],tailV (GU w0 c.gP x.1.1) x.1.2,yG,ao,yH,ah,wK,ai,yK,yL,ae,av,ag],defers:=[] })
    ?hAx ?assign ?body ?done
   case hAx=>
    rintro x a' A o'⟨Bx,h1,h2,rfl⟩;exact⟨Bx,h1,(World.putObj_heap_other (by omega)).trans h2,rfl⟩
   case assign=>
    rintro l' i⟨⟨k,d⟩,r⟩Z W' K' hsz hi ch;simp only[Vn,bq]
    gi_wp2
    exact ch _ _ (by simp) (fun k _ l=>ed _ _ _ l) ((Ao.oD L Mr).own _ _ _ _ ν hi (sg _ _ ν) (fun r e=>by cases e)) ⟨W'.heap.size,by omega,aj.new ..,rfl⟩
   case body=>
    clear bu HR;rintro l' i⟨⟨k,d⟩,r⟩Z a' W' hx⟨S',T,I,m,af,z⟩⟨Bx,cz,kX,rfl⟩;obtain⟨kB,O⟩:=HK.out T;have x0:=kB.a0;have x1:W'.cell? ⟨Bx,0,ν⟩=ο (ι ξ (r:Int)):=kX.cell 0;have x2:W'.cell? ⟨Bx,1,ν⟩=ο (ι ξ ((eF c.P (k,d)).getD 0:Int)):=kX.cell 1;have cr:=I.bnd hG;have bp:((k,d),r)∈c.Dk (s1,s2):=cM hx;have bN:=amE bp;have aE:=af a0 _ Pv;have bz:=(I.snd a0 _ aE).1;have QM:=aat L T.m hs I.nd (c.inn ((k,d),r)) ⟨by omega,by omega⟩;have HI:Hid (bB c w0 F B w7 C W' S'/\jA c R G (fun p j=>p≠a0\/j<i) S'/\S'.mu c NM<=C.mu c NM):=⟨T,I,m⟩;clear T I m kX kB O
    gi_upto_region 10 with (refine⟨trivial,?_⟩;gi_at_call 60;refine(CallsIn.inRound l' (gh.2 QM)).mono ?_;rintro e W9⟨p,S9,rfl,T9,hP⟩)
    obtain⟨T,I,m⟩:=HI.out;obtain⟨I9,m9,bn,XC⟩:=I.placed hG (hG.r1 _ _ bz bp) hP L.nT.1 hs;obtain⟨kB,O⟩:=HK.out (T.trans T9);clear x0 x1 x2;have x0:=kB.a0;have x1:=O.a0;have XD:=XC a0 _ aE;have cs:=ahz L T9.m (iD XD) (iD bn) (akg L bN) (b7 _ _ bz bp) co;have HN:Hid (∀(g:Bool)uJ ru QN Ms(a:Act),bB c w0 F B W9 S9 uJ ru->Hands c S9 a0 p (qy c.P (k,d)) g ru->(g=ε->Ms=ru)->(g=η->Waits ru p Ms)->bB c w0 F B uJ ru QN Ms->tq Z (Ao c w0 F B R G NM a0 w7 C (i+1) Z) W' .normal a QN):=fun g uJ ru QN Ms a zU hH h0 h1 XE=>by
     obtain⟨ci,cb,cc⟩:=I9.hand hG (x:=((k,d),r)) XD hx bn hH (fun j y hy=>(zU.m.wd hy).1) h0 h1;exact Ao.next T m af z (T9.trans (zU.trans XE)) ci (cY cb m9) fun j u h=>by rw[cc];exact XC j u h
    have HW:Hid (∀(g:Bool)uJ ru,bB c w0 F B W9 S9 uJ ru->Hands c S9 a0 p (qy c.P (k,d)) g ru->aj uJ M #[π (ο ⟨c.lb,0,ν⟩)] 176/\bB c w0 F B uJ ru uJ ru/\χ prog 64 #[π (ο ⟨c.lb,0,ν⟩),ι ξ (p:Int)] uJ fun e W'=>e=δ (θ #[])/\∃S',bB c w0 F B uJ ru W' S'/\Waits ru p S'):=fun g uJ ru zU hH=>by
     have Df:=I9.bnd hG;exact⟨(HK.out ((T.trans T9).trans zU)).1,bB.refl zU.m,aaX L zU.m (by rw[hH.st];exact iD bn) (by rw[hH.wq];omega)⟩
    clear T I m I9 m9 bn XC kB O T9 hP QM HI HK zT aE XD cr bz bp bN b7 af z hx
    gi_wp2_with (first
     | (refine⟨trivial,?_⟩;gi_at_call 63;refine(CallsIn.inRound l' (gh.2 cs)).mono ?_;rintro e uJ⟨g,rfl,ru,zU,hH⟩;obtain⟨kB,cg,cm⟩:=HW.out _ _ _ zU hH;have x0:uJ.cell? ⟨M,0,ν⟩=ο (π (ο ⟨c.lb,0,ν⟩)):=kB.cell 0;cases g)
     | (refine⟨trivial,?_⟩;gi_at_call 64;refine(CallsIn.inRound l' (gh.2 cm)).mono ?_;rintro e QN⟨rfl,Ms,XE,cl⟩))
    all_goals first
     | exact HN.out _ _ _ _ _ _ zU hH (fun _=>rfl) (fun e=>by cases e) cg
     | exact HN.out _ _ _ _ _ _ zU hH (fun e=>by cases e) (fun _=>cl) XE
   case done=>
    rintro D Z W' t oF⟨S',T,I,m,af,z⟩XF;obtain⟨T7,M7,C7,I7,c1⟩:=zT.out;have aE:=af a0 _ Pv;refine hK _ _ ⟨S'.mu c NM,by omega,hJ _ _ _ ⟨_,_,_,_,_,_,_,_,_,_,_,_,_,_,_,_,_,_,_,_,_,_,_,_,_,_,_,_,_,_,_,_,_,_,_,_,_,_,_,_,_,_,_,_,_,_,_,_,_,_,_,_,_,_,_,D::Ds,S',rfl,rfl,H.trans (T7.trans T),⟨I.nd,I.lw,I.ls,I.qn,I.q,I.snd,fun p s j x h1 h2 _ h4=>I.cls p s j x h1 h2 ?_ h4,I.Iq⟩,⟨tR.2 ⟨fun e=>?_,C7.nd⟩,fun E hE=>?_⟩,fun E hE=>?_,(HK.out T).1,?_⟩⟩
    ·by_cases e:p=a0
     ·subst e
      rw[aE]at h1;cases h1;exact .inr (iD h4)
     ·exact .inl e
    ·have:=(ei.1 (C7.at' D e)).1
     omega
    ·rcases fh.1 hE with rfl | hE
     ·exact XF
     ·exact(T.x.aK E (ei.1 (C7.at' E hE)).1 fun e=>M7.DR e _ (C7.at' E hE)).trans (C7.at' E hE)
    ·rcases fh.1 hE with rfl | hE
     ·exact cY H.x.bL (cY T7.x.bL t)
     ·exact hD E hE
    ·obtain⟨q,hq⟩:=fb.1 ce
     exact cM (af q _ hq)
  clear uI
  by_cases hc1:cq-1=0
  ·have ct:cq=1:=by omega
   subst ct;rw[Xu rfl]at T5;refine kV 8 (by kernel_rfl) (by kernel_rfl) (by kernel_rfl) ?_
   dsimp only[List.take,List.drop,List.length]
   repeat (gi_big_quiet_step (fail))
   refine wpQuietIn_nil ?_;rintro _⟨nq,rfl⟩;refine wpAnyIn_ready (rs:=[8]) (by kernel_rfl) (by simp) (AllReadyIn.cons rfl (fun K2 o=>?_) AllReadyIn.nil)
   go_simp
   refine o _ _ (wpAnyIn_done (by kernel_rfl) ?_ _);exact bt _ _ _ _ _ _ _ _ _ _ _ _ _ _ _ _ _ _ _ _ _ _ _ _ _ _ _ _ _ _ _ _ _ _ _ _ _ _ _ _ _ _ _ _ _ _ _ _ _ _ _ _ _ _ _ _ (T5 nq) (fun k e=>by rw[HV.out];exact e) (Xv nq _)
  ·rw[bR hc1]at T5
   refine kV 8 (by kernel_rfl) (by kernel_rfl) (by kernel_rfl) ?_
   dsimp only[List.take,List.drop,List.length]
   repeat (gi_big_quiet_step (fail))
   refine wpQuietIn_nil ?_;rintro _⟨nq,rfl⟩;refine wpAnyIn_ready (rs:=[8]) (by kernel_rfl) (by simp) (AllReadyIn.cons rfl (fun K2 o=>?_) AllReadyIn.nil)
   go_simp
   refine o _ _ (wpAnyIn_done (by kernel_rfl) ?_ _);exact bt _ _ _ _ _ _ _ _ _ _ _ _ _ _ _ _ _ _ _ _ _ _ _ _ _ _ _ _ _ _ _ _ _ _ _ _ _ _ _ _ _ _ _ _ _ _ _ _ _ _ _ _ _ _ _ _ (T5 nq) (fun k e=>by rw[HV.out];exact e) (Xv nq _)
theorem ahA(i:mK c w0 F B)(h:jV c w0 F B W S)(h1:S.st=[])(h2:S.wq=[])(C:Fg c st NM R G)(t:c.st0 st)(q:c.nw<=100000)(v:NM<=900000)(o:∀s x,R s->x∈c.Dk s->∀y∈qy c.P x.1,y<c.sz):χ prog 29 #[π (ο ⟨c.lb,0,ν⟩)] W (F8 c w0 F B W S R G st):=by
 refine gh.1 (callsIn_of_wp_marks (F:=Fence.wide) (n:=9) func29 rfl trivial ?_ rfl);simp only[ntmps29,List.size_toArray,List.length_cons,List.length_nil,Nat.reduceAdd,Nat.reduceSub,Array.replicate_succ,Array.replicate_zero,List.push_toArray,List.append_toArray,List.nil_append,List.cons_append];have Y:prog.follows .mixedOrders=η:=by kernel_rfl
 obtain⟨g,z⟩:=aF W.heap.size;obtain⟨w1,d⟩:=aC (W.alloc (ζ #[π (ο ⟨c.lb,0,ν⟩)] 176));have a:φ W.heap.size W w1:=by rw[d];exact(cV _ _).alloc (zL0) _
 have b:aj w1 g #[π (ο ⟨c.lb,0,ν⟩)] 176:=by rw[d,<-z];exact aj.new ..
 have T1:=bB.move h (fun k E=>a.block k E) i a.size ⟨a.1,a.2,a.3⟩;have r:=h.big;have I0:jA c R G (fun _ _=>True) S:=jA.none0 h h1 h2;have D:=aar i (W:=w1.drew) (T1.m.todD.move (fun _ _=>rfl) (zL0)) t;have O:Hid (∀w2,φ w1.drew.heap.size w1.drew w2->w2.cell? ⟨g,0,ν⟩=ο (π (ο ⟨c.lb,0,ν⟩))/\aj w2 g #[π (ο ⟨c.lb,0,ν⟩)] 176/\bB c w0 F B W S w2 S/\χ prog 60 #[π (ο ⟨c.lb,0,ν⟩),γ #[ι ξ 0,ι ξ (st:Int)]] w2 fun e T=>∃(p:Nat)(S':bK),e=δ (ι ξ (p:Int))/\bB c w0 F B w2 S T S'/\JJ c st S (0,st) p S'):=fun w2 j=>by
  have f:aj w2 g #[π (ο ⟨c.lb,0,ν⟩)] 176:=(j.block _ b.lt).trans b;have T2:=T1.trans (bB.move T1.m (fun k E=>j.block k E) i j.size ⟨j.1,j.2,j.3⟩);exact⟨f.cell 0,f,T2,aat i T2.m t (by rw[h1];exact ot) (0,st) ⟨by rw[h1];simp,by rw[h2];simp⟩⟩
 have L:Hid (∀w2 l p0 u,aj w2 g #[π (ο ⟨c.lb,0,ν⟩)] 176->bB c w0 F B W S w2 S->bB c w0 F B w2 S l u->JJ c st S (0,st) p0 u->(Ku (Ku (Tryz.f29.body.getD .skip))).wpIn Fence.wide 9 prog (bodyPostM Fence.wide 9 prog Tryz.f29 (F8 c w0 F B W S R G st)) { tmps:=#[π (ο ⟨c.lb,0,ν⟩),π (ο ⟨g,0,ν⟩),undef,undef,undef,undef,π (ο ⟨c.lb,0,ν⟩),π (ο ⟨c.lb,0,ν⟩),γ #[ι ξ 0,ι ξ (st:Int)],ι ξ (p0:Int),undef,undef,undef,undef,undef,undef,undef,undef,undef,undef,undef,undef,undef,undef,undef,undef,undef,undef,undef,undef,undef,undef,undef,undef,undef,undef,undef,undef,undef,undef,undef,undef,undef,undef,undef,undef,undef,undef,undef,undef,undef,undef,undef,undef,undef,undef,undef,undef,undef,undef,undef],defers:=[] } l):=fun w2 l p0 u f T2 A I=>by
  obtain⟨N,-,at3,-⟩:=I0.placed C C.r0 I i.nT.1 t;refine agE i C t q v o z r (T2.trans A) N ((A.x.aK g f.lt fun e=>?_).trans f) (cM at3);exact T2.m.TK e f
 have U:=b.a0;clear I0 T1 a b h h1 h2 i C t q v o r;obtain⟨Q,K⟩:=aC (bodyPostM Fence.wide 9 prog Tryz.f29 (F8 c w0 F B W S R G st));rw[<-K]at L|-;clear K
 gi_upto_region 1 with fail
 rename_i V J;rw[<-d];clear d
 gi_region_with_o (first
  | (refine⟨trivial,?_⟩;gi_at_call 61;refine(gh.2 D).mono ?_;rintro e w2⟨rfl,H⟩;obtain⟨X,f,T2,M⟩:=O.out w2 H)
  | (refine⟨trivial,?_⟩;gi_at_call 60;refine(gh.2 M).mono ?_;rintro e l⟨p0,u,rfl,A,I⟩))
 all_goals exact J _ _ (L.out w2 l p0 u f T2 A I)
end
namespace Lx
theorem Om(h:u<10):(UInt8.ofNat (48+u)).toNat=48+u:=by
 rw[xx];omega
theorem alN:∀(u:Nat),∀b∈Lib.decDigits u,48<=b.toNat/\b.toNat<=57:=by
 intro u
 induction u using Nat.strongRecOn with
 |_ u ih=>
  intro b a;rw[Lib.decDigits]at a
  split at a
  ·rename_i h
   rw[dd]at a;subst a;rw[Om h];omega
  ·rename_i h
   rcases dq.1 a with a|a
   ·exact ih (u / 10) (by omega) b a
   ·rw[dd]at a
    subst a;rw[Om (by omega)];omega
def UD(l:List UInt8):Nat:=l.foldl (fun a b=>a*10+(b.toNat-48)) 0
theorem aa3:∀u:Nat,UD (Lib.decDigits u)=u:=by
 intro u
 induction u using Nat.strongRecOn with
 |_ u ih=>
  rw[Lib.decDigits]
  split
  ·rename_i h
   simp only[UD,List.foldl_cons,List.foldl_nil];rw[Om h];omega
  ·rename_i h
   have h1:=ih (u / 10) (by omega);unfold UD at h1|-;rw[pB,h1];simp only[List.foldl_cons,List.foldl_nil];rw[Om (by omega)];omega
theorem ac5(h:Lib.decDigits a=Lib.decDigits b):a=b:=by rw[<-aa3 a,<-aa3 b,h]
theorem Um{c:UInt8}:∀{A A' R R':List UInt8},c∉A->c∉A'->A++c::R=A'++c::R'->A=A'/\R=R'
 | [],[],_,_,_,_,h=>⟨rfl,by simpa using h⟩
 | [],a::A',_,_,_,h2,h=>by simp at h;exact absurd (h.1▸eE) h2
 |a::A,[],_,_,h1,_,h=>by simp at h;exact absurd (h.1▸eE) h1
 |a::A,b::A',R,R',h1,h2,h=>by
  simp only[List.cons_append,List.cons.injEq]at h;obtain⟨g,f⟩:=Um (fun d=>h1 (eR _ d)) (fun d=>h2 (eR _ d)) h.2;exact⟨by rw[h.1,g],f⟩
def mO(K:List au):List UInt8:=K.flatMap fun s=>Lib.decDigits s.1++46::(Lib.decDigits s.2++[32])
theorem FW(s:au)(K:List au):mO (s::K)=Lib.decDigits s.1++46::(Lib.decDigits s.2++32::mO K):=by
 show (Lib.decDigits s.1++46::(Lib.decDigits s.2++[32]))++mO K=_;simp
theorem OM{c:UInt8}(h:c.toNat<48):c∉Lib.decDigits u:=fun a=>by have:=alN u c a;omega
theorem ab9:∀{K K':List au},mO K=mO K'->K=K'
 | [],[],_=>rfl
 | [],s::K',h=>by
  rw[FW]at h;exact absurd (fd List.length h) (by simp[mO])
 |s::K,[],h=>by
  rw[FW]at h;exact absurd (fd List.length h) (by simp[mO])
 |s::K,s'::K',h=>by
  rw[FW,FW]at h;obtain⟨h1,h2⟩:=Um (OM (by decide)) (OM (by decide)) h;obtain⟨h3,h4⟩:=Um (OM (by decide)) (OM (by decide)) h2;rw[ab9 h4,sE (ac5 h1) (ac5 h3)]
def pV(K:List au):ByteArray:=⟨(mO K).toArray⟩
theorem acd{a:List au}(h:pV K=pV a):K=a:=by
 have h1:=fd ByteArray.data h;exact ab9 (by simpa [pV]using h1)
end Lx
def lI(w:ω)(B:Nat)(ts:List ByteArray):Prop:=∃es clock,w.heap[B]?=ο (.map es clock)/\es.size=ts.length/\∀(i:Nat)(e:MapEntry),es[i]?=ο e->∃t,ts[i]?=ο t/\e.key=τ t/\e.val=ι ξ (i:Int)
theorem lI.lt{b:List ByteArray}(h:lI w B b):B<w.heap.size:=by
 obtain⟨c,a,h1,-⟩:=h;exact(ei.1 h1).1
theorem lI.move{b:List ByteArray}(h:lI w B b)(d:w'.heap[B]?=w.heap[B]?):lI w' B b:=by
 obtain⟨c,a,h1,h2⟩:=h;exact⟨c,a,d.trans h1,h2⟩
theorem lI.made(w:ω):lI (w.alloc (.map #[] 0)) w.heap.size []:=⟨#[],0,py w _,rfl,fun i e h=>by simp at h⟩
theorem lI.keys{a:List ByteArray}(h:lI w B a):∃es clock,w.heap[B]?=ο (.map es clock)/\es.size=a.length/\(∀(i:Nat)(e:MapEntry),es[i]?=ο e->∃t,a[i]?=ο t/\e.key=τ t/\e.val=ι ξ (i:Int))/\∀x∈es.toList,∃c,x.key=τ c/\True:=by
 obtain⟨es,clock,h1,h2,h3⟩:=h;refine⟨es,clock,h1,h2,h3,fun x f=>?_⟩;obtain⟨i,d⟩:=fb.1 f;obtain⟨t,-,b,-⟩:=h3 i x (by rw[<-gz];exact d);exact⟨t,b,trivial⟩
theorem lI.miss{d:List ByteArray}(h:lI w B d){b:ByteArray}(l:b∉d):(Instr.lookup 69 (.map (ο B)) (τ b) η).run prog w=.ok (θ #[ι ξ 0,μ ε]) w:=by
 obtain⟨k,c,h1,h2,h3,h4⟩:=h.keys;rcases Tryz.xO.find w b k.toList trivial h4 with ⟨f,-⟩|⟨j,e,-,i,g⟩
 ·simp[Instr.lookup,run_underlying Tryz.Gj,MapKept.run_getObj_map h1,Tryz.xO.check,f,Result.andThen]
 ·obtain⟨t,ht,a,-⟩:=h3 j e (by rw[<-gz];exact i)
  rw[g]at a;cases a;exact absurd (cM ht) l
theorem lI.hit{p:List ByteArray}(h:lI w B p)(r:p.Nodup){b:ByteArray}(n:p[i]?=ο b):(Instr.lookup 69 (.map (ο B)) (τ b) η).run prog w=.ok (θ #[ι ξ (i:Int),μ η]) w:=by
 obtain⟨c,l,h1,h2,h3,h4⟩:=h.keys;rcases Tryz.xO.find w b c.toList trivial h4 with ⟨g,f⟩|⟨j,e,g,x,s⟩
 ·obtain⟨q,-⟩:=cH.1 n
  have o:c[i]?=ο c[i]:=lr (by omega);obtain⟨t,d,a,-⟩:=h3 i _ o;rw[n]at d;cases d;exact absurd a (f _ (by simp))
 ·have k:c[j]?=ο e:=by rw[<-gz];exact x
  obtain⟨t,d,a,v⟩:=h3 j e k;rw[s]at a;cases a;have m:j=i:=by
   obtain⟨z,u⟩:=cH.1 d;obtain⟨A,y⟩:=cH.1 n;exact(mC r).1 (u.trans y.symm)
  subst m;rw[v]at g;simp[Instr.lookup,run_underlying Tryz.Gj,MapKept.run_getObj_map h1,Tryz.xO.check,g,Result.andThen]
theorem lI.put{g:List ByteArray}(h:lI w B g){b:ByteArray}(q:b∉g):∃w',(Instr.mapUpdate 69 (.map (ο B)) (τ b) (ι ξ (g.length:Int))).run prog w=.ok () w'/\lI w' B (g++[b])/\w.grownBy w' (ο B)/\w'.heap.size=w.heap.size:=by
 obtain⟨n,a,h1,h2,h3,h4⟩:=h.keys;have d:∀o:Obj,w.grownBy { w with heap:=w.heap.setIfInBounds B o } (ο B):=fun o=>⟨rfl,rfl,rfl,by simp,fun k _ m=>(qk h1).2 k (fun e=>m (by rw[e]))⟩
 rcases Tryz.xO.find w b n.toList trivial h4 with ⟨p,-⟩|⟨j,e,-,s,m⟩
 ·refine⟨{ w with heap:=w.heap.setIfInBounds B (.map (n.push { key:=τ b,val:=ι ξ (g.length:Int),born:=a }) (a+1)) },?_,⟨_,a+1,(qk h1).1,by simp[h2],?_⟩,d _,by simp⟩
  ·simp[Instr.mapUpdate,run_underlying Tryz.Gj,MapKept.run_getObj_map h1,Tryz.xO.check,p,MapKept.run_setObj_map _ h1,Result.andThen]
  ·intro i e l
   rw[p6]at l
   split at l
   ·rename_i f
    cases l;refine⟨b,?_,rfl,by rw[f,h2]⟩;rw[f,h2];simp
   ·obtain⟨t,ht,c,r⟩:=h3 i e l
    refine⟨t,?_,c,r⟩;rw[eL (cH.1 ht).1];exact ht
 ·obtain⟨t,ht,c,-⟩:=h3 j e (by rw[<-gz];exact s)
  rw[m]at c;cases c;exact absurd (cM ht) q
end Go.Proofs.YtfpjphhnjegnjaaGreatDoor
namespace Go.Proofs
open Go.Shelf
def Tryz.af6:Go.Shelf.Ren:=⟨fun | 176=>147 | 249=>186 | 288=>200 | 283=>214 | 284=>215 | 285=>216 | 286=>217 | 129=>210 | 317=>229 | 318=>230 | 319=>231 | 320=>232 | 337=>236 | 338=>123 | n=>n,fun | 37=>126 | 2=>2 | 3=>3 | 53=>275 | 4=>4 | 9=>9 | 171=>368 | 0=>0 | 173=>370 | 212=>381 | 51=>140 | 5=>5 | 20=>20 | 213=>382 | 46=>234 | 232=>387 | 233=>335 | n=>n,fun | 17=>4 | 18=>5 | 19=>2 | n=>n⟩
theorem Tryz.akx:Go.Proofs.LaysM.n176 prog Tryz.af6:={
 mixed:=by kernel_rfl
 f129:=func210.trans (congrArg some (by kernel_rfl))
 f176:=func147.trans (congrArg some (by kernel_rfl))
 f249:=func186.trans (congrArg some (by kernel_rfl))
 f283:=func214.trans (congrArg some (by kernel_rfl))
 f284:=func215.trans (congrArg some (by kernel_rfl))
 f285:=func216.trans (congrArg some (by kernel_rfl))
 f286:=func217.trans (congrArg some (by kernel_rfl))
 f288:=func200.trans (congrArg some (by kernel_rfl))
 f317:=func229.trans (congrArg some (by kernel_rfl))
 f318:=func230.trans (congrArg some (by kernel_rfl))
 f319:=func231.trans (congrArg some (by kernel_rfl))
 f320:=func232.trans (congrArg some (by kernel_rfl))
 f337:=func236.trans (congrArg some (by kernel_rfl))
 f338:=func123.trans (congrArg some (by kernel_rfl))
 t0:=underlying0
 a0:=Tryz.isAgg0
 z0:=Tryz.sizeOf0
 v0:=Tryz.zeroValue0
 t2:=underlying2
 a2:=Tryz.isAgg2
 z2:=Tryz.sizeOf2
 v2:=Tryz.zeroValue2
 t3:=underlying3
 a3:=Tryz.isAgg3
 z3:=Tryz.sizeOf3
 v3:=Tryz.zeroValue3
 t4:=underlying4
 a4:=Tryz.isAgg4
 z4:=Tryz.sizeOf4
 v4:=Tryz.zeroValue4
 t5:=underlying5
 a5:=Tryz.isAgg5
 z5:=Tryz.sizeOf5
 v5:=Tryz.zeroValue5
 t9:=underlying9
 a9:=Tryz.isAgg9
 z9:=Tryz.sizeOf9
 v9:=Tryz.zeroValue9
 t20:=underlying20
 a20:=Tryz.isAgg20
 z20:=Tryz.sizeOf20
 v20:=Tryz.zeroValue20
 t37:=underlying126
 a37:=Tryz.isAgg126
 z37:=Tryz.sizeOf126
 v37:=Tryz.zeroValue126
 t46:=underlying234
 a46:=Tryz.isAgg234
 z46:=Tryz.sizeOf234
 v46:=Tryz.zeroValue234
 t51:=underlying140
 a51:=Tryz.isAgg140
 z51:=Tryz.sizeOf140
 v51:=Tryz.zeroValue140
 t53:=underlying275
 a53:=Tryz.isAgg275
 z53:=Tryz.sizeOf275
 v53:=Tryz.zeroValue275
 t171:=underlying368
 a171:=Tryz.isAgg368
 z171:=Tryz.sizeOf368
 v171:=Tryz.zeroValue368
 t173:=underlying370
 a173:=Tryz.isAgg370
 z173:=Tryz.sizeOf370
 v173:=Tryz.zeroValue370
 t212:=underlying381
 a212:=Tryz.isAgg381
 z212:=Tryz.sizeOf381
 v212:=Tryz.zeroValue381
 t213:=underlying382
 a213:=Tryz.isAgg382
 z213:=Tryz.sizeOf382
 t232:=underlying387
 a232:=Tryz.isAgg387
 z232:=Tryz.sizeOf387
 v232:=Tryz.zeroValue387
 t233:=underlying335
 a233:=Tryz.isAgg335
 z233:=Tryz.sizeOf335
 v233:=Tryz.zeroValue335
 g17:=by kernel_rfl
 g18:=by kernel_rfl
 g19:=by kernel_rfl
 i0:=by kernel_rfl
 i2:=by kernel_rfl
 i3:=by kernel_rfl
 i4:=by kernel_rfl
 i5:=by kernel_rfl
 i9:=by kernel_rfl
 i20:=by kernel_rfl
 i37:=by kernel_rfl
 i46:=by kernel_rfl
 i51:=by kernel_rfl
 i53:=by kernel_rfl
 i171:=by kernel_rfl
 i173:=by kernel_rfl
 i212:=by kernel_rfl
 i232:=by kernel_rfl
 i233:=by kernel_rfl
 m17:=by kernel_rfl
 m18:=by kernel_rfl
 m19:=by kernel_rfl }
def Tryz.Zz:Go.Shelf.Ren:=⟨fun | 6=>149 | 15=>189 | 14=>188 | 28=>209 | 29=>210 | 20=>201 | 21=>202 | 22=>203 | 23=>204 | 24=>205 | 25=>206 | 26=>207 | 27=>208 | 46=>218 | 47=>219 | 48=>220 | 49=>221 | 50=>222 | 57=>233 | n=>n,fun | 22=>222 | 24=>225 | 25=>317 | 3=>3 | 39=>234 | 0=>0 | 53=>140 | 55=>275 | 4=>4 | 46=>361 | 45=>360 | 50=>76 | 5=>5 | 9=>9 | 66=>372 | 70=>376 | 76=>383 | 77=>324 | n=>n,fun | n=>n⟩
theorem Tryz.ac6:Go.Proofs.SlLaysF0.n6 prog Tryz.Zz:={
 mixed:=by kernel_rfl
 f6:=⟨Tryz.f149.name,by decide,func149.trans (congrArg some (by kernel_rfl))⟩
 f14:=⟨Tryz.f188.name,by decide,func188.trans (congrArg some (by kernel_rfl))⟩
 f15:=func189.trans (congrArg some (by kernel_rfl))
 f20:=⟨Tryz.f201.name,by decide,func201.trans (congrArg some (by kernel_rfl))⟩
 f21:=⟨Tryz.f202.name,by decide,func202.trans (congrArg some (by kernel_rfl))⟩
 f22:=⟨Tryz.f203.name,by decide,func203.trans (congrArg some (by kernel_rfl))⟩
 f23:=⟨Tryz.f204.name,by decide,func204.trans (congrArg some (by kernel_rfl))⟩
 f24:=⟨Tryz.f205.name,by decide,func205.trans (congrArg some (by kernel_rfl))⟩
 f25:=⟨Tryz.f206.name,by decide,func206.trans (congrArg some (by kernel_rfl))⟩
 f26:=⟨Tryz.f207.name,by decide,func207.trans (congrArg some (by kernel_rfl))⟩
 f27:=⟨Tryz.f208.name,by decide,func208.trans (congrArg some (by kernel_rfl))⟩
 f28:=func209.trans (congrArg some (by kernel_rfl))
 f29:=func210.trans (congrArg some (by kernel_rfl))
 f46:=⟨Tryz.f218.name,by decide,func218.trans (congrArg some (by kernel_rfl))⟩
 f47:=func219.trans (congrArg some (by kernel_rfl))
 f48:=func220.trans (congrArg some (by kernel_rfl))
 f49:=⟨Tryz.f221.name,by decide,func221.trans (congrArg some (by kernel_rfl))⟩
 f50:=⟨Tryz.f222.name,by decide,func222.trans (congrArg some (by kernel_rfl))⟩
 f57:=⟨Tryz.f233.name,by decide,func233.trans (congrArg some (by kernel_rfl))⟩
 t0:=underlying0
 a0:=Tryz.isAgg0
 z0:=Tryz.sizeOf0
 v0:=Tryz.zeroValue0
 t3:=underlying3
 a3:=Tryz.isAgg3
 z3:=Tryz.sizeOf3
 v3:=Tryz.zeroValue3
 t4:=underlying4
 a4:=Tryz.isAgg4
 z4:=Tryz.sizeOf4
 v4:=Tryz.zeroValue4
 t5:=underlying5
 a5:=Tryz.isAgg5
 z5:=Tryz.sizeOf5
 v5:=Tryz.zeroValue5
 t9:=underlying9
 a9:=Tryz.isAgg9
 z9:=Tryz.sizeOf9
 v9:=Tryz.zeroValue9
 t22:=underlying222
 a22:=Tryz.isAgg222
 z22:=Tryz.sizeOf222
 v22:=Tryz.zeroValue222
 t25:=underlying317
 a25:=Tryz.isAgg317
 z25:=Tryz.sizeOf317
 v25:=Tryz.zeroValue317
 t39:=underlying234
 a39:=Tryz.isAgg234
 z39:=Tryz.sizeOf234
 v39:=Tryz.zeroValue234
 t45:=underlying360
 a45:=Tryz.isAgg360
 z45:=Tryz.sizeOf360
 v45:=Tryz.zeroValue360
 t46:=underlying361
 a46:=Tryz.isAgg361
 z46:=Tryz.sizeOf361
 v46:=Tryz.zeroValue361
 t50:=underlying76
 a50:=Tryz.isAgg76
 z50:=Tryz.sizeOf76
 v50:=Tryz.zeroValue76
 t53:=underlying140
 a53:=Tryz.isAgg140
 z53:=Tryz.sizeOf140
 v53:=Tryz.zeroValue140
 t55:=underlying275
 a55:=Tryz.isAgg275
 z55:=Tryz.sizeOf275
 v55:=Tryz.zeroValue275
 t66:=underlying372
 a66:=Tryz.isAgg372
 z66:=Tryz.sizeOf372
 v66:=Tryz.zeroValue372
 t70:=underlying376
 a70:=Tryz.isAgg376
 z70:=Tryz.sizeOf376
 v70:=Tryz.zeroValue376
 t76:=underlying383
 a76:=Tryz.isAgg383
 z76:=Tryz.sizeOf383
 v76:=Tryz.zeroValue383
 t77:=underlying324
 a77:=Tryz.isAgg324
 z77:=Tryz.sizeOf324
 v77:=Tryz.zeroValue324 }
end Go.Proofs
namespace Go.Proofs.YtfpjphhnjegnjaaGreatDoor
open Lx Go.Proofs.Tryz
open Go.RowKit Tr
open Go.Value renaming slice→ς,int→ι,string→τ,pointer→π,bool→μ
open Go.IntKind renaming i64→ξ
open Option renaming none→ν,some→ο
open Go.Ending renaming returned→δ
open Go.Obj renaming cells→ζ
open Bool renaming true→η,false→ε
open Go renaming World→ω,Value→υ,Calls→χ
open Go.RowKit renaming Below→φ
open List renaming replicate→ψ
variable{B B0 i j n nN nT nc q sz tc:Nat}{E:List Nat}{K:List au}{P:List Pd}{na ta:Option Addr}{v vB vK vP:υ}{w w':ω}
theorem Tryz.info5:(prog.info? 5).map (fun i=>(i.zero,i.size,i.bytes))=ο (ο (.int .u8 0),1,1):=by kernel_rfl
theorem Tryz.Rv:prog.underlying 126=ο (.slice 5):=by kernel_rfl
def BR(B:Nat)(w:ω)(v:υ)(l:List UInt8):Prop:=w.ownsRow B 5 1 v l.length (Lib.byteCells l)
theorem ZA(a b:List UInt8):Lib.byteCells (a++b)=Lib.byteCells a++Lib.byteCells b:=by simp[Lib.byteCells]
def KpB(w w':ω):Prop:=∀(g:Nat)(cs:Array υ)(e:Nat),e≠5->aj w g cs e->aj w' g cs e
theorem ZB {B : Nat}{w : World}{v : Value}{l : List UInt8}{n : Nat}(h : BR B w v l)(j : B ≤ w.heap.size)(q : n ≤ 1000000)(o : l.length ≤ 100000000000)(f : Lib.TabBelow prog B w "internal/strconv.uint64pow10" .u64 Lib.pow10Tab) : Calls prog 147 #[v, .int .i64 (n : Int), .int .i64 10] w fun e w' => ∃ v', e = .returned v' ∧ BR B w' v' (l ++ Lib.decDigits n) ∧ Below B w w' ∧ KpB w w' := by
 refine(Any.strconv_AppendInt_10 Tryz.akx B l.length (n:Int) (by omega) (by omega) v (Lib.byteCells l) w h j (by omega) f).mono ?_;rintro e w'⟨v',rfl,b,k,a⟩;refine⟨v',rfl,?_,k,fun g p e d i=>a g _ i (by simp) (fun c m h=>by cases h;exact d rfl)⟩;unfold BR;rw[ZA,cJ,<-Lib.itoa_nonneg];exact b
theorem Tryz.ace{i:Array Oper}{rest:List Oper}{o:Oper}{a:Act}{Q:Exit->Act->ω->Prop}(p:o.guard=ν)(s x:Operand)(F:o.op=.call { callee:=.builtin .append,args:=#[s,x],argTypes:=#[126,126] })(B:Nat)(M:B<=w.heap.size)(v:υ)(l:List UInt8)(G:a.eval s=v)(q:BR B w v l)(y:UInt8)(g c:Nat)(H:a.eval x=ς (ο ⟨g,0,ν⟩) 1 c)(I:w.cell? ⟨g,0,ν⟩=ο (ι .u8 (y.toNat:Int)))(P:l.length<=100000000000)(h:∀v' w',BR B w' v' (l++[y])->φ B w w'->KpB w w'->wpList prog i Q rest (a.put o.dst v') w'):wpList prog i Q (o::rest) a w:=by
 obtain⟨D,t,r,z,n⟩:=ft Tryz.info5;refine ii _ p s x 126 F B 5 D _ 1 1 Tryz.Rv t r z n rfl (by decide) v l.length (Lib.byteCells l) G q ⟨g,0,ν⟩ 1 c [ι .u8 (y.toNat:Int)] H rfl (by
  intro j u m
  match j,m with
  |0,m=>simp at m;subst m;simpa [Addr.add]using I) (by intro u A;simp at A;subst A;rfl) (by unfold maxLen;omega) (by omega) M fun N L d f _ _=>?_
 refine h N L ?_ ⟨f.os,f.tape,f.output,f.size,fun b O=>f.block b (by omega) fun e=>absurd (sf q b e.symm).1 (by omega)⟩ (fun g R e J k=>(f.block g k.lt fun K=>J (by
  obtain⟨E,C⟩:=bJ q K.symm;unfold aj at k;rw[k]at C;cases C;rfl)).trans k)
 unfold BR;rw[ZA,cJ];exact d
theorem Lx.aky(a:j<K.length):mO (K.take (j+1))=((mO (K.take j)++Lib.decDigits K[j].1)++[46]++Lib.decDigits K[j].2)++[32]:=by
 rw[fY a];unfold mO;rw[ik];simp
theorem OA(h:n<=1000000):(Lib.decDigits n).length<=21:=by
 have:=Lib.itoa_length_le (n:Int) (by omega) (by omega);rw[Lib.itoa_nonneg]at this;exact this
theorem Lx.alQ(h:∀s∈K,s.1<=1000000/\s.2<=1000000):(mO K).length<=K.length*44:=by
 induction K with
 |nil=>simp[mO]
 |cons s K ih=>
  rw[FW];have h1:=OA (h s eE).1;have h2:=OA (h s eE).2;have h3:=ih fun t a=>h t (eR _ a)
  simp only[List.length_append,List.length_cons];omega
theorem ahK(W:aO 109 2 jq B0 w v K)(z:K≠[])(hl:K.length<=1000000)(y:∀s∈K,s.1<=1000000/\s.2<=1000000)(N:iy w):χ prog 86 #[v] w fun e w'=>e=δ (τ (pV K))/\φ w.heap.size w w':=by
 obtain⟨a,c,rfl,-⟩:∃a c,v=ς a K.length c/\K.length<=maxLen:=aB W;have V:=Lib.tabBelow_of_tabIs N
 have T : Hid (Lib.TabBelow prog w.heap.size w "internal/strconv.uint64pow10" .u64 Lib.pow10Tab) := V
 have Z:Hid (∀s∈K,s.1<=1000000/\s.2<=1000000):=y;clear V N y;go_enter func86,ntmps86;go_wp2_with fail
 go_loopg [3,8] K.length (fun m v i wr=>∃j:Nat,j+m=K.length/\i=ι ξ (j:Int)/\BR w.heap.size wr v (mO (K.take j))/\φ w.heap.size w wr)
 case atStart=>exact⟨0,by omega,rfl,eV _ _ _ _,cV _ _⟩
 case round=>
  revert wr;intro n hrel;obtain⟨j,ae,rfl,k,d⟩:=hrel;have hsz:=d.size;have f:(mO (K.take j)).length<=44000000:=by
   have:=alQ (K:=K.take j) fun s y=>Z.out s (mw y)
   simp only[List.length_take]at this;omega
  by_cases hlt:j<K.length
  ·obtain⟨g,q,hv,-,lg,E⟩:=aO.at Cv (aO.below W d) hlt
   cases hv;have S:=E 0 _ (by decide) rfl;have Y:=E 1 _ (by decide) rfl;have o:=Z.out K[j] (eJ hlt);have p:Hid (mO (K.take (j+1))=((mO (K.take j)++Lib.decDigits K[j].1)++[46]++Lib.decDigits K[j].2)++[32]):=aky hlt;have l1:=OA o.1;have l2:=OA o.2;clear E;generalize K[j]=s at S Y o p l1 l2;obtain⟨sk,M⟩:=s;simp only[Nat.add_zero]at S Y o l1 l2;generalize hX:mO (K.take j)=X at k f p;clear hX;have i1:(0:Int)<=(j:Int):=by omega
   have i2:(j:Int)<(K.length:Int):=by omega
   obtain⟨x,b⟩:=aC (n.alloc (ζ #[ι ξ (sk:Int),ι ξ (M:Int)] 109));have t:φ n.heap.size n x:=by rw[b];exact(cV _ _).alloc (zL0) _
   have R:aj x n.heap.size #[ι ξ (sk:Int),ι ξ (M:Int)] 109:=by rw[b];exact aj.new n _ 109
   have ad:x.heap.size=n.heap.size+1:=by rw[b];simp
   have s0:=R.a0;have F:BR w.heap.size x _ X:=own_below k t;have O:=d.trans (t.mono (by omega));have Q:=ZB F (by omega) o.1 (by omega) (T.out.on O);go_upto_region 5 with fail
   rw[<-b];clear b;go_upto_region 6 with (go_at_call 147;refine Q.mono ?_;rintro e w2⟨v2,rfl,L,r,XV⟩)
   have D:=XV _ _ 109 (by decide) R;have af:=r.size;clear Q s0;go_upto_region 7 with (at_builtin;go_loud (refine Tryz.ace rfl _ _ rfl w.heap.size (by simp;omega) _ _ rfl (own_below L ((cV _ _).alloc (zL0) _)) 46 _ 1 rfl ((aj.new _ _ 5).cell 0) (by simp;omega) ?_;intro v3 w3 C u H))
   have QV:=H _ _ 109 (by decide) (D.alloc _);have aa:=u.size;have s1:=QV.a1;have B:=O.trans (r.trans (((cV _ w2).alloc (by omega) _).trans u));have U:=ZB C (by have:=B.size;omega) o.2 (by simp;omega) (T.out.on B);go_upto_region 8 with (go_at_call 147;refine U.mono ?_;rintro e w4⟨v4,rfl,A,J,yC⟩)
   have Pz:=B.trans J;have ab:=Pz.size;clear U s1
   go_wp2_with (at_builtin;go_loud (refine Tryz.ace rfl _ _ rfl w.heap.size (by simp;omega) _ _ rfl (own_below A ((cV _ _).alloc (zL0) _)) 32 _ 1 rfl ((aj.new _ _ 5).cell 0) (by simp;omega) ?_;intro v5 w5 I G CV))
   go_roundg (K.length - (j+1))
   case measure=>omega
   case rel=>exact⟨j+1,by omega,by go_num,by rw[p.out];exact I,Pz.trans (((cV _ w4).alloc (by omega) _).trans G)⟩
  ·obtain rfl:j=K.length:=by omega
   rw[ff]at k f;have l:mO K≠[]:=by
    cases K with
    |nil=>exact absurd rfl z
    |cons s K=>rw[FW];simp
   have p:Hid (pV K=⟨(mO K).toArray⟩):=rfl;generalize mO K=X at k l p;unfold BR at k;rcases k.2 with ⟨-,h0⟩|⟨g,q,ac,rfl,-,-,-,-,-,-⟩
   ·exact absurd (ir h0) l
   ·have ag:=run_convert_bytes_back (P:=prog) n 126 9 5 ⟨g,0,ν⟩ q X Tryz.Rv underlying5 underlying9 (fun j hj=>oj k (g:=g) rfl j _ (by simp[Lib.byteCells,hj]))
    clear k l;go_wp2_with fail;go_ret;exact⟨by rw[p.out];rfl,d⟩
namespace Lx
def mX(sz:Nat)(E:List Nat):List Bool:=(List.range sz).map fun n=>decide (n∈E)
theorem alT(sz:Nat)(E:List Nat):(mX sz E).length=sz:=by simp[mX]
theorem amK(h:n<sz):aJ (mX sz E) n=decide (n∈E):=by simp[aJ,mX,h]
theorem alU(sz:Nat):mX sz []=ψ sz ε:=by
 apply od
 ·simp[mX]
 ·intro i h1 h2;simp[mX]
theorem alV:(mX sz E).set n η=mX sz (n::E):=by
 apply od
 ·simp[mX]
 ·intro i h1 h2
  simp only[mX,List.length_map,List.length_range]at h2;rw[uA];simp only[mX,List.getElem_map,List.getElem_range,List.mem_cons]
  by_cases e:n=i
  ·subst e;simp
  ·have:¬i=n:=fun h=>e h.symm
   simp[e,this]
structure mP(P:List Pd)(st:Nat)(K l:List au)(E:List Nat)(j:Nat):Prop where
 zok:oM P K l
 jL:Am P st l E
 Bn:∀s∈l,s.1<P.length/\s.2<=(bW P s.1).length
 run:∀r,Cu P l E j r->Cu P K [] 0 r
theorem mP.first{st:Nat}(hp:nO P sz st)(h:eX P i K):mP P st K K [] 0:=⟨oM.refl P K,Am.kernel (h.zero hp),fun s a=>⟨(h.Bn s a).1,(h.Bn s a).2.1⟩,fun _ h=>h⟩
theorem mP.step{P:List Pd}{sz st:Nat}(hp:nO P sz st){K l:List au}{E:List Nat}{j:Nat}(h:mP P st K l E j)(b:j<l.length):mP P st K (qi P (eF P l[j]) l E).1 (qi P (eF P l[j]) l E).2 (j+1):=by
 obtain⟨h1,h2⟩:=h.jL.same hp.aeI l[j];refine⟨by rw[<-h1];exact h.zok.add _,h2,fun s a=>?_,fun r c=>h.run r (.step b c)⟩;rw[<-h1]at a;cases hb:eF P l[j] with
 |none=>rw[hb,Nw]at a;exact h.Bn s a
 |some n=>
  rw[hb,Od]at a;rcases dq.1 a with a|a
  ·exact h.Bn s a
  ·obtain⟨g1,g2,-⟩:=FJ.1 (j'.1 a).1
   exact⟨g2,by omega⟩
theorem mP.known{st:Nat}{l:List au}(h:mP P st K (qi P (ο n) l E).1 (qi P (ο n) l E).2 j)(a:n∈E):mP P st K l E j:=by
 unfold qi at h;simp only[if_pos a]at h;exact h
theorem mP.new{st:Nat}{l:List au}(h:mP P st K (qi P (ο n) l E).1 (qi P (ο n) l E).2 j)(a:n∉E):mP P st K (l++iK P n P.length) (n::E) j:=by
 unfold qi at h;simp only[if_neg a]at h;exact h
theorem mP.done{P:List Pd}{sz st:Nat}(hp:nO P sz st){i:Nat}{K l:List au}(a:eX P i K){E:List Nat}{j:Nat}(h:mP P st K l E j)(b:l.length<=j):l=Lx.jL P K:=(h.run l (.done b)).jL hp.aeI (a.zero hp)
end Lx
theorem Tryz.Oq:(prog.info? 109).map (fun i=>(i.zero,i.size,i.bytes))=ο (ο (.agg #[.int ξ 0,.int ξ 0]),2,16):=by kernel_rfl
theorem Tryz.I5:prog.underlying 110=ο (.slice 109):=by kernel_rfl
theorem agM(g:n<=100000)(w:ω):(Instr.makeSlice 81 (ι ξ (n:Int)) (ι ξ (n:Int))).run prog w=.ok (ς (ο ⟨w.heap.size,0,ν⟩) n n) (w.alloc (ζ (bE (ψ n ε)) 4)):=by
 obtain⟨d,f,b,c,a⟩:=ft Tryz.OH;have h:=qh (P:=prog) w 81 4 d _ (by kernel_rfl) f b ξ ξ (n:Int) (n:Int) (by omega) (oX _) (by rw[a];omega) (by omega);rw[h,ij,c];have e:Value.cells (μ ε)=#[μ ε]:=rfl;rw[e,RO]
theorem ahL(h:aO 109 2 jq B w v K)(N:K.length<=1000000):χ prog 187 #[v] w fun e w'=>∃v',e=δ v'/\aO 109 2 jq w.heap.size w' v' K/\φ w.heap.size w w':=by
 obtain⟨G,A,s,x,y⟩:=ft Tryz.Oq;have E:∀(w:ω)(a:Option Addr)(n c o r:Nat),(binOp .eql 110 (ς a n c) (ς ν o r)).run prog w=.ok (μ a.isNone) w:=fun w a n c o r=>Lib.run_eql_slice_nil w _ _ a n c o r Tryz.I5
 have m:=h;unfold aO at m;rcases m.2 with ⟨rfl,d⟩|⟨C,i,H,rfl,t,q,z,p,-,-⟩
 ·obtain rfl:K=[]:=ir d
  go_enter func187,ntmps187;go_wp2_with fail;go_ret;exact⟨_,rfl,eV _ _ _ _,cV _ _⟩
 ·have l:=oj m (g:=C) rfl
  have F:Hid _:=l;clear l m t q z p;go_enter func187,ntmps187
  go_wp2_with (at_builtin;go_loud (refine ii _ rfl _ _ 110 rfl w.heap.size 109 G _ 2 16 Tryz.I5 A s x y rfl (by decide) _ 0 [] rfl (World.ownsRow_made w #[] 0 (zL0) (fi _) rfl) ⟨C,0,ν⟩ K.length i (K.flatMap jq) rfl (Cv.Kt K) (fun j u J=>Lib.cell?_alloc_some _ (F.out j u J)) (Cv.aob K) (by unfold maxLen;omega) (by omega) (by simp) ?_;intro L M b I _ _))
  go_ret;rw[fX]at b;exact⟨L,rfl,b,((cV _ w).alloc (zL0) _).grown I (by simp) (by intro k D;have f:ο w.heap.size=ο k:=D;injection f with f;omega)⟩
def OO(w:ω)(C:List au)(e:Ending)(w':ω):Prop:=∃v,e=δ v/\aO 109 2 jq w.heap.size w' v C/\φ w.heap.size w w'
theorem OO.mk{C:List au}{e:Ending}(v:υ)(a:e=δ v)(h:aO 109 2 jq w.heap.size w' v C)(b:φ w.heap.size w w'):OO w C e w':=⟨v,a,h,b⟩
theorem Lx.ai4{P:List Lx.Pd}(a:q<P.length)(h:P[q].left=n):iK P n (q+1)=iK P n q++[(q,0)]:=by
 rw[iK,du (by simp[a,h])]
theorem Lx.akz{P:List Lx.Pd}(a:q<P.length)(h:¬P[q].left=n):iK P n (q+1)=iK P n q:=by
 rw[iK,dt (by simp[a,h]),fW]
theorem af7{D:Nat->Prop}{f:Nat}{st:Nat}{vQ vm vk ve:υ}{P:List Lx.Pd}(kF:aj w f #[ς ta nT tc,ς na nN nc,vP,vB,vQ,vm,vk,ve] 106)(hP:PP D w vP P)(hp:nO P (nT+nN) st)(hK:aO 109 2 jq B0 w vK K)(ap:eX P i K)(bd:K.length<=100000):χ prog 148 #[π (ο ⟨f,0,ν⟩),vK] w (OO w (jL P K)):=by
 obtain⟨pa,pc,rfl,-⟩:∃a c,vP=ς a P.length c/\P.length<=maxLen:=by obtain⟨ps,h1,h2,-⟩:=hP;exact aB h2
 have VB:=hp.szm;have bj:=hp.len;have ai:IntKind.i64.wrap ((nT:Int)+(nN:Int))=(nT:Int)+(nN:Int):=by rw[gx];omega
 obtain⟨k,hsz⟩:=aC (nT+nN);have ax:∀Z:ω,(Instr.makeSlice 81 (ι ξ ((nT:Int)+(nN:Int))) (ι ξ ((nT:Int)+(nN:Int)))).run prog Z=.ok (ς (ο ⟨Z.heap.size,0,ν⟩) k k) (Z.alloc (ζ (bE (mX k [])) 4)):=fun Z=>by
  have:=agM (n:=nT+nN) VB Z;rw[alU,hsz];rw[qv]at this;exact this
 rw[<-hsz]at hp VB;have ao:Hid _:=mP.first hp ap;have av:Hid (∀(l:List au)(E:List Nat)(j:Nat),mP P st K l E j->l.length<=j->l=jL P K):=fun l E j h hj=>h.done hp ap hj
 have aV:Hid (∀(l:List au)(E:List Nat)(j:Nat)(h:j<l.length),mP P st K l E j->mP P st K (qi P (eF P l[j]) l E).1 (qi P (eF P l[j]) l E).2 (j+1)):=fun l E j h hI=>hI.step hp h
 have az:Hid (∀(s:au)(n:Nat),eF P s=ο n->n<k):=fun s n h=>(Og hp h).1
 have q1:=ahL hK (by omega);have I:=kF.lt;go_enter func148,ntmps148;go_upto_region 2 with (go_at_call 187;refine q1.mono ?_;rintro e w1⟨v1,rfl,ac,T⟩)
 clear q1;have oL:=kF.go T I;have d0:=oL.a0;have d1:=oL.a1;have aE:=T.size;clear hsz
 go_region
 obtain⟨W2,F⟩:=aC ((w1.alloc (ζ (bE (mX k [])) 4)).drew);have ab:aj W2 w1.heap.size (bE (mX k [])) 4:=by rw[F];exact(aj.new w1 _ 4).drew
 have rV:φ w1.heap.size w1 W2:=by rw[F];exact((cV _ _).alloc (zL0) _).drew
 have ag:=aO.below ac rV;have af:=T.trans (rV.mono (by omega));rw[<-F];clear F rV ac oL d0 d1 ax ai;generalize nJ:w1.heap.size=ob at *;clear nJ;go_wp2_with fail
 go_loopg [5,7] (K.length+P.length+1) (fun m v iv wr=>∃(j:Nat)(l:List au)(E:List Nat),j+m=K.length+P.length+1/\iv=ι ξ (j:Int)/\j<=l.length/\aO 109 2 jq w.heap.size wr v l/\aj wr ob (bE (mX k E)) 4/\φ w.heap.size w wr/\Hid (mP P st K l E j))
 case atStart=>exact⟨0,K,[],by omega,rfl,fi _,ag,ab,af,ao⟩
 case round=>
  clear ag ab af ao;revert wr;intro wz hrel;obtain⟨j,l,E,bc,rfl,ba,hL,kO,o,V⟩:=hrel;obtain⟨la,lc,rfl,-⟩:∃a c,_=ς a l.length c/\l.length<=maxLen:=aB hL;have bb:=V.out.zok.len;have hsz:=o.size
  by_cases hlt:j<l.length
  ·obtain⟨gL,bh,hv,-,bp,L⟩:=aO.at Cv hL hlt
   cases hv;have c0:=L 0 _ (by decide) rfl;have c1:=L 1 _ (by decide) rfl;have x:=V.out.Bn l[j] (eJ hlt);have A:=aV.out l E j hlt V.out;have d:eF P l[j]=(bW P l[j].1)[l[j].2]?:=rfl;clear L V;generalize l[j]=sp at c0 c1 x A d;obtain⟨sk,g⟩:=sp;simp only[Nat.add_zero]at c0 c1 x d;have Q:=x.1;have aA:g<=P[sk].right.length:=by have:=x.2;rw[JI Q]at this;exact this
   obtain⟨gP,aH,u,M,O,-,x1,-⟩:=(hP.below o).at Q;cases M;rw[JI Q]at d;clear x;obtain⟨ua,uc,rfl,-⟩:∃a c,u=ς a P[sk].right.length c/\P[sk].right.length<=maxLen:=aB O;generalize P[sk].right=r at O x1 aA d;have MN:=kF.go o I;have d2:=MN.a2;have i1:(0:Int)<=(j:Int):=by omega
   have i2:(j:Int)<(l.length:Int):=by omega
   have i3:(0:Int)<=(sk:Int):=by omega
   have i4:(sk:Int)<(P.length:Int):=by omega
   go_wp2_with fail
   go_quiet (fail)
   obtain⟨z,B⟩:=aC (wz.drewN nq);have e0:z.cell? ⟨gL,j*2,ν⟩=ο (ι ξ (sk:Int)):=by rw[B];exact c0
   have e1:z.cell? ⟨gL,j*2+1,ν⟩=ο (ι ξ (g:Int)):=by rw[B];exact c1
   have H:φ w.heap.size w z:=by rw[B];exact o.trans ⟨rfl,rfl,rfl,zL0,fun _ _=>rfl⟩
   have FB:aO 109 2 jq w.heap.size z (ς (ο ⟨gL,0,ν⟩) l.length lc) l:=by rw[B];exact hL
   have W:aj z ob (bE (mX k E)) 4:=by rw[B];exact kO
   have Dq:IR 0 z (ς ua r.length uc) r:=by rw[B];exact O
   have aP:z.cell? ⟨f,2,ν⟩=ο (ς (ο ⟨gP,0,ν⟩) P.length pc):=by rw[B];exact d2
   rw[<-B];clear B c0 c1 hL kO O x1 d2 MN
   by_cases hd:g=r.length
   ·have t:Hid (mP P st K l E (j+1)):=by rw[d,kf (by omega)]at A;exact A
    have i5:((g:Int) == (r.length:Int))=η:=by simp[hd]
    have i6:(g:Int)=(r.length:Int):=by omega
    clear A d hd Dq;go_wp2_with fail;go_roundg (K.length+P.length+1 - (j+1))
    case measure=>omega
    case rel=>exact⟨j+1,l,E,by omega,by go_num,by omega,FB,W,H,t⟩
   ·have ah:g<r.length:=by omega
    obtain⟨gU,bi,aR,-,cU⟩:=Dq.at ah;cases aR;have S:eF P (sk,g)=ο r[g]:=by rw[d,cG ah]
    have R:=az.out _ _ S;rw[S]at A;have i5:((g:Int) == (r.length:Int))=ε:=zB0 (by omega);have i6:¬(g:Int)=(r.length:Int):=by omega
    have bf:=hd;have i7:(0:Int)<=(g:Int):=by omega
    have i8:(g:Int)<(r.length:Int):=by omega
    clear S d hd;generalize r[g]=n at cU R A;have i9:(0:Int)<=(n:Int):=by omega
    have bm:(n:Int)<(k:Int):=by omega
    have o0:z.cell? ⟨ob,n,ν⟩=ο (μ (decide (n∈E))):=by rw[W.cell n,qE _ (by rw[alT];exact R),amK R]
    have o1:=W.frozen n
    by_cases QX:n∈E
    ·rw[ge QX]at o0
     have t:Hid _:=mP.known A QX;clear A Dq;go_wp2_with fail;go_roundg (K.length+P.length+1 - (j+1))
     case measure=>omega
     case rel=>exact⟨j+1,l,E,by omega,by go_num,by omega,FB,W,H,t⟩
    ·rw[fx QX]at o0
     have t:Hid _:=mP.new A QX;clear A Dq;obtain⟨U,y⟩:=aC (z.setCell ⟨ob,n,ν⟩ (μ η));have am:aj U ob (bE (mX k (n::E))) 4:=by rw[y,<-alV,<-Dz];exact W.set n _
     have Vq:∀b,b≠ob->U.heap[b]?=z.heap[b]?:=fun b hb=>by rw[y];exact zS0 hb
     have aa:aO 109 2 jq w.heap.size U (ς (ο ⟨gL,0,ν⟩) l.length lc) l:=ay FB fun b hb=>Vq b (own_ne FB W (by decide) b hb)
     have N:φ w.heap.size w U:=by rw[y];exact H.setCell (p:=⟨ob,n,ν⟩) aE _
     have aw:U.cell? ⟨f,2,ν⟩=ο (ς (ο ⟨gP,0,ν⟩) P.length pc):=by
      have zY:=kF.go N I;exact zY.cell 2
     go_upto_region 10 with fail
     rw[<-y];clear y Vq o0 o1 e0 e1 cU aP;go_wp2_with fail;have G:aO 109 2 jq w.heap.size U (ς (ο ⟨gL,0,ν⟩) l.length lc) (l++iK P n 0):=by rw[show l++iK P n 0=l from fW l];exact aa
     go_loopg [5,85] P.length (fun m v iv wr=>∃q:Nat,q+m=P.length/\iv=ι ξ (q:Int)/\aO 109 2 jq w.heap.size wr v (l++iK P n q)/\aj wr ob (bE (mX k (n::E))) 4/\φ w.heap.size w wr)
     case atStart=>exact⟨0,by omega,rfl,G,am,N⟩
     case round=>
      clear aa G am N aw;revert wr;intro wr hrel;obtain⟨q,bn,rfl,QY,ae,C⟩:=hrel;obtain⟨X,Y⟩:=aC (l++iK P n q);rw[<-Y]at QY;have aX:X.length<=1000000:=by have:=aal (P:=P) (n:=n) q;rw[Y,cJ];omega
      have aq:j+1<=X.length:=by rw[Y,cJ];omega
      have HX:Hid _:=Y;clear Y;obtain⟨ra,rc,rfl,-⟩:∃a c,_=ς a X.length c/\X.length<=maxLen:=aB QY;have ar:=C.size
      by_cases vI:q<P.length
      ·obtain⟨bo,aH,u,M,O,x0,x1,x2⟩:=(hP.below C).at vI
       cases M;obtain⟨al,ad,rfl,-⟩:∃a c,u=ς a P[q].right.length c/\P[q].right.length<=maxLen:=aB O;clear O;have j1:(0:Int)<=(q:Int):=by omega
       have j2:(q:Int)<(P.length:Int):=by omega
       have HY:Hid (P[q].left=n->iK P n (q+1)=iK P n q++[(q,0)]):=ai4 vI;have HN:Hid (¬P[q].left=n->iK P n (q+1)=iK P n q):=akz vI;obtain⟨W5,nD⟩:=aC (wr.alloc (ζ #[ι ξ (P[q].left:Int),ς al P[q].right.length ad,ι ξ P[q].prec] 143));have an:φ wr.heap.size wr W5:=by rw[nD];exact(cV _ _).alloc (zL0) _
       have ak:aj W5 wr.heap.size #[ι ξ (P[q].left:Int),ς al P[q].right.length ad,ι ξ P[q].prec] 143:=by rw[nD];exact aj.new wr _ 143
       have J:=QY.below an;have X0:aj W5 ob (bE (mX k (n::E))) 4:=by rw[nD];exact ae.alloc _
       have GL:=C.trans (an.mono ar);have bg:=GL.size;have y0:=ak.a0;clear ak;generalize P[q].left=lf at *;generalize P[q].prec=pf at *;generalize P[q].right.length=rl at *;go_upto_region 13 with fail
       rw[<-nD];clear nD x0 x1 x2
       by_cases hc:lf=n
       ·have HE:Hid _:=HY.out hc
        have k1:((lf:Int) == (n:Int))=η:=by simp[hc]
        have k2:(lf:Int)=(n:Int):=by omega
        clear HY HN hc
        go_wp2_with (at_builtin;go_loud (refine NS Tryz.Oq Tryz.I5 rfl (by decide) Cv rfl _ _ rfl w.heap.size (by simp;omega) _ X rfl (aO.below J ((cV _ _).alloc (zL0) _)) (q,0) _ 1 rfl (bQ (aj.new _ _ 109)) (by unfold maxLen;omega) (by omega) ?_;intro v8 w8 Dr eY BA Iw))
        have a9:=(X0.alloc _).grown BA (fun e=>own_ne (aO.below J ((cV _ _).alloc (zL0) (ζ #[ι ξ (q:Int),ι ξ 0] 109))) (X0.alloc _) (by decide) ob e.symm rfl);go_roundg (P.length - (q+1))
        case measure=>omega
        case rel=>exact⟨q+1,by omega,by go_num,by rw[HE.out,<-dy,<-HX.out];exact Dr,a9,GL.trans (((cV _ W5).alloc (by omega) _).trans eY)⟩
       ·have HE:Hid _:=HN.out hc
        have k1:((lf:Int) == (n:Int))=ε:=zB0 (by omega);have k2:¬(lf:Int)=(n:Int):=by omega
        have k3:=hc;clear HY HN hc;go_wp2_with fail;go_roundg (P.length - (q+1))
        case measure=>omega
        case rel=>exact⟨q+1,by omega,by go_num,by rw[HE.out,<-HX.out];exact J,X0,GL⟩
      ·obtain rfl:q=P.length:=by omega
       have j2:¬(P.length:Int)<(P.length:Int):=by omega
       go_wp2_with fail;go_roundg (K.length+P.length+1 - (j+1))
       case measure=>omega
       case rel=>exact⟨j+1,X,n::E,by omega,by go_num,aq,QY,ae,C,by rw[HX.out];exact t⟩
  ·have HC:Hid _:=av.out l E j V.out (by omega)
   have i2:¬(j:Int)<(l.length:Int):=by omega
   clear V;go_wp2_with fail;go_ret;exact OO.mk _ rfl (by rw[<-HC.out];exact hL) o

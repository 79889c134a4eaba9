import Derived.Test.YtfpjphhnjegnjaaGreatDoorCL03
import Derived.RangeFuncNested
import Derived.RangeFuncLeaves
import Derived.TacticsIn
import Derived.Sort.QuietIn
set_option maxHeartbeats 8000000
set_option maxRecDepth 1000000
namespace Go.Proofs.YtfpjphhnjegnjaaGreatDoor
open Lx Go.Proofs.Tryz
open Go.RowKit Tr
open Go.Value renaming slice→ς,int→ι,string→τ,pointer→π,bool→μ,agg→γ,tuple→θ
open Go.IntKind renaming i64→ξ
open Option renaming none→ν,some→ο
open Go.Ending renaming returned→δ
open Go.Obj renaming cells→ζ
open Bool renaming true→η,false→ε
open Go renaming World→ω,Value→υ,Calls→χ
open Go.RowKit renaming Below→φ
open List renaming replicate→ψ
variable{B e i id l n r z:Nat}{F Z:Nat->Prop}{J:Nat->(Nat->Prop)->ω->Prop}{P:Program}{Q:Exit->Act->ω->Prop}{W w w' w0:ω}{a:Act}{b c s:ByteArray}{bs:List Bool}{v vH vR vW:υ}{x:Wd}
theorem zL0:n<=n:=dv _
theorem zB0{a b:Int}(h:a≠b):(a==b)=ε:=ej.2 h
theorem zS0{p:Addr}{g:Nat}(h:g≠p.block):(w.setCell p v).heap[g]?=w.heap[g]?:=fy _ _ _ _ h
namespace Lx
def iX(names:List ByteArray)(s:List Bool×List Nat)(us:List ByteArray):List Bool×List Nat:=us.foldl (vis names) s
theorem Jq(a:List ByteArray):∀(us:List ByteArray)(s:List Bool×List Nat),(iX a s us).1=zk a us s.1
 | [],_=>rfl
 |u::us,s=>by
  show (iX a (vis a s u) us).1=zk a us (s.1.set (mR a u) η);rw[Jq a us];congr 1;unfold vis
  split
  ·rename_i h;exact(SB fun _=>h).symm
  ·rfl
theorem Jy:∀{bs:List Bool}{i:Nat},i<bs.length->aJ bs i=ε->aZ (bs.set i η)=aZ bs+1
 |b::bs,0,_,h=>by
  have a:b=ε:=h;subst a;simp[aZ]
 |b::bs,i+1,hl,h=>by
  have ih:=Jy (bs:=bs) (i:=i) (by simpa using hl) (by simpa [aJ]using h);unfold aZ at ih|-;rw[ox,oe,oe,ih];omega
theorem N7(a:List ByteArray):∀(us:List ByteArray)(s:List Bool×List Nat),(∀u∈us,fix a u<s.1.length)->∃new,(iX a s us).2=s.2++new/\(∀i∈new,i<s.1.length/\aJ (iX a s us).1 i=η)/\(∀i,aJ (iX a s us).1 i=η->aJ s.1 i=η\/i∈new)/\new.length+aZ s.1=aZ (iX a s us).1
 | [],s,_=>⟨[],by simp[iX],fun i h=>(by cases h),fun i h=>.inl h,by simp[iX]⟩
 |u::us,s,h=>by
  have f:=h u eE;cases hb:aJ s.1 (fix a u) with
  |true=>
   have e:vis a s u=s:=du hb;have k:iX a s (u::us)=iX a s us:=by show iX a (vis a s u) us=_;rw[e]
   rw[k];exact N7 a us s fun x g=>h x (eR _ g)
  |false=>
   have e:vis a s u=(s.1.set (fix a u) η,s.2++[fix a u]):=dt (by rw[hb];decide);have k:iX a s (u::us)=iX a (s.1.set (fix a u) η,s.2++[fix a u]) us:=by show iX a (vis a s u) us=_;rw[e]
   obtain⟨new,h1,h2,h3,h4⟩:=N7 a us (s.1.set (fix a u) η,s.2++[fix a u]) fun x g=>by
    rw[jp];exact h x (eR _ g)
   rw[k];refine⟨fix a u::new,by rw[h1];simp,?_,?_,?_⟩
   ·intro i c
    rcases fh.1 c with rfl|c
    ·refine⟨f,?_⟩
     rw[Jq];refine(Ju a us _).2 _ ?_;rw[at_set,du ⟨rfl,f⟩]
    ·have:=h2 i c
     rw[jp]at this;exact this
   ·intro i c
    rcases h3 i c with j|j
    ·have b:aJ (s.1.set (fix a u) η) i=η:=j
     rw[at_set]at b
     split at b
     ·rename_i l;exact .inr (by rw[l.1];exact eE)
     ·exact .inl b
    ·exact .inr (eR _ j)
   ·have d:=h4
    rw[Jy f hb]at d;rw[eh];omega
structure RI(g:Gr)(s0:List Bool)(s:List Bool×List Nat):Prop where
 len:s.1.length=g.rules.length
 op:∀i∈s.2,i<g.rules.length/\aJ s.1 i=η
 done:∀i,aJ s.1 i=η->i∈s.2\/CK g i s.1
 has:bX s0 s.1
 least:∀T,T.length=g.rules.length->bX s0 T->(∀i,i<g.rules.length->CK g i T)->bX s.1 T
theorem RI.step{g:Gr}{s0:List Bool}{d:List Nat}(h:RI g s0 (bs,d++[r]))(n:∀u∈om (lQ g r),fix (bG g) u<bs.length):RI g s0 (iX (bG g) (bs,d) (om (lQ g r)))/\(iX (bG g) (bs,d) (om (lQ g r))).2.length+aZ bs=d.length+aZ (iX (bG g) (bs,d) (om (lQ g r))).1:=by
 obtain⟨h1,h2,h3,h4,y⟩:=h;obtain⟨new,m,A,q,s⟩:=N7 (bG g) (om (lQ g r)) (bs,d) n;have p:=h2 r (by simp);have t:(iX (bG g) (bs,d) (om (lQ g r))).1=yV g r bs:=by
  rw[Jq,yV,du p.2]
 have c:bX bs (iX (bG g) (bs,d) (om (lQ g r))).1:=by rw[Jq];exact Ju _ _ _
 refine⟨⟨c.1.symm.trans h1,?_,?_,h4.trans c,?_⟩,?_⟩
 ·intro i f
  rw[m]at f;rcases dq.1 f with f|f
  ·have:=h2 i (by simp[f])
   exact⟨this.1,c.2 i this.2⟩
  ·have:=A i f
   exact⟨by rw[<-h1];exact this.1,this.2⟩
 ·intro i f
  rw[m];rcases q i f with l|l
  ·rcases h3 i l with a | a
   ·rcases dq.1 a with a | a
    ·exact .inl (dq.2 (.inl a))
    ·right
     rw[dd.1 a];intro _ b k j;rw[Jq];exact SC _ _ _ b k (n b k)
   ·right
    intro _ b k j;exact c.2 _ (a l b k (by rw[c.1];exact j))
  ·exact .inl (dq.2 (.inr l))
 ·intro T x v o
  rw[t];exact ZQ g T (fun i f=>o i (by omega)) r bs (y T x v o)
 ·rw[m,cJ]
  have z:new.length+aZ bs=_:=s;show d.length+new.length+aZ bs=d.length+_;omega
theorem RI.end{g:Gr}{s0:List Bool}(h:RI g s0 (bs,[])):xD (CK g) g.rules.length s0 bs:=by
 refine⟨h.len,h.has,fun i c=>?_,h.least⟩;intro b;rcases h.done i b with a|a
 ·cases a
 ·exact a b
theorem RI.start{g:Gr}(b:0<g.rules.length):RI g ((ψ g.rules.length ε).set 0 η) ((ψ g.rules.length ε).set 0 η,[0]):=by
 refine⟨by simp,?_,?_,bX.refl _,fun T _ h _=>h⟩
 ·intro i a
  rw[dd.1 a];exact⟨b,by rw[at_set,du ⟨rfl,by simpa using b⟩]⟩
 ·intro i a
  rw[at_set]at a
  split at a
  ·rename_i c;exact .inl (by rw[<-c.1];simp)
  ·unfold aJ at a
   rw[mi]at a
   split at a <;> cases a
theorem SF:∀(d:Nat)(l:List Alt),((lq d l).filter fun x=>decide (x.kind=0)).map It.name=DY d l
 |0,_=>rfl
 |d+1,l=>by
  rw[Zk,ZR,RB,zg];congr 1;funext a;unfold Gy;rw[RB,zg];congr 1;funext x;have ih:=SF d x.alts;unfold J8 JN;rw[pL,<-ih]
  by_cases h:x.kind=0
  ·simp[h]
  ·simp[h]
end Lx
theorem ain(a:Array υ)(w:ω):(callFunc 135 a).run prog w=.ok (.enter 135 a) w:=by kernel_rfl
theorem aio(a:Array υ)(w:ω):(callFunc 136 a).run prog w=.ok (.enter 136 a) w:=by kernel_rfl
theorem alb{a:Option Addr}{c:Nat}{b:List Nat}(h:w.ownsRow B 3 1 (ς a (b++[r]).length c) (b++[r]).length (dP (b++[r]))):∃g,a=ο ⟨g,0,ν⟩/\b.length+1<=c/\c<=maxLen/\g<w.heap.size/\w.ownsRow B 3 1 (ς (ο ⟨g,0,ν⟩) b.length c) b.length (dP b)/\w.cell? ⟨g,b.length,ν⟩=ο (ι ξ (r:Int)):=by
 rcases h.2 with ⟨h1,h2⟩|⟨g,n,f,h1,h2,h3,h4,i,k,o⟩
 ·simp at h2
 ·injection h1 with e1 e2 e3
  subst e1 e3;have j:=h.cellAt b.length (by simp);simp at h4;refine⟨g,rfl,h4,i,(ei.1 h3).1,⟨by simp[dP],.inr ⟨g,c,f,rfl,h2,h3,by omega,i,k,?_⟩⟩,?_⟩
  ·have d:=fd (List.take b.length) o
   rw[AF]at d;rw[FH]at d;rw[j9];have m:min b.length ((b++[r]).length*1)=b.length:=by simp
   rw[m]at d;rw[d];have:b.length=(dP b).length:=(DC b).symm;rw[this,AG]
  ·have l:(dP (b++[r]))[b.length]?=ο (ι ξ (r:Int)):=by rw[FH,eQ (by rw[DC];exact zL0),DC,io];rfl
   rw[l]at j;exact j
def agn(g:Lx.Gr)(w:ω)(e:Ending)(w':ω):Prop:=∃o bs,e=δ (ς (ο ⟨o,0,ν⟩) g.rules.length g.rules.length)/\w.heap.size<=o/\aj w' o (bE bs) 4/\xD (CK g) g.rules.length ((ψ g.rules.length ε).set 0 η) bs/\φ w.heap.size w w'
theorem afZ{g:Lx.Gr}(h:lV F w vR g.rules){num:ByteArray->Int}(hM:SMap w B num)(Kc:∀b,b∈bG g->num b=(Lx.fix (bG g) b:Int))(hu:∀r∈g.rules,∀x∈lq 9 r.alts,x.kind=0->x.name∈bG g)(hn:0<g.rules.length)(aa:g.rules.length<=2001):
  χ prog 80 #[vR,.map (ο B)] w (agn g w):=by
 obtain⟨a,c,rfl,hm⟩:=h.len;have K:=hM.lt;have an:=fun w=>Zl aa w
 have ak:(bE (ψ g.rules.length ε))[0]?=ο (μ ε):=by rw[qE _ (by simpa using hn)];simp[aJ,hn]
 go_enter func80,ntmps80;go_wp2_with fail;have e4:w.heap.size+1+1+1+1=w.heap.size+4:=rfl;have e3:w.heap.size+1+1+1=w.heap.size+3:=rfl;have e2:w.heap.size+1+1=w.heap.size+2:=rfl;rw[e4,e3,e2];clear e4 e3 e2 an;obtain⟨W,l⟩:=aC (((((w.alloc (ζ #[.map (ο B)] 69)).alloc (ζ ((bE (ψ g.rules.length ε)).setIfInBounds 0 (μ η)) 4)).alloc (ζ #[ς (ο ⟨w.heap.size+1,0,ν⟩) g.rules.length g.rules.length] 81)).alloc (ζ #[ι ξ 0] 3)).alloc (ζ #[ς (ο ⟨w.heap.size+3,0,ν⟩) 1 1] 47));rw[<-l];have U1:RS w.heap.size g.rules.length B num w W ((ψ g.rules.length ε).set 0 η,[0]):=by
  have C:φ w.heap.size w W:=by rw[l];exact(((((cV _ _).alloc (zL0) _).alloc (by simp) _).alloc (by simp;omega) _).alloc (by simp;omega) _).alloc (by simp;omega) _
  refine⟨?_,hM.move (C.block B K),K,?_,?_,⟨ς (ο ⟨w.heap.size+3,0,ν⟩) 1 1,?_,⟨rfl,.inr ⟨w.heap.size+3,1,#[ι ξ 0],rfl,fi _,?_,zL0,by decide,rfl,rfl⟩⟩,fun g P=>.inl (fL P).symm⟩,by show _=_;simp,C⟩
  ·rw[l];exact((((aj.new w _ 69).alloc _).alloc _).alloc _).alloc _
  ·rw[l,<-Dz]
   have:=(((aj.new (w.alloc (ζ #[.map (ο B)] 69)) ((bE (ψ g.rules.length ε)).setIfInBounds 0 (μ η)) 4).alloc (ζ #[ς (ο ⟨w.heap.size+1,0,ν⟩) g.rules.length g.rules.length] 81)).alloc (ζ #[ι ξ 0] 3)).alloc (ζ #[ς (ο ⟨w.heap.size+3,0,ν⟩) 1 1] 47);simpa using this
  ·rw[l]
   have:=((aj.new ((w.alloc (ζ #[.map (ο B)] 69)).alloc (ζ ((bE (ψ g.rules.length ε)).setIfInBounds 0 (μ η)) 4)) #[ς (ο ⟨w.heap.size+1,0,ν⟩) g.rules.length g.rules.length] 81).alloc (ζ #[ι ξ 0] 3)).alloc (ζ #[ς (ο ⟨w.heap.size+3,0,ν⟩) 1 1] 47);simpa using this
  ·rw[l]
   have:=aj.new ((((w.alloc (ζ #[.map (ο B)] 69)).alloc (ζ ((bE (ψ g.rules.length ε)).setIfInBounds 0 (μ η)) 4)).alloc (ζ #[ς (ο ⟨w.heap.size+1,0,ν⟩) g.rules.length g.rules.length] 81)).alloc (ζ #[ι ξ 0] 3)) #[ς (ο ⟨w.heap.size+3,0,ν⟩) 1 1] 47;simpa using this
  ·rw[l]
   have k3:aj (((((w.alloc (ζ #[.map (ο B)] 69)).alloc (ζ ((bE (ψ g.rules.length ε)).setIfInBounds 0 (μ η)) 4)).alloc (ζ #[ς (ο ⟨w.heap.size+1,0,ν⟩) g.rules.length g.rules.length] 81)).alloc (ζ #[ι ξ 0] 3)).alloc (ζ #[ς (ο ⟨w.heap.size+3,0,ν⟩) 1 1] 47)) (w.heap.size+3) #[ι ξ 0] 3:=by
    have:=(aj.new (((w.alloc (ζ #[.map (ο B)] 69)).alloc (ζ ((bE (ψ g.rules.length ε)).setIfInBounds 0 (μ η)) 4)).alloc (ζ #[ς (ο ⟨w.heap.size+1,0,ν⟩) g.rules.length g.rules.length] 81)) #[ι ξ 0] 3).alloc (ζ #[ς (ο ⟨w.heap.size+3,0,ν⟩) 1 1] 47);simpa using this
   exact k3
 have U2:=Lx.RI.start hn;clear l;obtain⟨s0,t⟩:=aC ((ψ g.rules.length ε).set 0 η);have Hl:Hid _:=t;rw[<-t]at U1 U2;clear t
 go_loopg [] (g.rules.length+1) (fun k wr=>∃s:List Bool×List Nat,s.2.length+(g.rules.length-aZ s.1)<=k/\s.2.length+(g.rules.length-aZ s.1)<=g.rules.length+1/\RS w.heap.size g.rules.length B num w wr s/\Lx.RI g s0 s)
 case atStart=>exact⟨(s0,[0]),by simp;omega,by simp;omega,U1,U2⟩
 case round=>
  clear U1 U2;obtain⟨⟨d,ai⟩,hk,N,V,Z⟩:=hrel;obtain⟨h1,h2,h3,h4,h5,⟨vo,E,h7,h8⟩,h9,v⟩:=id V;have aA:w.heap.size+5<=wr.heap.size:=E.lt;have az:=BN d;have A:Hid (d.length=g.rules.length):=h9;rcases Cs ai with I|⟨op,r,Q⟩
  ·subst I
   obtain⟨oa,X,yg,-⟩:=aB h7;subst yg;have c4:wr.cell? ⟨w.heap.size+4,0,ν⟩=ο (ς oa 0 X):=E.cell 0;have c2:=h5.a0;go_wp2_with fail;go_ret;exact⟨w.heap.size+1,d,rfl,nh _,h4,Hl.out▸Z.end,v⟩
  ·rw[List.concat_eq_append]at Q
   subst Q;obtain⟨oa,X,yg,KV⟩:=aB h7;subst yg;obtain⟨O,rfl,a9,ad,aE,T,aP⟩:=alb h7;have am:=Z.op r (by simp);have c4:wr.cell? ⟨w.heap.size+4,0,ν⟩=ο (ς (ο ⟨O,0,ν⟩) (op.length+1) X):=by have:=E.cell 0;simpa using this
   have f4:=E.frozen;unfold maxLen at ad;have ar:op.length+1+(g.rules.length-aZ d)<=gk:=by simpa using hk
   have aV:op.length+1+(g.rules.length-aZ d)<=g.rules.length+1:=by simpa using N
   have U3:=am.1;obtain⟨gb,aH,va,hv,af,R,d0,d1⟩:=h.at U3;cases hv;obtain⟨sa,sc,ac,-⟩:=aN.len R;subst ac;have Qd:=h.lt gb af;have ae:=(cQ (w:=w) (v.block gb Qd)).trans d1;have i:=Sb U3;have q:∀j,j∈lq 9 g.rules[r].alts->j.kind=0->j.name∈bG g:=hu _ (eJ U3);have z:∀b,b∈bG g->Lx.fix (bG g) b<g.rules.length:=fun b C=>by
    have:=(Ti (pX.2 C)).2;simpa [bG]using this
   obtain⟨w1,J⟩:=aC (wr.setCell ⟨w.heap.size+4,0,ν⟩ (ς (ο ⟨O,0,ν⟩) op.length X));have ap:=h8 O rfl;have H:RS w.heap.size g.rules.length B num w w1 (d,op):=by
    rw[J];refine⟨h1.other (by omega) _,h2.move (zS0 (by show B≠w.heap.size+4;omega)),h3,h4.other (by omega) _,h5.other (by omega) _,⟨_,E.set 0 _,ay T fun g P=>zS0 (fun e=>?_),fun g P=>?_⟩,h9,v.setCell (p:=⟨w.heap.size+4,0,ν⟩) (by show w.heap.size<=w.heap.size+4;omega) _⟩
    ·have e':g=w.heap.size+4:=e
     have G:O=g:=fL P;omega
    ·have G:O=g:=fL P
     rw[<-G];exact ap
   have U:Hid (Lx.RI g s0 (iX (bG g) (d,op) (om (lQ g r)))/\(iX (bG g) (d,op) (om (lQ g r))).2.length+aZ d=op.length+aZ (iX (bG g) (d,op) (om (lQ g r))).1):=by
    refine Lx.RI.step Z fun u f=>?_
    rw[i]at f;have e:om g.rules[r].alts=DY 9 g.rules[r].alts:=rfl;rw[e,<-SF]at f;obtain⟨j,hit,rfl⟩:=fk.1 f;obtain⟨ag,ab⟩:=j'.1 hit;have:=z _ (q j ag (mL ab));rw[A.out];exact this
   have q1:=abp 9 135 136 #[π (ο ⟨w.heap.size,0,ν⟩),π (ο ⟨w.heap.size+2,0,ν⟩),π (ο ⟨w.heap.size+4,0,ν⟩)] (fun j=>decide (j.kind=0)) F w (fun L Y=>(∀p∈L,Lx.fix (bG g) p.2.name<d.length)/\RS w.heap.size g.rules.length B num w Y (iX (bG g) (d,op) (L.map fun p=>p.2.name))) (fun p=>p.2.kind=0->p.2.name∈bG g) ain aio
    (fun Y n m j _ hi=>agc hi)
    (fun Y L n m j D _ hi ao hq=>by
     have y:=mL ao;have o:=hq y;have M:=z _ o;obtain⟨new,n1,-,-,n4⟩:=N7 (bG g) (L.map fun p=>p.2.name) (d,op) (fun u f=>by
      obtain⟨p,hp,rfl⟩:=fk.1 f;exact D.1 p hp)
     have aX:=BN (iX (bG g) (d,op) (L.map fun p=>p.2.name)).1;have U4:=D.2.len.out;have ax:(iX (bG g) (d,op) (L.map fun p=>p.2.name)).2.length=op.length+new.length:=by rw[n1,cJ]
     refine(agd D.2 hi (Kc _ o) M (by omega)).mono ?_;rintro e aw⟨rfl,hR⟩;refine⟨rfl,fun p hp=>?_,?_⟩
     ·rcases dq.1 hp with hp | hp
      ·exact D.1 p hp
      ·rw[dd.1 hp,A.out];exact M
     ·have e:iX (bG g) (d,op) ((L++[((⟨n,m*4,ν⟩:Addr),j)]).map fun p=>p.2.name)=Lx.vis (bG g) (iX (bG g) (d,op) (L.map fun p=>p.2.name)) j.name:=by
       unfold iX;rw[ee,pB];rfl
      rw[e];exact hR)
    (fun L Y D b C=>D.2.fr.block b (h.lt b C))
    _ _ R (fun p hp y=>q p.2 (by rw[<-FZ R];exact fk.2 ⟨p,hp,rfl⟩) y) w1 [] ⟨fun p hp=>(by cases hp),H⟩
   have uh:((aL 9 w (ς sa g.rules[r].alts.length sc) g.rules[r].alts).filter fun p=>decide (p.2.kind=0)).map (fun p=>p.2.name)=om (lQ g r):=by
    rw[i];have e:om g.rules[r].alts=DY 9 g.rules[r].alts:=rfl;rw[e,<-SF,<-FZ R,AC,pj];rfl
   rw[jn,uh]at q1;clear hk N KV h7 uh q z i V Z H T h1 h2 h4 h5 E R d0 ak;generalize g.rules[r].alts=al at ae q1;generalize iX (bG g) (d,op) (om (lQ g r))=s2 at q1 U;go_wp2_with fail;rw[<-J];refine q1.mono ?_;rintro e w2⟨rfl,-,S⟩;have ah:=U.out;have U4:=BN s2.1;have aq:=S.len.out;have av:=A.out;have aR:s2.2.length+(g.rules.length-aZ s2.1)<=op.length+(g.rules.length-aZ d):=by omega
   go_wp2_with fail;go_roundg (s2.2.length+(g.rules.length-aZ s2.1))
   case measure=>omega
   case rel=>exact⟨s2,zL0,by omega,S,ah.1⟩
theorem aip(a:Array υ)(w:ω):(callFunc 137 a).run prog w=.ok (.enter 137 a) w:=by kernel_rfl
structure ES(lo n B:Nat)(num:ByteArray->Int)(w0 w:ω)(bs:List Bool):Prop where
 nb:aj w lo #[.map (ο B)] 69
 mp:SMap w B num
 bl:B<lo
 fo:aj w (lo+1) (bE bs) 4
 fv:aj w (lo+2) #[ς (ο ⟨lo+1,0,ν⟩) n n] 81
 len:Hid (bs.length=n)
 fr:φ lo w0 w
theorem ES.below{b:Nat}{num:ByteArray->Int}(h:ES b n B num w0 w bs)(a:φ w.heap.size w w'):ES b n B num w0 w' bs:=by
 have c:=h.fv.lt;exact⟨(a.block _ (by omega)).trans h.nb,h.mp.move (a.block _ (by have:=h.bl;omega)),h.bl,(a.block _ (by omega)).trans h.fo,(a.block _ c).trans h.fv,h.len,h.fr.trans (a.mono (by omega))⟩
theorem agp{a:Nat}{num:ByteArray->Int}(h:ES a n B num w0 w bs){q:Nat}(d:num b=(q:Int))(g:q<n):
  χ prog 137 #[τ b,π (ο ⟨a+2,0,ν⟩),π (ο ⟨a,0,ν⟩)] w (vJ w (aJ bs q)):=by
 have c:=h.mp.look b;rw[d]at c;have i:=h.nb.a0;have f:=h.fv.a0;have j:=(h.fo.cell q).trans (qE bs (by have:=h.len.out;omega));go_enter func137,ntmps137;go_wp2_with fail;go_ret;exact⟨rfl,cV _ _⟩
namespace Lx
structure EI(g:Gr)(s0 bs:List Bool):Prop where
 len:bs.length=g.rules.length
 has:bX s0 bs
 least:∀T,T.length=g.rules.length->bX s0 T->(∀i,i<g.rules.length->qj g i T)->bX bs T
theorem EI.step{g:Gr}{s0:List Bool}(h:EI g s0 bs)(i:Nat):EI g s0 (uV g i bs):=by
 have a:=(NE g).le i bs;exact⟨a.1.symm.trans h.len,h.has.trans a,fun T b h1 h2=>aaF g T (fun i c=>h2 i (by omega)) i bs (h.least T b h1 h2)⟩
theorem ahi{g:Gr}(b:i<g.rules.length)(a:oo (wo g bs) 9 g.rules[i].alts=η):uV g i bs=bs.set i η:=by
 rw[uV,Sb b,du a]
theorem agq{g:Gr}(b:i<g.rules.length)(h:aJ bs i=η\/oo (wo g bs) 9 g.rules[i].alts=ε):qj g i bs:=by
 intro a c;rw[Sb b]at a;rcases h with h|h
 ·exact h
 ·rw[h]at a;cases a
end Lx
def ahj(g:Lx.Gr)(w:ω)(e:Ending)(w':ω):Prop:=∃o bs,e=δ (ς (ο ⟨o,0,ν⟩) g.rules.length g.rules.length)/\w.heap.size<=o/\aj w' o (bE bs) 4/\xD (qj g) g.rules.length (ψ g.rules.length ε) bs/\φ w.heap.size w w'
def AL(b:Bool):Nat:=if b=η then 1 else 0
theorem agr{g:Lx.Gr}(h:lV F w vR g.rules){num:ByteArray->Int}(hM:SMap w B num)(Kc:∀b,b∈bG g->num b=(Lx.fix (bG g) b:Int))(hu:∀r∈g.rules,∀x∈lq 9 r.alts,x.kind=0->x.name∈bG g)(Y:∀r∈g.rules,∀it∈lq 9 r.alts,it.kind<=2)(R:g.rules.length<=2001):
  χ prog 81 #[vR,.map (ο B)] w (ahj g w):=by
 obtain⟨a,c,rfl,hm⟩:=h.len;unfold maxLen at hm;have J:=hM.lt;have ah:=fun w=>Zl R w
 have ag:∀b,b∈bG g->Lx.fix (bG g) b<g.rules.length:=fun b l=>by
  have:=(Ti (pX.2 l)).2;simpa [bG]using this
 go_enter func81,ntmps81;go_wp2_with fail;rw[show w.heap.size+1+1=w.heap.size+2 from rfl];obtain⟨W,D⟩:=aC (((w.alloc (ζ #[.map (ο B)] 69)).alloc (ζ (bE (ψ g.rules.length ε)) 4)).alloc (ζ #[ς (ο ⟨w.heap.size+1,0,ν⟩) g.rules.length g.rules.length] 81));rw[<-D];have U5:ES w.heap.size g.rules.length B num w W (ψ g.rules.length ε):=by
  have l:φ w.heap.size w W:=by rw[D];exact(((cV _ _).alloc (zL0) _).alloc (by simp) _).alloc (by simp;omega) _
  refine⟨?_,hM.move (l.block B J),J,?_,?_,by show _=_;simp,l⟩
  ·rw[D];exact((aj.new w _ 69).alloc _).alloc _
  ·rw[D]
   have:=(aj.new (w.alloc (ζ #[.map (ο B)] 69)) (bE (ψ g.rules.length ε)) 4).alloc (ζ #[ς (ο ⟨w.heap.size+1,0,ν⟩) g.rules.length g.rules.length] 81);simpa using this
  ·rw[D]
   have:=aj.new ((w.alloc (ζ #[.map (ο B)] 69)).alloc (ζ (bE (ψ g.rules.length ε)) 4)) #[ς (ο ⟨w.heap.size+1,0,ν⟩) g.rules.length g.rules.length] 81;simpa using this
 have Z:Lx.EI g (ψ g.rules.length ε) (ψ g.rules.length ε):=⟨by simp,bX.refl _,fun T _ h _=>h⟩;obtain⟨s0,z⟩:=aC (ψ g.rules.length ε);have Hl:Hid _:=z;rw[<-z]at U5 Z;clear z D ah
 go_loopg [7] (g.rules.length+1) (fun k U wr=>∃(f:List Bool)(gr:Bool),U=μ gr/\(g.rules.length-aZ f)+AL gr<=k/\ES w.heap.size g.rules.length B num w wr f/\Lx.EI g s0 f/\Hid (gr=ε->∀i,i<g.rules.length->qj g i f))
 case atStart=>exact⟨s0,η,rfl,by simp[AL],U5,Z,fun h=>by cases h⟩
 case round=>
  clear U5 Z;revert wr;intro wz hrel;obtain⟨f,gr,rfl,hk,m,s,HC⟩:=hrel;have av:=BN f;have P:=s.len;cases gr with
  |false=>
   have c2:=m.fv.a0;have af:xD (qj g) g.rules.length (ψ g.rules.length ε) f:=by rw[<-Hl.out];exact⟨s.len,s.has,HC.out rfl,s.least⟩
   have V:Hid _:=P;clear P;go_wp2_with fail;go_ret;exact⟨w.heap.size+1,f,rfl,nh _,m.fo,af,m.fr⟩
  |true=>
   clear HC;have aw:g.rules.length-aZ f+1<=gk:=by simpa [AL]using hk
   have V:Hid _:=P;clear hk P;go_wp2_with fail;have H1:Hid ((ε=ε->f=f/\∀i,i<g.rules.length->i<0->qj g i f)/\(ε=η->aZ f<aZ f)/\bX f f):=⟨fun _=>⟨rfl,fun i _ h=>(by omega)⟩,fun h=>(by cases h),bX.refl _⟩
   go_loopg [7,17] g.rules.length (fun k U i wr=>∃(j:Nat)(d:List Bool)(gr:Bool),j+k=g.rules.length/\U=μ gr/\i=ι ξ j/\ES w.heap.size g.rules.length B num w wr d/\Lx.EI g s0 d/\Hid ((gr=ε->d=f/\∀i,i<g.rules.length->i<j->qj g i f)/\(gr=η->aZ f<aZ d)/\bX f d))
   case atStart=>exact⟨0,f,ε,by omega,rfl,rfl,m,s,H1⟩
   case round=>
    clear H1 m s;obtain⟨j,d,gr,am,rfl,rfl,m,s,t⟩:=hrel;have al:=m.fv.lt;have ap:=m.fo.lt
    by_cases hlt:j<g.rules.length
    ·obtain⟨gb,az,va,hv,ac,hA,d0,d1⟩:=h.at hlt
     cases hv;obtain⟨sa,sc,aa,-⟩:=aN.len hA;subst aa;have Qd:=h.lt gb ac;have an:=(cQ (w:=w) (m.fr.block gb Qd)).trans d0;have aq:=(cQ (w:=w) (m.fr.block gb Qd)).trans d1;have I:∀it∈lq 9 g.rules[j].alts,Ce (fun b=>b∈bG g) it:=fun it v=>⟨Y _ (eJ hlt) it v,hu _ (eJ hlt) it v⟩
     obtain⟨W1,u⟩:=aC (wr.alloc (ζ #[τ g.rules[j].name,ς sa g.rules[j].alts.length sc] 296));have ai:φ wr.heap.size wr W1:=by rw[u];exact(cV _ _).alloc (zL0) _
     have Q:=m.below ai;have ae:OkW F w (fun C=>ES w.heap.size g.rules.length B num w C d):=⟨fun C o b l=>⟨o.fr.block b (h.lt b l),by have:=o.fv.lt;have:=h.lt b l;omega⟩,fun C ao o l=>o.below l⟩;have ab:JR (fun C=>ES w.heap.size g.rules.length B num w C d) 137 #[π (ο ⟨w.heap.size+2,0,ν⟩),π (ο ⟨w.heap.size,0,ν⟩)] (wo g d) (fun b=>b∈bG g):=⟨aip,fun C b o l=>agp o (Kc b l) (ag b l)⟩;have L:=Zr 9 F w _ ae 137 _ _ _ ab _ _ hA I W1 Q;have S:j<d.length:=by have:=m.len.out;omega
     have c2:=m.fv.a0;have o1:=(m.fo.cell j).trans (qE d S);have M:Hid _:=S;have E:oo (wo g d) 9 g.rules[j].alts=η->uV g j d=d.set j η:=ahi hlt;have y:(aJ d j=η\/oo (wo g d) 9 g.rules[j].alts=ε)->qj g j d:=agq hlt;have O:Hid _:=E;have G:Hid _:=y;have H:=s.step j;clear E y I hA d0 d1 S;cases l:aJ d j with
     |true=>
      have n:Hid ((gr=ε->d=f/\∀i,i<g.rules.length->i<j+1->qj g i f)/\(gr=η->aZ f<aZ d)/\bX f d):=by
       refine⟨fun K=>?_,t.out.2⟩;have h1:=t.out.1 K;refine⟨h1.1,fun i v ad=>?_⟩
       by_cases hij2:i=j
       ·rw[hij2,<-h1.1];exact G.out (.inl l)
       ·exact h1.2 i v (by omega)
      rw[l]at o1;clear t O G L l;go_wp2_with fail;rw[<-u];go_roundg (g.rules.length - (j+1))
      case measure=>omega
      case rel=>exact⟨j+1,d,gr,by omega,rfl,by go_num,Q,s,n⟩
     |false=>
      rw[l]at o1;cases he:oo (wo g d) 9 g.rules[j].alts with
      |true=>
       have HS:Hid _:=O.out he;have Ld:Hid _:=Jy M.out l;have n:Hid ((η=ε->d.set j η=f/\∀i,i<g.rules.length->i<j+1->qj g i f)/\(η=η->aZ f<aZ (d.set j η))/\bX f (d.set j η)):=by
        refine⟨fun h=>(by cases h),fun _=>?_,t.out.2.2.trans (bX.set d j)⟩;have:=Lx.cnt_mono t.out.2.2;rw[Ld.out];omega
       rw[he]at L;clear t O G l he;go_wp2_with fail;rw[<-u];refine L.mono ?_;rintro e w2⟨rfl,A⟩;have q:=Q.below A;have ar:=q.fv.a0;have o2:=(q.fo.cell j).trans (qE d M.out);have ax:=q.fo.frozen;have X:ES w.heap.size g.rules.length B num w (w2.setCell ⟨w.heap.size+1,j,ν⟩ (μ η)) (d.set j η):=by
        refine⟨q.nb.other (by omega) _,q.mp.move (zS0 (by show B≠w.heap.size+1;omega)),q.bl,?_,q.fv.other (by omega) _,?_,q.fr.setCell (p:=⟨w.heap.size+1,j,ν⟩) (by show w.heap.size<=w.heap.size+1;omega) _⟩
        ·rw[<-Dz];exact q.fo.set j _
        ·show (d.set j η).length=_
         rw[jp];exact q.len.out
       rw[HS.out]at H;go_wp2_with fail;go_roundg (g.rules.length - (j+1))
       case measure=>omega
       case rel=>exact⟨j+1,d.set j η,η,by omega,rfl,by go_num,X,H,⟨n.out.1,fun _=>n.out.2.1 trivial,n.out.2.2⟩⟩
      |false=>
       have n:Hid ((gr=ε->d=f/\∀i,i<g.rules.length->i<j+1->qj g i f)/\(gr=η->aZ f<aZ d)/\bX f d):=by
        refine⟨fun K=>?_,t.out.2⟩;have h1:=t.out.1 K;refine⟨h1.1,fun i v ad=>?_⟩
        by_cases hij2:i=j
        ·rw[hij2,<-h1.1];exact G.out (.inr he)
        ·exact h1.2 i v (by omega)
       rw[he]at L;clear t O G l he;go_wp2_with fail;rw[<-u];refine L.mono ?_;rintro e w2⟨rfl,A⟩;have q:=Q.below A;go_wp2_with fail;go_roundg (g.rules.length - (j+1))
       case measure=>omega
       case rel=>exact⟨j+1,d,gr,by omega,rfl,by go_num,q,s,n⟩
    ·have:j=g.rules.length:=by omega
     subst this;have N:=t.out;clear t;have ak:=V.out;have a9:=BN d;have zq:=m.len.out;have HX:Hid (g.rules.length-aZ d+AL gr<=g.rules.length-aZ f+AL gr/\(gr=η->aZ f<aZ d)/\(gr=ε->∀i,i<g.rules.length->qj g i d)):=by
      have:=Lx.cnt_mono N.2.2;refine⟨by omega,N.2.1,fun K i v=>?_⟩;have h1:=N.1 K;rw[h1.1];exact h1.2 i v v
     clear N ak zq;have HM:Hid (g.rules.length-aZ d+AL gr<g.rules.length-aZ f+1):=by
      have h1:=HX.out;have h2:=V.out;have h3:=m.len.out;show _<_;cases gr with
      |true=>have:=h1.2.1 rfl;simp[AL];omega
      |false=>have:=h1.1;simp[AL]at this|-;omega
     go_wp2_with fail;go_roundg (g.rules.length-aZ d+AL gr)
     case measure=>have:=HM.out;omega
     case rel=>exact⟨d,gr,rfl,zL0,m,s,HX.out.2.2⟩
namespace Lx
structure Fit(g:Gr):Prop where
 rl:∀r∈g.rules,UN r
 ne:0<g.rules.length
 nd:(bG g).Nodup
 lvl:g.levels.length<=100000
 known:∀r∈g.rules,∀x∈lq 9 r.alts,x.kind=0->x.name∈bG g
 tok:∀r∈g.rules,∀x∈lq 9 r.alts,x.kind=1->0<=fM (aG g) x.name
 prec:∀r∈g.rules,∀a∈r.alts,a.2.1≠bP->0<=fM (aG g) a.2.1
 rise:∀r∈g.rules,((bS 9 r.alts).map It.place).Pairwise (·< ·)
 rules:g.rules.length<=2001
 Ef:(aG g).length<=2002
 O3:(gH g).length<=2002
 its:∀r∈g.rules,∀x∈lq 9 r.alts,x.alts.length<=2001/\∀a∈x.alts,a.1.length<=2001
 alts:∀r∈g.rules,r.alts.length<=2001/\∀a∈r.alts,a.1.length<=2001
 aeh:∀r∈g.rules,(bS 9 r.alts).length<=2001
 pk:∀p∈bY g,((aG g).length<=p.left/\p.left<(aG g).length+(gH g).length)/\p.right.length<=2002/\∀s∈p.right,s<(aG g).length+(gH g).length/\s≠(aG g).length
 pl:(bY g).length<=200
theorem Fit.am3{g:Gr}(h:Fit g){r:Rl}(a:r∈g.rules)(T N:List ByteArray)(b:Nat):(DU T N b r).length<=10000000:=by
 unfold DU;rw[cJ,dk];have h1:=RF (T:=T) (N:=N) (b:=b) (H:=bS 9 r.alts) (n:=2001) (by omega) (bS 9 r.alts) 0 fun x c=>(h.its r a x (j'.1 c).1).1
 have h2:=(h.alts r a).1;have h3:=h.aeh r a;have h4:(bS 9 r.alts).length*(1+2*2001)<=2001*(1+2*2001):=kj _ h3;omega
structure Gd(s:ByteArray)(g:Gr):Prop where
 hp:parse s=.ok g
 fit:Fit g
 wf:wl bP η (lex s)=qM g
 fl:(qM g).length<=100000
 tw:uT [] (told (qM g))=ν
 un:yS (jP (told (qM g))) (qM g)=ν
 cm:FM g.rules (adr g)=ν
 en:FM g.rules (ad2 g)=ν
 sm:∀x∈qM g,x.2.1.size<=2000
 dl:∀x∈qM g,¬x.1=1->¬x.1=2->x.2.1≠l7
 tk:mZ [l7] (mg (qM g))=aG g
theorem alc{g:Gr}(h:xD (CK g) g.rules.length ((ψ g.rules.length ε).set 0 η) bs):bs=adr g:=h.unique (ag2 g _ _ _ (by simp) (zL0))
theorem amj{g:Gr}(h:xD (qj g) g.rules.length (ψ g.rules.length ε) bs):bs=ad2 g:=h.unique (ah5 g _ _ _ (by simp) (zL0))
end Lx
theorem afk{W Z:υ}{g:Lx.Gr}(u:Lx.Gd s g)(h:lV F w W g.rules)(l:WR w Z (qM g)):
  χ prog 33 #[W,Z] w fun e w'=>e=δ (θ #[ι ξ 0,ι ξ 0])/\φ w.heap.size w w':=by
 have n:=u.fit;have i:=n.rules;have I:∀r∈g.rules,∀S∈lq 9 r.alts,S.kind<=2:=fun r hr S hi=>by rcases (n.rl r hr).2.1 S hi with h | h | h <;> omega
 have A:=ag6 l;rw[u.tw]at A;obtain⟨wa,wc,rfl,-⟩:=l.len;obtain⟨ra,rc,rfl,-⟩:=h.len;have p:Hid _:=u;have Q:=n.nd;have C:=n.ne;clear u n;unfold Ev at A;go_enter func33,ntmps33;go_wp2_with fail;refine A.mono ?_;rintro e w1⟨rfl,f⟩;have y:=afN (l.below f);rw[p.out.un]at y;clear A;unfold Ev at y;go_wp2_with fail;refine y.mono ?_;rintro e w2⟨rfl,R⟩;have K:=f.trans (R.mono f.size);have V:=afO (h.below K);clear y;go_wp2_with fail;refine V.mono ?_;rintro e w3⟨B,num,rfl,ab,t,Kc,T⟩;have E:=K.trans (T.mono K.size);have j:∀b,b∈bG g->num b=(Lx.fix (bG g) b:Int):=by
  intro b hb;have c:=(Ti (pX.2 hb)).2;have J:Lx.fix (bG g) b<g.rules.length:=by simpa [bG]using c
  have M:(bG g)[Lx.fix (bG g) b]=b:=mL (ri (w:=c));have D:g.rules[Lx.fix (bG g) b].name=b:=by
   have:(bG g)[Lx.fix (bG g) b]=g.rules[Lx.fix (bG g) b].name:=by simp[bG]
   rw[<-this];exact M
  have:=Kc _ J (fun k hk O e=>by
   have hp:=mN.1 Q _ k c (by simpa [bG]using hk) O;apply hp;simp only[bG,List.getElem_map];exact e.symm)
  rw[D]at this;exact this
 have Y:=afZ (h.below E) t j p.out.fit.known C i;clear V;go_wp2_with fail;refine Y.mono ?_;rintro e w4⟨o,bs,rfl,Ww,P,a,d⟩;have N:=E.trans (d.mono E.size);have q:=Yv (l.below N) P a.len (by rw[ZV];exact zL0);rw[abo g bs (by rw[a.len];exact zL0),alc a,p.out.cm]at q;clear Y;unfold Ev at q;go_wp2_with fail;refine q.mono ?_;rintro e w5⟨rfl,m⟩;have H:=N.trans (m.mono N.size);have eU:SMap w5 B num:=t.move ((m.block B (by have:=t.lt;have:=d.size;omega)).trans (d.block B t.lt));have X:=agr (h.below H) eU j p.out.fit.known I i;clear q a;go_wp2_with fail;refine X.mono ?_;rintro e w6⟨o6,L,rfl,aa,tZ,x,G⟩;have U:=H.trans (G.mono H.size);have z:=Yv (l.below U) tZ x.len (by rw[ZV];exact zL0);rw[abo g L (by rw[x.len];exact zL0),amj x,p.out.en]at z;clear X x;unfold Ev at z;go_wp2_with fail;refine z.mono ?_;rintro e w7⟨rfl,fG⟩;clear z;go_wp2_with fail;exact iS (v:=θ #[ι ξ 0,ι ξ 0]) (by simp[results,results33,go_sem]) rfl ⟨rfl,U.trans (fG.mono U.size)⟩
section
variable{g:Lx.Gr}{fS:ByteArray -> Int}
theorem abu(b:Lx.Fit g)(f:zl (aG g).length g.rules g.rules.length (je (aG g)) fS)(d:Lx.isToken c=η)(a:0<=fM (aG g) c):fS c=(Lx.fix (aG g) c:Int):=by
 rw[f.tok c fun i j _ e=>?_]
 ·unfold je
  rw[du a];unfold fM at a|-
  split at a
  ·rename_i h1;rw[du h1]
  ·omega
 ·have:=(b.rl _ (eJ j)).1
  rw[e,afS d]at this;cases this
theorem ajB(d:Lx.Fit g)(f:zl (aG g).length g.rules g.rules.length (je (aG g)) fS)(j:c∈bG g):fS c=(((aG g).length+Lx.fix (gH g) c:Nat):Int):=by
 obtain⟨r,a,rfl⟩:=fk.1 j;obtain⟨i,b,rfl⟩:=mB a;rw[f.rule i b b];have:=ak7 (fun r a=>(d.rl r a).1) d.nd b;have e:gH g=aT g.rules:=rfl;rw[e,this]
theorem Z6(a:Lx.Fit g)(d:zl (aG g).length g.rules g.rules.length (je (aG g)) fS){r:Lx.Rl}(c:r∈g.rules){x:Lx.It}(b:x∈lq 9 r.alts)(f:x.kind≠2):fS x.name=(J9 (aG g) (gH g) x:Int):=by
 unfold J9;rcases (a.rl r c).2.1 x b with h2|h2|h2
 ·rw[dt (by omega)]
  exact ajB a d (a.known r c x b h2.1)
 ·rw[du h2.1]
  exact abu a d h2.2.1 (a.tok r c x b h2.1)
 ·exact absurd h2 f
end
theorem ajC{g:Lx.Gr}{z:υ}{D:ByteArray->Int}{x:Addr->Int}(d:Lx.Fit g)(X:lV F w z g.rules)(u:Apart F w (Tp w (aS z) 0 g.rules))(A:zl (aG g).length g.rules g.rules.length (je (aG g)) D)(N:Aj w (aS z) (aG g).length g.rules g.rules.length x){G:Nat->Prop}(Q:∀b,F b->iV w b->G b):∀i(hi:i<g.rules.length),adv w F G D x (aG g) (gH g) (cv w ⟨aS z,i*2+1,ν⟩) g.rules[i] ((aG g).length+(aT (g.rules.take i)).length):=by
 intro i hi;have f:=eJ hi;obtain⟨E,H,j,W,Y,v,Z,U⟩:=X.at hi;subst W;have R:aS (ς (ο ⟨E,0,ν⟩) g.rules.length H)=E:=rfl;rw[R]at u N|-;have M:cv w ⟨E,i*2+1,ν⟩=j:=by unfold cv;rw[U];rfl
 have t:∀k p,(hlA w j g.rules[i].alts)[k]?=ο p->x p.1=(((aG g).length+(aT (g.rules.take i)).length+1+k:Nat):Int):=fun k p hp=>N i hi hi k p (by rw[M];exact hp)
 rw[M];have c:∀p∈aL 9 w j g.rules[i].alts,p.2∈lq 9 g.rules[i].alts:=fun p hp=>by rw[<-FZ v];exact fk.2 ⟨p,hp,rfl⟩
 have r:∀p∈aL 9 w j g.rules[i].alts,F p.1.block/\iV w p.1.block:=fun p hp=>u.1 p (RQ g.rules 0 i (cG hi) (by rw[fX,M];exact hp))
 have s:∀p∈aL 9 w j g.rules[i].alts,Ak D x p=(JO (aG g) (gH g) ((aG g).length+(aT (g.rules.take i)).length) (bS 9 g.rules[i].alts) p.2:Int):=by
  intro p hp;unfold Ak JO
  by_cases hlp:Lx.hlp p.2=η
  ·rw[du hlp,du hlp]
   have J:p∈hlA w j g.rules[i].alts:=j'.2 ⟨hp,hlp⟩;obtain⟨k,B,rfl⟩:=mB J;rw[t k _ (cG B)];have I:=abq v;have l:k<(bS 9 g.rules[i].alts).length:=by rw[<-Tq v];exact B
   have O:(bS 9 g.rules[i].alts)[k]=((hlA w j g.rules[i].alts)[k]).2:=by
    have y:((hlA w j g.rules[i].alts).map Prod.snd)[k]?=(bS 9 g.rules[i].alts)[k]?:=by rw[I]
    rw[dj,cG B,cG l]at y;simpa using y.symm
   have K:Cn (bS 9 g.rules[i].alts) ((hlA w j g.rules[i].alts)[k]).2.place<(bS 9 g.rules[i].alts).length:=ak4 (by rw[<-O];exact eJ l);have:=(ajr (d.rise _ f) l K).1 (by rw[O]);rw[<-this]
  ·rw[dt hlp,dt hlp]
   refine Z6 d A f (c p hp) fun h2=>hlp ?_
   simp[Lx.hlp,h2]
 refine⟨?_,fun p hp=>⟨(r p hp).1,Q _ (r p hp).1 (r p hp).2,fun h2=>Z6 d A f (c p hp) h2,?_,?_,?_⟩,s,t,?_,?_,?_,?_,d.am3 f _ _ _⟩
 ·exact A.rule i hi hi
 ·have:=(d.its _ f _ (c p hp)).1;omega
 ·intro a o
  have:=(d.its _ f _ (c p hp)).2 a o;omega
 ·obtain⟨n,m,V,T,h1,h2,h3,h4,y,L⟩:=abt v hp
  exact⟨n,m,V,T,h1,h4,y,fun q C=>⟨Q _ (r q (L q C)).1 (r q (L q C)).2,s q (L q C)⟩⟩
 ·intro a o P
  have S:=d.prec _ f a o P;rcases (d.rl _ f).2.2 a o with h1|h1
  ·exact absurd h1 P
  ·exact abu d A h1 S
 ·have:=(d.alts _ f).1;omega
 ·intro a o
  have:=(d.alts _ f).2 a o;omega
 ·rw[Tq v]
  have:=d.aeh _ f;omega
namespace Lx
theorem afv{ws:List Wd}(h:x.1=1\/x.1=2):mg (x::ws)=mg ws:=by unfold mg;rw[List.filter_cons_of_neg];rcases h with h|h <;> simp[h]
theorem ahk{ws:List Wd}(h1:¬x.1=1)(h2:¬x.1=2):mg (x::ws)=x.2.1::mg ws:=by unfold mg;rw[List.filter_cons_of_pos (by simp[h1,h2])];rfl
end Lx
structure anN(w:ω)(mb S:Nat)(cs:Array υ)(T:List ByteArray)(w':ω):Prop where
 ex:∃vT,aj w' mb (cs.setIfInBounds 0 vT) 216/\w'.ownsRow w.heap.size 9 1 vT T.length (T.map τ)
 sm:SMap w' S (je T)
 kp:Kp (fun g=>g<w.heap.size/\g≠mb/\g≠S) w w'
theorem afw{d S:Nat}{ws:List Lx.Wd}(J:aj w d #[ς ν 0 0,ς ν 0 0,ς ν 0 0,ς ν 0 0,ς ν 0 0,.map (ο S),vH] 216)(hS:SMap w S (fun _=>0))(yx:WR w vW ws)(am:∀g,vW.ownBlock=ο g->g≠d/\g≠S)(hsz:∀x∈ws,x.2.1.size<=2000)(ax:∀x∈ws,¬x.1=1->¬x.1=2->x.2.1≠l7)(hl:ws.length<=100000):
  χ prog 82 #[π (ο ⟨d,0,ν⟩),vW] w fun e w'=>e=δ (θ #[])/\anN w d S #[ς ν 0 0,ς ν 0 0,ς ν 0 0,ς ν 0 0,ς ν 0 0,.map (ο S),vH] (mZ [l7] (mg ws)) w':=by
 obtain⟨i9,an,Y,ad,V⟩:=ft Tryz.Ut;obtain⟨a,c,rfl,-⟩:=yx.len;have lm:=J.lt;have lS:=hS.lt;have AA:d≠S:=fun e=>by
  obtain⟨es,ag,h1,-⟩:=hS;unfold aj at J;rw[e,h1]at J;cases J
 have m0:=J.a0;have f0:=J.frozen;go_enter func82,ntmps82;go_wp2_with fail;obtain⟨W,B⟩:=aC ((w.setCell ⟨d,0,ν⟩ (ς (ο ⟨w.heap.size,0,ν⟩) 1 1)).alloc (ζ #[τ l7] 9));have eW:(w.setCell ⟨d,0,ν⟩ (ς (ο ⟨w.heap.size,0,ν⟩) 1 1)).alloc (ζ #[τ { data:=#[36] }] 9)=W:=B.symm;rw[eW];clear eW;have kW:aj W d #[ς (ο ⟨w.heap.size,0,ν⟩) 1 1,ς ν 0 0,ς ν 0 0,ς ν 0 0,ς ν 0 0,.map (ο S),vH] 216:=by rw[B];exact(J.set 0 _).alloc _
 have kN:aj W w.heap.size #[τ l7] 9:=by
  have:=aj.new (w.setCell ⟨d,0,ν⟩ (ς (ο ⟨w.heap.size,0,ν⟩) 1 1)) #[τ l7] 9;rw[B];simpa [World.setCell]using this
 have oW:W.ownsRow w.heap.size 9 1 (ς (ο ⟨w.heap.size,0,ν⟩) 1 1) 1 [τ l7]:=⟨rfl,.inr ⟨w.heap.size,1,#[τ l7],rfl,zL0,kN,zL0,by decide,rfl,rfl⟩⟩;have u:Kp (fun g=>g<w.heap.size/\g≠d) w W:=⟨by rw[B];rfl,by rw[B];rfl,by rw[B];rfl,by rw[B];simp[World.setCell],fun g b=>by rw[B,ed _ _ _ (by simp[World.setCell];exact b.1),zS0 b.2]⟩;have Z:SMap W S (je [l7]):=by rw[ajy];exact hS.move (u.block S ⟨lS,fun e=>AA e.symm⟩)
 have ac:Kp (fun g=>g<w.heap.size/\g≠d/\g≠S) w W:=⟨u.os,u.tape,u.output,u.size,fun g b=>u.block g ⟨b.1,b.2.1⟩⟩;have H0:Hid (mZ [l7] (mg ws)=mZ [l7] (mg (ws.drop 0))):=rfl;clear B u kN m0 f0
 go_loopg [13] ws.length (fun k i wr=>∃(j:Nat)(T:List ByteArray)(vT:υ),j+k=ws.length/\i=ι ξ j/\T.length<=j+1/\(∃Q,T=l7::Q)/\aj wr d #[vT,ς ν 0 0,ς ν 0 0,ς ν 0 0,ς ν 0 0,.map (ο S),vH] 216/\wr.ownsRow w.heap.size 9 1 vT T.length (T.map τ)/\SMap wr S (je T)/\Kp (fun g=>g<w.heap.size/\g≠d/\g≠S) w wr/\Hid (mZ [l7] (mg ws)=mZ T (mg (ws.drop j))))
 case atStart=>exact⟨0,[l7],_,by omega,rfl,by simp,⟨[],rfl⟩,kW,oW,Z,ac,H0⟩
 case round=>
  clear H0 Z ac oW kW;obtain⟨j,T,vT,hk,rfl,Qf,r,kr,Wx,hM,y,P⟩:=hrel;have ak:=y.size;obtain⟨ta,tc,rfl,-⟩:=aB Wx
  by_cases hlt:j<ws.length
  ·have ao:=yx.move fun g b=>y.block g ⟨(yx.lt g b).2,am g b⟩
   obtain⟨g,aP,hv,lg,c0,c1,c2⟩:=ao.at hlt;cases hv;have hd:=P.out;rw[eN hlt]at hd;have Vb:=hsz ws[j] (eJ hlt);have GH:=ax ws[j] (eJ hlt);generalize ws[j]=x at c0 c1 c2 hd Vb GH;obtain⟨v,tx,U⟩:=x;simp only at c0 c1 c2 hd Vb GH;obtain⟨E,q⟩:=aC (wr.alloc (ζ #[ι ξ (v:Int),τ tx,ι ξ (U:Int)] 208));have C:φ wr.heap.size wr E:=by rw[q];exact(cV _ _).alloc (zL0) _
   have ar:E.heap.size=wr.heap.size+1:=by rw[q];simp
   have kx:aj E wr.heap.size #[ι ξ (v:Int),τ tx,ι ξ (U:Int)] 208:=by rw[q];exact aj.new wr _ 208
   have aw:=hM.lt;have al:=kr.lt;have z:SMap E S (je T):=hM.move (C.block _ aw);have k1:=kr.go C al;have o1:=own_below Wx C;have f:=y.trans (Kp.below C (D:=fun g=>g<wr.heap.size) fun g b=>b) fun g b=>dg b.1 ak
   by_cases l:v=1\/v=2
   ·rw[afv l]at hd
    have s:Hid _:=hd;clear hd P;rcases l with l|l
    have ae:((v:Int) == 1)=η:=by simp[l]
    clear l
    rotate_left
    have ae:((v:Int) == 1)=ε:=zB0 (by omega);have ap:((v:Int) == 2)=η:=by simp[l]
    clear l
    all_goals
     go_wp2_with fail;rw[<-q];go_roundg (ws.length - (j+1))
     case measure=>omega
     case rel=>exact⟨j+1,T,_,by omega,by go_num,by omega,r,k1,o1,z,f,s⟩
   ·have F:¬v=1:=fun e=>l (.inl e)
    have M:¬v=2:=fun e=>l (.inr e)
    have ae:((v:Int) == 1)=ε:=zB0 (by omega);have ap:((v:Int) == 2)=ε:=zB0 (by omega);rw[ahk F M]at hd;have A:=GH F M;have Vd:SMap E.drew S (je T):=z.move rfl;have I:=Vd.look tx;have x1:=kx.drew.a1;have m5:=k1.drew.a5;have ab:Kp (fun g=>g<w.heap.size/\g≠d/\g≠S) w E.drew:=⟨f.os,f.tape,f.output,f.size,f.block⟩;clear GH l F M;obtain⟨Q,r⟩:=r
    by_cases h0:je T tx=0
    ·have O:¬0<=fM T tx:=by
      rw[r]at h0|-;exact(Z4 A).1 h0
     have s:Hid (mZ [l7] (mg ws)=mZ (T++[tx]) (mg (ws.drop (j+1)))):=by
      rw[show mZ T (tx::mg (ws.drop (j+1)))=mZ (uX T tx) (mg (ws.drop (j+1))) from rfl,show uX T tx=T++[tx] from dt O]at hd;exact hd
     rw[h0]at I;have R:SMap E.drew.drew S (je T):=z.move rfl;obtain⟨w2,hu,af,p,H⟩:=R.put tx (T.length:Int);rw[ajz O]at af;have Wy:=k1.drew.drew;have aa:=kx.drew.drew;have d0:=Wy.a0;have d5:=Wy.a5;have dx:=aa.a1;have k2:=Wy.grown p (fun e=>AA (fL e));have GY:=aa.grown p (fun e=>by have:=fL e;omega);have o2:=ay (ay (w':=E.drew.drew) o1 fun _ _=>rfl) fun g b=>p.block g (o1.lt g b).2 (fun e=>by have:=(o1.lt g b).1;have:=fL e;omega)
     have t:Kp (fun g=>g<w.heap.size/\g≠d/\g≠S) w w2:=⟨p.os.trans f.os,p.tape.trans f.tape,p.output.trans f.output,by rw[H];exact f.size,fun g b=>(p.block g (dg b.1 f.size) (fun e=>b.2.2 (fL e))).trans (f.block g b)⟩;have aR:=H.trans ar;have aE:=p;have HT:Hid (∃Q,T++[tx]=l7::Q):=⟨Q++[tx],by rw[r];rfl⟩;clear hd P O A h0 z Vd R p H ab r;go_wp2_with fail;rw[<-q];clear q c0 c1 c2
     go_region
     all_goals
      go_wp2_with fail
      go_region
     all_goals
      clear I hu d0 d5 dx m5 x1;have qC:=Nq tx w2.drew Vb;have ah:=k2.lt;have e0:=k2.drew.a0;have ex:=GY.drew.a1;go_wp2_with fail
      go_region_law (first | (refine eZ rfl 139 #[.string tx] (by go_simp) qC ?_;rintro e N⟨rfl,m⟩;have k3:aj N d _ 216:=(m.block d ah).trans k2;have o3:=own_below (ay (w':=w2.drew) o2 fun _ _=>rfl) m;have oA:=o3.alloc (.cells #[.string tx] 9);have e3:N.cell? ⟨d,0,ν⟩=ο (.slice ta T.length tc):=k3.cell 0;have aH:=k3.lt;have a9:w.heap.size<=N.heap.size:=cY t.size m.size;refine⟨_,rfl,?_⟩) | (refine step_append_lies _ rfl (.tmp 50) (.tmp 54) 45 rfl w.heap.size 9 i9 _ 1 16 underlying45 an Y ad V rfl (by decide) (.slice ta T.length tc) T.length (T.map τ) (by simp[Act.eval]) oA ⟨N.heap.size,0,ν⟩ 1 1 [.string tx] (by simp[Act.eval]) rfl (bQ (aj.new N _ 9)) (by simp[Value.oneCell']) (by decide) (by unfold maxLen;omega) (by omega) (by simp;omega) _ rfl ?_;intro L o K uY G Ee xL;have k4:=(k3.alloc (.cells #[.string tx] 9)).grown G (fun e=>by have:=(o2.lt d e.symm).1;omega);have ai:K.cell? ⟨d,0,ν⟩=ο (.slice ta T.length tc):=k4.cell 0;have f4:∀i,K.frozen? ⟨d,i,ν⟩=ε:=k4.frozen))
     all_goals
      have dU:∀g,g<w2.heap.size->g≠d->g<w.heap.size->(K.setCell ⟨d,0,ν⟩ (ς (ο ⟨L,0,ν⟩) (T.length+1) o)).heap[g]?=w2.heap[g]?:=fun g b hm az=>by
       rw[zS0 hm,G.block g (by have:=m.size;have:g<N.heap.size:=dg b this;simp;omega) (fun e=>by have:=(o2.lt g e.symm).1;omega),ed _ _ _ (dg b m.size),m.block g b];rfl
      have o5:(K.setCell ⟨d,0,ν⟩ (ς (ο ⟨L,0,ν⟩) (T.length+1) o)).ownsRow w.heap.size 9 1 (ς (ο ⟨L,0,ν⟩) (T.length+1) o) (T++[tx]).length ((T++[tx]).map τ):=by
       rw[cJ,ee];exact ay uY fun g b=>zS0 (fun e=>by have:=(uY.lt g b).1;have e':g=d:=e;omega)
      have X:w2.heap.size<=(K.setCell ⟨d,0,ν⟩ (ς (ο ⟨L,0,ν⟩) (T.length+1) o)).heap.size:=by
       have h1:=m.size;have h2:=G.size;simp[World.setCell]at h1 h2|-;omega
      have av:S<w2.heap.size:=by omega
      have eU:SMap (K.setCell ⟨d,0,ν⟩ (ς (ο ⟨L,0,ν⟩) (T.length+1) o)) S (je (T++[tx])):=af.move (dU S av (fun e=>AA e.symm) lS);have aq:Kp (fun g=>g<w.heap.size/\g≠d/\g≠S) w (K.setCell ⟨d,0,ν⟩ (ς (ο ⟨L,0,ν⟩) (T.length+1) o)):=⟨G.os.trans (m.os.trans t.os),G.tape.trans (m.tape.trans t.tape),G.output.trans (m.output.trans t.output),cY t.size X,fun g b=>(dU g (dg b.1 t.size) b.2.1 b.1).trans (t.block g b)⟩;have k5:=k4.set 0 (ς (ο ⟨L,0,ν⟩) (T.length+1) o);clear k4 ai f4 G uY Ee xL o3 oA e3 m k3 qC e0 ex dU X;go_wp2_with fail;go_roundg (ws.length - (j+1))
      case measure=>omega
      case rel=>exact⟨j+1,T++[tx],_,by omega,by go_num,by simp;omega,HT.out,k5,o5,eU,aq,s⟩
    ·have O:0<=fM T tx:=by
      apply jt;intro hn;rw[r]at h0 hn;exact h0 ((Z4 A).2 hn)
     have s:Hid (mZ [l7] (mg ws)=mZ T (mg (ws.drop (j+1)))):=by
      rw[show mZ T (tx::mg (ws.drop (j+1)))=mZ (uX T tx) (mg (ws.drop (j+1))) from rfl,show uX T tx=T from du O]at hd;exact hd
     clear hd P O A;generalize hn:je T tx=n at I h0;have aA:=ej.2 h0;go_wp2_with fail;rw[<-q];clear q c0 c1 c2
     go_region
     all_goals
      go_wp2_with fail;go_roundg (ws.length - (j+1))
      case measure=>omega
      case rel=>exact⟨j+1,T,_,by omega,by go_num,by omega,⟨Q,r⟩,k1.drew,ay o1 fun _ _=>rfl,Vd,ab,s⟩
  ·have:j=ws.length:=by omega
   subst this;have hd:=P.out;rw[im]at hd;have s:Hid (mZ [l7] (mg ws)=T):=hd;clear hd P;go_wp2_with fail
   go_end0
   refine⟨rfl,?_⟩;rw[s.out];exact⟨⟨_,kr,Wx⟩,hM,y⟩
def dY(r:List Nat):Array υ:=(dP r).toArray
theorem Sd(r:List Nat)(i:Nat)(s:Nat):(dY r).setIfInBounds i (ι ξ (s:Int))=dY (r.set i s):=by
 unfold dY dP;rw[j8,oR]
theorem Sg(r:List Nat)(h:i<r.length):(dY r)[i]?=ο (ι ξ (r[i]:Int)):=by
 unfold dY dP;simp[h]
theorem aiq(n:Nat):madeCells #[ι ξ 0] (n*1)=dY (ψ n 0):=by
 unfold madeCells dY dP;apply rK
 ·simp
 ·intro i h1 h2
  simp[Nat.mod_one]
theorem Tryz.info3':(prog.info? 3).map (fun i=>(i.zero,i.size,i.bytes))=ο (ο (.int ξ 0),1,8):=by kernel_rfl
theorem Ns(g:n<=100000)(w:ω):(Instr.makeSlice 47 (ι ξ (n:Int)) (ι ξ (n:Int))).run prog w=.ok (ς (ο ⟨w.heap.size,0,ν⟩) n n) (w.alloc (ζ (dY (ψ n 0)) 3)):=by
 obtain⟨d,f,b,c,a⟩:=ft Tryz.info3';have h:=qh (P:=prog) w 47 3 d _ (by kernel_rfl) f b ξ ξ (n:Int) (n:Int) (by omega) (oX _) (by rw[a];omega) (by omega);rw[h,ij,c];have e:Value.cells (ι ξ 0)=#[ι ξ 0]:=rfl;rw[e,aiq]
theorem Z7{g:Nat}{r:List Nat}(h:aj w g (dY r) 3)(a:B<=g)(b:r.length<=100000):IR B w (ς (ο ⟨g,0,ν⟩) r.length r.length) r:=by
 refine⟨by rw[DC];simp,.inr ⟨g,r.length,dY r,rfl,a,h,zL0,by unfold maxLen;omega,by simp[dY,DC],?_⟩⟩;unfold dY;rw[j9,<-DC];exact ff
namespace Lx
theorem af0{l:List ByteArray}(h:l.Nodup)(b:ByteArray):(uX l b).Nodup:=by
 unfold uX
 split
 ·exact h
 ·rename_i f
  rw[j7];refine⟨h,by simp,fun a g c d e=>?_⟩;rw[dd]at d;exact f (pX.2 (d▸e▸g))
theorem YC:∀(bs l:List ByteArray),l.Nodup->(mZ l bs).Nodup
 | [],_,h=>h
 |b::bs,l,h=>YC bs (uX l b) (af0 h b)
theorem abv{T:List ByteArray}(nd:T.Nodup)(a:T[i]?=ο b)(f:ByteArray->Nat)(v:Nat):(T.map f).set i v=T.map fun t=>if t=b then v else f t:=by
 obtain⟨a,rfl⟩:=cH.1 a;apply od
 ·simp
 ·intro j h1 h2
  simp only[List.length_set,List.length_map]at h1;rw[uA,pH,pH]
  by_cases hij:i=j
  ·subst hij;simp
  ·rw[dt hij,dt]
   intro e;exact hij ((mC nd).1 e).symm
theorem ald{T:List ByteArray}(h:0<=fM T b):T[fix T b]?=ο b/\fM T b=(fix T b:Int):=by
 have a:fix T b<T.length:=by
  unfold fM at h
  split at h
  ·assumption
  ·omega
 refine⟨?_,by unfold fM;rw[du a]⟩;have:=ri (w:=a);rw[cG a];have h2:T[fix T b]=b:=mL this;rw[h2]
def GK(p:Nat×Nat):List (ByteArray×Nat)->(ByteArray->Nat×Nat)->ByteArray->Nat×Nat
 | [],B=>B
 |t::ts,B=>GK p ts fun c=>if c=t.1 then p else B c
theorem abw(p:Nat×Nat):∀(ts:List (ByteArray×Nat))(B:ByteArray->Nat×Nat)(t:ByteArray),GK p ts B t=if 0<=fM (ts.map Prod.fst) t then p else B t
 | [],B,t=>by
  have:¬0<=fM ([]:List ByteArray) t:=fun h=>by have:=pX.1 h;cases this
  rw[qr,dt this];rfl
 |x::ts,B,t=>by
  rw[GK,abw p ts,n9]
  by_cases h1:0<=fM (ts.map Prod.fst) t
  ·rw[du h1,du (pX.2 (eR _ (pX.1 h1)))]
  ·rw[dt h1]
   by_cases h2:t=x.1
   ·rw[du h2,du (pX.2 (by rw[h2];exact eE))]
   ·rw[dt h2,dt]
    intro h;rcases fh.1 (pX.1 h) with h|h
    ·exact h2 h
    ·exact h1 (pX.2 h)
end Lx
structure anO(w:ω)(mb:Nat)(cs:Array υ)(T:List ByteArray)(B:ByteArray->Nat×Nat)(w':ω):Prop where
 ex:∃vB vK,aj w' mb ((cs.setIfInBounds 3 vB).setIfInBounds 4 vK) 216/\IR w.heap.size w' vB (T.map fun t=>(B t).1)/\IR w.heap.size w' vK (T.map fun t=>(B t).2)/\∀g,vB.ownBlock=ο g->vK.ownBlock≠ο g
 kp:Kp (fun g=>g<w.heap.size/\g≠mb) w w'
theorem afx{f S:Nat}{vT vN vP vL:υ}{T:List ByteArray}{d:List Lx.Lv}(J:aj w f #[vT,vN,vP,ς ν 0 0,ς ν 0 0,.map (ο S),vH] 216)(oT:w.ownsRow 0 9 1 vT T.length (T.map τ))(hS:SMap w S (je T))(hV:Tr.Seq F w 292 2 cL (KL F w) vL d)(hF:∀b,F b->b<w.heap.size/\b≠f)(nd:T.Nodup)(hT:∀l∈d,∀t∈l.tokens,0<=fM T t.1)(Qf:T.length<=100000)(Wz:d.length<=100000):
  χ prog 83 #[π (ο ⟨f,0,ν⟩),vL] w fun e w'=>e=δ (θ #[])/\anO w f #[vT,vN,vP,ς ν 0 0,ς ν 0 0,.map (ο S),vH] T (fun t=>Lx.bk t 0 d (0,0)) w':=by
 obtain⟨la,lc,rfl,aA⟩:=Seq.len hV;obtain⟨ta,tc,rfl,-⟩:=aB oT;have lm:=J.lt;have lS:=hS.lt;have AA:f≠S:=fun e=>by
  obtain⟨es,ao,h1,-⟩:=hS;unfold aj at J;rw[e,h1]at J;cases J
 have ap:=fun w=>Ns Qf w
 have m0:=J.a0;have m3:=J.a3;have m4:=J.a4;have f0:=J.frozen;go_enter func83,ntmps83;go_wp2_with fail;obtain⟨W,H⟩:=aC ((((w.setCell ⟨f,3,ν⟩ (ς (ο ⟨w.heap.size,0,ν⟩) T.length T.length)).setCell ⟨f,4,ν⟩ (ς (ο ⟨w.heap.size+1,0,ν⟩) T.length T.length)).alloc (ζ (dY (ψ T.length 0)) 3)).alloc (ζ (dY (ψ T.length 0)) 3));rw[<-H];have kW:aj W f #[ς ta T.length tc,vN,vP,ς (ο ⟨w.heap.size,0,ν⟩) T.length T.length,ς (ο ⟨w.heap.size+1,0,ν⟩) T.length T.length,.map (ο S),vH] 216:=by rw[H];exact(((J.set 3 _).set 4 _).alloc _).alloc _
 have WB:T.map (fun _:ByteArray=>0)=ψ T.length 0:=List.map_const' ..;have kB:aj W w.heap.size (dY (T.map fun t=>((fun _=>(0,0):ByteArray->Nat×Nat) t).1)) 3:=by
  have:=(aj.new ((w.setCell ⟨f,3,ν⟩ (ς (ο ⟨w.heap.size,0,ν⟩) T.length T.length)).setCell ⟨f,4,ν⟩ (ς (ο ⟨w.heap.size+1,0,ν⟩) T.length T.length)) (dY (ψ T.length 0)) 3).alloc (ζ (dY (ψ T.length 0)) 3);rw[H];show aj _ _ (dY (T.map (fun _:ByteArray=>0))) 3;rw[WB];simpa [World.setCell]using this
 have kK:aj W (w.heap.size+1) (dY (T.map fun t=>((fun _=>(0,0):ByteArray->Nat×Nat) t).2)) 3:=by
  have:=aj.new (((w.setCell ⟨f,3,ν⟩ (ς (ο ⟨w.heap.size,0,ν⟩) T.length T.length)).setCell ⟨f,4,ν⟩ (ς (ο ⟨w.heap.size+1,0,ν⟩) T.length T.length)).alloc (ζ (dY (ψ T.length 0)) 3)) (dY (ψ T.length 0)) 3;rw[H];show aj _ _ (dY (T.map (fun _:ByteArray=>0))) 3;rw[WB];simpa [World.setCell]using this
 have an:Kp (fun g=>g<w.heap.size/\g≠f) w W:=⟨by rw[H];rfl,by rw[H];rfl,by rw[H];rfl,by rw[H];simp[World.setCell];omega,fun g o=>by rw[H,ed _ _ _ (by simp[World.setCell];omega),ed _ _ _ (by simp[World.setCell];exact o.1),zS0 o.2,zS0 o.2]⟩;have H0:Hid (∀t,Lx.bk t 0 d (0,0)=Lx.bk t 0 (d.drop 0) ((fun _=>(0,0):ByteArray->Nat×Nat) t)):=fun _=>rfl
 clear H WB ap m0 m3 m4 f0;obtain⟨R,K⟩:∃R:Array υ,R=#[ς ta T.length tc,vN,vP,ς (ο ⟨w.heap.size,0,ν⟩) T.length T.length,ς (ο ⟨w.heap.size+1,0,ν⟩) T.length T.length,.map (ο S),vH]:=⟨_,rfl⟩;rw[<-K]at kW
 go_loopg [32] d.length (fun k i wr=>∃(j:Nat)(B:ByteArray->Nat×Nat),j+k=d.length/\i=ι ξ j/\aj wr f R 216/\aj wr w.heap.size (dY (T.map fun t=>(B t).1)) 3/\aj wr (w.heap.size+1) (dY (T.map fun t=>(B t).2)) 3/\Kp (fun g=>g<w.heap.size/\g≠f) w wr/\Hid (∀t,Lx.bk t 0 d (0,0)=Lx.bk t j (d.drop j) (B t)))
 case atStart=>exact⟨0,_,by omega,rfl,kW,kB,kK,an,H0⟩
 case round=>
  clear H0 an kK kB kW;revert wr;intro v hrel;obtain⟨j,B,hk,rfl,kz,Qg,Lf,E,HD⟩:=hrel
  by_cases hlt:j<d.length
  ·have ax:=Seq.move hV (fun b hb=>E.block b (hF b hb)) (fun _ h=>h) (fun _ _ h=>h)
   obtain⟨gL,J4,va,hv,aH,Qh,WC⟩:=Seq.at ax (fun _=>rfl) hlt;cases hv;have O:=hT d[j] (eJ hlt);have hd:=HD.out;rw[eN hlt]at hd;have c0:v.cell? ⟨gL,j*2,ν⟩=ο (ι ξ (d[j].kind:Int)):=WC 0 (by decide);have c1:v.cell? ⟨gL,j*2+1,ν⟩=ο va:=WC 1 (by decide);generalize d[j]=lv at O hd Qh c0 c1;obtain⟨s,a⟩:=lv;simp only at O Qh c0 c1;have ag:Tr.Seq F w 9 1 cT (fun _ _=>True) va a:=Qh;obtain⟨xa,xc,rfl,oC⟩:=Seq.len ag;obtain⟨u,a9,HJ⟩:∃u:Nat,IntKind.i64.wrap ((j:Int)+1)=(u:Int)/\Hid (u=j+1):=⟨j+1,by rw[show ((j:Int)+1)=((j+1:Nat):Int) from by omega];exact wrap64 (by omega),rfl⟩;have Q:Hid (∀t,Lx.bk t 0 d (0,0)=Lx.bk t (j+1) (d.drop (j+1)) (GK (u,s) (a.drop 0) B t)):=fun t=>by
    rw[hd t,Lx.bk,HJ.out,t8,abw]
   clear hd HD WC Qh;obtain⟨W1,A⟩:=aC (v.alloc (ζ #[ι ξ (s:Int),ς xa a.length xc] 292));have G:φ v.heap.size v W1:=by rw[A];exact(cV _ _).alloc (zL0) _
   have aP:W1.heap.size=v.heap.size+1:=by rw[A];simp
   have kl:aj W1 v.heap.size #[ι ξ (s:Int),ς xa a.length xc] 292:=by rw[A];exact aj.new v _ 292
   have aR:=Lf.lt;have k1:=kz.on G;have Y:=(G.block _ Qg.lt).trans Qg;have af:=(G.block _ Lf.lt).trans Lf;have ak:=E.trans (Kp.below G (D:=fun g=>g<v.heap.size) fun g o=>o) fun g o=>dg o.1 E.size
   unfold maxLen at oC;go_wp2_with fail;rw[<-A];clear A c0 c1
   go_loopg [40] a.length (fun k i wr=>∃(m:Nat)(B:ByteArray->Nat×Nat),m+k=a.length/\i=ι ξ m/\aj wr f R 216/\aj wr w.heap.size (dY (T.map fun t=>(B t).1)) 3/\aj wr (w.heap.size+1) (dY (T.map fun t=>(B t).2)) 3/\aj wr v.heap.size #[ι ξ (s:Int),ς xa a.length xc] 292/\Kp (fun g=>g<w.heap.size/\g≠f) w wr/\Hid (∀t,Lx.bk t 0 d (0,0)=Lx.bk t (j+1) (d.drop (j+1)) (GK (u,s) (a.drop m) B t)))
   case atStart=>exact⟨0,B,by omega,rfl,k1,Y,af,kl,ak,Q⟩
   case round=>
    clear Q ak kl af Y k1 G kz Qg Lf E;clear B;obtain⟨m,B,az,rfl,kr,wm,WE,ac,n,Q⟩:=hrel
    by_cases Ai:m<a.length
    ·have ah:=Seq.move ag (fun b hb=>n.block b (hF b hb)) (fun _ h=>h) (fun _ _ h=>h)
     obtain⟨gT,aE,vk,hv,WG,-,ad⟩:=Seq.at ah (fun _=>rfl) Ai;cases hv;have t0:wr.cell? ⟨gT,m,ν⟩=ο (τ a[m].1):=by
      have:=ad 0 (by decide);rw[j9,nz]at this;exact this
     have z:=O a[m] (eJ Ai);have hd:=Q.out;rw[eN Ai]at hd;generalize a[m]=tk at t0 z hd;obtain⟨tx,tp⟩:=tk;simp only at t0 z;obtain⟨L,ae⟩:=ald z;have M:je T tx=(Lx.fix T tx:Int):=by unfold je;rw[du z];exact ae
     have jG:SMap wr S (je T):=hS.move (n.block S ⟨lS,fun e=>AA e.symm⟩);have eB:=abv nd L (fun t=>(B t).1) u;have eK:=abv nd L (fun t=>(B t).2) s;have mF:=(cH.1 L).1;have aw:Hid (∀t,Lx.bk t 0 d (0,0)=Lx.bk t (j+1) (d.drop (j+1)) (GK (u,s) (a.drop (m+1)) (fun c=>if c=tx then (u,s) else B c) t)):=fun t=>by rw[hd t];rfl
     have X:(T.map fun t=>((fun c=>if c=tx then (u,s) else B c) t).1)=T.map fun t=>if t=tx then u else (B t).1:=ju fun t _=>by show (if t=tx then (u,s) else B t).1=_;split <;> rfl
     have ai:(T.map fun t=>((fun c=>if c=tx then (u,s) else B c) t).2)=T.map fun t=>if t=tx then s else (B t).2:=ju fun t _=>by show (if t=tx then (u,s) else B t).2=_;split <;> rfl
     have ab:=SMap.look (w:=wr.drew) (jG.move rfl) tx;rw[M]at ab;have N:Hid (Lx.fix T tx<(T.map fun t=>(B t).1).length):=by show _<_;simpa using mF
     have yA:Hid (Lx.fix T tx<(T.map fun t=>(B t).2).length):=by show _<_;simpa using mF
     have WH:=M;generalize Lx.fix T tx=q at ab eB eK mF N yA WH;have WI:=wm.drew;have b0:wr.drew.cell? ⟨w.heap.size,q,ν⟩=ο (ι ξ ((T.map fun t=>(B t).1)[q]'N.out:Int)):=by rw[WI.cell q];exact Sg _ N.out
     generalize (T.map fun t=>(B t).1)[q]'N.out=ob at b0;have fB:=WI.frozen;have Qi:=kr.drew;rw[K]at Qi;have m3:=Qi.a3;have m5:=Qi.a5;obtain⟨C,p⟩:=aC ((wr.setCell ⟨w.heap.size,q,ν⟩ (ι ξ (u:Int))).drew);have V:aj C w.heap.size (dY (T.map fun t=>if t=tx then u else (B t).1)) 3:=by
      have:=(wm.set q (ι ξ (u:Int))).drew;rw[Sd,eB]at this;rw[p];exact this
     have x:∀g,g≠w.heap.size->C.heap[g]?=wr.heap[g]?:=fun g o=>by rw[p];exact zS0 o
     have k2:aj C f R 216:=(x f (by omega)).trans kr;have U:=(x (w.heap.size+1) (by omega)).trans WE;have aa:=(x v.heap.size (by omega)).trans ac;have y:Kp (fun g=>g<w.heap.size/\g≠f) w C:=⟨by rw[p];exact n.os,by rw[p];exact n.tape,by rw[p];exact n.output,by rw[p];simpa [World.setCell]using n.size,fun g o=>(x g (by omega)).trans (n.block g o)⟩;have am:SMap C S (je T):=jG.move (x S (by omega));have aq:=SMap.look (w:=C.drew) (am.move rfl) tx;rw[WH]at aq;have O5:aj C (w.heap.size+1) (dY (T.map fun t=>(B t).2)) 3:=U;have Ve:aj C v.heap.size #[ι ξ (s:Int),ς (ο ⟨gT,0,ν⟩) a.length xc] 292:=aa;have a0:C.drew.cell? ⟨w.heap.size+1,q,ν⟩=ο (ι ξ ((T.map fun t=>(B t).2)[q]'yA.out:Int)):=by rw[O5.drew.cell q];exact Sg _ yA.out
     generalize (T.map fun t=>(B t).2)[q]'yA.out=ok at a0;have fK:=O5.drew.frozen;have Qj:=k2.drew;rw[K]at Qj;have n4:=Qj.a4;have n5:=Qj.a5;have nl:=Ve.drew.a0;obtain⟨P,r⟩:=aC ((C.setCell ⟨w.heap.size+1,q,ν⟩ (ι ξ (s:Int))).drew);have Z:aj P (w.heap.size+1) (dY (T.map fun t=>if t=tx then s else (B t).2)) 3:=by
      have:=(O5.set q (ι ξ (s:Int))).drew;rw[Sd,eK]at this;rw[r];exact this
     have Lh:∀g,g≠w.heap.size+1->P.heap[g]?=C.heap[g]?:=fun g o=>by rw[r];exact zS0 o
     have k3:aj P f R 216:=(Lh f (by omega)).trans k2;have al:aj P w.heap.size _ 3:=(Lh w.heap.size (by omega)).trans V;have ar:aj P v.heap.size _ 292:=(Lh v.heap.size (by omega)).trans Ve;have av:Kp (fun g=>g<w.heap.size/\g≠f) w P:=⟨by rw[r];exact y.os,by rw[r];exact y.tape,by rw[r];exact y.output,by rw[r];simpa [World.setCell]using y.size,fun g o=>(Lh g (by omega)).trans (y.block g o)⟩;rw[<-X]at al;rw[<-ai]at Z;clear hd L ae M ad z eB wm WI eK X ai U O5 aa Ve Qj Qi V k2 y am WH N yA x Lh kr WE ac jG n ah;go_wp2_with fail
     go_region
     all_goals
      rw[<-p];clear p;go_wp2_with fail
      go_region
     all_goals
      rw[<-r];clear r;go_wp2_with fail;go_roundg (a.length - (m+1))
      case measure=>omega
      case rel=>exact⟨m+1,_,by omega,by go_num,k3,al,Z,ar,av,aw⟩
    ·have:m=a.length:=by omega
     subst this;have hd:=Q.out;rw[im]at hd;have I:Hid (∀t,Lx.bk t 0 d (0,0)=Lx.bk t (j+1) (d.drop (j+1)) (B t)):=hd;clear hd Q;go_wp2_with fail;go_roundg (d.length - (j+1))
     case measure=>omega
     case rel=>exact⟨j+1,B,by omega,by first | rfl | (rw[HJ.out];done) | (rw[HJ.out];go_num),kr,wm,WE,n,I⟩
  ·have:j=d.length:=by omega
   subst this;have hd:=HD.out;rw[im]at hd;have I:Hid (∀t,Lx.bk t 0 d (0,0)=B t):=hd;clear hd HD;go_wp2_with fail
   go_end0
   rw[K]at kz;refine⟨rfl,⟨_,_,kz,?_,?_,?_⟩,E⟩
   ·rw[show (T.map fun t=>(Lx.bk t 0 d (0,0)).1)=T.map fun t=>(B t).1 from ju fun t _=>by rw[I.out t]]
    have:=Z7 Qg (zL0) (by simpa using Qf);simpa using this
   ·rw[show (T.map fun t=>(Lx.bk t 0 d (0,0)).2)=T.map fun t=>(B t).2 from ju fun t _=>by rw[I.out t]]
    have:=Z7 (B:=w.heap.size) Lf (by omega) (by simpa using Qf);simpa using this
   ·intro g o e
    have h1:w.heap.size=g:=by simpa [Value.ownBlock]using o
    have h2:w.heap.size+1=g:=by simpa [Value.ownBlock]using e
    omega
def PlP(w:ω)(v:υ)(T N:List ByteArray)(P:List Lx.Pd)(Bs Ks:List Nat):Prop:=∃vT vN vP vB vK,v=γ #[vT,vN,vP,vB,vK]/\w.ownsRow 0 9 1 vT T.length (T.map τ)/\w.ownsRow 0 9 1 vN N.length (N.map τ)/\PP (fun _=>True) w vP P/\IR 0 w vB Bs/\IR 0 w vK Ks
def vV(B:Nat)(w:ω)(v:υ)(T N:List ByteArray)(P:List Lx.Pd)(Bs Ks:List Nat):Prop:=∃vT vN vP vB vK,v=γ #[vT,vN,vP,vB,vK]/\w.ownsRow 0 9 1 vT T.length (T.map τ)/\w.ownsRow 0 9 1 vN N.length (N.map τ)/\PP (fun g=>B<=g) w vP P/\IR 0 w vB Bs/\IR 0 w vK Ks/\∀g,vP.ownBlock=ο g->B<=g
theorem vV.pl{T N:List ByteArray}{P:List Lx.Pd}{a b:List Nat}(h:vV B w v T N P a b):PlP w v T N P a b:=by
 obtain⟨g,f,n,m,i,j,h1,h2,⟨k,p1,p2,c,d⟩,h4,o,-⟩:=h;exact⟨g,f,n,m,i,j,h1,h2,⟨k,p1,p2,fun q l=>⟨(c q l).1,fun _ _=>trivial⟩,d⟩,h4,o⟩
theorem PP.move{D D':Nat->Prop}{P:List Lx.Pd}(h:PP D w v P)(i:∀g,D g->D' g)(c:∀g,D g->w'.heap[g]?=w.heap[g]?)(f:∀g,v.ownBlock=ο g->w'.heap[g]?=w.heap[g]?):PP D' w' v P:=by
 obtain⟨d,h1,h2,h3,h4⟩:=h;exact⟨d,h1,ay h2 f,fun q a=>⟨ay (h3 q a).1 fun g b=>c g ((h3 q a).2 g b),fun g b=>i g ((h3 q a).2 g b)⟩,h4⟩
theorem bZ.empty{κ:Type}{K:κ->υ}{G:κ->Prop}(h:w.heap[B]?=ο (.map #[] 0)):bZ K G w B (fun _=>0) :=
 ⟨#[],0,h,fun i e h=>by simp at h,fun i j e b h=>by simp at h,fun a h=>absurd rfl h⟩
theorem bJ{c:List υ}(h:w.ownsRow B e z v n c){g:Nat}(a:v.ownBlock=ο g):∃cur:Array υ,w.heap[g]?=ο (ζ cur e):=by
 rcases h.2 with d|⟨j,b,cur,f,-,i,-⟩
 ·rw[d.1]at a;simp[Value.ownBlock]at a
 ·have:j=g:=by rw[f]at a;simpa [Value.ownBlock]using a
  subst this;exact⟨cur,i⟩
def adx(g:Lx.Gr)(w:ω)(e:Ending)(w':ω):Prop:=∃v,e=δ v/\vV w.heap.size w' v (aG g) (gH g) (bY g) ((aG g).map fun t=>(vC g t).1) ((aG g).map fun t=>(vC g t).2)/\φ w.heap.size w w'
theorem ags{vl vr:υ}{g:Lx.Gr}(X:Lx.Gd s g)(hg:BU F w vl vr g)(m:∀b,F b->b<w.heap.size)(yx:WR w vW (qM g))(ht:iy w):
  χ prog 34 #[γ #[vl,vr],vW] w (adx g w):=by
 have C:=X.fit;obtain⟨la,lc,rfl,-⟩:=Seq.len hg.1;obtain⟨o,n,rfl,-⟩:=(lV.len (F:=F) (w:=w) ⟨m,fD.weak hg.2 fun A v x u I=>fu.weak u I⟩);obtain⟨wa,wc,rfl,-⟩:=yx.len;have br:=@sq prog;unfold adx;go_enter func34,ntmps34;go_wp2_with fail;have e4:w.heap.size+1+1+1+1=w.heap.size+4:=rfl;have e3:w.heap.size+1+1+1=w.heap.size+3:=rfl;have e2:w.heap.size+1+1=w.heap.size+2:=rfl;rw[e4,e3,e2];clear e4 e3 e2 br;obtain⟨A1,j⟩:=aC ((w.alloc (ζ #[ς la g.levels.length lc,ς o g.rules.length n] 97)).alloc (ζ #[ς ν 0 0,ς ν 0 0,ς ν 0 0,ς ν 0 0,ς ν 0 0] 49));have J:A1.heap.size=w.heap.size+2:=by rw[j];simp
 obtain⟨W,Q⟩:=aC (((A1.alloc (.map #[] 0)).alloc (.map #[] 0)).alloc (ζ #[ς ν 0 0,ς ν 0 0,ς ν 0 0,ς ν 0 0,ς ν 0 0,.map (ο (w.heap.size+2)),.map (ο (w.heap.size+3))] 216));have dU:φ w.heap.size w A1:=by rw[j];exact((cV _ _).alloc (zL0) _).alloc (by simp) _
 have O6:φ A1.heap.size A1 W:=by rw[Q];exact(((cV _ _).alloc (zL0) _).alloc (by simp) _).alloc (by simp;omega) _
 have z:=dU.trans (O6.mono (by omega));have zD:W.heap.size=w.heap.size+5:=by rw[Q];simp[J]
 have kG:aj W w.heap.size #[ς la g.levels.length lc,ς o g.rules.length n] 97:=by
  have:aj A1 w.heap.size #[ς la g.levels.length lc,ς o g.rules.length n] 97:=by rw[j];exact(aj.new w _ 97).alloc _
  exact(O6.block _ (by omega)).trans this
 have ap:aj W (w.heap.size+1) #[ς ν 0 0,ς ν 0 0,ς ν 0 0,ς ν 0 0,ς ν 0 0] 49:=by
  have:aj A1 (w.heap.size+1) #[ς ν 0 0,ς ν 0 0,ς ν 0 0,ς ν 0 0,ς ν 0 0] 49:=by rw[j];simpa using aj.new (w.alloc (ζ #[ς la g.levels.length lc,ς o g.rules.length n] 97)) #[ς ν 0 0,ς ν 0 0,ς ν 0 0,ς ν 0 0,ς ν 0 0] 49
  exact(O6.block _ (by omega)).trans this
 have bt:W.heap[w.heap.size+2]?=ο (.map #[] 0):=by
  rw[Q,ed _ _ _ (by simp;omega),ed _ _ _ (by simp;omega),<-J];exact py A1 _
 have ax:W.heap[w.heap.size+3]?=ο (.map #[] 0):=by
  rw[Q,ed _ _ _ (by simp;omega),show w.heap.size+3=(A1.alloc (.map #[] 0)).heap.size by simp;omega];exact py _ _
 have kM:aj W (w.heap.size+4) #[ς ν 0 0,ς ν 0 0,ς ν 0 0,ς ν 0 0,ς ν 0 0,.map (ο (w.heap.size+2)),.map (ο (w.heap.size+3))] 216:=by
  have:=aj.new ((A1.alloc (.map #[] 0)).alloc (.map #[] 0)) #[ς ν 0 0,ς ν 0 0,ς ν 0 0,ς ν 0 0,ς ν 0 0,.map (ο (w.heap.size+2)),.map (ο (w.heap.size+3))] 216;rw[Q];simpa [J]using this
 rw[j]at Q;rw[<-Q];clear Q j dU O6 J;clear A1;have ac:=yx.below z;have q1:=afw (S:=w.heap.size+2) kM (bZ.empty bt) ac (fun b c=>by have:=(yx.lt b c).2;omega) X.sm X.dl X.fl;rw[X.tk]at q1;clear X;refine q1.mono ?_;rintro e w2⟨rfl,⟨vT,kT,Y⟩,sT,V⟩;clear q1 ac;obtain⟨M,L,rfl,-⟩:=aB Y;have an:aj w2 (w.heap.size+4) #[ς M (aG g).length L,ς ν 0 0,ς ν 0 0,ς ν 0 0,ς ν 0 0,.map (ο (w.heap.size+2)),.map (ο (w.heap.size+3))] 216:=kT;have b0:=V.size;have b2:∀x,x<w.heap.size+2\/x=w.heap.size+3->w2.heap[x]?=W.heap[x]?:=fun x a=>V.block x (by omega)
 have g2:∀x,x<w.heap.size->w2.heap[x]?=w.heap[x]?:=fun x a=>(b2 x (by omega)).trans (z.block x a)
 have ae:aj w2 w.heap.size _ 97:=(b2 _ (by omega)).trans kG;have gl:=ae.a0;have q2:=afx (S:=w.heap.size+2) an (jb Y (fi _)) sT (Seq.move hg.1 (fun b c=>g2 b (m b c)) (fun _ h=>h) (fun v x h=>Aa F F w w2 v x (fun b c=>g2 b (m b c)) (fun _ h=>h) h)) (fun b c=>by have:=m b c;omega) (YC _ _ (by simp)) (fun l hl t ht=>ak3 (fk.2 ⟨(0,t.1,t.2),li.2 ⟨l,hl,fk.2 ⟨t,ht,rfl⟩⟩,rfl⟩)) (by have:=C.Ef;omega) C.lvl;go_wp2_with fail;refine q2.mono ?_;rintro e d⟨rfl,⟨vB,vK,kL,oB,oK,b1⟩,y⟩;clear q2 gl;have bv:=y.size;have g3:∀x,x<w.heap.size->d.heap[x]?=w.heap[x]?:=fun x a=>(y.block x (by omega)).trans (g2 x a)
 have aH:aj d (w.heap.size+4) #[ς M (aG g).length L,ς ν 0 0,ς ν 0 0,vB,vK,.map (ο (w.heap.size+2)),.map (ο (w.heap.size+3))] 216:=kL;have Li:aj d w.heap.size _ 97:=(y.block w.heap.size (by omega)).trans ae;have gr:=Li.a1;have bb:SMap d (w.heap.size+2) (je (aG g)):=sT.move (y.block _ (by omega));have aA:=(y.block _ (by omega)).trans ((b2 _ (.inr rfl)).trans ax);have EF:=fD.move hg.2 (fun b c=>g3 b (m b c)) (fun _ h=>h) fun A v x u I=>rC A A w d v x (fun b c=>g3 b (m b (u b c))) (fun _ h=>h) I
 have aw:=ht.lt;have t3:=ht.move (g3 rU aw);have a9:∀r∈g.rules,r.name.size<=2000:=fun r hr=>by have:=aie (C.rl r hr).1;omega
 have bu:(aT g.rules).length<=50000:=by have h1:(gH g).length<=2002:=C.O3;have h2:gH g=aT g.rules:=rfl;rw[<-h2];omega
 have q3:=afT (D:=fun x=>x<d.heap.size/\x≠w.heap.size+4/\x≠w.heap.size+2/\x≠w.heap.size+3) aH bb (bZ.empty aA) EF (fun b c=>by have:=m b c;exact⟨by omega,by omega,by omega,by omega⟩) (fun b c=>c.1) (fun h=>h.2.1 rfl) (fun h=>h.2.2.1 rfl) (fun h=>h.2.2.2 rfl) (by omega) t3 ⟨by omega,by omega,by omega,by omega⟩ C.nd a9 (by have:=C.Ef;omega) bu (by have:=C.rules;omega);go_wp2_with fail;refine q3.mono ?_;rintro e f⟨rfl,⟨fH,fS,n4,ah,bf,bj⟩,B⟩;clear q3 gr;rw[ff]at n4;obtain⟨vN,k4,oN,dN⟩:=n4.ex;have b4:=B.size;have g4:∀x,x<w.heap.size->f.heap[x]?=w.heap[x]?:=fun x a=>(B.block x ⟨by omega,by omega,by omega,by omega⟩).trans (g3 x a)
 have bx:=bZ.lt n4.pm;have bw:=bZ.lt ah;have b3:=k4.lt;have bh:Mp (fun x=>(x<d.heap.size/\x≠w.heap.size+4/\x≠w.heap.size+2/\x≠w.heap.size+3)\/x=w.heap.size+2\/x=w.heap.size+3\/vN.ownBlock=ο x) (fun b=>F b/\iV d b) f (w.heap.size+4) (w.heap.size+2) (w.heap.size+3) M (aG g).length L vN vB vK fS fH []:=by
  refine⟨⟨ς ν 0 0,k4,⟨[],rfl,eV _ _ _ _,fun q hq=>(by cases hq),pC⟩,fun x a=>(by cases a)⟩,ah,n4.pm,.inr (.inl rfl),.inr (.inr (.inl rfl)),?_,?_,?_⟩
  ·rintro(h | h | h | h)
   ·exact h.2.1 rfl
   ·omega
   ·omega
   ·exact(dN _ h).2.1 rfl
  ·rintro x(h | h | h | h)
   ·omega
   ·omega
   ·omega
   ·exact(oN.lt x h).2
  ·intro b c
   have ag:=m b c.1;exact⟨.inl ⟨by omega,by omega,by omega,by omega⟩,c.2.move (B.block b ⟨by omega,by omega,by omega,by omega⟩)⟩
 have zG:∀b,F b->f.heap[b]?=d.heap[b]?:=fun b c=>by
  have ag:=m b c;exact B.block b ⟨by omega,by omega,by omega,by omega⟩
 have al:=fD.move EF zG (fun _ h=>h) fun A v x u I=>rC A A d f v x (fun b c=>zG b (u b c)) (fun _ h=>h) I
 have av:lV F d (ς o g.rules.length n) g.rules:=⟨fun b c=>by have:=m b c;omega,fD.weak EF fun A v x u I=>fu.weak u I⟩;have ai:lV F f (ς o g.rules.length n) g.rules:=⟨fun b c=>by have:=m b c;omega,fD.weak al fun A v x u I=>fu.weak u I⟩;have bg:∀i(hi:i<g.rules.length),cv f ⟨aS (ς o g.rules.length n),i*2+1,ν⟩=cv d ⟨aS (ς o g.rules.length n),i*2+1,ν⟩/\aL 9 f (cv f ⟨aS (ς o g.rules.length n),i*2+1,ν⟩) g.rules[i].alts=aL 9 d (cv d ⟨aS (ς o g.rules.length n),i*2+1,ν⟩) g.rules[i].alts:=fun i hi=>by
  obtain⟨O,b5,va,hv,aP,u,c0,c1⟩:=av.at hi;rw[hv];show cv f ⟨O,i*2+1,ν⟩=cv d ⟨O,i*2+1,ν⟩/\_;have e1:cv f ⟨O,i*2+1,ν⟩=cv d ⟨O,i*2+1,ν⟩:=Tn (zG O aP);refine⟨e1,?_⟩;show aL 9 f (cv f ⟨O,i*2+1,ν⟩) _=aL 9 d (cv d ⟨O,i*2+1,ν⟩) _;have e2:cv d ⟨O,i*2+1,ν⟩=va:=by unfold cv;rw[c1];rfl
  rw[e1,e2];exact Jp u zG
 have aa:Aj f (aS (ς o g.rules.length n)) (aG g).length g.rules g.rules.length fH:=by
  intro i hi aR k p hp;refine bj i hi aR k p ?_;unfold hlA at hp|-;rw[(bg i hi).2]at hp;exact hp
 have hQ:=ajC C ai (Yz al) bf aa (G:=fun b=>F b/\iV d b) (fun b c hc=>⟨c,hc.move (zG b c).symm⟩);have ao:aj f w.heap.size _ 97:=(B.block w.heap.size ⟨by omega,by omega,by omega,by omega⟩).trans Li;have bn:=ao.a1;have q4:=afV (T:=aG g) (N:=gH g) bh ai (fun b c=>by have ag:=m b c;exact .inl ⟨by omega,by omega,by omega,by omega⟩) hQ C.ne (by have:=C.rules;omega);go_wp2_with fail;refine q4.mono ?_;rintro e H⟨rfl,E,hE,eU,R⟩;clear q4 bn hQ aa;obtain⟨vP,k5,sw,AO⟩:=eU.ex;have af:∀x,x<d.heap.size->x≠w.heap.size+4->x≠w.heap.size+2->x≠w.heap.size+3->H.heap[x]?=f.heap[x]?:=fun x h1 h2 h3 h4=>R.block x (.inl ⟨h1,h2,h3,h4⟩)
 have Qk:∀x,x<d.heap.size->x≠w.heap.size+4->x≠w.heap.size+2->x≠w.heap.size+3->H.heap[x]?=d.heap[x]?:=fun x h1 h2 h3 h4=>(af x h1 h2 h3 h4).trans (B.block x ⟨h1,h2,h3,h4⟩)
 have K:aj H (w.heap.size+1) #[ς ν 0 0,ς ν 0 0,ς ν 0 0,ς ν 0 0,ς ν 0 0] 49:=(Qk _ (by omega) (by omega) (by omega) (by omega)).trans ((y.block _ (by omega)).trans ((b2 _ (by omega)).trans ap));have aE:=jb (ay (ay Y fun x a=>y.block x (by have:=Y.lt x a;omega)) fun x a=>by have:=Y.lt x a;exact Qk x (by omega) (by omega) (by omega) (by omega)) (fi _);have aV:(ς M (aG g).length L).ownBlock≠ο (w.heap.size+1):=fun e=>by have:=(Y.lt _ e).1;omega
 have Z:=jb (ay (w':=H) oB fun x a=>by have:=oB.lt x a;exact Qk x (by omega) (by omega) (by omega) (by omega)) (fi _);have bs:vB.ownBlock≠ο (w.heap.size+1):=fun e=>by have:=(oB.lt _ e).1;omega
 have ad:=jb (ay (w':=H) oK fun x a=>by have:=oK.lt x a;exact Qk x (by omega) (by omega) (by omega) (by omega)) (fi _);have bo:vK.ownBlock≠ο (w.heap.size+1):=fun e=>by have:=(oK.lt _ e).1;omega
 have ab:=ay (w':=H) oN fun x a=>R.block x (.inr (.inr (.inr a)))
 have bd:vN.ownBlock≠ο (w.heap.size+1):=fun e=>(dN _ e).1 (.inl ⟨by omega,by omega,by omega,by omega⟩)
 have ar:E (w.heap.size+1):=hE _ (.inl ⟨by omega,by omega,by omega,by omega⟩);have bi:vP.ownBlock≠ο (w.heap.size+1):=fun e=>(AO _ e).1 ar
 have aX:∀x,vP.ownBlock=ο x->w.heap.size<=x:=fun x a=>by have:=(AO x a).2;omega
 have am:PP (fun x=>x≠w.heap.size+1/\w.heap.size<=x) H vP (bY g):=by
  obtain⟨ps,p1,p2,p3,p4⟩:=sw;refine⟨ps,p1,p2,fun q hq=>⟨(p3 q hq).1,fun x a=>⟨fun e=>?_,by have:=((p3 q hq).2 x a).2;omega⟩⟩,p4⟩;obtain⟨bz,hc⟩:=bJ (p3 q hq).1 a;unfold aj at K;rw[e,K]at hc;cases hc
 have GL:φ w.heap.size w H:=⟨R.os.trans (B.os.trans (y.os.trans (V.os.trans z.os))),R.tape.trans (B.tape.trans (y.tape.trans (V.tape.trans z.tape))),R.output.trans (B.output.trans (y.output.trans (V.output.trans z.output))),by have:=R.size;omega,fun x a=>(af x (by omega) (by omega) (by omega) (by omega)).trans (g4 x a)⟩;obtain⟨na,nc,rfl,-⟩:=aB ab;obtain⟨ps,bp,ak,aq⟩:=id am;obtain⟨pa,pc,rfl,-⟩:=aB ak;obtain⟨ba,bc,rfl,-⟩:=aB Z;obtain⟨ka,kc,rfl,-⟩:=aB ad;have m0:=k5.a0;have m1:=k5.a1;have m2:=k5.a2;have m3:=k5.cell 3;have m4:=k5.cell 4;have r0:=K.a0;have r1:=K.a1;have r2:=K.a2;have r3:=K.a3;have r4:=K.a4;have rf:=K.frozen;clear bp ak aq;clear eU R B y V sw AO hE;simp at m3 m4;obtain⟨w6,Lj⟩:=aC (((((H.setCell ⟨w.heap.size+1,0,ν⟩ (ς M (aG g).length L)).setCell ⟨w.heap.size+1,1,ν⟩ (ς na (aT g.rules).length nc)).setCell ⟨w.heap.size+1,2,ν⟩ (ς pa (bY g).length pc)).setCell ⟨w.heap.size+1,3,ν⟩ (ς ba ((aG g).map fun t=>(Lx.bk t 0 g.levels (0,0)).1).length bc)).setCell ⟨w.heap.size+1,4,ν⟩ (ς ka ((aG g).map fun t=>(Lx.bk t 0 g.levels (0,0)).2).length kc));have k6:aj w6 (w.heap.size+1) #[ς M (aG g).length L,ς na (aT g.rules).length nc,ς pa (bY g).length pc,ς ba ((aG g).map fun t=>(Lx.bk t 0 g.levels (0,0)).1).length bc,ς ka ((aG g).map fun t=>(Lx.bk t 0 g.levels (0,0)).2).length kc] 49:=by rw[Lj];exact((((K.set 0 _).set 1 _).set 2 _).set 3 _).set 4 _
 have U:∀x,x≠w.heap.size+1->w6.heap[x]?=H.heap[x]?:=fun x a=>by rw[Lj,zS0 a,zS0 a,zS0 a,zS0 a,zS0 a]
 have az:φ w.heap.size w w6:=by rw[Lj];exact((((GL.setCell (p:=⟨w.heap.size+1,0,ν⟩) (by show w.heap.size<=w.heap.size+1;omega) _).setCell (p:=⟨w.heap.size+1,1,ν⟩) (by show w.heap.size<=w.heap.size+1;omega) _).setCell (p:=⟨w.heap.size+1,2,ν⟩) (by show w.heap.size<=w.heap.size+1;omega) _).setCell (p:=⟨w.heap.size+1,3,ν⟩) (by show w.heap.size<=w.heap.size+1;omega) _).setCell (p:=⟨w.heap.size+1,4,ν⟩) (by show w.heap.size<=w.heap.size+1;omega) _
 have P:vV w.heap.size w6 (γ #[ς M (aG g).length L,ς na (aT g.rules).length nc,ς pa (bY g).length pc,ς ba ((aG g).map fun t=>(Lx.bk t 0 g.levels (0,0)).1).length bc,ς ka ((aG g).map fun t=>(Lx.bk t 0 g.levels (0,0)).2).length kc]) (aG g) (gH g) (bY g) ((aG g).map fun t=>(vC g t).1) ((aG g).map fun t=>(vC g t).2) :=
  ⟨_,_,_,_,_,rfl,ay aE fun x a=>U x fun e=>aV (e▸a),ay ab fun x a=>U x fun e=>bd (e▸a),am.move (fun _ a=>a.2) (fun x a=>U x a.1) (fun x a=>U x fun e=>bi (e▸a)),ay Z fun x a=>U x fun e=>bs (e▸a),ay ad fun x a=>U x fun e=>bo (e▸a),aX⟩
 have s0:=k6.cell 0;have s1:=k6.cell 1;have s2:=k6.cell 2;have s3:=k6.cell 3;have s4:=k6.cell 4;simp at s0 s1 s2 s3 s4;have Lb:Hid (((aG g).map fun t=>(Lx.bk t 0 g.levels (0,0)).1).length=(aG g).length):=by show _=_;simp
 have bm:Hid (((aG g).map fun t=>(Lx.bk t 0 g.levels (0,0)).2).length=(aG g).length):=by show _=_;simp
 rw[Lb.out,bm.out]at Lj P;go_wp2_with fail;rw[<-Lj];exact iS (v:=γ #[ς M (aG g).length L,ς na (aT g.rules).length nc,ς pa (bY g).length pc,ς ba (aG g).length bc,ς ka (aG g).length kc]) (by simp[results,results34,go_sem,s0,s1,s2,s3,s4]) rfl ⟨_,rfl,P,az⟩
theorem own_ne{f:List υ}(h:w.ownsRow B e z v n f){t:Nat}{cs:Array υ}(b:aj w r cs t)(a:e≠t):∀g,v.ownBlock=ο g->g≠r:=by
 intro g j i;obtain⟨d,c⟩:=bJ h j;unfold aj at b;rw[i,b]at c;cases c;exact a rfl
theorem BH{m:Nat}{f:FuncId}{tmps:Array υ}{assign body:Code}{R:Ending->ω->Prop}(h:RoundIn Fence.wide n P l f tmps assign body w R):RoundIn Fence.wide m P l f tmps assign body w R:=⟨h.1,fun c a _=>h.2 c a (room_wide _)⟩
structure sF(J:Nat->(Nat->Prop)->ω->Prop):Prop where
 own:∀i Z A B row,J i Z A->A.grownBy B row->(∀r,row=ο r->Z r)->J i Z B
 new:∀i Z A o,J i Z A->J i (fun k=>Z k\/k=A.heap.size) (A.alloc o)
theorem JS{a:Nat->Prop}{A:ω}(h:J i Z A)(e:∀k,Z k↔a k):J i a A:=(show Z=a from funext fun k=>propext (e k))▸h
theorem sF.put(h:sF J)(a:Obj)(c:J i Z W)(b:Z l):J i Z (W.putObj l a) :=
 h.own i Z W _ (ο l) c (grownBy_putObj' W l a) (fun r e=>by cases e;exact b)
def xP(P:Program)(g:Nat)(lb:Array υ){α:Type}(encs:α->Array υ)(xs:List α)(Rd:ω->Prop):Prop :=
 ∀(l:Nat)(J:Nat->(Nat->Prop)->ω->Prop)(W:ω),sF J->(∀i Z W',J i Z W'->Rd W') ->
  (∀(i:Nat)(x:α)(Z:Nat->Prop)(W1:ω),xs[i]?=ο x->J i Z W1->YieldAt Fence.wide 9 P l (encs x) W1 fun e W'=>e=δ (μ η)/\J (i+1) Z W'/\∀k,Z k->k<W1.heap.size->W'.heap[k]?=W1.heap[k]?) ->
  J 0 (fun _=>False) W->χ P g (#[.func (.yield l) #[] #[]]++lb) W fun e W'=>(∃v,e=δ v)/\∃Z,J xs.length Z W'
def tq(Z:Nat->Prop)(I:ω->Prop)(W:ω):Exit->Act->ω->Prop
 |.normal,_,W'=>I W'/\∀k,Z k->k<W.heap.size->W'.heap[k]?=W.heap[k]?
 |_,_,_=>False
theorem BF{α:Type}{g:Operand}{ps:Array Tmp}{assign body:Code}
  {gf:Nat} {lb:Array υ} (hg:a.eval g=.func (.func gf) #[] lb) (eg:∀args w,(callFunc gf args).run P w=.ok (.enter gf args) w)
  {d:α->Array υ} {xs:List α} {Rd:ω->Prop} (O:xP P gf lb d xs Rd) (ah:∀x,(d x).size=ps.size)
  (I:Nat->(Nat->Prop)->ω->Prop) (L:sF I) (hR:∀i Z W,I i Z W->Rd W) (h0:I 0 (fun _=>False) w)
  (U:α->Act->ω->Prop) (ag:∀(x:α)(a':Act)(A:ω)(o':Obj),U x a' A->U x a' (A.putObj (w.heap.size+1) o'))
  (j:∀(l i:Nat)(x:α)(Z:Nat->Prop)(W:ω)(K:Act->ω->Prop),w.heap.size+2<=W.heap.size->I i Z W->(∀a' W',W.heap.size<=W'.heap.size->(∀k,Z k->k<W.heap.size->W'.heap[k]?=W.heap[k]?)->I i Z W'->U x a' W'->K a' W')->assign.wpIn (Fence.wide.inRound l) 9 P (Exit.then K (fun _ _ _=>False)) { tmps:=(ps.zip (d x)).foldl (fun t(p,v)=>t.setIfInBounds p v) a.tmps,defers:=[] } W)
  (G:∀(l i:Nat)(x:α)(Z:Nat->Prop)(a':Act)(W:ω),xs[i]?=ο x->I i Z W->U x a' W->body.wpIn (Fence.wide.inRound l) 9 P (tq Z (I (i+1) Z) W) a' W)
  (J:∀(D:Nat)(Z:Nat->Prop)(W:ω),w.heap.size<=D->Z D->I xs.length Z W->W.heap[D]?=ο (.deferred (ο []))->Q .normal { a with defers:={ target:=.collected D,args:=#[] }::a.defers } W) :
  (Code.rangeFunc g ps assign body).wpIn Fence.wide n P Q a w:=by
 refine wpIn_rangeFunc ?_;intro fn aa;have hd:Fence.wide.round=ν:=rfl;rw[hd];obtain⟨c,b⟩:∃c:LoopState->Option Code->Loop,c=fun st pe=>{ state:=st,pending:=pe,fn,tmps:=a.tmps,params:=ps,assign,body,defers:=w.heap.size }:=⟨_,rfl⟩
 obtain⟨u,m⟩:∃u,(w.alloc (.deferred (ο []))).alloc (.loop (c .ready ν))=u:=⟨_,rfl⟩;have af:u.heap[w.heap.size+1]?=ο (.loop (c .ready ν)):=by
  rw[<-m];have:=World.alloc_heap_new (w.alloc (.deferred (ο []))) (.loop (c .ready ν));rwa [eC]at this
 have ac:u.heap[w.heap.size]?=ο (.deferred (ο [])):=by
  rw[<-m];exact(ed _ _ _ (by simp)).trans (World.alloc_heap_new w _)
 have X:I 0 (fun k=>False\/k=w.heap.size\/k=w.heap.size+1) u:=by
  have:=L.new _ _ _ (.loop (c .ready ν)) (L.new _ _ _ (.deferred (ο [])) h0);rw[m,eC]at this;exact JS this fun k=>or_assoc
 refine⟨w.heap.size+1,[{ target:=.collected w.heap.size,args:=#[] }],u,{ target:=.fn (.func gf) lb,args:=#[.func (.yield (w.heap.size+1)) #[] #[]] },u,gf,#[.func (.yield (w.heap.size+1)) #[] #[]]++lb,u,?_,?_,fun _ _=>trivial,?_,fun h=>(by cases h),?_⟩
 ·rw[<-m,b];exact run_enterLoop_outer _ _ _ _ _
 ·simp only[resolve,hg]
  simp[go_sem]
 ·simp[invoke,go_sem,eg]
 ·refine gh.2 ((O (w.heap.size+1) (fun i Z W=>I i (fun k=>Z k\/k=w.heap.size\/k=w.heap.size+1) W/\W.heap[w.heap.size+1]?=ο (.loop (c .ready ν))/\W.heap[w.heap.size]?=ο (.deferred (ο []))/\∀k,Z k->w.heap.size+2<=k) u ⟨fun s Z A B row hs R S=>?_,fun s Z A o hs=>?_⟩ (fun i Z W h=>hR i _ W h.1) ?_ ⟨X,af,ac,fun k h=>h.elim⟩).mono ?_)
  ·obtain⟨C,f,y,q⟩:=hs
   have l1:=(ei.1 f).1;have keep:∀k,k<w.heap.size+2->B.heap[k]?=A.heap[k]?:=fun k V=>R.block k (by omega) (fun e=>by have:=q k (S k e.symm);omega)
   exact⟨L.own s _ A B row C R (fun r e=>.inl (S r e)),(keep _ (by omega)).trans f,(keep _ (by omega)).trans y,q⟩
  ·obtain⟨C,f,y,q⟩:=hs
   have l1:=(ei.1 f).1;refine⟨?_,(ed _ _ _ l1).trans f,(ed _ _ _ (by omega)).trans y,fun k h=>?_⟩
   ·have:=L.new s _ A o C
    exact JS this fun k=>by grind
   ·rcases h with h | h
    ·exact q k h
    ·omega
  ·rintro i x Z W hx⟨hi,N,V,Y⟩
   have am:=(ei.1 N).1;have hy:=run_yield (P:=P) (args:=d x) N (by rw[b];exact ah x);rw[b]at hy;refine⟨fn,_,assign,body,hy,roundIn_of_wpIn aa (j _ i x _ W _ (by omega) hi ?_)⟩;clear hy;intro a' Wa al E ab ak;have M:=(E _ (.inr (.inr rfl)) (by omega)).trans N;have ad:=(E _ (.inr (.inl rfl)) (by omega)).trans V;have z:∀o,(Wa.putObj (w.heap.size+1) o).heap.size=Wa.heap.size:=fun o=>by simp[World.putObj]
   refine⟨_,run_beginRound M (by rw[b]),?_⟩;refine wpIn_mono (G _ i x _ a' _ hx (L.put _ ab (.inr (.inr rfl))) (ag x a' _ _ ak)) ?_;rintro e a3 W3 hp;cases e with
   |normal=>
    obtain⟨ai,F⟩:=hp;have T:=(F _ (.inr (.inr rfl)) (by rw[z];omega)).trans (World.putObj_heap_same (ei.1 M).1);have S:=run_endRound (P:=P) ν T;rw[b]at S;refine⟨_,_,S,rfl,⟨L.put _ ai (.inr (.inr rfl)),?_,?_,Y⟩,fun k H ae=>?_⟩
    ·rw[World.putObj_heap_same (ei.1 T).1,b]
     rfl
    ·rw[World.putObj_heap_other (by omega),F _ (.inr (.inl rfl)) (by rw[z];omega),World.putObj_heap_other (by omega)]
     exact ad
    ·have:=Y k H
     rw[World.putObj_heap_other (by omega),F k (.inl H) (by rw[z];omega),World.putObj_heap_other (by omega),E k (.inl H) ae]
   |ret=>exact hp.elim
   |exit id=>exact hp.elim
   |goto t=>exact hp.elim
   |panic ch=>exact hp.elim
   |outgrown=>exact hp.elim
  ·rintro e W2⟨⟨v,rfl⟩,Z,hi,N,V,Y⟩
   exact⟨ν,_,by have:=run_endLoop (P:=P) N (by rw[b];simp);rw[b]at this;exact this,J _ _ _ (zL0) (.inr (.inl rfl)) (L.put _ hi (.inr (.inr rfl))) ((World.putObj_heap_other (by omega)).trans V)⟩
theorem sF.drew(h:sF J)(a:J i Z W)(n:Nat):J i Z (W.drewN n):=h.own i Z W _ ν a ⟨rfl,rfl,rfl,zL0,fun _ _ _=>rfl⟩ fun r e=>(by cases e)
def N8(ops:Array Oper):Bool:=ops.toList.all fun o=>match o.op with
 |.defer _=>ε
 |_=>η
theorem ahl{a:Array Oper}(h:N8 a=η){o:Oper}(ho:a[i]?=ο o):∀c,o.op≠.defer c:=fun c e=>by
 have:=ry.1 h o (by rw[Array.mem_toList_iff];exact Array.mem_of_getElem? ho);rw[e]at this;cases this
theorem Je{F:Fence}{n:Nat}{P:Program}{md:Region.Mode}{b:Array Oper}{Q:Exit->Act->ω->Prop}(c:F.round=ν)(hd:N8 b=η)(l:Nat):∀(fuel:Nat)(listed:Array Bool)(a:Act)(w:ω),wpAnyIn F n P md b Q fuel listed a w->wpAnyIn (F.inRound l) n P md b Q fuel listed a w
 |0,_,_,_,h=>h
 |fuel+1,listed,a,w,h=>by
  refine⟨h.1,fun i g=>?_⟩;have h1:=h.2 i g;have f:∀a w,wpAnyIn F n P md b Q fuel (listed.setIfInBounds i η) a w->wpAnyIn (F.inRound l) n P md b Q fuel (listed.setIfInBounds i η) a w:=Je c hd l fuel _;have h2:=wpOpIn_mono f h1;clear h1 f;unfold wpOpIn at h2|-;cases ho:b[i]? with
  |none=>rw[ho]at h2;exact h2
  |some o=>
   rw[ho]at h2;simp only at h2|-
   split
   ·rename_i d
    rw[du d]at h2;unfold Oper.wpIn at h2|-;refine⟨h2.1,?_⟩;have e:Oper.semAt (F.inRound l).round a.eval o=Oper.semAt F.round a.eval o:=by
     rw[c,Fence.inRound_round,my l a.eval o (ahl hd ho)];rfl
    rw[e];exact h2.2
   ·rename_i d
    rw[dt d]at h2;exact h2
theorem Dx{b:List Oper}(f:P.follows .mixedOrders=η)(d:Region.lexB .any b.toArray=η)(hd:N8 b.toArray=η)
  (h:wpQuietIn Fence.wide n P b.toArray (fun w'=>∃n,w'=w.drewN n) (fun a'=>∀w',(∃n,w'=w.drewN n)->Q .normal a' w') b a):(Code.region id b.toArray η).wpIn (Fence.wide.inRound l) n P Q a w:=by
 simp only[Region.lexB,Bool.and_eq_true]at d;refine wpIn_region_any f (Je rfl hd l _ _ _ _ (wpAnyIn_of_quiet (C:=fun w'=>∃n,w'=w.drewN n) (Q:=fun a'=>∀w',(∃n,w'=w.drewN n)->Q .normal a' w') rfl (fun _ w' c h=>h w' c) _ _ _ _ ⟨1,rfl⟩ ?_));have:=wpAnyQIn_lex (F:=Fence.wide) (n:=n) (P:=P) (C:=fun w'=>∃n,w'=w.drewN n) (md:=.any) d.1 b 0 (Array.replicate b.toArray.size ε) a (by simp) (by simpa using d.2) h;simpa using this
def nZ(ops:List Oper)(i:Nat):List Nat:=match ops[i]? with
 |some o=>(o.after.toList.filter fun e=>Region.binds .any e).map (·.on)
 |none=>[]
theorem mem_ready{a:List Oper}{L:Array Bool}:i∈Region.ready .any a.toArray L↔i<a.length/\L.getD i η=ε/\∀d∈nZ a i,L.getD d ε=η:=by
 unfold Region.ready nZ;rw[j',pN,jz];refine and_congr_right fun f=>?_
 simp only[List.getElem?_toArray,List.getElem?_eq_getElem f,Option.map_some,Option.getD_some,Bool.and_eq_true,Bool.not_eq_true',Array.all_eq_true_iff_forall_mem,Bool.or_eq_true,List.mem_map,List.mem_filter,Array.mem_toList_iff];refine and_congr_right fun _=>⟨?_,?_⟩
 ·rintro h d⟨e,⟨b,c⟩,rfl⟩
  rcases h e b with h1|h1
  ·rw[c]at h1;cases h1
  ·exact h1
 ·intro h e b
  cases c:Region.binds .any e with
  |false=>exact .inl rfl
  |true=>exact .inr (h _ ⟨e,⟨b,c⟩,rfl⟩)
def N9(ops:List Oper):Nat->List Nat->List Nat
 |0,l=>l
 |f+1,l=>N9 ops f ((l++l.flatMap (nZ ops)).eraseDups)
theorem YL{a:List Oper}{L:Nat->Bool}{m:Nat}(k:∀i,i<m->L i=η->∀d∈nZ a i,L d=η)(c:∀i,i<m->∀d∈nZ a i,d<m):∀(f:Nat)(l:List Nat),(∀i∈l,i<m/\L i=η)->∀i∈N9 a f l,i<m/\L i=η
 |0,_,h=>h
 |f+1,l,h=>YL k c f _ fun i b=>by
  rw[List.mem_eraseDups,dq,li]at b;rcases b with b|⟨j,g,b⟩
  ·exact h i b
  ·exact⟨c j (h j g).1 i b,k j (h j g).1 (h j g).2 i b⟩
def splitB(pre rest:List Oper):Bool :=
 (List.range pre.length).all (fun i=>(nZ (pre++rest) i).all (fun d=>decide (d<i)) && (match ((pre++rest)[i]?).bind (·.guard) with
  | some (j,_)=>decide (j<pre.length)
  |none=>η)) &&
 (List.range pre.length).all (fun i=>(N9 (pre++rest) pre.length (nZ (pre++rest) pre.length)).contains i) && (nZ (pre++rest) pre.length).all (fun d=>decide (d<pre.length)) &&
 (List.range rest.length).all (fun k=>k == 0 || (nZ (pre++rest) (pre.length+k)).any (fun d=>decide (pre.length<=d)))
structure acA(pre rest:List Oper):Prop where
 less:∀i,i<pre.length->∀d∈nZ (pre++rest) i,d<i
 grd:∀i,i<pre.length->∀o,(pre++rest)[i]?=ο o->∀j b,o.guard=ο (j,b)->j<pre.length
 Ql:∀i,i<pre.length->i∈N9 (pre++rest) pre.length (nZ (pre++rest) pre.length)
 fst:∀d∈nZ (pre++rest) pre.length,d<pre.length
 aK:∀k,k<rest.length->k≠0->∃d∈nZ (pre++rest) (pre.length+k),pre.length<=d
theorem agt{a rest:List Oper}(h:splitB a rest=η):acA a rest:=by
 simp only[splitB,Bool.and_eq_true,List.all_eq_true,List.mem_range,decide_eq_true_eq,List.contains_iff_mem,Bool.or_eq_true,beq_iff_eq,List.any_eq_true]at h;obtain⟨⟨⟨h1,h2⟩,h3⟩,h4⟩:=h;refine⟨fun i c=>(h1 i c).1,fun i c o f j b l=>?_,h2,h3,fun k d g=>(h4 k d).resolve_left g⟩;have:=(h1 i c).2;rw[f]at this;simp only[Option.bind_some,l,decide_eq_true_eq]at this;exact this
theorem SG{a rest:List Oper}(b:i<a.length):nZ a i=nZ (a++rest) i:=by
 unfold nZ;rw[eL b]
theorem air{F:Fence}{o:Oper}{K:Act->ω->Prop}{f:Exit->Act->ω->Prop}(c:∀e a w,e≠.normal->f e a w->Q e a w)(r:Result Next)(h:o.uponIn F n P a K f r):o.uponIn F n P a K Q r:=by
 have d:LetsOut f->LetsOut Q:=fun⟨a,w,h⟩=>⟨a,w,c _ _ _ (by simp) h⟩
 cases r with
 |ok x w' =>
  cases x <;> simp only[Oper.uponIn]at h|- <;>
   first
    | exact h
    | exact⟨h.1,CallsIn.mono h.2 (fun e g b=>by cases e <;> first | exact b | exact c _ _ _ (by simp) b | exact d b)⟩
    | exact⟨h.1,RoundIn.mono h.2 (fun e g b=>by cases e <;> first | exact b | exact c _ _ _ (by simp) b | exact d b)⟩
    | exact c _ _ _ (by simp) h
    | exact d h
 |halt x w'=>cases x <;> simp only[Oper.uponIn]at h|- <;> first | exact h | exact c _ _ _ (by simp) h | exact d h
def Ke(F:Fence)(n:Nat)(P:Program)(pre rest:List Oper)(Q:Exit->Act->ω->Prop):Exit->Act->ω->Prop
 |.normal,a,w=>wpAnyIn F n P .any (pre++rest).toArray Q rest.length (Array.replicate pre.length η++Array.replicate rest.length ε) a w
 |e,a,w=>Q e a w
theorem Z8{F:Fence}{n:Nat}{P:Program}{c rest:List Oper}{Q:Exit->Act->ω->Prop}(m:acA c rest):∀(r:Nat)(L:Array Bool)(a:Act)(w:ω),L.size=c.length->(∀i,i<c.length->L.getD i ε=η->∀d∈nZ (c++rest) i,L.getD d ε=η)->L.toList.countP (fun b=>!b)=r->wpAnyIn F n P .any c.toArray (Ke F n P c rest Q) r L a w->wpAnyIn F n P .any (c++rest).toArray Q (r+rest.length) (L++Array.replicate rest.length ε) a w
 |0,L,a,w,hl,hD,hc,h=>by
  have e:L=Array.replicate c.length η:=by
   apply rK (by simp[hl]);intro i h1 h2;have:=r7.1 hc L[i] (by simp);simpa using this
  have:=h.2;rw[fX,e];exact this
 |r+1,L,a,w,hl,hD,hc,h=>by
  have vX:∀i b,i<c.length->(L++Array.replicate rest.length ε).getD i b=L.getD i b:=fun i b f=>by
   simp[Array.getD,hl,f,show i<c.length+rest.length by omega,Array.getElem_append_left]
  have B:∀i,c.length<=i->(L++Array.replicate rest.length ε).getD i ε=ε:=fun i f=>by
   by_cases h2:i<c.length+rest.length
   ·simp[Array.getD,hl,h2,Array.getElem_append_right,f]
   ·simp[Array.getD,hl,h2]
  have ο:∃i,i<c.length/\L.getD i ε=ε:=by
   apply jt;intro G;have:L.toList.countP (fun b=>!b)=0:=r7.2 fun b I=>by
    obtain⟨i,f,rfl⟩:=mB I;have k:i<c.length:=by simpa [hl]using f
    have:L.getD i ε≠ε:=fun e=>G ⟨i,k,e⟩
    simpa [Array.getD,hl,k]using this
   omega
  have D:∀i,i<c.length->L.getD i η=L.getD i ε:=fun i f=>by simp[Array.getD,hl,f]
  have E:∃i,i∈Region.ready .any c.toArray L:=by
   obtain⟨i,f,x⟩:=ο
   induction i using Nat.strongRecOn with
   |_ i ih=>
    by_cases hall:∀d∈nZ (c++rest) i,L.getD d ε=η
    ·exact⟨i,mem_ready.2 ⟨f,by rw[D i f];exact x,by rw[SG (rest:=rest) f];exact hall⟩⟩
    ·obtain⟨d,hd⟩:=Classical.not_forall.1 hall
     obtain⟨l,p⟩:=Classical.not_imp.1 hd;exact ih d (m.less i f d l) (by have:=m.less i f d l;omega) (by simpa using p)
  have u:∀i,i∈Region.ready .any (c++rest).toArray (L++Array.replicate rest.length ε)->i<c.length:=fun i f=>by
   obtain⟨h1,h2,h3⟩:=mem_ready.1 f;apply jt;intro G
   by_cases e:i=c.length
   ·subst e
    obtain⟨j,z,x⟩:=ο;have:=(YL (L:=fun i=>L.getD i ε) hD (fun i f d hd=>by have:=m.less i f d hd;omega) c.length _ (fun d hd=>⟨m.fst d hd,by have:=h3 d hd;rwa [vX d ε (m.fst d hd)]at this⟩) j (m.Ql j z)).2;simp only[x]at this;cases this
   ·obtain⟨d,l,p⟩:=m.aK (i-c.length) (by rw[cJ]at h1;omega) (by omega)
    rw[show c.length+(i-c.length)=i by omega]at l;have:=h3 d l;rw[B d p]at this;cases this
  have v:∀i,i<c.length->(i∈Region.ready .any (c++rest).toArray (L++Array.replicate rest.length ε)↔i∈Region.ready .any c.toArray L):=fun i f=>by
   rw[mem_ready,mem_ready,vX i η f,SG (rest:=rest) f,cJ];refine⟨fun⟨_,h2,h3⟩=>⟨f,h2,fun d hd=>?_⟩,fun⟨_,h2,h3⟩=>⟨by omega,h2,fun d hd=>?_⟩⟩
   ·have:=h3 d hd;rwa [vX d ε (by have:=m.less i f d hd;omega)]at this
   ·rw[vX d ε (by have:=m.less i f d hd;omega)];exact h3 d hd
  rw[show r+1+rest.length=(r+rest.length)+1 by omega];refine⟨fun H=>?_,fun i f=>?_⟩
  ·obtain⟨i,f⟩:=E
   have:=(v i (mem_ready.1 f).1).2 f;rw[H]at this;cases this
  ·have s:=u i f
   have k:=(v i s).1 f;have h1:=h.2 i k;obtain⟨-,x,t⟩:=mem_ready.1 k;have y:(L++Array.replicate rest.length ε).setIfInBounds i η=L.setIfInBounds i η++Array.replicate rest.length ε:=by
    rw[Array.setIfInBounds_append_left (by omega)]
   rw[y];have J:∀a w,wpAnyIn F n P .any c.toArray (Ke F n P c rest Q) r (L.setIfInBounds i η) a w->wpAnyIn F n P .any (c++rest).toArray Q (r+rest.length) (L.setIfInBounds i η++Array.replicate rest.length ε) a w:=fun a w=>Z8 m r _ a w (by simp[hl]) (fun j z q d hd=>?_) ?_
   ·have h2:=wpOpIn_mono J h1
    have O:c.toArray[i]?=(c++rest).toArray[i]?:=by simp[List.getElem?_append_left s]
    unfold wpOpIn at h2|-;rw[O]at h2;cases ho:(c++rest).toArray[i]? with
    |none=>rw[ho]at h2;exact h2
    |some o=>
     rw[ho]at h2;simp only at h2|-;have K:Region.wanted o (yielded c.toArray a.tmps)=Region.wanted o (yielded (c++rest).toArray a.tmps):=by
      unfold Region.wanted;cases hg:o.guard with
      |none=>rfl
      |some g=>
       obtain⟨j,b⟩:=g;have z:=m.grd i s o (by simpa using ho) j b hg;have:yielded c.toArray a.tmps j=yielded (c++rest).toArray a.tmps j:=by
        unfold yielded;rw[show c.toArray[j]?=(c++rest).toArray[j]? by simp[List.getElem?_append_left z]]
       simp only[this]
     rw[K]at h2
     split
     ·rename_i C
      rw[du C]at h2;unfold Oper.wpIn at h2|-;exact⟨h2.1,air (fun e a w S h=>by cases e <;> first | exact absurd rfl S | exact h) _ h2.2⟩
     ·rename_i C
      rw[dt C]at h2;exact h2
   ·have M:∀d,(L.setIfInBounds i η).getD d ε=if d=i then η else L.getD d ε:=fun d=>by
     by_cases e:d=i
     ·subst e;simp[Array.getD,hl,s]
     ·have N:¬i=d:=fun h=>e h.symm
      by_cases h2:d<c.length
      ·simp[Array.getD,hl,h2,e,N]
      ·simp[Array.getD,hl,h2,e]
    rw[M]at q|-
    split
    ·rfl
    ·by_cases e:j=i
     ·subst e;rw[SG (rest:=rest) s]at t;exact t d hd
     ·rw[dt e]at q
      exact hD j z q d hd
   ·have A:i<L.toList.length:=by simp[hl,s]
    have R:L.toList[i]=ε:=by simpa [Array.getD,hl,s]using x
    rw[AH,List.countP_set A,hc,R];simp
theorem Z9{b:List Oper}(m:Nat)(d:Region.lexB .any (b.take m).toArray=η)(f:splitB (b.take m) (b.drop m)=η)
  (h:wpQuietIn Fence.wide n P (b.take m).toArray (fun w'=>∃n,w'=w.drewN n) (fun a'=>∀w',(∃n,w'=w.drewN n)->wpAnyIn Fence.wide n P .any b.toArray Q (b.drop m).length (Array.replicate (b.take m).length η++Array.replicate (b.drop m).length ε) a' w') (b.take m) a):wpAnyIn Fence.wide n P .any b.toArray Q b.toArray.size (Array.replicate b.toArray.size ε) a { w with drawn:=w.drawn+1 }:=by
 have e:=lj m b;have g:b.toArray.size=(b.take m).length+(b.drop m).length:=by rw[<-cJ,e,jz]
 rw[g,<-Array.replicate_append_replicate];have:=Z8 (F:=Fence.wide) (n:=n) (P:=P) (Q:=Q) (agt f) (b.take m).length (Array.replicate (b.take m).length ε) a { w with drawn:=w.drawn+1 } (by simp) (fun i j h=>by simp[Array.getD]at h) (by rw[Array.toList_replicate,List.countP_replicate];rfl) ?_
 ·rw[e]at this
  exact this
 ·simp only[Region.lexB,Bool.and_eq_true]at d
  refine wpAnyIn_of_quiet (C:=fun w'=>∃n,w'=w.drewN n) (Q:=fun a'=>∀w',(∃n,w'=w.drewN n)->Ke Fence.wide n P (b.take m) (b.drop m) Q .normal a' w') rfl (fun _ w' c h=>h w' c) _ _ _ _ ⟨1,rfl⟩ ?_;have:=wpAnyQIn_lex (F:=Fence.wide) (n:=n) (P:=P) (C:=fun w'=>∃n,w'=w.drewN n) (Q:=fun a'=>∀w',(∃n,w'=w.drewN n)->Ke Fence.wide n P (b.take m) (b.drop m) Q .normal a' w') (md:=.any) d.1 (b.take m) 0 (Array.replicate (b.take m).toArray.size ε) a (by simp) (by simpa using d.2) (by simp only[Ke,e];exact h);simpa using this
theorem Nn{b:List Oper}(m:Nat)(c:P.follows .mixedOrders=η)(d:Region.lexB .any (b.take m).toArray=η)(hd:N8 b.toArray=η)(f:splitB (b.take m) (b.drop m)=η)
  (h:wpQuietIn Fence.wide n P (b.take m).toArray (fun w'=>∃n,w'=w.drewN n) (fun a'=>∀w',(∃n,w'=w.drewN n)->wpAnyIn Fence.wide n P .any b.toArray Q (b.drop m).length (Array.replicate (b.take m).length η++Array.replicate (b.drop m).length ε) a' w') (b.take m) a):(Code.region id b.toArray η).wpIn (Fence.wide.inRound l) n P Q a w :=
 wpIn_region_any c (Je rfl hd l _ _ _ _ (Z9 m d f h))
theorem kV{b:List Oper}(m:Nat)(c:P.follows .mixedOrders=η)(d:Region.lexB .any (b.take m).toArray=η)(f:splitB (b.take m) (b.drop m)=η)
  (h:wpQuietIn Fence.wide n P (b.take m).toArray (fun w'=>∃n,w'=w.drewN n) (fun a'=>∀w',(∃n,w'=w.drewN n)->wpAnyIn Fence.wide n P .any b.toArray Q (b.drop m).length (Array.replicate (b.take m).length η++Array.replicate (b.drop m).length ε) a' w') (b.take m) a):(Code.region id b.toArray η).wpIn Fence.wide n P Q a w :=
 wpIn_region_any c (Z9 m d f h)

import Derived.Test.YtagkodkijkpemaaGreatDoorRA04
import Derived.Sort.CutIn
import Derived.Lib.AppendZerosOnto
import Derived.Maps.AppendAt
set_option maxHeartbeats 8000000
set_option maxRecDepth 1000000
namespace Go.Proofs.YtagkodkijkpemaaGreatDoor
open Lx Go.Proofs.Tryz
open Go.RowKit Tr
namespace Pk
structure T where
 ay:List Nat
 ak:List (Nat×Nat×Nat)
 toks:List ByteArray
 aS:List ByteArray
 prods:List (Nat×Nat)
 aI:List Nat
def within(i:Int)(n:Nat):Bool:=decide (0<=i) && decide (i<(n:Int))
def least:Nat->Nat
 |1=>1
 |2=>1
 |_=>0
def bound(nS nP:Nat):Nat->Nat
 |1=>nS
 |2=>nP
 |3=>1
 |4=>1
 |_=>0
def BS(p:T)(d t:Nat)(s:Int):Bool:=decide (d<5) && decide (least d<=t) && decide (t<bound p.ay.length p.prods.length d) && (within s p.toks.length || (within (s - (p.toks.length:Int)) p.aS.length && decide (d=1)))
end Pk
structure fV where
 vB:Value
 vP:Value
 vT:Value
 vN:Value
 vR:Value
 vD:Value
def fV.cells(v:fV):Array Value:=#[v.vB,v.vP,v.vT,v.vN,v.vR,v.vD]
def bQ(n:Nat):Value:=.int .i64 (n:Int)
def bV(x:Nat×Nat×Nat):List Value:=[.int .i64 (x.1:Int),.int .i64 (x.2.1:Int),.int .i64 (x.2.2:Int)]
def eX(x:Nat×Nat):List Value:=[.int .i64 (x.1:Int),.int .i64 (x.2:Int)]
structure aO(W:World)(B pb:Nat)(v:fV)(p:Pk.T):Prop where
 blk:aj W pb v.cells 79
 rB:W.ownsRow B 3 1 v.vB p.ay.length (p.ay.map bQ)
 rP:W.ownsRow B 138 3 v.vP p.ak.length (p.ak.flatMap bV)
 rT:∃g,v.vT=.slice (some ⟨g,0,none⟩) p.toks.length p.toks.length/\aj W g (mI p.toks) 9
 rN:∃g,v.vN=.slice (some ⟨g,0,none⟩) p.aS.length p.aS.length/\aj W g (mI p.aS) 9
 rR:W.ownsRow B 81 2 v.vR p.prods.length (p.prods.flatMap eX)
 rD:W.ownsRow B 3 1 v.vD p.aI.length (p.aI.map bQ)
 ne:∀g,v.vB.ownBlock=some g->v.vD.ownBlock≠some g
 lo:∀g,v.vT.ownBlock=some g\/v.vN.ownBlock=some g->B<=g
def fV.own(v:fV)(pb k:Nat):Prop:=k=pb\/v.vB.ownBlock=some k\/v.vP.ownBlock=some k\/v.vT.ownBlock=some k\/v.vN.ownBlock=some k\/v.vR.ownBlock=some k\/v.vD.ownBlock=some k
theorem aO.move{W W':World}{B pb:Nat}{v:fV}{p:Pk.T}(h:aO W B pb v p)(b:∀k,v.own pb k->W'.heap[k]?=W.heap[k]?):aO W' B pb v p where
 blk:=(b _ (.inl rfl)).trans h.blk
 rB:=aC h.rB fun g a=>b g (.inr (.inl a))
 rP:=aC h.rP fun g a=>b g (.inr (.inr (.inl a)))
 rT:=by
  obtain⟨g,h1,h2⟩:=h.rT;exact⟨g,h1,(b g (.inr (.inr (.inr (.inl (by rw[h1];rfl)))))).trans h2⟩
 rN:=by
  obtain⟨g,h1,h2⟩:=h.rN;exact⟨g,h1,(b g (.inr (.inr (.inr (.inr (.inl (by rw[h1];rfl))))))).trans h2⟩
 rR:=aC h.rR fun g a=>b g (.inr (.inr (.inr (.inr (.inr (.inl a))))))
 rD:=aC h.rD fun g a=>b g (.inr (.inr (.inr (.inr (.inr (.inr a))))))
 ne:=h.ne
 lo:=h.lo
theorem aO.lt{W:World}{B pb:Nat}{v:fV}{p:Pk.T}(h:aO W B pb v p){k:Nat}(a:v.own pb k):k<W.heap.size:=by
 rcases a with rfl|a|a|a|a|a|a
 ·exact h.blk.lt
 ·exact(h.rB.lt k a).2
 ·exact(h.rP.lt k a).2
 ·obtain⟨g,h1,h2⟩:=h.rT
  rw[h1]at a;cases a;exact h2.lt
 ·obtain⟨g,h1,h2⟩:=h.rN
  rw[h1]at a;cases a;exact h2.lt
 ·exact(h.rR.lt k a).2
 ·exact(h.rD.lt k a).2
theorem aO.cell{W:World}{B pb:Nat}{v:fV}{p:Pk.T}(h:aO W B pb v p):(∃a c,W.cell? ⟨pb,0,none⟩=some (.slice a p.ay.length c))/\(∃a c,W.cell? ⟨pb,1,none⟩=some (.slice a p.ak.length c))/\(∃a c,W.cell? ⟨pb,2,none⟩=some (.slice a p.toks.length c))/\(∃a c,W.cell? ⟨pb,3,none⟩=some (.slice a p.aS.length c))/\(∃a c,W.cell? ⟨pb,4,none⟩=some (.slice a p.prods.length c))/\(∃a c,W.cell? ⟨pb,5,none⟩=some (.slice a p.aI.length c)):=by
 obtain⟨d,g,m,-⟩:=aB h.rB;obtain⟨o,n,f,-⟩:=aB h.rP;obtain⟨t,k,-⟩:=h.rT;obtain⟨u,q,-⟩:=h.rN;obtain⟨j,r,b,-⟩:=aB h.rR;obtain⟨l,s,i,-⟩:=aB h.rD;exact⟨⟨d,g,by rw[<-m];exact h.blk.cell 0⟩,⟨o,n,by rw[<-f];exact h.blk.cell 1⟩,⟨_,_,by rw[<-k];exact h.blk.cell 2⟩,⟨_,_,by rw[<-q];exact h.blk.cell 3⟩,⟨j,r,by rw[<-b];exact h.blk.cell 4⟩,⟨l,s,by rw[<-i];exact h.blk.cell 5⟩⟩
theorem Bo{w:World}(i:Int)(n:Nat):Calls prog 32 #[.int .i64 i,.int .i64 (n:Int)] w fun e w'=>e=.returned (.bool (Pk.within i n))/\w'=w:=by
 unfold Pk.within
 by_cases h:0<=i
 ·have a:decide (0<=i)=true:=fh h
  by_cases h2:i<(n:Int)
  ·have b:decide (i<(n:Int))=true:=fh h2
   rw[a,b];go_enter func32,ntmps32;go_wp2_with fail;go_ret;exact⟨rfl,rfl⟩
  ·have b:decide (i<(n:Int))=false:=eV h2
   rw[a,b];go_enter func32,ntmps32;go_wp2_with fail;go_ret;exact⟨rfl,rfl⟩
 ·have a:decide (0<=i)=false:=eV h
  rw[a];go_enter func32,ntmps32;go_wp2_with fail;go_ret;exact⟨rfl,rfl⟩
theorem afD{w:World}{B pb d t:Nat}{v:fV}{p:Pk.T}(h:aO w B pb v p)(s:Int)(hs:-1000000000<=s/\s<=1000000000)(hp:p.toks.length<=100000):Calls prog 58 #[.pointer (some ⟨pb,0,none⟩),.agg #[.int .i64 (d:Int),.int .i64 (t:Int)],.int .i64 s] w fun e w'=>e=.returned (.bool (Pk.BS p d t s))/\Below w.heap.size w w':=by
 obtain⟨w2,g⟩:∃V,V=(w.alloc (.cells #[.int .i64 (d:Int),.int .i64 (t:Int)] 42)).alloc (.cells #[.int .i64 0,.int .i64 1,.int .i64 1,.int .i64 0,.int .i64 0] 208):=⟨_,rfl⟩;have l:Below w.heap.size w w2:=by rw[g];exact((cV _ _).alloc (zL0) _).alloc (by simp) _
 have r:w2.heap.size=w.heap.size+2:=by rw[g];simp
 have kA:aj w2 w.heap.size #[.int .i64 (d:Int),.int .i64 (t:Int)] 42:=by rw[g];exact(aj.new ..).alloc _
 have kL:aj w2 (w.heap.size+1) #[.int .i64 0,.int .i64 1,.int .i64 1,.int .i64 0,.int .i64 0] 208:=by
  rw[g];have:=aj.new (w.alloc (.cells #[.int .i64 (d:Int),.int .i64 (t:Int)] 42)) #[.int .i64 0,.int .i64 1,.int .i64 1,.int .i64 0,.int .i64 0] 208
  rwa [fb]at this
 have h2:aO w2 B pb v p:=h.move fun k X=>l.block k (h.lt X)
 obtain⟨⟨S,Y,J⟩,-,⟨a2,k2,Q⟩,⟨a3,k3,K⟩,⟨U,k4,R⟩,-⟩:=h2.cell;have D:pb<w2.heap.size:=h2.blk.lt;obtain⟨A,z⟩:∃b,w.heap.size=b:=⟨_,rfl⟩;rw[z]at kA kL l r;have la:=kA.lt;have ll:=kL.lt;have d0:∀o,(w2.alloc o).cell? ⟨pb,0,none⟩=some (.slice S p.ay.length Y):=fun o=>(cJ (w:=w2) (di _ _ _ D)).trans J
 have d4:∀o,(w2.alloc o).cell? ⟨pb,4,none⟩=some (.slice U p.prods.length k4):=fun o=>(cJ (w:=w2) (di _ _ _ D)).trans R
 have F:Hid (∀o,Below A w (w2.alloc o).drew):=fun o=>by
  have:=l.alloc (B:=A) (by omega) o;exact⟨this.1,this.2,this.3,this.4,this.5⟩
 go_enter func58,ntmps58;go_upto_region 2 with fail
 rw[<-g];clear g h h2 l;have q:aj (w2.alloc (.cells #[.int .i64 0,.int .i64 (p.ay.length:Int),.int .i64 (p.prods.length:Int),.int .i64 1,.int .i64 1] 208)).drew (A+2) #[.int .i64 0,.int .i64 (p.ay.length:Int),.int .i64 (p.prods.length:Int),.int .i64 1,.int .i64 1] 208:=by
  rw[<-r];exact(aj.new ..).drew
 have j:=(kA.alloc (.cells #[.int .i64 0,.int .i64 (p.ay.length:Int),.int .i64 (p.prods.length:Int),.int .i64 1,.int .i64 1] 208)).drew;have E:=(kL.alloc (.cells #[.int .i64 0,.int .i64 (p.ay.length:Int),.int .i64 (p.prods.length:Int),.int .i64 1,.int .i64 1] 208)).drew;have a:=F.out (.cells #[.int .i64 0,.int .i64 (p.ay.length:Int),.int .i64 (p.prods.length:Int),.int .i64 1,.int .i64 1] 208);have W:(w2.alloc (.cells #[.int .i64 0,.int .i64 (p.ay.length:Int),.int .i64 (p.prods.length:Int),.int .i64 1,.int .i64 1] 208)).drew.cell? ⟨pb,2,none⟩=_:=(cJ (w:=w2) (di _ _ _ D)).trans Q;have d3:(w2.alloc (.cells #[.int .i64 0,.int .i64 (p.ay.length:Int),.int .i64 (p.prods.length:Int),.int .i64 1,.int .i64 1] 208)).drew.cell? ⟨pb,3,none⟩=_:=(cJ (w:=w2) (di _ _ _ D)).trans K
 go_region
 clear F d0 d4 J Q K R kA kL la ll D r;generalize (w2.alloc (.cells #[.int .i64 0,.int .i64 (p.ay.length:Int),.int .i64 (p.prods.length:Int),.int .i64 1,.int .i64 1] 208)).drew=w3 at q j E a W d3|-;have y0:w3.cell? ⟨A,0,none⟩=some (.int .i64 (d:Int)):=j.cell 0;have y1:w3.cell? ⟨A,1,none⟩=some (.int .i64 (t:Int)):=j.cell 1;have I:=fun w=>Bo (w:=w) (s - (p.toks.length:Int)) p.aS.length
 have C:=fun w=>Bo (w:=w) s p.toks.length
 have f:Hid (∀n:Nat,Below w.heap.size w (w3.drewN n)):=fun _=>by rw[z];exact⟨a.1,a.2,a.3,a.4,a.5⟩
 have F:Hid (∀n m:Nat,Below w.heap.size w ((w3.drewN n).drewN m)):=fun _ _=>by rw[z];exact⟨a.1,a.2,a.3,a.4,a.5⟩
 have j0:(0:Int)<=(d:Int):=by omega
 have c:Pk.BS p d t s=(decide (d<5) && decide (Pk.least d<=t) && decide (t<Pk.bound p.ay.length p.prods.length d) && (Pk.within s p.toks.length || (Pk.within (s - (p.toks.length:Int)) p.aS.length && decide (d=1)))):=rfl
 by_cases h5:d<5
 ·have L:decide ((5:Int)<=(d:Int))=false:=eV (by omega)
  have aa:(d:Int)<5:=by omega
  have N:w3.cell? ⟨A+1,d,none⟩=some (.int .i64 (Pk.least d:Int)):=by
   rw[E.cell];obtain rfl|rfl|rfl|rfl|rfl:d=0\/d=1\/d=2\/d=3\/d=4:=by omega
   all_goals rfl
  have P:w3.cell? ⟨A+2,d,none⟩=some (.int .i64 (Pk.bound p.ay.length p.prods.length d:Int)):=by
   rw[q.cell];obtain rfl|rfl|rfl|rfl|rfl:d=0\/d=1\/d=2\/d=3\/d=4:=by omega
   all_goals rfl
  rw[fh h5]at c;generalize Pk.least d=lo at N c;generalize Pk.bound p.ay.length p.prods.length d=hi at P c;clear j E q a
  by_cases hlo:lo<=t
  ·have O:decide ((t:Int)<(lo:Int))=false:=eV (by omega)
   rw[fh hlo]at c
   by_cases hhi:t<hi
   ·have M:decide ((hi:Int)<=(t:Int))=false:=eV (by omega)
    rw[fh hhi]at c;obtain⟨u1,x⟩:∃u,Pk.within s p.toks.length=u:=⟨_,rfl⟩;obtain⟨u2,y⟩:∃u,Pk.within (s - (p.toks.length:Int)) p.aS.length=u:=⟨_,rfl⟩;rw[x,y]at c;simp only[x]at C;simp only[y]at I;clear x y;go_upto_region 3 with fail
    go_quiet (fail)
    go_upto_region 5 with fail
    clear N P L O M hlo hhi;refine(oX (n:=9)).1 ?_;refine mo 12 (by kernel_rfl) (by kernel_rfl) (by kernel_rfl) ?_
    dsimp only[List.take,List.drop,List.length]
    repeat (gi_big_quiet_step (fail))
    refine wpQuietIn_nil ?_;rintro _⟨J7,rfl⟩;refine wpAnyIn_ready (rs:=[12]) (by kernel_rfl) (by simp) (AllReadyIn.cons rfl (fun G i=>?_) AllReadyIn.nil)
    go_simp
    refine⟨trivial,(hU.2 (I _)).mono ?_⟩;rintro e w5⟨rfl,rfl⟩;refine i _ _ ?_;clear i G;refine wpAnyIn_ready (rs:=[13]) (by kernel_rfl) (by simp) (AllReadyIn.cons rfl (fun G i=>?_) AllReadyIn.nil)
    go_simp
    refine i _ _ (wpAnyIn_done (by kernel_rfl) ?_ _);clear i G;clear I;cases u1
    ·cases u2
     ·go_wp2_with (go_at_call 32;refine(C _).mono ?_;rintro e H⟨rfl,rfl⟩)
      go_ret;exact⟨iN c.symm,f.out _⟩
     ·by_cases hd1:d=1
      ·have Z:((d:Int) == 1)=true:=by rw[hd1];rfl
       rw[fh hd1]at c;clear hd1
       go_wp2_with (go_at_call 32;refine(C _).mono ?_;rintro e H⟨rfl,rfl⟩)
       go_ret;exact⟨iN c.symm,f.out _⟩
      ·have Z:((d:Int) == 1)=false:=zB0 (by omega)
       rw[eV hd1]at c
       go_wp2_with (go_at_call 32;refine(C _).mono ?_;rintro e H⟨rfl,rfl⟩)
       go_ret;exact⟨iN c.symm,f.out _⟩
    ·go_wp2_with (go_at_call 32;refine(C _).mono ?_;rintro e H⟨rfl,rfl⟩)
     go_ret;exact⟨iN c.symm,f.out _⟩
   ·have M:decide ((hi:Int)<=(t:Int))=true:=fh (by omega)
    rw[eV hhi]at c;go_upto_region 3 with fail
    go_quiet (fail)
    go_wp2_with fail;go_ret;exact⟨iN c.symm,f.out _⟩
  ·have O:decide ((t:Int)<(lo:Int))=true:=fh (by omega)
   rw[eV hlo]at c;go_upto_region 3 with fail
   go_quiet (fail)
   go_wp2_with fail;go_ret;exact⟨iN c.symm,f.out _⟩
 ·have L:decide ((5:Int)<=(d:Int))=true:=fh (by omega)
  rw[eV h5]at c;clear j E q a;go_upto_region 3 with fail
  go_quiet (fail)
  go_wp2_with fail;go_ret;exact⟨iN c.symm,f.out _⟩
theorem Xq {P:Program} (w:World) (base:Nat) (t H ty e:TypeId) (i:TypeInfo) (z:Value) (size bytes:Nat) (Q Z:IntKind) (O:P.underlying t=some (.slice e)) (p:P.underlying H=some (.int Z)) (N:P.info? e=some i) (hz:i.zero=some z)
  (A:i.size=size) (X:i.bytes=bytes) (F:z.cells.size=size) (hsz:0<size) (v:Value) (n:Nat) (q:List Value) (b:w.ownsRow base e size v n q)
  (m:Nat) (h1:∀u∈(Builtin.zeroCells z.cells m).toList,u.oneCell'=true) (K:n+m<=maxLen) (s:(n+m)*bytes<=140737488355328) (D:base<=w.heap.size) :
  ∃v' w',(Builtin.append_ #[t,H] ty #[v,.int Q (m:Int)]).run P w=.ok v' w'/\w'.ownsRow base e size v' (n+m) (q++(Builtin.zeroCells z.cells m).toList)/\w.grownBy w' v.ownBlock/\(v'.ownBlock=v.ownBlock\/v'.ownBlock=some w.heap.size):=by
 subst A;subst X;have R:n+m<=9223372036854775807:=by simp only[maxLen]at K;omega
 have I:m*i.bytes<=281474976710656:=by
  have:m*i.bytes<=(n+m)*i.bytes:=j9 _ (by omega);omega
 obtain⟨a,x⟩:∃a,a=(Builtin.zeroCells z.cells m).toList:=⟨_,rfl⟩;have J:a.length=m*i.size:=by rw[x,kh,sE,F]
 have V:Builtin.zeroCells z.cells m=a.toArray:=by rw[x]
 rw[<-x]at h1|-;have f:(q++a).length=(n+m)*i.size:=by rw[cH,b.1,J,rI]
 have grown:∀(d:Nat),d<n+m->∀(row:Option Nat),
   (w.drew.alloc (.cells (q.toArray++a.toArray++Builtin.zeroCells z.cells (grownCap w (n+m) d e - (n+m))) e)).ownsRow base e i.size
    (.slice (some ⟨w.heap.size,0,none⟩) (n+m) (grownCap w (n+m) d e)) (n+m) (q++a) /\
   w.grownBy (w.drew.alloc (.cells (q.toArray++a.toArray++Builtin.zeroCells z.cells (grownCap w (n+m) d e - (n+m))) e)) row:=by
  intro d ho row;have aa:=grownCap_ge w (n+m) d e;have C:grownCap w (n+m) d e<=maxLen:=grownCap_le_maxLen w (n+m) d e K;refine⟨⟨f,.inr ⟨w.heap.size,_,_,rfl,D,n7 w.drew _,aa,C,?_,?_⟩⟩,⟨rfl,rfl,rfl,by simp,fun k W _=>di w.drew _ _ W⟩⟩
  ·simp only[Array.size_append,kf,sE,F,b.1,J,<-rI]
   congr 1;omega
  ·simp only[Array.toList_append,dq]
   rw[<-dq,<-f];exact List.take_left
 rcases b.2 with ⟨rfl,rfl⟩|⟨g,c,o,rfl,U,hg,T,C,Y,y⟩
 ·have hx:q=[]:=fY (by simpa using b.1)
  subst hx
  by_cases hm:m=0
  ·subst hm
   have hn:a=[]:=fY (by simpa using J);subst hn;refine⟨.slice none 0 0,w,?_,eE w base e i.size,⟨rfl,rfl,rfl,zL0,fun _ _ _=>rfl⟩,pS rfl⟩;simp[Builtin.append_,fy O,fy p,sizeOf,typeInfo,N,asInt,asIntOf,gw]
  ·have B:=Lib.run_append_nil_zeros (P:=P) w t H ty e i z Q Z O p N hz m (by omega) hsz (by omega) I
   have l:=grown 0 (by omega) (Value.ownBlock (.slice none 0 0));simp only[fi,go,Array.empty_append]at l|-;rw[V]at B;exact⟨_,_,B,l.1,l.2,Or.inr rfl⟩
 ·by_cases hroom:n+m<=c
  ·have G:n*i.size+a.length<=o.size:=by rw[J,Y,<-rI];exact j9 _ hroom
   have r:=run_storeCells_at P g (n*i.size) e a 0 o w hg (by simpa using G) h1;simp only[lP]at r;have hw:IntKind.i64.wrap (m:Int)=m:=by rw[gw];omega
   have L:¬((m:Int)<0):=by omega
   have M:¬(281474976710656<(m:Int)*(i.bytes:Int)):=by
    rw[<-Int.natCast_mul];omega
   have B:(Builtin.append_ #[t,H] ty #[.slice (some ⟨g,0,none⟩) n c,.int Q (m:Int)]).run P w=.ok (.slice (some ⟨g,0,none⟩) (n+m) c) (w.setRow g (o.toList.take (n*i.size)++a++o.toList.drop (n*i.size+a.length)).toArray):=by
    by_cases hm:m=0
    ·subst hm
     have hn:a=[]:=fY (by simpa using J);subst hn;simp only[eN,iu,lP,mn]at r|-;simp[Builtin.append_,fy O,fy p,sizeOf,typeInfo,N,asInt,asIntOf,gw,Addr.add_lit,r,T]
    ·have S:¬(m*i.size=0):=Nat.mul_ne_zero hm (by omega)
     simp[Builtin.append_,fy O,fy p,sizeOf,typeInfo,zeroValue,N,hz,asInt,asIntOf,hw,L,S,M,hroom,Addr.add_lit,V,r]
   refine⟨_,_,B,⟨f,.inr ⟨g,c,_,rfl,U,setRow_heap w g o _ e _ hg,hroom,C,?_,?_⟩⟩,⟨rfl,rfl,rfl,by simp,fun k _ W=>setRow_other w g k _ (fun e=>W (by simp[Value.ownBlock,e]))⟩,pS rfl⟩
   ·simp only[kf,cH,fN,oe,kh]
    omega
   ·rw[y,<-f]
    exact List.take_left
  ·have E:∀j u,q[j]?=some u->w.cell? ((⟨g,0,none⟩:Addr).add j)=some u:=b.cells (g:=g) rfl
   have B:=Lib.run_append_grow_zeros (P:=P) w t H ty e i z Q Z O p N hz (some ⟨g,0,none⟩) n c q (run_firstCells_some (P:=P) w.drew i.size n _ n c q b.1 E) m (by omega) hsz (by omega) (by omega) I (growslice_fits (by omega) s);have l:=grown c (by omega) (Value.ownBlock (.slice (some ⟨g,0,none⟩) n c));rw[V]at B;exact⟨_,_,B,l.1,l.2,Or.inr rfl⟩
namespace Lx
def fix(l:List ByteArray)(b:ByteArray):Nat:=l.findIdx fun x=>decide (x=b)
def bW(l:List ByteArray)(b:ByteArray):Int:=if fix l b<l.length then (fix l b:Int) else -1
theorem ab5{l:List ByteArray}{b:ByteArray}{j:Nat}(g:l[j]?=some b)(c:∀i,i<j->l[i]?≠some b):fix l b=j:=by
 obtain⟨a,f⟩:=cG.1 g;unfold fix;rw[List.findIdx_eq a];refine⟨by simp[f],fun i d=>?_⟩;have:=c i d;rw[cF (by omega)]at this;simp only[s7];exact fun e=>this (by rw[e])
theorem alY{l:List ByteArray}{b:ByteArray}{j:Nat}(a:l[j]?=some b)(c:∀i,i<j->l[i]?≠some b):bW l b=(j:Int):=by
 have h:=ab5 a c;have:=(cG.1 a).1;unfold bW;rw[h,de this]
theorem ahJ(l:List ByteArray)(b:ByteArray):-1<=bW l b/\bW l b<l.length:=by
 unfold bW;split <;> omega
theorem jH{l:List ByteArray}{b:ByteArray}:0<=bW l b↔b∈l:=by
 unfold bW fix;constructor
 ·intro h
  split at h
  ·rename_i a
   have h1:=pC (w:=a);rw[<-js h1];exact dy _
  ·omega
 ·intro h
  rw[de (List.findIdx_lt_length_of_exists ⟨b,h,by simp⟩)];omega
end Lx
theorem flat_get{α:Type}(c:Value×α->List Value)(s:Nat)(a:∀q,(c q).length=s):∀(ps:List (Value×α))(j i:Nat)(q:Value×α),ps[j]?=some q->i<s->(ps.flatMap c)[j*s+i]?=(c q)[i]?
 | [],_,_,_,h,_=>by simp at h
 |p::ps,0,i,q,h,hi=>by
  simp at h;subst h;rw[du,sq,fi,eC (by rw[a];exact hi)]
 |p::ps,j+1,i,q,h,hi=>by
  have b:ps[j]?=some q:=by simpa using h
  rw[du,eJ (by rw[a,mN];omega),a,show (j+1)*s+i-s=j*s+i by rw[mN];omega];exact flat_get c s a ps j i q b hi
theorem Tr.Seq.at{α:Type}{F:Nat->Prop}{w:World}{e s:Nat}{c:Value×α->List Value}{K:Value->α->Prop}{v:Value}{l:List α}(h:Tr.Seq F w e s c K v l)(n:∀q,(c q).length=s){j:Nat}(k:j<l.length):
  ∃g cap vk,v=.slice (some ⟨g,0,none⟩) l.length cap/\F g/\K vk l[j]/\∀i,i<s->w.cell? ⟨g,j*s+i,none⟩=(c (vk,l[j]))[i]?:=by
 obtain⟨a,h1,h2,h3,h4⟩:=h;obtain⟨g,cap,rfl,-,-⟩:=h2.form (by omega);have o:a.length=l.length:=by rw[<-h1];simp
 have d:a[j]?=some a[j]:=cF (by omega);have f:(a[j]).2=l[j]:=by
  have:(a.map Prod.snd)[j]?=l[j]?:=by rw[h1]
  rw[dj,d,cF k]at this;simpa using this
 refine⟨g,cap,(a[j]).1,rfl,h3 g rfl,?_,?_⟩
 ·rw[<-f];exact h4 _ (dy _)
 ·intro i m
  have b:j*s+i<l.length*s:=by
   have:(j+1)*s<=l.length*s:=j9 s k;rw[mN]at this;omega
  rw[h2.cellAt (j*s+i) b,flat_get c s n a j i _ d m,<-f]
theorem Tr.Seq.len{α:Type}{F:Nat->Prop}{w:World}{e s:Nat}{c:Value×α->List Value}{K:Value->α->Prop}{v:Value}{l:List α}(h:Tr.Seq F w e s c K v l):∃a cap,v=.slice a l.length cap/\l.length<=maxLen:=by
 obtain⟨b,h1,h2,h3,h4⟩:=h;exact aB h2
theorem aM.len{Y:Lay}{d:Nat}{F:Nat->Prop}{w:World}{v:Value}{l:List Lx.Alt}(h:aM Y d F w v l):∃a cap,v=.slice a l.length cap/\l.length<=maxLen:=by
 cases d with
 |zero=>obtain⟨rfl,rfl⟩:=h;exact⟨_,_,rfl,eR _⟩
 |succ d=>exact Seq.len h
def Lx.lvls(g:Lx.Gr)(b:ByteArray):Bool:=g.levels.any fun lv=>decide (0<=bW (lv.tokens.map Prod.fst) b)
namespace Lx
theorem Nb(ts:List Tk):ts.tail.length<=ts.length:=by simp
theorem XR:∀(f:Nat)(ts acc x ts':List Tk),jF f ts acc=.ok (x,ts')->ts'.length<=ts.length
 |0,ts,acc,x,ts',h=>by simp only[jF,jn,ip]at h;rw[h.2];exact zL0
 |f+1,ts,acc,x,ts',h=>by
  have h3:=Nb ts;simp only[jF]at h
  split at h
  ·simp only[jn,ip]at h;rw[<-h.2];exact h3
  ·cases hr:eG isToken ts with
   |error e=>rw[hr]at h;cases h
   |ok y=>
    obtain⟨b,a⟩:=y;rw[hr]at h;have h1:=(oC hr).1;have h2:=XR f a _ x ts' h;rw[h1]at h2;omega
theorem agz{ts ts':List Tk}{x:Lv}(h:lu ts=.ok (x,ts')):ts'.length<=ts.tail.length:=by
 unfold lu at h;cases hr:eG isToken ts.tail with
 |error e=>rw[hr]at h;cases h
 |ok y=>
  obtain⟨b,a⟩:=y;rw[hr]at h;have h1:=(oC hr).1;cases hr2:jF a.length a [(b,pl ts.tail)] with
  |error e=>simp only[hr2]at h;cases h
  |ok z=>
   obtain⟨l,c⟩:=z;simp only[hr2,jn,ip]at h;have h2:=XR _ _ _ _ _ hr2;have h3:=Nb ts.tail;rw[<-h.2];rw[h1]at h2;omega
theorem Q0{ts ts':List Tk}{x:Rl}(h:iC ts=.ok (x,ts')):ts'.length<=ts.tail.length:=by
 unfold iC at h;cases hr:eG isName ts with
 |error e=>rw[hr]at h;cases h
 |ok y=>
  obtain⟨b,c⟩:=y;rw[hr]at h;have h1:=(oC hr).1;cases hr2:jy lZ c with
  |error e=>simp only[hr2]at h;cases h
  |ok z=>
   obtain⟨u,d⟩:=z;have h2:=(yH hr2).1;cases hr3:nu 8 d with
   |error e=>simp only[hr2,hr3]at h;cases h
   |ok z=>
    obtain⟨l,a⟩:=z;have h3:=Ms 8 _ _ _ hr3;cases hr4:jy mG a with
    |error e=>simp only[hr2,hr3,hr4]at h;cases h
    |ok z=>
     obtain⟨j,g⟩:=z;have h4:=(yH hr4).1;simp only[hr2,hr3,hr4,jn,ip]at h;have i:=Nb a;have f:=Nb c;rw[<-h.2,h4];rw[h2]at h3;rw[h1]at h3 f;omega
def Nc(lv:List Lv):aR (List Rl)->aR Gr
 |.error e=>.error e
 | .ok (l,ts)=>.ok (⟨lv,l⟩,ts)
def IX(lv:List Lv)(aG:List Tk):aR Gr :=
 match iC aG with
 |.error e=>.error e
 | .ok (x,bY)=>Nc lv (jv bY.length bY [x])
def NW:aR (List Lv)->aR Gr
 |.error e=>.error e
 | .ok (lv,aG)=>IX lv aG
theorem afE(ts:List Tk):jq ts=NW (kZ ts.length ts []):=by
 unfold jq;cases h1:kZ ts.length ts [] with
 |error e=>rfl
 |ok y=>
  obtain⟨d,b⟩:=y;simp only[NW,IX];cases h2:iC b with
  |error e=>rfl
  |ok z=>
   obtain⟨x,a⟩:=z;simp only;cases h3:jv a.length a [x] with
   |error e=>rfl
   |ok q=>obtain⟨l,c⟩:=q;rfl
def EP{α:Type}(r:aR α):Prop:=∀e,r=.error e->0<e.1
theorem EP.ok{α:Type}(x:α×List Tk):EP (.ok x:aR α):=fun _ h=>by cases h
theorem EP.no{α:Type}{n a:Nat}(h:0<n):EP (.error (n,a):aR α):=fun _ e=>by cases e;exact h
theorem EP.up{α β:Type}{r:aR α}{e:Nat×Nat}(h:EP r)(b:r=.error e):EP (.error e:aR β):=fun _ a=>by cases a;exact h e b
theorem MK(k:ByteArray->Bool)(ts:List Tk):EP (eG k ts):=by
 unfold eG
 split
 ·exact EP.ok _
 ·exact EP.no (by decide)
theorem RD(b:ByteArray)(ts:List Tk):EP (jy b ts):=by
 unfold jy
 split
 ·exact EP.ok _
 ·exact EP.no (by decide)
theorem ajb{aF:List Tk->aR (List Alt)}(a:∀ts,EP (aF ts))(ts:List Tk):EP (iB aF ts):=by
 unfold iB
 split
 ·cases hr0:aF ts with
  |error e=>exact EP.up (a ts) hr0
  |ok y0=>
   obtain⟨b,c⟩:=y0;exact EP.ok _
 ·split
  ·exact EP.ok _
  ·split
   ·exact EP.ok _
   ·exact EP.no (by decide)
theorem Zq{aF:List Tk->aR (List Alt)}(a:∀ts,EP (aF ts)):∀(f:Nat)(ts:List Tk)(acc:List It),EP (jr aF f ts acc)
 |0,_,_=>EP.ok _
 |f+1,ts,acc=>by
  simp only[jr]
  split
  ·cases hr0:iB aF ts with
   |error e=>exact EP.up (ajb a ts) hr0
   |ok y0=>
    obtain⟨b,c⟩:=y0;exact Zq a f _ _
  ·exact EP.ok _
theorem ajc(top:Bool)(a:List It)(ts:List Tk):EP (qz top a ts):=by
 unfold qz
 split
 ·cases hr0:eG isToken ts.tail with
  |error e=>exact EP.up (MK _ _) hr0
  |ok y0=>
   obtain⟨b,c⟩:=y0;exact EP.ok _
 ·exact EP.ok _
theorem abe{aF:List Tk->aR (List Alt)}(a:∀ts,EP (aF ts))(top:Bool)(ts:List Tk):EP (iH aF top ts):=by
 unfold iH;cases hr0:jr aF ts.length ts [] with
 |error e=>exact EP.up (Zq a _ _ _) hr0
 |ok y0=>
  obtain⟨b,c⟩:=y0;exact ajc _ _ _
theorem aam{aF:List Tk->aR (List Alt)}(a:∀ts,EP (aF ts))(top:Bool):∀(f:Nat)(ts:List Tk)(acc:List Alt),EP (lW aF top f ts acc)
 |0,_,_=>EP.ok _
 |f+1,ts,acc=>by
  simp only[lW]
  split
  ·cases hr0:iH aF top ts.tail with
   |error e=>exact EP.up (abe a _ _) hr0
   |ok y0=>
    obtain⟨b,c⟩:=y0;exact aam a top f _ _
  ·exact EP.ok _
theorem Yv{aF:List Tk->aR (List Alt)}(a:∀ts,EP (aF ts))(top:Bool)(ts:List Tk):EP (qo aF top ts):=by
 unfold qo;cases hr0:iH aF top ts with
 |error e=>exact EP.up (abe a _ _) hr0
 |ok y0=>
  obtain⟨b,c⟩:=y0;exact aam a _ _ _ _
theorem ahK{r:List Tk->aR (List Alt)}(a:∀ts,EP (r ts))(ts:List Tk):EP (qw r ts):=by
 unfold qw;cases hr0:r ts.tail with
 |error e=>exact EP.up (a _) hr0
 |ok y0=>
  obtain⟨d,b⟩:=y0;simp only;cases hr1:jy BH b with
  |error e=>exact EP.up (RD _ _) hr1
  |ok y1=>
   obtain⟨f,c⟩:=y1;exact EP.ok _
theorem aan:∀(d:Nat)(ts:List Tk),EP (nu d ts)
 |0,ts=>Yv (aF:=fun ts=>.error (3,pl ts)) (fun _=>EP.no (by decide)) _ _
 |d+1,ts=>Yv (ahK (aan d)) _ _
theorem aao(ts:List Tk):EP (iC ts):=by
 unfold iC;cases hr0:eG isName ts with
 |error e=>exact EP.up (MK _ _) hr0
 |ok y0=>
  obtain⟨i,c⟩:=y0;simp only;cases hr1:jy lZ c with
  |error e=>exact EP.up (RD _ _) hr1
  |ok y1=>
   obtain⟨j,a⟩:=y1;simp only;cases hr2:nu 8 a with
   |error e=>exact EP.up (aan _ _) hr2
   |ok y2=>
    obtain⟨f,b⟩:=y2;simp only;cases hr3:jy mG b with
    |error e=>exact EP.up (RD _ _) hr3
    |ok y3=>
     obtain⟨g,d⟩:=y3;exact EP.ok _
theorem Yw:∀(f:Nat)(ts acc:List Tk),EP (jF f ts acc)
 |0,_,_=>EP.ok _
 |f+1,ts,acc=>by
  simp only[jF]
  split
  ·exact EP.ok _
  ·cases hr0:eG isToken ts with
   |error e=>exact EP.up (MK _ _) hr0
   |ok y0=>
    obtain⟨a,b⟩:=y0;exact Yw f _ _
theorem ahL(ts:List Tk):EP (lu ts):=by
 unfold lu;cases hr0:eG isToken ts.tail with
 |error e=>exact EP.up (MK _ _) hr0
 |ok y0=>
  obtain⟨b,a⟩:=y0;simp only;cases hr1:jF a.length a [(b,pl ts.tail)] with
  |error e=>exact EP.up (Yw _ _ _) hr1
  |ok y1=>
   obtain⟨d,c⟩:=y1;exact EP.ok _
theorem Yx:∀(f:Nat)(ts:List Tk)(acc:List Lv),EP (kZ f ts acc)
 |0,_,_=>EP.ok _
 |f+1,ts,acc=>by
  simp only[kZ]
  split
  ·cases hr0:lu ts with
   |error e=>exact EP.up (ahL _) hr0
   |ok y0=>
    obtain⟨a,b⟩:=y0;exact Yx f _ _
  ·exact EP.ok _
theorem Zr:∀(f:Nat)(ts:List Tk)(acc:List Rl),EP (jv f ts acc)
 |0,_,_=>EP.ok _
 |f+1,ts,acc=>by
  simp only[jv]
  split
  ·exact EP.ok _
  ·cases hr0:iC ts with
   |error e=>exact EP.up (aao _) hr0
   |ok y0=>
    obtain⟨a,b⟩:=y0;exact Zr f _ _
theorem afF(ts:List Tk):EP (jq ts):=by
 unfold jq;cases hr0:kZ ts.length ts [] with
 |error e=>exact EP.up (Yx _ _ _) hr0
 |ok y0=>
  obtain⟨d,c⟩:=y0;simp only;cases hr1:iC c with
  |error e=>exact EP.up (aao _) hr1
  |ok y1=>
   obtain⟨b,a⟩:=y1;simp only;cases hr2:jv a.length a [b] with
   |error e=>exact EP.up (Zr _ _ _) hr2
   |ok y2=>
    obtain⟨f,g⟩:=y2;exact EP.ok _
theorem Zt{s:ByteArray}{n a:Nat}(h:parse s=.error (n,a)):0<n:=by
 unfold parse at h
 split at h
 ·cases h;decide
 ·cases hr:jq (lex s) with
  |error e=>rw[hr]at h;cases h;exact afF _ _ hr
  |ok x=>obtain⟨g,b⟩:=x;rw[hr]at h;cases h
end Lx
end Go.Proofs.YtagkodkijkpemaaGreatDoor

import Derived.Test.YtagkodkijkpemaaGreatDoorRA30
set_option maxHeartbeats 8000000
set_option maxRecDepth 1000000
namespace Go.Proofs.YtagkodkijkpemaaGreatDoor
open Lx Go.Proofs.Tryz
open Go.RowKit Tr
structure uD(p:Pk.T):Prop where
 bd:Gv p
 dl:p.aI.length=p.ay.length
 t0:1<=p.toks.length
 n0:1<=p.aS.length
 p0:1<=p.prods.length/\p.prods.length<=200
 df:∀x∈p.aI,x<p.prods.length
 pr:∀x∈p.prods,p.toks.length<=x.1/\x.1<p.toks.length+p.aS.length/\x.2<=1000
 pl:∀(i:Nat)x,p.ak[i]?=some x->x=(0,0,0)\/(x.2.2<p.ay.length/\Pk.BS p x.1 x.2.1 ((i:Int) - (p.ay.getD x.2.2 0:Nat))=true)
 pm:p.ak.length<=600000
theorem ahd{fn:Func}{a b c d:Tmp}(h:fn.results=#[.tmp a,.tmp b,.tmp c,.tmp d])(tmps:Array Value)(P:Program)(w:World):(results fn tmps).run P w=.ok (.tuple #[tmps.getD a undef,tmps.getD b undef,tmps.getD c undef,tmps.getD d undef]) w:=by simp[results,h]
section
variable {w:World} {B pb:Nat} {v:fV} {p:Pk.T}
theorem uD.ay(h:uD p)(q:Nat):p.ay.getD q 0<16777216:=by
 rw[ed];cases e:p.ay[q]? with
 |none=>decide
 |some x=>exact h.bd.b1 x (cQ e)
theorem aiB(h:aO w B pb v p):Calls prog 14 #[.pointer (some ⟨pb,0,none⟩)] w fun e w'=>e=.returned (.tuple #[.int .i64 (p.aI.length:Int),.int .i64 (p.toks.length:Int),.int .i64 (p.aS.length:Int),.int .i64 (p.prods.length:Int)])/\Below w.heap.size w w':=by
 obtain⟨-,-,⟨j,i,a⟩,⟨g,n,m⟩,⟨k,l,b⟩,⟨f,c,d⟩⟩:=h.cell;go_enter func14,ntmps14;go_upto_region 1 with fail
 go_quiet (fail)
 go_wp2_with fail;refine fx (ahd rfl _ _ _) rfl ⟨rfl,⟨rfl,rfl,rfl,zL0,fun _ _=>rfl⟩⟩
theorem RY(h:aO w B pb v p)(i:Int):Calls prog 17 #[.pointer (some ⟨pb,0,none⟩),.int .i64 i] w fun e w'=>e=.returned (.tuple #[.int .i64 ((Pk.gV p i).1:Int),.int .i64 ((Pk.gV p i).2:Int)])/\Below w.heap.size w w':=by
 obtain⟨g,j,d,-⟩:=aB h.rR;have l:w.cell? ⟨pb,4,none⟩=some (.slice g p.prods.length j):=by rw[<-d];exact h.blk.cell 4
 have c:=aik h i;rw[d]at c;obtain⟨x,f⟩:∃x,Pk.gV p i=x:=⟨_,rfl⟩;rw[f]at c|-;clear d f h;go_enter func17,ntmps17;go_upto_region 2 with (go_at_call 34;refine c.mono ?_;rintro e w1⟨rfl,b⟩)
 have k:aj (w1.alloc (.cells #[.int .i64 (x.1:Int),.int .i64 (x.2:Int)] 81)) w1.heap.size #[.int .i64 (x.1:Int),.int .i64 (x.2:Int)] 81:=aj.new ..;have a:=b.alloc b.size (.cells #[.int .i64 (x.1:Int),.int .i64 (x.2:Int)] 81);generalize w1.alloc (.cells #[.int .i64 (x.1:Int),.int .i64 (x.2:Int)] 81)=w2 at k a|-;have m:w2.cell? ⟨w1.heap.size,0,none⟩=some (.int .i64 (x.1:Int)):=k.cell 0;have n:w2.cell? ⟨w1.heap.size,1,none⟩=some (.int .i64 (x.2:Int)):=k.cell 1
 go_quiet (fail)
 go_wp2_with fail
 go_ret2
 exact⟨rfl,⟨a.1,a.2,a.3,a.4,a.5⟩⟩
theorem ahe(h:aO w B pb v p)(J:uD p)(q n:Int):Calls prog 15 #[.pointer (some ⟨pb,0,none⟩),.int .i64 q,.int .i64 n] w fun e w'=>e=.returned (.agg #[.int .i64 ((Pk.act p q n).1:Int),.int .i64 ((Pk.act p q n).2:Int)])/\Below w.heap.size w w':=by
 obtain⟨d,i⟩:∃r,w.heap.size=r:=⟨_,rfl⟩;obtain⟨w1,g⟩:∃V,V=w.alloc (.cells #[.int .i64 0,.int .i64 0] 42):=⟨_,rfl⟩;have f:Below d w w1:=by rw[g,<-i];exact(cV _ _).alloc (zL0) _
 have kR:aj w1 d #[.int .i64 0,.int .i64 0] 42:=by rw[g,<-i];exact aj.new ..
 have h1:aO w1 B pb v p:=h.move fun k F=>f.block k (by rw[<-i];exact h.lt F)
 obtain⟨-,-,⟨a2,W,c2⟩,-,-,⟨a5,k5,M⟩⟩:=h1.cell;have z:=fun w=>Bo (w:=w) q p.aI.length
 have E:=fun w=>Bo (w:=w) n p.toks.length
 have P:w1.cell? ⟨d,0,none⟩=some (.int .i64 0):=kR.cell 0;have Y:w1.cell? ⟨d,1,none⟩=some (.int .i64 0):=kR.cell 1;have N:=kR.frozen 0;have U:=kR.frozen 1;have I:Hid (∀(w2:World)(a b:Value),Below w1.heap.size w1 w2->aj ((w2.setCell ⟨d,0,none⟩ a).setCell ⟨d,1,none⟩ b) d #[a,b] 42/\Below d w ((w2.setCell ⟨d,0,none⟩ a).setCell ⟨d,1,none⟩ b)):=fun w2 a b j=>by
  have W:aj w2 d #[.int .i64 0,.int .i64 0] 42:=(j.block _ kR.lt).trans kR;refine⟨(W.set 0 a).set 1 b,mq (mq ⟨j.1.trans f.1,j.2.trans f.2,j.3.trans f.3,dg f.4 j.4,fun k F=>(j.block k (sr F kR.lt)).trans (f.block k F)⟩ (zL0)) (zL0)⟩
 obtain⟨o,c⟩:∃o,Pk.act p q n=o:=⟨_,rfl⟩;rw[i,c];unfold Pk.act at c
 by_cases hq:Pk.within q p.aI.length=true
 ·rw[hq]at c
  simp only[hq]at z
  by_cases hn:Pk.within n p.toks.length=true
  ·rw[hn]at c
   simp only[hn]at E;rw[de (show (true && true)=true from rfl)]at c;obtain⟨j0,j1⟩:=within_iff.1 hq;obtain⟨i0,i1⟩:=within_iff.1 hn;obtain⟨A,rfl⟩:∃m:Nat,q=(m:Int):=⟨q.toNat,by omega⟩;obtain⟨L,rfl⟩:∃m:Nat,n=(m:Int):=⟨n.toNat,by omega⟩;rw[gz,gz]at c;have Q:A<p.aI.length:=by omega
   obtain⟨y,O⟩:∃y,p.aI[A]?=some y:=⟨_,cF Q⟩;have X:p.aI.getD A 0=y:=by simp[O]
   rw[X]at c;have K:=aaN h1 (q:=A) (s:=L) (by rw[<-J.dl];exact Q) (by have:=J.ay A;have:=J.bd.t1;omega);obtain⟨x,S⟩:∃x,Pk.cell p A L=x:=⟨_,rfl⟩;rw[S]at c K;have R:Hid (∀w2,Below w1.heap.size w1 w2->aO w2 B pb v p/\aj w2 d #[.int .i64 0,.int .i64 0] 42):=fun w2 j=>⟨h1.move fun k F=>j.block k (h1.lt F),(j.block _ kR.lt).trans kR⟩
   clear h h1 f kR S X;go_enter func15,ntmps15;go_upto_region 1 with fail
   rw[<-g];clear g;go_upto_region 3 with (first
    | (go_at_call 32;refine(z _).mono ?_;rintro e w1⟨rfl,rfl⟩;clear z)
    | (go_at_call 32;refine(E _).mono ?_;rintro e w1⟨rfl,rfl⟩;clear E))
   clear c2 M P Y N U;go_upto_region 4 with (go_at_call 33;refine K.mono ?_;rintro e w2⟨rfl,t⟩)
   have G:aj (w2.alloc (.cells #[.int .i64 (x.1:Int),.int .i64 (x.2:Int)] 42)) w2.heap.size #[.int .i64 (x.1:Int),.int .i64 (x.2:Int)] 42:=aj.new ..;have l:=t.alloc t.size (.cells #[.int .i64 (x.1:Int),.int .i64 (x.2:Int)] 42);generalize w2.alloc (.cells #[.int .i64 (x.1:Int),.int .i64 (x.2:Int)] 42)=w3 at G l|-;generalize w2.heap.size=bt at G|-;obtain⟨h3,kr⟩:=R.out w3 l;obtain⟨gD,cD,H,-,cy⟩:=Fz h3.rD (p:=A) (u:=bQ y) (by rw[dj,O];rfl);have M:w3.cell? ⟨pb,5,none⟩=some (.slice (some ⟨gD,0,none⟩) p.aI.length cD):=by rw[<-H];exact h3.blk.cell 5
   unfold bQ at cy;have y0:w3.cell? ⟨bt,0,none⟩=some (.int .i64 (x.1:Int)):=G.cell 0;have y1:w3.cell? ⟨bt,1,none⟩=some (.int .i64 (x.2:Int)):=G.cell 1;have P:w3.cell? ⟨d,0,none⟩=some (.int .i64 0):=kr.cell 0;have Y:w3.cell? ⟨d,1,none⟩=some (.int .i64 0):=kr.cell 1;have N:=kr.frozen 0;have U:=kr.frozen 1;have D:Hid (∀a b:Value,aj ((w3.setCell ⟨d,0,none⟩ a).setCell ⟨d,1,none⟩ b) d #[a,b] 42/\Below d w ((w3.setCell ⟨d,0,none⟩ a).setCell ⟨d,1,none⟩ b)):=fun a b=>I.out w3 a b l
   clear I R h3 kr G H l t K
   by_cases hx0:x.1=0
   ·have b1:((x.1:Int) == 0)=true:=by rw[hx0];rfl
    by_cases hy0:y=0
    ·have b2:((y:Int) != 0)=false:=by rw[hy0];rfl
     have Z:(y:Int)=0:=by omega
     rw[dk (fun e=>e.2 hy0)]at c;subst c;clear hx0 hy0;go_wp2_with fail;exact pz rfl rfl (D.out _ _).1 (by kernel_rfl) (by kernel_rfl) ⟨rfl,(D.out _ _).2⟩
    ·have b2:((y:Int) != 0)=true:=j8.2 (by omega)
     have Z:¬(y:Int)=0:=by omega
     rw[de ⟨hx0,hy0⟩]at c;subst c;clear hx0 hy0;go_wp2_with fail;exact pz rfl rfl (D.out _ _).1 (by kernel_rfl) (by kernel_rfl) ⟨rfl,(D.out _ _).2⟩
   ·have b1:((x.1:Int) == 0)=false:=zB0 (by omega)
    rw[dk (fun e=>hx0 e.1)]at c;subst c;go_wp2_with fail;exact pz rfl rfl (D.out _ _).1 (by kernel_rfl) (by kernel_rfl) ⟨rfl,(D.out _ _).2⟩
  ·rw[ol]at hn
   rw[hn]at c;simp only[hn]at E;have C:o=(0,0):=by rw[<-c];rfl
   clear h h1 f kR;go_enter func15,ntmps15;go_upto_region 1 with fail
   rw[<-g];clear g c
   go_wp2_with (first
    | (go_at_call 32;refine(z _).mono ?_;rintro e w1⟨rfl,rfl⟩;clear z)
    | (go_at_call 32;refine(E _).mono ?_;rintro e w1⟨rfl,rfl⟩;clear E))
   have:=I.out w1 (.int .i64 0) (.int .i64 0) (cV _ _);exact pz rfl rfl this.1 (by kernel_rfl) (by kernel_rfl) ⟨by rw[C];rfl,this.2⟩
 ·rw[ol]at hq
  rw[hq]at c;simp only[hq]at z;have C:o=(0,0):=by rw[<-c];rfl
  clear h h1 f kR;go_enter func15,ntmps15;go_upto_region 1 with fail
  rw[<-g];clear g c
  go_wp2_with (go_at_call 32;refine(z _).mono ?_;rintro e w1⟨rfl,rfl⟩)
  have:=I.out w1 (.int .i64 0) (.int .i64 0) (cV _ _);exact pz rfl rfl this.1 (by kernel_rfl) (by kernel_rfl) ⟨by rw[C];rfl,this.2⟩
theorem aj3(h:aO w B pb v p)(j:uD p)(q n:Int):Calls prog 16 #[.pointer (some ⟨pb,0,none⟩),.int .i64 q,.int .i64 n] w fun e w'=>e=.returned (.int .i64 (Pk.goto p q n:Int))/\Below w.heap.size w w':=by
 obtain⟨-,-,⟨I,L,F⟩,⟨K,P,O⟩,-,⟨G,A,C⟩⟩:=h.cell;have d:=fun w=>Bo (w:=w) q p.aI.length
 have f:=fun w=>Bo (w:=w) n p.aS.length
 obtain⟨o,b⟩:∃o,Pk.goto p q n=o:=⟨_,rfl⟩;rw[b];unfold Pk.goto at b
 by_cases hq:Pk.within q p.aI.length=true
 ·rw[hq]at b
  simp only[hq]at d
  by_cases hn:Pk.within n p.aS.length=true
  ·rw[hn]at b
   simp only[hn]at f;rw[de (show (true && true)=true from rfl)]at b;obtain⟨J,H⟩:=within_iff.1 hq;obtain⟨N,D⟩:=within_iff.1 hn;obtain⟨k,rfl⟩:∃m:Nat,q=(m:Int):=⟨q.toNat,by omega⟩;obtain⟨i,rfl⟩:∃m:Nat,n=(m:Int):=⟨n.toNat,by omega⟩;rw[gz,gz]at b;have y:=j.bd.n1;have z:=j.bd.t1;have t:k<p.ay.length:=by rw[<-j.dl];omega
   have r:∀u,_:=fun u=>aaN (w:=w.drewN u) (h.move fun _ _=>rfl) (q:=k) (s:=p.toks.length+i) t (by have:=j.ay k;omega)
   simp only[pt]at r;obtain⟨x,l⟩:∃x,Pk.cell p k (p.toks.length+i)=x:=⟨_,rfl⟩;rw[l]at b;simp only[l]at r;have M:IntKind.i64.wrap ((p.toks.length:Int)+(i:Int))=(p.toks.length:Int)+(i:Int):=by rw[gw];omega
   subst b;clear h l t;go_enter func16,ntmps16;go_upto_region 3 with (first
    | (go_at_call 32;refine(d _).mono ?_;rintro e w⟨rfl,rfl⟩;clear d)
    | (go_at_call 32;refine(f _).mono ?_;rintro e w⟨rfl,rfl⟩;clear f))
   refine(oX (n:=9)).1 ?_;refine mo 11 (by kernel_rfl) (by kernel_rfl) (by kernel_rfl) ?_
   dsimp only[List.take,List.drop,List.length]
   repeat (gi_big_quiet_step (fail))
   refine wpQuietIn_nil ?_;rintro _⟨E,rfl⟩;refine wpAnyIn_ready (rs:=[11]) (by kernel_rfl) (by simp) (AllReadyIn.cons rfl (fun g a=>?_) AllReadyIn.nil)
   go_simp
   refine⟨trivial,(hU.2 (r _)).mono ?_⟩;rintro e w2⟨rfl,c⟩;refine a _ _ ?_;clear a g;refine wpAnyIn_ready (rs:=[12]) (by kernel_rfl) (by simp) (AllReadyIn.cons rfl (fun g a=>?_) AllReadyIn.nil)
   go_simp
   refine a _ _ ?_;clear a g;refine wpAnyIn_ready (rs:=[13]) (by kernel_rfl) (by simp) (AllReadyIn.cons rfl (fun g a=>?_) AllReadyIn.nil)
   go_simp
   refine a _ _ (wpAnyIn_done (by kernel_rfl) ?_ _);clear a g;go_wp2_with fail;go_ret;exact⟨rfl,⟨c.1,c.2,c.3,c.4,c.5⟩⟩
  ·rw[ol]at hn
   rw[hn]at b;simp only[hn]at f;obtain rfl:o=0:=by rw[<-b];rfl
   clear h b;go_enter func16,ntmps16
   go_wp2_with (first
    | (go_at_call 32;refine(d _).mono ?_;rintro e w⟨rfl,rfl⟩;clear d)
    | (go_at_call 32;refine(f _).mono ?_;rintro e w⟨rfl,rfl⟩;clear f))
   go_ret;exact⟨rfl,cV _ _⟩
 ·rw[ol]at hq
  rw[hq]at b;simp only[hq]at d;obtain rfl:o=0:=by rw[<-b];rfl
  clear h b;go_enter func16,ntmps16
  go_wp2_with (go_at_call 32;refine(d _).mono ?_;rintro e w⟨rfl,rfl⟩)
  go_ret;exact⟨rfl,cV _ _⟩
theorem aaO(w:World)(g:pF w)(i:0<w.heap.size)(b:ByteArray)(d:b.size<=281474976710656):Calls prog 5 #[.string b] w fun e w'=>(Pk.ok b=false/\e=.returned (.tuple #[.pointer none,.int .i64 10])/\Below w.heap.size w w')\/(Pk.ok b=true/\∃pb v,e=.returned (.tuple #[.pointer (some ⟨pb,0,none⟩),.int .i64 0])/\Below w.heap.size w w'/\aO w' w.heap.size pb v (Pk.pack b)/\w.heap.size<=pb):=by
 have c:=ajD w g i b d;cases hok:Pk.ok b with
 |false=>
  rw[hok]at c;go_enter func5,ntmps5
  go_wp2_with (go_at_call 13;refine c.mono ?_;rintro e w1⟨f,pb,v,rfl,a⟩)
  go_ret2
  exact .inl ⟨trivial,rfl,a.b⟩
 |true=>
  rw[hok]at c;go_enter func5,ntmps5
  go_wp2_with (go_at_call 13;refine c.mono ?_;rintro e w1⟨f,pb,v,rfl,a⟩)
  go_ret2
  exact .inr ⟨trivial,pb,v,rfl,a.b,a.p,a.pb⟩
end
namespace Pk
theorem aaP(b:ByteArray){c:Nat}(d:0<c):∀n r l m,(∀x∈l,x<c)->∀x∈(qR b c n r l m).1,x<c
 |0,_,_,_,h=>h
 |n+1,r,l,m,h=>by
  rw[qR];refine aaP b d n _ _ _ fun x a=>?_
  rcases cY.1 a with a|a
  ·exact h x a
  ·rw[cM]at a
   subst a;exact yI d
theorem Y8(b:ByteArray){nT nN:Nat}(c:0<nN):∀n r l,(∀x∈l,nT<=x.1/\x.1<nT+nN/\x.2<=1000)->∀x∈(uL b nT nN n r l).1,nT<=x.1/\x.1<nT+nN/\x.2<=1000
 |0,_,_,h=>h
 |n+1,r,l,h=>by
  rw[uL];refine Y8 b c n _ _ fun x a=>?_
  rcases cY.1 a with a|a
  ·exact h x a
  ·rw[cM]at a
   subst a;have h1:=yI (b:=b) (n:=2) (r:=r) c;have h2:=yI (b:=b) (m:=1001) (n:=2) (r:=(below b nN 2 r).2) (by decide);refine⟨Nat.le_add_right _ _,Nat.add_lt_add_left h1 _,Nat.le_of_lt_succ h2⟩
def Ux(p:T)(l:List (Nat×Nat×Nat)):Prop:=l.length<=most p/\∀(i:Nat)x,l[i]?=some x->x=(0,0,0)\/(x.2.2<p.ay.length/\BS p x.1 x.2.1 ((i:Int) - (p.ay.getD x.2.2 0:Nat))=true)
theorem Yk(b:ByteArray){p:T}(k:0<p.ay.length):∀n r l,Ux p l->Ux p (wJ b p n r l).1
 |0,_,_,h=>h
 |n+1,r,l,h=>by
  rw[wJ];have m:=yI (b:=b) (n:=2) (r:=(num b 2 r).2) k;unfold SN
  dsimp only
  generalize (num b 2 r).1=g;generalize (below b p.ay.length 2 (num b 2 r).2).1=s at m;generalize (num b 2 (below b p.ay.length 2 (num b 2 r).2).2).1 / 4096=d;generalize (num b 2 (below b p.ay.length 2 (num b 2 r).2).2).1 % 4096=t;generalize (num b 2 (below b p.ay.length 2 (num b 2 r).2).2).2=r'
  split
  ·exact h
  ·rename_i j
   rw[ol,Bool.or_eq_false_iff,Bool.or_eq_false_iff,s7,Bool.not_eq_false']at j;refine Yk b k n r' _ ⟨by simp;omega,fun i x a=>?_⟩;rcases po i (l.length+g) with o|o
   ·rw[eC (by simp;omega)]at a
    rcases po i l.length with f|f
    ·rw[eC f]at a
     exact h.2 i x a
    ·rw[eJ f,ju]at a
     split at a
     ·cases a
      exact .inl rfl
     ·cases a
   ·rw[eJ (by simp;omega)]at a
    have e:i - (l++List.replicate g (0,0,0)).length=0:=by
     have:=(cG.1 a).1;simp at this|-;omega
    rw[e]at a;cases a;refine .inr ⟨m,?_⟩;have c:i=l.length+g:=by simp at e;omega
    rw[c];exact j.2
theorem good(b:ByteArray):uD (pack b):=by
 obtain⟨s,t,o,q⟩:=adY b;have a:=ac5 b;have c:Ux (p0 b) (pl b).1:=by
  unfold pl places;exact Yk b a.s0 _ _ _ ⟨eR _,fun i x h=>by simp at h⟩
 have f:=a.most;have n:=Sn b;have j:=ak4 b;have l:=MR b;have m:=aby b;have k:=aii b;have g:∀x∈(p0 b).aI,x<(p0 b).prods.length:=by
  rw[k];unfold p0 st
  dsimp only
  exact aaP b q.1 _ _ _ _ (by simp)
 have d:∀x∈(p0 b).prods,(p0 b).toks.length<=x.1/\x.1<(p0 b).toks.length+(p0 b).aS.length/\x.2<=1000:=by
  rw[l,m];unfold p0 pr
  dsimp only
  intro x r;exact Y8 b (nT:=(h2 b).1) (nN:=(h3 b).1) o.1 (h4 b).1 (w2 b).2 [] (by simp) x r
 unfold pack;generalize p0 b=p at a c f n j l m k g d;exact⟨⟨a.s0,a.s1,a.t1,a.n1,a.b1⟩,j.trans n.symm,by show 1<=p.toks.length;omega,by show 1<=p.aS.length;omega,⟨by show 1<=p.prods.length;omega,by show p.prods.length<=200;omega⟩,g,d,c.2,dg c.1 f⟩
end Pk
def oQ(w:World)(v:Value)(r:List Int):Prop:=∃a c,v=.slice a r.length c/\r.length<=c/\∀t(h:t<r.length),∃g o,a=some ⟨g,o,none⟩/\g<w.heap.size/\w.cell? ⟨g,o+t,none⟩=some (.int .i64 r[t])
theorem oQ.below{w w':World}{v:Value}{r:List Int}(h:oQ w v r)(d:Below w.heap.size w w'):oQ w' v r:=by
 obtain⟨a,c,h1,h2,h3⟩:=h;refine⟨a,c,h1,h2,fun t f=>?_⟩;obtain⟨g,o,h4,b,i⟩:=h3 t f;exact⟨g,o,h4,dd b d.size,(cJ (w:=w) (d.block g b)).trans i⟩
namespace Rn
structure S where
 passed:Nat
 pile:List Nat
 steps:List Int
def top(s:S):Nat:=s.pile.getD (s.pile.length-1) 0
def ahead(row:List Int)(s:S):Int:=if s.passed=row.length then 0 else if row.getD s.passed 0=0 then -1 else row.getD s.passed 0
def can(p:Pk.T)(row:List Int)(s:S)(c:Nat×Nat):Bool:=if c.1=1 then decide (s.passed<row.length) else if c.1=2 then decide ((Pk.gV p (c.2:Int)).2<s.pile.length) else false
def shift(s:S)(t:Nat):S:=⟨s.passed+1,s.pile++[t],s.steps++[-1]⟩
def less(p:Pk.T)(s:S)(k:Nat):S:={ s with pile:=s.pile.take (s.pile.length - (Pk.gV p (k:Int)).2) }
def reduce(p:Pk.T)(s:S)(k:Nat):S:=⟨s.passed,(less p s k).pile++[Pk.goto p (top (less p s k):Int) (((Pk.gV p (k:Int)).1:Int) - (p.toks.length:Int))],s.steps++[(k:Int)]⟩
def step(p:Pk.T)(s:S)(c:Nat×Nat):S:=if c.1=1 then shift s c.2 else reduce p s c.2
end Rn
def DY(n:Nat):Value:=.int .i16 (n:Int)
def Gc(n:Int):Value:=.int .i16 n
structure dF(W0:World)(B wb pb:Nat)(rv vL vS:Value)(W:World)(s:Rn.S):Prop where
 blk:aj W wb #[.pointer (some ⟨pb,0,none⟩),rv,.int .i64 (s.passed:Int),vL,vS] 64
 rL:W.ownsRow B 61 1 vL s.pile.length (s.pile.map DY)
 rS:W.ownsRow B 61 1 vS s.steps.length (s.steps.map Gc)
 ne:∀g,vL.ownBlock=some g->vS.ownBlock≠some g
 b:Below B W0 W
 hB:B=W0.heap.size
 lb:B<=wb
section
variable {W0 W:World} {B B' wb pb:Nat} {rv vL vS:Value} {s:Rn.S} {v:fV} {p:Pk.T} {row:List Int}
theorem dF.pk(h:dF W0 B wb pb rv vL vS W s)(a:aO W0 B' pb v p):aO W B' pb v p:=a.move fun k c=>h.b.block k (by rw[h.hB];exact a.lt c)
theorem dF.rz(h:dF W0 B wb pb rv vL vS W s)(a:oQ W0 rv row):oQ W rv row:=a.below (by rw[<-h.hB];exact h.b)
theorem dF.move{W':World}(h:dF W0 B wb pb rv vL vS W s)(a:Below W.heap.size W W'):dF W0 B wb pb rv vL vS W' s :=
 ⟨(a.block _ h.blk.lt).trans h.blk,aC h.rL fun g c=>a.block g (h.rL.lt g c).2,aC h.rS fun g c=>a.block g (h.rS.lt g c).2,h.ne,⟨a.1.trans h.b.1,a.2.trans h.b.2,a.3.trans h.b.3,dg h.b.4 a.4,fun k d=>(a.block k (sr (dd d h.lb) h.blk.lt)).trans (h.b.block k d)⟩,h.hB,h.lb⟩
theorem Z7(h:dF W0 B wb pb rv vL vS W s)(d:s.pile≠[])(a:∀x∈s.pile,x<300)(l:s.pile.length<=1000000000):Calls prog 52 #[.pointer (some ⟨wb,0,none⟩)] W fun e W'=>e=.returned (.int .i64 (Rn.top s:Int))/\Below W.heap.size W W':=by
 have b:0<s.pile.length:=List.length_pos_iff.2 d;obtain⟨x,hx⟩:∃x,s.pile[s.pile.length-1]?=some x:=⟨_,cF (by omega)⟩;have f:Rn.top s=x:=by unfold Rn.top;simp[hx]
 have j:=a x (cQ hx);rw[f];obtain⟨g,c,i,-,k⟩:=Fz h.rL (p:=s.pile.length-1) (u:=DY x) (by rw[dj,hx];rfl);have o:W.cell? ⟨wb,3,none⟩=some (.slice (some ⟨g,0,none⟩) s.pile.length c):=by rw[<-i];exact h.blk.cell 3
 unfold DY at k;have q:(s.pile.length:Int) - 1=((s.pile.length-1:Nat):Int):=by omega
 have n:(0:Int)<=((s.pile.length-1:Nat):Int):=by omega
 have m:((s.pile.length-1:Nat):Int)<(s.pile.length:Int):=by omega
 clear h d a f hx i;go_enter func52,ntmps52;go_upto_region 1 with fail
 go_quiet (fail)
 go_wp2_with fail;go_ret;exact⟨rfl,⟨rfl,rfl,rfl,zL0,fun _ _=>rfl⟩⟩
theorem aiC(h:dF W0 B wb pb rv vL vS W s)(j:oQ W0 rv row)(k:s.passed<=row.length):Calls prog 53 #[.pointer (some ⟨wb,0,none⟩)] W fun e W'=>e=.returned (.int .i64 (Rn.ahead row s))/\Below W.heap.size W W':=by
 obtain⟨a,c,rfl,n,b⟩:=h.rz j;have u:W.cell? ⟨wb,1,none⟩=some (.slice a row.length c):=h.blk.cell 1;have q:W.cell? ⟨wb,2,none⟩=some (.int .i64 (s.passed:Int)):=h.blk.cell 2;unfold Rn.ahead
 by_cases he:s.passed=row.length
 ·rw[de he]
  have i:((s.passed:Int) == (row.length:Int))=true:=by rw[he];exact s8 _
  clear he h;go_enter func53,ntmps53;go_upto_region 1 with fail
  go_quiet (fail)
  go_wp2_with fail;go_ret;exact⟨rfl,⟨rfl,rfl,rfl,zL0,fun _ _=>rfl⟩⟩
 ·rw[dk he]
  have d:s.passed<row.length:=by omega
  have i:((s.passed:Int) == (row.length:Int))=false:=zB0 (by omega);obtain⟨g,o,rfl,m,l⟩:=b s.passed d;have f:row.getD s.passed 0=row[s.passed]:=by rw[ed,cF d];rfl
  rw[f];generalize row[s.passed]=x at l;have y:(0:Int)<=(s.passed:Int):=by omega
  have r:(s.passed:Int)<(row.length:Int):=by omega
  clear he h b f d
  by_cases hx:x=0
  ·rw[de hx]
   subst hx;go_enter func53,ntmps53;go_upto_region 1 with fail
   go_quiet (fail)
   go_upto_region 3 with fail
   go_quiet (fail)
   go_wp2_with fail;go_ret;exact⟨rfl,⟨rfl,rfl,rfl,zL0,fun _ _=>rfl⟩⟩
  ·rw[dk hx]
   have t:(x == 0)=false:=iS.2 hx;go_enter func53,ntmps53;go_upto_region 1 with fail
   go_quiet (fail)
   go_upto_region 3 with fail
   go_quiet (fail)
   go_upto_region 5 with fail
   go_quiet (fail)
   go_wp2_with fail;go_ret;exact⟨rfl,⟨rfl,rfl,rfl,zL0,fun _ _=>rfl⟩⟩
theorem alp(h:dF W0 B wb pb rv vL vS W s)(F:oQ W0 rv row)(L:aO W0 B' pb v p)(c:Nat×Nat):Calls prog 54 #[.pointer (some ⟨wb,0,none⟩),.agg #[.int .i64 (c.1:Int),.int .i64 (c.2:Int)]] W fun e W'=>e=.returned (.bool (Rn.can p row s c))/\Below W.heap.size W W':=by
 obtain⟨a,K,H,-,-⟩:=F;obtain⟨E,t,x,-⟩:=aB h.rL;obtain⟨n,j⟩:∃b,W.heap.size=b:=⟨_,rfl⟩;obtain⟨w1,f⟩:∃V,V=W.alloc (.cells #[.int .i64 (c.1:Int),.int .i64 (c.2:Int)] 42):=⟨_,rfl⟩;have d:Below n W w1:=by rw[f,<-j];exact(cV _ _).alloc (zL0) _
 have l:aj w1 n #[.int .i64 (c.1:Int),.int .i64 (c.2:Int)] 42:=by rw[f,<-j];exact aj.new ..
 have h1:=h.move (W':=w1) (by rw[j];exact d);have P:w1.cell? ⟨wb,0,none⟩=some (.pointer (some ⟨pb,0,none⟩)):=h1.blk.cell 0;have U:w1.cell? ⟨wb,1,none⟩=some (.slice a row.length K):=by rw[<-H];exact h1.blk.cell 1
 have M:w1.cell? ⟨wb,2,none⟩=some (.int .i64 (s.passed:Int)):=h1.blk.cell 2;have R:w1.cell? ⟨wb,3,none⟩=some (.slice E s.pile.length t):=by rw[<-x];exact h1.blk.cell 3
 have N:w1.cell? ⟨n,0,none⟩=some (.int .i64 (c.1:Int)):=l.cell 0;have Q:w1.cell? ⟨n,1,none⟩=some (.int .i64 (c.2:Int)):=l.cell 1;have z:Hid (∀A,Below n W (w1.drewN A)):=fun A=>⟨d.1,d.2,d.3,d.4,d.5⟩
 obtain⟨o,g⟩:∃o,Rn.can p row s c=o:=⟨_,rfl⟩;rw[j,g];unfold Rn.can at g
 by_cases h1c:c.1=1
 ·rw[de h1c]at g
  have I:((c.1:Int) == 1)=true:=by rw[h1c];rfl
  have q:Hid (decide (s.passed<row.length)=o):=g;clear h h1 d l h1c g;go_enter func54,ntmps54;go_upto_region 1 with fail
  rw[<-f];clear f;go_upto_region 3 with fail
  go_quiet (fail)
  go_wp2_with fail;go_ret;exact⟨iN q.out,z.out _⟩
 ·rw[dk h1c]at g
  have I:((c.1:Int) == 1)=false:=zB0 (by omega)
  by_cases CO:c.1=2
  ·rw[de CO]at g
   have J:((c.1:Int) == 2)=true:=by rw[CO];rfl
   have D:=RY (w:=w1.drew) ((h1.pk L).move fun _ _=>rfl) (c.2:Int);obtain⟨y,u⟩:∃y,Pk.gV p (c.2:Int)=y:=⟨_,rfl⟩;rw[u]at g D;have G:Hid (∀w2,Below w1.heap.size w1 w2->w2.cell? ⟨wb,3,none⟩=some (.slice E s.pile.length t)/\Below n W w2):=fun w2 m=>⟨by rw[<-x];exact(h1.move m).blk.cell 3,⟨m.1.trans d.1,m.2.trans d.2,m.3.trans d.3,dg d.4 m.4,fun k C=>(m.block k (sr C l.lt)).trans (d.block k C)⟩⟩
   have q:Hid (decide (y.2<s.pile.length)=o):=g;clear h h1 d l h1c CO g u;go_enter func54,ntmps54;go_upto_region 1 with fail
   rw[<-f];clear f;go_upto_region 5 with fail
   go_region_law (refine fP rfl 17 #[.pointer (some ⟨pb,0,none⟩),.int .i64 (c.2:Int)] (by go_simp) D ?_;rintro e w2⟨rfl,i⟩;refine⟨_,rfl,?_⟩)
   all_goals
    obtain⟨O,r⟩:=G.out w2 ⟨i.1,i.2,i.3,i.4,i.5⟩;go_wp2_with fail;go_ret;exact⟨iN q.out,r⟩
  ·rw[dk CO]at g
   have J:((c.1:Int) == 2)=false:=zB0 (by omega);subst g;clear h h1 d l;go_enter func54,ntmps54;go_upto_region 1 with fail
   rw[<-f];clear f;go_wp2_with fail;go_ret;exact⟨rfl,z.out 0⟩
end
theorem Tryz.al8:(prog.info? 61).map (fun i=>(i.zero,i.size,i.bytes))=some (some (.int .i16 0),1,2):=by kernel_rfl
theorem Tryz.adb:prog.underlying 62=some (.slice 61):=by kernel_rfl
theorem heap_set{W:World}{g i:Nat}{u:Value}{k:Nat}(h:k≠g):(W.setCell ⟨g,i,none⟩ u).heap[k]?=W.heap[k]?:=zS0 h
section
variable {W0 W W':World} {B B' wb pb:Nat} {rv vL vS x:Value} {s:Rn.S} {v:fV} {p:Pk.T} {row:List Int}
theorem dF.kw(h:dF W0 B wb pb rv vL vS W s):Kd W wb 64:=⟨_,h.blk⟩
theorem dF.kL(h:dF W0 B wb pb rv vL vS W s){g:Nat}(a:vL.ownBlock=some g):Kd W g 61:=eU h.rL a
theorem dF.kS(h:dF W0 B wb pb rv vL vS W s){g:Nat}(a:vS.ownBlock=some g):Kd W g 61:=eU h.rS a
theorem dF.size(h:dF W0 B wb pb rv vL vS W s):B<=W.heap.size:=dg h.lb (lh h.blk.lt)
theorem dF.JX(h:dF W0 B wb pb rv vL vS W s){l:List Nat}(c:W.grownBy W' vL.ownBlock)(f:W'.ownsRow B 61 1 x l.length (l.map DY))(a:x.ownBlock=vL.ownBlock\/∃g,x.ownBlock=some g/\W.heap.size<=g):dF W0 B wb pb rv x vS (W'.setCell ⟨wb,3,none⟩ x) { s with pile:=l } where
 blk:=by
  have:aj W' wb _ 64:=(c.block wb h.kw.lt fun e=>h.kw.ne (h.kL e.symm) (by decide) rfl).trans h.blk;exact this.set 3 x
 rL:=aC f fun g e=>heap_set ((show Kd W' g 61 from eU f e).ne (show Kd W' wb 64 from ⟨_,(c.block wb h.kw.lt fun e=>h.kw.ne (h.kL e.symm) (by decide) rfl).trans h.blk⟩) (by decide))
 rS:=aC h.rS fun g e=>(heap_set ((h.kS e).ne h.kw (by decide))).trans (c.block g (h.kS e).lt fun d=>h.ne g d.symm e)
 ne g e:=by
  rcases a with a|⟨k,a,i⟩
  ·exact h.ne g (a▸e)
  ·rw[a]at e
   cases e;intro d;have:=(h.kS d).lt;omega
 b:=mq (uK h.b h.size c fun k e=>(h.rL.lt k e).1) h.lb
 hB:=h.hB
 lb:=h.lb
theorem dF.Gb(h:dF W0 B wb pb rv vL vS W s){l:List Int}(c:W.grownBy W' vS.ownBlock)(f:W'.ownsRow B 61 1 x l.length (l.map Gc))(a:x.ownBlock=vS.ownBlock\/∃g,x.ownBlock=some g/\W.heap.size<=g):dF W0 B wb pb rv vL x (W'.setCell ⟨wb,4,none⟩ x) { s with steps:=l } where
 blk:=by
  have:aj W' wb _ 64:=(c.block wb h.kw.lt fun e=>h.kw.ne (h.kS e.symm) (by decide) rfl).trans h.blk;exact this.set 4 x
 rS:=aC f fun g e=>heap_set ((show Kd W' g 61 from eU f e).ne (show Kd W' wb 64 from ⟨_,(c.block wb h.kw.lt fun e=>h.kw.ne (h.kS e.symm) (by decide) rfl).trans h.blk⟩) (by decide))
 rL:=aC h.rL fun g e=>(heap_set ((h.kL e).ne h.kw (by decide))).trans (c.block g (h.kL e).lt fun d=>h.ne g e d.symm)
 ne g e:=by
  rcases a with a|⟨k,a,i⟩
  ·rw[a]
   exact h.ne g e
  ·rw[a]
   intro d;cases d;have:=(h.kL e).lt;omega
 b:=mq (uK h.b h.size c fun k e=>(h.rS.lt k e).1) h.lb
 hB:=h.hB
 lb:=h.lb
theorem aaQ(h:dF W0 B wb pb rv vL vS W s){t:Nat}{k:Int}(ht:t<300)(hk:-1<=k/\k<300)(L:s.pile.length<=1000000000/\s.steps.length<=1000000000):Calls prog 87 #[.pointer (some ⟨wb,0,none⟩),.int .i64 (t:Int),.int .i64 k] W fun e W'=>e=.returned (.tuple #[])/\∃ig rC,dF W0 B wb pb rv ig rC W' { s with pile:=s.pile++[t],steps:=s.steps++[k] }:=by
 obtain⟨O,u,D,q,z⟩:=fd Tryz.al8;obtain⟨i,f,rfl,-⟩:=aB h.rL;obtain⟨a,b,rfl,-⟩:=aB h.rS;have Y:W.cell? ⟨wb,3,none⟩=some (.slice i s.pile.length f):=h.blk.cell 3;have ew:IntKind.i16.wrap (t:Int)=(t:Int):=by simp[IntKind.wrap,IntKind.bits,IntKind.signed];omega
 have ek:IntKind.i16.wrap k=k:=by simp[IntKind.wrap,IntKind.bits,IntKind.signed];omega
 have E:(W.alloc (.cells #[.int .i16 (t:Int)] 61)).ownsRow B 61 1 (.slice i s.pile.length f) s.pile.length (s.pile.map DY):=h.rL.alloc _;have F:aj (W.alloc (.cells #[.int .i16 (t:Int)] 61)) wb #[.pointer (some ⟨pb,0,none⟩),rv,.int .i64 (s.passed:Int),.slice i s.pile.length f,.slice a s.steps.length b] 64:=h.blk.alloc _;have c:B<=(W.alloc (.cells #[.int .i16 (t:Int)] 61)).heap.size:=dg h.size (aX W _ none).size;have d:(Value.slice i s.pile.length f).ownBlock≠some wb:=fun e=>(h.kL e).ne h.kw (by decide) rfl
 have X:=L.1;have Q:=L.2;go_enter func87,ntmps87;go_upto_region 1 with (at_builtin;refine ge _ rfl _ _ 62 rfl B 61 O _ 1 2 Tryz.adb u D q z rfl (by decide) (.slice i s.pile.length f) s.pile.length (s.pile.map DY) rfl E ⟨W.heap.size,0,none⟩ 1 1 [.int .i16 (t:Int)] rfl rfl (dI (aj.new W #[.int .i16 (t:Int)] 61)) (by simp[Value.oneCell']) (by unfold maxLen;omega) (by omega) c ?_;intro v2 w2 j m _ r;obtain⟨n,o,rfl,-⟩:=aB j;have G:=F.grown m (fun e=>d e.symm);have R:w2.cell? ⟨wb,3,none⟩=some (.slice i s.pile.length f):=G.cell 3;have P:=G.frozen 3)
 have y:W.grownBy w2 (Value.slice i s.pile.length f).ownBlock:=aL (aX W _ _) m;have A:(Value.slice n (s.pile.length+1) o).ownBlock=(Value.slice i s.pile.length f).ownBlock\/∃g,(Value.slice n (s.pile.length+1) o).ownBlock=some g/\W.heap.size<=g:=r.imp id fun e=>⟨_,e,(aX W _ none).size⟩
 have h2:dF W0 B wb pb rv (.slice n (s.pile.length+1) o) (.slice a s.steps.length b) (w2.setCell ⟨wb,3,none⟩ (.slice n (s.pile.length+1) o)) { s with pile:=s.pile++[t] }:=h.JX (l:=s.pile++[t]) y (by rw[ei,cH];exact j) A;clear y A r j m G R P F E c d Y h;generalize w2.setCell ⟨wb,3,none⟩ (.slice n (s.pile.length+1) o)=w3 at h2|-;generalize Value.slice n (s.pile.length+1) o=vL at h2|-;have c4:w3.cell? ⟨wb,4,none⟩=some (.slice a s.steps.length b):=h2.blk.cell 4;have E:(w3.alloc (.cells #[.int .i16 k] 61)).ownsRow B 61 1 (.slice a s.steps.length b) s.steps.length (s.steps.map Gc):=h2.rS.alloc _;have F:aj (w3.alloc (.cells #[.int .i16 k] 61)) wb #[.pointer (some ⟨pb,0,none⟩),rv,.int .i64 (s.passed:Int),vL,.slice a s.steps.length b] 64:=h2.blk.alloc _;have c:B<=(w3.alloc (.cells #[.int .i16 k] 61)).heap.size:=dg h2.size (aX w3 _ none).size;have d:(Value.slice a s.steps.length b).ownBlock≠some wb:=fun e=>(h2.kS e).ne h2.kw (by decide) rfl
 go_wp2_with (at_builtin;refine ge _ rfl _ _ 62 rfl B 61 O _ 1 2 Tryz.adb u D q z rfl (by decide) (.slice a s.steps.length b) s.steps.length (s.steps.map Gc) rfl E ⟨w3.heap.size,0,none⟩ 1 1 [.int .i16 k] rfl rfl (dI (aj.new w3 #[.int .i16 k] 61)) (by simp[Value.oneCell']) (by unfold maxLen;omega) (by omega) c ?_;intro v4 N M C _ U;obtain⟨J,I,rfl,-⟩:=aB M;have K:=F.grown C (fun e=>d e.symm);have Z:N.cell? ⟨wb,4,none⟩=some (.slice a s.steps.length b):=K.cell 4;have f4:=K.frozen 4)
 go_end0
 have V:w3.grownBy N (Value.slice a s.steps.length b).ownBlock:=aL (aX w3 _ _) C;have H:(Value.slice J (s.steps.length+1) I).ownBlock=(Value.slice a s.steps.length b).ownBlock\/∃g,(Value.slice J (s.steps.length+1) I).ownBlock=some g/\w3.heap.size<=g:=U.imp id fun e=>⟨_,e,(aX w3 _ none).size⟩
 exact⟨rfl,_,_,h2.Gb (l:=s.steps++[k]) V (by rw[ei,cH];exact M) H⟩
end
end Go.Proofs.YtagkodkijkpemaaGreatDoor

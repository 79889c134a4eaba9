import Derived.Test.YtagkodkijkpemaaGreatDoorQA10
import Derived.Shelf.Strconv.AppendIntPublic10
import Derived.Shelf.SlSortCmp.WholeK
import Derived.Lib.ItoaLen
set_option maxHeartbeats 8000000
set_option maxRecDepth 1000000
namespace Go.Proofs.YtagkodkijkpemaaGreatDoor
open Lx Go.Proofs.Tryz
open Go.RowKit Tr
structure uI(p:Pk.T):Prop where
 bd:GJ p
 dl:p.aH.length=p.aB.length
 t0:1<=p.toks.length
 n0:1<=p.aN.length
 p0:1<=p.prods.length/\p.prods.length<=200
 df:∀x∈p.aH,x<p.prods.length
 pr:∀x∈p.prods,p.toks.length<=x.1/\x.1<p.toks.length+p.aN.length/\x.2<=1000
 pl:∀(i:Nat)x,p.ak[i]?=some x->x=(0,0,0)\/(x.2.2<p.aB.length/\Pk.yZ p x.1 x.2.1 ((i:Int) - (p.aB.getD x.2.2 0:Nat))=true)
 pm:p.ak.length<=600000
theorem ah6{fn:Func}{a b c d:Tmp}(h:fn.results=#[.tmp a,.tmp b,.tmp c,.tmp d])(tmps:Array Value)(P:Program)(w:World):(results fn tmps).run P w=.ok (.tuple #[tmps.getD a undef,tmps.getD b undef,tmps.getD c undef,tmps.getD d undef]) w:=by simp[results,h]
section
variable{w:World}{B pb:Nat}{v:gG}{p:Pk.T}
theorem uI.aB(h:uI p)(q:Nat):p.aB.getD q 0<16777216:=by
 rw[ej];cases e:p.aB[q]? with
 |none=>decide
 |some x=>exact h.bd.b1 x (cJ e)
theorem aaP(h:aT w B pb v p):Calls prog 14 #[.pointer (some ⟨pb,0,none⟩)] w fun e w'=>e=.returned (.tuple #[.int .i64 (p.aH.length:Int),.int .i64 (p.toks.length:Int),.int .i64 (p.aN.length:Int),.int .i64 (p.prods.length:Int)])/\Below w.heap.size w w':=by
 obtain⟨-,-,⟨d,g,k⟩,⟨c,b,i⟩,⟨j,f,m⟩,⟨l,n,a⟩⟩:=h.cell;go_enter func14,ntmps14;go_upto_region 1 with fail
 go_quiet (fail)
 go_wp2_with fail;refine fy (ah6 rfl _ _ _) rfl ⟨rfl,⟨rfl,rfl,rfl,zL0,fun _ _=>rfl⟩⟩
theorem akU(h:aT w B pb v p)(i:Int):Calls prog 17 #[.pointer (some ⟨pb,0,none⟩),.int .i64 i] w fun e w'=>e=.returned (.tuple #[.int .i64 ((Pk.jR p i).1:Int),.int .i64 ((Pk.jR p i).2:Int)])/\Below w.heap.size w w':=by
 obtain⟨j,g,d,-⟩:=aC h.rR;have n:w.cell? ⟨pb,4,none⟩=some (.slice j p.prods.length g):=by rw[<-d];exact h.blk.cell 4
 have c:=ai5 h i;rw[d]at c;obtain⟨x,f⟩:∃x,Pk.jR p i=x:=⟨_,rfl⟩;rw[f]at c|-;clear d f h;go_enter func17,ntmps17;go_upto_region 2 with (go_at_call 34;refine c.mono ?_;rintro e w1⟨rfl,b⟩)
 have k:aj (w1.alloc (.cells #[.int .i64 (x.1:Int),.int .i64 (x.2:Int)] 81)) w1.heap.size #[.int .i64 (x.1:Int),.int .i64 (x.2:Int)] 81:=aj.new ..;have a:=b.alloc b.size (.cells #[.int .i64 (x.1:Int),.int .i64 (x.2:Int)] 81);generalize w1.alloc (.cells #[.int .i64 (x.1:Int),.int .i64 (x.2:Int)] 81)=w2 at k a|-;have m:w2.cell? ⟨w1.heap.size,0,none⟩=some (.int .i64 (x.1:Int)):=k.cell 0;have l:w2.cell? ⟨w1.heap.size,1,none⟩=some (.int .i64 (x.2:Int)):=k.cell 1
 go_quiet (fail)
 go_wp2_with fail
 go_ret2
 exact⟨rfl,⟨a.1,a.2,a.3,a.4,a.5⟩⟩
theorem ZJ(h:aT w B pb v p)(J:uI p)(q n:Int):Calls prog 15 #[.pointer (some ⟨pb,0,none⟩),.int .i64 q,.int .i64 n] w fun e w'=>e=.returned (.agg #[.int .i64 ((Pk.act p q n).1:Int),.int .i64 ((Pk.act p q n).2:Int)])/\Below w.heap.size w w':=by
 obtain⟨d,l⟩:∃r,w.heap.size=r:=⟨_,rfl⟩;obtain⟨w1,g⟩:∃V,V=w.alloc (.cells #[.int .i64 0,.int .i64 0] 42):=⟨_,rfl⟩;have f:Below d w w1:=by rw[g,<-l];exact(cV _ _).alloc (zL0) _
 have kR:aj w1 d #[.int .i64 0,.int .i64 0] 42:=by rw[g,<-l];exact aj.new ..
 have h1:aT w1 B pb v p:=h.move fun k D=>f.block k (by rw[<-l];exact h.lt D)
 obtain⟨-,-,⟨a2,O,c2⟩,-,-,⟨a5,k5,L⟩⟩:=h1.cell;have z:=fun w=>Aa (w:=w) q p.aH.length
 have E:=fun w=>Aa (w:=w) n p.toks.length
 have N:w1.cell? ⟨d,0,none⟩=some (.int .i64 0):=kR.cell 0;have Q:w1.cell? ⟨d,1,none⟩=some (.int .i64 0):=kR.cell 1;have R:=kR.frozen 0;have U:=kR.frozen 1;have I:Hid (∀(w2:World)(a b:Value),Below w1.heap.size w1 w2->aj ((w2.setCell ⟨d,0,none⟩ a).setCell ⟨d,1,none⟩ b) d #[a,b] 42/\Below d w ((w2.setCell ⟨d,0,none⟩ a).setCell ⟨d,1,none⟩ b)):=fun w2 a b j=>by
  have O:aj w2 d #[.int .i64 0,.int .i64 0] 42:=(j.block _ kR.lt).trans kR;refine⟨(O.set 0 a).set 1 b,Bv (Bv ⟨j.1.trans f.1,j.2.trans f.2,j.3.trans f.3,de f.4 j.4,fun k D=>(j.block k (yz D kR.lt)).trans (f.block k D)⟩ (zL0)) (zL0)⟩
 obtain⟨o,c⟩:∃o,Pk.act p q n=o:=⟨_,rfl⟩;rw[l,c];unfold Pk.act at c
 by_cases hq:Pk.within q p.aH.length=true
 ·rw[hq]at c
  simp only[hq]at z
  by_cases hn:Pk.within n p.toks.length=true
  ·rw[hn]at c
   simp only[hn]at E;rw[dj (show (true && true)=true from rfl)]at c;obtain⟨j0,j1⟩:=within_iff.1 hq;obtain⟨i0,i1⟩:=within_iff.1 hn;obtain⟨C,rfl⟩:∃m:Nat,q=(m:Int):=⟨q.toNat,by omega⟩;obtain⟨M,rfl⟩:∃m:Nat,n=(m:Int):=⟨n.toNat,by omega⟩;rw[im,im]at c;have S:C<p.aH.length:=by omega
   obtain⟨y,P⟩:∃y,p.aH[C]?=some y:=⟨_,cF S⟩;have W:p.aH.getD C 0=y:=by simp[P]
   rw[W]at c;have K:=abF h1 (q:=C) (s:=M) (by rw[<-J.dl];exact S) (by have:=J.aB C;have:=J.bd.t1;omega);obtain⟨x,X⟩:∃x,Pk.cell p C M=x:=⟨_,rfl⟩;rw[X]at c K;have Y:Hid (∀w2,Below w1.heap.size w1 w2->aT w2 B pb v p/\aj w2 d #[.int .i64 0,.int .i64 0] 42):=fun w2 j=>⟨h1.move fun k D=>j.block k (h1.lt D),(j.block _ kR.lt).trans kR⟩
   clear h h1 f kR X W;go_enter func15,ntmps15;go_upto_region 1 with fail
   rw[<-g];clear g;go_upto_region 3 with (first
    | (go_at_call 32;refine(z _).mono ?_;rintro e w1⟨rfl,rfl⟩;clear z)
    | (go_at_call 32;refine(E _).mono ?_;rintro e w1⟨rfl,rfl⟩;clear E))
   clear c2 L N Q R U;go_upto_region 4 with (go_at_call 33;refine K.mono ?_;rintro e w2⟨rfl,t⟩)
   have G:aj (w2.alloc (.cells #[.int .i64 (x.1:Int),.int .i64 (x.2:Int)] 42)) w2.heap.size #[.int .i64 (x.1:Int),.int .i64 (x.2:Int)] 42:=aj.new ..;have i:=t.alloc t.size (.cells #[.int .i64 (x.1:Int),.int .i64 (x.2:Int)] 42);generalize w2.alloc (.cells #[.int .i64 (x.1:Int),.int .i64 (x.2:Int)] 42)=w3 at G i|-;generalize w2.heap.size=bt at G|-;obtain⟨h3,kr⟩:=Y.out w3 i;obtain⟨gD,cD,H,-,cy⟩:=Nw h3.rD (p:=C) (u:=fG y) (by rw[di,P];rfl);have L:w3.cell? ⟨pb,5,none⟩=some (.slice (some ⟨gD,0,none⟩) p.aH.length cD):=by rw[<-H];exact h3.blk.cell 5
   unfold fG at cy;have y0:w3.cell? ⟨bt,0,none⟩=some (.int .i64 (x.1:Int)):=G.cell 0;have y1:w3.cell? ⟨bt,1,none⟩=some (.int .i64 (x.2:Int)):=G.cell 1;have N:w3.cell? ⟨d,0,none⟩=some (.int .i64 0):=kr.cell 0;have Q:w3.cell? ⟨d,1,none⟩=some (.int .i64 0):=kr.cell 1;have R:=kr.frozen 0;have U:=kr.frozen 1;have F:Hid (∀a b:Value,aj ((w3.setCell ⟨d,0,none⟩ a).setCell ⟨d,1,none⟩ b) d #[a,b] 42/\Below d w ((w3.setCell ⟨d,0,none⟩ a).setCell ⟨d,1,none⟩ b)):=fun a b=>I.out w3 a b i
   clear I Y h3 kr G H i t K
   by_cases hx0:x.1=0
   ·have Z:((x.1:Int) == 0)=true:=by rw[hx0];rfl
    by_cases hy0:y=0
    ·have b2:((y:Int) != 0)=false:=by rw[hy0];rfl
     have b3:(y:Int)=0:=by omega
     rw[dt (fun e=>e.2 hy0)]at c;subst c;clear hx0 hy0;go_wp2_with fail;exact pR rfl rfl (F.out _ _).1 (by kernel_rfl) (by kernel_rfl) ⟨rfl,(F.out _ _).2⟩
    ·have b2:((y:Int) != 0)=true:=lh.2 (by omega)
     have b3:¬(y:Int)=0:=by omega
     rw[dj ⟨hx0,hy0⟩]at c;subst c;clear hx0 hy0;go_wp2_with fail;exact pR rfl rfl (F.out _ _).1 (by kernel_rfl) (by kernel_rfl) ⟨rfl,(F.out _ _).2⟩
   ·have Z:((x.1:Int) == 0)=false:=zB0 (by omega)
    rw[dt (fun e=>hx0 e.1)]at c;subst c;go_wp2_with fail;exact pR rfl rfl (F.out _ _).1 (by kernel_rfl) (by kernel_rfl) ⟨rfl,(F.out _ _).2⟩
  ·rw[oY]at hn
   rw[hn]at c;simp only[hn]at E;have A:o=(0,0):=by rw[<-c];rfl
   clear h h1 f kR;go_enter func15,ntmps15;go_upto_region 1 with fail
   rw[<-g];clear g c
   go_wp2_with (first
    | (go_at_call 32;refine(z _).mono ?_;rintro e w1⟨rfl,rfl⟩;clear z)
    | (go_at_call 32;refine(E _).mono ?_;rintro e w1⟨rfl,rfl⟩;clear E))
   have:=I.out w1 (.int .i64 0) (.int .i64 0) (cV _ _);exact pR rfl rfl this.1 (by kernel_rfl) (by kernel_rfl) ⟨by rw[A];rfl,this.2⟩
 ·rw[oY]at hq
  rw[hq]at c;simp only[hq]at z;have A:o=(0,0):=by rw[<-c];rfl
  clear h h1 f kR;go_enter func15,ntmps15;go_upto_region 1 with fail
  rw[<-g];clear g c
  go_wp2_with (go_at_call 32;refine(z _).mono ?_;rintro e w1⟨rfl,rfl⟩)
  have:=I.out w1 (.int .i64 0) (.int .i64 0) (cV _ _);exact pR rfl rfl this.1 (by kernel_rfl) (by kernel_rfl) ⟨by rw[A];rfl,this.2⟩
theorem akV(h:aT w B pb v p)(j:uI p)(q n:Int):Calls prog 16 #[.pointer (some ⟨pb,0,none⟩),.int .i64 q,.int .i64 n] w fun e w'=>e=.returned (.int .i64 (Pk.goto p q n:Int))/\Below w.heap.size w w':=by
 obtain⟨-,-,⟨C,H,P⟩,⟨G,M,I⟩,-,⟨L,E,A⟩⟩:=h.cell;have d:=fun w=>Aa (w:=w) q p.aH.length
 have f:=fun w=>Aa (w:=w) n p.aN.length
 obtain⟨o,b⟩:∃o,Pk.goto p q n=o:=⟨_,rfl⟩;rw[b];unfold Pk.goto at b
 by_cases hq:Pk.within q p.aH.length=true
 ·rw[hq]at b
  simp only[hq]at d
  by_cases hn:Pk.within n p.aN.length=true
  ·rw[hn]at b
   simp only[hn]at f;rw[dj (show (true && true)=true from rfl)]at b;obtain⟨N,O⟩:=within_iff.1 hq;obtain⟨D,J⟩:=within_iff.1 hn;obtain⟨k,rfl⟩:∃m:Nat,q=(m:Int):=⟨q.toNat,by omega⟩;obtain⟨i,rfl⟩:∃m:Nat,n=(m:Int):=⟨n.toNat,by omega⟩;rw[im,im]at b;have z:=j.bd.n1;have y:=j.bd.t1;have u:k<p.aB.length:=by rw[<-j.dl];omega
   have l:∀t,_:=fun t=>abF (w:=w.drewN t) (h.move fun _ _=>rfl) (q:=k) (s:=p.toks.length+i) u (by have:=j.aB k;omega)
   simp only[Int.natCast_add]at l;obtain⟨x,r⟩:∃x,Pk.cell p k (p.toks.length+i)=x:=⟨_,rfl⟩;rw[r]at b;simp only[r]at l;have F:IntKind.i64.wrap ((p.toks.length:Int)+(i:Int))=(p.toks.length:Int)+(i:Int):=by rw[iz];omega
   subst b;clear h r u;go_enter func16,ntmps16;go_upto_region 3 with (first
    | (go_at_call 32;refine(d _).mono ?_;rintro e w⟨rfl,rfl⟩;clear d)
    | (go_at_call 32;refine(f _).mono ?_;rintro e w⟨rfl,rfl⟩;clear f))
   refine(sq (n:=9)).1 ?_;refine qp 11 (by kernel_rfl) (by kernel_rfl) (by kernel_rfl) ?_
   dsimp only[List.take,List.drop,List.length]
   repeat (gi_big_quiet_step (fail))
   refine wpQuietIn_nil ?_;rintro _⟨K,rfl⟩;refine wpAnyIn_ready (rs:=[11]) (by kernel_rfl) (by simp) (AllReadyIn.cons rfl (fun g a=>?_) AllReadyIn.nil)
   go_simp
   refine⟨trivial,(ij.2 (l _)).mono ?_⟩;rintro e w2⟨rfl,c⟩;refine a _ _ ?_;clear a g;refine wpAnyIn_ready (rs:=[12]) (by kernel_rfl) (by simp) (AllReadyIn.cons rfl (fun g a=>?_) AllReadyIn.nil)
   go_simp
   refine a _ _ ?_;clear a g;refine wpAnyIn_ready (rs:=[13]) (by kernel_rfl) (by simp) (AllReadyIn.cons rfl (fun g a=>?_) AllReadyIn.nil)
   go_simp
   refine a _ _ (wpAnyIn_done (by kernel_rfl) ?_ _);clear a g;go_wp2_with fail;go_ret;exact⟨rfl,⟨c.1,c.2,c.3,c.4,c.5⟩⟩
  ·rw[oY]at hn
   rw[hn]at b;simp only[hn]at f;obtain rfl:o=0:=by rw[<-b];rfl
   clear h b;go_enter func16,ntmps16
   go_wp2_with (first
    | (go_at_call 32;refine(d _).mono ?_;rintro e w⟨rfl,rfl⟩;clear d)
    | (go_at_call 32;refine(f _).mono ?_;rintro e w⟨rfl,rfl⟩;clear f))
   go_ret;exact⟨rfl,cV _ _⟩
 ·rw[oY]at hq
  rw[hq]at b;simp only[hq]at d;obtain rfl:o=0:=by rw[<-b];rfl
  clear h b;go_enter func16,ntmps16
  go_wp2_with (go_at_call 32;refine(d _).mono ?_;rintro e w⟨rfl,rfl⟩)
  go_ret;exact⟨rfl,cV _ _⟩
theorem abG(w:World)(i:pE w)(f:0<w.heap.size)(b:ByteArray)(d:b.size<=281474976710656):Calls prog 5 #[.string b] w fun e w'=>(Pk.ok b=false/\e=.returned (.tuple #[.pointer none,.int .i64 10])/\Below w.heap.size w w')\/(Pk.ok b=true/\∃pb v,e=.returned (.tuple #[.pointer (some ⟨pb,0,none⟩),.int .i64 0])/\Below w.heap.size w w'/\aT w' w.heap.size pb v (Pk.pack b)/\w.heap.size<=pb):=by
 have c:=akg w i f b d;cases hok:Pk.ok b with
 |false=>
  rw[hok]at c;go_enter func5,ntmps5
  go_wp2_with (go_at_call 13;refine c.mono ?_;rintro e w1⟨g,pb,v,rfl,a⟩)
  go_ret2
  exact .inl ⟨trivial,rfl,a.b⟩
 |true=>
  rw[hok]at c;go_enter func5,ntmps5
  go_wp2_with (go_at_call 13;refine c.mono ?_;rintro e w1⟨g,pb,v,rfl,a⟩)
  go_ret2
  exact .inr ⟨trivial,pb,v,rfl,a.b,a.p,a.pb⟩
end
namespace Pk
theorem abH(b:ByteArray){nP:Nat}(c:0<nP):∀n r l m,(∀x∈l,x<nP)->∀x∈(qW b nP n r l m).1,x<nP
 |0,_,_,_,h=>h
 |n+1,r,l,m,h=>by
  rw[qW];refine abH b c n _ _ _ fun x a=>?_
  rcases cY.1 a with a|a
  ·exact h x a
  ·rw[cN]at a
   subst a;exact yL c
theorem ZK(b:ByteArray){nT nN:Nat}(c:0<nN):∀n r l,(∀x∈l,nT<=x.1/\x.1<nT+nN/\x.2<=1000)->∀x∈(uO b nT nN n r l).1,nT<=x.1/\x.1<nT+nN/\x.2<=1000
 |0,_,_,h=>h
 |n+1,r,l,h=>by
  rw[uO];refine ZK b c n _ _ fun x a=>?_
  rcases cY.1 a with a|a
  ·exact h x a
  ·rw[cN]at a
   subst a;have h1:=yL (b:=b) (n:=2) (r:=r) c;have h2:=yL (b:=b) (m:=1001) (n:=2) (r:=(below b nN 2 r).2) (by decide);refine⟨Nat.le_add_right _ _,Nat.add_lt_add_left h1 _,Nat.le_of_lt_succ h2⟩
def U2(p:T)(l:List (Nat×Nat×Nat)):Prop:=l.length<=most p/\∀(i:Nat)x,l[i]?=some x->x=(0,0,0)\/(x.2.2<p.aB.length/\yZ p x.1 x.2.1 ((i:Int) - (p.aB.getD x.2.2 0:Nat))=true)
theorem YU(b:ByteArray){p:T}(j:0<p.aB.length):∀n r l,U2 p l->U2 p (wN b p n r l).1
 |0,_,_,h=>h
 |n+1,r,l,h=>by
  rw[wN];have m:=yL (b:=b) (n:=2) (r:=(num b 2 r).2) j;unfold Tv
  dsimp only
  generalize (num b 2 r).1=g;generalize (below b p.aB.length 2 (num b 2 r).2).1=s at m;generalize (num b 2 (below b p.aB.length 2 (num b 2 r).2).2).1 / 4096=d;generalize (num b 2 (below b p.aB.length 2 (num b 2 r).2).2).1 % 4096=t;generalize (num b 2 (below b p.aB.length 2 (num b 2 r).2).2).2=r'
  split
  ·exact h
  ·rename_i k
   rw[oY,Bool.or_eq_false_iff,Bool.or_eq_false_iff,tv,Bool.not_eq_false']at k;refine YU b j n r' _ ⟨by simp;omega,fun i x a=>?_⟩;rcases pt i (l.length+g) with o|o
   ·rw[eL (by simp;omega)]at a
    rcases pt i l.length with f|f
    ·rw[eL f]at a
     exact h.2 i x a
    ·rw[eN f,jn]at a
     split at a
     ·cases a
      exact .inl rfl
     ·cases a
   ·rw[eN (by simp;omega)]at a
    have e:i - (l++List.replicate g (0,0,0)).length=0:=by
     have:=(cG.1 a).1;simp at this|-;omega
    rw[e]at a;cases a;refine .inr ⟨m,?_⟩;have c:i=l.length+g:=by simp at e;omega
    rw[c];exact k.2
theorem good(b:ByteArray):uI (pack b):=by
 obtain⟨s,t,o,q⟩:=aeL b;have a:=adX b;have c:U2 (p0 b) (pl b).1:=by
  unfold pl places;exact YU b a.s0 _ _ _ ⟨ff _,fun i x h=>by simp at h⟩
 have n:=a.most;have f:=SL b;have l:=alS b;have g:=M6 b;have j:=acn b;have d:=ai3 b;have k:∀x∈(p0 b).aH,x<(p0 b).prods.length:=by
  rw[d];unfold p0 st
  dsimp only
  exact abH b q.1 _ _ _ _ (by simp)
 have m:∀x∈(p0 b).prods,(p0 b).toks.length<=x.1/\x.1<(p0 b).toks.length+(p0 b).aN.length/\x.2<=1000:=by
  rw[g,j];unfold p0 pr
  dsimp only
  intro x r;exact ZK b (nT:=(h2 b).1) (nN:=(h3 b).1) o.1 (h4 b).1 (w2 b).2 [] (by simp) x r
 unfold pack;generalize p0 b=p at a c n f l g j d k m;exact⟨⟨a.s0,a.s1,a.t1,a.n1,a.b1⟩,l.trans f.symm,by show 1<=p.toks.length;omega,by show 1<=p.aN.length;omega,⟨by show 1<=p.prods.length;omega,by show p.prods.length<=200;omega⟩,k,m,c.2,de c.1 n⟩
end Pk
def Eh(w:World)(v:Value)(r:List Int):Prop:=∃a c,v=.slice a r.length c/\r.length<=c/\∀t(h:t<r.length),∃g o,a=some ⟨g,o,none⟩/\g<w.heap.size/\w.cell? ⟨g,o+t,none⟩=some (.int .i64 r[t])
theorem Eh.below{w w':World}{v:Value}{r:List Int}(h:Eh w v r)(b:Below w.heap.size w w'):Eh w' v r:=by
 obtain⟨a,c,h1,h2,h3⟩:=h;refine⟨a,c,h1,h2,fun t f=>?_⟩;obtain⟨g,o,h4,d,i⟩:=h3 t f;exact⟨g,o,h4,dd d b.size,(cM (w:=w) (b.block g d)).trans i⟩
theorem afN{P:Program}{w:World}{b:Array Oper}{n:Nat}{o:Oper}{a:Act}{K:Act->World->Prop}{Q:Exit->Act->World->Prop}{E:Prop}(d:o.guard=none)(s x:Operand)(t i:TypeId)(l:o.op=.call { callee:=.builtin .append,args:=#[s,x],argTypes:=#[t,i] })(g k:Value)(p:a.eval s=g)(q:a.eval x=k)(j:Value)(w':World)(m:(Builtin.append_ #[t,i] o.type #[g,k]).run P w=.ok j w')(h:K (a.put o.dst j) w'):if Region.wanted o (yielded b a.tmps)=true then Oper.wpIn Fence.wide n P o a w K Q else E:=by
 rw[dj (by simp[Region.wanted,d])];refine⟨fun f r=>trivial,?_⟩;rw[Oper.semAt_plain _ _ _ (fun c e=>by rw[l]at e;cases e)];unfold execOp;simp only[l,resolve,invoke,builtin,Sem.run_bind,Sem.run_pure,Result.andThen_ok,List.map_toArray,List.map_cons,List.map_nil,p,q,m];exact h
section
variable{F:Fence}{n fuel:Nat}{P:Program}{ops:Array Oper}{Q:Exit -> Act -> World -> Prop}{md:Region.Mode}{listed:Array Bool}{a:Act}{w:World}{o o':Oper}
theorem oC(m:Nat)(b:Region.ready md ops listed=[m])(c:ops[m]?=some o)(h:∀K':Act->World->Prop,(∀a w,wpAnyIn F n P md ops Q fuel (listed.setIfInBounds m true) a w->K' a w)->if Region.wanted o (yielded ops a.tmps)=true then Oper.wpIn F n P o a w K' Q else (∀f,o.about P w a.eval=some f->F.fn f)/\K' (a.put o.dst undef) w):wpAnyIn F n P md ops Q (fuel+1) listed a w:=wpAnyIn_ready b (by simp) (AllReadyIn.cons c h AllReadyIn.nil)
theorem xw(m k:Nat)(c:Region.ready md ops listed=[m,k])(d:ops[m]?=some o)(b:ops[k]?=some o')(h:∀K':Act->World->Prop,(∀a w,wpAnyIn F n P md ops Q fuel (listed.setIfInBounds m true) a w->K' a w)->if Region.wanted o (yielded ops a.tmps)=true then Oper.wpIn F n P o a w K' Q else (∀f,o.about P w a.eval=some f->F.fn f)/\K' (a.put o.dst undef) w)(g:∀K':Act->World->Prop,(∀a w,wpAnyIn F n P md ops Q fuel (listed.setIfInBounds k true) a w->K' a w)->if Region.wanted o' (yielded ops a.tmps)=true then Oper.wpIn F n P o' a w K' Q else (∀f,o'.about P w a.eval=some f->F.fn f)/\K' (a.put o'.dst undef) w):wpAnyIn F n P md ops Q (fuel+1) listed a w:=wpAnyIn_ready c (by simp) (AllReadyIn.cons d h (AllReadyIn.cons b g AllReadyIn.nil))
end
section
open Go.RowKit Go.Shelf
open Tr
attribute [local go_sem] pB
section
variable{c:aZ}{w0:World}{F:Nat -> Prop}{B0:Nat}{W:World}{S:bL}
theorem jo.DL{W1:World}{B:Nat}{vA:Value}{K:List (Nat×Nat)}{gs:List Nat}{ss:List (List Nat)}(h:jo c W B W1 vA K gs ss){k:Nat}(a:wu B vA gs k)(f:Option (List Deferred)):W1.heap[k]?≠some (.deferred f):=fun e=>by
 have b:∀{t:Nat},Kd W1 k t->False:=fun⟨y,d⟩=>by rw[e]at d;cases d
 rcases a with ⟨h1,h2⟩|a|a
 ·have:k=B\/k=B+1\/k=B+2\/k=B+3:=by omega
  rcases this with rfl|rfl|rfl|rfl
  ·exact b ⟨_,h.k1⟩
  ·obtain⟨g,i,h3,-⟩:=h.kg
   rw[e]at h3;cases h3
  ·exact b ⟨_,h.k4⟩
  ·exact b ⟨_,h.k5⟩
 ·exact b (h.kA a)
 ·exact b (h.kG a)
theorem ajl{n:Nat}{P:Program}{id:Nat}{Q:Exit->Act->World->Prop}{a:Act}{w:World}{b:List Oper}(g:P.follows .mixedOrders=true)(f:Region.lexB .any b.toArray=true)
  (h:wpQuietIn Fence.wide n P b.toArray (fun w'=>∃n,w'=w.drewN n) (fun a'=>∀w',(∃n,w'=w.drewN n)->Q .normal a' w') b a):(Code.region id b.toArray true).wpIn Fence.wide n P Q a w:=by
 simp only[Region.lexB,Bool.and_eq_true]at f;refine wpIn_region_any g (wpAnyIn_of_quiet (C:=fun w'=>∃n,w'=w.drewN n) (Q:=fun a'=>∀w',(∃n,w'=w.drewN n)->Q .normal a' w') rfl (fun _ w' d h=>h w' d) _ _ _ _ ⟨1,rfl⟩ ?_);have:=wpAnyQIn_lex (F:=Fence.wide) (n:=n) (P:=P) (C:=fun w'=>∃n,w'=w.drewN n) (md:=.any) f.1 b 0 (Array.replicate b.toArray.size false) a (by simp) (by simpa using f.2) h;simpa using this
def xM(c:aZ)(W:World)(B:Nat)(S:bL)(j:Nat)(w7:World)(vA:Value)(gs:List Nat)(i:Nat)(Z:Nat->Prop)(W':World):Prop:=∃zT K' gs' ss',jo c W B W' zT K' gs' ss'/\ng S (c.qO S j i) K' ss'/\oJ B w7 vA gs W' zT gs'/\∀k,Z k->w7.heap.size<=k/\k<W'.heap.size/\¬wu B zT gs' k
theorem xM.wm{B j:Nat}{l:World}{vA:Value}{gs:List Nat}(p:B+4<=l.heap.size):xR (xM c W B S j l vA gs) where
 own i Z A C row hs hg hr:=by
  obtain⟨v,K,g,s,M,I,X,z⟩:=hs;have ne:∀k,k<A.heap.size->¬Z k->C.heap[k]?=A.heap[k]?:=fun k a f=>hg.block k a fun e=>f (hr k e.symm)
  refine⟨v,K,g,s,M.move (fun k a n=>ne k a fun d=>(z k d).2.2 n) (M.b.grown hg (mi M.k1.lt) fun k e=>by have:=(z k (hr k e)).1;omega),I,⟨fun k a f=>(ne k (dd a X.bX) fun d=>by have:=(z k d).1;omega).trans (X.bK k a f),X.new,de X.bX hg.size⟩,fun k a=>⟨(z k a).1,dd (z k a).2.1 hg.size,(z k a).2.2⟩⟩
 new i Z A o hs:=by
  obtain⟨v,K,g,s,M,I,X,z⟩:=hs;have m:Below A.heap.size A (A.alloc o):=(cV _ _).alloc (zL0) o;refine⟨v,K,g,s,M.below m,I,X.trans (oJ.below m),fun k a=>?_⟩;rw[fd];rcases a with a|rfl
  ·exact⟨(z k a).1,by have:=(z k a).2.1;omega,(z k a).2.2⟩
  ·exact⟨X.bX,by omega,fun e=>by have:=M.lt e;omega⟩
theorem xM.next{B j i:Nat}{p W1 m:World}{vA q n:Value}{gs b l:List Nat}{o:List (Nat×Nat)}{r:List (List Nat)}{Z:Nat->Prop}{a:Act}(u:oJ B p vA gs W1 q b)(f:∀k,Z k->p.heap.size<=k/\k<W1.heap.size/\¬wu B q b k)(t:jo c W B m n o l r)(v:ng S (c.qO S j (i+1)) o r)(g:oJ B W1 q b m n l):yR Z (xM c W B S j p vA gs (i+1) Z) W1 .normal a m :=
 ⟨⟨n,o,l,r,t,v,u.trans g,fun k d=>⟨(f k d).1,dd (f k d).2.1 g.bX,fun e=>by
  have:=f k d;rcases g.new k e with e|e
  ·exact this.2.2 e
  ·omega⟩⟩,fun k d s=>g.bK k s (f k d).2.2⟩
theorem ah7(hF:mY c w0 F B0)(h:jT c w0 F B0 W S)(c4:S.st.length<=900000)(b0:c.nw<=100000)(Hl:∀K:List (Nat×Nat),K.Nodup->(∀e∈K,∃i,c.zS S i e)->K.length<=1000000000):Calls prog 99 #[.pointer (some ⟨c.lb,0,none⟩)] W (LC c W S):=by
 have hm:prog.follows .mixedOrders=true:=by kernel_rfl
 have cf:=@sr prog;obtain⟨B,hB⟩:∃b,W.heap.size=b:=⟨_,rfl⟩;obtain⟨sa,sc,zI,-⟩:=aC h.rS;have d9:W.cell? ⟨c.lb,9,none⟩=some (.slice sa S.st.length sc):=by rw[<-zI];exact h.blk.cell 9
 have ll:=h.blk.lt;obtain⟨w4,ab⟩:∃V,V=(((W.alloc (.cells #[.pointer (some ⟨c.lb,0,none⟩)] 216)).alloc (.map #[] 0)).alloc (.cells #[.map (some (B+1))] 223)).alloc (.cells #[.slice none 0 0] 149):=⟨_,rfl⟩;have z1:(W.alloc (.cells #[.pointer (some ⟨c.lb,0,none⟩)] 216)).heap.size=B+1:=by rw[fd,hB]
 have z2:((W.alloc (.cells #[.pointer (some ⟨c.lb,0,none⟩)] 216)).alloc (.map #[] 0)).heap.size=B+2:=by rw[fd,z1]
 have z3:(((W.alloc (.cells #[.pointer (some ⟨c.lb,0,none⟩)] 216)).alloc (.map #[] 0)).alloc (.cells #[.map (some (B+1))] 223)).heap.size=B+3:=by rw[fd,z2]
 have a2:Below B W w4:=by
  rw[ab,<-hB];exact((((cV _ _).alloc (zL0) _).alloc (by simp) _).alloc (by simp;omega) _).alloc (by simp;omega) _
 have M4:jo c W B w4 (.slice none 0 0) [] [] []:=by
  refine⟨a2,?_,?_,?_,?_,eQ _ _ _ _,(fun i g hg=>by simp at hg),mj,rfl,rfl⟩
  ·rw[ab,<-hB]
   exact(((aj.new ..).alloc _).alloc _).alloc _
  ·rw[ab,<-z1]
   exact((iy.made _ _).move (dg _ _ _ (by simp))).move (dg _ _ _ (by simp))
  ·rw[ab,<-z2]
   exact(aj.new ..).alloc _
  ·rw[ab,<-z3]
   exact aj.new ..
 have Ho:Hid (∀m,Below B W m->aj m c.lb (c.cells S) 153/\(∀b,F b->m.heap[b]?=w0.heap[b]?)/\(∀(j:Nat)s,S.st[j]?=some s->∃g,sa=some ⟨g,0,none⟩/\m.cell? ⟨g,j*2,none⟩=some (.int .i64 (s.1:Int))/\m.cell? ⟨g,j*2+1,none⟩=some (.int .i64 (s.2:Int))/\∃ga ca gj,S.vA=.slice (some ⟨ga,0,none⟩) S.gs.length ca/\m.cell? ⟨ga,j,none⟩=some (.slice (some ⟨gj,0,none⟩) c.nw c.nw)/\TS m gj (S.ss.getD j [])/\(S.ss.getD j []).length=c.nw/\gj<B/\j<S.gs.length)):=fun m hb=>by
  have lb:c.lb<B:=by rw[<-hB];exact ll
  refine⟨(hb.block _ lb).trans h.blk,fun b U=>(hb.block b (by rw[<-hB];exact dd (hF.low b U).1 h.big)).trans (h.keep b U),fun j s hs=>?_⟩;obtain⟨sx,sy⟩:=s;obtain⟨f1,f2⟩:=Tg _ _ _ _ hs;obtain⟨g,cp,e,hc⟩:=pQ h.rS f1;rw[zI]at e;cases e;have cu:=ig hs;obtain⟨gj,aq⟩:∃g,S.gs[j]?=some g:=⟨_,cF (by rw[h.lg];exact cu)⟩;obtain⟨-,ws,aa,yG,cd⟩:=h.sets j gj aq;obtain⟨ga,ca,e2,ct⟩:=pQ h.rA (j:=j) (u:=gX c.nw gj) (by rw[di,aq];rfl);have e3:S.ss.getD j []=ws:=NE aa;rw[<-hB]at hb;rw[e3];exact⟨g,rfl,aM hb (hc _ _ f1),aM hb (hc _ _ f2),ga,ca,gj,e2,aM hb (ct j _ (by rw[di,aq];rfl)),yG.move (hb.block _ yG.blk.lt),cd,by rw[<-hB];exact yG.blk.lt,ig aq⟩
 have dA:w4.cell? ⟨c.lb,9,none⟩=some (.slice sa S.st.length sc):=by
  rw[<-hB]at a2;exact aM a2 d9
 have H0:Hid (jo c W B w4 (.slice none 0 0) [] [] []/\ng S (c.qO S 0 0) [] []/\pG w4 []/\∀D∈([]:List Nat),B+4<=D):=⟨M4,⟨mj,rfl,(fun e=>⟨fun h=>(by cases h),fun⟨i,h⟩=>(akS.1 h).elim⟩),(fun p e t hp=>by simp at hp)⟩,⟨by simp,by simp⟩,by simp⟩;have a4:Hid (∀m vA K gs ss,jo c W B m vA K gs ss->ng S (c.qO S S.st.length 0) K ss->LC c W S (.returned (.tuple #[.map (some (B+1)),vA])) m):=fun m vA K gs ss M I=>⟨B+1,vA,K,gs,ss,rfl,by rw[hB];exact M.b,M.kg,by rw[hB];exact jb M.row (by omega),fun i g hg=>(M.sets i g hg).2,M.lg,I.ext fun q f=>amg⟩
 have x1:w4.cell? ⟨B,0,none⟩=some (.pointer (some ⟨c.lb,0,none⟩)):=M4.k1.cell 0;clear z1 z2 z3 a2 M4 d9 h zI;obtain⟨Q,hQ⟩:∃Q,Q=bodyPostM Fence.wide 9 prog Tryz.f99 (LC c W S):=⟨_,rfl⟩;refine ij.1 (callsIn_of_wp_marks (F:=Fence.wide) (n:=9) func99 rfl trivial ?_ rfl);rw[<-hQ];simp only[ntmps99,List.size_toArray,List.length_cons,List.length_nil,Nat.reduceAdd,Nat.reduceSub,Array.replicate_succ,Array.replicate_zero,List.push_toArray,List.append_toArray,List.nil_append,List.cons_append]
 gi_upto_region 3 with fail
 rw[<-ab];clear ab cf hB
 gi_wp2
 clear x1 dA;refine wpIn_loop_ghost_k (fun n a w=>∃(u6 u7 u8 u9 zK zL zM bx bT bt bw bz bU bp b2 b4 ba a7 aA aY bg bf aF bh aP aX Bg bb Bh a9 uo bd bj a6 Bj a5 a8 zN bc zO ai yC ax yD yE al a0 aw Qd Qe an ah Qf az Qg:Value)(Ds:List Nat)(j:Nat)(vA:Value)(K:List (Nat×Nat))(gs:List Nat)(ss:List (List Nat)),n=S.st.length-j/\j<=S.st.length/\a={ tmps:=#[.pointer (some ⟨c.lb,0,none⟩),.pointer (some ⟨B,0,none⟩),.map none,.slice none 0 0,.pointer (some ⟨B+1+1,0,none⟩),.pointer (some ⟨B+1+1+1,0,none⟩),u6,u7,u8,u9,zK,.map (some (B+1)),.pointer (some ⟨c.lb,0,none⟩),.pointer (some ⟨c.lb,0,none⟩),.pointer (some ⟨c.lb,9,none⟩),.slice sa S.st.length sc,.int .i64 (S.st.length:Int),.int .i64 (j:Int),zL,zM,bx,bT,bt,bw,bz,bU,bp,b2,b4,ba,a7,aA,aY,bg,bf,aF,bh,aP,aX,Bg,bb,Bh,a9,uo,bd,bj,a6,Bj,a5,a8,zN,bc,zO,ai,yC,ax,yD,yE,al,a0,aw,Qd,Qe,an,ah,Qf,az,Qg],defers:=P7 Ds }/\Hid (jo c W B w vA K gs ss/\ng S (c.qO S j 0) K ss/\pG w Ds/\∀D∈Ds,B+4<=D)) (S.st.length-0) ⟨undef,undef,undef,undef,undef,undef,undef,undef,undef,undef,undef,undef,undef,undef,undef,undef,undef,undef,undef,undef,undef,undef,undef,undef,undef,undef,undef,undef,undef,undef,undef,undef,undef,undef,undef,undef,undef,undef,undef,undef,undef,undef,undef,undef,undef,undef,undef,undef,undef,undef,undef,undef,undef,undef,undef,[],0,.slice none 0 0,[],[],[],rfl,ff _,rfl,H0⟩ ?_;clear H0;rintro n a w⟨u6,u7,u8,u9,zK,zL,zM,bx,bT,bt,bw,bz,bU,bp,b2,b4,ba,a7,aA,aY,bg,bf,aF,bh,aP,aX,Bg,bb,Bh,a9,uo,bd,bj,a6,Bj,a5,a8,zN,bc,zO,ai,yC,ax,yD,yE,al,a0,aw,Qd,Qe,an,ah,Qf,az,Qg,Ds,j,vA,K,gs,ss,rfl,hj,rfl,H1⟩J K0 hJ hK
 obtain⟨M,I,hC,hD⟩:=H1.out;clear H1
 by_cases hjn:j<S.st.length
 ·have j1:(j:Int)<(S.st.length:Int):=by omega
  have j0:(0:Int)<=(j:Int):=by omega
  obtain⟨s,hs⟩:∃s,S.st[j]?=some s:=⟨_,cF hjn⟩;obtain⟨kb,-,ac⟩:=Ho.out w M.b;obtain⟨g,rfl,c1,c2,-⟩:=ac j s hs;obtain⟨s1,s2⟩:=s;simp only at c1 c2
  gi_upto_region 6 with fail
  obtain⟨N,fI⟩:∃V,V=(w.alloc (.cells #[.int .i64 (j:Int)] 3)).alloc (.cells #[.int .i64 (s1:Int),.int .i64 (s2:Int)] 212):=⟨_,rfl⟩;rw[<-fI];obtain⟨b6,aH⟩:∃b,w.heap.size=b:=⟨_,rfl⟩;have aG:Below w.heap.size w N:=by rw[fI];exact((cV _ _).alloc (zL0) _).alloc (by simp) _
  have k6:aj N b6 #[.int .i64 (j:Int)] 3:=by rw[fI,<-aH];exact(aj.new ..).alloc _
  have k7:aj N (b6+1) #[.int .i64 (s1:Int),.int .i64 (s2:Int)] 212:=by
   rw[fI,<-aH];have:=aj.new (w.alloc (.cells #[.int .i64 (j:Int)] 3)) #[.int .i64 (s1:Int),.int .i64 (s2:Int)] 212
   rwa [fd]at this
  have M5:=M.below aG;have C5:pG N Ds:=hC.move fun D av=>aG.block D (ek.1 (hC.at' D av)).1
  have n6:¬wu B vA gs b6/\¬wu B vA gs (b6+1):=⟨fun e=>by have:=M.lt e;omega,fun e=>by have:=M.lt e;omega⟩;rw[aH];clear fI aG c1 c2 kb ac M hC;obtain⟨kb,-,-⟩:=Ho.out N M5.b;have x1:N.cell? ⟨B,0,none⟩=some (.pointer (some ⟨c.lb,0,none⟩)):=M5.k1.cell 0;have m0:N.cell? ⟨c.lb,0,none⟩=some (.slice c.ta c.nT c.tc):=kb.cell 0;have m1:N.cell? ⟨c.lb,1,none⟩=some c.v1:=kb.cell 1;have m2:N.cell? ⟨c.lb,2,none⟩=some (.slice (some ⟨c.gP,0,none⟩) c.P.length c.pc):=kb.cell 2;have m3:N.cell? ⟨c.lb,3,none⟩=some c.v3:=kb.cell 3;have m4:N.cell? ⟨c.lb,4,none⟩=some c.v4:=kb.cell 4;have m5:N.cell? ⟨c.lb,5,none⟩=some (.map (some c.gm)):=kb.cell 5;have y1:N.cell? ⟨b6+1,0,none⟩=some (.int .i64 (s1:Int)):=k7.cell 0;have y2:N.cell? ⟨b6+1,1,none⟩=some (.int .i64 (s2:Int)):=k7.cell 1;refine qp 5 (by kernel_rfl) (by kernel_rfl) (by kernel_rfl) ?_
  dsimp only[List.take,List.drop,List.length]
  repeat (gi_big_quiet_step (fail))
  refine wpQuietIn_nil ?_;rintro _⟨wo,rfl⟩;refine wpAnyIn_ready (rs:=[5]) (by kernel_rfl) (by simp) (AllReadyIn.cons rfl (fun y l=>?_) AllReadyIn.nil)
  go_simp
  refine⟨trivial,(ij.2 aks).mono ?_⟩;rintro e w7⟨rfl,Y⟩;refine l _ _ (wpAnyIn_done (by kernel_rfl) ?_ _);clear l y;have Qh:Hid (w7=_):=Y;clear x1 m0 m1 m2 m3 m4 m5 y1 y2 kb Y
  gi_wp2
  have Y:=Qh.out;clear Qh;obtain⟨bm,zP⟩:∃b,N.heap.size=b:=⟨_,rfl⟩;have cy:w7.heap.size=bm+2:=by rw[Y];simp[zP]
  have eD:Below N.heap.size N w7:=by rw[Y];exact((show Below N.heap.size N (N.drewN wo) from ⟨rfl,rfl,rfl,zL0,fun _ _=>rfl⟩).alloc (zL0) _).alloc (by rw[fd];exact pL _) _
  have kM:aj w7 bm #[.slice c.ta c.nT c.tc,c.v1,.slice (some ⟨c.gP,0,none⟩) c.P.length c.pc,c.v3,c.v4,.map (some c.gm)] 147:=by
   rw[Y,<-zP];exact(aj.new (N.drewN wo) _ _).alloc _
  have kS:aj w7 (bm+1) #[.int .i64 (s1:Int),.int .i64 (s2:Int)] 212:=by
   rw[Y,<-zP];have:=aj.new ((N.drewN wo).alloc (.cells #[.slice c.ta c.nT c.tc,c.v1,.slice (some ⟨c.gP,0,none⟩) c.P.length c.pc,c.v3,c.v4,.map (some c.gm)] 147)) #[.int .i64 (s1:Int),.int .i64 (s2:Int)] 212
   rwa [fd]at this
  have M7:=M5.below eD;have WT:aj w7 b6 #[.int .i64 (j:Int)] 3:=(eD.block _ k6.lt).trans k6;have C7:pG w7 Ds:=C5.move fun D av=>eD.block D (ek.1 (C5.at' D av)).1
  have nM:¬wu B vA gs bm/\¬wu B vA gs (bm+1):=⟨fun e=>by have:=M5.lt e;omega,fun e=>by have:=M5.lt e;omega⟩;have zQ:Hid (jo c W B w7 vA K gs ss/\pG w7 Ds/\ng S (c.qO S j 0) K ss):=⟨M7,C7,I⟩;have HK:Hid (∀{m zT gs'},oJ B w7 vA gs m zT gs'->aj m b6 #[.int .i64 (j:Int)] 3):=fun X=>(X.bK b6 WT.lt n6.1).trans WT
  have HR:Hid (∀{m zT K' gs' ss'},jo c W B m zT K' gs' ss'->oJ B w7 vA gs m zT gs'->K7 w0 F m bm (.slice c.ta c.nT c.tc) c.v1 (.slice (some ⟨c.gP,0,none⟩) c.P.length c.pc) c.v3 c.v4 c.gm c.f/\aj m (bm+1) #[.int .i64 (s1:Int),.int .i64 (s2:Int)] 212):=fun M' X=>by
   obtain⟨-,kp,-⟩:=Ho.out _ M'.b;exact⟨⟨(X.bK bm kM.lt nM.1).trans kM,kp,hF.goes.move (kp _ hF.fm)⟩,(X.bK (bm+1) kS.lt nM.2).trans kS⟩
  have Ls:B+4<=w7.heap.size:=M7.k5.lt;have ck:(N.drewN wo).heap.size=bm:=zP
  try simp only[ck]
  try rw[zP]
  clear Y eD kM kS nM M7 C7 WT M5 C5 k6 k7 I;have a3:=akt (w0:=w0) (F:=F) (bm:=bm) (bs:=bm+1) (gm:=c.gm) (gP:=c.gP) (pc:=c.pc) (q:=s1) (n:=s2) (v0:=.slice c.ta c.nT c.tc) (v1:=c.v1) (v3:=c.v3) (v4:=c.v4) (f:=c.f) hF.prods hF.pl hF.rl;refine IC (gf:=168) (lb:=#[.pointer (some ⟨bm,0,none⟩),.pointer (some ⟨bm+1,0,none⟩)]) rfl (enters_of func168 (by kernel_rfl) rfl) a3 (fun _=>rfl) (xM c W B S j w7 vA gs) (xM.wm Ls) (fun i Z m h=>by obtain⟨v',K',g',s',M',-,X',-⟩:=h;exact HR.out M' X') ⟨vA,K,gs,ss,zQ.out.1,zQ.out.2.2,oJ.refl _ _ _ _,fun k h=>h.elim⟩
   (fun x a' m=>∃Bx,w7.heap.size+2<=Bx/\aj m Bx #[.int .i64 (x.2:Int),.int .i64 (x.1.1:Int)] 228/\a'={ tmps:=#[.pointer (some ⟨c.lb,0,none⟩),.pointer (some ⟨B,0,none⟩),.map none,.slice none 0 0,.pointer (some ⟨B+1+1,0,none⟩),.pointer (some ⟨B+1+1+1,0,none⟩),.pointer (some ⟨b6,0,none⟩),.pointer (some ⟨b6+1,0,none⟩),.pointer (some ⟨Bx,0,none⟩),u9,zK,.map (some (B+1)),.pointer (some ⟨c.lb,0,none⟩),.pointer (some ⟨c.lb,0,none⟩),.pointer (some ⟨c.lb,9,none⟩),.slice (some ⟨g,0,none⟩) S.st.length sc,.int .i64 (S.st.length:Int),.int .i64 (j:Int),.bool true,.int .i64 (j:Int),.pointer (some ⟨g,j*2,none⟩),.agg #[.int .i64 (s1:Int),.int .i64 (s2:Int)],.pointer (some ⟨c.lb,0,none⟩),.pointer (some ⟨c.lb,0,none⟩),.pointer (some ⟨c.lb,0,none⟩),.agg #[.slice c.ta c.nT c.tc,c.v1,.slice (some ⟨c.gP,0,none⟩) c.P.length c.pc,c.v3,c.v4,.map (some c.gm)],.agg #[.int .i64 (s1:Int),.int .i64 (s2:Int)],.func (.func 168) #[] #[.pointer (some ⟨bm,0,none⟩),.pointer (some ⟨bm+1,0,none⟩)],bE (aZ.end x),ba,a7,aA,aY,bg,bf,aF,bh,aP,aX,Bg,bb,Bh,a9,uo,bd,bj,a6,Bj,a5,a8,zN,bc,zO,ai,yC,ax,yD,yE,al,a0,aw,Qd,Qe,an,ah,Qf,az,Qg],defers:=[] })
   ?hAx ?assign ?body ?done
  case hAx=>
   rintro x a' A o'⟨Bx,h1,h2,rfl⟩;exact⟨Bx,h1,(World.putObj_heap_other (by omega)).trans h2,rfl⟩
  case assign=>
   rintro l' i⟨⟨k,d⟩,r⟩Z m K' hsz hi ch;simp only[UO,bE]
   gi_wp2
   exact ch _ _ (by simp) (fun k _ hk=>dg _ _ _ hk) ((xM.wm Ls).own _ _ _ _ none hi (qS _ _ none) (fun r e=>by cases e)) ⟨m.heap.size,by omega,aj.new ..,rfl⟩
  case body=>
   clear a3 HR;rintro l' i⟨⟨k,d⟩,r⟩Z a' m hx⟨Bn,G,H,am,C,I1,X1,z⟩⟨Bx,cC,kX,rfl⟩;have ap:(c.yF (s1,s2))[i]?=some ((k,d),r):=hx;obtain⟨kb,-,ac⟩:=Ho.out m C.b;obtain⟨-,-,-,-,ga,ca,gj,EJ,cj,aI,a1,c7,c6⟩:=ac j (s1,s2) hs;have br:m.cell? ⟨c.lb,10,none⟩=some (.slice (some ⟨ga,0,none⟩) S.gs.length ca):=by rw[<-EJ];exact kb.cell 10
   have k6:=HK.out X1;have x0:m.cell? ⟨Bx,0,none⟩=some (.int .i64 (r:Int)):=kX.cell 0;have x1:m.cell? ⟨Bx,1,none⟩=some (.int .i64 (k:Int)):=kX.cell 1;have x4:m.cell? ⟨B+1+1,0,none⟩=some (.map (some (B+1))):=C.k4.cell 0;have ar:=I1.nd
   by_cases hin:aZ.end ((k,d),r)∈G
   ·obtain⟨p,hp⟩:=eS.1 hin
    have ae:=iy.hit Tryz.J4 Tryz.Ju C.kg ar hp;simp only[bE,aZ.end]at ae;obtain⟨gp,wF⟩:∃g,H[p]?=some g:=⟨_,cF (by rw[C.lg];exact ig hp)⟩;obtain⟨cw,ws,aa,LD,hlp⟩:=C.sets p gp wF;obtain⟨gA,cA,LF,af⟩:=pQ C.row (j:=p) (u:=gX c.nw gp) (by rw[di,wF];rfl);have cp:m.cell? ⟨gA,p,none⟩=some (.slice (some ⟨gp,0,none⟩) c.nw c.nw):=af p _ (by rw[di,wF];rfl);have x5:m.cell? ⟨B+1+1+1,0,none⟩=some (.slice (some ⟨gA,0,none⟩) H.length cA):=by rw[<-LF];exact C.k5.cell 0
    have xb:m.cell? ⟨B,0,none⟩=some (.pointer (some ⟨c.lb,0,none⟩)):=C.k1.cell 0;have xj:m.cell? ⟨b6,0,none⟩=some (.int .i64 (j:Int)):=k6.cell 0;have Ka:∀O,_:=fun O=>MK (w:=m.drewN O) (g:=gp) (h:=gj) (nw:=c.nw) (LD.move rfl) (aI.move rfl) (fun e=>by omega) hlp a1 b0
    have e1:am.getD p []=ws:=NE aa;have HN:Hid (∀O W9(a:Act),TP (m.drewN O) gp (dL ws (S.ss.getD j [])) W9->yR Z (xM c W B S j w7 vA gs (i+1) Z) m .normal a W9):=fun O W9 a EU=>by
     have U:Below m.heap.size m (m.drewN O):=⟨rfl,rfl,rfl,zL0,fun _ _=>rfl⟩;obtain⟨M9,X9⟩:=(C.below U).join (p:=p) wF (by rw[dL,yO];exact hlp) EU;have I9:=(I1.hit (j:=j) hp (by rw[a1,e1,hlp])).ext (abE hs ap);rw[e1]at I9;exact xM.next X1 z M9 I9 ((oJ.below U).trans X9)
    have d0:(0:Int)<=(p:Int):=by omega
    have d1:(p:Int)<(H.length:Int):=by have:=ig wF;omega
    have d2:(j:Int)<(S.gs.length:Int):=by omega
    clear C I1 X1 z hx ap kb ac aI a1 LD hlp aa wF LF af hin hp ar k6 kX e1 EJ HK zQ
    gi_upto_region 13 with fail
    refine Mq 11 (by kernel_rfl) (by kernel_rfl) (by kernel_rfl) (by kernel_rfl) ?_
    dsimp only[List.take,List.drop,List.length]
    repeat (gi_big_quiet_step (fail))
    refine wpQuietIn_nil ?_;rintro _⟨cb,rfl⟩;refine wpAnyIn_ready (rs:=[11]) (by kernel_rfl) (by simp) (AllReadyIn.cons rfl (fun y l=>?_) AllReadyIn.nil)
    go_simp
    refine⟨trivial,(ij.2 (Ka _)).mono ?_⟩;rintro e W9⟨b,rfl,EU,-⟩;refine l _ _ (wpAnyIn_done (by kernel_rfl) ?_ _);clear l y
    gi_wp2
    exact HN.out _ _ _ EU
   ·have ae:=iy.miss Tryz.J4 Tryz.Ju Tryz.F5 C.kg hin
    simp only[bE,aZ.end]at ae;obtain⟨W2,bi,aE,ak,co⟩:=iy.put Tryz.J4 Tryz.Ju C.kg hin;simp only[bE,aZ.end]at bi;obtain⟨va,vc,rfl,-⟩:=aC C.row;have x5:m.cell? ⟨B+1+1+1,0,none⟩=some (.slice va G.length vc):=by rw[<-C.lg];exact C.k5.cell 0
    have lB:B+3<m.heap.size:=C.k5.lt;have e2:∀k,k<m.heap.size->k≠B+1->W2.heap[k]?=m.heap[k]?:=fun k hk hn=>ak.block k hk fun e=>hn (by cases e;rfl)
    have l2:=ak.size;have LG:aj W2 c.lb (c.cells S) 153:=(e2 _ kb.lt fun e=>by have:=C.kg;rw[<-e]at this;obtain⟨es,cl,h3,-⟩:=this;have G5:=kb;unfold aj at G5;rw[h3]at G5;cases G5).trans kb;have LH:aj W2 (B+1+1+1) #[.slice va G.length vc] 149:=(e2 (B+3) lB (by omega)).trans (by rw[<-C.lg];exact C.k5);have b8:aj W2 B #[.pointer (some ⟨c.lb,0,none⟩)] 216:=(e2 B (by omega) (by omega)).trans C.k1;obtain⟨L,ag⟩:∃b,W2.heap.size=b:=⟨_,rfl⟩;obtain⟨i0,ci,cc,cm,bv⟩:=ft Tryz.Td;obtain⟨X3,Hq⟩:∃V,V=((W2.alloc (.cells (pq (List.replicate c.nw 0)) 277)).alloc (.cells #[.slice (some ⟨L,0,none⟩) c.nw c.nw] 214)).drew:=⟨_,rfl⟩;have b7:X3.heap.size=L+2:=by
     rw[Hq];show ((W2.alloc (.cells (pq (List.replicate c.nw 0)) 277)).alloc (.cells #[.slice (some ⟨L,0,none⟩) c.nw c.nw] 214)).heap.size=L+2;rw[fd,fd,ag]
    have ad:Below W2.heap.size W2 X3:=by
     rw[Hq];exact(((cV _ _).alloc (zL0) _).alloc (by rw[fd];exact pL _) _).drew
    have rX:X3.ownsRow (B+4) 214 1 (.slice va H.length vc) H.length (H.map (gX c.nw)):=aD C.row fun k hk=>by
     have cr:=C.row.lt k hk;exact(ad.block k (by omega)).trans (e2 k cr.2 (by omega))
    have nX:∀j u,[Value.slice (some ⟨L,0,none⟩) c.nw c.nw][j]?=some u->X3.cell? ((⟨L+1,0,none⟩:Addr).add j)=some u:=by
     have kN:aj X3 (L+1) #[.slice (some ⟨L,0,none⟩) c.nw c.nw] 214:=by
      rw[Hq];have:=aj.new (W2.alloc (.cells (pq (List.replicate c.nw 0)) 277)) #[.slice (some ⟨L,0,none⟩) c.nw c.nw] 214;rw[fd,ag]at this;exact this.drew
     exact eO kN
    have cz:G.length<=1000000000:=Hl G ar fun e he=>by
     obtain⟨q,hq⟩:=(I1.mem e).1 he;rcases hq with ⟨-,hq⟩|⟨rfl,s',x',bV,cx,rfl⟩
     ·exact⟨q,hq⟩
     ·exact⟨q,s',x',bV,sn cx,rfl⟩
    obtain⟨v9,w9,LJ,oG,WU,-,mh⟩:=run_append_own_at (P:=prog) X3 (B+4) 149 149 214 i0 _ 1 24 Tryz.adx ci cc cm bv rfl (by decide) (.slice va H.length vc) H.length (H.map (gX c.nw)) rX ⟨L+1,0,none⟩ 1 1 [.slice (some ⟨L,0,none⟩) c.nw c.nw] rfl nX (by simp[Value.oneCell']) (by rw[C.lg];unfold maxLen;omega) (by rw[C.lg];omega) (by rw[b7];omega);rw[C.lg]at LJ oG rX;obtain⟨T,dI,rfl⟩:∃g c,v9=.slice (some ⟨g,0,none⟩) (G.length+1) c:=by
     obtain⟨g,cp,e,-⟩:=pQ oG (j:=0) (u:=(H.map (gX c.nw)++[Value.slice (some ⟨L,0,none⟩) c.nw c.nw])[0]) (cF _);exact⟨g,cp,e⟩
    obtain⟨R,ao⟩:∃n,G.length+1=n:=⟨_,rfl⟩;rw[ao]at LJ oG mh;have c3:Hid (G.length+1=R):=ao;have tN:TS X3 L (List.replicate c.nw 0):=by
     have h1:TS (W2.alloc (.cells (pq (List.replicate c.nw 0)) 277)) W2.heap.size (List.replicate c.nw 0):=TS.new ..;rw[ag]at h1;rw[Hq];exact(h1.move (dg _ _ _ h1.blk.lt)).move rfl
    obtain⟨M9,X9⟩:=C.put (e:=aZ.end ((k,d),r)) (g:=L) (v:=.slice (some ⟨T,0,none⟩) R dI) (w3:=w9) (W2:=X3) (aR ak (Im ad _)) (aE.move (ad.block _ aE.lt)) (by omega) tN WU (by rw[cH,C.lg,eJ];show w9.ownsRow _ _ _ _ (G.length+1) _;rw[ao];exact oG) (mh.imp id fun e=>⟨_,e,zL0⟩);have f9:w9.frozen? ⟨B+1+1+1,0,none⟩=false/\w9.cell? ⟨B+1+1+1,0,none⟩=some (.slice va G.length vc):=by
     have kx:aj X3 (B+1+1+1) #[.slice va G.length vc] 149:=(ad.block _ LH.lt).trans LH;have k9:=kx.grown WU fun e=>by have:=(C.row.lt _ e.symm).1;omega
     exact⟨k9.frozen 0,k9.cell 0⟩
    obtain⟨c5,c9⟩:=f9;have bo:=HK.out (X1.trans X9);obtain⟨b9,-,bl⟩:=Ho.out _ M9.b;obtain⟨-,-,-,-,bu,cg,bD,bR,b5,b3,U3,cB,c0⟩:=bl j (s1,s2) hs;have wF:(H++[L])[G.length]?=some L:=by rw[<-C.lg];simp
    obtain⟨cw,ws,aa,LD,hlp⟩:=M9.sets G.length L wF;obtain⟨gA,cA,LF,af⟩:=pQ M9.row (j:=G.length) (u:=gX c.nw L) (by rw[di,wF];rfl);have cq:T=gA:=by
     injection LF with e1 e2 e3
     cases e1;rfl
    subst cq;clear LF;have I9:=(I1.miss (j:=j) (nw:=c.nw) hin U3).ext (abE hs ap);have e1:(am++[List.replicate c.nw 0]).getD G.length []=ws:=NE aa;rw[e1]at I9;have HN:Hid (∀O W9(a:Act),TP ((w9.setCell ⟨B+1+1+1,0,none⟩ (.slice (some ⟨T,0,none⟩) R dI)).drewN O) L (dL ws (S.ss.getD j [])) W9->yR Z (xM c W B S j w7 vA gs (i+1) Z) m .normal a W9):=fun O W9 a EU=>by
     have U:Below (w9.setCell ⟨B+3,0,none⟩ (.slice (some ⟨T,0,none⟩) R dI)).heap.size (w9.setCell ⟨B+3,0,none⟩ (.slice (some ⟨T,0,none⟩) R dI)) ((w9.setCell ⟨B+3,0,none⟩ (.slice (some ⟨T,0,none⟩) R dI)).drewN O):=⟨rfl,rfl,rfl,zL0,fun _ _=>rfl⟩;obtain⟨MA,XA⟩:=(M9.below U).join (p:=G.length) wF (by rw[dL,yO];exact hlp) EU;exact xM.next X1 z MA I9 ((X9.trans (oJ.below U)).trans XA)
    have Ka:∀O,_:=fun O=>MK (w:=(w9.setCell ⟨B+1+1+1,0,none⟩ (.slice (some ⟨T,0,none⟩) R dI)).drewN O) (g:=L) (h:=bD) (nw:=c.nw) (LD.move rfl) (b3.move rfl) (fun e=>by omega) hlp U3 b0
    have cp:(w9.setCell ⟨B+1+1+1,0,none⟩ (.slice (some ⟨T,0,none⟩) R dI)).cell? ⟨T,G.length,none⟩=some (.slice (some ⟨L,0,none⟩) c.nw c.nw):=af G.length _ (by rw[di,wF];rfl);have y5:(w9.setCell ⟨B+1+1+1,0,none⟩ (.slice (some ⟨T,0,none⟩) R dI)).cell? ⟨B+1+1+1,0,none⟩=some (.slice (some ⟨T,0,none⟩) R dI):=M9.k5.cell 0;have yb:(w9.setCell ⟨B+1+1+1,0,none⟩ (.slice (some ⟨T,0,none⟩) R dI)).cell? ⟨B,0,none⟩=some (.pointer (some ⟨c.lb,0,none⟩)):=M9.k1.cell 0;have yj:(w9.setCell ⟨B+1+1+1,0,none⟩ (.slice (some ⟨T,0,none⟩) R dI)).cell? ⟨b6,0,none⟩=some (.int .i64 (j:Int)):=bo.cell 0;have yk:(w9.setCell ⟨B+1+1+1,0,none⟩ (.slice (some ⟨T,0,none⟩) R dI)).cell? ⟨c.lb,10,none⟩=some (.slice (some ⟨bu,0,none⟩) S.gs.length cg):=by rw[<-bR];exact b9.cell 10
    have b1:(w9.setCell ⟨B+1+1+1,0,none⟩ (.slice (some ⟨T,0,none⟩) R dI)).cell? ⟨bu,j,none⟩=some (.slice (some ⟨bD,0,none⟩) c.nw c.nw):=b5;obtain⟨cn,U4⟩:∃V,V=w9.setCell ⟨B+1+1+1,0,none⟩ (.slice (some ⟨T,0,none⟩) R dI):=⟨_,rfl⟩;rw[<-U4]at HN Ka cp y5 yb yj yk b1;have mt:W2.cell? ⟨c.lb,0,none⟩=some (.slice c.ta c.nT c.tc):=LG.cell 0;have lk:=LG.lt;have l5:=LH.lt;have bH:W2.cell? ⟨B+1+1+1,0,none⟩=some (.slice va G.length vc):=LH.cell 0;have wH:W2.cell? ⟨B,0,none⟩=some (.pointer (some ⟨c.lb,0,none⟩)):=b8.cell 0;have bN:∀o,(W2.alloc o).cell? ⟨B+1+1+1,0,none⟩=some (.slice va G.length vc):=fun o=>(cM (w:=W2) (dg _ _ _ l5)).trans bH
    have ce:∀o o',((W2.alloc o).alloc o').cell? ⟨B+1+1+1,0,none⟩=some (.slice va G.length vc):=fun o o'=>(cM (w:=W2.alloc o) (dg _ _ _ (by rw[fd];exact Nat.lt_succ_of_lt l5))).trans (bN o)
    have EO:Calls prog 92 #[.int .i64 (c.nT:Int)] W2.drew fun e w'=>e=.returned (.slice (some ⟨W2.drew.heap.size,0,none⟩) c.nw c.nw)/\w'=W2.drew.alloc (.cells (pq (List.replicate c.nw 0)) 277):=QI (w:=W2.drew) (n:=c.nT) hF.nT.2
    have c8:Hid (W2.heap.size=L):=ag;have d0:(0:Int)<=(G.length:Int):=by omega
    have d3:(G.length:Int)<(R:Int):=by omega
    have d2:(j:Int)<(S.gs.length:Int):=by omega
    clear C M9 X9 I1 I9 X1 z hx ap kb ac aI a1 LD hlp aa wF af hin ar k6 kX e1 EJ HK zQ b9 bl b3 U3 bR bo tN rX nX ad oG WU mh aE ak LG LH b8 b5 e2 ao co b7
    gi_upto_region 12 with fail
    rename_i K5 uG;have bq:K5 { tmps:=#[.pointer (some ⟨c.lb,0,none⟩),.pointer (some ⟨B,0,none⟩),.map none,.slice none 0 0,.pointer (some ⟨B+1+1,0,none⟩),.pointer (some ⟨B+1+1+1,0,none⟩),.pointer (some ⟨b6,0,none⟩),.pointer (some ⟨b6+1,0,none⟩),.pointer (some ⟨Bx,0,none⟩),.int .i64 (G.length:Int),.bool false,.map (some (B+1)),.pointer (some ⟨c.lb,0,none⟩),.pointer (some ⟨c.lb,0,none⟩),.pointer (some ⟨c.lb,9,none⟩),.slice (some ⟨g,0,none⟩) S.st.length sc,.int .i64 (S.st.length:Int),.int .i64 (j:Int),.bool true,.int .i64 (j:Int),.pointer (some ⟨g,j*2,none⟩),.agg #[.int .i64 (s1:Int),.int .i64 (s2:Int)],.pointer (some ⟨c.lb,0,none⟩),.pointer (some ⟨c.lb,0,none⟩),.pointer (some ⟨c.lb,0,none⟩),.agg #[.slice c.ta c.nT c.tc,c.v1,.slice (some ⟨c.gP,0,none⟩) c.P.length c.pc,c.v3,c.v4,.map (some c.gm)],.agg #[.int .i64 (s1:Int),.int .i64 (s2:Int)],.func (.func 168) #[] #[.pointer (some ⟨bm,0,none⟩),.pointer (some ⟨bm+1,0,none⟩)],bE (aZ.end ((k,d),r)),.tuple #[.int .i64 0,.bool false],.map (some (B+1)),.agg #[.int .i64 (r:Int),.int .i64 (k:Int)],.tuple #[.int .i64 0,.bool false],.int .i64 0,.bool false,.bool false,.bool true,.slice va G.length vc,.int .i64 (G.length:Int),.map (some (B+1)),.agg #[.int .i64 (r:Int),.int .i64 (k:Int)],.int .i64 (G.length:Int),.slice va G.length vc,.pointer (some ⟨c.lb,0,none⟩),.pointer (some ⟨c.lb,0,none⟩),.pointer (some ⟨c.lb,0,none⟩),.pointer (some ⟨c.lb,0,none⟩),.pointer (some ⟨c.lb,0,none⟩),.slice c.ta c.nT c.tc,.int .i64 (c.nT:Int),.slice (some ⟨L,0,none⟩) c.nw c.nw,.slice (some ⟨L+1,0,none⟩) 1 1,.slice (some ⟨T,0,none⟩) R dI,ai,yC,ax,yD,yE,al,a0,aw,Qd,Qe,an,ah,Qf,az,Qg],defers:=[] } cn:=by
     refine uG _ _ ?_;clear uG K5 x0 x1 x4 x5 ae bi br cj mt bH wH bN ce EO LJ Hq U4
     gi_wp2
     refine Mq 11 (by kernel_rfl) (by kernel_rfl) (by kernel_rfl) (by kernel_rfl) ?_
     dsimp only[List.take,List.drop,List.length]
     repeat (gi_big_quiet_step (fail))
     refine wpQuietIn_nil ?_;rintro _⟨cb,rfl⟩;refine wpAnyIn_ready (rs:=[11]) (by kernel_rfl) (by simp) (AllReadyIn.cons rfl (fun y l=>?_) AllReadyIn.nil)
     go_simp
     refine⟨trivial,(ij.2 (Ka _)).mono ?_⟩;rintro e W9⟨b,rfl,EU,-⟩;refine l _ _ (wpAnyIn_done (by kernel_rfl) ?_ _);clear l y
     gi_wp2
     exact HN.out _ _ _ EU
    clear uG HN Ka cp y5 yb yj yk b1 x0 x1 x4 x5 ae bi br cj;rw[Hq]at LJ;refine wpIn_region_any hm (Mg rfl (by kernel_rfl) l' _ _ _ _ ?_)
    change wpAnyIn _ _ _ _ _ _ _ _ _ (World.drew _)
    repeat' (first
     | (refine wpAnyIn_done (by decide +kernel) ?_ _;rw[<-U4];exact bq)
     | (refine oC 10 (by decide +kernel) rfl fun y l=>?_;refine afN rfl (.tmp 42) (.tmp 51) 149 149 rfl _ _ rfl rfl _ _ LJ ?_;refine l _ _ ?_;clear l y)
     | ((first
      | refine oC 1 (by decide +kernel) rfl fun y l=>?_
      | refine oC 2 (by decide +kernel) rfl fun y l=>?_
      | refine oC 3 (by decide +kernel) rfl fun y l=>?_
      | refine oC 4 (by decide +kernel) rfl fun y l=>?_
      | refine oC 5 (by decide +kernel) rfl fun y l=>?_
      | refine oC 6 (by decide +kernel) rfl fun y l=>?_
      | refine oC 7 (by decide +kernel) rfl fun y l=>?_
      | refine oC 8 (by decide +kernel) rfl fun y l=>?_
      | refine oC 9 (by decide +kernel) rfl fun y l=>?_
      | refine oC 11 (by decide +kernel) rfl fun y l=>?_
      | refine oC 0 (by decide +kernel) rfl fun y l=>?_
      | refine xw 0 1 (by decide +kernel) rfl rfl (fun y l=>?_) fun y l=>?_
      | refine xw 0 2 (by decide +kernel) rfl rfl (fun y l=>?_) fun y l=>?_
      | refine xw 0 3 (by decide +kernel) rfl rfl (fun y l=>?_) fun y l=>?_
      | refine xw 0 4 (by decide +kernel) rfl rfl (fun y l=>?_) fun y l=>?_
      | refine xw 0 5 (by decide +kernel) rfl rfl (fun y l=>?_) fun y l=>?_
      | refine xw 0 6 (by decide +kernel) rfl rfl (fun y l=>?_) fun y l=>?_
      | refine xw 0 7 (by decide +kernel) rfl rfl (fun y l=>?_) fun y l=>?_
      | refine xw 0 8 (by decide +kernel) rfl rfl (fun y l=>?_) fun y l=>?_
      | refine xw 0 9 (by decide +kernel) rfl rfl (fun y l=>?_) fun y l=>?_) <;> (go_simp;(first | refine l _ _ ?_ | (refine⟨trivial,(ij.2 EO).mono ?_⟩;rintro e wq⟨rfl,cs⟩;subst cs;refine l _ _ ?_));clear l y)))
  case done=>
   rintro D Z m av CW⟨Bn,G,H,am,C,I1,X1,z⟩WM;obtain⟨M7,C7,I7⟩:=zQ.out
   gi_wp2
   refine⟨S.st.length - (j+1),by omega,hJ _ _ _ ⟨_,_,_,_,_,_,_,_,_,_,_,_,_,_,_,_,_,_,_,_,_,_,_,_,_,_,_,_,_,_,_,_,_,_,_,_,_,_,_,_,_,_,_,_,_,_,_,_,_,_,_,_,_,_,_,D::Ds,j+1,Bn,G,H,am,rfl,by omega,rfl,C,I1.ext (akT hs),⟨ph.2 ⟨fun e=>?_,C7.nd⟩,fun E hE=>?_⟩,fun E hE=>?_⟩⟩
   ·have:=(ek.1 (C7.at' D e)).1
    omega
   ·rcases eC.1 hE with rfl | hE
    ·exact WM
    ·exact(X1.bK E (ek.1 (C7.at' E hE)).1 fun e=>M7.DL e _ (C7.at' E hE)).trans (C7.at' E hE)
   ·rcases eC.1 hE with rfl | hE
    ·omega
    ·exact hD E hE
 ·obtain rfl:j=S.st.length:=by omega
  obtain⟨va,vc,rfl,-⟩:=aC M.row;have x4:w.cell? ⟨B+1+1,0,none⟩=some (.map (some (B+1))):=M.k4.cell 0;have x5:w.cell? ⟨B+1+1+1,0,none⟩=some (.slice va gs.length vc):=M.k5.cell 0;have HE:Hid (∀O w',U1 Ds (w.drewN O) w'->LC c W S (.returned (.tuple #[.map (some (B+1)),.slice va gs.length vc])) w'):=fun O w' hw=>a4.out _ _ _ _ _ (M.move (fun k hk ho=>hw.heap k fun e=>M.DL ho _ (hC.at' k e)) ⟨hw.fr.1.trans M.b.1,hw.fr.2.1.trans M.b.2,hw.fr.2.2.trans M.b.3,by rw[hw.bX];exact M.b.4,fun k hk=>(hw.heap k fun e=>by have:=hD k e;omega).trans (M.b.block k hk)⟩) I
  have HC:Hid (∀O,pG (w.drewN O) Ds):=fun O=>hC.move fun _ _=>rfl
  clear M I hC hD Ho a4
  gi_upto_region 15 with fail
  refine ajl hm (by kernel_rfl) ?_
  repeat (gi_big_quiet_step (fail))
  refine wpQuietIn_nil ?_;rintro _⟨wo,rfl⟩;rw[hQ]
  gi_wp2
  exact QW Ds _ (HC.out wo) fun w' hw=>⟨.tuple #[.map (some (B+1)),.slice va gs.length vc],results_tmp2 (fn:=Tryz.f99) (t:=2) (u:=3) rfl _ _ _,HE.out wo w' hw⟩
end
end
theorem amh(d t:Nat)(hd:d<=15)(a:t<4096):bits BinOp.or IntKind.i64 ((d*4096:Nat):Int) (t:Int)=((d*4096+t:Nat):Int):=by
 have h1:(BitVec.ofInt 64 ((d*4096:Nat):Int)).toNat=d*4096:=by rw[uA];omega
 have h2:(BitVec.ofInt 64 (t:Int)).toNat=t:=by rw[uA];omega
 have h3:d*4096 ||| t=d*4096+t:=by
  have:=Nat.two_pow_add_eq_or_of_lt (i:=12) (b:=t) a d;rw[show d*4096=2 ^ 12*d by omega];exact this.symm
 show IntKind.i64.wrap ((BitVec.ofInt 64 ((d*4096:Nat):Int) ||| BitVec.ofInt 64 (t:Int)).toNat:Nat)=_;rw[BitVec.toNat_or,h1,h2,h3,iz];omega
section
variable{W0 W W':World}{B wb:Nat}{vB x:Value}{l:List Nat}
theorem bI.move(h:bI W0 B wb vB W l)(a:Below W.heap.size W W'):bI W0 B wb vB W' l :=
 ⟨(a.block wb h.kw.lt).trans h.blk,aD h.r fun g c=>a.block g (h.kB c).lt,h.b.trans (a.mono h.size),h.lb⟩
theorem Pk.akW(l:List (Nat×Nat×Nat)):Pk.tJ l<=l.length:=rI ..
theorem Pk.ah8{l:List (Nat×Nat×Nat)}{j:Nat}{x:Nat×Nat×Nat}(h:l[j]?=some x):Pk.tJ (l.take (j+1))=Pk.tJ (l.take j)+(if x.1=0 then 0 else 1):=by
 unfold Pk.tJ;rw[pi,h,ki,cH]
 by_cases e:x.1=0
 ·simp[e]
 ·simp[e]
theorem Pk.NW:∀(l:List (Nat×Nat×Nat))(g:Nat),(Pk.wP g l).length<=6*l.length
 | [],_=>zL0
 |x::l,g=>by
  have h1:=Pk.NW l (g+1);have h2:=Pk.NW l 0;rw[Pk.wP,ev]
  split
  ·omega
  ·simp only[List.length_append,Pk.nI]
   omega
theorem ag2(h:bI W0 W0.heap.size wb vB W l){vP:Value}{ak:List (Nat×Nat×Nat)}(hP:lZ W0 vP ak)(hl:l.length+3+6*ak.length<=1000000000)(G:∀x∈ak,x.1<=15/\x.2.1<4096):Calls prog 47 #[.pointer (some ⟨wb,0,none⟩),vP] W fun e W'=>e=.returned (.tuple #[])/\∃gY,bI W0 W0.heap.size wb gY W' (l++Pk.lu ak):=by
 obtain⟨a,c,rfl,hc⟩:=hP;obtain⟨B,hB⟩:∃B,W0.heap.size=B:=⟨_,rfl⟩;have O:Hid (∀(wr:World)(k:List Nat)(v:Value),bI W0 B wb v wr k->∀(j:Nat)x,ak[j]?=some x->∃g,a=some ⟨g,0,none⟩/\wr.cell? ⟨g,j*3,none⟩=some (.int .i64 (x.1:Int))/\wr.cell? ⟨g,j*3+1,none⟩=some (.int .i64 (x.2.1:Int))/\wr.cell? ⟨g,j*3+2,none⟩=some (.int .i64 (x.2.2:Int))):=fun wr k v hw j x G=>by
  have L:=hw.b;rw[<-hB]at L;obtain⟨g,e,h1,h2,h3⟩:=hc j x G;exact⟨g,e,aM L h1,aM L h2,aM L h3⟩
 rw[hB]at h|-;clear hB hc;have A:Hid (bI W0 B wb vB W l):=h;clear h;go_enter func47,ntmps47;go_wp2_with fail
 go_loopw [4,12] (fun v i wr=>∃j:Nat,j<=ak.length/\i=.int .i64 (j:Int)/\v=.int .i64 (Pk.tJ (ak.take j):Int)/\Hid (bI W0 B wb vB wr l)) (fun _ i _=>ak.length - (intOf i).toNat)
 case atStart=>exact⟨0,by omega,rfl,rfl,A⟩
 case round=>
  clear A;obtain⟨j,hj,rfl,rfl,q⟩:=hrel
  by_cases hjn:j<ak.length
  ·have j1:(j:Int)<(ak.length:Int):=by omega
   obtain⟨x,hxj⟩:∃x,ak[j]?=some x:=⟨_,cF hjn⟩;obtain⟨g,rfl,S,c2,Z⟩:=O.out wr l vB q.out j x hxj;have C:Hid _:=Pk.ah8 hxj;have ht:=Pk.akW (ak.take j);rw[j']at ht;generalize Pk.tJ (ak.take j)=t1 at C ht;obtain⟨f,o,p⟩:=x;simp only at S c2 Z;have N:Hid (bI W0 B wb vB (wr.alloc (.cells #[.int .i64 (f:Int),.int .i64 (o:Int),.int .i64 (p:Int)] 138)) l):=q.out.move ((cV _ _).alloc (zL0) _);clear q O G
   by_cases h0:f=0
   ·have U:((f:Int) != 0)=false:=by simp[h0]
    have D:Hid (Pk.tJ (ak.take (j+1))=t1):=C.out.trans (by simp[h0]);clear C h0;go_wp2_with fail;exact⟨⟨j+1,by omega,by go_num,by rw[D.out],N⟩,by simp[intOf];omega⟩
   ·have U:((f:Int) != 0)=true:=by simp;omega
    have D:Hid (Pk.tJ (ak.take (j+1))=t1+1):=C.out.trans (by simp[h0]);clear C h0;go_wp2_with fail;exact⟨⟨j+1,by omega,by go_num,by rw[D.out];go_num,N⟩,by simp[intOf];omega⟩
  ·obtain rfl:j=ak.length:=by omega
   rw[fR];have F:l.length<=1000000000:=by omega
   have R:Calls prog 45 #[.pointer (some ⟨wb,0,none⟩),.int .i64 3,.int .i64 (Pk.tJ ak:Int)] wr fun e W'=>e=.returned (.tuple #[])/\∃gY,bI W0 B wb gY W' (l++Pk.be 3 (Pk.tJ ak))/\ji wr W':=wO (n:=3) q.out (by decide) F
   have I:Hid (Pk.lu ak=Pk.be 3 (Pk.tJ ak)++Pk.wP 0 ak):=rfl;generalize Pk.tJ ak=tn at R I;clear q;go_upto_region 8 with (go_at_call 45;refine R.mono ?_;rintro e w2⟨rfl,Q,h2,-⟩)
   clear R;have A:Hid (∃k m,bI W0 B wb m w2 k/\k++Pk.wP 0 (ak.drop 0)=l++Pk.lu ak):=⟨_,Q,h2,by rw[I.out,uk,dq]⟩;have HL:Hid ((l++Pk.lu ak).length<=1000000000):=by
    show _<=_;have:=Pk.NW ak 0;rw[I.out];simp only[List.length_append,Pk.nI];omega
   clear h2 I;go_wp2_with fail
   go_loopw [7,28] (fun v i wr=>∃j g:Nat,j<=ak.length/\g<=j/\i=.int .i64 (j:Int)/\v=.int .i64 (g:Int)/\Hid (∃k m,bI W0 B wb m wr k/\k++Pk.wP g (ak.drop j)=l++Pk.lu ak)) (fun _ i _=>ak.length - (intOf i).toNat)
   case atStart=>exact⟨0,0,by omega,zL0,rfl,rfl,A⟩
   case round=>
    clear A;revert wr;intro K hrel;obtain⟨j,r,hj,aa,rfl,rfl,q⟩:=hrel;obtain⟨k,m,h1,d⟩:=q.out;clear q
    by_cases hjn:j<ak.length
    ·have j1:(j:Int)<(ak.length:Int):=by omega
     obtain⟨x,hxj⟩:∃x,ak[j]?=some x:=⟨_,cF hjn⟩;obtain⟨g,rfl,S,c2,Z⟩:=O.out K k m h1 j x hxj;have hd:ak.drop j=x::ak.drop (j+1):=by
      obtain⟨hh,e⟩:=cG.1 hxj;rw[eR hh,e]
     have t:=G x (cJ hxj);rw[hd,Pk.wP]at d;obtain⟨f,o,p⟩:=x;simp only at S c2 Z t d;obtain⟨u,z⟩:∃V,V=K.alloc (.cells #[.int .i64 (f:Int),.int .i64 (o:Int),.int .i64 (p:Int)] 138):=⟨_,rfl⟩;obtain⟨E,s⟩:∃b,K.heap.size=b:=⟨_,rfl⟩;have H:aj u E #[.int .i64 (f:Int),.int .i64 (o:Int),.int .i64 (p:Int)] 138:=by rw[z,<-s];exact aj.new ..
     have h2:bI W0 B wb m u k:=by rw[z];exact h1.move ((cV _ _).alloc (zL0) _)
     have x1:u.cell? ⟨E,0,none⟩=some (.int .i64 (f:Int)):=H.cell 0;clear h1 hd O G
     by_cases h0:f=0
     ·have U:((f:Int) == 0)=true:=by simp[h0]
      rw[dj h0]at d;have N:Hid (∃k m,bI W0 B wb m u k/\k++Pk.wP (r+1) (ak.drop (j+1))=l++Pk.lu ak):=⟨k,m,h2,d⟩;clear h2 d H h0;go_upto_region 12 with fail
      rw[<-z];clear z s;go_wp2_with fail;exact⟨⟨j+1,r+1,by omega,by omega,by go_num,by go_num,N⟩,by simp[intOf];omega⟩
     ·have U:((f:Int) == 0)=false:=zB0 (by omega)
      rw[dt h0]at d;have ad:k.length+6<=1000000000:=by
       have h4:=fb List.length d;have M:=HL.out;rw[<-h4]at M;simp only[List.length_append,Pk.nI]at M;omega
      have HB:Hid (k++(Pk.be 2 r++Pk.be 2 p++Pk.be 2 (f*4096+o)++Pk.wP 0 (ak.drop (j+1)))=l++Pk.lu ak):=d;have q1:Calls prog 45 #[.pointer (some ⟨wb,0,none⟩),.int .i64 2,.int .i64 (r:Int)] u fun e W'=>e=.returned (.tuple #[])/\∃gY,bI W0 B wb gY W' (k++Pk.be 2 r)/\ji u W':=wO (n:=2) h2 (by decide) (by omega)
      clear h2 d;go_upto_region 12 with fail
      rw[<-z];clear z s;go_upto_region 15 with (go_at_call 45;refine q1.mono ?_;rintro e X⟨rfl,ac,h3,o3⟩)
      have k3:=o3.blk H (by decide) (by decide);have z3:X.cell? ⟨E,2,none⟩=some (.int .i64 (p:Int)):=k3.cell 2;have q2:Calls prog 45 #[.pointer (some ⟨wb,0,none⟩),.int .i64 2,.int .i64 (p:Int)] X fun e W'=>e=.returned (.tuple #[])/\∃gY,bI W0 B wb gY W' (k++Pk.be 2 r++Pk.be 2 p)/\ji X W':=wO (n:=2) h3 (by decide) (by rw[cH,Pk.nI];omega)
      clear q1 h3 o3 H x1;go_upto_region 16 with (go_at_call 45;refine q2.mono ?_;rintro e J⟨rfl,ab,h4,o4⟩)
      have T:=o4.blk k3 (by decide) (by decide);have z1:J.cell? ⟨E,0,none⟩=some (.int .i64 (f:Int)):=T.cell 0;have z2:J.cell? ⟨E,1,none⟩=some (.int .i64 (o:Int)):=T.cell 1;have q3:Calls prog 45 #[.pointer (some ⟨wb,0,none⟩),.int .i64 2,.int .i64 ((f*4096+o:Nat):Int)] J fun e W'=>e=.returned (.tuple #[])/\∃gY,bI W0 B wb gY W' (k++Pk.be 2 r++Pk.be 2 p++Pk.be 2 (f*4096+o))/\ji J W':=wO (n:=2) h4 (by decide) (by rw[cH,cH,Pk.nI,Pk.nI];omega)
      have eo:=amh f o t.1 t.2;rw[show ((f*4096:Nat):Int)=(f:Int)*4096 by omega]at eo;obtain⟨yy,P⟩:∃y,f*4096+o=y:=⟨_,rfl⟩;rw[P]at q3 eo;have HY:Hid (f*4096+o=yy):=P;clear q2 h4 o4 k3 T z3 P
      go_wp2_with (go_at_call 45;refine q3.mono ?_;rintro e w5⟨rfl,Y,M,o5⟩)
      refine⟨⟨j+1,0,by omega,by omega,by go_num,rfl,_,Y,M,?_⟩,by simp[intOf];omega⟩;rw[<-HB.out,HY.out];simp only[List.append_assoc]
    ·obtain rfl:j=ak.length:=by omega
     rw[io,Pk.wP,eV]at d;have D:Hid (bI W0 B wb m K (l++Pk.lu ak)):=by rw[<-d];exact h1
     clear h1 d;go_wp2_with fail
     go_end0
     exact⟨rfl,m,D.out⟩
end
namespace Lx
theorem NJ{u:Nat}(h:u<10):(UInt8.ofNat (48+u)).toNat=48+u:=by
 rw[ut];omega
theorem ami:∀(u:Nat),∀b∈Lib.decDigits u,48<=b.toNat/\b.toNat<=57:=by
 intro u
 induction u using Nat.strongRecOn with
 |_ u ih=>
  intro b a;rw[Lib.decDigits]at a
  split at a
  ·rename_i h
   rw[cN]at a;subst a;rw[NJ h];omega
  ·rename_i h
   rcases cY.1 a with a|a
   ·exact ih (u / 10) (by omega) b a
   ·rw[cN]at a
    subst a;rw[NJ (by omega)];omega
def Uf(l:List UInt8):Nat:=l.foldl (fun a b=>a*10+(b.toNat-48)) 0
theorem abI:∀u:Nat,Uf (Lib.decDigits u)=u:=by
 intro u
 induction u using Nat.strongRecOn with
 |_ u ih=>
  rw[Lib.decDigits]
  split
  ·rename_i h
   simp only[Uf,List.foldl_cons,List.foldl_nil];rw[NJ h];omega
  ·rename_i h
   have h1:=ih (u / 10) (by omega);unfold Uf at h1|-;rw[rj,h1];simp only[List.foldl_cons,List.foldl_nil];rw[NJ (by omega)];omega
theorem adz{a b:Nat}(h:Lib.decDigits a=Lib.decDigits b):a=b:=by rw[<-abI a,<-abI b,h]
theorem TL{c:UInt8}:∀{A A' R R':List UInt8},c∉A->c∉A'->A++c::R=A'++c::R'->A=A'/\R=R'
 | [],[],_,_,_,_,h=>⟨rfl,by simpa using h⟩
 | [],a::A',_,_,_,h2,h=>by simp at h;exact absurd (h.1▸ed) h2
 |a::A,[],_,_,h1,_,h=>by simp at h;exact absurd (h.1▸ed) h1
 |a::A,b::A',R,R',h1,h2,h=>by
  simp only[List.cons_append,List.cons.injEq]at h;obtain⟨f,g⟩:=TL (fun d=>h1 (ei _ d)) (fun d=>h2 (ei _ d)) h.2;exact⟨by rw[h.1,f],g⟩
def ni(K:List au):List UInt8:=K.flatMap fun s=>Lib.decDigits s.1++46::(Lib.decDigits s.2++[32])
theorem FK(s:au)(K:List au):ni (s::K)=Lib.decDigits s.1++46::(Lib.decDigits s.2++32::ni K):=by
 show (Lib.decDigits s.1++46::(Lib.decDigits s.2++[32]))++ni K=_;simp
theorem Oh{u:Nat}{c:UInt8}(h:c.toNat<48):c∉Lib.decDigits u:=fun a=>by have:=ami u c a;omega
theorem acK:∀{K K':List au},ni K=ni K'->K=K'
 | [],[],_=>rfl
 | [],s::K',h=>by
  rw[FK]at h;exact absurd (fb List.length h) (by simp[ni])
 |s::K,[],h=>by
  rw[FK]at h;exact absurd (fb List.length h) (by simp[ni])
 |s::K,s'::K',h=>by
  rw[FK,FK]at h;obtain⟨h1,h2⟩:=TL (Oh (by decide)) (Oh (by decide)) h;obtain⟨h3,h4⟩:=TL (Oh (by decide)) (Oh (by decide)) h2;rw[acK h4,qu (adz h1) (adz h3)]
def qo(K:List au):ByteArray:=⟨(ni K).toArray⟩
theorem acL{K a:List au}(h:qo K=qo a):K=a:=by
 have h1:=fb ByteArray.data h;exact acK (by simpa [qo]using h1)
end Lx
def lV(w:World)(B:Nat)(ts:List ByteArray):Prop:=∃es clock,w.heap[B]?=some (.map es clock)/\es.size=ts.length/\∀(i:Nat)(e:MapEntry),es[i]?=some e->∃t,ts[i]?=some t/\e.key=.string t/\e.val=.int .i64 (i:Int)
theorem lV.lt{w:World}{B:Nat}{ts:List ByteArray}(h:lV w B ts):B<w.heap.size:=by
 obtain⟨b,a,h1,-⟩:=h;exact(ek.1 h1).1
theorem lV.move{w w':World}{B:Nat}{ts:List ByteArray}(h:lV w B ts)(b:w'.heap[B]?=w.heap[B]?):lV w' B ts:=by
 obtain⟨c,a,h1,h2⟩:=h;exact⟨c,a,b.trans h1,h2⟩
theorem lV.made(w:World):lV (w.alloc (.map #[] 0)) w.heap.size []:=⟨#[],0,ot w _,rfl,fun i e h=>by simp at h⟩
theorem lV.keys{w:World}{B:Nat}{ts:List ByteArray}(h:lV w B ts):∃es clock,w.heap[B]?=some (.map es clock)/\es.size=ts.length/\(∀(i:Nat)(e:MapEntry),es[i]?=some e->∃t,ts[i]?=some t/\e.key=.string t/\e.val=.int .i64 (i:Int))/\∀x∈es.toList,∃c,x.key=Value.string c/\True:=by
 obtain⟨es,clock,h1,h2,h3⟩:=h;refine⟨es,clock,h1,h2,h3,fun x d=>?_⟩;obtain⟨i,a⟩:=eS.1 d;obtain⟨t,-,b,-⟩:=h3 i x (by rw[<-gh];exact a);exact⟨t,b,trivial⟩
theorem lV.miss{w:World}{B:Nat}{ts:List ByteArray}(h:lV w B ts){b:ByteArray}(d:b∉ts):(Instr.lookup 155 (.map (some B)) (.string b) true).run prog w=.ok (.tuple #[.int .i64 0,.bool false]) w:=by
 obtain⟨k,c,h1,h2,h3,h4⟩:=h.keys;rcases Tryz.Ce.find w b k.toList trivial h4 with ⟨i,-⟩|⟨j,e,-,g,f⟩
 ·simp[Instr.lookup,run_underlying Tryz.Jr,MapKept.run_getObj_map h1,Tryz.Ce.check,i,Result.andThen]
 ·obtain⟨t,ht,a,-⟩:=h3 j e (by rw[<-gh];exact g)
  rw[f]at a;cases a;exact absurd (cJ ht) d
theorem lV.hit{w:World}{B:Nat}{ts:List ByteArray}(h:lV w B ts)(x:ts.Nodup){i:Nat}{b:ByteArray}(g:ts[i]?=some b):(Instr.lookup 155 (.map (some B)) (.string b) true).run prog w=.ok (.tuple #[.int .i64 (i:Int),.bool true]) w:=by
 obtain⟨d,m,h1,h2,h3,h4⟩:=h.keys;rcases Tryz.Ce.find w b d.toList trivial h4 with ⟨o,k⟩|⟨j,e,o,r,p⟩
 ·obtain⟨s,-⟩:=cG.1 g
  have n:d[i]?=some d[i]:=kk (by omega);obtain⟨t,c,a,-⟩:=h3 i _ n;rw[g]at c;cases c;exact absurd a (k _ (by simp))
 ·have f:d[j]?=some e:=by rw[<-gh];exact r
  obtain⟨t,c,a,v⟩:=h3 j e f;rw[p]at a;cases a;have l:j=i:=by
   obtain⟨z,q⟩:=cG.1 c;obtain⟨y,u⟩:=cG.1 g;exact(lP x).1 (q.trans u.symm)
  subst l;rw[v]at o;simp[Instr.lookup,run_underlying Tryz.Jr,MapKept.run_getObj_map h1,Tryz.Ce.check,o,Result.andThen]
theorem lV.put{w:World}{B:Nat}{ts:List ByteArray}(h:lV w B ts){b:ByteArray}(p:b∉ts):∃w',(Instr.mapUpdate 155 (.map (some B)) (.string b) (.int .i64 (ts.length:Int))).run prog w=.ok () w'/\lV w' B (ts++[b])/\w.grownBy w' (some B)/\w'.heap.size=w.heap.size:=by
 obtain⟨m,a,h1,h2,h3,h4⟩:=h.keys;have d:∀o:Obj,w.grownBy { w with heap:=w.heap.setIfInBounds B o } (some B):=fun o=>⟨rfl,rfl,rfl,by simp,fun k _ l=>(po h1).2 k (fun e=>l (by rw[e]))⟩
 rcases Tryz.Ce.find w b m.toList trivial h4 with ⟨r,-⟩|⟨j,e,-,n,l⟩
 ·refine⟨{ w with heap:=w.heap.setIfInBounds B (.map (m.push { key:=.string b,val:=.int .i64 (ts.length:Int),born:=a }) (a+1)) },?_,⟨_,a+1,(po h1).1,by simp[h2],?_⟩,d _,by simp⟩
  ·simp[Instr.mapUpdate,run_underlying Tryz.Jr,MapKept.run_getObj_map h1,Tryz.Ce.check,r,MapKept.run_setObj_map _ h1,Result.andThen]
  ·intro i e g
   rw[pk]at g
   split at g
   ·rename_i f
    cases g;refine⟨b,?_,rfl,by rw[f,h2]⟩;rw[f,h2];simp
   ·obtain⟨t,ht,c,q⟩:=h3 i e g
    refine⟨t,?_,c,q⟩;rw[eL (cG.1 ht).1];exact ht
 ·obtain⟨t,ht,c,-⟩:=h3 j e (by rw[<-gh];exact n)
  rw[l]at c;cases c;exact absurd (cJ ht) p
end Go.Proofs.YtagkodkijkpemaaGreatDoor
namespace Go.Proofs
open Go.Shelf
def Tryz.agh:Go.Shelf.Ren:=⟨fun | 176=>142 | 249=>169 | 288=>181 | 283=>194 | 284=>195 | 285=>196 | 286=>197 | 129=>191 | 317=>205 | 318=>206 | 319=>207 | 320=>208 | 337=>210 | 338=>141 | n=>n,fun | 37=>112 | 2=>2 | 3=>3 | 53=>277 | 4=>4 | 9=>9 | 171=>331 | 0=>0 | 173=>333 | 212=>343 | 51=>82 | 5=>5 | 20=>20 | 213=>344 | 46=>135 | 232=>347 | 233=>311 | n=>n,fun | 17=>3 | 18=>4 | 19=>2 | n=>n⟩
theorem Tryz.akX:Go.Proofs.LaysM.n176 prog Tryz.agh:={
 mixed:=by kernel_rfl
 f129:=func191.trans (congrArg some (by kernel_rfl))
 f176:=func142.trans (congrArg some (by kernel_rfl))
 f249:=func169.trans (congrArg some (by kernel_rfl))
 f283:=func194.trans (congrArg some (by kernel_rfl))
 f284:=func195.trans (congrArg some (by kernel_rfl))
 f285:=func196.trans (congrArg some (by kernel_rfl))
 f286:=func197.trans (congrArg some (by kernel_rfl))
 f288:=func181.trans (congrArg some (by kernel_rfl))
 f317:=func205.trans (congrArg some (by kernel_rfl))
 f318:=func206.trans (congrArg some (by kernel_rfl))
 f319:=func207.trans (congrArg some (by kernel_rfl))
 f320:=func208.trans (congrArg some (by kernel_rfl))
 f337:=func210.trans (congrArg some (by kernel_rfl))
 f338:=func141.trans (congrArg some (by kernel_rfl))
 t0:=underlying0
 a0:=Tryz.isAgg0
 z0:=Tryz.sizeOf0
 v0:=Tryz.zeroValue0
 t2:=underlying2
 a2:=Tryz.isAgg2
 z2:=Tryz.sizeOf2
 v2:=Tryz.zeroValue2
 t3:=underlying3
 a3:=Tryz.isAgg3
 z3:=Tryz.sizeOf3
 v3:=Tryz.zeroValue3
 t4:=underlying4
 a4:=Tryz.isAgg4
 z4:=Tryz.sizeOf4
 v4:=Tryz.zeroValue4
 t5:=underlying5
 a5:=Tryz.isAgg5
 z5:=Tryz.sizeOf5
 v5:=Tryz.zeroValue5
 t9:=underlying9
 a9:=Tryz.isAgg9
 z9:=Tryz.sizeOf9
 v9:=Tryz.zeroValue9
 t20:=underlying20
 a20:=Tryz.isAgg20
 z20:=Tryz.sizeOf20
 v20:=Tryz.zeroValue20
 t37:=underlying112
 a37:=Tryz.isAgg112
 z37:=Tryz.sizeOf112
 v37:=Tryz.zeroValue112
 t46:=underlying135
 a46:=Tryz.isAgg135
 z46:=Tryz.sizeOf135
 v46:=Tryz.zeroValue135
 t51:=underlying82
 a51:=Tryz.isAgg82
 z51:=Tryz.sizeOf82
 v51:=Tryz.zeroValue82
 t53:=underlying277
 a53:=Tryz.isAgg277
 z53:=Tryz.sizeOf277
 v53:=Tryz.zeroValue277
 t171:=underlying331
 a171:=Tryz.isAgg331
 z171:=Tryz.sizeOf331
 v171:=Tryz.zeroValue331
 t173:=underlying333
 a173:=Tryz.isAgg333
 z173:=Tryz.sizeOf333
 v173:=Tryz.zeroValue333
 t212:=underlying343
 a212:=Tryz.isAgg343
 z212:=Tryz.sizeOf343
 v212:=Tryz.zeroValue343
 t213:=underlying344
 a213:=Tryz.isAgg344
 z213:=Tryz.sizeOf344
 t232:=underlying347
 a232:=Tryz.isAgg347
 z232:=Tryz.sizeOf347
 v232:=Tryz.zeroValue347
 t233:=underlying311
 a233:=Tryz.isAgg311
 z233:=Tryz.sizeOf311
 v233:=Tryz.zeroValue311
 g17:=by kernel_rfl
 g18:=by kernel_rfl
 g19:=by kernel_rfl
 i0:=by kernel_rfl
 i2:=by kernel_rfl
 i3:=by kernel_rfl
 i4:=by kernel_rfl
 i5:=by kernel_rfl
 i9:=by kernel_rfl
 i20:=by kernel_rfl
 i37:=by kernel_rfl
 i46:=by kernel_rfl
 i51:=by kernel_rfl
 i53:=by kernel_rfl
 i171:=by kernel_rfl
 i173:=by kernel_rfl
 i212:=by kernel_rfl
 i232:=by kernel_rfl
 i233:=by kernel_rfl
 m17:=by kernel_rfl
 m18:=by kernel_rfl
 m19:=by kernel_rfl }
def Tryz.ZL:Go.Shelf.Ren:=⟨fun | 6=>144 | 15=>172 | 14=>171 | 28=>190 | 29=>191 | 20=>182 | 21=>183 | 22=>184 | 23=>185 | 24=>186 | 25=>187 | 26=>188 | 27=>189 | 46=>198 | 47=>199 | 48=>200 | 49=>201 | 50=>202 | 57=>209 | n=>n,fun | 22=>235 | 24=>238 | 25=>294 | 3=>3 | 39=>135 | 0=>0 | 53=>82 | 55=>277 | 4=>4 | 46=>324 | 45=>323 | 50=>226 | 5=>5 | 9=>9 | 66=>335 | 70=>339 | 76=>345 | 77=>45 | n=>n,fun | n=>n⟩
theorem Tryz.adB:Go.Proofs.SlLaysF0.n6 prog Tryz.ZL:={
 mixed:=by kernel_rfl
 f6:=⟨Tryz.f144.name,by decide,func144.trans (congrArg some (by kernel_rfl))⟩
 f14:=⟨Tryz.f171.name,by decide,func171.trans (congrArg some (by kernel_rfl))⟩
 f15:=func172.trans (congrArg some (by kernel_rfl))
 f20:=⟨Tryz.f182.name,by decide,func182.trans (congrArg some (by kernel_rfl))⟩
 f21:=⟨Tryz.f183.name,by decide,func183.trans (congrArg some (by kernel_rfl))⟩
 f22:=⟨Tryz.f184.name,by decide,func184.trans (congrArg some (by kernel_rfl))⟩
 f23:=⟨Tryz.f185.name,by decide,func185.trans (congrArg some (by kernel_rfl))⟩
 f24:=⟨Tryz.f186.name,by decide,func186.trans (congrArg some (by kernel_rfl))⟩
 f25:=⟨Tryz.f187.name,by decide,func187.trans (congrArg some (by kernel_rfl))⟩
 f26:=⟨Tryz.f188.name,by decide,func188.trans (congrArg some (by kernel_rfl))⟩
 f27:=⟨Tryz.f189.name,by decide,func189.trans (congrArg some (by kernel_rfl))⟩
 f28:=func190.trans (congrArg some (by kernel_rfl))
 f29:=func191.trans (congrArg some (by kernel_rfl))
 f46:=⟨Tryz.f198.name,by decide,func198.trans (congrArg some (by kernel_rfl))⟩
 f47:=func199.trans (congrArg some (by kernel_rfl))
 f48:=func200.trans (congrArg some (by kernel_rfl))
 f49:=⟨Tryz.f201.name,by decide,func201.trans (congrArg some (by kernel_rfl))⟩
 f50:=⟨Tryz.f202.name,by decide,func202.trans (congrArg some (by kernel_rfl))⟩
 f57:=⟨Tryz.f209.name,by decide,func209.trans (congrArg some (by kernel_rfl))⟩
 t0:=underlying0
 a0:=Tryz.isAgg0
 z0:=Tryz.sizeOf0
 v0:=Tryz.zeroValue0
 t3:=underlying3
 a3:=Tryz.isAgg3
 z3:=Tryz.sizeOf3
 v3:=Tryz.zeroValue3
 t4:=underlying4
 a4:=Tryz.isAgg4
 z4:=Tryz.sizeOf4
 v4:=Tryz.zeroValue4
 t5:=underlying5
 a5:=Tryz.isAgg5
 z5:=Tryz.sizeOf5
 v5:=Tryz.zeroValue5
 t9:=underlying9
 a9:=Tryz.isAgg9
 z9:=Tryz.sizeOf9
 v9:=Tryz.zeroValue9
 t22:=underlying235
 a22:=Tryz.isAgg235
 z22:=Tryz.sizeOf235
 v22:=Tryz.zeroValue235
 t25:=underlying294
 a25:=Tryz.isAgg294
 z25:=Tryz.sizeOf294
 v25:=Tryz.zeroValue294
 t39:=underlying135
 a39:=Tryz.isAgg135
 z39:=Tryz.sizeOf135
 v39:=Tryz.zeroValue135
 t45:=underlying323
 a45:=Tryz.isAgg323
 z45:=Tryz.sizeOf323
 v45:=Tryz.zeroValue323
 t46:=underlying324
 a46:=Tryz.isAgg324
 z46:=Tryz.sizeOf324
 v46:=Tryz.zeroValue324
 t50:=underlying226
 a50:=Tryz.isAgg226
 z50:=Tryz.sizeOf226
 v50:=Tryz.zeroValue226
 t53:=underlying82
 a53:=Tryz.isAgg82
 z53:=Tryz.sizeOf82
 v53:=Tryz.zeroValue82
 t55:=underlying277
 a55:=Tryz.isAgg277
 z55:=Tryz.sizeOf277
 v55:=Tryz.zeroValue277
 t66:=underlying335
 a66:=Tryz.isAgg335
 z66:=Tryz.sizeOf335
 v66:=Tryz.zeroValue335
 t70:=underlying339
 a70:=Tryz.isAgg339
 z70:=Tryz.sizeOf339
 v70:=Tryz.zeroValue339
 t76:=underlying345
 a76:=Tryz.isAgg345
 z76:=Tryz.sizeOf345
 v76:=Tryz.zeroValue345
 t77:=underlying45
 a77:=Tryz.isAgg45
 z77:=Tryz.sizeOf45
 v77:=Tryz.zeroValue45 }
end Go.Proofs
namespace Go.Proofs.YtagkodkijkpemaaGreatDoor
open Lx Go.Proofs.Tryz
open Go.RowKit Tr
theorem Tryz.QG:prog.underlying 112=some (.slice 5):=by kernel_rfl
def BR(B:Nat)(w:World)(v:Value)(l:List UInt8):Prop:=w.ownsRow B 5 1 v l.length (Lib.byteCells l)
theorem ZM(a b:List UInt8):Lib.byteCells (a++b)=Lib.byteCells a++Lib.byteCells b:=by simp[Lib.byteCells]
def KpB(w w':World):Prop:=∀(g:Nat)(cs:Array Value)(e:Nat),e≠5->aj w g cs e->aj w' g cs e
theorem ZN {B : Nat}{w : World}{v : Value}{l : List UInt8}{n : Nat}(h : BR B w v l)(d : B ≤ w.heap.size)(q : n ≤ 1000000)(o : l.length ≤ 100000000000)(i : Lib.TabBelow prog B w "internal/strconv.uint64pow10" .u64 Lib.pow10Tab) : Calls prog 142 #[v, .int .i64 (n : Int), .int .i64 10] w fun e w' => ∃ v', e = .returned v' ∧ BR B w' v' (l ++ Lib.decDigits n) ∧ Below B w w' ∧ KpB w w' := by
 refine(Any.strconv_AppendInt_10 Tryz.akX B l.length (n:Int) (by omega) (by omega) v (Lib.byteCells l) w h d (by omega) i).mono ?_;rintro e w'⟨v',rfl,k,a,b⟩;refine⟨v',rfl,?_,a,fun g p e j f=>b g _ f (by simp) (fun c m h=>by cases h;exact j rfl)⟩;unfold BR;rw[ZM,cH,<-Lib.itoa_nonneg];exact k
theorem Tryz.acM{w:World}{i:Array Oper}{rest:List Oper}{o:Oper}{a:Act}{Q:Exit->Act->World->Prop}(z:o.guard=none)(s x:Operand)(G:o.op=.call { callee:=.builtin .append,args:=#[s,x],argTypes:=#[112,112] })(B:Nat)(H:B<=w.heap.size)(v:Value)(l:List UInt8)(J:a.eval s=v)(n:BR B w v l)(y:UInt8)(g c:Nat)(L:a.eval x=.slice (some ⟨g,0,none⟩) 1 c)(N:w.cell? ⟨g,0,none⟩=some (.int .u8 (y.toNat:Int)))(R:l.length<=100000000000)(h:∀v' w',BR B w' v' (l++[y])->Below B w w'->KpB w w'->wpList prog i Q rest (a.put o.dst v') w'):wpList prog i Q (o::rest) a w:=by
 obtain⟨E,t,q,r,p⟩:=ft Tryz.info5;refine js _ z s x 112 G B 5 E _ 1 1 Tryz.QG t q r p rfl (by decide) v l.length (Lib.byteCells l) J n ⟨g,0,none⟩ 1 c [Value.int .u8 (y.toNat:Int)] L rfl (by
  intro j u k
  match j,k with
  |0,k=>simp at k;subst k;simpa [Addr.add]using N) (by intro u C;simp at C;subst C;rfl) (by unfold maxLen;omega) (by omega) H fun M D d f _ _=>?_
 refine h M D ?_ ⟨f.os,f.tape,f.output,f.size,fun b P=>f.block b (by omega) fun e=>absurd (qt n b e.symm).1 (by omega)⟩ (fun g O e F m=>(f.block g m.lt fun I=>F (by
  obtain⟨K,A⟩:=gQ n I.symm;unfold aj at m;rw[m]at A;cases A;rfl)).trans m)
 unfold BR;rw[ZM,cH];exact d
theorem Lx.akY{K:List au}{j:Nat}(a:j<K.length):ni (K.take (j+1))=((ni (K.take j)++Lib.decDigits K[j].1)++[46]++Lib.decDigits K[j].2)++[32]:=by
 rw[fh a];unfold ni;rw[gw];simp
theorem NY{n:Nat}(h:n<=1000000):(Lib.decDigits n).length<=21:=by
 have:=Lib.itoa_length_le (n:Int) (by omega) (by omega);rw[Lib.itoa_nonneg]at this;exact this
theorem Lx.amj{K:List au}(h:∀s∈K,s.1<=1000000/\s.2<=1000000):(ni K).length<=K.length*44:=by
 induction K with
 |nil=>simp[ni]
 |cons s K ih=>
  rw[FK];have h1:=NY (h s ed).1;have h2:=NY (h s ed).2;have h3:=ih fun t a=>h t (ei _ a)
  simp only[List.length_append,List.length_cons];omega
theorem ah9{B0:Nat}{w:World}{v:Value}{K:List au}(S:aQ 160 2 iI B0 w v K)(N:K≠[])(hl:K.length<=1000000)(y:∀s∈K,s.1<=1000000/\s.2<=1000000)(ht:dM w):Calls prog 102 #[v] w fun e w'=>e=.returned (.string (qo K))/\Below w.heap.size w w':=by
 obtain⟨a,c,rfl,-⟩:∃a c,v=.slice a K.length c/\K.length<=maxLen:=aC S;have hT:=Lib.tabBelow_of_tabIs ht
 have T : Hid (Lib.TabBelow prog w.heap.size w "internal/strconv.uint64pow10" .u64 Lib.pow10Tab) := hT
 have HS:Hid (∀s∈K,s.1<=1000000/\s.2<=1000000):=y;clear hT ht y;go_enter func102,ntmps102;go_wp2_with fail
 go_loopg [3,8] K.length (fun m v i wr=>∃j:Nat,j+m=K.length/\i=.int .i64 (j:Int)/\BR w.heap.size wr v (ni (K.take j))/\Below w.heap.size w wr)
 case atStart=>exact⟨0,by omega,rfl,eQ _ _ _ _,cV _ _⟩
 case round=>
  revert wr;intro d hrel;obtain⟨j,ab,rfl,l,f⟩:=hrel;have hsz:=f.size;have k:(ni (K.take j)).length<=44000000:=by
   have:=amj (K:=K.take j) fun s y=>HS.out s (sn y)
   simp only[List.length_take]at this;omega
  by_cases hlt:j<K.length
  ·obtain⟨g,t,hv,-,lg,z⟩:=aQ.at Cn (aQ.below S f) hlt
   cases hv;have Z:=z 0 _ (by decide) rfl;have Y:=z 1 _ (by decide) rfl;have q:=HS.out K[j] (du hlt);have p:Hid (ni (K.take (j+1))=((ni (K.take j)++Lib.decDigits K[j].1)++[46]++Lib.decDigits K[j].2)++[32]):=akY hlt;have l1:=NY q.1;have O:=NY q.2;clear z;generalize K[j]=s at Z Y q p l1 O;obtain⟨M,F⟩:=s;simp only[Nat.add_zero]at Z Y q l1 O;generalize hX:ni (K.take j)=X at l k p;clear hX;have i1:(0:Int)<=(j:Int):=by omega
   have i2:(j:Int)<(K.length:Int):=by omega
   obtain⟨o,b⟩:∃W,W=d.alloc (.cells #[.int .i64 (M:Int),.int .i64 (F:Int)] 160):=⟨_,rfl⟩;have x:Below d.heap.size d o:=by rw[b];exact(cV _ _).alloc (zL0) _
   have R:aj o d.heap.size #[.int .i64 (M:Int),.int .i64 (F:Int)] 160:=by rw[b];exact aj.new d _ 160
   have ad:o.heap.size=d.heap.size+1:=by rw[b];simp
   have s0:o.cell? ⟨d.heap.size,0,none⟩=some (.int .i64 (M:Int)):=R.cell 0;have I:BR w.heap.size o _ X:=own_below l x;have Q:Below w.heap.size w o:=f.trans (x.mono (by omega));have U:=ZN I (by omega) q.1 (by omega) (T.out.on Q);go_upto_region 5 with fail
   rw[<-b];clear b;go_upto_region 6 with (go_at_call 142;refine U.mono ?_;rintro e w2⟨v2,rfl,B,r,WW⟩)
   have E:=WW _ _ 160 (by decide) R;have ae:=r.size;clear U s0;go_upto_region 7 with (at_builtin;go_loud (refine Tryz.acM rfl _ _ rfl w.heap.size (by simp;omega) _ _ rfl (own_below B ((cV _ _).alloc (zL0) _)) 46 _ 1 rfl ((aj.new _ _ 5).cell 0) (by simp;omega) ?_;intro v3 w3 H u A))
   have Qi:=A _ _ 160 (by decide) (E.alloc _);have ac:=u.size;have s1:w3.cell? ⟨d.heap.size,1,none⟩=some (.int .i64 (F:Int)):=Qi.cell 1;have L:Below w.heap.size w w3:=Q.trans (r.trans (((cV _ w2).alloc (by omega) _).trans u));have q7:=ZN H (by have:=L.size;omega) q.2 (by simp;omega) (T.out.on L);go_upto_region 8 with (go_at_call 142;refine q7.mono ?_;rintro e V⟨v4,rfl,D,C,yt⟩)
   have mo:Below w.heap.size w V:=L.trans C;have af:=mo.size;clear q7 s1
   go_wp2_with (at_builtin;go_loud (refine Tryz.acM rfl _ _ rfl w.heap.size (by simp;omega) _ _ rfl (own_below D ((cV _ _).alloc (zL0) _)) 32 _ 1 rfl ((aj.new _ _ 5).cell 0) (by simp;omega) ?_;intro v5 w5 J G CP))
   go_roundg (K.length - (j+1))
   case measure=>omega
   case rel=>exact⟨j+1,by omega,by go_num,by rw[p.out];exact J,mo.trans (((cV _ V).alloc (by omega) _).trans G)⟩
  ·obtain rfl:j=K.length:=by omega
   rw[fR]at l k;have n:ni K≠[]:=by
    cases K with
    |nil=>exact absurd rfl N
    |cons s K=>rw[FK];simp
   have p:Hid (qo K=⟨(ni K).toArray⟩):=rfl;generalize ni K=X at l n p;unfold BR at l;rcases l.2 with ⟨-,h0⟩|⟨g,t,ag,rfl,-,-,-,-,-,-⟩
   ·exact absurd (gz h0) n
   ·have aa:=run_convert_bytes_back (P:=prog) d 112 9 5 ⟨g,0,none⟩ t X Tryz.QG underlying5 underlying9 (fun j hj=>mz l (g:=g) rfl j _ (by simp[Lib.byteCells,hj]))
    clear l n;go_wp2_with fail;go_ret;exact⟨by rw[p.out];rfl,f⟩
namespace Pk
def By(l:List Nat):Prop:=∀x∈l,x<256
theorem By.app{l k:List Nat}(h:By l)(b:By k):By (l++k):=fun x a=>(cY.1 a).elim (h x) (b x)
theorem tK(x:Nat):∀n,By (be n x)
 |0=>fun y a=>by cases a
 |n+1=>fun y a=>by
  rw[be,eC]at a;rcases a with rfl|a
  ·exact tU _ (by decide)
  ·exact tK x n y a
theorem adC(t:ByteArray):By (sH t):=fun x a=>by
 obtain⟨y,-,rfl⟩:=ee.1 a;exact y.toNat_lt
theorem NK{α:Type}{f:α->List Nat}{l:List α}(h:∀x,By (f x)):By (l.flatMap f):=fun x a=>by
 obtain⟨y,-,b⟩:=fW.1 a;exact h y x b
theorem Ug:∀(l:List (Nat×Nat×Nat))(g:Nat),By (wP g l)
 | [],_=>fun x a=>by cases a
 |y::l,g=>by
  rw[wP]
  split
  ·exact Ug l _
  ·exact(((tK _ _).app (tK _ _)).app (tK _ _)).app (Ug l _)
theorem ad5(m:Mk):∀k,By (wD m k)
 |0=>fun x a=>by cases a
 |k+1=>(ad5 m k).app ((tK _ _).app (tK _ _))
theorem TM(m:Mk):∀k,(wD m k).length=4*k
 |0=>rfl
 |k+1=>by
  rw[wD,cH,TM m k,cH,nI,nI];omega
def wZ(l:List Nat):List Nat:=l.flatMap fun s=>be 2 (s-1)
def LK(T N:List ByteArray)(P:List (Nat×Nat))(m:Mk):List Nat:=[m.aH.length,T.length,N.length,P.length]
theorem acN(T N:List ByteArray)(P:List (Nat×Nat))(m:Mk):pW T N P m=wZ (LK T N P m)++(wS T++(wS N++(wR T.length P++(wD m m.aH.length++lu m.ak)))):=by
 simp[pW,wZ,LK,List.append_assoc]
theorem amk(T N:List ByteArray)(P:List (Nat×Nat))(m:Mk):By (pW T N P m):=by
 rw[acN];exact(NK fun _=>tK _ _).app ((NK fun _=>(tK _ _).app (adC _)).app ((NK fun _=>(tK _ _).app (adC _)).app ((NK fun _=>(tK _ _).app (tK _ _)).app ((ad5 _ _).app ((tK _ _).app (Ug _ _))))))
theorem Sz(l:List Nat):(zC l).size=l.length:=by
 show (l.map fun x=>UInt8.ofNat x).toArray.size=_;simp
end Pk
theorem aml{l:List Nat}(h:Pk.By l):PG (Pk.zC l)=l.map uq:=by
 unfold PG Pk.zC;simp only[List.map_map];refine ml fun x b=>?_
 have a:=h x b;show uq (UInt8.ofNat x).toNat=uq x;rw[ut,wi a]
theorem ag3{w:World}{pb:Nat}{ta na:Option Addr}{tc nc:Nat}{vs:Nat->Value}{T N:List ByteArray}{P:List (Nat×Nat)}{m:Pk.Mk}(hS:pE w)(a7:0<w.heap.size)(kp:aj w pb (GK (.slice ta T.length tc) (.slice na N.length nc) vs) 79)(hT:zh w (.slice ta T.length tc) T)(hN:zh w (.slice na N.length nc) N)(r0:bQ w (vs 0) m.aB)(r1:lZ w (vs 1) m.ak)(r4:vY w (vs 4) P)(r5:bQ w (vs 5) m.aH)(h0:0<m.aH.length/\0<T.length/\0<N.length/\0<P.length)(ae:m.aB.length=m.aH.length)(hp:∀x∈P,T.length<=x.1/\x.1<=1000000000)(M:∀x∈m.ak,x.1<=15/\x.2.1<4096)(J:(Pk.pW T N P m).length<=100000000)(aX:m.ak.length<=10000000)(bb:m.aH.length<=1000000/\T.length<=1000000/\N.length<=1000000/\P.length<=1000000):Calls prog 22 #[.pointer (some ⟨pb,0,none⟩)] w fun e w'=>e=.returned (.string (Pk.written T N P m))/\Below w.heap.size w w':=by
 obtain⟨a0,k0,aq,af⟩:=r0;obtain⟨a1,k1,aw,ap⟩:=r1;obtain⟨a4,k4,am,ab⟩:=r4;obtain⟨a5,k5,an,ru⟩:=r5;obtain⟨B,hB⟩:∃B,w.heap.size=B:=⟨_,rfl⟩;obtain⟨w1,C⟩:∃V,V=w.alloc (.cells #[.slice none 0 0] 114):=⟨_,rfl⟩;have h1:bI w B B (.slice none 0 0) w1 []:=⟨by rw[C,<-hB];exact aj.new ..,eQ _ _ _ _,by rw[C,<-hB];exact(cV _ _).alloc (zL0) _,zL0⟩;have t:Hid (∀wr l v,bI w B B v wr l->wr.cell? ⟨pb,0,none⟩=some (.slice a0 m.aB.length k0)/\wr.cell? ⟨pb,1,none⟩=some (.slice a1 m.ak.length k1)/\wr.cell? ⟨pb,2,none⟩=some (.slice ta T.length tc)/\wr.cell? ⟨pb,3,none⟩=some (.slice na N.length nc)/\wr.cell? ⟨pb,4,none⟩=some (.slice a4 P.length k4)/\wr.cell? ⟨pb,5,none⟩=some (.slice a5 m.aH.length k5)):=fun wr l v h=>by
  have k:aj wr pb (GK (.slice ta T.length tc) (.slice na N.length nc) vs) 79:=(h.b.block pb (by rw[<-hB];exact kp.lt)).trans kp;exact⟨by rw[<-aq];exact k.cell 0,by rw[<-aw];exact k.cell 1,k.cell 2,k.cell 3,by rw[<-am];exact k.cell 4,by rw[<-an];exact k.cell 5⟩
 have HR:Hid (∀wr,Below B w wr->(∀(j:Nat)x,m.aB[j]?=some x->∃g,a0=some ⟨g,0,none⟩/\wr.cell? ⟨g,j,none⟩=some (.int .i64 (x:Int)))/\(∀(j:Nat)x,m.aH[j]?=some x->∃g,a5=some ⟨g,0,none⟩/\wr.cell? ⟨g,j,none⟩=some (.int .i64 (x:Int)))/\(∀(j:Nat)x,P[j]?=some x->∃g,a4=some ⟨g,0,none⟩/\wr.cell? ⟨g,j*2,none⟩=some (.int .i64 (x.1:Int))/\wr.cell? ⟨g,j*2+1,none⟩=some (.int .i64 (x.2:Int)))):=fun wr Z=>by
  rw[<-hB]at Z;refine⟨fun j x M=>?_,fun j x M=>?_,fun j x M=>?_⟩
  ·obtain⟨g,e,h⟩:=af j x M
   rw[j9]at h;exact⟨g,e,aM Z h⟩
  ·obtain⟨g,e,h⟩:=ru j x M
   rw[j9]at h;exact⟨g,e,aM Z h⟩
  ·obtain⟨g,e,h,h'⟩:=ab j x M
   exact⟨g,e,aM Z h,aM Z h'⟩
 have O:Hid ((∀wr v l,bI w B B v wr l->l.length+(Pk.wS T).length<=1000000000->Calls prog 46 #[.pointer (some ⟨B,0,none⟩),.slice ta T.length tc] wr fun e c=>e=.returned (.tuple #[])/\∃gY,bI w B B gY c (l++Pk.wS T))/\(∀wr v l,bI w B B v wr l->l.length+(Pk.wS N).length<=1000000000->Calls prog 46 #[.pointer (some ⟨B,0,none⟩),.slice na N.length nc] wr fun e c=>e=.returned (.tuple #[])/\∃gY,bI w B B gY c (l++Pk.wS N))/\(∀wr v l,bI w B B v wr l->l.length+3+6*m.ak.length<=1000000000->Calls prog 47 #[.pointer (some ⟨B,0,none⟩),.slice a1 m.ak.length k1] wr fun e c=>e=.returned (.tuple #[])/\∃gY,bI w B B gY c (l++Pk.lu m.ak))/\(∀wr,Below B w wr->pE wr)):=by
  subst hB;exact⟨fun wr v l h J=>ZB h hT J,fun wr v l h J=>ZB h hN J,fun wr v l h J=>ag2 h ⟨a1,k1,rfl,ap⟩ J M,fun wr Z=>hS.move (Z.block 0 a7)⟩
 obtain⟨c0,S,c2,c3,c4,c5⟩:=t.out _ _ _ h1;have q:Hid (Pk.pW T N P m=Pk.wZ (Pk.LK T N P m)++(Pk.wS T++(Pk.wS N++(Pk.wR T.length P++(Pk.wD m m.aH.length++Pk.lu m.ak))))):=Pk.acN T N P m;have WX:Hid (Pk.By (Pk.pW T N P m)):=Pk.amk T N P m;have HW:Hid (Pk.written T N P m=Pk.zC (Pk.pW T N P m++Pk.be 4 (Pk.sum (Pk.zC (Pk.pW T N P m)) (Pk.pW T N P m).length))):=rfl;have aF:Hid (w.heap.size=B):=hB;obtain⟨z,hz⟩:∃z,Pk.LK T N P m=z:=⟨_,rfl⟩;obtain⟨w2,D⟩:∃V,V=(w1.alloc (.cells #[.int .i64 (m.aH.length:Int),.int .i64 (T.length:Int),.int .i64 (N.length:Int),.int .i64 (P.length:Int)] 3)).drew:=⟨_,rfl⟩;obtain⟨bs,a8⟩:∃b,w1.heap.size=b:=⟨_,rfl⟩;have k2:aj w2 bs (eU z) 3:=by rw[D,<-a8,<-hz];exact(aj.new ..).drew
 have h2:bI w B B (.slice none 0 0) w2 []:=h1.move (by rw[D];exact((cV _ _).alloc (zL0) _).drew);have HZ:Hid (z.length=4/\∀x∈z,0<x/\x<=1000000):=by
  refine⟨by rw[<-hz];rfl,?_⟩;rw[<-hz];simp only[Pk.LK,List.mem_cons,List.not_mem_nil,or_false];rintro x(rfl | rfl | rfl | rfl) <;> omega
 have E:Hid (∃v l,bI w B B v w2 l/\aj w2 bs (eU z) 3/\l++(Pk.wZ (z.drop 0)++(Pk.wS T++(Pk.wS N++(Pk.wR T.length P++(Pk.wD m m.aH.length++Pk.lu m.ak)))))=Pk.pW T N P m):=⟨_,[],h2,k2,by rw[q.out,hz];rfl⟩;clear af ap ab ru aq aw am an kp hT hN M hS h1 k2 h2 hz q;have ai:Hid (m.aB.length=m.aH.length):=ae;have HP:Hid (∀x∈P,T.length<=x.1/\x.1<=1000000000):=hp;clear ae hp h0;obtain⟨f,ac⟩:∃l,Pk.pW T N P m=l:=⟨_,rfl⟩;rw[ac]at J E WX HW;clear ac;go_enter func22,ntmps22;go_upto_region 2 with fail
 rw[<-C];clear C
 go_region
 rw[<-D];clear D c0 S c2 c3 c4 c5;go_wp2_with fail
 go_loopw [32] (fun i wr=>∃j:Nat,j<=4/\i=.int .i64 (j:Int)/\Hid (∃v l,bI w B B v wr l/\aj wr bs (eU z) 3/\l++(Pk.wZ (z.drop j)++(Pk.wS T++(Pk.wS N++(Pk.wR T.length P++(Pk.wD m m.aH.length++Pk.lu m.ak)))))=f)) (fun i _=>4 - (intOf i).toNat)
 case atStart=>exact⟨0,by omega,rfl,E⟩
 case round=>
  clear E;obtain⟨j,hj,rfl,R⟩:=hrel;obtain⟨v,l,h1,kS,a⟩:=R.out;clear R
  by_cases hjn:j<4
  ·have j1:(j:Int)<4:=by omega
   obtain⟨s,hs⟩:∃s,z[j]?=some s:=⟨_,cF (by rw[HZ.out.1];exact hjn)⟩;have bg:=HZ.out.2 s (cJ hs);have cs:wr.cell? ⟨bs,j,none⟩=some (.int .i64 (s:Int)):=by rw[kS.cell];exact Si hs
   have hd:z.drop j=s::z.drop (j+1):=by
    obtain⟨hh,e⟩:=cG.1 hs;rw[eR hh,e]
   have e1:Pk.wZ (z.drop j)=Pk.be 2 (s-1)++Pk.wZ (z.drop (j+1)):=by rw[hd];rfl
   rw[e1]at a;obtain⟨Y,rfl⟩:∃Y,s=Y+1:=⟨s-1,by omega⟩;rw[Nat.add_sub_cancel]at a;rw[show ((Y+1:Nat):Int)=(Y:Int)+1 by omega]at cs;have G:l.length<=100000000:=by
    have:=fb List.length a;rw[cH]at this;omega
   have u:Calls prog 45 #[.pointer (some ⟨B,0,none⟩),.int .i64 2,.int .i64 (Y:Int)] wr fun e c=>e=.returned (.tuple #[])/\∃gY,bI w B B gY c (l++Pk.be 2 Y)/\ji wr c:=wO (n:=2) h1 (by decide) (by omega)
   have q:Hid (l++(Pk.be 2 Y++Pk.wZ (z.drop (j+1))++(Pk.wS T++(Pk.wS N++(Pk.wR T.length P++(Pk.wD m m.aH.length++Pk.lu m.ak)))))=f):=a;clear h1 a hd e1 t HR O
   go_wp2_with (go_at_call 45;refine u.mono ?_;rintro e o⟨rfl,a9,h3,o3⟩)
   refine⟨⟨j+1,by omega,by go_num,a9,_,h3,o3.blk kS (by decide) (by decide),?_⟩,by simp[intOf];omega⟩;rw[<-q.out];simp only[List.append_assoc]
  ·obtain rfl:j=4:=by omega
   rw[t7 (by rw[HZ.out.1];exact zL0)]at a;have q:Hid (l++(Pk.wS T++(Pk.wS N++(Pk.wR T.length P++(Pk.wD m m.aH.length++Pk.lu m.ak))))=f):=a;have I:Hid ((l++(Pk.wS T++(Pk.wS N++(Pk.wR T.length P++(Pk.wD m m.aH.length++Pk.lu m.ak))))).length<=100000000):=by show _<=_;rw[q.out];exact J
   have ar:=I.out;simp only[List.length_append]at ar;have q1:=O.out.1 wr v l h1 (by omega);obtain⟨-,-,c2,-,-,-⟩:=t.out _ _ _ h1;clear h1 kS a HZ;go_upto_region 8 with (go_at_call 46;refine q1.mono ?_;rintro e o⟨rfl,v3,h3⟩)
   have q2:=O.out.2.1 o v3 _ h3 (by rw[cH];omega);obtain⟨-,-,-,c3,-,-⟩:=t.out _ _ _ h3;clear q1 c2 h3;go_upto_region 9 with (go_at_call 46;refine q2.mono ?_;rintro e w4⟨rfl,v4,h4⟩)
   obtain⟨-,-,-,-,c4,-⟩:=t.out _ _ _ h4;have E:Hid (∃v l,bI w B B v w4 l/\l++(Pk.wR T.length (P.drop 0)++(Pk.wD m m.aH.length++Pk.lu m.ak))=f):=⟨v4,_,h4,by rw[<-q.out];simp only[List.append_assoc,List.drop_zero]⟩;clear q2 c3 h4 q I ar;go_wp2_with fail;clear c4
   go_loopw [55] (fun i wr=>∃j:Nat,j<=P.length/\i=.int .i64 (j:Int)/\Hid (∃v l,bI w B B v wr l/\l++(Pk.wR T.length (P.drop j)++(Pk.wD m m.aH.length++Pk.lu m.ak))=f)) (fun i _=>P.length - (intOf i).toNat)
   case atStart=>exact⟨0,by omega,rfl,E⟩
   case round=>
    clear E;revert wr;intro wz hrel;obtain⟨j,hj,rfl,R⟩:=hrel;obtain⟨v,l,h1,a⟩:=R.out;clear R
    by_cases hjn:j<P.length
    ·have j1:(j:Int)<(P.length:Int):=by omega
     obtain⟨x,hxj⟩:∃x,P[j]?=some x:=⟨_,cF hjn⟩;obtain⟨g,rfl,S,c2⟩:=(HR.out wz h1.b).2.2 j x hxj;have a2:=HP.out x (cJ hxj);have hd:P.drop j=x::P.drop (j+1):=by
      obtain⟨hh,e⟩:=cG.1 hxj;rw[eR hh,e]
     have e1:Pk.wR T.length (P.drop j)=(Pk.be 2 (x.1-T.length)++Pk.be 2 x.2)++Pk.wR T.length (P.drop (j+1)):=by rw[hd];rfl
     rw[e1]at a;obtain⟨y1,y2⟩:=x;simp only at S c2 a2 a;obtain⟨d,al⟩:∃d,y1-T.length=d:=⟨_,rfl⟩;rw[al]at a;have e3:(y1:Int) - (T.length:Int)=(d:Int):=by omega
     have e4:IntKind.i64.wrap (d:Int)=(d:Int):=by rw[iz];omega
     have bd:d<=1000000000:=by omega
     have G:l.length+4<=100000000:=by
      have:=fb List.length a;simp only[List.length_append,Pk.nI]at this;omega
     obtain⟨H,aY⟩:∃V,V=wz.alloc (.cells #[.int .i64 (y1:Int),.int .i64 (y2:Int)] 81):=⟨_,rfl⟩;obtain⟨bx,ax⟩:∃b,wz.heap.size=b:=⟨_,rfl⟩;have kX:aj H bx #[.int .i64 (y1:Int),.int .i64 (y2:Int)] 81:=by rw[aY,<-ax];exact aj.new ..
     have h2:bI w B B v H l:=h1.move (by rw[aY];exact(cV _ _).alloc (zL0) _);have x1:H.cell? ⟨bx,0,none⟩=some (.int .i64 (y1:Int)):=kX.cell 0;obtain⟨-,-,a6,-,-,-⟩:=t.out _ _ _ h2;have u:∀K,Calls prog 45 #[.pointer (some ⟨B,0,none⟩),.int .i64 2,.int .i64 (d:Int)] (H.drewN K) fun e c=>e=.returned (.tuple #[])/\∃gY,bI w B B gY c (l++Pk.be 2 d)/\ji (H.drewN K) c:=fun K=>wO (n:=2) (W:=H.drewN K) (h2.move ⟨rfl,rfl,rfl,zL0,fun _ _=>rfl⟩) (by decide) (by omega)
     have q:Hid (l++(Pk.be 2 d++Pk.be 2 y2++Pk.wR T.length (P.drop (j+1))++(Pk.wD m m.aH.length++Pk.lu m.ak))=f):=a;have ad:Hid (∀K o,ji (H.drewN K) o->aj o bx #[.int .i64 (y1:Int),.int .i64 (y2:Int)] 81):=fun K o ho=>ho.blk (show aj (H.drewN K) bx _ 81 from kX) (by decide) (by decide)
     clear h1 h2 a hd e1 kX t HR O al a2 HP;go_upto_region 12 with fail
     rw[<-aY];clear aY ax;refine(sq (n:=9)).1 ?_;refine qp 8 (by kernel_rfl) (by kernel_rfl) (by kernel_rfl) ?_
     dsimp only[List.take,List.drop,List.length]
     repeat (gi_big_quiet_step (fail))
     refine wpQuietIn_nil ?_;rintro _⟨bh,rfl⟩;refine wpAnyIn_ready (rs:=[8]) (by kernel_rfl) (by simp) (AllReadyIn.cons rfl (fun K2 ah=>?_) AllReadyIn.nil)
     go_simp
     refine⟨trivial,(ij.2 (u _)).mono ?_⟩;rintro e o⟨rfl,v3,h3,o3⟩;have ao:=ad.out _ _ o3;have z2:o.cell? ⟨bx,1,none⟩=some (.int .i64 (y2:Int)):=ao.cell 1;have WY:Calls prog 45 #[.pointer (some ⟨B,0,none⟩),.int .i64 2,.int .i64 (y2:Int)] o fun e c=>e=.returned (.tuple #[])/\∃gY,bI w B B gY c (l++Pk.be 2 d++Pk.be 2 y2)/\ji o c:=wO (n:=2) h3 (by decide) (by rw[cH,Pk.nI];omega)
     clear u h3 o3 ad ao x1 a6;refine ah _ _ (wpAnyIn_done (by kernel_rfl) ?_ _);clear ah K2
     go_wp2_with (go_at_call 45;refine WY.mono ?_;rintro e w4⟨rfl,v4,h4,o4⟩)
     refine⟨⟨j+1,by omega,by go_num,v4,_,h4,?_⟩,by simp[intOf];omega⟩;rw[<-q.out];simp only[List.append_assoc]
    ·obtain rfl:j=P.length:=by omega
     rw[io]at a;obtain⟨-,-,-,-,-,c5⟩:=t.out _ _ _ h1;have E:Hid (∃v p,bI w B B v wz (p++Pk.wD m 0)/\p++(Pk.wD m m.aH.length++Pk.lu m.ak)=f):=⟨v,l,by rw[Pk.wD,eV];exact h1,a⟩;clear h1 a HP;go_wp2_with fail;clear c5
     go_loopw [77] (fun i wr=>∃j:Nat,j<=m.aH.length/\i=.int .i64 (j:Int)/\Hid (∃v p,bI w B B v wr (p++Pk.wD m j)/\p++(Pk.wD m m.aH.length++Pk.lu m.ak)=f)) (fun i _=>m.aH.length - (intOf i).toNat)
     case atStart=>exact⟨0,by omega,rfl,E⟩
     case round=>
      clear E;revert wr;intro wy hrel;obtain⟨j,hj,rfl,R⟩:=hrel;obtain⟨v,p,h1,a⟩:=R.out;clear R
      by_cases hjn:j<m.aH.length
      ·have j1:(j:Int)<(m.aH.length:Int):=by omega
       have j2:(j:Int)<(m.aB.length:Int):=by have:=ai.out;omega
       obtain⟨x,hxj⟩:∃x,m.aH[j]?=some x:=⟨_,cF hjn⟩;obtain⟨y,az⟩:∃x,m.aB[j]?=some x:=⟨_,cF (by have:=ai.out;omega)⟩;obtain⟨g,rfl,S⟩:=(HR.out wy h1.b).2.1 j x hxj;have hD:Pk.wD m (j+1)=Pk.wD m j++(Pk.be 1 x++Pk.be 3 y):=by
        rw[Pk.wD,ej,ej,hxj,az];rfl
       have G:(p++Pk.wD m j).length+4<=100000000:=by
        have A:=fb List.length a;simp only[List.length_append,Pk.TM]at A|-;omega
       have u:Calls prog 45 #[.pointer (some ⟨B,0,none⟩),.int .i64 1,.int .i64 (x:Int)] wy fun e c=>e=.returned (.tuple #[])/\∃gY,bI w B B gY c (p++Pk.wD m j++Pk.be 1 x)/\ji wy c:=wO (n:=1) h1 (by decide) (by omega)
       have q:Hid (p++(Pk.wD m m.aH.length++Pk.lu m.ak)=f):=a;have aP:Hid (Pk.wD m (j+1)=Pk.wD m j++(Pk.be 1 x++Pk.be 3 y)):=hD;clear h1 a hD;go_upto_region 19 with (go_at_call 45;refine u.mono ?_;rintro e o⟨rfl,v3,h3,o3⟩)
       obtain⟨c0,-⟩:=t.out _ _ _ h3;obtain⟨g0,rfl,c2⟩:=(HR.out o h3.b).1 j y az;have WY:Calls prog 45 #[.pointer (some ⟨B,0,none⟩),.int .i64 3,.int .i64 (y:Int)] o fun e c=>e=.returned (.tuple #[])/\∃gY,bI w B B gY c (p++Pk.wD m j++Pk.be 1 x++Pk.be 3 y)/\ji o c:=wO (n:=3) h3 (by decide) (by rw[cH,Pk.nI];omega)
       clear u h3 o3 S t HR O
       go_wp2_with (go_at_call 45;refine WY.mono ?_;rintro e w4⟨rfl,v4,h4,o4⟩)
       refine⟨⟨j+1,by omega,by go_num,v4,p,?_,q.out⟩,by simp[intOf];omega⟩;rw[aP.out];simp only[List.append_assoc]at h4|-;exact h4
      ·obtain rfl:j=m.aH.length:=by omega
       obtain⟨-,S,-⟩:=t.out _ _ _ h1;have G:(p++Pk.wD m m.aH.length).length<=100000000:=by
        have A:=fb List.length a;simp only[List.length_append]at A|-;omega
       have WZ:=O.out.2.2.1 wy v _ h1 (by omega);rw[dq,a]at WZ;clear h1 a G;go_upto_region 22 with (go_at_call 47;refine WZ.mono ?_;rintro e o⟨rfl,v3,h3⟩)
       clear WZ S;obtain⟨ba,bc,rfl,-⟩:=aC h3.r;have c3:o.cell? ⟨B,0,none⟩=some (.slice ba f.length bc):=h3.blk.cell 0;have Qj:=akh (v:=.slice ba f.length bc) (B:=B) (O.out.2.2.2 o h3.b) (Pk.zC f) (by rw[Pk.Sz,aml WX.out];exact h3.r);rw[Pk.Sz]at Qj;obtain⟨Q,F⟩:∃s,Pk.sum (Pk.zC f) f.length=s:=⟨_,rfl⟩;rw[F]at Qj;have aG:Hid (Pk.sum (Pk.zC f) f.length=Q):=F;have bi:Q<4294967296:=by rw[<-F];exact Pk.sum_lt _ _
       have u:Calls prog 45 #[.pointer (some ⟨B,0,none⟩),.int .i64 4,.int .i64 (Q:Int)] o fun e c=>e=.returned (.tuple #[])/\∃gY,bI w B B gY c (f++Pk.be 4 Q)/\ji o c:=wO (n:=4) h3 (by decide) (by omega)
       clear h3 F O t HR;go_upto_region 23 with (first
        | (go_at_call 48;refine Qj.mono ?_;rintro e w4⟨rfl,aA⟩;obtain rfl:=aA.symm)
        | (go_at_call 45;refine u.mono ?_;rintro e w5⟨rfl,v5,A,o5⟩))
       clear Qj u c3;have U:Pk.By (f++Pk.be 4 Q):=WX.out.app (Pk.tK _ _);have L:Hid (Pk.written T N P m=⟨((f++Pk.be 4 Q).map fun x=>UInt8.ofNat x).toArray⟩):=by show _=_;rw[HW.out,aG.out];rfl
       have aa:f++Pk.be 4 Q≠[]:=by rw[Pk.be];simp
       generalize f++Pk.be 4 Q=X at A U L aa;rcases A.r.2 with ⟨-,a3⟩|⟨g,av,bf,rfl,-⟩
       ·exact absurd (gz a3) aa
       ·have aE:=run_convert_bytes_back (P:=prog) w5 112 9 5 ⟨g,0,none⟩ av (X.map fun x=>UInt8.ofNat x) Tryz.QG underlying5 underlying9 (fun j hj=>by
         have ag:j<X.length:=by simpa using hj
         have:=mz A.r (g:=g) rfl j (uq X[j]) (by simp[ag]);rw[this,oS,ut,wi (U _ (du ag))];rfl)
        rw[dk]at aE;have c5:w5.cell? ⟨B,0,none⟩=some (.slice (some ⟨g,0,none⟩) X.length av):=A.blk.cell 0;have aI:=A.b;clear A aa U;go_wp2_with fail;go_ret;exact⟨by rw[L.out];rfl,by rw[aF.out];exact aI⟩
def nZ:ByteArray:=⟨#[0,3,0,1,0,1,0,2,1,36,1,65,6,36,115,116,97,114,116,1,115,0,0,0,1,0,1,0,2,0,1,0,0,2,0,0,0,2,0,0,1,0,0,0,0,1,0,0,0,0,0,5,0,0,0,2,48,0,0,0,0,0,16,1,0,0,0,1,16,1,0,0,0,0,16,2,0,0,0,1,16,3,187,56,146,246]⟩
theorem anz:Pk.ok nZ=true:=by decide +kernel
def Bp:ByteArray:=⟨#[115,32,61,32,65,32,115,32,124,32,59]⟩
namespace Lx
def nu(sz:Nat)(E:List Nat):List Bool:=(List.range sz).map fun n=>decide (n∈E)
theorem amm(sz:Nat)(E:List Nat):(nu sz E).length=sz:=by simp[nu]
theorem am4{sz n:Nat}{E:List Nat}(h:n<sz):aK (nu sz E) n=decide (n∈E):=by simp[aK,nu,h]
theorem amn(sz:Nat):nu sz []=List.replicate sz false:=by
 apply ms
 ·simp[nu]
 ·intro i h1 h2;simp[nu]
theorem amo{sz n:Nat}{E:List Nat}:(nu sz E).set n true=nu sz (n::E):=by
 apply ms
 ·simp[nu]
 ·intro i h1 h2
  simp only[nu,List.length_map,List.length_range]at h2;rw[tE];simp only[nu,List.getElem_map,List.getElem_range,List.mem_cons]
  by_cases e:n=i
  ·subst e;simp
  ·have:¬i=n:=fun h=>e h.symm
   simp[e,this]
structure lI(P:List Pd)(st:Nat)(K l:List au)(E:List Nat)(j:Nat):Prop where
 zok:pK P K l
 jE:Am P st l E
 Bd:∀s∈l,s.1<P.length/\s.2<=(bM P s.1).length
 run:∀r,Ck P l E j r->Ck P K [] 0 r
theorem lI.first{P:List Pd}{sz st:Nat}(b:nV P sz st){i:Nat}{K:List au}(h:sO P i K):lI P st K K [] 0:=⟨pK.refl P K,Am.kernel (h.zero b),fun s a=>⟨(h.Bd s a).1,(h.Bd s a).2.1⟩,fun _ h=>h⟩
theorem lI.step{P:List Pd}{sz st:Nat}(c:nV P sz st){K l:List au}{E:List Nat}{j:Nat}(h:lI P st K l E j)(d:j<l.length):lI P st K (qE P (dQ P l[j]) l E).1 (qE P (dQ P l[j]) l E).2 (j+1):=by
 obtain⟨h1,h2⟩:=h.jE.same c.aeW l[j];refine⟨by rw[<-h1];exact h.zok.add _,h2,fun s a=>?_,fun r b=>h.run r (.step d b)⟩;rw[<-h1]at a;cases hb:dQ P l[j] with
 |none=>rw[hb,ML]at a;exact h.Bd s a
 |some n=>
  rw[hb,NA]at a;rcases cY.1 a with a|a
  ·exact h.Bd s a
  ·obtain⟨g,f,-⟩:=Fw.1 (hU.1 a).1
   exact⟨f,by omega⟩
theorem lI.known{P:List Pd}{st:Nat}{K l:List au}{E:List Nat}{j n:Nat}(h:lI P st K (qE P (some n) l E).1 (qE P (some n) l E).2 j)(a:n∈E):lI P st K l E j:=by
 unfold qE at h;simp only[if_pos a]at h;exact h
theorem lI.new{P:List Pd}{st:Nat}{K l:List au}{E:List Nat}{j n:Nat}(h:lI P st K (qE P (some n) l E).1 (qE P (some n) l E).2 j)(a:n∉E):lI P st K (l++fM P n P.length) (n::E) j:=by
 unfold qE at h;simp only[if_neg a]at h;exact h
theorem lI.done{P:List Pd}{sz st:Nat}(a:nV P sz st){i:Nat}{K l:List au}(b:sO P i K){E:List Nat}{j:Nat}(h:lI P st K l E j)(c:l.length<=j):l=Lx.jE P K:=(h.run l (.done c)).jE a.aeW (b.zero a)
end Lx
theorem Tryz.NN:(prog.info? 160).map (fun i=>(i.zero,i.size,i.bytes))=some (some (.agg #[.int .i64 0,.int .i64 0]),2,16):=by kernel_rfl
theorem Tryz.Io:prog.underlying 161=some (.slice 160):=by kernel_rfl
theorem ag4{n:Nat}(g:n<=100000)(w:World):(Instr.makeSlice 142 (.int .i64 (n:Int)) (.int .i64 (n:Int))).run prog w=.ok (.slice (some ⟨w.heap.size,0,none⟩) n n) (w.alloc (.cells (bG (List.replicate n false)) 4)):=by
 obtain⟨f,d,b,c,a⟩:=ft Tryz.Ob;have h:=pA (P:=prog) w 142 4 f _ (by kernel_rfl) d b .i64 .i64 (n:Int) (n:Int) (by omega) (nF _) (by rw[a];omega) (by omega);rw[h,im,c];have e:Value.cells (.bool false)=#[.bool false]:=rfl;rw[e,Rc]
theorem aia{w:World}{B:Nat}{v:Value}{K:List au}(h:aQ 160 2 iI B w v K)(N:K.length<=1000000):Calls prog 170 #[v] w fun e w'=>∃v',e=.returned v'/\aQ 160 2 iI w.heap.size w' v' K/\Below w.heap.size w w':=by
 obtain⟨G,s,A,C,p⟩:=ft Tryz.NN;have H:∀(w:World)(a:Option Addr)(n c o y:Nat),(binOp .eql 161 (.slice a n c) (.slice none o y)).run prog w=.ok (.bool a.isNone) w:=fun w a n c o y=>Lib.run_eql_slice_nil w _ _ a n c o y Tryz.Io
 have m:=h;unfold aQ at m;rcases m.2 with ⟨rfl,d⟩|⟨r,i,F,rfl,z,x,t,q,-,-⟩
 ·obtain rfl:K=[]:=gz d
  go_enter func170,ntmps170;go_wp2_with fail;go_ret;exact⟨_,rfl,eQ _ _ _ _,cV _ _⟩
 ·have l:=mz m (g:=r) rfl
  have J:Hid (∀(j:Nat)(u:Value),(K.flatMap iI)[j]?=some u->w.cell? ((⟨r,0,none⟩:Addr).add j)=some u):=l;clear l m z x t q;go_enter func170,ntmps170
  go_wp2_with (at_builtin;go_loud (refine js _ rfl _ _ 161 rfl w.heap.size 160 G _ 2 16 Tryz.Io s A C p rfl (by decide) _ 0 [] rfl (World.ownsRow_made w #[] 0 (zL0) (ff _) rfl) ⟨r,0,none⟩ K.length i (K.flatMap iI) rfl (Cn.J8 K) (fun j u I=>Lib.cell?_alloc_some _ (J.out j u I)) (Cn.aon K) (by unfold maxLen;omega) (by omega) (by simp) ?_;intro L M b D _ _))
  go_ret;rw[fk]at b;exact⟨L,rfl,b,((cV _ w).alloc (zL0) _).grown D (by simp) (by intro k E;have f:some w.heap.size=some k:=E;injection f with f;omega)⟩
def Oi(w:World)(C:List au)(e:Ending)(w':World):Prop:=∃v,e=.returned v/\aQ 160 2 iI w.heap.size w' v C/\Below w.heap.size w w'
theorem Oi.mk{w:World}{C:List au}{e:Ending}{w':World}(v:Value)(b:e=.returned v)(h:aQ 160 2 iI w.heap.size w' v C)(a:Below w.heap.size w w'):Oi w C e w':=⟨v,b,h,a⟩
theorem Lx.ajm{P:List Lx.Pd}{n q:Nat}(a:q<P.length)(h:P[q].left=n):fM P n (q+1)=fM P n q++[(q,0)]:=by
 rw[fM,dj (by simp[a,h])]
theorem Lx.akZ{P:List Lx.Pd}{n q:Nat}(a:q<P.length)(h:¬P[q].left=n):fM P n (q+1)=fM P n q:=by
 rw[fM,dt (by simp[a,h]),eV]
theorem agi{D:Nat->Prop}{w:World}{f:Nat}{ta na:Option Addr}{nT tc nN nc i st:Nat}{vP vB vQ vm vk ve vK:Value}{P:List Lx.Pd}{K:List au}{B0:Nat}(kF:aj w f #[.slice ta nT tc,.slice na nN nc,vP,vB,vQ,vm,vk,ve] 157)(hP:PP D w vP P)(Z:nV P (nT+nN) st)(hK:aQ 160 2 iI B0 w vK K)(ad:sO P i K)(a9:K.length<=100000):Calls prog 143 #[.pointer (some ⟨f,0,none⟩),vK] w (Oi w (jE P K)):=by
 obtain⟨pa,pc,rfl,-⟩:∃a c,vP=.slice a P.length c/\P.length<=maxLen:=by obtain⟨ps,h1,h2,-⟩:=hP;exact aC h2
 have U5:=Z.szm;have a8:=Z.len;have ai:IntKind.i64.wrap ((nT:Int)+(nN:Int))=(nT:Int)+(nN:Int):=by rw[iz];omega
 obtain⟨g,hsz⟩:∃g,g=nT+nN:=⟨_,rfl⟩;have a1:∀wx:World,(Instr.makeSlice 142 (.int .i64 ((nT:Int)+(nN:Int))) (.int .i64 ((nT:Int)+(nN:Int)))).run prog wx=.ok (.slice (some ⟨wx.heap.size,0,none⟩) g g) (wx.alloc (.cells (bG (nu g [])) 4)):=fun wx=>by
  have:=ag4 (n:=nT+nN) U5 wx;rw[amn,hsz];rw[px]at this;exact this
 rw[<-hsz]at Z U5;have af:Hid (lI P st K K [] 0):=lI.first Z ad;have ar:Hid (∀(l:List au)(E:List Nat)(j:Nat),lI P st K l E j->l.length<=j->l=jE P K):=fun l E j h hj=>h.done Z ad hj
 have av:Hid (∀(l:List au)(E:List Nat)(j:Nat)(h:j<l.length),lI P st K l E j->lI P st K (qE P (dQ P l[j]) l E).1 (qE P (dQ P l[j]) l E).2 (j+1)):=fun l E j h hI=>hI.step Z h
 have a0:Hid (∀(s:au)(n:Nat),dQ P s=some n->n<g):=fun s n h=>(ND Z h).1
 have q1:=aia hK (by omega);have I:=kF.lt;go_enter func143,ntmps143;go_upto_region 2 with (go_at_call 170;refine q1.mono ?_;rintro e w1⟨v1,rfl,an,Y⟩)
 clear q1;have pJ:aj w1 f _ 157:=(Y.block _ I).trans kF;have d0:w1.cell? ⟨f,0,none⟩=some (.slice ta nT tc):=pJ.cell 0;have d1:w1.cell? ⟨f,1,none⟩=some (.slice na nN nc):=pJ.cell 1;have a4:=Y.size;clear hsz
 go_region
 obtain⟨W2,B⟩:∃V,V=(w1.alloc (.cells (bG (nu g [])) 4)).drew:=⟨_,rfl⟩;have ak:aj W2 w1.heap.size (bG (nu g [])) 4:=by rw[B];exact(aj.new w1 _ 4).drew
 have qD:Below w1.heap.size w1 W2:=by rw[B];exact((cV _ _).alloc (zL0) _).drew
 have aa:aQ 160 2 iI w.heap.size W2 v1 K:=aQ.below an qD;have ac:Below w.heap.size w W2:=Y.trans (qD.mono (by omega));rw[<-B];clear B qD an pJ d0 d1 a1 ai;generalize zG:w1.heap.size=ob at *;clear zG;go_wp2_with fail
 go_loopg [5,7] (K.length+P.length+1) (fun m v iv wr=>∃(j:Nat)(l:List au)(E:List Nat),j+m=K.length+P.length+1/\iv=.int .i64 (j:Int)/\j<=l.length/\aQ 160 2 iI w.heap.size wr v l/\aj wr ob (bG (nu g E)) 4/\Below w.heap.size w wr/\Hid (lI P st K l E j))
 case atStart=>exact⟨0,K,[],by omega,rfl,ff _,aa,ak,ac,af⟩
 case round=>
  clear aa ak ac af;revert wr;intro wz hrel;obtain⟨j,l,E,a7,rfl,aI,hL,kO,t,HI⟩:=hrel;obtain⟨la,lc,rfl,-⟩:∃a c,_=Value.slice a l.length c/\l.length<=maxLen:=aC hL;have aY:=HI.out.zok.len;have hsz:=t.size
  by_cases hlt:j<l.length
  ·obtain⟨gL,aG,hv,-,aF,W⟩:=aQ.at Cn hL hlt
   cases hv;have c0:=W 0 _ (by decide) rfl;have c1:=W 1 _ (by decide) rfl;have o:=HI.out.Bd l[j] (du hlt);have A:=av.out l E j hlt HI.out;have d:dQ P l[j]=(bM P l[j].1)[l[j].2]?:=rfl;clear W HI;generalize l[j]=sp at c0 c1 o A d;obtain⟨F,k⟩:=sp;simp only[Nat.add_zero]at c0 c1 o d;have O:F<P.length:=o.1;have a5:k<=P[F].right.length:=by have:=o.2;rw[Jv O]at this;exact this
   obtain⟨gP,ax,u,L,S,-,x1,-⟩:=(hP.below t).at O;cases L;rw[Jv O]at d;clear o;obtain⟨ua,uc,rfl,-⟩:∃a c,u=Value.slice a P[F].right.length c/\P[F].right.length<=maxLen:=aC S;generalize P[F].right=r at S x1 a5 d;have LM:aj wz f _ 157:=(t.block _ I).trans kF;have d2:wz.cell? ⟨f,2,none⟩=some (.slice (some ⟨gP,0,none⟩) P.length pc):=LM.cell 2;have i1:(0:Int)<=(j:Int):=by omega
   have i2:(j:Int)<(l.length:Int):=by omega
   have i3:(0:Int)<=(F:Int):=by omega
   have i4:(F:Int)<(P.length:Int):=by omega
   go_wp2_with fail
   go_quiet (fail)
   obtain⟨x,C⟩:∃V,V=wz.drewN nq:=⟨_,rfl⟩;have e0:x.cell? ⟨gL,j*2,none⟩=some (.int .i64 (F:Int)):=by rw[C];exact c0
   have e1:x.cell? ⟨gL,j*2+1,none⟩=some (.int .i64 (k:Int)):=by rw[C];exact c1
   have J:Below w.heap.size w x:=by rw[C];exact t.trans ⟨rfl,rfl,rfl,zL0,fun _ _=>rfl⟩
   have EW:aQ 160 2 iI w.heap.size x (.slice (some ⟨gL,0,none⟩) l.length lc) l:=by rw[C];exact hL
   have Ht:aj x ob (bG (nu g E)) 4:=by rw[C];exact kO
   have Da:IR 0 x (.slice ua r.length uc) r:=by rw[C];exact S
   have a2:x.cell? ⟨f,2,none⟩=some (.slice (some ⟨gP,0,none⟩) P.length pc):=by rw[C];exact d2
   rw[<-C];clear C c0 c1 hL kO S x1 d2 LM
   by_cases hd:k=r.length
   ·have y:Hid (lI P st K l E (j+1)):=by rw[d,ju (by omega)]at A;exact A
    have i5:((k:Int) == (r.length:Int))=true:=by simp[hd]
    have i6:(k:Int)=(r.length:Int):=by omega
    clear A d hd Da;go_wp2_with fail;go_roundg (K.length+P.length+1 - (j+1))
    case measure=>omega
    case rel=>exact⟨j+1,l,E,by omega,by go_num,by omega,EW,Ht,J,y⟩
   ·have ag:k<r.length:=by omega
    obtain⟨gU,ba,aq,-,cU⟩:=Da.at ag;cases aq;have R:dQ P (F,k)=some r[k]:=by rw[d,cF ag]
    have N:=a0.out _ _ R;rw[R]at A;have i5:((k:Int) == (r.length:Int))=false:=zB0 (by omega);have i6:¬(k:Int)=(r.length:Int):=by omega
    have aE:¬k=r.length:=hd;have i7:(0:Int)<=(k:Int):=by omega
    have i8:(k:Int)<(r.length:Int):=by omega
    clear R d hd;generalize r[k]=n at cU N A;have i9:(0:Int)<=(n:Int):=by omega
    have aH:(n:Int)<(g:Int):=by omega
    have o0:x.cell? ⟨ob,n,none⟩=some (.bool (decide (n∈E))):=by rw[Ht.cell n,qR _ (by rw[amm];exact N),am4 N]
    have o1:x.frozen? ⟨ob,n,none⟩=false:=Ht.frozen n
    by_cases Db:n∈E
    ·rw[fi Db]at o0
     have y:Hid (lI P st K l E (j+1)):=lI.known A Db;clear A Da;go_wp2_with fail;go_roundg (K.length+P.length+1 - (j+1))
     case measure=>omega
     case rel=>exact⟨j+1,l,E,by omega,by go_num,by omega,EW,Ht,J,y⟩
    ·rw[eE Db]at o0
     have y:Hid (lI P st K (l++fM P n P.length) (n::E) (j+1)):=lI.new A Db;clear A Da;obtain⟨T,z⟩:∃V,V=x.setCell ⟨ob,n,none⟩ (.bool true):=⟨_,rfl⟩;have ae:aj T ob (bG (nu g (n::E))) 4:=by rw[z,<-amo,<-Dw];exact Ht.set n _
     have UQ:∀b,b≠ob->T.heap[b]?=x.heap[b]?:=fun b hb=>by rw[z];exact zS0 hb
     have am:aQ 160 2 iI w.heap.size T (.slice (some ⟨gL,0,none⟩) l.length lc) l:=aD EW fun b hb=>UQ b (own_ne EW Ht (by decide) b hb)
     have U:Below w.heap.size w T:=by rw[z];exact J.setCell (p:=⟨ob,n,none⟩) a4 _
     have a3:T.cell? ⟨f,2,none⟩=some (.slice (some ⟨gP,0,none⟩) P.length pc):=by
      have zV:aj T f _ 157:=(U.block _ I).trans kF;exact zV.cell 2
     go_upto_region 10 with fail
     rw[<-z];clear z UQ o0 o1 e0 e1 cU a2;go_wp2_with fail;have H:aQ 160 2 iI w.heap.size T (.slice (some ⟨gL,0,none⟩) l.length lc) (l++fM P n 0):=by rw[show l++fM P n 0=l from eV l];exact am
     go_loopg [5,85] P.length (fun m v iv wr=>∃q:Nat,q+m=P.length/\iv=.int .i64 (q:Int)/\aQ 160 2 iI w.heap.size wr v (l++fM P n q)/\aj wr ob (bG (nu g (n::E))) 4/\Below w.heap.size w wr)
     case atStart=>exact⟨0,by omega,rfl,H,ae,U⟩
     case round=>
      clear am H ae U a3;revert wr;intro wr hrel;obtain⟨q,aP,rfl,Qk,ao,G⟩:=hrel;obtain⟨X,hX⟩:∃X,X=l++fM P n q:=⟨_,rfl⟩;rw[<-hX]at Qk;have bb:X.length<=1000000:=by have:=aaC (P:=P) (n:=n) q;rw[hX,cH];omega
      have a6:j+1<=X.length:=by rw[hX,cH];omega
      have HX:Hid (X=l++fM P n q):=hX;clear hX;obtain⟨ra,rc,rfl,-⟩:∃a c,_=Value.slice a X.length c/\X.length<=maxLen:=aC Qk;have aw:=G.size
      by_cases uW:q<P.length
      ·obtain⟨aX,ax,u,L,S,x0,x1,x2⟩:=(hP.below G).at uW
       cases L;obtain⟨ah,ap,rfl,-⟩:∃a c,u=Value.slice a P[q].right.length c/\P[q].right.length<=maxLen:=aC S;clear S;have j1:(0:Int)<=(q:Int):=by omega
       have j2:(q:Int)<(P.length:Int):=by omega
       have HY:Hid (P[q].left=n->fM P n (q+1)=fM P n q++[(q,0)]):=ajm uW;have HN:Hid (¬P[q].left=n->fM P n (q+1)=fM P n q):=akZ uW;obtain⟨M,zy⟩:∃V,V=wr.alloc (.cells #[.int .i64 (P[q].left:Int),.slice ah P[q].right.length ap,.int .i64 P[q].prec] 120):=⟨_,rfl⟩;have al:Below wr.heap.size wr M:=by rw[zy];exact(cV _ _).alloc (zL0) _
       have ab:aj M wr.heap.size #[.int .i64 (P[q].left:Int),.slice ah P[q].right.length ap,.int .i64 P[q].prec] 120:=by rw[zy];exact aj.new wr _ 120
       have Q:aQ 160 2 iI w.heap.size M (.slice ra X.length rc) X:=Qk.below al;have Xa:aj M ob (bG (nu g (n::E))) 4:=by rw[zy];exact ao.alloc _
       have Eg:Below w.heap.size w M:=G.trans (al.mono aw);have aA:=Eg.size;have y0:M.cell? ⟨wr.heap.size,0,none⟩=some (.int .i64 (P[q].left:Int)):=ab.cell 0;clear ab;generalize P[q].left=lf at *;generalize P[q].prec=pf at *;generalize P[q].right.length=rl at *;go_upto_region 13 with fail
       rw[<-zy];clear zy x0 x1 x2
       by_cases hc:lf=n
       ·have HE:Hid (fM P n (q+1)=fM P n q++[(q,0)]):=HY.out hc
        have k1:((lf:Int) == (n:Int))=true:=by simp[hc]
        have k2:(lf:Int)=(n:Int):=by omega
        clear HY HN hc
        go_wp2_with (at_builtin;go_loud (refine Nf Tryz.NN Tryz.Io rfl (by decide) Cn rfl _ _ rfl w.heap.size (by simp;omega) _ X rfl (aQ.below Q ((cV _ _).alloc (zL0) _)) (q,0) _ 1 rfl (eO (aj.new _ _ 160)) (by unfold maxLen;omega) (by omega) ?_;intro v8 w8 Dc l7 Bq GN))
        have az:aj w8 ob (bG (nu g (n::E))) 4:=(Xa.alloc _).grown Bq (fun e=>own_ne (aQ.below Q ((cV _ _).alloc (zL0) (.cells #[.int .i64 (q:Int),.int .i64 0] 160))) (Xa.alloc _) (by decide) ob e.symm rfl);go_roundg (P.length - (q+1))
        case measure=>omega
        case rel=>exact⟨q+1,by omega,by go_num,by rw[HE.out,<-dq,<-HX.out];exact Dc,az,Eg.trans (((cV _ M).alloc (by omega) _).trans l7)⟩
       ·have HE:Hid (fM P n (q+1)=fM P n q):=HN.out hc
        have k1:((lf:Int) == (n:Int))=false:=zB0 (by omega);have k2:¬(lf:Int)=(n:Int):=by omega
        have k3:¬lf=n:=hc;clear HY HN hc;go_wp2_with fail;go_roundg (P.length - (q+1))
        case measure=>omega
        case rel=>exact⟨q+1,by omega,by go_num,by rw[HE.out,<-HX.out];exact Q,Xa,Eg⟩
      ·obtain rfl:q=P.length:=by omega
       have j2:¬(P.length:Int)<(P.length:Int):=by omega
       go_wp2_with fail;go_roundg (K.length+P.length+1 - (j+1))
       case measure=>omega
       case rel=>exact⟨j+1,X,n::E,by omega,by go_num,a6,Qk,ao,G,by rw[HX.out];exact y⟩
  ·have HC:Hid (l=jE P K):=ar.out l E j HI.out (by omega)
   have i2:¬(j:Int)<(l.length:Int):=by omega
   clear HI;go_wp2_with fail;go_ret;exact Oi.mk _ rfl (by rw[<-HC.out];exact hL) t

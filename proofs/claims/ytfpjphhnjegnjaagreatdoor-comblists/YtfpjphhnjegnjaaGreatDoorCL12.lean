import Derived.Test.YtfpjphhnjegnjaaGreatDoorCL05
import Derived.Test.YtfpjphhnjegnjaaGreatDoorCL08
import Derived.Shelf.Spec.TrailingZeros
import Derived.Maps.OwnIn
set_option maxHeartbeats 8000000
set_option maxRecDepth 1000000
namespace Go.Proofs.YtfpjphhnjegnjaaGreatDoor
open Lx Go.Proofs.Tryz
open Go.RowKit Tr
open Go.Value renaming slice→ς,int→ι,string→τ,pointer→π,bool→μ,agg→γ,tuple→θ
open Go.IntKind renaming i64→ξ
open Option renaming none→ν,some→ο
open Go.Ending renaming returned→δ
open Go.Obj renaming cells→ζ
open Bool renaming true→η,false→ε
open Go renaming World→ω,Value→υ,Calls→χ
open Go.RowKit renaming Below→φ
open List renaming replicate→ψ
variable{B B' b c e f i j k m n nN nT nc o q s t tc x z:Nat}{P:List Lx.Pd}{W W' w w':ω}{a row:List (Nat×Nat×Nat)}{d l ps:List Nat}{lb:Array υ}{na ta:Option Addr}{u v vB vK vP ve vg:υ}
theorem Oi{g:Nat}(h:w.cell? ⟨g,j,ν⟩=ο u):g<w.heap.size:=by
 apply jt;intro a;have e:w.heap[g]?=ν:=s8 (by omega);simp[World.cell?,e]at h
theorem aU(a:φ w.heap.size w w'){g:Nat}(h:w.cell? ⟨g,j,ν⟩=ο u):w'.cell? ⟨g,j,ν⟩=ο u:=(a.cell (p:=⟨g,j,ν⟩) (Oi h)).trans h
def tL{α:Type}(z:Nat)(Q:Nat->Nat->α->Prop)(v:υ)(l:List α):Prop:=∃a c,v=ς a l.length c/\∀(i:Nat)(x:α),l[i]?=ο x->∃g,a=ο ⟨g,0,ν⟩/\Q g (i*z) x
theorem tL.mono{α:Type}{Q R:Nat->Nat->α->Prop}{l:List α}(h:tL z Q v l)(b:∀g o x,Q g o x->R g o x):tL z R v l:=by
 obtain⟨a,c,h1,h2⟩:=h;exact⟨a,c,h1,fun i x f=>by obtain⟨g,e,d⟩:=h2 i x f;exact⟨g,e,b g _ x d⟩⟩
def iQ(w:ω)(g o:Nat)(x:Nat):Prop:=w.cell? ⟨g,o,ν⟩=ο (ι ξ (x:Int))
def Dl(w:ω)(g o:Nat)(x:Nat×Nat):Prop:=w.cell? ⟨g,o,ν⟩=ο (ι ξ (x.1:Int))/\w.cell? ⟨g,o+1,ν⟩=ο (ι ξ (x.2:Int))
def Fh(w:ω)(g o:Nat)(x:Nat×Nat×Nat):Prop:=w.cell? ⟨g,o,ν⟩=ο (ι ξ (x.1:Int))/\w.cell? ⟨g,o+1,ν⟩=ο (ι ξ (x.2.1:Int))/\w.cell? ⟨g,o+2,ν⟩=ο (ι ξ (x.2.2:Int))
def sQ(w:ω)(g o:Nat)(x:ByteArray):Prop:=w.cell? ⟨g,o,ν⟩=ο (τ x)
def rQ{α:Type}(w:ω)(z:Nat)(Q:Nat->Nat->α->Prop)(g o:Nat)(l:List α):Prop:=∃v,w.cell? ⟨g,o,ν⟩=ο v/\tL z Q v l
section
variable{w w':ω}(hb:φ w.heap.size w w')
include hb
theorem iQ.keep{g:Nat}(h:iQ w g o x):iQ w' g o x:=aU hb h
theorem sQ.keep{g:Nat}{x:ByteArray}(h:sQ w g o x):sQ w' g o x:=aU hb h
theorem Dl.keep{g:Nat}{x:Nat×Nat}(h:Dl w g o x):Dl w' g o x:=⟨aU hb h.1,aU hb h.2⟩
theorem Fh.keep{g:Nat}{x:Nat×Nat×Nat}(h:Fh w g o x):Fh w' g o x:=⟨aU hb h.1,aU hb h.2.1,aU hb h.2.2⟩
theorem rQ.keep{α:Type}{Q R:Nat->Nat->α->Prop}{g:Nat}{l:List α}(a:∀g o x,Q g o x->R g o x)(h:rQ w z Q g o l):rQ w' z R g o l:=by
 obtain⟨v,h1,h2⟩:=h;exact⟨v,aU hb h1,h2.mono a⟩
end
abbrev jX(w:ω):=tL 1 (iQ w)
abbrev wQ(w:ω):=tL 2 (Dl w)
abbrev lM(w:ω):=tL 3 (Fh w)
theorem jX.keep{w w':ω}{v:υ}{l:List Nat}(h:jX w v l)(a:φ w.heap.size w w'):jX w' v l:=h.mono fun _ _ _=>iQ.keep a
theorem wQ.keep{w w':ω}{v:υ}{l:List (Nat×Nat)}(h:wQ w v l)(a:φ w.heap.size w w'):wQ w' v l:=h.mono fun _ _ _=>Dl.keep a
theorem lM.keep{w w':ω}{v:υ}{l:List (Nat×Nat×Nat)}(h:lM w v l)(a:φ w.heap.size w w'):lM w' v l:=h.mono fun _ _ _=>Fh.keep a
abbrev zy(w:ω):=tL 1 (sQ w)
theorem zy.keep{w w':ω}{v:υ}{l:List ByteArray}(h:zy w v l)(a:φ w.heap.size w w'):zy w' v l:=h.mono fun _ _ _=>sQ.keep a
theorem zy.own{l:List ByteArray}(h:w.ownsRow B 9 1 v l.length (l.map τ)):zy w v l:=by
 obtain⟨a,c,rfl,-⟩:=aB h;refine⟨a,c,rfl,fun i x b=>?_⟩;obtain⟨g,d,h1,h2⟩:=jC h (j:=i) (u:=τ x) (by rw[dj,b];rfl);cases h1;exact⟨g,rfl,by rw[j9];exact h2 i _ (by rw[dj,b];rfl)⟩
theorem jX.own(h:w.ownsRow B 3 1 v l.length (l.map bA)):jX w v l:=by
 obtain⟨a,c,rfl,-⟩:=aB h;refine⟨a,c,rfl,fun i x b=>?_⟩;obtain⟨g,d,h1,h2⟩:=jC h (j:=i) (u:=bA x) (by rw[dj,b];rfl);cases h1;exact⟨g,rfl,by rw[j9];exact h2 i _ (by rw[dj,b];rfl)⟩
theorem wQ.own{l:List (Nat×Nat)}(h:w.ownsRow B e 2 v l.length (l.flatMap fI)):wQ w v l:=by
 obtain⟨a,c,rfl,-⟩:=aB h;refine⟨a,c,rfl,fun i x b=>?_⟩;obtain⟨f1,f2⟩:=JA _ _ _ b;obtain⟨g,d,h1,h2⟩:=jC h f1;cases h1;exact⟨g,rfl,h2 _ _ f1,h2 _ _ f2⟩
theorem lM.own{l:List (Nat×Nat×Nat)}(h:w.ownsRow B e 3 v l.length (l.flatMap cZ)):lM w v l:=by
 obtain⟨a,c,rfl,-⟩:=aB h;refine⟨a,c,rfl,fun i x d=>?_⟩;obtain⟨f1,f2,b⟩:=Jz _ _ _ d;obtain⟨g,f,h1,h2⟩:=jC h f1;cases h1;exact⟨g,rfl,h2 _ _ f1,h2 _ _ f2,h2 _ _ b⟩
namespace Pk
def be:Nat->Nat->List Nat
 |0,_=>[]
 |n+1,x=>x / 256 ^ n % 256::be n x
theorem qJ(x:Nat):∀n,(be n x).length=n
 |0=>rfl
 |n+1=>by rw[be,eh,qJ x n]
end Pk
def uK(n:Nat):υ:=ι .u8 (n:Int)
theorem Tryz.acY:prog.underlying 126=ο (.slice 5):=by kernel_rfl
structure bC(W0:ω)(B wb:Nat)(vB:υ)(W:ω)(l:List Nat):Prop where
 blk:aj W wb #[vB] 128
 r:W.ownsRow B 5 1 vB l.length (l.map uK)
 b:φ B W0 W
 lb:B<=wb
section
variable{W0 W W':ω}{B wb:Nat}{vB x:υ}{l:List Nat}
theorem bC.kw(h:bC W0 B wb vB W l):Kd W wb 128:=⟨_,h.blk⟩
theorem bC.kB(h:bC W0 B wb vB W l){g:Nat}(a:vB.ownBlock=ο g):Kd W g 5:=bJ h.r a
theorem bC.size(h:bC W0 B wb vB W l):B<=W.heap.size:=cY h.lb (lA h.blk.lt)
theorem bC.set(h:bC W0 B wb vB W l){m:List Nat}(a:W.grownBy W' vB.ownBlock)(d:W'.ownsRow B 5 1 x m.length (m.map uK)):bC W0 B wb x (W'.setCell ⟨wb,0,ν⟩ x) m where
 blk:=by
  have:aj W' wb _ 128:=(a.block wb h.kw.lt fun e=>h.kw.ne (h.kB e.symm) (by decide) rfl).trans h.blk;exact this.set 0 x
 r:=ay d fun g e=>aY _ _ ((show Kd W' g 5 from bJ d e).ne (show Kd W' wb 128 from ⟨_,(a.block wb h.kw.lt fun e=>h.kw.ne (h.kB e.symm) (by decide) rfl).trans h.blk⟩) (by decide))
 b:=⟨a.1.trans h.b.1,a.2.trans h.b.2,a.3.trans h.b.3,by simpa using cY h.b.4 a.size,fun k c=>(aY _ _ (by have:=h.lb;omega)).trans ((a.block k (dg c h.size) fun e=>by have:=(h.r.lt k e.symm).1;omega).trans (h.b.block k c))⟩
 lb:=h.lb
def jk(W W':ω):Prop:=∀k t,Kd W k t->t≠128->t≠5->W'.heap[k]?=W.heap[k]?
theorem jk.refl(W:ω):jk W W:=fun _ _ _ _ _=>rfl
theorem jk.trans{W W1 W2:ω}(h:jk W W1)(k:jk W1 W2):jk W W2:=fun b t c h1 h2=>by
 have e:=h b t c h1 h2;obtain⟨a,d⟩:=c;exact(k b t ⟨a,e.trans d⟩ h1 h2).trans e
theorem jk.blk(h:jk W W'){cs:Array υ}(k:aj W b cs t)(h1:t≠128)(h2:t≠5):aj W' b cs t:=(h b t ⟨_,k⟩ h1 h2).trans k
theorem bC.aK(h:bC W0 B wb vB W l)(b:W.grownBy W' vB.ownBlock)(x:υ):jk W (W'.setCell ⟨wb,0,ν⟩ x):=fun k _ a h1 h2=>
 (aY _ _ (a.ne h.kw h1)).trans (b.block k a.lt fun e=>a.ne (h.kB e.symm) h2 rfl)
theorem xg(h:bC W0 B wb vB W l)(hn:n<=4)(hl:l.length<=1000000000):χ prog 38 #[π (ο ⟨wb,0,ν⟩),ι ξ (n:Int),ι ξ (k:Int)] W fun e W'=>e=δ (θ #[])/\∃iA,bC W0 B wb iA W' (l++Pk.be n k)/\jk W W':=by
 obtain⟨i0,J,v,D,G⟩:=ft Tryz.info5;have L:Hid (∃a p,bC W0 B wb p W a/\a++Pk.be n k=l++Pk.be n k/\a.length<=1000000000+(4-n)/\jk W W):=⟨l,vB,h,rfl,by omega,jk.refl _⟩;clear h hl;go_enter func38,ntmps38;go_wp2_with fail
 go_loopw [6] (fun i wr=>∃j:Nat,j<=n/\i=ι ξ ((j:Int) - 1)/\Hid (∃a p,bC W0 B wb p wr a/\a++Pk.be j k=l++Pk.be n k/\a.length<=1000000000+(4-j)/\jk W wr)) (fun i _=>(intOf i+1).toNat)
 case atStart=>exact⟨n,zL0,rfl,L⟩
 case round=>
  clear L;obtain⟨j,hj,rfl,M⟩:=hrel;obtain⟨a,p,h1,c,ab,d⟩:=M.out;clear M
  by_cases hj0:j=0
  ·subst hj0
   rw[Pk.be,fW]at c;have HE:Hid (bC W0 B wb p wr (l++Pk.be n k)/\jk W wr):=⟨by rw[<-c];exact h1,d⟩;clear h1 c d;go_wp2_with fail
   go_end0
   exact⟨rfl,p,HE.out⟩
  ·obtain⟨m,rfl⟩:∃m,j=m+1:=⟨j-1,by omega⟩
   have T:((m+1:Nat):Int) - 1=(m:Int):=by omega
   rw[T];have m0:(0:Int)<=(m:Int):=by omega
   have bm:=ge m0;obtain⟨f,g,rfl,-⟩:=aB h1.r;have c0:=h1.blk.a0;obtain⟨q,A⟩:=aF (k / 256 ^ m);obtain⟨y,H⟩:=aF (k / 256 ^ m % 256);have aa:∀w:ω,(Op.shift BinOp.shr IntKind.i64 (k:Int) IntKind.i64 (IntKind.i64.wrap (8*(m:Int)))).run prog w=.ok (ι ξ (q:Int)) w:=fun w=>by
    have Y:IntKind.i64.wrap (8*(m:Int))=((8*m:Nat):Int):=by rw[gx];omega
    have e3:(2:Int) ^ (8*m)=((256 ^ m:Nat):Int):=by
     have m4:m<4:=by omega
     have:m=0\/m=1\/m=2\/m=3:=by omega
     rcases this with rfl|rfl|rfl|rfl <;> rfl
    have Z:(k:Int) / 2 ^ min ((8*m:Nat):Int).toNat IntKind.i64.bits=(q:Int):=by
     rw[ij,qt (show 8*m<=IntKind.i64.bits by show 8*m<=64;omega),e3,<-A,Int.natCast_ediv]
    rw[Y,shift_shr_any _ _ _ _ (by omega),Z];rfl
   have eu:IntKind.u8.wrap (q:Int)=(y:Int):=by rw[IntKind.wrap_u8',<-H,A];omega
   have lp:=h1.blk.lt;have S:∀o,(wr.alloc o).cell? ⟨wb,0,ν⟩=ο (ς f a.length g):=fun o=>(cQ (w:=wr) (ed _ _ _ lp)).trans c0
   have O:(wr.alloc (ζ #[ι .u8 (y:Int)] 5)).drew.ownsRow B 5 1 (ς f a.length g) a.length (a.map uK):=ay (h1.r.alloc (ζ #[ι .u8 (y:Int)] 5)) fun _ _=>rfl
   have N:aj (wr.alloc (ζ #[ι .u8 (y:Int)] 5)).drew wb #[ς f a.length g] 128:=(h1.blk.alloc _).drew;have z:(ς f a.length g).ownBlock≠ο wb:=fun e=>(h1.kB e).ne h1.kw (by decide) rfl
   have K:B<=(wr.alloc (ζ #[ι .u8 (y:Int)] 5)).drew.heap.size:=cY h1.size (aM wr _ ν).size;have s:Hid (bC W0 B wb (ς f a.length g) wr a/\jk W wr):=⟨h1,d⟩;have X:Hid _:=c;have HY:Hid _:=H;clear h1 c H A d;go_upto_region 3 with fail
   go_region_law (refine step_append_lies _ rfl (.tmp 17) (.tmp 23) 126 rfl B 5 i0 _ 1 1 Tryz.acY J v D G rfl (by decide) (ς f a.length g) a.length (a.map uK) (by simp[Act.eval]) O ⟨wr.heap.size,0,ν⟩ 1 1 [ι .u8 (y:Int)] (by simp[Act.eval]) rfl (bQ (aj.new wr _ 5).drew) (by simp[Value.oneCell']) (by decide) (by unfold maxLen;omega) (by omega) K _ rfl ?_;intro u E t Q C U Co;have I:=N.grown C (fun e=>z e.symm);have V:t.cell? ⟨wb,0,ν⟩=ο (ς f a.length g):=I.cell 0;have f9:=I.frozen 0)
   all_goals
    have F:wr.grownBy t (ς f a.length g).ownBlock:=aI (b:=(wr.alloc (ζ #[ι .u8 (y:Int)] 5)).drew) ⟨rfl,rfl,rfl,(aM wr _ ν).size,fun i hi _=>ed _ _ _ hi⟩ C;have R:=s.out.1.set (m:=a++[y]) F (by rw[ee,cJ];exact Q);have P:Hid (bC W0 B wb (ς (ο ⟨u,0,ν⟩) (a.length+1) E) (t.setCell ⟨wb,0,ν⟩ (ς (ο ⟨u,0,ν⟩) (a.length+1) E)) (a++[y])/\jk W (t.setCell ⟨wb,0,ν⟩ (ς (ο ⟨u,0,ν⟩) (a.length+1) E))):=⟨R,s.out.2.trans (s.out.1.aK F _)⟩;clear R F Q C U I V f9 O N S s;go_wp2_with fail;refine⟨⟨m,by omega,by go_num,a++[y],_,P.out.1,?_,by simp only[List.length_append,List.length_cons,List.length_nil];omega,P.out.2⟩,by simp[intOf]⟩;rw[<-X.out,Pk.be,HY.out,dy];rfl
end
def QO(b:ByteArray):List υ:=b.data.toList.map fun x=>uK x.toNat
theorem akh(q:kZ w)(s:ByteArray)(o:w.ownsRow B 5 1 v s.size (QO s)):χ prog 41 #[v] w fun e w'=>e=δ (ι .u32 ((Pk.sum s s.size:Nat):Int))/\w'=w:=by
 obtain⟨z,J,rfl,f⟩:=aB o;have x:Hid (∀i,i<s.size->∃g,z=ο ⟨g,0,ν⟩/\w.cell? ⟨g,i,ν⟩=ο (ι .u8 ((Pk.lW s i:Nat):Int))):=fun i C=>by
  have t:i<s.data.size:=C;obtain⟨g,c,m,-,d⟩:=F3 o (p:=i) (u:=uK (Pk.lW s i)) (by
   unfold QO Pk.lW;rw[dj,gz,lr t,nF,lr t];rfl)
  cases m;exact⟨g,rfl,d⟩
 have I:s.size<=9223372036854775807:=by unfold maxLen at f;omega
 clear o f;go_enter func41,ntmps41;go_wp2_with fail
 go_loop [3,7] (fun v i=>∃j:Nat,j<=s.size/\i=ι ξ (j:Int)/\v=ι .u32 ((Pk.sumTo s j:Nat):Int)) (fun _ i=>s.size - (intOf i).toNat)
 case atStart=>exact⟨0,by omega,rfl,rfl⟩
 case round=>
  obtain⟨j,L,rfl,rfl⟩:=hrel
  by_cases hjn:j<s.size
  ·have E:(j:Int)<(s.size:Int):=by omega
   obtain⟨g,rfl,F⟩:=x.out j hjn;have b:=Pk.FQ s j;have n:=Pk.JF s j;obtain⟨a,l⟩:=aF (Pk.sumTo s j ^^^ Pk.lW s j);have k:a<4294967296:=by rw[<-l];exact Pk.JG b (by omega)
   have K:bits BinOp.xor IntKind.u32 (Pk.sumTo s j:Int) (Pk.lW s j:Int)=(a:Int):=by rw[xt _ _ b (by omega),l]
   obtain⟨c,d⟩:=aF (Pk.Cr a);have r:c<4294967296:=by rw[<-d];exact Pk.Oa k
   have y:Pk.sumTo s (j+1)=Pk.Cr c:=by rw[Pk.sumTo,l,d]
   obtain⟨a2,a3,a4,a5⟩:=NJ q k;obtain⟨G,H,M,A⟩:=NJ q r;rw[d]at a5;rw[<-y]at A;have D:(Pk.lW s j:Int) % 4294967296=(Pk.lW s j:Int):=by omega
   clear d l y b n q x;go_wp2_with fail;exact⟨⟨j+1,by omega,by go_num,rfl⟩,by simp[intOf];omega⟩
  ·obtain rfl:j=s.size:=by omega
   go_wp2_with fail;go_ret;exact⟨DI (xt 4294967295 _ (by decide) (Pk.FQ ..)),rfl⟩
namespace Pk
def uL(t:ByteArray):List Nat:=t.data.toList.map UInt8.toNat
def wS(l:List ByteArray):List Nat:=l.flatMap fun t=>be 1 t.size++uL t
theorem ab1(t:ByteArray):(uL t).length=t.size:=by rw[uL,dk,jx];rfl
end Pk
theorem amF(t:ByteArray):Lib.strCells t=(Pk.uL t).map uK:=by
 unfold Lib.strCells Pk.uL uK;rw[pj];rfl
theorem Tryz.anf:prog.underlying 9=ο .string:=by kernel_rfl
section
variable{W0 W W':ω}{B wb:Nat}{vB x:υ}{l:List Nat}
theorem Zx(h:bC W0 W0.heap.size wb vB W l){X:υ}{a:List ByteArray}(A:zy W0 X a)(O:l.length+(Pk.wS a).length<=1000000000):χ prog 39 #[π (ο ⟨wb,0,ν⟩),X] W fun e W'=>e=δ (θ #[])/\∃iA,bC W0 W0.heap.size wb iA W' (l++Pk.wS a):=by
 obtain⟨U,tc,rfl,A⟩:=A;obtain⟨B,M⟩:=aF W0.heap.size;have R:∀W,φ B W0 W->∀(j:Nat)t,a[j]?=ο t->∃g,U=ο ⟨g,0,ν⟩/\W.cell? ⟨g,j,ν⟩=ο (τ t):=fun W S j t k=>by
  obtain⟨g,e,s⟩:=A j t k;unfold sQ at s;rw[j9]at s;rw[<-M]at S;exact⟨g,e,aU S s⟩
 rw[M]at h|-;clear M A;obtain⟨i0,I,E,G,D⟩:=ft Tryz.info5;have Q:Hid (∃c o,bC W0 B wb o W c/\c++Pk.wS (a.drop 0)=l++Pk.wS a):=⟨l,vB,h,rfl⟩;have HL:Hid (l.length+(Pk.wS a).length<=1000000000):=O;have hn:a.length<=1000000000:=by
  have:∀a:List ByteArray,a.length<=(Pk.wS a).length:=fun a=>by
   induction a with
   |nil=>exact zL0
   |cons t a ih=>
    have e:Pk.wS (t::a)=(Pk.be 1 t.size++Pk.uL t)++Pk.wS a:=rfl;rw[e,cJ,cJ,Pk.qJ,eh];omega
  have:=this a;omega
 have V:Hid (∀(w:ω)(c:List Nat)(v:υ),bC W0 B wb v w c->∀(j:Nat)t,a[j]?=ο t->∃g,U=ο ⟨g,0,ν⟩/\w.cell? ⟨g,j,ν⟩=ο (τ t)):=fun w c v hw j t k=>R w hw.b j t k
 clear h O R;go_enter func39,ntmps39;go_wp2_with fail
 go_loopw [8] (fun i wr=>∃j:Nat,j<=a.length/\i=ι ξ (j:Int)/\Hid (∃c o,bC W0 B wb o wr c/\c++Pk.wS (a.drop j)=l++Pk.wS a)) (fun i _=>a.length - (intOf i).toNat)
 case atStart=>exact⟨0,by omega,rfl,Q⟩
 case round=>
  clear Q;obtain⟨j,hj,rfl,Y⟩:=hrel;obtain⟨c,o,h1,d⟩:=Y.out;clear Y
  by_cases hjn:j<a.length
  ·have j1:(j:Int)<(a.length:Int):=by omega
   obtain⟨t,k⟩:∃t,a[j]?=ο t:=⟨_,cG hjn⟩;have hd:a.drop j=t::a.drop (j+1):=by
    rw[eN hjn];congr 1;rw[cG hjn]at k;exact fL k
   have H:Pk.wS (a.drop j)=(Pk.be 1 t.size++Pk.uL t)++Pk.wS (a.drop (j+1)):=by rw[hd];rfl
   obtain⟨g,rfl,s⟩:=V.out wr c o h1 j t k;have q:c.length+(1+t.size)<=1000000000:=by
    have:=fd List.length d;rw[H]at this;simp only[List.length_append,Pk.qJ,Pk.ab1]at this;have:=HL.out;omega
   rw[H]at d;have T:Hid (c++(Pk.be 1 t.size++Pk.uL t++Pk.wS (a.drop (j+1)))=l++Pk.wS a):=d;have P:χ prog 38 #[π (ο ⟨wb,0,ν⟩),ι ξ 1,ι ξ (t.size:Int)] wr fun e W'=>e=δ (θ #[])/\∃iA,bC W0 B wb iA W' (c++Pk.be 1 t.size)/\jk wr W':=xg (n:=1) h1 (by decide) (by omega)
   clear h1 d H hd V k;go_upto_region 4 with (go_at_call 38;refine P.mono ?_;rintro e w2⟨rfl,Z,h2,-⟩)
   clear P s;have p:(c++Pk.be 1 t.size).length=c.length+1:=by rw[cJ,Pk.qJ]
   obtain⟨f,J⟩:=aF (c++Pk.be 1 t.size);have K:Hid (f++(Pk.uL t++Pk.wS (a.drop (j+1)))=l++Pk.wS a):=by
    show f++(Pk.uL t++Pk.wS (a.drop (j+1)))=l++Pk.wS a;rw[<-T.out,<-J];simp only[List.append_assoc]
   rw[J]at h2 p;have aa:f.length+t.size<=1000000000:=by omega
   clear T p J q;obtain⟨C,z,rfl,-⟩:=aB h2.r;have c0:=h2.blk.a0;have F:(ς C f.length z).ownBlock≠ο wb:=fun e=>(h2.kB e).ne h2.kw (by decide) rfl
   have LB:=h2.blk;have o2:=h2.r;have L:=h2.size;have H9:Hid (bC W0 B wb (ς C f.length z) w2 f):=h2;clear h2
   go_wp2_with (at_builtin;refine AM _ rfl _ _ 126 9 rfl B 5 i0 Tryz.acY Tryz.anf I E G D (ς C f.length z) f.length (f.map uK) rfl o2 t rfl (by unfold maxLen;omega) (by omega) L ?_;intro v3 w3 u y _;obtain⟨ua,uc,rfl,-⟩:=aB u;have N:=LB.grown y (fun e=>F e.symm);have d3:w3.cell? ⟨wb,0,ν⟩=ο (ς C f.length z):=N.cell 0;have f3:=N.frozen 0)
   refine⟨⟨j+1,by omega,by go_num,f++Pk.uL t,_,H9.out.set (m:=f++Pk.uL t) y (by rw[ee,cJ,Pk.ab1,<-amF];exact u),?_⟩,by simp[intOf];omega⟩;rw[<-K.out,dy]
  ·obtain rfl:j=a.length:=by omega
   rw[im,Pk.wS,List.flatMap_nil,fW]at d;have HE:Hid (bC W0 B wb o wr (l++Pk.wS a)):=by rw[<-d];exact h1
   clear h1 d;go_wp2_with fail
   go_end0
   exact⟨rfl,o,HE.out⟩
end
namespace Pk
def cnt(row:List (Nat×Nat))(k:Nat):Nat->Nat
 |0=>0
 |j+1=>cnt row k j+(if row[j]?=ο (2,k) then 1 else 0)
theorem acZ(row:List (Nat×Nat))(k:Nat):∀j,cnt row k j<=j
 |0=>zL0
 |j+1=>by
  have:=acZ row k j;unfold cnt
  split <;> omega
def qz(row:List (Nat×Nat)):Nat->Nat
 |0=>0
 |j+1=>if cnt row (qz row j) row.length<cnt row j row.length then j else qz row j
theorem ac0(row:List (Nat×Nat)):∀j,qz row j<j\/qz row j=0
 |0=>.inr rfl
 |j+1=>by
  have:=ac0 row j;unfold qz
  split <;> omega
def usual(row:List (Nat×Nat))(n:Nat):Nat:=qz row n
def lN(row:List (Nat×Nat))(u:Nat):Nat->List (Nat×Nat×Nat)
 |0=>[]
 |j+1=>lN row u j++(match row[j]? with
  |some c=>if c.1≠0/\c≠(2,u) then [(c.1,c.2,j)] else []
  |none=>[])
def lX(gt:List Nat)(o:Nat):Nat->List (Nat×Nat×Nat)
 |0=>[]
 |j+1=>lX gt o j++(match gt[j]? with
  |some t=>if t≠0 then [(1,t,o+j)] else []
  |none=>[])
def told(row:List (Nat×Nat))(gt:List Nat)(u:Nat):List (Nat×Nat×Nat):=lN row u row.length++lX gt row.length gt.length
def fits(ak:List (Nat×Nat×Nat))(row:List (Nat×Nat×Nat))(b:Nat):Bool:=row.all fun x=>(ak.getD (b+x.2.2) (0,0,0)).1 == 0
theorem aki(a:List (Nat×Nat×Nat))(row:List (Nat×Nat×Nat))(h:a.length<=b):fits a row b=η:=by
 unfold fits;rw[ry];intro x _;rw[di,kf (by omega)];rfl
def Ap(ak:List (Nat×Nat×Nat))(row:List (Nat×Nat×Nat)):Nat->Nat->Nat
 |0,b=>b
 |f+1,b=>if fits ak row b=η then b else Ap ak row f (b+1)
theorem akj(h:fits a row b=η):∀f,Ap a row f b=b
 |0=>rfl
 |f+1=>by rw[Ap,du h]
theorem aly(h:fits a row b=ε):Ap a row (f+1) b=Ap a row f (b+1):=by
 rw[Ap,h,dt (by decide)]
def fit(ak:List (Nat×Nat×Nat))(row:List (Nat×Nat×Nat)):Nat:=Ap ak row ak.length 0
def Aq(ak:List (Nat×Nat×Nat))(k:Nat)(x:Nat×Nat×Nat):List (Nat×Nat×Nat):=(ak++ψ (k+1-ak.length) (0,0,0)).set k x
def ny(b q:Nat):List (Nat×Nat×Nat)->List (Nat×Nat×Nat)->List (Nat×Nat×Nat)
 | [],ak=>ak
 |x::r,ak=>ny b q r (Aq ak (b+x.2.2) (x.1,x.2.1,q))
structure Mk where
 aD:List Nat
 ak:List (Nat×Nat×Nat)
 aH:List Nat
def lay(m:Mk)(row:List (Nat×Nat×Nat)):Mk:={ m with aD:=m.aD++[fit m.ak row],ak:=ny (fit m.ak row) m.aD.length row m.ak }
def one(nP:Nat)(m:Mk)(row:List (Nat×Nat))(gt:List Nat):Mk:=lay { m with aH:=m.aH++[usual row nP] } (told row gt (usual row nP))
def mk(nP:Nat)(cs:List (List (Nat×Nat)))(gs:List (List Nat)):Nat->Mk
 |0=>⟨[],[],[]⟩
 |k+1=>one nP (mk nP cs gs k) (cs.getD k []) (gs.getD k [])
def wP:Nat->List (Nat×Nat×Nat)->List Nat
 |_,[]=>[]
 |gap,x::r=>if x.1=0 then wP (gap+1) r else be 2 gap++be 2 x.2.2++be 2 (x.1*4096+x.2.1)++wP 0 r
def tF(l:List (Nat×Nat×Nat)):Nat:=(l.filter fun x=>x.1 != 0).length
def nQ(l:List (Nat×Nat×Nat)):List Nat:=be 3 (tF l)++wP 0 l
def wR(nT:Nat)(l:List (Nat×Nat)):List Nat:=l.flatMap fun x=>be 2 (x.1-nT)++be 2 x.2
def wD(m:Mk):Nat->List Nat
 |0=>[]
 |k+1=>wD m k++(be 1 (m.aH.getD k 0)++be 3 (m.aD.getD k 0))
def sj(T N:List ByteArray)(P:List (Nat×Nat))(m:Mk):List Nat:=be 2 (m.aH.length-1)++be 2 (T.length-1)++be 2 (N.length-1)++be 2 (P.length-1)++wS T++wS N++wR T.length P++wD m m.aH.length++nQ m.ak
def Bu(l:List Nat):ByteArray:=⟨(l.map fun x=>UInt8.ofNat x).toArray⟩
def written(T N:List ByteArray)(P:List (Nat×Nat))(m:Mk):ByteArray:=Bu (sj T N P m++be 4 (sum (Bu (sj T N P m)) (sj T N P m).length))
end Pk
def Pk.o9(row:List (Nat×Nat))(n j:Nat):List Nat:=(List.range n).map fun k=>Pk.cnt row k j
theorem Pk.aa0{row:List (Nat×Nat)}(h:k<n):(Pk.o9 row n j)[k]?=ο (Pk.cnt row k j):=by simp[Pk.o9,h]
theorem Pk.NU(row:List (Nat×Nat))(n j:Nat):(Pk.o9 row n j).length=n:=by simp[Pk.o9]
theorem Pk.alz{row:List (Nat×Nat)}{x:Nat×Nat}(a:row[j]?=ο x)(h:x.1≠2):Pk.o9 row n (j+1)=Pk.o9 row n j:=by
 unfold Pk.o9;refine ju fun k _=>?_
 rw[Pk.cnt,a,dt]
 ·rfl
 ·intro e
  cases e;exact h rfl
theorem Pk.akk{row:List (Nat×Nat)}(b:row[j]?=ο (2,k)):Pk.o9 row n (j+1)=(Pk.o9 row n j).set k (Pk.cnt row k j+1):=by
 apply od
 ·rw[jp,Pk.NU,Pk.NU]
 ·intro i h1 h2
  rw[Pk.NU]at h1;rw[uA];simp only[Pk.o9,List.getElem_map,List.getElem_range];rw[Pk.cnt,b]
  by_cases e:k=i
  ·subst e;simp
  ·rw[dt e,dt]
   ·rfl
   ·intro a
    cases a;exact e rfl
theorem Ta(h:l[i]?=ο x):(dY l)[i]?=ο (ι ξ (x:Int)):=by
 obtain⟨h1,rfl⟩:=cH.1 h;exact Sg l h1
theorem agF{row:List (Nat×Nat)}(h:wQ w v row)(hp:∀x∈row,x.1=2->x.2<n)(X:0<n)(U:n<=100000)(Z:row.length<=100000):χ prog 42 #[v,ι ξ (n:Int)] w fun e w'=>e=δ (ι ξ (Pk.usual row n:Int))/\φ w.heap.size w w':=by
 obtain⟨a,c,rfl,L⟩:=h;obtain⟨b,E⟩:=aF w.heap.size;have V:=fun w=>Ns (n:=n) U w
 have G:Hid (φ b w (w.alloc (ζ (dY (ψ n 0)) 3))/\aj (w.alloc (ζ (dY (ψ n 0)) 3)) b (dY (Pk.o9 row n 0)) 3):=by
  refine⟨by rw[<-E];exact(cV _ _).alloc (zL0) _,?_⟩;rw[<-E,show Pk.o9 row n 0=ψ n 0 from by
   apply od
   ·rw[Pk.NU,js]
   ·intro i h1 h2
    simp[Pk.o9,Pk.cnt]]
  exact aj.new ..
 have C:Hid (∀wr,φ b w wr->∀(j:Nat)x,row[j]?=ο x->∃g,a=ο ⟨g,0,ν⟩/\wr.cell? ⟨g,j*2,ν⟩=ο (ι ξ (x.1:Int))/\wr.cell? ⟨g,j*2+1,ν⟩=ο (ι ξ (x.2:Int))):=fun wr f j x hx=>by
  rw[<-E]at f;obtain⟨g,e,h1,h2⟩:=L j x hx;exact⟨g,e,aU f h1,aU f h2⟩
 clear L;go_enter func42,ntmps42
 go_wp2_with (simp only[V])
 go_loopw [15] (fun i wr=>∃j:Nat,j<=row.length/\i=ι ξ (j:Int)/\Hid (φ b w wr/\aj wr b (dY (Pk.o9 row n j)) 3)) (fun i _=>row.length - (intOf i).toNat)
 case atStart=>exact⟨0,by omega,rfl,G⟩
 case round=>
  clear G;obtain⟨j,W,rfl,I⟩:=hrel;obtain⟨f,s⟩:=I.out;clear I
  by_cases hjn:j<row.length
  ·have N:(j:Int)<(row.length:Int):=by omega
   obtain⟨x,hx⟩:∃x,row[j]?=ο x:=⟨_,cG hjn⟩;obtain⟨g,rfl,R,S⟩:=C.out wr f j x hx;obtain⟨y,d⟩:=x;simp only at R S;obtain⟨m,o⟩:=aC (wr.alloc (ζ #[ι ξ (y:Int),ι ξ (d:Int)] 118));have J:aj m wr.heap.size #[ι ξ (y:Int),ι ξ (d:Int)] 118:=by rw[o];exact aj.new ..
   have t:aj m b (dY (Pk.o9 row n j)) 3:=by rw[o];exact s.alloc _
   have l:φ b w m:=by rw[o];exact f.alloc (lA s.lt) _
   have x1:=J.a0;have x2:=J.a1
   by_cases h2:y=2
   ·have D:((y:Int) == 2)=η:=by simp[h2]
    have T:d<n:=hp _ (cM hx) h2;rw[h2]at hx;have d1:(0:Int)<=(d:Int):=by omega
    have d2:(d:Int)<(n:Int):=by omega
    have M:m.cell? ⟨b,d,ν⟩=ο (ι ξ (Pk.cnt row d j:Int)):=by rw[t.cell];exact Ta (Pk.aa0 T)
    have F:=Pk.acZ row d j;have Y:=t.frozen d;have A:Hid (φ b w (m.setCell ⟨b,d,ν⟩ (ι ξ ((Pk.cnt row d j+1:Nat):Int)))/\aj (m.setCell ⟨b,d,ν⟩ (ι ξ ((Pk.cnt row d j+1:Nat):Int))) b (dY (Pk.o9 row n (j+1))) 3):=by
     refine⟨l.setCell (p:=⟨b,d,ν⟩) (zL0) _,?_⟩;rw[Pk.akk hx,<-Sd];exact t.set d _
    generalize Pk.cnt row d j=z at M F A;have B:((z+1:Nat):Int)=(z:Int)+1:=by omega
    rw[B]at A;clear f s t l hp C B h2;go_upto_region 6 with fail
    rw[<-o];clear o;go_wp2_with fail;exact⟨⟨j+1,by omega,by go_num,A⟩,by simp[intOf];omega⟩
   ·have D:((y:Int) == 2)=ε:=zB0 (by omega)
    have A:Hid (φ b w m/\aj m b (dY (Pk.o9 row n (j+1))) 3):=⟨l,by rw[Pk.alz hx h2];exact t⟩;clear f s t l hp C;go_upto_region 6 with fail
    rw[<-o];clear o;go_wp2_with fail;exact⟨⟨j+1,by omega,by go_num,A⟩,by simp[intOf];omega⟩
  ·obtain rfl:j=row.length:=by omega
   have H:Hid (∀k,k<n->wr.cell? ⟨b,k,ν⟩=ο (ι ξ (Pk.cnt row k row.length:Int))):=fun k O=>by rw[s.cell];exact Ta (Pk.aa0 O)
   have P:Hid (φ b w wr):=f;clear f s hp C;go_wp2_with fail
   go_loop [6,32] (fun u i=>∃j:Nat,j<=n/\i=ι ξ (j:Int)/\u=ι ξ (Pk.qz row j:Int)) (fun _ i=>n - (intOf i).toNat)
   case atStart=>exact⟨0,by omega,rfl,rfl⟩
   case round=>
    obtain⟨j,W,rfl,rfl⟩:=hrel
    by_cases hjn:j<n
    ·have N:(j:Int)<(n:Int):=by omega
     have K:=Pk.ac0 row j;have d1:=H.out j hjn;have d2:=H.out (Pk.qz row j) (by omega);have B:Pk.qz row (j+1)=if Pk.cnt row (Pk.qz row j) row.length<Pk.cnt row j row.length then j else Pk.qz row j:=rfl
     have Q:Pk.qz row j<n:=by omega
     have r:Hid _:=B;clear B;generalize Pk.cnt row j row.length=z1 at d1 r;generalize Pk.cnt row (Pk.qz row j) row.length=z2 at d2 r;generalize Pk.qz row j=u at d2 Q r K;have u1:(0:Int)<=(u:Int):=by omega
     have u2:(u:Int)<(n:Int):=by omega
     clear K
     by_cases hz:z2<z1
     ·have D:decide ((z2:Int)<(z1:Int))=η:=ge (by omega)
      have q:Hid (Pk.qz row (j+1)=j):=r.out.trans (du hz);clear r;go_wp2_with fail;exact⟨⟨j+1,by omega,by go_num,by rw[q.out]⟩,by simp[intOf];omega⟩
     ·have D:decide ((z2:Int)<(z1:Int))=ε:=fx (by omega)
      have q:Hid (Pk.qz row (j+1)=u):=r.out.trans (dt hz);clear r;go_wp2_with fail;exact⟨⟨j+1,by omega,by go_num,by rw[q.out]⟩,by simp[intOf];omega⟩
    ·obtain rfl:j=n:=by omega
     go_wp2_with fail;go_ret;exact⟨rfl,P.out⟩
theorem Tryz.alA:(prog.info? 239).map (fun i=>(i.zero,i.size,i.bytes))=ο (ο (.agg #[.int ξ 0,.int ξ 0,.int ξ 0]),3,24):=by kernel_rfl
theorem Tryz.Uj:prog.underlying 146=ο (.slice 239):=by kernel_rfl
def TdE(w:ω)(l:List (Nat×Nat×Nat))(e:Ending)(w':ω):Prop:=∃vo,e=δ vo/\w'.ownsRow w.heap.size 239 3 vo l.length (l.flatMap cZ)/\φ w.heap.size w w'
theorem Tc{l:List (Nat×Nat×Nat)}{x:Nat×Nat×Nat}(h:w.ownsRow B e 3 v (l.length+1) (l.flatMap cZ++[ι ξ (x.1:Int),ι ξ (x.2.1:Int),ι ξ (x.2.2:Int)])):w.ownsRow B e 3 v (l++[x]).length ((l++[x]).flatMap cZ):=by
 rw[cJ,ik];simpa [cZ]using h
theorem Pk.Oj(row:List (Nat×Nat))(u:Nat):∀j,(Pk.lN row u j).length<=j
 |0=>zL0
 |j+1=>by
  have:=Pk.Oj row u j;rw[Pk.lN,cJ]
  split
  ·split <;> simp <;> omega
  ·simp;omega
theorem Pk.TM(a:List Nat)(o:Nat):∀j,(Pk.lX a o j).length<=j
 |0=>zL0
 |j+1=>by
  have:=Pk.TM a o j;rw[Pk.lX,cJ]
  split
  ·split <;> simp <;> omega
  ·simp;omega
theorem ahB{row:List (Nat×Nat)}(h:wQ w v row)(hg:jX w vg d)(hr:row.length<=100000)(ab:d.length<=100000)(u:Nat):χ prog 44 #[v,vg,ι ξ (u:Int)] w (TdE w (Pk.told row d u)):=by
 obtain⟨a,c,rfl,R⟩:=h;obtain⟨ga,gc,rfl,K⟩:=hg;obtain⟨i0,H,F,G,C⟩:=ft Tryz.alA;have H0:Hid (φ w.heap.size w w/\w.ownsRow w.heap.size 239 3 (ς ν 0 0) (Pk.lN row u 0).length ((Pk.lN row u 0).flatMap cZ)):=⟨cV _ _,eV _ _ _ _⟩;have Z:Hid (∀wr,φ w.heap.size w wr->∀(j:Nat)x,row[j]?=ο x->∃g,a=ο ⟨g,0,ν⟩/\wr.cell? ⟨g,j*2,ν⟩=ο (ι ξ (x.1:Int))/\wr.cell? ⟨g,j*2+1,ν⟩=ο (ι ξ (x.2:Int))):=fun wr m j x J=>by
  obtain⟨g,e,h1,h2⟩:=R j x J;exact⟨g,e,aU m h1,aU m h2⟩
 have P:Hid (∀wr,φ w.heap.size w wr->∀(j:Nat)x,d[j]?=ο x->∃g,ga=ο ⟨g,0,ν⟩/\wr.cell? ⟨g,j,ν⟩=ο (ι ξ (x:Int))):=fun wr m j x J=>by
  obtain⟨g,e,h1⟩:=K j x J;rw[j9]at h1;exact⟨g,e,aU m h1⟩
 clear R K;go_enter func44,ntmps44;go_wp2_with fail
 go_loopw [7,14] (fun W i wr=>∃j:Nat,j<=row.length/\i=ι ξ (j:Int)/\Hid (φ w.heap.size w wr/\wr.ownsRow w.heap.size 239 3 W (Pk.lN row u j).length ((Pk.lN row u j).flatMap cZ))) (fun _ i _=>row.length - (intOf i).toNat)
 case atStart=>exact⟨0,by omega,rfl,H0⟩
 case round=>
  clear H0;obtain⟨j,hj,rfl,O⟩:=hrel;obtain⟨m,o⟩:=O.out;clear O
  by_cases hjn:j<row.length
  ·have j1:(j:Int)<(row.length:Int):=by omega
   obtain⟨x,J⟩:∃x,row[j]?=ο x:=⟨_,cG hjn⟩;obtain⟨g,rfl,c1,c2⟩:=Z.out wr m j x J;obtain⟨l,n⟩:=x;simp only at c1 c2;have V:=Pk.Oj row u j;have N:Pk.lN row u (j+1)=Pk.lN row u j++(if l≠0/\(l,n)≠(2,u) then [(l,n,j)] else []):=by rw[Pk.lN,J]
   have D:Hid _:=N;clear N;generalize Pk.lN row u j=tl at o V D;obtain⟨B,z,rfl,-⟩:=aB o;obtain⟨E,r⟩:=aC (wr.alloc (ζ #[ι ξ (l:Int),ι ξ (n:Int)] 118));obtain⟨bx,s⟩:=aF wr.heap.size;have U:aj E bx #[ι ξ (l:Int),ι ξ (n:Int)] 118:=by rw[r,<-s];exact aj.new ..
   have p:E.ownsRow w.heap.size 239 3 (ς B tl.length z) tl.length (tl.flatMap cZ):=by rw[r];exact o.alloc _
   have f:φ w.heap.size w E:=by rw[r];exact m.alloc m.size _
   have x1:=U.a0;have x2:=U.a1;clear o m Z P U;have q:Hid (¬(l≠0/\(l,n)≠(2,u))->Pk.lN row u (j+1)=tl):=fun R=>by show Pk.lN row u (j+1)=tl;rw[D.out,dt R,fW]
   by_cases h0:l=0
   ·have X:((l:Int) != 0)=ε:=by simp[h0]
    have I:Hid (φ w.heap.size w E/\E.ownsRow w.heap.size 239 3 (ς B tl.length z) (Pk.lN row u (j+1)).length ((Pk.lN row u (j+1)).flatMap cZ)):=⟨f,by rw[q.out (fun h=>h.1 h0)];exact p⟩;clear D q f p h0;go_upto_region 5 with fail
    rw[<-r];clear r s;go_wp2_with fail;exact⟨⟨j+1,by omega,by go_num,I⟩,by simp[intOf];omega⟩
   ·have X:((l:Int) != 0)=η:=by simp;omega
    by_cases h2:l=2/\n=u
    ·have I:Hid (φ w.heap.size w E/\E.ownsRow w.heap.size 239 3 (ς B tl.length z) (Pk.lN row u (j+1)).length ((Pk.lN row u (j+1)).flatMap cZ)):=⟨f,by rw[q.out (fun h=>h.2 (by rw[h2.1,h2.2]))];exact p⟩
     have Q:Hid (l=2/\n=u):=h2;clear D q f p h0 h2;go_upto_region 5 with fail
     rw[<-r];clear r s;have e1:((l:Int) == 2)=η:=by simp[Q.out.1]
     have e2:((n:Int) == (u:Int))=η:=by simp[Q.out.2]
     have e3:(l:Int)=2:=by have:=Q.out;omega
     have e4:(n:Int)=(u:Int):=by have:=Q.out;omega
     go_wp2_with fail;exact⟨⟨j+1,by omega,by go_num,I⟩,by simp[intOf];omega⟩
    ·have A:Hid (Pk.lN row u (j+1)=tl++[(l,n,j)]):=by
      show _=_;rw[D.out,du ⟨h0,fun e=>h2 (by cases e;exact⟨rfl,rfl⟩)⟩]
     by_cases h3:l=2
     ·have h4:¬n=u:=fun e=>h2 ⟨h3,e⟩
      have S:Hid (l=2/\¬n=u):=⟨h3,h4⟩;clear h2 D q h0 h3 h4;go_upto_region 5 with fail
      rw[<-r];clear r s;have e1:((l:Int) == 2)=η:=by simp[S.out.1]
      have e2:((n:Int) == (u:Int))=ε:=ej.2 (by have:=S.out;omega);have e4:¬(n:Int)=(u:Int):=by have:=S.out;omega
      go_wp2_with (at_builtin;refine ii _ rfl _ _ 146 rfl w.heap.size 239 i0 _ 3 24 Tryz.Uj H F G C rfl (by decide) (ς B tl.length z) _ _ rfl (p.alloc _) ⟨_,0,ν⟩ 1 1 [ι ξ (l:Int),ι ξ (n:Int),ι ξ (j:Int)] rfl rfl (bQ (aj.new _ _ 239)) (by simp[Value.oneCell']) (by unfold maxLen;omega) (by omega) (by simp;have:=f.size;omega) ?_;intro v5 w5 b L _ jd;obtain⟨mG,mH,y,-⟩:=aB b;subst y)
      refine⟨⟨j+1,by omega,by go_num,(f.alloc f.size _).grown L (by simp;have:=f.size;omega) (fun k M=>(p.lt k M).1),?_⟩,by simp[intOf];omega⟩;rw[A.out];exact Tc (x:=(l,n,j)) b
     ·clear h2
      clear D q h0;go_upto_region 5 with fail
      rw[<-r];clear r s;have e1:((l:Int) == 2)=ε:=zB0 (by omega);have e4:¬(l:Int)=2:=by omega
      clear h3
      go_wp2_with (at_builtin;refine ii _ rfl _ _ 146 rfl w.heap.size 239 i0 _ 3 24 Tryz.Uj H F G C rfl (by decide) (ς B tl.length z) _ _ rfl (p.alloc _) ⟨_,0,ν⟩ 1 1 [ι ξ (l:Int),ι ξ (n:Int),ι ξ (j:Int)] rfl rfl (bQ (aj.new _ _ 239)) (by simp[Value.oneCell']) (by unfold maxLen;omega) (by omega) (by simp;have:=f.size;omega) ?_;intro v5 w5 b L _ jd;obtain⟨mG,mH,y,-⟩:=aB b;subst y)
      refine⟨⟨j+1,by omega,by go_num,(f.alloc f.size _).grown L (by simp;have:=f.size;omega) (fun k M=>(p.lt k M).1),?_⟩,by simp[intOf];omega⟩;rw[A.out];exact Tc (x:=(l,n,j)) b
  ·obtain rfl:j=row.length:=by omega
   have HB:Hid (φ w.heap.size w wr):=m;have XH:Hid (Pk.lN row u row.length++Pk.lX d row.length d.length=Pk.told row d u):=rfl;have V:=Pk.Oj row u row.length;generalize Pk.lN row u row.length=tl at o XH V;obtain⟨va,vc,yg,-⟩:=aB o;subst yg;have H1:Hid (φ w.heap.size w wr/\wr.ownsRow w.heap.size 239 3 (ς va tl.length vc) (tl++Pk.lX d row.length 0).length ((tl++Pk.lX d row.length 0).flatMap cZ)):=⟨m,by rw[Pk.lX,fW];exact o⟩;clear m o Z HB;go_wp2_with fail
   go_loopw [7,37] (fun W i wr=>∃j:Nat,j<=d.length/\i=ι ξ (j:Int)/\Hid (φ w.heap.size w wr/\wr.ownsRow w.heap.size 239 3 W (tl++Pk.lX d row.length j).length ((tl++Pk.lX d row.length j).flatMap cZ))) (fun _ i _=>d.length - (intOf i).toNat)
   case atStart=>exact⟨0,by omega,rfl,H1⟩
   case round=>
    clear H1;revert wr;intro Y hrel;obtain⟨j,hj,rfl,O⟩:=hrel;obtain⟨m,o⟩:=O.out;clear O
    by_cases hjn:j<d.length
    ·have j1:(j:Int)<(d.length:Int):=by omega
     obtain⟨t,ht⟩:∃t,d[j]?=ο t:=⟨_,cG hjn⟩;obtain⟨g,rfl,c1⟩:=P.out Y m j t ht;have N:Pk.lX d row.length (j+1)=Pk.lX d row.length j++(if t≠0 then [(1,t,row.length+j)] else []):=by rw[Pk.lX,ht]
     have T:=Pk.TM d row.length j;have A:Hid (tl++Pk.lX d row.length (j+1)=(tl++Pk.lX d row.length j)++(if t≠0 then [(1,t,row.length+j)] else [])):=by show _=_;rw[N,dy]
     have aa:(tl++Pk.lX d row.length j).length<=200000:=by rw[cJ];omega
     clear N T P;generalize tl++Pk.lX d row.length j=t2 at o A aa;obtain⟨B,z,rfl,-⟩:=aB o
     by_cases h0:t=0
     ·have X:((t:Int) != 0)=ε:=by simp[h0]
      have I:Hid (φ w.heap.size w Y/\Y.ownsRow w.heap.size 239 3 (ς B t2.length z) (tl++Pk.lX d row.length (j+1)).length ((tl++Pk.lX d row.length (j+1)).flatMap cZ)):=⟨m,by rw[A.out,dt (fun h=>h h0),fW];exact o⟩;clear A m o h0;go_wp2_with fail;exact⟨⟨j+1,by omega,by go_num,I⟩,by simp[intOf];omega⟩
     ·have X:((t:Int) != 0)=η:=by simp;omega
      have ew:IntKind.i64.wrap ((row.length:Int)+(j:Int))=(row.length:Int)+(j:Int):=by rw[gx];omega
      have I:Hid (tl++Pk.lX d row.length (j+1)=t2++[(1,t,row.length+j)]):=by show _=_;rw[A.out,du h0]
      clear A h0
      go_wp2_with (at_builtin;refine ii _ rfl _ _ 146 rfl w.heap.size 239 i0 _ 3 24 Tryz.Uj H F G C rfl (by decide) (ς B t2.length z) _ _ rfl (o.alloc _) ⟨_,0,ν⟩ 1 1 [ι ξ 1,ι ξ (t:Int),ι ξ ((row.length:Int)+(j:Int))] rfl rfl (bQ (aj.new _ _ 239)) (by simp[Value.oneCell']) (by unfold maxLen;omega) (by omega) (by simp;have:=m.size;omega) ?_;intro v5 w5 b L _ jd;obtain⟨mG,mH,y,-⟩:=aB b;subst y)
      refine⟨⟨j+1,by omega,by go_num,(m.alloc m.size _).grown L (by simp;have:=m.size;omega) (fun k M=>(o.lt k M).1),?_⟩,by simp[intOf];omega⟩;rw[I.out];refine Tc (x:=(1,t,row.length+j)) ?_;rw[show ((row.length+j:Nat):Int)=(row.length:Int)+(j:Int) by omega];exact b
    ·obtain rfl:j=d.length:=by omega
     rw[XH.out]at o;clear P XH;go_wp2_with fail;go_ret;exact⟨_,rfl,o,m⟩
theorem Pk.aiW{x:Nat×Nat×Nat}(c:row[j]?=ο x):Pk.fits a (row.drop j) b=((a.getD (b+x.2.2) (0,0,0)).1 == 0 && Pk.fits a (row.drop (j+1)) b):=by
 obtain⟨h,rfl⟩:=cH.1 c;rw[eN h];rfl
theorem akl{pb:Nat}{N:υ}{l:List (Nat×Nat×Nat)}(Q:w.cell? ⟨pb,1,ν⟩=ο vP)(F:w.ownsRow B 233 3 vP l.length (l.flatMap cZ))(Y:lM w N row)(E:∀x∈row,b+x.2.2<=1000000000)(hl:row.length<=1000000):χ prog 92 #[π (ο ⟨pb,0,ν⟩),ι ξ (b:Int),N] w fun e w'=>e=δ (μ (Pk.fits l row b))/\φ w.heap.size w w':=by
 obtain⟨a,c,rfl,u⟩:=Y;obtain⟨P,O,rfl,-⟩:=aB F;have G:Hid (∀wr,φ w.heap.size w wr->wr.cell? ⟨pb,1,ν⟩=ο (ς P l.length O)/\∀i:Nat,χ prog 154 #[ς P l.length O,ι ξ (i:Int)] wr fun e w'=>e=δ (γ #[ι ξ ((l.getD i (0,0,0)).1:Int),ι ξ ((l.getD i (0,0,0)).2.1:Int),ι ξ ((l.getD i (0,0,0)).2.2:Int)])/\φ wr.heap.size wr w'):=fun wr m=>⟨aU m Q,fun i=>Y3 (ay F fun g U=>m.block g (F.lt g U).2) i⟩
 have M:Hid (∀wr,φ w.heap.size w wr->∀(j:Nat)x,row[j]?=ο x->∃g,a=ο ⟨g,0,ν⟩/\wr.cell? ⟨g,j*3,ν⟩=ο (ι ξ (x.1:Int))/\wr.cell? ⟨g,j*3+1,ν⟩=ο (ι ξ (x.2.1:Int))/\wr.cell? ⟨g,j*3+2,ν⟩=ο (ι ξ (x.2.2:Int))):=fun wr m j x E=>by
  obtain⟨g,e,h1,h2,h3⟩:=u j x E;exact⟨g,e,aU m h1,aU m h2,aU m h3⟩
 have I:Hid (φ w.heap.size w w/\Pk.fits l (row.drop 0) b=Pk.fits l row b):=⟨cV _ _,rfl⟩;clear u F Q;go_enter func92,ntmps92;go_wp2_with fail
 go_loopw [11] (fun i wr=>∃j:Nat,j<=row.length/\i=ι ξ (j:Int)/\Hid (φ w.heap.size w wr/\Pk.fits l (row.drop j) b=Pk.fits l row b)) (fun i _=>row.length - (intOf i).toNat)
 case atStart=>exact⟨0,by omega,rfl,I⟩
 case round=>
  clear I;obtain⟨j,hj,rfl,K⟩:=hrel;obtain⟨m,s⟩:=K.out;clear K
  by_cases hjn:j<row.length
  ·have j1:(j:Int)<(row.length:Int):=by omega
   obtain⟨x,hxj⟩:∃x,row[j]?=ο x:=⟨_,cG hjn⟩;obtain⟨g,rfl,V,W,X⟩:=M.out wr m j x hxj;have H:=E x (cM hxj);rw[Pk.aiW hxj]at s;obtain⟨J,R,o⟩:=x;simp only at V W X H s;obtain⟨r,D⟩:=aC (wr.alloc (ζ #[ι ξ (J:Int),ι ξ (R:Int),ι ξ (o:Int)] 239));obtain⟨S,v⟩:=aF wr.heap.size;have L:aj r S #[ι ξ (J:Int),ι ξ (R:Int),ι ξ (o:Int)] 239:=by rw[D,<-v];exact aj.new ..
   have f:φ w.heap.size w r:=by rw[D];exact m.alloc m.size _
   have x3:=L.a2;obtain⟨cP,-⟩:=G.out r f;have z:=fun nq=>(G.out (r.drewN nq) ⟨f.1,f.2,f.3,f.4,f.5⟩).2 (b+o)
   simp only[show ((b+o:Nat):Int)=(b:Int)+(o:Int) by omega]at z;have ew:IntKind.i64.wrap ((b:Int)+(o:Int))=(b:Int)+(o:Int):=by rw[gx];omega
   have A:Hid (∀nq w2,φ (r.drewN nq).heap.size (r.drewN nq) w2->φ w.heap.size w w2):=fun nq w2 h2=>by
    have:φ w.heap.size w (r.drewN nq):=⟨f.1,f.2,f.3,f.4,f.5⟩;exact this.trans (h2.mono this.size)
   have t:Hid (((l.getD (b+o) (0,0,0)).1 == 0 && Pk.fits l (row.drop (j+1)) b)=Pk.fits l row b):=s;clear m s f L E G M;generalize l.getD (b+o) (0,0,0)=d at z t;obtain⟨d1,d2,d3⟩:=d;simp only at z t;go_upto_region 4 with fail
   rw[<-D];clear D v;refine(pn (n:=9)).1 ?_;refine kV 8 (by kernel_rfl) (by kernel_rfl) (by kernel_rfl) ?_
   dsimp only[List.take,List.drop,List.length]
   repeat (gi_big_quiet_step (fail))
   refine wpQuietIn_nil ?_;rintro _⟨Ll,rfl⟩;refine wpAnyIn_ready (rs:=[8]) (by kernel_rfl) (by simp) (AllReadyIn.cons rfl (fun p k=>?_) AllReadyIn.nil)
   go_simp
   refine⟨trivial,(gh.2 (z _)).mono ?_⟩;rintro e Z⟨rfl,y⟩;have q:=A.out _ _ y;clear z y A;refine k _ _ ?_;clear k p;refine wpAnyIn_ready (rs:=[9]) (by kernel_rfl) (by simp) (AllReadyIn.cons rfl (fun p k=>?_) AllReadyIn.nil)
   go_simp
   refine k _ _ ?_;clear k p;refine wpAnyIn_ready (rs:=[10]) (by kernel_rfl) (by simp) (AllReadyIn.cons rfl (fun p k=>?_) AllReadyIn.nil)
   go_simp
   refine k _ _ ?_;clear k p;refine wpAnyIn_ready (rs:=[11]) (by kernel_rfl) (by simp) (AllReadyIn.cons rfl (fun p k=>?_) AllReadyIn.nil)
   go_simp
   refine k _ _ (wpAnyIn_done (by kernel_rfl) ?_ _);clear k p
   by_cases hd:d1=0
   ·have T:((d1:Int) != 0)=ε:=by simp[hd]
    have C:Hid (φ w.heap.size w Z/\Pk.fits l (row.drop (j+1)) b=Pk.fits l row b):=⟨q,by rw[<-t.out,hd];simp⟩;clear hd t q;go_wp2_with fail;exact⟨⟨j+1,by omega,by go_num,C⟩,by simp[intOf];omega⟩
   ·have T:((d1:Int) != 0)=η:=by simp;omega
    have C:Hid (Pk.fits l row b=ε):=by
     show _=_;rw[<-t.out];simp[hd]
    clear t;go_wp2_with fail;go_ret;exact⟨iI C.out.symm,q⟩
  ·obtain rfl:j=row.length:=by omega
   rw[im]at s;have C:Hid (Pk.fits l row b=η):=by rw[<-s];rfl
   clear s;go_wp2_with fail;go_ret;exact⟨iI C.out.symm,m⟩
def Sl(k:Nat):Prop:=k=0\/k=1\/k=4\/k=5
def Fj:Nat->Nat
 |0=>3
 |1=>233
 |4=>138
 |_=>3
def XI:Nat->Nat
 |0=>1
 |1=>3
 |4=>2
 |_=>1
def uM(P:List (Nat×Nat))(m:Pk.Mk):Nat->Nat
 |0=>m.aD.length
 |1=>m.ak.length
 |4=>P.length
 |_=>m.aH.length
def Dm(P:List (Nat×Nat))(m:Pk.Mk):Nat->List υ
 |0=>m.aD.map bA
 |1=>m.ak.flatMap cZ
 |4=>P.flatMap fI
 |_=>m.aH.map bA
def Pw(vs:Nat->υ)(k:Nat)(x:υ):Nat->υ:=fun j=>if j=k then x else vs j
def Mv(vT vN:υ)(vs:Nat->υ):Array υ:=#[vs 0,vs 1,vT,vN,vs 4,vs 5]
structure dK(W0:ω)(B pb:Nat)(vT vN:υ)(vs:Nat->υ)(W:ω)(P:List (Nat×Nat))(m:Pk.Mk):Prop where
 blk:aj W pb (Mv vT vN vs) 134
 row:∀k,Sl k->W.ownsRow B (Fj k) (XI k) (vs k) (uM P m k) (Dm P m k)
 ne:∀k l g,Sl k->Sl l->k≠l->(vs k).ownBlock=ο g->(vs l).ownBlock≠ο g
 b:φ B W0 W
 lb:B<=pb
section
variable{W0 W W':ω}{B pb k:Nat}{vT vN x:υ}{vs:Nat -> υ}{P P':List (Nat×Nat)}{m m':Pk.Mk}
theorem ac1(k:Nat):Fj k≠134/\Fj k≠239:=by
 unfold Fj
 split <;> decide
theorem dK.kp(h:dK W0 B pb vT vN vs W P m):Kd W pb 134:=⟨_,h.blk⟩
theorem dK.kr(h:dK W0 B pb vT vN vs W P m)(b:Sl k){g:Nat}(a:(vs k).ownBlock=ο g):Kd W g (Fj k):=bJ (h.row k b) a
theorem dK.size(h:dK W0 B pb vT vN vs W P m):B<=W.heap.size:=cY h.lb (lA h.kp.lt)
theorem dK.Dn(h:dK W0 B pb vT vN vs W P m)(a:Sl k):(vs k).ownBlock≠ο pb:=fun e=>(h.kr a e).ne h.kp (ac1 k).1 rfl
theorem dK.move(h:dK W0 B pb vT vN vs W P m)(a:φ W.heap.size W W'):dK W0 B pb vT vN vs W' P m where
 blk:=(a.block pb h.kp.lt).trans h.blk
 row k hk:=ay (h.row k hk) fun g c=>a.block g (h.kr hk c).lt
 ne:=h.ne
 b:=h.b.trans (a.mono h.size)
 lb:=h.lb
theorem dK.upd(h:dK W0 B pb vT vN vs W P m)(p:Sl k)(d:W.grownBy W' (vs k).ownBlock)(D:W'.ownsRow B (Fj k) (XI k) x (uM P' m' k) (Dm P' m' k))(o:x.ownBlock=(vs k).ownBlock\/∃g,x.ownBlock=ο g/\W.heap.size<=g)(z:∀l,Sl l->l≠k->uM P' m' l=uM P m l/\Dm P' m' l=Dm P m l):dK W0 B pb vT vN (Pw vs k x) (W'.setCell ⟨pb,k,ν⟩ x) P' m':=by
 have t:aj W' pb (Mv vT vN vs) 134:=(d.block pb h.kp.lt fun e=>h.Dn p e.symm).trans h.blk;have v:∀g,x.ownBlock=ο g->g≠pb:=fun g e=>by
  rcases o with o|⟨E,f,a⟩
  ·rintro rfl
   exact h.Dn p (o▸e)
  ·rw[e]at f
   cases f;have:=h.kp.lt;omega
 have r:∀l g,Sl l->l≠k->(vs l).ownBlock=ο g->x.ownBlock≠ο g:=fun l g a u e c=>by
  rcases o with o|⟨E,f,C⟩
  ·exact h.ne l k g a p u e (o▸c)
  ·rw[c]at f
   cases f;have:=(h.kr a e).lt;omega
 refine⟨?_,fun l a=>?_,fun l y g a s i e c=>?_,⟨d.1.trans h.b.1,d.2.trans h.b.2,d.3.trans h.b.3,by simpa using cY h.b.4 d.size,fun j A=>(aY _ _ (by have:=h.lb;omega)).trans ((d.block j (dg A h.size) fun e=>by have:=((h.row k p).lt j e.symm).1;omega).trans (h.b.block j A))⟩,h.lb⟩
 ·have:=t.set k x
  rcases p with rfl|rfl|rfl|rfl <;> exact this
 ·unfold Pw
  by_cases e:l=k
  ·subst e
   rw[du rfl];exact ay D fun g d=>aY _ _ (v g d)
  ·rw[dt e,(z l a e).1,(z l a e).2]
   exact ay (h.row l a) fun g n=>(aY _ _ fun(f:g=pb)=>h.Dn a (by rw[<-f];exact n)).trans (d.block g (h.kr a n).lt fun f=>h.ne l k g a p e n f.symm)
 ·unfold Pw at e c
  by_cases e3:l=k
  ·subst e3
   rw[du rfl]at e;rw[dt fun q=>i q.symm]at c;exact r y g s (fun q=>i q.symm) c e
  ·rw[dt e3]at e
   by_cases q:y=k
   ·subst q
    rw[du rfl]at c;exact r l g a e3 e c
   ·rw[dt q]at c
    exact h.ne l y g a s i e c
theorem dK.put(h:dK W0 B pb vT vN vs W P m)(d:Sl k){g:Nat}(f:(vs k).ownBlock=ο g)(a:W.grownBy W' (ο g))(n:W'.ownsRow B (Fj k) (XI k) (vs k) (uM P' m' k) (Dm P' m' k))(i:∀l,Sl l->l≠k->uM P' m' l=uM P m l/\Dm P' m' l=Dm P m l):dK W0 B pb vT vN vs W' P' m' where
 blk:=(a.block pb h.kp.lt fun e=>by cases e;exact h.Dn d f).trans h.blk
 row l hl:=by
  by_cases e:l=k
  ·subst e;exact n
  ·rw[(i l hl e).1,(i l hl e).2]
   exact ay (h.row l hl) fun p c=>a.block p (h.kr hl c).lt fun o=>by cases o;exact h.ne l k g hl d e c f
 ne:=h.ne
 b:=h.b.grown a h.size fun j e=>by cases e;exact((h.row k d).lt g f).1
 lb:=h.lb
theorem aav{b:υ}(h:dK W0 B pb vT vN vs W P m)(a:W.ownsRow B' 239 3 b row.length (row.flatMap cZ))(d:Sl k)(c:W.grownBy W' (vs k).ownBlock):W'.ownsRow B' 239 3 b row.length (row.flatMap cZ) :=
 ay a fun g e=>c.block g (show Kd W g 239 from bJ a e).lt fun f=>(show Kd W g 239 from bJ a e).ne (h.kr d f.symm) (fun e=>(ac1 k).2 e.symm) rfl
theorem BL{a:υ}(c:W.ownsRow B' 239 3 a row.length (row.flatMap cZ))(f:Kd W b t)(d:t≠239):(W.setCell ⟨b,j,ν⟩ u).ownsRow B' 239 3 a row.length (row.flatMap cZ) :=
 ay c fun g e=>aY _ _ ((show Kd W g 239 from bJ c e).ne f fun e=>d e.symm)
end
theorem Y7:∀(l:List (Nat×Nat×Nat))(k:Nat)(x:Nat×Nat×Nat),(((l.flatMap cZ).set (k*3) (ι ξ (x.1:Int))).set (k*3+1) (ι ξ (x.2.1:Int))).set (k*3+2) (ι ξ (x.2.2:Int))=(l.set k x).flatMap cZ
 | [],k,x=>rfl
 |y::l,0,x=>rfl
 |y::l,k+1,x=>by
  rw[ox,eS,eS,<-Y7 l k x,show (k+1)*3=k*3+1+1+1 by omega];rfl
theorem Kd.frozen{W:ω}{k t:Nat}(h:Kd W k t)(i:Nat):W.frozen? ⟨k,i,ν⟩=ε:=by
 obtain⟨a,b⟩:=h;exact aj.frozen (cs:=a) (e:=t) b i
section
variable{W0 W W':ω}{B pb k:Nat}{vT vN x:υ}{vs:Nat -> υ}{P P':List (Nat×Nat)}{m m':Pk.Mk}
theorem dK.Aq(h:dK W0 B pb vT vN vs W P m){g:Nat}(a:(vs 1).ownBlock=ο g)(x:Nat×Nat×Nat):dK W0 B pb vT vN vs (((W.setCell ⟨g,k*3,ν⟩ (ι ξ (x.1:Int))).setCell ⟨g,k*3+1,ν⟩ (ι ξ (x.2.1:Int))).setCell ⟨g,k*3+2,ν⟩ (ι ξ (x.2.2:Int))) P { m with ak:=m.ak.set k x }:=by
 have s1:Sl 1:=.inr (.inl rfl);have b:=Jw (Jw (Jw (h.row 1 s1) a (k*3) (ι ξ (x.1:Int))) a (k*3+1) (ι ξ (x.2.1:Int))) a (k*3+2) (ι ξ (x.2.2:Int));refine h.put s1 a (aI (aI (iO ..) (iO ..)) (iO ..)) (P':=P) (m':={ m with ak:=m.ak.set k x }) ?_ ?_
 ·have e:Dm P m 1=m.ak.flatMap cZ:=rfl
  rw[e,Y7]at b;have d:uM P { m with ak:=m.ak.set k x } 1=uM P m 1:=by show (m.ak.set k x).length=_;rw[jp];rfl
  rw[d];exact b
 ·rintro l(rfl | rfl | rfl | rfl)c
  ·exact⟨rfl,rfl⟩
  ·exact absurd rfl c
  ·exact⟨rfl,rfl⟩
  ·exact⟨rfl,rfl⟩
theorem alB(h:dK W0 B pb vT vN vs W P m){vr:υ}(hr:W.ownsRow B' 239 3 vr row.length (row.flatMap cZ))(hp:m.ak.length<=2000000)(hb:m.aD.length<=1000000)(hx:∀x∈row,x.2.2<=1000000)(hl:row.length<=1000000):χ prog 43 #[π (ο ⟨pb,0,ν⟩),vr] W fun e W'=>e=δ (θ #[])/\∃vs',dK W0 B pb vT vN vs' W' P (Pk.lay m row):=by
 obtain⟨ra,K,rfl,-⟩:=aB hr;obtain⟨i3,av,Ec,Ed,ac⟩:=ft Tryz.info3';obtain⟨i8,XJ,Vw,Vx,Vy⟩:=ft Tryz.abz;have s0:Sl 0:=.inl rfl;have s1:Sl 1:=.inr (.inl rfl);have HF:Hid (∀wr(b:Nat),φ W.heap.size W wr->b<=2000000->χ prog 92 #[π (ο ⟨pb,0,ν⟩),ι ξ (b:Int),ς ra row.length K] wr fun e w'=>e=δ (μ (Pk.fits m.ak row b))/\φ W.heap.size W w'):=fun wr b E aE=>by
  have h':=h.move E;refine(akl (show wr.cell? ⟨pb,1,ν⟩=ο (vs 1) from h'.blk.cell 1) (h'.row 1 s1) (lM.own (ay hr fun g hg=>E.block g (hr.lt g hg).2)) (fun x ai=>by have:=hx x ai;omega) (by omega)).mono ?_;rintro e w'⟨rfl,hw⟩;exact⟨rfl,E.trans (hw.mono E.size)⟩
 have HM:Hid (∀wr,φ W.heap.size W wr->dK W0 B pb vT vN vs wr P m/\wr.ownsRow B' 239 3 (ς ra row.length K) row.length (row.flatMap cZ)):=fun wr E=>⟨h.move E,ay hr fun g hg=>E.block g (hr.lt g hg).2⟩
 have H0:Hid (0<=m.ak.length/\φ W.heap.size W W/\Pk.Ap m.ak row (m.ak.length-0) 0=Pk.fit m.ak row):=⟨fi _,cV _ _,rfl⟩;clear h hr;go_enter func43,ntmps43;go_wp2_with fail
 go_loopw [4] (fun v wr=>∃b:Nat,v=ι ξ (b:Int)/\Hid (b<=m.ak.length/\φ W.heap.size W wr/\Pk.Ap m.ak row (m.ak.length-b) b=Pk.fit m.ak row)) (fun v _=>m.ak.length - (intOf v).toNat)
 case atStart=>exact⟨0,rfl,H0⟩
 case round=>
  clear H0;obtain⟨b,rfl,HI⟩:=hrel;obtain⟨aR,T,hf⟩:=HI.out;clear HI;have q:=HF.out wr b T (by omega);cases hfit:Pk.fits m.ak row b with
  |false=>
   have a9:b<m.ak.length:=by
    apply jt;intro hn;rw[Pk.aki _ _ (by omega)]at hfit;cases hfit
   rw[show m.ak.length-b=(m.ak.length - (b+1))+1 by omega,Pk.aly hfit]at hf;have HE:Hid _:=hf;rw[hfit]at q;clear hf hfit HF HM T
   go_wp2_with (go_at_call 92;refine q.mono ?_;rintro e w2⟨rfl,O⟩)
   exact⟨⟨b+1,by go_num,by omega,O,HE.out⟩,by simp[intOf];omega⟩
  |true=>
   rw[Pk.akj hfit]at hf;rw[hfit]at q;have ab:Hid _:=hf;clear hf hfit HF T;go_upto_region 3 with (go_at_call 92;refine q.mono ?_;rintro e w2⟨rfl,O⟩)
   obtain⟨h2,A⟩:=HM.out w2 O;clear HM q O;obtain⟨ba,bc,L,-⟩:∃a c,vs 0=ς a m.aD.length c/\_:=aB (h2.row 0 s0);have o0:w2.ownsRow B 3 1 (ς ba m.aD.length bc) m.aD.length (m.aD.map bA):=by rw[<-L];exact h2.row 0 s0
   have c0:w2.cell? ⟨pb,0,ν⟩=ο (ς ba m.aD.length bc):=by rw[<-L];exact h2.blk.cell 0
   have aa:(ς ba m.aD.length bc).ownBlock≠ο pb:=by rw[<-L];exact h2.Dn s0
   have kL:=h2.blk;have hsz:=h2.size;have HV:Hid _:=L;have H2:Hid (dK W0 B pb vT vN vs w2 P m/\w2.ownsRow B' 239 3 (.slice ra row.length K) row.length (row.flatMap cZ)):=⟨h2,A⟩;clear h2 A L;go_upto_region 5 with (at_builtin;refine ii _ rfl _ _ 47 rfl B 3 i3 _ 1 8 underlying47 av Ec Ed ac rfl (by decide) (.slice ba m.aD.length bc) _ _ rfl (o0.alloc _) ⟨_,0,ν⟩ 1 1 [.int ξ (b:Int)] rfl rfl (bQ (aj.new _ _ 3)) (by simp[Value.oneCell']) (by unfold maxLen;omega) (by omega) (by simp;omega) ?_;intro v5 Z F aX _ jd;obtain⟨mG,mH,ag,-⟩:=aB F;subst ag;have wO:=(kL.alloc (.cells #[.int ξ (b:Int)] 3)).grown aX (fun e=>aa e.symm);have c5:Z.cell? ⟨pb,0,ν⟩=ο (vs 0):=wO.cell 0;have f5:=wO.frozen 0)
   have M:Hid (dK W0 B pb vT vN (Pw vs 0 (ς mG (m.aD.length+1) mH)) (Z.setCell ⟨pb,0,ν⟩ (ς mG (m.aD.length+1) mH)) P { aD:=m.aD++[b],ak:=m.ak,aH:=m.aH }/\(Z.setCell ⟨pb,0,ν⟩ (ς mG (m.aD.length+1) mH)).ownsRow B' 239 3 (ς ra row.length K) row.length (row.flatMap cZ)):=by
    have ad:w2.grownBy Z (vs 0).ownBlock:=by rw[HV.out];exact aI (aM w2 _ _) aX
    refine⟨H2.out.1.upd (P':=P) (m':={ aD:=m.aD++[b],ak:=m.ak,aH:=m.aH }) s0 ad ?_ ?_ ?_,BL (aav H2.out.1 H2.out.2 s0 ad) (show Kd Z pb 134 from ⟨_,wO⟩) (by decide)⟩
    ·show Z.ownsRow B 3 1 _ (m.aD++[b]).length ((m.aD++[b]).map bA)
     rw[cJ,ee];exact F
    ·rw[HV.out]
     exact jd.imp id fun e=>⟨_,e,by simp⟩
    ·rintro l(rfl | rfl | rfl | rfl)hl
     ·exact absurd rfl hl
     ·exact⟨rfl,rfl⟩
     ·exact⟨rfl,rfl⟩
     ·exact⟨rfl,rfl⟩
   clear H2 wO c5 f5 F aX jd kL c0 o0 aa HV;generalize Z.setCell ⟨pb,0,ν⟩ (ς mG (m.aD.length+1) mH)=w6 at M|-;have H6:Hid (∃o f,dK W0 B pb vT vN o w6 P { aD:=m.aD++[b],ak:=f,aH:=m.aH }/\w6.ownsRow B' 239 3 (ς ra row.length K) row.length (row.flatMap cZ)/\Pk.ny b m.aD.length (row.drop 0) f=Pk.ny b m.aD.length row m.ak/\f.length<=4000000):=⟨_,_,M.out.1,M.out.2,rfl,by omega⟩;clear M;go_wp2_with fail
   go_loopw [34] (fun i wr=>∃j:Nat,j<=row.length/\i=ι ξ (j:Int)/\Hid (∃o f,dK W0 B pb vT vN o wr P { aD:=m.aD++[b],ak:=f,aH:=m.aH }/\wr.ownsRow B' 239 3 (ς ra row.length K) row.length (row.flatMap cZ)/\Pk.ny b m.aD.length (row.drop j) f=Pk.ny b m.aD.length row m.ak/\f.length<=4000000)) (fun i _=>row.length - (intOf i).toNat)
   case atStart=>exact⟨0,by omega,rfl,H6⟩
   case round=>
    clear H6;revert wr;intro wz hrel;obtain⟨j,hj,rfl,HI⟩:=hrel;obtain⟨o,f,h1,N,I,am⟩:=HI.out;clear HI
    by_cases hjn:j<row.length
    ·have j1:(j:Int)<(row.length:Int):=by omega
     obtain⟨x,hxj⟩:∃x,row[j]?=ο x:=⟨_,cG hjn⟩;obtain⟨_,_,e,t⟩:=lM.own N;cases e;obtain⟨g,rfl,c1,c2,c3⟩:=t j x hxj;have ap:=hx x (cM hxj);have hd:row.drop j=x::row.drop (j+1):=by
      obtain⟨hh,e⟩:=cH.1 hxj;rw[eN hh,e]
     rw[hd]at I;obtain⟨p,r,d⟩:=x;simp only at c1 c2 c3 ap;have xY:Hid (Pk.ny b m.aD.length (row.drop (j+1)) (Pk.Aq f (b+d) (p,r,m.aD.length))=Pk.ny b m.aD.length row m.ak):=I;obtain⟨G,aV⟩:=aC (wz.alloc (ζ #[ι ξ (p:Int),ι ξ (r:Int),ι ξ (d:Int)] 239));obtain⟨bx,S⟩:=aF wz.heap.size;have R:aj G bx #[ι ξ (p:Int),ι ξ (r:Int),ι ξ (d:Int)] 239:=by rw[aV,<-S];exact aj.new ..
     have Y:φ wz.heap.size wz G:=by rw[aV];exact(cV _ _).alloc (zL0) _
     have h2:=h1.move Y;have A:=ay N fun g hg=>Y.block g (N.lt g hg).2
     have x3:=R.a2;obtain⟨pa,pc,D,-⟩:∃a c,o 1=ς a f.length c/\_:=aB (h2.row 1 s1);have cp:G.cell? ⟨pb,1,ν⟩=ο (ς pa f.length pc):=by rw[<-D];exact h2.blk.cell 1
     have HB:Hid (b<=2000000):=by show b<=_;omega
     have az:IntKind.i64.wrap ((b:Int)+(d:Int))=(b:Int)+(d:Int):=by rw[gx];omega
     clear h1 N I hd Y t hx ab;have ax:=HB.out
     by_cases hs:f.length<b+d+1
     ·obtain⟨sh,ae⟩:=aF (b+d+1-f.length)
      have e9:(b:Int)+(d:Int)+1 - (f.length:Int)=(sh:Int):=by omega
      have b9:decide ((0:Int)<(sh:Int))=η:=ge (by omega);have o1:G.ownsRow B 233 3 (ς pa f.length pc) f.length (f.flatMap cZ):=by rw[<-D];exact h2.row 1 s1
      obtain⟨vq,Q,Es,qo,jf,rY⟩:=YN (P:=prog) G B 129 3 129 233 i8 _ 3 24 ξ ξ Tryz.Ua Tryz.aes XJ Vw Vx Vy rfl (by decide) (ς pa f.length pc) f.length (f.flatMap cZ) o1 sh (by rw[NI];exact acC _) (by unfold maxLen;omega) (by omega) h2.size;rw[NI,<-ik,show f.length+sh=(f++ψ sh ((0,0,0):Nat×Nat×Nat)).length by simp]at qo;obtain⟨y,zq⟩:=aF (f++ψ sh ((0,0,0):Nat×Nat×Nat));have pF:Hid (y.set (b+d) (p,r,m.aD.length)=Pk.Aq f (b+d) (p,r,m.aD.length)):=by
       show _=_;rw[Pk.Aq,ae,zq]
      have ah:y.length=b+d+1:=by rw[<-zq,cJ,js];omega
      rw[zq]at qo;have X:b+d<y.length:=by omega
      have an:y.length<=4000000:=by omega
      obtain⟨qa,J,rfl,-⟩:=aB qo;have Kv:G.grownBy Q (o 1).ownBlock:=by rw[D];exact jf
      have CW:aj Q pb (Mv vT vN o) 134:=(Kv.block pb h2.kp.lt fun e=>h2.Dn s1 e.symm).trans h2.blk;have c7:Q.cell? ⟨pb,1,ν⟩=ο (ς pa f.length pc):=by rw[<-D];exact CW.cell 1
      have f7:=CW.frozen 1;have H8:Hid (∃H,dK W0 B pb vT vN H (Q.setCell ⟨pb,1,ν⟩ (ς qa y.length J)) P { aD:=m.aD++[b],ak:=y,aH:=m.aH }/\(Q.setCell ⟨pb,1,ν⟩ (ς qa y.length J)).ownsRow B' 239 3 (ς (ο ⟨g,0,ν⟩) row.length K) row.length (row.flatMap cZ)/\aj (Q.setCell ⟨pb,1,ν⟩ (ς qa y.length J)) bx #[ι ξ (p:Int),ι ξ (r:Int),ι ξ (d:Int)] 239):=by
       refine⟨_,h2.upd (P':=P) (m':={ aD:=m.aD++[b],ak:=y,aH:=m.aH }) s1 Kv qo (by rw[D];exact rY.imp id fun e=>⟨_,e,zL0⟩) ?_,BL (aav h2 A s1 Kv) (show Kd Q pb 134 from ⟨_,CW⟩) (by decide),?_⟩
       ·rintro l(rfl | rfl | rfl | rfl)hl
        ·exact⟨rfl,rfl⟩
        ·exact absurd rfl hl
        ·exact⟨rfl,rfl⟩
        ·exact⟨rfl,rfl⟩
       ·have kx:Kd G bx 239:=⟨_,R⟩
        exact(aY _ _ (kx.ne h2.kp (by decide))).trans ((Kv.block bx R.lt fun e=>kx.ne (h2.kr s1 e.symm) (by decide) rfl).trans R)
      clear h2 A R jf Kv qo rY CW o1 ah zq ae;go_upto_region 8 with fail
      rw[<-aV];clear aV S;go_upto_region 12 with (at_builtin;refine Lib.wpList_append_run _ rfl _ _ _ _ rfl _ _ rfl rfl _ _ Es ?_)
      obtain⟨H,U,r8,k8⟩:=H8.out;clear H8;generalize Q.setCell ⟨pb,1,ν⟩ (ς qa y.length J)=w8 at U r8 k8|-;clear Es c7 f7 cp x3 D;have aw:=trivial
      ·
       have o8:=U.row 1 s1;obtain⟨n,J,z,uH,s,aq,al,af⟩:∃n J z,H 1=ς (ο ⟨n,0,ν⟩) y.length J/\(H 1).ownBlock=ο n/\Fh w8 n ((b+d)*3) z:=by
        obtain⟨z,hz⟩:∃z,y[b+d]?=ο z:=⟨_,cG X⟩;obtain⟨f1,f2,f3⟩:=Jz _ _ _ hz;obtain⟨g,cp,e,t⟩:=jC o8 f1;exact⟨g,cp,z,e,by rw[e];rfl,t _ _ f1,t _ _ f2,t _ _ f3⟩
       have c8:w8.cell? ⟨pb,1,ν⟩=ο (ς (ο ⟨n,0,ν⟩) y.length J):=by rw[<-uH];exact U.blk.cell 1
       have f8:=(U.kr s1 s).frozen;have x1:=k8.a0;have x2:=k8.a1;have M:Hid (∃o f,dK W0 B pb vT vN o (((w8.setCell ⟨n,(b+d)*3,ν⟩ (ι ξ (p:Int))).setCell ⟨n,(b+d)*3+1,ν⟩ (ι ξ (r:Int))).setCell ⟨n,(b+d)*3+2,ν⟩ (ι ξ (m.aD.length:Int))) P { aD:=m.aD++[b],ak:=f,aH:=m.aH }/\(((w8.setCell ⟨n,(b+d)*3,ν⟩ (ι ξ (p:Int))).setCell ⟨n,(b+d)*3+1,ν⟩ (ι ξ (r:Int))).setCell ⟨n,(b+d)*3+2,ν⟩ (ι ξ (m.aD.length:Int))).ownsRow B' 239 3 (ς (ο ⟨g,0,ν⟩) row.length K) row.length (row.flatMap cZ)/\Pk.ny b m.aD.length (row.drop (j+1)) f=Pk.ny b m.aD.length row m.ak/\f.length<=4000000):=by
        have kq:=U.kr s1 s;refine⟨H,_,U.Aq s (k:=b+d) (p,r,m.aD.length),?_,?_,?_⟩
        ·have t1:=BL (j:=(b+d)*3) (u:=ι ξ (p:Int)) r8 kq (by decide)
         have V:Kd (w8.setCell ⟨n,(b+d)*3,ν⟩ (ι ξ (p:Int))) n 233:=by obtain⟨C,t⟩:=kq;exact⟨_,aj.set (cs:=C) t _ _⟩
         have t2:=BL (j:=(b+d)*3+1) (u:=ι ξ (r:Int)) t1 V (by decide);have k2:Kd ((w8.setCell ⟨n,(b+d)*3,ν⟩ (ι ξ (p:Int))).setCell ⟨n,(b+d)*3+1,ν⟩ (ι ξ (r:Int))) n 233:=by obtain⟨C,t⟩:=V;exact⟨_,aj.set (cs:=C) t _ _⟩
         exact BL t2 k2 (by decide)
        ·show Pk.ny b m.aD.length (row.drop (j+1)) (y.set (b+d) (p,r,m.aD.length))=_
         rw[<-xY.out,<-pF.out]
        ·show (y.set (b+d) (p,r,m.aD.length)).length<=_
         rw[jp];exact an
       have Fp:Hid (∃o f,dK W0 B pb vT vN o (((w8.setCell ⟨n,(b+d)*3,ν⟩ (ι ξ (p:Int))).setCell ⟨n,(b+d)*3+1,ν⟩ (ι ξ (r:Int))).setCell ⟨n,(b+d)*3+2,ν⟩ (ι ξ (m.aD.length:Int))).drew P { aD:=m.aD++[b],ak:=f,aH:=m.aH }/\(((w8.setCell ⟨n,(b+d)*3,ν⟩ (ι ξ (p:Int))).setCell ⟨n,(b+d)*3+1,ν⟩ (ι ξ (r:Int))).setCell ⟨n,(b+d)*3+2,ν⟩ (ι ξ (m.aD.length:Int))).drew.ownsRow B' 239 3 (ς (ο ⟨g,0,ν⟩) row.length K) row.length (row.flatMap cZ)/\Pk.ny b m.aD.length (row.drop (j+1)) f=Pk.ny b m.aD.length row m.ak/\f.length<=4000000):=by
        obtain⟨v1,p1,a1,a2,a3,a4⟩:=M.out;exact⟨v1,p1,a1.move ⟨rfl,rfl,rfl,zL0,fun _ _=>rfl⟩,ay a2 fun _ _=>rfl,a3,a4⟩
       clear M;have k0:(0:Int)<=(b:Int)+(d:Int):=by omega
       have V:(b:Int)+(d:Int)<(y.length:Int):=by omega
       have k2:((b:Int)+(d:Int)).toNat=b+d:=by omega
       clear U r8 k8 o8 uH s xY pF
       go_region
       go_wp2_with fail;exact⟨⟨j+1,by omega,by go_num,Fp⟩,by simp[intOf];omega⟩
     ·have b9:decide ((0:Int)<(b:Int)+(d:Int)+1 - (f.length:Int))=ε:=fx (by omega)
      have pF:Hid (f.set (b+d) (p,r,m.aD.length)=Pk.Aq f (b+d) (p,r,m.aD.length)):=by
       show _=_;rw[Pk.Aq,show b+d+1-f.length=0 by omega,tU,fW]
      have X:b+d<f.length:=by omega
      go_upto_region 8 with fail
      rw[<-aV];clear aV S;go_upto_region 12 with fail
      clear cp x3 D;obtain⟨H,ao⟩:=aF o;obtain⟨y,ar⟩:=aF f;subst ao ar
      ·
       have o2:=h2.row 1 s1;obtain⟨n,J,z,uH,s,aq,al,af⟩:∃n J z,o 1=ς (ο ⟨n,0,ν⟩) f.length J/\(o 1).ownBlock=ο n/\Fh G n ((b+d)*3) z:=by
        obtain⟨z,hz⟩:∃z,f[b+d]?=ο z:=⟨_,cG X⟩;obtain⟨f1,f2,f3⟩:=Jz _ _ _ hz;obtain⟨g,cp,e,t⟩:=jC o2 f1;exact⟨g,cp,z,e,by rw[e];rfl,t _ _ f1,t _ _ f2,t _ _ f3⟩
       have aA:G.cell? ⟨pb,1,ν⟩=ο (ς (ο ⟨n,0,ν⟩) f.length J):=by rw[<-uH];exact h2.blk.cell 1
       have aP:=(h2.kr s1 s).frozen;have x1:=R.a0;have x2:=R.a1;have M:Hid (∃o f,dK W0 B pb vT vN o (((G.setCell ⟨n,(b+d)*3,ν⟩ (ι ξ (p:Int))).setCell ⟨n,(b+d)*3+1,ν⟩ (ι ξ (r:Int))).setCell ⟨n,(b+d)*3+2,ν⟩ (ι ξ (m.aD.length:Int))) P { aD:=m.aD++[b],ak:=f,aH:=m.aH }/\(((G.setCell ⟨n,(b+d)*3,ν⟩ (ι ξ (p:Int))).setCell ⟨n,(b+d)*3+1,ν⟩ (ι ξ (r:Int))).setCell ⟨n,(b+d)*3+2,ν⟩ (ι ξ (m.aD.length:Int))).ownsRow B' 239 3 (ς (ο ⟨g,0,ν⟩) row.length K) row.length (row.flatMap cZ)/\Pk.ny b m.aD.length (row.drop (j+1)) f=Pk.ny b m.aD.length row m.ak/\f.length<=4000000):=by
        have kq:=h2.kr s1 s;refine⟨o,_,h2.Aq s (k:=b+d) (p,r,m.aD.length),?_,?_,?_⟩
        ·have t1:=BL (j:=(b+d)*3) (u:=ι ξ (p:Int)) A kq (by decide)
         have V:Kd (G.setCell ⟨n,(b+d)*3,ν⟩ (ι ξ (p:Int))) n 233:=by obtain⟨C,t⟩:=kq;exact⟨_,aj.set (cs:=C) t _ _⟩
         have t2:=BL (j:=(b+d)*3+1) (u:=ι ξ (r:Int)) t1 V (by decide);have k2:Kd ((G.setCell ⟨n,(b+d)*3,ν⟩ (ι ξ (p:Int))).setCell ⟨n,(b+d)*3+1,ν⟩ (ι ξ (r:Int))) n 233:=by obtain⟨C,t⟩:=V;exact⟨_,aj.set (cs:=C) t _ _⟩
         exact BL t2 k2 (by decide)
        ·show Pk.ny b m.aD.length (row.drop (j+1)) (f.set (b+d) (p,r,m.aD.length))=_
         rw[<-xY.out,<-pF.out]
        ·show (f.set (b+d) (p,r,m.aD.length)).length<=_
         rw[jp];exact am
       have Fp:Hid (∃o f,dK W0 B pb vT vN o (((G.setCell ⟨n,(b+d)*3,ν⟩ (ι ξ (p:Int))).setCell ⟨n,(b+d)*3+1,ν⟩ (ι ξ (r:Int))).setCell ⟨n,(b+d)*3+2,ν⟩ (ι ξ (m.aD.length:Int))).drew P { aD:=m.aD++[b],ak:=f,aH:=m.aH }/\(((G.setCell ⟨n,(b+d)*3,ν⟩ (ι ξ (p:Int))).setCell ⟨n,(b+d)*3+1,ν⟩ (ι ξ (r:Int))).setCell ⟨n,(b+d)*3+2,ν⟩ (ι ξ (m.aD.length:Int))).drew.ownsRow B' 239 3 (ς (ο ⟨g,0,ν⟩) row.length K) row.length (row.flatMap cZ)/\Pk.ny b m.aD.length (row.drop (j+1)) f=Pk.ny b m.aD.length row m.ak/\f.length<=4000000):=by
        obtain⟨v1,p1,a1,a2,a3,a4⟩:=M.out;exact⟨v1,p1,a1.move ⟨rfl,rfl,rfl,zL0,fun _ _=>rfl⟩,ay a2 fun _ _=>rfl,a3,a4⟩
       clear M;have k0:(0:Int)<=(b:Int)+(d:Int):=by omega
       have V:(b:Int)+(d:Int)<(f.length:Int):=by omega
       have k2:((b:Int)+(d:Int)).toNat=b+d:=by omega
       clear h2 A R o2 uH s xY pF
       go_region
       go_wp2_with fail;exact⟨⟨j+1,by omega,by go_num,Fp⟩,by simp[intOf];omega⟩
    ·obtain rfl:j=row.length:=by omega
     rw[im,Pk.ny]at I;have HE:Hid (dK W0 B pb vT vN o wz P (Pk.lay m row)):=by
      show dK _ _ _ _ _ _ _ _ _;unfold Pk.lay;rw[<-ab.out,<-I];exact h1
     clear h1 I;go_wp2_with fail
     go_end0
     exact⟨rfl,o,HE.out⟩
end
def prQ(w:ω)(g o:Nat)(p:Lx.Pd):Prop:=w.cell? ⟨g,o,ν⟩=ο (ι ξ (p.left:Int))/\∃ra rc,w.cell? ⟨g,o+1,ν⟩=ο (ς ra p.right.length rc)/\w.cell? ⟨g,o+2,ν⟩=ο (ι ξ p.prec)
abbrev Bv(w:ω):=tL 3 (prQ w)
theorem Bv.keep{l:List Lx.Pd}(h:Bv w v l)(a:φ w.heap.size w w'):Bv w' v l:=h.mono fun _ _ _⟨h1,c,b,h2,h3⟩=>⟨aU a h1,c,b,aU a h2,aU a h3⟩
theorem Bv.of{D:Nat->Prop}(h:PP D w v P):Bv w v P:=by
 obtain⟨a,c,rfl,-⟩:=aB h.choose_spec.2.1;refine⟨a,c,rfl,fun i x j=>?_⟩;obtain⟨f,rfl⟩:=cH.1 j;obtain⟨g,m,u,b,k,l,o,n⟩:=PP.at h f;cases b;obtain⟨d,p,rfl,-⟩:=aB k;exact⟨g,rfl,l,d,p,o,n⟩
abbrev Fq(w:ω):=tL 1 (rQ w 2 (Dl w))
abbrev yM(w:ω):=tL 1 (rQ w 1 (iQ w))
theorem Fq.keep{w w':ω}{v:υ}{l:List (List (Nat×Nat))}(h:Fq w v l)(a:φ w.heap.size w w'):Fq w' v l:=h.mono fun _ _ _=>rQ.keep a fun _ _ _=>Dl.keep a
theorem yM.keep{w w':ω}{v:υ}{l:List (List Nat)}(h:yM w v l)(a:φ w.heap.size w w'):yM w' v l:=h.mono fun _ _ _=>rQ.keep a fun _ _ _=>iQ.keep a
namespace Pk
theorem ab2{row:List (Nat×Nat)}{u:Nat}:∀{j:Nat}{x:Nat×Nat×Nat},x∈lN row u j->x.2.2<j
 |0,x,h=>by cases h
 |j+1,x,h=>by
  rw[lN,dq]at h;rcases h with h|h
  ·have:=ab2 h
   omega
  ·split at h
   ·split at h
    ·rw[dd]at h
     rw[h];show j<j+1;omega
    ·cases h
   ·cases h
theorem ab3{a:List Nat}{o:Nat}:∀{j:Nat}{x:Nat×Nat×Nat},x∈lX a o j->x.2.2<o+j
 |0,x,h=>by cases h
 |j+1,x,h=>by
  rw[lX,dq]at h;rcases h with h|h
  ·have:=ab3 h
   omega
  ·split at h
   ·split at h
    ·rw[dd]at h
     rw[h];show o+j<o+(j+1);omega
    ·cases h
   ·cases h
theorem akm{row:List (Nat×Nat)}{a:List Nat}{u:Nat}{x:Nat×Nat×Nat}(h:x∈told row a u):x.2.2<row.length+a.length:=by
 rw[told,dq]at h;rcases h with h|h
 ·have:=ab2 h
  omega
 ·exact ab3 h
theorem akn(row:List (Nat×Nat))(a:List Nat)(u:Nat):(told row a u).length<=row.length+a.length:=by
 have h1:=Oj row u row.length;have h2:=TM a row.length a.length;rw[told,cJ];omega
theorem ac2(b:Nat)(cs:List (List (Nat×Nat)))(a:List (List Nat)):∀k,(mk b cs a k).aD.length=k
 |0=>rfl
 |k+1=>by
  show ((mk b cs a k).aD++[_]).length=k+1;rw[cJ,ac2 b cs a k];rfl
theorem ac3(b:Nat)(cs:List (List (Nat×Nat)))(a:List (List Nat)):∀k,(mk b cs a k).aH.length=k
 |0=>rfl
 |k+1=>by
  show ((mk b cs a k).aH++[_]).length=k+1;rw[cJ,ac3 b cs a k];rfl
def gV(P:List Lx.Pd):List (Nat×Nat):=P.map fun p=>(p.left,p.right.length)
end Pk
def NpE(w:ω)(vT vN:υ)(P:List Lx.Pd)(cs:List (List (Nat×Nat)))(gs:List (List Nat))(e:Ending)(w':ω):Prop:=∃w1 pb vs,e=δ (π (ο ⟨pb,0,ν⟩))/\φ w.heap.size w w1/\w.heap.size<=w1.heap.size/\dK w1 w1.heap.size pb vT vN vs w' (Pk.gV P) (Pk.mk P.length cs gs cs.length)
theorem agG{vc:υ}{cs:List (List (Nat×Nat))}{f:List (List Nat)}(hP:Bv w vP P)(hc:Fq w vc cs)(hg:yM w vg f)(hl:cs.length=f.length)(h0:0<P.length)(hp:P.length<=100000)(S:∀r∈cs,r.length<=100000/\∀x∈r,x.1=2->x.2<P.length)(M:∀r∈f,r.length<=100000)(N:∀k,k<=cs.length->(Pk.mk P.length cs f k).ak.length<=2000000)(bd:cs.length<=1000000):χ prog 19 #[γ #[ς ta nT tc,ς na nN nc,vP,vB,vK],vc,vg] w (NpE w (ς ta nT tc) (ς na nN nc) P cs f):=by
 obtain⟨i3,bc,Ec,Ed,an⟩:=ft Tryz.info3';obtain⟨i8,XJ,Vw,Vx,Vy⟩:=ft Tryz.abB;have s4:Sl 4:=.inr (.inr (.inl rfl));have s5:Sl 5:=.inr (.inr (.inr rfl));obtain⟨w1,G⟩:=aC (w.alloc (ζ #[ς ta nT tc,ς na nN nc,vP,vB,vK] 49));have C:φ w.heap.size w w1:=by rw[G];exact(cV _ _).alloc (zL0) _
 obtain⟨b0,ag⟩:=aF w.heap.size;have Iu:aj w1 b0 #[ς ta nT tc,ς na nN nc,vP,vB,vK] 49:=by rw[G,<-ag];exact aj.new ..
 have aP:=hP.keep C;have a9:=hc.keep C;have az:=hg.keep C;clear hP hc hg;obtain⟨pa,pc,rfl,ar⟩:=aP;obtain⟨ca,cc,rfl,am⟩:=a9;obtain⟨ga,gc,rfl,aa⟩:=az;obtain⟨w2,E⟩:=aC (w1.alloc (ζ #[ς ν 0 0,ς ν 0 0,ς ta nT tc,ς na nN nc,ς ν 0 0,ς ν 0 0] 134));obtain⟨B,L⟩:=aF w1.heap.size;have k2:aj w2 B #[ς ν 0 0,ς ν 0 0,ς ta nT tc,ς na nN nc,ς ν 0 0,ς ν 0 0] 134:=by rw[E,<-L];exact aj.new ..
 have K:dK w1 B B (ς ta nT tc) (ς na nN nc) (fun _=>ς ν 0 0) w2 [] ⟨[],[],[]⟩ :=
  ⟨k2,fun k Y=>by rcases Y with rfl | rfl | rfl | rfl <;> exact eV _ _ _ _,fun _ _ _ _ _ _ e=>(by cases e),by rw[E,<-L];exact(cV _ _).alloc (zL0) _,zL0⟩
 have H0:Hid (∃d,dK w1 B B (ς ta nT tc) (ς na nN nc) d w2 (Pk.gV (P.take 0)) ⟨[],[],[]⟩):=⟨_,K⟩;have HK:Hid (∀d wr Q m,dK w1 B B (ς ta nT tc) (ς na nN nc) d wr Q m->wr.cell? ⟨b0,2,ν⟩=ο (ς pa P.length pc)/\b0<wr.heap.size):=fun d wr Q m h=>by
  have:aj wr b0 _ 49:=(h.b.block b0 (by rw[<-L];exact Iu.lt)).trans Iu;exact⟨this.cell 2,this.lt⟩
 have HP:Hid (∀wr,φ B w1 wr->∀(j:Nat)p,P[j]?=ο p->∃g,pa=ο ⟨g,0,ν⟩/\prQ wr g (j*3) p):=fun wr s j p hp=>by
  rw[<-L]at s;obtain⟨g,e,h1,ra,rc,h2,h3⟩:=ar j p hp;exact⟨g,e,aU s h1,ra,rc,aU s h2,aU s h3⟩
 have HC:Hid (∀wr,φ B w1 wr->∀(j:Nat)r,cs[j]?=ο r->∃g v,ca=ο ⟨g,0,ν⟩/\wr.cell? ⟨g,j,ν⟩=ο v/\wQ wr v r):=fun wr s j r S=>by
  rw[<-L]at s;obtain⟨g,e,h⟩:=am j r S;obtain⟨v,h1,h2⟩:=rQ.keep s (fun _ _ _=>Dl.keep s) h;rw[j9]at h1;exact⟨g,v,e,h1,h2⟩
 have HG:Hid (∀wr,φ B w1 wr->∀(j:Nat)r,f[j]?=ο r->∃g v,ga=ο ⟨g,0,ν⟩/\wr.cell? ⟨g,j,ν⟩=ο v/\jX wr v r):=fun wr s j r S=>by
  rw[<-L]at s;obtain⟨g,e,h⟩:=aa j r S;obtain⟨v,h1,h2⟩:=rQ.keep s (fun _ _ _=>iQ.keep s) h;rw[j9]at h1;exact⟨g,v,e,h1,h2⟩
 have O:Hid _:=C;have XK:Hid _:=L;have al:=Iu.cell 0;have ab:=Iu.cell 1;have ad:=Iu.cell 2;simp only[List.getElem?_toArray,List.getElem?_cons_zero,List.getElem?_cons_succ]at al ab ad;have l2:=(HK.out _ _ _ _ K).2;have R:=(HK.out _ _ _ _ K).1;have HL:Hid _:=hl;clear ar am aa C K k2 hl;go_enter func19,ntmps19;go_upto_region 1 with fail
 rw[<-G];clear G ag;go_upto_region 2 with fail
 rw[<-E];clear E Iu L;go_wp2_with fail
 go_loopw [22] (fun i wr=>∃j:Nat,j<=P.length/\i=ι ξ (j:Int)/\Hid (∃d,dK w1 B B (ς ta nT tc) (ς na nN nc) d wr (Pk.gV (P.take j)) ⟨[],[],[]⟩)) (fun i _=>P.length - (intOf i).toNat)
 case atStart=>exact⟨0,by omega,rfl,H0⟩
 case round=>
  clear H0 al ab ad R l2;obtain⟨j,hj,rfl,HI⟩:=hrel;obtain⟨d,h1⟩:=HI.out;clear HI
  by_cases hjn:j<P.length
  ·have j1:(j:Int)<(P.length:Int):=by omega
   obtain⟨p,Mw⟩:∃p,P[j]?=ο p:=⟨_,cG hjn⟩;obtain⟨g,rfl,c1,ra,rc,c2,c3⟩:=HP.out wr h1.b j p Mw;have hQ:Pk.gV (P.take (j+1))=Pk.gV (P.take j)++[(p.left,p.right.length)]:=by
    unfold Pk.gV;rw[ki,Mw,ee];rfl
   have QS:(Pk.gV (P.take j)).length=j:=by
    unfold Pk.gV;rw[dk,fR];omega
   obtain⟨q,aV⟩:=aC (wr.alloc (ζ #[ι ξ (p.left:Int),ς ra p.right.length rc,ι ξ p.prec] 143));obtain⟨bx,af⟩:=aF wr.heap.size;have kX:aj q bx #[ι ξ (p.left:Int),ς ra p.right.length rc,ι ξ p.prec] 143:=by rw[aV,<-af];exact aj.new ..
   have h2:dK w1 B B (ς ta nT tc) (ς na nN nc) d q (Pk.gV (P.take j)) ⟨[],[],[]⟩:=h1.move (by rw[aV];exact(cV _ _).alloc (zL0) _);obtain⟨oa,V,z,-⟩:∃a c,d 4=ς a j c/\_:=by have:=aB (h2.row 4 s4);rw[show uM (Pk.gV (P.take j)) ⟨[],[],[]⟩ 4=j from QS]at this;exact this
   have o4:q.ownsRow B 138 2 (ς oa j V) j ((Pk.gV (P.take j)).flatMap fI):=by
    have:=h2.row 4 s4;rw[show uM (Pk.gV (P.take j)) ⟨[],[],[]⟩ 4=j from QS,z]at this;exact this
   have c4:q.cell? ⟨B,4,ν⟩=ο (ς oa j V):=by rw[<-z];exact h2.blk.cell 4
   have x1:=kX.a0;have x2:=kX.a1;have lp:=h2.kp.lt;have lx:=kX.lt;have d4:∀o,(q.alloc o).cell? ⟨B,4,ν⟩=ο (ς oa j V):=fun o=>(cQ (w:=q) (ed _ _ _ lp)).trans c4
   have d1:∀o,(q.alloc o).cell? ⟨bx,0,ν⟩=ο (ι ξ (p.left:Int)):=fun o=>(cQ (w:=q) (ed _ _ _ lx)).trans x1
   have d2:∀o,(q.alloc o).cell? ⟨bx,1,ν⟩=ο (ς ra p.right.length rc):=fun o=>(cQ (w:=q) (ed _ _ _ lx)).trans x2
   have o3:(q.alloc (ζ #[ι ξ (p.left:Int),ι ξ (p.right.length:Int)] 138)).drew.ownsRow B 138 2 (ς oa j V) j ((Pk.gV (P.take j)).flatMap fI):=ay (o4.alloc (ζ #[ι ξ (p.left:Int),ι ξ (p.right.length:Int)] 138)) fun _ _=>rfl
   have jg:aj (q.alloc (ζ #[ι ξ (p.left:Int),ι ξ (p.right.length:Int)] 138)).drew B (Mv (ς ta nT tc) (ς na nN nc) d) 134:=(h2.blk.alloc _).drew;have aX:(ς oa j V).ownBlock≠ο B:=by rw[<-z];exact h2.Dn s4
   have H:B<=(q.alloc (ζ #[ι ξ (p.left:Int),ι ξ (p.right.length:Int)] 138)).drew.heap.size:=cY h2.size (aM q _ ν).size;have H9:Hid _:=h2;have U:Hid _:=z;have HQ:Hid (Pk.gV (P.take (j+1))=Pk.gV (P.take j)++[(p.left,p.right.length)]/\(Pk.gV (P.take j)).length=j):=⟨hQ,QS⟩;clear h1 h2 z hQ QS kX HP HC HG HK S M N;generalize Pk.gV (P.take j)=qs at o4 o3 H9 HQ;go_upto_region 5 with fail
   rw[<-aV];clear aV af
   go_region_law (refine step_append_lies _ rfl (.tmp 30) (.tmp 37) 132 rfl B 138 i8 _ 2 16 Tryz.acD XJ Vw Vx Vy rfl (by decide) (ς oa j V) j (qs.flatMap fI) (by simp[Act.eval]) o3 ⟨q.heap.size,0,ν⟩ 1 1 [ι ξ (p.left:Int),ι ξ (p.right.length:Int)] (by simp[Act.eval]) rfl (bQ (aj.new q _ 138).drew) (by simp[Value.oneCell']) (by decide) (by unfold maxLen;omega) (by omega) H _ rfl ?_;intro g9 bM w9 jE iC iY Co;have jy:=jg.grown iC (fun e=>aX e.symm);have c9:w9.cell? ⟨B,4,ν⟩=ο (d 4):=jy.cell 4;have f9:=jy.frozen 4)
   all_goals
    have lu:q.grownBy w9 (d 4).ownBlock:=by rw[U.out];exact aI (b:=(q.alloc (ζ #[ι ξ (p.left:Int),ι ξ (p.right.length:Int)] 138)).drew) ⟨rfl,rfl,rfl,(aM q _ ν).size,fun i hi _=>ed _ _ _ hi⟩ iC
    have HN:Hid (∃d,dK w1 B B (ς ta nT tc) (ς na nN nc) d (w9.setCell ⟨B,4,ν⟩ (ς (ο ⟨g9,0,ν⟩) (j+1) bM)) (Pk.gV (P.take (j+1))) ⟨[],[],[]⟩):=by
     refine⟨_,H9.out.upd (P':=Pk.gV (P.take (j+1))) (m':=⟨[],[],[]⟩) s4 lu ?_ ?_ ?_⟩
     ·show w9.ownsRow B 138 2 _ (Pk.gV (P.take (j+1))).length ((Pk.gV (P.take (j+1))).flatMap fI)
      rw[HQ.out.1,cJ,HQ.out.2,ik];exact jE
     ·rw[U.out]
      rcases iY with e|e
      ·exact .inl e.symm
      ·exact .inr ⟨g9,rfl,by rw[e];exact(aM q _ ν).size⟩
     ·rintro l(rfl | rfl | rfl | rfl)hl
      ·exact⟨rfl,rfl⟩
      ·exact⟨rfl,rfl⟩
      ·exact absurd rfl hl
      ·exact⟨rfl,rfl⟩
    clear lu jE iC iY jy c9 f9 o3 jg d4 d1 d2 H9 U HQ;go_wp2_with fail;exact⟨⟨j+1,by omega,by go_num,HN⟩,by simp[intOf];omega⟩
  ·obtain rfl:j=P.length:=by omega
   rw[ff]at h1;have X:Hid (∃d,dK w1 B B (ς ta nT tc) (ς na nN nc) d wr (Pk.gV P) (Pk.mk P.length cs f 0)):=⟨d,h1⟩;clear h1 HP;go_wp2_with fail
   go_loopw [44] (fun i wr=>∃j:Nat,j<=cs.length/\i=ι ξ (j:Int)/\Hid (∃d,dK w1 B B (ς ta nT tc) (ς na nN nc) d wr (Pk.gV P) (Pk.mk P.length cs f j))) (fun i _=>cs.length - (intOf i).toNat)
   case atStart=>exact⟨0,by omega,rfl,X⟩
   case round=>
    clear X;revert wr;intro Z hrel;obtain⟨j,hj,rfl,HI⟩:=hrel;obtain⟨I,h1⟩:=HI.out;clear HI
    by_cases hjn:j<cs.length
    ·have j1:(j:Int)<(cs.length:Int):=by omega
     have j2:(j:Int)<(f.length:Int):=by have:=HL.out;omega
     obtain⟨r,GZ⟩:∃r,cs[j]?=ο r:=⟨_,cG hjn⟩;obtain⟨D,hgj⟩:∃r,f[j]?=ο r:=⟨_,cG (by have:=HL.out;omega)⟩;obtain⟨g,vr,rfl,c1,y⟩:=HC.out Z h1.b j r GZ;obtain⟨gg,vt,rfl,c2,J⟩:=HG.out Z h1.b j D hgj;obtain⟨xa,xc,ax,hx⟩:=y;subst ax;have y:wQ Z (ς xa r.length xc) r:=⟨xa,xc,rfl,hx⟩;obtain⟨ya,yc,LJ,hy⟩:=J;subst LJ;have HX:Hid (∀F,φ B w1 F->F.cell? ⟨gg,j,ν⟩=ο (ς ya D.length yc)/\wQ F (ς xa r.length xc) r/\jX F (ς ya D.length yc) D):=fun F s=>by
      obtain⟨g',v',e',k1,k2⟩:=HC.out F s j r GZ;obtain⟨g2,v2,e2,k3,k4⟩:=HG.out F s j D hgj;cases e';cases e2;obtain⟨g',v0,e',ao,-⟩:=HC.out w1 (cV _ _) j r GZ;obtain⟨g2,u0,e2,ah,-⟩:=HG.out w1 (cV _ _) j D hgj;cases e';cases e2;have Y:∀(W:ω)(g i:Nat)(v x:υ),φ B w1 W->w1.cell? ⟨g,i,ν⟩=ο v->W.cell? ⟨g,i,ν⟩=ο x->v=x:=fun W g i v x hW h1 h2=>by
       rw[<-XK.out]at hW;rw[aU hW h1]at h2;exact fL h2
      obtain rfl:=Y Z _ _ _ _ h1.b ao c1;obtain rfl:=Y Z _ _ _ _ h1.b ah c2;obtain rfl:=Y F _ _ _ _ s ao k1;obtain rfl:=Y F _ _ _ _ s ah k3;exact⟨k3,k2,k4⟩
     have T:=S r (cM GZ);have aA:=M D (cM hgj);have XL:=agF (n:=P.length) y T.2 h0 hp T.1;obtain⟨R,aR⟩:=HK.out _ _ _ _ h1;have Mw:=N j hj;have av:=Pk.ac2 P.length cs f j;have ai:=Pk.ac3 P.length cs f j;have HS:Hid (Pk.mk P.length cs f (j+1)=Pk.one P.length (Pk.mk P.length cs f j) r D):=by
      show Pk.one P.length (Pk.mk P.length cs f j) (cs.getD j []) (f.getD j [])=_;rw[di,di,GZ,hgj];rfl
     have HD:Hid ((Pk.mk P.length cs f j).ak.length<=2000000/\(Pk.mk P.length cs f j).aD.length=j/\(Pk.mk P.length cs f j).aH.length=j):=⟨Mw,av,ai⟩;have X:Hid _:=h1;clear Mw av ai h1 HC HG HK y hx hy S M N O XK;generalize Pk.mk P.length cs f j=m at X HD HS;obtain⟨u,hu⟩:=aF (Pk.usual r P.length);rw[hu]at XL;have HU:Hid _:=hu;clear hu;go_upto_region 11 with (go_at_call 42;refine XL.mono ?_;rintro e w3⟨rfl,H⟩)
     have h3:=X.out.move H;clear X XL H R aR c1 c2;obtain⟨da,dc,A,-⟩:∃a c,I 5=ς a j c/\_:=by have:=aB (h3.row 5 s5);rw[show uM (Pk.gV P) m 5=j from HD.out.2.2]at this;exact this
     have o5:w3.ownsRow B 3 1 (ς da j dc) j (m.aH.map bA):=by
      have:=h3.row 5 s5;rw[show uM (Pk.gV P) m 5=j from HD.out.2.2,A]at this;exact this
     have c5:w3.cell? ⟨B,5,ν⟩=ο (ς da j dc):=by rw[<-A];exact h3.blk.cell 5
     have ae:(ς da j dc).ownBlock≠ο B:=by rw[<-A];exact h3.Dn s5
     have kL:=h3.blk;have hsz:=h3.size;have U:Hid _:=A;have H3:Hid _:=h3;clear h3 A;go_upto_region 12 with (at_builtin;refine ii _ rfl _ _ 47 rfl B 3 i3 _ 1 8 underlying47 bc Ec Ed an rfl (by decide) (.slice da j dc) _ _ rfl (o5.alloc _) ⟨_,0,ν⟩ 1 1 [.int ξ (u:Int)] rfl rfl (bQ (aj.new _ _ 3)) (by simp[Value.oneCell']) (by unfold maxLen;omega) (by omega) (by simp;omega) ?_;intro v6 w6 t xC _ xM;obtain⟨ap,aq,aw,-⟩:=aB t;subst aw;have Br:=(kL.alloc (.cells #[.int ξ (u:Int)] 3)).grown xC (fun e=>ae e.symm);have c6:w6.cell? ⟨B,5,ν⟩=ο (I 5):=Br.cell 5;have f6:=Br.frozen 5)
     have HN:Hid (∃d,dK w1 B B (ς ta nT tc) (ς na nN nc) d (w6.setCell ⟨B,5,ν⟩ (ς ap (j+1) aq)) (Pk.gV P) { m with aH:=m.aH++[u] }):=by
      have bb:w3.grownBy w6 (I 5).ownBlock:=by rw[U.out];exact aI (aM w3 _ _) xC
      refine⟨_,H3.out.upd (P':=Pk.gV P) (m':={ m with aH:=m.aH++[u] }) s5 bb ?_ ?_ ?_⟩
      ·show w6.ownsRow B 3 1 _ (m.aH++[u]).length ((m.aH++[u]).map bA)
       rw[cJ,HD.out.2.2,ee];exact t
      ·rw[U.out]
       exact xM.imp id fun e=>⟨_,e,by simp⟩
      ·rintro l(rfl | rfl | rfl | rfl)hl
       ·exact⟨rfl,rfl⟩
       ·exact⟨rfl,rfl⟩
       ·exact⟨rfl,rfl⟩
       ·exact absurd rfl hl
     clear H3 Br c6 f6 t xC xM kL c5 o5 ae U;generalize w6.setCell ⟨B,5,ν⟩ (ς ap (j+1) aq)=w7 at HN|-;obtain⟨ba,h7⟩:=HN.out;clear HN;obtain⟨c7,y,J⟩:=HX.out w7 h7.b;have Ii:=ahB (w:=w7.drew) (y.keep ⟨rfl,rfl,rfl,zL0,fun _ _=>rfl⟩) (J.keep ⟨rfl,rfl,rfl,zL0,fun _ _=>rfl⟩) T.1 aA u;have H7:Hid (∀w8,φ w7.drew.heap.size w7.drew w8->dK w1 B B (ς ta nT tc) (ς na nN nc) ba w8 (Pk.gV P) { m with aH:=m.aH++[u] }):=fun w8 s=>(h7.move (W':=w7.drew) ⟨rfl,rfl,rfl,zL0,fun _ _=>rfl⟩).move s
     clear h7 HX y J
     go_region_law (first
      | (refine eZ rfl 44 #[ς xa r.length xc,ς ya D.length yc,ι ξ (u:Int)] (by go_simp) Ii ?_;rintro e w8⟨vo,rfl,Iw,eY⟩;refine⟨_,rfl,?_⟩;have ac:=alB (H7.out _ eY) Iw HD.out.1 (by show m.aD.length<=_;rw[HD.out.2.1];omega) (fun x hx=>by have:=Pk.akm hx;omega) (by have:=Pk.akn r D u;omega);clear Ii eY H7 Iw)
      | (refine eZ rfl 43 #[π (ο ⟨B,0,ν⟩),vo] (by go_simp) ac ?_;rintro e w9⟨rfl,aE,h9⟩;refine⟨_,rfl,?_⟩;clear ac))
     all_goals
      have HE:Hid (∃d,dK w1 B B (ς ta nT tc) (ς na nN nc) d w9 (Pk.gV P) (Pk.mk P.length cs f (j+1))):=⟨aE,by rw[HS.out,Pk.one,HU.out];exact h9⟩;clear h9;go_wp2_with fail;exact⟨⟨j+1,by omega,by go_num,HE⟩,by simp[intOf];omega⟩
    ·obtain rfl:j=cs.length:=by omega
     have HE:Hid (NpE w (ς ta nT tc) (ς na nN nc) P cs f (δ (π (ο ⟨B,0,ν⟩))) Z):=⟨w1,B,I,rfl,O.out,O.out.size,by rw[XK.out];exact h1⟩;clear h1 HC HG HK;go_wp2_with fail;go_ret;exact HE.out
structure Mx(w0:ω)(B gO tO tI n N:Nat)(W:ω)(gs:List Nat)(rs:List (List υ)):Prop where
 out:aj W gO (gs.map (iw n)++ψ (N-gs.length) (ς ν 0 0)).toArray tO
 len:rs.length=gs.length
 row:∀(i g:Nat)(r:List υ),gs[i]?=ο g->rs[i]?=ο r->aj W g r.toArray tI
 nd:gs.Nodup
 lo:∀g∈gs,B<=g
 no:B<=gO
 b:φ B w0 W
 ne:tO≠tI
 le:gs.length<=N
section
variable{w0 W W':ω}{B gO tO tI n N:Nat}{gs:List Nat}{rs:List (List υ)}
theorem Mx.size(h:Mx w0 B gO tO tI n N W gs rs):B<=W.heap.size:=cY h.no (lA h.out.lt)
theorem Mx.rowAt(h:Mx w0 B gO tO tI n N W gs rs){g:Nat}(a:gs[i]?=ο g):∃r,rs[i]?=ο r/\aj W g r.toArray tI:=by
 obtain⟨r,b⟩:∃r,rs[i]?=ο r:=⟨_,cG (by rw[h.len];exact(cH.1 a).1)⟩;exact⟨r,b,h.row i g r a b⟩
theorem Mx.lt(h:Mx w0 B gO tO tI n N W gs rs){g:Nat}(b:g∈gs):g<W.heap.size:=by
 obtain⟨i,c⟩:=fb.1 b;obtain⟨r,-,a⟩:=h.rowAt c;exact a.lt
theorem Mx.MB(h:Mx w0 B gO tO tI n N W gs rs){g:Nat}(c:g∈gs):g≠gO:=fun e=>by
 obtain⟨i,d⟩:=fb.1 c;obtain⟨r,-,b⟩:=h.rowAt d;have a:=h.out;subst e;unfold aj at b a;rw[b]at a;cases a;exact h.ne rfl
theorem Mx.move(h:Mx w0 B gO tO tI n N W gs rs)(a:φ W.heap.size W W'):Mx w0 B gO tO tI n N W' gs rs :=
 ⟨(a.block gO h.out.lt).trans h.out,h.len,fun i g r hg c=>(a.block g (h.lt (cM hg))).trans (h.row i g r hg c),h.nd,h.lo,h.no,h.b.trans (a.mono h.size),h.ne,h.le⟩
theorem Mx.keep(h:Mx w0 B gO tO tI n N W gs rs)(a:∀k,k=gO\/k∈gs->W'.heap[k]?=W.heap[k]?)(b:φ B w0 W'):Mx w0 B gO tO tI n N W' gs rs :=
 ⟨(a _ (.inl rfl)).trans h.out,h.len,fun i g r hg c=>(a g (.inr (cM hg))).trans (h.row i g r hg c),h.nd,h.lo,h.no,b,h.ne,h.le⟩
theorem Mx.Cw(h:Mx w0 B gO tO tI n N W gs rs){g:Nat}(a:gs[i]?=ο g):W.cell? ⟨gO,i,ν⟩=ο (ς (ο ⟨g,0,ν⟩) n n):=by
 have b:=(cH.1 a).1;rw[h.out.cell,ie,eL (by rw[dk];exact b),dj,a];rfl
theorem Mx.Fu(h:Mx w0 B gO tO tI n N W gs rs){g:Nat}{r:List υ}(a:gs[i]?=ο g)(b:rs[i]?=ο r):W.cell? ⟨g,k,ν⟩=r[k]?:=by
 rw[(h.row i g r a b).cell,ie]
theorem Mx.push(h:Mx w0 B gO tO tI n N W gs rs)(q:gs.length<N)(r:List υ):Mx w0 B gO tO tI n N ((W.alloc (ζ r.toArray tI)).setCell ⟨gO,gs.length,ν⟩ (ς (ο ⟨W.heap.size,0,ν⟩) n n)) (gs++[W.heap.size]) (rs++[r]):=by
 have d:∀g,g∈gs->g≠W.heap.size:=fun g hg e=>by have:=h.lt hg;omega
 have o:gO≠W.heap.size:=fun e=>by have:=h.out.lt;omega
 refine⟨?_,by simp[h.len],fun i g l hg c=>?_,?_,?_,h.no,(h.b.alloc h.size _).setCell (p:=⟨gO,gs.length,ν⟩) h.no _,h.ne,by simp;omega⟩
 ·have:=(h.out.alloc (ζ r.toArray tI)).set gs.length (ς (ο ⟨W.heap.size,0,ν⟩) n n)
  rw[j8]at this;have e:(gs.map (iw n)++ψ (N-gs.length) (ς ν 0 0)).set gs.length (ς (ο ⟨W.heap.size,0,ν⟩) n n)=(gs++[W.heap.size]).map (iw n)++ψ (N - (gs++[W.heap.size]).length) (ς ν 0 0):=by
   rw[nn _ _ (by simp),dk,io,show N-gs.length=(N - (gs++[W.heap.size]).length)+1 by simp;omega,oi,n7,ee,dy];rfl
  rw[e]at this;exact this
 ·rw[kh]at hg c
  rw[h.len]at c
  split at hg
  ·rename_i j
   rw[du j]at c;have:=(h.row i g l hg c).alloc (ζ r.toArray tI);exact this.other (yn (h.MB (cM hg))) _
  ·rename_i j
   rw[dt j]at c;have f:i-gs.length=0:=by
    have:=(cH.1 hg).1;simp at this;omega
   rw[f]at hg c;cases hg;cases c;exact(aj.new W r.toArray tI).other o _
 ·rw[j7]
  exact⟨h.nd,by simp,fun a m b k=>by rw[dd]at k;rw[k];exact d a m⟩
 ·intro g hg
  rw[dq,dd]at hg;rcases hg with hg|rfl
  ·exact h.lo g hg
  ·exact h.size
theorem Mx.set(h:Mx w0 B gO tO tI n N W gs rs){i g k:Nat}{r:List υ}(hg:gs[i]?=ο g)(l:rs[i]?=ο r)(v:υ):Mx w0 B gO tO tI n N (W.setCell ⟨g,k,ν⟩ v) gs (rs.set i (r.set k v)):=by
 have d:=cM hg;refine⟨h.out.other (h.MB d) _,by simp[h.len],fun j s m c a=>?_,h.nd,h.lo,h.no,h.b.setCell (p:=⟨g,k,ν⟩) (h.lo g d) _,h.ne,h.le⟩;rw[g8]at a
 split at a
 ·rename_i e
  subst e;rw[hg]at c;cases c;have f:=(cH.1 l).1;rw[du f]at a;cases a;have:=(h.row i g r hg l).set k v;rw[j8]at this;exact this
 ·rename_i e
  refine(h.row j s m c a).other (fun q=>e ?_) _;subst q;obtain⟨h1,o⟩:=cH.1 hg;obtain⟨h2,t⟩:=cH.1 c;exact(mC h.nd).1 (o.trans t.symm)
theorem Mx.frozen(h:Mx w0 B gO tO tI n N W gs rs){i g:Nat}(a:gs[i]?=ο g)(k:Nat):W.frozen? ⟨g,k,ν⟩=ε:=by
 obtain⟨r,-,b⟩:=h.rowAt a;exact b.frozen k
theorem Mx.rows{α:Type}{Q:Nat->Nat->α->Prop}(h:Mx w0 B gO tO tI n N W gs rs)(m:gs.length=N){l:List (List α)}(d:l.length=N)(a:∀r∈l,r.length=n)(c:∀(i g:Nat)(r:List α)(k:Nat)(x:α),gs[i]?=ο g->l[i]?=ο r->r[k]?=ο x->Q g (k*z) x):tL 1 (rQ W z Q) (ς (ο ⟨gO,0,ν⟩) N N) l:=by
 refine⟨_,_,by rw[d],fun i r hr=>⟨gO,rfl,?_⟩⟩;have j:=(cH.1 hr).1;obtain⟨g,b⟩:∃g,gs[i]?=ο g:=⟨_,cG (by omega)⟩;rw[j9];exact⟨_,h.Cw b,ο ⟨g,0,ν⟩,n,by rw[a r (cM hr)],fun k x f=>⟨g,rfl,c i g r k x b hr f⟩⟩
end
namespace Tb
def setAt{α:Type}(R:List (List α))(i k:Nat)(x:α):List (List α):=match R[i]? with
 |some r=>R.set i (r.set k x)
 |none=>R
theorem aiX{α β:Type}(f:α->β)(R:List (List α)){x:α}{r:List α}(a:R[i]?=ο r):(setAt R i k x).map (List.map f)=(R.map (List.map f)).set i ((r.map f).set k (f x)):=by
 rw[setAt,a];simp only;rw[oR,oR]
def gotos(nS nT nN:Nat)(es:List (Nat×Nat×Nat)):Nat->List (List Nat)
 |0=>ψ nS (ψ nN 0)
 |k+1=>match es[k]? with
  |some e=>if nT<=e.2.1 then setAt (gotos nS nT nN es k) e.1 (e.2.1-nT) e.2.2 else gotos nS nT nN es k
  |none=>gotos nS nT nN es k
theorem aiY{α:Type}{R:List (List α)}{x:α}:(setAt R i k x).length=R.length:=by
 unfold setAt
 split <;> simp
theorem Sv{α:Type}{R:List (List α)}{x:α}(h:∀r∈R,r.length=n):∀r∈setAt R i k x,r.length=n:=by
 unfold setAt
 split
 ·rename_i b hr0
  intro r a;rcases r6 a with a|rfl
  ·exact h r a
  ·rw[jp]
   exact h b (cM hr0)
 ·exact h
theorem Td(a nT nN:Nat)(b:List (Nat×Nat×Nat)):∀k,(gotos a nT nN b k).length=a/\∀r∈gotos a nT nN b k,r.length=nN
 |0=>⟨by simp[gotos],fun r c=>by rw[mA c,js]⟩
 |k+1=>by
  have ih:=Td a nT nN b k;rw[gotos]
  split
  ·split
   ·exact⟨aiY.trans ih.1,Sv ih.2⟩
   ·exact ih
  ·exact ih
end Tb
theorem Mx.new(w1:ω){b d:Nat}(n N:Nat)(a:b≠d):Mx w1 w1.heap.size w1.heap.size b d n N (w1.alloc (ζ (vA (ψ N (ς ν 0 0))) b)) [] [] :=
 ⟨aj.new ..,rfl,(fun i g r c=>by simp at c),ot,(fun g c=>by cases c),zL0,(cV _ _).alloc (zL0) _,a,fi _⟩
def XM(w:ω)(R:List (List Nat))(e:Ending)(w':ω):Prop:=∃v,e=δ v/\yM w' v R/\φ w.heap.size w w'
theorem agH(he:lM w ve a)(hS:t<=100000)(D:nN<=100000)(hl:a.length<=1000000000)(I:∀e∈a,e.1<t/\e.2.1<nT+nN):χ prog 17 #[ι ξ (t:Int),ve,γ #[ς ta nT tc,ς na nN nc,vP,vB,vK]] w (XM w (Tb.gotos t nT nN a a.length)):=by
 obtain⟨ea,ec,rfl,Dp⟩:=he;obtain⟨w1,z⟩:=aC (w.alloc (ζ #[ς ta nT tc,ς na nN nc,vP,vB,vK] 49));obtain⟨G,V⟩:=aF w.heap.size;have k1:aj w1 G #[ς ta nT tc,ς na nN nc,vP,vB,vK] 49:=by rw[z,<-V];exact aj.new ..
 have v:φ w.heap.size w w1:=by rw[z];exact(cV _ _).alloc (zL0) _
 obtain⟨f,T⟩:=aF w1.heap.size;obtain⟨w2,E⟩:=aC (w1.alloc (ζ (vA (ψ t (ς ν 0 0))) 47));have W:Mx w1 f f 47 3 nN t w2 [] []:=by rw[E,<-T];exact Mx.new w1 nN t (by decide)
 have L:=fun w=>Zw (n:=t) hS w
 have U:=fun w=>Ns (n:=nN) D w
 have X:Hid (∀wr,φ f w1 wr->wr.cell? ⟨G,0,ν⟩=ο (ς ta nT tc)/\wr.cell? ⟨G,1,ν⟩=ο (ς na nN nc)/\G<f):=fun wr C=>by
  have A:G<f:=by rw[<-T];exact k1.lt
  have:aj wr G _ 49:=(C.block G A).trans k1;exact⟨this.cell 0,this.cell 1,A⟩
 have HE:Hid (∀wr,φ f w1 wr->∀(j:Nat)x,a[j]?=ο x->∃g,ea=ο ⟨g,0,ν⟩/\wr.cell? ⟨g,j*3,ν⟩=ο (ι ξ (x.1:Int))/\wr.cell? ⟨g,j*3+1,ν⟩=ο (ι ξ (x.2.1:Int))/\wr.cell? ⟨g,j*3+2,ν⟩=ο (ι ξ (x.2.2:Int))):=fun wr C j x I=>by
  rw[<-T]at C;obtain⟨g,e,h1,h2,h3⟩:=Dp j x I;exact⟨g,e,aU C (aU v h1),aU C (aU v h2),aU C (aU v h3)⟩
 have HB:Hid (∀wr,φ f w1 wr->φ w.heap.size w wr):=fun wr C=>v.trans (C.mono (by rw[<-T];exact v.size))
 have H0:Hid (∃c,c.length=0/\Mx w1 f f 47 3 nN t w2 c (ψ 0 (dP (ψ nN 0)))):=⟨[],rfl,W⟩;clear Dp v W k1;go_enter func17,ntmps17;go_upto_region 1 with fail
 rw[<-z];clear z V;go_upto_region 2 with (simp only[L])
 rw[<-E];clear E;go_wp2_with fail
 go_loopw [15] (fun i wr=>∃j:Nat,j<=t/\i=ι ξ (j:Int)/\Hid (∃c,c.length=j/\Mx w1 f f 47 3 nN t wr c (ψ j (dP (ψ nN 0))))) (fun i _=>t - (intOf i).toNat)
 case atStart=>exact⟨0,by omega,rfl,H0⟩
 case round=>
  clear H0 T;obtain⟨j,hj,rfl,Y⟩:=hrel;obtain⟨c,l,p⟩:=Y.out;clear Y
  by_cases hjn:j<t
  ·have j1:(j:Int)<(t:Int):=by omega
   obtain⟨c0,c1,A⟩:=X.out wr p.b;have aa:wr.cell? ⟨f,j,ν⟩=ο (ς ν 0 0):=by
    rw[p.out.cell,ie,eQ (by rw[dk];omega),dk,l,io,mi,du (by omega)]
   have dO:∀o,(wr.alloc o).cell? ⟨f,j,ν⟩=ο (ς ν 0 0):=fun o=>(cQ (w:=wr) (ed _ _ _ p.out.lt)).trans aa
   have fO:∀o,(wr.alloc o).frozen? ⟨f,j,ν⟩=ε:=fun o=>(p.out.alloc o).frozen j
   have D:=p.push (by omega) (dP (ψ nN 0));rw[l]at D;have R:Hid (∃c,c.length=j+1/\Mx w1 f f 47 3 nN t ((wr.alloc (ζ (dY (ψ nN 0)) 3)).setCell ⟨f,j,ν⟩ (ς (ο ⟨wr.heap.size,0,ν⟩) nN nN)) c (ψ (j+1) (dP (ψ nN 0)))):=⟨c++[wr.heap.size],by rw[cJ,l];rfl,by rw[List.replicate_succ'];exact D⟩;clear p D X HE HB l I L
   go_wp2_with (simp only[U])
   exact⟨⟨j+1,by omega,by go_num,R⟩,by simp[intOf];omega⟩
  ·obtain rfl:j=t:=by omega
   have H1:Hid (∃c,c.length=j/\Mx w1 f f 47 3 nN j wr c ((Tb.gotos j nT nN a 0).map dP)):=⟨c,l,by rw[Tb.gotos,List.map_replicate];exact p⟩;clear p l L U;go_wp2_with fail
   go_loopw [28] (fun i wr=>∃k:Nat,k<=a.length/\i=ι ξ (k:Int)/\Hid (∃c,c.length=j/\Mx w1 f f 47 3 nN j wr c ((Tb.gotos j nT nN a k).map dP))) (fun i _=>a.length - (intOf i).toNat)
   case atStart=>exact⟨0,by omega,rfl,H1⟩
   case round=>
    clear H1;revert wr;intro Q hrel;obtain⟨k,hk,rfl,Y⟩:=hrel;obtain⟨c,l,p⟩:=Y.out;clear Y
    by_cases hkn:k<a.length
    ·have j1:(k:Int)<(a.length:Int):=by omega
     obtain⟨x,hxk⟩:∃x,a[k]?=ο x:=⟨_,cG hkn⟩;obtain⟨g,rfl,c1,c2,c3⟩:=HE.out Q p.b k x hxk;have H:=I x (cM hxk);have u:Tb.gotos j nT nN a (k+1)=if nT<=x.2.1 then Tb.setAt (Tb.gotos j nT nN a k) x.1 (x.2.1-nT) x.2.2 else Tb.gotos j nT nN a k:=by rw[Tb.gotos,hxk]
     obtain⟨B,M,F⟩:=x;simp only at c1 c2 c3 H u;obtain⟨S,O⟩:=Tb.Td j nT nN a k;obtain⟨P,N⟩:=aC (Q.alloc (ζ #[ι ξ (B:Int),ι ξ (M:Int),ι ξ (F:Int)] 125));obtain⟨bx,K⟩:=aF Q.heap.size;have Z:aj P bx #[ι ξ (B:Int),ι ξ (M:Int),ι ξ (F:Int)] 125:=by rw[N,<-K];exact aj.new ..
     have m:Mx w1 f f 47 3 nN j P c ((Tb.gotos j nT nN a k).map dP):=p.move (by rw[N];exact(cV _ _).alloc (zL0) _);obtain⟨c0,-,A⟩:=X.out P m.b;have x1:=Z.a0;have x2:=Z.a1;have x3:=Z.a2;clear p Z HE HB X I
     by_cases hn:nT<=M
     ·have b1:decide ((nT:Int)<=(M:Int))=η:=ge (by omega)
      rw[du hn]at u;obtain⟨gi,y⟩:∃g,c[B]?=ο g:=⟨_,cG (by omega)⟩;obtain⟨r,hr⟩:∃r,(Tb.gotos j nT nN a k)[B]?=ο r:=⟨_,cG (by omega)⟩;have ab:=O r (cM hr);have J:((Tb.gotos j nT nN a k).map dP)[B]?=ο (dP r):=by rw[dj,hr];rfl
      obtain⟨d,hd⟩:=aF (M-nT);have e1:(M:Int) - (nT:Int)=(d:Int):=by omega
      have e2:IntKind.i64.wrap (d:Int)=(d:Int):=by rw[gx];omega
      obtain⟨q,hq⟩:∃q,r[d]?=ο q:=⟨_,cG (by omega)⟩;have o1:=m.Cw y;have o2:P.cell? ⟨gi,d,ν⟩=ο (ι ξ (q:Int)):=by rw[m.Fu y J,dP,dj,hq];rfl
      have o3:=m.frozen y d;have D:=m.set (k:=d) y J (ι ξ (F:Int));have R:Hid (∃c,c.length=j/\Mx w1 f f 47 3 nN j (P.setCell ⟨gi,d,ν⟩ (ι ξ (F:Int))).drew c ((Tb.gotos j nT nN a (k+1)).map dP)):=⟨c,l,by
       rw[u,hd];have:=Tb.aiX (fun(s:Nat)=>ι ξ (s:Int)) (Tb.gotos j nT nN a k) (k:=d) (x:=F) hr;have e:(Tb.setAt (Tb.gotos j nT nN a k) B d F).map dP=((Tb.gotos j nT nN a k).map dP).set B ((dP r).set d (ι ξ (F:Int))):=this;rw[e];exact D.move ⟨rfl,rfl,rfl,zL0,fun _ _=>rfl⟩⟩
      have d0:(0:Int)<=(B:Int):=by omega
      have d1:(B:Int)<(j:Int):=by omega
      have d2:(0:Int)<=(d:Int):=by omega
      have d3:(d:Int)<(nN:Int):=by omega
      clear D m l u S O hr J hq y ab hn hd H;go_upto_region 10 with fail
      rw[<-N];clear N K;go_upto_region 11 with fail
      go_region
      go_wp2_with fail;exact⟨⟨k+1,by omega,by go_num,R⟩,by simp[intOf];omega⟩
     ·have b1:decide ((nT:Int)<=(M:Int))=ε:=fx (by omega)
      rw[dt hn]at u;have R:Hid (∃c,c.length=j/\Mx w1 f f 47 3 nN j P c ((Tb.gotos j nT nN a (k+1)).map dP)):=⟨c,l,by rw[u];exact m⟩;clear m l u S O H;go_upto_region 10 with fail
      rw[<-N];clear N K;go_wp2_with fail;exact⟨⟨k+1,by omega,by go_num,R⟩,by simp[intOf];omega⟩
    ·obtain rfl:k=a.length:=by omega
     obtain⟨S,O⟩:=Tb.Td j nT nN a a.length;have HR:Hid (XM w (Tb.gotos j nT nN a a.length) (δ (ς (ο ⟨f,0,ν⟩) j j)) Q):=⟨_,rfl,p.rows l S O fun i g r k x hg hr I=>by
      show Q.cell? _=_;rw[j9,p.Fu hg (by rw[dj,hr];rfl),dP,dj,I];rfl,HB.out Q p.b⟩
     clear p l S O HE HB X;go_wp2_with fail;go_ret;exact HR.out
namespace Lx
def jB(es:List (Nat×Nat×Nat)):Nat->Nat×Nat->Nat
 |0,_=>0
 |k+1,a=>match es[k]? with
  |some e=>if a=(e.1,e.2.1) then e.2.2 else jB es k a
  |none=>jB es k a
end Lx
def NmE(w:ω)(v0 v1 v2 v3 v4:υ)(es:List (Nat×Nat×Nat))(e:Ending)(w':ω):Prop:=∃gm,e=δ (γ #[v0,v1,v2,v3,v4,.map (ο gm)])/\w.heap.size<=gm/\bZ bq (fun _=>True) w' gm (fun a=>(jB es es.length a:Int))/\φ w.heap.size w w'
theorem afm{a0 a1 a2 a3 a4:Option Addr}{l v p r:Nat}{u:List (Nat×Nat×Nat)}(he:lM w ve u)(hl:u.length<=1000000000):χ prog 27 #[γ #[ς a0 l o,ς a1 v r,ς a2 q m,ς a3 f s,ς a4 p n],ve] w (NmE w (ς a0 l o) (ς a1 v r) (ς a2 q m) (ς a3 f s) (ς a4 p n) u):=by
 obtain⟨ea,ec,rfl,Dp⟩:=he;have V:=@sq prog;obtain⟨I,X⟩:∃I:Array υ,#[ς a0 l o,ς a1 v r,ς a2 q m,ς a3 f s,ς a4 p n,.map (ο (w.heap.size+2))]=I:=⟨_,rfl⟩;obtain⟨d,C⟩:=aF w.heap.size;obtain⟨F,A⟩:=aC ((((w.alloc (ζ #[ς a0 l o,ς a1 v r,ς a2 q m,ς a3 f s,ς a4 p n] 49)).alloc (ζ #[ς ν 0 0,ς ν 0 0,ς ν 0 0,ς ν 0 0,ς ν 0 0,.map ν] 86)).alloc (.map #[] 0)).alloc (ζ #[ς a0 l o,ς a1 v r,ς a2 q m,ς a3 f s,ς a4 p n,.map (ο (d+1+1))] 86));have N:φ d w F:=by
  rw[A];have:=(((cV w.heap.size w).alloc (zL0) (ζ #[ς a0 l o,ς a1 v r,ς a2 q m,ς a3 f s,ς a4 p n] 49)).alloc (by simp) (ζ #[ς ν 0 0,ς ν 0 0,ς ν 0 0,ς ν 0 0,ς ν 0 0,.map ν] 86)).alloc (by simp;omega) (.map #[] 0);have:=this.alloc (by simp;omega) (ζ #[ς a0 l o,ς a1 v r,ς a2 q m,ς a3 f s,ς a4 p n,.map (ο (d+1+1))] 86);rw[C]at this;exact this
 have s1:(w.alloc (ζ #[ς a0 l o,ς a1 v r,ς a2 q m,ς a3 f s,ς a4 p n] 49)).heap.size=d+1:=by rw[eC,C]
 have s2:((w.alloc (ζ #[ς a0 l o,ς a1 v r,ς a2 q m,ς a3 f s,ς a4 p n] 49)).alloc (ζ #[ς ν 0 0,ς ν 0 0,ς ν 0 0,ς ν 0 0,ς ν 0 0,.map ν] 86)).heap.size=d+1+1:=by rw[eC,s1]
 have kR:aj F (d+1) #[ς ν 0 0,ς ν 0 0,ς ν 0 0,ς ν 0 0,ς ν 0 0,.map ν] 86:=by
  rw[A,<-s1];exact((aj.new ..).alloc _).alloc _
 have E:bZ bq (fun _=>True) F (d+1+1) (fun a=>(jB u 0 a:Int)):=by
  rw[A,<-s2];exact(bZ.made _ _).move (ed _ _ _ (by simp))
 have B:aj F (d+1+1+1) #[ς a0 l o,ς a1 v r,ς a2 q m,ς a3 f s,ς a4 p n,.map (ο (d+1+1))] 86:=by
  rw[A];have:=aj.new (((w.alloc (ζ #[ς a0 l o,ς a1 v r,ς a2 q m,ς a3 f s,ς a4 p n] 49)).alloc (ζ #[ς ν 0 0,ς ν 0 0,ς ν 0 0,ς ν 0 0,ς ν 0 0,.map ν] 86)).alloc (.map #[] 0)) #[ς a0 l o,ς a1 v r,ς a2 q m,ς a3 f s,ς a4 p n,.map (ο (d+1+1))] 86;rw[eC,s2]at this;exact this
 have Y:Hid (∀wr,φ d w wr->∀(j:Nat)x,u[j]?=ο x->∃g,ea=ο ⟨g,0,ν⟩/\wr.cell? ⟨g,j*3,ν⟩=ο (ι ξ (x.1:Int))/\wr.cell? ⟨g,j*3+1,ν⟩=ο (ι ξ (x.2.1:Int))/\wr.cell? ⟨g,j*3+2,ν⟩=ο (ι ξ (x.2.2:Int))):=fun wr D j x hx=>by
  rw[<-C]at D;obtain⟨g,e,h1,h2,h3⟩:=Dp j x hx;exact⟨g,e,aU D h1,aU D h2,aU D h3⟩
 have H0:Hid (φ d w F/\bZ bq (fun _=>True) F (d+1+1) (fun a=>(jB u 0 a:Int))/\aj F (d+1) #[ς ν 0 0,ς ν 0 0,ς ν 0 0,ς ν 0 0,ς ν 0 0,.map ν] 86/\aj F (d+1+1+1) #[ς a0 l o,ς a1 v r,ς a2 q m,ς a3 f s,ς a4 p n,.map (ο (d+1+1))] 86):=⟨N,E,kR,B⟩;have HB:Hid (w.heap.size=d):=C;clear Dp N E kR B s1 s2 X;go_enter func27,ntmps27;go_upto_region 2 with fail
 rw[<-A];clear A C V;go_wp2_with fail
 go_loopw [13] (fun i wr=>∃j:Nat,j<=u.length/\i=ι ξ (j:Int)/\Hid (φ d w wr/\bZ bq (fun _=>True) wr (d+1+1) (fun a=>(jB u j a:Int))/\aj wr (d+1) #[ς ν 0 0,ς ν 0 0,ς ν 0 0,ς ν 0 0,ς ν 0 0,.map ν] 86/\aj wr (d+1+1+1) #[ς a0 l o,ς a1 v r,ς a2 q m,ς a3 f s,ς a4 p n,.map (ο (d+1+1))] 86)) (fun i _=>u.length - (intOf i).toNat)
 case atStart=>exact⟨0,by omega,rfl,H0⟩
 case round=>
  clear H0;obtain⟨j,hj,rfl,HI⟩:=hrel;obtain⟨D,E,kR,B⟩:=HI.out;clear HI
  by_cases hjn:j<u.length
  ·have j1:(j:Int)<(u.length:Int):=by omega
   obtain⟨x,J⟩:∃x,u[j]?=ο x:=⟨_,cG hjn⟩;obtain⟨g,rfl,d1,d2,d3⟩:=Y.out wr D j x J;obtain⟨S,T,P⟩:=x;simp only at d1 d2 d3;obtain⟨wa,Q⟩:=aC (wr.alloc (ζ #[ι ξ (S:Int),ι ξ (T:Int),ι ξ (P:Int)] 125));obtain⟨bx,L⟩:=aF wr.heap.size;have R:aj wa bx #[ι ξ (S:Int),ι ξ (T:Int),ι ξ (P:Int)] 125:=by rw[Q,<-L];exact aj.new ..
   have y:φ wr.heap.size wr wa:=by rw[Q];exact(cV _ _).alloc (zL0) _
   have M:=E.move (y.block _ E.lt);obtain⟨O,W,K,G,-⟩:=bZ.put Tryz.JV Tryz.JW (fun _ _=>trivial) M (a:=(S,T)) trivial (P:Int);simp only[bq]at W;have U:∀{b t:Nat}{I:Array υ},aj wr b I t->aj O b I t:=fun H=>(G.block _ (dg H.lt y.size) fun e=>by
    cases e;obtain⟨aa,cl,h1,-⟩:=E;unfold aj at H;rw[h1]at H;cases H).trans ((y.block _ H.lt).trans H)
   have HN:Hid (φ d w O/\bZ bq (fun _=>True) O (d+1+1) (fun a=>(jB u (j+1) a:Int))/\aj O (d+1) #[ς ν 0 0,ς ν 0 0,ς ν 0 0,ς ν 0 0,ς ν 0 0,.map ν] 86/\aj O (d+1+1+1) #[ς a0 l o,ς a1 v r,ς a2 q m,ς a3 f s,ς a4 p n,.map (ο (d+1+1))] 86):=by
    refine⟨(D.trans (y.mono (by have:=kR.lt;omega))).grown G (by have:=kR.lt;have:=y.size;omega) (fun k e=>by cases e;omega),?_,U kR,U B⟩;have e:(fun a=>(jB u (j+1) a:Int))=fun c=>if c=(S,T) then (P:Int) else (jB u j c:Int):=by
     funext a;rw[jB,J];simp only
     split <;> rfl
    rw[e];exact K
   have Z:=B.on y;have m5:=Z.a5;have x1:=R.a0;have x2:=R.a1;have x3:=R.a2;clear D E kR B R y M K G U Z Y;go_upto_region 5 with fail
   rw[<-Q];clear Q L d1 d2 d3;go_wp2_with fail;exact⟨⟨j+1,by omega,by go_num,HN⟩,by simp[intOf];omega⟩
  ·obtain rfl:j=u.length:=by omega
   have m0:=B.a0;have m1:=B.a1;have m2:=B.a2;have m3:=B.a3;have m4:=B.a4;have m5:=B.a5;have r0:=kR.a0;have r1:=kR.a1;have r2:=kR.a2;have r3:=kR.a3;have r4:=kR.a4;have r5:=kR.a5;have rf:=kR.frozen;have kF:=(((((kR.set 0 (ς a0 l o)).set 1 (ς a1 v r)).set 2 (ς a2 q m)).set 3 (ς a3 f s)).set 4 (ς a4 p n)).set 5 (.map (ο (d+1+1)));have HF:Hid (bZ bq (fun _=>True) ((((((wr.setCell ⟨d+1,0,ν⟩ (ς a0 l o)).setCell ⟨d+1,1,ν⟩ (ς a1 v r)).setCell ⟨d+1,2,ν⟩ (ς a2 q m)).setCell ⟨d+1,3,ν⟩ (ς a3 f s)).setCell ⟨d+1,4,ν⟩ (ς a4 p n)).setCell ⟨d+1,5,ν⟩ (.map (ο (d+1+1)))) (d+1+1) (fun a=>(jB u u.length a:Int))/\φ d w ((((((wr.setCell ⟨d+1,0,ν⟩ (ς a0 l o)).setCell ⟨d+1,1,ν⟩ (ς a1 v r)).setCell ⟨d+1,2,ν⟩ (ς a2 q m)).setCell ⟨d+1,3,ν⟩ (ς a3 f s)).setCell ⟨d+1,4,ν⟩ (ς a4 p n)).setCell ⟨d+1,5,ν⟩ (.map (ο (d+1+1))))):=by
    have z:d+1+1≠d+1:=by omega
    refine⟨E.move (by rw[zS0 z,zS0 z,zS0 z,zS0 z,zS0 z,zS0 z]),?_⟩;have hp:∀i,d<=(⟨d+1,i,ν⟩:Addr).block:=fun _=>nh d
    exact(((((D.setCell (hp 0) _).setCell (hp 1) _).setCell (hp 2) _).setCell (hp 3) _).setCell (hp 4) _).setCell (hp 5) _
   clear D E kR B Y;go_wp2_with fail;exact oU rfl rfl kF (by kernel_rfl) (by kernel_rfl) ⟨d+1+1,rfl,by rw[HB.out];omega,HF.out.1,by rw[HB.out];exact HF.out.2⟩
def wL(ws:List Nat):List υ:=ws.map fun(x:Nat)=>ι .u64 (x:Int)
theorem Mx.put{w0:ω}{N:Nat}{rs:List (List υ)}(h:Mx w0 B m q o n N W l rs){g:Nat}{r':List υ}(hg:l[i]?=ο g)(a:W.grownBy W' (ο g))(s:aj W' g r'.toArray o):Mx w0 B m q o n N W' l (rs.set i r'):=by
 have d:=cM hg;refine⟨(a.block m h.out.lt fun e=>by cases e;exact h.MB d rfl).trans h.out,by simp[h.len],fun j p r hg' c=>?_,h.nd,h.lo,h.no,h.b.grown a h.size fun k e=>by cases e;exact h.lo g d,h.ne,h.le⟩;rw[g8]at c
 split at c
 ·rename_i e
  subst e;rw[hg]at hg';cases hg';have f:i<rs.length:=by rw[h.len];exact(cH.1 hg).1
  rw[du f]at c;cases c;exact s
 ·rename_i e
  refine(a.block p (h.lt (cM hg')) fun u=>e ?_).trans (h.row j p r hg' c);cases u;obtain⟨h1,t⟩:=cH.1 hg;obtain⟨h2,v⟩:=cH.1 hg';exact(mC h.nd).1 (t.trans v.symm)
namespace Lx
def dQ(nw:Nat)(ts:List Nat):Nat->List Nat
 |0=>ψ nw 0
 |k+1=>match ts[k]? with
  |some t=>xR (dQ nw ts k) t
  |none=>dQ nw ts k
theorem TN(nw:Nat)(a:List Nat):∀k,(dQ nw a k).length=nw/\jU (dQ nw a k)
 |0=>⟨js ..,fun x b=>by rw[mA b];decide⟩
 |k+1=>by
  have ih:=TN nw a k;rw[dQ]
  split
  ·exact⟨(aaS ..).trans ih.1,abQ ih.2 _⟩
  ·exact ih
end Lx
def SoE(w:ω)(nw:Nat)(L:List (List Nat))(e:Ending)(w':ω):Prop:=∃gO gs,e=δ (ς (ο ⟨gO,0,ν⟩) L.length L.length)/\gs.length=L.length/\w.heap.size<=gO/\Mx w w.heap.size gO 174 275 nw L.length w' gs ((L.map fun ts=>dQ nw ts ts.length).map wL)
theorem aiZ(j:n<=100000)(w:ω):(Instr.makeSlice 88 (ι ξ (n:Int)) (ι ξ (n:Int))).run prog w=.ok (ς (ο ⟨w.heap.size,0,ν⟩) n n) (w.alloc (ζ (vA (ψ n (ς ν 0 0))) 174)):=by
 obtain⟨d,g,b,c,a⟩:=ft Tryz.TI;have h:=qh (P:=prog) w 88 174 d _ (by kernel_rfl) g b ξ ξ (n:Int) (n:Int) (by omega) (oX _) (by rw[a];omega) (by omega);rw[h,ij,c];have e:Value.cells (ς ν 0 0)=#[ς ν 0 0]:=rfl;have f:madeCells #[ς ν 0 0] (n*1)=(vA (ψ n (ς ν 0 0))):=by
  unfold madeCells vA;apply rK
  ·simp
  ·intro i h1 h2
   simp[Nat.mod_one]
 rw[e,f]
theorem ahC{vl:υ}{L:List (List Nat)}(hL:yM w vl L)(hN:L.length<=100000)(hT:nT<=100000)(U:∀l∈L,l.length<=1000000/\∀t∈l,t<nT):χ prog 28 #[vl,ι ξ (nT:Int)] w (SoE w (Lx.nW nT) L):=by
 obtain⟨la,lc,rfl,J⟩:=hL;obtain⟨c,N⟩:=aF w.heap.size;obtain⟨nw,p⟩:=aF (Lx.nW nT);have ac:nw<=100000:=by rw[<-p];unfold Lx.nW;omega
 have ab:nT<=nw*64:=by rw[<-p];unfold Lx.nW;omega
 obtain⟨w2,u⟩:=aC (w.alloc (ζ (vA (ψ L.length (ς ν 0 0))) 174));have I:Mx w c c 174 275 nw L.length w2 [] []:=by rw[u,<-N];exact Mx.new w nw L.length (by decide)
 have H:=fun w=>aiZ (n:=L.length) hN w
 have O:=fun w=>Rx (w:=w) hT
 simp only[p]at O;rw[p];have T:Hid (∀wr,φ c w wr->∀(j:Nat)l,L[j]?=ο l->∃g B P,la=ο ⟨g,0,ν⟩/\wr.cell? ⟨g,j,ν⟩=ο (ς B l.length P)/\∀r,φ c w r->∀(k:Nat)t,l[k]?=ο t->∃b,B=ο ⟨b,0,ν⟩/\r.cell? ⟨b,k,ν⟩=ο (ι ξ (t:Int))):=fun wr hb j l hl=>by
  rw[<-N]at hb|-;obtain⟨g,e,v,h1,B,P,rfl,h3⟩:=J j l hl;rw[j9]at h1;refine⟨g,B,P,e,aU hb h1,fun r hz k t ht=>?_⟩;obtain⟨b,e3,Y⟩:=h3 k t ht;unfold iQ at Y;rw[j9]at Y;exact⟨b,e3,aU hz Y⟩
 have H0:Hid (∃d,d.length=0/\Mx w c c 174 275 nw L.length w2 d (((L.take 0).map fun a=>dQ nw a a.length).map wL)):=⟨[],rfl,I⟩;have HG:Hid (w.heap.size=c):=N;clear J I p;go_enter func28,ntmps28;go_upto_region 2 with (simp only[H])
 rw[<-u];clear u N H;go_wp2_with fail
 go_loopw [15] (fun i wr=>∃j:Nat,j<=L.length/\i=ι ξ (j:Int)/\Hid (∃d,d.length=j/\Mx w c c 174 275 nw L.length wr d (((L.take j).map fun a=>dQ nw a a.length).map wL))) (fun i _=>L.length - (intOf i).toNat)
 case atStart=>exact⟨0,by omega,rfl,H0⟩
 case round=>
  clear H0;obtain⟨j,hj,rfl,K⟩:=hrel;obtain⟨d,m,f⟩:=K.out;clear K
  by_cases hjn:j<L.length
  ·have j1:(j:Int)<(L.length:Int):=by omega
   obtain⟨l,hl⟩:∃l,L[j]?=ο l:=⟨_,cG hjn⟩;obtain⟨g,B,P,rfl,c1,hX⟩:=T.out wr f.b j l hl;have X:=U l (cM hl);have F:wr.cell? ⟨c,j,ν⟩=ο (ς ν 0 0):=by
    rw[f.out.cell,ie,eQ (by rw[dk];omega),dk,m,io,mi,du (by omega)]
   have dO:∀o,(wr.alloc o).cell? ⟨c,j,ν⟩=ο (ς ν 0 0):=fun o=>(cQ (w:=wr) (ed _ _ _ f.out.lt)).trans F
   have fO:∀o,(wr.alloc o).frozen? ⟨c,j,ν⟩=ε:=fun o=>(f.out.alloc o).frozen j
   have V:=f.push (by omega) (wL (ψ nw 0));rw[m]at V;have D:(((L.take j).map fun a=>dQ nw a a.length).map wL).length=j:=by rw[dk,dk,fR];omega
   have W:Hid (((L.take (j+1)).map fun a=>dQ nw a a.length).map wL=((L.take j).map fun a=>dQ nw a a.length).map wL++[wL (dQ nw l l.length)]):=by
    show _=_;rw[ki,hl,ee,ee];rfl
   have C:Hid ((((L.take j).map fun a=>dQ nw a a.length).map wL).length=j):=D;have S:Hid (∃d,d.length=j+1/\Mx w c c 174 275 nw L.length ((wr.alloc (ζ (oh (ψ nw 0)) 275)).setCell ⟨c,j,ν⟩ (ς (ο ⟨wr.heap.size,0,ν⟩) nw nw)) d (((L.take j).map fun a=>dQ nw a a.length).map wL++[wL (dQ nw l 0)])):=⟨d++[wr.heap.size],by rw[cJ,m];rfl,V⟩;have HX:Hid (∀r,φ c w r->∀(k:Nat)t,l[k]?=ο t->∃b,B=ο ⟨b,0,ν⟩/\r.cell? ⟨b,k,ν⟩=ο (ι ξ (t:Int))):=hX;have q:=O wr;clear f V D T m hX U O hl;generalize ((L.take j).map fun a=>dQ nw a a.length).map wL=pr at W C S
   go_wp2_with (go_at_call 58;refine q.mono ?_;rintro e w3⟨rfl,R⟩;subst R)
   clear F dO fO c1 q
   go_loopw [27] (fun i wr=>∃k:Nat,k<=l.length/\i=ι ξ (k:Int)/\Hid (∃d,d.length=j+1/\Mx w c c 174 275 nw L.length wr d (pr++[wL (dQ nw l k)]))) (fun i _=>l.length - (intOf i).toNat)
   case atStart=>exact⟨0,by omega,rfl,S⟩
   case round=>
    clear S;revert wr;intro r hrel;obtain⟨k,hk,rfl,K⟩:=hrel;obtain⟨z,Q,f⟩:=K.out;clear K
    by_cases hkn:k<l.length
    ·have k1:(k:Int)<(l.length:Int):=by omega
     obtain⟨t,ht⟩:∃t,l[k]?=ο t:=⟨_,cG hkn⟩;obtain⟨b,rfl,c1⟩:=HX.out r f.b k t ht;have aa:=X.2 t (cM ht);obtain⟨M,s⟩:∃g,z[j]?=ο g:=⟨_,cG (by omega)⟩;have zV:(pr++[wL (dQ nw l k)])[j]?=ο (wL (dQ nw l k)):=by
      rw[eQ (by rw[C.out];exact zL0),C.out,io];rfl
     have o1:=f.Cw s;obtain⟨y,E⟩:=TN nw l k;have G:=aaV (w:=r) (g:=M) (t:=t) (ws:=dQ nw l k) ⟨f.row j M _ s zV,E⟩ (by rw[y];omega) (by omega);rw[y]at G;have HN:Hid (∀A,TS A M (xR (dQ nw l k) t)->r.grownBy A (ο M)->∃d,d.length=j+1/\Mx w c c 174 275 nw L.length A d (pr++[wL (dQ nw l (k+1))])):=fun A Z x=>by
      refine⟨z,Q,?_⟩;have:=f.put s x (r':=wL (xR (dQ nw l k) t)) Z.blk;rw[nn _ _ (by rw[C.out];exact zL0),C.out,io,n7]at this;rw[dQ,ht];exact this
     have d0:(0:Int)<=(j:Int):=by omega
     clear f zV s Q y E HX ht
     go_wp2_with (go_at_call 59;refine G.mono ?_;rintro e A⟨rfl,Z,x⟩)
     exact⟨⟨k+1,by omega,by go_num,HN.out A Z x⟩,by simp[intOf];omega⟩
    ·obtain rfl:k=l.length:=by omega
     have HE:Hid (∃d,d.length=j+1/\Mx w c c 174 275 nw L.length r d (((L.take (j+1)).map fun a=>dQ nw a a.length).map wL)):=⟨z,Q,by rw[W.out];exact f⟩;clear f Q W HX C;go_wp2_with fail;exact⟨⟨j+1,by omega,by go_num,HE⟩,by simp[intOf];omega⟩
  ·obtain rfl:j=L.length:=by omega
   rw[ff]at f;have HR:Hid (SoE w nw L (δ (ς (ο ⟨c,0,ν⟩) L.length L.length)) wr):=⟨c,d,rfl,m,by rw[HG.out];exact zL0,by rw[HG.out];exact f⟩;clear f m T U O;go_wp2_with fail;go_ret;exact HR.out
theorem alC(x k a:Nat)(b:((x:Int) == 0)=ε)(key:IntKind.u64.wrap (bits BinOp.and IntKind.u64 (x:Int) (IntKind.u64.wrap (-(x:Int)))*285870213051353865) / 288230376151711744=(a:Int))(f:a<64)(c:k<64)(d:w.cell? ⟨2,a,ν⟩=ο (ι .u8 (k:Int))):χ prog 123 #[ι .u64 (x:Int)] w fun e w'=>e=δ (ι ξ (k:Int))/\w'=w:=by
 go_enter func123,ntmps123
 go_wp2_with (simp only[key])
 go_ret;exact⟨rfl,rfl⟩
theorem amG(j:TabAt 2 Lib.deBruijn64tab w)(i:x<18446744073709551616)(c:x≠0):χ prog 123 #[ι .u64 (x:Int)] w fun e w'=>e=δ (ι ξ ((Lib.ctz 64 x:Nat):Int))/\w'=w:=by
 obtain⟨b,d⟩:=Lib.lowest_bit 64 x c i;obtain⟨g,a⟩:=Lib.deBruijn64_at _ d;have f:=j _ g;rw[a]at f;exact alC x _ _ (by simp;omega) (tz64_key x _ i c b) g d f
namespace Lx
def xK:Nat->Nat->List Nat
 |0,_=>[]
 |n+1,x=>if x=0 then [] else Lib.ctz 64 x::xK n (x &&& (x-1))
def ow(x:Nat):List Nat:=xK x x
theorem Te:∀(n m x:Nat),x<=n->x<=m->xK n x=xK m x
 |0,0,_,_,_=>rfl
 |0,m+1,x,h,_=>by rw[xK,xK,du (by omega)]
 |n+1,0,x,_,h=>by rw[xK,xK,du (by omega)]
 |n+1,m+1,x,h,k=>by
  have a:x &&& (x-1)<=x-1:=uu;rw[xK,xK]
  split
  ·rfl
  ·rw[Te n m _ (by omega) (by omega)]
theorem ab4:ow 0=[]:=rfl
theorem TQ(h:x≠0):ow x=Lib.ctz 64 x::ow (x &&& (x-1)):=by
 have a:x &&& (x-1)<=x-1:=uu;unfold ow;rw[Te x (x+1) x (zL0) (nh _),xK,dt h,Te x _ _ (by omega) (zL0)]
def oO(ws:List Nat):Nat->List Nat
 |0=>[]
 |k+1=>oO ws k++(ow (ws.getD k 0)).map (k*64+·)
theorem ab5(ws:List Nat)(k:Nat):∀n,k<=n->oO ws k <+: oO ws n
 |0,h=>by rw[show k=0 by omega];exact List.prefix_refl _
 |n+1,h=>by
  by_cases e:k=n+1
  ·rw[e];exact List.prefix_refl _
  ·exact(ab5 ws k n (by omega)).trans (List.prefix_append _ _)
theorem amH{ws:List Nat}{d y:Nat}(c:k<n)(a:(ow (ws.getD k 0))[d]?=ο y):(oO ws n)[(oO ws k).length+d]?=ο (k*64+y):=by
 obtain⟨r,b⟩:=ab5 ws (k+1) n c;rw[<-b,oO,dy,eQ (by omega),uv,eL (by rw[dk];exact(cH.1 a).1),dj,a];rfl
end Lx
def encI(x:Nat):Array υ:=#[ι ξ (x:Int)]
theorem ahD{bx g:Nat}{ws:List Nat}(hl:ws.length<=1000):xP prog 122 #[π (ο ⟨bx,0,ν⟩)] encI (oO ws ws.length) (fun W=>aj W bx #[ς (ο ⟨g,0,ν⟩) ws.length c] 174/\TS W g ws/\TabAt 2 Lib.deBruijn64tab W):=by
 intro l J W hJ v hY E;refine gh.1 (uC (F:=Fence.wide) (n:=9) func122 rfl trivial ?_ rfl);simp only[ntmps122,List.size_toArray,List.length_cons,List.length_nil,Nat.reduceAdd,Nat.reduceSub,Array.replicate_succ,Array.replicate_zero,List.push_toArray,List.append_toArray,List.nil_append,List.cons_append];have m0:=(v _ _ _ E).1.a0
 gi_wp2
 gi_loopg [7] ws.length (fun m i wr=>∃(k:Nat)(Z:Nat->Prop),k+m=ws.length/\i=ι ξ (k:Int)/\J (oO ws k).length Z wr)
 case atStart=>exact⟨0,_,by omega,rfl,E⟩
 case round=>
  clear E m0;obtain⟨k,Z,hk,rfl,s⟩:=hrel
  by_cases hlt:k<ws.length
  ·have O:=((v _ _ _ s).2.1.blk.cell k).trans (Jl ws hlt)
   have t:=(v _ _ _ s).2.1.wd.get k;obtain⟨b,p⟩:=aF (ws.getD k 0);rw[p]at O t;have K:Hid (ws.getD k 0=b):=p;clear p;have S:(0:Int)<=(k:Int):=by omega
   have j2:(k:Int)<(ws.length:Int):=by omega
   gi_wp2
   gi_loopg [4] b (fun U av x=>∃(m d:Nat)(r:Nat->Prop),m=U/\d<=(ow b).length/\m<18446744073709551616/\av=ι .u64 (m:Int)/\Hid ((ow b).drop d=ow m)/\J ((oO ws k).length+d) r x)
   case atStart=>exact⟨b,0,Z,rfl,fi _,t,rfl,rfl,s⟩
   case round=>
    clear s O;revert wr;intro x hrel;obtain⟨m,d,r,rfl,H,I,rfl,u,a⟩:=hrel
    by_cases hm0:m=0
    ·subst hm0
     have hd:(ow b).length<=d:=by
      have:=u.out;rw[ab4]at this;exact List.drop_eq_nil_iff.1 this
     have Y:Hid (J (oO ws (k+1)).length r x):=by
      rw[oO,cJ,dk,K.out];rw[show (ow b).length=d by omega];exact a
     clear a u
     gi_wp2
     gi_roundg (ws.length - (k+1))
     case measure=>omega
     case rel=>exact⟨k+1,r,by omega,by go_num,Y.out⟩
    ·have f:(ow (ws.getD k 0))[d]?=ο (Lib.ctz 64 m):=by
      rw[K.out];have:=u.out;rw[TQ hm0]at this;have e:=fd (·[0]?) this;simpa using e
     obtain⟨fn,tmps,assign,body,y,Q⟩:=hY _ _ r x (amH hlt f) a;have q:=amG (v _ _ _ a).2.2 I hm0;have N:Hid ((ow b).drop (d+1)=ow (m &&& (m-1))):=by
      show (ow b).drop (d+1)=ow (m &&& (m-1));have e:=u.out;rw[TQ hm0]at e;have M:=fd (List.drop 1) e;rw[xl]at M;simpa using M
     have C:d+1<=(ow b).length:=by
      rw[K.out]at f;exact(cH.1 f).1
     obtain⟨z,B⟩:=aF (Lib.ctz 64 m);have X:z<64:=by rw[<-B];exact(Lib.lowest_bit 64 m hm0 I).2
     obtain⟨m2,j⟩:=aF (m &&& (m-1));have o:m2<m:=by rw[<-j];exact Nat.lt_of_le_of_lt uu (by omega)
     have D:bits BinOp.and IntKind.u64 (m:Int) ((m:Int) - 1)=(m2:Int):=by
      rw[show (m:Int) - 1=((m-1:Nat):Int) by omega,bits_and_u64_nat m (m-1) I (by omega),j]
     rw[B]at y q;rw[j]at N;simp only[encI]at y;have R:((k*64+z:Nat):Int)=(k:Int)*64+(z:Int):=by omega
     rw[R]at y;have b0:((m:Int) != 0)=η:=by simp;omega
     have b1:(m:Int)≠0:=by omega
     clear j B f u;have T:IntKind.i64.wrap ((k:Int)*64)=(k:Int)*64:=by rw[gx];omega
     have V:IntKind.i64.wrap ((k:Int)*64+(z:Int))=(k:Int)*64+(z:Int):=by rw[gx];omega
     have L:Hid (bits BinOp.and IntKind.u64 (m:Int) ((m:Int) - 1)=(m2:Int)):=D;have P:Hid (m2<m):=o;clear D R H hm0 hlt o S j2
     gi_upto_region 5 with fail
     gi_upto_region 4 with (first
      | (refine⟨trivial,?_⟩;gi_at_call 123;refine(gh.2 q).mono ?_;rintro e w2⟨rfl,A⟩;subst A))
     refine(BH Q).mono ?_;rintro e W3⟨rfl,G,-⟩;have D:=L.out;clear y Q q a L
     gi_wp2
     gi_roundg m2
     case measure=>exact P.out
     case rel=>exact⟨m2,d+1,r,rfl,C,by have:=P.out;omega,by go_num,N,G⟩
  ·gi_wp2
   go_end0
   exact⟨⟨_,rfl⟩,Z,by rw[show ws.length=k by omega];exact s⟩
section
open Go.RowKit Go.Shelf
open Tr
attribute [local go_sem] my
theorem ahE{a:Option Addr}:χ prog 67 #[ς a n c] w fun e w'=>e=δ (.func (.func 122) #[] #[π (ο ⟨w.heap.size,0,ν⟩)])/\w'=w.alloc (ζ #[ς a n c] 174):=by
 go_enter func67,ntmps67;go_wp2_with fail;go_ret;exact⟨rfl,rfl⟩
def Iz(w:ω)(n:Nat)(xs:List Nat)(i:Nat)(Z:Nat->Prop)(W:ω):Prop:=φ n w W/\(∀k,Z k->n<k/\k<W.heap.size)/\∃v,aj W n #[v] 47/\W.ownsRow n 3 1 v (xs.take i).length ((xs.take i).map bA)/\∀g,v.ownBlock=ο g->¬Z g
theorem Iz.oD:sF (Iz w n l) where
 own i Z A B row h hg hr:=by
  obtain⟨h1,h2,v,h3,h4,d⟩:=h;have a:∀k,row=ο k->Z k:=fun k e=>hr k e
  refine⟨h1.grown hg (lA h3.lt) fun k e=>lA (h2 k (a k e)).1,fun k b=>⟨(h2 k b).1,dg (h2 k b).2 hg.size⟩,v,(hg.block n h3.lt fun e=>by have:=(h2 n (a n e.symm)).1;omega).trans h3,ay h4 fun g c=>hg.block g (h4.lt g c).2 fun e=>d g c (a g e.symm),d⟩
 new i Z A o h:=by
  obtain⟨h1,h2,v,h3,h4,d⟩:=h;have j:=h3.lt;refine⟨h1.alloc (lA j) o,fun k b=>?_,v,h3.alloc o,h4.alloc o,fun g hg f=>?_⟩
  ·rw[eC]
   rcases b with b|rfl
   ·have:=h2 k b
    omega
   ·omega
  ·rcases f with f | rfl
   ·exact d g hg f
   ·have:=(h4.lt _ hg).2
    omega
theorem afz{Rd:ω->Prop}(u:xP prog 122 lb encI d Rd)(H:∀W,φ w.heap.size w W->Rd W)(aa:d.length<=1000000000):χ prog 121 #[ς ν 0 0,.func (.func 122) #[] lb] w fun e w'=>∃v,e=δ v/\w'.ownsRow w.heap.size 3 1 v d.length (d.map bA)/\φ w.heap.size w w':=by
 obtain⟨i0,Q,L,N,I⟩:=ft Tryz.info3';refine gh.1 (callsIn_of_wp_marks (F:=Fence.wide) (n:=9) func121 rfl trivial ?_ rfl);simp only[ntmps121,List.size_toArray,List.length_cons,List.length_nil,Nat.reduceAdd,Nat.reduceSub,Array.replicate_succ,Array.replicate_zero,List.push_toArray,List.append_toArray,List.nil_append,List.cons_append];obtain⟨n,S⟩:=aF w.heap.size;obtain⟨w1,l⟩:=aC (w.alloc (ζ #[ς ν 0 0] 47));have h0:Iz w n d 0 (fun _=>False) w1:=⟨by rw[l,<-S];exact(cV _ _).alloc (zL0) _,fun k b=>b.elim,_,by rw[l,<-S];exact aj.new ..,eV _ _ _ _,fun g e=>by cases e⟩;rw[S]at H|-
 gi_upto_region 1 with fail
 rw[<-l];clear l
 gi_wp2
 refine BF (gf:=122) (lb:=lb) rfl (enters_of func122 (by kernel_rfl) rfl) u (fun _=>rfl) (Iz w n d) Iz.oD (fun i Z W h=>H W h.1) h0
  (fun x U W=>U={ tmps:=#[ς ν 0 0,.func (.func 122) #[] lb,π (ο ⟨n,0,ν⟩),undef,ς ν 0 0,ι ξ (x:Int),.func (.func 122) #[] lb,ι ξ (x:Int),undef,undef,undef,undef,undef],defers:=[] }) ?hAx ?assign ?body ?done
 case hAx=>exact fun _ _ _ _ h=>h
 case assign=>
  rintro l' i x Z W K hsz hi M;simp only[encI]
  gi_wp2
  exact M _ _ (zL0) (fun _ _ _=>rfl) hi rfl
 case body=>
  rintro l' i x Z U W X⟨r,y,v,kB,f,A⟩rfl;obtain⟨j,o,rfl,-⟩:=aB f;have ac:=(cH.1 X).1;have s:(d.take i).length=i:=by rw[fR];omega
  rw[s]at f kB A;have c0:=kB.a0;have C:(ς j i o).ownBlock≠ο n:=fun e=>by
   obtain⟨J,G⟩:=bJ f e;unfold aj at kB;rw[G]at kB;cases kB
  have hsz:=lA kB.lt;have HF:Hid (∀m q a,q.ownsRow n 3 1 m (i+1) ((d.take i).map bA++[ι ξ (x:Int)])->(W.alloc (ζ #[ι ξ (x:Int)] 3)).grownBy q (ς j i o).ownBlock->(m.ownBlock=(ς j i o).ownBlock\/m.ownBlock=ο (W.alloc (ζ #[ι ξ (x:Int)] 3)).heap.size)->tq Z (Iz w n d (i+1) Z) W .normal a (q.setCell ⟨n,0,ν⟩ m)):=fun m q a kH T P=>by
   have B:=aI (aM W _ _) T;have Kg:∀k,Z k->q.heap[k]?=W.heap[k]?:=fun k b=>B.block k (y k b).2 fun e=>A k e.symm b
   have z:aj q n #[ς j i o] 47:=(B.block n kB.lt fun e=>C e.symm).trans kB;have E:∀g,m.ownBlock=ο g->g≠n:=fun g e e2=>by
    obtain⟨J,G⟩:=bJ kH e;unfold aj at z;rw[e2,z]at G;cases G
   refine⟨⟨(r.grown B hsz fun k e=>(f.lt k e).1).setCell (p:=⟨n,0,ν⟩) (zL0) _,fun k b=>⟨(y k b).1,by have:=(y k b).2;have:=B.size;simpa using (by omega:k<q.heap.size)⟩,m,z.set 0 m,?_,fun g e V=>?_⟩,fun k b ab=>(aY _ _ (by have:=(y k b).1;omega)).trans (Kg k b)⟩
   ·rw[ki,X,ee,cJ,s]
    exact ay kH fun g e=>aY _ _ (E g e)
   ·rcases P with O | O
    ·exact A g (O▸e) V
    ·rw[O]at e
     cases e;have:=(y _ V).2;simp at this;omega
  clear r y A H u h0
  gi_wp2_with (gi_at_builtin;refine qS _ rfl _ _ 47 rfl n 3 i0 _ 1 8 underlying47 Q L N I rfl (by decide) (.slice j i o) _ _ rfl (f.alloc _) ⟨_,0,ν⟩ 1 1 [.int ξ (x:Int)] rfl rfl (bQ (aj.new _ _ 3)) (by simp[Value.oneCell']) (by unfold maxLen;omega) (by omega) (by simp;omega) ?_;intro m q c Y _ P;obtain⟨mG,mH,R,-⟩:=aB c;subst R;have z:=(kB.alloc (.cells #[.int ξ (x:Int)] 3)).grown Y (fun e=>C e.symm);have c5:q.cell? ⟨n,0,ν⟩=ο (.slice j i o):=z.cell 0;have f5:=z.frozen 0)
  exact HF.out _ _ _ c Y P
 case done=>
  rintro D Z W hD oF⟨r,y,v,kB,f,A⟩M;rw[ff]at f;obtain⟨j,o,rfl,-⟩:=aB f;have c0:=kB.a0
  gi_wp2
  refine⟨by simp,.inl ⟨_,_,rfl,run_takeDeferred M,?_⟩⟩;refine⟨ς j d.length o,results_tmp (fn:=Tryz.f121) (t:=4) rfl _ _ _,ς j d.length o,rfl,ay f fun g B=>World.putObj_heap_other fun e=>A g B (e▸oF),?_⟩;exact⟨r.1,r.2,r.3,by simpa [World.putObj]using r.4,fun k b=>(World.putObj_heap_other (by have:=(y D oF).1;omega)).trans (r.block k b)⟩
theorem agI{b:List Nat}{Rd:ω->Prop}(a:xP prog 122 lb encI b Rd)(d:∀W,φ w.heap.size w W->Rd W)(c:b.length<=1000000000):χ prog 66 #[.func (.func 122) #[] lb] w fun e w'=>∃v,e=δ v/\w'.ownsRow w.heap.size 3 1 v b.length (b.map bA)/\φ w.heap.size w w':=by
 have q:=afz a d c;go_enter func66,ntmps66
 go_wp2_with (go_at_call 121;refine q.mono ?_;rintro e w1⟨v,rfl,h1,h2⟩)
 go_ret;exact⟨_,rfl,h1,h2⟩
end
namespace Tb
def iZ:Nat×List Nat->Nat×Nat
 | (s,[])=>if s=0 then (0,0) else (1,s)
 | (s,p::_)=>if p=0 then (3,0) else if s=0 then (2,p) else (1,s)
def lone(x:Nat×List Nat):Bool:=decide (x.2.length<=1) && (decide (x.1=0) || decide (x.2.length=0))
end Tb
def ME(w:ω)(g o:Nat)(x:Nat×List Nat):Prop:=w.cell? ⟨g,o,ν⟩=ο (ι ξ (x.1:Int))/\∃v,w.cell? ⟨g,o+1,ν⟩=ο v/\jX w v x.2
theorem ME.keep{w w':ω}(a:φ w.heap.size w w'){g o:Nat}{x:Nat×List Nat}(h:ME w g o x):ME w' g o x:=by
 obtain⟨h1,v,h2,h3⟩:=h;exact⟨aU a h1,v,aU a h2,h3.keep a⟩
theorem ahF{pc:Nat}{pa:Option Addr}(h1:n<=1)(h2:s=0\/n=0):χ prog 88 #[γ #[ι ξ (s:Int),ς pa n pc]] w fun e w'=>e=δ (μ ε)/\φ w.heap.size w w':=by
 have a:φ w.heap.size w (w.alloc (ζ #[ι ξ (s:Int),ς pa n pc] 116)):=(cV _ _).alloc (zL0) _;have d:decide ((1:Int)<(n:Int))=ε:=fx (by omega);have c:¬1<n:=by omega
 by_cases hs:s=0
 ·have b:((s:Int) != 0)=ε:=by simp[hs]
  have g:Hid (s=0):=hs;clear hs h2;go_enter func88,ntmps88;go_wp2_with fail;go_ret;exact⟨rfl,a⟩
 ·have b:((s:Int) != 0)=η:=by simp;omega
  have i:((n:Int) == 1)=ε:=zB0 (by omega);have f:¬(n:Int)=1:=by omega
  clear hs h2 h1;go_enter func88,ntmps88;go_wp2_with fail;go_ret;exact⟨rfl,a⟩
theorem af5(h:jX w v ps):χ prog 89 #[γ #[ι ξ (s:Int),v]] w fun e w'=>e=δ (γ #[ι ξ ((Tb.iZ (s,ps)).1:Int),ι ξ ((Tb.iZ (s,ps)).2:Int)])/\φ w.heap.size w w':=by
 obtain⟨o,m,rfl,hp⟩:=h;obtain⟨w2,a⟩:=aC ((w.alloc (ζ #[ι ξ (s:Int),ς o ps.length m] 116)).alloc (ζ #[ι ξ 0,ι ξ 0] 118));obtain⟨c,b⟩:=aF w.heap.size;have f:φ w.heap.size w w2:=by rw[a];exact((cV _ _).alloc (zL0) _).alloc (by simp) _
 have j:aj w2 c #[ι ξ (s:Int),ς o ps.length m] 116:=by rw[a,<-b];exact(aj.new ..).alloc _
 have kR:aj w2 (c+1) #[ι ξ 0,ι ξ 0] 118:=by
  rw[a,<-b];have:=aj.new (w.alloc (ζ #[ι ξ (s:Int),ς o ps.length m] 116)) #[ι ξ 0,ι ξ 0] 118
  rwa [eC]at this
 have F:=j.a0;have q:=j.a1;have D:=kR.a0;have C:=kR.a1;have E:=kR.frozen;have i:Hid (∀(x y:Nat)tmps,tmps.getD 2 undef=π (ο ⟨c+1,0,ν⟩)->Tb.iZ (s,ps)=(x,y)->bodyPost prog Tryz.f89 (fun e w'=>e=δ (γ #[ι ξ ((Tb.iZ (s,ps)).1:Int),ι ξ ((Tb.iZ (s,ps)).2:Int)])/\φ w.heap.size w w') .ret { tmps,defers:=[] } ((w2.setCell ⟨c+1,0,ν⟩ (ι ξ (x:Int))).setCell ⟨c+1,1,ν⟩ (ι ξ (y:Int)))):=fun x y tmps z e=>by
  rw[e];exact oU rfl z ((kR.set 0 _).set 1 _) (by kernel_rfl) (by kernel_rfl) ⟨rfl,(f.setCell (p:=⟨c+1,0,ν⟩) (by rw[b];show c<=c+1;omega) _).setCell (p:=⟨c+1,1,ν⟩) (by rw[b];show c<=c+1;omega) _⟩
 cases ps with
 |nil=>
  rw[iz]at q a|-;clear hp f j kR
  by_cases hs:s=0
  ·have l:((s:Int) != 0)=ε:=by simp[hs]
   have d:Hid (Tb.iZ (s,[])=(0,0)):=du hs;clear hs;go_enter func89,ntmps89;go_upto_region 1 with fail
   rw[<-a];clear a b;go_wp2_with fail;exact i.out 0 0 _ rfl d.out
  ·have l:((s:Int) != 0)=η:=by simp;omega
   have d:Hid (Tb.iZ (s,[])=(1,s)):=dt hs;clear hs;go_enter func89,ntmps89;go_upto_region 1 with fail
   rw[<-a];clear a b;go_wp2_with fail;exact i.out 1 s _ rfl d.out
 |cons p tl=>
  obtain⟨g,rfl,k⟩:=hp 0 p rfl;unfold iQ at k;rw[rm]at k;have A:=aU f k;clear hp f j kR k;have t:(0:Int)<((p::tl).length:Int):=by rw[eh];omega
  have B:=ge t;obtain⟨n,r⟩:=aF ((p::tl).length);rw[r]at t B q a|-;clear r
  by_cases hp0:p=0
  ·have u:((p:Int) == 0)=η:=by simp[hp0]
   have d:Hid (Tb.iZ (s,p::tl)=(3,0)):=du hp0;clear hp0;go_enter func89,ntmps89;go_upto_region 1 with fail
   rw[<-a];clear a b;go_wp2_with fail;exact i.out 3 0 _ rfl d.out
  ·have u:((p:Int) == 0)=ε:=zB0 (by omega)
   by_cases hs:s=0
   ·have l:((s:Int) != 0)=ε:=by simp[hs]
    have d:Hid (Tb.iZ (s,p::tl)=(2,p)):=(dt hp0).trans (du hs);clear hs hp0;go_enter func89,ntmps89;go_upto_region 1 with fail
    rw[<-a];clear a b;go_wp2_with fail;exact i.out 2 p _ rfl d.out
   ·have l:((s:Int) != 0)=η:=by simp;omega
    have d:Hid (Tb.iZ (s,p::tl)=(1,s)):=(dt hp0).trans (dt hs);clear hs hp0;go_enter func89,ntmps89;go_upto_region 1 with fail
    rw[<-a];clear a b;go_wp2_with fail;exact i.out 1 s _ rfl d.out
theorem ahG{pd:υ}{st tk:Int}(h:jX w v ps)(o:Tb.lone (s,ps)=η):χ prog 37 #[pd,ι ξ st,ι ξ tk,γ #[ι ξ (s:Int),v]] w fun e w'=>e=δ (γ #[ι ξ ((Tb.iZ (s,ps)).1:Int),ι ξ ((Tb.iZ (s,ps)).2:Int)])/\φ w.heap.size w w':=by
 obtain⟨pa,pc,rfl,hp⟩:=h;have h:jX w (ς pa ps.length pc) ps:=⟨pa,pc,rfl,hp⟩;clear hp;unfold Tb.lone at o;simp only[Bool.and_eq_true,Bool.or_eq_true,decide_eq_true_eq]at o;obtain⟨w2,c⟩:=aC ((w.alloc (ζ #[ι ξ (s:Int),ς pa ps.length pc] 116)).alloc (ζ #[ι ξ 0,ι ξ 0] 118));obtain⟨a,g⟩:=aF w.heap.size;have j:φ w.heap.size w w2:=by rw[c];exact((cV _ _).alloc (zL0) _).alloc (by simp) _
 have z:aj w2 a #[ι ξ (s:Int),ς pa ps.length pc] 116:=by rw[c,<-g];exact(aj.new ..).alloc _
 have kR:aj w2 (a+1) #[ι ξ 0,ι ξ 0] 118:=by
  rw[c,<-g];have:=aj.new (w.alloc (ζ #[ι ξ (s:Int),ς pa ps.length pc] 116)) #[ι ξ 0,ι ξ 0] 118
  rwa [eC]at this
 have F:=z.a0;have E:=z.a1;have D:=ahF (w:=w2) (s:=s) (n:=ps.length) (pa:=pa) (pc:=pc) o.1 o.2;have C:Hid (∀b,φ w2.heap.size w2 b->b.cell? ⟨a,0,ν⟩=ο (ι ξ (s:Int))/\b.cell? ⟨a,1,ν⟩=ο (ς pa ps.length pc)/\aj b (a+1) #[ι ξ 0,ι ξ 0] 118/\jX b (ς pa ps.length pc) ps/\φ w.heap.size w b):=fun b k=>⟨aU k F,aU k E,(k.block _ kR.lt).trans kR,(h.keep j).keep k,j.trans (k.mono j.size)⟩
 obtain⟨x,y,l⟩:∃x y,Tb.iZ (s,ps)=(x,y):=⟨_,_,rfl⟩;rw[l];have B:Hid _:=l;have m:Hid _:=g;clear l h j z kR o;go_enter func37,ntmps37;go_upto_region 1 with fail
 rw[<-c];clear c g;go_upto_region 2 with (go_at_call 88;refine D.mono ?_;rintro e b⟨rfl,r⟩)
 obtain⟨K,d1,u,q,d⟩:=C.out b r;have G:=af5 (s:=s) q;rw[B.out]at G;have H:Hid (∀f,φ b.heap.size b f->aj f (a+1) #[ι ξ 0,ι ξ 0] 118/\φ w.heap.size w f):=fun f k=>⟨(k.block _ u.lt).trans u,d.trans (k.mono d.size)⟩
 clear C r D F E u q d
 go_wp2_with (go_at_call 89;refine G.mono ?_;rintro e f⟨rfl,A⟩;obtain⟨t,d⟩:=H.out f A;have I:f.cell? ⟨a+1,0,ν⟩=ο (ι ξ 0):=t.cell 0;have L:f.cell? ⟨a+1,1,ν⟩=ο (ι ξ 0):=t.cell 1;have J:∀i,f.frozen? ⟨a+1,i,ν⟩=ε:=t.frozen)
 exact oU rfl rfl ((t.set 0 _).set 1 _) (by kernel_rfl) (by kernel_rfl) ⟨rfl,(d.setCell (p:=⟨a+1,0,ν⟩) (by rw[m.out];show a<=a+1;omega) _).setCell (p:=⟨a+1,1,ν⟩) (by rw[m.out];show a<=a+1;omega) _⟩
theorem Tryz.alD:(prog.info? 114).map (fun i=>(i.zero,i.size,i.bytes))=ο (ο (.slice ν 0 0),1,24):=by kernel_rfl
theorem Tryz.alE:(prog.info? 118).map (fun i=>(i.zero,i.size,i.bytes))=ο (ο (.agg #[.int ξ 0,.int ξ 0]),2,16):=by kernel_rfl
theorem Sw(n:Nat):madeCells #[ς ν 0 0] (n*1)=vA (ψ n (ς ν 0 0)):=by
 unfold madeCells vA;apply rK
 ·simp
 ·intro i h1 h2
  simp[Nat.mod_one]
theorem ako(n:Nat):(ψ n ((0,0):Nat×Nat)).flatMap fI=ψ (n*2) (ι ξ 0):=by
 induction n with
 |zero=>rfl
 |succ n ih=>
  rw[oi,eS,ih,show (n+1)*2=n*2+1+1 by omega];rfl
theorem afA(g:n<=100000)(w:ω):(Instr.makeSlice 31 (ι ξ (n:Int)) (ι ξ (n:Int))).run prog w=.ok (ς (ο ⟨w.heap.size,0,ν⟩) n n) (w.alloc (ζ (vA (ψ n (ς ν 0 0))) 114)):=by
 obtain⟨d,f,b,c,a⟩:=ft Tryz.alD;have h:=qh (P:=prog) w 31 114 d _ (by kernel_rfl) f b ξ ξ (n:Int) (n:Int) (by omega) (oX _) (by rw[a];omega) (by omega);rw[h,ij,c];have e:Value.cells (ς ν 0 0)=#[ς ν 0 0]:=rfl;rw[e,Sw]
theorem ahH(j:n<=100000)(w:ω):(Instr.makeSlice 114 (ι ξ (n:Int)) (ι ξ (n:Int))).run prog w=.ok (ς (ο ⟨w.heap.size,0,ν⟩) n n) (w.alloc (ζ ((ψ n ((0,0):Nat×Nat)).flatMap fI).toArray 118)):=by
 obtain⟨d,g,b,c,a⟩:=ft Tryz.alE;have h:=qh (P:=prog) w 114 118 d _ (by kernel_rfl) g b ξ ξ (n:Int) (n:Int) (by omega) (oX _) (by rw[a];omega) (by omega);rw[h,ij,c,ako];have e:Value.cells (γ #[ι ξ 0,ι ξ 0])=#[ι ξ 0,ι ξ 0]:=rfl;rw[e];have f:madeCells #[ι ξ 0,ι ξ 0] (n*2)=(ψ (n*2) (ι ξ 0)).toArray:=by
  unfold madeCells;apply rK
  ·simp
  ·intro i h1 h2
   have:i % 2=0\/i % 2=1:=by omega
   rcases this with e|e <;> simp[e]
 rw[f]
theorem Y8:∀(l:List (Nat×Nat))(k:Nat)(x:Nat×Nat),((l.flatMap fI).set (k*2) (ι ξ (x.1:Int))).set (k*2+1) (ι ξ (x.2:Int))=(l.set k x).flatMap fI
 | [],k,x=>rfl
 |y::l,0,x=>rfl
 |y::l,k+1,x=>by
  rw[ox,eS,eS,<-Y8 l k x,show (k+1)*2=k*2+1+1 by omega];rfl

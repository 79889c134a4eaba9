import Derived.Laws.BitsAllLaws
import Derived.Test.YtfpjphhnjegnjaaGreatDoorCL04
import Derived.Sort.CutIn
import Derived.Lib.AppendZerosOnto
set_option maxHeartbeats 8000000
set_option maxRecDepth 1000000
namespace Go.Proofs.YtfpjphhnjegnjaaGreatDoor
open Lx Go.Proofs.Tryz
open Go.RowKit Tr
open Go.Value renaming slice→ς,int→ι,string→τ,pointer→π,bool→μ,agg→γ,tuple→θ
open Go.IntKind renaming i64→ξ
open Option renaming none→ν,some→ο
open Go.Ending renaming returned→δ
open Go.Obj renaming cells→ζ
open Bool renaming true→η,false→ε
open Go renaming World→ω,Value→υ,Calls→χ
open Go.RowKit renaming Below→φ
open List renaming replicate→ψ
variable{B a e i k m n pb rb s t z:Nat}{P:Program}{W W' w w' w0:ω}{b:ByteArray}{l:List Nat}{u v x:υ}
namespace Pk
def lW(b:ByteArray)(i:Nat):Nat:=(b.data.getD i 0).toNat
def Cg(b:ByteArray)(k:Nat):Nat->Nat
 |0=>0
 |i+1=>Cg b k i*256+lW b (k+i)
structure Rd where
 k:Nat
 bad:Bool
def Rd.fail(r:Rd):Rd:={ r with bad:=η }
def num(b:ByteArray)(n:Nat)(r:Rd):Nat×Rd:=if b.size-r.k<n then (0,r.fail) else (Cg b r.k n,{ r with k:=r.k+n })
def below(b:ByteArray)(m n:Nat)(r:Rd):Nat×Rd:=if m<=(num b n r).1 then (0,(num b n r).2.fail) else num b n r
def size(b:ByteArray)(m:Nat)(r:Rd):Nat×Rd:=((below b m 2 r).1+1,(below b m 2 r).2)
theorem JF(b:ByteArray)(i:Nat):lW b i<256:=(b.data.getD i 0).toNat_lt
theorem SH(b:ByteArray)(k:Nat):∀n,Cg b k n<256 ^ n
 |0=>by simp[Cg]
 |n+1=>by
  have h1:=SH b k n;have h2:=JF b (k+n);rw[Cg,Nat.pow_succ];omega
theorem Gc(b:ByteArray)(n:Nat)(r:Rd):(num b n r).1<256 ^ n:=by
 unfold num
 split
 ·exact Nat.pow_pos (by decide)
 ·exact SH b r.k n
theorem FN{r:Rd}(h:0<m):(below b m n r).1<m:=by
 unfold below
 split
 ·exact h
 ·omega
end Pk
structure fT(w:ω)(rb:Nat)(b:ByteArray)(r:Pk.Rd):Prop where
 blk:aj w rb #[τ (b.extract r.k b.size),μ r.bad] 241
 le:r.k<=b.size
theorem fT.move{r:Pk.Rd}(h:fT w rb b r)(a:w'.heap[rb]?=w.heap[rb]?):fT w' rb b r:=⟨a.trans h.blk,h.le⟩
structure jw(w:ω)(rb:Nat)(b:ByteArray)(w':ω)(r':Pk.Rd):Prop where
 m:fT w' rb b r'
 g:w.grownBy w' (ο rb)
 bL:w'.heap.size=w.heap.size
theorem fT.fail{w:ω}{rb:Nat}{b:ByteArray}{r:Pk.Rd}(h:fT w rb b r):jw w rb b (w.setCell ⟨rb,1,ν⟩ (μ η)) r.fail:=⟨⟨h.blk.set 1 _,h.le⟩,iO _ _ _ _,by simp⟩
theorem abx(b:ByteArray)(k n:Nat):(b.extract k b.size).extract n (b.extract k b.size).size=b.extract (k+n) b.size:=by
 rw[AN];congr 1;simp;omega
theorem ext_get(b:ByteArray)(k i:Nat)(h:k+i<b.size)(h2:i<(b.extract k b.size).size):(((b.extract k b.size)[i]).toNat:Int)=((Pk.lW b (k+i):Nat):Int):=by
 unfold Pk.lW;have e:(b.extract k b.size)[i]=b[k+i]:=ByteArray.getElem_extract ..;have a:k+i<b.data.size:=h;rw[e,nF,lr a];rfl
theorem amk(x y:Nat)(d:x<16777216)(b:y<256):bits BinOp.or IntKind.u32 ((x:Int)*256 % 4294967296) ((y:Int) % 4294967296)=((x*256+y:Nat):Int):=by
 have c:(x:Int)*256 % 4294967296=((x*256:Nat):Int):=by omega
 have a:(y:Int) % 4294967296=((y:Nat):Int):=by omega
 rw[c,a,u32_or_nat _ _ (by omega) (by omega),nat_join 8 (x*256) y (by omega) b]
theorem FP{r:Pk.Rd}(h:fT w rb b r)(u:n<=4):χ prog 96 #[π (ο ⟨rb,0,ν⟩),ι ξ (n:Int)] w fun e w'=>e=δ (ι .u32 ((Pk.num b n r).1:Int))/\jw w rb b w' (Pk.num b n r).2:=by
 obtain⟨s,a⟩:=aC (b.extract r.k b.size);have hsz:s.size=b.size-r.k:=by rw[a];simp
 have A:w.cell? ⟨rb,0,ν⟩=ο (τ s):=by rw[a];exact h.blk.cell 0
 have B:=h.blk.a1;have x:=h.blk.frozen 0;have f1:=h.blk.frozen 1;have g:Hid _:=h.fail
 by_cases hlt:s.size<n
 ·have c:Pk.num b n r=(0,r.fail):=by unfold Pk.num;rw[du (by omega)]
  rw[c];have l:(s.size:Int)<(n:Int):=by omega
  clear hsz a c;go_enter func96,ntmps96;go_wp2_with fail;go_ret;exact⟨rfl,g.out⟩
 ·have c:Pk.num b n r=(Pk.Cg b r.k n,{ r with k:=r.k+n }):=by unfold Pk.num;rw[dt (by omega)]
  rw[c];have l:¬(s.size:Int)<(n:Int):=by omega
  have m:Hid (∀i(f:i<s.size),((s[i]).toNat:Int)=((Pk.lW b (r.k+i):Nat):Int)):=by subst a;exact fun i f=>ext_get b r.k i (by omega) f
  have p:Hid (jw w rb b (w.setCell ⟨rb,0,ν⟩ (τ (s.extract n s.size))) { r with k:=r.k+n }):=by
   subst a;have o:=h.le;refine⟨⟨?_,by show r.k+n<=b.size;omega⟩,iO _ _ _ _,by simp⟩;rw[abx];exact h.blk.set 0 _
  clear hsz a c g;go_enter func96,ntmps96;go_wp2_with fail
  go_loop [5,18] (fun v i=>∃j:Nat,j<=n/\i=ι ξ (j:Int)/\v=ι .u32 ((Pk.Cg b r.k j:Nat):Int)) (fun _ i=>n - (intOf i).toNat)
  case atStart=>exact⟨0,by omega,rfl,rfl⟩
  case round=>
   obtain⟨j,y,rfl,rfl⟩:=hrel
   by_cases hjn:j<n
   ·have d:j<s.size:=by omega
    have q:(j:Int)<(n:Int):=by omega
    have t:=m.out j d;go_wp2_with fail;refine⟨⟨j+1,by omega,by go_num,?_⟩,by simp[intOf];omega⟩;rw[Pk.Cg,amk _ _ (dg (Pk.SH b r.k j) (tB (by decide) (show j<=3 by omega))) (Pk.JF b _)]
   ·obtain rfl:j=n:=by omega
    have z:(0:Int)<=(j:Int):=by omega
    go_wp2_with fail;go_ret;exact⟨rfl,p.out⟩
theorem FI{r:Pk.Rd}(h:fT w rb b r)(c:n<=4):χ prog 95 #[π (ο ⟨rb,0,ν⟩),ι ξ (m:Int),ι ξ (n:Int)] w fun e w'=>e=δ (ι ξ ((Pk.below b m n r).1:Int))/\jw w rb b w' (Pk.below b m n r).2:=by
 have a:=FP h c;have i:(Pk.num b n r).1<4294967296:=dg (Pk.Gc b n r) (by have:256 ^ n<=256 ^ 4:=tB (by decide) c;exact this);have f:Hid (∀w',jw w rb b w' (Pk.num b n r).2->jw w rb b (w'.setCell ⟨rb,1,ν⟩ (μ η)) (Pk.num b n r).2.fail/\w'.cell? ⟨rb,1,ν⟩=ο (μ (Pk.num b n r).2.bad)/\w'.frozen? ⟨rb,1,ν⟩=ε):=fun w' T=>⟨⟨T.m.fail.m,aI T.g T.m.fail.g,T.m.fail.bL.trans T.bL⟩,T.m.blk.cell 1,T.m.blk.frozen 1⟩
 unfold Pk.below;generalize Pk.num b n r=x at *
 by_cases hm:m<=x.1
 ·rw[du hm]
  have d:(m:Int)<=(x.1:Int):=by omega
  go_enter func95,ntmps95;go_upto_region 2 with (go_at_call 96;refine a.mono ?_;rintro e w1⟨rfl,T⟩)
  obtain⟨T2,j,f1⟩:=f.out _ T;go_wp2_with fail;go_ret;exact⟨rfl,T2⟩
 ·rw[dt hm]
  have d:(x.1:Int)<(m:Int):=by omega
  go_enter func95,ntmps95
  go_wp2_with (go_at_call 96;refine a.mono ?_;rintro e w1⟨rfl,T⟩)
  go_ret;exact⟨rfl,T⟩
theorem NH{r:Pk.Rd}(h:fT w rb b r)(a:0<m)(d:m<=100000):χ prog 93 #[π (ο ⟨rb,0,ν⟩),ι ξ (m:Int)] w fun e w'=>e=δ (ι ξ ((Pk.size b m r).1:Int))/\jw w rb b w' (Pk.size b m r).2:=by
 have c:=FI (m:=m) h (show 2<=4 by decide);have f:=Pk.FN (b:=b) (n:=2) (r:=r) a;unfold Pk.size;generalize Pk.below b m 2 r=x at *;go_enter func93,ntmps93
 go_wp2_with (go_at_call 95;refine c.mono ?_;rintro e w1⟨rfl,T⟩)
 go_ret;exact⟨DI (by omega),T⟩
namespace Pk
def emp:ByteArray:=ByteArray.empty
def words(b:ByteArray):Nat->Rd->List ByteArray×Rd
 |0,r=>([],r)
 |n+1,r=>if b.size - (num b 1 r).2.k<(num b 1 r).1 then (ψ (n+1) emp,(num b 1 r).2.fail) else
  (b.extract (num b 1 r).2.k ((num b 1 r).2.k+(num b 1 r).1)::(words b n { (num b 1 r).2 with k:=(num b 1 r).2.k+(num b 1 r).1 }).1,(words b n { (num b 1 r).2 with k:=(num b 1 r).2.k+(num b 1 r).1 }).2)
theorem Jk(b:ByteArray):∀n r,(words b n r).1.length=n
 |0,_=>rfl
 |n+1,r=>by
  rw[words]
  split
  ·simp
  ·simp[Jk b n]
end Pk
def lT(l:List ByteArray):Array υ:=(l.map τ).toArray
theorem ajD(l:List ByteArray)(i:Nat)(s:ByteArray):(lT l).setIfInBounds i (τ s)=lT (l.set i s):=by
 unfold lT;rw[j8,oR]
theorem ajE(l:List ByteArray){s:ByteArray}(h:l[i]?=ο s):(lT l)[i]?=ο (τ s):=by
 unfold lT;simp[h]
theorem Tryz.aml:(prog.info? 9).map (fun i=>(i.zero,i.size,i.bytes))=ο (ο (.string Pk.emp),1,16):=by kernel_rfl
theorem ais(n:Nat):madeCells #[τ Pk.emp] (n*1)=lT (ψ n Pk.emp):=by
 unfold madeCells lT;apply rK
 ·simp
 ·intro i h1 h2
  simp[Nat.mod_one]
theorem ait(g:n<=100000)(w:ω):(Instr.makeSlice 45 (ι ξ (n:Int)) (ι ξ (n:Int))).run prog w=.ok (ς (ο ⟨w.heap.size,0,ν⟩) n n) (w.alloc (ζ (lT (ψ n Pk.emp)) 9)):=by
 obtain⟨d,f,b,c,a⟩:=ft Tryz.aml;have h:=qh (P:=prog) w 45 9 d _ (by kernel_rfl) f b ξ ξ (n:Int) (n:Int) (by omega) (oX _) (by rw[a];omega) (by omega);rw[h,ij,c];have e:Value.cells (τ Pk.emp)=#[τ Pk.emp]:=rfl;rw[e,ais]
theorem amm(b:ByteArray)(k n:Nat)(a:k<=b.size)(h:n<=b.size-k):(b.extract k b.size).extract 0 n=b.extract k (k+n):=by
 rw[AN];congr 1;omega
theorem aY(W:ω){g:Nat}(u:υ)(h:k≠g):(W.setCell ⟨g,i,ν⟩ u).heap[k]?=W.heap[k]?:=zS0 h
theorem aac{r:Pk.Rd}(h:fT w rb b r)(J:n<=1000):χ prog 94 #[π (ο ⟨rb,0,ν⟩),ι ξ (n:Int)] w fun e w'=>e=δ (ς (ο ⟨w.heap.size,0,ν⟩) n n)/\aj w' w.heap.size (lT (Pk.words b n r).1) 9/\fT w' rb b (Pk.words b n r).2/\w.grownBy w' (ο rb):=by
 have G:=fun w=>ait (n:=n) (by omega) w
 have F:=h.blk.lt;obtain⟨g,R⟩:=aF w.heap.size;obtain⟨w1,t⟩:=aC (w.alloc (ζ (lT (ψ n Pk.emp)) 9));have z:Hid (fT w1 rb b r/\aj w1 w.heap.size (lT (ψ n Pk.emp)) 9/\w.grownBy w1 (ο rb)):=by
  rw[t];exact⟨h.move (ed _ _ _ F),aj.new ..,aM ..⟩
 clear h;rw[R]at z|-;go_enter func94,ntmps94;go_wp2_with fail;rw[<-t];clear t G
 go_loopw [12] (fun i wr=>∃(j:Nat)(v:Pk.Rd)(l:List ByteArray),i=ι ξ (j:Int)/\Hid (j<=n/\l.length=j/\fT wr rb b v/\aj wr g (lT (l++ψ (n-j) Pk.emp)) 9/\w.grownBy wr (ο rb)/\Pk.words b n r=(l++(Pk.words b (n-j) v).1,(Pk.words b (n-j) v).2))) (fun i _=>n - (intOf i).toNat)
 case atStart=>exact⟨0,r,[],rfl,by omega,rfl,z.out.1,z.out.2.1,z.out.2.2,rfl⟩
 case round=>
  clear z;obtain⟨j,v,l,rfl,L⟩:=hrel;obtain⟨hj,D,a,o,d,f⟩:=L.out;clear L
  by_cases hjn:j<n
  ·have j1:(j:Int)<(n:Int):=by omega
   have j0:(0:Int)<=(j:Int):=by omega
   have E:=FP a (show 1<=4 by decide);have N:=Pk.Gc b 1 v;obtain⟨m,K⟩:∃m,n-j=m+1:=⟨n-j-1,by omega⟩;rw[K,Pk.words]at f;obtain⟨x,A⟩:=aF (Pk.num b 1 v);rw[A]at E N f;have p:rb≠g:=by omega
   have H:Hid (∀w2,jw wr rb b w2 x.2->fT w2 rb b x.2/\aj w2 g (lT (l++ψ (m+1) Pk.emp)) 9/\w.grownBy w2 (ο rb)):=fun w2 T=>⟨T.m,by rw[<-K];exact o.grown T.g (by simp;omega),aI d T.g⟩
   clear A a o d;go_upto_region 6 with (go_at_call 96;refine E.mono ?_;rintro e w2⟨rfl,T⟩)
   obtain⟨a,o,d⟩:=H.out _ T;clear H E T;obtain⟨s,y⟩:=aC (b.extract x.2.k b.size);have hsz:s.size=b.size-x.2.k:=by rw[y];simp
   have c0:w2.cell? ⟨rb,0,ν⟩=ο (τ s):=by rw[y];exact a.blk.cell 0
   have c1:=a.blk.a1;have f0:=a.blk.frozen 0;have f1:=a.blk.frozen 1
   by_cases hlt:s.size<x.1
   ·rw[du (by omega)]at f
    have O:(s.size:Int)<(x.1:Int):=by omega
    have Z:Hid (aj (w2.setCell ⟨rb,1,ν⟩ (μ η)) g (lT (Pk.words b n r).1) 9/\fT (w2.setCell ⟨rb,1,ν⟩ (μ η)) rb b (Pk.words b n r).2/\w.grownBy (w2.setCell ⟨rb,1,ν⟩ (μ η)) (ο rb)):=by
     rw[f];exact⟨o.other p _,a.fail.m,aI d a.fail.g⟩
    clear o a d hsz y f;go_wp2_with fail;go_ret;exact⟨rfl,Z.out⟩
   ·rw[dt (by omega)]at f
    have O:(x.1:Int)<=(s.size:Int):=by omega
    have U:=(o.cell j).trans (ajE _ (by rw[eQ (by omega),D,io];rfl));have fj:=o.frozen j;have V:Hid (∀c,φ w2.heap.size w2 c->c.cell? ⟨rb,0,ν⟩=ο (τ s)/\c.frozen? ⟨rb,0,ν⟩=ε/\c.cell? ⟨g,j,ν⟩=ο (τ Pk.emp)/\c.frozen? ⟨g,j,ν⟩=ε/\fT ((c.setCell ⟨g,j,ν⟩ (τ (s.extract 0 x.1))).setCell ⟨rb,0,ν⟩ (τ (s.extract x.1 s.size))) rb b { x.2 with k:=x.2.k+x.1 }/\aj ((c.setCell ⟨g,j,ν⟩ (τ (s.extract 0 x.1))).setCell ⟨rb,0,ν⟩ (τ (s.extract x.1 s.size))) g (lT (l++[b.extract x.2.k (x.2.k+x.1)]++ψ m Pk.emp)) 9/\w.grownBy ((c.setCell ⟨g,j,ν⟩ (τ (s.extract 0 x.1))).setCell ⟨rb,0,ν⟩ (τ (s.extract x.1 s.size))) (ο rb)):=fun c q=>by
     have C:=a.move (q.block _ a.blk.lt);have u:=o.on q;have B:=a.le;refine⟨by rw[y];exact C.blk.cell 0,C.blk.frozen 0,(u.cell j).trans ((o.cell j).symm.trans U),u.frozen j,⟨?_,by show x.2.k+x.1<=b.size;omega⟩,?_,?_⟩
     ·subst y
      have:=(C.blk.other (b':=g) (i:=j) (fun e=>p e.symm) (τ ((b.extract x.2.k b.size).extract 0 x.1))).set 0 (τ ((b.extract x.2.k b.size).extract x.1 (b.extract x.2.k b.size).size));rw[abx]at this|-;exact this
     ·have:=(u.set j (τ (s.extract 0 x.1))).other (b':=rb) (i:=0) p (τ (s.extract x.1 s.size))
      rw[ajD,nn _ _ (by omega),D,io,oi,n7]at this;rw[dy,th,<-amm b x.2.k x.1 B (by omega),<-y];exact this
     ·refine aI (b:=c.setCell ⟨g,j,ν⟩ (τ (s.extract 0 x.1))) ⟨q.1.trans d.1,q.2.trans d.2,q.3.trans d.3,?_,fun k B J=>?_⟩ (iO _ _ _ _)
      ·simp only[World.size_setCell]
       exact cY d.size q.size
      ·rw[aY _ _ (by omega),q.block k (dg B d.size)]
       exact d.block k B J
    have Y:Hid (Pk.words b n r=(l++[b.extract x.2.k (x.2.k+x.1)]++(Pk.words b m { x.2 with k:=x.2.k+x.1 }).1,(Pk.words b m { x.2 with k:=x.2.k+x.1 }).2)):=by
     rw[f,dy];rfl
    clear a o d y hsz f;have n0:(0:Int)<=(x.1:Int):=by omega
    go_upto_region 10 with (go_at_call 139;refine(Nq _ _ (by simp;omega)).mono ?_;rintro e c⟨rfl,q⟩;obtain⟨P,I,k3,k4,M,X,S⟩:=V.out _ q)
    have W:(c.setCell ⟨g,j,ν⟩ (τ (s.extract 0 x.1))).cell? ⟨rb,0,ν⟩=ο (τ s):=(cQ (w:=c) (aY _ _ p)).trans P;have Q:(c.setCell ⟨g,j,ν⟩ (τ (s.extract 0 x.1))).frozen? ⟨rb,0,ν⟩=ε:=by
     unfold World.frozen? at I|-;rw[aY _ _ p];exact I
    go_wp2_with fail;refine⟨⟨j+1,_,l++[b.extract x.2.k (x.2.k+x.1)],by go_num,by omega,by simp[D],M,?_,S,?_⟩,by simp[intOf];omega⟩
    ·rw[show n - (j+1)=m by omega]
     exact X
    ·rw[show n - (j+1)=m by omega]
     exact Y.out
  ·obtain rfl:j=n:=by omega
   rw[io,Pk.words]at f;rw[io,tU,<-show (Pk.words b j r).1=l++[] by rw[f]]at o;rw[<-show (Pk.words b j r).2=v by rw[f]]at a;clear f;go_wp2_with fail;go_ret;exact⟨rfl,o,a,d⟩
namespace Pk
structure T where
 aD:List Nat
 ak:List (Nat×Nat×Nat)
 toks:List ByteArray
 aT:List ByteArray
 prods:List (Nat×Nat)
 aH:List Nat
def within(i:Int)(n:Nat):Bool:=decide (0<=i) && decide (i<(n:Int))
def least:Nat->Nat
 |1=>1
 |2=>1
 |_=>0
def bound(nS nP:Nat):Nat->Nat
 |1=>nS
 |2=>nP
 |3=>1
 |4=>1
 |_=>0
def Al(p:T)(d t:Nat)(s:Int):Bool:=decide (d<5) && decide (least d<=t) && decide (t<bound p.aD.length p.prods.length d) && (within s p.toks.length || (within (s - (p.toks.length:Int)) p.aT.length && decide (d=1)))
end Pk
structure cu where
 vB:υ
 vP:υ
 vT:υ
 vN:υ
 vR:υ
 vD:υ
def cu.cells(v:cu):Array υ:=#[v.vB,v.vP,v.vT,v.vN,v.vR,v.vD]
def bA(n:Nat):υ:=ι ξ (n:Int)
def cZ(x:Nat×Nat×Nat):List υ:=[ι ξ (x.1:Int),ι ξ (x.2.1:Int),ι ξ (x.2.2:Int)]
def fI(x:Nat×Nat):List υ:=[ι ξ (x.1:Int),ι ξ (x.2:Int)]
structure aQ(W:ω)(B pb:Nat)(v:cu)(p:Pk.T):Prop where
 blk:aj W pb v.cells 134
 rB:W.ownsRow B 3 1 v.vB p.aD.length (p.aD.map bA)
 rP:W.ownsRow B 233 3 v.vP p.ak.length (p.ak.flatMap cZ)
 rT:∃g,v.vT=ς (ο ⟨g,0,ν⟩) p.toks.length p.toks.length/\aj W g (lT p.toks) 9
 rN:∃g,v.vN=ς (ο ⟨g,0,ν⟩) p.aT.length p.aT.length/\aj W g (lT p.aT) 9
 rR:W.ownsRow B 138 2 v.vR p.prods.length (p.prods.flatMap fI)
 rD:W.ownsRow B 3 1 v.vD p.aH.length (p.aH.map bA)
 ne:∀g,v.vB.ownBlock=ο g->v.vD.ownBlock≠ο g
 lo:∀g,v.vT.ownBlock=ο g\/v.vN.ownBlock=ο g->B<=g
def cu.own(v:cu)(pb k:Nat):Prop:=k=pb\/v.vB.ownBlock=ο k\/v.vP.ownBlock=ο k\/v.vT.ownBlock=ο k\/v.vN.ownBlock=ο k\/v.vR.ownBlock=ο k\/v.vD.ownBlock=ο k
theorem aQ.move{v:cu}{p:Pk.T}(h:aQ W B pb v p)(a:∀k,v.own pb k->W'.heap[k]?=W.heap[k]?):aQ W' B pb v p where
 blk:=(a _ (.inl rfl)).trans h.blk
 rB:=ay h.rB fun g b=>a g (.inr (.inl b))
 rP:=ay h.rP fun g b=>a g (.inr (.inr (.inl b)))
 rT:=by
  obtain⟨g,h1,h2⟩:=h.rT;exact⟨g,h1,(a g (.inr (.inr (.inr (.inl (by rw[h1];rfl)))))).trans h2⟩
 rN:=by
  obtain⟨g,h1,h2⟩:=h.rN;exact⟨g,h1,(a g (.inr (.inr (.inr (.inr (.inl (by rw[h1];rfl))))))).trans h2⟩
 rR:=ay h.rR fun g b=>a g (.inr (.inr (.inr (.inr (.inr (.inl b))))))
 rD:=ay h.rD fun g b=>a g (.inr (.inr (.inr (.inr (.inr (.inr b))))))
 ne:=h.ne
 lo:=h.lo
theorem aQ.lt{W:ω}{B pb:Nat}{v:cu}{p:Pk.T}(h:aQ W B pb v p){k:Nat}(a:v.own pb k):k<W.heap.size:=by
 rcases a with rfl|a|a|a|a|a|a
 ·exact h.blk.lt
 ·exact(h.rB.lt k a).2
 ·exact(h.rP.lt k a).2
 ·obtain⟨g,h1,h2⟩:=h.rT
  rw[h1]at a;cases a;exact h2.lt
 ·obtain⟨g,h1,h2⟩:=h.rN
  rw[h1]at a;cases a;exact h2.lt
 ·exact(h.rR.lt k a).2
 ·exact(h.rD.lt k a).2
theorem aQ.cell{W:ω}{B pb:Nat}{v:cu}{p:Pk.T}(h:aQ W B pb v p):(∃a c,W.cell? ⟨pb,0,ν⟩=ο (ς a p.aD.length c))/\(∃a c,W.cell? ⟨pb,1,ν⟩=ο (ς a p.ak.length c))/\(∃a c,W.cell? ⟨pb,2,ν⟩=ο (ς a p.toks.length c))/\(∃a c,W.cell? ⟨pb,3,ν⟩=ο (ς a p.aT.length c))/\(∃a c,W.cell? ⟨pb,4,ν⟩=ο (ς a p.prods.length c))/\(∃a c,W.cell? ⟨pb,5,ν⟩=ο (ς a p.aH.length c)):=by
 obtain⟨a0,l,b,-⟩:=aB h.rB;obtain⟨a1,n,g,-⟩:=aB h.rP;obtain⟨g2,m,-⟩:=h.rT;obtain⟨o,i,-⟩:=h.rN;obtain⟨a4,k,j,-⟩:=aB h.rR;obtain⟨a5,f,d,-⟩:=aB h.rD;exact⟨⟨a0,l,by rw[<-b];exact h.blk.cell 0⟩,⟨a1,n,by rw[<-g];exact h.blk.cell 1⟩,⟨_,_,by rw[<-m];exact h.blk.cell 2⟩,⟨_,_,by rw[<-i];exact h.blk.cell 3⟩,⟨a4,k,by rw[<-j];exact h.blk.cell 4⟩,⟨a5,f,by rw[<-d];exact h.blk.cell 5⟩⟩
theorem Ab(i:Int)(n:Nat):χ prog 99 #[ι ξ i,ι ξ (n:Int)] w fun e w'=>e=δ (μ (Pk.within i n))/\w'=w:=by
 unfold Pk.within
 by_cases h:0<=i
 ·have a:=ge h
  by_cases h2:i<(n:Int)
  ·have b:=ge h2
   rw[a,b];go_enter func99,ntmps99;go_wp2_with fail;go_ret;exact⟨rfl,rfl⟩
  ·have b:=fx h2
   rw[a,b];go_enter func99,ntmps99;go_wp2_with fail;go_ret;exact⟨rfl,rfl⟩
 ·have a:=fx h
  rw[a];go_enter func99,ntmps99;go_wp2_with fail;go_ret;exact⟨rfl,rfl⟩
theorem agu{d:Nat}{v:cu}{p:Pk.T}(h:aQ w B pb v p)(s:Int)(hs:-1000000000<=s/\s<=1000000000)(hp:p.toks.length<=100000):χ prog 155 #[π (ο ⟨pb,0,ν⟩),γ #[ι ξ (d:Int),ι ξ (t:Int)],ι ξ s] w fun e w'=>e=δ (μ (Pk.Al p d t s))/\φ w.heap.size w w':=by
 obtain⟨w2,f⟩:=aC ((w.alloc (ζ #[ι ξ (d:Int),ι ξ (t:Int)] 118)).alloc (ζ #[ι ξ 0,ι ξ 1,ι ξ 1,ι ξ 0,ι ξ 0] 320));have l:φ w.heap.size w w2:=by rw[f];exact((cV _ _).alloc (zL0) _).alloc (by simp) _
 have x:w2.heap.size=w.heap.size+2:=by rw[f];simp
 have kA:aj w2 w.heap.size #[ι ξ (d:Int),ι ξ (t:Int)] 118:=by rw[f];exact(aj.new ..).alloc _
 have kL:aj w2 (w.heap.size+1) #[ι ξ 0,ι ξ 1,ι ξ 1,ι ξ 0,ι ξ 0] 320:=by
  rw[f];have:=aj.new (w.alloc (ζ #[ι ξ (d:Int),ι ξ (t:Int)] 118)) #[ι ξ 0,ι ξ 1,ι ξ 1,ι ξ 0,ι ξ 0] 320
  rwa [eC]at this
 have h2:=h.move fun k S=>l.block k (h.lt S)
 obtain⟨⟨a0,U,P⟩,-,⟨a2,k2,L⟩,⟨a3,k3,N⟩,⟨a4,Z,K⟩,-⟩:=h2.cell;have A:=h2.blk.lt;obtain⟨z,u⟩:=aF w.heap.size;rw[u]at kA kL l x;have W:=kA.lt;have Y:=kL.lt;have V:∀o,(w2.alloc o).cell? ⟨pb,0,ν⟩=ο (ς a0 p.aD.length U):=fun o=>(cQ (w:=w2) (ed _ _ _ A)).trans P
 have X:∀o,(w2.alloc o).cell? ⟨pb,4,ν⟩=ο (ς a4 p.prods.length Z):=fun o=>(cQ (w:=w2) (ed _ _ _ A)).trans K
 have F:Hid (∀o,φ z w (w2.alloc o).drew):=fun o=>by
  have:=l.alloc (B:=z) (by omega) o;exact⟨this.1,this.2,this.3,this.4,this.5⟩
 go_enter func155,ntmps155;go_upto_region 2 with fail
 rw[<-f];clear f h h2 l;have j:aj (w2.alloc (ζ #[ι ξ 0,ι ξ (p.aD.length:Int),ι ξ (p.prods.length:Int),ι ξ 1,ι ξ 1] 320)).drew (z+2) #[ι ξ 0,ι ξ (p.aD.length:Int),ι ξ (p.prods.length:Int),ι ξ 1,ι ξ 1] 320:=by
  rw[<-x];exact(aj.new ..).drew
 have i:=(kA.alloc (ζ #[ι ξ 0,ι ξ (p.aD.length:Int),ι ξ (p.prods.length:Int),ι ξ 1,ι ξ 1] 320)).drew;have C:=(kL.alloc (ζ #[ι ξ 0,ι ξ (p.aD.length:Int),ι ξ (p.prods.length:Int),ι ξ 1,ι ξ 1] 320)).drew;have a:=F.out (ζ #[ι ξ 0,ι ξ (p.aD.length:Int),ι ξ (p.prods.length:Int),ι ξ 1,ι ξ 1] 320);have d2:(w2.alloc (ζ #[ι ξ 0,ι ξ (p.aD.length:Int),ι ξ (p.prods.length:Int),ι ξ 1,ι ξ 1] 320)).drew.cell? ⟨pb,2,ν⟩=_:=(cQ (w:=w2) (ed _ _ _ A)).trans L;have Q:(w2.alloc (ζ #[ι ξ 0,ι ξ (p.aD.length:Int),ι ξ (p.prods.length:Int),ι ξ 1,ι ξ 1] 320)).drew.cell? ⟨pb,3,ν⟩=_:=(cQ (w:=w2) (ed _ _ _ A)).trans N
 go_region
 clear F V X P L N K kA kL W Y A x;generalize (w2.alloc (ζ #[ι ξ 0,ι ξ (p.aD.length:Int),ι ξ (p.prods.length:Int),ι ξ 1,ι ξ 1] 320)).drew=w3 at j i C a d2 Q|-;have y0:=i.a0;have y1:=i.a1;have G:=fun w=>Ab (w:=w) (s - (p.toks.length:Int)) p.aT.length
 have y:=fun w=>Ab (w:=w) s p.toks.length
 have c:Hid (∀n:Nat,φ w.heap.size w (w3.drewN n)):=fun _=>by rw[u];exact⟨a.1,a.2,a.3,a.4,a.5⟩
 have F:Hid (∀n m:Nat,φ w.heap.size w ((w3.drewN n).drewN m)):=fun _ _=>by rw[u];exact⟨a.1,a.2,a.3,a.4,a.5⟩
 have j0:(0:Int)<=(d:Int):=by omega
 have b:Pk.Al p d t s=(decide (d<5) && decide (Pk.least d<=t) && decide (t<Pk.bound p.aD.length p.prods.length d) && (Pk.within s p.toks.length || (Pk.within (s - (p.toks.length:Int)) p.aT.length && decide (d=1)))):=rfl
 by_cases h5:d<5
 ·have H:decide ((5:Int)<=(d:Int))=ε:=fx (by omega)
  have R:(d:Int)<5:=by omega
  have O:w3.cell? ⟨z+1,d,ν⟩=ο (ι ξ (Pk.least d:Int)):=by
   rw[C.cell];obtain rfl|rfl|rfl|rfl|rfl:d=0\/d=1\/d=2\/d=3\/d=4:=by omega
   all_goals rfl
  have J:w3.cell? ⟨z+2,d,ν⟩=ο (ι ξ (Pk.bound p.aD.length p.prods.length d:Int)):=by
   rw[j.cell];obtain rfl|rfl|rfl|rfl|rfl:d=0\/d=1\/d=2\/d=3\/d=4:=by omega
   all_goals rfl
  rw[ge h5]at b;generalize Pk.least d=lo at O b;generalize Pk.bound p.aD.length p.prods.length d=hi at J b;clear i C j a
  by_cases hlo:lo<=t
  ·have I:decide ((t:Int)<(lo:Int))=ε:=fx (by omega)
   rw[ge hlo]at b
   by_cases hhi:t<hi
   ·have M:decide ((hi:Int)<=(t:Int))=ε:=fx (by omega)
    rw[ge hhi]at b;obtain⟨u1,q⟩:=aF (Pk.within s p.toks.length);obtain⟨u2,r⟩:=aF (Pk.within (s - (p.toks.length:Int)) p.aT.length);rw[q,r]at b;simp only[q]at y;simp only[r]at G;clear q r;go_upto_region 3 with fail
    go_quiet (fail)
    go_upto_region 5 with fail
    clear O J H I M hlo hhi;refine(pn (n:=9)).1 ?_;refine kV 12 (by kernel_rfl) (by kernel_rfl) (by kernel_rfl) ?_
    dsimp only[List.take,List.drop,List.length]
    repeat (gi_big_quiet_step (fail))
    refine wpQuietIn_nil ?_;rintro _⟨Ll,rfl⟩;refine wpAnyIn_ready (rs:=[12]) (by kernel_rfl) (by simp) (AllReadyIn.cons rfl (fun E g=>?_) AllReadyIn.nil)
    go_simp
    refine⟨trivial,(gh.2 (G _)).mono ?_⟩;rintro e w5⟨rfl,rfl⟩;refine g _ _ ?_;clear g E;refine wpAnyIn_ready (rs:=[13]) (by kernel_rfl) (by simp) (AllReadyIn.cons rfl (fun E g=>?_) AllReadyIn.nil)
    go_simp
    refine g _ _ (wpAnyIn_done (by kernel_rfl) ?_ _);clear g E;clear G;cases u1
    ·cases u2
     ·go_wp2_with (go_at_call 99;refine(y _).mono ?_;rintro e D⟨rfl,rfl⟩)
      go_ret;exact⟨iI b.symm,c.out _⟩
     ·by_cases hd1:d=1
      ·have b8:((d:Int) == 1)=η:=by rw[hd1];rfl
       rw[ge hd1]at b;clear hd1
       go_wp2_with (go_at_call 99;refine(y _).mono ?_;rintro e D⟨rfl,rfl⟩)
       go_ret;exact⟨iI b.symm,c.out _⟩
      ·have b8:((d:Int) == 1)=ε:=zB0 (by omega)
       rw[fx hd1]at b
       go_wp2_with (go_at_call 99;refine(y _).mono ?_;rintro e D⟨rfl,rfl⟩)
       go_ret;exact⟨iI b.symm,c.out _⟩
    ·go_wp2_with (go_at_call 99;refine(y _).mono ?_;rintro e D⟨rfl,rfl⟩)
     go_ret;exact⟨iI b.symm,c.out _⟩
   ·have M:decide ((hi:Int)<=(t:Int))=η:=ge (by omega)
    rw[fx hhi]at b;go_upto_region 3 with fail
    go_quiet (fail)
    go_wp2_with fail;go_ret;exact⟨iI b.symm,c.out _⟩
  ·have I:decide ((t:Int)<(lo:Int))=η:=ge (by omega)
   rw[fx hlo]at b;go_upto_region 3 with fail
   go_quiet (fail)
   go_wp2_with fail;go_ret;exact⟨iI b.symm,c.out _⟩
 ·have H:decide ((5:Int)<=(d:Int))=η:=ge (by omega)
  rw[fx h5]at b;clear i C j a;go_upto_region 3 with fail
  go_quiet (fail)
  go_wp2_with fail;go_ret;exact⟨iI b.symm,c.out _⟩
theorem YN(w:ω)(base:Nat)(t tn ty e:TypeId)(i:TypeInfo)(z:υ)(size bytes:Nat)(O R:IntKind)(E:P.underlying t=ο (.slice e))(l:P.underlying tn=ο (.int R))(K:P.info? e=ο i)(U:i.zero=ο z)
  (s:i.size=size) (T:i.bytes=bytes) (L:z.cells.size=size) (hsz:0<size) (v:υ) (n:Nat) (r:List υ) (b:w.ownsRow base e size v n r)
  (m:Nat) (h1:∀u∈(Builtin.zeroCells z.cells m).toList,u.oneCell'=η) (G:n+m<=maxLen) (q:(n+m)*bytes<=140737488355328) (y:base<=w.heap.size) :
  ∃v' w',(Builtin.append_ #[t,tn] ty #[v,ι O (m:Int)]).run P w=.ok v' w'/\w'.ownsRow base e size v' (n+m) (r++(Builtin.zeroCells z.cells m).toList)/\w.grownBy w' v.ownBlock/\(v'.ownBlock=v.ownBlock\/v'.ownBlock=ο w.heap.size):=by
 subst s;subst T;have N:n+m<=9223372036854775807:=by simp only[maxLen]at G;omega
 have H:m*i.bytes<=281474976710656:=by
  have:m*i.bytes<=(n+m)*i.bytes:=kj _ (by omega);omega
 obtain⟨a,B⟩:=aC ((Builtin.zeroCells z.cells m).toList);have J:a.length=m*i.size:=by rw[B,jx,ub,L]
 have ha:Builtin.zeroCells z.cells m=a.toArray:=by rw[B]
 rw[<-B]at h1|-;have f:(r++a).length=(n+m)*i.size:=by rw[cJ,b.1,J,tD]
 have grown:∀(d:Nat),d<n+m->∀(row:Option Nat),
   (w.drew.alloc (ζ (r.toArray++a.toArray++Builtin.zeroCells z.cells (grownCap w (n+m) d e - (n+m))) e)).ownsRow base e i.size
    (ς (ο ⟨w.heap.size,0,ν⟩) (n+m) (grownCap w (n+m) d e)) (n+m) (r++a) /\
   w.grownBy (w.drew.alloc (ζ (r.toArray++a.toArray++Builtin.zeroCells z.cells (grownCap w (n+m) d e - (n+m))) e)) row:=by
  intro d ho row;have Q:=grownCap_ge w (n+m) d e;have x:=yq w (n+m) d e G;refine⟨⟨f,.inr ⟨w.heap.size,_,_,rfl,y,py w.drew _,Q,x,?_,?_⟩⟩,⟨rfl,rfl,rfl,by simp,fun k S _=>ed w.drew _ _ S⟩⟩
  ·simp only[Array.size_append,List.size_toArray,size_zeroCells,L,b.1,J,<-Nat.add_mul]
   congr 1;omega
  ·simp only[Array.toList_append,List.append_assoc]
   rw[<-dy,<-f];exact AG
 rcases b.2 with ⟨rfl,rfl⟩|⟨g,c,o,rfl,W,hg,X,x,Y,D⟩
 ·have hx:=ir (by simpa using b.1)
  subst hx
  by_cases hm:m=0
  ·subst hm
   have Z:=ir (by simpa using J);subst Z;refine⟨.slice ν 0 0,w,?_,eV w base e i.size,⟨rfl,rfl,rfl,zL0,fun _ _ _=>rfl⟩,rg rfl⟩;simp[Builtin.append_,run_underlying E,run_underlying l,sizeOf,typeInfo,K,asInt,asIntOf,IntKind.wrap_i64]
  ·have C:=Lib.run_append_nil_zeros (P:=P) w t tn ty e i z O R E l K U m (by omega) hsz (by omega) H
   have j:=grown 0 (by omega) (Value.ownBlock (ς ν 0 0));simp only[Nat.zero_add,List.nil_append,Array.empty_append]at j|-;rw[ha]at C;exact⟨_,_,C,j.1,j.2,Or.inr rfl⟩
 ·by_cases hroom:n+m<=c
  ·have I:n*i.size+a.length<=o.size:=by rw[J,Y,<-tD];exact kj _ hroom
   have p:=run_storeCells_at P g (n*i.size) e a 0 o w hg (by simpa using I) h1;simp only[Nat.add_zero]at p;have hw:IntKind.i64.wrap (m:Int)=m:=by rw[gx];omega
   have M:¬((m:Int)<0):=by omega
   have F:¬(281474976710656<(m:Int)*(i.bytes:Int)):=by
    rw[<-Int.natCast_mul];omega
   have C:(Builtin.append_ #[t,tn] ty #[ς (ο ⟨g,0,ν⟩) n c,ι O (m:Int)]).run P w=.ok (ς (ο ⟨g,0,ν⟩) (n+m) c) (w.setRow g (o.toList.take (n*i.size)++a++o.toList.drop (n*i.size+a.length)).toArray):=by
    by_cases hm:m=0
    ·subst hm
     have Z:=ir (by simpa using J);subst Z;simp only[List.append_nil,List.length_nil,Nat.add_zero,List.take_append_drop]at p|-;simp[Builtin.append_,run_underlying E,run_underlying l,sizeOf,typeInfo,K,asInt,asIntOf,IntKind.wrap_i64,Addr.add_lit,p,X]
    ·have V:¬(m*i.size=0):=Nat.mul_ne_zero hm (by omega)
     simp[Builtin.append_,run_underlying E,run_underlying l,sizeOf,typeInfo,zeroValue,K,U,asInt,asIntOf,hw,M,V,F,hroom,Addr.add_lit,ha,p]
   refine⟨_,_,C,⟨f,.inr ⟨g,c,_,rfl,W,setRow_heap w g o _ e _ hg,hroom,x,?_,?_⟩⟩,⟨rfl,rfl,rfl,by simp,fun k _ S=>setRow_other w g k _ (fun e=>S (by simp[Value.ownBlock,e]))⟩,rg rfl⟩
   ·simp only[List.size_toArray,List.length_append,List.length_take,List.length_drop,Array.length_toList]
    omega
   ·rw[D,<-f]
    exact AG
  ·have A:=b.cells (g:=g) rfl
   have C:=Lib.run_append_grow_zeros (P:=P) w t tn ty e i z O R E l K U (ο ⟨g,0,ν⟩) n c r (run_firstCells_some (P:=P) w.drew i.size n _ n c r b.1 A) m (by omega) hsz (by omega) (by omega) H (growslice_fits (by omega) q);have j:=grown c (by omega) (Value.ownBlock (ς (ο ⟨g,0,ν⟩) n c));rw[ha]at C;exact⟨_,_,C,j.1,j.2,Or.inr rfl⟩
def Kd(W:ω)(k t:Nat):Prop:=∃cur:Array υ,W.heap[k]?=ο (ζ cur t)
theorem Kd.ne{l u:Nat}(h:Kd W k t)(c:Kd W l u)(a:t≠u):k≠l:=fun e=>by
 subst e;obtain⟨x,d⟩:=h;obtain⟨y,b⟩:=c;rw[d]at b;cases b;exact a rfl
theorem Kd.lt(h:Kd W k t):k<W.heap.size:=by
 obtain⟨x,a⟩:=h;exact(ei.1 a).1
theorem F3{b:List υ}(h:W.ownsRow B e 1 v n b){p:Nat}(hp:b[p]?=ο u):∃g cap,v=ς (ο ⟨g,0,ν⟩) n cap/\v.ownBlock=ο g/\W.cell? ⟨g,p,ν⟩=ο u:=by
 have d:=(cH.1 hp).1;rcases h.2 with ⟨rfl,f⟩|⟨g,cap,c,rfl,-⟩
 ·have:=h.1
  omega
 ·have a:(⟨g,0,ν⟩:Addr).add p=⟨g,p,ν⟩:=by unfold Addr.add;split <;> simp_all
  exact⟨g,cap,rfl,rfl,by rw[<-a];exact oj h (g:=g) rfl _ _ hp⟩
section
variable{w w':ω}{B pb:Nat}{v:cu}{p:Pk.T}
theorem aQ.kp(h:aQ w B pb v p):Kd w pb 134:=⟨_,h.blk⟩
theorem aQ.kB(h:aQ w B pb v p){g:Nat}(a:v.vB.ownBlock=ο g):Kd w g 3:=bJ h.rB a
theorem aQ.kP(h:aQ w B pb v p){g:Nat}(a:v.vP.ownBlock=ο g):Kd w g 233:=bJ h.rP a
theorem aQ.kR(h:aQ w B pb v p){g:Nat}(a:v.vR.ownBlock=ο g):Kd w g 138:=bJ h.rR a
theorem aQ.kD(h:aQ w B pb v p){g:Nat}(a:v.vD.ownBlock=ο g):Kd w g 3:=bJ h.rD a
theorem aQ.ty(h:aQ w B pb v p)(a:v.own pb k):∃t,Kd w k t/\(t=134\/t=3\/t=233\/t=9\/t=138):=by
 rcases a with rfl|a|a|a|a|a|a
 ·exact⟨134,h.kp,by simp⟩
 ·exact⟨3,h.kB a,by simp⟩
 ·exact⟨233,h.kP a,by simp⟩
 ·obtain⟨g,h1,h2⟩:=h.rT
  rw[h1]at a;cases a;exact⟨9,⟨_,h2⟩,by simp⟩
 ·obtain⟨g,h1,h2⟩:=h.rN
  rw[h1]at a;cases a;exact⟨9,⟨_,h2⟩,by simp⟩
 ·exact⟨138,h.kR a,by simp⟩
 ·exact⟨3,h.kD a,by simp⟩
theorem aQ.base(h:aQ w B pb v p)(hp:B<=pb)(a:v.own pb k):B<=k:=by
 rcases a with rfl|a|a|a|a|a|a
 ·exact hp
 ·exact(h.rB.lt k a).1
 ·exact(h.rP.lt k a).1
 ·exact h.lo k (.inl a)
 ·exact h.lo k (.inr a)
 ·exact(h.rR.lt k a).1
 ·exact(h.rD.lt k a).1
theorem aQ.EG(h:aQ w B pb v p){r:Pk.Rd}(a:fT w rb b r):¬v.own pb rb:=fun e=>by
 obtain⟨t,h1,h2⟩:=h.ty e;exact h1.ne ⟨_,a.blk⟩ (by omega) rfl
theorem aQ.read(h:aQ w B pb v p){r r':Pk.Rd}(c:fT w rb b r)(T:jw w rb b w' r'):aQ w' B pb v p:=h.move fun k a=>T.g.block k (h.lt a) fun e=>by
 cases e;exact h.EG c a
theorem aQ.aK(h:aQ w B pb v p)(d:∀g,u.ownBlock=ο g->Kd w g t)(c:w.grownBy w' u.ownBlock)(a:Kd w k s)(f:s≠t)(b:s≠134):(w'.setCell ⟨pb,i,ν⟩ x).heap[k]?=w.heap[k]?:=by
 rw[aY _ _ (a.ne h.kp b)];exact c.block k a.lt fun e=>a.ne (d k e.symm) f rfl
theorem aQ.set(h:aQ w B pb v p){u x:υ}{t i:Nat}(b:∀g,u.ownBlock=ο g->Kd w g t)(c:t≠134)(a:w.grownBy w' u.ownBlock):aj (w'.setCell ⟨pb,i,ν⟩ x) pb (v.cells.setIfInBounds i x) 134:=by
 refine aj.set ?_ i x;exact(a.block pb h.kp.lt fun e=>h.kp.ne (b pb e.symm) (yn c) rfl).trans h.blk
theorem aQ.Eg(h:aQ w B pb v p){l:List (Nat×Nat×Nat)}(a:w.grownBy w' v.vP.ownBlock)(b:w'.ownsRow B 233 3 x l.length (l.flatMap cZ)):aQ (w'.setCell ⟨pb,1,ν⟩ x) B pb { v with vP:=x } { p with ak:=l } where
 blk:=h.set (fun g e=>h.kP e) (by decide) a
 rB:=ay h.rB fun g e=>h.aK (fun g e=>h.kP e) a (h.kB e) (by decide) (by decide)
 rP:=ay b fun g e=>aY _ _ ((show Kd w' g 233 from bJ b e).ne (show Kd w' pb 134 from ⟨_,(a.block pb h.kp.lt fun e=>h.kp.ne (h.kP e.symm) (by decide) rfl).trans h.blk⟩) (by decide))
 rT:=by
  obtain⟨g,h1,h2⟩:=h.rT;exact⟨g,h1,(h.aK (fun g e=>h.kP e) a (show Kd w g 9 from ⟨_,h2⟩) (by decide) (by decide)).trans h2⟩
 rN:=by
  obtain⟨g,h1,h2⟩:=h.rN;exact⟨g,h1,(h.aK (fun g e=>h.kP e) a (show Kd w g 9 from ⟨_,h2⟩) (by decide) (by decide)).trans h2⟩
 rR:=ay h.rR fun g e=>h.aK (fun g e=>h.kP e) a (h.kR e) (by decide) (by decide)
 rD:=ay h.rD fun g e=>h.aK (fun g e=>h.kP e) a (h.kD e) (by decide) (by decide)
 ne:=h.ne
 lo:=h.lo
theorem aQ.anT(h:aQ w B pb v p){l:List (Nat×Nat)}(a:w.grownBy w' v.vR.ownBlock)(b:w'.ownsRow B 138 2 x l.length (l.flatMap fI)):aQ (w'.setCell ⟨pb,4,ν⟩ x) B pb { v with vR:=x } { p with prods:=l } where
 blk:=h.set (fun g e=>h.kR e) (by decide) a
 rB:=ay h.rB fun g e=>h.aK (fun g e=>h.kR e) a (h.kB e) (by decide) (by decide)
 rR:=ay b fun g e=>aY _ _ ((show Kd w' g 138 from bJ b e).ne (show Kd w' pb 134 from ⟨_,(a.block pb h.kp.lt fun e=>h.kp.ne (h.kR e.symm) (by decide) rfl).trans h.blk⟩) (by decide))
 rT:=by
  obtain⟨g,h1,h2⟩:=h.rT;exact⟨g,h1,(h.aK (fun g e=>h.kR e) a (show Kd w g 9 from ⟨_,h2⟩) (by decide) (by decide)).trans h2⟩
 rN:=by
  obtain⟨g,h1,h2⟩:=h.rN;exact⟨g,h1,(h.aK (fun g e=>h.kR e) a (show Kd w g 9 from ⟨_,h2⟩) (by decide) (by decide)).trans h2⟩
 rP:=ay h.rP fun g e=>h.aK (fun g e=>h.kR e) a (h.kP e) (by decide) (by decide)
 rD:=ay h.rD fun g e=>h.aK (fun g e=>h.kR e) a (h.kD e) (by decide) (by decide)
 ne:=h.ne
 lo:=h.lo
theorem aQ.anU(h:aQ w B pb v p)(a:w.grownBy w' v.vD.ownBlock)(d:w'.ownsRow B 3 1 x l.length (l.map bA))(b:x.ownBlock=v.vD.ownBlock\/∃g,x.ownBlock=ο g/\w.heap.size<=g):aQ (w'.setCell ⟨pb,5,ν⟩ x) B pb { v with vD:=x } { p with aH:=l } where
 blk:=h.set (fun g e=>h.kD e) (by decide) a
 rB:=ay h.rB fun g e=>by
  rw[aY _ _ ((h.kB e).ne h.kp (by decide))];exact a.block g (h.kB e).lt fun c=>h.ne g e c.symm
 rD:=ay d fun g e=>aY _ _ ((show Kd w' g 3 from bJ d e).ne (show Kd w' pb 134 from ⟨_,(a.block pb h.kp.lt fun e=>h.kp.ne (h.kD e.symm) (by decide) rfl).trans h.blk⟩) (by decide))
 rT:=by
  obtain⟨g,h1,h2⟩:=h.rT;exact⟨g,h1,(h.aK (fun g e=>h.kD e) a (show Kd w g 9 from ⟨_,h2⟩) (by decide) (by decide)).trans h2⟩
 rN:=by
  obtain⟨g,h1,h2⟩:=h.rN;exact⟨g,h1,(h.aK (fun g e=>h.kD e) a (show Kd w g 9 from ⟨_,h2⟩) (by decide) (by decide)).trans h2⟩
 lo:=h.lo
 rP:=ay h.rP fun g e=>h.aK (fun g e=>h.kD e) a (h.kP e) (by decide) (by decide)
 rR:=ay h.rR fun g e=>h.aK (fun g e=>h.kD e) a (h.kR e) (by decide) (by decide)
 ne g e:=by
  rcases b with b|⟨k,b,f⟩
  ·show x.ownBlock≠_
   rw[b];exact h.ne g e
  ·show x.ownBlock≠_
   rw[b];intro c;cases c;have:=(h.kB e).lt;omega
theorem aQ.anV(h:aQ w B pb v p)(a:w.grownBy w' v.vB.ownBlock)(d:w'.ownsRow B 3 1 x l.length (l.map bA))(b:x.ownBlock=v.vB.ownBlock\/∃g,x.ownBlock=ο g/\w.heap.size<=g):aQ (w'.setCell ⟨pb,0,ν⟩ x) B pb { v with vB:=x } { p with aD:=l } where
 blk:=h.set (fun g e=>h.kB e) (by decide) a
 rD:=ay h.rD fun g e=>by
  rw[aY _ _ ((h.kD e).ne h.kp (by decide))];exact a.block g (h.kD e).lt fun c=>h.ne g c.symm e
 rB:=ay d fun g e=>aY _ _ ((show Kd w' g 3 from bJ d e).ne (show Kd w' pb 134 from ⟨_,(a.block pb h.kp.lt fun e=>h.kp.ne (h.kB e.symm) (by decide) rfl).trans h.blk⟩) (by decide))
 rT:=by
  obtain⟨g,h1,h2⟩:=h.rT;exact⟨g,h1,(h.aK (fun g e=>h.kB e) a (show Kd w g 9 from ⟨_,h2⟩) (by decide) (by decide)).trans h2⟩
 rN:=by
  obtain⟨g,h1,h2⟩:=h.rN;exact⟨g,h1,(h.aK (fun g e=>h.kB e) a (show Kd w g 9 from ⟨_,h2⟩) (by decide) (by decide)).trans h2⟩
 lo:=h.lo
 rP:=ay h.rP fun g e=>h.aK (fun g e=>h.kB e) a (h.kP e) (by decide) (by decide)
 rR:=ay h.rR fun g e=>h.aK (fun g e=>h.kB e) a (h.kR e) (by decide) (by decide)
 ne g e:=by
  rcases b with b|⟨k,b,i⟩
  ·exact h.ne g (b▸e)
  ·intro c
   have f:x.ownBlock=ο g:=e;rw[b]at f;cases f;have:=(h.kD c).lt;omega
end
namespace Pk
def most(p:T):Nat:=p.aD.length*(p.toks.length+p.aT.length)
def acB(b:ByteArray)(p:T)(r:Rd):Nat×Nat×Nat×Nat×Rd:=((num b 2 r).1,(below b p.aD.length 2 (num b 2 r).2).1,(num b 2 (below b p.aD.length 2 (num b 2 r).2).2).1 / 4096,(num b 2 (below b p.aD.length 2 (num b 2 r).2).2).1 % 4096,(num b 2 (below b p.aD.length 2 (num b 2 r).2).2).2)
def BJ(b:ByteArray)(p:T):Nat->Rd->List (Nat×Nat×Nat)->List (Nat×Nat×Nat)×Rd
 |0,r,l=>(l,r)
 |n+1,r,l=>match acB b p r with
  | (g,s,d,t,r')=>if (r'.bad || decide (most p<=l.length+g) || !Al p d t (((l.length+g:Nat):Int) - (p.aD.getD s 0:Nat)))=η then (l,r'.fail) else BJ b p n r' (l++ψ g (0,0,0)++[(d,t,s)])
def places(b:ByteArray)(p:T)(r:Rd):List (Nat×Nat×Nat)×Rd:=BJ b p (below b (most p+1) 3 r).1 (below b (most p+1) 3 r).2 []
end Pk
theorem Tryz.abz:(prog.info? 233).map (fun i=>(i.zero,i.size,i.bytes))=ο (ο (.agg #[.int ξ 0,.int ξ 0,.int ξ 0]),3,24):=by kernel_rfl
theorem Tryz.Ua:prog.underlying 129=ο (.slice 233):=by kernel_rfl
theorem Tryz.aes:prog.underlying 3=ο (.int ξ):=by kernel_rfl
theorem aiu(m:Nat):(ψ m ((0,0,0):Nat×Nat×Nat)).flatMap cZ=ψ (m*3) (ι ξ 0):=by
 induction m with
 |zero=>rfl
 |succ m ih=>
  rw[oi,eS,ih,show (m+1)*3=m*3+1+1+1 by omega];rfl
theorem NI(m:Nat):(Builtin.zeroCells (Value.cells (γ #[ι ξ 0,ι ξ 0,ι ξ 0])) m).toList=(ψ m ((0,0,0):Nat×Nat×Nat)).flatMap cZ:=by
 rw[aiu,List.eq_replicate_iff];refine⟨by rw[jx,ub];rfl,fun u a=>?_⟩;unfold Builtin.zeroCells at a;rw[Array.toList_map,fk]at a;obtain⟨i,-,rfl⟩:=a;have h3:i % (Value.cells (γ #[ι ξ 0,ι ξ 0,ι ξ 0])).size<3:=vj _ (by decide);generalize i % (Value.cells (γ #[ι ξ 0,ι ξ 0,ι ξ 0])).size=k at h3;obtain rfl|rfl|rfl:k=0\/k=1\/k=2:=by omega
 all_goals rfl
theorem acC(l:List (Nat×Nat×Nat)):∀u∈l.flatMap cZ,u.oneCell'=η:=fun u b=>by
 obtain⟨x,-,a⟩:=li.1 b;simp only[cZ,List.mem_cons,List.not_mem_nil,or_false]at a;rcases a with rfl|rfl|rfl <;> rfl
structure gY(w:ω)(rb pb:Nat)(v:cu)(w':ω)(v':cu):Prop where
 aK:∀k,k<w.heap.size->k≠rb->¬v.own pb k->w'.heap[k]?=w.heap[k]?
 new:∀k,v'.own pb k->v.own pb k\/w.heap.size<=k
 bL:w.heap.size<=w'.heap.size
 fr:w'.os=w.os/\w'.tape=w.tape/\w'.output=w.output
theorem gY.trans{w w1 w2:ω}{rb pb:Nat}{v v1 a:cu}(h:gY w rb pb v w1 v1)(k:gY w1 rb pb v1 w2 a):gY w rb pb v w2 a where
 aK x hx h1 h2:=(k.aK x (dg hx h.bL) h1 fun e=>(h.new x e).elim h2 fun e=>by omega).trans (h.aK x hx h1 h2)
 new x hx:=(k.new x hx).elim (h.new x) fun e=>.inr (cY h.bL e)
 bL:=cY h.bL k.bL
 fr:=⟨k.fr.1.trans h.fr.1,k.fr.2.1.trans h.fr.2.1,k.fr.2.2.trans h.fr.2.2⟩
theorem gY.read{v:cu}{r':Pk.Rd}(T:jw w rb b w' r'):gY w rb pb v w' v:=⟨fun k c a _=>T.g.block k c fun e=>a (by cases e;rfl),fun _ e=>.inl e,T.g.size,T.g.1,T.g.2,T.g.3⟩
theorem gY.below{v:cu}(h:φ w.heap.size w w'):gY w rb pb v w' v:=⟨fun k a _ _=>h.block k a,fun _ e=>.inl e,h.size,h.1,h.2,h.3⟩
theorem gY.Eg{v:cu}(a:w.grownBy w' v.vP.ownBlock)(b:x.ownBlock=v.vP.ownBlock\/∃g,x.ownBlock=ο g/\w.heap.size<=g):gY w rb pb v (w'.setCell ⟨pb,1,ν⟩ x) { v with vP:=x } where
 aK k hk _ hn:=by
  rw[aY _ _ fun e=>hn (.inl e)];exact a.block k hk fun e=>hn (.inr (.inr (.inl e.symm)))
 new k hk:=by
  rcases hk with e|e|e|e|e|e|e
  ·exact .inl (.inl e)
  ·exact .inl (.inr (.inl e))
  ·rcases b with b | ⟨g,b,d⟩
   ·exact .inl (.inr (.inr (.inl (b▸e))))
   ·have c:x.ownBlock=ο k:=e
    rw[b]at c;cases c;exact .inr d
  ·exact .inl (.inr (.inr (.inr (.inl e))))
  ·exact .inl (.inr (.inr (.inr (.inr (.inl e)))))
  ·exact .inl (.inr (.inr (.inr (.inr (.inr (.inl e))))))
  ·exact .inl (.inr (.inr (.inr (.inr (.inr (.inr e))))))
 bL:=by simpa using a.size
 fr:=⟨a.1,a.2,a.3⟩
section
variable{w:ω}{B rb pb:Nat}{b:ByteArray}{r:Pk.Rd}{v:cu}{p:Pk.T}
structure Hq(p:Pk.T):Prop where
 s0:0<p.aD.length
 s1:p.aD.length<=300
 t1:p.toks.length<=1000
 n1:p.aT.length<=1000
 b1:∀x∈p.aD,x<16777216
theorem Hq.most(h:Hq p):Pk.most p<=600000:=by
 unfold Pk.most;have:p.aD.length*(p.toks.length+p.aT.length)<=300*2000:=AD h.s1 (by have:=h.t1;have:=h.n1;omega);omega
theorem agv(n:Int):bits .and ξ n 4095=n % 4096:=by
 have a:(BitVec.ofInt 64 4095).toNat=2 ^ 12-1:=by decide
 have key:(BitVec.ofInt 64 n &&& BitVec.ofInt 64 4095).toNat=(n % ((2 ^ 64:Nat):Int)).toNat % 2 ^ 12:=by
  rw[BitVec.toNat_and,xT,a,Nat.and_two_pow_sub_one_eq_mod]
 show IntKind.i64.wrap ((BitVec.ofInt 64 n &&& BitVec.ofInt 64 4095).toNat:Nat)=n % 4096;rw[key,gx];omega
theorem ahm(A:fT w rb b r)(f:aQ w B pb v p)(aA:p.ak=[])(hB:B<=w.heap.size)(hb:Hq p):χ prog 97 #[π (ο ⟨rb,0,ν⟩),π (ο ⟨pb,0,ν⟩)] w fun e w'=>e=δ (θ #[])/\∃v',fT w' rb b (Pk.places b p r).2/\aQ w' B pb v' { p with ak:=(Pk.places b p r).1 }/\gY w rb pb v w' v':=by
 obtain⟨⟨a0,k0,X⟩,-,⟨a2,k2,c2⟩,⟨a3,k3,c3⟩,-,-⟩:=f.cell;have hM:=hb.most;have eM:(p.aD.length:Int)*((p.toks.length:Int)+(p.aT.length:Int))=(Pk.most p:Int):=by unfold Pk.most;rw[Int.natCast_mul,qv]
 obtain⟨M,V⟩:=aF (Pk.most p);rw[V]at hM eM;have s1:=hb.s1;have t1:=hb.t1;have n1:=hb.n1;have q1:∀nq,_:=fun nq=>FI (w:=w.drewN nq) (m:=M+1) (A.move rfl) (show 3<=4 by decide)
 simp only[show ((M+1:Nat):Int)=(M:Int)+1 by omega]at q1;have hn:=Pk.FN (b:=b) (n:=3) (r:=r) (show 0<M+1 by omega);obtain⟨x,hx⟩:=aF (Pk.below b (M+1) 3 r);rw[hx]at hn;simp only[hx]at q1;have HE:Hid (Pk.places b p r=Pk.BJ b p x.1 x.2 []):=by exact(by unfold Pk.places;rw[V,hx]:Pk.places b p r=Pk.BJ b p x.1 x.2 [])
 have H0:Hid (∀nq w1,jw (w.drewN nq) rb b w1 x.2->fT w1 rb b x.2/\aQ w1 B pb v { p with ak:=[] }/\gY w rb pb v w1 v):=fun nq w1 T=>by
  refine⟨T.m,?_,?_⟩
  ·have:=(f.move (W':=w.drewN nq) fun _ _=>rfl).read (A.move rfl) T
   rw[<-aA];exact this
  ·exact(gY.below (w:=w) (w':=w.drewN nq) ⟨rfl,rfl,rfl,zL0,fun _ _=>rfl⟩).trans (gY.read T)
 clear A f hx;go_enter func97,ntmps97;go_upto_region 0 with fail
 go_quiet (fail)
 go_wp2_with (go_at_call 95;refine(q1 _).mono ?_;rintro e w1⟨rfl,T1⟩)
 obtain⟨A1,A2,A3⟩:=H0.out _ _ T1;clear H0 q1 T1 X c2 c3;have HI:Hid (fT w1 rb b x.2/\aQ w1 B pb v { p with ak:=[] }/\gY w rb pb v w1 v):=⟨A1,A2,A3⟩;clear A1 A2 A3;have Lm:x.1<=600000:=by omega
 go_loopw [32] (fun i wr=>∃(j:Nat)(r1:Pk.Rd)(l:List (Nat×Nat×Nat))(D:cu),i=ι ξ (j:Int)/\Hid (j<=x.1/\fT wr rb b r1/\aQ wr B pb D { p with ak:=l }/\gY w rb pb v wr D/\l.length<=M/\Pk.places b p r=Pk.BJ b p (x.1-j) r1 l)) (fun i _=>x.1 - (intOf i).toNat)
 case atStart=>exact⟨0,x.2,[],v,rfl,fi _,HI.out.1,HI.out.2.1,HI.out.2.2,fi _,HE.out⟩
 case round=>
  clear HI HE hn;obtain⟨j,r1,l,D,rfl,HI⟩:=hrel;obtain⟨hj,A,f,C,hl,H⟩:=HI.out;clear HI
  by_cases hjn:j<x.1
  ·have j1:(j:Int)<(x.1:Int):=by omega
   have q3:=FP A (show 2<=4 by decide);have hg:=Pk.Gc b 2 r1;obtain⟨n,hn⟩:∃n,x.1-j=n+1:=⟨x.1-j-1,by omega⟩;rw[hn,Pk.BJ,Pk.acB]at H;obtain⟨y,hy⟩:=aF (Pk.num b 2 r1);rw[hy]at q3 hg H;have HW:Hid (Pk.places b p r=_):=H;have H3:Hid (∀w2,jw wr rb b w2 y.2->fT w2 rb b y.2/\aQ w2 B pb D { p with ak:=l }/\gY w rb pb v w2 D):=fun w2 T=>⟨T.m,f.read A T,C.trans (gY.read T)⟩
   clear hy A f C H;go_upto_region 4 with (go_at_call 96;refine q3.mono ?_;rintro e w2⟨rfl,T⟩)
   obtain⟨A,f,C⟩:=H3.out _ T;clear H3 q3 T;obtain⟨⟨a0,k0,X⟩,-⟩:=f.cell
   dsimp only at X
   have q4:=FI (m:=p.aD.length) A (show 2<=4 by decide);have hs:=Pk.FN (b:=b) (n:=2) (r:=y.2) hb.s0;obtain⟨s,am⟩:=aF (Pk.below b p.aD.length 2 y.2);rw[am]at q4 hs HW;have H4:Hid (∀w3,jw w2 rb b w3 s.2->fT w3 rb b s.2/\aQ w3 B pb D { p with ak:=l }/\gY w rb pb v w3 D):=fun w3 T=>⟨T.m,f.read A T,C.trans (gY.read T)⟩
   clear am A f C;go_upto_region 5 with (go_at_call 95;refine q4.mono ?_;rintro e w3⟨rfl,T⟩)
   obtain⟨A,f,C⟩:=H4.out _ T;clear H4 q4 T X;have q5:=FP A (show 2<=4 by decide);have hc:=Pk.Gc b 2 s.2;obtain⟨c,ap⟩:=aF (Pk.num b 2 s.2);rw[ap]at q5 hc HW;have H5:Hid (∀R,jw w3 rb b R c.2->fT R rb b c.2/\aQ R B pb D { p with ak:=l }/\gY w rb pb v R D):=fun R T=>⟨T.m,f.read A T,C.trans (gY.read T)⟩
   clear ap A f C;go_upto_region 6 with (go_at_call 96;refine q5.mono ?_;rintro e R⟨rfl,T⟩)
   obtain⟨A,f,C⟩:=H5.out _ T;clear H5 q5 T;have H:=HW.out;clear HW;have e6:bits BinOp.and IntKind.i64 (c.1:Int) 4095=((c.1 % 4096:Nat):Int):=by rw[agv];omega
   have e7:(c.1:Int) / 4096=((c.1 / 4096:Nat):Int):=by omega
   have hd:c.1 / 4096<16:=by omega
   have ht:c.1 % 4096<4096:=by omega
   generalize c.1 / 4096=d at e7 hd H;generalize c.1 % 4096=t at e6 ht H;obtain⟨K,fQ⟩:=aC (R.alloc (ζ #[ι ξ (d:Int),ι ξ (t:Int)] 118));have Y:φ R.heap.size R K:=by rw[fQ];exact(cV _ _).alloc (zL0) _
   have I:aj K R.heap.size #[ι ξ (d:Int),ι ξ (t:Int)] 118:=by rw[fQ];exact aj.new ..
   have Lp:=A.move (Y.block _ A.blk.lt);have mJ:=f.move (W':=K) fun k hk=>Y.block k (f.lt hk)
   have af:=C.trans (gY.below Y);clear A f C Y;obtain⟨bx,ae⟩:=aF R.heap.size;rw[ae]at I;have H5:Hid (fT K rb b c.2/\aQ K B pb D { p with ak:=l }/\gY w rb pb v K D/\aj K bx #[ι ξ (d:Int),ι ξ (t:Int)] 118):=⟨Lp,mJ,af,I⟩;clear Lp mJ af I;go_upto_region 7 with fail
   rw[<-fQ];clear fQ e6 e7 hc ae;obtain⟨A,f,C,I⟩:=H5.out;obtain⟨⟨a0,k0,X⟩,⟨a1,k1,c1⟩,-⟩:=f.cell
   dsimp only at X c1
   have WJ:=A.blk.a1;have x0:=I.a0;have x1:=I.a1;have HF:Hid (Pk.places b p r=(l,c.2.fail)->∀w',φ K.heap.size K w'->w'.cell? ⟨rb,1,ν⟩=ο (μ c.2.bad)/\w'.frozen? ⟨rb,1,ν⟩=ε/\∃v',fT (w'.setCell ⟨rb,1,ν⟩ (μ η)) rb b (Pk.places b p r).2/\aQ (w'.setCell ⟨rb,1,ν⟩ (μ η)) B pb v' { p with ak:=(Pk.places b p r).1 }/\gY w rb pb v (w'.setCell ⟨rb,1,ν⟩ (μ η)) v'):=fun e w' L=>by
    rw[e];have Q:=A.move (L.block _ A.blk.lt);have a9:=f.move (W':=w') fun k hk=>L.block k (f.lt hk)
    exact⟨Q.blk.cell 1,Q.blk.frozen 1,D,Q.fail.m,a9.read Q Q.fail,(C.trans (gY.below L)).trans (gY.read Q.fail)⟩
   cases hbad:c.2.bad with
   |true=>
    rw[hbad]at WJ H;have N:Pk.places b p r=(l,c.2.fail):=by rw[H];rfl
    have Lr:=HF.out N;clear HF N H A f C I;go_upto_region 8 with fail
    refine(pn (n:=9)).1 ?_;refine kV 22 (by kernel_rfl) (by kernel_rfl) (by kernel_rfl) ?_
    dsimp only[List.take,List.drop,List.length]
    repeat (gi_big_quiet_step (fail))
    refine wpQuietIn_nil ?_;rintro _⟨Ls,rfl⟩;refine wpAnyIn_ready (rs:=[22]) (by kernel_rfl) (by simp) (AllReadyIn.cons rfl (fun J a=>?_) AllReadyIn.nil)
    go_simp
    refine⟨trivial,a _ _ ?_⟩;clear a J;refine wpAnyIn_ready (rs:=[23]) (by kernel_rfl) (by simp) (AllReadyIn.cons rfl (fun J a=>?_) AllReadyIn.nil)
    go_simp
    refine a _ _ ?_;clear a J;refine wpAnyIn_ready (rs:=[24]) (by kernel_rfl) (by simp) (AllReadyIn.cons rfl (fun J a=>?_) AllReadyIn.nil)
    go_simp
    refine a _ _ (wpAnyIn_done (by kernel_rfl) ?_ _);clear a J;obtain⟨z1,z2,z3⟩:=Lr _ (⟨rfl,rfl,rfl,zL0,fun _ _=>rfl⟩:φ K.heap.size K (K.drewN Ls));go_wp2_with fail;refine iS (po rfl _ _ _) rfl ?_;exact⟨rfl,z3⟩
   |false=>
    rw[hbad]at WJ H
    by_cases hat:M<=l.length+y.1
    ·have b8:decide ((M:Int)<=(l.length:Int)+(y.1:Int))=η:=ge (by omega)
     have N:Pk.places b p r=(l,c.2.fail):=by rw[H,V,ge hat];rfl
     have Lr:=HF.out N;clear HF N H A f C I;go_upto_region 8 with fail
     refine(pn (n:=9)).1 ?_;refine kV 22 (by kernel_rfl) (by kernel_rfl) (by kernel_rfl) ?_
     dsimp only[List.take,List.drop,List.length]
     repeat (gi_big_quiet_step (fail))
     refine wpQuietIn_nil ?_;rintro _⟨Ls,rfl⟩;refine wpAnyIn_ready (rs:=[22]) (by kernel_rfl) (by simp) (AllReadyIn.cons rfl (fun J a=>?_) AllReadyIn.nil)
     go_simp
     refine⟨trivial,a _ _ ?_⟩;clear a J;refine wpAnyIn_ready (rs:=[23]) (by kernel_rfl) (by simp) (AllReadyIn.cons rfl (fun J a=>?_) AllReadyIn.nil)
     go_simp
     refine a _ _ ?_;clear a J;refine wpAnyIn_ready (rs:=[24]) (by kernel_rfl) (by simp) (AllReadyIn.cons rfl (fun J a=>?_) AllReadyIn.nil)
     go_simp
     refine a _ _ (wpAnyIn_done (by kernel_rfl) ?_ _);clear a J;obtain⟨z1,z2,z3⟩:=Lr _ (⟨rfl,rfl,rfl,zL0,fun _ _=>rfl⟩:φ K.heap.size K (K.drewN Ls));go_wp2_with fail;refine iS (po rfl _ _ _) rfl ?_;exact⟨rfl,z3⟩
    ·have b8:decide ((M:Int)<=(l.length:Int)+(y.1:Int))=ε:=fx (by omega)
     rw[V,fx hat]at H;obtain⟨z,hz⟩:∃z,p.aD[s.1]?=ο z:=⟨_,cG hs⟩;have aE:=hb.b1 z (cM hz);have ez:p.aD.getD s.1 0=z:=by simp[hz]
     rw[ez,show ((l.length+y.1:Nat):Int) - (z:Nat)=(l.length:Int)+(y.1:Int) - (z:Int) by omega]at H;obtain⟨gB,cB,aa,-,cz⟩:=F3 f.rB (p:=s.1) (u:=bA z) (by rw[dj];show Option.map _ p.aD[s.1]?=_;rw[hz];rfl);unfold bA at cz;clear X;have X:K.cell? ⟨pb,0,ν⟩=ο (ς (ο ⟨gB,0,ν⟩) p.aD.length cB):=by
      have:=f.blk.cell 0;rw[this];exact fd ο aa
     have s0:(0:Int)<=(s.1:Int):=by omega
     have s2:(s.1:Int)<(p.aD.length:Int):=by omega
     have q8:∀nq,_:=fun nq=>agu (w:=K.drewN nq) (d:=d) (t:=t) (f.move fun _ _=>rfl) ((l.length:Int)+(y.1:Int) - (z:Int)) (by omega) (by show p.toks.length<=_;omega)
     simp only[show Pk.Al { p with ak:=l } d t ((l.length:Int)+(y.1:Int) - (z:Int))=Pk.Al p d t ((l.length:Int)+(y.1:Int) - (z:Int)) from rfl]at q8;have aH:y.1<65536:=hg;cases hu:Pk.Al p d t ((l.length:Int)+(y.1:Int) - (z:Int)) with
     |false=>
      simp only[hu]at q8;have N:Pk.places b p r=(l,c.2.fail):=by rw[H,hu];rfl
      have Lr:=HF.out N;clear HF N H A f C I aa;go_upto_region 8 with fail
      refine(pn (n:=9)).1 ?_;refine kV 22 (by kernel_rfl) (by kernel_rfl) (by kernel_rfl) ?_
      dsimp only[List.take,List.drop,List.length]
      repeat (gi_big_quiet_step (fail))
      refine wpQuietIn_nil ?_;rintro _⟨Ls,rfl⟩;refine wpAnyIn_ready (rs:=[22]) (by kernel_rfl) (by simp) (AllReadyIn.cons rfl (fun J a=>?_) AllReadyIn.nil)
      go_simp
      refine⟨trivial,(gh.2 (q8 _)).mono ?_⟩;rintro e O⟨rfl,E⟩;refine a _ _ ?_;clear a J;refine wpAnyIn_ready (rs:=[23]) (by kernel_rfl) (by simp) (AllReadyIn.cons rfl (fun J a=>?_) AllReadyIn.nil)
      go_simp
      refine a _ _ ?_;clear a J;refine wpAnyIn_ready (rs:=[24]) (by kernel_rfl) (by simp) (AllReadyIn.cons rfl (fun J a=>?_) AllReadyIn.nil)
      go_simp
      refine a _ _ (wpAnyIn_done (by kernel_rfl) ?_ _);clear a J;obtain⟨z1,z2,z3⟩:=Lr _ (⟨E.1,E.2,E.3,E.4,E.5⟩:φ K.heap.size K O);go_wp2_with fail;refine iS (po rfl _ _ _) rfl ?_;exact⟨rfl,z3⟩
     |true=>
      simp only[hu]at q8;rw[hu]at H;have ai:Pk.places b p r=Pk.BJ b p n c.2 (l++ψ y.1 (0,0,0)++[(d,t,s.1)]):=H;have H6:Hid (∀O,φ K.heap.size K O->fT O rb b c.2/\aQ O B pb D { p with ak:=l }/\gY w rb pb v O D/\aj O bx #[ι ξ (d:Int),ι ξ (t:Int)] 118):=fun O L=>⟨A.move (L.block _ A.blk.lt),f.move fun k hk=>L.block k (f.lt hk),C.trans (gY.below L),(L.block _ I.lt).trans I⟩
      have HW:Hid _:=ai;clear HF ai H A f C I aa;go_upto_region 8 with fail
      refine(pn (n:=9)).1 ?_;refine kV 22 (by kernel_rfl) (by kernel_rfl) (by kernel_rfl) ?_
      dsimp only[List.take,List.drop,List.length]
      repeat (gi_big_quiet_step (fail))
      refine wpQuietIn_nil ?_;rintro _⟨Ls,rfl⟩;refine wpAnyIn_ready (rs:=[22]) (by kernel_rfl) (by simp) (AllReadyIn.cons rfl (fun J a=>?_) AllReadyIn.nil)
      go_simp
      refine⟨trivial,(gh.2 (q8 _)).mono ?_⟩;rintro e O⟨rfl,E⟩;refine a _ _ ?_;clear a J;refine wpAnyIn_ready (rs:=[23]) (by kernel_rfl) (by simp) (AllReadyIn.cons rfl (fun J a=>?_) AllReadyIn.nil)
      go_simp
      refine a _ _ ?_;clear a J;refine wpAnyIn_ready (rs:=[24]) (by kernel_rfl) (by simp) (AllReadyIn.cons rfl (fun J a=>?_) AllReadyIn.nil)
      go_simp
      refine a _ _ (wpAnyIn_done (by kernel_rfl) ?_ _);clear a J;obtain⟨A,f,C,I⟩:=H6.out _ (⟨E.1,E.2,E.3,E.4,E.5⟩:φ K.heap.size K O);clear H6 q8 E X c1 WJ x0 x1 cz;obtain⟨i0,aq,ad,ao,ah⟩:=ft Tryz.abz;have aw:=cY hB C.bL;obtain⟨vq,U,Es,qo,jf,rY⟩:=YN (P:=prog) O B 129 3 129 233 i0 _ 3 24 ξ ξ Tryz.Ua Tryz.aes aq ad ao ah rfl (by decide) D.vP l.length (l.flatMap cZ) f.rP y.1 (by rw[NI];exact acC _) (by unfold maxLen;omega) (by omega) aw;rw[NI,<-ik,show l.length+y.1=(l++ψ y.1 ((0,0,0):Nat×Nat×Nat)).length by simp]at qo;obtain⟨q,S⟩:=aF (l++ψ y.1 ((0,0,0):Nat×Nat×Nat));have ag:Hid (q.length=l.length+y.1):=(by rw[<-S];simp:q.length=l.length+y.1);have GV:q.length<=600000:=by have:=ag.out;omega
      rw[S]at qo HW;clear S;obtain⟨F,G,rfl,-⟩:=aB qo;have CW:aj U pb D.cells 134:=(jf.block pb f.kp.lt fun e=>f.kp.ne (f.kP e.symm) (by decide) rfl).trans f.blk;have c1:=f.blk.a1;have c7:=CW.a1;have f7:=CW.frozen 1;have an:=f.Eg jf qo;have Eh:(ς F q.length G).ownBlock=D.vP.ownBlock\/∃g,(ς F q.length G).ownBlock=ο g/\O.heap.size<=g:=rY.imp id fun e=>⟨_,e,zL0⟩
      have al:=C.trans (gY.Eg (rb:=rb) (pb:=pb) jf Eh);have ar:U.grownBy (U.setCell ⟨pb,1,ν⟩ (ς F q.length G)) (ο pb):=iO _ _ _ _;have ab:fT (U.setCell ⟨pb,1,ν⟩ (ς F q.length G)) rb b c.2:=A.move ((aY _ _ fun e=>f.EG A (.inl e)).trans (jf.block rb A.blk.lt fun e=>f.EG A (.inr (.inr (.inl e.symm)))));have ac:aj (U.setCell ⟨pb,1,ν⟩ (ς F q.length G)) bx #[ι ξ (d:Int),ι ξ (t:Int)] 118:=((aY _ _ ((show Kd O bx 118 from ⟨_,I⟩).ne f.kp (by decide))).trans (jf.block bx I.lt fun e=>(show Kd O bx 118 from ⟨_,I⟩).ne (f.kP e.symm) (by decide) rfl)).trans I;have H8:Hid (fT (U.setCell ⟨pb,1,ν⟩ (ς F q.length G)) rb b c.2/\aQ (U.setCell ⟨pb,1,ν⟩ (ς F q.length G)) B pb { D with vP:=(ς F q.length G) } { p with ak:=q }/\gY w rb pb v (U.setCell ⟨pb,1,ν⟩ (ς F q.length G)) { D with vP:=(ς F q.length G) }/\aj (U.setCell ⟨pb,1,ν⟩ (ς F q.length G)) bx #[ι ξ (d:Int),ι ξ (t:Int)] 118):=⟨ab,an,al,ac⟩;clear A f C I ab an al ac ar Eh rY qo jf CW;go_upto_region 11 with (at_builtin;refine Lib.wpList_append_run _ rfl _ _ _ _ rfl _ _ rfl rfl _ _ Es ?_)
      generalize U.setCell ⟨pb,1,ν⟩ (ς F q.length G)=w8 at H8|-;obtain⟨A,f,C,I⟩:=H8.out;clear H8 c1 c7 f7 Es;have c1:w8.cell? ⟨pb,1,ν⟩=ο (ς F q.length G):=f.blk.cell 1;have x0:=I.a0;have x1:=I.a1;have ax:=cY hB C.bL;have lp:=f.kp.lt;have lx:=I.lt;have dA:∀o,(w8.alloc o).cell? ⟨pb,1,ν⟩=ο (ς F q.length G):=fun o=>(cQ (w:=w8) (ed _ _ _ lp)).trans c1
      have o3:(w8.alloc (ζ #[ι ξ (d:Int),ι ξ (t:Int),ι ξ (s.1:Int)] 233)).drew.ownsRow B 233 3 (ς F q.length G) q.length (q.flatMap cZ):=ay (f.rP.alloc (ζ #[ι ξ (d:Int),ι ξ (t:Int),ι ξ (s.1:Int)] 233)) fun _ _=>rfl
      have jg:aj (w8.alloc (ζ #[ι ξ (d:Int),ι ξ (t:Int),ι ξ (s.1:Int)] 233)).drew pb (cu.cells { D with vP:=ς F q.length G }) 134:=(f.blk.alloc _).drew;have az:(ς F q.length G).ownBlock≠ο pb:=fun e=>(f.kP e).ne f.kp (by decide) rfl
      have av:B<=(w8.alloc (ζ #[ι ξ (d:Int),ι ξ (t:Int),ι ξ (s.1:Int)] 233)).drew.heap.size:=cY ax (aM w8 _ ν).size;have H9:Hid (fT w8 rb b c.2/\aQ w8 B pb { D with vP:=ς F q.length G } { p with ak:=q }/\gY w rb pb v w8 { D with vP:=ς F q.length G }):=⟨A,f,C⟩;clear A f C I
      go_region_law (refine step_append_lies _ rfl (.tmp 105) (.tmp 109) 129 rfl B 233 i0 _ 3 24 Tryz.Ua aq ad ao ah rfl (by decide) (ς F q.length G) q.length (q.flatMap cZ) (by simp[Act.eval]) o3 ⟨w8.heap.size,0,ν⟩ 1 1 [ι ξ (d:Int),ι ξ (t:Int),ι ξ (s.1:Int)] (by simp[Act.eval]) rfl (bQ (aj.new w8 _ 233).drew) (by simp[Value.oneCell']) (by decide) (by unfold maxLen;omega) (by omega) av _ rfl ?_;intro W Z w9 jE iC iY Co;have jy:=jg.grown iC (fun e=>az e.symm);have c9:w9.cell? ⟨pb,1,ν⟩=ο (ς F q.length G):=jy.cell 1;have f9:=jy.frozen 1)
      all_goals
       obtain⟨A,f,C⟩:=H9.out;have S:=ag.out;have lu:w8.grownBy w9 (ς F q.length G).ownBlock:=aI (b:=(w8.alloc (ζ #[ι ξ (d:Int),ι ξ (t:Int),ι ξ (s.1:Int)] 233)).drew) ⟨rfl,rfl,rfl,(aM w8 _ ν).size,fun i hi _=>ed _ _ _ hi⟩ iC;have kI:w9.ownsRow B 233 3 (ς (ο ⟨W,0,ν⟩) (q.length+1) Z) (q++[(d,t,s.1)]).length ((q++[(d,t,s.1)]).flatMap cZ):=by
        rw[ik,cJ];exact jE
       have Cq:(ς (ο ⟨W,0,ν⟩) (q.length+1) Z).ownBlock=(ς F q.length G).ownBlock\/∃g,(ς (ο ⟨W,0,ν⟩) (q.length+1) Z).ownBlock=ο g/\w8.heap.size<=g:=by
        rcases iY with e|e
        ·exact .inl e.symm
        ·exact .inr ⟨W,rfl,by rw[e];exact(aM w8 _ ν).size⟩
       have HN:Hid (fT (w9.setCell ⟨pb,1,ν⟩ (ς (ο ⟨W,0,ν⟩) (q.length+1) Z)) rb b c.2/\aQ (w9.setCell ⟨pb,1,ν⟩ (ς (ο ⟨W,0,ν⟩) (q.length+1) Z)) B pb { D with vP:=ς (ο ⟨W,0,ν⟩) (q.length+1) Z } { p with ak:=q++[(d,t,s.1)] }/\gY w rb pb v (w9.setCell ⟨pb,1,ν⟩ (ς (ο ⟨W,0,ν⟩) (q.length+1) Z)) { D with vP:=ς (ο ⟨W,0,ν⟩) (q.length+1) Z }/\(q++[(d,t,s.1)]).length<=M) :=
        ⟨A.move ((aY _ _ fun e=>f.EG A (.inl e)).trans (lu.block rb A.blk.lt fun e=>f.EG A (.inr (.inr (.inl e.symm))))),f.Eg lu kI,C.trans (gY.Eg (v:={ D with vP:=ς F q.length G }) lu Cq),by rw[cJ];show q.length+1<=M;omega⟩
       clear A f C lu kI Cq S jE iC iY jy c9 f9 o3 jg dA H9;go_wp2_with fail;refine⟨⟨j+1,c.2,q++[(d,t,s.1)],_,by go_num,by omega,HN.out.1,HN.out.2.1,HN.out.2.2.1,HN.out.2.2.2,?_⟩,by simp[intOf];omega⟩;rw[show x.1 - (j+1)=n by omega];exact HW.out
  ·obtain rfl:j=x.1:=by omega
   rw[io,Pk.BJ]at H;rw[<-show (Pk.places b p r).2=r1 by rw[H]]at A;rw[<-show (Pk.places b p r).1=l by rw[H]]at f;clear H;go_wp2_with fail
   go_end0
   exact⟨rfl,D,A,f,C⟩
end
namespace Pk
def JU:List Nat:=[0,498536548,997073096,651767980,1994146192,1802195444,1303535960,1342533948,3988292384,4027552580,3604390888,3412177804,2607071920,2262029012,2685067896,3183342108]
def D6(i:Nat):Nat:=JU.getD i 0
def Cr(x:Nat):Nat:=x / 16 ^^^ D6 (x % 16)
def sumTo(b:ByteArray):Nat->Nat
 |0=>4294967295
 |i+1=>Cr (Cr (sumTo b i ^^^ lW b i))
def sum(b:ByteArray)(n:Nat):Nat:=4294967295 ^^^ sumTo b n
theorem abA(i:Nat):D6 i<4294967296:=by
 unfold D6;rcases s7 i 16 with h|h
 ·have:∀i,i<16->JU.getD i 0<4294967296:=by decide
  exact this i h
 ·rw[di,kf (by simp[JU];omega)]
  decide
theorem JG{b:Nat}(c:a<4294967296)(d:b<4294967296):a ^^^ b<4294967296:=Nat.xor_lt_two_pow (n:=32) c d
theorem Oa{x:Nat}(h:x<4294967296):Cr x<4294967296:=JG (by omega) (abA _)
theorem FQ(b:ByteArray):∀n,sumTo b n<4294967296
 |0=>by rw[sumTo];decide
 |n+1=>Oa (Oa (JG (FQ b n) (by have:=JF b n;omega)))
theorem sum_lt(b:ByteArray)(n:Nat):sum b n<4294967296:=JG (by decide) (FQ b n)
theorem ale(b:ByteArray)(n i:Nat)(h:i<n):lW (b.extract 0 n) i=lW b i:=by
 unfold lW;rw[B8,nF,nF,Array.getElem?_extract];congr 2
 split
 ·rw[fX]
 ·rename_i h2
  rw[s8 (by omega)]
theorem aad(b:ByteArray)(n:Nat):∀i,i<=n->sumTo (b.extract 0 n) i=sumTo b i
 |0,_=>rfl
 |i+1,h=>by rw[sumTo,sumTo,aad b n i (by omega),ale b n i (by omega)]
end Pk
def kZ(w:ω):Prop:=∀i,i<16->w.cell? ⟨0,i,ν⟩=ο (ι .u32 ((Pk.D6 i:Nat):Int))
theorem NJ(b:kZ w)(h:a<4294967296):bits BinOp.and IntKind.u32 (a:Int) 15=((a % 16:Nat):Int)/\((a:Int) % 16).toNat=a % 16/\w.cell? ⟨0,a % 16,ν⟩=ο (ι .u32 ((Pk.D6 (a % 16):Nat):Int))/\bits BinOp.xor IntKind.u32 ((a:Int) / 16) ((Pk.D6 (a % 16):Nat):Int)=((Pk.Cr a:Nat):Int):=by
 refine⟨?_,by omega,b _ (vj _ (by decide)),?_⟩
 ·have:=u32_and_nat a 15 h (by decide)
  rw[nat_mask4]at this;exact this
 ·have e:(a:Int) / 16=((a / 16:Nat):Int):=by omega
  rw[e,xt _ _ (by omega) (Pk.abA _)];rfl
theorem alf(l:kZ w)(s:ByteArray)(A:s.size<=281474976710656):χ prog 98 #[τ s] w fun e w'=>e=δ (ι .u32 ((Pk.sum s s.size:Nat):Int))/\w'=w:=by
 have r:Hid (∀i(n:i<s.size),((s[i]).toNat:Int)=((Pk.lW s i:Nat):Int)):=fun i n=>by
  unfold Pk.lW;have q:i<s.data.size:=n;rw[nF,lr q];rfl
 go_enter func98,ntmps98;go_wp2_with fail
 go_loop [3,7] (fun v i=>∃j:Nat,j<=s.size/\i=ι ξ (j:Int)/\v=ι .u32 ((Pk.sumTo s j:Nat):Int)) (fun _ i=>s.size - (intOf i).toNat)
 case atStart=>exact⟨0,by omega,rfl,rfl⟩
 case round=>
  obtain⟨j,C,rfl,rfl⟩:=hrel
  by_cases hjn:j<s.size
  ·have x:(j:Int)<(s.size:Int):=by omega
   have z:=r.out j hjn;have b:=Pk.FQ s j;have k:=Pk.JF s j;obtain⟨a,f⟩:=aF (Pk.sumTo s j ^^^ Pk.lW s j);have d:a<4294967296:=by rw[<-f];exact Pk.JG b (by omega)
   have B:bits BinOp.xor IntKind.u32 (Pk.sumTo s j:Int) (Pk.lW s j:Int)=(a:Int):=by rw[xt _ _ b (by omega),f]
   obtain⟨c,g⟩:=aF (Pk.Cr a);have m:c<4294967296:=by rw[<-g];exact Pk.Oa d
   have o:Pk.sumTo s (j+1)=Pk.Cr c:=by rw[Pk.sumTo,f,g]
   obtain⟨a2,a3,a4,a5⟩:=NJ l d;obtain⟨t,y,D,p⟩:=NJ l m;rw[g]at a5;rw[<-o]at p;have u:(Pk.lW s j:Int) % 4294967296=(Pk.lW s j:Int):=by omega
   clear g f o b k l;go_wp2_with fail;exact⟨⟨j+1,by omega,by go_num,rfl⟩,by simp[intOf];omega⟩
  ·obtain rfl:j=s.size:=by omega
   go_wp2_with fail;go_ret;exact⟨DI (xt 4294967295 _ (by decide) (Pk.FQ ..)),rfl⟩
theorem kZ.move(h:kZ w)(b:w'.heap[0]?=w.heap[0]?):kZ w':=fun i a=>(cQ (w:=w) b).trans (h i a)
theorem alg(b:ByteArray)(h:k<=b.size):Pk.sum (b.extract 0 k) (b.extract 0 k).size=Pk.sum b k:=by
 have e:(b.extract 0 k).size=k:=by simp;omega
 rw[e];unfold Pk.sum;rw[Pk.aad b k k (zL0)]
namespace Pk
def F4(b:ByteArray)(nT nN:Nat):Nat->Rd->List (Nat×Nat)->List (Nat×Nat)×Rd
 |0,r,l=>(l,r)
 |n+1,r,l=>F4 b nT nN n (below b 1001 2 (below b nN 2 r).2).2 (l++[(nT+(below b nN 2 r).1,(below b 1001 2 (below b nN 2 r).2).1)])
def xG(b:ByteArray)(nP:Nat):Nat->Rd->List Nat->List Nat->List Nat×List Nat×Rd
 |0,r,l,m=>(l,m,r)
 |n+1,r,l,m=>xG b nP n (num b 3 (below b nP 1 r).2).2 (l++[(below b nP 1 r).1]) (m++[(num b 3 (below b nP 1 r).2).1])
theorem aae(b:ByteArray)(a:Nat):∀n r l m,(xG b a n r l m).1.length=l.length+n/\(xG b a n r l m).2.1.length=m.length+n
 |0,_,_,_=>⟨rfl,rfl⟩
 |n+1,r,l,m=>by
  rw[xG];obtain⟨h1,h2⟩:=aae b a n (num b 3 (below b a 1 r).2).2 (l++[(below b a 1 r).1]) (m++[(num b 3 (below b a 1 r).2).1]);rw[h1,h2];simp;omega
theorem aaK(b:ByteArray)(c:Nat):∀n r l m,(∀x∈m,x<16777216)->∀x∈(xG b c n r l m).2.1,x<16777216
 |0,_,_,_,h=>h
 |n+1,r,l,m,h=>by
  rw[xG];refine aaK b c n _ _ _ fun x a=>?_
  rcases dq.1 a with a|a
  ·exact h x a
  ·rw[dd]at a
   subst a;exact Gc b 3 _
end Pk
theorem Tryz.abB:(prog.info? 138).map (fun i=>(i.zero,i.size,i.bytes))=ο (ο (.agg #[.int ξ 0,.int ξ 0]),2,16):=by kernel_rfl
theorem Tryz.acD:prog.underlying 132=ο (.slice 138):=by kernel_rfl
theorem Tryz.Ow:prog.underlying 47=ο (.slice 3):=by kernel_rfl
theorem uU{row:Option Nat}(h:φ B w0 w)(d:B<=w.heap.size)(a:w.grownBy w' row)(c:∀k,row=ο k->B<=k):φ B w0 w' :=
 ⟨a.1.trans h.1,a.2.trans h.2,a.3.trans h.3,cY h.4 a.size,fun k b=>(a.block k (by omega) fun e=>by have:=c k e.symm;omega).trans (h.block k b)⟩
theorem l6(h:φ B w0 w)(hp:B<=pb):φ B w0 (w.setCell ⟨pb,i,ν⟩ x) :=
 ⟨h.1,h.2,h.3,by simpa using h.4,fun k a=>(aY _ _ (by omega)).trans (h.block k a)⟩
namespace Pk
def h1(b:ByteArray):Nat×Rd:=size b 300 ⟨0,ε⟩
def h2(b:ByteArray):Nat×Rd:=size b 1000 (h1 b).2
def h3(b:ByteArray):Nat×Rd:=size b 1000 (h2 b).2
def h4(b:ByteArray):Nat×Rd:=size b 200 (h3 b).2
def w1(b:ByteArray):List ByteArray×Rd:=words b (h2 b).1 (h4 b).2
def w2(b:ByteArray):List ByteArray×Rd:=words b (h3 b).1 (w1 b).2
def pr(b:ByteArray):List (Nat×Nat)×Rd:=F4 b (h2 b).1 (h3 b).1 (h4 b).1 (w2 b).2 []
def st(b:ByteArray):List Nat×List Nat×Rd:=xG b (h4 b).1 (h1 b).1 (pr b).2 [] []
def p0(b:ByteArray):T:={ aD:=(st b).2.1,ak:=[],toks:=(w1 b).1,aT:=(w2 b).1,prods:=(pr b).1,aH:=(st b).1 }
def pl(b:ByteArray):List (Nat×Nat×Nat)×Rd:=places b (p0 b) (st b).2.2
def got(b:ByteArray):Nat×Rd:=num b 4 (pl b).2
def pack(b:ByteArray):T:={ p0 b with ak:=(pl b).1 }
def ok(b:ByteArray):Bool:=!(got b).2.bad && decide ((got b).1=sum b (pl b).2.k) && decide ((got b).2.k=b.size)
theorem BO{r:Rd}(h:0<m):1<=(size b m r).1/\(size b m r).1<=m:=by
 have:=FN (b:=b) (n:=2) (r:=r) h;unfold size;exact⟨by show 1<=_+1;omega,by show _+1<=m;omega⟩
theorem anW(b:ByteArray):(1<=(h1 b).1/\(h1 b).1<=300)/\(1<=(h2 b).1/\(h2 b).1<=1000)/\(1<=(h3 b).1/\(h3 b).1<=1000)/\(1<=(h4 b).1/\(h4 b).1<=200):=by
 unfold h4 h3 h2 h1;exact⟨BO (by decide),BO (by decide),BO (by decide),BO (by decide)⟩
theorem abC(b:ByteArray):(p0 b).aD.length=(h1 b).1:=by
 unfold p0 st;rw[(aae ..).2];exact fX _
theorem ajF(b:ByteArray):(p0 b).toks.length=(h2 b).1:=by
 unfold p0 w1
 dsimp only
 rw[Jk]
theorem ali(b:ByteArray):(p0 b).aT.length=(h3 b).1:=by
 unfold p0 w2
 dsimp only
 rw[Jk]
theorem am4(b:ByteArray):Hq (p0 b):=by
 obtain⟨a1,a2,a3,-⟩:=anW b;refine⟨by rw[abC];exact a1.1,by rw[abC];exact a1.2,by rw[ajF];exact a2.2,by rw[ali];exact a3.2,?_⟩;unfold p0 st;exact aaK _ _ _ _ _ _ (by simp)
end Pk
structure jI(w0 w:ω)(b:ByteArray)(B rb pb:Nat)(r:Pk.Rd)(v:cu)(p:Pk.T):Prop where
 r:fT w rb b r
 p:aQ w B pb v p
 b:φ B w0 w
 hB:B<=w.heap.size
 rb:B<=rb
 pb:B<=pb
section
variable{w0 w w':ω}{b:ByteArray}{B rb pb:Nat}{r r':Pk.Rd}{v:cu}{p:Pk.T}
theorem jI.read(h:jI w0 w b B rb pb r v p)(T:jw w rb b w' r'):jI w0 w' b B rb pb r' v p:=⟨T.m,h.p.read h.r T,uU h.b h.hB T.g fun k e=>by cases e;exact h.rb,cY h.hB T.g.size,h.rb,h.pb⟩
theorem jI.below(h:jI w0 w b B rb pb r v p)(a:φ w.heap.size w w'):jI w0 w' b B rb pb r v p:=⟨h.r.move (a.block _ h.r.blk.lt),h.p.move fun k c=>a.block k (h.p.lt c),⟨a.1.trans h.b.1,a.2.trans h.b.2,a.3.trans h.b.3,cY h.b.4 a.4,fun k c=>(a.block k (dg c h.hB)).trans (h.b.block k c)⟩,cY h.hB a.size,h.rb,h.pb⟩
theorem jI.grow(h:jI w0 w b B rb pb r v p){f:cu}{d:Pk.T}(c:∀g,u.ownBlock=ο g->v.own pb g/\B<=g)(a:w.grownBy w' u.ownBlock)(j:aQ (w'.setCell ⟨pb,i,ν⟩ x) B pb f d):jI w0 (w'.setCell ⟨pb,i,ν⟩ x) b B rb pb r f d :=
 ⟨h.r.move ((aY _ _ fun e=>h.p.EG h.r (.inl e)).trans (a.block rb h.r.blk.lt fun e=>h.p.EG h.r (c rb e.symm).1)),j,l6 (uU h.b h.hB a fun k e=>(c k e).2) h.pb,by simpa using cY h.hB a.size,h.rb,h.pb⟩
theorem agw{t:ByteArray}(h:0<t.size):t.toList.isEmpty=ε:=by
 rw[Lib.toList_data];cases e:t.data.toList with
 |nil=>
  have:t.data.toList.length=0:=by rw[e];rfl
  rw[jx]at this;have:t.size=0:=this;omega
 |cons a l=>rfl
theorem aiv(w0:ω)(hS:kZ w0)(h0:0<w0.heap.size)(b:ByteArray)(aV:b.size<=281474976710656){x1 x2 x3 x4:Nat×Pk.Rd}{y1 y2:List ByteArray×Pk.Rd}{z:List (Nat×Nat)×Pk.Rd}{s:List Nat×List Nat×Pk.Rd}{p0:Pk.T}{q:List (Nat×Nat×Nat)×Pk.Rd}{g:Nat×Pk.Rd}
  (e1:Pk.size b 300 ⟨0,ε⟩=x1) (e2:Pk.size b 1000 x1.2=x2) (e3:Pk.size b 1000 x2.2=x3) (e4:Pk.size b 200 x3.2=x4) (e5:Pk.words b x2.1 x4.2=y1) (e6:Pk.words b x3.1 y1.2=y2) (e7:Pk.F4 b x2.1 x3.1 x4.1 y2.2 []=z) (e8:Pk.xG b x4.1 x1.1 z.2 [] []=s)
  (e9:p0={ aD:=s.2.1,ak:=[],toks:=y1.1,aT:=y2.1,prods:=z.1,aH:=s.1 }) (ah:Pk.places b p0 s.2.2=q) (ai:Pk.num b 4 q.2=g) (av:Hq p0) :
  χ prog 45 #[τ b] w0 fun e w'=>∃rb pb v,e=δ (θ #[π (ο ⟨pb,0,ν⟩),μ (!g.2.bad && decide (g.1=Pk.sum b q.2.k) && decide (g.2.k=b.size))])/\jI w0 w' b w0.heap.size rb pb g.2 v { p0 with ak:=q.1 }:=by
 have a1:1<=x1.1/\x1.1<=300:=by rw[<-e1];exact Pk.BO (by decide)
 have a2:1<=x2.1/\x2.1<=1000:=by rw[<-e2];exact Pk.BO (by decide)
 have a3:1<=x3.1/\x3.1<=1000:=by rw[<-e3];exact Pk.BO (by decide)
 have a4:1<=x4.1/\x4.1<=200:=by rw[<-e4];exact Pk.BO (by decide)
 obtain⟨rb,ab⟩:=aF w0.heap.size;obtain⟨w1,M⟩:=aC (w0.alloc (ζ #[τ b,μ ε] 241));have ap:φ rb w0 w1:=by rw[M,<-ab];exact(cV _ _).alloc (zL0) _
 have aq:fT w1 rb b ⟨0,ε⟩:=by
  refine⟨?_,fi _⟩;show aj w1 rb #[τ (b.extract 0 b.size),μ ε] 241;rw[ByteArray.extract_zero_size,M,<-ab];exact aj.new ..
 have G:w1.heap.size=rb+1:=by rw[M,<-ab];simp
 have q1:=NH (m:=300) aq (by decide) (by decide);rw[e1]at q1;have Q2:Hid (∀w2,jw w1 rb b w2 x1.2->χ prog 93 #[π (ο ⟨rb,0,ν⟩),ι ξ 1000] w2 fun e w'=>e=δ (ι ξ (x2.1:Int))/\jw w2 rb b w' x2.2):=fun w2 T=>by rw[<-e2];exact NH (m:=1000) T.m (by decide) (by decide)
 have Q3:Hid (∀w2 W,jw w2 rb b W x2.2->χ prog 93 #[π (ο ⟨rb,0,ν⟩),ι ξ 1000] W fun e w'=>e=δ (ι ξ (x3.1:Int))/\jw W rb b w' x3.2):=fun w2 W T=>by rw[<-e3];exact NH (m:=1000) T.m (by decide) (by decide)
 have Q4:Hid (∀W w4,jw W rb b w4 x3.2->χ prog 93 #[π (ο ⟨rb,0,ν⟩),ι ξ 200] w4 fun e w'=>e=δ (ι ξ (x4.1:Int))/\jw w4 rb b w' x4.2):=fun W w4 T=>by rw[<-e4];exact NH (m:=200) T.m (by decide) (by decide)
 have E5:Hid _:=e5;have E6:Hid _:=e6;have E7:Hid _:=e7;have E8:Hid _:=e8;have E9:Hid _:=e9;have az:Hid _:=ah;have aA:Hid _:=ai;clear e1 e2 e3 e4 e5 e6 e7 e8 e9 ah ai;obtain⟨o,ho⟩:=aF ((!g.2.bad && decide (g.1=Pk.sum b q.2.k) && decide (g.2.k=b.size)));rw[ab,ho];have HO:Hid _:=ho;clear ho;go_enter func45,ntmps45;go_upto_region 2 with fail
 rw[<-M];clear M aq;go_upto_region 3 with (first
  | (go_at_call 93;refine q1.mono ?_;rintro e w2⟨rfl,T2⟩;clear q1;have q2:=Q2.out w2 T2;clear Q2)
  | (go_at_call 93;refine q2.mono ?_;rintro e W⟨rfl,T3⟩;clear q2;have q3:=Q3.out w2 W T3;clear Q3)
  | (go_at_call 93;refine q3.mono ?_;rintro e w4⟨rfl,T4⟩;clear q3;have q4:=Q4.out W w4 T4;clear Q4)
  | (go_at_call 93;refine q4.mono ?_;rintro e w5⟨rfl,T5⟩;clear q4))
 have am:φ rb w0 w5:=uU (uU (uU (uU ap (by omega) T2.g fun k e=>by cases e;exact zL0) (by rw[T2.bL];omega) T3.g fun k e=>by cases e;exact zL0) (by rw[T3.bL,T2.bL];omega) T4.g fun k e=>by cases e;exact zL0) (by rw[T4.bL,T3.bL,T2.bL];omega) T5.g fun k e=>by cases e;exact zL0
 have WK:w5.heap.size=rb+1:=by rw[T5.bL,T4.bL,T3.bL,T2.bL,G]
 have Lp:=T5.m;clear T2 T3 T4 T5 ap G;have q5:=aac Lp a2.2;rw[E5.out,WK]at q5;have Q6:Hid (∀Y,fT Y rb b y1.2->χ prog 94 #[π (ο ⟨rb,0,ν⟩),ι ξ (x3.1:Int)] Y fun e w'=>e=δ (ς (ο ⟨Y.heap.size,0,ν⟩) x3.1 x3.1)/\aj w' Y.heap.size (lT y2.1) 9/\fT w' rb b y2.2/\Y.grownBy w' (ο rb)):=fun Y h=>by rw[<-E6.out];exact aac h a3.2
 go_upto_region 4 with (first
  | (go_at_call 94;refine q5.mono ?_;rintro e Y⟨rfl,kT,ag,WL⟩;clear q5;have q6:=Q6.out Y ag;clear Q6)
  | (go_at_call 94;refine q6.mono ?_;rintro e w7⟨rfl,kN,WM,AP⟩;clear q6))
 obtain⟨pb,ac⟩:=aF w7.heap.size;obtain⟨gn,N⟩:=aF Y.heap.size;obtain⟨w8,J⟩:=aC (w7.alloc (ζ #[ς ν 0 0,ς ν 0 0,ς (ο ⟨rb+1,0,ν⟩) x2.1 x2.1,ς (ο ⟨gn,0,ν⟩) x3.1 x3.1,ς ν 0 0,ς ν 0 0] 134));rw[ac,N,<-J];have L1:y1.1.length=x2.1:=by rw[<-E5.out];exact Pk.Jk ..
 have L2:y2.1.length=x3.1:=by rw[<-E6.out];exact Pk.Jk ..
 have S0:jI w0 w8 b rb rb pb y2.2 { vB:=ς ν 0 0,vP:=ς ν 0 0,vT:=ς (ο ⟨rb+1,0,ν⟩) x2.1 x2.1,vN:=ς (ο ⟨gn,0,ν⟩) x3.1 x3.1,vR:=ς ν 0 0,vD:=ς ν 0 0 } { aD:=[],ak:=[],toks:=y1.1,aT:=y2.1,prods:=[],aH:=[] }:=by
  have k1:=WL.size;have k2:=AP.size;have hA:∀k,k<w7.heap.size->w8.heap[k]?=w7.heap[k]?:=fun k hk=>by rw[J];exact ed _ _ _ hk
  have aw:aj w8 (rb+1) (lT y1.1) 9:=((hA _ (dg kT.lt k2)).trans (AP.block _ kT.lt fun e=>by simp at e)).trans kT;have ar:aj w8 gn (lT y2.1) 9:=(hA _ (by rw[<-N];exact kN.lt)).trans (by rw[<-N];exact kN);refine⟨WM.move (hA _ WM.blk.lt),⟨?_,eV ..,eV ..,⟨rb+1,by rw[L1],aw⟩,⟨gn,by rw[L2],ar⟩,eV ..,eV ..,fun g e=>(by cases e),fun g e=>e.elim (fun e=>(by cases e;exact nh _)) fun e=>(by cases e;rw[<-N];exact cY (by rw[WK];exact nh _) k1)⟩,?_,?_,zL0,by omega⟩
  ·rw[J,<-ac]
   exact aj.new ..
  ·rw[J]
   exact(uU (uU am (by omega) WL fun k e=>by cases e;exact zL0) (by omega) AP fun k e=>by cases e;exact zL0).alloc (by omega) _
  ·have:w8.heap.size=w7.heap.size+1:=by rw[J];simp
   omega
 have Hl:Hid (jI w0 w8 b rb rb pb y2.2 _ _):=S0;clear S0 J Lp ag WM WL AP kT kN am WK L1 L2 ac N;go_upto_region 5 with fail
 obtain⟨i0,V,P,G,S⟩:=ft Tryz.abB
 go_loopw [25] (fun i wr=>∃(j:Nat)(L:Pk.Rd)(l:List (Nat×Nat))(u:cu),i=ι ξ (j:Int)/\Hid (j<=x4.1/\l.length=j/\jI w0 wr b rb rb pb L u { aD:=[],ak:=[],toks:=y1.1,aT:=y2.1,prods:=l,aH:=[] }/\z=Pk.F4 b x2.1 x3.1 (x4.1-j) L l)) (fun i _=>x4.1 - (intOf i).toNat)
 case atStart=>exact⟨0,y2.2,[],_,rfl,fi _,rfl,Hl.out,E7.out.symm⟩
 case round=>
  clear Hl E7;obtain⟨j,L,l,u,rfl,HI⟩:=hrel;obtain⟨hj,hl,a,C⟩:=HI.out;clear HI
  by_cases hjn:j<x4.1
  ·have j1:(j:Int)<(x4.1:Int):=by omega
   obtain⟨n,hn⟩:∃n,x4.1-j=n+1:=⟨x4.1-j-1,by omega⟩;rw[hn,Pk.F4]at C;obtain⟨u1,F⟩:=aF (Pk.below b x3.1 2 L);rw[F]at C;obtain⟨u2,D⟩:=aF (Pk.below b 1001 2 u1.2);rw[D]at C;have d1:u1.1<1000:=by rw[<-F];exact dg (Pk.FN (by omega)) a3.2
   have d2:u2.1<1001:=by rw[<-D];exact Pk.FN (by omega)
   obtain⟨A,x,y,-⟩:=aB a.p.rR
   dsimp only at y
   have GV:l.length<=200:=by omega
   obtain⟨m1,al⟩:=aF (x2.1+u1.1);have ew:IntKind.i64.wrap ((x2.1:Int)+(u1.1:Int))=(m1:Int):=by rw[gx];omega
   rw[al]at C;clear al;have c4:wr.cell? ⟨pb,4,ν⟩=ο (ς A l.length x):=by rw[<-y];exact a.p.blk.cell 4
   have O:=FI (w:=wr.drew) (m:=x3.1) (a.r.move rfl) (show 2<=4 by decide);rw[F]at O;have HA:Hid (∀E,jw wr.drew rb b E u1.2->E.cell? ⟨pb,4,ν⟩=ο (ς A l.length x)/\jI w0 E b rb rb pb u1.2 u { aD:=[],ak:=[],toks:=y1.1,aT:=y2.1,prods:=l,aH:=[] }/\χ prog 95 #[π (ο ⟨rb,0,ν⟩),ι ξ 1001,ι ξ 2] E fun e w'=>e=δ (ι ξ (u2.1:Int))/\jw E rb b w' u2.2):=fun E T=>by
    have EJ:=(a.below (w':=wr.drew) ⟨rfl,rfl,rfl,zL0,fun _ _=>rfl⟩).read T;exact⟨by rw[<-y];exact EJ.p.blk.cell 4,EJ,by rw[<-D];exact FI (m:=1001) T.m (show 2<=4 by decide)⟩
   have HB:Hid (∀E d o,jI w0 E b rb rb pb u1.2 u { aD:=[],ak:=[],toks:=y1.1,aT:=y2.1,prods:=l,aH:=[] }->jw E rb b d u2.2->d.cell? ⟨pb,4,ν⟩=ο (ς A l.length x)/\(∀o,(d.alloc o).cell? ⟨pb,4,ν⟩=ο (ς A l.length x))/\jI w0 d b rb rb pb u2.2 u { aD:=[],ak:=[],toks:=y1.1,aT:=y2.1,prods:=l,aH:=[] }/\(d.alloc o).ownsRow rb 138 2 (ς A l.length x) l.length (l.flatMap fI)/\aj (d.alloc o) pb u.cells 134/\rb<=(d.alloc o).heap.size):=fun E d o EJ T=>by
    have f:=EJ.read T;have c:d.cell? ⟨pb,4,ν⟩=ο (ς A l.length x):=by rw[<-y];exact f.p.blk.cell 4
    refine⟨c,fun o=>(cQ (w:=d) (ed _ _ _ f.p.kp.lt)).trans c,f,?_,f.p.blk.alloc _,cY f.hB (aM d _ ν).size⟩;rw[<-y];exact f.p.rR.alloc _
   have I:(ς A l.length x).ownBlock≠ο pb:=fun e=>(a.p.kR (by rw[y];exact e)).ne a.p.kp (by decide) rfl
   have HV:Hid _:=y;have HL:Hid _:=hl;have HW:Hid _:=C;clear a C F D y hl;go_upto_region 6 with fail
   go_region_law (first
    | (refine eZ rfl 95 #[π (ο ⟨rb,0,ν⟩),ι ξ (x3.1:Int),ι ξ 2] (by go_simp) O ?_;rintro e E⟨rfl,TA⟩;refine⟨_,rfl,?_⟩;clear O;obtain⟨cA,EJ,q9⟩:=HA.out E TA;clear HA)
    | (refine eZ rfl 95 #[π (ο ⟨rb,0,ν⟩),ι ξ 1001,ι ξ 2] (by go_simp) q9 ?_;rintro e d⟨rfl,TB⟩;refine⟨_,rfl,?_⟩;clear q9;obtain⟨cB,dB,f,o3,jg,Q⟩:=HB.out E d (ζ #[ι ξ (m1:Int),ι ξ (u2.1:Int)] 138) EJ TB;clear HB)
    | (refine step_append_lies _ rfl (.tmp 31) (.tmp 38) 132 rfl rb 138 i0 _ 2 16 Tryz.acD V P G S rfl (by decide) (ς A l.length x) l.length (l.flatMap fI) (by simp[Act.eval]) o3 ⟨d.heap.size,0,ν⟩ 1 1 [ι ξ (m1:Int),ι ξ (u2.1:Int)] (by simp[Act.eval]) rfl (bQ (aj.new d _ 138)) (by simp[Value.oneCell']) (by decide) (by unfold maxLen;omega) (by omega) Q _ rfl ?_;intro K U X jE iC iY Co;have jy:=jg.grown iC (fun e=>I e.symm);have c9:X.cell? ⟨pb,4,ν⟩=ο u.vR:=jy.cell 4;have f9:=jy.frozen 4))
   all_goals
    have R:d.grownBy X u.vR.ownBlock:=by rw[HV.out];exact aI (aM d _ _) iC
    have kI:X.ownsRow rb 138 2 (ς (ο ⟨K,0,ν⟩) (l.length+1) U) (l++[(m1,u2.1)]).length ((l++[(m1,u2.1)]).flatMap fI):=by
     rw[ik,cJ];exact jE
    have HN:Hid (jI w0 (X.setCell ⟨pb,4,ν⟩ (ς (ο ⟨K,0,ν⟩) (l.length+1) U)) b rb rb pb u2.2 { u with vR:=ς (ο ⟨K,0,ν⟩) (l.length+1) U } { aD:=[],ak:=[],toks:=y1.1,aT:=y2.1,prods:=l++[(m1,u2.1)],aH:=[] }):=f.grow (fun g e=>⟨.inr (.inr (.inr (.inr (.inr (.inl e))))),(f.p.rR.lt g e).1⟩) R (f.p.anT R kI);clear R kI jE iC iY jy c9 f9 o3 jg cA cB dB EJ f;go_wp2_with fail;refine⟨⟨j+1,u2.2,l++[(m1,u2.1)],_,by go_num,by omega,by rw[cJ,HL.out];rfl,HN.out,?_⟩,by simp[intOf];omega⟩;rw[show x4.1 - (j+1)=n by omega];exact HW.out
  ·obtain rfl:j=x4.1:=by omega
   rw[io,Pk.F4]at C;rw[<-show z.1=l by rw[C]]at a;rw[<-show z.2=L by rw[C]]at a;have Lu:Hid _:=a;clear a C hl;go_upto_region 8 with fail
   clear V P G S i0;obtain⟨i0,V,P,G,S⟩:=ft Tryz.info3;go_upto_region 9 with fail
   go_loopw [44] (fun i wr=>∃(j:Nat)(L:Pk.Rd)(l m:List Nat)(u:cu),i=ι ξ (j:Int)/\Hid (j<=x1.1/\l.length=j/\m.length=j/\jI w0 wr b rb rb pb L u { aD:=m,ak:=[],toks:=y1.1,aT:=y2.1,prods:=z.1,aH:=l }/\s=Pk.xG b x4.1 (x1.1-j) L l m)) (fun i _=>x1.1 - (intOf i).toNat)
   case atStart=>exact⟨0,z.2,[],[],u,rfl,fi _,rfl,rfl,Lu.out,E8.out.symm⟩
   case round=>
    clear Lu E8;clear u L l;obtain⟨j,L,l,m,u,rfl,HI⟩:=hrel;obtain⟨hj,hl,hm,a,C⟩:=HI.out;clear HI
    by_cases hjn:j<x1.1
    ·have j1:(j:Int)<(x1.1:Int):=by omega
     obtain⟨n,hn⟩:∃n,x1.1-j=n+1:=⟨x1.1-j-1,by omega⟩;rw[hn,Pk.xG]at C;obtain⟨u1,F⟩:=aF (Pk.below b x4.1 1 L);rw[F]at C;obtain⟨u2,D⟩:=aF (Pk.num b 3 u1.2);rw[D]at C;have d2:u2.1<16777216:=by rw[<-D];exact Pk.Gc b 3 _
     have GV:l.length<=300:=by omega
     have aP:m.length<=300:=by omega
     obtain⟨A,x,y,-⟩:=aB a.p.rD
     dsimp only at y
     have c4:wr.cell? ⟨pb,5,ν⟩=ο (ς A l.length x):=by rw[<-y];exact a.p.blk.cell 5
     have O:=FI (w:=wr.drew) (m:=x4.1) (a.r.move rfl) (show 1<=4 by decide);rw[F]at O;have HB:Hid (∀d o,jw wr.drew rb b d u1.2->d.cell? ⟨pb,5,ν⟩=ο (ς A l.length x)/\(∀o,(d.alloc o).cell? ⟨pb,5,ν⟩=ο (ς A l.length x))/\jI w0 d b rb rb pb u1.2 u { aD:=m,ak:=[],toks:=y1.1,aT:=y2.1,prods:=z.1,aH:=l }/\(d.alloc o).ownsRow rb 3 1 (ς A l.length x) l.length (l.map bA)/\aj (d.alloc o) pb u.cells 134/\rb<=(d.alloc o).heap.size):=fun d o T=>by
      have f:=(a.below (w':=wr.drew) ⟨rfl,rfl,rfl,zL0,fun _ _=>rfl⟩).read T;have c:d.cell? ⟨pb,5,ν⟩=ο (ς A l.length x):=by rw[<-y];exact f.p.blk.cell 5
      refine⟨c,fun o=>(cQ (w:=d) (ed _ _ _ f.p.kp.lt)).trans c,f,?_,f.p.blk.alloc _,cY f.hB (aM d _ ν).size⟩;rw[<-y];exact f.p.rD.alloc _
     have I:(ς A l.length x).ownBlock≠ο pb:=fun e=>(a.p.kD (by rw[y];exact e)).ne a.p.kp (by decide) rfl
     have HV:Hid _:=y;have HL:Hid (l.length=j/\m.length=j):=⟨hl,hm⟩;have HW:Hid _:=C;have HU:Hid _:=D;clear a C F D y hl hm;go_upto_region 10 with fail
     go_region_law (first
      | (refine eZ rfl 95 #[π (ο ⟨rb,0,ν⟩),ι ξ (x4.1:Int),ι ξ 1] (by go_simp) O ?_;rintro e d⟨rfl,TB⟩;refine⟨_,rfl,?_⟩;clear O;obtain⟨cB,dB,f,o3,jg,Q⟩:=HB.out d (ζ #[ι ξ (u1.1:Int)] 3) TB;clear HB)
      | (refine step_append_lies _ rfl (.tmp 50) (.tmp 53) 47 rfl rb 3 i0 _ 1 8 Tryz.Ow V P G S rfl (by decide) (ς A l.length x) l.length (l.map bA) (by simp[Act.eval]) o3 ⟨d.heap.size,0,ν⟩ 1 1 [ι ξ (u1.1:Int)] (by simp[Act.eval]) rfl (bQ (aj.new d _ 3)) (by simp[Value.oneCell']) (by decide) (by unfold maxLen;omega) (by omega) Q _ rfl ?_;intro K U X jE iC iY Co;have jy:=jg.grown iC (fun e=>I e.symm);have c9:X.cell? ⟨pb,5,ν⟩=ο u.vD:=jy.cell 5;have f9:=jy.frozen 5))
     all_goals
      have R:d.grownBy X u.vD.ownBlock:=by rw[HV.out];exact aI (aM d _ _) iC
      have kI:X.ownsRow rb 3 1 (ς (ο ⟨K,0,ν⟩) (l.length+1) U) (l++[u1.1]).length ((l++[u1.1]).map bA):=by
       rw[ee,cJ];exact jE
      have Cq:(ς (ο ⟨K,0,ν⟩) (l.length+1) U).ownBlock=u.vD.ownBlock\/∃g,(ς (ο ⟨K,0,ν⟩) (l.length+1) U).ownBlock=ο g/\d.heap.size<=g:=by
       rw[HV.out];rcases iY with e|e
       ·exact .inl e.symm
       ·exact .inr ⟨K,rfl,by rw[e];exact(aM d _ ν).size⟩
      have AQ:jI w0 (X.setCell ⟨pb,5,ν⟩ (ς (ο ⟨K,0,ν⟩) (l.length+1) U)) b rb rb pb u1.2 { u with vD:=ς (ο ⟨K,0,ν⟩) (l.length+1) U } { aD:=m,ak:=[],toks:=y1.1,aT:=y2.1,prods:=z.1,aH:=l++[u1.1] }:=f.grow (fun g e=>⟨.inr (.inr (.inr (.inr (.inr (.inr e))))),(f.p.rD.lt g e).1⟩) R (f.p.anU R kI Cq);clear R kI Cq jE iC iY jy c9 f9 o3 jg cB dB f I HV c4;generalize X.setCell ⟨pb,5,ν⟩ (ς (ο ⟨K,0,ν⟩) (l.length+1) U)=wr at AQ|-;generalize ({ u with vD:=ς (ο ⟨K,0,ν⟩) (l.length+1) U }:cu)=u at AQ;obtain⟨A,x,y,-⟩:=aB AQ.p.rB
      dsimp only at y
      have c4:wr.cell? ⟨pb,0,ν⟩=ο (ς A m.length x):=by rw[<-y];exact AQ.p.blk.cell 0
      have O:=FP (w:=wr.drew) (AQ.r.move rfl) (show 3<=4 by decide);rw[HU.out]at O;have HB:Hid (∀d o,jw wr.drew rb b d u2.2->d.cell? ⟨pb,0,ν⟩=ο (ς A m.length x)/\(∀o,(d.alloc o).cell? ⟨pb,0,ν⟩=ο (ς A m.length x))/\jI w0 d b rb rb pb u2.2 u { aD:=m,ak:=[],toks:=y1.1,aT:=y2.1,prods:=z.1,aH:=l++[u1.1] }/\(d.alloc o).ownsRow rb 3 1 (ς A m.length x) m.length (m.map bA)/\aj (d.alloc o) pb u.cells 134/\rb<=(d.alloc o).heap.size):=fun d o T=>by
       have f:=(AQ.below (w':=wr.drew) ⟨rfl,rfl,rfl,zL0,fun _ _=>rfl⟩).read T;have c:d.cell? ⟨pb,0,ν⟩=ο (ς A m.length x):=by rw[<-y];exact f.p.blk.cell 0
       refine⟨c,fun o=>(cQ (w:=d) (ed _ _ _ f.p.kp.lt)).trans c,f,?_,f.p.blk.alloc _,cY f.hB (aM d _ ν).size⟩;rw[<-y];exact f.p.rB.alloc _
      have I:(ς A m.length x).ownBlock≠ο pb:=fun e=>(AQ.p.kB (by rw[y];exact e)).ne AQ.p.kp (by decide) rfl
      have HV:Hid _:=y;clear AQ y;go_upto_region 11 with fail
      have ew:IntKind.i64.wrap (u2.1:Int)=(u2.1:Int):=by rw[gx];omega
      go_region_law (first
       | (refine eZ rfl 96 #[π (ο ⟨rb,0,ν⟩),ι ξ 3] (by go_simp) O ?_;rintro e wC⟨rfl,TB⟩;refine⟨_,rfl,?_⟩;clear O;obtain⟨cB,dB,f,o3,jg,Q⟩:=HB.out wC (ζ #[ι ξ (u2.1:Int)] 3) TB;clear HB)
       | (refine step_append_lies _ rfl (.tmp 62) (.tmp 65) 47 rfl rb 3 i0 _ 1 8 Tryz.Ow V P G S rfl (by decide) (ς A m.length x) m.length (m.map bA) (by simp[Act.eval]) o3 ⟨wC.heap.size,0,ν⟩ 1 1 [ι ξ (u2.1:Int)] (by simp[Act.eval]) rfl (bQ (aj.new wC _ 3)) (by simp[Value.oneCell']) (by decide) (by unfold maxLen;omega) (by omega) Q _ rfl ?_;intro gA Kh E ao Ub af aE;have WN:=jg.grown Ub (fun e=>I e.symm);have cA:E.cell? ⟨pb,0,ν⟩=ο u.vB:=WN.cell 0;have fA:=WN.frozen 0))
      all_goals
       have R:wC.grownBy E u.vB.ownBlock:=by rw[HV.out];exact aI (aM wC _ _) Ub
       have kI:E.ownsRow rb 3 1 (ς (ο ⟨gA,0,ν⟩) (m.length+1) Kh) (m++[u2.1]).length ((m++[u2.1]).map bA):=by
        rw[ee,cJ];exact ao
       have Cq:(ς (ο ⟨gA,0,ν⟩) (m.length+1) Kh).ownBlock=u.vB.ownBlock\/∃g,(ς (ο ⟨gA,0,ν⟩) (m.length+1) Kh).ownBlock=ο g/\wC.heap.size<=g:=by
        rw[HV.out];rcases af with e|e
        ·exact .inl e.symm
        ·exact .inr ⟨gA,rfl,by rw[e];exact(aM wC _ ν).size⟩
       have HN:Hid (jI w0 (E.setCell ⟨pb,0,ν⟩ (ς (ο ⟨gA,0,ν⟩) (m.length+1) Kh)) b rb rb pb u2.2 { u with vB:=ς (ο ⟨gA,0,ν⟩) (m.length+1) Kh } { aD:=m++[u2.1],ak:=[],toks:=y1.1,aT:=y2.1,prods:=z.1,aH:=l++[u1.1] }):=f.grow (fun g e=>⟨.inr (.inl e),(f.p.rB.lt g e).1⟩) R (f.p.anV R kI Cq);clear R kI Cq ao Ub af WN cA fA o3 jg cB dB f I HV c4;go_wp2_with fail;refine⟨⟨j+1,u2.2,l++[u1.1],m++[u2.1],_,by go_num,by omega,by rw[cJ,HL.out.1];rfl,by rw[cJ,HL.out.2];rfl,HN.out,?_⟩,by simp[intOf];omega⟩;rw[show x1.1 - (j+1)=n by omega];exact HW.out
    ·obtain rfl:j=x1.1:=by omega
     rw[io,Pk.xG]at C;rw[<-show s.1=l by rw[C],<-show s.2.1=m by rw[C],<-show s.2.2=L by rw[C]]at a;rw[<-E9.out]at a;have a9:p0.ak=[]:=by rw[E9.out]
     have Hr:=ahm a.r a.p a9 a.hB av;rw[az.out]at Hr;have Lu:Hid _:=a;clear a C hl hm;go_upto_region 14 with (go_at_call 97;refine Hr.mono ?_;rintro e wP⟨rfl,v2,Z,an,H⟩)
     have a:=Lu.out;have aa:jI w0 wP b rb rb pb q.2 v2 { p0 with ak:=q.1 }:=⟨Z,an,⟨H.fr.1.trans a.b.1,H.fr.2.1.trans a.b.2,H.fr.2.2.trans a.b.3,cY a.b.4 H.bL,fun k hk=>(H.aK k (dg hk a.hB) (by omega) fun e=>by have:=a.p.base a.pb e;omega).trans (a.b.block k hk)⟩,cY a.hB H.bL,a.rb,a.pb⟩;have hk:=Z.le;have Ht:=alf (hS.move (aa.b.block 0 (by omega))) (b.extract 0 q.2.k) (by simp;omega);rw[alg b hk]at Ht;have WO:=FP aa.r (show 4<=4 by decide);rw[aA.out]at WO;obtain⟨t,ht⟩:=aC (b.extract q.2.k b.size);have c0:wP.cell? ⟨rb,0,ν⟩=ο (τ t):=by rw[ht];exact Z.blk.cell 0
     have ax:(b.size:Int) - (t.size:Int)=(q.2.k:Int):=by
      have:t.size=b.size-q.2.k:=by rw[ht];simp
      omega
     have n0:(0:Int)<=(q.2.k:Int):=by omega
     have n1:(q.2.k:Int)<=(b.size:Int):=by omega
     have ae:Hid (∀wG,jw wP rb b wG g.2->jI w0 wG b rb rb pb g.2 v2 { p0 with ak:=q.1 }):=fun wG T=>aa.read T
     clear a Lu Z an H aa Hr hS ht;go_upto_region 15 with (go_at_call 98;refine Ht.mono ?_;rintro e wS⟨rfl,rfl⟩)
     go_upto_region 16 with (go_at_call 96;refine WO.mono ?_;rintro e wG⟨rfl,TG⟩)
     have LA:=ae.out wG TG;clear ae TG c0 Ht WO ax n0 n1;have c1:=LA.r.blk.a1;obtain⟨t2,ad⟩:=aC (b.extract g.2.k b.size);have c0:wG.cell? ⟨rb,0,ν⟩=ο (τ t2):=by rw[ad];exact LA.r.blk.cell 0
     have hsz:t2.size=b.size-g.2.k:=by rw[ad];simp
     have aR:=LA.r.le;have EK:Hid (∀nq,jI w0 (wG.drewN nq) b rb rb pb g.2 v2 { p0 with ak:=q.1 }):=fun nq=>LA.below ⟨rfl,rfl,rfl,zL0,fun _ _=>rfl⟩
     clear LA ad;cases hbad:g.2.bad with
     |true=>
      rw[hbad]at c1;obtain rfl:o=ε:=by rw[<-HO.out,hbad];rfl
      go_quiet (fail)
      go_wp2_with fail
      go_ret2
      exact⟨rb,pb,v2,rfl,EK.out _⟩
     |false=>
      rw[hbad]at c1
      by_cases hgs:g.1=Pk.sum b q.2.k
      ·have b1:((g.1:Int) == (Pk.sum b q.2.k:Int))=η:=by rw[hgs];exact tj _
       by_cases hsk:g.2.k=b.size
       ·obtain rfl:t2=ByteArray.empty:=by
         apply ul;apply Array.eq_empty_of_size_eq_zero;show t2.size=0;omega
        obtain rfl:o=η:=by rw[<-HO.out,hbad,ge hgs,ge hsk];rfl
        clear hgs hsk hsz
        go_quiet (fail)
        go_wp2_with fail
        go_ret2
        exact⟨rb,pb,v2,rfl,EK.out _⟩
       ·have b2:t2.toList.isEmpty=ε:=agw (by omega)
        obtain rfl:o=ε:=by rw[<-HO.out,hbad,ge hgs,fx hsk];rfl
        clear hgs hsk hsz
        go_quiet (fail)
        go_wp2_with fail
        go_ret2
        exact⟨rb,pb,v2,rfl,EK.out _⟩
      ·have b1:((g.1:Int) == (Pk.sum b q.2.k:Int))=ε:=ej.2 fun e=>hgs (by omega)
       obtain rfl:o=ε:=by rw[<-HO.out,hbad,fx hgs];rfl
       clear hgs
       go_quiet (fail)
       go_wp2_with fail
       go_ret2
       exact⟨rb,pb,v2,rfl,EK.out _⟩
theorem ajG(w0:ω)(d:kZ w0)(c:0<w0.heap.size)(b:ByteArray)(a:b.size<=281474976710656):χ prog 45 #[τ b] w0 fun e w'=>∃rb pb v,e=δ (θ #[π (ο ⟨pb,0,ν⟩),μ (Pk.ok b)])/\jI w0 w' b w0.heap.size rb pb (Pk.got b).2 v (Pk.pack b) :=
 aiv w0 d c b a (x1:=Pk.h1 b) (x2:=Pk.h2 b) (x3:=Pk.h3 b) (x4:=Pk.h4 b) (y1:=Pk.w1 b) (y2:=Pk.w2 b) (z:=Pk.pr b) (s:=Pk.st b) (p0:=Pk.p0 b) (q:=Pk.pl b) (g:=Pk.got b) (by unfold Pk.h1;rfl) (by unfold Pk.h2;rfl) (by unfold Pk.h3;rfl) (by unfold Pk.h4;rfl) (by unfold Pk.w1;rfl) (by unfold Pk.w2;rfl) (by unfold Pk.pr;rfl) (by unfold Pk.st;rfl) (by unfold Pk.p0;rfl) (by unfold Pk.pl;rfl) (by unfold Pk.got;rfl) (Pk.am4 b)
end
theorem Jz:∀(l:List (Nat×Nat×Nat))(i:Nat)(x:Nat×Nat×Nat),l[i]?=ο x->(l.flatMap cZ)[i*3]?=ο (ι ξ (x.1:Int))/\(l.flatMap cZ)[i*3+1]?=ο (ι ξ (x.2.1:Int))/\(l.flatMap cZ)[i*3+2]?=ο (ι ξ (x.2.2:Int))
 | [],i,x,h=>by simp at h
 |p::l,0,x,h=>by
  simp only[List.getElem?_cons_zero,Option.some.injEq]at h;subst h;exact⟨rfl,rfl,rfl⟩
 |p::l,i+1,x,h=>by
  have:=Jz l i x (by simpa using h);rw[eS,show cZ p=[ι ξ (p.1:Int),ι ξ (p.2.1:Int),ι ξ (p.2.2:Int)] from rfl,show (i+1)*3=i*3+3 by omega];exact this
theorem JA:∀(l:List (Nat×Nat))(i:Nat)(x:Nat×Nat),l[i]?=ο x->(l.flatMap fI)[i*2]?=ο (ι ξ (x.1:Int))/\(l.flatMap fI)[i*2+1]?=ο (ι ξ (x.2:Int))
 | [],i,x,h=>by simp at h
 |p::l,0,x,h=>by
  simp only[List.getElem?_cons_zero,Option.some.injEq]at h;subst h;exact⟨rfl,rfl⟩
 |p::l,i+1,x,h=>by
  have:=JA l i x (by simpa using h);rw[eS,show fI p=[ι ξ (p.1:Int),ι ξ (p.2:Int)] from rfl,show (i+1)*2=i*2+2 by omega];exact this
theorem jC{b:List υ}(h:W.ownsRow B e z v n b){j:Nat}(d:b[j]?=ο u):∃g cap,v=ς (ο ⟨g,0,ν⟩) n cap/\∀(i:Nat)u,b[i]?=ο u->W.cell? ⟨g,i,ν⟩=ο u:=by
 have f:=(cH.1 d).1;rcases h.2 with ⟨rfl,k⟩|⟨g,cap,c,rfl,-⟩
 ·have:=h.1
  subst k;omega
 ·have a:∀p,(⟨g,0,ν⟩:Addr).add p=⟨g,p,ν⟩:=fun p=>by unfold Addr.add;split <;> simp_all
  exact⟨g,cap,rfl,fun i u l=>by rw[<-a];exact oj h (g:=g) rfl _ _ l⟩
theorem within_iff{i:Int}:Pk.within i n=η↔0<=i/\i<(n:Int):=by
 unfold Pk.within;rw[ml,me,me]
namespace Pk
def BP(p:T)(i:Nat):Nat×Nat×Nat:=p.ak.getD i (0,0,0)
def cell(p:T)(q s:Nat):Nat×Nat:=if (BP p (p.aD.getD q 0+s)).2.2=q then ((BP p (p.aD.getD q 0+s)).1,(BP p (p.aD.getD q 0+s)).2.1) else (0,0)
def bH(p:T)(i:Int):Nat×Nat:=if within i p.prods.length=η then p.prods.getD i.toNat (0,0) else (0,0)
def act(p:T)(q n:Int):Nat×Nat:=if (within q p.aH.length && within n p.toks.length)=η then (if (cell p q.toNat n.toNat).1=0/\p.aH.getD q.toNat 0≠0 then (2,p.aH.getD q.toNat 0) else cell p q.toNat n.toNat) else (0,0)
def goto(p:T)(q n:Int):Nat:=if (within q p.aH.length && within n p.aT.length)=η then (cell p q.toNat (p.toks.length+n.toNat)).2 else 0
end Pk
section
variable{w:ω}{B pb:Nat}{v:cu}{p:Pk.T}
def isStr(P:Program)(t:Nat):Bool:=match P.underlying t with
 | some (.struct _)=>η
 |_=>ε
theorem oU{fn:Func}{p:Tmp}{ty:TypeId}{R:Ending->ω->Prop}(h:fn.results=#[.cell p ty]){tmps:Array υ}{g:Nat}{cs:Array υ}(hp:tmps.getD p undef=.pointer (ο ⟨g,0,ν⟩))(d:aj W g cs t)(a:isStr P ty=η)(f:(P.info? ty).map (·.size)=ο cs.size)(c:R (.returned (.agg cs)) W):bodyPost P fn R .ret { tmps,defers:=[] } W:=by
 obtain⟨b,a⟩:∃b,P.underlying ty=ο (.struct b):=by
  unfold isStr at a
  split at a
  ·exact⟨_,by assumption⟩
  ·cases a
 exact iS (results_cell_row h tmps W g t cs (0,0) _ hp d a rfl f) rfl c
theorem Y3{vP:υ}{b:List (Nat×Nat×Nat)}(h:w.ownsRow B 233 3 vP b.length (b.flatMap cZ))(i:Nat):χ prog 154 #[vP,ι ξ (i:Int)] w fun e w'=>e=δ (γ #[ι ξ ((b.getD i (0,0,0)).1:Int),ι ξ ((b.getD i (0,0,0)).2.1:Int),ι ξ ((b.getD i (0,0,0)).2.2:Int)])/\φ w.heap.size w w':=by
 obtain⟨a,c,r,-⟩:=aB h;have q:=fun w=>Ab (w:=w) (i:Int) b.length
 have k:∀o,φ w.heap.size w (w.alloc o):=fun o=>(cV _ _).alloc (zL0) o
 cases hi:b[i]? with
 |none=>
  have l:Pk.within (i:Int) b.length=ε:=by
   have:=List.getElem?_eq_none_iff.1 hi;rw[<-rI,within_iff];omega
  have hp:b.getD i (0,0,0)=(0,0,0):=by simp[hi]
  rw[r,hp];simp only[l]at q;go_enter func154,ntmps154
  go_wp2_with (go_at_call 99;refine(q _).mono ?_;rintro e w1⟨rfl,rfl⟩)
  exact oU rfl rfl ((aj.new ..).alloc _) (by kernel_rfl) (by kernel_rfl) ⟨rfl,(k _).alloc (by simp) _⟩
 |some x=>
  obtain⟨f1,f2,s⟩:=Jz _ _ _ hi;obtain⟨g,y,f,m⟩:=jC h f1;have t:=(cH.1 hi).1;have l:Pk.within (i:Int) b.length=η:=by
   rw[within_iff];omega
  have hp:b.getD i (0,0,0)=x:=by simp[hi]
  rw[f,hp];simp only[l]at q;have n:=(h.lt g (by rw[f];rfl)).2;have d:∀o(j:Nat)u,w.cell? ⟨g,j,ν⟩=ο u->(w.alloc o).cell? ⟨g,j,ν⟩=ο u:=fun o j u e=>(cQ (w:=w) (ed _ _ _ n)).trans e
  have z:=fun o=>d o _ _ (m _ _ f1)
  have d1:=fun o=>d o _ _ (m _ _ f2)
  have d2:=fun o=>d o _ _ (m _ _ s)
  have C:(0:Int)<=(i:Int):=by omega
  have A:(i:Int)<(b.length:Int):=by omega
  clear d m f1 f2 s r f hi l hp;go_enter func154,ntmps154
  go_wp2_with (go_at_call 99;refine(q _).mono ?_;rintro e w1⟨rfl,rfl⟩)
  exact oU rfl rfl (aj.new ..) (by kernel_rfl) (by kernel_rfl) ⟨rfl,k _⟩
theorem ahn(h:aQ w B pb v p)(i:Nat):χ prog 154 #[v.vP,ι ξ (i:Int)] w fun e w'=>e=δ (γ #[ι ξ ((Pk.BP p i).1:Int),ι ξ ((Pk.BP p i).2.1:Int),ι ξ ((Pk.BP p i).2.2:Int)])/\φ w.heap.size w w':=Y3 h.rP i
theorem aiw(h:aQ w B pb v p)(i:Int):χ prog 191 #[v.vR,ι ξ i] w fun e w'=>e=δ (γ #[ι ξ ((Pk.bH p i).1:Int),ι ξ ((Pk.bH p i).2:Int)])/\φ w.heap.size w w':=by
 obtain⟨a,c,r,-⟩:=aB h.rR;have q:=fun w=>Ab (w:=w) i p.prods.length
 have f:∀o,φ w.heap.size w (w.alloc o):=fun o=>(cV _ _).alloc (zL0) o
 by_cases hw:Pk.within i p.prods.length=η
 ·obtain⟨z,y⟩:=within_iff.1 hw
  obtain⟨n,rfl⟩:∃n:Nat,i=(n:Int):=⟨i.toNat,by omega⟩;obtain⟨x,k⟩:∃x,p.prods[n]?=ο x:=⟨_,cG (by omega)⟩;have hp:Pk.bH p (n:Int)=x:=by unfold Pk.bH;rw[du hw];simp[k]
  obtain⟨f1,f2⟩:=JA _ _ _ k;obtain⟨g,s,b,m⟩:=jC h.rR f1;rw[b,hp];simp only[hw]at q;have l:=(h.rR.lt g (by rw[b];rfl)).2;have d:∀o(j:Nat)u,w.cell? ⟨g,j,ν⟩=ο u->(w.alloc o).cell? ⟨g,j,ν⟩=ο u:=fun o j u e=>(cQ (w:=w) (ed _ _ _ l)).trans e
  have t:=fun o=>d o _ _ (m _ _ f1)
  have d1:=fun o=>d o _ _ (m _ _ f2)
  clear d m f1 f2 r b k hw hp;go_enter func191,ntmps191
  go_wp2_with (go_at_call 99;refine(q _).mono ?_;rintro e w1⟨rfl,rfl⟩)
  exact oU rfl rfl (aj.new ..) (by kernel_rfl) (by kernel_rfl) ⟨rfl,f _⟩
 ·have hp:Pk.bH p i=(0,0):=by unfold Pk.bH;rw[dt hw]
  rw[r,hp];simp only[Bool.eq_false_iff.2 hw]at q;go_enter func191,ntmps191
  go_wp2_with (go_at_call 99;refine(q _).mono ?_;rintro e w1⟨rfl,rfl⟩)
  exact oU rfl rfl ((aj.new ..).alloc _) (by kernel_rfl) (by kernel_rfl) ⟨rfl,(f _).alloc (by simp) _⟩
end
section
variable{w:ω}{B pb:Nat}{v:cu}{p:Pk.T}
theorem aaL(h:aQ w B pb v p){q:Nat}(hq:q<p.aD.length)(hz:p.aD.getD q 0+s<=1000000000):χ prog 156 #[π (ο ⟨pb,0,ν⟩),ι ξ (q:Int),ι ξ (s:Int)] w fun e w'=>e=δ (γ #[ι ξ ((Pk.cell p q s).1:Int),ι ξ ((Pk.cell p q s).2:Int)])/\φ w.heap.size w w':=by
  obtain⟨z,WQ⟩:∃z,p.aD[q]?=ο z:=⟨_,cG hq⟩;have ez:p.aD.getD q 0=z:=by simp[WQ]
  unfold Pk.cell;rw[ez]at hz|-;obtain⟨x,Z⟩:=aF (Pk.BP p (z+s));obtain⟨w1,m⟩:=aC (w.alloc (ζ #[ι ξ 0,ι ξ 0] 118));have c:φ w.heap.size w w1:=by rw[m];exact(cV _ _).alloc (zL0) _
  have kR:aj w1 w.heap.size #[ι ξ 0,ι ξ 0] 118:=by rw[m];exact aj.new ..
  have h1:=h.move fun k E=>c.block k (h.lt E)
  obtain⟨gB,cB,H,-,W⟩:=F3 h1.rB (p:=q) (u:=bA z) (by rw[dj,WQ];rfl);obtain⟨P,O,AO,-⟩:=aB h1.rP;have c0:w1.cell? ⟨pb,0,ν⟩=ο (ς (ο ⟨gB,0,ν⟩) p.aD.length cB):=by rw[<-H];exact h1.blk.cell 0
  have c1:w1.cell? ⟨pb,1,ν⟩=ο (ς P p.ak.length O):=by rw[<-AO];exact h1.blk.cell 1
  unfold bA at W;have K:Hid (∀I,φ w.heap.size w I->χ prog 154 #[ς P p.ak.length O,ι ξ ((z:Int)+(s:Int))] I fun e w'=>e=δ (γ #[ι ξ (x.1:Int),ι ξ (x.2.1:Int),ι ξ (x.2.2:Int)])/\φ I.heap.size I w'):=fun I i=>by
    have:=ahn (h.move (W':=I) fun k E=>i.block k (h.lt E)) (z+s);rw[Z,AO,qv]at this;exact this
  rw[Z];obtain⟨o,X⟩:∃o:Nat×Nat,(if x.2.2=q then (x.1,x.2.1) else (0,0))=o:=⟨_,rfl⟩;rw[X];have U:Hid (o=if x.2.2=q then (x.1,x.2.1) else (0,0)):=X.symm;clear X;have M:=h1.blk.lt;have aa:=(h1.rB.lt gB (by rw[H];rfl)).2;have R:∀o(g j:Nat)u,g<w1.heap.size->w1.cell? ⟨g,j,ν⟩=ο u->(w1.alloc o).cell? ⟨g,j,ν⟩=ο u:=fun o g j u hg e=>(cQ (w:=w1) (ed _ _ _ hg)).trans e
  have d0:=fun o=>R o _ _ _ M c0
  have d1:=fun o=>R o _ _ _ M c1
  have dz:=fun o=>R o _ _ _ aa W
  clear R;have N:w1.heap.size=w.heap.size+1:=by rw[m];simp
  obtain⟨d,n⟩:=aF w.heap.size;obtain⟨f,L⟩:=aF w1.heap.size;have Q:Hid (φ d w (w1.alloc (ζ #[ι ξ 0,ι ξ 0,ι ξ 0] 233)).drew/\∀w2,φ (w1.alloc (ζ #[ι ξ 0,ι ξ 0,ι ξ 0] 233)).drew.heap.size (w1.alloc (ζ #[ι ξ 0,ι ξ 0,ι ξ 0] 233)).drew w2->aj w2 f #[ι ξ 0,ι ξ 0,ι ξ 0] 233/\aj w2 d #[ι ξ 0,ι ξ 0] 118/\φ d w w2):=by
    have J:φ d w (w1.alloc (ζ #[ι ξ 0,ι ξ 0,ι ξ 0] 233)).drew:=by
      rw[n]at c;have:=c.alloc (by omega) (ζ #[ι ξ 0,ι ξ 0,ι ξ 0] 233);exact⟨this.1,this.2,this.3,this.4,this.5⟩
    have l:aj (w1.alloc (ζ #[ι ξ 0,ι ξ 0,ι ξ 0] 233)).drew f #[ι ξ 0,ι ξ 0,ι ξ 0] 233:=by rw[<-L];exact(aj.new ..).drew
    have kr:aj (w1.alloc (ζ #[ι ξ 0,ι ξ 0,ι ξ 0] 233)).drew d #[ι ξ 0,ι ξ 0] 118:=by rw[<-n];exact(kR.alloc _).drew
    refine⟨J,fun w2 i=>⟨(i.block _ l.lt).trans l,(i.block _ kr.lt).trans kr,i.1.trans J.1,i.2.trans J.2,i.3.trans J.3,cY J.4 i.4,fun k E=>(i.block k (sY E kr.lt)).trans (J.block k E)⟩⟩
  have S:Hid (φ d w w1.drew/\∀w2,φ w1.drew.heap.size w1.drew w2->aj w2 d #[ι ξ 0,ι ξ 0] 118/\φ d w w2/\d<w2.heap.size):=by
    rw[n]at c kR;refine⟨⟨c.1,c.2,c.3,c.4,c.5⟩,fun w2 i=>?_⟩;have kr:aj w2 d #[ι ξ 0,ι ξ 0] 118:=(i.block d kR.lt).trans kR;exact⟨kr,⟨i.1.trans c.1,i.2.trans c.2,i.3.trans c.3,cY c.4 i.4,fun k E=>(i.block k (sY E kR.lt)).trans (c.block k E)⟩,kr.lt⟩
  rw[n]at K|-;have q0:(0:Int)<=(q:Int):=by omega
  have q1:(q:Int)<(p.aD.length:Int):=by omega
  have ew:IntKind.i64.wrap ((z:Int)+(s:Int))=(z:Int)+(s:Int):=by rw[gx];omega
  have HZ:Hid (w1.heap.size=w.heap.size+1):=N;clear h h1 c kR H AO WQ ez Z N;go_enter func156,ntmps156;go_upto_region 1 with fail
  rw[<-m];clear m
  go_region_law (first
    | (refine eZ rfl 154 #[ς P p.ak.length O,ι ξ ((z:Int)+(s:Int))] (by go_simp) (K.out _ Q.out.1) ?_;rintro e w2⟨rfl,r⟩;refine⟨_,rfl,?_⟩;clear K;obtain⟨l,kr,C⟩:=Q.out.2 w2 r;clear Q S r;have t0:w2.cell? ⟨f,0,ν⟩=ο (ι ξ 0):=l.cell 0;have t1:w2.cell? ⟨f,1,ν⟩=ο (ι ξ 0):=l.cell 1;have t2:w2.cell? ⟨f,2,ν⟩=ο (ι ξ 0):=l.cell 2;have f0:=l.frozen 0;have f1:=l.frozen 1;have f2:=l.frozen 2)
    | (refine eZ rfl 154 #[ς P p.ak.length O,ι ξ ((z:Int)+(s:Int))] (by go_simp) (K.out _ S.out.1) ?_;rintro e w2⟨rfl,r⟩;refine⟨_,rfl,?_⟩;clear K;obtain⟨kr,C,G⟩:=S.out.2 w2 r;clear Q S r))
  all_goals
    first
      | (have Y:=G
         have F:aj (w2.alloc (ζ #[ι ξ (x.1:Int),ι ξ (x.2.1:Int),ι ξ (x.2.2:Int)] 233)) w2.heap.size #[ι ξ (x.1:Int),ι ξ (x.2.1:Int),ι ξ (x.2.2:Int)] 233:=aj.new ..;have A:=kr.alloc (ζ #[ι ξ (x.1:Int),ι ξ (x.2.1:Int),ι ξ (x.2.2:Int)] 233);have t:=C.alloc (lA G) (ζ #[ι ξ (x.1:Int),ι ξ (x.2.1:Int),ι ξ (x.2.2:Int)] 233);generalize w2.alloc (ζ #[ι ξ (x.1:Int),ι ξ (x.2.1:Int),ι ξ (x.2.2:Int)] 233)=w3 at F A t|-;clear Y G)
      | (have F:aj (((w2.setCell ⟨f,0,ν⟩ (ι ξ (x.1:Int))).setCell ⟨f,1,ν⟩ (ι ξ (x.2.1:Int))).setCell ⟨f,2,ν⟩ (ι ξ (x.2.2:Int))) f #[ι ξ (x.1:Int),ι ξ (x.2.1:Int),ι ξ (x.2.2:Int)] 233:=((l.set 0 _).set 1 _).set 2 _
         have y:f≠d:=fun e=>by rw[e]at l;unfold aj at l kr;rw[l]at kr;cases kr
         have A:aj (((w2.setCell ⟨f,0,ν⟩ (ι ξ (x.1:Int))).setCell ⟨f,1,ν⟩ (ι ξ (x.2.1:Int))).setCell ⟨f,2,ν⟩ (ι ξ (x.2.2:Int))) d #[ι ξ 0,ι ξ 0] 118:=((kr.other y _).other y _).other y _;have D:d<=f:=by have:=L;have:=n;have:=HZ.out;omega
         have t:φ d w (((w2.setCell ⟨f,0,ν⟩ (ι ξ (x.1:Int))).setCell ⟨f,1,ν⟩ (ι ξ (x.2.1:Int))).setCell ⟨f,2,ν⟩ (ι ξ (x.2.2:Int))):=l6 (l6 (l6 C D) D) D;generalize ((w2.setCell ⟨f,0,ν⟩ (ι ξ (x.1:Int))).setCell ⟨f,1,ν⟩ (ι ξ (x.2.1:Int))).setCell ⟨f,2,ν⟩ (ι ξ (x.2.2:Int))=w3 at F A t|-;clear y D t0 t1 t2 f0 f1 f2 l)
    have y0:=F.a0;have y1:=F.a1;have y2:=F.a2;have r0:=A.a0;have r1:=A.a1;have g0:=A.frozen 0;have g1:=A.frozen 1;have V:Hid (∀a b:υ,aj ((w3.setCell ⟨d,0,ν⟩ a).setCell ⟨d,1,ν⟩ b) d #[a,b] 118/\φ d w ((w3.setCell ⟨d,0,ν⟩ a).setCell ⟨d,1,ν⟩ b)):=fun a b=>⟨(A.set 0 a).set 1 b,l6 (l6 t (zL0)) (zL0)⟩
    clear F A t kr C d0 d1 dz c0 c1 W
    by_cases Qm:x.2.2=q
    · have b1:((x.2.2:Int) == (q:Int))=η:=by rw[Qm];exact tj _
      rw[du Qm]at U;clear Qm;go_wp2_with fail;exact oU rfl rfl (V.out _ _).1 (by kernel_rfl) (by kernel_rfl) ⟨by rw[U.out],(V.out _ _).2⟩
    · have b1:((x.2.2:Int) == (q:Int))=ε:=zB0 (by omega)
      rw[dt Qm]at U;go_wp2_with fail;exact oU rfl rfl (V.out _ _).1 (by kernel_rfl) (by kernel_rfl) ⟨by rw[U.out];rfl,(V.out _ _).2⟩
end
structure pJ(p:Pk.T):Prop where
 bd:Hq p
 dl:p.aH.length=p.aD.length
 t0:1<=p.toks.length
 n0:1<=p.aT.length
 p0:1<=p.prods.length/\p.prods.length<=200
 df:∀x∈p.aH,x<p.prods.length
 pr:∀x∈p.prods,p.toks.length<=x.1/\x.1<p.toks.length+p.aT.length/\x.2<=1000
 pl:∀(i:Nat)x,p.ak[i]?=ο x->x=(0,0,0)\/(x.2.2<p.aD.length/\Pk.Al p x.1 x.2.1 ((i:Int) - (p.aD.getD x.2.2 0:Nat))=η)
 pm:p.ak.length<=600000
theorem aho{fn:Func}{a b c d:Tmp}(h:fn.results=#[.tmp a,.tmp b,.tmp c,.tmp d])(tmps:Array υ)(P:Program)(w:ω):(results fn tmps).run P w=.ok (θ #[tmps.getD a undef,tmps.getD b undef,tmps.getD c undef,tmps.getD d undef]) w:=by simp[results,h]
section
variable{w:ω}{B pb:Nat}{v:cu}{p:Pk.T}
theorem pJ.aD(h:pJ p)(q:Nat):p.aD.getD q 0<16777216:=by
 rw[di];cases e:p.aD[q]? with
 |none=>decide
 |some x=>exact h.bd.b1 x (cM e)
theorem aaf(h:aQ w B pb v p):χ prog 21 #[π (ο ⟨pb,0,ν⟩)] w fun e w'=>e=δ (θ #[ι ξ (p.aH.length:Int),ι ξ (p.toks.length:Int),ι ξ (p.aT.length:Int),ι ξ (p.prods.length:Int)])/\φ w.heap.size w w':=by
 obtain⟨-,-,⟨a2,b,a⟩,⟨a3,c,d⟩,⟨a4,g,j⟩,⟨a5,i,f⟩⟩:=h.cell;go_enter func21,ntmps21;go_upto_region 1 with fail
 go_quiet (fail)
 go_wp2_with fail;refine iS (aho rfl _ _ _) rfl ⟨rfl,⟨rfl,rfl,rfl,zL0,fun _ _=>rfl⟩⟩
theorem SI(h:aQ w B pb v p)(i:Int):χ prog 157 #[π (ο ⟨pb,0,ν⟩),ι ξ i] w fun e w'=>e=δ (θ #[ι ξ ((Pk.bH p i).1:Int),ι ξ ((Pk.bH p i).2:Int)])/\φ w.heap.size w w':=by
 obtain⟨a4,g,c,-⟩:=aB h.rR;have m:w.cell? ⟨pb,4,ν⟩=ο (ς a4 p.prods.length g):=by rw[<-c];exact h.blk.cell 4
 have d:=aiw h i;rw[c]at d;obtain⟨x,f⟩:=aF (Pk.bH p i);rw[f]at d|-;clear c f h;go_enter func157,ntmps157;go_upto_region 2 with (go_at_call 191;refine d.mono ?_;rintro e w1⟨rfl,b⟩)
 have k:aj (w1.alloc (ζ #[ι ξ (x.1:Int),ι ξ (x.2:Int)] 138)) w1.heap.size #[ι ξ (x.1:Int),ι ξ (x.2:Int)] 138:=aj.new ..;have a:=b.alloc b.size (ζ #[ι ξ (x.1:Int),ι ξ (x.2:Int)] 138);generalize w1.alloc (ζ #[ι ξ (x.1:Int),ι ξ (x.2:Int)] 138)=w2 at k a|-;have j:=k.a0;have l:=k.a1
 go_quiet (fail)
 go_wp2_with fail
 go_ret2
 exact⟨rfl,⟨a.1,a.2,a.3,a.4,a.5⟩⟩
theorem ahp(h:aQ w B pb v p)(J:pJ p)(q n:Int):χ prog 100 #[π (ο ⟨pb,0,ν⟩),ι ξ q,ι ξ n] w fun e w'=>e=δ (γ #[ι ξ ((Pk.act p q n).1:Int),ι ξ ((Pk.act p q n).2:Int)])/\φ w.heap.size w w':=by
 obtain⟨g,j⟩:=aF w.heap.size;obtain⟨w1,f⟩:=aC (w.alloc (ζ #[ι ξ 0,ι ξ 0] 118));have d:φ g w w1:=by rw[f,<-j];exact(cV _ _).alloc (zL0) _
 have kR:aj w1 g #[ι ξ 0,ι ξ 0] 118:=by rw[f,<-j];exact aj.new ..
 have h1:=h.move fun k E=>d.block k (by rw[<-j];exact h.lt E)
 obtain⟨-,-,⟨a2,U,c2⟩,-,-,⟨a5,k5,Q⟩⟩:=h1.cell;have t:=fun w=>Ab (w:=w) q p.aH.length
 have C:=fun w=>Ab (w:=w) n p.toks.length
 have N:=kR.a0;have L:=kR.a1;have M:=kR.frozen 0;have g1:=kR.frozen 1;have H:Hid (∀(w2:ω)(a b:υ),φ w1.heap.size w1 w2->aj ((w2.setCell ⟨g,0,ν⟩ a).setCell ⟨g,1,ν⟩ b) g #[a,b] 118/\φ g w ((w2.setCell ⟨g,0,ν⟩ a).setCell ⟨g,1,ν⟩ b)):=fun w2 a b i=>by
  have U:=kR.on i;refine⟨(U.set 0 a).set 1 b,l6 (l6 ⟨i.1.trans d.1,i.2.trans d.2,i.3.trans d.3,cY d.4 i.4,fun k E=>(i.block k (sY E kR.lt)).trans (d.block k E)⟩ (zL0)) (zL0)⟩
 obtain⟨o,c⟩:=aF (Pk.act p q n);rw[j,c];unfold Pk.act at c
 by_cases hq:Pk.within q p.aH.length=η
 ·rw[hq]at c
  simp only[hq]at t
  by_cases hn:Pk.within n p.toks.length=η
  ·rw[hn]at c
   simp only[hn]at C;rw[du (show (η && η)=η from rfl)]at c;obtain⟨j0,j1⟩:=within_iff.1 hq;obtain⟨i0,i1⟩:=within_iff.1 hn;obtain⟨r,rfl⟩:∃m:Nat,q=(m:Int):=⟨q.toNat,by omega⟩;obtain⟨K,rfl⟩:∃m:Nat,n=(m:Int):=⟨n.toNat,by omega⟩;rw[ij,ij]at c;have O:r<p.aH.length:=by omega
   obtain⟨y,P⟩:∃y,p.aH[r]?=ο y:=⟨_,cG O⟩;have V:p.aH.getD r 0=y:=by simp[P]
   rw[V]at c;have I:=aaL h1 (q:=r) (s:=K) (by rw[<-J.dl];exact O) (by have:=J.aD r;have:=J.bd.t1;omega);obtain⟨x,R⟩:=aF (Pk.cell p r K);rw[R]at c I;have S:Hid (∀w2,φ w1.heap.size w1 w2->aQ w2 B pb v p/\aj w2 g #[ι ξ 0,ι ξ 0] 118):=fun w2 i=>⟨h1.move fun k E=>i.block k (h1.lt E),(i.block _ kR.lt).trans kR⟩
   clear h h1 d kR R V;go_enter func100,ntmps100;go_upto_region 1 with fail
   rw[<-f];clear f;go_upto_region 3 with (first
    | (go_at_call 99;refine(t _).mono ?_;rintro e w1⟨rfl,rfl⟩;clear t)
    | (go_at_call 99;refine(C _).mono ?_;rintro e w1⟨rfl,rfl⟩;clear C))
   clear c2 Q N L M g1;go_upto_region 4 with (go_at_call 156;refine I.mono ?_;rintro e w2⟨rfl,A⟩)
   have G:aj (w2.alloc (ζ #[ι ξ (x.1:Int),ι ξ (x.2:Int)] 118)) w2.heap.size #[ι ξ (x.1:Int),ι ξ (x.2:Int)] 118:=aj.new ..;have l:=A.alloc A.size (ζ #[ι ξ (x.1:Int),ι ξ (x.2:Int)] 118);generalize w2.alloc (ζ #[ι ξ (x.1:Int),ι ξ (x.2:Int)] 118)=w3 at G l|-;generalize w2.heap.size=bt at G|-;obtain⟨h3,kr⟩:=S.out w3 l;obtain⟨Z,cD,F,-,X⟩:=F3 h3.rD (p:=r) (u:=bA y) (by rw[dj,P];rfl);have Q:w3.cell? ⟨pb,5,ν⟩=ο (ς (ο ⟨Z,0,ν⟩) p.aH.length cD):=by rw[<-F];exact h3.blk.cell 5
   unfold bA at X;have y0:=G.a0;have y1:=G.a1;have N:=kr.a0;have L:=kr.a1;have M:=kr.frozen 0;have g1:=kr.frozen 1;have D:Hid (∀a b:υ,aj ((w3.setCell ⟨g,0,ν⟩ a).setCell ⟨g,1,ν⟩ b) g #[a,b] 118/\φ g w ((w3.setCell ⟨g,0,ν⟩ a).setCell ⟨g,1,ν⟩ b)):=fun a b=>H.out w3 a b l
   clear H S h3 kr G F l A I
   by_cases hx0:x.1=0
   ·have W:((x.1:Int) == 0)=η:=by rw[hx0];rfl
    by_cases hy0:y=0
    ·have b2:((y:Int) != 0)=ε:=by rw[hy0];rfl
     have Y:(y:Int)=0:=by omega
     rw[dt (fun e=>e.2 hy0)]at c;subst c;clear hx0 hy0;go_wp2_with fail;exact oU rfl rfl (D.out _ _).1 (by kernel_rfl) (by kernel_rfl) ⟨rfl,(D.out _ _).2⟩
    ·have b2:((y:Int) != 0)=η:=nj.2 (by omega)
     have Y:¬(y:Int)=0:=by omega
     rw[du ⟨hx0,hy0⟩]at c;subst c;clear hx0 hy0;go_wp2_with fail;exact oU rfl rfl (D.out _ _).1 (by kernel_rfl) (by kernel_rfl) ⟨rfl,(D.out _ _).2⟩
   ·have W:((x.1:Int) == 0)=ε:=zB0 (by omega)
    rw[dt (fun e=>hx0 e.1)]at c;subst c;go_wp2_with fail;exact oU rfl rfl (D.out _ _).1 (by kernel_rfl) (by kernel_rfl) ⟨rfl,(D.out _ _).2⟩
  ·rw[rI]at hn
   rw[hn]at c;simp only[hn]at C;have z:o=(0,0):=by rw[<-c];rfl
   clear h h1 d kR;go_enter func100,ntmps100;go_upto_region 1 with fail
   rw[<-f];clear f c
   go_wp2_with (first
    | (go_at_call 99;refine(t _).mono ?_;rintro e w1⟨rfl,rfl⟩;clear t)
    | (go_at_call 99;refine(C _).mono ?_;rintro e w1⟨rfl,rfl⟩;clear C))
   have:=H.out w1 (ι ξ 0) (ι ξ 0) (cV _ _);exact oU rfl rfl this.1 (by kernel_rfl) (by kernel_rfl) ⟨by rw[z];rfl,this.2⟩
 ·rw[rI]at hq
  rw[hq]at c;simp only[hq]at t;have z:o=(0,0):=by rw[<-c];rfl
  clear h h1 d kR;go_enter func100,ntmps100;go_upto_region 1 with fail
  rw[<-f];clear f c
  go_wp2_with (go_at_call 99;refine(t _).mono ?_;rintro e w1⟨rfl,rfl⟩)
  have:=H.out w1 (ι ξ 0) (ι ξ 0) (cV _ _);exact oU rfl rfl this.1 (by kernel_rfl) (by kernel_rfl) ⟨by rw[z];rfl,this.2⟩
theorem ajH(h:aQ w B pb v p)(j:pJ p)(q n:Int):χ prog 159 #[π (ο ⟨pb,0,ν⟩),ι ξ q,ι ξ n] w fun e w'=>e=δ (ι ξ (Pk.goto p q n:Int))/\φ w.heap.size w w':=by
 obtain⟨-,-,⟨a2,K,F⟩,⟨a3,A,H⟩,-,⟨a5,D,I⟩⟩:=h.cell;have d:=fun w=>Ab (w:=w) q p.aH.length
 have f:=fun w=>Ab (w:=w) n p.aT.length
 obtain⟨o,b⟩:=aF (Pk.goto p q n);rw[b];unfold Pk.goto at b
 by_cases hq:Pk.within q p.aH.length=η
 ·rw[hq]at b
  simp only[hq]at d
  by_cases hn:Pk.within n p.aT.length=η
  ·rw[hn]at b
   simp only[hn]at f;rw[du (show (η && η)=η from rfl)]at b;obtain⟨L,z⟩:=within_iff.1 hq;obtain⟨G,J⟩:=within_iff.1 hn;obtain⟨k,rfl⟩:∃m:Nat,q=(m:Int):=⟨q.toNat,by omega⟩;obtain⟨i,rfl⟩:∃m:Nat,n=(m:Int):=⟨n.toNat,by omega⟩;rw[ij,ij]at b;have u:=j.bd.n1;have y:=j.bd.t1;have t:k<p.aD.length:=by rw[<-j.dl];omega
   have l:∀nq,_:=fun nq=>aaL (w:=w.drewN nq) (h.move fun _ _=>rfl) (q:=k) (s:=p.toks.length+i) t (by have:=j.aD k;omega)
   simp only[Int.natCast_add]at l;obtain⟨x,r⟩:=aF (Pk.cell p k (p.toks.length+i));rw[r]at b;simp only[r]at l;have C:IntKind.i64.wrap ((p.toks.length:Int)+(i:Int))=(p.toks.length:Int)+(i:Int):=by rw[gx];omega
   subst b;clear h r t;go_enter func159,ntmps159;go_upto_region 3 with (first
    | (go_at_call 99;refine(d _).mono ?_;rintro e w⟨rfl,rfl⟩;clear d)
    | (go_at_call 99;refine(f _).mono ?_;rintro e w⟨rfl,rfl⟩;clear f))
   refine(pn (n:=9)).1 ?_;refine kV 11 (by kernel_rfl) (by kernel_rfl) (by kernel_rfl) ?_
   dsimp only[List.take,List.drop,List.length]
   repeat (gi_big_quiet_step (fail))
   refine wpQuietIn_nil ?_;rintro _⟨E,rfl⟩;refine wpAnyIn_ready (rs:=[11]) (by kernel_rfl) (by simp) (AllReadyIn.cons rfl (fun g a=>?_) AllReadyIn.nil)
   go_simp
   refine⟨trivial,(gh.2 (l _)).mono ?_⟩;rintro e w2⟨rfl,c⟩;refine a _ _ ?_;clear a g;refine wpAnyIn_ready (rs:=[12]) (by kernel_rfl) (by simp) (AllReadyIn.cons rfl (fun g a=>?_) AllReadyIn.nil)
   go_simp
   refine a _ _ ?_;clear a g;refine wpAnyIn_ready (rs:=[13]) (by kernel_rfl) (by simp) (AllReadyIn.cons rfl (fun g a=>?_) AllReadyIn.nil)
   go_simp
   refine a _ _ (wpAnyIn_done (by kernel_rfl) ?_ _);clear a g;go_wp2_with fail;go_ret;exact⟨rfl,⟨c.1,c.2,c.3,c.4,c.5⟩⟩
  ·rw[rI]at hn
   rw[hn]at b;simp only[hn]at f;obtain rfl:o=0:=by rw[<-b];rfl
   clear h b;go_enter func159,ntmps159
   go_wp2_with (first
    | (go_at_call 99;refine(d _).mono ?_;rintro e w⟨rfl,rfl⟩;clear d)
    | (go_at_call 99;refine(f _).mono ?_;rintro e w⟨rfl,rfl⟩;clear f))
   go_ret;exact⟨rfl,cV _ _⟩
 ·rw[rI]at hq
  rw[hq]at b;simp only[hq]at d;obtain rfl:o=0:=by rw[<-b];rfl
  clear h b;go_enter func159,ntmps159
  go_wp2_with (go_at_call 99;refine(d _).mono ?_;rintro e w⟨rfl,rfl⟩)
  go_ret;exact⟨rfl,cV _ _⟩
theorem aaM(w:ω)(f:kZ w)(i:0<w.heap.size)(b:ByteArray)(d:b.size<=281474976710656):χ prog 20 #[τ b] w fun e w'=>(Pk.ok b=ε/\e=δ (θ #[π ν,ι ξ 10])/\φ w.heap.size w w')\/(Pk.ok b=η/\∃pb v,e=δ (θ #[π (ο ⟨pb,0,ν⟩),ι ξ 0])/\φ w.heap.size w w'/\aQ w' w.heap.size pb v (Pk.pack b)/\w.heap.size<=pb):=by
 have c:=ajG w f i b d;cases hok:Pk.ok b with
 |false=>
  rw[hok]at c;go_enter func20,ntmps20
  go_wp2_with (go_at_call 45;refine c.mono ?_;rintro e w1⟨g,pb,v,rfl,a⟩)
  go_ret2
  exact .inl ⟨trivial,rfl,a.b⟩
 |true=>
  rw[hok]at c;go_enter func20,ntmps20
  go_wp2_with (go_at_call 45;refine c.mono ?_;rintro e w1⟨g,pb,v,rfl,a⟩)
  go_ret2
  exact .inr ⟨trivial,pb,v,rfl,a.b,a.p,a.pb⟩
end
namespace Pk
end Pk
def qg(w:ω)(v:υ)(r:List Int):Prop:=∃a c,v=ς a r.length c/\r.length<=c/\∀t(h:t<r.length),∃g o,a=ο ⟨g,o,ν⟩/\g<w.heap.size/\w.cell? ⟨g,o+t,ν⟩=ο (ι ξ r[t])
theorem qg.below{r:List Int}(h:qg w v r)(d:φ w.heap.size w w'):qg w' v r:=by
 obtain⟨a,c,h1,h2,h3⟩:=h;refine⟨a,c,h1,h2,fun t i=>?_⟩;obtain⟨g,o,h4,b,f⟩:=h3 t i;exact⟨g,o,h4,dg b d.size,(cQ (w:=w) (d.block g b)).trans f⟩
namespace Rn
structure S where
 passed:Nat
 pile:List Nat
 steps:List Int
def top(s:S):Nat:=s.pile.getD (s.pile.length-1) 0
def ahead(row:List Int)(s:S):Int:=if s.passed=row.length then 0 else if row.getD s.passed 0=0 then -1 else row.getD s.passed 0
def can(p:Pk.T)(row:List Int)(s:S)(c:Nat×Nat):Bool:=if c.1=1 then decide (s.passed<row.length) else if c.1=2 then decide ((Pk.bH p (c.2:Int)).2<s.pile.length) else ε
def shift(s:S)(t:Nat):S:=⟨s.passed+1,s.pile++[t],s.steps++[-1]⟩
def less(p:Pk.T)(s:S)(k:Nat):S:={ s with pile:=s.pile.take (s.pile.length - (Pk.bH p (k:Int)).2) }
def reduce(p:Pk.T)(s:S)(k:Nat):S:=⟨s.passed,(less p s k).pile++[Pk.goto p (top (less p s k):Int) (((Pk.bH p (k:Int)).1:Int) - (p.toks.length:Int))],s.steps++[(k:Int)]⟩
def step(p:Pk.T)(s:S)(c:Nat×Nat):S:=if c.1=1 then shift s c.2 else reduce p s c.2
end Rn
def Ei(n:Nat):υ:=ι .i16 (n:Int)
def GN(n:Int):υ:=ι .i16 n
structure dV(W0:ω)(B wb pb:Nat)(rv vL vS:υ)(W:ω)(s:Rn.S):Prop where
 blk:aj W wb #[π (ο ⟨pb,0,ν⟩),rv,ι ξ (s.passed:Int),vL,vS] 156
 rL:W.ownsRow B 153 1 vL s.pile.length (s.pile.map Ei)
 rS:W.ownsRow B 153 1 vS s.steps.length (s.steps.map GN)
 ne:∀g,vL.ownBlock=ο g->vS.ownBlock≠ο g
 b:φ B W0 W
 hB:B=W0.heap.size
 lb:B<=wb
section
variable{W0 W:ω}{B B' wb pb:Nat}{rv vL vS:υ}{s:Rn.S}{v:cu}{p:Pk.T}{row:List Int}
theorem dV.pk(h:dV W0 B wb pb rv vL vS W s)(hp:aQ W0 B' pb v p):aQ W B' pb v p:=hp.move fun k a=>h.b.block k (by rw[h.hB];exact hp.lt a)
theorem dV.rz(h:dV W0 B wb pb rv vL vS W s)(a:qg W0 rv row):qg W rv row:=a.below (by rw[<-h.hB];exact h.b)
theorem dV.move(h:dV W0 B wb pb rv vL vS W s)(a:φ W.heap.size W W'):dV W0 B wb pb rv vL vS W' s :=
 ⟨(a.block _ h.blk.lt).trans h.blk,ay h.rL fun g c=>a.block g (h.rL.lt g c).2,ay h.rS fun g c=>a.block g (h.rS.lt g c).2,h.ne,⟨a.1.trans h.b.1,a.2.trans h.b.2,a.3.trans h.b.3,cY h.b.4 a.4,fun k d=>(a.block k (sY (dg d h.lb) h.blk.lt)).trans (h.b.block k d)⟩,h.hB,h.lb⟩
theorem aag(h:dV W0 B wb pb rv vL vS W s)(i:s.pile≠[])(a:∀x∈s.pile,x<300)(m:s.pile.length<=1000000000):χ prog 101 #[π (ο ⟨wb,0,ν⟩)] W fun e W'=>e=δ (ι ξ (Rn.top s:Int))/\φ W.heap.size W W':=by
 have d:=xo.2 i;obtain⟨x,hx⟩:∃x,s.pile[s.pile.length-1]?=ο x:=⟨_,cG (by omega)⟩;have f:Rn.top s=x:=by unfold Rn.top;simp[hx]
 have j:=a x (cM hx);rw[f];obtain⟨g,c,b,-,k⟩:=F3 h.rL (p:=s.pile.length-1) (u:=Ei x) (by rw[dj,hx];rfl);have q:W.cell? ⟨wb,3,ν⟩=ο (ς (ο ⟨g,0,ν⟩) s.pile.length c):=by rw[<-b];exact h.blk.cell 3
 unfold Ei at k;have l:(s.pile.length:Int) - 1=((s.pile.length-1:Nat):Int):=by omega
 have n:(0:Int)<=((s.pile.length-1:Nat):Int):=by omega
 have o:((s.pile.length-1:Nat):Int)<(s.pile.length:Int):=by omega
 clear h i a f hx b;go_enter func101,ntmps101;go_upto_region 1 with fail
 go_quiet (fail)
 go_wp2_with fail;go_ret;exact⟨rfl,⟨rfl,rfl,rfl,zL0,fun _ _=>rfl⟩⟩
theorem aix(h:dV W0 B wb pb rv vL vS W s)(j:qg W0 rv row)(k:s.passed<=row.length):χ prog 102 #[π (ο ⟨wb,0,ν⟩)] W fun e W'=>e=δ (ι ξ (Rn.ahead row s))/\φ W.heap.size W W':=by
 obtain⟨a,c,rfl,u,b⟩:=h.rz j;have y:=h.blk.a1;have m:=h.blk.a2;unfold Rn.ahead
 by_cases he:s.passed=row.length
 ·rw[du he]
  have i:((s.passed:Int) == (row.length:Int))=η:=by rw[he];exact tj _
  clear he h;go_enter func102,ntmps102;go_upto_region 1 with fail
  go_quiet (fail)
  go_wp2_with fail;go_ret;exact⟨rfl,⟨rfl,rfl,rfl,zL0,fun _ _=>rfl⟩⟩
 ·rw[dt he]
  have d:s.passed<row.length:=by omega
  have i:((s.passed:Int) == (row.length:Int))=ε:=zB0 (by omega);obtain⟨g,o,rfl,r,l⟩:=b s.passed d;have f:row.getD s.passed 0=row[s.passed]:=by rw[di,cG d];rfl
  rw[f];generalize row[s.passed]=x at l;have t:(0:Int)<=(s.passed:Int):=by omega
  have n:(s.passed:Int)<(row.length:Int):=by omega
  clear he h b f d
  by_cases hx:x=0
  ·rw[du hx]
   subst hx;go_enter func102,ntmps102;go_upto_region 1 with fail
   go_quiet (fail)
   go_upto_region 3 with fail
   go_quiet (fail)
   go_wp2_with fail;go_ret;exact⟨rfl,⟨rfl,rfl,rfl,zL0,fun _ _=>rfl⟩⟩
  ·rw[dt hx]
   have q:=ej.2 hx;go_enter func102,ntmps102;go_upto_region 1 with fail
   go_quiet (fail)
   go_upto_region 3 with fail
   go_quiet (fail)
   go_upto_region 5 with fail
   go_quiet (fail)
   go_wp2_with fail;go_ret;exact⟨rfl,⟨rfl,rfl,rfl,zL0,fun _ _=>rfl⟩⟩
theorem alj(h:dV W0 B wb pb rv vL vS W s)(F:qg W0 rv row)(hp:aQ W0 B' pb v p)(c:Nat×Nat):χ prog 103 #[π (ο ⟨wb,0,ν⟩),γ #[ι ξ (c.1:Int),ι ξ (c.2:Int)]] W fun e W'=>e=δ (μ (Rn.can p row s c))/\φ W.heap.size W W':=by
 obtain⟨a,E,I,-,-⟩:=F;obtain⟨A,r,C,-⟩:=aB h.rL;obtain⟨m,i⟩:=aF W.heap.size;obtain⟨w1,d⟩:=aC (W.alloc (ζ #[ι ξ (c.1:Int),ι ξ (c.2:Int)] 118));have b:φ m W w1:=by rw[d,<-i];exact(cV _ _).alloc (zL0) _
 have l:aj w1 m #[ι ξ (c.1:Int),ι ξ (c.2:Int)] 118:=by rw[d,<-i];exact aj.new ..
 have h1:=h.move (W':=w1) (by rw[i];exact b);have O:=h1.blk.a0;have L:w1.cell? ⟨wb,1,ν⟩=ο (ς a row.length E):=by rw[<-I];exact h1.blk.cell 1
 have M:=h1.blk.a2;have N:w1.cell? ⟨wb,3,ν⟩=ο (ς A s.pile.length r):=by rw[<-C];exact h1.blk.cell 3
 have J:=l.a0;have x1:=l.a1;have x:Hid (∀nq,φ m W (w1.drewN nq)):=fun nq=>⟨b.1,b.2,b.3,b.4,b.5⟩
 obtain⟨o,f⟩:=aF (Rn.can p row s c);rw[i,f];unfold Rn.can at f
 by_cases h1c:c.1=1
 ·rw[du h1c]at f
  have D:((c.1:Int) == 1)=η:=by rw[h1c];rfl
  have n:Hid (decide (s.passed<row.length)=o):=f;clear h h1 b l h1c f;go_enter func103,ntmps103;go_upto_region 1 with fail
  rw[<-d];clear d;go_upto_region 3 with fail
  go_quiet (fail)
  go_wp2_with fail;go_ret;exact⟨iI n.out,x.out _⟩
 ·rw[dt h1c]at f
  have D:((c.1:Int) == 1)=ε:=zB0 (by omega)
  by_cases CX:c.1=2
  ·rw[du CX]at f
   have H:((c.1:Int) == 2)=η:=by rw[CX];rfl
   have t:=SI (w:=w1.drew) ((h1.pk hp).move fun _ _=>rfl) (c.2:Int);obtain⟨y,z⟩:=aF (Pk.bH p (c.2:Int));rw[z]at f t;have G:Hid (∀w2,φ w1.heap.size w1 w2->w2.cell? ⟨wb,3,ν⟩=ο (ς A s.pile.length r)/\φ m W w2):=fun w2 j=>⟨by rw[<-C];exact(h1.move j).blk.cell 3,⟨j.1.trans b.1,j.2.trans b.2,j.3.trans b.3,cY b.4 j.4,fun k u=>(j.block k (sY u l.lt)).trans (b.block k u)⟩⟩
   have n:Hid (decide (y.2<s.pile.length)=o):=f;clear h h1 b l h1c CX f z;go_enter func103,ntmps103;go_upto_region 1 with fail
   rw[<-d];clear d;go_upto_region 5 with fail
   go_region_law (refine eZ rfl 157 #[π (ο ⟨pb,0,ν⟩),ι ξ (c.2:Int)] (by go_simp) t ?_;rintro e w2⟨rfl,g⟩;refine⟨_,rfl,?_⟩)
   all_goals
    obtain⟨K,q⟩:=G.out w2 ⟨g.1,g.2,g.3,g.4,g.5⟩;go_wp2_with fail;go_ret;exact⟨iI n.out,q⟩
  ·rw[dt CX]at f
   have H:((c.1:Int) == 2)=ε:=zB0 (by omega);subst f;clear h h1 b l;go_enter func103,ntmps103;go_upto_region 1 with fail
   rw[<-d];clear d;go_wp2_with fail;go_ret;exact⟨rfl,x.out 0⟩
end
theorem Tryz.alk:(prog.info? 153).map (fun i=>(i.zero,i.size,i.bytes))=ο (ο (.int .i16 0),1,2):=by kernel_rfl
theorem Tryz.acE:prog.underlying 154=ο (.slice 153):=by kernel_rfl
theorem heap_set{g:Nat}(h:k≠g):(W.setCell ⟨g,i,ν⟩ u).heap[k]?=W.heap[k]?:=zS0 h
section
variable{W0 W W':ω}{B B' wb pb:Nat}{rv vL vS x:υ}{s:Rn.S}{v:cu}{p:Pk.T}{row:List Int}
theorem dV.kw(h:dV W0 B wb pb rv vL vS W s):Kd W wb 156:=⟨_,h.blk⟩
theorem dV.kL(h:dV W0 B wb pb rv vL vS W s){g:Nat}(a:vL.ownBlock=ο g):Kd W g 153:=bJ h.rL a
theorem dV.kS(h:dV W0 B wb pb rv vL vS W s){g:Nat}(a:vS.ownBlock=ο g):Kd W g 153:=bJ h.rS a
theorem dV.size(h:dV W0 B wb pb rv vL vS W s):B<=W.heap.size:=cY h.lb (lA h.blk.lt)
theorem dV.Ct(h:dV W0 B wb pb rv vL vS W s)(c:W.grownBy W' vL.ownBlock)(f:W'.ownsRow B 153 1 x l.length (l.map Ei))(a:x.ownBlock=vL.ownBlock\/∃g,x.ownBlock=ο g/\W.heap.size<=g):dV W0 B wb pb rv x vS (W'.setCell ⟨wb,3,ν⟩ x) { s with pile:=l } where
 blk:=by
  have:aj W' wb _ 156:=(c.block wb h.kw.lt fun e=>h.kw.ne (h.kL e.symm) (by decide) rfl).trans h.blk;exact this.set 3 x
 rL:=ay f fun g e=>heap_set ((show Kd W' g 153 from bJ f e).ne (show Kd W' wb 156 from ⟨_,(c.block wb h.kw.lt fun e=>h.kw.ne (h.kL e.symm) (by decide) rfl).trans h.blk⟩) (by decide))
 rS:=ay h.rS fun g e=>(heap_set ((h.kS e).ne h.kw (by decide))).trans (c.block g (h.kS e).lt fun d=>h.ne g d.symm e)
 ne g e:=by
  rcases a with a|⟨k,a,i⟩
  ·exact h.ne g (a▸e)
  ·rw[a]at e
   cases e;intro d;have:=(h.kS d).lt;omega
 b:=l6 (uU h.b h.size c fun k e=>(h.rL.lt k e).1) h.lb
 hB:=h.hB
 lb:=h.lb
theorem dV.GQ(h:dV W0 B wb pb rv vL vS W s){l:List Int}(c:W.grownBy W' vS.ownBlock)(f:W'.ownsRow B 153 1 x l.length (l.map GN))(a:x.ownBlock=vS.ownBlock\/∃g,x.ownBlock=ο g/\W.heap.size<=g):dV W0 B wb pb rv vL x (W'.setCell ⟨wb,4,ν⟩ x) { s with steps:=l } where
 blk:=by
  have:aj W' wb _ 156:=(c.block wb h.kw.lt fun e=>h.kw.ne (h.kS e.symm) (by decide) rfl).trans h.blk;exact this.set 4 x
 rS:=ay f fun g e=>heap_set ((show Kd W' g 153 from bJ f e).ne (show Kd W' wb 156 from ⟨_,(c.block wb h.kw.lt fun e=>h.kw.ne (h.kS e.symm) (by decide) rfl).trans h.blk⟩) (by decide))
 rL:=ay h.rL fun g e=>(heap_set ((h.kL e).ne h.kw (by decide))).trans (c.block g (h.kL e).lt fun d=>h.ne g e d.symm)
 ne g e:=by
  rcases a with a|⟨k,a,i⟩
  ·rw[a]
   exact h.ne g e
  ·rw[a]
   intro d;cases d;have:=(h.kL e).lt;omega
 b:=l6 (uU h.b h.size c fun k e=>(h.rS.lt k e).1) h.lb
 hB:=h.hB
 lb:=h.lb
theorem aaN(h:dV W0 B wb pb rv vL vS W s){k:Int}(Z:t<300)(hk:-1<=k/\k<300)(L:s.pile.length<=1000000000/\s.steps.length<=1000000000):χ prog 158 #[π (ο ⟨wb,0,ν⟩),ι ξ (t:Int),ι ξ k] W fun e W'=>e=δ (θ #[])/\∃gu qV,dV W0 B wb pb rv gu qV W' { s with pile:=s.pile++[t],steps:=s.steps++[k] }:=by
 obtain⟨K,z,n,u,y⟩:=ft Tryz.alk;obtain⟨m,j,rfl,-⟩:=aB h.rL;obtain⟨d,f,rfl,-⟩:=aB h.rS;have V:=h.blk.a3;have ew:IntKind.i16.wrap (t:Int)=(t:Int):=by simp[IntKind.wrap,IntKind.bits,IntKind.signed];omega
 have ek:IntKind.i16.wrap k=k:=by simp[IntKind.wrap,IntKind.bits,IntKind.signed];omega
 have D:(W.alloc (ζ #[ι .i16 (t:Int)] 153)).ownsRow B 153 1 (ς m s.pile.length j) s.pile.length (s.pile.map Ei):=h.rL.alloc _;have C:aj (W.alloc (ζ #[ι .i16 (t:Int)] 153)) wb #[π (ο ⟨pb,0,ν⟩),rv,ι ξ (s.passed:Int),ς m s.pile.length j,ς d s.steps.length f] 156:=h.blk.alloc _;have b:B<=(W.alloc (ζ #[ι .i16 (t:Int)] 153)).heap.size:=cY h.size (aM W _ ν).size;have a:(ς m s.pile.length j).ownBlock≠ο wb:=fun e=>(h.kL e).ne h.kw (by decide) rfl
 have X:=L.1;have R:=L.2;go_enter func158,ntmps158;go_upto_region 1 with (at_builtin;refine ii _ rfl _ _ 154 rfl B 153 K _ 1 2 Tryz.acE z n u y rfl (by decide) (ς m s.pile.length j) s.pile.length (s.pile.map Ei) rfl D ⟨W.heap.size,0,ν⟩ 1 1 [ι .i16 (t:Int)] rfl rfl (bQ (aj.new W #[ι .i16 (t:Int)] 153)) (by simp[Value.oneCell']) (by unfold maxLen;omega) (by omega) b ?_;intro v2 w2 i c _ r;obtain⟨E,F,rfl,-⟩:=aB i;have H:=C.grown c (fun e=>a e.symm);have P:w2.cell? ⟨wb,3,ν⟩=ο (ς m s.pile.length j):=H.cell 3;have Y:=H.frozen 3)
 have o:=aI (aM W _ _) c;have A:(ς E (s.pile.length+1) F).ownBlock=(ς m s.pile.length j).ownBlock\/∃g,(ς E (s.pile.length+1) F).ownBlock=ο g/\W.heap.size<=g:=r.imp id fun e=>⟨_,e,(aM W _ ν).size⟩
 have h2:=h.Ct (l:=s.pile++[t]) o (by rw[ee,cJ];exact i) A;clear o A r i c H P Y C D b a V h;generalize w2.setCell ⟨wb,3,ν⟩ (ς E (s.pile.length+1) F)=w3 at h2|-;generalize ς E (s.pile.length+1) F=vL at h2|-;have c4:=h2.blk.a4;have D:(w3.alloc (ζ #[ι .i16 k] 153)).ownsRow B 153 1 (ς d s.steps.length f) s.steps.length (s.steps.map GN):=h2.rS.alloc _;have C:aj (w3.alloc (ζ #[ι .i16 k] 153)) wb #[π (ο ⟨pb,0,ν⟩),rv,ι ξ (s.passed:Int),vL,ς d s.steps.length f] 156:=h2.blk.alloc _;have b:B<=(w3.alloc (ζ #[ι .i16 k] 153)).heap.size:=cY h2.size (aM w3 _ ν).size;have a:(ς d s.steps.length f).ownBlock≠ο wb:=fun e=>(h2.kS e).ne h2.kw (by decide) rfl
 go_wp2_with (at_builtin;refine ii _ rfl _ _ 154 rfl B 153 K _ 1 2 Tryz.acE z n u y rfl (by decide) (ς d s.steps.length f) s.steps.length (s.steps.map GN) rfl D ⟨w3.heap.size,0,ν⟩ 1 1 [ι .i16 k] rfl rfl (bQ (aj.new w3 #[ι .i16 k] 153)) (by simp[Value.oneCell']) (by unfold maxLen;omega) (by omega) b ?_;intro v4 O M q _ U;obtain⟨I,J,rfl,-⟩:=aB M;have N:=C.grown q (fun e=>a e.symm);have d4:O.cell? ⟨wb,4,ν⟩=ο (ς d s.steps.length f):=N.cell 4;have f4:=N.frozen 4)
 go_end0
 have Q:=aI (aM w3 _ _) q;have G:(ς I (s.steps.length+1) J).ownBlock=(ς d s.steps.length f).ownBlock\/∃g,(ς I (s.steps.length+1) J).ownBlock=ο g/\w3.heap.size<=g:=U.imp id fun e=>⟨_,e,(aM w3 _ ν).size⟩
 exact⟨rfl,_,_,h2.GQ (l:=s.steps++[k]) Q (by rw[ee,cJ];exact M) G⟩
end
theorem ajI{a:Option Addr}{c:Nat}{i:List υ}(h:W.ownsRow B e z (ς a n c) n i)(j:m<=n)(q:0<m):W.ownsRow B e z (ς a m c) m (i.take (m*z)):=by
 have f:=kj z j;refine⟨by rw[fR,h.1];omega,?_⟩;rcases h.2 with ⟨d,r⟩|⟨g,o,b,d,h2,h3,h4,p,k,l⟩
 ·cases d
  omega
 ·cases d
  refine .inr ⟨g,c,b,rfl,h2,h3,by omega,p,k,?_⟩;rw[<-l,AF,qt f]
theorem pJ.alm{p:Pk.T}(h:pJ p)(i:Int):(Pk.bH p i).1<=2000/\(Pk.bH p i).2<=1000:=by
 unfold Pk.bH
 split
 ·rw[di]
  cases e:p.prods[i.toNat]? with
  |none=>exact⟨by decide,by decide⟩
  |some x=>
   have:=h.pr x (cM e);have:=h.bd.t1;have:=h.bd.n1;exact⟨by show x.1<=2000;omega,by show x.2<=1000;omega⟩
 ·exact⟨by decide,by decide⟩
section
variable{W0 W W':ω}{B B' wb pb:Nat}{rv vL vS x:υ}{s:Rn.S}{v:cu}{p:Pk.T}{row:List Int}
theorem dV.pass(h:dV W0 B wb pb rv vL vS W s)(n:Nat):dV W0 B wb pb rv vL vS (W.setCell ⟨wb,2,ν⟩ (ι ξ (n:Int))) { s with passed:=n } :=
 ⟨h.blk.set 2 _,ay h.rL fun g e=>heap_set ((h.kL e).ne h.kw (by decide)),ay h.rS fun g e=>heap_set ((h.kS e).ne h.kw (by decide)),h.ne,l6 h.b h.lb,h.hB,h.lb⟩
theorem dV.cut{a:Option Addr}{b:Nat}(h:dV W0 B wb pb rv (ς a n b) vS W s)(g:s.pile.length=n)(c:m<=n)(d:0<m):dV W0 B wb pb rv (ς a m b) vS (W.setCell ⟨wb,3,ν⟩ (ς a m b)) { s with pile:=s.pile.take m }:=by
 subst g;have f:W.ownsRow B 153 1 (ς a m b) (s.pile.take m).length ((s.pile.take m).map Ei):=by
  have:=ajI h.rL c d;rw[j9]at this;rw[uk,fR,qt c];exact this
 exact h.Ct (l:=s.pile.take m) ⟨rfl,rfl,rfl,zL0,fun _ _ _=>rfl⟩ f (.inl (by cases a <;> rfl))
theorem ajJ(h:dV W0 B wb pb rv vL vS W s)(hp:aQ W0 B' pb v p)(hG:pJ p){c:Nat×Nat}(A:c.1=1->c.2<300)(CX:c.1≠1->(Pk.bH p (c.2:Int)).2<s.pile.length/\c.2<200)(ac:∀q n,Pk.goto p q n<300)(Y:∀x∈s.pile,x<300)(ag:s.passed<=1000000000)(hl:s.pile.length<=1000000000/\s.steps.length<=1000000000):χ prog 104 #[π (ο ⟨wb,0,ν⟩),γ #[ι ξ (c.1:Int),ι ξ (c.2:Int)]] W fun e W'=>e=δ (θ #[])/\∃gu qV,dV W0 B wb pb rv gu qV W' (Rn.step p s c):=by
 obtain⟨l,ab⟩:=aF W.heap.size;obtain⟨w1,d⟩:=aC (W.alloc (ζ #[ι ξ (c.1:Int),ι ξ (c.2:Int)] 118));have Q:φ W.heap.size W w1:=by rw[d];exact(cV _ _).alloc (zL0) _
 have a:aj w1 l #[ι ξ (c.1:Int),ι ξ (c.2:Int)] 118:=by rw[d,<-ab];exact aj.new ..
 have h1:=h.move Q;clear h Q;have x0:=a.a0;have x1:=a.a1;have F:wb≠l:=fun e=>h1.kw.ne (show Kd w1 l 118 from ⟨_,a⟩) (by decide) e
 unfold Rn.step
 by_cases hc:c.1=1
 ·rw[du hc]
  have b1:((c.1:Int) == 1)=η:=by rw[hc];rfl
  have c2:=h1.blk.a2;have f2:=h1.blk.frozen 2;have h2:=h1.pass (s.passed+1);rw[show ((s.passed+1:Nat):Int)=(s.passed:Int)+1 from rfl]at h2;have U:=aaN h2 (t:=c.2) (k:=-1) (A hc) (by omega) hl;have d1:(w1.setCell ⟨wb,2,ν⟩ (ι ξ ((s.passed:Int)+1))).cell? ⟨l,1,ν⟩=ο (ι ξ (c.2:Int)):=(cQ (w:=w1) (heap_set (fun e=>F e.symm))).trans x1;clear h1 h2 a hc A CX;go_enter func104,ntmps104;go_upto_region 1 with fail
  rw[<-d];clear d
  go_wp2_with (go_at_call 158;refine U.mono ?_;rintro e w3⟨rfl,gu,qV,h3⟩)
  refine iS (po rfl _ _ _) rfl ?_;exact⟨rfl,gu,qV,h3⟩
 ·rw[dt hc]
  obtain⟨hsz,af⟩:=CX hc;have b1:((c.1:Int) == 1)=ε:=zB0 (by omega);obtain⟨D,r,Hu,-⟩:=aB h1.rL;subst Hu;have R:=h1.blk.a0;have AV:=SI (w:=w1.drew) ((h1.pk hp).move fun _ _=>rfl) (c.2:Int);obtain⟨y,O⟩:=aF (Pk.bH p (c.2:Int));rw[O]at AV hsz;have HN:Hid (∀w2,φ w1.heap.size w1 w2->dV W0 B wb pb rv (ς D s.pile.length r) vS w2 s/\aj w2 l #[ι ξ (c.1:Int),ι ξ (c.2:Int)] 118):=fun w2 z=>⟨h1.move z,(z.block _ a.lt).trans a⟩
  clear h1 a A CX hc;go_enter func104,ntmps104;go_upto_region 1 with fail
  rw[<-d];clear d;go_upto_region 4 with fail
  go_region_law (refine eZ rfl 157 #[π (ο ⟨pb,0,ν⟩),ι ξ (c.2:Int)] (by go_simp) AV ?_;rintro e w2⟨rfl,g⟩;refine⟨_,rfl,?_⟩)
  all_goals
   obtain⟨h2,a⟩:=HN.out w2 ⟨g.1,g.2,g.3,g.4,g.5⟩;clear g x0 x1 R;have c3:=h2.blk.a3;have f3:=h2.blk.frozen 3;have ad:=DK h2.rL;obtain⟨m,hm⟩:=aF (s.pile.length-y.2);have V:(s.pile.length:Int) - (y.2:Int)=(m:Int):=by omega
   have m0:(0:Int)<=(m:Int):=by omega
   have m1:(m:Int)<=(r:Int):=by omega
   have m2:¬r=0:=by omega
   have J:Hid (∀nq,dV W0 B wb pb rv (ς D m r) vS ((w2.drewN nq).setCell ⟨wb,3,ν⟩ (ς D m r)) { s with pile:=s.pile.take m }/\aj ((w2.drewN nq).setCell ⟨wb,3,ν⟩ (ς D m r)) l #[ι ξ (c.1:Int),ι ξ (c.2:Int)] 118):=fun nq=>⟨(h2.move (W':=w2.drewN nq) ⟨rfl,rfl,rfl,zL0,fun _ _=>rfl⟩).cut rfl (by omega) (by omega),(show aj (w2.drewN nq) l _ 118 from a).other F _⟩
   clear h2 a;go_upto_region 5 with fail
   simp only[Act.put,List.setIfInBounds_toArray,List.set_cons_succ,List.set_cons_zero,List.getElem_toArray,List.getElem_cons_succ,List.getElem_cons_zero];refine(pn (n:=9)).1 ?_;refine kV 15 (by kernel_rfl) (by kernel_rfl) (by kernel_rfl) ?_
   dsimp only[List.take,List.drop,List.length]
   repeat (gi_big_quiet_step (fail))
   refine wpQuietIn_nil ?_;rintro _⟨Ll,rfl⟩;refine wpAnyIn_ready (rs:=[15]) (by kernel_rfl) (by simp) (AllReadyIn.cons rfl (fun K2 N=>?_) AllReadyIn.nil)
   go_simp
   refine N _ _ (wpAnyIn_done (by kernel_rfl) ?_ _);clear N K2;obtain⟨h3,a⟩:=J.out Ll;clear J c3 f3 m0 m1 m2 V;generalize (w2.drewN Ll).setCell ⟨wb,3,ν⟩ (ς D m r)=w3 at h3 a|-;have K:(s.pile.take m)≠[]:=by
    rw[<-xo,fR];omega
   obtain⟨u,C⟩:∃u:Rn.S,u={ s with pile:=s.pile.take m }:=⟨_,rfl⟩;have sG:Rn.less p s c.2=u:=by unfold Rn.less;rw[O,hm,C]
   have M:u.pile≠[]:=by rw[C];exact K
   have G:∀x∈u.pile,x<300:=by rw[C];exact fun x hx=>Y x (mw hx)
   have I:u.pile.length<=1000000000:=by rw[C];show (s.pile.take m).length<=_;rw[fR];omega
   have uh:u.steps=s.steps/\u.passed=s.passed:=by rw[C];exact⟨rfl,rfl⟩
   rw[<-C]at h3;clear C K;have R:=h3.blk.a0;have Ht:=aaf (h3.pk hp);have L:Hid (∀b,φ w3.heap.size w3 b->dV W0 B wb pb rv (ς D m r) vS b u/\aj b l #[ι ξ (c.1:Int),ι ξ (c.2:Int)] 118):=fun b z=>⟨h3.move z,(z.block _ a.lt).trans a⟩
   clear h3 a HN;go_upto_region 7 with (go_at_call 21;refine Ht.mono ?_;rintro e b⟨rfl,P⟩)
   obtain⟨h4,a⟩:=L.out b P;clear L P Ht R;have R:=h4.blk.a0;have x1:=a.a1;have X:=(hG.alm (c.2:Int)).1;rw[O]at X;have ae:=hG.bd.t1;have ew:IntKind.i64.wrap ((y.1:Int) - (p.toks.length:Int))=(y.1:Int) - (p.toks.length:Int):=by rw[gx];omega
   have uq:=aag (h4.move (W':=b.drew) ⟨rfl,rfl,rfl,zL0,fun _ _=>rfl⟩) M G I;obtain⟨E,o⟩:=aF (Pk.goto p (Rn.top u:Int) ((y.1:Int) - (p.toks.length:Int)));have aa:E<300:=by rw[<-o];exact ac _ _
   have HX:Hid (∀j,φ b.heap.size b j->j.cell? ⟨wb,0,ν⟩=ο (π (ο ⟨pb,0,ν⟩))/\j.cell? ⟨l,1,ν⟩=ο (ι ξ (c.2:Int))/\χ prog 159 #[π (ο ⟨pb,0,ν⟩),ι ξ (Rn.top u:Int),ι ξ ((y.1:Int) - (p.toks.length:Int))] j (fun e w'=>e=δ (ι ξ (E:Int))/\φ j.heap.size j w')/\χ prog 158 #[π (ο ⟨wb,0,ν⟩),ι ξ (E:Int),ι ξ (c.2:Int)] j fun e W'=>e=δ (θ #[])/\∃gu qV,dV W0 B wb pb rv gu qV W' { u with pile:=u.pile++[E],steps:=u.steps++[(c.2:Int)] }):=fun j z=>by
    have h5:=h4.move z;have k5:=a.on z;have i:=ajH (h5.pk hp) hG (Rn.top u:Int) ((y.1:Int) - (p.toks.length:Int));rw[o]at i;exact⟨h5.blk.cell 0,k5.cell 1,i,aaN h5 aa (by omega) ⟨I,by rw[uh.1];exact hl.2⟩⟩
   have HR:Hid (Rn.reduce p s c.2={ u with pile:=u.pile++[E],steps:=u.steps++[(c.2:Int)] }):=by
    show Rn.reduce p s c.2=_;unfold Rn.reduce;rw[sG,O,o,uh.1,uh.2]
   clear h4 a o sG O M G
   go_region_law (first
    | (refine eZ rfl 101 #[π (ο ⟨wb,0,ν⟩)] (by go_simp) uq ?_;rintro e j⟨rfl,f⟩;refine⟨_,rfl,?_⟩;clear uq;have Z:φ b.heap.size b j:=⟨f.1,f.2,f.3,f.4,f.5⟩;obtain⟨c5,x5,i,-⟩:=HX.out j Z;clear f)
    | (refine eZ rfl 159 #[π (ο ⟨pb,0,ν⟩),ι ξ (Rn.top u:Int),ι ξ ((y.1:Int) - (p.toks.length:Int))] (by go_simp) i ?_;rintro e w6⟨rfl,H⟩;refine⟨_,rfl,?_⟩;clear i;have zu:φ b.heap.size b w6:=Z.trans (H.mono Z.size);obtain⟨c6,x6,-,U⟩:=HX.out w6 zu;clear H HX)
    | (refine eZ rfl 158 #[π (ο ⟨wb,0,ν⟩),ι ξ (E:Int),ι ξ (c.2:Int)] (by go_simp) U ?_;rintro e w7⟨rfl,gu,qV,h7⟩;refine⟨_,rfl,?_⟩;clear U))
   all_goals
    go_wp2_with fail
    go_end0
    exact⟨rfl,gu,qV,by rw[HR.out];exact h7⟩
end

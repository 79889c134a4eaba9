import Derived.Maps.OwnIn
import Derived.Sort.LoopGhostIn
import Derived.Test.YtfpjphhnjegnjaaGreatDoorCL06
import Derived.OwnWalkIn
import Derived.Lib.Bytealg
import Derived.OrdersIn
import Derived.Shelf.RegionOpen
set_option maxHeartbeats 8000000
set_option maxRecDepth 1000000
namespace Go.Proofs.YtfpjphhnjegnjaaGreatDoor
open Lx Go.Proofs.Tryz
open Go.RowKit Tr
open Go.Value renaming slice→ς,int→ι,string→τ,pointer→π,bool→μ,tuple→θ
open Go.IntKind renaming i64→ξ
open Option renaming none→ν,some→ο
open Go.Ending renaming returned→δ
open Go.Obj renaming cells→ζ
open Bool renaming true→η,false→ε
open Go renaming World→ω,Value→υ,Calls→χ
open Go.RowKit renaming Below→φ
open List renaming replicate→ψ
variable{B B' N0 bx c i j k kc m n nc pb rb rest t z:Nat}{K:Act->ω->Prop}{P:Program}{Q:Exit->Act->ω->Prop}{W W' w w0:ω}{a ka na:Option Addr}{b s:ByteArray}{d f mv u vp vt:υ}{ks:List Nat}{pile:List Int}{v:cu}{x:Int}
section
open Go.RowKit Go.Shelf
open Tr
attribute [local go_sem] my
def nG(W:ω)(a:Option Addr)(ks:List Nat):Prop:=∀(i x:Nat),ks[i]?=ο x->∃g,a=ο ⟨g,0,ν⟩/\g<W.heap.size/\W.cell? ⟨g,i,ν⟩=ο (ι ξ (x:Int))
theorem nG.move(h:nG W a ks)(d:W.heap.size<=W'.heap.size)(c:∀g,a=ο ⟨g,0,ν⟩->g<W.heap.size->W'.heap[g]?=W.heap[g]?):nG W' a ks:=fun i x j=>by
 obtain⟨g,e,b,f⟩:=h i x j;exact⟨g,e,dg b d,(cQ (w:=W) (c g e b)).trans f⟩
def O7(x:Nat×Nat):Array υ:=#[ι ξ (x.1:Int),ι ξ (x.2:Int)]
def nI(ks:List Nat):List (Nat×Nat):=((List.range ks.length).map fun i=>(i,ks.getD i 0)).reverse
theorem Tw(ks:List Nat):(nI ks).length=ks.length:=by simp[nI]
theorem amn{x:Nat}(h:ks[k]?=ο x):(nI ks)[ks.length - (k+1)]?=ο (k,x):=by
 have a:=(cH.1 h).1;unfold nI;rw[List.getElem?_reverse (by simp;omega)];simp only[List.length_map,List.length_range];rw[show ks.length-1 - (ks.length - (k+1))=k by omega,dj,pT a];simp[h]
theorem aaJ(E:ks.length<=1000000000):xP prog 163 #[π (ο ⟨bx,0,ν⟩)] O7 (nI ks) (fun W=>aj W bx #[ς a ks.length c] 47/\nG W a ks):=by
 intro l J W G d y f;refine gh.1 (uC (F:=Fence.wide) (n:=9) func163 rfl trivial ?_ rfl);simp only[ntmps163,List.size_toArray,List.length_cons,List.length_nil,Nat.reduceAdd,Nat.reduceSub,Array.replicate_succ,Array.replicate_zero,List.push_toArray,List.append_toArray,List.nil_append,List.cons_append];have o:=(d _ _ _ f).1.a0;have u:IntKind.i64.wrap ((ks.length:Int) - 1)=(ks.length:Int) - 1:=by rw[gx];omega
 gi_wp2
 gi_loopg [3] ks.length (fun m i wr=>∃(k:Nat)(Z:Nat->Prop),k=m/\k<=ks.length/\i=ι ξ ((k:Int) - 1)/\J (ks.length-k) Z wr)
 case atStart=>exact⟨ks.length,_,rfl,zL0,rfl,by rw[io];exact f⟩
 case round=>
  clear f o u;obtain⟨k,Z,rfl,r,rfl,b⟩:=hrel;cases k with
  |zero=>
   rw[sX]at b
   gi_wp2
   go_end0
   exact⟨⟨_,rfl⟩,Z,by rw[Tw];exact b⟩
  |succ k=>
   obtain⟨x,p⟩:∃x,ks[k]?=ο x:=⟨_,cG (by omega)⟩;obtain⟨g,A,-,v⟩:=(d _ _ _ b).2 k x p;have o:=(d _ _ _ b).1.a0;subst A;obtain⟨D,tmps,assign,body,t,q⟩:=y _ _ Z wr (amn p) b;rw[show ks.length - (k+1)+1=ks.length-k by omega]at q;simp only[O7]at t;have s:(((k+1:Nat):Int) - 1)=(k:Int):=by omega
   rw[s];have I:(0:Int)<=(k:Int):=by omega
   have B:(k:Int)<(ks.length:Int):=by omega
   have H:IntKind.i64.wrap ((k:Int) - 1)=(k:Int) - 1:=by rw[gx];omega
   have z:Hid _:=r;clear b p s r
   gi_upto_region 2 with fail
   refine(BH q).mono ?_;rintro e C⟨rfl,j,-⟩;clear t q o v
   gi_wp2
   gi_roundg k
   case measure=>omega
   case rel=>exact⟨k,Z,rfl,by have:=z.out;omega,by go_num,j⟩
theorem YM:χ prog 110 #[ς a n c] w fun e w'=>e=δ (.func (.func 163) #[] #[π (ο ⟨w.heap.size,0,ν⟩)])/\w'=w.alloc (ζ #[ς a n c] 47):=by
 go_enter func110,ntmps110;go_wp2_with fail;go_ret;exact⟨rfl,rfl⟩
end
section
open Go.RowKit Go.Shelf
open Tr
attribute [local go_sem] my
theorem Tryz.DV:prog.underlying 47=ο (.slice 3):=by kernel_rfl
theorem aby(ks:List Nat):(nI ks).map Prod.snd=ks.reverse:=by
 unfold nI;rw[tv,pj];congr 1;apply pS;intro i;rw[dj]
 by_cases hi:i<ks.length
 ·rw[pT hi,cG hi];simp[hi]
 ·rw[kf (by simpa using hi),kf (by omega)];rfl
structure EH(w:ω)(n B:Nat)(vp u:υ)(zs:Nat->List Nat)(i:Nat)(Z:Nat->Prop)(W:ω):Prop where
 fr:w.grownBy W vp.ownBlock
 bx:aj W (n+1) #[u] 47
 z:∀k,Z k->n+1<k/\k<W.heap.size
 row:∃v,aj W n #[v] 47/\W.ownsRow B 3 1 v (zs i).length ((zs i).map bA)/\(∀g,v.ownBlock=ο g->¬Z g)/\(v.ownBlock=vp.ownBlock\/∀g,v.ownBlock=ο g->n<g)
theorem EH.oD{r:Nat->List Nat}(s:n=w.heap.size):sF (EH w n B vp u r) where
 own i Z A C row h hg hr:=by
  obtain⟨f1,f2,f,v,l,c,j,p⟩:=h;have b:∀k,row=ο k->n+1<k:=fun k e=>(f k (hr k e)).1
  refine⟨⟨hg.os.trans f1.os,hg.tape.trans f1.tape,hg.output.trans f1.output,cY f1.size hg.size,fun k a m=>(hg.block k (dg a f1.size) fun e=>by have:=b k e.symm;omega).trans (f1.block k a m)⟩,(hg.block _ f2.lt fun e=>by have:=b _ e.symm;omega).trans f2,fun k a=>⟨(f k a).1,dg (f k a).2 hg.size⟩,v,(hg.block n l.lt fun e=>by have:=b n e.symm;omega).trans l,ay c fun g d=>hg.block g (c.lt g d).2 fun e=>j g d (hr g e.symm),j,p⟩
 new i Z A o h:=by
  obtain⟨f1,f2,f,v,l,c,j,p⟩:=h;refine⟨aI f1 (aM _ _ _),f2.alloc o,fun k a=>?_,v,l.alloc o,c.alloc o,fun g hg q=>?_,p⟩
  ·rw[eC]
   rcases a with a|rfl
   ·have:=f k a
    omega
   ·have:=f2.lt
    omega
  ·rcases q with q | rfl
   ·exact j g hg q
   ·have:=(c.lt _ hg).2
    omega
theorem Zt{pile:List Nat}(hp:w.ownsRow B 3 1 vp pile.length (pile.map bA))(hB:B<=w.heap.size)(b:nG w ka ks)(hd:∀g,ka=ο ⟨g,0,ν⟩->vp.ownBlock≠ο g)(hl:pile.length+ks.length<=1000000000):χ prog 162 #[vp,ς ka ks.length kc] w fun e w'=>∃v,e=δ v/\w'.ownsRow B 3 1 v (pile++ks.reverse).length ((pile++ks.reverse).map bA)/\w.grownBy w' vp.ownBlock/\(v.ownBlock=vp.ownBlock\/∀g,v.ownBlock=ο g->w.heap.size<g):=by
 obtain⟨i0,ad,ab,ac,aa⟩:=ft Tryz.info3;obtain⟨s,y,rfl,-⟩:=aB hp;obtain⟨L,X⟩:=aF ((pile++ks.reverse).length);have HQ:Hid ((pile++ks.reverse).length=L):=X;rw[X];clear X;refine gh.1 (callsIn_of_wp_marks (F:=Fence.wide) (n:=9) func162 rfl trivial ?_ rfl);simp only[ntmps162,List.size_toArray,List.length_cons,List.length_nil,Nat.reduceAdd,Nat.reduceSub,Array.replicate_succ,Array.replicate_zero,List.push_toArray,List.append_toArray,List.nil_append,List.cons_append];obtain⟨n,V⟩:=aF w.heap.size;have N:(w.alloc (ζ #[ς s pile.length y] 47)).heap.size=n+1:=by rw[eC,V]
 obtain⟨w2,d⟩:=aC ((w.alloc (ζ #[ς s pile.length y] 47)).alloc (ζ #[ς ka ks.length kc] 47));have q:=YM (w:=w.alloc (ζ #[ς s pile.length y] 47)) (a:=ka) (n:=ks.length) (c:=kc);rw[N,<-d]at q
 let zs:Nat->List Nat:=fun i=>pile++((nI ks).take i).map Prod.snd
 have h0:EH w n B (ς s pile.length y) (ς ka ks.length kc) zs 0 (fun _=>False) w2:=by
  refine⟨by rw[d];exact aI (aM _ _ _) (aM _ _ _),?_,fun k b=>b.elim,_,?_,?_,fun g _ S=>S,.inl rfl⟩
  ·rw[d,<-N];exact aj.new ..
  ·rw[d,<-V];exact(aj.new w _ _).alloc _
  ·rw[d];simp only[zs,List.take_zero,List.map_nil,List.append_nil];exact(hp.alloc _).alloc _
 have E:=aaJ (bx:=n+1) (c:=kc) (a:=ka) (ks:=ks) (by omega);have eT:∀i Z W,EH w n B (ς s pile.length y) (ς ka ks.length kc) zs i Z W->aj W (n+1) #[ς ka ks.length kc] 47/\nG W ka ks:=fun i Z W h=>⟨h.bx,b.move h.fr.size fun g e l=>h.fr.block g l fun Y=>hd g e Y.symm⟩
 rw[V]at hB|-
 gi_upto_region 1 with fail
 gi_wp2_with (refine⟨trivial,?_⟩;gi_at_call 110;refine(gh.2 q).mono ?_;rintro e w'⟨rfl,rfl⟩)
 rw[<-d];clear d q;have HE:Hid (∀(W:ω)(v:υ),W.ownsRow B 3 1 v (zs (nI ks).length).length ((zs (nI ks).length).map bA)->W.ownsRow B 3 1 v (pile++ks.reverse).length ((pile++ks.reverse).map bA)):=fun W v h=>by
  have e:zs (nI ks).length=pile++ks.reverse:=by
   show pile++((nI ks).take (nI ks).length).map Prod.snd=_;rw[ff,aby]
  rw[e]at h;exact h
 have HZ:Hid (∀i x,(nI ks)[i]?=ο x->zs (i+1)=zs i++[x.2]/\(zs i).length=pile.length+i/\i<ks.length):=fun i x T=>by
  have hi:=(cH.1 T).1;refine⟨?_,?_,by rw[<-Tw];exact hi⟩
  ·simp only[zs];rw[ki,T,ee,dy];rfl
  ·simp only[zs];rw[cJ,dk,fR];omega
 clear_value zs
 rw[HQ.out]at HE;refine BF (gf:=163) (lb:=#[π (ο ⟨n+1,0,ν⟩)]) rfl (enters_of func163 (by kernel_rfl) rfl) E (fun _=>rfl) (EH w n B (ς s pile.length y) (ς ka ks.length kc) zs) (EH.oD V.symm) eT h0
  (fun x a' W=>a'={ tmps:=#[ς s pile.length y,ς ka ks.length kc,π (ο ⟨n,0,ν⟩),undef,ς ν 0 0,undef,ι ξ (x.2:Int),ς ka ks.length kc,.func (.func 163) #[] #[π (ο ⟨n+1,0,ν⟩)],ι ξ (x.1:Int),ι ξ (x.2:Int),undef,undef,undef,undef,undef],defers:=[] }) ?hAx ?assign ?body ?done
 case hAx=>exact fun _ _ _ _ h=>h
 case assign=>
  rintro l' i x Z W K hsz hi hK;simp only[O7]
  gi_wp2
  exact hK _ _ (zL0) (fun _ _ _=>rfl) hi rfl
 case body=>
  rintro l' i x Z a' W T⟨f1,f2,A,v,kB,G,J,f⟩rfl;obtain⟨j,m,rfl,-⟩:=aB G;obtain⟨z1,z2,z3⟩:=HZ.out i x T;have c0:=kB.a0;have P:(ς j (zs i).length m).ownBlock≠ο n:=fun e=>by
   obtain⟨O,M⟩:=bJ G e;unfold aj at kB;rw[M]at kB;cases kB
  have R:(ς j (zs i).length m).ownBlock≠ο (n+1):=fun e=>by
   obtain⟨O,M⟩:=bJ G e;unfold aj at f2;rw[M]at f2;cases f2
  have hsz:=f2.lt;have ah:(zs i).length<=1000000000:=by omega
  have HF:Hid (∀C u a,u.ownsRow B 3 1 C ((zs i).length+1) ((zs i).map bA++[ι ξ (x.2:Int)])->(W.alloc (ζ #[ι ξ (x.2:Int)] 3)).grownBy u (ς j (zs i).length m).ownBlock->(C.ownBlock=(ς j (zs i).length m).ownBlock\/C.ownBlock=ο (W.alloc (ζ #[ι ξ (x.2:Int)] 3)).heap.size)->tq Z (EH w n B (ς s pile.length y) (ς ka ks.length kc) zs (i+1) Z) W .normal a (u.setCell ⟨n,0,ν⟩ C)):=fun C u a kH ag U=>by
   have l:=aI (aM W _ _) ag;have Kg:∀k,Z k->u.heap[k]?=W.heap[k]?:=fun k b=>l.block k (A k b).2 fun e=>J k e.symm b
   have I:aj u n #[ς j (zs i).length m] 47:=(l.block n kB.lt fun e=>P e.symm).trans kB;have af:aj u (n+1) #[ς ka ks.length kc] 47:=(l.block _ f2.lt fun e=>R e.symm).trans f2;have Q:∀g,C.ownBlock=ο g->g≠n:=fun g e Y=>by
    obtain⟨O,M⟩:=bJ kH e;unfold aj at I;rw[Y,I]at M;cases M
   refine⟨⟨⟨l.os.trans f1.os,l.tape.trans f1.tape,l.output.trans f1.output,by have:=cY f1.size l.size;simpa using this,fun k b z=>(aY _ _ (by omega)).trans ((l.block k (dg b f1.size) fun e=>?_).trans (f1.block k b z))⟩,af.other (by omega) _,fun k b=>⟨(A k b).1,by have:=(A k b).2;have:=l.size;simpa using (by omega:k<u.heap.size)⟩,C,I.set 0 C,?_,fun g e S=>?_,?_⟩,fun k b ai=>(aY _ _ (by have:=(A k b).1;omega)).trans (Kg k b)⟩
   ·rcases f with r | r
    ·exact z (e.trans r)
    ·have:=r k e.symm
     omega
   ·rw[z1,ee,cJ]
    exact ay kH fun g e=>aY _ _ (Q g e)
   ·rcases U with r | r
    ·exact J g (r▸e) S
    ·rw[r]at e
     cases e;have:=(A _ S).2;simp at this;omega
   ·rcases U with r | r
    ·rw[r];exact f
    ·refine .inr fun g e=>?_
     rw[r]at e;cases e;simp;omega
  clear f1 f2 A J f E h0 HZ HE R eT b hd hp z1 z2 z3
  gi_wp2_with (gi_at_builtin;go_loud (refine qS _ rfl _ _ 47 rfl B 3 i0 _ 1 8 Tryz.DV ad ab ac aa rfl (by decide) (ς j (zs i).length m) _ _ rfl (G.alloc _) ⟨_,0,ν⟩ 1 1 [ι ξ (x.2:Int)] rfl rfl (bQ (aj.new _ _ 3)) (by simp[Value.oneCell']) (by unfold maxLen;omega) (by omega) (by simp;omega) ?_);intro C u p aX _ U;obtain⟨mG,mH,ae,-⟩:=aB p;subst ae;have I:=(kB.alloc (ζ #[ι ξ (x.2:Int)] 3)).grown aX (fun e=>P e.symm);have c5:u.cell? ⟨n,0,ν⟩=ο (ς j (zs i).length m):=I.cell 0;have f5:=I.frozen 0)
  exact HF.out _ _ _ p aX U
 case done=>
  rintro D Z W hD oF⟨f1,f2,A,v,kB,G,J,f⟩hK;have H:=HE.out W v G;obtain⟨j,m,rfl,-⟩:=aB H;have c0:=kB.a0;have HR:Hid (∀o,(W.putObj D o).ownsRow B 3 1 (ς j L m) L ((pile++ks.reverse).map bA)/\w.grownBy (W.putObj D o) (ς s pile.length y).ownBlock/\((ς j L m).ownBlock=(ς s pile.length y).ownBlock\/∀g,(ς j L m).ownBlock=ο g->n<g)):=fun o=>⟨ay H fun g l=>World.putObj_heap_other fun e=>J g l (e▸oF),⟨f1.os,f1.tape,f1.output,by simpa [World.putObj]using f1.size,fun k b z=>(World.putObj_heap_other (by have:=(A D oF).1;omega)).trans (f1.block k b z)⟩,f⟩
  clear f1 f2 A G H J f
  gi_wp2
  refine⟨by simp,.inl ⟨_,_,rfl,run_takeDeferred hK,?_⟩⟩;exact⟨ς j L m,results_tmp (fn:=Tryz.f162) (t:=4) rfl _ _ _,ς j L m,rfl,HR.out _⟩
end
namespace Rn
end Rn
theorem Si{e:Nat}{i:List υ}(h:W.ownsRow B e z (ς a n c) n i)(j:m<=n)(q:0<n):W.ownsRow B e z (ς a m c) m (i.take (m*z)):=by
 have d:=kj z j;refine⟨by rw[fR,h.1];omega,?_⟩;rcases h.2 with ⟨f,r⟩|⟨g,o,b,f,h2,h3,h4,p,k,l⟩
 ·omega
 ·cases f
  refine .inr ⟨g,c,b,rfl,h2,h3,by omega,p,k,?_⟩;rw[<-l,AF,qt d]
theorem Na{d:Array Oper}{o:Oper}{a:Act}{E:Prop}(b:o.guard=ν)(s x:Operand)(t tn:TypeId)(g:o.op=.call { callee:=.builtin .append,args:=#[s,x],argTypes:=#[t,tn] })(vs j:υ)(l:a.eval s=vs)(m:a.eval x=j)(i:υ)(w':ω)(k:(Builtin.append_ #[t,tn] o.type #[vs,j]).run P w=.ok i w')(h:K (a.put o.dst i) w'):if Region.wanted o (yielded d a.tmps)=η then Oper.wpIn Fence.wide n P o a w K Q else E:=by
 rw[du (by simp[Region.wanted,b])];refine⟨fun f p=>trivial,?_⟩;rw[Oper.semAt_plain _ _ _ (fun c e=>by rw[g]at e;cases e)];unfold execOp;simp only[g,resolve,invoke,builtin,Sem.run_bind,Sem.run_pure,Result.andThen_ok,List.map_toArray,List.map_cons,List.map_nil,l,m,k];exact h
namespace Cm
structure Nk where
 sym:Int
 prod:Int
 kids:List Nat
 fr:Int
 wd:Int
def dJ:Nk:=⟨0,0,[],0,0⟩
def C8(ns:List Nk)(fo:Nat->Bool):Nat->Nat->List Nat
 |0,_=>[]
 |f+1,i=>if fo i=η then (ns.getD i dJ).kids.flatMap (C8 ns fo f) else [i]
def exp(ns:List Nk)(fo:Nat->Bool)(i:Nat):List Nat:=C8 ns fo (i+1) i
def AY(ns:List Nk)(fo:Nat->Bool):Nat->Nat->Nat
 |0,_=>1
 |f+1,i=>if fo i=η then 1+((ns.getD i dJ).kids.map (AY ns fo f)).sum else 1
def wt(ns:List Nk)(fo:Nat->Bool)(i:Nat):Nat:=AY ns fo (i+1) i
def eX(ns:List Nk):Prop:=∀i,∀k∈(ns.getD i dJ).kids,k<i
theorem FR{α β:Type}{f g:α->List β}:∀{l:List α},(∀x∈l,f x=g x)->l.flatMap f=l.flatMap g
 | [],_=>rfl
 |x::l,h=>by rw[eS,eS,h x (by simp),FR fun y a=>h y (by simp[a])]
section
variable{ns:List Nk}{fo:Nat -> Bool}
theorem amq(h:eX ns):∀f i,i<f->C8 ns fo f i=exp ns fo i:=by
 intro f
 induction f using Nat.strongRecOn with
 |ind f ih=>
  intro i b
  match f,b,ih with
  |f+1,b,ih=>
   unfold exp;rw[C8,C8]
   split
   ·have e:∀k∈(ns.getD i dJ).kids,C8 ns fo f k=C8 ns fo i k:=fun k c=>by
     have a:=h i k c;rw[ih f (by omega) k (by omega)]
     by_cases e:i=f+1
     ·omega
     ·rw[ih i (by omega) k a]
    exact FR e
   ·rfl
theorem BV(h:eX ns)(i:Nat):exp ns fo i=if fo i=η then (ns.getD i dJ).kids.flatMap (exp ns fo) else [i]:=by
 rw[exp,C8]
 split
 ·exact FR fun k a=>amq h _ _ (h i k a)
 ·rfl
theorem amr(h:eX ns):∀f i,i<f->AY ns fo f i=wt ns fo i:=by
 intro f
 induction f using Nat.strongRecOn with
 |ind f ih=>
  intro i b
  match f,b,ih with
  |f+1,b,ih=>
   unfold wt;rw[AY,AY]
   split
   ·have e:∀k∈(ns.getD i dJ).kids,AY ns fo f k=AY ns fo i k:=fun k c=>by
     have a:=h i k c;rw[ih f (by omega) k (by omega),ih i (by omega) k a]
    rw[ju e]
   ·rfl
theorem Uv(h:eX ns)(i:Nat):wt ns fo i=if fo i=η then 1+((ns.getD i dJ).kids.map (wt ns fo)).sum else 1:=by
 rw[wt,AY]
 split
 ·rw[ju fun k a=>amr h _ _ (h i k a)]
 ·rfl
theorem ams(i:Nat):0<wt ns fo i:=by
 rw[wt,AY]
 split <;> omega
theorem Nt:∀l:List Nat,l.length<=(l.map (wt ns fo)).sum
 | []=>zL0
 |i::l=>by
  have:=Nt l;have:=ams (ns:=ns) (fo:=fo) i;simp only[List.length_cons,List.map_cons,List.sum_cons];omega
end
end Cm
def mU(B:Nat)(W:ω)(a:Option Addr)(ns:List Cm.Nk):Prop:=∀(i:Nat)(n:Cm.Nk),ns[i]?=ο n->∃g ka kc,a=ο ⟨g,0,ν⟩/\g<B/\W.cell? ⟨g,i*5,ν⟩=ο (ι ξ n.sym)/\W.cell? ⟨g,i*5+1,ν⟩=ο (ι ξ n.prod)/\W.cell? ⟨g,i*5+2,ν⟩=ο (ς ka n.kids.length kc)/\W.cell? ⟨g,i*5+3,ν⟩=ο (ι ξ n.fr)/\W.cell? ⟨g,i*5+4,ν⟩=ο (ι ξ n.wd)/\nG W ka n.kids/\∀k,ka=ο ⟨k,0,ν⟩->k<B
theorem mU.move{B:Nat}{W W':ω}{a:Option Addr}{ns:List Cm.Nk}(h:mU B W a ns)(c:φ B W W'):mU B W' a ns:=fun i n p=>by
 obtain⟨g,l,q,e,f,s,u,j,m,t,r,d⟩:=h i n p;have b:∀o,W'.cell? ⟨g,o,ν⟩=W.cell? ⟨g,o,ν⟩:=fun o=>cQ (c.block g f)
 exact⟨g,l,q,e,f,(b _).trans s,(b _).trans u,(b _).trans j,(b _).trans m,(b _).trans t,r.move c.size fun k e _=>c.block k (d k e),d⟩
def LD(W:ω)(g:Nat)(nu:List Int):Prop:=∀(i:Nat)(x:Int),nu[i]?=ο x->W.cell? ⟨g,i,ν⟩=ο (ι ξ x)
theorem LD.move{g:Nat}{a:List Int}(h:LD W g a)(b:W'.heap[g]?=W.heap[g]?):LD W' g a:=fun i x c=>(cQ (w:=W) b).trans (h i x c)
def bO(nu:List Int)(i:Nat):Bool:=nu.getD i 0 == -1
def lC(ns:List Cm.Nk)(nu:List Int)(l:List Nat):List Int:=(l.flatMap (Cm.exp ns (bO nu))).map fun i=>nu.getD i 0
def dI(x:Int):υ:=ι ξ x
structure Hw(w:ω)(n T:Nat)(ns:List Cm.Nk)(nu tot:List Int)(vo vp:υ)(pile:List Nat)(out:List Int)(W:ω):Prop where
 b:φ n w W
 rp:W.ownsRow n 3 1 vp pile.length (pile.map bA)
 ro:W.ownsRow n 3 1 vo out.length (out.map dI)
 ne:∀g,vp.ownBlock=ο g->vo.ownBlock≠ο g
 eq:out++lC ns nu pile.reverse=tot
 lt:∀k∈pile,k<ns.length
 sz:out.length+(pile.map (Cm.wt ns (bO nu))).sum<=T
theorem ajL(ns:List Cm.Nk)(a:List Int):lC ns a []=[]:=rfl
theorem aiy(ns:List Cm.Nk)(a:List Int)(k:Nat)(l:List Nat):lC ns a (k::l)=(Cm.exp ns (bO a) k).map (fun i=>a.getD i 0)++lC ns a l:=by
 unfold lC;rw[eS,ee]
theorem ajM(ns:List Cm.Nk)(a:List Int)(l m:List Nat):lC ns a (l++m)=lC ns a l++lC ns a m:=by
 unfold lC;rw[ik,ee]
theorem Hw.pop{T:Nat}{ns:List Cm.Nk}{g tot:List Int}{pile:List Nat}{b:List Int}(h:Hw w n T ns g tot d (ς a pile.length c) pile b W)(i:rest+1=pile.length)(f:pile[rest]?=ο k):W.ownsRow n 3 1 (ς a rest c) (pile.take rest).length ((pile.take rest).map bA)/\pile=pile.take rest++[k]:=by
 constructor
 ·have:=Si h.rp (m:=rest) (by omega) (by omega)
  rw[j9]at this;rw[uk,fR,qt (by omega)];exact this
 ·have e:=lj rest pile
  rw[eN (by omega),show rest+1=pile.length from i,im]at e;rw[(cH.1 f).2]at e;exact e.symm
theorem ajN(ns:List Cm.Nk)(a:List Int)(b:Cm.eX ns)(k:Nat)(l:List Nat):lC ns a (l++[k]).reverse=(if bO a k=η then lC ns a (ns.getD k Cm.dJ).kids else [a.getD k 0])++lC ns a l.reverse:=by
 rw[tS,BW,th,aiy,Cm.BV b]
 split <;> rfl
theorem ajO{f U mc:Nat}{ns:List Cm.Nk}{d:List Int}{T:Nat}(G:aj w f #[ς na ns.length nc,ς (ο ⟨U,0,ν⟩) d.length mc] 260)(hN:mU B w na ns)(hB:B<=w.heap.size)(hU:LD w U d)(ac:U<w.heap.size)(sG:d.length=ns.length)(V:Cm.eX ns)(hk:nG w ka ks)(L:∀k∈ks,k<ns.length)(hT:(ks.map (Cm.wt ns (bO d))).sum<=T)(an:T<=100000000):χ prog 107 #[π (ο ⟨f,0,ν⟩),ς ka ks.length kc] w fun e w'=>∃v,e=δ v/\w'.ownsRow w.heap.size 3 1 v (lC ns d ks).length ((lC ns d ks).map dI)/\φ w.heap.size w w':=by
 obtain⟨i0,ak,ag,ai,ad⟩:=ft Tryz.info3;obtain⟨n,hn⟩:=aF w.heap.size;have ab:=cY (Cm.Nt (ns:=ns) (fo:=bO d) ks) hT;have q:=Zt (w:=w) (B:=n) (vp:=ς ν 0 0) (pile:=[]) (ks:=ks) (ka:=ka) (kc:=kc) (eV _ _ _ _) (by omega) hk (fun g _ e=>by cases e) (by simp only[List.length_nil];omega);have H0:Hid (∀v w',w'.ownsRow n 3 1 v ([]++ks.reverse).length (([]++ks.reverse).map bA)->w.grownBy w' (ς ν 0 0).ownBlock->Hw w n T ns d (lC ns d ks) (ς ν 0 0) v ks.reverse [] w'):=fun v w' Q l=>by
  rw[jn]at Q;refine⟨⟨l.os,l.tape,l.output,l.size,fun k hk=>l.block k (by omega) (fun e=>by cases e)⟩,Q,eV _ _ _ _,(fun g _ e=>by cases e),by rw[xe,jn],fun k hk=>L k (zd.1 hk),?_⟩;rw[tv,zc,iz,fX];exact hT
 have HW:Hid (∀W,φ n w W->aj W f #[ς na ns.length nc,ς (ο ⟨U,0,ν⟩) d.length mc] 260/\mU B W na ns/\LD W U d):=fun W hb=>⟨(hb.block f (by rw[<-hn];exact G.lt)).trans G,hN.move (hb.mono (by omega)),hU.move (hb.block U (by omega))⟩
 rw[hn];rw[hn]at hB ac;clear G hN hU hk hT L ab;go_enter func107,ntmps107;go_upto_region 3 with (go_at_call 162;refine q.mono ?_;rintro e w1⟨v1,rfl,X,aa,-⟩)
 have h1:=H0.out v1 w1 X aa;clear H0 q X aa
 go_loopg [5,6] ((ks.reverse.map (Cm.wt ns (bO d))).sum) (fun m vo vp wr=>∃(pile:List Nat)(out:List Int),Hid (m=(pile.map (Cm.wt ns (bO d))).sum/\Hw w n T ns d (lC ns d ks) vo vp pile out wr))
 case atStart=>exact⟨ks.reverse,[],rfl,h1⟩
 case round=>
  clear h1;obtain⟨pile,out,HI⟩:=hrel;obtain⟨hm,c⟩:=HI.out;clear HI;obtain⟨pa,R,am,-⟩:=aB c.rp;obtain⟨S,P,yg,-⟩:=aB c.ro;subst am yg
  by_cases h0:pile.length=0
  ·have HE:Hid (wr.ownsRow n 3 1 (ς S out.length P) (lC ns d ks).length ((lC ns d ks).map dI)/\φ n w wr):=by
    have e:=c.eq;rw[so.1 h0,List.reverse_nil,ajL,fW]at e;rw[<-e];exact⟨c.ro,c.b⟩
   clear c hm;have aq:(pile.length:Int)=0:=by omega
   go_wp2_with fail;go_ret;exact⟨_,rfl,HE.out⟩
  ·obtain⟨a,hr⟩:∃r,r+1=pile.length:=⟨pile.length-1,by omega⟩
   obtain⟨k,hk⟩:∃k,pile[a]?=ο k:=⟨_,cG (by omega)⟩;obtain⟨x,hx⟩:∃x,d[k]?=ο x:=⟨_,cG (by have:=c.lt k (cM hk);omega)⟩;obtain⟨nd,N⟩:∃x,ns[k]?=ο x:=⟨_,cG (c.lt k (cM hk))⟩;obtain⟨i,z⟩:=c.pop hr hk;obtain⟨A,gc,ah,J⟩:=jC c.rp (j:=a) (u:=bA k) (by rw[dj,hk];rfl);have ck:wr.cell? ⟨A,a,ν⟩=ο (ι ξ (k:Int)):=J _ _ (by rw[dj,hk];rfl);cases ah;obtain⟨G,hN,hU⟩:=HW.out wr c.b;obtain⟨gN,ka,kc,af,ao,-,-,c2,-,-,F,K⟩:=hN k nd N;subst af;have f0:=G.a0;have f1:=G.a1;have cx:=hU k x hx;have L:=c.lt k (cM hk);have e1:(pile.length:Int) - 1=(a:Int):=by omega
   have p0:(0:Int)<(pile.length:Int):=by omega
   have p1:(0:Int)<=(a:Int):=by omega
   have p2:(a:Int)<(pile.length:Int):=by omega
   have p3:(a:Int)<=(R:Int):=by have:=DK c.rp;omega
   have p4:¬R=0:=by have:=DK c.rp;omega
   have ar:=(c.rp.lt A rfl).1;have k0:(0:Int)<=(k:Int):=by omega
   have k1:(k:Int)<(d.length:Int):=by omega
   have k2:(k:Int)<(ns.length:Int):=by omega
   have hsz:=c.sz;have Z:=Cm.Nt (ns:=ns) (fo:=bO d) pile;have av:pile.length<=100000000:=by omega
   have zI:a<=100000000:=by omega
   have kI:out.length<=100000000:=by omega
   have b0:=ge p0;have I:(pile.map (Cm.wt ns (bO d))).sum=((pile.take a).map (Cm.wt ns (bO d))).sum+Cm.wt ns (bO d) k:=by
    conv=>lhs;rw[z]
    rw[ee,qu];simp
   have t:ns.getD k Cm.dJ=nd:=by rw[di,N];rfl
   have y:d.getD k 0=x:=by rw[di,hx];rfl
   have o:=c.eq;rw[z,ajN ns d V,t,y]at o;have s:=Cm.Uv (fo:=bO d) V k;rw[t]at s;clear hN hU G hx N hk
   by_cases hx1:x=-1
   ·have C:bO d k=η:=by unfold bO;rw[y,hx1];rfl
    rw[du C]at o s;subst hx1;have ap:nd.kids.length<=T:=by
     have:=Cm.Nt (ns:=ns) (fo:=bO d) nd.kids;omega
    have q:=Zt (w:=wr) (B:=n) (vp:=ς (ο ⟨A,0,ν⟩) a R) (pile:=pile.take a) (ks:=nd.kids) (ka:=ka) (kc:=kc) i (by have:=c.b.size;omega) F (fun g e H=>by have h1:=K g e;have h2:A=g:=fL H;omega) (by rw[fR];omega);have HF:Hid (∀v w2,w2.ownsRow n 3 1 v (pile.take a++nd.kids.reverse).length ((pile.take a++nd.kids.reverse).map bA)->wr.grownBy w2 (ς (ο ⟨A,0,ν⟩) a R).ownBlock->(v.ownBlock=(ς (ο ⟨A,0,ν⟩) a R).ownBlock\/∀g,v.ownBlock=ο g->wr.heap.size<g)->Hw w n T ns d (lC ns d ks) (ς S out.length P) v (pile.take a++nd.kids.reverse) out w2/\((pile.take a++nd.kids.reverse).map (Cm.wt ns (bO d))).sum+1=(pile.map (Cm.wt ns (bO d))).sum):=fun v w2 Q l hv=>by
     have hs:((pile.take a++nd.kids.reverse).map (Cm.wt ns (bO d))).sum+1=(pile.map (Cm.wt ns (bO d))).sum:=by
      rw[ee,qu,tv,zc,I,s];omega
     refine⟨⟨⟨l.os.trans c.b.os,l.tape.trans c.b.tape,l.output.trans c.b.output,cY c.b.size l.size,fun k hk=>(l.block k (by have:=c.b.size;omega) fun e=>by have h2:k=A:=fL e;omega).trans (c.b.block k hk)⟩,Q,ay c.ro fun g p=>l.block g (c.ro.lt g p).2 fun e=>c.ne g e.symm p,fun g p e=>?_,?_,fun j Y=>?_,by omega⟩,hs⟩
     ·rcases hv with h | h
      ·exact c.ne g (h▸p) e
      ·have:=h g p
       have:=(c.ro.lt g e).2;omega
     ·rw[tS,xe,ajM]
      exact o
     ·rcases dq.1 Y with h | h
      ·exact c.lt j (mw h)
      ·have:=V k j (by rw[t];exact zd.1 h)
       omega
    clear c o s I Z hsz i z J F K t y V HW
    go_wp2_with (go_at_call 162;refine q.mono ?_;rintro e w2⟨v2,rfl,O,M,D⟩;clear q)
    obtain⟨E,ae⟩:=HF.out v2 w2 O M D;go_roundg (((pile.take a++nd.kids.reverse).map (Cm.wt ns (bO d))).sum)
    case measure=>omega
    case rel=>exact⟨_,_,rfl,E⟩
   ·have C:¬bO d k=η:=by unfold bO;rw[y];simpa using hx1
    rw[dt C]at o s;have b1:=ej.2 hx1;have nJ:=c.ne A rfl;have o1:(wr.alloc (ζ #[ι ξ x] 3)).ownsRow n 3 1 (ς S out.length P) out.length (out.map dI):=c.ro.alloc _;have al:n<=(wr.alloc (ζ #[ι ξ x] 3)).heap.size:=by have:=c.b.size;rw[eC];omega
    have HF:Hid (∀v w2,w2.ownsRow n 3 1 v (out.length+1) (out.map dI++[ι ξ x])->(wr.alloc (ζ #[ι ξ x] 3)).grownBy w2 (ς S out.length P).ownBlock->(v.ownBlock=(ς S out.length P).ownBlock\/v.ownBlock=ο (wr.alloc (ζ #[ι ξ x] 3)).heap.size)->Hw w n T ns d (lC ns d ks) v (ς (ο ⟨A,0,ν⟩) a R) (pile.take a) (out++[x]) w2/\((pile.take a).map (Cm.wt ns (bO d))).sum+1=(pile.map (Cm.wt ns (bO d))).sum):=fun v w2 Q p hv=>by
     have l:=aI (aM wr (ζ #[ι ξ x] 3) _) p;refine⟨⟨⟨l.os.trans c.b.os,l.tape.trans c.b.tape,l.output.trans c.b.output,cY c.b.size l.size,fun j Y=>(l.block j (by have:=c.b.size;omega) fun e=>by have:=(c.ro.lt j e.symm).1;omega).trans (c.b.block j Y)⟩,ay i fun g e=>l.block g (i.lt g e).2 fun H=>c.ne g e H.symm,by rw[cJ,ee];exact Q,fun g e H=>?_,?_,fun j Y=>c.lt j (mw Y),by rw[cJ,gw];omega⟩,by omega⟩
     ·rcases hv with h | h
      ·exact c.ne g e (h▸H)
      ·rw[h]at H
       have h3:=fL H;have:=(i.lt g e).2;rw[eC]at h3;omega
     ·rw[dy]
      exact o
    clear c o s I Z hsz i z J F K t y V HW C
    go_wp2_with (at_builtin;refine ii _ rfl _ _ 47 rfl n 3 i0 _ 1 8 Tryz.DV ak ag ai ad rfl (by decide) (ς S out.length P) out.length (out.map dI) rfl o1 ⟨wr.heap.size,0,ν⟩ 1 1 [ι ξ x] rfl rfl (bQ (aj.new wr #[ι ξ x] 3)) (by simp[Value.oneCell']) (by unfold maxLen;omega) (by omega) al ?_;intro v2 w2 O M _ D)
    obtain⟨E,ae⟩:=HF.out v2 w2 O M D;go_roundg (((pile.take a).map (Cm.wt ns (bO d))).sum)
    case measure=>omega
    case rel=>exact⟨_,_,rfl,E⟩
theorem aiz(s:ByteArray)(c:Int)(w:ω):χ prog 223 #[τ s,ι .u8 c] w fun e w'=>e=δ (ι ξ (Lib.indexByte s.data.toList c.toNat.toUInt8))/\w'=w:=by
 go_enter func223,ntmps223
 go_wp2
 rw[run_callFunc_extern func234 (by kernel_rfl) (by kernel_rfl) (by kernel_rfl) (e:=Extern.BytealgIndexByte.indexByte) (by kernel_rfl),Lib.run_indexByteString];simp only[Result.andThen];rw[wv]
 go_wp2
 go_ret;exact⟨rfl,rfl⟩
theorem aiA(s:ByteArray)(c:UInt8)(w:ω):χ prog 211 #[τ s,τ ⟨#[c]⟩] w fun e w'=>e=δ (ι ξ (Lib.indexByte s.data.toList c))/\w'=w:=by
 go_enter func211,ntmps211
 go_wp2_with (go_at_call 223;refine(aiz _ _ _).mono ?_;rintro e w'⟨rfl,rfl⟩)
 ·have h:([c] == s.toList)=η:=by assumption
  go_ret;refine⟨?_,rfl⟩;have e:s.data.toList=[c]:=by rw[<-Lib.toList_data];exact(t6.1 h).symm
  rw[e];simp[Lib.indexByte]
 ·go_ret
  exact⟨rfl,rfl⟩
theorem af2(s:ByteArray)(c:UInt8)(w:ω):χ prog 161 #[τ s,τ ⟨#[c]⟩] w fun e w'=>e=δ (μ (decide (0<=Lib.indexByte s.data.toList c)))/\w'=w:=by
 have q:χ prog 192 #[τ s,τ ⟨#[c]⟩] w fun e w'=>e=δ (ι ξ (Lib.indexByte s.data.toList c))/\w'=w:=by
  go_enter func192,ntmps192
  go_wp2_with (go_at_call 211;refine(aiA _ _ _).mono ?_;rintro e w'⟨rfl,rfl⟩)
  go_ret;exact⟨rfl,rfl⟩
 go_enter func161,ntmps161
 go_wp2_with (go_at_call 192;refine q.mono ?_;rintro e w'⟨rfl,rfl⟩)
 go_ret;exact⟨rfl,rfl⟩
namespace Pk
def mh(l:List ByteArray)(i:Int):ByteArray:=if within i l.length=η then l.getD i.toNat ByteArray.empty else ByteArray.empty
end Pk
section
variable{w:ω}{B pb:Nat}{v:cu}{p:Pk.T}
theorem aaO{g:Nat}{l:List ByteArray}(h:aj w g (lT l) 9)(i:Int):χ prog 46 #[ς (ο ⟨g,0,ν⟩) l.length l.length,ι ξ i] w fun e w'=>e=δ (τ (Pk.mh l i))/\φ w.heap.size w w':=by
 have q:=fun w=>Ab (w:=w) i l.length
 have a:φ w.heap.size w w:=cV _ _
 by_cases hw:Pk.within i l.length=η
 ·obtain⟨c,d⟩:=within_iff.1 hw
  obtain⟨n,rfl⟩:∃n:Nat,i=(n:Int):=⟨i.toNat,by omega⟩;obtain⟨x,b⟩:∃x,l[n]?=ο x:=⟨_,cG (by omega)⟩;have hp:Pk.mh l (n:Int)=x:=by unfold Pk.mh;rw[du hw];simp[b]
  have f:w.cell? ⟨g,n,ν⟩=ο (τ x):=by
   rw[h.cell];unfold lT;simp[b]
  rw[hp];simp only[hw]at q;clear b hw hp h;go_enter func46,ntmps46
  go_wp2_with (go_at_call 99;refine(q _).mono ?_;rintro e w1⟨rfl,rfl⟩)
  go_ret;exact⟨rfl,a⟩
 ·have hp:Pk.mh l i=ByteArray.empty:=by unfold Pk.mh;rw[dt hw]
  rw[hp];simp only[Bool.eq_false_iff.2 hw]at q;clear h;go_enter func46,ntmps46
  go_wp2_with (go_at_call 99;refine(q _).mono ?_;rintro e w1⟨rfl,rfl⟩)
  go_ret;exact⟨rfl,a⟩
theorem aah(h:aQ w B pb v p)(i:Int):χ prog 22 #[π (ο ⟨pb,0,ν⟩),ι ξ i] w fun e w'=>e=δ (τ (Pk.mh p.toks i))/\φ w.heap.size w w':=by
 obtain⟨g,c,b⟩:=h.rT;have f:w.cell? ⟨pb,2,ν⟩=ο (ς (ο ⟨g,0,ν⟩) p.toks.length p.toks.length):=by rw[<-c];exact h.blk.cell 2
 have d:=aaO b i;generalize Pk.mh p.toks i=x at d|-;clear c h b;go_enter func22,ntmps22
 go_wp2_with (go_at_call 46;refine d.mono ?_;rintro e w1⟨rfl,a⟩)
 go_ret;exact⟨rfl,a⟩
theorem ajP(h:aQ w B pb v p)(i:Int):χ prog 108 #[π (ο ⟨pb,0,ν⟩),ι ξ i] w fun e w'=>e=δ (τ (Pk.mh p.aT i))/\φ w.heap.size w w':=by
 obtain⟨g,c,b⟩:=h.rN;have f:w.cell? ⟨pb,3,ν⟩=ο (ς (ο ⟨g,0,ν⟩) p.aT.length p.aT.length):=by rw[<-c];exact h.blk.cell 3
 have d:=aaO b i;generalize Pk.mh p.aT i=x at d|-;clear c h b;go_enter func108,ntmps108
 go_wp2_with (go_at_call 46;refine d.mono ?_;rintro e w1⟨rfl,a⟩)
 go_ret;exact⟨rfl,a⟩
end
namespace Pk
end Pk
structure qp(w:ω)(rb pb:Nat)(b:ByteArray)(mv:υ)(B:Nat)(v:cu)(p:Pk.T):Prop where
 blk:aj w rb #[τ b,π (ο ⟨pb,0,ν⟩),ι ξ (p.toks.length:Int),mv] 71
 pk:aQ w B pb v p
section
variable{w w':ω}{rb pb B:Nat}{b:ByteArray}{mv:υ}{v:cu}{p:Pk.T}
theorem qp.move(h:qp w rb pb b mv B v p)(a:φ w.heap.size w w'):qp w' rb pb b mv B v p:=⟨(a.block rb h.blk.lt).trans h.blk,h.pk.move fun k c=>a.block k (h.pk.lt c)⟩
def nameOf(p:Pk.T)(s:Int):ByteArray:=Pk.mh p.aT (s - (p.toks.length:Int))
theorem Zu(h:qp w rb pb b mv B v p)(s:Int)(k:-1000000000<=s/\s<=1000000000)(hp:p.toks.length<=100000):χ prog 52 #[π (ο ⟨rb,0,ν⟩),ι ξ s] w fun e w'=>e=δ (τ (nameOf p s))/\φ w.heap.size w w':=by
 have l:=h.blk.a1;have i:=h.blk.a2;have j:IntKind.i64.wrap (s - (p.toks.length:Int))=s - (p.toks.length:Int):=by rw[gx];omega
 have g:Hid (∀w',φ w.heap.size w w'->χ prog 108 #[π (ο ⟨pb,0,ν⟩),ι ξ (s - (p.toks.length:Int))] w' fun e w2=>e=δ (τ (nameOf p s))/\φ w'.heap.size w' w2):=fun w' d=>ajP (h.move d).pk _
 clear h;go_enter func52,ntmps52;go_upto_region 1 with fail
 refine(pn (n:=9)).1 ?_;refine kV 10 (by kernel_rfl) (by kernel_rfl) (by kernel_rfl) ?_
 dsimp only[List.take,List.drop,List.length]
 repeat (gi_big_quiet_step (fail))
 refine wpQuietIn_nil ?_;rintro _⟨nq,rfl⟩;have d:φ w.heap.size w (w.drewN nq):=⟨rfl,rfl,rfl,zL0,fun _ _=>rfl⟩;have q:=g.out _ d;refine wpAnyIn_ready (rs:=[10]) (by kernel_rfl) (by simp) (AllReadyIn.cons rfl (fun f c=>?_) AllReadyIn.nil)
 go_simp
 refine⟨trivial,(gh.2 q).mono ?_⟩;rintro e w2⟨rfl,a⟩;refine c _ _ ?_;clear c f;refine wpAnyIn_ready (rs:=[11]) (by kernel_rfl) (by simp) (AllReadyIn.cons rfl (fun f c=>?_) AllReadyIn.nil)
 go_simp
 refine c _ _ (wpAnyIn_done (by kernel_rfl) ?_ _);clear c f;go_wp2_with fail;go_ret;exact⟨rfl,⟨a.1,a.2,a.3,a.4,a.5⟩⟩
end
def hlp(p:Pk.T)(n:Cm.Nk):Bool:=decide (0<=n.prod) && decide (0<=Lib.indexByte (nameOf p n.sym).data.toList 39)
def fP(h:Cm.Nk->Bool):List Cm.Nk->Nat->List Int
 | [],_=>[]
 |n::l,k=>if h n=η then -1::fP h l k else (k:Int)::fP h l (k+1)
def lD(h:Cm.Nk->Bool):List Cm.Nk->Nat->Nat
 | [],k=>k
 |n::l,k=>if h n=η then lD h l k else lD h l (k+1)
theorem NK(h:Cm.Nk->Bool):∀l k,(fP h l k).length=l.length
 | [],_=>rfl
 |n::l,k=>by
  rw[fP]
  split <;> rw[eh,eh,NK h l]
theorem NN(h:Cm.Nk->Bool)(n:Cm.Nk):∀l k,fP h (l++[n]) k=fP h l k++[if h n=η then -1 else (lD h l k:Int)]/\lD h (l++[n]) k=if h n=η then lD h l k else lD h l k+1
 | [],k=>by
  simp only[List.nil_append,fP,lD]
  by_cases e:h n=η <;> simp[e]
 |m::l,k=>by
  obtain⟨h1,h2⟩:=NN h n l k;obtain⟨h3,h4⟩:=NN h n l (k+1);rw[ip,fP,fP,lD,lD]
  by_cases e:h m=η
  ·simp only[e,if_true]
   exact⟨by rw[h1];rfl,h2⟩
  ·simp only[e]
   exact⟨by rw[h3];rfl,h4⟩
theorem Ob(h:Cm.Nk->Bool):∀l k,lD h l k<=k+l.length
 | [],k=>zL0
 |n::l,k=>by
  rw[lD,eh]
  split
  ·have:=Ob h l k
   omega
  ·have:=Ob h l (k+1)
   omega
namespace Rn
end Rn
namespace Rn
def ref(p:Pk.T)(n:Nat)(o:Option (Nat×Nat))(l:List Int):Option (Nat×Nat):=l.foldl (fun o k=>o.bind (wH p n k)) o
theorem NP(p:Pk.T)(n:Nat):∀l,ref p n ν l=ν
 | []=>rfl
 |_::l=>NP p n l
end Rn
theorem Tryz.Tx:(prog.info? 257).map (fun i=>(i.zero,i.size,i.bytes))=ο (ο (.agg #[.int ξ 0,.int ξ 0,.slice ν 0 0,.int ξ 0,.int ξ 0]),5,56):=by kernel_rfl
theorem Tryz.Uw:prog.underlying 77=ο (.slice 257):=by kernel_rfl
theorem Zv(g:n<=300000000)(w:ω):∃cs:Array υ,cs.size=n*5/\(Instr.makeSlice 77 (ι ξ 0) (ι ξ (n:Int))).run prog w=.ok (ς (ο ⟨w.heap.size,0,ν⟩) 0 n) (w.alloc (ζ cs 257)):=by
 obtain⟨d,f,b,c,a⟩:=ft Tryz.Tx;have h:=qh (P:=prog) w 77 257 d _ Tryz.Uw f b ξ ξ 0 (n:Int) (by omega) (by omega) (by rw[a];omega) (by omega);rw[ij,c]at h;exact⟨_,by simp[madeCells],h⟩
theorem Np{fn:Func}{a b c:Tmp}(h:fn.results=#[.tmp a,.tmp b,.tmp c])(tmps:Array υ)(P:Program)(w:ω):(results fn tmps).run P w=.ok (θ #[tmps.getD a undef,tmps.getD b undef,tmps.getD c undef]) w:=by simp[results,h]
namespace Rn
def s0:S:=⟨0,[0],[]⟩
def run(p:Pk.T)(row:List Int):(Nat×Nat)×S:=work p row (most row+1) s0
theorem I0(p:Pk.T)(row:List Int):I p row s0:=⟨by simp[s0],by simp[s0],fi _,fi _,zL0,rfl,by simp[s0]⟩
theorem I.ref{p:Pk.T}{row:List Int}{s:S}(h:I p row s):ref p row.length (ο (0,0)) s.steps≠ν:=by
 have:=h.re;unfold Rn.re at this;unfold Rn.ref;rw[this];simp
end Rn
theorem SMap.hit{f:ByteArray->Int}(h:SMap w B f)(o:f b≠0):(Instr.lookup 69 (.map (ο B)) (τ b) η).run prog w=.ok (θ #[ι ξ (f b),μ η]) w:=by
 obtain⟨m,g,h1,h2,h3,h4⟩:=h;have n:∀x∈m.toList,∃c,x.key=τ c/\True:=by
  intro x q;obtain⟨i,k⟩:=fb.1 q;obtain⟨c,l,p,-⟩:=h2 i x (by rw[<-gz];exact k);exact⟨c,l,p⟩
 rcases Tryz.xO.find w b m.toList trivial n with ⟨a,r⟩|⟨j,e,a,v,s⟩
 ·obtain⟨i,e,k,t⟩:=h4 b o
  exact absurd t (r e (fb.2 ⟨i,by rw[gz];exact k⟩))
 ·obtain⟨c,l,-,u⟩:=h2 j e (by rw[<-gz];exact v)
  have d:=Tryz.xO.inj _ _ (l.symm.trans s);subst d;rw[u]at a;simp[Instr.lookup,run_underlying Tryz.Gj,MapKept.run_getObj_map h1,Tryz.xO.check,a,Result.andThen]
def Cm.oH(T:List ByteArray):Nat->Nat->ByteArray->Int
 |_,0=>fun _=>0
 |k,m+1=>fun c=>if c=Pk.mh T (k:Int) then (k:Int) else oH T (k+1) m c
def NrE(w:ω)(b:ByteArray)(p:Pk.T)(e:Ending)(w':ω):Prop:=∃rb pb mb v,e=δ (θ #[π (ο ⟨rb,0,ν⟩),ι ξ 0])/\qp w' rb pb b (.map (ο mb)) w.heap.size v p/\SMap w' mb (Cm.oH p.toks 1 (p.toks.length-1))/\φ w.heap.size w w'
theorem afy(w:ω)(R:kZ w)(P:0<w.heap.size)(b:ByteArray)(B:b.size<=281474976710656)(F:Pk.ok b=η)(hT:(Pk.pack b).toks.length<=100000)(L:1<=(Pk.pack b).toks.length):χ prog 10 #[τ b] w (NrE w b (Pk.pack b)):=by
 have M:χ prog 20 #[τ b] w fun e H=>∃d v,e=δ (θ #[π (ο ⟨d,0,ν⟩),ι ξ 0])/\φ w.heap.size w H/\aQ H w.heap.size d v (Pk.pack b)/\w.heap.size<=d:=(aaM w R P b B).mono fun e H h=>by
  rcases h with ⟨h,-⟩|⟨-,h⟩
  ·rw[F]at h;cases h
  ·exact h
 generalize Pk.pack b=p at M hT L|-;clear R P B F;go_enter func10,ntmps10;go_upto_region 4 with (go_at_call 20;refine M.mono ?_;rintro e w1⟨d,v,rfl,t,l,hlp⟩)
 clear M;have Q:=aaf l;go_upto_region 5 with (go_at_call 21;refine Q.mono ?_;rintro e w2⟨rfl,r⟩)
 clear Q;have q:=l.move fun k z=>r.block k (l.lt z)
 have j:=t.trans (r.mono t.size);clear l t r hlp;obtain⟨a,D⟩:=aF w2.heap.size;obtain⟨x,f⟩:=aC ((w2.alloc (.map #[] 0)).alloc (ζ #[τ b,π (ο ⟨d,0,ν⟩),ι ξ (p.toks.length:Int),.map (ο a)] 71));have C:φ w2.heap.size w2 x:=by rw[f];exact((cV _ _).alloc (zL0) _).alloc (by simp) _
 have U:aj x (a+1) #[τ b,π (ο ⟨d,0,ν⟩),ι ξ (p.toks.length:Int),.map (ο a)] 71:=by
  rw[f,<-D];have:=aj.new (w2.alloc (.map #[] 0)) #[τ b,π (ο ⟨d,0,ν⟩),ι ξ (p.toks.length:Int),.map (ο w2.heap.size)] 71
  rwa [eC]at this
 have T:SMap x a (fun _=>0):=by
  rw[f,<-D];have h:=bZ.made (K:=τ) (fun _=>True) w2;exact h.move (ed _ _ _ h.lt)
 have G:Hid (φ w2.heap.size w2 x/\aj x (a+1) #[τ b,π (ο ⟨d,0,ν⟩),ι ξ (p.toks.length:Int),.map (ο a)] 71/\SMap x a (Cm.oH p.toks p.toks.length 0)):=⟨C,U,T⟩;have V:Hid (∀W,φ w2.heap.size w2 W->aQ W w.heap.size d v p):=fun W g=>q.move fun k z=>g.block k (q.lt z)
 have HB:Hid (∀W,φ w2.heap.size w2 W->φ w.heap.size w W):=fun W g=>j.trans (g.mono j.size)
 clear q j C U T;have e1:IntKind.i64.wrap ((p.toks.length:Int) - 1)=((p.toks.length-1:Nat):Int):=by rw[gx];omega
 have Z:=@sq prog;go_wp2_with fail;rw[<-f];clear f
 go_loopg [11] (p.toks.length-1) (fun mm i wr=>∃m:Nat,mm=m/\i=ι ξ (m:Int)/\m+1<=p.toks.length/\Hid (φ w2.heap.size w2 wr/\aj wr (a+1) #[τ b,π (ο ⟨d,0,ν⟩),ι ξ (p.toks.length:Int),.map (ο a)] 71/\SMap wr a (Cm.oH p.toks (m+1) (p.toks.length-1-m))))
 case atStart=>exact⟨_,rfl,rfl,by omega,by rw[show p.toks.length-1+1=p.toks.length by omega,io];exact G⟩
 case round=>
  clear G;obtain⟨m,aa,rfl,hm,G⟩:=hrel;obtain⟨g,kr,km⟩:=G.out;clear G
  by_cases hm0:0<m
  ·have n:φ w2.heap.size w2 wr.drew:=⟨g.1,g.2,g.3,g.4,g.5⟩
   have o:=aah (V.out wr.drew n) (m:Int);have N:wr.drew.cell? ⟨a+1,3,ν⟩=ο (.map (ο a)):=kr.cell 3;have c3:=kr.a3;have m0:(0:Int)<(m:Int):=by omega
   have e2:IntKind.i64.wrap ((m:Int) - 1)=((m-1:Nat):Int):=by rw[gx];omega
   have J:Hid (Cm.oH p.toks (m-1+1) (p.toks.length-1 - (m-1))=fun c=>if c=Pk.mh p.toks (m:Int) then (m:Int) else Cm.oH p.toks (m+1) (p.toks.length-1-m) c):=by
    show Cm.oH _ _ _=_;rw[show m-1+1=m by omega,show p.toks.length-1 - (m-1)=(p.toks.length-1-m)+1 by omega];rfl
   generalize Pk.mh p.toks (m:Int)=tk at o J;have S:Hid (∀s,φ wr.drew.heap.size wr.drew s->s.cell? ⟨a+1,3,ν⟩=ο (.map (ο a))/\∃u,(Instr.mapUpdate 69 (.map (ο a)) (τ tk) (ι ξ (m:Int))).run prog s=.ok () u/\Hid (φ w2.heap.size w2 u/\aj u (a+1) #[τ b,π (ο ⟨d,0,ν⟩),ι ξ (p.toks.length:Int),.map (ο a)] 71/\SMap u a (Cm.oH p.toks (m-1+1) (p.toks.length-1 - (m-1))))):=fun s E=>by
    have I:=kr.drew.on E;have m8:SMap s a _:=bZ.move km (E.block _ (show a<wr.drew.heap.size from bZ.lt km));obtain⟨u,hu,Y,y,hs⟩:=SMap.put m8 tk (m:Int);refine⟨I.cell 3,u,hu,?_,(y.block _ I.lt (fun e=>by have:=fL e;omega)).trans I,by rw[J.out];exact Y⟩;have A:=n.trans (E.mono n.size);exact⟨y.os.trans A.os,y.tape.trans A.tape,y.output.trans A.output,cY A.size y.size,fun k z=>(y.block k (dg z A.size) (fun e=>by have:=fL e;omega)).trans (A.block k z)⟩
   clear kr km J n;go_upto_region 9 with fail
   go_region_law (refine eZ rfl 22 #[π (ο ⟨d,0,ν⟩),ι ξ (m:Int)] (by go_simp) o ?_;rintro e s⟨rfl,E⟩;refine⟨_,rfl,?_⟩;obtain⟨c8,u,O,X⟩:=S.out s E)
   all_goals
    clear c3 N c8 O o S;go_wp2_with fail;go_roundg (m-1)
    case measure=>omega
    case rel=>exact⟨m-1,rfl,rfl,by omega,X⟩
  ·obtain rfl:m=0:=by omega
   have m0:¬(0:Int)<((0:Nat):Int):=by omega
   go_wp2_with fail;refine iS (v:=θ #[π (ο ⟨a+1,0,ν⟩),ι ξ 0]) (by simp[results,results10,go_sem]) rfl ?_;exact⟨_,_,_,_,rfl,⟨kr,V.out wr g⟩,km,HB.out wr g⟩
section
open Go.RowKit Go.Shelf
open Tr
attribute [local go_sem] my
namespace Cm
def blk(c:Int):Bool:=c == 32 || c == 9 || c == 10
def Kj(s:ByteArray):Nat->Nat->Nat
 |0,i=>i
 |f+1,i=>if i<s.size/\blk (fV s i)=ε then Kj s f (i+1) else i
def mV(s:ByteArray)(i:Nat):Nat:=Kj s (s.size-i) i
def uy(s:ByteArray):Nat->Nat->List (Nat×ByteArray)
 |0,_=>[]
 |f+1,i=>if i<s.size then (if i<mV s i then [(i,s.extract i (mV s i))] else [])++uy s f (mV s i+1) else []
def dm(s:ByteArray):List (Nat×ByteArray):=uy s (s.size+1) 0
theorem abF(s:ByteArray):∀f i,i<=Kj s f i
 |0,_=>zL0
 |f+1,i=>by
  rw[Kj]
  split
  ·exact cY (nh _) (abF s f (i+1))
  ·exact zL0
theorem acG(s:ByteArray)(i:Nat):i<=mV s i:=abF s _ i
theorem SK(h:i<s.size):mV s i=if blk (fV s i)=ε then mV s (i+1) else i:=by
 unfold mV;rw[show s.size-i=(s.size - (i+1))+1 by omega,Kj]
 by_cases e:blk (fV s i)=ε
 ·rw[du ⟨h,e⟩,du e]
 ·rw[dt (fun k=>e k.2),dt e]
theorem abG(h:s.size<=i):mV s i=i:=by
 unfold mV;rw[show s.size-i=0 by omega];rfl
theorem acH(s:ByteArray):∀f g i,s.size<f+i->s.size<g+i->uy s f i=uy s g i
 |0,0,_,_,_=>rfl
 |0,g+1,i,h,_=>by rw[uy,uy,dt (by omega)]
 |f+1,0,i,_,h=>by rw[uy,uy,dt (by omega)]
 |f+1,g+1,i,h,h'=>by
  have:=acG s i;rw[uy,uy]
  split
  ·rw[acH s f g _ (by omega) (by omega)]
  ·rfl
def pK(s:ByteArray)(i:Nat):List (Nat×ByteArray):=uy s (s.size+1-i) i
theorem SL(h:i<s.size):pK s i=(if i<mV s i then [(i,s.extract i (mV s i))] else [])++pK s (mV s i+1):=by
 have:=acG s i;unfold pK;rw[show s.size+1-i=(s.size-i)+1 by omega,uy,du h,acH s (s.size-i) (s.size+1 - (mV s i+1)) _ (by omega) (by omega)]
theorem abH(h:s.size<=i):pK s i=[]:=by
 unfold pK;cases e:s.size+1-i with
 |zero=>rfl
 |succ f=>rw[uy,dt (by omega)]
end Cm
def Pg(x:Nat×ByteArray):Array υ:=#[ι ξ (x.1:Int),τ x.2]
theorem agx(c:Int)(w:ω):χ prog 48 #[ι .u8 c] w fun e w'=>e=δ (μ (Cm.blk c))/\w'=w:=by
 go_enter func48,ntmps48
 go_wp2
 all_goals
  go_ret;refine⟨iI ?_,rfl⟩;unfold Cm.blk
  first | rfl | (simp_all;done)
theorem ahq:χ prog 23 #[τ s] w fun e w'=>e=δ (.func (.func 47) #[] #[π (ο ⟨w.heap.size,0,ν⟩)])/\w'=w.alloc (ζ #[τ s] 9):=by
 go_enter func23,ntmps23;go_wp2_with fail;go_ret;exact⟨rfl,rfl⟩
end
section
open Go.RowKit Go.Shelf
open Tr
attribute [local go_sem] my
theorem aiB{bt:Nat}(hl:s.size<=1000000):xP prog 47 #[π (ο ⟨bt,0,ν⟩)] Pg (Cm.dm s) (fun W=>aj W bt #[τ s] 9):=by
 intro l J W hJ N E D;refine gh.1 (uC (F:=Fence.wide) (n:=9) func47 rfl trivial ?_ rfl);simp only[ntmps47,List.size_toArray,List.length_cons,List.length_nil,Nat.reduceAdd,Nat.reduceSub,Array.replicate_succ,Array.replicate_zero,List.push_toArray,List.append_toArray,List.nil_append,List.cons_append]
 gi_wp2
 gi_loopg [3] (s.size+1) (fun m i wr=>∃(k d:Nat)(Z:Nat->Prop),k+m=s.size+1/\i=ι ξ (k:Int)/\J d Z wr/\Hid ((Cm.dm s).drop d=Cm.pK s k/\d<=(Cm.dm s).length))
 case atStart=>exact⟨0,0,_,by omega,rfl,D,by rw[t8];rfl,fi _⟩
 case round=>
  clear D;obtain⟨k,d,Z,X,rfl,u,o⟩:=hrel;have G:=(N _ _ _ u).a0
  by_cases hlt:k<s.size
  ·have O:(k:Int)<(s.size:Int):=by omega
   have V:k<=1000000:=by omega
   gi_wp2
   gi_loopg [4] (s.size-k) (fun m e P=>∃j:Nat,j+m=s.size/\k<=j/\e=ι ξ (j:Int)/\wr=P/\Hid (Cm.mV s j=Cm.mV s k))
   case atStart=>exact⟨k,by omega,zL0,rfl,rfl,rfl⟩
   case round=>
    obtain⟨j,hj,U,rfl,rfl,v⟩:=hrel;have S:j<=1000000:=by omega
    have j0:(0:Int)<=(j:Int):=by omega
    have M:(0:Int)<=(k:Int):=by omega
    have R:(k:Int)<=(j:Int):=by omega
    have K:(j:Int)<=(s.size:Int):=by omega
    by_cases hjs:j<s.size
    ·have L:(j:Int)<(s.size:Int):=by omega
     have C:=BG s j;have a:=Cm.SK hjs;rw[mY s j hjs]at C a;have z:∀w,χ prog 48 #[ι .u8 (s[j].toNat:Int)] w fun e I=>e=δ (μ (Cm.blk (s[j].toNat:Int)))/\I=w:=fun w=>agx _ w
     cases hb:Cm.blk (s[j].toNat:Int) with
     |false=>
      rw[hb]at z a;rw[du rfl]at a;have p:Hid (Cm.mV s (j+1)=Cm.mV s k):=a.symm.trans v.out;clear a hb v
      gi_wp2_with (refine⟨trivial,?_⟩;gi_at_call 48;refine(gh.2 (z _)).mono ?_;rintro e w2⟨rfl,rfl⟩)
      gi_roundg (s.size - (j+1))
      case measure=>omega
      case rel=>exact⟨j+1,by omega,by omega,by go_num,rfl,p⟩
     |true=>
      rw[hb]at z a;rw[dt (by simp)]at a;have p:Hid (Cm.mV s k=j):=v.out.symm.trans a;clear a hb v;have r:Hid (∀b,(Cm.dm s).drop b=Cm.pK s k->(k<j->(Cm.dm s)[b]?=ο (k,s.extract k j)/\(Cm.dm s).drop (b+1)=Cm.pK s (j+1))/\(¬k<j->(Cm.dm s).drop b=Cm.pK s (j+1))):=fun b h=>by
       rw[Cm.SL hlt,p.out]at h;constructor
       ·intro h1
        rw[du h1]at h;have e:=fd (·[0]?) h;refine⟨by simpa using e,?_⟩;have x:=fd (List.drop 1) h;rw[xl]at x;simpa using x
       ·intro h1
        rw[dt h1]at h;exact h
      by_cases Ph:k<j
      ·obtain⟨t,g⟩:=(r.out d o.out.1).1 Ph
       have c:=(cH.1 t).1;obtain⟨T,tmps,assign,body,y,A⟩:=E _ _ Z wr t u;simp only[Pg]at y;have H:(k:Int)<(j:Int):=by omega
       have B:Hid ((Cm.dm s).drop (d+1)=Cm.pK s (j+1)/\d+1<=(Cm.dm s).length):=⟨g,c⟩;clear t g r p o u c
       gi_upto_region 6 with (refine⟨trivial,?_⟩;gi_at_call 48;refine(gh.2 (z _)).mono ?_;rintro e w2⟨rfl,rfl⟩)
       refine(BH A).mono ?_;rintro e Q⟨rfl,q,-⟩;clear y A G
       gi_wp2
       gi_roundg (s.size+1 - (j+1))
       case measure=>omega
       case rel=>exact⟨j+1,d+1,Z,by omega,by go_num,q,B⟩
      ·obtain rfl:k=j:=by omega
       have Y:IntKind.i64.wrap ((k:Int)+1)=(k:Int)+1:=by rw[gx];omega
       have B:Hid ((Cm.dm s).drop d=Cm.pK s (k+1)/\d<=(Cm.dm s).length):=⟨(r.out d o.out.1).2 Ph,o.out.2⟩;clear r p o
       gi_upto_region 5 with (refine⟨trivial,?_⟩;gi_at_call 48;refine(gh.2 (z _)).mono ?_;rintro e w2⟨rfl,rfl⟩)
       gi_wp2_with (refine⟨fun f e=>(by cases e),?_⟩)
       gi_roundg (s.size+1 - (k+1))
       case measure=>omega
       case rel=>exact⟨k+1,d,Z,by omega,by go_num,u,B⟩
    ·obtain rfl:j=s.size:=by omega
     have L:¬(s.size:Int)<(s.size:Int):=by omega
     have p:Hid (Cm.mV s k=s.size):=v.out.symm.trans (Cm.abG (zL0));clear v;have r:Hid (∀b,(Cm.dm s).drop b=Cm.pK s k->(k<s.size->(Cm.dm s)[b]?=ο (k,s.extract k s.size)/\(Cm.dm s).drop (b+1)=Cm.pK s (s.size+1))/\(¬k<s.size->(Cm.dm s).drop b=Cm.pK s (s.size+1))):=fun b h=>by
      rw[Cm.SL hlt,p.out]at h;constructor
      ·intro h1
       rw[du h1]at h;have e:=fd (·[0]?) h;refine⟨by simpa using e,?_⟩;have x:=fd (List.drop 1) h;rw[xl]at x;simpa using x
      ·intro h1
       rw[dt h1]at h;exact h
     by_cases Ph:k<s.size
     ·obtain⟨t,g⟩:=(r.out d o.out.1).1 Ph
      have c:=(cH.1 t).1;obtain⟨T,tmps,assign,body,y,A⟩:=E _ _ Z wr t u;simp only[Pg]at y;have H:(k:Int)<(s.size:Int):=by omega
      have B:Hid ((Cm.dm s).drop (d+1)=Cm.pK s (s.size+1)/\d+1<=(Cm.dm s).length):=⟨g,c⟩;clear t g r p o u c
      gi_upto_region 5 with (refine⟨trivial,?_⟩)
      gi_upto_region 6 with fail
      refine(BH A).mono ?_;rintro e Q⟨rfl,q,-⟩;clear y A G
      gi_wp2
      gi_roundg (s.size+1 - (s.size+1))
      case measure=>omega
      case rel=>exact⟨s.size+1,d+1,Z,by omega,by go_num,q,B⟩
     ·omega
  ·have hd:d=(Cm.dm s).length:=by
    obtain⟨h1,h2⟩:=o.out;rw[Cm.abH (by omega)]at h1;have:=List.drop_eq_nil_iff.1 h1;omega
   have O:¬(k:Int)<(s.size:Int):=by omega
   gi_wp2
   go_end0
   exact⟨⟨_,rfl⟩,Z,by rw[<-hd];exact u⟩
end
def mo(l:List Int):Array υ:=(l.map dI).toArray
theorem aiC(l:List Int)(j:Nat)(x:Int):(mo l).setIfInBounds j (ι ξ x)=mo (l.set j x):=by
 unfold mo;rw[j8,oR];rfl
theorem Sj{l:List Int}(h:l[j]?=ο x):(mo l)[j]?=ο (ι ξ x):=by
 unfold mo;rw[ie,dj,h];rfl
theorem ahr(n:Nat):dY (ψ n 0)=mo (ψ n 0):=by
 simp[dY,dP,mo,dI]
def rZ(h:Cm.Nk->Bool)(ns:List Cm.Nk)(j:Nat):List Int:=fP h (ns.take j) 0++ψ (ns.length-j) 0
theorem aiD{h:Cm.Nk->Bool}{ns:List Cm.Nk}{n:Cm.Nk}(b:ns[j]?=ο n):rZ h ns (j+1)=(rZ h ns j).set j (if h n=η then -1 else (lD h (ns.take j) 0:Int))/\lD h (ns.take (j+1)) 0=if h n=η then lD h (ns.take j) 0 else lD h (ns.take j) 0+1:=by
 have d:=(cH.1 b).1;have a:ns.take (j+1)=ns.take j++[n]:=by rw[ki,b];rfl
 obtain⟨h1,h2⟩:=NN h n (ns.take j) 0;have c:(fP h (ns.take j) 0).length=j:=by rw[NK,fR];omega
 refine⟨?_,by rw[a];exact h2⟩;unfold rZ;rw[a,h1,nn _ _ (by omega),c,io,show ns.length-j=(ns.length - (j+1))+1 by omega,oi,n7,dy];rfl
theorem aiE(h:Cm.Nk->Bool)(ns:List Cm.Nk):rZ h ns 0=ψ ns.length 0:=rfl
theorem ajQ(h:Cm.Nk->Bool)(ns:List Cm.Nk):rZ h ns ns.length=fP h ns 0:=by
 unfold rZ;rw[ff,io];exact fW _
theorem ahs{f:Nat}{ns:List Cm.Nk}{p:Pk.T}(ah:N0=w0.heap.size)(I:φ N0 w0 w)(HR:Hid (∀W,φ N0 w0 W->qp W rb pb b mv B v p))(HN:Hid (∀W,φ N0 w0 W->mU N0 W na ns))(g:aj w f #[ς na ns.length nc,ς ν 0 0] 260)(hf:N0<=f)(hl:ns.length<=100000)(hs:∀n∈ns,-1000000000<=n.sym/\n.sym<=1000000000)(ad:p.toks.length<=100000):χ prog 106 #[π (ο ⟨f,0,ν⟩),.func (.func 52) #[π (ο ⟨rb,0,ν⟩)] #[]] w fun e w'=>e=δ (ι ξ (lD (hlp p) ns 0:Int))/\w.grownBy w' (ο f)/\∃gM,w.heap.size<=gM/\aj w' f #[ς na ns.length nc,ς (ο ⟨gM,0,ν⟩) ns.length ns.length] 260/\aj w' gM (mo (fP (hlp p) ns 0)) 3:=by
 obtain⟨n,S⟩:=aF w.heap.size;have ai:f<n:=by rw[<-S];exact g.lt
 have F:=Ns (n:=ns.length) hl w;rw[ahr,S]at F;have Z:=g.a0;have c1:=g.a1;obtain⟨w1,o⟩:=aC (w.alloc (ζ (mo (ψ ns.length 0)) 3));rw[<-o]at F;have N:aj w1 f #[ς na ns.length nc,ς ν 0 0] 260:=by rw[o];exact g.alloc _
 have r:aj w1 n (mo (ψ ns.length 0)) 3:=by rw[o,<-S];exact aj.new ..
 have d0:=N.a0;have d1:=N.a1;have g1:=N.frozen 1;have Q:w.grownBy w1 (ο f):=by rw[o];exact aM _ _ _
 have ae:∀{A:ω}{u:υ}{i:Nat},w.grownBy A (ο f)->w.grownBy (A.setCell ⟨f,i,ν⟩ u) (ο f):=fun h=>⟨h.os,h.tape,h.output,by simpa using h.size,fun k J s=>(aY _ _ (fun e=>s (by rw[e]))).trans (h.block k J s)⟩
 have D:Hid (aj (w1.setCell ⟨f,1,ν⟩ (ς (ο ⟨n,0,ν⟩) ns.length ns.length)) f #[ς na ns.length nc,ς (ο ⟨n,0,ν⟩) ns.length ns.length] 260/\aj (w1.setCell ⟨f,1,ν⟩ (ς (ο ⟨n,0,ν⟩) ns.length ns.length)) n (mo (rZ (hlp p) ns 0)) 3/\w.grownBy (w1.setCell ⟨f,1,ν⟩ (ς (ο ⟨n,0,ν⟩) ns.length ns.length)) (ο f)):=⟨N.set 1 _,by rw[aiE];exact(aY _ _ (by omega)).trans r,ae Q⟩;have HB:Hid (∀W,w.grownBy W (ο f)->φ N0 w0 W):=fun W h=>⟨h.os.trans I.os,h.tape.trans I.tape,h.output.trans I.output,cY I.size h.size,fun k J=>(h.block k (by have:=I.size;omega) (fun e=>by have:=fL e;omega)).trans (I.block k J)⟩
 rw[S];clear g N r Q o;go_enter func106,ntmps106;go_wp2_with fail;generalize w1.setCell ⟨f,1,ν⟩ (ς (ο ⟨n,0,ν⟩) ns.length ns.length)=w2 at D|-;clear F d0 d1 g1 Z c1
 go_loopg [5,22] ns.length (fun m lv i wr=>∃j:Nat,j+m=ns.length/\i=ι ξ (j:Int)/\lv=ι ξ (lD (hlp p) (ns.take j) 0:Int)/\Hid (aj wr f #[ς na ns.length nc,ς (ο ⟨n,0,ν⟩) ns.length ns.length] 260/\aj wr n (mo (rZ (hlp p) ns j)) 3/\w.grownBy wr (ο f)))
 case atStart=>exact⟨0,by omega,rfl,rfl,D⟩
 case round=>
  clear D;obtain⟨j,hj,rfl,rfl,D⟩:=hrel
  by_cases hjn:j<ns.length
  ·obtain⟨nd,hnd⟩:∃x,ns[j]?=ο x:=⟨_,cG hjn⟩
   obtain⟨g,r,q⟩:=D.out;clear D;have hB:=HB.out wr q;have hr:=HR.out wr hB;obtain⟨gN,ka,kc,aa,ag,Z,c1,c2,c3,c4,-,-⟩:=HN.out wr hB j nd hnd;subst aa;obtain⟨c,d⟩:=aiD (h:=hlp p) hnd;have O:=Ob (hlp p) (ns.take j) 0;rw[fR]at O;have ak:lD (hlp p) (ns.take j) 0<=100000:=by omega
   have Y:=hs nd (cM hnd);have f0:=g.a0;have f1:=g.a1;have j0:(0:Int)<=(j:Int):=by omega
   have j1:(j:Int)<(ns.length:Int):=by omega
   have ac:(rZ (hlp p) ns j).length=ns.length:=by unfold rZ;rw[cJ,NK,fR,js];omega
   obtain⟨U,C⟩:∃x,(rZ (hlp p) ns j)[j]?=ο x:=⟨_,cG (by omega)⟩;obtain⟨bx,ab⟩:=aF wr.heap.size;obtain⟨P,t⟩:=aC (wr.alloc (ζ #[ι ξ nd.sym,ι ξ nd.prod,ς ka nd.kids.length kc,ι ξ nd.fr,ι ξ nd.wd] 257));have X:aj P bx #[ι ξ nd.sym,ι ξ nd.prod,ς ka nd.kids.length kc,ι ξ nd.fr,ι ξ nd.wd] 257:=by rw[t,<-ab];exact aj.new ..
   have z:φ wr.heap.size wr P:=by rw[t];exact(cV _ _).alloc (zL0) _
   have af:=r.lt;have H:Hid (∀l,φ P.heap.size P l->l.cell? ⟨f,1,ν⟩=ο (ς (ο ⟨n,0,ν⟩) ns.length ns.length)/\l.cell? ⟨n,j,ν⟩=ο (ι ξ U)/\l.frozen? ⟨n,j,ν⟩=ε/\∀y:Int,rZ (hlp p) ns (j+1)=(rZ (hlp p) ns j).set j y->aj (l.setCell ⟨n,j,ν⟩ (ι ξ y)) f #[ς (ο ⟨gN,0,ν⟩) ns.length nc,ς (ο ⟨n,0,ν⟩) ns.length ns.length] 260/\aj (l.setCell ⟨n,j,ν⟩ (ι ξ y)) n (mo (rZ (hlp p) ns (j+1))) 3/\w.grownBy (l.setCell ⟨n,j,ν⟩ (ι ξ y)) (ο f)):=fun l hb=>by
    have a:=z.trans (hb.mono z.size);have zK:=g.on a;have V:=r.on a;refine⟨zK.cell 1,(V.cell j).trans (Sj C),V.frozen j,fun y hy=>⟨(aY _ _ (by omega)).trans zK,?_,a.os.trans q.os,a.tape.trans q.tape,a.output.trans q.output,by have:=cY q.size a.size;simpa using this,fun k J s=>(aY _ _ (by omega)).trans ((a.block k (dg J q.size)).trans (q.block k J s))⟩⟩;rw[hy,<-aiC];exact V.set j _
   have K:=Zu (hr.move z) nd.sym Y ad;have m0:=X.a0;have m1:=X.a1;have G:Hid (hlp p nd=(decide (0<=nd.prod) && decide (0<=Lib.indexByte (nameOf p nd.sym).data.toList 39))):=rfl;have HJ:Hid (j+gk=ns.length/\n<wr.heap.size):=⟨hj,af⟩;have h3:=H.out P (cV _ _);clear hr hB q r g z O ac C HN HR HB hs hnd X hj;go_upto_region 6 with fail
   rw[<-t];clear t Z c1 c2 c3 c4 f0 f1
   by_cases hp0:0<=nd.prod
   ·have b1:=ge hp0
    clear h3;generalize nameOf p nd.sym=nm at K G;obtain⟨cb,E⟩:=aF (decide (0<=Lib.indexByte nm.data.toList 39));have M:=af2 nm 39;rw[E]at M;have R:hlp p nd=cb:=by rw[G.out,b1,E];rfl
    rw[R]at c d;clear E G R;cases cb with
    |true=>
     rw[du rfl]at c d
     go_wp2_with (first
      | (go_at_call 52;refine K.mono ?_;rintro e l⟨rfl,a⟩;obtain⟨e1,e2,e3,L⟩:=H.out l a;clear K H)
      | (go_at_call 161;refine(M _).mono ?_;rintro e w5⟨rfl,rfl⟩;clear M))
     go_roundg (ns.length - (j+1))
     case measure=>have:=HJ.out;omega
     case rel=>exact⟨j+1,by omega,by go_num,by rw[d],L _ c⟩
    |false=>
     rw[dt (by simp)]at c d
     go_wp2_with (first
      | (go_at_call 52;refine K.mono ?_;rintro e l⟨rfl,a⟩;obtain⟨e1,e2,e3,L⟩:=H.out l a;clear K H)
      | (go_at_call 161;refine(M _).mono ?_;rintro e w5⟨rfl,rfl⟩;clear M))
     go_roundg (ns.length - (j+1))
     case measure=>have:=HJ.out;omega
     case rel=>exact⟨j+1,by omega,by go_num,by rw[d];go_num,L _ c⟩
   ·have b1:=fx hp0
    have R:hlp p nd=ε:=by rw[G.out,b1];rfl
    rw[R,dt (by simp)]at c d;obtain⟨e1,e2,e3,L⟩:=h3;clear G R K H;go_wp2_with fail;go_roundg (ns.length - (j+1))
    case measure=>have:=HJ.out;omega
    case rel=>exact⟨j+1,by omega,by go_num,by rw[d];go_num,L _ c⟩
  ·obtain rfl:j=ns.length:=by omega
   obtain⟨g,r,q⟩:=D.out;rw[ajQ]at r;rw[ff];have G:Hid (w.grownBy wr (ο f)/\∃gM,n<=gM/\aj wr f #[ς na ns.length nc,ς (ο ⟨gM,0,ν⟩) ns.length ns.length] 260/\aj wr gM (mo (fP (hlp p) ns 0)) 3):=⟨q,n,zL0,g,r⟩;clear q g r D;go_wp2_with fail;go_ret;exact⟨rfl,G.out⟩
def iL(ns:List Cm.Nk)(nu:List Int)(l:List Nat):List Nat:=(l.flatMap (Cm.exp ns (bO nu))).map fun i=>(nu.getD i 0).toNat
def xH(ns:List Cm.Nk)(nu:List Int)(i:Nat):Cm.Nk:={ ns.getD i Cm.dJ with kids:=iL ns nu (ns.getD i Cm.dJ).kids }
def l8(ns:List Cm.Nk)(nu:List Int)(j:Nat):List Cm.Nk:=((List.range j).filter fun i=>!bO nu i).map (xH ns nu)
theorem Nh(ns:List Cm.Nk)(a:List Int)(j:Nat):l8 ns a (j+1)=l8 ns a j++if bO a j=η then [] else [xH ns a j]:=by
 unfold l8;rw[wg,mT,ee];congr 1;cases h:bO a j <;> simp[h]
theorem Tz(h:Cm.Nk->Bool):∀l k,∀x∈fP h l k,x=-1\/0<=x
 | [],_,x,a=>by simp[fP]at a
 |n::l,k,x,a=>by
  rw[fP]at a
  split at a
  ·rcases fh.1 a with rfl | a
   ·exact .inl rfl
   ·exact Tz h l k x a
  ·rcases fh.1 a with rfl | a
   ·exact .inr (by omega)
   ·exact Tz h l (k+1) x a
theorem acI{ns:List Cm.Nk}{fo:Nat->Bool}(b:Cm.eX ns):∀i,∀k∈Cm.exp ns fo i,fo k=ε:=by
 intro i
 induction i using Nat.strongRecOn with
 |ind i ih=>
  intro k a;rw[Cm.BV b]at a
  split at a
  ·obtain⟨j,c,a⟩:=li.1 a
   exact ih j (b i j c) k a
  ·rw[dd]at a
   subst a;rename_i h;simpa using h
theorem aiF{ns:List Cm.Nk}{a:List Int}(d:Cm.eX ns)(c:∀x∈a,x=-1\/0<=x)(l:List Nat):(lC ns a l).map dI=(iL ns a l).map bA/\(lC ns a l).length=(iL ns a l).length:=by
 unfold lC iL;refine⟨?_,by rw[dk,dk]⟩;rw[pj,pj];refine ju fun k b=>?_
 obtain⟨j,-,b⟩:=li.1 b;have h:=acI d j k b;unfold bO at h;have f:0<=a.getD k 0:=by
  rw[di]at h|-;cases e:a[k]? with
  |none=>simp
  |some x=>
   rw[e]at h;rcases c x (cM e) with rfl|h2
   ·simp at h
   ·simpa using h2
 show ι ξ (a.getD k 0)=ι ξ (((a.getD k 0).toNat:Nat):Int);rw[Int.toNat_of_nonneg f]
def AZ(n:Cm.Nk×υ):List υ:=[ι ξ n.1.sym,ι ξ n.1.prod,n.2,ι ξ n.1.fr,ι ξ n.1.wd]
theorem aaP:∀(l:List (Cm.Nk×υ))(i:Nat)(x:Cm.Nk×υ),l[i]?=ο x->∀j u,(AZ x)[j]?=ο u->(l.flatMap AZ)[i*5+j]?=ο u
 | [],i,x,h,_,_,_=>by simp at h
 |p::l,0,x,h,j,u,hu=>by
  simp only[List.getElem?_cons_zero,Option.some.injEq]at h;subst h;have a:=(cH.1 hu).1;rw[eS,rm,fX,eL a];exact hu
 |p::l,i+1,x,h,j,u,hu=>by
  have:=aaP l i x (by simpa using h) j u hu;rw[eS,show (i+1)*5+j=i*5+j+5 by omega,eQ (by show 5<=_;omega)];exact this
def qW(n:Nat)(W:ω)(vo:υ)(nv:List (Cm.Nk×υ)):Prop:=W.ownsRow n 257 5 vo nv.length (nv.flatMap AZ)/\∀x∈nv,∃a c,x.2=ς a x.1.kids.length c/\nG W a x.1.kids/\∀g,a=ο ⟨g,0,ν⟩->Kd W g 3
theorem qW.nk{j:List (Cm.Nk×υ)}(h:qW n W (ς a m c) j):mU W.heap.size W a (j.map Prod.fst):=fun i x f=>by
 rw[dj]at f;cases e:j[i]? with
 |none=>rw[e]at f;cases f
 |some y=>
  rw[e]at f;cases f;have b:=aaP j i y e;obtain⟨g,t,s,d⟩:=jC h.1 (b 0 _ rfl);obtain⟨r,q,p,o,l⟩:=h.2 y (cM e);cases s;exact⟨g,r,q,rfl,(h.1.lt g rfl).2,d _ _ (b 0 _ rfl),d _ _ (b 1 _ rfl),by rw[<-p];exact d _ _ (b 2 _ rfl),d _ _ (b 3 _ rfl),d _ _ (b 4 _ rfl),o,fun k e=>(l k e).lt⟩
theorem Kd.eqv{g:Nat}(h:Kd W g t)(e:W'.heap[g]?=W.heap[g]?):Kd W' g t:=by
 obtain⟨b,a⟩:=h;exact⟨b,e.trans a⟩
theorem qW.keep{d:List (Cm.Nk×υ)}(h:qW n W f d)(b:φ W.heap.size W W'):qW n W' f d :=
 ⟨ay h.1 fun g e=>b.block g (h.1.lt g e).2,fun x j=>by
  obtain⟨a,c,h1,h2,h3⟩:=h.2 x j;exact⟨a,c,h1,h2.move b.size fun g _ i=>b.block g i,fun g e=>(h3 g e).eqv (b.block g (h3 g e).lt)⟩⟩
theorem qW.push{k:υ}{f:List (Cm.Nk×υ)}{x:Cm.Nk×υ}(h:qW n W k f)(q:∃a c,x.2=ς a x.1.kids.length c/\nG W a x.1.kids/\∀g,a=ο ⟨g,0,ν⟩->Kd W g 3)(m:W.grownBy W' k.ownBlock)(p:W'.ownsRow n 257 5 d (f.length+1) (f.flatMap AZ++AZ x)):qW n W' d (f++[x]):=by
 refine⟨by rw[cJ,ik];simpa using p,fun y b=>?_⟩;have j:∃a c,y.2=ς a y.1.kids.length c/\nG W a y.1.kids/\∀g,a=ο ⟨g,0,ν⟩->Kd W g 3:=by
  rcases dq.1 b with b|b
  ·exact h.2 y b
  ·rw[dd]at b
   rw[b];exact q
 obtain⟨a,c,h1,h2,h3⟩:=j;have l:∀g,Kd W g 3->W'.heap[g]?=W.heap[g]?:=fun g o=>m.block g o.lt fun e=>by
  obtain⟨i,r⟩:=bJ h.1 e.symm;exact o.ne (show Kd W g 257 from ⟨i,r⟩) (by decide) rfl
 exact⟨a,c,h1,h2.move m.size fun g e _=>l g (h3 g e),fun g e=>(h3 g e).eqv (l g (h3 g e))⟩
theorem ajR{ns:List Cm.Nk}{p:Pk.T}(ag:N0=w0.heap.size)(hw:φ N0 w0 w)(HR:Hid (∀W,φ N0 w0 W->qp W rb pb b mv B v p))(HN:Hid (∀W,φ N0 w0 W->mU N0 W na ns))(hl:ns.length<=100000)(hs:∀n∈ns,-1000000000<=n.sym/\n.sym<=1000000000)(az:p.toks.length<=100000)(hO:Cm.eX ns)(hW:∀n∈ns,(n.kids.map (Cm.wt ns (bO (fP (hlp p) ns 0)))).sum<=100000000):χ prog 51 #[ς na ns.length nc,.func (.func 52) #[π (ο ⟨rb,0,ν⟩)] #[]] w fun e w'=>∃a c,e=δ (ς a (l8 ns (fP (hlp p) ns 0) ns.length).length c)/\mU w'.heap.size w' a (l8 ns (fP (hlp p) ns 0) ns.length)/\φ w.heap.size w w':=by
 obtain⟨n,hn⟩:=aF w.heap.size;obtain⟨w1,S⟩:=aC (w.alloc (ζ #[ς na ns.length nc,ς ν 0 0] 260));have k1:aj w1 n #[ς na ns.length nc,ς ν 0 0] 260:=by rw[S,<-hn];exact aj.new ..
 have z:φ n w w1:=by rw[S,<-hn];exact(cV _ _).alloc (zL0) _
 have am:N0<=n:=by rw[<-hn,ag];exact hw.size
 have J:∀W,φ n w W->φ N0 w0 W:=fun W h=>hw.trans (h.mono am)
 have Pj:=ahs ag (J w1 z) HR HN k1 am hl hs az;obtain⟨lf,ae⟩:=aF (lD (hlp p) ns 0);have aV:lf<=100000:=by have:=Ob (hlp p) ns 0;omega
 have sG:(fP (hlp p) ns 0).length=ns.length:=NK _ _ _;have ab:=Tz (hlp p) ns 0;rw[ae]at Pj;generalize fP (hlp p) ns 0=nu at Pj sG ab hW|-;have HL:Hid _:=J;rw[hn];clear k1 J ae;go_enter func51,ntmps51;go_upto_region 2 with fail
 rw[<-S];clear S;go_upto_region 3 with (go_at_call 106;refine Pj.mono ?_;rintro e w2⟨rfl,E,A,aP,A8,LF⟩;obtain⟨cs,al,ax⟩:=Zv (n:=lf) (by omega) w2;clear Pj)
 have HI:Hid (qW n (w2.alloc (ζ cs 257)) (ς (ο ⟨w2.heap.size,0,ν⟩) 0 lf) []/\φ n w (w2.alloc (ζ cs 257))/\aj (w2.alloc (ζ cs 257)) n #[ς na ns.length nc,ς (ο ⟨A,0,ν⟩) ns.length ns.length] 260/\aj (w2.alloc (ζ cs 257)) A (mo nu) 3):=by
  have af:n<=w2.heap.size:=by have:=z.size;have:=E.size;omega
  refine⟨⟨⟨rfl,.inr ⟨w2.heap.size,lf,cs,rfl,af,aj.new ..,fi _,by unfold maxLen;omega,al,rfl⟩⟩,fun x hx=>by cases hx⟩,?_,A8.alloc _,LF.alloc _⟩;refine Below.alloc ⟨E.os.trans z.os,E.tape.trans z.tape,E.output.trans z.output,cY z.size E.size,fun k Y=>(E.block k (by have:=z.size;omega) (fun e=>by have:=fL e;omega)).trans (z.block k Y)⟩ af _
 clear E A8 LF ax al z;generalize w2.alloc (ζ cs 257)=w3 at HI|-;go_wp2_with fail
 go_loopg [6,16] ns.length (fun m vo i wr=>∃(j:Nat)(d:List (Cm.Nk×υ)),j+m=ns.length/\i=ι ξ (j:Int)/\Hid (d.map Prod.fst=l8 ns nu j/\qW n wr vo d/\φ n w wr/\aj wr n #[ς na ns.length nc,ς (ο ⟨A,0,ν⟩) ns.length ns.length] 260/\aj wr A (mo nu) 3))
 case atStart=>exact⟨0,[],by omega,rfl,rfl,HI.out⟩
 case round=>
  clear HI;obtain⟨j,d,hj,rfl,HI⟩:=hrel;obtain⟨yE,hF,hb,kF,kM⟩:=HI.out;clear HI;obtain⟨N,O,yg,-⟩:=aB hF.1;subst yg
  by_cases hjn:j<ns.length
  ·obtain⟨nd,hnd⟩:∃x,ns[j]?=ο x:=⟨_,cG hjn⟩
   obtain⟨x,hx⟩:∃x,nu[j]?=ο x:=⟨_,cG (by omega)⟩;obtain⟨gN,ka,kc,ar,aR,c0,c1,c2,c3,c4,an,-⟩:=HN.out wr (HL.out wr hb) j nd hnd;have aX:d.length<=j:=by
    have:=fd List.length yE;rw[dk]at this;rw[this];unfold l8;rw[dk];exact cY (ti _ _) (by rw[pA];exact zL0)
   obtain⟨q,ai⟩:=aF wr.heap.size;obtain⟨I,R⟩:=aC (wr.alloc (ζ #[ι ξ nd.sym,ι ξ nd.prod,ς ka nd.kids.length kc,ι ξ nd.fr,ι ξ nd.wd] 257));have F:φ wr.heap.size wr I:=by rw[R];exact(cV _ _).alloc (zL0) _
   have kX:aj I q #[ι ξ nd.sym,ι ξ nd.prod,ς ka nd.kids.length kc,ι ξ nd.fr,ι ξ nd.wd] 257:=by rw[R,<-ai];exact aj.new ..
   have zG:=hF.keep F;have El:=hb.trans (F.mono (by rw[<-hn];exact hb.size));have zK:=kF.on F;have wJ:=kM.on F;have f1:=zK.a1;have cx:=(wJ.cell j).trans (Sj hx);have j0:(0:Int)<=(j:Int):=by omega
   have j1:(j:Int)<(ns.length:Int):=by omega
   have H:=Nh ns nu j;have U:nu.getD j 0=x:=by rw[di,hx];rfl
   have Q:ns.getD j Cm.dJ=nd:=by rw[di,hnd];rfl
   have HJ:Hid _:=hj;have a9:n<=q:=by rw[<-ai,<-hn];exact hb.size
   have ac:q≠n/\q≠A:=⟨fun e=>by have:=kF.lt;omega,fun e=>by have:=kM.lt;omega⟩;have nJ:(ς N d.length O).ownBlock≠ο q:=fun e=>by have:=(hF.1.lt q e).2;omega
   subst ar;have Hk:Hid (nG I ka nd.kids):=an.move F.size fun g _ G=>F.block g G
   clear hF hb kF kM hx hj an F;go_upto_region 6 with fail
   rw[<-R];clear R c0 c1 c2 c3 c4
   by_cases hx1:x=-1
   ·subst hx1
    have L:bO nu j=η:=by unfold bO;rw[U];rfl
    rw[L,du rfl,fW]at H;have Z:Hid (d.map Prod.fst=l8 ns nu (j+1)/\qW n I (ς N d.length O) d/\φ n w I/\aj I n #[ς (ο ⟨gN,0,ν⟩) ns.length nc,ς (ο ⟨A,0,ν⟩) ns.length ns.length] 260/\aj I A (mo nu) 3):=⟨by rw[H];exact yE,zG,El,zK,wJ⟩;clear zG El zK wJ H L U Q yE HN HR HL;go_wp2_with fail;go_roundg (ns.length - (j+1))
    case measure=>have:=HJ.out;omega
    case rel=>exact⟨j+1,d,by omega,by go_num,Z⟩
   ·have L:bO nu j=ε:=by unfold bO;rw[U];exact ej.2 hx1
    rw[L,dt (by simp)]at H;have b1:=nj.2 hx1;obtain⟨ao,ak⟩:=aiF hO ab nd.kids;have ah:∀k∈nd.kids,k<ns.length:=fun k Y=>sY (hO j k (by rw[Q];exact Y)) hjn
    have ap:aj I n #[ς (ο ⟨gN,0,ν⟩) ns.length nc,ς (ο ⟨A,0,ν⟩) nu.length ns.length] 260:=by rw[sG];exact zK
    have Pm:=ajO (T:=100000000) ap (HN.out I (HL.out I El)) (by have:=El.size;omega) (fun i y hy=>(wJ.cell i).trans (Sj hy)) wJ.lt sG hO Hk.out (kc:=kc) ah (hW nd (cM hnd)) (zL0);rw[ao,ak]at Pm;have WT:xH ns nu j={ nd with kids:=iL ns nu nd.kids }:=by unfold xH;rw[Q]
    have m2:=kX.a2;obtain⟨i9,aA,aE,aq,av⟩:=ft Tryz.Tx;have H5:Hid (∀f l D,D.ownsRow I.heap.size 3 1 (ς f (iL ns nu nd.kids).length l) (iL ns nu nd.kids).length ((iL ns nu nd.kids).map bA)->φ I.heap.size I D->D.cell? ⟨q,2,ν⟩=ο (ς ka nd.kids.length kc)/\D.frozen? ⟨q,2,ν⟩=ε/\qW n (D.setCell ⟨q,2,ν⟩ (ς f (iL ns nu nd.kids).length l)) (ς N d.length O) d/\(∃a c,(ς f (iL ns nu nd.kids).length l:υ)=ς a (iL ns nu nd.kids).length c/\nG (D.setCell ⟨q,2,ν⟩ (ς f (iL ns nu nd.kids).length l)) a (iL ns nu nd.kids)/\∀g,a=ο ⟨g,0,ν⟩->Kd (D.setCell ⟨q,2,ν⟩ (ς f (iL ns nu nd.kids).length l)) g 3)/\aj (D.setCell ⟨q,2,ν⟩ (ς f (iL ns nu nd.kids).length l)) q #[ι ξ nd.sym,ι ξ nd.prod,ς f (iL ns nu nd.kids).length l,ι ξ nd.fr,ι ξ nd.wd] 257/\φ n w (D.setCell ⟨q,2,ν⟩ (ς f (iL ns nu nd.kids).length l))/\aj (D.setCell ⟨q,2,ν⟩ (ς f (iL ns nu nd.kids).length l)) n #[ς (ο ⟨gN,0,ν⟩) ns.length nc,ς (ο ⟨A,0,ν⟩) ns.length ns.length] 260/\aj (D.setCell ⟨q,2,ν⟩ (ς f (iL ns nu nd.kids).length l)) A (mo nu) 3):=fun f l D X C=>by
     have A9:=kX.on C;have ad:=zG.keep C;have ba:=kX.lt;refine⟨A9.cell 2,A9.frozen 2,⟨ay ad.1 fun g e=>aY _ _ fun e2=>nJ (e2▸e),fun y hy=>?_⟩,⟨f,l,rfl,fun i y hy=>?_,fun g e=>?_⟩,A9.set 2 _,?_,(aY _ _ ac.1.symm).trans ((C.block n zK.lt).trans zK),(aY _ _ ac.2.symm).trans ((C.block A wJ.lt).trans wJ)⟩
     ·obtain⟨a,c,h1,h2,h3⟩:=ad.2 y hy
      have K:∀g,a=ο ⟨g,0,ν⟩->g≠q:=fun g e=>(h3 g e).ne (show Kd D q 257 from ⟨_,A9⟩) (by decide)
      exact⟨a,c,h1,h2.move (by simp) fun g e _=>aY _ _ (K g e),fun g e=>(h3 g e).eqv (aY _ _ (K g e))⟩
     ·obtain⟨g,c,e,hc⟩:=jC X (j:=i) (u:=bA y) (by rw[dj,hy];rfl)
      cases e;have G:=X.lt g rfl;exact⟨g,rfl,by simpa using G.2,(cQ (w:=D) (aY _ _ (show g≠q by omega))).trans (hc _ _ (by rw[dj,hy];rfl))⟩
     ·subst e
      have G:=X.lt g rfl;obtain⟨aa,hc⟩:=bJ X (g:=g) rfl;exact Kd.eqv ⟨aa,hc⟩ (aY _ _ (by omega))
     ·have:=El.trans (C.mono (by rw[<-hn];exact El.size))
      exact this.setCell (p:=⟨q,2,ν⟩) a9 _
    have Z:Hid (∀f l s r P,qW n s (ς N d.length O) d->(∃a c,(ς f (iL ns nu nd.kids).length l:υ)=ς a (iL ns nu nd.kids).length c/\nG s a (iL ns nu nd.kids)/\∀g,a=ο ⟨g,0,ν⟩->Kd s g 3)->φ n w s->aj s n #[ς (ο ⟨gN,0,ν⟩) ns.length nc,ς (ο ⟨A,0,ν⟩) ns.length ns.length] 260->aj s A (mo nu) 3->s.grownBy r (ς N d.length O).ownBlock->r.ownsRow n 257 5 P (d.length+1) (d.flatMap AZ++[ι ξ nd.sym,ι ξ nd.prod,ς f (iL ns nu nd.kids).length l,ι ξ nd.fr,ι ξ nd.wd])->∃EO,EO.map Prod.fst=l8 ns nu (j+1)/\qW n r P EO/\φ n w r/\aj r n #[ς (ο ⟨gN,0,ν⟩) ns.length nc,ς (ο ⟨A,0,ν⟩) ns.length ns.length] 260/\aj r A (mo nu) 3):=fun f l s r P V M o Hy Hz G X=>by
     have K:∀g t,Kd s g t->t≠257->r.heap[g]?=s.heap[g]?:=fun g t Y ht=>G.block g Y.lt fun e=>by
      obtain⟨aa,hc⟩:=bJ V.1 e.symm;exact Y.ne (show Kd s g 257 from ⟨aa,hc⟩) ht rfl
     refine⟨d++[(xH ns nu j,ς f (iL ns nu nd.kids).length l)],by rw[H,ee,yE];rfl,V.push (by rw[WT];exact M) G (by rw[WT];exact X),⟨G.os.trans o.os,G.tape.trans o.tape,G.output.trans o.output,cY o.size G.size,fun k Y=>(G.block k (by have:=o.size;omega) (fun e=>by have:=(V.1.lt k e.symm).1;omega)).trans (o.block k Y)⟩,(K n 260 ⟨_,Hy⟩ (by decide)).trans Hy,(K A 3 ⟨_,Hz⟩ (by decide)).trans Hz⟩
    clear zG El zK ap wJ H L U Q yE HN HR HL ao ak ah WT ab hW hO hs kX ac nJ Hk;generalize (iL ns nu nd.kids)=ok at Pm H5 Z;go_upto_region 8 with (go_at_call 107;refine Pm.mono ?_;rintro e D⟨v5,rfl,kH,C⟩;obtain⟨f,l,aw,-⟩:=aB kH;subst aw;obtain⟨d2,e2,V,M,mI,o,Hy,Hz⟩:=H5.out f l D kH C;clear Pm H5 kH C)
    generalize D.setCell ⟨q,2,ν⟩ (ς f ok.length l)=s at V M mI o Hy Hz|-;clear d2 e2 m2 cx f1;have m0:=mI.a0;have m1:=mI.a1;have m2:=mI.a2;have m3:=mI.a3;have m4:=mI.a4;have o1:(s.alloc (ζ #[ι ξ nd.sym,ι ξ nd.prod,ς f ok.length l,ι ξ nd.fr,ι ξ nd.wd] 257)).ownsRow n 257 5 (ς N d.length O) d.length (d.flatMap AZ):=V.1.alloc _;have aH:n<=(s.alloc (ζ #[ι ξ nd.sym,ι ξ nd.prod,ς f ok.length l,ι ξ nd.fr,ι ξ nd.wd] 257)).heap.size:=by rw[eC];have:=o.size;omega
    have HG:Hid (∀P r,(s.alloc (ζ #[ι ξ nd.sym,ι ξ nd.prod,ς f ok.length l,ι ξ nd.fr,ι ξ nd.wd] 257)).grownBy r (ς N d.length O).ownBlock->r.ownsRow n 257 5 P (d.length+1) (d.flatMap AZ++[ι ξ nd.sym,ι ξ nd.prod,ς f ok.length l,ι ξ nd.fr,ι ξ nd.wd])->∃EO,EO.map Prod.fst=l8 ns nu (j+1)/\qW n r P EO/\φ n w r/\aj r n #[ς (ο ⟨gN,0,ν⟩) ns.length nc,ς (ο ⟨A,0,ν⟩) ns.length ns.length] 260/\aj r A (mo nu) 3):=fun P r G X=>Z.out f l s r P V M o Hy Hz (aI (aM s _ _) G) X
    have bb:d.length<=100000:=by omega
    clear V M mI o Hy Hz Z
    go_wp2_with (at_builtin;refine ii _ rfl _ _ 77 rfl n 257 i9 _ 5 56 Tryz.Uw aA aE aq av rfl (by decide) (ς N d.length O) d.length (d.flatMap AZ) rfl o1 ⟨s.heap.size,0,ν⟩ 1 1 [ι ξ nd.sym,ι ξ nd.prod,ς f ok.length l,ι ξ nd.fr,ι ξ nd.wd] rfl rfl (bQ (aj.new s #[ι ξ nd.sym,ι ξ nd.prod,ς f ok.length l,ι ξ nd.fr,ι ξ nd.wd] 257)) (by simp[Value.oneCell']) (by unfold maxLen;omega) (by omega) aH ?_;intro P r qo jf _ _)
    obtain⟨EO,h7⟩:=HG.out P r jf qo;go_roundg (ns.length - (j+1))
    case measure=>have:=HJ.out;omega
    case rel=>exact⟨j+1,EO,by omega,by go_num,h7⟩
  ·obtain rfl:j=ns.length:=by omega
   have Z:Hid ((l8 ns nu ns.length).length=d.length/\mU wr.heap.size wr N (l8 ns nu ns.length)/\φ n w wr):=⟨by rw[<-yE,dk],by rw[<-yE];exact hF.nk,hb⟩;clear hF hb kF kM yE;go_wp2_with fail;go_ret;exact⟨N,O,fd (fun k=>Ending.returned (ς N k O)) Z.out.1.symm,Z.out.2⟩
theorem Tryz.abI:(prog.info? 162).map (·.size)=ο 2:=by kernel_rfl
theorem Tryz.aln:liesAt prog prog.depth 164 (5 / prog.cellsOf 164) 3 162 1=η:=by kernel_rfl
theorem Tryz.acJ:(prog.info? 5).map (fun i=>(i.zero,i.size,i.bytes))=ο (ο (.int .u8 0),1,1):=by kernel_rfl
theorem Tryz.cells5:prog.cellsOf 5=1:=by kernel_rfl
theorem Tryz.TD:prog.underlying 160=ο (.pointer 162):=by kernel_rfl
theorem Tryz.acK:prog.underlying 331=ο .unsafePointer:=by kernel_rfl
theorem Tryz.abJ:prog.underlying 126=ο (.slice 5):=by kernel_rfl
structure dw(B wb rb:Nat)(nval pt vp vt:υ)(pile:List Int)(l:List UInt8)(W:ω):Prop where
 blk:aj W wb #[π (ο ⟨rb,0,ν⟩),nval,vp,pt,vt] 164
 rp:W.ownsRow B 3 1 vp pile.length (pile.map dI)
 rt:W.ownsRow B 5 1 vt l.length (Lib.byteCells l)
 self:pt=π ν\/pt=π (ο ⟨wb,3,ν⟩)
 hB:B<=wb
theorem aht(b:Nat)(w:ω)(c:w.cell? ⟨b,3,ν⟩=ο (π (ο ⟨b,3,ν⟩))):χ prog 111 #[π (ο ⟨b,3,ν⟩)] w fun e w'=>e=δ (θ #[])/\w'=w:=by
 obtain⟨j,a,_⟩:=mS.1 Tryz.abI;go_enter func111,ntmps111
 go_wp2
 rw[Lib.run_neq_ptr_same w _ Tryz.TD a]
 go_wp2
 go_end0
 exact⟨rfl,rfl⟩
theorem agy(b:Nat)(w:ω)(g:w.cell? ⟨b,3,ν⟩=ο (.pointer ν))(a:w.shape? b=ο (164,5))(f:w.frozen? ⟨b,3,ν⟩=ε):χ prog 111 #[.pointer (ο ⟨b,3,ν⟩)] w fun e w'=>e=.returned (.tuple #[])/\w'=w.setCell ⟨b,3,ν⟩ (.pointer (ο ⟨b,3,ν⟩)):=by
 obtain⟨j,d,c⟩:=mS.1 Tryz.abI;go_enter func111,ntmps111
 go_wp2
 rw[Lib.run_to_unsafe w ⟨b,3,ν⟩ Tryz.TD Tryz.acK d (by rw[c];decide) a (show 3<5 by decide)];simp only[Result.andThen];rw[wv]
 go_wp2
 rw[run_callFunc_extern func164 (by kernel_rfl) (by kernel_rfl) (by kernel_rfl) (e:=Extern.AbiNoEscape.same) (by kernel_rfl)];rw[Lib.run_noEscape];simp only[Result.andThen];rw[wv]
 go_wp2
 rw[Lib.run_from_unsafe w ⟨b,3,ν⟩ Tryz.acK Tryz.TD d a Tryz.aln];simp only[Result.andThen];rw[wv]
 go_wp2
 go_end0
 exact⟨rfl,rfl⟩
theorem dw.tn{a o:υ}{l:List UInt8}(h:dw B c rb a o vp d pile l W){g:Nat}{v:υ}{i:List υ}(f:W.ownsRow B t z v n i)(k:t≠164)(j:v.ownBlock=ο g):g≠c:=fun e=>by
 obtain⟨b,m⟩:=bJ f j;exact Kd.ne (show Kd W g t from ⟨b,m⟩) (show Kd W c 164 from ⟨_,h.blk⟩) k e
theorem dw.Eg{b:Nat}{a c:υ}{l:List UInt8}(h:dw B b rb a d vp c pile l W):dw B b rb a (π (ο ⟨b,3,ν⟩)) vp c pile l (W.setCell ⟨b,3,ν⟩ (π (ο ⟨b,3,ν⟩))) :=
 ⟨h.blk.set 3 _,ay h.rp fun g e=>aY _ _ (h.tn h.rp (by decide) e),ay h.rt fun g e=>aY _ _ (h.tn h.rt (by decide) e),.inr rfl,h.hB⟩
def Ia(W W':ω):Prop:=∀k cs t,aj W k cs t->t≠164->t≠5->aj W' k cs t
theorem aai{b:Nat}{a g:υ}{l:List UInt8}(h:dw B b rb a g vp d pile l W):χ prog 111 #[π (ο ⟨b,3,ν⟩)] W fun e w'=>e=δ (θ #[])/\dw B b rb a (π (ο ⟨b,3,ν⟩)) vp d pile l w'/\φ B W w'/\Ia W w':=by
 rcases h.self with e|e
 ·subst e
  refine(agy b W (h.blk.cell 3) (by have:=h.blk;unfold aj at this;simp[World.shape?,this]) (h.blk.frozen 3)).mono ?_;rintro e w'⟨rfl,rfl⟩;refine⟨rfl,h.Eg,(cV B W).setCell (p:=⟨b,3,ν⟩) h.hB _,fun k i t c f _=>(aY _ _ fun e=>?_).trans c⟩;subst e;have h2:=h.blk;unfold aj at c h2;rw[c]at h2;cases h2;exact f rfl
 ·subst e
  refine(aht b W (h.blk.cell 3)).mono ?_;rintro e w'⟨rfl,rfl⟩;exact⟨rfl,h,cV B _,fun _ _ _ h _ _=>h⟩
theorem dw.dQ{b:Nat}{a m i k:υ}{l l':List UInt8}(h:dw B b rb a m vp i pile l W)(p:W.grownBy W' i.ownBlock)(d:W'.ownsRow B 5 1 k l'.length (Lib.byteCells l')):dw B b rb a m vp k pile l' (W'.setCell ⟨b,4,ν⟩ k)/\W'.cell? ⟨b,4,ν⟩=ο i/\W'.frozen? ⟨b,4,ν⟩=ε:=by
 have f:aj W' b #[π (ο ⟨rb,0,ν⟩),a,vp,m,i] 164:=(p.block b h.blk.lt fun e=>h.tn h.rt (by decide) e.symm rfl).trans h.blk;have c:∀{t z n v xs},W'.ownsRow B t z v n xs->t≠164->∀g,v.ownBlock=ο g->g≠b:=fun d q g e o=>by
  obtain⟨j,r⟩:=bJ d e;exact Kd.ne (show Kd W' g _ from ⟨j,r⟩) (show Kd W' b 164 from ⟨_,f⟩) q o
 have hp:W'.ownsRow B 3 1 vp pile.length (pile.map dI):=ay h.rp fun g e=>p.block g (h.rp.lt g e).2 fun o=>by
  obtain⟨u,h1⟩:=bJ h.rp e;obtain⟨s,h2⟩:=bJ h.rt o.symm;rw[h1]at h2;cases h2
 exact⟨⟨f.set 4 _,ay hp fun g e=>aY _ _ (c hp (by decide) g e),ay d fun g e=>aY _ _ (c d (by decide) g e),h.self,h.hB⟩,f.cell 4,f.frozen 4⟩
section
variable{B wb rb:Nat}{nval pt vp vt:υ}{pile:List Int}{l:List UInt8}{W:ω}
def LH(B wb rb:Nat)(nval vp:υ)(pile:List Int)(l:List UInt8)(W:ω)(e:Ending)(W':ω):Prop:=(∃v,e=δ v)/\φ B W W'/\Ia W W'/\∃pt vt,dw B wb rb nval pt vp vt pile l W'
theorem dw.kept{W1 W2:ω}(h:dw B wb rb nval pt vp vt pile l W1)(g:Ia W W1)(j:W1.grownBy W2 vt.ownBlock)(i:υ):Ia W (W2.setCell ⟨wb,4,ν⟩ i):=fun k c t m h1 h2=>by
 have a:=g k c t m h1 h2;have b:aj W2 k c t:=(j.block k a.lt fun e=>by
  obtain⟨f,d⟩:=bJ h.rt e.symm;unfold aj at a;rw[a]at d;cases d;exact h2 rfl).trans a
 refine(aY _ _ fun e=>?_).trans b;subst e;have h3:=h.blk;unfold aj at h3 a;rw[a]at h3;cases h3;exact h1 rfl
theorem Rw(h:dw B wb rb nval pt vp vt pile l W)(c:UInt8)(K:l.length<=1000000000)(H:B<=W.heap.size):χ prog 54 #[π (ο ⟨wb,3,ν⟩),ι .u8 c.toNat] W (LH B wb rb nval vp pile (l++[c]) W):=by
 obtain⟨D,I,r,u,x⟩:=ft Tryz.acJ;obtain⟨o,n,E,-⟩:=aB h.rt;subst E;have q:=aai h;clear h;go_enter func54,ntmps54;go_upto_region 2 with (go_at_call 111;refine q.mono ?_;rintro e w1⟨rfl,h1,a,m⟩)
 clear q;have Q:=h1.blk.a4;have C:(w1.alloc (ζ #[ι .u8 c.toNat] 5)).ownsRow B 5 1 (ς o l.length n) l.length (Lib.byteCells l):=h1.rt.alloc _;have J:B<=(w1.alloc (ζ #[ι .u8 c.toNat] 5)).heap.size:=by rw[eC];have:=a.size;omega
 have z:Hid (∀b w2,w2.ownsRow B 5 1 b (l.length+1) (Lib.byteCells l++[ι .u8 c.toNat])->(w1.alloc (ζ #[ι .u8 c.toNat] 5)).grownBy w2 (ς o l.length n).ownBlock->w2.cell? ⟨wb,4,ν⟩=ο (ς o l.length n)/\w2.frozen? ⟨wb,4,ν⟩=ε/\(φ B W (w2.setCell ⟨wb,4,ν⟩ b)/\Ia W (w2.setCell ⟨wb,4,ν⟩ b))/\∃pt vt,dw B wb rb nval pt vp vt pile (l++[c]) (w2.setCell ⟨wb,4,ν⟩ b)):=fun b w2 G s=>by
  have g:=aI (aM w1 (ζ #[ι .u8 c.toNat] 5) _) s;have y:w2.ownsRow B 5 1 b (l++[c]).length (Lib.byteCells (l++[c])):=by
   rw[cJ];simpa [Lib.byteCells]using G
  obtain⟨h2,d,f⟩:=h1.dQ g y;refine⟨d,f,⟨?_,h1.kept m g b⟩,_,_,h2⟩;refine AS (p:=⟨wb,4,ν⟩) ⟨g.os.trans a.os,g.tape.trans a.tape,g.output.trans a.output,cY a.size g.size,fun k A=>(g.block k (by have:=a.size;omega) (fun e=>by have:=(h1.rt.lt k e.symm).1;omega)).trans (a.block k A)⟩ h1.hB _
 clear h1 a m
 go_wp2_with (at_builtin;refine ii _ rfl _ _ 126 rfl B 5 D _ 1 1 Tryz.abJ I r u x rfl (by decide) (ς o l.length n) l.length (Lib.byteCells l) rfl C ⟨w1.heap.size,0,ν⟩ 1 1 [ι .u8 c.toNat] rfl rfl (bQ (aj.new w1 #[ι .u8 c.toNat] 5)) (by simp[Value.oneCell']) (by unfold maxLen;omega) (by omega) J ?_;intro M w2 j v _ _;obtain⟨L,N,t,-⟩:=aB j;subst t;obtain⟨O,P,i,F⟩:=z.out _ w2 j v)
 go_ret;exact⟨⟨_,rfl⟩,i.1,i.2,F⟩
theorem Yr(h:dw B wb rb nval pt vp vt pile l W)(s:ByteArray)(L:l.length+s.size<=1000000000)(H:B<=W.heap.size):χ prog 109 #[π (ο ⟨wb,3,ν⟩),τ s] W (LH B wb rb nval vp pile (l++s.data.toList) W):=by
 obtain⟨D,I,m,o,t⟩:=ft Tryz.acJ;obtain⟨x,v,E,-⟩:=aB h.rt;subst E;have q:=aai h;clear h;go_enter func109,ntmps109;go_upto_region 2 with (go_at_call 111;refine q.mono ?_;rintro e w1⟨rfl,h1,a,j⟩)
 clear q;have c4:=h1.blk.a4;have C:=h1.rt;have K:B<=w1.heap.size:=by have:=a.size;omega
 have y:Hid (∀b w2,w2.ownsRow B 5 1 b (l.length+s.size) (Lib.byteCells l++Lib.strCells s)->w1.grownBy w2 (ς x l.length v).ownBlock->w2.cell? ⟨wb,4,ν⟩=ο (ς x l.length v)/\w2.frozen? ⟨wb,4,ν⟩=ε/\(φ B W (w2.setCell ⟨wb,4,ν⟩ b)/\Ia W (w2.setCell ⟨wb,4,ν⟩ b))/\∃pt vt,dw B wb rb nval pt vp vt pile (l++s.data.toList) (w2.setCell ⟨wb,4,ν⟩ b)):=fun b w2 G c=>by
  have u:w2.ownsRow B 5 1 b (l++s.data.toList).length (Lib.byteCells (l++s.data.toList)):=by
   have J:(l++s.data.toList).length=l.length+s.size:=by rw[cJ,jx];rfl
   have A:Lib.byteCells (l++s.data.toList)=Lib.byteCells l++Lib.strCells s:=by simp[Lib.byteCells,Lib.strCells]
   rw[J,A];exact G
  obtain⟨h2,d,f⟩:=h1.dQ c u;refine⟨d,f,⟨?_,h1.kept j c b⟩,_,_,h2⟩;refine AS (p:=⟨wb,4,ν⟩) ⟨c.os.trans a.os,c.tape.trans a.tape,c.output.trans a.output,cY a.size c.size,fun k z=>(c.block k (by have:=a.size;omega) (fun e=>by have:=(h1.rt.lt k e.symm).1;omega)).trans (a.block k z)⟩ h1.hB _
 clear h1 a j
 go_wp2_with (at_builtin;refine AM _ rfl _ _ 126 9 rfl B 5 D Tryz.abJ underlying9 I m o t _ _ _ rfl C s rfl ?c3 ?c4 ?c5 ?_)
 case c3=>unfold maxLen;omega
 case c4=>omega
 case c5=>exact K
 intro N w2 i r _;obtain⟨M,O,n,-⟩:=aB i;subst n;obtain⟨P,Q,g,F⟩:=y.out _ w2 i r
 go_wp2
 go_ret2
 exact⟨⟨_,rfl⟩,g.1,g.2,F⟩
theorem ahu(h:dw B wb rb nval pt vp vt pile l W)(n:l≠[])(C:l.length<=1000000000):χ prog 55 #[π (ο ⟨wb,3,ν⟩)] W fun e w'=>e=δ (τ ⟨l.toArray⟩)/\φ B W w':=by
 have f:l.length≠0:=by simpa using n
 have c:=h.rt;have v:=h.blk;clear h;obtain⟨g,a,b,rfl,d,t,q,i,s,k⟩:∃g a b,vt=ς (ο ⟨g,0,ν⟩) l.length a/\B<=g/\W.heap[g]?=ο (ζ b 5 (0,0))/\l.length<=a/\a<=maxLen/\b.size=a*1/\b.toList.take (l.length*1)=Lib.byteCells l:=by
  rcases c.2 with ⟨_,A⟩|⟨g,a,b,y,r⟩
  ·exact absurd A f
  ·exact⟨g,a,b,y,r⟩
 have D:W.drew.cell? ⟨wb,4,ν⟩=ο (ς (ο ⟨g,0,ν⟩) l.length a):=v.cell 4;have z:(Builtin.unsafeSliceData_ #[126] 269 #[ς (ο ⟨g,0,ν⟩) l.length a]).run prog W.drew=.ok (π (ο ⟨g,0,ν⟩)) W.drew :=
  Lib.run_unsafeSliceData_row _ _ _ _ _ _ (by omega)
 have o:(Builtin.unsafeString_ #[269,3] 9 #[π (ο ⟨g,0,ν⟩),ι ξ l.length]).run prog W.drew=.ok (τ ⟨l.toArray⟩) (W.drew.freeze ⟨g,0,ν⟩ l.length):=by
  refine Lib.run_unsafeString_row W.drew 269 3 9 5 (by kernel_rfl) Tryz.cells5 g b.size (by have m:W.drew.heap[g]?=ο (.cells b 5 (0,0)):=t;simp[World.shape?,m]) l n (by omega) (by unfold maxLen at i;omega) ?_;intro j x u;exact c.cells (g:=g) rfl j (.int .u8 x.toNat) (by simp[Lib.byteCells,u])
 go_enter func55,ntmps55
 go_wp2
 go_region
 all_goals (go_wp2;go_ret;exact⟨rfl,Lib.below_freeze (Below.drew (cV B W)) (p:=⟨g,0,ν⟩) d _⟩)
end
section
open Go.RowKit Go.Shelf
open Tr
attribute [local go_sem] my
def Ib(B wb rb:Nat)(nval:υ)(pile:List Int)(l:List UInt8)(W:ω)(e:Ending)(W':ω):Prop:=(∃v,e=δ v)/\φ B W W'/\∃pt vp vt,dw B wb rb nval pt vp vt pile l W'
section
variable{B wb rb:Nat}{nval pt vp vt:υ}{pile:List Int}{l:List UInt8}{W W':ω}
theorem dw.keep(h:dw B wb rb nval pt vp vt pile l W)(a:φ W.heap.size W W'):dw B wb rb nval pt vp vt pile l W' :=
 ⟨(a.block wb h.blk.lt).trans h.blk,ay h.rp fun g e=>a.block g (h.rp.lt g e).2,ay h.rt fun g e=>a.block g (h.rt.lt g e).2,h.self,h.hB⟩
end
theorem ahv{o:Nat}{ms:List Cm.Nk}{nd:Cm.Nk}{Z:υ}{p:Pk.T}{l:List UInt8}(N:B=w0.heap.size)(D:φ B w0 W)(R:Hid (∀W,φ B w0 W->qp W rb pb b mv B' v p))(U:Hid (∀W,φ B w0 W->mU B W na ms))(h:dw B o rb (ς na ms.length nc) Z vp vt pile l W)(G:ms[k]?=ο nd)(hp:nd.prod<0)(S:l.length+(Pk.mh p.toks nd.sym).size<=1000000000):χ prog 53 #[π (ο ⟨o,0,ν⟩),ι ξ (k:Int)] W (Ib B o rb (ς na ms.length nc) pile (l++(Pk.mh p.toks nd.sym).data.toList) W):=by
 have F:=(cH.1 G).1;obtain⟨s,K⟩:=aF (Pk.mh p.toks nd.sym);have HS:Hid _:=K;rw[K]at S|-;clear K;have C:B<=W.heap.size:=by rw[N];exact D.size
 obtain⟨y,u⟩:=aF W.heap.size;obtain⟨w1,g⟩:=aC (W.alloc (ζ #[π (ο ⟨o,0,ν⟩)] 263));have j:φ W.heap.size W w1:=by rw[g];exact(cV _ _).alloc (zL0) _
 have r:aj w1 y #[π (ο ⟨o,0,ν⟩)] 263:=by rw[g,<-u];exact aj.new ..
 have A:w1.heap.size=y+1:=by rw[g,eC,u]
 have m:=D.trans (j.mono (by rw[N];exact D.size));have q:=h.keep j;obtain⟨gN,O,V,E,aa,c0,c1,c2,c3,c4,-,-⟩:=U.out w1 m k nd G;subst E;have h1:=q.blk.a1;have p0:=r.a0;obtain⟨w2,n⟩:=aC (w1.alloc (ζ #[ι ξ nd.sym,ι ξ nd.prod,ς O nd.kids.length V,ι ξ nd.fr,ι ξ nd.wd] 257));have i:φ w1.heap.size w1 w2:=by rw[n];exact(cV _ _).alloc (zL0) _
 have kB:=r.on i;have I:aj w2 (y+1) #[ι ξ nd.sym,ι ξ nd.prod,ς O nd.kids.length V,ι ξ nd.fr,ι ξ nd.wd] 257:=by rw[n,<-A];exact aj.new ..
 have k0:(0:Int)<=(k:Int):=by omega
 have k1:(k:Int)<(ms.length:Int):=by omega
 have b1:=ge hp;have H:Hid _:=j.trans (i.mono j.size);have h2:=q.keep i;have z:=m.trans (i.mono (by rw[N];exact m.size));clear h q r j i;go_enter func53,ntmps53;go_upto_region 1 with fail
 rw[<-g];clear g;go_upto_region 2 with fail
 rw[<-n];clear n c0 c1 c2 c3 c4 h1 p0;have m0:=I.a0;have m1:=I.a1;have p0:=kB.a0;have x0:=h2.blk.a0;have J:=R.out w2 z;have r1:=J.blk.a1;go_upto_region 3 with fail
 have hd:φ w2.heap.size w2 w2.drew:=⟨rfl,rfl,rfl,zL0,fun _ _=>rfl⟩;have t:=aah (J.move hd).pk nd.sym;rw[HS.out]at t;have P:Hid (∀d,φ w2.drew.heap.size w2.drew d->d.cell? ⟨y,0,ν⟩=ο (π (ο ⟨o,0,ν⟩))/\χ prog 109 #[π (ο ⟨o,3,ν⟩),τ s] d (LH B o rb (ς (ο ⟨gN,0,ν⟩) ms.length nc) vp pile (l++s.data.toList) d)/\φ B W d):=fun d Y=>by
  have f:=hd.trans Y;have Q:=H.out.trans (f.mono H.out.size);exact⟨(cQ (w:=w2) (f.block y kB.lt)).trans (kB.cell 0),Yr (h2.keep f) s S (cY C Q.size),Q.mono C⟩
 have HT:Hid (∀d x,φ B W d->φ B d x->φ B W x):=fun d x h1 h2=>h1.trans h2
 clear R U J h2 I kB D m z G F A u H hd
 go_region_law (first
  | (refine eZ rfl 22 #[π (ο ⟨pb,0,ν⟩),ι ξ nd.sym] (by go_simp) t ?_;rintro e d⟨rfl,f⟩;refine⟨_,rfl,?_⟩;obtain⟨y0,X,L⟩:=P.out d f;clear t P f)
  | (refine eZ rfl 109 #[π (ο ⟨o,3,ν⟩),τ s] (by go_simp) X ?_;rintro e x⟨⟨v4,rfl⟩,M,-,hE⟩;refine⟨_,rfl,?_⟩;clear X))
 all_goals
  go_wp2_with fail;exact iS (po rfl _ _ _) rfl ⟨⟨_,rfl⟩,HT.out d x L M,by obtain⟨a,c,h⟩:=hE;exact⟨a,vp,c,h⟩⟩
end
section
open Go.RowKit Go.Shelf
open Tr
attribute [local go_sem] my
section
variable{B wb rb:Nat}{nval pt vp Ic vt:υ}{pile iJ:List Int}{l:List UInt8}{W W':ω}
theorem dw.Ct(h:dw B wb rb nval pt vp vt pile l W)(j:W.grownBy W' vp.ownBlock)(c:W'.ownsRow B 3 1 Ic iJ.length (iJ.map dI)):dw B wb rb nval pt Ic vt iJ l (W'.setCell ⟨wb,2,ν⟩ Ic)/\W'.cell? ⟨wb,2,ν⟩=ο vp/\W'.frozen? ⟨wb,2,ν⟩=ε:=by
 have b:aj W' wb #[π (ο ⟨rb,0,ν⟩),nval,vp,pt,vt] 164:=(j.block wb h.blk.lt fun e=>h.tn h.rp (by decide) e.symm rfl).trans h.blk;have a:∀{t z n v xs},W'.ownsRow B t z v n xs->t≠164->∀g,v.ownBlock=ο g->g≠wb:=fun c d g e i=>by
  obtain⟨f,k⟩:=bJ c e;exact Kd.ne (show Kd W' g _ from ⟨f,k⟩) (show Kd W' wb 164 from ⟨_,b⟩) d i
 have d:W'.ownsRow B 5 1 vt l.length (Lib.byteCells l):=ay h.rt fun g e=>j.block g (h.rt.lt g e).2 fun i=>by
  obtain⟨o,h1⟩:=bJ h.rt e;obtain⟨m,h2⟩:=bJ h.rp i.symm;rw[h1]at h2;cases h2
 exact⟨⟨b.set 2 _,ay c fun g e=>aY _ _ (a c (by decide) g e),ay d fun g e=>aY _ _ (a d (by decide) g e),h.self,h.hB⟩,b.cell 2,b.frozen 2⟩
theorem dw.push(h:dw B wb rb nval pt vp vt pile l W)(c:(W.alloc (ζ #[ι ξ x] 3)).grownBy W' vp.ownBlock)(b:W'.ownsRow B 3 1 Ic (pile.length+1) (pile.map dI++[ι ξ x])):dw B wb rb nval pt Ic vt (pile++[x]) l (W'.setCell ⟨wb,2,ν⟩ Ic)/\W'.cell? ⟨wb,2,ν⟩=ο vp/\W'.frozen? ⟨wb,2,ν⟩=ε/\W.grownBy W' vp.ownBlock:=by
 have a:=aI (aM W (ζ #[ι ξ x] 3) _) c;obtain⟨h1,h2,h3⟩:=h.Ct (iJ:=pile++[x]) a (by rw[cJ,ee];exact b);exact⟨h1,h2,h3,a⟩
end
structure EP(W0:ω)(B wb rb bb bx:Nat)(nval pt vt u:υ)(zs:Nat->List Int)(l:List UInt8)(i:Nat)(Z:Nat->Prop)(W:ω):Prop where
 b:φ B W0 W
 m:∃vp,dw B wb rb nval pt vp vt (zs i) l W/\∀g,vp.ownBlock=ο g->¬Z g
 t:∀g,vt.ownBlock=ο g->¬Z g
 kb:aj W bb #[π (ο ⟨wb,0,ν⟩)] 263
 kx:aj W bx #[u] 47
 z:∀k,Z k->bx<k/\k<W.heap.size
theorem EP.oD{v:ω}{q p:Nat}{D E:υ}{z:Nat->List Int}{l:List UInt8}(F:q<bx)(x:p<bx)(hB:B<=bx):sF (EP v B q rb p bx f D E u z l) where
 own i Z A C row h hg hr:=by
  obtain⟨h1,⟨r,h2,h3⟩,h4,m,d,j⟩:=h;have n:∀k,row=ο k->bx<k:=fun k e=>(j k (hr k e)).1
  have a:∀k,k<=bx->k<A.heap.size->C.heap[k]?=A.heap[k]?:=fun k a y=>hg.block k y fun e=>by have:=n k e.symm;omega
  refine⟨⟨hg.os.trans h1.os,hg.tape.trans h1.tape,hg.output.trans h1.output,cY h1.size hg.size,fun k b=>(a k (by omega) (by have:=d.lt;omega)).trans (h1.block k b)⟩,⟨r,⟨(a q (by omega) h2.blk.lt).trans h2.blk,ay h2.rp fun g e=>hg.block g (h2.rp.lt g e).2 fun s=>h3 g e (hr g s.symm),ay h2.rt fun g e=>hg.block g (h2.rt.lt g e).2 fun s=>h4 g e (hr g s.symm),h2.self,h2.hB⟩,h3⟩,h4,(a p (by omega) m.lt).trans m,(a bx (zL0) d.lt).trans d,fun k b=>⟨(j k b).1,dg (j k b).2 hg.size⟩⟩
 new i Z A o h:=by
  obtain⟨h1,⟨r,h2,h3⟩,h4,m,d,j⟩:=h;have t:φ A.heap.size A (A.alloc o):=(cV _ _).alloc (zL0) _;have G:=d.lt;refine⟨h1.trans (t.mono (by omega)),⟨r,h2.keep t,fun g e c=>?_⟩,fun g e c=>?_,m.alloc o,d.alloc o,fun k a=>?_⟩
  ·rcases c with c | rfl
   ·exact h3 g e c
   ·have:=(h2.rp.lt _ e).2
    omega
  ·rcases c with c | rfl
   ·exact h4 g e c
   ·have:=(h2.rt.lt _ e).2
    omega
  ·rw[eC]
   rcases a with a|rfl
   ·have:=j k a
    omega
   ·omega
end
namespace Cm
def Ba(tk nm:Int->List UInt8)(ms:List Nk):Nat->Nat->List UInt8
 |0,_=>[]
 |f+1,i=>if (ms.getD i dJ).prod<0 then tk (ms.getD i dJ).sym else 40::(nm (ms.getD i dJ).sym++(ms.getD i dJ).kids.flatMap (fun k=>32::Ba tk nm ms f k)++[41])
def tx(tk nm:Int->List UInt8)(ms:List Nk)(i:Nat):List UInt8:=Ba tk nm ms (i+1) i
section
variable{tk nm:Int -> List UInt8}{ms:List Nk}
theorem amt(h:eX ms):∀f i,i<f->Ba tk nm ms f i=tx tk nm ms i:=by
 intro f
 induction f using Nat.strongRecOn with
 |ind f ih=>
  intro i b
  match f,b,ih with
  |f+1,b,ih=>
   unfold tx;rw[Ba,Ba]
   split
   ·rfl
   ·have e:∀k∈(ms.getD i dJ).kids,(32::Ba tk nm ms f k)=32::Ba tk nm ms i k:=fun k c=>by
     have a:=h i k c;rw[ih f (by omega) k (by omega),ih i (by omega) k a]
    rw[FR e]
theorem Ux(h:eX ms)(i:Nat):tx tk nm ms i=if (ms.getD i dJ).prod<0 then tk (ms.getD i dJ).sym else 40::(nm (ms.getD i dJ).sym++(ms.getD i dJ).kids.flatMap (fun k=>32::tx tk nm ms k)++[41]):=by
 rw[tx,Ba]
 split
 ·rfl
 ·rw[FR (f:=fun k=>32::Ba tk nm ms i k) (g:=fun k=>32::tx tk nm ms k) fun k a=>by rw[amt h _ _ (h i k a)]]
def Ie(tk nm:Int->List UInt8)(ms:List Nk)(x:Int):List UInt8:=if x=-1 then [41] else 32::tx tk nm ms x.toNat
def zw(tk nm:Int->List UInt8)(ms:List Nk)(pile:List Int):List UInt8:=pile.reverse.flatMap (Ie tk nm ms)
def zL(tk nm:Int->List UInt8)(n:Nk):List UInt8:=if n.prod<0 then tk n.sym else 40::nm n.sym
def qw(n:Nk):List Int:=if n.prod<0 then [] else -1::n.kids.reverse.map fun(x:Nat)=>(x:Int)
theorem adB(h:eX ms){n:Nk}(a:ms.getD i dJ=n):zL tk nm n++zw tk nm ms (qw n)=tx tk nm ms i:=by
 rw[Ux h,a];unfold zL qw zw
 split
 ·exact fW _
 ·rw[List.reverse_cons,<-tv,xe,ik,uB]
  have e:n.kids.flatMap (fun(x:Nat)=>Ie tk nm ms (x:Int))=n.kids.flatMap (fun k=>32::tx tk nm ms k):=FR fun k _=>by
   unfold Ie;rw[dt (by omega)];rfl
  have b:[(-1:Int)].flatMap (Ie tk nm ms)=[41]:=rfl;rw[e,b,ip,dy]
def Bb(ms:List Nk):Nat->Nat->Nat
 |0,_=>1
 |f+1,i=>if (ms.getD i dJ).prod<0 then 1 else 2+((ms.getD i dJ).kids.map (Bb ms f)).sum
def rn(ms:List Nk)(i:Nat):Nat:=Bb ms (i+1) i
theorem amu(h:eX ms):∀f i,i<f->Bb ms f i=rn ms i:=by
 intro f
 induction f using Nat.strongRecOn with
 |ind f ih=>
  intro i b
  match f,b,ih with
  |f+1,b,ih=>
   unfold rn;rw[Bb,Bb]
   split
   ·rfl
   ·have e:∀k∈(ms.getD i dJ).kids,Bb ms f k=Bb ms i k:=fun k c=>by
     have a:=h i k c;rw[ih f (by omega) k (by omega),ih i (by omega) k a]
    rw[ju e]
theorem adC(h:eX ms)(i:Nat):rn ms i=if (ms.getD i dJ).prod<0 then 1 else 2+((ms.getD i dJ).kids.map (rn ms)).sum:=by
 rw[rn,Bb]
 split
 ·rfl
 ·rw[ju fun k a=>amu h _ _ (h i k a)]
theorem amv(i:Nat):0<rn ms i:=by
 rw[rn,Bb]
 split <;> omega
def oI(ms:List Nk)(pile:List Int):Nat:=(pile.map fun x=>if x=-1 then 1 else rn ms x.toNat).sum
theorem abK:∀pile:List Int,pile.length<=oI ms pile
 | []=>zL0
 |x::l=>by
  have h1:=abK l;have h2:=amv (ms:=ms) x.toNat;unfold oI at h1|-;rw[n9,tA,eh]
  split <;> omega
theorem TF(a b:List Int):oI ms (a++b)=oI ms a+oI ms b:=by
 unfold oI;rw[ee,qu]
theorem adD(h:eX ms){n:Nk}(a:ms.getD i dJ=n):oI ms (qw n)+1=rn ms i:=by
 rw[adC h,a];unfold qw oI
 split
 ·rfl
 ·rw[n9,tA,pj,tv,zc,du rfl]
  have e:n.kids.map ((fun(x:Int)=>if x=-1 then 1 else rn ms x.toNat) ∘ fun(x:Nat)=>(x:Int))=n.kids.map (rn ms):=ju fun k _=>by
   show (if (k:Int)=-1 then 1 else rn ms (k:Int).toNat)=rn ms k;rw[dt (by omega)];rfl
  rw[e];omega
end
end Cm
section
variable{F:Fence}{n fuel:Nat}{P:Program}{ops:Array Oper}{Q:Exit -> Act -> ω -> Prop}{md:Region.Mode}{listed:Array Bool}{a:Act}{w:ω}{o o':Oper}
theorem iW(m:Nat)(c:Region.ready md ops listed=[m])(b:ops[m]?=ο o)(h:∀K':Act->ω->Prop,(∀a w,wpAnyIn F n P md ops Q fuel (listed.setIfInBounds m η) a w->K' a w)->if Region.wanted o (yielded ops a.tmps)=η then Oper.wpIn F n P o a w K' Q else (∀f,o.about P w a.eval=ο f->F.fn f)/\K' (a.put o.dst undef) w):wpAnyIn F n P md ops Q (fuel+1) listed a w:=wpAnyIn_ready c (by simp) (AllReadyIn.cons b h AllReadyIn.nil)
theorem jQ(m k:Nat)(g:Region.ready md ops listed=[m,k])(d:ops[m]?=ο o)(b:ops[k]?=ο o')(h:∀K':Act->ω->Prop,(∀a w,wpAnyIn F n P md ops Q fuel (listed.setIfInBounds m η) a w->K' a w)->if Region.wanted o (yielded ops a.tmps)=η then Oper.wpIn F n P o a w K' Q else (∀f,o.about P w a.eval=ο f->F.fn f)/\K' (a.put o.dst undef) w)(c:∀K':Act->ω->Prop,(∀a w,wpAnyIn F n P md ops Q fuel (listed.setIfInBounds k η) a w->K' a w)->if Region.wanted o' (yielded ops a.tmps)=η then Oper.wpIn F n P o' a w K' Q else (∀f,o'.about P w a.eval=ο f->F.fn f)/\K' (a.put o'.dst undef) w):wpAnyIn F n P md ops Q (fuel+1) listed a w:=wpAnyIn_ready g (by simp) (AllReadyIn.cons d h (AllReadyIn.cons b c AllReadyIn.nil))
theorem Gm{b:Oper}(m k j:Nat)(l:Region.ready md ops listed=[m,k,j])(i:ops[m]?=ο o)(d:ops[k]?=ο o')(c:ops[j]?=ο b)(h:∀K':Act->ω->Prop,(∀a w,wpAnyIn F n P md ops Q fuel (listed.setIfInBounds m η) a w->K' a w)->if Region.wanted o (yielded ops a.tmps)=η then Oper.wpIn F n P o a w K' Q else (∀f,o.about P w a.eval=ο f->F.fn f)/\K' (a.put o.dst undef) w)(g:∀K':Act->ω->Prop,(∀a w,wpAnyIn F n P md ops Q fuel (listed.setIfInBounds k η) a w->K' a w)->if Region.wanted o' (yielded ops a.tmps)=η then Oper.wpIn F n P o' a w K' Q else (∀f,o'.about P w a.eval=ο f->F.fn f)/\K' (a.put o'.dst undef) w)(h3:∀K':Act->ω->Prop,(∀a w,wpAnyIn F n P md ops Q fuel (listed.setIfInBounds j η) a w->K' a w)->if Region.wanted b (yielded ops a.tmps)=η then Oper.wpIn F n P b a w K' Q else (∀f,b.about P w a.eval=ο f->F.fn f)/\K' (a.put b.dst undef) w):wpAnyIn F n P md ops Q (fuel+1) listed a w:=wpAnyIn_ready l (by simp) (AllReadyIn.cons i h (AllReadyIn.cons d g (AllReadyIn.cons c h3 AllReadyIn.nil)))
end
section
open Go.RowKit Go.Shelf
open Tr
attribute [local go_sem] my
theorem aaj{c:Code}{a:Act}(h:c.wp P (Exit.then K fun _ _ _=>False) a w):c.wp P (Exit.then K Q) a w:=wp_mono h fun e a w h=>by
 cases e <;> first | exact h | exact h.elim
theorem agz{ms:List Cm.Nk}{nd:Cm.Nk}{pt:υ}{p:Pk.T}{l:List UInt8}(hB:B=w0.heap.size)(hw:φ B w0 W)(HR:Hid (∀W,φ B w0 W->qp W rb pb b mv B' v p))(HN:Hid (∀W,φ B w0 W->mU B W na ms))(h:dw B j rb (ς na ms.length nc) pt vp vt pile l W)(m:ms[k]?=ο nd)(hp:0<=nd.prod)(hl:l.length+(nameOf p nd.sym).size+1<=1000000000)(aR:-1000000000<=nd.sym/\nd.sym<=1000000000)(aX:p.toks.length<=100000)(bc:pile.length+nd.kids.length+1<=1000000000):χ prog 53 #[π (ο ⟨j,0,ν⟩),ι ξ (k:Int)] W (Ib B j rb (ς na ms.length nc) (pile++[-1]++(nd.kids.reverse.map fun(x:Nat)=>(x:Int))) (l++[40]++(nameOf p nd.sym).data.toList) W):=by
 obtain⟨i0,ar,ai,aq,am⟩:=ft Tryz.info3;have ap:=(cH.1 m).1;obtain⟨s,hs⟩:=aF (nameOf p nd.sym);have HS:Hid _:=hs;rw[hs]at hl|-;clear hs;have N:B<=W.heap.size:=by rw[hB];exact hw.size
 obtain⟨q,aa⟩:=aF W.heap.size;obtain⟨w1,Q⟩:=aC (W.alloc (ζ #[π (ο ⟨j,0,ν⟩)] 263));have O:φ W.heap.size W w1:=by rw[Q];exact(cV _ _).alloc (zL0) _
 have ah:aj w1 q #[π (ο ⟨j,0,ν⟩)] 263:=by rw[Q,<-aa];exact aj.new ..
 have an:w1.heap.size=q+1:=by rw[Q,eC,aa]
 have ac:=hw.trans (O.mono (by rw[hB];exact hw.size));have al:=h.keep O;obtain⟨M,C,L,aV,bn,c0,c1,c2,c3,c4,ae,ab⟩:=HN.out w1 ac k nd m;subst aV;have h1:=al.blk.a1;have p0:=ah.a0;obtain⟨w2,X⟩:=aC (w1.alloc (ζ #[ι ξ nd.sym,ι ξ nd.prod,ς C nd.kids.length L,ι ξ nd.fr,ι ξ nd.wd] 257));have ad:φ w1.heap.size w1 w2:=by rw[X];exact(cV _ _).alloc (zL0) _
 have kB:=ah.on ad;have kX:aj w2 (q+1) #[ι ξ nd.sym,ι ξ nd.prod,ς C nd.kids.length L,ι ξ nd.fr,ι ξ nd.wd] 257:=by rw[X,<-an];exact aj.new ..
 have k0:(0:Int)<=(k:Int):=by omega
 have k1:(k:Int)<(ms.length:Int):=by omega
 have b1:decide (nd.prod<0)=ε:=fx (by omega);have h2:=al.keep ad;have ak:=O.trans (ad.mono O.size);have bp:j<q:=by rw[<-aa];exact h.blk.lt
 have uw:=Rw h2 40 (by omega) (cY N ak.size);have HK:Hid (∀W',φ B W W'->nG W' C nd.kids):=fun W' hb i x hx=>by
  obtain⟨g,e,hg,hc⟩:=ae i x hx;have a9:=ab g e;exact⟨g,e,dg a9 (cY N hb.size),(cQ (w:=w1) ((hb.block g a9).trans (O.block g (by omega)).symm)).trans hc⟩
 clear h al ah O ad;refine gh.1 (callsIn_of_wp_marks (F:=Fence.wide) (n:=9) func53 rfl trivial ?_ rfl);simp only[ntmps53,List.size_toArray,List.length_cons,List.length_nil,Nat.reduceAdd,Nat.reduceSub,Array.replicate_succ,Array.replicate_zero,List.push_toArray,List.append_toArray,List.nil_append,List.cons_append]
 gi_upto_region 1 with fail
 rw[<-Q];clear Q
 gi_upto_region 2 with fail
 rw[<-X];clear X c0 c1 c2 c3 c4 h1 p0;have m1:=kX.a1;have p0:=kB.a0
 gi_upto_region 5 with (refine⟨trivial,?_⟩;gi_at_call 54;refine(gh.2 uw).mono ?_;rintro e w3⟨⟨v3,rfl⟩,ax,R,bo,bs,h3⟩)
 have af:=R _ _ _ kB (by decide) (by decide);have EQ:=R _ _ _ kX (by decide) (by decide);have S:=(ak.mono N).trans ax;have Vg:=hw.trans S;clear uw R ax h2 kB kX m1 p0 ak
 gi_cut [] from 70 (fun wx=>Hid (φ B W wx/\aj wx q #[π (ο ⟨j,0,ν⟩)] 263/\aj wx (q+1) #[ι ξ nd.sym,ι ξ nd.prod,ς C nd.kids.length L,ι ξ nd.fr,ι ξ nd.wd] 257/\∃pt vt,dw B j rb (ς (ο ⟨M,0,ν⟩) ms.length nc) pt vp vt pile (l++[40]++s.data.toList) wx))
 case first=>
  rename_i J K' hJ ao;have p0:=af.a0;have x0:=h3.blk.a0;have m0:=EQ.a0;have hd:φ w3.heap.size w3 w3.drew:=⟨rfl,rfl,rfl,zL0,fun _ _=>rfl⟩;have uq:=Zu ((HR.out w3 Vg).move hd) nd.sym aR aX;rw[HS.out]at uq;have H4:Hid (∀w4,φ w3.drew.heap.size w3.drew w4->w4.cell? ⟨q,0,ν⟩=ο (π (ο ⟨j,0,ν⟩))/\χ prog 109 #[π (ο ⟨j,3,ν⟩),τ s] w4 (LH B j rb (ς (ο ⟨M,0,ν⟩) ms.length nc) vp pile (l++[40]++s.data.toList) w4)/\∀y v5,LH B j rb (ς (ο ⟨M,0,ν⟩) ms.length nc) vp pile (l++[40]++s.data.toList) w4 (δ v5) y->φ B W y/\aj y q #[π (ο ⟨j,0,ν⟩)] 263/\aj y (q+1) #[ι ξ nd.sym,ι ξ nd.prod,ς C nd.kids.length L,ι ξ nd.fr,ι ξ nd.wd] 257/\∃pt vt,dw B j rb (ς (ο ⟨M,0,ν⟩) ms.length nc) pt vp vt pile (l++[40]++s.data.toList) y):=fun w4 hb=>by
   have H:=hd.trans hb;have hsz:=cY N S.size;have mE:=af.on H;have Hf:=EQ.on H;refine⟨mE.cell 0,Yr (h3.keep H) s (by rw[cJ];simp only[List.length_singleton];omega) (cY hsz H.size),fun y v5 hE=>?_⟩;obtain⟨-,h1,h2,h3⟩:=hE;exact⟨(S.trans (H.mono hsz)).trans h1,h2 _ _ _ mE (by decide) (by decide),h2 _ _ _ Hf (by decide) (by decide),h3⟩
  clear HR HN af EQ h3 hw ac Vg S m ap an aa hd ae ab bc ar ai aq am;refine pn.2 (aaj ?_)
  go_region_law (first
   | (refine eZ rfl 52 #[π (ο ⟨rb,0,ν⟩),ι ξ nd.sym] (by go_simp) uq ?_;rintro e w4⟨rfl,H⟩;refine⟨_,rfl,?_⟩;obtain⟨y0,Kl,HZ⟩:=H4.out w4 H;clear uq H4 H)
   | (refine eZ rfl 109 #[π (ο ⟨j,3,ν⟩),τ s] (by go_simp) Kl ?_;rintro e y hE;obtain⟨⟨v5,rfl⟩,-⟩:=id hE;refine⟨_,rfl,?_⟩;have I:=HZ y v5 hE;clear Kl hE HZ))
  all_goals
   refine ao _ _ (Met.intro (hJ _ _ ?_))
   repeat apply B6
   refine⟨I,rfl⟩
 case rest=>
  clear af EQ h3 Vg S HR;revert wc;intro y G;obtain⟨nD,lJ,A9,Bc,Bd,I⟩:=G.out;clear G;obtain⟨pa,pc,ba,-⟩:=aB I.rp;subst ba;have bi:=cY N nD.size
  gi_upto_region 6 with fail
  gi_cut [] from 5 (fun wx=>Hid (φ B W wx/\aj wx q #[π (ο ⟨j,0,ν⟩)] 263/\aj wx (q+1) #[ι ξ nd.sym,ι ξ nd.prod,ς C nd.kids.length L,ι ξ nd.fr,ι ξ nd.wd] 257/\∃vp,dw B j rb (ς (ο ⟨M,0,ν⟩) ms.length nc) Bc vp Bd (pile++[-1]) (l++[40]++s.data.toList) wx))
  case first=>
   rename_i J K' hJ ao;have p0:=lJ.a0;have x2:=I.blk.a2;have aH:(y.alloc (ζ #[ι ξ (-1)] 3)).cell? ⟨q,0,ν⟩=ο (π (ο ⟨j,0,ν⟩)):=(lJ.alloc _).cell 0;have aA:(y.alloc (ζ #[ι ξ (-1)] 3)).cell? ⟨j,2,ν⟩=ο (ς pa pile.length pc):=(I.blk.alloc _).cell 2;have o6:(y.drew.alloc (ζ #[ι ξ (-1)] 3)).ownsRow B 3 1 (ς pa pile.length pc) pile.length (pile.map dI):=(show y.drew.ownsRow B 3 1 (ς pa pile.length pc) pile.length (pile.map dI) from I.rp).alloc _;have bh:B<=(y.drew.alloc (ζ #[ι ξ (-1)] 3)).heap.size:=by rw[eC];show B<=y.heap.size+1;omega
   have H7:Hid (∀g9 bM u,u.ownsRow B 3 1 (ς (ο ⟨g9,0,ν⟩) (pile.length+1) bM) (pile.length+1) (pile.map dI++[ι ξ (-1)])->(y.drew.alloc (ζ #[ι ξ (-1)] 3)).grownBy u (ς pa pile.length pc).ownBlock->u.cell? ⟨q,0,ν⟩=ο (π (ο ⟨j,0,ν⟩))/\u.cell? ⟨j,2,ν⟩=ο (ς pa pile.length pc)/\u.frozen? ⟨j,2,ν⟩=ε/\Hid (φ B W (u.setCell ⟨j,2,ν⟩ (ς (ο ⟨g9,0,ν⟩) (pile.length+1) bM))/\aj (u.setCell ⟨j,2,ν⟩ (ς (ο ⟨g9,0,ν⟩) (pile.length+1) bM)) q #[π (ο ⟨j,0,ν⟩)] 263/\aj (u.setCell ⟨j,2,ν⟩ (ς (ο ⟨g9,0,ν⟩) (pile.length+1) bM)) (q+1) #[ι ξ nd.sym,ι ξ nd.prod,ς C nd.kids.length L,ι ξ nd.fr,ι ξ nd.wd] 257/\∃vp,dw B j rb (ς (ο ⟨M,0,ν⟩) ms.length nc) Bc vp Bd (pile++[-1]) (l++[40]++s.data.toList) (u.setCell ⟨j,2,ν⟩ (ς (ο ⟨g9,0,ν⟩) (pile.length+1) bM)))):=fun g9 bM u ho hg=>by
    have G7:dw B j rb (ς (ο ⟨M,0,ν⟩) ms.length nc) Bc (ς pa pile.length pc) Bd pile (l++[40]++s.data.toList) y.drew:=I.keep ⟨rfl,rfl,rfl,zL0,fun _ _=>rfl⟩;obtain⟨h9,d9,f9,uz⟩:=G7.push hg ho;have r:∀k cs t,aj y k cs t->t≠3->u.heap[k]?=y.heap[k]?:=fun k cs t m ht=>uz.block k m.lt fun e=>by
     obtain⟨aE,hc⟩:=bJ I.rp e.symm;unfold aj at m;rw[m]at hc;cases hc;exact ht rfl
    have qx:aj u q _ 263:=(r _ _ _ lJ (by decide)).trans lJ;have bd:aj u (q+1) _ 257:=(r _ _ _ A9 (by decide)).trans A9;refine⟨qx.cell 0,d9,f9,?_,(aY _ _ (by omega)).trans qx,(aY _ _ (by omega)).trans bd,_,h9⟩;exact AS (p:=⟨j,2,ν⟩) ⟨uz.os.trans nD.os,uz.tape.trans nD.tape,uz.output.trans nD.output,cY nD.size uz.size,fun k m=>(uz.block k (show k<y.heap.size by omega) (fun e=>by have:=(I.rp.lt k e.symm).1;omega)).trans (nD.block k m)⟩ I.hB _
   clear lJ A9 I hw ac m ap an ae ab HN nD;refine pn.2 (aaj ?_)
   go_region_law (refine step_append_lies _ rfl (.tmp 50) (.tmp 51) 47 rfl B 3 i0 _ 1 8 Tryz.DV ar ai aq am rfl (by decide) (ς pa pile.length pc) pile.length (pile.map dI) (by simp[Act.eval]) o6 ⟨y.heap.size,0,ν⟩ 1 1 [ι ξ (-1)] (by simp[Act.eval]) rfl (bQ (aj.new y.drew _ 3)) (by simp[Value.oneCell']) (by decide) (by unfold maxLen;omega) (by omega) bh _ rfl ?_;intro g9 bM u jE iC iY Co;obtain⟨e9,d9,f9,h9⟩:=H7.out g9 bM u jE iC;clear H7 jE iC iY Co)
   all_goals
    refine ao _ _ (Met.intro (hJ _ _ ?_))
    repeat apply B6
    refine⟨h9,rfl⟩
  case rest=>
   revert wc;intro w6 G;obtain⟨WU,qR,mI,aP,h6⟩:=G.out;clear G lJ A9 I nD ae ab HN;have m2:=mI.a2;obtain⟨V,Lm⟩:=aF w6.heap.size;obtain⟨w7,U⟩:=aC (w6.alloc (ζ #[ς C nd.kids.length L] 47));have Vh:=YM (w:=w6) (a:=C) (n:=nd.kids.length) (c:=L);rw[Lm,<-U]at Vh
   let zs:Nat->List Int:=fun i=>pile++[-1]++((nI nd.kids).take i).map fun x=>(x.2:Int)
   have fG:φ w6.heap.size w6 w7:=by rw[U];exact(cV _ _).alloc (zL0) _
   have bu:q+1<V:=by rw[<-Lm];exact mI.lt
   have LK:B<=V:=by rw[<-Lm];exact cY N WU.size
   have h0:EP W B j rb q V (ς (ο ⟨M,0,ν⟩) ms.length nc) Bc Bd (ς C nd.kids.length L) zs (l++[40]++s.data.toList) 0 (fun _=>False) w7 :=
    ⟨WU.trans (fG.mono (by omega)),⟨aP,by simp only[zs,List.take_zero,List.map_nil,List.append_nil];exact h6.keep fG,fun g _ hz=>hz⟩,fun g _ hz=>hz,(fG.block q qR.lt).trans qR,by rw[U,<-Lm];exact aj.new ..,fun k m=>m.elim⟩
   have ag:=aaJ (bx:=V) (c:=L) (a:=C) (ks:=nd.kids) (by omega);have eT:∀i Z W',EP W B j rb q V (ς (ο ⟨M,0,ν⟩) ms.length nc) Bc Bd (ς C nd.kids.length L) zs (l++[40]++s.data.toList) i Z W'->aj W' V #[ς C nd.kids.length L] 47/\nG W' C nd.kids:=fun i Z W' h=>⟨h.kx,HK.out W' h.b⟩
   have HZ:Hid (∀i x,(nI nd.kids)[i]?=ο x->zs (i+1)=zs i++[(x.2:Int)]/\(zs i).length=pile.length+1+i/\i<nd.kids.length):=fun i x hx=>by
    have hi:=(cH.1 hx).1;refine⟨?_,?_,by rw[<-Tw];exact hi⟩
    ·simp only[zs];rw[ki,hx,ee,<-dy];rfl
    ·simp only[zs];rw[cJ,cJ,dk,fR];simp only[List.length_singleton];omega
   have HL:Hid (zs (nI nd.kids).length=pile++[-1]++nd.kids.reverse.map fun(x:Nat)=>(x:Int)):=by
    show pile++[-1]++((nI nd.kids).take (nI nd.kids).length).map (fun x=>(x.2:Int))=_;rw[ff,<-aby,pj];rfl
   clear_value zs
   clear qR mI h6 WU fG
   gi_upto_region 7 with fail
   gi_wp2_with (refine⟨trivial,?_⟩;gi_at_call 110;refine(gh.2 Vh).mono ?_;rintro e w'⟨rfl,rfl⟩)
   rw[<-U];clear U Vh m2;refine BF (gf:=163) (lb:=#[π (ο ⟨V,0,ν⟩)]) rfl (enters_of func163 (by kernel_rfl) rfl) ag (fun _=>rfl) (EP W B j rb q V (ς (ο ⟨M,0,ν⟩) ms.length nc) Bc Bd (ς C nd.kids.length L) zs (l++[40]++s.data.toList)) (EP.oD (by omega) (by omega) LK) eT h0
    (fun x a' W=>a'={ tmps:=#[π (ο ⟨j,0,ν⟩),ι ξ (k:Int),π (ο ⟨q,0,ν⟩),undef,π (ο ⟨q+1,0,ν⟩),u5,ι ξ (x.2:Int),u7,u8,u9,u10,u11,u12,u13,u14,u15,u16,u17,u18,u19,u20,u21,u22,u23,u24,u25,u26,u27,u28,u29,u30,u31,u32,u33,u34,u35,u36,u37,u38,u39,u40,u41,u42,u43,u44,u45,u46,u47,u48,u49,u50,u51,u52,u53,u54,π (ο ⟨q+1,2,ν⟩),ς C nd.kids.length L,.func (.func 163) #[] #[π (ο ⟨V,0,ν⟩)],ι ξ (x.1:Int),ι ξ (x.2:Int),u60,u61,u62,u63,u64,u65,u66,u67,u68,u69],defers:=[] }) ?hAx ?assign ?body ?done
   case hAx=>exact fun _ _ _ _ h=>h
   case assign=>
    rintro l' i x Z W K hsz hi hK;simp only[O7]
    gi_wp2
    exact hK _ _ (zL0) (fun _ _ _=>rfl) hi rfl
   case body=>
    rintro l' i x Z a' z hx⟨f1,⟨aw,E,Ig⟩,f4,f5,f6,Y⟩rfl;obtain⟨va,vc,bg,-⟩:=aB E.rp;subst bg;obtain⟨z1,z2,z3⟩:=HZ.out i x hx;have p0:=f5.a0;have x2:=E.blk.a2;have aH:(z.alloc (ζ #[ι ξ (x.2:Int)] 3)).cell? ⟨q,0,ν⟩=ο (π (ο ⟨j,0,ν⟩)):=(f5.alloc _).cell 0;have aA:(z.alloc (ζ #[ι ξ (x.2:Int)] 3)).cell? ⟨j,2,ν⟩=ο (ς va (zs i).length vc):=(E.blk.alloc _).cell 2;have bt:=f6.lt;have bm:(zs i).length<=1000000000:=by omega
    obtain⟨v9,u,zI,kI,uz,-,iY⟩:=run_append_own_at (P:=prog) (z.drew.alloc (ζ #[ι ξ (x.2:Int)] 3)) B 47 47 3 i0 _ 1 8 Tryz.DV ar ai aq am rfl (by decide) (ς va (zs i).length vc) (zs i).length ((zs i).map dI) ((show z.drew.ownsRow B 3 1 (ς va (zs i).length vc) (zs i).length ((zs i).map dI) from E.rp).alloc _) ⟨z.heap.size,0,ν⟩ 1 1 [ι ξ (x.2:Int)] rfl (bQ (aj.new z.drew _ 3)) (by simp[Value.oneCell']) (by unfold maxLen;omega) (by omega) (by rw[eC];show B<=z.heap.size+1;omega);obtain⟨oa,oc,LV,-⟩:=aB kI;subst LV;have az:dw B j rb (ς (ο ⟨M,0,ν⟩) ms.length nc) Bc (ς va (zs i).length vc) Bd (zs i) (l++[40]++s.data.toList) z.drew:=E.keep ⟨rfl,rfl,rfl,zL0,fun _ _=>rfl⟩;obtain⟨h9,d9,e9,A⟩:=az.push uz kI;have r:∀k cs t,aj z k cs t->t≠3->u.heap[k]?=z.heap[k]?:=fun k cs t m ht=>A.block k m.lt fun e=>by
     obtain⟨aE,hc⟩:=bJ E.rp e.symm;unfold aj at m;rw[m]at hc;cases hc;exact ht rfl
    have Ih:aj u q _ 263:=(r _ _ _ f5 (by decide)).trans f5;have av:aj u V _ 47:=(r _ _ _ f6 (by decide)).trans f6;have c9:=Ih.a0;have HF:Hid (∀a,tq Z (EP W B j rb q V (ς (ο ⟨M,0,ν⟩) ms.length nc) Bc Bd (ς C nd.kids.length L) zs (l++[40]++s.data.toList) (i+1) Z) z .normal a (u.setCell ⟨j,2,ν⟩ (ς oa ((zs i).length+1) oc))):=fun a=>by
     have Kg:∀k,Z k->u.heap[k]?=z.heap[k]?:=fun k m=>A.block k (Y k m).2 fun e=>Ig k e.symm m
     refine⟨⟨?_,⟨_,by rw[z1];exact h9,fun g e hz=>?_⟩,f4,(aY _ _ (by omega)).trans Ih,(aY _ _ (by omega)).trans av,fun k m=>⟨(Y k m).1,?_⟩⟩,fun k m ap=>(aY _ _ (by have:=(Y k m).1;omega)).trans (Kg k m)⟩
     ·exact AS (p:=⟨j,2,ν⟩) ⟨A.os.trans f1.os,A.tape.trans f1.tape,A.output.trans f1.output,cY f1.size A.size,fun k m=>(A.block k (show k<z.heap.size by omega) (fun e=>by have:=(E.rp.lt k e.symm).1;omega)).trans (f1.block k m)⟩ E.hB _
     ·rcases iY with I | I
      ·exact Ig g (I▸e) hz
      ·rw[I]at e
       have e3:=fL e;have:=(Y _ hz).2;rw[eC]at e3;have e4:z.drew.heap.size=z.heap.size:=rfl;omega
     ·have br:=(Y k m).2
      have bv:z.heap.size<=u.heap.size:=A.size;simpa using (by omega:k<u.heap.size)
    clear f1 f4 f5 f6 Y E az h9 Ig A r Ih av uz kI iY ag h0 HZ HL eT HK z1 z2 z3 hw ac m;have bf:prog.follows .mixedOrders=η:=by kernel_rfl
    gi_upto_region 9 with fail
    refine wpIn_region_any bf (Je rfl (by kernel_rfl) l' _ _ _ _ ?_)
    change wpAnyIn _ _ _ _ _ _ _ _ _ (World.drew _)
    refine wpAnyIn_take (i:=5) (v:=ι ξ (x.2:Int)) rfl rfl (by kernel_rfl) (by kernel_rfl) (by kernel_rfl) (fun _ _ _ h=>h) ⟨rg ⟨by rfl,fun w=>by go_simp⟩,fun _=>rfl⟩ ?_
    repeat' (first
     | (refine wpAnyIn_done (by decide +kernel) ?_ _;simp only[Exit.inBlock];exact HF.out _)
     | (refine iW 7 (by decide +kernel) rfl fun f d=>?_;refine Na rfl (.tmp 64) (.tmp 66) 47 47 rfl _ _ rfl rfl _ _ zI ?_;refine d _ _ ?_;clear d f)
     | (refine jQ 0 7 (by decide +kernel) rfl rfl (fun f d=>?_) fun f d=>?_ <;> first | (refine Na rfl (.tmp 64) (.tmp 66) 47 47 rfl _ _ rfl rfl _ _ zI ?_;refine d _ _ ?_;clear d f) | (go_simp;refine d _ _ ?_;clear d f))
     | ((first
      | refine iW 8 (by decide +kernel) rfl fun f d=>?_
      | refine iW 9 (by decide +kernel) rfl fun f d=>?_
      | refine iW 10 (by decide +kernel) rfl fun f d=>?_
      | refine Gm 0 1 6 (by decide +kernel) rfl rfl rfl (fun f d=>?_) (fun f d=>?_) fun f d=>?_
      | refine Gm 0 2 6 (by decide +kernel) rfl rfl rfl (fun f d=>?_) (fun f d=>?_) fun f d=>?_
      | refine Gm 0 3 6 (by decide +kernel) rfl rfl rfl (fun f d=>?_) (fun f d=>?_) fun f d=>?_
      | refine Gm 0 4 6 (by decide +kernel) rfl rfl rfl (fun f d=>?_) (fun f d=>?_) fun f d=>?_
      | refine jQ 1 6 (by decide +kernel) rfl rfl (fun f d=>?_) fun f d=>?_
      | refine jQ 2 6 (by decide +kernel) rfl rfl (fun f d=>?_) fun f d=>?_
      | refine jQ 3 6 (by decide +kernel) rfl rfl (fun f d=>?_) fun f d=>?_
      | refine jQ 4 6 (by decide +kernel) rfl rfl (fun f d=>?_) fun f d=>?_
      | refine jQ 0 1 (by decide +kernel) rfl rfl (fun f d=>?_) fun f d=>?_
      | refine jQ 0 2 (by decide +kernel) rfl rfl (fun f d=>?_) fun f d=>?_
      | refine jQ 0 3 (by decide +kernel) rfl rfl (fun f d=>?_) fun f d=>?_
      | refine jQ 0 4 (by decide +kernel) rfl rfl (fun f d=>?_) fun f d=>?_
      | refine jQ 0 6 (by decide +kernel) rfl rfl (fun f d=>?_) fun f d=>?_
      | refine iW 6 (by decide +kernel) rfl fun f d=>?_
      | refine iW 4 (by decide +kernel) rfl fun f d=>?_
      | refine iW 3 (by decide +kernel) rfl fun f d=>?_
      | refine iW 2 (by decide +kernel) rfl fun f d=>?_
      | refine iW 1 (by decide +kernel) rfl fun f d=>?_
      | refine iW 0 (by decide +kernel) rfl fun f d=>?_) <;> (go_simp;refine d _ _ ?_;clear d f)))
   case done=>
    rintro D Z z hD oF⟨f1,⟨aw,E,Ig⟩,f4,f5,f6,Y⟩hK;rw[HL.out]at E;have HR:Hid (∀o,φ B W (z.putObj D o)/\∃pt vp vt,dw B j rb (ς (ο ⟨M,0,ν⟩) ms.length nc) pt vp vt (pile++[-1]++nd.kids.reverse.map fun(x:Nat)=>(x:Int)) (l++[40]++s.data.toList) (z.putObj D o)):=fun o=>by
     have bj:=(Y D oF).1;have r:∀k,k≠D->(z.putObj D o).heap[k]?=z.heap[k]?:=fun k m=>World.putObj_heap_other m
     refine⟨⟨f1.os,f1.tape,f1.output,by simpa [World.putObj]using f1.size,fun k m=>(r k (by omega)).trans (f1.block k m)⟩,Bc,aw,Bd,(r j (by omega)).trans E.blk,ay E.rp fun g e=>r g fun e2=>Ig g e (e2▸oF),ay E.rt fun g e=>r g fun e2=>f4 g e (e2▸oF),E.self,E.hB⟩
    clear f1 E Ig f4 f5 f6 Y
    gi_wp2
    refine⟨by simp,.inl ⟨_,_,rfl,run_takeDeferred hK,?_⟩⟩;exact⟨_,po rfl _ _ _,⟨_,rfl⟩,HR.out _⟩
end
def jK(p:Pk.T)(s:Int):List UInt8:=(Pk.mh p.toks s).data.toList
def iN(p:Pk.T)(s:Int):List UInt8:=(nameOf p s).data.toList
theorem aiG{d:Nat}{ms:List Cm.Nk}{nd:Cm.Nk}{r t:υ}{p:Pk.T}{l:List UInt8}(j:B=w0.heap.size)(m:Hid (∀W,φ B w0 W->qp W rb pb b mv B' v p))(i:Hid (∀W,φ B w0 W->mU B W na ms))(q:∀n∈ms,(-1000000000<=n.sym/\n.sym<=1000000000)/\n.kids.length<=1000000)(a:∀s,(Pk.mh p.toks s).size<=1000000)(f:∀s,(nameOf p s).size<=1000000)(c:p.toks.length<=100000)(g:φ B w0 W)(h:dw B d rb (ς na ms.length nc) r vp t pile l W)(hk:ms[k]?=ο nd)(u:l.length<=10000000)(o:pile.length<=10000000):χ prog 53 #[π (ο ⟨d,0,ν⟩),ι ξ (k:Int)] W (Ib B d rb (ς na ms.length nc) (pile++Cm.qw nd) (l++Cm.zL (jK p) (iN p) nd) W):=by
 have h1:=a nd.sym;have h2:=f nd.sym;obtain⟨h3,h4⟩:=q nd (cM hk);unfold Cm.qw Cm.zL
 by_cases hp:nd.prod<0
 ·rw[du hp,du hp,fW]
  exact ahv j g m i h hk hp (by omega)
 ·rw[dt hp,dt hp]
  have:=agz j g m i h hk (by omega) (by omega) h3 c (by omega);rw[dy,dy]at this;exact this
structure Qt(w0:ω)(B wb rb:Nat)(nval:υ)(ms:List Cm.Nk)(tk nm:Int->List UInt8)(tot:List UInt8)(R:Nat)(pile:List Int)(l:List UInt8)(W:ω):Prop where
 b:φ B w0 W
 m:∃pt vp vt,dw B wb rb nval pt vp vt pile l W
 eq:l++Cm.zw tk nm ms pile=tot
 lt:∀x∈pile,x=-1\/(0<=x/\x.toNat<ms.length)
 ne:l≠[]
 rn:Cm.oI ms pile<=R
section
variable{tk nm:Int -> List UInt8}{ms:List Cm.Nk}
theorem ajS(pile:List Int)(x:Int):Cm.zw tk nm ms (pile++[x])=Cm.Ie tk nm ms x++Cm.zw tk nm ms pile:=by
 unfold Cm.zw;rw[tS,BW,th,eS]
theorem ajT(a b:List Int):Cm.zw tk nm ms (a++b)=Cm.zw tk nm ms b++Cm.zw tk nm ms a:=by
 unfold Cm.zw;rw[tS,ik]
theorem abL(pile:List Int)(x:Int):Cm.oI ms (pile++[x])=Cm.oI ms pile+if x=-1 then 1 else Cm.rn ms x.toNat:=by
 rw[Cm.TF];unfold Cm.oI;simp
end
theorem acL{ms:List Cm.Nk}(c:Cm.eX ms){n:Cm.Nk}(b:ms[k]?=ο n):∀x∈Cm.qw n,x=-1\/(0<=x/\x.toNat<ms.length):=by
 intro x a;unfold Cm.qw at a
 split at a
 ·cases a
 ·rcases fh.1 a with rfl | a
  ·exact .inl rfl
  ·obtain⟨y,d,rfl⟩:=fk.1 a
   have f:=(cH.1 b).1;have:=c k y (by rw[di,b];exact zd.1 d);exact .inr ⟨by omega,by omega⟩
theorem dw.pop{d:Nat}{b g:υ}{l:List UInt8}(h:dw B d rb b g (ς a pile.length c) f pile l W)(i:rest+1=pile.length)(j:pile[rest]?=ο x):dw B d rb b g (ς a rest c) f (pile.take rest) l (W.setCell ⟨d,2,ν⟩ (ς a rest c))/\pile=pile.take rest++[x]:=by
 constructor
 ·have:=Si h.rp (m:=rest) (by omega) (by omega)
  rw[j9]at this;exact(h.Ct (iJ:=pile.take rest) ⟨rfl,rfl,rfl,zL0,fun _ _ _=>rfl⟩ (by rw[uk,fR,qt (by omega)];exact this)).1
 ·have e:=lj rest pile
  rw[eN (by omega),show rest+1=pile.length from i,im]at e;rw[(cH.1 j).2]at e;exact e.symm
theorem ajU{ns:List Cm.Nk}{p:Pk.T}(N:N0=w0.heap.size)(hw:φ N0 w0 w)(HR:Hid (∀W,φ N0 w0 W->qp W rb pb b mv B' v p))(HN:Hid (∀W,φ N0 w0 W->mU N0 W na ns))(hl:ns.length<=100000)(hs:∀n∈ns,-1000000000<=n.sym/\n.sym<=1000000000)(S:p.toks.length<=100000)(hO:Cm.eX ns)(hW:∀n∈ns,(n.kids.map (Cm.wt ns (bO (fP (hlp p) ns 0)))).sum<=100000000)(ae:∀s,(Pk.mh p.toks s).size<=1000000)(ac:∀s,(nameOf p s).size<=1000000){ms:List Cm.Nk}(af:l8 ns (fP (hlp p) ns 0) ns.length=ms)(aa:∀n∈ms,(-1000000000<=n.sym/\n.sym<=1000000000)/\n.kids.length<=1000000)(ah:Cm.eX ms)(R:ms.length<=100000){nd:Cm.Nk}(g:ms[ms.length-1]?=ο nd)(I:0<=nd.prod)(hR:Cm.rn ms (ms.length-1)<=1000000)(hT:(Cm.tx (jK p) (iN p) ms (ms.length-1)).length<=1000000):χ prog 25 #[π (ο ⟨rb,0,ν⟩),ς na ns.length nc] w fun e w'=>e=δ (τ ⟨(Cm.tx (jK p) (iN p) ms (ms.length-1)).toArray⟩)/\φ w.heap.size w w':=by
 have Ii:=ajR (nc:=nc) N hw HR HN hl hs S hO hW;rw[af]at Ii;have WV:N0<=w.heap.size:=by rw[N];exact hw.size
 have P:0<ms.length:=by have:=(cH.1 g).1;omega
 obtain⟨T,X⟩:=aF (Cm.tx (jK p) (iN p) ms (ms.length-1));have HT:Hid (Cm.tx (jK p) (iN p) ms (ms.length-1)=T):=X;rw[X]at hT|-;have HG:Hid (∀(w1:ω)(d:Option Addr)(o:Nat),φ w.heap.size w w1->mU w1.heap.size w1 d ms->∀(W:ω)(wb:Nat)(J vp H:υ)(a:List Int)(l:List UInt8)(k:Nat)(n:Cm.Nk),φ w1.heap.size w1 W->dw w1.heap.size wb rb (ς d ms.length o) J vp H a l W->ms[k]?=ο n->l.length<=10000000->a.length<=10000000->χ prog 53 #[π (ο ⟨wb,0,ν⟩),ι ξ (k:Int)] W (Ib w1.heap.size wb rb (ς d ms.length o) (a++Cm.qw n) (l++Cm.zL (jK p) (iN p) n) W)):=fun w1 d o t z W wb J vp H a l k n E h hk h1 h2=>by
  have H1:Hid (∀K,φ w1.heap.size w1 K->qp K rb pb b mv B' v p):=fun K U=>HR.out K (hw.trans ((t.mono WV).trans (U.mono (cY WV t.size))))
  have H2:Hid (∀K,φ w1.heap.size w1 K->mU w1.heap.size K d ms):=fun K U=>z.move U
  exact aiG (B:=w1.heap.size) (w0:=w1) (na:=d) (nc:=o) (b:=b) (mv:=mv) (v:=v) (p:=p) (pb:=pb) (B':=B') rfl H1 H2 aa ae ac S E h hk h1 h2
 have HO:Hid (Cm.eX ms):=ah;have HX:Hid (ms[ms.length-1]?=ο nd/\Cm.rn ms (ms.length-1)<=1000000/\T.length<=1000000/\0<=nd.prod/\ms.length<=100000/\0<ms.length):=⟨g,hR,hT,I,R,P⟩;clear HR HN hs hO hW ae ac aa af ah X hw N g hR hT I R P hl S WV;go_enter func25,ntmps25;go_upto_region 2 with (go_at_call 51;refine Ii.mono ?_;rintro e w1⟨d,o,rfl,z,t⟩)
 obtain⟨B,hB⟩:=aF w1.heap.size;obtain⟨w2,F⟩:=aC (w1.alloc (ζ #[π (ο ⟨rb,0,ν⟩),ς d ms.length o,ς ν 0 0,π ν,ς ν 0 0] 164));have h2:dw B B rb (ς d ms.length o) (π ν) (ς ν 0 0) (ς ν 0 0) [] [] w2:=⟨by rw[F,<-hB];exact aj.new ..,eV _ _ _ _,eV _ _ _ _,.inl rfl,zL0⟩;have D:φ B w1 w2:=by rw[F,<-hB];exact(cV _ _).alloc (zL0) _
 have HB:Hid (∀(W:ω)(J vp H:υ)(a:List Int)(l:List UInt8)(k:Nat)(n:Cm.Nk),φ B w1 W->dw B B rb (ς d ms.length o) J vp H a l W->ms[k]?=ο n->l.length<=10000000->a.length<=10000000->χ prog 53 #[π (ο ⟨B,0,ν⟩),ι ξ (k:Int)] W (Ib B B rb (ς d ms.length o) (a++Cm.qw n) (l++Cm.zL (jK p) (iN p) n) W)):=by
  have:=HG.out w1 d o t z;rw[hB]at this;exact fun W=>this W B
 have HE:Hid (∀W,φ B w1 W->φ w.heap.size w W):=fun W h=>t.trans (h.mono (by rw[<-hB];exact t.size))
 have HS:Hid (∀W,φ B w1 W->B<=W.heap.size):=fun W h=>by rw[<-hB];exact h.size
 obtain⟨g,hR,hT,I,R,P⟩:=HX.out;obtain⟨m1,aE⟩:∃m,m+1=ms.length:=⟨ms.length-1,by omega⟩;have ai:ms.length-1=m1:=by omega
 rw[ai]at g hR HT;have q:ms.getD m1 Cm.dJ=nd:=by rw[di,g];rfl
 have H0:Hid (∀W v3,Ib B B rb (ς d ms.length o) ([]++Cm.qw nd) ([]++Cm.zL (jK p) (iN p) nd) w2 (δ v3) W->Qt w1 B B rb (ς d ms.length o) ms (jK p) (iN p) T 1000000 (Cm.qw nd) (Cm.zL (jK p) (iN p) nd) W):=fun W _ hE=>by
  obtain⟨-,E,G⟩:=hE;refine⟨D.trans E,G,(Cm.adB HO.out q).trans HT.out,acL HO.out g,?_,by have:=Cm.adD HO.out q;omega⟩;unfold Cm.zL;rw[dt (by omega)];exact List.cons_ne_nil _ _
 have LW:=HB.out w2 _ _ _ [] [] m1 nd D h2 g (by simp) (by simp);have c1:=h2.blk.a1;have e0:((ms.length:Int) == 0)=ε:=zB0 (by omega);have e1:(ms.length:Int) - 1=(m1:Int):=by omega
 have e2:¬ms.length=0:=by omega
 have av:m1<=100000:=by omega
 rw[<-F];clear F h2 D HG z t Ii HX g hR I q ai HT;go_upto_region 5 with (go_at_call 53;refine LW.mono ?_;rintro e w3 hE;obtain⟨⟨v3,rfl⟩,-⟩:=id hE)
 have h0:=H0.out w3 v3 hE;clear H0 hE LW c1 e0 e1 e2
 go_loopg [] (Cm.oI ms (Cm.qw nd)) (fun m wr=>∃(a:List Int)(l:List UInt8),Hid (m=Cm.oI ms a/\Qt w1 B B rb (ς d ms.length o) ms (jK p) (iN p) T 1000000 a l wr))
 case atStart=>exact⟨_,_,rfl,h0⟩
 case round=>
  clear h0;obtain⟨a,l,HI⟩:=hrel;obtain⟨G,A⟩:=HI.out;clear HI;obtain⟨J,vp,H,h⟩:=A.m;obtain⟨pa,pc,ao,-⟩:=aB h.rp;subst ao;have f:=A.eq;have a9:l.length<=1000000:=by
   have:=fd List.length f;rw[cJ]at this;omega
  have ax:=cY (Cm.abK a) A.rn;have c2:=h.blk.a2
  by_cases h0:a.length=0
  ·have EN:=ahu h A.ne (by omega)
   have ag:l=T:=by
    rw[<-f,so.1 h0];exact(fW _).symm
   rw[ag]at EN;have HF:Hid (∀W,φ B wr W->φ w.heap.size w W):=fun W E=>HE.out W (A.b.trans E)
   have aA:(a.length:Int)=0:=by omega
   clear h A f G HB HE HS ag
   go_wp2_with (go_at_call 55;refine EN.mono ?_;rintro e w4⟨rfl,i⟩)
   go_ret;exact⟨rfl,HF.out w4 i⟩
  ·obtain⟨c,hr⟩:∃r,r+1=a.length:=⟨a.length-1,by omega⟩
   obtain⟨x,hx⟩:∃x,a[c]?=ο x:=⟨_,cG (by omega)⟩;obtain⟨h4,Y⟩:=h.pop hr hx;obtain⟨gp,gc,am,ad⟩:=jC h.rp (j:=c) (u:=dI x) (by rw[dj,hx];rfl);have ck:wr.cell? ⟨gp,c,ν⟩=ο (ι ξ x):=ad _ _ (by rw[dj,hx];rfl);have ar:=DK h.rp;cases am;have f2:=h.blk.frozen 2;have ab:=A.lt x (cM hx);have e1:(a.length:Int) - 1=(c:Int):=by omega
   have p0:(0:Int)<(a.length:Int):=by omega
   have b0:=ge p0;have p1:(0:Int)<=(c:Int):=by omega
   have p2:(c:Int)<(a.length:Int):=by omega
   have p3:(c:Int)<=(pc:Int):=by omega
   have p4:¬pc=0:=by omega
   have zI:c<=1000000:=by omega
   have i:φ B w1 (wr.setCell ⟨B,2,ν⟩ (ς (ο ⟨gp,0,ν⟩) c pc)):=A.b.setCell (p:=⟨B,2,ν⟩) (zL0) _;have V:=HS.out _ i;rw[Y]at f G;rw[ajS]at f;rw[abL]at G;have C:=A.rn;rw[Y,abL]at C;have xL:∀y∈a.take c,y=-1\/(0<=y/\y.toNat<ms.length):=fun y Q=>A.lt y (mw Q)
   have az:=A.ne;obtain⟨w4,L⟩:=aC (wr.setCell ⟨B,2,ν⟩ (ς (ο ⟨gp,0,ν⟩) c pc));rw[<-L]at h4 i V;clear h A hx ad Y;go_upto_region 8 with fail
   rw[<-L];clear L ck f2 c2
   by_cases hx1:x=-1
   ·subst hx1
    have uw:=Rw h4 41 (by omega) V;have HF:Hid (∀W,φ B w4 W->(∃J H,dw B B rb (ς d ms.length o) J (ς (ο ⟨gp,0,ν⟩) c pc) H (a.take c) (l++[41]) W)->Qt w1 B B rb (ς d ms.length o) ms (jK p) (iN p) T 1000000 (a.take c) (l++[41]) W/\Cm.oI ms (a.take c)<gk):=fun W E O=>by
     obtain⟨ap,LG,h'⟩:=O;rw[du rfl]at G C;refine⟨⟨i.trans E,⟨_,_,_,h'⟩,?_,xL,by simp,by omega⟩,by omega⟩;rw[dy];exact f
    clear h4 i f G C xL HB HE HS
    go_wp2_with (go_at_call 54;refine uw.mono ?_;rintro e w5⟨⟨v5,rfl⟩,Z,-,jS⟩;obtain⟨h5,Gx⟩:=HF.out w5 Z jS)
    go_roundg (Cm.oI ms (a.take c))
    case measure=>exact Gx
    case rel=>exact⟨_,_,rfl,h5⟩
   ·obtain⟨ak,an⟩:=ab.resolve_left hx1
    obtain⟨k,hk⟩:∃k:Nat,(k:Int)=x:=⟨x.toNat,by omega⟩;have M:x.toNat=k:=by omega
    obtain⟨n,hn⟩:∃n,ms[k]?=ο n:=⟨_,cG (by omega)⟩;have q:ms.getD k Cm.dJ=n:=by rw[di,hn];rfl
    have uw:=Rw h4 32 (by omega) V;have z:¬(k:Int)=-1:=by omega
    have bk:=ej.2 z;have HF:Hid (∀W,φ B w4 W->(∃J H,dw B B rb (ς d ms.length o) J (ς (ο ⟨gp,0,ν⟩) c pc) H (a.take c) (l++[32]) W)->χ prog 53 #[π (ο ⟨B,0,ν⟩),ι ξ (k:Int)] W fun e W2=>(∃v,e=δ v)/\Qt w1 B B rb (ς d ms.length o) ms (jK p) (iN p) T 1000000 (a.take c++Cm.qw n) (l++[32]++Cm.zL (jK p) (iN p) n) W2/\Cm.oI ms (a.take c++Cm.qw n)<gk):=fun W E O=>by
     obtain⟨ap,LG,h'⟩:=O;refine(HB.out W _ _ _ _ _ k n (i.trans E) h' hn (by rw[cJ];simp only[List.length_singleton];omega) (by rw[fR];omega)).mono ?_;rintro e W2⟨hv,D,al⟩;have aw:=Cm.adD HO.out q;rw[dt hx1,M]at G C;refine⟨hv,⟨(i.trans E).trans D,al,?_,fun y Q=>?_,by simp,by rw[Cm.TF];omega⟩,by rw[Cm.TF];omega⟩
     ·rw[ajT,<-f]
      unfold Cm.Ie;rw[dt hx1,M,<-Cm.adB HO.out q];simp
     ·rcases dq.1 Q with Q | Q
      ·exact xL y Q
      ·exact acL HO.out hn y Q
    rw[<-hk];clear h4 i f G C xL HB HE HS hx1 ab ak an hk M hn q
    go_wp2_with (first
     | (go_at_call 54;refine uw.mono ?_;rintro e w5⟨⟨v5,rfl⟩,Z,-,jS⟩;have LW:=HF.out w5 Z jS;clear uw HF)
     | (go_at_call 53;refine LW.mono ?_;rintro e w6⟨⟨v6,rfl⟩,h6,aq⟩;clear LW))
    go_roundg (Cm.oI ms (a.take c++Cm.qw n))
    case measure=>exact aq
    case rel=>exact⟨_,_,rfl,h6⟩

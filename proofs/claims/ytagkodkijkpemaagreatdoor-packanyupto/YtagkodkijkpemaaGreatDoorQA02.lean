import Derived.RangeFuncNested
import Derived.Sort.QuietIn
import Derived.Test.YtagkodkijkpemaaGreatDoorQA01
import Derived.Sort.CutIn
import Derived.Lib.AppendZerosOnto
set_option maxHeartbeats 8000000
set_option maxRecDepth 1000000
namespace Go.Proofs.YtagkodkijkpemaaGreatDoor
open Lx Go.Proofs.Tryz
open Go.RowKit Tr
theorem IJ{n m:Nat}{P:Program}{l:Nat}{f:FuncId}{tmps:Array Value}{assign body:Code}{w:World}{R:Ending->World->Prop}(h:RoundIn Fence.wide n P l f tmps assign body w R):RoundIn Fence.wide m P l f tmps assign body w R:=⟨h.1,fun c a _=>h.2 c a (room_wide _)⟩
structure xR(J:Nat->(Nat->Prop)->World->Prop):Prop where
 own:∀i Z A B row,J i Z A->A.grownBy B row->(∀r,row=some r->Z r)->J i Z B
 new:∀i Z A o,J i Z A->J i (fun k=>Z k\/k=A.heap.size) (A.alloc o)
theorem JA{J:Nat->(Nat->Prop)->World->Prop}{i:Nat}{Z a:Nat->Prop}{A:World}(h:J i Z A)(e:∀k,Z k↔a k):J i a A:=(show Z=a from funext fun k=>propext (e k))▸h
theorem xR.put{J:Nat->(Nat->Prop)->World->Prop}(h:xR J){i:Nat}{Z:Nat->Prop}{W:World}{l:Nat}(a:Obj)(c:J i Z W)(b:Z l):J i Z (W.putObj l a) :=
 h.own i Z W _ (some l) c (grownBy_putObj' W l a) (fun r e=>by cases e;exact b)
def Ah(P:Program)(g:Nat)(lb:Array Value){α:Type}(encs:α->Array Value)(xs:List α)(Rd:World->Prop):Prop :=
 ∀(l:Nat)(J:Nat->(Nat->Prop)->World->Prop)(W:World),xR J->(∀i Z W',J i Z W'->Rd W') ->
  (∀(i:Nat)(x:α)(Z:Nat->Prop)(W1:World),xs[i]?=some x->J i Z W1->YieldAt Fence.wide 9 P l (encs x) W1 fun e W'=>e=.returned (.bool true)/\J (i+1) Z W'/\∀k,Z k->k<W1.heap.size->W'.heap[k]?=W1.heap[k]?) ->
  J 0 (fun _=>False) W->Calls P g (#[.func (.yield l) #[] #[]]++lb) W fun e W'=>(∃v,e=.returned v)/\∃Z,J xs.length Z W'
def yR(Z:Nat->Prop)(I:World->Prop)(W:World):Exit->Act->World->Prop
 |.normal,_,W'=>I W'/\∀k,Z k->k<W.heap.size->W'.heap[k]?=W.heap[k]?
 |_,_,_=>False
theorem IC{P:Program}{α:Type}{g:Operand}{X:Array Tmp}{assign body:Code}{Q:Exit->Act->World->Prop}{a:Act}{w:World}{n:Nat}
  {gf:Nat} {lb:Array Value} (hg:a.eval g=.func (.func gf) #[] lb) (eg:∀args w,(callFunc gf args).run P w=.ok (.enter gf args) w)
  {d:α->Array Value} {xs:List α} {Rd:World->Prop} (R:Ah P gf lb d xs Rd) (ak:∀x,(d x).size=X.size)
  (I:Nat->(Nat->Prop)->World->Prop) (J:xR I) (hR:∀i Z W,I i Z W->Rd W) (h0:I 0 (fun _=>False) w)
  (Y:α->Act->World->Prop) (ab:∀(x:α)(a':Act)(A:World)(o':Obj),Y x a' A->Y x a' (A.putObj (w.heap.size+1) o'))
  (f:∀(l i:Nat)(x:α)(Z:Nat->Prop)(W:World)(K:Act->World->Prop),w.heap.size+2<=W.heap.size->I i Z W->(∀a' W',W.heap.size<=W'.heap.size->(∀k,Z k->k<W.heap.size->W'.heap[k]?=W.heap[k]?)->I i Z W'->Y x a' W'->K a' W')->assign.wpIn (Fence.wide.inRound l) 9 P (Exit.then K (fun _ _ _=>False)) { tmps:=(X.zip (d x)).foldl (fun t(p,v)=>t.setIfInBounds p v) a.tmps,defers:=[] } W)
  (C:∀(l i:Nat)(x:α)(Z:Nat->Prop)(a':Act)(W:World),xs[i]?=some x->I i Z W->Y x a' W->body.wpIn (Fence.wide.inRound l) 9 P (yR Z (I (i+1) Z) W) a' W)
  (y:∀(D:Nat)(Z:Nat->Prop)(W:World),w.heap.size<=D->Z D->I xs.length Z W->W.heap[D]?=some (.deferred (some []))->Q .normal { a with defers:={ target:=.collected D,args:=#[] }::a.defers } W) :
  (Code.rangeFunc g X assign body).wpIn Fence.wide n P Q a w:=by
 refine wpIn_rangeFunc ?_;intro fn ah;have hd:Fence.wide.round=none:=rfl;rw[hd];obtain⟨c,b⟩:∃c:LoopState->Option Code->Loop,c=fun st pe=>{ state:=st,pending:=pe,fn,tmps:=a.tmps,params:=X,assign,body,defers:=w.heap.size }:=⟨_,rfl⟩
 obtain⟨m,q⟩:∃m,(w.alloc (.deferred (some []))).alloc (.loop (c .ready none))=m:=⟨_,rfl⟩;have ag:m.heap[w.heap.size+1]?=some (.loop (c .ready none)):=by
  rw[<-q];have:=World.alloc_heap_new (w.alloc (.deferred (some []))) (.loop (c .ready none));rwa [fd]at this
 have aa:m.heap[w.heap.size]?=some (.deferred (some [])):=by
  rw[<-q];exact(dg _ _ _ (by simp)).trans (World.alloc_heap_new w _)
 have ad:I 0 (fun k=>False\/k=w.heap.size\/k=w.heap.size+1) m:=by
  have:=J.new _ _ _ (.loop (c .ready none)) (J.new _ _ _ (.deferred (some [])) h0);rw[q,fd]at this;exact JA this fun k=>or_assoc
 refine⟨w.heap.size+1,[{ target:=.collected w.heap.size,args:=#[] }],m,{ target:=.fn (.func gf) lb,args:=#[.func (.yield (w.heap.size+1)) #[] #[]] },m,gf,#[.func (.yield (w.heap.size+1)) #[] #[]]++lb,m,?_,?_,fun _ _=>trivial,?_,fun h=>(by cases h),?_⟩
 ·rw[<-q,b];exact run_enterLoop_outer _ _ _ _ _
 ·simp only[resolve,hg]
  simp[go_sem]
 ·simp[invoke,go_sem,eg]
 ·refine ij.2 ((R (w.heap.size+1) (fun i Z W=>I i (fun k=>Z k\/k=w.heap.size\/k=w.heap.size+1) W/\W.heap[w.heap.size+1]?=some (.loop (c .ready none))/\W.heap[w.heap.size]?=some (.deferred (some []))/\∀k,Z k->w.heap.size+2<=k) m ⟨fun s Z A B row hs U N=>?_,fun s Z A o hs=>?_⟩ (fun i Z W h=>hR i _ W h.1) ?_ ⟨ad,ag,aa,fun k h=>h.elim⟩).mono ?_)
  ·obtain⟨F,j,E,u⟩:=hs
   have l1:=(ek.1 j).1;have keep:∀k,k<w.heap.size+2->B.heap[k]?=A.heap[k]?:=fun k V=>U.block k (by omega) (fun e=>by have:=u k (N k e.symm);omega)
   exact⟨J.own s _ A B row F U (fun r e=>.inl (N r e)),(keep _ (by omega)).trans j,(keep _ (by omega)).trans E,u⟩
  ·obtain⟨F,j,E,u⟩:=hs
   have l1:=(ek.1 j).1;refine⟨?_,(dg _ _ _ l1).trans j,(dg _ _ _ (by omega)).trans E,fun k h=>?_⟩
   ·have:=J.new s _ A o F
    exact JA this fun k=>by grind
   ·rcases h with h | h
    ·exact u k h
    ·omega
  ·rintro i x Z W hx⟨hi,T,V,hz⟩
   have am:w.heap.size+1<W.heap.size:=(ek.1 T).1;have hy:=run_yield (P:=P) (args:=d x) T (by rw[b];exact ak x);rw[b]at hy;refine⟨fn,_,assign,body,hy,roundIn_of_wpIn ah (f _ i x _ W _ (by omega) hi ?_)⟩;clear hy;intro a' Wa an H ai al;have O:=(H _ (.inr (.inr rfl)) (by omega)).trans T;have ac:=(H _ (.inr (.inl rfl)) (by omega)).trans V;have z:∀o,(Wa.putObj (w.heap.size+1) o).heap.size=Wa.heap.size:=fun o=>by simp[World.putObj]
   refine⟨_,run_beginRound O (by rw[b]),?_⟩;refine wpIn_mono (C _ i x _ a' _ hx (J.put _ ai (.inr (.inr rfl))) (ab x a' _ _ al)) ?_;rintro e a3 W3 M;cases e with
   |normal=>
    obtain⟨af,G⟩:=M;have S:=(G _ (.inr (.inr rfl)) (by rw[z];omega)).trans (World.putObj_heap_same (ek.1 O).1);have N:=run_endRound (P:=P) none S;rw[b]at N;refine⟨_,_,N,rfl,⟨J.put _ af (.inr (.inr rfl)),?_,?_,hz⟩,fun k L ae=>?_⟩
    ·rw[World.putObj_heap_same (ek.1 S).1,b]
     rfl
    ·rw[World.putObj_heap_other (by omega),G _ (.inr (.inl rfl)) (by rw[z];omega),World.putObj_heap_other (by omega)]
     exact ac
    ·have:=hz k L
     rw[World.putObj_heap_other (by omega),G k (.inl L) (by rw[z];omega),World.putObj_heap_other (by omega),H k (.inl L) ae]
   |ret=>exact M.elim
   |exit id=>exact M.elim
   |goto t=>exact M.elim
   |panic ch=>exact M.elim
   |outgrown=>exact M.elim
  ·rintro e W2⟨⟨v,rfl⟩,Z,hi,T,V,hz⟩
   exact⟨none,_,by have:=run_endLoop (P:=P) T (by rw[b];simp);rw[b]at this;exact this,y _ _ _ (dy _) (.inr (.inl rfl)) (J.put _ hi (.inr (.inr rfl))) ((World.putObj_heap_other (by omega)).trans V)⟩
theorem xR.drew{J:Nat->(Nat->Prop)->World->Prop}(h:xR J){i:Nat}{Z:Nat->Prop}{W:World}(a:J i Z W)(n:Nat):J i Z (W.drewN n):=h.own i Z W _ none a ⟨rfl,rfl,rfl,dy _,fun _ _ _=>rfl⟩ fun r e=>(by cases e)
def Nn(ops:Array Oper):Bool:=ops.toList.all fun o=>match o.op with
 |.defer _=>false
 |_=>true
theorem ahj{a:Array Oper}(h:Nn a=true){i:Nat}{o:Oper}(ho:a[i]?=some o):∀c,o.op≠.defer c:=fun c e=>by
 have:=p7.1 h o (by rw[Array.mem_toList_iff];exact An ho);rw[e]at this;cases this
theorem Mg{F:Fence}{n:Nat}{P:Program}{md:Region.Mode}{b:Array Oper}{Q:Exit->Act->World->Prop}(c:F.round=none)(hd:Nn b=true)(l:Nat):∀(fuel:Nat)(listed:Array Bool)(a:Act)(w:World),wpAnyIn F n P md b Q fuel listed a w->wpAnyIn (F.inRound l) n P md b Q fuel listed a w
 |0,_,_,_,h=>h
 |fuel+1,listed,a,w,h=>by
  refine⟨h.1,fun i g=>?_⟩;have h1:=h.2 i g;have f:∀a w,wpAnyIn F n P md b Q fuel (listed.setIfInBounds i true) a w->wpAnyIn (F.inRound l) n P md b Q fuel (listed.setIfInBounds i true) a w:=Mg c hd l fuel _;have h2:=wpOpIn_mono f h1;clear h1 f;unfold wpOpIn at h2|-;cases ho:b[i]? with
  |none=>rw[ho]at h2;exact h2
  |some o=>
   rw[ho]at h2;simp only at h2|-
   split
   ·rename_i d
    rw[dj d]at h2;unfold Oper.wpIn at h2|-;refine⟨h2.1,?_⟩;have e:Oper.semAt (F.inRound l).round a.eval o=Oper.semAt F.round a.eval o:=by
     rw[c,Fence.inRound_round,pB l a.eval o (ahj hd ho)];rfl
    rw[e];exact h2.2
   ·rename_i d
    rw[dt d]at h2;exact h2
theorem Dq{n:Nat}{P:Program}{id l:Nat}{Q:Exit->Act->World->Prop}{a:Act}{w:World}{b:List Oper}(f:P.follows .mixedOrders=true)(d:Region.lexB .any b.toArray=true)(hd:Nn b.toArray=true)
  (h:wpQuietIn Fence.wide n P b.toArray (fun w'=>∃n,w'=w.drewN n) (fun a'=>∀w',(∃n,w'=w.drewN n)->Q .normal a' w') b a):(Code.region id b.toArray true).wpIn (Fence.wide.inRound l) n P Q a w:=by
 simp only[Region.lexB,Bool.and_eq_true]at d;refine wpIn_region_any f (Mg rfl hd l _ _ _ _ (wpAnyIn_of_quiet (C:=fun w'=>∃n,w'=w.drewN n) (Q:=fun a'=>∀w',(∃n,w'=w.drewN n)->Q .normal a' w') rfl (fun _ w' c h=>h w' c) _ _ _ _ ⟨1,rfl⟩ ?_));have:=wpAnyQIn_lex (F:=Fence.wide) (n:=n) (P:=P) (C:=fun w'=>∃n,w'=w.drewN n) (md:=.any) d.1 b 0 (Array.replicate b.toArray.size false) a (by simp) (by simpa using d.2) h;simpa using this
def oZ(ops:List Oper)(i:Nat):List Nat:=match ops[i]? with
 |some o=>(o.after.toList.filter fun e=>Region.binds .any e).map (·.on)
 |none=>[]
theorem mem_ready{a:List Oper}{L:Array Bool}{i:Nat}:i∈Region.ready .any a.toArray L↔i<a.length/\L.getD i true=false/\∀d∈oZ a i,L.getD d false=true:=by
 unfold Region.ready oZ;rw[hU,pM,ld];refine and_congr_right fun f=>?_
 simp only[List.getElem?_toArray,List.getElem?_eq_getElem f,Option.map_some,Option.getD_some,Bool.and_eq_true,Bool.not_eq_true',Array.all_eq_true_iff_forall_mem,Bool.or_eq_true,List.mem_map,List.mem_filter,Array.mem_toList_iff];refine and_congr_right fun _=>⟨?_,?_⟩
 ·rintro h d⟨e,⟨c,b⟩,rfl⟩
  rcases h e c with h1|h1
  ·rw[b]at h1;cases h1
  ·exact h1
 ·intro h e c
  cases b:Region.binds .any e with
  |false=>exact .inl rfl
  |true=>exact .inr (h _ ⟨e,⟨c,b⟩,rfl⟩)
def Np(ops:List Oper):Nat->List Nat->List Nat
 |0,l=>l
 |f+1,l=>Np ops f ((l++l.flatMap (oZ ops)).eraseDups)
theorem XV{b:List Oper}{L:Nat->Bool}{m:Nat}(k:∀i,i<m->L i=true->∀d∈oZ b i,L d=true)(c:∀i,i<m->∀d∈oZ b i,d<m):∀(f:Nat)(l:List Nat),(∀i∈l,i<m/\L i=true)->∀i∈Np b f l,i<m/\L i=true
 |0,_,h=>h
 |f+1,l,h=>XV k c f _ fun i a=>by
  rw[List.mem_eraseDups,cY,fW]at a;rcases a with a|⟨j,g,a⟩
  ·exact h i a
  ·exact⟨c j (h j g).1 i a,k j (h j g).1 (h j g).2 i a⟩
def splitB(pre rest:List Oper):Bool :=
 (List.range pre.length).all (fun i=>(oZ (pre++rest) i).all (fun d=>decide (d<i)) && (match ((pre++rest)[i]?).bind (·.guard) with
  | some (j,_)=>decide (j<pre.length)
  |none=>true)) &&
 (List.range pre.length).all (fun i=>(Np (pre++rest) pre.length (oZ (pre++rest) pre.length)).contains i) && (oZ (pre++rest) pre.length).all (fun d=>decide (d<pre.length)) &&
 (List.range rest.length).all (fun k=>k == 0 || (oZ (pre++rest) (pre.length+k)).any (fun d=>decide (pre.length<=d)))
structure ac3(pre rest:List Oper):Prop where
 less:∀i,i<pre.length->∀d∈oZ (pre++rest) i,d<i
 grd:∀i,i<pre.length->∀o,(pre++rest)[i]?=some o->∀j b,o.guard=some (j,b)->j<pre.length
 cov:∀i,i<pre.length->i∈Np (pre++rest) pre.length (oZ (pre++rest) pre.length)
 fst:∀d∈oZ (pre++rest) pre.length,d<pre.length
 bK:∀k,k<rest.length->k≠0->∃d∈oZ (pre++rest) (pre.length+k),pre.length<=d
theorem agn{a rest:List Oper}(h:splitB a rest=true):ac3 a rest:=by
 simp only[splitB,Bool.and_eq_true,List.all_eq_true,List.mem_range,decide_eq_true_eq,List.contains_iff_mem,Bool.or_eq_true,beq_iff_eq,List.any_eq_true]at h;obtain⟨⟨⟨h1,h2⟩,h3⟩,h4⟩:=h;refine⟨fun i c=>(h1 i c).1,fun i c o l j b g=>?_,h2,h3,fun k f d=>(h4 k f).resolve_left d⟩;have:=(h1 i c).2;rw[l]at this;simp only[Option.bind_some,g,decide_eq_true_eq]at this;exact this
theorem R5{a rest:List Oper}{i:Nat}(b:i<a.length):oZ a i=oZ (a++rest) i:=by
 unfold oZ;rw[eL b]
theorem aix{F:Fence}{n:Nat}{P:Program}{o:Oper}{a:Act}{K:Act->World->Prop}{Q g:Exit->Act->World->Prop}(c:∀e a w,e≠.normal->g e a w->Q e a w)(r:Result Next)(h:o.uponIn F n P a K g r):o.uponIn F n P a K Q r:=by
 have d:LetsOut g->LetsOut Q:=fun⟨a,w,h⟩=>⟨a,w,c _ _ _ (by simp) h⟩
 cases r with
 |ok x w' =>
  cases x <;> simp only[Oper.uponIn]at h|- <;>
   first
    | exact h
    | exact⟨h.1,CallsIn.mono h.2 (fun e f b=>by cases e <;> first | exact b | exact c _ _ _ (by simp) b | exact d b)⟩
    | exact⟨h.1,RoundIn.mono h.2 (fun e f b=>by cases e <;> first | exact b | exact c _ _ _ (by simp) b | exact d b)⟩
    | exact c _ _ _ (by simp) h
    | exact d h
 |halt x w'=>cases x <;> simp only[Oper.uponIn]at h|- <;> first | exact h | exact c _ _ _ (by simp) h | exact d h
def JM(F:Fence)(n:Nat)(P:Program)(pre rest:List Oper)(Q:Exit->Act->World->Prop):Exit->Act->World->Prop
 |.normal,a,w=>wpAnyIn F n P .any (pre++rest).toArray Q rest.length (Array.replicate pre.length true++Array.replicate rest.length false) a w
 |e,a,w=>Q e a w
theorem Z4{F:Fence}{n:Nat}{P:Program}{c rest:List Oper}{Q:Exit->Act->World->Prop}(l:ac3 c rest):∀(r:Nat)(L:Array Bool)(a:Act)(w:World),L.size=c.length->(∀i,i<c.length->L.getD i false=true->∀d∈oZ (c++rest) i,L.getD d false=true)->L.toList.countP (fun b=>!b)=r->wpAnyIn F n P .any c.toArray (JM F n P c rest Q) r L a w->wpAnyIn F n P .any (c++rest).toArray Q (r+rest.length) (L++Array.replicate rest.length false) a w
 |0,L,a,w,hl,hD,hc,h=>by
  have e:L=Array.replicate c.length true:=by
   apply qe (by simp[hl]);intro i h1 h2;have:=qr.1 hc L[i] (by simp);simpa using this
  have:=h.2;rw[fk,e];exact this
 |r+1,L,a,w,hl,hD,hc,h=>by
  have A:∀i b,i<c.length->(L++Array.replicate rest.length false).getD i b=L.getD i b:=fun i b f=>by
   simp[Array.getD,hl,f,show i<c.length+rest.length by omega,Array.getElem_append_left]
  have B:∀i,c.length<=i->(L++Array.replicate rest.length false).getD i false=false:=fun i f=>by
   by_cases h2:i<c.length+rest.length
   ·simp[Array.getD,hl,h2,Array.getElem_append_right,f]
   ·simp[Array.getD,hl,h2]
  have some:∃i,i<c.length/\L.getD i false=false:=by
   apply kj;intro H;have:L.toList.countP (fun b=>!b)=0:=qr.2 fun b K=>by
    obtain⟨i,f,rfl⟩:=lA K;have k:i<c.length:=by simpa [hl]using f
    have:L.getD i false≠false:=fun e=>H ⟨i,k,e⟩
    simpa [Array.getD,hl,k]using this
   omega
  have C:∀i,i<c.length->L.getD i true=L.getD i false:=fun i f=>by simp[Array.getD,hl,f]
  have E:∃i,i∈Region.ready .any c.toArray L:=by
   obtain⟨i,f,v⟩:=some
   induction i using Nat.strongRecOn with
   |_ i ih=>
    by_cases hall:∀d∈oZ (c++rest) i,L.getD d false=true
    ·exact⟨i,mem_ready.2 ⟨f,by rw[C i f];exact v,by rw[R5 (rest:=rest) f];exact hall⟩⟩
    ·obtain⟨d,hd⟩:=Classical.not_forall.1 hall
     obtain⟨m,q⟩:=Classical.not_imp.1 hd;exact ih d (l.less i f d m) (by have:=l.less i f d m;omega) (by simpa using q)
  have z:∀i,i∈Region.ready .any (c++rest).toArray (L++Array.replicate rest.length false)->i<c.length:=fun i f=>by
   obtain⟨h1,h2,h3⟩:=mem_ready.1 f;apply kj;intro H
   by_cases e:i=c.length
   ·subst e
    obtain⟨j,x,v⟩:=some;have:=(XV (L:=fun i=>L.getD i false) hD (fun i f d hd=>by have:=l.less i f d hd;omega) c.length _ (fun d hd=>⟨l.fst d hd,by have:=h3 d hd;rwa [A d false (l.fst d hd)]at this⟩) j (l.cov j x)).2;simp only[v]at this;cases this
   ·obtain⟨d,m,q⟩:=l.bK (i-c.length) (by rw[cH]at h1;omega) (by omega)
    rw[show c.length+(i-c.length)=i by omega]at m;have:=h3 d m;rw[B d q]at this;cases this
  have u:∀i,i<c.length->(i∈Region.ready .any (c++rest).toArray (L++Array.replicate rest.length false)↔i∈Region.ready .any c.toArray L):=fun i f=>by
   rw[mem_ready,mem_ready,A i true f,R5 (rest:=rest) f,cH];refine⟨fun⟨_,h2,h3⟩=>⟨f,h2,fun d hd=>?_⟩,fun⟨_,h2,h3⟩=>⟨by omega,h2,fun d hd=>?_⟩⟩
   ·have:=h3 d hd;rwa [A d false (by have:=l.less i f d hd;omega)]at this
   ·rw[A d false (by have:=l.less i f d hd;omega)];exact h3 d hd
  rw[show r+1+rest.length=(r+rest.length)+1 by omega];refine⟨fun M=>?_,fun i f=>?_⟩
  ·obtain⟨i,f⟩:=E
   have:=(u i (mem_ready.1 f).1).2 f;rw[M]at this;cases this
  ·have s:=z i f
   have k:=(u i s).1 f;have h1:=h.2 i k;obtain⟨-,v,t⟩:=mem_ready.1 k;have y:(L++Array.replicate rest.length false).setIfInBounds i true=L.setIfInBounds i true++Array.replicate rest.length false:=by
    rw[Array.setIfInBounds_append_left (by omega)]
   rw[y];have S:∀a w,wpAnyIn F n P .any c.toArray (JM F n P c rest Q) r (L.setIfInBounds i true) a w->wpAnyIn F n P .any (c++rest).toArray Q (r+rest.length) (L.setIfInBounds i true++Array.replicate rest.length false) a w:=fun a w=>Z4 l r _ a w (by simp[hl]) (fun j x p d hd=>?_) ?_
   ·have h2:=wpOpIn_mono S h1
    have O:c.toArray[i]?=(c++rest).toArray[i]?:=by simp[List.getElem?_append_left s]
    unfold wpOpIn at h2|-;rw[O]at h2;cases ho:(c++rest).toArray[i]? with
    |none=>rw[ho]at h2;exact h2
    |some o=>
     rw[ho]at h2;simp only at h2|-;have N:Region.wanted o (yielded c.toArray a.tmps)=Region.wanted o (yielded (c++rest).toArray a.tmps):=by
      unfold Region.wanted;cases hg:o.guard with
      |none=>rfl
      |some g=>
       obtain⟨j,b⟩:=g;have x:=l.grd i s o (by simpa using ho) j b hg;have:yielded c.toArray a.tmps j=yielded (c++rest).toArray a.tmps j:=by
        unfold yielded;rw[show c.toArray[j]?=(c++rest).toArray[j]? by simp[List.getElem?_append_left x]]
       simp only[this]
     rw[N]at h2
     split
     ·rename_i G
      rw[dj G]at h2;unfold Oper.wpIn at h2|-;exact⟨h2.1,aix (fun e a w J h=>by cases e <;> first | exact absurd rfl J | exact h) _ h2.2⟩
     ·rename_i G
      rw[dt G]at h2;exact h2
   ·have I:∀d,(L.setIfInBounds i true).getD d false=if d=i then true else L.getD d false:=fun d=>by
     by_cases e:d=i
     ·subst e;simp[Array.getD,hl,s]
     ·have T:¬i=d:=fun h=>e h.symm
      by_cases h2:d<c.length
      ·simp[Array.getD,hl,h2,e,T]
      ·simp[Array.getD,hl,h2,e]
    rw[I]at p|-
    split
    ·rfl
    ·by_cases e:j=i
     ·subst e;rw[R5 (rest:=rest) s]at t;exact t d hd
     ·rw[dt e]at p
      exact hD j x p d hd
   ·have D:i<L.toList.length:=by simp[hl,s]
    have R:L.toList[i]=false:=by simpa [Array.getD,hl,s]using v
    rw[xt,List.countP_set D,hc,R];simp
theorem Z5{n:Nat}{P:Program}{Q:Exit->Act->World->Prop}{a:Act}{w:World}{b:List Oper}(m:Nat)(d:Region.lexB .any (b.take m).toArray=true)(g:splitB (b.take m) (b.drop m)=true)
  (h:wpQuietIn Fence.wide n P (b.take m).toArray (fun w'=>∃n,w'=w.drewN n) (fun a'=>∀w',(∃n,w'=w.drewN n)->wpAnyIn Fence.wide n P .any b.toArray Q (b.drop m).length (Array.replicate (b.take m).length true++Array.replicate (b.drop m).length false) a' w') (b.take m) a):wpAnyIn Fence.wide n P .any b.toArray Q b.toArray.size (Array.replicate b.toArray.size false) a { w with drawn:=w.drawn+1 }:=by
 have e:b.take m++b.drop m=b:=mA m b;have f:b.toArray.size=(b.take m).length+(b.drop m).length:=by rw[<-cH,e,ld]
 rw[f,<-Array.replicate_append_replicate];have:=Z4 (F:=Fence.wide) (n:=n) (P:=P) (Q:=Q) (agn g) (b.take m).length (Array.replicate (b.take m).length false) a { w with drawn:=w.drawn+1 } (by simp) (fun i j h=>by simp[Array.getD]at h) (by rw[Array.toList_replicate,List.countP_replicate];rfl) ?_
 ·rw[e]at this
  exact this
 ·simp only[Region.lexB,Bool.and_eq_true]at d
  refine wpAnyIn_of_quiet (C:=fun w'=>∃n,w'=w.drewN n) (Q:=fun a'=>∀w',(∃n,w'=w.drewN n)->JM Fence.wide n P (b.take m) (b.drop m) Q .normal a' w') rfl (fun _ w' c h=>h w' c) _ _ _ _ ⟨1,rfl⟩ ?_;have:=wpAnyQIn_lex (F:=Fence.wide) (n:=n) (P:=P) (C:=fun w'=>∃n,w'=w.drewN n) (Q:=fun a'=>∀w',(∃n,w'=w.drewN n)->JM Fence.wide n P (b.take m) (b.drop m) Q .normal a' w') (md:=.any) d.1 (b.take m) 0 (Array.replicate (b.take m).toArray.size false) a (by simp) (by simpa using d.2) (by simp only[JM,e];exact h);simpa using this
theorem Mq{n:Nat}{P:Program}{id l:Nat}{Q:Exit->Act->World->Prop}{a:Act}{w:World}{b:List Oper}(m:Nat)(c:P.follows .mixedOrders=true)(d:Region.lexB .any (b.take m).toArray=true)(hd:Nn b.toArray=true)(f:splitB (b.take m) (b.drop m)=true)
  (h:wpQuietIn Fence.wide n P (b.take m).toArray (fun w'=>∃n,w'=w.drewN n) (fun a'=>∀w',(∃n,w'=w.drewN n)->wpAnyIn Fence.wide n P .any b.toArray Q (b.drop m).length (Array.replicate (b.take m).length true++Array.replicate (b.drop m).length false) a' w') (b.take m) a):(Code.region id b.toArray true).wpIn (Fence.wide.inRound l) n P Q a w :=
 wpIn_region_any c (Mg rfl hd l _ _ _ _ (Z5 m d f h))
theorem qp{n:Nat}{P:Program}{id:Nat}{Q:Exit->Act->World->Prop}{a:Act}{w:World}{b:List Oper}(m:Nat)(c:P.follows .mixedOrders=true)(d:Region.lexB .any (b.take m).toArray=true)(f:splitB (b.take m) (b.drop m)=true)
  (h:wpQuietIn Fence.wide n P (b.take m).toArray (fun w'=>∃n,w'=w.drewN n) (fun a'=>∀w',(∃n,w'=w.drewN n)->wpAnyIn Fence.wide n P .any b.toArray Q (b.drop m).length (Array.replicate (b.take m).length true++Array.replicate (b.drop m).length false) a' w') (b.take m) a):(Code.region id b.toArray true).wpIn Fence.wide n P Q a w :=
 wpIn_region_any c (Z5 m d f h)
namespace Pk
structure T where
 aB:List Nat
 ak:List (Nat×Nat×Nat)
 toks:List ByteArray
 aN:List ByteArray
 prods:List (Nat×Nat)
 aH:List Nat
def within(i:Int)(n:Nat):Bool:=decide (0<=i) && decide (i<(n:Int))
def least:Nat->Nat
 |1=>1
 |2=>1
 |_=>0
def bound(nS nP:Nat):Nat->Nat
 |1=>nS
 |2=>nP
 |3=>1
 |4=>1
 |_=>0
def yZ(p:T)(d t:Nat)(s:Int):Bool:=decide (d<5) && decide (least d<=t) && decide (t<bound p.aB.length p.prods.length d) && (within s p.toks.length || (within (s - (p.toks.length:Int)) p.aN.length && decide (d=1)))
end Pk
structure gG where
 vB:Value
 vP:Value
 vT:Value
 vN:Value
 vR:Value
 vD:Value
def gG.cells(v:gG):Array Value:=#[v.vB,v.vP,v.vT,v.vN,v.vR,v.vD]
def fG(n:Nat):Value:=.int .i64 (n:Int)
def bY(x:Nat×Nat×Nat):List Value:=[.int .i64 (x.1:Int),.int .i64 (x.2.1:Int),.int .i64 (x.2.2:Int)]
def eX(x:Nat×Nat):List Value:=[.int .i64 (x.1:Int),.int .i64 (x.2:Int)]
structure aT(W:World)(B pb:Nat)(v:gG)(p:Pk.T):Prop where
 blk:aj W pb v.cells 79
 rB:W.ownsRow B 3 1 v.vB p.aB.length (p.aB.map fG)
 rP:W.ownsRow B 138 3 v.vP p.ak.length (p.ak.flatMap bY)
 rT:∃g,v.vT=.slice (some ⟨g,0,none⟩) p.toks.length p.toks.length/\aj W g (lQ p.toks) 9
 rN:∃g,v.vN=.slice (some ⟨g,0,none⟩) p.aN.length p.aN.length/\aj W g (lQ p.aN) 9
 rR:W.ownsRow B 81 2 v.vR p.prods.length (p.prods.flatMap eX)
 rD:W.ownsRow B 3 1 v.vD p.aH.length (p.aH.map fG)
 ne:∀g,v.vB.ownBlock=some g->v.vD.ownBlock≠some g
 lo:∀g,v.vT.ownBlock=some g\/v.vN.ownBlock=some g->B<=g
def gG.own(v:gG)(pb k:Nat):Prop:=k=pb\/v.vB.ownBlock=some k\/v.vP.ownBlock=some k\/v.vT.ownBlock=some k\/v.vN.ownBlock=some k\/v.vR.ownBlock=some k\/v.vD.ownBlock=some k
theorem aT.move{W W':World}{B pb:Nat}{v:gG}{p:Pk.T}(h:aT W B pb v p)(a:∀k,v.own pb k->W'.heap[k]?=W.heap[k]?):aT W' B pb v p where
 blk:=(a _ (.inl rfl)).trans h.blk
 rB:=aD h.rB fun g b=>a g (.inr (.inl b))
 rP:=aD h.rP fun g b=>a g (.inr (.inr (.inl b)))
 rT:=by
  obtain⟨g,h1,h2⟩:=h.rT;exact⟨g,h1,(a g (.inr (.inr (.inr (.inl (by rw[h1];rfl)))))).trans h2⟩
 rN:=by
  obtain⟨g,h1,h2⟩:=h.rN;exact⟨g,h1,(a g (.inr (.inr (.inr (.inr (.inl (by rw[h1];rfl))))))).trans h2⟩
 rR:=aD h.rR fun g b=>a g (.inr (.inr (.inr (.inr (.inr (.inl b))))))
 rD:=aD h.rD fun g b=>a g (.inr (.inr (.inr (.inr (.inr (.inr b))))))
 ne:=h.ne
 lo:=h.lo
theorem aT.lt{W:World}{B pb:Nat}{v:gG}{p:Pk.T}(h:aT W B pb v p){k:Nat}(a:v.own pb k):k<W.heap.size:=by
 rcases a with rfl|a|a|a|a|a|a
 ·exact h.blk.lt
 ·exact(h.rB.lt k a).2
 ·exact(h.rP.lt k a).2
 ·obtain⟨g,h1,h2⟩:=h.rT
  rw[h1]at a;cases a;exact h2.lt
 ·obtain⟨g,h1,h2⟩:=h.rN
  rw[h1]at a;cases a;exact h2.lt
 ·exact(h.rR.lt k a).2
 ·exact(h.rD.lt k a).2
theorem aT.cell{W:World}{B pb:Nat}{v:gG}{p:Pk.T}(h:aT W B pb v p):(∃a c,W.cell? ⟨pb,0,none⟩=some (.slice a p.aB.length c))/\(∃a c,W.cell? ⟨pb,1,none⟩=some (.slice a p.ak.length c))/\(∃a c,W.cell? ⟨pb,2,none⟩=some (.slice a p.toks.length c))/\(∃a c,W.cell? ⟨pb,3,none⟩=some (.slice a p.aN.length c))/\(∃a c,W.cell? ⟨pb,4,none⟩=some (.slice a p.prods.length c))/\(∃a c,W.cell? ⟨pb,5,none⟩=some (.slice a p.aH.length c)):=by
 obtain⟨s,j,o,-⟩:=aC h.rB;obtain⟨f,r,g,-⟩:=aC h.rP;obtain⟨u,n,-⟩:=h.rT;obtain⟨t,i,-⟩:=h.rN;obtain⟨q,l,k,-⟩:=aC h.rR;obtain⟨m,b,d,-⟩:=aC h.rD;exact⟨⟨s,j,by rw[<-o];exact h.blk.cell 0⟩,⟨f,r,by rw[<-g];exact h.blk.cell 1⟩,⟨_,_,by rw[<-n];exact h.blk.cell 2⟩,⟨_,_,by rw[<-i];exact h.blk.cell 3⟩,⟨q,l,by rw[<-k];exact h.blk.cell 4⟩,⟨m,b,by rw[<-d];exact h.blk.cell 5⟩⟩
theorem Aa{w:World}(i:Int)(n:Nat):Calls prog 32 #[.int .i64 i,.int .i64 (n:Int)] w fun e w'=>e=.returned (.bool (Pk.within i n))/\w'=w:=by
 unfold Pk.within
 by_cases h:0<=i
 ·have a:decide (0<=i)=true:=fi h
  by_cases h2:i<(n:Int)
  ·have b:decide (i<(n:Int))=true:=fi h2
   rw[a,b];go_enter func32,ntmps32;go_wp2_with fail;go_ret;exact⟨rfl,rfl⟩
  ·have b:decide (i<(n:Int))=false:=eE h2
   rw[a,b];go_enter func32,ntmps32;go_wp2_with fail;go_ret;exact⟨rfl,rfl⟩
 ·have a:decide (0<=i)=false:=eE h
  rw[a];go_enter func32,ntmps32;go_wp2_with fail;go_ret;exact⟨rfl,rfl⟩
theorem agp{w:World}{B pb d t:Nat}{v:gG}{p:Pk.T}(h:aT w B pb v p)(s:Int)(hs:-1000000000<=s/\s<=1000000000)(hp:p.toks.length<=100000):Calls prog 58 #[.pointer (some ⟨pb,0,none⟩),.agg #[.int .i64 (d:Int),.int .i64 (t:Int)],.int .i64 s] w fun e w'=>e=.returned (.bool (Pk.yZ p d t s))/\Below w.heap.size w w':=by
 obtain⟨w2,g⟩:∃V,V=(w.alloc (.cells #[.int .i64 (d:Int),.int .i64 (t:Int)] 42)).alloc (.cells #[.int .i64 0,.int .i64 1,.int .i64 1,.int .i64 0,.int .i64 0] 208):=⟨_,rfl⟩;have q:Below w.heap.size w w2:=by rw[g];exact((cV _ _).alloc (dy _) _).alloc (by simp) _
 have x:w2.heap.size=w.heap.size+2:=by rw[g];simp
 have kA:aj w2 w.heap.size #[.int .i64 (d:Int),.int .i64 (t:Int)] 42:=by rw[g];exact(aj.new ..).alloc _
 have kL:aj w2 (w.heap.size+1) #[.int .i64 0,.int .i64 1,.int .i64 1,.int .i64 0,.int .i64 0] 208:=by
  rw[g];have:=aj.new (w.alloc (.cells #[.int .i64 (d:Int),.int .i64 (t:Int)] 42)) #[.int .i64 0,.int .i64 1,.int .i64 1,.int .i64 0,.int .i64 0] 208
  rwa [fd]at this
 have h2:aT w2 B pb v p:=h.move fun k S=>q.block k (h.lt S)
 obtain⟨⟨a0,Z,J⟩,-,⟨a2,k2,R⟩,⟨a3,k3,L⟩,⟨a4,W,P⟩,-⟩:=h2.cell;have D:pb<w2.heap.size:=h2.blk.lt;obtain⟨y,A⟩:∃b,w.heap.size=b:=⟨_,rfl⟩;rw[A]at kA kL q x;have la:=kA.lt;have U:=kL.lt;have d0:∀o,(w2.alloc o).cell? ⟨pb,0,none⟩=some (.slice a0 p.aB.length Z):=fun o=>(cM (w:=w2) (dg _ _ _ D)).trans J
 have d4:∀o,(w2.alloc o).cell? ⟨pb,4,none⟩=some (.slice a4 p.prods.length W):=fun o=>(cM (w:=w2) (dg _ _ _ D)).trans P
 have F:Hid (∀o,Below y w (w2.alloc o).drew):=fun o=>by
  have:=q.alloc (B:=y) (by omega) o;exact⟨this.1,this.2,this.3,this.4,this.5⟩
 go_enter func58,ntmps58;go_upto_region 2 with fail
 rw[<-g];clear g h h2 q;have l:aj (w2.alloc (.cells #[.int .i64 0,.int .i64 (p.aB.length:Int),.int .i64 (p.prods.length:Int),.int .i64 1,.int .i64 1] 208)).drew (y+2) #[.int .i64 0,.int .i64 (p.aB.length:Int),.int .i64 (p.prods.length:Int),.int .i64 1,.int .i64 1] 208:=by
  rw[<-x];exact(aj.new ..).drew
 have i:=(kA.alloc (.cells #[.int .i64 0,.int .i64 (p.aB.length:Int),.int .i64 (p.prods.length:Int),.int .i64 1,.int .i64 1] 208)).drew;have E:=(kL.alloc (.cells #[.int .i64 0,.int .i64 (p.aB.length:Int),.int .i64 (p.prods.length:Int),.int .i64 1,.int .i64 1] 208)).drew;have a:=F.out (.cells #[.int .i64 0,.int .i64 (p.aB.length:Int),.int .i64 (p.prods.length:Int),.int .i64 1,.int .i64 1] 208);have d2:(w2.alloc (.cells #[.int .i64 0,.int .i64 (p.aB.length:Int),.int .i64 (p.prods.length:Int),.int .i64 1,.int .i64 1] 208)).drew.cell? ⟨pb,2,none⟩=_:=(cM (w:=w2) (dg _ _ _ D)).trans R;have d3:(w2.alloc (.cells #[.int .i64 0,.int .i64 (p.aB.length:Int),.int .i64 (p.prods.length:Int),.int .i64 1,.int .i64 1] 208)).drew.cell? ⟨pb,3,none⟩=_:=(cM (w:=w2) (dg _ _ _ D)).trans L
 go_region
 clear F d0 d4 J R L P kA kL la U D x;generalize (w2.alloc (.cells #[.int .i64 0,.int .i64 (p.aB.length:Int),.int .i64 (p.prods.length:Int),.int .i64 1,.int .i64 1] 208)).drew=w3 at l i E a d2 d3|-;have y0:w3.cell? ⟨y,0,none⟩=some (.int .i64 (d:Int)):=i.cell 0;have y1:w3.cell? ⟨y,1,none⟩=some (.int .i64 (t:Int)):=i.cell 1;have I:=fun w=>Aa (w:=w) (s - (p.toks.length:Int)) p.aN.length
 have C:=fun w=>Aa (w:=w) s p.toks.length
 have f:Hid (∀n:Nat,Below w.heap.size w (w3.drewN n)):=fun _=>by rw[A];exact⟨a.1,a.2,a.3,a.4,a.5⟩
 have F:Hid (∀n m:Nat,Below w.heap.size w ((w3.drewN n).drewN m)):=fun _ _=>by rw[A];exact⟨a.1,a.2,a.3,a.4,a.5⟩
 have j0:(0:Int)<=(d:Int):=by omega
 have c:Pk.yZ p d t s=(decide (d<5) && decide (Pk.least d<=t) && decide (t<Pk.bound p.aB.length p.prods.length d) && (Pk.within s p.toks.length || (Pk.within (s - (p.toks.length:Int)) p.aN.length && decide (d=1)))):=rfl
 by_cases h5:d<5
 ·have K:decide ((5:Int)<=(d:Int))=false:=eE (by omega)
  have Y:(d:Int)<5:=by omega
  have N:w3.cell? ⟨y+1,d,none⟩=some (.int .i64 (Pk.least d:Int)):=by
   rw[E.cell];obtain rfl|rfl|rfl|rfl|rfl:d=0\/d=1\/d=2\/d=3\/d=4:=by omega
   all_goals rfl
  have M:w3.cell? ⟨y+2,d,none⟩=some (.int .i64 (Pk.bound p.aB.length p.prods.length d:Int)):=by
   rw[l.cell];obtain rfl|rfl|rfl|rfl|rfl:d=0\/d=1\/d=2\/d=3\/d=4:=by omega
   all_goals rfl
  rw[fi h5]at c;generalize Pk.least d=lo at N c;generalize Pk.bound p.aB.length p.prods.length d=hi at M c;clear i E l a
  by_cases hlo:lo<=t
  ·have Q:decide ((t:Int)<(lo:Int))=false:=eE (by omega)
   rw[fi hlo]at c
   by_cases hhi:t<hi
   ·have O:decide ((hi:Int)<=(t:Int))=false:=eE (by omega)
    rw[fi hhi]at c;obtain⟨u1,z⟩:∃u,Pk.within s p.toks.length=u:=⟨_,rfl⟩;obtain⟨X,r⟩:∃u,Pk.within (s - (p.toks.length:Int)) p.aN.length=u:=⟨_,rfl⟩;rw[z,r]at c;simp only[z]at C;simp only[r]at I;clear z r;go_upto_region 3 with fail
    go_quiet (fail)
    go_upto_region 5 with fail
    clear N M K Q O hlo hhi;refine(sq (n:=9)).1 ?_;refine qp 12 (by kernel_rfl) (by kernel_rfl) (by kernel_rfl) ?_
    dsimp only[List.take,List.drop,List.length]
    repeat (gi_big_quiet_step (fail))
    refine wpQuietIn_nil ?_;rintro _⟨aa,rfl⟩;refine wpAnyIn_ready (rs:=[12]) (by kernel_rfl) (by simp) (AllReadyIn.cons rfl (fun H j=>?_) AllReadyIn.nil)
    go_simp
    refine⟨trivial,(ij.2 (I _)).mono ?_⟩;rintro e w5⟨rfl,rfl⟩;refine j _ _ ?_;clear j H;refine wpAnyIn_ready (rs:=[13]) (by kernel_rfl) (by simp) (AllReadyIn.cons rfl (fun H j=>?_) AllReadyIn.nil)
    go_simp
    refine j _ _ (wpAnyIn_done (by kernel_rfl) ?_ _);clear j H;clear I;cases u1
    ·cases X
     ·go_wp2_with (go_at_call 32;refine(C _).mono ?_;rintro e G⟨rfl,rfl⟩)
      go_ret;exact⟨iY c.symm,f.out _⟩
     ·by_cases hd1:d=1
      ·have b8:((d:Int) == 1)=true:=by rw[hd1];rfl
       rw[fi hd1]at c;clear hd1
       go_wp2_with (go_at_call 32;refine(C _).mono ?_;rintro e G⟨rfl,rfl⟩)
       go_ret;exact⟨iY c.symm,f.out _⟩
      ·have b8:((d:Int) == 1)=false:=fY.2 (by omega)
       rw[eE hd1]at c
       go_wp2_with (go_at_call 32;refine(C _).mono ?_;rintro e G⟨rfl,rfl⟩)
       go_ret;exact⟨iY c.symm,f.out _⟩
    ·go_wp2_with (go_at_call 32;refine(C _).mono ?_;rintro e G⟨rfl,rfl⟩)
     go_ret;exact⟨iY c.symm,f.out _⟩
   ·have O:decide ((hi:Int)<=(t:Int))=true:=fi (by omega)
    rw[eE hhi]at c;go_upto_region 3 with fail
    go_quiet (fail)
    go_wp2_with fail;go_ret;exact⟨iY c.symm,f.out _⟩
  ·have Q:decide ((t:Int)<(lo:Int))=true:=fi (by omega)
   rw[eE hlo]at c;go_upto_region 3 with fail
   go_quiet (fail)
   go_wp2_with fail;go_ret;exact⟨iY c.symm,f.out _⟩
 ·have K:decide ((5:Int)<=(d:Int))=true:=fi (by omega)
  rw[eE h5]at c;clear i E l a;go_upto_region 3 with fail
  go_quiet (fail)
  go_wp2_with fail;go_ret;exact⟨iY c.symm,f.out _⟩
theorem XW{P:Program}(w:World)(base:Nat)(t F ty e:TypeId)(i:TypeInfo)(z:Value)(size bytes:Nat)(R kn:IntKind)(K:P.underlying t=some (.slice e))(p:P.underlying F=some (.int kn))(L:P.info? e=some i)(U:i.zero=some z)
  (C:i.size=size) (ab:i.bytes=bytes) (O:z.cells.size=size) (hsz:0<size) (v:Value) (n:Nat) (q:List Value) (b:w.ownsRow base e size v n q)
  (m:Nat) (h1:∀u∈(Builtin.zeroCells z.cells m).toList,u.oneCell'=true) (G:n+m<=maxLen) (r:(n+m)*bytes<=140737488355328) (E:base<=w.heap.size) :
  ∃v' w',(Builtin.append_ #[t,F] ty #[v,.int R (m:Int)]).run P w=.ok v' w'/\w'.ownsRow base e size v' (n+m) (q++(Builtin.zeroCells z.cells m).toList)/\w.grownBy w' v.ownBlock/\(v'.ownBlock=v.ownBlock\/v'.ownBlock=some w.heap.size):=by
 subst C;subst ab;have Q:n+m<=9223372036854775807:=by simp only[maxLen]at G;omega
 have J:m*i.bytes<=281474976710656:=by
  have:m*i.bytes<=(n+m)*i.bytes:=jj _ (by omega);omega
 obtain⟨a,A⟩:∃a,a=(Builtin.zeroCells z.cells m).toList:=⟨_,rfl⟩;have M:a.length=m*i.size:=by rw[A,lj,ti,O]
 have T:Builtin.zeroCells z.cells m=a.toArray:=by rw[A]
 rw[<-A]at h1|-;have f:(q++a).length=(n+m)*i.size:=by rw[cH,b.1,M,sg]
 have grown:∀(c:Nat),c<n+m->∀(row:Option Nat),
   (w.drew.alloc (.cells (q.toArray++a.toArray++Builtin.zeroCells z.cells (grownCap w (n+m) c e - (n+m))) e)).ownsRow base e i.size
    (.slice (some ⟨w.heap.size,0,none⟩) (n+m) (grownCap w (n+m) c e)) (n+m) (q++a) /\
   w.grownBy (w.drew.alloc (.cells (q.toArray++a.toArray++Builtin.zeroCells z.cells (grownCap w (n+m) c e - (n+m))) e)) row:=by
  intro c ho row;have W:=grownCap_ge w (n+m) c e;have D:grownCap w (n+m) c e<=maxLen:=vu w (n+m) c e G;refine⟨⟨f,.inr ⟨w.heap.size,_,_,rfl,E,ot w.drew _,W,D,?_,?_⟩⟩,⟨rfl,rfl,rfl,by simp,fun k S _=>dg w.drew _ _ S⟩⟩
  ·simp only[Array.size_append,List.size_toArray,size_zeroCells,O,b.1,M,<-Nat.add_mul]
   congr 1;omega
  ·simp only[Array.toList_append,List.append_assoc]
   rw[<-dq,<-f];exact xr
 rcases b.2 with ⟨rfl,rfl⟩|⟨g,d,o,rfl,aa,hg,Y,D,V,B⟩
 ·have hx:q=[]:=gz (by simpa using b.1)
  subst hx
  by_cases hm:m=0
  ·subst hm
   have X:a=[]:=gz (by simpa using M);subst X;refine⟨.slice none 0 0,w,?_,eQ w base e i.size,⟨rfl,rfl,rfl,dy _,fun _ _ _=>rfl⟩,qh rfl⟩;simp[Builtin.append_,run_underlying K,run_underlying p,sizeOf,typeInfo,L,asInt,asIntOf,IntKind.wrap_i64]
  ·have x:=Lib.run_append_nil_zeros (P:=P) w t F ty e i z R kn K p L U m (by omega) hsz (by omega) J
   have l:=grown 0 (by omega) (Value.ownBlock (.slice none 0 0));simp only[Nat.zero_add,List.nil_append,Array.empty_append]at l|-;rw[T]at x;exact⟨_,_,x,l.1,l.2,Or.inr rfl⟩
 ·by_cases hroom:n+m<=d
  ·have I:n*i.size+a.length<=o.size:=by rw[M,V,<-sg];exact jj _ hroom
   have s:=run_storeCells_at P g (n*i.size) e a 0 o w hg (by simpa using I) h1;simp only[Nat.add_zero]at s;have hw:IntKind.i64.wrap (m:Int)=m:=by rw[iz];omega
   have N:¬((m:Int)<0):=by omega
   have H:¬(281474976710656<(m:Int)*(i.bytes:Int)):=by
    rw[<-Int.natCast_mul];omega
   have x:(Builtin.append_ #[t,F] ty #[.slice (some ⟨g,0,none⟩) n d,.int R (m:Int)]).run P w=.ok (.slice (some ⟨g,0,none⟩) (n+m) d) (w.setRow g (o.toList.take (n*i.size)++a++o.toList.drop (n*i.size+a.length)).toArray):=by
    by_cases hm:m=0
    ·subst hm
     have X:a=[]:=gz (by simpa using M);subst X;simp only[List.append_nil,List.length_nil,Nat.add_zero,List.take_append_drop]at s|-;simp[Builtin.append_,run_underlying K,run_underlying p,sizeOf,typeInfo,L,asInt,asIntOf,IntKind.wrap_i64,Addr.add_lit,s,Y]
    ·have Z:¬(m*i.size=0):=Nat.mul_ne_zero hm (by omega)
     simp[Builtin.append_,run_underlying K,run_underlying p,sizeOf,typeInfo,zeroValue,L,U,asInt,asIntOf,hw,N,Z,H,hroom,Addr.add_lit,T,s]
   refine⟨_,_,x,⟨f,.inr ⟨g,d,_,rfl,aa,setRow_heap w g o _ e _ hg,hroom,D,?_,?_⟩⟩,⟨rfl,rfl,rfl,by simp,fun k _ S=>setRow_other w g k _ (fun e=>S (by simp[Value.ownBlock,e]))⟩,qh rfl⟩
   ·simp only[List.size_toArray,List.length_append,List.length_take,List.length_drop,Array.length_toList]
    omega
   ·rw[B,<-f]
    exact xr
  ·have y:∀j u,q[j]?=some u->w.cell? ((⟨g,0,none⟩:Addr).add j)=some u:=b.cells (g:=g) rfl
   have x:=Lib.run_append_grow_zeros (P:=P) w t F ty e i z R kn K p L U (some ⟨g,0,none⟩) n d q (run_firstCells_some (P:=P) w.drew i.size n _ n d q b.1 y) m (by omega) hsz (by omega) (by omega) J (growslice_fits (by omega) r);have l:=grown d (by omega) (Value.ownBlock (.slice (some ⟨g,0,none⟩) n d));rw[T]at x;exact⟨_,_,x,l.1,l.2,Or.inr rfl⟩
namespace Lx
def fix(l:List ByteArray)(b:ByteArray):Nat:=l.findIdx fun x=>decide (x=b)
def bZ(l:List ByteArray)(b:ByteArray):Int:=if fix l b<l.length then (fix l b:Int) else -1
theorem ac4{l:List ByteArray}{b:ByteArray}{j:Nat}(f:l[j]?=some b)(g:∀i,i<j->l[i]?≠some b):fix l b=j:=by
 obtain⟨a,c⟩:=cG.1 f;unfold fix;rw[List.findIdx_eq a];refine⟨by simp[c],fun i d=>?_⟩;have:=g i d;rw[cF (by omega)]at this;simp only[decide_eq_false_iff_not];exact fun e=>this (by rw[e])
theorem amP{l:List ByteArray}{b:ByteArray}{j:Nat}(a:l[j]?=some b)(c:∀i,i<j->l[i]?≠some b):bZ l b=(j:Int):=by
 have h:=ac4 a c;have:=(cG.1 a).1;unfold bZ;rw[h,dj this]
theorem aiy(l:List ByteArray)(b:ByteArray):-1<=bZ l b/\bZ l b<l.length:=by
 unfold bZ;split <;> omega
theorem jI{l:List ByteArray}{b:ByteArray}:0<=bZ l b↔b∈l:=by
 unfold bZ fix;constructor
 ·intro h
  split at h
  ·rename_i a
   have h1:=pS (w:=a);rw[<-iS h1];exact du _
  ·omega
 ·intro h
  rw[dj (vp ⟨b,h,by simp⟩)];omega
end Lx
theorem flat_get{α:Type}(c:Value×α->List Value)(s:Nat)(a:∀q,(c q).length=s):∀(ps:List (Value×α))(j i:Nat)(q:Value×α),ps[j]?=some q->i<s->(ps.flatMap c)[j*s+i]?=(c q)[i]?
 | [],_,_,_,h,_=>by simp at h
 |p::ps,0,i,q,h,hi=>by
  simp at h;subst h;rw[eh,pZ,fk,eL (by rw[a];exact hi)]
 |p::ps,j+1,i,q,h,hi=>by
  have b:ps[j]?=some q:=by simpa using h
  rw[eh,eN (by rw[a,mf];omega),a,show (j+1)*s+i-s=j*s+i by rw[mf];omega];exact flat_get c s a ps j i q b hi
theorem Tr.Seq.at{α:Type}{F:Nat->Prop}{w:World}{e s:Nat}{c:Value×α->List Value}{K:Value->α->Prop}{v:Value}{l:List α}(h:Tr.Seq F w e s c K v l)(n:∀q,(c q).length=s){j:Nat}(d:j<l.length):
  ∃g cap vk,v=.slice (some ⟨g,0,none⟩) l.length cap/\F g/\K vk l[j]/\∀i,i<s->w.cell? ⟨g,j*s+i,none⟩=(c (vk,l[j]))[i]?:=by
 obtain⟨a,h1,h2,h3,h4⟩:=h;obtain⟨g,cap,rfl,-,-⟩:=h2.form (by omega);have o:a.length=l.length:=by rw[<-h1];simp
 have k:a[j]?=some a[j]:=cF (by omega);have f:(a[j]).2=l[j]:=by
  have:(a.map Prod.snd)[j]?=l[j]?:=by rw[h1]
  rw[di,k,cF d]at this;simpa using this
 refine⟨g,cap,(a[j]).1,rfl,h3 g rfl,?_,?_⟩
 ·rw[<-f];exact h4 _ (du _)
 ·intro i m
  have b:j*s+i<l.length*s:=by
   have:(j+1)*s<=l.length*s:=jj s d;rw[mf]at this;omega
  rw[h2.cellAt (j*s+i) b,flat_get c s n a j i _ k m,<-f]
theorem Tr.Seq.len{α:Type}{F:Nat->Prop}{w:World}{e s:Nat}{c:Value×α->List Value}{K:Value->α->Prop}{v:Value}{l:List α}(h:Tr.Seq F w e s c K v l):∃a cap,v=.slice a l.length cap/\l.length<=maxLen:=by
 obtain⟨b,h1,h2,h3,h4⟩:=h;exact aC h2
theorem aO.len{Y:Lay}{d:Nat}{F:Nat->Prop}{w:World}{v:Value}{l:List Lx.Alt}(h:aO Y d F w v l):∃a cap,v=.slice a l.length cap/\l.length<=maxLen:=by
 cases d with
 |zero=>obtain⟨rfl,rfl⟩:=h;exact⟨_,_,rfl,ff _⟩
 |succ d=>exact Seq.len h
def Lx.lvls(g:Lx.Gr)(b:ByteArray):Bool:=g.levels.any fun lv=>decide (0<=bZ (lv.tokens.map Prod.fst) b)
namespace Lx
theorem Nq(ts:List Tk):ts.tail.length<=ts.length:=by simp
theorem Yx:∀(f:Nat)(ts acc x ts':List Tk),jG f ts acc=.ok (x,ts')->ts'.length<=ts.length
 |0,ts,acc,x,ts',h=>by simp only[jG,Except.ok.injEq,Prod.mk.injEq]at h;rw[h.2];exact dy _
 |f+1,ts,acc,x,ts',h=>by
  have h3:=Nq ts;simp only[jG]at h
  split at h
  ·simp only[Except.ok.injEq,Prod.mk.injEq]at h;rw[<-h.2];exact h3
  ·cases hr:eT isToken ts with
   |error e=>rw[hr]at h;cases h
   |ok y=>
    obtain⟨b,a⟩:=y;rw[hr]at h;have h1:=(oO hr).1;have h2:=Yx f a _ x ts' h;rw[h1]at h2;omega
theorem ahk{ts ts':List Tk}{x:Lv}(h:jY ts=.ok (x,ts')):ts'.length<=ts.tail.length:=by
 unfold jY at h;cases hr:eT isToken ts.tail with
 |error e=>rw[hr]at h;cases h
 |ok y=>
  obtain⟨b,a⟩:=y;rw[hr]at h;have h1:=(oO hr).1;cases hr2:jG a.length a [(b,pl ts.tail)] with
  |error e=>simp only[hr2]at h;cases h
  |ok z=>
   obtain⟨l,c⟩:=z;simp only[hr2,Except.ok.injEq,Prod.mk.injEq]at h;have h2:=Yx _ _ _ _ _ hr2;have h3:=Nq ts.tail;rw[<-h.2];rw[h1]at h2;omega
theorem Rt{ts ts':List Tk}{x:Rl}(h:iw ts=.ok (x,ts')):ts'.length<=ts.tail.length:=by
 unfold iw at h;cases hr:eT isName ts with
 |error e=>rw[hr]at h;cases h
 |ok y=>
  obtain⟨b,a⟩:=y;rw[hr]at h;have h1:=(oO hr).1;cases hr2:jy mE a with
  |error e=>simp only[hr2]at h;cases h
  |ok z=>
   obtain⟨u,d⟩:=z;have h2:=(yK hr2).1;cases hr3:nJ 8 d with
   |error e=>simp only[hr2,hr3]at h;cases h
   |ok z=>
    obtain⟨l,c⟩:=z;have h3:=MF 8 _ _ _ hr3;cases hr4:jy mO c with
    |error e=>simp only[hr2,hr3,hr4]at h;cases h
    |ok z=>
     obtain⟨j,g⟩:=z;have h4:=(yK hr4).1;simp only[hr2,hr3,hr4,Except.ok.injEq,Prod.mk.injEq]at h;have i:=Nq c;have f:=Nq a;rw[<-h.2,h4];rw[h2]at h3;rw[h1]at h3 f;omega
def Nr(lv:List Lv):aV (List Rl)->aV Gr
 |.error e=>.error e
 | .ok (l,ts)=>.ok (⟨lv,l⟩,ts)
def Ja(lv:List Lv)(aG:List Tk):aV Gr :=
 match iw aG with
 |.error e=>.error e
 | .ok (x,cu)=>Nr lv (jv cu.length cu [x])
def Ol:aV (List Lv)->aV Gr
 |.error e=>.error e
 | .ok (lv,aG)=>Ja lv aG
theorem agq(ts:List Tk):iZ ts=Ol (jO ts.length ts []):=by
 unfold iZ;cases h1:jO ts.length ts [] with
 |error e=>rfl
 |ok y=>
  obtain⟨c,b⟩:=y;simp only[Ol,Ja];cases h2:iw b with
  |error e=>rfl
  |ok z=>
   obtain⟨x,a⟩:=z;simp only;cases h3:jv a.length a [x] with
   |error e=>rfl
   |ok q=>obtain⟨l,d⟩:=q;rfl
def EP{α:Type}(r:aV α):Prop:=∀e,r=.error e->0<e.1
theorem EP.ok{α:Type}(x:α×List Tk):EP (.ok x:aV α):=fun _ h=>by cases h
theorem EP.no{α:Type}{n a:Nat}(h:0<n):EP (.error (n,a):aV α):=fun _ e=>by cases e;exact h
theorem EP.up{α β:Type}{r:aV α}{e:Nat×Nat}(h:EP r)(a:r=.error e):EP (.error e:aV β):=fun _ b=>by cases b;exact h e a
theorem MS(k:ByteArray->Bool)(ts:List Tk):EP (eT k ts):=by
 unfold eT
 split
 ·exact EP.ok _
 ·exact EP.no (by decide)
theorem R7(b:ByteArray)(ts:List Tk):EP (jy b ts):=by
 unfold jy
 split
 ·exact EP.ok _
 ·exact EP.no (by decide)
theorem ajO{aF:List Tk->aV (List Alt)}(a:∀ts,EP (aF ts))(ts:List Tk):EP (iq aF ts):=by
 unfold iq
 split
 ·cases hr0:aF ts with
  |error e=>exact EP.up (a ts) hr0
  |ok y0=>
   obtain⟨c,b⟩:=y0;exact EP.ok _
 ·split
  ·exact EP.ok _
  ·split
   ·exact EP.ok _
   ·exact EP.no (by decide)
theorem Z6{aF:List Tk->aV (List Alt)}(a:∀ts,EP (aF ts)):∀(f:Nat)(ts:List Tk)(acc:List It),EP (jr aF f ts acc)
 |0,_,_=>EP.ok _
 |f+1,ts,acc=>by
  simp only[jr]
  split
  ·cases hr0:iq aF ts with
   |error e=>exact EP.up (ajO a ts) hr0
   |ok y0=>
    obtain⟨c,b⟩:=y0;exact Z6 a f _ _
  ·exact EP.ok _
theorem ajP(b:Bool)(a:List It)(ts:List Tk):EP (qB b a ts):=by
 unfold qB
 split
 ·cases hr0:eT isToken ts.tail with
  |error e=>exact EP.up (MS _ _) hr0
  |ok y0=>
   obtain⟨d,c⟩:=y0;exact EP.ok _
 ·exact EP.ok _
theorem abY{aF:List Tk->aV (List Alt)}(b:∀ts,EP (aF ts))(a:Bool)(ts:List Tk):EP (iG aF a ts):=by
 unfold iG;cases hr0:jr aF ts.length ts [] with
 |error e=>exact EP.up (Z6 b _ _ _) hr0
 |ok y0=>
  obtain⟨d,c⟩:=y0;exact ajP _ _ _
theorem aa2{aF:List Tk->aV (List Alt)}(b:∀ts,EP (aF ts))(a:Bool):∀(f:Nat)(ts:List Tk)(acc:List Alt),EP (l9 aF a f ts acc)
 |0,_,_=>EP.ok _
 |f+1,ts,acc=>by
  simp only[l9]
  split
  ·cases hr0:iG aF a ts.tail with
   |error e=>exact EP.up (abY b _ _) hr0
   |ok y0=>
    obtain⟨d,c⟩:=y0;exact aa2 b a f _ _
  ·exact EP.ok _
theorem Y4{aF:List Tk->aV (List Alt)}(b:∀ts,EP (aF ts))(a:Bool)(ts:List Tk):EP (qx aF a ts):=by
 unfold qx;cases hr0:iG aF a ts with
 |error e=>exact EP.up (abY b _ _) hr0
 |ok y0=>
  obtain⟨d,c⟩:=y0;exact aa2 b _ _ _ _
theorem aiz{r:List Tk->aV (List Alt)}(a:∀ts,EP (r ts))(ts:List Tk):EP (qz r ts):=by
 unfold qz;cases hr0:r ts.tail with
 |error e=>exact EP.up (a _) hr0
 |ok y0=>
  obtain⟨c,b⟩:=y0;simp only;cases hr1:jy BO b with
  |error e=>exact EP.up (R7 _ _) hr1
  |ok y1=>
   obtain⟨d,f⟩:=y1;exact EP.ok _
theorem aa3:∀(d:Nat)(ts:List Tk),EP (nJ d ts)
 |0,ts=>Y4 (aF:=fun ts=>.error (3,pl ts)) (fun _=>EP.no (by decide)) _ _
 |d+1,ts=>Y4 (aiz (aa3 d)) _ _
theorem aa4(ts:List Tk):EP (iw ts):=by
 unfold iw;cases hr0:eT isName ts with
 |error e=>exact EP.up (MS _ _) hr0
 |ok y0=>
  obtain⟨d,b⟩:=y0;simp only;cases hr1:jy mE b with
  |error e=>exact EP.up (R7 _ _) hr1
  |ok y1=>
   obtain⟨i,c⟩:=y1;simp only;cases hr2:nJ 8 c with
   |error e=>exact EP.up (aa3 _ _) hr2
   |ok y2=>
    obtain⟨f,a⟩:=y2;simp only;cases hr3:jy mO a with
    |error e=>exact EP.up (R7 _ _) hr3
    |ok y3=>
     obtain⟨j,g⟩:=y3;exact EP.ok _
theorem Y5:∀(f:Nat)(ts acc:List Tk),EP (jG f ts acc)
 |0,_,_=>EP.ok _
 |f+1,ts,acc=>by
  simp only[jG]
  split
  ·exact EP.ok _
  ·cases hr0:eT isToken ts with
   |error e=>exact EP.up (MS _ _) hr0
   |ok y0=>
    obtain⟨b,a⟩:=y0;exact Y5 f _ _
theorem aiA(ts:List Tk):EP (jY ts):=by
 unfold jY;cases hr0:eT isToken ts.tail with
 |error e=>exact EP.up (MS _ _) hr0
 |ok y0=>
  obtain⟨b,a⟩:=y0;simp only;cases hr1:jG a.length a [(b,pl ts.tail)] with
  |error e=>exact EP.up (Y5 _ _ _) hr1
  |ok y1=>
   obtain⟨d,c⟩:=y1;exact EP.ok _
theorem Y6:∀(f:Nat)(ts:List Tk)(acc:List Lv),EP (jO f ts acc)
 |0,_,_=>EP.ok _
 |f+1,ts,acc=>by
  simp only[jO]
  split
  ·cases hr0:jY ts with
   |error e=>exact EP.up (aiA _) hr0
   |ok y0=>
    obtain⟨b,a⟩:=y0;exact Y6 f _ _
  ·exact EP.ok _
theorem Z7:∀(f:Nat)(ts:List Tk)(acc:List Rl),EP (jv f ts acc)
 |0,_,_=>EP.ok _
 |f+1,ts,acc=>by
  simp only[jv]
  split
  ·exact EP.ok _
  ·cases hr0:iw ts with
   |error e=>exact EP.up (aa4 _) hr0
   |ok y0=>
    obtain⟨b,a⟩:=y0;exact Z7 f _ _
theorem agr(ts:List Tk):EP (iZ ts):=by
 unfold iZ;cases hr0:jO ts.length ts [] with
 |error e=>exact EP.up (Y6 _ _ _) hr0
 |ok y0=>
  obtain⟨d,c⟩:=y0;simp only;cases hr1:iw c with
  |error e=>exact EP.up (aa4 _) hr1
  |ok y1=>
   obtain⟨b,a⟩:=y1;simp only;cases hr2:jv a.length a [b] with
   |error e=>exact EP.up (Z7 _ _ _) hr2
   |ok y2=>
    obtain⟨g,f⟩:=y2;exact EP.ok _
theorem Z8{s:ByteArray}{n a:Nat}(h:parse s=.error (n,a)):0<n:=by
 unfold parse at h
 split at h
 ·cases h;decide
 ·cases hr:iZ (lex s) with
  |error e=>rw[hr]at h;cases h;exact agr _ _ hr
  |ok x=>obtain⟨g,b⟩:=x;rw[hr]at h;cases h
def bnd{α β:Type}(r:aV α)(k:α->List Tk->aV β):aV β :=
 match r with
 |.error e=>.error e
 | .ok (x,ts)=>k x ts
theorem ajQ(aF:List Tk->aV (List Alt))(ts:List Tk):iq aF ts=if hd ts=mM then bnd (aF ts) (fun alts aG=>.ok ((⟨2,aW,(dJ aG).1,alts,pl ts⟩:It),(dJ aG).2))
  else if isName (hd ts)=true then .ok (⟨0,hd ts,(dJ ts.tail).1,[],pl ts⟩,(dJ ts.tail).2)
  else if isToken (hd ts)=true then .ok (⟨1,hd ts,(dJ ts.tail).1,[],pl ts⟩,(dJ ts.tail).2)
  else .error (2,pl ts):=by
 unfold iq
 split
 ·cases aF ts with
  |error e=>rfl
  |ok y=>rfl
 ·rfl
theorem aiB(aF:List Tk->aV (List Alt))(f:Nat)(ts:List Tk)(a:List It):jr aF (f+1) ts a=if rM ts=true then bnd (iq aF ts) (fun x aG=>jr aF f aG (a++[x])) else .ok (a,ts):=by
 simp only[jr]
 split
 ·cases iq aF ts with
  |error e=>rfl
  |ok y=>rfl
 ·rfl
theorem ajR(b:Bool)(a:List It)(ts:List Tk):qB b a ts=if b=true/\hd ts=ku then bnd (eT isToken ts.tail) (fun x aG=>.ok (((a,x,pl ts.tail):Alt),aG)) else .ok ((a,aW,0),ts):=by
 unfold qB
 split
 ·cases eT isToken ts.tail with
  |error e=>rfl
  |ok y=>rfl
 ·rfl
theorem alu(aF:List Tk->aV (List Alt))(a:Bool)(ts:List Tk):iG aF a ts=bnd (jr aF ts.length ts []) (fun x aG=>qB a x aG):=by
 unfold iG;cases jr aF ts.length ts [] with
 |error e=>rfl
 |ok y=>rfl
theorem ajS(aF:List Tk->aV (List Alt))(b:Bool)(f:Nat)(ts:List Tk)(a:List Alt):l9 aF b (f+1) ts a=if hd ts=Ca then bnd (iG aF b ts.tail) (fun x aG=>l9 aF b f aG (a++[x])) else .ok (a,ts):=by
 simp only[l9]
 split
 ·cases iG aF b ts.tail with
  |error e=>rfl
  |ok y=>rfl
 ·rfl
theorem ahl(aF:List Tk->aV (List Alt))(a:Bool)(ts:List Tk):qx aF a ts=bnd (iG aF a ts) (fun x aG=>l9 aF a aG.length aG [x]):=by
 unfold qx;cases iG aF a ts with
 |error e=>rfl
 |ok y=>rfl
theorem aiC(r:List Tk->aV (List Alt))(ts:List Tk):qz r ts=bnd (r ts.tail) (fun l aG=>bnd (jy BO aG) fun _ cu=>.ok (l,cu)):=by
 unfold qz;cases r ts.tail with
 |error e=>rfl
 |ok y=>
  obtain⟨l,aG⟩:=y;simp only[bnd];cases jy BO aG with
  |error e=>rfl
  |ok y=>rfl
theorem ajT(ts:List Tk):iw ts=bnd (eT isName ts) (fun n aG=>bnd (jy mE aG) fun _ cu=>bnd (nJ 8 cu) fun l lW=>bnd (jy mO lW) fun _ oD=>.ok ((⟨n,l,pl ts⟩:Rl),oD)):=by
 unfold iw;cases eT isName ts with
 |error e=>rfl
 |ok y=>
  obtain⟨n,aG⟩:=y;simp only[bnd];cases jy mE aG with
  |error e=>rfl
  |ok y=>
   obtain⟨u,cu⟩:=y;simp only;cases nJ 8 cu with
   |error e=>rfl
   |ok y=>
    obtain⟨l,lW⟩:=y;simp only;cases jy mO lW with
    |error e=>rfl
    |ok y=>rfl
theorem ahm(f:Nat)(ts a:List Tk):jG (f+1) ts a=if hd ts=mO then .ok (a,ts.tail) else bnd (eT isToken ts) (fun x aG=>jG f aG (a++[(x,pl ts)])):=by
 simp only[jG]
 split
 ·rfl
 ·cases eT isToken ts with
  |error e=>rfl
  |ok y=>rfl
theorem Ru(ts:List Tk):jY ts=bnd (eT isToken ts.tail) (fun b aG=>bnd (jG aG.length aG [(b,pl ts.tail)]) fun l cu=>.ok ((⟨(iL (hd ts)).toNat,l⟩:Lv),cu)):=by
 unfold jY;cases eT isToken ts.tail with
 |error e=>rfl
 |ok y=>
  obtain⟨b,aG⟩:=y;simp only[bnd];cases jG aG.length aG [(b,pl ts.tail)] with
  |error e=>rfl
  |ok y=>rfl
theorem ahn(f:Nat)(ts:List Tk)(a:List Lv):jO (f+1) ts a=if 0<=iL (hd ts) then bnd (jY ts) (fun x aG=>jO f aG (a++[x])) else .ok (a,ts):=by
 simp only[jO]
 split
 ·cases jY ts with
  |error e=>rfl
  |ok y=>rfl
 ·rfl
theorem aiD(f:Nat)(ts:List Tk)(a:List Rl):jv (f+1) ts a=if hd ts=aW then .ok (a,ts) else bnd (iw ts) (fun x aG=>jv f aG (a++[x])):=by
 simp only[jv]
 split
 ·rfl
 ·cases iw ts with
  |error e=>rfl
  |ok y=>rfl
theorem afW(ts:List Tk):iZ ts=bnd (jO ts.length ts []) (fun lv aG=>bnd (iw aG) fun x cu=>bnd (jv cu.length cu [x]) fun l lW=>.ok ((⟨lv,l⟩:Gr),lW)):=by
 unfold iZ;cases jO ts.length ts [] with
 |error e=>rfl
 |ok y=>
  obtain⟨lv,aG⟩:=y;simp only[bnd];cases iw aG with
  |error e=>rfl
  |ok y=>
   obtain⟨x,cu⟩:=y;simp only;cases jv cu.length cu [x] with
   |error e=>rfl
   |ok y=>rfl
theorem nG{α β:Type}{r:aV α}{k:α->List Tk->aV β}{z:β}{ts':List Tk}(h:bnd r k=.ok (z,ts')):∃x ts,r=.ok (x,ts)/\k x ts=.ok (z,ts'):=by
 cases r with
 |error e=>cases h
 |ok y=>exact⟨y.1,y.2,rfl,h⟩
end Lx
section
open Go.RowKit
open Lx (Tk)
open Tr
abbrev KI(d:Nat):(Nat->Prop)->World->Value->Lx.Alt->Prop:=fun F w vi a=>rO YP d F w vi a.1
theorem rO.form{Y:Lay}{d:Nat}{F:Nat->Prop}{w:World}{v:Value}{l:List Lx.It}(h:rO Y d F w v l):∃a k c,v=.slice a k c:=by
 exact dV.form h
theorem aa5{d:Nat}(HA:abV d):R3 d:=by
 intro R t L p w u o ho h;obtain⟨i0,hi,X,ac,P⟩:=ft Tryz.als;have hp:=h.lt;have hs:=h.Ap;have HO:Hid (o=8 - (d:Int)):=ho;have ah:=h.lb;have ae:=h.len;clear ho;have Z:Hid _:=ajI d u;go_enter func155,ntmps155;go_wp2_with fail;refine(HA R t L p w u o HO.out h).mono ?_;intro e w1 s;cases hr1:iG (iE d) (d == 8) u with
 |error x=>
  obtain⟨n,a⟩:=x;obtain⟨rfl,q⟩:=s.err hr1;exact⟨rfl,Ends.no (by rw[Z.out];unfold qx;rw[hr1]) q⟩
 |ok x=>
  obtain⟨r,G⟩:=x;obtain⟨v,rfl,q,Uk,vi,rfl,T⟩:=s.ok hr1;have ak:=IW (QJ d) hr1;have W:Hid (nJ d u=l9 (iE d) (d == 8) G.length G [r]):=by
   show _=_;rw[Z.out];unfold qx;rw[hr1]
  obtain⟨I,K,M,rfl⟩:=rO.form T;have G1:mP w.heap.size (w1.alloc (.cells #[.slice I K M,.string r.2.1] 269)) 269 2 YP.cA (KI d) (.slice (some ⟨w1.heap.size,0,none⟩) 1 1) [r] :=
   mP.one (Md YP d) (w:=w) (.slice I K M,r) (dy _) q.size T rfl
  have D:=Uk.alloc (.cells #[.slice I K M,.string r.2.1] 269);have B:=aR q (bJ w1 (.cells #[.slice I K M,.string r.2.1] 269) (some p));clear hr1 s Z;go_wp2_with fail
  go_loopg [3] G.length (fun k v wr=>∃(j:List Tk)(c:List Lx.Alt)(f:Nat),j.length=k/\j.length<=f/\c.length+j.length<=u.length+1/\Rd R t L p wr j o /\
    mP w.heap.size wr 269 2 YP.cA (KI d) v c/\w.grownBy wr (some p)/\Hid (nJ d u=l9 (iE d) (d == 8) f j c))
  case atStart=>exact⟨G,[r],G.length,rfl,dy _,by simp;omega,D,G1,B,W⟩
  case round=>
   obtain⟨j,c,f,y,hf,af,A,l,hg,m⟩:=hrel;clear D B G1 T;have an:=A.wf.ne;obtain⟨J,rfl⟩:∃J,f=J+1:=⟨f-1,by omega⟩
   by_cases hb:Lx.hd j=Ca
   ·have z:Hid (Lx.hd j=Ca):=hb
    clear hb;have al:=A.wf.sV;go_wp2_with fail;refine(Ml A Ca (by decide) z.out).mono ?_;rintro e w2⟨rfl,E,aa⟩;have Vm:=aR hg E;go_wp2_with fail;refine(HA R t L p w2 j.tail o HO.out aa).mono ?_;intro e N s;cases hr3:iG (iE d) (d == 8) j.tail with
    |error x=>
     obtain⟨n,a⟩:=x;obtain⟨rfl,i⟩:=s.err hr3;exact⟨rfl,Ends.no (by rw[m.out];simp only[l9];rw[dj z.out,hr3]) (aR Vm i)⟩
    |ok x=>
     obtain⟨H,lW⟩:=x;obtain⟨v,rfl,i,D6,ag,rfl,C⟩:=s.ok hr3;have ai:=IW (QJ d) hr3;have O:Hid (nJ d u=l9 (iE d) (d == 8) J lW (c++[H])):=by
      show _=_;rw[m.out];simp only[l9];rw[dj z.out,hr3]
     obtain⟨xa,xk,xc,rfl⟩:=rO.form C;clear hr3 s m;obtain⟨ps,F,Y⟩:=l;have D7:=Y.kept (Md YP d) E (fun k y=>by cases y;omega);have S:=D7.kept (Md YP d) i (fun k y=>by cases y;omega);have b:=S.2.1;have s2:=Vm.size;have s3:=i.size
     go_wp2_with (first
      | (at_builtin;refine wpList_append_lies _ rfl _ _ 252 rfl w.heap.size 269 i0 _ 2 40 underlying252 hi X ac P rfl (by decide) u3 c.length (ps.flatMap YP.cA) rfl (b.alloc _) ⟨N.heap.size,0,none⟩ 1 1 (YP.cA (.slice xa xk xc,H)) rfl rfl (eO (aj.new N _ 269)) (by simp[YP,Value.oneCell']) (by decide) (by unfold maxLen;omega) (by omega) (by simp;omega) _ rfl ?_;intro g ad w4 uP V U am))
     have G4:=wW.push (Md YP d) D7 (p:=p) (by omega) s2 i (.slice xa xk xc,H) C (bJ N _ none) uP V U;have Q:=(D6.alloc _).grown V (fun e=>by have:=(b.lt _ e.symm).1;omega) (fun e=>by have:=(b.lt _ e.symm).1;omega);have ab:=Dm (aR Vm i) (bJ N _ none) V (fun k y=>(b.lt _ y).1);go_roundg lW.length
     case measure=>omega
     case rel=>exact⟨lW,c++[H],J,rfl,by omega,by simp;omega,Q,G4,ab,O⟩
   ·have z:Hid (¬Lx.hd j=Ca):=hb
    clear hb
    go_wp2_with (first
     | (go_at_call 152;refine(IG A Ca z.out).mono ?_;rintro e w'⟨rfl,hw⟩;obtain rfl:=hw.symm))
    go_ret;refine Ends.yes (x:=c) (ts':=j) (by rw[m.out];simp only[l9];rw[dt z.out]) hg A ?_;exact l.seq
theorem abZ:∀d,d<=8->R3 d
 |0,_=>aa5 (abW (aa1 ahf))
 |d+1,h=>aa5 (abW (aa1 (ahg (by omega) (abZ d (by omega)))))
end
section
open Go.RowKit
open Lx (Tk)
open Tr
def anh(lo:Nat)(w':World)(v:Value)(r:Lx.Rl):Prop:=∃va,v=.agg #[.string r.name,va]/\eG YP 9 (In lo w'.heap.size) w' va r.alts
theorem FL(G t:Nat)(L:List Tk)(p:Nat)(w:World)(ts:List Tk)(h:Rd G t L p w ts 0):
  Calls prog 113 #[.pointer (some ⟨p,0,none⟩)] w (Ends G t L p 0 (anh w.heap.size) w (iw ts)):=by
 have hp:=h.lt;have hs:=h.Ap;have h1:=h.alloc (.cells #[.string ⟨#[]⟩,.slice none 0 0] 254);have kB:=aj.new w #[.string ⟨#[]⟩,.slice none 0 0] 254;have V:=bJ w (.cells #[.string ⟨#[]⟩,.slice none 0 0] 254) (some p);go_enter func113,ntmps113;go_wp2_with fail;refine(abU h1).mono ?_;intro e w1 c;cases hr1:eT Lx.isName ts with
 |error x=>
  obtain⟨n,a⟩:=x;obtain⟨rfl,m⟩:=c.err hr1;exact⟨rfl,Ends.no (by unfold iw;rw[hr1]) (aR V m)⟩
 |ok x=>
  obtain⟨b,aG⟩:=x;obtain⟨v,rfl,m,Uk,rfl⟩:=c.ok hr1;have j:Hid _:=hr1;clear hr1 c;have R:=aR V m;have D:=kB.grown m (by simp;omega);have Z:=R.size;have sB:=D.lt;have h2:=Uk.alloc (.cells #[.string b,.slice none 0 0] 254);have kC:=aj.new w1 #[.string b,.slice none 0 0] 254;have E:=D.alloc (.cells #[.string b,.slice none 0 0] 254);have T:=aR R (bJ w1 (.cells #[.string b,.slice none 0 0] 254) (some p));go_wp2_with fail;refine(Me h2 mE (by decide)).mono ?_;intro e w2 c;cases hr2:jy mE aG with
  |error x=>
   obtain⟨n,a⟩:=x;obtain⟨rfl,f⟩:=c.err hr2;exact⟨rfl,Ends.no (by unfold iw;simp only[j.out,hr2]) (aR T f)⟩
  |ok x=>
   obtain⟨u,S⟩:=x;obtain⟨v,rfl,f,JL,rfl⟩:=c.ok hr2;have y:Hid _:=hr2;clear hr2 c;have N:=aR T f;have J:=kC.grown f (by simp;omega);have A:=E.grown f (by simp;omega);have sC:=J.lt;go_wp2_with fail;refine(abZ 8 (dy _) G t L p w2 S 0 rfl JL).mono ?_;intro e M c;cases hr3:nJ 8 S with
   |error x=>
    obtain⟨n,a⟩:=x;obtain⟨rfl,g⟩:=c.err hr3;exact⟨rfl,Ends.no (by unfold iw;simp only[j.out,y.out,hr3]) (aR N g)⟩
   |ok x=>
    obtain⟨l,lW⟩:=x;obtain⟨v,rfl,g,D6,H⟩:=c.ok hr3;obtain⟨o,q,r,rfl⟩:=eG.form H;have C:Hid _:=hr3;clear hr3 c;have G3:=aR N g;have F:=J.grown g (by simp;omega);have z:=A.grown g (by simp;omega);have c1:M.cell? ⟨w1.heap.size,1,none⟩=some (.slice none 0 0):=F.cell 1;have f1:∀i,M.frozen? ⟨w1.heap.size,i,none⟩=false:=F.frozen;have h4:=D6.setOther (b:=w1.heap.size) 1 (.slice o q r) (by omega) (by omega);have OY:=F.set 1 (.slice o q r);have X:=z.other (b':=w1.heap.size) (i:=1) (by omega) (.slice o q r);have U:=eF G3 (b:=w1.heap.size) Z 1 (.slice o q r);have P:=DR.move (lo':=w2.heap.size) H (dy _) (iM M w1.heap.size 1 (.slice o q r)) (fun k s=>by cases s;omega);clear kC E J A F z H;go_wp2_with fail;refine(Me h4 mO (by decide)).mono ?_;intro e B c;cases ru:jy mO lW with
    |error x=>
     obtain⟨n,a⟩:=x;obtain⟨rfl,d⟩:=c.err ru;exact⟨rfl,Ends.no (by unfold iw;simp only[j.out,y.out,C.out,ru]) (aR U d)⟩
    |ok x=>
     obtain⟨u',I⟩:=x;obtain⟨v,rfl,d,K,rfl⟩:=c.ok ru;have HP:Hid (iw ts=.ok (⟨b,l,Lx.pl ts⟩,I)):=by
      show _=_;unfold iw;simp only[j.out,y.out,C.out,ru]
     clear ru c;have Q:=OY.grown d (by simp;omega);have O:=X.grown d (by simp;omega);have d0:B.cell? ⟨w1.heap.size,0,none⟩=some (.string b):=Q.cell 0;have d1:B.cell? ⟨w1.heap.size,1,none⟩=some (.slice o q r):=Q.cell 1;have e0:B.cell? ⟨w.heap.size,0,none⟩=some (.string ⟨#[]⟩):=O.cell 0;have e1:B.cell? ⟨w.heap.size,1,none⟩=some (.slice none 0 0):=O.cell 1;have f2:∀i,B.frozen? ⟨w.heap.size,i,none⟩=false:=O.frozen;have W:=N.size;go_wp2_with fail;refine fy (v:=.agg #[.string b,.slice o q r]) (by simp[results,results113,go_sem,e0,e1]) rfl ?_;refine Ends.yes HP.out (eF (eF (aR U d) (dy _) _ _) (dy _) _ _) ((K.setOther _ _ (by omega) (by omega)).setOther _ _ (by omega) (by omega)) ⟨_,rfl,?_⟩;have Y:=P.move (dy _) d (fun k s=>by cases s;omega);have m2:=Y.move (dy _) (iM _ w.heap.size 0 (.string b)) (fun k s=>by cases s;omega);exact m2.move W (iM _ w.heap.size 1 (.slice o q r)) (fun k s=>by cases s;omega)
end
section
open Go.RowKit
open Lx (Tk)
open Tr
theorem Tryz.TU:(prog.info? 9).map (fun i=>(i.zero,i.size,i.bytes))=some (some (.string ⟨#[]⟩),1,16):=by kernel_rfl
def cT:Value×Tk->List Value:=fun q=>[.string q.2.1]
def KT:(Nat->Prop)->World->Value->Tk->Prop:=fun _ _ _ _=>True
theorem uL:sW KT:=fun _ _ _ _ _ _ _ _ _=>trivial
def amQ(lo:Nat)(w':World)(v:Value)(lv:Lx.Lv):Prop:=∃va,v=.agg #[.int .i64 (lv.kind:Int),va]/\Tr.Seq (In lo w'.heap.size) w' 9 1 cT (fun _ _=>True) va lv.tokens
theorem QK{b:ByteArray}(h:0<=iL b):b≠aW:=by
 intro e;subst e;revert h;decide
def JN(k:Nat):aV (List Tk)->aV Lx.Lv
 |.error e=>.error e
 | .ok (l,ts)=>.ok (⟨k,l⟩,ts)
theorem Ru{ts a:List Tk}{b:ByteArray}(h:eT Lx.isToken ts.tail=.ok (b,a)):jY ts=JN (iL (Lx.hd ts)).toNat (jG a.length a [(b,Lx.pl ts.tail)]):=by
 unfold jY;rw[h];cases hr:jG a.length a [(b,Lx.pl ts.tail)] with
 |error e=>simp only[JN,hr]
 |ok y=>obtain⟨l,t⟩:=y;simp only[JN,hr]
theorem R8(sb V:Nat)(L:List Tk)(p:Nat)(w:World)(ts:List Tk)(h:Rd sb V L p w ts 0)(ao:0<=iL (Lx.hd ts)):
  Calls prog 112 #[.pointer (some ⟨p,0,none⟩)] w (Ends sb V L p 0 (amQ w.heap.size) w (jY ts)):=by
 obtain⟨i0,hi,ae,an,aa⟩:=ft Tryz.TU;have hp:=h.lt;have hs:=h.Ap;have a9:=h.lb;have a1:=h.len;have S:=QK ao;have OZ:Hid _:=S;clear S;have h1:=h.alloc (.cells #[.int .i64 0,.slice none 0 0] 250);have h2:=h1.alloc (.cells #[.int .i64 (iL (Lx.hd ts)),.slice none 0 0] 250);have kB:=(aj.new w #[.int .i64 0,.slice none 0 0] 250).alloc (.cells #[.int .i64 (iL (Lx.hd ts)),.slice none 0 0] 250);have kC:=aj.new (w.alloc (.cells #[.int .i64 0,.slice none 0 0] 250)) #[.int .i64 (iL (Lx.hd ts)),.slice none 0 0] 250;rw[show (w.alloc (.cells #[.int .i64 0,.slice none 0 0] 250)).heap.size=w.heap.size+1 by simp]at kC;have G0:=aR (bJ w (.cells #[.int .i64 0,.slice none 0 0] 250) (some p)) (bJ _ (.cells #[.int .i64 (iL (Lx.hd ts)),.slice none 0 0] 250) (some p));go_enter func112,ntmps112
 go_wp2_with (first
  | (go_at_call 111;refine(oQ h1).mono ?_;rintro e w'⟨rfl,U⟩;obtain rfl:=U.symm)
  | (go_at_call 110;refine(Ip _ _).mono ?_;rintro e w'⟨rfl,U⟩;obtain rfl:=U.symm))
 refine(DF h2 OZ.out).mono ?_;rintro e w1⟨rfl,B,T⟩;have am:=kB.grown B (by simp;omega);have iP:=kC.grown B (by simp;omega);have G1:=aR G0 B;have s1:=B.size;have sA:((w.alloc (.cells #[.int .i64 0,.slice none 0 0] 250)).alloc (.cells #[.int .i64 (iL (Lx.hd ts)),.slice none 0 0] 250)).heap.size=w.heap.size+2:=by simp
 have c0:w1.cell? ⟨w.heap.size+1,1,none⟩=some (.slice none 0 0):=iP.cell 1;have f0:∀i,w1.frozen? ⟨w.heap.size+1,i,none⟩=false:=iP.frozen;clear kB kC G0 h2 h1;have O:=T.drew;have P:=aR G1 (oL w1 (some p));have D8:yP (w.heap.size+2) w1 9 1 cT KT (.slice none 0 0) [] [] (fun _=>False):=⟨rfl,eQ _ _ _ _,fun q h=>by simp at h,fun b h=>h.elim,fun _ _ h=>h⟩;cases l:eT Lx.isToken ts.tail with
 |error x=>
  obtain⟨n,a⟩:=x;have N:Hid _:=l;have HE:Hid (jY ts=.error (n,a)):=by show _=_;unfold jY;rw[l]
  clear l;go_wp2_with fail;refine sv (by kernel_rfl) ?_;refine nz (i:=0) (v:=.pointer (some ⟨w.heap.size+1,1,none⟩)) rfl (by kernel_rfl) (by kernel_rfl) (by kernel_rfl) (fun _ _ _ h=>h) (qh ⟨by rfl,fun w=>by go_simp⟩) ?_;refine nz (i:=2) (v:=.pointer (some ⟨p,0,none⟩)) rfl (by kernel_rfl) (by kernel_rfl) (by kernel_rfl) (fun _ _ _ h=>h) (qh ⟨by rfl,fun w=>by go_simp⟩) ?_;refine nz (i:=3) (v:=.pointer (some ⟨p,0,none⟩)) rfl (by kernel_rfl) (by kernel_rfl) (by kernel_rfl) (fun _ _ _ h=>h) (qh ⟨by rfl,fun w=>by go_simp⟩) ?_;refine nz (i:=4) (v:=.pointer (some ⟨p,0,none⟩)) rfl (by kernel_rfl) (by kernel_rfl) (by kernel_rfl) (fun _ _ _ h=>h) (qh ⟨by rfl,fun w=>by go_simp⟩) ?_;refine pg (rs:=[1,5]) (by kernel_rfl) (by simp) ?_;refine lr rfl (fun K J=>?_) (lr rfl (fun K J=>?_) ol)
  ·change if _ then Oper.wp _ _ _ w1.drew _ _ else _
   go_simp
   refine J _ _ ?_;clear J K;refine pg (rs:=[5]) (by kernel_rfl) (by simp) ?_;refine lr rfl (fun K J=>?_) ol;exact uM rfl 151 #[.pointer (some ⟨p,0,none⟩)] (by go_simp) (Bw O) fun e w2 u=>by obtain⟨rfl,d⟩:=u.err N.out;exact⟨_,rfl,rfl,Ends.no HE.out (aR P d)⟩
  ·change if _ then Oper.wp _ _ _ w1.drew _ _ else _
   exact uM rfl 151 #[.pointer (some ⟨p,0,none⟩)] (by go_simp) (Bw O) fun e w2 u=>by obtain⟨rfl,d⟩:=u.err N.out;exact⟨_,rfl,rfl,Ends.no HE.out (aR P d)⟩
 |ok x=>
  obtain⟨b,cu⟩:=x;have Aq:=Ru l;have af:Hid _:=Aq;have ac:=(oO l).1;have ap:=T.wf.sV;have a6:=h.wf.sV;have ah:cu.length+1=ts.tail.length:=by rw[ac];exact ap
  have N:Hid _:=l;clear l Aq ac;go_wp2_with fail
  go_region_law (first
   | (refine step_append_lies _ rfl (.tmp 15) (.tmp 20) 53 rfl (w.heap.size+2) 9 i0 _ 1 16 underlying53 hi ae an aa rfl (by decide) (.slice none 0 0) 0 [] (by simp[Act.eval]) (E.alloc _) ⟨w2.heap.size,0,none⟩ 1 1 (cT (.bool false,(b,Lx.pl ts.tail))) (by simp[Act.eval]) rfl (eO (aj.new w2 _ 9)) (by simp[cT,Value.oneCell']) (by decide) (by unfold maxLen;omega) (by omega) (by have:=d.size;simp at this;simp;omega) _ rfl ?_;intro g j W D c ai aF;have gy:=(iJ.alloc _).grown c (by simp[Value.ownBlock]);have aw:W.cell? ⟨w.heap.size+1,1,none⟩=some (.slice none 0 0):=gy.cell 1;have ax:∀i,W.frozen? ⟨w.heap.size+1,i,none⟩=false:=gy.frozen)
   | (refine jW rfl 151 #[.pointer (some ⟨p,0,none⟩)] (by go_simp) (Bw O) ?_;intro e w2 u;obtain⟨vv,rfl,d,l,rfl⟩:=u.ok N.out;refine⟨_,rfl,?_⟩;have E:=((D8.kept uL (oL w1 none) (by simp)).kept uL d (fun k z=>by cases z;omega)).2.1;have iJ:=iP.drew.grown d (by simp;omega);have Vl:w2.cell? ⟨w.heap.size+1,1,none⟩=some (.slice none 0 0):=iJ.cell 1;have ah:=iJ.lt))
  all_goals
   have G3:=yP.push uL (D8.kept uL (oL w1 none) (by simp)) (p:=p) (by omega) (by have:w1.drew.heap.size=w1.heap.size:=rfl;omega) d (.bool false,(b,Lx.pl ts.tail)) trivial (bJ w2 _ none) D c ai;have ag:=((am.drew.grown d (by simp;omega)).alloc _).grown c (by simp[Value.ownBlock]);have ab:=(l.alloc _).grown c (by simp[Value.ownBlock]) (by simp[Value.ownBlock]);have OX:=Dm (aR P d) (bJ w2 _ none) c (by simp[Value.ownBlock]);have a4:w2.heap.size+1<=W.heap.size:=by have:=c.size;simpa using this
   have aA:w1.heap.size<=w2.heap.size:=d.size;clear D c ai E iJ Vl c0 f0;go_wp2_with fail;have ar:(W.setCell ⟨w.heap.size+1,1,none⟩ (.slice (some ⟨g,0,none⟩) 1 j)).heap.size=W.heap.size:=by simp[World.setCell]
   have Gs:Grow (w.heap.size+2) (W.setCell ⟨w.heap.size+1,1,none⟩ (.slice (some ⟨g,0,none⟩) 1 j)) 9 1 cT KT (.slice (some ⟨g,0,none⟩) 1 j) [(b,Lx.pl ts.tail)]:=Grow.kept uL G3 (iM W (w.heap.size+1) 1 _) (fun k z=>by cases z;omega);have Kh:=ab.setOther (b:=w.heap.size+1) 1 (.slice (some ⟨g,0,none⟩) 1 j) (by omega) (by omega);have Ki:=gy.set 1 (.slice (some ⟨g,0,none⟩) 1 j);have Kj:=ag.other (b':=w.heap.size+1) (i:=1) (by omega) (.slice (some ⟨g,0,none⟩) 1 j);have gS:=eF OX (b:=w.heap.size+1) (by omega) 1 (.slice (some ⟨g,0,none⟩) 1 j);clear G3 gy ag ab OX aw ax
   go_loopg [] cu.length (fun k wr=>∃(s:List Tk)(r:List Tk)(v:Value)(f:Nat),s.length=k/\s.length<=f/\r.length+s.length<=ts.length/\w.heap.size+2<=wr.heap.size/\Rd sb V L p wr s 0/\aj wr (w.heap.size+1) #[.int .i64 (iL (Lx.hd ts)),v] 250/\aj wr w.heap.size #[.int .i64 0,.slice none 0 0] 250 /\
     Grow (w.heap.size+2) wr 9 1 cT KT v r/\w.grownBy wr (some p)/\Hid (jY ts=JN (iL (Lx.hd ts)).toNat (jG f s r)))
   case atStart=>exact⟨cu,[(b,Lx.pl ts.tail)],_,cu.length,rfl,dy _,by simp;omega,by omega,Kh,Ki,Kj,Gs,gS,af⟩
   case round=>
    obtain⟨s,r,v,f,z,hf,a2,hsz,Z,xS,vO,Q,hg,y⟩:=hrel;clear Gs Kh Ki Kj gS ar af am iP D8 O P T B d l u;have S:=Z.wf.ne;obtain⟨f',rfl⟩:∃f',f=f'+1:=⟨f-1,by omega⟩;obtain⟨ps,F,M⟩:=Q;have m:=M.2.1;obtain⟨va,X,Y,rfl⟩:=Fy m;have c0:wr.cell? ⟨w.heap.size+1,1,none⟩=some (.slice va X Y):=xS.cell 1;have ck:wr.cell? ⟨w.heap.size+1,0,none⟩=some (.int .i64 (iL (Lx.hd ts))):=xS.cell 0;have f0:∀i,wr.frozen? ⟨w.heap.size+1,i,none⟩=false:=xS.frozen
    by_cases G:Lx.hd s=mO
    ·have HP:Hid (jY ts=.ok (⟨(iL (Lx.hd ts)).toNat,r⟩,s.tail)):=by
      show _=_;rw[y.out];simp only[jG];rw[dj G];rfl
     have HB:Hid (Lx.hd s=mO):=G;clear G y;go_wp2_with fail;refine(Ml Z mO (by decide) HB.out).mono ?_;rintro e w4⟨rfl,H,o⟩;have OY:=xS.grown H (by simp;omega);have su:=vO.grown H (by simp;omega);have d0:w4.cell? ⟨w.heap.size+1,0,none⟩=some (.int .i64 (iL (Lx.hd ts))):=OY.cell 0;have d1:w4.cell? ⟨w.heap.size+1,1,none⟩=some (.slice va X Y):=OY.cell 1;have e0:w4.cell? ⟨w.heap.size,0,none⟩=some (.int .i64 0):=su.cell 0;have e1:w4.cell? ⟨w.heap.size,1,none⟩=some (.slice none 0 0):=su.cell 1;have f2:∀i,w4.frozen? ⟨w.heap.size,i,none⟩=false:=su.frozen;have ad:=Grow.seq uL (Grow.kept uL ⟨ps,F,M⟩ H (fun k z=>by cases z;omega));have al:(((iL (Lx.hd ts)).toNat:Nat):Int)=iL (Lx.hd ts):=by omega
     have aq:Hid _:=al;clear al;go_wp2_with fail;refine fy (v:=.agg #[.int .i64 (iL (Lx.hd ts)),.slice va X Y]) (by simp[results,results112,go_sem,e0,e1]) rfl ?_;refine Ends.yes HP.out (eF (eF (aR hg H) (dy _) _ _) (dy _) _ _) ((o.setOther _ _ (by omega) (by omega)).setOther _ _ (by omega) (by omega)) ⟨_,by rw[aq.out],?_⟩;refine ad.move (fun b G=>?_) (fun b G=>?_) (fun _ _ h=>h)
     ·have h1:=G.1
      rw[fX _ _ _ _ (fun e=>by have e':b=w.heap.size:=e;omega),fX _ _ _ _ (fun e=>by have e':b=w.heap.size:=e;omega)]
     ·have h1:=G.1
      have h2:=G.2;exact⟨by omega,by simpa [World.setCell]using h2⟩
    ·have HB:Hid (¬Lx.hd s=mO):=G
     clear G;have O:=Z.drew;have P:=aR hg (oL wr (some p));cases o:eT Lx.isToken s with
     |error x=>
      obtain⟨n,a⟩:=x;have HE:Hid (jY ts=.error (n,a)):=by
       show _=_;rw[y.out];simp only[jG];rw[dt HB.out,o];rfl
      have I:Hid _:=o;clear o y
      go_wp2_with (first
       | (go_at_call 152;refine(IG Z mO HB.out).mono ?_;rintro e w'⟨rfl,U⟩;obtain rfl:=U.symm))
      refine sv (by kernel_rfl) ?_;refine nz (i:=0) (v:=.pointer (some ⟨w.heap.size+1,1,none⟩)) rfl (by kernel_rfl) (by kernel_rfl) (by kernel_rfl) (fun _ _ _ h=>h) (qh ⟨by rfl,fun w=>by go_simp⟩) ?_;refine nz (i:=2) (v:=.pointer (some ⟨p,0,none⟩)) rfl (by kernel_rfl) (by kernel_rfl) (by kernel_rfl) (fun _ _ _ h=>h) (qh ⟨by rfl,fun w=>by go_simp⟩) ?_;refine nz (i:=3) (v:=.pointer (some ⟨p,0,none⟩)) rfl (by kernel_rfl) (by kernel_rfl) (by kernel_rfl) (fun _ _ _ h=>h) (qh ⟨by rfl,fun w=>by go_simp⟩) ?_;refine nz (i:=4) (v:=.pointer (some ⟨p,0,none⟩)) rfl (by kernel_rfl) (by kernel_rfl) (by kernel_rfl) (fun _ _ _ h=>h) (qh ⟨by rfl,fun w=>by go_simp⟩) ?_;refine pg (rs:=[1,5]) (by kernel_rfl) (by simp) ?_;refine lr rfl (fun K J=>?_) (lr rfl (fun K J=>?_) ol)
      ·change if _ then Oper.wp _ _ _ wr.drew _ _ else _
       go_simp
       refine J _ _ ?_;clear J K;refine pg (rs:=[5]) (by kernel_rfl) (by simp) ?_;refine lr rfl (fun K J=>?_) ol;exact uM rfl 151 #[.pointer (some ⟨p,0,none⟩)] (by go_simp) (Bw O) fun e w2 u=>by obtain⟨rfl,d⟩:=u.err I.out;exact⟨_,rfl,rfl,Ends.no HE.out (aR P d)⟩
      ·change if _ then Oper.wp _ _ _ wr.drew _ _ else _
       exact uM rfl 151 #[.pointer (some ⟨p,0,none⟩)] (by go_simp) (Bw O) fun e w2 u=>by obtain⟨rfl,d⟩:=u.err I.out;exact⟨_,rfl,rfl,Ends.no HE.out (aR P d)⟩
     |ok x=>
      obtain⟨bb,oD⟩:=x;have ak:=(oO o).1;have Gq:=Z.wf.sV;have Gd:oD.length+1=s.length:=by rw[ak];exact Gq
      have Cw:Hid (jY ts=JN (iL (Lx.hd ts)).toNat (jG f' oD (r++[(bb,Lx.pl s)]))):=by
       show _=_;rw[y.out];simp only[jG];rw[dt HB.out,o]
      have I:Hid _:=o;clear o y ak
      go_wp2_with (first
       | (go_at_call 152;refine(IG Z mO HB.out).mono ?_;rintro e w'⟨rfl,U⟩;obtain rfl:=U.symm))
      go_region_law (first
       | (refine step_append_lies _ rfl (.tmp 29) (.tmp 34) 53 rfl (w.heap.size+2) 9 i0 _ 1 16 underlying53 hi ae an aa rfl (by decide) (.slice va X Y) r.length (ps.flatMap cT) (by simp[Act.eval]) (C.alloc _) ⟨w5.heap.size,0,none⟩ 1 1 (cT (.bool false,(bb,Lx.pl s))) (by simp[Act.eval]) rfl (eO (aj.new w5 _ 9)) (by simp[cT,Value.oneCell']) (by decide) (by unfold maxLen;omega) (by omega) (by have:=t.size;simp at this;simp;omega) _ rfl ?_;intro g6 a0 w6 A R xB aE;have Vn:=(oF.alloc _).grown R (fun e=>by have:=(m.lt _ e.symm).1;omega);have a8:w6.cell? ⟨w.heap.size+1,1,none⟩=some (.slice va X Y):=Vn.cell 1;have a7:∀i,w6.frozen? ⟨w.heap.size+1,i,none⟩=false:=Vn.frozen)
       | (refine jW rfl 151 #[.pointer (some ⟨p,0,none⟩)] (by go_simp) (Bw O) ?_;intro e w5 u;obtain⟨vv,rfl,t,ru,rfl⟩:=u.ok I.out;refine⟨_,rfl,?_⟩;have C:=((M.kept uL (oL wr none) (by simp)).kept uL t (fun k z=>by cases z;omega)).2.1;have oF:=xS.drew.grown t (by simp;omega);have Kk:w5.cell? ⟨w.heap.size+1,1,none⟩=some (.slice va X Y):=oF.cell 1;have JO:=oF.lt))
      all_goals
       have G6:=yP.push uL (M.kept uL (oL wr none) (by simp)) (p:=p) (by omega) (by have:wr.drew.heap.size=wr.heap.size:=rfl;omega) t (.bool false,(bb,Lx.pl s)) trivial (bJ w5 _ none) A R xB;have O0:=((vO.drew.grown t (by simp;omega)).alloc _).grown R (fun e=>by have:=(m.lt _ e.symm).1;omega);have Ar:=(ru.alloc _).grown R (fun e=>by have:=(m.lt _ e.symm).1;omega) (fun e=>by have:=(m.lt _ e.symm).1;omega);have az:=Dm (aR P t) (bJ w5 _ none) R (fun k z=>by have:=(m.lt _ z).1;omega);have av:=R.size;have a3:=t.size;have a5:wr.drew.heap.size=wr.heap.size:=rfl;clear A R xB C oF Kk c0 f0 u;go_wp2_with fail;go_roundg oD.length
       case measure=>omega
       case rel=>
        refine⟨oD,r++[(bb,Lx.pl s)],_,f',rfl,by omega,by simp;omega,?_,Ar.setOther _ _ (by omega) (by omega),Vn.set 1 _,O0.other (by omega) _,?_,eF az (by omega) _ _,Cw⟩
        ·simp only[World.setCell,Array.size_modify];have:=av;simp at this;omega
        ·exact Grow.kept uL G6 (iM w6 (w.heap.size+1) 1 _) (fun k z=>by cases z;omega)
end
section
open Go.RowKit
open Lx (Tk)
open Tr
theorem Tryz.alv:(prog.info? 250).map (fun i=>(i.zero,i.size,i.bytes))=some (some (.agg #[.int .i64 0,.slice none 0 0]),2,32):=by kernel_rfl
theorem Tryz.alx:(prog.info? 254).map (fun i=>(i.zero,i.size,i.bytes))=some (some (.agg #[.string ⟨#[]⟩,.slice none 0 0]),2,40):=by kernel_rfl
def cL:Value×Lx.Lv->List Value:=fun q=>[.int .i64 (q.2.kind:Int),q.1]
def KL:(Nat->Prop)->World->Value->Lx.Lv->Prop:=fun F w va lv=>Tr.Seq F w 9 1 cT (fun _ _=>True) va lv.tokens
theorem zZ:sW KL:=fun _ _ _ _ _ _ b a h=>Seq.move h b a (fun _ _ h=>h)
def cR:Value×Lx.Rl->List Value:=fun q=>[.string q.2.name,q.1]
def KR:(Nat->Prop)->World->Value->Lx.Rl->Prop:=fun F w va r=>eG YP 9 F w va r.alts
theorem rJ:sW KR:=fun _ _ _ _ _ _ b a h=>eG.move b a h
def BM(F:Nat->Prop)(w:World)(vl vr:Value)(g:Lx.Gr):Prop:=Tr.Seq F w 250 2 cL (KL F w) vl g.levels/\Tr.dV F w 254 2 cR KR vr g.rules
def ani(lo:Nat)(w':World)(v:Value)(g:Lx.Gr):Prop:=∃vl vr,v=.agg #[vl,vr]/\BM (In lo w'.heap.size) w' vl vr g
theorem BM.move{F i:Nat->Prop}{w w':World}{d f:Value}{g:Lx.Gr}(h:BM F w d f g)(a:∀b,F b->w'.heap[b]?=w.heap[b]?)(c:∀b,F b->i b):BM i w' d f g :=
 ⟨h.1.move a c fun _ _ h=>zZ _ _ _ _ _ _ a c h,h.2.move a c fun _ _ _ k h=>rJ _ _ _ _ _ _ (fun b j=>a b (k b j)) (fun _ h=>h) h⟩
theorem aho(Q m:Nat)(L:List Tk)(p:Nat)(w:World)(ts:List Tk)(h:Rd Q m L p w ts 0):
  Calls prog 71 #[.pointer (some ⟨p,0,none⟩)] w (Ends Q m L p 0 (ani w.heap.size) w (iZ ts)):=by
 obtain⟨a3,ba,a8,aF,aG⟩:=ft Tryz.alv;obtain⟨av,ag,ap,al,aw⟩:=ft Tryz.alx;have hp:=h.lt;have hs:=h.Ap;have br:=h.lb;have bd:=h.len;have h2:=(h.alloc (.cells #[.slice none 0 0,.slice none 0 0] 105)).alloc (.cells #[.slice none 0 0,.slice none 0 0] 105);have kB:=(aj.new w #[.slice none 0 0,.slice none 0 0] 105).alloc (.cells #[.slice none 0 0,.slice none 0 0] 105);have kC:=aj.new (w.alloc (.cells #[.slice none 0 0,.slice none 0 0] 105)) #[.slice none 0 0,.slice none 0 0] 105;have G0:=aR (bJ w (.cells #[.slice none 0 0,.slice none 0 0] 105) (some p)) (bJ _ (.cells #[.slice none 0 0,.slice none 0 0] 105) (some p));rw[show (w.alloc (.cells #[.slice none 0 0,.slice none 0 0] 105)).heap.size=w.heap.size+1 by simp]at kC;have O1:Hid _:=agq ts;go_enter func71,ntmps71;go_wp2_with fail
 go_loopg [] ts.length (fun k c=>∃(G:List Tk)(o:List Lx.Lv)(v:Value)(f:Nat),G.length=k/\G.length<=f/\o.length+G.length<=ts.length/\w.heap.size+2<=c.heap.size/\Rd Q m L p c G 0/\aj c (w.heap.size+1) #[v,.slice none 0 0] 105/\aj c w.heap.size #[.slice none 0 0,.slice none 0 0] 105 /\
   Grow (w.heap.size+2) c 250 2 cL KL v o/\w.grownBy c (some p)/\Hid (iZ ts=Ol (jO f G o)))
 case atStart=>exact⟨ts,[],_,ts.length,rfl,dy _,by simp,by simp,h2,kC,kB,Grow.nil _ _ _ _ _ _,G0,O1⟩
 case round=>
  revert wr;intro c hrel;obtain⟨G,o,v,f,E,hf,bf,hsz,hr,xS,vO,ad,hg,R⟩:=hrel;clear h2 kB kC G0 O1;have bp:=hr.wf.ne;obtain⟨f',rfl⟩:∃f',f=f'+1:=⟨f-1,by omega⟩;obtain⟨ps,F,ab⟩:=ad;have z:=ab.2.1;obtain⟨X,U,V,rfl⟩:=Fy z;have c0:c.cell? ⟨w.heap.size+1,0,none⟩=some (.slice X U V):=xS.cell 0;have c1:c.cell? ⟨w.heap.size+1,1,none⟩=some (.slice none 0 0):=xS.cell 1;have f0:∀i,c.frozen? ⟨w.heap.size+1,i,none⟩=false:=xS.frozen;have W:=hr.drew;have Y:=aR hg (oL c (some p))
  by_cases hlk:0<=iL (Lx.hd G)
  ·cases hr4:jY G with
   |error x=>
    obtain⟨n,a⟩:=x;have HE:Hid (iZ ts=.error (n,a)):=by
     show _=_;rw[R.out];simp only[jO];rw[dj hlk,hr4];rfl
    have C:Hid _:=hr4;clear hr4 R
    go_wp2_with (first
     | (go_at_call 111;refine(oQ hr).mono ?_;rintro e Z⟨rfl,u⟩;obtain rfl:=u.symm)
     | (go_at_call 110;refine(Ip _ _).mono ?_;rintro e Z⟨rfl,u⟩;obtain rfl:=u.symm))
    refine sv (by kernel_rfl) ?_;refine nz (i:=0) (v:=.pointer (some ⟨w.heap.size+1,0,none⟩)) rfl (by kernel_rfl) (by kernel_rfl) (by kernel_rfl) (fun _ _ _ h=>h) (qh ⟨by rfl,fun w=>by go_simp⟩) ?_;refine nz (i:=2) (v:=.pointer (some ⟨p,0,none⟩)) rfl (by kernel_rfl) (by kernel_rfl) (by kernel_rfl) (fun _ _ _ h=>h) (qh ⟨by rfl,fun w=>by go_simp⟩) ?_;refine pg (rs:=[1,3]) (by kernel_rfl) (by simp) ?_;refine lr rfl (fun K M=>?_) (lr rfl (fun K M=>?_) ol)
    ·change if _ then Oper.wp _ _ _ c.drew _ _ else _
     go_simp
     refine M _ _ ?_;clear M K;refine pg (rs:=[3]) (by kernel_rfl) (by simp) ?_;refine lr rfl (fun K M=>?_) ol;exact uM rfl 112 #[.pointer (some ⟨p,0,none⟩)] (by go_simp) (R8 Q m L p _ G W hlk) fun e w2 y=>by obtain⟨rfl,r⟩:=y.err C.out;exact⟨_,rfl,rfl,Ends.no HE.out (aR Y r)⟩
    ·change if _ then Oper.wp _ _ _ c.drew _ _ else _
     exact uM rfl 112 #[.pointer (some ⟨p,0,none⟩)] (by go_simp) (R8 Q m L p _ G W hlk) fun e w2 y=>by obtain⟨rfl,r⟩:=y.err C.out;exact⟨_,rfl,rfl,Ends.no HE.out (aR Y r)⟩
   |ok x=>
    obtain⟨lv,oD⟩:=x;have aI:=ahk hr4;have Gq:=hr.wf.sV;have Cw:Hid (iZ ts=Ol (jO f' oD (o++[lv]))):=by
     show _=_;rw[R.out];simp only[jO];rw[dj hlk,hr4]
    have C:Hid _:=hr4;clear hr4 R
    go_wp2_with (first
     | (go_at_call 111;refine(oQ hr).mono ?_;rintro e Z⟨rfl,u⟩;obtain rfl:=u.symm)
     | (go_at_call 110;refine(Ip _ _).mono ?_;rintro e Z⟨rfl,u⟩;obtain rfl:=u.symm))
    go_region_law (first
     | (refine step_append_lies _ rfl (.tmp 11) (.tmp 14) 102 rfl (w.heap.size+2) 250 a3 _ 2 32 underlying102 ba a8 aF aG rfl (by decide) (.slice X U V) o.length (ps.flatMap cL) (by simp[Act.eval]) (s.alloc _) ⟨I.heap.size,0,none⟩ 1 1 (cL (.slice xa xk xc,lv)) (by simp[Act.eval]) rfl (eO (aj.new I _ 250)) (by simp[cL,Value.oneCell']) (by decide) (by unfold maxLen;omega) (by omega) (by have:=d.size;have:c.drew.heap.size=c.heap.size:=rfl;simp;omega) _ rfl ?_;intro Au Ag O Jq H JB aP;have Cc:=(oF.alloc _).grown H (fun e=>by have:=(z.lt _ e.symm).1;omega);have az:O.cell? ⟨w.heap.size+1,0,none⟩=some (.slice X U V):=Cc.cell 0;have ak:∀i,O.frozen? ⟨w.heap.size+1,i,none⟩=false:=Cc.frozen)
     | (refine jW rfl 112 #[.pointer (some ⟨p,0,none⟩)] (by go_simp) (R8 Q m L p _ G W hlk) ?_;intro e I y;obtain⟨vv,rfl,d,ru,ae⟩:=y.ok C.out;refine⟨_,rfl,?_⟩;obtain⟨vx,rfl,S⟩:=ae;obtain⟨xa,xk,xc,rfl⟩:=Seq.form S;have s:=((ab.kept zZ (oL c none) (by simp)).kept zZ d (fun k E=>by cases E;omega)).2.1;have oF:=xS.drew.grown d (by simp;omega);have Kk:I.cell? ⟨w.heap.size+1,0,none⟩=some (.slice X U V):=oF.cell 0;have JO:=oF.lt))
    all_goals
     have O3:=yP.push zZ (ab.kept zZ (oL c none) (by simp)) (p:=p) (by omega) (by have:c.drew.heap.size=c.heap.size:=rfl;omega) d (.slice xa xk xc,lv) S (bJ I _ none) Jq H JB;have Om:=((vO.drew.grown d (by simp;omega)).alloc _).grown H (fun e=>by have:=(z.lt _ e.symm).1;omega);have Oo:=(ru.alloc _).grown H (fun e=>by have:=(z.lt _ e.symm).1;omega) (fun e=>by have:=(z.lt _ e.symm).1;omega);have Oq:=Dm (aR Y d) (bJ I _ none) H (fun k E=>by have:=(z.lt _ E).1;omega);have a2:I.heap.size+1<=O.heap.size:=by have:=H.size;simpa using this
     have a5:c.heap.size<=I.heap.size:=d.size;clear Jq H JB s oF Kk c0 f0 y;go_wp2_with fail;go_roundg oD.length
     case measure=>omega
     case rel=>
      refine⟨oD,o++[lv],_,f',rfl,by omega,by simp;omega,?_,Oo.setOther _ _ (by omega) (by omega),Cc.set 0 _,Om.other (by omega) _,?_,eF Oq (by omega) _ _,Cw⟩
      ·simp only[World.setCell,Array.size_modify];omega
      ·exact Grow.kept zZ O3 (iM O (w.heap.size+1) 0 _) (fun k E=>by cases E;omega)
  ·have O4:Hid (iZ ts=Ja o G):=by
    show _=_;rw[R.out];simp only[jO];rw[dt hlk];rfl
   have ai:=Grow.seq zZ ⟨ps,F,ab⟩;have D8:wW c.heap.size c 254 2 cR KR (.slice none 0 0) [] [] []:=⟨rfl,eQ _ _ _ _,(fun j q A h=>by simp at h),(fun A h=>by cases h),(fun g h A hA=>by cases hA),oE,rfl⟩;clear R;cases hr4:iw G with
   |error x=>
    obtain⟨n,a⟩:=x;have HE:Hid (iZ ts=.error (n,a)):=by
     show _=_;rw[O4.out];unfold Ja;rw[hr4]
    have C:Hid _:=hr4;clear hr4 O4
    go_wp2_with (first
     | (go_at_call 111;refine(oQ hr).mono ?_;rintro e Z⟨rfl,u⟩;obtain rfl:=u.symm)
     | (go_at_call 110;refine(Ip _ _).mono ?_;rintro e Z⟨rfl,u⟩;obtain rfl:=u.symm))
    refine sv (by kernel_rfl) ?_;refine nz (i:=0) (v:=.pointer (some ⟨w.heap.size+1,1,none⟩)) rfl (by kernel_rfl) (by kernel_rfl) (by kernel_rfl) (fun _ _ _ h=>h) (qh ⟨by rfl,fun w=>by go_simp⟩) ?_;refine nz (i:=2) (v:=.pointer (some ⟨p,0,none⟩)) rfl (by kernel_rfl) (by kernel_rfl) (by kernel_rfl) (fun _ _ _ h=>h) (qh ⟨by rfl,fun w=>by go_simp⟩) ?_;refine pg (rs:=[1,3]) (by kernel_rfl) (by simp) ?_;refine lr rfl (fun K M=>?_) (lr rfl (fun K M=>?_) ol)
    ·change if _ then Oper.wp _ _ _ c.drew _ _ else _
     go_simp
     refine M _ _ ?_;clear M K;refine pg (rs:=[3]) (by kernel_rfl) (by simp) ?_;refine lr rfl (fun K M=>?_) ol;exact uM rfl 113 #[.pointer (some ⟨p,0,none⟩)] (by go_simp) (FL Q m L p _ G W) fun e w2 y=>by obtain⟨rfl,r⟩:=y.err C.out;exact⟨_,rfl,rfl,Ends.no HE.out (aR Y r)⟩
    ·change if _ then Oper.wp _ _ _ c.drew _ _ else _
     exact uM rfl 113 #[.pointer (some ⟨p,0,none⟩)] (by go_simp) (FL Q m L p _ G W) fun e w2 y=>by obtain⟨rfl,r⟩:=y.err C.out;exact⟨_,rfl,rfl,Ends.no HE.out (aR Y r)⟩
   |ok x=>
    obtain⟨rl,oD⟩:=x;have aI:=Rt hr4;have Gq:=hr.wf.sV;have Cw:Hid (iZ ts=Nr o (jv oD.length oD [rl])):=by
     show _=_;rw[O4.out];unfold Ja;rw[hr4]
    have C:Hid _:=hr4;clear hr4 O4
    go_wp2_with (first
     | (go_at_call 111;refine(oQ hr).mono ?_;rintro e Z⟨rfl,u⟩;obtain rfl:=u.symm)
     | (go_at_call 110;refine(Ip _ _).mono ?_;rintro e Z⟨rfl,u⟩;obtain rfl:=u.symm))
    go_region_law (first
     | (refine step_append_lies _ rfl (.tmp 18) (.tmp 21) 103 rfl c.heap.size 254 av _ 2 40 underlying103 ag ap al aw rfl (by decide) (.slice none 0 0) 0 [] (by simp[Act.eval]) (s.alloc _) ⟨I.heap.size,0,none⟩ 1 1 (cR (.slice xa xk xc,rl)) (by simp[Act.eval]) rfl (eO (aj.new I _ 254)) (by simp[cR,Value.oneCell']) (by decide) (by unfold maxLen;omega) (by omega) (by have:=d.size;have:c.drew.heap.size=c.heap.size:=rfl;simp;omega) _ rfl ?_;intro Au Ag O Jq H JB aP;have Cc:=(oF.alloc _).grown H (by simp[Value.ownBlock]);have az:O.cell? ⟨w.heap.size+1,1,none⟩=some (.slice none 0 0):=Cc.cell 1;have ak:∀i,O.frozen? ⟨w.heap.size+1,i,none⟩=false:=Cc.frozen)
     | (refine jW rfl 113 #[.pointer (some ⟨p,0,none⟩)] (by go_simp) (FL Q m L p _ G W) ?_;intro e I y;obtain⟨vv,rfl,d,ru,ae⟩:=y.ok C.out;refine⟨_,rfl,?_⟩;obtain⟨vx,rfl,S⟩:=ae;obtain⟨xa,xk,xc,rfl⟩:=eG.form S;have s:=((D8.kept rJ (oL c none) (by simp)).kept rJ d (fun k E=>by cases E;omega)).2.1;have oF:=xS.drew.grown d (by simp;omega);have Kk:I.cell? ⟨w.heap.size+1,1,none⟩=some (.slice none 0 0):=oF.cell 1;have JO:=oF.lt))
    all_goals
     have O3:=wW.push rJ (D8.kept rJ (oL c none) (by simp)) (p:=p) (by omega) (dy _) d (.slice xa xk xc,rl) S (bJ I _ none) Jq H JB;have Om:=((vO.drew.grown d (by simp;omega)).alloc _).grown H (by simp[Value.ownBlock]);have Oo:=(ru.alloc _).grown H (by simp[Value.ownBlock]) (by simp[Value.ownBlock]);have Oq:=Dm (aR Y d) (bJ I _ none) H (by simp[Value.ownBlock]);have a2:I.heap.size+1<=O.heap.size:=by have:=H.size;simpa using this
     have a5:c.heap.size<=I.heap.size:=d.size;have t:∀b,w.heap.size+2<=b->b<c.heap.size->(O.setCell ⟨w.heap.size+1,1,none⟩ (.slice (some ⟨Au,0,none⟩) 1 Ag)).heap[b]?=c.heap[b]?:=fun b h1 h2=>by
      rw[fX _ _ _ _ (fun e=>by have e':b=w.heap.size+1:=e;omega),H.block b (by simp;omega) (by simp[Value.ownBlock]),dg _ _ _ (by omega),d.block b h2 (by simp;omega)];rfl
     have HK:Hid _:=t;have GS:mP c.heap.size (O.setCell ⟨w.heap.size+1,1,none⟩ (.slice (some ⟨Au,0,none⟩) 1 Ag)) 254 2 cR KR (.slice (some ⟨Au,0,none⟩) 1 Ag) [rl]:=mP.kept rJ O3 (iM O (w.heap.size+1) 1 _) (fun k E=>by cases E;omega);have Kh:=Oo.setOther (b:=w.heap.size+1) 1 (.slice (some ⟨Au,0,none⟩) 1 Ag) (by omega) (by omega);have Ki:=Cc.set 1 (.slice (some ⟨Au,0,none⟩) 1 Ag);have Kj:=Om.other (b':=w.heap.size+1) (i:=1) (by omega) (.slice (some ⟨Au,0,none⟩) 1 Ag);have gS:=eF Oq (b:=w.heap.size+1) (by omega) 1 (.slice (some ⟨Au,0,none⟩) 1 Ag);have bu:(O.setCell ⟨w.heap.size+1,1,none⟩ (.slice (some ⟨Au,0,none⟩) 1 Ag)).heap.size=O.heap.size:=by simp[World.setCell]
     clear Jq H JB s oF Kk c0 c1 f0 y t O3 Oo Oq Om;go_wp2_with fail
     go_loopg [] oD.length (fun k wr=>∃(N:List Tk)(D:List Lx.Rl)(v:Value)(f:Nat),N.length=k/\N.length<=f/\D.length+N.length<=ts.length/\c.heap.size<=wr.heap.size/\Rd Q m L p wr N 0/\aj wr (w.heap.size+1) #[.slice X U V,v] 105/\aj wr w.heap.size #[.slice none 0 0,.slice none 0 0] 105 /\
       mP c.heap.size wr 254 2 cR KR v D/\w.grownBy wr (some p)/\Hid (∀b,w.heap.size+2<=b->b<c.heap.size->wr.heap[b]?=c.heap[b]?)/\Hid (iZ ts=Nr o (jv f N D)))
     case atStart=>exact⟨oD,[rl],_,oD.length,rfl,dy _,by simp;omega,by omega,Kh,Ki,Kj,GS,gS,HK,Cw⟩
     case round=>
      obtain⟨N,D,v,f2,bg,bt,bi,bb,J,O6,O7,aa,ar,t,B⟩:=hrel;clear Kh Ki Kj GS gS HK Cw Cc az ak W Y D8 d ru S;have bc:=J.wf.ne;obtain⟨aq,rfl⟩:∃f',f2=f'+1:=⟨f2-1,by omega⟩;obtain⟨ax,F2,D7⟩:=aa;have l:=D7.2.1;obtain⟨Av,Aw,Ay,rfl⟩:=Fy l;have q0:wr.cell? ⟨w.heap.size+1,0,none⟩=some (.slice X U V):=O6.cell 0;have q1:wr.cell? ⟨w.heap.size+1,1,none⟩=some (.slice Av Aw Ay):=O6.cell 1;have qf:∀i,wr.frozen? ⟨w.heap.size+1,i,none⟩=false:=O6.frozen
      by_cases hend:Lx.hd N=aW
      ·have HP:Hid (iZ ts=.ok (⟨o,D⟩,N)):=by
        show _=_;rw[B.out];simp only[jv];rw[dj hend];rfl
       have Gt:Hid (Lx.hd N=aW):=hend;clear hend B;have e0:wr.cell? ⟨w.heap.size,0,none⟩=some (.slice none 0 0):=O7.cell 0;have e1:wr.cell? ⟨w.heap.size,1,none⟩=some (.slice none 0 0):=O7.cell 1;have ef:∀i,wr.frozen? ⟨w.heap.size,i,none⟩=false:=O7.frozen;have aX:=mP.seq ⟨ax,F2,D7⟩
       go_wp2_with (first
        | (go_at_call 114;refine(wU J aW).mono ?_;rintro e Z⟨rfl,u⟩;obtain rfl:=u.symm;rw[fi Gt.out]))
       refine fy (v:=.agg #[.slice X U V,.slice Av Aw Ay]) (by simp[results,results71,go_sem,e0,e1]) rfl ?_;refine Ends.yes HP.out (eF (eF ar (dy _) _ _) (dy _) _ _) ((J.setOther _ _ (by omega) (by omega)).setOther _ _ (by omega) (by omega)) ⟨_,_,rfl,?_,?_⟩
       ·have T:∀b,In (w.heap.size+2) c.heap.size b->((wr.setCell ⟨w.heap.size,0,none⟩ (.slice X U V)).setCell ⟨w.heap.size,1,none⟩ (.slice Av Aw Ay)).heap[b]?=c.heap[b]?:=fun b P=>by
         have h1:=P.1;rw[fX _ _ _ _ (fun e=>by have e':b=w.heap.size:=e;omega),fX _ _ _ _ (fun e=>by have e':b=w.heap.size:=e;omega)];exact t.out b P.1 P.2
        have ac:∀b,In (w.heap.size+2) c.heap.size b->In w.heap.size ((wr.setCell ⟨w.heap.size,0,none⟩ (.slice X U V)).setCell ⟨w.heap.size,1,none⟩ (.slice Av Aw Ay)).heap.size b:=fun b P=>by
         have h1:=P.1;have h2:=P.2;exact⟨by omega,by simp[World.setCell];omega⟩
        exact ai.move T ac fun _ _ h=>zZ _ _ _ _ _ _ T ac h
       ·have T:∀b,In c.heap.size wr.heap.size b->((wr.setCell ⟨w.heap.size,0,none⟩ (.slice X U V)).setCell ⟨w.heap.size,1,none⟩ (.slice Av Aw Ay)).heap[b]?=wr.heap[b]?:=fun b P=>by
         have h1:=P.1;rw[fX _ _ _ _ (fun e=>by have e':b=w.heap.size:=e;omega),fX _ _ _ _ (fun e=>by have e':b=w.heap.size:=e;omega)]
        have ac:∀b,In c.heap.size wr.heap.size b->In w.heap.size ((wr.setCell ⟨w.heap.size,0,none⟩ (.slice X U V)).setCell ⟨w.heap.size,1,none⟩ (.slice Av Aw Ay)).heap.size b:=fun b P=>by
         have h1:=P.1;have h2:=P.2;exact⟨by omega,by simp[World.setCell];omega⟩
        exact aX.move T ac fun _ _ _ hA h=>rJ _ _ _ _ _ _ (fun b P=>T b (hA b P)) (fun _ h=>h) h
      ·have Gt:Hid (¬Lx.hd N=aW):=hend
       clear hend;have W:=J.drew;have Y:=aR ar (oL wr (some p));cases Ar:iw N with
       |error x=>
        obtain⟨n,a⟩:=x;have HE:Hid (iZ ts=.error (n,a)):=by
         show _=_;rw[B.out];simp only[jv];rw[dt Gt.out,Ar];rfl
        have O8:Hid _:=Ar;clear Ar B
        go_wp2_with (first
         | (go_at_call 114;refine(wU J aW).mono ?_;rintro e Z⟨rfl,u⟩;obtain rfl:=u.symm;rw[eE Gt.out]))
        refine sv (by kernel_rfl) ?_;refine nz (i:=0) (v:=.pointer (some ⟨w.heap.size+1,1,none⟩)) rfl (by kernel_rfl) (by kernel_rfl) (by kernel_rfl) (fun _ _ _ h=>h) (qh ⟨by rfl,fun w=>by go_simp⟩) ?_;refine nz (i:=2) (v:=.pointer (some ⟨p,0,none⟩)) rfl (by kernel_rfl) (by kernel_rfl) (by kernel_rfl) (fun _ _ _ h=>h) (qh ⟨by rfl,fun w=>by go_simp⟩) ?_;refine pg (rs:=[1,3]) (by kernel_rfl) (by simp) ?_;refine lr rfl (fun K M=>?_) (lr rfl (fun K M=>?_) ol)
        ·change if _ then Oper.wp _ _ _ wr.drew _ _ else _
         go_simp
         refine M _ _ ?_;clear M K;refine pg (rs:=[3]) (by kernel_rfl) (by simp) ?_;refine lr rfl (fun K M=>?_) ol;exact uM rfl 113 #[.pointer (some ⟨p,0,none⟩)] (by go_simp) (FL Q m L p _ N W) fun e w2 y=>by obtain⟨rfl,r⟩:=y.err O8.out;exact⟨_,rfl,rfl,Ends.no HE.out (aR Y r)⟩
        ·change if _ then Oper.wp _ _ _ wr.drew _ _ else _
         exact uM rfl 113 #[.pointer (some ⟨p,0,none⟩)] (by go_simp) (FL Q m L p _ N W) fun e w2 y=>by obtain⟨rfl,r⟩:=y.err O8.out;exact⟨_,rfl,rfl,Ends.no HE.out (aR Y r)⟩
       |ok x=>
        obtain⟨rq,Vo⟩:=x;have bm:=Rt Ar;have bl:=J.wf.sV;have a4:Hid (iZ ts=Nr o (jv aq Vo (D++[rq]))):=by
         show _=_;rw[B.out];simp only[jv];rw[dt Gt.out,Ar]
        have O8:Hid _:=Ar;clear Ar B
        go_wp2_with (first
         | (go_at_call 114;refine(wU J aW).mono ?_;rintro e Z⟨rfl,u⟩;obtain rfl:=u.symm;rw[eE Gt.out]))
        go_region_law (first
         | (refine step_append_lies _ rfl (.tmp 30) (.tmp 33) 103 rfl c.heap.size 254 av _ 2 40 underlying103 ag ap al aw rfl (by decide) (.slice Av Aw Ay) D.length (ax.flatMap cR) (by simp[Act.eval]) (F3.alloc _) ⟨w7.heap.size,0,none⟩ 1 1 (cR (.slice a1 ah ao,rq)) (by simp[Act.eval]) rfl (eO (aj.new w7 _ 254)) (by simp[cR,Value.oneCell']) (by decide) (by unfold maxLen;omega) (by omega) (by have:=lX.size;have:wr.drew.heap.size=wr.heap.size:=rfl;simp;omega) _ rfl ?_;intro bj bv Kl an BF a0 bw;have Ul:=(O9.alloc _).grown BF (fun e=>by have:=(l.lt _ e.symm).1;omega);have bq:Kl.cell? ⟨w.heap.size+1,1,none⟩=some (.slice Av Aw Ay):=Ul.cell 1;have bh:∀i,Kl.frozen? ⟨w.heap.size+1,i,none⟩=false:=Ul.frozen)
         | (refine jW rfl 113 #[.pointer (some ⟨p,0,none⟩)] (by go_simp) (FL Q m L p _ N W) ?_;intro e w7 y;obtain⟨vv,rfl,lX,El,a7⟩:=y.ok O8.out;refine⟨_,rfl,?_⟩;obtain⟨vx,rfl,am⟩:=a7;obtain⟨a1,ah,ao,rfl⟩:=eG.form am;have F3:=((D7.kept rJ (oL wr none) (by simp)).kept rJ lX (fun k E=>by cases E;omega)).2.1;have O9:=O6.drew.grown lX (by simp;omega);have aE:w7.cell? ⟨w.heap.size+1,1,none⟩=some (.slice Av Aw Ay):=O9.cell 1;have bo:=O9.lt))
        all_goals
         have a6:=wW.push rJ (D7.kept rJ (oL wr none) (by simp)) (p:=p) (by omega) (by have:wr.drew.heap.size=wr.heap.size:=rfl;omega) lX (.slice a1 ah ao,rq) am (bJ w7 _ none) an BF a0;have aY:=((O7.drew.grown lX (by simp;omega)).alloc _).grown BF (fun e=>by have:=(l.lt _ e.symm).1;omega);have aH:=(El.alloc _).grown BF (fun e=>by have:=(l.lt _ e.symm).1;omega) (fun e=>by have:=(l.lt _ e.symm).1;omega);have aA:=Dm (aR Y lX) (bJ w7 _ none) BF (fun k E=>by have:=(l.lt _ E).1;omega);have bx:w7.heap.size+1<=Kl.heap.size:=by have:=BF.size;simpa using this
         have bs:wr.heap.size<=w7.heap.size:=lX.size;have af:∀b,w.heap.size+2<=b->b<c.heap.size->Kl.heap[b]?=c.heap[b]?:=fun b h1 h2=>by
          rw[BF.block b (by simp;omega) (fun e=>by have:=(l.lt _ e.symm).1;omega),dg _ _ _ (by omega),lX.block b (by have:wr.drew.heap.size=wr.heap.size:=rfl;omega) (by simp;omega)];exact t.out b h1 h2
         have a9:Hid _:=af;clear an BF a0 F3 O9 aE q0 q1 qf y af;go_wp2_with fail;go_roundg Vo.length
         case measure=>omega
         case rel=>
          refine⟨Vo,D++[rq],_,aq,rfl,by omega,by simp;omega,?_,aH.setOther _ _ (by omega) (by omega),Ul.set 1 _,aY.other (by omega) _,?_,eF aA (by omega) _ _,?_,a4⟩
          ·simp only[World.setCell,Array.size_modify];omega
          ·exact mP.kept rJ a6 (iM Kl (w.heap.size+1) 1 _) (fun k E=>by cases E;omega)
          ·intro b h1 h2
           rw[fX _ _ _ _ (fun e=>by have e':b=w.heap.size+1:=e;omega)];exact a9.out b h1 h2
end
section
open Go.RowKit
open Lx (Tk)
open Tr
theorem ajU(n a:Int)(w:World):(Instr.typeAssert (.iface 175 (.agg #[.int .i64 n,.int .i64 a])) 20 175 true).run prog w=.ok (.tuple #[.agg #[.int .i64 n,.int .i64 a],.bool true]) w:=by
 simp[Instr.typeAssert,run_underlying underlying175,go_sem,Result.andThen]
theorem afX(n a:Int)(w:World):
  Calls prog 69 #[.iface 175 (.agg #[.int .i64 n,.int .i64 a])] w fun e w'=>e=.returned (.agg #[.int .i64 n,.int .i64 a])/\Below w.heap.size w w':=by
 have b:=ajU;go_enter func69,ntmps69
 go_wp2
 refine fy (v:=.agg #[.int .i64 n,.int .i64 a]) (by simp[results,results69,go_sem]) rfl ⟨rfl,?_⟩;exact((cV _ _).alloc (dy _) _).alloc (by simp) _
theorem ags{B:Nat}(n a x y:Int){w w1:World}(b:Below w.heap.size w w1)(g:B+2<w.heap.size)(kg:aj w1 B #[.slice none 0 0,.slice none 0 0] 105)(f:aj w1 (B+1) #[.int .i64 x] 24)(ka:aj w1 (B+2) #[.int .i64 y] 3):
  Below B w (((((w1.setCell ⟨B,0,none⟩ (.slice none 0 0)).setCell ⟨B,1,none⟩ (.slice none 0 0)).setCell ⟨B+1,0,none⟩ (.int .i64 n)).setCell ⟨B+2,0,none⟩ (.int .i64 a)).alloc (.cells #[.int .i64 n,.int .i64 a] 175)).drew /\
  aj (((((w1.setCell ⟨B,0,none⟩ (.slice none 0 0)).setCell ⟨B,1,none⟩ (.slice none 0 0)).setCell ⟨B+1,0,none⟩ (.int .i64 n)).setCell ⟨B+2,0,none⟩ (.int .i64 a)).alloc (.cells #[.int .i64 n,.int .i64 a] 175)).drew B #[.slice none 0 0,.slice none 0 0] 105 /\
  aj (((((w1.setCell ⟨B,0,none⟩ (.slice none 0 0)).setCell ⟨B,1,none⟩ (.slice none 0 0)).setCell ⟨B+1,0,none⟩ (.int .i64 n)).setCell ⟨B+2,0,none⟩ (.int .i64 a)).alloc (.cells #[.int .i64 n,.int .i64 a] 175)).drew (B+1) #[.int .i64 n] 24 /\
  aj (((((w1.setCell ⟨B,0,none⟩ (.slice none 0 0)).setCell ⟨B,1,none⟩ (.slice none 0 0)).setCell ⟨B+1,0,none⟩ (.int .i64 n)).setCell ⟨B+2,0,none⟩ (.int .i64 a)).alloc (.cells #[.int .i64 n,.int .i64 a] 175)).drew (B+2) #[.int .i64 a] 3:=by
 have j:=b.size;have d:=b.mono (B':=B) (by omega);have c:=(((d.setCell (p:=⟨B,0,none⟩) (dy _) (.slice none 0 0)).setCell (p:=⟨B,1,none⟩) (dy _) (.slice none 0 0)).setCell (p:=⟨B+1,0,none⟩) (by simp) (.int .i64 n)).setCell (p:=⟨B+2,0,none⟩) (by simp) (.int .i64 a);refine⟨(c.alloc (by have:=c.size;omega) _).drew,?_,?_,?_⟩
 ·exact(((((kg.set 0 (.slice none 0 0)).set 1 (.slice none 0 0)).other (b':=B+1) (i:=0) (by omega) (.int .i64 n)).other (b':=B+2) (i:=0) (by omega) (.int .i64 a)).alloc (.cells #[.int .i64 n,.int .i64 a] 175)).drew
 ·exact(((((f.other (b':=B) (i:=0) (by omega) (.slice none 0 0)).other (b':=B) (i:=1) (by omega) (.slice none 0 0)).set 0 (.int .i64 n)).other (b':=B+2) (i:=0) (by omega) (.int .i64 a)).alloc (.cells #[.int .i64 n,.int .i64 a] 175)).drew
 ·exact(((((ka.other (b':=B) (i:=0) (by omega) (.slice none 0 0)).other (b':=B) (i:=1) (by omega) (.slice none 0 0)).other (b':=B+1) (i:=0) (by omega) (.int .i64 n)).set 0 (.int .i64 a)).alloc (.cells #[.int .i64 n,.int .i64 a] 175)).drew
theorem afn(B:Nat)(n a x y:Int)(b:List PanicEntry)(w:World)(m:B+2<w.heap.size)(kg:aj w B #[.slice none 0 0,.slice none 0 0] 105)(o:aj w (B+1) #[.int .i64 x] 24)(ka:aj w (B+2) #[.int .i64 y] 3):
  CallsD prog 68 #[.pointer (some ⟨B,0,none⟩),.pointer (some ⟨B+1,0,none⟩),.pointer (some ⟨B+2,0,none⟩)] (.panicking ({ v:=.iface 175 (.agg #[.int .i64 n,.int .i64 a]),recovered:=false }::b)) w fun e u' w'=>
   e=.returned (.tuple #[])/\u'=.panicking ({ v:=.iface 175 (.agg #[.int .i64 n,.int .i64 a]),recovered:=true }::b)/\Below B w w'/\aj w' B #[.slice none 0 0,.slice none 0 0] 105/\aj w' (B+1) #[.int .i64 n] 24/\aj w' (B+2) #[.int .i64 a] 3:=by
 refine callsD_of_wpS func68 rfl fun q t p=>?_
 apply wpS_seq;apply wpS_region;simp[wpOpsS,go_sem,recoverD,p,ntmps68,Exit.thenS];refine wpS_of_wp ?_
 go_wp2_with (go_at_call 69;refine(afX n a _).mono ?_;rintro e w1⟨rfl,g⟩)
 have G:=Im g none;have c:=kg.grown G (by simp);have f:=o.grown G (by simp);have d:=ka.grown G (by simp);have s:w1.cell? ⟨B,0,none⟩=some (.slice none 0 0):=c.cell 0;have D:w1.cell? ⟨B,1,none⟩=some (.slice none 0 0):=c.cell 1;have A:w1.cell? ⟨B+1,0,none⟩=some (.int .i64 x):=f.cell 0;have E:w1.cell? ⟨B+2,0,none⟩=some (.int .i64 y):=d.cell 0;have u:∀i,w1.frozen? ⟨B,i,none⟩=false:=c.frozen;have z:∀i,w1.frozen? ⟨B+1,i,none⟩=false:=f.frozen;have r:∀i,w1.frozen? ⟨B+2,i,none⟩=false:=d.frozen;have C:w.heap.size<=w1.heap.size:=g.size;have l:B<w1.heap.size:=by omega
 have k:B+1<w1.heap.size:=by omega
 have j:B+2<w1.heap.size:=by omega
 go_region
 all_goals
  exact⟨rfl,_,rfl,.tuple #[],py rfl _ _ _,rfl,rfl,ags n a x y g m c f d⟩
theorem Y7(g e a:Addr)(w:World):
  CallsD prog 68 #[.pointer (some g),.pointer (some e),.pointer (some a)] .returning w fun e u' w'=>e=.returned (.tuple #[])/\u'=.returning/\w'=w:=by
 refine callsD_of_wpS func68 rfl fun c d b=>?_
 apply wpS_seq;apply wpS_region;simp[wpOpsS,go_sem,recoverD,b,ntmps68,Exit.thenS];refine wpS_of_wp ?_;go_wp2_with fail;cases c;simp only at b;subst b;refine⟨rfl,_,rfl,.tuple #[],py rfl _ _ _,rfl,rfl,rfl⟩
end
section
open Go.RowKit
open Lx (Tk)
open Tr
namespace Lx
theorem extract_size(s:ByteArray)(i j:Nat):(s.extract i j).size<=s.size:=by
 rw[rm];omega
theorem aa6(s:ByteArray):∀(f i:Nat)(t:Tk),t∈mK s f i->t.1.size<=s.size
 |0,i,t,h=>by
  simp only[mK,List.mem_singleton]at h;subst h;exact ff _
 |f+1,i,t,h=>by
  simp only[mK]at h
  split at h
  ·rcases eC.1 h with rfl | h
   ·exact extract_size _ _ _
   ·exact aa6 s f _ t h
  ·simp only[List.mem_singleton]at h;subst h;exact ff _
theorem ac7(s:ByteArray)(t:Tk)(h:t∈lex s):t.1.size<=s.size:=aa6 s _ _ t h
theorem aly(s:ByteArray):(lex s).length<=s.size+1:=ME s _
end Lx
theorem Rd.start{s:ByteArray}{B:Nat}{w1:World}{v:Value}(z:s.size<=2000)(h:w1.ownsRow B 185 2 v (Lx.lex s).length (qw (Lx.lex s))):
  ∃sb cap,v=.slice (some ⟨sb,0,none⟩) (Lx.lex s).length cap/\B<=sb/\sb<w1.heap.size/\Rd sb cap (Lx.lex s) w1.heap.size (w1.alloc (.cells #[v,.int .i64 0] 182)) (Lx.lex s) 0:=by
 have d:=Lx.lex_wf s;have n:=d.ne;obtain⟨g,cap,m,x,c⟩:=h.form n;subst m;have b:(Lx.lex s).length<=cap:=by
  rcases h.2 with ⟨y,_⟩|⟨C,o,A,m,_,_,l,_⟩
  ·cases y
  ·cases m;exact l
 have i:=aj.new w1 #[.slice (some ⟨g,0,none⟩) (Lx.lex s).length cap,.int .i64 0] 182;refine⟨g,cap,rfl,x,c,?_⟩;refine⟨d,⟨[],rfl⟩,b,?_,i.cell 1,i.frozen 0,i.frozen 1,?_,by omega,fun t r=>de (ac7 s t r) z,by have:=aly s;omega⟩
 ·rw[show (Lx.lex s).length - (Lx.lex s).length=0 by omega];exact i.cell 0
 ·intro j t u
  obtain⟨h1,h2⟩:=QN _ j t u;have p:=h.cells (g:=g) rfl (j*2) _ h1;have q:=h.cells (g:=g) rfl (j*2+1) _ h2;have f:∀k,(⟨g,0,none⟩:Addr).add k=⟨g,k,none⟩:=fun k=>by unfold Addr.add;split <;> simp_all
  rw[f]at p q;have a:∀k,(w1.alloc (.cells #[.slice (some ⟨g,0,none⟩) (Lx.lex s).length cap,.int .i64 0] 182)).cell? ⟨g,k,none⟩=w1.cell? ⟨g,k,none⟩:=fun k=>cM (w:=w1) (dg _ _ _ c)
  rw[a,a];exact⟨p,q⟩
def wK(w:World)(s:ByteArray)(e:Ending)(w':World):Prop :=
 Below w.heap.size w w' /\
  match Lx.parse s with
  |.ok g=>∃vl vr,e=.returned (.tuple #[.agg #[vl,vr],.int .i64 0,.int .i64 0])/\BM (In w.heap.size w'.heap.size) w' vl vr g
  | .error (n,a)=>e=.returned (.tuple #[.agg #[.slice none 0 0,.slice none 0 0],.int .i64 (n:Int),.int .i64 (a:Int)])
theorem wK.yes{w w':World}{s:ByteArray}{g:Lx.Gr}{a b:Value}(d:Lx.parse s=.ok g)(c:Below w.heap.size w w')(f:BM (In w.heap.size w'.heap.size) w' a b g):
  wK w s (.returned (.tuple #[.agg #[a,b],.int .i64 0,.int .i64 0])) w':=by
 unfold wK;rw[d];exact⟨c,a,b,rfl,f⟩
theorem wK.no{w w':World}{s:ByteArray}{n a:Nat}(c:Lx.parse s=.error (n,a))(b:Below w.heap.size w w'):
  wK w s (.returned (.tuple #[.agg #[.slice none 0 0,.slice none 0 0],.int .i64 (n:Int),.int .i64 (a:Int)])) w':=by
 unfold wK;rw[c];exact⟨b,rfl⟩
theorem Z9(s:ByteArray)(w:World)(r:s.size<=maxLen):Calls prog 41 #[.string s] w (wK w s):=by
 unfold maxLen at r;have Cy:∀(fn:Fn)(first c:Array Value)(w:World),(Instr.makeFunc fn first c).run prog w=.ok (.func fn first c) w:=fun _ _ _ _=>rfl
 by_cases hlong:2000<s.size
 ·have p:Hid (Lx.parse s=.error (1,0)):=by show _=_;unfold Lx.parse;rw[dj hlong]
  go_enter_defers func41,ntmps41
  go_wp2
  refine leaves_cons (f:=68) (args:=#[.pointer (some ⟨w.heap.size,0,none⟩),.pointer (some ⟨w.heap.size+1,0,none⟩),.pointer (some ⟨w.heap.size+2,0,none⟩)]) (by simp) (by simp[go_sem]) ?_;refine(Y7 _ _ _ _).mono ?_;rintro e V R⟨rfl,rfl,rfl⟩;refine⟨.tuple #[.agg #[.slice none 0 0,.slice none 0 0],.int .i64 1,.int .i64 0],by simp[results,results41,go_sem],?_⟩;exact wK.no p.out ((((cV _ _).alloc (dy _) _).alloc (by simp) _).alloc (by simp;omega) _)
 ·have W:s.size<=2000:=by omega
  have A:(((w.alloc (.cells #[.slice none 0 0,.slice none 0 0] 105)).alloc (.cells #[.int .i64 0] 24)).alloc (.cells #[.int .i64 0] 3)).heap.size=w.heap.size+3:=by simp
  have kg:=((aj.new w #[.slice none 0 0,.slice none 0 0] 105).alloc (.cells #[.int .i64 0] 24)).alloc (.cells #[.int .i64 0] 3);have H:=(aj.new (w.alloc (.cells #[.slice none 0 0,.slice none 0 0] 105)) #[.int .i64 0] 24).alloc (.cells #[.int .i64 0] 3);have L:=aj.new ((w.alloc (.cells #[.slice none 0 0,.slice none 0 0] 105)).alloc (.cells #[.int .i64 0] 24)) #[.int .i64 0] 3;rw[show (w.alloc (.cells #[.slice none 0 0,.slice none 0 0] 105)).heap.size=w.heap.size+1 by simp]at H;rw[show ((w.alloc (.cells #[.slice none 0 0,.slice none 0 0] 105)).alloc (.cells #[.int .i64 0] 24)).heap.size=w.heap.size+2 by simp]at L;have Z:Below w.heap.size w (((w.alloc (.cells #[.slice none 0 0,.slice none 0 0] 105)).alloc (.cells #[.int .i64 0] 24)).alloc (.cells #[.int .i64 0] 3)):=(((cV _ _).alloc (dy _) _).alloc (by simp) _).alloc (by simp;omega) _
  go_enter_defers func41,ntmps41
  go_wp2_with fail;refine(abT s _ W).mono ?_;rintro e w1⟨v,rfl,d,j⟩;rw[A]at d j;have iW:=Rd.start W d;obtain⟨G,c,rfl,X,ab,q⟩:=iW;have b1:=Z.trans (j.mono (by omega));have T:aj w1 w.heap.size #[.slice none 0 0,.slice none 0 0] 105:=(j.block _ (by omega)).trans kg;have I:aj w1 (w.heap.size+1) #[.int .i64 0] 24:=(j.block _ (by omega)).trans H;have D:aj w1 (w.heap.size+2) #[.int .i64 0] 3:=(j.block _ (by omega)).trans L;have s1:w.heap.size+3<=w1.heap.size:=by omega
  clear kg H L d j A;go_wp2_with fail;refine(aho G c _ w1.heap.size _ _ q).mono ?_;intro e w2 B;have U:=b1.alloc (by omega) (.cells #[.slice (some ⟨G,0,none⟩) (Lx.lex s).length c,.int .i64 0] 182);have hsz:(w1.alloc (.cells #[.slice (some ⟨G,0,none⟩) (Lx.lex s).length c,.int .i64 0] 182)).heap.size=w1.heap.size+1:=by simp
  cases hpg:iZ (Lx.lex s) with
  |error x=>
   obtain⟨n,a⟩:=x;obtain⟨rfl,l⟩:=B.err hpg;have p:Hid (Lx.parse s=.error (n,a)):=by show _=_;unfold Lx.parse;rw[dt hlong,hpg]
   have P:=U.grown l (by rw[hsz];omega) (fun k E=>by cases E;omega);have m:=(T.alloc _).grown l (by simp;omega);have y:=(I.alloc _).grown l (by simp;omega);have z:=(D.alloc _).grown l (by simp;omega);have O:=l.size;rw[hsz]at O;clear hpg B;refine leaves_cons (f:=68) (args:=#[.pointer (some ⟨w.heap.size,0,none⟩),.pointer (some ⟨w.heap.size+1,0,none⟩),.pointer (some ⟨w.heap.size+2,0,none⟩)]) (by simp) (by simp[go_sem]) ?_;refine(afn w.heap.size n a 0 0 [] w2 (by omega) m y z).mono ?_;rintro e V t⟨rfl,rfl,K,u,F,o⟩;have J:t.cell? ⟨w.heap.size,0,none⟩=some (.slice none 0 0):=u.cell 0;have S:t.cell? ⟨w.heap.size,1,none⟩=some (.slice none 0 0):=u.cell 1;have M:t.cell? ⟨w.heap.size+1,0,none⟩=some (.int .i64 n):=F.cell 0;have N:t.cell? ⟨w.heap.size+2,0,none⟩=some (.int .i64 a):=o.cell 0;have ac:t.cell? ⟨w.heap.size+1+1,0,none⟩=some (.int .i64 a):=o.cell 0;refine⟨.tuple #[.agg #[.slice none 0 0,.slice none 0 0],.int .i64 n,.int .i64 a],by simp[results,results41,go_sem,J,S,M,N],?_⟩;exact wK.no p.out (P.trans K)
  |ok x=>
   obtain⟨g,aa⟩:=x;obtain⟨v,rfl,l,JL,vl,vr,rfl,C⟩:=B.ok hpg;have p:Hid (Lx.parse s=.ok g):=by show _=_;unfold Lx.parse;rw[dt hlong,hpg]
   obtain⟨la,Y,lc,rfl⟩:=Seq.form C.1;obtain⟨ra,rk,rc,rfl⟩:=dV.form C.2;have P:=U.grown l (by rw[hsz];omega) (fun k E=>by cases E;omega);have m:=(T.alloc _).grown l (by simp;omega);have y:=(I.alloc _).grown l (by simp;omega);have z:=(D.alloc _).grown l (by simp;omega);have J:w2.cell? ⟨w.heap.size,0,none⟩=some (.slice none 0 0):=m.cell 0;have S:w2.cell? ⟨w.heap.size,1,none⟩=some (.slice none 0 0):=m.cell 1;have M:w2.cell? ⟨w.heap.size+1,0,none⟩=some (.int .i64 0):=y.cell 0;have N:w2.cell? ⟨w.heap.size+2,0,none⟩=some (.int .i64 0):=z.cell 0;have fg:∀i,w2.frozen? ⟨w.heap.size,i,none⟩=false:=m.frozen;have fe:∀i,w2.frozen? ⟨w.heap.size+1,i,none⟩=false:=y.frozen;have fa:∀i,w2.frozen? ⟨w.heap.size+2,i,none⟩=false:=z.frozen;rw[hsz]at C;clear hpg B q JL T I D m y z;go_wp2_with fail;refine leaves_cons (f:=68) (args:=#[.pointer (some ⟨w.heap.size,0,none⟩),.pointer (some ⟨w.heap.size+1,0,none⟩),.pointer (some ⟨w.heap.size+2,0,none⟩)]) (by simp) (by simp[go_sem]) ?_;refine(Y7 _ _ _ _).mono ?_;rintro e V R⟨rfl,rfl,rfl⟩;refine⟨.tuple #[.agg #[.slice la Y lc,.slice ra rk rc],.int .i64 0,.int .i64 0],by simp[results,results41,go_sem,J,S,M,N],?_⟩;refine wK.yes p.out ((((P.setCell (dy _) _).setCell (dy _) _).setCell (by simp) _).setCell (by simp;omega) _) ?_;refine C.move (fun b j=>?_) (fun b j=>?_)
   ·have h1:=j.1
    rw[fX _ _ _ _ (fun e=>by have Q:b=w.heap.size+1+1:=e;omega),fX _ _ _ _ (fun e=>by have Q:b=w.heap.size+1:=e;omega),fX _ _ _ _ (fun e=>by have Q:b=w.heap.size:=e;omega),fX _ _ _ _ (fun e=>by have Q:b=w.heap.size:=e;omega)]
   ·have h1:=j.1
    have h2:=j.2;exact⟨by omega,by simpa [World.setCell]using h2⟩
end

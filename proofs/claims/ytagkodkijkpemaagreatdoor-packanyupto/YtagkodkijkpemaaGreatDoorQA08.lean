import Derived.Test.YtagkodkijkpemaaGreatDoorQA07
import Derived.RangeFuncBound
import Derived.Shelf.RegionOpen
import Derived.OwnWalkIn
set_option maxHeartbeats 8000000
set_option maxRecDepth 1000000
namespace Go.Proofs.YtagkodkijkpemaaGreatDoor
open Lx Go.Proofs.Tryz
open Go.RowKit Tr
namespace Lx
abbrev au:=Nat×Nat
def bM(P:List Pd)(k:Nat):List Nat:=(P[k]?.map Pd.right).getD []
def dQ(P:List Pd)(s:au):Option Nat:=(bM P s.1)[s.2]?
def fM(P:List Pd)(n:Nat):Nat->List au
 |0=>[]
 |k+1=>fM P n k++(if (P[k]?.map Pd.left)=some n then [(k,0)] else [])
theorem Fw{P:List Pd}{n:Nat}{s:au}:∀{k:Nat},s∈fM P n k↔s.2=0/\s.1<k/\P[s.1]?.map Pd.left=some n
 |0=>by simp[fM]
 |k+1=>by
  rw[fM,cY,Fw];constructor
  ·rintro(⟨h1,h2,h3⟩ | h)
   ·exact⟨h1,by omega,h3⟩
   ·split at h
    ·rename_i a
     rw[cN]at h;subst h;exact⟨rfl,by simp,a⟩
    ·cases h
  ·rintro⟨h1,h2,h3⟩
   by_cases e:s.1=k
   ·right
    rw[dj (e▸h3),cN];exact qu e h1
   ·exact .inl ⟨h1,by omega,h3⟩
theorem YO{P:List Pd}{n:Nat}:∀k:Nat,(fM P n k).Nodup
 |0=>mj
 |k+1=>by
  rw[fM,ip];refine⟨YO k,?_,fun a d b c=>?_⟩
  ·split <;> simp
  ·split at c
   ·rw[cN]at c
    subst c;have:=(Fw.1 d).2.1;intro e;rw[e]at this;exact absurd this (tr _)
   ·cases c
def xJ(P:List Pd)(n:Option Nat)(l:List au):Nat->List au
 |0=>l
 |k+1=>if (P[k]?.map Pd.left)=n/\n≠none/\(k,0)∉l then xJ P n l k++[(k,0)] else xJ P n l k
theorem NA{P:List Pd}{n:Nat}{l:List au}:∀k:Nat,xJ P (some n) l k=l++(fM P n k).filter fun s=>decide (s∉l)
 |0=>by simp[xJ,fM]
 |k+1=>by
  rw[xJ,fM,ki,NA k]
  by_cases h1:P[k]?.map Pd.left=some n
  ·rw[dj h1]
   by_cases h2:(k,0)∈l
   ·rw[dt (fun h=>h.2.2 h2)]
    simp[h2]
   ·rw[dj ⟨h1,by simp,h2⟩]
    simp[h2,List.append_assoc]
  ·rw[dt (fun h=>h1 h.1),dt h1]
   simp
theorem ML{P:List Pd}{l:List au}:∀k:Nat,xJ P none l k=l
 |0=>rfl
 |k+1=>by rw[xJ,dt (fun h=>h.2.1 rfl),ML k]
inductive tY (P:List Pd):List au->Nat->List au->Prop
 | done {l:List au} {i:Nat} (h:l.length<=i):tY P l i l
 | step {l r:List au} {i:Nat} (h:i<l.length) (k:tY P (xJ P (dQ P l[i]) l P.length) (i+1) r):tY P l i r
def qE(P:List Pd)(n:Option Nat)(l:List au)(E:List Nat):List au×List Nat :=
 match n with
 |none=>(l,E)
 |some n=>if n∈E then (l,E) else (l++fM P n P.length,n::E)
inductive Ck (P:List Pd):List au->List Nat->Nat->List au->Prop
 | done {l:List au} {E:List Nat} {i:Nat} (h:l.length<=i):Ck P l E i l
 | step {l r:List au} {E:List Nat} {i:Nat} (h:i<l.length) (k:Ck P (qE P (dQ P l[i]) l E).1 (qE P (dQ P l[i]) l E).2 (i+1) r):Ck P l E i r
structure Am(P:List Pd)(st:Nat)(l:List au)(E:List Nat):Prop where
 opn:∀n∈E,∀s∈fM P n P.length,s∈l
 fst:∀k,(k,0)∈l->∀n,P[k]?.map Pd.left=some n->n∈E\/n=st
def OE(P:List Pd)(st:Nat):Prop:=∀s n,dQ P s=some n->n≠st
theorem Am.same{P:List Pd}{st:Nat}{l:List au}{E:List Nat}(g:OE P st)(h:Am P st l E)(s:au):xJ P (dQ P s) l P.length=(qE P (dQ P s) l E).1/\Am P st (qE P (dQ P s) l E).1 (qE P (dQ P s) l E).2:=by
 cases hn:dQ P s with
 |none=>exact⟨ML _,h⟩
 |some n=>
  rw[NA];unfold qE
  by_cases hE:n∈E
  ·simp only[if_pos hE]
   refine⟨?_,h⟩;have:(fM P n P.length).filter (fun s=>decide (s∉l))=[]:=t6.2 fun x a=>by simpa using h.opn n hE x a
   rw[this,eV]
  ·simp only[if_neg hE]
   have d:∀x∈fM P n P.length,x∉l:=fun x a f=>by
    obtain⟨h1,h2,h3⟩:=Fw.1 a;have:x=(x.1,0):=qu rfl h1;rw[this]at f;rcases h.fst _ f n h3 with h4|h4
    ·exact hE h4
    ·exact g s n hn h4
   refine⟨?_,fun m b x a=>?_,fun k c m b=>?_⟩
   ·rw[td.2 fun x a=>by simpa using d x a]
   ·rcases eC.1 b with rfl | b
    ·exact cY.2 (.inr a)
    ·exact cY.2 (.inl (h.opn m b x a))
   ·rcases cY.1 c with c | c
    ·rcases h.fst k c m b with h4 | h4
     ·exact .inl (ei _ h4)
     ·exact .inr h4
    ·have:=(Fw.1 c).2.2
     rw[b]at this;cases this;exact .inl ed
theorem akp{P:List Pd}{st:Nat}(c:OE P st){l r:List au}{E:List Nat}{i:Nat}(h:Ck P l E i r):Am P st l E->tY P l i r:=by
 induction h with
 |done h=>exact fun _=>.done h
 |step h _ ih=>
  intro b;obtain⟨e,a⟩:=b.same c _;refine .step h ?_;rw[e];exact ih a
theorem tY.det{P:List Pd}{l r r':List au}{i:Nat}(h:tY P l i r):tY P l i r'->r=r':=by
 induction h with
 |done h=>
  intro a;cases a with
  |done _=>rfl
  |step h2 _=>omega
 |step h _ ih=>
  intro a;cases a with
  |done h2=>omega
  |step _ k=>exact ih k
theorem Am.kernel{P:List Pd}{st:Nat}{K:List au}(h:∀s∈K,s.2=0->P[s.1]?.map Pd.left=some st):Am P st K [] :=
 ⟨fun n a=>(by cases a),fun k b n a=>.inr (by have:=h _ b rfl;rw[a]at this;exact ie this)⟩
theorem aaC{P:List Pd}{n:Nat}:∀k:Nat,(fM P n k).length<=k
 |0=>zL0
 |k+1=>by
  rw[fM,cH];have:=aaC (P:=P) (n:=n) k
  split <;> simp <;> omega
def nU(P:List Pd)(s:au):List Nat:=(bM P s.1).drop (s.2+1)
def uz(f:Nat×Nat->Nat)(q:Nat)(l:List Nat):Nat:=l.foldl (fun a x=>f (a,x)) q
def F7(P:List Pd)(f:Nat×Nat->Nat)(q n k:Nat):List (au×Nat):=if P[k]?.map Pd.left=some n then (List.range ((bM P k).length+1)).map fun d=>((k,d),uz f q ((bM P k).take d)) else []
def iO(P:List Pd)(f:Nat×Nat->Nat)(q n:Nat):Nat->List (au×Nat)
  |0=>[]
  |k+1=>iO P f q n k++F7 P f q n k
theorem abv{P:List Pd}{f:Nat×Nat->Nat}{q n k:Nat}:∀{m:Nat},k<=m->∃R,iO P f q n m=iO P f q n k++R
  |0,h=>by
    obtain rfl:k=0:=by omega
    exact⟨[],by simp⟩
  |m+1,h=>by
    by_cases hk:k=m+1
    · subst hk;exact⟨[],by simp⟩
    · obtain⟨R,a⟩:=abv (P:=P) (f:=f) (q:=q) (n:=n) (m:=m) (show k<=m by omega)
      exact⟨R++F7 P f q n m,by rw[iO,a,dq]⟩
theorem akq{P:List Pd}{f:Nat×Nat->Nat}{q n k:Nat}(h:P[k]?.map Pd.left≠some n):iO P f q n (k+1)=iO P f q n k:=by
  rw[iO,F7,dt h,eV]
theorem aaD{P:List Pd}{f:Nat×Nat->Nat}{q n k:Nat}(h:P[k]?.map Pd.left=some n):(iO P f q n (k+1)).length=(iO P f q n k).length+((bM P k).length+1):=by
  rw[iO,F7,dj h,cH,dk,pD]
theorem alZ{P:List Pd}{f:Nat×Nat->Nat}{q n k d:Nat}(b:k<P.length)(h:P[k]?.map Pd.left=some n)(hd:d<=(bM P k).length):(iO P f q n P.length)[(iO P f q n k).length+d]?=some ((k,d),uz f q ((bM P k).take d)):=by
  obtain⟨R,a⟩:=abv (P:=P) (f:=f) (q:=q) (n:=n) (show k+1<=P.length by omega);rw[a,eL (by rw[aaD h];omega),iO,eN (by omega),yi,F7,dj h,di,sY (by omega)];rfl
theorem akr{P:List Pd}{f:Nat×Nat->Nat}{q k d x:Nat}(h:(bM P k)[d]?=some x):uz f q ((bM P k).take (d+1))=f (uz f q ((bM P k).take d),x):=by
  rw[pi,h];simp[uz]
theorem I4{P:List Pd}{f:Nat×Nat->Nat}{q n:Nat}{s:au}{r:Nat}:∀m,(s,r)∈iO P f q n m↔s.1<m/\P[s.1]?.map Pd.left=some n/\s.2<=(bM P s.1).length/\r=uz f q ((bM P s.1).take s.2)
  |0=>by simp[iO]
  |m+1=>by
    rw[iO,cY,I4 m];unfold F7;constructor
    · rintro(⟨h1,h2⟩ | h)
      · exact⟨by omega,h2⟩
      · split at h
        · rename_i a
          obtain⟨d,h1,h2⟩:=ee.1 h;cases h2;exact⟨rL _,a,Nat.le_of_lt_succ (pM.1 h1),rfl⟩
        · cases h
    · rintro⟨h1,h2,h3,h4⟩
      by_cases hk:s.1<m
      · exact .inl ⟨hk,h2,h3,h4⟩
      · obtain rfl:m=s.1:=by omega
        refine .inr ?_;rw[dj h2];exact ee.2 ⟨s.2,pM.2 (by omega),by rw[h4]⟩
end Lx
def bE(a:Nat×Nat):Value:=.agg #[.int .i64 (a.1:Int),.int .i64 (a.2:Int)]
theorem acs(a b:Nat×Nat)(h:bE a=bE b):a=b:=by
 simp only[bE,Value.agg.injEq,Array.mk.injEq,List.cons.injEq,Value.int.injEq,true_and,and_true]at h;exact qu (by omega) (by omega)
theorem Oc(x y:Int)(w:World):(part 3 #[.int .i64 x,.int .i64 y] 0).run prog w=.ok (.int .i64 x) w:=by kernel_rfl
theorem Ub(x y:Int)(w:World):(part 3 #[.int .i64 x,.int .i64 y] 1).run prog w=.ok (.int .i64 y) w:=by kernel_rfl
structure uD(kt:TypeId)(f0 f1:Field):Prop where
 hu:prog.underlying kt=some (.struct #[f0,f1])
 h0 : f0.type = 3 ∧ f0.offset = 0 ∧ f0.name ≠ "_"
 h1 : f1.type = 3 ∧ f1.offset = 1 ∧ f1.name ≠ "_"
 hs:prog.stoodInHeld kt=false
theorem Uc(d:Nat)(x y:Int)(w:World):(Op.equalIn (d+1) 3 (.int .i64 x) (.int .i64 y)).run prog w=.ok (x == y) w:=by
 have a:prog.underlying 3=some (.int .i64):=by kernel_rfl
 simp[Op.equalIn,run_underlying a,Result.andThen]
theorem uD.eq{c:TypeId}{f0 f1:Field}(h:uD c f0 f1)(a b:Nat×Nat)(w:World):(Op.equal c (bE a) (bE b)).run prog w=.ok (decide (a=b)) w:=by
 unfold bE Op.equal Op.maxDepth;rw[Op.equalIn];obtain⟨f,i⟩:=a;obtain⟨d,g⟩:=b
 by_cases e:f=d
 ·subst e
  by_cases e2:i=g
  ·subst e2;simp[run_underlying h.hu,h.hs,h.h0,h.h1,Result.andThen,Oc,Ub,Uc 9998]
  ·have:¬(i:Int)=g:=by omega
   simp[run_underlying h.hu,h.hs,h.h0,h.h1,Result.andThen,Oc,Ub,Uc 9998,e2,this]
 ·have:¬(f:Int)=d:=by omega
  simp[run_underlying h.hu,h.hs,h.h0,h.h1,Result.andThen,Oc,Uc 9998,this,e]
theorem uD.check{b:TypeId}{f0 f1:Field}(h:uD b f0 f1)(c:Bool)(w:World)(a:Nat×Nat):(Instr.checkKey c 10000 b (bE a)).run prog w=.ok () w:=by
 have g:prog.underlying 3=some (.int .i64):=by kernel_rfl
 have f:∀(d:Nat)(x:Int)(w:World),(Instr.checkKey c (d+1) 3 (.int .i64 x)).run prog w=.ok () w:=fun d x w=>by simp[Instr.checkKey,run_underlying g,Result.andThen]
 unfold bE;rw[Instr.checkKey];simp[run_underlying h.hu,h.h0,h.h1,Result.andThen,Oc,Ub,f 9998]
theorem al0(w:World)(a:Nat×Nat):(Instr.keyThatStays (bE a) (bE a)).run prog w=.ok (bE a) w:=by
 have:Instr.sameBits 10000 (bE a) (bE a)=true:=by unfold bE;simp[Instr.sameBits]
 simp[Instr.keyThatStays,this]
theorem uD.find{f:TypeId}{f0 f1:Field}(h:uD f f0 f1)(a:Nat×Nat)(w:World):∀(l:List MapEntry)(i:Nat),(∀x∈l,∃c,x.key=bE c)->((Instr.findAsking f (bE a) l i).run prog w=.ok none w/\∀(x:MapEntry),x∈l->x.key≠bE a)\/∃(j:Nat)(e:MapEntry),(Instr.findAsking f (bE a) l i).run prog w=.ok (some (i+j,e.val)) w/\l[j]?=some e/\e.key=bE a
 | [],i,_=>.inl ⟨by simp[Instr.findAsking],fun x m=>by cases m⟩
 |x::l,i,hl=>by
  obtain⟨c,b⟩:=hl x (ed ..)
  by_cases e:a=c
  ·subst e
   exact .inr ⟨0,x,by simp[Instr.findAsking,b,h.eq,Result.andThen],rfl,b⟩
  ·have g:x.key≠bE a:=fun k=>e (acs _ _ (k.symm.trans b))
   rcases uD.find h a w l (i+1) (fun y d=>hl y (ei _ d)) with ⟨h1,h2⟩|⟨j,y,h1,h2,h3⟩
   ·refine .inl ⟨by simp[Instr.findAsking,b,h.eq,e,Result.andThen,h1],fun y d=>?_⟩
    rcases eC.1 d with rfl|d
    ·exact g
    ·exact h2 y d
   ·exact .inr ⟨j+1,y,by simp[Instr.findAsking,b,h.eq,e,Result.andThen,h1];omega,h2,h3⟩
theorem uD.findKey{b:TypeId}{f0 f1:Field}(h:uD b f0 f1)(a:Nat×Nat)(w:World)(l:List MapEntry)(g:∀x∈l,∃c,x.key=bE c):((Instr.findKey b (bE a) l).run prog w=.ok none w/\∀(x:MapEntry),x∈l->x.key≠bE a)\/∃(j:Nat)(e:MapEntry),(Instr.findKey b (bE a) l).run prog w=.ok (some (j,e.val)) w/\l[j]?=some e/\e.key=bE a:=by
 cases l with
 |nil=>exact .inl ⟨by simp[Instr.findKey,run_underlying h.hu,Instr.findNow,Result.andThen],fun x d=>by cases d⟩
 |cons x l=>
  have f:Instr.findNow (.struct #[f0,f1]) (bE a) (x::l) 0=none:=by
   simp[Instr.findNow,Instr.sameNow]
  have:=h.find a w (x::l) 0 g;simp only[Nat.zero_add]at this;simpa [Instr.findKey,run_underlying h.hu,f,Result.andThen]using this
def iy{κ:Type}(K:κ->Value)(w:World)(B:Nat)(ts:List κ):Prop:=∃es clock,w.heap[B]?=some (.map es clock)/\es.size=ts.length/\∀(i:Nat)(e:MapEntry),es[i]?=some e->∃t,ts[i]?=some t/\e.key=K t/\e.val=.int .i64 (i:Int)
section
variable{P:Program}{kt T E:TypeId}{κ:Type}{K:κ -> Value}{w:World}{B:Nat}{ts:List κ}
theorem iy.lt(h:iy K w B ts):B<w.heap.size:=by
 obtain⟨b,a,h1,-⟩:=h;exact(ek.1 h1).1
theorem iy.move{w':World}(h:iy K w B ts)(b:w'.heap[B]?=w.heap[B]?):iy K w' B ts:=by
 obtain⟨c,a,h1,h2⟩:=h;exact⟨c,a,b.trans h1,h2⟩
theorem iy.made(K:κ->Value)(w:World):iy K (w.alloc (.map #[] 0)) w.heap.size []:=⟨#[],0,ot w _,rfl,fun i e h=>by simp at h⟩
theorem iy.keys(h:iy K w B ts):∃es clock,w.heap[B]?=some (.map es clock)/\es.size=ts.length/\(∀(i:Nat)(e:MapEntry),es[i]?=some e->∃t,ts[i]?=some t/\e.key=K t/\e.val=.int .i64 (i:Int))/\∀x∈es.toList,∃c,x.key=K c/\True:=by
 obtain⟨es,clock,h1,h2,h3⟩:=h;refine⟨es,clock,h1,h2,h3,fun x d=>?_⟩;obtain⟨i,a⟩:=eS.1 d;obtain⟨t,-,b,-⟩:=h3 i x (by rw[<-gh];exact a);exact⟨t,b,trivial⟩
theorem iy.miss(d:uU P kt K (fun _ _=>True))(l:P.underlying T=some (.map kt E))(k:∀w,(zeroValue E).run P w=.ok (.int .i64 0) w)(h:iy K w B ts){b:κ}(f:b∉ts):(Instr.lookup T (.map (some B)) (K b) true).run P w=.ok (.tuple #[.int .i64 0,.bool false]) w:=by
 obtain⟨n,a,h1,h2,h3,h4⟩:=h.keys;rcases d.find w b n.toList trivial h4 with ⟨m,-⟩|⟨j,e,-,i,g⟩
 ·simp[Instr.lookup,run_underlying l,MapKept.run_getObj_map h1,d.check,m,k,Result.andThen]
 ·obtain⟨t,ht,c,-⟩:=h3 j e (by rw[<-gh];exact i)
  exact absurd (d.inj _ _ (g.symm.trans c)▸cJ ht) f
theorem iy.hit(p:uU P kt K (fun _ _=>True))(y:P.underlying T=some (.map kt E))(h:iy K w B ts)(z:ts.Nodup){i:Nat}{b:κ}(g:ts[i]?=some b):(Instr.lookup T (.map (some B)) (K b) true).run P w=.ok (.tuple #[.int .i64 (i:Int),.bool true]) w:=by
 obtain⟨d,m,h1,h2,h3,h4⟩:=h.keys;rcases p.find w b d.toList trivial h4 with ⟨o,k⟩|⟨j,e,o,s,q⟩
 ·obtain⟨u,-⟩:=cG.1 g
  have n:d[i]?=some d[i]:=kk (by omega);obtain⟨t,c,a,-⟩:=h3 i _ n;rw[g]at c;cases c;exact absurd a (k _ (by simp))
 ·have f:d[j]?=some e:=by rw[<-gh];exact s
  obtain⟨t,c,a,x⟩:=h3 j e f;have:=p.inj _ _ (q.symm.trans a);subst this;have l:j=i:=by
   obtain⟨C,r⟩:=cG.1 c;obtain⟨A,v⟩:=cG.1 g;exact(lP z).1 (r.trans v.symm)
  subst l;rw[x]at o;simp[Instr.lookup,run_underlying y,MapKept.run_getObj_map h1,p.check,o,Result.andThen]
theorem iy.put(m:uU P kt K (fun _ _=>True))(s:P.underlying T=some (.map kt E))(h:iy K w B ts){b:κ}(q:b∉ts):∃w',(Instr.mapUpdate T (.map (some B)) (K b) (.int .i64 (ts.length:Int))).run P w=.ok () w'/\iy K w' B (ts++[b])/\w.grownBy w' (some B)/\w'.heap.size=w.heap.size:=by
 obtain⟨n,a,h1,h2,h3,h4⟩:=h.keys;have d:∀o:Obj,w.grownBy { w with heap:=w.heap.setIfInBounds B o } (some B):=fun o=>⟨rfl,rfl,rfl,by simp,fun k _ l=>(po h1).2 k (fun e=>l (by rw[e]))⟩
 rcases m.find w b n.toList trivial h4 with ⟨u,-⟩|⟨j,e,-,p,l⟩
 ·refine⟨{ w with heap:=w.heap.setIfInBounds B (.map (n.push { key:=K b,val:=.int .i64 (ts.length:Int),born:=a }) (a+1)) },?_,⟨_,a+1,(po h1).1,by simp[h2],?_⟩,d _,by simp⟩
  ·simp[Instr.mapUpdate,run_underlying s,MapKept.run_getObj_map h1,m.check,u,MapKept.run_setObj_map _ h1,Result.andThen]
  ·intro i e g
   rw[pk]at g
   split at g
   ·rename_i f
    cases g;refine⟨b,?_,rfl,by rw[f,h2]⟩;rw[f,h2];simp
   ·obtain⟨t,ht,c,r⟩:=h3 i e g
    refine⟨t,?_,c,r⟩;rw[eL (cG.1 ht).1];exact ht
 ·obtain⟨t,ht,c,-⟩:=h3 j e (by rw[<-gh];exact p)
  exact absurd (m.inj _ _ (l.symm.trans c)▸cJ ht) q
end
theorem uD.key{b:TypeId}{f0 f1:Field}(h:uD b f0 f1):uU prog b bE (fun _ _=>True) where
 inj:=acs
 check em w a:=h.check em w a
 find w a l _ hl:=h.findKey a w l fun x d=>by obtain⟨c,f,-⟩:=hl x d;exact⟨c,f⟩
 stays w a:=al0 w a
theorem Tryz.JG : uU prog 212 bE (fun _ _ => True) := uD.key (f0 := ⟨ "state", 3, 0, false, "", "comb/look", 0⟩) (f1 := ⟨ "symbol", 3, 1, false, "", "comb/look", 8⟩) ⟨by kernel_rfl, ⟨rfl, rfl, by decide⟩, ⟨rfl, rfl, by decide⟩, by kernel_rfl⟩
theorem Tryz.J4 : uU prog 228 bE (fun _ _ => True) := uD.key (f0 := ⟨ "state", 3, 0, false, "", "comb/look", 0⟩) (f1 := ⟨ "prod", 3, 1, false, "", "comb/look", 8⟩) ⟨by kernel_rfl, ⟨rfl, rfl, by decide⟩, ⟨rfl, rfl, by decide⟩, by kernel_rfl⟩
theorem Tryz.Jt:prog.underlying 145=some (.map 212 3):=by kernel_rfl
theorem Tryz.Ju:prog.underlying 223=some (.map 228 3):=by kernel_rfl
section
open Go.RowKit Go.Shelf
open Tr
attribute [local go_sem] pB
structure mX(w:World)(F:Nat->Prop)(g:Nat)(P:List Lx.Pd):Prop where
 own:F g
 row:∀(k:Nat)(p:Lx.Pd),P[k]?=some p->∃ra rc,w.cell? ⟨g,k*3,none⟩=some (.int .i64 (p.left:Int))/\w.cell? ⟨g,k*3+1,none⟩=some (.slice ra p.right.length rc)/\w.cell? ⟨g,k*3+2,none⟩=some (.int .i64 p.prec)/\p.right.length<=rc/\((ra=none/\p.right=[]/\rc=0)\/∃b,ra=some ⟨b,0,none⟩/\F b/\∀(j x:Nat),p.right[j]?=some x->w.cell? ⟨b,j,none⟩=some (.int .i64 (x:Int)))
theorem mX.move{w w':World}{F:Nat->Prop}{g:Nat}{P:List Lx.Pd}(h:mX w F g P)(d:∀b,F b->w'.heap[b]?=w.heap[b]?):mX w' F g P:=by
 refine⟨h.own,fun k p m=>?_⟩;obtain⟨n,l,h1,h2,h3,h4,c⟩:=h.row k p m;have a:=d g h.own;refine⟨n,l,(cM (w:=w) a).trans h1,(cM (w:=w) a).trans h2,(cM (w:=w) a).trans h3,h4,?_⟩;rcases c with c|⟨b,e,f,i⟩
 ·exact .inl c
 ·exact .inr ⟨b,e,f,fun j x o=>(cM (w:=w) (d b f)).trans (i j x o)⟩
structure K7(w0:World)(F:Nat->Prop)(W:World)(bm:Nat)(v0 v1 vP v3 v4:Value)(gm:Nat)(f:Nat×Nat->Nat):Prop where
 blk:aj W bm #[v0,v1,vP,v3,v4,.map (some gm)] 147
 keep:∀b,F b->W.heap[b]?=w0.heap[b]?
 goes:dF bE (fun _=>True) W gm (fun a=>(f a:Int))
def encS(x:au×Nat):Array Value:=#[bE x.1,.int .i64 (x.2:Int)]
theorem aaE{w0:World}{F:Nat->Prop}{bm bs gm gP pc q n:Nat}{v0 v1 v3 v4:Value}{P:List Lx.Pd}{f:Nat×Nat->Nat}(hP:mX w0 F gP P)(aa:P.length<=200)(T:∀k,(bM P k).length<=2002):Ah prog 167 #[.pointer (some ⟨bm,0,none⟩),.pointer (some ⟨bs,0,none⟩)] encS (iO P f q n P.length) (fun W=>K7 w0 F W bm v0 v1 (.slice (some ⟨gP,0,none⟩) P.length pc) v3 v4 gm f/\aj W bs #[.int .i64 (q:Int),.int .i64 (n:Int)] 212):=by
 intro l J W hJ E hY S;refine ij.1 (zp (F:=Fence.wide) (n:=9) func167 rfl trivial ?_ rfl);simp only[ntmps167,List.size_toArray,List.length_cons,List.length_nil,Nat.reduceAdd,Nat.reduceSub,Array.replicate_succ,Array.replicate_zero,List.push_toArray,List.append_toArray,List.nil_append,List.cons_append];have m2:W.cell? ⟨bm,2,none⟩=some (.slice (some ⟨gP,0,none⟩) P.length pc):=(E _ _ _ S).1.blk.cell 2
 gi_wp2
 gi_loopg [13] P.length (fun m i wr=>∃(k:Nat)(Z:Nat->Prop),k+m=P.length/\i=.int .i64 (k:Int)/\J (iO P f q n k).length Z wr)
 case atStart=>exact⟨0,_,by omega,rfl,S⟩
 case round=>
  clear S m2;obtain⟨k,Z,hk,rfl,L⟩:=hrel
  by_cases hlt:k<P.length
  ·obtain⟨p,s⟩:∃p,P[k]?=some p:=⟨_,cF hlt⟩
   obtain⟨A,B,c0,c1,c2,-,u⟩:=(hP.move (E _ _ _ L).1.keep).row k p s;have z:bM P k=p.right:=by simp[bM,s]
   have ab:p.right.length<=2002:=z▸T k;have HB:Hid (∀(j x:Nat),p.right[j]?=some x->∃b,A=some ⟨b,0,none⟩/\F b/\w0.cell? ⟨b,j,none⟩=some (.int .i64 (x:Int))):=fun j x G=>by
    rcases u with ⟨-,h,-⟩|⟨b,e,Y,hc⟩
    ·rw[h]at G;cases G
    ·exact⟨b,e,Y,(cM (w:=wr) ((E _ _ _ L).1.keep b Y).symm).trans (hc j x G)⟩
   clear u;have j1:(0:Int)<=(k:Int):=by omega
   have j2:(k:Int)<(P.length:Int):=by omega
   gi_upto_region 3 with fail
   obtain⟨y,o⟩:∃V,V=wr.alloc (.cells #[.int .i64 (p.left:Int),.slice A p.right.length B,.int .i64 p.prec] 120):=⟨_,rfl⟩;rw[<-o];obtain⟨H,c,v⟩:∃H:Nat->Prop,J (iO P f q n k).length H y/\H wr.heap.size:=⟨fun x=>Z x\/x=wr.heap.size,by rw[o];exact hJ.new _ _ _ _ L,.inr rfl⟩;have kB:aj y wr.heap.size #[.int .i64 (p.left:Int),.slice A p.right.length B,.int .i64 p.prec] 120:=by rw[o];exact aj.new ..
   generalize wr.heap.size=bp at c kB v|-;clear o L c0 c1 c2;have kS:=(E _ _ _ c).2;have b0:y.cell? ⟨bp,0,none⟩=some (.int .i64 (p.left:Int)):=kB.cell 0;have U:y.cell? ⟨bp,1,none⟩=some (.slice A p.right.length B):=kB.cell 1;have s0:y.cell? ⟨bs,0,none⟩=some (.int .i64 (q:Int)):=kS.cell 0;have s1:y.cell? ⟨bs,1,none⟩=some (.int .i64 (n:Int)):=kS.cell 1
   by_cases hl:p.left=n
   ·have t:P[k]?.map Lx.Pd.left=some n:=by rw[s,<-hl];rfl
    have e1:((p.left:Int) != (n:Int))=false:=by simp[hl]
    have e2:¬(p.left:Int)≠(n:Int):=by simp[hl]
    clear hl
    gi_wp2
    gi_loopg [6,28] p.right.length (fun m av i D=>∃(d:Nat)(C:Nat->Prop),d+m=p.right.length/\i=.int .i64 (d:Int)/\av=.int .i64 (uz f q (p.right.take d):Int)/\J ((iO P f q n k).length+d) C D/\C bp/\aj D bp #[.int .i64 (p.left:Int),.slice A p.right.length B,.int .i64 p.prec] 120)
    case atStart=>exact⟨0,H,by omega,rfl,rfl,c,v,kB⟩
    case round=>
     clear kS b0 U s0 s1 c v kB;revert wr;intro D hrel;obtain⟨d,C,hd,rfl,rfl,r,K,kB⟩:=hrel;obtain⟨fn,tmps,assign,body,I,N⟩:=hY _ _ C D (alZ hlt t (show d<=_ by rw[z];omega)) r;rw[z]at I;simp only[encS,bE]at I
     by_cases hdl:d<p.right.length
     ·obtain⟨x,G⟩:∃x,p.right[d]?=some x:=⟨_,cF hdl⟩
      obtain⟨b,rfl,KE,Q⟩:=HB.out d x G;have Q:D.cell? ⟨b,d,none⟩=some (.int .i64 (x:Int)):=(cM (w:=w0) ((E _ _ _ r).1.keep b KE)).trans Q;have j3:(0:Int)<=(d:Int):=by omega
      have j4:(d:Int)<(p.right.length:Int):=by omega
      gi_wp2
      refine(IJ N).mono ?_;rintro e O⟨rfl,g,M⟩;have R:aj O bp #[.int .i64 (p.left:Int),.slice (some ⟨b,0,none⟩) p.right.length B,.int .i64 p.prec] 120:=(M bp K kB.lt).trans kB;have X:=(E _ _ _ g).1;have m5:O.cell? ⟨bm,5,none⟩=some (.map (some gm)):=X.blk.cell 5;have lk:=dF.look Tryz.JG Tryz.Jt Tryz.F5 (fun _ _=>trivial) X.goes (a:=(uz f q (p.right.take d),x)) trivial;simp only[bE]at lk;have ew:f (uz f q (p.right.take d),x)=uz f q (p.right.take (d+1)):=by
       have:=akr (P:=P) (f:=f) (q:=q) (k:=k) (d:=d) (x:=x) (by rw[z];exact G);rw[z]at this;exact this.symm
      have HE:Hid (f (uz f q (p.right.take d),x)=uz f q (p.right.take (d+1))):=ew;clear ew M X I N kB r Q
      gi_wp2
      gi_roundg (p.right.length - (d+1))
      case measure=>omega
      case rel=>exact⟨d+1,C,by omega,by go_num,by rw[HE.out],g,K,R⟩
     ·obtain rfl:d=p.right.length:=by omega
      rw[fR]at I;have U:D.cell? ⟨bp,1,none⟩=some (.slice A p.right.length B):=kB.cell 1
      gi_wp2
      refine(IJ N).mono ?_;rintro e O⟨rfl,g,-⟩;clear I N kB r U
      gi_wp2
      gi_roundg (P.length - (k+1))
      case measure=>omega
      case rel=>exact⟨k+1,C,by omega,by go_num,by rw[aaD t,z];exact g⟩
   ·have t:P[k]?.map Lx.Pd.left≠some n:=fun e=>hl (by rw[s]at e;simpa using e)
    have e1:((p.left:Int) != (n:Int))=true:=by simp;omega
    have e2:(p.left:Int)≠(n:Int):=by omega
    clear kB kS
    gi_wp2
    gi_roundg (P.length - (k+1))
    case measure=>omega
    case rel=>exact⟨k+1,H,by omega,by go_num,by rw[akq t];exact c⟩
  ·gi_wp2
   go_end0
   exact⟨⟨_,rfl⟩,Z,by rw[show P.length=k by omega];exact L⟩
end
section
open Go.RowKit Go.Shelf
open Tr
attribute [local go_sem] pB
theorem aaF{w:World}{v0 v1 a v3 v4 v5:Value}{x y:Int}:Calls prog 136 #[.agg #[v0,v1,a,v3,v4,v5],.agg #[.int .i64 x,.int .i64 y]] w fun e w'=>e=.returned (.func (.func 167) #[] #[.pointer (some ⟨w.heap.size,0,none⟩),.pointer (some ⟨w.heap.size+1,0,none⟩)])/\w'=(w.alloc (.cells #[v0,v1,a,v3,v4,v5] 147)).alloc (.cells #[.int .i64 x,.int .i64 y] 212):=by
 go_enter func136,ntmps136;go_wp2_with fail;go_ret;exact⟨rfl,rfl⟩
theorem ai7{w:World}{v0 v1 a v3 v4 v5:Value}{x y:Int}:Calls prog 96 #[.agg #[v0,v1,a,v3,v4,v5],.agg #[.int .i64 x,.int .i64 y]] w fun e w'=>e=.returned (.func (.func 135) #[] #[.pointer (some ⟨w.heap.size,0,none⟩),.pointer (some ⟨w.heap.size+1,0,none⟩)])/\w'=(w.alloc (.cells #[v0,v1,a,v3,v4,v5] 147)).alloc (.cells #[.int .i64 x,.int .i64 y] 212):=by
 go_enter func96,ntmps96;go_wp2_with fail;go_ret;exact⟨rfl,rfl⟩
theorem aks{w:World}{v0 v1 a v3 v4 v5:Value}{x y:Int}:Calls prog 138 #[.agg #[v0,v1,a,v3,v4,v5],.agg #[.int .i64 x,.int .i64 y]] w fun e w'=>e=.returned (.func (.func 168) #[] #[.pointer (some ⟨w.heap.size,0,none⟩),.pointer (some ⟨w.heap.size+1,0,none⟩)])/\w'=(w.alloc (.cells #[v0,v1,a,v3,v4,v5] 147)).alloc (.cells #[.int .i64 x,.int .i64 y] 212):=by
 go_enter func138,ntmps138;go_wp2_with fail;go_ret;exact⟨rfl,rfl⟩
namespace Lx
def yA(P:List Pd)(nT:Nat)(x:au×Nat):Bool:=match dQ P x.1 with
 |some m=>decide (nT<=m)
 |none=>false
def EG(P:List Pd)(x:au×Nat):Bool:=decide (x.1.2=(bM P x.1.1).length)
theorem FR{α:Type}{g:α->Bool}{a:List α}{i:Nat}{x:α}(h:a[i]?=some x):(a.take (i+1)).filter g=(a.take i).filter g++(if g x then [x] else []):=by
 rw[pi,h,ki];cases hg:g x <;> simp[hg]
theorem ad1{α:Type}{g:α->Bool}{a:List α}{i:Nat}{x:α}(h:a[i]?=some x)(b:g x=true):(a.filter g)[((a.take i).filter g).length]?=some x:=by
 have e:a.filter g=(a.take (i+1)).filter g++(a.drop (i+1)).filter g:=by rw[<-ki,mA]
 rw[e,FR h,b,dq,eN (zL0),ib];rfl
end Lx
def tailV:Value->Nat->Value
 | .slice (some ⟨b,o,s⟩) n c,i=>.slice (if c-i=1 then some ⟨b,o+i,s⟩ else some ⟨b,o+i+1,s⟩) (n-i-1) (c-i-1)
 |v,_=>v
def Gn(w:World)(g k:Nat):Value:=(w.cell? ⟨g,k*3+1,none⟩).getD undef
def UN(w0:World)(gP:Nat)(P:List Lx.Pd)(x:au×Nat):Array Value:=#[bE (x.2,(dQ P x.1).getD 0),tailV (Gn w0 gP x.1.1) x.1.2]
def xK(J:Nat->(Nat->Prop)->World->Prop)(c:Nat->Nat)(n0 n:Nat)(R:World->Prop)(i:Nat)(Z:Nat->Prop)(W:World):Prop:=J (c i) (fun k=>Z k\/(n0<=k/\k<n)) W/\(∀k,Z k->n<=k)/\n<=W.heap.size/\R W
def OG(n0 n:Nat)(R:World->Prop):Prop:=n0<n/\∀A B:World,(∀k,n0<=k->k<n->B.heap[k]?=A.heap[k]?)->R A->R B
theorem xK.wm{J:Nat->(Nat->Prop)->World->Prop}(d:xR J){c:Nat->Nat}{b n:Nat}{R:World->Prop}(f:OG b n R):xR (xK J c b n R) where
 own i Z A B row hs hg hr:=by
  obtain⟨h1,h2,h3,h4⟩:=hs;refine⟨d.own _ _ A B row h1 hg fun r e=>.inl (hr r e),h2,de h3 hg.size,f.2 A B (fun k _ a=>hg.block k (by omega) fun e=>?_) h4⟩;have:=h2 k (hr k e.symm);omega
 new i Z A o hs:=by
  obtain⟨h1,h2,h3,h4⟩:=hs;refine⟨JA (d.new _ _ A o h1) fun k=>by grind,fun k a=>?_,by rw[fd];omega,f.2 A _ (fun k _ a=>dg _ _ _ (by omega)) h4⟩;rcases a with a|a
  ·exact h2 k a
  ·omega
theorem xK.next{J:Nat->(Nat->Prop)->World->Prop}{c:Nat->Nat}{b n i:Nat}{R:World->Prop}{Z:Nat->Prop}{W d:World}{a:Act}(h:xK J c b n R i Z W)(g:OG b n R)(h3:J (c (i+1)) (fun k=>Z k\/(b<=k/\k<n)) d)(f:∀k,(Z k\/(b<=k/\k<n))->k<W.heap.size->d.heap[k]?=W.heap[k]?):yR Z (xK J c b n R (i+1) Z) W .normal a d:=by
 obtain⟨h1,h2,h4,o⟩:=h;have:=g.1;refine⟨⟨h3,h2,?_,g.2 W d (fun k m j=>f k (.inr ⟨m,j⟩) (by omega)) o⟩,fun k l p=>f k (.inl l) p⟩;have e:=f (n-1) (.inr ⟨by omega,by omega⟩) (by omega);apply kj;intro q;rw[rt (by omega),kk (by omega)]at e;cases e
theorem ai8{w0:World}{F:Nat->Prop}{bm bs gm gP pc q n nT tc:Nat}{ta:Option Addr}{v1 v3 v4:Value}{P:List Lx.Pd}{f:Nat×Nat->Nat}(Y:mX w0 F gP P)(aa:P.length<=200)(ac:∀k,(bM P k).length<=2002):Ah prog 135 #[.pointer (some ⟨bm,0,none⟩),.pointer (some ⟨bs,0,none⟩)] (UN w0 gP P) ((iO P f q n P.length).filter (yA P nT)) (fun W=>K7 w0 F W bm (.slice ta nT tc) v1 (.slice (some ⟨gP,0,none⟩) P.length pc) v3 v4 gm f/\aj W bs #[.int .i64 (q:Int),.int .i64 (n:Int)] 212):=by
 have HS:Hid (∀bm bs,Ah prog 167 #[.pointer (some ⟨bm,0,none⟩),.pointer (some ⟨bs,0,none⟩)] encS (iO P f q n P.length) _):=fun bm bs=>aaE (w0:=w0) (F:=F) (bm:=bm) (bs:=bs) (gm:=gm) (gP:=gP) (pc:=pc) (q:=q) (n:=n) (v0:=.slice ta nT tc) (v1:=v1) (v3:=v3) (v4:=v4) (f:=f) Y aa ac
 have HM:Hid (∀x∈iO P f q n P.length,x.1.1<P.length/\x.1.2<=(bM P x.1.1).length):=fun x hx=>by
  have:=(I4 (s:=x.1) (r:=x.2) P.length).1 hx;exact⟨this.1,this.2.2.1⟩
 generalize iO P f q n P.length=xs at HS HM|-;intro l J W t U hY h0;refine ij.1 (callsIn_of_wp_marks (F:=Fence.wide) (n:=9) func135 rfl trivial ?_ rfl);simp only[ntmps135,List.size_toArray,List.length_cons,List.length_nil,Nat.reduceAdd,Nat.reduceSub,Array.replicate_succ,Array.replicate_zero,List.push_toArray,List.append_toArray,List.nil_append,List.cons_append]
 gi_upto_region 1 with fail
 obtain⟨m,u⟩:∃V,V=W.alloc (.cells #[.func (.yield l) #[] #[]] 279):=⟨_,rfl⟩;rw[<-u];have Q:=t.new _ _ _ (.cells #[.func (.yield l) #[] #[]] 279) h0;rw[<-u]at Q;have kY:aj m W.heap.size #[.func (.yield l) #[] #[]] 279:=by rw[u];exact aj.new ..
 have H:m.heap.size=W.heap.size+1:=by rw[u];simp
 clear u h0;generalize W.heap.size=by' at Q kY H|-;obtain⟨o,kS⟩:=U _ _ _ Q;have m0:m.cell? ⟨bm,0,none⟩=some (.slice ta nT tc):=o.blk.cell 0;have m1:m.cell? ⟨bm,1,none⟩=some v1:=o.blk.cell 1;have m2:m.cell? ⟨bm,2,none⟩=some (.slice (some ⟨gP,0,none⟩) P.length pc):=o.blk.cell 2;have m3:m.cell? ⟨bm,3,none⟩=some v3:=o.blk.cell 3;have m4:m.cell? ⟨bm,4,none⟩=some v4:=o.blk.cell 4;have m5:m.cell? ⟨bm,5,none⟩=some (.map (some gm)):=o.blk.cell 5;have s0:m.cell? ⟨bs,0,none⟩=some (.int .i64 (q:Int)):=kS.cell 0;have s1:m.cell? ⟨bs,1,none⟩=some (.int .i64 (n:Int)):=kS.cell 1
 gi_wp2_with (refine⟨trivial,?_⟩;gi_at_call 136;refine(ij.2 aaF).mono ?_;rintro e w2⟨rfl,c⟩)
 have j:=t.new _ _ _ (.cells #[.int .i64 (q:Int),.int .i64 (n:Int)] 212) (t.new _ _ _ (.cells #[.slice ta nT tc,v1,.slice (some ⟨gP,0,none⟩) P.length pc,v3,v4,.map (some gm)] 147) Q);have kA:aj w2 m.heap.size #[.slice ta nT tc,v1,.slice (some ⟨gP,0,none⟩) P.length pc,v3,v4,.map (some gm)] 147:=by rw[c];exact(aj.new ..).alloc _
 have kC:aj w2 (m.heap.size+1) #[.int .i64 (q:Int),.int .i64 (n:Int)] 212:=by
  rw[c];have:=aj.new (m.alloc (.cells #[.slice ta nT tc,v1,.slice (some ⟨gP,0,none⟩) P.length pc,v3,v4,.map (some gm)] 147)) #[.int .i64 (q:Int),.int .i64 (n:Int)] 212
  rwa [fd]at this
 have K8:aj w2 by' #[.func (.yield l) #[] #[]] 279:=by rw[c];exact(kY.alloc _).alloc _
 have af:w2.heap.size=by'+3:=by rw[c];simp;omega
 rw[<-c,fd]at j;rw[<-c];rw[H]at j kA kC;clear c Q kY H o kS m0 m1 m2 m3 m4 m5 s0 s1;have Wi:J 0 (fun k=>False\/(by'<=k/\k<by'+3)) w2:=JA j fun k=>by grind
 clear j;have ab:=HS.out (by'+1) (by'+1+1);clear HS;obtain⟨R,E,L,Wj⟩:∃R:World->Prop,OG by' (by'+3) R/\Hid (∀W,R W->aj W by' #[.func (.yield l) #[] #[]] 279/\aj W (by'+1) #[.slice ta nT tc,v1,.slice (some ⟨gP,0,none⟩) P.length pc,v3,v4,.map (some gm)] 147/\aj W (by'+1+1) #[.int .i64 (q:Int),.int .i64 (n:Int)] 212)/\R w2 :=
  ⟨_,⟨by omega,fun A B h hb=>⟨(h _ (by omega) (by omega)).trans hb.1,(h _ (by omega) (by omega)).trans hb.2.1,(h _ (by omega) (by omega)).trans hb.2.2⟩⟩,fun _ h=>h,K8,kA,kC⟩
 clear K8 kA kC;refine IC (gf:=167) (lb:=#[.pointer (some ⟨by'+1,0,none⟩),.pointer (some ⟨by'+1+1,0,none⟩)]) rfl (enters_of func167 (by kernel_rfl) rfl) ab (fun _=>rfl)
  (xK J (fun i=>((xs.take i).filter (yA P nT)).length) by' (by'+3) R) (xK.wm t E)
  (fun i Z W h=>⟨⟨(L.out W h.2.2.2).2.1,(U _ _ _ h.1).1.keep,(U _ _ _ h.1).1.goes⟩,(L.out W h.2.2.2).2.2⟩) ⟨Wi,fun k h=>h.elim,by omega,Wj⟩
  (fun x a' W=>∃G,by'+5<=G/\aj W G #[.int .i64 (x.1.1:Int),.int .i64 (x.1.2:Int)] 160/\a'={ tmps:=#[.func (.yield l) #[] #[],.pointer (some ⟨bm,0,none⟩),.pointer (some ⟨bs,0,none⟩),.pointer (some ⟨by',0,none⟩),.pointer (some ⟨G,0,none⟩),.int .i64 (x.2:Int),undef,.agg #[.slice ta nT tc,v1,.slice (some ⟨gP,0,none⟩) P.length pc,v3,v4,.map (some gm)],.agg #[.int .i64 (q:Int),.int .i64 (n:Int)],.func (.func 167) #[] #[.pointer (some ⟨by'+1,0,none⟩),.pointer (some ⟨by'+1+1,0,none⟩)],bE x.1,.int .i64 (x.2:Int),undef,undef,undef,undef,undef,undef,undef,undef,undef,undef,undef,undef,undef,undef,undef,undef,undef,undef,undef,undef,undef,undef,undef,undef,undef,undef,undef,undef,undef,undef,undef,undef,undef,undef],defers:=[] })
  ?hAx ?assign ?body ?done
 case hAx=>
  rintro x a' A o'⟨G,h1,h2,rfl⟩;exact⟨G,h1,(World.putObj_heap_other (by omega)).trans h2,rfl⟩
 case assign=>
  rintro l' i⟨⟨k,d⟩,r⟩Z W K hsz N y;simp only[encS,bE]
  gi_wp2
  exact y _ _ (by simp) (fun k _ X=>dg _ _ _ X) ((xK.wm t E).own _ _ _ _ none N (qS _ _ none) (fun r e=>by cases e)) ⟨W.heap.size,by omega,aj.new ..,rfl⟩
 case body=>
  rintro l' i⟨⟨k,d⟩,r⟩Z a' W hx N⟨G,ag,kX,rfl⟩;have M:=N.1;have i4:=(L.out W N.2.2.2).1;obtain⟨o,-⟩:=U _ _ _ M;have m0:W.cell? ⟨bm,0,none⟩=some (.slice ta nT tc):=o.blk.cell 0;have m2:W.cell? ⟨bm,2,none⟩=some (.slice (some ⟨gP,0,none⟩) P.length pc):=o.blk.cell 2;have x0:W.cell? ⟨G,0,none⟩=some (.int .i64 (k:Int)):=kX.cell 0;have x1:W.cell? ⟨G,1,none⟩=some (.int .i64 (d:Int)):=kX.cell 1;have y0:W.cell? ⟨by',0,none⟩=some (.func (.yield l) #[] #[]):=i4.cell 0;obtain⟨X,hd⟩:k<P.length/\d<=(bM P k).length:=HM.out _ (cJ hx);obtain⟨p,hp⟩:∃p,P[k]?=some p:=⟨_,cF X⟩;have er:bM P k=p.right:=by simp[bM,hp]
  rw[er]at hd;obtain⟨ra,rc,-,c1,-,ah,v⟩:=(Y.move o.keep).row k p hp;have j1:(0:Int)<=(k:Int):=by omega
  have j2:(k:Int)<(P.length:Int):=by omega
  by_cases hdl:d<p.right.length
  ·obtain⟨x,T⟩:∃x,p.right[d]?=some x:=⟨_,cF hdl⟩
   obtain⟨b,rfl,KE,hc⟩:=v.resolve_left (fun h=>by rw[h.2.1]at T;cases T);have cx:=hc d x T;clear hc v
   gi_wp2
   refine Dq (by kernel_rfl) (by kernel_rfl) (by kernel_rfl) ?_
   repeat (gi_big_quiet_step (fail))
   refine wpQuietIn_nil ?_;rintro _⟨z,rfl⟩;have e1:(((p.right.length-d:Nat):Int) == 0)=false:=zB0 (by omega);have e2:¬((p.right.length-d:Nat):Int)=0:=by omega
   have e3:(0:Int)<((p.right.length-d:Nat):Int):=by omega
   have e4:¬p.right.length-d=0:=by omega
   gi_wp2
   refine Dq (by kernel_rfl) (by kernel_rfl) (by kernel_rfl) ?_
   repeat (gi_big_quiet_step (fail))
   refine wpQuietIn_nil ?_;rintro _⟨C,rfl⟩;have I:dQ P (k,d)=some x:=by show (bM P k)[d]?=_;rw[er];exact T
   by_cases hn:x<nT
   ·have n1:decide (x<nT)=true:=fi hn
    have O:yA P nT ((k,d),r)=false:=by unfold yA;simp only[I];exact eE (by omega)
    gi_wp2
    exact N.next E (by simp only[FR hx,O];simpa using t.drew (t.drew M _) _) (fun k _ _=>rfl)
   ·have n1:decide (x<nT)=false:=eE hn
    have O:yA P nT ((k,d),r)=true:=by unfold yA;simp only[I];exact fi (by omega)
    gi_wp2
    refine Mq 8 (by kernel_rfl) (by kernel_rfl) (by kernel_rfl) (by kernel_rfl) ?_
    dsimp only[List.take,List.drop,List.length]
    repeat (gi_big_quiet_step (fail))
    refine wpQuietIn_nil ?_;rintro _⟨K9,rfl⟩;obtain⟨fn,tmps,assign,body,hy,E⟩:=hY _ _ _ _ (ad1 hx O) (t.drew M (z+C+K9));have cw:w0.cell? ⟨gP,k*3+1,none⟩=some (.slice (some ⟨b,0,none⟩) p.right.length rc):=(cM (w:=W) (o.keep gP Y.own).symm).trans c1;simp only[UN,bE,I,Option.getD_some,Gn,cw,tailV,Nat.zero_add]at hy;refine wpAnyIn_ready (rs:=[8]) (by kernel_rfl) (by simp) (AllReadyIn.cons rfl (fun K y=>?_) AllReadyIn.nil)
    go_simp
    refine(IJ E).mono ?_;rintro e W3⟨rfl,j,ad⟩;refine y _ _ ?_;clear y K hy E;refine wpAnyIn_ready (rs:=[9]) (by kernel_rfl) (by simp) (AllReadyIn.cons rfl (fun K y=>?_) AllReadyIn.nil)
    go_simp
    refine y _ _ (wpAnyIn_done (by kernel_rfl) ?_ _);clear y K;have g:∀a,yR Z _ W .normal a W3:=fun a=>N.next E (by simp only[FR hx,O];simpa using j) ad
    gi_wp2
    all_goals exact g _
  ·have ae:d=p.right.length:=by omega
   subst ae;have O:yA P nT ((k,p.right.length),r)=false:=by
    have:dQ P (k,p.right.length)=none:=by show (bM P k)[p.right.length]?=_;rw[er];simp
    unfold yA;simp only[this]
   have g:∀z C a,yR Z _ W .normal a ((W.drewN z).drewN C):=fun z C a=>N.next E (by simp only[FR hx,O];simpa using t.drew (t.drew M z) C) (fun _ _ _=>rfl)
   generalize hpr:p.right.length=d at *;rcases v with ⟨rfl,S,rfl⟩|⟨b,rfl,-,-⟩
   ·obtain rfl:d=0:=by rw[S]at hpr;exact hpr.symm
    clear hpr
    gi_wp2
    refine Dq (by kernel_rfl) (by kernel_rfl) (by kernel_rfl) ?_
    repeat (gi_big_quiet_step (fail))
    refine wpQuietIn_nil ?_;rintro _⟨z,rfl⟩
    gi_wp2
    refine Dq (by kernel_rfl) (by kernel_rfl) (by kernel_rfl) ?_
    repeat (gi_big_quiet_step (fail))
    refine wpQuietIn_nil ?_;rintro _⟨C,rfl⟩
    gi_wp2
    exact g z C _
   ·have e1:(((d-d:Nat):Int) == 0)=true:=by simp
    have e2:d-d=0:=by simp
    by_cases hrd:rc-d=0
    all_goals
     gi_wp2
     refine Dq (by kernel_rfl) (by kernel_rfl) (by kernel_rfl) ?_
     repeat (gi_big_quiet_step (fail))
     refine wpQuietIn_nil ?_;rintro _⟨z,rfl⟩
     gi_wp2
     refine Dq (by kernel_rfl) (by kernel_rfl) (by kernel_rfl) ?_
     repeat (gi_big_quiet_step (fail))
     refine wpQuietIn_nil ?_;rintro _⟨C,rfl⟩
     gi_wp2
     exact g z C _
 case done=>
  rintro D Z W hD CW⟨M,-⟩y;simp only[List.take_length]at M
  gi_wp2
  refine⟨by simp,.inl ⟨_,_,rfl,run_takeDeferred y,?_⟩⟩;exact⟨_,py rfl _ _ _,⟨_,rfl⟩,_,t.put _ M (.inl CW)⟩
end
section
open Go.RowKit Go.Shelf
open Tr
attribute [local go_sem] pB
def UO(x:au×Nat):Array Value:=#[bE (x.2,x.1.1)]
theorem akt{w0:World}{F:Nat->Prop}{bm bs gm gP pc q n:Nat}{v0 v1 v3 v4:Value}{P:List Lx.Pd}{f:Nat×Nat->Nat}(hP:mX w0 F gP P)(M:P.length<=200)(U:∀k,(bM P k).length<=2002):Ah prog 168 #[.pointer (some ⟨bm,0,none⟩),.pointer (some ⟨bs,0,none⟩)] UO ((iO P f q n P.length).filter (EG P)) (fun W=>K7 w0 F W bm (v0) v1 (.slice (some ⟨gP,0,none⟩) P.length pc) v3 v4 gm f/\aj W bs #[.int .i64 (q:Int),.int .i64 (n:Int)] 212):=by
 have Y:Hid (∀bm bs,Ah prog 167 #[.pointer (some ⟨bm,0,none⟩),.pointer (some ⟨bs,0,none⟩)] encS (iO P f q n P.length) _):=fun bm bs=>aaE (w0:=w0) (F:=F) (bm:=bm) (bs:=bs) (gm:=gm) (gP:=gP) (pc:=pc) (q:=q) (n:=n) (v0:=v0) (v1:=v1) (v3:=v3) (v4:=v4) (f:=f) hP M U
 have HM:Hid (∀x∈iO P f q n P.length,x.1.1<P.length/\x.1.2<=(bM P x.1.1).length):=fun x hx=>by
  have:=(I4 (s:=x.1) (r:=x.2) P.length).1 hx;exact⟨this.1,this.2.2.1⟩
 generalize iO P f q n P.length=xs at Y HM|-;intro l J W o I hY h0;refine ij.1 (callsIn_of_wp_marks (F:=Fence.wide) (n:=9) func168 rfl trivial ?_ rfl);simp only[ntmps168,List.size_toArray,List.length_cons,List.length_nil,Nat.reduceAdd,Nat.reduceSub,Array.replicate_succ,Array.replicate_zero,List.push_toArray,List.append_toArray,List.nil_append,List.cons_append]
 gi_upto_region 1 with fail
 obtain⟨c,g⟩:∃V,V=W.alloc (.cells #[.func (.yield l) #[] #[]] 310):=⟨_,rfl⟩;rw[<-g];have E:=o.new _ _ _ (.cells #[.func (.yield l) #[] #[]] 310) h0;rw[<-g]at E;have O:aj c W.heap.size #[.func (.yield l) #[] #[]] 310:=by rw[g];exact aj.new ..
 have v:c.heap.size=W.heap.size+1:=by rw[g];simp
 clear g h0;generalize W.heap.size=by' at E O v|-;obtain⟨j,kS⟩:=I _ _ _ E;have m0:c.cell? ⟨bm,0,none⟩=some v0:=j.blk.cell 0;have m1:c.cell? ⟨bm,1,none⟩=some v1:=j.blk.cell 1;have m2:c.cell? ⟨bm,2,none⟩=some (.slice (some ⟨gP,0,none⟩) P.length pc):=j.blk.cell 2;have m3:c.cell? ⟨bm,3,none⟩=some v3:=j.blk.cell 3;have m4:c.cell? ⟨bm,4,none⟩=some v4:=j.blk.cell 4;have m5:c.cell? ⟨bm,5,none⟩=some (.map (some gm)):=j.blk.cell 5;have s0:c.cell? ⟨bs,0,none⟩=some (.int .i64 (q:Int)):=kS.cell 0;have s1:c.cell? ⟨bs,1,none⟩=some (.int .i64 (n:Int)):=kS.cell 1
 gi_wp2_with (refine⟨trivial,?_⟩;gi_at_call 136;refine(ij.2 aaF).mono ?_;rintro e w2⟨rfl,a⟩)
 have b:=o.new _ _ _ (.cells #[.int .i64 (q:Int),.int .i64 (n:Int)] 212) (o.new _ _ _ (.cells #[v0,v1,.slice (some ⟨gP,0,none⟩) P.length pc,v3,v4,.map (some gm)] 147) E);have kA:aj w2 c.heap.size #[v0,v1,.slice (some ⟨gP,0,none⟩) P.length pc,v3,v4,.map (some gm)] 147:=by rw[a];exact(aj.new ..).alloc _
 have kC:aj w2 (c.heap.size+1) #[.int .i64 (q:Int),.int .i64 (n:Int)] 212:=by
  rw[a];have:=aj.new (c.alloc (.cells #[v0,v1,.slice (some ⟨gP,0,none⟩) P.length pc,v3,v4,.map (some gm)] 147)) #[.int .i64 (q:Int),.int .i64 (n:Int)] 212
  rwa [fd]at this
 have K8:aj w2 by' #[.func (.yield l) #[] #[]] 310:=by rw[a];exact(O.alloc _).alloc _
 have ab:w2.heap.size=by'+3:=by rw[a];simp;omega
 rw[<-a,fd]at b;rw[<-a];rw[v]at b kA kC;clear a E O v j kS m0 m1 m2 m3 m4 m5 s0 s1;have Wi:J 0 (fun k=>False\/(by'<=k/\k<by'+3)) w2:=JA b fun k=>by grind
 clear b;have Q:=Y.out (by'+1) (by'+1+1);clear Y;obtain⟨R,u,y,Wj⟩:∃R:World->Prop,OG by' (by'+3) R/\Hid (∀W,R W->aj W by' #[.func (.yield l) #[] #[]] 310/\aj W (by'+1) #[v0,v1,.slice (some ⟨gP,0,none⟩) P.length pc,v3,v4,.map (some gm)] 147/\aj W (by'+1+1) #[.int .i64 (q:Int),.int .i64 (n:Int)] 212)/\R w2 :=
  ⟨_,⟨by omega,fun A B h T=>⟨(h _ (by omega) (by omega)).trans T.1,(h _ (by omega) (by omega)).trans T.2.1,(h _ (by omega) (by omega)).trans T.2.2⟩⟩,fun _ h=>h,K8,kA,kC⟩
 clear K8 kA kC;refine IC (gf:=167) (lb:=#[.pointer (some ⟨by'+1,0,none⟩),.pointer (some ⟨by'+1+1,0,none⟩)]) rfl (enters_of func167 (by kernel_rfl) rfl) Q (fun _=>rfl)
  (xK J (fun i=>((xs.take i).filter (EG P)).length) by' (by'+3) R) (xK.wm o u)
  (fun i Z W h=>⟨⟨(y.out W h.2.2.2).2.1,(I _ _ _ h.1).1.keep,(I _ _ _ h.1).1.goes⟩,(y.out W h.2.2.2).2.2⟩) ⟨Wi,fun k h=>h.elim,by omega,Wj⟩
  (fun x S W=>∃t,by'+5<=t/\aj W t #[.int .i64 (x.1.1:Int),.int .i64 (x.1.2:Int)] 160/\S={ tmps:=#[.func (.yield l) #[] #[],.pointer (some ⟨bm,0,none⟩),.pointer (some ⟨bs,0,none⟩),.pointer (some ⟨by',0,none⟩),.pointer (some ⟨t,0,none⟩),.int .i64 (x.2:Int),.agg #[v0,v1,.slice (some ⟨gP,0,none⟩) P.length pc,v3,v4,.map (some gm)],.agg #[.int .i64 (q:Int),.int .i64 (n:Int)],.func (.func 167) #[] #[.pointer (some ⟨by'+1,0,none⟩),.pointer (some ⟨by'+1+1,0,none⟩)],bE x.1,.int .i64 (x.2:Int),undef,undef,undef,undef,undef,undef,undef,undef,undef,undef,undef,undef,undef,undef,undef,undef,undef,undef,undef,undef,undef],defers:=[] })
  ?hAx ?assign ?body ?done
 case hAx=>
  rintro x S A o'⟨t,h1,h2,rfl⟩;exact⟨t,h1,(World.putObj_heap_other (by omega)).trans h2,rfl⟩
 case assign=>
  rintro l' i⟨⟨k,d⟩,r⟩Z W K hsz C m;simp only[encS,bE]
  gi_wp2
  exact m _ _ (by simp) (fun k _ L=>dg _ _ _ L) ((xK.wm o u).own _ _ _ _ none C (qS _ _ none) (fun r e=>by cases e)) ⟨W.heap.size,by omega,aj.new ..,rfl⟩
 case body=>
  rintro l' i⟨⟨k,d⟩,r⟩Z S W hx C⟨t,ac,kX,rfl⟩;have z:=C.1;have i4:=(y.out W C.2.2.2).1;obtain⟨j,-⟩:=I _ _ _ z;have m0:W.cell? ⟨bm,0,none⟩=some v0:=j.blk.cell 0;have m2:W.cell? ⟨bm,2,none⟩=some (.slice (some ⟨gP,0,none⟩) P.length pc):=j.blk.cell 2;have x0:W.cell? ⟨t,0,none⟩=some (.int .i64 (k:Int)):=kX.cell 0;have x1:W.cell? ⟨t,1,none⟩=some (.int .i64 (d:Int)):=kX.cell 1;have y0:W.cell? ⟨by',0,none⟩=some (.func (.yield l) #[] #[]):=i4.cell 0;obtain⟨L,hd⟩:k<P.length/\d<=(bM P k).length:=HM.out _ (cJ hx);obtain⟨p,hp⟩:∃p,P[k]?=some p:=⟨_,cF L⟩;have N:bM P k=p.right:=by simp[bM,hp]
  rw[N]at hd;obtain⟨ra,rc,-,c1,-,ad,aa⟩:=(hP.move j.keep).row k p hp;have j1:(0:Int)<=(k:Int):=by omega
  have j2:(k:Int)<(P.length:Int):=by omega
  by_cases hdl:d=p.right.length
  ·have H:EG P ((k,d),r)=true:=by unfold EG;rw[N];exact fi hdl
   have e1:((d:Int) == (p.right.length:Int))=true:=by simp[hdl]
   gi_wp2
   refine Mq 18 (by kernel_rfl) (by kernel_rfl) (by kernel_rfl) (by kernel_rfl) ?_
   dsimp only[List.take,List.drop,List.length]
   repeat (gi_big_quiet_step (fail))
   refine wpQuietIn_nil ?_;rintro _⟨K9,rfl⟩;obtain⟨fn,tmps,assign,body,hy,u⟩:=hY _ _ _ _ (ad1 hx H) (o.drew z K9);simp only[UO,bE]at hy;refine wpAnyIn_ready (rs:=[18]) (by kernel_rfl) (by simp) (AllReadyIn.cons rfl (fun K m=>?_) AllReadyIn.nil)
   go_simp
   refine(IJ u).mono ?_;rintro e W3⟨rfl,b,X⟩;refine m _ _ ?_;clear m K hy u;refine wpAnyIn_ready (rs:=[19]) (by kernel_rfl) (by simp) (AllReadyIn.cons rfl (fun K m=>?_) AllReadyIn.nil)
   go_simp
   refine m _ _ (wpAnyIn_ready (rs:=[20]) (by kernel_rfl) (by simp) (AllReadyIn.cons rfl (fun K2 G=>?_) AllReadyIn.nil))
   go_simp
   refine G _ _ (wpAnyIn_done (by kernel_rfl) ?_ _);clear m K G K2
   gi_wp2
   exact C.next u (by simp only[FR hx,H];simpa using b) X
  ·have H:EG P ((k,d),r)=false:=by unfold EG;rw[N];exact eE hdl
   have e1:((d:Int) == (p.right.length:Int))=false:=by simp;omega
   have e2:¬(d:Int)=(p.right.length:Int):=by omega
   gi_wp2
   refine Dq (by kernel_rfl) (by kernel_rfl) (by kernel_rfl) ?_
   repeat (gi_big_quiet_step (fail))
   refine BigFrame.wpQuietIn_skip (fun _ _ _ _=>trivial) rfl ?_
   dsimp only[Act.put]
   simp only[List.setIfInBounds_toArray,List.set_cons_succ,List.set_cons_zero]
   repeat (gi_big_quiet_step (fail))
   refine wpQuietIn_nil ?_;rintro _⟨nq,rfl⟩
   gi_wp2
   exact C.next u (by simp only[FR hx,H];simpa using o.drew z nq) (fun _ _ _=>rfl)
 case done=>
  rintro D Z W hD CW⟨z,-⟩m;simp only[List.take_length]at z
  gi_wp2
  refine⟨by simp,.inl ⟨_,_,rfl,run_takeDeferred m,?_⟩⟩;exact⟨_,py rfl _ _ _,⟨_,rfl⟩,_,o.put _ z (.inl CW)⟩
end
structure aZ where
 lb:Nat
 pm:Nat
 gm:Nat
 gP:Nat
 gE:Nat
 gF:Nat
 nT:Nat
 tc:Nat
 pc:Nat
 fc:Nat
 sz:Nat
 ta:Option Addr
 v1:Value
 v3:Value
 v4:Value
 P:List Lx.Pd
 f:Nat×Nat->Nat
 E:List Bool
 fg:List Nat
 fs:List (List Nat)
def aZ.nw(c:aZ):Nat:=Lx.nW c.nT
structure bL where
 vS:Value
 vA:Value
 vQ:Value
 vW:Value
 st:List (Nat×Nat)
 gs:List Nat
 ss:List (List Nat)
 wq:List Nat
 ws:List Bool
def aZ.cells(c:aZ)(S:bL):Array Value:=#[.slice c.ta c.nT c.tc,c.v1,.slice (some ⟨c.gP,0,none⟩) c.P.length c.pc,c.v3,c.v4,.map (some c.gm),.slice (some ⟨c.gE,0,none⟩) c.sz c.sz,.slice (some ⟨c.gF,0,none⟩) c.sz c.fc,.map (some c.pm),S.vS,S.vA,S.vQ,S.vW]
def zF(a:Nat×Nat):List Value:=[.int .i64 (a.1:Int),.int .i64 (a.2:Int)]
def gX(n g:Nat):Value:=.slice (some ⟨g,0,none⟩) n n
structure mY(c:aZ)(w0:World)(F:Nat->Prop)(B:Nat):Prop where
 prods:mX w0 F c.gP c.P
 empty:aj w0 c.gE (bG c.E) 4
 aoc:c.E.length=c.sz
 first:∀(i g:Nat),c.fg[i]?=some g->w0.cell? ⟨c.gF,i,none⟩=some (gX c.nw g)/\F g/\∃ws,c.fs[i]?=some ws/\TS w0 g ws/\ws.length=c.nw
 aod:c.fg.length=c.sz
 goes:dF bE (fun _=>True) w0 c.gm (fun a=>(c.f a:Int))
 fE:F c.gE
 fF:F c.gF
 fm:F c.gm
 low:∀k,F k->k<B/\k≠c.lb/\k≠c.pm
 lb:c.lb<B
 pm:c.pm<B
 pl:c.P.length<=200
 rl:∀k,(bM c.P k).length<=2002
 nT:0<c.nT/\c.nT<=100000
structure dh(c:aZ)(w0:World)(F:Nat->Prop)(B:Nat)(W:World)(S:bL)(mp:List (Nat×Nat)):Prop where
 keep:∀b,F b->W.heap[b]?=w0.heap[b]?
 blk:aj W c.lb (c.cells S) 153
 rS:W.ownsRow B 212 2 S.vS S.st.length (S.st.flatMap zF)
 rA:W.ownsRow B 214 1 S.vA S.gs.length (S.gs.map (gX c.nw))
 rQ:lU B W S.vQ S.wq
 rW:W.ownsRow B 4 1 S.vW S.ws.length (S.ws.map Value.bool)
 map:iy bE W c.pm mp
 sets:∀(i g:Nat),S.gs[i]?=some g->B<=g/\∃ws,S.ss[i]?=some ws/\TS W g ws/\ws.length=c.nw
 qj:S.gs.Nodup
 big:B<=W.heap.size
structure jT(c:aZ)(w0:World)(F:Nat->Prop)(B:Nat)(W:World)(S:bL):Prop extends dh c w0 F B W S S.st where
 lg:S.gs.length=S.st.length
 ls:S.ss.length=S.st.length
 lw:S.ws.length=S.st.length
def bL.own(c:aZ)(S:bL)(k:Nat):Prop:=k=c.lb\/k=c.pm\/S.vS.ownBlock=some k\/S.vA.ownBlock=some k\/S.vQ.ownBlock=some k\/S.vW.ownBlock=some k\/k∈S.gs
theorem TS.move{w w':World}{g:Nat}{ws:List Nat}(h:TS w g ws)(a:w'.heap[g]?=w.heap[g]?):TS w' g ws:=⟨a.trans h.blk,h.wd⟩
theorem dh.move{c:aZ}{w0:World}{F:Nat->Prop}{B:Nat}{W W':World}{S:bL}{d:List (Nat×Nat)}(h:dh c w0 F B W S d)(a:∀k,S.own c k\/F k->W'.heap[k]?=W.heap[k]?)(j:W.heap.size<=W'.heap.size):dh c w0 F B W' S d where
 keep b hb:=(a b (.inr hb)).trans (h.keep b hb)
 blk:=(a _ (.inl (.inl rfl))).trans h.blk
 rS:=aD h.rS fun g hg=>a g (.inl (.inr (.inr (.inl hg))))
 rA:=aD h.rA fun g hg=>a g (.inl (.inr (.inr (.inr (.inl hg)))))
 rQ:=h.rQ.move fun g hg=>a g (.inl (.inr (.inr (.inr (.inr (.inl hg))))))
 rW:=aD h.rW fun g hg=>a g (.inl (.inr (.inr (.inr (.inr (.inr (.inl hg)))))))
 map:=h.map.move (a _ (.inl (.inr (.inl rfl))))
 sets i g hg:=by
  obtain⟨h1,f,h2,h3,h4⟩:=h.sets i g hg;exact⟨h1,f,h2,h3.move (a g (.inl (.inr (.inr (.inr (.inr (.inr (.inr (cJ hg))))))))),h4⟩
 qj:=h.qj
 big:=de h.big j
theorem jT.move{c:aZ}{w0:World}{F:Nat->Prop}{B:Nat}{W W':World}{S:bL}(h:jT c w0 F B W S)(a:∀k,S.own c k\/F k->W'.heap[k]?=W.heap[k]?)(b:W.heap.size<=W'.heap.size):jT c w0 F B W' S:=⟨h.todh.move a b,h.lg,h.ls,h.lw⟩
def pI(W:World)(k t:Nat):Prop:=∃cur:Array Value,W.heap[k]?=some (.cells cur t)
theorem pI.ne{W:World}{k l t u:Nat}(h:pI W k t)(d:pI W l u)(a:t≠u):k≠l:=fun e=>by
 subst e;obtain⟨x,c⟩:=h;obtain⟨y,b⟩:=d;rw[c]at b;cases b;exact a rfl
section
variable{c:aZ}{w0:World}{F:Nat -> Prop}{B:Nat}{W:World}{S:bL}{mp:List (Nat×Nat)}
theorem dh.kL(h:dh c w0 F B W S mp):pI W c.lb 153:=⟨_,h.blk⟩
theorem dh.kS(h:dh c w0 F B W S mp){g:Nat}(a:S.vS.ownBlock=some g):pI W g 212:=gQ h.rS a
theorem dh.kA(h:dh c w0 F B W S mp){g:Nat}(a:S.vA.ownBlock=some g):pI W g 214:=gQ h.rA a
theorem dh.kQ(h:dh c w0 F B W S mp){g:Nat}(a:S.vQ.ownBlock=some g):pI W g 3:=h.rQ.typ a
theorem dh.kW(h:dh c w0 F B W S mp){g:Nat}(a:S.vW.ownBlock=some g):pI W g 4:=gQ h.rW a
theorem dh.kG(h:dh c w0 F B W S mp){g:Nat}(b:g∈S.gs):pI W g 277:=by
 obtain⟨i,a⟩:=eS.1 b;obtain⟨-,d,-,h3,-⟩:=h.sets i g a;exact⟨_,h3.blk⟩
theorem dh.J5(h:dh c w0 F B W S mp){g t:Nat}(a:pI W g t):g≠c.pm:=fun e=>by
 subst e;obtain⟨x,b⟩:=a;obtain⟨d,f,h1,-⟩:=h.map;rw[b]at h1;cases h1
theorem dh.yU(h:dh c w0 F B W S mp){k:Nat}(a:S.own c k):k<W.heap.size:=by
 rcases a with rfl|rfl|a|a|a|a|a
 ·exact h.blk.lt
 ·exact h.map.lt
 ·exact(h.rS.lt k a).2
 ·exact(h.rA.lt k a).2
 ·exact(h.rQ.lt k a).2
 ·exact(h.rW.lt k a).2
 ·obtain⟨x,b⟩:=h.kG a;exact(ek.1 b).1
end
structure Mx(w0:World)(B gO tO tI n N:Nat)(W:World)(gs:List Nat)(rs:List (List Value)):Prop where
 out:aj W gO (gs.map (gX n)++List.replicate (N-gs.length) (Value.slice none 0 0)).toArray tO
 len:rs.length=gs.length
 row:∀(i g:Nat)(r:List Value),gs[i]?=some g->rs[i]?=some r->aj W g r.toArray tI
 nd:gs.Nodup
 lo:∀g∈gs,B<=g
 no:B<=gO
 b:Below B w0 W
 ne:tO≠tI
 le:gs.length<=N
section
variable{w0 W W':World}{B gO tO tI n N:Nat}{gs:List Nat}{rs:List (List Value)}
theorem Mx.size(h:Mx w0 B gO tO tI n N W gs rs):B<=W.heap.size:=de h.no (mi h.out.lt)
theorem Mx.rowAt(h:Mx w0 B gO tO tI n N W gs rs){i:Nat}{g:Nat}(a:gs[i]?=some g):∃r,rs[i]?=some r/\aj W g r.toArray tI:=by
 obtain⟨r,b⟩:∃r,rs[i]?=some r:=⟨_,cF (by rw[h.len];exact(cG.1 a).1)⟩;exact⟨r,b,h.row i g r a b⟩
theorem Mx.lt(h:Mx w0 B gO tO tI n N W gs rs){g:Nat}(c:g∈gs):g<W.heap.size:=by
 obtain⟨i,b⟩:=eS.1 c;obtain⟨r,-,a⟩:=h.rowAt b;exact a.lt
theorem Mx.La(h:Mx w0 B gO tO tI n N W gs rs){g:Nat}(d:g∈gs):g≠gO:=fun e=>by
 obtain⟨i,c⟩:=eS.1 d;obtain⟨r,-,b⟩:=h.rowAt c;have a:=h.out;subst e;unfold aj at b a;rw[b]at a;cases a;exact h.ne rfl
theorem Mx.move(h:Mx w0 B gO tO tI n N W gs rs)(a:Below W.heap.size W W'):Mx w0 B gO tO tI n N W' gs rs :=
 ⟨(a.block gO h.out.lt).trans h.out,h.len,fun i g r hg c=>(a.block g (h.lt (cJ hg))).trans (h.row i g r hg c),h.nd,h.lo,h.no,h.b.trans (a.mono h.size),h.ne,h.le⟩
theorem Mx.keep(h:Mx w0 B gO tO tI n N W gs rs)(a:∀k,k=gO\/k∈gs->W'.heap[k]?=W.heap[k]?)(b:Below B w0 W'):Mx w0 B gO tO tI n N W' gs rs :=
 ⟨(a _ (.inl rfl)).trans h.out,h.len,fun i g r hg c=>(a g (.inr (cJ hg))).trans (h.row i g r hg c),h.nd,h.lo,h.no,b,h.ne,h.le⟩
theorem Mx.Cm(h:Mx w0 B gO tO tI n N W gs rs){i g:Nat}(a:gs[i]?=some g):W.cell? ⟨gO,i,none⟩=some (.slice (some ⟨g,0,none⟩) n n):=by
 have b:=(cG.1 a).1;rw[h.out.cell,ge,eL (by rw[dk];exact b),di,a];rfl
theorem Mx.EH(h:Mx w0 B gO tO tI n N W gs rs){i g k:Nat}{r:List Value}(a:gs[i]?=some g)(b:rs[i]?=some r):W.cell? ⟨g,k,none⟩=r[k]?:=by
 rw[(h.row i g r a b).cell,ge]
theorem Mx.push(h:Mx w0 B gO tO tI n N W gs rs)(q:gs.length<N)(r:List Value):Mx w0 B gO tO tI n N ((W.alloc (.cells r.toArray tI)).setCell ⟨gO,gs.length,none⟩ (.slice (some ⟨W.heap.size,0,none⟩) n n)) (gs++[W.heap.size]) (rs++[r]):=by
 have j:∀g,g∈gs->g≠W.heap.size:=fun g hg e=>by have:=h.lt hg;omega
 have o:gO≠W.heap.size:=fun e=>by have:=h.out.lt;omega
 refine⟨?_,by simp[h.len],fun i g l hg c=>?_,?_,?_,h.no,(h.b.alloc h.size _).setCell (p:=⟨gO,gs.length,none⟩) h.no _,h.ne,by simp;omega⟩
 ·have:=(h.out.alloc (.cells r.toArray tI)).set gs.length (.slice (some ⟨W.heap.size,0,none⟩) n n)
  rw[kf]at this;have e:(gs.map (gX n)++List.replicate (N-gs.length) (Value.slice none 0 0)).set gs.length (.slice (some ⟨W.heap.size,0,none⟩) n n)=(gs++[W.heap.size]).map (gX n)++List.replicate (N - (gs++[W.heap.size]).length) (Value.slice none 0 0):=by
   rw[mB _ _ (by simp),dk,ib,show N-gs.length=(N - (gs++[W.heap.size]).length)+1 by simp;omega,nh,oe,eJ,dq];rfl
  rw[e]at this;exact this
 ·rw[ir]at hg c
  rw[h.len]at c
  split at hg
  ·rename_i d
   rw[dj d]at c;have:=(h.row i g l hg c).alloc (.cells r.toArray tI);exact this.other (vj (h.La (cJ hg))) _
  ·rename_i d
   rw[dt d]at c;have f:i-gs.length=0:=by
    have:=(cG.1 hg).1;simp at this;omega
   rw[f]at hg c;cases hg;cases c;exact(aj.new W r.toArray tI).other o _
 ·rw[ip]
  exact⟨h.nd,by simp,fun a m b k=>by rw[cN]at k;rw[k];exact j a m⟩
 ·intro g hg
  rw[cY,cN]at hg;rcases hg with hg|rfl
  ·exact h.lo g hg
  ·exact h.size
theorem Mx.set(h:Mx w0 B gO tO tI n N W gs rs){i g k:Nat}{r:List Value}(hg:gs[i]?=some g)(l:rs[i]?=some r)(v:Value):Mx w0 B gO tO tI n N (W.setCell ⟨g,k,none⟩ v) gs (rs.set i (r.set k v)):=by
 have d:=cJ hg;refine⟨h.out.other (h.La d) _,by simp[h.len],fun j o s c a=>?_,h.nd,h.lo,h.no,h.b.setCell (p:=⟨g,k,none⟩) (h.lo g d) _,h.ne,h.le⟩;rw[fx]at a
 split at a
 ·rename_i e
  subst e;rw[hg]at c;cases c;have f:=(cG.1 l).1;rw[dj f]at a;cases a;have:=(h.row i g r hg l).set k v;rw[kf]at this;exact this
 ·rename_i e
  refine(h.row j o s c a).other (fun q=>e ?_) _;subst q;obtain⟨h1,m⟩:=cG.1 hg;obtain⟨h2,t⟩:=cG.1 c;exact(lP h.nd).1 (m.trans t.symm)
theorem Mx.frozen(h:Mx w0 B gO tO tI n N W gs rs){i g:Nat}(b:gs[i]?=some g)(k:Nat):W.frozen? ⟨g,k,none⟩=false:=by
 obtain⟨r,-,a⟩:=h.rowAt b;exact a.frozen k
theorem Mx.rows{α:Type}{z:Nat}{Q:Nat->Nat->α->Prop}(h:Mx w0 B gO tO tI n N W gs rs)(m:gs.length=N){l:List (List α)}(d:l.length=N)(a:∀r∈l,r.length=n)(c:∀(i g:Nat)(r:List α)(k:Nat)(x:α),gs[i]?=some g->l[i]?=some r->r[k]?=some x->Q g (k*z) x):tX 1 (rQ W z Q) (.slice (some ⟨gO,0,none⟩) N N) l:=by
 refine⟨_,_,by rw[d],fun i r hr=>⟨gO,rfl,?_⟩⟩;have j:=(cG.1 hr).1;obtain⟨g,b⟩:∃g,gs[i]?=some g:=⟨_,cF (by omega)⟩;rw[j9];exact⟨_,h.Cm b,some ⟨g,0,none⟩,n,by rw[a r (cJ hr)],fun k x f=>⟨g,rfl,c i g r k x b hr f⟩⟩
end
namespace Lx
def mJ(E:List Bool):List Nat->Nat
 | []=>0
 |s::r=>if aK E s=true then 1+mJ E r else 0
theorem RN(E:List Bool):∀r:List Nat,mJ E r<=r.length
 | []=>zL0
 |s::r=>by
  have:=RN E r;rw[mJ]
  split
  ·rw[ev];omega
  ·exact ff _
def JH(E:List Bool)(p:Pd):List Bool:=if aK E p.left=false/\mJ E p.right=p.right.length then E.set p.left true else E
def kH(P:List Pd)(E:List Bool):List Bool:=P.foldl JH E
def rE{α:Type}(f:α->α):Nat->α->α
 |0,x=>x
 |k+1,x=>f (rE f k x)
def J6(n:Nat)(P:List Pd):Prop:=∀p∈P,p.left<n/\∀s∈p.right,s<n
end Lx
theorem XI{w:World}{v:Value}{r:List Nat}{E:List Bool}{g:Nat}(m:IR 0 w v r)(p:aj w g (bG E) 4)(t:∀s∈r,s<E.length):Calls prog 130 #[v,.slice (some ⟨g,0,none⟩) E.length E.length] w fun e w'=>e=.returned (.int .i64 (mJ E r:Int))/\w'=w:=by
 obtain⟨a,c,rfl,u⟩:=aC m;unfold maxLen at u;go_enter func130,ntmps130;go_wp2_with fail;have o:Hid (mJ E r=0+mJ E (r.drop 0)):=by show _=_;simp
 go_loopg [9] r.length (fun k i wr=>∃j:Nat,j+k=r.length/\i=.int .i64 j/\wr=w/\Hid (mJ E r=j+mJ E (r.drop j)))
 case atStart=>exact⟨0,by omega,rfl,rfl,o⟩
 case round=>
  obtain⟨j,A,rfl,z,d⟩:=hrel;subst z
  by_cases hlt:j<r.length
  ·obtain⟨C,y,q,-,x⟩:=m.at hlt
   cases q;have hd:=d.out;rw[eR hlt,mJ]at hd;have f:=t r[j] (du hlt);have l:=qR E f;generalize r[j]=s at x hd f l;have n:wr.cell? ⟨g,s,none⟩=some (.bool (aK E s)):=(p.cell s).trans l;have D:(0:Int)<=(s:Int):=by omega
   have B:(s:Int)<(E.length:Int):=by omega
   cases hat:aK E s with
   |true=>
    rw[hat]at n;rw[dj hat]at hd;have b:Hid (mJ E r=(j+1)+mJ E (r.drop (j+1))):=by show _=_;omega
    clear hd d hat l;go_wp2_with fail;go_roundg (r.length - (j+1))
    case measure=>omega
    case rel=>exact⟨j+1,by omega,by go_num,rfl,b⟩
   |false=>
    rw[hat]at n;rw[dt (by rw[hat];decide)]at hd;have b:Hid (mJ E r=j):=by show _=_;omega
    clear hd d hat l;go_wp2_with fail;go_ret;exact⟨by rw[b.out];rfl,rfl⟩
  ·have:j=r.length:=by omega
   subst this;have hd:=d.out;rw[io]at hd;have b:Hid (mJ E r=r.length):=hd;clear hd d;go_wp2_with fail;go_ret;exact⟨by rw[b.out];rfl,rfl⟩
theorem YQ{n:Nat}(g:n<=100000)(w:World):(Instr.makeSlice 142 (.int .i64 (n:Int)) (.int .i64 (n:Int))).run prog w=.ok (.slice (some ⟨w.heap.size,0,none⟩) n n) (w.alloc (.cells (bG (List.replicate n false)) 4)):=by
 obtain⟨f,d,b,c,a⟩:=ft Tryz.Ob;have h:=pA (P:=prog) w 142 4 f _ (by kernel_rfl) d b .i64 .i64 (n:Int) (n:Int) (by omega) (nF _) (by rw[a];omega) (by omega);rw[h,im,c];have e:Value.cells (.bool false)=#[.bool false]:=rfl;rw[e,Rc]
structure F8(w:World)(ta:Option Addr)(nT tc:Nat)(na:Option Addr)(nN nc:Nat)(vP:Value)(P:List Lx.Pd):Prop where
 pp:PP (fun _=>True) w vP P
 ok:J6 (nT+nN) P
 bd:nT+nN<=100000
theorem F8.below{w w':World}{ta:Option Addr}{nT tc:Nat}{na:Option Addr}{nN nc:Nat}{vP:Value}{P:List Lx.Pd}(h:F8 w ta nT tc na nN nc vP P)(a:Below w.heap.size w w'):F8 w' ta nT tc na nN nc vP P:=⟨h.pp.below a,h.ok,h.bd⟩
def adl(w:World)(n:Nat)(P:List Lx.Pd)(e:Ending)(w':World):Prop:=∃g E k,e=.returned (.slice (some ⟨g,0,none⟩) n n)/\w.heap.size<=g/\aj w' g (bG E) 4/\E.length=n/\E=rE (kH P) k (List.replicate n false)/\kH P E=E/\Below w.heap.size w w'
theorem afv{w:World}{ta:Option Addr}{nT tc:Nat}{na:Option Addr}{nN nc:Nat}{vP:Value}{P:List Lx.Pd}{ba ka:Option Addr}{nb bc nk kc:Nat}(h:F8 w ta nT tc na nN nc vP P):Calls prog 90 #[.agg #[.slice ta nT tc,.slice na nN nc,vP,.slice ba nb bc,.slice ka nk kc]] w (adl w (nT+nN) P):=by
 obtain⟨hP,aa,Z⟩:=h;obtain⟨pa,pc,rfl,ae⟩:∃a c,vP=.slice a P.length c/\P.length<=maxLen:=by obtain⟨ps,h1,h2,-⟩:=hP;exact aC h2
 unfold maxLen at ae;obtain⟨n,hn⟩:∃n,n=nT+nN:=⟨_,rfl⟩;have ak:IntKind.i64.wrap ((nT:Int)+(nN:Int))=(n:Int):=by rw[hn,<-px];exact wrap64 (by omega)
 rw[<-hn]at aa Z|-;clear hn;have ad:=fun w=>YQ Z w
 unfold adl;go_enter func90,ntmps90;go_wp2_with fail;obtain⟨W,L⟩:∃W,W=(w.alloc (.cells #[.slice ta nT tc,.slice na nN nc,.slice pa P.length pc,.slice ba nb bc,.slice ka nk kc] 56)).alloc (.cells (bG (List.replicate n false)) 4):=⟨_,rfl⟩;rw[<-L];have p:Below w.heap.size w W:=by rw[L];exact((cV _ _).alloc (zL0) _).alloc (by simp) _
 have zx:W.heap.size=w.heap.size+2:=by rw[L];simp
 have kA:aj W w.heap.size #[.slice ta nT tc,.slice na nN nc,.slice pa P.length pc,.slice ba nb bc,.slice ka nk kc] 56:=by rw[L];exact(aj.new w _ 56).alloc _
 have kE:aj W (w.heap.size+1) (bG (List.replicate n false)) 4:=by
  rw[L];simpa using aj.new (w.alloc (.cells #[.slice ta nT tc,.slice na nN nc,.slice pa P.length pc,.slice ba nb bc,.slice ka nk kc] 56)) (bG (List.replicate n false)) 4
 clear L ad ak
 go_loopg [4] (n+1) (fun k v wr=>∃(b:Bool)(E:List Bool)(m:Nat),v=.bool b/\(b=true->n-bB E+1<=k)/\E.length=n/\aj wr (w.heap.size+1) (bG E) 4/\Kp (fun g=>g<W.heap.size/\g≠w.heap.size+1) W wr/\Hid (E=rE (kH P) m (List.replicate n false))/\Hid (b=false->kH P E=E))
 case atStart=>exact⟨true,_,0,rfl,fun _=>by omega,by simp,kE,Kp.refl _ _,rfl,fun h=>by cases h⟩
 case round=>
  revert wr;intro wz hrel;obtain⟨b,E,m,rfl,C,R,Wl,r,HE,HF⟩:=hrel;have CG:aj wz w.heap.size _ 56:=dW kA r ⟨by omega,by omega⟩;have hsz:=r.size;cases b with
  |true=>
   have d:=C rfl;have z2:wz.cell? ⟨w.heap.size,2,none⟩=some (.slice pa P.length pc):=CG.cell 2;clear C HF;obtain⟨K0,yg⟩:∃K0,Hid (K0=gk):=⟨gk,rfl⟩;have ao:n-bB E+1<=K0:=by rw[yg.out];exact d
   clear d;go_wp2_with fail;have H0:Hid (kH P E=kH (P.drop 0) E):=rfl
   go_loopg [4,19] P.length (fun k v i wr=>∃(j:Nat)(b:Bool)(F:List Bool),j+k=P.length/\v=.bool b/\i=.int .i64 j/\F.length=n/\aj wr (w.heap.size+1) (bG F) 4/\Kp (fun g=>g<W.heap.size/\g≠w.heap.size+1) W wr/\Hid ((b=false->F=E)/\(b=true->bB E<bB F)/\bB E<=bB F)/\Hid (kH P E=kH (P.drop j) F))
   case atStart=>exact⟨0,false,E,by omega,rfl,rfl,R,Wl,r,⟨fun _=>rfl,(fun h=>by cases h),zL0⟩,H0⟩
   case round=>
    clear H0 Wl r CG z2;obtain⟨j,b,F,am,rfl,rfl,z,kF,t,K,J⟩:=hrel;have av:=t.size;have af:Below w.heap.size w wr:=⟨t.os.trans p.os,t.tape.trans p.tape,t.output.trans p.output,by omega,fun x M=>(t.block x ⟨by omega,by omega⟩).trans (p.block x M)⟩
    by_cases hlt:j<P.length
    ·obtain⟨g,aq,u,hv,hu,V,S,O⟩:=(hP.below af).at hlt
     cases hv;obtain⟨o,f⟩:=aa P[j] (du hlt);have hd:=J.out;rw[eR hlt,show kH (P[j]::P.drop (j+1)) F=kH (P.drop (j+1)) (JH F P[j]) from rfl]at hd;generalize P[j]=pd at hu V S O o f hd;obtain⟨pl,pr,H⟩:=pd;simp only at hu V S O o f;obtain⟨X,T,rfl,-⟩:=aC hu;obtain⟨y,l⟩:∃y,y=wr.alloc (.cells #[.int .i64 (pl:Int),.slice X pr.length T,.int .i64 H] 120):=⟨_,rfl⟩;have G:Below wr.heap.size wr y.drew:=by rw[l];exact((cV _ _).alloc (zL0) _).drew
     have ar:y.heap.size=wr.heap.size+1:=by rw[l];simp
     have kp:aj y wr.heap.size #[.int .i64 (pl:Int),.slice X pr.length T,.int .i64 H] 120:=by rw[l];exact aj.new wr _ 120
     have lF:=kF.lt;have I:aj y.drew (w.heap.size+1) (bG F) 4:=(G.block _ lF).trans kF;have d:Kp (fun g=>g<W.heap.size/\g≠w.heap.size+1) W y.drew:=t.trans (Kp.below G (D:=fun g=>g<wr.heap.size) fun g hg=>hg) fun g hg=>by omega
     have p0:y.drew.cell? ⟨wr.heap.size,0,none⟩=some (.int .i64 (pl:Int)):=kp.drew.cell 0;have p1:y.drew.cell? ⟨wr.heap.size,1,none⟩=some (.slice X pr.length T):=kp.drew.cell 1;have i1:(0:Int)<=(pl:Int):=by omega
     have i2:(pl:Int)<(n:Int):=by omega
     have cE:y.drew.cell? ⟨w.heap.size+1,pl,none⟩=some (.bool (aK F pl)):=(I.cell pl).trans (qR F (by rw[z];exact o));cases hat:aK F pl with
     |true=>
      have q:JH F ⟨pl,pr,H⟩=F:=dt (by rw[show (⟨pl,pr,H⟩:Lx.Pd).left=pl from rfl,hat];simp);rw[q]at hd;have Y:Hid (kH P E=kH (P.drop (j+1)) F):=hd;rw[hat]at cE;clear hd J q hat;go_wp2_with fail;rw[<-l];clear l V S O
      go_region
      all_goals
       go_wp2_with fail;go_roundg (P.length - (j+1))
       case measure=>omega
       case rel=>exact⟨j+1,b,F,by omega,rfl,by go_num,z,I,d,K,Y⟩
     |false=>
      rw[hat]at cE;have ai:∀s∈pr,s<F.length:=fun s hs=>by rw[z];exact f s hs
      have N:=XI (w:=y.drew) (own_below hu G) I ai;rw[z]at N;have J7:=RN F pr
      by_cases hah:mJ F pr=pr.length
      ·have q:JH F ⟨pl,pr,H⟩=F.set pl true:=dj ⟨hat,hah⟩
       rw[q]at hd;have Y:Hid (kH P E=kH (P.drop (j+1)) (F.set pl true)):=hd;have ag:=Jg (bs:=F) (i:=pl) (by rw[z];exact o) hat;have Q:Hid (bB E<bB (F.set pl true)):=by have:=K.out.2.2;show _<_;omega
       rw[hah]at N;obtain⟨W2,B⟩:∃W2,W2=(y.setCell ⟨w.heap.size+1,pl,none⟩ (.bool true)).drew:=⟨_,rfl⟩;have GR:aj W2 (w.heap.size+1) (bG (F.set pl true)) 4:=by
        have:aj y (w.heap.size+1) (bG F) 4:=I;rw[B,<-Dw];exact(this.set pl _).drew
       have ac:Kp (fun g=>g<W.heap.size/\g≠w.heap.size+1) W W2:=by
        rw[B];exact⟨d.os,d.tape,d.output,by simpa [World.setCell]using d.size,fun x M=>(zS0 M.2).trans (d.block x M)⟩
       have fE:∀i,y.drew.frozen? ⟨w.heap.size+1,i,none⟩=false:=I.frozen;clear hd J q hat J7 ag hah;go_wp2_with fail;rw[<-l];clear l V S O
       go_region_held3 (fun A=>A.cell? ⟨wr.heap.size,0,none⟩=some (.int .i64 (pl:Int))/\A.cell? ⟨wr.heap.size,1,none⟩=some (.slice X pr.length T)/\A.cell? ⟨w.heap.size+1,pl,none⟩=some (.bool false)) (first | go_keep | assumption) ((go_at_call 130;refine N.mono ?_;rintro e w5⟨rfl,fI⟩;subst fI))
       all_goals
        go_wp2_with fail;rw[<-B];go_roundg (P.length - (j+1))
        case measure=>omega
        case rel=>exact⟨j+1,true,F.set pl true,by omega,rfl,by go_num,by rw[ii];exact z,GR,ac,⟨(fun h=>by cases h),fun _=>Q.out,mi Q.out⟩,Y⟩
      ·have q:JH F ⟨pl,pr,H⟩=F:=dt fun h=>hah h.2
       rw[q]at hd;have Y:Hid (kH P E=kH (P.drop (j+1)) F):=hd;obtain⟨an,U⟩:∃an,an=mJ F pr:=⟨_,rfl⟩;rw[<-U]at N hah J7;have aw:((an:Int) == (pr.length:Int))=false:=zB0 (by omega);have al:¬(an:Int)=(pr.length:Int):=by omega
       have UQ:¬an=pr.length:=hah;clear hd J q hat J7 hah U;go_wp2_with fail;rw[<-l];clear l V S O
       go_region_held3 (fun A=>A.cell? ⟨wr.heap.size,0,none⟩=some (.int .i64 (pl:Int))/\A.cell? ⟨wr.heap.size,1,none⟩=some (.slice X pr.length T)/\A.cell? ⟨w.heap.size+1,pl,none⟩=some (.bool false)) (first | go_keep | assumption) ((go_at_call 130;refine N.mono ?_;rintro e w5⟨rfl,fI⟩;subst fI))
       all_goals
        go_wp2_with fail;go_roundg (P.length - (j+1))
        case measure=>omega
        case rel=>exact⟨j+1,b,F,by omega,rfl,by go_num,z,I,d,K,Y⟩
    ·have:j=P.length:=by omega
     subst this;have hd:=J.out;rw[io]at hd;have Lb:Hid (kH P E=F):=hd;have ap:=BI F;have ab:Hid (F=rE (kH P) (m+1) (List.replicate n false)):=by
      show F=kH P (rE (kH P) m (List.replicate n false));rw[<-HE.out];exact Lb.out.symm
     have Wm:Hid (b=false->kH P F=F):=fun hb=>by
      have h1:=K.out.1 hb;rw[h1];have:=Lb.out;rw[h1]at this;exact this
     have Wn:Hid (b=true->n-bB F+1<=K0-1):=fun hb=>by
      have:=K.out.2.1 hb;omega
     clear K J hd;go_wp2_with fail;go_roundg (K0-1)
     case measure=>have:=yg.out;omega
     case rel=>exact⟨b,F,m+1,rfl,Wn.out,z,kF,t,ab,Wm⟩
  |false=>
   have uh:=HF.out rfl;have PL:Hid (kH P E=E):=uh;clear HF uh C;have ah:Below w.heap.size w wz:=⟨r.os.trans p.os,r.tape.trans p.tape,r.output.trans p.output,by omega,fun x M=>(r.block x ⟨by omega,by omega⟩).trans (p.block x M)⟩;go_wp2_with fail;go_ret;exact⟨_,E,m,rfl,by omega,Wl,R,HE.out,PL.out,ah⟩
namespace Lx
def je(A B:List Bool)(i:Nat):List Bool:=(List.range A.length).map fun k=>aK A k || (decide (k<i) && aK B k)
def ql(A B:List Bool):List Bool:=je A B A.length
theorem wQ(A B:List Bool)(i:Nat):(je A B i).length=A.length:=by simp[je]
theorem Od{A:List Bool}{k:Nat}(h:k<A.length):aK A k=A[k]:=by simp[aK,h]
theorem FT(A B:List Bool)(i:Nat){k:Nat}(h:k<A.length):aK (je A B i) k=(aK A k || (decide (k<i) && aK B k)):=by
 rw[Od (by rw[wQ];exact h)];simp[je]
theorem RO(A B:List Bool):je A B 0=A:=by
 apply ms
 ·simp[je]
 ·intro k h1 h2
  simp[je,Od h2]
theorem TD{A B:List Bool}(a:A.length=B.length)(h:∀k,k<A.length->aK A k=aK B k):A=B:=by
 apply ms a;intro k h1 h2;have:=h k h1;rw[Od h1,Od h2]at this;exact this
theorem aku{A B:List Bool}{i:Nat}(c:i<A.length)(b:aK B i=true):je A B (i+1)=(je A B i).set i true:=by
 refine TD (by simp[wQ]) fun k a=>?_
 rw[wQ]at a;rw[FT A B (i+1) a,at_set,FT A B i a,wQ]
 by_cases e:i=k
 ·subst e;simp[b,c]
 ·rw[dt (by simp[e])]
  have:decide (k<i+1)=decide (k<i):=by simp;omega
  rw[this]
theorem aaG{A B:List Bool}{i:Nat}(h:aK B i=false\/aK (je A B i) i=true):je A B (i+1)=je A B i:=by
 refine TD (by simp[wQ]) fun k a=>?_
 rw[wQ]at a;rw[FT A B (i+1) a,FT A B i a]
 by_cases e:k=i
 ·subst e
  rcases h with h|h
  ·simp[h]
  ·rw[FT A B k a]at h
   simp at h;simp[h]
 ·have:decide (k<i+1)=decide (k<i):=by simp;omega
  rw[this]
theorem akv(A:List Bool):ql A A=A:=by
 refine TD (by simp[ql,wQ]) fun k a=>?_
 unfold ql at a|-;rw[wQ]at a;rw[FT A A _ a];simp
def jF(A:List Bool):List Nat:=(List.range A.length).filter fun k=>aK A k
end Lx
structure Oe(w:World)(gi:Nat)(A C:List Bool)(w':World):Prop where
 blk:aj w' gi (bG C) 4
 bK:∀g,g≠gi->w'.heap[g]?=w.heap[g]?
 os:w'.os=w.os
 tape:w'.tape=w.tape
 output:w'.output=w.output
 size:w'.heap.size=w.heap.size
theorem akw{w:World}{l gf n:Nat}{A B:List Bool}(r:l≠gf)(kA:aj w l (bG A) 4)(kB:aj w gf (bG B) 4)(C:A.length=n)(G:B.length=n)(F:n<=100000):Calls prog 132 #[.slice (some ⟨l,0,none⟩) n n,.slice (some ⟨gf,0,none⟩) n n] w fun e w'=>∃b:Bool,e=.returned (.bool b)/\(b=true->bB A<bB (ql A B))/\(b=false->ql A B=A)/\Oe w l A (ql A B) w':=by
 go_enter func132,ntmps132;go_wp2_with fail
 go_loopg [5,10] n (fun k v i wr=>∃(j:Nat)(b:Bool),j+k=n/\v=.bool b/\i=.int .i64 j/\Oe w l A (je A B j) wr/\Hid ((b=true->bB A<bB (je A B j))/\(b=false->je A B j=A)/\bB A<=bB (je A B j)))
 case atStart=>exact⟨0,false,by omega,rfl,rfl,⟨by rw[RO];exact kA,fun _ _=>rfl,rfl,rfl,rfl,rfl⟩,⟨(fun h=>by cases h),fun _=>RO A B,by rw[RO];exact zL0⟩⟩
 case round=>
  obtain⟨j,b,E,rfl,rfl,⟨f,m,h1,h2,h3,h4⟩,d⟩:=hrel
  by_cases hlt:j<n
  ·have D:aj wr gf (bG B) 4:=(m gf (fun e=>r e.symm)).trans kB
   have y:wr.cell? ⟨gf,j,none⟩=some (.bool (aK B j)):=(D.cell j).trans (qR B (by omega));have u:wr.cell? ⟨l,j,none⟩=some (.bool (aK (je A B j) j)):=(f.cell j).trans (qR _ (by rw[wQ];omega));have H:∀i,wr.frozen? ⟨l,i,none⟩=false:=f.frozen;have p:=f.set j (.bool true);rw[Dw]at p;cases haB:aK B j with
   |false=>
    have a:=aaG (A:=A) (B:=B) (i:=j) (.inl haB);rw[haB]at y;have c:Hid (je A B (j+1)=je A B j):=a;clear a haB p;go_wp2_with fail;go_roundg (n - (j+1))
    case measure=>omega
    case rel=>exact⟨j+1,b,by omega,rfl,by go_num,by rw[c.out];exact⟨f,m,h1,h2,h3,h4⟩,by rw[c.out];exact d⟩
   |true=>
    rw[haB]at y;cases GU:aK (je A B j) j with
    |true=>
     have a:=aaG (A:=A) (B:=B) (i:=j) (.inr GU);rw[GU]at u;have c:Hid (je A B (j+1)=je A B j):=a;clear a haB GU p;go_wp2_with fail;go_roundg (n - (j+1))
     case measure=>omega
     case rel=>exact⟨j+1,b,by omega,rfl,by go_num,by rw[c.out];exact⟨f,m,h1,h2,h3,h4⟩,by rw[c.out];exact d⟩
    |false=>
     have o:=aku (A:=A) (B:=B) (i:=j) (by omega) haB;have q:=Jg (bs:=je A B j) (i:=j) (by rw[wQ];omega) GU;rw[GU]at u;have c:Hid (je A B (j+1)=(je A B j).set j true):=o;have z:Hid (bB A<bB ((je A B j).set j true)):=by have:=d.out.2.2;show _<_;omega
     clear o haB GU q;go_wp2_with fail;go_roundg (n - (j+1))
     case measure=>omega
     case rel=>exact⟨j+1,true,by omega,rfl,by go_num,by rw[c.out];exact⟨p,fun g t=>(zS0 t).trans (m g t),h1,h2,h3,by simpa [World.setCell]using h4⟩,by rw[c.out];exact⟨fun _=>z.out,(fun h=>by cases h),mi z.out⟩⟩
  ·have:j=n:=by omega
   subst this;have s:je A B j=ql A B:=by unfold ql;rw[C]
   rw[s]at f d;have x:Hid ((b=true->bB A<bB (ql A B))/\(b=false->ql A B=A)):=⟨d.out.1,d.out.2.1⟩;clear d s;go_wp2_with fail;go_ret;exact⟨b,rfl,x.out.1,x.out.2,f,m,h1,h2,h3,h4⟩
theorem join_self{w:World}{a n:Nat}{A:List Bool}(kA:aj w a (bG A) 4)(f:A.length=n)(g:n<=100000):Calls prog 132 #[.slice (some ⟨a,0,none⟩) n n,.slice (some ⟨a,0,none⟩) n n] w fun e w'=>e=.returned (.bool false)/\w'=w:=by
 go_enter func132,ntmps132;go_wp2_with fail
 go_loopg [5,10] n (fun k v i wr=>∃j:Nat,j+k=n/\v=.bool false/\i=.int .i64 j/\wr=w)
 case atStart=>exact⟨0,by omega,rfl,rfl,rfl⟩
 case round=>
  obtain⟨j,d,rfl,rfl,c⟩:=hrel;subst c
  by_cases hlt:j<n
  ·have b:wr.cell? ⟨a,j,none⟩=some (.bool (aK A j)):=(kA.cell j).trans (qR A (by omega))
   cases hat:aK A j with
   |true=>
    rw[hat]at b;clear hat;go_wp2_with fail;go_roundg (n - (j+1))
    case measure=>omega
    case rel=>exact⟨j+1,by omega,rfl,by go_num,rfl⟩
   |false=>
    rw[hat]at b;clear hat;go_wp2_with fail;go_roundg (n - (j+1))
    case measure=>omega
    case rel=>exact⟨j+1,by omega,rfl,by go_num,rfl⟩
  ·go_wp2_with fail
   go_ret;exact⟨rfl,rfl⟩
theorem agW{w:World}{g n:Nat}{A:List Bool}(kA:aj w g (bG A) 4)(E:A.length=n)(L:n<=100000):Calls prog 133 #[.slice (some ⟨g,0,none⟩) n n] w fun e w'=>∃u,e=.returned u/\IR w.heap.size w' u (jF A)/\Below w.heap.size w w':=by
 obtain⟨B,p,q,r,o⟩:=ft Tryz.info3;go_enter func133,ntmps133;go_wp2_with fail
 go_loopg [3,8] n (fun k v i wr=>∃(j:Nat)(a:List Nat),j+k=n/\i=.int .i64 j/\IR w.heap.size wr v a/\Below w.heap.size w wr/\a.length<=j/\Hid (a=(List.range j).filter fun k=>aK A k))
 case atStart=>exact⟨0,[],by omega,rfl,eQ _ _ _ _,cV _ _,by simp,rfl⟩
 case round=>
  obtain⟨j,a,x,rfl,f,l,D,m⟩:=hrel;obtain⟨H,G,rfl,-⟩:=aC f;have I:=l.size
  by_cases hlt:j<n
  ·have C:aj wr g (bG A) 4:=(l.block g kA.lt).trans kA
   have y:wr.cell? ⟨g,j,none⟩=some (.bool (aK A j)):=(C.cell j).trans (qR A (by omega));have b:(List.range (j+1)).filter (fun k=>aK A k)=(List.range j).filter (fun k=>aK A k)++(if aK A j=true then [j] else []):=by
    rw[List.range_succ,ki];simp[List.filter_cons]
   cases hat:aK A j with
   |true=>
    rw[hat]at y b;have d:Hid (a++[j]=(List.range (j+1)).filter fun k=>aK A k):=by show _=_;rw[b,<-m.out];rfl
    have J:=f.alloc (.cells #[.int .i64 (j:Int)] 3);clear hat b
    go_wp2_with (at_builtin;go_loud (refine js _ rfl _ _ 22 rfl w.heap.size 3 B _ 1 8 underlying22 p q r o rfl (by decide) (.slice H a.length G) _ _ rfl J ⟨_,0,none⟩ 1 1 [.int .i64 (j:Int)] rfl rfl (eO (aj.new _ _ 3)) (by simp[Value.oneCell']) (by unfold maxLen;omega) (by omega) (by simp;omega) ?_;intro O F c z _ N;obtain⟨M,K,s,-⟩:=aC c;subst s))
    have t:Below w.heap.size w F:=(l.alloc I _).grown z (by simp;omega) (fun k x=>(f.lt k x).1);go_roundg (n - (j+1))
    case measure=>omega
    case rel=>exact⟨j+1,a++[j],by omega,by go_num,by unfold IR;rw[cH,Fv];exact c,t,by simp;omega,d⟩
   |false=>
    rw[hat]at y b;have d:Hid (a=(List.range (j+1)).filter fun k=>aK A k):=by show _=_;rw[b,<-m.out];simp
    clear hat b;go_wp2_with fail;go_roundg (n - (j+1))
    case measure=>omega
    case rel=>exact⟨j+1,a,by omega,by go_num,f,l,by omega,d⟩
  ·have:j=n:=by omega
   subst this;have d:Hid (a=jF A):=by show _=_;rw[m.out];unfold jF;rw[E]
   clear m;go_wp2_with fail;go_ret;exact⟨_,rfl,by rw[<-d.out];exact f,l⟩
def vA(l:List Value):Array Value:=l.toArray
theorem adn(l:List Value)(i:Nat)(v:Value):(vA l).setIfInBounds i v=vA (l.set i v):=by unfold vA;rw[kf]
theorem TF(l:List Value)(i:Nat):(vA l)[i]?=l[i]?:=by unfold vA;rw[ge]
def A9(n g:Nat):Value:=.slice (some ⟨g,0,none⟩) n n
theorem Tryz.al4:(prog.info? 142).map (fun i=>(i.zero,i.size,i.bytes))=some (some (.slice none 0 0),1,24):=by kernel_rfl
theorem ai9{n:Nat}(j:n<=100000)(w:World):(Instr.makeSlice 273 (.int .i64 (n:Int)) (.int .i64 (n:Int))).run prog w=.ok (.slice (some ⟨w.heap.size,0,none⟩) n n) (w.alloc (.cells (vA (List.replicate n (Value.slice none 0 0))) 142)):=by
 obtain⟨f,d,b,c,a⟩:=ft Tryz.al4;have h:=pA (P:=prog) w 273 142 f _ (by kernel_rfl) d b .i64 .i64 (n:Int) (n:Int) (by omega) (nF _) (by rw[a];omega) (by omega);rw[h,im,c];have e:Value.cells (.slice none 0 0)=#[.slice none 0 0]:=rfl;have g:madeCells #[.slice none 0 0] (n*1)=(vA (List.replicate n (Value.slice none 0 0))):=by
  unfold madeCells vA;apply qe
  ·simp
  ·intro i h1 h2
   simp[Nat.mod_one]
 rw[e,g]
structure BB(w:World)(gO nT:Nat)(gs:List Nat)(B:List (List Bool)):Prop where
 outer:aj w gO (vA (gs.map (A9 nT))) 142
 len:B.length=gs.length
 rows:∀i(hi:i<gs.length)(hi':i<B.length),aj w gs[i] (bG B[i]) 4
 rl:∀b∈B,b.length=nT
 nd:gs.Nodup
 no:gO∉gs
namespace Lx
def yN(nT i:Nat):List Bool:=if i<nT then (List.replicate nT false).set i true else List.replicate nT false
def alone(nT n:Nat):List (List Bool):=(List.range n).map (yN nT)
theorem agf(nT i:Nat):(yN nT i).length=nT:=by unfold yN;split <;> simp
end Lx
def ado(w:World)(nT n:Nat)(e:Ending)(w':World):Prop:=∃gO gs,e=.returned (.slice (some ⟨gO,0,none⟩) n n)/\w.heap.size<=gO/\(∀g∈gs,w.heap.size<=g)/\BB w' gO nT gs (Lx.alone nT n)/\Below w.heap.size w w'
theorem afp{w:World}{ta:Option Addr}{nT tc:Nat}{na:Option Addr}{nN nc:Nat}{vP vB vK:Value}{pa ba ka:Option Addr}{J pc nb bc nk kc:Nat}(AU:vP=.slice pa J pc)(K:vB=.slice ba nb bc)(O:vK=.slice ka nk kc)(E:nT+nN<=100000):Calls prog 131 #[.agg #[.slice ta nT tc,.slice na nN nc,vP,vB,vK]] w (ado w nT (nT+nN)):=by
 subst AU K O;obtain⟨n,F⟩:∃n,n=nT+nN:=⟨_,rfl⟩;have N:IntKind.i64.wrap ((nT:Int)+(nN:Int))=(n:Int):=by rw[F,<-px];exact wrap64 (by omega)
 have sJ:nT<=100000:=by omega
 rw[<-F]at E|-;clear F;have P:=fun w=>ai9 E w
 unfold ado;go_enter func131,ntmps131;go_wp2_with fail;obtain⟨W,B⟩:∃W,W=(w.alloc (.cells #[.slice ta nT tc,.slice na nN nc,.slice pa J pc,.slice ba nb bc,.slice ka nk kc] 56)).alloc (.cells (vA (List.replicate n (Value.slice none 0 0))) 142):=⟨_,rfl⟩;rw[<-B];have s:Below w.heap.size w W:=by rw[B];exact((cV _ _).alloc (zL0) _).alloc (by simp) _
 have zx:W.heap.size=w.heap.size+2:=by rw[B];simp
 have kA:aj W w.heap.size #[.slice ta nT tc,.slice na nN nc,.slice pa J pc,.slice ba nb bc,.slice ka nk kc] 56:=by rw[B];exact(aj.new w _ 56).alloc _
 have V:aj W (w.heap.size+1) (vA (List.replicate n (Value.slice none 0 0))) 142:=by
  rw[B];simpa using aj.new (w.alloc (.cells #[.slice ta nT tc,.slice na nN nc,.slice pa J pc,.slice ba nb bc,.slice ka nk kc] 56)) (vA (List.replicate n (Value.slice none 0 0))) 142
 clear B P N
 go_loopg [15] n (fun k i wr=>∃(j:Nat)(c:List Nat),j+k=n/\i=.int .i64 j/\c.length=j/\aj wr (w.heap.size+1) (vA (c.map (A9 nT)++List.replicate (n-j) (Value.slice none 0 0))) 142/\(∀i(t:i<c.length),aj wr c[i] (bG (yN nT i)) 4)/\(∀g∈c,w.heap.size+2<=g)/\c.Nodup/\Kp (fun g=>g<W.heap.size/\g≠w.heap.size+1) W wr)
 case atStart=>exact⟨0,[],by omega,rfl,rfl,by simpa using V,(fun i t=>absurd t (by simp)),(fun g l=>by cases l),mj,Kp.refl _ _⟩
 case round=>
  obtain⟨j,c,hk,rfl,p,y,f,o,r,d⟩:=hrel;have Z:=d.size;have R:aj wr w.heap.size _ 56:=dW kA d ⟨by omega,by omega⟩
  by_cases hlt:j<n
  ·have a0:wr.cell? ⟨w.heap.size,0,none⟩=some (.slice ta nT tc):=R.cell 0
   have U:=fun w=>YQ sJ w
   have lO:=y.lt;have lw:=R.lt;have cO:wr.cell? ⟨w.heap.size+1,j,none⟩=some (.slice none 0 0):=by
    rw[y.cell j,TF,eN (by simp;omega),dk,p,ib,jn,dj (by omega)]
   have fO:∀i,wr.frozen? ⟨w.heap.size+1,i,none⟩=false:=y.frozen;have G:∀g∈c,g<wr.heap.size:=fun g l=>by
    obtain⟨i,t,rfl⟩:=lA l;exact(f i t).lt
   have v:(vA (c.map (A9 nT)++List.replicate (n-j) (Value.slice none 0 0))).setIfInBounds j (A9 nT wr.heap.size)=(vA ((c++[wr.heap.size]).map (A9 nT)++List.replicate (n - (j+1)) (Value.slice none 0 0))):=by
    rw[adn,mB _ _ (by simp;omega),show n-j=n - (j+1)+1 by omega,nh];simp[p]
   have HS:Hid _:=v;have u:∀{C:List Bool},C=yN nT j->∀A,A=(wr.setCell ⟨w.heap.size+1,j,none⟩ (A9 nT wr.heap.size)).alloc (.cells (bG C) 4)->aj A (w.heap.size+1) (vA ((c++[wr.heap.size]).map (A9 nT)++List.replicate (n - (j+1)) (Value.slice none 0 0))) 142/\(∀i(t:i<(c++[wr.heap.size]).length),aj A (c++[wr.heap.size])[i] (bG (yN nT i)) 4)/\(∀g∈c++[wr.heap.size],w.heap.size+2<=g)/\(c++[wr.heap.size]).Nodup/\Kp (fun g=>g<W.heap.size/\g≠w.heap.size+1) W A:=by
    intro C z A m;have H:∀g,g<wr.heap.size->g≠w.heap.size+1->A.heap[g]?=wr.heap[g]?:=fun g l F=>by
     rw[m,dg _ _ _ (by simp[World.setCell];exact l),zS0 F]
    refine⟨?_,?_,?_,?_,?_⟩
    ·rw[m,<-HS.out];exact(y.set j _).alloc _
    ·intro i t
     rw[cH,gd]at t
     by_cases hij:i<c.length
     ·rw[xN hij]
      have h1:=o c[i] (du hij);exact(H _ (G _ (du hij)) (by omega)).trans (f i hij)
     ·have:i=c.length:=by omega
      subst this;rw[xv (zL0)];simp only[Nat.sub_self,List.getElem_cons_zero];rw[p,<-z,m];have:=aj.new (wr.setCell ⟨w.heap.size+1,j,none⟩ (A9 nT wr.heap.size)) (bG C) 4;simpa [World.setCell]using this
    ·intro g l
     rcases cY.1 l with l|l
     ·exact o g l
     ·rw[cN.1 l];omega
    ·rw[ip]
     refine⟨r,by simp,fun a T b M e=>?_⟩;rw[cN.1 M]at e;have:=G a T;omega
    ·refine⟨by rw[m];exact d.os,by rw[m];exact d.tape,by rw[m];exact d.output,by rw[m];simp[World.setCell];omega,fun g l=>(H g (by omega) l.2).trans (d.block g l)⟩
   have D:Hid _:=@u;clear u v
   by_cases hjt:j<nT
   ·have aa:(bG (List.replicate nT false))[j]?=some (.bool false):=by rw[qR _ (by simpa using hjt)];simp[aK,hjt]
    have z:(List.replicate nT false).set j true=yN nT j:=(dj hjt).symm;have Q:Hid _:=z;clear z f y o r;go_wp2_with fail;rw[Dw];have q:=D.out Q.out _ rfl;go_roundg (n - (j+1))
    case measure=>omega
    case rel=>exact⟨j+1,c++[wr.heap.size],by omega,by go_num,by simp[p],q.1,q.2.1,q.2.2.1,q.2.2.2.1,q.2.2.2.2⟩
   ·have z:List.replicate nT false=yN nT j:=(dt hjt).symm
    have Q:Hid _:=z;clear z f y o r;go_wp2_with fail;have q:=D.out Q.out _ rfl;go_roundg (n - (j+1))
    case measure=>omega
    case rel=>exact⟨j+1,c++[wr.heap.size],by omega,by go_num,by simp[p],q.1,q.2.1,q.2.2.1,q.2.2.2.1,q.2.2.2.2⟩
  ·have:j=n:=by omega
   subst this;have L:Below w.heap.size w wr:=⟨d.os.trans s.os,d.tape.trans s.tape,d.output.trans s.output,by omega,fun x q=>(d.block x ⟨by omega,by omega⟩).trans (s.block x q)⟩;have I:BB wr (w.heap.size+1) nT c (Lx.alone nT j):=by
    refine⟨by simpa using y,by simp[Lx.alone,p],fun i t ab=>?_,?_,r,fun Y=>by have:=o _ Y;omega⟩
    ·have:(Lx.alone nT j)[i]=yN nT i:=by simp[Lx.alone]
     rw[this];exact f i t
    ·intro b M
     obtain⟨i,-,rfl⟩:=ee.1 M;exact agf nT i
   have S:Hid _:=I;have X:Hid (∀g∈c,w.heap.size<=g):=fun g l=>by have:=o g l;omega
   clear I y f o;go_wp2_with fail;go_ret;exact⟨_,c,rfl,by omega,X.out,S.out,L⟩
namespace Lx
def rowAt(B:List (List Bool))(i:Nat):List Bool:=B[i]?.getD []
def pV(l:Nat)(B:List (List Bool))(s:Nat):List (List Bool):=B.set l (ql (rowAt B l) (rowAt B s))
def aof(E:List Bool)(p:Pd):Nat:=min (mJ E p.right+1) p.right.length
def Ud(E:List Bool)(B:List (List Bool))(p:Pd):List (List Bool):=(p.right.take (aof E p)).foldl (pV p.left) B
def gI(P:List Pd)(E:List Bool)(B:List (List Bool)):List (List Bool):=P.foldl (Ud E) B
def tot(B:List (List Bool)):Nat:=(B.map bB).sum
theorem FI{B:List (List Bool)}{i:Nat}(h:i<B.length):rowAt B i=B[i]:=by simp[rowAt,h]
theorem acu:∀{B:List (List Bool)}{l:Nat}{C:List Bool}(h:l<B.length),tot (B.set l C)+bB B[l]=tot B+bB C
 |b::B,0,C,_=>by simp[tot];omega
 |b::B,l+1,C,h=>by
  have:=acu (B:=B) (l:=l) (C:=C) (by simpa using h);simp[tot]at this|-;omega
theorem adp{nT:Nat}:∀{B:List (List Bool)},(∀b∈B,b.length=nT)->tot B<=B.length*nT
 | [],_=>by simp[tot]
 |b::B,h=>by
  have h1:=adp (B:=B) fun x a=>h x (ei _ a)
  have h2:=BI b;rw[h b ed]at h2;simp[tot,Nat.succ_mul]at h1|-;omega
theorem acv(A B:List Bool):(ql A B).length=A.length:=by unfold ql;rw[wQ]
end Lx
theorem BB.at{w:World}{c nT:Nat}{gs:List Nat}{B:List (List Bool)}(h:BB w c nT gs B){i:Nat}(b:i<gs.length):w.cell? ⟨c,i,none⟩=some (.slice (some ⟨gs[i],0,none⟩) nT nT)/\aj w gs[i] (bG (Lx.rowAt B i)) 4/\(Lx.rowAt B i).length=nT:=by
 have a:i<B.length:=by rw[h.len];exact b
 rw[FI a];refine⟨?_,h.rows i b a,h.rl _ (du a)⟩;rw[h.outer.cell i,TF];simp[b,A9]
theorem BB.join{w w':World}{f nT:Nat}{gs:List Nat}{B:List (List Bool)}(h:BB w f nT gs B){l:Nat}(n:l<gs.length){A C:List Bool}(d:Oe w gs[l] A C w')(m:C.length=nT):BB w' f nT gs (B.set l C):=by
 obtain⟨h1,h2,h3,h4,g,j⟩:=h;refine⟨(d.bK f (fun e=>j (e▸du n))).trans h1,by rw[ii];exact h2,fun i k c=>?_,fun b a=>?_,g,j⟩
 ·rw[tE]
  by_cases e:l=i
  ·subst e;rw[dj rfl];exact d.blk
  ·rw[dt e]
   rw[ii]at c;exact(d.bK _ (fun o=>e ((lP g).1 o).symm)).trans (h3 i k c)
 ·rcases mw a with a | a
  ·exact h4 b a
  ·rw[a];exact m
theorem BB.move{w w':World}{d nT:Nat}{gs:List Nat}{B:List (List Bool)}(h:BB w d nT gs B)(b:∀g,g<w.heap.size->w'.heap[g]?=w.heap[g]?):BB w' d nT gs B:=⟨(b _ h.outer.lt).trans h.outer,h.len,fun i c a=>(b _ (h.rows i c a).lt).trans (h.rows i c a),h.rl,h.nd,h.no⟩
theorem ZC{n:Nat}(j:n<=100000)(w:World):(Instr.makeSlice 49 (.int .i64 (n:Int)) (.int .i64 (n:Int))).run prog w=.ok (.slice (some ⟨w.heap.size,0,none⟩) n n) (w.alloc (.cells (vA (List.replicate n (Value.slice none 0 0))) 22)):=by
 obtain⟨f,d,b,c,a⟩:=ft Tryz.ada;have h:=pA (P:=prog) w 49 22 f _ (by kernel_rfl) d b .i64 .i64 (n:Int) (n:Int) (by omega) (nF _) (by rw[a];omega) (by omega);rw[h,im,c];have e:Value.cells (.slice none 0 0)=#[.slice none 0 0]:=rfl;have g:madeCells #[.slice none 0 0] (n*1)=(vA (List.replicate n (Value.slice none 0 0))):=by
  unfold madeCells vA;apply qe
  ·simp
  ·intro i h1 h2
   simp[Nat.mod_one]
 rw[e,g]
def GV(B:Nat)(w:World)(v:Value)(ps:List (List Nat)):Prop:=∃qs,Ur B w v ps qs/\qs.Pairwise fun a b=>∀g,a.1.ownBlock=some g->b.1.ownBlock≠some g
def adq(w:World)(nT n:Nat)(P:List Lx.Pd)(E:List Bool)(e:Ending)(w':World):Prop:=∃v B m,e=.returned v/\B=rE (gI P E) m (Lx.alone nT n)/\gI P E B=B/\GV w.heap.size w' v (B.map jF)/\Below w.heap.size w w'
theorem afq{w:World}{ta:Option Addr}{nT tc:Nat}{na:Option Addr}{nN nc:Nat}{vP:Value}{P:List Lx.Pd}{ba ka:Option Addr}{nb bc nk kc gE:Nat}{E:List Bool}(h:F8 w ta nT tc na nN nc vP P)(kE:aj w gE (bG E) 4)(hE:E.length=nT+nN)(bx:∀p∈P,p.right.length<=100000):Calls prog 91 #[.agg #[.slice ta nT tc,.slice na nN nc,vP,.slice ba nb bc,.slice ka nk kc],.slice (some ⟨gE,0,none⟩) (nT+nN) (nT+nN)] w (adq w nT (nT+nN) P E):=by
 obtain⟨hP,a2,al⟩:=h;obtain⟨pa,pc,rfl,bf⟩:∃a c,vP=.slice a P.length c/\P.length<=maxLen:=by obtain⟨ps,h1,h2,-⟩:=hP;exact aC h2
 unfold maxLen at bf;obtain⟨W,hW⟩:∃W,W=w.alloc (.cells #[.slice ta nT tc,.slice na nN nc,.slice pa P.length pc,.slice ba nb bc,.slice ka nk kc] 56):=⟨_,rfl⟩;have bb:Below w.heap.size w W:=by rw[hW];exact(cV _ _).alloc (zL0) _
 have zx:W.heap.size=w.heap.size+1:=by rw[hW];simp
 have kA:aj W w.heap.size #[.slice ta nT tc,.slice na nN nc,.slice pa P.length pc,.slice ba nb bc,.slice ka nk kc] 56:=by rw[hW];exact aj.new w _ 56
 have q0:=afp (w:=W) (ta:=ta) (tc:=tc) (na:=na) (nc:=nc) (vP:=.slice pa P.length pc) (vB:=.slice ba nb bc) (vK:=.slice ka nk kc) rfl rfl rfl al;have sJ:nT<=100000:=by omega
 obtain⟨n,hn⟩:∃n,n=nT+nN:=⟨_,rfl⟩;rw[<-hn]at a2 al hE q0|-;clear hn;unfold adq;go_enter func91,ntmps91;go_wp2_with fail;rw[<-hW];clear hW;refine q0.mono ?_;rintro e w1⟨K,F,rfl,iC,b0,aG,aq⟩;clear q0;have ck:=aq.size;have Y:Below w.heap.size w w1:=bb.trans (aq.mono (by omega));have b1:aj w1 w.heap.size _ 56:=(aq.block _ (by omega)).trans kA;have bT:aj w1 gE (bG E) 4:=(Y.block _ kE.lt).trans kE;have lE:=kE.lt;have aw:F.length=n:=by rw[<-aG.len];simp[Lx.alone]
 go_wp2_with fail
 go_loopg [6] (n*nT+1) (fun k v wr=>∃(b:Bool)(B:List (List Bool))(m:Nat),v=.bool b/\(b=true->n*nT-Lx.tot B+1<=k)/\BB wr K nT F B/\Kp (fun g=>g<W.heap.size) w1 wr/\Hid (B=rE (gI P E) m (Lx.alone nT n))/\Hid (b=false->gI P E B=B))
 case atStart=>exact⟨true,_,0,rfl,fun _=>by omega,aG,Kp.refl _ _,rfl,fun h=>by cases h⟩
 case round=>
  revert wr;intro t hrel;obtain⟨b,B,m,rfl,ap,Lc,J,HB,HF⟩:=hrel;have CG:aj t w.heap.size _ 56:=dW b1 J (by show w.heap.size<W.heap.size;omega);have z2:t.cell? ⟨w.heap.size,2,none⟩=some (.slice pa P.length pc):=CG.cell 2;cases b with
  |true=>
   obtain⟨K0,yg⟩:∃K0,Hid (K0=gk):=⟨gk,rfl⟩;have bU:n*nT-Lx.tot B+1<=K0:=by rw[yg.out];exact ap rfl
   have aA:∀{C:List (List Bool)}{x:World},BB x K nT F C->Lx.tot C<=n*nT:=fun hC=>by
    have:=adp hC.rl;rw[hC.len,aw]at this;exact this
   clear ap HF;have H0:Hid (gI P E B=gI (P.drop 0) E B):=rfl;go_wp2_with fail
   go_loopg [6,21] P.length (fun k v i wr=>∃(j:Nat)(b:Bool)(C:List (List Bool)),j+k=P.length/\v=.bool b/\i=.int .i64 j/\BB wr K nT F C/\Kp (fun g=>g<W.heap.size) w1 wr/\Hid ((b=false->C=B)/\(b=true->Lx.tot B<Lx.tot C)/\Lx.tot B<=Lx.tot C)/\Hid (gI P E B=gI (P.drop j) E C))
   case atStart=>exact⟨0,false,B,by omega,rfl,rfl,Lc,J,⟨fun _=>rfl,(fun h=>by cases h),zL0⟩,H0⟩
   case round=>
    clear H0 Lc J CG z2;revert wr;intro A hrel;obtain⟨j,b,C,aH,rfl,rfl,hC,M,HC,HP⟩:=hrel;have cd:=M.size;have S:Below w.heap.size w A:=⟨M.os.trans Y.os,M.tape.trans Y.tape,M.output.trans Y.output,de Y.size M.size,fun x f=>(M.block x (by show x<W.heap.size;omega)).trans (Y.block x f)⟩
    by_cases hlt:j<P.length
    ·obtain⟨g,cj,u,hv,ae,a7,a5,a8⟩:=hP.at hlt
     cases hv;have hu:IR 0 A u P[j].right:=own_below ae S;have x0:=cell_below S a7;have x1:=cell_below S a5;have x2:=cell_below S a8;clear a7 a5 a8;obtain⟨ab,r⟩:=a2 P[j] (du hlt);have aE:=bx P[j] (du hlt);have hd:=HP.out;rw[eR hlt,show gI (P[j]::P.drop (j+1)) E C=gI (P.drop (j+1)) E (Ud E C P[j]) from rfl]at hd;generalize P[j]=pd at hu ae x0 x1 x2 ab r hd aE;obtain⟨pl,pr,pp⟩:=pd;simp only at hu ae x0 x1 x2 ab r aE;obtain⟨R,I,rfl,-⟩:=aC hu;obtain⟨Q,X⟩:∃Q,Q=A.alloc (.cells #[.int .i64 (pl:Int),.slice R pr.length I,.int .i64 pp] 120):=⟨_,rfl⟩;have fu:Below A.heap.size A Q.drew:=by rw[X];exact((cV _ _).alloc (zL0) _).drew
     have cc:Q.heap.size=A.heap.size+1:=by rw[X];simp
     have kp:aj Q.drew A.heap.size #[.int .i64 (pl:Int),.slice R pr.length I,.int .i64 pp] 120:=by rw[X];exact(aj.new A _ 120).drew
     have az:aj Q.drew gE (bG E) 4:=(fu.block _ (by have:=S.size;omega)).trans ((S.block _ lE).trans kE);have Wo:BB Q.drew K nT F C:=hC.move fun x f=>fu.block x f
     have CK:Kp (fun g=>g<W.heap.size) w1 Q.drew:=M.trans (Kp.below fu (D:=fun g=>g<A.heap.size) fun g H=>H) fun g H=>by show g<A.heap.size;omega
     have p1:Q.drew.cell? ⟨A.heap.size,1,none⟩=some (.slice R pr.length I):=kp.cell 1;have ac:IR 0 Q.drew (.slice R pr.length I) pr:=own_below hu fu;have N:=XI ac az (fun s hs=>by rw[hE];exact r s hs);rw[hE]at N;have J7:=RN E pr;have ar:Hid (Ud E C ⟨pl,pr,pp⟩=(pr.take (min (mJ E pr+1) pr.length)).foldl (pV pl) C):=rfl;obtain⟨z,ag⟩:∃z,z=min (mJ E pr+1) pr.length:=⟨_,rfl⟩;rw[<-ag]at ar;have KM:Hid (z=min (mJ E pr+1) pr.length):=ag;have ch:z<=pr.length:=by omega
     generalize mJ E pr=an at N J7 KM ag;clear ag;go_wp2_with fail;rw[<-X];clear X x0 x1 x2
     go_region_held3 (fun w'=>w'.cell? ⟨A.heap.size,1,none⟩=some (.slice R pr.length I)) (first | go_keep | assumption) ((go_at_call 130;refine N.mono ?_;rintro e U⟨rfl,fI⟩;subst fI))
     have ai:min (IntKind.i64.wrap ((an:Int)+1)) (pr.length:Int)=(z:Int):=by
      rw[show ((an:Int)+1)=((an+1:Nat):Int) from by omega,wrap64 (by omega),KM.out];omega
     rw[ai];clear ai N;rw[ar.out]at hd;have bv:Hid (∀s∈pr.take z,s<n):=fun s hs=>r s (sn hs)
     have bN:=ace ac;have c0:(0:Int)<=(z:Int):=by omega
     have c1:(z:Int)<=(I:Int):=by omega
     have aa:(pr.take z).length=z:=by rw[j'];omega
     have CY:∀x∈F,x<A.heap.size:=fun x f=>by
      obtain⟨i,hi,rfl⟩:=lA f;exact(hC.rows i hi (by rw[hC.len];exact hi)).lt
     have H3:Hid (gI P E B=gI (P.drop (j+1)) E (((pr.take z).drop 0).foldl (pV pl) C)):=hd;have HU:Hid (∀{x:World},Kp (fun g=>g<W.heap.size\/g=A.heap.size) Q.drew x->IR 0 x (.slice R pr.length I) pr):=fun f=>aD ac fun g H=>f.block g (.inl (by have:=(ae.lt g H).2;omega))
     clear hd HP;rcases ac.2 with ⟨e1,e2⟩|⟨gR,ci,cf,jL,-,br,bq,bg,bh,b6⟩
     ·have aY:z=0:=by omega
      subst aY;have H4:Hid (gI P E B=gI (P.drop (j+1)) E C):=by show _=_;have:=H3.out;simpa using this
      simp only[Value.slice.injEq]at e1;obtain⟨rfl,-,rfl⟩:=e1;have aI:pr=[]:=gz e2;subst aI;clear H3 ar KM e2 aa bv HU;go_wp2_with fail
      go_loopg [6,39] 0 (fun k v i wr=>k=0/\v=.bool b/\i=.int .i64 0/\wr=Q.drew)
      case atStart=>exact⟨rfl,rfl,rfl,rfl⟩
      case round=>
       obtain⟨rfl,rfl,rfl,rfl⟩:=hrel;go_wp2_with fail;go_roundg (P.length - (j+1))
       case measure=>omega
       case rel=>exact⟨j+1,b,C,by omega,rfl,by go_num,Wo,CK,HC,H4⟩
     ·cases jL
      clear b6 bh br bg bq;go_wp2_with fail
      go_loopg [6,39] z (fun k v i wr=>∃(q:Nat)(b2:Bool)(o:List (List Bool)),q+k=z/\v=.bool b2/\i=.int .i64 q/\BB wr K nT F o/\Kp (fun g=>g<W.heap.size\/g=A.heap.size) Q.drew wr/\Hid ((b2=false->o=B)/\(b2=true->Lx.tot B<Lx.tot o)/\Lx.tot B<=Lx.tot o)/\Hid (gI P E B=gI (P.drop (j+1)) E (((pr.take z).drop q).foldl (pV pl) o)))
      case atStart=>exact⟨0,b,C,by omega,rfl,rfl,Wo,Kp.refl _ _,HC,H3⟩
      case round=>
       clear H3 Wo p1 az;obtain⟨q,b2,o,ce,rfl,rfl,O,d,qJ,H3⟩:=hrel
       by_cases uW:q<z
       ·have bi:=HU.out d
        obtain⟨cm,cl,bm,-,cq⟩:=bi.at (j:=q) (by omega);cases bm;have h3:=H3.out;have bp:q<(pr.take z).length:=by rw[aa];exact uW
        have av:(pr.take z).drop q=(pr.take z)[q]::(pr.take z).drop (q+1):=eR bp;rw[av,qT,vn]at h3;have b5:=r pr[q] (du (by omega));generalize pr[q]=sy at cq h3 b5;obtain⟨o1,o2,o3⟩:=O.at (i:=pl) (by omega);obtain⟨y1,y2,y3⟩:=O.at (i:=sy) (by omega);have bo:aj wr A.heap.size #[.int .i64 (pl:Int),.slice (some ⟨gR,0,none⟩) pr.length I,.int .i64 pp] 120:=dW kp d (.inr rfl);have dp:wr.drew.cell? ⟨A.heap.size,0,none⟩=some (.int .i64 (pl:Int)):=bo.drew.cell 0;have PO:wr.drew.cell? ⟨K,pl,none⟩=some (.slice (some ⟨F[pl]'(by omega),0,none⟩) nT nT):=o1;have PS:wr.drew.cell? ⟨K,sy,none⟩=some (.slice (some ⟨F[sy]'(by omega),0,none⟩) nT nT):=y1;have i1:(0:Int)<=(pl:Int):=by omega
        have i2:(pl:Int)<(n:Int):=by omega
        have i3:(0:Int)<=(sy:Int):=by omega
        have i4:(sy:Int)<(n:Int):=by omega
        have ca:o.length=n:=by rw[O.len];exact aw
        have aF:BB wr.drew K nT F o:=O.move fun _ _=>rfl
        by_cases hps:sy=pl
        ·subst hps
         have a6:pV sy o sy=o:=by
          unfold pV;rw[akv,FI (by omega)];exact zv _
         rw[a6]at h3;have H4:Hid (gI P E B=gI (P.drop (j+1)) E (((pr.take z).drop (q+1)).foldl (pV sy) o)):=h3;have N:=join_self (w:=wr.drew) (o2.drew) o3 sJ;have bw:Kp (fun g=>g<W.heap.size\/g=A.heap.size) Q.drew wr.drew:=⟨d.os,d.tape,d.output,d.size,d.block⟩;generalize F[sy]'(by omega)=ga at PO PS N;clear h3 H3 a6 av o1 y1 o2 y2;go_wp2_with fail
         go_region_held3 (fun w'=>w'.cell? ⟨A.heap.size,0,none⟩=some (.int .i64 (sy:Int))/\w'.cell? ⟨K,sy,none⟩=some (.slice (some ⟨ga,0,none⟩) nT nT)) (first | go_keep | assumption) ((go_at_call 132;refine N.mono ?_;rintro e U⟨rfl,fI⟩;subst fI))
         all_goals
          go_wp2_with fail;go_roundg (z - (q+1))
          case measure=>omega
          case rel=>exact⟨q+1,b2,o,by omega,rfl,by go_num,aF,bw,qJ,H4⟩
        ·have a0:F[pl]'(by omega)≠F[sy]'(by omega):=fun e=>hps ((lP O.nd).1 e).symm
         have H4:Hid (gI P E B=gI (P.drop (j+1)) E (((pr.take z).drop (q+1)).foldl (pV pl) (pV pl o sy))):=h3;have N:=akw (w:=wr.drew) a0 (o2.drew) (y2.drew) o3 y3 sJ;have ak:=acu (B:=o) (l:=pl) (C:=ql (Lx.rowAt o pl) (Lx.rowAt o sy)) (by omega);rw[<-FI (B:=o) (i:=pl) (by omega)]at ak;have af:=du (l:=F) (n:=pl) (by omega);have aX:=b0 _ af;have bR:=CY _ af;have HJ:Hid (∀{x:World},Oe wr.drew (F[pl]'(by omega)) (Lx.rowAt o pl) (ql (Lx.rowAt o pl) (Lx.rowAt o sy)) x->BB x K nT F (pV pl o sy)):=fun f=>aF.join (by omega) f (by rw[acv];exact o3)
         have HT:Hid (Lx.tot (pV pl o sy)+bB (Lx.rowAt o pl)=Lx.tot o+bB (ql (Lx.rowAt o pl) (Lx.rowAt o sy))):=ak;have O1:Hid (ql (Lx.rowAt o pl) (Lx.rowAt o sy)=Lx.rowAt o pl->pV pl o sy=o):=fun he=>by
          unfold pV;rw[he,FI (by omega)];exact zv _
         have a3:F[pl]'(by omega)≠A.heap.size:=by omega
         have iC:K≠F[pl]'(by omega):=fun e=>O.no (e▸af)
         generalize F[pl]'(by omega)=ga at PO N aX a3 HJ iC;generalize F[sy]'(by omega)=gb at PS N;clear h3 H3 av o1 y1 o2 y2 a0 af ak;go_wp2_with fail
         go_region_held3 (fun w'=>w'.cell? ⟨A.heap.size,0,none⟩=some (.int .i64 (pl:Int))/\w'.cell? ⟨K,pl,none⟩=some (.slice (some ⟨ga,0,none⟩) nT nT)/\w'.cell? ⟨K,sy,none⟩=some (.slice (some ⟨gb,0,none⟩) nT nT)) (first | go_keep | assumption) ((go_at_call 132;refine N.mono ?_;rintro e U⟨b3,rfl,UR,UU,Ba⟩;have S5:U.cell? ⟨A.heap.size,0,none⟩=some (.int .i64 (pl:Int))/\U.cell? ⟨K,pl,none⟩=some (.slice (some ⟨ga,0,none⟩) nT nT)/\U.cell? ⟨K,sy,none⟩=some (.slice (some ⟨gb,0,none⟩) nT nT):=⟨(cM (w:=wr.drew) (Ba.bK _ (fun e=>a3 e.symm))).trans dp,(cM (w:=wr.drew) (Ba.bK _ iC)).trans PO,(cM (w:=wr.drew) (Ba.bK _ iC)).trans PS⟩))
         all_goals
          have Wp:=HJ.out Ba;have ad:Kp (fun g=>g<W.heap.size\/g=A.heap.size) Q.drew U:=⟨Ba.os.trans d.os,Ba.tape.trans d.tape,Ba.output.trans d.output,by rw[Ba.size];exact d.size,fun x f=>(Ba.bK x (by rcases f with f | f <;> omega)).trans (d.block x f)⟩;clear S5 N dp PO PS;cases b3 with
          |true=>
           have UA:=UR rfl;have AR:Hid (Lx.tot B<Lx.tot (pV pl o sy)):=by have:=HT.out;have:=qJ.out.2.2;show _<_;omega
           clear UR UU UA;go_wp2_with fail;go_roundg (z - (q+1))
           case measure=>omega
           case rel=>exact⟨q+1,true,_,by omega,rfl,by go_num,Wp,ad,⟨(fun h=>by cases h),fun _=>AR.out,mi AR.out⟩,H4⟩
          |false=>
           have he:=O1.out (UU rfl);rw[he]at Wp H4;clear UR UU he;go_wp2_with fail;go_roundg (z - (q+1))
           case measure=>omega
           case rel=>exact⟨q+1,b2,o,by omega,rfl,by go_num,Wp,ad,qJ,H4⟩
       ·have:q=z:=by omega
        subst this;have H4:Hid (gI P E B=gI (P.drop (j+1)) E o):=by
         show _=_;have:=H3.out;rw[show (pr.take q).drop q=[] from t7 (by rw[aa];exact zL0)]at this;exact this
        have ad:Kp (fun g=>g<W.heap.size) w1 wr:=CK.trans d fun g H=>.inl H
        clear H3 HU;go_wp2_with fail;go_roundg (P.length - (j+1))
        case measure=>omega
        case rel=>exact⟨j+1,b2,o,by omega,rfl,by go_num,O,ad,qJ,H4⟩
    ·have:j=P.length:=by omega
     subst this;have hd:=HP.out;rw[io]at hd;have Lb:Hid (gI P E B=C):=hd;have cg:=aA hC;have bu:Hid (C=rE (gI P E) (m+1) (Lx.alone nT n)):=by
      show C=gI P E (rE (gI P E) m (Lx.alone nT n));rw[<-HB.out];exact Lb.out.symm
     have Wm:Hid (b=false->gI P E C=C):=fun hb=>by
      have h1:=HC.out.1 hb;rw[h1];have:=Lb.out;rw[h1]at this;exact this
     have Wn:Hid (b=true->n*nT-Lx.tot C+1<=K0-1):=fun hb=>by
      have:=HC.out.2.1 hb;omega
     clear HC HP hd aA;go_wp2_with fail;go_roundg (K0-1)
     case measure=>have:=yg.out;omega
     case rel=>exact⟨b,C,m+1,rfl,Wn.out,hC,M,bu,Wm⟩
  |false=>
   have uh:Hid (gI P E B=B):=HF.out rfl;have bz:=fun w=>ZC al w
   have V:Below w.heap.size w t:=⟨J.os.trans Y.os,J.tape.trans Y.tape,J.output.trans Y.output,de Y.size J.size,fun x f=>(J.block x (by show x<W.heap.size;omega)).trans (Y.block x f)⟩;have bH:=V.size;obtain⟨W3,Z⟩:∃W3,W3=t.alloc (.cells (vA (List.replicate n (Value.slice none 0 0))) 22):=⟨_,rfl⟩;have T:Below t.heap.size t W3:=by rw[Z];exact(cV _ _).alloc (zL0) _
   have bV:W3.heap.size=t.heap.size+1:=by rw[Z];simp
   have kL:aj W3 t.heap.size (vA (List.replicate n (Value.slice none 0 0))) 22:=by rw[Z];exact aj.new t _ 22
   have bX:BB W3 K nT F B:=Lc.move fun x f=>T.block x f
   clear ap HF z2 CG;go_wp2_with fail;rw[<-Z];clear Z bz
   go_loopg [60] n (fun k i wr=>∃(j:Nat)(G:List Value),j+k=n/\i=.int .i64 j/\G.length=j/\aj wr t.heap.size (vA (G++List.replicate (n-j) (Value.slice none 0 0))) 22/\(∀x(f:x<G.length),IR w.heap.size wr G[x] (jF (Lx.rowAt B x))/\G[x].ownBlock≠some t.heap.size)/\Hid (G.Pairwise fun a b=>∀g,a.ownBlock=some g->b.ownBlock≠some g)/\Kp (fun g=>g<W3.heap.size/\g≠t.heap.size) W3 wr)
   case atStart=>exact⟨0,[],by omega,rfl,rfl,by simpa using kL,(fun x f=>absurd f (by simp)),oE,Kp.refl _ _⟩
   case round=>
    obtain⟨j,G,aH,rfl,GX,hL,AP,a9,d⟩:=hrel;have cb:=d.size
    by_cases hlt:j<n
    ·have b4:BB wr K nT F B:=by
      have b8:∀x,x<t.heap.size->wr.heap[x]?=t.heap[x]?:=fun x f=>(d.block x ⟨by omega,by omega⟩).trans (T.block x f)
      exact Lc.move b8
     obtain⟨o1,o2,o3⟩:=b4.at (i:=j) (by omega);have N:=agW (w:=wr) o2 o3 sJ;have lL:=hL.lt;have cL:wr.cell? ⟨t.heap.size,j,none⟩=some (.slice none 0 0):=by
      rw[hL.cell j,TF,eN (by omega),GX,ib,jn,dj (by omega)]
     have i1:(0:Int)<=(j:Int):=by omega
     have i2:(j:Int)<(n:Int):=by omega
     generalize F[j]'(by omega)=ga at o1 N;have ah:∀u:Value,(G++List.replicate (n-j) (Value.slice none 0 0)).set j u=(G++[u])++List.replicate (n - (j+1)) (Value.slice none 0 0):=fun u=>by
      rw[mB _ _ (by omega),show n-j=n - (j+1)+1 by omega,nh,GX];simp
     have bt:Hid _:=ah;clear ah o2;go_wp2_with fail;refine N.mono ?_;rintro e U⟨u,rfl,hu,L⟩;obtain⟨R,I,rfl,-⟩:=aC hu;have am:aj U t.heap.size _ 22:=(L.block _ lL).trans hL;have c5:U.cell? ⟨t.heap.size,j,none⟩=some (.slice none 0 0):=cell_below L cL;have f5:∀i,U.frozen? ⟨t.heap.size,i,none⟩=false:=am.frozen;have ao:=am.set j (.slice R (jF (Lx.rowAt B j)).length I);rw[adn,bt.out]at ao;have a4:∀x(f:x<(G++[Value.slice R (jF (Lx.rowAt B j)).length I]).length),IR w.heap.size (U.setCell ⟨t.heap.size,j,none⟩ (.slice R (jF (Lx.rowAt B j)).length I)) (G++[Value.slice R (jF (Lx.rowAt B j)).length I])[x] (jF (Lx.rowAt B x))/\(G++[Value.slice R (jF (Lx.rowAt B j)).length I])[x].ownBlock≠some t.heap.size:=by
      intro x f;rw[cH,gd]at f
      by_cases hxu:x<G.length
      ·rw[xN hxu]
       have h1:=AP x hxu;exact⟨aD (own_below h1.1 L) fun g H=>zS0 (fun e=>h1.2 (by rw[H];exact fb some e)),h1.2⟩
      ·have:x=G.length:=by omega
       subst this;rw[xv (zL0)];simp only[Nat.sub_self,List.getElem_cons_zero];rw[GX];have ax:(Value.slice R (jF (Lx.rowAt B j)).length I).ownBlock≠some t.heap.size:=fun e=>by have:=(hu.lt _ e).1;omega
       exact⟨jb (aD hu fun g H=>zS0 (fun e=>ax (by rw[H];exact fb some e))) (by omega),ax⟩
     have AJ:Kp (fun g=>g<W3.heap.size/\g≠t.heap.size) W3 (U.setCell ⟨t.heap.size,j,none⟩ (.slice R (jF (Lx.rowAt B j)).length I)):=⟨L.os.trans d.os,L.tape.trans d.tape,L.output.trans d.output,by have:=L.size;simp[World.setCell];omega,fun x f=>(zS0 f.2).trans ((L.block x (by omega)).trans (d.block x f))⟩;have aP:Hid ((G++[Value.slice R (jF (Lx.rowAt B j)).length I]).Pairwise fun a b=>∀g,a.ownBlock=some g->b.ownBlock≠some g):=pj.2 ⟨a9.out,mC _ _,fun a ha b hb g H e=>by
      rw[cN]at hb;subst hb;obtain⟨x,f,rfl⟩:=lA ha;have h1:=((AP x f).1.lt g H).2;have h2:=(hu.lt g e).1;omega⟩
     have b7:Hid _:=ao;have bd:Hid _:=a4;clear ao a4 AP hL am N cL o1;go_wp2_with fail;go_roundg (n - (j+1))
     case measure=>omega
     case rel=>exact⟨j+1,_,by omega,by go_num,by rw[cH,gd];omega,b7.out,bd.out,aP,AJ⟩
    ·have:j=n:=by omega
     subst this;have b9:B.length=j:=by rw[Lc.len];exact aw
     have a1:GV w.heap.size wr (.slice (some ⟨t.heap.size,0,none⟩) j j) (B.map jF):=by
      have co:G.length=(B.map jF).length:=by rw[dk];omega
      have bl:aj wr t.heap.size (vA G) 22:=by simpa using hL
      refine⟨G.zip (B.map jF),⟨List.map_snd_zip (by omega),?_,?_,?_⟩,?_⟩
      ·rw[List.map_fst_zip (by omega),dk,b9]
       refine⟨by rw[GX];simp,.inr ⟨t.heap.size,j,vA G,rfl,by omega,bl,zL0,by unfold maxLen;omega,by simp[vA,GX],?_⟩⟩;unfold vA;rw[j9,<-GX];exact fR
      ·intro q hq
       obtain⟨x,f,rfl⟩:=lA hq;rw[xi]at f;rw[wj,oS];have h1:=AP x (by omega);rw[FI (by omega)]at h1;exact h1.1
      ·intro q hq g H e
       obtain⟨x,f,rfl⟩:=lA hq;rw[xi]at f;rw[wj]at H;have e1:t.heap.size=g:=by simpa [Value.ownBlock]using e
       exact(AP x (by omega)).2 (by rw[e1];exact H)
      ·rw[me]
       intro x y f hy bD g H;rw[xi]at f hy;rw[wj]at H|-;exact me.1 a9.out x y (by omega) (by omega) bD g H
     have bj:Below w.heap.size w wr:=⟨d.os.trans (T.os.trans V.os),d.tape.trans (T.tape.trans V.tape),d.output.trans (T.output.trans V.output),by omega,fun x f=>(d.block x ⟨by omega,by omega⟩).trans ((T.block x (by omega)).trans (V.block x f))⟩;have bs:Hid _:=a1;clear a1 AP hL;go_wp2_with fail;go_ret;exact⟨_,B,m,rfl,HB.out,uh.out,bs.out,bj⟩
namespace Tb
def setAt{α:Type}(R:List (List α))(i k:Nat)(x:α):List (List α):=match R[i]? with
 |some r=>R.set i (r.set k x)
 |none=>R
theorem aja{α β:Type}(f:α->β)(R:List (List α)){i k:Nat}{x:α}{r:List α}(a:R[i]?=some r):(setAt R i k x).map (List.map f)=(R.map (List.map f)).set i ((r.map f).set k (f x)):=by
 rw[setAt,a];simp only;rw[oj,oj]
def gotos(nS nT nN:Nat)(es:List (Nat×Nat×Nat)):Nat->List (List Nat)
 |0=>List.replicate nS (List.replicate nN 0)
 |k+1=>match es[k]? with
  |some e=>if nT<=e.2.1 then setAt (gotos nS nT nN es k) e.1 (e.2.1-nT) e.2.2 else gotos nS nT nN es k
  |none=>gotos nS nT nN es k
theorem RP{α:Type}{R:List (List α)}{i k:Nat}{x:α}:(setAt R i k x).length=R.length:=by
 unfold setAt
 split <;> simp
theorem IU{α:Type}{R:List (List α)}{i k n:Nat}{x:α}(h:∀r∈R,r.length=n):∀r∈setAt R i k x,r.length=n:=by
 unfold setAt
 split
 ·rename_i b hr0
  intro r a;rcases mw a with a|rfl
  ·exact h r a
  ·rw[ii]
   exact h b (cJ hr0)
 ·exact h
theorem Nc(nS nT nN:Nat)(es:List (Nat×Nat×Nat)):∀k,(gotos nS nT nN es k).length=nS/\∀r∈gotos nS nT nN es k,r.length=nN
 |0=>⟨by simp[gotos],fun r a=>by rw[iu a,ik]⟩
 |k+1=>by
  have ih:=Nc nS nT nN es k;rw[gotos]
  split
  ·split
   ·exact⟨RP.trans ih.1,IU ih.2⟩
   ·exact ih
  ·exact ih
end Tb
theorem Mx.new(w1:World){b d:Nat}(n N:Nat)(c:b≠d):Mx w1 w1.heap.size w1.heap.size b d n N (w1.alloc (.cells (vA (List.replicate N (Value.slice none 0 0))) b)) [] [] :=
 ⟨aj.new ..,rfl,(fun i g r a=>by simp at a),mj,(fun g a=>by cases a),zL0,(cV _ _).alloc (zL0) _,c,ff _⟩
def Wq(w:World)(R:List (List Nat))(e:Ending)(w':World):Prop:=∃v,e=.returned v/\yw w' v R/\Below w.heap.size w w'
theorem agX{w:World}{ve vP vB vK:Value}{ta na:Option Addr}{nS nT nN tc nc:Nat}{es:List (Nat×Nat×Nat)}(he:lZ w ve es)(hS:nS<=100000)(B:nN<=100000)(hl:es.length<=1000000000)(L:∀e∈es,e.1<nS/\e.2.1<nT+nN):Calls prog 40 #[.int .i64 (nS:Int),ve,.agg #[.slice ta nT tc,.slice na nN nc,vP,vB,vK]] w (Wq w (Tb.gotos nS nT nN es es.length)):=by
 obtain⟨ea,ec,rfl,CZ⟩:=he;obtain⟨w1,z⟩:∃V,V=w.alloc (.cells #[.slice ta nT tc,.slice na nN nc,vP,vB,vK] 56):=⟨_,rfl⟩;obtain⟨F,X⟩:∃b,w.heap.size=b:=⟨_,rfl⟩;have k1:aj w1 F #[.slice ta nT tc,.slice na nN nc,vP,vB,vK] 56:=by rw[z,<-X];exact aj.new ..
 have t:Below w.heap.size w w1:=by rw[z];exact(cV _ _).alloc (zL0) _
 obtain⟨c,W⟩:∃b,w1.heap.size=b:=⟨_,rfl⟩;obtain⟨w2,J⟩:∃V,V=w1.alloc (.cells (vA (List.replicate nS (Value.slice none 0 0))) 22):=⟨_,rfl⟩;have R:Mx w1 c c 22 3 nN nS w2 [] []:=by rw[J,<-W];exact Mx.new w1 nN nS (by decide)
 have H:=fun w=>ZC (n:=nS) hS w
 have P:=fun w=>RH (n:=nN) B w
 have U:Hid (∀wr,Below c w1 wr->wr.cell? ⟨F,0,none⟩=some (.slice ta nT tc)/\wr.cell? ⟨F,1,none⟩=some (.slice na nN nc)/\F<c):=fun wr C=>by
  have A:F<c:=by rw[<-W];exact k1.lt
  have:aj wr F _ 56:=(C.block F A).trans k1;exact⟨this.cell 0,this.cell 1,A⟩
 have HE:Hid (∀wr,Below c w1 wr->∀(j:Nat)x,es[j]?=some x->∃g,ea=some ⟨g,0,none⟩/\wr.cell? ⟨g,j*3,none⟩=some (.int .i64 (x.1:Int))/\wr.cell? ⟨g,j*3+1,none⟩=some (.int .i64 (x.2.1:Int))/\wr.cell? ⟨g,j*3+2,none⟩=some (.int .i64 (x.2.2:Int))):=fun wr C j x L=>by
  rw[<-W]at C;obtain⟨g,e,h1,h2,h3⟩:=CZ j x L;exact⟨g,e,aM C (aM t h1),aM C (aM t h2),aM C (aM t h3)⟩
 have Z:Hid (∀wr,Below c w1 wr->Below w.heap.size w wr):=fun wr C=>t.trans (C.mono (by rw[<-W];exact t.size))
 have H0:Hid (∃a,a.length=0/\Mx w1 c c 22 3 nN nS w2 a (List.replicate 0 (dK (List.replicate nN 0)))):=⟨[],rfl,R⟩;clear CZ t R k1;go_enter func40,ntmps40;go_upto_region 1 with fail
 rw[<-z];clear z X;go_upto_region 2 with (simp only[H])
 rw[<-J];clear J;go_wp2_with fail
 go_loopw [15] (fun i wr=>∃j:Nat,j<=nS/\i=.int .i64 (j:Int)/\Hid (∃a,a.length=j/\Mx w1 c c 22 3 nN nS wr a (List.replicate j (dK (List.replicate nN 0))))) (fun i _=>nS - (intOf i).toNat)
 case atStart=>exact⟨0,by omega,rfl,H0⟩
 case round=>
  clear H0 W;obtain⟨j,hj,rfl,Q⟩:=hrel;obtain⟨a,f,m⟩:=Q.out;clear Q
  by_cases hjn:j<nS
  ·have j1:(j:Int)<(nS:Int):=by omega
   obtain⟨c0,c1,A⟩:=U.out wr m.b;have ab:wr.cell? ⟨c,j,none⟩=some (.slice none 0 0):=by
    rw[m.out.cell,ge,eN (by rw[dk];omega),dk,f,ib,jn,dj (by omega)]
   have dO:∀o,(wr.alloc o).cell? ⟨c,j,none⟩=some (.slice none 0 0):=fun o=>(cM (w:=wr) (dg _ _ _ m.out.lt)).trans ab
   have fO:∀o,(wr.alloc o).frozen? ⟨c,j,none⟩=false:=fun o=>(m.out.alloc o).frozen j
   have B:=m.push (by omega) (dK (List.replicate nN 0));rw[f]at B;have T:Hid (∃a,a.length=j+1/\Mx w1 c c 22 3 nN nS ((wr.alloc (.cells (eU (List.replicate nN 0)) 3)).setCell ⟨c,j,none⟩ (.slice (some ⟨wr.heap.size,0,none⟩) nN nN)) a (List.replicate (j+1) (dK (List.replicate nN 0)))):=⟨a++[wr.heap.size],by rw[cH,f];rfl,by rw[List.replicate_succ'];exact B⟩;clear m B U HE Z f L H
   go_wp2_with (simp only[P])
   exact⟨⟨j+1,by omega,by go_num,T⟩,by simp[intOf];omega⟩
  ·obtain rfl:j=nS:=by omega
   have H1:Hid (∃a,a.length=j/\Mx w1 c c 22 3 nN j wr a ((Tb.gotos j nT nN es 0).map dK)):=⟨a,f,by rw[Tb.gotos,List.map_replicate];exact m⟩;clear m f H P;go_wp2_with fail
   go_loopw [28] (fun i wr=>∃k:Nat,k<=es.length/\i=.int .i64 (k:Int)/\Hid (∃a,a.length=j/\Mx w1 c c 22 3 nN j wr a ((Tb.gotos j nT nN es k).map dK))) (fun i _=>es.length - (intOf i).toNat)
   case atStart=>exact⟨0,by omega,rfl,H1⟩
   case round=>
    clear H1;revert wr;intro M hrel;obtain⟨k,hk,rfl,Q⟩:=hrel;obtain⟨a,f,m⟩:=Q.out;clear Q
    by_cases hkn:k<es.length
    ·have j1:(k:Int)<(es.length:Int):=by omega
     obtain⟨x,hxk⟩:∃x,es[k]?=some x:=⟨_,cF hkn⟩;obtain⟨g,rfl,c1,c2,c3⟩:=HE.out M m.b k x hxk;have I:=L x (cJ hxk);have p:Tb.gotos j nT nN es (k+1)=if nT<=x.2.1 then Tb.setAt (Tb.gotos j nT nN es k) x.1 (x.2.1-nT) x.2.2 else Tb.gotos j nT nN es k:=by rw[Tb.gotos,hxk]
     obtain⟨v,E,D⟩:=x;simp only at c1 c2 c3 I p;obtain⟨S,N⟩:=Tb.Nc j nT nN es k;obtain⟨y,O⟩:∃V,V=M.alloc (.cells #[.int .i64 (v:Int),.int .i64 (E:Int),.int .i64 (D:Int)] 173):=⟨_,rfl⟩;obtain⟨bx,G⟩:∃b,M.heap.size=b:=⟨_,rfl⟩;have Y:aj y bx #[.int .i64 (v:Int),.int .i64 (E:Int),.int .i64 (D:Int)] 173:=by rw[O,<-G];exact aj.new ..
     have l:Mx w1 c c 22 3 nN j y a ((Tb.gotos j nT nN es k).map dK):=m.move (by rw[O];exact(cV _ _).alloc (zL0) _);obtain⟨c0,-,A⟩:=U.out y l.b;have x1:y.cell? ⟨bx,0,none⟩=some (.int .i64 (v:Int)):=Y.cell 0;have x2:y.cell? ⟨bx,1,none⟩=some (.int .i64 (E:Int)):=Y.cell 1;have x3:y.cell? ⟨bx,2,none⟩=some (.int .i64 (D:Int)):=Y.cell 2;clear m Y HE Z U L
     by_cases hn:nT<=E
     ·have b1:decide ((nT:Int)<=(E:Int))=true:=fi (by omega)
      rw[dj hn]at p;obtain⟨gi,u⟩:∃g,a[v]?=some g:=⟨_,cF (by omega)⟩;obtain⟨r,hr⟩:∃r,(Tb.gotos j nT nN es k)[v]?=some r:=⟨_,cF (by omega)⟩;have aa:=N r (cJ hr);have K:((Tb.gotos j nT nN es k).map dK)[v]?=some (dK r):=by rw[di,hr];rfl
      obtain⟨d,hd⟩:∃d,E-nT=d:=⟨_,rfl⟩;have e1:(E:Int) - (nT:Int)=(d:Int):=by omega
      have e2:IntKind.i64.wrap (d:Int)=(d:Int):=by rw[iz];omega
      obtain⟨q,hq⟩:∃q,r[d]?=some q:=⟨_,cF (by omega)⟩;have o1:=l.Cm u;have o2:y.cell? ⟨gi,d,none⟩=some (.int .i64 (q:Int)):=by rw[l.EH u K,dK,di,hq];rfl
      have o3:=l.frozen u d;have B:=l.set (k:=d) u K (.int .i64 (D:Int));have T:Hid (∃a,a.length=j/\Mx w1 c c 22 3 nN j (y.setCell ⟨gi,d,none⟩ (.int .i64 (D:Int))).drew a ((Tb.gotos j nT nN es (k+1)).map dK)):=⟨a,f,by
       rw[p,hd];have:=Tb.aja (fun(s:Nat)=>Value.int .i64 (s:Int)) (Tb.gotos j nT nN es k) (k:=d) (x:=D) hr;have e:(Tb.setAt (Tb.gotos j nT nN es k) v d D).map dK=((Tb.gotos j nT nN es k).map dK).set v ((dK r).set d (.int .i64 (D:Int))):=this;rw[e];exact B.move ⟨rfl,rfl,rfl,zL0,fun _ _=>rfl⟩⟩
      have d0:(0:Int)<=(v:Int):=by omega
      have d1:(v:Int)<(j:Int):=by omega
      have d2:(0:Int)<=(d:Int):=by omega
      have d3:(d:Int)<(nN:Int):=by omega
      clear B l f p S N hr K hq u aa hn hd I;go_upto_region 10 with fail
      rw[<-O];clear O G;go_upto_region 11 with fail
      go_region
      go_wp2_with fail;exact⟨⟨k+1,by omega,by go_num,T⟩,by simp[intOf];omega⟩
     ·have b1:decide ((nT:Int)<=(E:Int))=false:=eE (by omega)
      rw[dt hn]at p;have T:Hid (∃a,a.length=j/\Mx w1 c c 22 3 nN j y a ((Tb.gotos j nT nN es (k+1)).map dK)):=⟨a,f,by rw[p];exact l⟩;clear l f p S N I;go_upto_region 10 with fail
      rw[<-O];clear O G;go_wp2_with fail;exact⟨⟨k+1,by omega,by go_num,T⟩,by simp[intOf];omega⟩
    ·obtain rfl:k=es.length:=by omega
     obtain⟨S,N⟩:=Tb.Nc j nT nN es es.length;have HR:Hid (Wq w (Tb.gotos j nT nN es es.length) (.returned (.slice (some ⟨c,0,none⟩) j j)) M):=⟨_,rfl,m.rows f S N fun i g r k x hg hr L=>by
      show M.cell? _=_;rw[j9,m.EH hg (by rw[di,hr];rfl),dK,di,L];rfl,Z.out M m.b⟩
     clear m f S N HE Z U;go_wp2_with fail;go_ret;exact HR.out
namespace Tb
def nQ:Nat×List Nat->Nat×Nat
 | (s,[])=>if s=0 then (0,0) else (1,s)
 | (s,p::_)=>if p=0 then (3,0) else if s=0 then (2,p) else (1,s)
def lone(x:Nat×List Nat):Bool:=decide (x.2.length<=1) && (decide (x.1=0) || decide (x.2.length=0))
end Tb
def Le(w:World)(g o:Nat)(x:Nat×List Nat):Prop:=w.cell? ⟨g,o,none⟩=some (.int .i64 (x.1:Int))/\∃v,w.cell? ⟨g,o+1,none⟩=some v/\bQ w v x.2
theorem Le.keep{w w':World}(a:Below w.heap.size w w'){g o:Nat}{x:Nat×List Nat}(h:Le w g o x):Le w' g o x:=by
 obtain⟨h1,v,h2,h3⟩:=h;exact⟨aM a h1,v,aM a h2,h3.keep a⟩
theorem ahS{w:World}{s n pc:Nat}{pa:Option Addr}(h1:n<=1)(h2:s=0\/n=0):Calls prog 104 #[.agg #[.int .i64 (s:Int),.slice pa n pc]] w fun e w'=>e=.returned (.bool false)/\Below w.heap.size w w':=by
 have a:Below w.heap.size w (w.alloc (.cells #[.int .i64 (s:Int),.slice pa n pc] 166)):=(cV _ _).alloc (zL0) _;have d:decide ((1:Int)<(n:Int))=false:=eE (by omega);have b:¬1<n:=by omega
 by_cases hs:s=0
 ·have c:((s:Int) != 0)=false:=by simp[hs]
  have g:Hid (s=0):=hs;clear hs h2;go_enter func104,ntmps104;go_wp2_with fail;go_ret;exact⟨rfl,a⟩
 ·have c:((s:Int) != 0)=true:=by simp;omega
  have i:((n:Int) == 1)=false:=zB0 (by omega);have f:¬(n:Int)=1:=by omega
  clear hs h2 h1;go_enter func104,ntmps104;go_wp2_with fail;go_ret;exact⟨rfl,a⟩
theorem Yo{w:World}{s:Nat}{v:Value}{f:List Nat}(h:bQ w v f):Calls prog 105 #[.agg #[.int .i64 (s:Int),v]] w fun e w'=>e=.returned (.agg #[.int .i64 ((Tb.nQ (s,f)).1:Int),.int .i64 ((Tb.nQ (s,f)).2:Int)])/\Below w.heap.size w w':=by
 obtain⟨o,m,rfl,t⟩:=h;obtain⟨w2,a⟩:∃V,V=(w.alloc (.cells #[.int .i64 (s:Int),.slice o f.length m] 166)).alloc (.cells #[.int .i64 0,.int .i64 0] 42):=⟨_,rfl⟩;obtain⟨d,c⟩:∃b,w.heap.size=b:=⟨_,rfl⟩;have j:Below w.heap.size w w2:=by rw[a];exact((cV _ _).alloc (zL0) _).alloc (by simp) _
 have kC:aj w2 d #[.int .i64 (s:Int),.slice o f.length m] 166:=by rw[a,<-c];exact(aj.new ..).alloc _
 have kR:aj w2 (d+1) #[.int .i64 0,.int .i64 0] 42:=by
  rw[a,<-c];have:=aj.new (w.alloc (.cells #[.int .i64 (s:Int),.slice o f.length m] 166)) #[.int .i64 0,.int .i64 0] 42
  rwa [fd]at this
 have F:w2.cell? ⟨d,0,none⟩=some (.int .i64 (s:Int)):=kC.cell 0;have A:w2.cell? ⟨d,1,none⟩=some (.slice o f.length m):=kC.cell 1;have G:w2.cell? ⟨d+1,0,none⟩=some (.int .i64 0):=kR.cell 0;have H:w2.cell? ⟨d+1,1,none⟩=some (.int .i64 0):=kR.cell 1;have I:∀i,w2.frozen? ⟨d+1,i,none⟩=false:=kR.frozen;have l:Hid (∀(x y:Nat)tmps,tmps.getD 2 undef=.pointer (some ⟨d+1,0,none⟩)->Tb.nQ (s,f)=(x,y)->bodyPost prog Tryz.f105 (fun e w'=>e=.returned (.agg #[.int .i64 ((Tb.nQ (s,f)).1:Int),.int .i64 ((Tb.nQ (s,f)).2:Int)])/\Below w.heap.size w w') .ret { tmps,defers:=[] } ((w2.setCell ⟨d+1,0,none⟩ (.int .i64 (x:Int))).setCell ⟨d+1,1,none⟩ (.int .i64 (y:Int)))):=fun x y tmps D e=>by
  rw[e];exact pR rfl D ((kR.set 0 _).set 1 _) (by kernel_rfl) (by kernel_rfl) ⟨rfl,(j.setCell (p:=⟨d+1,0,none⟩) (by rw[c];show d<=d+1;omega) _).setCell (p:=⟨d+1,1,none⟩) (by rw[c];show d<=d+1;omega) _⟩
 cases f with
 |nil=>
  rw[jt]at A a|-;clear t j kC kR
  by_cases hs:s=0
  ·have r:((s:Int) != 0)=false:=by simp[hs]
   have k:Hid (Tb.nQ (s,[])=(0,0)):=dj hs;clear hs;go_enter func105,ntmps105;go_upto_region 1 with fail
   rw[<-a];clear a c;go_wp2_with fail;exact l.out 0 0 _ rfl k.out
  ·have r:((s:Int) != 0)=true:=by simp;omega
   have k:Hid (Tb.nQ (s,[])=(1,s)):=dt hs;clear hs;go_enter func105,ntmps105;go_upto_region 1 with fail
   rw[<-a];clear a c;go_wp2_with fail;exact l.out 1 s _ rfl k.out
 |cons p tl=>
  obtain⟨g,rfl,q⟩:=t 0 p rfl;unfold iQ at q;rw[pZ]at q;have E:=aM j q;clear t j kC kR q;have z:(0:Int)<((p::tl).length:Int):=by rw[ev];omega
  have B:decide ((0:Int)<((p::tl).length:Int))=true:=fi z;obtain⟨n,u⟩:∃n,(p::tl).length=n:=⟨_,rfl⟩;rw[u]at z B A a|-;clear u
  by_cases hp0:p=0
  ·have C:((p:Int) == 0)=true:=by simp[hp0]
   have k:Hid (Tb.nQ (s,p::tl)=(3,0)):=dj hp0;clear hp0;go_enter func105,ntmps105;go_upto_region 1 with fail
   rw[<-a];clear a c;go_wp2_with fail;exact l.out 3 0 _ rfl k.out
  ·have C:((p:Int) == 0)=false:=zB0 (by omega)
   by_cases hs:s=0
   ·have r:((s:Int) != 0)=false:=by simp[hs]
    have k:Hid (Tb.nQ (s,p::tl)=(2,p)):=(dt hp0).trans (dj hs);clear hs hp0;go_enter func105,ntmps105;go_upto_region 1 with fail
    rw[<-a];clear a c;go_wp2_with fail;exact l.out 2 p _ rfl k.out
   ·have r:((s:Int) != 0)=true:=by simp;omega
    have k:Hid (Tb.nQ (s,p::tl)=(1,s)):=(dt hp0).trans (dt hs);clear hs hp0;go_enter func105,ntmps105;go_upto_region 1 with fail
    rw[<-a];clear a c;go_wp2_with fail;exact l.out 1 s _ rfl k.out
theorem ahT{w:World}{J:Value}{st K:Int}{s:Nat}{v:Value}{c:List Nat}(h:bQ w v c)(t:Tb.lone (s,c)=true):Calls prog 67 #[J,.int .i64 st,.int .i64 K,.agg #[.int .i64 (s:Int),v]] w fun e w'=>e=.returned (.agg #[.int .i64 ((Tb.nQ (s,c)).1:Int),.int .i64 ((Tb.nQ (s,c)).2:Int)])/\Below w.heap.size w w':=by
 obtain⟨pa,pc,rfl,H⟩:=h;have h:bQ w (.slice pa c.length pc) c:=⟨pa,pc,rfl,H⟩;clear H;unfold Tb.lone at t;simp only[Bool.and_eq_true,Bool.or_eq_true,decide_eq_true_eq]at t;obtain⟨w2,f⟩:∃V,V=(w.alloc (.cells #[.int .i64 (s:Int),.slice pa c.length pc] 166)).alloc (.cells #[.int .i64 0,.int .i64 0] 42):=⟨_,rfl⟩;obtain⟨a,k⟩:∃b,w.heap.size=b:=⟨_,rfl⟩;have j:Below w.heap.size w w2:=by rw[f];exact((cV _ _).alloc (zL0) _).alloc (by simp) _
 have kC:aj w2 a #[.int .i64 (s:Int),.slice pa c.length pc] 166:=by rw[f,<-k];exact(aj.new ..).alloc _
 have kR:aj w2 (a+1) #[.int .i64 0,.int .i64 0] 42:=by
  rw[f,<-k];have:=aj.new (w.alloc (.cells #[.int .i64 (s:Int),.slice pa c.length pc] 166)) #[.int .i64 0,.int .i64 0] 42
  rwa [fd]at this
 have E:w2.cell? ⟨a,0,none⟩=some (.int .i64 (s:Int)):=kC.cell 0;have I:w2.cell? ⟨a,1,none⟩=some (.slice pa c.length pc):=kC.cell 1;have D:=ahS (w:=w2) (s:=s) (n:=c.length) (pa:=pa) (pc:=pc) t.1 t.2;have G:Hid (∀d,Below w2.heap.size w2 d->d.cell? ⟨a,0,none⟩=some (.int .i64 (s:Int))/\d.cell? ⟨a,1,none⟩=some (.slice pa c.length pc)/\aj d (a+1) #[.int .i64 0,.int .i64 0] 42/\bQ d (.slice pa c.length pc) c/\Below w.heap.size w d):=fun d m=>⟨aM m E,aM m I,(m.block _ kR.lt).trans kR,(h.keep j).keep m,j.trans (m.mono j.size)⟩
 obtain⟨x,y,o⟩:∃x y,Tb.nQ (s,c)=(x,y):=⟨_,_,rfl⟩;rw[o];have C:Hid (Tb.nQ (s,c)=(x,y)):=o;have q:Hid (w.heap.size=a):=k;clear o h j kC kR t;go_enter func67,ntmps67;go_upto_region 1 with fail
 rw[<-f];clear f k;go_upto_region 2 with (go_at_call 104;refine D.mono ?_;rintro e d⟨rfl,r⟩)
 obtain⟨Q,N,B,u,g⟩:=G.out d r;have F:=Yo (s:=s) u;rw[C.out]at F;have L:Hid (∀l,Below d.heap.size d l->aj l (a+1) #[.int .i64 0,.int .i64 0] 42/\Below w.heap.size w l):=fun l m=>⟨(m.block _ B.lt).trans B,g.trans (m.mono g.size)⟩
 clear G r D E I B u g
 go_wp2_with (go_at_call 105;refine F.mono ?_;rintro e l⟨rfl,A⟩;obtain⟨z,g⟩:=L.out l A;have O:l.cell? ⟨a+1,0,none⟩=some (.int .i64 0):=z.cell 0;have M:l.cell? ⟨a+1,1,none⟩=some (.int .i64 0):=z.cell 1;have P:∀i,l.frozen? ⟨a+1,i,none⟩=false:=z.frozen)
 exact pR rfl rfl ((z.set 0 _).set 1 _) (by kernel_rfl) (by kernel_rfl) ⟨rfl,(g.setCell (p:=⟨a+1,0,none⟩) (by rw[q.out];show a<=a+1;omega) _).setCell (p:=⟨a+1,1,none⟩) (by rw[q.out];show a<=a+1;omega) _⟩
theorem Tryz.al5:(prog.info? 121).map (fun i=>(i.zero,i.size,i.bytes))=some (some (.slice none 0 0),1,24):=by kernel_rfl
theorem Tryz.amV:(prog.info? 42).map (fun i=>(i.zero,i.size,i.bytes))=some (some (.agg #[.int .i64 0,.int .i64 0]),2,16):=by kernel_rfl
theorem RQ(n:Nat):madeCells #[.slice none 0 0] (n*1)=vA (List.replicate n (Value.slice none 0 0)):=by
 unfold madeCells vA;apply qe
 ·simp
 ·intro i h1 h2
  simp[Nat.mod_one]
theorem akx(n:Nat):(List.replicate n ((0,0):Nat×Nat)).flatMap eX=List.replicate (n*2) (.int .i64 0):=by
 induction n with
 |zero=>rfl
 |succ n ih=>
  rw[nh,eh,ih,show (n+1)*2=n*2+1+1 by omega];rfl
theorem afK{n:Nat}(g:n<=100000)(w:World):(Instr.makeSlice 48 (.int .i64 (n:Int)) (.int .i64 (n:Int))).run prog w=.ok (.slice (some ⟨w.heap.size,0,none⟩) n n) (w.alloc (.cells (vA (List.replicate n (Value.slice none 0 0))) 121)):=by
 obtain⟨f,d,b,c,a⟩:=ft Tryz.al5;have h:=pA (P:=prog) w 48 121 f _ (by kernel_rfl) d b .i64 .i64 (n:Int) (n:Int) (by omega) (nF _) (by rw[a];omega) (by omega);rw[h,im,c];have e:Value.cells (.slice none 0 0)=#[.slice none 0 0]:=rfl;rw[e,RQ]
theorem ahU{n:Nat}(j:n<=100000)(w:World):(Instr.makeSlice 121 (.int .i64 (n:Int)) (.int .i64 (n:Int))).run prog w=.ok (.slice (some ⟨w.heap.size,0,none⟩) n n) (w.alloc (.cells ((List.replicate n ((0,0):Nat×Nat)).flatMap eX).toArray 42)):=by
 obtain⟨f,d,b,c,a⟩:=ft Tryz.amV;have h:=pA (P:=prog) w 121 42 f _ (by kernel_rfl) d b .i64 .i64 (n:Int) (n:Int) (by omega) (nF _) (by rw[a];omega) (by omega);rw[h,im,c,akx];have e:Value.cells (.agg #[.int .i64 0,.int .i64 0])=#[.int .i64 0,.int .i64 0]:=rfl;rw[e];have g:madeCells #[.int .i64 0,.int .i64 0] (n*2)=(List.replicate (n*2) (Value.int .i64 0)).toArray:=by
  unfold madeCells;apply qe
  ·simp
  ·intro i h1 h2
   have:i % 2=0\/i % 2=1:=by omega
   rcases this with e|e <;> simp[e]
 rw[g]
theorem YR:∀(l:List (Nat×Nat))(k:Nat)(x:Nat×Nat),((l.flatMap eX).set (k*2) (.int .i64 (x.1:Int))).set (k*2+1) (.int .i64 (x.2:Int))=(l.set k x).flatMap eX
 | [],k,x=>rfl
 |y::l,0,x=>rfl
 |y::l,k+1,x=>by
  rw[oi,eh,eh,<-YR l k x,show (k+1)*2=k*2+1+1 by omega];rfl
structure qm(c:aZ)(W:World)(S:bL)(W':World)(S':bL):Prop where
 bK:∀k,k<W.heap.size->¬S.own c k->W'.heap[k]?=W.heap[k]?
 new:∀k,S'.own c k->S.own c k\/W.heap.size<=k
 bX:W.heap.size<=W'.heap.size
 fr:W'.os=W.os/\W'.tape=W.tape/\W'.output=W.output
structure bn(c:aZ)(w0:World)(F:Nat->Prop)(B:Nat)(W:World)(S:bL)(W':World)(S':bL):Prop where
 m:jT c w0 F B W' S'
 x:qm c W S W' S'
section
variable{c:aZ}{w0:World}{F:Nat -> Prop}{B:Nat}{W W1 W2:World}{S S1 S2:bL}{mp:List (Nat×Nat)}
theorem qm.trans(h:qm c W S W1 S1)(k:qm c W1 S1 W2 S2):qm c W S W2 S2 where
 bK x hx hn:=by
  have h1:¬S1.own c x:=fun e=>by
   rcases h.new x e with e|e
   ·exact hn e
   ·omega
  exact(k.bK x (dd hx h.bX) h1).trans (h.bK x hx hn)
 new x hx:=by
  rcases k.new x hx with e|e
  ·exact h.new x e
  ·exact .inr (de h.bX e)
 bX:=de h.bX k.bX
 fr:=⟨k.fr.1.trans h.fr.1,k.fr.2.1.trans h.fr.2.1,k.fr.2.2.trans h.fr.2.2⟩
theorem bn.trans(h:bn c w0 F B W S W1 S1)(k:bn c w0 F B W1 S1 W2 S2):bn c w0 F B W S W2 S2:=⟨k.m,h.x.trans k.x⟩
theorem bn.refl(h:jT c w0 F B W S):bn c w0 F B W S W S:=⟨h,fun _ _ _=>rfl,fun _ e=>.inl e,zL0,rfl,rfl,rfl⟩
theorem nA(W:World){g k:Nat}(i:Nat)(u:Value)(h:k≠g):(W.setCell ⟨g,i,none⟩ u).heap[k]?=W.heap[k]?:=zS0 h
theorem bn.move(h:jT c w0 F B W S)(b:∀k,k<W.heap.size->W1.heap[k]?=W.heap[k]?)(g:mY c w0 F B)(d:W.heap.size<=W1.heap.size)(f:W1.os=W.os/\W1.tape=W.tape/\W1.output=W.output):bn c w0 F B W S W1 S :=
 ⟨h.move (fun k e=>b k (e.elim (fun e=>h.yU e) (fun e=>dd (g.low k e).1 h.big))) d,⟨fun k a _=>b k a,fun _ e=>.inl e,d,f⟩⟩
theorem jT.setW(f:mY c w0 F B)(h:jT c w0 F B W S){g:Nat}(a:S.vW.ownBlock=some g)(p:Nat)(b:Bool):bn c w0 F B W S (W.setCell ⟨g,p,none⟩ (.bool b)) { S with ws:=S.ws.set p b }:=by
 have kg:=h.kW a;have ne:∀{k t:Nat},pI W k t->t≠4->(W.setCell ⟨g,p,none⟩ (.bool b)).heap[k]?=W.heap[k]?:=fun hk d=>nA W p _ (hk.ne kg d)
 have hsz:(W.setCell ⟨g,p,none⟩ (.bool b)).heap.size=W.heap.size:=by simp
 refine⟨⟨⟨fun k hk=>?_,(ne h.kL (by decide)).trans h.blk,aD h.rS fun k hk=>ne (h.kS hk) (by decide),aD h.rA fun k hk=>ne (h.kA hk) (by decide),h.rQ.move fun k hk=>ne (h.kQ hk) (by decide),?_,h.map.move (nA W p _ (h.J5 kg).symm),fun i k hk=>?_,h.qj,by rw[hsz];exact h.big⟩,h.lg,h.ls,by simpa using h.lw⟩,fun k _ j=>nA W p _ (fun e=>j (e▸.inr (.inr (.inr (.inr (.inr (.inl a))))))),fun k e=>.inl e,by omega,rfl,rfl,rfl⟩
 ·exact(nA W p _ (fun e=>by have:=(f.low k hk).1;have:=(h.rW.lt g a).1;omega)).trans (h.keep k hk)
 ·have:=Jf h.rW a p (.bool b)
  rw[<-oj]at this;simpa using this
 ·obtain⟨h1,ws,h2,h3,h4⟩:=h.sets i k hk
  exact⟨h1,ws,h2,h3.move (ne (h.kG (cJ hk)) (by decide)),h4⟩
theorem dh.but(l:mY c w0 F B)(h:dh c w0 F B W S mp){v:Value}{t:Nat}(d:∀g,v.ownBlock=some g->pI W g t/\B<=g)(j:W.grownBy W1 v.ownBlock):(∀b,F b->W1.heap[b]?=w0.heap[b]?)/\(∀{k u:Nat},pI W k u->u≠t->W1.heap[k]?=W.heap[k]?)/\iy bE W1 c.pm mp:=by
 have f:∀k,k<W.heap.size->(∀g,v.ownBlock=some g->k≠g)->W1.heap[k]?=W.heap[k]?:=fun k a i=>j.block k a fun e=>i k e.symm rfl
 refine⟨fun k a=>?_,fun a o=>f _ (by obtain⟨y,n⟩:=a;exact(ek.1 n).1) fun g e=>a.ne (d g e).1 o,h.map.move (f _ h.map.lt fun g e=>(h.J5 (d g e).1).symm)⟩;have m:=l.low k a;exact(f k (dd m.1 h.big) fun g e=>by have:=(d g e).2;omega).trans (h.keep k a)
theorem dh.stored(r:mY c w0 F B){i:Nat}{u:Value}(kp:∀b,F b->W1.heap[b]?=w0.heap[b]?)(p:aj W1 c.lb (c.cells S) 153)(x:(c.cells S).setIfInBounds i u=c.cells S1)
  (s:W1.ownsRow B 212 2 S1.vS S1.st.length (S1.st.flatMap zF)) (D:W1.ownsRow B 214 1 S1.vA S1.gs.length (S1.gs.map (gX c.nw))) (q:lU B W1 S1.vQ S1.wq) (C:W1.ownsRow B 4 1 S1.vW S1.ws.length (S1.ws.map Value.bool)) (d:iy bE W1 c.pm mp) (A:∀(i g:Nat),S1.gs[i]?=some g->B<=g/\∃ws,S1.ss[i]?=some ws/\TS W1 g ws/\ws.length=c.nw) (t:S1.gs.Nodup) (y:B<=W1.heap.size):dh c w0 F B (W1.setCell ⟨c.lb,i,none⟩ u) S1 mp:=by
 have ne:∀{k:Nat},k≠c.lb->(W1.setCell ⟨c.lb,i,none⟩ u).heap[k]?=W1.heap[k]?:=fun a=>nA W1 i u a
 have l:∀{k:Nat},B<=k->k≠c.lb:=fun a e=>by have:=r.lb;omega
 have m:∀{e z n:Nat}{v:Value}{xs:List Value}(_:W1.ownsRow B e z v n xs),(W1.setCell ⟨c.lb,i,none⟩ u).ownsRow B e z v n xs:=fun o=>aD o fun g f=>ne (l (o.lt g f).1)
 refine⟨fun k a=>(ne (r.low k a).2.1).trans (kp k a),?_,m s,m D,q.move fun g f=>ne (l (q.lt g f).1),m C,d.move (ne fun e=>?_),fun j k a=>?_,t,by simpa using y⟩
 ·have:=p.set i u
  rwa [x]at this
 ·obtain⟨E,G,h1,-⟩:=d
  have:=p;unfold aj at this;rw[e]at h1;rw[h1]at this;cases this
 ·obtain⟨h1,ws,h2,h3,h4⟩:=A j k a
  exact⟨h1,ws,h2,h3.move (ne (l h1)),h4⟩
theorem qm.stored{v u:Value}{i:Nat}(f:∀g,v.ownBlock=some g->S.own c g)(a:W.grownBy W1 v.ownBlock)(j:∀k,S1.own c k->S.own c k\/W.heap.size<=k):qm c W S (W1.setCell ⟨c.lb,i,none⟩ u) S1 :=
 ⟨fun k d b=>(nA W1 i u (fun e=>b (.inl e))).trans (a.block k d fun e=>b (f k e.symm)),j,by simpa using a.size,a.1,a.2,a.3⟩
end
structure Waits(S:bL)(p:Nat)(S':bL):Prop where
 st:S'.st=S.st
 gs:S'.gs=S.gs
 ss:S'.ss=S.ss
 ws:S'.ws=S.ws.set p true
 wq:(S.ws[p]?=some true/\S'.wq=S.wq)\/(S.ws[p]?=some false/\S'.wq=S.wq++[p])
theorem I5{W:World}{B e:Nat}{v:Value}{n:Nat}{c:List Value}(h:W.ownsRow B e 1 v n c){p:Nat}{u:Value}(a:c[p]?=some u):∃g cap,v=.slice (some ⟨g,0,none⟩) n cap/\v.ownBlock=some g/\W.cell? ⟨g,p,none⟩=some u/\(∀i,W.frozen? ⟨g,i,none⟩=false)/\n<=maxLen:=by
 obtain⟨l,h⟩:=h;have f:=(cG.1 a).1;rcases h with ⟨-,k⟩|⟨g,cap,b,rfl,j,d,h1,h2,h3,h4⟩
 ·omega
 ·refine⟨g,cap,rfl,rfl,?_,fun i=>by simp[World.frozen?,d],by omega⟩
  have:b[p]?=some u:=by
   rw[<-h4,xT (by omega)]at a;simpa using a
  simpa [World.cell?,d]using this
theorem abw{c:aZ}{w0:World}{F:Nat->Prop}{B:Nat}{W:World}{S:bL}(C:mY c w0 F B)(h:jT c w0 F B W S){p:Nat}(K:p<S.st.length)(X:S.wq.length+1<=1000000):Calls prog 98 #[.pointer (some ⟨c.lb,0,none⟩),.int .i64 (p:Int)] W fun e W'=>e=.returned (.tuple #[])/\∃S',bn c w0 F B W S W' S'/\Waits S p S':=by
 obtain⟨i0,hi,E,G,z⟩:=ft Tryz.info3;obtain⟨b,r⟩:∃b,S.ws[p]?=some b:=⟨_,cF (by rw[h.lw];exact K)⟩;obtain⟨n,H,V,I,cw,T,Q⟩:=I5 h.rW (p:=p) (u:=.bool b) (by rw[di,r];rfl);have PU:W.cell? ⟨c.lb,12,none⟩=some (.slice (some ⟨n,0,none⟩) S.ws.length H):=by rw[<-V];exact h.blk.cell 12
 have fp:=T p;have j1:(0:Int)<=(p:Int):=by omega
 have j2:(p:Int)<(S.ws.length:Int):=by rw[h.lw];omega
 have s:=h.setW C I p true;have Z:Hid (bn c w0 F B W S W S):=bn.refl h;cases b with
 |true=>
  have e:S.ws.set p true=S.ws:=by
   apply oy;intro i;rw[fx]
   split
   ·rename_i e;subst e;rw[r];simp[h.lw,K]
   ·rfl
  clear s;go_enter func98,ntmps98;go_wp2_with fail
  go_end0
  exact⟨rfl,S,Z.out,rfl,rfl,rfl,e.symm,.inl ⟨r,rfl⟩⟩
 |false=>
  have aa:c.lb≠n:=h.kL.ne (h.kW I) (by decide);have GZ:(W.setCell ⟨n,p,none⟩ (.bool true)).cell? ⟨c.lb,11,none⟩=some S.vQ:=s.m.blk.cell 11;have a:Hid (bn c w0 F B W S (W.setCell ⟨n,p,none⟩ (.bool true)) { S with ws:=S.ws.set p true }):=s;clear s;go_enter func98,ntmps98;go_upto_region 2 with fail
  generalize W.setCell ⟨n,p,none⟩ (.bool true)=W1 at GZ a|-;have M:lU B (W1.alloc (.cells #[.int .i64 (p:Int)] 3)) S.vQ S.wq:=a.out.m.rQ.move fun g q=>dg _ _ _ (a.out.m.rQ.lt g q).2
  have A:B<=(W1.alloc (.cells #[.int .i64 (p:Int)] 3)).heap.size:=by have:=a.out.m.big;simp;omega
  have j:(W1.alloc (.cells #[.int .i64 (p:Int)] 3)).cell? ((⟨W1.heap.size,0,none⟩:Addr).add 0)=some (.int .i64 (p:Int)):=by
   rw[ww];exact(aj.new W1 #[.int .i64 (p:Int)] 3).cell 0
  have o:aj (W1.alloc (.cells #[.int .i64 (p:Int)] 3)) c.lb (c.cells { S with ws:=S.ws.set p true }) 153:=a.out.m.blk.alloc _;have D:S.vQ.ownBlock≠some c.lb:=fun e=>(a.out.m.kQ e).ne a.out.m.kL (by decide) rfl
  go_wp2_with (at_builtin;refine afo rfl _ _ 22 rfl underlying22 hi E G z _ S.wq rfl M A ⟨W1.heap.size,0,none⟩ 1 p rfl j X ?_;intro v' y x q l;obtain⟨Y,vc,rfl⟩:=x.form;have J:aj y c.lb (c.cells { S with ws:=S.ws.set p true }) 153:=(q.block _ o.lt (fun e=>D e.symm)).trans o;have N:=J.frozen 11;have O:y.cell? ⟨c.lb,11,none⟩=some S.vQ:=J.cell 11)
  go_end0
  refine⟨rfl,{ S with vQ:=.slice Y (S.wq.length+1) vc,wq:=S.wq++[p],ws:=S.ws.set p true },a.out.trans ?_,rfl,rfl,rfl,rfl,.inr ⟨r,rfl⟩⟩;have d:=a.out.m;rw[cH,gd]at x l;have f:W1.grownBy y S.vQ.ownBlock:=aR (bJ W1 _ _) q;obtain⟨kF,kp,L⟩:=d.todh.but C (v:=S.vQ) (t:=3) (fun g e=>⟨d.kQ e,(d.rQ.lt g e).1⟩) f;refine⟨⟨dh.stored C kF ((kp d.kL (by decide)).trans d.blk) rfl (aD d.rS fun g e=>kp (d.kS e) (by decide)) (aD d.rA fun g e=>kp (d.kA e) (by decide)) x (aD d.rW fun g e=>kp (d.kW e) (by decide)) L (fun i g hi=>?_) d.qj (de d.big f.size),d.lg,d.ls,d.lw⟩,qm.stored (v:=S.vQ) (fun g e=>.inr (.inr (.inr (.inr (.inl e))))) f fun k e=>?_⟩
  ·obtain⟨P,ws,R,U,a4⟩:=d.sets i g hi
   exact⟨P,ws,R,U.move (kp (d.kG (cJ hi)) (by decide)),a4⟩
  rcases e with e|e|e|e|e|e|e
  ·exact .inl (.inl e)
  ·exact .inl (.inr (.inl e))
  ·exact .inl (.inr (.inr (.inl e)))
  ·exact .inl (.inr (.inr (.inr (.inl e))))
  ·rcases l with h | h
   ·exact .inl (.inr (.inr (.inr (.inr (.inl (h.symm.trans e))))))
   ·refine .inr ?_
    have:=h.symm.trans e;simp at this;omega
  ·exact .inl (.inr (.inr (.inr (.inr (.inr (.inl e))))))
  ·exact .inl (.inr (.inr (.inr (.inr (.inr (.inr e))))))

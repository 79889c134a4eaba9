import Derived.Test.YtagkodkijkpemaaGreatDoorRA02
import Derived.Deep.AppendLies
import Derived.Deep.RegionHeld3
import Derived.Deep.LoopGhost
set_option maxHeartbeats 8000000
set_option maxRecDepth 1000000
namespace Go.Proofs.YtagkodkijkpemaaGreatDoor
open Lx Go.Proofs.Tryz
open Go.RowKit
section
open Go.RowKit
open Lx (Tk)
theorem akG(s:ByteArray)(w:World)(a:s.size<=281474976710656):
  Calls prog 89 #[.string s] w fun e w'=>e=.returned (.string s)/\Below w.heap.size w w':=Tryz.stringslite_Clone s w a
theorem Mt(s:ByteArray)(w:World)(a:s.size<=2000):
  Calls prog 57 #[.string s] w fun e w'=>e=.returned (.string s)/\Below w.heap.size w w':=by
 go_enter func57,ntmps57
 go_wp2_with (go_at_call 89;refine(akG _ _ (by omega)).mono ?_;rintro e w'⟨rfl,b⟩)
 go_ret;exact⟨rfl,b⟩
theorem Ij{w w':World}(h:Below w.heap.size w w')(r:Option Nat):w.grownBy w' r:=⟨h.os,h.tape,h.output,h.size,fun k a _=>h.block k a⟩
theorem Rd.below{b a:Nat}{L:List Tk}{p:Nat}{w w':World}{ts:List Tk}{o:Int}(h:Rd b a L p w ts o)(c:Below w.heap.size w w'):Rd b a L p w' ts o :=
 h.grown (Ij c none) (by simp) (by simp)
theorem ahE{b:ByteArray}(h:Lx.isName b=true):b≠aT:=by
 intro e;subst e;revert h;decide
theorem agt{b:ByteArray}(h:Lx.isToken b=true):b≠aT:=by
 intro e;subst e;revert h;decide
theorem Zm{j c:Nat}{L:List Tk}{p:Nat}{w:World}{ts:List Tk}{o:Int}(h:Rd j c L p w ts o):
  Calls prog 174 #[.pointer (some ⟨p,0,none⟩),.func (.func 72) #[] #[]] w (Ends j c L p o NI w (eG Lx.isName ts)):=by
 have hsz:=h.hsz;cases hd:Lx.isName (Lx.hd ts)
 ·have b:eG Lx.isName ts=.error (2,Lx.pl ts):=dk (by rw[hd];simp)
  have g:Hid _:=hd;have f:Hid _:=b;clear hd b;go_enter func174,ntmps174
  go_wp2_with (first
   | (go_at_call 111;refine(oF h).mono ?_;rintro e d⟨rfl,a⟩;obtain rfl:=a.symm)
   | (go_at_call 72;refine(Df _ _ hsz).mono ?_;rintro e d⟨rfl,a⟩;obtain rfl:=a.symm;rw[g.out])
   | (go_at_call 175;refine(MH h 2).mono ?_;rintro e d⟨rfl,a⟩;obtain rfl:=a.symm))
  exact⟨rfl,Ends.no f.out (Iu _ _)⟩
 ·have b:eG Lx.isName ts=.ok (Lx.hd ts,ts.tail):=de hd
  have l:Hid (Lx.hd ts≠aT):=ahE hd;have g:Hid _:=hd;have f:Hid _:=b;clear hd b;go_enter func174,ntmps174
  go_wp2_with (first
   | (go_at_call 111;refine(oF h).mono ?_;rintro e d⟨rfl,a⟩;obtain rfl:=a.symm)
   | (go_at_call 72;refine(Df _ _ hsz).mono ?_;rintro e d⟨rfl,a⟩;obtain rfl:=a.symm;rw[g.out])
   | (go_at_call 150;refine(Dm h l.out).mono ?_;rintro e w1⟨rfl,k,m⟩)
   | (go_at_call 57;refine(Mt _ _ hsz).mono ?_;rintro e w2⟨rfl,i⟩))
  go_ret;exact Ends.yes f.out (aL k (Ij i _)) (m.below i) rfl
theorem aa7{j c:Nat}{L:List Tk}{p:Nat}{w:World}{ts:List Tk}{o:Int}(h:Rd j c L p w ts o):
  Calls prog 153 #[.pointer (some ⟨p,0,none⟩)] w (Ends j c L p o NI w (eG Lx.isName ts)):=by
 cases hr:eG Lx.isName ts with
 |error x=>
  obtain⟨n,a⟩:=x;have g:Hid _:=hr;clear hr;go_enter func153,ntmps153
  go_wp2_with (go_at_call 174;refine(Zm h).mono ?_;intro e k i;obtain⟨rfl,d⟩:=i.err g.out)
  exact⟨rfl,Ends.no rfl d⟩
 |ok x=>
  obtain⟨b,l⟩:=x;have g:Hid _:=hr;clear hr;go_enter func153,ntmps153
  go_wp2_with (go_at_call 174;refine(Zm h).mono ?_;intro e k i;obtain⟨v,rfl,d,f,rfl⟩:=i.ok g.out)
  go_ret;exact Ends.yes rfl d f rfl
theorem Yu{j c:Nat}{L:List Tk}{p:Nat}{w:World}{ts:List Tk}{o:Int}(h:Rd j c L p w ts o):
  Calls prog 174 #[.pointer (some ⟨p,0,none⟩),.func (.func 74) #[] #[]] w (Ends j c L p o NI w (eG Lx.isToken ts)):=by
 have hsz:=h.hsz;cases hd:Lx.isToken (Lx.hd ts)
 ·have b:eG Lx.isToken ts=.error (2,Lx.pl ts):=dk (by rw[hd];simp)
  have g:Hid _:=hd;have f:Hid _:=b;clear hd b;go_enter func174,ntmps174
  go_wp2_with (first
   | (go_at_call 111;refine(oF h).mono ?_;rintro e d⟨rfl,a⟩;obtain rfl:=a.symm)
   | (go_at_call 74;refine(L8 _ _ hsz).mono ?_;rintro e d⟨rfl,a⟩;obtain rfl:=a.symm;rw[g.out])
   | (go_at_call 175;refine(MH h 2).mono ?_;rintro e d⟨rfl,a⟩;obtain rfl:=a.symm))
  exact⟨rfl,Ends.no f.out (Iu _ _)⟩
 ·have b:eG Lx.isToken ts=.ok (Lx.hd ts,ts.tail):=de hd
  have l:Hid (Lx.hd ts≠aT):=agt hd;have g:Hid _:=hd;have f:Hid _:=b;clear hd b;go_enter func174,ntmps174
  go_wp2_with (first
   | (go_at_call 111;refine(oF h).mono ?_;rintro e d⟨rfl,a⟩;obtain rfl:=a.symm)
   | (go_at_call 74;refine(L8 _ _ hsz).mono ?_;rintro e d⟨rfl,a⟩;obtain rfl:=a.symm;rw[g.out])
   | (go_at_call 150;refine(Dm h l.out).mono ?_;rintro e w1⟨rfl,k,m⟩)
   | (go_at_call 57;refine(Mt _ _ hsz).mono ?_;rintro e w2⟨rfl,i⟩))
  go_ret;exact Ends.yes f.out (aL k (Ij i _)) (m.below i) rfl
theorem Bp{j c:Nat}{L:List Tk}{p:Nat}{w:World}{ts:List Tk}{o:Int}(h:Rd j c L p w ts o):
  Calls prog 151 #[.pointer (some ⟨p,0,none⟩)] w (Ends j c L p o NI w (eG Lx.isToken ts)):=by
 cases hr:eG Lx.isToken ts with
 |error x=>
  obtain⟨n,a⟩:=x;have g:Hid _:=hr;clear hr;go_enter func151,ntmps151
  go_wp2_with (go_at_call 174;refine(Yu h).mono ?_;intro e k i;obtain⟨rfl,d⟩:=i.err g.out)
  exact⟨rfl,Ends.no rfl d⟩
 |ok x=>
  obtain⟨b,l⟩:=x;have g:Hid _:=hr;clear hr;go_enter func151,ntmps151
  go_wp2_with (go_at_call 174;refine(Yu h).mono ?_;intro e k i;obtain⟨v,rfl,d,f,rfl⟩:=i.ok g.out)
  go_ret;exact Ends.yes rfl d f rfl
end
section
open Go.RowKit
open Lx (Tk)
theorem zR{a:ByteArray}{l:List UInt8}(h:a≠⟨l.toArray⟩):(a.toList == l)=false:=by
 rw[ByteArray.toList_eq];exact iS.2 fun e=>h (ByteArray.ext (by rw[<-e]))
theorem R9{j g:Nat}{L:List Tk}{p:Nat}{w:World}{ts:List Tk}{o:Int}(h:Rd j g L p w ts o):
  Calls prog 204 #[.pointer (some ⟨p,0,none⟩)] w fun e w'=>e=.returned (.int .u8 ((dJ ts).1:Int))/\w.grownBy w' (some p)/\Rd j g L p w' (dJ ts).2 o:=by
 by_cases h1:Lx.hd ts=acS
 ·have a:Hid (dJ ts=(42,ts.tail)):=de h1
  have d:Hid (Lx.hd ts≠aT):=by rw[h1];show _≠_;decide
  have i:Hid (Lx.hd ts=⟨#[42]⟩):=h1;clear h1;go_enter func204,ntmps204
  go_wp2_with (first
   | (go_at_call 111;refine(oF h).mono ?_;rintro e w'⟨rfl,b⟩;obtain rfl:=b.symm;rw[i.out])
   | (go_at_call 150;refine(Dm h d.out).mono ?_;rintro e w1⟨rfl,c,f⟩))
  go_ret;rw[a.out];exact⟨rfl,c,f⟩
 by_cases h2:Lx.hd ts=acT
 ·have a:Hid (dJ ts=(43,ts.tail)):=by show _=_;unfold dJ;rw[dk h1,de h2]
  have d:Hid (Lx.hd ts≠aT):=by rw[h2];show _≠_;decide
  have i:Hid (Lx.hd ts=⟨#[43]⟩):=h2;clear h1 h2;go_enter func204,ntmps204
  go_wp2_with (first
   | (go_at_call 111;refine(oF h).mono ?_;rintro e w'⟨rfl,b⟩;obtain rfl:=b.symm;rw[i.out])
   | (go_at_call 150;refine(Dm h d.out).mono ?_;rintro e w1⟨rfl,c,f⟩))
  go_ret;rw[a.out];exact⟨rfl,c,f⟩
 by_cases h3:Lx.hd ts=ado
 ·have a:Hid (dJ ts=(63,ts.tail)):=by show _=_;unfold dJ;rw[dk h1,dk h2,de h3]
  have d:Hid (Lx.hd ts≠aT):=by rw[h3];show _≠_;decide
  have i:Hid (Lx.hd ts=⟨#[63]⟩):=h3;clear h1 h2 h3;go_enter func204,ntmps204
  go_wp2_with (first
   | (go_at_call 111;refine(oF h).mono ?_;rintro e w'⟨rfl,b⟩;obtain rfl:=b.symm;rw[i.out])
   | (go_at_call 150;refine(Dm h d.out).mono ?_;rintro e w1⟨rfl,c,f⟩))
  go_ret;rw[a.out];exact⟨rfl,c,f⟩
 have a:Hid (dJ ts=(0,ts)):=by show _=_;unfold dJ;rw[dk h1,dk h2,dk h3]
 have m:((Lx.hd ts).toList == [42])=false:=zR h1;have k:((Lx.hd ts).toList == [43])=false:=zR h2;have l:((Lx.hd ts).toList == [63])=false:=zR h3;clear h1 h2 h3;go_enter func204,ntmps204
 go_wp2_with (first
  | (go_at_call 111;refine(oF h).mono ?_;rintro e w'⟨rfl,b⟩;obtain rfl:=b.symm))
 go_ret;rw[a.out];exact⟨rfl,Iu _ _,h⟩
theorem Il(b:ByteArray)(w:World):
  Calls prog 110 #[.string b] w fun e w'=>e=.returned (.int .i64 (ja b))/\w'=w:=by
 by_cases h1:b=NG
 ·subst h1
  unfold NG;go_enter func110,ntmps110
  go_wp2
  go_ret;exact⟨rfl,rfl⟩
 by_cases h2:b=Nz
 ·subst h2
  unfold Nz;go_enter func110,ntmps110
  go_wp2
  go_ret;exact⟨rfl,rfl⟩
 by_cases h3:b=NH
 ·subst h3
  unfold NH;go_enter func110,ntmps110
  go_wp2
  go_ret;exact⟨rfl,rfl⟩
 have a:Hid (ja b=-1):=by show _=_;unfold ja;rw[dk h1,dk h2,dk h3]
 have f:(b.toList == [37,108,101,102,116])=false:=zR h1;have d:(b.toList == [37,114,105,103,104,116])=false:=zR h2;have c:(b.toList == [37,110,111,110,101])=false:=zR h3;clear h1 h2 h3;go_enter func110,ntmps110
 go_wp2
 go_ret;rw[a.out];exact⟨rfl,rfl⟩
theorem Iq{g d:Nat}{L:List Tk}{p:Nat}{w:World}{ts:List Tk}{o:Int}(h:Rd g d L p w ts o):
  Calls prog 192 #[.pointer (some ⟨p,0,none⟩)] w fun e w'=>e=.returned (.bool (rO ts))/\w'=w:=by
 have hsz:=h.hsz;cases h1:decide (Lx.hd ts=mF)
 ·cases h2:Lx.isName (Lx.hd ts)
  ·have c:Hid (rO ts=Lx.isToken (Lx.hd ts)):=by show _=_;unfold rO;rw[h1,h2];simp
   have b:Hid _:=h1;have f:Hid _:=h2;clear h1 h2;go_enter func192,ntmps192
   go_wp2_with (first
    | (go_at_call 111;refine(oF h).mono ?_;rintro e w'⟨rfl,a⟩;obtain rfl:=a.symm)
    | (go_at_call 114;refine(wN h mF).mono ?_;rintro e w'⟨rfl,a⟩;obtain rfl:=a.symm;rw[b.out])
    | (go_at_call 72;refine(Df _ _ hsz).mono ?_;rintro e w'⟨rfl,a⟩;obtain rfl:=a.symm;rw[f.out])
    | (go_at_call 74;refine(L8 _ _ hsz).mono ?_;rintro e w'⟨rfl,a⟩;obtain rfl:=a.symm))
   go_ret;rw[c.out];exact⟨rfl,rfl⟩
  ·have c:Hid (rO ts=true):=by show _=_;unfold rO;rw[h1,h2];simp
   have b:Hid _:=h1;have f:Hid _:=h2;clear h1 h2;go_enter func192,ntmps192
   go_wp2_with (first
    | (go_at_call 111;refine(oF h).mono ?_;rintro e w'⟨rfl,a⟩;obtain rfl:=a.symm)
    | (go_at_call 114;refine(wN h mF).mono ?_;rintro e w'⟨rfl,a⟩;obtain rfl:=a.symm;rw[b.out])
    | (go_at_call 72;refine(Df _ _ hsz).mono ?_;rintro e w'⟨rfl,a⟩;obtain rfl:=a.symm;rw[f.out]))
   go_ret;rw[c.out];exact⟨rfl,rfl⟩
 ·have c:Hid (rO ts=true):=by show _=_;unfold rO;rw[h1];simp
  have b:Hid _:=h1;clear h1;go_enter func192,ntmps192
  go_wp2_with (first
   | (go_at_call 114;refine(wN h mF).mono ?_;rintro e w'⟨rfl,a⟩;obtain rfl:=a.symm;rw[b.out]))
  go_ret;rw[c.out];exact⟨rfl,rfl⟩
end
namespace Tr
def In(a b:Nat):Nat->Prop:=fun g=>a<=g/\g<b
theorem jc{w:World}{base a e size:Nat}{v:Value}{n:Nat}{d:List Value}(h:w.ownsRow base e size v n d)(k:a<=base):w.ownsRow a e size v n d:=by
 refine⟨h.1,?_⟩;rcases h.2 with j|⟨g,c,b,f,i,r⟩
 ·exact .inl j
 ·exact .inr ⟨g,c,b,f,dg k i,r⟩
theorem aC{w w':World}{base e size:Nat}{v:Value}{n:Nat}{d:List Value}(h:w.ownsRow base e size v n d)(j:∀g,v.ownBlock=some g->w'.heap[g]?=w.heap[g]?):w'.ownsRow base e size v n d:=by
 refine⟨h.1,?_⟩;rcases h.2 with i|⟨g,b,a,c,f,k,r⟩
 ·exact .inl i
 ·refine .inr ⟨g,b,a,c,f,?_,r⟩
  rw[j g (by rw[c];rfl)];exact k
section
variable {α:Type}
def Seq(F:Nat->Prop)(w:World)(e s:Nat)(c:Value×α->List Value)(K:Value->α->Prop)(v:Value)(l:List α):Prop :=
 ∃ps:List (Value×α),ps.map Prod.snd=l/\w.ownsRow 0 e s v l.length (ps.flatMap c)/\(∀g,v.ownBlock=some g->F g)/\∀q,q∈ps->K q.1 q.2
theorem Seq.nil(F:Nat->Prop)(w:World)(e s:Nat)(c:Value×α->List Value)(K:Value->α->Prop):Seq F w e s c K (.slice none 0 0) [] :=
 ⟨[],rfl,eE _ _ _ _,fun g h=>by simp[Value.ownBlock]at h,fun q h=>by simp at h⟩
theorem Seq.move {F f:Nat->Prop} {w w':World} {e s:Nat} {c:Value×α->List Value} {K d:Value->α->Prop} {v:Value} {l:List α} (h:Seq F w e s c K v l)
  (n:∀b,F b->w'.heap[b]?=w.heap[b]?) (m:∀b,F b->f b) (k:∀v x,K v x->d v x):Seq f w' e s c d v l:=by
 obtain⟨j,h1,h2,h3,h4⟩:=h;exact⟨j,h1,aC h2 fun g a=>n g (h3 g a),fun g a=>m g (h3 g a),fun q i=>k _ _ (h4 q i)⟩
def sU(K:(Nat->Prop)->World->Value->α->Prop):Prop :=
 ∀(F F':Nat->Prop)(w w':World)v x,(∀b,F b->w'.heap[b]?=w.heap[b]?)->(∀b,F b->F' b)->K F w v x->K F' w' v x
def yM(B:Nat)(w:World)(e s:Nat)(c:Value×α->List Value)(K:(Nat->Prop)->World->Value->α->Prop)(v:Value)(l:List α)(ps:List (Value×α))(F:Nat->Prop):Prop :=
 ps.map Prod.snd=l/\w.ownsRow B e s v l.length (ps.flatMap c)/\(∀q,q∈ps->K F w q.1 q.2)/\(∀b,F b->B<=b/\b<w.heap.size)/\∀g,v.ownBlock=some g->¬F g
def Grow(B:Nat)(w:World)(e s:Nat)(c:Value×α->List Value)(K:(Nat->Prop)->World->Value->α->Prop)(v:Value)(l:List α):Prop:=∃ps F,yM B w e s c K v l ps F
variable {B:Nat} {w w':World} {e s:Nat} {c:Value×α -> List Value} {K:(Nat -> Prop) -> World -> Value -> α -> Prop} {v:Value} {l:List α} {ps:List (Value×α)} {F:Nat -> Prop}
theorem Grow.nil(B:Nat)(w:World)(e s:Nat)(c:Value×α->List Value)(K:(Nat->Prop)->World->Value->α->Prop):Grow B w e s c K (.slice none 0 0) [] :=
 ⟨[],fun _=>False,rfl,eE _ _ _ _,fun q h=>by simp at h,fun b h=>h.elim,fun _ _ h=>h⟩
theorem yM.kept(p:sU K)(h:yM B w e s c K v l ps F){r:Option Nat}(j:w.grownBy w' r)(n:∀k,r=some k->k<B):yM B w' e s c K v l ps F:=by
 obtain⟨h1,h2,h3,h4,m⟩:=h;have i:∀b,B<=b->b<w.heap.size->w'.heap[b]?=w.heap[b]?:=fun b i f=>j.block b f fun e=>by have:=n b e.symm;omega
 refine⟨h1,aC h2 fun g a=>i g (h2.lt g a).1 (h2.lt g a).2,fun q o=>p F F w w' _ _ (fun b d=>i b (h4 b d).1 (h4 b d).2) (fun _ h=>h) (h3 q o),fun b d=>⟨(h4 b d).1,dd (h4 b d).2 j.size⟩,m⟩
theorem Grow.kept(b:sU K)(h:Grow B w e s c K v l){r:Option Nat}(a:w.grownBy w' r)(d:∀k,r=some k->k<B):Grow B w' e s c K v l :=
 let ⟨ps,F,h'⟩:=h;⟨ps,F,h'.kept b a d⟩
theorem Grow.seq(d:sU K)(h:Grow B w e s c K v l):Seq (In B w.heap.size) w e s c (K (In B w.heap.size) w) v l:=by
 obtain⟨ps,F,h1,h2,h3,h4,f⟩:=h;exact⟨ps,h1,jc h2 (eR _),fun g a=>h2.lt g a,fun q b=>d F _ w w _ _ (fun _ _=>rfl) h4 (h3 q b)⟩
theorem yM.push (u:sU K) (h:yM B w e s c K v l ps F) {p:Nat} (I:p<B) (J:B<=w.heap.size) {w1 w2 w3:World} (x:w.grownBy w1 (some p)) (q:Value×α)
  (C:K (In w.heap.size w1.heap.size) w1 q.1 q.2) (m:w1.grownBy w2 none) {g i:Nat} (D:w3.ownsRow B e s (.slice (some ⟨g,0,none⟩) (l.length+1) i) (l.length+1) (ps.flatMap c++c q))
  (o:w2.grownBy w3 v.ownBlock) (a:v.ownBlock=some g\/g=w2.heap.size):Grow B w3 e s c K (.slice (some ⟨g,0,none⟩) (l.length+1) i) (l++[q.2]):=by
 obtain⟨h1,h2,h3,h4,t⟩:=h;have H:=x.size;have L:=m.size;have G:=o.size;have z:∀b,F b->w3.heap[b]?=w.heap[b]?:=fun b j=>by
  have d:=h4 b j;rw[o.block b (by omega) (fun e=>t b e.symm j),m.block b (by omega) (by simp),x.block b d.2 (fun e=>by cases e;omega)]
 have A:∀b,In w.heap.size w1.heap.size b->w3.heap[b]?=w1.heap[b]?:=fun b f=>by
  rw[o.block b (by have:=f.2;omega) (fun e=>by have:=(h2.lt b e.symm).2;have:=f.1;omega),m.block b f.2 (by simp)]
 refine⟨ps++[q],fun b=>F b\/In w.heap.size w1.heap.size b,?_,?_,?_,?_,?_⟩
 ·rw[ei,h1];rfl
 ·rw[fL,cH];simpa using D
 ·intro y n
  rcases cY.1 n with k|k
  ·exact u F _ w w3 _ _ z (fun _ h=>.inl h) (h3 y k)
  ·simp at k;subst k
   exact u _ _ w1 w3 _ _ A (fun _ h=>.inr h) C
 ·intro b d
  rcases d with d|d
  ·have:=h4 b d;omega
  ·have:=d.1;have:=d.2;omega
 ·intro E r
  have:g=E:=by simpa [Value.ownBlock]using r
  subst this;rintro(j | f)
  ·rcases a with a | a
   ·exact t _ a j
   ·have:=h4 _ j;omega
  ·rcases a with a | a
   ·have:=(h2.lt _ a).2;have:=f.1;omega
   ·have:=f.2;omega
end
structure Lay where
 eA:Nat
 sA:Nat
 cA:Value×Lx.Alt->List Value
 eI:Nat
 sI:Nat
 cI:Value×Lx.It->List Value
def wO(Y:Lay)(A:Value->List Lx.Alt->Prop)(F:Nat->Prop)(w:World)(v:Value)(l:List Lx.It):Prop :=
 Seq F w Y.eI Y.sI Y.cI (fun va it=>A va it.alts) v l
def aM(Y:Lay):Nat->(Nat->Prop)->World->Value->List Lx.Alt->Prop
 |0,_,_,v,l=>v=.slice none 0 0/\l=[]
 |d+1,F,w,v,l=>Seq F w Y.eA Y.sA Y.cA (fun vi a=>wO Y (aM Y d F w) F w vi a.1) v l
def jG(Y:Lay)(d:Nat)(F:Nat->Prop)(w:World)(v:Value)(l:List Lx.It):Prop:=wO Y (aM Y d F w) F w v l
theorem aM.nil(Y:Lay)(d:Nat)(F:Nat->Prop)(w:World):aM Y d F w (.slice none 0 0) []:=by
 cases d with
 |zero=>exact⟨rfl,rfl⟩
 |succ d=>exact Seq.nil _ _ _ _ _ _
theorem EY{w:World}{base e size:Nat}{v:Value}{n:Nat}{d:List Value}(h:w.ownsRow base e size v n d):∃a k c,v=.slice a k c:=by
 rcases h.2 with ⟨rfl,_⟩|⟨g,f,b,rfl,_⟩
 ·exact⟨_,_,_,rfl⟩
 ·exact⟨_,_,_,rfl⟩
theorem Seq.form{α:Type}{F:Nat->Prop}{w:World}{e s:Nat}{c:Value×α->List Value}{K:Value->α->Prop}{v:Value}{l:List α}(h:Seq F w e s c K v l):∃a k c,v=.slice a k c:=by
 obtain⟨b,_,h2,_⟩:=h;exact EY h2
theorem aM.form{Y:Lay}{d:Nat}{F:Nat->Prop}{w:World}{v:Value}{l:List Lx.Alt}(h:aM Y d F w v l):∃a k c,v=.slice a k c:=by
 cases d with
 |zero=>exact⟨_,_,_,h.1⟩
 |succ d=>exact Seq.form h
theorem aM.move{Y:Lay}{F g:Nat->Prop}{w w':World}(f:∀b,F b->w'.heap[b]?=w.heap[b]?)(c:∀b,F b->g b):∀{d:Nat}{v:Value}{l:List Lx.Alt},aM Y d F w v l->aM Y d g w' v l
 |0,_,_,h=>h
 |d+1,_,_,h=>Seq.move (K:=fun k(a:Lx.Alt)=>wO Y (aM Y d F w) F w k a.1) h f c fun _ _ m=>Seq.move (K:=fun i(n:Lx.It)=>aM Y d F w i n.alts) m f c fun _ _ j=>aM.move f c j
theorem jG.move{Y:Lay}{d:Nat}{F a:Nat->Prop}{w w':World}(f:∀b,F b->w'.heap[b]?=w.heap[b]?)(c:∀b,F b->a b){v:Value}{l:List Lx.It}(h:jG Y d F w v l):jG Y d a w' v l :=
 Seq.move (K:=fun g(j:Lx.It)=>aM Y d F w g j.alts) h f c fun _ _ i=>aM.move f c i
end Tr
namespace Tr
def Sep(Fs:List (Nat->Prop)):Prop:=Fs.Pairwise fun A B=>∀b,A b->B b->False
theorem ai8{a:List (Nat->Prop)}(h:Sep a){B:Nat->Prop}(f:∀A,A∈a->∀b,A b->B b->False):Sep (a++[B]):=by
 unfold Sep at *;rw[oS];exact⟨h,mw _ _,fun A d C c=>by simp only[cM]at c;subst c;exact f A d⟩
section
variable {α:Type}
def dQ(F:Nat->Prop)(w:World)(e s:Nat)(c:Value×α->List Value)(K:(Nat->Prop)->World->Value->α->Prop)(v:Value)(l:List α):Prop :=
 ∃(ps:List (Value×α))(Fs:List (Nat->Prop)),ps.map Prod.snd=l/\w.ownsRow 0 e s v l.length (ps.flatMap c)/\(∀g,v.ownBlock=some g->F g/\∀A,A∈Fs->¬A g)/\(∀A,A∈Fs->∀b,A b->F b)/\Sep Fs/\Fs.length=ps.length/\∀(j:Nat)(q:Value×α)(A:Nat->Prop),ps[j]?=some q->Fs[j]?=some A->K A w q.1 q.2
theorem dQ.nil(F:Nat->Prop)(w:World)(e s:Nat)(c:Value×α->List Value)(K:(Nat->Prop)->World->Value->α->Prop):dQ F w e s c K (.slice none 0 0) [] :=
 ⟨[],[],rfl,eE _ _ _ _,(fun g h=>by simp[Value.ownBlock]at h),(fun A h=>by cases h),n9,rfl,(fun j q A h=>by simp at h)⟩
theorem dQ.move {F f:Nat->Prop} {w w':World} {e s:Nat} {c:Value×α->List Value} {K d:(Nat->Prop)->World->Value->α->Prop} {v:Value} {l:List α} (h:dQ F w e s c K v l)
  (t:∀b,F b->w'.heap[b]?=w.heap[b]?) (i:∀b,F b->f b) (p:∀A v x,(∀b,A b->F b)->K A w v x->d A w' v x):dQ f w' e s c d v l:=by
 obtain⟨r,o,h1,h2,h3,h4,k,y,m⟩:=h;exact⟨r,o,h1,aC h2 fun g a=>t g (h3 g a).1,fun g a=>⟨i g (h3 g a).1,(h3 g a).2⟩,fun A hA b u=>i b (h4 A hA b u),k,y,fun j q A n hA=>p A _ _ (h4 A (cQ hA)) (m j q A n hA)⟩
theorem dQ.form{F:Nat->Prop}{w:World}{e s:Nat}{c:Value×α->List Value}{K:(Nat->Prop)->World->Value->α->Prop}{v:Value}{l:List α}(h:dQ F w e s c K v l):∃a k c,v=.slice a k c:=by
 obtain⟨d,b,_,h2,_⟩:=h;exact EY h2
def wQ(B:Nat)(w:World)(e s:Nat)(c:Value×α->List Value)(K:(Nat->Prop)->World->Value->α->Prop)(v:Value)(l:List α)(ps:List (Value×α))(Fs:List (Nat->Prop)):Prop :=
 ps.map Prod.snd=l/\w.ownsRow B e s v l.length (ps.flatMap c)/\(∀(j:Nat)(q:Value×α)(A:Nat->Prop),ps[j]?=some q->Fs[j]?=some A->K A w q.1 q.2)/\(∀A,A∈Fs->∀b,A b->B<=b/\b<w.heap.size)/\(∀g,v.ownBlock=some g->∀A,A∈Fs->¬A g)/\Sep Fs/\Fs.length=ps.length
def mH(B:Nat)(w:World)(e s:Nat)(c:Value×α->List Value)(K:(Nat->Prop)->World->Value->α->Prop)(v:Value)(l:List α):Prop:=∃ps Fs,wQ B w e s c K v l ps Fs
variable {B:Nat} {w w':World} {e s:Nat} {c:Value×α -> List Value} {K:(Nat -> Prop) -> World -> Value -> α -> Prop} {v:Value} {l:List α} {ps:List (Value×α)} {Fs:List (Nat -> Prop)}
theorem mH.nil(B:Nat)(w:World)(e s:Nat)(c:Value×α->List Value)(K:(Nat->Prop)->World->Value->α->Prop):mH B w e s c K (.slice none 0 0) [] :=
 ⟨[],[],rfl,eE _ _ _ _,(fun j q A h=>by simp at h),(fun A h=>by cases h),(fun g h=>by simp[Value.ownBlock]at h),n9,rfl⟩
theorem wQ.kept(y:sU K)(h:wQ B w e s c K v l ps Fs){r:Option Nat}(n:w.grownBy w' r)(p:∀k,r=some k->k<B):wQ B w' e s c K v l ps Fs:=by
 obtain⟨h1,h2,h3,h4,o,u,t⟩:=h;have m:∀b,B<=b->b<w.heap.size->w'.heap[b]?=w.heap[b]?:=fun b m i=>n.block b i fun e=>by have:=p b e.symm;omega
 refine⟨h1,aC h2 fun g d=>m g (h2.lt g d).1 (h2.lt g d).2,fun j q A x hA=>?_,fun A hA b a=>⟨(h4 A hA b a).1,dd (h4 A hA b a).2 n.size⟩,o,u,t⟩;have f:=cQ hA;exact y A A w w' _ _ (fun b a=>m b (h4 A f b a).1 (h4 A f b a).2) (fun _ h=>h) (h3 j q A x hA)
theorem mH.kept(b:sU K)(h:mH B w e s c K v l){r:Option Nat}(a:w.grownBy w' r)(d:∀k,r=some k->k<B):mH B w' e s c K v l :=
 let ⟨ps,Fs,h'⟩:=h;⟨ps,Fs,h'.kept b a d⟩
theorem mH.seq(h:mH B w e s c K v l):dQ (In B w.heap.size) w e s c K v l:=by
 obtain⟨ps,Fs,h1,h2,h3,h4,f,k,d⟩:=h;exact⟨ps,Fs,h1,jc h2 (eR _),fun g a=>⟨h2.lt g a,f g a⟩,fun A i b j=>h4 A i b j,k,d,h3⟩
theorem mH.one(n:sU K){w1:World}(q:Value×α)(r:B<=w.heap.size)(h1:w.heap.size<=w1.heap.size)(m:K (In w.heap.size w1.heap.size) w1 q.1 q.2)(i:(c q).length=s):
  mH B (w1.alloc (.cells (c q).toArray e)) e s c K (.slice (some ⟨w1.heap.size,0,none⟩) 1 1) [q.2]:=by
 refine⟨[q],[In w.heap.size w1.heap.size],rfl,⟨by simp[i],.inr ⟨w1.heap.size,1,(c q).toArray,rfl,by omega,n7 w1 _,io _,by unfold maxLen;omega,by simp[i],?_⟩⟩,?_,?_,?_,mw _ _,rfl⟩
 ·simp only[el,iu,du,pL,eN]
  exact tA (by omega)
 ·intro j p A d a
  cases j with
  |zero=>
   simp at d a;subst d a;exact n _ _ w1 _ _ _ (fun b f=>di _ _ _ f.2) (fun _ h=>h) m
  |succ j=>simp at d
 ·intro A a b f
  simp only[cM]at a;subst a;have:=f.1;have:=f.2;simp;omega
 ·intro g k A a o
  simp only[cM]at a;subst a;have:w1.heap.size=g:=by simpa [Value.ownBlock]using k
  have:=o.2;omega
theorem wQ.push (C:sU K) (h:wQ B w e s c K v l ps Fs) {p:Nat} (P:p<B) (Q:B<=w.heap.size) {w1 w2 w3:World} (E:w.grownBy w1 (some p)) (q:Value×α)
  (M:K (In w.heap.size w1.heap.size) w1 q.1 q.2) (n:w1.grownBy w2 none) {g i:Nat} (J:w3.ownsRow B e s (.slice (some ⟨g,0,none⟩) (l.length+1) i) (l.length+1) (ps.flatMap c++c q))
  (o:w2.grownBy w3 v.ownBlock) (d:v.ownBlock=some g\/g=w2.heap.size):mH B w3 e s c K (.slice (some ⟨g,0,none⟩) (l.length+1) i) (l++[q.2]):=by
 obtain⟨h1,h2,h3,h4,z,L,D⟩:=h;have O:=E.size;have R:=n.size;have N:=o.size;have G:∀A,A∈Fs->∀b,A b->w3.heap[b]?=w.heap[b]?:=fun A hA b f=>by
  have k:=h4 A hA b f;rw[o.block b (by omega) (fun e=>z b e.symm A hA f),n.block b (by omega) (by simp),E.block b k.2 (fun e=>by cases e;omega)]
 have H:∀b,In w.heap.size w1.heap.size b->w3.heap[b]?=w1.heap[b]?:=fun b r=>by
  rw[o.block b (by have:=r.2;omega) (fun e=>by have:=(h2.lt b e.symm).2;have:=r.1;omega),n.block b r.2 (by simp)]
 refine⟨ps++[q],Fs++[In w.heap.size w1.heap.size],?_,?_,?_,?_,?_,?_,by simp[D]⟩
 ·rw[ei,h1];rfl
 ·rw[fL,cH];simpa using J
 ·intro j F A a hA
  rcases po j ps.length with x|x
  ·rw[eC x]at a
   rw[eC (by omega)]at hA;exact C A A w w3 _ _ (G A (cQ hA)) (fun _ h=>h) (h3 j F A a hA)
  ·rw[eJ x]at a
   rw[eJ (by omega),D]at hA;cases hjj:j-ps.length with
   |zero=>
    rw[hjj]at a hA;simp at a hA;subst a hA;exact C _ _ w1 w3 _ _ H (fun _ h=>h) M
   |succ m=>rw[hjj]at a;simp at a
 ·intro A hA b k
  rcases cY.1 hA with hA|hA
  ·have:=h4 A hA b k;omega
  ·simp only[cM]at hA
   subst hA;have:=k.1;have:=k.2;omega
 ·intro I t A hA f
  have:g=I:=by simpa [Value.ownBlock]using t
  subst this;rcases cY.1 hA with hA|hA
  ·rcases d with d | d
   ·exact z _ d A hA f
   ·have:=h4 A hA _ f;omega
  ·simp only[cM]at hA
   subst hA;rcases d with d|d
   ·have:=(h2.lt _ d).2;have:=f.1;omega
   ·have:=f.2;omega
 ·refine ai8 L fun A hA b y u=>?_
  have:=(h4 A hA b y).2;have:=u.1;omega
end
def eD(Y:Lay):Nat->(Nat->Prop)->World->Value->List Lx.Alt->Prop
 |0,_,_,v,l=>v=.slice none 0 0/\l=[]
 |d+1,F,w,v,l=>dQ F w Y.eA Y.sA Y.cA (fun A w vi a=>dQ A w Y.eI Y.sI Y.cI (fun A w va it=>eD Y d A w va it.alts) vi a.1) v l
def rU(Y:Lay)(d:Nat)(F:Nat->Prop)(w:World)(v:Value)(l:List Lx.It):Prop:=dQ F w Y.eI Y.sI Y.cI (fun A w va it=>eD Y d A w va it.alts) v l
theorem eD.nil(Y:Lay)(d:Nat)(F:Nat->Prop)(w:World):eD Y d F w (.slice none 0 0) []:=by
 cases d with
 |zero=>exact⟨rfl,rfl⟩
 |succ d=>exact dQ.nil _ _ _ _ _ _
theorem eD.form{Y:Lay}{d:Nat}{F:Nat->Prop}{w:World}{v:Value}{l:List Lx.Alt}(h:eD Y d F w v l):∃a k c,v=.slice a k c:=by
 cases d with
 |zero=>exact⟨_,_,_,h.1⟩
 |succ d=>exact dQ.form h
theorem eD.move{Y:Lay}{w w':World}:∀{d:Nat}{F F':Nat->Prop}{v:Value}{l:List Lx.Alt},(∀b,F b->w'.heap[b]?=w.heap[b]?)->(∀b,F b->F' b)->eD Y d F w v l->eD Y d F' w' v l
 |0,_,_,_,_,_,_,h=>h
 |d+1,_,_,_,_,hs,hF,h=>dQ.move (K:=fun A w k(a:Lx.Alt)=>dQ A w Y.eI Y.sI Y.cI (fun A w c f=>eD Y d A w c f.alts) k a.1) h hs hF fun _ _ _ j m=>
   dQ.move (K:=fun A w c(f:Lx.It)=>eD Y d A w c f.alts) m (fun b i=>hs b (j b i)) (fun _ h=>h) fun _ _ _ g n=>eD.move (fun b i=>hs b (j b (g b i))) (fun _ h=>h) n
theorem rU.move{Y:Lay}{d:Nat}{F c:Nat->Prop}{w w':World}(a:∀b,F b->w'.heap[b]?=w.heap[b]?)(k:∀b,F b->c b){v:Value}{l:List Lx.It}(h:rU Y d F w v l):rU Y d c w' v l :=
 dQ.move (K:=fun A w f(j:Lx.It)=>eD Y d A w f j.alts) h a k fun _ _ _ i g=>eD.move (fun b m=>a b (i b m)) (fun _ h=>h) g
theorem Im(Y:Lay)(d:Nat):sU (α:=Lx.It) (fun F w va it=>eD Y d F w va it.alts):=fun _ _ _ _ _ _ b a h=>eD.move b a h
theorem LY(Y:Lay)(d:Nat):sU (α:=Lx.Alt) (fun F w vi a=>rU Y d F w vi a.1):=fun _ _ _ _ _ _ c b h=>rU.move c b h
theorem dQ.weak{α:Type}{F:Nat->Prop}{w:World}{e s:Nat}{c:Value×α->List Value}{K:(Nat->Prop)->World->Value->α->Prop}{d:Value->α->Prop}{v:Value}{l:List α}(h:dQ F w e s c K v l)(n:∀A v x,(∀b,A b->F b)->K A w v x->d v x):Seq F w e s c d v l:=by
 obtain⟨o,a,h1,h2,h3,h4,r,t,k⟩:=h;refine⟨o,h1,h2,fun g f=>(h3 g f).1,fun q m=>?_⟩;obtain⟨j,i,rfl⟩:=li m;have p:a[j]?=some a[j]:=cF (by omega);exact n a[j] _ _ (h4 _ (dy _)) (k j _ _ (cF i) p)
theorem eD.weak{Y:Lay}{w:World}{G:Nat->Prop}:∀{d:Nat}{F:Nat->Prop}{v:Value}{l:List Lx.Alt},(∀b,F b->G b)->eD Y d F w v l->aM Y d G w v l
 |0,_,_,_,_,h=>h
 |d+1,F,v,l,hG,h=>by
  have o:Seq F w Y.eA Y.sA Y.cA (fun c a=>wO Y (aM Y d G w) G w c a.1) v l:=dQ.weak h fun A c a k m=>by
   have h2:Seq A w Y.eI Y.sI Y.cI (fun i j=>aM Y d G w i j.alts) c a.1:=dQ.weak m fun p i j f n=>eD.weak (fun b g=>hG b (k b (f b g))) n
   exact Seq.move h2 (fun _ _=>rfl) (fun b g=>hG b (k b g)) (fun _ _ h=>h)
  exact Seq.move o (fun _ _=>rfl) hG (fun _ _ h=>h)
end Tr
section
open Go.RowKit
open Lx (Tk)
open Tr
def YP:Lay:={ eA:=269,sA:=2,cA:=fun q=>[q.1,.string q.2.2.1],eI:=262,sI:=4,cI:=fun q=>[.int .i64 (q.2.kind:Int),.string q.2.name,.int .u8 (q.2.mark:Int),q.1] }
def Dt(d lo:Nat)(w':World)(v:Value)(l:List Lx.Alt):Prop:=eD YP d (In lo w'.heap.size) w' v l
def NJ(d lo:Nat)(w':World)(v:Value)(it:Lx.It):Prop:=∃va,v=.agg #[.int .i64 (it.kind:Int),.string it.name,.int .u8 (it.mark:Int),va]/\eD YP d (In lo w'.heap.size) w' va it.alts
def amS(d lo:Nat)(w':World)(v:Value)(a:Lx.Alt):Prop:=∃vi,v=.agg #[vi,.string a.2.1]/\rU YP d (In lo w'.heap.size) w' vi a.1
def Rz(d:Nat):Prop:=∀(sb cap:Nat)(L:List Tk)(p:Nat)(w:World)(ts:List Tk)(o:Int),o=8 - (d:Int)->Rd sb cap L p w ts o ->
 Calls prog 155 #[.pointer (some ⟨p,0,none⟩)] w (Ends sb cap L p o (Dt (d+1) w.heap.size) w (nu d ts))
def Mv(d:Nat):Prop:=∀(sb cap:Nat)(L:List Tk)(p:Nat)(w:World)(ts:List Tk)(o:Int),o=8 - (d:Int)->Rd sb cap L p w ts o->Lx.hd ts=mF ->
 Calls prog 203 #[.pointer (some ⟨p,0,none⟩)] w (Ends sb cap L p o (Dt d w.heap.size) w (iF d ts))
def aak(d:Nat):Prop:=∀(sb cap:Nat)(L:List Tk)(p:Nat)(w:World)(ts:List Tk)(o:Int),o=8 - (d:Int)->Rd sb cap L p w ts o->rO ts=true ->
 Calls prog 193 #[.pointer (some ⟨p,0,none⟩)] w (Ends sb cap L p o (NJ d w.heap.size) w (iB (iF d) ts))
def aa8(d:Nat):Prop:=∀(sb cap:Nat)(L:List Tk)(p:Nat)(w:World)(ts:List Tk)(o:Int),o=8 - (d:Int)->Rd sb cap L p w ts o ->
 Calls prog 176 #[.pointer (some ⟨p,0,none⟩)] w (Ends sb cap L p o (amS d w.heap.size) w (iH (iF d) (d == 8) ts))
theorem Dt.move{d f lo':Nat}{w w':World}{v:Value}{l:List Lx.Alt}(h:Dt d f w v l)(c:lo'<=f){r:Option Nat}(g:w.grownBy w' r)(i:∀k,r=some k->k<f):Dt d lo' w' v l :=
 eD.move (fun b a=>g.block b a.2 fun e=>by have:=i b e.symm;have:=a.1;omega) (fun b a=>⟨dg c a.1,dd a.2 g.size⟩) h
theorem agu:Mv 0:=by
 intro l b L p w j o a h hd;have c:=h.op;have i:(o == 8)=true:=tr.2 (by simpa using a);have g:Hid _:=a;have k:Hid _:=hd;clear a hd;go_enter func203,ntmps203;go_wp2_with fail;refine(MH h 3).mono ?_;rintro e f⟨rfl,d⟩;obtain rfl:=d.symm;go_wp2_with fail;exact⟨rfl,Ends.no rfl (Iu _ _)⟩
theorem agv{d:Nat}(G:d<8)(H:Rz d):Mv (d+1):=by
 intro S i L p w y o K h hd;have O:=h.op;have R:=h.J6;have V:(o == 8)=false:=iS.2 (by omega);have D:0<=o:=by omega
 have Q:o<=8:=by omega
 have M:Hid (o+1=8 - (d:Int)):=by show _=_;omega
 have Y:Hid _:=hd;have J:Hid (jy mF y=.ok ((),y.tail)):=de hd;clear K hd;have N:=h.reopen (o+1);go_enter func203,ntmps203;go_wp2_with fail;refine(L6 N mF (by decide)).mono ?_;intro e w1 b;obtain⟨v,rfl,m,t,rfl⟩:=b.ok J.out;clear b;go_wp2_with fail;refine(H S i L p _ _ _ M.out t).mono ?_;intro e w2 b;have r:=aL (iM w p 1 (.int .i64 (o+1))) m;cases hr2:nu d y.tail with
 |error x=>
  obtain⟨n,a⟩:=x;obtain⟨rfl,f⟩:=b.err hr2;exact⟨rfl,Ends.no (by simp only[iF,qw,hr2]) (aL r f)⟩
 |ok x=>
  obtain⟨l,P⟩:=x;obtain⟨v,rfl,f,T,C⟩:=b.ok hr2;have g:Hid _:=hr2;clear hr2 b;go_wp2_with fail;refine(L6 T BH (by decide)).mono ?_;intro e B b;have A:=aL r f;cases hr3:jy BH P with
  |error x=>
   obtain⟨n,a⟩:=x;obtain⟨rfl,c⟩:=b.err hr3;exact⟨rfl,Ends.no (by simp only[iF,qw,g.out,hr3]) (aL A c)⟩
  |ok x=>
   obtain⟨u,F⟩:=x;obtain⟨W,rfl,c,z,rfl⟩:=b.ok hr3;have s:Hid _:=hr3;clear hr3 b;have I:=aL A c;have U:=z.op;have E:=z.J6;go_wp2_with fail;go_ret;refine Ends.yes (x:=l) (ts':=F) (by simp only[iF,qw,g.out,s.out]) (aL I (iM B p 1 _)) (z.reopen o) ?_;have j:=r.size;have X:=h.lt;exact(C.move j c (fun k q=>by cases q;omega)).move (io _) (iM B p 1 _) (fun k q=>by cases q;omega)
end
section
open Go.RowKit
open Lx (Tk)
open Tr
def aj(w:World)(b:Nat)(cs:Array Value)(e:Nat):Prop:=w.heap[b]?=some (.cells cs e (0,0))
section
variable {w w':World} {b:Nat} {cs:Array Value} {e:Nat}
theorem aj.cell(h:aj w b cs e)(i:Nat):w.cell? ⟨b,i,none⟩=cs[i]?:=by
 unfold aj at h;simp[World.cell?,h]
theorem aj.frozen(h:aj w b cs e)(i:Nat):w.frozen? ⟨b,i,none⟩=false:=by
 unfold aj at h;simp[World.frozen?,h]
theorem aj.lt(h:aj w b cs e):b<w.heap.size:=(dv.1 h).1
theorem aj.set(h:aj w b cs e)(i:Nat)(v:Value):aj (w.setCell ⟨b,i,none⟩ v) b (cs.setIfInBounds i v) e:=by
 unfold aj at *;simp[World.setCell,nj,h]
theorem aj.other(h:aj w b cs e){b' i:Nat}(a:b'≠b)(v:Value):aj (w.setCell ⟨b',i,none⟩ v) b cs e:=by
 unfold aj at *;rw[Below.heap_setCell _ _ _ _ (Ne.symm a)];exact h
theorem aj.alloc(h:aj w b cs e)(o:Obj):aj (w.alloc o) b cs e:=by
 have a:=h.lt;unfold aj at *;rw[di _ _ _ a];exact h
theorem aj.new(w:World)(cs:Array Value)(e:Nat):aj (w.alloc (.cells cs e)) w.heap.size cs e:=n7 w _
theorem aj.grown(h:aj w b cs e){r:Option Nat}(c:w.grownBy w' r)(a:some b≠r):aj w' b cs e:=by
 have d:=h.lt;unfold aj at *;rw[c.block b d a];exact h
theorem aX(w:World)(o:Obj)(r:Option Nat):w.grownBy (w.alloc o) r:=qh w o r
end
theorem Rd.alloc{b a:Nat}{L:List Tk}{p:Nat}{w:World}{ts:List Tk}{o:Int}(h:Rd b a L p w ts o)(c:Obj):Rd b a L p (w.alloc c) ts o :=
 h.grown (aX w c none) (by simp) (by simp)
theorem Rd.setOther{c a:Nat}{L:List Tk}{p:Nat}{w:World}{ts:List Tk}{o:Int}(h:Rd c a L p w ts o){b:Nat}(i:Nat)(v:Value)(d:b≠p)(f:b≠c):Rd c a L p (w.setCell ⟨b,i,none⟩ v) ts o :=
 h.grown (iM w b i v) (by simp;exact Ne.symm d) (by simp;exact Ne.symm f)
theorem dZ{w u:World}{r:Option Nat}(h:w.grownBy u r){b:Nat}(f:w.heap.size<=b)(i:Nat)(v:Value):w.grownBy (u.setCell ⟨b,i,none⟩ v) r :=
 ⟨h.os,h.tape,h.output,by have:=h.size;simpa [World.setCell]using this,fun k c a=>(Below.heap_setCell _ _ _ _ (fun e=>by have d:k=b:=e;omega)).trans (h.block k c a)⟩
theorem ahF{d:Nat}(A l:Nat)(L:List Tk)(p:Nat)(w:World)(ts:List Tk)(o:Int)(h:Rd A l L p w ts o)(f:¬Lx.hd ts=mF)(r:Lx.isName (Lx.hd ts)=true):
  Calls prog 193 #[.pointer (some ⟨p,0,none⟩)] w (Ends A l L p o (NJ d w.heap.size) w (iB (iF d) ts)):=by
 have hsz:=h.hsz;have K:Hid (iB (iF d) ts=.ok (⟨0,Lx.hd ts,(dJ ts.tail).1,[],Lx.pl ts⟩,(dJ ts.tail).2)):=by
  show _=_;unfold iB;rw[dk f,de r]
 have P:Hid (eG Lx.isName ts=.ok (Lx.hd ts,ts.tail)):=de r;have B:Hid _:=r;have M:Hid _:=f;clear r f;have h2:=(h.alloc (.cells #[.int .i64 0,.string ⟨#[]⟩,.int .u8 0,.slice none 0 0] 262)).alloc (.cells #[.int .i64 0,.string ⟨#[]⟩,.int .u8 0,.slice none 0 0] 262);have kB:=(aj.new w #[.int .i64 0,.string ⟨#[]⟩,.int .u8 0,.slice none 0 0] 262).alloc (.cells #[.int .i64 0,.string ⟨#[]⟩,.int .u8 0,.slice none 0 0] 262);have s:=aj.new (w.alloc (.cells #[.int .i64 0,.string ⟨#[]⟩,.int .u8 0,.slice none 0 0] 262)) #[.int .i64 0,.string ⟨#[]⟩,.int .u8 0,.slice none 0 0] 262;have E:=aL (aX w (.cells #[.int .i64 0,.string ⟨#[]⟩,.int .u8 0,.slice none 0 0] 262) (some p)) (aX _ (.cells #[.int .i64 0,.string ⟨#[]⟩,.int .u8 0,.slice none 0 0] 262) (some p));rw[show (w.alloc (.cells #[.int .i64 0,.string ⟨#[]⟩,.int .u8 0,.slice none 0 0] 262)).heap.size=w.heap.size+1 by simp]at s;have V:=h.lt;have T:=h.Ag;go_enter func193,ntmps193
 go_wp2_with (first
  | (go_at_call 111;refine(oF h2).mono ?_;rintro e y⟨rfl,q⟩;obtain rfl:=q.symm)
  | (go_at_call 114;refine(wN h2 mF).mono ?_;rintro e y⟨rfl,q⟩;obtain rfl:=q.symm;rw[eV M.out])
  | (go_at_call 72;refine(Df _ _ hsz).mono ?_;rintro e y⟨rfl,q⟩;obtain rfl:=q.symm;rw[B.out]))
 refine(aa7 h2).mono ?_;intro e w1 x;obtain⟨v,rfl,c,u,rfl⟩:=x.ok P.out;clear x;have j:=kB.grown c (by simp;omega);have n:=s.grown c (by simp;omega);have F:w1.cell? ⟨w.heap.size+1,0,none⟩=some (.int .i64 0):=n.cell 0;have J:w1.cell? ⟨w.heap.size+1,1,none⟩=some (.string ⟨#[]⟩):=n.cell 1;have C:∀i,w1.frozen? ⟨w.heap.size+1,i,none⟩=false:=n.frozen;have h3:=(u.setOther (b:=w.heap.size+1) 0 (.int .i64 0) (by omega) (by omega)).setOther (b:=w.heap.size+1) 1 (.string (Lx.hd ts)) (by omega) (by omega);have m:=(j.other (b':=w.heap.size+1) (i:=0) (by omega) (.int .i64 0)).other (b':=w.heap.size+1) (i:=1) (by omega) (.string (Lx.hd ts));have z:=(n.set 0 (.int .i64 0)).set 1 (.string (Lx.hd ts));have I:=aL E c;clear j n kB s;go_wp2_with fail;refine(R9 h3).mono ?_;rintro e w2⟨rfl,g,t⟩;have a:=m.grown g (by simp;omega);have k:=z.grown g (by simp;omega);have S:w2.cell? ⟨w.heap.size+1,0,none⟩=some (.int .i64 0):=k.cell 0;have X:w2.cell? ⟨w.heap.size+1,1,none⟩=some (.string (Lx.hd ts)):=k.cell 1;have Q:w2.cell? ⟨w.heap.size+1,2,none⟩=some (.int .u8 0):=k.cell 2;have W:w2.cell? ⟨w.heap.size+1,3,none⟩=some (.slice none 0 0):=k.cell 3;have O:w2.cell? ⟨w.heap.size,0,none⟩=some (.int .i64 0):=a.cell 0;have D:w2.cell? ⟨w.heap.size,1,none⟩=some (.string ⟨#[]⟩):=a.cell 1;have G:w2.cell? ⟨w.heap.size,2,none⟩=some (.int .u8 0):=a.cell 2;have N:w2.cell? ⟨w.heap.size,3,none⟩=some (.slice none 0 0):=a.cell 3;have U:∀i,w2.frozen? ⟨w.heap.size+1,i,none⟩=false:=k.frozen
 have R:∀i,w2.frozen? ⟨w.heap.size,i,none⟩=false:=a.frozen;have H:=aL (dZ (dZ I (by omega) 0 (.int .i64 0)) (by omega) 1 (.string (Lx.hd ts))) g;clear m z F J C;go_wp2_with fail;refine fx (v:=.agg #[.int .i64 0,.string (Lx.hd ts),.int .u8 ((dJ ts.tail).1:Int),.slice none 0 0]) (by simp[results,results193,go_sem,O,D,G,N]) rfl ?_;refine Ends.yes K.out (dZ (dZ (dZ (dZ (dZ H (by omega) _ _) (io _) _ _) (io _) _ _) (io _) _ _) (io _) _ _) ?_ ⟨_,rfl,eD.nil _ _ _ _⟩;exact((((t.setOther _ _ (by omega) (by omega)).setOther _ _ (by omega) (by omega)).setOther _ _ (by omega) (by omega)).setOther _ _ (by omega) (by omega)).setOther _ _ (by omega) (by omega)
theorem agw{d:Nat}(B m:Nat)(L:List Tk)(p:Nat)(w:World)(ts:List Tk)(o:Int)(h:Rd B m L p w ts o)(g:¬Lx.hd ts=mF)(c:Lx.isName (Lx.hd ts)=false)(s:Lx.isToken (Lx.hd ts)=true):
  Calls prog 193 #[.pointer (some ⟨p,0,none⟩)] w (Ends B m L p o (NJ d w.heap.size) w (iB (iF d) ts)):=by
 have hsz:=h.hsz;have K:Hid (iB (iF d) ts=.ok (⟨1,Lx.hd ts,(dJ ts.tail).1,[],Lx.pl ts⟩,(dJ ts.tail).2)):=by
  show _=_;unfold iB;rw[dk g,dk (by rw[c];simp),de s]
 have Q:Hid (eG Lx.isToken ts=.ok (Lx.hd ts,ts.tail)):=de s;have R:Hid _:=s;have M:Hid _:=g;have N:Hid _:=c;clear s g c;have h2:=(h.alloc (.cells #[.int .i64 0,.string ⟨#[]⟩,.int .u8 0,.slice none 0 0] 262)).alloc (.cells #[.int .i64 0,.string ⟨#[]⟩,.int .u8 0,.slice none 0 0] 262);have kB:=(aj.new w #[.int .i64 0,.string ⟨#[]⟩,.int .u8 0,.slice none 0 0] 262).alloc (.cells #[.int .i64 0,.string ⟨#[]⟩,.int .u8 0,.slice none 0 0] 262);have t:=aj.new (w.alloc (.cells #[.int .i64 0,.string ⟨#[]⟩,.int .u8 0,.slice none 0 0] 262)) #[.int .i64 0,.string ⟨#[]⟩,.int .u8 0,.slice none 0 0] 262;have E:=aL (aX w (.cells #[.int .i64 0,.string ⟨#[]⟩,.int .u8 0,.slice none 0 0] 262) (some p)) (aX _ (.cells #[.int .i64 0,.string ⟨#[]⟩,.int .u8 0,.slice none 0 0] 262) (some p));rw[show (w.alloc (.cells #[.int .i64 0,.string ⟨#[]⟩,.int .u8 0,.slice none 0 0] 262)).heap.size=w.heap.size+1 by simp]at t;have X:=h.lt;have V:=h.Ag;go_enter func193,ntmps193
 go_wp2_with (first
  | (go_at_call 111;refine(oF h2).mono ?_;rintro e z⟨rfl,r⟩;obtain rfl:=r.symm)
  | (go_at_call 114;refine(wN h2 mF).mono ?_;rintro e z⟨rfl,r⟩;obtain rfl:=r.symm;rw[eV M.out])
  | (go_at_call 72;refine(Df _ _ hsz).mono ?_;rintro e z⟨rfl,r⟩;obtain rfl:=r.symm;rw[N.out]))
 refine(Bp h2).mono ?_;intro e w1 y;obtain⟨v,rfl,f,x,rfl⟩:=y.ok Q.out;clear y;have k:=kB.grown f (by simp;omega);have q:=t.grown f (by simp;omega);have F:w1.cell? ⟨w.heap.size+1,0,none⟩=some (.int .i64 0):=q.cell 0;have J:w1.cell? ⟨w.heap.size+1,1,none⟩=some (.string ⟨#[]⟩):=q.cell 1;have C:∀i,w1.frozen? ⟨w.heap.size+1,i,none⟩=false:=q.frozen;have h3:=(x.setOther (b:=w.heap.size+1) 0 (.int .i64 1) (by omega) (by omega)).setOther (b:=w.heap.size+1) 1 (.string (Lx.hd ts)) (by omega) (by omega);have n:=(k.other (b':=w.heap.size+1) (i:=0) (by omega) (.int .i64 1)).other (b':=w.heap.size+1) (i:=1) (by omega) (.string (Lx.hd ts));have A:=(q.set 0 (.int .i64 1)).set 1 (.string (Lx.hd ts));have I:=aL E f;clear k q kB t;go_wp2_with fail;refine(R9 h3).mono ?_;rintro e w2⟨rfl,j,u⟩;have a:=n.grown j (by simp;omega);have l:=A.grown j (by simp;omega);have U:w2.cell? ⟨w.heap.size+1,0,none⟩=some (.int .i64 1):=l.cell 0;have Z:w2.cell? ⟨w.heap.size+1,1,none⟩=some (.string (Lx.hd ts)):=l.cell 1;have S:w2.cell? ⟨w.heap.size+1,2,none⟩=some (.int .u8 0):=l.cell 2;have Y:w2.cell? ⟨w.heap.size+1,3,none⟩=some (.slice none 0 0):=l.cell 3;have P:w2.cell? ⟨w.heap.size,0,none⟩=some (.int .i64 0):=a.cell 0;have D:w2.cell? ⟨w.heap.size,1,none⟩=some (.string ⟨#[]⟩):=a.cell 1;have G:w2.cell? ⟨w.heap.size,2,none⟩=some (.int .u8 0):=a.cell 2;have O:w2.cell? ⟨w.heap.size,3,none⟩=some (.slice none 0 0):=a.cell 3;have W:∀i,w2.frozen? ⟨w.heap.size+1,i,none⟩=false:=l.frozen
 have T:∀i,w2.frozen? ⟨w.heap.size,i,none⟩=false:=a.frozen;have H:=aL (dZ (dZ I (by omega) 0 (.int .i64 1)) (by omega) 1 (.string (Lx.hd ts))) j;clear n A F J C;go_wp2_with fail;refine fx (v:=.agg #[.int .i64 1,.string (Lx.hd ts),.int .u8 ((dJ ts.tail).1:Int),.slice none 0 0]) (by simp[results,results193,go_sem,P,D,G,O]) rfl ?_;refine Ends.yes K.out (dZ (dZ (dZ (dZ (dZ H (by omega) _ _) (io _) _ _) (io _) _ _) (io _) _ _) (io _) _ _) ?_ ⟨_,rfl,eD.nil _ _ _ _⟩;exact((((u.setOther _ _ (by omega) (by omega)).setOther _ _ (by omega) (by omega)).setOther _ _ (by omega) (by omega)).setOther _ _ (by omega) (by omega)).setOther _ _ (by omega) (by omega)
theorem agx{d:Nat}(HG:Mv d)(I s:Nat)(L:List Tk)(p:Nat)(w:World)(ts:List Tk)(o:Int)(K:o=8 - (d:Int))(h:Rd I s L p w ts o)(M:Lx.hd ts=mF):
  Calls prog 193 #[.pointer (some ⟨p,0,none⟩)] w (Ends I s L p o (NJ d w.heap.size) w (iB (iF d) ts)):=by
 have D:Hid (Lx.hd ts=mF):=M;have HO:Hid (o=8 - (d:Int)):=K;clear M K;have h2:=(h.alloc (.cells #[.int .i64 0,.string ⟨#[]⟩,.int .u8 0,.slice none 0 0] 262)).alloc (.cells #[.int .i64 0,.string ⟨#[]⟩,.int .u8 0,.slice none 0 0] 262);have kB:=(aj.new w #[.int .i64 0,.string ⟨#[]⟩,.int .u8 0,.slice none 0 0] 262).alloc (.cells #[.int .i64 0,.string ⟨#[]⟩,.int .u8 0,.slice none 0 0] 262);have E:=aj.new (w.alloc (.cells #[.int .i64 0,.string ⟨#[]⟩,.int .u8 0,.slice none 0 0] 262)) #[.int .i64 0,.string ⟨#[]⟩,.int .u8 0,.slice none 0 0] 262;have J:=aL (aX w (.cells #[.int .i64 0,.string ⟨#[]⟩,.int .u8 0,.slice none 0 0] 262) (some p)) (aX _ (.cells #[.int .i64 0,.string ⟨#[]⟩,.int .u8 0,.slice none 0 0] 262) (some p));rw[show (w.alloc (.cells #[.int .i64 0,.string ⟨#[]⟩,.int .u8 0,.slice none 0 0] 262)).heap.size=w.heap.size+1 by simp]at E;have hp:=h.lt;have hs:=h.Ag;go_enter func193,ntmps193
 go_wp2_with (first
  | (go_at_call 114;refine(wN h2 mF).mono ?_;rintro e w'⟨rfl,hw⟩;obtain rfl:=hw.symm;rw[fh D.out]))
 refine(HG I s L p _ ts o HO.out h2 D.out).mono ?_;intro e w1 F;cases hgr:iF d ts with
 |error x=>
  obtain⟨n,a⟩:=x;obtain⟨rfl,f⟩:=F.err hgr;exact⟨rfl,Ends.no (by unfold iB;rw[de D.out,hgr]) (aL J f)⟩
 |ok x=>
  obtain⟨l,A⟩:=x;obtain⟨v,rfl,f,H,C⟩:=F.ok hgr;obtain⟨j,q,r,rfl⟩:=eD.form C;have Z:Hid (iB (iF d) ts=.ok (⟨2,aT,(dJ A).1,l,Lx.pl ts⟩,(dJ A).2)):=by
   show _=_;unfold iB;rw[de D.out,hgr]
  clear F hgr;have t:=kB.grown f (by simp;omega);have z:=E.grown f (by simp;omega);have R:w1.cell? ⟨w.heap.size+1,0,none⟩=some (.int .i64 0):=z.cell 0;have Y:w1.cell? ⟨w.heap.size+1,3,none⟩=some (.slice none 0 0):=z.cell 3;have P:∀i,w1.frozen? ⟨w.heap.size+1,i,none⟩=false:=z.frozen;have h3:=(H.setOther (b:=w.heap.size+1) 0 (.int .i64 2) (by omega) (by omega)).setOther (b:=w.heap.size+1) 3 (.slice j q r) (by omega) (by omega);have y:=(t.other (b':=w.heap.size+1) (i:=0) (by omega) (.int .i64 2)).other (b':=w.heap.size+1) (i:=3) (by omega) (.slice j q r);have N:=(z.set 0 (.int .i64 2)).set 3 (.slice j q r);have W:=aL J f;rw[show ((w.alloc (.cells #[.int .i64 0,.string ⟨#[]⟩,.int .u8 0,.slice none 0 0] 262)).alloc (.cells #[.int .i64 0,.string ⟨#[]⟩,.int .u8 0,.slice none 0 0] 262)).heap.size=w.heap.size+2 by simp]at C;clear t z kB E;go_wp2_with fail;refine(R9 h3).mono ?_;rintro e w2⟨rfl,m,G⟩;have g:=y.grown m (by simp;omega);have u:=N.grown m (by simp;omega);have d0:w2.cell? ⟨w.heap.size+1,0,none⟩=some (.int .i64 2):=u.cell 0;have d1:w2.cell? ⟨w.heap.size+1,1,none⟩=some (.string ⟨#[]⟩):=u.cell 1;have d2:w2.cell? ⟨w.heap.size+1,2,none⟩=some (.int .u8 0):=u.cell 2;have d3:w2.cell? ⟨w.heap.size+1,3,none⟩=some (.slice j q r):=u.cell 3;have e0:w2.cell? ⟨w.heap.size,0,none⟩=some (.int .i64 0):=g.cell 0;have Q:w2.cell? ⟨w.heap.size,1,none⟩=some (.string ⟨#[]⟩):=g.cell 1;have T:w2.cell? ⟨w.heap.size,2,none⟩=some (.int .u8 0):=g.cell 2
  have e3:w2.cell? ⟨w.heap.size,3,none⟩=some (.slice none 0 0):=g.cell 3;have f1:∀i,w2.frozen? ⟨w.heap.size+1,i,none⟩=false:=u.frozen;have f2:∀i,w2.frozen? ⟨w.heap.size,i,none⟩=false:=g.frozen;have U:=aL (dZ (dZ W (by omega) 0 (.int .i64 2)) (by omega) 3 (.slice j q r)) m;have B:Dt d (w.heap.size+2) w2 (.slice j q r) l:=((C.move (io _) (iM w1 (w.heap.size+1) 0 (.int .i64 2)) (fun k c=>by cases c;omega)).move (io _) (iM _ (w.heap.size+1) 3 (.slice j q r)) (fun k c=>by cases c;omega)).move (io _) m (fun k c=>by cases c;omega);clear y N R Y P C;go_wp2_with fail;refine fx (v:=.agg #[.int .i64 2,.string ⟨#[]⟩,.int .u8 ((dJ A).1:Int),.slice j q r]) (by simp[results,results193,go_sem,e0,Q,T,e3]) rfl ?_;have O:=iM w2 (w.heap.size+1) 2 (.int .u8 ((dJ A).1:Int));refine Ends.yes Z.out (dZ (dZ (dZ (dZ (dZ U (by omega) _ _) (io _) _ _) (io _) _ _) (io _) _ _) (io _) _ _) ?_ ⟨_,rfl,?_⟩
  ·exact((((G.setOther _ _ (by omega) (by omega)).setOther _ _ (by omega) (by omega)).setOther _ _ (by omega) (by omega)).setOther _ _ (by omega) (by omega)).setOther _ _ (by omega) (by omega)
  ·have m0:=B.move (lo':=w.heap.size) (by omega) O (fun k c=>by cases c;omega)
   have S:=B.move (io _) O (fun k c=>by cases c;omega);have m2:=S.move (io _) (iM _ w.heap.size 0 (.int .i64 2)) (fun k c=>by cases c;omega);have X:=m2.move (io _) (iM _ w.heap.size 1 (.string ⟨#[]⟩)) (fun k c=>by cases c;omega);have V:=X.move (io _) (iM _ w.heap.size 2 (.int .u8 ((dJ A).1:Int))) (fun k c=>by cases c;omega);exact V.move (by omega) (iM _ w.heap.size 3 (.slice j q r)) (fun k c=>by cases c;omega)
theorem aal{d:Nat}(i:Mv d):aak d:=by
 intro f a L p w b o g h c
 by_cases h1:Lx.hd b=mF
 ·exact agx i f a L p w b o g h h1
 ·cases h2:Lx.isName (Lx.hd b)
  ·refine agw f a L p w b o h h1 h2 ?_
   unfold rO at c;rw[eV h1,h2]at c;simpa using c
  ·exact ahF f a L p w b o h h1 h2
end
end Go.Proofs.YtagkodkijkpemaaGreatDoor

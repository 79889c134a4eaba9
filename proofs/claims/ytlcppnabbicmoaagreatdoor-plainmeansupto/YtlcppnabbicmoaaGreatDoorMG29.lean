import Derived.Test.YtlcppnabbicmoaaGreatDoorMG28
import Derived.BigRegion
set_option maxHeartbeats 8000000
set_option maxRecDepth 1000000
namespace Go.Proofs.YtlcppnabbicmoaaGreatDoor
open Lx Go.Proofs.Tryz
open Go.RowKit Tr
namespace Lx
def eP (M:List (List Bool))(n s i j:Nat):Bool:=au (rowAt M s) (i*n+j)
def qH (M:List (List Bool)) (n:Nat):List Nat->Nat->Nat->Prop
 | [],i,j=>i=j
 | s::r,i,j=>∃ k,i<=k/\k<=j/\eP M n s i k=true/\qH M n r k j
def JN (P:List Pd)(row:List Nat)(M:List (List Bool)):Prop:=∀ s i j,i<=j->j<=row.length->eP M (row.length+1) s i j=true->dQ P row (.s s) i j
theorem qH.der {P:List Pd} {row:List Nat} {M:List (List Bool)} (hS:JN P row M):∀ {r:List Nat} {i j:Nat},j<=row.length->qH M (row.length+1) r i j->dQ P row (.r r) i j
 | [],i,j,_,h=>by cases (show i=j from h);exact .nil
 | s::r,i,j,hj,⟨k,h1,h2,h3,h4⟩=>.cons (hS s i k h1 (by omega) h3) (qH.der hS hj h4)
structure DV (P:List Pd) (row:List Nat) (M:List (List Bool)):Prop where
 tok:∀ i (h:i<row.length),eP M (row.length+1) row[i] i (i+1)=true
 pr:∀ p∈P,∀ i j,i<=j->j<=row.length->qH M (row.length+1) p.right i j->eP M (row.length+1) p.left i j=true
def OnS (M:List (List Bool)) (n:Nat):Sy->Nat->Nat->Prop
 | .s s,i,j=>eP M n s i j=true
 | .r l,i,j=>qH M n l i j
theorem DV.all {P:List Pd}{row:List Nat}{M:List (List Bool)}(hC:DV P row M){n:Sy}{i j:Nat}(h:dQ P row n i j):i<=row.length->i<=j/\j<=row.length/\OnS M (row.length+1) n i j:=by
 induction h with
 | @tok a s h =>
  intro _;obtain⟨hl,rfl⟩:=List.getElem?_eq_some_iff.1 h;exact⟨by omega,by omega,hC.tok a hl⟩
 | @pr p a b h _ ih =>
  intro hi;obtain⟨h1,h2,h3⟩:=ih hi;exact⟨h1,h2,hC.pr p h a b h1 h2 h3⟩
 | nil=>exact fun hi=>⟨lr0,hi,rfl⟩
 | @cons s l a b c _ _ i1 i2 =>
  intro hi;obtain⟨h1,h2,h3⟩:=i1 hi;obtain⟨h4,h5,h6⟩:=i2 h2;exact⟨by omega,h5,c,h1,h4,h3,h6⟩
theorem aiK {P:List Pd}{row:List Nat}{M:List (List Bool)}(hS:JN P row M)(hC:DV P row M){s:Nat}:eP M (row.length+1) s 0 row.length=true↔dQ P row (.s s) 0 row.length :=
 ⟨hS s 0 _ (Nat.zero_le _) (lr0),fun h=>(hC.all h (Nat.zero_le _)).2.2⟩
def pz (M:List (List Bool))(s k:Nat):List (List Bool):=M.set s ((rowAt M s).set k true)
theorem rowAt_set {M:List (List Bool)}{s:Nat}(hs:s<M.length)(C:List Bool)(t:Nat):rowAt (M.set s C) t=if s=t then C else rowAt M t:=by
 unfold rowAt;rw[List.getElem?_set]
 by_cases h:s=t
 ·subst h;simp[hs]
 ·simp[h]
theorem aiL {n i j a b:Nat}(hj:j<n)(hb:b<n)(e:i*n+j=a*n+b):i=a/\j=b:=by
 have h1:(i*n+j) / n=i:=by rw[Nat.add_comm,Nat.add_mul_div_right _ _ (by omega),Nat.div_eq_of_lt hj];omega
 have h2:(a*n+b) / n=a:=by rw[Nat.add_comm,Nat.add_mul_div_right _ _ (by omega),Nat.div_eq_of_lt hb];omega
 have h3:i=a:=by rw[<-h1,<-h2,e]
 subst h3;exact⟨rfl,by omega⟩
theorem EM {n i j:Nat}(hi:i<n)(hj:j<n):i*n+j<n*n:=by
 have:(i+1)*n<=n*n:=Nat.mul_le_mul_right _ hi;rw[Nat.add_mul]at this;omega
theorem Ht {M:List (List Bool)}{n:Nat}(h:∀ b∈M,b.length=n*n){s i j:Nat}(hs:s<M.length)(hi:i<n)(hj:j<n){t a b:Nat}(hb:b<n):eP (pz M s (i*n+j)) n t a b=true↔eP M n t a b=true\/(t=s/\a=i/\b=j):=by
 unfold eP pz;rw[rowAt_set hs]
 by_cases e:s=t
 ·subst e
  rw[if_pos rfl,at_set];have hl:(rowAt M s).length=n*n:=by rw[yI hs];exact h _ (List.getElem_mem hs)
  by_cases e2:i*n+j=a*n+b
  ·obtain⟨rfl,rfl⟩:=aiL hj hb e2
   rw[if_pos ⟨rfl,by rw[hl];exact EM hi hj⟩];simp
  ·rw[if_neg (fun h=>e2 h.1)]
   constructor
   ·exact fun h=>.inl h
   ·rintro (h | ⟨-,rfl,rfl⟩)
    ·exact h
    ·exact absurd rfl e2
 ·rw[if_neg e]
  constructor
  ·exact fun h=>.inl h
  ·rintro (h | ⟨h,-,-⟩)
   ·exact h
   ·exact absurd h.symm e
theorem ZC {M:List (List Bool)}{s k:Nat}(hs:s<M.length)(hk:k<(rowAt M s).length)(h:au (rowAt M s) k=false):tot (pz M s k)=tot M+1:=by
 have h1:=Qu (B:=M) (l:=s) (C:=(rowAt M s).set k true) hs;have h2:=EL hk h;rw[yI hs]at h1 h2;unfold pz;rw[yI hs];omega
def RM (g:Gr)(M:List (List Bool))(n:Nat)(b:ByteArray)(i j:Nat):Prop:=i<=j/\j<n/\eP M n (fix (aG g) b) i j=true
theorem MR.bound {R:ByteArray->Nat->Nat->Prop}{row:List ByteArray}(hR:∀ b i j,R b i j->i<=j/\j<=row.length){nd:Nd}{a b:Nat}(h:MR R row nd a b):a<=row.length->a<=b/\b<=row.length:=by
 induction h with
 | alt _ _ ih=>exact ih
 | nil=>exact fun h=>⟨lr0,h⟩
 | cons _ _ i1 i2=>exact fun h=>by have h1:=i1 h;have h2:=i2 h1.2;omega
 | one _ ih=>exact ih
 | non _=>exact fun h=>⟨lr0,h⟩
 | more _ _ _ i1 i2=>exact fun h=>by have h1:=i1 h;have h2:=i2 h1.2;omega
 | @tok x a _ k=>exact fun _=>by obtain⟨hl,-⟩:=List.getElem?_eq_some_iff.1 k;omega
 | aF _ _ ih=>exact ih
 | rA _ k=>exact fun _=>hR _ _ _ k
theorem RM.bd {g:Gr}{M:List (List Bool)}{row:List ByteArray}:∀ b i j,RM g M (row.length+1) b i j->i<=j/\j<=row.length:=fun b i j h=>⟨h.1,by have:=h.2.1;omega⟩
theorem MR.snoc {R:ByteArray->Nat->Nat->Prop} {row:List ByteArray} {x:It}:∀ {l:List It} {a b:Nat},MR R row (.S (l++[x])) a b↔∃ c,MR R row (.S l) a c/\MR R row (.I x) c b
 | [],a,b=>by
  constructor
  ·intro h
   cases h with
   | cons h k=>cases k with | nil=>exact⟨a,.nil,h⟩
  ·rintro⟨c,h,k⟩
   cases h with
   | nil=>exact .cons k .nil
 | y::l,a,b=>by
  constructor
  ·intro h
   cases h with
   | cons h k =>
    obtain⟨c,h1,h2⟩:=MR.snoc.1 k;exact⟨c,.cons h h1,h2⟩
  ·rintro⟨c,h,k⟩
   cases h with
   | cons h h2=>exact .cons h (MR.snoc.2 ⟨c,h2,k⟩)
theorem MR.RY {R:ByteArray->Nat->Nat->Prop}{row:List ByteArray}{a b:Nat}:MR R row (.S []) a b↔a=b:=⟨fun h=>by cases h;rfl,fun h=>h ▸ .nil⟩
theorem MR.QV {R:ByteArray->Nat->Nat->Prop}{row:List ByteArray}{l:List Alt}{x:Alt}{a b:Nat}:MR R row (.A (l++[x])) a b↔MR R row (.A l) a b\/MR R row (.S x.1) a b:=by
 constructor
 ·intro h
  cases h with
  | alt h k =>
   rcases List.mem_append.1 h with h | h
   ·exact .inl (.alt h k)
   ·rw[List.mem_singleton.1 h]at k;exact .inr k
 ·rintro (h | h)
  ·cases h with
   | alt h k=>exact .alt (List.mem_append.2 (.inl h)) k
  ·exact .alt (List.mem_append.2 (.inr List.mem_cons_self)) h
theorem MR.MO {R:ByteArray->Nat->Nat->Prop}{row:List ByteArray}{a b:Nat}:¬ MR R row (.A []) a b:=fun h=>by cases h with | alt h _=>cases h
def From (R:ByteArray->Nat->Nat->Prop)(row:List ByteArray)(A:List Bool)(nd:Nd)(L:List Bool):Prop:=L.length=A.length/\∀ b,b<A.length->(au L b=true↔∃ a,au A a=true/\MR R row nd a b)
theorem yP {A:List Bool}{a:Nat}(h:au A a=true):a<A.length:=by
 unfold au at h;rcases Nat.lt_or_ge a A.length with h1 | h1
 ·exact h1
 ·rw[List.getElem?_eq_none h1]at h;cases h
theorem From.ahC {R:ByteArray->Nat->Nat->Prop}{row:List ByteArray}{A L:List Bool}{x:It}(h0:x.mark=0)(h:From R row A (.P x) L):From R row A (.I x) L:=by
 refine⟨h.1,fun b hb=>(h.2 b hb).trans ⟨fun ⟨a,h1,h2⟩=>⟨a,h1,.one h2⟩,fun ⟨a,h1,h2⟩=>⟨a,h1,?_⟩⟩⟩;cases h2 with
 | one h=>exact h
 | non h=>omega
 | more h _ _=>omega
structure u7 (R:ByteArray->Nat->Nat->Prop) (row:List ByteArray) (A:List Bool) (x:It) (q:Nat) (L:List Bool):Prop where
 len:L.length=A.length
 snd:∀ b,au L b=true->∃ a,au A a=true/\MR R row (.I x) a b
 one:∀ a b,b<A.length->au A a=true->MR R row (.P x) a b->au L b=true
 non:(x.mark=42\/x.mark=63)->∀ a,au A a=true->au L a=true
 cl:(∀ a b,b<A.length->au L a=true->MR R row (.P x) a b->au L b=true)\/q<=bB L
theorem aiM {L:List Bool}(h:L.length<=bB L){b:Nat}(hb:b<L.length):au L b=true:=by
 have h1:L.countP id=L.length:=Nat.le_antisymm List.countP_le_length h;have:=List.countP_eq_length.1 h1 L[b] (List.getElem_mem hb);rw[EW hb];exact this
theorem u7.last {R:ByteArray->Nat->Nat->Prop}{row:List ByteArray}{A L:List Bool}{x:It}{q:Nat}(hR:∀ b i j,R b i j->i<=j/\j<=row.length)(hA:A.length=row.length+1)(h:u7 R row A x q L)(hq:A.length<=q\/x.mark=63)(_hm:x.mark=42\/x.mark=43\/x.mark=63):From R row A (.I x) L:=by
 refine⟨h.len,fun b hb=>⟨h.snd b,fun ⟨a,h1,h2⟩=>?_⟩⟩;have key:∀ {nd:Nd} {a b:Nat},MR R row nd a b->nd=.I x->au A a=true->au L b=true:=by
  intro nd a b hh
  induction hh with
  | @one y a b k _ =>
   intro e ha;cases e;have:=MR.bound hR k (by have:=yP ha;omega);exact h.one a b (by omega) ha k
  | @non y a k=>intro e ha;cases e;exact h.non k a ha
  | @more y a b c k m n i1 _ =>
   intro e ha;cases e;have h3:=i1 rfl ha;have h4:=MR.bound hR m (by have:=yP ha;omega);have h5:=MR.bound hR n h4.2;rcases hq with hq | hq
   ·rcases h.cl with h6 | h6
    ·exact h6 c b (by omega) h3 n
    ·exact aiM (by rw[h.len];omega) (by rw[h.len];omega)
   ·omega
  | alt=>intro e;cases e
  | nil=>intro e;cases e
  | cons=>intro e;cases e
  | tok=>intro e;cases e
  | aF=>intro e;cases e
  | rA=>intro e;cases e
 exact key h2 rfl h1
theorem u7.step {R:ByteArray->Nat->Nat->Prop}{row:List ByteArray}{A L N L2:List Bool}{x:It}{q:Nat}(h:u7 R row A x q L)(hm:x.mark=42\/x.mark=43)(hN:From R row L (.P x) N)(hl:L2.length=L.length)(h2:∀ b,b<L.length->(au L2 b=true↔au L b=true\/au N b=true)):u7 R row A x (q+1) L2:=by
 have TV:bO L L2:=⟨hl.symm,fun i hi=>(h2 i (yP hi)).2 (.inl hi)⟩;refine⟨hl.trans h.len,fun b hb=>?_,fun a b hb h1 h3=>TV.2 _ (h.one a b hb h1 h3),fun k a ha=>TV.2 _ (h.non k a ha),?_⟩
 ·have hb2:=yP hb
  rcases (h2 b (by omega)).1 hb with h3 | h3
  ·exact h.snd b h3
  ·obtain⟨c,h4,h5⟩:=(hN.2 b (by omega)).1 h3
   obtain⟨a,h6,h7⟩:=h.snd c h4;exact⟨a,h6,.more hm h7 h5⟩
 ·by_cases hc:∀ a b,b<A.length->au L a=true->MR R row (.P x) a b->au L b=true
  ·left
   have e:L2=L:=Am hl fun k hk=>by
    have:=h2 k (by omega);cases h3:au L k with
    | true=>exact this.2 (.inl h3)
    | false =>
     cases h4:au L2 k with
     | false=>rfl
     | true =>
      rcases this.1 h4 with h5 | h5
      ·rw[h3]at h5;cases h5
      ·obtain⟨c,h6,h7⟩:=(hN.2 k (by omega)).1 h5
       have:=hc c k (by rw[<-h.len];omega) h6 h7;rw[h3]at this;cases this
   rw[e];exact hc
  ·right
   have h3:=h.cl.resolve_left hc;have:∃ a b,b<A.length/\au L a=true/\MR R row (.P x) a b/\au L b=false:=by
    refine Classical.byContradiction fun hn=>hc fun a b h4 h5 h6=>?_
    cases h7:au L b with
    | true=>rfl
    | false=>exact absurd ⟨a,b,h4,h5,h6,h7⟩ hn
   obtain⟨a,b,h4,h5,h6,h7⟩:=this;have h8:au L2 b=true:=(h2 b (by rw[h.len];exact h4)).2 (.inr ((hN.2 b (by rw[h.len];exact h4)).2 ⟨a,h5,h6⟩));have:=cnt_lt b TV h7 h8;omega
def qJ (g:Gr)(row:List ByteArray)(M:List (List Bool)):Prop:=∀ r (hr:r<g.rules.length) i j,i<=j->j<=row.length->eP M (row.length+1) r i j=true->Mn g.rules row (.A g.rules[r].alts) i j
theorem qJ.sub {g:Gr}{row:List ByteArray}{M:List (List Bool)}(h:qJ g row M)(hM:M.length=g.rules.length){nd:Nd}{a b:Nat}(k:MR (RM g M (row.length+1)) row nd a b):Mn g.rules row nd a b:=by
 refine k.whole fun nm i j ⟨h1,h2,h3⟩=>?_
 have hf:fix (aG g) nm<g.rules.length:=by
  rcases Nat.lt_or_ge (fix (aG g) nm) g.rules.length with h4 | h4
  ·exact h4
  ·unfold eP rowAt at h3
   rw[List.getElem?_eq_none (by omega)]at h3;cases h3
 have hl:fix (aG g) nm<(aG g).length:=by simpa [aG]using hf
 have h6:(aG g)[fix (aG g) nm]?=some nm:=by rw[List.getElem?_eq_getElem hl];exact congrArg some (of_decide_eq_true (List.findIdx_getElem (w:=hl)))
 refine⟨g.rules[fix (aG g) nm],List.getElem_mem hf,?_,h _ hf i j h1 (by omega) h3⟩;clear hl h3;generalize fix (aG g) nm=q at hf h6;simpa [aG,hf]using h6
def TW (g:Gr)(row:List ByteArray)(M:List (List Bool)):Prop:=∀ r (hr:r<g.rules.length) i j,i<=j->j<=row.length->MR (RM g M (row.length+1)) row (.A g.rules[r].alts) i j->eP M (row.length+1) r i j=true
theorem MR.guard {R:ByteArray->Nat->Nat->Prop}{row:List ByteArray}(hR:∀ b i j,R b i j->i<=j/\j<=row.length){nd:Nd}{a b:Nat}(k:MR (fun b i j=>i<=row.length->R b i j) row nd a b):a<=row.length->a<=b/\b<=row.length/\MR R row nd a b:=by
 induction k with
 | alt h _ ih=>exact fun ha=>⟨(ih ha).1,(ih ha).2.1,.alt h (ih ha).2.2⟩
 | nil=>exact fun ha=>⟨lr0,ha,.nil⟩
 | cons _ _ i1 i2=>exact fun ha=>⟨Nat.le_trans (i1 ha).1 (i2 (i1 ha).2.1).1,(i2 (i1 ha).2.1).2.1,.cons (i1 ha).2.2 (i2 (i1 ha).2.1).2.2⟩
 | one _ ih=>exact fun ha=>⟨(ih ha).1,(ih ha).2.1,.one (ih ha).2.2⟩
 | non h=>exact fun ha=>⟨lr0,ha,.non h⟩
 | more h _ _ i1 i2=>exact fun ha=>⟨Nat.le_trans (i1 ha).1 (i2 (i1 ha).2.1).1,(i2 (i1 ha).2.1).2.1,.more h (i1 ha).2.2 (i2 (i1 ha).2.1).2.2⟩
 | @tok x a h k=>exact fun ha=>⟨by omega,by obtain⟨hl,-⟩:=List.getElem?_eq_some_iff.1 k;omega,.tok h k⟩
 | aF h _ ih=>exact fun ha=>⟨(ih ha).1,(ih ha).2.1,.aF h (ih ha).2.2⟩
 | rA h k=>exact fun ha=>⟨(hR _ _ _ (k ha)).1,(hR _ _ _ (k ha)).2,.rA h (k ha)⟩
theorem aiN {g:Gr}{row:List ByteArray}{M:List (List Bool)}(hS:qJ g row M)(hC:TW g row M)(nd:(g.rules.map Rl.name).Nodup)(h0:0<g.rules.length):eP M (row.length+1) 0 0 row.length=true↔Mn g.rules row (.A g.rules[0].alts) 0 row.length:=by
 refine⟨hS 0 h0 0 _ (Nat.zero_le _) (lr0),fun h=>?_⟩;have hR:∀ (b:ByteArray) (i j:Nat),RM g M (row.length+1) b i j->i<=j/\j<=row.length:=RM.bd;have h1:MR (fun b i j=>i<=row.length->RM g M (row.length+1) b i j) row (.A g.rules[0].alts) 0 row.length:=by
  refine h.by fun r hr i j k hi=>?_
  obtain⟨q,hq,rfl⟩:=List.getElem_of_mem hr;have k2:MR (RM g M (row.length+1)) row (.A g.rules[q].alts) i j:=by
   exact (MR.guard hR k hi).2.2
  have hb:=MR.bound hR k2 hi;refine⟨hb.1,by omega,?_⟩;have e:fix (aG g) g.rules[q].name=q:=QD (by simp[aG,hq]) fun i hi=>by
   intro e;obtain⟨l1,e1⟩:=List.getElem?_eq_some_iff.1 e;have l2:q<(aG g).length:=by simpa [aG]using hq
   have e2:(aG g)[i]=(aG g)[q]:=by rw[e1];simp[aG]
   have:=(List.getElem_inj (xs:=aG g) nd).1 e2;omega
  rw[e];exact hC q hq i j hb.1 hb.2 k2
 have h2:MR (RM g M (row.length+1)) row (.A g.rules[0].alts) 0 row.length:=by
  exact (MR.guard hR h1 (Nat.zero_le _)).2.2
 exact hC 0 h0 0 _ (Nat.zero_le _) (lr0) h2
section
variable {R:ByteArray -> Nat -> Nat -> Prop} {row:List ByteArray} {A L N:List Bool} {x:It}
theorem EO {n k:Nat}:au (List.replicate n false) k=false:=by
 unfold au;rw[List.getElem?_replicate]
 split <;> rfl
theorem Qf {L N:List Bool}{b:Nat}(hb:b<L.length):au (bV L N L.length) b=true↔au L b=true\/au N b=true:=by
 rw[Ai L N _ hb];simp[hb]
theorem From.MO:From R row A (.A []) (List.replicate A.length false):=by
 refine⟨by simp,fun b hb=>⟨fun h=>?_,fun ⟨a,_,h⟩=>absurd h MR.MO⟩⟩;rw[EO]at h;cases h
theorem From.RY:From R row A (.S []) A:=⟨rfl,fun b hb=>⟨fun h=>⟨b,h,.nil⟩,fun ⟨a,h,k⟩=>by rwa [<-MR.RY.1 k]⟩⟩
theorem From.snoc (hR:∀ b i j,R b i j->i<=j/\j<=row.length)(hA:A.length=row.length+1){l:List It}(h:From R row A (.S l) L)(h2:From R row L (.I x) N):From R row A (.S (l++[x])) N:=by
 refine⟨h2.1.trans h.1,fun b hb=>?_⟩;rw[h2.2 b (by rw[h.1];exact hb)];constructor
 ·rintro⟨c,h3,h4⟩
  obtain⟨a,h5,h6⟩:=(h.2 c (by have:=yP h3;rwa [h.1]at this)).1 h3;exact⟨a,h5,MR.snoc.2 ⟨c,h6,h4⟩⟩
 ·rintro⟨a,h3,h4⟩
  obtain⟨c,h5,h6⟩:=MR.snoc.1 h4;have:=MR.bound hR h5 (by have:=yP h3;omega);exact⟨c,(h.2 c (by omega)).2 ⟨a,h3,h5⟩,h6⟩
theorem From.join {l:List Alt}{al:Alt}(h:From R row A (.A l) L)(h2:From R row A (.S al.1) N):From R row A (.A (l++[al])) (bV L N L.length):=by
 refine⟨by rw[lT];exact h.1,fun b hb=>?_⟩;rw[Qf (by rw[h.1];exact hb),h.2 b hb,h2.2 b hb];constructor
 ·rintro (⟨a,h3,h4⟩ | ⟨a,h3,h4⟩)
  ·exact⟨a,h3,MR.QV.2 (.inl h4)⟩
  ·exact⟨a,h3,MR.QV.2 (.inr h4)⟩
 ·rintro⟨a,h3,h4⟩
  rcases MR.QV.1 h4 with h4 | h4
  ·exact .inl ⟨a,h3,h4⟩
  ·exact .inr ⟨a,h3,h4⟩
def jm (R:ByteArray->Nat->Nat->Prop)(row:List ByteArray)(A:List Bool)(x:It)(q:Nat)(L:List Bool):Prop:=L.length=A.length/\∀ b,b<A.length->(au L b=true↔∃ a,a<q/\au A a=true/\MR R row (.P x) a b)
theorem jm.zero:jm R row A x 0 (List.replicate A.length false):=by
 refine⟨by simp,fun b hb=>⟨fun h=>?_,fun ⟨a,h,_⟩=>by omega⟩⟩;rw[EO]at h;cases h
theorem jm.last (h:jm R row A x A.length L):From R row A (.P x) L :=
 ⟨h.1,fun b hb=>(h.2 b hb).trans ⟨fun ⟨a,_,h1,h2⟩=>⟨a,h1,h2⟩,fun ⟨a,h1,h2⟩=>⟨a,yP h1,h1,h2⟩⟩⟩
theorem jm.step {q:Nat}(h:jm R row A x q L){L2:List Bool}(hl:L2.length=L.length)(h2:∀ b,b<A.length->(au L2 b=true↔au L b=true\/(au A q=true/\MR R row (.P x) q b))):jm R row A x (q+1) L2:=by
 refine⟨hl.trans h.1,fun b hb=>?_⟩;rw[h2 b hb,h.2 b hb];constructor
 ·rintro (⟨a,h3,h4,h5⟩ | ⟨h3,h4⟩)
  ·exact⟨a,by omega,h4,h5⟩
  ·exact⟨q,by omega,h3,h4⟩
 ·rintro⟨a,h3,h4,h5⟩
  by_cases e:a=q
  ·subst e;exact .inr ⟨h4,h5⟩
  ·exact .inl ⟨a,by omega,h4,h5⟩
theorem jm.skip {q:Nat}(h:jm R row A x q L)(h0:au A q=false):jm R row A x (q+1) L :=
 h.step rfl fun b hb=>⟨fun h=>.inl h,fun h=>h.elim id fun h=>by rw[h0]at h;cases h.1⟩
theorem YX (hk:x.kind=1){a b:Nat}:MR R row (.P x) a b↔row[a]?=some x.name/\b=a+1:=by
 constructor
 ·intro h
  cases h with
  | tok _ k=>exact⟨k,rfl⟩
  | aF h _=>omega
  | rA h _=>omega
 ·rintro⟨h,rfl⟩;exact .tok hk h
theorem aiO (hk:x.kind=0){a b:Nat}:MR R row (.P x) a b↔R x.name a b:=by
 constructor
 ·intro h
  cases h with
  | tok h _=>omega
  | aF h _=>omega
  | rA _ h=>exact h
 ·exact fun h=>.rA hk h
theorem YZ (hk:x.kind=2){a b:Nat}:MR R row (.P x) a b↔MR R row (.A x.alts) a b:=by
 constructor
 ·intro h
  cases h with
  | tok h _=>omega
  | aF _ h=>exact h
  | rA h _=>omega
 ·exact fun h=>.aF hk h
theorem From.aF (hk:x.kind=2)(h:From R row A (.A x.alts) L):From R row A (.P x) L :=
 ⟨h.1,fun b hb=>(h.2 b hb).trans ⟨fun ⟨a,h1,h2⟩=>⟨a,h1,(YZ hk).2 h2⟩,fun ⟨a,h1,h2⟩=>⟨a,h1,(YZ hk).1 h2⟩⟩⟩
theorem jm.akT {q:Nat}(h:jm R row A x q L)(_hA:A.length=row.length+1)(hk:x.kind=1)(ha:au A q=true)(hn:row[q]?=some x.name):jm R row A x (q+1) (L.set (q+1) true):=by
 refine h.step (by simp) fun b hb=>?_
 have hq:q<row.length:=(List.getElem?_eq_some_iff.1 hn).1;rw[at_set,YX hk]
 by_cases e:q+1=b
 ·subst e
  rw[if_pos ⟨rfl,by rw[h.1];exact hb⟩];simp[ha,hn]
 ·rw[if_neg (fun h=>e h.1)]
  constructor
  ·exact fun h=>.inl h
  ·rintro (h | ⟨_,_,rfl⟩)
   ·exact h
   ·exact absurd rfl e
theorem jm.iV {q:Nat}(h:jm R row A x q L)(hk:x.kind=1)(hn:row[q]?≠some x.name):jm R row A x (q+1) L :=
 h.step rfl fun _ _=>⟨fun h=>.inl h,fun h=>h.elim id fun h=>absurd ((YX hk).1 h.2).1 hn⟩
def rO (M:List (List Bool))(n r q:Nat):List Bool:=(List.range n).map fun k=>decide (q<=k) && eP M n r q k
theorem Qg {M:List (List Bool)}{n r q k:Nat}(h:k<n):au (rO M n r q) k=(decide (q<=k) && eP M n r q k):=by
 unfold rO au;rw[List.getElem?_map,List.getElem?_range h];rfl
theorem agD {M:List (List Bool)}{n r q:Nat}(hL:L.length=n):bV L (rO M n r q) q=L:=by
 refine Am (lT _ _ _) fun k hk=>?_
 rw[lT]at hk;rw[Ai _ _ _ hk,Qg (by omega)]
 by_cases h1:k<q
 ·have h2:¬ q<=k:=by omega
  simp[h1,h2]
 ·simp[h1]
theorem jm.rule {g:Gr}{M:List (List Bool)}{n q:Nat}(h:jm (RM g M n) row A x q L)(hA:A.length=n)(hk:x.kind=0)(ha:au A q=true):jm (RM g M n) row A x (q+1) (bV L (rO M n (fix (aG g) x.name) q) n):=by
 have hl:L.length=n:=h.1.trans hA;refine h.step (lT _ _ _) fun b hb=>?_
 rw[aiO hk,<-hl,Qf (by omega),hl,Qg (by omega)];unfold RM;simp[ha];constructor
 ·rintro (h | ⟨h1,h2⟩)
  ·exact .inl h
  ·exact .inr ⟨h1,by omega,h2⟩
 ·rintro (h | ⟨h1,-,h2⟩)
  ·exact .inl h
  ·exact .inr ⟨h1,h2⟩
def upTo (n:Nat)(f:Nat->Bool)(t:Nat):List Bool:=(List.range n).map fun k=>decide (k<t) && f k
theorem ED {n:Nat}{f:Nat->Bool}{t:Nat}:(upTo n f t).length=n:=by simp[upTo]
theorem ZE {n:Nat}{f:Nat->Bool}{t k:Nat}(h:k<n):au (upTo n f t) k=(decide (k<t) && f k):=by
 unfold upTo au;rw[List.getElem?_map,List.getElem?_range h];rfl
theorem ahD {n:Nat}{f:Nat->Bool}:upTo n f 0=List.replicate n false :=
 Am (by simp[upTo]) fun k hk=>by rw[ED]at hk;rw[ZE hk,EO];simp
theorem aiP {n:Nat}{f:Nat->Bool}{t:Nat}:(upTo n f t).set t (f t)=upTo n f (t+1):=by
 refine List.ext_getElem? fun k=>?_
 rw[List.getElem?_set,ED];unfold upTo
 by_cases e:t=k
 ·subst e
  rw[if_pos rfl]
  by_cases h:t<n
  ·rw[if_pos h,List.getElem?_map,List.getElem?_range h]
   simp
  ·rw[if_neg h,List.getElem?_eq_none (by simpa using h)]
 ·rw[if_neg e,List.getElem?_map,List.getElem?_map]
  by_cases h:k<n
  ·rw[List.getElem?_range h]
   have:(k<t)↔(k<t+1):=by omega
   simp[this]
  ·rw[List.getElem?_eq_none (by simpa using h)];rfl
def yX (A O:List Bool)(m:Nat)(k:Nat):Bool:=au O k || (au A k && decide (m≠43))
theorem u7.beg {O:List Bool}(hO:From R row A (.P x) O)(hm:x.mark=42\/x.mark=43\/x.mark=63):u7 R row A x 0 (upTo A.length (yX A O x.mark) A.length):=by
 have hat:∀ b,au (upTo A.length (yX A O x.mark) A.length) b=true↔b<A.length/\(au O b=true\/(au A b=true/\x.mark≠43)):=by
  intro b
  by_cases hb:b<A.length
  ·rw[ZE hb];simp[yX,hb]
  ·constructor
   ·intro h;have:=yP h;rw[ED]at this;omega
   ·intro h;omega
 refine⟨ED,fun b hb=>?_,fun a b hb ha h=>?_,fun h a ha=>?_,.inr (Nat.zero_le _)⟩
 ·obtain⟨h1,h2 | ⟨h2,h3⟩⟩:=(hat b).1 hb
  ·obtain⟨a,h4,h5⟩:=(hO.2 b h1).1 h2
   exact⟨a,h4,.one h5⟩
  ·exact⟨b,h2,.non (by omega)⟩
 ·exact (hat b).2 ⟨hb,.inl ((hO.2 b hb).2 ⟨a,ha,h⟩)⟩
 ·exact (hat a).2 ⟨yP ha,.inr ⟨ha,by omega⟩⟩
end
end Lx
structure Hu (w:World) (nT nN:Nat) (vP:Value) (P:List Lx.Pd):Prop where
 pp:PR (fun _=>True) w vP P
 ok:yV (nT+nN) P
 bd:nT+nN<=100000
 pl:P.length<=100000
theorem Hu.below {w w':World}{nT nN:Nat}{vP:Value}{P:List Lx.Pd}(h:Hu w nT nN vP P)(hb:Below w.heap.size w w'):Hu w' nT nN vP P:=⟨h.pp.below hb,h.ok,h.bd,h.pl⟩
theorem ahE {w:World}{ta na pa ba ka:Option Addr}{nT tc nN nc np pc nb bc nk kc:Nat}(hbd:nT+nN<=100000):Calls prog 34 #[.agg #[.slice ta nT tc,.slice na nN nc,.slice pa np pc,.slice ba nb bc,.slice ka nk kc]] w fun e w'=>e=.returned (.int .i64 ((nT+nN:Nat):Int))/\Below w.heap.size w w':=by
 go_enter func34,ntmps34;go_wp2_with fail;go_ret;exact⟨by rw[Int.natCast_add];rfl,(Below.refl _ _).alloc (lr0) _⟩
structure BD (B0:Nat) (w:World) (v:Value) (nT:Nat) (gs:List Nat) (B:List (List Bool)):Prop where
 outer:w.ownsRow B0 39 1 v gs.length (gs.map (rz nT))
 len:B.length=gs.length
 rows:∀ i (hi:i<gs.length) (hi':i<B.length),aj w gs[i] (aL B[i]) 4
 rl:∀ b∈B,b.length=nT
 nd:gs.Nodup
 ge:∀ g∈gs,B0<=g
section
variable {B0:Nat} {w w':World} {v:Value} {nT:Nat} {gs:List Nat} {B:List (List Bool)}
theorem BD.lt (h:BD B0 w v nT gs B){g:Nat}(hg:g∈gs):g<w.heap.size:=by
 obtain⟨i,hi,rfl⟩:=List.getElem_of_mem hg;exact (h.rows i hi (by rw[h.len];exact hi)).lt
theorem BD.no (h:BD B0 w v nT gs B){g:Nat}(hg:g∈gs):v.ownBlock≠some g:=by
 obtain⟨i,hi,rfl⟩:=List.getElem_of_mem hg;exact fun e=>own_ne h.outer (h.rows i hi (by rw[h.len];exact hi)) (by decide) _ e rfl
theorem BD.at (h:BD B0 w v nT gs B){i:Nat}(hi:i<gs.length):∃ gO cap,v=.slice (some ⟨gO,0,none⟩) gs.length cap/\w.cell? ⟨gO,i,none⟩=some (.slice (some ⟨gs[i],0,none⟩) nT nT)/\aj w gs[i] (aL (Lx.rowAt B i)) 4/\(Lx.rowAt B i).length=nT:=by
 have hi':i<B.length:=by rw[h.len];exact hi
 have ho:=h.outer;obtain⟨gO,cap,rfl,-,-⟩:=ho.form (by omega);refine⟨gO,cap,rfl,?_,?_⟩
 ·rw[ho.cellAt i (by omega)]
  simp[hi,rz]
 ·rw[yI hi']
  exact⟨h.rows i hi hi',h.rl _ (List.getElem_mem hi')⟩
theorem BD.join (h:BD B0 w v nT gs B){l:Nat}(hl:l<gs.length){A C:List Bool}(hj:mE w gs[l] A C w')(hC:C.length=nT):BD B0 w' v nT gs (B.set l C):=by
 have hno:=h.no (List.getElem_mem hl);obtain⟨h1,h2,h3,h4,h5,h6⟩:=h;refine⟨aD h1 fun g hg=>hj.wR g (fun e=>hno (e ▸ hg)),by rw[List.length_set];exact h2,fun i hi hi'=>?_,fun b hb=>?_,h5,h6⟩
 ·rw[List.getElem_set]
  by_cases e:l=i
  ·subst e;rw[if_pos rfl];exact hj.blk
  ·rw[if_neg e]
   refine (hj.wR _ fun e2=>e ?_).trans (h3 i hi (by rw[h2];exact hi));exact ((List.getElem_inj h5).1 e2).symm
 ·rcases List.mem_or_eq_of_mem_set hb with hb | rfl
  ·exact h4 b hb
  ·exact hC
theorem BD.move (h:BD B0 w v nT gs B)(hk:∀ g,g<w.heap.size->w'.heap[g]?=w.heap[g]?):BD B0 w' v nT gs B :=
 ⟨aD h.outer fun g hg=>hk g (h.outer.lt g hg).2,h.len,fun i hi hi'=>(hk _ (h.rows i hi hi').lt).trans (h.rows i hi hi'),h.rl,h.nd,h.ge⟩
theorem BD.push (h:BD B0 w v nT gs B){w2:World}{v2:Value}{gN:Nat}{R:List Bool}(hgN:w.heap.size<=gN)(hB:B0<=w.heap.size)(hw:∀ g,g<w.heap.size->v.ownBlock≠some g->w2.heap[g]?=w.heap[g]?)(ho:w2.ownsRow B0 39 1 v2 (gs.length+1) (gs.map (rz nT)++[rz nT gN]))(hR:aj w2 gN (aL R) 4)(hl:R.length=nT):BD B0 w2 v2 nT (gs++[gN]) (B++[R]):=by
 have hno:∀ g∈gs,v.ownBlock≠some g:=fun g hg=>h.no hg
 have hlt:∀ g∈gs,g<w.heap.size:=fun g hg=>h.lt hg
 obtain⟨h1,h2,h3,h4,h5,h6⟩:=h;refine⟨by rw[List.length_append,List.map_append];exact ho,by simp[h2],fun i hi hi'=>?_,fun b hb=>?_,?_,fun g hg=>?_⟩
 ·by_cases hig:i<gs.length
  ·rw[List.getElem_append_left hig,List.getElem_append_left (by omega)]
   have hm:=List.getElem_mem hig;exact (hw _ (hlt _ hm) (hno _ hm)).trans (h3 i hig (by omega))
  ·have hi2:i=gs.length:=by simp at hi;omega
   subst hi2;rw[List.getElem_append_right (lr0),List.getElem_append_right (by omega)];simpa [h2]using hR
 ·rcases List.mem_append.1 hb with hb | hb
  ·exact h4 b hb
  ·rw[List.mem_singleton.1 hb];exact hl
 ·rw[List.nodup_append]
  refine⟨h5,by simp,fun a ha b hb=>?_⟩;rw[List.mem_singleton.1 hb];have:=hlt a ha;omega
 ·rcases List.mem_append.1 hg with hg | hg
  ·exact h6 g hg
  ·rw[List.mem_singleton.1 hg];omega
end
structure Sp (B0:Nat) (w:World) (sb N:Nat) (vO:Value) (gs:List Nat) (M:List (List Bool)):Prop where
 blk:aj w sb #[.int .i64 (N:Int),vO] 158
 on:BD B0 w vO ((N+1)*(N+1)) gs M
 le:N<=1048576
 lt:sb<B0
theorem Sp.below {B0:Nat}{w w':World}{sb N:Nat}{vO:Value}{gs:List Nat}{M:List (List Bool)}(h:Sp B0 w sb N vO gs M)(hb:Below w.heap.size w w'):Sp B0 w' sb N vO gs M :=
 ⟨(hb.block _ h.blk.lt).trans h.blk,h.on.move fun g hg=>hb.block g hg,h.le,h.lt⟩
theorem BD.up {B0:Nat}{w w':World}{v:Value}{nT:Nat}{gs:List Nat}{B:List (List Bool)}(h:BD B0 w v nT gs B)(hk:∀ g,B0<=g->w'.heap[g]?=w.heap[g]?):BD B0 w' v nT gs B :=
 ⟨aD h.outer fun g hg=>hk g (h.outer.lt g hg).1,h.len,fun i hi hi'=>(hk _ (h.ge _ (List.getElem_mem hi))).trans (h.rows i hi hi'),h.rl,h.nd,h.ge⟩
theorem Sp.put {B0:Nat}{w w':World}{sb N:Nat}{vO:Value}{gs:List Nat}{M:List (List Bool)}(h:Sp B0 w sb N vO gs M){s:Nat}(hs:s<gs.length){k:Nat}(hw:w'=(w.setCell ⟨gs[s],k,none⟩ (.bool true)).drew):Sp B0 w' sb N vO gs (pz M s k):=by
 subst hw;have hs':s<M.length:=by rw[h.on.len];exact hs
 have hg:=h.on.ge _ (List.getElem_mem hs);have hlt:=h.lt;obtain⟨gO,cap,rC,c0,kb,lb⟩:=h.on.at hs;have hJ:mE w gs[s] (Lx.rowAt M s) ((Lx.rowAt M s).set k true) (w.setCell ⟨gs[s],k,none⟩ (.bool true)).drew:=⟨by have:=(kb.set k (.bool true)).drew;rw[p9]at this;exact this,fun g hg=>hs0 hg,rfl,rfl,rfl,by simp[World.setCell]⟩;exact⟨(hs0 (by show sb≠gs[s];omega)).trans h.blk,h.on.join hs hJ (by rw[List.length_set];exact lb),h.le,h.lt⟩
theorem L6 {N:Nat}(h:N<=1048576):(N+1)*(N+1)<=1099513724929:=by
 have:(N+1)*(N+1)<=1048577*1048577:=Nat.mul_le_mul (by omega) (by omega);omega
theorem QA {B0:Nat}{w:World}{sb N:Nat}{vO:Value}{gs:List Nat}{M:List (List Bool)}(h:Sp B0 w sb N vO gs M){s i j:Nat}(hs:s<gs.length)(hi:i<=N)(hj:j<=N):Calls prog 38 #[.pointer (some ⟨sb,0,none⟩),.int .i64 (s:Int),.int .i64 (i:Int),.int .i64 (j:Int)] w fun e w'=>e=.returned (.bool (eP M (N+1) s i j))/\Below w.heap.size w w':=by
 obtain⟨gO,cap,rC,c0,kb,lb⟩:=h.on.at hs;have hp:=EM (n:=N+1) (i:=i) (j:=j) (by omega) (by omega);have zO:=L6 h.le;have hle:=h.le;have kS:=h.blk;subst rC;have s0:w.cell? ⟨sb,0,none⟩=some (.int .i64 (N:Int)):=kS.cell 0;have s1:w.cell? ⟨sb,1,none⟩=some (.slice (some ⟨gO,0,none⟩) gs.length cap):=kS.cell 1;obtain⟨n,hn⟩:∃ n,n=N+1:=⟨_,rfl⟩;rw[<-hn]at c0 lb hp zO |-;obtain⟨m,hm⟩:∃ m,m=i*n:=⟨_,rfl⟩;obtain⟨q,hq⟩:∃ q,q=n*n:=⟨_,rfl⟩;unfold eP;rw[<-hm]at hp |-;rw[<-hq]at hp zO c0 lb;obtain⟨k,hk⟩:∃ k,k=m+j:=⟨_,rfl⟩;rw[<-hk]at hp |-;have e1:IntKind.i64.wrap ((N:Int)+1)=(n:Int):=by rw[show ((N:Int)+1)=((n:Nat):Int) from by omega];exact wrap64 (by omega)
 have e1':(N:Int)+1=(n:Int):=by omega
 have e2:IntKind.i64.wrap ((i:Int)*(n:Int))=(m:Int):=by rw[<-Int.natCast_mul,<-hm];exact wrap64 (by omega)
 have e3:IntKind.i64.wrap ((m:Int)+(j:Int))=(k:Int):=by rw[<-Int.natCast_add,<-hk];exact wrap64 (by omega)
 have e3':(m:Int)+(j:Int)=(k:Int):=by omega
 have cb:w.cell? ⟨gs[s],k,none⟩=some (.bool (au (Lx.rowAt M s) k)):=(kb.cell k).trans (fI _ (by omega));have j1:(0:Int)<=(k:Int):=by omega
 have j2:(k:Int)<(q:Int):=by omega
 have j3:(0:Int)<=(s:Int):=by omega
 have j4:(s:Int)<(gs.length:Int):=by omega
 clear hn hm hq hk;generalize au (Lx.rowAt M s) k=b at *;generalize gs[s]=gb at *;generalize gs.length=nS at *;go_enter func38,ntmps38;go_wp2_with fail
 go_quiet (fail)
 go_wp2_with fail;go_ret;exact⟨rfl,⟨rfl,rfl,rfl,by simp[World.drewN],fun _ _=>by simp[World.drewN]⟩⟩
def rT (w:World)(v:Value)(r:List Nat):Prop:=∃ a c,v=.slice a r.length c/\r.length<=c/\∀ t (h:t<r.length),∃ g o,a=some ⟨g,o,none⟩/\g<w.heap.size/\w.cell? ⟨g,o+t,none⟩=some (.int .i64 (r[t]:Int))
theorem rT.below {w w':World}{v:Value}{r:List Nat}(h:rT w v r)(hb:Below w.heap.size w w'):rT w' v r:=by
 obtain⟨a,c,h1,h2,h3⟩:=h;refine⟨a,c,h1,h2,fun t ht=>?_⟩;obtain⟨g,o,e,hl,hc⟩:=h3 t ht;exact⟨g,o,e,Nat.lt_of_lt_of_le hl hb.size,cell_below hb hc⟩
theorem IR.akU {B:Nat}{w:World}{v:Value}{r:List Nat}(h:IR B w v r):rT w v r:=by
 have h':=h;unfold IR at h';obtain⟨a,c,rfl,-⟩:=aI h';refine⟨a,c,rfl,?_,fun t ht=>?_⟩
 ·rcases h'.2 with ⟨_,h0⟩ | ⟨g,cap,cur,hv,-,-,hc,-⟩
  ·omega
  ·cases hv;exact hc
 ·obtain⟨g,cap,e,hl,hc⟩:=IR.at h ht
  cases e;exact⟨g,0,rfl,hl,by simpa using hc⟩
theorem rT.tail {w:World}{a:Option Addr}{c s:Nat}{r:List Nat}(h:rT w (.slice a (s::r).length c) (s::r)):∃ a',(∀ wx:World,(Instr.slice 24 (.slice a (r.length+1) c) (some (.int .i64 1)) none none).run prog wx=.ok (.slice a' r.length (c-1)) wx)/\rT w (.slice a' r.length (c-1)) r:=by
 obtain⟨a',c',e,h2,h3⟩:=h;cases e;obtain⟨i0,hii,hz0,hz1,hz2⟩:=info_parts Tryz.info3;refine⟨if c=1 then a else a.map (·.add 1),fun wx=>?_,_,_,rfl,by simp at h2;omega,fun t ht=>?_⟩
 ·rw[run_slice_l wx 24 a (r.length+1) c (by kernel_rfl) .i64 1 (by decide) (by omega)]
  have:(sizeOf (prog.elem 24)).run prog wx=.ok 1 wx:=by go_simp
  rw[this];simp[Result.andThen,sliced]
 ·have h4:=h3 (t+1) (by simp;omega)
  obtain⟨g,o,e,hl,hc⟩:=h4;have:¬ c=1:=by simp at h2;omega
  rw[if_neg this,e];refine⟨g,o+1,rfl,hl,?_⟩;have e2:o+1+t=o+(t+1):=by omega
  rw[e2];simpa using hc
end Go.Proofs.YtlcppnabbicmoaaGreatDoor

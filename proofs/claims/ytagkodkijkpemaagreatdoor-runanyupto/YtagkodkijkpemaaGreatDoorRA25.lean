import Derived.Lib.ItoaMem
import Derived.Shelf.Strconv.AppendIntPublic10
import Derived.Shelf.SlSortCmp.WholeK
import Derived.Shelf.SlGeneric
import Derived.Ground.NamesProg
import Derived.Ground.SlsfProg
import Derived.Test.YtagkodkijkpemaaGreatDoorProg
import Derived.BigRegion
import Derived.Lib.ItoaLen
import Derived.Lib.Slices
import Derived.Lib.Hide
import Derived.Laws.IdiomStrings
import Derived.Test.YtagkodkijkpemaaGreatDoorRA24
import Derived.Laws.Bits64b
import Derived.Laws.AppendOwn
set_option maxHeartbeats 8000000
set_option maxRecDepth 1000000
namespace Go.Proofs.YtagkodkijkpemaaGreatDoor
open Lx Go.Proofs.Tryz
open Go Go.RowKit
namespace Lx
abbrev au:=Nat×Nat
def cZ(P:List Pd)(k:Nat):List Nat:=(P[k]?.map Pd.right).getD []
def eT(P:List Pd)(s:au):Option Nat:=(cZ P s.1)[s.2]?
def fG(P:List Pd)(n:Nat):Nat->List au
 |0=>[]
 |k+1=>fG P n k++(if (P[k]?.map Pd.left)=some n then [(k,0)] else [])
theorem EW{P:List Pd}{n:Nat}{s:au}:∀{k:Nat},s∈fG P n k↔s.2=0/\s.1<k/\P[s.1]?.map Pd.left=some n
 |0=>by simp[fG]
 |k+1=>by
  rw[fG,cY,EW];constructor
  ·rintro(⟨h1,h2,h3⟩ | h)
   ·exact⟨h1,by omega,h3⟩
   ·split at h
    ·rename_i a
     rw[cM]at h;subst h;exact⟨rfl,by simp,a⟩
    ·cases h
  ·rintro⟨h1,h2,h3⟩
   by_cases e:s.1=k
   ·right
    rw[de (e▸h3),cM];exact qS e h1
   ·exact .inl ⟨h1,by omega,h3⟩
theorem Yh{P:List Pd}{n:Nat}:∀k:Nat,(fG P n k).Nodup
 |0=>mf
 |k+1=>by
  rw[fG,ik];refine⟨Yh k,?_,fun a d b c=>?_⟩
  ·split <;> simp
  ·split at c
   ·rw[cM]at c
    subst c;have:=(EW.1 d).2.1;intro e;rw[e]at this;exact absurd this (p7 _)
   ·cases c
def xB(P:List Pd)(n:Option Nat)(l:List au):Nat->List au
 |0=>l
 |k+1=>if (P[k]?.map Pd.left)=n/\n≠none/\(k,0)∉l then xB P n l k++[(k,0)] else xB P n l k
theorem Np{P:List Pd}{n:Nat}{l:List au}:∀k:Nat,xB P (some n) l k=l++(fG P n k).filter fun s=>decide (s∉l)
 |0=>by simp[xB,fG]
 |k+1=>by
  rw[xB,fG,jx,Np k]
  by_cases h1:P[k]?.map Pd.left=some n
  ·rw[de h1]
   by_cases h2:(k,0)∈l
   ·rw[dk (fun h=>h.2.2 h2)]
    simp[h2]
   ·rw[de ⟨h1,by simp,h2⟩]
    simp[h2,List.append_assoc]
  ·rw[dk (fun h=>h1 h.1),dk h1]
   simp
theorem MC{P:List Pd}{l:List au}:∀k:Nat,xB P none l k=l
 |0=>rfl
 |k+1=>by rw[xB,dk (fun h=>h.2.1 rfl),MC k]
inductive tL (P:List Pd):List au->Nat->List au->Prop
 | done {l:List au} {i:Nat} (h:l.length<=i):tL P l i l
 | step {l r:List au} {i:Nat} (h:i<l.length) (k:tL P (xB P (eT P l[i]) l P.length) (i+1) r):tL P l i r
def qA(P:List Pd)(n:Option Nat)(l:List au)(E:List Nat):List au×List Nat :=
 match n with
 |none=>(l,E)
 |some n=>if n∈E then (l,E) else (l++fG P n P.length,n::E)
inductive Cb (P:List Pd):List au->List Nat->Nat->List au->Prop
 | done {l:List au} {E:List Nat} {i:Nat} (h:l.length<=i):Cb P l E i l
 | step {l r:List au} {E:List Nat} {i:Nat} (h:i<l.length) (k:Cb P (qA P (eT P l[i]) l E).1 (qA P (eT P l[i]) l E).2 (i+1) r):Cb P l E i r
structure Ab(P:List Pd)(st:Nat)(l:List au)(E:List Nat):Prop where
 opn:∀n∈E,∀s∈fG P n P.length,s∈l
 fst:∀k,(k,0)∈l->∀n,P[k]?.map Pd.left=some n->n∈E\/n=st
def Om(P:List Pd)(st:Nat):Prop:=∀s n,eT P s=some n->n≠st
theorem Ab.same{P:List Pd}{st:Nat}{l:List au}{E:List Nat}(g:Om P st)(h:Ab P st l E)(s:au):xB P (eT P s) l P.length=(qA P (eT P s) l E).1/\Ab P st (qA P (eT P s) l E).1 (qA P (eT P s) l E).2:=by
 cases hn:eT P s with
 |none=>exact⟨MC _,h⟩
 |some n=>
  rw[Np];unfold qA
  by_cases hE:n∈E
  ·simp only[de hE]
   refine⟨?_,h⟩;have:(fG P n P.length).filter (fun s=>decide (s∉l))=[]:=tD.2 fun x a=>by simpa using h.opn n hE x a
   rw[this,eN]
  ·simp only[dk hE]
   have c:∀x∈fG P n P.length,x∉l:=fun x a f=>by
    obtain⟨h1,h2,h3⟩:=EW.1 a;have:x=(x.1,0):=qS rfl h1;rw[this]at f;rcases h.fst _ f n h3 with h4|h4
    ·exact hE h4
    ·exact g s n hn h4
   refine⟨?_,fun m b x a=>?_,fun k d m b=>?_⟩
   ·rw[so.2 fun x a=>by simpa using c x a]
   ·rcases ee.1 b with rfl | b
    ·exact cY.2 (.inr a)
    ·exact cY.2 (.inl (h.opn m b x a))
   ·rcases cY.1 d with d | d
    ·rcases h.fst k d m b with h4 | h4
     ·exact .inl (ev _ h4)
     ·exact .inr h4
    ·have:=(EW.1 d).2.2
     rw[b]at this;cases this;exact .inl eh
theorem ajL{P:List Pd}{st:Nat}(b:Om P st){l r:List au}{E:List Nat}{i:Nat}(h:Cb P l E i r):Ab P st l E->tL P l i r:=by
 induction h with
 |done h=>exact fun _=>.done h
 |step h _ ih=>
  intro c;obtain⟨e,a⟩:=c.same b _;refine .step h ?_;rw[e];exact ih a
theorem tL.det{P:List Pd}{l r r':List au}{i:Nat}(h:tL P l i r):tL P l i r'->r=r':=by
 induction h with
 |done h=>
  intro a;cases a with
  |done _=>rfl
  |step h2 _=>omega
 |step h _ ih=>
  intro a;cases a with
  |done h2=>omega
  |step _ k=>exact ih k
theorem Ab.kernel{P:List Pd}{st:Nat}{K:List au}(h:∀s∈K,s.2=0->P[s.1]?.map Pd.left=some st):Ab P st K [] :=
 ⟨fun n a=>(by cases a),fun k b n a=>.inr (by have:=h _ b rfl;rw[a]at this;exact gh this)⟩
theorem ZW{P:List Pd}{n:Nat}:∀k:Nat,(fG P n k).length<=k
 |0=>zL0
 |k+1=>by
  rw[fG,cH];have:=ZW (P:=P) (n:=n) k
  split <;> simp <;> omega
end Lx
end Go.Proofs.YtagkodkijkpemaaGreatDoor
namespace Go.Proofs.YtagkodkijkpemaaGreatDoor
open Lx Go.Proofs.Tryz
open Go.RowKit
open Tr
namespace Lx
theorem Nq{u:Nat}(h:u<10):(UInt8.ofNat (48+u)).toNat=48+u:=by
 rw[UInt8.toNat_ofNat'];omega
theorem ala:∀(u:Nat),∀b∈Lib.decDigits u,48<=b.toNat/\b.toNat<=57:=by
 intro u
 induction u using Nat.strongRecOn with
 |_ u ih=>
  intro b a;rw[Lib.decDigits]at a
  split at a
  ·rename_i h
   rw[cM]at a;subst a;rw[Nq h];omega
  ·rename_i h
   rcases cY.1 a with a|a
   ·exact ih (u / 10) (by omega) b a
   ·rw[cM]at a
    subst a;rw[Nq (by omega)];omega
def Tq(l:List UInt8):Nat:=l.foldl (fun a b=>a*10+(b.toNat-48)) 0
theorem aaG:∀u:Nat,Tq (Lib.decDigits u)=u:=by
 intro u
 induction u using Nat.strongRecOn with
 |_ u ih=>
  rw[Lib.decDigits]
  split
  ·rename_i h
   simp only[Tq,qr,List.foldl_nil];rw[Nq h];omega
  ·rename_i h
   have h1:=ih (u / 10) (by omega);unfold Tq at h1|-;rw[py,h1];simp only[qr,List.foldl_nil];rw[Nq (by omega)];omega
theorem acs{a b:Nat}(h:Lib.decDigits a=Lib.decDigits b):a=b:=by rw[<-aaG a,<-aaG b,h]
theorem SX{c:UInt8}:∀{A A' R R':List UInt8},c∉A->c∉A'->A++c::R=A'++c::R'->A=A'/\R=R'
 | [],[],_,_,_,_,h=>⟨rfl,by simpa using h⟩
 | [],a::A',_,_,_,h2,h=>by simp at h;exact absurd (h.1▸eh) h2
 |a::A,[],_,_,h1,_,h=>by simp at h;exact absurd (h.1▸eh) h1
 |a::A,b::A',R,R',h1,h2,h=>by
  simp only[fX,List.cons.injEq]at h;obtain⟨f,g⟩:=SX (fun d=>h1 (ev _ d)) (fun d=>h2 (ev _ d)) h.2;exact⟨by rw[h.1,f],g⟩
def mR(K:List au):List UInt8:=K.flatMap fun s=>Lib.decDigits s.1++46::(Lib.decDigits s.2++[32])
theorem Fh(s:au)(K:List au):mR (s::K)=Lib.decDigits s.1++46::(Lib.decDigits s.2++32::mR K):=by
 show (Lib.decDigits s.1++46::(Lib.decDigits s.2++[32]))++mR K=_;simp
theorem NN{u:Nat}{c:UInt8}(h:c.toNat<48):c∉Lib.decDigits u:=fun a=>by have:=ala u c a;omega
theorem abC:∀{K K':List au},mR K=mR K'->K=K'
 | [],[],_=>rfl
 | [],s::K',h=>by
  rw[Fh]at h;exact absurd (eS List.length h) (by simp[mR])
 |s::K,[],h=>by
  rw[Fh]at h;exact absurd (eS List.length h) (by simp[mR])
 |s::K,s'::K',h=>by
  rw[Fh,Fh]at h;obtain⟨h1,h2⟩:=SX (NN (by decide)) (NN (by decide)) h;obtain⟨h3,h4⟩:=SX (NN (by decide)) (NN (by decide)) h2;rw[abC h4,qS (acs h1) (acs h3)]
def qb(K:List au):ByteArray:=⟨(mR K).toArray⟩
theorem abD{K a:List au}(h:qb K=qb a):K=a:=by
 have h1:=eS ByteArray.data h;exact abC (by simpa [qb]using h1)
end Lx
def lJ(w:World)(B:Nat)(ts:List ByteArray):Prop:=∃es clock,w.heap[B]?=some (.map es clock)/\es.size=ts.length/\∀(i:Nat)(e:MapEntry),es[i]?=some e->∃t,ts[i]?=some t/\e.key=.string t/\e.val=.int .i64 (i:Int)
theorem lJ.lt{w:World}{B:Nat}{ts:List ByteArray}(h:lJ w B ts):B<w.heap.size:=by
 obtain⟨b,a,h1,-⟩:=h;exact(dv.1 h1).1
theorem lJ.move{w w':World}{B:Nat}{ts:List ByteArray}(h:lJ w B ts)(b:w'.heap[B]?=w.heap[B]?):lJ w' B ts:=by
 obtain⟨c,a,h1,h2⟩:=h;exact⟨c,a,b.trans h1,h2⟩
theorem lJ.made(w:World):lJ (w.alloc (.map #[] 0)) w.heap.size []:=⟨#[],0,n7 w _,rfl,fun i e h=>by simp at h⟩
theorem lJ.keys{w:World}{B:Nat}{ts:List ByteArray}(h:lJ w B ts):∃es clock,w.heap[B]?=some (.map es clock)/\es.size=ts.length/\(∀(i:Nat)(e:MapEntry),es[i]?=some e->∃t,ts[i]?=some t/\e.key=.string t/\e.val=.int .i64 (i:Int))/\∀x∈es.toList,∃c,x.key=Value.string c/\True:=by
 obtain⟨es,clock,h1,h2,h3⟩:=h;refine⟨es,clock,h1,h2,h3,fun x b=>?_⟩;obtain⟨i,a⟩:=eQ.1 b;obtain⟨t,-,d,-⟩:=h3 i x (by rw[<-fW];exact a);exact⟨t,d,trivial⟩
theorem lJ.miss{w:World}{B:Nat}{ts:List ByteArray}(h:lJ w B ts){b:ByteArray}(g:b∉ts):(Instr.lookup 155 (.map (some B)) (.string b) true).run prog w=.ok (.tuple #[.int .i64 0,.bool false]) w:=by
 obtain⟨d,c,h1,h2,h3,h4⟩:=h.keys;rcases Tryz.BV.find w b d.toList trivial h4 with ⟨f,-⟩|⟨j,e,-,k,i⟩
 ·simp[Instr.lookup,run_underlying Tryz.Ji,MapKept.run_getObj_map h1,Tryz.BV.check,f,Result.andThen]
 ·obtain⟨t,ht,a,-⟩:=h3 j e (by rw[<-fW];exact k)
  rw[i]at a;cases a;exact absurd (cQ ht) g
theorem lJ.hit{w:World}{B:Nat}{ts:List ByteArray}(h:lJ w B ts)(u:ts.Nodup){i:Nat}{b:ByteArray}(k:ts[i]?=some b):(Instr.lookup 155 (.map (some B)) (.string b) true).run prog w=.ok (.tuple #[.int .i64 (i:Int),.bool true]) w:=by
 obtain⟨c,o,h1,h2,h3,h4⟩:=h.keys;rcases Tryz.BV.find w b c.toList trivial h4 with ⟨n,g⟩|⟨j,e,n,s,r⟩
 ·obtain⟨v,-⟩:=cG.1 k
  have l:c[i]?=some c[i]:=j7 (by omega);obtain⟨t,d,a,-⟩:=h3 i _ l;rw[k]at d;cases d;exact absurd a (g _ (by simp))
 ·have f:c[j]?=some e:=by rw[<-fW];exact s
  obtain⟨t,d,a,p⟩:=h3 j e f;rw[r]at a;cases a;have m:j=i:=by
   obtain⟨z,q⟩:=cG.1 d;obtain⟨y,x⟩:=cG.1 k;exact(lj u).1 (q.trans x.symm)
  subst m;rw[p]at n;simp[Instr.lookup,run_underlying Tryz.Ji,MapKept.run_getObj_map h1,Tryz.BV.check,n,Result.andThen]
theorem lJ.put{w:World}{B:Nat}{ts:List ByteArray}(h:lJ w B ts){b:ByteArray}(p:b∉ts):∃w',(Instr.mapUpdate 155 (.map (some B)) (.string b) (.int .i64 (ts.length:Int))).run prog w=.ok () w'/\lJ w' B (ts++[b])/\w.grownBy w' (some B)/\w'.heap.size=w.heap.size:=by
 obtain⟨m,a,h1,h2,h3,h4⟩:=h.keys;have d:∀o:Obj,w.grownBy { w with heap:=w.heap.setIfInBounds B o } (some B):=fun o=>⟨rfl,rfl,rfl,by simp,fun k _ l=>(pn h1).2 k (fun e=>l (by rw[e]))⟩
 rcases Tryz.BV.find w b m.toList trivial h4 with ⟨r,-⟩|⟨j,e,-,q,l⟩
 ·refine⟨{ w with heap:=w.heap.setIfInBounds B (.map (m.push { key:=.string b,val:=.int .i64 (ts.length:Int),born:=a }) (a+1)) },?_,⟨_,a+1,(pn h1).1,by simp[h2],?_⟩,d _,by simp⟩
  ·simp[Instr.mapUpdate,run_underlying Tryz.Ji,MapKept.run_getObj_map h1,Tryz.BV.check,r,MapKept.run_setObj_map _ h1,Result.andThen]
  ·intro i e g
   rw[pg]at g
   split at g
   ·rename_i f
    cases g;refine⟨b,?_,rfl,by rw[f,h2]⟩;rw[f,h2];simp
   ·obtain⟨t,ht,c,n⟩:=h3 i e g
    refine⟨t,?_,c,n⟩;rw[eC (cG.1 ht).1];exact ht
 ·obtain⟨t,ht,c,-⟩:=h3 j e (by rw[<-fW];exact q)
  rw[l]at c;cases c;exact absurd (cQ ht) p
end Go.Proofs.YtagkodkijkpemaaGreatDoor
namespace Go.Proofs
open Go.Shelf
def Tryz.afv:Go.Shelf.Ren:=⟨fun | 176=>142 | 249=>169 | 288=>181 | 283=>194 | 284=>195 | 285=>196 | 286=>197 | 129=>191 | 317=>205 | 318=>206 | 319=>207 | 320=>208 | 337=>210 | 338=>141 | n=>n,fun | 37=>112 | 2=>2 | 3=>3 | 53=>277 | 4=>4 | 9=>9 | 171=>331 | 0=>0 | 173=>333 | 212=>343 | 51=>82 | 5=>5 | 20=>20 | 213=>344 | 46=>135 | 232=>347 | 233=>311 | n=>n,fun | 17=>3 | 18=>4 | 19=>2 | n=>n⟩
theorem Tryz.ajM:Go.Proofs.LaysM.n176 prog Tryz.afv:={
 mixed:=by kernel_rfl
 f129:=func191.trans (congrArg some (by kernel_rfl))
 f176:=func142.trans (congrArg some (by kernel_rfl))
 f249:=func169.trans (congrArg some (by kernel_rfl))
 f283:=func194.trans (congrArg some (by kernel_rfl))
 f284:=func195.trans (congrArg some (by kernel_rfl))
 f285:=func196.trans (congrArg some (by kernel_rfl))
 f286:=func197.trans (congrArg some (by kernel_rfl))
 f288:=func181.trans (congrArg some (by kernel_rfl))
 f317:=func205.trans (congrArg some (by kernel_rfl))
 f318:=func206.trans (congrArg some (by kernel_rfl))
 f319:=func207.trans (congrArg some (by kernel_rfl))
 f320:=func208.trans (congrArg some (by kernel_rfl))
 f337:=func210.trans (congrArg some (by kernel_rfl))
 f338:=func141.trans (congrArg some (by kernel_rfl))
 t0:=underlying0
 a0:=Tryz.isAgg0
 z0:=Tryz.sizeOf0
 v0:=Tryz.zeroValue0
 t2:=underlying2
 a2:=Tryz.isAgg2
 z2:=Tryz.sizeOf2
 v2:=Tryz.zeroValue2
 t3:=underlying3
 a3:=Tryz.isAgg3
 z3:=Tryz.sizeOf3
 v3:=Tryz.zeroValue3
 t4:=underlying4
 a4:=Tryz.isAgg4
 z4:=Tryz.sizeOf4
 v4:=Tryz.zeroValue4
 t5:=underlying5
 a5:=Tryz.isAgg5
 z5:=Tryz.sizeOf5
 v5:=Tryz.zeroValue5
 t9:=underlying9
 a9:=Tryz.isAgg9
 z9:=Tryz.sizeOf9
 v9:=Tryz.zeroValue9
 t20:=underlying20
 a20:=Tryz.isAgg20
 z20:=Tryz.sizeOf20
 v20:=Tryz.zeroValue20
 t37:=underlying112
 a37:=Tryz.isAgg112
 z37:=Tryz.sizeOf112
 v37:=Tryz.zeroValue112
 t46:=underlying135
 a46:=Tryz.isAgg135
 z46:=Tryz.sizeOf135
 v46:=Tryz.zeroValue135
 t51:=underlying82
 a51:=Tryz.isAgg82
 z51:=Tryz.sizeOf82
 v51:=Tryz.zeroValue82
 t53:=underlying277
 a53:=Tryz.isAgg277
 z53:=Tryz.sizeOf277
 v53:=Tryz.zeroValue277
 t171:=underlying331
 a171:=Tryz.isAgg331
 z171:=Tryz.sizeOf331
 v171:=Tryz.zeroValue331
 t173:=underlying333
 a173:=Tryz.isAgg333
 z173:=Tryz.sizeOf333
 v173:=Tryz.zeroValue333
 t212:=underlying343
 a212:=Tryz.isAgg343
 z212:=Tryz.sizeOf343
 v212:=Tryz.zeroValue343
 t213:=underlying344
 a213:=Tryz.isAgg344
 z213:=Tryz.sizeOf344
 t232:=underlying347
 a232:=Tryz.isAgg347
 z232:=Tryz.sizeOf347
 v232:=Tryz.zeroValue347
 t233:=underlying311
 a233:=Tryz.isAgg311
 z233:=Tryz.sizeOf311
 v233:=Tryz.zeroValue311
 g17:=by kernel_rfl
 g18:=by kernel_rfl
 g19:=by kernel_rfl
 i0:=by kernel_rfl
 i2:=by kernel_rfl
 i3:=by kernel_rfl
 i4:=by kernel_rfl
 i5:=by kernel_rfl
 i9:=by kernel_rfl
 i20:=by kernel_rfl
 i37:=by kernel_rfl
 i46:=by kernel_rfl
 i51:=by kernel_rfl
 i53:=by kernel_rfl
 i171:=by kernel_rfl
 i173:=by kernel_rfl
 i212:=by kernel_rfl
 i232:=by kernel_rfl
 i233:=by kernel_rfl
 m17:=by kernel_rfl
 m18:=by kernel_rfl
 m19:=by kernel_rfl }
def Tryz.Y3:Go.Shelf.Ren:=⟨fun | 6=>144 | 15=>172 | 14=>171 | 28=>190 | 29=>191 | 20=>182 | 21=>183 | 22=>184 | 23=>185 | 24=>186 | 25=>187 | 26=>188 | 27=>189 | 46=>198 | 47=>199 | 48=>200 | 49=>201 | 50=>202 | 57=>209 | n=>n,fun | 22=>235 | 24=>238 | 25=>294 | 3=>3 | 39=>135 | 0=>0 | 53=>82 | 55=>277 | 4=>4 | 46=>324 | 45=>323 | 50=>226 | 5=>5 | 9=>9 | 66=>335 | 70=>339 | 76=>345 | 77=>45 | n=>n,fun | n=>n⟩
theorem Tryz.acu:Go.Proofs.SlLaysF0.n6 prog Tryz.Y3:={
 mixed:=by kernel_rfl
 f6:=⟨Tryz.f144.name,by decide,func144.trans (congrArg some (by kernel_rfl))⟩
 f14:=⟨Tryz.f171.name,by decide,func171.trans (congrArg some (by kernel_rfl))⟩
 f15:=func172.trans (congrArg some (by kernel_rfl))
 f20:=⟨Tryz.f182.name,by decide,func182.trans (congrArg some (by kernel_rfl))⟩
 f21:=⟨Tryz.f183.name,by decide,func183.trans (congrArg some (by kernel_rfl))⟩
 f22:=⟨Tryz.f184.name,by decide,func184.trans (congrArg some (by kernel_rfl))⟩
 f23:=⟨Tryz.f185.name,by decide,func185.trans (congrArg some (by kernel_rfl))⟩
 f24:=⟨Tryz.f186.name,by decide,func186.trans (congrArg some (by kernel_rfl))⟩
 f25:=⟨Tryz.f187.name,by decide,func187.trans (congrArg some (by kernel_rfl))⟩
 f26:=⟨Tryz.f188.name,by decide,func188.trans (congrArg some (by kernel_rfl))⟩
 f27:=⟨Tryz.f189.name,by decide,func189.trans (congrArg some (by kernel_rfl))⟩
 f28:=func190.trans (congrArg some (by kernel_rfl))
 f29:=func191.trans (congrArg some (by kernel_rfl))
 f46:=⟨Tryz.f198.name,by decide,func198.trans (congrArg some (by kernel_rfl))⟩
 f47:=func199.trans (congrArg some (by kernel_rfl))
 f48:=func200.trans (congrArg some (by kernel_rfl))
 f49:=⟨Tryz.f201.name,by decide,func201.trans (congrArg some (by kernel_rfl))⟩
 f50:=⟨Tryz.f202.name,by decide,func202.trans (congrArg some (by kernel_rfl))⟩
 f57:=⟨Tryz.f209.name,by decide,func209.trans (congrArg some (by kernel_rfl))⟩
 t0:=underlying0
 a0:=Tryz.isAgg0
 z0:=Tryz.sizeOf0
 v0:=Tryz.zeroValue0
 t3:=underlying3
 a3:=Tryz.isAgg3
 z3:=Tryz.sizeOf3
 v3:=Tryz.zeroValue3
 t4:=underlying4
 a4:=Tryz.isAgg4
 z4:=Tryz.sizeOf4
 v4:=Tryz.zeroValue4
 t5:=underlying5
 a5:=Tryz.isAgg5
 z5:=Tryz.sizeOf5
 v5:=Tryz.zeroValue5
 t9:=underlying9
 a9:=Tryz.isAgg9
 z9:=Tryz.sizeOf9
 v9:=Tryz.zeroValue9
 t22:=underlying235
 a22:=Tryz.isAgg235
 z22:=Tryz.sizeOf235
 v22:=Tryz.zeroValue235
 t25:=underlying294
 a25:=Tryz.isAgg294
 z25:=Tryz.sizeOf294
 v25:=Tryz.zeroValue294
 t39:=underlying135
 a39:=Tryz.isAgg135
 z39:=Tryz.sizeOf135
 v39:=Tryz.zeroValue135
 t45:=underlying323
 a45:=Tryz.isAgg323
 z45:=Tryz.sizeOf323
 v45:=Tryz.zeroValue323
 t46:=underlying324
 a46:=Tryz.isAgg324
 z46:=Tryz.sizeOf324
 v46:=Tryz.zeroValue324
 t50:=underlying226
 a50:=Tryz.isAgg226
 z50:=Tryz.sizeOf226
 v50:=Tryz.zeroValue226
 t53:=underlying82
 a53:=Tryz.isAgg82
 z53:=Tryz.sizeOf82
 v53:=Tryz.zeroValue82
 t55:=underlying277
 a55:=Tryz.isAgg277
 z55:=Tryz.sizeOf277
 v55:=Tryz.zeroValue277
 t66:=underlying335
 a66:=Tryz.isAgg335
 z66:=Tryz.sizeOf335
 v66:=Tryz.zeroValue335
 t70:=underlying339
 a70:=Tryz.isAgg339
 z70:=Tryz.sizeOf339
 v70:=Tryz.zeroValue339
 t76:=underlying345
 a76:=Tryz.isAgg345
 z76:=Tryz.sizeOf345
 v76:=Tryz.zeroValue345
 t77:=underlying45
 a77:=Tryz.isAgg45
 z77:=Tryz.sizeOf45
 v77:=Tryz.zeroValue45 }
end Go.Proofs
namespace Go.Proofs.YtagkodkijkpemaaGreatDoor
open Lx Go.Proofs.Tryz
open Go Go.RowKit
namespace Lx
theorem ZX{α:Type}{R:α->α->Prop}(d:∀a b,R a b->¬R b a):∀{l m:List α},l.Pairwise R->m.Pairwise R->(∀x,x∈l↔x∈m)->l=m
 | [],[],_,_,_=>rfl
 | [],b::m,_,_,h=>absurd ((h b).2 eh) (by simp)
 |a::l,[],_,_,h=>absurd ((h a).1 eh) (by simp)
 |a::l,b::m,hl,hm,h=>by
  rw[me]at hl hm;have e:a=b:=by
   rcases ee.1 ((h a).1 eh) with e|h1
   ·exact e
   ·rcases ee.1 ((h b).2 eh) with e | h2
    ·exact e.symm
    ·exact absurd (hl.1 b h2) (d _ _ (hm.1 a h1))
  subst e;have key:∀x,x∈l↔x∈m:=fun x=>by
   constructor
   ·intro c
    rcases ee.1 ((h x).1 (ev _ c)) with e|h1
    ·subst e;exact absurd (hl.1 x c) (d _ _ (hl.1 x c))
    ·exact h1
   ·intro c
    rcases ee.1 ((h x).2 (ev _ c)) with e|h1
    ·subst e;exact absurd (hm.1 x c) (d _ _ (hm.1 x c))
    ·exact h1
  rw[ZX d hl.2 hm.2 key]
def gX(a b:au):Prop:=a.1<b.1\/(a.1=b.1/\a.2<b.2)
instance (a b:au):Decidable (gX a b):=by unfold gX;infer_instance
theorem ajN(a b:au)(h:gX a b):¬gX b a:=by unfold gX at *;omega
theorem ajO{a b c:au}(h:gX a b)(k:gX b c):gX a c:=by unfold gX at *;omega
theorem ain{a b:au}(h:¬gX a b)(c:a≠b):gX b a:=by
 have:¬(a.1=b.1/\a.2=b.2):=fun e=>c (qS e.1 e.2)
 unfold gX at *;omega
def ins(s:au):List au->List au
 | []=>[s]
 |x::l=>if gX s x then s::x::l else x::ins s l
theorem Sr{s x:au}:∀{l:List au},x∈ins s l↔x=s\/x∈l
 | []=>by simp[ins]
 |y::l=>by
  rw[ins]
  split
  ·simp
  ·rw[ee,Sr,ee]
   constructor
   ·rintro(h | h | h)
    ·exact .inr (.inl h)
    ·exact .inl h
    ·exact .inr (.inr h)
   ·rintro(h | h | h)
    ·exact .inr (.inl h)
    ·exact .inl h
    ·exact .inr (.inr h)
theorem acv{s:au}:∀{l:List au},l.Pairwise gX->s∉l->(ins s l).Pairwise gX
 | [],_,_=>by simp[ins]
 |y::l,h,hn=>by
  rw[me]at h;rw[ins]
  split
  ·rename_i h1
   refine me.2 ⟨fun z a=>?_,me.2 h⟩;rcases ee.1 a with rfl|a
   ·exact h1
   ·exact ajO h1 (h.1 z a)
  ·rename_i h1
   refine me.2 ⟨fun z a=>?_,acv h.2 fun a=>hn (ev _ a)⟩;rcases Sr.1 a with rfl|a
   ·exact ain h1 fun e=>hn (e▸eh)
   ·exact h.1 z a
def FR(l:List au)(s:au):List au:=if s∈l then l else ins s l
theorem ajP{l:List au}{s:au}(h:l.Pairwise gX):(FR l s).Pairwise gX:=by
 unfold FR
 split
 ·exact h
 ·rename_i a;exact acv h a
theorem aio{l:List au}{s x:au}:x∈FR l s↔x=s\/x∈l:=by
 unfold FR
 split
 ·rename_i h
  exact⟨.inr,fun a=>a.elim (fun e=>e▸h) id⟩
 ·exact Sr
def yY(P:List Pd)(n:Nat)(out:List au)(s:au):List au:=if eT P s=some n then FR out (s.1,s.2+1) else out
def Pp(P:List Pd)(C:List au)(n:Nat):List au:=C.foldl (yY P n) []
theorem SY{P:List Pd}{n:Nat}:∀(C out:List au),out.Pairwise gX->(C.foldl (yY P n) out).Pairwise gX/\∀x,x∈C.foldl (yY P n) out↔x∈out\/∃s∈C,eT P s=some n/\x=(s.1,s.2+1)
 | [],out,h=>⟨h,fun x=>by simp⟩
 |s::C,out,h=>by
  rw[qr];have h1:(yY P n out s).Pairwise gX:=by
   unfold yY
   split
   ·exact ajP h
   ·exact h
  obtain⟨h2,h3⟩:=SY C _ h1;refine⟨h2,fun x=>?_⟩;rw[h3 x];unfold yY
  split
  ·rename_i d
   rw[aio];constructor
   ·rintro((h | h) | ⟨t,a,h⟩)
    ·exact .inr ⟨s,eh,d,h⟩
    ·exact .inl h
    ·exact .inr ⟨t,ev _ a,h⟩
   ·rintro(h | ⟨t,a,c,b⟩)
    ·exact .inl (.inr h)
    ·rcases ee.1 a with rfl | a
     ·exact .inl (.inl b)
     ·exact .inr ⟨t,a,c,b⟩
  ·rename_i d
   constructor
   ·rintro(h | ⟨t,a,h⟩)
    ·exact .inl h
    ·exact .inr ⟨t,ev _ a,h⟩
   ·rintro(h | ⟨t,a,c,b⟩)
    ·exact .inl h
    ·rcases ee.1 a with rfl | a
     ·exact absurd c d
     ·exact .inr ⟨t,a,c,b⟩
theorem acw(P:List Pd)(C:List au)(n:Nat):(Pp P C n).Pairwise gX:=(SY C [] n9).1
theorem FB{P:List Pd}{C:List au}{n:Nat}{x:au}:x∈Pp P C n↔∃s∈C,eT P s=some n/\x=(s.1,s.2+1):=by
 have:=(SY (P:=P) (n:=n) C [] n9).2 x;simpa [Pp]using this
def ku(P:List Pd)(C:List au):List (Nat×au):=C.filterMap fun s=>(eT P s).map fun n=>(n,(s.1,s.2+1))
theorem Nr{P:List Pd}{C:List au}{m:Nat×au}:m∈ku P C↔∃s∈C,eT P s=some m.1/\m.2=(s.1,s.2+1):=by
 unfold ku;rw[List.mem_filterMap];constructor
 ·rintro⟨s,a,h⟩
  obtain⟨n,b,rfl⟩:=mL.1 h;exact⟨s,a,b,rfl⟩
 ·rintro⟨s,a,h1,h2⟩
  exact⟨s,a,by rw[h1];exact eS some (qS rfl h2.symm)⟩
def oP(a b:Nat×au):Prop:=a.1<b.1\/(a.1=b.1/\gX a.2 b.2)
end Lx
end Go.Proofs.YtagkodkijkpemaaGreatDoor
namespace Go.Proofs.YtagkodkijkpemaaGreatDoor
open Lx Go.Proofs.Tryz
open Go Go.RowKit
namespace Lx
theorem IV:∀(n:Nat)(l:List Nat),l.Nodup->(∀x∈l,x<n)->l.length<=n
 |0,[],_,_=>zL0
 |0,x::_,_,h=>absurd (h x eh) (Nat.not_lt_zero _)
 |n+1,l,hn,h=>by
  by_cases hm:n∈l
  ·have h1:=IV n (l.erase n) (hn.erase n) fun x a=>by
    have h2:=hn.mem_erase_iff.1 a;have:=h x h2.2;have:=h2.1;omega
   rw[List.length_erase_of_mem hm]at h1;omega
  ·have:=IV n l hn fun x a=>by
    have:=h x a;have:x≠n:=fun e=>hm (e▸a)
    omega
   omega
def oZ(P:List Pd)(K l:List au):Prop:=∃Z,l=K++Z/\Z.Nodup/\∀z∈Z,z.2=0/\z.1<P.length/\z∉K
theorem oZ.len{P:List Pd}{K l:List au}(h:oZ P K l):l.length<=K.length+P.length:=by
 obtain⟨Z,rfl,j,d⟩:=h;rw[cH];have h1:(Z.map Prod.fst).Nodup:=by
  rw[List.Nodup,rd];refine j.imp_of_mem fun{a b}k i c e=>c ?_
  exact qS e ((d a k).1.trans (d b i).1.symm)
 have h2:=IV P.length _ h1 fun x g=>by
  obtain⟨z,f,rfl⟩:=ej.1 g;exact(d z f).2.1
 rw[dt]at h2;omega
theorem oZ.add{P:List Pd}{K l:List au}(h:oZ P K l)(n:Option Nat):oZ P K (xB P n l P.length):=by
 cases n with
 |none=>rw[MC];exact h
 |some n=>
  obtain⟨Z,rfl,g,i⟩:=h;rw[Np];refine⟨Z++(fG P n P.length).filter (fun s=>decide (s∉K++Z)),by rw[dq],?_,fun z c=>?_⟩
  ·rw[ik]
   refine⟨g,(Yh _).filter _,fun a k b d e=>?_⟩;have:=js (ie.1 d).2;exact this (cY.2 (.inr (e▸k)))
  ·rcases cY.1 c with h1 | h1
   ·exact i z h1
   ·obtain⟨h2,h3⟩:=ie.1 h1
    obtain⟨h4,j,-⟩:=EW.1 h2;exact⟨h4,j,fun f=>js h3 (cY.2 (.inl f))⟩
theorem oZ.refl(P:List Pd)(K:List au):oZ P K K:=⟨[],by simp,mf,fun z a=>by cases a⟩
def Pq(P:List Pd):Nat->List au->Nat->List au
 |0,l,_=>l
 |f+1,l,i=>if h:i<l.length then Pq P f (xB P (eT P l[i]) l P.length) (i+1) else l
def jD(P:List Pd)(K:List au):List au:=Pq P (K.length+P.length+1) K 0
theorem abE{P:List Pd}{K:List au}:∀(f i:Nat)(l:List au),oZ P K l->K.length+P.length+1<=f+i->tL P l i (Pq P f l i)
 |0,i,l,h,hf=>.done (by have:=h.len;omega)
 |f+1,i,l,h,hf=>by
  rw[Pq]
  split
  ·rename_i a
   exact .step a (abE f (i+1) _ (h.add _) (by omega))
  ·exact .done (by omega)
theorem Ta(P:List Pd)(K:List au):tL P K 0 (jD P K):=abE _ 0 K (oZ.refl P K) (by omega)
theorem tL.jD{P:List Pd}{K r:List au}(h:tL P K 0 r):r=jD P K:=h.det (Ta P K)
theorem Cb.jD{P:List Pd}{st:Nat}(a:Om P st){K r:List au}(b:∀s∈K,s.2=0->P[s.1]?.map Pd.left=some st)(h:Cb P K [] 0 r):r=jD P K:=(ajL a h (Ab.kernel b)).jD
def jl(P:List Pd)(K:List au)(n:Nat):List au:=Pp P (jD P K) n
abbrev KW:=Nat×Nat×Nat
structure bX where
 ks:List (List au)
 es:List KW
def jm(l:List (List au))(k:List au):Nat:=l.findIdx fun x=>decide (x=k)
def edge(P:List Pd)(i:Nat)(K:List au)(S:bX)(n:Nat):bX :=
 if jl P K n=[] then S else if jm S.ks (jl P K n)<S.ks.length then ⟨S.ks,S.es++[(i,n,jm S.ks (jl P K n))]⟩ else ⟨S.ks++[jl P K n],S.es++[(i,n,S.ks.length)]⟩
def leave(P:List Pd)(i:Nat)(K:List au)(S:bX)(ns:List Nat):bX:=ns.foldl (edge P i K) S
theorem aip{P:List Pd}{i:Nat}{K:List au}{S:bX}{n:Nat}(h:jl P K n=[]):edge P i K S n=S:=de h
def xC(P:List Pd)(sz:Nat):Nat->Nat->bX->Option bX
 |0,_,_=>none
 |f+1,i,S=>if h:i<S.ks.length then (if 300<(leave P i S.ks[i] S (List.range sz)).ks.length then none else xC P sz f (i+1) (leave P i S.ks[i] S (List.range sz))) else some S
def zQ(P:List Pd)(sz:Nat):Option bX:=xC P sz 302 0 ⟨[[(0,0)]],[]⟩
theorem aiq{P:List Pd}{i:Nat}{K:List au}{S:bX}{n:Nat}:∃a,(edge P i K S n).ks=S.ks++a:=by
 unfold edge
 split
 ·exact⟨[],by simp⟩
 ·split
  ·exact⟨[],by simp⟩
  ·exact⟨_,rfl⟩
end Lx
end Go.Proofs.YtagkodkijkpemaaGreatDoor
namespace Go.Proofs.YtagkodkijkpemaaGreatDoor
open Lx Go.Proofs.Tryz
open Go Go.RowKit
namespace Lx
theorem take_same{n:Nat}:∀{M:List (Nat×au)},M.Pairwise oP->(∀m∈M,n<=m.1)->M.takeWhile (fun m=>decide (m.1=n))=M.filter (fun m=>decide (m.1=n))/\M.dropWhile (fun m=>decide (m.1=n))=M.filter (fun m=>decide (m.1≠n))
 | [],_,_=>⟨rfl,rfl⟩
 |m::M,h,hn=>by
  rw[me]at h
  by_cases e:m.1=n
  ·obtain⟨h1,h2⟩:=take_same h.2 fun x b=>hn x (ev _ b)
   constructor
   ·rw[List.takeWhile_cons,my];simp only[e,decide_true,qe];rw[h1]
   ·rw[List.dropWhile_cons,my];simp only[e,decide_true,qe,ne_eq,not_true_eq_false,decide_false,Bool.false_eq_true,if_false];rw[h2]
  ·have c:=hn m eh
   have a:∀x∈M,x.1≠n:=fun x b=>by
    have:=h.1 x b;unfold oP at this;omega
   constructor
   ·rw[List.takeWhile_cons,my]
    simp only[e,decide_false,Bool.false_eq_true,if_false];exact(tD.2 fun x b=>by simpa using a x b).symm
   ·rw[List.dropWhile_cons,my]
    simp only[e,decide_false,Bool.false_eq_true,if_false,ne_eq,not_false_eq_true,decide_true,qe];rw[so.2 fun x b=>by simpa using a x b]
def Jw(i:Nat)(S:bX)(n:Nat)(k:List au):bX:=if jm S.ks k<S.ks.length then ⟨S.ks,S.es++[(i,n,jm S.ks k)]⟩ else ⟨S.ks++[k],S.es++[(i,n,S.ks.length)]⟩
theorem air{P:List Pd}{i:Nat}{K:List au}{S:bX}{n:Nat}(h:jl P K n≠[]):edge P i K S n=Jw i S n (jl P K n):=dk h
inductive sH (i:Nat):List (Nat×au)->bX->bX->Prop
 | nil {S:bX}:sH i [] S S
 | aF {n:Nat} {x:au} {M:List (Nat×au)} {S R:bX} (h:sH i (M.dropWhile fun m=>decide (m.1=n)) (Jw i S n (x::(M.takeWhile fun m=>decide (m.1=n)).map Prod.snd)) R):sH i ((n,x)::M) S R
theorem QV{P:List Pd}{i:Nat}{K:List au}:∀(ns:List Nat)(S:bX),(∀n∈ns,jl P K n=[])->leave P i K S ns=S
 | [],S,_=>rfl
 |n::ns,S,h=>by
  have:leave P i K S (n::ns)=leave P i K (edge P i K S n) ns:=rfl;rw[this,aip (h n eh)];exact QV ns S fun m a=>h m (ev _ a)
theorem ais{P:List Pd}{i:Nat}{K:List au}(a b:List Nat)(S:bX):leave P i K S (a++b)=leave P i K (leave P i K S a) b:=py
theorem sH.leave{P:List Pd}{i:Nat}{K:List au}{sz:Nat}{M:List (Nat×au)}{S R:bX}(h:sH i M S R):∀a,a<=sz->M.Pairwise oP->(∀m,m∈M↔m∈ku P (jD P K)/\a<=m.1)->(∀m∈M,m.1<sz)->R=leave P i K S (List.range' a (sz-a)):=by
 induction h with
 | @nil S=>
  intro a _ _ f _;refine(QV _ _ fun n l=>?_).symm;rw[List.mem_range'_1]at l;refine List.eq_nil_iff_forall_not_mem.2 fun x H=>?_
  obtain⟨s,o,h1,h2⟩:=FB.1 H;have:=(f (n,x)).2 ⟨Nr.2 ⟨s,o,h1,h2⟩,l.1⟩;cases this
 | @aF n x M S R _ ih=>
  intro a J k f z;have l:a<=n:=((f (n,x)).1 eh).2;have F:n<sz:=z (n,x) eh;have d:∀m∈M,n<=m.1:=fun m c=>by
   have:=(me.1 k).1 m c;unfold oP at this;omega
  obtain⟨B,A⟩:=take_same (me.1 k).2 d;have b:List.range' a (sz-a)=List.range' a (n-a)++(n::List.range' (n+1) (sz - (n+1))):=by
   have p:sz-a=(n-a)+(1+(sz - (n+1))):=by omega
   rw[p,<-List.range'_append_1,show a+(n-a)=n by omega,Nat.add_comm 1,List.range'_succ]
  have D:jl P K n=x::(M.takeWhile fun m=>decide (m.1=n)).map Prod.snd:=by
   refine ZX ajN (acw _ _ _) ?_ fun y=>?_
   ·have h1:((n,x)::M.takeWhile fun m=>decide (m.1=n)).Pairwise oP:=by
     refine k.sublist (List.Sublist.cons_cons _ (List.takeWhile_sublist _))
    have h2:(((n,x)::M.takeWhile fun m=>decide (m.1=n)).map Prod.snd).Pairwise gX:=by
     rw[rd];refine h1.imp_of_mem fun{u v}E I g=>?_
     have e:∀w∈(n,x)::M.takeWhile (fun m=>decide (m.1=n)),w.1=n:=fun w j=>by
      rcases ee.1 j with rfl|j
      ·rfl
      ·rw[B]at j
       exact js (ie.1 j).2
     have:=e u E;have:=e v I;unfold oP at g;rcases g with t|t
     ·omega
     ·exact t.2
    exact h2
   ·have e:∀y,(y∈x::(M.takeWhile fun m=>decide (m.1=n)).map Prod.snd)↔(n,y)∈(n,x)::M:=fun y=>by
     rw[B];constructor
     ·intro h
      rcases ee.1 h with rfl|h
      ·exact eh
      ·obtain⟨m,r,rfl⟩:=ej.1 h
       obtain⟨h1,h2⟩:=ie.1 r;have h3:=js h2;exact ev _ (by rw[<-h3];exact h1)
     ·intro h
      rcases ee.1 h with h|h
      ·cases h;exact eh
      ·exact ev _ (ej.2 ⟨(n,y),ie.2 ⟨h,by simp⟩,rfl⟩)
    rw[e y,f (n,y),Nr];unfold jl;rw[FB];exact⟨fun h=>⟨h,l⟩,fun h=>h.1⟩
  rw[b,ais,QV (List.range' a (n-a)) S fun q C=>?_]
  ·have p:Lx.leave P i K S (n::List.range' (n+1) (sz - (n+1)))=Lx.leave P i K (edge P i K S n) (List.range' (n+1) (sz - (n+1))):=rfl
   rw[p,air (by rw[D];simp),D];refine ih (n+1) (by omega) ?_ (fun m=>?_) fun m c=>?_
   ·exact(me.1 k).2.sublist (List.dropWhile_sublist _)
   ·rw[A,ie]
    constructor
    ·rintro⟨h1,h2⟩
     have h3:=js h2;have h4:=(f m).1 (ev _ h1);have:=d m h1;exact⟨h4.1,by omega⟩
    ·rintro⟨h1,h2⟩
     have h3:=(f m).2 ⟨h1,by omega⟩;rcases ee.1 h3 with h4|h4
     ·rw[h4]at h2;exact absurd h2 (by show ¬n+1<=n;omega)
     ·exact⟨h4,by simp;omega⟩
   ·rw[A]at c
    exact z m (ev _ (ie.1 c).1)
  ·rw[List.mem_range'_1]at C
   refine List.eq_nil_iff_forall_not_mem.2 fun y G=>?_
   obtain⟨s,o,h1,h2⟩:=FB.1 G;have h3:=(f (q,y)).2 ⟨Nr.2 ⟨s,o,h1,h2⟩,C.1⟩;rcases ee.1 h3 with h4|h4
   ·cases h4;omega
   ·have:=d _ h4
    have:n<=q:=this;omega
end Lx
end Go.Proofs.YtagkodkijkpemaaGreatDoor
namespace Go.Proofs.YtagkodkijkpemaaGreatDoor
open Lx Go.Proofs.Tryz
open Go.RowKit
open Tr
def iJ(s:au):List Value:=[.int .i64 (s.1:Int),.int .i64 (s.2:Int)]
theorem Jk{P:List Lx.Pd}{k:Nat}(h:k<P.length):cZ P k=P[k].right:=by simp[cZ,h]
end Go.Proofs.YtagkodkijkpemaaGreatDoor
namespace Go.Proofs.YtagkodkijkpemaaGreatDoor
open Lx Go.Proofs.Tryz
open Go.RowKit
open Tr
abbrev aN(T k:Nat){α:Type}(enc:α->List Value)(B:Nat)(w:World)(v:Value)(l:List α):Prop:=w.ownsRow B T k v l.length (l.flatMap enc)
structure uQ{α:Type}(enc:α->List Value)(k:Nat):Prop where
 len:∀x,(enc x).length=k
 one:∀x,∀u∈enc x,u.oneCell'=true
theorem uQ.JR{α:Type}{enc:α->List Value}{k:Nat}(h:uQ enc k):∀l:List α,(l.flatMap enc).length=l.length*k
 | []=>by simp
 |x::l=>by rw[du,cH,h.JR l,h.len,el,mN];omega
theorem uQ.anp{α:Type}{enc:α->List Value}{k:Nat}(h:uQ enc k)(l:List α):∀u∈l.flatMap enc,u.oneCell'=true:=by
 intro u a;obtain⟨s,-,b⟩:=gd.1 a;exact h.one s u b
theorem uQ.Ur{α:Type}{enc:α->List Value}{k:Nat}(h:uQ enc k):∀{l:List α}{j i:Nat}(hj:j<l.length),i<k->(l.flatMap enc)[j*k+i]?=(enc l[j])[i]?
 | [],j,i,hj,_=>absurd hj (Nat.not_lt_zero _)
 |x::l,0,i,_,hi=>by rw[du,sq,fi,eC (by rw[h.len];exact hi)];rfl
 |x::l,j+1,i,hj,hi=>by
  rw[du,eJ (by rw[h.len,mN];omega),h.len,show (j+1)*k+i-k=j*k+i by rw[mN];omega,h.Ur (by simpa using hj) hi];rfl
theorem aN.at{T k B:Nat}{α:Type}{enc:α->List Value}{w:World}{v:Value}{l:List α}(n:uQ enc k)(h:aN T k enc B w v l){j:Nat}(d:j<l.length):∃g cap,v=.slice (some ⟨g,0,none⟩) l.length cap/\B<=g/\g<w.heap.size/\∀i u,i<k->(enc l[j])[i]?=some u->w.cell? ⟨g,j*k+i,none⟩=some u:=by
 obtain⟨g,cap,e,a,m⟩:=World.ownsRow.form h (by omega);subst e;have f:=ml h (g:=g) rfl;refine⟨g,cap,rfl,a,m,fun i u b c=>?_⟩;have:=f (j*k+i) u (by rw[n.Ur d b];exact c);rw[show (⟨g,0,none⟩:Addr).add (j*k+i)=⟨g,j*k+i,none⟩ by unfold Addr.add;split <;> simp_all]at this;exact this
theorem aN.below{T k B:Nat}{α:Type}{enc:α->List Value}{w w':World}{v:Value}{l:List α}(h:aN T k enc B w v l)(a:Below w.heap.size w w'):aN T k enc B w' v l:=own_below h a
theorem MW{T S k f:Nat}{z:Value}{α:Type}{enc:α->List Value}(M:(prog.info? T).map (fun i=>(i.zero,i.size,i.bytes))=some (some z,k,f))(R:prog.underlying S=some (.slice T))(L:z.cells.size=k)(J:0<k)(D:uQ enc k){w:World}{n:Array Oper}{rest:List Oper}{o:Oper}{a:Act}{Q:Exit->Act->World->Prop}(q:o.guard=none)(s x:Operand)(U:o.op=.call { callee:=.builtin .append,args:=#[s,x],argTypes:=#[S,S] })(B:Nat)(O:B<=w.heap.size)(v:Value)(l:List α)(F:a.eval s=v)(E:aN T k enc B w v l)(y:α)(g c:Nat)(G:a.eval x=.slice (some ⟨g,0,none⟩) 1 c)(K:∀(j:Nat)(u:Value),(enc y)[j]?=some u->w.cell? ((⟨g,0,none⟩:Addr).add j)=some u)(N:l.length+1<=maxLen)(C:(l.length+1)*f<=140737488355328)(h:∀v' w',aN T k enc B w' v' (l++[y])->Below B w w'->w.grownBy w' v.ownBlock->(v'.ownBlock=v.ownBlock\/v'.ownBlock=some w.heap.size)->wpList prog n Q rest (a.put o.dst v') w'):wpList prog n Q (o::rest) a w:=by
 obtain⟨P,r,p,t,A⟩:=fd M;refine ge _ q s x S U B T P _ k f R r p t A L J v l.length (l.flatMap enc) F E ⟨g,0,none⟩ 1 c (enc y) G (by rw[D.len,sL]) K (D.one y) N C O fun V H d m _ I=>?_
 refine h V H ?_ ?_ m I
 ·have e:(l++[y]).flatMap enc=l.flatMap enc++enc y:=by simp
  unfold aN;rw[e,cH];exact d
 ·exact⟨m.os,m.tape,m.output,m.size,fun b W=>m.block b (by omega) fun e=>absurd (p6 E b e.symm).1 (by omega)⟩
theorem Cc:uQ iJ 2:=⟨fun _=>rfl,fun s u a=>by simp only[iJ,ee,ph,or_false]at a;rcases a with rfl|rfl <;> rfl⟩
end Go.Proofs.YtagkodkijkpemaaGreatDoor
namespace Go.Proofs.YtagkodkijkpemaaGreatDoor
open Lx Go.Proofs.Tryz
open Go.RowKit
open Tr
theorem Tryz.Qu:prog.underlying 112=some (.slice 5):=by kernel_rfl
def BR(B:Nat)(w:World)(v:Value)(l:List UInt8):Prop:=w.ownsRow B 5 1 v l.length (Lib.byteCells l)
theorem Y4(a b:List UInt8):Lib.byteCells (a++b)=Lib.byteCells a++Lib.byteCells b:=by simp[Lib.byteCells]
def KpB(w w':World):Prop:=∀(g:Nat)(cs:Array Value)(e:Nat),e≠5->aj w g cs e->aj w' g cs e
theorem Y5 {B : Nat}{w : World}{v : Value}{l : List UInt8}{n : Nat}(h : BR B w v l)(d : B ≤ w.heap.size)(o : n ≤ 1000000)(q : l.length ≤ 100000000000)(k : Lib.TabBelow prog B w "internal/strconv.uint64pow10" .u64 Lib.pow10Tab) : Calls prog 142 #[v, .int .i64 (n : Int), .int .i64 10] w fun e w' => ∃ v', e = .returned v' ∧ BR B w' v' (l ++ Lib.decDigits n) ∧ Below B w w' ∧ KpB w w' := by
 refine(Any.strconv_AppendInt_10 Tryz.ajM B l.length (n:Int) (by omega) (by omega) v (Lib.byteCells l) w h d (by omega) k).mono ?_;rintro e w'⟨v',rfl,j,f,i⟩;refine⟨v',rfl,?_,f,fun g m e b a=>i g _ a (by simp) (fun c p h=>by cases h;exact b rfl)⟩;unfold BR;rw[Y4,cH,<-Lib.itoa_nonneg];exact j
theorem Tryz.abF{w:World}{i:Array Oper}{rest:List Oper}{o:Oper}{a:Act}{Q:Exit->Act->World->Prop}(p:o.guard=none)(s x:Operand)(M:o.op=.call { callee:=.builtin .append,args:=#[s,x],argTypes:=#[112,112] })(B:Nat)(K:B<=w.heap.size)(v:Value)(l:List UInt8)(E:a.eval s=v)(z:BR B w v l)(y:UInt8)(g c:Nat)(F:a.eval x=.slice (some ⟨g,0,none⟩) 1 c)(I:w.cell? ⟨g,0,none⟩=some (.int .u8 (y.toNat:Int)))(R:l.length<=100000000000)(h:∀v' w',BR B w' v' (l++[y])->Below B w w'->KpB w w'->wpList prog i Q rest (a.put o.dst v') w'):wpList prog i Q (o::rest) a w:=by
 obtain⟨L,q,n,r,t⟩:=info_parts Tryz.info5;refine wpList_append_own_at _ p s x 112 M B 5 L _ 1 1 Tryz.Qu q n r t rfl (by decide) v l.length (Lib.byteCells l) E z ⟨g,0,none⟩ 1 c [Value.int .u8 (y.toNat:Int)] F rfl (by
  intro j u m
  match j,m with
  |0,m=>simp at m;subst m;simpa [Addr.add]using I) (by intro u A;simp at A;subst A;rfl) (by unfold maxLen;omega) (by omega) K fun N G d f _ _=>?_
 refine h N G ?_ ⟨f.os,f.tape,f.output,f.size,fun b O=>f.block b (by omega) fun e=>absurd (World.ownsRow.lt z b e.symm).1 (by omega)⟩ (fun g P e J k=>(f.block g k.lt fun H=>J (by
  obtain⟨D,C⟩:=eU z H.symm;unfold aj at k;rw[k]at C;cases C;rfl)).trans k)
 unfold BR;rw[Y4,List.length_append];exact d
theorem Lx.ajQ{K:List au}{j:Nat}(a:j<K.length):mR (K.take (j+1))=((mR (K.take j)++Lib.decDigits K[j].1)++[46]++Lib.decDigits K[j].2)++[32]:=by
 rw[ff a];unfold mR;rw[fL];simp
theorem ND{n:Nat}(h:n<=1000000):(Lib.decDigits n).length<=21:=by
 have:=Lib.itoa_length_le (n:Int) (by omega) (by omega);rw[Lib.itoa_nonneg]at this;exact this
theorem Lx.alb{K:List au}(h:∀s∈K,s.1<=1000000/\s.2<=1000000):(mR K).length<=K.length*44:=by
 induction K with
 |nil=>simp[mR]
 |cons s K ih=>
  rw[Fh];have h1:=ND (h s eh).1;have h2:=ND (h s eh).2;have h3:=ih fun t a=>h t (ev _ a)
  simp only[cH,el];omega
theorem ag7{B0:Nat}{w:World}{v:Value}{K:List au}(Y:aN 160 2 iJ B0 w v K)(L:K≠[])(hl:K.length<=1000000)(y:∀s∈K,s.1<=1000000/\s.2<=1000000)(ht:fq w):Calls prog 102 #[v] w fun e w'=>e=.returned (.string (qb K))/\Below w.heap.size w w':=by
 obtain⟨a,c,rfl,-⟩:∃a c,v=.slice a K.length c/\K.length<=maxLen:=aB Y;have hT:=Lib.tabBelow_of_tabIs ht
 have V : Hid (Lib.TabBelow prog w.heap.size w "internal/strconv.uint64pow10" .u64 Lib.pow10Tab) := hT
 have S:Hid (∀s∈K,s.1<=1000000/\s.2<=1000000):=y;clear hT ht y;go_enter func102,ntmps102;go_wp2_with fail
 go_loopg [3,8] K.length (fun m v i wr=>∃j:Nat,j+m=K.length/\i=.int .i64 (j:Int)/\BR w.heap.size wr v (mR (K.take j))/\Below w.heap.size w wr)
 case atStart=>exact⟨0,by omega,rfl,eE _ _ _ _,cV _ _⟩
 case round=>
  revert wr;intro d hrel;obtain⟨j,ag,rfl,k,f⟩:=hrel;have hsz:=f.size;have l:(mR (K.take j)).length<=44000000:=by
   have:=alb (K:=K.take j) fun s y=>S.out s (nz y)
   simp only[fN]at this;omega
  by_cases hlt:j<K.length
  ·obtain⟨g,x,hv,-,lg,D⟩:=aN.at Cc (aN.below Y f) hlt
   cases hv;have c0:=D 0 _ (by decide) rfl;have T:=D 1 _ (by decide) rfl;have q:=S.out K[j] (dy hlt);have o:Hid (mR (K.take (j+1))=((mR (K.take j)++Lib.decDigits K[j].1)++[46]++Lib.decDigits K[j].2)++[32]):=ajQ hlt;have U:=ND q.1;have R:=ND q.2;clear D;generalize K[j]=s at c0 T q o U R;obtain⟨M,J⟩:=s;simp only[lP]at c0 T q U R;generalize hX:mR (K.take j)=X at k l o;clear hX;have i1:(0:Int)<=(j:Int):=by omega
   have i2:(j:Int)<(K.length:Int):=by omega
   obtain⟨p,b⟩:∃W,W=d.alloc (.cells #[.int .i64 (M:Int),.int .i64 (J:Int)] 160):=⟨_,rfl⟩;have u:Below d.heap.size d p:=by rw[b];exact(cV _ _).alloc (zL0) _
   have GH:aj p d.heap.size #[.int .i64 (M:Int),.int .i64 (J:Int)] 160:=by rw[b];exact aj.new d _ 160
   have ae:p.heap.size=d.heap.size+1:=by rw[b];simp
   have s0:p.cell? ⟨d.heap.size,0,none⟩=some (.int .i64 (M:Int)):=GH.cell 0;have I:BR w.heap.size p _ X:=own_below k u;have dY:Below w.heap.size w p:=f.trans (u.mono (by omega));have Q:=Y5 I (by omega) q.1 (by omega) (V.out.on dY);go_upto_region 5 with fail
   rw[<-b];clear b;go_upto_region 6 with (go_at_call 142;refine Q.mono ?_;rintro e w2⟨v2,rfl,C,r,VN⟩)
   have z:=VN _ _ 160 (by decide) GH;have af:=r.size;clear Q s0;go_upto_region 7 with (at_builtin;go_loud (refine Tryz.abF rfl _ _ rfl w.heap.size (by simp;omega) _ _ rfl (own_below C ((cV _ _).alloc (zL0) _)) 46 _ 1 rfl ((aj.new _ _ 5).cell 0) (by simp;omega) ?_;intro v3 w3 B t H))
   have Pt:=H _ _ 160 (by decide) (z.alloc _);have ac:=t.size;have s1:w3.cell? ⟨d.heap.size,1,none⟩=some (.int .i64 (J:Int)):=Pt.cell 1;have G:Below w.heap.size w w3:=dY.trans (r.trans (((cV _ w2).alloc (by omega) _).trans t));have Z:=Y5 B (by have:=G.size;omega) q.2 (by simp;omega) (V.out.on G);go_upto_region 8 with (go_at_call 142;refine Z.mono ?_;rintro e O⟨v4,rfl,E,F,xW⟩)
   have JS:Below w.heap.size w O:=G.trans F;have ab:=JS.size;clear Z s1
   go_wp2_with (at_builtin;go_loud (refine Tryz.abF rfl _ _ rfl w.heap.size (by simp;omega) _ _ rfl (own_below E ((cV _ _).alloc (zL0) _)) 32 _ 1 rfl ((aj.new _ _ 5).cell 0) (by simp;omega) ?_;intro v5 w5 N A Cv))
   go_roundg (K.length - (j+1))
   case measure=>omega
   case rel=>exact⟨j+1,by omega,by go_num,by rw[o.out];exact N,JS.trans (((cV _ O).alloc (by omega) _).trans A)⟩
  ·obtain rfl:j=K.length:=by omega
   rw[ft]at k l;have n:mR K≠[]:=by
    cases K with
    |nil=>exact absurd rfl L
    |cons s K=>rw[Fh];simp
   have o:Hid (qb K=⟨(mR K).toArray⟩):=rfl;generalize mR K=X at k n o;unfold BR at k;rcases k.2 with ⟨-,h0⟩|⟨g,x,aa,rfl,-,-,-,-,-,-⟩
   ·exact absurd (fY h0) n
   ·have ad:=run_convert_bytes_back (P:=prog) d 112 9 5 ⟨g,0,none⟩ x X Tryz.Qu underlying5 underlying9 (fun j hj=>ml k (g:=g) rfl j _ (by simp[Lib.byteCells,hj]))
    clear k n;go_wp2_with fail;go_ret;exact⟨by rw[o.out];rfl,f⟩
end Go.Proofs.YtagkodkijkpemaaGreatDoor
namespace Go.Proofs.YtagkodkijkpemaaGreatDoor
open Lx Go.Proofs.Tryz
open Go.RowKit
open Tr
namespace Pk
def By(l:List Nat):Prop:=∀x∈l,x<256
theorem By.app{l k:List Nat}(h:By l)(a:By k):By (l++k):=fun x b=>(cY.1 b).elim (h x) (a x)
theorem tC(x:Nat):∀n,By (be n x)
 |0=>fun y a=>by cases a
 |n+1=>fun y a=>by
  rw[be,ee]at a;rcases a with rfl|a
  ·exact tw _ (by decide)
  ·exact tC x n y a
theorem acy(t:ByteArray):By (uj t):=fun x a=>by
 obtain⟨y,-,rfl⟩:=ej.1 a;exact y.toNat_lt
theorem Ns{α:Type}{f:α->List Nat}{l:List α}(h:∀x,By (f x)):By (l.flatMap f):=fun x a=>by
 obtain⟨y,-,b⟩:=gd.1 a;exact h y x b
theorem Tt:∀(l:List (Nat×Nat×Nat))(g:Nat),By (wP g l)
 | [],_=>fun x a=>by cases a
 |y::l,g=>by
  rw[wP]
  split
  ·exact Tt l _
  ·exact(((tC _ _).app (tC _ _)).app (tC _ _)).app (Tt l _)
theorem ac7(m:Mk):∀k,By (wD m k)
 |0=>fun x a=>by cases a
 |k+1=>(ac7 m k).app ((tC _ _).app (tC _ _))
theorem acz(m:Mk):∀k,(wD m k).length=4*k
 |0=>rfl
 |k+1=>by
  rw[wD,cH,acz m k,cH,qP,qP];omega
def wZ(l:List Nat):List Nat:=l.flatMap fun s=>be 2 (s-1)
def KX(T N:List ByteArray)(P:List (Nat×Nat))(m:Mk):List Nat:=[m.aI.length,T.length,N.length,P.length]
theorem abG(T N:List ByteArray)(P:List (Nat×Nat))(m:Mk):sj T N P m=wZ (KX T N P m)++(wS T++(wS N++(wR T.length P++(wD m m.aI.length++lU m.ak)))):=by
 simp[sj,wZ,KX,List.append_assoc]
theorem alc(T N:List ByteArray)(P:List (Nat×Nat))(m:Mk):By (sj T N P m):=by
 rw[abG];exact(Ns fun _=>tC _ _).app ((Ns fun _=>(tC _ _).app (acy _)).app ((Ns fun _=>(tC _ _).app (acy _)).app ((Ns fun _=>(tC _ _).app (tC _ _)).app ((ac7 _ _).app ((tC _ _).app (Tt _ _))))))
theorem aaH(l:List Nat):(zq l).size=l.length:=by
 show (l.map fun x=>UInt8.ofNat x).toArray.size=_;simp
end Pk
theorem ald{l:List Nat}(h:Pk.By l):Pm (Pk.zq l)=l.map uh:=by
 unfold Pm Pk.zq;simp only[rh];refine lz fun x b=>?_
 have a:=h x b;show uh (UInt8.ofNat x).toNat=uh x;rw[UInt8.toNat_ofNat',Nat.mod_eq_of_lt a]
theorem agb{w:World}{pb:Nat}{ta na:Option Addr}{tc nc:Nat}{vs:Nat->Value}{T N:List ByteArray}{P:List (Nat×Nat)}{m:Pk.Mk}(hS:pF w)(aP:0<w.heap.size)(kp:aj w pb (Gy (.slice ta T.length tc) (.slice na N.length nc) vs) 79)(hT:yV w (.slice ta T.length tc) T)(hN:yV w (.slice na N.length nc) N)(r0:lD w (vs 0) m.ay)(r1:lQ w (vs 1) m.ak)(r4:vG w (vs 4) P)(r5:lD w (vs 5) m.aI)(h0:0<m.aI.length/\0<T.length/\0<N.length/\0<P.length)(ah:m.ay.length=m.aI.length)(hp:∀x∈P,T.length<=x.1/\x.1<=1000000000)(K:∀x∈m.ak,x.1<=15/\x.2.1<4096)(Q:(Pk.sj T N P m).length<=100000000)(bf:m.ak.length<=10000000)(bi:m.aI.length<=1000000/\T.length<=1000000/\N.length<=1000000/\P.length<=1000000):Calls prog 22 #[.pointer (some ⟨pb,0,none⟩)] w fun e w'=>e=.returned (.string (Pk.written T N P m))/\Below w.heap.size w w':=by
 obtain⟨a0,k0,a2,av⟩:=r0;obtain⟨a1,k1,ap,ae⟩:=r1;obtain⟨a4,k4,ao,az⟩:=r4;obtain⟨a5,k5,ar,qX⟩:=r5;obtain⟨B,hB⟩:∃B,w.heap.size=B:=⟨_,rfl⟩;obtain⟨w1,E⟩:∃V,V=w.alloc (.cells #[.slice none 0 0] 114):=⟨_,rfl⟩;have h1:bH w B B (.slice none 0 0) w1 []:=⟨by rw[E,<-hB];exact aj.new ..,eE _ _ _ _,by rw[E,<-hB];exact(cV _ _).alloc (zL0) _,zL0⟩;have q:Hid (∀wr l v,bH w B B v wr l->wr.cell? ⟨pb,0,none⟩=some (.slice a0 m.ay.length k0)/\wr.cell? ⟨pb,1,none⟩=some (.slice a1 m.ak.length k1)/\wr.cell? ⟨pb,2,none⟩=some (.slice ta T.length tc)/\wr.cell? ⟨pb,3,none⟩=some (.slice na N.length nc)/\wr.cell? ⟨pb,4,none⟩=some (.slice a4 P.length k4)/\wr.cell? ⟨pb,5,none⟩=some (.slice a5 m.aI.length k5)):=fun wr l v h=>by
  have k:aj wr pb (Gy (.slice ta T.length tc) (.slice na N.length nc) vs) 79:=(h.b.block pb (by rw[<-hB];exact kp.lt)).trans kp;exact⟨by rw[<-a2];exact k.cell 0,by rw[<-ap];exact k.cell 1,k.cell 2,k.cell 3,by rw[<-ao];exact k.cell 4,by rw[<-ar];exact k.cell 5⟩
 have U:Hid (∀wr,Below B w wr->(∀(j:Nat)x,m.ay[j]?=some x->∃g,a0=some ⟨g,0,none⟩/\wr.cell? ⟨g,j,none⟩=some (.int .i64 (x:Int)))/\(∀(j:Nat)x,m.aI[j]?=some x->∃g,a5=some ⟨g,0,none⟩/\wr.cell? ⟨g,j,none⟩=some (.int .i64 (x:Int)))/\(∀(j:Nat)x,P[j]?=some x->∃g,a4=some ⟨g,0,none⟩/\wr.cell? ⟨g,j*2,none⟩=some (.int .i64 (x.1:Int))/\wr.cell? ⟨g,j*2+1,none⟩=some (.int .i64 (x.2:Int)))):=fun wr Y=>by
  rw[<-hB]at Y;refine⟨fun j x K=>?_,fun j x K=>?_,fun j x K=>?_⟩
  ·obtain⟨g,e,h⟩:=av j x K
   rw[jt]at h;exact⟨g,e,aV Y h⟩
  ·obtain⟨g,e,h⟩:=qX j x K
   rw[jt]at h;exact⟨g,e,aV Y h⟩
  ·obtain⟨g,e,h,h'⟩:=az j x K
   exact⟨g,e,aV Y h,aV Y h'⟩
 have R:Hid ((∀wr v l,bH w B B v wr l->l.length+(Pk.wS T).length<=1000000000->Calls prog 46 #[.pointer (some ⟨B,0,none⟩),.slice ta T.length tc] wr fun e c=>e=.returned (.tuple #[])/\∃gZ,bH w B B gZ c (l++Pk.wS T))/\(∀wr v l,bH w B B v wr l->l.length+(Pk.wS N).length<=1000000000->Calls prog 46 #[.pointer (some ⟨B,0,none⟩),.slice na N.length nc] wr fun e c=>e=.returned (.tuple #[])/\∃gZ,bH w B B gZ c (l++Pk.wS N))/\(∀wr v l,bH w B B v wr l->l.length+3+6*m.ak.length<=1000000000->Calls prog 47 #[.pointer (some ⟨B,0,none⟩),.slice a1 m.ak.length k1] wr fun e c=>e=.returned (.tuple #[])/\∃gZ,bH w B B gZ c (l++Pk.lU m.ak))/\(∀wr,Below B w wr->pF wr)):=by
  subst hB;exact⟨fun wr v l h Q=>Y2 h hT Q,fun wr v l h Q=>Y2 h hN Q,fun wr v l h Q=>af8 h ⟨a1,k1,rfl,ae⟩ Q K,fun wr Y=>hS.move (Y.block 0 aP)⟩
 obtain⟨c0,Z,c2,c3,c4,c5⟩:=q.out _ _ _ h1;have t:Hid (Pk.sj T N P m=Pk.wZ (Pk.KX T N P m)++(Pk.wS T++(Pk.wS N++(Pk.wR T.length P++(Pk.wD m m.aI.length++Pk.lU m.ak))))):=Pk.abG T N P m;have VO:Hid (Pk.By (Pk.sj T N P m)):=Pk.alc T N P m;have HW:Hid (Pk.written T N P m=Pk.zq (Pk.sj T N P m++Pk.be 4 (Pk.sum (Pk.zq (Pk.sj T N P m)) (Pk.sj T N P m).length))):=rfl;have a6:Hid (w.heap.size=B):=hB;obtain⟨z,hz⟩:∃z,Pk.KX T N P m=z:=⟨_,rfl⟩;obtain⟨w2,D⟩:∃V,V=(w1.alloc (.cells #[.int .i64 (m.aI.length:Int),.int .i64 (T.length:Int),.int .i64 (N.length:Int),.int .i64 (P.length:Int)] 3)).drew:=⟨_,rfl⟩;obtain⟨bs,aA⟩:∃b,w1.heap.size=b:=⟨_,rfl⟩;have k2:aj w2 bs (eO z) 3:=by rw[D,<-aA,<-hz];exact(aj.new ..).drew
 have h2:bH w B B (.slice none 0 0) w2 []:=h1.move (by rw[D];exact((cV _ _).alloc (zL0) _).drew);have HZ:Hid (z.length=4/\∀x∈z,0<x/\x<=1000000):=by
  refine⟨by rw[<-hz];rfl,?_⟩;rw[<-hz];simp only[Pk.KX,ee,ph,or_false];rintro x(rfl | rfl | rfl | rfl) <;> omega
 have C:Hid (∃v l,bH w B B v w2 l/\aj w2 bs (eO z) 3/\l++(Pk.wZ (z.drop 0)++(Pk.wS T++(Pk.wS N++(Pk.wR T.length P++(Pk.wD m m.aI.length++Pk.lU m.ak)))))=Pk.sj T N P m):=⟨_,[],h2,k2,by rw[t.out,hz];rfl⟩;clear av ae az qX a2 ap ao ar kp hT hN K hS h1 k2 h2 hz t;have ag:Hid (m.ay.length=m.aI.length):=ah;have HP:Hid (∀x∈P,T.length<=x.1/\x.1<=1000000000):=hp;clear ah hp h0;obtain⟨f,a3⟩:∃l,Pk.sj T N P m=l:=⟨_,rfl⟩;rw[a3]at Q C VO HW;clear a3;go_enter func22,ntmps22;go_upto_region 2 with fail
 rw[<-E];clear E
 go_region
 rw[<-D];clear D c0 Z c2 c3 c4 c5;go_wp2_with fail
 go_loopw [32] (fun i wr=>∃j:Nat,j<=4/\i=.int .i64 (j:Int)/\Hid (∃v l,bH w B B v wr l/\aj wr bs (eO z) 3/\l++(Pk.wZ (z.drop j)++(Pk.wS T++(Pk.wS N++(Pk.wR T.length P++(Pk.wD m m.aI.length++Pk.lU m.ak)))))=f)) (fun i _=>4 - (intOf i).toNat)
 case atStart=>exact⟨0,by omega,rfl,C⟩
 case round=>
  clear C;obtain⟨j,hj,rfl,H⟩:=hrel;obtain⟨v,l,h1,kS,a⟩:=H.out;clear H
  by_cases hjn:j<4
  ·have j1:(j:Int)<4:=by omega
   obtain⟨s,hs⟩:∃s,z[j]?=some s:=⟨_,cF (by rw[HZ.out.1];exact hjn)⟩;have bj:=HZ.out.2 s (cQ hs);have cs:wr.cell? ⟨bs,j,none⟩=some (.int .i64 (s:Int)):=by rw[kS.cell];exact RO hs
   have hd:z.drop j=s::z.drop (j+1):=by
    obtain⟨hh,e⟩:=cG.1 hs;rw[eL hh,e]
   have e1:Pk.wZ (z.drop j)=Pk.be 2 (s-1)++Pk.wZ (z.drop (j+1)):=by rw[hd];rfl
   rw[e1]at a;obtain⟨S,rfl⟩:∃S,s=S+1:=⟨s-1,by omega⟩;rw[Nat.add_sub_cancel]at a;rw[show ((S+1:Nat):Int)=(S:Int)+1 by omega]at cs;have G:l.length<=100000000:=by
    have:=eS List.length a;rw[cH]at this;omega
   have u:Calls prog 45 #[.pointer (some ⟨B,0,none⟩),.int .i64 2,.int .i64 (S:Int)] wr fun e c=>e=.returned (.tuple #[])/\∃gZ,bH w B B gZ c (l++Pk.be 2 S)/\jk wr c:=wI (n:=2) h1 (by decide) (by omega)
   have t:Hid (l++(Pk.be 2 S++Pk.wZ (z.drop (j+1))++(Pk.wS T++(Pk.wS N++(Pk.wR T.length P++(Pk.wD m m.aI.length++Pk.lU m.ak)))))=f):=a;clear h1 a hd e1 q U R
   go_wp2_with (go_at_call 45;refine u.mono ?_;rintro e o⟨rfl,aG,h3,o3⟩)
   refine⟨⟨j+1,by omega,by go_num,aG,_,h3,o3.blk kS (by decide) (by decide),?_⟩,by simp[intOf];omega⟩;rw[<-t.out];simp only[dq]
  ·obtain rfl:j=4:=by omega
   rw[tE (by rw[HZ.out.1];exact zL0)]at a;have t:Hid (l++(Pk.wS T++(Pk.wS N++(Pk.wR T.length P++(Pk.wD m m.aI.length++Pk.lU m.ak))))=f):=a;have J:Hid ((l++(Pk.wS T++(Pk.wS N++(Pk.wR T.length P++(Pk.wD m m.aI.length++Pk.lU m.ak))))).length<=100000000):=by show _<=_;rw[t.out];exact Q
   have ai:=J.out;simp only[cH]at ai;have q1:=R.out.1 wr v l h1 (by omega);obtain⟨-,-,c2,-,-,-⟩:=q.out _ _ _ h1;clear h1 kS a HZ;go_upto_region 8 with (go_at_call 46;refine q1.mono ?_;rintro e o⟨rfl,v3,h3⟩)
   have q2:=R.out.2.1 o v3 _ h3 (by rw[cH];omega);obtain⟨-,-,-,c3,-,-⟩:=q.out _ _ _ h3;clear q1 c2 h3;go_upto_region 9 with (go_at_call 46;refine q2.mono ?_;rintro e w4⟨rfl,v4,h4⟩)
   obtain⟨-,-,-,-,c4,-⟩:=q.out _ _ _ h4;have C:Hid (∃v l,bH w B B v w4 l/\l++(Pk.wR T.length (P.drop 0)++(Pk.wD m m.aI.length++Pk.lU m.ak))=f):=⟨v4,_,h4,by rw[<-t.out];simp only[dq,List.drop_zero]⟩;clear q2 c3 h4 t J ai;go_wp2_with fail;clear c4
   go_loopw [55] (fun i wr=>∃j:Nat,j<=P.length/\i=.int .i64 (j:Int)/\Hid (∃v l,bH w B B v wr l/\l++(Pk.wR T.length (P.drop j)++(Pk.wD m m.aI.length++Pk.lU m.ak))=f)) (fun i _=>P.length - (intOf i).toNat)
   case atStart=>exact⟨0,by omega,rfl,C⟩
   case round=>
    clear C;revert wr;intro wz hrel;obtain⟨j,hj,rfl,H⟩:=hrel;obtain⟨v,l,h1,a⟩:=H.out;clear H
    by_cases hjn:j<P.length
    ·have j1:(j:Int)<(P.length:Int):=by omega
     obtain⟨x,hxj⟩:∃x,P[j]?=some x:=⟨_,cF hjn⟩;obtain⟨g,rfl,Z,c2⟩:=(U.out wz h1.b).2.2 j x hxj;have aq:=HP.out x (cQ hxj);have hd:P.drop j=x::P.drop (j+1):=by
      obtain⟨hh,e⟩:=cG.1 hxj;rw[eL hh,e]
     have e1:Pk.wR T.length (P.drop j)=(Pk.be 2 (x.1-T.length)++Pk.be 2 x.2)++Pk.wR T.length (P.drop (j+1)):=by rw[hd];rfl
     rw[e1]at a;obtain⟨y1,y2⟩:=x;simp only at Z c2 aq a;obtain⟨d,af⟩:∃d,y1-T.length=d:=⟨_,rfl⟩;rw[af]at a;have e3:(y1:Int) - (T.length:Int)=(d:Int):=by omega
     have e4:IntKind.i64.wrap (d:Int)=(d:Int):=by rw[gw];omega
     have bd:d<=1000000000:=by omega
     have G:l.length+4<=100000000:=by
      have:=eS List.length a;simp only[cH,Pk.qP]at this;omega
     obtain⟨L,aW⟩:∃V,V=wz.alloc (.cells #[.int .i64 (y1:Int),.int .i64 (y2:Int)] 81):=⟨_,rfl⟩;obtain⟨bx,an⟩:∃b,wz.heap.size=b:=⟨_,rfl⟩;have kX:aj L bx #[.int .i64 (y1:Int),.int .i64 (y2:Int)] 81:=by rw[aW,<-an];exact aj.new ..
     have h2:bH w B B v L l:=h1.move (by rw[aW];exact(cV _ _).alloc (zL0) _);have x1:L.cell? ⟨bx,0,none⟩=some (.int .i64 (y1:Int)):=kX.cell 0;obtain⟨-,-,a7,-,-,-⟩:=q.out _ _ _ h2;have u:∀O,Calls prog 45 #[.pointer (some ⟨B,0,none⟩),.int .i64 2,.int .i64 (d:Int)] (L.drewN O) fun e c=>e=.returned (.tuple #[])/\∃gZ,bH w B B gZ c (l++Pk.be 2 d)/\jk (L.drewN O) c:=fun O=>wI (n:=2) (W:=L.drewN O) (h2.move ⟨rfl,rfl,rfl,zL0,fun _ _=>rfl⟩) (by decide) (by omega)
     have t:Hid (l++(Pk.be 2 d++Pk.be 2 y2++Pk.wR T.length (P.drop (j+1))++(Pk.wD m m.aI.length++Pk.lU m.ak))=f):=a;have ax:Hid (∀O o,jk (L.drewN O) o->aj o bx #[.int .i64 (y1:Int),.int .i64 (y2:Int)] 81):=fun O o ho=>ho.blk (show aj (L.drewN O) bx _ 81 from kX) (by decide) (by decide)
     clear h1 h2 a hd e1 kX q U R af aq HP;go_upto_region 12 with fail
     rw[<-aW];clear aW an;refine(oX (n:=9)).1 ?_;refine mo 8 (by kernel_rfl) (by kernel_rfl) (by kernel_rfl) ?_
     dsimp only[List.take,List.drop,List.length]
     repeat (gi_big_quiet_step (fail))
     refine wpQuietIn_nil ?_;rintro _⟨J7,rfl⟩;refine wpAnyIn_ready (rs:=[8]) (by kernel_rfl) (by simp) (AllReadyIn.cons rfl (fun K2 al=>?_) AllReadyIn.nil)
     go_simp
     refine⟨trivial,(hU.2 (u _)).mono ?_⟩;rintro e o⟨rfl,v3,h3,o3⟩;have ad:=ax.out _ _ o3;have z2:o.cell? ⟨bx,1,none⟩=some (.int .i64 (y2:Int)):=ad.cell 1;have VP:Calls prog 45 #[.pointer (some ⟨B,0,none⟩),.int .i64 2,.int .i64 (y2:Int)] o fun e c=>e=.returned (.tuple #[])/\∃gZ,bH w B B gZ c (l++Pk.be 2 d++Pk.be 2 y2)/\jk o c:=wI (n:=2) h3 (by decide) (by rw[cH,Pk.qP];omega)
     clear u h3 o3 ax ad x1 a7;refine al _ _ (wpAnyIn_done (by kernel_rfl) ?_ _);clear al K2
     go_wp2_with (go_at_call 45;refine VP.mono ?_;rintro e w4⟨rfl,v4,h4,o4⟩)
     refine⟨⟨j+1,by omega,by go_num,v4,_,h4,?_⟩,by simp[intOf];omega⟩;rw[<-t.out];simp only[dq]
    ·obtain rfl:j=P.length:=by omega
     rw[g8]at a;obtain⟨-,-,-,-,-,c5⟩:=q.out _ _ _ h1;have C:Hid (∃v p,bH w B B v wz (p++Pk.wD m 0)/\p++(Pk.wD m m.aI.length++Pk.lU m.ak)=f):=⟨v,l,by rw[Pk.wD,eN];exact h1,a⟩;clear h1 a HP;go_wp2_with fail;clear c5
     go_loopw [77] (fun i wr=>∃j:Nat,j<=m.aI.length/\i=.int .i64 (j:Int)/\Hid (∃v p,bH w B B v wr (p++Pk.wD m j)/\p++(Pk.wD m m.aI.length++Pk.lU m.ak)=f)) (fun i _=>m.aI.length - (intOf i).toNat)
     case atStart=>exact⟨0,by omega,rfl,C⟩
     case round=>
      clear C;revert wr;intro wy hrel;obtain⟨j,hj,rfl,H⟩:=hrel;obtain⟨v,p,h1,a⟩:=H.out;clear H
      by_cases hjn:j<m.aI.length
      ·have j1:(j:Int)<(m.aI.length:Int):=by omega
       have j2:(j:Int)<(m.ay.length:Int):=by have:=ag.out;omega
       obtain⟨x,hxj⟩:∃x,m.aI[j]?=some x:=⟨_,cF hjn⟩;obtain⟨y,ac⟩:∃x,m.ay[j]?=some x:=⟨_,cF (by have:=ag.out;omega)⟩;obtain⟨g,rfl,Z⟩:=(U.out wy h1.b).2.1 j x hxj;have hD:Pk.wD m (j+1)=Pk.wD m j++(Pk.be 1 x++Pk.be 3 y):=by
        rw[Pk.wD,ed,ed,hxj,ac];rfl
       have G:(p++Pk.wD m j).length+4<=100000000:=by
        have A:=eS List.length a;simp only[cH,Pk.acz]at A|-;omega
       have u:Calls prog 45 #[.pointer (some ⟨B,0,none⟩),.int .i64 1,.int .i64 (x:Int)] wy fun e c=>e=.returned (.tuple #[])/\∃gZ,bH w B B gZ c (p++Pk.wD m j++Pk.be 1 x)/\jk wy c:=wI (n:=1) h1 (by decide) (by omega)
       have t:Hid (p++(Pk.wD m m.aI.length++Pk.lU m.ak)=f):=a;have aH:Hid (Pk.wD m (j+1)=Pk.wD m j++(Pk.be 1 x++Pk.be 3 y)):=hD;clear h1 a hD;go_upto_region 19 with (go_at_call 45;refine u.mono ?_;rintro e o⟨rfl,v3,h3,o3⟩)
       obtain⟨c0,-⟩:=q.out _ _ _ h3;obtain⟨g0,rfl,c2⟩:=(U.out o h3.b).1 j y ac;have VP:Calls prog 45 #[.pointer (some ⟨B,0,none⟩),.int .i64 3,.int .i64 (y:Int)] o fun e c=>e=.returned (.tuple #[])/\∃gZ,bH w B B gZ c (p++Pk.wD m j++Pk.be 1 x++Pk.be 3 y)/\jk o c:=wI (n:=3) h3 (by decide) (by rw[cH,Pk.qP];omega)
       clear u h3 o3 Z q U R
       go_wp2_with (go_at_call 45;refine VP.mono ?_;rintro e w4⟨rfl,v4,h4,o4⟩)
       refine⟨⟨j+1,by omega,by go_num,v4,p,?_,t.out⟩,by simp[intOf];omega⟩;rw[aH.out];simp only[dq]at h4|-;exact h4
      ·obtain rfl:j=m.aI.length:=by omega
       obtain⟨-,Z,-⟩:=q.out _ _ _ h1;have G:(p++Pk.wD m m.aI.length).length<=100000000:=by
        have A:=eS List.length a;simp only[cH]at A|-;omega
       have VQ:=R.out.2.2.1 wy v _ h1 (by omega);rw[dq,a]at VQ;clear h1 a G;go_upto_region 22 with (go_at_call 47;refine VQ.mono ?_;rintro e o⟨rfl,v3,h3⟩)
       clear VQ Z;obtain⟨ba,bc,rfl,-⟩:=aB h3.r;have c3:o.cell? ⟨B,0,none⟩=some (.slice ba f.length bc):=h3.blk.cell 0;have Pv:=ajC (v:=.slice ba f.length bc) (B:=B) (R.out.2.2.2 o h3.b) (Pk.zq f) (by rw[Pk.aaH,ald VO.out];exact h3.r);rw[Pk.aaH]at Pv;obtain⟨M,F⟩:∃s,Pk.sum (Pk.zq f) f.length=s:=⟨_,rfl⟩;rw[F]at Pv;have a8:Hid (Pk.sum (Pk.zq f) f.length=M):=F;have bg:M<4294967296:=by rw[<-F];exact Pk.sum_lt _ _
       have u:Calls prog 45 #[.pointer (some ⟨B,0,none⟩),.int .i64 4,.int .i64 (M:Int)] o fun e c=>e=.returned (.tuple #[])/\∃gZ,bH w B B gZ c (f++Pk.be 4 M)/\jk o c:=wI (n:=4) h3 (by decide) (by omega)
       clear h3 F R q U;go_upto_region 23 with (first
        | (go_at_call 48;refine Pv.mono ?_;rintro e w4⟨rfl,a9⟩;obtain rfl:=a9.symm)
        | (go_at_call 45;refine u.mono ?_;rintro e w5⟨rfl,v5,A,o5⟩))
       clear Pv u c3;have aa:Pk.By (f++Pk.be 4 M):=VO.out.app (Pk.tC _ _);have I:Hid (Pk.written T N P m=⟨((f++Pk.be 4 M).map fun x=>UInt8.ofNat x).toArray⟩):=by show _=_;rw[HW.out,a8.out];rfl
       have ab:f++Pk.be 4 M≠[]:=by rw[Pk.be];simp
       generalize f++Pk.be 4 M=X at A aa I ab;rcases A.r.2 with ⟨-,bb⟩|⟨g,am,bh,rfl,-⟩
       ·exact absurd (fY bb) ab
       ·have aF:=run_convert_bytes_back (P:=prog) w5 112 9 5 ⟨g,0,none⟩ am (X.map fun x=>UInt8.ofNat x) Tryz.Qu underlying5 underlying9 (fun j hj=>by
         have aw:j<X.length:=by simpa using hj
         have:=ml A.r (g:=g) rfl j (uh X[j]) (by simp[aw]);rw[this,oi,UInt8.toNat_ofNat',Nat.mod_eq_of_lt (aa _ (dy aw))];rfl)
        rw[dt]at aF;have c5:w5.cell? ⟨B,0,none⟩=some (.slice (some ⟨g,0,none⟩) X.length am):=A.blk.cell 0;have aE:=A.b;clear A ab aa;go_wp2_with fail;go_ret;exact⟨by rw[I.out];rfl,by rw[a6.out];exact aE⟩
end Go.Proofs.YtagkodkijkpemaaGreatDoor
namespace Go.Proofs.YtagkodkijkpemaaGreatDoor
open Lx Go.Proofs.Tryz
open Go.RowKit
open Tr
def oL(ws:List Nat):Array Value:=(ws.map fun x:Nat=>Value.int .u64 (x:Int)).toArray
theorem ZY(ws:List Nat)(i x:Nat):(oL ws).setIfInBounds i (.int .u64 (x:Int))=oL (ws.set i x):=by
 unfold oL;rw[iz,nt]
theorem II(ws:List Nat){i:Nat}(h:i<ws.length):(oL ws)[i]?=some (.int .u64 ((ws.getD i 0:Nat):Int)):=by
 unfold oL;simp[h]
namespace Lx
def nW(n:Nat):Nat:=(n+63) / 64
def dU(ws:List Nat)(t:Nat):Bool:=(ws.getD (t / 64) 0).testBit (t % 64)
def kH(ws:List Nat):Prop:=∀x∈ws,x<18446744073709551616
def xD(ws:List Nat)(t:Nat):List Nat:=ws.set (t / 64) (ws.getD (t / 64) 0 ||| 2 ^ (t % 64))
theorem kH.get{ws:List Nat}(h:kH ws)(i:Nat):ws.getD i 0<18446744073709551616:=by
 rw[ed];cases e:ws[i]? with
 |none=>simp
 |some x=>simpa using h x (cQ e)
theorem kH.set{ws:List Nat}(h:kH ws)(i:Nat){x:Nat}(b:x<18446744073709551616):kH (ws.set i x):=fun y a=>by
 rcases pP a with h1|rfl
 ·exact h y h1
 ·exact b
theorem ac8{a b:Nat}(c:a<18446744073709551616)(d:b<18446744073709551616):a ||| b<18446744073709551616:=Nat.or_lt_two_pow (n:=64) c d
theorem abH{ws:List Nat}(h:kH ws)(t:Nat):kH (xD ws t):=h.set _ (ac8 (h.get _) (by have:2 ^ (t % 64)<2 ^ 64:=Nat.pow_lt_pow_right (by decide) (tw _ (by decide));exact this))
theorem aaI(ws:List Nat)(t:Nat):(xD ws t).length=ws.length:=ib ..
theorem RQ{ws:List Nat}{i j x:Nat}(a:i<ws.length):(ws.set i x).getD j 0=if j=i then x else ws.getD j 0:=by
 simp only[ed,fk]
 by_cases e:i=j
 ·subst e;simp[a]
 ·rw[dk e,dk fun h=>e h.symm]
theorem aaJ{ws:List Nat}{t u:Nat}(a:t<ws.length*64):dU (xD ws t) u=(dU ws u || decide (u=t)):=by
 unfold dU xD;rw[RQ (by omega)]
 by_cases e:u / 64=t / 64
 ·rw[de e,qT,e,Nat.testBit_two_pow]
  congr 1
  by_cases e2:u=t
  ·subst e2;simp
  ·simp only[e2,decide_false]
   exact eV (by omega)
 ·rw[dk e]
  have:u≠t:=fun h=>e (by rw[h])
  simp[this]
theorem ale{n i:Nat}{f:Nat->Nat}:((List.range n).map f).getD i 0=if i<n then f i else 0:=by
 simp only[ed,dj]
 by_cases h:i<n
 ·simp[h]
 ·simp[h]
theorem RU{ws:List Nat}{i:Nat}(h:¬i<ws.length):ws.getD i 0=0:=by simp[Nat.not_lt.1 h]
theorem Fj{ws a:List Nat}(b:ws.length=a.length)(h:∀i,i<ws.length->ws.getD i 0=a.getD i 0):ws=a:=by
 apply mi b;intro i h1 h2;have:=h i h1;simpa [List.getD_eq_getElem?_getD,h1,h2]using this
def kI(ws vs:List Nat)(j:Nat):List Nat:=(List.range ws.length).map fun i=>if i<j then ws.getD i 0 ||| vs.getD i 0 else ws.getD i 0
def dL(ws vs:List Nat):List Nat:=kI ws vs ws.length
theorem yL(ws a:List Nat)(j:Nat):(kI ws a j).length=ws.length:=by simp[kI]
theorem BD(ws a:List Nat)(j i:Nat):(kI ws a j).getD i 0=if i<ws.length/\i<j then ws.getD i 0 ||| a.getD i 0 else ws.getD i 0:=by
 unfold kI;rw[ale]
 by_cases h:i<ws.length
 ·simp only[h,qe,true_and]
 ·rw[dk h,dk (by omega),RU h]
theorem aaK(ws a:List Nat):kI ws a 0=ws:=Fj (yL ..) fun i _=>by rw[BD,dk (by omega)]
theorem ajR{ws a:List Nat}{j:Nat}(c:j<ws.length):kI ws a (j+1)=(kI ws a j).set j (ws.getD j 0 ||| a.getD j 0):=by
 refine Fj (by rw[ib,yL,yL]) fun i b=>?_
 rw[RQ (by rw[yL];exact c),BD,BD];rw[yL]at b
 by_cases e:i=j
 ·subst e;rw[de ⟨c,by omega⟩,de rfl]
 ·rw[dk e]
  by_cases h3:i<j
  ·rw[de ⟨b,by omega⟩,de ⟨b,h3⟩]
  ·rw[dk (by omega),dk (by omega)]
theorem al6{ws b:List Nat}(a:kH ws)(d:kH b)(j:Nat):kH (kI ws b j):=fun x c=>by
 obtain⟨i,-,rfl⟩:=ej.1 c
 split
 ·exact ac8 (a.get i) (d.get i)
 ·exact a.get i
theorem Rp{ws a:List Nat}(h:a.length=ws.length)(t:Nat):dU (dL ws a) t=(dU ws t || dU a t):=by
 unfold dU dL;rw[BD]
 by_cases hi:t / 64<ws.length
 ·rw[de ⟨hi,hi⟩,qT]
 ·rw[dk (by omega),RU hi,RU (by omega)];simp
end Lx
end Go.Proofs.YtagkodkijkpemaaGreatDoor
namespace Go.Proofs.YtagkodkijkpemaaGreatDoor
open Lx Go.Proofs.Tryz
open Go.RowKit
open Tr
theorem Tryz.alf:(prog.info? 277).map (fun i=>(i.zero,i.size,i.bytes))=some (some (.int .u64 0),1,8):=by kernel_rfl
theorem ag8(n:Nat):madeCells #[.int .u64 0] (n*1)=oL (List.replicate n 0):=by
 unfold madeCells oL;apply pN
 ·simp
 ·intro i h1 h2
  simp[Nat.mod_one]
theorem ag9{n:Nat}(g:n<=100000)(w:World):(Instr.makeSlice 214 (.int .i64 (n:Int)) (.int .i64 (n:Int))).run prog w=.ok (.slice (some ⟨w.heap.size,0,none⟩) n n) (w.alloc (.cells (oL (List.replicate n 0)) 277)):=by
 obtain⟨f,d,b,c,a⟩:=fd Tryz.alf;have h:=pj (P:=prog) w 214 277 f _ (by kernel_rfl) d b .i64 .i64 (n:Int) (n:Int) (by omega) (nh _) (by rw[a];omega) (by omega);rw[h,gz,c];have e:Value.cells (.int .u64 0)=#[.int .u64 0]:=rfl;rw[e,ag8]
structure TS(w:World)(g:Nat)(ws:List Nat):Prop where
 blk:aj w g (oL ws) 277
 wd:kH ws
theorem Qv{w:World}{n:Nat}(a:n<=100000):Calls prog 92 #[.int .i64 (n:Int)] w fun e w'=>e=.returned (.slice (some ⟨w.heap.size,0,none⟩) (Lx.nW n) (Lx.nW n))/\w'=w.alloc (.cells (oL (List.replicate (Lx.nW n) 0)) 277):=by
 have h4:=fun w=>ag9 (n:=Lx.nW n) (by unfold Lx.nW;omega) w
 rw[show ((Lx.nW n:Nat):Int)=((n:Int)+64-1) / 64 by unfold Lx.nW;omega]at h4;go_enter func92,ntmps92;go_wp2_with fail;go_ret;exact⟨rfl,rfl⟩
theorem or_bit{a t:Nat}(d:a<18446744073709551616):bits BinOp.or IntKind.u64 (a:Int) (IntKind.u64.wrap (2 ^ (t % 64)))=((a ||| 2 ^ (t % 64):Nat):Int):=by
 have b:2 ^ (t % 64)<18446744073709551616:=by
  have:2 ^ (t % 64)<2 ^ 64:=Nat.pow_lt_pow_right (by decide) (tw _ (by decide));exact this
 have e:IntKind.u64.wrap (2 ^ (t % 64))=((2 ^ (t % 64):Nat):Int):=by
  have c:(2:Int) ^ (t % 64)=((2 ^ (t % 64):Nat):Int):=by rw[Int.natCast_pow];rfl
  rw[IntKind.wrap_u64,c];generalize 2 ^ (t % 64)=x at b;omega
 rw[e,bits_or_u64_nat a _ d b]
theorem aaL{w:World}{g t:Nat}{ws:List Nat}(h:TS w g ws)(k:t<ws.length*64)(i:ws.length<=100000):Calls prog 93 #[.slice (some ⟨g,0,none⟩) ws.length ws.length,.int .i64 (t:Int)] w fun e w'=>e=.returned (.tuple #[])/\TS w' g (xD ws t)/\w.grownBy w' (some g):=by
 have f:w.cell? ⟨g,t / 64,none⟩=some (.int .u64 ((ws.getD (t / 64) 0:Nat):Int)):=(h.blk.cell _).trans (II ws (by omega));have j:=h.blk.frozen (t / 64);have c:(0:Int)<=(t:Int) / 64:=by omega
 have b:(t:Int) / 64<(ws.length:Int):=by omega
 have d:((t:Int) / 64).toNat=t / 64:=by omega
 have a:=or_bit (t:=t) (h.wd.get (t / 64));rw[ed]at a;go_enter func93,ntmps93
 go_region
 go_end0
 refine⟨rfl,⟨?_,abH h.wd t⟩,?_⟩
 ·have:=(h.blk.set (t / 64) (.int .u64 ((ws[t / 64]?.getD 0 ||| 2 ^ (t % 64):Nat):Int))).drew
  rw[ZY]at this;rw[xD,ed];exact this
 ·have:=iM w g (t / 64) (.int .u64 ((ws[t / 64]?.getD 0 ||| 2 ^ (t % 64):Nat):Int))
  exact⟨this.1,this.2,this.3,this.4,this.5⟩
end Go.Proofs.YtagkodkijkpemaaGreatDoor
namespace Go.Proofs.YtagkodkijkpemaaGreatDoor
open Lx Go.Proofs.Tryz
open Go.RowKit
open Tr
theorem agc{a b:Nat}(k:a<18446744073709551616)(g:b<18446744073709551616):bits .andNot .u64 (a:Int) (b:Int)=0↔b ||| a=b:=by
 have d:b<2 ^ 64:=g;have j:∀i,(2 ^ 64 - (b+1)).testBit i=(decide (i<64) && !b.testBit i):=fun i=>Nat.testBit_two_pow_sub_succ d i
 rw[u64_andNot_nat a b k g];have e:(18446744073709551615-b:Nat)=2 ^ 64 - (b+1):=by omega
 rw[e];have h1:((a &&& (2 ^ 64 - (b+1)):Nat):Int)=0↔a &&& (2 ^ 64 - (b+1))=0:=by omega
 rw[h1];constructor
 ·intro h
  apply Nat.eq_of_testBit_eq;intro i;have c:=eS (Nat.testBit · i) h;simp only[Nat.testBit_and,j,Nat.zero_testBit]at c;rw[qT];cases ea:a.testBit i with
  |false=>simp
  |true=>
   rw[ea]at c;have f:i<64:=by
    apply jz;intro l;rw[Nat.testBit_lt_two_pow (dd k (ry (n:=2) (by decide) (show 64<=i by omega)))]at ea;cases ea
   simpa [f]using c
 ·intro h
  apply Nat.eq_of_testBit_eq;intro i;have c:=eS (Nat.testBit · i) h;simp only[qT]at c;rw[Nat.testBit_and,j,Nat.zero_testBit];revert c;cases a.testBit i <;> cases b.testBit i <;> simp
structure TP(w:World)(g:Nat)(ws:List Nat)(w':World):Prop where
 ts:TS w' g ws
 gr:w.grownBy w' (some g)
theorem ME{w:World}{g h nw:Nat}{ws a:List Nat}(u:TS w g ws)(s:TS w h a)(c:g=h->a=ws)(A:ws.length=nw)(P:a.length=nw)(T:nw<=100000):Calls prog 137 #[.slice (some ⟨g,0,none⟩) nw nw,.slice (some ⟨h,0,none⟩) nw nw] w fun e w'=>∃b:Bool,e=.returned (.bool b)/\TP w g (dL ws a) w'/\(b=true↔dL ws a≠ws):=by
 have G:Hid (TP w g (kI ws a 0) w):=⟨by rw[aaK];exact u,⟨rfl,rfl,rfl,zL0,fun _ _ _=>rfl⟩⟩;have N:Hid (∀wr j,TP w g (kI ws a j) wr->j<nw->wr.cell? ⟨h,j,none⟩=some (.int .u64 ((a.getD j 0:Nat):Int))):=fun wr j E O=>by
  by_cases e:g=h
  ·have J:=c e
   subst e;have:=(E.ts.blk.cell j).trans (II _ (by rw[yL];omega));rw[BD,dk (by omega)]at this;rw[this,J]
  ·exact(cJ (w:=w) (E.gr.block h s.blk.lt (fun M=>e (by cases M;rfl)))).trans ((s.blk.cell j).trans (II a (by omega)))
 have p:Hid (false=true↔kI ws a 0≠ws):=by show _↔_;rw[aaK];simp
 have o:Hid (kH ws/\kH a):=⟨u.wd,s.wd⟩;have z:Hid (dL ws a=kI ws a nw):=by show _=_;rw[<-A];rfl
 have K:Hid (∀j,j<nw->kI ws a (j+1)=(kI ws a j).set j (ws.getD j 0 ||| a.getD j 0)):=fun j O=>ajR (by omega)
 have F:Hid (∀j,(kI ws a j).getD j 0=ws.getD j 0):=fun j=>by show _=_;rw[BD,dk (by omega)]
 have D:Hid (∀j,(kI ws a j).length=nw):=fun j=>by show _=_;rw[yL,A]
 clear u s c;go_enter func137,ntmps137;go_wp2_with fail
 go_loopg [5,10] nw (fun k I i wr=>∃(j:Nat)(b:Bool),j+k=nw/\I=.bool b/\i=.int .i64 (j:Int)/\Hid (TP w g (kI ws a j) wr)/\Hid (b=true↔kI ws a j≠ws))
 case atStart=>exact⟨0,false,by omega,rfl,rfl,G,p⟩
 case round=>
  clear G p;obtain⟨j,b,v,rfl,rfl,m,C⟩:=hrel
  by_cases hlt:j<nw
  ·have cv:=N.out wr j m.out hlt
   have B:wr.cell? ⟨g,j,none⟩=some (.int .u64 ((ws.getD j 0:Nat):Int)):=by rw[<-F.out j];exact(m.out.ts.blk.cell j).trans (II _ (by rw[D.out];exact hlt))
   have L:=m.out.ts.blk.frozen j;have q:=agc (o.out.2.get j) (o.out.1.get j);have n:bits BinOp.or IntKind.u64 ((ws.getD j 0:Nat):Int) ((a.getD j 0:Nat):Int)=((ws.getD j 0 ||| a.getD j 0:Nat):Int):=bits_or_u64_nat _ _ (o.out.1.get j) (o.out.2.get j);have R:(0:Int)<=(j:Int):=by omega
   have Q:(j:Int)<(nw:Int):=by omega
   have f:=K.out j hlt;have d:=(m.out.ts.blk.set j (.int .u64 ((ws.getD j 0 ||| a.getD j 0:Nat):Int)));rw[ZY,<-f]at d
   by_cases hn:ws.getD j 0 ||| a.getD j 0=ws.getD j 0
   ·have l:bits BinOp.andNot IntKind.u64 ((a.getD j 0:Nat):Int) ((ws.getD j 0:Nat):Int)=0:=q.2 hn
    have r:Hid (kI ws a (j+1)=kI ws a j):=by
     show _=_;rw[f,hn];exact Fj (by simp) fun i S=>by
      rw[RQ (by rw[D.out];exact hlt)]
      split
      ·rename_i e;subst e;exact(F.out _).symm
      ·rfl
    clear q n hn d f L;generalize ws.getD j 0=x at l B;generalize a.getD j 0=y at l cv;have H:(bits BinOp.andNot IntKind.u64 (y:Int) (x:Int) != 0)=false:=by simp[l]
    go_wp2_with fail;go_roundg (nw - (j+1))
    case measure=>omega
    case rel=>exact⟨j+1,b,by omega,rfl,by go_num,by show TP _ _ _ _;rw[r.out];exact m.out,by show _↔_;rw[r.out];exact C.out⟩
   ·have l:¬bits BinOp.andNot IntKind.u64 ((a.getD j 0:Nat):Int) ((ws.getD j 0:Nat):Int)=0:=fun e=>hn (q.1 e)
    have r:Hid (kI ws a (j+1)≠ws):=fun e=>hn (by
     have:(kI ws a (j+1)).getD j 0=ws.getD j 0:=by rw[e]
     rwa [BD,de ⟨by omega,by omega⟩]at this)
    have t:Hid (TP w g (kI ws a (j+1)) (wr.setCell ⟨g,j,none⟩ (.int .u64 ((ws.getD j 0 ||| a.getD j 0:Nat):Int)))):=⟨⟨d,al6 o.out.1 o.out.2 _⟩,by
     have h1:=m.out.gr;have h2:=iM wr g j (.int .u64 ((ws.getD j 0 ||| a.getD j 0:Nat):Int));exact⟨h2.1.trans h1.1,h2.2.trans h1.2,h2.3.trans h1.3,dg h1.size h2.size,fun k v c=>(h2.block k (dd v h1.size) c).trans (h1.block k v c)⟩⟩
    clear q hn d f;generalize ws.getD j 0=x at l B n t;generalize a.getD j 0=y at l cv n t;have H:(bits BinOp.andNot IntKind.u64 (y:Int) (x:Int) != 0)=true:=by simp[l]
    go_wp2_with fail;go_roundg (nw - (j+1))
    case measure=>omega
    case rel=>exact⟨j+1,true,by omega,rfl,by go_num,t,by show _↔_;exact⟨fun _=>r.out,fun _=>rfl⟩⟩
  ·obtain rfl:j=nw:=by omega
   go_wp2_with fail;go_ret;exact⟨b,rfl,by rw[z.out];exact m.out,by rw[z.out];exact C.out⟩
end Go.Proofs.YtagkodkijkpemaaGreatDoor
namespace Go.Proofs.YtagkodkijkpemaaGreatDoor
open Lx Go.Proofs.Tryz
open Go.RowKit
open Tr
def lK(B:Nat)(w:World)(v:Value)(xs:List Nat):Prop :=
 (v=.slice none 0 0/\xs=[])\/∃g o cap cur,v=.slice (some ⟨g,o,none⟩) xs.length cap/\B<=g/\w.heap[g]?=some (.cells cur 3 (0,0))/\xs.length<=cap/\cap<=maxLen/\o+cap<=cur.size/\∀(j x:Nat),xs[j]?=some x->cur[o+j]?=some (.int .i64 (x:Int))
theorem lK.lt{B:Nat}{w:World}{v:Value}{d:List Nat}(h:lK B w v d):∀g,v.ownBlock=some g->B<=g/\g<w.heap.size:=by
 intro g a;rcases h with ⟨rfl,-⟩|⟨j,o,c,b,rfl,f,i,-⟩
 ·cases a
 ·cases a
  exact⟨f,(dv.1 i).1⟩
theorem lK.move{B:Nat}{w w':World}{v:Value}{c:List Nat}(h:lK B w v c)(f:∀g,v.ownBlock=some g->w'.heap[g]?=w.heap[g]?):lK B w' v c:=by
 rcases h with h|⟨g,o,b,a,rfl,d,i,h1⟩
 ·exact .inl h
 ·exact .inr ⟨g,o,b,a,rfl,d,(f g rfl).trans i,h1⟩
theorem lK.typ{B:Nat}{w:World}{v:Value}{c:List Nat}(h:lK B w v c){g:Nat}(a:v.ownBlock=some g):∃cur,w.heap[g]?=some (.cells cur 3 (0,0)):=by
 rcases h with ⟨rfl,-⟩|⟨f,o,b,cur,rfl,i,d,h1⟩
 ·cases a
 ·cases a;exact⟨_,d⟩
theorem lK.form{B:Nat}{w:World}{v:Value}{b:List Nat}(h:lK B w v b):∃a cap,v=.slice a b.length cap:=by
 rcases h with ⟨rfl,rfl⟩|⟨g,o,cap,c,rfl,-⟩
 ·exact⟨_,_,rfl⟩
 ·exact⟨_,_,rfl⟩
theorem lK.front{B:Nat}{w:World}{v:Value}{x:Nat}{a:List Nat}(h:lK B w v (x::a)):∃g o cap,v=.slice (some ⟨g,o,none⟩) (a.length+1) cap/\a.length+1<=cap/\w.cell? ⟨g,o,none⟩=some (.int .i64 (x:Int))/\lK B w (.slice (if cap=1 then some ⟨g,o,none⟩ else some ⟨g,o+1,none⟩) a.length (cap-1)) a:=by
 rcases h with ⟨-,h⟩|⟨g,o,cap,b,rfl,d,c,h1,h2,h3,h4⟩
 ·cases h
 ·rw[el]at h1
  refine⟨g,o,cap,rfl,h1,?_,?_⟩
  ·have:=h4 0 x rfl
   simpa [World.cell?,c]using this
  ·by_cases hc:cap=1
   ·rw[de hc]
    have f:a=[]:=fY (by omega);subst f;exact .inr ⟨g,o,cap-1,b,rfl,d,c,eR _,by omega,by omega,fun j x h=>by cases h⟩
   ·rw[dk hc]
    exact .inr ⟨g,o+1,cap-1,b,rfl,d,c,by omega,by omega,by omega,fun j y i=>by rw[Nat.add_assoc,Nat.add_comm 1 j];exact h4 (j+1) y i⟩
theorem afw{P:Program}{w:World}{B t ty:Nat}{i:TypeInfo}(H:P.underlying t=some (.slice 3))(G:P.info? 3=some i)(I:i.zero=some (.int .i64 0))(q:i.size=1)(s:i.bytes=8){v:Value}{b:List Nat}(h:lK B w v b)(M:B<=w.heap.size)(a:Addr)(c x:Nat)(N:w.cell? (a.add 0)=some (.int .i64 (x:Int)))(O:b.length+1<=1000000):∃v' w',(Builtin.append_ #[t,t] ty #[v,.slice (some a) 1 c]).run P w=.ok v' w'/\lK B w' v' (b++[x])/\w.grownBy w' v.ownBlock/\(v'.ownBlock=v.ownBlock\/v'.ownBlock=some w.heap.size):=by
 have n:∀j u,([.int .i64 (x:Int)]:List Value)[j]?=some u->w.cell? (a.add j)=some u:=fun j u d=>by
  cases j with
  |zero=>cases d;exact N
  |succ j=>simp at d
 have A:∀(f:Nat)(row:Option Nat),lK B (w.drew.alloc (.cells ((b.map fun y:Nat=>Value.int .i64 (y:Int)).toArray++([.int .i64 (x:Int)]:List Value).toArray++Builtin.zeroCells (Value.int .i64 0).cells (grownCap w (b.length+1) f 3 - (b.length+1))) 3)) (.slice (some ⟨w.heap.size,0,none⟩) (b.length+1) (grownCap w (b.length+1) f 3)) (b++[x])/\w.grownBy (w.drew.alloc (.cells ((b.map fun y:Nat=>Value.int .i64 (y:Int)).toArray++([.int .i64 (x:Int)]:List Value).toArray++Builtin.zeroCells (Value.int .i64 0).cells (grownCap w (b.length+1) f 3 - (b.length+1))) 3)) row:=fun f row=>by
  have C:=grownCap_ge w (b.length+1) f 3;refine⟨.inr ⟨w.heap.size,0,grownCap w (b.length+1) f 3,_,by simp,M,n7 w.drew _,by simpa using C,grownCap_le_maxLen w _ f 3 (by unfold maxLen;omega),?_,fun j y d=>?_⟩,⟨rfl,rfl,rfl,by simp,fun k E _=>heap_alloc_old w.drew _ E⟩⟩
  ·simp[size_zeroCells,Value.cells];omega
  ·have p:=(cG.1 d).1
   rw[cH,gx]at p;rw[fi,ox (by simp;omega)];rw[jj]at d
   split at d
   ·rename_i z
    rw[ox (by simpa using z)];simp[d]
   ·rename_i z
    obtain rfl:j=b.length:=by omega
    simp at d;subst d;rw[Array.getElem?_append_right (by simp)];simp
 rcases h with ⟨rfl,rfl⟩|⟨g,o,l,m,rfl,L,F,h1,h2,h3,h4⟩
 ·have D:=run_append_nil (P:=P) w t ty 3 i _ H G I a 1 c [.int .i64 (x:Int)] (by simp[q]) n (by omega) (by omega) (by rw[s];omega)
  have:=A 0 none;simp only[iu,fi,pH,Array.empty_append]at this;exact⟨_,_,D,this.1,this.2,.inr rfl⟩
 ·by_cases hroom:b.length+1<=l
  ·have J:=run_firstCells_some (P:=P) w i.size 1 a 1 c [.int .i64 (x:Int)] (by simp[q]) n
   rw[q]at J;have r:=run_storeCells_at P g (o+b.length) 3 [.int .i64 (x:Int)] 0 m w F (by simp;omega) (by simp[Value.oneCell']);simp only[lP]at r;refine⟨.slice (some ⟨g,o,none⟩) (b.length+1) l,w.setRow g (m.toList.take (o+b.length)++.int .i64 (x:Int)::m.toList.drop (o+b.length+1)).toArray,by simp[Builtin.append_,run_underlying H,sizeOf,typeInfo,G,q,Builtin.lenOf,hroom,J,Addr.add_lit,r],?_,⟨rfl,rfl,rfl,by simp,fun k _ E=>setRow_other w g k _ (fun e=>E (by simp[Value.ownBlock,e]))⟩,.inl rfl⟩;refine .inr ⟨g,o,l,_,by simp,L,setRow_heap w g m _ 3 _ F,by simp;exact hroom,h2,by simp only[kf,cH,el,fN,oe,kh];omega,fun j y d=>?_⟩;have p:=(cG.1 d).1;rw[cH,gx]at p;rw[fR];rw[jj]at d
   split at d
   ·rename_i z
    have:=h4 j y d;rw[eC (by simp;omega),List.getElem?_take_of_lt (by omega)];simpa using this
   ·rename_i z
    obtain rfl:j=b.length:=by omega
    simp at d;subst d;rw[eJ (by simp;omega)];simp[show min (o+b.length) m.size=o+b.length by omega]
  ·have D:=run_append_grow (P:=P) w t ty 3 i _ H G I ⟨g,o,none⟩ b.length l (b.map fun y:Nat=>Value.int .i64 (y:Int)) (by simp[q]) (fun j u d=>?_) a 1 c [.int .i64 (x:Int)] (by simp[q]) n (by omega) (by omega) (growslice_fits (by omega) (by rw[s];omega))
   ·exact⟨_,_,D,(A l none).1,(A l _).2,.inr rfl⟩
   ·rw[dj]at d
    obtain⟨y,K,rfl⟩:=mL.1 d;have:=h4 j y K;rw[show (⟨g,o,none⟩:Addr).add j=⟨g,o+j,none⟩ by cases j <;> simp[Addr.add]];simpa [World.cell?,F]using this
theorem aeH {P:Program}{w:World}{b:Array Oper}{rest:List Oper}{o:Oper}{a:Act}{Q:Exit->Act->World->Prop}(f:o.guard=none)(s x:Operand)(t:TypeId)(E:o.op=.call { callee:=.builtin .append,args:=#[s,x],argTypes:=#[t,t] }){B:Nat}{i:TypeInfo}(q:P.underlying t=some (.slice 3))(r:P.info? 3=some i)(u:i.zero=some (.int .i64 0))(d:i.size=1)(j:i.bytes=8)(v:Value)(g:List Nat)(l:a.eval s=v)(h:lK B w v g)(A:B<=w.heap.size)(k:Addr)(c y:Nat)(m:a.eval x=.slice (some k) 1 c)(D:w.cell? (k.add 0)=some (.int .i64 (y:Int)))(z:g.length+1<=1000000)
  (p:∀v' w',lK B w' v' (g++[y])->w.grownBy w' v.ownBlock->(v'.ownBlock=v.ownBlock\/v'.ownBlock=some w.heap.size)->wpList P b Q rest (a.put o.dst v') w'):wpList P b Q (o::rest) a w:=by
 refine wpList_plain f fun K n=>?_
 obtain⟨v',w',C,h2,h3,h4⟩:=afw (P:=P) (ty:=o.type) q r u d j h A k c y D z;unfold Oper.wp execOp;simp only[E,resolve,invoke,builtin,Sem.run_bind,Sem.run_pure,Result.andThen_ok,List.map_toArray,jp,pH,l,m,C];exact n _ _ (p v' w' h2 h3 h4)
end Go.Proofs.YtagkodkijkpemaaGreatDoor
namespace Go.Proofs.YtagkodkijkpemaaGreatDoor
open Lx Go.Proofs.Tryz
open Go Go.RowKit
namespace Lx
def oh(P:List Pd)(s:au):List Nat:=(cZ P s.1).drop (s.2+1)
def vJ(f:Nat×Nat->Nat)(q:Nat)(l:List Nat):Nat:=l.foldl (fun a x=>f (a,x)) q
def FT(P:List Pd)(f:Nat×Nat->Nat)(q n k:Nat):List (au×Nat):=if P[k]?.map Pd.left=some n then (List.range ((cZ P k).length+1)).map fun d=>((k,d),vJ f q ((cZ P k).take d)) else []
def iP(P:List Pd)(f:Nat×Nat->Nat)(q n:Nat):Nat->List (au×Nat)
  |0=>[]
  |k+1=>iP P f q n k++FT P f q n k
theorem aaM{P:List Pd}{f:Nat×Nat->Nat}{q n k:Nat}:∀{m:Nat},k<=m->∃R,iP P f q n m=iP P f q n k++R
  |0,h=>by
    obtain rfl:k=0:=by omega
    exact⟨[],by simp⟩
  |m+1,h=>by
    by_cases hk:k=m+1
    · subst hk;exact⟨[],by simp⟩
    · obtain⟨R,a⟩:=aaM (P:=P) (f:=f) (q:=q) (n:=n) (m:=m) (show k<=m by omega)
      exact⟨R++FT P f q n m,by rw[iP,a,dq]⟩
theorem ajS{P:List Pd}{f:Nat×Nat->Nat}{q n k:Nat}(h:P[k]?.map Pd.left≠some n):iP P f q n (k+1)=iP P f q n k:=by
  rw[iP,FT,dk h,eN]
theorem Z0{P:List Pd}{f:Nat×Nat->Nat}{q n k:Nat}(h:P[k]?.map Pd.left=some n):(iP P f q n (k+1)).length=(iP P f q n k).length+((cZ P k).length+1):=by
  rw[iP,FT,de h,cH,dt,sX]
theorem alg{P:List Pd}{f:Nat×Nat->Nat}{q n k d:Nat}(b:k<P.length)(h:P[k]?.map Pd.left=some n)(hd:d<=(cZ P k).length):(iP P f q n P.length)[(iP P f q n k).length+d]?=some ((k,d),vJ f q ((cZ P k).take d)):=by
  obtain⟨R,a⟩:=aaM (P:=P) (f:=f) (q:=q) (n:=n) (show k+1<=P.length by omega);rw[a,eC (by rw[Z0 h];omega),iP,eJ (by omega),Nat.add_sub_cancel_left,FT,de h,dj,sn (by omega)];rfl
theorem ajT{P:List Pd}{f:Nat×Nat->Nat}{q k d x:Nat}(h:(cZ P k)[d]?=some x):vJ f q ((cZ P k).take (d+1))=f (vJ f q ((cZ P k).take d),x):=by
  rw[mS,h];simp[vJ]
theorem RV{P:List Pd}{f:Nat×Nat->Nat}{q n:Nat}{s:au}{r:Nat}:∀m,(s,r)∈iP P f q n m↔s.1<m/\P[s.1]?.map Pd.left=some n/\s.2<=(cZ P s.1).length/\r=vJ f q ((cZ P s.1).take s.2)
  |0=>by simp[iP]
  |m+1=>by
    rw[iP,cY,RV m];unfold FT;constructor
    · rintro(⟨h1,h2⟩ | h)
      · exact⟨by omega,h2⟩
      · split at h
        · rename_i a
          obtain⟨d,h1,h2⟩:=ej.1 h;cases h2;exact⟨Nat.lt_succ_self _,a,Nat.le_of_lt_succ (rg.1 h1),rfl⟩
        · cases h
    · rintro⟨h1,h2,h3,h4⟩
      by_cases hk:s.1<m
      · exact .inl ⟨hk,h2,h3,h4⟩
      · obtain rfl:m=s.1:=by omega
        refine .inr ?_;rw[de h2];exact ej.2 ⟨s.2,rg.2 (by omega),by rw[h4]⟩
end Lx
end Go.Proofs.YtagkodkijkpemaaGreatDoor
namespace Go.Proofs.YtagkodkijkpemaaGreatDoor
open Lx Go.Proofs.Tryz
open Go.RowKit
def bC(a:Nat×Nat):Value:=.agg #[.int .i64 (a.1:Int),.int .i64 (a.2:Int)]
theorem abI(a b:Nat×Nat)(h:bC a=bC b):a=b:=by
 simp only[bC,Value.agg.injEq,Array.mk.injEq,List.cons.injEq,Value.int.injEq,true_and,and_true]at h;exact qS (by omega) (by omega)
theorem NP(x y:Int)(w:World):(part 3 #[.int .i64 x,.int .i64 y] 0).run prog w=.ok (.int .i64 x) w:=by kernel_rfl
theorem Tv(x y:Int)(w:World):(part 3 #[.int .i64 x,.int .i64 y] 1).run prog w=.ok (.int .i64 y) w:=by kernel_rfl
structure uw(kt:TypeId)(f0 f1:Field):Prop where
 hu:prog.underlying kt=some (.struct #[f0,f1])
 h0 : f0.type = 3 ∧ f0.offset = 0 ∧ f0.name ≠ "_"
 h1 : f1.type = 3 ∧ f1.offset = 1 ∧ f1.name ≠ "_"
 hs:prog.stoodInHeld kt=false
theorem Tw(d:Nat)(x y:Int)(w:World):(Op.equalIn (d+1) 3 (.int .i64 x) (.int .i64 y)).run prog w=.ok (x == y) w:=by
 have a:prog.underlying 3=some (.int .i64):=by kernel_rfl
 simp[Op.equalIn,run_underlying a,Result.andThen]
theorem uw.eq{f:TypeId}{f0 f1:Field}(h:uw f f0 f1)(a b:Nat×Nat)(w:World):(Op.equal f (bC a) (bC b)).run prog w=.ok (decide (a=b)) w:=by
 unfold bC Op.equal Op.maxDepth;rw[Op.equalIn];obtain⟨c,g⟩:=a;obtain⟨i,d⟩:=b
 by_cases e:c=i
 ·subst e
  by_cases e2:g=d
  ·subst e2;simp[run_underlying h.hu,h.hs,h.h0,h.h1,Result.andThen,NP,Tv,Tw 9998]
  ·have:¬(g:Int)=d:=by omega
   simp[run_underlying h.hu,h.hs,h.h0,h.h1,Result.andThen,NP,Tv,Tw 9998,e2,this]
 ·have:¬(c:Int)=i:=by omega
  simp[run_underlying h.hu,h.hs,h.h0,h.h1,Result.andThen,NP,Tw 9998,this,e]
theorem uw.check{b:TypeId}{f0 f1:Field}(h:uw b f0 f1)(c:Bool)(w:World)(a:Nat×Nat):(Instr.checkKey c 10000 b (bC a)).run prog w=.ok () w:=by
 have g:prog.underlying 3=some (.int .i64):=by kernel_rfl
 have f:∀(d:Nat)(x:Int)(w:World),(Instr.checkKey c (d+1) 3 (.int .i64 x)).run prog w=.ok () w:=fun d x w=>by simp[Instr.checkKey,run_underlying g,Result.andThen]
 unfold bC;rw[Instr.checkKey];simp[run_underlying h.hu,h.h0,h.h1,Result.andThen,NP,Tv,f 9998]
theorem alh(w:World)(a:Nat×Nat):(Instr.keyThatStays (bC a) (bC a)).run prog w=.ok (bC a) w:=by
 have:Instr.sameBits 10000 (bC a) (bC a)=true:=by unfold bC;simp[Instr.sameBits]
 simp[Instr.keyThatStays,this]
theorem uw.find{f:TypeId}{f0 f1:Field}(h:uw f f0 f1)(a:Nat×Nat)(w:World):∀(l:List MapEntry)(i:Nat),(∀x∈l,∃c,x.key=bC c)->((Instr.findAsking f (bC a) l i).run prog w=.ok none w/\∀(x:MapEntry),x∈l->x.key≠bC a)\/∃(j:Nat)(e:MapEntry),(Instr.findAsking f (bC a) l i).run prog w=.ok (some (i+j,e.val)) w/\l[j]?=some e/\e.key=bC a
 | [],i,_=>.inl ⟨by simp[Instr.findAsking],fun x k=>by cases k⟩
 |x::l,i,hl=>by
  obtain⟨c,d⟩:=hl x (eh ..)
  by_cases e:a=c
  ·subst e
   exact .inr ⟨0,x,by simp[Instr.findAsking,d,h.eq,Result.andThen],rfl,d⟩
  ·have g:x.key≠bC a:=fun m=>e (abI _ _ (m.symm.trans d))
   rcases uw.find h a w l (i+1) (fun y b=>hl y (ev _ b)) with ⟨h1,h2⟩|⟨j,y,h1,h2,h3⟩
   ·refine .inl ⟨by simp[Instr.findAsking,d,h.eq,e,Result.andThen,h1],fun y b=>?_⟩
    rcases ee.1 b with rfl|b
    ·exact g
    ·exact h2 y b
   ·exact .inr ⟨j+1,y,by simp[Instr.findAsking,d,h.eq,e,Result.andThen,h1];omega,h2,h3⟩
theorem uw.findKey{b:TypeId}{f0 f1:Field}(h:uw b f0 f1)(a:Nat×Nat)(w:World)(l:List MapEntry)(f:∀x∈l,∃c,x.key=bC c):((Instr.findKey b (bC a) l).run prog w=.ok none w/\∀(x:MapEntry),x∈l->x.key≠bC a)\/∃(j:Nat)(e:MapEntry),(Instr.findKey b (bC a) l).run prog w=.ok (some (j,e.val)) w/\l[j]?=some e/\e.key=bC a:=by
 cases l with
 |nil=>exact .inl ⟨by simp[Instr.findKey,run_underlying h.hu,Instr.findNow,Result.andThen],fun x d=>by cases d⟩
 |cons x l=>
  have g:Instr.findNow (.struct #[f0,f1]) (bC a) (x::l) 0=none:=by
   simp[Instr.findNow,Instr.sameNow]
  have:=h.find a w (x::l) 0 f;simp only[fi]at this;simpa [Instr.findKey,run_underlying h.hu,g,Result.andThen]using this
end Go.Proofs.YtagkodkijkpemaaGreatDoor
namespace Go.Proofs.YtagkodkijkpemaaGreatDoor
open Lx Go.Proofs.Tryz
open Go.RowKit
open Tr
def iD{κ:Type}(K:κ->Value)(w:World)(B:Nat)(ts:List κ):Prop:=∃es clock,w.heap[B]?=some (.map es clock)/\es.size=ts.length/\∀(i:Nat)(e:MapEntry),es[i]?=some e->∃t,ts[i]?=some t/\e.key=K t/\e.val=.int .i64 (i:Int)
section
variable {P:Program} {kt T E:TypeId} {κ:Type} {K:κ -> Value} {w:World} {B:Nat} {ts:List κ}
theorem iD.lt(h:iD K w B ts):B<w.heap.size:=by
 obtain⟨b,a,h1,-⟩:=h;exact(dv.1 h1).1
theorem iD.move{w':World}(h:iD K w B ts)(b:w'.heap[B]?=w.heap[B]?):iD K w' B ts:=by
 obtain⟨c,a,h1,h2⟩:=h;exact⟨c,a,b.trans h1,h2⟩
theorem iD.made(K:κ->Value)(w:World):iD K (w.alloc (.map #[] 0)) w.heap.size []:=⟨#[],0,n7 w _,rfl,fun i e h=>by simp at h⟩
theorem iD.keys(h:iD K w B ts):∃es clock,w.heap[B]?=some (.map es clock)/\es.size=ts.length/\(∀(i:Nat)(e:MapEntry),es[i]?=some e->∃t,ts[i]?=some t/\e.key=K t/\e.val=.int .i64 (i:Int))/\∀x∈es.toList,∃c,x.key=K c/\True:=by
 obtain⟨es,clock,h1,h2,h3⟩:=h;refine⟨es,clock,h1,h2,h3,fun x b=>?_⟩;obtain⟨i,a⟩:=eQ.1 b;obtain⟨t,-,d,-⟩:=h3 i x (by rw[<-fW];exact a);exact⟨t,d,trivial⟩
theorem iD.miss(c:uT P kt K (fun _ _=>True))(n:P.underlying T=some (.map kt E))(f:∀w,(zeroValue E).run P w=.ok (.int .i64 0) w)(h:iD K w B ts){b:κ}(k:b∉ts):(Instr.lookup T (.map (some B)) (K b) true).run P w=.ok (.tuple #[.int .i64 0,.bool false]) w:=by
 obtain⟨g,d,h1,h2,h3,h4⟩:=h.keys;rcases c.find w b g.toList trivial h4 with ⟨i,-⟩|⟨j,e,-,m,l⟩
 ·simp[Instr.lookup,run_underlying n,MapKept.run_getObj_map h1,c.check,i,f,Result.andThen]
 ·obtain⟨t,ht,a,-⟩:=h3 j e (by rw[<-fW];exact m)
  exact absurd (c.inj _ _ (l.symm.trans a)▸cQ ht) k
theorem iD.hit(k:uT P kt K (fun _ _=>True))(z:P.underlying T=some (.map kt E))(h:iD K w B ts)(v:ts.Nodup){i:Nat}{b:κ}(l:ts[i]?=some b):(Instr.lookup T (.map (some B)) (K b) true).run P w=.ok (.tuple #[.int .i64 (i:Int),.bool true]) w:=by
 obtain⟨c,p,h1,h2,h3,h4⟩:=h.keys;rcases k.find w b c.toList trivial h4 with ⟨o,g⟩|⟨j,e,o,u,s⟩
 ·obtain⟨x,-⟩:=cG.1 l
  have m:c[i]?=some c[i]:=j7 (by omega);obtain⟨t,d,a,-⟩:=h3 i _ m;rw[l]at d;cases d;exact absurd a (g _ (by simp))
 ·have f:c[j]?=some e:=by rw[<-fW];exact u
  obtain⟨t,d,a,q⟩:=h3 j e f;have:=k.inj _ _ (s.symm.trans a);subst this;have n:j=i:=by
   obtain⟨C,r⟩:=cG.1 d;obtain⟨A,y⟩:=cG.1 l;exact(lj v).1 (r.trans y.symm)
  subst n;rw[q]at o;simp[Instr.lookup,run_underlying z,MapKept.run_getObj_map h1,k.check,o,Result.andThen]
theorem iD.put(l:uT P kt K (fun _ _=>True))(u:P.underlying T=some (.map kt E))(h:iD K w B ts){b:κ}(q:b∉ts):∃w',(Instr.mapUpdate T (.map (some B)) (K b) (.int .i64 (ts.length:Int))).run P w=.ok () w'/\iD K w' B (ts++[b])/\w.grownBy w' (some B)/\w'.heap.size=w.heap.size:=by
 obtain⟨n,a,h1,h2,h3,h4⟩:=h.keys;have d:∀o:Obj,w.grownBy { w with heap:=w.heap.setIfInBounds B o } (some B):=fun o=>⟨rfl,rfl,rfl,by simp,fun k _ m=>(pn h1).2 k (fun e=>m (by rw[e]))⟩
 rcases l.find w b n.toList trivial h4 with ⟨s,-⟩|⟨j,e,-,r,m⟩
 ·refine⟨{ w with heap:=w.heap.setIfInBounds B (.map (n.push { key:=K b,val:=.int .i64 (ts.length:Int),born:=a }) (a+1)) },?_,⟨_,a+1,(pn h1).1,by simp[h2],?_⟩,d _,by simp⟩
  ·simp[Instr.mapUpdate,run_underlying u,MapKept.run_getObj_map h1,l.check,s,MapKept.run_setObj_map _ h1,Result.andThen]
  ·intro i e g
   rw[pg]at g
   split at g
   ·rename_i f
    cases g;refine⟨b,?_,rfl,by rw[f,h2]⟩;rw[f,h2];simp
   ·obtain⟨t,ht,c,p⟩:=h3 i e g
    refine⟨t,?_,c,p⟩;rw[eC (cG.1 ht).1];exact ht
 ·obtain⟨t,ht,c,-⟩:=h3 j e (by rw[<-fW];exact r)
  exact absurd (l.inj _ _ (m.symm.trans c)▸cQ ht) q
end
theorem uw.key{b:TypeId}{f0 f1:Field}(h:uw b f0 f1):uT prog b bC (fun _ _=>True) where
 inj:=abI
 check em w a:=h.check em w a
 find w a l _ hl:=h.findKey a w l fun x f=>by obtain⟨c,d,-⟩:=hl x f;exact⟨c,d⟩
 stays w a:=alh w a
theorem Tryz.Jy : uT prog 212 bC (fun _ _ => True) := uw.key (f0 := ⟨ "state", 3, 0, false, "", "comb/look", 0⟩) (f1 := ⟨ "symbol", 3, 1, false, "", "comb/look", 8⟩) ⟨by kernel_rfl, ⟨rfl, rfl, by decide⟩, ⟨rfl, rfl, by decide⟩, by kernel_rfl⟩
theorem Tryz.JU : uT prog 228 bC (fun _ _ => True) := uw.key (f0 := ⟨ "state", 3, 0, false, "", "comb/look", 0⟩) (f1 := ⟨ "prod", 3, 1, false, "", "comb/look", 8⟩) ⟨by kernel_rfl, ⟨rfl, rfl, by decide⟩, ⟨rfl, rfl, by decide⟩, by kernel_rfl⟩
theorem Tryz.Jl:prog.underlying 145=some (.map 212 3):=by kernel_rfl
theorem Tryz.Jm:prog.underlying 223=some (.map 228 3):=by kernel_rfl
end Go.Proofs.YtagkodkijkpemaaGreatDoor

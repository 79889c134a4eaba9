import Derived.Test.YtfpjphhnjegnjaaGreatDoorCL00
import Derived.WalkKit
import Derived.Deep.AppendLies
import Derived.Test.YtfpjphhnjegnjaaGreatDoorProg
import Derived.WalkSpells
import Derived.WalkLawsBesides
import Derived.Deep.LoopGhost
import Derived.RegionTactic
import Derived.Shelf.LaysM
import Derived.Shelf.Strconv.Clone
import Derived.Deep.RegionHeld3
import Derived.Deep.RegionLaw
set_option maxHeartbeats 8000000
set_option maxRecDepth 1000000
namespace Go.Proofs.YtfpjphhnjegnjaaGreatDoor
namespace Lx
end Lx
open Lx Go.Proofs.Tryz
open Go.RowKit Tr
end Go.Proofs.YtfpjphhnjegnjaaGreatDoor
namespace Go.Proofs.YtfpjphhnjegnjaaGreatDoor
open Bool renaming true→η,false→ε
variable{i k:Nat}{s:ByteArray}
namespace Lx
end Lx
open Lx Go.Proofs.Tryz
open Go Go.RowKit
theorem aC{α:Type}(a:α):∃x,x=a:=⟨_,rfl⟩
theorem aF{α:Type}(a:α):∃x,a=x:=⟨_,rfl⟩
namespace Lx
def fV(s:ByteArray)(i:Nat):Int:=((s.data.getD i 0).toNat:Int)
theorem mY(s:ByteArray)(i:Nat)(h:i<s.size):fV s i=(s[i].toNat:Int):=by
 unfold fV;have a:i<s.data.size:=h;rw[nF,lr a];rfl
theorem BG(s:ByteArray)(i:Nat):0<=fV s i/\fV s i<=255:=by
 unfold fV;have:=(s.data.getD i 0).toNat_lt;omega
def BX(s:ByteArray):Nat->Nat->Bool->Nat
 |0,i,_=>i
 |f+1,i,r=>
  if fV s i=10 then BX s f (i+1) ε
  else if fV s i=35 then BX s f (i+1) η
  else if r=ε/\fV s i≠32/\fV s i≠9 then i
  else BX s f (i+1) r
def jD(s:ByteArray)(i:Nat)(r:Bool):Nat:=BX s (s.size-i) i r
theorem af8(r:Bool)(h:s.size<=i):jD s i r=i:=by
 unfold jD;rw[show s.size-i=0 by omega];rfl
theorem Jb(r:Bool)(h:i<s.size):jD s i r =
  if fV s i=10 then jD s (i+1) ε
  else if fV s i=35 then jD s (i+1) η
  else if r=ε/\fV s i≠32/\fV s i≠9 then i
  else jD s (i+1) r:=by
 unfold jD;rw[show s.size-i=(s.size - (i+1))+1 by omega];rfl
theorem ame{b:Bool}{r:Nat}(h:k<s.size)(a:jD s k b=r)(c:(s[k].toNat:Int)=10):jD s (k+1) ε=r:=by
 rw[Jb b h,mY s k h,du c]at a;exact a
theorem ajh{b:Bool}{r:Nat}(h:k<s.size)(a:jD s k b=r)(c:(s[k].toNat:Int)=35):jD s (k+1) η=r:=by
 rw[Jb b h,mY s k h,dt (by omega),du c]at a;exact a
theorem akQ{r:Nat}(h:k<s.size)(a:jD s k η=r)(b:(s[k].toNat:Int)≠10)(hd:(s[k].toNat:Int)≠35):jD s (k+1) η=r:=by
 rw[Jb η h,mY s k h,dt b,dt hd,dt (by simp)]at a;exact a
theorem ahW{r:Nat}(h:k<s.size)(a:jD s k ε=r)(hd:(s[k].toNat:Int)=32\/(s[k].toNat:Int)=9):jD s (k+1) ε=r:=by
 rw[Jb ε h,mY s k h,dt (by omega),dt (by omega),dt (by omega)]at a;exact a
theorem aji{r:Nat}(h:k<s.size)(a:jD s k ε=r)(h1:(s[k].toNat:Int)≠10)(h2:(s[k].toNat:Int)≠35)(h3:(s[k].toNat:Int)≠32)(h4:(s[k].toNat:Int)≠9):k=r:=by
 rw[Jb ε h,mY s k h,dt h1,dt h2,du ⟨rfl,h3,h4⟩]at a;exact a
theorem NA(s:ByteArray):∀(f i:Nat)(r:Bool),i<=BX s f i r/\BX s f i r<=i+f
 |0,i,r=>by simp[BX]
 |f+1,i,r=>by
  have h1:=NA s f (i+1) ε;have h2:=NA s f (i+1) η;have h3:=NA s f (i+1) r;unfold BX
  split
  ·omega
  ·split
   ·omega
   ·split <;> omega
theorem R3(r:Bool)(h:i<=s.size):i<=jD s i r/\jD s i r<=s.size:=by
 have:=NA s (s.size-i) i r;unfold jD;omega
def small(c:Int):Bool:=decide (97<=c/\c<=122)
def capital(c:Int):Bool:=decide (65<=c/\c<=90)
def digit(c:Int):Bool:=decide (48<=c/\c<=57)
def Gg(c:Int):Bool:=small c || capital c || digit c
def Gb(s:ByteArray):Nat->Nat->Nat
 |0,i=>i
 |f+1,i=>if Gg (fV s i)=η then Gb s f (i+1) else i
def xq(s:ByteArray)(i:Nat):Nat:=Gb s (s.size-i) i
theorem afH(h:s.size<=i):xq s i=i:=by
 unfold xq;rw[show s.size-i=0 by omega];rfl
theorem afI(h:i<s.size):xq s i=if Gg (fV s i)=η then xq s (i+1) else i:=by
 unfold xq;rw[show s.size-i=(s.size - (i+1))+1 by omega];rfl
theorem ZE(s:ByteArray):∀(f i:Nat),i<=Gb s f i/\Gb s f i<=i+f
 |0,i=>by simp[Gb]
 |f+1,i=>by
  have h1:=ZE s f (i+1);unfold Gb
  split <;> omega
theorem agR(h:i<=s.size):i<=xq s i/\xq s i<=s.size:=by
 have:=ZE s (s.size-i) i;unfold xq;omega
def nY(s:ByteArray)(i:Nat):Nat:=max (xq s (if fV s i=37 then i+1 else i)) (i+1)
theorem RL(h:i<s.size):i<nY s i/\nY s i<=s.size:=by
 have h1:=agR (s:=s) (i:=if fV s i=37 then i+1 else i) (by split <;> omega);unfold nY;omega
end Lx
end Go.Proofs.YtfpjphhnjegnjaaGreatDoor
namespace Go.Proofs.YtfpjphhnjegnjaaGreatDoor
variable{i:Nat}{s:ByteArray}
namespace Lx
end Lx
open Lx Go.Proofs.Tryz
open Go Go.RowKit
namespace Lx
abbrev Tk:=ByteArray×Nat
def uW(s:ByteArray)(i:Nat):Nat:=jD s (nY s i) false
def oZ(s:ByteArray):Nat->Nat->List Tk
 |0,i=>[((⟨#[]⟩:ByteArray),i)]
 |f+1,i=>if i<s.size then (s.extract i (nY s i),i)::oZ s f (uW s i) else [((⟨#[]⟩:ByteArray),i)]
def Ag(s:ByteArray)(i:Nat):List Tk:=oZ s (s.size-i) i
def lex(s:ByteArray):List Tk:=Ag s (jD s 0 false)
theorem R4(h:i<s.size):i<uW s i/\uW s i<=s.size:=by
 have h1:=RL h;have h2:=R3 (s:=s) (i:=nY s i) false h1.2;unfold uW;omega
theorem Za(s:ByteArray):∀(f g i:Nat),s.size-i<=f->s.size-i<=g->oZ s f i=oZ s g i
 |0,0,i,_,_=>rfl
 |0,g+1,i,hf,_=>by simp only[oZ];rw[dt (by omega)]
 |f+1,0,i,_,hg=>by simp only[oZ];rw[dt (by omega)]
 |f+1,g+1,i,hf,hg=>by
  simp only[oZ]
  by_cases h:i<s.size
  ·have:=R4 h
   rw[du h,du h,Za s f g (uW s i) (by omega) (by omega)]
  ·rw[dt h,dt h]
theorem agS(h:s.size<=i):Ag s i=[((⟨#[]⟩:ByteArray),i)]:=by
 unfold Ag;rw[show s.size-i=0 by omega];rfl
theorem agT(h:i<s.size):Ag s i=(s.extract i (nY s i),i)::Ag s (uW s i):=by
 have a:=R4 h;unfold Ag;rw[show s.size-i=(s.size-i-1)+1 by omega];simp only[oZ];rw[du h,Za s _ (s.size-uW s i) (uW s i) (by omega) (by omega)]
theorem ZF(s:ByteArray):∀(f i:Nat),(oZ s f i).length<=f+1
 |0,i=>by simp[oZ]
 |f+1,i=>by
  have:=ZF s f (uW s i);simp only[oZ]
  split <;> simp <;> omega
theorem ZG(s:ByteArray)(i:Nat):(Ag s i).length<=s.size+1:=by
 have:=ZF s (s.size-i) i;unfold Ag;omega
def pW(l:List Tk):List Value:=l.flatMap fun t=>[.string t.1,.int .i64 (t.2:Int)]
theorem Yt(a b:List Tk):pW (a++b)=pW a++pW b:=by simp[pW]
theorem RA(l:List Tk)(k:Nat)(t:Tk)(h:l[k]?=some t):(pW l)[k*2]?=some (.string t.1)/\(pW l)[k*2+1]?=some (.int .i64 (t.2:Int)):=by
 induction l generalizing k with
 |nil=>simp at h
 |cons u l ih=>
  cases k with
  |zero=>simp at h;subst h;simp[pW]
  |succ k=>
   have h1:=ih k (by simpa using h);have e:pW (u::l)=[.string u.1,.int .i64 (u.2:Int)]++pW l:=by simp[pW]
   rw[e,eQ (by simp;omega),eQ (by simp;omega)];simp only[List.length_cons,List.length_nil];rw[show (k+1)*2 - (0+1+1)=k*2 by omega,show (k+1)*2+1 - (0+1+1)=k*2+1 by omega];exact h1
end Lx
end Go.Proofs.YtfpjphhnjegnjaaGreatDoor
namespace Go.Proofs.YtfpjphhnjegnjaaGreatDoor
open Go.Value renaming slice→ς,int→ι,string→τ,pointer→π,bool→μ,agg→γ,tuple→θ
open Go.IntKind renaming i64→ξ
open Option renaming none→ν,some→ο
open Go.Ending renaming returned→δ
open Go.Obj renaming cells→ζ
open Bool renaming true→η,false→ε
open Go renaming World→ω,Value→υ,Calls→χ
open Go.RowKit renaming Below→φ
variable{F:Nat->Prop}{a base c d e f j k n p:Nat}{b:ByteArray}{l:List ByteArray}{o:Int}{r:Option Nat}{v:υ}{w w' w3:ω}
namespace Lx
end Lx
open Lx Go.Proofs.Tryz
open Go.RowKit Tr
namespace Lx
def bP:ByteArray:=⟨#[]⟩
def WF:List Tk->Prop
 | []=>False
 | [t]=>t.1=bP
 |t::u::r=>t.1≠bP/\WF (u::r)
def hd(ts:List Tk):ByteArray:=(ts.headD (bP,0)).1
def pl(ts:List Tk):Nat:=(ts.headD (bP,0)).2
theorem WF.ne{a:List Tk}(h:WF a):0<a.length:=by
 cases a with
 |nil=>exact h.elim
 |cons t r=>simp
theorem WF.tail{a:List Tk}(h:WF a)(b:hd a≠bP):WF a.tail:=by
 match a,h with
 | [],h=>exact h.elim
 | [t],h=>exact absurd h b
 |t::u::r,h=>exact h.2
theorem WF.yU{a:List Tk}(h:WF a):a.tail.length+1=a.length:=by
 have:=h.ne;simp;omega
theorem aaA(s:ByteArray):∀(f i:Nat),s.size-i<=f->WF (oZ s f i)
 |0,i,_=>rfl
 |f+1,i,hf=>by
  simp only[oZ]
  by_cases h:i<s.size
  ·have b:=RL h
   have d:=R4 h;have ih:=aaA s f (uW s i) (by omega);rw[du h];have a:s.extract i (nY s i)≠bP:=by
    intro e;have:=fd ByteArray.size e;simp[bP,ByteArray.size_extract]at this;have c:(ByteArray.size ⟨#[]⟩)=0:=rfl;omega
   cases hl:oZ s f (uW s i) with
   |nil=>rw[hl]at ih;exact ih.elim
   |cons u r=>rw[hl]at ih;exact⟨a,ih⟩
  ·rw[dt h];rfl
theorem lex_wf(s:ByteArray):WF (lex s):=aaA s _ _ (dv _)
def Gh(p:Int->Bool)(b:ByteArray):Bool:=b.data.toList.all fun c=>p (c.toNat:Int) || digit (c.toNat:Int)
def isWord(p:Int->Bool)(b:ByteArray):Bool:=decide (0<b.size) && decide (b.size<=12) && p (fV b 0) && Gh p b
def isName(b:ByteArray):Bool:=isWord small b
def isToken(b:ByteArray):Bool:=isWord capital b
structure It where
 kind:Nat
 name:ByteArray
 mark:Nat
 alts:List (List It×ByteArray×Nat)
 place:Nat
abbrev Alt:=List It×ByteArray×Nat
structure Rl where
 name:ByteArray
 alts:List Alt
 place:Nat
structure Lv where
 kind:Nat
 tokens:List Tk
structure Gr where
 levels:List Lv
 rules:List Rl
abbrev fJ(α:Type):=Except (Nat×Nat) (α×List Tk)
def p9:ByteArray:=⟨#[40]⟩
def OD:ByteArray:=⟨#[41]⟩
def adk:ByteArray:=⟨#[42]⟩
def adl:ByteArray:=⟨#[43]⟩
def adR:ByteArray:=⟨#[63]⟩
def J3:ByteArray:=⟨#[124]⟩
def zh:ByteArray:=⟨#[59]⟩
def Er:ByteArray:=⟨#[61]⟩
def DX:ByteArray:=⟨#[37,112,114,101,99]⟩
def Ur:ByteArray:=⟨#[37,108,101,102,116]⟩
def TY:ByteArray:=⟨#[37,114,105,103,104,116]⟩
def Us:ByteArray:=⟨#[37,110,111,110,101]⟩
def jm(k:ByteArray->Bool)(ts:List Tk):fJ ByteArray:=if k (hd ts)=η then .ok (hd ts,ts.tail) else .error (2,pl ts)
def qK(b:ByteArray)(ts:List Tk):fJ Unit:=if hd ts=b then .ok ((),ts.tail) else .error (2,pl ts)
def jc(ts:List Tk):Nat×List Tk:=if hd ts=adk then (42,ts.tail) else if hd ts=adl then (43,ts.tail) else if hd ts=adR then (63,ts.tail) else (0,ts)
def wX(ts:List Tk):Bool:=decide (hd ts=p9) || isName (hd ts) || isToken (hd ts)
def qb(fZ:List Tk->fJ (List Alt))(ts:List Tk):fJ It :=
 if hd ts=p9 then
  match fZ ts with
  |.error e=>.error e
  | .ok (alts,aR)=>.ok (⟨2,bP,(jc aR).1,alts,pl ts⟩,(jc aR).2)
 else if isName (hd ts)=η then .ok (⟨0,hd ts,(jc ts.tail).1,[],pl ts⟩,(jc ts.tail).2)
 else if isToken (hd ts)=η then .ok (⟨1,hd ts,(jc ts.tail).1,[],pl ts⟩,(jc ts.tail).2)
 else .error (2,pl ts)
def rG(fZ:List Tk->fJ (List Alt)):Nat->List Tk->List It->fJ (List It)
 |0,ts,acc=>.ok (acc,ts)
 |f+1,ts,acc=>
  if wX ts=η then
   match qb fZ ts with
   |.error e=>.error e
   | .ok (x,aR)=>rG fZ f aR (acc++[x])
  else .ok (acc,ts)
def BZ(top:Bool)(items:List It)(ts:List Tk):fJ Alt :=
 if top=η/\hd ts=DX then
  match jm isToken ts.tail with
  |.error e=>.error e
  | .ok (b,aR)=>.ok ((items,b,pl ts.tail),aR)
 else .ok ((items,bP,0),ts)
def qd(fZ:List Tk->fJ (List Alt))(top:Bool)(ts:List Tk):fJ Alt :=
 match rG fZ ts.length ts [] with
 |.error e=>.error e
 | .ok (items,aR)=>BZ top items aR
def xE(fZ:List Tk->fJ (List Alt))(top:Bool):Nat->List Tk->List Alt->fJ (List Alt)
 |0,ts,acc=>.ok (acc,ts)
 |f+1,ts,acc=>
  if hd ts=J3 then
   match qd fZ top ts.tail with
   |.error e=>.error e
   | .ok (x,aR)=>xE fZ top f aR (acc++[x])
  else .ok (acc,ts)
def DF(fZ:List Tk->fJ (List Alt))(top:Bool)(ts:List Tk):fJ (List Alt) :=
 match qd fZ top ts with
 |.error e=>.error e
 | .ok (x,aR)=>xE fZ top aR.length aR [x]
def DT(alts:List Tk->fJ (List Alt))(ts:List Tk):fJ (List Alt) :=
 match alts ts.tail with
 |.error e=>.error e
 | .ok (l,aR)=>
  match qK OD aR with
  |.error e=>.error e
  | .ok (_,iP)=>.ok (l,iP)
def tC:Nat->List Tk->fJ (List Alt)
 |0,ts=>DF (fun ts=>.error (3,pl ts)) ε ts
 |d+1,ts=>DF (DT (tC d)) (d == 7) ts
def iH:Nat->List Tk->fJ (List Alt)
 |0,ts=>.error (3,pl ts)
 |d+1,ts=>DT (tC d) ts
theorem ajj(d:Nat)(a:List Tk):tC d a=DF (iH d) (d == 8) a:=by
 cases d with
 |zero=>rfl
 |succ d=>simp only[tC];congr 1;simp
theorem FD{k:ByteArray->Bool}{a ts':List Tk}(h:jm k a=.ok (b,ts')):ts'=a.tail/\b=hd a/\k (hd a)=η:=by
 unfold jm at h
 split at h
 ·rename_i c;simp only[Except.ok.injEq,Prod.mk.injEq]at h;exact⟨h.2.symm,h.1.symm,c⟩
 ·cases h
theorem R5{a ts':List Tk}{u:Unit}(h:qK b a=.ok (u,ts')):ts'=a.tail/\hd a=b:=by
 unfold qK at h
 split at h
 ·rename_i c;simp only[Except.ok.injEq,Prod.mk.injEq]at h;exact⟨h.2.symm,c⟩
 ·cases h
theorem R6(a:List Tk):(jc a).2.length<=a.length:=by
 unfold jc
 split
 ·simp
 ·split
  ·simp
  ·split <;> simp
theorem ZH{fZ:List Tk->fJ (List Alt)}(b:∀a x ts',fZ a=.ok (x,ts')->ts'.length<=a.tail.length){a ts':List Tk}{x:It}(h:qb fZ a=.ok (x,ts')):ts'.length<=a.tail.length:=by
 unfold qb at h
 split at h
 ·cases hr:fZ a with
  |error e=>rw[hr]at h;cases h
  |ok y=>
   obtain⟨l,c⟩:=y;rw[hr]at h;simp only[Except.ok.injEq,Prod.mk.injEq]at h;have h1:=b _ _ _ hr;have h2:=R6 c;rw[<-h.2];omega
 ·split at h
  ·simp only[Except.ok.injEq,Prod.mk.injEq]at h
   rw[<-h.2];exact R6 _
  ·split at h
   ·simp only[Except.ok.injEq,Prod.mk.injEq]at h
    rw[<-h.2];exact R6 _
   ·cases h
theorem Zb{fZ:List Tk->fJ (List Alt)}(a:∀ts x ts',fZ ts=.ok (x,ts')->ts'.length<=ts.tail.length):∀(f:Nat)(ts:List Tk)(acc:List It)(x:List It)(ts':List Tk),rG fZ f ts acc=.ok (x,ts')->ts'.length<=ts.length
 |0,ts,acc,x,ts',h=>by simp only[rG,Except.ok.injEq,Prod.mk.injEq]at h;rw[h.2];exact dv _
 |f+1,ts,acc,x,ts',h=>by
  simp only[rG]at h
  split at h
  ·cases hr:qb fZ ts with
   |error e=>rw[hr]at h;cases h
   |ok y=>
    obtain⟨z,b⟩:=y;rw[hr]at h;have h1:=ZH a hr;have h2:=Zb a f b _ x ts' h;have h3:ts.tail.length<=ts.length:=by simp
    omega
  ·simp only[Except.ok.injEq,Prod.mk.injEq]at h;rw[h.2];exact dv _
theorem ahX{top:Bool}{a:List It}{c ts':List Tk}{x:Alt}(h:BZ top a c=.ok (x,ts')):ts'.length<=c.length:=by
 unfold BZ at h
 split at h
 ·cases hr:jm isToken c.tail with
  |error e=>rw[hr]at h;cases h
  |ok y=>
   obtain⟨b,d⟩:=y;rw[hr]at h;simp only[Except.ok.injEq,Prod.mk.injEq]at h;have h1:=(FD hr).1;rw[<-h.2,h1];simp;omega
 ·simp only[Except.ok.injEq,Prod.mk.injEq]at h
  rw[<-h.2];exact dv _
theorem NC{fZ:List Tk->fJ (List Alt)}(b:∀a x ts',fZ a=.ok (x,ts')->ts'.length<=a.tail.length){top:Bool}{a ts':List Tk}{x:Alt}(h:qd fZ top a=.ok (x,ts')):ts'.length<=a.length:=by
 unfold qd at h;cases hr:rG fZ a.length a [] with
 |error e=>rw[hr]at h;cases h
 |ok y=>
  obtain⟨l,c⟩:=y;rw[hr]at h;have h1:=Zb b _ _ _ _ _ hr;have h2:=ahX h;omega
theorem ZI{fZ:List Tk->fJ (List Alt)}(a:∀ts x ts',fZ ts=.ok (x,ts')->ts'.length<=ts.tail.length){top:Bool}:∀(f:Nat)(ts:List Tk)(acc:List Alt)(x:List Alt)(ts':List Tk),xE fZ top f ts acc=.ok (x,ts')->ts'.length<=ts.length
 |0,ts,acc,x,ts',h=>by simp only[xE,Except.ok.injEq,Prod.mk.injEq]at h;rw[h.2];exact dv _
 |f+1,ts,acc,x,ts',h=>by
  simp only[xE]at h
  split at h
  ·cases hr:qd fZ top ts.tail with
   |error e=>rw[hr]at h;cases h
   |ok y=>
    obtain⟨z,b⟩:=y;rw[hr]at h;have h1:=NC a hr;have h2:=ZI a f b _ x ts' h;have h3:ts.tail.length<=ts.length:=by simp
    omega
  ·simp only[Except.ok.injEq,Prod.mk.injEq]at h;rw[h.2];exact dv _
theorem YR{fZ:List Tk->fJ (List Alt)}(b:∀a x ts',fZ a=.ok (x,ts')->ts'.length<=a.tail.length){top:Bool}{a ts':List Tk}{x:List Alt}(h:DF fZ top a=.ok (x,ts')):ts'.length<=a.length:=by
 unfold DF at h;cases hr:qd fZ top a with
 |error e=>rw[hr]at h;cases h
 |ok y=>
  obtain⟨l,c⟩:=y;rw[hr]at h;have h1:=NC b hr;have h2:=ZI b _ _ _ _ _ h;omega
theorem Zc{r:List Tk->fJ (List Alt)}(c:∀a x ts',r a=.ok (x,ts')->ts'.length<=a.length)(a:List Tk)(x:List Alt)(ts':List Tk)(h:DT r a=.ok (x,ts')):ts'.length<=a.tail.length:=by
 unfold DT at h;cases h1:r a.tail with
 |error e=>rw[h1]at h;cases h
 |ok y=>
  obtain⟨l,b⟩:=y;rw[h1]at h;cases h2:qK OD b with
  |error e=>simp only[h2]at h;cases h
  |ok z=>
   obtain⟨u,d⟩:=z;simp only[h2,Except.ok.injEq,Prod.mk.injEq]at h;have:=c _ _ _ h1;have h3:=(R5 h2).1;rw[<-h.2,h3];have h4:b.tail.length<=b.length:=by simp
   omega
theorem R7:∀(d:Nat)(ts:List Tk)(x:List Alt)(ts':List Tk),tC d ts=.ok (x,ts')->ts'.length<=ts.length
 |0,ts,x,ts',h=>YR (fZ:=fun ts=>.error (3,pl ts)) (fun _ _ _ h=>by cases h) h
 |d+1,ts,x,ts',h=>YR (Zc (R7 d)) h
theorem Ry:∀(d:Nat)(ts:List Tk)(x:List Alt)(ts':List Tk),iH d ts=.ok (x,ts')->ts'.length<=ts.tail.length
 |0,ts,x,ts',h=>by cases h
 |d+1,ts,x,ts',h=>Zc (R7 d) _ _ _ h
def qL(ts:List Tk):fJ Rl :=
 match jm isName ts with
 |.error e=>.error e
 | .ok (n,aR)=>
  match qK Er aR with
  |.error e=>.error e
  | .ok (_,iP)=>
   match tC 8 iP with
   |.error e=>.error e
   | .ok (l,qP)=>
    match qK zh qP with
    |.error e=>.error e
    | .ok (_,pz)=>.ok (⟨n,l,pl ts⟩,pz)
def lZ(b:ByteArray):Int:=if b=Ur then 0 else if b=TY then 1 else if b=Us then 2 else -1
def sU:Nat->List Tk->List Tk->fJ (List Tk)
 |0,ts,acc=>.ok (acc,ts)
 |f+1,ts,acc=>
  if hd ts=zh then .ok (acc,ts.tail)
  else
   match jm isToken ts with
   |.error e=>.error e
   | .ok (b,aR)=>sU f aR (acc++[(b,pl ts)])
def sW(ts:List Tk):fJ Lv :=
 match jm isToken ts.tail with
 |.error e=>.error e
 | .ok (b,aR)=>
  match sU aR.length aR [(b,pl ts.tail)] with
  |.error e=>.error e
  | .ok (l,iP)=>.ok (⟨(lZ (hd ts)).toNat,l⟩,iP)
def Ad:Nat->List Tk->List Lv->fJ (List Lv)
 |0,ts,acc=>.ok (acc,ts)
 |f+1,ts,acc=>
  if 0<=lZ (hd ts) then
   match sW ts with
   |.error e=>.error e
   | .ok (x,aR)=>Ad f aR (acc++[x])
  else .ok (acc,ts)
def yZ:Nat->List Tk->List Rl->fJ (List Rl)
 |0,ts,acc=>.ok (acc,ts)
 |f+1,ts,acc=>
  if hd ts=bP then .ok (acc,ts)
  else
   match qL ts with
   |.error e=>.error e
   | .ok (x,aR)=>yZ f aR (acc++[x])
def qF(ts:List Tk):fJ Gr :=
 match Ad ts.length ts [] with
 |.error e=>.error e
 | .ok (lv,aR)=>
  match qL aR with
  |.error e=>.error e
  | .ok (x,iP)=>
   match yZ iP.length iP [x] with
   |.error e=>.error e
   | .ok (l,qP)=>.ok (⟨lv,l⟩,qP)
def parse(s:ByteArray):Except (Nat×Nat) Gr :=
 if 2000<s.size then .error (1,0)
 else
  match qF (lex s) with
  |.error e=>.error e
  | .ok (g,_)=>.ok g
end Lx
namespace Tr
def In(a b:Nat):Nat->Prop:=fun g=>a<=g/\g<b
theorem jb{size:Nat}{d:List υ}(h:w.ownsRow base e size v n d)(f:a<=base):w.ownsRow a e size v n d:=by
 refine⟨h.1,?_⟩;rcases h.2 with i|⟨g,c,b,k,j,r⟩
 ·exact .inl i
 ·exact .inr ⟨g,c,b,k,cY f j,r⟩
theorem ay{size:Nat}{c:List υ}(h:w.ownsRow base e size v n c)(k:∀g,v.ownBlock=ο g->w'.heap[g]?=w.heap[g]?):w'.ownsRow base e size v n c:=by
 refine⟨h.1,?_⟩;rcases h.2 with f|⟨g,b,a,d,j,i,r⟩
 ·exact .inl f
 ·refine .inr ⟨g,b,a,d,j,?_,r⟩
  rw[k g (by rw[d];rfl)];exact i
section
variable{α:Type}
def Seq(F:Nat->Prop)(w:ω)(e s:Nat)(c:υ×α->List υ)(K:υ->α->Prop)(v:υ)(l:List α):Prop :=
 ∃ps:List (υ×α),ps.map Prod.snd=l/\w.ownsRow 0 e s v l.length (ps.flatMap c)/\(∀g,v.ownBlock=ο g->F g)/\∀q,q∈ps->K q.1 q.2
theorem Seq.nil(F:Nat->Prop)(w:ω)(e s:Nat)(c:υ×α->List υ)(K:υ->α->Prop):Seq F w e s c K (ς ν 0 0) [] :=
 ⟨[],rfl,eV _ _ _ _,fun g h=>by simp[Value.ownBlock]at h,fun q h=>by simp at h⟩
theorem Seq.move{d:Nat->Prop}{s:Nat}{c:υ×α->List υ}{K f:υ->α->Prop}{l:List α}(h:Seq F w e s c K v l)
  (j:∀b,F b->w'.heap[b]?=w.heap[b]?) (m:∀b,F b->d b) (n:∀v x,K v x->f v x):Seq d w' e s c f v l:=by
 obtain⟨i,h1,h2,h3,h4⟩:=h;exact⟨i,h1,ay h2 fun g a=>j g (h3 g a),fun g a=>m g (h3 g a),fun q k=>n _ _ (h4 q k)⟩
def sV(K:(Nat->Prop)->ω->υ->α->Prop):Prop :=
 ∀(F F':Nat->Prop)(w w':ω)v x,(∀b,F b->w'.heap[b]?=w.heap[b]?)->(∀b,F b->F' b)->K F w v x->K F' w' v x
def za(B:Nat)(w:ω)(e s:Nat)(c:υ×α->List υ)(K:(Nat->Prop)->ω->υ->α->Prop)(v:υ)(l:List α)(ps:List (υ×α))(F:Nat->Prop):Prop :=
 ps.map Prod.snd=l/\w.ownsRow B e s v l.length (ps.flatMap c)/\(∀q,q∈ps->K F w q.1 q.2)/\(∀b,F b->B<=b/\b<w.heap.size)/\∀g,v.ownBlock=ο g->¬F g
def Grow(B:Nat)(w:ω)(e s:Nat)(c:υ×α->List υ)(K:(Nat->Prop)->ω->υ->α->Prop)(v:υ)(l:List α):Prop:=∃ps F,za B w e s c K v l ps F
variable{B:Nat}{w w':ω}{e s:Nat}{c:υ×α -> List υ}{K:(Nat -> Prop) -> ω -> υ -> α -> Prop}{v:υ}{l:List α}{ps:List (υ×α)}{F:Nat -> Prop}
theorem Grow.nil(B:Nat)(w:ω)(e s:Nat)(c:υ×α->List υ)(K:(Nat->Prop)->ω->υ->α->Prop):Grow B w e s c K (ς ν 0 0) [] :=
 ⟨[],fun _=>False,rfl,eV _ _ _ _,fun q h=>by simp at h,fun b h=>h.elim,fun _ _ h=>h⟩
theorem za.kept(p:sV K)(h:za B w e s c K v l ps F)(j:w.grownBy w' r)(m:∀k,r=ο k->k<B):za B w' e s c K v l ps F:=by
 obtain⟨h1,h2,h3,h4,n⟩:=h;have f:∀b,B<=b->b<w.heap.size->w'.heap[b]?=w.heap[b]?:=fun b f i=>j.block b i fun e=>by have:=m b e.symm;omega
 refine⟨h1,ay h2 fun g d=>f g (h2.lt g d).1 (h2.lt g d).2,fun q o=>p F F w w' _ _ (fun b a=>f b (h4 b a).1 (h4 b a).2) (fun _ h=>h) (h3 q o),fun b a=>⟨(h4 b a).1,dg (h4 b a).2 j.size⟩,n⟩
theorem Grow.kept(a:sV K)(h:Grow B w e s c K v l){r:Option Nat}(b:w.grownBy w' r)(d:∀k,r=ο k->k<B):Grow B w' e s c K v l :=
 let ⟨ps,F,h'⟩:=h;⟨ps,F,h'.kept a b d⟩
theorem Grow.seq(d:sV K)(h:Grow B w e s c K v l):Seq (In B w.heap.size) w e s c (K (In B w.heap.size) w) v l:=by
 obtain⟨ps,F,h1,h2,h3,h4,f⟩:=h;exact⟨ps,h1,jb h2 (fi _),fun g a=>h2.lt g a,fun q b=>d F _ w w _ _ (fun _ _=>rfl) h4 (h3 q b)⟩
theorem za.push(t:sV K)(h:za B w e s c K v l ps F)(hp:p<B)(D:B<=w.heap.size){w1 w2:ω}(g1:w.grownBy w1 (ο p))(q:υ×α)
  (A:K (In w.heap.size w1.heap.size) w1 q.1 q.2) (g2:w1.grownBy w2 ν) {g j:Nat} (y:w3.ownsRow B e s (ς (ο ⟨g,0,ν⟩) (l.length+1) j) (l.length+1) (ps.flatMap c++c q))
  (n:w2.grownBy w3 v.ownBlock) (d:v.ownBlock=ο g\/g=w2.heap.size):Grow B w3 e s c K (ς (ο ⟨g,0,ν⟩) (l.length+1) j) (l++[q.2]):=by
 obtain⟨h1,h2,h3,h4,r⟩:=h;have s1:=g1.size;have s2:=g2.size;have E:=n.size;have C:∀b,F b->w3.heap[b]?=w.heap[b]?:=fun b i=>by
  have a:=h4 b i;rw[n.block b (by omega) (fun e=>r b e.symm i),g2.block b (by omega) (by simp),g1.block b a.2 (fun e=>by cases e;omega)]
 have u:∀b,In w.heap.size w1.heap.size b->w3.heap[b]?=w1.heap[b]?:=fun b f=>by
  rw[n.block b (by have:=f.2;omega) (fun e=>by have:=(h2.lt b e.symm).2;have:=f.1;omega),g2.block b f.2 (by simp)]
 refine⟨ps++[q],fun b=>F b\/In w.heap.size w1.heap.size b,?_,?_,?_,?_,?_⟩
 ·rw[ee,h1];rfl
 ·rw[ik,cJ];simpa using y
 ·intro x o
  rcases dq.1 o with k|k
  ·exact t F _ w w3 _ _ C (fun _ h=>.inl h) (h3 x k)
  ·simp at k;subst k
   exact t _ _ w1 w3 _ _ u (fun _ h=>.inr h) A
 ·intro b a
  rcases a with a|a
  ·have:=h4 b a;omega
  ·have:=a.1;have:=a.2;omega
 ·intro z m
  have:g=z:=by simpa [Value.ownBlock]using m
  subst this;rintro(i | f)
  ·rcases d with d | d
   ·exact r _ d i
   ·have:=h4 _ i;omega
  ·rcases d with d | d
   ·have:=(h2.lt _ d).2;have:=f.1;omega
   ·have:=f.2;omega
end
structure Lay where
 eA:Nat
 sA:Nat
 cA:υ×Lx.Alt->List υ
 eI:Nat
 sI:Nat
 cI:υ×Lx.It->List υ
def xu(Y:Lay)(A:υ->List Lx.Alt->Prop)(F:Nat->Prop)(w:ω)(v:υ)(l:List Lx.It):Prop :=
 Seq F w Y.eI Y.sI Y.cI (fun va it=>A va it.alts) v l
def aN(Y:Lay):Nat->(Nat->Prop)->ω->υ->List Lx.Alt->Prop
 |0,_,_,v,l=>v=ς ν 0 0/\l=[]
 |d+1,F,w,v,l=>Seq F w Y.eA Y.sA Y.cA (fun vi a=>xu Y (aN Y d F w) F w vi a.1) v l
def jO(Y:Lay)(d:Nat)(F:Nat->Prop)(w:ω)(v:υ)(l:List Lx.It):Prop:=xu Y (aN Y d F w) F w v l
theorem aN.nil(Y:Lay)(d:Nat)(F:Nat->Prop)(w:ω):aN Y d F w (.slice ν 0 0) []:=by
 cases d with
 |zero=>exact⟨rfl,rfl⟩
 |succ d=>exact Seq.nil _ _ _ _ _ _
theorem FL{size:Nat}{d:List υ}(h:w.ownsRow base e size v n d):∃a k c,v=ς a k c:=by
 rcases h.2 with ⟨rfl,_⟩|⟨g,f,b,rfl,_⟩
 ·exact⟨_,_,_,rfl⟩
 ·exact⟨_,_,_,rfl⟩
theorem Seq.form{α:Type}{s:Nat}{c:υ×α->List υ}{K:υ->α->Prop}{l:List α}(h:Seq F w e s c K v l):∃a k c,v=ς a k c:=by
 obtain⟨b,_,h2,_⟩:=h;exact FL h2
theorem aN.form{Y:Lay}{d:Nat}{F:Nat->Prop}{w:ω}{v:υ}{l:List Lx.Alt}(h:aN Y d F w v l):∃a k c,v=.slice a k c:=by
 cases d with
 |zero=>exact⟨_,_,_,h.1⟩
 |succ d=>exact Seq.form h
theorem aN.move{Y:Lay}{F g:Nat->Prop}{w w':ω}(c:∀b,F b->w'.heap[b]?=w.heap[b]?)(f:∀b,F b->g b):∀{d:Nat}{v:υ}{l:List Lx.Alt},aN Y d F w v l->aN Y d g w' v l
 |0,_,_,h=>h
 |d+1,_,_,h=>Seq.move (K:=fun j(a:Lx.Alt)=>xu Y (aN Y d F w) F w j a.1) h c f fun _ _ m=>Seq.move (K:=fun n(i:Lx.It)=>aN Y d F w n i.alts) m c f fun _ _ k=>aN.move c f k
theorem jO.move{Y:Lay}{d:Nat}{F a:Nat->Prop}{w w':ω}(f:∀b,F b->w'.heap[b]?=w.heap[b]?)(c:∀b,F b->a b){v:υ}{l:List Lx.It}(h:jO Y d F w v l):jO Y d a w' v l :=
 Seq.move (K:=fun i(g:Lx.It)=>aN Y d F w i g.alts) h f c fun _ _ j=>aN.move f c j
end Tr
namespace Tr
def Sep(Fs:List (Nat->Prop)):Prop:=Fs.Pairwise fun A B=>∀b,A b->B b->False
theorem ajk{a:List (Nat->Prop)}(h:Sep a){B:Nat->Prop}(f:∀A,A∈a->∀b,A b->B b->False):Sep (a++[B]):=by
 unfold Sep at *;rw[rh];exact⟨h,p7 _ _,fun A d C c=>by simp only[List.mem_singleton]at c;subst c;exact f A d⟩
section
variable{α:Type}
def fD(F:Nat->Prop)(w:ω)(e s:Nat)(c:υ×α->List υ)(K:(Nat->Prop)->ω->υ->α->Prop)(v:υ)(l:List α):Prop :=
 ∃(ps:List (υ×α))(Fs:List (Nat->Prop)),ps.map Prod.snd=l/\w.ownsRow 0 e s v l.length (ps.flatMap c)/\(∀g,v.ownBlock=ο g->F g/\∀A,A∈Fs->¬A g)/\(∀A,A∈Fs->∀b,A b->F b)/\Sep Fs/\Fs.length=ps.length/\∀(j:Nat)(q:υ×α)(A:Nat->Prop),ps[j]?=ο q->Fs[j]?=ο A->K A w q.1 q.2
theorem fD.nil(F:Nat->Prop)(w:ω)(e s:Nat)(c:υ×α->List υ)(K:(Nat->Prop)->ω->υ->α->Prop):fD F w e s c K (ς ν 0 0) [] :=
 ⟨[],[],rfl,eV _ _ _ _,(fun g h=>by simp[Value.ownBlock]at h),(fun A h=>by cases h),pC,rfl,(fun j q A h=>by simp at h)⟩
theorem fD.move{d:Nat->Prop}{s:Nat}{c:υ×α->List υ}{K i:(Nat->Prop)->ω->υ->α->Prop}{l:List α}(h:fD F w e s c K v l)
  (p:∀b,F b->w'.heap[b]?=w.heap[b]?) (f:∀b,F b->d b) (y:∀A v x,(∀b,A b->F b)->K A w v x->i A w' v x):fD d w' e s c i v l:=by
 obtain⟨m,u,h1,h2,h3,h4,r,o,n⟩:=h;exact⟨m,u,h1,ay h2 fun g a=>p g (h3 g a).1,fun g a=>⟨f g (h3 g a).1,(h3 g a).2⟩,fun A hA b k=>f b (h4 A hA b k),r,o,fun j q A t hA=>y A _ _ (h4 A (cM hA)) (n j q A t hA)⟩
theorem fD.form{s:Nat}{c:υ×α->List υ}{K:(Nat->Prop)->ω->υ->α->Prop}{l:List α}(h:fD F w e s c K v l):∃a k c,v=ς a k c:=by
 obtain⟨b,d,_,h2,_⟩:=h;exact FL h2
def xw(B:Nat)(w:ω)(e s:Nat)(c:υ×α->List υ)(K:(Nat->Prop)->ω->υ->α->Prop)(v:υ)(l:List α)(ps:List (υ×α))(Fs:List (Nat->Prop)):Prop :=
 ps.map Prod.snd=l/\w.ownsRow B e s v l.length (ps.flatMap c)/\(∀(j:Nat)(q:υ×α)(A:Nat->Prop),ps[j]?=ο q->Fs[j]?=ο A->K A w q.1 q.2)/\(∀A,A∈Fs->∀b,A b->B<=b/\b<w.heap.size)/\(∀g,v.ownBlock=ο g->∀A,A∈Fs->¬A g)/\Sep Fs/\Fs.length=ps.length
def l9(B:Nat)(w:ω)(e s:Nat)(c:υ×α->List υ)(K:(Nat->Prop)->ω->υ->α->Prop)(v:υ)(l:List α):Prop:=∃ps Fs,xw B w e s c K v l ps Fs
variable{B:Nat}{w w':ω}{e s:Nat}{c:υ×α -> List υ}{K:(Nat -> Prop) -> ω -> υ -> α -> Prop}{v:υ}{l:List α}{ps:List (υ×α)}{Fs:List (Nat -> Prop)}
theorem l9.nil(B:Nat)(w:ω)(e s:Nat)(c:υ×α->List υ)(K:(Nat->Prop)->ω->υ->α->Prop):l9 B w e s c K (ς ν 0 0) [] :=
 ⟨[],[],rfl,eV _ _ _ _,(fun j q A h=>by simp at h),(fun A h=>by cases h),(fun g h=>by simp[Value.ownBlock]at h),pC,rfl⟩
theorem xw.kept(y:sV K)(h:xw B w e s c K v l ps Fs)(n:w.grownBy w' r)(o:∀k,r=ο k->k<B):xw B w' e s c K v l ps Fs:=by
 obtain⟨h1,h2,h3,h4,u,t,p⟩:=h;have i:∀b,B<=b->b<w.heap.size->w'.heap[b]?=w.heap[b]?:=fun b i m=>n.block b m fun e=>by have:=o b e.symm;omega
 refine⟨h1,ay h2 fun g d=>i g (h2.lt g d).1 (h2.lt g d).2,fun j q A x hA=>?_,fun A hA b f=>⟨(h4 A hA b f).1,dg (h4 A hA b f).2 n.size⟩,u,t,p⟩;have a:=cM hA;exact y A A w w' _ _ (fun b f=>i b (h4 A a b f).1 (h4 A a b f).2) (fun _ h=>h) (h3 j q A x hA)
theorem l9.kept(a:sV K)(h:l9 B w e s c K v l){r:Option Nat}(b:w.grownBy w' r)(d:∀k,r=ο k->k<B):l9 B w' e s c K v l :=
 let ⟨ps,Fs,h'⟩:=h;⟨ps,Fs,h'.kept a b d⟩
theorem l9.seq(h:l9 B w e s c K v l):fD (In B w.heap.size) w e s c K v l:=by
 obtain⟨ps,Fs,h1,h2,h3,h4,i,j,f⟩:=h;exact⟨ps,Fs,h1,jb h2 (fi _),fun g a=>⟨h2.lt g a,i g a⟩,fun A k b d=>h4 A k b d,j,f,h3⟩
theorem l9.one(o:sV K){w1:ω}(q:υ×α)(p:B<=w.heap.size)(h1:w.heap.size<=w1.heap.size)(n:K (In w.heap.size w1.heap.size) w1 q.1 q.2)(i:(c q).length=s):
  l9 B (w1.alloc (ζ (c q).toArray e)) e s c K (ς (ο ⟨w1.heap.size,0,ν⟩) 1 1) [q.2]:=by
 refine⟨[q],[In w.heap.size w1.heap.size],rfl,⟨by simp[i],.inr ⟨w1.heap.size,1,(c q).toArray,rfl,by omega,py w1 _,dv _,by unfold maxLen;omega,by simp[i],?_⟩⟩,?_,?_,?_,p7 _ _,rfl⟩
 ·simp only[List.length_cons,List.length_nil,List.flatMap_cons,List.flatMap_nil,List.append_nil]
  exact vn (by omega)
 ·intro j r A d a
  cases j with
  |zero=>
   simp at d a;subst d a;exact o _ _ w1 _ _ _ (fun b f=>ed _ _ _ f.2) (fun _ h=>h) n
  |succ j=>simp at d
 ·intro A a b f
  simp only[List.mem_singleton]at a;subst a;have:=f.1;have:=f.2;simp;omega
 ·intro g m A a k
  simp only[List.mem_singleton]at a;subst a;have:w1.heap.size=g:=by simpa [Value.ownBlock]using m
  have:=k.2;omega
theorem xw.push(C:sV K)(h:xw B w e s c K v l ps Fs)(hp:p<B)(M:B<=w.heap.size){w1 w2:ω}(g1:w.grownBy w1 (ο p))(q:υ×α)
  (J:K (In w.heap.size w1.heap.size) w1 q.1 q.2) (g2:w1.grownBy w2 ν) {g k:Nat} (I:w3.ownsRow B e s (ς (ο ⟨g,0,ν⟩) (l.length+1) k) (l.length+1) (ps.flatMap c++c q))
  (u:w2.grownBy w3 v.ownBlock) (d:v.ownBlock=ο g\/g=w2.heap.size):l9 B w3 e s c K (ς (ο ⟨g,0,ν⟩) (l.length+1) k) (l++[q.2]):=by
 obtain⟨h1,h2,h3,h4,z,G,y⟩:=h;have s1:=g1.size;have s2:=g2.size;have L:=u.size;have F:∀A,A∈Fs->∀b,A b->w3.heap[b]?=w.heap[b]?:=fun A hA b f=>by
  have i:=h4 A hA b f;rw[u.block b (by omega) (fun e=>z b e.symm A hA f),g2.block b (by omega) (by simp),g1.block b i.2 (fun e=>by cases e;omega)]
 have D:∀b,In w.heap.size w1.heap.size b->w3.heap[b]?=w1.heap[b]?:=fun b x=>by
  rw[u.block b (by have:=x.2;omega) (fun e=>by have:=(h2.lt b e.symm).2;have:=x.1;omega),g2.block b x.2 (by simp)]
 refine⟨ps++[q],Fs++[In w.heap.size w1.heap.size],?_,?_,?_,?_,?_,?_,by simp[y]⟩
 ·rw[ee,h1];rfl
 ·rw[ik,cJ];simpa using I
 ·intro j H A a hA
  rcases s7 j ps.length with t|t
  ·rw[eL t]at a
   rw[eL (by omega)]at hA;exact C A A w w3 _ _ (F A (cM hA)) (fun _ h=>h) (h3 j H A a hA)
  ·rw[eQ t]at a
   rw[eQ (by omega),y]at hA;cases hjj:j-ps.length with
   |zero=>
    rw[hjj]at a hA;simp at a hA;subst a hA;exact C _ _ w1 w3 _ _ D (fun _ h=>h) J
   |succ m=>rw[hjj]at a;simp at a
 ·intro A hA b i
  rcases dq.1 hA with hA|hA
  ·have:=h4 A hA b i;omega
  ·simp only[List.mem_singleton]at hA
   subst hA;have:=i.1;have:=i.2;omega
 ·intro E o A hA f
  have:g=E:=by simpa [Value.ownBlock]using o
  subst this;rcases dq.1 hA with hA|hA
  ·rcases d with d | d
   ·exact z _ d A hA f
   ·have:=h4 A hA _ f;omega
  ·simp only[List.mem_singleton]at hA
   subst hA;rcases d with d|d
   ·have:=(h2.lt _ d).2;have:=f.1;omega
   ·have:=f.2;omega
 ·refine ajk G fun A hA b r n=>?_
  have:=(h4 A hA b r).2;have:=n.1;omega
end
def fu(Y:Lay):Nat->(Nat->Prop)->ω->υ->List Lx.Alt->Prop
 |0,_,_,v,l=>v=ς ν 0 0/\l=[]
 |d+1,F,w,v,l=>fD F w Y.eA Y.sA Y.cA (fun A w vi a=>fD A w Y.eI Y.sI Y.cI (fun A w va it=>fu Y d A w va it.alts) vi a.1) v l
def rE(Y:Lay)(d:Nat)(F:Nat->Prop)(w:ω)(v:υ)(l:List Lx.It):Prop:=fD F w Y.eI Y.sI Y.cI (fun A w va it=>fu Y d A w va it.alts) v l
theorem fu.nil(Y:Lay)(d:Nat)(F:Nat->Prop)(w:ω):fu Y d F w (.slice ν 0 0) []:=by
 cases d with
 |zero=>exact⟨rfl,rfl⟩
 |succ d=>exact fD.nil _ _ _ _ _ _
theorem fu.form{Y:Lay}{d:Nat}{F:Nat->Prop}{w:ω}{v:υ}{l:List Lx.Alt}(h:fu Y d F w v l):∃a k c,v=.slice a k c:=by
 cases d with
 |zero=>exact⟨_,_,_,h.1⟩
 |succ d=>exact fD.form h
theorem fu.move{Y:Lay}{w w':ω}:∀{d:Nat}{F F':Nat->Prop}{v:υ}{l:List Lx.Alt},(∀b,F b->w'.heap[b]?=w.heap[b]?)->(∀b,F b->F' b)->fu Y d F w v l->fu Y d F' w' v l
 |0,_,_,_,_,_,_,h=>h
 |d+1,_,_,_,_,hs,hF,h=>fD.move (K:=fun A w k(a:Lx.Alt)=>fD A w Y.eI Y.sI Y.cI (fun A w i f=>fu Y d A w i f.alts) k a.1) h hs hF fun _ _ _ j n=>
   fD.move (K:=fun A w i(f:Lx.It)=>fu Y d A w i f.alts) n (fun b c=>hs b (j b c)) (fun _ h=>h) fun _ _ _ g m=>fu.move (fun b c=>hs b (j b (g b c))) (fun _ h=>h) m
theorem rE.move{Y:Lay}{d:Nat}{F c:Nat->Prop}{w w':ω}(a:∀b,F b->w'.heap[b]?=w.heap[b]?)(i:∀b,F b->c b){v:υ}{l:List Lx.It}(h:rE Y d F w v l):rE Y d c w' v l :=
 fD.move (K:=fun A w k(g:Lx.It)=>fu Y d A w k g.alts) h a i fun _ _ _ m j=>fu.move (fun b f=>a b (m b f)) (fun _ h=>h) j
theorem I8(Y:Lay)(d:Nat):sV (α:=Lx.It) (fun F w va it=>fu Y d F w va it.alts):=fun _ _ _ _ _ _ b a h=>fu.move b a h
theorem M8(Y:Lay)(d:Nat):sV (α:=Lx.Alt) (fun F w vi a=>rE Y d F w vi a.1):=fun _ _ _ _ _ _ c b h=>rE.move c b h
theorem fD.weak{α:Type}{s:Nat}{c:υ×α->List υ}{K:(Nat->Prop)->ω->υ->α->Prop}{d:υ->α->Prop}{l:List α}(h:fD F w e s c K v l)(p:∀A v x,(∀b,A b->F b)->K A w v x->d v x):Seq F w e s c d v l:=by
 obtain⟨f,a,h1,h2,h3,h4,t,r,i⟩:=h;refine⟨f,h1,h2,fun g k=>(h3 g k).1,fun q n=>?_⟩;obtain⟨j,m,rfl⟩:=mB n;have o:a[j]?=ο a[j]:=cG (by omega);exact p a[j] _ _ (h4 _ (eJ _)) (i j _ _ (cG m) o)
theorem fu.weak{Y:Lay}{w:ω}{G:Nat->Prop}:∀{d:Nat}{F:Nat->Prop}{v:υ}{l:List Lx.Alt},(∀b,F b->G b)->fu Y d F w v l->aN Y d G w v l
 |0,_,_,_,_,h=>h
 |d+1,F,v,l,hG,h=>by
  have j:Seq F w Y.eA Y.sA Y.cA (fun g a=>xu Y (aN Y d G w) G w g a.1) v l:=fD.weak h fun A g a i m=>by
   have h2:=fD.weak m fun n p o f k=>fu.weak (fun b c=>hG b (i b (f b c))) k
   exact Seq.move h2 (fun _ _=>rfl) (fun b c=>hG b (i b c)) (fun _ _ h=>h)
  exact Seq.move j (fun _ _=>rfl) hG (fun _ _ h=>h)
end Tr
theorem iI{a b:Bool}(h:a=b):Ending.returned (μ a)=δ (μ b):=by rw[h]
theorem DI{k:IntKind}{a b:Int}(h:a=b):Ending.returned (ι k a)=δ (ι k b):=by rw[h]
theorem Dv(c:Int)(w:ω)(a:0<=c)(h1:c<=255):
  χ prog 132 #[ι .u8 c] w fun e w'=>e=δ (μ (Lx.small c))/\w'=w:=by
 by_cases h:97<=c
 ·by_cases h':c<=122
  all_goals
   go_enter func132,ntmps132
   go_wp2
   go_ret;exact⟨iI (by simp[Lx.small];omega),rfl⟩
 ·go_enter func132,ntmps132
  go_wp2
  go_ret;exact⟨iI (by simp[Lx.small];omega),rfl⟩
theorem FC(c:Int)(w:ω)(a:0<=c)(h1:c<=255):
  χ prog 133 #[ι .u8 c] w fun e w'=>e=δ (μ (Lx.capital c))/\w'=w:=by
 by_cases h:65<=c
 ·by_cases h':c<=90
  all_goals
   go_enter func133,ntmps133
   go_wp2
   go_ret;exact⟨iI (by simp[Lx.capital];omega),rfl⟩
 ·go_enter func133,ntmps133
  go_wp2
  go_ret;exact⟨iI (by simp[Lx.capital];omega),rfl⟩
theorem Jc(c:Int)(w:ω)(a:0<=c)(h1:c<=255):
  χ prog 174 #[ι .u8 c] w fun e w'=>e=δ (μ (Lx.digit c))/\w'=w:=by
 by_cases h:48<=c
 ·by_cases h':c<=57
  all_goals
   go_enter func174,ntmps174
   go_wp2
   go_ret;exact⟨iI (by simp[Lx.digit];omega),rfl⟩
 ·go_enter func174,ntmps174
  go_wp2
  go_ret;exact⟨iI (by simp[Lx.digit];omega),rfl⟩
theorem Yu(c:Int)(w:ω)(a:0<=c)(h1:c<=255):
  χ prog 167 #[ι .u8 c] w fun e w'=>e=δ (μ (Gg c))/\w'=w:=by
 cases ha:Lx.small c
 ·cases hb:Lx.capital c
  all_goals
   go_enter func167,ntmps167
   go_wp2_with (first
    | (go_at_call 132;refine(Dv _ _ a h1).mono ?_;rintro e w'⟨rfl,rfl⟩)
    | (go_at_call 133;refine(FC _ _ a h1).mono ?_;rintro e w'⟨rfl,rfl⟩)
    | (go_at_call 174;refine(Jc _ _ a h1).mono ?_;rintro e w'⟨rfl,rfl⟩))
   go_ret;exact⟨iI (by simp[Gg,ha,hb]),rfl⟩
 ·go_enter func167,ntmps167
  go_wp2_with (first
    | (go_at_call 132;refine(Dv _ _ a h1).mono ?_;rintro e w'⟨rfl,rfl⟩))
  go_ret;exact⟨iI (by simp[Gg,ha]),rfl⟩
theorem YS(s:ByteArray)(i:Nat)(w:ω)(j:s.size<=2000)(f:i<=s.size):
    χ prog 124 #[τ s,ι ξ i] w fun e w'=>e=δ (ι ξ (jD s i ε))/\w'=w:=by
  go_enter func124,ntmps124
  go_wp2
  go_loop [1,5] (fun a r=>∃(k:Nat)(b:Bool),k<=s.size/\a=ι ξ k/\r=μ b/\Hid (jD s k b=jD s i ε)) (fun a _=>s.size - (intOf a).toNat)
  case atStart=>exact⟨i,ε,f,rfl,rfl,rfl⟩
  case round=>
    obtain⟨k,b,g,rfl,rfl,d⟩:=hrel
    by_cases hlt:k<s.size
    · have c:=BG s k
      rw[mY s k hlt]at c;cases b
      all_goals
        go_wp2
        all_goals
          have h1:=d.out;clear d;simp only[beq_iff_eq,beq_eq_false_iff_ne,bne_iff_ne,bne_eq_false_iff_eq,ne_eq]at *
          first
          | (refine⟨⟨k+1,_,by omega,by go_num,rfl,?_⟩,by simp[intOf];omega⟩
             first
             | (refine ame hlt h1 ?_;omega)
             | (refine ajh hlt h1 ?_;omega)
             | (refine akQ hlt h1 ?_ ?_ <;> omega)
             | (refine ahW hlt h1 ?_;omega))
          | (go_ret
             refine⟨DI ?_,rfl⟩;rw[<-aji hlt h1 (by omega) (by omega) (by omega) (by omega)])
    · go_wp2
      go_ret;exact⟨DI (by have:=d.out;rw[af8 _ (by omega)]at this;rw[<-this]),rfl⟩
theorem af9(s:ByteArray)(i:Nat)(w:ω)(v:s.size<=2000)(q:i<s.size):
    χ prog 125 #[τ s,ι ξ i] w fun e w'=>e=δ (ι ξ (nY s i))/\w'=w:=by
  have a:=mY s i q;have g:=BG s i;obtain⟨j,u,r,d,p⟩:∃j:Nat,i<=j/\j<=i+1/\(j=i+1/\(((s[i].toNat:Int)) == 37)=η\/j=i/\(((s[i].toNat:Int)) == 37)=ε)/\Hid (nY s i=max (xq s j) (i+1)):=by
    by_cases hp:s[i].toNat=37
    · exact⟨i+1,by omega,by omega,.inl ⟨rfl,by simp;omega⟩,by show _=_;unfold nY;rw[a,du (by omega)]⟩
    · exact⟨i,by omega,by omega,.inr ⟨rfl,by simp;omega⟩,by show _=_;unfold nY;rw[a,dt (by omega)]⟩
  clear a;rcases d with ⟨c,d⟩|⟨c,d⟩
  all_goals
    have n:Hid _:=c;clear c;go_enter func125,ntmps125
    go_wp2
    go_loop [5] (fun f=>∃(k:Nat),k<=s.size/\f=ι ξ k/\Hid (nY s i=max (xq s k) (i+1))) (fun f=>s.size - (intOf f).toNat)
    case atStart=>exact⟨j,by omega,by first | (rw[n.out];done) | (rw[n.out];go_num),p⟩
    case round=>
      obtain⟨k,t,rfl,l⟩:=hrel
      by_cases hlt:k<s.size
      · have b:=afI hlt
        have g:=BG s k;have a:=mY s k hlt;rw[a]at b g;have o:Hid _:=b;clear b a;cases hw:Gg (s[k].toNat:Int)
        · have m:Hid _:=hw
          go_wp2_with (first | (go_at_call 167;refine(Yu _ _ (by omega) (by omega)).mono ?_;rintro e w'⟨rfl,rfl⟩))
          all_goals
            go_ret;refine⟨DI ?_,rfl⟩;rw[l.out,o.out,dt (by rw[m.out];simp)];omega
        · have m:Hid _:=hw
          go_wp2_with (first | (go_at_call 167;refine(Yu _ _ (by omega) (by omega)).mono ?_;rintro e w'⟨rfl,rfl⟩))
          refine⟨⟨k+1,by omega,by go_num,?_⟩,by simp[intOf];omega⟩;show _=_;rw[l.out,o.out,du m.out]
      · go_wp2_with fail
        all_goals
          go_ret;refine⟨DI ?_,rfl⟩;rw[l.out,afH (by omega)];omega
theorem Tryz.akR:(prog.info? 203).map (fun i=>(i.zero,i.size,i.bytes))=ο (ο (.agg #[.string ByteArray.empty,.int ξ 0]),2,24):=by kernel_rfl
theorem abb{g:Nat}{x y:υ}(b:w.cell? ⟨g,0,ν⟩=ο x)(h1:w.cell? ⟨g,1,ν⟩=ο y):∀j u,[x,y][j]?=ο u->w.cell? ((⟨g,0,ν⟩:Addr).add j)=ο u:=by
 intro j u a
 match j,a with
 |0,a=>simp at a;subst a;simpa [Addr.add]using b
 |1,a=>simp at a;subst a;simpa [Addr.add]using h1
theorem abe(s:ByteArray)(w:ω)(x:s.size<=2000):
  χ prog 70 #[τ s] w fun e w'=>∃v,e=δ v/\w'.ownsRow w.heap.size 203 2 v (Lx.lex s).length (pW (Lx.lex s))/\φ w.heap.size w w':=by
 obtain⟨D,E,r,n,m⟩:=ft Tryz.akR;have t:=R3 (s:=s) (i:=0) ε (by omega);go_enter func70,ntmps70
 go_wp2_with (first|(go_at_call 124;refine(YS s 0 _ x (by omega)).mono ?_;rintro e w'⟨rfl,o⟩;obtain rfl:=o.symm))
 go_loopw [3,4] (fun v g wr=>∃(k:Nat)(l:List Lx.Tk),k<=s.size/\l.length<=k/\g=ι ξ k/\wr.ownsRow w.heap.size 203 2 v l.length (pW l)/\Hid (l++Ag s k=Lx.lex s)/\φ w.heap.size w wr) (fun _ g _=>s.size - (intOf g).toNat)
 case atStart=>exact⟨_,[],t.2,by simp,rfl,eV _ _ _ _,rfl,cV _ _⟩
 case round=>
  obtain⟨k,l,G,F,rfl,c,C,f⟩:=hrel
  by_cases hlt:k<s.size
  ·have d:=agT hlt
   have u:Hid _:=d;clear d;have p:=RL hlt;have z:=R3 (s:=s) (i:=nY s k) ε p.2;have A:=f.size
   go_wp2_with (first
    | (go_at_call 125;refine(af9 s k _ x hlt).mono ?_;rintro e w'⟨rfl,o⟩;obtain rfl:=o.symm)
    | (go_at_call 124;refine(YS s _ _ x p.2).mono ?_;rintro e w'⟨rfl,o⟩;obtain rfl:=o.symm)
    | (at_builtin;refine wpList_append_own _ rfl _ _ 195 rfl w.heap.size 203 D _ 2 24 underlying195 E r n m rfl (by decide) u3 _ _ rfl (c.alloc _) ⟨_,0,ν⟩ 1 1 [.string (s.extract k (nY s k)),.int ξ k] rfl rfl (abb (by simp) (by simp)) (by simp[Value.oneCell']) (by unfold maxLen;omega) (by omega) (by simp;omega) ?_;intro B w1 b a _))
   have j:=(f.alloc A (ζ #[τ (s.extract k (nY s k)),ι ξ k] 203)).grown a (by simp;omega) (fun q y=>(c.lt q y).1);refine⟨⟨jD s (nY s k) ε,l++[(s.extract k (nY s k),k)],z.2,by simp;omega,rfl,?_,?_,j⟩,by simp[intOf];omega⟩
   ·rw[Yt];simpa [pW]using b
   ·show _=_
    rw[<-C.out,u.out];simp[uW]
  ·have A:=f.size
   have d:=agS (s:=s) (i:=k) (by omega);have u:Hid _:=d;clear d
   go_wp2_with (first
    | (at_builtin;refine wpList_append_own _ rfl _ _ 195 rfl w.heap.size 203 D _ 2 24 underlying195 E r n m rfl (by decide) u3 _ _ rfl (c.alloc _) ⟨_,0,ν⟩ 1 1 [.string ⟨#[]⟩,.int ξ k] rfl rfl (abb (by simp) (by simp)) (by simp[Value.oneCell']) (by unfold maxLen;omega) (by omega) (by simp;omega) ?_;intro B w1 b a _))
   have j:=(f.alloc A (ζ #[τ ⟨#[]⟩,ι ξ k] 203)).grown a (by simp;omega) (fun q y=>(c.lt q y).1);go_ret;refine⟨B,rfl,?_,j⟩;rw[<-C.out,u.out,Yt];simpa [pW]using b
section
open Go.RowKit
open Lx (Tk)
theorem ahY(p:Addr)(a:Addr)(len b:Nat)(t:ByteArray)(w:ω)(hp:w.cell? ⟨p.block,p.off,ν⟩=ο (ς (ο ⟨a.block,a.off,ν⟩) len b))(d:0<len)
  (c:w.cell? ⟨a.block,a.off,ν⟩=ο (τ t)) :
  χ prog 127 #[π (ο ⟨p.block,p.off,ν⟩)] w fun e w'=>e=δ (τ t)/\w'=w:=by
 go_enter func127,ntmps127
 go_wp2
 go_ret;exact⟨rfl,rfl⟩
theorem ajl(p:Addr)(a:Addr)(len b:Nat)(w:ω)(hp:w.cell? ⟨p.block,p.off,ν⟩=ο (ς (ο ⟨a.block,a.off,ν⟩) len b))(d:1<len)(f:len<=b)
  (g:w.frozen? ⟨p.block,p.off,ν⟩=ε) :
  χ prog 168 #[π (ο ⟨p.block,p.off,ν⟩)] w fun e w'=>e=δ (θ #[])/\w'=w.setCell ⟨p.block,p.off,ν⟩ (ς (ο ⟨a.block,a.off+2,ν⟩) (len-1) (b-1)):=by
 have c:¬b=1:=by omega
 go_enter func168,ntmps168
 go_wp2
 go_end0
 exact⟨rfl,rfl⟩
def thrown(n a:Nat):List PanicEntry:=[{ v:=.iface 193 (γ #[ι ξ (n:Int),ι ξ (a:Int)]),recovered:=ε }]
theorem ahZ(p:Addr)(a:Addr)(len b:Nat)(t n:Nat)(w:ω)(hp:w.cell? ⟨p.block,p.off,ν⟩=ο (ς (ο ⟨a.block,a.off,ν⟩) len b))(d:0<len)
  (c:w.cell? ⟨a.block,a.off+1,ν⟩=ο (ι ξ t)) :
  χ prog 194 #[π (ο ⟨p.block,p.off,ν⟩),ι ξ n] w fun e w'=>e=.panicked (thrown n t)/\w'=w:=by
 go_enter func194,ntmps194
 go_wp2
 exact⟨rfl,rfl,rfl⟩
structure Rd(sb cap:Nat)(L:List Tk)(p:Nat)(w:ω)(ts:List Tk)(o:Int):Prop where
 wf:Lx.WF ts
 suf:∃pre,L=pre++ts
 J4:L.length<=cap
 sl:w.cell? ⟨p,0,ν⟩=ο (ς (ο ⟨sb,(L.length-ts.length)*2,ν⟩) ts.length (cap - (L.length-ts.length)))
 op:w.cell? ⟨p,1,ν⟩=ο (ι ξ o)
 PO:w.frozen? ⟨p,0,ν⟩=ε
 KF:w.frozen? ⟨p,1,ν⟩=ε
 row:∀j t,L[j]?=ο t->w.cell? ⟨sb,j*2,ν⟩=ο (τ t.1)/\w.cell? ⟨sb,j*2+1,ν⟩=ο (ι ξ (t.2:Int))
 ne:p≠sb
 sz:∀t,t∈L->t.1.size<=2000
 lb:L.length<=2001
section
variable{sb cap:Nat}{L:List Tk}{p:Nat}{w w':ω}{ts:List Tk}{o:Int}
theorem Rd.at(h:Rd sb cap L p w ts o):w.cell? ⟨sb,(L.length-ts.length)*2,ν⟩=ο (τ (Lx.hd ts))/\w.cell? ⟨sb,(L.length-ts.length)*2+1,ν⟩=ο (ι ξ (Lx.pl ts:Int)):=by
 obtain⟨a,b⟩:=h.suf;have c:=h.wf.ne;cases ts with
 |nil=>simp at c
 |cons t r=>
  have e:L.length - (t::r).length=a.length:=by rw[b];simp
  rw[e];exact h.row a.length t (by rw[b];simp)
theorem Rd.hsz(h:Rd sb cap L p w ts o):(Lx.hd ts).size<=2000:=by
 obtain⟨c,a⟩:=h.suf;have b:=h.wf.ne;cases ts with
 |nil=>simp at b
 |cons t r=>exact h.sz t (by rw[a];simp)
theorem Rd.len(h:Rd sb cap L p w ts o):ts.length<=L.length:=by
 obtain⟨b,a⟩:=h.suf;rw[a];simp
theorem Rd.step(h:Rd sb cap L p w ts o)(q:Lx.hd ts≠bP):
  Rd sb cap L p (w.setCell ⟨p,0,ν⟩ (ς (ο ⟨sb,(L.length-ts.length)*2+2,ν⟩) (ts.length-1) (cap - (L.length-ts.length) - 1))) ts.tail o:=by
 obtain⟨b,l⟩:=h.suf;have s:=h.wf.yU;have g:=h.len;have a:=h.ne;refine⟨h.wf.tail q,?_,h.J4,?_,?_,?_,?_,?_,h.ne,h.sz,h.lb⟩
 ·cases ts with
  |nil=>exact absurd h.wf.ne (by simp)
  |cons t r=>exact⟨b++[t],by rw[l];simp⟩
 ·have n:(L.length-ts.tail.length)*2=(L.length-ts.length)*2+2:=by omega
  have m:ts.tail.length=ts.length-1:=by omega
  have i:cap - (L.length-ts.tail.length)=cap - (L.length-ts.length) - 1:=by omega
  rw[n,i,m];exact B9 _ _ _ h.sl
 ·rw[ph]
  ·exact h.op
  ·simp
 ·simpa using h.PO
 ·simpa using h.KF
 ·intro j t k
  have c:∀d f,(⟨p,d,ν⟩:Addr)≠⟨sb,f,ν⟩:=fun d f e=>a (Addr.mk.inj e).1
  rw[ph _ _ _ _ (c _ _),ph _ _ _ _ (c _ _)];exact h.row j t k
theorem Rd.reopen(h:Rd sb cap L p w ts o)(a:Int):Rd sb cap L p (w.setCell ⟨p,1,ν⟩ (ι ξ a)) ts a:=by
 have b:=h.ne;refine⟨h.wf,h.suf,h.J4,?_,B9 _ _ _ h.op,?_,?_,?_,h.ne,h.sz,h.lb⟩
 ·rw[ph]
  ·exact h.sl
  ·simp
 ·simpa using h.PO
 ·simpa using h.KF
 ·intro j t f
  have c:∀a d,(⟨p,a,ν⟩:Addr)≠⟨sb,d,ν⟩:=fun a d e=>b (Addr.mk.inj e).1
  rw[ph _ _ _ _ (c _ _),ph _ _ _ _ (c _ _)];exact h.row j t f
theorem Rd.lt(h:Rd sb cap L p w ts o):p<w.heap.size:=vy _ _ h.sl
theorem Rd.Au(h:Rd sb cap L p w ts o):sb<w.heap.size:=vy _ _ h.at.1
theorem Rd.grown(h:Rd sb cap L p w ts o)(d:w.grownBy w' r)(hp:ο p≠r)(g:ο sb≠r):Rd sb cap L p w' ts o:=by
 have a:=d.block p h.lt hp;have i:=d.block sb h.Au g;refine⟨h.wf,h.suf,h.J4,?_,?_,?_,?_,?_,h.ne,h.sz,h.lb⟩
 ·rw[cQ (w:=w) (by exact a)];exact h.sl
 ·rw[cQ (w:=w) (by exact a)];exact h.op
 ·rw[World.frozen?_of_block (w:=w) (by exact a)];exact h.PO
 ·rw[World.frozen?_of_block (w:=w) (by exact a)];exact h.KF
 ·intro j t f
  have c:∀b,w'.cell? ⟨sb,b,ν⟩=w.cell? ⟨sb,b,ν⟩:=fun b=>cQ (w:=w) i
  rw[c,c];exact h.row j t f
theorem Jf(w:ω)(r:Option Nat):w.grownBy w r:=⟨rfl,rfl,rfl,dv _,fun _ _ _=>rfl⟩
theorem aI{a b c:ω}(h:a.grownBy b r)(k:b.grownBy c r):a.grownBy c r :=
 ⟨k.os.trans h.os,k.tape.trans h.tape,k.output.trans h.output,cY h.size k.size,fun i d f=>(k.block i (dg d h.size) f).trans (h.block i d f)⟩
theorem iO(w:ω)(p:Nat)(o:Nat)(v:υ):w.grownBy (w.setCell ⟨p,o,ν⟩ v) (ο p) :=
 ⟨rfl,rfl,rfl,by simp[World.setCell],fun i _ a=>fy _ _ _ _ (fun e=>a (by rw[e]))⟩
end
theorem nV{b:Nat}{L:List Tk}{a:List Tk}(h:Rd c b L p w a o):
  χ prog 127 #[π (ο ⟨p,0,ν⟩)] w fun e w'=>e=δ (τ (Lx.hd a))/\w'=w :=
 ahY ⟨p,0,ν⟩ ⟨c,(L.length-a.length)*2,ν⟩ _ _ _ w h.sl h.wf.ne h.at.1
theorem ND{b:Nat}{L:List Tk}{a:List Tk}(h:Rd c b L p w a o)(n:Nat):
  χ prog 194 #[π (ο ⟨p,0,ν⟩),ι ξ n] w fun e w'=>e=.panicked (thrown n (Lx.pl a))/\w'=w :=
 ahZ ⟨p,0,ν⟩ ⟨c,(L.length-a.length)*2,ν⟩ _ _ _ _ w h.sl h.wf.ne h.at.2
theorem amf{a:List Tk}(h:Lx.WF a)(b:Lx.hd a≠bP):1<a.length:=by
 have:=(h.tail b).ne;have:=h.yU;omega
theorem DJ{L:List Tk}{b:List Tk}(h:Rd c a L p w b o)(d:Lx.hd b≠bP):
  χ prog 168 #[π (ο ⟨p,0,ν⟩)] w fun e w'=>e=δ (θ #[])/\w.grownBy w' (ο p)/\Rd c a L p w' b.tail o:=by
 have f:=h.len;have g:=h.J4;refine(ajl ⟨p,0,ν⟩ ⟨c,(L.length-b.length)*2,ν⟩ _ _ w h.sl (amf h.wf d) (by omega) h.PO).mono ?_;rintro e w'⟨rfl,rfl⟩;exact⟨rfl,iO _ _ _ _,h.step d⟩
theorem akS(a b:ByteArray):(a.toList == b.toList)=decide (a=b):=by
 rw[ye,ye]
 by_cases h:a=b
 ·subst h;simp
 ·have:a.data.toList≠b.data.toList:=fun e=>h (ul (zr.1 e))
  rw[fx h];exact ej.2 this
theorem xB{L:List Tk}{c:List Tk}(h:Rd d a L p w c o)(b:ByteArray):
  χ prog 130 #[π (ο ⟨p,0,ν⟩),τ b] w fun e w'=>e=δ (μ (decide (Lx.hd c=b)))/\w'=w:=by
 go_enter func130,ntmps130
 go_wp2_with (go_at_call 127;refine(nV h).mono ?_;rintro e w'⟨rfl,f⟩;obtain rfl:=f.symm)
 go_ret;exact⟨iI (akS _ _),rfl⟩
theorem Jh{L:List Tk}{c:List Tk}(h:Rd f a L p w c o)(b:ByteArray)(hd:¬Lx.hd c=b):
  χ prog 170 #[π (ο ⟨p,0,ν⟩),τ b] w fun e w'=>e=δ (μ ε)/\w'=w:=by
 have d:Hid _:=hd;clear hd;go_enter func170,ntmps170
 go_wp2_with (first
  | (go_at_call 130;refine(xB h b).mono ?_;rintro e w'⟨rfl,g⟩;obtain rfl:=g.symm;rw[fx d.out]))
 go_ret;exact⟨rfl,rfl⟩
theorem Nj{L:List Tk}{c:List Tk}(h:Rd f a L p w c o)(b:ByteArray)(g:b≠bP)(hd:Lx.hd c=b):
  χ prog 170 #[π (ο ⟨p,0,ν⟩),τ b] w fun e w'=>e=δ (μ η)/\w.grownBy w' (ο p)/\Rd f a L p w' c.tail o:=by
 have d:Hid _:=hd;clear hd;go_enter func170,ntmps170
 go_wp2_with (first
  | (go_at_call 130;refine(xB h b).mono ?_;rintro e w'⟨rfl,k⟩;obtain rfl:=k.symm;rw[ge d.out])
  | (go_at_call 168;refine(DJ h (by rw[d.out];exact g)).mono ?_;rintro e w'⟨rfl,j,i⟩))
 go_ret;exact⟨rfl,j,i⟩
def Ends(sb cap:Nat)(L:List Tk)(p:Nat)(o:Int){α:Type}(V:ω->υ->α->Prop)(w:ω)(r:fJ α)(e:Ending)(w':ω):Prop :=
 w.grownBy w' (ο p) /\
  match r with
  | .ok (x,ts')=>∃v,e=δ v/\Rd sb cap L p w' ts' o/\V w' v x
  | .error (n,a)=>e=.panicked (thrown n a)
section
variable{sb cap:Nat}{L:List Tk}{p:Nat}{o:Int}{α:Type}{V:ω -> υ -> α -> Prop}{w w':ω}{r:fJ α}{e:Ending}
theorem Ends.yes{x:α}{ts':List Tk}(b:r=.ok (x,ts'))(a:w.grownBy w' (ο p))(h1:Rd sb cap L p w' ts' o)(h2:V w' v x):Ends sb cap L p o V w r (δ v) w':=by
 subst b;exact⟨a,v,rfl,h1,h2⟩
theorem Ends.no(c:r=.error (n,a))(b:w.grownBy w' (ο p)):Ends sb cap L p o V w r (.panicked (thrown n a)) w':=by
 subst c;exact⟨b,rfl⟩
theorem Ends.ok{x:α}{ts':List Tk}(h:Ends sb cap L p o V w r e w')(a:r=.ok (x,ts')):∃v,e=δ v/\w.grownBy w' (ο p)/\Rd sb cap L p w' ts' o/\V w' v x:=by
 subst a;obtain⟨b,v,c,h1,h2⟩:=h;exact⟨v,c,b,h1,h2⟩
theorem Ends.err(h:Ends sb cap L p o V w r e w')(b:r=.error (n,a)):e=.panicked (thrown n a)/\w.grownBy w' (ο p):=by
 subst b;exact⟨h.2,h.1⟩
end
def amR(_:ω)(v:υ)(_:Unit):Prop:=v=θ #[]
def OE(_:ω)(v:υ)(b:ByteArray):Prop:=v=τ b
theorem Nb{L:List Tk}{a:List Tk}(h:Rd k d L p w a o)(b:ByteArray)(l:b≠bP):
  χ prog 172 #[π (ο ⟨p,0,ν⟩),τ b] w (Ends k d L p o amR w (qK b a)):=by
 by_cases hd:Lx.hd a=b
 ·have c:qK b a=.ok ((),a.tail):=du hd
  have g:Hid _:=hd;have f:Hid _:=c;clear hd c;go_enter func172,ntmps172
  go_wp2_with (first
   | (go_at_call 170;refine(Nj h b l g.out).mono ?_;rintro e j⟨rfl,n,m⟩))
  go_end0
  exact Ends.yes f.out n m rfl
 ·have c:qK b a=.error (2,Lx.pl a):=dt hd
  have g:Hid (¬Lx.hd a=b):=hd;have f:Hid _:=c;clear hd c;go_enter func172,ntmps172
  go_wp2_with (first
   | (go_at_call 170;refine(Jh h b g.out).mono ?_;rintro e j⟨rfl,i⟩;obtain rfl:=i.symm)
   | (go_at_call 194;refine(ND h 2).mono ?_;rintro e j⟨rfl,i⟩;obtain rfl:=i.symm))
  exact⟨rfl,Ends.no f.out (Jf _ _)⟩
end
theorem aB{size:Nat}{d:List υ}(h:w.ownsRow base e size v n d):∃a c,v=ς a n c/\n<=maxLen:=by
 rcases h.2 with ⟨rfl,rfl⟩|⟨g,f,b,rfl,_,_,h1,h2,_⟩
 ·exact⟨_,_,rfl,fi _⟩
 ·exact⟨_,_,rfl,cY h1 h2⟩
theorem own_below{size:Nat}{a:List υ}(h:w.ownsRow base e size v n a)(b:φ w.heap.size w w'):w'.ownsRow base e size v n a :=
 ay h fun g c=>b.block g (h.lt g c).2
namespace Lx
def fix(l:List ByteArray)(b:ByteArray):Nat:=l.findIdx fun x=>decide (x=b)
def fM(l:List ByteArray)(b:ByteArray):Int:=if fix l b<l.length then (fix l b:Int) else -1
theorem acp(f:l[j]?=ο b)(d:∀i,i<j->l[i]?≠ο b):fix l b=j:=by
 obtain⟨a,g⟩:=cH.1 f;unfold fix;rw[List.findIdx_eq a];refine⟨by simp[g],fun i c=>?_⟩;have:=d i c;rw[cG (by omega)]at this;simp only[decide_eq_false_iff_not];exact fun e=>this (by rw[e])
theorem amg(a:l[j]?=ο b)(c:∀i,i<j->l[i]?≠ο b):fM l b=(j:Int):=by
 have h:=acp a c;have:=(cH.1 a).1;unfold fM;rw[h,du this]
theorem ah0(l:List ByteArray)(b:ByteArray):-1<=fM l b/\fM l b<l.length:=by
 unfold fM;split <;> omega
theorem pX:0<=fM l b↔b∈l:=by
 unfold fM fix;constructor
 ·intro h
  split at h
  ·rename_i a
   have h1:=ri (w:=a);rw[<-mL h1];exact eJ _
  ·omega
 ·intro h
  rw[du (yp ⟨b,h,by simp⟩)];omega
end Lx
section
open Go.RowKit
open Lx (Tk)
namespace Lx
theorem ZJ(p:Int->Bool)(b:ByteArray):Gh p b=η↔∀j,j<b.size->(p (fV b j) || digit (fV b j))=η:=by
 unfold Gh;rw[ry];constructor
 ·intro h j d
  have a:j<b.data.toList.length:=by simpa using d
  have h1:=h b.data.toList[j] (eJ a);rw[mY b j d];exact h1
 ·intro h c f
  obtain⟨j,d,rfl⟩:=mB f;have a:j<b.size:=by simpa using d
  have h1:=h j a;rw[mY b j a]at h1;exact h1
theorem ZK{p:Int->Bool}(a:0<b.size)(h1:b.size<=12)(h2:p (fV b 0)=η)(h3:∀j,j<b.size->(p (fV b j) || digit (fV b j))=η):isWord p b=η:=by
 unfold isWord;rw[(ZJ p b).2 h3,h2];simp[a,h1]
theorem YD{p:Int->Bool}(a:b.size=0):isWord p b=ε:=by
 unfold isWord;simp[a]
theorem YT{p:Int->Bool}(a:12<b.size):isWord p b=ε:=by
 unfold isWord;simp[show ¬b.size<=12 by omega]
theorem YE{p:Int->Bool}(a:p (fV b 0)=ε):isWord p b=ε:=by
 unfold isWord;simp[a]
theorem Zd{p:Int->Bool}(a:j<b.size)(h1:p (fV b j)=ε)(h2:digit (fV b j)=ε):isWord p b=ε:=by
 have:Gh p b=ε:=by
  cases ha:Gh p b
  ·rfl
  ·have:=(ZJ p b).1 ha j a
   simp[h1,h2]at this
 unfold isWord;simp[this]
end Lx
theorem afh(b:ByteArray)(w:ω)(x:b.size<=2000):
  χ prog 131 #[τ b,.func (.func 132) #[] #[]] w fun e w'=>e=δ (μ (Lx.isWord Lx.small b))/\w'=w:=by
 by_cases h0:b.size=0
 ·have d:=YD (p:=Lx.small) h0
  have n:Hid _:=d;clear d;have s:((b.size:Int) == 0)=η:=t6.2 (by omega);go_enter func131,ntmps131;go_wp2_with fail;go_ret;exact⟨iI n.out.symm,rfl⟩
 have s:((b.size:Int) == 0)=ε:=ej.2 (by omega)
 by_cases h1:12<b.size
 ·have d:=YT (p:=Lx.small) h1
  have n:Hid _:=d;clear d;go_enter func131,ntmps131;go_wp2_with fail;go_ret;exact⟨iI n.out.symm,rfl⟩
 have a:0<b.size:=by omega
 have f:=BG b 0;rw[mY b 0 a]at f;have u:decide (12<(b.size:Int))=ε:=fx (by omega);cases h2:Lx.small (b[0].toNat:Int)
 ·have d:=YE (p:=Lx.small) (b:=b) (by rw[mY b 0 a];exact h2)
  have n:Hid _:=d;have o:Hid _:=h2;clear d h2;go_enter func131,ntmps131
  go_wp2_with (go_at_call 132;refine(Dv _ _ (by omega) (by omega)).mono ?_;rintro e w'⟨rfl,c⟩;obtain rfl:=c.symm;rw[o.out])
  go_ret;exact⟨iI n.out.symm,rfl⟩
 ·have o:Hid _:=h2
  clear h2;go_enter func131,ntmps131
  go_wp2_with (go_at_call 132;refine(Dv _ _ (by omega) (by omega)).mono ?_;rintro e w'⟨rfl,c⟩;obtain rfl:=c.symm;rw[o.out])
  go_loop [23] (fun i=>∃(k:Nat),k<=b.size/\i=ι ξ k/\Hid (∀j,j<k->(Lx.small (fV b j) || Lx.digit (fV b j))=η)) (fun i=>b.size - (intOf i).toNat)
  case atStart=>exact⟨0,by omega,rfl,fun j r=>absurd r (by omega)⟩
  case round=>
   obtain⟨k,v,rfl,t⟩:=hrel
   by_cases hlt:k<b.size
   ·have f:=BG b k
    have g:=mY b k hlt;rw[g]at f;have q:Hid _:=g;clear g;cases h3:Lx.small (b[k].toNat:Int)
    ·have l:Hid _:=h3
     clear h3;cases h4:Lx.digit (b[k].toNat:Int)
     ·have m:Hid _:=h4
      clear h4
      go_wp2_with (first
       | (go_at_call 132;refine(Dv _ _ (by omega) (by omega)).mono ?_;rintro e w'⟨rfl,c⟩;obtain rfl:=c.symm;rw[l.out])
       | (go_at_call 174;refine(Jc _ _ (by omega) (by omega)).mono ?_;rintro e w'⟨rfl,c⟩;obtain rfl:=c.symm;rw[m.out]))
      go_ret;exact⟨iI (Zd hlt (by rw[q.out];exact l.out) (by rw[q.out];exact m.out)).symm,rfl⟩
     ·have m:Hid _:=h4
      clear h4
      go_wp2_with (first
       | (go_at_call 132;refine(Dv _ _ (by omega) (by omega)).mono ?_;rintro e w'⟨rfl,c⟩;obtain rfl:=c.symm;rw[l.out])
       | (go_at_call 174;refine(Jc _ _ (by omega) (by omega)).mono ?_;rintro e w'⟨rfl,c⟩;obtain rfl:=c.symm;rw[m.out]))
      refine⟨⟨k+1,by omega,by go_num,?_⟩,by simp[intOf];omega⟩;intro j r
      by_cases hjk:j=k
      ·subst hjk;rw[q.out,m.out];simp
      ·exact t.out j (by omega)
    ·have l:Hid _:=h3
     clear h3
     go_wp2_with (first
      | (go_at_call 132;refine(Dv _ _ (by omega) (by omega)).mono ?_;rintro e w'⟨rfl,c⟩;obtain rfl:=c.symm;rw[l.out]))
     refine⟨⟨k+1,by omega,by go_num,?_⟩,by simp[intOf];omega⟩;intro j r
     by_cases hjk:j=k
     ·subst hjk;rw[q.out,l.out];simp
     ·exact t.out j (by omega)
   ·go_wp2_with fail
    go_ret;exact⟨iI (ZK a (by omega) (by rw[mY b 0 a];exact o.out) (fun j r=>t.out j (by omega))).symm,rfl⟩
theorem afa(b:ByteArray)(w:ω)(x:b.size<=2000):
  χ prog 131 #[τ b,.func (.func 133) #[] #[]] w fun e w'=>e=δ (μ (Lx.isWord Lx.capital b))/\w'=w:=by
 by_cases h0:b.size=0
 ·have d:=YD (p:=Lx.capital) h0
  have n:Hid _:=d;clear d;have s:((b.size:Int) == 0)=η:=t6.2 (by omega);go_enter func131,ntmps131;go_wp2_with fail;go_ret;exact⟨iI n.out.symm,rfl⟩
 have s:((b.size:Int) == 0)=ε:=ej.2 (by omega)
 by_cases h1:12<b.size
 ·have d:=YT (p:=Lx.capital) h1
  have n:Hid _:=d;clear d;go_enter func131,ntmps131;go_wp2_with fail;go_ret;exact⟨iI n.out.symm,rfl⟩
 have a:0<b.size:=by omega
 have f:=BG b 0;rw[mY b 0 a]at f;have u:decide (12<(b.size:Int))=ε:=fx (by omega);cases h2:Lx.capital (b[0].toNat:Int)
 ·have d:=YE (p:=Lx.capital) (b:=b) (by rw[mY b 0 a];exact h2)
  have n:Hid _:=d;have o:Hid _:=h2;clear d h2;go_enter func131,ntmps131
  go_wp2_with (go_at_call 133;refine(FC _ _ (by omega) (by omega)).mono ?_;rintro e w'⟨rfl,c⟩;obtain rfl:=c.symm;rw[o.out])
  go_ret;exact⟨iI n.out.symm,rfl⟩
 ·have o:Hid _:=h2
  clear h2;go_enter func131,ntmps131
  go_wp2_with (go_at_call 133;refine(FC _ _ (by omega) (by omega)).mono ?_;rintro e w'⟨rfl,c⟩;obtain rfl:=c.symm;rw[o.out])
  go_loop [23] (fun i=>∃(k:Nat),k<=b.size/\i=ι ξ k/\Hid (∀j,j<k->(Lx.capital (fV b j) || Lx.digit (fV b j))=η)) (fun i=>b.size - (intOf i).toNat)
  case atStart=>exact⟨0,by omega,rfl,fun j r=>absurd r (by omega)⟩
  case round=>
   obtain⟨k,v,rfl,t⟩:=hrel
   by_cases hlt:k<b.size
   ·have f:=BG b k
    have g:=mY b k hlt;rw[g]at f;have q:Hid _:=g;clear g;cases h3:Lx.capital (b[k].toNat:Int)
    ·have l:Hid _:=h3
     clear h3;cases h4:Lx.digit (b[k].toNat:Int)
     ·have m:Hid _:=h4
      clear h4
      go_wp2_with (first
       | (go_at_call 133;refine(FC _ _ (by omega) (by omega)).mono ?_;rintro e w'⟨rfl,c⟩;obtain rfl:=c.symm;rw[l.out])
       | (go_at_call 174;refine(Jc _ _ (by omega) (by omega)).mono ?_;rintro e w'⟨rfl,c⟩;obtain rfl:=c.symm;rw[m.out]))
      go_ret;exact⟨iI (Zd hlt (by rw[q.out];exact l.out) (by rw[q.out];exact m.out)).symm,rfl⟩
     ·have m:Hid _:=h4
      clear h4
      go_wp2_with (first
       | (go_at_call 133;refine(FC _ _ (by omega) (by omega)).mono ?_;rintro e w'⟨rfl,c⟩;obtain rfl:=c.symm;rw[l.out])
       | (go_at_call 174;refine(Jc _ _ (by omega) (by omega)).mono ?_;rintro e w'⟨rfl,c⟩;obtain rfl:=c.symm;rw[m.out]))
      refine⟨⟨k+1,by omega,by go_num,?_⟩,by simp[intOf];omega⟩;intro j r
      by_cases hjk:j=k
      ·subst hjk;rw[q.out,m.out];simp
      ·exact t.out j (by omega)
    ·have l:Hid _:=h3
     clear h3
     go_wp2_with (first
      | (go_at_call 133;refine(FC _ _ (by omega) (by omega)).mono ?_;rintro e w'⟨rfl,c⟩;obtain rfl:=c.symm;rw[l.out]))
     refine⟨⟨k+1,by omega,by go_num,?_⟩,by simp[intOf];omega⟩;intro j r
     by_cases hjk:j=k
     ·subst hjk;rw[q.out,l.out];simp
     ·exact t.out j (by omega)
   ·go_wp2_with fail
    go_ret;exact⟨iI (ZK a (by omega) (by rw[mY b 0 a];exact o.out) (fun j r=>t.out j (by omega))).symm,rfl⟩
theorem Dy(b:ByteArray)(w:ω)(a:b.size<=2000):
  χ prog 72 #[τ b] w fun e w'=>e=δ (μ (Lx.isName b))/\w'=w:=by
 go_enter func72,ntmps72
 go_wp2_with (go_at_call 131;refine(afh _ _ a).mono ?_;rintro e w'⟨rfl,c⟩;obtain rfl:=c.symm)
 go_ret;exact⟨rfl,rfl⟩
theorem Nc(b:ByteArray)(w:ω)(a:b.size<=2000):
  χ prog 74 #[τ b] w fun e w'=>e=δ (μ (Lx.isToken b))/\w'=w:=by
 go_enter func74,ntmps74
 go_wp2_with (go_at_call 131;refine(afa _ _ a).mono ?_;rintro e w'⟨rfl,c⟩;obtain rfl:=c.symm)
 go_ret;exact⟨rfl,rfl⟩
end
end Go.Proofs.YtfpjphhnjegnjaaGreatDoor
namespace Go.Proofs
open Go.Shelf
def Tryz.afJ:Go.Shelf.Ren:=⟨fun | 316=>180 | n=>n,fun | 9=>9 | 3=>3 | 4=>4 | 37=>126 | 0=>0 | 127=>269 | 5=>5 | n=>n,fun | n=>n⟩
theorem Tryz.ajm:Go.Proofs.LaysM.n316 prog Tryz.afJ:={
 mixed:=by kernel_rfl
 f316:=func180.trans (congrArg some (by kernel_rfl))
 t0:=underlying0
 a0:=Tryz.isAgg0
 z0:=Tryz.sizeOf0
 v0:=Tryz.zeroValue0
 t3:=underlying3
 a3:=Tryz.isAgg3
 z3:=Tryz.sizeOf3
 v3:=Tryz.zeroValue3
 t4:=underlying4
 a4:=Tryz.isAgg4
 z4:=Tryz.sizeOf4
 v4:=Tryz.zeroValue4
 t9:=underlying9
 a9:=Tryz.isAgg9
 z9:=Tryz.sizeOf9
 v9:=Tryz.zeroValue9
 t37:=underlying126
 a37:=Tryz.isAgg126
 z37:=Tryz.sizeOf126
 v37:=Tryz.zeroValue126
 t127:=underlying269
 a127:=Tryz.isAgg269
 z127:=Tryz.sizeOf269
 v127:=Tryz.zeroValue269
 t5:=underlying5
 a5:=Tryz.isAgg5
 z5:=Tryz.sizeOf5
 v5:=Tryz.zeroValue5
 i0:=by kernel_rfl
 i3:=by kernel_rfl
 i4:=by kernel_rfl
 i5:=by kernel_rfl
 i9:=by kernel_rfl
 i37:=by kernel_rfl
 i127:=by kernel_rfl }
open Go.RowKit in
theorem Tryz.stringslite_Clone(s:ByteArray)(w:World)(a:s.size<=281474976710656):
  Calls prog 180 #[.string s] w fun e w'=>e=.returned (.string s)/\Below w.heap.size w w':=Any.stringslite_Clone Tryz.ajm s w a
end Go.Proofs
namespace Go.Proofs.YtfpjphhnjegnjaaGreatDoor
open Go.Value renaming slice→ς,int→ι,string→τ,pointer→π,bool→μ,agg→γ
open Go.IntKind renaming i64→ξ
open Option renaming none→ν,some→ο
open Go.Ending renaming returned→δ
open Go.Obj renaming cells→ζ
open Bool renaming true→η,false→ε
open Go renaming World→ω,Value→υ,Calls→χ
open Go.RowKit renaming Below→φ
variable{E:Prop}{F:Nat->Prop}{K:Act->ω->Prop}{P:Program}{Q:Exit->Act->ω->Prop}{a c d e i j k p:Nat}{b:ByteArray}{o:Int}{r:Option Nat}{u w w':ω}{v:υ}
namespace Lx
end Lx
open Lx Go.Proofs.Tryz
open Go.RowKit Tr
section
open Go.RowKit
open Lx (Tk)
theorem akT(s:ByteArray)(w:ω)(a:s.size<=281474976710656):
  χ prog 180 #[τ s] w fun e w'=>e=δ (τ s)/\φ w.heap.size w w':=Tryz.stringslite_Clone s w a
theorem Nq(s:ByteArray)(w:ω)(a:s.size<=2000):
  χ prog 139 #[τ s] w fun e w'=>e=δ (τ s)/\φ w.heap.size w w':=by
 go_enter func139,ntmps139
 go_wp2_with (go_at_call 180;refine(akT _ _ (by omega)).mono ?_;rintro e w'⟨rfl,b⟩)
 go_ret;exact⟨rfl,b⟩
theorem I4(h:φ w.heap.size w w')(r:Option Nat):w.grownBy w' r:=⟨h.os,h.tape,h.output,h.size,fun k a _=>h.block k a⟩
theorem Rd.below{L:List Tk}{b:List Tk}(h:Rd c a L p w b o)(d:φ w.heap.size w w'):Rd c a L p w' b o :=
 h.grown (I4 d ν) (by simp) (by simp)
theorem ah1(h:Lx.isName b=η):b≠bP:=by
 intro e;subst e;revert h;decide
theorem agU(h:Lx.isToken b=η):b≠bP:=by
 intro e;subst e;revert h;decide
theorem ZL{L:List Tk}{a:List Tk}(h:Rd k d L p w a o):
  χ prog 193 #[π (ο ⟨p,0,ν⟩),.func (.func 72) #[] #[]] w (Ends k d L p o OE w (jm Lx.isName a)):=by
 have hsz:=h.hsz;cases hd:Lx.isName (Lx.hd a)
 ·have c:jm Lx.isName a=.error (2,Lx.pl a):=dt (by rw[hd];simp)
  have i:Hid _:=hd;have g:Hid _:=c;clear hd c;go_enter func193,ntmps193
  go_wp2_with (first
   | (go_at_call 127;refine(nV h).mono ?_;rintro e f⟨rfl,b⟩;obtain rfl:=b.symm)
   | (go_at_call 72;refine(Dy _ _ hsz).mono ?_;rintro e f⟨rfl,b⟩;obtain rfl:=b.symm;rw[i.out])
   | (go_at_call 194;refine(ND h 2).mono ?_;rintro e f⟨rfl,b⟩;obtain rfl:=b.symm))
  exact⟨rfl,Ends.no g.out (Jf _ _)⟩
 ·have c:jm Lx.isName a=.ok (Lx.hd a,a.tail):=du hd
  have m:Hid (Lx.hd a≠bP):=ah1 hd;have i:Hid _:=hd;have g:Hid _:=c;clear hd c;go_enter func193,ntmps193
  go_wp2_with (first
   | (go_at_call 127;refine(nV h).mono ?_;rintro e f⟨rfl,b⟩;obtain rfl:=b.symm)
   | (go_at_call 72;refine(Dy _ _ hsz).mono ?_;rintro e f⟨rfl,b⟩;obtain rfl:=b.symm;rw[i.out])
   | (go_at_call 168;refine(DJ h m.out).mono ?_;rintro e w1⟨rfl,n,l⟩)
   | (go_at_call 139;refine(Nq _ _ hsz).mono ?_;rintro e w2⟨rfl,j⟩))
  go_ret;exact Ends.yes g.out (aI n (I4 j _)) (l.below j) rfl
theorem abf{L:List Tk}{d:List Tk}(h:Rd k c L p w d o):
  χ prog 171 #[π (ο ⟨p,0,ν⟩)] w (Ends k c L p o OE w (jm Lx.isName d)):=by
 cases hr:jm Lx.isName d with
 |error x=>
  obtain⟨n,a⟩:=x;have g:Hid _:=hr;clear hr;go_enter func171,ntmps171
  go_wp2_with (go_at_call 193;refine(ZL h).mono ?_;intro e l j;obtain⟨rfl,f⟩:=j.err g.out)
  exact⟨rfl,Ends.no rfl f⟩
 |ok x=>
  obtain⟨b,m⟩:=x;have g:Hid _:=hr;clear hr;go_enter func171,ntmps171
  go_wp2_with (go_at_call 193;refine(ZL h).mono ?_;intro e l j;obtain⟨v,rfl,f,i,rfl⟩:=j.ok g.out)
  go_ret;exact Ends.yes rfl f i rfl
theorem Ze{L:List Tk}{a:List Tk}(h:Rd k d L p w a o):
  χ prog 193 #[π (ο ⟨p,0,ν⟩),.func (.func 74) #[] #[]] w (Ends k d L p o OE w (jm Lx.isToken a)):=by
 have hsz:=h.hsz;cases hd:Lx.isToken (Lx.hd a)
 ·have c:jm Lx.isToken a=.error (2,Lx.pl a):=dt (by rw[hd];simp)
  have i:Hid _:=hd;have g:Hid _:=c;clear hd c;go_enter func193,ntmps193
  go_wp2_with (first
   | (go_at_call 127;refine(nV h).mono ?_;rintro e f⟨rfl,b⟩;obtain rfl:=b.symm)
   | (go_at_call 74;refine(Nc _ _ hsz).mono ?_;rintro e f⟨rfl,b⟩;obtain rfl:=b.symm;rw[i.out])
   | (go_at_call 194;refine(ND h 2).mono ?_;rintro e f⟨rfl,b⟩;obtain rfl:=b.symm))
  exact⟨rfl,Ends.no g.out (Jf _ _)⟩
 ·have c:jm Lx.isToken a=.ok (Lx.hd a,a.tail):=du hd
  have m:Hid (Lx.hd a≠bP):=agU hd;have i:Hid _:=hd;have g:Hid _:=c;clear hd c;go_enter func193,ntmps193
  go_wp2_with (first
   | (go_at_call 127;refine(nV h).mono ?_;rintro e f⟨rfl,b⟩;obtain rfl:=b.symm)
   | (go_at_call 74;refine(Nc _ _ hsz).mono ?_;rintro e f⟨rfl,b⟩;obtain rfl:=b.symm;rw[i.out])
   | (go_at_call 168;refine(DJ h m.out).mono ?_;rintro e w1⟨rfl,n,l⟩)
   | (go_at_call 139;refine(Nq _ _ hsz).mono ?_;rintro e w2⟨rfl,j⟩))
  go_ret;exact Ends.yes g.out (aI n (I4 j _)) (l.below j) rfl
theorem BI{L:List Tk}{d:List Tk}(h:Rd k c L p w d o):
  χ prog 169 #[π (ο ⟨p,0,ν⟩)] w (Ends k c L p o OE w (jm Lx.isToken d)):=by
 cases hr:jm Lx.isToken d with
 |error x=>
  obtain⟨n,a⟩:=x;have g:Hid _:=hr;clear hr;go_enter func169,ntmps169
  go_wp2_with (go_at_call 193;refine(Ze h).mono ?_;intro e l j;obtain⟨rfl,f⟩:=j.err g.out)
  exact⟨rfl,Ends.no rfl f⟩
 |ok x=>
  obtain⟨b,m⟩:=x;have g:Hid _:=hr;clear hr;go_enter func169,ntmps169
  go_wp2_with (go_at_call 193;refine(Ze h).mono ?_;intro e l j;obtain⟨v,rfl,f,i,rfl⟩:=j.ok g.out)
  go_ret;exact Ends.yes rfl f i rfl
end
section
open Go.RowKit
open Lx (Tk)
theorem Ae{a:ByteArray}{l:List UInt8}(h:a≠⟨l.toArray⟩):(a.toList == l)=ε:=by
 rw[ye];exact ej.2 fun e=>h (ul (by rw[<-e]))
theorem Tg{L:List Tk}{a:List Tk}(h:Rd k j L p w a o):
  χ prog 228 #[π (ο ⟨p,0,ν⟩)] w fun e w'=>e=δ (ι .u8 ((jc a).1:Int))/\w.grownBy w' (ο p)/\Rd k j L p w' (jc a).2 o:=by
 by_cases h1:Lx.hd a=adk
 ·have b:Hid (jc a=(42,a.tail)):=du h1
  have g:Hid (Lx.hd a≠bP):=by rw[h1];show _≠_;decide
  have d:Hid (Lx.hd a=⟨#[42]⟩):=h1;clear h1;go_enter func228,ntmps228
  go_wp2_with (first
   | (go_at_call 127;refine(nV h).mono ?_;rintro e w'⟨rfl,c⟩;obtain rfl:=c.symm;rw[d.out])
   | (go_at_call 168;refine(DJ h g.out).mono ?_;rintro e w1⟨rfl,i,f⟩))
  go_ret;rw[b.out];exact⟨rfl,i,f⟩
 by_cases h2:Lx.hd a=adl
 ·have b:Hid (jc a=(43,a.tail)):=by show _=_;unfold jc;rw[dt h1,du h2]
  have g:Hid (Lx.hd a≠bP):=by rw[h2];show _≠_;decide
  have d:Hid (Lx.hd a=⟨#[43]⟩):=h2;clear h1 h2;go_enter func228,ntmps228
  go_wp2_with (first
   | (go_at_call 127;refine(nV h).mono ?_;rintro e w'⟨rfl,c⟩;obtain rfl:=c.symm;rw[d.out])
   | (go_at_call 168;refine(DJ h g.out).mono ?_;rintro e w1⟨rfl,i,f⟩))
  go_ret;rw[b.out];exact⟨rfl,i,f⟩
 by_cases h3:Lx.hd a=adR
 ·have b:Hid (jc a=(63,a.tail)):=by show _=_;unfold jc;rw[dt h1,dt h2,du h3]
  have g:Hid (Lx.hd a≠bP):=by rw[h3];show _≠_;decide
  have d:Hid (Lx.hd a=⟨#[63]⟩):=h3;clear h1 h2 h3;go_enter func228,ntmps228
  go_wp2_with (first
   | (go_at_call 127;refine(nV h).mono ?_;rintro e w'⟨rfl,c⟩;obtain rfl:=c.symm;rw[d.out])
   | (go_at_call 168;refine(DJ h g.out).mono ?_;rintro e w1⟨rfl,i,f⟩))
  go_ret;rw[b.out];exact⟨rfl,i,f⟩
 have b:Hid (jc a=(0,a)):=by show _=_;unfold jc;rw[dt h1,dt h2,dt h3]
 have g1:=Ae h1;have g2:=Ae h2;have l:=Ae h3;clear h1 h2 h3;go_enter func228,ntmps228
 go_wp2_with (first
  | (go_at_call 127;refine(nV h).mono ?_;rintro e w'⟨rfl,c⟩;obtain rfl:=c.symm))
 go_ret;rw[b.out];exact⟨rfl,Jf _ _,h⟩
theorem Ja(b:ByteArray)(w:ω):
  χ prog 126 #[τ b] w fun e w'=>e=δ (ι ξ (lZ b))/\w'=w:=by
 by_cases h1:b=Ur
 ·subst h1
  unfold Ur;go_enter func126,ntmps126
  go_wp2
  go_ret;exact⟨rfl,rfl⟩
 by_cases h2:b=TY
 ·subst h2
  unfold TY;go_enter func126,ntmps126
  go_wp2
  go_ret;exact⟨rfl,rfl⟩
 by_cases h3:b=Us
 ·subst h3
  unfold Us;go_enter func126,ntmps126
  go_wp2
  go_ret;exact⟨rfl,rfl⟩
 have a:Hid (lZ b=-1):=by show _=_;unfold lZ;rw[dt h1,dt h2,dt h3]
 have g1:=Ae h1;have g2:=Ae h2;have c:=Ae h3;clear h1 h2 h3;go_enter func126,ntmps126
 go_wp2
 go_ret;rw[a.out];exact⟨rfl,rfl⟩
theorem Jd{g:Nat}{L:List Tk}{b:List Tk}(h:Rd i g L p w b o):
  χ prog 212 #[π (ο ⟨p,0,ν⟩)] w fun e w'=>e=δ (μ (wX b))/\w'=w:=by
 have hsz:=h.hsz;cases h1:decide (Lx.hd b=p9)
 ·cases h2:Lx.isName (Lx.hd b)
  ·have d:Hid (wX b=Lx.isToken (Lx.hd b)):=by show _=_;unfold wX;rw[h1,h2];simp
   have c:Hid _:=h1;have f:Hid _:=h2;clear h1 h2;go_enter func212,ntmps212
   go_wp2_with (first
    | (go_at_call 127;refine(nV h).mono ?_;rintro e w'⟨rfl,a⟩;obtain rfl:=a.symm)
    | (go_at_call 130;refine(xB h p9).mono ?_;rintro e w'⟨rfl,a⟩;obtain rfl:=a.symm;rw[c.out])
    | (go_at_call 72;refine(Dy _ _ hsz).mono ?_;rintro e w'⟨rfl,a⟩;obtain rfl:=a.symm;rw[f.out])
    | (go_at_call 74;refine(Nc _ _ hsz).mono ?_;rintro e w'⟨rfl,a⟩;obtain rfl:=a.symm))
   go_ret;rw[d.out];exact⟨rfl,rfl⟩
  ·have d:Hid (wX b=η):=by show _=_;unfold wX;rw[h1,h2];simp
   have c:Hid _:=h1;have f:Hid _:=h2;clear h1 h2;go_enter func212,ntmps212
   go_wp2_with (first
    | (go_at_call 127;refine(nV h).mono ?_;rintro e w'⟨rfl,a⟩;obtain rfl:=a.symm)
    | (go_at_call 130;refine(xB h p9).mono ?_;rintro e w'⟨rfl,a⟩;obtain rfl:=a.symm;rw[c.out])
    | (go_at_call 72;refine(Dy _ _ hsz).mono ?_;rintro e w'⟨rfl,a⟩;obtain rfl:=a.symm;rw[f.out]))
   go_ret;rw[d.out];exact⟨rfl,rfl⟩
 ·have d:Hid (wX b=η):=by show _=_;unfold wX;rw[h1];simp
  have c:Hid _:=h1;clear h1;go_enter func212,ntmps212
  go_wp2_with (first
   | (go_at_call 130;refine(xB h p9).mono ?_;rintro e w'⟨rfl,a⟩;obtain rfl:=a.symm;rw[c.out]))
  go_ret;rw[d.out];exact⟨rfl,rfl⟩
end
section
open Go.RowKit
open Lx (Tk)
open Tr
def YP:Lay:={ eA:=311,sA:=2,cA:=fun q=>[q.1,.string q.2.2.1],eI:=303,sI:=4,cI:=fun q=>[.int ξ (q.2.kind:Int),.string q.2.name,.int .u8 (q.2.mark:Int),q.1] }
def Gi(d lo:Nat)(w':ω)(v:υ)(l:List Lx.Alt):Prop:=fu YP d (In lo w'.heap.size) w' v l
def OG(d lo:Nat)(w':ω)(v:υ)(it:Lx.It):Prop:=∃va,v=γ #[ι ξ (it.kind:Int),τ it.name,ι .u8 (it.mark:Int),va]/\fu YP d (In lo w'.heap.size) w' va it.alts
def ano(d lo:Nat)(w':ω)(v:υ)(a:Lx.Alt):Prop:=∃vi,v=γ #[vi,τ a.2.1]/\rE YP d (In lo w'.heap.size) w' vi a.1
def Sz(d:Nat):Prop:=∀(sb cap:Nat)(L:List Tk)(p:Nat)(w:ω)(ts:List Tk)(o:Int),o=8 - (d:Int)->Rd sb cap L p w ts o ->
 χ prog 173 #[π (ο ⟨p,0,ν⟩)] w (Ends sb cap L p o (Gi (d+1) w.heap.size) w (tC d ts))
def Nr(d:Nat):Prop:=∀(sb cap:Nat)(L:List Tk)(p:Nat)(w:ω)(ts:List Tk)(o:Int),o=8 - (d:Int)->Rd sb cap L p w ts o->Lx.hd ts=p9 ->
 χ prog 227 #[π (ο ⟨p,0,ν⟩)] w (Ends sb cap L p o (Gi d w.heap.size) w (iH d ts))
def aaB(d:Nat):Prop:=∀(sb cap:Nat)(L:List Tk)(p:Nat)(w:ω)(ts:List Tk)(o:Int),o=8 - (d:Int)->Rd sb cap L p w ts o->wX ts=η ->
 χ prog 213 #[π (ο ⟨p,0,ν⟩)] w (Ends sb cap L p o (OG d w.heap.size) w (qb (iH d) ts))
def abg(d:Nat):Prop:=∀(sb cap:Nat)(L:List Tk)(p:Nat)(w:ω)(ts:List Tk)(o:Int),o=8 - (d:Int)->Rd sb cap L p w ts o ->
 χ prog 195 #[π (ο ⟨p,0,ν⟩)] w (Ends sb cap L p o (ano d w.heap.size) w (qd (iH d) (d == 8) ts))
theorem Gi.move{d c lo':Nat}{w w':ω}{v:υ}{l:List Lx.Alt}(h:Gi d c w v l)(f:lo'<=c){r:Option Nat}(g:w.grownBy w' r)(i:∀k,r=ο k->k<c):Gi d lo' w' v l :=
 fu.move (fun b a=>g.block b a.2 fun e=>by have:=i b e.symm;have:=a.1;omega) (fun b a=>⟨cY f a.1,dg a.2 g.size⟩) h
theorem agV:Nr 0:=by
 intro j d L p w g o a h hd;have b:=h.op;have i:=t6.2 (by simpa using a);have f:Hid _:=a;have l:Hid _:=hd;clear a hd;go_enter func227,ntmps227;go_wp2_with fail;refine(ND h 3).mono ?_;rintro e k⟨rfl,c⟩;obtain rfl:=c.symm;go_wp2_with fail;exact⟨rfl,Ends.no rfl (Jf _ _)⟩
theorem agW(M:d<8)(F:Sz d):Nr (d+1):=by
 intro B y L p w r o Q h hd;have H:=h.op;have D:=h.KF;have V:(o == 8)=ε:=ej.2 (by omega);have C:0<=o:=by omega
 have A:o<=8:=by omega
 have K:Hid (o+1=8 - (d:Int)):=by show _=_;omega
 have U:Hid _:=hd;have G:Hid (qK p9 r=.ok ((),r.tail)):=du hd;clear Q hd;have S:=h.reopen (o+1);go_enter func227,ntmps227;go_wp2_with fail;refine(Nb S p9 (by decide)).mono ?_;intro e w1 b;obtain⟨v,rfl,t,m,rfl⟩:=b.ok G.out;clear b;go_wp2_with fail;refine(F B y L p _ _ _ K.out m).mono ?_;intro e w2 b;have G1:=aI (iO w p 1 (ι ξ (o+1))) t;cases hr2:tC d r.tail with
 |error x=>
  obtain⟨n,a⟩:=x;obtain⟨rfl,f⟩:=b.err hr2;exact⟨rfl,Ends.no (by simp only[iH,DT,hr2]) (aI G1 f)⟩
 |ok x=>
  obtain⟨l,N⟩:=x;obtain⟨v,rfl,f,I,E⟩:=b.ok hr2;have g:Hid _:=hr2;clear hr2 b;go_wp2_with fail;refine(Nb I OD (by decide)).mono ?_;intro e z b;have G2:=aI G1 f;cases hr3:qK OD N with
  |error x=>
   obtain⟨n,a⟩:=x;obtain⟨rfl,c⟩:=b.err hr3;exact⟨rfl,Ends.no (by simp only[iH,DT,g.out,hr3]) (aI G2 c)⟩
  |ok x=>
   obtain⟨u,J⟩:=x;obtain⟨T,rfl,c,j,rfl⟩:=b.ok hr3;have i:Hid _:=hr3;clear hr3 b;have O:=aI G2 c;have P:=j.op;have R:=j.KF;go_wp2_with fail;go_ret;refine Ends.yes (x:=l) (ts':=J) (by simp only[iH,DT,g.out,i.out]) (aI O (iO z p 1 _)) (j.reopen o) ?_;have s:=G1.size;have hp:=h.lt;exact(E.move s c (fun k q=>by cases q;omega)).move (dv _) (iO z p 1 _) (fun k q=>by cases q;omega)
end
section
open Go.RowKit
open Lx (Tk)
open Tr
def aj(w:ω)(b:Nat)(cs:Array υ)(e:Nat):Prop:=w.heap[b]?=ο (ζ cs e (0,0))
section
variable{w w':ω}{b:Nat}{cs:Array υ}{e:Nat}
theorem aj.cell(h:aj w b cs e)(i:Nat):w.cell? ⟨b,i,ν⟩=cs[i]?:=by
 unfold aj at h;simp[World.cell?,h]
theorem aj.frozen(h:aj w b cs e)(i:Nat):w.frozen? ⟨b,i,ν⟩=ε:=by
 unfold aj at h;simp[World.frozen?,h]
theorem aj.lt(h:aj w b cs e):b<w.heap.size:=(ei.1 h).1
theorem aj.set(h:aj w b cs e)(i:Nat)(v:υ):aj (w.setCell ⟨b,i,ν⟩ v) b (cs.setIfInBounds i v) e:=by
 unfold aj at *;simp[World.setCell,Array.getElem?_modify,h]
theorem aj.other(h:aj w b cs e){b':Nat}(a:b'≠b)(v:υ):aj (w.setCell ⟨b',i,ν⟩ v) b cs e:=by
 unfold aj at *;rw[fy _ _ _ _ (yn a)];exact h
theorem aj.alloc(h:aj w b cs e)(o:Obj):aj (w.alloc o) b cs e:=by
 have a:=h.lt;unfold aj at *;rw[ed _ _ _ a];exact h
theorem aj.new(w:ω)(cs:Array υ)(e:Nat):aj (w.alloc (ζ cs e)) w.heap.size cs e:=py w _
theorem aj.grown(h:aj w b cs e)(c:w.grownBy w' r)(d:ο b≠r):aj w' b cs e:=by
 have a:=h.lt;unfold aj at *;rw[c.block b a d];exact h
variable{x z0 z1 z2 z3 z4 z5 z6 z7:υ}{l:List υ}
theorem aj.go{B:Nat}(h:aj w b cs e)(a:φ B w w')(c:b<B):aj w' b cs e:=(a.block _ c).trans h
theorem aj.on(h:aj w b cs e)(a:φ w.heap.size w w'):aj w' b cs e:=h.go a h.lt
theorem aj.a0(h:aj w b (x::l).toArray e):w.cell? ⟨b,0,ν⟩=ο x:=h.cell 0
theorem aj.a1(h:aj w b (z0::x::l).toArray e):w.cell? ⟨b,1,ν⟩=ο x:=h.cell 1
theorem aj.a2(h:aj w b (z0::z1::x::l).toArray e):w.cell? ⟨b,2,ν⟩=ο x:=h.cell 2
theorem aj.a3(h:aj w b (z0::z1::z2::x::l).toArray e):w.cell? ⟨b,3,ν⟩=ο x:=h.cell 3
theorem aj.a4(h:aj w b (z0::z1::z2::z3::x::l).toArray e):w.cell? ⟨b,4,ν⟩=ο x:=h.cell 4
theorem aj.a5(h:aj w b (z0::z1::z2::z3::z4::x::l).toArray e):w.cell? ⟨b,5,ν⟩=ο x:=h.cell 5
theorem aj.a6(h:aj w b (z0::z1::z2::z3::z4::z5::x::l).toArray e):w.cell? ⟨b,6,ν⟩=ο x:=h.cell 6
theorem aj.a7(h:aj w b (z0::z1::z2::z3::z4::z5::z6::x::l).toArray e):w.cell? ⟨b,7,ν⟩=ο x:=h.cell 7
theorem aj.a8(h:aj w b (z0::z1::z2::z3::z4::z5::z6::z7::x::l).toArray e):w.cell? ⟨b,8,ν⟩=ο x:=h.cell 8
theorem aM(w:ω)(o:Obj)(r:Option Nat):w.grownBy (w.alloc o) r:=sg w o r
end
theorem Rd.alloc{d a:Nat}{L:List Tk}{p:Nat}{w:ω}{c:List Tk}{o:Int}(h:Rd d a L p w c o)(b:Obj):Rd d a L p (w.alloc b) c o :=
 h.grown (aM w b ν) (by simp) (by simp)
theorem Rd.setOther{L:List Tk}{d:List Tk}(h:Rd c a L p w d o){b:Nat}(i:Nat)(v:υ)(hp:b≠p)(f:b≠c):Rd c a L p (w.setCell ⟨b,i,ν⟩ v) d o :=
 h.grown (iO w b i v) (by simp;exact yn hp) (by simp;exact yn f)
theorem eG(h:w.grownBy u r){b:Nat}(d:w.heap.size<=b)(i:Nat)(v:υ):w.grownBy (u.setCell ⟨b,i,ν⟩ v) r :=
 ⟨h.os,h.tape,h.output,by have:=h.size;simpa [World.setCell]using this,fun k a c=>(fy _ _ _ _ (fun e=>by have f:k=b:=e;omega)).trans (h.block k a c)⟩
theorem ah2(y r:Nat)(L:List Tk)(p:Nat)(w:ω)(a:List Tk)(o:Int)(h:Rd y r L p w a o)(g:¬Lx.hd a=p9)(s:Lx.isName (Lx.hd a)=η):
  χ prog 213 #[π (ο ⟨p,0,ν⟩)] w (Ends y r L p o (OG d w.heap.size) w (qb (iH d) a)):=by
 have hsz:=h.hsz;have I:Hid (qb (iH d) a=.ok (⟨0,Lx.hd a,(jc a.tail).1,[],Lx.pl a⟩,(jc a.tail).2)):=by
  show _=_;unfold qb;rw[dt g,du s]
 have N:Hid (jm Lx.isName a=.ok (Lx.hd a,a.tail)):=du s;have G:Hid _:=s;have J:Hid _:=g;clear s g;have h2:=(h.alloc (ζ #[ι ξ 0,τ ⟨#[]⟩,ι .u8 0,ς ν 0 0] 303)).alloc (ζ #[ι ξ 0,τ ⟨#[]⟩,ι .u8 0,ς ν 0 0] 303);have kB:=(aj.new w #[ι ξ 0,τ ⟨#[]⟩,ι .u8 0,ς ν 0 0] 303).alloc (ζ #[ι ξ 0,τ ⟨#[]⟩,ι .u8 0,ς ν 0 0] 303);have t:=aj.new (w.alloc (ζ #[ι ξ 0,τ ⟨#[]⟩,ι .u8 0,ς ν 0 0] 303)) #[ι ξ 0,τ ⟨#[]⟩,ι .u8 0,ς ν 0 0] 303;have C:=aI (aM w (ζ #[ι ξ 0,τ ⟨#[]⟩,ι .u8 0,ς ν 0 0] 303) (ο p)) (aM _ (ζ #[ι ξ 0,τ ⟨#[]⟩,ι .u8 0,ς ν 0 0] 303) (ο p));rw[show (w.alloc (ζ #[ι ξ 0,τ ⟨#[]⟩,ι .u8 0,ς ν 0 0] 303)).heap.size=w.heap.size+1 by simp]at t;have hp:=h.lt;have Q:=h.Au;go_enter func213,ntmps213
 go_wp2_with (first
  | (go_at_call 127;refine(nV h2).mono ?_;rintro e B⟨rfl,k⟩;obtain rfl:=k.symm)
  | (go_at_call 130;refine(xB h2 p9).mono ?_;rintro e B⟨rfl,k⟩;obtain rfl:=k.symm;rw[fx J.out])
  | (go_at_call 72;refine(Dy _ _ hsz).mono ?_;rintro e B⟨rfl,k⟩;obtain rfl:=k.symm;rw[G.out]))
 refine(abf h2).mono ?_;intro e w1 z;obtain⟨v,rfl,j,x,rfl⟩:=z.ok N.out;clear z;have q:=kB.grown j (by simp;omega);have l:=t.grown j (by simp;omega);have M:=l.a0;have F:=l.a1;have K:=l.frozen;have h3:=(x.setOther (b:=w.heap.size+1) 0 (ι ξ 0) (by omega) (by omega)).setOther (b:=w.heap.size+1) 1 (τ (Lx.hd a)) (by omega) (by omega);have m:=(q.other (b':=w.heap.size+1) (i:=0) (by omega) (ι ξ 0)).other (b':=w.heap.size+1) (i:=1) (by omega) (τ (Lx.hd a));have A:=(l.set 0 (ι ξ 0)).set 1 (τ (Lx.hd a));have G1:=aI C j;clear q l kB t;go_wp2_with fail;refine(Tg h3).mono ?_;rintro e w2⟨rfl,f,u⟩;have c:=m.grown f (by simp;omega);have n:=A.grown f (by simp;omega);have R:=n.a0;have d1:=n.a1;have d2:=n.a2;have P:=n.a3;have O:=c.a0;have H:=c.a1;have D:=c.a2;have E:=c.a3;have f1:=n.frozen;have f2:=c.frozen;have G2:=aI (eG (eG G1 (by omega) 0 (ι ξ 0)) (by omega) 1 (τ (Lx.hd a))) f;clear m A M F K;go_wp2_with fail;refine iS (v:=γ #[ι ξ 0,τ (Lx.hd a),ι .u8 ((jc a.tail).1:Int),ς ν 0 0]) (by simp[results,results213,go_sem,O,H,D,E]) rfl ?_;refine Ends.yes I.out (eG (eG (eG (eG (eG G2 (by omega) _ _) (dv _) _ _) (dv _) _ _) (dv _) _ _) (dv _) _ _) ?_ ⟨_,rfl,fu.nil _ _ _ _⟩;exact((((u.setOther _ _ (by omega) (by omega)).setOther _ _ (by omega) (by omega)).setOther _ _ (by omega) (by omega)).setOther _ _ (by omega) (by omega)).setOther _ _ (by omega) (by omega)
theorem agX(z s:Nat)(L:List Tk)(p:Nat)(w:ω)(a:List Tk)(o:Int)(h:Rd z s L p w a o)(j:¬Lx.hd a=p9)(f:Lx.isName (Lx.hd a)=ε)(t:Lx.isToken (Lx.hd a)=η):
  χ prog 213 #[π (ο ⟨p,0,ν⟩)] w (Ends z s L p o (OG d w.heap.size) w (qb (iH d) a)):=by
 have hsz:=h.hsz;have I:Hid (qb (iH d) a=.ok (⟨1,Lx.hd a,(jc a.tail).1,[],Lx.pl a⟩,(jc a.tail).2)):=by
  show _=_;unfold qb;rw[dt j,dt (by rw[f];simp),du t]
 have O:Hid (jm Lx.isToken a=.ok (Lx.hd a,a.tail)):=du t;have R:Hid _:=t;have J:Hid _:=j;have K:Hid _:=f;clear t j f;have h2:=(h.alloc (ζ #[ι ξ 0,τ ⟨#[]⟩,ι .u8 0,ς ν 0 0] 303)).alloc (ζ #[ι ξ 0,τ ⟨#[]⟩,ι .u8 0,ς ν 0 0] 303);have kB:=(aj.new w #[ι ξ 0,τ ⟨#[]⟩,ι .u8 0,ς ν 0 0] 303).alloc (ζ #[ι ξ 0,τ ⟨#[]⟩,ι .u8 0,ς ν 0 0] 303);have u:=aj.new (w.alloc (ζ #[ι ξ 0,τ ⟨#[]⟩,ι .u8 0,ς ν 0 0] 303)) #[ι ξ 0,τ ⟨#[]⟩,ι .u8 0,ς ν 0 0] 303;have D:=aI (aM w (ζ #[ι ξ 0,τ ⟨#[]⟩,ι .u8 0,ς ν 0 0] 303) (ο p)) (aM _ (ζ #[ι ξ 0,τ ⟨#[]⟩,ι .u8 0,ς ν 0 0] 303) (ο p));rw[show (w.alloc (ζ #[ι ξ 0,τ ⟨#[]⟩,ι .u8 0,ς ν 0 0] 303)).heap.size=w.heap.size+1 by simp]at u;have hp:=h.lt;have S:=h.Au;go_enter func213,ntmps213
 go_wp2_with (first
  | (go_at_call 127;refine(nV h2).mono ?_;rintro e C⟨rfl,l⟩;obtain rfl:=l.symm)
  | (go_at_call 130;refine(xB h2 p9).mono ?_;rintro e C⟨rfl,l⟩;obtain rfl:=l.symm;rw[fx J.out])
  | (go_at_call 72;refine(Dy _ _ hsz).mono ?_;rintro e C⟨rfl,l⟩;obtain rfl:=l.symm;rw[K.out]))
 refine(BI h2).mono ?_;intro e w1 A;obtain⟨v,rfl,k,y,rfl⟩:=A.ok O.out;clear A;have r:=kB.grown k (by simp;omega);have m:=u.grown k (by simp;omega);have N:=m.a0;have G:=m.a1;have M:=m.frozen;have h3:=(y.setOther (b:=w.heap.size+1) 0 (ι ξ 1) (by omega) (by omega)).setOther (b:=w.heap.size+1) 1 (τ (Lx.hd a)) (by omega) (by omega);have n:=(r.other (b':=w.heap.size+1) (i:=0) (by omega) (ι ξ 1)).other (b':=w.heap.size+1) (i:=1) (by omega) (τ (Lx.hd a));have B:=(m.set 0 (ι ξ 1)).set 1 (τ (Lx.hd a));have G1:=aI D k;clear r m kB u;go_wp2_with fail;refine(Tg h3).mono ?_;rintro e w2⟨rfl,g,x⟩;have c:=n.grown g (by simp;omega);have q:=B.grown g (by simp;omega);have T:=q.a0;have d1:=q.a1;have d2:=q.a2;have Q:=q.a3;have P:=c.a0;have H:=c.a1;have E:=c.a2;have F:=c.a3;have f1:=q.frozen;have f2:=c.frozen;have G2:=aI (eG (eG G1 (by omega) 0 (ι ξ 1)) (by omega) 1 (τ (Lx.hd a))) g;clear n B N G M;go_wp2_with fail;refine iS (v:=γ #[ι ξ 1,τ (Lx.hd a),ι .u8 ((jc a.tail).1:Int),ς ν 0 0]) (by simp[results,results213,go_sem,P,H,E,F]) rfl ?_;refine Ends.yes I.out (eG (eG (eG (eG (eG G2 (by omega) _ _) (dv _) _ _) (dv _) _ _) (dv _) _ _) (dv _) _ _) ?_ ⟨_,rfl,fu.nil _ _ _ _⟩;exact((((x.setOther _ _ (by omega) (by omega)).setOther _ _ (by omega) (by omega)).setOther _ _ (by omega) (by omega)).setOther _ _ (by omega) (by omega)).setOther _ _ (by omega) (by omega)
theorem agY(P:Nr d)(F t:Nat)(L:List Tk)(p:Nat)(w:ω)(r:List Tk)(o:Int)(O:o=8 - (d:Int))(h:Rd F t L p w r o)(M:Lx.hd r=p9):
  χ prog 213 #[π (ο ⟨p,0,ν⟩)] w (Ends F t L p o (OG d w.heap.size) w (qb (iH d) r)):=by
 have D:Hid _:=M;have Y:Hid _:=O;clear M O;have h2:=(h.alloc (ζ #[ι ξ 0,τ ⟨#[]⟩,ι .u8 0,ς ν 0 0] 303)).alloc (ζ #[ι ξ 0,τ ⟨#[]⟩,ι .u8 0,ς ν 0 0] 303);have kB:=(aj.new w #[ι ξ 0,τ ⟨#[]⟩,ι .u8 0,ς ν 0 0] 303).alloc (ζ #[ι ξ 0,τ ⟨#[]⟩,ι .u8 0,ς ν 0 0] 303);have H:=aj.new (w.alloc (ζ #[ι ξ 0,τ ⟨#[]⟩,ι .u8 0,ς ν 0 0] 303)) #[ι ξ 0,τ ⟨#[]⟩,ι .u8 0,ς ν 0 0] 303;have K:=aI (aM w (ζ #[ι ξ 0,τ ⟨#[]⟩,ι .u8 0,ς ν 0 0] 303) (ο p)) (aM _ (ζ #[ι ξ 0,τ ⟨#[]⟩,ι .u8 0,ς ν 0 0] 303) (ο p));rw[show (w.alloc (ζ #[ι ξ 0,τ ⟨#[]⟩,ι .u8 0,ς ν 0 0] 303)).heap.size=w.heap.size+1 by simp]at H;have hp:=h.lt;have hs:=h.Au;go_enter func213,ntmps213
 go_wp2_with (first
  | (go_at_call 130;refine(xB h2 p9).mono ?_;rintro e w'⟨rfl,V⟩;obtain rfl:=V.symm;rw[ge D.out]))
 refine(P F t L p _ r o Y.out h2 D.out).mono ?_;intro e w1 G;cases hgr:iH d r with
 |error x=>
  obtain⟨n,a⟩:=x;obtain⟨rfl,g⟩:=G.err hgr;exact⟨rfl,Ends.no (by unfold qb;rw[du D.out,hgr]) (aI K g)⟩
 |ok x=>
  obtain⟨l,y⟩:=x;obtain⟨v,rfl,g,J,E⟩:=G.ok hgr;obtain⟨s,q,m,rfl⟩:=fu.form E;have U:Hid (qb (iH d) r=.ok (⟨2,bP,(jc y).1,l,Lx.pl r⟩,(jc y).2)):=by
   show _=_;unfold qb;rw[du D.out,hgr]
  clear G hgr;have C:=kB.grown g (by simp;omega);have z:=H.grown g (by simp;omega);have c0:=z.a0;have S:=z.a3;have Z:=z.frozen;have h3:=(J.setOther (b:=w.heap.size+1) 0 (ι ξ 2) (by omega) (by omega)).setOther (b:=w.heap.size+1) 3 (ς s q m) (by omega) (by omega);have A:=(C.other (b':=w.heap.size+1) (i:=0) (by omega) (ι ξ 2)).other (b':=w.heap.size+1) (i:=3) (by omega) (ς s q m);have N:=(z.set 0 (ι ξ 2)).set 3 (ς s q m);have G1:=aI K g;rw[show ((w.alloc (ζ #[ι ξ 0,τ ⟨#[]⟩,ι .u8 0,ς ν 0 0] 303)).alloc (ζ #[ι ξ 0,τ ⟨#[]⟩,ι .u8 0,ς ν 0 0] 303)).heap.size=w.heap.size+2 by simp]at E;clear C z kB H;go_wp2_with fail;refine(Tg h3).mono ?_;rintro e w2⟨rfl,j,I⟩;have f:=A.grown j (by simp;omega);have B:=N.grown j (by simp;omega);have d0:=B.a0;have d1:=B.a1;have d2:=B.a2;have d3:=B.a3;have e0:=f.a0;have T:=f.a1;have Q:=f.a2;have R:=f.a3;have f1:=B.frozen;have f2:=f.frozen;have G2:=aI (eG (eG G1 (by omega) 0 (ι ξ 2)) (by omega) 3 (ς s q m)) j;have u:=((E.move (dv _) (iO w1 (w.heap.size+1) 0 (ι ξ 2)) (fun k c=>by cases c;omega)).move (dv _) (iO _ (w.heap.size+1) 3 (ς s q m)) (fun k c=>by cases c;omega)).move (dv _) j (fun k c=>by cases c;omega);clear A N c0 S Z E;go_wp2_with fail;refine iS (v:=γ #[ι ξ 2,τ ⟨#[]⟩,ι .u8 ((jc y).1:Int),ς s q m]) (by simp[results,results213,go_sem,e0,T,Q,R]) rfl ?_
  have g1:=iO w2 (w.heap.size+1) 2 (ι .u8 ((jc y).1:Int));refine Ends.yes U.out (eG (eG (eG (eG (eG G2 (by omega) _ _) (dv _) _ _) (dv _) _ _) (dv _) _ _) (dv _) _ _) ?_ ⟨_,rfl,?_⟩
  ·exact((((I.setOther _ _ (by omega) (by omega)).setOther _ _ (by omega) (by omega)).setOther _ _ (by omega) (by omega)).setOther _ _ (by omega) (by omega)).setOther _ _ (by omega) (by omega)
  ·have m0:=u.move (lo':=w.heap.size) (by omega) g1 (fun k c=>by cases c;omega)
   have m1:=u.move (dv _) g1 (fun k c=>by cases c;omega);have m2:=m1.move (dv _) (iO _ w.heap.size 0 (ι ξ 2)) (fun k c=>by cases c;omega);have W:=m2.move (dv _) (iO _ w.heap.size 1 (τ ⟨#[]⟩)) (fun k c=>by cases c;omega);have X:=W.move (dv _) (iO _ w.heap.size 2 (ι .u8 ((jc y).1:Int))) (fun k c=>by cases c;omega);exact X.move (by omega) (iO _ w.heap.size 3 (ς s q m)) (fun k c=>by cases c;omega)
theorem aaC(i:Nr d):aaB d:=by
 intro f a L p w b o g h c
 by_cases h1:Lx.hd b=p9
 ·exact agY i f a L p w b o g h h1
 ·cases h2:Lx.isName (Lx.hd b)
  ·refine agX f a L p w b o h h1 h2 ?_
   unfold wX at c;rw[fx h1,h2]at c;simpa using c
  ·exact ah2 f a L p w b o h h1 h2
end
section
open Go.RowKit
open Lx (Tk)
open Tr
theorem Tryz.akU:(prog.info? 303).map (fun i=>(i.zero,i.size,i.bytes))=ο (ο (.agg #[.int ξ 0,.string ⟨#[]⟩,.int .u8 0,.slice ν 0 0]),4,56):=by kernel_rfl
theorem Tryz.akV:(prog.info? 311).map (fun i=>(i.zero,i.size,i.bytes))=ο (ο (.agg #[.slice ν 0 0,.string ⟨#[]⟩]),2,40):=by kernel_rfl
theorem nU(w:ω)(r:Option Nat):w.grownBy w.drew r:=⟨rfl,rfl,rfl,dv _,fun _ _ _=>rfl⟩
theorem Rd.drew{c a:Nat}{L:List Tk}{p:Nat}{w:ω}{b:List Tk}{o:Int}(h:Rd c a L p w b o):Rd c a L p w.drew b o :=
 h.grown (nU w ν) (by simp) (by simp)
theorem aj.drew{w:ω}{b:Nat}{cs:Array υ}{e:Nat}(h:aj w b cs e):aj w.drew b cs e:=h
theorem eZ{c:Array Oper}{o:Oper}{a:Act}(d:o.guard=ν)(f:FuncId)(args:Array υ)
  (b:(execOp a.eval o).run P w=.ok (.enter f args) w) {R:Ending->ω->Prop} (j:χ P f args w R) (h:∀e w',R e w'->∃v,e=δ v/\K (a.put o.dst v) w') :
  if Region.wanted o (yielded c a.tmps)=η then Oper.wp P o a w K Q else E:=by
 have k:Region.wanted o (yielded c a.tmps)=η:=by simp[Region.wanted,d]
 rw[du k];unfold Oper.wp;rw[b,Oper.upon_enter];refine j.mono ?_;intro e w' i;obtain⟨v,rfl,g⟩:=h e w' i;exact g
theorem uS{d:Array Oper}{o:Oper}{a:Act}(g:o.guard=ν)(f:FuncId)(args:Array υ)
  (b:(execOp a.eval o).run P w=.ok (.enter f args) w) {R:Ending->ω->Prop} (k:χ P f args w R) (h:∀e w',R e w'->∃c,e=.panicked c/\Q (.panic c) a w') :
  if Region.wanted o (yielded d a.tmps)=η then Oper.wp P o a w K Q else E:=by
 have l:Region.wanted o (yielded d a.tmps)=η:=by simp[Region.wanted,g]
 rw[du l];unfold Oper.wp;rw[b,Oper.upon_enter];refine k.mono ?_;intro e w' j;obtain⟨v,rfl,i⟩:=h e w' j;exact i
theorem bQ{g:Nat}{cs:Array υ}(h:aj w g cs e):∀(j:Nat)(u:υ),cs.toList[j]?=ο u->w.cell? ((⟨g,0,ν⟩:Addr).add j)=ο u:=by
 intro j u b;have a:(⟨g,0,ν⟩:Addr).add j=⟨g,j,ν⟩:=by unfold Addr.add;split <;> simp_all
 rw[a,h.cell];simpa using b
theorem Du{u2 b:ω}{s:Option Nat}(h:w.grownBy u s)(h2:u.grownBy u2 ν)(h3:u2.grownBy b r)(c:∀k,r=ο k->w.heap.size<=k):w.grownBy b s :=
 ⟨h3.os.trans (h2.os.trans h.os),h3.tape.trans (h2.tape.trans h.tape),h3.output.trans (h2.output.trans h.output),cY h.size (cY h2.size h3.size),fun k a d=>
  (h3.block k (dg a (cY h.size h2.size)) (fun e=>by have:=c k e.symm;omega)).trans ((h2.block k (dg a h.size) (by simp)).trans (h.block k a d))⟩
abbrev KA(d:Nat):(Nat->Prop)->ω->υ->Lx.It->Prop:=fun F w va it=>fu YP d F w va it.alts
theorem abh(HI:aaB d):abg d:=by
 intro sb J L p w t o ho h;obtain⟨i0,hi,ac,ak,af⟩:=ft Tryz.akU;have hp:=h.lt;have hs:=h.Au;have HO:Hid _:=ho;have az:=h.lb;have ao:=h.len;clear ho;have h2:=(h.alloc (ζ #[ς ν 0 0,τ ⟨#[]⟩] 311)).alloc (ζ #[ς ν 0 0,τ ⟨#[]⟩] 311);have kB:=(aj.new w #[ς ν 0 0,τ ⟨#[]⟩] 311).alloc (ζ #[ς ν 0 0,τ ⟨#[]⟩] 311);have kC:=aj.new (w.alloc (ζ #[ς ν 0 0,τ ⟨#[]⟩] 311)) #[ς ν 0 0,τ ⟨#[]⟩] 311;have G0:=aI (aM w (ζ #[ς ν 0 0,τ ⟨#[]⟩] 311) (ο p)) (aM _ (ζ #[ς ν 0 0,τ ⟨#[]⟩] 311) (ο p));rw[show (w.alloc (ζ #[ς ν 0 0,τ ⟨#[]⟩] 311)).heap.size=w.heap.size+1 by simp]at kC;go_enter func195,ntmps195;go_wp2_with fail
 go_loopg [] t.length (fun k wr=>∃(q:List Tk)(l:List Lx.It)(v:υ)(f:Nat),q.length=k/\q.length<=f/\l.length+q.length<=t.length/\w.heap.size+2<=wr.heap.size/\Rd sb J L p wr q o/\aj wr (w.heap.size+1) #[v,τ ⟨#[]⟩] 311/\aj wr w.heap.size #[ς ν 0 0,τ ⟨#[]⟩] 311 /\
   l9 (w.heap.size+2) wr 303 4 YP.cI (KA d) v l/\w.grownBy wr (ο p)/\Hid (rG (iH d) f q l=rG (iH d) t.length t []))
 case atStart=>exact⟨t,[],_,t.length,rfl,dv _,by simp,by simp,h2,kC,kB,l9.nil _ _ _ _ _ _,G0,rfl⟩
 case round=>
  obtain⟨q,l,v,f,Y,hf,am,hsz,y,R,E,C,hg,z⟩:=hrel;clear h2 kB kC G0;cases Ci:wX q
  ·have A:Hid _:=Ci
   clear Ci;have aa:rG (iH d) t.length t []=.ok (l,q):=by
    rw[<-z.out];have ah:=y.wf.ne;obtain⟨Q,rfl⟩:∃Q,f=Q+1:=⟨f-1,by omega⟩;simp only[rG];rw[dt (by rw[A.out];simp)]
   have W:Hid (qd (iH d) (d == 8) t=BZ (d == 8) l q):=by
    show _=_;unfold qd;rw[aa]
   clear aa z;have aH:=y.op;have u:=C.seq;obtain⟨O,T,N,rfl⟩:=fD.form u;have c0:=R.a0;have c1:=R.a1;have b0:=E.a0;have b1:=E.a1;have fB:=E.frozen;have fC:=R.frozen
   by_cases h8:d=8
   ·have o0:(o == 0)=η:=t6.2 (by have:=HO.out;omega)
    by_cases hpr:Lx.hd q=DX
    ·have aw:Lx.hd q≠bP:=by rw[hpr];decide
     have VU:Hid _:=hpr;have H8:Hid _:=h8;clear hpr h8
     go_wp2_with (first
      | (go_at_call 212;refine(Jd y).mono ?_;rintro e w'⟨rfl,H⟩;obtain rfl:=H.symm;rw[A.out]))
     refine(Nj y DX (by decide) VU.out).mono ?_;rintro e w1⟨rfl,c,S⟩;have Z:=R.grown c (by simp;omega);have al:=E.grown c (by simp;omega);go_wp2_with fail;refine(BI S).mono ?_;intro e w2 M;cases hpw:jm Lx.isToken q.tail with
     |error x=>
      obtain⟨n,a⟩:=x;obtain⟨rfl,s⟩:=M.err hpw;exact⟨rfl,Ends.no (by rw[W.out];unfold BZ;rw[du ⟨by simp[H8.out],VU.out⟩,hpw]) (aI (aI hg c) s)⟩
     |ok x=>
      obtain⟨b,iP⟩:=x;obtain⟨v,rfl,s,ai,rfl⟩:=M.ok hpw;have HP:Hid (qd (iH d) (d == 8) t=.ok ((l,b,Lx.pl q.tail),iP)):=by
       show _=_;rw[W.out];unfold BZ;rw[du ⟨by simp[H8.out],VU.out⟩,hpw]
      clear hpw M;have V:=Z.grown s (by simp;omega);have G:=al.grown s (by simp;omega);have d0:=V.a0;have d1:=V.a1;have e0:=G.a0;have e1:=G.a1;have aE:=G.frozen;have aP:=V.frozen;go_wp2_with fail;refine iS (v:=γ #[ς O T N,τ b]) (by simp[results,results195,go_sem,e0,e1]) rfl ?_;refine Ends.yes HP.out (eG (eG (eG (aI (aI hg c) s) (by omega) _ _) (dv _) _ _) (dv _) _ _) (((ai.setOther _ _ (by omega) (by omega)).setOther _ _ (by omega) (by omega)).setOther _ _ (by omega) (by omega)) ⟨_,rfl,?_⟩;refine rE.move (F:=In (w.heap.size+2) wr.heap.size) (w:=wr) (fun b r=>?_) (fun b r=>?_) u
      ·have h1:=r.1
       have h2:=r.2;have g1:=c.size;rw[fy _ _ _ _ (fun e=>by have X:b=w.heap.size:=e;omega),fy _ _ _ _ (fun e=>by have X:b=w.heap.size:=e;omega),fy _ _ _ _ (fun e=>by have X:b=w.heap.size+1:=e;omega),s.block b (by omega) (by simp;omega),c.block b h2 (by simp;omega)]
      ·have h1:=r.1
       have h2:=r.2;have g1:=c.size;have g2:=s.size;exact⟨by omega,by simp[World.setCell];omega⟩
    ·have HP:Hid (qd (iH d) (d == 8) t=.ok ((l,bP,0),q)):=by
      show _=_;rw[W.out];unfold BZ;rw[dt (fun hh=>hpr hh.2)]
     have HR:Hid _:=hpr;clear hpr h8 W
     go_wp2_with (first
      | (go_at_call 212;refine(Jd y).mono ?_;rintro e w'⟨rfl,H⟩;obtain rfl:=H.symm;rw[A.out])
      | (go_at_call 170;refine(Jh y DX HR.out).mono ?_;rintro e w'⟨rfl,H⟩;obtain rfl:=H.symm))
     refine iS (v:=γ #[ς O T N,τ ⟨#[]⟩]) (by simp[results,results195,go_sem,b0,b1]) rfl ?_;refine Ends.yes HP.out (eG (eG hg (dv _) _ _) (dv _) _ _) ((y.setOther _ _ (by omega) (by omega)).setOther _ _ (by omega) (by omega)) ⟨_,rfl,?_⟩;refine rE.move (F:=In (w.heap.size+2) wr.heap.size) (w:=wr) (fun b r=>?_) (fun b r=>?_) u
     ·have h1:=r.1
      rw[fy _ _ _ _ (fun e=>by have X:b=w.heap.size:=e;omega),fy _ _ _ _ (fun e=>by have X:b=w.heap.size:=e;omega)]
     ·have h1:=r.1
      have h2:=r.2;exact⟨by omega,by simpa [World.setCell]using h2⟩
   ·have o0:(o == 0)=ε:=ej.2 (by have:=HO.out;omega)
    have HP:Hid (qd (iH d) (d == 8) t=.ok ((l,bP,0),q)):=by
     show _=_;rw[W.out];unfold BZ;rw[dt (fun hh=>h8 (by simpa using hh.1))]
    clear h8 W
    go_wp2_with (first
     | (go_at_call 212;refine(Jd y).mono ?_;rintro e w'⟨rfl,H⟩;obtain rfl:=H.symm;rw[A.out]))
    refine iS (v:=γ #[ς O T N,τ ⟨#[]⟩]) (by simp[results,results195,go_sem,b0,b1]) rfl ?_;refine Ends.yes HP.out (eG (eG hg (dv _) _ _) (dv _) _ _) ((y.setOther _ _ (by omega) (by omega)).setOther _ _ (by omega) (by omega)) ⟨_,rfl,?_⟩;refine rE.move (F:=In (w.heap.size+2) wr.heap.size) (w:=wr) (fun b r=>?_) (fun b r=>?_) u
    ·have h1:=r.1
     rw[fy _ _ _ _ (fun e=>by have X:b=w.heap.size:=e;omega),fy _ _ _ _ (fun e=>by have X:b=w.heap.size:=e;omega)]
    ·have h1:=r.1
     have h2:=r.2;exact⟨by omega,by simpa [World.setCell]using h2⟩
  ·have A:Hid _:=Ci
   clear Ci;obtain⟨ps,F,U⟩:=C;have m:=U.2.1;obtain⟨O,T,N,rfl⟩:=FL m;have c0:=R.a0;have f0:=R.frozen;have jr:=y.drew;have jZ:=aI hg (nU wr (ο p));have ah:=y.wf.ne;obtain⟨Q,rfl⟩:∃Q,f=Q+1:=⟨f-1,by omega⟩;cases hit:qb (iH d) q with
   |error x=>
    obtain⟨n,a⟩:=x;have HE:Hid (qd (iH d) (d == 8) t=.error (n,a)):=by
     show _=_;unfold qd;rw[<-z.out];simp only[rG];rw[du A.out,hit]
    have I:Hid _:=hit;clear hit z
    go_wp2_with (first
     | (go_at_call 212;refine(Jd y).mono ?_;rintro e w'⟨rfl,H⟩;obtain rfl:=H.symm;rw[A.out]))
    refine tG (by kernel_rfl) ?_;refine oS (i:=0) (v:=π (ο ⟨w.heap.size+1,0,ν⟩)) rfl (by kernel_rfl) (by kernel_rfl) (by kernel_rfl) (fun _ _ _ h=>h) (rg ⟨by rfl,fun w=>by go_simp⟩) ?_;refine oS (i:=2) (v:=π (ο ⟨p,0,ν⟩)) rfl (by kernel_rfl) (by kernel_rfl) (by kernel_rfl) (fun _ _ _ h=>h) (rg ⟨by rfl,fun w=>by go_simp⟩) ?_;refine pM (rs:=[1,3]) (by kernel_rfl) (by simp) ?_;refine mj rfl (fun K hK=>?_) (mj rfl (fun K hK=>?_) px)
    ·change if _ then Oper.wp _ _ _ wr.drew _ _ else _
     go_simp
     refine hK _ _ ?_;clear hK K;refine pM (rs:=[3]) (by kernel_rfl) (by simp) ?_;refine mj rfl (fun K hK=>?_) px;exact uS rfl 213 #[π (ο ⟨p,0,ν⟩)] (by go_simp) (HI sb J L p _ q o HO.out jr A.out) fun e w1 M=>by obtain⟨rfl,c⟩:=M.err I.out;exact⟨_,rfl,rfl,Ends.no HE.out (aI jZ c)⟩
    ·change if _ then Oper.wp _ _ _ wr.drew _ _ else _
     exact uS rfl 213 #[π (ο ⟨p,0,ν⟩)] (by go_simp) (HI sb J L p _ q o HO.out jr A.out) fun e w1 M=>by obtain⟨rfl,c⟩:=M.err I.out;exact⟨_,rfl,rfl,Ends.no HE.out (aI jZ c)⟩
   |ok x=>
    obtain⟨it,aR⟩:=x;have aA:=ZH (Ry d) hit;have aV:=y.wf.yU;have Cz:Hid (rG (iH d) Q aR (l++[it])=rG (iH d) t.length t []):=by
     show _=_;rw[<-z.out];simp only[rG];rw[du A.out,hit]
    have I:Hid _:=hit;clear hit z
    go_wp2_with (first
     | (go_at_call 212;refine(Jd y).mono ?_;rintro e w'⟨rfl,H⟩;obtain rfl:=H.symm;rw[A.out]))
    go_region_law (first
     | (refine step_append_lies _ rfl (.tmp 7) (.tmp 10) 309 rfl (w.heap.size+2) 303 i0 _ 4 56 underlying309 hi ac ak af rfl (by decide) (.slice O T N) l.length (ps.flatMap YP.cI) (by simp[Act.eval]) (B.alloc _) ⟨w1.heap.size,0,ν⟩ 1 1 (YP.cI (.slice xa xk xc,it)) (by simp[Act.eval]) rfl (bQ (aj.new w1 _ 303)) (by simp[YP,Value.oneCell']) (by decide) (by unfold maxLen;omega) (by omega) (by have:=c.size;simp at this;simp;omega) _ rfl ?_;intro g ap w3 D j ab ax;have V:=(Z.alloc _).grown j (fun e=>by have:=(m.lt _ e.symm).1;omega);have aX:w3.cell? ⟨w.heap.size+1,0,ν⟩=ο (.slice O T N):=V.cell 0;have a9:∀i,w3.frozen? ⟨w.heap.size+1,i,ν⟩=ε:=V.frozen)
     | (refine eZ rfl 213 #[π (ο ⟨p,0,ν⟩)] (by go_simp) (HI sb J L p _ q o HO.out jr A.out) ?_;intro e w1 M;obtain⟨vv,rfl,c,S,ag⟩:=M.ok I.out;refine⟨_,rfl,?_⟩;obtain⟨vx,rfl,P⟩:=ag;obtain⟨xa,xk,xc,rfl⟩:=fu.form P;have B:=((U.kept (I8 YP d) (nU wr ν) (by simp)).kept (I8 YP d) c (fun k Y=>by cases Y;omega)).2.1;have Z:=R.drew.grown c (by simp;omega);have VW:w1.cell? ⟨w.heap.size+1,0,ν⟩=ο (ς O T N):=Z.cell 0;have an:=Z.lt))
    all_goals
     have G3:=xw.push (I8 YP d) (U.kept (I8 YP d) (nU wr ν) (by simp)) (p:=p) (by omega) (by simpa using hsz) c (ς xa xk xc,it) P (aM w1 _ ν) D j ab;have G:=((E.drew.grown c (by simp;omega)).alloc _).grown j (fun e=>by have:=(m.lt _ e.symm).1;omega);have ae:=(S.alloc _).grown j (fun e=>by have:=(m.lt _ e.symm).1;omega) (fun e=>by have:=(m.lt _ e.symm).1;omega);have PS:=Du (aI jZ c) (aM w1 _ ν) j (fun k Y=>by have:=(m.lt _ Y).1;omega);have ad:=j.size;have ar:=c.size;have aq:wr.drew.heap.size=wr.heap.size:=rfl;have av:(w1.alloc (ζ (YP.cI (ς xa xk xc,it)).toArray 303)).heap.size=w1.heap.size+1:=by simp
     clear D j ab B Z VW c0 f0 P;go_wp2_with fail;go_roundg aR.length
     case measure=>omega
     case rel=>
      refine⟨aR,l++[it],_,Q,rfl,by omega,by simp;omega,?_,ae.setOther _ _ (by omega) (by omega),V.set 0 _,G.other (by omega) _,?_,eG PS (by omega) _ _,Cz⟩
      ·simp only[World.setCell,Array.size_modify];have:=ad;simp at this;omega
      ·exact l9.kept (I8 YP d) G3 (iO w3 (w.heap.size+1) 0 _) (fun k Y=>by cases Y;omega)
end
theorem flat_get{α:Type}(c:υ×α->List υ)(s:Nat)(a:∀q,(c q).length=s):∀(ps:List (υ×α))(j i:Nat)(q:υ×α),ps[j]?=ο q->i<s->(ps.flatMap c)[j*s+i]?=(c q)[i]?
 | [],_,_,_,h,_=>by simp at h
 |p::ps,0,i,q,h,hi=>by
  simp at h;subst h;rw[eS,rm,fX,eL (by rw[a];exact hi)]
 |p::ps,j+1,i,q,h,hi=>by
  have b:ps[j]?=ο q:=by simpa using h
  rw[eS,eQ (by rw[a,oE];omega),a,show (j+1)*s+i-s=j*s+i by rw[oE];omega];exact flat_get c s a ps j i q b hi
theorem Tr.Seq.at{α:Type}{F:Nat->Prop}{w:ω}{e s:Nat}{c:υ×α->List υ}{K:υ->α->Prop}{v:υ}{l:List α}(h:Tr.Seq F w e s c K v l)(m:∀q,(c q).length=s){j:Nat}(d:j<l.length):
  ∃g cap vk,v=ς (ο ⟨g,0,ν⟩) l.length cap/\F g/\K vk l[j]/\∀i,i<s->w.cell? ⟨g,j*s+i,ν⟩=(c (vk,l[j]))[i]?:=by
 obtain⟨a,h1,h2,h3,h4⟩:=h;obtain⟨g,cap,rfl,-,-⟩:=h2.form (by omega);have o:a.length=l.length:=by rw[<-h1];simp
 have k:a[j]?=ο a[j]:=cG (by omega);have f:(a[j]).2=l[j]:=by
  have:(a.map Prod.snd)[j]?=l[j]?:=by rw[h1]
  rw[dj,k,cG d]at this;simpa using this
 refine⟨g,cap,(a[j]).1,rfl,h3 g rfl,?_,?_⟩
 ·rw[<-f];exact h4 _ (eJ _)
 ·intro i n
  have b:j*s+i<l.length*s:=by
   have:(j+1)*s<=l.length*s:=kj s d;rw[oE]at this;omega
  rw[h2.cellAt (j*s+i) b,flat_get c s m a j i _ k n,<-f]
theorem Tr.Seq.len{α:Type}{s:Nat}{c:υ×α->List υ}{K:υ->α->Prop}{l:List α}(h:Tr.Seq F w e s c K v l):∃a cap,v=ς a l.length cap/\l.length<=maxLen:=by
 obtain⟨b,h1,h2,h3,h4⟩:=h;exact aB h2
theorem aN.len{Y:Lay}{d:Nat}{F:Nat->Prop}{w:ω}{v:υ}{l:List Lx.Alt}(h:aN Y d F w v l):∃a cap,v=.slice a l.length cap/\l.length<=maxLen:=by
 cases d with
 |zero=>obtain⟨rfl,rfl⟩:=h;exact⟨_,_,rfl,fi _⟩
 |succ d=>exact Seq.len h
end Go.Proofs.YtfpjphhnjegnjaaGreatDoor
namespace Go.Proofs.YtfpjphhnjegnjaaGreatDoor
namespace Lx
end Lx
open Lx Go.Proofs.Tryz
open Go.RowKit
open Tr
end Go.Proofs.YtfpjphhnjegnjaaGreatDoor
namespace Go.Proofs.YtfpjphhnjegnjaaGreatDoor
open Go.Value renaming slice→ς,int→ι,string→τ,pointer→π,bool→μ,agg→γ
open Go.IntKind renaming i64→ξ
open Option renaming none→ν,some→ο
open Go.Obj renaming cells→ζ
open Bool renaming false→ε
open Go renaming World→ω,Value→υ,Calls→χ
variable{b:ByteArray}{d:Nat}
namespace Lx
end Lx
open Lx Go.Proofs.Tryz
open Go.RowKit Tr
namespace Lx
theorem NW(a:List Tk):a.tail.length<=a.length:=by simp
theorem YU:∀(f:Nat)(ts acc x ts':List Tk),sU f ts acc=.ok (x,ts')->ts'.length<=ts.length
 |0,ts,acc,x,ts',h=>by simp only[sU,Except.ok.injEq,Prod.mk.injEq]at h;rw[h.2];exact dv _
 |f+1,ts,acc,x,ts',h=>by
  have h3:=NW ts;simp only[sU]at h
  split at h
  ·simp only[Except.ok.injEq,Prod.mk.injEq]at h;rw[<-h.2];exact h3
  ·cases hr:jm isToken ts with
   |error e=>rw[hr]at h;cases h
   |ok y=>
    obtain⟨b,a⟩:=y;rw[hr]at h;have h1:=(FD hr).1;have h2:=YU f a _ x ts' h;rw[h1]at h2;omega
theorem agZ{a ts':List Tk}{x:Lv}(h:sW a=.ok (x,ts')):ts'.length<=a.tail.length:=by
 unfold sW at h;cases hr:jm isToken a.tail with
 |error e=>rw[hr]at h;cases h
 |ok y=>
  obtain⟨b,c⟩:=y;rw[hr]at h;have h1:=(FD hr).1;cases hr2:sU c.length c [(b,pl a.tail)] with
  |error e=>simp only[hr2]at h;cases h
  |ok z=>
   obtain⟨l,d⟩:=z;simp only[hr2,Except.ok.injEq,Prod.mk.injEq]at h;have h2:=YU _ _ _ _ _ hr2;have h3:=NW a.tail;rw[<-h.2];rw[h1]at h2;omega
theorem ZM{a ts':List Tk}{x:Rl}(h:qL a=.ok (x,ts')):ts'.length<=a.tail.length:=by
 unfold qL at h;cases hr:jm isName a with
 |error e=>rw[hr]at h;cases h
 |ok y=>
  obtain⟨b,d⟩:=y;rw[hr]at h;have h1:=(FD hr).1;cases hr2:qK Er d with
  |error e=>simp only[hr2]at h;cases h
  |ok z=>
   obtain⟨u,g⟩:=z;have h2:=(R5 hr2).1;cases hr3:tC 8 g with
   |error e=>simp only[hr2,hr3]at h;cases h
   |ok z=>
    obtain⟨l,c⟩:=z;have h3:=R7 8 _ _ _ hr3;cases hr4:qK zh c with
    |error e=>simp only[hr2,hr3,hr4]at h;cases h
    |ok z=>
     obtain⟨k,i⟩:=z;have h4:=(R5 hr4).1;simp only[hr2,hr3,hr4,Except.ok.injEq,Prod.mk.injEq]at h;have j:=NW c;have f:=NW d;rw[<-h.2,h4];rw[h2]at h3;rw[h1]at h3 f;omega
def NY(lv:List Lv):fJ (List Rl)->fJ Gr
 |.error e=>.error e
 | .ok (l,ts)=>.ok (⟨lv,l⟩,ts)
def Jt(lv:List Lv)(aR:List Tk):fJ Gr :=
 match qL aR with
 |.error e=>.error e
 | .ok (x,iP)=>NY lv (yZ iP.length iP [x])
def OQ:fJ (List Lv)->fJ Gr
 |.error e=>.error e
 | .ok (lv,aR)=>Jt lv aR
theorem aga(a:List Tk):qF a=OQ (Ad a.length a []):=by
 unfold qF;cases h1:Ad a.length a [] with
 |error e=>rfl
 |ok y=>
  obtain⟨f,c⟩:=y;simp only[OQ,Jt];cases h2:qL c with
  |error e=>rfl
  |ok z=>
   obtain⟨x,b⟩:=z;simp only;cases h3:yZ b.length b [x] with
   |error e=>rfl
   |ok q=>obtain⟨l,d⟩:=q;rfl
end Lx
section
open Go.RowKit
open Lx (Tk)
open Tr
abbrev KI(d:Nat):(Nat->Prop)->ω->υ->Lx.Alt->Prop:=fun F w vi a=>rE YP d F w vi a.1
theorem rE.form{Y:Lay}{d:Nat}{F:Nat->Prop}{w:ω}{v:υ}{l:List Lx.It}(h:rE Y d F w v l):∃a k c,v=.slice a k c:=by
 exact fD.form h
theorem aaD(HA:abg d):Sz d:=by
 intro V r L p w t o ho h;obtain⟨i0,hi,T,Z,M⟩:=ft Tryz.akV;have hp:=h.lt;have hs:=h.Au;have HO:Hid _:=ho;have ai:=h.lb;have ac:=h.len;clear ho;have HE:Hid _:=ajj d t;go_enter func173,ntmps173;go_wp2_with fail;refine(HA V r L p w t o HO.out h).mono ?_;intro e w1 s;cases hr1:qd (iH d) (d == 8) t with
 |error x=>
  obtain⟨n,a⟩:=x;obtain⟨rfl,q⟩:=s.err hr1;exact⟨rfl,Ends.no (by rw[HE.out];unfold DF;rw[hr1]) q⟩
 |ok x=>
  obtain⟨a1,D⟩:=x;obtain⟨v,rfl,q,UJ,vi,rfl,N⟩:=s.ok hr1;have am:=NC (Ry d) hr1;have R:Hid (tC d t=xE (iH d) (d == 8) D.length D [a1]):=by
   show _=_;rw[HE.out];unfold DF;rw[hr1]
  obtain⟨J,H,G,rfl⟩:=rE.form N;have G1:l9 w.heap.size (w1.alloc (ζ #[ς J H G,τ a1.2.1] 311)) 311 2 YP.cA (KI d) (ς (ο ⟨w1.heap.size,0,ν⟩) 1 1) [a1] :=
   l9.one (M8 YP d) (w:=w) (ς J H G,a1) (dv _) q.size N rfl
  have E:=UJ.alloc (ζ #[ς J H G,τ a1.2.1] 311);have C:=aI q (aM w1 (ζ #[ς J H G,τ a1.2.1] 311) (ο p));clear hr1 s HE;go_wp2_with fail
  go_loopg [3] D.length (fun k v wr=>∃(l:List Tk)(c:List Lx.Alt)(f:Nat),l.length=k/\l.length<=f/\c.length+l.length<=t.length+1/\Rd V r L p wr l o /\
    l9 w.heap.size wr 311 2 YP.cA (KI d) v c/\w.grownBy wr (ο p)/\Hid (tC d t=xE (iH d) (d == 8) f l c))
  case atStart=>exact⟨D,[a1],D.length,rfl,dv _,by simp;omega,E,G1,C,R⟩
  case round=>
   obtain⟨l,c,f,y,hf,ad,z,j,hg,m⟩:=hrel;clear E C G1 N;have al:=z.wf.ne;obtain⟨K,rfl⟩:∃K,f=K+1:=⟨f-1,by omega⟩
   by_cases hb:Lx.hd l=J3
   ·have u:Hid _:=hb
    clear hb;have af:=z.wf.yU;go_wp2_with fail;refine(Nj z J3 (by decide) u.out).mono ?_;rintro e w2⟨rfl,A,Y⟩;have U:=aI hg A;go_wp2_with fail;refine(HA V r L p w2 l.tail o HO.out Y).mono ?_;intro e I s;cases hr3:qd (iH d) (d == 8) l.tail with
    |error x=>
     obtain⟨n,a⟩:=x;obtain⟨rfl,i⟩:=s.err hr3;exact⟨rfl,Ends.no (by rw[m.out];simp only[xE];rw[du u.out,hr3]) (aI U i)⟩
    |ok x=>
     obtain⟨a3,O⟩:=x;obtain⟨v,rfl,i,D7,ah,rfl,B⟩:=s.ok hr3;have ak:=NC (Ry d) hr3;have aa:Hid (tC d t=xE (iH d) (d == 8) K O (c++[a3])):=by
      show _=_;rw[m.out];simp only[xE];rw[du u.out,hr3]
     obtain⟨xa,xk,xc,rfl⟩:=rE.form B;clear hr3 s m;obtain⟨ps,F,Q⟩:=j;have D8:=Q.kept (M8 YP d) A (fun k y=>by cases y;omega);have X:=D8.kept (M8 YP d) i (fun k y=>by cases y;omega);have b:=X.2.1;have s2:=U.size;have s3:=i.size
     go_wp2_with (first
      | (at_builtin;refine wpList_append_lies _ rfl _ _ 294 rfl w.heap.size 311 i0 _ 2 40 underlying294 hi T Z M rfl (by decide) u3 c.length (ps.flatMap YP.cA) rfl (b.alloc _) ⟨I.heap.size,0,ν⟩ 1 1 (YP.cA (.slice xa xk xc,a3)) rfl rfl (bQ (aj.new I _ 311)) (by simp[YP,Value.oneCell']) (by decide) (by unfold maxLen;omega) (by omega) (by simp;omega) _ rfl ?_;intro g ae w4 uY S ab ag))
     have G4:=xw.push (M8 YP d) D8 (p:=p) (by omega) s2 i (ς xa xk xc,a3) B (aM I _ ν) uY S ab;have W:=(D7.alloc _).grown S (fun e=>by have:=(b.lt _ e.symm).1;omega) (fun e=>by have:=(b.lt _ e.symm).1;omega);have P:=Du (aI U i) (aM I _ ν) S (fun k y=>(b.lt _ y).1);go_roundg O.length
     case measure=>omega
     case rel=>exact⟨O,c++[a3],K,rfl,by omega,by simp;omega,W,G4,P,aa⟩
   ·have u:Hid (¬Lx.hd l=J3):=hb
    clear hb
    go_wp2_with (first
     | (go_at_call 170;refine(Jh z J3 u.out).mono ?_;rintro e w'⟨rfl,hw⟩;obtain rfl:=hw.symm))
    go_ret;refine Ends.yes (x:=c) (ts':=l) (by rw[m.out];simp only[xE];rw[dt u.out]) hg z ?_;exact j.seq
theorem abj:∀d,d<=8->Sz d
 |0,_=>aaD (abh (aaC agV))
 |d+1,h=>aaD (abh (aaC (agW (by omega) (abj d (by omega)))))
end
section
open Go.RowKit
open Lx (Tk)
open Tr
def amS(lo:Nat)(w':ω)(v:υ)(r:Lx.Rl):Prop:=∃va,v=γ #[τ r.name,va]/\fu YP 9 (In lo w'.heap.size) w' va r.alts
theorem FY(J s:Nat)(L:List Tk)(p:Nat)(w:ω)(D:List Tk)(h:Rd J s L p w D 0):
  χ prog 129 #[π (ο ⟨p,0,ν⟩)] w (Ends J s L p 0 (amS w.heap.size) w (qL D)):=by
 have hp:=h.lt;have hs:=h.Au;have h1:=h.alloc (ζ #[τ ⟨#[]⟩,ς ν 0 0] 296);have kB:=aj.new w #[τ ⟨#[]⟩,ς ν 0 0] 296;have O:=aM w (ζ #[τ ⟨#[]⟩,ς ν 0 0] 296) (ο p);go_enter func129,ntmps129;go_wp2_with fail;refine(abf h1).mono ?_;intro e w1 c;cases hr1:jm Lx.isName D with
 |error x=>
  obtain⟨n,a⟩:=x;obtain⟨rfl,m⟩:=c.err hr1;exact⟨rfl,Ends.no (by unfold qL;rw[hr1]) (aI O m)⟩
 |ok x=>
  obtain⟨b,aR⟩:=x;obtain⟨v,rfl,m,X,rfl⟩:=c.ok hr1;have j:Hid _:=hr1;clear hr1 c;have G1:=aI O m;have C:=kB.grown m (by simp;omega);have s1:=G1.size;have sB:=C.lt;have h2:=X.alloc (ζ #[τ b,ς ν 0 0] 296);have R:=aj.new w1 #[τ b,ς ν 0 0] 296;have A:=C.alloc (ζ #[τ b,ς ν 0 0] 296);have P:=aI G1 (aM w1 (ζ #[τ b,ς ν 0 0] 296) (ο p));go_wp2_with fail;refine(Nb h2 Er (by decide)).mono ?_;intro e w2 c;cases hr2:qK Er aR with
  |error x=>
   obtain⟨n,a⟩:=x;obtain⟨rfl,f⟩:=c.err hr2;exact⟨rfl,Ends.no (by unfold qL;simp only[j.out,hr2]) (aI P f)⟩
  |ok x=>
   obtain⟨u,Q⟩:=x;obtain⟨v,rfl,f,J5,rfl⟩:=c.ok hr2;have t:Hid _:=hr2;clear hr2 c;have G2:=aI P f;have N:=R.grown f (by simp;omega);have E:=A.grown f (by simp;omega);have sC:=N.lt;go_wp2_with fail;refine(abj 8 (dv _) J s L p w2 Q 0 rfl J5).mono ?_;intro e U c;cases hr3:tC 8 Q with
   |error x=>
    obtain⟨n,a⟩:=x;obtain⟨rfl,g⟩:=c.err hr3;exact⟨rfl,Ends.no (by unfold qL;simp only[j.out,t.out,hr3]) (aI G2 g)⟩
   |ok x=>
    obtain⟨l,W⟩:=x;obtain⟨v,rfl,g,D7,H⟩:=c.ok hr3;obtain⟨r,q,o,rfl⟩:=fu.form H;have z:Hid _:=hr3;clear hr3 c;have Y:=aI G2 g;have F:=N.grown g (by simp;omega);have B:=E.grown g (by simp;omega);have c1:=F.a1;have f1:=F.frozen;have h4:=D7.setOther (b:=w1.heap.size) 1 (ς r q o) (by omega) (by omega);have Z:=F.set 1 (ς r q o);have mE:=B.other (b':=w1.heap.size) (i:=1) (by omega) (ς r q o);have T:=eG Y (b:=w1.heap.size) s1 1 (ς r q o);have I:=Gi.move (lo':=w2.heap.size) H (dv _) (iO U w1.heap.size 1 (ς r q o)) (fun k y=>by cases y;omega);clear R A N E F B H;go_wp2_with fail;refine(Nb h4 zh (by decide)).mono ?_;intro e w5 c;cases qQ:qK zh W with
    |error x=>
     obtain⟨n,a⟩:=x;obtain⟨rfl,d⟩:=c.err qQ;exact⟨rfl,Ends.no (by unfold qL;simp only[j.out,t.out,z.out,qQ]) (aI T d)⟩
    |ok x=>
     obtain⟨u',M⟩:=x;obtain⟨v,rfl,d,G,rfl⟩:=c.ok qQ;have HP:Hid (qL D=.ok (⟨b,l,Lx.pl D⟩,M)):=by
      show _=_;unfold qL;simp only[j.out,t.out,z.out,qQ]
     clear qQ c;have S:=Z.grown d (by simp;omega);have K:=mE.grown d (by simp;omega);have d0:=S.a0;have d1:=S.a1;have e0:=K.a0;have V:=K.a1;have f2:=K.frozen;have s2:=G2.size;go_wp2_with fail;refine iS (v:=γ #[τ b,ς r q o]) (by simp[results,results129,go_sem,e0,V]) rfl ?_;refine Ends.yes HP.out (eG (eG (aI T d) (dv _) _ _) (dv _) _ _) ((G.setOther _ _ (by omega) (by omega)).setOther _ _ (by omega) (by omega)) ⟨_,rfl,?_⟩;have m1:=I.move (dv _) d (fun k y=>by cases y;omega);have m2:=m1.move (dv _) (iO _ w.heap.size 0 (τ b)) (fun k y=>by cases y;omega);exact m2.move s2 (iO _ w.heap.size 1 (ς r q o)) (fun k y=>by cases y;omega)
end
section
open Go.RowKit
open Lx (Tk)
open Tr
theorem Tryz.Ut:(prog.info? 9).map (fun i=>(i.zero,i.size,i.bytes))=ο (ο (.string ⟨#[]⟩),1,16):=by kernel_rfl
def cT:υ×Tk->List υ:=fun q=>[τ q.2.1]
def KT:(Nat->Prop)->ω->υ->Tk->Prop:=fun _ _ _ _=>True
theorem uR:sV KT:=fun _ _ _ _ _ _ _ _ _=>trivial
def amh(lo:Nat)(w':ω)(v:υ)(lv:Lx.Lv):Prop:=∃va,v=γ #[ι ξ (lv.kind:Int),va]/\Tr.Seq (In lo w'.heap.size) w' 9 1 cT (fun _ _=>True) va lv.tokens
theorem afK(h:0<=lZ b):b≠bP:=by
 intro e;subst e;revert h;decide
def J6(k:Nat):fJ (List Tk)->fJ Lx.Lv
 |.error e=>.error e
 | .ok (l,ts)=>.ok (⟨k,l⟩,ts)
theorem ah3{a c:List Tk}(h:jm Lx.isToken a.tail=.ok (b,c)):sW a=J6 (lZ (Lx.hd a)).toNat (sU c.length c [(b,Lx.pl a.tail)]):=by
 unfold sW;rw[h];cases hr:sU c.length c [(b,Lx.pl a.tail)] with
 |error e=>simp only[J6,hr]
 |ok y=>obtain⟨l,t⟩:=y;simp only[J6,hr]
theorem SA(sb U:Nat)(L:List Tk)(p:Nat)(w:ω)(j:List Tk)(h:Rd sb U L p w j 0)(ax:0<=lZ (Lx.hd j)):
  χ prog 128 #[π (ο ⟨p,0,ν⟩)] w (Ends sb U L p 0 (amh w.heap.size) w (sW j)):=by
 obtain⟨i0,hi,ab,ak,af⟩:=ft Tryz.Ut;have hp:=h.lt;have hs:=h.Au;have aR:=h.lb;have aA:=h.len;have V:=afK ax;have PV:Hid _:=V;clear V;have h1:=h.alloc (ζ #[ι ξ 0,ς ν 0 0] 292);have h2:=h1.alloc (ζ #[ι ξ (lZ (Lx.hd j)),ς ν 0 0] 292);have kB:=(aj.new w #[ι ξ 0,ς ν 0 0] 292).alloc (ζ #[ι ξ (lZ (Lx.hd j)),ς ν 0 0] 292);have kC:=aj.new (w.alloc (ζ #[ι ξ 0,ς ν 0 0] 292)) #[ι ξ (lZ (Lx.hd j)),ς ν 0 0] 292;rw[show (w.alloc (ζ #[ι ξ 0,ς ν 0 0] 292)).heap.size=w.heap.size+1 by simp]at kC;have G0:=aI (aM w (ζ #[ι ξ 0,ς ν 0 0] 292) (ο p)) (aM _ (ζ #[ι ξ (lZ (Lx.hd j)),ς ν 0 0] 292) (ο p));go_enter func128,ntmps128
 go_wp2_with (first
  | (go_at_call 127;refine(nV h1).mono ?_;rintro e w'⟨rfl,W⟩;obtain rfl:=W.symm)
  | (go_at_call 126;refine(Ja _ _).mono ?_;rintro e w'⟨rfl,W⟩;obtain rfl:=W.symm))
 refine(DJ h2 PV.out).mono ?_;rintro e w1⟨rfl,D,S⟩;have ac:=kB.grown D (by simp;omega);have iR:=kC.grown D (by simp;omega);have G1:=aI G0 D;have s1:=D.size;have sA:((w.alloc (ζ #[ι ξ 0,ς ν 0 0] 292)).alloc (ζ #[ι ξ (lZ (Lx.hd j)),ς ν 0 0] 292)).heap.size=w.heap.size+2:=by simp
 have c0:=iR.a1;have f0:=iR.frozen;clear kB kC G0 h2 h1;have P:=S.drew;have Q:=aI G1 (nU w1 (ο p));have D9:za (w.heap.size+2) w1 9 1 cT KT (ς ν 0 0) [] [] (fun _=>False):=⟨rfl,eV _ _ _ _,fun q h=>by simp at h,fun b h=>h.elim,fun _ _ h=>h⟩;cases m:jm Lx.isToken j.tail with
 |error x=>
  obtain⟨n,a⟩:=x;have J:Hid _:=m;have HE:Hid (sW j=.error (n,a)):=by show _=_;unfold sW;rw[m]
  clear m;go_wp2_with fail;refine tG (by kernel_rfl) ?_;refine oS (i:=0) (v:=π (ο ⟨w.heap.size+1,1,ν⟩)) rfl (by kernel_rfl) (by kernel_rfl) (by kernel_rfl) (fun _ _ _ h=>h) (rg ⟨by rfl,fun w=>by go_simp⟩) ?_;refine oS (i:=2) (v:=π (ο ⟨p,0,ν⟩)) rfl (by kernel_rfl) (by kernel_rfl) (by kernel_rfl) (fun _ _ _ h=>h) (rg ⟨by rfl,fun w=>by go_simp⟩) ?_;refine oS (i:=3) (v:=π (ο ⟨p,0,ν⟩)) rfl (by kernel_rfl) (by kernel_rfl) (by kernel_rfl) (fun _ _ _ h=>h) (rg ⟨by rfl,fun w=>by go_simp⟩) ?_;refine oS (i:=4) (v:=π (ο ⟨p,0,ν⟩)) rfl (by kernel_rfl) (by kernel_rfl) (by kernel_rfl) (fun _ _ _ h=>h) (rg ⟨by rfl,fun w=>by go_simp⟩) ?_;refine pM (rs:=[1,5]) (by kernel_rfl) (by simp) ?_;refine mj rfl (fun K M=>?_) (mj rfl (fun K M=>?_) px)
  ·change if _ then Oper.wp _ _ _ w1.drew _ _ else _
   go_simp
   refine M _ _ ?_;clear M K;refine pM (rs:=[5]) (by kernel_rfl) (by simp) ?_;refine mj rfl (fun K M=>?_) px;exact uS rfl 169 #[π (ο ⟨p,0,ν⟩)] (by go_simp) (BI P) fun e w2 z=>by obtain⟨rfl,d⟩:=z.err J.out;exact⟨_,rfl,rfl,Ends.no HE.out (aI Q d)⟩
  ·change if _ then Oper.wp _ _ _ w1.drew _ _ else _
   exact uS rfl 169 #[π (ο ⟨p,0,ν⟩)] (by go_simp) (BI P) fun e w2 z=>by obtain⟨rfl,d⟩:=z.err J.out;exact⟨_,rfl,rfl,Ends.no HE.out (aI Q d)⟩
 |ok x=>
  obtain⟨b,iP⟩:=x;have pE:=ah3 m;have ag:Hid _:=pE;have am:=(FD m).1;have av:=S.wf.yU;have bd:=h.wf.yU;have ad:iP.length+1=j.tail.length:=by rw[am];exact av
  have J:Hid _:=m;clear m pE am;go_wp2_with fail
  go_region_law (first
   | (refine step_append_lies _ rfl (.tmp 15) (.tmp 20) 45 rfl (w.heap.size+2) 9 i0 _ 1 16 underlying45 hi ab ak af rfl (by decide) (.slice ν 0 0) 0 [] (by simp[Act.eval]) (G.alloc _) ⟨w2.heap.size,0,ν⟩ 1 1 (cT (.bool ε,(b,Lx.pl j.tail))) (by simp[Act.eval]) rfl (bQ (aj.new w2 _ 9)) (by simp[cT,Value.oneCell']) (by decide) (by unfold maxLen;omega) (by omega) (by have:=d.size;simp at this;simp;omega) _ rfl ?_;intro g l T B c an aP;have gJ:=(iM.alloc _).grown c (by simp[Value.ownBlock]);have az:T.cell? ⟨w.heap.size+1,1,ν⟩=ο (.slice ν 0 0):=gJ.cell 1;have ap:∀i,T.frozen? ⟨w.heap.size+1,i,ν⟩=ε:=gJ.frozen)
   | (refine eZ rfl 169 #[π (ο ⟨p,0,ν⟩)] (by go_simp) (BI P) ?_;intro e w2 z;obtain⟨vv,rfl,d,m,rfl⟩:=z.ok J.out;refine⟨_,rfl,?_⟩;have G:=((D9.kept uR (nU w1 ν) (by simp)).kept uR d (fun k A=>by cases A;omega)).2.1;have iM:=iR.drew.grown d (by simp;omega);have VW:w2.cell? ⟨w.heap.size+1,1,ν⟩=ο (ς ν 0 0):=iM.cell 1;have ad:=iM.lt))
  all_goals
   have G3:=za.push uR (D9.kept uR (nU w1 ν) (by simp)) (p:=p) (by omega) (by have:w1.drew.heap.size=w1.heap.size:=rfl;omega) d (μ ε,(b,Lx.pl j.tail)) trivial (aM w2 _ ν) B c an;have ah:=((ac.drew.grown d (by simp;omega)).alloc _).grown c (by simp[Value.ownBlock]);have ae:=(m.alloc _).grown c (by simp[Value.ownBlock]) (by simp[Value.ownBlock]);have PS:=Du (aI Q d) (aM w2 _ ν) c (by simp[Value.ownBlock]);have bc:w2.heap.size+1<=T.heap.size:=by have:=c.size;simpa using this
   have aV:w1.heap.size<=w2.heap.size:=d.size;clear B c an G iM VW c0 f0;go_wp2_with fail;have aw:(T.setCell ⟨w.heap.size+1,1,ν⟩ (ς (ο ⟨g,0,ν⟩) 1 l)).heap.size=T.heap.size:=by simp[World.setCell]
   have Gs:Grow (w.heap.size+2) (T.setCell ⟨w.heap.size+1,1,ν⟩ (ς (ο ⟨g,0,ν⟩) 1 l)) 9 1 cT KT (ς (ο ⟨g,0,ν⟩) 1 l) [(b,Lx.pl j.tail)]:=Grow.kept uR G3 (iO T (w.heap.size+1) 1 _) (fun k A=>by cases A;omega);have KG:=ae.setOther (b:=w.heap.size+1) 1 (ς (ο ⟨g,0,ν⟩) 1 l) (by omega) (by omega);have KH:=gJ.set 1 (ς (ο ⟨g,0,ν⟩) 1 l);have KJ:=ah.other (b':=w.heap.size+1) (i:=1) (by omega) (ς (ο ⟨g,0,ν⟩) 1 l);have gS:=eG PS (b:=w.heap.size+1) (by omega) 1 (ς (ο ⟨g,0,ν⟩) 1 l);clear G3 gJ ah ae PS az ap
   go_loopg [] iP.length (fun k wr=>∃(t:List Tk)(s:List Tk)(v:υ)(f:Nat),t.length=k/\t.length<=f/\s.length+t.length<=j.length/\w.heap.size+2<=wr.heap.size/\Rd sb U L p wr t 0/\aj wr (w.heap.size+1) #[ι ξ (lZ (Lx.hd j)),v] 292/\aj wr w.heap.size #[ι ξ 0,ς ν 0 0] 292 /\
     Grow (w.heap.size+2) wr 9 1 cT KT v s/\w.grownBy wr (ο p)/\Hid (sW j=J6 (lZ (Lx.hd j)).toNat (sU f t s)))
   case atStart=>exact⟨iP,[(b,Lx.pl j.tail)],_,iP.length,rfl,dv _,by simp;omega,by omega,KG,KH,KJ,Gs,gS,ag⟩
   case round=>
    obtain⟨t,s,v,f,A,hf,a9,hsz,Y,xZ,wm,R,hg,y⟩:=hrel;clear Gs KG KH KJ gS aw ag ac iR D9 P Q S D d m z;have V:=Y.wf.ne;obtain⟨f',rfl⟩:∃f',f=f'+1:=⟨f-1,by omega⟩;obtain⟨ps,F,N⟩:=R;have o:=N.2.1;obtain⟨va,vk,vc,rfl⟩:=FL o;have c0:=xZ.a1;have ck:=xZ.a0;have f0:=xZ.frozen
    by_cases H:Lx.hd t=zh
    ·have HP:Hid (sW j=.ok (⟨(lZ (Lx.hd j)).toNat,s⟩,t.tail)):=by
      show _=_;rw[y.out];simp only[sU];rw[du H];rfl
     have Z:Hid _:=H;clear H y;go_wp2_with fail;refine(Nj Y zh (by decide) Z.out).mono ?_;rintro e w4⟨rfl,I,r⟩;have PU:=xZ.grown I (by simp;omega);have mE:=wm.grown I (by simp;omega);have d0:=PU.a0;have d1:=PU.a1;have e0:=mE.a0;have e1:=mE.a1;have f2:=mE.frozen;have aa:=Grow.seq uR (Grow.kept uR ⟨ps,F,N⟩ I (fun k A=>by cases A;omega));have ai:(((lZ (Lx.hd j)).toNat:Nat):Int)=lZ (Lx.hd j):=by omega
     have ao:Hid _:=ai;clear ai;go_wp2_with fail;refine iS (v:=γ #[ι ξ (lZ (Lx.hd j)),ς va vk vc]) (by simp[results,results128,go_sem,e0,e1]) rfl ?_;refine Ends.yes HP.out (eG (eG (aI hg I) (dv _) _ _) (dv _) _ _) ((r.setOther _ _ (by omega) (by omega)).setOther _ _ (by omega) (by omega)) ⟨_,by rw[ao.out],?_⟩;refine aa.move (fun b H=>?_) (fun b H=>?_) (fun _ _ h=>h)
     ·have h1:=H.1
      rw[fy _ _ _ _ (fun e=>by have e':b=w.heap.size:=e;omega),fy _ _ _ _ (fun e=>by have e':b=w.heap.size:=e;omega)]
     ·have h1:=H.1
      have h2:=H.2;exact⟨by omega,by simpa [World.setCell]using h2⟩
    ·have Z:Hid (¬Lx.hd t=zh):=H
     clear H;have P:=Y.drew;have Q:=aI hg (nU wr (ο p));cases r:jm Lx.isToken t with
     |error x=>
      obtain⟨n,a⟩:=x;have HE:Hid (sW j=.error (n,a)):=by
       show _=_;rw[y.out];simp only[sU];rw[dt Z.out,r];rfl
      have O:Hid _:=r;clear r y
      go_wp2_with (first
       | (go_at_call 170;refine(Jh Y zh Z.out).mono ?_;rintro e w'⟨rfl,W⟩;obtain rfl:=W.symm))
      refine tG (by kernel_rfl) ?_;refine oS (i:=0) (v:=π (ο ⟨w.heap.size+1,1,ν⟩)) rfl (by kernel_rfl) (by kernel_rfl) (by kernel_rfl) (fun _ _ _ h=>h) (rg ⟨by rfl,fun w=>by go_simp⟩) ?_;refine oS (i:=2) (v:=π (ο ⟨p,0,ν⟩)) rfl (by kernel_rfl) (by kernel_rfl) (by kernel_rfl) (fun _ _ _ h=>h) (rg ⟨by rfl,fun w=>by go_simp⟩) ?_;refine oS (i:=3) (v:=π (ο ⟨p,0,ν⟩)) rfl (by kernel_rfl) (by kernel_rfl) (by kernel_rfl) (fun _ _ _ h=>h) (rg ⟨by rfl,fun w=>by go_simp⟩) ?_;refine oS (i:=4) (v:=π (ο ⟨p,0,ν⟩)) rfl (by kernel_rfl) (by kernel_rfl) (by kernel_rfl) (fun _ _ _ h=>h) (rg ⟨by rfl,fun w=>by go_simp⟩) ?_;refine pM (rs:=[1,5]) (by kernel_rfl) (by simp) ?_;refine mj rfl (fun K M=>?_) (mj rfl (fun K M=>?_) px)
      ·change if _ then Oper.wp _ _ _ wr.drew _ _ else _
       go_simp
       refine M _ _ ?_;clear M K;refine pM (rs:=[5]) (by kernel_rfl) (by simp) ?_;refine mj rfl (fun K M=>?_) px;exact uS rfl 169 #[π (ο ⟨p,0,ν⟩)] (by go_simp) (BI P) fun e w2 z=>by obtain⟨rfl,d⟩:=z.err O.out;exact⟨_,rfl,rfl,Ends.no HE.out (aI Q d)⟩
      ·change if _ then Oper.wp _ _ _ wr.drew _ _ else _
       exact uS rfl 169 #[π (ο ⟨p,0,ν⟩)] (by go_simp) (BI P) fun e w2 z=>by obtain⟨rfl,d⟩:=z.err O.out;exact⟨_,rfl,rfl,Ends.no HE.out (aI Q d)⟩
     |ok x=>
      obtain⟨bb,pz⟩:=x;have al:=(FD r).1;have GV:=Y.wf.yU;have xL:pz.length+1=t.length:=by rw[al];exact GV
      have Cz:Hid (sW j=J6 (lZ (Lx.hd j)).toNat (sU f' pz (s++[(bb,Lx.pl t)]))):=by
       show _=_;rw[y.out];simp only[sU];rw[dt Z.out,r]
      have O:Hid _:=r;clear r y al
      go_wp2_with (first
       | (go_at_call 170;refine(Jh Y zh Z.out).mono ?_;rintro e w'⟨rfl,W⟩;obtain rfl:=W.symm))
      go_region_law (first
       | (refine step_append_lies _ rfl (.tmp 29) (.tmp 34) 45 rfl (w.heap.size+2) 9 i0 _ 1 16 underlying45 hi ab ak af rfl (by decide) (.slice va vk vc) s.length (ps.flatMap cT) (by simp[Act.eval]) (C.alloc _) ⟨w5.heap.size,0,ν⟩ 1 1 (cT (.bool ε,(bb,Lx.pl t))) (by simp[Act.eval]) rfl (bQ (aj.new w5 _ 9)) (by simp[cT,Value.oneCell']) (by decide) (by unfold maxLen;omega) (by omega) (by have:=u.size;simp at this;simp;omega) _ rfl ?_;intro g6 aE w6 E X xM bf;have VY:=(nC.alloc _).grown X (fun e=>by have:=(o.lt _ e.symm).1;omega);have ba:w6.cell? ⟨w.heap.size+1,1,ν⟩=ο (.slice va vk vc):=VY.cell 1;have aX:∀i,w6.frozen? ⟨w.heap.size+1,i,ν⟩=ε:=VY.frozen)
       | (refine eZ rfl 169 #[π (ο ⟨p,0,ν⟩)] (by go_simp) (BI P) ?_;intro e w5 z;obtain⟨vv,rfl,u,qQ,rfl⟩:=z.ok O.out;refine⟨_,rfl,?_⟩;have C:=((N.kept uR (nU wr ν) (by simp)).kept uR u (fun k A=>by cases A;omega)).2.1;have nC:=xZ.drew.grown u (by simp;omega);have KM:w5.cell? ⟨w.heap.size+1,1,ν⟩=ο (ς va vk vc):=nC.cell 1;have Gx:=nC.lt))
      all_goals
       have G6:=za.push uR (N.kept uR (nU wr ν) (by simp)) (p:=p) (by omega) (by have:wr.drew.heap.size=wr.heap.size:=rfl;omega) u (μ ε,(bb,Lx.pl t)) trivial (aM w5 _ ν) E X xM;have qR:=((wm.drew.grown u (by simp;omega)).alloc _).grown X (fun e=>by have:=(o.lt _ e.symm).1;omega);have Av:=(qQ.alloc _).grown X (fun e=>by have:=(o.lt _ e.symm).1;omega) (fun e=>by have:=(o.lt _ e.symm).1;omega);have ar:=Du (aI Q u) (aM w5 _ ν) X (fun k A=>by have:=(o.lt _ A).1;omega);have aq:=X.size;have bg:=u.size;have aH:wr.drew.heap.size=wr.heap.size:=rfl;clear E X xM C nC KM c0 f0 z;go_wp2_with fail;go_roundg pz.length
       case measure=>omega
       case rel=>
        refine⟨pz,s++[(bb,Lx.pl t)],_,f',rfl,by omega,by simp;omega,?_,Av.setOther _ _ (by omega) (by omega),VY.set 1 _,qR.other (by omega) _,?_,eG ar (by omega) _ _,Cz⟩
        ·simp only[World.setCell,Array.size_modify];have:=aq;simp at this;omega
        ·exact Grow.kept uR G6 (iO w6 (w.heap.size+1) 1 _) (fun k A=>by cases A;omega)
end

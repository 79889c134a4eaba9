import Derived.WalkKit
import Derived.Deep.AppendLies
import Derived.Test.YtlcppnabbicmoaaGreatDoorProg
import Derived.WalkSpells
import Derived.WalkLawsBesides
import Derived.Deep.LoopGhost
import Derived.RegionTactic
set_option maxHeartbeats 8000000
set_option maxRecDepth 1000000
namespace Go.Proofs.YtlcppnabbicmoaaGreatDoor
open Go Go.RowKit
namespace Lx
def byteAt (s:ByteArray)(i:Nat):Int:=((s.data.getD i 0).toNat:Int)
theorem byteAt_eq (s:ByteArray)(i:Nat)(h:i<s.size):byteAt s i=(s[i].toNat:Int):=by
 unfold byteAt;have h':i<s.data.size:=h;rw[Array.getD_eq_getD_getElem?,Array.getElem?_eq_getElem h'];rfl
theorem byteAt_bd (s:ByteArray)(i:Nat):0<=byteAt s i/\byteAt s i<=255:=by
 unfold byteAt;have:=(s.data.getD i 0).toNat_lt;omega
def gapTo (s:ByteArray):Nat->Nat->Bool->Nat
 | 0,i,_=>i
 | f+1,i,r =>
  if byteAt s i=10 then gapTo s f (i+1) false
  else if byteAt s i=35 then gapTo s f (i+1) true
  else if r=false/\byteAt s i≠32/\byteAt s i≠9 then i
  else gapTo s f (i+1) r
def gapEnd (s:ByteArray)(i:Nat)(r:Bool):Nat:=gapTo s (s.size-i) i r
theorem gapEnd_done {s:ByteArray}{i:Nat}(r:Bool)(h:s.size<=i):gapEnd s i r=i:=by
 unfold gapEnd;rw[show s.size-i=0 by omega];rfl
theorem gapEnd_step {s:ByteArray} {i:Nat} (r:Bool) (h:i<s.size):gapEnd s i r =
  if byteAt s i=10 then gapEnd s (i+1) false
  else if byteAt s i=35 then gapEnd s (i+1) true
  else if r=false/\byteAt s i≠32/\byteAt s i≠9 then i
  else gapEnd s (i+1) r:=by
 unfold gapEnd;rw[show s.size-i=(s.size - (i+1))+1 by omega];rfl
theorem gap_nl {s:ByteArray}{k:Nat}{b:Bool}{r:Nat}(h:k<s.size)(hg:gapEnd s k b=r)(hc:(s[k].toNat:Int)=10):gapEnd s (k+1) false=r:=by
 rw[gapEnd_step b h,byteAt_eq s k h,if_pos hc]at hg;exact hg
theorem gap_hash {s:ByteArray}{k:Nat}{b:Bool}{r:Nat}(h:k<s.size)(hg:gapEnd s k b=r)(hc:(s[k].toNat:Int)=35):gapEnd s (k+1) true=r:=by
 rw[gapEnd_step b h,byteAt_eq s k h,if_neg (by omega),if_pos hc]at hg;exact hg
theorem gap_rem {s:ByteArray}{k:Nat}{r:Nat}(h:k<s.size)(hg:gapEnd s k true=r)(hc:(s[k].toNat:Int)≠10)(hd:(s[k].toNat:Int)≠35):gapEnd s (k+1) true=r:=by
 rw[gapEnd_step true h,byteAt_eq s k h,if_neg hc,if_neg hd,if_neg (by simp)]at hg;exact hg
theorem gap_blank {s:ByteArray}{k:Nat}{r:Nat}(h:k<s.size)(hg:gapEnd s k false=r)(hd:(s[k].toNat:Int)=32∨(s[k].toNat:Int)=9):gapEnd s (k+1) false=r:=by
 rw[gapEnd_step false h,byteAt_eq s k h,if_neg (by omega),if_neg (by omega),if_neg (by omega)]at hg;exact hg
theorem gap_stop {s:ByteArray}{k:Nat}{r:Nat}(h:k<s.size)(hg:gapEnd s k false=r)(h1:(s[k].toNat:Int)≠10)(h2:(s[k].toNat:Int)≠35)(h3:(s[k].toNat:Int)≠32)(h4:(s[k].toNat:Int)≠9):k=r:=by
 rw[gapEnd_step false h,byteAt_eq s k h,if_neg h1,if_neg h2,if_pos ⟨rfl,h3,h4⟩]at hg;exact hg
theorem gapTo_bd (s:ByteArray):∀ (f i:Nat) (r:Bool),i<=gapTo s f i r/\gapTo s f i r<=i+f
 | 0,i,r=>by simp[gapTo]
 | f+1,i,r=>by
  have h1:=gapTo_bd s f (i+1) false;have h2:=gapTo_bd s f (i+1) true;have h3:=gapTo_bd s f (i+1) r;unfold gapTo
  split
  ·omega
  ·split
   ·omega
   ·split <;> omega
theorem gapEnd_bd {s:ByteArray}{i:Nat}(r:Bool)(h:i<=s.size):i<=gapEnd s i r/\gapEnd s i r<=s.size:=by
 have:=gapTo_bd s (s.size-i) i r;unfold gapEnd;omega
def small (c:Int):Bool:=decide (97<=c/\c<=122)
def capital (c:Int):Bool:=decide (65<=c/\c<=90)
def digit (c:Int):Bool:=decide (48<=c/\c<=57)
def wordB (c:Int):Bool:=small c || capital c || digit c
def wordTo (s:ByteArray):Nat->Nat->Nat
 | 0,i=>i
 | f+1,i=>if wordB (byteAt s i)=true then wordTo s f (i+1) else i
def wordEnd (s:ByteArray)(i:Nat):Nat:=wordTo s (s.size-i) i
theorem wordEnd_done {s:ByteArray}{i:Nat}(h:s.size<=i):wordEnd s i=i:=by
 unfold wordEnd;rw[show s.size-i=0 by omega];rfl
theorem wordEnd_step {s:ByteArray}{i:Nat}(h:i<s.size):wordEnd s i=if wordB (byteAt s i)=true then wordEnd s (i+1) else i:=by
 unfold wordEnd;rw[show s.size-i=(s.size - (i+1))+1 by omega];rfl
theorem wordTo_bd (s:ByteArray):∀ (f i:Nat),i<=wordTo s f i/\wordTo s f i<=i+f
 | 0,i=>by simp[wordTo]
 | f+1,i=>by
  have h1:=wordTo_bd s f (i+1);unfold wordTo
  split <;> omega
theorem wordEnd_bd {s:ByteArray}{i:Nat}(h:i<=s.size):i<=wordEnd s i/\wordEnd s i<=s.size:=by
 have:=wordTo_bd s (s.size-i) i;unfold wordEnd;omega
def signEnd (s:ByteArray)(i:Nat):Nat:=max (wordEnd s (if byteAt s i=37 then i+1 else i)) (i+1)
theorem signEnd_bd {s:ByteArray}{i:Nat}(h:i<s.size):i<signEnd s i/\signEnd s i<=s.size:=by
 have h1:=wordEnd_bd (s:=s) (i:=if byteAt s i=37 then i+1 else i) (by split <;> omega);unfold signEnd;omega
end Lx
end Go.Proofs.YtlcppnabbicmoaaGreatDoor
namespace Go.Proofs.YtlcppnabbicmoaaGreatDoor
open Go Go.RowKit
namespace Lx
abbrev Tk:=ByteArray × Nat
def nextAt (s:ByteArray)(i:Nat):Nat:=gapEnd s (signEnd s i) false
def lexTo (s:ByteArray):Nat->Nat->List Tk
 | 0,i=>[((⟨#[]⟩:ByteArray),i)]
 | f+1,i=>if i<s.size then (s.extract i (signEnd s i),i)::lexTo s f (nextAt s i) else [((⟨#[]⟩:ByteArray),i)]
def lexAt (s:ByteArray)(i:Nat):List Tk:=lexTo s (s.size-i) i
def lex (s:ByteArray):List Tk:=lexAt s (gapEnd s 0 false)
theorem nextAt_bd {s:ByteArray}{i:Nat}(h:i<s.size):i<nextAt s i/\nextAt s i<=s.size:=by
 have h1:=signEnd_bd h;have h2:=gapEnd_bd (s:=s) (i:=signEnd s i) false h1.2;unfold nextAt;omega
theorem lexTo_fuel (s:ByteArray):∀ (f g i:Nat),s.size-i<=f->s.size-i<=g->lexTo s f i=lexTo s g i
 | 0,0,i,_,_=>rfl
 | 0,g+1,i,hf,_=>by simp only[lexTo];rw[if_neg (by omega)]
 | f+1,0,i,_,hg=>by simp only[lexTo];rw[if_neg (by omega)]
 | f+1,g+1,i,hf,hg=>by
  simp only[lexTo]
  by_cases h:i<s.size
  ·have:=nextAt_bd h
   rw[if_pos h,if_pos h,lexTo_fuel s f g (nextAt s i) (by omega) (by omega)]
  ·rw[if_neg h,if_neg h]
theorem lexAt_done {s:ByteArray}{i:Nat}(h:s.size<=i):lexAt s i=[((⟨#[]⟩:ByteArray),i)]:=by
 unfold lexAt;rw[show s.size-i=0 by omega];rfl
theorem lexAt_step {s:ByteArray}{i:Nat}(h:i<s.size):lexAt s i=(s.extract i (signEnd s i),i)::lexAt s (nextAt s i):=by
 have hb:=nextAt_bd h;unfold lexAt;rw[show s.size-i=(s.size-i-1)+1 by omega];simp only[lexTo];rw[if_pos h,lexTo_fuel s _ (s.size-nextAt s i) (nextAt s i) (by omega) (by omega)]
theorem lexTo_len (s:ByteArray):∀ (f i:Nat),(lexTo s f i).length<=f+1
 | 0,i=>by simp[lexTo]
 | f+1,i=>by
  have:=lexTo_len s f (nextAt s i);simp only[lexTo]
  split <;> simp <;> omega
theorem lexAt_len (s:ByteArray)(i:Nat):(lexAt s i).length<=s.size+1:=by
 have:=lexTo_len s (s.size-i) i;unfold lexAt;omega
def tkCells (l:List Tk):List Value:=l.flatMap fun t=>[.string t.1,.int .i64 (t.2:Int)]
theorem tkCells_append (a b:List Tk):tkCells (a++b)=tkCells a++tkCells b:=by simp[tkCells]
theorem tkCells_get (l:List Tk)(k:Nat)(t:Tk)(h:l[k]?=some t):(tkCells l)[k*2]?=some (.string t.1)/\(tkCells l)[k*2+1]?=some (.int .i64 (t.2:Int)):=by
 induction l generalizing k with
 | nil=>simp at h
 | cons u l ih =>
  cases k with
  | zero=>simp at h;subst h;simp[tkCells]
  | succ k =>
   have h1:=ih k (by simpa using h);have e:tkCells (u::l)=[.string u.1,.int .i64 (u.2:Int)]++tkCells l:=by simp[tkCells]
   rw[e,List.getElem?_append_right (by simp;omega),List.getElem?_append_right (by simp;omega)];simp only[List.length_cons,List.length_nil];rw[show (k+1)*2 - (0+1+1)=k*2 by omega,show (k+1)*2+1 - (0+1+1)=k*2+1 by omega];exact h1
end Lx
end Go.Proofs.YtlcppnabbicmoaaGreatDoor
namespace Go.Proofs.YtlcppnabbicmoaaGreatDoor
open Go Go.RowKit
namespace Lx
def noText:ByteArray:=⟨#[]⟩
def WF:List Tk->Prop
 | []=>False
 | [t]=>t.1=noText
 | t::u::r=>t.1≠noText/\WF (u::r)
def hd (ts:List Tk):ByteArray:=(ts.headD (noText,0)).1
def pl (ts:List Tk):Nat:=(ts.headD (noText,0)).2
theorem WF.ne {ts:List Tk}(h:WF ts):0<ts.length:=by
 cases ts with
 | nil=>exact h.elim
 | cons t r=>simp
theorem WF.tail {ts:List Tk}(h:WF ts)(hn:hd ts≠noText):WF ts.tail:=by
 match ts,h with
 | [],h=>exact h.elim
 | [t],h=>exact absurd h hn
 | t::u::r,h=>exact h.2
theorem WF.tail_len {ts:List Tk}(h:WF ts):ts.tail.length+1=ts.length:=by
 have:=h.ne;simp;omega
theorem lexTo_wf (s:ByteArray):∀ (f i:Nat),s.size-i<=f->WF (lexTo s f i)
 | 0,i,_=>rfl
 | f+1,i,hf=>by
  simp only[lexTo]
  by_cases h:i<s.size
  ·have hb:=signEnd_bd h
   have hn:=nextAt_bd h;have ih:=lexTo_wf s f (nextAt s i) (by omega);rw[if_pos h];have hne:s.extract i (signEnd s i)≠noText:=by
    intro e;have:=congrArg ByteArray.size e;simp[noText,ByteArray.size_extract]at this;have e0:(ByteArray.size ⟨#[]⟩)=0:=rfl;omega
   cases hl:lexTo s f (nextAt s i) with
   | nil=>rw[hl]at ih;exact ih.elim
   | cons u r=>rw[hl]at ih;exact⟨hne,ih⟩
  ·rw[if_neg h];rfl
theorem lex_wf (s:ByteArray):WF (lex s):=lexTo_wf s _ _ (Nat.le_refl _)
def allOf (p:Int->Bool)(b:ByteArray):Bool:=b.data.toList.all fun c=>p (c.toNat:Int) || digit (c.toNat:Int)
def isWord (p:Int->Bool)(b:ByteArray):Bool:=decide (0<b.size) && decide (b.size<=12) && p (byteAt b 0) && allOf p b
def isName (b:ByteArray):Bool:=isWord small b
def isToken (b:ByteArray):Bool:=isWord capital b
structure It where
 kind:Nat
 name:ByteArray
 mark:Nat
 alts:List (List It × ByteArray × Nat)
 place:Nat
abbrev Alt:=List It × ByteArray × Nat
structure Rl where
 name:ByteArray
 alts:List Alt
 place:Nat
structure Lv where
 kind:Nat
 tokens:List Tk
structure Gr where
 levels:List Lv
 rules:List Rl
abbrev Res (α:Type):=Except (Nat × Nat) (α × List Tk)
def tOpen:ByteArray:=⟨#[40]⟩
def tShut:ByteArray:=⟨#[41]⟩
def tStar:ByteArray:=⟨#[42]⟩
def tPlus:ByteArray:=⟨#[43]⟩
def tAsk:ByteArray:=⟨#[63]⟩
def tBar:ByteArray:=⟨#[124]⟩
def tSemi:ByteArray:=⟨#[59]⟩
def tEq:ByteArray:=⟨#[61]⟩
def tPrec:ByteArray:=⟨#[37,112,114,101,99]⟩
def tLeft:ByteArray:=⟨#[37,108,101,102,116]⟩
def tRight:ByteArray:=⟨#[37,114,105,103,104,116]⟩
def tNone:ByteArray:=⟨#[37,110,111,110,101]⟩
def pWord (k:ByteArray->Bool)(ts:List Tk):Res ByteArray:=if k (hd ts)=true then .ok (hd ts,ts.tail) else .error (2,pl ts)
def pMust (b:ByteArray)(ts:List Tk):Res Unit:=if hd ts=b then .ok ((),ts.tail) else .error (2,pl ts)
def pMark (ts:List Tk):Nat × List Tk:=if hd ts=tStar then (42,ts.tail) else if hd ts=tPlus then (43,ts.tail) else if hd ts=tAsk then (63,ts.tail) else (0,ts)
def seesItem (ts:List Tk):Bool:=decide (hd ts=tOpen) || isName (hd ts) || isToken (hd ts)
def pItem (grp:List Tk->Res (List Alt))(ts:List Tk):Res It :=
 if hd ts=tOpen then
  match grp ts with
  | .error e=>.error e
  | .ok (alts,ts1)=>.ok (⟨2,noText,(pMark ts1).1,alts,pl ts⟩,(pMark ts1).2)
 else if isName (hd ts)=true then .ok (⟨0,hd ts,(pMark ts.tail).1,[],pl ts⟩,(pMark ts.tail).2)
 else if isToken (hd ts)=true then .ok (⟨1,hd ts,(pMark ts.tail).1,[],pl ts⟩,(pMark ts.tail).2)
 else .error (2,pl ts)
def pItems (grp:List Tk->Res (List Alt)):Nat->List Tk->List It->Res (List It)
 | 0,ts,acc=>.ok (acc,ts)
 | f+1,ts,acc =>
  if seesItem ts=true then
   match pItem grp ts with
   | .error e=>.error e
   | .ok (x,ts1)=>pItems grp f ts1 (acc++[x])
  else .ok (acc,ts)
def pPrec (top:Bool)(items:List It)(ts:List Tk):Res Alt :=
 if top=true/\hd ts=tPrec then
  match pWord isToken ts.tail with
  | .error e=>.error e
  | .ok (b,ts1)=>.ok ((items,b,pl ts.tail),ts1)
 else .ok ((items,noText,0),ts)
def pAlt (grp:List Tk->Res (List Alt))(top:Bool)(ts:List Tk):Res Alt :=
 match pItems grp ts.length ts [] with
 | .error e=>.error e
 | .ok (items,ts1)=>pPrec top items ts1
def pMore (grp:List Tk->Res (List Alt)) (top:Bool):Nat->List Tk->List Alt->Res (List Alt)
 | 0,ts,acc=>.ok (acc,ts)
 | f+1,ts,acc =>
  if hd ts=tBar then
   match pAlt grp top ts.tail with
   | .error e=>.error e
   | .ok (x,ts1)=>pMore grp top f ts1 (acc++[x])
  else .ok (acc,ts)
def pAltsBy (grp:List Tk->Res (List Alt))(top:Bool)(ts:List Tk):Res (List Alt) :=
 match pAlt grp top ts with
 | .error e=>.error e
 | .ok (x,ts1)=>pMore grp top ts1.length ts1 [x]
def pGroup (alts:List Tk->Res (List Alt))(ts:List Tk):Res (List Alt) :=
 match alts ts.tail with
 | .error e=>.error e
 | .ok (l,ts1) =>
  match pMust tShut ts1 with
  | .error e=>.error e
  | .ok (_,ts2)=>.ok (l,ts2)
def pAlts:Nat->List Tk->Res (List Alt)
 | 0,ts=>pAltsBy (fun ts=>.error (3,pl ts)) false ts
 | d+1,ts=>pAltsBy (pGroup (pAlts d)) (d == 7) ts
def pGroupAt:Nat->List Tk->Res (List Alt)
 | 0,ts=>.error (3,pl ts)
 | d+1,ts=>pGroup (pAlts d) ts
theorem pAlts_eq (d:Nat)(ts:List Tk):pAlts d ts=pAltsBy (pGroupAt d) (d == 8) ts:=by
 cases d with
 | zero=>rfl
 | succ d=>simp only[pAlts];congr 1;simp
theorem pWord_len {k:ByteArray->Bool}{ts ts':List Tk}{b:ByteArray}(h:pWord k ts=.ok (b,ts')):ts'=ts.tail/\b=hd ts/\k (hd ts)=true:=by
 unfold pWord at h
 split at h
 ·rename_i hk;simp only[Except.ok.injEq,Prod.mk.injEq]at h;exact⟨h.2.symm,h.1.symm,hk⟩
 ·cases h
theorem pMust_len {b:ByteArray}{ts ts':List Tk}{u:Unit}(h:pMust b ts=.ok (u,ts')):ts'=ts.tail/\hd ts=b:=by
 unfold pMust at h
 split at h
 ·rename_i hk;simp only[Except.ok.injEq,Prod.mk.injEq]at h;exact⟨h.2.symm,hk⟩
 ·cases h
theorem pMark_len (ts:List Tk):(pMark ts).2.length<=ts.length:=by
 unfold pMark
 split
 ·simp
 ·split
  ·simp
  ·split <;> simp
theorem pItem_len {grp:List Tk->Res (List Alt)}(hg:∀ ts x ts',grp ts=.ok (x,ts')->ts'.length<=ts.tail.length){ts ts':List Tk}{x:It}(h:pItem grp ts=.ok (x,ts')):ts'.length<=ts.tail.length:=by
 unfold pItem at h
 split at h
 ·cases hr:grp ts with
  | error e=>rw[hr]at h;cases h
  | ok y =>
   obtain⟨l,ts1⟩:=y;rw[hr]at h;simp only[Except.ok.injEq,Prod.mk.injEq]at h;have h1:=hg _ _ _ hr;have h2:=pMark_len ts1;rw[<-h.2];omega
 ·split at h
  ·simp only[Except.ok.injEq,Prod.mk.injEq]at h
   rw[<-h.2];exact pMark_len _
  ·split at h
   ·simp only[Except.ok.injEq,Prod.mk.injEq]at h
    rw[<-h.2];exact pMark_len _
   ·cases h
theorem pItems_len {grp:List Tk->Res (List Alt)} (hg:∀ ts x ts',grp ts=.ok (x,ts')->ts'.length<=ts.tail.length):∀ (f:Nat) (ts:List Tk) (acc:List It) (x:List It) (ts':List Tk),pItems grp f ts acc=.ok (x,ts')->ts'.length<=ts.length
 | 0,ts,acc,x,ts',h=>by simp only[pItems,Except.ok.injEq,Prod.mk.injEq]at h;rw[h.2];exact Nat.le_refl _
 | f+1,ts,acc,x,ts',h=>by
  simp only[pItems]at h
  split at h
  ·cases hr:pItem grp ts with
   | error e=>rw[hr]at h;cases h
   | ok y =>
    obtain⟨z,ts1⟩:=y;rw[hr]at h;have h1:=pItem_len hg hr;have h2:=pItems_len hg f ts1 _ x ts' h;have h3:ts.tail.length<=ts.length:=by simp
    omega
  ·simp only[Except.ok.injEq,Prod.mk.injEq]at h;rw[h.2];exact Nat.le_refl _
theorem pPrec_len {top:Bool}{items:List It}{ts ts':List Tk}{x:Alt}(h:pPrec top items ts=.ok (x,ts')):ts'.length<=ts.length:=by
 unfold pPrec at h
 split at h
 ·cases hr:pWord isToken ts.tail with
  | error e=>rw[hr]at h;cases h
  | ok y =>
   obtain⟨b,ts1⟩:=y;rw[hr]at h;simp only[Except.ok.injEq,Prod.mk.injEq]at h;have h1:=(pWord_len hr).1;rw[<-h.2,h1];simp;omega
 ·simp only[Except.ok.injEq,Prod.mk.injEq]at h
  rw[<-h.2];exact Nat.le_refl _
theorem pAlt_len {grp:List Tk->Res (List Alt)}(hg:∀ ts x ts',grp ts=.ok (x,ts')->ts'.length<=ts.tail.length){top:Bool}{ts ts':List Tk}{x:Alt}(h:pAlt grp top ts=.ok (x,ts')):ts'.length<=ts.length:=by
 unfold pAlt at h;cases hr:pItems grp ts.length ts [] with
 | error e=>rw[hr]at h;cases h
 | ok y =>
  obtain⟨l,ts1⟩:=y;rw[hr]at h;have h1:=pItems_len hg _ _ _ _ _ hr;have h2:=pPrec_len h;omega
theorem pMore_len {grp:List Tk->Res (List Alt)} (hg:∀ ts x ts',grp ts=.ok (x,ts')->ts'.length<=ts.tail.length) {top:Bool}:∀ (f:Nat) (ts:List Tk) (acc:List Alt) (x:List Alt) (ts':List Tk),pMore grp top f ts acc=.ok (x,ts')->ts'.length<=ts.length
 | 0,ts,acc,x,ts',h=>by simp only[pMore,Except.ok.injEq,Prod.mk.injEq]at h;rw[h.2];exact Nat.le_refl _
 | f+1,ts,acc,x,ts',h=>by
  simp only[pMore]at h
  split at h
  ·cases hr:pAlt grp top ts.tail with
   | error e=>rw[hr]at h;cases h
   | ok y =>
    obtain⟨z,ts1⟩:=y;rw[hr]at h;have h1:=pAlt_len hg hr;have h2:=pMore_len hg f ts1 _ x ts' h;have h3:ts.tail.length<=ts.length:=by simp
    omega
  ·simp only[Except.ok.injEq,Prod.mk.injEq]at h;rw[h.2];exact Nat.le_refl _
theorem pAltsBy_len {grp:List Tk->Res (List Alt)}(hg:∀ ts x ts',grp ts=.ok (x,ts')->ts'.length<=ts.tail.length){top:Bool}{ts ts':List Tk}{x:List Alt}(h:pAltsBy grp top ts=.ok (x,ts')):ts'.length<=ts.length:=by
 unfold pAltsBy at h;cases hr:pAlt grp top ts with
 | error e=>rw[hr]at h;cases h
 | ok y =>
  obtain⟨l,ts1⟩:=y;rw[hr]at h;have h1:=pAlt_len hg hr;have h2:=pMore_len hg _ _ _ _ _ h;omega
theorem pGroup_len {r:List Tk->Res (List Alt)}(hr:∀ ts x ts',r ts=.ok (x,ts')->ts'.length<=ts.length)(ts:List Tk)(x:List Alt)(ts':List Tk)(h:pGroup r ts=.ok (x,ts')):ts'.length<=ts.tail.length:=by
 unfold pGroup at h;cases h1:r ts.tail with
 | error e=>rw[h1]at h;cases h
 | ok y =>
  obtain⟨l,ts1⟩:=y;rw[h1]at h;cases h2:pMust tShut ts1 with
  | error e=>simp only[h2]at h;cases h
  | ok z =>
   obtain⟨u,ts2⟩:=z;simp only[h2,Except.ok.injEq,Prod.mk.injEq]at h;have:=hr _ _ _ h1;have h3:=(pMust_len h2).1;rw[<-h.2,h3];have h4:ts1.tail.length<=ts1.length:=by simp
   omega
theorem pAlts_len:∀ (d:Nat) (ts:List Tk) (x:List Alt) (ts':List Tk),pAlts d ts=.ok (x,ts')->ts'.length<=ts.length
 | 0,ts,x,ts',h=>pAltsBy_len (grp:=fun ts=>.error (3,pl ts)) (fun _ _ _ h=>by cases h) h
 | d+1,ts,x,ts',h=>pAltsBy_len (pGroup_len (pAlts_len d)) h
theorem pGroupAt_len:∀ (d:Nat) (ts:List Tk) (x:List Alt) (ts':List Tk),pGroupAt d ts=.ok (x,ts')->ts'.length<=ts.tail.length
 | 0,ts,x,ts',h=>by cases h
 | d+1,ts,x,ts',h=>pGroup_len (pAlts_len d) _ _ _ h
def pRule (ts:List Tk):Res Rl :=
 match pWord isName ts with
 | .error e=>.error e
 | .ok (n,ts1) =>
  match pMust tEq ts1 with
  | .error e=>.error e
  | .ok (_,ts2) =>
   match pAlts 8 ts2 with
   | .error e=>.error e
   | .ok (l,ts3) =>
    match pMust tSemi ts3 with
    | .error e=>.error e
    | .ok (_,ts4)=>.ok (⟨n,l,pl ts⟩,ts4)
def levelKind (b:ByteArray):Int:=if b=tLeft then 0 else if b=tRight then 1 else if b=tNone then 2 else -1
def pTokens:Nat->List Tk->List Tk->Res (List Tk)
 | 0,ts,acc=>.ok (acc,ts)
 | f+1,ts,acc =>
  if hd ts=tSemi then .ok (acc,ts.tail)
  else
   match pWord isToken ts with
   | .error e=>.error e
   | .ok (b,ts1)=>pTokens f ts1 (acc++[(b,pl ts)])
def pLevel (ts:List Tk):Res Lv :=
 match pWord isToken ts.tail with
 | .error e=>.error e
 | .ok (b,ts1) =>
  match pTokens ts1.length ts1 [(b,pl ts.tail)] with
  | .error e=>.error e
  | .ok (l,ts2)=>.ok (⟨(levelKind (hd ts)).toNat,l⟩,ts2)
def pLevels:Nat->List Tk->List Lv->Res (List Lv)
 | 0,ts,acc=>.ok (acc,ts)
 | f+1,ts,acc =>
  if 0<=levelKind (hd ts) then
   match pLevel ts with
   | .error e=>.error e
   | .ok (x,ts1)=>pLevels f ts1 (acc++[x])
  else .ok (acc,ts)
def pRules:Nat->List Tk->List Rl->Res (List Rl)
 | 0,ts,acc=>.ok (acc,ts)
 | f+1,ts,acc =>
  if hd ts=noText then .ok (acc,ts)
  else
   match pRule ts with
   | .error e=>.error e
   | .ok (x,ts1)=>pRules f ts1 (acc++[x])
def pGrammar (ts:List Tk):Res Gr :=
 match pLevels ts.length ts [] with
 | .error e=>.error e
 | .ok (lv,ts1) =>
  match pRule ts1 with
  | .error e=>.error e
  | .ok (x,ts2) =>
   match pRules ts2.length ts2 [x] with
   | .error e=>.error e
   | .ok (l,ts3)=>.ok (⟨lv,l⟩,ts3)
def parse (s:ByteArray):Except (Nat × Nat) Gr :=
 if 2000<s.size then .error (1,0)
 else
  match pGrammar (lex s) with
  | .error e=>.error e
  | .ok (g,_)=>.ok g
end Lx
end Go.Proofs.YtlcppnabbicmoaaGreatDoor
namespace Go.Proofs.YtlcppnabbicmoaaGreatDoor
open Go Go.RowKit
namespace Tr
def In (a b:Nat):Nat->Prop:=fun g=>a<=g/\g<b
theorem own_le {w:World}{base base' e size:Nat}{v:Value}{n:Nat}{xs:List Value}(h:w.ownsRow base e size v n xs)(hb:base'<=base):w.ownsRow base' e size v n xs:=by
 refine⟨h.1,?_⟩;rcases h.2 with h0 | ⟨g,cap,cur,hv,hg,r⟩
 ·exact .inl h0
 ·exact .inr ⟨g,cap,cur,hv,Nat.le_trans hb hg,r⟩
theorem own_move {w w':World}{base e size:Nat}{v:Value}{n:Nat}{xs:List Value}(h:w.ownsRow base e size v n xs)(hs:∀ g,v.ownBlock=some g->w'.heap[g]?=w.heap[g]?):w'.ownsRow base e size v n xs:=by
 refine⟨h.1,?_⟩;rcases h.2 with h0 | ⟨g,cap,cur,hv,hg,hh,r⟩
 ·exact .inl h0
 ·refine .inr ⟨g,cap,cur,hv,hg,?_,r⟩
  rw[hs g (by rw[hv];rfl)];exact hh
section
variable {α:Type}
def Seq (F:Nat->Prop)(w:World)(e s:Nat)(c:Value × α->List Value)(K:Value->α->Prop)(v:Value)(l:List α):Prop :=
 ∃ ps:List (Value × α),ps.map Prod.snd=l/\w.ownsRow 0 e s v l.length (ps.flatMap c)/\(∀ g,v.ownBlock=some g->F g)/\∀ q,q∈ps->K q.1 q.2
theorem Seq.nil (F:Nat->Prop)(w:World)(e s:Nat)(c:Value × α->List Value)(K:Value->α->Prop):Seq F w e s c K (.slice none 0 0) [] :=
 ⟨[],rfl,World.ownsRow_nil _ _ _ _,fun g h=>by simp[Value.ownBlock]at h,fun q h=>by simp at h⟩
theorem Seq.move {F F':Nat->Prop} {w w':World} {e s:Nat} {c:Value × α->List Value} {K K':Value->α->Prop} {v:Value} {l:List α} (h:Seq F w e s c K v l)
  (hs:∀ b,F b->w'.heap[b]?=w.heap[b]?) (hF:∀ b,F b->F' b) (hK:∀ v x,K v x->K' v x):Seq F' w' e s c K' v l:=by
 obtain⟨ps,h1,h2,h3,h4⟩:=h;exact⟨ps,h1,own_move h2 fun g hg=>hs g (h3 g hg),fun g hg=>hF g (h3 g hg),fun q hq=>hK _ _ (h4 q hq)⟩
def Movable (K:(Nat->Prop)->World->Value->α->Prop):Prop :=
 ∀ (F F':Nat->Prop) (w w':World) v x,(∀ b,F b->w'.heap[b]?=w.heap[b]?)->(∀ b,F b->F' b)->K F w v x->K F' w' v x
def GrowBy (B:Nat)(w:World)(e s:Nat)(c:Value × α->List Value)(K:(Nat->Prop)->World->Value->α->Prop)(v:Value)(l:List α)(ps:List (Value × α))(F:Nat->Prop):Prop :=
 ps.map Prod.snd=l/\w.ownsRow B e s v l.length (ps.flatMap c)/\(∀ q,q∈ps->K F w q.1 q.2)/\(∀ b,F b->B<=b/\b<w.heap.size)/\∀ g,v.ownBlock=some g->¬ F g
def Grow (B:Nat)(w:World)(e s:Nat)(c:Value × α->List Value)(K:(Nat->Prop)->World->Value->α->Prop)(v:Value)(l:List α):Prop:=∃ ps F,GrowBy B w e s c K v l ps F
variable {B:Nat} {w w':World} {e s:Nat} {c:Value × α -> List Value} {K:(Nat -> Prop) -> World -> Value -> α -> Prop} {v:Value} {l:List α} {ps:List (Value × α)} {F:Nat -> Prop}
theorem Grow.nil (B:Nat)(w:World)(e s:Nat)(c:Value × α->List Value)(K:(Nat->Prop)->World->Value->α->Prop):Grow B w e s c K (.slice none 0 0) [] :=
 ⟨[],fun _=>False,rfl,World.ownsRow_nil _ _ _ _,fun q h=>by simp at h,fun b h=>h.elim,fun _ _ h=>h⟩
theorem GrowBy.kept (hm:Movable K)(h:GrowBy B w e s c K v l ps F){r:Option Nat}(hg:w.grownBy w' r)(hr:∀ k,r=some k->k<B):GrowBy B w' e s c K v l ps F:=by
 obtain⟨h1,h2,h3,h4,h5⟩:=h;have hb:∀ b,B<=b->b<w.heap.size->w'.heap[b]?=w.heap[b]?:=fun b hb hlt=>hg.block b hlt fun e=>by have:=hr b e.symm;omega
 refine⟨h1,own_move h2 fun g hg'=>hb g (h2.lt g hg').1 (h2.lt g hg').2,fun q hq=>hm F F w w' _ _ (fun b hF=>hb b (h4 b hF).1 (h4 b hF).2) (fun _ h=>h) (h3 q hq),fun b hF=>⟨(h4 b hF).1,Nat.lt_of_lt_of_le (h4 b hF).2 hg.size⟩,h5⟩
theorem Grow.kept (hm:Movable K)(h:Grow B w e s c K v l){r:Option Nat}(hg:w.grownBy w' r)(hr:∀ k,r=some k->k<B):Grow B w' e s c K v l :=
 let ⟨ps,F,h'⟩:=h;⟨ps,F,h'.kept hm hg hr⟩
theorem Grow.seq (hm:Movable K)(h:Grow B w e s c K v l):Seq (In B w.heap.size) w e s c (K (In B w.heap.size) w) v l:=by
 obtain⟨ps,F,h1,h2,h3,h4,h5⟩:=h;exact⟨ps,h1,own_le h2 (Nat.zero_le _),fun g hg=>h2.lt g hg,fun q hq=>hm F _ w w _ _ (fun _ _=>rfl) h4 (h3 q hq)⟩
theorem GrowBy.push (hm:Movable K) (h:GrowBy B w e s c K v l ps F) {p:Nat} (hp:p<B) (hB:B<=w.heap.size) {w1 w2 w3:World} (g1:w.grownBy w1 (some p)) (q:Value × α)
  (hq:K (In w.heap.size w1.heap.size) w1 q.1 q.2) (g2:w1.grownBy w2 none) {g cap:Nat} (ho:w3.ownsRow B e s (.slice (some ⟨g,0,none⟩) (l.length+1) cap) (l.length+1) (ps.flatMap c++c q))
  (g3:w2.grownBy w3 v.ownBlock) (ha:v.ownBlock=some g∨g=w2.heap.size):Grow B w3 e s c K (.slice (some ⟨g,0,none⟩) (l.length+1) cap) (l++[q.2]):=by
 obtain⟨h1,h2,h3,h4,h5⟩:=h;have s1:=g1.size;have s2:=g2.size;have s3:=g3.size;have e1:∀ b,F b->w3.heap[b]?=w.heap[b]?:=fun b hF=>by
  have hb:=h4 b hF;rw[g3.block b (by omega) (fun e=>h5 b e.symm hF),g2.block b (by omega) (by simp),g1.block b hb.2 (fun e=>by cases e;omega)]
 have e2:∀ b,In w.heap.size w1.heap.size b->w3.heap[b]?=w1.heap[b]?:=fun b hI=>by
  rw[g3.block b (by have:=hI.2;omega) (fun e=>by have:=(h2.lt b e.symm).2;have:=hI.1;omega),g2.block b hI.2 (by simp)]
 refine⟨ps++[q],fun b=>F b∨In w.heap.size w1.heap.size b,?_,?_,?_,?_,?_⟩
 ·rw[List.map_append,h1];rfl
 ·rw[List.flatMap_append,List.length_append];simpa using ho
 ·intro q' hq'
  rcases List.mem_append.1 hq' with h' | h'
  ·exact hm F _ w w3 _ _ e1 (fun _ h=>.inl h) (h3 q' h')
  ·simp at h';subst h'
   exact hm _ _ w1 w3 _ _ e2 (fun _ h=>.inr h) hq
 ·intro b hb
  rcases hb with hb | hb
  ·have:=h4 b hb;omega
  ·have:=hb.1;have:=hb.2;omega
 ·intro g' hg'
  have:g=g':=by simpa [Value.ownBlock]using hg'
  subst this;rintro (hF | hI)
  ·rcases ha with ha | ha
   ·exact h5 _ ha hF
   ·have:=h4 _ hF;omega
  ·rcases ha with ha | ha
   ·have:=(h2.lt _ ha).2;have:=hI.1;omega
   ·have:=hI.2;omega
end
structure Lay where
 eA:Nat
 sA:Nat
 cA:Value × Lx.Alt->List Value
 eI:Nat
 sI:Nat
 cI:Value × Lx.It->List Value
def ItemsBy (Y:Lay)(A:Value->List Lx.Alt->Prop)(F:Nat->Prop)(w:World)(v:Value)(l:List Lx.It):Prop :=
 Seq F w Y.eI Y.sI Y.cI (fun va it=>A va it.alts) v l
def AltsIn (Y:Lay):Nat->(Nat->Prop)->World->Value->List Lx.Alt->Prop
 | 0,_,_,v,l=>v=.slice none 0 0/\l=[]
 | d+1,F,w,v,l=>Seq F w Y.eA Y.sA Y.cA (fun vi a=>ItemsBy Y (AltsIn Y d F w) F w vi a.1) v l
def ItemsIn (Y:Lay)(d:Nat)(F:Nat->Prop)(w:World)(v:Value)(l:List Lx.It):Prop:=ItemsBy Y (AltsIn Y d F w) F w v l
theorem AltsIn.nil (Y:Lay)(d:Nat)(F:Nat->Prop)(w:World):AltsIn Y d F w (.slice none 0 0) []:=by
 cases d with
 | zero=>exact⟨rfl,rfl⟩
 | succ d=>exact Seq.nil _ _ _ _ _ _
theorem own_form {w:World}{base e size:Nat}{v:Value}{n:Nat}{xs:List Value}(h:w.ownsRow base e size v n xs):∃ a k c,v=.slice a k c:=by
 rcases h.2 with ⟨rfl,_⟩ | ⟨g,cap,cur,rfl,_⟩
 ·exact⟨_,_,_,rfl⟩
 ·exact⟨_,_,_,rfl⟩
theorem Seq.form {α:Type}{F:Nat->Prop}{w:World}{e s:Nat}{c:Value × α->List Value}{K:Value->α->Prop}{v:Value}{l:List α}(h:Seq F w e s c K v l):∃ a k c,v=.slice a k c:=by
 obtain⟨ps,_,h2,_⟩:=h;exact own_form h2
theorem AltsIn.form {Y:Lay}{d:Nat}{F:Nat->Prop}{w:World}{v:Value}{l:List Lx.Alt}(h:AltsIn Y d F w v l):∃ a k c,v=.slice a k c:=by
 cases d with
 | zero=>exact⟨_,_,_,h.1⟩
 | succ d=>exact Seq.form h
theorem AltsIn.move {Y:Lay} {F F':Nat->Prop} {w w':World} (hs:∀ b,F b->w'.heap[b]?=w.heap[b]?) (hF:∀ b,F b->F' b):∀ {d:Nat} {v:Value} {l:List Lx.Alt},AltsIn Y d F w v l->AltsIn Y d F' w' v l
 | 0,_,_,h=>h
 | d+1,_,_,h=>Seq.move (K:=fun vi (a:Lx.Alt)=>ItemsBy Y (AltsIn Y d F w) F w vi a.1) h hs hF fun _ _ hi=>Seq.move (K:=fun va (it:Lx.It)=>AltsIn Y d F w va it.alts) hi hs hF fun _ _ ha=>AltsIn.move hs hF ha
theorem ItemsIn.move {Y:Lay}{d:Nat}{F F':Nat->Prop}{w w':World}(hs:∀ b,F b->w'.heap[b]?=w.heap[b]?)(hF:∀ b,F b->F' b){v:Value}{l:List Lx.It}(h:ItemsIn Y d F w v l):ItemsIn Y d F' w' v l :=
 Seq.move (K:=fun va (it:Lx.It)=>AltsIn Y d F w va it.alts) h hs hF fun _ _ ha=>AltsIn.move hs hF ha
theorem alts_movable (Y:Lay)(d:Nat):Movable (α:=Lx.It) (fun F w va it=>AltsIn Y d F w va it.alts):=fun _ _ _ _ _ _ hs hF h=>AltsIn.move hs hF h
theorem items_movable (Y:Lay)(d:Nat):Movable (α:=Lx.Alt) (fun F w vi a=>ItemsIn Y d F w vi a.1):=fun _ _ _ _ _ _ hs hF h=>ItemsIn.move hs hF h
theorem rule_movable (Y:Lay)(d:Nat):Movable (α:=Lx.Rl) (fun F w va r=>AltsIn Y d F w va r.alts):=fun _ _ _ _ _ _ hs hF h=>AltsIn.move hs hF h
end Tr
end Go.Proofs.YtlcppnabbicmoaaGreatDoor
namespace Go.Proofs.YtlcppnabbicmoaaGreatDoor
open Go Go.RowKit
namespace Tr
/-! Trees whose rows lie apart from one another: what is needed where an item is known by its address. -/
def Sep (Fs:List (Nat->Prop)):Prop:=Fs.Pairwise fun A B=>∀ b,A b->B b->False
theorem sep_push {Fs:List (Nat->Prop)}(h:Sep Fs){B:Nat->Prop}(hB:∀ A,A∈Fs->∀ b,A b->B b->False):Sep (Fs++[B]):=by
 unfold Sep at *;rw[List.pairwise_append];exact⟨h,List.pairwise_singleton _ _,fun A hA C hC=>by simp only[List.mem_singleton]at hC;subst hC;exact hB A hA⟩
section
variable {α:Type}
def SeqS (F:Nat->Prop)(w:World)(e s:Nat)(c:Value × α->List Value)(K:(Nat->Prop)->World->Value->α->Prop)(v:Value)(l:List α):Prop :=
 ∃ (ps:List (Value × α)) (Fs:List (Nat->Prop)),ps.map Prod.snd=l/\w.ownsRow 0 e s v l.length (ps.flatMap c)/\(∀ g,v.ownBlock=some g->F g/\∀ A,A∈Fs->¬ A g)/\(∀ A,A∈Fs->∀ b,A b->F b)/\Sep Fs/\Fs.length=ps.length/\∀ (j:Nat) (q:Value × α) (A:Nat->Prop),ps[j]?=some q->Fs[j]?=some A->K A w q.1 q.2
theorem SeqS.nil (F:Nat->Prop)(w:World)(e s:Nat)(c:Value × α->List Value)(K:(Nat->Prop)->World->Value->α->Prop):SeqS F w e s c K (.slice none 0 0) [] :=
 ⟨[],[],rfl,World.ownsRow_nil _ _ _ _,(fun g h=>by simp[Value.ownBlock]at h),(fun A h=>by cases h),List.Pairwise.nil,rfl,(fun j q A h=>by simp at h)⟩
theorem SeqS.move {F F':Nat->Prop} {w w':World} {e s:Nat} {c:Value × α->List Value} {K K':(Nat->Prop)->World->Value->α->Prop} {v:Value} {l:List α} (h:SeqS F w e s c K v l)
  (hs:∀ b,F b->w'.heap[b]?=w.heap[b]?) (hF:∀ b,F b->F' b) (hK:∀ A v x,(∀ b,A b->F b)->K A w v x->K' A w' v x):SeqS F' w' e s c K' v l:=by
 obtain⟨ps,Fs,h1,h2,h3,h4,h5,h6,h7⟩:=h;exact⟨ps,Fs,h1,own_move h2 fun g hg=>hs g (h3 g hg).1,fun g hg=>⟨hF g (h3 g hg).1,(h3 g hg).2⟩,fun A hA b hb=>hF b (h4 A hA b hb),h5,h6,fun j q A hq hA=>hK A _ _ (h4 A (List.mem_of_getElem? hA)) (h7 j q A hq hA)⟩
theorem SeqS.form {F:Nat->Prop}{w:World}{e s:Nat}{c:Value × α->List Value}{K:(Nat->Prop)->World->Value->α->Prop}{v:Value}{l:List α}(h:SeqS F w e s c K v l):∃ a k c,v=.slice a k c:=by
 obtain⟨ps,Fs,_,h2,_⟩:=h;exact own_form h2
def GrowByS (B:Nat)(w:World)(e s:Nat)(c:Value × α->List Value)(K:(Nat->Prop)->World->Value->α->Prop)(v:Value)(l:List α)(ps:List (Value × α))(Fs:List (Nat->Prop)):Prop :=
 ps.map Prod.snd=l/\w.ownsRow B e s v l.length (ps.flatMap c)/\(∀ (j:Nat) (q:Value × α) (A:Nat->Prop),ps[j]?=some q->Fs[j]?=some A->K A w q.1 q.2)/\(∀ A,A∈Fs->∀ b,A b->B<=b/\b<w.heap.size)/\(∀ g,v.ownBlock=some g->∀ A,A∈Fs->¬ A g)/\Sep Fs/\Fs.length=ps.length
def GrowS (B:Nat)(w:World)(e s:Nat)(c:Value × α->List Value)(K:(Nat->Prop)->World->Value->α->Prop)(v:Value)(l:List α):Prop:=∃ ps Fs,GrowByS B w e s c K v l ps Fs
variable {B:Nat} {w w':World} {e s:Nat} {c:Value × α -> List Value} {K:(Nat -> Prop) -> World -> Value -> α -> Prop} {v:Value} {l:List α} {ps:List (Value × α)} {Fs:List (Nat -> Prop)}
theorem GrowS.nil (B:Nat)(w:World)(e s:Nat)(c:Value × α->List Value)(K:(Nat->Prop)->World->Value->α->Prop):GrowS B w e s c K (.slice none 0 0) [] :=
 ⟨[],[],rfl,World.ownsRow_nil _ _ _ _,(fun j q A h=>by simp at h),(fun A h=>by cases h),(fun g h=>by simp[Value.ownBlock]at h),List.Pairwise.nil,rfl⟩
theorem GrowByS.kept (hm:Movable K)(h:GrowByS B w e s c K v l ps Fs){r:Option Nat}(hg:w.grownBy w' r)(hr:∀ k,r=some k->k<B):GrowByS B w' e s c K v l ps Fs:=by
 obtain⟨h1,h2,h3,h4,h5,h6,h7⟩:=h;have hb:∀ b,B<=b->b<w.heap.size->w'.heap[b]?=w.heap[b]?:=fun b hb hlt=>hg.block b hlt fun e=>by have:=hr b e.symm;omega
 refine⟨h1,own_move h2 fun g hg'=>hb g (h2.lt g hg').1 (h2.lt g hg').2,fun j q A hq hA=>?_,fun A hA b hbA=>⟨(h4 A hA b hbA).1,Nat.lt_of_lt_of_le (h4 A hA b hbA).2 hg.size⟩,h5,h6,h7⟩;have hAm:=List.mem_of_getElem? hA;exact hm A A w w' _ _ (fun b hbA=>hb b (h4 A hAm b hbA).1 (h4 A hAm b hbA).2) (fun _ h=>h) (h3 j q A hq hA)
theorem GrowS.kept (hm:Movable K)(h:GrowS B w e s c K v l){r:Option Nat}(hg:w.grownBy w' r)(hr:∀ k,r=some k->k<B):GrowS B w' e s c K v l :=
 let ⟨ps,Fs,h'⟩:=h;⟨ps,Fs,h'.kept hm hg hr⟩
theorem GrowS.seq (h:GrowS B w e s c K v l):SeqS (In B w.heap.size) w e s c K v l:=by
 obtain⟨ps,Fs,h1,h2,h3,h4,h5,h6,h7⟩:=h;exact⟨ps,Fs,h1,own_le h2 (Nat.zero_le _),fun g hg=>⟨h2.lt g hg,h5 g hg⟩,fun A hA b hb=>h4 A hA b hb,h6,h7,h3⟩
theorem GrowS.one (hm:Movable K) {w1:World} (q:Value × α) (hB:B<=w.heap.size) (h1:w.heap.size<=w1.heap.size) (hq:K (In w.heap.size w1.heap.size) w1 q.1 q.2) (hc:(c q).length=s) :
  GrowS B (w1.alloc (.cells (c q).toArray e)) e s c K (.slice (some ⟨w1.heap.size,0,none⟩) 1 1) [q.2]:=by
 refine⟨[q],[In w.heap.size w1.heap.size],rfl,⟨by simp[hc],.inr ⟨w1.heap.size,1,(c q).toArray,rfl,by omega,heap_alloc_new w1 _,Nat.le_refl _,by unfold maxLen;omega,by simp[hc],?_⟩⟩,?_,?_,?_,List.pairwise_singleton _ _,rfl⟩
 ·simp only[List.length_cons,List.length_nil,List.flatMap_cons,List.flatMap_nil,List.append_nil]
  exact List.take_of_length_le (by omega)
 ·intro j q' A hq' hA
  cases j with
  | zero =>
   simp at hq' hA;subst hq' hA;exact hm _ _ w1 _ _ _ (fun b hb=>Below.heap_alloc _ _ _ hb.2) (fun _ h=>h) hq
  | succ j=>simp at hq'
 ·intro A hA b hb
  simp only[List.mem_singleton]at hA;subst hA;have:=hb.1;have:=hb.2;simp;omega
 ·intro g hg A hA hF
  simp only[List.mem_singleton]at hA;subst hA;have:w1.heap.size=g:=by simpa [Value.ownBlock]using hg
  have:=hF.2;omega
theorem GrowByS.push (hm:Movable K) (h:GrowByS B w e s c K v l ps Fs) {p:Nat} (hp:p<B) (hB:B<=w.heap.size) {w1 w2 w3:World} (g1:w.grownBy w1 (some p)) (q:Value × α)
  (hq:K (In w.heap.size w1.heap.size) w1 q.1 q.2) (g2:w1.grownBy w2 none) {g cap:Nat} (ho:w3.ownsRow B e s (.slice (some ⟨g,0,none⟩) (l.length+1) cap) (l.length+1) (ps.flatMap c++c q))
  (g3:w2.grownBy w3 v.ownBlock) (ha:v.ownBlock=some g∨g=w2.heap.size):GrowS B w3 e s c K (.slice (some ⟨g,0,none⟩) (l.length+1) cap) (l++[q.2]):=by
 obtain⟨h1,h2,h3,h4,h5,h6,h7⟩:=h;have s1:=g1.size;have s2:=g2.size;have s3:=g3.size;have e1:∀ A,A∈Fs->∀ b,A b->w3.heap[b]?=w.heap[b]?:=fun A hA b hF=>by
  have hb:=h4 A hA b hF;rw[g3.block b (by omega) (fun e=>h5 b e.symm A hA hF),g2.block b (by omega) (by simp),g1.block b hb.2 (fun e=>by cases e;omega)]
 have e2:∀ b,In w.heap.size w1.heap.size b->w3.heap[b]?=w1.heap[b]?:=fun b hI=>by
  rw[g3.block b (by have:=hI.2;omega) (fun e=>by have:=(h2.lt b e.symm).2;have:=hI.1;omega),g2.block b hI.2 (by simp)]
 refine⟨ps++[q],Fs++[In w.heap.size w1.heap.size],?_,?_,?_,?_,?_,?_,by simp[h7]⟩
 ·rw[List.map_append,h1];rfl
 ·rw[List.flatMap_append,List.length_append];simpa using ho
 ·intro j q' A hq' hA
  rcases Nat.lt_or_ge j ps.length with hj | hj
  ·rw[List.getElem?_append_left hj]at hq'
   rw[List.getElem?_append_left (by omega)]at hA;exact hm A A w w3 _ _ (e1 A (List.mem_of_getElem? hA)) (fun _ h=>h) (h3 j q' A hq' hA)
  ·rw[List.getElem?_append_right hj]at hq'
   rw[List.getElem?_append_right (by omega),h7]at hA;cases hjj:j-ps.length with
   | zero =>
    rw[hjj]at hq' hA;simp at hq' hA;subst hq' hA;exact hm _ _ w1 w3 _ _ e2 (fun _ h=>h) hq
   | succ m=>rw[hjj]at hq';simp at hq'
 ·intro A hA b hb
  rcases List.mem_append.1 hA with hA | hA
  ·have:=h4 A hA b hb;omega
  ·simp only[List.mem_singleton]at hA
   subst hA;have:=hb.1;have:=hb.2;omega
 ·intro g' hg' A hA hF
  have:g=g':=by simpa [Value.ownBlock]using hg'
  subst this;rcases List.mem_append.1 hA with hA | hA
  ·rcases ha with ha | ha
   ·exact h5 _ ha A hA hF
   ·have:=h4 A hA _ hF;omega
  ·simp only[List.mem_singleton]at hA
   subst hA;rcases ha with ha | ha
   ·have:=(h2.lt _ ha).2;have:=hF.1;omega
   ·have:=hF.2;omega
 ·refine sep_push h6 fun A hA b h1' h2'=>?_
  have:=(h4 A hA b h1').2;have:=h2'.1;omega
end
def AltsInS (Y:Lay):Nat->(Nat->Prop)->World->Value->List Lx.Alt->Prop
 | 0,_,_,v,l=>v=.slice none 0 0/\l=[]
 | d+1,F,w,v,l=>SeqS F w Y.eA Y.sA Y.cA (fun A w vi a=>SeqS A w Y.eI Y.sI Y.cI (fun A w va it=>AltsInS Y d A w va it.alts) vi a.1) v l
def ItemsInS (Y:Lay)(d:Nat)(F:Nat->Prop)(w:World)(v:Value)(l:List Lx.It):Prop:=SeqS F w Y.eI Y.sI Y.cI (fun A w va it=>AltsInS Y d A w va it.alts) v l
theorem AltsInS.nil (Y:Lay)(d:Nat)(F:Nat->Prop)(w:World):AltsInS Y d F w (.slice none 0 0) []:=by
 cases d with
 | zero=>exact⟨rfl,rfl⟩
 | succ d=>exact SeqS.nil _ _ _ _ _ _
theorem AltsInS.form {Y:Lay}{d:Nat}{F:Nat->Prop}{w:World}{v:Value}{l:List Lx.Alt}(h:AltsInS Y d F w v l):∃ a k c,v=.slice a k c:=by
 cases d with
 | zero=>exact⟨_,_,_,h.1⟩
 | succ d=>exact SeqS.form h
theorem AltsInS.move {Y:Lay} {w w':World}:∀ {d:Nat} {F F':Nat->Prop} {v:Value} {l:List Lx.Alt},(∀ b,F b->w'.heap[b]?=w.heap[b]?)->(∀ b,F b->F' b)->AltsInS Y d F w v l->AltsInS Y d F' w' v l
 | 0,_,_,_,_,_,_,h=>h
 | d+1,_,_,_,_,hs,hF,h=>SeqS.move (K:=fun A w vi (a:Lx.Alt)=>SeqS A w Y.eI Y.sI Y.cI (fun A w va it=>AltsInS Y d A w va it.alts) vi a.1) h hs hF fun _ _ _ hA hi =>
   SeqS.move (K:=fun A w va (it:Lx.It)=>AltsInS Y d A w va it.alts) hi (fun b hb=>hs b (hA b hb)) (fun _ h=>h) fun _ _ _ hA' ha=>AltsInS.move (fun b hb=>hs b (hA b (hA' b hb))) (fun _ h=>h) ha
theorem ItemsInS.move {Y:Lay}{d:Nat}{F F':Nat->Prop}{w w':World}(hs:∀ b,F b->w'.heap[b]?=w.heap[b]?)(hF:∀ b,F b->F' b){v:Value}{l:List Lx.It}(h:ItemsInS Y d F w v l):ItemsInS Y d F' w' v l :=
 SeqS.move (K:=fun A w va (it:Lx.It)=>AltsInS Y d A w va it.alts) h hs hF fun _ _ _ hA ha=>AltsInS.move (fun b hb=>hs b (hA b hb)) (fun _ h=>h) ha
theorem alts_movableS (Y:Lay)(d:Nat):Movable (α:=Lx.It) (fun F w va it=>AltsInS Y d F w va it.alts):=fun _ _ _ _ _ _ hs hF h=>AltsInS.move hs hF h
theorem items_movableS (Y:Lay)(d:Nat):Movable (α:=Lx.Alt) (fun F w vi a=>ItemsInS Y d F w vi a.1):=fun _ _ _ _ _ _ hs hF h=>ItemsInS.move hs hF h
theorem SeqS.weak {α:Type}{F:Nat->Prop}{w:World}{e s:Nat}{c:Value × α->List Value}{K:(Nat->Prop)->World->Value->α->Prop}{K':Value->α->Prop}{v:Value}{l:List α}(h:SeqS F w e s c K v l)(hK:∀ A v x,(∀ b,A b->F b)->K A w v x->K' v x):Seq F w e s c K' v l:=by
 obtain⟨ps,Fs,h1,h2,h3,h4,h5,h6,h7⟩:=h;refine⟨ps,h1,h2,fun g hg=>(h3 g hg).1,fun q hq=>?_⟩;obtain⟨j,hj,rfl⟩:=List.getElem_of_mem hq;have hA:Fs[j]?=some Fs[j]:=List.getElem?_eq_getElem (by omega);exact hK Fs[j] _ _ (h4 _ (List.getElem_mem _)) (h7 j _ _ (List.getElem?_eq_getElem hj) hA)
theorem AltsInS.weak {Y:Lay} {w:World} {G:Nat->Prop}:∀ {d:Nat} {F:Nat->Prop} {v:Value} {l:List Lx.Alt},(∀ b,F b->G b)->AltsInS Y d F w v l->AltsIn Y d G w v l
 | 0,_,_,_,_,h=>h
 | d+1,F,v,l,hG,h=>by
  have h':Seq F w Y.eA Y.sA Y.cA (fun vi a=>ItemsBy Y (AltsIn Y d G w) G w vi a.1) v l:=SeqS.weak h fun A vi a hA hi=>by
   have h2:Seq A w Y.eI Y.sI Y.cI (fun va it=>AltsIn Y d G w va it.alts) vi a.1:=SeqS.weak hi fun A' va it hA' ha=>AltsInS.weak (fun b hb=>hG b (hA b (hA' b hb))) ha
   exact Seq.move h2 (fun _ _=>rfl) (fun b hb=>hG b (hA b hb)) (fun _ _ h=>h)
  exact Seq.move h' (fun _ _=>rfl) hG (fun _ _ h=>h)
end Tr
end Go.Proofs.YtlcppnabbicmoaaGreatDoor
namespace Go.Proofs.YtlcppnabbicmoaaGreatDoor
open Go.RowKit
theorem ret_bool {a b:Bool}(h:a=b):Ending.returned (.bool a)=.returned (.bool b):=by rw[h]
theorem ret_int {k:IntKind}{a b:Int}(h:a=b):Ending.returned (.int k a)=.returned (.int k b):=by rw[h]
theorem isSmall_any (c:Int) (w:World) (h0:0<=c) (h1:c<=255) :
  Calls Tryz.prog 92 #[.int .u8 c] w fun e w'=>e=.returned (.bool (Lx.small c))/\w'=w:=by
 by_cases h:97<=c
 ·by_cases h':c<=122
  all_goals
   go_enter Tryz.func92,Tryz.ntmps92
   go_wp2
   go_ret;exact⟨ret_bool (by simp[Lx.small];omega),rfl⟩
 ·go_enter Tryz.func92,Tryz.ntmps92
  go_wp2
  go_ret;exact⟨ret_bool (by simp[Lx.small];omega),rfl⟩
theorem isCapital_any (c:Int) (w:World) (h0:0<=c) (h1:c<=255) :
  Calls Tryz.prog 93 #[.int .u8 c] w fun e w'=>e=.returned (.bool (Lx.capital c))/\w'=w:=by
 by_cases h:65<=c
 ·by_cases h':c<=90
  all_goals
   go_enter Tryz.func93,Tryz.ntmps93
   go_wp2
   go_ret;exact⟨ret_bool (by simp[Lx.capital];omega),rfl⟩
 ·go_enter Tryz.func93,Tryz.ntmps93
  go_wp2
  go_ret;exact⟨ret_bool (by simp[Lx.capital];omega),rfl⟩
theorem isDigit_any (c:Int) (w:World) (h0:0<=c) (h1:c<=255) :
  Calls Tryz.prog 127 #[.int .u8 c] w fun e w'=>e=.returned (.bool (Lx.digit c))/\w'=w:=by
 by_cases h:48<=c
 ·by_cases h':c<=57
  all_goals
   go_enter Tryz.func127,Tryz.ntmps127
   go_wp2
   go_ret;exact⟨ret_bool (by simp[Lx.digit];omega),rfl⟩
 ·go_enter Tryz.func127,Tryz.ntmps127
  go_wp2
  go_ret;exact⟨ret_bool (by simp[Lx.digit];omega),rfl⟩
theorem isWordByte_any (c:Int) (w:World) (h0:0<=c) (h1:c<=255) :
  Calls Tryz.prog 120 #[.int .u8 c] w fun e w'=>e=.returned (.bool (Lx.wordB c))/\w'=w:=by
 cases ha:Lx.small c
 ·cases hb:Lx.capital c
  all_goals
   go_enter Tryz.func120,Tryz.ntmps120
   go_wp2_with (first
    | (go_at_call 92;refine (isSmall_any _ _ h0 h1).mono ?_;rintro e w' ⟨rfl,rfl⟩)
    | (go_at_call 93;refine (isCapital_any _ _ h0 h1).mono ?_;rintro e w' ⟨rfl,rfl⟩)
    | (go_at_call 127;refine (isDigit_any _ _ h0 h1).mono ?_;rintro e w' ⟨rfl,rfl⟩))
   go_ret;exact⟨ret_bool (by simp[Lx.wordB,ha,hb]),rfl⟩
 ·go_enter Tryz.func120,Tryz.ntmps120
  go_wp2_with (first
    | (go_at_call 92;refine (isSmall_any _ _ h0 h1).mono ?_;rintro e w' ⟨rfl,rfl⟩))
  go_ret;exact⟨ret_bool (by simp[Lx.wordB,ha]),rfl⟩
end Go.Proofs.YtlcppnabbicmoaaGreatDoor
namespace Go.Proofs.YtlcppnabbicmoaaGreatDoor
open Go.RowKit
theorem passGap_any (s:ByteArray) (i:Nat) (w:World) (hs:s.size<=2000) (hi:i<=s.size) :
    Calls Tryz.prog 84 #[.string s,.int .i64 i] w fun e w'=>e=.returned (.int .i64 (Lx.gapEnd s i false))/\w'=w:=by
  go_enter Tryz.func84,Tryz.ntmps84
  go_wp2
  go_loop [1,5] (fun at_ r=>∃ (k:Nat) (b:Bool),k<=s.size/\at_=.int .i64 k/\r=.bool b/\Hid (Lx.gapEnd s k b=Lx.gapEnd s i false)) (fun at_ _=>s.size - (intOf at_).toNat)
  case atStart=>exact⟨i,false,hi,rfl,rfl,rfl⟩
  case round =>
    obtain⟨k,b,hk,rfl,rfl,hg⟩:=hrel
    by_cases hlt:k<s.size
    · have hbd:=Lx.byteAt_bd s k
      rw[Lx.byteAt_eq s k hlt]at hbd;cases b
      all_goals
        go_wp2
        all_goals
          have h1:=hg.out;clear hg;simp only[beq_iff_eq,beq_eq_false_iff_ne,bne_iff_ne,bne_eq_false_iff_eq,ne_eq]at *
          first
          | (refine⟨⟨k+1,_,by omega,by go_num,rfl,?_⟩,by simp[intOf];omega⟩
             first
             | (refine Lx.gap_nl hlt h1 ?_;omega)
             | (refine Lx.gap_hash hlt h1 ?_;omega)
             | (refine Lx.gap_rem hlt h1 ?_ ?_ <;> omega)
             | (refine Lx.gap_blank hlt h1 ?_;omega))
          | (go_ret
             refine⟨ret_int ?_,rfl⟩;rw[<-Lx.gap_stop hlt h1 (by omega) (by omega) (by omega) (by omega)])
    · go_wp2
      go_ret;exact⟨ret_int (by have:=hg.out;rw[Lx.gapEnd_done _ (by omega)]at this;rw[<-this]),rfl⟩
theorem signEnd_any (s:ByteArray) (i:Nat) (w:World) (hs:s.size<=2000) (hi:i<s.size) :
    Calls Tryz.prog 85 #[.string s,.int .i64 i] w fun e w'=>e=.returned (.int .i64 (Lx.signEnd s i))/\w'=w:=by
  have hbe:=Lx.byteAt_eq s i hi;have hbd:=Lx.byteAt_bd s i;obtain⟨j,hj,hj',hp',HE⟩:∃ j:Nat,i<=j/\j<=i+1/\(j=i+1/\(((s[i].toNat:Int)) == 37)=true∨j=i/\(((s[i].toNat:Int)) == 37)=false)/\Hid (Lx.signEnd s i=max (Lx.wordEnd s j) (i+1)):=by
    by_cases hp:s[i].toNat=37
    · exact⟨i+1,by omega,by omega,.inl ⟨rfl,by simp;omega⟩,by show _=_;unfold Lx.signEnd;rw[hbe,if_pos (by omega)]⟩
    · exact⟨i,by omega,by omega,.inr ⟨rfl,by simp;omega⟩,by show _=_;unfold Lx.signEnd;rw[hbe,if_neg (by omega)]⟩
  clear hbe;rcases hp' with ⟨hj0,hp'⟩ | ⟨hj0,hp'⟩
  all_goals
    have HJ:Hid _:=hj0;clear hj0;go_enter Tryz.func85,Tryz.ntmps85
    go_wp2
    go_loop [5] (fun at_=>∃ (k:Nat),k<=s.size/\at_=.int .i64 k/\Hid (Lx.signEnd s i=max (Lx.wordEnd s k) (i+1))) (fun at_=>s.size - (intOf at_).toNat)
    case atStart=>exact⟨j,by omega,by first | (rw[HJ.out];done) | (rw[HJ.out];go_num),HE⟩
    case round =>
      obtain⟨k,hk,rfl,hg⟩:=hrel
      by_cases hlt:k<s.size
      · have hst:=Lx.wordEnd_step hlt
        have hbd:=Lx.byteAt_bd s k;have hbe:=Lx.byteAt_eq s k hlt;rw[hbe]at hst hbd;have HS:Hid _:=hst;clear hst hbe;cases hw:Lx.wordB (s[k].toNat:Int)
        · have HW:Hid _:=hw
          go_wp2_with (first | (go_at_call 120;refine (isWordByte_any _ _ (by omega) (by omega)).mono ?_;rintro e w' ⟨rfl,rfl⟩))
          all_goals
            go_ret;refine⟨ret_int ?_,rfl⟩;rw[hg.out,HS.out,if_neg (by rw[HW.out];simp)];omega
        · have HW:Hid _:=hw
          go_wp2_with (first | (go_at_call 120;refine (isWordByte_any _ _ (by omega) (by omega)).mono ?_;rintro e w' ⟨rfl,rfl⟩))
          refine⟨⟨k+1,by omega,by go_num,?_⟩,by simp[intOf];omega⟩;show _=_;rw[hg.out,HS.out,if_pos HW.out]
      · go_wp2_with fail
        all_goals
          go_ret;refine⟨ret_int ?_,rfl⟩;rw[hg.out,Lx.wordEnd_done (by omega)];omega
end Go.Proofs.YtlcppnabbicmoaaGreatDoor
namespace Go.Proofs.YtlcppnabbicmoaaGreatDoor
open Go.RowKit
theorem Tryz.info112:(Tryz.prog.info? 112).map (fun i=>(i.zero,i.size,i.bytes))=some (some (.agg #[.string ByteArray.empty,.int .i64 0]),2,24):=by kernel_rfl
theorem two_new {w:World}{g:Nat}{x y:Value}(h0:w.cell? ⟨g,0,none⟩=some x)(h1:w.cell? ⟨g,1,none⟩=some y):∀ j u,[x,y][j]?=some u->w.cell? ((⟨g,0,none⟩:Addr).add j)=some u:=by
 intro j u hj
 match j,hj with
 | 0,hj=>simp at hj;subst hj;simpa [Addr.add]using h0
 | 1,hj=>simp at hj;subst hj;simpa [Addr.add]using h1
theorem All_any (s:ByteArray) (w:World) (hs:s.size<=2000) :
  Calls Tryz.prog 41 #[.string s] w fun e w'=>∃ v,e=.returned v/\w'.ownsRow w.heap.size 112 2 v (Lx.lex s).length (Lx.tkCells (Lx.lex s))/\Below w.heap.size w w':=by
 obtain⟨i0,hi,hz0,hz1,hz2⟩:=info_parts Tryz.info112;have hg0:=Lx.gapEnd_bd (s:=s) (i:=0) false (by omega);go_enter Tryz.func41,Tryz.ntmps41
 go_wp2_with (first | (go_at_call 84;refine (passGap_any s 0 _ hs (by omega)).mono ?_;rintro e w' ⟨rfl,hw⟩;obtain rfl:=hw.symm))
 go_loopw [3,4] (fun v at_ wr=>∃ (k:Nat) (l:List Lx.Tk),k<=s.size/\l.length<=k/\at_=.int .i64 k/\wr.ownsRow w.heap.size 112 2 v l.length (Lx.tkCells l)/\Hid (l++Lx.lexAt s k=Lx.lex s)/\Below w.heap.size w wr) (fun _ at_ _=>s.size - (intOf at_).toNat)
 case atStart=>exact⟨_,[],hg0.2,by simp,rfl,World.ownsRow_nil _ _ _ _,rfl,Below.refl _ _⟩
 case round =>
  obtain⟨k,l,hk,hll,rfl,hown,hl,hnx⟩:=hrel
  by_cases hlt:k<s.size
  ·have hst:=Lx.lexAt_step hlt
   have HS:Hid _:=hst;clear hst;have hbd:=Lx.signEnd_bd hlt;have hgd:=Lx.gapEnd_bd (s:=s) (i:=Lx.signEnd s k) false hbd.2;have hnx':=hnx.size
   go_wp2_with (first
    | (go_at_call 85;refine (signEnd_any s k _ hs hlt).mono ?_;rintro e w' ⟨rfl,hw⟩;obtain rfl:=hw.symm)
    | (go_at_call 84;refine (passGap_any s _ _ hs hbd.2).mono ?_;rintro e w' ⟨rfl,hw⟩;obtain rfl:=hw.symm)
    | (at_builtin;refine wpList_append_own _ rfl _ _ 101 rfl w.heap.size 112 i0 _ 2 24 Tryz.underlying101 hi hz0 hz1 hz2 rfl (by decide) u3 _ _ rfl (hown.alloc _) ⟨_,0,none⟩ 1 1 [.string (s.extract k (Lx.signEnd s k)),.int .i64 k] rfl rfl (two_new (by simp) (by simp)) (by simp[Value.oneCell']) (by unfold maxLen;omega) (by omega) (by simp;omega) ?_;intro v' w1 hown' hgrow _))
   have hbl:=(hnx.alloc hnx' (.cells #[.string (s.extract k (Lx.signEnd s k)),.int .i64 k] 112)).grown hgrow (by simp;omega) (fun q hq=>(hown.lt q hq).1);refine⟨⟨Lx.gapEnd s (Lx.signEnd s k) false,l++[(s.extract k (Lx.signEnd s k),k)],hgd.2,by simp;omega,rfl,?_,?_,hbl⟩,by simp[intOf];omega⟩
   ·rw[Lx.tkCells_append];simpa [Lx.tkCells]using hown'
   ·show _=_
    rw[<-hl.out,HS.out];simp[Lx.nextAt]
  ·have hnx':=hnx.size
   have hst:=Lx.lexAt_done (s:=s) (i:=k) (by omega);have HS:Hid _:=hst;clear hst
   go_wp2_with (first
    | (at_builtin;refine wpList_append_own _ rfl _ _ 101 rfl w.heap.size 112 i0 _ 2 24 Tryz.underlying101 hi hz0 hz1 hz2 rfl (by decide) u3 _ _ rfl (hown.alloc _) ⟨_,0,none⟩ 1 1 [.string ⟨#[]⟩,.int .i64 k] rfl rfl (two_new (by simp) (by simp)) (by simp[Value.oneCell']) (by unfold maxLen;omega) (by omega) (by simp;omega) ?_;intro v' w1 hown' hgrow _))
   have hbl:=(hnx.alloc hnx' (.cells #[.string ⟨#[]⟩,.int .i64 k] 112)).grown hgrow (by simp;omega) (fun q hq=>(hown.lt q hq).1);go_ret;refine⟨v',rfl,?_,hbl⟩;rw[<-hl.out,HS.out,Lx.tkCells_append];simpa [Lx.tkCells]using hown'
end Go.Proofs.YtlcppnabbicmoaaGreatDoor
namespace Go.Proofs.YtlcppnabbicmoaaGreatDoor
open Go.RowKit
open Lx (Tk)
theorem ahead_raw (p:Addr) (a:Addr) (len cap:Nat) (t:ByteArray) (w:World) (hp:w.cell? ⟨p.block,p.off,none⟩=some (.slice (some ⟨a.block,a.off,none⟩) len cap)) (hl:0<len)
  (ht:w.cell? ⟨a.block,a.off,none⟩=some (.string t)) :
  Calls Tryz.prog 87 #[.pointer (some ⟨p.block,p.off,none⟩)] w fun e w'=>e=.returned (.string t)/\w'=w:=by
 go_enter Tryz.func87,Tryz.ntmps87
 go_wp2
 go_ret;exact⟨rfl,rfl⟩
theorem pass_raw (p:Addr) (a:Addr) (len cap:Nat) (w:World) (hp:w.cell? ⟨p.block,p.off,none⟩=some (.slice (some ⟨a.block,a.off,none⟩) len cap)) (hl:1<len) (hc:len<=cap)
  (hf:w.frozen? ⟨p.block,p.off,none⟩=false) :
  Calls Tryz.prog 121 #[.pointer (some ⟨p.block,p.off,none⟩)] w fun e w'=>e=.returned (.tuple #[])/\w'=w.setCell ⟨p.block,p.off,none⟩ (.slice (some ⟨a.block,a.off+2,none⟩) (len-1) (cap-1)):=by
 have hc1:¬ cap=1:=by omega
 go_enter Tryz.func121,Tryz.ntmps121
 go_wp2
 go_end0
 exact⟨rfl,rfl⟩
def thrown (n a:Nat):List PanicEntry:=[{ v:=.iface 104 (.agg #[.int .i64 (n:Int),.int .i64 (a:Int)]),recovered:=false }]
theorem throw_raw (p:Addr) (a:Addr) (len cap:Nat) (t n:Nat) (w:World) (hp:w.cell? ⟨p.block,p.off,none⟩=some (.slice (some ⟨a.block,a.off,none⟩) len cap)) (hl:0<len)
  (ht:w.cell? ⟨a.block,a.off+1,none⟩=some (.int .i64 t)) :
  Calls Tryz.prog 144 #[.pointer (some ⟨p.block,p.off,none⟩),.int .i64 n] w fun e w'=>e=.panicked (thrown n t)/\w'=w:=by
 go_enter Tryz.func144,Tryz.ntmps144
 go_wp2
 exact⟨rfl,rfl,rfl⟩
structure Rd (sb cap:Nat) (L:List Tk) (p:Nat) (w:World) (ts:List Tk) (o:Int):Prop where
 wf:Lx.WF ts
 suf:∃ pre,L=pre++ts
 capL:L.length<=cap
 sl:w.cell? ⟨p,0,none⟩=some (.slice (some ⟨sb,(L.length-ts.length)*2,none⟩) ts.length (cap - (L.length-ts.length)))
 op:w.cell? ⟨p,1,none⟩=some (.int .i64 o)
 fz0:w.frozen? ⟨p,0,none⟩=false
 fz1:w.frozen? ⟨p,1,none⟩=false
 row:∀ j t,L[j]?=some t->w.cell? ⟨sb,j*2,none⟩=some (.string t.1)/\w.cell? ⟨sb,j*2+1,none⟩=some (.int .i64 (t.2:Int))
 ne:p≠sb
 sz:∀ t,t∈L->t.1.size<=2000
 lb:L.length<=2001
section
variable {sb cap:Nat} {L:List Tk} {p:Nat} {w w':World} {ts:List Tk} {o:Int}
theorem Rd.at (h:Rd sb cap L p w ts o):w.cell? ⟨sb,(L.length-ts.length)*2,none⟩=some (.string (Lx.hd ts))/\w.cell? ⟨sb,(L.length-ts.length)*2+1,none⟩=some (.int .i64 (Lx.pl ts:Int)):=by
 obtain⟨pre,hL⟩:=h.suf;have hn:=h.wf.ne;cases ts with
 | nil=>simp at hn
 | cons t r =>
  have e:L.length - (t::r).length=pre.length:=by rw[hL];simp
  rw[e];exact h.row pre.length t (by rw[hL];simp)
theorem Rd.hsz (h:Rd sb cap L p w ts o):(Lx.hd ts).size<=2000:=by
 obtain⟨pre,hL⟩:=h.suf;have hn:=h.wf.ne;cases ts with
 | nil=>simp at hn
 | cons t r=>exact h.sz t (by rw[hL];simp)
theorem Rd.len (h:Rd sb cap L p w ts o):ts.length<=L.length:=by
 obtain⟨pre,hL⟩:=h.suf;rw[hL];simp
theorem Rd.step (h:Rd sb cap L p w ts o) (hn:Lx.hd ts≠Lx.noText) :
  Rd sb cap L p (w.setCell ⟨p,0,none⟩ (.slice (some ⟨sb,(L.length-ts.length)*2+2,none⟩) (ts.length-1) (cap - (L.length-ts.length) - 1))) ts.tail o:=by
 obtain⟨pre,hL⟩:=h.suf;have ht:=h.wf.tail_len;have hlen:=h.len;have hne:=h.ne;refine⟨h.wf.tail hn,?_,h.capL,?_,?_,?_,?_,?_,h.ne,h.sz,h.lb⟩
 ·cases ts with
  | nil=>exact absurd h.wf.ne (by simp)
  | cons t r=>exact⟨pre++[t],by rw[hL];simp⟩
 ·have e1:(L.length-ts.tail.length)*2=(L.length-ts.length)*2+2:=by omega
  have e2:ts.tail.length=ts.length-1:=by omega
  have e3:cap - (L.length-ts.tail.length)=cap - (L.length-ts.length) - 1:=by omega
  rw[e1,e3,e2];exact World.cell?_setCell_same _ _ _ h.sl
 ·rw[World.cell?_setCell_other]
  ·exact h.op
  ·simp
 ·simpa using h.fz0
 ·simpa using h.fz1
 ·intro j t hj
  have hb:∀ o' v',(⟨p,o',none⟩:Addr)≠⟨sb,v',none⟩:=fun o' v' e=>hne (Addr.mk.inj e).1
  rw[World.cell?_setCell_other _ _ _ _ (hb _ _),World.cell?_setCell_other _ _ _ _ (hb _ _)];exact h.row j t hj
theorem Rd.reopen (h:Rd sb cap L p w ts o)(o':Int):Rd sb cap L p (w.setCell ⟨p,1,none⟩ (.int .i64 o')) ts o':=by
 have hne:=h.ne;refine⟨h.wf,h.suf,h.capL,?_,World.cell?_setCell_same _ _ _ h.op,?_,?_,?_,h.ne,h.sz,h.lb⟩
 ·rw[World.cell?_setCell_other]
  ·exact h.sl
  ·simp
 ·simpa using h.fz0
 ·simpa using h.fz1
 ·intro j t hj
  have hb:∀ o' v',(⟨p,o',none⟩:Addr)≠⟨sb,v',none⟩:=fun o' v' e=>hne (Addr.mk.inj e).1
  rw[World.cell?_setCell_other _ _ _ _ (hb _ _),World.cell?_setCell_other _ _ _ _ (hb _ _)];exact h.row j t hj
theorem Rd.lt (h:Rd sb cap L p w ts o):p<w.heap.size:=World.block_lt_of_cell? _ _ h.sl
theorem Rd.lts (h:Rd sb cap L p w ts o):sb<w.heap.size:=World.block_lt_of_cell? _ _ h.at.1
theorem Rd.grown (h:Rd sb cap L p w ts o){r:Option Nat}(hg:w.grownBy w' r)(hp:some p≠r)(hs:some sb≠r):Rd sb cap L p w' ts o:=by
 have e1:w'.heap[p]?=w.heap[p]?:=hg.block p h.lt hp;have e2:w'.heap[sb]?=w.heap[sb]?:=hg.block sb h.lts hs;refine⟨h.wf,h.suf,h.capL,?_,?_,?_,?_,?_,h.ne,h.sz,h.lb⟩
 ·rw[World.cell?_of_block (w:=w) (by exact e1)];exact h.sl
 ·rw[World.cell?_of_block (w:=w) (by exact e1)];exact h.op
 ·rw[World.frozen?_of_block (w:=w) (by exact e1)];exact h.fz0
 ·rw[World.frozen?_of_block (w:=w) (by exact e1)];exact h.fz1
 ·intro j t hj
  have hb:∀ o',w'.cell? ⟨sb,o',none⟩=w.cell? ⟨sb,o',none⟩:=fun o'=>World.cell?_of_block (w:=w) e2
  rw[hb,hb];exact h.row j t hj
theorem grown_refl (w:World)(r:Option Nat):w.grownBy w r:=⟨rfl,rfl,rfl,Nat.le_refl _,fun _ _ _=>rfl⟩
theorem grown_trans {a b c:World}{r:Option Nat}(h:a.grownBy b r)(k:b.grownBy c r):a.grownBy c r :=
 ⟨k.os.trans h.os,k.tape.trans h.tape,k.output.trans h.output,Nat.le_trans h.size k.size,fun i hi hn=>(k.block i (Nat.lt_of_lt_of_le hi h.size) hn).trans (h.block i hi hn)⟩
theorem grown_set (w:World)(p:Nat)(o:Nat)(v:Value):w.grownBy (w.setCell ⟨p,o,none⟩ v) (some p) :=
 ⟨rfl,rfl,rfl,by simp[World.setCell],fun i _ hn=>Below.heap_setCell _ _ _ _ (fun e=>hn (by rw[e]))⟩
end
theorem ahead_rd {sb cap:Nat} {L:List Tk} {p:Nat} {w:World} {ts:List Tk} {o:Int} (h:Rd sb cap L p w ts o) :
  Calls Tryz.prog 87 #[.pointer (some ⟨p,0,none⟩)] w fun e w'=>e=.returned (.string (Lx.hd ts))/\w'=w :=
 ahead_raw ⟨p,0,none⟩ ⟨sb,(L.length-ts.length)*2,none⟩ _ _ _ w h.sl h.wf.ne h.at.1
theorem throw_rd {sb cap:Nat} {L:List Tk} {p:Nat} {w:World} {ts:List Tk} {o:Int} (h:Rd sb cap L p w ts o) (n:Nat) :
  Calls Tryz.prog 144 #[.pointer (some ⟨p,0,none⟩),.int .i64 n] w fun e w'=>e=.panicked (thrown n (Lx.pl ts))/\w'=w :=
 throw_raw ⟨p,0,none⟩ ⟨sb,(L.length-ts.length)*2,none⟩ _ _ _ _ w h.sl h.wf.ne h.at.2
theorem one_lt {ts:List Tk}(h:Lx.WF ts)(hn:Lx.hd ts≠Lx.noText):1<ts.length:=by
 have:=(h.tail hn).ne;have:=h.tail_len;omega
theorem pass_rd {sb cap:Nat} {L:List Tk} {p:Nat} {w:World} {ts:List Tk} {o:Int} (h:Rd sb cap L p w ts o) (hn:Lx.hd ts≠Lx.noText) :
  Calls Tryz.prog 121 #[.pointer (some ⟨p,0,none⟩)] w fun e w'=>e=.returned (.tuple #[])/\w.grownBy w' (some p)/\Rd sb cap L p w' ts.tail o:=by
 have hlen:=h.len;have hc:=h.capL;refine (pass_raw ⟨p,0,none⟩ ⟨sb,(L.length-ts.length)*2,none⟩ _ _ w h.sl (one_lt h.wf hn) (by omega) h.fz0).mono ?_;rintro e w' ⟨rfl,rfl⟩;exact⟨rfl,grown_set _ _ _ _,h.step hn⟩
theorem text_eq (a b:ByteArray):(a.toList == b.toList)=decide (a=b):=by
 rw[ByteArray.toList_eq,ByteArray.toList_eq]
 by_cases h:a=b
 ·subst h;simp
 ·have:a.data.toList≠b.data.toList:=fun e=>h (ByteArray.ext (Array.toList_inj.1 e))
  rw[decide_eq_false h];exact beq_eq_false_iff_ne.2 this
theorem sees_rd {sb cap:Nat} {L:List Tk} {p:Nat} {w:World} {ts:List Tk} {o:Int} (h:Rd sb cap L p w ts o) (b:ByteArray) :
  Calls Tryz.prog 90 #[.pointer (some ⟨p,0,none⟩),.string b] w fun e w'=>e=.returned (.bool (decide (Lx.hd ts=b)))/\w'=w:=by
 go_enter Tryz.func90,Tryz.ntmps90
 go_wp2_with (go_at_call 87;refine (ahead_rd h).mono ?_;rintro e w' ⟨rfl,hw⟩;obtain rfl:=hw.symm)
 go_ret;exact⟨ret_bool (text_eq _ _),rfl⟩
theorem passIf_no {sb cap:Nat} {L:List Tk} {p:Nat} {w:World} {ts:List Tk} {o:Int} (h:Rd sb cap L p w ts o) (b:ByteArray) (hd:¬ Lx.hd ts=b) :
  Calls Tryz.prog 123 #[.pointer (some ⟨p,0,none⟩),.string b] w fun e w'=>e=.returned (.bool false)/\w'=w:=by
 have HD:Hid _:=hd;clear hd;go_enter Tryz.func123,Tryz.ntmps123
 go_wp2_with (first
  | (go_at_call 90;refine (sees_rd h b).mono ?_;rintro e w' ⟨rfl,hw⟩;obtain rfl:=hw.symm;rw[decide_eq_false HD.out]))
 go_ret;exact⟨rfl,rfl⟩
theorem passIf_yes {sb cap:Nat} {L:List Tk} {p:Nat} {w:World} {ts:List Tk} {o:Int} (h:Rd sb cap L p w ts o) (b:ByteArray) (hb:b≠Lx.noText) (hd:Lx.hd ts=b) :
  Calls Tryz.prog 123 #[.pointer (some ⟨p,0,none⟩),.string b] w fun e w'=>e=.returned (.bool true)/\w.grownBy w' (some p)/\Rd sb cap L p w' ts.tail o:=by
 have HD:Hid (Lx.hd ts=b):=hd;clear hd;go_enter Tryz.func123,Tryz.ntmps123
 go_wp2_with (first
  | (go_at_call 90;refine (sees_rd h b).mono ?_;rintro e w' ⟨rfl,hw⟩;obtain rfl:=hw.symm;rw[decide_eq_true HD.out])
  | (go_at_call 121;refine (pass_rd h (by rw[HD.out];exact hb)).mono ?_;rintro e w' ⟨rfl,hg,hr⟩))
 go_ret;exact⟨rfl,hg,hr⟩
def Ends (sb cap:Nat)(L:List Tk)(p:Nat)(o:Int){α:Type}(V:World->Value->α->Prop)(w:World)(r:Lx.Res α)(e:Ending)(w':World):Prop :=
 w.grownBy w' (some p) /\
  match r with
  | .ok (x,ts')=>∃ v,e=.returned v/\Rd sb cap L p w' ts' o/\V w' v x
  | .error (n,a)=>e=.panicked (thrown n a)
section
variable {sb cap:Nat} {L:List Tk} {p:Nat} {o:Int} {α:Type} {V:World -> Value -> α -> Prop} {w w':World} {r:Lx.Res α} {e:Ending}
theorem Ends.yes {x:α}{ts':List Tk}{v:Value}(hr:r=.ok (x,ts'))(hg:w.grownBy w' (some p))(h1:Rd sb cap L p w' ts' o)(h2:V w' v x):Ends sb cap L p o V w r (.returned v) w':=by
 subst hr;exact⟨hg,v,rfl,h1,h2⟩
theorem Ends.no {n a:Nat}(hr:r=.error (n,a))(hg:w.grownBy w' (some p)):Ends sb cap L p o V w r (.panicked (thrown n a)) w':=by
 subst hr;exact⟨hg,rfl⟩
theorem Ends.ok {x:α}{ts':List Tk}(h:Ends sb cap L p o V w r e w')(hr:r=.ok (x,ts')):∃ v,e=.returned v/\w.grownBy w' (some p)/\Rd sb cap L p w' ts' o/\V w' v x:=by
 subst hr;obtain⟨hg,v,he,h1,h2⟩:=h;exact⟨v,he,hg,h1,h2⟩
theorem Ends.err {n a:Nat}(h:Ends sb cap L p o V w r e w')(hr:r=.error (n,a)):e=.panicked (thrown n a)/\w.grownBy w' (some p):=by
 subst hr;exact⟨h.2,h.1⟩
end
def VUnit (_:World)(v:Value)(_:Unit):Prop:=v=.tuple #[]
def VText (_:World)(v:Value)(b:ByteArray):Prop:=v=.string b
theorem mustPass_rd {sb cap:Nat} {L:List Tk} {p:Nat} {w:World} {ts:List Tk} {o:Int} (h:Rd sb cap L p w ts o) (b:ByteArray) (hb:b≠Lx.noText) :
  Calls Tryz.prog 125 #[.pointer (some ⟨p,0,none⟩),.string b] w (Ends sb cap L p o VUnit w (Lx.pMust b ts)):=by
 by_cases hd:Lx.hd ts=b
 ·have hm:Lx.pMust b ts=.ok ((),ts.tail):=if_pos hd
  have HD:Hid (Lx.hd ts=b):=hd;have HM:Hid _:=hm;clear hd hm;go_enter Tryz.func125,Tryz.ntmps125
  go_wp2_with (first
   | (go_at_call 123;refine (passIf_yes h b hb HD.out).mono ?_;rintro e w' ⟨rfl,hg,hr⟩))
  go_end0
  exact Ends.yes HM.out hg hr rfl
 ·have hm:Lx.pMust b ts=.error (2,Lx.pl ts):=if_neg hd
  have HD:Hid (¬ Lx.hd ts=b):=hd;have HM:Hid _:=hm;clear hd hm;go_enter Tryz.func125,Tryz.ntmps125
  go_wp2_with (first
   | (go_at_call 123;refine (passIf_no h b HD.out).mono ?_;rintro e w' ⟨rfl,hw⟩;obtain rfl:=hw.symm)
   | (go_at_call 144;refine (throw_rd h 2).mono ?_;rintro e w' ⟨rfl,hw⟩;obtain rfl:=hw.symm))
  exact⟨rfl,Ends.no HM.out (grown_refl _ _)⟩
end Go.Proofs.YtlcppnabbicmoaaGreatDoor
namespace Go.Proofs.YtlcppnabbicmoaaGreatDoor
open Go.RowKit
open Tr
theorem own_len {w:World}{base e size:Nat}{v:Value}{n:Nat}{xs:List Value}(h:w.ownsRow base e size v n xs):∃ a c,v=.slice a n c/\n<=maxLen:=by
 rcases h.2 with ⟨rfl,rfl⟩ | ⟨g,cap,cur,rfl,_,_,h1,h2,_⟩
 ·exact⟨_,_,rfl,Nat.zero_le _⟩
 ·exact⟨_,_,rfl,Nat.le_trans h1 h2⟩
theorem own_below {w w':World}{base e size:Nat}{v:Value}{n:Nat}{xs:List Value}(h:w.ownsRow base e size v n xs)(hb:Below w.heap.size w w'):w'.ownsRow base e size v n xs :=
 own_move h fun g hg=>hb.block g (h.lt g hg).2
theorem words_same (l:List ByteArray) (v v':Value) (w:World) (h:w.ownsRow 0 9 1 v l.length (l.map Value.string)) (h':w.ownsRow 0 9 1 v' l.length (l.map Value.string)) :
  Calls Tryz.prog 30 #[v,v'] w fun e w'=>e=.returned (.bool true)/\Below w.heap.size w w':=by
 obtain⟨a,c,rfl,hm⟩:=own_len h;obtain⟨a',c',rfl,-⟩:=own_len h';unfold maxLen at hm;go_enter Tryz.func30,Tryz.ntmps30;go_wp2_with fail
 go_loopg [5] l.length (fun k i wr=>∃ j:Nat,j+k=l.length/\i=.int .i64 j/\Below w.heap.size w wr)
 case atStart=>exact⟨0,by omega,rfl,Below.refl _ _⟩
 case round =>
  obtain⟨j,hk,rfl,hb⟩:=hrel
  by_cases hlt:j<l.length
  ·have h1:=own_below h hb
   have h2:=own_below h' hb;obtain⟨g,cap,hv,-,-⟩:=h1.form (by omega);obtain⟨g',cap',hv',-,-⟩:=h2.form (by omega);cases hv;cases hv';have c1:=h1.cellAt j (by omega);have c2:=h2.cellAt j (by omega);rw[List.getElem?_map,List.getElem?_eq_getElem hlt]at c1 c2;simp only[Option.map_some]at c1 c2;generalize l[j]=x at c1 c2;go_wp2_with fail
   go_region
   all_goals
    go_wp2_with fail;go_roundg (l.length - (j+1))
    case measure=>omega
    case rel=>exact⟨j+1,by omega,by go_num,hb.drew⟩
  ·go_wp2_with fail
   go_ret;exact⟨rfl,hb⟩
end Go.Proofs.YtlcppnabbicmoaaGreatDoor
namespace Go.Proofs.YtlcppnabbicmoaaGreatDoor
open Go.RowKit
open Tr
namespace Lx
def fix (l:List ByteArray)(b:ByteArray):Nat:=l.findIdx fun x=>decide (x=b)
def fnd (l:List ByteArray)(b:ByteArray):Int:=if fix l b<l.length then (fix l b:Int) else -1
theorem fix_at {l:List ByteArray}{b:ByteArray}{j:Nat}(hj:l[j]?=some b)(hn:∀ i,i<j->l[i]?≠some b):fix l b=j:=by
 obtain⟨hlt,he⟩:=List.getElem?_eq_some_iff.1 hj;unfold fix;rw[List.findIdx_eq hlt];refine⟨by simp[he],fun i hi=>?_⟩;have:=hn i hi;rw[List.getElem?_eq_getElem (by omega)]at this;simp only[decide_eq_false_iff_not];exact fun e=>this (by rw[e])
theorem fnd_at {l:List ByteArray}{b:ByteArray}{j:Nat}(hj:l[j]?=some b)(hn:∀ i,i<j->l[i]?≠some b):fnd l b=(j:Int):=by
 have h:=fix_at hj hn;have:=(List.getElem?_eq_some_iff.1 hj).1;unfold fnd;rw[h,if_pos this]
theorem fnd_none {l:List ByteArray}{b:ByteArray}(hn:∀ i,i<l.length->l[i]?≠some b):fnd l b=-1:=by
 unfold fnd;rw[if_neg];intro h;have h1:=List.findIdx_getElem (w:=h);have h2:=of_decide_eq_true h1;exact hn _ h (by rw[List.getElem?_eq_getElem h];exact congrArg some h2)
theorem fnd_range (l:List ByteArray)(b:ByteArray):-1<=fnd l b/\fnd l b<l.length:=by
 unfold fnd;split <;> omega
theorem fnd_mem {l:List ByteArray}{b:ByteArray}:0<=fnd l b↔b∈l:=by
 unfold fnd fix;constructor
 ·intro h
  split at h
  ·rename_i hlt
   have h1:=List.findIdx_getElem (w:=hlt);rw[<-of_decide_eq_true h1];exact List.getElem_mem _
  ·omega
 ·intro h
  rw[if_pos (List.findIdx_lt_length_of_exists ⟨b,h,by simp⟩)];omega
end Lx
theorem find_any (l:List ByteArray) (b:ByteArray) (v:Value) (w:World) (h:w.ownsRow 0 9 1 v l.length (l.map Value.string)) :
  Calls Tryz.prog 70 #[v,.string b] w fun e w'=>e=.returned (.int .i64 (Lx.fnd l b))/\Below w.heap.size w w':=by
 obtain⟨a,c,rfl,hm⟩:=own_len h;unfold maxLen at hm;go_enter Tryz.func70,Tryz.ntmps70;go_wp2_with fail
 go_loopg [5] l.length (fun k i wr=>∃ j:Nat,j+k=l.length/\i=.int .i64 j/\Below w.heap.size w wr/\∀ i,i<j->l[i]?≠some b)
 case atStart=>exact⟨0,by omega,rfl,Below.refl _ _,fun i h=>by omega⟩
 case round =>
  obtain⟨j,hk,rfl,hb,hno⟩:=hrel
  by_cases hlt:j<l.length
  ·have h1:=own_below h hb
   obtain⟨g,cap,hv,-,-⟩:=h1.form (by omega);cases hv;have c1:=h1.cellAt j (by omega);rw[List.getElem?_map,List.getElem?_eq_getElem hlt]at c1;simp only[Option.map_some]at c1;have hx:l[j]?=some l[j]:=List.getElem?_eq_getElem hlt;generalize l[j]=x at c1 hx
   by_cases hxb:x=b
   ·subst hxb
    go_wp2_with fail
    all_goals
     go_ret;exact⟨by rw[Lx.fnd_at hx hno];rfl,hb⟩
   ·have hne:(x.toList == b.toList)=false:=by rw[text_eq];simpa using hxb
    go_wp2_with fail;go_roundg (l.length - (j+1))
    case measure=>omega
    case rel =>
     refine⟨j+1,by omega,by go_num,hb,fun i hi=>?_⟩;rcases Nat.lt_succ_iff_lt_or_eq.1 hi with h' | rfl
     ·exact hno i h'
     ·rw[hx];exact fun e=>hxb (Option.some.inj e)
  ·have:j=l.length:=by omega
   subst this;go_wp2_with fail;go_ret;exact⟨by rw[Lx.fnd_none hno];rfl,hb⟩
end Go.Proofs.YtlcppnabbicmoaaGreatDoor
namespace Go.Proofs.YtlcppnabbicmoaaGreatDoor
open Go.RowKit
open Tr
def YR:Lay:={ eA:=145,sA:=3,cA:=fun q=>[q.1,.string q.2.2.1,.int .i64 (q.2.2.2:Int)],eI:=148,sI:=5,cI:=fun q=>[.int .i64 (q.2.kind:Int),.string q.2.name,.int .u8 (q.2.mark:Int),q.1,.int .i64 (q.2.place:Int)] }
def partOf:Value->Nat->Value
 | .agg a,i=>a[i]?.getD (.bool false)
 | v,_=>v
def cLv:Value × Lx.Lv->List Value:=fun p=>[.int .i64 (p.2.kind:Int),partOf p.1 0,partOf p.1 1]
def KLv:(Nat->Prop)->World->Value->Lx.Lv->Prop:=fun F w v lv=>∃ vT vA,v=.agg #[vT,vA]/\w.ownsRow 0 9 1 vT lv.tokens.length (lv.tokens.map fun t=>.string t.1)/\w.ownsRow 0 3 1 vA lv.tokens.length (lv.tokens.map fun t=>.int .i64 (t.2:Int))/\(∀ g,vT.ownBlock=some g->F g)/\(∀ g,vA.ownBlock=some g->F g)
theorem lv_movable:Movable KLv:=fun F F' w w' v x hs hF h=>by
 obtain⟨vT,vA,rfl,h1,h2,h3,h4⟩:=h;exact⟨vT,vA,rfl,own_move h1 fun g hg=>hs g (h3 g hg),own_move h2 fun g hg=>hs g (h4 g hg),fun g hg=>hF g (h3 g hg),fun g hg=>hF g (h4 g hg)⟩
def cRl:Value × Lx.Rl->List Value:=fun p=>[.string p.2.name,p.1,.int .i64 (p.2.place:Int)]
abbrev KRl:(Nat->Prop)->World->Value->Lx.Rl->Prop:=fun F w va r=>AltsIn YR 9 F w va r.alts
theorem Tr.ItemsIn.form {Y:Lay}{d:Nat}{F:Nat->Prop}{w:World}{v:Value}{l:List Lx.It}(h:ItemsIn Y d F w v l):∃ a k c,v=.slice a k c:=by
 unfold ItemsIn ItemsBy at h;exact Seq.form h
end Go.Proofs.YtlcppnabbicmoaaGreatDoor

import Derived.Test.YtlcppnabbicmoaaGreatDoorMD41
set_option maxHeartbeats 8000000
set_option maxRecDepth 1000000
namespace Go.Proofs.YtlcppnabbicmoaaGreatDoor
section
open Go Go.RowKit
namespace Lx
section
variable {φ:ByteArray -> ByteArray} {g h:Gr}
theorem dup_rn (hi:∀ a b,φ a=φ b->a=b):∀ (ws vs:List Wd) (seen:List ByteArray),textsOf vs=(textsOf ws).map φ->(firstDup (seen.map φ) vs).isSome=(firstDup seen ws).isSome
 | [],[],_,_=>rfl
 | [],_::_,_,e=>by simp[textsOf]at e
 | _::_,[],_,e=>by simp[textsOf]at e
 | w::ws,v::vs,seen,e=>by
  unfold textsOf at e;rw[List.map_cons,List.map_cons,List.map_cons,List.cons.injEq]at e;rw[firstDup,firstDup,e.1,memB_map hi]
  split
  ·rfl
  ·exact dup_rn hi ws vs (w.2.1::seen) e.2
theorem ruleTexts (g:Gr):textsOf (ruleWords g)=ruleNames g:=by
 unfold textsOf ruleWords ruleNames;rw[List.map_map];rfl
theorem or_isSome {α:Type}{a b c d:Option α}(h:a.isSome=c.isSome)(k:b.isSome=d.isSome):(a.or b).isSome=(c.or d).isSome:=by
 cases a <;> cases c <;> simp_all
theorem GrRn.dup (hφ:Ren φ)(e:GrRn φ g h):(dupG h).isSome=(dupG g).isSome:=by
 unfold dupG;exact or_isSome (dup_rn hφ.inj _ _ [] e.ltoks) (dup_rn hφ.inj _ _ [] (by rw[ruleTexts,ruleTexts];exact e.names))
def WdR (φ:ByteArray->ByteArray)(w v:Wd):Prop:=w.1=v.1/\v.2.1=φ w.2.1
theorem unk_rn (hi:∀ a b,φ a=φ b->a=b) (names toks:List ByteArray):∀ {ws vs:List Wd},All2 (WdR φ) ws vs->(firstUnknown (names.map φ) (toks.map φ) vs).isSome=(firstUnknown names toks ws).isSome
 | [],[],_=>rfl
 | w::ws,v::vs,k=>by
  rw[firstUnknown,firstUnknown,<-k.1.1,k.1.2,memB_map hi,memB_map hi]
  split
  ·rfl
  ·exact unk_rn hi names toks k.2
 | [],_::_,k=>k.elim
 | _::_,[],k=>k.elim
theorem flat_rn (hφ:Ren φ) {C:It->It->Prop}:∀ {d:Nat} {l m:List Alt},AltsC φ C d l m->All2 (WdR φ) (flatA d l) (flatA d m)
 | 0,_,_,_=>trivial
 | d+1,l,m,e=>by
  rw[flatA_succ,flatA_succ];refine All2.flat (AltsC.succ.1 e) fun a b hab=>?_
  unfold flatOne;refine All2.app (All2.flat hab.1 fun x y hxy=>?_) ?_
  ·unfold flatI
   refine All2.app ?_ (flat_rn hφ hxy.2.2);rw[<-hxy.1.1]
   split
   ·exact⟨⟨rfl,hxy.1.2.1⟩,trivial⟩
   ·split
    ·exact⟨⟨rfl,hxy.1.2.1⟩,trivial⟩
    ·trivial
  ·rw[hab.2]
   by_cases hp:a.2.1=noText
   ·rw[if_pos hp,if_pos (by rw[hp];exact hφ.none)];trivial
   ·rw[if_neg hp,if_neg (fun h=>hp (hφ.inj _ _ (h.trans hφ.none.symm)))];exact⟨⟨rfl,rfl⟩,trivial⟩
theorem rulesUnk_rn (hφ:Ren φ) (names toks:List ByteArray):∀ {rs ss:List Rl},All2 (RlRn φ) rs ss->(rulesUnknown (names.map φ) (toks.map φ) ss).isSome=(rulesUnknown names toks rs).isSome
 | [],[],_=>rfl
 | _::_,_::_,k=>or_isSome (unk_rn hφ.inj names toks (flat_rn hφ k.1.2)) (rulesUnk_rn hφ names toks k.2)
 | [],_::_,k=>k.elim
 | _::_,[],k=>k.elim
theorem GrRn.unk (hφ:Ren φ)(e:GrRn φ g h):(unkG h).isSome=(unkG g).isSome:=by
 unfold unkG;rw[e.names,e.ltoks];exact rulesUnk_rn hφ _ _ e.2
theorem ixOf_map (hi:∀ a b,φ a=φ b->a=b)(l:List ByteArray)(b:ByteArray):ixOf (l.map φ) (φ b)=ixOf l b:=findIdx_map hi b l
theorem used_rn (hφ:Ren φ){C:It->It->Prop}{l m:List Alt}(e:AltsC φ C 9 l m):usedN m=(usedN l).map φ:=by
 unfold usedN textsOf;rw[List.map_map];exact All2.map_eq (fun w v hwv=>hwv.2) (All2.filt (fun w v hwv=>by rw[hwv.1]) (flat_rn hφ e))
theorem mark_rn (hi:∀ a b,φ a=φ b->a=b) (ns:List ByteArray):∀ (us:List ByteArray) (bs:List Bool),markL (ns.map φ) (us.map φ) bs=markL ns us bs
 | [],_=>rfl
 | u::us,bs=>by
  show markL (ns.map φ) (us.map φ) (bs.set (ixOf (ns.map φ) (φ u)) true)=markL ns us (bs.set (ixOf ns u) true);rw[ixOf_map hi];exact mark_rn hi ns us _
theorem all2_at {R:Rl->Rl->Prop}:∀ {rs ss:List Rl} (i:Nat),All2 R rs ss->(∃ r s,rs[i]?=some r/\ss[i]?=some s/\R r s)∨(rs[i]?=none/\ss[i]?=none)
 | [],[],_,_=>.inr ⟨by simp,by simp⟩
 | r::rs,s::ss,0,k=>.inl ⟨r,s,rfl,rfl,k.1⟩
 | _::_,_::_,i+1,k=>by
  rw[List.getElem?_cons_succ,List.getElem?_cons_succ];exact all2_at i k.2
 | [],_::_,_,k=>k.elim
 | _::_,[],_,k=>k.elim
theorem GrRn.altsAt (e:GrRn φ g h)(i:Nat):AltsC φ TrC 9 (altsAt g i) (altsAt h i):=by
 unfold Lx.altsAt;rcases all2_at i e.2 with ⟨r,s,h1,h2,h3⟩ | ⟨h1,h2⟩
 ·rw[h1,h2];exact h3.2
 ·rw[h1,h2];trivial
theorem GrRn.come (hφ:Ren φ)(e:GrRn φ g h):comeL h=comeL g:=by
 have hs:comeStep h=comeStep g:=by
  funext i bs;unfold comeStep;rw[used_rn hφ (e.altsAt i),e.names,mark_rn hφ.inj]
 unfold comeL;rw[hs,<-All2.len e.2]
theorem ends_rn {on on':ByteArray->Bool} (ho:∀ b,on' (φ b)=on b) {C:It->It->Prop}:∀ {d:Nat} {l m:List Alt},AltsC φ C d l m->endsA on' d m=endsA on d l
 | 0,_,_,_=>rfl
 | d+1,l,m,e=>by
  rw[endsA,endsA];refine All2.any_eq (fun a b hab=>?_) (AltsC.succ.1 e);refine All2.all_eq (fun x y hxy=>?_) hab.1;rw[<-hxy.1.1,<-hxy.1.2.2,hxy.1.2.1,ho,ends_rn ho hxy.2.2]
theorem GrRn.ends (hφ:Ren φ)(e:GrRn φ g h):endL h=endL g:=by
 have hs:endStep h=endStep g:=by
  funext i bs;unfold endStep;rw[ends_rn (on:=onB g bs) (on':=onB h bs) (fun b=>by unfold onB;rw[e.names,ixOf_map hφ.inj]) (e.altsAt i)]
 unfold endL;rw[hs,<-All2.len e.2]
theorem off_rn {R:Rl->Rl->Prop}:∀ {rs ss:List Rl} (bs:List Bool),All2 R rs ss->(firstOff ss bs).isSome=(firstOff rs bs).isSome
 | [],[],_,_=>rfl
 | _::_,_::_,[],_=>rfl
 | _::_,_::_,b::bs,k=>by
  rw[firstOff,firstOff]
  split
  ·exact off_rn bs k.2
  ·rfl
 | [],_::_,_,k=>k.elim
 | _::_,[],_,k=>k.elim
theorem orE_rn {n:Nat}{o o':Option Nat}{r r':Nat × Nat}(h:o'.isSome=o.isSome)(k:r'.1=r.1):(orE n o' r').1=(orE n o r).1:=by
 cases o <;> cases o' <;> simp_all [orE]
theorem GrRn.chk (hφ:Ren φ)(e:GrRn φ g h):(chk h).1=(chk g).1:=by
 unfold Lx.chk;rw[e.come hφ,e.ends hφ];exact orE_rn (e.dup hφ) (orE_rn (e.unk hφ) (orE_rn (off_rn _ e.2) (orE_rn (off_rn _ e.2) rfl)))
end
structure MkSame (φ:ByteArray->ByteArray) (g h:Gr):Prop where
 tok:tokG h=(tokG g).map φ
 nam:namG h=(namG g).map φ
 prod:prodG h=prodG g
 bk:∀ t,bkOf h (φ t)=bkOf g t
theorem mk_rn {φ:ByteArray->ByteArray} {g h:Gr} {s t:ByteArray} (hφ:Ren φ) (hs:parse s=.ok g) (ht:parse t=.ok h) (e:GrRn φ g h) :
  (∀ g',mkR s=.ok g'->g'=g/\mkR t=.ok h/\MkSame φ g h)/\(∀ x,mkR s=.error x->∃ a,mkR t=.error (x.1,a)):=by
 have hn:∀ r∈g.rules,isName r.name=true:=fun r hr=>((parse_is hs).2.1 r hr).1
 have hp:prodG h=prodG g:=e.prod hφ hn (parse_took hs).2 (parse_took ht).2;have hc:=e.chk hφ
 by_cases h0:(Lx.chk g).1=0
 ·by_cases hm:200<(prodG g).length
  ·refine⟨(fun g' hg=>by rw[mkR_many hs h0 hm]at hg;cases hg),fun x hx=>?_⟩
   rw[mkR_many hs h0 hm]at hx;cases hx;exact⟨0,mkR_many ht (hc.trans h0) (by rw[hp];exact hm)⟩
  ·refine⟨fun g' hg=>?_,fun x hx=>by rw[mkR_ok hs h0 hm]at hx;cases hx⟩
   rw[mkR_ok hs h0 hm]at hg;cases hg;exact⟨rfl,mkR_ok ht (hc.trans h0) (by rw[hp];exact hm),e.tok hφ,e.nam hφ hn,hp,e.bk hφ⟩
 ·refine⟨(fun g' hg=>by rw[mkR_chk hs h0]at hg;cases hg),fun x hx=>?_⟩
  rw[mkR_chk hs h0]at hx;cases hx;refine⟨(Lx.chk h).2,?_⟩;rw[mkR_chk ht (by rw[hc];exact h0),<-hc]
end Lx
end
section
open Go Go.RowKit
namespace Lx
structure Fx (φ:ByteArray->ByteArray):Prop where
 ren:Ren φ
 op:φ tOpen=tOpen
 sh:φ tShut=tShut
 st:φ tStar=tStar
 pl:φ tPlus=tPlus
 ask:φ tAsk=tAsk
 bar:φ tBar=tBar
 semi:φ tSemi=tSemi
 eq:φ tEq=tEq
 prec:φ tPrec=tPrec
 left:φ tLeft=tLeft
 right:φ tRight=tRight
 none:φ tNone=tNone
structure TF (φ:ByteArray->ByteArray) (ts us:List Tk):Prop where
 eq:us.map Prod.fst=(ts.map Prod.fst).map φ
 nm:∀ t∈ts,isName (φ t.1)=isName t.1/\isToken (φ t.1)=isToken t.1
section
variable {φ:ByteArray -> ByteArray} (hφ:Fx φ)
include hφ
theorem TF.hd {ts us:List Tk}(h:TF φ ts us):hd us=φ (hd ts):=by
 have e:=h.eq;cases ts with
 | nil =>
  cases us with
  | nil=>exact hφ.ren.none.symm
  | cons u us=>simp at e
 | cons t ts =>
  cases us with
  | nil=>simp at e
  | cons u us =>
   rw[List.map_cons,List.map_cons,List.map_cons,List.cons.injEq]at e;exact e.1
omit hφ in
theorem TF.tail {ts us:List Tk}(h:TF φ ts us):TF φ ts.tail us.tail:=by
 refine⟨?_,fun t ht=>h.nm t (List.mem_of_mem_tail ht)⟩;have e:=congrArg List.tail h.eq
 rwa [<-List.map_tail,<-List.map_tail,<-List.map_tail]at e
omit hφ in
theorem TF.len {ts us:List Tk}(h:TF φ ts us):ts.length=us.length:=by
 have e:=congrArg List.length h.eq;simpa using e.symm
theorem TF.is {ts us:List Tk}(h:TF φ ts us){b:ByteArray}(hb:φ b=b):(Lx.hd us=b)=(Lx.hd ts=b):=by
 rw[h.hd hφ];exact propext ⟨fun e=>hφ.ren.inj _ _ (e.trans hb.symm),fun e=>by rw[e];exact hb⟩
theorem TF.words {ts us:List Tk}(h:TF φ ts us):isName (Lx.hd us)=isName (Lx.hd ts)/\isToken (Lx.hd us)=isToken (Lx.hd ts):=by
 rw[h.hd hφ];cases ts with
 | nil=>show isName (φ noText)=_/\isToken (φ noText)=_;rw[hφ.ren.none];exact⟨rfl,rfl⟩
 | cons t ts=>exact h.nm t List.mem_cons_self
omit hφ in
theorem TF.push {ts us:List Tk}{t u:Tk}(h:ts.map Prod.fst=(us.map Prod.fst).map φ)(e:t.1=φ u.1):(ts++[t]).map Prod.fst=((us++[u]).map Prod.fst).map φ:=by
 rw[List.map_append,List.map_append,List.map_append,h];simp[e]
omit hφ in
def RelF (φ:ByteArray->ByteArray) {α:Type} (R:α->α->Prop):Res α->Res α->Prop
 | .ok (x,ts),.ok (y,us)=>R x y/\TF φ ts us
 | .error _,.error _=>True
 | _,_=>False
omit hφ in
theorem RelF.on {α β:Type}{R:α->α->Prop}{S:β->β->Prop}{r r':Res α}(h:RelF φ R r r')(k k':α->List Tk->Res β)(hk:∀ x y ts us,R x y->TF φ ts us->RelF φ S (k x ts) (k' y us)):RelF φ S (bnd r k) (bnd r' k'):=by
 cases r with
 | error e=>cases r' with
  | error f=>exact h
  | ok y=>exact h.elim
 | ok x=>cases r' with
  | error f=>exact h.elim
  | ok y=>exact hk _ _ _ _ h.1 h.2
omit hφ in
theorem rel_if {α:Type}{R:α->α->Prop}{c c':Prop} [Decidable c] [Decidable c'] (hc:c'=c){a b a' b':Res α}(h1:c->RelF φ R a a')(h2:¬ c->RelF φ R b b'):RelF φ R (if c then a else b) (if c' then a' else b'):=by
 by_cases h:c
 ·rw[if_pos h,if_pos (hc ▸ h)];exact h1 h
 ·rw[if_neg h,if_neg (fun h'=>h (hc ▸ h'))];exact h2 h
def WdF (φ:ByteArray->ByteArray)(a b:ByteArray):Prop:=b=φ a
theorem pName_rf {ts us:List Tk}(h:TF φ ts us):RelF φ (WdF φ) (pWord isName ts) (pWord isName us):=by
 unfold pWord;rw[(h.words hφ).1]
 split
 ·exact⟨h.hd hφ,h.tail⟩
 ·trivial
theorem pToken_rf {ts us:List Tk}(h:TF φ ts us):RelF φ (WdF φ) (pWord isToken ts) (pWord isToken us):=by
 unfold pWord;rw[(h.words hφ).2]
 split
 ·exact⟨h.hd hφ,h.tail⟩
 ·trivial
theorem pMust_rf {b:ByteArray}(hb:φ b=b){ts us:List Tk}(h:TF φ ts us):RelF φ Eq (pMust b ts) (pMust b us):=by
 exact rel_if (h.is hφ hb) (fun _=>⟨rfl,h.tail⟩) (fun _=>trivial)
theorem pMark_rf {ts us:List Tk}(h:TF φ ts us):(pMark ts).1=(pMark us).1/\TF φ (pMark ts).2 (pMark us).2:=by
 unfold pMark;have e1:=h.is hφ hφ.st;have e2:=h.is hφ hφ.pl;have e3:=h.is hφ hφ.ask
 by_cases c1:Lx.hd ts=tStar
 ·rw[if_pos c1,if_pos (e1 ▸ c1)];exact⟨rfl,h.tail⟩
 ·rw[if_neg c1,if_neg (fun h'=>c1 (e1 ▸ h'))]
  by_cases c2:Lx.hd ts=tPlus
  ·rw[if_pos c2,if_pos (e2 ▸ c2)];exact⟨rfl,h.tail⟩
  ·rw[if_neg c2,if_neg (fun h'=>c2 (e2 ▸ h'))]
   by_cases c3:Lx.hd ts=tAsk
   ·rw[if_pos c3,if_pos (e3 ▸ c3)];exact⟨rfl,h.tail⟩
   ·rw[if_neg c3,if_neg (fun h'=>c3 (e3 ▸ h'))];exact⟨rfl,h⟩
def ItF (φ:ByteArray->ByteArray)(d:Nat)(x y:It):Prop:=RnI φ x y/\TrC x y/\AltsC φ TrC d x.alts y.alts
def AltF (φ:ByteArray->ByteArray)(d:Nat)(a b:Alt):Prop:=All2 (ItF φ d) a.1 b.1/\b.2.1=φ a.2.1
omit hφ in
theorem AltsC.nil:∀ d,AltsC φ TrC d [] []
 | 0=>⟨rfl,rfl⟩
 | _+1=>trivial
def GrpF (φ:ByteArray->ByteArray)(d:Nat)(grp:List Tk->Res (List Alt)):Prop:=∀ ts us,TF φ ts us->RelF φ (AltsC φ TrC d) (grp ts) (grp us)
theorem pItem_rf {d:Nat}{grp:List Tk->Res (List Alt)}(hg:GrpF φ d grp){ts us:List Tk}(h:TF φ ts us):RelF φ (ItF φ d) (pItem grp ts) (pItem grp us):=by
 rw[pItem_eq,pItem_eq,(h.words hφ).1,(h.words hφ).2];refine rel_if (h.is hφ hφ.op) (fun _=>?_) (fun _=>?_)
 ·exact RelF.on (hg _ _ h) _ _ fun x y t u hx ht=>⟨⟨⟨rfl,hφ.ren.none.symm,(pMark_rf hφ ht).1⟩,trivial,hx⟩,(pMark_rf hφ ht).2⟩
 ·split
  ·exact⟨⟨⟨rfl,h.hd hφ,(pMark_rf hφ h.tail).1⟩,trivial,AltsC.nil d⟩,(pMark_rf hφ h.tail).2⟩
  ·split
   ·exact⟨⟨⟨rfl,h.hd hφ,(pMark_rf hφ h.tail).1⟩,trivial,AltsC.nil d⟩,(pMark_rf hφ h.tail).2⟩
   ·trivial
theorem seesItem_rf {ts us:List Tk}(h:TF φ ts us):seesItem us=seesItem ts:=by
 unfold seesItem;rw[(h.words hφ).1,(h.words hφ).2];congr 2;exact decide_eq_decide.2 (iff_of_eq (h.is hφ hφ.op))
theorem pItems_rf {d:Nat} {grp:List Tk->Res (List Alt)} (hg:GrpF φ d grp):∀ (f:Nat) {ts us:List Tk} {a b:List It},TF φ ts us->All2 (ItF φ d) a b->RelF φ (All2 (ItF φ d)) (pItems grp f ts a) (pItems grp f us b)
 | 0,_,_,_,_,h,ha=>⟨ha,h⟩
 | f+1,_,_,_,_,h,ha=>by
  rw[pItems_eq,pItems_eq,seesItem_rf hφ h]
  split
  ·exact RelF.on (pItem_rf hφ hg h) _ _ fun x y t u hx ht=>pItems_rf hg f ht (ha.push hx)
  ·exact⟨ha,h⟩
theorem pPrec_rf {d:Nat}(top:Bool){a b:List It}{ts us:List Tk}(h:TF φ ts us)(ha:All2 (ItF φ d) a b):RelF φ (AltF φ d) (pPrec top a ts) (pPrec top b us):=by
 rw[pPrec_eq,pPrec_eq];refine rel_if (by rw[h.is hφ hφ.prec]) (fun _=>?_) (fun _=>?_)
 ·exact RelF.on (pToken_rf hφ h.tail) _ _ fun x y t u hx ht=>⟨⟨ha,hx⟩,ht⟩
 ·exact⟨⟨ha,hφ.ren.none.symm⟩,h⟩
theorem pAlt_rf {d:Nat}{grp:List Tk->Res (List Alt)}(hg:GrpF φ d grp)(top:Bool){ts us:List Tk}(h:TF φ ts us):RelF φ (AltF φ d) (pAlt grp top ts) (pAlt grp top us):=by
 rw[pAlt_eq,pAlt_eq,h.len];exact RelF.on (pItems_rf hφ hg us.length h (a:=[]) (b:=[]) trivial) _ _ fun x y t u hx ht=>pPrec_rf hφ top ht hx
theorem pMore_rf {d:Nat} {grp:List Tk->Res (List Alt)} (hg:GrpF φ d grp) (top:Bool):∀ (f:Nat) {ts us:List Tk} {a b:List Alt},TF φ ts us->All2 (AltF φ d) a b->RelF φ (All2 (AltF φ d)) (pMore grp top f ts a) (pMore grp top f us b)
 | 0,_,_,_,_,h,ha=>⟨ha,h⟩
 | f+1,_,_,_,_,h,ha=>by
  rw[pMore_eq,pMore_eq];refine rel_if (h.is hφ hφ.bar) (fun _=>?_) (fun _=>?_)
  ·exact RelF.on (pAlt_rf hφ hg top h.tail) _ _ fun x y t u hx ht=>pMore_rf hg top f ht (ha.push hx)
  ·exact⟨ha,h⟩
theorem pAltsBy_rf {d:Nat}{grp:List Tk->Res (List Alt)}(hg:GrpF φ d grp)(top:Bool){ts us:List Tk}(h:TF φ ts us):RelF φ (AltsC φ TrC (d+1)) (pAltsBy grp top ts) (pAltsBy grp top us):=by
 rw[pAltsBy_eq,pAltsBy_eq];refine RelF.on (pAlt_rf hφ hg top h) _ _ fun x y t u hx ht=>?_
 rw[ht.len];exact pMore_rf hφ hg top u.length ht (a:=[x]) (b:=[y]) ⟨hx,trivial⟩
theorem pGroup_rf {d:Nat}{r:List Tk->Res (List Alt)}(hr:GrpF φ d r):GrpF φ d (pGroup r):=fun ts us h=>by
 rw[pGroup_eq,pGroup_eq];refine RelF.on (hr _ _ h.tail) _ _ fun x y t u hx ht=>?_
 exact RelF.on (pMust_rf hφ hφ.sh ht) _ _ fun _ _ t u _ ht=>⟨hx,ht⟩
theorem pAlts_rf:∀ d,GrpF φ (d+1) (pAlts d)
 | 0=>fun _ _ h=>pAltsBy_rf hφ (grp:=fun ts=>.error (3,pl ts)) (fun _ _ _=>trivial) false h
 | d+1=>fun _ _ h=>pAltsBy_rf hφ (pGroup_rf hφ (pAlts_rf d)) (d == 7) h
theorem pRule_rf {ts us:List Tk}(h:TF φ ts us):RelF φ (RlRn φ) (pRule ts) (pRule us):=by
 rw[pRule_eq,pRule_eq];refine RelF.on (pName_rf hφ h) _ _ fun n m t1 u1 hn h1=>?_
 refine RelF.on (pMust_rf hφ hφ.eq h1) _ _ fun _ _ t2 u2 _ h2=>?_
 refine RelF.on (pAlts_rf hφ 8 _ _ h2) _ _ fun x y t3 u3 hx h3=>?_
 exact RelF.on (pMust_rf hφ hφ.semi h3) _ _ fun _ _ t4 u4 _ h4=>⟨⟨hn,hx⟩,h4⟩
def TkF (φ:ByteArray->ByteArray)(a b:List Tk):Prop:=b.map Prod.fst=(a.map Prod.fst).map φ
theorem pTokens_rf:∀ (f:Nat) {ts us a b:List Tk},TF φ ts us->TkF φ a b->RelF φ (TkF φ) (pTokens f ts a) (pTokens f us b)
 | 0,_,_,_,_,h,ha=>⟨ha,h⟩
 | f+1,_,_,_,_,h,ha=>by
  rw[pTokens_eq,pTokens_eq];refine rel_if (h.is hφ hφ.semi) (fun _=>?_) (fun _=>?_)
  ·exact⟨ha,h.tail⟩
  ·exact RelF.on (pToken_rf hφ h) _ _ fun x y t u hx ht=>pTokens_rf f ht (TF.push ha hx)
theorem levelKind_rf {ts us:List Tk}(h:TF φ ts us):levelKind (hd us)=levelKind (hd ts):=by
 unfold levelKind;have e1:=h.is hφ hφ.left;have e2:=h.is hφ hφ.right;have e3:=h.is hφ hφ.none;simp only[e1,e2,e3]
theorem pLevel_rf {ts us:List Tk}(h:TF φ ts us):RelF φ (LvRn φ) (pLevel ts) (pLevel us):=by
 rw[pLevel_eq,pLevel_eq,levelKind_rf hφ h];refine RelF.on (pToken_rf hφ h.tail) _ _ fun x y t u hx ht=>?_
 rw[ht.len];refine RelF.on (pTokens_rf hφ u.length ht (a:=[(x,pl ts.tail)]) (b:=[(y,pl us.tail)]) ?_) _ _ fun l m t2 u2 hl h2=>⟨⟨rfl,hl⟩,h2⟩
 show [y]=[φ x];rw[show y=φ x from hx]
theorem pLevels_rf:∀ (f:Nat) {ts us:List Tk} {a b:List Lv},TF φ ts us->All2 (LvRn φ) a b->RelF φ (All2 (LvRn φ)) (pLevels f ts a) (pLevels f us b)
 | 0,_,_,_,_,h,ha=>⟨ha,h⟩
 | f+1,_,_,_,_,h,ha=>by
  rw[pLevels_eq,pLevels_eq,levelKind_rf hφ h]
  split
  ·exact RelF.on (pLevel_rf hφ h) _ _ fun x y t u hx ht=>pLevels_rf f ht (ha.push hx)
  ·exact⟨ha,h⟩
theorem pRules_rf:∀ (f:Nat) {ts us:List Tk} {a b:List Rl},TF φ ts us->All2 (RlRn φ) a b->RelF φ (All2 (RlRn φ)) (pRules f ts a) (pRules f us b)
 | 0,_,_,_,_,h,ha=>⟨ha,h⟩
 | f+1,_,_,_,_,h,ha=>by
  rw[pRules_eq,pRules_eq];refine rel_if (h.is hφ hφ.ren.none) (fun _=>?_) (fun _=>?_)
  ·exact⟨ha,h⟩
  ·exact RelF.on (pRule_rf hφ h) _ _ fun x y t u hx ht=>pRules_rf f ht (ha.push hx)
theorem pGrammar_rf {ts us:List Tk}(h:TF φ ts us):RelF φ (GrRn φ) (pGrammar ts) (pGrammar us):=by
 rw[pGrammar_bnd,pGrammar_bnd,h.len];refine RelF.on (pLevels_rf hφ us.length h (a:=[]) (b:=[]) trivial) _ _ fun lv lw t1 u1 hl h1=>?_
 refine RelF.on (pRule_rf hφ h1) _ _ fun x y t2 u2 hx h2=>?_
 rw[h2.len];exact RelF.on (pRules_rf hφ u2.length h2 (a:=[x]) (b:=[y]) ⟨hx,trivial⟩) _ _ fun l m t3 u3 hm h3=>⟨⟨hl,hm⟩,h3⟩
theorem parse_rf {s t:ByteArray}{g g':Gr}(hs:parse s=.ok g)(ht:parse t=.ok g')(h:TF φ (lex s) (lex t)):GrRn φ g g':=by
 unfold parse at hs ht
 split at hs
 ·cases hs
 ·split at ht
  ·cases ht
  ·have hr:=pGrammar_rf hφ h
   cases h1:pGrammar (lex s) with
   | error e=>rw[h1]at hs;cases hs
   | ok x =>
    cases h2:pGrammar (lex t) with
    | error e=>rw[h2]at ht;cases ht
    | ok y =>
     rw[h1]at hs hr;rw[h2]at ht hr;cases hs;cases ht;exact hr.1
end
end Lx
end
section
open Go.RowKit
namespace Lx
theorem gapOf_cases (b w:ByteArray):gapOf b w=⟨#[10]⟩∨gapOf b w=⟨#[32]⟩∨(gapOf b w=⟨#[]⟩/\(b=noText∨b=⟨#[40]⟩∨w=noText∨w=⟨#[59]⟩∨w=⟨#[41]⟩∨w=⟨#[42]⟩∨w=⟨#[43]⟩∨w=⟨#[63]⟩)):=by
 unfold gapOf
 split
 ·exact .inl rfl
 ·split
  ·rename_i h
   refine .inr (.inr ⟨rfl,?_⟩);simp only[Bool.or_eq_true]at h;rcases h with (h | h) | h
   ·exact .inl (text_eq h)
   ·exact .inr (.inl (text_eq h))
   ·exact .inr (.inr (.inl (text_eq h)))
  ·split
   ·rename_i h
    refine .inr (.inr ⟨rfl,?_⟩);simp only[Bool.or_eq_true]at h;rcases h with (((h | h) | h) | h) | h
    ·exact .inr (.inr (.inr (.inl (text_eq h))))
    ·exact .inr (.inr (.inr (.inr (.inl (text_eq h)))))
    ·exact .inr (.inr (.inr (.inr (.inr (.inl (text_eq h))))))
    ·exact .inr (.inr (.inr (.inr (.inr (.inr (.inl (text_eq h)))))))
    ·exact .inr (.inr (.inr (.inr (.inr (.inr (.inr (text_eq h)))))))
   ·exact .inr (.inl rfl)
theorem no_sig:¬ Sig (bytes noText):=fun h=>h
theorem gap_ten (r:List UInt8):gapL (10::r) false=gapL r false:=by rw[gapL,if_pos (by decide)]
theorem gap_blk (r:List UInt8):gapL (32::r) false=gapL r false:=by
 rw[gapL,if_neg (by decide),if_neg (by decide),if_neg (fun h=>h.2.1 (by decide))]
structure Fill (nl bl fin:List UInt8):Prop where
 n1:∀ r,gapL (nl++r) false=gapL r false
 b1:∀ r,gapL (bl++r) false=gapL r false
 f1:gapL fin false=[]
 n2:∃ x r,nl=x::r/\wcB x=false
 b2:∃ x r,bl=x::r/\wcB x=false
 f2:fin=[]∨∃ x r,fin=x::r/\wcB x=false
def fillOf (nl bl:List UInt8)(g:ByteArray):List UInt8:=if g=⟨#[10]⟩ then nl else if g=⟨#[32]⟩ then bl else []
theorem fill_nl (nl bl:List UInt8):fillOf nl bl ⟨#[10]⟩=nl:=if_pos rfl
theorem fill_bl (nl bl:List UInt8):fillOf nl bl ⟨#[32]⟩=bl:=by unfold fillOf;rw[if_neg (by decide),if_pos rfl]
theorem fill_no (nl bl:List UInt8):fillOf nl bl ⟨#[]⟩=[]:=by unfold fillOf;rw[if_neg (by decide),if_neg (by decide)]
theorem Fill.gaps {nl bl fin:List UInt8}(h:Fill nl bl fin):Gaps (fun b w=>fillOf nl bl (gapOf b w)) (fun b=>fillOf nl bl (gapOf b noText)++fin):=by
 refine⟨fun b w r=>?_,fun b=>?_,fun b w r hb hw=>?_,fun b hb=>?_⟩
 ·rcases gapOf_cases b w with e | e | ⟨e,_⟩ <;> rw[e]
  ·rw[fill_nl];exact h.n1 r
  ·rw[fill_bl];exact h.b1 r
  ·rw[fill_no];rfl
 ·rcases gapOf_cases b noText with e | e | ⟨e,_⟩ <;> rw[e]
  ·rw[fill_nl,h.n1];exact h.f1
  ·rw[fill_bl,h.b1];exact h.f1
  ·rw[fill_no];exact h.f1
 ·rcases gapOf_cases b w with e | e | ⟨e,hx⟩ <;> rw[e]
  ·rw[fill_nl];obtain⟨x,t,e',hx⟩:=h.n2;rw[e'];exact .inl hx
  ·rw[fill_bl];obtain⟨x,t,e',hx⟩:=h.b2;rw[e'];exact .inl hx
  ·rw[fill_no]
   rcases hx with rfl | rfl | rfl | rfl | rfl | rfl | rfl | rfl
   ·exact absurd hb no_sig
   ·show Stop [40] _
    cases hh:([]++(bytes w++r)) with
    | nil=>trivial
    | cons y z=>exact .inr ⟨40,rfl,by decide,by decide⟩
   ·exact absurd hw no_sig
   all_goals exact .inl (by decide)
 ·rcases gapOf_cases b noText with e | e | ⟨e,_⟩ <;> rw[e]
  ·rw[fill_nl];obtain⟨x,t,e',hx⟩:=h.n2;rw[e'];exact .inl hx
  ·rw[fill_bl];obtain⟨x,t,e',hx⟩:=h.b2;rw[e'];exact .inl hx
  ·rw[fill_no,List.nil_append]
   rcases h.f2 with rfl | ⟨x,t,rfl,hx⟩
   ·trivial
   ·exact .inl hx
theorem plain_fill:Fill [10] [32] []:=⟨gap_ten,gap_blk,rfl,⟨10,[],rfl,by decide⟩,⟨32,[],rfl,by decide⟩,.inl rfl⟩
theorem fill_plain (b w:ByteArray):fillOf [10] [32] (gapOf b w)=bytes (gapOf b w):=by
 rcases gapOf_cases b w with e | e | ⟨e,_⟩ <;> rw[e]
 ·rw[fill_nl];rfl
 ·rw[fill_bl];rfl
 ·rw[fill_no];rfl
theorem form_lay:∀ (ws:List ByteArray) (b:ByteArray),formB b (ws++[noText])=lay (fun b w=>fillOf [10] [32] (gapOf b w)) (fun b=>fillOf [10] [32] (gapOf b noText)++[]) b ws
 | [],b=>by
  simp only[List.nil_append,formB,lay,List.append_nil];rw[fill_plain];show _++([]:List UInt8)=_;rw[List.append_nil];rfl
 | w::ws,b=>by
  simp only[List.cons_append,formB,lay];rw[form_lay ws w,fill_plain];rfl
theorem WF.split:∀ {ts:List Tk},WF ts->∃ ws,ts.map Prod.fst=ws++[noText]
 | [],h=>h.elim
 | [t],h=>⟨[],congrArg (·::[]) h⟩
 | t::u::r,h=>by
  obtain⟨ws,e⟩:=WF.split (ts:=u::r) h.2;exact⟨t.1::ws,by rw[List.map_cons,e];rfl⟩
theorem lex_signs (s:ByteArray):∃ ws,(lex s).map Prod.fst=ws++[noText]/\∀ x∈ws,Sig (bytes x):=by
 obtain⟨ws,e⟩:=WF.split (lex_wf s);refine⟨ws,e,fun x hx=>?_⟩;have hn:=WF.some (lex_wf s) e x hx;have:x∈(lex s).map Prod.fst:=by rw[e];exact List.mem_append_left _ hx
 obtain⟨t,ht,rfl⟩:=List.mem_map.1 this;exact (lex_sig s t ht).resolve_left hn
theorem lex_laid {nl bl fin:List UInt8}(h:Fill nl bl fin){ws:List ByteArray}(hw:∀ x∈ws,Sig (bytes x)){t:ByteArray}(ht:bytes t=lay (fun b w=>fillOf nl bl (gapOf b w)) (fun b=>fillOf nl bl (gapOf b noText)++fin) noText ws):(lex t).map Prod.fst=ws++[noText]:=by
 rw[lex_P,ht];refine relex h.gaps ws noText _ _ hw ?_;have h1:=congrArg List.length (gapEnd_L (s:=t) (i:=0) false (Nat.zero_le _));rw[List.length_drop,bytes_len,List.drop_zero,ht]at h1;omega
end Lx
end
section
open Go Go.RowKit
namespace Lx
def Known (b:ByteArray):Prop:=isName b=true∨isToken b=true∨b∈[tOpen,tShut,tStar,tPlus,tAsk,tBar,tSemi,tEq,tPrec,tLeft,tRight,tNone]
def Pre (ts ts':List Tk):Prop:=∃ pre,ts=pre++ts'/\∀ t∈pre,Known t.1
theorem Pre.refl (ts:List Tk):Pre ts ts:=⟨[],rfl,fun t h=>by cases h⟩
theorem Pre.trans {a b c:List Tk}(h:Pre a b)(k:Pre b c):Pre a c:=by
 obtain⟨p,rfl,h1⟩:=h;obtain⟨q,rfl,h2⟩:=k;exact⟨p++q,by rw[List.append_assoc],fun t ht=>(List.mem_append.1 ht).elim (h1 t) (h2 t)⟩
theorem Pre.tail {ts:List Tk}(h:Known (hd ts))(hn:hd ts≠noText):Pre ts ts.tail:=by
 cases ts with
 | nil=>exact absurd rfl hn
 | cons t ts=>exact⟨[t],rfl,fun u hu=>by rw[List.mem_singleton.1 hu];exact h⟩
def Good {α:Type}(r:Res α)(ts:List Tk):Prop:=∀ x ts',r=.ok (x,ts')->Pre ts ts'
theorem Good.on {α β:Type}{r:Res α}{ts:List Tk}(h:Good r ts){k:α->List Tk->Res β}(hk:∀ x ts1,Good (k x ts1) ts1):Good (bnd r k) ts:=by
 intro y ts' e;cases r with
 | error f=>cases e
 | ok x=>exact (h _ _ rfl).trans (hk _ _ y ts' e)
theorem Good.if {α:Type}{c:Prop} [Decidable c] {a b:Res α}{ts:List Tk}(h1:c->Good a ts)(h2:¬ c->Good b ts):Good (if c then a else b) ts:=by
 split
 ·rename_i h;exact h1 h
 ·rename_i h;exact h2 h
theorem Good.ok {α:Type}{x:α}{ts ts':List Tk}(h:Pre ts ts'):Good (.ok (x,ts')) ts:=by
 intro y ts2 e;cases e;exact h
theorem Good.err {α:Type}{e:Nat × Nat}{ts:List Tk}:Good (.error e:Res α) ts:=fun _ _ h=>by cases h
theorem Good.from {α:Type}{r:Res α}{ts ts1:List Tk}(h:Pre ts ts1)(k:Good r ts1):Good r ts:=fun x ts' e=>h.trans (k x ts' e)
theorem words_no:isName noText=false/\isToken noText=false:=by constructor <;> decide
theorem name_tail {ts:List Tk}(h:isName (hd ts)=true):Pre ts ts.tail:=Pre.tail (.inl h) fun e=>by rw[e,words_no.1]at h;cases h
theorem token_tail {ts:List Tk}(h:isToken (hd ts)=true):Pre ts ts.tail:=Pre.tail (.inr (.inl h)) fun e=>by rw[e,words_no.2]at h;cases h
theorem sign_tail {ts:List Tk}{b:ByteArray}(h:hd ts=b)(hb:b∈[tOpen,tShut,tStar,tPlus,tAsk,tBar,tSemi,tEq,tPrec,tLeft,tRight,tNone])(hn:b≠noText):Pre ts ts.tail:=Pre.tail (.inr (.inr (by rw[h];exact hb))) (by rw[h];exact hn)
theorem pName_good (ts:List Tk):Good (pWord isName ts) ts:=Good.if (fun h=>.ok (name_tail h)) (fun _=>.err)
theorem pToken_good (ts:List Tk):Good (pWord isToken ts) ts:=Good.if (fun h=>.ok (token_tail h)) (fun _=>.err)
theorem pMust_good {b:ByteArray}(hb:b∈[tOpen,tShut,tStar,tPlus,tAsk,tBar,tSemi,tEq,tPrec,tLeft,tRight,tNone])(hn:b≠noText)(ts:List Tk):Good (pMust b ts) ts:=Good.if (fun h=>.ok (sign_tail h hb hn)) (fun _=>.err)
theorem pMark_good (ts:List Tk):Pre ts (pMark ts).2:=by
 unfold pMark
 split
 ·rename_i h;exact sign_tail h (by simp) (by decide)
 ·split
  ·rename_i h;exact sign_tail h (by simp) (by decide)
  ·split
   ·rename_i h;exact sign_tail h (by simp) (by decide)
   ·exact Pre.refl _
def GrpGood (grp:List Tk->Res (List Alt)):Prop:=∀ ts,hd ts=tOpen->Good (grp ts) ts
theorem pItem_good {grp:List Tk->Res (List Alt)}(hg:GrpGood grp)(ts:List Tk):Good (pItem grp ts) ts:=by
 rw[pItem_eq];refine Good.if (fun h=>Good.on (hg ts h) fun x ts1=>.ok (pMark_good ts1)) fun _=>?_
 refine Good.if (fun h=>.ok ((name_tail h).trans (pMark_good _))) fun _=>?_
 exact Good.if (fun h=>.ok ((token_tail h).trans (pMark_good _))) fun _=>.err
theorem pItems_good {grp:List Tk->Res (List Alt)} (hg:GrpGood grp):∀ (f:Nat) (ts:List Tk) (a:List It),Good (pItems grp f ts a) ts
 | 0,ts,a=>.ok (Pre.refl _)
 | f+1,ts,a=>by
  rw[pItems_eq];exact Good.if (fun _=>Good.on (pItem_good hg ts) fun x ts1=>pItems_good hg f ts1 _) fun _=>.ok (Pre.refl _)
theorem pPrec_good (top:Bool)(a:List It)(ts:List Tk):Good (pPrec top a ts) ts:=by
 rw[pPrec_eq];refine Good.if (fun h=>?_) fun _=>.ok (Pre.refl _)
 exact Good.from (sign_tail h.2 (by simp) (by decide)) (Good.on (pToken_good _) fun x ts1=>.ok (Pre.refl _))
theorem pAlt_good {grp:List Tk->Res (List Alt)}(hg:GrpGood grp)(top:Bool)(ts:List Tk):Good (pAlt grp top ts) ts:=by
 rw[pAlt_eq];exact Good.on (pItems_good hg _ _ _) fun x ts1=>pPrec_good top x ts1
theorem pMore_good {grp:List Tk->Res (List Alt)} (hg:GrpGood grp) (top:Bool):∀ (f:Nat) (ts:List Tk) (a:List Alt),Good (pMore grp top f ts a) ts
 | 0,ts,a=>.ok (Pre.refl _)
 | f+1,ts,a=>by
  rw[pMore_eq];exact Good.if (fun h=>Good.from (sign_tail h (by simp) (by decide)) (Good.on (pAlt_good hg top _) fun x ts1=>pMore_good hg top f ts1 _)) fun _=>.ok (Pre.refl _)
theorem pAltsBy_good {grp:List Tk->Res (List Alt)}(hg:GrpGood grp)(top:Bool)(ts:List Tk):Good (pAltsBy grp top ts) ts:=by
 rw[pAltsBy_eq];exact Good.on (pAlt_good hg top ts) fun x ts1=>pMore_good hg top _ ts1 _
theorem pGroup_good {r:List Tk->Res (List Alt)}(hr:∀ ts,Good (r ts) ts):GrpGood (pGroup r):=fun ts h=>by
 rw[pGroup_eq];refine Good.from (sign_tail h (by simp) (by decide)) (Good.on (hr _) fun x ts1=>?_);exact Good.on (pMust_good (by simp) (by decide) ts1) fun _ ts2=>.ok (Pre.refl _)
theorem pAlts_good:∀ (d:Nat) (ts:List Tk),Good (pAlts d ts) ts
 | 0,ts=>pAltsBy_good (grp:=fun ts=>.error (3,pl ts)) (fun _ _=>.err) false ts
 | d+1,ts=>pAltsBy_good (pGroup_good (pAlts_good d)) (d == 7) ts
theorem pRule_good (ts:List Tk):Good (pRule ts) ts:=by
 rw[pRule_eq];refine Good.on (pName_good ts) fun n t1=>?_
 refine Good.on (pMust_good (by simp) (by decide) t1) fun _ t2=>?_
 refine Good.on (pAlts_good 8 t2) fun x t3=>?_
 exact Good.on (pMust_good (by simp) (by decide) t3) fun _ t4=>.ok (Pre.refl _)
theorem pTokens_good:∀ (f:Nat) (ts a:List Tk),Good (pTokens f ts a) ts
 | 0,ts,a=>.ok (Pre.refl _)
 | f+1,ts,a=>by
  rw[pTokens_eq];exact Good.if (fun h=>.ok (sign_tail h (by simp) (by decide))) fun _=>Good.on (pToken_good ts) fun x t1=>pTokens_good f t1 _
theorem level_tail {ts:List Tk}(h:0<=levelKind (hd ts)):Pre ts ts.tail:=by
 unfold levelKind at h
 split at h
 ·rename_i e;exact sign_tail e (by simp) (by decide)
 ·split at h
  ·rename_i e;exact sign_tail e (by simp) (by decide)
  ·split at h
   ·rename_i e;exact sign_tail e (by simp) (by decide)
   ·omega
theorem pLevel_good {ts:List Tk}(h:0<=levelKind (hd ts)):Good (pLevel ts) ts:=by
 rw[pLevel_eq];refine Good.from (level_tail h) (Good.on (pToken_good _) fun x t1=>?_);exact Good.on (pTokens_good _ _ _) fun l t2=>.ok (Pre.refl _)
theorem pLevels_good:∀ (f:Nat) (ts:List Tk) (a:List Lv),Good (pLevels f ts a) ts
 | 0,ts,a=>.ok (Pre.refl _)
 | f+1,ts,a=>by
  rw[pLevels_eq];exact Good.if (fun h=>Good.on (pLevel_good h) fun x t1=>pLevels_good f t1 _) fun _=>.ok (Pre.refl _)
theorem pRules_good:∀ (f:Nat) (ts:List Tk) (a:List Rl),Good (pRules f ts a) ts
 | 0,ts,a=>.ok (Pre.refl _)
 | f+1,ts,a=>by
  rw[pRules_eq];exact Good.if (fun _=>.ok (Pre.refl _)) fun _=>Good.on (pRule_good ts) fun x t1=>pRules_good f t1 _
theorem pGrammar_good (ts:List Tk):Good (pGrammar ts) ts:=by
 rw[pGrammar_bnd];refine Good.on (pLevels_good _ _ _) fun lv t1=>?_
 refine Good.on (pRule_good t1) fun x t2=>?_
 exact Good.on (pRules_good _ _ _) fun l t3=>.ok (Pre.refl _)
theorem WF.suffix:∀ {pre ts:List Tk},WF (pre++ts)->ts≠[]->WF ts
 | [],_,h,_=>h
 | t::pre,ts,h,hn=>by
  refine WF.suffix (pre:=pre) ?_ hn;cases hp:pre++ts with
  | nil=>simp at hp;exact absurd hp.2 hn
  | cons u r =>
   rw[List.cons_append,hp]at h;exact h.2
theorem parse_known {s:ByteArray}{g:Gr}(h:parse s=.ok g):∀ t∈lex s,t.1=noText∨Known t.1:=by
 unfold parse at h
 split at h
 ·cases h
 ·cases h1:pGrammar (lex s) with
  | error e=>rw[h1]at h;cases h
  | ok x =>
   obtain⟨g',ts'⟩:=x;obtain⟨pre,e,hk⟩:=pGrammar_good (lex s) g' ts' h1;have hh:=pGrammar_end h1;intro t ht;rw[e]at ht;rcases List.mem_append.1 ht with ht | ht
   ·exact .inr (hk t ht)
   ·left
    have hw:WF ts':=WF.suffix (pre:=pre) (by rw[<-e];exact lex_wf s) (fun e2=>by rw[e2]at ht;cases ht);have:=WF.last hw hh;have h2:t.1∈ts'.map Prod.fst:=List.mem_map.2 ⟨t,ht,rfl⟩;rw[this]at h2;exact List.mem_singleton.1 h2
end Lx
end
section
open Go.RowKit
open Tr
end
section
open Go.RowKit
open Tr
end
end Go.Proofs.YtlcppnabbicmoaaGreatDoor

import Derived.Test.YtlcppnabbicmoaaGreatDoorMC41
namespace Go.Proofs.YtlcppnabbicmoaaGreatDoor
section
open Go.RowKit
open Tr
namespace Lx
theorem aheadN_all (E:List Bool):∀ r:List Nat,(aheadN E r=r.length)↔(r.all (at? E)=true)
 | []=>by simp [aheadN]
 | s::r=>by
  have h1:=aheadN_all E r
  have hl:=aheadN_le E r
  rw [aheadN,List.all_cons]
  by_cases h:at? E s=true
  ·rw [if_pos h,h,Bool.true_and,←h1,List.length_cons];omega
  ·rw [if_neg h];simp [h]
theorem set_true_same {E:List Bool}{i:Nat}(h:at? E i=true):E.set i true=E:=by
 refine ext_at (by simp) fun k _=>?_
 rw [at_set]
 split
 ·rename_i hh;rw [←hh.1,h]
 ·rfl
theorem stepE_all {E:List Bool}{p:Pd}(h:p.right.all (at? E)=true):stepE E p=E.set p.left true:=by
 unfold stepE
 have ha:=(aheadN_all E p.right).2 h
 cases hat:at? E p.left with
 | false=>exact if_pos ⟨rfl,ha⟩
 | true=>rw [if_neg (fun h=>by cases h.1)];exact (set_true_same hat).symm
theorem stepE_no {E:List Bool}{p:Pd}(h:p.right.all (at? E)=false):stepE E p=E:=by
 unfold stepE
 refine if_neg fun hh=>?_
 have:=(aheadN_all E p.right).1 hh.2
 rw [h] at this
 cases this
theorem passE_le:∀ (P:List Pd) (E:List Bool),LeB E (passE P E)
 | [],E=>LeB.refl E
 | p::P,E=>(stepE_le E p).trans (passE_le P (stepE E p))
theorem passE_more {n:Nat}:∀ (P:List Pd) (E:List Bool),E.length=n→PdOk n P→passE P E=E∨∃ p∈P,at? E p.left=false∧at? (passE P E) p.left=true
 | [],_,_,_=>.inl rfl
 | p::P,E,hE,hP=>by
  show passE P (stepE E p)=E∨∃ q∈p::P,at? E q.left=false∧at? (passE P (stepE E p)) q.left=true
  have hP':PdOk n P:=fun q hq=>hP q (List.mem_cons_of_mem _ hq)
  by_cases hs:stepE E p=E
  ·rw [hs]
   rcases passE_more P E hE hP' with h | ⟨q,hq,h⟩
   ·exact .inl h
   ·exact .inr ⟨q,List.mem_cons_of_mem _ hq,h⟩
  ·right
   have hl:=(hP p List.mem_cons_self).1
   have h1:at? E p.left=false∧aheadN E p.right=p.right.length:=by
    rcases Classical.em (at? E p.left=false∧aheadN E p.right=p.right.length) with h | h
    ·exact h
    ·exact absurd (if_neg h) hs
   refine⟨p,List.mem_cons_self,h1.1,(passE_le P (stepE E p)).2 _ ?_⟩
   have:stepE E p=E.set p.left true:=if_pos h1
   rw [this,at_set,if_pos ⟨rfl,by omega⟩]
theorem countP_lt_of {α:Type} {f g:α→Bool}:∀ {l:List α},(∀ x,f x=true→g x=true)→(∃ x∈l,f x=false∧g x=true)→l.countP f<l.countP g
 | [],_,h=>by obtain⟨x,hx,-⟩:=h;cases hx
 | y::l,hm,h=>by
  obtain⟨x,hx,h1,h2⟩:=h
  have hle:l.countP f≤l.countP g:=List.countP_mono_left fun z _=>hm z
  rw [List.countP_cons,List.countP_cons]
  rcases List.mem_cons.1 hx with rfl | hx
  ·rw [h1,h2];simp;omega
  ·have:=countP_lt_of hm ⟨x,hx,h1,h2⟩
   cases hf:f y with
   | false=>simp;omega
   | true=>rw [hm y hf];simp;omega
def npE (P:List Pd)(E:List Bool):Nat:=P.countP fun p=>at? E p.left
theorem itr_len (P:List Pd) (E:List Bool):∀ k,(itr (passE P) k E).length=E.length
 | 0=>rfl
 | k+1=>by
  show (passE P (itr (passE P) k E)).length=_
  rw [passE_len,itr_len P E k]
theorem itr_np {n:Nat} {P:List Pd} {E:List Bool} (hE:E.length=n) (hP:PdOk n P):∀ k,passE P (itr (passE P) k E)=itr (passE P) k E∨k≤npE P (itr (passE P) k E)
 | 0=>.inr (Nat.zero_le _)
 | k+1=>by
  show passE P (passE P (itr (passE P) k E))=passE P (itr (passE P) k E)∨k+1≤npE P (passE P (itr (passE P) k E))
  rcases itr_np hE hP k with h | h
  ·left;rw [h,h]
  ·rcases passE_more P (itr (passE P) k E) ((itr_len P E k).trans hE) hP with h2 | h2
   ·left;rw [h2,h2]
   ·right
    have:=countP_lt_of (l:=P) (f:=fun p=>at? (itr (passE P) k E) p.left) (g:=fun p=>at? (passE P (itr (passE P) k E)) p.left) (fun x hx=>(passE_le P _).2 _ hx) h2
    unfold npE at h ⊢
    omega
end Lx
end
section
open Go Go.RowKit
namespace Lx
theorem addToks_head (a:ByteArray):∀ (bs l:List ByteArray),∃ R,addToks (a::l) bs=a::R
 | [],l=>⟨l,rfl⟩
 | b::bs,l=>by
  show ∃ R,addToks (addTok (a::l) b) bs=a::R
  unfold addTok
  split
  ·exact addToks_head a bs l
  ·exact addToks_head a bs (l++[b])
theorem fix_pos {a:ByteArray}{R:List ByteArray}{b:ByteArray}(h:a≠b):0<fix (a::R) b:=by
 unfold fix
 rw [List.findIdx_cons]
 simp [h]
theorem tok_pos (g:Gr){b:ByteArray}(h:isToken b=true):0<fix (tokG g) b:=by
 obtain⟨R,e⟩:=addToks_head tDollar (levelToks g++g.rules.flatMap fun r=>toksA 9 r.alts) []
 unfold tokG
 rw [e]
 refine fix_pos fun e=>?_
 subst e
 exact absurd h (by decide)
theorem nam_pos (g:Gr){b:ByteArray}(h:isName b=true):0<fix (namG g) b:=fix_pos (start_no h)
theorem tokG_pos (g:Gr):0<(tokG g).length:=by
 obtain⟨R,e⟩:=addToks_head tDollar (levelToks g++g.rules.flatMap fun r=>toksA 9 r.alts) []
 unfold tokG
 rw [e];simp
theorem sym_ne {g:Gr}{H:List It}{b:Nat}{x:It}(hx:ItOk x)(hb:(tokG g).length<b)(hs:SymOk (tokG g) (namG g) H x):0<symOf (tokG g) (namG g) b H x∧symOf (tokG g) (namG g) b H x≠(tokG g).length:=by
 unfold symOf
 split
 ·omega
 ·rename_i hh
  unfold SymOk at hs
  rw [if_neg hh] at hs
  unfold psym
  unfold Plain1 at hs
  rcases hx with ⟨k,h1,-⟩ | ⟨k,h1,-⟩ | k
  ·rw [if_neg (by omega)]
   have:=nam_pos g h1
   omega
  ·rw [if_pos k] at hs ⊢
   have:=tok_pos g h1
   have:=fix_lt hs
   omega
  ·exact absurd (by unfold hlp;simp [k]) hh
theorem psym_ne {g:Gr}{x:It}(hx:ItOk x)(hk:x.kind≠2)(hp:Plain1 (tokG g) (namG g) x):0<psym (tokG g) (namG g) x∧psym (tokG g) (namG g) x≠(tokG g).length:=by
 unfold psym
 unfold Plain1 at hp
 rcases hx with ⟨k,h1,-⟩ | ⟨k,h1,-⟩ | k
 ·rw [if_neg (by omega)]
  have:=nam_pos g h1
  omega
 ·rw [if_pos k] at hp ⊢
  have:=tok_pos g h1
  have:=fix_lt hp
  omega
 ·exact absurd k hk
theorem precOf_mem (n:Nat):∀ (r:List Nat) (p:Int),r.foldl (fun p s=>if s<n then (s:Int) else p) p=p∨∃ s∈r,s<n∧r.foldl (fun p s=>if s<n then (s:Int) else p) p=(s:Int)
 | [],p=>.inl rfl
 | s::r,p=>by
  rw [List.foldl_cons]
  by_cases h:s<n
  ·rw [if_pos h]
   rcases precOf_mem n r (s:Int) with e | ⟨u,hu,h1,h2⟩
   ·exact .inr ⟨s,List.mem_cons_self,h,e⟩
   ·exact .inr ⟨u,List.mem_cons_of_mem _ hu,h1,h2⟩
  ·rw [if_neg h]
   rcases precOf_mem n r p with e | ⟨u,hu,h1,h2⟩
   ·exact .inl e
   ·exact .inr ⟨u,List.mem_cons_of_mem _ hu,h1,h2⟩
def PdWell (t n:Nat)(p:Pd):Prop:=(t≤p.left∧p.left<n)∧(∀ s∈p.right,0<s∧s<n∧s≠t)∧-1≤p.prec∧p.prec<(t:Int)∧p.prec≠0
theorem prec_well {t:Nat}(ht:0<t){r:List Nat}(h:∀ s∈r,0<s):-1≤precOf t r∧precOf t r<(t:Int)∧precOf t r≠0:=by
 unfold precOf
 rcases precOf_mem t r (-1) with e | ⟨s,hs,h1,e⟩
 ·rw [e];omega
 ·rw [e]
  have:=h s hs
  omega
theorem pdOf_well {t n s:Nat}(ht:0<t){r:List Nat}(hs:t≤s∧s<n)(h:∀ s∈r,0<s∧s<n∧s≠t):PdWell t n (pdOf t s r):=⟨hs,h,prec_well ht fun s hs=>(h s hs).1⟩
theorem mem_helpPd {n s m:Nat}{ps:List (List Nat)}{p:Pd}:p∈helpPd n s m ps↔((m=42∨m=63)∧p=pdOf n s [])∨(m≠42∧∃ r∈ps,p=pdOf n s r)∨((m=42∨m=43)∧∃ r∈ps,p=pdOf n s (s::r)):=by
 unfold helpPd
 rw [List.mem_append,List.mem_append]
 refine or_congr ?_ (or_congr ?_ ?_)
 ·split
  ·rename_i h;simp [h]
  ·rename_i h;simp [h]
 ·split
  ·rename_i h;simp [h]
  ·rename_i h
   rw [List.mem_map]
   exact⟨fun ⟨r,hr,e⟩=>⟨h,r,hr,e.symm⟩,fun ⟨_,r,hr,e⟩=>⟨r,hr,e.symm⟩⟩
 ·split
  ·rename_i h
   rw [List.mem_map]
   exact⟨fun ⟨r,hr,e⟩=>⟨h,r,hr,e.symm⟩,fun ⟨_,r,hr,e⟩=>⟨r,hr,e.symm⟩⟩
  ·rename_i h;simp [h]
theorem mem_helpsPd {T N:List ByteArray} {b:Nat} {H:List It} {p:Pd}:∀ (l:List It) (k:Nat),p∈helpsPd T N b H k l↔∃ i,∃ hi:i<l.length,p∈helpPd T.length (b+1+(k+i)) l[i].mark (partsOf T N b H l[i])
 | [],k=>by simp [helpsPd]
 | x::l,k=>by
  rw [helpsPd,List.mem_append,mem_helpsPd l (k+1)]
  constructor
  ·rintro (h | ⟨i,hi,h⟩)
   ·exact⟨0,by simp,h⟩
   ·exact⟨i+1,by simpa using hi,by rw [show k+(i+1)=k+1+i by omega];exact h⟩
  ·rintro⟨i,hi,h⟩
   cases i with
   | zero=>exact .inl h
   | succ i=>exact .inr ⟨i,by simpa using hi,by rw [show k+1+i=k+(i+1) by omega];exact h⟩
theorem mem_rulePd {T N:List ByteArray}{b:Nat}{r:Rl}{p:Pd}:p∈rulePd T N b r↔(∃ a∈r.alts,p=altPd T N b (hlpA 9 r.alts) a)∨∃ k,∃ hk:k<(hlpA 9 r.alts).length,p∈helpPd T.length (b+1+k) (hlpA 9 r.alts)[k].mark (partsOf T N b (hlpA 9 r.alts) (hlpA 9 r.alts)[k]):=by
 unfold rulePd
 rw [List.mem_append,List.mem_map,mem_helpsPd]
 refine or_congr ⟨fun ⟨a,ha,e⟩=>⟨a,ha,e.symm⟩,fun ⟨a,ha,e⟩=>⟨a,ha,e.symm⟩⟩ ?_
 simp only [Nat.zero_add]
def baseOf (b:Nat)(rs:List Rl)(j:Nat):Nat:=b+((rs.take j).flatMap namesR).length
theorem mem_rulesPd {T N:List ByteArray} {p:Pd}:∀ (rs:List Rl) (b:Nat),p∈rulesPd T N b rs↔∃ j,∃ hj:j<rs.length,p∈rulePd T N (baseOf b rs j) rs[j]
 | [],b=>by simp [rulesPd]
 | r::rs,b=>by
  rw [rulesPd,List.mem_append,mem_rulesPd rs]
  have hb:∀ j,baseOf b (r::rs) (j+1)=baseOf (b+1+(hlpA 9 r.alts).length) rs j:=fun j=>by
   unfold baseOf
   rw [List.take_succ_cons,List.flatMap_cons,List.length_append,namesR_len];omega
  constructor
  ·rintro (h | ⟨j,hj,h⟩)
   ·exact⟨0,by simp,by simpa [baseOf] using h⟩
   ·exact⟨j+1,by simpa using hj,by rw [hb];exact h⟩
  ·rintro⟨j,hj,h⟩
   cases j with
   | zero=>exact .inl (by simpa [baseOf] using h)
   | succ j=>exact .inr ⟨j,by simpa using hj,by rw [←hb];exact h⟩
theorem flat_pos:∀ (rs:List Rl) (i:Nat),i<(rs.flatMap namesR).length→∃ j,∃ hj:j<rs.length,∃ k,k≤(hlpA 9 rs[j].alts).length∧i=((rs.take j).flatMap namesR).length+k
 | [],i,h=>by simp at h
 | r::rs,i,h=>by
  rw [List.flatMap_cons,List.length_append,namesR_len] at h
  by_cases hi:i<1+(hlpA 9 r.alts).length
  ·exact⟨0,by simp,i,by simp;omega,by simp⟩
  ·obtain⟨j,hj,k,hk,e⟩:=flat_pos rs (i - (1+(hlpA 9 r.alts).length)) (by omega)
   refine⟨j+1,by simpa using hj,k,hk,?_⟩
   rw [List.take_succ_cons,List.flatMap_cons,List.length_append,namesR_len]
   omega
section
variable {g:Gr}
theorem base_lt (_hf:Fit g){j:Nat}(hj:j<g.rules.length):(tokG g).length<baseOf ((tokG g).length+1) g.rules j∧baseOf ((tokG g).length+1) g.rules j+1+(hlpA 9 g.rules[j].alts).length≤(tokG g).length+(namG g).length:=by
 have h1:=namG_len g
 have h2:(g.rules.flatMap namesR).length=((g.rules.take j).flatMap namesR).length+((g.rules.drop j).flatMap namesR).length:=by
  rw [←List.length_append,←List.flatMap_append,List.take_append_drop]
 rw [List.drop_eq_getElem_cons hj,List.flatMap_cons,List.length_append,namesR_len] at h2
 unfold baseOf
 omega
theorem base_fix (hf:Fit g)(nd:(g.rules.map Rl.name).Nodup){j:Nat}(hj:j<g.rules.length):(tokG g).length+fix (namG g) g.rules[j].name=baseOf ((tokG g).length+1) g.rules j:=by
 have h:=fix_nms (rs:=g.rules) (fun r hr=>(hf.rl r hr).1) nd hj
 have h2:namG g=nms g.rules:=rfl
 rw [h2,h]
 unfold nms baseOf
 rw [List.length_cons];omega
theorem rule_in {j:Nat}(hj:j<g.rules.length){p:Pd}(h:p∈rulePd (tokG g) (namG g) (baseOf ((tokG g).length+1) g.rules j) g.rules[j]):p∈prodG g:=List.mem_cons_of_mem _ ((mem_rulesPd _ _).2 ⟨j,hj,h⟩)
theorem right_well (hf:Fit g){j:Nat}(hj:j<g.rules.length){its:List It}(h:∀ x∈its,x∈itsA 9 g.rules[j].alts):∀ s∈rightOf (tokG g) (namG g) (baseOf ((tokG g).length+1) g.rules j) (hlpA 9 g.rules[j].alts) its,0<s∧s<(tokG g).length+(namG g).length∧s≠(tokG g).length:=by
 intro s hs
 obtain⟨x,hx,rfl⟩:=List.mem_map.1 hs
 have hr:g.rules[j]∈g.rules:=List.getElem_mem hj
 have hb:=base_lt hf hj
 have h1:=sym_ne ((hf.rl _ hr).2.1 x (h x hx)) hb.1 (hf.sym hr (h x hx))
 exact⟨h1.1,symOf_lt (hf.sym hr (h x hx)) hb.2,h1.2⟩
theorem parts_well (hf:Fit g){j:Nat}(hj:j<g.rules.length){x:It}(hx:x∈itsA 9 g.rules[j].alts):∀ r∈partsOf (tokG g) (namG g) (baseOf ((tokG g).length+1) g.rules j) (hlpA 9 g.rules[j].alts) x,∀ s∈r,0<s∧s<(tokG g).length+(namG g).length∧s≠(tokG g).length:=by
 intro r hr
 have hm:g.rules[j]∈g.rules:=List.getElem_mem hj
 unfold partsOf at hr
 split at hr
 ·obtain⟨a,ha,rfl⟩:=List.mem_map.1 hr
  exact right_well hf hj fun y hy=>its_sub (hf.dp _ hm) hx ha hy
 ·rename_i hk
  rw [List.mem_singleton.1 hr]
  intro s hs
  rw [List.mem_singleton.1 hs]
  have h1:=psym_ne ((hf.rl _ hm).2.1 x hx) hk (hf.plain hm hx hk)
  exact⟨h1.1,psym_lt (hf.plain hm hx hk),h1.2⟩
theorem prod_well (hf:Fit g):∀ p∈prodG g,PdWell (tokG g).length ((tokG g).length+(namG g).length) p:=by
 intro p hp
 have ht:=tokG_pos g
 unfold prodG at hp
 rcases List.mem_cons.1 hp with rfl | hp
 ·have h1:=namG_len g
  have h2:=names_pos hf
  refine⟨⟨Nat.le_refl _,by show (tokG g).length<_;omega⟩,fun s hs=>?_,by show (-1:Int)≤-1;omega,by show (-1:Int)<_;omega,by show (-1:Int)≠0;omega⟩
  rw [List.mem_singleton.1 hs];omega
 ·obtain⟨j,hj,hp⟩:=(mem_rulesPd _ _).1 hp
  have hb:=base_lt hf hj
  have hm:g.rules[j]∈g.rules:=List.getElem_mem hj
  rcases mem_rulePd.1 hp with ⟨a,ha,rfl⟩ | ⟨k,hk,hp⟩
  ·have hw:=right_well hf hj (its:=a.1) fun x hx=>alts_its ha hx 8
   refine⟨⟨by show _≤baseOf _ _ _;omega,by show baseOf _ _ _<_;omega⟩,hw,?_⟩
   unfold altPd
   simp only
   split
   ·exact prec_well ht fun s hs=>(hw s hs).1
   ·rename_i hn
    have h1:=hf.prec hm ha hn
    have h2:=fix_lt h1
    have h3:isToken a.2.1=true:=by
     rcases (hf.rl _ hm).2.2 a ha with h | h
     ·exact absurd h hn
     ·exact h
    have h4:=tok_pos g h3
    omega
  ·have hH:(hlpA 9 g.rules[j].alts)[k]∈itsA 9 g.rules[j].alts:=mem_hlpA (List.getElem_mem hk)
   have hw:=parts_well hf hj hH
   have hs:(tokG g).length≤baseOf ((tokG g).length+1) g.rules j+1+k∧baseOf ((tokG g).length+1) g.rules j+1+k<(tokG g).length+(namG g).length:=by omega
   rcases mem_helpPd.1 hp with ⟨-,rfl⟩ | ⟨-,r,hr,rfl⟩ | ⟨-,r,hr,rfl⟩
   ·exact pdOf_well ht hs fun s hs=>by cases hs
   ·exact pdOf_well ht hs (hw r hr)
   ·refine pdOf_well ht hs fun s hs2=>?_
    rcases List.mem_cons.1 hs2 with rfl | hs2
    ·omega
    ·exact hw r hr s hs2
end
end Lx
end
section
open Go Go.RowKit
namespace Lx
theorem helpPd_left {n s m:Nat}{ps:List (List Nat)}:∀ p∈helpPd n s m ps,p.left=s:=by
 intro p hp
 rcases mem_helpPd.1 hp with ⟨-,rfl⟩ | ⟨-,r,-,rfl⟩ | ⟨-,r,-,rfl⟩ <;> rfl
theorem same_left {s:Nat}:∀ {l:List Pd},(∀ p∈l,p.left=s)→l.Pairwise fun a b=>a.left≤b.left
 | [],_=>List.Pairwise.nil
 | p::l,h=>List.pairwise_cons.2 ⟨fun q hq=>by rw [h p List.mem_cons_self,h q (List.mem_cons_of_mem _ hq)];exact Nat.le_refl _,same_left fun q hq=>h q (List.mem_cons_of_mem _ hq)⟩
theorem helpsPd_left {T N:List ByteArray} {b:Nat} {H:List It}:∀ (l:List It) (k:Nat),(helpsPd T N b H k l).Pairwise (fun a b=>a.left≤b.left)∧∀ p∈helpsPd T N b H k l,b+1+k≤p.left∧p.left<b+1+k+l.length
 | [],k=>⟨List.Pairwise.nil,fun p hp=>by cases hp⟩
 | x::l,k=>by
  obtain⟨h1,h2⟩:=helpsPd_left (T:=T) (N:=N) (b:=b) (H:=H) l (k+1)
  rw [helpsPd]
  refine⟨List.pairwise_append.2 ⟨same_left helpPd_left,h1,fun p hp q hq=>?_⟩,fun p hp=>?_⟩
  ·rw [helpPd_left p hp]
   have:=(h2 q hq).1
   omega
  ·rw [List.length_cons]
   rcases List.mem_append.1 hp with hp | hp
   ·rw [helpPd_left p hp];omega
   ·have:=h2 p hp;omega
theorem rulePd_left {T N:List ByteArray}{b:Nat}{r:Rl}:(rulePd T N b r).Pairwise (fun a b=>a.left≤b.left)∧∀ p∈rulePd T N b r,b≤p.left∧p.left<b+1+(hlpA 9 r.alts).length:=by
 obtain⟨h1,h2⟩:=helpsPd_left (T:=T) (N:=N) (b:=b) (H:=hlpA 9 r.alts) (hlpA 9 r.alts) 0
 have h3:∀ p∈r.alts.map (altPd T N b (hlpA 9 r.alts)),p.left=b:=fun p hp=>by
  obtain⟨a,-,rfl⟩:=List.mem_map.1 hp
  rfl
 unfold rulePd
 refine⟨List.pairwise_append.2 ⟨same_left h3,h1,fun p hp q hq=>?_⟩,fun p hp=>?_⟩
 ·rw [h3 p hp]
  have:=(h2 q hq).1
  omega
 ·rcases List.mem_append.1 hp with hp | hp
  ·rw [h3 p hp];omega
  ·have:=h2 p hp;omega
theorem rulesPd_left {T N:List ByteArray}:∀ (rs:List Rl) (b:Nat),(rulesPd T N b rs).Pairwise (fun a b=>a.left≤b.left)∧∀ p∈rulesPd T N b rs,b≤p.left
 | [],b=>⟨List.Pairwise.nil,fun p hp=>by cases hp⟩
 | r::rs,b=>by
  obtain⟨h1,h2⟩:=rulesPd_left (T:=T) (N:=N) rs (b+1+(hlpA 9 r.alts).length)
  obtain⟨h3,h4⟩:=rulePd_left (T:=T) (N:=N) (b:=b) (r:=r)
  rw [rulesPd]
  refine⟨List.pairwise_append.2 ⟨h3,h1,fun p hp q hq=>?_⟩,fun p hp=>?_⟩
  ·have:=(h4 p hp).2
   have:=h2 q hq
   omega
  ·rcases List.mem_append.1 hp with hp | hp
   ·exact (h4 p hp).1
   ·have:=h2 p hp;omega
theorem prod_left (g:Gr):(prodG g).Pairwise fun a b=>a.left≤b.left:=by
 obtain⟨h1,h2⟩:=rulesPd_left (T:=tokG g) (N:=namG g) g.rules ((tokG g).length+1)
 unfold prodG
 exact List.pairwise_cons.2 ⟨fun p hp=>by have:=h2 p hp;show (tokG g).length≤_;omega,h1⟩
section
variable {g:Gr}
theorem sym_split (_hf:Fit g){s:Nat}(h1:(tokG g).length<s)(h2:s<(tokG g).length+(namG g).length):∃ j,∃ hj:j<g.rules.length,s=baseOf ((tokG g).length+1) g.rules j∨∃ k,k<(hlpA 9 g.rules[j].alts).length∧s=baseOf ((tokG g).length+1) g.rules j+1+k:=by
 have h3:=namG_len g
 obtain⟨j,hj,k,hk,e⟩:=flat_pos g.rules (s - ((tokG g).length+1)) (by omega)
 refine⟨j,hj,?_⟩
 unfold baseOf
 cases k with
 | zero=>left;omega
 | succ k=>right;exact⟨k,by omega,by omega⟩
theorem parts_ne {T N:List ByteArray}{b:Nat}{H:List It}{x:It}(h:ItNe x):partsOf T N b H x≠[]:=by
 unfold partsOf
 split
 ·rename_i hk
  simpa using h hk
 ·simp
theorem prod_has (hf:Fit g)(hne:∀ r∈g.rules,RlNe r){s:Nat}(h1:(tokG g).length≤s)(h2:s<(tokG g).length+(namG g).length):∃ p∈prodG g,p.left=s:=by
 by_cases h0:s=(tokG g).length
 ·exact⟨_,List.mem_cons_self,h0.symm⟩
 ·obtain⟨j,hj,h | ⟨k,hk,h⟩⟩:=sym_split hf (by omega) h2
  ·have hn:=(hne _ (List.getElem_mem hj)).1
   obtain⟨a,l,e⟩:=List.exists_cons_of_ne_nil hn
   refine⟨_,rule_in hj (mem_rulePd.2 (.inl ⟨a,by rw [e];exact List.mem_cons_self,rfl⟩)),h.symm⟩
  ·have hx:=(hne _ (List.getElem_mem hj)).2 _ (mem_hlpA (List.getElem_mem hk))
   have hp:=parts_ne (T:=tokG g) (N:=namG g) (b:=baseOf ((tokG g).length+1) g.rules j) (H:=hlpA 9 g.rules[j].alts) hx
   obtain⟨r,l,e⟩:=List.exists_cons_of_ne_nil hp
   by_cases hm:(hlpA 9 g.rules[j].alts)[k].mark=42
   ·exact⟨_,rule_in hj (mem_rulePd.2 (.inr ⟨k,hk,mem_helpPd.2 (.inl ⟨.inl hm,rfl⟩)⟩)),h.symm⟩
   ·exact⟨_,rule_in hj (mem_rulePd.2 (.inr ⟨k,hk,mem_helpPd.2 (.inr (.inl ⟨hm,r,by rw [e];exact List.mem_cons_self,rfl⟩))⟩)),h.symm⟩
theorem its_top:∀ {d:Nat} {l:List Alt} {y:It},y∈itsA d l→(∃ a∈l,y∈a.1)∨∃ x∈itsA d l,∃ a∈x.alts,y∈a.1
 | 0,_,_,h=>by cases h
 | d+1,l,y,h=>by
  obtain⟨a,ha,x,hx,h⟩:=mem_itsA.1 h
  rcases h with rfl | h
  ·exact .inl ⟨a,ha,hx⟩
  ·right
   rcases its_top h with ⟨c,hc,hy⟩ | ⟨z,hz,c,hc,hy⟩
   ·exact⟨x,mem_itsA.2 ⟨a,ha,x,hx,.inl rfl⟩,c,hc,hy⟩
   ·exact⟨z,mem_itsA.2 ⟨a,ha,x,hx,.inr hz⟩,c,hc,hy⟩
theorem hlp_at (_hf:Fit g){j:Nat}(hj:j<g.rules.length){x:It}(hx:x∈itsA 9 g.rules[j].alts)(hh:hlp x=true):∃ k,∃ hk:k<(hlpA 9 g.rules[j].alts).length,(hlpA 9 g.rules[j].alts)[k]=x:=by
 obtain⟨k,hk,e⟩:=List.getElem_of_mem (List.mem_filter.2 ⟨hx,hh⟩:x∈hlpA 9 g.rules[j].alts)
 exact⟨k,hk,e⟩
theorem part_used {j:Nat}(hj:j<g.rules.length){k:Nat}(hk:k<(hlpA 9 g.rules[j].alts).length){r:List Nat}(hr:r∈partsOf (tokG g) (namG g) (baseOf ((tokG g).length+1) g.rules j) (hlpA 9 g.rules[j].alts) (hlpA 9 g.rules[j].alts)[k]){s:Nat}(hs:s∈r):∃ p∈prodG g,s∈p.right:=by
 by_cases hm:(hlpA 9 g.rules[j].alts)[k].mark=42
 ·exact⟨_,rule_in hj (mem_rulePd.2 (.inr ⟨k,hk,mem_helpPd.2 (.inr (.inr ⟨.inl hm,r,hr,rfl⟩))⟩)),List.mem_cons_of_mem _ hs⟩
 ·exact⟨_,rule_in hj (mem_rulePd.2 (.inr ⟨k,hk,mem_helpPd.2 (.inr (.inl ⟨hm,r,hr,rfl⟩))⟩)),hs⟩
theorem item_used (hf:Fit g){j:Nat}(hj:j<g.rules.length){y:It}(hy:y∈itsA 9 g.rules[j].alts):∃ p∈prodG g,symOf (tokG g) (namG g) (baseOf ((tokG g).length+1) g.rules j) (hlpA 9 g.rules[j].alts) y∈p.right:=by
 rcases its_top hy with ⟨a,ha,hya⟩ | ⟨x,hx,a,ha,hya⟩
 ·exact⟨_,rule_in hj (mem_rulePd.2 (.inl ⟨a,ha,rfl⟩)),List.mem_map.2 ⟨y,hya,rfl⟩⟩
 ·have hk:x.kind=2:=by
   rcases (hf.rl _ (List.getElem_mem hj)).2.1 x hx with ⟨-,-,e⟩ | ⟨-,-,e⟩ | e
   ·rw [e] at ha;cases ha
   ·rw [e] at ha;cases ha
   ·exact e
  obtain⟨k,hk2,e⟩:=hlp_at hf hj hx (by unfold hlp;simp [hk])
  refine part_used hj hk2 (r:=rightOf (tokG g) (namG g) (baseOf ((tokG g).length+1) g.rules j) (hlpA 9 g.rules[j].alts) a.1) ?_ (List.mem_map.2 ⟨y,hya,rfl⟩)
  rw [e]
  unfold partsOf
  rw [if_pos hk]
  exact List.mem_map.2 ⟨a,ha,rfl⟩
theorem plain_used (hf:Fit g){j:Nat}(hj:j<g.rules.length){y:It}(hy:y∈itsA 9 g.rules[j].alts)(hk:y.kind≠2):∃ p∈prodG g,psym (tokG g) (namG g) y∈p.right:=by
 by_cases hh:hlp y=true
 ·obtain⟨k,hk2,e⟩:=hlp_at hf hj hy hh
  refine part_used hj hk2 (r:=[psym (tokG g) (namG g) y]) ?_ List.mem_cons_self
  rw [e]
  unfold partsOf
  rw [if_neg hk]
  exact List.mem_cons_self
 ·obtain⟨p,hp,h⟩:=item_used hf hj hy
  unfold symOf at h
  rw [if_neg hh] at h
  exact⟨p,hp,h⟩
theorem used_item:∀ {d:Nat} {l:List Alt} {b:ByteArray},b∈textsOf ((flatA d l).filter fun w=>decide (w.1=2))→∃ y∈itsA d l,y.kind=0∧y.name=b
 | 0,_,_,h=>by cases h
 | d+1,l,b,h=>by
  obtain⟨w,hw,rfl⟩:=List.mem_map.1 h
  obtain⟨hw,hk⟩:=List.mem_filter.1 hw
  have hk:=of_decide_eq_true hk
  rw [flatA_succ] at hw
  obtain⟨a,ha,hw⟩:=List.mem_flatMap.1 hw
  unfold flatOne at hw
  rcases List.mem_append.1 hw with hw | hw
  ·obtain⟨x,hx,hw⟩:=List.mem_flatMap.1 hw
   unfold flatI at hw
   rcases List.mem_append.1 hw with hw | hw
   ·split at hw
    ·rename_i h0
     rw [List.mem_singleton.1 hw]
     exact⟨x,mem_itsA.2 ⟨a,ha,x,hx,.inl rfl⟩,h0,rfl⟩
    ·split at hw
     ·rw [List.mem_singleton.1 hw] at hk;cases hk
     ·cases hw
   ·obtain⟨y,hy,h1,h2⟩:=used_item (d:=d) (l:=x.alts) (b:=w.2.1) (List.mem_map.2 ⟨w,List.mem_filter.2 ⟨hw,decide_eq_true hk⟩,rfl⟩)
    exact⟨y,mem_itsA.2 ⟨a,ha,x,hx,.inr hy⟩,h1,h2⟩
  ·split at hw
   ·cases hw
   ·rw [List.mem_singleton.1 hw] at hk;cases hk
theorem off_none:∀ {rs:List Rl} {bs:List Bool},rs.length=bs.length→firstOff rs bs=none→∀ i,i<bs.length→at? bs i=true
 | [],[],_,_,i,h=>by simp at h
 | _::_,b::bs,hl,h,i,hi=>by
  rw [firstOff] at h
  split at h
  ·rename_i hb
   cases i with
   | zero=>simpa [at?] using hb
   | succ i =>
    have:=off_none (by simpa using hl) h i (by simpa using hi)
    simpa [at?] using this
  ·cases h
 | [],_::_,hl,_,_,_=>by simp at hl
 | _::_,[],hl,_,_,_=>by simp at hl
theorem chk_all (h:(chk g).1=0):firstOff g.rules (comeL g)=none∧firstOff g.rules (endL g)=none:=by
 obtain⟨h1,h2⟩:=chk_zero h
 unfold chk at h
 rw [h1,h2] at h
 cases h3:firstOff g.rules (comeL g) with
 | some p=>rw [h3] at h;simp [orE] at h
 | none =>
  rw [h3] at h
  cases h4:firstOff g.rules (endL g) with
  | some p=>rw [h4] at h;simp [orE] at h
  | none=>exact⟨rfl,rfl⟩
def markB (n:Nat)(P:Nat→Prop) [DecidablePred P]:List Bool:=(List.range n).map fun i=>decide (P i)
theorem markB_at {n:Nat}{P:Nat→Prop} [DecidablePred P] {i:Nat}(hi:i<n):at? (markB n P) i=true↔P i:=by
 unfold at? markB
 simp [hi]
theorem markB_len {n:Nat}{P:Nat→Prop} [DecidablePred P]:(markB n P).length=n:=by simp [markB]
theorem ix_fix (l:List ByteArray)(b:ByteArray):ixOf l b=fix l b:=rfl
theorem ix_name {i:Nat}(hi:i<g.rules.length){b:ByteArray}(h:ixOf (ruleNames g) b=i):g.rules[i].name=b:=by
 have hl:ixOf (ruleNames g) b<(ruleNames g).length:=by rw [h];simpa [ruleNames] using hi
 have:=List.findIdx_getElem (p:=fun x=>decide (x=b)) (xs:=ruleNames g) (w:=hl)
 have e:=of_decide_eq_true this
 subst h
 simpa [ruleNames,ixOf] using e
open Classical in
theorem prod_used (hf:Fit g)(nd:(g.rules.map Rl.name).Nodup)(hc:(chk g).1=0){s:Nat}(h1:(tokG g).length<s)(h2:s<(tokG g).length+(namG g).length):∃ p∈prodG g,s∈p.right:=by
 obtain⟨j,hj,h | ⟨k,hk,h⟩⟩:=sym_split hf h1 h2
 ·by_cases h0:j=0
  ·subst h0
   refine⟨_,List.mem_cons_self,?_⟩
   rw [h]
   show baseOf _ _ 0∈[_]
   simp [baseOf]
  ·have hL:LeastB (ClC g) g.rules.length ((List.replicate g.rules.length false).set 0 true) (comeL g):=come_least g g.rules.length (g.rules.length+1) ((List.replicate g.rules.length false).set 0 true) (by simp) (Nat.le_refl _)
   have hT:=hL.least (markB g.rules.length fun i=>i=0∨∃ p∈prodG g,baseOf ((tokG g).length+1) g.rules i∈p.right) markB_len ⟨by rw [markB_len];simp,fun i hi=>?_⟩ (fun i hi hat b hb hlt=>?_)
   ·have hall:=off_none (by rw [hL.len]) (chk_all hc).1 j (by rw [hL.len];exact hj)
    have:=(markB_at hj).1 (hT.2 j hall)
    rcases this with h' | h'
    ·exact absurd h' h0
    ·rw [h];exact h'
   ·rw [at_set] at hi
    split at hi
    ·rename_i he
     rw [←he.1]
     exact (markB_at (by simpa using he.2)).2 (.inl rfl)
    ·simp [at?,List.getElem?_replicate] at hi
     split at hi <;> simp at hi
   ·rw [markB_len] at hlt
    refine (markB_at hlt).2 (.inr ?_)
    have hai:altsAt g i=g.rules[i].alts:=by unfold altsAt;simp [hi]
    rw [hai] at hb
    obtain⟨y,hy,hk,hn⟩:=used_item hb
    obtain⟨p,hp,h⟩:=plain_used hf hi hy (by omega)
    refine⟨p,hp,?_⟩
    rw [←base_fix hf nd hlt,ix_name hlt rfl,←hn]
    unfold psym at h
    rw [if_neg (by omega)] at h
    exact h
 ·have hx:=mem_hlpA (List.getElem_mem hk)
  obtain⟨p,hp,hs⟩:=item_used hf hj hx
  refine⟨p,hp,?_⟩
  have hh:hlp (hlpA 9 g.rules[j].alts)[k]=true:=(List.mem_filter.1 (List.getElem_mem hk)).2
  unfold symOf at hs
  rw [if_pos hh] at hs
  have hfx:fixP (hlpA 9 g.rules[j].alts) (hlpA 9 g.rules[j].alts)[k].place=k:=((fixP_iff (hf.rise (List.getElem_mem hj)) hk (fixP_lt (List.getElem_mem hk))).1 rfl).symm
  rw [hfx] at hs
  rw [h];exact hs
end
end Lx
end
section
open Go Go.RowKit
namespace Lx
theorem leB_anti {a b:List Bool}(h:LeB a b)(k:LeB b a):a=b:=ext_at h.1 fun i _=>by
 have h1:=h.2 i
 have h2:=k.2 i
 cases ha:at? a i <;> cases hb:at? b i <;> simp_all
theorem passE_fix:∀ {P:List Pd} {E:List Bool},passE P E=E→∀ p∈P,stepE E p=E
 | [],_,_,p,hp=>by cases hp
 | q::P,E,h,p,hp=>by
  have h1:passE P (stepE E q)=E:=h
  have h2:stepE E q=E:=(leB_anti (stepE_le E q) (by have:=passE_le P (stepE E q);rw [h1] at this;exact this)).symm
  rcases List.mem_cons.1 hp with rfl | hp
  ·exact h2
  ·rw [h2] at h1
   exact passE_fix h1 p hp
theorem closed_of {P:List Pd}{E:List Bool}(h:passE P E=E){p:Pd}(hp:p∈P)(hl:p.left<E.length)(hr:∀ s∈p.right,at? E s=true):at? E p.left=true:=by
 have h1:=passE_fix h p hp
 rw [stepE_all (List.all_eq_true.2 hr)] at h1
 rw [←h1,at_set,if_pos ⟨rfl,hl⟩]
section
variable {g:Gr}
structure Ends (g:Gr) (E:List Bool):Prop where
 len:E.length=(tokG g).length+(namG g).length
 tok:∀ s,s<(tokG g).length→at? E s=true
 cl:∀ p∈prodG g,(∀ s∈p.right,at? E s=true)→at? E p.left=true
def onE (g:Gr)(E:List Bool)(b:ByteArray):Bool:=at? E ((tokG g).length+fix (namG g) b)
theorem Ends.help {E:List Bool}(h:Ends g E){j:Nat}(hj:j<g.rules.length){k:Nat}(hk:k<(hlpA 9 g.rules[j].alts).length)(hp:(hlpA 9 g.rules[j].alts)[k].mark=42∨(hlpA 9 g.rules[j].alts)[k].mark=63∨∃ r∈partsOf (tokG g) (namG g) (baseOf ((tokG g).length+1) g.rules j) (hlpA 9 g.rules[j].alts) (hlpA 9 g.rules[j].alts)[k],∀ s∈r,at? E s=true):at? E (baseOf ((tokG g).length+1) g.rules j+1+k)=true:=by
 by_cases hm:(hlpA 9 g.rules[j].alts)[k].mark=42∨(hlpA 9 g.rules[j].alts)[k].mark=63
 ·exact h.cl _ (rule_in hj (mem_rulePd.2 (.inr ⟨k,hk,mem_helpPd.2 (.inl ⟨hm,rfl⟩)⟩))) (fun s hs=>by cases hs)
 ·rcases hp with hp | hp | ⟨r,hr,hs⟩
  ·exact absurd (.inl hp) hm
  ·exact absurd (.inr hp) hm
  ·exact h.cl _ (rule_in hj (mem_rulePd.2 (.inr ⟨k,hk,mem_helpPd.2 (.inr (.inl ⟨fun e=>hm (.inl e),r,hr,rfl⟩))⟩))) hs
theorem fixP_at (hf:Fit g){j:Nat}(hj:j<g.rules.length){k:Nat}(hk:k<(hlpA 9 g.rules[j].alts).length):fixP (hlpA 9 g.rules[j].alts) (hlpA 9 g.rules[j].alts)[k].place=k:=((fixP_iff (hf.rise (List.getElem_mem hj)) hk (fixP_lt (List.getElem_mem hk))).1 rfl).symm
theorem Ends.item (hf:Fit g){E:List Bool}(h:Ends g E){j:Nat}(hj:j<g.rules.length){x:It}(hx:x∈itsA 9 g.rules[j].alts)(hp:x.mark=42∨x.mark=63∨(x.kind=1)∨(x.kind=0∧onE g E x.name=true)∨(x.kind=2∧∃ a∈x.alts,∀ y∈a.1,at? E (symOf (tokG g) (namG g) (baseOf ((tokG g).length+1) g.rules j) (hlpA 9 g.rules[j].alts) y)=true)):at? E (symOf (tokG g) (namG g) (baseOf ((tokG g).length+1) g.rules j) (hlpA 9 g.rules[j].alts) x)=true:=by
 have hm:g.rules[j]∈g.rules:=List.getElem_mem hj
 have hpl:x.kind=1∨(x.kind=0∧onE g E x.name=true)→at? E (psym (tokG g) (namG g) x)=true:=by
  rintro (hk | ⟨hk,ho⟩)
  ·unfold psym
   rw [if_pos hk]
   have:=hf.plain hm hx (by omega)
   unfold Plain1 at this
   rw [if_pos hk] at this
   exact h.tok _ (fix_lt this)
  ·unfold psym
   rw [if_neg (by omega)]
   exact ho
 by_cases hh:hlp x=true
 ·obtain⟨k,hk,e⟩:=hlp_at hf hj hx hh
  unfold symOf
  rw [if_pos hh]
  have hfx:=fixP_at hf hj hk
  rw [e] at hfx
  rw [hfx]
  refine h.help hj hk ?_
  rw [e]
  rcases hp with hp | hp | hp | hp | ⟨hk2,a,ha,hy⟩
  ·exact .inl hp
  ·exact .inr (.inl hp)
  ·refine .inr (.inr ⟨[psym (tokG g) (namG g) x],?_,fun s hs=>?_⟩)
   ·unfold partsOf;rw [if_neg (by omega)];exact List.mem_cons_self
   ·rw [List.mem_singleton.1 hs];exact hpl (.inl hp)
  ·refine .inr (.inr ⟨[psym (tokG g) (namG g) x],?_,fun s hs=>?_⟩)
   ·unfold partsOf;rw [if_neg (by omega)];exact List.mem_cons_self
   ·rw [List.mem_singleton.1 hs];exact hpl (.inr hp)
  ·refine .inr (.inr ⟨rightOf (tokG g) (namG g) (baseOf ((tokG g).length+1) g.rules j) (hlpA 9 g.rules[j].alts) a.1,?_,fun s hs=>?_⟩)
   ·unfold partsOf;rw [if_pos hk2];exact List.mem_map.2 ⟨a,ha,rfl⟩
   ·obtain⟨y,hy2,rfl⟩:=List.mem_map.1 hs
    exact hy y hy2
 ·unfold symOf
  rw [if_neg hh]
  have hh2:¬ (x.kind=2)∧x.mark=0:=by
   unfold hlp at hh
   simp only [Bool.or_eq_true,decide_eq_true_eq,not_or,ne_eq,Decidable.not_not] at hh
   exact hh
  rcases hp with hp | hp | hp | hp | hp
  ·omega
  ·omega
  ·exact hpl (.inl hp)
  ·exact hpl (.inr hp)
  ·exact absurd hp.1 hh2.1
theorem Ends.alts (hf:Fit g) {E:List Bool} (h:Ends g E) {j:Nat} (hj:j<g.rules.length) {on:ByteArray→Bool}:∀ {d:Nat} {l:List Alt},(∀ a∈l,∀ x∈a.1,x∈itsA 9 g.rules[j].alts)→(∀ x∈itsA 9 g.rules[j].alts,x.kind=0→on x.name=true→onE g E x.name=true)→endsA on d l=true→∃ a∈l,∀ x∈a.1,at? E (symOf (tokG g) (namG g) (baseOf ((tokG g).length+1) g.rules j) (hlpA 9 g.rules[j].alts) x)=true
 | 0,_,_,_,e=>by cases e
 | d+1,l,hl,ho,e=>by
  rw [endsA,List.any_eq_true] at e
  obtain⟨a,ha,hx⟩:=e
  rw [List.all_eq_true] at hx
  refine⟨a,ha,fun x hxa=>?_⟩
  have hxi:=hl a ha x hxa
  have hx:=hx x hxa
  simp only [Bool.or_eq_true,Bool.and_eq_true,decide_eq_true_eq] at hx
  refine h.item hf hj hxi ?_
  rcases hx with ((((t | t) | t) | t) | t)
  ·exact .inr (.inr (.inl t))
  ·exact .inl t
  ·exact .inr (.inl t)
  ·exact .inr (.inr (.inr (.inl ⟨t.1,ho x hxi t.1 t.2⟩)))
  ·exact .inr (.inr (.inr (.inr ⟨t.1,Ends.alts hf h hj (fun b hb y hy=>its_sub (hf.dp _ (List.getElem_mem hj)) hxi hb hy) ho t.2⟩)))
theorem Ends.rule (_hf:Fit g){E:List Bool}(h:Ends g E){j:Nat}(hj:j<g.rules.length)(hx:∃ a∈g.rules[j].alts,∀ x∈a.1,at? E (symOf (tokG g) (namG g) (baseOf ((tokG g).length+1) g.rules j) (hlpA 9 g.rules[j].alts) x)=true):at? E (baseOf ((tokG g).length+1) g.rules j)=true:=by
 obtain⟨a,ha,hx⟩:=hx
 refine h.cl (altPd (tokG g) (namG g) (baseOf ((tokG g).length+1) g.rules j) (hlpA 9 g.rules[j].alts) a) (rule_in hj (mem_rulePd.2 (.inl ⟨a,ha,rfl⟩))) fun s hs=>?_
 obtain⟨x,hxa,rfl⟩:=List.mem_map.1 hs
 exact hx x hxa
theorem Ends.rules (hf:Fit g)(nd:(g.rules.map Rl.name).Nodup)(hc:(chk g).1=0){E:List Bool}(h:Ends g E){j:Nat}(hj:j<g.rules.length):at? E (baseOf ((tokG g).length+1) g.rules j)=true:=by
 have hL:LeastB (ClE g) g.rules.length (List.replicate g.rules.length false) (endL g):=end_least g g.rules.length (g.rules.length+1) _ (by simp) (Nat.le_refl _)
 have hT:=hL.least (markB g.rules.length fun i=>at? E (baseOf ((tokG g).length+1) g.rules i)=true) markB_len ⟨by rw [markB_len];simp,fun i hi=>?_⟩ (fun i hi hat hlt=>?_)
 ·exact (markB_at hj).1 (hT.2 j (off_none (by rw [hL.len]) (chk_all hc).2 j (by rw [hL.len];exact hj)))
 ·simp [at?,List.getElem?_replicate] at hi
  split at hi <;> simp at hi
 ·refine (markB_at hi).2 ?_
  have hai:altsAt g i=g.rules[i].alts:=by unfold altsAt;simp [hi]
  rw [hai] at hat
  refine h.rule hf hi (h.alts hf hi (fun a ha x hx=>alts_its ha hx 8) (fun x hx hk ho=>?_) hat)
  unfold onB at ho
  have hlt2:ixOf (ruleNames g) x.name<g.rules.length:=by
   rcases Nat.lt_or_ge (ixOf (ruleNames g) x.name) g.rules.length with h' | h'
   ·exact h'
   ·unfold at? at ho
    rw [List.getElem?_eq_none (by rw [markB_len];exact h')] at ho
    cases ho
  have h1:=(markB_at hlt2).1 ho
  rw [←base_fix hf nd hlt2,ix_name hlt2 rfl] at h1
  exact h1
theorem Ends.its (hf:Fit g) (hne:∀ r∈g.rules,RlNe r) (nd:(g.rules.map Rl.name).Nodup) (hc:(chk g).1=0) {E:List Bool} (h:Ends g E) {j:Nat} (hj:j<g.rules.length):∀ (d:Nat) (l:List Alt),(∀ x∈itsA d l,x∈itsA 9 g.rules[j].alts)→Dp d l→∀ x∈itsA d l,at? E (symOf (tokG g) (namG g) (baseOf ((tokG g).length+1) g.rules j) (hlpA 9 g.rules[j].alts) x)=true
 | 0,_,_,_,x,hx=>by cases hx
 | d+1,l,hl,hd,x,hx=>by
  obtain⟨a,ha,y,hy,hx2⟩:=mem_itsA.1 hx
  have hsub:∀ z∈itsA d y.alts,z∈itsA 9 g.rules[j].alts:=fun z hz=>hl z (mem_itsA.2 ⟨a,ha,y,hy,.inr hz⟩)
  have ih:=Ends.its hf hne nd hc h hj d y.alts hsub (hd a ha y hy)
  rcases hx2 with rfl | hx2
  ·have hxi:=hl x hx
   refine h.item hf hj hxi ?_
   rcases (hf.rl _ (List.getElem_mem hj)).2.1 x hxi with ⟨k,hn,-⟩ | ⟨k,-⟩ | k
   ·refine .inr (.inr (.inr (.inl ⟨k,?_⟩)))
    have hu:=unk_its (hf.unkr (List.getElem_mem hj)) hxi k
    have hlt2:ixOf (ruleNames g) x.name<g.rules.length:=by
     have:=fix_lt hu
     rw [ix_fix];simpa [ruleNames] using this
    have h1:=h.rules hf nd hc hlt2
    rw [←base_fix hf nd hlt2,ix_name hlt2 rfl] at h1
    exact h1
   ·exact .inr (.inr (.inl k))
   ·have hnn:=(hne _ (List.getElem_mem hj)).2 x hxi k
    obtain⟨c,t,e⟩:=List.exists_cons_of_ne_nil hnn
    refine .inr (.inr (.inr (.inr ⟨k,c,by rw [e];exact List.mem_cons_self,fun z hz=>?_⟩)))
    cases d with
    | zero =>
     have:=hd a ha x hy
     rw [show x.alts=[] from this] at e
     cases e
    | succ d=>exact ih z (mem_itsA.2 ⟨c,by rw [e];exact List.mem_cons_self,z,hz,.inl rfl⟩)
  ·exact ih x hx2
theorem Ends.all (hf:Fit g)(hne:∀ r∈g.rules,RlNe r)(nd:(g.rules.map Rl.name).Nodup)(hc:(chk g).1=0){E:List Bool}(h:Ends g E){s:Nat}(hs:s<(tokG g).length+(namG g).length):at? E s=true:=by
 by_cases h1:s<(tokG g).length
 ·exact h.tok s h1
 ·by_cases h0:s=(tokG g).length
  ·rw [h0]
   refine h.cl ⟨(tokG g).length,[(tokG g).length+1],-1⟩ List.mem_cons_self fun u hu=>?_
   rw [List.mem_singleton.1 hu]
   have:=h.rules hf nd hc hf.ne
   simpa [baseOf] using this
  ·obtain⟨j,hj,e | ⟨k,hk,e⟩⟩:=sym_split hf (by omega) hs
   ·rw [e];exact h.rules hf nd hc hj
   ·have:=h.its hf hne nd hc hj 9 g.rules[j].alts (fun _ h=>h) (hf.dp _ (List.getElem_mem hj)) _ (mem_hlpA (List.getElem_mem hk))
    unfold symOf at this
    rw [if_pos (List.mem_filter.1 (List.getElem_mem hk)).2,fixP_at hf hj hk] at this
    rw [e];exact this
theorem ends_rounds (hf:Fit g)(hne:∀ r∈g.rules,RlNe r)(nd:(g.rules.map Rl.name).Nodup)(hc:(chk g).1=0){E0:List Bool}(hl:E0.length=(tokG g).length+(namG g).length)(ht:∀ s,s<(tokG g).length→at? E0 s=true){s:Nat}(hs:s<(tokG g).length+(namG g).length):at? (itr (passE (prodG g)) (prodG g).length E0) s=true:=by
 have hok:PdOk ((tokG g).length+(namG g).length) (prodG g):=(setOk_of hf).1
 have hle:∀ k,LeB E0 (itr (passE (prodG g)) k E0):=fun k=>by
  induction k with
  | zero=>exact LeB.refl _
  | succ k ih=>exact ih.trans (passE_le _ _)
 rcases itr_np hl hok (prodG g).length with h | h
 ·refine Ends.all hf hne nd hc ⟨(itr_len _ _ _).trans hl,fun u hu=>(hle _).2 u (ht u hu),fun p hp hr=>closed_of h hp ?_ hr⟩ hs
  rw [itr_len,hl]
  exact (hok p hp).1
 ·by_cases h1:s<(tokG g).length
  ·exact (hle _).2 s (ht s h1)
  ·obtain⟨p,hp,e⟩:=prod_has hf hne (by omega) hs
   unfold npE at h
   have h2:=List.countP_eq_length.1 (Nat.le_antisymm List.countP_le_length h) p hp
   rw [←e];exact h2
end
end Lx
end
section
open Go.RowKit
open Tr
set_option maxHeartbeats 4000000 in
set_option maxRecDepth 100000 in
theorem shaped_any {w:World}{vP:Value}{P:List Lx.Pd}{ta na ba ka:Option Addr}{nT tc nN nc bc kc:Nat}(hP:PP (fun _=>True) w vP P)(hw:∀ p∈P,Lx.PdWell nT (nT+nN) p)(h0:0<nT)(h1:1<nN)(h2:1<P.length)(hbd:nT+nN≤100000):Calls Tryz.prog 18 #[.agg #[.slice ta nT tc,.slice na nN nc,vP,.slice ba nT bc,.slice ka nT kc]] w fun e w'=>e=.returned (.bool true)∧Below w.heap.size w w':=by
 obtain⟨pa,pc,rfl,hpm⟩:∃ a c,vP=.slice a P.length c∧P.length≤maxLen:=by obtain⟨ps,h1,h2,-⟩:=hP;exact own_len h2
 unfold maxLen at hpm
 obtain⟨n,hn⟩:∃ n,n=nT+nN:=⟨_,rfl⟩
 have HNN:Hid (n=nT+nN):=hn
 have hw1:IntKind.i64.wrap ((nT:Int)+(nN:Int))=(n:Int):=by rw [hn,←Int.natCast_add];exact wrap64 (by omega)
 clear hn
 obtain⟨W,hW⟩:∃ W,W=w.alloc (.cells #[.slice ta nT tc,.slice na nN nc,.slice pa P.length pc,.slice ba nT bc,.slice ka nT kc] 26):=⟨_,rfl⟩
 have hbW:Below w.heap.size w W:=by rw [hW];exact (Below.refl _ _).alloc (Nat.le_refl _) _
 have hsW:W.heap.size=w.heap.size+1:=by rw [hW];simp
 have kA:Blk W w.heap.size #[.slice ta nT tc,.slice na nN nc,.slice pa P.length pc,.slice ba nT bc,.slice ka nT kc] 26:=by rw [hW];exact Blk.new w _ 26
 go_enter Tryz.func18,Tryz.ntmps18
 go_wp2_with fail
 rw [←hW]
 clear hW
 go_loopg [5] P.length (fun k i wr=>∃ j:Nat,j+k=P.length∧i=.int .i64 j∧Below W.heap.size W wr)
 case atStart=>exact⟨0,by omega,rfl,Below.refl _ _⟩
 case round =>
  revert wr
  intro wz hrel
  obtain⟨j,hkj,rfl,hbz⟩:=hrel
  have hsz:=hbz.size
  have kAz:Blk wz w.heap.size _ 26:=(hbz.block _ (by omega)).trans kA
  have z1:wz.cell? ⟨w.heap.size,1,none⟩=some (.slice na nN nc):=kAz.cell 1
  have z2:wz.cell? ⟨w.heap.size,2,none⟩=some (.slice pa P.length pc):=kAz.cell 2
  have z3:wz.cell? ⟨w.heap.size,3,none⟩=some (.slice ba nT bc):=kAz.cell 3
  have z4:wz.cell? ⟨w.heap.size,4,none⟩=some (.slice ka nT kc):=kAz.cell 4
  have hbw:Below w.heap.size w wz:=hbW.trans (hbz.mono (by omega))
  by_cases hlt:j<P.length
  ·obtain⟨g,cap,u,hv,hu,x0,x1,x2⟩:=(hP.below hbw).at hlt
   cases hv
   obtain⟨⟨a1,a2⟩,a3,a4,a5,a6⟩:=hw P[j] (List.getElem_mem hlt)
   generalize P[j]=pd at hu x0 x1 x2 a1 a2 a3 a4 a5 a6
   obtain⟨pl,pr,pp⟩:=pd
   simp only at hu x0 x1 x2 a1 a2 a3 a4 a5 a6
   obtain⟨ua,uc,rfl,hul⟩:=own_len hu
   unfold maxLen at hul
   obtain⟨W1,hW1⟩:∃ W1,W1=wz.alloc (.cells #[.int .i64 (pl:Int),.slice ua pr.length uc,.int .i64 pp] 58):=⟨_,rfl⟩
   have hb1:Below wz.heap.size wz W1:=by rw [hW1];exact (Below.refl _ _).alloc (Nat.le_refl _) _
   have kp:Blk W1 wz.heap.size #[.int .i64 (pl:Int),.slice ua pr.length uc,.int .i64 pp] 58:=by rw [hW1];exact Blk.new wz _ 58
   have p0:W1.cell? ⟨wz.heap.size,0,none⟩=some (.int .i64 (pl:Int)):=kp.cell 0
   have p1:W1.cell? ⟨wz.heap.size,1,none⟩=some (.slice ua pr.length uc):=kp.cell 1
   have p2:W1.cell? ⟨wz.heap.size,2,none⟩=some (.int .i64 pp):=kp.cell 2
   have i1:(0:Int)≤(j:Int):=by omega
   have i2:(j:Int)<(P.length:Int):=by omega
   have c1:¬ (pl:Int)<(nT:Int):=by omega
   have c2:¬ (n:Int)≤(pl:Int):=by have:=HNN.out;omega
   have c3:¬ pp < -1:=by omega
   have c4:¬ (nT:Int)≤pp:=by omega
   have c5:¬ pp=0:=a6
   have c5b:(pp == 0)=false:=beq_eq_false_iff_ne.2 a6
   have HR:Hid (∀ s∈pr,0<s∧s<nT+nN∧s≠nT):=a3
   have hu1:IR 0 W1 (.slice ua pr.length uc) pr:=own_below hu hb1
   have hbW1:Below W.heap.size W W1:=hbz.trans (hb1.mono hsz)
   clear a1 a2 a3 a4 a5 a6 hu kAz
   go_upto_region 7 with fail
   rw [←hW1]
   clear hW1 x0 x1 x2 z1 z2 z3 z4
   go_wp2_with fail
   go_loopg [7] pr.length (fun k i wr=>∃ q:Nat,q+k=pr.length∧i=.int .i64 q∧wr=W1)
   case atStart=>exact⟨0,by omega,rfl,rfl⟩
   case round =>
    obtain⟨q,hkq,rfl,hww⟩:=hrel
    subst hww
    by_cases hltq:q<pr.length
    ·obtain⟨gR,capR,hvR,-,cq⟩:=hu1.at (j:=q) hltq
     cases hvR
     obtain⟨b1,b2,b3⟩:=HR.out pr[q] (List.getElem_mem hltq)
     generalize pr[q]=sy at cq b1 b2 b3
     have d1:¬ (sy:Int)≤0:=by omega
     have d2:¬ (n:Int)≤(sy:Int):=by have:=HNN.out;omega
     have d3:¬ (sy:Int)=(nT:Int):=by omega
     have d3b:((sy:Int) == (nT:Int))=false:=beq_eq_false_iff_ne.2 d3
     have j1:(0:Int)≤(q:Int):=by omega
     have j2:(q:Int)<(pr.length:Int):=by omega
     clear b1 b2 b3
     go_wp2_with fail
     go_roundg (pr.length - (q+1))
     case measure=>omega
     case rel=>exact⟨q+1,by omega,by go_num,rfl⟩
    ·have:q=pr.length:=by omega
     subst this
     go_wp2_with fail
     go_roundg (P.length - (j+1))
     case measure=>omega
     case rel=>exact⟨j+1,by omega,by go_num,hbW1⟩
  ·have hj:j=P.length:=by omega
   have e1:(0:Int)<(nT:Int):=by omega
   have e2:(1:Int)<(nN:Int):=by omega
   have e3:(1:Int)<(P.length:Int):=by omega
   go_wp2_with fail
   go_ret
   exact⟨rfl,hbw⟩
end
section
open Go.RowKit
open Tr
end
end Go.Proofs.YtlcppnabbicmoaaGreatDoor

import Derived.Test.YtlcppnabbicmoaaGreatDoorMD50
import Derived.BigQuiet
set_option maxHeartbeats 8000000
set_option maxRecDepth 1000000
namespace Go.Proofs.YtlcppnabbicmoaaGreatDoor
open Go.RowKit
open Tr
namespace Lx
theorem formL_len:∀ (ts:List Tk) (b:ByteArray),(∀ t∈ts,t.1.size<=2000)->(formL b ts).length<=ts.length*2001
 | [],_,_=>Nat.le_refl _
 | t::ts,b,h=>by
  have ih:=formL_len ts t.1 fun u hu=>h u (List.mem_cons_of_mem _ hu)
  have h1:=gapOf_size b t.1;have h2:=h t List.mem_cons_self;rw[formL,List.length_append,List.length_append,data_len,data_len,List.length_cons,Nat.succ_mul];omega
theorem plain_size {s:ByteArray}{g:Gr}(h:parse s=.ok g):(⟨(formL noText (lex s)).toArray⟩:ByteArray).size<=5000000:=by
 have hs:=parse_size h;have h1:=formL_len (lex s) noText fun t ht=>Nat.le_trans (lex_sz s t ht) hs
 have h2:=lex_len s;have h3:(⟨(formL noText (lex s)).toArray⟩:ByteArray).size=(formL noText (lex s)).length:=by rw[<-bytes_len];rfl
 rw[h3];have:(lex s).length*2001<=2001*2001:=Nat.mul_le_mul_right _ (by omega);omega
theorem addToks_rest (a:ByteArray):∀ (bs l:List ByteArray),∃ R,addToks (a::l) bs=a::R/\∀ x∈R,x∈l∨x∈bs
 | [],l=>⟨l,rfl,fun x hx=>.inl hx⟩
 | b::bs,l=>by
  show ∃ R,addToks (addTok (a::l) b) bs=a::R/\_;unfold addTok
  split
  ·obtain⟨R,e,h⟩:=addToks_rest a bs l
   exact⟨R,e,fun x hx=>(h x hx).imp id (List.mem_cons_of_mem _)⟩
  ·obtain⟨R,e,h⟩:=addToks_rest a bs (l++[b])
   refine⟨R,e,fun x hx=>?_⟩;rcases h x hx with h | h
   ·rcases List.mem_append.1 h with h | h
    ·exact .inl h
    ·rw[List.mem_singleton.1 h];exact .inr List.mem_cons_self
   ·exact .inr (List.mem_cons_of_mem _ h)
theorem phi_token {b:ByteArray}(h:isToken b=true):phi b=⟨#[90]⟩++b:=by
 apply bytes_inj;rw[bytes_phi,bytes_app];unfold isToken at h;rw[isWord_L]at h;cases hb:bytes b with
 | nil=>rw[hb]at h;cases h
 | cons c r =>
  rw[hb]at h;simp only[Bool.and_eq_true]at h;rw[phiL_cons,if_neg (fun hs=>by rw[small_cap hs]at h;cases h.2.1),if_pos h.2.1];rfl
theorem phi_first {b:ByteArray}{c:UInt8}{r:List UInt8}(hb:bytes b=c::r)(h:small (bt c)=true):phi b=⟨#[122]⟩++b:=by
 apply bytes_inj;rw[bytes_phi,bytes_app,hb,phiL_cons,if_pos h];rfl
theorem name_first {b:ByteArray}(h:isName b=true):∃ c r,bytes b=c::r/\small (bt c)=true:=by
 unfold isName at h;rw[isWord_L]at h;cases hb:bytes b with
 | nil=>rw[hb]at h;cases h
 | cons c r =>
  rw[hb]at h;simp only[Bool.and_eq_true]at h;exact⟨c,r,rfl,h.2.1⟩
theorem tok_is {g:Gr}(hf:Fit g){i:Nat}(h1:1<=i)(h2:i<(tokG g).length):isToken (tokG g)[i]=true:=by
 obtain⟨R,e,h⟩:=addToks_rest tDollar (levelToks g++g.rules.flatMap fun r=>toksA 9 r.alts) [];have e':tokG g=tDollar::R:=e;have hm:(tokG g)[i]∈R:=by
  have:(tokG g)[i]?=(tDollar::R)[i]?:=by rw[e']
  rw[List.getElem?_eq_getElem h2]at this;cases i with
  | zero=>omega
  | succ i =>
   rw[List.getElem?_cons_succ]at this;exact List.mem_of_getElem? this.symm
 rcases h _ hm with h | h
 ·cases h
 ·rcases List.mem_append.1 h with h | h
  ·rw[lvToks_eq]at h
   obtain⟨lv,hl,h⟩:=List.mem_flatMap.1 h;obtain⟨t,ht,h⟩:=List.mem_map.1 h;rw[<-h];exact hf.lv lv hl t ht
  ·obtain⟨r,hr,h⟩:=List.mem_flatMap.1 h
   obtain⟨x,hx,h⟩:=List.mem_map.1 h;obtain⟨hx,hk⟩:=List.mem_filter.1 hx;have hk:=of_decide_eq_true hk;rw[<-h];rcases (hf.rl r hr).2.1 x hx with ⟨k,-⟩ | ⟨-,k,-⟩ | k
   ·omega
   ·exact k
   ·omega
theorem tok_phi {g:Gr}(hf:Fit g){i:Nat}(h1:1<=i)(h2:i<(tokG g).length):phi (tokG g)[i]=⟨#[90]⟩++(tokG g)[i]:=phi_token (tok_is hf h1 h2)
theorem nam_size {g:Gr}(hf:Fit g){i:Nat}(h1:1<=i)(h2:i<(namG g).length):(namG g)[i].size<=3000:=by
 have hm:(namG g)[i]∈g.rules.flatMap namesR:=by
  cases i with
  | zero=>omega
  | succ i=>exact List.getElem_mem (l:=g.rules.flatMap namesR) (n:=i) (by unfold namG at h2;simpa using h2)
 obtain⟨r,hr,h⟩:=List.mem_flatMap.1 hm;have hs:=name_size (hf.rl r hr).1;unfold namesR at h;rcases List.mem_cons.1 h with h | h
 ·rw[h];omega
 ·obtain⟨k,hk,h⟩:=List.mem_map.1 h
  have h3:=List.mem_range.1 hk;have h4:=hf.hlpL hr;have h5:=decB_size (k+1);rw[<-h];unfold hName;rw[<-bytes_len,bytes_app,bytes_app,List.length_append,List.length_append,bytes_len,bytes_len,bytes_len];have h6:tTick.size=1:=rfl;omega
theorem nam_phi {g:Gr}(hf:Fit g){i:Nat}(h1:1<=i)(h2:i<(namG g).length):phi (namG g)[i]=⟨#[122]⟩++(namG g)[i]:=by
 have hm:(namG g)[i]∈g.rules.flatMap namesR:=by
  cases i with
  | zero=>omega
  | succ i=>exact List.getElem_mem (l:=g.rules.flatMap namesR) (n:=i) (by unfold namG at h2;simpa using h2)
 obtain⟨r,hr,h⟩:=List.mem_flatMap.1 hm;obtain⟨c,t,hb,hs⟩:=name_first (hf.rl r hr).1;unfold namesR at h;rcases List.mem_cons.1 h with h | h
 ·rw[h];exact phi_first hb hs
 ·obtain⟨k,-,h⟩:=List.mem_map.1 h
  rw[<-h];refine phi_first (c:=c) (r:=t++(bytes tTick++bytes (decB (k+1)))) ?_ hs;unfold hName;rw[bytes_app,bytes_app,hb];simp
theorem some_token (g:Gr):0<(tokG g).length:=by
 obtain⟨R,e,-⟩:=addToks_rest tDollar (levelToks g++g.rules.flatMap fun r=>toksA 9 r.alts) [];have e':tokG g=tDollar::R:=e;rw[e'];simp
structure RnSame (g g':Gr):Prop where
 tl:(tokG g').length=(tokG g).length
 nl:(namG g').length=(namG g).length
 tk:∀ i (h:i<(tokG g).length) (h':i<(tokG g').length),1<=i->(tokG g')[i]=⟨#[90]⟩++(tokG g)[i]
 nm:∀ i (h:i<(namG g).length) (h':i<(namG g').length),1<=i->(namG g')[i]=⟨#[122]⟩++(namG g)[i]
 ts:∀ i (h:i<(tokG g).length),1<=i->(tokG g)[i].size<=3000
 ns:∀ i (h:i<(namG g).length),1<=i->(namG g)[i].size<=3000
 pr:prodG g'=prodG g
 b1:((tokG g').map fun t=>(bkOf g' t).1)=(tokG g).map fun t=>(bkOf g t).1
 b2:((tokG g').map fun t=>(bkOf g' t).2)=(tokG g).map fun t=>(bkOf g t).2
end Lx
theorem rnSame_of {s t:ByteArray}{g g':Lx.Gr}(w:World)(hs:Lx.mkR s=.ok g)(ht:Lx.mkR t=.ok g')(hb:Lx.bytes t=Lx.renL false (Lx.bytes (⟨(Lx.formL Lx.noText (Lx.lex s)).toArray⟩:ByteArray))):Lx.RnSame g g':=by
 have hf:=fit_any w hs;obtain⟨hp,-,-⟩:=Lx.mkR_inv hs;obtain⟨hp',-,-⟩:=Lx.mkR_inv ht;have e:=Lx.ren_parse hp hp' hb;obtain⟨h1,-⟩:=Lx.mk_rn Lx.phi_ren hp hp' e;obtain⟨-,h2,m⟩:=h1 g hs;have ht1:=m.tok;have hn1:=m.nam;refine⟨by rw[ht1,List.length_map],by rw[hn1,List.length_map],fun i h h' hi=>?_,fun i h h' hi=>?_,fun i h hi=>Nat.le_trans (Lx.token_size (Lx.tok_is hf hi h)) (by decide),fun i h hi=>Lx.nam_size hf hi h,m.prod,?_,?_⟩
 ·rw[<-Lx.tok_phi hf hi h]
  simp[ht1]
 ·rw[<-Lx.nam_phi hf hi h]
  simp[hn1]
 ·rw[ht1,List.map_map]
  exact List.map_congr_left fun x _=>by show (Lx.bkOf g' (Lx.phi x)).1=_;rw[m.bk]
 ·rw[ht1,List.map_map]
  exact List.map_congr_left fun x _=>by show (Lx.bkOf g' (Lx.phi x)).2=_;rw[m.bk]
theorem sizes_of {s:ByteArray}{g:Lx.Gr}(w:World)(h:Lx.mkR s=.ok g):0<(Lx.tokG g).length/\1<(Lx.namG g).length/\(Lx.prodG g).length<=200/\(Lx.tokG g).length+(Lx.namG g).length<=100000:=by
 have hf:=fit_any w h;exact⟨Lx.some_token g,by have:=Lx.namG_len g;have:=Lx.names_pos hf;omega,(Lx.mkR_inv h).2.2,(setOk_of hf).2.1⟩
end Go.Proofs.YtlcppnabbicmoaaGreatDoor

import Derived.Test.YtlcppnabbicmoaaGreatDoorME25
import Derived.Test.YtlcppnabbicmoaaGreatDoorME27
set_option maxHeartbeats 8000000
set_option maxRecDepth 1000000
namespace Go.Proofs.YtlcppnabbicmoaaGreatDoor
section
open Go.RowKit
open Tr
theorem isName_item {w:World}{n m:Nat}{it:Lx.It}(h:ItemAt w n m it):Calls Tryz.prog 95 #[.pointer (some ⟨n,m*4,none⟩)] w fun e w'=>e=.returned (.bool (decide (it.kind=0)))/\w'=w:=by
 have h0:=h.kind;go_enter Tryz.func95,Tryz.ntmps95
 by_cases hk:it.kind=0
 ·have hkb:((it.kind:Int) == 0)=true:=by simp[hk]
  rw[decide_eq_true hk];clear hk;go_wp2_with fail;go_ret;exact⟨rfl,rfl⟩
 ·have hkb:((it.kind:Int) == 0)=false:=beq_eq_false_iff_ne.2 (by omega)
  rw[decide_eq_false hk];clear hk;go_wp2_with fail;go_ret;exact⟨rfl,rfl⟩
namespace Lx
def vis (names:List ByteArray)(s:List Bool × List Nat)(nm:ByteArray):List Bool × List Nat:=if at? s.1 (fix names nm)=true then s else (s.1.set (fix names nm) true,s.2++[fix names nm])
end Lx
structure RS (lo n B:Nat) (num:ByteArray->Int) (w0 w:World) (s:List Bool × List Nat):Prop where
 nb:Blk w lo #[.map (some B)] 119
 mp:SMap w B num
 bl:B<lo
 fo:Blk w (lo+1) (boolsV s.1) 4
 fv:Blk w (lo+2) #[.slice (some ⟨lo+1,0,none⟩) n n] 39
 ov:∃ vo,Blk w (lo+4) #[vo] 24/\w.ownsRow 0 3 1 vo s.2.length (intsV s.2)/\∀ g,vo.ownBlock=some g->g=lo+3∨lo+5<=g
 len:Hid (s.1.length=n)
 fr:Below lo w0 w
theorem visit_reach {lo n B:Nat} {num:ByteArray->Int} {w0 w:World} {s:List Bool × List Nat} (h:RS lo n B num w0 w s) {a m:Nat} {it:Lx.It} (hi:ItemAt w a m it) {names:List ByteArray} (hq:num it.name=(Lx.fix names it.name:Int)) (hl:Lx.fix names it.name<n) (hop:s.2.length<=10000) :
  Calls Tryz.prog 96 #[.pointer (some ⟨a,m*4,none⟩),.pointer (some ⟨lo,0,none⟩),.pointer (some ⟨lo+2,0,none⟩),.pointer (some ⟨lo+4,0,none⟩)] w fun e w'=>e=.returned (.tuple #[])/\RS lo n B num w0 w' (Lx.vis names s it.name):=by
 obtain⟨i3,hi3,hz30,hz31,hz32⟩:=info_parts Tryz.info3;obtain⟨h1,h2,h3,h4,h5,⟨vo,h6,h7,h8⟩,h9,h10⟩:=h;have h2d:SMap w.drew B num:=h2.move rfl;have hlk:=h2d.look it.name;rw[hq]at hlk;have x1:=hi.name;have c0:w.cell? ⟨lo,0,none⟩=some (.map (some B)):=h1.cell 0;go_enter Tryz.func96,Tryz.ntmps96;go_wp2_with fail
 go_region
 all_goals
  have hv0:Lx.vis names s it.name=if Lx.at? s.1 (Lx.fix names it.name)=true then s else (s.1.set (Lx.fix names it.name) true,s.2++[Lx.fix names it.name]):=rfl
  have HV0:Hid _:=hv0;have hql:Lx.fix names it.name<s.1.length:=by have:=h9.out;omega
  clear hv0;obtain⟨wd,hwd⟩:∃ wd,wd=w.drew:=⟨_,rfl⟩;rw[<-hwd];have hh:wd.heap=w.heap:=by rw[hwd];rfl
  have h10d:Below lo w0 wd:=by rw[hwd];exact h10.drew
  have h1d:Blk wd lo #[.map (some B)] 119:=by unfold Blk;rw[hh];exact h1
  have h2e:SMap wd B num:=h2.move (by rw[hh]);have h4d:Blk wd (lo+1) (boolsV s.1) 4:=by unfold Blk;rw[hh];exact h4
  have h5d:Blk wd (lo+2) #[.slice (some ⟨lo+1,0,none⟩) n n] 39:=by unfold Blk;rw[hh];exact h5
  have h6d:Blk wd (lo+4) #[vo] 24:=by unfold Blk;rw[hh];exact h6
  have h7d:wd.ownsRow 0 3 1 vo s.2.length (intsV s.2):=own_move h7 fun g _=>by rw[hh]
  have f0:wd.cell? ⟨lo+2,0,none⟩=some (.slice (some ⟨lo+1,0,none⟩) n n):=h5d.cell 0;have o1:wd.cell? ⟨lo+1,Lx.fix names it.name,none⟩=some (.bool (Lx.at? s.1 (Lx.fix names it.name))):=(h4d.cell _).trans (bools_get s.1 hql);have of:∀ i,wd.frozen? ⟨lo+1,i,none⟩=false:=h4d.frozen;have l1:=h4d.lt;have l2:=h5d.lt;have l4:=h6d.lt;have HQL:Hid (Lx.fix names it.name<s.1.length):=hql;clear hwd hh h1 h2 h2d h4 h5 h6 h7 h10 x1 c0 hlk hq hi hql;generalize Lx.fix names it.name=q at *;cases hb:Lx.at? s.1 q with
  | true =>
   have hv0:=HV0.out;rw[if_pos hb]at hv0;have HV1:Hid _:=hv0;rw[hb]at o1;clear hv0 HV0 hb;go_wp2_with fail
   go_end0
   refine⟨rfl,?_⟩;rw[HV1.out];exact⟨h1d,h2e,h3,h4d,h5d,⟨vo,h6d,h7d,h8⟩,h9,h10d⟩
  | false =>
   have hv0:=HV0.out;rw[if_neg (by rw[hb];decide)]at hv0;have HV1:Hid _:=hv0;rw[hb]at o1;clear hv0 HV0 hb;obtain⟨oa,oc,hvo,hom⟩:=own_len h7d;subst hvo;unfold maxLen at hom;have h6e:Blk (wd.setCell ⟨lo+1,q,none⟩ (.bool true)) (lo+4) #[.slice oa s.2.length oc] 24:=h6d.other (by omega) _;have o40:(wd.setCell ⟨lo+1,q,none⟩ (.bool true)).cell? ⟨lo+4,0,none⟩=some (.slice oa s.2.length oc):=h6e.cell 0;have h7e:(wd.setCell ⟨lo+1,q,none⟩ (.bool true)).ownsRow 0 3 1 (.slice oa s.2.length oc) s.2.length (intsV s.2):=own_move h7d fun g hg=>Below.heap_setCell _ _ _ _ (fun e=>by have e':g=lo+1:=e;rcases h8 g hg with h | h <;> omega)
   have k41:Blk (wd.setCell ⟨lo+1,q,none⟩ (.bool true)) (lo+1) (boolsV (s.1.set q true)) 4:=by rw[<-bools_set];exact h4d.set q _
   have hse:(wd.setCell ⟨lo+1,q,none⟩ (.bool true)).heap.size=wd.heap.size:=by simp[World.setCell]
   have hkn:Blk ((wd.setCell ⟨lo+1,q,none⟩ (.bool true)).alloc (.cells #[.int .i64 (q:Int)] 3)) wd.heap.size #[.int .i64 (q:Int)] 3:=by rw[<-hse];exact Blk.new _ _ 3
   have hn4:(Value.slice oa s.2.length oc).ownBlock≠some (lo+4):=fun e=>by rcases h8 _ e with h | h <;> omega
   go_wp2_with (at_builtin;go_loud (refine wpList_append_own_at _ rfl _ _ 24 rfl 0 3 i3 _ 1 8 Tryz.underlying24 hi3 hz30 hz31 hz32 rfl (by decide) (.slice oa s.2.length oc) _ _ rfl (h7e.alloc _) ⟨_,0,none⟩ 1 1 [.int .i64 (q:Int)] rfl rfl (news_of hkn) (by simp[Value.oneCell']) (by unfold maxLen;omega) (by omega) (by simp) ?_;intro v5 w5 hown5 hgrow5 _ hat5;obtain⟨oa5,oc5,hv5,-⟩:=own_len hown5;subst hv5;have km5:=(h6e.alloc (.cells #[.int .i64 (q:Int)] 3)).grown hgrow5 (fun e=>hn4 e.symm);have c54:w5.cell? ⟨lo+4,0,none⟩=some (.slice oa s.2.length oc):=km5.cell 0;have f54:∀ i,w5.frozen? ⟨lo+4,i,none⟩=false:=km5.frozen))
   go_end0
   refine⟨rfl,?_⟩;rw[HV1.out];have bk:∀ g,g<wd.heap.size->g≠lo+4->g≠lo+1->(Value.slice oa s.2.length oc).ownBlock≠some g->(w5.setCell ⟨lo+4,0,none⟩ (.slice oa5 (s.2.length+1) oc5)).heap[g]?=wd.heap[g]?:=by
    intro g hg h4' h1' hn;rw[Below.heap_setCell _ _ _ _ h4',hgrow5.block g (by simp[World.setCell];omega) (fun e=>hn e.symm),Below.heap_alloc _ _ _ (by rw[hse];exact hg),Below.heap_setCell _ _ _ _ h1']
   have hno:∀ g,g<lo+3->(Value.slice oa s.2.length oc).ownBlock≠some g:=fun g hg e=>by rcases h8 _ e with h | h <;> omega
   have hs5:=hgrow5.size;simp only[World.size_alloc]at hs5;have hat6:∀ g,(Value.slice oa5 (s.2.length+1) oc5).ownBlock=some g->g=lo+3∨lo+5<=g:=by
    intro g hg;rcases hat5 with h | h
    ·exact h8 g (h ▸ hg)
    ·rw[h]at hg
     have e1:=Option.some.inj hg;have e2:g=wd.heap.size+1:=by rw[<-e1];simp[World.setCell]
     omega
   refine⟨?_,h2e.move (bk B (by omega) (by omega) (by omega) (hno B (by omega))),h3,?_,?_,⟨_,km5.set 0 _,?_,hat6⟩,?_,?_⟩
   ·exact (bk lo (by omega) (by omega) (by omega) (hno lo (by omega))).trans h1d
   ·have k5:=(k41.alloc (.cells #[.int .i64 (q:Int)] 3)).grown hgrow5 (fun e=>hno (lo+1) (by omega) e.symm)
    exact k5.other (by omega) _
   ·exact (bk (lo+2) (by omega) (by omega) (by omega) (hno (lo+2) (by omega))).trans h5d
   ·rw[List.length_append,intsV_app]
    exact own_move hown5 fun g hg=>Below.heap_setCell _ _ _ _ (fun e=>by have e':g=lo+4:=e;rcases hat6 g hg with h | h <;> omega)
   ·show (s.1.set q true).length=n
    rw[List.length_set];exact h9.out
   ·refine h10d.trans ⟨?_,?_,?_,?_,fun g hg=>bk g (by omega) (by omega) (by omega) (hno g (by omega))⟩
    ·exact hgrow5.os
    ·exact hgrow5.tape
    ·exact hgrow5.output
    ·have:=hgrow5.size;simp[World.setCell]at this ⊢;omega
end
section
open Go.RowKit
open Tr
namespace Lx
theorem lsOf_len (b n:Nat):(lsOf b n).length=n:=by simp[lsOf]
theorem lsOf_get {b n k:Nat}(h:k<n):(lsOf b n)[k]?=some (b+1+k):=by simp[lsOf,h]
def SymOk (T N:List ByteArray)(H:List It)(it:It):Prop:=if hlp it=true then fixP H it.place<H.length else Plain1 T N it
theorem fixP_iff {H:List It}(hr:(H.map It.place).Pairwise (·< ·)){p k:Nat}(hk:k<H.length)(hl:fixP H p<H.length):H[k].place=p↔k=fixP H p:=by
 have h1:H[fixP H p].place=p:=by
  have:=List.findIdx_getElem (w:=hl);exact of_decide_eq_true this
 constructor
 ·intro h
  rcases Nat.lt_trichotomy k (fixP H p) with h2 | h2 | h2
  ·have:=List.not_of_lt_findIdx h2
   simp[h]at this
  ·exact h2
  ·exfalso
   have h3:=List.pairwise_iff_getElem.1 hr (fixP H p) k (by simpa using hl) (by simpa using hk) h2;simp[h1,h]at h3
 ·rintro rfl;exact h1
end Lx
theorem HR.at {B:Nat}{F:Nat->Prop}{w:World}{v:Value}{l:List Lx.It}(h:HR B F w v l){j:Nat}(hj:j<l.length):∃ g cap va,v=.slice (some ⟨g,0,none⟩) l.length cap/\AltsIn YR 9 F w va l[j].alts/\∀ i,i<5->w.cell? ⟨g,j*5+i,none⟩=(YR.cI (va,l[j]))[i]?:=by
 obtain⟨ps,h1,h2,h3⟩:=h;have hs:Tr.Seq (fun _=>True) w 148 5 YR.cI (fun va it=>AltsIn YR 9 F w va it.alts) v l:=⟨ps,h1,own_le h2 (Nat.zero_le _),fun _ _=>trivial,h3⟩;obtain⟨g,cap,va,k1,-,k3,k4⟩:=Seq.at hs (fun _=>rfl) hj;exact⟨g,cap,va,k1,k3,k4⟩
theorem HR.len {B:Nat}{F:Nat->Prop}{w:World}{v:Value}{l:List Lx.It}(h:HR B F w v l):∃ a c,v=.slice a l.length c/\l.length<=maxLen:=by
 obtain⟨ps,h1,h2,h3⟩:=h;exact own_len h2
theorem IR.at {B:Nat}{w:World}{v:Value}{r:List Nat}(h:IR B w v r){j:Nat}(hj:j<r.length):∃ g cap,v=.slice (some ⟨g,0,none⟩) r.length cap/\g<w.heap.size/\w.cell? ⟨g,j,none⟩=some (.int .i64 (r[j]:Int)):=by
 unfold IR at h;obtain⟨g,cap,rfl,-,-⟩:=h.form (by omega);refine⟨g,cap,rfl,(h.lt g rfl).2,?_⟩;rw[h.cellAt j (by omega),intsV_get hj]
theorem HR.blk {B:Nat}{F:Nat->Prop}{w:World}{v:Value}{l:List Lx.It}(h:HR B F w v l):∀ g,v.ownBlock=some g->g<w.heap.size:=by
 obtain⟨ps,h1,h2,h3⟩:=h;exact fun g hg=>(h2.lt g hg).2
theorem right_any {F:Nat->Prop} {w:World} {mb:Nat} {T N:List ByteArray} {b:Nat} {H:List Lx.It} (h:Rd2 F w mb T N b H) {d:Nat} (its:List Lx.It) (vi:Value) (hi:ItemsIn YR d F w vi its) (hil:its.length<=10000) (prec:ByteArray) (pa:Nat) (hok:∀ x,x∈its->Lx.SymOk T N H x) :
  Calls Tryz.prog 68 #[.pointer (some ⟨mb,0,none⟩),.agg #[vi,.string prec,.int .i64 (pa:Int)]] w fun e w'=>∃ u,e=.returned u/\IR w.heap.size w' u (Lx.rightOf T N b H its)/\Below w.heap.size w w':=by
 obtain⟨i0,hii,hz0,hz1,hz2⟩:=info_parts Tryz.info3;obtain⟨⟨vT,vN,vP,vB,vK,vH,vL,h1,h2,h3,h4,h5⟩,hl,h6,h7,h8⟩:=id h;obtain⟨ia,ic,hvi,him⟩:∃ a c,vi=.slice a its.length c/\its.length<=maxLen:=Seq.len (show Tr.Seq F w YR.eI YR.sI YR.cI (fun va it=>AltsIn YR d F w va it.alts) vi its from hi);subst hvi;unfold maxLen at him;obtain⟨ha,hc,hvH,hHm⟩:=h4.len;subst hvH;unfold maxLen at hHm;have lmb:=h1.lt;go_enter Tryz.func68,Tryz.ntmps68;go_wp2_with fail;obtain⟨W,hW⟩:∃ W,W=w.alloc (.cells #[.slice ia its.length ic,.string prec,.int .i64 (pa:Int)] 145):=⟨_,rfl⟩;rw[<-hW];have hB:Below w.heap.size w W:=by rw[hW];exact (Below.refl _ _).alloc (Nat.le_refl _) _
 have hWs:W.heap.size=w.heap.size+1:=by rw[hW];simp
 have kA:Blk W w.heap.size #[.slice ia its.length ic,.string prec,.int .i64 (pa:Int)] 145:=by rw[hW];exact Blk.new w _ 145
 clear hW
 go_loopg [5,6] its.length (fun k vo i wr=>∃ (j:Nat) (acc:List Nat),j+k=its.length/\i=.int .i64 j/\IR W.heap.size wr vo acc/\Below W.heap.size W wr/\Hid (acc=(its.take j).map (Lx.symOf T N b H)))
 case atStart=>exact⟨0,[],by omega,rfl,World.ownsRow_nil _ _ _ _,Below.refl _ _,rfl⟩
 case round =>
  revert wr;intro wz hrel;obtain⟨j,acc,hk,rfl,ho,hbz,HAC⟩:=hrel;have hac:acc.length<=10000:=by rw[HAC.out,List.length_map,List.length_take];omega
  obtain⟨oa,oc,hvo,hom⟩:=own_len ho;subst hvo;have hsz:=hbz.size;have hbw:Below w.heap.size w wz:=hB.trans (hbz.mono (by omega));have kAz:Blk wz w.heap.size _ 145:=(hbz.block _ (by omega)).trans kA;have a0:wz.cell? ⟨w.heap.size,0,none⟩=some (.slice ia its.length ic):=kAz.cell 0
  by_cases hlt:j<its.length
  ·have hiz:ItemsIn YR d F wz _ its:=ItemsIn.move (fun b hb=>hbw.block b (hl b hb)) (fun _ h=>h) hi
   unfold ItemsIn ItemsBy at hiz;obtain⟨n,ncap,va,hv,hn,ha',hcc⟩:=Seq.at hiz (fun _=>rfl) hlt;cases hv;have hok1:=hok its[j] (List.getElem_mem hlt);have htk:(its.take (j+1)).map (Lx.symOf T N b H)=acc++[Lx.symOf T N b H its[j]]:=by rw[HAC.out,List.take_succ_eq_append_getElem hlt,List.map_append];rfl
   have HTK:Hid _:=htk;clear htk;generalize its[j]=it at ha' hcc hok1 HTK;obtain⟨sa,sc,hva,-⟩:=AltsIn.len ha';subst hva;have e0:wz.cell? ⟨n,j*5,none⟩=some (.int .i64 (it.kind:Int)):=hcc 0 (by decide);have e1:wz.cell? ⟨n,j*5+1,none⟩=some (.string it.name):=hcc 1 (by decide);have e2:wz.cell? ⟨n,j*5+2,none⟩=some (.int .u8 (it.mark:Int)):=hcc 2 (by decide);have e3:wz.cell? ⟨n,j*5+3,none⟩=some (.slice sa it.alts.length sc):=hcc 3 (by decide);have e4:wz.cell? ⟨n,j*5+4,none⟩=some (.int .i64 (it.place:Int)):=hcc 4 (by decide);have ln:n<wz.heap.size:=by have:=hl n hn;omega
   clear hcc hiz;obtain⟨W1,hW1⟩:∃ W1,W1=wz.alloc (.cells #[.int .i64 (it.kind:Int),.string it.name,.int .u8 (it.mark:Int),.slice sa it.alts.length sc,.int .i64 (it.place:Int)] 148):=⟨_,rfl⟩;have hb1:Below wz.heap.size wz W1:=by rw[hW1];exact (Below.refl _ _).alloc (Nat.le_refl _) _
   have hs1:W1.heap.size=wz.heap.size+1:=by rw[hW1];simp
   have kx:Blk W1 wz.heap.size #[.int .i64 (it.kind:Int),.string it.name,.int .u8 (it.mark:Int),.slice sa it.alts.length sc,.int .i64 (it.place:Int)] 148:=by rw[hW1];exact Blk.new wz _ 148
   have hb1w:Below w.heap.size w W1:=hbw.trans (hb1.mono (by omega))
   by_cases hh:Lx.hlp it=true
   ·have hfx:Lx.fixP H it.place<H.length:=by unfold Lx.SymOk at hok1;rw[if_pos hh]at hok1;exact hok1
    have HSY:Hid (Lx.symOf T N b H it=b+1+Lx.fixP H it.place):=if_pos hh;have hcase:(it.kind=2)∨(it.kind≠2/\it.mark≠0):=by
     by_cases h2:it.kind=2
     ·exact .inl h2
     ·refine .inr ⟨h2,?_⟩
      simpa [Lx.hlp,h2]using hh
    clear hh hok1;have HFX:Hid (Lx.fixP H it.place<H.length):=hfx;have hfi:=fun {k:Nat} (hk:k<H.length)=>Lx.fixP_iff h8 hk hfx
    clear hfx;generalize Lx.fixP H it.place=fx at HFX HSY hfi;rcases hcase with hk2 | ⟨hk2,hm2⟩
    have hkb:((it.kind:Int) == 2)=true:=by simp[hk2]
    have hkn:((it.kind:Int) != 2)=false:=by simp[hk2]
    have HK:Hid (it.kind=2):=hk2;clear hk2
    rotate_left
    have hkb:((it.kind:Int) == 2)=false:=beq_eq_false_iff_ne.2 (by omega);have hkn:((it.kind:Int) != 2)=true:=bne_iff_ne.2 (by omega);have hkd:¬ (it.kind:Int)=2:=by omega
    have hmd:¬ (it.mark:Int)=0:=by omega
    have hmn:((it.mark:Int) != 0)=true:=bne_iff_ne.2 (by omega);have hmb:((it.mark:Int) == 0)=false:=beq_eq_false_iff_ne.2 (by omega);have HK:Hid (it.kind≠2):=hk2;have HM:Hid (it.mark≠0):=hm2;clear hk2 hm2
    all_goals
     go_wp2_with fail;rw[<-hW1];clear hW1
     go_loopg [8,9] H.length (fun k s i wr=>∃ (m sv:Nat),m+k=H.length/\i=.int .i64 m/\s=.int .i64 sv/\Below W1.heap.size W1 wr/\Hid (sv=if fx<m then b+1+fx else 0))
     case atStart=>exact⟨0,0,by omega,rfl,rfl,Below.refl _ _,rfl⟩
     case round =>
      obtain⟨m,sv,hkm,rfl,rfl,hbr,HS⟩:=hrel;have hszr:=hbr.size;have hbrw:Below w.heap.size w wr:=hb1w.trans (hbr.mono (by omega));have kxr:Blk wr wz.heap.size _ 148:=(hbr.block _ (by omega)).trans kx;have hx0:wr.cell? ⟨wz.heap.size,0,none⟩=some (.int .i64 (it.kind:Int)):=kxr.cell 0;have hx2:wr.cell? ⟨wz.heap.size,2,none⟩=some (.int .u8 (it.mark:Int)):=kxr.cell 2;have hx4:wr.cell? ⟨wz.heap.size,4,none⟩=some (.int .i64 (it.place:Int)):=kxr.cell 4;have kmr:Blk wr mb _ 135:=(hbrw.block _ lmb).trans h1;have hm5:wr.cell? ⟨mb,5,none⟩=some (.slice ha H.length hc):=kmr.cell 5;have hm6:wr.cell? ⟨mb,6,none⟩=some vL:=kmr.cell 6
      by_cases hltm:m<H.length
      ·obtain⟨gH,capH,vaH,hvH,hAH,hcH⟩:=(h4.move (w':=wr) (fun b hF=>hbrw.block b (hl b hF)) (fun g hg=>hbrw.block g (h4.blk g hg))).at hltm
       cases hvH;have hp4:wr.cell? ⟨gH,m*5+4,none⟩=some (.int .i64 (H[m].place:Int)):=hcH 4 (by decide);have hi2:=hfi hltm;clear hcH hAH;generalize H[m].place=pl at hp4 hi2
       by_cases hpe:pl=it.place
       ·have hpb:((pl:Int) == (it.place:Int))=true:=by simp[hpe]
        have hmf:=hi2.1 hpe;have HS2:Hid (b+1+m=if fx<m+1 then b+1+fx else 0):=by
         show _=_;rw[if_pos (by omega),hmf]
        have hL6:IR 0 wr vL (Lx.lsOf b H.length):=own_move h5 fun g hg=>hbrw.block g (h5.lt g hg).2
        obtain⟨gL,capL,hvL,lL,hcL⟩:=hL6.at (j:=m) (by rw[Lx.lsOf_len];exact hltm);rw[hvL]at hm6;rw[Lx.lsOf_len]at hm6;have hcL2:wr.cell? ⟨gL,m,none⟩=some (.int .i64 ((b+1+m:Nat):Int)):=by
         rw[hcL];have:=Lx.lsOf_get (b:=b) hltm;rw[List.getElem?_eq_getElem (by rw[Lx.lsOf_len];exact hltm)]at this;rw[Option.some.inj this]
        generalize b+1+m=nv at HS2 hcL2;clear hpe hmf hi2 HS hcL;go_wp2_with fail
        go_quiet (fail)
        have hb6:Below W1.heap.size W1 (wr.drewN nq):=hbr.trans ⟨rfl,rfl,rfl,Nat.le_refl _,fun _ _=>rfl⟩;go_wp2_with fail;go_roundg (H.length - (m+1))
        case measure=>omega
        case rel=>exact⟨m+1,nv,by omega,by go_num,rfl,hb6,HS2⟩
       ·have hpb:((pl:Int) == (it.place:Int))=false:=beq_eq_false_iff_ne.2 (by omega)
        have hmf:¬ m=fx:=fun e=>hpe (hi2.2 e)
        have HS2:Hid (sv=if fx<m+1 then b+1+fx else 0):=by
         have:=HS.out;show _=_;rw[this]
         by_cases h':fx<m
         ·rw[if_pos h',if_pos (by omega)]
         ·rw[if_neg h',if_neg (by omega)]
        clear hpe hmf hi2 HS;go_wp2_with fail
        go_quiet (fail)
        have hb6:Below W1.heap.size W1 (wr.drewN nq):=hbr.trans ⟨rfl,rfl,rfl,Nat.le_refl _,fun _ _=>rfl⟩;go_wp2_with fail;go_roundg (H.length - (m+1))
        case measure=>omega
        case rel=>exact⟨m+1,sv,by omega,by go_num,rfl,hb6,HS2⟩
      ·have:m=H.length:=by omega
       subst this;have hsv:Lx.symOf T N b H it=sv:=by rw[HSY.out,HS.out,if_pos HFX.out]
       have HSY2:Hid (Lx.symOf T N b H it=sv):=hsv;clear hsv HSY;have HSY:=HSY2;have hbz2:Below wz.heap.size wz wr:=hb1.trans (hbr.mono (by omega));clear hx0 hx2 hx4 hm6;have own4:wr.ownsRow W.heap.size 3 1 (.slice oa acc.length oc) acc.length (intsV acc):=own_move ho fun g hg=>hbz2.block g (ho.lt g hg).2
       have hsr2:=hbz2.size
       go_wp2_with (at_builtin;go_loud (refine wpList_append_own_at _ rfl _ _ 24 rfl W.heap.size 3 i0 _ 1 8 Tryz.underlying24 hii hz0 hz1 hz2 rfl (by decide) (.slice oa acc.length oc) _ _ rfl (own4.alloc _) ⟨_,0,none⟩ 1 1 [.int .i64 (sv:Int)] rfl rfl (news_of (Blk.new _ _ 3)) (by simp[Value.oneCell']) (by unfold maxLen;omega) (by omega) (by simp;omega) ?_;intro v5 w5 hown5 hgrow5 _ _;obtain⟨oa5,oc5,hv5,-⟩:=own_len hown5;subst hv5))
       have hb5:Below W.heap.size W w5:=((hbz.trans (hbz2.mono hsz)).alloc (by omega) _).grown hgrow5 (by simp;omega) (fun k hk=>(ho.lt k hk).1);have ho5:IR W.heap.size w5 (.slice oa5 (acc.length+1) oc5) (acc++[Lx.symOf T N b H it]):=by
        unfold IR;rw[intsV_app,List.length_append,HSY.out];exact hown5
       have HAC5:Hid (acc++[Lx.symOf T N b H it]=(its.take (j+1)).map (Lx.symOf T N b H)):=HTK.out.symm;go_roundg (its.length - (j+1))
       case measure=>omega
       case rel=>exact⟨j+1,_,by omega,by go_num,ho5,hb5,HAC5⟩
   ·have hp1:Lx.Plain1 T N it:=by unfold Lx.SymOk at hok1;rw[if_neg hh]at hok1;exact hok1
    have HSY:Hid (Lx.symOf T N b H it=Lx.psym T N it):=if_neg hh;have hk2:it.kind≠2/\it.mark=0:=by simpa [Lx.hlp]using hh
    have hkb:((it.kind:Int) == 2)=false:=beq_eq_false_iff_ne.2 (by omega);have hkn:((it.kind:Int) != 2)=true:=bne_iff_ne.2 (by omega);have hkd:¬ (it.kind:Int)=2:=by omega
    have hmn:((it.mark:Int) != 0)=false:=by simp[hk2.2]
    have hmb:((it.mark:Int) == 0)=true:=by simp[hk2.2]
    have HK:Hid (it.kind≠2/\it.mark=0):=hk2;clear hk2 hh hok1;go_wp2_with fail;rw[<-hW1];clear hW1;refine (plainly_any (h.below hb1w) it sa it.alts.length sc hp1).mono ?_;rintro e w2 ⟨rfl,hb2⟩;generalize Lx.psym T N it=sv at HSY;go_wp2_with fail
    go_loopg [8,9] H.length (fun k s i wr=>∃ (m:Nat),m+k=H.length/\i=.int .i64 m/\s=.int .i64 (sv:Int)/\Below w2.heap.size w2 wr)
    case atStart=>exact⟨0,by omega,rfl,rfl,Below.refl _ _⟩
    case round =>
     obtain⟨m,hkm,rfl,rfl,hbr2⟩:=hrel;have hbr:Below W1.heap.size W1 wr:=hb2.trans (hbr2.mono hb2.size);have hszr:=hbr.size;have hbrw:Below w.heap.size w wr:=hb1w.trans (hbr.mono (by omega));have kxr:Blk wr wz.heap.size _ 148:=(hbr.block _ (by omega)).trans kx;have hx0:wr.cell? ⟨wz.heap.size,0,none⟩=some (.int .i64 (it.kind:Int)):=kxr.cell 0;have hx2:wr.cell? ⟨wz.heap.size,2,none⟩=some (.int .u8 (it.mark:Int)):=kxr.cell 2;have hx4:wr.cell? ⟨wz.heap.size,4,none⟩=some (.int .i64 (it.place:Int)):=kxr.cell 4;have kmr:Blk wr mb _ 135:=(hbrw.block _ lmb).trans h1;have hm5:wr.cell? ⟨mb,5,none⟩=some (.slice ha H.length hc):=kmr.cell 5;have hm6:wr.cell? ⟨mb,6,none⟩=some vL:=kmr.cell 6
     by_cases hltm:m<H.length
     ·go_wp2_with fail
      go_quiet (fail)
      have hb6:Below w2.heap.size w2 (wr.drewN nq):=hbr2.trans ⟨rfl,rfl,rfl,Nat.le_refl _,fun _ _=>rfl⟩;go_wp2_with fail;go_roundg (H.length - (m+1))
      case measure=>omega
      case rel=>exact⟨m+1,by omega,by go_num,rfl,hb6⟩
     ·have hbz2:Below wz.heap.size wz wr:=hb1.trans (hbr.mono (by omega))
      clear hx0 hx2 hx4 hm6;have own4:wr.ownsRow W.heap.size 3 1 (.slice oa acc.length oc) acc.length (intsV acc):=own_move ho fun g hg=>hbz2.block g (ho.lt g hg).2
      have hsr2:=hbz2.size
      go_wp2_with (at_builtin;go_loud (refine wpList_append_own_at _ rfl _ _ 24 rfl W.heap.size 3 i0 _ 1 8 Tryz.underlying24 hii hz0 hz1 hz2 rfl (by decide) (.slice oa acc.length oc) _ _ rfl (own4.alloc _) ⟨_,0,none⟩ 1 1 [.int .i64 (sv:Int)] rfl rfl (news_of (Blk.new _ _ 3)) (by simp[Value.oneCell']) (by unfold maxLen;omega) (by omega) (by simp;omega) ?_;intro v5 w5 hown5 hgrow5 _ _;obtain⟨oa5,oc5,hv5,-⟩:=own_len hown5;subst hv5))
      have hb5:Below W.heap.size W w5:=((hbz.trans (hbz2.mono hsz)).alloc (by omega) _).grown hgrow5 (by simp;omega) (fun k hk=>(ho.lt k hk).1);have ho5:IR W.heap.size w5 (.slice oa5 (acc.length+1) oc5) (acc++[Lx.symOf T N b H it]):=by
       unfold IR;rw[intsV_app,List.length_append,HSY.out];exact hown5
      have HAC5:Hid (acc++[Lx.symOf T N b H it]=(its.take (j+1)).map (Lx.symOf T N b H)):=HTK.out.symm;go_roundg (its.length - (j+1))
      case measure=>omega
      case rel=>exact⟨j+1,_,by omega,by go_num,ho5,hb5,HAC5⟩
  ·have:j=its.length:=by omega
   subst this;go_wp2_with fail;go_ret;refine⟨_,rfl,?_,hbw⟩;have h9:IR w.heap.size wz (.slice oa acc.length oc) acc:=own_le ho (by omega);have e9:acc=Lx.rightOf T N b H its:=by have:=HAC.out;rw[List.take_length]at this;exact this
   rw[e9]at h9 ⊢;exact h9
end
section
open Go Go.RowKit
namespace Lx
theorem addTok_sub (l:List ByteArray)(b:ByteArray):(∀ c∈l,c∈addTok l b)/\b∈addTok l b:=by
 unfold addTok
 split
 ·rename_i h;exact⟨fun _ h=>h,fnd_mem.1 h⟩
 ·exact⟨fun c h=>List.mem_append.2 (.inl h),List.mem_append.2 (.inr List.mem_cons_self)⟩
theorem addToks_sub:∀ (bs l:List ByteArray),(∀ c∈l,c∈addToks l bs)/\∀ b∈bs,b∈addToks l bs
 | [],l=>⟨fun _ h=>h,fun _ h=>by cases h⟩
 | b::bs,l=>by
  have h1:=addTok_sub l b;have h2:=addToks_sub bs (addTok l b);refine⟨fun c hc=>h2.1 c (h1.1 c hc),fun c hc=>?_⟩;rcases List.mem_cons.1 hc with rfl | hc
  ·exact h2.1 _ h1.2
  ·exact h2.2 c hc
theorem tokG_lv {g:Gr}{b:ByteArray}(h:b∈levelToks g):0<=fnd (tokG g) b:=fnd_mem.2 ((addToks_sub _ _).2 b (List.mem_append.2 (.inl h)))
theorem tokG_it {g:Gr}{r:Rl}(hr:r∈g.rules){x:It}(hx:x∈itsA 9 r.alts)(hk:x.kind=1):0<=fnd (tokG g) x.name:=by
 refine fnd_mem.2 ((addToks_sub _ _).2 _ (List.mem_append.2 (.inr (List.mem_flatMap.2 ⟨r,hr,?_⟩))));exact List.mem_map.2 ⟨x,List.mem_filter.2 ⟨hx,by simp[hk]⟩,rfl⟩
theorem namG_rule {g:Gr}{b:ByteArray}(h:b∈ruleNames g):0<=fnd (namG g) b:=by
 obtain⟨r,hr,rfl⟩:=List.mem_map.1 h;exact fnd_mem.2 (List.mem_cons_of_mem _ (List.mem_flatMap.2 ⟨r,hr,List.mem_cons_self⟩))
theorem unk_items_ok {g:Gr} {d:Nat}:∀ {its:List It} {r:List Wd},unk g (its.flatMap (flatI d)++r)=none->(∀ x∈its,(x.kind=0->0<=fnd (ruleNames g) x.name)/\unk g (flatA d x.alts)=none)/\unk g r=none
 | [],r,h=>⟨fun _ h=>(by cases h),h⟩
 | x::its,r,h=>by
  rw[List.flatMap_cons,List.append_assoc]at h;obtain⟨h1,h2,h3⟩:=unk_item_ok h;obtain⟨h4,h5⟩:=unk_items_ok h3;refine⟨fun y hy=>?_,h5⟩;rcases List.mem_cons.1 hy with rfl | hy
  ·exact⟨h1,h2⟩
  ·exact h4 y hy
theorem unk_alts_ok {g:Gr} {d:Nat}:∀ {l:List Alt},unk g (l.flatMap (flatOne d))=none->∀ a∈l,(∀ x∈a.1,(x.kind=0->0<=fnd (ruleNames g) x.name)/\unk g (flatA d x.alts)=none)/\(a.2.1≠noText->lvls g a.2.1=true)
 | [],h,a,ha=>by cases ha
 | b::l,h,a,ha=>by
  rw[List.flatMap_cons,flatOne_eq,List.append_assoc]at h;obtain⟨h1,h2⟩:=unk_items_ok h;have h3:=unk_prec_ok h2;rcases List.mem_cons.1 ha with rfl | ha
  ·refine⟨h1,fun hn=>?_⟩
   cases hq:lvls g a.2.1 with
   | true=>rfl
   | false=>rw[unk_prec_no hn hq]at h2;cases h2
  ·exact unk_alts_ok h3 a ha
theorem unk_its:∀ {d:Nat} {g:Gr} {l:List Alt},unk g (flatA d l)=none->∀ {x:It},x∈itsA d l->x.kind=0->0<=fnd (ruleNames g) x.name
 | 0,g,l,h,x,hx,hk=>by cases hx
 | d+1,g,l,h,x,hx,hk=>by
  obtain⟨a,ha,z,hz,hx⟩:=mem_itsA.1 hx;rw[flatA_succ]at h;obtain⟨h1,h2⟩:=(unk_alts_ok h a ha).1 z hz;rcases hx with rfl | hx
  ·exact h1 hk
  ·exact unk_its h2 hx hk
structure Fit (g:Gr):Prop where
 lv:∀ l∈g.levels,LvOk l
 rl:∀ r∈g.rules,RlOk r
 ne:0<g.rules.length
 dp:∀ r∈g.rules,Dp 9 r.alts
 sz:sizeV g.levels+sizeG g.rules<=2001
 ris:((itsG g.rules).map It.place).Pairwise (·< ·)
 unk:unkG g=none
 dup:dupG g=none
theorem Fit.unkr {g:Gr}(h:Fit g){r:Rl}(hr:r∈g.rules):Lx.unk g (flatA 9 r.alts)=none:=unkG_all h.unk r hr
theorem Fit.plain {g:Gr}(h:Fit g){r:Rl}(hr:r∈g.rules){x:It}(hx:x∈itsA 9 r.alts)(hk:x.kind≠2):Plain1 (tokG g) (namG g) x:=by
 unfold Plain1
 split
 ·rename_i h1;exact tokG_it hr hx h1
 ·rename_i h1
  rcases (h.rl r hr).2.1 x hx with h2 | h2 | h2
  ·exact namG_rule (fnd_mem.1 (unk_its (h.unkr hr) hx h2.1))
  ·exact absurd h2.1 h1
  ·exact absurd h2 hk
theorem fixP_lt {H:List It}{x:It}(h:x∈H):fixP H x.place<H.length:=List.findIdx_lt_length_of_exists ⟨x,h,by simp⟩
theorem Fit.sym {g:Gr}(h:Fit g){r:Rl}(hr:r∈g.rules){x:It}(hx:x∈itsA 9 r.alts):SymOk (tokG g) (namG g) (hlpA 9 r.alts) x:=by
 unfold SymOk
 split
 ·rename_i hh;exact fixP_lt (List.mem_filter.2 ⟨hx,hh⟩)
 ·rename_i hh
  refine h.plain hr hx fun hk=>hh ?_
  simp[hlp,hk]
theorem Fit.prec {g:Gr}(h:Fit g){r:Rl}(hr:r∈g.rules){a:Alt}(ha:a∈r.alts)(hn:a.2.1≠noText):0<=fnd (tokG g) a.2.1:=by
 have h1:=(unk_alts_ok (d:=8) (h.unkr hr) a ha).2 hn;rw[lvls_mem]at h1;exact tokG_lv (memB_iff.1 h1)
theorem Fit.size {g:Gr}(h:Fit g){r:Rl}(hr:r∈g.rules):1+sizeA 9 r.alts<=2001:=by
 have h1:1+sizeA 9 r.alts<=sizeG g.rules:=sum_mem (fun r:Rl=>1+sizeA 9 r.alts) hr;have:=h.sz;omega
theorem Fit.rise {g:Gr}(h:Fit g){r:Rl}(hr:r∈g.rules):((hlpA 9 r.alts).map It.place).Pairwise (·< ·):=by
 refine h.ris.sublist (List.Sublist.map _ ?_);refine List.Sublist.trans List.filter_sublist ?_;unfold itsG;obtain⟨s,t,e⟩:=List.append_of_mem hr;rw[e,List.flatMap_append,List.flatMap_cons];exact List.Sublist.trans (List.sublist_append_left _ _) (List.sublist_append_right _ _)
theorem Fit.rules {g:Gr}(h:Fit g):g.rules.length<=2001:=by
 have h1:g.rules.length<=sizeG g.rules:=len_sum (fun r:Rl=>1+sizeA 9 r.alts) fun _ _=>by omega
 have:=h.sz;omega
theorem lvToks_len (g:Gr):(levelToks g).length<=sizeV g.levels:=by
 unfold levelToks textsOf levelWords sizeV;rw[List.length_map,List.length_flatMap]
 induction g.levels with
 | nil=>exact Nat.le_refl _
 | cons l ls ih=>simp only[List.map_cons,List.sum_cons,List.length_map]at ih ⊢;omega
theorem toks_len (rs:List Rl):(rs.flatMap fun r=>toksA 9 r.alts).length<=sizeG rs:=by
 unfold sizeG;rw[List.length_flatMap]
 induction rs with
 | nil=>exact Nat.le_refl _
 | cons r rs ih =>
  have:=toksA_len 9 r.alts;simp only[List.map_cons,List.sum_cons]at ih ⊢;omega
theorem namesR_len (r:Rl):(namesR r).length=1+(hlpA 9 r.alts).length:=by simp[namesR];omega
theorem names_len (rs:List Rl):(rs.flatMap namesR).length<=sizeG rs:=by
 unfold sizeG;rw[List.length_flatMap]
 induction rs with
 | nil=>exact Nat.le_refl _
 | cons r rs ih =>
  have:=hlpA_len 9 r.alts;have:=namesR_len r;simp only[List.map_cons,List.sum_cons]at ih ⊢;omega
theorem Fit.tokL {g:Gr}(h:Fit g):(tokG g).length<=2002:=by
 have h1:=addToks_len (levelToks g++g.rules.flatMap fun r=>toksA 9 r.alts) [tDollar];have h2:=lvToks_len g;have h3:=toks_len g.rules;have:=h.sz;rw[List.length_append]at h1;unfold tokG;simp only[List.length_cons,List.length_nil]at h1;omega
theorem Fit.namL {g:Gr}(h:Fit g):(namG g).length<=2002:=by
 have h3:=names_len g.rules;have:=h.sz;unfold namG;rw[List.length_cons];omega
theorem partsOf_len {T N:List ByteArray}{b:Nat}{H:List It}{x:It}{n:Nat}(h:x.alts.length<=n)(hn:1<=n):(partsOf T N b H x).length<=n:=by
 unfold partsOf;split
 ·rw[List.length_map];exact h
 ·exact hn
theorem helpPd_len (n s m:Nat)(ps:List (List Nat)):(helpPd n s m ps).length<=1+2*ps.length:=by
 unfold helpPd;rw[List.length_append,List.length_append]
 split <;> split <;> split <;> simp <;> omega
theorem helpsPd_len {T N:List ByteArray} {b:Nat} {H:List It} {n:Nat} (hn:1<=n):∀ (l:List It) (k:Nat),(∀ x∈l,x.alts.length<=n)->(helpsPd T N b H k l).length<=l.length*(1+2*n)
 | [],_,_=>Nat.zero_le _
 | x::l,k,h=>by
  rw[helpsPd,List.length_append,List.length_cons,Nat.succ_mul];have h1:=helpPd_len T.length (b+1+k) x.mark (partsOf T N b H x);have h2:=partsOf_len (T:=T) (N:=N) (b:=b) (H:=H) (h x List.mem_cons_self) hn;have h3:=helpsPd_len (T:=T) (N:=N) (b:=b) (H:=H) hn l (k+1) fun y hy=>h y (List.mem_cons_of_mem _ hy)
  omega
theorem Fit.its {g:Gr}(h:Fit g){r:Rl}(hr:r∈g.rules){x:It}(hx:x∈itsA 9 r.alts):x.alts.length<=2001/\∀ a∈x.alts,a.1.length<=2001:=by
 have h1:=its_size (h.dp r hr) hx;have h2:=h.size hr;exact⟨by omega,fun a ha=>by have:=h1.2 a ha;omega⟩
theorem Fit.alts {g:Gr}(h:Fit g){r:Rl}(hr:r∈g.rules):r.alts.length<=2001/\∀ a∈r.alts,a.1.length<=2001:=by
 have h1:=alts_size (h.dp r hr);have h2:=h.size hr;exact⟨by omega,fun a ha=>by have:=h1.2 a ha;omega⟩
theorem Fit.hlpL {g:Gr}(h:Fit g){r:Rl}(hr:r∈g.rules):(hlpA 9 r.alts).length<=2001:=by
 have h1:=hlpA_len 9 r.alts;have h2:=h.size hr;omega
theorem Fit.ruleL {g:Gr}(h:Fit g){r:Rl}(hr:r∈g.rules)(T N:List ByteArray)(b:Nat):(rulePd T N b r).length<=10000000:=by
 unfold rulePd;rw[List.length_append,List.length_map];have h1:=helpsPd_len (T:=T) (N:=N) (b:=b) (H:=hlpA 9 r.alts) (n:=2001) (by omega) (hlpA 9 r.alts) 0 fun x hx=>(h.its hr (List.mem_filter.1 hx).1).1
 have h2:=(h.alts hr).1;have h3:=h.hlpL hr;have h4:(hlpA 9 r.alts).length*(1+2*2001)<=2001*(1+2*2001):=Nat.mul_le_mul_right _ h3;omega
end Lx
end
end Go.Proofs.YtlcppnabbicmoaaGreatDoor

import Derived.Test.YtlcppnabbicmoaaGreatDoorME03
import Derived.Deep.RegionLaw
import Derived.RegionTactic
import Derived.Lib.Builder
import Derived.Lib.AppendStr
import Derived.Lib.UnsafeStr
import Derived.Laws.Externs
set_option maxHeartbeats 8000000
set_option maxRecDepth 1000000
namespace Go.Proofs.YtlcppnabbicmoaaGreatDoor
section
open Go.RowKit
open Lx (Tk)
open Tr
theorem Tryz.info187:(Tryz.prog.info? 187).map (fun i=>(i.zero,i.size,i.bytes))=some (some (.agg #[.int .i64 0,.string ⟨#[]⟩,.int .u8 0,.slice none 0 0]),4,56):=by kernel_rfl
theorem Tryz.info194:(Tryz.prog.info? 194).map (fun i=>(i.zero,i.size,i.bytes))=some (some (.agg #[.slice none 0 0,.string ⟨#[]⟩]),2,40):=by kernel_rfl
theorem grown_drew (w:World)(r:Option Nat):w.grownBy w.drew r:=⟨rfl,rfl,rfl,Nat.le_refl _,fun _ _ _=>rfl⟩
theorem Rd.drew {sb cap:Nat}{L:List Tk}{p:Nat}{w:World}{ts:List Tk}{o:Int}(h:Rd sb cap L p w ts o):Rd sb cap L p w.drew ts o :=
 h.grown (grown_drew w none) (by simp) (by simp)
theorem Blk.drew {w:World}{b:Nat}{cs:Array Value}{e:Nat}(h:Blk w b cs e):Blk w.drew b cs e:=h
theorem step_call {P:Program} {ops:Array Oper} {o:Oper} {a:Act} {w:World} {K:Act->World->Prop} {Q:Exit->Act->World->Prop} {E:Prop} (hgd:o.guard=none) (f:FuncId) (args:Array Value)
  (hrun:(execOp a.eval o).run P w=.ok (.enter f args) w) {R:Ending->World->Prop} (hc:Calls P f args w R) (h:∀ e w',R e w'->∃ v,e=.returned v/\K (a.put o.dst v) w') :
  if Region.wanted o (yielded ops a.tmps)=true then Oper.wp P o a w K Q else E:=by
 have hw:Region.wanted o (yielded ops a.tmps)=true:=by simp[Region.wanted,hgd]
 rw[if_pos hw];unfold Oper.wp;rw[hrun,Oper.upon_enter];refine hc.mono ?_;intro e w' hr;obtain⟨v,rfl,hk⟩:=h e w' hr;exact hk
theorem step_panic {P:Program} {ops:Array Oper} {o:Oper} {a:Act} {w:World} {K:Act->World->Prop} {Q:Exit->Act->World->Prop} {E:Prop} (hgd:o.guard=none) (f:FuncId) (args:Array Value)
  (hrun:(execOp a.eval o).run P w=.ok (.enter f args) w) {R:Ending->World->Prop} (hc:Calls P f args w R) (h:∀ e w',R e w'->∃ c,e=.panicked c/\Q (.panic c) a w') :
  if Region.wanted o (yielded ops a.tmps)=true then Oper.wp P o a w K Q else E:=by
 have hw:Region.wanted o (yielded ops a.tmps)=true:=by simp[Region.wanted,hgd]
 rw[if_pos hw];unfold Oper.wp;rw[hrun,Oper.upon_enter];refine hc.mono ?_;intro e w' hr;obtain⟨v,rfl,hk⟩:=h e w' hr;exact hk
theorem news_of {w:World}{g:Nat}{cs:Array Value}{e:Nat}(h:Blk w g cs e):∀ (j:Nat) (u:Value),cs.toList[j]?=some u->w.cell? ((⟨g,0,none⟩:Addr).add j)=some u:=by
 intro j u hu;have hadd:(⟨g,0,none⟩:Addr).add j=⟨g,j,none⟩:=by unfold Addr.add;split <;> simp_all
 rw[hadd,h.cell];simpa using hu
theorem grown_append {w u u2 u3:World}{r s:Option Nat}(h:w.grownBy u s)(h2:u.grownBy u2 none)(h3:u2.grownBy u3 r)(hr:∀ k,r=some k->w.heap.size<=k):w.grownBy u3 s :=
 ⟨h3.os.trans (h2.os.trans h.os),h3.tape.trans (h2.tape.trans h.tape),h3.output.trans (h2.output.trans h.output),Nat.le_trans h.size (Nat.le_trans h2.size h3.size),fun k hk hn =>
  (h3.block k (Nat.lt_of_lt_of_le hk (Nat.le_trans h.size h2.size)) (fun e=>by have:=hr k e.symm;omega)).trans ((h2.block k (Nat.lt_of_lt_of_le hk h.size) (by simp)).trans (h.block k hk hn))⟩
abbrev KA (d:Nat):(Nat->Prop)->World->Value->Lx.It->Prop:=fun F w va it=>AltsInS YP d F w va it.alts
theorem alt_all {d:Nat}(HI:ItemSaid d):AltSaid d:=by
 intro sb cap L p w ts o ho h;obtain⟨i0,hi,hz0,hz1,hz2⟩:=info_parts Tryz.info187;have hp:=h.lt;have hs:=h.lts;have HO:Hid (o=8 - (d:Int)):=ho;have hlb:=h.lb;have hlen:=h.len;clear ho;have h2:=(h.alloc (.cells #[.slice none 0 0,.string ⟨#[]⟩] 194)).alloc (.cells #[.slice none 0 0,.string ⟨#[]⟩] 194);have kB:=(Blk.new w #[.slice none 0 0,.string ⟨#[]⟩] 194).alloc (.cells #[.slice none 0 0,.string ⟨#[]⟩] 194);have kC:=Blk.new (w.alloc (.cells #[.slice none 0 0,.string ⟨#[]⟩] 194)) #[.slice none 0 0,.string ⟨#[]⟩] 194;have G0:=grown_trans (grown_alloc w (.cells #[.slice none 0 0,.string ⟨#[]⟩] 194) (some p)) (grown_alloc _ (.cells #[.slice none 0 0,.string ⟨#[]⟩] 194) (some p));rw[show (w.alloc (.cells #[.slice none 0 0,.string ⟨#[]⟩] 194)).heap.size=w.heap.size+1 by simp]at kC;go_enter Tryz.func145,Tryz.ntmps145;go_wp2_with fail
 go_loopg [] ts.length (fun k wr=>∃ (tsr:List Tk) (acc:List Lx.It) (v:Value) (f:Nat),tsr.length=k/\tsr.length<=f/\acc.length+tsr.length<=ts.length/\w.heap.size+2<=wr.heap.size/\Rd sb cap L p wr tsr o/\Blk wr (w.heap.size+1) #[v,.string ⟨#[]⟩] 194/\Blk wr w.heap.size #[.slice none 0 0,.string ⟨#[]⟩] 194 /\
   GrowS (w.heap.size+2) wr 187 4 YP.cI (KA d) v acc/\w.grownBy wr (some p)/\Hid (Lx.pItems (Lx.pGroupAt d) f tsr acc=Lx.pItems (Lx.pGroupAt d) ts.length ts []))
 case atStart=>exact⟨ts,[],_,ts.length,rfl,Nat.le_refl _,by simp,by simp,h2,kC,kB,GrowS.nil _ _ _ _ _ _,G0,rfl⟩
 case round =>
  obtain⟨tsr,acc,v,f,hk,hf,hacc,hsz,hr,kC1,kB1,hgrow,hg,hpi⟩:=hrel;clear h2 kB kC G0;cases hsee:Lx.seesItem tsr
  ·have HS:Hid _:=hsee
   clear hsee;have hpi0:Lx.pItems (Lx.pGroupAt d) ts.length ts []=.ok (acc,tsr):=by
    rw[<-hpi.out];have hne:=hr.wf.ne;obtain⟨f',rfl⟩:∃ f',f=f'+1:=⟨f-1,by omega⟩;simp only[Lx.pItems];rw[if_neg (by rw[HS.out];simp)]
   have HPA:Hid (Lx.pAlt (Lx.pGroupAt d) (d == 8) ts=Lx.pPrec (d == 8) acc tsr):=by
    show _=_;unfold Lx.pAlt;rw[hpi0]
   clear hpi0 hpi;have hop:=hr.op;have hseq:=hgrow.seq;obtain⟨va,vk,vc,rfl⟩:=SeqS.form hseq;have c0:wr.cell? ⟨w.heap.size+1,0,none⟩=some (.slice va vk vc):=kC1.cell 0;have c1:wr.cell? ⟨w.heap.size+1,1,none⟩=some (.string ⟨#[]⟩):=kC1.cell 1;have b0:wr.cell? ⟨w.heap.size,0,none⟩=some (.slice none 0 0):=kB1.cell 0;have b1:wr.cell? ⟨w.heap.size,1,none⟩=some (.string ⟨#[]⟩):=kB1.cell 1;have fB:∀ i,wr.frozen? ⟨w.heap.size,i,none⟩=false:=kB1.frozen;have fC:∀ i,wr.frozen? ⟨w.heap.size+1,i,none⟩=false:=kC1.frozen
   by_cases h8:d=8
   ·have o0:(o == 0)=true:=beq_iff_eq.2 (by have:=HO.out;omega)
    by_cases hpr:Lx.hd tsr=Lx.tPrec
    ·have hnx:Lx.hd tsr≠Lx.noText:=by rw[hpr];decide
     have HPR:Hid (Lx.hd tsr=Lx.tPrec):=hpr;have H8:Hid (d=8):=h8;clear hpr h8
     go_wp2_with (first
      | (go_at_call 152;refine (seesItem_rd hr).mono ?_;rintro e w' ⟨rfl,hw⟩;obtain rfl:=hw.symm;rw[HS.out]))
     refine (passIf_yes hr Lx.tPrec (by decide) HPR.out).mono ?_;rintro e w1 ⟨rfl,hg1,hr1⟩;have kC2:=kC1.grown hg1 (by simp;omega);have kB2:=kB1.grown hg1 (by simp;omega);go_wp2_with fail;refine (token_rd hr1).mono ?_;intro e w2 he;cases hpw:Lx.pWord Lx.isToken tsr.tail with
     | error x =>
      obtain⟨n,a⟩:=x;obtain⟨rfl,hg2⟩:=he.err hpw;exact⟨rfl,Ends.no (by rw[HPA.out];unfold Lx.pPrec;rw[if_pos ⟨by simp[H8.out],HPR.out⟩,hpw]) (grown_trans (grown_trans hg hg1) hg2)⟩
     | ok x =>
      obtain⟨b,ts2⟩:=x;obtain⟨v,rfl,hg2,hr2,rfl⟩:=he.ok hpw;have HP:Hid (Lx.pAlt (Lx.pGroupAt d) (d == 8) ts=.ok ((acc,b,Lx.pl tsr.tail),ts2)):=by
       show _=_;rw[HPA.out];unfold Lx.pPrec;rw[if_pos ⟨by simp[H8.out],HPR.out⟩,hpw]
      clear hpw he;have kC3:=kC2.grown hg2 (by simp;omega);have kB3:=kB2.grown hg2 (by simp;omega);have d0:w2.cell? ⟨w.heap.size+1,0,none⟩=some (.slice va vk vc):=kC3.cell 0;have d1:w2.cell? ⟨w.heap.size+1,1,none⟩=some (.string ⟨#[]⟩):=kC3.cell 1;have e0:w2.cell? ⟨w.heap.size,0,none⟩=some (.slice none 0 0):=kB3.cell 0;have e1:w2.cell? ⟨w.heap.size,1,none⟩=some (.string ⟨#[]⟩):=kB3.cell 1;have fB2:∀ i,w2.frozen? ⟨w.heap.size,i,none⟩=false:=kB3.frozen;have fC2:∀ i,w2.frozen? ⟨w.heap.size+1,i,none⟩=false:=kC3.frozen;go_wp2_with fail;refine bodyPost_ret (v:=.agg #[.slice va vk vc,.string b]) (by simp[results,Tryz.results145,go_sem,e0,e1]) rfl ?_;refine Ends.yes HP.out (grown_new (grown_new (grown_new (grown_trans (grown_trans hg hg1) hg2) (by omega) _ _) (Nat.le_refl _) _ _) (Nat.le_refl _) _ _) (((hr2.setOther _ _ (by omega) (by omega)).setOther _ _ (by omega) (by omega)).setOther _ _ (by omega) (by omega)) ⟨_,rfl,?_⟩;refine ItemsInS.move (F:=In (w.heap.size+2) wr.heap.size) (w:=wr) (fun b hb=>?_) (fun b hb=>?_) hseq
      ·have h1:=hb.1
       have h2:=hb.2;have g1:=hg1.size;rw[Below.heap_setCell _ _ _ _ (fun e=>by have e':b=w.heap.size:=e;omega),Below.heap_setCell _ _ _ _ (fun e=>by have e':b=w.heap.size:=e;omega),Below.heap_setCell _ _ _ _ (fun e=>by have e':b=w.heap.size+1:=e;omega),hg2.block b (by omega) (by simp;omega),hg1.block b h2 (by simp;omega)]
      ·have h1:=hb.1
       have h2:=hb.2;have g1:=hg1.size;have g2:=hg2.size;exact⟨by omega,by simp[World.setCell];omega⟩
    ·have HP:Hid (Lx.pAlt (Lx.pGroupAt d) (d == 8) ts=.ok ((acc,Lx.noText,0),tsr)):=by
      show _=_;rw[HPA.out];unfold Lx.pPrec;rw[if_neg (fun hh=>hpr hh.2)]
     have HR:Hid _:=hpr;clear hpr h8 HPA
     go_wp2_with (first
      | (go_at_call 152;refine (seesItem_rd hr).mono ?_;rintro e w' ⟨rfl,hw⟩;obtain rfl:=hw.symm;rw[HS.out])
      | (go_at_call 123;refine (passIf_no hr Lx.tPrec HR.out).mono ?_;rintro e w' ⟨rfl,hw⟩;obtain rfl:=hw.symm))
     refine bodyPost_ret (v:=.agg #[.slice va vk vc,.string ⟨#[]⟩]) (by simp[results,Tryz.results145,go_sem,b0,b1]) rfl ?_;refine Ends.yes HP.out (grown_new (grown_new hg (Nat.le_refl _) _ _) (Nat.le_refl _) _ _) ((hr.setOther _ _ (by omega) (by omega)).setOther _ _ (by omega) (by omega)) ⟨_,rfl,?_⟩;refine ItemsInS.move (F:=In (w.heap.size+2) wr.heap.size) (w:=wr) (fun b hb=>?_) (fun b hb=>?_) hseq
     ·have h1:=hb.1
      rw[Below.heap_setCell _ _ _ _ (fun e=>by have e':b=w.heap.size:=e;omega),Below.heap_setCell _ _ _ _ (fun e=>by have e':b=w.heap.size:=e;omega)]
     ·have h1:=hb.1
      have h2:=hb.2;exact⟨by omega,by simpa [World.setCell]using h2⟩
   ·have o0:(o == 0)=false:=beq_eq_false_iff_ne.2 (by have:=HO.out;omega)
    have HP:Hid (Lx.pAlt (Lx.pGroupAt d) (d == 8) ts=.ok ((acc,Lx.noText,0),tsr)):=by
     show _=_;rw[HPA.out];unfold Lx.pPrec;rw[if_neg (fun hh=>h8 (by simpa using hh.1))]
    clear h8 HPA
    go_wp2_with (first
     | (go_at_call 152;refine (seesItem_rd hr).mono ?_;rintro e w' ⟨rfl,hw⟩;obtain rfl:=hw.symm;rw[HS.out]))
    refine bodyPost_ret (v:=.agg #[.slice va vk vc,.string ⟨#[]⟩]) (by simp[results,Tryz.results145,go_sem,b0,b1]) rfl ?_;refine Ends.yes HP.out (grown_new (grown_new hg (Nat.le_refl _) _ _) (Nat.le_refl _) _ _) ((hr.setOther _ _ (by omega) (by omega)).setOther _ _ (by omega) (by omega)) ⟨_,rfl,?_⟩;refine ItemsInS.move (F:=In (w.heap.size+2) wr.heap.size) (w:=wr) (fun b hb=>?_) (fun b hb=>?_) hseq
    ·have h1:=hb.1
     rw[Below.heap_setCell _ _ _ _ (fun e=>by have e':b=w.heap.size:=e;omega),Below.heap_setCell _ _ _ _ (fun e=>by have e':b=w.heap.size:=e;omega)]
    ·have h1:=hb.1
     have h2:=hb.2;exact⟨by omega,by simpa [World.setCell]using h2⟩
  ·have HS:Hid _:=hsee
   clear hsee;obtain⟨ps,F,hgb⟩:=hgrow;have hown:=hgb.2.1;obtain⟨va,vk,vc,rfl⟩:=own_form hown;have c0:wr.cell? ⟨w.heap.size+1,0,none⟩=some (.slice va vk vc):=kC1.cell 0;have f0:∀ i,wr.frozen? ⟨w.heap.size+1,i,none⟩=false:=kC1.frozen;have hrD:=hr.drew;have hgD:=grown_trans hg (grown_drew wr (some p));have hne:=hr.wf.ne;obtain⟨f',rfl⟩:∃ f',f=f'+1:=⟨f-1,by omega⟩;cases hit:Lx.pItem (Lx.pGroupAt d) tsr with
   | error x =>
    obtain⟨n,a⟩:=x;have HE:Hid (Lx.pAlt (Lx.pGroupAt d) (d == 8) ts=.error (n,a)):=by
     show _=_;unfold Lx.pAlt;rw[<-hpi.out];simp only[Lx.pItems];rw[if_pos HS.out,hit]
    have HIT:Hid _:=hit;clear hit hpi
    go_wp2_with (first
     | (go_at_call 152;refine (seesItem_rd hr).mono ?_;rintro e w' ⟨rfl,hw⟩;obtain rfl:=hw.symm;rw[HS.out]))
    refine wp_region_any (by kernel_rfl) ?_;refine wpAny_take (i:=0) (v:=.pointer (some ⟨w.heap.size+1,0,none⟩)) rfl (by kernel_rfl) (by kernel_rfl) (by kernel_rfl) (fun _ _ _ h=>h) (Or.inl ⟨by rfl,fun w=>by go_simp⟩) ?_;refine wpAny_take (i:=2) (v:=.pointer (some ⟨p,0,none⟩)) rfl (by kernel_rfl) (by kernel_rfl) (by kernel_rfl) (fun _ _ _ h=>h) (Or.inl ⟨by rfl,fun w=>by go_simp⟩) ?_;refine wpAny_ready (rs:=[1,3]) (by kernel_rfl) (by simp) ?_;refine AllReady.cons rfl (fun K hK=>?_) (AllReady.cons rfl (fun K hK=>?_) AllReady.nil)
    ·change if _ then Oper.wp _ _ _ wr.drew _ _ else _
     go_simp
     refine hK _ _ ?_;clear hK K;refine wpAny_ready (rs:=[3]) (by kernel_rfl) (by simp) ?_;refine AllReady.cons rfl (fun K hK=>?_) AllReady.nil;exact step_panic rfl 153 #[.pointer (some ⟨p,0,none⟩)] (by go_simp) (HI sb cap L p _ tsr o HO.out hrD HS.out) fun e w1 he=>by obtain⟨rfl,hg1⟩:=he.err HIT.out;exact⟨_,rfl,rfl,Ends.no HE.out (grown_trans hgD hg1)⟩
    ·change if _ then Oper.wp _ _ _ wr.drew _ _ else _
     exact step_panic rfl 153 #[.pointer (some ⟨p,0,none⟩)] (by go_simp) (HI sb cap L p _ tsr o HO.out hrD HS.out) fun e w1 he=>by obtain⟨rfl,hg1⟩:=he.err HIT.out;exact⟨_,rfl,rfl,Ends.no HE.out (grown_trans hgD hg1)⟩
   | ok x =>
    obtain⟨it,ts1⟩:=x;have hl1:=Lx.pItem_len (Lx.pGroupAt_len d) hit;have hl2:=hr.wf.tail_len;have HPI:Hid (Lx.pItems (Lx.pGroupAt d) f' ts1 (acc++[it])=Lx.pItems (Lx.pGroupAt d) ts.length ts []):=by
     show _=_;rw[<-hpi.out];simp only[Lx.pItems];rw[if_pos HS.out,hit]
    have HIT:Hid _:=hit;clear hit hpi
    go_wp2_with (first
     | (go_at_call 152;refine (seesItem_rd hr).mono ?_;rintro e w' ⟨rfl,hw⟩;obtain rfl:=hw.symm;rw[HS.out]))
    go_region_law (first
     | (refine step_append_lies _ rfl (.tmp 7) (.tmp 10) 192 rfl (w.heap.size+2) 187 i0 _ 4 56 Tryz.underlying192 hi hz0 hz1 hz2 rfl (by decide) (.slice va vk vc) acc.length (ps.flatMap YP.cI) (by simp[Act.eval]) (hown1.alloc _) ⟨w1.heap.size,0,none⟩ 1 1 (YP.cI (.slice xa xk xc,it)) (by simp[Act.eval]) rfl (news_of (Blk.new w1 _ 187)) (by simp[YP,Value.oneCell']) (by decide) (by unfold maxLen;omega) (by omega) (by have:=hg1.size;simp at this;simp;omega) _ rfl ?_;intro g cap' w3 hown3 hgrow3 hat hlt;have kC3:=(kC2.alloc _).grown hgrow3 (fun e=>by have:=(hown.lt _ e.symm).1;omega);have c03:w3.cell? ⟨w.heap.size+1,0,none⟩=some (.slice va vk vc):=kC3.cell 0;have f03:∀ i,w3.frozen? ⟨w.heap.size+1,i,none⟩=false:=kC3.frozen)
     | (refine step_call rfl 153 #[.pointer (some ⟨p,0,none⟩)] (by go_simp) (HI sb cap L p _ tsr o HO.out hrD HS.out) ?_;intro e w1 he;obtain⟨vv,rfl,hg1,hr1,hv1⟩:=he.ok HIT.out;refine⟨_,rfl,?_⟩;obtain⟨vx,rfl,hax⟩:=hv1;obtain⟨xa,xk,xc,rfl⟩:=AltsInS.form hax;have hown1:=((hgb.kept (alts_movableS YP d) (grown_drew wr none) (by simp)).kept (alts_movableS YP d) hg1 (fun k hk=>by cases hk;omega)).2.1;have kC2:=kC1.drew.grown hg1 (by simp;omega);have c02:w1.cell? ⟨w.heap.size+1,0,none⟩=some (.slice va vk vc):=kC2.cell 0;have hlt2:=kC2.lt))
    all_goals
     have G3:=GrowByS.push (alts_movableS YP d) (hgb.kept (alts_movableS YP d) (grown_drew wr none) (by simp)) (p:=p) (by omega) (by simpa using hsz) hg1 (.slice xa xk xc,it) hax (grown_alloc w1 _ none) hown3 hgrow3 hat;have kB3:=((kB1.drew.grown hg1 (by simp;omega)).alloc _).grown hgrow3 (fun e=>by have:=(hown.lt _ e.symm).1;omega);have hr3:=(hr1.alloc _).grown hgrow3 (fun e=>by have:=(hown.lt _ e.symm).1;omega) (fun e=>by have:=(hown.lt _ e.symm).1;omega);have gg3:=grown_append (grown_trans hgD hg1) (grown_alloc w1 _ none) hgrow3 (fun k hk=>by have:=(hown.lt _ hk).1;omega);have hs3:=hgrow3.size;have hs1:=hg1.size;have hsD:wr.drew.heap.size=wr.heap.size:=rfl;have hsA:(w1.alloc (.cells (YP.cI (.slice xa xk xc,it)).toArray 187)).heap.size=w1.heap.size+1:=by simp
     clear hown3 hgrow3 hat hown1 kC2 c02 c0 f0 hax;go_wp2_with fail;go_roundg ts1.length
     case measure=>omega
     case rel =>
      refine⟨ts1,acc++[it],_,f',rfl,by omega,by simp;omega,?_,hr3.setOther _ _ (by omega) (by omega),kC3.set 0 _,kB3.other (by omega) _,?_,grown_new gg3 (by omega) _ _,HPI⟩
      ·simp only[World.setCell,Array.size_modify];have:=hs3;simp at this;omega
      ·exact GrowS.kept (alts_movableS YP d) G3 (grown_set w3 (w.heap.size+1) 0 _) (fun k hk=>by cases hk;omega)
end
section
open Go.RowKit
open Tr
theorem flat_get {α:Type} (c:Value × α->List Value) (s:Nat) (hc:∀ q,(c q).length=s):∀ (ps:List (Value × α)) (j i:Nat) (q:Value × α),ps[j]?=some q->i<s->(ps.flatMap c)[j*s+i]?=(c q)[i]?
 | [],_,_,_,h,_=>by simp at h
 | p::ps,0,i,q,h,hi=>by
  simp at h;subst h;rw[List.flatMap_cons,Nat.zero_mul,Nat.zero_add,List.getElem?_append_left (by rw[hc];exact hi)]
 | p::ps,j+1,i,q,h,hi=>by
  have h':ps[j]?=some q:=by simpa using h
  rw[List.flatMap_cons,List.getElem?_append_right (by rw[hc,Nat.succ_mul];omega),hc,show (j+1)*s+i-s=j*s+i by rw[Nat.succ_mul];omega];exact flat_get c s hc ps j i q h' hi
theorem Tr.Seq.at {α:Type} {F:Nat->Prop} {w:World} {e s:Nat} {c:Value × α->List Value} {K:Value->α->Prop} {v:Value} {l:List α} (h:Tr.Seq F w e s c K v l) (hc:∀ q,(c q).length=s) {j:Nat} (hj:j<l.length) :
  ∃ g cap vk,v=.slice (some ⟨g,0,none⟩) l.length cap/\F g/\K vk l[j]/\∀ i,i<s->w.cell? ⟨g,j*s+i,none⟩=(c (vk,l[j]))[i]?:=by
 obtain⟨ps,h1,h2,h3,h4⟩:=h;obtain⟨g,cap,rfl,-,-⟩:=h2.form (by omega);have hl:ps.length=l.length:=by rw[<-h1];simp
 have hq:ps[j]?=some ps[j]:=List.getElem?_eq_getElem (by omega);have h5:(ps[j]).2=l[j]:=by
  have:(ps.map Prod.snd)[j]?=l[j]?:=by rw[h1]
  rw[List.getElem?_map,hq,List.getElem?_eq_getElem hj]at this;simpa using this
 refine⟨g,cap,(ps[j]).1,rfl,h3 g rfl,?_,?_⟩
 ·rw[<-h5];exact h4 _ (List.getElem_mem _)
 ·intro i hi
  have hlt:j*s+i<l.length*s:=by
   have:(j+1)*s<=l.length*s:=Nat.mul_le_mul_right s hj;rw[Nat.succ_mul]at this;omega
  rw[h2.cellAt (j*s+i) hlt,flat_get c s hc ps j i _ hq hi,<-h5]
theorem Tr.Seq.len {α:Type}{F:Nat->Prop}{w:World}{e s:Nat}{c:Value × α->List Value}{K:Value->α->Prop}{v:Value}{l:List α}(h:Tr.Seq F w e s c K v l):∃ a cap,v=.slice a l.length cap/\l.length<=maxLen:=by
 obtain⟨ps,h1,h2,h3,h4⟩:=h;exact own_len h2
theorem AltsIn.len {Y:Lay}{d:Nat}{F:Nat->Prop}{w:World}{v:Value}{l:List Lx.Alt}(h:AltsIn Y d F w v l):∃ a cap,v=.slice a l.length cap/\l.length<=maxLen:=by
 cases d with
 | zero=>obtain⟨rfl,rfl⟩:=h;exact⟨_,_,rfl,Nat.zero_le _⟩
 | succ d=>exact Seq.len h
end
section
open Go.RowKit
open Tr
structure DG (F:Nat->Prop) (w:World) (vL vR:Value) (g:Lx.Gr):Prop where
 lt:∀ b,F b->b<w.heap.size
 lv:Tr.Seq F w 137 3 cLv (KLv F w) vL g.levels
 rl:Tr.Seq F w 99 3 cRl (KRl F w) vR g.rules
theorem Tr.Seq.mv {α:Type}{F:Nat->Prop}{w w':World}{e s:Nat}{c:Value × α->List Value}{K:(Nat->Prop)->World->Value->α->Prop}{v:Value}{l:List α}(hm:Movable K)(h:Tr.Seq F w e s c (K F w) v l)(hs:∀ b,F b->w'.heap[b]?=w.heap[b]?):Tr.Seq F w' e s c (K F w') v l :=
 h.move hs (fun _ h=>h) fun _ _ h=>hm F F w w' _ _ hs (fun _ h=>h) h
theorem DG.move {F:Nat->Prop}{w w':World}{vL vR:Value}{g:Lx.Gr}(h:DG F w vL vR g)(hs:∀ b,F b->w'.heap[b]?=w.heap[b]?)(hl:w.heap.size<=w'.heap.size):DG F w' vL vR g :=
 ⟨fun b hb=>Nat.lt_of_lt_of_le (h.lt b hb) hl,h.lv.mv lv_movable hs,h.rl.mv (rule_movable YR 9) hs⟩
theorem DG.below {F:Nat->Prop}{w w':World}{vL vR:Value}{g:Lx.Gr}(h:DG F w vL vR g)(hb:Below w.heap.size w w'):DG F w' vL vR g :=
 h.move (fun b hF=>hb.block b (h.lt b hF)) hb.size
theorem DG.rule {F:Nat->Prop}{w:World}{vL vR:Value}{g:Lx.Gr}(h:DG F w vL vR g){j:Nat}(hj:j<g.rules.length):∃ b cap va,vR=.slice (some ⟨b,0,none⟩) g.rules.length cap/\F b/\AltsIn YR 9 F w va g.rules[j].alts/\w.cell? ⟨b,j*3,none⟩=some (.string g.rules[j].name)/\w.cell? ⟨b,j*3+1,none⟩=some va/\w.cell? ⟨b,j*3+2,none⟩=some (.int .i64 (g.rules[j].place:Int)):=by
 obtain⟨b,cap,va,h1,h2,h3,h4⟩:=Seq.at h.rl (fun _=>rfl) hj;exact⟨b,cap,va,h1,h2,h3,h4 0 (by decide),h4 1 (by decide),h4 2 (by decide)⟩
theorem DG.level {F:Nat->Prop} {w:World} {vL vR:Value} {g:Lx.Gr} (h:DG F w vL vR g) {j:Nat} (hj:j<g.levels.length):∃ b cap vT vA,vL=.slice (some ⟨b,0,none⟩) g.levels.length cap/\F b/\w.ownsRow 0 9 1 vT g.levels[j].tokens.length (g.levels[j].tokens.map fun t=>.string t.1)/\w.ownsRow 0 3 1 vA g.levels[j].tokens.length (g.levels[j].tokens.map fun t=>.int .i64 (t.2:Int))/\(∀ g,vT.ownBlock=some g->F g)/\(∀ g,vA.ownBlock=some g->F g) /\
  w.cell? ⟨b,j*3,none⟩=some (.int .i64 (g.levels[j].kind:Int))/\w.cell? ⟨b,j*3+1,none⟩=some vT/\w.cell? ⟨b,j*3+2,none⟩=some vA:=by
 obtain⟨b,cap,vk,h1,h2,⟨vT,vA,rfl,k1,k2,k3,k4⟩,h4⟩:=Seq.at h.lv (fun _=>rfl) hj;exact⟨b,cap,vT,vA,h1,h2,k1,k2,k3,k4,h4 0 (by decide),h4 1 (by decide),h4 2 (by decide)⟩
theorem DG.lenR {F:Nat->Prop}{w:World}{vL vR:Value}{g:Lx.Gr}(h:DG F w vL vR g):∃ a c,vR=.slice a g.rules.length c/\g.rules.length<=maxLen:=Seq.len h.rl
theorem DG.lenL {F:Nat->Prop}{w:World}{vL vR:Value}{g:Lx.Gr}(h:DG F w vL vR g):∃ a c,vL=.slice a g.levels.length c/\g.levels.length<=maxLen:=Seq.len h.lv
def Lx.rnames (g:Lx.Gr):List ByteArray:=g.rules.map fun r=>r.name
theorem ruleOf_any {F:Nat->Prop} {w:World} {vL vR:Value} {g:Lx.Gr} (h:DG F w vL vR g) (b:ByteArray) :
  Calls Tryz.prog 107 #[.agg #[vL,vR],.string b] w fun e w'=>e=.returned (.int .i64 (Lx.fnd (Lx.rnames g) b))/\Below w.heap.size w w':=by
 obtain⟨a,c,rfl,hm⟩:=h.lenR;obtain⟨a',c',rfl,-⟩:=h.lenL;unfold maxLen at hm;have hln:(Lx.rnames g).length=g.rules.length:=by simp[Lx.rnames]
 go_enter Tryz.func107,Tryz.ntmps107;have kb:=Blk.new w #[.slice a' g.levels.length c',.slice a g.rules.length c] 49;go_wp2_with fail
 go_loopg [5] g.rules.length (fun k i wr=>∃ j:Nat,j+k=g.rules.length/\i=.int .i64 j/\wr=w.alloc (.cells #[.slice a' g.levels.length c',.slice a g.rules.length c] 49)/\∀ i,i<j->(Lx.rnames g)[i]?≠some b)
 case atStart=>exact⟨0,by omega,rfl,rfl,fun i h=>by omega⟩
 case round =>
  obtain⟨j,hk,rfl,rfl,hno⟩:=hrel;have hb:Below w.heap.size w (w.alloc (.cells #[.slice a' g.levels.length c',.slice a g.rules.length c] 49)):=(Below.refl _ _).alloc (Nat.le_refl _) _;have c1:=kb.cell 1;have c1:(w.alloc (.cells #[.slice a' g.levels.length c',.slice a g.rules.length c] 49)).cell? ⟨w.heap.size,1,none⟩=some (.slice a g.rules.length c):=c1
  by_cases hlt:j<g.rules.length
  ·obtain⟨gb,cap,va,hv,hF,hA,d0,d1,d2⟩:=(h.below hb).rule hlt
   cases hv;have hx:(Lx.rnames g)[j]?=some g.rules[j].name:=by unfold Lx.rnames;rw[List.getElem?_map,List.getElem?_eq_getElem hlt];rfl
   generalize g.rules[j]=x at d0 d1 d2 hx
   by_cases hxb:x.name=b
   ·have hne:(x.name.toList == b.toList)=true:=by rw[text_eq];simpa using hxb
    go_wp2_with fail
    all_goals
     go_ret;exact⟨by rw[Lx.fnd_at (hxb ▸ hx) hno];rfl,hb⟩
   ·have hne:(x.name.toList == b.toList)=false:=by rw[text_eq];simpa using hxb
    go_wp2_with fail;go_roundg (g.rules.length - (j+1))
    case measure=>omega
    case rel =>
     refine⟨j+1,by omega,by go_num,rfl,fun i hi=>?_⟩;rcases Nat.lt_succ_iff_lt_or_eq.1 hi with h' | rfl
     ·exact hno i h'
     ·rw[hx];exact fun e=>hxb (Option.some.inj e)
  ·have:j=g.rules.length:=by omega
   subst this;go_wp2_with fail;go_ret;exact⟨by rw[Lx.fnd_none (by rw[hln];exact hno)];rfl,hb⟩
def Lx.lvls (g:Lx.Gr)(b:ByteArray):Bool:=g.levels.any fun lv=>decide (0<=Lx.fnd (lv.tokens.map Prod.fst) b)
theorem toks_own {w:World}{vT:Value}{l:List Lx.Tk}(h:w.ownsRow 0 9 1 vT l.length (l.map fun t=>.string t.1)):w.ownsRow 0 9 1 vT (l.map Prod.fst).length ((l.map Prod.fst).map Value.string):=by
 rw[List.map_map,List.length_map];exact h
theorem leveled_any {F:Nat->Prop} {w:World} {vL vR:Value} {g:Lx.Gr} (h:DG F w vL vR g) (b:ByteArray) :
  Calls Tryz.prog 108 #[.agg #[vL,vR],.string b] w fun e w'=>e=.returned (.bool (Lx.lvls g b))/\Below w.heap.size w w':=by
 obtain⟨a,c,rfl,-⟩:=h.lenR;obtain⟨a',c',rfl,hm⟩:=h.lenL;unfold maxLen at hm;go_enter Tryz.func108,Tryz.ntmps108;have kb:=Blk.new w #[.slice a' g.levels.length c',.slice a g.rules.length c] 49;go_wp2_with fail
 go_loopg [5] g.levels.length (fun k i wr=>∃ j:Nat,j+k=g.levels.length/\i=.int .i64 j/\Below (w.heap.size+1) (w.alloc (.cells #[.slice a' g.levels.length c',.slice a g.rules.length c] 49)) wr/\∀ i lv,i<j->g.levels[i]?=some lv->¬ 0<=Lx.fnd (lv.tokens.map Prod.fst) b)
 case atStart=>exact⟨0,by omega,rfl,Below.refl _ _,fun i _ h=>by omega⟩
 case round =>
  obtain⟨j,hk,rfl,hbl,hno⟩:=hrel;have hsz:=hbl.size;simp at hsz;have hb:Below w.heap.size w wr:=((Below.refl w.heap.size w).alloc (Nat.le_refl _) _).trans (hbl.mono (by omega));have kr:Blk wr w.heap.size _ 49:=(hbl.block _ (by omega)).trans kb;have c1:wr.cell? ⟨w.heap.size,0,none⟩=some (.slice a' g.levels.length c'):=kr.cell 0
  by_cases hlt:j<g.levels.length
  ·obtain⟨gb,cap,vT,vA,hv,hF,hT,hA,-,-,d0,d1,d2⟩:=(h.below hb).level hlt
   cases hv;have hx:g.levels[j]?=some g.levels[j]:=List.getElem?_eq_getElem hlt;generalize g.levels[j]=x at d0 d1 d2 hx hT hA;obtain⟨ta,tc,rfl,-⟩:=own_len hT;go_wp2_with fail;refine (find_any _ b _ _ (toks_own hT)).mono ?_;rintro e w2 ⟨rfl,hb2⟩;have hr:=Lx.fnd_range (x.tokens.map Prod.fst) b;have hlT:(x.tokens.map Prod.fst).length<=maxLen:=(own_len (toks_own hT)).elim fun _ h=>h.elim fun _ h=>h.2
   have hb3:=hbl.trans (hb2.mono (show w.heap.size+1<=wr.heap.size by omega));have hb4:Below w.heap.size w w2:=hb.trans (hb2.mono hb.size)
   by_cases hin:0<=Lx.fnd (x.tokens.map Prod.fst) b
   ·go_wp2_with fail
    all_goals
     go_ret;refine⟨?_,hb4⟩;have:Lx.lvls g b=true:=List.any_eq_true.2 ⟨x,List.mem_of_getElem? hx,by simpa using hin⟩;rw[this];rfl
   ·go_wp2_with fail
    go_roundg (g.levels.length - (j+1))
    case measure=>omega
    case rel =>
     refine⟨j+1,by omega,by go_num,hb3,fun i lv hi he=>?_⟩;rcases Nat.lt_succ_iff_lt_or_eq.1 hi with h' | rfl
     ·exact hno i lv h' he
     ·rw[hx]at he;cases he;exact hin
  ·go_wp2_with fail
   go_ret;refine⟨?_,hb⟩;have:Lx.lvls g b=false:=by
    refine List.any_eq_false.2 fun lv hlv=>?_
    obtain⟨i,hi,he⟩:=List.mem_iff_getElem.1 hlv;simpa using hno i lv (by omega) (by rw[List.getElem?_eq_getElem hi,he])
   rw[this];rfl
end
section
open Go Go.RowKit
namespace Lx
theorem tail_le (ts:List Tk):ts.tail.length<=ts.length:=by simp
theorem pTokens_len:∀ (f:Nat) (ts acc x ts':List Tk),pTokens f ts acc=.ok (x,ts')->ts'.length<=ts.length
 | 0,ts,acc,x,ts',h=>by simp only[pTokens,Except.ok.injEq,Prod.mk.injEq]at h;rw[h.2];exact Nat.le_refl _
 | f+1,ts,acc,x,ts',h=>by
  have h3:=tail_le ts;simp only[pTokens]at h
  split at h
  ·simp only[Except.ok.injEq,Prod.mk.injEq]at h;rw[<-h.2];exact h3
  ·cases hr:pWord isToken ts with
   | error e=>rw[hr]at h;cases h
   | ok y =>
    obtain⟨b,ts1⟩:=y;rw[hr]at h;have h1:=(pWord_len hr).1;have h2:=pTokens_len f ts1 _ x ts' h;rw[h1]at h2;omega
theorem pLevel_len {ts ts':List Tk}{x:Lv}(h:pLevel ts=.ok (x,ts')):ts'.length<=ts.tail.length:=by
 unfold pLevel at h;cases hr:pWord isToken ts.tail with
 | error e=>rw[hr]at h;cases h
 | ok y =>
  obtain⟨b,ts1⟩:=y;rw[hr]at h;have h1:=(pWord_len hr).1;cases hr2:pTokens ts1.length ts1 [(b,pl ts.tail)] with
  | error e=>simp only[hr2]at h;cases h
  | ok z =>
   obtain⟨l,ts2⟩:=z;simp only[hr2,Except.ok.injEq,Prod.mk.injEq]at h;have h2:=pTokens_len _ _ _ _ _ hr2;have h3:=tail_le ts.tail;rw[<-h.2];rw[h1]at h2;omega
theorem pRule_len {ts ts':List Tk}{x:Rl}(h:pRule ts=.ok (x,ts')):ts'.length<=ts.tail.length:=by
 unfold pRule at h;cases hr:pWord isName ts with
 | error e=>rw[hr]at h;cases h
 | ok y =>
  obtain⟨b,ts1⟩:=y;rw[hr]at h;have h1:=(pWord_len hr).1;cases hr2:pMust tEq ts1 with
  | error e=>simp only[hr2]at h;cases h
  | ok z =>
   obtain⟨u,ts2⟩:=z;have h2:=(pMust_len hr2).1;cases hr3:pAlts 8 ts2 with
   | error e=>simp only[hr2,hr3]at h;cases h
   | ok z =>
    obtain⟨l,ts3⟩:=z;have h3:=pAlts_len 8 _ _ _ hr3;cases hr4:pMust tSemi ts3 with
    | error e=>simp only[hr2,hr3,hr4]at h;cases h
    | ok z =>
     obtain⟨u',ts4⟩:=z;have h4:=(pMust_len hr4).1;simp only[hr2,hr3,hr4,Except.ok.injEq,Prod.mk.injEq]at h;have h5:=tail_le ts3;have h6:=tail_le ts1;rw[<-h.2,h4];rw[h2]at h3;rw[h1]at h3 h6;omega
def rulesOf (lv:List Lv):Res (List Rl)->Res Gr
 | .error e=>.error e
 | .ok (l,ts)=>.ok (⟨lv,l⟩,ts)
def afterLv (lv:List Lv)(ts1:List Tk):Res Gr :=
 match pRule ts1 with
 | .error e=>.error e
 | .ok (x,ts2)=>rulesOf lv (pRules ts2.length ts2 [x])
def grOf:Res (List Lv)->Res Gr
 | .error e=>.error e
 | .ok (lv,ts1)=>afterLv lv ts1
theorem pGrammar_eq (ts:List Tk):pGrammar ts=grOf (pLevels ts.length ts []):=by
 unfold pGrammar;cases h1:pLevels ts.length ts [] with
 | error e=>rfl
 | ok y =>
  obtain⟨lv,ts1⟩:=y;simp only[grOf,afterLv];cases h2:pRule ts1 with
  | error e=>rfl
  | ok z =>
   obtain⟨x,ts2⟩:=z;simp only;cases h3:pRules ts2.length ts2 [x] with
   | error e=>rfl
   | ok q=>obtain⟨l,ts3⟩:=q;rfl
end Lx
end
section
open Go Go.RowKit
namespace Lx
def EP {α:Type}(r:Res α):Prop:=∀ e,r=.error e->0<e.1
theorem EP.ok {α:Type}(x:α × List Tk):EP (.ok x:Res α):=fun _ h=>by cases h
theorem EP.no {α:Type}{n a:Nat}(h:0<n):EP (.error (n,a):Res α):=fun _ e=>by cases e;exact h
theorem EP.up {α β:Type}{r:Res α}{e:Nat × Nat}(h:EP r)(hr:r=.error e):EP (.error e:Res β):=fun _ h'=>by cases h';exact h e hr
theorem pWord_ep (k:ByteArray->Bool)(ts:List Tk):EP (pWord k ts):=by
 unfold pWord
 split
 ·exact EP.ok _
 ·exact EP.no (by decide)
theorem pMust_ep (b:ByteArray)(ts:List Tk):EP (pMust b ts):=by
 unfold pMust
 split
 ·exact EP.ok _
 ·exact EP.no (by decide)
theorem pItem_ep {grp:List Tk->Res (List Alt)}(hg:∀ ts,EP (grp ts))(ts:List Tk):EP (pItem grp ts):=by
 unfold pItem
 split
 ·cases hr0:grp ts with
  | error e=>exact EP.up (hg ts) hr0
  | ok y0 =>
   obtain⟨x0,ts0⟩:=y0;exact EP.ok _
 ·split
  ·exact EP.ok _
  ·split
   ·exact EP.ok _
   ·exact EP.no (by decide)
theorem pItems_ep {grp:List Tk->Res (List Alt)} (hg:∀ ts,EP (grp ts)):∀ (f:Nat) (ts:List Tk) (acc:List It),EP (pItems grp f ts acc)
 | 0,_,_=>EP.ok _
 | f+1,ts,acc=>by
  simp only[pItems]
  split
  ·cases hr0:pItem grp ts with
   | error e=>exact EP.up (pItem_ep hg ts) hr0
   | ok y0 =>
    obtain⟨x0,ts0⟩:=y0;exact pItems_ep hg f _ _
  ·exact EP.ok _
theorem pPrec_ep (top:Bool)(items:List It)(ts:List Tk):EP (pPrec top items ts):=by
 unfold pPrec
 split
 ·cases hr0:pWord isToken ts.tail with
  | error e=>exact EP.up (pWord_ep _ _) hr0
  | ok y0 =>
   obtain⟨x0,ts0⟩:=y0;exact EP.ok _
 ·exact EP.ok _
theorem pAlt_ep {grp:List Tk->Res (List Alt)}(hg:∀ ts,EP (grp ts))(top:Bool)(ts:List Tk):EP (pAlt grp top ts):=by
 unfold pAlt;cases hr0:pItems grp ts.length ts [] with
 | error e=>exact EP.up (pItems_ep hg _ _ _) hr0
 | ok y0 =>
  obtain⟨x0,ts0⟩:=y0;exact pPrec_ep _ _ _
theorem pMore_ep {grp:List Tk->Res (List Alt)} (hg:∀ ts,EP (grp ts)) (top:Bool):∀ (f:Nat) (ts:List Tk) (acc:List Alt),EP (pMore grp top f ts acc)
 | 0,_,_=>EP.ok _
 | f+1,ts,acc=>by
  simp only[pMore]
  split
  ·cases hr0:pAlt grp top ts.tail with
   | error e=>exact EP.up (pAlt_ep hg _ _) hr0
   | ok y0 =>
    obtain⟨x0,ts0⟩:=y0;exact pMore_ep hg top f _ _
  ·exact EP.ok _
theorem pAltsBy_ep {grp:List Tk->Res (List Alt)}(hg:∀ ts,EP (grp ts))(top:Bool)(ts:List Tk):EP (pAltsBy grp top ts):=by
 unfold pAltsBy;cases hr0:pAlt grp top ts with
 | error e=>exact EP.up (pAlt_ep hg _ _) hr0
 | ok y0 =>
  obtain⟨x0,ts0⟩:=y0;exact pMore_ep hg _ _ _ _
theorem pGroup_ep {r:List Tk->Res (List Alt)}(hr:∀ ts,EP (r ts))(ts:List Tk):EP (pGroup r ts):=by
 unfold pGroup;cases hr0:r ts.tail with
 | error e=>exact EP.up (hr _) hr0
 | ok y0 =>
  obtain⟨x0,ts0⟩:=y0;simp only;cases hr1:pMust tShut ts0 with
  | error e=>exact EP.up (pMust_ep _ _) hr1
  | ok y1 =>
   obtain⟨x1,ts1⟩:=y1;exact EP.ok _
theorem pAlts_ep:∀ (d:Nat) (ts:List Tk),EP (pAlts d ts)
 | 0,ts=>pAltsBy_ep (grp:=fun ts=>.error (3,pl ts)) (fun _=>EP.no (by decide)) _ _
 | d+1,ts=>pAltsBy_ep (pGroup_ep (pAlts_ep d)) _ _
theorem pRule_ep (ts:List Tk):EP (pRule ts):=by
 unfold pRule;cases hr0:pWord isName ts with
 | error e=>exact EP.up (pWord_ep _ _) hr0
 | ok y0 =>
  obtain⟨x0,ts0⟩:=y0;simp only;cases hr1:pMust tEq ts0 with
  | error e=>exact EP.up (pMust_ep _ _) hr1
  | ok y1 =>
   obtain⟨x1,ts1⟩:=y1;simp only;cases hr2:pAlts 8 ts1 with
   | error e=>exact EP.up (pAlts_ep _ _) hr2
   | ok y2 =>
    obtain⟨x2,ts2⟩:=y2;simp only;cases hr3:pMust tSemi ts2 with
    | error e=>exact EP.up (pMust_ep _ _) hr3
    | ok y3 =>
     obtain⟨x3,ts3⟩:=y3;exact EP.ok _
theorem pTokens_ep:∀ (f:Nat) (ts acc:List Tk),EP (pTokens f ts acc)
 | 0,_,_=>EP.ok _
 | f+1,ts,acc=>by
  simp only[pTokens]
  split
  ·exact EP.ok _
  ·cases hr0:pWord isToken ts with
   | error e=>exact EP.up (pWord_ep _ _) hr0
   | ok y0 =>
    obtain⟨x0,ts0⟩:=y0;exact pTokens_ep f _ _
theorem pLevel_ep (ts:List Tk):EP (pLevel ts):=by
 unfold pLevel;cases hr0:pWord isToken ts.tail with
 | error e=>exact EP.up (pWord_ep _ _) hr0
 | ok y0 =>
  obtain⟨x0,ts0⟩:=y0;simp only;cases hr1:pTokens ts0.length ts0 [(x0,pl ts.tail)] with
  | error e=>exact EP.up (pTokens_ep _ _ _) hr1
  | ok y1 =>
   obtain⟨x1,ts1⟩:=y1;exact EP.ok _
theorem pLevels_ep:∀ (f:Nat) (ts:List Tk) (acc:List Lv),EP (pLevels f ts acc)
 | 0,_,_=>EP.ok _
 | f+1,ts,acc=>by
  simp only[pLevels]
  split
  ·cases hr0:pLevel ts with
   | error e=>exact EP.up (pLevel_ep _) hr0
   | ok y0 =>
    obtain⟨x0,ts0⟩:=y0;exact pLevels_ep f _ _
  ·exact EP.ok _
theorem pRules_ep:∀ (f:Nat) (ts:List Tk) (acc:List Rl),EP (pRules f ts acc)
 | 0,_,_=>EP.ok _
 | f+1,ts,acc=>by
  simp only[pRules]
  split
  ·exact EP.ok _
  ·cases hr0:pRule ts with
   | error e=>exact EP.up (pRule_ep _) hr0
   | ok y0 =>
    obtain⟨x0,ts0⟩:=y0;exact pRules_ep f _ _
theorem pGrammar_ep (ts:List Tk):EP (pGrammar ts):=by
 unfold pGrammar;cases hr0:pLevels ts.length ts [] with
 | error e=>exact EP.up (pLevels_ep _ _ _) hr0
 | ok y0 =>
  obtain⟨x0,ts0⟩:=y0;simp only;cases hr1:pRule ts0 with
  | error e=>exact EP.up (pRule_ep _) hr1
  | ok y1 =>
   obtain⟨x1,ts1⟩:=y1;simp only;cases hr2:pRules ts1.length ts1 [x1] with
   | error e=>exact EP.up (pRules_ep _ _ _) hr2
   | ok y2 =>
    obtain⟨x2,ts2⟩:=y2;exact EP.ok _
theorem parse_pos {s:ByteArray}{n a:Nat}(h:parse s=.error (n,a)):0<n:=by
 unfold parse at h
 split at h
 ·cases h;decide
 ·cases hr:pGrammar (lex s) with
  | error e=>rw[hr]at h;cases h;exact pGrammar_ep _ _ hr
  | ok x=>obtain⟨g,ts'⟩:=x;rw[hr]at h;cases h
end Lx
end
section
open Go Go.RowKit
namespace Lx
def All2 {α β:Type} (R:α->β->Prop):List α->List β->Prop
 | [],[]=>True
 | a::l,b::m=>R a b/\All2 R l m
 | _,_=>False
theorem All2.push {α β:Type} {R:α->β->Prop}:∀ {l:List α} {m:List β} {a:α} {b:β},All2 R l m->R a b->All2 R (l++[a]) (m++[b])
 | [],[],_,_,_,h=>⟨h,trivial⟩
 | _::_,_::_,_,_,h,hr=>⟨h.1,All2.push h.2 hr⟩
 | [],_::_,_,_,h,_=>h.elim
 | _::_,[],_,_,h,_=>h.elim
theorem All2.len {α β:Type} {R:α->β->Prop}:∀ {l:List α} {m:List β},All2 R l m->l.length=m.length
 | [],[],_=>rfl
 | _::_,_::_,h=>by simp[All2.len h.2]
 | [],_::_,h=>h.elim
 | _::_,[],h=>h.elim
def AltsEq:Nat->List Alt->List Alt->Prop
 | 0,l,m=>l=[]/\m=[]
 | d+1,l,m=>All2 (fun a b=>All2 (fun x y=>x.kind=y.kind/\x.name=y.name/\x.mark=y.mark/\AltsEq d x.alts y.alts) a.1 b.1/\a.2.1=b.2.1) l m
def ItEq (d:Nat)(x y:It):Prop:=x.kind=y.kind/\x.name=y.name/\x.mark=y.mark/\AltsEq d x.alts y.alts
def AltEq (d:Nat)(a b:Alt):Prop:=All2 (ItEq d) a.1 b.1/\a.2.1=b.2.1
theorem AltsEq.nil:∀ d,AltsEq d [] []
 | 0=>⟨rfl,rfl⟩
 | _+1=>trivial
def TX (ts us:List Tk):Prop:=ts.map Prod.fst=us.map Prod.fst
theorem TX.hd {ts us:List Tk}(h:TX ts us):hd ts=hd us:=by
 cases ts with
 | nil=>cases us with
  | nil=>rfl
  | cons u us=>cases h
 | cons t ts=>cases us with
  | nil=>cases h
  | cons u us=>exact (List.cons.inj h).1
theorem TX.tail {ts us:List Tk}(h:TX ts us):TX ts.tail us.tail:=by
 cases ts with
 | nil=>cases us with
  | nil=>rfl
  | cons u us=>cases h
 | cons t ts=>cases us with
  | nil=>cases h
  | cons u us=>exact (List.cons.inj h).2
theorem TX.len {ts us:List Tk}(h:TX ts us):ts.length=us.length:=by
 have:=congrArg List.length h;simpa using this
theorem TX.push {ts us:List Tk}{t u:Tk}(h:TX ts us)(e:t.1=u.1):TX (ts++[t]) (us++[u]):=by
 unfold TX at *;rw[List.map_append,List.map_append,h];simp[e]
def RelR {α:Type} (R:α->α->Prop):Res α->Res α->Prop
 | .ok (x,ts),.ok (y,us)=>R x y/\TX ts us
 | .error e,.error f=>e.1=f.1
 | _,_=>False
def bnd {α β:Type}(r:Res α)(k:α->List Tk->Res β):Res β :=
 match r with
 | .error e=>.error e
 | .ok (x,ts)=>k x ts
theorem pItem_eq (grp:List Tk->Res (List Alt)) (ts:List Tk):pItem grp ts=if hd ts=tOpen then bnd (grp ts) (fun alts ts1=>.ok ((⟨2,noText,(pMark ts1).1,alts,pl ts⟩:It),(pMark ts1).2))
  else if isName (hd ts)=true then .ok (⟨0,hd ts,(pMark ts.tail).1,[],pl ts⟩,(pMark ts.tail).2)
  else if isToken (hd ts)=true then .ok (⟨1,hd ts,(pMark ts.tail).1,[],pl ts⟩,(pMark ts.tail).2)
  else .error (2,pl ts):=by
 unfold pItem
 split
 ·cases grp ts with
  | error e=>rfl
  | ok y=>rfl
 ·rfl
theorem pItems_eq (grp:List Tk->Res (List Alt))(f:Nat)(ts:List Tk)(a:List It):pItems grp (f+1) ts a=if seesItem ts=true then bnd (pItem grp ts) (fun x ts1=>pItems grp f ts1 (a++[x])) else .ok (a,ts):=by
 simp only[pItems]
 split
 ·cases pItem grp ts with
  | error e=>rfl
  | ok y=>rfl
 ·rfl
theorem pPrec_eq (top:Bool)(a:List It)(ts:List Tk):pPrec top a ts=if top=true/\hd ts=tPrec then bnd (pWord isToken ts.tail) (fun x ts1=>.ok (((a,x,pl ts.tail):Alt),ts1)) else .ok ((a,noText,0),ts):=by
 unfold pPrec
 split
 ·cases pWord isToken ts.tail with
  | error e=>rfl
  | ok y=>rfl
 ·rfl
theorem pAlt_eq (grp:List Tk->Res (List Alt))(top:Bool)(ts:List Tk):pAlt grp top ts=bnd (pItems grp ts.length ts []) (fun x ts1=>pPrec top x ts1):=by
 unfold pAlt;cases pItems grp ts.length ts [] with
 | error e=>rfl
 | ok y=>rfl
theorem pMore_eq (grp:List Tk->Res (List Alt))(top:Bool)(f:Nat)(ts:List Tk)(a:List Alt):pMore grp top (f+1) ts a=if hd ts=tBar then bnd (pAlt grp top ts.tail) (fun x ts1=>pMore grp top f ts1 (a++[x])) else .ok (a,ts):=by
 simp only[pMore]
 split
 ·cases pAlt grp top ts.tail with
  | error e=>rfl
  | ok y=>rfl
 ·rfl
theorem pAltsBy_eq (grp:List Tk->Res (List Alt))(top:Bool)(ts:List Tk):pAltsBy grp top ts=bnd (pAlt grp top ts) (fun x ts1=>pMore grp top ts1.length ts1 [x]):=by
 unfold pAltsBy;cases pAlt grp top ts with
 | error e=>rfl
 | ok y=>rfl
theorem pGroup_eq (r:List Tk->Res (List Alt))(ts:List Tk):pGroup r ts=bnd (r ts.tail) (fun l ts1=>bnd (pMust tShut ts1) fun _ ts2=>.ok (l,ts2)):=by
 unfold pGroup;cases r ts.tail with
 | error e=>rfl
 | ok y =>
  obtain⟨l,ts1⟩:=y;simp only[bnd];cases pMust tShut ts1 with
  | error e=>rfl
  | ok y=>rfl
theorem pRule_eq (ts:List Tk):pRule ts=bnd (pWord isName ts) (fun n ts1=>bnd (pMust tEq ts1) fun _ ts2=>bnd (pAlts 8 ts2) fun l ts3=>bnd (pMust tSemi ts3) fun _ ts4=>.ok ((⟨n,l,pl ts⟩:Rl),ts4)):=by
 unfold pRule;cases pWord isName ts with
 | error e=>rfl
 | ok y =>
  obtain⟨n,ts1⟩:=y;simp only[bnd];cases pMust tEq ts1 with
  | error e=>rfl
  | ok y =>
   obtain⟨u,ts2⟩:=y;simp only;cases pAlts 8 ts2 with
   | error e=>rfl
   | ok y =>
    obtain⟨l,ts3⟩:=y;simp only;cases pMust tSemi ts3 with
    | error e=>rfl
    | ok y=>rfl
theorem pTokens_eq (f:Nat)(ts a:List Tk):pTokens (f+1) ts a=if hd ts=tSemi then .ok (a,ts.tail) else bnd (pWord isToken ts) (fun x ts1=>pTokens f ts1 (a++[(x,pl ts)])):=by
 simp only[pTokens]
 split
 ·rfl
 ·cases pWord isToken ts with
  | error e=>rfl
  | ok y=>rfl
theorem pLevel_eq (ts:List Tk):pLevel ts=bnd (pWord isToken ts.tail) (fun b ts1=>bnd (pTokens ts1.length ts1 [(b,pl ts.tail)]) fun l ts2=>.ok ((⟨(levelKind (hd ts)).toNat,l⟩:Lv),ts2)):=by
 unfold pLevel;cases pWord isToken ts.tail with
 | error e=>rfl
 | ok y =>
  obtain⟨b,ts1⟩:=y;simp only[bnd];cases pTokens ts1.length ts1 [(b,pl ts.tail)] with
  | error e=>rfl
  | ok y=>rfl
theorem pLevels_eq (f:Nat)(ts:List Tk)(a:List Lv):pLevels (f+1) ts a=if 0<=levelKind (hd ts) then bnd (pLevel ts) (fun x ts1=>pLevels f ts1 (a++[x])) else .ok (a,ts):=by
 simp only[pLevels]
 split
 ·cases pLevel ts with
  | error e=>rfl
  | ok y=>rfl
 ·rfl
theorem pRules_eq (f:Nat)(ts:List Tk)(a:List Rl):pRules (f+1) ts a=if hd ts=noText then .ok (a,ts) else bnd (pRule ts) (fun x ts1=>pRules f ts1 (a++[x])):=by
 simp only[pRules]
 split
 ·rfl
 ·cases pRule ts with
  | error e=>rfl
  | ok y=>rfl
theorem pGrammar_bnd (ts:List Tk):pGrammar ts=bnd (pLevels ts.length ts []) (fun lv ts1=>bnd (pRule ts1) fun x ts2=>bnd (pRules ts2.length ts2 [x]) fun l ts3=>.ok ((⟨lv,l⟩:Gr),ts3)):=by
 unfold pGrammar;cases pLevels ts.length ts [] with
 | error e=>rfl
 | ok y =>
  obtain⟨lv,ts1⟩:=y;simp only[bnd];cases pRule ts1 with
  | error e=>rfl
  | ok y =>
   obtain⟨x,ts2⟩:=y;simp only;cases pRules ts2.length ts2 [x] with
   | error e=>rfl
   | ok y=>rfl
theorem RelR.on {α β:Type}{R:α->α->Prop}{S:β->β->Prop}{r r':Res α}(h:RelR R r r')(k k':α->List Tk->Res β)(hk:∀ x y ts us,R x y->TX ts us->RelR S (k x ts) (k' y us)):RelR S (bnd r k) (bnd r' k'):=by
 cases r with
 | error e=>cases r' with
  | error f=>exact h
  | ok y=>exact h.elim
 | ok x=>cases r' with
  | error f=>exact h.elim
  | ok y=>exact hk _ _ _ _ h.1 h.2
theorem pWord_rel (k:ByteArray->Bool){ts us:List Tk}(h:TX ts us):RelR Eq (pWord k ts) (pWord k us):=by
 unfold pWord;rw[h.hd]
 split
 ·exact⟨rfl,h.tail⟩
 ·exact rfl
theorem pMust_rel (b:ByteArray){ts us:List Tk}(h:TX ts us):RelR Eq (pMust b ts) (pMust b us):=by
 unfold pMust;rw[h.hd]
 split
 ·exact⟨rfl,h.tail⟩
 ·exact rfl
theorem pMark_rel {ts us:List Tk}(h:TX ts us):(pMark ts).1=(pMark us).1/\TX (pMark ts).2 (pMark us).2:=by
 unfold pMark;rw[h.hd]
 split
 ·exact⟨rfl,h.tail⟩
 ·split
  ·exact⟨rfl,h.tail⟩
  ·split
   ·exact⟨rfl,h.tail⟩
   ·exact⟨rfl,h⟩
def GrpRel (d:Nat)(grp:List Tk->Res (List Alt)):Prop:=∀ ts us,TX ts us->RelR (AltsEq d) (grp ts) (grp us)
theorem pItem_rel {d:Nat}{grp:List Tk->Res (List Alt)}(hg:GrpRel d grp){ts us:List Tk}(h:TX ts us):RelR (ItEq d) (pItem grp ts) (pItem grp us):=by
 rw[pItem_eq,pItem_eq,h.hd]
 split
 ·exact RelR.on (hg _ _ h) _ _ fun x y t u hx ht=>⟨⟨rfl,rfl,(pMark_rel ht).1,hx⟩,(pMark_rel ht).2⟩
 ·split
  ·exact⟨⟨rfl,rfl,(pMark_rel h.tail).1,AltsEq.nil d⟩,(pMark_rel h.tail).2⟩
  ·split
   ·exact⟨⟨rfl,rfl,(pMark_rel h.tail).1,AltsEq.nil d⟩,(pMark_rel h.tail).2⟩
   ·exact rfl
theorem seesItem_rel {ts us:List Tk}(h:TX ts us):seesItem ts=seesItem us:=by unfold seesItem;rw[h.hd]
theorem pItems_rel {d:Nat} {grp:List Tk->Res (List Alt)} (hg:GrpRel d grp):∀ (f:Nat) {ts us:List Tk} {a b:List It},TX ts us->All2 (ItEq d) a b->RelR (All2 (ItEq d)) (pItems grp f ts a) (pItems grp f us b)
 | 0,ts,us,a,b,h,ha=>⟨ha,h⟩
 | f+1,ts,us,a,b,h,ha=>by
  rw[pItems_eq,pItems_eq,seesItem_rel h]
  split
  ·exact RelR.on (pItem_rel hg h) _ _ fun x y t u hx ht=>pItems_rel hg f ht (ha.push hx)
  ·exact⟨ha,h⟩
theorem pPrec_rel {d:Nat}(top:Bool){a b:List It}{ts us:List Tk}(h:TX ts us)(ha:All2 (ItEq d) a b):RelR (AltEq d) (pPrec top a ts) (pPrec top b us):=by
 rw[pPrec_eq,pPrec_eq,h.hd]
 split
 ·exact RelR.on (pWord_rel isToken h.tail) _ _ fun x y t u hx ht=>⟨⟨ha,hx⟩,ht⟩
 ·exact⟨⟨ha,rfl⟩,h⟩
theorem pAlt_rel {d:Nat}{grp:List Tk->Res (List Alt)}(hg:GrpRel d grp)(top:Bool){ts us:List Tk}(h:TX ts us):RelR (AltEq d) (pAlt grp top ts) (pAlt grp top us):=by
 rw[pAlt_eq,pAlt_eq,h.len];exact RelR.on (pItems_rel hg us.length h (a:=[]) (b:=[]) trivial) _ _ fun x y t u hx ht=>pPrec_rel top ht hx
theorem pMore_rel {d:Nat} {grp:List Tk->Res (List Alt)} (hg:GrpRel d grp) (top:Bool):∀ (f:Nat) {ts us:List Tk} {a b:List Alt},TX ts us->All2 (AltEq d) a b->RelR (All2 (AltEq d)) (pMore grp top f ts a) (pMore grp top f us b)
 | 0,ts,us,a,b,h,ha=>⟨ha,h⟩
 | f+1,ts,us,a,b,h,ha=>by
  rw[pMore_eq,pMore_eq,h.hd]
  split
  ·exact RelR.on (pAlt_rel hg top h.tail) _ _ fun x y t u hx ht=>pMore_rel hg top f ht (ha.push hx)
  ·exact⟨ha,h⟩
theorem pAltsBy_rel {d:Nat}{grp:List Tk->Res (List Alt)}(hg:GrpRel d grp)(top:Bool){ts us:List Tk}(h:TX ts us):RelR (AltsEq (d+1)) (pAltsBy grp top ts) (pAltsBy grp top us):=by
 rw[pAltsBy_eq,pAltsBy_eq];refine RelR.on (pAlt_rel hg top h) _ _ fun x y t u hx ht=>?_
 rw[ht.len];exact pMore_rel hg top u.length ht (a:=[x]) (b:=[y]) ⟨hx,trivial⟩
theorem pGroup_rel {d:Nat}{r:List Tk->Res (List Alt)}(hr:GrpRel d r):GrpRel d (pGroup r):=fun ts us h=>by
 rw[pGroup_eq,pGroup_eq];refine RelR.on (hr _ _ h.tail) _ _ fun x y t u hx ht=>?_
 exact RelR.on (pMust_rel tShut ht) _ _ fun _ _ t u _ ht=>⟨hx,ht⟩
theorem pAlts_rel:∀ d,GrpRel (d+1) (pAlts d)
 | 0=>fun _ _ h=>pAltsBy_rel (grp:=fun ts=>.error (3,pl ts)) (fun _ _ _=>rfl) false h
 | d+1=>fun _ _ h=>pAltsBy_rel (pGroup_rel (pAlts_rel d)) (d == 7) h
def RlEq (r s:Rl):Prop:=r.name=s.name/\AltsEq 9 r.alts s.alts
def LvEq (l m:Lv):Prop:=l.kind=m.kind/\TX l.tokens m.tokens
def GrEq (g h:Gr):Prop:=All2 LvEq g.levels h.levels/\All2 RlEq g.rules h.rules
theorem pRule_rel {ts us:List Tk}(h:TX ts us):RelR RlEq (pRule ts) (pRule us):=by
 rw[pRule_eq,pRule_eq];refine RelR.on (pWord_rel isName h) _ _ fun n m t1 u1 hn h1=>?_
 refine RelR.on (pMust_rel tEq h1) _ _ fun _ _ t2 u2 _ h2=>?_
 refine RelR.on (pAlts_rel 8 _ _ h2) _ _ fun x y t3 u3 hx h3=>?_
 exact RelR.on (pMust_rel tSemi h3) _ _ fun _ _ t4 u4 _ h4=>⟨⟨hn,hx⟩,h4⟩
theorem pTokens_rel:∀ (f:Nat) {ts us a b:List Tk},TX ts us->TX a b->RelR TX (pTokens f ts a) (pTokens f us b)
 | 0,ts,us,a,b,h,ha=>⟨ha,h⟩
 | f+1,ts,us,a,b,h,ha=>by
  rw[pTokens_eq,pTokens_eq,h.hd]
  split
  ·exact⟨ha,h.tail⟩
  ·exact RelR.on (pWord_rel isToken h) _ _ fun x y t u hx ht=>pTokens_rel f ht (ha.push hx)
theorem pLevel_rel {ts us:List Tk}(h:TX ts us):RelR LvEq (pLevel ts) (pLevel us):=by
 rw[pLevel_eq,pLevel_eq,h.hd];refine RelR.on (pWord_rel isToken h.tail) _ _ fun x y t u hx ht=>?_
 rw[ht.len];exact RelR.on (pTokens_rel u.length ht (a:=[(x,pl ts.tail)]) (b:=[(y,pl us.tail)]) (congrArg (·::[]) hx)) _ _ fun l m t2 u2 hl h2=>⟨⟨rfl,hl⟩,h2⟩
theorem pLevels_rel:∀ (f:Nat) {ts us:List Tk} {a b:List Lv},TX ts us->All2 LvEq a b->RelR (All2 LvEq) (pLevels f ts a) (pLevels f us b)
 | 0,ts,us,a,b,h,ha=>⟨ha,h⟩
 | f+1,ts,us,a,b,h,ha=>by
  rw[pLevels_eq,pLevels_eq,h.hd]
  split
  ·exact RelR.on (pLevel_rel h) _ _ fun x y t u hx ht=>pLevels_rel f ht (ha.push hx)
  ·exact⟨ha,h⟩
theorem pRules_rel:∀ (f:Nat) {ts us:List Tk} {a b:List Rl},TX ts us->All2 RlEq a b->RelR (All2 RlEq) (pRules f ts a) (pRules f us b)
 | 0,ts,us,a,b,h,ha=>⟨ha,h⟩
 | f+1,ts,us,a,b,h,ha=>by
  rw[pRules_eq,pRules_eq,h.hd]
  split
  ·exact⟨ha,h⟩
  ·exact RelR.on (pRule_rel h) _ _ fun x y t u hx ht=>pRules_rel f ht (ha.push hx)
theorem pGrammar_rel {ts us:List Tk}(h:TX ts us):RelR GrEq (pGrammar ts) (pGrammar us):=by
 rw[pGrammar_bnd,pGrammar_bnd,h.len];refine RelR.on (pLevels_rel us.length h (a:=[]) (b:=[]) trivial) _ _ fun lv lw t1 u1 hl h1=>?_
 refine RelR.on (pRule_rel h1) _ _ fun x y t2 u2 hx h2=>?_
 rw[h2.len];exact RelR.on (pRules_rel u2.length h2 (a:=[x]) (b:=[y]) ⟨hx,trivial⟩) _ _ fun l m t3 u3 hm h3=>⟨⟨hl,hm⟩,h3⟩
theorem parse_same {s t:ByteArray}{g:Gr}(hs:parse s=.ok g)(ht:t.size<=2000)(h:TX (lex s) (lex t)):∃ g',parse t=.ok g'/\GrEq g g':=by
 unfold parse at hs
 split at hs
 ·cases hs
 ·have hr:=pGrammar_rel h
  cases h1:pGrammar (lex s) with
  | error e=>rw[h1]at hs;cases hs
  | ok x =>
   obtain⟨g1,ts1⟩:=x;rw[h1]at hs hr;cases hs;cases h2:pGrammar (lex t) with
   | error e=>rw[h2]at hr;exact hr.elim
   | ok y =>
    obtain⟨g2,ts2⟩:=y;rw[h2]at hr;refine⟨g2,?_,hr.1⟩;unfold parse;rw[if_neg (by omega),h2]
end Lx
end
section
open Go Go.RowKit
namespace Lx
theorem bnd_ok {α β:Type}{r:Res α}{k:α->List Tk->Res β}{z:β}{ts':List Tk}(h:bnd r k=.ok (z,ts')):∃ x ts,r=.ok (x,ts)/\k x ts=.ok (z,ts'):=by
 cases r with
 | error e=>cases h
 | ok y=>exact⟨y.1,y.2,rfl,h⟩
/-! What is read of signs ahead of an end is read of them ahead of other signs. -/
section
variable (e:Tk) (C:List Tk)
variable {e C}
end
end Lx
end
section
open Go Go.RowKit
namespace Lx
section
variable {e:Tk} {C:List Tk}
end
end Lx
end
section
open Go.RowKit
open Tr
theorem Tryz.size104:(Tryz.prog.info? 164).map (·.size)=some 2:=by kernel_rfl
theorem Tryz.lies104:liesAt Tryz.prog Tryz.prog.depth 164 (2 / Tryz.prog.cellsOf 164) 0 164 1=true:=by kernel_rfl
theorem Tryz.infoByte:(Tryz.prog.info? 5).map (fun i=>(i.zero,i.size,i.bytes))=some (some (.int .u8 0),1,1):=by kernel_rfl
theorem Tryz.cellsByte:Tryz.prog.cellsOf 5=1:=by kernel_rfl
abbrev BAt (B b:Nat) (p:Value) (bs:List Value) (w:World):Prop:=Lib.BuilderAt 164 5 B b p bs w
def Kept90 (w w':World):Prop:=∀ k cs,Blk w k cs 112->Blk w' k cs 112
abbrev BIs (B b:Nat) (bs:List Value) (w:World):Prop:=Lib.IsBuilder 164 5 B b bs w
theorem check_used (b:Nat) (w:World) (h0:w.cell? ⟨b,0,none⟩=some (.pointer (some ⟨b,0,none⟩))) :
  Calls Tryz.prog 119 #[.pointer (some ⟨b,0,none⟩)] w fun e w'=>e=.returned (.tuple #[])/\w'=w:=by
 obtain⟨j,hj,_⟩:=Option.map_eq_some_iff.1 Tryz.size104;go_enter Tryz.func119,Tryz.ntmps119
 go_wp2
 rw[Lib.run_neq_ptr_same w _ Tryz.underlying161 hj]
 go_wp2
 go_end0
 exact⟨rfl,rfl⟩
theorem check_fresh (b:Nat) (w:World) (h0:w.cell? ⟨b,0,none⟩=some (.pointer none)) (hsh:w.shape? b=some (164,2)) (hfz:w.frozen? ⟨b,0,none⟩=false) :
  Calls Tryz.prog 119 #[.pointer (some ⟨b,0,none⟩)] w fun e w'=>e=.returned (.tuple #[])/\w'=w.setCell ⟨b,0,none⟩ (.pointer (some ⟨b,0,none⟩)):=by
 obtain⟨j,hj,hjs⟩:=Option.map_eq_some_iff.1 Tryz.size104;go_enter Tryz.func119,Tryz.ntmps119
 go_wp2
 rw[Lib.run_to_unsafe w ⟨b,0,none⟩ Tryz.underlying161 Tryz.underlying215 hj (by rw[hjs];decide) hsh (Nat.zero_lt_succ 1)];simp only[Result.andThen];rw[Oper.upon_value]
 go_wp2
 rw[run_callFunc_extern Tryz.func142 (by kernel_rfl) (by kernel_rfl) (by kernel_rfl) (e:=Extern.AbiNoEscape.same) (by kernel_rfl)];rw[Lib.run_noEscape];simp only[Result.andThen];rw[Oper.upon_value]
 go_wp2
 rw[Lib.run_from_unsafe w ⟨b,0,none⟩ Tryz.underlying215 Tryz.underlying161 hj hsh Tryz.lies104];simp only[Result.andThen];rw[Oper.upon_value]
 go_wp2
 go_end0
 exact⟨rfl,rfl⟩
theorem check_any (B b:Nat) (bs:List Value) (w:World) (h:BIs B b bs w) :
  Calls Tryz.prog 119 #[.pointer (some ⟨b,0,none⟩)] w fun e w'=>e=.returned (.tuple #[])/\BAt B b (.pointer (some ⟨b,0,none⟩)) bs w'/\Below B w w'/\Kept90 w w':=by
 rcases h with h | h
 ·refine (check_fresh b w h.cell0 h.shape h.frozen0).mono ?_
  rintro e w' ⟨rfl,rfl⟩;refine⟨rfl,h.used _,(Below.refl B w).setCell (p:=⟨b,0,none⟩) h.1 _,fun k cs hk=>hk.other (fun e=>?_) _⟩;subst e;obtain⟨_,v,hbk,_⟩:=h;have:=hbk.symm.trans hk;simp at this
 ·refine (check_used b w h.cell0).mono ?_
  rintro e w' ⟨rfl,rfl⟩;exact⟨rfl,h,Below.refl B _,fun _ _ h=>h⟩
theorem write_any (B b:Nat) (bs:List Value) (s:ByteArray) (w:World) (h:BIs B b bs w) (hlen:bs.length+s.size<=140737488355328) (hBw:B<=w.heap.size) :
  Calls Tryz.prog 81 #[.pointer (some ⟨b,0,none⟩),.string s] w fun e w'=>e=.returned (.tuple #[.int .i64 s.size,.nilIface])/\BAt B b (.pointer (some ⟨b,0,none⟩)) (bs++Lib.strCells s) w'/\Below B w w'/\Kept90 w w':=by
 obtain⟨i0,hi,hz0,hz1,hz2⟩:=info_parts Tryz.infoByte;go_enter Tryz.func81,Tryz.ntmps81;go_wp2_with fail;refine (check_any B b bs _ h).mono ?_;rintro e w1 ⟨rfl,h1,hb1,hkp⟩;obtain⟨hB,v,hbk,hown,hne⟩:=h1;have c0:w1.cell? ⟨b,0,none⟩=some (.pointer (some ⟨b,0,none⟩)):=by rw[Lib.cell_of_heap hbk];rfl
 have c1:w1.cell? ⟨b,1,none⟩=some v:=by rw[Lib.cell_of_heap hbk];rfl
 go_wp2_with (at_builtin;refine Lib.wpList_append_own_string _ rfl _ _ 162 9 rfl B 5 i0 Tryz.underlying162 Tryz.underlying9 hi hz0 hz1 hz2 _ _ _ rfl hown s rfl ?c3 ?c4 ?c5 ?_)
 case c3=>unfold maxLen;omega
 case c4=>omega
 case c5=>have:=hb1.size;omega
 intro v' w2 hown' hgrow _;have hlt:b<w1.heap.size:=by
  rcases Nat.lt_or_ge b w1.heap.size with h' | h'
  ·exact h'
  ·simp[Array.getElem?_eq_none h']at hbk
 have hb2:w2.heap[b]?=some (.cells #[.pointer (some ⟨b,0,none⟩),v] 164 (0,0)):=by
  rw[hgrow.block b hlt (fun e=>hne e.symm)];exact hbk
 have d0:w2.cell? ⟨b,0,none⟩=some (.pointer (some ⟨b,0,none⟩)):=by rw[Lib.cell_of_heap hb2];rfl
 have d1:w2.cell? ⟨b,1,none⟩=some v:=by rw[Lib.cell_of_heap hb2];rfl
 have f1:w2.frozen? ⟨b,1,none⟩=false:=Lib.frozen_of_heap hb2 1;obtain⟨ao,n',cap,rfl⟩:=own_form hown'
 go_wp2
 go_ret2
 refine⟨rfl,?_,?_,?_⟩
 ·exact Lib.BuilderAt.put (T:=164) (e:=5) hB hb2 (bs':=bs++Lib.strCells s) (by simpa [Lib.strCells_length]using hown') (by decide)
 ·exact (hb1.grown hgrow (by have:=hb1.size;omega) (fun k hk=>(hown.lt k hk).1)).setCell (p:=⟨b,1,none⟩) hB _
 ·intro k cs hk
  have hk1:Blk w1 k cs 112:=hkp k cs hk;have hk2:Blk w2 k cs 112:=hk1.grown hgrow (fun e=>Lib.ownBlock_ne hown hk1 (by decide) e.symm);refine hk2.other (fun e=>?_) _;subst e;have:=hb2.symm.trans hk2;simp at this
theorem string_any (B b:Nat) (l:List UInt8) (w:World) (h:BIs B b (Lib.byteCells l) w) (h0:l≠[]) :
  Calls Tryz.prog 83 #[.pointer (some ⟨b,0,none⟩)] w fun e w'=>e=.returned (.string ⟨l.toArray⟩)/\Below B w w':=by
 obtain⟨p,hB,v,hbk,hown,hne⟩:∃ p,BAt B b p (Lib.byteCells l) w:=by
  rcases h with h | h
  ·exact⟨_,h⟩
  ·exact⟨_,h⟩
 have hl0:l.length≠0:=by simpa using h0
 rw[Lib.byteCells_length]at hown;obtain⟨g,cap,cur,rfl,hbg,hg,hnc,hcm,hcs,htake⟩:∃ g cap cur,v=.slice (some ⟨g,0,none⟩) l.length cap/\B<=g/\w.heap[g]?=some (.cells cur 5 (0,0))/\l.length<=cap/\cap<=maxLen/\cur.size=cap*1/\cur.toList.take (l.length*1)=Lib.byteCells l:=by
  rcases hown.2 with ⟨_,hz⟩ | ⟨g,cap,cur,hv,r⟩
  ·exact absurd hz hl0
  ·exact⟨g,cap,cur,hv,r⟩
 have c1:w.drew.cell? ⟨b,1,none⟩=some (.slice (some ⟨g,0,none⟩) l.length cap):=by
  have:w.drew.heap[b]?=some (.cells #[p,.slice (some ⟨g,0,none⟩) l.length cap] 164 (0,0)):=hbk;rw[Lib.cell_of_heap this];rfl
 have hSD:(Builtin.unsafeSliceData_ #[162] 202 #[.slice (some ⟨g,0,none⟩) l.length cap]).run Tryz.prog w.drew=.ok (.pointer (some ⟨g,0,none⟩)) w.drew :=
  Lib.run_unsafeSliceData_row _ _ _ _ _ _ (by omega)
 have hUS:(Builtin.unsafeString_ #[202,3] 9 #[.pointer (some ⟨g,0,none⟩),.int .i64 l.length]).run Tryz.prog w.drew=.ok (.string ⟨l.toArray⟩) (w.drew.freeze ⟨g,0,none⟩ l.length):=by
  refine Lib.run_unsafeString_row w.drew 202 3 9 5 Tryz.underlying202 Tryz.cellsByte g cur.size (by have hg':w.drew.heap[g]?=some (.cells cur 5 (0,0)):=hg;simp[World.shape?,hg']) l h0 (by omega) (by unfold maxLen at hcm;omega) ?_;intro j x hx;exact hown.cells (g:=g) rfl j (.int .u8 x.toNat) (by simp[Lib.byteCells,hx])
 go_enter Tryz.func83,Tryz.ntmps83
 go_wp2
 go_region
 all_goals (go_wp2;go_ret;exact⟨rfl,Lib.below_freeze (Below.drew (Below.refl B w)) (p:=⟨g,0,none⟩) hbg _⟩)
end
end Go.Proofs.YtlcppnabbicmoaaGreatDoor

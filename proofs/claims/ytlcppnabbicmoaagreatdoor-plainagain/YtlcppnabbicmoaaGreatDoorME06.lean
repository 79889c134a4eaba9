import Derived.Test.YtlcppnabbicmoaaGreatDoorME05
set_option maxHeartbeats 8000000
set_option maxRecDepth 1000000
namespace Go.Proofs.YtlcppnabbicmoaaGreatDoor
open Go.RowKit
open Lx (Tk)
open Tr
theorem Tryz.info9:(Tryz.prog.info? 9).map (fun i=>(i.zero,i.size,i.bytes))=some (some (.string ⟨#[]⟩),1,16):=by kernel_rfl
def cT:Value × Tk->List Value:=fun q=>[.string q.2.1]
def KT:(Nat->Prop)->World->Value->Tk->Prop:=fun _ _ _ _=>True
theorem tok_movable:Movable KT:=fun _ _ _ _ _ _ _ _ _=>trivial
def VLevel (lo:Nat)(w':World)(v:Value)(lv:Lx.Lv):Prop:=∃ va,v=.agg #[.int .i64 (lv.kind:Int),va]/\Tr.Seq (In lo w'.heap.size) w' 9 1 cT (fun _ _=>True) va lv.tokens
theorem levelKind_ne {b:ByteArray}(h:0<=Lx.levelKind b):b≠Lx.noText:=by
 intro e;subst e;revert h;decide
def lvOf (k:Nat):Lx.Res (List Tk)->Lx.Res Lx.Lv
 | .error e=>.error e
 | .ok (l,ts)=>.ok (⟨k,l⟩,ts)
theorem pLevel_eq {ts ts1:List Tk}{b:ByteArray}(h:Lx.pWord Lx.isToken ts.tail=.ok (b,ts1)):Lx.pLevel ts=lvOf (Lx.levelKind (Lx.hd ts)).toNat (Lx.pTokens ts1.length ts1 [(b,Lx.pl ts.tail)]):=by
 unfold Lx.pLevel;rw[h];cases hr:Lx.pTokens ts1.length ts1 [(b,Lx.pl ts.tail)] with
 | error e=>simp only[lvOf,hr]
 | ok y=>obtain⟨l,t⟩:=y;simp only[lvOf,hr]
theorem level_rd (sb cap:Nat) (L:List Tk) (p:Nat) (w:World) (ts:List Tk) (h:Rd sb cap L p w ts 0) (hlk:0<=Lx.levelKind (Lx.hd ts)) :
  Calls Tryz.prog 88 #[.pointer (some ⟨p,0,none⟩)] w (Ends sb cap L p 0 (VLevel w.heap.size) w (Lx.pLevel ts)):=by
 obtain⟨i0,hi,hz0,hz1,hz2⟩:=info_parts Tryz.info9;have hp:=h.lt;have hs:=h.lts;have hlb:=h.lb;have hlen:=h.len;have hne:=levelKind_ne hlk;have HNE:Hid _:=hne;clear hne;have h1:=h.alloc (.cells #[.int .i64 0,.slice none 0 0] 175);have h2:=h1.alloc (.cells #[.int .i64 (Lx.levelKind (Lx.hd ts)),.slice none 0 0] 175);have kB:=(Blk.new w #[.int .i64 0,.slice none 0 0] 175).alloc (.cells #[.int .i64 (Lx.levelKind (Lx.hd ts)),.slice none 0 0] 175);have kC:=Blk.new (w.alloc (.cells #[.int .i64 0,.slice none 0 0] 175)) #[.int .i64 (Lx.levelKind (Lx.hd ts)),.slice none 0 0] 175;rw[show (w.alloc (.cells #[.int .i64 0,.slice none 0 0] 175)).heap.size=w.heap.size+1 by simp]at kC;have G0:=grown_trans (grown_alloc w (.cells #[.int .i64 0,.slice none 0 0] 175) (some p)) (grown_alloc _ (.cells #[.int .i64 (Lx.levelKind (Lx.hd ts)),.slice none 0 0] 175) (some p));go_enter Tryz.func88,Tryz.ntmps88
 go_wp2_with (first
  | (go_at_call 87;refine (ahead_rd h1).mono ?_;rintro e w' ⟨rfl,hw⟩;obtain rfl:=hw.symm)
  | (go_at_call 86;refine (levelKind_any _ _).mono ?_;rintro e w' ⟨rfl,hw⟩;obtain rfl:=hw.symm))
 refine (pass_rd h2 HNE.out).mono ?_;rintro e w1 ⟨rfl,hg1,hr1⟩;have kB1:=kB.grown hg1 (by simp;omega);have kC1:=kC.grown hg1 (by simp;omega);have G1:=grown_trans G0 hg1;have s1:=hg1.size;have sA:((w.alloc (.cells #[.int .i64 0,.slice none 0 0] 175)).alloc (.cells #[.int .i64 (Lx.levelKind (Lx.hd ts)),.slice none 0 0] 175)).heap.size=w.heap.size+2:=by simp
 have c0:w1.cell? ⟨w.heap.size+1,1,none⟩=some (.slice none 0 0):=kC1.cell 1;have f0:∀ i,w1.frozen? ⟨w.heap.size+1,i,none⟩=false:=kC1.frozen;clear kB kC G0 h2 h1;have hrD:=hr1.drew;have hgD:=grown_trans G1 (grown_drew w1 (some p));have hgr0:GrowBy (w.heap.size+2) w1 9 1 cT KT (.slice none 0 0) [] [] (fun _=>False):=⟨rfl,World.ownsRow_nil _ _ _ _,fun q h=>by simp at h,fun b h=>h.elim,fun _ _ h=>h⟩;cases hr2:Lx.pWord Lx.isToken ts.tail with
 | error x =>
  obtain⟨n,a⟩:=x;have HR2:Hid _:=hr2;have HE:Hid (Lx.pLevel ts=.error (n,a)):=by show _=_;unfold Lx.pLevel;rw[hr2]
  clear hr2;go_wp2_with fail;refine wp_region_any (by kernel_rfl) ?_;refine wpAny_take (i:=0) (v:=.pointer (some ⟨w.heap.size+1,1,none⟩)) rfl (by kernel_rfl) (by kernel_rfl) (by kernel_rfl) (fun _ _ _ h=>h) (Or.inl ⟨by rfl,fun w=>by go_simp⟩) ?_;refine wpAny_take (i:=2) (v:=.pointer (some ⟨p,0,none⟩)) rfl (by kernel_rfl) (by kernel_rfl) (by kernel_rfl) (fun _ _ _ h=>h) (Or.inl ⟨by rfl,fun w=>by go_simp⟩) ?_;refine wpAny_take (i:=3) (v:=.pointer (some ⟨p,0,none⟩)) rfl (by kernel_rfl) (by kernel_rfl) (by kernel_rfl) (fun _ _ _ h=>h) (Or.inl ⟨by rfl,fun w=>by go_simp⟩) ?_;refine wpAny_take (i:=4) (v:=.pointer (some ⟨p,0,none⟩)) rfl (by kernel_rfl) (by kernel_rfl) (by kernel_rfl) (fun _ _ _ h=>h) (Or.inl ⟨by rfl,fun w=>by go_simp⟩) ?_;refine wpAny_ready (rs:=[1,5]) (by kernel_rfl) (by simp) ?_;refine AllReady.cons rfl (fun K hK=>?_) (AllReady.cons rfl (fun K hK=>?_) AllReady.nil)
  ·change if _ then Oper.wp _ _ _ w1.drew _ _ else _
   go_simp
   refine hK _ _ ?_;clear hK K;refine wpAny_ready (rs:=[5]) (by kernel_rfl) (by simp) ?_;refine AllReady.cons rfl (fun K hK=>?_) AllReady.nil;exact step_panic rfl 122 #[.pointer (some ⟨p,0,none⟩)] (by go_simp) (token_rd hrD) fun e w2 he=>by obtain⟨rfl,hg2⟩:=he.err HR2.out;exact⟨_,rfl,rfl,Ends.no HE.out (grown_trans hgD hg2)⟩
  ·change if _ then Oper.wp _ _ _ w1.drew _ _ else _
   exact step_panic rfl 122 #[.pointer (some ⟨p,0,none⟩)] (by go_simp) (token_rd hrD) fun e w2 he=>by obtain⟨rfl,hg2⟩:=he.err HR2.out;exact⟨_,rfl,rfl,Ends.no HE.out (grown_trans hgD hg2)⟩
 | ok x =>
  obtain⟨b,ts2⟩:=x;have HPL:=pLevel_eq hr2;have HPL':Hid _:=HPL;have hl2:=(Lx.pWord_len hr2).1;have hl3:=hr1.wf.tail_len;have hl4:=h.wf.tail_len;have hlt2:ts2.length+1=ts.tail.length:=by rw[hl2];exact hl3
  have HR2:Hid _:=hr2;clear hr2 HPL hl2;go_wp2_with fail
  go_region_law (first
   | (refine step_append_lies _ rfl (.tmp 15) (.tmp 20) 22 rfl (w.heap.size+2) 9 i0 _ 1 16 Tryz.underlying22 hi hz0 hz1 hz2 rfl (by decide) (.slice none 0 0) 0 [] (by simp[Act.eval]) (hown2.alloc _) ⟨w2.heap.size,0,none⟩ 1 1 (cT (.bool false,(b,Lx.pl ts.tail))) (by simp[Act.eval]) rfl (news_of (Blk.new w2 _ 9)) (by simp[cT,Value.oneCell']) (by decide) (by unfold maxLen;omega) (by omega) (by have:=hg2.size;simp at this;simp;omega) _ rfl ?_;intro g cap' w3 hown3 hgrow3 hat hlt;have kC3:=(kC2.alloc _).grown hgrow3 (by simp[Value.ownBlock]);have c03:w3.cell? ⟨w.heap.size+1,1,none⟩=some (.slice none 0 0):=kC3.cell 1;have f03:∀ i,w3.frozen? ⟨w.heap.size+1,i,none⟩=false:=kC3.frozen)
   | (refine step_call rfl 122 #[.pointer (some ⟨p,0,none⟩)] (by go_simp) (token_rd hrD) ?_;intro e w2 he;obtain⟨vv,rfl,hg2,hr2,rfl⟩:=he.ok HR2.out;refine⟨_,rfl,?_⟩;have hown2:=((hgr0.kept tok_movable (grown_drew w1 none) (by simp)).kept tok_movable hg2 (fun k hk=>by cases hk;omega)).2.1;have kC2:=kC1.drew.grown hg2 (by simp;omega);have c02:w2.cell? ⟨w.heap.size+1,1,none⟩=some (.slice none 0 0):=kC2.cell 1;have hlt2:=kC2.lt))
  all_goals
   have G3:=GrowBy.push tok_movable (hgr0.kept tok_movable (grown_drew w1 none) (by simp)) (p:=p) (by omega) (by have:w1.drew.heap.size=w1.heap.size:=rfl;omega) hg2 (.bool false,(b,Lx.pl ts.tail)) trivial (grown_alloc w2 _ none) hown3 hgrow3 hat;have kB3:=((kB1.drew.grown hg2 (by simp;omega)).alloc _).grown hgrow3 (by simp[Value.ownBlock]);have hr3:=(hr2.alloc _).grown hgrow3 (by simp[Value.ownBlock]) (by simp[Value.ownBlock]);have gg3:=grown_append (grown_trans hgD hg2) (grown_alloc w2 _ none) hgrow3 (by simp[Value.ownBlock]);have hs3:w2.heap.size+1<=w3.heap.size:=by have:=hgrow3.size;simpa using this
   have hs2:w1.heap.size<=w2.heap.size:=hg2.size;clear hown3 hgrow3 hat hown2 kC2 c02 c0 f0;go_wp2_with fail;have hlS:(w3.setCell ⟨w.heap.size+1,1,none⟩ (.slice (some ⟨g,0,none⟩) 1 cap')).heap.size=w3.heap.size:=by simp[World.setCell]
   have Gs:Grow (w.heap.size+2) (w3.setCell ⟨w.heap.size+1,1,none⟩ (.slice (some ⟨g,0,none⟩) 1 cap')) 9 1 cT KT (.slice (some ⟨g,0,none⟩) 1 cap') [(b,Lx.pl ts.tail)]:=Grow.kept tok_movable G3 (grown_set w3 (w.heap.size+1) 1 _) (fun k hk=>by cases hk;omega);have hrS:=hr3.setOther (b:=w.heap.size+1) 1 (.slice (some ⟨g,0,none⟩) 1 cap') (by omega) (by omega);have kCS:=kC3.set 1 (.slice (some ⟨g,0,none⟩) 1 cap');have kBS:=kB3.other (b':=w.heap.size+1) (i:=1) (by omega) (.slice (some ⟨g,0,none⟩) 1 cap');have gS:=grown_new gg3 (b:=w.heap.size+1) (by omega) 1 (.slice (some ⟨g,0,none⟩) 1 cap');clear G3 kC3 kB3 hr3 gg3 c03 f03
   go_loopg [] ts2.length (fun k wr=>∃ (tsr:List Tk) (acc:List Tk) (v:Value) (f:Nat),tsr.length=k/\tsr.length<=f/\acc.length+tsr.length<=ts.length/\w.heap.size+2<=wr.heap.size/\Rd sb cap L p wr tsr 0/\Blk wr (w.heap.size+1) #[.int .i64 (Lx.levelKind (Lx.hd ts)),v] 175/\Blk wr w.heap.size #[.int .i64 0,.slice none 0 0] 175 /\
     Grow (w.heap.size+2) wr 9 1 cT KT v acc/\w.grownBy wr (some p)/\Hid (Lx.pLevel ts=lvOf (Lx.levelKind (Lx.hd ts)).toNat (Lx.pTokens f tsr acc)))
   case atStart=>exact⟨ts2,[(b,Lx.pl ts.tail)],_,ts2.length,rfl,Nat.le_refl _,by simp;omega,by omega,hrS,kCS,kBS,Gs,gS,HPL'⟩
   case round =>
    obtain⟨tsr,acc,v,f,hk,hf,hacc,hsz,hr,kCr,kBr,hgrow,hg,hpi⟩:=hrel;clear Gs hrS kCS kBS gS hlS HPL' kB1 kC1 hgr0 hrD hgD hr1 hg1 hg2 hr2 he;have hne:=hr.wf.ne;obtain⟨f',rfl⟩:∃ f',f=f'+1:=⟨f-1,by omega⟩;obtain⟨ps,F,hgb⟩:=hgrow;have hown:=hgb.2.1;obtain⟨va,vk,vc,rfl⟩:=own_form hown;have c0:wr.cell? ⟨w.heap.size+1,1,none⟩=some (.slice va vk vc):=kCr.cell 1;have ck:wr.cell? ⟨w.heap.size+1,0,none⟩=some (.int .i64 (Lx.levelKind (Lx.hd ts))):=kCr.cell 0;have f0:∀ i,wr.frozen? ⟨w.heap.size+1,i,none⟩=false:=kCr.frozen
    by_cases hb:Lx.hd tsr=Lx.tSemi
    ·have HP:Hid (Lx.pLevel ts=.ok (⟨(Lx.levelKind (Lx.hd ts)).toNat,acc⟩,tsr.tail)):=by
      show _=_;rw[hpi.out];simp only[Lx.pTokens];rw[if_pos hb];rfl
     have HB:Hid (Lx.hd tsr=Lx.tSemi):=hb;clear hb hpi;go_wp2_with fail;refine (passIf_yes hr Lx.tSemi (by decide) HB.out).mono ?_;rintro e w4 ⟨rfl,hg4,hr4⟩;have kC4:=kCr.grown hg4 (by simp;omega);have kB4:=kBr.grown hg4 (by simp;omega);have d0:w4.cell? ⟨w.heap.size+1,0,none⟩=some (.int .i64 (Lx.levelKind (Lx.hd ts))):=kC4.cell 0;have d1:w4.cell? ⟨w.heap.size+1,1,none⟩=some (.slice va vk vc):=kC4.cell 1;have e0:w4.cell? ⟨w.heap.size,0,none⟩=some (.int .i64 0):=kB4.cell 0;have e1:w4.cell? ⟨w.heap.size,1,none⟩=some (.slice none 0 0):=kB4.cell 1;have f2:∀ i,w4.frozen? ⟨w.heap.size,i,none⟩=false:=kB4.frozen;have hseq:=Grow.seq tok_movable (Grow.kept tok_movable ⟨ps,F,hgb⟩ hg4 (fun k hk=>by cases hk;omega));have hkk:(((Lx.levelKind (Lx.hd ts)).toNat:Nat):Int)=Lx.levelKind (Lx.hd ts):=by omega
     have HKK:Hid _:=hkk;clear hkk;go_wp2_with fail;refine bodyPost_ret (v:=.agg #[.int .i64 (Lx.levelKind (Lx.hd ts)),.slice va vk vc]) (by simp[results,Tryz.results88,go_sem,e0,e1]) rfl ?_;refine Ends.yes HP.out (grown_new (grown_new (grown_trans hg hg4) (Nat.le_refl _) _ _) (Nat.le_refl _) _ _) ((hr4.setOther _ _ (by omega) (by omega)).setOther _ _ (by omega) (by omega)) ⟨_,by rw[HKK.out],?_⟩;refine hseq.move (fun b hb=>?_) (fun b hb=>?_) (fun _ _ h=>h)
     ·have h1:=hb.1
      rw[Below.heap_setCell _ _ _ _ (fun e=>by have e':b=w.heap.size:=e;omega),Below.heap_setCell _ _ _ _ (fun e=>by have e':b=w.heap.size:=e;omega)]
     ·have h1:=hb.1
      have h2:=hb.2;exact⟨by omega,by simpa [World.setCell]using h2⟩
    ·have HB:Hid (¬ Lx.hd tsr=Lx.tSemi):=hb
     clear hb;have hrD:=hr.drew;have hgD:=grown_trans hg (grown_drew wr (some p));cases hr4:Lx.pWord Lx.isToken tsr with
     | error x =>
      obtain⟨n,a⟩:=x;have HE:Hid (Lx.pLevel ts=.error (n,a)):=by
       show _=_;rw[hpi.out];simp only[Lx.pTokens];rw[if_neg HB.out,hr4];rfl
      have HR4:Hid _:=hr4;clear hr4 hpi
      go_wp2_with (first
       | (go_at_call 123;refine (passIf_no hr Lx.tSemi HB.out).mono ?_;rintro e w' ⟨rfl,hw⟩;obtain rfl:=hw.symm))
      refine wp_region_any (by kernel_rfl) ?_;refine wpAny_take (i:=0) (v:=.pointer (some ⟨w.heap.size+1,1,none⟩)) rfl (by kernel_rfl) (by kernel_rfl) (by kernel_rfl) (fun _ _ _ h=>h) (Or.inl ⟨by rfl,fun w=>by go_simp⟩) ?_;refine wpAny_take (i:=2) (v:=.pointer (some ⟨p,0,none⟩)) rfl (by kernel_rfl) (by kernel_rfl) (by kernel_rfl) (fun _ _ _ h=>h) (Or.inl ⟨by rfl,fun w=>by go_simp⟩) ?_;refine wpAny_take (i:=3) (v:=.pointer (some ⟨p,0,none⟩)) rfl (by kernel_rfl) (by kernel_rfl) (by kernel_rfl) (fun _ _ _ h=>h) (Or.inl ⟨by rfl,fun w=>by go_simp⟩) ?_;refine wpAny_take (i:=4) (v:=.pointer (some ⟨p,0,none⟩)) rfl (by kernel_rfl) (by kernel_rfl) (by kernel_rfl) (fun _ _ _ h=>h) (Or.inl ⟨by rfl,fun w=>by go_simp⟩) ?_;refine wpAny_ready (rs:=[1,5]) (by kernel_rfl) (by simp) ?_;refine AllReady.cons rfl (fun K hK=>?_) (AllReady.cons rfl (fun K hK=>?_) AllReady.nil)
      ·change if _ then Oper.wp _ _ _ wr.drew _ _ else _
       go_simp
       refine hK _ _ ?_;clear hK K;refine wpAny_ready (rs:=[5]) (by kernel_rfl) (by simp) ?_;refine AllReady.cons rfl (fun K hK=>?_) AllReady.nil;exact step_panic rfl 122 #[.pointer (some ⟨p,0,none⟩)] (by go_simp) (token_rd hrD) fun e w2 he=>by obtain⟨rfl,hg2⟩:=he.err HR4.out;exact⟨_,rfl,rfl,Ends.no HE.out (grown_trans hgD hg2)⟩
      ·change if _ then Oper.wp _ _ _ wr.drew _ _ else _
       exact step_panic rfl 122 #[.pointer (some ⟨p,0,none⟩)] (by go_simp) (token_rd hrD) fun e w2 he=>by obtain⟨rfl,hg2⟩:=he.err HR4.out;exact⟨_,rfl,rfl,Ends.no HE.out (grown_trans hgD hg2)⟩
     | ok x =>
      obtain⟨bb,ts4⟩:=x;have hl5:=(Lx.pWord_len hr4).1;have hl6:=hr.wf.tail_len;have hlt4:ts4.length+1=tsr.length:=by rw[hl5];exact hl6
      have HPI:Hid (Lx.pLevel ts=lvOf (Lx.levelKind (Lx.hd ts)).toNat (Lx.pTokens f' ts4 (acc++[(bb,Lx.pl tsr)]))):=by
       show _=_;rw[hpi.out];simp only[Lx.pTokens];rw[if_neg HB.out,hr4]
      have HR4:Hid _:=hr4;clear hr4 hpi hl5
      go_wp2_with (first
       | (go_at_call 123;refine (passIf_no hr Lx.tSemi HB.out).mono ?_;rintro e w' ⟨rfl,hw⟩;obtain rfl:=hw.symm))
      go_region_law (first
       | (refine step_append_lies _ rfl (.tmp 29) (.tmp 34) 22 rfl (w.heap.size+2) 9 i0 _ 1 16 Tryz.underlying22 hi hz0 hz1 hz2 rfl (by decide) (.slice va vk vc) acc.length (ps.flatMap cT) (by simp[Act.eval]) (hown5.alloc _) ⟨w5.heap.size,0,none⟩ 1 1 (cT (.bool false,(bb,Lx.pl tsr))) (by simp[Act.eval]) rfl (news_of (Blk.new w5 _ 9)) (by simp[cT,Value.oneCell']) (by decide) (by unfold maxLen;omega) (by omega) (by have:=hg5.size;simp at this;simp;omega) _ rfl ?_;intro g6 cap6 w6 hown6 hgrow6 hat6 hlt6;have kC6:=(kC5.alloc _).grown hgrow6 (fun e=>by have:=(hown.lt _ e.symm).1;omega);have c06:w6.cell? ⟨w.heap.size+1,1,none⟩=some (.slice va vk vc):=kC6.cell 1;have f06:∀ i,w6.frozen? ⟨w.heap.size+1,i,none⟩=false:=kC6.frozen)
       | (refine step_call rfl 122 #[.pointer (some ⟨p,0,none⟩)] (by go_simp) (token_rd hrD) ?_;intro e w5 he;obtain⟨vv,rfl,hg5,hr5,rfl⟩:=he.ok HR4.out;refine⟨_,rfl,?_⟩;have hown5:=((hgb.kept tok_movable (grown_drew wr none) (by simp)).kept tok_movable hg5 (fun k hk=>by cases hk;omega)).2.1;have kC5:=kCr.drew.grown hg5 (by simp;omega);have c05:w5.cell? ⟨w.heap.size+1,1,none⟩=some (.slice va vk vc):=kC5.cell 1;have hlt5:=kC5.lt))
      all_goals
       have G6:=GrowBy.push tok_movable (hgb.kept tok_movable (grown_drew wr none) (by simp)) (p:=p) (by omega) (by have:wr.drew.heap.size=wr.heap.size:=rfl;omega) hg5 (.bool false,(bb,Lx.pl tsr)) trivial (grown_alloc w5 _ none) hown6 hgrow6 hat6;have kB6:=((kBr.drew.grown hg5 (by simp;omega)).alloc _).grown hgrow6 (fun e=>by have:=(hown.lt _ e.symm).1;omega);have hr6:=(hr5.alloc _).grown hgrow6 (fun e=>by have:=(hown.lt _ e.symm).1;omega) (fun e=>by have:=(hown.lt _ e.symm).1;omega);have gg6:=grown_append (grown_trans hgD hg5) (grown_alloc w5 _ none) hgrow6 (fun k hk=>by have:=(hown.lt _ hk).1;omega);have hs6:=hgrow6.size;have hs5:=hg5.size;have hsD:wr.drew.heap.size=wr.heap.size:=rfl;clear hown6 hgrow6 hat6 hown5 kC5 c05 c0 f0 he;go_wp2_with fail;go_roundg ts4.length
       case measure=>omega
       case rel =>
        refine⟨ts4,acc++[(bb,Lx.pl tsr)],_,f',rfl,by omega,by simp;omega,?_,hr6.setOther _ _ (by omega) (by omega),kC6.set 1 _,kB6.other (by omega) _,?_,grown_new gg6 (by omega) _ _,HPI⟩
        ·simp only[World.setCell,Array.size_modify];have:=hs6;simp at this;omega
        ·exact Grow.kept tok_movable G6 (grown_set w6 (w.heap.size+1) 1 _) (fun k hk=>by cases hk;omega)
end Go.Proofs.YtlcppnabbicmoaaGreatDoor

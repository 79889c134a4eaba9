import Derived.Test.YtlcppnabbicmoaaGreatDoorME06
set_option maxHeartbeats 8000000
set_option maxRecDepth 1000000
namespace Go.Proofs.YtlcppnabbicmoaaGreatDoor
open Go.RowKit
open Lx (Tk)
open Tr
theorem Tryz.info175:(Tryz.prog.info? 175).map (fun i=>(i.zero,i.size,i.bytes))=some (some (.agg #[.int .i64 0,.slice none 0 0]),2,32):=by kernel_rfl
theorem Tryz.info179:(Tryz.prog.info? 179).map (fun i=>(i.zero,i.size,i.bytes))=some (some (.agg #[.string ⟨#[]⟩,.slice none 0 0]),2,40):=by kernel_rfl
def cL:Value × Lx.Lv->List Value:=fun q=>[.int .i64 (q.2.kind:Int),q.1]
def KL:(Nat->Prop)->World->Value->Lx.Lv->Prop:=fun F w va lv=>Tr.Seq F w 9 1 cT (fun _ _=>True) va lv.tokens
theorem lev_movable:Movable KL:=fun _ _ _ _ _ _ hs hF h=>Seq.move h hs hF (fun _ _ h=>h)
def cR:Value × Lx.Rl->List Value:=fun q=>[.string q.2.name,q.1]
def KR:(Nat->Prop)->World->Value->Lx.Rl->Prop:=fun F w va r=>AltsInS YP 9 F w va r.alts
theorem rul_movable:Movable KR:=fun _ _ _ _ _ _ hs hF h=>AltsInS.move hs hF h
def GramIn (F:Nat->Prop)(w:World)(vl vr:Value)(g:Lx.Gr):Prop:=Tr.Seq F w 175 2 cL (KL F w) vl g.levels/\Tr.SeqS F w 179 2 cR KR vr g.rules
def VGram (lo:Nat)(w':World)(v:Value)(g:Lx.Gr):Prop:=∃ vl vr,v=.agg #[vl,vr]/\GramIn (In lo w'.heap.size) w' vl vr g
theorem GramIn.move {F F':Nat->Prop}{w w':World}{vl vr:Value}{g:Lx.Gr}(h:GramIn F w vl vr g)(hs:∀ b,F b->w'.heap[b]?=w.heap[b]?)(hF:∀ b,F b->F' b):GramIn F' w' vl vr g :=
 ⟨h.1.move hs hF fun _ _ h=>lev_movable _ _ _ _ _ _ hs hF h,h.2.move hs hF fun _ _ _ hA h=>rul_movable _ _ _ _ _ _ (fun b hb=>hs b (hA b hb)) (fun _ h=>h) h⟩
theorem grammar_rd (sb cap:Nat) (L:List Tk) (p:Nat) (w:World) (ts:List Tk) (h:Rd sb cap L p w ts 0) :
  Calls Tryz.prog 44 #[.pointer (some ⟨p,0,none⟩)] w (Ends sb cap L p 0 (VGram w.heap.size) w (Lx.pGrammar ts)):=by
 obtain⟨i57,hi57,hz057,hz157,hz257⟩:=info_parts Tryz.info175;obtain⟨i55,hi55,hz055,hz155,hz255⟩:=info_parts Tryz.info179;have hp:=h.lt;have hs:=h.lts;have hlb:=h.lb;have hlen:=h.len;have h2:=(h.alloc (.cells #[.slice none 0 0,.slice none 0 0] 65)).alloc (.cells #[.slice none 0 0,.slice none 0 0] 65);have kB:=(Blk.new w #[.slice none 0 0,.slice none 0 0] 65).alloc (.cells #[.slice none 0 0,.slice none 0 0] 65);have kC:=Blk.new (w.alloc (.cells #[.slice none 0 0,.slice none 0 0] 65)) #[.slice none 0 0,.slice none 0 0] 65;have G0:=grown_trans (grown_alloc w (.cells #[.slice none 0 0,.slice none 0 0] 65) (some p)) (grown_alloc _ (.cells #[.slice none 0 0,.slice none 0 0] 65) (some p));rw[show (w.alloc (.cells #[.slice none 0 0,.slice none 0 0] 65)).heap.size=w.heap.size+1 by simp]at kC;have HE0:Hid _:=Lx.pGrammar_eq ts;go_enter Tryz.func44,Tryz.ntmps44;go_wp2_with fail
 go_loopg [] ts.length (fun k wz=>∃ (tsr:List Tk) (acc:List Lx.Lv) (v:Value) (f:Nat),tsr.length=k/\tsr.length<=f/\acc.length+tsr.length<=ts.length/\w.heap.size+2<=wz.heap.size/\Rd sb cap L p wz tsr 0/\Blk wz (w.heap.size+1) #[v,.slice none 0 0] 65/\Blk wz w.heap.size #[.slice none 0 0,.slice none 0 0] 65 /\
   Grow (w.heap.size+2) wz 175 2 cL KL v acc/\w.grownBy wz (some p)/\Hid (Lx.pGrammar ts=Lx.grOf (Lx.pLevels f tsr acc)))
 case atStart=>exact⟨ts,[],_,ts.length,rfl,Nat.le_refl _,by simp,by simp,h2,kC,kB,Grow.nil _ _ _ _ _ _,G0,HE0⟩
 case round =>
  revert wr;intro wz hrel;obtain⟨tsr,acc,v,f,hk,hf,hacc,hsz,hr,kCr,kBr,hgrow,hg,hpi⟩:=hrel;clear h2 kB kC G0 HE0;have hne:=hr.wf.ne;obtain⟨f',rfl⟩:∃ f',f=f'+1:=⟨f-1,by omega⟩;obtain⟨ps,F,hgb⟩:=hgrow;have hown:=hgb.2.1;obtain⟨va,vk,vc,rfl⟩:=own_form hown;have c0:wz.cell? ⟨w.heap.size+1,0,none⟩=some (.slice va vk vc):=kCr.cell 0;have c1:wz.cell? ⟨w.heap.size+1,1,none⟩=some (.slice none 0 0):=kCr.cell 1;have f0:∀ i,wz.frozen? ⟨w.heap.size+1,i,none⟩=false:=kCr.frozen;have hrD:=hr.drew;have hgD:=grown_trans hg (grown_drew wz (some p))
  by_cases hlk:0<=Lx.levelKind (Lx.hd tsr)
  ·cases hr4:Lx.pLevel tsr with
   | error x =>
    obtain⟨n,a⟩:=x;have HE:Hid (Lx.pGrammar ts=.error (n,a)):=by
     show _=_;rw[hpi.out];simp only[Lx.pLevels];rw[if_pos hlk,hr4];rfl
    have HR4:Hid _:=hr4;clear hr4 hpi
    go_wp2_with (first
     | (go_at_call 87;refine (ahead_rd hr).mono ?_;rintro e w' ⟨rfl,hw⟩;obtain rfl:=hw.symm)
     | (go_at_call 86;refine (levelKind_any _ _).mono ?_;rintro e w' ⟨rfl,hw⟩;obtain rfl:=hw.symm))
    refine wp_region_any (by kernel_rfl) ?_;refine wpAny_take (i:=0) (v:=.pointer (some ⟨w.heap.size+1,0,none⟩)) rfl (by kernel_rfl) (by kernel_rfl) (by kernel_rfl) (fun _ _ _ h=>h) (Or.inl ⟨by rfl,fun w=>by go_simp⟩) ?_;refine wpAny_take (i:=2) (v:=.pointer (some ⟨p,0,none⟩)) rfl (by kernel_rfl) (by kernel_rfl) (by kernel_rfl) (fun _ _ _ h=>h) (Or.inl ⟨by rfl,fun w=>by go_simp⟩) ?_;refine wpAny_ready (rs:=[1,3]) (by kernel_rfl) (by simp) ?_;refine AllReady.cons rfl (fun K hK=>?_) (AllReady.cons rfl (fun K hK=>?_) AllReady.nil)
    ·change if _ then Oper.wp _ _ _ wz.drew _ _ else _
     go_simp
     refine hK _ _ ?_;clear hK K;refine wpAny_ready (rs:=[3]) (by kernel_rfl) (by simp) ?_;refine AllReady.cons rfl (fun K hK=>?_) AllReady.nil;exact step_panic rfl 88 #[.pointer (some ⟨p,0,none⟩)] (by go_simp) (level_rd sb cap L p _ tsr hrD hlk) fun e w2 he=>by obtain⟨rfl,hg2⟩:=he.err HR4.out;exact⟨_,rfl,rfl,Ends.no HE.out (grown_trans hgD hg2)⟩
    ·change if _ then Oper.wp _ _ _ wz.drew _ _ else _
     exact step_panic rfl 88 #[.pointer (some ⟨p,0,none⟩)] (by go_simp) (level_rd sb cap L p _ tsr hrD hlk) fun e w2 he=>by obtain⟨rfl,hg2⟩:=he.err HR4.out;exact⟨_,rfl,rfl,Ends.no HE.out (grown_trans hgD hg2)⟩
   | ok x =>
    obtain⟨lv,ts4⟩:=x;have hl5:=Lx.pLevel_len hr4;have hl6:=hr.wf.tail_len;have HPI:Hid (Lx.pGrammar ts=Lx.grOf (Lx.pLevels f' ts4 (acc++[lv]))):=by
     show _=_;rw[hpi.out];simp only[Lx.pLevels];rw[if_pos hlk,hr4]
    have HR4:Hid _:=hr4;clear hr4 hpi
    go_wp2_with (first
     | (go_at_call 87;refine (ahead_rd hr).mono ?_;rintro e w' ⟨rfl,hw⟩;obtain rfl:=hw.symm)
     | (go_at_call 86;refine (levelKind_any _ _).mono ?_;rintro e w' ⟨rfl,hw⟩;obtain rfl:=hw.symm))
    go_region_law (first
     | (refine step_append_lies _ rfl (.tmp 11) (.tmp 14) 62 rfl (w.heap.size+2) 175 i57 _ 2 32 Tryz.underlying62 hi57 hz057 hz157 hz257 rfl (by decide) (.slice va vk vc) acc.length (ps.flatMap cL) (by simp[Act.eval]) (hown5.alloc _) ⟨w5.heap.size,0,none⟩ 1 1 (cL (.slice xa xk xc,lv)) (by simp[Act.eval]) rfl (news_of (Blk.new w5 _ 175)) (by simp[cL,Value.oneCell']) (by decide) (by unfold maxLen;omega) (by omega) (by have:=hg5.size;have:wz.drew.heap.size=wz.heap.size:=rfl;simp;omega) _ rfl ?_;intro g5b cap5b w5b hown5b hgrow5b hat5b hlt5b;have kC5b:=(kC5.alloc _).grown hgrow5b (fun e=>by have:=(hown.lt _ e.symm).1;omega);have c05b:w5b.cell? ⟨w.heap.size+1,0,none⟩=some (.slice va vk vc):=kC5b.cell 0;have f05b:∀ i,w5b.frozen? ⟨w.heap.size+1,i,none⟩=false:=kC5b.frozen)
     | (refine step_call rfl 88 #[.pointer (some ⟨p,0,none⟩)] (by go_simp) (level_rd sb cap L p _ tsr hrD hlk) ?_;intro e w5 he;obtain⟨vv,rfl,hg5,hr5,hv5⟩:=he.ok HR4.out;refine⟨_,rfl,?_⟩;obtain⟨vx,rfl,hax⟩:=hv5;obtain⟨xa,xk,xc,rfl⟩:=Seq.form hax;have hown5:=((hgb.kept lev_movable (grown_drew wz none) (by simp)).kept lev_movable hg5 (fun k hk=>by cases hk;omega)).2.1;have kC5:=kCr.drew.grown hg5 (by simp;omega);have c05:w5.cell? ⟨w.heap.size+1,0,none⟩=some (.slice va vk vc):=kC5.cell 0;have hlt5:=kC5.lt))
    all_goals
     have G5b:=GrowBy.push lev_movable (hgb.kept lev_movable (grown_drew wz none) (by simp)) (p:=p) (by omega) (by have:wz.drew.heap.size=wz.heap.size:=rfl;omega) hg5 (.slice xa xk xc,lv) hax (grown_alloc w5 _ none) hown5b hgrow5b hat5b;have kB5b:=((kBr.drew.grown hg5 (by simp;omega)).alloc _).grown hgrow5b (fun e=>by have:=(hown.lt _ e.symm).1;omega);have hr5b:=(hr5.alloc _).grown hgrow5b (fun e=>by have:=(hown.lt _ e.symm).1;omega) (fun e=>by have:=(hown.lt _ e.symm).1;omega);have gg5b:=grown_append (grown_trans hgD hg5) (grown_alloc w5 _ none) hgrow5b (fun k hk=>by have:=(hown.lt _ hk).1;omega);have hs5b:w5.heap.size+1<=w5b.heap.size:=by have:=hgrow5b.size;simpa using this
     have hs5:wz.heap.size<=w5.heap.size:=hg5.size;clear hown5b hgrow5b hat5b hown5 kC5 c05 c0 f0 he;go_wp2_with fail;go_roundg ts4.length
     case measure=>omega
     case rel =>
      refine⟨ts4,acc++[lv],_,f',rfl,by omega,by simp;omega,?_,hr5b.setOther _ _ (by omega) (by omega),kC5b.set 0 _,kB5b.other (by omega) _,?_,grown_new gg5b (by omega) _ _,HPI⟩
      ·simp only[World.setCell,Array.size_modify];omega
      ·exact Grow.kept lev_movable G5b (grown_set w5b (w.heap.size+1) 0 _) (fun k hk=>by cases hk;omega)
  ·have HPG:Hid (Lx.pGrammar ts=Lx.afterLv acc tsr):=by
    show _=_;rw[hpi.out];simp only[Lx.pLevels];rw[if_neg hlk];rfl
   have hseq:=Grow.seq lev_movable ⟨ps,F,hgb⟩;have hgr0:GrowByS wz.heap.size wz 179 2 cR KR (.slice none 0 0) [] [] []:=⟨rfl,World.ownsRow_nil _ _ _ _,(fun j q A h=>by simp at h),(fun A h=>by cases h),(fun g h A hA=>by cases hA),List.Pairwise.nil,rfl⟩;clear hpi;cases hr4:Lx.pRule tsr with
   | error x =>
    obtain⟨n,a⟩:=x;have HE:Hid (Lx.pGrammar ts=.error (n,a)):=by
     show _=_;rw[HPG.out];unfold Lx.afterLv;rw[hr4]
    have HR4:Hid _:=hr4;clear hr4 HPG
    go_wp2_with (first
     | (go_at_call 87;refine (ahead_rd hr).mono ?_;rintro e w' ⟨rfl,hw⟩;obtain rfl:=hw.symm)
     | (go_at_call 86;refine (levelKind_any _ _).mono ?_;rintro e w' ⟨rfl,hw⟩;obtain rfl:=hw.symm))
    refine wp_region_any (by kernel_rfl) ?_;refine wpAny_take (i:=0) (v:=.pointer (some ⟨w.heap.size+1,1,none⟩)) rfl (by kernel_rfl) (by kernel_rfl) (by kernel_rfl) (fun _ _ _ h=>h) (Or.inl ⟨by rfl,fun w=>by go_simp⟩) ?_;refine wpAny_take (i:=2) (v:=.pointer (some ⟨p,0,none⟩)) rfl (by kernel_rfl) (by kernel_rfl) (by kernel_rfl) (fun _ _ _ h=>h) (Or.inl ⟨by rfl,fun w=>by go_simp⟩) ?_;refine wpAny_ready (rs:=[1,3]) (by kernel_rfl) (by simp) ?_;refine AllReady.cons rfl (fun K hK=>?_) (AllReady.cons rfl (fun K hK=>?_) AllReady.nil)
    ·change if _ then Oper.wp _ _ _ wz.drew _ _ else _
     go_simp
     refine hK _ _ ?_;clear hK K;refine wpAny_ready (rs:=[3]) (by kernel_rfl) (by simp) ?_;refine AllReady.cons rfl (fun K hK=>?_) AllReady.nil;exact step_panic rfl 89 #[.pointer (some ⟨p,0,none⟩)] (by go_simp) (rule_rd sb cap L p _ tsr hrD) fun e w2 he=>by obtain⟨rfl,hg2⟩:=he.err HR4.out;exact⟨_,rfl,rfl,Ends.no HE.out (grown_trans hgD hg2)⟩
    ·change if _ then Oper.wp _ _ _ wz.drew _ _ else _
     exact step_panic rfl 89 #[.pointer (some ⟨p,0,none⟩)] (by go_simp) (rule_rd sb cap L p _ tsr hrD) fun e w2 he=>by obtain⟨rfl,hg2⟩:=he.err HR4.out;exact⟨_,rfl,rfl,Ends.no HE.out (grown_trans hgD hg2)⟩
   | ok x =>
    obtain⟨rl,ts4⟩:=x;have hl5:=Lx.pRule_len hr4;have hl6:=hr.wf.tail_len;have HPI:Hid (Lx.pGrammar ts=Lx.rulesOf acc (Lx.pRules ts4.length ts4 [rl])):=by
     show _=_;rw[HPG.out];unfold Lx.afterLv;rw[hr4]
    have HR4:Hid _:=hr4;clear hr4 HPG
    go_wp2_with (first
     | (go_at_call 87;refine (ahead_rd hr).mono ?_;rintro e w' ⟨rfl,hw⟩;obtain rfl:=hw.symm)
     | (go_at_call 86;refine (levelKind_any _ _).mono ?_;rintro e w' ⟨rfl,hw⟩;obtain rfl:=hw.symm))
    go_region_law (first
     | (refine step_append_lies _ rfl (.tmp 18) (.tmp 21) 63 rfl wz.heap.size 179 i55 _ 2 40 Tryz.underlying63 hi55 hz055 hz155 hz255 rfl (by decide) (.slice none 0 0) 0 [] (by simp[Act.eval]) (hown5.alloc _) ⟨w5.heap.size,0,none⟩ 1 1 (cR (.slice xa xk xc,rl)) (by simp[Act.eval]) rfl (news_of (Blk.new w5 _ 179)) (by simp[cR,Value.oneCell']) (by decide) (by unfold maxLen;omega) (by omega) (by have:=hg5.size;have:wz.drew.heap.size=wz.heap.size:=rfl;simp;omega) _ rfl ?_;intro g5b cap5b w5b hown5b hgrow5b hat5b hlt5b;have kC5b:=(kC5.alloc _).grown hgrow5b (by simp[Value.ownBlock]);have c05b:w5b.cell? ⟨w.heap.size+1,1,none⟩=some (.slice none 0 0):=kC5b.cell 1;have f05b:∀ i,w5b.frozen? ⟨w.heap.size+1,i,none⟩=false:=kC5b.frozen)
     | (refine step_call rfl 89 #[.pointer (some ⟨p,0,none⟩)] (by go_simp) (rule_rd sb cap L p _ tsr hrD) ?_;intro e w5 he;obtain⟨vv,rfl,hg5,hr5,hv5⟩:=he.ok HR4.out;refine⟨_,rfl,?_⟩;obtain⟨vx,rfl,hax⟩:=hv5;obtain⟨xa,xk,xc,rfl⟩:=AltsInS.form hax;have hown5:=((hgr0.kept rul_movable (grown_drew wz none) (by simp)).kept rul_movable hg5 (fun k hk=>by cases hk;omega)).2.1;have kC5:=kCr.drew.grown hg5 (by simp;omega);have c05:w5.cell? ⟨w.heap.size+1,1,none⟩=some (.slice none 0 0):=kC5.cell 1;have hlt5:=kC5.lt))
    all_goals
     have G5b:=GrowByS.push rul_movable (hgr0.kept rul_movable (grown_drew wz none) (by simp)) (p:=p) (by omega) (Nat.le_refl _) hg5 (.slice xa xk xc,rl) hax (grown_alloc w5 _ none) hown5b hgrow5b hat5b;have kB5b:=((kBr.drew.grown hg5 (by simp;omega)).alloc _).grown hgrow5b (by simp[Value.ownBlock]);have hr5b:=(hr5.alloc _).grown hgrow5b (by simp[Value.ownBlock]) (by simp[Value.ownBlock]);have gg5b:=grown_append (grown_trans hgD hg5) (grown_alloc w5 _ none) hgrow5b (by simp[Value.ownBlock]);have hs5b:w5.heap.size+1<=w5b.heap.size:=by have:=hgrow5b.size;simpa using this
     have hs5:wz.heap.size<=w5.heap.size:=hg5.size;have hkeep:∀ b,w.heap.size+2<=b->b<wz.heap.size->(w5b.setCell ⟨w.heap.size+1,1,none⟩ (.slice (some ⟨g5b,0,none⟩) 1 cap5b)).heap[b]?=wz.heap[b]?:=fun b h1 h2=>by
      rw[Below.heap_setCell _ _ _ _ (fun e=>by have e':b=w.heap.size+1:=e;omega),hgrow5b.block b (by simp;omega) (by simp[Value.ownBlock]),Below.heap_alloc _ _ _ (by omega),hg5.block b h2 (by simp;omega)];rfl
     have HK:Hid _:=hkeep;have GS:GrowS wz.heap.size (w5b.setCell ⟨w.heap.size+1,1,none⟩ (.slice (some ⟨g5b,0,none⟩) 1 cap5b)) 179 2 cR KR (.slice (some ⟨g5b,0,none⟩) 1 cap5b) [rl]:=GrowS.kept rul_movable G5b (grown_set w5b (w.heap.size+1) 1 _) (fun k hk=>by cases hk;omega);have hrS:=hr5b.setOther (b:=w.heap.size+1) 1 (.slice (some ⟨g5b,0,none⟩) 1 cap5b) (by omega) (by omega);have kCS:=kC5b.set 1 (.slice (some ⟨g5b,0,none⟩) 1 cap5b);have kBS:=kB5b.other (b':=w.heap.size+1) (i:=1) (by omega) (.slice (some ⟨g5b,0,none⟩) 1 cap5b);have gS:=grown_new gg5b (b:=w.heap.size+1) (by omega) 1 (.slice (some ⟨g5b,0,none⟩) 1 cap5b);have szS:(w5b.setCell ⟨w.heap.size+1,1,none⟩ (.slice (some ⟨g5b,0,none⟩) 1 cap5b)).heap.size=w5b.heap.size:=by simp[World.setCell]
     clear hown5b hgrow5b hat5b hown5 kC5 c05 c0 c1 f0 he hkeep G5b hr5b gg5b kB5b;go_wp2_with fail
     go_loopg [] ts4.length (fun k wr=>∃ (tsq:List Tk) (acq:List Lx.Rl) (v:Value) (f:Nat),tsq.length=k/\tsq.length<=f/\acq.length+tsq.length<=ts.length/\wz.heap.size<=wr.heap.size/\Rd sb cap L p wr tsq 0/\Blk wr (w.heap.size+1) #[.slice va vk vc,v] 65/\Blk wr w.heap.size #[.slice none 0 0,.slice none 0 0] 65 /\
       GrowS wz.heap.size wr 179 2 cR KR v acq/\w.grownBy wr (some p)/\Hid (∀ b,w.heap.size+2<=b->b<wz.heap.size->wr.heap[b]?=wz.heap[b]?)/\Hid (Lx.pGrammar ts=Lx.rulesOf acc (Lx.pRules f tsq acq)))
     case atStart=>exact⟨ts4,[rl],_,ts4.length,rfl,Nat.le_refl _,by simp;omega,by omega,hrS,kCS,kBS,GS,gS,HK,HPI⟩
     case round =>
      obtain⟨tsq,acq,v,f2,hk2,hf2,hacc2,hsz2,hrq,kCq,kBq,hgrow2,hgq,hkeep,hpi2⟩:=hrel;clear hrS kCS kBS GS gS HK HPI kC5b c05b f05b hrD hgD hgr0 hg5 hr5 hax;have hne2:=hrq.wf.ne;obtain⟨f2',rfl⟩:∃ f',f2=f'+1:=⟨f2-1,by omega⟩;obtain⟨ps2,F2,hgb2⟩:=hgrow2;have hown2:=hgb2.2.1;obtain⟨va2,vk2,vc2,rfl⟩:=own_form hown2;have q0:wr.cell? ⟨w.heap.size+1,0,none⟩=some (.slice va vk vc):=kCq.cell 0;have q1:wr.cell? ⟨w.heap.size+1,1,none⟩=some (.slice va2 vk2 vc2):=kCq.cell 1;have qf:∀ i,wr.frozen? ⟨w.heap.size+1,i,none⟩=false:=kCq.frozen
      by_cases hend:Lx.hd tsq=Lx.noText
      ·have HP:Hid (Lx.pGrammar ts=.ok (⟨acc,acq⟩,tsq)):=by
        show _=_;rw[hpi2.out];simp only[Lx.pRules];rw[if_pos hend];rfl
       have HEN:Hid (Lx.hd tsq=Lx.noText):=hend;clear hend hpi2;have e0:wr.cell? ⟨w.heap.size,0,none⟩=some (.slice none 0 0):=kBq.cell 0;have e1:wr.cell? ⟨w.heap.size,1,none⟩=some (.slice none 0 0):=kBq.cell 1;have ef:∀ i,wr.frozen? ⟨w.heap.size,i,none⟩=false:=kBq.frozen;have hseq2:=GrowS.seq ⟨ps2,F2,hgb2⟩
       go_wp2_with (first
        | (go_at_call 90;refine (sees_rd hrq Lx.noText).mono ?_;rintro e w' ⟨rfl,hw⟩;obtain rfl:=hw.symm;rw[decide_eq_true HEN.out]))
       refine bodyPost_ret (v:=.agg #[.slice va vk vc,.slice va2 vk2 vc2]) (by simp[results,Tryz.results44,go_sem,e0,e1]) rfl ?_;refine Ends.yes HP.out (grown_new (grown_new hgq (Nat.le_refl _) _ _) (Nat.le_refl _) _ _) ((hrq.setOther _ _ (by omega) (by omega)).setOther _ _ (by omega) (by omega)) ⟨_,_,rfl,?_,?_⟩
       ·have hs':∀ b,In (w.heap.size+2) wz.heap.size b->((wr.setCell ⟨w.heap.size,0,none⟩ (.slice va vk vc)).setCell ⟨w.heap.size,1,none⟩ (.slice va2 vk2 vc2)).heap[b]?=wz.heap[b]?:=fun b hb=>by
         have h1:=hb.1;rw[Below.heap_setCell _ _ _ _ (fun e=>by have e':b=w.heap.size:=e;omega),Below.heap_setCell _ _ _ _ (fun e=>by have e':b=w.heap.size:=e;omega)];exact hkeep.out b hb.1 hb.2
        have hF':∀ b,In (w.heap.size+2) wz.heap.size b->In w.heap.size ((wr.setCell ⟨w.heap.size,0,none⟩ (.slice va vk vc)).setCell ⟨w.heap.size,1,none⟩ (.slice va2 vk2 vc2)).heap.size b:=fun b hb=>by
         have h1:=hb.1;have h2:=hb.2;exact⟨by omega,by simp[World.setCell];omega⟩
        exact hseq.move hs' hF' fun _ _ h=>lev_movable _ _ _ _ _ _ hs' hF' h
       ·have hs':∀ b,In wz.heap.size wr.heap.size b->((wr.setCell ⟨w.heap.size,0,none⟩ (.slice va vk vc)).setCell ⟨w.heap.size,1,none⟩ (.slice va2 vk2 vc2)).heap[b]?=wr.heap[b]?:=fun b hb=>by
         have h1:=hb.1;rw[Below.heap_setCell _ _ _ _ (fun e=>by have e':b=w.heap.size:=e;omega),Below.heap_setCell _ _ _ _ (fun e=>by have e':b=w.heap.size:=e;omega)]
        have hF':∀ b,In wz.heap.size wr.heap.size b->In w.heap.size ((wr.setCell ⟨w.heap.size,0,none⟩ (.slice va vk vc)).setCell ⟨w.heap.size,1,none⟩ (.slice va2 vk2 vc2)).heap.size b:=fun b hb=>by
         have h1:=hb.1;have h2:=hb.2;exact⟨by omega,by simp[World.setCell];omega⟩
        exact hseq2.move hs' hF' fun _ _ _ hA h=>rul_movable _ _ _ _ _ _ (fun b hb=>hs' b (hA b hb)) (fun _ h=>h) h
      ·have HEN:Hid (¬ Lx.hd tsq=Lx.noText):=hend
       clear hend;have hrD:=hrq.drew;have hgD:=grown_trans hgq (grown_drew wr (some p));cases hr6:Lx.pRule tsq with
       | error x =>
        obtain⟨n,a⟩:=x;have HE:Hid (Lx.pGrammar ts=.error (n,a)):=by
         show _=_;rw[hpi2.out];simp only[Lx.pRules];rw[if_neg HEN.out,hr6];rfl
        have HR6:Hid _:=hr6;clear hr6 hpi2
        go_wp2_with (first
         | (go_at_call 90;refine (sees_rd hrq Lx.noText).mono ?_;rintro e w' ⟨rfl,hw⟩;obtain rfl:=hw.symm;rw[decide_eq_false HEN.out]))
        refine wp_region_any (by kernel_rfl) ?_;refine wpAny_take (i:=0) (v:=.pointer (some ⟨w.heap.size+1,1,none⟩)) rfl (by kernel_rfl) (by kernel_rfl) (by kernel_rfl) (fun _ _ _ h=>h) (Or.inl ⟨by rfl,fun w=>by go_simp⟩) ?_;refine wpAny_take (i:=2) (v:=.pointer (some ⟨p,0,none⟩)) rfl (by kernel_rfl) (by kernel_rfl) (by kernel_rfl) (fun _ _ _ h=>h) (Or.inl ⟨by rfl,fun w=>by go_simp⟩) ?_;refine wpAny_ready (rs:=[1,3]) (by kernel_rfl) (by simp) ?_;refine AllReady.cons rfl (fun K hK=>?_) (AllReady.cons rfl (fun K hK=>?_) AllReady.nil)
        ·change if _ then Oper.wp _ _ _ wr.drew _ _ else _
         go_simp
         refine hK _ _ ?_;clear hK K;refine wpAny_ready (rs:=[3]) (by kernel_rfl) (by simp) ?_;refine AllReady.cons rfl (fun K hK=>?_) AllReady.nil;exact step_panic rfl 89 #[.pointer (some ⟨p,0,none⟩)] (by go_simp) (rule_rd sb cap L p _ tsq hrD) fun e w2 he=>by obtain⟨rfl,hg2⟩:=he.err HR6.out;exact⟨_,rfl,rfl,Ends.no HE.out (grown_trans hgD hg2)⟩
        ·change if _ then Oper.wp _ _ _ wr.drew _ _ else _
         exact step_panic rfl 89 #[.pointer (some ⟨p,0,none⟩)] (by go_simp) (rule_rd sb cap L p _ tsq hrD) fun e w2 he=>by obtain⟨rfl,hg2⟩:=he.err HR6.out;exact⟨_,rfl,rfl,Ends.no HE.out (grown_trans hgD hg2)⟩
       | ok x =>
        obtain⟨rq,ts6⟩:=x;have hl7:=Lx.pRule_len hr6;have hl8:=hrq.wf.tail_len;have HPQ:Hid (Lx.pGrammar ts=Lx.rulesOf acc (Lx.pRules f2' ts6 (acq++[rq]))):=by
         show _=_;rw[hpi2.out];simp only[Lx.pRules];rw[if_neg HEN.out,hr6]
        have HR6:Hid _:=hr6;clear hr6 hpi2
        go_wp2_with (first
         | (go_at_call 90;refine (sees_rd hrq Lx.noText).mono ?_;rintro e w' ⟨rfl,hw⟩;obtain rfl:=hw.symm;rw[decide_eq_false HEN.out]))
        go_region_law (first
         | (refine step_append_lies _ rfl (.tmp 30) (.tmp 33) 63 rfl wz.heap.size 179 i55 _ 2 40 Tryz.underlying63 hi55 hz055 hz155 hz255 rfl (by decide) (.slice va2 vk2 vc2) acq.length (ps2.flatMap cR) (by simp[Act.eval]) (hown7.alloc _) ⟨w7.heap.size,0,none⟩ 1 1 (cR (.slice xa7 xk7 xc7,rq)) (by simp[Act.eval]) rfl (news_of (Blk.new w7 _ 179)) (by simp[cR,Value.oneCell']) (by decide) (by unfold maxLen;omega) (by omega) (by have:=hg7.size;have:wr.drew.heap.size=wr.heap.size:=rfl;simp;omega) _ rfl ?_;intro g7b cap7b w7b hown7b hgrow7b hat7b hlt7b;have kC7b:=(kC7.alloc _).grown hgrow7b (fun e=>by have:=(hown2.lt _ e.symm).1;omega);have c07b:w7b.cell? ⟨w.heap.size+1,1,none⟩=some (.slice va2 vk2 vc2):=kC7b.cell 1;have f07b:∀ i,w7b.frozen? ⟨w.heap.size+1,i,none⟩=false:=kC7b.frozen)
         | (refine step_call rfl 89 #[.pointer (some ⟨p,0,none⟩)] (by go_simp) (rule_rd sb cap L p _ tsq hrD) ?_;intro e w7 he;obtain⟨vv,rfl,hg7,hr7,hv7⟩:=he.ok HR6.out;refine⟨_,rfl,?_⟩;obtain⟨vx,rfl,hax7⟩:=hv7;obtain⟨xa7,xk7,xc7,rfl⟩:=AltsInS.form hax7;have hown7:=((hgb2.kept rul_movable (grown_drew wr none) (by simp)).kept rul_movable hg7 (fun k hk=>by cases hk;omega)).2.1;have kC7:=kCq.drew.grown hg7 (by simp;omega);have c07:w7.cell? ⟨w.heap.size+1,1,none⟩=some (.slice va2 vk2 vc2):=kC7.cell 1;have hlt7:=kC7.lt))
        all_goals
         have G7b:=GrowByS.push rul_movable (hgb2.kept rul_movable (grown_drew wr none) (by simp)) (p:=p) (by omega) (by have:wr.drew.heap.size=wr.heap.size:=rfl;omega) hg7 (.slice xa7 xk7 xc7,rq) hax7 (grown_alloc w7 _ none) hown7b hgrow7b hat7b;have kB7b:=((kBq.drew.grown hg7 (by simp;omega)).alloc _).grown hgrow7b (fun e=>by have:=(hown2.lt _ e.symm).1;omega);have hr7b:=(hr7.alloc _).grown hgrow7b (fun e=>by have:=(hown2.lt _ e.symm).1;omega) (fun e=>by have:=(hown2.lt _ e.symm).1;omega);have gg7b:=grown_append (grown_trans hgD hg7) (grown_alloc w7 _ none) hgrow7b (fun k hk=>by have:=(hown2.lt _ hk).1;omega);have hs7b:w7.heap.size+1<=w7b.heap.size:=by have:=hgrow7b.size;simpa using this
         have hs7:wr.heap.size<=w7.heap.size:=hg7.size;have hkeep7:∀ b,w.heap.size+2<=b->b<wz.heap.size->w7b.heap[b]?=wz.heap[b]?:=fun b h1 h2=>by
          rw[hgrow7b.block b (by simp;omega) (fun e=>by have:=(hown2.lt _ e.symm).1;omega),Below.heap_alloc _ _ _ (by omega),hg7.block b (by have:wr.drew.heap.size=wr.heap.size:=rfl;omega) (by simp;omega)];exact hkeep.out b h1 h2
         have HK7:Hid _:=hkeep7;clear hown7b hgrow7b hat7b hown7 kC7 c07 q0 q1 qf he hkeep7;go_wp2_with fail;go_roundg ts6.length
         case measure=>omega
         case rel =>
          refine⟨ts6,acq++[rq],_,f2',rfl,by omega,by simp;omega,?_,hr7b.setOther _ _ (by omega) (by omega),kC7b.set 1 _,kB7b.other (by omega) _,?_,grown_new gg7b (by omega) _ _,?_,HPQ⟩
          ·simp only[World.setCell,Array.size_modify];omega
          ·exact GrowS.kept rul_movable G7b (grown_set w7b (w.heap.size+1) 1 _) (fun k hk=>by cases hk;omega)
          ·intro b h1 h2
           rw[Below.heap_setCell _ _ _ _ (fun e=>by have e':b=w.heap.size+1:=e;omega)];exact HK7.out b h1 h2
end Go.Proofs.YtlcppnabbicmoaaGreatDoor

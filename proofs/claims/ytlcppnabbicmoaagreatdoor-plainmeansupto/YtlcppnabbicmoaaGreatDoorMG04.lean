import Derived.Test.YtlcppnabbicmoaaGreatDoorMG03
set_option maxHeartbeats 8000000
set_option maxRecDepth 1000000
namespace Go.Proofs.YtlcppnabbicmoaaGreatDoor
open Lx Go.Proofs.Tryz
open Go.RowKit
open Lx (Tk)
open Tr
theorem lr0{n:Nat}:n<=n:=Nat.le_refl _
theorem bq0{a b:Int}(h:a≠b):(a==b)=false:=beq_eq_false_iff_ne.2 h
theorem hs0{w:World}{p:Addr}{v:Value}{g:Nat}(h:g≠p.block):(w.setCell p v).heap[g]?=w.heap[g]?:=Below.heap_setCell _ _ _ _ h
theorem Tryz.yL:(prog.info? 9).map (fun i=>(i.zero,i.size,i.bytes))=some (some (.string ⟨#[]⟩),1,16):=by kernel_rfl
def cT:Value × Tk->List Value:=fun q=>[.string q.2.1]
def KT:(Nat->Prop)->World->Value->Tk->Prop:=fun _ _ _ _=>True
theorem uh:jP KT:=fun _ _ _ _ _ _ _ _ _=>trivial
def ajx (lo:Nat)(w':World)(v:Value)(lv:Lx.Lv):Prop:=∃ va,v=.agg #[.int .i64 (lv.kind:Int),va]/\Tr.Seq (In lo w'.heap.size) w' 9 1 cT (fun _ _=>True) va lv.tokens
theorem Oz {b:ByteArray}(h:0<=fM b):b≠aM:=by
 intro e;subst e;revert h;decide
def E8 (k:Nat):aV (List Tk)->aV Lx.Lv
 | .error e=>.error e
 | .ok (l,ts)=>.ok (⟨k,l⟩,ts)
theorem KO {ts aC:List Tk}{b:ByteArray}(h:dz Lx.isToken ts.tail=.ok (b,aC)):gZ ts=E8 (fM (Lx.hd ts)).toNat (iX aC.length aC [(b,Lx.pl ts.tail)]):=by
 unfold gZ;rw[h];cases hr:iX aC.length aC [(b,Lx.pl ts.tail)] with
 | error e=>simp only[E8,hr]
 | ok y=>obtain⟨l,t⟩:=y;simp only[E8,hr]
theorem PO (sb cap:Nat) (L:List Tk) (p:Nat) (w:World) (ts:List Tk) (h:Rd sb cap L p w ts 0) (hlk:0<=fM (Lx.hd ts)) :
  Calls prog 88 #[.pointer (some ⟨p,0,none⟩)] w (Ends sb cap L p 0 (ajx w.heap.size) w (gZ ts)):=by
 obtain⟨i0,hi,hz0,hz1,hz2⟩:=info_parts Tryz.yL;have hp:=h.lt;have hs:=h.y7;have hlb:=h.lb;have hlen:=h.len;have hne:=Oz hlk;have tu:Hid _:=hne;clear hne;have h1:=h.alloc (.cells #[.int .i64 0,.slice none 0 0] 175);have h2:=h1.alloc (.cells #[.int .i64 (fM (Lx.hd ts)),.slice none 0 0] 175);have kB:=(aj.new w #[.int .i64 0,.slice none 0 0] 175).alloc (.cells #[.int .i64 (fM (Lx.hd ts)),.slice none 0 0] 175);have kC:=aj.new (w.alloc (.cells #[.int .i64 0,.slice none 0 0] 175)) #[.int .i64 (fM (Lx.hd ts)),.slice none 0 0] 175;rw[show (w.alloc (.cells #[.int .i64 0,.slice none 0 0] 175)).heap.size=w.heap.size+1 by simp]at kC;have G0:=aY (cK w (.cells #[.int .i64 0,.slice none 0 0] 175) (some p)) (cK _ (.cells #[.int .i64 (fM (Lx.hd ts)),.slice none 0 0] 175) (some p));go_enter func88,ntmps88
 go_wp2_with (first
  | (go_at_call 87;refine (oz h1).mono ?_;rintro e w' ⟨rfl,hw⟩;obtain rfl:=hw.symm)
  | (go_at_call 86;refine (Gt _ _).mono ?_;rintro e w' ⟨rfl,hw⟩;obtain rfl:=hw.symm))
 refine (Cb h2 tu.out).mono ?_;rintro e w1 ⟨rfl,hg1,hr1⟩;have kB1:=kB.grown hg1 (by simp;omega);have aR:=kC.grown hg1 (by simp;omega);have G1:=aY G0 hg1;have s1:=hg1.size;have sA:((w.alloc (.cells #[.int .i64 0,.slice none 0 0] 175)).alloc (.cells #[.int .i64 (fM (Lx.hd ts)),.slice none 0 0] 175)).heap.size=w.heap.size+2:=by simp
 have c0:w1.cell? ⟨w.heap.size+1,1,none⟩=some (.slice none 0 0):=aR.cell 1;have f0:∀ i,w1.frozen? ⟨w.heap.size+1,i,none⟩=false:=aR.frozen;clear kB kC G0 h2 h1;have iw:=hr1.drew;have lC:=aY G1 (oq w1 (some p));have Cv:vD (w.heap.size+2) w1 9 1 cT KT (.slice none 0 0) [] [] (fun _=>False):=⟨rfl,World.ownsRow_nil _ _ _ _,fun q h=>by simp at h,fun b h=>h.elim,fun _ _ h=>h⟩;cases hr2:dz Lx.isToken ts.tail with
 | error x =>
  obtain⟨n,a⟩:=x;have HR2:Hid _:=hr2;have HE:Hid (gZ ts=.error (n,a)):=by show _=_;unfold gZ;rw[hr2]
  clear hr2;go_wp2_with fail;refine wp_region_any (by kernel_rfl) ?_;refine wpAny_take (i:=0) (v:=.pointer (some ⟨w.heap.size+1,1,none⟩)) rfl (by kernel_rfl) (by kernel_rfl) (by kernel_rfl) (fun _ _ _ h=>h) (Or.inl ⟨by rfl,fun w=>by go_simp⟩) ?_;refine wpAny_take (i:=2) (v:=.pointer (some ⟨p,0,none⟩)) rfl (by kernel_rfl) (by kernel_rfl) (by kernel_rfl) (fun _ _ _ h=>h) (Or.inl ⟨by rfl,fun w=>by go_simp⟩) ?_;refine wpAny_take (i:=3) (v:=.pointer (some ⟨p,0,none⟩)) rfl (by kernel_rfl) (by kernel_rfl) (by kernel_rfl) (fun _ _ _ h=>h) (Or.inl ⟨by rfl,fun w=>by go_simp⟩) ?_;refine wpAny_take (i:=4) (v:=.pointer (some ⟨p,0,none⟩)) rfl (by kernel_rfl) (by kernel_rfl) (by kernel_rfl) (fun _ _ _ h=>h) (Or.inl ⟨by rfl,fun w=>by go_simp⟩) ?_;refine wpAny_ready (rs:=[1,5]) (by kernel_rfl) (by simp) ?_;refine AllReady.cons rfl (fun K hK=>?_) (AllReady.cons rfl (fun K hK=>?_) AllReady.nil)
  ·change if _ then Oper.wp _ _ _ w1.drew _ _ else _
   go_simp
   refine hK _ _ ?_;clear hK K;refine wpAny_ready (rs:=[5]) (by kernel_rfl) (by simp) ?_;refine AllReady.cons rfl (fun K hK=>?_) AllReady.nil;exact uj rfl 122 #[.pointer (some ⟨p,0,none⟩)] (by go_simp) (Aa iw) fun e w2 he=>by obtain⟨rfl,hg2⟩:=he.err HR2.out;exact⟨_,rfl,rfl,Ends.no HE.out (aY lC hg2)⟩
  ·change if _ then Oper.wp _ _ _ w1.drew _ _ else _
   exact uj rfl 122 #[.pointer (some ⟨p,0,none⟩)] (by go_simp) (Aa iw) fun e w2 he=>by obtain⟨rfl,hg2⟩:=he.err HR2.out;exact⟨_,rfl,rfl,Ends.no HE.out (aY lC hg2)⟩
 | ok x =>
  obtain⟨b,bL⟩:=x;have HPL:=KO hr2;have aax:Hid _:=HPL;have hl2:=(mY hr2).1;have hl3:=hr1.wf.mJ;have hl4:=h.wf.mJ;have hlt2:bL.length+1=ts.tail.length:=by rw[hl2];exact hl3
  have HR2:Hid _:=hr2;clear hr2 HPL hl2;go_wp2_with fail
  go_region_law (first
   | (refine step_append_lies _ rfl (.tmp 15) (.tmp 20) 22 rfl (w.heap.size+2) 9 i0 _ 1 16 underlying22 hi hz0 hz1 hz2 rfl (by decide) (.slice none 0 0) 0 [] (by simp[Act.eval]) (hown2.alloc _) ⟨w2.heap.size,0,none⟩ 1 1 (cT (.bool false,(b,Lx.pl ts.tail))) (by simp[Act.eval]) rfl (bP (aj.new w2 _ 9)) (by simp[cT,Value.oneCell']) (by decide) (by unfold maxLen;omega) (by omega) (by have:=hg2.size;simp at this;simp;omega) _ rfl ?_;intro g cap' w3 hown3 hgrow3 hat hlt;have bG:=(fw.alloc _).grown hgrow3 (by simp[Value.ownBlock]);have c03:w3.cell? ⟨w.heap.size+1,1,none⟩=some (.slice none 0 0):=bG.cell 1;have oI:∀ i,w3.frozen? ⟨w.heap.size+1,i,none⟩=false:=bG.frozen)
   | (refine mZ rfl 122 #[.pointer (some ⟨p,0,none⟩)] (by go_simp) (Aa iw) ?_;intro e w2 he;obtain⟨vv,rfl,hg2,hr2,rfl⟩:=he.ok HR2.out;refine⟨_,rfl,?_⟩;have hown2:=((Cv.kept uh (oq w1 none) (by simp)).kept uh hg2 (fun k hk=>by cases hk;omega)).2.1;have fw:=aR.drew.grown hg2 (by simp;omega);have Sq:w2.cell? ⟨w.heap.size+1,1,none⟩=some (.slice none 0 0):=fw.cell 1;have hlt2:=fw.lt))
  all_goals
   have G3:=vD.push uh (Cv.kept uh (oq w1 none) (by simp)) (p:=p) (by omega) (by have:w1.drew.heap.size=w1.heap.size:=rfl;omega) hg2 (.bool false,(b,Lx.pl ts.tail)) trivial (cK w2 _ none) hown3 hgrow3 hat;have kB3:=((kB1.drew.grown hg2 (by simp;omega)).alloc _).grown hgrow3 (by simp[Value.ownBlock]);have hr3:=(hr2.alloc _).grown hgrow3 (by simp[Value.ownBlock]) (by simp[Value.ownBlock]);have Na:=BI (aY lC hg2) (cK w2 _ none) hgrow3 (by simp[Value.ownBlock]);have hs3:w2.heap.size+1<=w3.heap.size:=by have:=hgrow3.size;simpa using this
   have hs2:w1.heap.size<=w2.heap.size:=hg2.size;clear hown3 hgrow3 hat hown2 fw Sq c0 f0;go_wp2_with fail;have hlS:(w3.setCell ⟨w.heap.size+1,1,none⟩ (.slice (some ⟨g,0,none⟩) 1 cap')).heap.size=w3.heap.size:=by simp[World.setCell]
   have Gs:Grow (w.heap.size+2) (w3.setCell ⟨w.heap.size+1,1,none⟩ (.slice (some ⟨g,0,none⟩) 1 cap')) 9 1 cT KT (.slice (some ⟨g,0,none⟩) 1 cap') [(b,Lx.pl ts.tail)]:=Grow.kept uh G3 (gK w3 (w.heap.size+1) 1 _) (fun k hk=>by cases hk;omega);have IU:=hr3.setOther (b:=w.heap.size+1) 1 (.slice (some ⟨g,0,none⟩) 1 cap') (by omega) (by omega);have IV:=bG.set 1 (.slice (some ⟨g,0,none⟩) 1 cap');have IW:=kB3.other (b':=w.heap.size+1) (i:=1) (by omega) (.slice (some ⟨g,0,none⟩) 1 cap');have gS:=eU Na (b:=w.heap.size+1) (by omega) 1 (.slice (some ⟨g,0,none⟩) 1 cap');clear G3 bG kB3 hr3 Na c03 oI
   go_loopg [] bL.length (fun k wr=>∃ (aB:List Tk) (acc:List Tk) (v:Value) (f:Nat),aB.length=k/\aB.length<=f/\acc.length+aB.length<=ts.length/\w.heap.size+2<=wr.heap.size/\Rd sb cap L p wr aB 0/\aj wr (w.heap.size+1) #[.int .i64 (fM (Lx.hd ts)),v] 175/\aj wr w.heap.size #[.int .i64 0,.slice none 0 0] 175 /\
     Grow (w.heap.size+2) wr 9 1 cT KT v acc/\w.grownBy wr (some p)/\Hid (gZ ts=E8 (fM (Lx.hd ts)).toNat (iX f aB acc)))
   case atStart=>exact⟨bL,[(b,Lx.pl ts.tail)],_,bL.length,rfl,lr0,by simp;omega,by omega,IU,IV,IW,Gs,gS,aax⟩
   case round =>
    obtain⟨aB,acc,v,f,hk,hf,hacc,hsz,hr,jv,jw,hgrow,hg,hpi⟩:=hrel;clear Gs IU IV IW gS hlS aax kB1 aR Cv iw lC hr1 hg1 hg2 hr2 he;have hne:=hr.wf.ne;obtain⟨f',rfl⟩:∃ f',f=f'+1:=⟨f-1,by omega⟩;obtain⟨ps,F,hgb⟩:=hgrow;have hown:=hgb.2.1;obtain⟨va,vk,vc,rfl⟩:=sG hown;have c0:wr.cell? ⟨w.heap.size+1,1,none⟩=some (.slice va vk vc):=jv.cell 1;have ck:wr.cell? ⟨w.heap.size+1,0,none⟩=some (.int .i64 (fM (Lx.hd ts))):=jv.cell 0;have f0:∀ i,wr.frozen? ⟨w.heap.size+1,i,none⟩=false:=jv.frozen
    by_cases hb:Lx.hd aB=iI
    ·have HP:Hid (gZ ts=.ok (⟨(fM (Lx.hd ts)).toNat,acc⟩,aB.tail)):=by
      show _=_;rw[hpi.out];simp only[iX];rw[if_pos hb];rfl
     have HB:Hid (Lx.hd aB=iI):=hb;clear hb hpi;go_wp2_with fail;refine (Ko hr iI (by decide) HB.out).mono ?_;rintro e w4 ⟨rfl,hg4,hr4⟩;have gG:=jv.grown hg4 (by simp;omega);have bC:=jw.grown hg4 (by simp;omega);have d0:w4.cell? ⟨w.heap.size+1,0,none⟩=some (.int .i64 (fM (Lx.hd ts))):=gG.cell 0;have d1:w4.cell? ⟨w.heap.size+1,1,none⟩=some (.slice va vk vc):=gG.cell 1;have e0:w4.cell? ⟨w.heap.size,0,none⟩=some (.int .i64 0):=bC.cell 0;have e1:w4.cell? ⟨w.heap.size,1,none⟩=some (.slice none 0 0):=bC.cell 1;have f2:∀ i,w4.frozen? ⟨w.heap.size,i,none⟩=false:=bC.frozen;have hseq:=Grow.seq uh (Grow.kept uh ⟨ps,F,hgb⟩ hg4 (fun k hk=>by cases hk;omega));have hkk:(((fM (Lx.hd ts)).toNat:Nat):Int)=fM (Lx.hd ts):=by omega
     have HKK:Hid _:=hkk;clear hkk;go_wp2_with fail;refine bodyPost_ret (v:=.agg #[.int .i64 (fM (Lx.hd ts)),.slice va vk vc]) (by simp[results,results88,go_sem,e0,e1]) rfl ?_;refine Ends.yes HP.out (eU (eU (aY hg hg4) (lr0) _ _) (lr0) _ _) ((hr4.setOther _ _ (by omega) (by omega)).setOther _ _ (by omega) (by omega)) ⟨_,by rw[HKK.out],?_⟩;refine hseq.move (fun b hb=>?_) (fun b hb=>?_) (fun _ _ h=>h)
     ·have h1:=hb.1
      rw[hs0 (fun e=>by have e':b=w.heap.size:=e;omega),hs0 (fun e=>by have e':b=w.heap.size:=e;omega)]
     ·have h1:=hb.1
      have h2:=hb.2;exact⟨by omega,by simpa [World.setCell]using h2⟩
    ·have HB:Hid (¬ Lx.hd aB=iI):=hb
     clear hb;have iw:=hr.drew;have lC:=aY hg (oq wr (some p));cases hr4:dz Lx.isToken aB with
     | error x =>
      obtain⟨n,a⟩:=x;have HE:Hid (gZ ts=.error (n,a)):=by
       show _=_;rw[hpi.out];simp only[iX];rw[if_neg HB.out,hr4];rfl
      have HR4:Hid _:=hr4;clear hr4 hpi
      go_wp2_with (first
       | (go_at_call 123;refine (GN hr iI HB.out).mono ?_;rintro e w' ⟨rfl,hw⟩;obtain rfl:=hw.symm))
      refine wp_region_any (by kernel_rfl) ?_;refine wpAny_take (i:=0) (v:=.pointer (some ⟨w.heap.size+1,1,none⟩)) rfl (by kernel_rfl) (by kernel_rfl) (by kernel_rfl) (fun _ _ _ h=>h) (Or.inl ⟨by rfl,fun w=>by go_simp⟩) ?_;refine wpAny_take (i:=2) (v:=.pointer (some ⟨p,0,none⟩)) rfl (by kernel_rfl) (by kernel_rfl) (by kernel_rfl) (fun _ _ _ h=>h) (Or.inl ⟨by rfl,fun w=>by go_simp⟩) ?_;refine wpAny_take (i:=3) (v:=.pointer (some ⟨p,0,none⟩)) rfl (by kernel_rfl) (by kernel_rfl) (by kernel_rfl) (fun _ _ _ h=>h) (Or.inl ⟨by rfl,fun w=>by go_simp⟩) ?_;refine wpAny_take (i:=4) (v:=.pointer (some ⟨p,0,none⟩)) rfl (by kernel_rfl) (by kernel_rfl) (by kernel_rfl) (fun _ _ _ h=>h) (Or.inl ⟨by rfl,fun w=>by go_simp⟩) ?_;refine wpAny_ready (rs:=[1,5]) (by kernel_rfl) (by simp) ?_;refine AllReady.cons rfl (fun K hK=>?_) (AllReady.cons rfl (fun K hK=>?_) AllReady.nil)
      ·change if _ then Oper.wp _ _ _ wr.drew _ _ else _
       go_simp
       refine hK _ _ ?_;clear hK K;refine wpAny_ready (rs:=[5]) (by kernel_rfl) (by simp) ?_;refine AllReady.cons rfl (fun K hK=>?_) AllReady.nil;exact uj rfl 122 #[.pointer (some ⟨p,0,none⟩)] (by go_simp) (Aa iw) fun e w2 he=>by obtain⟨rfl,hg2⟩:=he.err HR4.out;exact⟨_,rfl,rfl,Ends.no HE.out (aY lC hg2)⟩
      ·change if _ then Oper.wp _ _ _ wr.drew _ _ else _
       exact uj rfl 122 #[.pointer (some ⟨p,0,none⟩)] (by go_simp) (Aa iw) fun e w2 he=>by obtain⟨rfl,hg2⟩:=he.err HR4.out;exact⟨_,rfl,rfl,Ends.no HE.out (aY lC hg2)⟩
     | ok x =>
      obtain⟨bb,fV⟩:=x;have hl5:=(mY hr4).1;have Sv:=hr.wf.mJ;have xE:fV.length+1=aB.length:=by rw[hl5];exact Sv
      have ko:Hid (gZ ts=E8 (fM (Lx.hd ts)).toNat (iX f' fV (acc++[(bb,Lx.pl aB)]))):=by
       show _=_;rw[hpi.out];simp only[iX];rw[if_neg HB.out,hr4]
      have HR4:Hid _:=hr4;clear hr4 hpi hl5
      go_wp2_with (first
       | (go_at_call 123;refine (GN hr iI HB.out).mono ?_;rintro e w' ⟨rfl,hw⟩;obtain rfl:=hw.symm))
      go_region_law (first
       | (refine step_append_lies _ rfl (.tmp 29) (.tmp 34) 22 rfl (w.heap.size+2) 9 i0 _ 1 16 underlying22 hi hz0 hz1 hz2 rfl (by decide) (.slice va vk vc) acc.length (ps.flatMap cT) (by simp[Act.eval]) (hown5.alloc _) ⟨w5.heap.size,0,none⟩ 1 1 (cT (.bool false,(bb,Lx.pl aB))) (by simp[Act.eval]) rfl (bP (aj.new w5 _ 9)) (by simp[cT,Value.oneCell']) (by decide) (by unfold maxLen;omega) (by omega) (by have:=hg5.size;simp at this;simp;omega) _ rfl ?_;intro g6 cap6 w6 hown6 Ci uF amN;have Sw:=(mG.alloc _).grown Ci (fun e=>by have:=(hown.lt _ e.symm).1;omega);have c06:w6.cell? ⟨w.heap.size+1,1,none⟩=some (.slice va vk vc):=Sw.cell 1;have f06:∀ i,w6.frozen? ⟨w.heap.size+1,i,none⟩=false:=Sw.frozen)
       | (refine mZ rfl 122 #[.pointer (some ⟨p,0,none⟩)] (by go_simp) (Aa iw) ?_;intro e w5 he;obtain⟨vv,rfl,hg5,nG,rfl⟩:=he.ok HR4.out;refine⟨_,rfl,?_⟩;have hown5:=((hgb.kept uh (oq wr none) (by simp)).kept uh hg5 (fun k hk=>by cases hk;omega)).2.1;have mG:=jv.drew.grown hg5 (by simp;omega);have IX:w5.cell? ⟨w.heap.size+1,1,none⟩=some (.slice va vk vc):=mG.cell 1;have E9:=mG.lt))
      all_goals
       have G6:=vD.push uh (hgb.kept uh (oq wr none) (by simp)) (p:=p) (by omega) (by have:wr.drew.heap.size=wr.heap.size:=rfl;omega) hg5 (.bool false,(bb,Lx.pl aB)) trivial (cK w5 _ none) hown6 Ci uF;have kB6:=((jw.drew.grown hg5 (by simp;omega)).alloc _).grown Ci (fun e=>by have:=(hown.lt _ e.symm).1;omega);have y8:=(nG.alloc _).grown Ci (fun e=>by have:=(hown.lt _ e.symm).1;omega) (fun e=>by have:=(hown.lt _ e.symm).1;omega);have gg6:=BI (aY lC hg5) (cK w5 _ none) Ci (fun k hk=>by have:=(hown.lt _ hk).1;omega);have hs6:=Ci.size;have hs5:=hg5.size;have hsD:wr.drew.heap.size=wr.heap.size:=rfl;clear hown6 Ci uF hown5 mG IX c0 f0 he;go_wp2_with fail;go_roundg fV.length
       case measure=>omega
       case rel =>
        refine⟨fV,acc++[(bb,Lx.pl aB)],_,f',rfl,by omega,by simp;omega,?_,y8.setOther _ _ (by omega) (by omega),Sw.set 1 _,kB6.other (by omega) _,?_,eU gg6 (by omega) _ _,ko⟩
        ·simp only[World.setCell,Array.size_modify];have:=hs6;simp at this;omega
        ·exact Grow.kept uh G6 (gK w6 (w.heap.size+1) 1 _) (fun k hk=>by cases hk;omega)
end Go.Proofs.YtlcppnabbicmoaaGreatDoor

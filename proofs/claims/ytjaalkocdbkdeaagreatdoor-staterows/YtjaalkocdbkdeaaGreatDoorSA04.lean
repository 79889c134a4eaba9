import Derived.Test.YtjaalkocdbkdeaaGreatDoorSA03
set_option maxHeartbeats 8000000
set_option maxRecDepth 1000000
namespace Go.Proofs.YtjaalkocdbkdeaaGreatDoor
open Lx Go.Proofs.Tryz
open Go.RowKit
open Lx (Tk)
open Tr
theorem zL0{n:Nat}:n<=n:=Nat.le_refl _
theorem zB0{a b:Int}(h:a≠b):(a==b)=false:=beq_eq_false_iff_ne.2 h
theorem zS0{w:World}{p:Addr}{v:Value}{g:Nat}(h:g≠p.block):(w.setCell p v).heap[g]?=w.heap[g]?:=Below.heap_setCell _ _ _ _ h
theorem Tryz.BU:(prog.info? 9).map (fun i=>(i.zero,i.size,i.bytes))=some (some (.string ⟨#[]⟩),1,16):=by kernel_rfl
def cT:Value×Tk->List Value:=fun q=>[.string q.2.1]
def KT:(Nat->Prop)->World->Value->Tk->Prop:=fun _ _ _ _=>True
theorem tV:jF KT:=fun _ _ _ _ _ _ _ _ _=>trivial
def aiW(lo:Nat)(w':World)(v:Value)(lv:Lx.Lv):Prop:=∃va,v=.agg #[.int .i64 (lv.kind:Int),va]/\Tr.Seq (In lo w'.heap.size) w' 9 1 cT (fun _ _=>True) va lv.tokens
theorem NC{b:ByteArray}(h:0<=fF b):b≠aL:=by
 intro e;subst e;revert h;decide
def Ev(k:Nat):aX (List Tk)->aX Lx.Lv
 |.error e=>.error e
 | .ok (l,ts)=>.ok (⟨k,l⟩,ts)
theorem J6{ts aB:List Tk}{b:ByteArray}(h:cK Lx.isToken ts.tail=.ok (b,aB)):gJ ts=Ev (fF (Lx.hd ts)).toNat (iM aB.length aB [(b,Lx.pl ts.tail)]):=by
 unfold gJ;rw[h];cases hr:iM aB.length aB [(b,Lx.pl ts.tail)] with
 |error e=>simp only[Ev,hr]
 |ok y=>obtain⟨l,t⟩:=y;simp only[Ev,hr]
theorem OL(sb cap:Nat)(L:List Tk)(p:Nat)(w:World)(ts:List Tk)(h:Rd sb cap L p w ts 0)(hlk:0<=fF (Lx.hd ts)):
  Calls prog 76 #[.pointer (some ⟨p,0,none⟩)] w (Ends sb cap L p 0 (aiW w.heap.size) w (gJ ts)):=by
 obtain⟨i0,hi,hz0,hz1,hz2⟩:=info_parts Tryz.BU;have hp:=h.lt;have hs:=h.yO;have hlb:=h.lb;have hlen:=h.len;have hne:=NC hlk;have sV:Hid _:=hne;clear hne;have h1:=h.alloc (.cells #[.int .i64 0,.slice none 0 0] 175);have h2:=h1.alloc (.cells #[.int .i64 (fF (Lx.hd ts)),.slice none 0 0] 175);have kB:=(aj.new w #[.int .i64 0,.slice none 0 0] 175).alloc (.cells #[.int .i64 (fF (Lx.hd ts)),.slice none 0 0] 175);have kC:=aj.new (w.alloc (.cells #[.int .i64 0,.slice none 0 0] 175)) #[.int .i64 (fF (Lx.hd ts)),.slice none 0 0] 175;rw[show (w.alloc (.cells #[.int .i64 0,.slice none 0 0] 175)).heap.size=w.heap.size+1 by simp]at kC;have G0:=aW (bZ w (.cells #[.int .i64 0,.slice none 0 0] 175) (some p)) (bZ _ (.cells #[.int .i64 (fF (Lx.hd ts)),.slice none 0 0] 175) (some p));go_enter func76,ntmps76
 go_wp2_with (first
  | (go_at_call 75;refine(oq h1).mono ?_;rintro e w'⟨rfl,hw⟩;obtain rfl:=hw.symm)
  | (go_at_call 74;refine(FM _ _).mono ?_;rintro e w'⟨rfl,hw⟩;obtain rfl:=hw.symm))
 refine(BN h2 sV.out).mono ?_;rintro e w1⟨rfl,hg1,hr1⟩;have kB1:=kB.grown hg1 (by simp;omega);have aP:=kC.grown hg1 (by simp;omega);have G1:=aW G0 hg1;have s1:=hg1.size;have sA:((w.alloc (.cells #[.int .i64 0,.slice none 0 0] 175)).alloc (.cells #[.int .i64 (fF (Lx.hd ts)),.slice none 0 0] 175)).heap.size=w.heap.size+2:=by simp
 have c0:w1.cell? ⟨w.heap.size+1,1,none⟩=some (.slice none 0 0):=aP.cell 1;have f0:∀i,w1.frozen? ⟨w.heap.size+1,i,none⟩=false:=aP.frozen;clear kB kC G0 h2 h1;have gW:=hr1.drew;have kE:=aW G1 (om w1 (some p));have Cg:uY (w.heap.size+2) w1 9 1 cT KT (.slice none 0 0) [] [] (fun _=>False):=⟨rfl,World.ownsRow_nil _ _ _ _,fun q h=>by simp at h,fun b h=>h.elim,fun _ _ h=>h⟩;cases hr2:cK Lx.isToken ts.tail with
 |error x=>
  obtain⟨n,a⟩:=x;have HR2:Hid _:=hr2;have HE:Hid (gJ ts=.error (n,a)):=by show _=_;unfold gJ;rw[hr2]
  clear hr2;go_wp2_with fail;refine wp_region_any (by kernel_rfl) ?_;refine wpAny_take (i:=0) (v:=.pointer (some ⟨w.heap.size+1,1,none⟩)) rfl (by kernel_rfl) (by kernel_rfl) (by kernel_rfl) (fun _ _ _ h=>h) (Or.inl ⟨by rfl,fun w=>by go_simp⟩) ?_;refine wpAny_take (i:=2) (v:=.pointer (some ⟨p,0,none⟩)) rfl (by kernel_rfl) (by kernel_rfl) (by kernel_rfl) (fun _ _ _ h=>h) (Or.inl ⟨by rfl,fun w=>by go_simp⟩) ?_;refine wpAny_take (i:=3) (v:=.pointer (some ⟨p,0,none⟩)) rfl (by kernel_rfl) (by kernel_rfl) (by kernel_rfl) (fun _ _ _ h=>h) (Or.inl ⟨by rfl,fun w=>by go_simp⟩) ?_;refine wpAny_take (i:=4) (v:=.pointer (some ⟨p,0,none⟩)) rfl (by kernel_rfl) (by kernel_rfl) (by kernel_rfl) (fun _ _ _ h=>h) (Or.inl ⟨by rfl,fun w=>by go_simp⟩) ?_;refine wpAny_ready (rs:=[1,5]) (by kernel_rfl) (by simp) ?_;refine AllReady.cons rfl (fun K hK=>?_) (AllReady.cons rfl (fun K hK=>?_) AllReady.nil)
  ·change if _ then Oper.wp _ _ _ w1.drew _ _ else _
   go_simp
   refine hK _ _ ?_;clear hK K;refine wpAny_ready (rs:=[5]) (by kernel_rfl) (by simp) ?_;refine AllReady.cons rfl (fun K hK=>?_) AllReady.nil;exact tX rfl 112 #[.pointer (some ⟨p,0,none⟩)] (by go_simp) (zO gW) fun e w2 he=>by obtain⟨rfl,hg2⟩:=he.err HR2.out;exact⟨_,rfl,rfl,Ends.no HE.out (aW kE hg2)⟩
  ·change if _ then Oper.wp _ _ _ w1.drew _ _ else _
   exact tX rfl 112 #[.pointer (some ⟨p,0,none⟩)] (by go_simp) (zO gW) fun e w2 he=>by obtain⟨rfl,hg2⟩:=he.err HR2.out;exact⟨_,rfl,rfl,Ends.no HE.out (aW kE hg2)⟩
 |ok x=>
  obtain⟨b,bL⟩:=x;have HPL:=J6 hr2;have Zx:Hid _:=HPL;have hl2:=(mW hr2).1;have hl3:=hr1.wf.mD;have hl4:=h.wf.mD;have hlt2:bL.length+1=ts.tail.length:=by rw[hl2];exact hl3
  have HR2:Hid _:=hr2;clear hr2 HPL hl2;go_wp2_with fail
  go_region_law (first
   | (refine step_append_lies _ rfl (.tmp 15) (.tmp 20) 41 rfl (w.heap.size+2) 9 i0 _ 1 16 underlying41 hi hz0 hz1 hz2 rfl (by decide) (.slice none 0 0) 0 [] (by simp[Act.eval]) (hown2.alloc _) ⟨w2.heap.size,0,none⟩ 1 1 (cT (.bool false,(b,Lx.pl ts.tail))) (by simp[Act.eval]) rfl (bC (aj.new w2 _ 9)) (by simp[cT,Value.oneCell']) (by decide) (by unfold maxLen;omega) (by omega) (by have:=hg2.size;simp at this;simp;omega) _ rfl ?_;intro g cap' w3 hown3 hgrow3 hat hlt;have bG:=(eG.alloc _).grown hgrow3 (by simp[Value.ownBlock]);have c03:w3.cell? ⟨w.heap.size+1,1,none⟩=some (.slice none 0 0):=bG.cell 1;have oJ:∀i,w3.frozen? ⟨w.heap.size+1,i,none⟩=false:=bG.frozen)
   | (refine jK rfl 112 #[.pointer (some ⟨p,0,none⟩)] (by go_simp) (zO gW) ?_;intro e w2 he;obtain⟨vv,rfl,hg2,hr2,rfl⟩:=he.ok HR2.out;refine⟨_,rfl,?_⟩;have hown2:=((Cg.kept tV (om w1 none) (by simp)).kept tV hg2 (fun k hk=>by cases hk;omega)).2.1;have eG:=aP.drew.grown hg2 (by simp;omega);have Q0:w2.cell? ⟨w.heap.size+1,1,none⟩=some (.slice none 0 0):=eG.cell 1;have hlt2:=eG.lt))
  all_goals
   have G3:=uY.push tV (Cg.kept tV (om w1 none) (by simp)) (p:=p) (by omega) (by have:w1.drew.heap.size=w1.heap.size:=rfl;omega) hg2 (.bool false,(b,Lx.pl ts.tail)) trivial (bZ w2 _ none) hown3 hgrow3 hat;have kB3:=((kB1.drew.grown hg2 (by simp;omega)).alloc _).grown hgrow3 (by simp[Value.ownBlock]);have hr3:=(hr2.alloc _).grown hgrow3 (by simp[Value.ownBlock]) (by simp[Value.ownBlock]);have Md:=Br (aW kE hg2) (bZ w2 _ none) hgrow3 (by simp[Value.ownBlock]);have hs3:w2.heap.size+1<=w3.heap.size:=by have:=hgrow3.size;simpa using this
   have hs2:w1.heap.size<=w2.heap.size:=hg2.size;clear hown3 hgrow3 hat hown2 eG Q0 c0 f0;go_wp2_with fail;have hlS:(w3.setCell ⟨w.heap.size+1,1,none⟩ (.slice (some ⟨g,0,none⟩) 1 cap')).heap.size=w3.heap.size:=by simp[World.setCell]
   have Gs:Grow (w.heap.size+2) (w3.setCell ⟨w.heap.size+1,1,none⟩ (.slice (some ⟨g,0,none⟩) 1 cap')) 9 1 cT KT (.slice (some ⟨g,0,none⟩) 1 cap') [(b,Lx.pl ts.tail)]:=Grow.kept tV G3 (gu w3 (w.heap.size+1) 1 _) (fun k hk=>by cases hk;omega);have H7:=hr3.setOther (b:=w.heap.size+1) 1 (.slice (some ⟨g,0,none⟩) 1 cap') (by omega) (by omega);have H9:=bG.set 1 (.slice (some ⟨g,0,none⟩) 1 cap');have Ia:=kB3.other (b':=w.heap.size+1) (i:=1) (by omega) (.slice (some ⟨g,0,none⟩) 1 cap');have gS:=d9 Md (b:=w.heap.size+1) (by omega) 1 (.slice (some ⟨g,0,none⟩) 1 cap');clear G3 bG kB3 hr3 Md c03 oJ
   go_loopg [] bL.length (fun k wr=>∃(aA:List Tk)(acc:List Tk)(v:Value)(f:Nat),aA.length=k/\aA.length<=f/\acc.length+aA.length<=ts.length/\w.heap.size+2<=wr.heap.size/\Rd sb cap L p wr aA 0/\aj wr (w.heap.size+1) #[.int .i64 (fF (Lx.hd ts)),v] 175/\aj wr w.heap.size #[.int .i64 0,.slice none 0 0] 175 /\
     Grow (w.heap.size+2) wr 9 1 cT KT v acc/\w.grownBy wr (some p)/\Hid (gJ ts=Ev (fF (Lx.hd ts)).toNat (iM f aA acc)))
   case atStart=>exact⟨bL,[(b,Lx.pl ts.tail)],_,bL.length,rfl,zL0,by simp;omega,by omega,H7,H9,Ia,Gs,gS,Zx⟩
   case round=>
    obtain⟨aA,acc,v,f,hk,hf,hacc,hsz,hr,jl,jI,hgrow,hg,hpi⟩:=hrel;clear Gs H7 H9 Ia gS hlS Zx kB1 aP Cg gW kE hr1 hg1 hg2 hr2 he;have hne:=hr.wf.ne;obtain⟨f',rfl⟩:∃f',f=f'+1:=⟨f-1,by omega⟩;obtain⟨ps,F,hgb⟩:=hgrow;have hown:=hgb.2.1;obtain⟨va,vk,vc,rfl⟩:=rW hown;have c0:wr.cell? ⟨w.heap.size+1,1,none⟩=some (.slice va vk vc):=jl.cell 1;have ck:wr.cell? ⟨w.heap.size+1,0,none⟩=some (.int .i64 (fF (Lx.hd ts))):=jl.cell 0;have f0:∀i,wr.frozen? ⟨w.heap.size+1,i,none⟩=false:=jl.frozen
    by_cases hb:Lx.hd aA=iq
    ·have HP:Hid (gJ ts=.ok (⟨(fF (Lx.hd ts)).toNat,acc⟩,aA.tail)):=by
      show _=_;rw[hpi.out];simp only[iM];rw[if_pos hb];rfl
     have HB:Hid (Lx.hd aA=iq):=hb;clear hb hpi;go_wp2_with fail;refine(JN hr iq (by decide) HB.out).mono ?_;rintro e w4⟨rfl,hg4,hr4⟩;have fV:=jl.grown hg4 (by simp;omega);have bf:=jI.grown hg4 (by simp;omega);have d0:w4.cell? ⟨w.heap.size+1,0,none⟩=some (.int .i64 (fF (Lx.hd ts))):=fV.cell 0;have d1:w4.cell? ⟨w.heap.size+1,1,none⟩=some (.slice va vk vc):=fV.cell 1;have e0:w4.cell? ⟨w.heap.size,0,none⟩=some (.int .i64 0):=bf.cell 0;have e1:w4.cell? ⟨w.heap.size,1,none⟩=some (.slice none 0 0):=bf.cell 1;have f2:∀i,w4.frozen? ⟨w.heap.size,i,none⟩=false:=bf.frozen;have hseq:=Grow.seq tV (Grow.kept tV ⟨ps,F,hgb⟩ hg4 (fun k hk=>by cases hk;omega));have hkk:(((fF (Lx.hd ts)).toNat:Nat):Int)=fF (Lx.hd ts):=by omega
     have HKK:Hid _:=hkk;clear hkk;go_wp2_with fail;refine bodyPost_ret (v:=.agg #[.int .i64 (fF (Lx.hd ts)),.slice va vk vc]) (by simp[results,results76,go_sem,e0,e1]) rfl ?_;refine Ends.yes HP.out (d9 (d9 (aW hg hg4) (zL0) _ _) (zL0) _ _) ((hr4.setOther _ _ (by omega) (by omega)).setOther _ _ (by omega) (by omega)) ⟨_,by rw[HKK.out],?_⟩;refine hseq.move (fun b hb=>?_) (fun b hb=>?_) (fun _ _ h=>h)
     ·have h1:=hb.1
      rw[zS0 (fun e=>by have e':b=w.heap.size:=e;omega),zS0 (fun e=>by have e':b=w.heap.size:=e;omega)]
     ·have h1:=hb.1
      have h2:=hb.2;exact⟨by omega,by simpa [World.setCell]using h2⟩
    ·have HB:Hid (¬Lx.hd aA=iq):=hb
     clear hb;have gW:=hr.drew;have kE:=aW hg (om wr (some p));cases hr4:cK Lx.isToken aA with
     |error x=>
      obtain⟨n,a⟩:=x;have HE:Hid (gJ ts=.error (n,a)):=by
       show _=_;rw[hpi.out];simp only[iM];rw[if_neg HB.out,hr4];rfl
      have HR4:Hid _:=hr4;clear hr4 hpi
      go_wp2_with (first
       | (go_at_call 113;refine(F4 hr iq HB.out).mono ?_;rintro e w'⟨rfl,hw⟩;obtain rfl:=hw.symm))
      refine wp_region_any (by kernel_rfl) ?_;refine wpAny_take (i:=0) (v:=.pointer (some ⟨w.heap.size+1,1,none⟩)) rfl (by kernel_rfl) (by kernel_rfl) (by kernel_rfl) (fun _ _ _ h=>h) (Or.inl ⟨by rfl,fun w=>by go_simp⟩) ?_;refine wpAny_take (i:=2) (v:=.pointer (some ⟨p,0,none⟩)) rfl (by kernel_rfl) (by kernel_rfl) (by kernel_rfl) (fun _ _ _ h=>h) (Or.inl ⟨by rfl,fun w=>by go_simp⟩) ?_;refine wpAny_take (i:=3) (v:=.pointer (some ⟨p,0,none⟩)) rfl (by kernel_rfl) (by kernel_rfl) (by kernel_rfl) (fun _ _ _ h=>h) (Or.inl ⟨by rfl,fun w=>by go_simp⟩) ?_;refine wpAny_take (i:=4) (v:=.pointer (some ⟨p,0,none⟩)) rfl (by kernel_rfl) (by kernel_rfl) (by kernel_rfl) (fun _ _ _ h=>h) (Or.inl ⟨by rfl,fun w=>by go_simp⟩) ?_;refine wpAny_ready (rs:=[1,5]) (by kernel_rfl) (by simp) ?_;refine AllReady.cons rfl (fun K hK=>?_) (AllReady.cons rfl (fun K hK=>?_) AllReady.nil)
      ·change if _ then Oper.wp _ _ _ wr.drew _ _ else _
       go_simp
       refine hK _ _ ?_;clear hK K;refine wpAny_ready (rs:=[5]) (by kernel_rfl) (by simp) ?_;refine AllReady.cons rfl (fun K hK=>?_) AllReady.nil;exact tX rfl 112 #[.pointer (some ⟨p,0,none⟩)] (by go_simp) (zO gW) fun e w2 he=>by obtain⟨rfl,hg2⟩:=he.err HR4.out;exact⟨_,rfl,rfl,Ends.no HE.out (aW kE hg2)⟩
      ·change if _ then Oper.wp _ _ _ wr.drew _ _ else _
       exact tX rfl 112 #[.pointer (some ⟨p,0,none⟩)] (by go_simp) (zO gW) fun e w2 he=>by obtain⟨rfl,hg2⟩:=he.err HR4.out;exact⟨_,rfl,rfl,Ends.no HE.out (aW kE hg2)⟩
     |ok x=>
      obtain⟨bb,fO⟩:=x;have hl5:=(mW hr4).1;have Q6:=hr.wf.mD;have xg:fO.length+1=aA.length:=by rw[hl5];exact Q6
      have jO:Hid (gJ ts=Ev (fF (Lx.hd ts)).toNat (iM f' fO (acc++[(bb,Lx.pl aA)]))):=by
       show _=_;rw[hpi.out];simp only[iM];rw[if_neg HB.out,hr4]
      have HR4:Hid _:=hr4;clear hr4 hpi hl5
      go_wp2_with (first
       | (go_at_call 113;refine(F4 hr iq HB.out).mono ?_;rintro e w'⟨rfl,hw⟩;obtain rfl:=hw.symm))
      go_region_law (first
       | (refine step_append_lies _ rfl (.tmp 29) (.tmp 34) 41 rfl (w.heap.size+2) 9 i0 _ 1 16 underlying41 hi hz0 hz1 hz2 rfl (by decide) (.slice va vk vc) acc.length (ps.flatMap cT) (by simp[Act.eval]) (hown5.alloc _) ⟨w5.heap.size,0,none⟩ 1 1 (cT (.bool false,(bb,Lx.pl aA))) (by simp[Act.eval]) rfl (bC (aj.new w5 _ 9)) (by simp[cT,Value.oneCell']) (by decide) (by unfold maxLen;omega) (by omega) (by have:=hg5.size;simp at this;simp;omega) _ rfl ?_;intro g6 cap6 w6 hown6 BQ uj amb;have Q7:=(l8.alloc _).grown BQ (fun e=>by have:=(hown.lt _ e.symm).1;omega);have c06:w6.cell? ⟨w.heap.size+1,1,none⟩=some (.slice va vk vc):=Q7.cell 1;have f06:∀i,w6.frozen? ⟨w.heap.size+1,i,none⟩=false:=Q7.frozen)
       | (refine jK rfl 112 #[.pointer (some ⟨p,0,none⟩)] (by go_simp) (zO gW) ?_;intro e w5 he;obtain⟨vv,rfl,hg5,nu,rfl⟩:=he.ok HR4.out;refine⟨_,rfl,?_⟩;have hown5:=((hgb.kept tV (om wr none) (by simp)).kept tV hg5 (fun k hk=>by cases hk;omega)).2.1;have l8:=jl.drew.grown hg5 (by simp;omega);have Ib:w5.cell? ⟨w.heap.size+1,1,none⟩=some (.slice va vk vc):=l8.cell 1;have Ew:=l8.lt))
      all_goals
       have G6:=uY.push tV (hgb.kept tV (om wr none) (by simp)) (p:=p) (by omega) (by have:wr.drew.heap.size=wr.heap.size:=rfl;omega) hg5 (.bool false,(bb,Lx.pl aA)) trivial (bZ w5 _ none) hown6 BQ uj;have kB6:=((jI.drew.grown hg5 (by simp;omega)).alloc _).grown BQ (fun e=>by have:=(hown.lt _ e.symm).1;omega);have yP:=(nu.alloc _).grown BQ (fun e=>by have:=(hown.lt _ e.symm).1;omega) (fun e=>by have:=(hown.lt _ e.symm).1;omega);have gg6:=Br (aW kE hg5) (bZ w5 _ none) BQ (fun k hk=>by have:=(hown.lt _ hk).1;omega);have hs6:=BQ.size;have hs5:=hg5.size;have hsD:wr.drew.heap.size=wr.heap.size:=rfl;clear hown6 BQ uj hown5 l8 Ib c0 f0 he;go_wp2_with fail;go_roundg fO.length
       case measure=>omega
       case rel=>
        refine⟨fO,acc++[(bb,Lx.pl aA)],_,f',rfl,by omega,by simp;omega,?_,yP.setOther _ _ (by omega) (by omega),Q7.set 1 _,kB6.other (by omega) _,?_,d9 gg6 (by omega) _ _,jO⟩
        ·simp only[World.setCell,Array.size_modify];have:=hs6;simp at this;omega
        ·exact Grow.kept tV G6 (gu w6 (w.heap.size+1) 1 _) (fun k hk=>by cases hk;omega)
end Go.Proofs.YtjaalkocdbkdeaaGreatDoor

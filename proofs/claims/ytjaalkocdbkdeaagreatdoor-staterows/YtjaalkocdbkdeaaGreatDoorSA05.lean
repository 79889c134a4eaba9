import Derived.Test.YtjaalkocdbkdeaaGreatDoorSA04
set_option maxHeartbeats 8000000
set_option maxRecDepth 1000000
namespace Go.Proofs.YtjaalkocdbkdeaaGreatDoor
open Lx Go.Proofs.Tryz
open Go.RowKit
open Lx (Tk)
open Tr
theorem Tryz.aii:(prog.info? 175).map (fun i=>(i.zero,i.size,i.bytes))=some (some (.agg #[.int .i64 0,.slice none 0 0]),2,32):=by kernel_rfl
theorem Tryz.aij:(prog.info? 179).map (fun i=>(i.zero,i.size,i.bytes))=some (some (.agg #[.string ⟨#[]⟩,.slice none 0 0]),2,40):=by kernel_rfl
def cL:Value×Lx.Lv->List Value:=fun q=>[.int .i64 (q.2.kind:Int),q.1]
def KL:(Nat->Prop)->World->Value->Lx.Lv->Prop:=fun F w va lv=>Tr.Seq F w 9 1 cT (fun _ _=>True) va lv.tokens
theorem yh:jF KL:=fun _ _ _ _ _ _ hs hF h=>Seq.move h hs hF (fun _ _ h=>h)
def cR:Value×Lx.Rl->List Value:=fun q=>[.string q.2.name,q.1]
def KR:(Nat->Prop)->World->Value->Lx.Rl->Prop:=fun F w va r=>eO YP 9 F w va r.alts
theorem qX:jF KR:=fun _ _ _ _ _ _ hs hF h=>eO.move hs hF h
def zX(F:Nat->Prop)(w:World)(vl vr:Value)(g:Lx.Gr):Prop:=Tr.Seq F w 175 2 cL (KL F w) vl g.levels/\Tr.dW F w 179 2 cR KR vr g.rules
def aji(lo:Nat)(w':World)(v:Value)(g:Lx.Gr):Prop:=∃vl vr,v=.agg #[vl,vr]/\zX (In lo w'.heap.size) w' vl vr g
theorem zX.move{F F':Nat->Prop}{w w':World}{vl vr:Value}{g:Lx.Gr}(h:zX F w vl vr g)(hs:∀b,F b->w'.heap[b]?=w.heap[b]?)(hF:∀b,F b->F' b):zX F' w' vl vr g :=
 ⟨h.1.move hs hF fun _ _ h=>yh _ _ _ _ _ _ hs hF h,h.2.move hs hF fun _ _ _ hA h=>qX _ _ _ _ _ _ (fun b hb=>hs b (hA b hb)) (fun _ h=>h) h⟩
theorem ae8(sb cap:Nat)(L:List Tk)(p:Nat)(w:World)(ts:List Tk)(h:Rd sb cap L p w ts 0):
  Calls prog 35 #[.pointer (some ⟨p,0,none⟩)] w (Ends sb cap L p 0 (aji w.heap.size) w (gQ ts)):=by
 obtain⟨i57,ajB,ajj,ajk,ajl⟩:=info_parts Tryz.aii;obtain⟨i55,Zy,Zd,Ze,Zf⟩:=info_parts Tryz.aij;have hp:=h.lt;have hs:=h.yO;have hlb:=h.lb;have hlen:=h.len;have h2:=(h.alloc (.cells #[.slice none 0 0,.slice none 0 0] 75)).alloc (.cells #[.slice none 0 0,.slice none 0 0] 75);have kB:=(aj.new w #[.slice none 0 0,.slice none 0 0] 75).alloc (.cells #[.slice none 0 0,.slice none 0 0] 75);have kC:=aj.new (w.alloc (.cells #[.slice none 0 0,.slice none 0 0] 75)) #[.slice none 0 0,.slice none 0 0] 75;have G0:=aW (bZ w (.cells #[.slice none 0 0,.slice none 0 0] 75) (some p)) (bZ _ (.cells #[.slice none 0 0,.slice none 0 0] 75) (some p));rw[show (w.alloc (.cells #[.slice none 0 0,.slice none 0 0] 75)).heap.size=w.heap.size+1 by simp]at kC;have Me:Hid _:=FT ts;go_enter func35,ntmps35;go_wp2_with fail
 go_loopg [] ts.length (fun k wz=>∃(aA:List Tk)(acc:List Lx.Lv)(v:Value)(f:Nat),aA.length=k/\aA.length<=f/\acc.length+aA.length<=ts.length/\w.heap.size+2<=wz.heap.size/\Rd sb cap L p wz aA 0/\aj wz (w.heap.size+1) #[v,.slice none 0 0] 75/\aj wz w.heap.size #[.slice none 0 0,.slice none 0 0] 75 /\
   Grow (w.heap.size+2) wz 175 2 cL KL v acc/\w.grownBy wz (some p)/\Hid (gQ ts=K9 (fI f aA acc)))
 case atStart=>exact⟨ts,[],_,ts.length,rfl,zL0,by simp,by simp,h2,kC,kB,Grow.nil _ _ _ _ _ _,G0,Me⟩
 case round=>
  revert wr;intro wz hrel;obtain⟨aA,acc,v,f,hk,hf,hacc,hsz,hr,jl,jI,hgrow,hg,hpi⟩:=hrel;clear h2 kB kC G0 Me;have hne:=hr.wf.ne;obtain⟨f',rfl⟩:∃f',f=f'+1:=⟨f-1,by omega⟩;obtain⟨ps,F,hgb⟩:=hgrow;have hown:=hgb.2.1;obtain⟨va,vk,vc,rfl⟩:=rW hown;have c0:wz.cell? ⟨w.heap.size+1,0,none⟩=some (.slice va vk vc):=jl.cell 0;have c1:wz.cell? ⟨w.heap.size+1,1,none⟩=some (.slice none 0 0):=jl.cell 1;have f0:∀i,wz.frozen? ⟨w.heap.size+1,i,none⟩=false:=jl.frozen;have gW:=hr.drew;have kE:=aW hg (om wz (some p))
  by_cases hlk:0<=fF (Lx.hd aA)
  ·cases hr4:gJ aA with
   |error x=>
    obtain⟨n,a⟩:=x;have HE:Hid (gQ ts=.error (n,a)):=by
     show _=_;rw[hpi.out];simp only[fI];rw[if_pos hlk,hr4];rfl
    have HR4:Hid _:=hr4;clear hr4 hpi
    go_wp2_with (first
     | (go_at_call 75;refine(oq hr).mono ?_;rintro e w'⟨rfl,hw⟩;obtain rfl:=hw.symm)
     | (go_at_call 74;refine(FM _ _).mono ?_;rintro e w'⟨rfl,hw⟩;obtain rfl:=hw.symm))
    refine wp_region_any (by kernel_rfl) ?_;refine wpAny_take (i:=0) (v:=.pointer (some ⟨w.heap.size+1,0,none⟩)) rfl (by kernel_rfl) (by kernel_rfl) (by kernel_rfl) (fun _ _ _ h=>h) (Or.inl ⟨by rfl,fun w=>by go_simp⟩) ?_;refine wpAny_take (i:=2) (v:=.pointer (some ⟨p,0,none⟩)) rfl (by kernel_rfl) (by kernel_rfl) (by kernel_rfl) (fun _ _ _ h=>h) (Or.inl ⟨by rfl,fun w=>by go_simp⟩) ?_;refine wpAny_ready (rs:=[1,3]) (by kernel_rfl) (by simp) ?_;refine AllReady.cons rfl (fun K hK=>?_) (AllReady.cons rfl (fun K hK=>?_) AllReady.nil)
    ·change if _ then Oper.wp _ _ _ wz.drew _ _ else _
     go_simp
     refine hK _ _ ?_;clear hK K;refine wpAny_ready (rs:=[3]) (by kernel_rfl) (by simp) ?_;refine AllReady.cons rfl (fun K hK=>?_) AllReady.nil;exact tX rfl 76 #[.pointer (some ⟨p,0,none⟩)] (by go_simp) (OL sb cap L p _ aA gW hlk) fun e w2 he=>by obtain⟨rfl,hg2⟩:=he.err HR4.out;exact⟨_,rfl,rfl,Ends.no HE.out (aW kE hg2)⟩
    ·change if _ then Oper.wp _ _ _ wz.drew _ _ else _
     exact tX rfl 76 #[.pointer (some ⟨p,0,none⟩)] (by go_simp) (OL sb cap L p _ aA gW hlk) fun e w2 he=>by obtain⟨rfl,hg2⟩:=he.err HR4.out;exact⟨_,rfl,rfl,Ends.no HE.out (aW kE hg2)⟩
   |ok x=>
    obtain⟨lv,fO⟩:=x;have hl5:=JQ hr4;have Q6:=hr.wf.mD;have jO:Hid (gQ ts=K9 (fI f' fO (acc++[lv]))):=by
     show _=_;rw[hpi.out];simp only[fI];rw[if_pos hlk,hr4]
    have HR4:Hid _:=hr4;clear hr4 hpi
    go_wp2_with (first
     | (go_at_call 75;refine(oq hr).mono ?_;rintro e w'⟨rfl,hw⟩;obtain rfl:=hw.symm)
     | (go_at_call 74;refine(FM _ _).mono ?_;rintro e w'⟨rfl,hw⟩;obtain rfl:=hw.symm))
    go_region_law (first
     | (refine step_append_lies _ rfl (.tmp 11) (.tmp 14) 72 rfl (w.heap.size+2) 175 i57 _ 2 32 underlying72 ajB ajj ajk ajl rfl (by decide) (.slice va vk vc) acc.length (ps.flatMap cL) (by simp[Act.eval]) (hown5.alloc _) ⟨w5.heap.size,0,none⟩ 1 1 (cL (.slice xa xk xc,lv)) (by simp[Act.eval]) rfl (bC (aj.new w5 _ 175)) (by simp[cL,Value.oneCell']) (by decide) (by unfold maxLen;omega) (by omega) (by have:=hg5.size;have:wz.drew.heap.size=wz.heap.size:=rfl;simp;omega) _ rfl ?_;intro yQ yB sW Gn pK Gu ajm;have Ai:=(l8.alloc _).grown pK (fun e=>by have:=(hown.lt _ e.symm).1;omega);have Zz:sW.cell? ⟨w.heap.size+1,0,none⟩=some (.slice va vk vc):=Ai.cell 0;have ZA:∀i,sW.frozen? ⟨w.heap.size+1,i,none⟩=false:=Ai.frozen)
     | (refine jK rfl 76 #[.pointer (some ⟨p,0,none⟩)] (by go_simp) (OL sb cap L p _ aA gW hlk) ?_;intro e w5 he;obtain⟨vv,rfl,hg5,nu,hv5⟩:=he.ok HR4.out;refine⟨_,rfl,?_⟩;obtain⟨vx,rfl,hax⟩:=hv5;obtain⟨xa,xk,xc,rfl⟩:=Seq.form hax;have hown5:=((hgb.kept yh (om wz none) (by simp)).kept yh hg5 (fun k hk=>by cases hk;omega)).2.1;have l8:=jl.drew.grown hg5 (by simp;omega);have Ib:w5.cell? ⟨w.heap.size+1,0,none⟩=some (.slice va vk vc):=l8.cell 0;have Ew:=l8.lt))
    all_goals
     have Mf:=uY.push yh (hgb.kept yh (om wz none) (by simp)) (p:=p) (by omega) (by have:wz.drew.heap.size=wz.heap.size:=rfl;omega) hg5 (.slice xa xk xc,lv) hax (bZ w5 _ none) Gn pK Gu;have La:=((jI.drew.grown hg5 (by simp;omega)).alloc _).grown pK (fun e=>by have:=(hown.lt _ e.symm).1;omega);have Lb:=(nu.alloc _).grown pK (fun e=>by have:=(hown.lt _ e.symm).1;omega) (fun e=>by have:=(hown.lt _ e.symm).1;omega);have Lc:=Br (aW kE hg5) (bZ w5 _ none) pK (fun k hk=>by have:=(hown.lt _ hk).1;omega);have ajC:w5.heap.size+1<=sW.heap.size:=by have:=pK.size;simpa using this
     have hs5:wz.heap.size<=w5.heap.size:=hg5.size;clear Gn pK Gu hown5 l8 Ib c0 f0 he;go_wp2_with fail;go_roundg fO.length
     case measure=>omega
     case rel=>
      refine⟨fO,acc++[lv],_,f',rfl,by omega,by simp;omega,?_,Lb.setOther _ _ (by omega) (by omega),Ai.set 0 _,La.other (by omega) _,?_,d9 Lc (by omega) _ _,jO⟩
      ·simp only[World.setCell,Array.size_modify];omega
      ·exact Grow.kept yh Mf (gu sW (w.heap.size+1) 0 _) (fun k hk=>by cases hk;omega)
  ·have Mg:Hid (gQ ts=yw acc aA):=by
    show _=_;rw[hpi.out];simp only[fI];rw[if_neg hlk];rfl
   have hseq:=Grow.seq yh ⟨ps,F,hgb⟩;have Cg:uW wz.heap.size wz 179 2 cR KR (.slice none 0 0) [] [] []:=⟨rfl,World.ownsRow_nil _ _ _ _,(fun j q A h=>by simp at h),(fun A h=>by cases h),(fun g h A hA=>by cases hA),List.Pairwise.nil,rfl⟩;clear hpi;cases hr4:dF aA with
   |error x=>
    obtain⟨n,a⟩:=x;have HE:Hid (gQ ts=.error (n,a)):=by
     show _=_;rw[Mg.out];unfold yw;rw[hr4]
    have HR4:Hid _:=hr4;clear hr4 Mg
    go_wp2_with (first
     | (go_at_call 75;refine(oq hr).mono ?_;rintro e w'⟨rfl,hw⟩;obtain rfl:=hw.symm)
     | (go_at_call 74;refine(FM _ _).mono ?_;rintro e w'⟨rfl,hw⟩;obtain rfl:=hw.symm))
    refine wp_region_any (by kernel_rfl) ?_;refine wpAny_take (i:=0) (v:=.pointer (some ⟨w.heap.size+1,1,none⟩)) rfl (by kernel_rfl) (by kernel_rfl) (by kernel_rfl) (fun _ _ _ h=>h) (Or.inl ⟨by rfl,fun w=>by go_simp⟩) ?_;refine wpAny_take (i:=2) (v:=.pointer (some ⟨p,0,none⟩)) rfl (by kernel_rfl) (by kernel_rfl) (by kernel_rfl) (fun _ _ _ h=>h) (Or.inl ⟨by rfl,fun w=>by go_simp⟩) ?_;refine wpAny_ready (rs:=[1,3]) (by kernel_rfl) (by simp) ?_;refine AllReady.cons rfl (fun K hK=>?_) (AllReady.cons rfl (fun K hK=>?_) AllReady.nil)
    ·change if _ then Oper.wp _ _ _ wz.drew _ _ else _
     go_simp
     refine hK _ _ ?_;clear hK K;refine wpAny_ready (rs:=[3]) (by kernel_rfl) (by simp) ?_;refine AllReady.cons rfl (fun K hK=>?_) AllReady.nil;exact tX rfl 77 #[.pointer (some ⟨p,0,none⟩)] (by go_simp) (Ef sb cap L p _ aA gW) fun e w2 he=>by obtain⟨rfl,hg2⟩:=he.err HR4.out;exact⟨_,rfl,rfl,Ends.no HE.out (aW kE hg2)⟩
    ·change if _ then Oper.wp _ _ _ wz.drew _ _ else _
     exact tX rfl 77 #[.pointer (some ⟨p,0,none⟩)] (by go_simp) (Ef sb cap L p _ aA gW) fun e w2 he=>by obtain⟨rfl,hg2⟩:=he.err HR4.out;exact⟨_,rfl,rfl,Ends.no HE.out (aW kE hg2)⟩
   |ok x=>
    obtain⟨rl,fO⟩:=x;have hl5:=F5 hr4;have Q6:=hr.wf.mD;have jO:Hid (gQ ts=Gf acc (iC fO.length fO [rl])):=by
     show _=_;rw[Mg.out];unfold yw;rw[hr4]
    have HR4:Hid _:=hr4;clear hr4 Mg
    go_wp2_with (first
     | (go_at_call 75;refine(oq hr).mono ?_;rintro e w'⟨rfl,hw⟩;obtain rfl:=hw.symm)
     | (go_at_call 74;refine(FM _ _).mono ?_;rintro e w'⟨rfl,hw⟩;obtain rfl:=hw.symm))
    go_region_law (first
     | (refine step_append_lies _ rfl (.tmp 18) (.tmp 21) 73 rfl wz.heap.size 179 i55 _ 2 40 underlying73 Zy Zd Ze Zf rfl (by decide) (.slice none 0 0) 0 [] (by simp[Act.eval]) (hown5.alloc _) ⟨w5.heap.size,0,none⟩ 1 1 (cR (.slice xa xk xc,rl)) (by simp[Act.eval]) rfl (bC (aj.new w5 _ 179)) (by simp[cR,Value.oneCell']) (by decide) (by unfold maxLen;omega) (by omega) (by have:=hg5.size;have:wz.drew.heap.size=wz.heap.size:=rfl;simp;omega) _ rfl ?_;intro yQ yB sW Gn pK Gu ajm;have Ai:=(l8.alloc _).grown pK (by simp[Value.ownBlock]);have Zz:sW.cell? ⟨w.heap.size+1,1,none⟩=some (.slice none 0 0):=Ai.cell 1;have ZA:∀i,sW.frozen? ⟨w.heap.size+1,i,none⟩=false:=Ai.frozen)
     | (refine jK rfl 77 #[.pointer (some ⟨p,0,none⟩)] (by go_simp) (Ef sb cap L p _ aA gW) ?_;intro e w5 he;obtain⟨vv,rfl,hg5,nu,hv5⟩:=he.ok HR4.out;refine⟨_,rfl,?_⟩;obtain⟨vx,rfl,hax⟩:=hv5;obtain⟨xa,xk,xc,rfl⟩:=eO.form hax;have hown5:=((Cg.kept qX (om wz none) (by simp)).kept qX hg5 (fun k hk=>by cases hk;omega)).2.1;have l8:=jl.drew.grown hg5 (by simp;omega);have Ib:w5.cell? ⟨w.heap.size+1,1,none⟩=some (.slice none 0 0):=l8.cell 1;have Ew:=l8.lt))
    all_goals
     have Mf:=uW.push qX (Cg.kept qX (om wz none) (by simp)) (p:=p) (by omega) (zL0) hg5 (.slice xa xk xc,rl) hax (bZ w5 _ none) Gn pK Gu;have La:=((jI.drew.grown hg5 (by simp;omega)).alloc _).grown pK (by simp[Value.ownBlock]);have Lb:=(nu.alloc _).grown pK (by simp[Value.ownBlock]) (by simp[Value.ownBlock]);have Lc:=Br (aW kE hg5) (bZ w5 _ none) pK (by simp[Value.ownBlock]);have ajC:w5.heap.size+1<=sW.heap.size:=by have:=pK.size;simpa using this
     have hs5:wz.heap.size<=w5.heap.size:=hg5.size;have hkeep:∀b,w.heap.size+2<=b->b<wz.heap.size->(sW.setCell ⟨w.heap.size+1,1,none⟩ (.slice (some ⟨yQ,0,none⟩) 1 yB)).heap[b]?=wz.heap[b]?:=fun b h1 h2=>by
      rw[zS0 (fun e=>by have e':b=w.heap.size+1:=e;omega),pK.block b (by simp;omega) (by simp[Value.ownBlock]),Below.heap_alloc _ _ _ (by omega),hg5.block b h2 (by simp;omega)];rfl
     have HK:Hid _:=hkeep;have GS:mH wz.heap.size (sW.setCell ⟨w.heap.size+1,1,none⟩ (.slice (some ⟨yQ,0,none⟩) 1 yB)) 179 2 cR KR (.slice (some ⟨yQ,0,none⟩) 1 yB) [rl]:=mH.kept qX Mf (gu sW (w.heap.size+1) 1 _) (fun k hk=>by cases hk;omega);have H7:=Lb.setOther (b:=w.heap.size+1) 1 (.slice (some ⟨yQ,0,none⟩) 1 yB) (by omega) (by omega);have H9:=Ai.set 1 (.slice (some ⟨yQ,0,none⟩) 1 yB);have Ia:=La.other (b':=w.heap.size+1) (i:=1) (by omega) (.slice (some ⟨yQ,0,none⟩) 1 yB);have gS:=d9 Lc (b:=w.heap.size+1) (by omega) 1 (.slice (some ⟨yQ,0,none⟩) 1 yB);have szS:(sW.setCell ⟨w.heap.size+1,1,none⟩ (.slice (some ⟨yQ,0,none⟩) 1 yB)).heap.size=sW.heap.size:=by simp[World.setCell]
     clear Gn pK Gu hown5 l8 Ib c0 c1 f0 he hkeep Mf Lb Lc La;go_wp2_with fail
     go_loopg [] fO.length (fun k wr=>∃(rD:List Tk)(acq:List Lx.Rl)(v:Value)(f:Nat),rD.length=k/\rD.length<=f/\acq.length+rD.length<=ts.length/\wz.heap.size<=wr.heap.size/\Rd sb cap L p wr rD 0/\aj wr (w.heap.size+1) #[.slice va vk vc,v] 75/\aj wr w.heap.size #[.slice none 0 0,.slice none 0 0] 75 /\
       mH wz.heap.size wr 179 2 cR KR v acq/\w.grownBy wr (some p)/\Hid (∀b,w.heap.size+2<=b->b<wz.heap.size->wr.heap[b]?=wz.heap[b]?)/\Hid (gQ ts=Gf acc (iC f rD acq)))
     case atStart=>exact⟨fO,[rl],_,fO.length,rfl,zL0,by simp;omega,by omega,H7,H9,Ia,GS,gS,HK,jO⟩
     case round=>
      obtain⟨rD,acq,v,f2,hk2,hf2,al3,hsz2,hrq,Mh,Mi,hgrow2,Aq,hkeep,hpi2⟩:=hrel;clear H7 H9 Ia GS gS HK jO Ai Zz ZA gW kE Cg hg5 nu hax;have hne2:=hrq.wf.ne;obtain⟨f2',rfl⟩:∃f',f2=f'+1:=⟨f2-1,by omega⟩;obtain⟨ps2,F2,Ce⟩:=hgrow2;have hown2:=Ce.2.1;obtain⟨yR,yS,yT,rfl⟩:=rW hown2;have q0:wr.cell? ⟨w.heap.size+1,0,none⟩=some (.slice va vk vc):=Mh.cell 0;have q1:wr.cell? ⟨w.heap.size+1,1,none⟩=some (.slice yR yS yT):=Mh.cell 1;have qf:∀i,wr.frozen? ⟨w.heap.size+1,i,none⟩=false:=Mh.frozen
      by_cases hend:Lx.hd rD=aL
      ·have HP:Hid (gQ ts=.ok (⟨acc,acq⟩,rD)):=by
        show _=_;rw[hpi2.out];simp only[iC];rw[if_pos hend];rfl
       have EQ:Hid (Lx.hd rD=aL):=hend;clear hend hpi2;have e0:wr.cell? ⟨w.heap.size,0,none⟩=some (.slice none 0 0):=Mi.cell 0;have e1:wr.cell? ⟨w.heap.size,1,none⟩=some (.slice none 0 0):=Mi.cell 1;have ef:∀i,wr.frozen? ⟨w.heap.size,i,none⟩=false:=Mi.frozen;have ajn:=mH.seq ⟨ps2,F2,Ce⟩
       go_wp2_with (first
        | (go_at_call 78;refine(uX hrq aL).mono ?_;rintro e w'⟨rfl,hw⟩;obtain rfl:=hw.symm;rw[decide_eq_true EQ.out]))
       refine bodyPost_ret (v:=.agg #[.slice va vk vc,.slice yR yS yT]) (by simp[results,results35,go_sem,e0,e1]) rfl ?_;refine Ends.yes HP.out (d9 (d9 Aq (zL0) _ _) (zL0) _ _) ((hrq.setOther _ _ (by omega) (by omega)).setOther _ _ (by omega) (by omega)) ⟨_,_,rfl,?_,?_⟩
       ·have hs':∀b,In (w.heap.size+2) wz.heap.size b->((wr.setCell ⟨w.heap.size,0,none⟩ (.slice va vk vc)).setCell ⟨w.heap.size,1,none⟩ (.slice yR yS yT)).heap[b]?=wz.heap[b]?:=fun b hb=>by
         have h1:=hb.1;rw[zS0 (fun e=>by have e':b=w.heap.size:=e;omega),zS0 (fun e=>by have e':b=w.heap.size:=e;omega)];exact hkeep.out b hb.1 hb.2
        have hF':∀b,In (w.heap.size+2) wz.heap.size b->In w.heap.size ((wr.setCell ⟨w.heap.size,0,none⟩ (.slice va vk vc)).setCell ⟨w.heap.size,1,none⟩ (.slice yR yS yT)).heap.size b:=fun b hb=>by
         have h1:=hb.1;have h2:=hb.2;exact⟨by omega,by simp[World.setCell];omega⟩
        exact hseq.move hs' hF' fun _ _ h=>yh _ _ _ _ _ _ hs' hF' h
       ·have hs':∀b,In wz.heap.size wr.heap.size b->((wr.setCell ⟨w.heap.size,0,none⟩ (.slice va vk vc)).setCell ⟨w.heap.size,1,none⟩ (.slice yR yS yT)).heap[b]?=wr.heap[b]?:=fun b hb=>by
         have h1:=hb.1;rw[zS0 (fun e=>by have e':b=w.heap.size:=e;omega),zS0 (fun e=>by have e':b=w.heap.size:=e;omega)]
        have hF':∀b,In wz.heap.size wr.heap.size b->In w.heap.size ((wr.setCell ⟨w.heap.size,0,none⟩ (.slice va vk vc)).setCell ⟨w.heap.size,1,none⟩ (.slice yR yS yT)).heap.size b:=fun b hb=>by
         have h1:=hb.1;have h2:=hb.2;exact⟨by omega,by simp[World.setCell];omega⟩
        exact ajn.move hs' hF' fun _ _ _ hA h=>qX _ _ _ _ _ _ (fun b hb=>hs' b (hA b hb)) (fun _ h=>h) h
      ·have EQ:Hid (¬Lx.hd rD=aL):=hend
       clear hend;have gW:=hrq.drew;have kE:=aW Aq (om wr (some p));cases yP:dF rD with
       |error x=>
        obtain⟨n,a⟩:=x;have HE:Hid (gQ ts=.error (n,a)):=by
         show _=_;rw[hpi2.out];simp only[iC];rw[if_neg EQ.out,yP];rfl
        have Mj:Hid _:=yP;clear yP hpi2
        go_wp2_with (first
         | (go_at_call 78;refine(uX hrq aL).mono ?_;rintro e w'⟨rfl,hw⟩;obtain rfl:=hw.symm;rw[decide_eq_false EQ.out]))
        refine wp_region_any (by kernel_rfl) ?_;refine wpAny_take (i:=0) (v:=.pointer (some ⟨w.heap.size+1,1,none⟩)) rfl (by kernel_rfl) (by kernel_rfl) (by kernel_rfl) (fun _ _ _ h=>h) (Or.inl ⟨by rfl,fun w=>by go_simp⟩) ?_;refine wpAny_take (i:=2) (v:=.pointer (some ⟨p,0,none⟩)) rfl (by kernel_rfl) (by kernel_rfl) (by kernel_rfl) (fun _ _ _ h=>h) (Or.inl ⟨by rfl,fun w=>by go_simp⟩) ?_;refine wpAny_ready (rs:=[1,3]) (by kernel_rfl) (by simp) ?_;refine AllReady.cons rfl (fun K hK=>?_) (AllReady.cons rfl (fun K hK=>?_) AllReady.nil)
        ·change if _ then Oper.wp _ _ _ wr.drew _ _ else _
         go_simp
         refine hK _ _ ?_;clear hK K;refine wpAny_ready (rs:=[3]) (by kernel_rfl) (by simp) ?_;refine AllReady.cons rfl (fun K hK=>?_) AllReady.nil;exact tX rfl 77 #[.pointer (some ⟨p,0,none⟩)] (by go_simp) (Ef sb cap L p _ rD gW) fun e w2 he=>by obtain⟨rfl,hg2⟩:=he.err Mj.out;exact⟨_,rfl,rfl,Ends.no HE.out (aW kE hg2)⟩
        ·change if _ then Oper.wp _ _ _ wr.drew _ _ else _
         exact tX rfl 77 #[.pointer (some ⟨p,0,none⟩)] (by go_simp) (Ef sb cap L p _ rD gW) fun e w2 he=>by obtain⟨rfl,hg2⟩:=he.err Mj.out;exact⟨_,rfl,rfl,Ends.no HE.out (aW kE hg2)⟩
       |ok x=>
        obtain⟨rq,Q8⟩:=x;have hl7:=F5 yP;have hl8:=hrq.wf.mD;have HPQ:Hid (gQ ts=Gf acc (iC f2' Q8 (acq++[rq]))):=by
         show _=_;rw[hpi2.out];simp only[iC];rw[if_neg EQ.out,yP]
        have Mj:Hid _:=yP;clear yP hpi2
        go_wp2_with (first
         | (go_at_call 78;refine(uX hrq aL).mono ?_;rintro e w'⟨rfl,hw⟩;obtain rfl:=hw.symm;rw[decide_eq_false EQ.out]))
        go_region_law (first
         | (refine step_append_lies _ rfl (.tmp 30) (.tmp 33) 73 rfl wz.heap.size 179 i55 _ 2 40 underlying73 Zy Zd Ze Zf rfl (by decide) (.slice yR yS yT) acq.length (ps2.flatMap cR) (by simp[Act.eval]) (Gv.alloc _) ⟨w7.heap.size,0,none⟩ 1 1 (cR (.slice xa7 xk7 xc7,rq)) (by simp[Act.eval]) rfl (bC (aj.new w7 _ 179)) (by simp[cR,Value.oneCell']) (by decide) (by unfold maxLen;omega) (by omega) (by have:=Ar.size;have:wr.drew.heap.size=wr.heap.size:=rfl;simp;omega) _ rfl ?_;intro g7b al4 Ic YH zQ Zg al5;have PW:=(Mk.alloc _).grown zQ (fun e=>by have:=(hown2.lt _ e.symm).1;omega);have amc:Ic.cell? ⟨w.heap.size+1,1,none⟩=some (.slice yR yS yT):=PW.cell 1;have amd:∀i,Ic.frozen? ⟨w.heap.size+1,i,none⟩=false:=PW.frozen)
         | (refine jK rfl 77 #[.pointer (some ⟨p,0,none⟩)] (by go_simp) (Ef sb cap L p _ rD gW) ?_;intro e w7 he;obtain⟨vv,rfl,Ar,hr7,hv7⟩:=he.ok Mj.out;refine⟨_,rfl,?_⟩;obtain⟨vx,rfl,ZB⟩:=hv7;obtain⟨xa7,xk7,xc7,rfl⟩:=eO.form ZB;have Gv:=((Ce.kept qX (om wr none) (by simp)).kept qX Ar (fun k hk=>by cases hk;omega)).2.1;have Mk:=Mh.drew.grown Ar (by simp;omega);have c07:w7.cell? ⟨w.heap.size+1,1,none⟩=some (.slice yR yS yT):=Mk.cell 1;have ame:=Mk.lt))
        all_goals
         have G7b:=uW.push qX (Ce.kept qX (om wr none) (by simp)) (p:=p) (by omega) (by have:wr.drew.heap.size=wr.heap.size:=rfl;omega) Ar (.slice xa7 xk7 xc7,rq) ZB (bZ w7 _ none) YH zQ Zg;have ajD:=((Mi.drew.grown Ar (by simp;omega)).alloc _).grown zQ (fun e=>by have:=(hown2.lt _ e.symm).1;omega);have ajE:=(hr7.alloc _).grown zQ (fun e=>by have:=(hown2.lt _ e.symm).1;omega) (fun e=>by have:=(hown2.lt _ e.symm).1;omega);have ajF:=Br (aW kE Ar) (bZ w7 _ none) zQ (fun k hk=>by have:=(hown2.lt _ hk).1;omega);have amf:w7.heap.size+1<=Ic.heap.size:=by have:=zQ.size;simpa using this
         have hs7:wr.heap.size<=w7.heap.size:=Ar.size;have YI:∀b,w.heap.size+2<=b->b<wz.heap.size->Ic.heap[b]?=wz.heap[b]?:=fun b h1 h2=>by
          rw[zQ.block b (by simp;omega) (fun e=>by have:=(hown2.lt _ e.symm).1;omega),Below.heap_alloc _ _ _ (by omega),Ar.block b (by have:wr.drew.heap.size=wr.heap.size:=rfl;omega) (by simp;omega)];exact hkeep.out b h1 h2
         have HK7:Hid _:=YI;clear YH zQ Zg Gv Mk c07 q0 q1 qf he YI;go_wp2_with fail;go_roundg Q8.length
         case measure=>omega
         case rel=>
          refine⟨Q8,acq++[rq],_,f2',rfl,by omega,by simp;omega,?_,ajE.setOther _ _ (by omega) (by omega),PW.set 1 _,ajD.other (by omega) _,?_,d9 ajF (by omega) _ _,?_,HPQ⟩
          ·simp only[World.setCell,Array.size_modify];omega
          ·exact mH.kept qX G7b (gu Ic (w.heap.size+1) 1 _) (fun k hk=>by cases hk;omega)
          ·intro b h1 h2
           rw[zS0 (fun e=>by have e':b=w.heap.size+1:=e;omega)];exact HK7.out b h1 h2
end Go.Proofs.YtjaalkocdbkdeaaGreatDoor

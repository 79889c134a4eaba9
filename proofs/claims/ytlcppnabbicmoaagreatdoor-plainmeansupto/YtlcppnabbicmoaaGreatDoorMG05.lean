import Derived.Test.YtlcppnabbicmoaaGreatDoorMG04
set_option maxHeartbeats 8000000
set_option maxRecDepth 1000000
namespace Go.Proofs.YtlcppnabbicmoaaGreatDoor
open Lx Go.Proofs.Tryz
open Go.RowKit
open Lx (Tk)
open Tr
theorem Tryz.ai4:(prog.info? 175).map (fun i=>(i.zero,i.size,i.bytes))=some (some (.agg #[.int .i64 0,.slice none 0 0]),2,32):=by kernel_rfl
theorem Tryz.ai5:(prog.info? 179).map (fun i=>(i.zero,i.size,i.bytes))=some (some (.agg #[.string ⟨#[]⟩,.slice none 0 0]),2,40):=by kernel_rfl
def cL:Value × Lx.Lv->List Value:=fun q=>[.int .i64 (q.2.kind:Int),q.1]
def KL:(Nat->Prop)->World->Value->Lx.Lv->Prop:=fun F w va lv=>Tr.Seq F w 9 1 cT (fun _ _=>True) va lv.tokens
theorem yD:jP KL:=fun _ _ _ _ _ _ hs hF h=>Seq.move h hs hF (fun _ _ h=>h)
def cR:Value × Lx.Rl->List Value:=fun q=>[.string q.2.name,q.1]
def KR:(Nat->Prop)->World->Value->Lx.Rl->Prop:=fun F w va r=>fD YP 9 F w va r.alts
theorem rD:jP KR:=fun _ _ _ _ _ _ hs hF h=>fD.move hs hF h
def Al (F:Nat->Prop)(w:World)(vl vr:Value)(g:Lx.Gr):Prop:=Tr.Seq F w 175 2 cL (KL F w) vl g.levels/\Tr.eO F w 179 2 cR KR vr g.rules
def ajO (lo:Nat)(w':World)(v:Value)(g:Lx.Gr):Prop:=∃ vl vr,v=.agg #[vl,vr]/\Al (In lo w'.heap.size) w' vl vr g
theorem Al.move {F F':Nat->Prop}{w w':World}{vl vr:Value}{g:Lx.Gr}(h:Al F w vl vr g)(hs:∀ b,F b->w'.heap[b]?=w.heap[b]?)(hF:∀ b,F b->F' b):Al F' w' vl vr g :=
 ⟨h.1.move hs hF fun _ _ h=>yD _ _ _ _ _ _ hs hF h,h.2.move hs hF fun _ _ _ hA h=>rD _ _ _ _ _ _ (fun b hb=>hs b (hA b hb)) (fun _ h=>h) h⟩
theorem af5 (sb cap:Nat) (L:List Tk) (p:Nat) (w:World) (ts:List Tk) (h:Rd sb cap L p w ts 0) :
  Calls prog 44 #[.pointer (some ⟨p,0,none⟩)] w (Ends sb cap L p 0 (ajO w.heap.size) w (gX ts)):=by
 obtain⟨i57,akf,ajP,ajQ,ajR⟩:=info_parts Tryz.ai4;obtain⟨i55,aay,aad,aae,aaf⟩:=info_parts Tryz.ai5;have hp:=h.lt;have hs:=h.y7;have hlb:=h.lb;have hlen:=h.len;have h2:=(h.alloc (.cells #[.slice none 0 0,.slice none 0 0] 65)).alloc (.cells #[.slice none 0 0,.slice none 0 0] 65);have kB:=(aj.new w #[.slice none 0 0,.slice none 0 0] 65).alloc (.cells #[.slice none 0 0,.slice none 0 0] 65);have kC:=aj.new (w.alloc (.cells #[.slice none 0 0,.slice none 0 0] 65)) #[.slice none 0 0,.slice none 0 0] 65;have G0:=aY (cK w (.cells #[.slice none 0 0,.slice none 0 0] 65) (some p)) (cK _ (.cells #[.slice none 0 0,.slice none 0 0] 65) (some p));rw[show (w.alloc (.cells #[.slice none 0 0,.slice none 0 0] 65)).heap.size=w.heap.size+1 by simp]at kC;have Nb:Hid _:=Gy ts;go_enter func44,ntmps44;go_wp2_with fail
 go_loopg [] ts.length (fun k wz=>∃ (aB:List Tk) (acc:List Lx.Lv) (v:Value) (f:Nat),aB.length=k/\aB.length<=f/\acc.length+aB.length<=ts.length/\w.heap.size+2<=wz.heap.size/\Rd sb cap L p wz aB 0/\aj wz (w.heap.size+1) #[v,.slice none 0 0] 65/\aj wz w.heap.size #[.slice none 0 0,.slice none 0 0] 65 /\
   Grow (w.heap.size+2) wz 175 2 cL KL v acc/\w.grownBy wz (some p)/\Hid (gX ts=L8 (fP f aB acc)))
 case atStart=>exact⟨ts,[],_,ts.length,rfl,lr0,by simp,by simp,h2,kC,kB,Grow.nil _ _ _ _ _ _,G0,Nb⟩
 case round =>
  revert wr;intro wz hrel;obtain⟨aB,acc,v,f,hk,hf,hacc,hsz,hr,jv,jw,hgrow,hg,hpi⟩:=hrel;clear h2 kB kC G0 Nb;have hne:=hr.wf.ne;obtain⟨f',rfl⟩:∃ f',f=f'+1:=⟨f-1,by omega⟩;obtain⟨ps,F,hgb⟩:=hgrow;have hown:=hgb.2.1;obtain⟨va,vk,vc,rfl⟩:=sG hown;have c0:wz.cell? ⟨w.heap.size+1,0,none⟩=some (.slice va vk vc):=jv.cell 0;have c1:wz.cell? ⟨w.heap.size+1,1,none⟩=some (.slice none 0 0):=jv.cell 1;have f0:∀ i,wz.frozen? ⟨w.heap.size+1,i,none⟩=false:=jv.frozen;have iw:=hr.drew;have lC:=aY hg (oq wz (some p))
  by_cases hlk:0<=fM (Lx.hd aB)
  ·cases hr4:gZ aB with
   | error x =>
    obtain⟨n,a⟩:=x;have HE:Hid (gX ts=.error (n,a)):=by
     show _=_;rw[hpi.out];simp only[fP];rw[if_pos hlk,hr4];rfl
    have HR4:Hid _:=hr4;clear hr4 hpi
    go_wp2_with (first
     | (go_at_call 87;refine (oz hr).mono ?_;rintro e w' ⟨rfl,hw⟩;obtain rfl:=hw.symm)
     | (go_at_call 86;refine (Gt _ _).mono ?_;rintro e w' ⟨rfl,hw⟩;obtain rfl:=hw.symm))
    refine wp_region_any (by kernel_rfl) ?_;refine wpAny_take (i:=0) (v:=.pointer (some ⟨w.heap.size+1,0,none⟩)) rfl (by kernel_rfl) (by kernel_rfl) (by kernel_rfl) (fun _ _ _ h=>h) (Or.inl ⟨by rfl,fun w=>by go_simp⟩) ?_;refine wpAny_take (i:=2) (v:=.pointer (some ⟨p,0,none⟩)) rfl (by kernel_rfl) (by kernel_rfl) (by kernel_rfl) (fun _ _ _ h=>h) (Or.inl ⟨by rfl,fun w=>by go_simp⟩) ?_;refine wpAny_ready (rs:=[1,3]) (by kernel_rfl) (by simp) ?_;refine AllReady.cons rfl (fun K hK=>?_) (AllReady.cons rfl (fun K hK=>?_) AllReady.nil)
    ·change if _ then Oper.wp _ _ _ wz.drew _ _ else _
     go_simp
     refine hK _ _ ?_;clear hK K;refine wpAny_ready (rs:=[3]) (by kernel_rfl) (by simp) ?_;refine AllReady.cons rfl (fun K hK=>?_) AllReady.nil;exact uj rfl 88 #[.pointer (some ⟨p,0,none⟩)] (by go_simp) (PO sb cap L p _ aB iw hlk) fun e w2 he=>by obtain⟨rfl,hg2⟩:=he.err HR4.out;exact⟨_,rfl,rfl,Ends.no HE.out (aY lC hg2)⟩
    ·change if _ then Oper.wp _ _ _ wz.drew _ _ else _
     exact uj rfl 88 #[.pointer (some ⟨p,0,none⟩)] (by go_simp) (PO sb cap L p _ aB iw hlk) fun e w2 he=>by obtain⟨rfl,hg2⟩:=he.err HR4.out;exact⟨_,rfl,rfl,Ends.no HE.out (aY lC hg2)⟩
   | ok x =>
    obtain⟨lv,fV⟩:=x;have hl5:=Kr hr4;have Sv:=hr.wf.mJ;have ko:Hid (gX ts=L8 (fP f' fV (acc++[lv]))):=by
     show _=_;rw[hpi.out];simp only[fP];rw[if_pos hlk,hr4]
    have HR4:Hid _:=hr4;clear hr4 hpi
    go_wp2_with (first
     | (go_at_call 87;refine (oz hr).mono ?_;rintro e w' ⟨rfl,hw⟩;obtain rfl:=hw.symm)
     | (go_at_call 86;refine (Gt _ _).mono ?_;rintro e w' ⟨rfl,hw⟩;obtain rfl:=hw.symm))
    go_region_law (first
     | (refine step_append_lies _ rfl (.tmp 11) (.tmp 14) 62 rfl (w.heap.size+2) 175 i57 _ 2 32 underlying62 akf ajP ajQ ajR rfl (by decide) (.slice va vk vc) acc.length (ps.flatMap cL) (by simp[Act.eval]) (hown5.alloc _) ⟨w5.heap.size,0,none⟩ 1 1 (cL (.slice xa xk xc,lv)) (by simp[Act.eval]) rfl (bP (aj.new w5 _ 175)) (by simp[cL,Value.oneCell']) (by decide) (by unfold maxLen;omega) (by omega) (by have:=hg5.size;have:wz.drew.heap.size=wz.heap.size:=rfl;simp;omega) _ rfl ?_;intro y9 yM tC Hl qc Hw ajS;have AA:=(mG.alloc _).grown qc (fun e=>by have:=(hown.lt _ e.symm).1;omega);have aaz:tC.cell? ⟨w.heap.size+1,0,none⟩=some (.slice va vk vc):=AA.cell 0;have aaA:∀ i,tC.frozen? ⟨w.heap.size+1,i,none⟩=false:=AA.frozen)
     | (refine mZ rfl 88 #[.pointer (some ⟨p,0,none⟩)] (by go_simp) (PO sb cap L p _ aB iw hlk) ?_;intro e w5 he;obtain⟨vv,rfl,hg5,nG,hv5⟩:=he.ok HR4.out;refine⟨_,rfl,?_⟩;obtain⟨vx,rfl,hax⟩:=hv5;obtain⟨xa,xk,xc,rfl⟩:=Seq.form hax;have hown5:=((hgb.kept yD (oq wz none) (by simp)).kept yD hg5 (fun k hk=>by cases hk;omega)).2.1;have mG:=jv.drew.grown hg5 (by simp;omega);have IX:w5.cell? ⟨w.heap.size+1,0,none⟩=some (.slice va vk vc):=mG.cell 0;have E9:=mG.lt))
    all_goals
     have Nc:=vD.push yD (hgb.kept yD (oq wz none) (by simp)) (p:=p) (by omega) (by have:wz.drew.heap.size=wz.heap.size:=rfl;omega) hg5 (.slice xa xk xc,lv) hax (cK w5 _ none) Hl qc Hw;have L9:=((jw.drew.grown hg5 (by simp;omega)).alloc _).grown qc (fun e=>by have:=(hown.lt _ e.symm).1;omega);have Ma:=(nG.alloc _).grown qc (fun e=>by have:=(hown.lt _ e.symm).1;omega) (fun e=>by have:=(hown.lt _ e.symm).1;omega);have Mc:=BI (aY lC hg5) (cK w5 _ none) qc (fun k hk=>by have:=(hown.lt _ hk).1;omega);have akg:w5.heap.size+1<=tC.heap.size:=by have:=qc.size;simpa using this
     have hs5:wz.heap.size<=w5.heap.size:=hg5.size;clear Hl qc Hw hown5 mG IX c0 f0 he;go_wp2_with fail;go_roundg fV.length
     case measure=>omega
     case rel =>
      refine⟨fV,acc++[lv],_,f',rfl,by omega,by simp;omega,?_,Ma.setOther _ _ (by omega) (by omega),AA.set 0 _,L9.other (by omega) _,?_,eU Mc (by omega) _ _,ko⟩
      ·simp only[World.setCell,Array.size_modify];omega
      ·exact Grow.kept yD Nc (gK tC (w.heap.size+1) 0 _) (fun k hk=>by cases hk;omega)
  ·have Nf:Hid (gX ts=yJ acc aB):=by
    show _=_;rw[hpi.out];simp only[fP];rw[if_neg hlk];rfl
   have hseq:=Grow.seq yD ⟨ps,F,hgb⟩;have Cv:vz wz.heap.size wz 179 2 cR KR (.slice none 0 0) [] [] []:=⟨rfl,World.ownsRow_nil _ _ _ _,(fun j q A h=>by simp at h),(fun A h=>by cases h),(fun g h A hA=>by cases hA),List.Pairwise.nil,rfl⟩;clear hpi;cases hr4:dI aB with
   | error x =>
    obtain⟨n,a⟩:=x;have HE:Hid (gX ts=.error (n,a)):=by
     show _=_;rw[Nf.out];unfold yJ;rw[hr4]
    have HR4:Hid _:=hr4;clear hr4 Nf
    go_wp2_with (first
     | (go_at_call 87;refine (oz hr).mono ?_;rintro e w' ⟨rfl,hw⟩;obtain rfl:=hw.symm)
     | (go_at_call 86;refine (Gt _ _).mono ?_;rintro e w' ⟨rfl,hw⟩;obtain rfl:=hw.symm))
    refine wp_region_any (by kernel_rfl) ?_;refine wpAny_take (i:=0) (v:=.pointer (some ⟨w.heap.size+1,1,none⟩)) rfl (by kernel_rfl) (by kernel_rfl) (by kernel_rfl) (fun _ _ _ h=>h) (Or.inl ⟨by rfl,fun w=>by go_simp⟩) ?_;refine wpAny_take (i:=2) (v:=.pointer (some ⟨p,0,none⟩)) rfl (by kernel_rfl) (by kernel_rfl) (by kernel_rfl) (fun _ _ _ h=>h) (Or.inl ⟨by rfl,fun w=>by go_simp⟩) ?_;refine wpAny_ready (rs:=[1,3]) (by kernel_rfl) (by simp) ?_;refine AllReady.cons rfl (fun K hK=>?_) (AllReady.cons rfl (fun K hK=>?_) AllReady.nil)
    ·change if _ then Oper.wp _ _ _ wz.drew _ _ else _
     go_simp
     refine hK _ _ ?_;clear hK K;refine wpAny_ready (rs:=[3]) (by kernel_rfl) (by simp) ?_;refine AllReady.cons rfl (fun K hK=>?_) AllReady.nil;exact uj rfl 89 #[.pointer (some ⟨p,0,none⟩)] (by go_simp) (EF sb cap L p _ aB iw) fun e w2 he=>by obtain⟨rfl,hg2⟩:=he.err HR4.out;exact⟨_,rfl,rfl,Ends.no HE.out (aY lC hg2)⟩
    ·change if _ then Oper.wp _ _ _ wz.drew _ _ else _
     exact uj rfl 89 #[.pointer (some ⟨p,0,none⟩)] (by go_simp) (EF sb cap L p _ aB iw) fun e w2 he=>by obtain⟨rfl,hg2⟩:=he.err HR4.out;exact⟨_,rfl,rfl,Ends.no HE.out (aY lC hg2)⟩
   | ok x =>
    obtain⟨rl,fV⟩:=x;have hl5:=GQ hr4;have Sv:=hr.wf.mJ;have ko:Hid (gX ts=G9 acc (iE fV.length fV [rl])):=by
     show _=_;rw[Nf.out];unfold yJ;rw[hr4]
    have HR4:Hid _:=hr4;clear hr4 Nf
    go_wp2_with (first
     | (go_at_call 87;refine (oz hr).mono ?_;rintro e w' ⟨rfl,hw⟩;obtain rfl:=hw.symm)
     | (go_at_call 86;refine (Gt _ _).mono ?_;rintro e w' ⟨rfl,hw⟩;obtain rfl:=hw.symm))
    go_region_law (first
     | (refine step_append_lies _ rfl (.tmp 18) (.tmp 21) 63 rfl wz.heap.size 179 i55 _ 2 40 underlying63 aay aad aae aaf rfl (by decide) (.slice none 0 0) 0 [] (by simp[Act.eval]) (hown5.alloc _) ⟨w5.heap.size,0,none⟩ 1 1 (cR (.slice xa xk xc,rl)) (by simp[Act.eval]) rfl (bP (aj.new w5 _ 179)) (by simp[cR,Value.oneCell']) (by decide) (by unfold maxLen;omega) (by omega) (by have:=hg5.size;have:wz.drew.heap.size=wz.heap.size:=rfl;simp;omega) _ rfl ?_;intro y9 yM tC Hl qc Hw ajS;have AA:=(mG.alloc _).grown qc (by simp[Value.ownBlock]);have aaz:tC.cell? ⟨w.heap.size+1,1,none⟩=some (.slice none 0 0):=AA.cell 1;have aaA:∀ i,tC.frozen? ⟨w.heap.size+1,i,none⟩=false:=AA.frozen)
     | (refine mZ rfl 89 #[.pointer (some ⟨p,0,none⟩)] (by go_simp) (EF sb cap L p _ aB iw) ?_;intro e w5 he;obtain⟨vv,rfl,hg5,nG,hv5⟩:=he.ok HR4.out;refine⟨_,rfl,?_⟩;obtain⟨vx,rfl,hax⟩:=hv5;obtain⟨xa,xk,xc,rfl⟩:=fD.form hax;have hown5:=((Cv.kept rD (oq wz none) (by simp)).kept rD hg5 (fun k hk=>by cases hk;omega)).2.1;have mG:=jv.drew.grown hg5 (by simp;omega);have IX:w5.cell? ⟨w.heap.size+1,1,none⟩=some (.slice none 0 0):=mG.cell 1;have E9:=mG.lt))
    all_goals
     have Nc:=vz.push rD (Cv.kept rD (oq wz none) (by simp)) (p:=p) (by omega) (lr0) hg5 (.slice xa xk xc,rl) hax (cK w5 _ none) Hl qc Hw;have L9:=((jw.drew.grown hg5 (by simp;omega)).alloc _).grown qc (by simp[Value.ownBlock]);have Ma:=(nG.alloc _).grown qc (by simp[Value.ownBlock]) (by simp[Value.ownBlock]);have Mc:=BI (aY lC hg5) (cK w5 _ none) qc (by simp[Value.ownBlock]);have akg:w5.heap.size+1<=tC.heap.size:=by have:=qc.size;simpa using this
     have hs5:wz.heap.size<=w5.heap.size:=hg5.size;have hkeep:∀ b,w.heap.size+2<=b->b<wz.heap.size->(tC.setCell ⟨w.heap.size+1,1,none⟩ (.slice (some ⟨y9,0,none⟩) 1 yM)).heap[b]?=wz.heap[b]?:=fun b h1 h2=>by
      rw[hs0 (fun e=>by have e':b=w.heap.size+1:=e;omega),qc.block b (by simp;omega) (by simp[Value.ownBlock]),Below.heap_alloc _ _ _ (by omega),hg5.block b h2 (by simp;omega)];rfl
     have HK:Hid _:=hkeep;have GS:mP wz.heap.size (tC.setCell ⟨w.heap.size+1,1,none⟩ (.slice (some ⟨y9,0,none⟩) 1 yM)) 179 2 cR KR (.slice (some ⟨y9,0,none⟩) 1 yM) [rl]:=mP.kept rD Nc (gK tC (w.heap.size+1) 1 _) (fun k hk=>by cases hk;omega);have IU:=Ma.setOther (b:=w.heap.size+1) 1 (.slice (some ⟨y9,0,none⟩) 1 yM) (by omega) (by omega);have IV:=AA.set 1 (.slice (some ⟨y9,0,none⟩) 1 yM);have IW:=L9.other (b':=w.heap.size+1) (i:=1) (by omega) (.slice (some ⟨y9,0,none⟩) 1 yM);have gS:=eU Mc (b:=w.heap.size+1) (by omega) 1 (.slice (some ⟨y9,0,none⟩) 1 yM);have szS:(tC.setCell ⟨w.heap.size+1,1,none⟩ (.slice (some ⟨y9,0,none⟩) 1 yM)).heap.size=tC.heap.size:=by simp[World.setCell]
     clear Hl qc Hw hown5 mG IX c0 c1 f0 he hkeep Nc Ma Mc L9;go_wp2_with fail
     go_loopg [] fV.length (fun k wr=>∃ (rX:List Tk) (acq:List Lx.Rl) (v:Value) (f:Nat),rX.length=k/\rX.length<=f/\acq.length+rX.length<=ts.length/\wz.heap.size<=wr.heap.size/\Rd sb cap L p wr rX 0/\aj wr (w.heap.size+1) #[.slice va vk vc,v] 65/\aj wr w.heap.size #[.slice none 0 0,.slice none 0 0] 65 /\
       mP wz.heap.size wr 179 2 cR KR v acq/\w.grownBy wr (some p)/\Hid (∀ b,w.heap.size+2<=b->b<wz.heap.size->wr.heap[b]?=wz.heap[b]?)/\Hid (gX ts=G9 acc (iE f rX acq)))
     case atStart=>exact⟨fV,[rl],_,fV.length,rfl,lr0,by simp;omega,by omega,IU,IV,IW,GS,gS,HK,ko⟩
     case round =>
      obtain⟨rX,acq,v,f2,hk2,hf2,amG,hsz2,hrq,Ng,Nh,hgrow2,AQ,hkeep,hpi2⟩:=hrel;clear IU IV IW GS gS HK ko AA aaz aaA iw lC Cv hg5 nG hax;have hne2:=hrq.wf.ne;obtain⟨f2',rfl⟩:∃ f',f2=f'+1:=⟨f2-1,by omega⟩;obtain⟨ps2,F2,Cu⟩:=hgrow2;have hown2:=Cu.2.1;obtain⟨ze,zf,zh,rfl⟩:=sG hown2;have q0:wr.cell? ⟨w.heap.size+1,0,none⟩=some (.slice va vk vc):=Ng.cell 0;have q1:wr.cell? ⟨w.heap.size+1,1,none⟩=some (.slice ze zf zh):=Ng.cell 1;have qf:∀ i,wr.frozen? ⟨w.heap.size+1,i,none⟩=false:=Ng.frozen
      by_cases hend:Lx.hd rX=aM
      ·have HP:Hid (gX ts=.ok (⟨acc,acq⟩,rX)):=by
        show _=_;rw[hpi2.out];simp only[iE];rw[if_pos hend];rfl
       have FE:Hid (Lx.hd rX=aM):=hend;clear hend hpi2;have e0:wr.cell? ⟨w.heap.size,0,none⟩=some (.slice none 0 0):=Nh.cell 0;have e1:wr.cell? ⟨w.heap.size,1,none⟩=some (.slice none 0 0):=Nh.cell 1;have ef:∀ i,wr.frozen? ⟨w.heap.size,i,none⟩=false:=Nh.frozen;have ajT:=mP.seq ⟨ps2,F2,Cu⟩
       go_wp2_with (first
        | (go_at_call 90;refine (vC hrq aM).mono ?_;rintro e w' ⟨rfl,hw⟩;obtain rfl:=hw.symm;rw[decide_eq_true FE.out]))
       refine bodyPost_ret (v:=.agg #[.slice va vk vc,.slice ze zf zh]) (by simp[results,results44,go_sem,e0,e1]) rfl ?_;refine Ends.yes HP.out (eU (eU AQ (lr0) _ _) (lr0) _ _) ((hrq.setOther _ _ (by omega) (by omega)).setOther _ _ (by omega) (by omega)) ⟨_,_,rfl,?_,?_⟩
       ·have hs':∀ b,In (w.heap.size+2) wz.heap.size b->((wr.setCell ⟨w.heap.size,0,none⟩ (.slice va vk vc)).setCell ⟨w.heap.size,1,none⟩ (.slice ze zf zh)).heap[b]?=wz.heap[b]?:=fun b hb=>by
         have h1:=hb.1;rw[hs0 (fun e=>by have e':b=w.heap.size:=e;omega),hs0 (fun e=>by have e':b=w.heap.size:=e;omega)];exact hkeep.out b hb.1 hb.2
        have hF':∀ b,In (w.heap.size+2) wz.heap.size b->In w.heap.size ((wr.setCell ⟨w.heap.size,0,none⟩ (.slice va vk vc)).setCell ⟨w.heap.size,1,none⟩ (.slice ze zf zh)).heap.size b:=fun b hb=>by
         have h1:=hb.1;have h2:=hb.2;exact⟨by omega,by simp[World.setCell];omega⟩
        exact hseq.move hs' hF' fun _ _ h=>yD _ _ _ _ _ _ hs' hF' h
       ·have hs':∀ b,In wz.heap.size wr.heap.size b->((wr.setCell ⟨w.heap.size,0,none⟩ (.slice va vk vc)).setCell ⟨w.heap.size,1,none⟩ (.slice ze zf zh)).heap[b]?=wr.heap[b]?:=fun b hb=>by
         have h1:=hb.1;rw[hs0 (fun e=>by have e':b=w.heap.size:=e;omega),hs0 (fun e=>by have e':b=w.heap.size:=e;omega)]
        have hF':∀ b,In wz.heap.size wr.heap.size b->In w.heap.size ((wr.setCell ⟨w.heap.size,0,none⟩ (.slice va vk vc)).setCell ⟨w.heap.size,1,none⟩ (.slice ze zf zh)).heap.size b:=fun b hb=>by
         have h1:=hb.1;have h2:=hb.2;exact⟨by omega,by simp[World.setCell];omega⟩
        exact ajT.move hs' hF' fun _ _ _ hA h=>rD _ _ _ _ _ _ (fun b hb=>hs' b (hA b hb)) (fun _ h=>h) h
      ·have FE:Hid (¬ Lx.hd rX=aM):=hend
       clear hend;have iw:=hrq.drew;have lC:=aY AQ (oq wr (some p));cases y8:dI rX with
       | error x =>
        obtain⟨n,a⟩:=x;have HE:Hid (gX ts=.error (n,a)):=by
         show _=_;rw[hpi2.out];simp only[iE];rw[if_neg FE.out,y8];rfl
        have Ni:Hid _:=y8;clear y8 hpi2
        go_wp2_with (first
         | (go_at_call 90;refine (vC hrq aM).mono ?_;rintro e w' ⟨rfl,hw⟩;obtain rfl:=hw.symm;rw[decide_eq_false FE.out]))
        refine wp_region_any (by kernel_rfl) ?_;refine wpAny_take (i:=0) (v:=.pointer (some ⟨w.heap.size+1,1,none⟩)) rfl (by kernel_rfl) (by kernel_rfl) (by kernel_rfl) (fun _ _ _ h=>h) (Or.inl ⟨by rfl,fun w=>by go_simp⟩) ?_;refine wpAny_take (i:=2) (v:=.pointer (some ⟨p,0,none⟩)) rfl (by kernel_rfl) (by kernel_rfl) (by kernel_rfl) (fun _ _ _ h=>h) (Or.inl ⟨by rfl,fun w=>by go_simp⟩) ?_;refine wpAny_ready (rs:=[1,3]) (by kernel_rfl) (by simp) ?_;refine AllReady.cons rfl (fun K hK=>?_) (AllReady.cons rfl (fun K hK=>?_) AllReady.nil)
        ·change if _ then Oper.wp _ _ _ wr.drew _ _ else _
         go_simp
         refine hK _ _ ?_;clear hK K;refine wpAny_ready (rs:=[3]) (by kernel_rfl) (by simp) ?_;refine AllReady.cons rfl (fun K hK=>?_) AllReady.nil;exact uj rfl 89 #[.pointer (some ⟨p,0,none⟩)] (by go_simp) (EF sb cap L p _ rX iw) fun e w2 he=>by obtain⟨rfl,hg2⟩:=he.err Ni.out;exact⟨_,rfl,rfl,Ends.no HE.out (aY lC hg2)⟩
        ·change if _ then Oper.wp _ _ _ wr.drew _ _ else _
         exact uj rfl 89 #[.pointer (some ⟨p,0,none⟩)] (by go_simp) (EF sb cap L p _ rX iw) fun e w2 he=>by obtain⟨rfl,hg2⟩:=he.err Ni.out;exact⟨_,rfl,rfl,Ends.no HE.out (aY lC hg2)⟩
       | ok x =>
        obtain⟨rq,Sz⟩:=x;have hl7:=GQ y8;have hl8:=hrq.wf.mJ;have HPQ:Hid (gX ts=G9 acc (iE f2' Sz (acq++[rq]))):=by
         show _=_;rw[hpi2.out];simp only[iE];rw[if_neg FE.out,y8]
        have Ni:Hid _:=y8;clear y8 hpi2
        go_wp2_with (first
         | (go_at_call 90;refine (vC hrq aM).mono ?_;rintro e w' ⟨rfl,hw⟩;obtain rfl:=hw.symm;rw[decide_eq_false FE.out]))
        go_region_law (first
         | (refine step_append_lies _ rfl (.tmp 30) (.tmp 33) 63 rfl wz.heap.size 179 i55 _ 2 40 underlying63 aay aad aae aaf rfl (by decide) (.slice ze zf zh) acq.length (ps2.flatMap cR) (by simp[Act.eval]) (vI.alloc _) ⟨w7.heap.size,0,none⟩ 1 1 (cR (.slice xa7 xk7 xc7,rq)) (by simp[Act.eval]) rfl (bP (aj.new w7 _ 179)) (by simp[cR,Value.oneCell']) (by decide) (by unfold maxLen;omega) (by omega) (by have:=AR.size;have:wr.drew.heap.size=wr.heap.size:=rfl;simp;omega) _ rfl ?_;intro g7b amH IY ZG Ac aag amI;have QZ:=(Nj.alloc _).grown Ac (fun e=>by have:=(hown2.lt _ e.symm).1;omega);have amO:IY.cell? ⟨w.heap.size+1,1,none⟩=some (.slice ze zf zh):=QZ.cell 1;have amP:∀ i,IY.frozen? ⟨w.heap.size+1,i,none⟩=false:=QZ.frozen)
         | (refine mZ rfl 89 #[.pointer (some ⟨p,0,none⟩)] (by go_simp) (EF sb cap L p _ rX iw) ?_;intro e w7 he;obtain⟨vv,rfl,AR,hr7,hv7⟩:=he.ok Ni.out;refine⟨_,rfl,?_⟩;obtain⟨vx,rfl,aaB⟩:=hv7;obtain⟨xa7,xk7,xc7,rfl⟩:=fD.form aaB;have vI:=((Cu.kept rD (oq wr none) (by simp)).kept rD AR (fun k hk=>by cases hk;omega)).2.1;have Nj:=Ng.drew.grown AR (by simp;omega);have c07:w7.cell? ⟨w.heap.size+1,1,none⟩=some (.slice ze zf zh):=Nj.cell 1;have aaC:=Nj.lt))
        all_goals
         have G7b:=vz.push rD (Cu.kept rD (oq wr none) (by simp)) (p:=p) (by omega) (by have:wr.drew.heap.size=wr.heap.size:=rfl;omega) AR (.slice xa7 xk7 xc7,rq) aaB (cK w7 _ none) ZG Ac aag;have akh:=((Nh.drew.grown AR (by simp;omega)).alloc _).grown Ac (fun e=>by have:=(hown2.lt _ e.symm).1;omega);have aki:=(hr7.alloc _).grown Ac (fun e=>by have:=(hown2.lt _ e.symm).1;omega) (fun e=>by have:=(hown2.lt _ e.symm).1;omega);have akj:=BI (aY lC AR) (cK w7 _ none) Ac (fun k hk=>by have:=(hown2.lt _ hk).1;omega);have amQ:w7.heap.size+1<=IY.heap.size:=by have:=Ac.size;simpa using this
         have hs7:wr.heap.size<=w7.heap.size:=AR.size;have ZH:∀ b,w.heap.size+2<=b->b<wz.heap.size->IY.heap[b]?=wz.heap[b]?:=fun b h1 h2=>by
          rw[Ac.block b (by simp;omega) (fun e=>by have:=(hown2.lt _ e.symm).1;omega),Below.heap_alloc _ _ _ (by omega),AR.block b (by have:wr.drew.heap.size=wr.heap.size:=rfl;omega) (by simp;omega)];exact hkeep.out b h1 h2
         have HK7:Hid _:=ZH;clear ZG Ac aag vI Nj c07 q0 q1 qf he ZH;go_wp2_with fail;go_roundg Sz.length
         case measure=>omega
         case rel =>
          refine⟨Sz,acq++[rq],_,f2',rfl,by omega,by simp;omega,?_,aki.setOther _ _ (by omega) (by omega),QZ.set 1 _,akh.other (by omega) _,?_,eU akj (by omega) _ _,?_,HPQ⟩
          ·simp only[World.setCell,Array.size_modify];omega
          ·exact mP.kept rD G7b (gK IY (w.heap.size+1) 1 _) (fun k hk=>by cases hk;omega)
          ·intro b h1 h2
           rw[hs0 (fun e=>by have e':b=w.heap.size+1:=e;omega)];exact HK7.out b h1 h2
end Go.Proofs.YtlcppnabbicmoaaGreatDoor

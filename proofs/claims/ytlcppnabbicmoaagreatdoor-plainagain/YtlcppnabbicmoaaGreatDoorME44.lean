import Derived.Test.YtlcppnabbicmoaaGreatDoorME12
set_option maxHeartbeats 8000000
set_option maxRecDepth 1000000
namespace Go.Proofs.YtlcppnabbicmoaaGreatDoor
open Go.RowKit
open Tr
def prV (r:Nat × Nat):Value:=.agg #[.int .i64 (r.1:Int),.int .i64 (r.2:Int)]
theorem flt_pr (n:Nat)(o:Option Nat):fltV n o=prV (Lx.orE n o (0,0)):=by cases o <;> rfl
namespace Lx
def ruN (g:Gr)(j:Nat):Option Nat:=rulesUnknown (ruleNames g) (levelToks g) (g.rules.drop j)
def ChkAt (g:Gr)(j:Nat)(r:Nat × Nat):Prop:=(r.1≠0/\chk g=r)∨(r=(0,0)/\dupG g=none/\unkG g=ruN g j)
theorem ChkAt.start (g:Gr):ChkAt g 0 (orE 4 (dupG g) (0,0)):=by
 unfold ChkAt;cases h:dupG g with
 | none=>exact .inr ⟨rfl,rfl,rfl⟩
 | some p=>exact .inl ⟨by simp[orE],by simp[chk,h,orE]⟩
theorem ChkAt.next {g:Gr}{j:Nat}(hj:j<g.rules.length){r:Nat × Nat}(hr:r.1=0)(h:ChkAt g j r):ChkAt g (j+1) (orE 5 (unk g (flatA 9 g.rules[j].alts)) (0,0)):=by
 rcases h with ⟨h,_⟩ | ⟨_,h1,h2⟩
 ·exact absurd hr h
 ·unfold ruN at h2
  rw[unkG_drop hj]at h2;unfold ChkAt;cases hq:unk g (flatA 9 g.rules[j].alts) with
  | none=>rw[hq]at h2;exact .inr ⟨rfl,h1,h2⟩
  | some p =>
   rw[hq]at h2;have h3:unkG g=some p:=h2;exact .inl ⟨by simp[orE],by simp[chk,h1,h3,orE]⟩
theorem ChkAt.bad {g:Gr}{j:Nat}{r:Nat × Nat}(h:ChkAt g j r)(hr:r.1≠0):chk g=r:=by
 rcases h with ⟨_,h⟩ | ⟨h,_⟩
 ·exact h
 ·rw[h]at hr;exact absurd rfl hr
theorem ChkAt.out {g:Gr}{r:Nat × Nat}(h:ChkAt g g.rules.length r)(hr:r.1=0):dupG g=none/\unkG g=none:=by
 rcases h with ⟨h,_⟩ | ⟨_,h1,h2⟩
 ·exact absurd hr h
 ·refine⟨h1,h2.trans ?_⟩
  unfold ruN;rw[List.drop_length];rfl
theorem ChkAt.zero {g:Gr}{j:Nat}{r:Nat × Nat}(h:ChkAt g j r)(hr:r.1=0):r=(0,0):=by
 rcases h with ⟨h,_⟩ | ⟨h,_⟩
 ·exact absurd hr h
 ·exact h
theorem chk_late {g:Gr}(h:dupG g=none/\unkG g=none):chk g=orE 6 (firstOff g.rules (comeL g)) (orE 7 (firstOff g.rules (endL g)) (0,0)):=by
 unfold chk;rw[h.1,h.2];rfl
end Lx
theorem docCheck_any {F:Nat->Prop} {w:World} {vL vR:Value} {g:Lx.Gr} (h:DG F w vL vR g) (hsm:(Lx.levelWords g).length<=2001) (hrn:g.rules.length<=2001) (hr0:0<g.rules.length) :
  Calls Tryz.prog 28 #[.agg #[vL,vR]] w fun e w'=>e=.returned (prV (Lx.chk g))/\Below w.heap.size w w':=by
 obtain⟨a,c,rfl,hmr⟩:=h.lenR;obtain⟨a',c',rfl,hml⟩:=h.lenL;unfold maxLen at hmr hml;go_enter Tryz.func28,Tryz.ntmps28;go_wp2_with fail;obtain⟨W,hW⟩:∃ W,W=(w.alloc (.cells #[.slice a' g.levels.length c',.slice a g.rules.length c] 49)).alloc (.cells #[.int .i64 0,.int .i64 0] 74):=⟨_,rfl⟩;rw[<-hW];have hWs:W.heap.size=w.heap.size+2:=by rw[hW];simp
 have kG:Blk W w.heap.size #[.slice a' g.levels.length c',.slice a g.rules.length c] 49:=by rw[hW];exact (Blk.new w _ 49).alloc _
 have kR:Blk W (w.heap.size+1) #[.int .i64 0,.int .i64 0] 74:=by rw[hW];simpa using Blk.new (w.alloc (.cells #[.slice a' g.levels.length c',.slice a g.rules.length c] 49)) #[.int .i64 0,.int .i64 0] 74
 have hB:Below w.heap.size w W:=by rw[hW];exact ((Below.refl _ _).alloc (Nat.le_refl _) _).alloc (by simp) _
 clear hW;refine (twice_any (h.below hB) hsm).mono ?_;rintro e w1 ⟨rfl,hb1⟩;have hs1:=hb1.size;have hC0:Lx.ChkAt g 0 (Lx.orE 4 (Lx.dupG g) (0,0)):=Lx.ChkAt.start g;rw[show (Lx.firstDup [] (Lx.levelWords g)).or (Lx.firstDup [] (Lx.ruleWords g))=Lx.dupG g from rfl,flt_pr];generalize Lx.orE 4 (Lx.dupG g) (0,0)=r at hC0;unfold prV;go_wp2_with fail;obtain⟨w2,hw2⟩:∃ w2,w2=w1.alloc (.cells #[.int .i64 (r.1:Int),.int .i64 (r.2:Int)] 74):=⟨_,rfl⟩;rw[<-hw2];have kF:Blk w2 w1.heap.size #[.int .i64 (r.1:Int),.int .i64 (r.2:Int)] 74:=by rw[hw2];exact Blk.new w1 _ 74
 have hb2:Below w1.heap.size w1 w2:=by rw[hw2];exact (Below.refl _ _).alloc (Nat.le_refl _) _
 clear hw2;generalize hfb:w1.heap.size=fb at *
 go_loopg [4] g.rules.length (fun k i wr=>∃ (j:Nat) (r:Nat × Nat),j+k=g.rules.length/\i=.int .i64 j/\Below fb w1 wr/\Blk wr fb #[.int .i64 (r.1:Int),.int .i64 (r.2:Int)] 74/\Lx.ChkAt g j r)
 case atStart=>exact⟨0,r,by omega,rfl,hb2,kF,hC0⟩
 case round =>
  clear kF hC0 hb2;revert wr;intro wz hrel;obtain⟨j,r,hk,rfl,hbz,kF,hC⟩:=hrel;have hsz:=hbz.size;rw[hfb]at hsz;have kGz:Blk wz w.heap.size _ 49:=(hbz.block _ (by omega)).trans ((hb1.block _ (by omega)).trans kG);have kRz:Blk wz (w.heap.size+1) _ 74:=(hbz.block _ (by omega)).trans ((hb1.block _ (by omega)).trans kR);have g0:wz.cell? ⟨w.heap.size,0,none⟩=some (.slice a' g.levels.length c'):=kGz.cell 0;have g1:wz.cell? ⟨w.heap.size,1,none⟩=some (.slice a g.rules.length c):=kGz.cell 1;have f0:wz.cell? ⟨fb,0,none⟩=some (.int .i64 (r.1:Int)):=kF.cell 0;have f1:wz.cell? ⟨fb,1,none⟩=some (.int .i64 (r.2:Int)):=kF.cell 1;have ff:∀ j,wz.frozen? ⟨fb,j,none⟩=false:=kF.frozen;have r0:wz.cell? ⟨w.heap.size+1,0,none⟩=some (.int .i64 0):=kRz.cell 0;have r1:wz.cell? ⟨w.heap.size+1,1,none⟩=some (.int .i64 0):=kRz.cell 1;have fr:∀ j,wz.frozen? ⟨w.heap.size+1,j,none⟩=false:=kRz.frozen;have hbw:Below w.heap.size w wz:=(hB.trans (hb1.mono (by omega))).trans (hbz.mono (by omega))
  by_cases hrz:r.1=0
  ·have hr00:=hC.zero hrz
   have HR:Hid (r=(0,0)):=hr00;rw[hr00]at f0 f1;simp only[]at f0 f1
   by_cases hlt:j<g.rules.length
   ·obtain⟨gb,cap,va,hv,hF,hA,d0,d1,d2⟩:=(h.below hbw).rule hlt
    cases hv;have hC2:=hC.next hlt hrz;clear hC hrz hr00;obtain⟨sa,sc,hva,-⟩:=AltsIn.len hA;subst hva;have q0:=nowhere_at 9 F wz.drew _ _ g ((h.below hbw).below (w':=wz.drew) ⟨rfl,rfl,rfl,Nat.le_refl _,fun _ _=>rfl⟩) _ _ (AltsIn.move (w':=wz.drew) (fun _ _=>rfl) (fun _ h=>h) hA);rw[flt_pr]at q0;generalize g.rules[j]=x at d0 d1 d2 hC2 q0 hA;generalize Lx.orE 5 (Lx.unk g (Lx.flatA 9 x.alts)) (0,0)=r2 at q0 hC2;have lgb:gb<wz.heap.size:=(h.below hbw).lt gb hF;have lG:w.heap.size<wz.heap.size:=by omega
    have lF:fb<wz.heap.size:=kF.lt;go_wp2_with fail
    go_region_law (refine step_call rfl 60 #[.agg #[.slice a' g.levels.length c',.slice (some ⟨gb,0,none⟩) g.rules.length c],.slice sa x.alts.length sc] (by go_simp) q0 ?_;rintro e w3 ⟨rfl,hb3⟩;refine⟨_,rfl,?_⟩;have kF3:Blk w3 fb _ 74:=(hb3.block _ (show fb<wz.drew.heap.size from lF)).trans (show Blk wz.drew fb _ 74 from kF);have f30:w3.cell? ⟨fb,0,none⟩=some (.int .i64 (r.1:Int)):=kF3.cell 0;have f31:w3.cell? ⟨fb,1,none⟩=some (.int .i64 (r.2:Int)):=kF3.cell 1;have ff3:∀ j,w3.frozen? ⟨fb,j,none⟩=false:=kF3.frozen;unfold prV)
    all_goals
     have hb4:Below fb wz w3:=(Below.refl fb wz).drew.trans (hb3.mono (show fb<=wz.drew.heap.size from Nat.le_of_lt lF));have hb5:=(hbz.trans hb4).put2 (Nat.le_refl fb) (.int .i64 (r2.1:Int)) (.int .i64 (r2.2:Int));have kF4:=(kF3.set 0 (.int .i64 (r2.1:Int))).set 1 (.int .i64 (r2.2:Int));simp at kF4;go_wp2_with fail;go_roundg (g.rules.length - (j+1))
     case measure=>omega
     case rel=>exact⟨j+1,r2,by omega,by go_num,hb5,kF4,hC2⟩
   ·have:j=g.rules.length:=by omega
    subst this;have hL:=hC.out hrz;clear hC hrz hr00;have hmk:=fun w=>make_bools hrn w
    have hb0:(boolsV (List.replicate g.rules.length false))[0]?=some (.bool false):=by rw[bools_get _ (by simpa using hr0)];simp[Lx.at?,hr0]
    have p1:((wz.alloc (.cells (boolsV (List.replicate g.rules.length false)) 4)).alloc (.cells (boolsV (List.replicate g.rules.length false)) 4)).cell? ⟨wz.heap.size,0,none⟩=some (.bool false):=(((Blk.new wz _ 4).alloc _).cell 0).trans hb0;have p2:((wz.alloc (.cells (boolsV (List.replicate g.rules.length false)) 4)).alloc (.cells (boolsV (List.replicate g.rules.length false)) 4)).frozen? ⟨wz.heap.size,0,none⟩=false:=((Blk.new wz _ 4).alloc _).frozen 0;go_wp2_with fail;obtain⟨s0,hs0⟩:∃ s0:List Bool,s0=(List.replicate g.rules.length false).set 0 true:=⟨_,rfl⟩;obtain⟨t0,ht0⟩:∃ t0:List Bool,t0=List.replicate g.rules.length false:=⟨_,rfl⟩;obtain⟨W5,hW5⟩:∃ W5,W5=(wz.alloc (.cells ((boolsV (List.replicate g.rules.length false)).setIfInBounds 0 (.bool true)) 4)).alloc (.cells (boolsV (List.replicate g.rules.length false)) 4):=⟨_,rfl⟩;rw[<-hW5];have kc:Blk W5 wz.heap.size (boolsV s0) 4:=by rw[hW5,hs0,<-bools_set];exact (Blk.new wz _ 4).alloc _
    have ke:Blk W5 (wz.heap.size+1) (boolsV t0) 4:=by rw[hW5,ht0];simpa using Blk.new (wz.alloc (.cells ((boolsV (List.replicate g.rules.length false)).setIfInBounds 0 (.bool true)) 4)) (boolsV (List.replicate g.rules.length false)) 4
    have hb5:Below wz.heap.size wz W5:=by rw[hW5];exact ((Below.refl _ _).alloc (Nat.le_refl _) _).alloc (by simp) _
    have HL0:Hid (s0.length=g.rules.length/\t0.length=g.rules.length):=⟨by rw[hs0];simp,by rw[ht0];simp⟩;have HS:Hid (s0=(List.replicate g.rules.length false).set 0 true):=hs0;have HT:Hid (t0=List.replicate g.rules.length false):=ht0;clear hmk hb0 p1 p2 hW5 hs0 ht0;have lF:fb<wz.heap.size:=kF.lt;clear kF f0 f1 ff hbz hk;generalize hcb:wz.heap.size=cb at *
    go_loopg [8] (g.rules.length+1) (fun k i wr=>∃ (n:Nat) (bc be:List Bool),n+k=g.rules.length+1/\i=.int .i64 n/\Below cb wz wr/\Blk wr cb (boolsV bc) 4/\Blk wr (cb+1) (boolsV be) 4/\Hid (bc.length=g.rules.length/\be.length=g.rules.length)/\Hid (bc=Lx.iter (Lx.roundB (Lx.comeStep g) g.rules.length 0) n s0/\be=Lx.iter (Lx.roundB (Lx.endStep g) g.rules.length 0) n t0))
    case atStart=>exact⟨0,s0,t0,by omega,rfl,hb5,kc,ke,HL0,⟨rfl,rfl⟩⟩
    case round =>
     clear kc ke HL0 hb5;revert wr;intro wy hrel;obtain⟨n,bc,be,hkn,rfl,hby,kc,ke,HL,HI⟩:=hrel
     by_cases hn:n<g.rules.length+1
     ·have hn1:n<=g.rules.length:=by omega
      go_wp2_with fail
      go_loopg [9] g.rules.length (fun k i wr=>∃ (m:Nat) (bc2 be2:List Bool),m+k=g.rules.length/\i=.int .i64 m/\Below cb wz wr/\Blk wr cb (boolsV bc2) 4/\Blk wr (cb+1) (boolsV be2) 4/\Hid (bc2.length=g.rules.length/\be2.length=g.rules.length)/\Hid (bc2=Lx.roundB (Lx.comeStep g) m 0 bc/\be2=Lx.roundB (Lx.endStep g) m 0 be))
      case atStart=>exact⟨0,bc,be,by omega,rfl,hby,kc,ke,HL,⟨rfl,rfl⟩⟩
      case round =>
       clear kc ke hby;obtain⟨i,bc2,be2,hki,rfl,hbr,kc2,ke2,HL2,HQ2⟩:=hrel
       by_cases hlt:i<g.rules.length
       ·obtain⟨gb,cap,va,hv,hF,hAz,dz0,dz1,dz2⟩:=(h.below hbw).rule hlt
        cases hv;obtain⟨sa,sc,hva,-⟩:=AltsIn.len hAz;subst hva;have lgz:gb<cb:=by have:=h.lt gb hF;omega
        have hU:Lx.unk g (Lx.flatA 9 g.rules[i].alts)=none:=Lx.unkG_all hL.2 _ (List.getElem_mem hlt);have hsr:cb+2<=wr.heap.size:=ke2.lt;have o1:wr.cell? ⟨cb,i,none⟩=some (.bool (Lx.at? bc2 i)):=(kc2.cell i).trans (bools_get bc2 (by have:=HL2.out.1;omega));have hbwr:Below w.heap.size w wr:=hbw.trans (hbr.mono (by omega));cases hq:Lx.at? bc2 i with
        | true =>
         have HC:Hid (Lx.comeStep g i bc2=Lx.markL (Lx.ruleNames g) (Lx.usedD 9 g.rules[i].alts) bc2):=Lx.comeStep_on hlt hq;rw[hq]at o1;have HQQ:Hid (Lx.at? bc2 i=true):=hq;clear hq;have kGr:Blk wr w.heap.size _ 49:=(hbr.block _ (by omega)).trans kGz;have gr0:wr.cell? ⟨w.heap.size,0,none⟩=some (.slice a' g.levels.length c'):=kGr.cell 0;have gr1:wr.cell? ⟨w.heap.size,1,none⟩=some (.slice (some ⟨gb,0,none⟩) g.rules.length c):=kGr.cell 1;have mr1:wr.cell? ⟨gb,i*3+1,none⟩=some (.slice sa g.rules[i].alts.length sc):=(World.cell?_of_block (w:=wz) (hbr.block gb lgz)).trans dz1;have hAr:AltsIn YR 9 F wr (.slice sa g.rules[i].alts.length sc) g.rules[i].alts:=AltsIn.move (fun b hb'=>hbr.block b (by have:=h.lt b hb';omega)) (fun _ h=>h) hAz;have q0:=mark_at 9 F wr.drew _ _ g ((h.below hbwr).below (w':=wr.drew) ⟨rfl,rfl,rfl,Nat.le_refl _,fun _ _=>rfl⟩) _ _ (AltsIn.move (w':=wr.drew) (fun _ _=>rfl) (fun _ h=>h) hAr) hU cb bc2 (fun hF=>by have:=h.lt _ hF;omega) kc2 HL2.out.1;have lgbr:gb<wr.heap.size:=by omega
         go_wp2_with fail
         go_region_law (refine step_call rfl 61 #[.agg #[.slice a' g.levels.length c',.slice (some ⟨gb,0,none⟩) g.rules.length c],.slice sa g.rules[i].alts.length sc,.slice (some ⟨cb,0,none⟩) g.rules.length g.rules.length] (by go_simp) q0 ?_;rintro e w3 ⟨rfl,hg3,kc3⟩;refine⟨_,rfl,?_⟩)
         all_goals
          have hg3':wr.grownBy w3 (some cb):=⟨hg3.os,hg3.tape,hg3.output,hg3.size,hg3.block⟩;have hb3:Below cb wz w3:=hbr.grown hg3' (by omega) (fun k hk=>by cases hk;exact Nat.le_refl _);have ke3:Blk w3 (cb+1) (boolsV be2) 4:=ke2.grown hg3' (by simp);rw[<-HC.out]at kc3;obtain⟨bc3,hbc3⟩:∃ bc3,bc3=Lx.comeStep g i bc2:=⟨_,rfl⟩;rw[<-hbc3]at kc3;have HC3:Hid (bc3=Lx.comeStep g i bc2):=hbc3;clear hbc3 gr0 gr1 mr1 o1 q0;have hsz3:cb+2<=w3.heap.size:=ke3.lt;have hbw3:Below w.heap.size w w3:=hbw.trans (hb3.mono (by omega));have kG3:Blk w3 w.heap.size _ 49:=(hb3.block _ (by omega)).trans kGz;have g30:w3.cell? ⟨w.heap.size,0,none⟩=some (.slice a' g.levels.length c'):=kG3.cell 0;have g31:w3.cell? ⟨w.heap.size,1,none⟩=some (.slice (some ⟨gb,0,none⟩) g.rules.length c):=kG3.cell 1;have m1:w3.cell? ⟨gb,i*3+1,none⟩=some (.slice sa g.rules[i].alts.length sc):=(World.cell?_of_block (w:=wz) (hb3.block gb lgz)).trans dz1;have hA3:AltsIn YR 9 F w3 (.slice sa g.rules[i].alts.length sc) g.rules[i].alts:=AltsIn.move (fun b hb'=>hb3.block b (by have:=h.lt b hb';omega)) (fun _ h=>h) hAz;have q1:=ends_at 9 F w3.drew _ _ g ((h.below hbw3).below (w':=w3.drew) ⟨rfl,rfl,rfl,Nat.le_refl _,fun _ _=>rfl⟩) _ _ (AltsIn.move (w':=w3.drew) (fun _ _=>rfl) (fun _ h=>h) hA3) hU (cb+1) be2 ke3 HL2.out.2;have HE:Hid (Lx.endStep g i be2=be2.set i (Lx.at? be2 i || Lx.endsA (Lx.onB g be2) 9 g.rules[i].alts)):=Lx.endStep_eq hlt (by have:=HL2.out.2;omega);generalize Lx.endsA (Lx.onB g be2) 9 g.rules[i].alts=ok at q1 HE;have lgb3:gb<w3.heap.size:=by omega
          have hN:i<be2.length:=by have:=HL2.out.2;omega
          have HN:Hid (i<be2.length):=hN;clear hN;go_wp2_with fail
          go_region_law (refine step_call rfl 62 #[.agg #[.slice a' g.levels.length c',.slice (some ⟨gb,0,none⟩) g.rules.length c],.slice sa g.rules[i].alts.length sc,.slice (some ⟨cb+1,0,none⟩) g.rules.length g.rules.length] (by go_simp) q1 ?_;rintro e w4 ⟨rfl,hb4⟩;refine⟨_,rfl,?_⟩)
          all_goals
           have hb4':Below w3.heap.size w3 w4:=(Below.refl _ w3).drew.trans hb4;have ke4:Blk w4 (cb+1) _ 4:=(hb4'.block _ (by omega)).trans ke3;have kc4:Blk w4 cb _ 4:=(hb4'.block _ (by omega)).trans kc3;have e4:w4.cell? ⟨cb+1,i,none⟩=some (.bool (Lx.at? be2 i)):=(ke4.cell i).trans (bools_get be2 HN.out);have ef4:w4.frozen? ⟨cb+1,i,none⟩=false:=ke4.frozen i;have hs4:=hb4'.size;have kc5:∀ v,Blk (w4.setCell ⟨cb+1,i,none⟩ v) cb (boolsV bc3) 4:=fun v=>kc4.other (by omega) v
           have ke5:Blk (w4.setCell ⟨cb+1,i,none⟩ (.bool (Lx.at? be2 i || ok))) (cb+1) (boolsV (be2.set i (Lx.at? be2 i || ok))) 4:=by rw[<-bools_set];exact ke4.set i _
           have hb5:∀ v,Below cb wz (w4.setCell ⟨cb+1,i,none⟩ v):=fun v=>(hb3.trans (hb4'.mono (by omega))).setCell (p:=⟨cb+1,i,none⟩) (Nat.le_succ cb) v
           have HQ:Hid (bc3=Lx.roundB (Lx.comeStep g) (i+1) 0 bc/\be2.set i (Lx.at? be2 i || ok)=Lx.roundB (Lx.endStep g) (i+1) 0 be):=⟨by rw[Lx.roundB_snoc,<-HQ2.out.1,Nat.zero_add];exact HC3.out,by rw[Lx.roundB_snoc,<-HQ2.out.2,Nat.zero_add];exact HE.out.symm⟩;have HL3:Hid (bc3.length=g.rules.length/\(be2.set i (Lx.at? be2 i || ok)).length=g.rules.length):=⟨by rw[HC3.out,Lx.comeStep_len];exact HL2.out.1,by rw[List.length_set];exact HL2.out.2⟩;cases hqe:Lx.at? be2 i
           all_goals
            rw[hqe]at e4 HQ ke5 HL3;simp only[Bool.true_or,Bool.false_or]at HQ ke5 HL3;go_wp2_with fail;go_roundg (g.rules.length - (i+1))
            case measure=>omega
            case rel=>exact⟨i+1,_,_,by omega,by go_num,hb5 _,kc5 _,ke5,HL3,HQ⟩
        | false =>
         have HC3:Hid (bc2=Lx.comeStep g i bc2):=(Lx.comeStep_off hq).symm;rw[hq]at o1;clear hq;go_wp2_with fail;obtain⟨w3,hw3⟩:∃ w3,w3=wr:=⟨_,rfl⟩;rw[<-hw3];have hb3:Below cb wz w3:=hw3 ▸ hbr;obtain⟨bc3,hbc3⟩:∃ bc3,bc3=bc2:=⟨_,rfl⟩;have kc3:Blk w3 cb (boolsV bc3) 4:=hw3 ▸ hbc3 ▸ kc2;have ke3:Blk w3 (cb+1) (boolsV be2) 4:=hw3 ▸ ke2;have HC3:Hid (bc3=Lx.comeStep g i bc2):=hbc3.trans HC3.out;clear hbc3 hw3 o1;have hsz3:cb+2<=w3.heap.size:=ke3.lt;have hbw3:Below w.heap.size w w3:=hbw.trans (hb3.mono (by omega));have kG3:Blk w3 w.heap.size _ 49:=(hb3.block _ (by omega)).trans kGz;have g30:w3.cell? ⟨w.heap.size,0,none⟩=some (.slice a' g.levels.length c'):=kG3.cell 0;have g31:w3.cell? ⟨w.heap.size,1,none⟩=some (.slice (some ⟨gb,0,none⟩) g.rules.length c):=kG3.cell 1;have m1:w3.cell? ⟨gb,i*3+1,none⟩=some (.slice sa g.rules[i].alts.length sc):=(World.cell?_of_block (w:=wz) (hb3.block gb lgz)).trans dz1;have hA3:AltsIn YR 9 F w3 (.slice sa g.rules[i].alts.length sc) g.rules[i].alts:=AltsIn.move (fun b hb'=>hb3.block b (by have:=h.lt b hb';omega)) (fun _ h=>h) hAz;have q1:=ends_at 9 F w3.drew _ _ g ((h.below hbw3).below (w':=w3.drew) ⟨rfl,rfl,rfl,Nat.le_refl _,fun _ _=>rfl⟩) _ _ (AltsIn.move (w':=w3.drew) (fun _ _=>rfl) (fun _ h=>h) hA3) hU (cb+1) be2 ke3 HL2.out.2;have HE:Hid (Lx.endStep g i be2=be2.set i (Lx.at? be2 i || Lx.endsA (Lx.onB g be2) 9 g.rules[i].alts)):=Lx.endStep_eq hlt (by have:=HL2.out.2;omega);generalize Lx.endsA (Lx.onB g be2) 9 g.rules[i].alts=ok at q1 HE;have lgb3:gb<w3.heap.size:=by omega
         have hN:i<be2.length:=by have:=HL2.out.2;omega
         have HN:Hid (i<be2.length):=hN;clear hN;go_wp2_with fail
         go_region_law (refine step_call rfl 62 #[.agg #[.slice a' g.levels.length c',.slice (some ⟨gb,0,none⟩) g.rules.length c],.slice sa g.rules[i].alts.length sc,.slice (some ⟨cb+1,0,none⟩) g.rules.length g.rules.length] (by go_simp) q1 ?_;rintro e w4 ⟨rfl,hb4⟩;refine⟨_,rfl,?_⟩)
         all_goals
          have hb4':Below w3.heap.size w3 w4:=(Below.refl _ w3).drew.trans hb4;have ke4:Blk w4 (cb+1) _ 4:=(hb4'.block _ (by omega)).trans ke3;have kc4:Blk w4 cb _ 4:=(hb4'.block _ (by omega)).trans kc3;have e4:w4.cell? ⟨cb+1,i,none⟩=some (.bool (Lx.at? be2 i)):=(ke4.cell i).trans (bools_get be2 HN.out);have ef4:w4.frozen? ⟨cb+1,i,none⟩=false:=ke4.frozen i;have hs4:=hb4'.size;have kc5:∀ v,Blk (w4.setCell ⟨cb+1,i,none⟩ v) cb (boolsV bc3) 4:=fun v=>kc4.other (by omega) v
          have ke5:Blk (w4.setCell ⟨cb+1,i,none⟩ (.bool (Lx.at? be2 i || ok))) (cb+1) (boolsV (be2.set i (Lx.at? be2 i || ok))) 4:=by rw[<-bools_set];exact ke4.set i _
          have hb5:∀ v,Below cb wz (w4.setCell ⟨cb+1,i,none⟩ v):=fun v=>(hb3.trans (hb4'.mono (by omega))).setCell (p:=⟨cb+1,i,none⟩) (Nat.le_succ cb) v
          have HQ:Hid (bc3=Lx.roundB (Lx.comeStep g) (i+1) 0 bc/\be2.set i (Lx.at? be2 i || ok)=Lx.roundB (Lx.endStep g) (i+1) 0 be):=⟨by rw[Lx.roundB_snoc,<-HQ2.out.1,Nat.zero_add];exact HC3.out,by rw[Lx.roundB_snoc,<-HQ2.out.2,Nat.zero_add];exact HE.out.symm⟩;have HL3:Hid (bc3.length=g.rules.length/\(be2.set i (Lx.at? be2 i || ok)).length=g.rules.length):=⟨by rw[HC3.out,Lx.comeStep_len];exact HL2.out.1,by rw[List.length_set];exact HL2.out.2⟩;cases hqe:Lx.at? be2 i
          all_goals
           rw[hqe]at e4 HQ ke5 HL3;simp only[Bool.true_or,Bool.false_or]at HQ ke5 HL3;go_wp2_with fail;go_roundg (g.rules.length - (i+1))
           case measure=>omega
           case rel=>exact⟨i+1,_,_,by omega,by go_num,hb5 _,kc5 _,ke5,HL3,HQ⟩
       ·have:i=g.rules.length:=by omega
        subst this;have HI2:Hid (bc2=Lx.iter (Lx.roundB (Lx.comeStep g) g.rules.length 0) (n+1) s0/\be2=Lx.iter (Lx.roundB (Lx.endStep g) g.rules.length 0) (n+1) t0):=⟨by rw[Lx.iter_snoc,<-HI.out.1];exact HQ2.out.1,by rw[Lx.iter_snoc,<-HI.out.2];exact HQ2.out.2⟩;go_wp2_with fail;go_roundg (g.rules.length+1 - (n+1))
        case measure=>omega
        case rel=>exact⟨n+1,bc2,be2,by omega,by go_num,hbr,kc2,ke2,HL2,HI2⟩
     ·have hn2:n=g.rules.length+1:=by omega
      subst hn2;have HK:Hid (Lx.chk g=Lx.orE 6 (Lx.firstOff g.rules bc) (Lx.orE 7 (Lx.firstOff g.rules be) (0,0))):=by
       show _=_;rw[Lx.chk_late hL,HI.out.1,HI.out.2,HS.out,HT.out];rfl
      clear HI HS HT;have hsy:cb+2<=wy.heap.size:=ke.lt;have hbwy:Below w.heap.size w wy:=hbw.trans (hby.mono (by omega));have kGy:Blk wy w.heap.size _ 49:=(hby.block _ (by omega)).trans kGz;have gy1:wy.cell? ⟨w.heap.size,1,none⟩=some (.slice a g.rules.length c):=kGy.cell 1;have kRy:Blk wy (w.heap.size+1) _ 74:=(hby.block _ (by omega)).trans kRz;have ry0:wy.cell? ⟨w.heap.size+1,0,none⟩=some (.int .i64 0):=kRy.cell 0;have ry1:wy.cell? ⟨w.heap.size+1,1,none⟩=some (.int .i64 0):=kRy.cell 1;have fry:∀ j,wy.frozen? ⟨w.heap.size+1,j,none⟩=false:=kRy.frozen;clear r0 r1 fr g0 g1;go_wp2_with fail
      go_loopg [11] g.rules.length (fun k i wr=>∃ m:Nat,m+k=g.rules.length/\i=.int .i64 m/\wr=wy/\Hid (Lx.firstOff g.rules bc=Lx.firstOff (g.rules.drop m) (bc.drop m)))
      case atStart=>exact⟨0,by omega,rfl,rfl,rfl⟩
      case round =>
       obtain⟨m,hkm,rfl,rfl,HM⟩:=hrel
       by_cases hlt:m<g.rules.length
       ·have hlb:m<bc.length:=by have:=HL.out.1;omega
        have hfo:=Lx.firstOff_drop (rs:=g.rules) (bs:=bc) hlt hlb;have o1:wr.cell? ⟨cb,m,none⟩=some (.bool (Lx.at? bc m)):=(kc.cell m).trans (bools_get bc hlb);clear hlb;cases hq:Lx.at? bc m with
        | true =>
         have HM2:Hid (Lx.firstOff g.rules bc=Lx.firstOff (g.rules.drop (m+1)) (bc.drop (m+1))):=HM.out.trans (hfo.1 hq);rw[hq]at o1;clear hfo hq;go_wp2_with fail;go_roundg (g.rules.length - (m+1))
         case measure=>omega
         case rel=>exact⟨m+1,by omega,by go_num,rfl,HM2⟩
        | false =>
         have HM2:Hid (Lx.firstOff g.rules bc=some g.rules[m].place):=HM.out.trans (hfo.2 hq);rw[hq]at o1;clear hfo hq;obtain⟨gb,cap,va,hv,hF,hA,d0,d1,d2⟩:=(h.below hbwy).rule hlt;cases hv;go_wp2_with fail;refine bodyPost_ret (v:=.agg #[.int .i64 6,.int .i64 (g.rules[m].place:Int)]) (by simp[results,Tryz.results28,go_sem,ry0,ry1]) rfl ⟨?_,?_⟩
         ·rw[HK.out,HM2.out];rfl
         ·exact hbwy.put2 (Nat.le_succ _) _ _
       ·have:m=g.rules.length:=by omega
        subst this;have HM2:Hid (Lx.firstOff g.rules bc=none):=by
         have:=HM.out;rw[List.drop_length]at this;exact this
        clear HM hkm;go_wp2_with fail
        go_loopg [12] g.rules.length (fun k i wq=>∃ m:Nat,m+k=g.rules.length/\i=.int .i64 m/\wq=wr/\Hid (Lx.firstOff g.rules be=Lx.firstOff (g.rules.drop m) (be.drop m)))
        case atStart=>exact⟨0,by omega,rfl,rfl,rfl⟩
        case round =>
         obtain⟨m,hkm,rfl,rfl,HM⟩:=hrel
         by_cases hlt:m<g.rules.length
         ·have hlb:m<be.length:=by have:=HL.out.2;omega
          have hfo:=Lx.firstOff_drop (rs:=g.rules) (bs:=be) hlt hlb;have o1:wr.cell? ⟨cb+1,m,none⟩=some (.bool (Lx.at? be m)):=(ke.cell m).trans (bools_get be hlb);clear hlb;cases hq:Lx.at? be m with
          | true =>
           have HM3:Hid (Lx.firstOff g.rules be=Lx.firstOff (g.rules.drop (m+1)) (be.drop (m+1))):=HM.out.trans (hfo.1 hq);rw[hq]at o1;clear hfo hq;go_wp2_with fail;go_roundg (g.rules.length - (m+1))
           case measure=>omega
           case rel=>exact⟨m+1,by omega,by go_num,rfl,HM3⟩
          | false =>
           have HM3:Hid (Lx.firstOff g.rules be=some g.rules[m].place):=HM.out.trans (hfo.2 hq);rw[hq]at o1;clear hfo hq;obtain⟨gb,cap,va,hv,hF,hA,d0,d1,d2⟩:=(h.below hbwy).rule hlt;cases hv;go_wp2_with fail;refine bodyPost_ret (v:=.agg #[.int .i64 7,.int .i64 (g.rules[m].place:Int)]) (by simp[results,Tryz.results28,go_sem,ry0,ry1]) rfl ⟨?_,?_⟩
           ·rw[HK.out,HM2.out,HM3.out];rfl
           ·exact hbwy.put2 (Nat.le_succ _) _ _
         ·have:m=g.rules.length:=by omega
          subst this;have HM3:Hid (Lx.firstOff g.rules be=none):=by
           have:=HM.out;rw[List.drop_length]at this;exact this
          clear HM hkm;go_wp2_with fail;refine bodyPost_ret (v:=.agg #[.int .i64 0,.int .i64 0]) (by simp[results,Tryz.results28,go_sem,ry0,ry1]) rfl ⟨?_,?_⟩
          ·rw[HK.out,HM2.out,HM3.out];rfl
          ·exact hbwy.put2 (Nat.le_succ _) _ _
  ·have hbad:=hC.bad hrz
   have HB:Hid (Lx.chk g=r):=hbad;have hrb:((r.1:Int) == 0)=false:=beq_eq_false_iff_ne.2 (by omega);clear hbad hC;have HZ:Hid (¬ r.1=0):=hrz;clear hrz
   by_cases hlt:j<g.rules.length
   all_goals
    go_wp2_with fail;refine bodyPost_ret (v:=.agg #[.int .i64 (r.1:Int),.int .i64 (r.2:Int)]) (by simp[results,Tryz.results28,go_sem,r0,r1]) rfl ⟨?_,?_⟩
    ·rw[HB.out];rfl
    ·exact hbw.put2 (Nat.le_succ _) _ _
end Go.Proofs.YtlcppnabbicmoaaGreatDoor

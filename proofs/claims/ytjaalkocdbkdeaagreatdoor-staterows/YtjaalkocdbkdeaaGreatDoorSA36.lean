import Derived.Test.YtjaalkocdbkdeaaGreatDoorSA10
set_option maxHeartbeats 8000000
set_option maxRecDepth 1000000
namespace Go.Proofs.YtjaalkocdbkdeaaGreatDoor
open Lx Go.Proofs.Tryz
open Go.RowKit
open Tr
def Js(r:Nat×Nat):Value:=.agg #[.int .i64 (r.1:Int),.int .i64 (r.2:Int)]
theorem Za(n:Nat)(o:Option Nat):Ld n o=Js (iT n o (0,0)):=by cases o <;> rfl
namespace Lx
def S9(g:Gr)(j:Nat):Option Nat:=yg (aK g) (gZ g) (g.rules.drop j)
def pU(g:Gr)(j:Nat)(r:Nat×Nat):Prop:=(r.1≠0/\dK g=r)\/(r=(0,0)/\oU g=none/\pW g=S9 g j)
theorem pU.start(g:Gr):pU g 0 (iT 4 (oU g) (0,0)):=by
 unfold pU;cases h:oU g with
 |none=>exact .inr ⟨rfl,rfl,rfl⟩
 |some p=>exact .inl ⟨by simp[iT],by simp[dK,h,iT]⟩
theorem pU.next{g:Gr}{j:Nat}(hj:j<g.rules.length){r:Nat×Nat}(hr:r.1=0)(h:pU g j r):pU g (j+1) (iT 5 (unk g (dw 9 g.rules[j].alts)) (0,0)):=by
 rcases h with ⟨h,_⟩|⟨_,h1,h2⟩
 ·exact absurd hr h
 ·unfold S9 at h2
  rw[af7 hj]at h2;unfold pU;cases hq:unk g (dw 9 g.rules[j].alts) with
  |none=>rw[hq]at h2;exact .inr ⟨rfl,h1,h2⟩
  |some p=>
   rw[hq]at h2;have h3:pW g=some p:=h2;exact .inl ⟨by simp[iT],by simp[dK,h1,h3,iT]⟩
theorem pU.bad{g:Gr}{j:Nat}{r:Nat×Nat}(h:pU g j r)(hr:r.1≠0):dK g=r:=by
 rcases h with ⟨_,h⟩|⟨h,_⟩
 ·exact h
 ·rw[h]at hr;exact absurd rfl hr
theorem pU.out{g:Gr}{r:Nat×Nat}(h:pU g g.rules.length r)(hr:r.1=0):oU g=none/\pW g=none:=by
 rcases h with ⟨h,_⟩|⟨_,h1,h2⟩
 ·exact absurd hr h
 ·refine⟨h1,h2.trans ?_⟩
  unfold S9;rw[List.drop_length];rfl
theorem pU.zero{g:Gr}{j:Nat}{r:Nat×Nat}(h:pU g j r)(hr:r.1=0):r=(0,0):=by
 rcases h with ⟨h,_⟩|⟨h,_⟩
 ·exact absurd hr h
 ·exact h
theorem ah4{g:Gr}(h:oU g=none/\pW g=none):dK g=iT 6 (gB g.rules (BV g)) (iT 7 (gB g.rules (Ak g)) (0,0)):=by
 unfold dK;rw[h.1,h.2];rfl
end Lx
theorem aeo{F:Nat->Prop}{w:World}{vL vR:Value}{g:Lx.Gr}(h:DG F w vL vR g)(hsm:(gY g).length<=2001)(hrn:g.rules.length<=2001)(hr0:0<g.rules.length):
  Calls prog 25 #[.agg #[vL,vR]] w fun e w'=>e=.returned (Js (dK g))/\Below w.heap.size w w':=by
 obtain⟨a,c,rfl,hmr⟩:=h.sF;obtain⟨a',c',rfl,hml⟩:=h.uh;unfold maxLen at hmr hml;go_enter func25,ntmps25;go_wp2_with fail;obtain⟨W,hW⟩:∃W,W=(w.alloc (.cells #[.slice a' g.levels.length c',.slice a g.rules.length c] 86)).alloc (.cells #[.int .i64 0,.int .i64 0] 90):=⟨_,rfl⟩;rw[<-hW];have hWs:W.heap.size=w.heap.size+2:=by rw[hW];simp
 have kG:aj W w.heap.size #[.slice a' g.levels.length c',.slice a g.rules.length c] 86:=by rw[hW];exact(aj.new w _ 86).alloc _
 have kR:aj W (w.heap.size+1) #[.int .i64 0,.int .i64 0] 90:=by rw[hW];simpa using aj.new (w.alloc (.cells #[.slice a' g.levels.length c',.slice a g.rules.length c] 86)) #[.int .i64 0,.int .i64 0] 90
 have hB:Below w.heap.size w W:=by rw[hW];exact((Below.refl _ _).alloc (zL0) _).alloc (by simp) _
 clear hW;refine(af6 (h.below hB) hsm).mono ?_;rintro e w1⟨rfl,hb1⟩;have hs1:=hb1.size;have hC0:pU g 0 (iT 4 (oU g) (0,0)):=pU.start g;rw[show (bQ [] (gY g)).or (bQ [] (lu g))=oU g from rfl,Za];generalize iT 4 (oU g) (0,0)=r at hC0;unfold Js;go_wp2_with fail;obtain⟨w2,hw2⟩:∃w2,w2=w1.alloc (.cells #[.int .i64 (r.1:Int),.int .i64 (r.2:Int)] 90):=⟨_,rfl⟩;rw[<-hw2];have kF:aj w2 w1.heap.size #[.int .i64 (r.1:Int),.int .i64 (r.2:Int)] 90:=by rw[hw2];exact aj.new w1 _ 90
 have hb2:Below w1.heap.size w1 w2:=by rw[hw2];exact(Below.refl _ _).alloc (zL0) _
 clear hw2;generalize hfb:w1.heap.size=fb at *
 go_loopg [4] g.rules.length (fun k i wr=>∃(j:Nat)(r:Nat×Nat),j+k=g.rules.length/\i=.int .i64 j/\Below fb w1 wr/\aj wr fb #[.int .i64 (r.1:Int),.int .i64 (r.2:Int)] 90/\pU g j r)
 case atStart=>exact⟨0,r,by omega,rfl,hb2,kF,hC0⟩
 case round=>
  clear kF hC0 hb2;revert wr;intro wz hrel;obtain⟨j,r,hk,rfl,hbz,kF,hC⟩:=hrel;have hsz:=hbz.size;rw[hfb]at hsz;have jP:aj wz w.heap.size _ 86:=(hbz.block _ (by omega)).trans ((hb1.block _ (by omega)).trans kG);have vE:aj wz (w.heap.size+1) _ 90:=(hbz.block _ (by omega)).trans ((hb1.block _ (by omega)).trans kR);have g0:wz.cell? ⟨w.heap.size,0,none⟩=some (.slice a' g.levels.length c'):=jP.cell 0;have g1:wz.cell? ⟨w.heap.size,1,none⟩=some (.slice a g.rules.length c):=jP.cell 1;have f0:wz.cell? ⟨fb,0,none⟩=some (.int .i64 (r.1:Int)):=kF.cell 0;have f1:wz.cell? ⟨fb,1,none⟩=some (.int .i64 (r.2:Int)):=kF.cell 1;have ff:∀j,wz.frozen? ⟨fb,j,none⟩=false:=kF.frozen;have r0:wz.cell? ⟨w.heap.size+1,0,none⟩=some (.int .i64 0):=vE.cell 0;have r1:wz.cell? ⟨w.heap.size+1,1,none⟩=some (.int .i64 0):=vE.cell 1;have fr:∀j,wz.frozen? ⟨w.heap.size+1,j,none⟩=false:=vE.frozen;have hbw:Below w.heap.size w wz:=(hB.trans (hb1.mono (by omega))).trans (hbz.mono (by omega))
  by_cases hrz:r.1=0
  ·have L6:=hC.zero hrz
   have HR:Hid (r=(0,0)):=L6;rw[L6]at f0 f1;simp only[]at f0 f1
   by_cases hlt:j<g.rules.length
   ·obtain⟨gb,cap,va,hv,hF,hA,d0,d1,d2⟩:=(h.below hbw).rule hlt
    cases hv;have hC2:=hC.next hlt hrz;clear hC hrz L6;obtain⟨sa,sc,hva,-⟩:=ay.len hA;subst hva;have q0:=Vh 9 F wz.drew _ _ g ((h.below hbw).below (w':=wz.drew) ⟨rfl,rfl,rfl,zL0,fun _ _=>rfl⟩) _ _ (ay.move (w':=wz.drew) (fun _ _=>rfl) (fun _ h=>h) hA);rw[Za]at q0;generalize g.rules[j]=x at d0 d1 d2 hC2 q0 hA;generalize iT 5 (Lx.unk g (dw 9 x.alts)) (0,0)=r2 at q0 hC2;have ny:gb<wz.heap.size:=(h.below hbw).lt gb hF;have lG:w.heap.size<wz.heap.size:=by omega
    have lF:fb<wz.heap.size:=kF.lt;go_wp2_with fail
    go_region_law (refine jK rfl 52 #[.agg #[.slice a' g.levels.length c',.slice (some ⟨gb,0,none⟩) g.rules.length c],.slice sa x.alts.length sc] (by go_simp) q0 ?_;rintro e w3⟨rfl,hb3⟩;refine⟨_,rfl,?_⟩;have qW:aj w3 fb _ 90:=(hb3.block _ (show fb<wz.drew.heap.size from lF)).trans (show aj wz.drew fb _ 90 from kF);have f30:w3.cell? ⟨fb,0,none⟩=some (.int .i64 (r.1:Int)):=qW.cell 0;have f31:w3.cell? ⟨fb,1,none⟩=some (.int .i64 (r.2:Int)):=qW.cell 1;have Rq:∀j,w3.frozen? ⟨fb,j,none⟩=false:=qW.frozen;unfold Js)
    all_goals
     have hb4:Below fb wz w3:=(Below.refl fb wz).drew.trans (hb3.mono (show fb<=wz.drew.heap.size from Nat.le_of_lt lF));have hb5:=(hbz.trans hb4).uo (Nat.le_refl fb) (.int .i64 (r2.1:Int)) (.int .i64 (r2.2:Int));have kF4:=(qW.set 0 (.int .i64 (r2.1:Int))).set 1 (.int .i64 (r2.2:Int));simp at kF4;go_wp2_with fail;go_roundg (g.rules.length - (j+1))
     case measure=>omega
     case rel=>exact⟨j+1,r2,by omega,by go_num,hb5,kF4,hC2⟩
   ·have:j=g.rules.length:=by omega
    subst this;have hL:=hC.out hrz;clear hC hrz L6;have hmk:=fun w=>NW hrn w
    have hb0:(bF (List.replicate g.rules.length false))[0]?=some (.bool false):=by rw[qx _ (by simpa using hr0)];simp[aS,hr0]
    have p1:((wz.alloc (.cells (bF (List.replicate g.rules.length false)) 4)).alloc (.cells (bF (List.replicate g.rules.length false)) 4)).cell? ⟨wz.heap.size,0,none⟩=some (.bool false):=(((aj.new wz _ 4).alloc _).cell 0).trans hb0;have p2:((wz.alloc (.cells (bF (List.replicate g.rules.length false)) 4)).alloc (.cells (bF (List.replicate g.rules.length false)) 4)).frozen? ⟨wz.heap.size,0,none⟩=false:=((aj.new wz _ 4).alloc _).frozen 0;go_wp2_with fail;obtain⟨s0,hs0⟩:∃s0:List Bool,s0=(List.replicate g.rules.length false).set 0 true:=⟨_,rfl⟩;obtain⟨t0,ht0⟩:∃t0:List Bool,t0=List.replicate g.rules.length false:=⟨_,rfl⟩;obtain⟨W5,mg⟩:∃W5,W5=(wz.alloc (.cells ((bF (List.replicate g.rules.length false)).setIfInBounds 0 (.bool true)) 4)).alloc (.cells (bF (List.replicate g.rules.length false)) 4):=⟨_,rfl⟩;rw[<-mg];have kc:aj W5 wz.heap.size (bF s0) 4:=by rw[mg,hs0,<-zL];exact(aj.new wz _ 4).alloc _
    have ke:aj W5 (wz.heap.size+1) (bF t0) 4:=by rw[mg,ht0];simpa using aj.new (wz.alloc (.cells ((bF (List.replicate g.rules.length false)).setIfInBounds 0 (.bool true)) 4)) (bF (List.replicate g.rules.length false)) 4
    have hb5:Below wz.heap.size wz W5:=by rw[mg];exact((Below.refl _ _).alloc (zL0) _).alloc (by simp) _
    have Jm:Hid (s0.length=g.rules.length/\t0.length=g.rules.length):=⟨by rw[hs0];simp,by rw[ht0];simp⟩;have HS:Hid (s0=(List.replicate g.rules.length false).set 0 true):=hs0;have HT:Hid (t0=List.replicate g.rules.length false):=ht0;clear hmk hb0 p1 p2 mg hs0 ht0;have lF:fb<wz.heap.size:=kF.lt;clear kF f0 f1 ff hbz hk;generalize hcb:wz.heap.size=cb at *
    go_loopg [8] (g.rules.length+1) (fun k i wr=>∃(n:Nat)(bc be:List Bool),n+k=g.rules.length+1/\i=.int .i64 n/\Below cb wz wr/\aj wr cb (bF bc) 4/\aj wr (cb+1) (bF be) 4/\Hid (bc.length=g.rules.length/\be.length=g.rules.length)/\Hid (bc=Lx.iter (jf (jL g) g.rules.length 0) n s0/\be=Lx.iter (jf (l5 g) g.rules.length 0) n t0))
    case atStart=>exact⟨0,s0,t0,by omega,rfl,hb5,kc,ke,Jm,⟨rfl,rfl⟩⟩
    case round=>
     clear kc ke Jm hb5;revert wr;intro wy hrel;obtain⟨n,bc,be,hkn,rfl,hby,kc,ke,HL,HI⟩:=hrel
     by_cases hn:n<g.rules.length+1
     ·have hn1:n<=g.rules.length:=by omega
      go_wp2_with fail
      go_loopg [9] g.rules.length (fun k i wr=>∃(m:Nat)(bc2 dL:List Bool),m+k=g.rules.length/\i=.int .i64 m/\Below cb wz wr/\aj wr cb (bF bc2) 4/\aj wr (cb+1) (bF dL) 4/\Hid (bc2.length=g.rules.length/\dL.length=g.rules.length)/\Hid (bc2=jf (jL g) m 0 bc/\dL=jf (l5 g) m 0 be))
      case atStart=>exact⟨0,bc,be,by omega,rfl,hby,kc,ke,HL,⟨rfl,rfl⟩⟩
      case round=>
       clear kc ke hby;obtain⟨i,bc2,dL,hki,rfl,hbr,Nq,xD,HL2,rG⟩:=hrel
       by_cases hlt:i<g.rules.length
       ·obtain⟨gb,cap,va,hv,hF,Fa,dz0,Ta,dz2⟩:=(h.below hbw).rule hlt
        cases hv;obtain⟨sa,sc,hva,-⟩:=ay.len Fa;subst hva;have Tc:gb<cb:=by have:=h.lt gb hF;omega
        have hU:Lx.unk g (dw 9 g.rules[i].alts)=none:=Ga hL.2 _ (List.getElem_mem hlt);have hsr:cb+2<=wr.heap.size:=xD.lt;have o1:wr.cell? ⟨cb,i,none⟩=some (.bool (aS bc2 i)):=(Nq.cell i).trans (qx bc2 (by have:=HL2.out.1;omega));have j5:Below w.heap.size w wr:=hbw.trans (hbr.mono (by omega));cases hq:aS bc2 i with
        |true=>
         have HC:Hid (jL g i bc2=iQ (aK g) (qB 9 g.rules[i].alts) bc2):=aey hlt hq;rw[hq]at o1;have HQQ:Hid (aS bc2 i=true):=hq;clear hq;have jb:aj wr w.heap.size _ 86:=(hbr.block _ (by omega)).trans jP;have Nk:wr.cell? ⟨w.heap.size,0,none⟩=some (.slice a' g.levels.length c'):=jb.cell 0;have SG:wr.cell? ⟨w.heap.size,1,none⟩=some (.slice (some ⟨gb,0,none⟩) g.rules.length c):=jb.cell 1;have mr1:wr.cell? ⟨gb,i*3+1,none⟩=some (.slice sa g.rules[i].alts.length sc):=(World.cell?_of_block (w:=wz) (hbr.block gb Tc)).trans Ta;have hAr:ay YR 9 F wr (.slice sa g.rules[i].alts.length sc) g.rules[i].alts:=ay.move (fun b hb'=>hbr.block b (by have:=h.lt b hb';omega)) (fun _ h=>h) Fa;have q0:=XW 9 F wr.drew _ _ g ((h.below j5).below (w':=wr.drew) ⟨rfl,rfl,rfl,zL0,fun _ _=>rfl⟩) _ _ (ay.move (w':=wr.drew) (fun _ _=>rfl) (fun _ h=>h) hAr) hU cb bc2 (fun hF=>by have:=h.lt _ hF;omega) Nq HL2.out.1;have amI:gb<wr.heap.size:=by omega
         go_wp2_with fail
         go_region_law (refine jK rfl 53 #[.agg #[.slice a' g.levels.length c',.slice (some ⟨gb,0,none⟩) g.rules.length c],.slice sa g.rules[i].alts.length sc,.slice (some ⟨cb,0,none⟩) g.rules.length g.rules.length] (by go_simp) q0 ?_;rintro e w3⟨rfl,hg3,Jt⟩;refine⟨_,rfl,?_⟩)
         all_goals
          have hg3':wr.grownBy w3 (some cb):=⟨hg3.os,hg3.tape,hg3.output,hg3.size,hg3.block⟩;have hb3:Below cb wz w3:=hbr.grown hg3' (by omega) (fun k hk=>by cases hk;exact zL0);have yU:aj w3 (cb+1) (bF dL) 4:=xD.grown hg3' (by simp);rw[<-HC.out]at Jt;obtain⟨bc3,CG⟩:∃bc3,bc3=jL g i bc2:=⟨_,rfl⟩;rw[<-CG]at Jt;have rT:Hid (bc3=jL g i bc2):=CG;clear CG Nk SG mr1 o1 q0;have Lh:cb+2<=w3.heap.size:=yU.lt;have qJ:Below w.heap.size w w3:=hbw.trans (hb3.mono (by omega));have dB:aj w3 w.heap.size _ 86:=(hb3.block _ (by omega)).trans jP;have g30:w3.cell? ⟨w.heap.size,0,none⟩=some (.slice a' g.levels.length c'):=dB.cell 0;have g31:w3.cell? ⟨w.heap.size,1,none⟩=some (.slice (some ⟨gb,0,none⟩) g.rules.length c):=dB.cell 1;have m1:w3.cell? ⟨gb,i*3+1,none⟩=some (.slice sa g.rules[i].alts.length sc):=(World.cell?_of_block (w:=wz) (hb3.block gb Tc)).trans Ta;have hA3:ay YR 9 F w3 (.slice sa g.rules[i].alts.length sc) g.rules[i].alts:=ay.move (fun b hb'=>hb3.block b (by have:=h.lt b hb';omega)) (fun _ h=>h) Fa;have q1:=O3 9 F w3.drew _ _ g ((h.below qJ).below (w':=w3.drew) ⟨rfl,rfl,rfl,zL0,fun _ _=>rfl⟩) _ _ (ay.move (w':=w3.drew) (fun _ _=>rfl) (fun _ h=>h) hA3) hU (cb+1) dL yU HL2.out.2;have HE:Hid (l5 g i dL=dL.set i (aS dL i || iw (dD g dL) 9 g.rules[i].alts)):=Vl hlt (by have:=HL2.out.2;omega);generalize iw (dD g dL) 9 g.rules[i].alts=ok at q1 HE;have alY:gb<w3.heap.size:=by omega
          have hN:i<dL.length:=by have:=HL2.out.2;omega
          have HN:Hid (i<dL.length):=hN;clear hN;go_wp2_with fail
          go_region_law (refine jK rfl 54 #[.agg #[.slice a' g.levels.length c',.slice (some ⟨gb,0,none⟩) g.rules.length c],.slice sa g.rules[i].alts.length sc,.slice (some ⟨cb+1,0,none⟩) g.rules.length g.rules.length] (by go_simp) q1 ?_;rintro e w4⟨rfl,hb4⟩;refine⟨_,rfl,?_⟩)
          all_goals
           have yL:Below w3.heap.size w3 w4:=(Below.refl _ w3).drew.trans hb4;have DK:aj w4 (cb+1) _ 4:=(yL.block _ (by omega)).trans yU;have Td:aj w4 cb _ 4:=(yL.block _ (by omega)).trans Jt;have e4:w4.cell? ⟨cb+1,i,none⟩=some (.bool (aS dL i)):=(DK.cell i).trans (qx dL HN.out);have ef4:w4.frozen? ⟨cb+1,i,none⟩=false:=DK.frozen i;have hs4:=yL.size;have Te:∀v,aj (w4.setCell ⟨cb+1,i,none⟩ v) cb (bF bc3) 4:=fun v=>Td.other (by omega) v
           have DL:aj (w4.setCell ⟨cb+1,i,none⟩ (.bool (aS dL i || ok))) (cb+1) (bF (dL.set i (aS dL i || ok))) 4:=by rw[<-zL];exact DK.set i _
           have hb5:∀v,Below cb wz (w4.setCell ⟨cb+1,i,none⟩ v):=fun v=>(hb3.trans (yL.mono (by omega))).setCell (p:=⟨cb+1,i,none⟩) (Nat.le_succ cb) v
           have HQ:Hid (bc3=jf (jL g) (i+1) 0 bc/\dL.set i (aS dL i || ok)=jf (l5 g) (i+1) 0 be):=⟨by rw[FU,<-rG.out.1,Nat.zero_add];exact rT.out,by rw[FU,<-rG.out.2,Nat.zero_add];exact HE.out.symm⟩;have DN:Hid (bc3.length=g.rules.length/\(dL.set i (aS dL i || ok)).length=g.rules.length):=⟨by rw[rT.out,Ua];exact HL2.out.1,by rw[List.length_set];exact HL2.out.2⟩;cases hqe:aS dL i
           all_goals
            rw[hqe]at e4 HQ DL DN;simp only[Bool.true_or,Bool.false_or]at HQ DL DN;go_wp2_with fail;go_roundg (g.rules.length - (i+1))
            case measure=>omega
            case rel=>exact⟨i+1,_,_,by omega,by go_num,hb5 _,Te _,DL,DN,HQ⟩
        |false=>
         have rT:Hid (bc2=jL g i bc2):=(ad9 hq).symm;rw[hq]at o1;clear hq;go_wp2_with fail;obtain⟨w3,hw3⟩:∃w3,w3=wr:=⟨_,rfl⟩;rw[<-hw3];have hb3:Below cb wz w3:=hw3▸hbr;obtain⟨bc3,CG⟩:∃bc3,bc3=bc2:=⟨_,rfl⟩;have Jt:aj w3 cb (bF bc3) 4:=hw3▸CG▸Nq;have yU:aj w3 (cb+1) (bF dL) 4:=hw3▸xD;have rT:Hid (bc3=jL g i bc2):=CG.trans rT.out;clear CG hw3 o1;have Lh:cb+2<=w3.heap.size:=yU.lt;have qJ:Below w.heap.size w w3:=hbw.trans (hb3.mono (by omega));have dB:aj w3 w.heap.size _ 86:=(hb3.block _ (by omega)).trans jP;have g30:w3.cell? ⟨w.heap.size,0,none⟩=some (.slice a' g.levels.length c'):=dB.cell 0;have g31:w3.cell? ⟨w.heap.size,1,none⟩=some (.slice (some ⟨gb,0,none⟩) g.rules.length c):=dB.cell 1;have m1:w3.cell? ⟨gb,i*3+1,none⟩=some (.slice sa g.rules[i].alts.length sc):=(World.cell?_of_block (w:=wz) (hb3.block gb Tc)).trans Ta;have hA3:ay YR 9 F w3 (.slice sa g.rules[i].alts.length sc) g.rules[i].alts:=ay.move (fun b hb'=>hb3.block b (by have:=h.lt b hb';omega)) (fun _ h=>h) Fa;have q1:=O3 9 F w3.drew _ _ g ((h.below qJ).below (w':=w3.drew) ⟨rfl,rfl,rfl,zL0,fun _ _=>rfl⟩) _ _ (ay.move (w':=w3.drew) (fun _ _=>rfl) (fun _ h=>h) hA3) hU (cb+1) dL yU HL2.out.2;have HE:Hid (l5 g i dL=dL.set i (aS dL i || iw (dD g dL) 9 g.rules[i].alts)):=Vl hlt (by have:=HL2.out.2;omega);generalize iw (dD g dL) 9 g.rules[i].alts=ok at q1 HE;have alY:gb<w3.heap.size:=by omega
         have hN:i<dL.length:=by have:=HL2.out.2;omega
         have HN:Hid (i<dL.length):=hN;clear hN;go_wp2_with fail
         go_region_law (refine jK rfl 54 #[.agg #[.slice a' g.levels.length c',.slice (some ⟨gb,0,none⟩) g.rules.length c],.slice sa g.rules[i].alts.length sc,.slice (some ⟨cb+1,0,none⟩) g.rules.length g.rules.length] (by go_simp) q1 ?_;rintro e w4⟨rfl,hb4⟩;refine⟨_,rfl,?_⟩)
         all_goals
          have yL:Below w3.heap.size w3 w4:=(Below.refl _ w3).drew.trans hb4;have DK:aj w4 (cb+1) _ 4:=(yL.block _ (by omega)).trans yU;have Td:aj w4 cb _ 4:=(yL.block _ (by omega)).trans Jt;have e4:w4.cell? ⟨cb+1,i,none⟩=some (.bool (aS dL i)):=(DK.cell i).trans (qx dL HN.out);have ef4:w4.frozen? ⟨cb+1,i,none⟩=false:=DK.frozen i;have hs4:=yL.size;have Te:∀v,aj (w4.setCell ⟨cb+1,i,none⟩ v) cb (bF bc3) 4:=fun v=>Td.other (by omega) v
          have DL:aj (w4.setCell ⟨cb+1,i,none⟩ (.bool (aS dL i || ok))) (cb+1) (bF (dL.set i (aS dL i || ok))) 4:=by rw[<-zL];exact DK.set i _
          have hb5:∀v,Below cb wz (w4.setCell ⟨cb+1,i,none⟩ v):=fun v=>(hb3.trans (yL.mono (by omega))).setCell (p:=⟨cb+1,i,none⟩) (Nat.le_succ cb) v
          have HQ:Hid (bc3=jf (jL g) (i+1) 0 bc/\dL.set i (aS dL i || ok)=jf (l5 g) (i+1) 0 be):=⟨by rw[FU,<-rG.out.1,Nat.zero_add];exact rT.out,by rw[FU,<-rG.out.2,Nat.zero_add];exact HE.out.symm⟩;have DN:Hid (bc3.length=g.rules.length/\(dL.set i (aS dL i || ok)).length=g.rules.length):=⟨by rw[rT.out,Ua];exact HL2.out.1,by rw[List.length_set];exact HL2.out.2⟩;cases hqe:aS dL i
          all_goals
           rw[hqe]at e4 HQ DL DN;simp only[Bool.true_or,Bool.false_or]at HQ DL DN;go_wp2_with fail;go_roundg (g.rules.length - (i+1))
           case measure=>omega
           case rel=>exact⟨i+1,_,_,by omega,by go_num,hb5 _,Te _,DL,DN,HQ⟩
       ·have:i=g.rules.length:=by omega
        subst this;have HI2:Hid (bc2=Lx.iter (jf (jL g) g.rules.length 0) (n+1) s0/\dL=Lx.iter (jf (l5 g) g.rules.length 0) (n+1) t0):=⟨by rw[Oq,<-HI.out.1];exact rG.out.1,by rw[Oq,<-HI.out.2];exact rG.out.2⟩;go_wp2_with fail;go_roundg (g.rules.length+1 - (n+1))
        case measure=>omega
        case rel=>exact⟨n+1,bc2,dL,by omega,by go_num,hbr,Nq,xD,HL2,HI2⟩
     ·have hn2:n=g.rules.length+1:=by omega
      subst hn2;have HK:Hid (dK g=iT 6 (gB g.rules bc) (iT 7 (gB g.rules be) (0,0))):=by
       show _=_;rw[ah4 hL,HI.out.1,HI.out.2,HS.out,HT.out];rfl
      clear HI HS HT;have hsy:cb+2<=wy.heap.size:=ke.lt;have Hy:Below w.heap.size w wy:=hbw.trans (hby.mono (by omega));have DC:aj wy w.heap.size _ 86:=(hby.block _ (by omega)).trans jP;have gy1:wy.cell? ⟨w.heap.size,1,none⟩=some (.slice a g.rules.length c):=DC.cell 1;have Dv:aj wy (w.heap.size+1) _ 90:=(hby.block _ (by omega)).trans vE;have Tf:wy.cell? ⟨w.heap.size+1,0,none⟩=some (.int .i64 0):=Dv.cell 0;have Tg:wy.cell? ⟨w.heap.size+1,1,none⟩=some (.int .i64 0):=Dv.cell 1;have fry:∀j,wy.frozen? ⟨w.heap.size+1,j,none⟩=false:=Dv.frozen;clear r0 r1 fr g0 g1;go_wp2_with fail
      go_loopg [11] g.rules.length (fun k i wr=>∃m:Nat,m+k=g.rules.length/\i=.int .i64 m/\wr=wy/\Hid (gB g.rules bc=gB (g.rules.drop m) (bc.drop m)))
      case atStart=>exact⟨0,by omega,rfl,rfl,rfl⟩
      case round=>
       obtain⟨m,hkm,rfl,rfl,HM⟩:=hrel
       by_cases hlt:m<g.rules.length
       ·have hlb:m<bc.length:=by have:=HL.out.1;omega
        have hfo:=TG (rs:=g.rules) (bs:=bc) hlt hlb;have o1:wr.cell? ⟨cb,m,none⟩=some (.bool (aS bc m)):=(kc.cell m).trans (qx bc hlb);clear hlb;cases hq:aS bc m with
        |true=>
         have FB:Hid (gB g.rules bc=gB (g.rules.drop (m+1)) (bc.drop (m+1))):=HM.out.trans (hfo.1 hq);rw[hq]at o1;clear hfo hq;go_wp2_with fail;go_roundg (g.rules.length - (m+1))
         case measure=>omega
         case rel=>exact⟨m+1,by omega,by go_num,rfl,FB⟩
        |false=>
         have FB:Hid (gB g.rules bc=some g.rules[m].place):=HM.out.trans (hfo.2 hq);rw[hq]at o1;clear hfo hq;obtain⟨gb,cap,va,hv,hF,hA,d0,d1,d2⟩:=(h.below Hy).rule hlt;cases hv;go_wp2_with fail;refine bodyPost_ret (v:=.agg #[.int .i64 6,.int .i64 (g.rules[m].place:Int)]) (by simp[results,results25,go_sem,Tf,Tg]) rfl ⟨?_,?_⟩
         ·rw[HK.out,FB.out];rfl
         ·exact Hy.uo (Nat.le_succ _) _ _
       ·have:m=g.rules.length:=by omega
        subst this;have FB:Hid (gB g.rules bc=none):=by
         have:=HM.out;rw[List.drop_length]at this;exact this
        clear HM hkm;go_wp2_with fail
        go_loopg [12] g.rules.length (fun k i wq=>∃m:Nat,m+k=g.rules.length/\i=.int .i64 m/\wq=wr/\Hid (gB g.rules be=gB (g.rules.drop m) (be.drop m)))
        case atStart=>exact⟨0,by omega,rfl,rfl,rfl⟩
        case round=>
         obtain⟨m,hkm,rfl,rfl,HM⟩:=hrel
         by_cases hlt:m<g.rules.length
         ·have hlb:m<be.length:=by have:=HL.out.2;omega
          have hfo:=TG (rs:=g.rules) (bs:=be) hlt hlb;have o1:wr.cell? ⟨cb+1,m,none⟩=some (.bool (aS be m)):=(ke.cell m).trans (qx be hlb);clear hlb;cases hq:aS be m with
          |true=>
           have Ju:Hid (gB g.rules be=gB (g.rules.drop (m+1)) (be.drop (m+1))):=HM.out.trans (hfo.1 hq);rw[hq]at o1;clear hfo hq;go_wp2_with fail;go_roundg (g.rules.length - (m+1))
           case measure=>omega
           case rel=>exact⟨m+1,by omega,by go_num,rfl,Ju⟩
          |false=>
           have Ju:Hid (gB g.rules be=some g.rules[m].place):=HM.out.trans (hfo.2 hq);rw[hq]at o1;clear hfo hq;obtain⟨gb,cap,va,hv,hF,hA,d0,d1,d2⟩:=(h.below Hy).rule hlt;cases hv;go_wp2_with fail;refine bodyPost_ret (v:=.agg #[.int .i64 7,.int .i64 (g.rules[m].place:Int)]) (by simp[results,results25,go_sem,Tf,Tg]) rfl ⟨?_,?_⟩
           ·rw[HK.out,FB.out,Ju.out];rfl
           ·exact Hy.uo (Nat.le_succ _) _ _
         ·have:m=g.rules.length:=by omega
          subst this;have Ju:Hid (gB g.rules be=none):=by
           have:=HM.out;rw[List.drop_length]at this;exact this
          clear HM hkm;go_wp2_with fail;refine bodyPost_ret (v:=.agg #[.int .i64 0,.int .i64 0]) (by simp[results,results25,go_sem,Tf,Tg]) rfl ⟨?_,?_⟩
          ·rw[HK.out,FB.out,Ju.out];rfl
          ·exact Hy.uo (Nat.le_succ _) _ _
  ·have hbad:=hC.bad hrz
   have HB:Hid (dK g=r):=hbad;have hrb:((r.1:Int) == 0)=false:=zB0 (by omega);clear hbad hC;have HZ:Hid (¬r.1=0):=hrz;clear hrz
   by_cases hlt:j<g.rules.length
   all_goals
    go_wp2_with fail;refine bodyPost_ret (v:=.agg #[.int .i64 (r.1:Int),.int .i64 (r.2:Int)]) (by simp[results,results25,go_sem,r0,r1]) rfl ⟨?_,?_⟩
    ·rw[HB.out];rfl
    ·exact hbw.uo (Nat.le_succ _) _ _
end Go.Proofs.YtjaalkocdbkdeaaGreatDoor

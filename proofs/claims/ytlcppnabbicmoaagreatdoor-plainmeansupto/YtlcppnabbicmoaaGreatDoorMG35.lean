import Derived.Test.YtlcppnabbicmoaaGreatDoorMG09
set_option maxHeartbeats 8000000
set_option maxRecDepth 1000000
namespace Go.Proofs.YtlcppnabbicmoaaGreatDoor
open Lx Go.Proofs.Tryz
open Go.RowKit
open Tr
def JZ (r:Nat × Nat):Value:=.agg #[.int .i64 (r.1:Int),.int .i64 (r.2:Int)]
theorem Z8 (n:Nat)(o:Option Nat):Md n o=JZ (iL n o (0,0)):=by cases o <;> rfl
namespace Lx
def Uz (g:Gr)(j:Nat):Option Nat:=yC (aG g) (iD g) (g.rules.drop j)
def ql (g:Gr)(j:Nat)(r:Nat × Nat):Prop:=(r.1≠0/\dF g=r)\/(r=(0,0)/\pu g=none/\qp g=Uz g j)
theorem ql.start (g:Gr):ql g 0 (iL 4 (pu g) (0,0)):=by
 unfold ql;cases h:pu g with
 | none=>exact .inr ⟨rfl,rfl,rfl⟩
 | some p=>exact .inl ⟨by simp[iL],by simp[dF,h,iL]⟩
theorem ql.next {g:Gr}{j:Nat}(hj:j<g.rules.length){r:Nat × Nat}(hr:r.1=0)(h:ql g j r):ql g (j+1) (iL 5 (unk g (dD 9 g.rules[j].alts)) (0,0)):=by
 rcases h with ⟨h,_⟩ | ⟨_,h1,h2⟩
 ·exact absurd hr h
 ·unfold Uz at h2
  rw[ag2 hj]at h2;unfold ql;cases hq:unk g (dD 9 g.rules[j].alts) with
  | none=>rw[hq]at h2;exact .inr ⟨rfl,h1,h2⟩
  | some p =>
   rw[hq]at h2;have h3:qp g=some p:=h2;exact .inl ⟨by simp[iL],by simp[dF,h1,h3,iL]⟩
theorem ql.bad {g:Gr}{j:Nat}{r:Nat × Nat}(h:ql g j r)(hr:r.1≠0):dF g=r:=by
 rcases h with ⟨_,h⟩ | ⟨h,_⟩
 ·exact h
 ·rw[h]at hr;exact absurd rfl hr
theorem ql.out {g:Gr}{r:Nat × Nat}(h:ql g g.rules.length r)(hr:r.1=0):pu g=none/\qp g=none:=by
 rcases h with ⟨h,_⟩ | ⟨_,h1,h2⟩
 ·exact absurd hr h
 ·refine⟨h1,h2.trans ?_⟩
  unfold Uz;rw[List.drop_length];rfl
theorem ql.zero {g:Gr}{j:Nat}{r:Nat × Nat}(h:ql g j r)(hr:r.1=0):r=(0,0):=by
 rcases h with ⟨h,_⟩ | ⟨h,_⟩
 ·exact absurd hr h
 ·exact h
theorem aiT {g:Gr}(h:pu g=none/\qp g=none):dF g=iL 6 (eF g.rules (xC g)) (iL 7 (eF g.rules (vM g)) (0,0)):=by
 unfold dF;rw[h.1,h.2];rfl
end Lx
theorem afk {F:Nat->Prop} {w:World} {vL vR:Value} {g:Lx.Gr} (h:DG F w vL vR g) (hsm:(iC g).length<=2001) (hrn:g.rules.length<=2001) (hr0:0<g.rules.length) :
  Calls prog 28 #[.agg #[vL,vR]] w fun e w'=>e=.returned (JZ (dF g))/\Below w.heap.size w w':=by
 obtain⟨a,c,rfl,hmr⟩:=h.o9;obtain⟨a',c',rfl,hml⟩:=h.qm;unfold maxLen at hmr hml;go_enter func28,ntmps28;go_wp2_with fail;obtain⟨W,hW⟩:∃ W,W=(w.alloc (.cells #[.slice a' g.levels.length c',.slice a g.rules.length c] 49)).alloc (.cells #[.int .i64 0,.int .i64 0] 74):=⟨_,rfl⟩;rw[<-hW];have hWs:W.heap.size=w.heap.size+2:=by rw[hW];simp
 have kG:aj W w.heap.size #[.slice a' g.levels.length c',.slice a g.rules.length c] 49:=by rw[hW];exact (aj.new w _ 49).alloc _
 have kR:aj W (w.heap.size+1) #[.int .i64 0,.int .i64 0] 74:=by rw[hW];simpa using aj.new (w.alloc (.cells #[.slice a' g.levels.length c',.slice a g.rules.length c] 49)) #[.int .i64 0,.int .i64 0] 74
 have hB:Below w.heap.size w W:=by rw[hW];exact ((Below.refl _ _).alloc (lr0) _).alloc (by simp) _
 clear hW;refine (ag1 (h.below hB) hsm).mono ?_;rintro e w1 ⟨rfl,hb1⟩;have hs1:=hb1.size;have hC0:ql g 0 (iL 4 (pu g) (0,0)):=ql.start g;rw[show (bS [] (iC g)).or (bS [] (lQ g))=pu g from rfl,Z8];generalize iL 4 (pu g) (0,0)=r at hC0;unfold JZ;go_wp2_with fail;obtain⟨w2,hw2⟩:∃ w2,w2=w1.alloc (.cells #[.int .i64 (r.1:Int),.int .i64 (r.2:Int)] 74):=⟨_,rfl⟩;rw[<-hw2];have kF:aj w2 w1.heap.size #[.int .i64 (r.1:Int),.int .i64 (r.2:Int)] 74:=by rw[hw2];exact aj.new w1 _ 74
 have hb2:Below w1.heap.size w1 w2:=by rw[hw2];exact (Below.refl _ _).alloc (lr0) _
 clear hw2;generalize hfb:w1.heap.size=fb at *
 go_loopg [4] g.rules.length (fun k i wr=>∃ (j:Nat) (r:Nat × Nat),j+k=g.rules.length/\i=.int .i64 j/\Below fb w1 wr/\aj wr fb #[.int .i64 (r.1:Int),.int .i64 (r.2:Int)] 74/\ql g j r)
 case atStart=>exact⟨0,r,by omega,rfl,hb2,kF,hC0⟩
 case round =>
  clear kF hC0 hb2;revert wr;intro wz hrel;obtain⟨j,r,hk,rfl,hbz,kF,hC⟩:=hrel;have hsz:=hbz.size;rw[hfb]at hsz;have kD:aj wz w.heap.size _ 49:=(hbz.block _ (by omega)).trans ((hb1.block _ (by omega)).trans kG);have oJ:aj wz (w.heap.size+1) _ 74:=(hbz.block _ (by omega)).trans ((hb1.block _ (by omega)).trans kR);have g0:wz.cell? ⟨w.heap.size,0,none⟩=some (.slice a' g.levels.length c'):=kD.cell 0;have g1:wz.cell? ⟨w.heap.size,1,none⟩=some (.slice a g.rules.length c):=kD.cell 1;have f0:wz.cell? ⟨fb,0,none⟩=some (.int .i64 (r.1:Int)):=kF.cell 0;have f1:wz.cell? ⟨fb,1,none⟩=some (.int .i64 (r.2:Int)):=kF.cell 1;have ff:∀ j,wz.frozen? ⟨fb,j,none⟩=false:=kF.frozen;have r0:wz.cell? ⟨w.heap.size+1,0,none⟩=some (.int .i64 0):=oJ.cell 0;have r1:wz.cell? ⟨w.heap.size+1,1,none⟩=some (.int .i64 0):=oJ.cell 1;have fr:∀ j,wz.frozen? ⟨w.heap.size+1,j,none⟩=false:=oJ.frozen;have hbw:Below w.heap.size w wz:=(hB.trans (hb1.mono (by omega))).trans (hbz.mono (by omega))
  by_cases hrz:r.1=0
  ·have MV:=hC.zero hrz
   have HR:Hid (r=(0,0)):=MV;rw[MV]at f0 f1;simp only[]at f0 f1
   by_cases hlt:j<g.rules.length
   ·obtain⟨gb,cap,va,hv,hF,hA,d0,d1,d2⟩:=(h.below hbw).rule hlt
    cases hv;have hC2:=hC.next hlt hrz;clear hC hrz MV;obtain⟨sa,sc,hva,-⟩:=ay.len hA;subst hva;have q0:=WB 9 F wz.drew _ _ g ((h.below hbw).below (w':=wz.drew) ⟨rfl,rfl,rfl,lr0,fun _ _=>rfl⟩) _ _ (ay.move (w':=wz.drew) (fun _ _=>rfl) (fun _ h=>h) hA);rw[Z8]at q0;generalize g.rules[j]=x at d0 d1 d2 hC2 q0 hA;generalize iL 5 (Lx.unk g (dD 9 x.alts)) (0,0)=r2 at q0 hC2;have lD:gb<wz.heap.size:=(h.below hbw).lt gb hF;have lG:w.heap.size<wz.heap.size:=by omega
    have lF:fb<wz.heap.size:=kF.lt;go_wp2_with fail
    go_region_law (refine mZ rfl 60 #[.agg #[.slice a' g.levels.length c',.slice (some ⟨gb,0,none⟩) g.rules.length c],.slice sa x.alts.length sc] (by go_simp) q0 ?_;rintro e w3 ⟨rfl,hb3⟩;refine⟨_,rfl,?_⟩;have Oe:aj w3 fb _ 74:=(hb3.block _ (show fb<wz.drew.heap.size from lF)).trans (show aj wz.drew fb _ 74 from kF);have f30:w3.cell? ⟨fb,0,none⟩=some (.int .i64 (r.1:Int)):=Oe.cell 0;have f31:w3.cell? ⟨fb,1,none⟩=some (.int .i64 (r.2:Int)):=Oe.cell 1;have S9:∀ j,w3.frozen? ⟨fb,j,none⟩=false:=Oe.frozen;unfold JZ)
    all_goals
     have hb4:Below fb wz w3:=(Below.refl fb wz).drew.trans (hb3.mono (show fb<=wz.drew.heap.size from Nat.le_of_lt lF));have hb5:=(hbz.trans hb4).uG (Nat.le_refl fb) (.int .i64 (r2.1:Int)) (.int .i64 (r2.2:Int));have kF4:=(Oe.set 0 (.int .i64 (r2.1:Int))).set 1 (.int .i64 (r2.2:Int));simp at kF4;go_wp2_with fail;go_roundg (g.rules.length - (j+1))
     case measure=>omega
     case rel=>exact⟨j+1,r2,by omega,by go_num,hb5,kF4,hC2⟩
   ·have:j=g.rules.length:=by omega
    subst this;have hL:=hC.out hrz;clear hC hrz MV;have hmk:=fun w=>OW hrn w
    have hb0:(aL (List.replicate g.rules.length false))[0]?=some (.bool false):=by rw[fI _ (by simpa using hr0)];simp[au,hr0]
    have p1:((wz.alloc (.cells (aL (List.replicate g.rules.length false)) 4)).alloc (.cells (aL (List.replicate g.rules.length false)) 4)).cell? ⟨wz.heap.size,0,none⟩=some (.bool false):=(((aj.new wz _ 4).alloc _).cell 0).trans hb0;have p2:((wz.alloc (.cells (aL (List.replicate g.rules.length false)) 4)).alloc (.cells (aL (List.replicate g.rules.length false)) 4)).frozen? ⟨wz.heap.size,0,none⟩=false:=((aj.new wz _ 4).alloc _).frozen 0;go_wp2_with fail;obtain⟨s0,hs0⟩:∃ s0:List Bool,s0=(List.replicate g.rules.length false).set 0 true:=⟨_,rfl⟩;obtain⟨t0,ht0⟩:∃ t0:List Bool,t0=List.replicate g.rules.length false:=⟨_,rfl⟩;obtain⟨W5,xS⟩:∃ W5,W5=(wz.alloc (.cells ((aL (List.replicate g.rules.length false)).setIfInBounds 0 (.bool true)) 4)).alloc (.cells (aL (List.replicate g.rules.length false)) 4):=⟨_,rfl⟩;rw[<-xS];have kc:aj W5 wz.heap.size (aL s0) 4:=by rw[xS,hs0,<-p9];exact (aj.new wz _ 4).alloc _
    have ke:aj W5 (wz.heap.size+1) (aL t0) 4:=by rw[xS,ht0];simpa using aj.new (wz.alloc (.cells ((aL (List.replicate g.rules.length false)).setIfInBounds 0 (.bool true)) 4)) (aL (List.replicate g.rules.length false)) 4
    have hb5:Below wz.heap.size wz W5:=by rw[xS];exact ((Below.refl _ _).alloc (lr0) _).alloc (by simp) _
    have HL0:Hid (s0.length=g.rules.length/\t0.length=g.rules.length):=⟨by rw[hs0];simp,by rw[ht0];simp⟩;have HS:Hid (s0=(List.replicate g.rules.length false).set 0 true):=hs0;have HT:Hid (t0=List.replicate g.rules.length false):=ht0;clear hmk hb0 p1 p2 xS hs0 ht0;have lF:fb<wz.heap.size:=kF.lt;clear kF f0 f1 ff hbz hk;generalize hcb:wz.heap.size=cb at *
    go_loopg [8] (g.rules.length+1) (fun k i wr=>∃ (n:Nat) (bc be:List Bool),n+k=g.rules.length+1/\i=.int .i64 n/\Below cb wz wr/\aj wr cb (aL bc) 4/\aj wr (cb+1) (aL be) 4/\Hid (bc.length=g.rules.length/\be.length=g.rules.length)/\Hid (bc=Lx.iter (jq (jX g) g.rules.length 0) n s0/\be=Lx.iter (jq (mo g) g.rules.length 0) n t0))
    case atStart=>exact⟨0,s0,t0,by omega,rfl,hb5,kc,ke,HL0,⟨rfl,rfl⟩⟩
    case round =>
     clear kc ke HL0 hb5;revert wr;intro wy hrel;obtain⟨n,bc,be,hkn,rfl,hby,kc,ke,HL,HI⟩:=hrel
     by_cases hn:n<g.rules.length+1
     ·have hn1:n<=g.rules.length:=by omega
      go_wp2_with fail
      go_loopg [9] g.rules.length (fun k i wr=>∃ (m:Nat) (bc2 d9:List Bool),m+k=g.rules.length/\i=.int .i64 m/\Below cb wz wr/\aj wr cb (aL bc2) 4/\aj wr (cb+1) (aL d9) 4/\Hid (bc2.length=g.rules.length/\d9.length=g.rules.length)/\Hid (bc2=jq (jX g) m 0 bc/\d9=jq (mo g) m 0 be))
      case atStart=>exact⟨0,bc,be,by omega,rfl,hby,kc,ke,HL,⟨rfl,rfl⟩⟩
      case round =>
       clear kc ke hby;obtain⟨i,bc2,d9,hki,rfl,hbr,Og,xM,HL2,tK⟩:=hrel
       by_cases hlt:i<g.rules.length
       ·obtain⟨gb,cap,va,hv,hF,FP,dz0,UA,dz2⟩:=(h.below hbw).rule hlt
        cases hv;obtain⟨sa,sc,hva,-⟩:=ay.len FP;subst hva;have UB:gb<cb:=by have:=h.lt gb hF;omega
        have hU:Lx.unk g (dD 9 g.rules[i].alts)=none:=GX hL.2 _ (List.getElem_mem hlt);have hsr:cb+2<=wr.heap.size:=xM.lt;have o1:wr.cell? ⟨cb,i,none⟩=some (.bool (au bc2 i)):=(Og.cell i).trans (fI bc2 (by have:=HL2.out.1;omega));have nY:Below w.heap.size w wr:=hbw.trans (hbr.mono (by omega));cases hq:au bc2 i with
        | true =>
         have HC:Hid (jX g i bc2=ja (aG g) (qL 9 g.rules[i].alts) bc2):=afr hlt hq;rw[hq]at o1;have HQQ:Hid (au bc2 i=true):=hq;clear hq;have jl:aj wr w.heap.size _ 49:=(hbr.block _ (by omega)).trans kD;have Oc:wr.cell? ⟨w.heap.size,0,none⟩=some (.slice a' g.levels.length c'):=jl.cell 0;have Uo:wr.cell? ⟨w.heap.size,1,none⟩=some (.slice (some ⟨gb,0,none⟩) g.rules.length c):=jl.cell 1;have mr1:wr.cell? ⟨gb,i*3+1,none⟩=some (.slice sa g.rules[i].alts.length sc):=(World.cell?_of_block (w:=wz) (hbr.block gb UB)).trans UA;have hAr:ay YR 9 F wr (.slice sa g.rules[i].alts.length sc) g.rules[i].alts:=ay.move (fun b hb'=>hbr.block b (by have:=h.lt b hb';omega)) (fun _ h=>h) FP;have q0:=Zb 9 F wr.drew _ _ g ((h.below nY).below (w':=wr.drew) ⟨rfl,rfl,rfl,lr0,fun _ _=>rfl⟩) _ _ (ay.move (w':=wr.drew) (fun _ _=>rfl) (fun _ h=>h) hAr) hU cb bc2 (fun hF=>by have:=h.lt _ hF;omega) Og HL2.out.1;have ano:gb<wr.heap.size:=by omega
         go_wp2_with fail
         go_region_law (refine mZ rfl 61 #[.agg #[.slice a' g.levels.length c',.slice (some ⟨gb,0,none⟩) g.rules.length c],.slice sa g.rules[i].alts.length sc,.slice (some ⟨cb,0,none⟩) g.rules.length g.rules.length] (by go_simp) q0 ?_;rintro e w3 ⟨rfl,hg3,J2⟩;refine⟨_,rfl,?_⟩)
         all_goals
          have hg3':wr.grownBy w3 (some cb):=⟨hg3.os,hg3.tape,hg3.output,hg3.size,hg3.block⟩;have hb3:Below cb wz w3:=hbr.grown hg3' (by omega) (fun k hk=>by cases hk;exact lr0);have zk:aj w3 (cb+1) (aL d9) 4:=xM.grown hg3' (by simp);rw[<-HC.out]at J2;obtain⟨bc3,CZ⟩:∃ bc3,bc3=jX g i bc2:=⟨_,rfl⟩;rw[<-CZ]at J2;have pW:Hid (bc3=jX g i bc2):=CZ;clear CZ Oc Uo mr1 o1 q0;have Mi:cb+2<=w3.heap.size:=zk.lt;have tq:Below w.heap.size w w3:=hbw.trans (hb3.mono (by omega));have dG:aj w3 w.heap.size _ 49:=(hb3.block _ (by omega)).trans kD;have g30:w3.cell? ⟨w.heap.size,0,none⟩=some (.slice a' g.levels.length c'):=dG.cell 0;have g31:w3.cell? ⟨w.heap.size,1,none⟩=some (.slice (some ⟨gb,0,none⟩) g.rules.length c):=dG.cell 1;have m1:w3.cell? ⟨gb,i*3+1,none⟩=some (.slice sa g.rules[i].alts.length sc):=(World.cell?_of_block (w:=wz) (hb3.block gb UB)).trans UA;have hA3:ay YR 9 F w3 (.slice sa g.rules[i].alts.length sc) g.rules[i].alts:=ay.move (fun b hb'=>hb3.block b (by have:=h.lt b hb';omega)) (fun _ h=>h) FP;have q1:=Ql 9 F w3.drew _ _ g ((h.below tq).below (w':=w3.drew) ⟨rfl,rfl,rfl,lr0,fun _ _=>rfl⟩) _ _ (ay.move (w':=w3.drew) (fun _ _=>rfl) (fun _ h=>h) hA3) hU (cb+1) d9 zk HL2.out.2;have HE:Hid (mo g i d9=d9.set i (au d9 i || ig (dK g d9) 9 g.rules[i].alts)):=WG hlt (by have:=HL2.out.2;omega);generalize ig (dK g d9) 9 g.rules[i].alts=ok at q1 HE;have amz:gb<w3.heap.size:=by omega
          have hN:i<d9.length:=by have:=HL2.out.2;omega
          have HN:Hid (i<d9.length):=hN;clear hN;go_wp2_with fail
          go_region_law (refine mZ rfl 62 #[.agg #[.slice a' g.levels.length c',.slice (some ⟨gb,0,none⟩) g.rules.length c],.slice sa g.rules[i].alts.length sc,.slice (some ⟨cb+1,0,none⟩) g.rules.length g.rules.length] (by go_simp) q1 ?_;rintro e w4 ⟨rfl,hb4⟩;refine⟨_,rfl,?_⟩)
          all_goals
           have rU:Below w3.heap.size w3 w4:=(Below.refl _ w3).drew.trans hb4;have Ef:aj w4 (cb+1) _ 4:=(rU.block _ (by omega)).trans zk;have UC:aj w4 cb _ 4:=(rU.block _ (by omega)).trans J2;have e4:w4.cell? ⟨cb+1,i,none⟩=some (.bool (au d9 i)):=(Ef.cell i).trans (fI d9 HN.out);have ef4:w4.frozen? ⟨cb+1,i,none⟩=false:=Ef.frozen i;have hs4:=rU.size;have UD:∀ v,aj (w4.setCell ⟨cb+1,i,none⟩ v) cb (aL bc3) 4:=fun v=>UC.other (by omega) v
           have Eg:aj (w4.setCell ⟨cb+1,i,none⟩ (.bool (au d9 i || ok))) (cb+1) (aL (d9.set i (au d9 i || ok))) 4:=by rw[<-p9];exact Ef.set i _
           have hb5:∀ v,Below cb wz (w4.setCell ⟨cb+1,i,none⟩ v):=fun v=>(hb3.trans (rU.mono (by omega))).setCell (p:=⟨cb+1,i,none⟩) (Nat.le_succ cb) v
           have HQ:Hid (bc3=jq (jX g) (i+1) 0 bc/\d9.set i (au d9 i || ok)=jq (mo g) (i+1) 0 be):=⟨by rw[Gz,<-tK.out.1,Nat.zero_add];exact pW.out,by rw[Gz,<-tK.out.2,Nat.zero_add];exact HE.out.symm⟩;have Eh:Hid (bc3.length=g.rules.length/\(d9.set i (au d9 i || ok)).length=g.rules.length):=⟨by rw[pW.out,Vj];exact HL2.out.1,by rw[List.length_set];exact HL2.out.2⟩;cases hqe:au d9 i
           all_goals
            rw[hqe]at e4 HQ Eg Eh;simp only[Bool.true_or,Bool.false_or]at HQ Eg Eh;go_wp2_with fail;go_roundg (g.rules.length - (i+1))
            case measure=>omega
            case rel=>exact⟨i+1,_,_,by omega,by go_num,hb5 _,UD _,Eg,Eh,HQ⟩
        | false =>
         have pW:Hid (bc2=jX g i bc2):=(ae6 hq).symm;rw[hq]at o1;clear hq;go_wp2_with fail;obtain⟨w3,hw3⟩:∃ w3,w3=wr:=⟨_,rfl⟩;rw[<-hw3];have hb3:Below cb wz w3:=hw3 ▸ hbr;obtain⟨bc3,CZ⟩:∃ bc3,bc3=bc2:=⟨_,rfl⟩;have J2:aj w3 cb (aL bc3) 4:=hw3 ▸ CZ ▸ Og;have zk:aj w3 (cb+1) (aL d9) 4:=hw3 ▸ xM;have pW:Hid (bc3=jX g i bc2):=CZ.trans pW.out;clear CZ hw3 o1;have Mi:cb+2<=w3.heap.size:=zk.lt;have tq:Below w.heap.size w w3:=hbw.trans (hb3.mono (by omega));have dG:aj w3 w.heap.size _ 49:=(hb3.block _ (by omega)).trans kD;have g30:w3.cell? ⟨w.heap.size,0,none⟩=some (.slice a' g.levels.length c'):=dG.cell 0;have g31:w3.cell? ⟨w.heap.size,1,none⟩=some (.slice (some ⟨gb,0,none⟩) g.rules.length c):=dG.cell 1;have m1:w3.cell? ⟨gb,i*3+1,none⟩=some (.slice sa g.rules[i].alts.length sc):=(World.cell?_of_block (w:=wz) (hb3.block gb UB)).trans UA;have hA3:ay YR 9 F w3 (.slice sa g.rules[i].alts.length sc) g.rules[i].alts:=ay.move (fun b hb'=>hb3.block b (by have:=h.lt b hb';omega)) (fun _ h=>h) FP;have q1:=Ql 9 F w3.drew _ _ g ((h.below tq).below (w':=w3.drew) ⟨rfl,rfl,rfl,lr0,fun _ _=>rfl⟩) _ _ (ay.move (w':=w3.drew) (fun _ _=>rfl) (fun _ h=>h) hA3) hU (cb+1) d9 zk HL2.out.2;have HE:Hid (mo g i d9=d9.set i (au d9 i || ig (dK g d9) 9 g.rules[i].alts)):=WG hlt (by have:=HL2.out.2;omega);generalize ig (dK g d9) 9 g.rules[i].alts=ok at q1 HE;have amz:gb<w3.heap.size:=by omega
         have hN:i<d9.length:=by have:=HL2.out.2;omega
         have HN:Hid (i<d9.length):=hN;clear hN;go_wp2_with fail
         go_region_law (refine mZ rfl 62 #[.agg #[.slice a' g.levels.length c',.slice (some ⟨gb,0,none⟩) g.rules.length c],.slice sa g.rules[i].alts.length sc,.slice (some ⟨cb+1,0,none⟩) g.rules.length g.rules.length] (by go_simp) q1 ?_;rintro e w4 ⟨rfl,hb4⟩;refine⟨_,rfl,?_⟩)
         all_goals
          have rU:Below w3.heap.size w3 w4:=(Below.refl _ w3).drew.trans hb4;have Ef:aj w4 (cb+1) _ 4:=(rU.block _ (by omega)).trans zk;have UC:aj w4 cb _ 4:=(rU.block _ (by omega)).trans J2;have e4:w4.cell? ⟨cb+1,i,none⟩=some (.bool (au d9 i)):=(Ef.cell i).trans (fI d9 HN.out);have ef4:w4.frozen? ⟨cb+1,i,none⟩=false:=Ef.frozen i;have hs4:=rU.size;have UD:∀ v,aj (w4.setCell ⟨cb+1,i,none⟩ v) cb (aL bc3) 4:=fun v=>UC.other (by omega) v
          have Eg:aj (w4.setCell ⟨cb+1,i,none⟩ (.bool (au d9 i || ok))) (cb+1) (aL (d9.set i (au d9 i || ok))) 4:=by rw[<-p9];exact Ef.set i _
          have hb5:∀ v,Below cb wz (w4.setCell ⟨cb+1,i,none⟩ v):=fun v=>(hb3.trans (rU.mono (by omega))).setCell (p:=⟨cb+1,i,none⟩) (Nat.le_succ cb) v
          have HQ:Hid (bc3=jq (jX g) (i+1) 0 bc/\d9.set i (au d9 i || ok)=jq (mo g) (i+1) 0 be):=⟨by rw[Gz,<-tK.out.1,Nat.zero_add];exact pW.out,by rw[Gz,<-tK.out.2,Nat.zero_add];exact HE.out.symm⟩;have Eh:Hid (bc3.length=g.rules.length/\(d9.set i (au d9 i || ok)).length=g.rules.length):=⟨by rw[pW.out,Vj];exact HL2.out.1,by rw[List.length_set];exact HL2.out.2⟩;cases hqe:au d9 i
          all_goals
           rw[hqe]at e4 HQ Eg Eh;simp only[Bool.true_or,Bool.false_or]at HQ Eg Eh;go_wp2_with fail;go_roundg (g.rules.length - (i+1))
           case measure=>omega
           case rel=>exact⟨i+1,_,_,by omega,by go_num,hb5 _,UD _,Eg,Eh,HQ⟩
       ·have:i=g.rules.length:=by omega
        subst this;have HI2:Hid (bc2=Lx.iter (jq (jX g) g.rules.length 0) (n+1) s0/\d9=Lx.iter (jq (mo g) g.rules.length 0) (n+1) t0):=⟨by rw[Ph,<-HI.out.1];exact tK.out.1,by rw[Ph,<-HI.out.2];exact tK.out.2⟩;go_wp2_with fail;go_roundg (g.rules.length+1 - (n+1))
        case measure=>omega
        case rel=>exact⟨n+1,bc2,d9,by omega,by go_num,hbr,Og,xM,HL2,HI2⟩
     ·have hn2:n=g.rules.length+1:=by omega
      subst hn2;have HK:Hid (dF g=iL 6 (eF g.rules bc) (iL 7 (eF g.rules be) (0,0))):=by
       show _=_;rw[aiT hL,HI.out.1,HI.out.2,HS.out,HT.out];rfl
      clear HI HS HT;have hsy:cb+2<=wy.heap.size:=ke.lt;have jU:Below w.heap.size w wy:=hbw.trans (hby.mono (by omega));have Ea:aj wy w.heap.size _ 49:=(hby.block _ (by omega)).trans kD;have gy1:wy.cell? ⟨w.heap.size,1,none⟩=some (.slice a g.rules.length c):=Ea.cell 1;have DL:aj wy (w.heap.size+1) _ 74:=(hby.block _ (by omega)).trans oJ;have UE:wy.cell? ⟨w.heap.size+1,0,none⟩=some (.int .i64 0):=DL.cell 0;have UF:wy.cell? ⟨w.heap.size+1,1,none⟩=some (.int .i64 0):=DL.cell 1;have fry:∀ j,wy.frozen? ⟨w.heap.size+1,j,none⟩=false:=DL.frozen;clear r0 r1 fr g0 g1;go_wp2_with fail
      go_loopg [11] g.rules.length (fun k i wr=>∃ m:Nat,m+k=g.rules.length/\i=.int .i64 m/\wr=wy/\Hid (eF g.rules bc=eF (g.rules.drop m) (bc.drop m)))
      case atStart=>exact⟨0,by omega,rfl,rfl,rfl⟩
      case round =>
       obtain⟨m,hkm,rfl,rfl,HM⟩:=hrel
       by_cases hlt:m<g.rules.length
       ·have hlb:m<bc.length:=by have:=HL.out.1;omega
        have hfo:=U1 (rs:=g.rules) (bs:=bc) hlt hlb;have o1:wr.cell? ⟨cb,m,none⟩=some (.bool (au bc m)):=(kc.cell m).trans (fI bc hlb);clear hlb;cases hq:au bc m with
        | true =>
         have Gb:Hid (eF g.rules bc=eF (g.rules.drop (m+1)) (bc.drop (m+1))):=HM.out.trans (hfo.1 hq);rw[hq]at o1;clear hfo hq;go_wp2_with fail;go_roundg (g.rules.length - (m+1))
         case measure=>omega
         case rel=>exact⟨m+1,by omega,by go_num,rfl,Gb⟩
        | false =>
         have Gb:Hid (eF g.rules bc=some g.rules[m].place):=HM.out.trans (hfo.2 hq);rw[hq]at o1;clear hfo hq;obtain⟨gb,cap,va,hv,hF,hA,d0,d1,d2⟩:=(h.below jU).rule hlt;cases hv;go_wp2_with fail;refine bodyPost_ret (v:=.agg #[.int .i64 6,.int .i64 (g.rules[m].place:Int)]) (by simp[results,results28,go_sem,UE,UF]) rfl ⟨?_,?_⟩
         ·rw[HK.out,Gb.out];rfl
         ·exact jU.uG (Nat.le_succ _) _ _
       ·have:m=g.rules.length:=by omega
        subst this;have Gb:Hid (eF g.rules bc=none):=by
         have:=HM.out;rw[List.drop_length]at this;exact this
        clear HM hkm;go_wp2_with fail
        go_loopg [12] g.rules.length (fun k i wq=>∃ m:Nat,m+k=g.rules.length/\i=.int .i64 m/\wq=wr/\Hid (eF g.rules be=eF (g.rules.drop m) (be.drop m)))
        case atStart=>exact⟨0,by omega,rfl,rfl,rfl⟩
        case round =>
         obtain⟨m,hkm,rfl,rfl,HM⟩:=hrel
         by_cases hlt:m<g.rules.length
         ·have hlb:m<be.length:=by have:=HL.out.2;omega
          have hfo:=U1 (rs:=g.rules) (bs:=be) hlt hlb;have o1:wr.cell? ⟨cb+1,m,none⟩=some (.bool (au be m)):=(ke.cell m).trans (fI be hlb);clear hlb;cases hq:au be m with
          | true =>
           have J3:Hid (eF g.rules be=eF (g.rules.drop (m+1)) (be.drop (m+1))):=HM.out.trans (hfo.1 hq);rw[hq]at o1;clear hfo hq;go_wp2_with fail;go_roundg (g.rules.length - (m+1))
           case measure=>omega
           case rel=>exact⟨m+1,by omega,by go_num,rfl,J3⟩
          | false =>
           have J3:Hid (eF g.rules be=some g.rules[m].place):=HM.out.trans (hfo.2 hq);rw[hq]at o1;clear hfo hq;obtain⟨gb,cap,va,hv,hF,hA,d0,d1,d2⟩:=(h.below jU).rule hlt;cases hv;go_wp2_with fail;refine bodyPost_ret (v:=.agg #[.int .i64 7,.int .i64 (g.rules[m].place:Int)]) (by simp[results,results28,go_sem,UE,UF]) rfl ⟨?_,?_⟩
           ·rw[HK.out,Gb.out,J3.out];rfl
           ·exact jU.uG (Nat.le_succ _) _ _
         ·have:m=g.rules.length:=by omega
          subst this;have J3:Hid (eF g.rules be=none):=by
           have:=HM.out;rw[List.drop_length]at this;exact this
          clear HM hkm;go_wp2_with fail;refine bodyPost_ret (v:=.agg #[.int .i64 0,.int .i64 0]) (by simp[results,results28,go_sem,UE,UF]) rfl ⟨?_,?_⟩
          ·rw[HK.out,Gb.out,J3.out];rfl
          ·exact jU.uG (Nat.le_succ _) _ _
  ·have hbad:=hC.bad hrz
   have HB:Hid (dF g=r):=hbad;have hrb:((r.1:Int) == 0)=false:=bq0 (by omega);clear hbad hC;have HZ:Hid (¬ r.1=0):=hrz;clear hrz
   by_cases hlt:j<g.rules.length
   all_goals
    go_wp2_with fail;refine bodyPost_ret (v:=.agg #[.int .i64 (r.1:Int),.int .i64 (r.2:Int)]) (by simp[results,results28,go_sem,r0,r1]) rfl ⟨?_,?_⟩
    ·rw[HB.out];rfl
    ·exact hbw.uG (Nat.le_succ _) _ _
end Go.Proofs.YtlcppnabbicmoaaGreatDoor

import Derived.Test.YtlcppnabbicmoaaGreatDoorMD48
import Derived.Test.YtlcppnabbicmoaaGreatDoorMD45
import Derived.Test.YtlcppnabbicmoaaGreatDoorMD46
import Derived.Test.YtlcppnabbicmoaaGreatDoorMD43
set_option maxHeartbeats 8000000
set_option maxRecDepth 1000000
namespace Go.Proofs.YtlcppnabbicmoaaGreatDoor
section
open Go.RowKit
open Lx (Tk)
open Tr
theorem rread_any (s:ByteArray) (w:World) :
  Calls Tryz.prog 36 #[.string s] w (REnds s (w.heap.size+1) 0 (RVGram w.heap.size (w.heap.size+1)) (XGram (w.heap.size+1)) w (.slice none 0 0) (rread s)):=by
 by_cases h:2000<s.size
 ·exact rread_long s w h
 ·exact rread_short s w h
def RParseEnds (s:ByteArray)(w:World)(e:Ending)(w':World):Prop :=
 ∃ vL vR sgx,∃ n a:Nat,e=.returned (.tuple #[.agg #[vL,vR],.int .i64 (n:Int),.int .i64 (a:Int)])/\Mv (w.heap.size+1+1) (.slice none 0 0) w w' /\
  match rread s with
  | .ok (g,_)=>n=0/\a=0/\RGramIn w.heap.size sgx w' vL vR g
  | .error (m,b)=>n=m/\a=b/\vL=.slice none 0 0/\vR=.slice none 0 0
theorem rparse_any (s:ByteArray)(w:World):Calls Tryz.prog 17 #[.string s] w (RParseEnds s w):=by
 have hu:(w.alloc (.cells #[.slice none 0 0,.slice none 0 0] 49)).heap.size=w.heap.size+1:=by simp
 have R:=rread_any s (w.alloc (.cells #[.slice none 0 0,.slice none 0 0] 49));rw[hu]at R;have kB:=Blk.new w #[.slice none 0 0,.slice none 0 0] 49;have M0:=(Mv.refl (w.heap.size+1+1) (.slice none 0 0) w).alloc (.cells #[.slice none 0 0,.slice none 0 0] 49);go_enter Tryz.func17,Tryz.ntmps17;go_wp2_with fail;refine R.mono ?_;intro e w1 he;cases hr:rread s with
 | error x =>
  obtain⟨n,a⟩:=x;obtain⟨v1,sg1,sl1,rfl,m1,x1,hx1,xa,xk,xc,xa',xk',xc',rfl⟩:=he.err hr;have HR:Hid (rread s=.error (n,a)):=hr;clear hr he R;have kB1:=kB.mv m1 (by omega) (by simp[Value.ownBlock]);have M1:=M0.trans (Nx.refl _ _) m1;obtain⟨ii,WW,kqx⟩:=hx1.blk;have lq:=kqx.lt;have lB:=kB1.lt;have c4:w1.cell? ⟨w.heap.size+1+1,4,none⟩=some (.int .i64 (n:Int)):=kqx.cell 4;have c5:w1.cell? ⟨w.heap.size+1+1,5,none⟩=some (.int .i64 (a:Int)):=kqx.cell 5;have h0:((n:Int) == 0)=false:=beq_eq_false_iff_ne.2 (by have:=hx1.pos;omega);have e0:w1.cell? ⟨w.heap.size,0,none⟩=some (.slice none 0 0):=kB1.cell 0;have e1:w1.cell? ⟨w.heap.size,1,none⟩=some (.slice none 0 0):=kB1.cell 1;have ff:∀ i,w1.frozen? ⟨w.heap.size,i,none⟩=false:=kB1.frozen;have kB9:=((kB1.set 0 (.slice none 0 0)).set 1 (.slice none 0 0)).alloc (.cells #[.slice xa xk xc,.slice xa' xk' xc'] 49);have y0:(((w1.setCell ⟨w.heap.size,0,none⟩ (.slice none 0 0)).setCell ⟨w.heap.size,1,none⟩ (.slice none 0 0)).alloc (.cells #[.slice xa xk xc,.slice xa' xk' xc'] 49)).cell? ⟨w.heap.size,0,none⟩=some (.slice none 0 0):=kB9.cell 0;have y1:(((w1.setCell ⟨w.heap.size,0,none⟩ (.slice none 0 0)).setCell ⟨w.heap.size,1,none⟩ (.slice none 0 0)).alloc (.cells #[.slice xa xk xc,.slice xa' xk' xc'] 49)).cell? ⟨w.heap.size,1,none⟩=some (.slice none 0 0):=kB9.cell 1;go_wp2_with fail
  go_region
  all_goals
   go_wp2_with fail;refine bodyPost_ret (v:=.tuple #[.agg #[.slice none 0 0,.slice none 0 0],.int .i64 (n:Int),.int .i64 (a:Int)]) (by simp[results,Tryz.results17,go_sem,y0,y1]) rfl ?_;refine⟨_,_,sg1,n,a,rfl,?_,?_⟩
   ·first
     | exact (((M1.new (Nat.le_refl _) _ _).new (Nat.le_refl _) _ _).alloc _).drew
     | exact (((M1.alloc _).new (Nat.le_refl _) _ _).new (Nat.le_refl _) _ _).drew
     | exact (((M1.alloc _).drew).new (Nat.le_refl _) _ _).new (Nat.le_refl _) _ _
     | exact (((M1.new (Nat.le_refl _) _ _).new (Nat.le_refl _) _ _).drew).alloc _
   ·rw[HR.out];exact⟨rfl,rfl,rfl,rfl⟩
 | ok x =>
  obtain⟨g,ts'⟩:=x;obtain⟨v1,sg1,sl1,rfl,m1,x1,hr1,vL,vR,rfl,hg⟩:=he.ok hr;have HR:Hid (rread s=.ok (g,ts')):=hr;clear hr he R;obtain⟨la,lk,lc,rfl⟩:=Seq.form hg.1;obtain⟨ra,rk,rc,rfl⟩:=Seq.form hg.2;have kB1:=kB.mv m1 (by omega) (by simp[Value.ownBlock]);have M1:=M0.trans (Nx.refl _ _) m1;have c4:w1.cell? ⟨w.heap.size+1+1,4,none⟩=some (.int .i64 0):=hr1.blk.cell 4;have lq:=hr1.lt;have e0:w1.cell? ⟨w.heap.size,0,none⟩=some (.slice none 0 0):=kB1.cell 0;have e1:w1.cell? ⟨w.heap.size,1,none⟩=some (.slice none 0 0):=kB1.cell 1;have ff:∀ i,w1.frozen? ⟨w.heap.size,i,none⟩=false:=kB1.frozen;have lB:w.heap.size<w1.heap.size:=by have:=m1.size;rw[hu]at this;omega
  have kB9:=((kB1.set 0 (.slice la lk lc)).set 1 (.slice ra rk rc)).alloc (.cells #[.slice la lk lc,.slice ra rk rc] 49);have z0:(((w1.setCell ⟨w.heap.size,0,none⟩ (.slice la lk lc)).setCell ⟨w.heap.size,1,none⟩ (.slice ra rk rc)).alloc (.cells #[.slice la lk lc,.slice ra rk rc] 49)).cell? ⟨w.heap.size,0,none⟩=some (.slice la lk lc):=kB9.cell 0;have z1:(((w1.setCell ⟨w.heap.size,0,none⟩ (.slice la lk lc)).setCell ⟨w.heap.size,1,none⟩ (.slice ra rk rc)).alloc (.cells #[.slice la lk lc,.slice ra rk rc] 49)).cell? ⟨w.heap.size,1,none⟩=some (.slice ra rk rc):=kB9.cell 1;go_wp2_with fail;refine bodyPost_ret (v:=.tuple #[.agg #[.slice la lk lc,.slice ra rk rc],.int .i64 0,.int .i64 0]) (by simp[results,Tryz.results17,go_sem,z0,z1]) rfl ?_;refine⟨_,_,sg1,0,0,rfl,((M1.new (Nat.le_refl _) _ _).new (Nat.le_refl _) _ _).alloc _,?_⟩;rw[HR.out];refine⟨rfl,rfl,?_,?_⟩
  ·refine Seq.move hg.1 (fun b hb=>?_) (fun b hb=>⟨by have:=hb.1;omega,by have:=hb.2.1;simp[World.setCell];omega,hb.2.2⟩) (fun v x hk=>lv_movable _ _ _ _ v x (fun b hb=>?_) (fun b hb=>⟨by have:=hb.1;omega,by have:=hb.2.1;simp[World.setCell];omega,hb.2.2⟩) hk)
   all_goals
    have hbb:b≠w.heap.size:=by have:=hb.1;omega
    rw[Below.heap_alloc _ _ _ (by have:=hb.2.1;simpa [World.setCell]using this),Below.heap_setCell _ _ _ _ hbb,Below.heap_setCell _ _ _ _ hbb]
  ·refine Seq.move hg.2 (fun b hb=>?_) (fun b hb=>⟨by have:=hb.1;omega,by have:=hb.2.1;simp[World.setCell];omega,hb.2.2⟩) (fun v x hk=>rule_movable YR 9 _ _ _ _ v x (fun b hb=>?_) (fun b hb=>⟨by have:=hb.1;omega,by have:=hb.2.1;simp[World.setCell];omega,hb.2.2⟩) hk)
   all_goals
    have hbb:b≠w.heap.size:=by have:=hb.1;omega
    rw[Below.heap_alloc _ _ _ (by have:=hb.2.1;simpa [World.setCell]using this),Below.heap_setCell _ _ _ _ hbb,Below.heap_setCell _ _ _ _ hbb]
end
section
open Go.RowKit
open Tr
theorem rread_ok {s:ByteArray}{g:Lx.Gr}{ts:List Lx.Tk}(h:rread s=.ok (g,ts)):Lx.parse s=.ok g:=by
 unfold rread at h;unfold Lx.parse
 split at h
 ·cases h
 ·rename_i h1
  rw[if_neg h1,h]
theorem rread_err {s:ByteArray}{e:Nat × Nat}(h:rread s=.error e):Lx.parse s=.error e:=by
 unfold rread at h;unfold Lx.parse
 split at h
 ·rename_i h1;rw[if_pos h1];cases h;rfl
 ·rename_i h1
  rw[if_neg h1,h]
def DMakeEnds (s:ByteArray)(w:World)(e:Ending)(w':World):Prop :=
 ∃ v,∃ n a:Nat,e=.returned (.tuple #[v,.int .i64 (n:Int),.int .i64 (a:Int)])/\Below w.heap.size w w'/\(∀ g,Lx.mkR s=.ok g->n=0/\a=0/\PlIn w' v (Lx.tokG g) (Lx.namG g) (Lx.prodG g) ((Lx.tokG g).map fun t=>(Lx.bkOf g t).1) ((Lx.tokG g).map fun t=>(Lx.bkOf g t).2))/\(∀ x,Lx.mkR s=.error x->n=x.1/\a=x.2/\v=.agg #[.slice none 0 0,.slice none 0 0,.slice none 0 0,.slice none 0 0,.slice none 0 0])
theorem _root_.Go.RowKit.Below.put5 {B:Nat}{a w:World}(h:Below B a w){r:Nat}(hr:B<=r)(x0 x1 x2 x3 x4:Value):Below B a (((((w.setCell ⟨r,0,none⟩ x0).setCell ⟨r,1,none⟩ x1).setCell ⟨r,2,none⟩ x2).setCell ⟨r,3,none⟩ x3).setCell ⟨r,4,none⟩ x4) :=
 ((((h.setCell (p:=⟨r,0,none⟩) hr x0).setCell (p:=⟨r,1,none⟩) hr x1).setCell (p:=⟨r,2,none⟩) hr x2).setCell (p:=⟨r,3,none⟩) hr x3).setCell (p:=⟨r,4,none⟩) hr x4
theorem put5_keep (w:World)(r:Nat)(x0 x1 x2 x3 x4:Value)(o:Obj)(g:Nat)(hl:g<w.heap.size)(hn:g≠r):((((((w.setCell ⟨r,0,none⟩ x0).setCell ⟨r,1,none⟩ x1).setCell ⟨r,2,none⟩ x2).setCell ⟨r,3,none⟩ x3).setCell ⟨r,4,none⟩ x4).alloc o).heap[g]?=w.heap[g]?:=by
 rw[Below.heap_alloc _ _ _ (by simp[World.setCell];exact hl),Below.heap_setCell _ _ _ _ hn,Below.heap_setCell _ _ _ _ hn,Below.heap_setCell _ _ _ _ hn,Below.heap_setCell _ _ _ _ hn,Below.heap_setCell _ _ _ _ hn]
theorem mv_below {q:Nat}{w w':World}(h:Mv q (.slice none 0 0) w w')(hq:w.heap.size<=q):Below w.heap.size w w':=⟨h.os,h.tape,h.output,h.size,fun k hk=>h.block k hk (by omega) (by simp[Value.ownBlock])⟩
theorem DG.fit {F:Nat->Prop}{w:World}{vL vR:Value}{g:Lx.Gr}(h:DG F w vL vR g){s:ByteArray}(hp:Lx.parse s=.ok g)(hc:(Lx.chk g).1=0):Lx.Fit g:=by
 obtain⟨h1,h2,h3⟩:=Lx.parse_is hp;obtain⟨h4,h5⟩:=Lx.parse_took hp;have h6:=Lx.chk_zero hc;refine⟨h1,h2,h3,fun r hr=>?_,h4,h5,h6.2,h6.1⟩;obtain⟨i,hi,rfl⟩:=List.mem_iff_getElem.1 hr;obtain⟨_,_,_,-,-,hA,-⟩:=h.rule hi;exact altsIn_dp hA
theorem docMake_any (s:ByteArray)(w:World):Calls Tryz.prog 10 #[.string s] w (DMakeEnds s w):=by
 go_enter Tryz.func10,Tryz.ntmps10;go_wp2_with fail;obtain⟨W,hW⟩:∃ W,W=w.alloc (.cells #[.slice none 0 0,.slice none 0 0,.slice none 0 0,.slice none 0 0,.slice none 0 0] 32):=⟨_,rfl⟩;rw[<-hW];have kR:Blk W w.heap.size #[.slice none 0 0,.slice none 0 0,.slice none 0 0,.slice none 0 0,.slice none 0 0] 32:=by rw[hW];exact Blk.new w _ 32
 have hB:Below w.heap.size w W:=by rw[hW];exact (Below.refl _ _).alloc (Nat.le_refl _) _
 have hWs:W.heap.size=w.heap.size+1:=by rw[hW];simp
 clear hW;refine (rparse_any s W).mono ?_;intro e w1 he;obtain⟨vL,vR,sgx,n,a,rfl,hMv,hm⟩:=he;have hb1:=mv_below hMv (by omega);clear hMv;have hs1:=hb1.size;have hbw1:Below w.heap.size w w1:=hB.trans (hb1.mono (by omega));have kR1:Blk w1 w.heap.size _ 32:=(hb1.block _ (by omega)).trans kR;cases hr:rread s with
 | error x =>
  rw[hr]at hm;obtain⟨m,b⟩:=x;obtain⟨rfl,rfl,rfl,rfl⟩:=hm;have hpe:=rread_err hr;have hpos:=Lx.parse_pos hpe;have HE:Hid (Lx.mkR s=.error (n,a)):=Lx.mkR_err hpe;have hnb:((n:Int) == 0)=false:=beq_eq_false_iff_ne.2 (by omega);have hnn:((n:Int) != 0)=true:=bne_iff_ne.2 (by omega);have hnd:¬ (n:Int)=0:=by omega
  have r0:w1.cell? ⟨w.heap.size,0,none⟩=some (.slice none 0 0):=kR1.cell 0;have r1:w1.cell? ⟨w.heap.size,1,none⟩=some (.slice none 0 0):=kR1.cell 1;have r2:w1.cell? ⟨w.heap.size,2,none⟩=some (.slice none 0 0):=kR1.cell 2;have r3:w1.cell? ⟨w.heap.size,3,none⟩=some (.slice none 0 0):=kR1.cell 3;have r4:w1.cell? ⟨w.heap.size,4,none⟩=some (.slice none 0 0):=kR1.cell 4;have rf:∀ i,w1.frozen? ⟨w.heap.size,i,none⟩=false:=kR1.frozen;have lr:w.heap.size<w1.heap.size:=kR1.lt;clear hr hpe hpos;go_wp2_with fail;have kF:=((((((kR1.set 0 (.slice none 0 0)).set 1 (.slice none 0 0)).set 2 (.slice none 0 0)).set 3 (.slice none 0 0)).set 4 (.slice none 0 0)).alloc (.cells #[.slice none 0 0,.slice none 0 0] 49));have s0:=kF.cell 0;have s1:=kF.cell 1;have s2:=kF.cell 2;have s3:=kF.cell 3;have s4:=kF.cell 4;simp at s0 s1 s2 s3 s4;refine bodyPost_ret (v:=.tuple #[.agg #[.slice none 0 0,.slice none 0 0,.slice none 0 0,.slice none 0 0,.slice none 0 0],.int .i64 (n:Int),.int .i64 (a:Int)]) (by simp[results,Tryz.results10,go_sem,s0,s1,s2,s3,s4]) rfl ⟨_,n,a,rfl,?_,?_,?_⟩
  ·exact ((hbw1.put5 (Nat.le_refl _) _ _ _ _ _)).alloc (by simp;omega) _
  ·intro g hg;rw[HE.out]at hg;cases hg
  ·intro x hx;rw[HE.out]at hx;cases hx;exact⟨rfl,rfl,rfl⟩
 | ok x =>
  obtain⟨g,ts⟩:=x;rw[hr]at hm;obtain⟨rfl,rfl,hgi⟩:=hm;have hpe:=rread_ok hr;have hd1:DG (Fp W.heap.size sgx w1) w1 vL vR g:=⟨fun b hb=>hb.2.1,hgi.1,hgi.2⟩;clear hr hgi;obtain⟨la,lc,hvL,-⟩:=hd1.lenL;obtain⟨ra,rc,hvR,-⟩:=hd1.lenR;subst hvL hvR;have hsz:=(Lx.parse_took hpe).1;have hne:=(Lx.parse_is hpe).2.2;have hlw:=Lx.lvWords_len g;have hrl:g.rules.length<=Lx.sizeG g.rules:=Lx.len_sum (fun r:Lx.Rl=>1+Lx.sizeA 9 r.alts) fun _ _=>by omega
  generalize Fp W.heap.size sgx w1=F at hd1;have ha1:Below w1.heap.size w1 (w1.alloc (.cells #[.slice la g.levels.length lc,.slice ra g.rules.length rc] 49)):=(Below.refl _ _).alloc (Nat.le_refl _) _;have hq:=docCheck_any (hd1.below ha1) (by omega) (by omega) hne;go_wp2_with fail;refine hq.mono ?_;rintro e w2 ⟨rfl,hb2⟩;have kg2:Blk w2 w1.heap.size #[.slice la g.levels.length lc,.slice ra g.rules.length rc] 49:=(hb2.block _ (by simp)).trans (Blk.new w1 _ 49);have hb12:Below w1.heap.size w1 w2:=ha1.trans (hb2.mono (by simp));have hs2:=hb12.size;have hd2:=hd1.below hb12;have hbw2:Below w.heap.size w w2:=hbw1.trans (hb12.mono (by omega));have kR2:Blk w2 w.heap.size _ 32:=(hb12.block _ (by omega)).trans kR1;clear hq ha1 hd1;unfold prV
  by_cases hc:(Lx.chk g).1=0
  ·have hf:=hd2.fit hpe hc
   have hcb:(((Lx.chk g).1:Int) == 0)=true:=by simp[hc]
   have hcn:(((Lx.chk g).1:Int) != 0)=false:=by simp[hc]
   have HC:Hid ((Lx.chk g).1=0):=hc;clear hc;generalize hce:Lx.chk g=cr at hcb hcn;clear hce;have ha2:Below w2.heap.size w2 (w2.alloc (.cells #[.int .i64 (cr.1:Int),.int .i64 (cr.2:Int)] 74)):=(Below.refl _ _).alloc (Nat.le_refl _) _;have hq:=docOf_any (hd2.below ha2) hf;have c20:w2.cell? ⟨w1.heap.size,0,none⟩=some (.slice la g.levels.length lc):=kg2.cell 0;have c21:w2.cell? ⟨w1.heap.size,1,none⟩=some (.slice ra g.rules.length rc):=kg2.cell 1;have lg2:w1.heap.size<w2.heap.size:=kg2.lt;go_wp2_with fail;refine hq.mono ?_;rintro e w3 ⟨v,rfl,hpl,hb3⟩;have hb23:Below w2.heap.size w2 w3:=ha2.trans (hb3.mono (by simp));have hs3:=hb23.size;have hbw3:Below w.heap.size w w3:=hbw2.trans (hb23.mono (by omega));have kR3:Blk w3 w.heap.size _ 32:=(hb23.block _ (by omega)).trans kR2;obtain⟨vT,vN,vP,vB,vK,rfl,z2,z3,z4,z5,z6⟩:=hpl;obtain⟨ps,p1,p2,p3⟩:=z4;obtain⟨xa0,xc0,hx0,-⟩:=own_len z2;obtain⟨xa1,xc1,hx1,-⟩:=own_len z3;obtain⟨xa2,xc2,hx2,hm2⟩:=own_len p2;obtain⟨xa3,xc3,hx3,-⟩:=own_len z5;obtain⟨xa4,xc4,hx4,-⟩:=own_len z6;subst hx0 hx1 hx2 hx3 hx4;unfold maxLen at hm2;have r0:w3.cell? ⟨w.heap.size,0,none⟩=some (.slice none 0 0):=kR3.cell 0;have r1:w3.cell? ⟨w.heap.size,1,none⟩=some (.slice none 0 0):=kR3.cell 1;have r2:w3.cell? ⟨w.heap.size,2,none⟩=some (.slice none 0 0):=kR3.cell 2;have r3:w3.cell? ⟨w.heap.size,3,none⟩=some (.slice none 0 0):=kR3.cell 3;have r4:w3.cell? ⟨w.heap.size,4,none⟩=some (.slice none 0 0):=kR3.cell 4;have rf:∀ i,w3.frozen? ⟨w.heap.size,i,none⟩=false:=kR3.frozen;have lr:w.heap.size<w3.heap.size:=kR3.lt
   have nR:∀ {e s:Nat} {v:Value} {n:Nat} {xs:List Value},w3.ownsRow 0 e s v n xs->e≠32->∀ g,v.ownBlock=some g->g≠w.heap.size:=by
    intro e s v n xs ho he g hg eg;rcases ho.2 with ⟨rfl,-⟩ | ⟨g',cap,cur,rfl,-,hh,-⟩
    ·cases hg
    ·have e1:g'=g:=Option.some.inj hg
     have hh2:w3.heap[w.heap.size]?=some (.cells cur e (0,0)):=by rw[<-eg,<-e1];exact hh
     have kRx:=kR3;unfold Blk at kRx;rw[hh2]at kRx;have e2:=Option.some.inj kRx;injection e2 with _ e3
     exact he e3
   by_cases hmany:200<(Lx.prodG g).length
   ·have HE:Hid (Lx.mkR s=.error (8,0)):=Lx.mkR_many hpe HC.out hmany
    go_wp2_with fail;have kF:=((((((kR3.set 0 (.slice none 0 0)).set 1 (.slice none 0 0)).set 2 (.slice none 0 0)).set 3 (.slice none 0 0)).set 4 (.slice none 0 0)).alloc (.cells #[.slice xa0 (Lx.tokG g).length xc0,.slice xa1 (Lx.namG g).length xc1,.slice xa2 (Lx.prodG g).length xc2,.slice xa3 ((Lx.tokG g).map fun t=>(Lx.bkOf g t).1).length xc3,.slice xa4 ((Lx.tokG g).map fun t=>(Lx.bkOf g t).2).length xc4] 32));have s0:=kF.cell 0;have s1:=kF.cell 1;have s2:=kF.cell 2;have s3:=kF.cell 3;have s4:=kF.cell 4;simp at s0 s1 s2 s3 s4;refine bodyPost_ret (v:=.tuple #[.agg #[.slice none 0 0,.slice none 0 0,.slice none 0 0,.slice none 0 0,.slice none 0 0],.int .i64 8,.int .i64 0]) (by simp[results,Tryz.results10,go_sem,s0,s1,s2,s3,s4]) rfl ⟨_,8,0,rfl,?_,?_,?_⟩
    ·exact ((hbw3.put5 (Nat.le_refl _) _ _ _ _ _)).alloc (by simp;omega) _
    ·intro g hg;rw[HE.out]at hg;cases hg
    ·intro x hx;rw[HE.out]at hx;cases hx;exact⟨rfl,rfl,rfl⟩
   ·have HE:Hid (Lx.mkR s=.ok g):=Lx.mkR_ok hpe HC.out hmany
    go_wp2_with fail;have kF:=((((((kR3.set 0 (.slice xa0 (Lx.tokG g).length xc0)).set 1 (.slice xa1 (Lx.namG g).length xc1)).set 2 (.slice xa2 (Lx.prodG g).length xc2)).set 3 (.slice xa3 ((Lx.tokG g).map fun t=>(Lx.bkOf g t).1).length xc3)).set 4 (.slice xa4 ((Lx.tokG g).map fun t=>(Lx.bkOf g t).2).length xc4)).alloc (.cells #[.slice xa0 (Lx.tokG g).length xc0,.slice xa1 (Lx.namG g).length xc1,.slice xa2 (Lx.prodG g).length xc2,.slice xa3 ((Lx.tokG g).map fun t=>(Lx.bkOf g t).1).length xc3,.slice xa4 ((Lx.tokG g).map fun t=>(Lx.bkOf g t).2).length xc4] 32));have s0:=kF.cell 0;have s1:=kF.cell 1;have s2:=kF.cell 2;have s3:=kF.cell 3;have s4:=kF.cell 4;simp at s0 s1 s2 s3 s4;refine bodyPost_ret (v:=.tuple #[.agg #[.slice xa0 (Lx.tokG g).length xc0,.slice xa1 (Lx.namG g).length xc1,.slice xa2 (Lx.prodG g).length xc2,.slice xa3 ((Lx.tokG g).map fun t=>(Lx.bkOf g t).1).length xc3,.slice xa4 ((Lx.tokG g).map fun t=>(Lx.bkOf g t).2).length xc4],.int .i64 0,.int .i64 0]) (by simp[results,Tryz.results10,go_sem,s0,s1,s2,s3,s4]) rfl ⟨_,0,0,rfl,?_,?_,?_⟩
    ·exact ((hbw3.put5 (Nat.le_refl _) _ _ _ _ _)).alloc (by simp;omega) _
    ·intro g' hg
     rw[HE.out]at hg;cases hg;exact⟨rfl,rfl,_,_,_,_,_,rfl,own_move z2 fun g hg=>put5_keep w3 w.heap.size _ _ _ _ _ _ g (z2.lt g hg).2 (nR z2 (by decide) g hg),own_move z3 fun g hg=>put5_keep w3 w.heap.size _ _ _ _ _ _ g (z3.lt g hg).2 (nR z3 (by decide) g hg),⟨ps,p1,own_move p2 fun g hg=>put5_keep w3 w.heap.size _ _ _ _ _ _ g (p2.lt g hg).2 (nR p2 (by decide) g hg),fun q hq=>⟨own_move (p3 q hq).1 fun g hg=>put5_keep w3 w.heap.size _ _ _ _ _ _ g ((p3 q hq).1.lt g hg).2 (nR (p3 q hq).1 (by decide) g hg),fun _ _=>trivial⟩⟩,own_move z5 fun g hg=>put5_keep w3 w.heap.size _ _ _ _ _ _ g (z5.lt g hg).2 (nR z5 (by decide) g hg),own_move z6 fun g hg=>put5_keep w3 w.heap.size _ _ _ _ _ _ g (z6.lt g hg).2 (nR z6 (by decide) g hg)⟩
    ·intro x hx;rw[HE.out]at hx;cases hx
  ·have HE:Hid (Lx.mkR s=.error (Lx.chk g)):=Lx.mkR_chk hpe hc
   have hcb:(((Lx.chk g).1:Int) == 0)=false:=beq_eq_false_iff_ne.2 (by omega);have hcn:(((Lx.chk g).1:Int) != 0)=true:=bne_iff_ne.2 (by omega);have hcd:¬ ((Lx.chk g).1:Int)=0:=by omega
   clear hc;generalize Lx.chk g=cr at HE hcb hcn hcd;have r0:w2.cell? ⟨w.heap.size,0,none⟩=some (.slice none 0 0):=kR2.cell 0;have r1:w2.cell? ⟨w.heap.size,1,none⟩=some (.slice none 0 0):=kR2.cell 1;have r2:w2.cell? ⟨w.heap.size,2,none⟩=some (.slice none 0 0):=kR2.cell 2;have r3:w2.cell? ⟨w.heap.size,3,none⟩=some (.slice none 0 0):=kR2.cell 3;have r4:w2.cell? ⟨w.heap.size,4,none⟩=some (.slice none 0 0):=kR2.cell 4;have rf:∀ i,w2.frozen? ⟨w.heap.size,i,none⟩=false:=kR2.frozen;have lr:w.heap.size<w2.heap.size:=kR2.lt;go_wp2_with fail
   go_region
   all_goals
    have kF:=((((((kR2.set 0 (.slice none 0 0)).set 1 (.slice none 0 0)).set 2 (.slice none 0 0)).set 3 (.slice none 0 0)).set 4 (.slice none 0 0)).alloc (.cells #[.int .i64 (cr.1:Int),.int .i64 (cr.2:Int)] 74)).drew;have s0:=kF.cell 0;have s1:=kF.cell 1;have s2:=kF.cell 2;have s3:=kF.cell 3;have s4:=kF.cell 4;simp at s0 s1 s2 s3 s4;go_wp2_with fail;refine bodyPost_ret (v:=.tuple #[.agg #[.slice none 0 0,.slice none 0 0,.slice none 0 0,.slice none 0 0,.slice none 0 0],.int .i64 (cr.1:Int),.int .i64 (cr.2:Int)]) (by simp[results,Tryz.results10,go_sem,s0,s1,s2,s3,s4]) rfl ⟨_,cr.1,cr.2,rfl,?_,?_,?_⟩
    ·exact (((hbw2.put5 (Nat.le_refl _) _ _ _ _ _)).alloc (by simp;omega) _).drew
    ·intro g hg;rw[HE.out]at hg;cases hg
    ·intro x hx;rw[HE.out]at hx;cases hx;exact⟨rfl,rfl,rfl⟩
end
section
open Go.RowKit
open Tr
theorem Lx.mkR_inv {s:ByteArray}{g:Lx.Gr}(h:Lx.mkR s=.ok g):Lx.parse s=.ok g/\(Lx.chk g).1=0/\(Lx.prodG g).length<=200:=by
 cases hp:Lx.parse s with
 | error e=>rw[Lx.mkR_err hp]at h;cases h
 | ok g' =>
  by_cases hc:(Lx.chk g').1=0
  ·by_cases hm:200<(Lx.prodG g').length
   ·rw[Lx.mkR_many hp hc hm]at h;cases h
   ·rw[Lx.mkR_ok hp hc hm]at h;cases h;exact⟨rfl,hc,by omega⟩
  ·rw[Lx.mkR_chk hp hc]at h;cases h
theorem fit_any {s:ByteArray}{g:Lx.Gr}(w:World)(h:Lx.mkR s=.ok g):Lx.Fit g:=by
 obtain⟨hp,hc,-⟩:=Lx.mkR_inv h;obtain⟨e,w1,-,⟨vL,vR,sgx,n,a,-,-,hm⟩,-⟩:=rparse_any s w [];cases hr:rread s with
 | error x=>have:=rread_err hr;rw[hp]at this;cases this
 | ok x =>
  obtain⟨g',ts⟩:=x;rw[hr]at hm;obtain⟨-,-,hgi⟩:=hm;have:=rread_ok hr;rw[hp]at this;cases this;have hd1:DG (Fp w.heap.size sgx w1) w1 vL vR g:=⟨fun b hb=>hb.2.1,hgi.1,hgi.2⟩;exact hd1.fit hp hc
end
section
open Go Go.RowKit
namespace Lx
def phiL:List UInt8->List UInt8
 | []=>[]
 | c::r=>if small (bt c)=true then 122::c::r else if capital (bt c)=true then 90::c::r else c::r
theorem phiL_cons (c:UInt8)(r:List UInt8):phiL (c::r)=if small (bt c)=true then 122::c::r else if capital (bt c)=true then 90::c::r else c::r:=rfl
def phi (b:ByteArray):ByteArray:=⟨(phiL (bytes b)).toArray⟩
theorem bytes_phi (b:ByteArray):bytes (phi b)=phiL (bytes b):=rfl
theorem bytes_inj {a b:ByteArray}(h:bytes a=bytes b):a=b:=by
 cases a;cases b;unfold bytes at h;simp at h;subst h;rfl
theorem phiL_inj:∀ {l m:List UInt8},phiL l=phiL m->l=m:=by
 have hz:small (bt 122)=true:=by decide
 have hZ:small (bt 90)=false:=by decide
 have hY:capital (bt 90)=true:=by decide
 have key:∀ {c d:UInt8} {r q:List UInt8},phiL (c::r)=phiL (d::q)->c::r=d::q:=by
  intro c d r q h;rw[phiL_cons,phiL_cons]at h
  split at h
  ·split at h
   ·exact (List.cons.inj h).2
   ·split at h
    ·have:=(List.cons.inj h).1;exact absurd this (by decide)
    ·rename_i h1 h2 _
     have:=(List.cons.inj h).1;subst this;exact absurd hz h2
  ·split at h
   ·split at h
    ·have:=(List.cons.inj h).1;exact absurd this (by decide)
    ·split at h
     ·exact (List.cons.inj h).2
     ·rename_i h2 h3
      have:=(List.cons.inj h).1;subst this;exact absurd hY h3
   ·split at h
    ·rename_i h1 _ _
     have:=(List.cons.inj h).1;subst this;exact absurd hz h1
    ·split at h
     ·rename_i h2 _ _
      have:=(List.cons.inj h).1;subst this;exact absurd hY h2
     ·exact h
 intro l m h;cases l with
 | nil =>
  cases m with
  | nil=>rfl
  | cons d q=>rw[phiL_cons]at h;split at h;cases h;split at h <;> cases h
 | cons c r =>
  cases m with
  | nil=>rw[phiL_cons]at h;split at h;cases h;split at h <;> cases h
  | cons d q=>exact key h
theorem phi_inj (a b:ByteArray)(h:phi a=phi b):a=b:=bytes_inj (phiL_inj (by rw[<-bytes_phi,<-bytes_phi,h]))
theorem phiL_app {l:List UInt8}(h:l≠[])(t:List UInt8):phiL (l++t)=phiL l++t:=by
 cases l with
 | nil=>exact absurd rfl h
 | cons c r =>
  rw[List.cons_append,phiL_cons,phiL_cons]
  split
  ·rfl
  ·split <;> rfl
theorem phi_tick (b:ByteArray)(k:Nat)(h:isName b=true):phi (hName b k)=hName (phi b) k:=by
 have hn:bytes b≠[]:=fun e=>by
  have:b.size=0:=by rw[<-bytes_len,e];rfl
  unfold isName isWord at h;simp only[Bool.and_eq_true,decide_eq_true_eq]at h;omega
 apply bytes_inj;rw[bytes_phi];have e:∀ x:ByteArray,bytes (hName x k)=bytes x++(bytes tTick++bytes (decB k)):=fun x=>by
  unfold hName bytes;simp
 rw[e,e,phiL_app hn,bytes_phi]
theorem phi_ren:Ren phi:=⟨phi_inj,rfl,by decide,by decide,phi_tick⟩
theorem phi_fx:Fx phi:=⟨phi_ren,by decide,by decide,by decide,by decide,by decide,by decide,by decide,by decide,by decide,by decide,by decide,by decide⟩
theorem isWord_L (p:Int->Bool) (b:ByteArray):isWord p b=match bytes b with
  | []=>false
  | c::r=>decide (r.length<=11) && (p (bt c) && (c::r).all fun c=>p (bt c) || digit (bt c)):=by
 unfold isWord allOf;have hl:=bytes_len b;cases hb:bytes b with
 | nil=>rw[hb]at hl;simp at hl;simp[<-hl]
 | cons c r =>
  rw[hb]at hl;have h0:byteAt b 0=bt c:=by
   unfold byteAt bt;have:b.data.toList=c::r:=hb;simp[Array.getD_eq_getD_getElem?,<-Array.getElem?_toList,this]
  have h1:b.data.toList=c::r:=hb;rw[h0,h1];simp only[List.length_cons]at hl;have e1:decide (0<b.size)=true:=by simp;omega
  have e2:decide (b.size<=12)=decide (r.length<=11):=by simp;omega
  rw[e1,e2,Bool.true_and,Bool.and_assoc];rfl
theorem small_cap {c:Int}(h:small c=true):capital c=false:=by
 unfold small at h;unfold capital;simp only[decide_eq_true_eq,decide_eq_false_iff_not]at *;omega
theorem keep_word {b:ByteArray}(h:isName b=true∨isToken b=true->b.size<=11):isName (phi b)=isName b/\isToken (phi b)=isToken b:=by
 have hl:=bytes_len b;unfold isName isToken at *;rw[isWord_L small b,isWord_L capital b]at h;rw[isWord_L,isWord_L,isWord_L,isWord_L,bytes_phi];cases hb:bytes b with
 | nil=>exact⟨rfl,rfl⟩
 | cons c r =>
  rw[hb]at hl h;simp only[List.length_cons]at hl;rw[phiL_cons];cases hs:small (bt c) with
  | true =>
   have hc:=small_cap hs;have z1:small (bt 122)=true:=by decide
   have z2:capital (bt 122)=false:=by decide
   simp only[hs,hc,if_pos,z1,z2,List.all_cons,Bool.true_and,Bool.false_and,Bool.and_false,Bool.true_or,and_true];simp only[hs,hc,List.all_cons,Bool.true_or,Bool.true_and,Bool.false_and,Bool.and_false,or_false,Bool.false_eq_true]at h;rw[List.length_cons]
   by_cases ha:(r.all fun c=>small (bt c) || digit (bt c))=true
   ·rw[ha,Bool.and_true,Bool.and_true]
    by_cases hr:r.length<=11
    ·have:=h (by rw[ha];simp[hr])
     simp[hr];omega
    ·simp[hr];omega
   ·simp only[Bool.not_eq_true]at ha
    rw[ha,Bool.and_false,Bool.and_false]
  | false =>
   cases hc:capital (bt c) with
   | true =>
    have z1:small (bt 90)=false:=by decide
    have z2:capital (bt 90)=true:=by decide
    simp only[hs,hc,if_pos,z1,z2,List.all_cons,Bool.true_and,Bool.false_and,Bool.and_false,Bool.true_or,Bool.false_eq_true,if_false,true_and];simp only[hs,hc,List.all_cons,Bool.true_or,Bool.true_and,Bool.false_and,Bool.and_false,false_or,Bool.false_eq_true]at h;rw[List.length_cons]
    by_cases ha:(r.all fun c=>capital (bt c) || digit (bt c))=true
    ·rw[ha,Bool.and_true,Bool.and_true]
     by_cases hr:r.length<=11
     ·have:=h (by rw[ha];simp[hr])
      simp[hr];omega
     ·simp[hr];omega
    ·simp only[Bool.not_eq_true]at ha
     rw[ha,Bool.and_false,Bool.and_false]
   | false=>simp[hs,hc]
def inB (c:UInt8):Bool:=wcB c || decide (bt c=37)
def insB (w:Bool)(c:UInt8):List UInt8:=if inB c=true/\w=false/\small (bt c)=true then [122] else if inB c=true/\w=false/\capital (bt c)=true then [90] else []
def renL:Bool->List UInt8->List UInt8
 | _,[]=>[]
 | w,c::r=>insB w c++(c::renL (inB c) r)
theorem ren_word:∀ (r t:List UInt8),(∀ x∈r,inB x=true)->renL true (r++t)=r++renL true t
 | [],_,_=>rfl
 | x::r,t,h=>by
  rw[List.cons_append,renL,h x List.mem_cons_self,ren_word r t fun y hy=>h y (List.mem_cons_of_mem _ hy)];unfold insB;rw[if_neg (fun h=>by cases h.2.1),if_neg (fun h=>by cases h.2.1)];rfl
theorem ren_stop {t:List UInt8}(h:t=[]∨∃ x r,t=x::r/\inB x=false)(w:Bool):renL w t=renL false t:=by
 rcases h with rfl | ⟨x,r,rfl,hx⟩
 ·rfl
 ·rw[renL,renL]
  unfold insB;rw[if_neg (fun h=>by rw[hx]at h;cases h.1),if_neg (fun h=>by rw[hx]at h;cases h.1),if_neg (fun h=>by rw[hx]at h;cases h.1),if_neg (fun h=>by rw[hx]at h;cases h.1)]
theorem ren_out {x:UInt8}(hx:inB x=false)(r:List UInt8):renL false (x::r)=x::renL false r:=by
 rw[renL,hx];unfold insB;rw[if_neg (fun h=>by rw[hx]at h;cases h.1),if_neg (fun h=>by rw[hx]at h;cases h.1)];rfl
theorem wc_small {c:UInt8}(h:small (bt c)=true):wcB c=true:=by unfold wcB wordB;rw[h];rfl
theorem wc_cap {c:UInt8}(h:capital (bt c)=true):wcB c=true:=by unfold wcB wordB;rw[h];simp
theorem ren_sig {w t:List UInt8}(h:Sig w)(hs:(∃ c r,w=c::r/\inB c=true)->t=[]∨∃ x r,t=x::r/\inB x=false):renL false (w++t)=phiL w++renL false t:=by
 cases w with
 | nil=>exact h.elim
 | cons c r =>
  obtain⟨-,hr⟩:=h;cases hc:inB c with
  | true =>
   have hr':∀ x∈r,wcB x=true:=by
    rw[if_pos (by unfold inB at hc;simp only[Bool.or_eq_true,decide_eq_true_eq]at hc;exact hc.symm)]at hr;exact hr
   rw[List.cons_append,renL,hc,ren_word r t fun x hx=>by unfold inB;rw[hr' x hx];rfl,ren_stop (hs ⟨c,r,rfl,hc⟩) true];rw[phiL_cons];unfold insB;rw[hc]
   by_cases h1:small (bt c)=true
   ·rw[if_pos ⟨rfl,rfl,h1⟩,if_pos h1];rfl
   ·rw[if_neg (fun h=>h1 h.2.2),if_neg h1]
    by_cases h2:capital (bt c)=true
    ·rw[if_pos ⟨rfl,rfl,h2⟩,if_pos h2];rfl
    ·rw[if_neg (fun h=>h2 h.2.2),if_neg h2];rfl
  | false =>
   have hcc:¬ (bt c=37∨wcB c=true):=by
    unfold inB at hc;simp only[Bool.or_eq_false_iff,decide_eq_false_iff_not]at hc;rintro (h | h)
    ·exact hc.2 h
    ·rw[hc.1]at h;cases h
   rw[if_neg hcc]at hr;subst hr;rw[List.cons_append,List.nil_append,ren_out hc,phiL_cons];rw[if_neg (fun h=>hcc (.inr (wc_small h))),if_neg (fun h=>hcc (.inr (wc_cap h)))];rfl
theorem sig_phi {w:List UInt8}(h:Sig w):Sig (phiL w):=by
 cases w with
 | nil=>exact h.elim
 | cons c r =>
  obtain⟨h1,h2⟩:=h;rw[phiL_cons];have all:wcB c=true->∀ x∈c::r,wcB x=true:=fun hc x hx=>by
   rw[if_pos (.inr hc)]at h2;rcases List.mem_cons.1 hx with rfl | hx
   ·exact hc
   ·exact h2 x hx
  split
  ·rename_i hs
   exact⟨by unfold ngap;decide,by rw[if_pos (.inr (by decide))];exact all (wc_small hs)⟩
  ·split
   ·rename_i hs
    exact⟨by unfold ngap;decide,by rw[if_pos (.inr (by decide))];exact all (wc_cap hs)⟩
   ·exact⟨h1,h2⟩
theorem text_is {a:ByteArray}{t:List UInt8}:(a.toList == t)=true↔a=⟨t.toArray⟩:=by
 constructor
 ·exact text_eq
 ·intro h
  rw[h];have:(⟨t.toArray⟩:ByteArray).toList=t:=by rw[ByteArray.toList_eq]
  rw[this];simp
theorem phi_text {t:List UInt8}(ht:phi ⟨t.toArray⟩=⟨t.toArray⟩)(a:ByteArray):((phi a).toList == t)=(a.toList == t):=by
 rw[Bool.eq_iff_iff,text_is,text_is];exact⟨fun h=>phi_inj _ _ (h.trans ht.symm),fun h=>by rw[h];exact ht⟩
theorem gap_phi (l r:ByteArray):gapOf (phi l) (phi r)=gapOf l r:=by
 unfold gapOf;rw[phi_text (t:=[59]) (by decide),phi_text (t:=[]) (by decide),phi_text (t:=[40]) (by decide),phi_text (t:=[]) (by decide),phi_text (t:=[59]) (by decide),phi_text (t:=[41]) (by decide),phi_text (t:=[42]) (by decide),phi_text (t:=[43]) (by decide),phi_text (t:=[63]) (by decide)]
def gp0 (b w:ByteArray):List UInt8:=fillOf [10] [32] (gapOf b w)
def fin0 (b:ByteArray):List UInt8:=fillOf [10] [32] (gapOf b noText)++[]
theorem ren_gap (g:ByteArray)(r:List UInt8):renL false (fillOf [10] [32] g++r)=fillOf [10] [32] g++renL false r:=by
 unfold fillOf
 split
 ·exact ren_out (by decide) r
 ·split
  ·exact ren_out (by decide) r
  ·rfl
theorem lay_head {w:ByteArray}(hw:Sig (bytes w))(hin:∃ c r,bytes w=c::r/\inB c=true):∀ {ws:List ByteArray},(∀ x∈ws,Sig (bytes x))->lay gp0 fin0 w ws=[]∨∃ x r,lay gp0 fin0 w ws=x::r/\inB x=false:=by
 intro ws hs;cases ws with
 | nil =>
  show fillOf [10] [32] (gapOf w noText)++[]=[]∨_;unfold lay fin0 fillOf
  split
  ·exact .inr ⟨10,[],rfl,by decide⟩
  ·split
   ·exact .inr ⟨32,[],rfl,by decide⟩
   ·exact .inl rfl
 | cons x ws =>
  unfold lay gp0;rcases gapOf_cases w x with e | e | ⟨e,hx⟩ <;> rw[e]
  ·rw[fill_nl];exact .inr ⟨10,_,rfl,by decide⟩
  ·rw[fill_bl];exact .inr ⟨32,_,rfl,by decide⟩
  ·rw[fill_no]
   obtain⟨c,r,hc,hi⟩:=hin;rcases hx with rfl | rfl | rfl | rfl | rfl | rfl | rfl | rfl
   ·exact absurd hw no_sig
   ·have:(40:UInt8)=c:=by have h2:bytes ⟨#[40]⟩=[40]:=rfl;rw[h2]at hc;exact (List.cons.inj hc).1
    subst this;exact absurd hi (by decide)
   ·exact absurd (hs _ List.mem_cons_self) no_sig
   all_goals exact .inr ⟨_,_,rfl,by decide⟩
theorem ren_lay:∀ (ws:List ByteArray) (b:ByteArray),(∀ x∈ws,Sig (bytes x))->renL false (lay gp0 fin0 b ws)=lay gp0 fin0 (phi b) (ws.map phi)
 | [],b,_=>by
  show renL false (fillOf [10] [32] (gapOf b noText)++[])=fillOf [10] [32] (gapOf (phi b) noText)++[];rw[ren_gap,<-gap_phi b noText,show phi noText=noText from rfl];rfl
 | w::ws,b,h=>by
  have hw:=h w List.mem_cons_self;have hs:∀ x∈ws,Sig (bytes x):=fun x hx=>h x (List.mem_cons_of_mem _ hx)
  rw[List.map_cons];unfold lay;rw[show gp0 b w=fillOf [10] [32] (gapOf b w) from rfl,ren_gap,ren_sig hw (fun hin=>lay_head hw hin hs),ren_lay ws w hs,<-gap_phi b w,bytes_phi];rfl
theorem ren_lex {s t:ByteArray}(ht:bytes t=renL false (bytes (⟨(formL noText (lex s)).toArray⟩:ByteArray))):(lex t).map Prod.fst=((lex s).map Prod.fst).map phi:=by
 obtain⟨ws,e,hw⟩:=lex_signs s;have h1:bytes (⟨(formL noText (lex s)).toArray⟩:ByteArray)=lay gp0 fin0 noText ws:=by
  show formL noText (lex s)=_;rw[formL_B,e,form_lay];rfl
 rw[h1,ren_lay ws noText hw]at ht;have h2:=lex_laid plain_fill (ws:=ws.map phi) (fun x hx=>by
  obtain⟨y,hy,rfl⟩:=List.mem_map.1 hx;rw[bytes_phi];exact sig_phi (hw y hy)) (t:=t) ht
 rw[h2,e,List.map_append];rfl
theorem known_size {b:ByteArray}(h:Known b):b.size<=12:=by
 rcases h with h | h | h
 ·exact name_size h
 ·exact token_size h
 ·revert h b
  decide
theorem ren_parse {s t:ByteArray}{g g':Gr}(hs:parse s=.ok g)(hp:parse t=.ok g')(ht:bytes t=renL false (bytes (⟨(formL noText (lex s)).toArray⟩:ByteArray))):GrRn phi g g':=by
 have e:=ren_lex ht;refine parse_rf phi_fx hs hp ⟨e,fun u hu=>keep_word fun hk=>?_⟩;have hm:phi u.1∈(lex t).map Prod.fst:=by rw[e];exact List.mem_map.2 ⟨u.1,List.mem_map.2 ⟨u,hu,rfl⟩,rfl⟩
 obtain⟨v,hv,hve⟩:=List.mem_map.1 hm;have hne:bytes u.1≠[]:=fun e0=>by
  have h0:u.1.size=0:=by rw[<-bytes_len,e0];rfl
  rcases hk with h | h
  ·unfold isName isWord at h;simp only[Bool.and_eq_true,decide_eq_true_eq]at h;omega
  ·unfold isToken isWord at h;simp only[Bool.and_eq_true,decide_eq_true_eq]at h;omega
 have hsz:(phi u.1).size=u.1.size+1:=by
  rw[<-bytes_len,<-bytes_len,bytes_phi];cases hb:bytes u.1 with
  | nil=>exact absurd hb hne
  | cons c r =>
   rw[phiL_cons];unfold isName isToken at hk;rw[isWord_L,isWord_L,hb]at hk;simp only[Bool.and_eq_true]at hk;rcases hk with h | h
   ·rw[if_pos h.2.1];rfl
   ·split
    ·rfl
    ·rw[if_pos h.2.1];rfl
 rcases parse_known hp v hv with h | h
 ·rw[hve]at h
  rw[h]at hsz;have h0:noText.size=0:=rfl;omega
 ·rw[hve]at h
  have:=known_size h;omega
end Lx
end
end Go.Proofs.YtlcppnabbicmoaaGreatDoor

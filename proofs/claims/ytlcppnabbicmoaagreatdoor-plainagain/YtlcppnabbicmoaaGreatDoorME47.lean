import Derived.Test.YtlcppnabbicmoaaGreatDoorME46
import Derived.Test.YtlcppnabbicmoaaGreatDoorME43
import Derived.Test.YtlcppnabbicmoaaGreatDoorME44
import Derived.Test.YtlcppnabbicmoaaGreatDoorME41
set_option maxHeartbeats 8000000
set_option maxRecDepth 1000000
namespace Go.Proofs.YtlcppnabbicmoaaGreatDoor
section
open Go.RowKit
open Lx (Tk)
open Tr
theorem rread_any (s:ByteArray) (w:World) :
  Calls Tryz.prog 36 #[.string s] w (REnds s (w.heap.size+1) 0 (RVGram w.heap.size (w.heap.size+1)) (XGram (w.heap.size+1)) w (.slice none 0 0) (rread s)):=by
 by_cases h:2000<s.size
 ·exact rread_long s w h
 ·exact rread_short s w h
def RParseEnds (s:ByteArray)(w:World)(e:Ending)(w':World):Prop :=
 ∃ vL vR sgx,∃ n a:Nat,e=.returned (.tuple #[.agg #[vL,vR],.int .i64 (n:Int),.int .i64 (a:Int)])/\Mv (w.heap.size+1+1) (.slice none 0 0) w w' /\
  match rread s with
  | .ok (g,_)=>n=0/\a=0/\RGramIn w.heap.size sgx w' vL vR g
  | .error (m,b)=>n=m/\a=b/\vL=.slice none 0 0/\vR=.slice none 0 0
theorem rparse_any (s:ByteArray)(w:World):Calls Tryz.prog 17 #[.string s] w (RParseEnds s w):=by
 have hu:(w.alloc (.cells #[.slice none 0 0,.slice none 0 0] 49)).heap.size=w.heap.size+1:=by simp
 have R:=rread_any s (w.alloc (.cells #[.slice none 0 0,.slice none 0 0] 49));rw[hu]at R;have kB:=Blk.new w #[.slice none 0 0,.slice none 0 0] 49;have M0:=(Mv.refl (w.heap.size+1+1) (.slice none 0 0) w).alloc (.cells #[.slice none 0 0,.slice none 0 0] 49);go_enter Tryz.func17,Tryz.ntmps17;go_wp2_with fail;refine R.mono ?_;intro e w1 he;cases hr:rread s with
 | error x =>
  obtain⟨n,a⟩:=x;obtain⟨v1,sg1,sl1,rfl,m1,x1,hx1,xa,xk,xc,xa',xk',xc',rfl⟩:=he.err hr;have HR:Hid (rread s=.error (n,a)):=hr;clear hr he R;have kB1:=kB.mv m1 (by omega) (by simp[Value.ownBlock]);have M1:=M0.trans (Nx.refl _ _) m1;obtain⟨ii,WW,kqx⟩:=hx1.blk;have lq:=kqx.lt;have lB:=kB1.lt;have c4:w1.cell? ⟨w.heap.size+1+1,4,none⟩=some (.int .i64 (n:Int)):=kqx.cell 4;have c5:w1.cell? ⟨w.heap.size+1+1,5,none⟩=some (.int .i64 (a:Int)):=kqx.cell 5;have h0:((n:Int) == 0)=false:=beq_eq_false_iff_ne.2 (by have:=hx1.pos;omega);have e0:w1.cell? ⟨w.heap.size,0,none⟩=some (.slice none 0 0):=kB1.cell 0;have e1:w1.cell? ⟨w.heap.size,1,none⟩=some (.slice none 0 0):=kB1.cell 1;have ff:∀ i,w1.frozen? ⟨w.heap.size,i,none⟩=false:=kB1.frozen;have kB9:=((kB1.set 0 (.slice none 0 0)).set 1 (.slice none 0 0)).alloc (.cells #[.slice xa xk xc,.slice xa' xk' xc'] 49);have y0:(((w1.setCell ⟨w.heap.size,0,none⟩ (.slice none 0 0)).setCell ⟨w.heap.size,1,none⟩ (.slice none 0 0)).alloc (.cells #[.slice xa xk xc,.slice xa' xk' xc'] 49)).cell? ⟨w.heap.size,0,none⟩=some (.slice none 0 0):=kB9.cell 0;have y1:(((w1.setCell ⟨w.heap.size,0,none⟩ (.slice none 0 0)).setCell ⟨w.heap.size,1,none⟩ (.slice none 0 0)).alloc (.cells #[.slice xa xk xc,.slice xa' xk' xc'] 49)).cell? ⟨w.heap.size,1,none⟩=some (.slice none 0 0):=kB9.cell 1;go_wp2_with fail
  go_region
  all_goals
   go_wp2_with fail;refine bodyPost_ret (v:=.tuple #[.agg #[.slice none 0 0,.slice none 0 0],.int .i64 (n:Int),.int .i64 (a:Int)]) (by simp[results,Tryz.results17,go_sem,y0,y1]) rfl ?_;refine⟨_,_,sg1,n,a,rfl,?_,?_⟩
   ·first
     | exact (((M1.new (Nat.le_refl _) _ _).new (Nat.le_refl _) _ _).alloc _).drew
     | exact (((M1.alloc _).new (Nat.le_refl _) _ _).new (Nat.le_refl _) _ _).drew
     | exact (((M1.alloc _).drew).new (Nat.le_refl _) _ _).new (Nat.le_refl _) _ _
     | exact (((M1.new (Nat.le_refl _) _ _).new (Nat.le_refl _) _ _).drew).alloc _
   ·rw[HR.out];exact⟨rfl,rfl,rfl,rfl⟩
 | ok x =>
  obtain⟨g,ts'⟩:=x;obtain⟨v1,sg1,sl1,rfl,m1,x1,hr1,vL,vR,rfl,hg⟩:=he.ok hr;have HR:Hid (rread s=.ok (g,ts')):=hr;clear hr he R;obtain⟨la,lk,lc,rfl⟩:=Seq.form hg.1;obtain⟨ra,rk,rc,rfl⟩:=Seq.form hg.2;have kB1:=kB.mv m1 (by omega) (by simp[Value.ownBlock]);have M1:=M0.trans (Nx.refl _ _) m1;have c4:w1.cell? ⟨w.heap.size+1+1,4,none⟩=some (.int .i64 0):=hr1.blk.cell 4;have lq:=hr1.lt;have e0:w1.cell? ⟨w.heap.size,0,none⟩=some (.slice none 0 0):=kB1.cell 0;have e1:w1.cell? ⟨w.heap.size,1,none⟩=some (.slice none 0 0):=kB1.cell 1;have ff:∀ i,w1.frozen? ⟨w.heap.size,i,none⟩=false:=kB1.frozen;have lB:w.heap.size<w1.heap.size:=by have:=m1.size;rw[hu]at this;omega
  have kB9:=((kB1.set 0 (.slice la lk lc)).set 1 (.slice ra rk rc)).alloc (.cells #[.slice la lk lc,.slice ra rk rc] 49);have z0:(((w1.setCell ⟨w.heap.size,0,none⟩ (.slice la lk lc)).setCell ⟨w.heap.size,1,none⟩ (.slice ra rk rc)).alloc (.cells #[.slice la lk lc,.slice ra rk rc] 49)).cell? ⟨w.heap.size,0,none⟩=some (.slice la lk lc):=kB9.cell 0;have z1:(((w1.setCell ⟨w.heap.size,0,none⟩ (.slice la lk lc)).setCell ⟨w.heap.size,1,none⟩ (.slice ra rk rc)).alloc (.cells #[.slice la lk lc,.slice ra rk rc] 49)).cell? ⟨w.heap.size,1,none⟩=some (.slice ra rk rc):=kB9.cell 1;go_wp2_with fail;refine bodyPost_ret (v:=.tuple #[.agg #[.slice la lk lc,.slice ra rk rc],.int .i64 0,.int .i64 0]) (by simp[results,Tryz.results17,go_sem,z0,z1]) rfl ?_;refine⟨_,_,sg1,0,0,rfl,((M1.new (Nat.le_refl _) _ _).new (Nat.le_refl _) _ _).alloc _,?_⟩;rw[HR.out];refine⟨rfl,rfl,?_,?_⟩
  ·refine Seq.move hg.1 (fun b hb=>?_) (fun b hb=>⟨by have:=hb.1;omega,by have:=hb.2.1;simp[World.setCell];omega,hb.2.2⟩) (fun v x hk=>lv_movable _ _ _ _ v x (fun b hb=>?_) (fun b hb=>⟨by have:=hb.1;omega,by have:=hb.2.1;simp[World.setCell];omega,hb.2.2⟩) hk)
   all_goals
    have hbb:b≠w.heap.size:=by have:=hb.1;omega
    rw[Below.heap_alloc _ _ _ (by have:=hb.2.1;simpa [World.setCell]using this),Below.heap_setCell _ _ _ _ hbb,Below.heap_setCell _ _ _ _ hbb]
  ·refine Seq.move hg.2 (fun b hb=>?_) (fun b hb=>⟨by have:=hb.1;omega,by have:=hb.2.1;simp[World.setCell];omega,hb.2.2⟩) (fun v x hk=>rule_movable YR 9 _ _ _ _ v x (fun b hb=>?_) (fun b hb=>⟨by have:=hb.1;omega,by have:=hb.2.1;simp[World.setCell];omega,hb.2.2⟩) hk)
   all_goals
    have hbb:b≠w.heap.size:=by have:=hb.1;omega
    rw[Below.heap_alloc _ _ _ (by have:=hb.2.1;simpa [World.setCell]using this),Below.heap_setCell _ _ _ _ hbb,Below.heap_setCell _ _ _ _ hbb]
end
section
open Go.RowKit
open Tr
theorem rread_ok {s:ByteArray}{g:Lx.Gr}{ts:List Lx.Tk}(h:rread s=.ok (g,ts)):Lx.parse s=.ok g:=by
 unfold rread at h;unfold Lx.parse
 split at h
 ·cases h
 ·rename_i h1
  rw[if_neg h1,h]
theorem rread_err {s:ByteArray}{e:Nat × Nat}(h:rread s=.error e):Lx.parse s=.error e:=by
 unfold rread at h;unfold Lx.parse
 split at h
 ·rename_i h1;rw[if_pos h1];cases h;rfl
 ·rename_i h1
  rw[if_neg h1,h]
def DMakeB (s:ByteArray)(w:World)(e:Ending)(w':World):Prop :=
 ∃ v,∃ n a:Nat,e=.returned (.tuple #[v,.int .i64 (n:Int),.int .i64 (a:Int)])/\Below w.heap.size w w'/\(∀ g,Lx.mkR s=.ok g->n=0/\a=0/\PlInB w.heap.size w' v (Lx.tokG g) (Lx.namG g) (Lx.prodG g) ((Lx.tokG g).map fun t=>(Lx.bkOf g t).1) ((Lx.tokG g).map fun t=>(Lx.bkOf g t).2))/\(∀ x,Lx.mkR s=.error x->n=x.1/\a=x.2/\v=.agg #[.slice none 0 0,.slice none 0 0,.slice none 0 0,.slice none 0 0,.slice none 0 0])
theorem _root_.Go.RowKit.Below.put5 {B:Nat}{a w:World}(h:Below B a w){r:Nat}(hr:B<=r)(x0 x1 x2 x3 x4:Value):Below B a (((((w.setCell ⟨r,0,none⟩ x0).setCell ⟨r,1,none⟩ x1).setCell ⟨r,2,none⟩ x2).setCell ⟨r,3,none⟩ x3).setCell ⟨r,4,none⟩ x4) :=
 ((((h.setCell (p:=⟨r,0,none⟩) hr x0).setCell (p:=⟨r,1,none⟩) hr x1).setCell (p:=⟨r,2,none⟩) hr x2).setCell (p:=⟨r,3,none⟩) hr x3).setCell (p:=⟨r,4,none⟩) hr x4
theorem put5_keep (w:World)(r:Nat)(x0 x1 x2 x3 x4:Value)(o:Obj)(g:Nat)(hl:g<w.heap.size)(hn:g≠r):((((((w.setCell ⟨r,0,none⟩ x0).setCell ⟨r,1,none⟩ x1).setCell ⟨r,2,none⟩ x2).setCell ⟨r,3,none⟩ x3).setCell ⟨r,4,none⟩ x4).alloc o).heap[g]?=w.heap[g]?:=by
 rw[Below.heap_alloc _ _ _ (by simp[World.setCell];exact hl),Below.heap_setCell _ _ _ _ hn,Below.heap_setCell _ _ _ _ hn,Below.heap_setCell _ _ _ _ hn,Below.heap_setCell _ _ _ _ hn,Below.heap_setCell _ _ _ _ hn]
theorem mv_below {q:Nat}{w w':World}(h:Mv q (.slice none 0 0) w w')(hq:w.heap.size<=q):Below w.heap.size w w':=⟨h.os,h.tape,h.output,h.size,fun k hk=>h.block k hk (by omega) (by simp[Value.ownBlock])⟩
theorem DG.fit {F:Nat->Prop}{w:World}{vL vR:Value}{g:Lx.Gr}(h:DG F w vL vR g){s:ByteArray}(hp:Lx.parse s=.ok g)(hc:(Lx.chk g).1=0):Lx.Fit g:=by
 obtain⟨h1,h2,h3⟩:=Lx.parse_is hp;obtain⟨h4,h5⟩:=Lx.parse_took hp;have h6:=Lx.chk_zero hc;refine⟨h1,h2,h3,fun r hr=>?_,h4,h5,h6.2,h6.1⟩;obtain⟨i,hi,rfl⟩:=List.mem_iff_getElem.1 hr;obtain⟨_,_,_,-,-,hA,-⟩:=h.rule hi;exact altsIn_dp hA
theorem docMake_new (s:ByteArray)(w:World):Calls Tryz.prog 10 #[.string s] w (DMakeB s w):=by
 go_enter Tryz.func10,Tryz.ntmps10;go_wp2_with fail;obtain⟨W,hW⟩:∃ W,W=w.alloc (.cells #[.slice none 0 0,.slice none 0 0,.slice none 0 0,.slice none 0 0,.slice none 0 0] 32):=⟨_,rfl⟩;rw[<-hW];have kR:Blk W w.heap.size #[.slice none 0 0,.slice none 0 0,.slice none 0 0,.slice none 0 0,.slice none 0 0] 32:=by rw[hW];exact Blk.new w _ 32
 have hB:Below w.heap.size w W:=by rw[hW];exact (Below.refl _ _).alloc (Nat.le_refl _) _
 have hWs:W.heap.size=w.heap.size+1:=by rw[hW];simp
 clear hW;refine (rparse_any s W).mono ?_;intro e w1 he;obtain⟨vL,vR,sgx,n,a,rfl,hMv,hm⟩:=he;have hb1:=mv_below hMv (by omega);clear hMv;have hs1:=hb1.size;have hbw1:Below w.heap.size w w1:=hB.trans (hb1.mono (by omega));have kR1:Blk w1 w.heap.size _ 32:=(hb1.block _ (by omega)).trans kR;cases hr:rread s with
 | error x =>
  rw[hr]at hm;obtain⟨m,b⟩:=x;obtain⟨rfl,rfl,rfl,rfl⟩:=hm;have hpe:=rread_err hr;have hpos:=Lx.parse_pos hpe;have HE:Hid (Lx.mkR s=.error (n,a)):=Lx.mkR_err hpe;have hnb:((n:Int) == 0)=false:=beq_eq_false_iff_ne.2 (by omega);have hnn:((n:Int) != 0)=true:=bne_iff_ne.2 (by omega);have hnd:¬ (n:Int)=0:=by omega
  have r0:w1.cell? ⟨w.heap.size,0,none⟩=some (.slice none 0 0):=kR1.cell 0;have r1:w1.cell? ⟨w.heap.size,1,none⟩=some (.slice none 0 0):=kR1.cell 1;have r2:w1.cell? ⟨w.heap.size,2,none⟩=some (.slice none 0 0):=kR1.cell 2;have r3:w1.cell? ⟨w.heap.size,3,none⟩=some (.slice none 0 0):=kR1.cell 3;have r4:w1.cell? ⟨w.heap.size,4,none⟩=some (.slice none 0 0):=kR1.cell 4;have rf:∀ i,w1.frozen? ⟨w.heap.size,i,none⟩=false:=kR1.frozen;have lr:w.heap.size<w1.heap.size:=kR1.lt;clear hr hpe hpos;go_wp2_with fail;have kF:=((((((kR1.set 0 (.slice none 0 0)).set 1 (.slice none 0 0)).set 2 (.slice none 0 0)).set 3 (.slice none 0 0)).set 4 (.slice none 0 0)).alloc (.cells #[.slice none 0 0,.slice none 0 0] 49));have s0:=kF.cell 0;have s1:=kF.cell 1;have s2:=kF.cell 2;have s3:=kF.cell 3;have s4:=kF.cell 4;simp at s0 s1 s2 s3 s4;refine bodyPost_ret (v:=.tuple #[.agg #[.slice none 0 0,.slice none 0 0,.slice none 0 0,.slice none 0 0,.slice none 0 0],.int .i64 (n:Int),.int .i64 (a:Int)]) (by simp[results,Tryz.results10,go_sem,s0,s1,s2,s3,s4]) rfl ⟨_,n,a,rfl,?_,?_,?_⟩
  ·exact ((hbw1.put5 (Nat.le_refl _) _ _ _ _ _)).alloc (by simp;omega) _
  ·intro g hg;rw[HE.out]at hg;cases hg
  ·intro x hx;rw[HE.out]at hx;cases hx;exact⟨rfl,rfl,rfl⟩
 | ok x =>
  obtain⟨g,ts⟩:=x;rw[hr]at hm;obtain⟨rfl,rfl,hgi⟩:=hm;have hpe:=rread_ok hr;have hd1:DG (Fp W.heap.size sgx w1) w1 vL vR g:=⟨fun b hb=>hb.2.1,hgi.1,hgi.2⟩;clear hr hgi;obtain⟨la,lc,hvL,-⟩:=hd1.lenL;obtain⟨ra,rc,hvR,-⟩:=hd1.lenR;subst hvL hvR;have hsz:=(Lx.parse_took hpe).1;have hne:=(Lx.parse_is hpe).2.2;have hlw:=Lx.lvWords_len g;have hrl:g.rules.length<=Lx.sizeG g.rules:=Lx.len_sum (fun r:Lx.Rl=>1+Lx.sizeA 9 r.alts) fun _ _=>by omega
  generalize Fp W.heap.size sgx w1=F at hd1;have ha1:Below w1.heap.size w1 (w1.alloc (.cells #[.slice la g.levels.length lc,.slice ra g.rules.length rc] 49)):=(Below.refl _ _).alloc (Nat.le_refl _) _;have hq:=docCheck_any (hd1.below ha1) (by omega) (by omega) hne;go_wp2_with fail;refine hq.mono ?_;rintro e w2 ⟨rfl,hb2⟩;have kg2:Blk w2 w1.heap.size #[.slice la g.levels.length lc,.slice ra g.rules.length rc] 49:=(hb2.block _ (by simp)).trans (Blk.new w1 _ 49);have hb12:Below w1.heap.size w1 w2:=ha1.trans (hb2.mono (by simp));have hs2:=hb12.size;have hd2:=hd1.below hb12;have hbw2:Below w.heap.size w w2:=hbw1.trans (hb12.mono (by omega));have kR2:Blk w2 w.heap.size _ 32:=(hb12.block _ (by omega)).trans kR1;clear hq ha1 hd1;unfold prV
  by_cases hc:(Lx.chk g).1=0
  ·have hf:=hd2.fit hpe hc
   have hcb:(((Lx.chk g).1:Int) == 0)=true:=by simp[hc]
   have hcn:(((Lx.chk g).1:Int) != 0)=false:=by simp[hc]
   have HC:Hid ((Lx.chk g).1=0):=hc;clear hc;generalize hce:Lx.chk g=cr at hcb hcn;clear hce;have ha2:Below w2.heap.size w2 (w2.alloc (.cells #[.int .i64 (cr.1:Int),.int .i64 (cr.2:Int)] 74)):=(Below.refl _ _).alloc (Nat.le_refl _) _;have hq:=docOf_any (hd2.below ha2) hf;have c20:w2.cell? ⟨w1.heap.size,0,none⟩=some (.slice la g.levels.length lc):=kg2.cell 0;have c21:w2.cell? ⟨w1.heap.size,1,none⟩=some (.slice ra g.rules.length rc):=kg2.cell 1;have lg2:w1.heap.size<w2.heap.size:=kg2.lt;go_wp2_with fail;refine hq.mono ?_;rintro e w3 ⟨v,rfl,hpl,hb3⟩;have hb23:Below w2.heap.size w2 w3:=ha2.trans (hb3.mono (by simp));have hs3:=hb23.size;have hbw3:Below w.heap.size w w3:=hbw2.trans (hb23.mono (by omega));have kR3:Blk w3 w.heap.size _ 32:=(hb23.block _ (by omega)).trans kR2;obtain⟨vT,vN,vP,vB,vK,rfl,z2,z3,z4,z5,z6,z7,z8⟩:=hpl;have hbs:w.heap.size<=(w2.alloc (.cells #[.int .i64 (cr.1:Int),.int .i64 (cr.2:Int)] 74)).heap.size:=by simp;omega
   obtain⟨ps,p1,p2,p3⟩:=z4;obtain⟨xa0,xc0,hx0,-⟩:=own_len z2;obtain⟨xa1,xc1,hx1,-⟩:=own_len z3;obtain⟨xa2,xc2,hx2,hm2⟩:=own_len p2;obtain⟨xa3,xc3,hx3,-⟩:=own_len z5;obtain⟨xa4,xc4,hx4,-⟩:=own_len z6;subst hx0 hx1 hx2 hx3 hx4;unfold maxLen at hm2;have r0:w3.cell? ⟨w.heap.size,0,none⟩=some (.slice none 0 0):=kR3.cell 0;have r1:w3.cell? ⟨w.heap.size,1,none⟩=some (.slice none 0 0):=kR3.cell 1;have r2:w3.cell? ⟨w.heap.size,2,none⟩=some (.slice none 0 0):=kR3.cell 2;have r3:w3.cell? ⟨w.heap.size,3,none⟩=some (.slice none 0 0):=kR3.cell 3;have r4:w3.cell? ⟨w.heap.size,4,none⟩=some (.slice none 0 0):=kR3.cell 4;have rf:∀ i,w3.frozen? ⟨w.heap.size,i,none⟩=false:=kR3.frozen;have lr:w.heap.size<w3.heap.size:=kR3.lt;have nR:∀ {e s:Nat} {v:Value} {n:Nat} {xs:List Value},w3.ownsRow 0 e s v n xs->e≠32->∀ g,v.ownBlock=some g->g≠w.heap.size:=by
    intro e s v n xs ho he g hg eg;rcases ho.2 with ⟨rfl,-⟩ | ⟨g',cap,cur,rfl,-,hh,-⟩
    ·cases hg
    ·have e1:g'=g:=Option.some.inj hg
     have hh2:w3.heap[w.heap.size]?=some (.cells cur e (0,0)):=by rw[<-eg,<-e1];exact hh
     have kRx:=kR3;unfold Blk at kRx;rw[hh2]at kRx;have e2:=Option.some.inj kRx;injection e2 with _ e3
     exact he e3
   by_cases hmany:200<(Lx.prodG g).length
   ·have HE:Hid (Lx.mkR s=.error (8,0)):=Lx.mkR_many hpe HC.out hmany
    go_wp2_with fail;have kF:=((((((kR3.set 0 (.slice none 0 0)).set 1 (.slice none 0 0)).set 2 (.slice none 0 0)).set 3 (.slice none 0 0)).set 4 (.slice none 0 0)).alloc (.cells #[.slice xa0 (Lx.tokG g).length xc0,.slice xa1 (Lx.namG g).length xc1,.slice xa2 (Lx.prodG g).length xc2,.slice xa3 ((Lx.tokG g).map fun t=>(Lx.bkOf g t).1).length xc3,.slice xa4 ((Lx.tokG g).map fun t=>(Lx.bkOf g t).2).length xc4] 32));have s0:=kF.cell 0;have s1:=kF.cell 1;have s2:=kF.cell 2;have s3:=kF.cell 3;have s4:=kF.cell 4;simp at s0 s1 s2 s3 s4;refine bodyPost_ret (v:=.tuple #[.agg #[.slice none 0 0,.slice none 0 0,.slice none 0 0,.slice none 0 0,.slice none 0 0],.int .i64 8,.int .i64 0]) (by simp[results,Tryz.results10,go_sem,s0,s1,s2,s3,s4]) rfl ⟨_,8,0,rfl,?_,?_,?_⟩
    ·exact ((hbw3.put5 (Nat.le_refl _) _ _ _ _ _)).alloc (by simp;omega) _
    ·intro g hg;rw[HE.out]at hg;cases hg
    ·intro x hx;rw[HE.out]at hx;cases hx;exact⟨rfl,rfl,rfl⟩
   ·have HE:Hid (Lx.mkR s=.ok g):=Lx.mkR_ok hpe HC.out hmany
    go_wp2_with fail;have kF:=((((((kR3.set 0 (.slice xa0 (Lx.tokG g).length xc0)).set 1 (.slice xa1 (Lx.namG g).length xc1)).set 2 (.slice xa2 (Lx.prodG g).length xc2)).set 3 (.slice xa3 ((Lx.tokG g).map fun t=>(Lx.bkOf g t).1).length xc3)).set 4 (.slice xa4 ((Lx.tokG g).map fun t=>(Lx.bkOf g t).2).length xc4)).alloc (.cells #[.slice xa0 (Lx.tokG g).length xc0,.slice xa1 (Lx.namG g).length xc1,.slice xa2 (Lx.prodG g).length xc2,.slice xa3 ((Lx.tokG g).map fun t=>(Lx.bkOf g t).1).length xc3,.slice xa4 ((Lx.tokG g).map fun t=>(Lx.bkOf g t).2).length xc4] 32));have s0:=kF.cell 0;have s1:=kF.cell 1;have s2:=kF.cell 2;have s3:=kF.cell 3;have s4:=kF.cell 4;simp at s0 s1 s2 s3 s4;refine bodyPost_ret (v:=.tuple #[.agg #[.slice xa0 (Lx.tokG g).length xc0,.slice xa1 (Lx.namG g).length xc1,.slice xa2 (Lx.prodG g).length xc2,.slice xa3 ((Lx.tokG g).map fun t=>(Lx.bkOf g t).1).length xc3,.slice xa4 ((Lx.tokG g).map fun t=>(Lx.bkOf g t).2).length xc4],.int .i64 0,.int .i64 0]) (by simp[results,Tryz.results10,go_sem,s0,s1,s2,s3,s4]) rfl ⟨_,0,0,rfl,?_,?_,?_⟩
    ·exact ((hbw3.put5 (Nat.le_refl _) _ _ _ _ _)).alloc (by simp;omega) _
    ·intro g' hg
     rw[HE.out]at hg;cases hg;exact⟨rfl,rfl,_,_,_,_,_,rfl,own_move z2 fun g hg=>put5_keep w3 w.heap.size _ _ _ _ _ _ g (z2.lt g hg).2 (nR z2 (by decide) g hg),own_move z3 fun g hg=>put5_keep w3 w.heap.size _ _ _ _ _ _ g (z3.lt g hg).2 (nR z3 (by decide) g hg),⟨ps,p1,own_move p2 fun g hg=>put5_keep w3 w.heap.size _ _ _ _ _ _ g (p2.lt g hg).2 (nR p2 (by decide) g hg),fun q hq=>⟨own_move (p3 q hq).1 fun g hg=>put5_keep w3 w.heap.size _ _ _ _ _ _ g ((p3 q hq).1.lt g hg).2 (nR (p3 q hq).1 (by decide) g hg),fun g hg=>Nat.le_trans hbs ((p3 q hq).2 g hg)⟩⟩,own_move z5 fun g hg=>put5_keep w3 w.heap.size _ _ _ _ _ _ g (z5.lt g hg).2 (nR z5 (by decide) g hg),own_move z6 fun g hg=>put5_keep w3 w.heap.size _ _ _ _ _ _ g (z6.lt g hg).2 (nR z6 (by decide) g hg),fun g hg=>Nat.le_trans hbs (z7 g hg),fun g hg=>Nat.le_trans hbs (z8 g hg)⟩
    ·intro x hx;rw[HE.out]at hx;cases hx
  ·have HE:Hid (Lx.mkR s=.error (Lx.chk g)):=Lx.mkR_chk hpe hc
   have hcb:(((Lx.chk g).1:Int) == 0)=false:=beq_eq_false_iff_ne.2 (by omega);have hcn:(((Lx.chk g).1:Int) != 0)=true:=bne_iff_ne.2 (by omega);have hcd:¬ ((Lx.chk g).1:Int)=0:=by omega
   clear hc;generalize Lx.chk g=cr at HE hcb hcn hcd;have r0:w2.cell? ⟨w.heap.size,0,none⟩=some (.slice none 0 0):=kR2.cell 0;have r1:w2.cell? ⟨w.heap.size,1,none⟩=some (.slice none 0 0):=kR2.cell 1;have r2:w2.cell? ⟨w.heap.size,2,none⟩=some (.slice none 0 0):=kR2.cell 2;have r3:w2.cell? ⟨w.heap.size,3,none⟩=some (.slice none 0 0):=kR2.cell 3;have r4:w2.cell? ⟨w.heap.size,4,none⟩=some (.slice none 0 0):=kR2.cell 4;have rf:∀ i,w2.frozen? ⟨w.heap.size,i,none⟩=false:=kR2.frozen;have lr:w.heap.size<w2.heap.size:=kR2.lt;go_wp2_with fail
   go_region
   all_goals
    have kF:=((((((kR2.set 0 (.slice none 0 0)).set 1 (.slice none 0 0)).set 2 (.slice none 0 0)).set 3 (.slice none 0 0)).set 4 (.slice none 0 0)).alloc (.cells #[.int .i64 (cr.1:Int),.int .i64 (cr.2:Int)] 74)).drew;have s0:=kF.cell 0;have s1:=kF.cell 1;have s2:=kF.cell 2;have s3:=kF.cell 3;have s4:=kF.cell 4;simp at s0 s1 s2 s3 s4;go_wp2_with fail;refine bodyPost_ret (v:=.tuple #[.agg #[.slice none 0 0,.slice none 0 0,.slice none 0 0,.slice none 0 0,.slice none 0 0],.int .i64 (cr.1:Int),.int .i64 (cr.2:Int)]) (by simp[results,Tryz.results10,go_sem,s0,s1,s2,s3,s4]) rfl ⟨_,cr.1,cr.2,rfl,?_,?_,?_⟩
    ·exact (((hbw2.put5 (Nat.le_refl _) _ _ _ _ _)).alloc (by simp;omega) _).drew
    ·intro g hg;rw[HE.out]at hg;cases hg
    ·intro x hx;rw[HE.out]at hx;cases hx;exact⟨rfl,rfl,rfl⟩
end
section
open Go.RowKit
open Tr
namespace Lx
structure Mka where
 num:Nat
 tok:List ByteArray
 nam:List ByteArray
 prod:List Pd
 bs:List Nat
 ks:List Nat
def mkA (s:ByteArray):Mka:=match mkR s with
 | .ok g=>⟨0,tokG g,namG g,prodG g,(tokG g).map fun t=>(bkOf g t).1,(tokG g).map fun t=>(bkOf g t).2⟩
 | .error x=>⟨x.1,[],[],[],[],[]⟩
theorem mkA_ok {s:ByteArray}{g:Gr}(h:mkR s=.ok g):mkA s=⟨0,tokG g,namG g,prodG g,(tokG g).map fun t=>(bkOf g t).1,(tokG g).map fun t=>(bkOf g t).2⟩:=by unfold mkA;rw[h]
theorem mkA_err {s:ByteArray}{x:Nat × Nat}(h:mkR s=.error x):mkA s=⟨x.1,[],[],[],[],[]⟩:=by unfold mkA;rw[h]
theorem mkA_plain {s:ByteArray}{g:Gr}(h:parse s=.ok g)(hz:(⟨(formL noText (lex s)).toArray⟩:ByteArray).size<=2000):mkA ⟨(formL noText (lex s)).toArray⟩=mkA s:=by
 obtain⟨g',hp,he⟩:=parse_same h hz (t:=⟨(formL noText (lex s)).toArray⟩) (form_lex s).symm;obtain⟨h1,h2⟩:=mk_rn ren_id h hp (grEq_rn he);cases hr:mkR s with
 | ok g0 =>
  obtain⟨rfl,e2,hm⟩:=h1 g0 hr;rw[mkA_ok hr,mkA_ok e2,hm.tok,hm.nam,hm.prod,List.map_id,List.map_id];have hb:∀ t,bkOf g' t=bkOf g0 t:=hm.bk;simp only[hb]
 | error x =>
  obtain⟨a,e2⟩:=h2 x hr;rw[mkA_err hr,mkA_err e2]
end Lx
theorem plPB_none (B:Nat)(w:World):PlPB B w none5 [] [] [] [] []:=by
 refine⟨_,_,_,_,_,rfl,World.ownsRow_nil _ _ _ _,World.ownsRow_nil _ _ _ _,⟨[],rfl,World.ownsRow_nil _ _ _ _,fun q hq=>(by cases hq),List.Pairwise.nil⟩,World.ownsRow_nil _ _ _ _,World.ownsRow_nil _ _ _ _,fun g hg=>by cases hg⟩
theorem plInB_none (B:Nat)(w:World):PlInB B w none5 [] [] [] [] []:=by
 refine⟨_,_,_,_,_,rfl,World.ownsRow_nil _ _ _ _,World.ownsRow_nil _ _ _ _,⟨[],rfl,World.ownsRow_nil _ _ _ _,fun q hq=>(by cases hq)⟩,World.ownsRow_nil _ _ _ _,World.ownsRow_nil _ _ _ _,fun g hg=>(by cases hg),fun g hg=>(by cases hg)⟩
theorem make_ans (s:ByteArray)(w:World)(hmax:s.size<=maxLen)(ht:Tab w):Calls Tryz.prog 9 #[.string s] w fun e w'=>∃ v,∃ a:Nat,e=.returned (.tuple #[v,.int .i64 ((Lx.mkA s).num:Int),.int .i64 (a:Int)])/\Below w.heap.size w w'/\PlPB w.heap.size w' v (Lx.mkA s).tok (Lx.mkA s).nam (Lx.mkA s).prod (Lx.mkA s).bs (Lx.mkA s).ks:=by
 refine (make_new s w hmax ht).mono ?_;rintro e w' ⟨v,n,a,rfl,hb,hok,her⟩;cases hr:Lx.mkR s with
 | ok g =>
  obtain⟨rfl,rfl,hp⟩:=hok g hr;rw[Lx.mkA_ok hr];exact⟨v,0,rfl,hb,hp⟩
 | error x =>
  obtain⟨rfl,rfl,rfl⟩:=her x hr;rw[Lx.mkA_err hr];exact⟨none5,x.2,rfl,hb,plPB_none _ _⟩
theorem docMake_ans (s:ByteArray)(w:World):Calls Tryz.prog 10 #[.string s] w fun e w'=>∃ v,∃ a:Nat,e=.returned (.tuple #[v,.int .i64 ((Lx.mkA s).num:Int),.int .i64 (a:Int)])/\Below w.heap.size w w'/\PlInB w.heap.size w' v (Lx.mkA s).tok (Lx.mkA s).nam (Lx.mkA s).prod (Lx.mkA s).bs (Lx.mkA s).ks:=by
 refine (docMake_new s w).mono ?_;rintro e w' ⟨v,n,a,rfl,hb,hok,her⟩;cases hr:Lx.mkR s with
 | ok g =>
  obtain⟨rfl,rfl,hp⟩:=hok g hr;rw[Lx.mkA_ok hr];exact⟨v,0,rfl,hb,hp⟩
 | error x =>
  obtain⟨rfl,rfl,rfl⟩:=her x hr;rw[Lx.mkA_err hr];exact⟨none5,x.2,rfl,hb,plInB_none _ _⟩
end
end Go.Proofs.YtlcppnabbicmoaaGreatDoor

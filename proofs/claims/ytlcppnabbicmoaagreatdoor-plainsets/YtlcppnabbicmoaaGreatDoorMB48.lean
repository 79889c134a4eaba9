import Derived.Test.YtlcppnabbicmoaaGreatDoorMB47
import Derived.Test.YtlcppnabbicmoaaGreatDoorMB44
import Derived.Test.YtlcppnabbicmoaaGreatDoorMB45
import Derived.Test.YtlcppnabbicmoaaGreatDoorMB42
namespace Go.Proofs.YtlcppnabbicmoaaGreatDoor
section
open Go.RowKit
open Lx (Tk)
open Tr
theorem rread_any (s:ByteArray) (w:World) :
  Calls Tryz.prog 36 #[.string s] w (REnds s (w.heap.size+1) 0 (RVGram w.heap.size (w.heap.size+1)) (XGram (w.heap.size+1)) w (.slice none 0 0) (rread s)):=by
 by_cases h:2000<s.size
 ·exact rread_long s w h
 ·exact rread_short s w h
def RParseEnds (s:ByteArray)(w:World)(e:Ending)(w':World):Prop :=
 ∃ vL vR sgx,∃ n a:Nat,e=.returned (.tuple #[.agg #[vL,vR],.int .i64 (n:Int),.int .i64 (a:Int)])∧Mv (w.heap.size+1+1) (.slice none 0 0) w w' ∧
  match rread s with
  | .ok (g,_)=>n=0∧a=0∧RGramIn w.heap.size sgx w' vL vR g
  | .error (m,b)=>n=m∧a=b∧vL=.slice none 0 0∧vR=.slice none 0 0
set_option maxHeartbeats 1000000 in
set_option maxRecDepth 100000 in
theorem rparse_any (s:ByteArray)(w:World):Calls Tryz.prog 17 #[.string s] w (RParseEnds s w):=by
 have hu:(w.alloc (.cells #[.slice none 0 0,.slice none 0 0] 49)).heap.size=w.heap.size+1:=by simp
 have R:=rread_any s (w.alloc (.cells #[.slice none 0 0,.slice none 0 0] 49))
 rw [hu] at R
 have kB:=Blk.new w #[.slice none 0 0,.slice none 0 0] 49
 have M0:=(Mv.refl (w.heap.size+1+1) (.slice none 0 0) w).alloc (.cells #[.slice none 0 0,.slice none 0 0] 49)
 go_enter Tryz.func17,Tryz.ntmps17
 go_wp2_with fail
 refine R.mono ?_
 intro e w1 he
 cases hr:rread s with
 | error x =>
  obtain⟨n,a⟩:=x
  obtain⟨v1,sg1,sl1,rfl,m1,x1,hx1,xa,xk,xc,xa',xk',xc',rfl⟩:=he.err hr
  have HR:Hid (rread s=.error (n,a)):=hr
  clear hr he R
  have kB1:=kB.mv m1 (by omega) (by simp [Value.ownBlock])
  have M1:=M0.trans (Nx.refl _ _) m1
  obtain⟨ii,WW,kqx⟩:=hx1.blk
  have lq:=kqx.lt
  have lB:=kB1.lt
  have c4:w1.cell? ⟨w.heap.size+1+1,4,none⟩=some (.int .i64 (n:Int)):=kqx.cell 4
  have c5:w1.cell? ⟨w.heap.size+1+1,5,none⟩=some (.int .i64 (a:Int)):=kqx.cell 5
  have h0:((n:Int) == 0)=false:=beq_eq_false_iff_ne.2 (by have:=hx1.pos;omega)
  have e0:w1.cell? ⟨w.heap.size,0,none⟩=some (.slice none 0 0):=kB1.cell 0
  have e1:w1.cell? ⟨w.heap.size,1,none⟩=some (.slice none 0 0):=kB1.cell 1
  have ff:∀ i,w1.frozen? ⟨w.heap.size,i,none⟩=false:=kB1.frozen
  have kB9:=((kB1.set 0 (.slice none 0 0)).set 1 (.slice none 0 0)).alloc (.cells #[.slice xa xk xc,.slice xa' xk' xc'] 49)
  have y0:(((w1.setCell ⟨w.heap.size,0,none⟩ (.slice none 0 0)).setCell ⟨w.heap.size,1,none⟩ (.slice none 0 0)).alloc (.cells #[.slice xa xk xc,.slice xa' xk' xc'] 49)).cell? ⟨w.heap.size,0,none⟩=some (.slice none 0 0):=kB9.cell 0
  have y1:(((w1.setCell ⟨w.heap.size,0,none⟩ (.slice none 0 0)).setCell ⟨w.heap.size,1,none⟩ (.slice none 0 0)).alloc (.cells #[.slice xa xk xc,.slice xa' xk' xc'] 49)).cell? ⟨w.heap.size,1,none⟩=some (.slice none 0 0):=kB9.cell 1
  go_wp2_with fail
  go_region
  all_goals
   go_wp2_with fail
   refine bodyPost_ret (v:=.tuple #[.agg #[.slice none 0 0,.slice none 0 0],.int .i64 (n:Int),.int .i64 (a:Int)]) (by simp [results,Tryz.results17,go_sem,y0,y1]) rfl ?_
   refine⟨_,_,sg1,n,a,rfl,?_,?_⟩
   ·first
     | exact (((M1.new (Nat.le_refl _) _ _).new (Nat.le_refl _) _ _).alloc _).drew
     | exact (((M1.alloc _).new (Nat.le_refl _) _ _).new (Nat.le_refl _) _ _).drew
     | exact (((M1.alloc _).drew).new (Nat.le_refl _) _ _).new (Nat.le_refl _) _ _
     | exact (((M1.new (Nat.le_refl _) _ _).new (Nat.le_refl _) _ _).drew).alloc _
   ·rw [HR.out];exact⟨rfl,rfl,rfl,rfl⟩
 | ok x =>
  obtain⟨g,ts'⟩:=x
  obtain⟨v1,sg1,sl1,rfl,m1,x1,hr1,vL,vR,rfl,hg⟩:=he.ok hr
  have HR:Hid (rread s=.ok (g,ts')):=hr
  clear hr he R
  obtain⟨la,lk,lc,rfl⟩:=Seq.form hg.1
  obtain⟨ra,rk,rc,rfl⟩:=Seq.form hg.2
  have kB1:=kB.mv m1 (by omega) (by simp [Value.ownBlock])
  have M1:=M0.trans (Nx.refl _ _) m1
  have c4:w1.cell? ⟨w.heap.size+1+1,4,none⟩=some (.int .i64 0):=hr1.blk.cell 4
  have lq:=hr1.lt
  have e0:w1.cell? ⟨w.heap.size,0,none⟩=some (.slice none 0 0):=kB1.cell 0
  have e1:w1.cell? ⟨w.heap.size,1,none⟩=some (.slice none 0 0):=kB1.cell 1
  have ff:∀ i,w1.frozen? ⟨w.heap.size,i,none⟩=false:=kB1.frozen
  have lB:w.heap.size<w1.heap.size:=by have:=m1.size;rw [hu] at this;omega
  have kB9:=((kB1.set 0 (.slice la lk lc)).set 1 (.slice ra rk rc)).alloc (.cells #[.slice la lk lc,.slice ra rk rc] 49)
  have z0:(((w1.setCell ⟨w.heap.size,0,none⟩ (.slice la lk lc)).setCell ⟨w.heap.size,1,none⟩ (.slice ra rk rc)).alloc (.cells #[.slice la lk lc,.slice ra rk rc] 49)).cell? ⟨w.heap.size,0,none⟩=some (.slice la lk lc):=kB9.cell 0
  have z1:(((w1.setCell ⟨w.heap.size,0,none⟩ (.slice la lk lc)).setCell ⟨w.heap.size,1,none⟩ (.slice ra rk rc)).alloc (.cells #[.slice la lk lc,.slice ra rk rc] 49)).cell? ⟨w.heap.size,1,none⟩=some (.slice ra rk rc):=kB9.cell 1
  go_wp2_with fail
  refine bodyPost_ret (v:=.tuple #[.agg #[.slice la lk lc,.slice ra rk rc],.int .i64 0,.int .i64 0]) (by simp [results,Tryz.results17,go_sem,z0,z1]) rfl ?_
  refine⟨_,_,sg1,0,0,rfl,((M1.new (Nat.le_refl _) _ _).new (Nat.le_refl _) _ _).alloc _,?_⟩
  rw [HR.out]
  refine⟨rfl,rfl,?_,?_⟩
  ·refine Seq.move hg.1 (fun b hb=>?_) (fun b hb=>⟨by have:=hb.1;omega,by have:=hb.2.1;simp [World.setCell];omega,hb.2.2⟩) (fun v x hk=>lv_movable _ _ _ _ v x (fun b hb=>?_) (fun b hb=>⟨by have:=hb.1;omega,by have:=hb.2.1;simp [World.setCell];omega,hb.2.2⟩) hk)
   all_goals
    have hbb:b≠w.heap.size:=by have:=hb.1;omega
    rw [Below.heap_alloc _ _ _ (by have:=hb.2.1;simpa [World.setCell] using this),Below.heap_setCell _ _ _ _ hbb,Below.heap_setCell _ _ _ _ hbb]
  ·refine Seq.move hg.2 (fun b hb=>?_) (fun b hb=>⟨by have:=hb.1;omega,by have:=hb.2.1;simp [World.setCell];omega,hb.2.2⟩) (fun v x hk=>rule_movable YR 9 _ _ _ _ v x (fun b hb=>?_) (fun b hb=>⟨by have:=hb.1;omega,by have:=hb.2.1;simp [World.setCell];omega,hb.2.2⟩) hk)
   all_goals
    have hbb:b≠w.heap.size:=by have:=hb.1;omega
    rw [Below.heap_alloc _ _ _ (by have:=hb.2.1;simpa [World.setCell] using this),Below.heap_setCell _ _ _ _ hbb,Below.heap_setCell _ _ _ _ hbb]
end
section
open Go.RowKit
open Tr
theorem rread_ok {s:ByteArray}{g:Lx.Gr}{ts:List Lx.Tk}(h:rread s=.ok (g,ts)):Lx.parse s=.ok g:=by
 unfold rread at h
 unfold Lx.parse
 split at h
 ·cases h
 ·rename_i h1
  rw [if_neg h1,h]
theorem rread_err {s:ByteArray}{e:Nat × Nat}(h:rread s=.error e):Lx.parse s=.error e:=by
 unfold rread at h
 unfold Lx.parse
 split at h
 ·rename_i h1;rw [if_pos h1];cases h;rfl
 ·rename_i h1
  rw [if_neg h1,h]
def DMakeEnds (s:ByteArray)(w:World)(e:Ending)(w':World):Prop :=
 ∃ v,∃ n a:Nat,e=.returned (.tuple #[v,.int .i64 (n:Int),.int .i64 (a:Int)])∧Below w.heap.size w w'∧(∀ g,Lx.mkR s=.ok g→n=0∧a=0∧PlIn w' v (Lx.tokG g) (Lx.namG g) (Lx.prodG g) ((Lx.tokG g).map fun t=>(Lx.bkOf g t).1) ((Lx.tokG g).map fun t=>(Lx.bkOf g t).2))∧(∀ x,Lx.mkR s=.error x→n=x.1∧a=x.2∧v=.agg #[.slice none 0 0,.slice none 0 0,.slice none 0 0,.slice none 0 0,.slice none 0 0])
theorem _root_.Go.RowKit.Below.put5 {B:Nat}{a w:World}(h:Below B a w){r:Nat}(hr:B≤r)(x0 x1 x2 x3 x4:Value):Below B a (((((w.setCell ⟨r,0,none⟩ x0).setCell ⟨r,1,none⟩ x1).setCell ⟨r,2,none⟩ x2).setCell ⟨r,3,none⟩ x3).setCell ⟨r,4,none⟩ x4) :=
 ((((h.setCell (p:=⟨r,0,none⟩) hr x0).setCell (p:=⟨r,1,none⟩) hr x1).setCell (p:=⟨r,2,none⟩) hr x2).setCell (p:=⟨r,3,none⟩) hr x3).setCell (p:=⟨r,4,none⟩) hr x4
theorem put5_keep (w:World)(r:Nat)(x0 x1 x2 x3 x4:Value)(o:Obj)(g:Nat)(hl:g<w.heap.size)(hn:g≠r):((((((w.setCell ⟨r,0,none⟩ x0).setCell ⟨r,1,none⟩ x1).setCell ⟨r,2,none⟩ x2).setCell ⟨r,3,none⟩ x3).setCell ⟨r,4,none⟩ x4).alloc o).heap[g]?=w.heap[g]?:=by
 rw [Below.heap_alloc _ _ _ (by simp [World.setCell];exact hl),Below.heap_setCell _ _ _ _ hn,Below.heap_setCell _ _ _ _ hn,Below.heap_setCell _ _ _ _ hn,Below.heap_setCell _ _ _ _ hn,Below.heap_setCell _ _ _ _ hn]
theorem mv_below {q:Nat}{w w':World}(h:Mv q (.slice none 0 0) w w')(hq:w.heap.size≤q):Below w.heap.size w w':=⟨h.os,h.tape,h.output,h.size,fun k hk=>h.block k hk (by omega) (by simp [Value.ownBlock])⟩
theorem DG.fit {F:Nat→Prop}{w:World}{vL vR:Value}{g:Lx.Gr}(h:DG F w vL vR g){s:ByteArray}(hp:Lx.parse s=.ok g)(hc:(Lx.chk g).1=0):Lx.Fit g:=by
 obtain⟨h1,h2,h3⟩:=Lx.parse_is hp
 obtain⟨h4,h5⟩:=Lx.parse_took hp
 have h6:=Lx.chk_zero hc
 refine⟨h1,h2,h3,fun r hr=>?_,h4,h5,h6.2,h6.1⟩
 obtain⟨i,hi,rfl⟩:=List.mem_iff_getElem.1 hr
 obtain⟨_,_,_,-,-,hA,-⟩:=h.rule hi
 exact altsIn_dp hA
set_option maxHeartbeats 4000000 in
set_option maxRecDepth 100000 in
theorem docMake_any (s:ByteArray)(w:World):Calls Tryz.prog 10 #[.string s] w (DMakeEnds s w):=by
 go_enter Tryz.func10,Tryz.ntmps10
 go_wp2_with fail
 obtain⟨W,hW⟩:∃ W,W=w.alloc (.cells #[.slice none 0 0,.slice none 0 0,.slice none 0 0,.slice none 0 0,.slice none 0 0] 32):=⟨_,rfl⟩
 rw [←hW]
 have kR:Blk W w.heap.size #[.slice none 0 0,.slice none 0 0,.slice none 0 0,.slice none 0 0,.slice none 0 0] 32:=by rw [hW];exact Blk.new w _ 32
 have hB:Below w.heap.size w W:=by rw [hW];exact (Below.refl _ _).alloc (Nat.le_refl _) _
 have hWs:W.heap.size=w.heap.size+1:=by rw [hW];simp
 clear hW
 refine (rparse_any s W).mono ?_
 intro e w1 he
 obtain⟨vL,vR,sgx,n,a,rfl,hMv,hm⟩:=he
 have hb1:=mv_below hMv (by omega)
 clear hMv
 have hs1:=hb1.size
 have hbw1:Below w.heap.size w w1:=hB.trans (hb1.mono (by omega))
 have kR1:Blk w1 w.heap.size _ 32:=(hb1.block _ (by omega)).trans kR
 cases hr:rread s with
 | error x =>
  rw [hr] at hm
  obtain⟨m,b⟩:=x
  obtain⟨rfl,rfl,rfl,rfl⟩:=hm
  have hpe:=rread_err hr
  have hpos:=Lx.parse_pos hpe
  have HE:Hid (Lx.mkR s=.error (n,a)):=Lx.mkR_err hpe
  have hnb:((n:Int) == 0)=false:=beq_eq_false_iff_ne.2 (by omega)
  have hnn:((n:Int) != 0)=true:=bne_iff_ne.2 (by omega)
  have hnd:¬ (n:Int)=0:=by omega
  have r0:w1.cell? ⟨w.heap.size,0,none⟩=some (.slice none 0 0):=kR1.cell 0
  have r1:w1.cell? ⟨w.heap.size,1,none⟩=some (.slice none 0 0):=kR1.cell 1
  have r2:w1.cell? ⟨w.heap.size,2,none⟩=some (.slice none 0 0):=kR1.cell 2
  have r3:w1.cell? ⟨w.heap.size,3,none⟩=some (.slice none 0 0):=kR1.cell 3
  have r4:w1.cell? ⟨w.heap.size,4,none⟩=some (.slice none 0 0):=kR1.cell 4
  have rf:∀ i,w1.frozen? ⟨w.heap.size,i,none⟩=false:=kR1.frozen
  have lr:w.heap.size<w1.heap.size:=kR1.lt
  clear hr hpe hpos
  go_wp2_with fail
  have kF:=((((((kR1.set 0 (.slice none 0 0)).set 1 (.slice none 0 0)).set 2 (.slice none 0 0)).set 3 (.slice none 0 0)).set 4 (.slice none 0 0)).alloc (.cells #[.slice none 0 0,.slice none 0 0] 49))
  have s0:=kF.cell 0
  have s1:=kF.cell 1
  have s2:=kF.cell 2
  have s3:=kF.cell 3
  have s4:=kF.cell 4
  simp at s0 s1 s2 s3 s4
  refine bodyPost_ret (v:=.tuple #[.agg #[.slice none 0 0,.slice none 0 0,.slice none 0 0,.slice none 0 0,.slice none 0 0],.int .i64 (n:Int),.int .i64 (a:Int)]) (by simp [results,Tryz.results10,go_sem,s0,s1,s2,s3,s4]) rfl ⟨_,n,a,rfl,?_,?_,?_⟩
  ·exact ((hbw1.put5 (Nat.le_refl _) _ _ _ _ _)).alloc (by simp;omega) _
  ·intro g hg;rw [HE.out] at hg;cases hg
  ·intro x hx;rw [HE.out] at hx;cases hx;exact⟨rfl,rfl,rfl⟩
 | ok x =>
  obtain⟨g,ts⟩:=x
  rw [hr] at hm
  obtain⟨rfl,rfl,hgi⟩:=hm
  have hpe:=rread_ok hr
  have hd1:DG (Fp W.heap.size sgx w1) w1 vL vR g:=⟨fun b hb=>hb.2.1,hgi.1,hgi.2⟩
  clear hr hgi
  obtain⟨la,lc,hvL,-⟩:=hd1.lenL
  obtain⟨ra,rc,hvR,-⟩:=hd1.lenR
  subst hvL hvR
  have hsz:=(Lx.parse_took hpe).1
  have hne:=(Lx.parse_is hpe).2.2
  have hlw:=Lx.lvWords_len g
  have hrl:g.rules.length≤Lx.sizeG g.rules:=Lx.len_sum (fun r:Lx.Rl=>1+Lx.sizeA 9 r.alts) fun _ _=>by omega
  generalize Fp W.heap.size sgx w1=F at hd1
  have ha1:Below w1.heap.size w1 (w1.alloc (.cells #[.slice la g.levels.length lc,.slice ra g.rules.length rc] 49)):=(Below.refl _ _).alloc (Nat.le_refl _) _
  have hq:=docCheck_any (hd1.below ha1) (by omega) (by omega) hne
  go_wp2_with fail
  refine hq.mono ?_
  rintro e w2 ⟨rfl,hb2⟩
  have kg2:Blk w2 w1.heap.size #[.slice la g.levels.length lc,.slice ra g.rules.length rc] 49:=(hb2.block _ (by simp)).trans (Blk.new w1 _ 49)
  have hb12:Below w1.heap.size w1 w2:=ha1.trans (hb2.mono (by simp))
  have hs2:=hb12.size
  have hd2:=hd1.below hb12
  have hbw2:Below w.heap.size w w2:=hbw1.trans (hb12.mono (by omega))
  have kR2:Blk w2 w.heap.size _ 32:=(hb12.block _ (by omega)).trans kR1
  clear hq ha1 hd1
  unfold prV
  by_cases hc:(Lx.chk g).1=0
  ·have hf:=hd2.fit hpe hc
   have hcb:(((Lx.chk g).1:Int) == 0)=true:=by simp [hc]
   have hcn:(((Lx.chk g).1:Int) != 0)=false:=by simp [hc]
   have HC:Hid ((Lx.chk g).1=0):=hc
   clear hc
   generalize hce:Lx.chk g=cr at hcb hcn
   clear hce
   have ha2:Below w2.heap.size w2 (w2.alloc (.cells #[.int .i64 (cr.1:Int),.int .i64 (cr.2:Int)] 74)):=(Below.refl _ _).alloc (Nat.le_refl _) _
   have hq:=docOf_any (hd2.below ha2) hf
   have c20:w2.cell? ⟨w1.heap.size,0,none⟩=some (.slice la g.levels.length lc):=kg2.cell 0
   have c21:w2.cell? ⟨w1.heap.size,1,none⟩=some (.slice ra g.rules.length rc):=kg2.cell 1
   have lg2:w1.heap.size<w2.heap.size:=kg2.lt
   go_wp2_with fail
   refine hq.mono ?_
   rintro e w3 ⟨v,rfl,hpl,hb3⟩
   have hb23:Below w2.heap.size w2 w3:=ha2.trans (hb3.mono (by simp))
   have hs3:=hb23.size
   have hbw3:Below w.heap.size w w3:=hbw2.trans (hb23.mono (by omega))
   have kR3:Blk w3 w.heap.size _ 32:=(hb23.block _ (by omega)).trans kR2
   obtain⟨vT,vN,vP,vB,vK,rfl,z2,z3,z4,z5,z6⟩:=hpl
   obtain⟨ps,p1,p2,p3⟩:=z4
   obtain⟨xa0,xc0,hx0,-⟩:=own_len z2
   obtain⟨xa1,xc1,hx1,-⟩:=own_len z3
   obtain⟨xa2,xc2,hx2,hm2⟩:=own_len p2
   obtain⟨xa3,xc3,hx3,-⟩:=own_len z5
   obtain⟨xa4,xc4,hx4,-⟩:=own_len z6
   subst hx0 hx1 hx2 hx3 hx4
   unfold maxLen at hm2
   have r0:w3.cell? ⟨w.heap.size,0,none⟩=some (.slice none 0 0):=kR3.cell 0
   have r1:w3.cell? ⟨w.heap.size,1,none⟩=some (.slice none 0 0):=kR3.cell 1
   have r2:w3.cell? ⟨w.heap.size,2,none⟩=some (.slice none 0 0):=kR3.cell 2
   have r3:w3.cell? ⟨w.heap.size,3,none⟩=some (.slice none 0 0):=kR3.cell 3
   have r4:w3.cell? ⟨w.heap.size,4,none⟩=some (.slice none 0 0):=kR3.cell 4
   have rf:∀ i,w3.frozen? ⟨w.heap.size,i,none⟩=false:=kR3.frozen
   have lr:w.heap.size<w3.heap.size:=kR3.lt
   have nR:∀ {e s:Nat} {v:Value} {n:Nat} {xs:List Value},w3.ownsRow 0 e s v n xs→e≠32→∀ g,v.ownBlock=some g→g≠w.heap.size:=by
    intro e s v n xs ho he g hg eg
    rcases ho.2 with ⟨rfl,-⟩ | ⟨g',cap,cur,rfl,-,hh,-⟩
    ·cases hg
    ·have e1:g'=g:=Option.some.inj hg
     have hh2:w3.heap[w.heap.size]?=some (.cells cur e (0,0)):=by rw [←eg,←e1];exact hh
     have kRx:=kR3
     unfold Blk at kRx
     rw [hh2] at kRx
     have e2:=Option.some.inj kRx
     injection e2 with _ e3
     exact he e3
   by_cases hmany:200<(Lx.prodG g).length
   ·have HE:Hid (Lx.mkR s=.error (8,0)):=Lx.mkR_many hpe HC.out hmany
    go_wp2_with fail
    have kF:=((((((kR3.set 0 (.slice none 0 0)).set 1 (.slice none 0 0)).set 2 (.slice none 0 0)).set 3 (.slice none 0 0)).set 4 (.slice none 0 0)).alloc (.cells #[.slice xa0 (Lx.tokG g).length xc0,.slice xa1 (Lx.namG g).length xc1,.slice xa2 (Lx.prodG g).length xc2,.slice xa3 ((Lx.tokG g).map fun t=>(Lx.bkOf g t).1).length xc3,.slice xa4 ((Lx.tokG g).map fun t=>(Lx.bkOf g t).2).length xc4] 32))
    have s0:=kF.cell 0
    have s1:=kF.cell 1
    have s2:=kF.cell 2
    have s3:=kF.cell 3
    have s4:=kF.cell 4
    simp at s0 s1 s2 s3 s4
    refine bodyPost_ret (v:=.tuple #[.agg #[.slice none 0 0,.slice none 0 0,.slice none 0 0,.slice none 0 0,.slice none 0 0],.int .i64 8,.int .i64 0]) (by simp [results,Tryz.results10,go_sem,s0,s1,s2,s3,s4]) rfl ⟨_,8,0,rfl,?_,?_,?_⟩
    ·exact ((hbw3.put5 (Nat.le_refl _) _ _ _ _ _)).alloc (by simp;omega) _
    ·intro g hg;rw [HE.out] at hg;cases hg
    ·intro x hx;rw [HE.out] at hx;cases hx;exact⟨rfl,rfl,rfl⟩
   ·have HE:Hid (Lx.mkR s=.ok g):=Lx.mkR_ok hpe HC.out hmany
    go_wp2_with fail
    have kF:=((((((kR3.set 0 (.slice xa0 (Lx.tokG g).length xc0)).set 1 (.slice xa1 (Lx.namG g).length xc1)).set 2 (.slice xa2 (Lx.prodG g).length xc2)).set 3 (.slice xa3 ((Lx.tokG g).map fun t=>(Lx.bkOf g t).1).length xc3)).set 4 (.slice xa4 ((Lx.tokG g).map fun t=>(Lx.bkOf g t).2).length xc4)).alloc (.cells #[.slice xa0 (Lx.tokG g).length xc0,.slice xa1 (Lx.namG g).length xc1,.slice xa2 (Lx.prodG g).length xc2,.slice xa3 ((Lx.tokG g).map fun t=>(Lx.bkOf g t).1).length xc3,.slice xa4 ((Lx.tokG g).map fun t=>(Lx.bkOf g t).2).length xc4] 32))
    have s0:=kF.cell 0
    have s1:=kF.cell 1
    have s2:=kF.cell 2
    have s3:=kF.cell 3
    have s4:=kF.cell 4
    simp at s0 s1 s2 s3 s4
    refine bodyPost_ret (v:=.tuple #[.agg #[.slice xa0 (Lx.tokG g).length xc0,.slice xa1 (Lx.namG g).length xc1,.slice xa2 (Lx.prodG g).length xc2,.slice xa3 ((Lx.tokG g).map fun t=>(Lx.bkOf g t).1).length xc3,.slice xa4 ((Lx.tokG g).map fun t=>(Lx.bkOf g t).2).length xc4],.int .i64 0,.int .i64 0]) (by simp [results,Tryz.results10,go_sem,s0,s1,s2,s3,s4]) rfl ⟨_,0,0,rfl,?_,?_,?_⟩
    ·exact ((hbw3.put5 (Nat.le_refl _) _ _ _ _ _)).alloc (by simp;omega) _
    ·intro g' hg
     rw [HE.out] at hg
     cases hg
     exact⟨rfl,rfl,_,_,_,_,_,rfl,own_move z2 fun g hg=>put5_keep w3 w.heap.size _ _ _ _ _ _ g (z2.lt g hg).2 (nR z2 (by decide) g hg),own_move z3 fun g hg=>put5_keep w3 w.heap.size _ _ _ _ _ _ g (z3.lt g hg).2 (nR z3 (by decide) g hg),⟨ps,p1,own_move p2 fun g hg=>put5_keep w3 w.heap.size _ _ _ _ _ _ g (p2.lt g hg).2 (nR p2 (by decide) g hg),fun q hq=>⟨own_move (p3 q hq).1 fun g hg=>put5_keep w3 w.heap.size _ _ _ _ _ _ g ((p3 q hq).1.lt g hg).2 (nR (p3 q hq).1 (by decide) g hg),fun _ _=>trivial⟩⟩,own_move z5 fun g hg=>put5_keep w3 w.heap.size _ _ _ _ _ _ g (z5.lt g hg).2 (nR z5 (by decide) g hg),own_move z6 fun g hg=>put5_keep w3 w.heap.size _ _ _ _ _ _ g (z6.lt g hg).2 (nR z6 (by decide) g hg)⟩
    ·intro x hx;rw [HE.out] at hx;cases hx
  ·have HE:Hid (Lx.mkR s=.error (Lx.chk g)):=Lx.mkR_chk hpe hc
   have hcb:(((Lx.chk g).1:Int) == 0)=false:=beq_eq_false_iff_ne.2 (by omega)
   have hcn:(((Lx.chk g).1:Int) != 0)=true:=bne_iff_ne.2 (by omega)
   have hcd:¬ ((Lx.chk g).1:Int)=0:=by omega
   clear hc
   generalize Lx.chk g=cr at HE hcb hcn hcd
   have r0:w2.cell? ⟨w.heap.size,0,none⟩=some (.slice none 0 0):=kR2.cell 0
   have r1:w2.cell? ⟨w.heap.size,1,none⟩=some (.slice none 0 0):=kR2.cell 1
   have r2:w2.cell? ⟨w.heap.size,2,none⟩=some (.slice none 0 0):=kR2.cell 2
   have r3:w2.cell? ⟨w.heap.size,3,none⟩=some (.slice none 0 0):=kR2.cell 3
   have r4:w2.cell? ⟨w.heap.size,4,none⟩=some (.slice none 0 0):=kR2.cell 4
   have rf:∀ i,w2.frozen? ⟨w.heap.size,i,none⟩=false:=kR2.frozen
   have lr:w.heap.size<w2.heap.size:=kR2.lt
   go_wp2_with fail
   go_region
   all_goals
    have kF:=((((((kR2.set 0 (.slice none 0 0)).set 1 (.slice none 0 0)).set 2 (.slice none 0 0)).set 3 (.slice none 0 0)).set 4 (.slice none 0 0)).alloc (.cells #[.int .i64 (cr.1:Int),.int .i64 (cr.2:Int)] 74)).drew
    have s0:=kF.cell 0
    have s1:=kF.cell 1
    have s2:=kF.cell 2
    have s3:=kF.cell 3
    have s4:=kF.cell 4
    simp at s0 s1 s2 s3 s4
    go_wp2_with fail
    refine bodyPost_ret (v:=.tuple #[.agg #[.slice none 0 0,.slice none 0 0,.slice none 0 0,.slice none 0 0,.slice none 0 0],.int .i64 (cr.1:Int),.int .i64 (cr.2:Int)]) (by simp [results,Tryz.results10,go_sem,s0,s1,s2,s3,s4]) rfl ⟨_,cr.1,cr.2,rfl,?_,?_,?_⟩
    ·exact (((hbw2.put5 (Nat.le_refl _) _ _ _ _ _)).alloc (by simp;omega) _).drew
    ·intro g hg;rw [HE.out] at hg;cases hg
    ·intro x hx;rw [HE.out] at hx;cases hx;exact⟨rfl,rfl,rfl⟩
end
section
open Go.RowKit
open Tr
theorem Lx.mkR_inv {s:ByteArray}{g:Lx.Gr}(h:Lx.mkR s=.ok g):Lx.parse s=.ok g∧(Lx.chk g).1=0∧(Lx.prodG g).length≤200:=by
 cases hp:Lx.parse s with
 | error e=>rw [Lx.mkR_err hp] at h;cases h
 | ok g' =>
  by_cases hc:(Lx.chk g').1=0
  ·by_cases hm:200<(Lx.prodG g').length
   ·rw [Lx.mkR_many hp hc hm] at h;cases h
   ·rw [Lx.mkR_ok hp hc hm] at h;cases h;exact⟨rfl,hc,by omega⟩
  ·rw [Lx.mkR_chk hp hc] at h;cases h
theorem fit_any {s:ByteArray}{g:Lx.Gr}(w:World)(h:Lx.mkR s=.ok g):Lx.Fit g:=by
 obtain⟨hp,hc,-⟩:=Lx.mkR_inv h
 obtain⟨e,w1,-,⟨vL,vR,sgx,n,a,-,-,hm⟩,-⟩:=rparse_any s w []
 cases hr:rread s with
 | error x=>have:=rread_err hr;rw [hp] at this;cases this
 | ok x =>
  obtain⟨g',ts⟩:=x
  rw [hr] at hm
  obtain⟨-,-,hgi⟩:=hm
  have:=rread_ok hr
  rw [hp] at this
  cases this
  have hd1:DG (Fp w.heap.size sgx w1) w1 vL vR g:=⟨fun b hb=>hb.2.1,hgi.1,hgi.2⟩
  exact hd1.fit hp hc
def SetsDP (w w':World)(nT n:Nat)(P:List Lx.Pd)(e:Ending):Prop:=∃ gE E vF B m,e=.returned (.tuple #[.slice (some ⟨gE,0,none⟩) n n,vF,.int .i64 0,.int .i64 0])∧Blk w' gE (boolsV E) 4∧w.heap.size≤gE∧E.length=n∧E=Lx.itr (Lx.passE P) (P.length+1) (List.replicate n false)∧B=Lx.itr (Lx.passF P E) m (Lx.alone nT n)∧Lx.passF P E B=B∧PtR w.heap.size w' vF (B.map Lx.membersL)
def DSetsEnds (s:ByteArray)(w:World)(e:Ending)(w':World):Prop :=
 Below w.heap.size w w'∧(∀ x,Lx.mkR s=.error x→e=.returned (.tuple #[.slice none 0 0,.slice none 0 0,.int .i64 (x.1:Int),.int .i64 (x.2:Int)]))∧(∀ g,Lx.mkR s=.ok g→SetsDP w w' (Lx.tokG g).length ((Lx.tokG g).length+(Lx.namG g).length) (Lx.prodG g) e)
theorem blk5e (w:World)(x0 x1 x2 x3 x4:Value):Blk (w.alloc (.cells #[x0,x1,x2,x3,x4] 32)) w.heap.size #[x0,x1,x2,x3,x4] 32:=Blk.new w _ 32
set_option maxHeartbeats 4000000 in
set_option maxRecDepth 100000 in
theorem dsets_any (s:ByteArray)(w:World):Calls Tryz.prog 15 #[.string s] w (DSetsEnds s w):=by
 have q1:=docMake_any s w
 have HFIT:Hid (∀ g,Lx.mkR s=.ok g→SetOk g):=fun g hg=>setOk_of (fit_any w hg)
 obtain⟨i3,hi3,hz30,hz31,hz32⟩:=info_parts Tryz.info3
 obtain⟨i0,hii,hz0,hz1,hz2⟩:=info_parts Tryz.info24
 go_enter Tryz.func15,Tryz.ntmps15
 go_wp2_with fail
 refine q1.mono ?_
 rintro e w1 ⟨v,n,a,rfl,hb1,hok1,her1⟩
 clear q1
 cases hr:Lx.mkR s with
 | error x =>
  obtain⟨rfl,rfl,rfl⟩:=her1 x hr
  have hp:=Lx.mkR_pos hr
  have HR:Hid (Lx.mkR s=.error x):=hr
  have hnb:((x.1:Int) != 0)=true:=bne_iff_ne.2 (by omega)
  have hnd:¬ (x.1:Int)=0:=by omega
  clear hr her1 hok1 hp
  go_wp2_with fail
  refine bodyPost_ret (v:=.tuple #[.slice none 0 0,.slice none 0 0,.int .i64 (x.1:Int),.int .i64 (x.2:Int)]) (by simp [results,Tryz.results15,go_sem]) rfl ?_
  refine⟨hb1.alloc hb1.size _,fun y hy=>?_,fun g hg=>?_⟩
  ·rw [HR.out] at hy;cases hy;rfl
  ·rw [HR.out] at hg;cases hg
 | ok g =>
  obtain⟨rfl,rfl,hP⟩:=hok1 g hr
  obtain⟨o1,o2,o3⟩:=HFIT.out g hr
  have HPL:Hid ((Lx.prodG g).length≤200):=(Lx.mkR_inv hr).2.2
  obtain⟨vT,vN,vP,vB,vK,rfl,hT,hN,hPP,hB,hK⟩:=hP
  obtain⟨ta,tc,rfl,-⟩:=own_len hT
  obtain⟨na,nc,rfl,-⟩:=own_len hN
  obtain⟨ps,p1,p2,-⟩:=id hPP
  obtain⟨pa,pc,rfl,-⟩:=own_len p2
  obtain⟨ba,bc,rfl,-⟩:=own_len hB
  obtain⟨ka,kc,rfl,-⟩:=own_len hK
  have HR:Hid (Lx.mkR s=.ok g):=hr
  clear hr her1 hok1 hT hN hB hK p1 p2
  generalize hNT:(Lx.tokG g).length=nT at *
  generalize hNN:(Lx.namG g).length=nN at *
  have HNT:Hid _:=hNT
  have HNN:Hid _:=hNN
  clear hNT hNN
  generalize ((Lx.tokG g).map fun t=>(Lx.bkOf g t).1).length=nB at *
  generalize ((Lx.tokG g).map fun t=>(Lx.bkOf g t).2).length=nK at *
  obtain⟨W,hW⟩:∃ W,W=w1.alloc (.cells #[.slice ta nT tc,.slice na nN nc,.slice pa (Lx.prodG g).length pc,.slice ba nB bc,.slice ka nK kc] 32):=⟨_,rfl⟩
  have kW:Blk W w1.heap.size #[.slice ta nT tc,.slice na nN nc,.slice pa (Lx.prodG g).length pc,.slice ba nB bc,.slice ka nK kc] 32:=by rw [hW];exact blk5e _ _ _ _ _ _
  have hbW:Below w1.heap.size w1 W:=by rw [hW];exact (Below.refl _ _).alloc (Nat.le_refl _) _
  have hin:SetInD W nT nN (.slice pa (Lx.prodG g).length pc) (Lx.prodG g):=⟨hPP.below hbW,o1,o2,by have:=HPL.out;omega⟩
  have q2:=dfirst_any (ta:=ta) (na:=na) (tc:=tc) (nc:=nc) (ba:=ba) (ka:=ka) (nb:=nB) (bc:=bc) (nk:=nK) (kc:=kc) hin
  have c0:W.cell? ⟨w1.heap.size,0,none⟩=some (.slice ta nT tc):=kW.cell 0
  have c1:W.cell? ⟨w1.heap.size,1,none⟩=some (.slice na nN nc):=kW.cell 1
  have c2:W.cell? ⟨w1.heap.size,2,none⟩=some (.slice pa (Lx.prodG g).length pc):=kW.cell 2
  have c3:W.cell? ⟨w1.heap.size,3,none⟩=some (.slice ba nB bc):=kW.cell 3
  have c4:W.cell? ⟨w1.heap.size,4,none⟩=some (.slice ka nK kc):=kW.cell 4
  have hnT:nT≤100000:=by omega
  have hs1:=hb1.size
  have hsW:=hbW.size
  have lW:=kW.lt
  go_wp2_with fail
  rw [←hW]
  clear hW
  go_wp2_with fail
  refine q2.mono ?_
  rintro e w2 ⟨vF,gs,B,m,rfl,hBm,hBs,hBD,hgl,hb2⟩
  clear q2 c0 c1 c2 c3 c4
  have kW2:Blk w2 w1.heap.size _ 32:=(hb2.block _ kW.lt).trans kW
  have hin2:=hin.below hb2
  have hs2:=hb2.size
  obtain⟨fa,fc,rfl,-⟩:=own_len hBD.outer
  have HBM:Hid _:=hBm
  have HBS:Hid _:=hBs
  clear hBm hBs hin hPP o1 o3
  have qs:=fun x:World=>dsize_any (w:=x) (ta:=ta) (na:=na) (pa:=pa) (ba:=ba) (ka:=ka) (tc:=tc) (nc:=nc) (np:=(Lx.prodG g).length) (pc:=pc) (nb:=nB) (bc:=bc) (nk:=nK) (kc:=kc) o2
  have qe:=fun (x:World) (hx:Below w2.heap.size w2 x)=>dempty_any (ta:=ta) (na:=na) (tc:=tc) (nc:=nc) (ba:=ba) (ka:=ka) (nb:=nB) (bc:=bc) (nk:=nK) (kc:=kc) (hin2.below hx)
  obtain⟨N,hN⟩:∃ N,N=nT+nN:=⟨_,rfl⟩
  have HN:Hid (N=nT+nN):=hN
  rw [←hN] at qs qe o2 HBM HBS hgl
  clear hN hin2
  have hlB:B.length=N:=by rw [hBD.len];exact hgl
  go_wp2_with fail
  go_loopg [10,11] N (fun k v i wr=>∃ (j:Nat) (acc:List (List Nat)),j+k=N∧i=.int .i64 j∧PtR w2.heap.size wr v acc∧Below w2.heap.size w2 wr∧Hid (acc=(B.take j).map Lx.membersL))
  case atStart=>exact⟨0,[],by omega,rfl,⟨[],rfl,World.ownsRow_nil _ _ _ _,(fun q hq=>by cases hq),(fun q hq=>by cases hq)⟩,Below.refl _ _,rfl⟩
  case round =>
   revert wr
   intro wz hrel
   obtain⟨j,acc,hkj,rfl,hpt,hbz,HA⟩:=hrel
   obtain⟨oa,oc,rfl,-⟩:=hpt.len
   have hsz:=hbz.size
   have kWz:Blk wz w1.heap.size _ 32:=(hbz.block _ kW2.lt).trans kW2
   have c0:wz.cell? ⟨w1.heap.size,0,none⟩=some (.slice ta nT tc):=kWz.cell 0
   have c1:wz.cell? ⟨w1.heap.size,1,none⟩=some (.slice na nN nc):=kWz.cell 1
   have c2:wz.cell? ⟨w1.heap.size,2,none⟩=some (.slice pa (Lx.prodG g).length pc):=kWz.cell 2
   have c3:wz.cell? ⟨w1.heap.size,3,none⟩=some (.slice ba nB bc):=kWz.cell 3
   have c4:wz.cell? ⟨w1.heap.size,4,none⟩=some (.slice ka nK kc):=kWz.cell 4
   have q3:=qs wz
   have hal:acc.length≤j:=by rw [HA.out,List.length_map,List.length_take];omega
   go_wp2_with fail
   refine q3.mono ?_
   rintro e w3 ⟨rfl,hb3⟩
   clear q3 c0 c1 c2 c3 c4
   have hs3:=hb3.size
   have kW3:Blk w3 w1.heap.size _ 32:=(hb3.block _ kWz.lt).trans kWz
   have hpt3:PtR w2.heap.size w3 (.slice oa acc.length oc) acc:=hpt.move fun g _ hg=>hb3.block g hg
   have hb23:Below w2.heap.size w2 w3:=hbz.trans (hb3.mono hsz)
   clear hpt hbz hb3 kWz
   by_cases hlt:j<N
   ·have hBD3:=hBD.move fun g hg=>hb23.block g hg
    obtain⟨gO,capO,hvO,cO,kR,lR⟩:=hBD3.at (i:=j) (by omega)
    cases hvO
    have hrow:Lx.rowAt B j=B[j]'(by omega):=Lx.rowAt_eq (by omega)
    have HTK:Hid ((B.take (j+1)).map Lx.membersL=acc++[Lx.membersL (Lx.rowAt B j)]):=by
     show _=_
     rw [HA.out,List.take_succ_eq_append_getElem (by omega),List.map_append,hrow];rfl
    have hgz:=hBD3.lt (List.getElem_mem (l:=gs) (n:=j) (by omega))
    have lO:=(hBD3.outer.lt gO rfl).2
    clear HA hrow
    generalize gs[j]'(by omega)=ga at cO kR hgz
    generalize Lx.rowAt B j=R at kR lR HTK
    have i1:(0:Int)≤(j:Int):=by omega
    have i2:(j:Int)<(gs.length:Int):=by omega
    go_wp2_with fail
    go_loopg [12,13] nT (fun k v i wr=>∃ (t:Nat) (l:List Nat),t+k=nT∧i=.int .i64 t∧IR w3.heap.size wr v l∧Below w3.heap.size w3 wr∧l.length≤t∧Hid (l=(List.range t).filter fun k=>Lx.at? R k))
    case atStart=>exact⟨0,[],by omega,rfl,World.ownsRow_nil _ _ _ _,Below.refl _ _,by simp,rfl⟩
    case round =>
     obtain⟨t,l,hkt,rfl,ho,hbr,hll,HL⟩:=hrel
     obtain⟨ra,rc,rfl,-⟩:=own_len ho
     have hsr:=hbr.size
     have kWr:Blk wr w1.heap.size _ 32:=(hbr.block _ kW3.lt).trans kW3
     have d0:wr.cell? ⟨w1.heap.size,0,none⟩=some (.slice ta nT tc):=kWr.cell 0
     have dO:wr.cell? ⟨gO,j,none⟩=some (.slice (some ⟨ga,0,none⟩) nT nT):=cell_below hbr cO
     have kRr:Blk wr ga (boolsV R) 4:=(hbr.block _ hgz).trans kR
     by_cases hltt:t<nT
     ·have cR:wr.cell? ⟨ga,t,none⟩=some (.bool (Lx.at? R t)):=(kRr.cell t).trans (bools_get R (by omega))
      have j1:(0:Int)≤(t:Int):=by omega
      have j2:(t:Int)<(nT:Int):=by omega
      have hst:(List.range (t+1)).filter (fun k=>Lx.at? R k)=(List.range t).filter (fun k=>Lx.at? R k)++(if Lx.at? R t=true then [t] else []):=by
       rw [List.range_succ,List.filter_append]
       simp [List.filter_cons]
      cases hat:Lx.at? R t with
      | true =>
       rw [hat] at cR hst
       have HL2:Hid (l++[t]=(List.range (t+1)).filter fun k=>Lx.at? R k):=by show _=_;rw [hst,←HL.out];rfl
       have oA:=ho.alloc (.cells #[.int .i64 (t:Int)] 3)
       clear hat hst
       go_wp2_with (at_builtin;go_loud (refine wpList_append_own_at _ rfl _ _ 24 rfl w3.heap.size 3 i3 _ 1 8 Tryz.underlying24 hi3 hz30 hz31 hz32 rfl (by decide) (.slice ra l.length rc) _ _ rfl oA ⟨_,0,none⟩ 1 1 [.int .i64 (t:Int)] rfl rfl (news_of (Blk.new _ _ 3)) (by simp [Value.oneCell']) (by unfold maxLen;omega) (by omega) (by simp;omega) ?_;intro v5 w5 hown5 hgrow5 _ hat5;obtain⟨oa5,oc5,hv5,-⟩:=own_len hown5;subst hv5))
       have hb5:Below w3.heap.size w3 w5:=(hbr.alloc hsr _).grown hgrow5 (by simp;omega) (fun k hk=>(ho.lt k hk).1)
       go_roundg (nT - (t+1))
       case measure=>omega
       case rel=>exact⟨t+1,l++[t],by omega,by go_num,by unfold IR;rw [List.length_append,intsV_app];exact hown5,hb5,by simp;omega,HL2⟩
      | false =>
       rw [hat] at cR hst
       have HL2:Hid (l=(List.range (t+1)).filter fun k=>Lx.at? R k):=by show _=_;rw [hst,←HL.out];simp
       clear hat hst
       go_wp2_with fail
       go_roundg (nT - (t+1))
       case measure=>omega
       case rel=>exact⟨t+1,l,by omega,by go_num,ho,hbr,by omega,HL2⟩
     ·have:t=nT:=by omega
      subst this
      have HL2:Hid (Lx.membersL R=l):=by show _=_;rw [HL.out];unfold Lx.membersL;rw [lR]
      rw [HL2.out] at HTK
      obtain⟨qq,hq1,hq2,hq3,hq4⟩:=hpt3
      have own2:wr.ownsRow w2.heap.size 24 1 (.slice oa acc.length oc) acc.length (qq.map Prod.fst):=own_below hq2 hbr
      clear HL HL2
      go_wp2_with (at_builtin;go_loud (refine wpList_append_own_at _ rfl _ _ 40 rfl w2.heap.size 24 i0 _ 1 24 Tryz.underlying40 hii hz0 hz1 hz2 rfl (by decide) (.slice oa acc.length oc) _ _ rfl (own2.alloc _) ⟨_,0,none⟩ 1 1 [.slice ra l.length rc] rfl rfl (news_of (Blk.new _ _ 24)) (by simp [Value.oneCell']) (by unfold maxLen;omega) (by omega) (by simp;omega) ?_;intro v5 w5 hown5 hgrow5 _ hat5;obtain⟨oa5,oc5,hv5,-⟩:=own_len hown5;subst hv5))
      have hb5:Below w2.heap.size w2 w5:=((hb23.trans (hbr.mono (by omega))).alloc (by omega) _).grown hgrow5 (by simp;omega) (fun k hk=>(own2.lt k hk).1)
      have hpt5:PtR w2.heap.size w5 (.slice oa5 (acc.length+1) oc5) (acc++[l]):=PtR.push (w:=w3) (w2:=wr) ⟨hq1,hq2,hq3,hq4⟩ (by omega) hbr ho hown5 hgrow5 hat5
      go_roundg (N - (j+1))
      case measure=>omega
      case rel=>exact⟨j+1,_,by omega,by go_num,hpt5,hb5,HTK.out.symm⟩
   ·have hjN:j=N:=by omega
    subst hjN
    have HA2:Hid (acc=B.map Lx.membersL):=by show _=_;rw [HA.out,List.take_of_length_le (by omega)]
    have q4:=qe w3 hb23
    have c0:w3.cell? ⟨w1.heap.size,0,none⟩=some (.slice ta nT tc):=kW3.cell 0
    have c1:w3.cell? ⟨w1.heap.size,1,none⟩=some (.slice na nN nc):=kW3.cell 1
    have c2:w3.cell? ⟨w1.heap.size,2,none⟩=some (.slice pa (Lx.prodG g).length pc):=kW3.cell 2
    have c3:w3.cell? ⟨w1.heap.size,3,none⟩=some (.slice ba nB bc):=kW3.cell 3
    have c4:w3.cell? ⟨w1.heap.size,4,none⟩=some (.slice ka nK kc):=kW3.cell 4
    go_wp2_with fail
    refine q4.mono ?_
    rintro e w4 ⟨gE,E,rfl,hgE,kE,hlE,hEq,hb4⟩
    clear q4 c0 c1 c2 c3 c4
    have hs4:=hb4.size
    have hpt4:PtR w.heap.size w4 (.slice oa acc.length oc) (B.map Lx.membersL):=by
     rw [←HA2.out]
     obtain⟨qq,hq1,hq2,hq3,hq4⟩:=hpt3.move fun g _ hg=>hb4.block g hg
     exact⟨qq,hq1,own_le hq2 (by omega),fun q hq=>own_le (hq3 q hq) (by omega),hq4⟩
    have HEQ:Hid _:=hEq
    have HP4:Hid _:=hpt4
    clear hEq hpt4
    go_wp2_with fail
    refine bodyPost_ret (v:=.tuple #[.slice (some ⟨gE,0,none⟩) j j,.slice oa acc.length oc,.int .i64 0,.int .i64 0]) (by simp [results,Tryz.results15,go_sem]) rfl ?_
    refine⟨hb1.trans ((hbW.trans ((hb2.mono hsW).trans ((hb23.mono (by omega)).trans (hb4.mono (by omega))))).mono (by omega)),fun y hy=>?_,fun g' hg=>?_⟩
    ·rw [HR.out] at hy;cases hy
    ·rw [HR.out] at hg
     cases hg
     rw [HNT.out,HNN.out,←HN.out]
     refine⟨gE,E,_,B,m,rfl,kE,by omega,hlE,HEQ.out,?_,?_,HP4.out⟩
     ·rw [HEQ.out];exact HBM.out
     ·rw [HEQ.out];exact HBS.out
end
section
open Go.RowKit
open Tr
def tOne:ByteArray:=⟨#[101,32,61,32,65,32,40,66,32,65,41,42,59]⟩
def tTwo:ByteArray:=⟨#[101,32,61,32,65,63,59]⟩
def okP (r:Except (Nat × Nat) Lx.Gr):Nat × Nat × List Lx.Pd :=
 match r with
 | .ok g=>((Lx.tokG g).length,(Lx.namG g).length,Lx.prodG g)
 | .error _=>(0,0,[])
theorem one_okP:(okP (Lx.mkR tOne)).1=3∧(okP (Lx.mkR tOne)).2.2.length=4:=⟨by kernel_rfl,by kernel_rfl⟩
def pTwo:List Lx.Pd:=[⟨2,[3],-1⟩,⟨3,[4],-1⟩,⟨4,[],-1⟩,⟨4,[1],1⟩]
theorem two_okP:okP (Lx.mkR tTwo)=(2,3,pTwo):=by kernel_rfl
theorem one_ok:∃ g,Lx.mkR tOne=.ok g∧(Lx.tokG g).length=3∧(Lx.prodG g).length=4:=by
 have h:=one_okP
 cases hp:Lx.mkR tOne with
 | error e=>rw [hp] at h;simp [okP] at h
 | ok g=>rw [hp] at h;exact⟨g,rfl,h.1,h.2⟩
theorem two_ok:∃ g,Lx.mkR tTwo=.ok g∧(Lx.tokG g).length=2∧(Lx.namG g).length=3∧Lx.prodG g=pTwo:=by
 have h:=two_okP
 cases hp:Lx.mkR tTwo with
 | error e=>rw [hp] at h;simp [okP] at h
 | ok g =>
  rw [hp] at h
  simp only [okP,Prod.mk.injEq] at h
  exact⟨g,rfl,h.1,h.2.1,h.2.2⟩
theorem two_setOk:∀ g,Lx.mkR tTwo=.ok g→SetOk g:=by
 intro g hg
 obtain⟨g',h1,h2,h3,h4⟩:=two_ok
 rw [h1] at hg
 cases hg
 unfold SetOk Lx.PdOk
 rw [h2,h3,h4]
 refine⟨by decide,by decide,by decide⟩
def eTwo:List Bool:=[false,false,true,true,true]
theorem two_E {k:Nat}{E:List Bool}(h:E=Lx.itr (Lx.passE pTwo) k (List.replicate (2+3) false))(hs:Lx.passE pTwo E=E):E=eTwo:=by
 subst h
 exact (Lx.itr_same (m:=3) hs (by kernel_rfl)).trans (by kernel_rfl)
theorem two_B {m:Nat}{B:List (List Bool)}(h:B=Lx.itr (Lx.passF pTwo eTwo) m (Lx.alone 2 (2+3)))(hs:Lx.passF pTwo eTwo B=B):B.map Lx.membersL=[[0],[1],[1],[1],[1]]:=by
 subst h
 rw [Lx.itr_same (m:=3) hs (by kernel_rfl)]
 kernel_rfl
theorem num_any (n:Int)(w:World):Calls Tryz.prog 12 #[.int .i64 n] w fun e w'=>e=.returned (.int .i64 n)∧w'=w:=by
 go_enter Tryz.func12,Tryz.ntmps12
 go_wp2_with fail
 go_ret
 exact⟨rfl,rfl⟩
set_option maxHeartbeats 4000000 in
set_option maxRecDepth 100000 in
theorem alive_any (w:World)(ht:Tab w):Calls Tryz.prog 13 #[] w fun e w'=>e=.returned (.bool true)∧Below w.heap.size w w':=by
 have P1:=make_any tOne w (by decide) ht
 go_enter Tryz.func13,Tryz.ntmps13
 go_wp2_with fail
 refine P1.mono ?_
 rintro e w1 ⟨v,n,a,rfl,hb1,hok,-⟩
 clear P1
 obtain⟨g,hg,hgT,hgP⟩:=one_ok
 obtain⟨rfl,rfl,hP⟩:=hok g hg
 clear hok hg
 obtain⟨vT,vN,vP,vB,vK,rfl,hT,hN,⟨ps,p1,p2,-⟩,hB,hK⟩:=hP
 obtain⟨ta,tc,rfl,-⟩:=own_len hT
 obtain⟨na,nc,rfl,-⟩:=own_len hN
 obtain⟨pa,pc,rfl,-⟩:=own_len p2
 obtain⟨ba,bc,rfl,-⟩:=own_len hB
 obtain⟨ka,kc,rfl,-⟩:=own_len hK
 rw [hgT,hgP]
 clear hT hN hB hK p1 p2 hgT hgP
 generalize (Lx.namG g).length=nN
 generalize ((Lx.tokG g).map fun t=>(Lx.bkOf g t).1).length=nB
 generalize ((Lx.tokG g).map fun t=>(Lx.bkOf g t).2).length=nK
 obtain⟨W,hW⟩:∃ W,W=w1.alloc (.cells #[.slice ta 3 tc,.slice na nN nc,.slice pa 4 pc,.slice ba nB bc,.slice ka nK kc] 26):=⟨_,rfl⟩
 have kW:Blk W w1.heap.size #[.slice ta 3 tc,.slice na nN nc,.slice pa 4 pc,.slice ba nB bc,.slice ka nK kc] 26:=by rw [hW];exact blk5 _ _ _ _ _ _
 have hbW:Below w.heap.size w W:=by rw [hW];exact hb1.alloc hb1.size _
 have P2:=sets_any tTwo W (by decide) (ht.move (hbW.block _ ht.lt)) two_setOk
 go_wp2_with fail
 rw [←hW]
 clear hW
 refine P2.mono ?_
 rintro e w2 ⟨hb2,-,hok⟩
 clear P2
 obtain⟨g2,h1,h2,h3,h4⟩:=two_ok
 have hS:=hok g2 h1
 clear hok h1
 rw [h2,h3,h4] at hS
 clear h2 h3 h4
 obtain⟨gE,E,k,vF,B,m,rfl,kE,hgE,-,hE,hEs,hB,hBs,hpt⟩:=hS
 obtain rfl:=two_E hE hEs
 rw [two_B hB hBs] at hpt
 obtain⟨gF,cF,u,rfl,-,lF,cu,ou⟩:=hpt.pt.at (j:=2) (by decide)
 obtain⟨ua,uc,rfl,-⟩:=own_len ou
 have cE:w2.cell? ⟨gE,2,none⟩=some (.bool true):=kE.cell 2
 have kW2:Blk w2 w1.heap.size _ 26:=(hb2.block _ kW.lt).trans kW
 have c0:w2.cell? ⟨w1.heap.size,0,none⟩=some (.slice ta 3 tc):=kW2.cell 0
 have c2:w2.cell? ⟨w1.heap.size,2,none⟩=some (.slice pa 4 pc):=kW2.cell 2
 have hbf:Below w.heap.size w w2:=hbW.trans (hb2.mono hbW.size)
 have cu':w2.cell? ⟨gF,2,none⟩=some (.slice ua 1 uc):=cu
 clear cu ou hpt hE hEs hB hBs kE kW kW2 hbW hb1 hb2
 go_wp2_with (go_at_call 12;refine (num_any _ _).mono ?_;rintro e w' ⟨rfl,hw'⟩;obtain rfl:=hw'.symm)
 go_ret
 exact⟨rfl,hbf⟩
end
section
open Go.RowKit
open Tr
namespace Lx
theorem foldl_len {α:Type} {f:List (List Bool)→α→List (List Bool)} (hf:∀ B x,(f B x).length=B.length):∀ (l:List α) (B:List (List Bool)),(l.foldl f B).length=B.length
 | [],_=>rfl
 | x::l,B=>(foldl_len hf l (f B x)).trans (hf B x)
theorem passF_len (P:List Pd)(E:List Bool)(B:List (List Bool)):(passF P E B).length=B.length :=
 foldl_len (fun B p=>foldl_len (fun B s=>by unfold joinS;simp) _ _) _ _
theorem itrF_len (P:List Pd) (E:List Bool) (B:List (List Bool)):∀ k,(itr (passF P E) k B).length=B.length
 | 0=>rfl
 | k+1=>(passF_len P E _).trans (itrF_len P E B k)
def SetsOf (P:List Pd)(nT n:Nat)(E:List Bool)(B:List (List Bool)):Prop:=(∃ k,E=itr (passE P) k (List.replicate n false))∧passE P E=E∧(∃ m,B=itr (passF P E) m (alone nT n))∧passF P E B=B
theorem SetsOf.same {P:List Pd}{nT n:Nat}{E E':List Bool}{B B':List (List Bool)}(h:SetsOf P nT n E B)(h':SetsOf P nT n E' B'):E'=E∧B'=B:=by
 obtain⟨⟨k,h1⟩,h2,⟨m,h3⟩,h4⟩:=h
 obtain⟨⟨k',h1'⟩,h2',⟨m',h3'⟩,h4'⟩:=h'
 have e:E'=E:=by
  rw [h1,h1'] at *
  exact itr_same h2' h2
 subst e
 refine⟨rfl,?_⟩
 rw [h3] at h4 ⊢
 rw [h3'] at h4' ⊢
 exact itr_same h4' h4
theorem SetsOf.len {P:List Pd}{nT n:Nat}{E:List Bool}{B:List (List Bool)}(h:SetsOf P nT n E B):B.length=n:=by
 obtain⟨-,-,⟨m,h3⟩,-⟩:=h
 rw [h3,itrF_len]
 simp [alone]
def flipTo (E:List Bool)(j:Nat):List Bool:=(E.take j).map (fun b=>!b)++E.drop j
theorem flip_zero (E:List Bool):flipTo E 0=E:=rfl
theorem flip_len (E:List Bool)(j:Nat):(flipTo E j).length=E.length:=by simp [flipTo];omega
theorem flip_at {E:List Bool}{j:Nat}(h:j<E.length):at? (flipTo E j) j=at? E j:=by
 unfold at? flipTo
 rw [List.getElem?_append_right (by simp;omega)]
 simp [Nat.min_eq_left (Nat.le_of_lt h)]
theorem flip_succ {E:List Bool}{j:Nat}(h:j<E.length):(flipTo E j).set j (!at? E j)=flipTo E (j+1):=by
 unfold flipTo
 rw [List.set_append_right _ _ (by simp;omega),List.take_succ_eq_append_getElem h,List.map_append,List.drop_eq_getElem_cons h]
 simp [Nat.min_eq_left (Nat.le_of_lt h),at_lt h]
 rw [List.drop_eq_getElem_cons h]
 rfl
theorem flip_all {E:List Bool}:flipTo E E.length=E.map (fun b=>!b):=by simp [flipTo]
theorem flip_all_at {E:List Bool}{i:Nat}(h:i<E.length):at? (flipTo E E.length) i=!at? E i:=by
 rw [flip_all]
 simp [at?,h]
end Lx
structure SpW (w2:World) (gE:Nat) (E:List Bool) (qs:List (Value × List Nat)) (j:Nat) (wr:World):Prop where
 en:Blk wr gE (boolsV (Lx.flipTo E j)) 4
 fr:∀ g,g<w2.heap.size→g≠gE→(∀ q∈qs.take j,q.1.ownBlock≠some g)→wr.heap[g]?=w2.heap[g]?
 os:wr.os=w2.os
 tape:wr.tape=w2.tape
 output:wr.output=w2.output
 size:w2.heap.size≤wr.heap.size
theorem SpW.below {w2:World}{gE:Nat}{E:List Bool}{qs:List (Value × List Nat)}{j:Nat}{wr w':World}(h:SpW w2 gE E qs j wr)(hb:Below wr.heap.size wr w'):SpW w2 gE E qs j w' :=
 ⟨(hb.block _ h.en.lt).trans h.en,fun g h1 h2 h3=>(hb.block g (Nat.lt_of_lt_of_le h1 h.size)).trans (h.fr g h1 h2 h3),hb.os.trans h.os,hb.tape.trans h.tape,hb.output.trans h.output,Nat.le_trans h.size hb.size⟩
theorem SpW.step {w2:World}{gE:Nat}{E:List Bool}{qs:List (Value × List Nat)}{j:Nat}{wr w':World}(h:SpW w2 gE E qs j wr)(hj:j<qs.length)(he:Blk w' gE (boolsV (Lx.flipTo E (j+1))) 4)(hf:∀ g,g≠gE→qs[j].1.ownBlock≠some g→w'.heap[g]?=wr.heap[g]?)(h1:w'.os=wr.os)(h2:w'.tape=wr.tape)(h3:w'.output=wr.output)(h4:wr.heap.size≤w'.heap.size):SpW w2 gE E qs (j+1) w':=by
 refine⟨he,fun g g1 g2 g3=>?_,h1.trans h.os,h2.trans h.tape,h3.trans h.output,Nat.le_trans h.size h4⟩
 rw [List.take_succ_eq_append_getElem hj] at g3
 exact (hf g g2 (g3 _ (List.mem_append_right _ List.mem_cons_self))).trans (h.fr g g1 g2 fun q hq=>g3 q (List.mem_append_left _ hq))
structure RowW (W:World) (v:Value) (n:Nat) (wr:World):Prop where
 own:∃ xs,wr.ownsRow 0 3 1 v n xs
 fr:∀ g,v.ownBlock≠some g→wr.heap[g]?=W.heap[g]?
 os:wr.os=W.os
 tape:wr.tape=W.tape
 output:wr.output=W.output
 size:wr.heap.size=W.heap.size
theorem RowW.put {W wr:World}{g n cap t:Nat}(h:RowW W (.slice (some ⟨g,0,none⟩) n cap) n wr)(u:Value):RowW W (.slice (some ⟨g,0,none⟩) n cap) n (wr.setCell ⟨g,t,none⟩ u):=by
 obtain⟨⟨xs,h1⟩,h2,h3,h4,h5,h6⟩:=h
 refine⟨⟨_,(h1.stored t u).1⟩,fun x hx=>(Below.heap_setCell _ _ _ _ (fun e=>hx ?_)).trans (h2 x hx),h3,h4,h5,by simpa [World.setCell] using h6⟩
 have e':x=g:=e
 rw [e'];rfl
theorem RowW.at {W wr:World}{v:Value}{n t:Nat}(h:RowW W v n wr)(ht:t<n):∃ g cap x,v=.slice (some ⟨g,0,none⟩) n cap∧wr.cell? ⟨g,t,none⟩=some x∧∀ i,wr.frozen? ⟨g,i,none⟩=false:=by
 obtain⟨⟨xs,h1⟩,-⟩:=h
 obtain⟨g,cap,rfl,-,-⟩:=h1.form (by omega)
 have hx:t<xs.length:=by have:=h1.1;omega
 exact⟨g,cap,xs[t],rfl,by rw [h1.cellAt t (by omega)];exact List.getElem?_eq_getElem hx,h1.frozenAt⟩
end
section
open Go.RowKit
open Tr
theorem setsP_of {w w':World}{nT n:Nat}{P:List Lx.Pd}{e:Ending}(h:SetsP w w' nT n P e):∃ gE vF E B,e=.returned (.tuple #[.slice (some ⟨gE,0,none⟩) n n,vF,.int .i64 0,.int .i64 0])∧Lx.SetsOf P nT n E B∧Blk w' gE (boolsV E) 4∧w.heap.size≤gE∧E.length=n∧PtD w.heap.size w' vF (B.map Lx.membersL):=by
 obtain⟨gE,E,k,vF,B,m,rfl,kE,hgE,hEl,hE,hEs,hB,hBs,hpt⟩:=h
 exact⟨gE,vF,E,B,rfl,⟨⟨k,hE⟩,hEs,⟨m,hB⟩,hBs⟩,kE,hgE,hEl,hpt⟩
theorem setsDP_of {w w':World}{nT n:Nat}{P:List Lx.Pd}{e:Ending}(hok:Lx.PdOk n P)(h:SetsDP w w' nT n P e):∃ gE vF E B,e=.returned (.tuple #[.slice (some ⟨gE,0,none⟩) n n,vF,.int .i64 0,.int .i64 0])∧Lx.SetsOf P nT n E B∧Blk w' gE (boolsV E) 4∧w.heap.size≤gE∧E.length=n∧PtR w.heap.size w' vF (B.map Lx.membersL):=by
 obtain⟨gE,E,vF,B,m,rfl,kE,hgE,hEl,hE,hB,hBs,hpt⟩:=h
 exact⟨gE,vF,E,B,rfl,⟨⟨_,hE⟩,by rw [hE];exact Lx.itr_done (by simp) hok,⟨m,hB⟩,hBs⟩,kE,hgE,hEl,hpt⟩
set_option maxHeartbeats 8000000 in
set_option maxRecDepth 100000 in
theorem PlainSets_any (s:ByteArray)(w:World)(hmax:s.size≤maxLen)(ht:Tab w):Calls Tryz.prog 4 #[.string s] w fun e w'=>e=.returned (.bool true)∧Below w.heap.size w w':=by
 have HOK:Hid (∀ g,Lx.mkR s=.ok g→SetOk g):=fun g hg=>setOk_of (fit_any w hg)
 have q1:=sets_any s w hmax ht HOK.out
 go_enter Tryz.func4,Tryz.ntmps4
 go_wp2_with fail
 refine q1.mono ?_
 rintro e w1 ⟨hb1,he1,ho1⟩
 clear q1
 have q2:=dsets_any s w1
 have hs1:=hb1.size
 cases hr:Lx.mkR s with
 | error x =>
  have e1:=he1 x hr
  subst e1
  have HR:Hid (Lx.mkR s=.error x):=hr
  clear hr he1 ho1
  go_wp2_with fail
  refine q2.mono ?_
  rintro e w2 ⟨hb2,he2,-⟩
  have e2:=he2 x HR.out
  subst e2
  have hb12:Below w.heap.size w w2:=hb1.trans (hb2.mono hs1)
  have q3:=sets_any s w2 hmax (ht.move (hb12.block _ ht.lt)) HOK.out
  have hbd:Below w2.heap.size w2 w2.drew:=(Below.refl _ _).drew
  clear q2 he2
  go_wp2_with (go_at_call 12;refine (num_any _ _).mono ?_;rintro e w' ⟨rfl,hw'⟩;obtain rfl:=hw'.symm)
  go_loopg [11] 0 (fun k i wr=>k=0∧i=.int .i64 0∧wr=w2)
  case atStart=>exact⟨rfl,rfl,rfl⟩
  case round =>
   obtain⟨rfl,rfl,rfl⟩:=hrel
   go_wp2_with fail
   refine q3.mono ?_
   rintro e w3 ⟨hb3,he3,-⟩
   have e3:=he3 x HR.out
   subst e3
   have hb13:Below w.heap.size w w3:=hb12.trans (hb3.mono hb12.size)
   have q4:=alive_any w3 (ht.move (hb13.block _ ht.lt))
   clear q3 he3
   go_wp2_with fail
   go_loopg [18] 0 (fun k i wr=>k=0∧i=.int .i64 0∧wr=w3)
   case atStart=>exact⟨rfl,rfl,rfl⟩
   case round =>
    obtain⟨rfl,rfl,rfl⟩:=hrel
    go_wp2_with fail
    refine q4.mono ?_
    rintro e w4 ⟨rfl,hb4⟩
    go_wp2_with fail
    go_ret
    exact⟨rfl,hb13.trans (hb4.mono hb13.size)⟩
 | ok g =>
  obtain⟨gE,vF,E,B,rfl,hSO,kE,hgE,hEl,qs,⟨r1,r2,r3,r4⟩,r5⟩:=setsP_of (ho1 g hr)
  obtain⟨o1,o2,o3⟩:=HOK.out g hr
  have HS:Hid (∀ {x x':World} {e:Ending},SetsEnds s x e x'→Below x.heap.size x x'∧SetsP x x' (Lx.tokG g).length ((Lx.tokG g).length+(Lx.namG g).length) (Lx.prodG g) e):=fun h=>⟨h.1,h.2.2 g hr⟩
  have HD:Hid (∀ {x x':World} {e:Ending},DSetsEnds s x e x'→Below x.heap.size x x'∧SetsDP x x' (Lx.tokG g).length ((Lx.tokG g).length+(Lx.namG g).length) (Lx.prodG g) e):=fun h=>⟨h.1,h.2.2 g hr⟩
  clear hr he1 ho1 o3
  generalize (Lx.tokG g).length=nT at *
  generalize nT+(Lx.namG g).length=n at *
  generalize Lx.prodG g=P at *
  obtain⟨L,hL⟩:∃ L,L=B.map Lx.membersL:=⟨_,rfl⟩
  have hLn:L.length=n:=by rw [hL,List.length_map];exact hSO.len
  have HL:Hid (L=B.map Lx.membersL):=hL
  rw [←hL] at r1 r2
  have hql:qs.length=n:=by rw [←hLn,←r1,List.length_map]
  have HQ2:Hid (∀ i (h1:i<qs.length) (h2:i<L.length),qs[i].2=L[i]):=fun i h1 h2=>by
   have:(qs.map Prod.snd)[i]?=L[i]?:=by rw [r1]
   rw [List.getElem?_map,List.getElem?_eq_getElem h1,List.getElem?_eq_getElem h2] at this
   simpa using this
  rw [hLn] at r2
  have HLN:Hid (L.length=n):=hLn
  have HQL:Hid (qs.length=n):=hql
  have HEL:Hid (E.length=n):=hEl
  have HR5:Hid _:=r5
  have HR3:Hid _:=r3
  have HR4:Hid _:=r4
  have HR2:Hid _:=r2
  obtain⟨fa,fc,rfl,-⟩:=own_len r2
  have lgE:=kE.lt
  clear r1 r3 r4 r5 r2 hL hLn hql hEl
  go_wp2_with fail
  refine q2.mono ?_
  intro e w2 he2
  obtain⟨hb2,hd2⟩:=HD.out he2
  obtain⟨gM,vK,E',B',rfl,hSO',kM,hgM,-,hptK⟩:=setsDP_of o1 hd2
  obtain⟨rfl,rfl⟩:=hSO.same hSO'
  rw [←HL.out] at hptK
  obtain⟨ka,kc,hvK,-⟩:=hptK.len
  rw [HLN.out] at hvK
  subst hvK
  have HSO:Hid _:=hSO
  have HPK:Hid (PtR w1.heap.size w2 (.slice ka n kc) L):=hptK
  clear q2 hd2 he2 hSO' hptK hSO HD
  have hs2:=hb2.size
  have kE2:Blk w2 gE (boolsV E') 4:=(hb2.block _ lgE).trans kE
  have hb12:Below w.heap.size w w2:=hb1.trans (hb2.mono hs1)
  have HNW:Hid (∀ {j:Nat} {x:World},SpW w2 gE E' qs j x→∀ g,w1.heap.size≤g→g<w2.heap.size→x.heap[g]?=w2.heap[g]?):=fun hS g h1 h2=>hS.fr g h2 (by omega) (fun q hq e=>by have:=((HR3.out q (List.mem_of_mem_take hq)).lt g e).2;omega)
  have HBL:Hid (∀ {j:Nat} {x:World},SpW w2 gE E' qs j x→Below w.heap.size w x):=fun hS=>⟨hS.os.trans hb12.os,hS.tape.trans hb12.tape,hS.output.trans hb12.output,Nat.le_trans hb12.size hS.size,fun g hg=>(hS.fr g (by omega) (by omega) (fun q hq e=>by have:=((HR3.out q (List.mem_of_mem_take hq)).lt g e).1;omega)).trans (hb12.block g hg)⟩
  have HVF:Hid (∀ {j:Nat} {x:World},SpW w2 gE E' qs j x→x.ownsRow w.heap.size 24 1 (.slice fa n fc) n (qs.map Prod.fst)):=fun hS=>own_move (own_below HR2.out hb2) fun g hg=>hS.fr g ((own_below HR2.out hb2).lt g hg).2 (own_ne (own_below HR2.out hb2) kE2 (by decide) g hg) (fun q hq e=>HR4.out q (List.mem_of_mem_take hq) g e hg)
  have HROW:Hid (∀ {j:Nat} {x:World},SpW w2 gE E' qs j x→∀ h:j<qs.length,IR w.heap.size x qs[j].1 qs[j].2):=fun {j x} hS h=>by
   have h0:=own_below (HR3.out _ (List.getElem_mem h)) hb2
   refine own_move h0 fun g hg=>hS.fr g (h0.lt g hg).2 (own_ne h0 kE2 (by decide) g hg) fun q hq e=>?_
   obtain⟨i,hi,rfl⟩:=List.getElem_of_mem hq
   rw [List.length_take] at hi
   rw [List.getElem_take] at e
   exact List.pairwise_iff_getElem.1 HR5.out i j (by omega) h (by omega) g e hg
  have hS0:SpW w2 gE E' qs 0 w2:=⟨by rw [Lx.flip_zero];exact kE2,fun _ _ _ _=>rfl,rfl,rfl,rfl,Nat.le_refl _⟩
  have lM:=kM.lt
  go_wp2_with (go_at_call 12;refine (num_any _ _).mono ?_;rintro e w' ⟨rfl,hw'⟩;obtain rfl:=hw'.symm)
  go_loopg [11] n (fun k i wr=>∃ j:Nat,j+k=n∧i=.int .i64 j∧SpW w2 gE E' qs j wr)
  case atStart=>exact⟨0,by omega,rfl,hS0⟩
  case round =>
   clear hS0
   revert wr
   intro wz hrel
   obtain⟨j,hkj,rfl,hS⟩:=hrel
   by_cases hlt:j<n
   ·have hjq:j<qs.length:=by rw [HQL.out];exact hlt
    have hjL:j<L.length:=by rw [HLN.out];exact hlt
    have hvz:=HVF.out hS
    obtain⟨gF,capF,hvF,-,-⟩:=hvz.form (by omega)
    cases hvF
    have hFE:gF≠gE:=own_ne hvz hS.en (by decide) gF rfl
    have cF:wz.cell? ⟨gF,j,none⟩=some qs[j].1:=by
     rw [hvz.cellAt j (by omega),List.getElem?_map,List.getElem?_eq_getElem hjq];rfl
    have hrow:=HROW.out hS hjq
    have hq2:=HQ2.out j hjq hjL
    have hqF:qs[j].1.ownBlock≠some gF:=fun e=>HR4.out _ (List.getElem_mem hjq) gF e rfl
    obtain⟨gK,capK,uK,hvK,hgK,lgK,cK2,hK2⟩:=PtR.at HPK.out hjL
    rw [HLN.out] at hvK
    cases hvK
    have cK:wz.cell? ⟨gK,j,none⟩=some uK:=(World.cell?_of_block (w:=w2) (HNW.out hS gK hgK lgK)).trans cK2
    have hK:IR w1.heap.size wz uK L[j]:=own_move hK2 fun g hg=>HNW.out hS g (hK2.lt g hg).1 (hK2.lt g hg).2
    rw [←hq2] at hK
    have HST:Hid (∀ {x x':World},SpW w2 gE E' qs j x→Blk x' gE (boolsV (Lx.flipTo E' (j+1))) 4→(∀ g,g≠gE→qs[j].1.ownBlock≠some g→x'.heap[g]?=x.heap[g]?)→x'.os=x.os→x'.tape=x.tape→x'.output=x.output→x.heap.size≤x'.heap.size→SpW w2 gE E' qs (j+1) x'):=fun hx=>hx.step hjq
    have HRW:Hid (∀ {x:World},SpW w2 gE E' qs j x→IR w.heap.size x qs[j].1 qs[j].2):=fun hx=>HROW.out hx hjq
    generalize qs[j]=qj at cF hrow hqF hK HST HRW
    obtain⟨u,r⟩:=qj
    simp only at cF hrow hqF hK
    obtain⟨ua,uc,rfl,hum⟩:=own_len hrow
    unfold maxLen at hum
    obtain⟨ka',kc',rfl,-⟩:=own_len hK
    have hbd:Below wz.heap.size wz wz.drew:=(Below.refl _ _).drew
    have q5:=ints_same r _ _ wz.drew (own_le (own_below hrow hbd) (Nat.zero_le _)) (own_le (own_below hK hbd) (Nat.zero_le _))
    have dF:wz.drew.cell? ⟨gF,j,none⟩=some (.slice ua r.length uc):=cF
    have dK:wz.drew.cell? ⟨gK,j,none⟩=some (.slice ka' r.length kc'):=cK
    have i1:(0:Int)≤(j:Int):=by omega
    have i2:(j:Int)<(n:Int):=by omega
    have lF:=(hvz.lt gF rfl).2
    have kMz:Blk wz gM (boolsV E') 4:=(HNW.out hS gM hgM lM).trans kM
    clear hq2 hK2 cK2 hvz hK
    go_wp2_with fail
    go_region_held3 (fun w'=>w'.cell? ⟨gF,j,none⟩=some (.slice ua r.length uc)∧w'.cell? ⟨gK,j,none⟩=some (.slice ka' r.length kc')) (first | go_keep | assumption) ((go_at_call 16;refine q5.mono ?_;rintro e w5 ⟨rfl,hb5⟩;have S5:w5.cell? ⟨gF,j,none⟩=some (.slice ua r.length uc)∧w5.cell? ⟨gK,j,none⟩=some (.slice ka' r.length kc'):=⟨cell_below hb5 dF,cell_below hb5 dK⟩))
    have hb5r:Below wz.heap.size wz w5.drew:=(hbd.trans hb5).drew
    have hS5:=hS.below hb5r
    have f1:w5.drew.cell? ⟨gE,j,none⟩=some (.bool (Lx.at? E' j)):=by
     rw [hS5.en.cell j,bools_get _ (by rw [Lx.flip_len,HEL.out];exact hlt),Lx.flip_at (by rw [HEL.out];exact hlt)]
    have kM5:Blk w5.drew gM (boolsV E') 4:=(hb5r.block _ kMz.lt).trans kMz
    have f2:w5.drew.cell? ⟨gM,j,none⟩=some (.bool (Lx.at? E' j)):=(kM5.cell j).trans (bools_get _ (by rw [HEL.out];exact hlt))
    have f3:w5.drew.cell? ⟨gF,j,none⟩=some (.slice ua r.length uc):=cell_below hb5r cF
    have hrow5:=HRW.out hS5
    have HFS:Hid ((Lx.flipTo E' j).set j (!Lx.at? E' j)=Lx.flipTo E' (j+1)):=Lx.flip_succ (by rw [HEL.out];exact hlt)
    have fz:∀ i,w5.drew.frozen? ⟨gE,i,none⟩=false:=hS5.en.frozen
    clear S5 q5 dF dK cF cK hS hrow hb5 hb5r kMz
    generalize Lx.at? E' j=bv at f1 f2 HFS
    cases bv with
    | true =>
     have kE6:Blk (w5.drew.setCell ⟨gE,j,none⟩ (.bool false)) gE (boolsV (Lx.flipTo E' (j+1))) 4:=by
      have h6:=hS5.en.set j (.bool false)
      rw [bools_set] at h6
      rw [←HFS.out]
      exact h6
     have hR0:RowW (w5.drew.setCell ⟨gE,j,none⟩ (.bool false)) (.slice ua r.length uc) r.length (w5.drew.setCell ⟨gE,j,none⟩ (.bool false)):=⟨⟨_,own_le (own_move hrow5 fun g hg=>Below.heap_setCell _ _ _ _ (own_ne hrow5 hS5.en (by decide) g hg)) (Nat.zero_le _)⟩,fun _ _=>rfl,rfl,rfl,rfl,rfl⟩
     have c6:(w5.drew.setCell ⟨gE,j,none⟩ (.bool false)).cell? ⟨gF,j,none⟩=some (.slice ua r.length uc):=(World.cell?_of_block (w:=w5.drew) (Below.heap_setCell _ _ _ _ hFE)).trans f3
     clear HFS
     go_wp2_with fail
     go_region_held3 (fun w'=>w'.cell? ⟨gE,j,none⟩=some (.bool true)∧w'.cell? ⟨gM,j,none⟩=some (.bool true)) (first | go_keep | assumption) (fail)
     all_goals
      go_wp2_with fail
      go_loopg [13] r.length (fun k i wr=>∃ t:Nat,t+k=r.length∧i=.int .i64 t∧RowW (w5.drew.setCell ⟨gE,j,none⟩ (.bool false)) (.slice ua r.length uc) r.length wr)
      case atStart=>exact⟨0,by omega,rfl,hR0⟩
      case round =>
       clear hR0
       obtain⟨t,hkt,rfl,hR⟩:=hrel
       have c7:wr.cell? ⟨gF,j,none⟩=some (.slice ua r.length uc):=(World.cell?_of_block (w:=w5.drew.setCell ⟨gE,j,none⟩ (.bool false)) (hR.fr gF hqF)).trans c6
       by_cases hltt:t<r.length
       ·obtain⟨gR,capR,x,hvR,cx,fx⟩:=hR.at hltt
        cases hvR
        have hR2:=hR.put (t:=t) (.int .i64 (-9))
        have j1:(0:Int)≤(t:Int):=by omega
        have j2:(t:Int)<(r.length:Int):=by omega
        go_wp2_with fail
        go_roundg (r.length - (t+1))
        case measure=>omega
        case rel=>exact⟨t+1,by omega,by go_num,hR2⟩
       ·have htr:t=r.length:=by omega
        subst htr
        have hSn:SpW w2 gE E' qs (j+1) wr:=HST.out hS5 ((hR.fr gE (fun e=>own_ne hrow5 hS5.en (by decide) gE e rfl)).trans kE6) (fun g g1 g2=>(hR.fr g g2).trans (Below.heap_setCell _ _ _ _ g1)) hR.os hR.tape hR.output (by have:=hR.size;simp [World.setCell] at this ⊢;omega)
        go_wp2_with fail
        go_roundg (n - (j+1))
        case measure=>omega
        case rel=>exact⟨j+1,by omega,by go_num,hSn⟩
    | false =>
     have kE6:Blk (w5.drew.setCell ⟨gE,j,none⟩ (.bool true)) gE (boolsV (Lx.flipTo E' (j+1))) 4:=by
      have h6:=hS5.en.set j (.bool true)
      rw [bools_set] at h6
      rw [←HFS.out]
      exact h6
     have hR0:RowW (w5.drew.setCell ⟨gE,j,none⟩ (.bool true)) (.slice ua r.length uc) r.length (w5.drew.setCell ⟨gE,j,none⟩ (.bool true)):=⟨⟨_,own_le (own_move hrow5 fun g hg=>Below.heap_setCell _ _ _ _ (own_ne hrow5 hS5.en (by decide) g hg)) (Nat.zero_le _)⟩,fun _ _=>rfl,rfl,rfl,rfl,rfl⟩
     have c6:(w5.drew.setCell ⟨gE,j,none⟩ (.bool true)).cell? ⟨gF,j,none⟩=some (.slice ua r.length uc):=(World.cell?_of_block (w:=w5.drew) (Below.heap_setCell _ _ _ _ hFE)).trans f3
     clear HFS
     go_wp2_with fail
     go_region_held3 (fun w'=>w'.cell? ⟨gE,j,none⟩=some (.bool false)∧w'.cell? ⟨gM,j,none⟩=some (.bool false)) (first | go_keep | assumption) (fail)
     all_goals
      go_wp2_with fail
      go_loopg [13] r.length (fun k i wr=>∃ t:Nat,t+k=r.length∧i=.int .i64 t∧RowW (w5.drew.setCell ⟨gE,j,none⟩ (.bool true)) (.slice ua r.length uc) r.length wr)
      case atStart=>exact⟨0,by omega,rfl,hR0⟩
      case round =>
       clear hR0
       obtain⟨t,hkt,rfl,hR⟩:=hrel
       have c7:wr.cell? ⟨gF,j,none⟩=some (.slice ua r.length uc):=(World.cell?_of_block (w:=w5.drew.setCell ⟨gE,j,none⟩ (.bool true)) (hR.fr gF hqF)).trans c6
       by_cases hltt:t<r.length
       ·obtain⟨gR,capR,x,hvR,cx,fx⟩:=hR.at hltt
        cases hvR
        have hR2:=hR.put (t:=t) (.int .i64 (-9))
        have j1:(0:Int)≤(t:Int):=by omega
        have j2:(t:Int)<(r.length:Int):=by omega
        go_wp2_with fail
        go_roundg (r.length - (t+1))
        case measure=>omega
        case rel=>exact⟨t+1,by omega,by go_num,hR2⟩
       ·have htr:t=r.length:=by omega
        subst htr
        have hSn:SpW w2 gE E' qs (j+1) wr:=HST.out hS5 ((hR.fr gE (fun e=>own_ne hrow5 hS5.en (by decide) gE e rfl)).trans kE6) (fun g g1 g2=>(hR.fr g g2).trans (Below.heap_setCell _ _ _ _ g1)) hR.os hR.tape hR.output (by have:=hR.size;simp [World.setCell] at this ⊢;omega)
        go_wp2_with fail
        go_roundg (n - (j+1))
        case measure=>omega
        case rel=>exact⟨j+1,by omega,by go_num,hSn⟩
   ·have hjn:j=n:=by omega
    subst hjn
    have q3:=sets_any s wz hmax (ht.move ((HBL.out hS).block _ ht.lt)) HOK.out
    have hbS:=HBL.out hS
    have kMz:Blk wz gM (boolsV E') 4:=(HNW.out hS gM hgM lM).trans kM
    have HKz:Hid (PtR w1.heap.size wz (.slice ka j kc) L):=PtR.move HPK.out (HNW.out hS)
    have kEz:=hS.en
    clear HNW HBL HVF HROW HPK
    go_wp2_with fail
    refine q3.mono ?_
    intro e w3 he3
    obtain⟨hb3,hp3⟩:=HS.out he3
    obtain⟨gO,vQ,E2,B2,rfl,hSO2,kO,hgO,-,hptQ⟩:=setsP_of hp3
    obtain⟨rfl,rfl⟩:=Lx.SetsOf.same HSO.out hSO2
    rw [←HL.out] at hptQ
    obtain⟨qa,qc,hvQ,-⟩:=hptQ.pt.len
    rw [HLN.out] at hvQ
    subst hvQ
    have HPQ:Hid (PtR wz.heap.size w3 (.slice qa j qc) L):=hptQ.pt
    have HPK3:Hid (PtR w1.heap.size w3 (.slice ka j kc) L):=PtR.move HKz.out fun g _ h2=>hb3.block g h2
    have kE3:Blk w3 gE _ 4:=(hb3.block _ kEz.lt).trans kEz
    have kM3:Blk w3 gM _ 4:=(hb3.block _ kMz.lt).trans kMz
    have hb03:Below w.heap.size w w3:=hbS.trans (hb3.mono hbS.size)
    clear q3 hp3 he3 hSO2 hptQ HKz kMz kEz hS HSO HS
    go_wp2_with fail
    go_loopg [18] j (fun k i wr=>∃ i0:Nat,i0+k=j∧i=.int .i64 i0∧Below w3.heap.size w3 wr)
    case atStart=>exact⟨0,by omega,rfl,Below.refl _ _⟩
    case round =>
     obtain⟨i0,hki,rfl,hbr⟩:=hrel
     have hsr:=hbr.size
     by_cases hlti:i0<j
     ·have hiL:i0<L.length:=by rw [HLN.out];exact hlti
      obtain⟨gQ,capQ,uQ,hvQ,-,lgQ,cQ',hQ'⟩:=PtR.at HPQ.out hiL
      rw [HLN.out] at hvQ
      cases hvQ
      obtain⟨gK,capK,uK,hvK,-,lgK,cK',hK'⟩:=PtR.at HPK3.out hiL
      rw [HLN.out] at hvK
      cases hvK
      generalize L[i0]=r at hQ' hK'
      obtain⟨ua,uc,rfl,-⟩:=own_len hQ'
      obtain⟨ka',kc',rfl,-⟩:=own_len hK'
      have hbd:Below wr.heap.size wr wr.drew:=(Below.refl _ _).drew
      have q5:=ints_same r _ _ wr.drew (own_le (own_below (own_below hQ' hbr) hbd) (Nat.zero_le _)) (own_le (own_below (own_below hK' hbr) hbd) (Nat.zero_le _))
      have dQ:wr.drew.cell? ⟨gQ,i0,none⟩=some (.slice ua r.length uc):=cell_below hbr cQ'
      have dK:wr.drew.cell? ⟨gK,i0,none⟩=some (.slice ka' r.length kc'):=cell_below hbr cK'
      have i1:(0:Int)≤(i0:Int):=by omega
      have i2:(i0:Int)<(j:Int):=by omega
      clear cQ' cK' hQ' hK'
      go_wp2_with fail
      go_region_held3 (fun w'=>w'.cell? ⟨gQ,i0,none⟩=some (.slice ua r.length uc)∧w'.cell? ⟨gK,i0,none⟩=some (.slice ka' r.length kc')) (first | go_keep | assumption) ((go_at_call 16;refine q5.mono ?_;rintro e w5 ⟨rfl,hb5⟩;have S5:w5.cell? ⟨gQ,i0,none⟩=some (.slice ua r.length uc)∧w5.cell? ⟨gK,i0,none⟩=some (.slice ka' r.length kc'):=⟨cell_below hb5 dQ,cell_below hb5 dK⟩))
      have hb5r:Below wr.heap.size wr w5.drew:=(hbd.trans hb5).drew
      have hb35:Below w3.heap.size w3 w5.drew:=hbr.trans (hb5r.mono hsr)
      have hiE:i0<E2.length:=by rw [HEL.out];exact hlti
      have kO5:Blk w5.drew gO _ 4:=(hb35.block _ kO.lt).trans kO
      have kM5:Blk w5.drew gM _ 4:=(hb35.block _ kM3.lt).trans kM3
      have kE5:Blk w5.drew gE _ 4:=(hb35.block _ kE3.lt).trans kE3
      have f1:w5.drew.cell? ⟨gO,i0,none⟩=some (.bool (Lx.at? E2 i0)):=(kO5.cell i0).trans (bools_get _ hiE)
      have f2:w5.drew.cell? ⟨gM,i0,none⟩=some (.bool (Lx.at? E2 i0)):=(kM5.cell i0).trans (bools_get _ hiE)
      have f3:w5.drew.cell? ⟨gE,i0,none⟩=some (.bool (!Lx.at? E2 i0)):=by
       rw [kE5.cell i0,bools_get _ (by rw [Lx.flip_len];exact hiE)]
       have:=Lx.flip_all_at hiE
       rw [HEL.out] at this
       rw [this]
      clear S5 q5 dQ dK hb5 hb5r kO5 kM5 kE5 hiE
      generalize Lx.at? E2 i0=bv at f1 f2 f3
      cases bv with
      | true =>
       go_wp2_with fail
       go_region_held3 (fun w'=>w'.cell? ⟨gO,i0,none⟩=some (.bool true)∧w'.cell? ⟨gM,i0,none⟩=some (.bool true)∧w'.cell? ⟨gE,i0,none⟩=some (.bool false)) (first | go_keep | assumption) (fail)
       all_goals
        go_wp2_with fail
        go_roundg (j - (i0+1))
        case measure=>omega
        case rel=>exact⟨i0+1,by omega,by go_num,hb35⟩
      | false =>
       go_wp2_with fail
       go_region_held3 (fun w'=>w'.cell? ⟨gO,i0,none⟩=some (.bool false)∧w'.cell? ⟨gM,i0,none⟩=some (.bool false)∧w'.cell? ⟨gE,i0,none⟩=some (.bool true)) (first | go_keep | assumption) (fail)
       all_goals
        go_wp2_with fail
        go_roundg (j - (i0+1))
        case measure=>omega
        case rel=>exact⟨i0+1,by omega,by go_num,hb35⟩
     ·have hbf:Below w.heap.size w wr:=hb03.trans (hbr.mono hb03.size)
      have q4:=alive_any wr (ht.move (hbf.block _ ht.lt))
      go_wp2_with fail
      refine q4.mono ?_
      rintro e w4 ⟨rfl,hb4⟩
      go_wp2_with fail
      go_ret
      exact⟨rfl,hbf.trans (hb4.mono hbf.size)⟩
end
end Go.Proofs.YtlcppnabbicmoaaGreatDoor

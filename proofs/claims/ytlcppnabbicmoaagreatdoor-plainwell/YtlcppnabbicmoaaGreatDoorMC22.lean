import Derived.Test.YtlcppnabbicmoaaGreatDoorMC21
namespace Go.Proofs.YtlcppnabbicmoaaGreatDoor
section
open Go.RowKit
open Lx (Tk)
open Tr
set_option maxHeartbeats 2000000 in
set_option maxRecDepth 100000 in
theorem ritem_group_zero (s:ByteArray) (q:Nat) (w:World) (ts:List Tk) (nest:Int) (sgv:Value) (sg:List ByteArray) (hnest:nest=8) (h:RR s q w ts nest sgv sg) (hn:Lx.hd ts=Lx.tOpen) :
  Calls Tryz.prog 151 #[.pointer (some ⟨q,0,none⟩),.bool false,.bool false] w (REnds s q nest (RVItem 0 w.heap.size) XItem w sgv (Lx.pItem (Lx.pGroupAt 0) ts)):=by
 have hp:=h.lt
 have kq:=h.blk
 have c1:w.cell? ⟨q,1,none⟩=some (.int .i64 (Lx.pl ts:Int)):=kq.cell 1
 have h2:=(h.alloc (.cells #[.int .i64 0,.string ⟨#[]⟩,.int .u8 0,.slice none 0 0,.int .i64 0] 148)).alloc (.cells #[.int .i64 2,.string ⟨#[]⟩,.int .u8 0,.slice none 0 0,.int .i64 (Lx.pl ts:Int)] 148)
 have kB:=(Blk.new w #[.int .i64 0,.string ⟨#[]⟩,.int .u8 0,.slice none 0 0,.int .i64 0] 148).alloc (.cells #[.int .i64 2,.string ⟨#[]⟩,.int .u8 0,.slice none 0 0,.int .i64 (Lx.pl ts:Int)] 148)
 have kC:=Blk.new (w.alloc (.cells #[.int .i64 0,.string ⟨#[]⟩,.int .u8 0,.slice none 0 0,.int .i64 0] 148)) #[.int .i64 2,.string ⟨#[]⟩,.int .u8 0,.slice none 0 0,.int .i64 (Lx.pl ts:Int)] 148
 rw [show (w.alloc (.cells #[.int .i64 0,.string ⟨#[]⟩,.int .u8 0,.slice none 0 0,.int .i64 0] 148)).heap.size=w.heap.size+1 by simp] at kC
 have M0:=((Mv.refl q sgv w).alloc (.cells #[.int .i64 0,.string ⟨#[]⟩,.int .u8 0,.slice none 0 0,.int .i64 0] 148)).alloc (.cells #[.int .i64 2,.string ⟨#[]⟩,.int .u8 0,.slice none 0 0,.int .i64 (Lx.pl ts:Int)] 148)
 have fB:sgv.ownBlock≠some w.heap.size:=h.fresh (Nat.le_refl _)
 have fC:sgv.ownBlock≠some (w.heap.size+1):=h.fresh (by omega)
 have c3:w.cell? ⟨q,3,none⟩=some (.int .i64 nest):=kq.cell 3
 have h8:(nest == 8)=true:=beq_iff_eq.2 hnest
 have HE:Hid (Lx.pItem (Lx.pGroupAt 0) ts=.error (3,Lx.pl ts)):=by show _=_;unfold Lx.pItem;rw [if_pos hn];rfl
 clear hn hnest
 go_enter Tryz.func151,Tryz.ntmps151
 go_wp2_with fail
 refine (fail_rr h2 3 (Lx.pl ts) (by decide)).mono ?_
 rintro e w1 ⟨rfl,m1,hx⟩
 have kCf:=kC.mv m1 (by omega) fC
 have kBf:=kB.mv m1 (by omega) fB
 have M1:=M0.trans (Nx.refl _ _) m1
 clear kC kB c1 c3 kq
 have kBz:=kBf
 have d0:w1.cell? ⟨w.heap.size+1,0,none⟩=some (.int .i64 2):=kCf.cell 0
 have d1:w1.cell? ⟨w.heap.size+1,1,none⟩=some (.string ⟨#[]⟩):=kCf.cell 1
 have d2:w1.cell? ⟨w.heap.size+1,2,none⟩=some (.int .u8 0):=kCf.cell 2
 have d3:w1.cell? ⟨w.heap.size+1,3,none⟩=some (.slice none 0 0):=kCf.cell 3
 have d4:w1.cell? ⟨w.heap.size+1,4,none⟩=some (.int .i64 (Lx.pl ts:Int)):=kCf.cell 4
 have e0:w1.cell? ⟨w.heap.size,0,none⟩=some (.int .i64 0):=kBf.cell 0
 have e1:w1.cell? ⟨w.heap.size,1,none⟩=some (.string ⟨#[]⟩):=kBf.cell 1
 have e2:w1.cell? ⟨w.heap.size,2,none⟩=some (.int .u8 0):=kBf.cell 2
 have e3:w1.cell? ⟨w.heap.size,3,none⟩=some (.slice none 0 0):=kBf.cell 3
 have e4:w1.cell? ⟨w.heap.size,4,none⟩=some (.int .i64 0):=kBf.cell 4
 have ff2:∀ i,w1.frozen? ⟨w.heap.size,i,none⟩=false:=kBf.frozen
 go_wp2_with fail
 refine bodyPost_ret (v:=.agg #[(.int .i64 2),(.string ⟨#[]⟩),.int .u8 0,(.slice none 0 0),.int .i64 (Lx.pl ts:Int)]) (by simp [results,Tryz.results151,go_sem,e0,e1,e2,e3,e4]) rfl ?_
 exact REnds.no HE.out (((((M1.new (Nat.le_refl _) _ _).new (Nat.le_refl _) _ _).new (Nat.le_refl _) _ _).new (Nat.le_refl _) _ _).new (Nat.le_refl _) _ _) (Nx.refl _ _) (((((hx.other _ _ (by omega) fB).other _ _ (by omega) fB).other _ _ (by omega) fB).other _ _ (by omega) fB).other _ _ (by omega) fB) ⟨_,_,_,_,_,_,_,rfl⟩
set_option maxHeartbeats 4000000 in
set_option maxRecDepth 100000 in
theorem ritem_group_succ {d':Nat} (hd8:d'<8) (HA:RAltsSaid d') (s:ByteArray) (q:Nat) (w:World) (ts:List Tk) (nest:Int) (sgv:Value) (sg:List ByteArray) (hnest:nest=8 - ((d'+1:Nat):Int)) (h:RR s q w ts nest sgv sg) (hn:Lx.hd ts=Lx.tOpen) :
  Calls Tryz.prog 151 #[.pointer (some ⟨q,0,none⟩),.bool false,.bool false] w (REnds s q nest (RVItem (d'+1) w.heap.size) XItem w sgv (Lx.pItem (Lx.pGroupAt (d'+1)) ts)):=by
 obtain⟨d,hdd⟩:∃ d,d=d'+1:=⟨_,rfl⟩
 have hp:=h.lt
 have kq:=h.blk
 have c1:w.cell? ⟨q,1,none⟩=some (.int .i64 (Lx.pl ts:Int)):=kq.cell 1
 have h2:=(h.alloc (.cells #[.int .i64 0,.string ⟨#[]⟩,.int .u8 0,.slice none 0 0,.int .i64 0] 148)).alloc (.cells #[.int .i64 2,.string ⟨#[]⟩,.int .u8 0,.slice none 0 0,.int .i64 (Lx.pl ts:Int)] 148)
 have kB:=(Blk.new w #[.int .i64 0,.string ⟨#[]⟩,.int .u8 0,.slice none 0 0,.int .i64 0] 148).alloc (.cells #[.int .i64 2,.string ⟨#[]⟩,.int .u8 0,.slice none 0 0,.int .i64 (Lx.pl ts:Int)] 148)
 have kC:=Blk.new (w.alloc (.cells #[.int .i64 0,.string ⟨#[]⟩,.int .u8 0,.slice none 0 0,.int .i64 0] 148)) #[.int .i64 2,.string ⟨#[]⟩,.int .u8 0,.slice none 0 0,.int .i64 (Lx.pl ts:Int)] 148
 rw [show (w.alloc (.cells #[.int .i64 0,.string ⟨#[]⟩,.int .u8 0,.slice none 0 0,.int .i64 0] 148)).heap.size=w.heap.size+1 by simp] at kC
 have M0:=((Mv.refl q sgv w).alloc (.cells #[.int .i64 0,.string ⟨#[]⟩,.int .u8 0,.slice none 0 0,.int .i64 0] 148)).alloc (.cells #[.int .i64 2,.string ⟨#[]⟩,.int .u8 0,.slice none 0 0,.int .i64 (Lx.pl ts:Int)] 148)
 have fB:sgv.ownBlock≠some w.heap.size:=h.fresh (Nat.le_refl _)
 have fC:sgv.ownBlock≠some (w.heap.size+1):=h.fresh (by omega)
 have c3:w.cell? ⟨q,3,none⟩=some (.int .i64 nest):=kq.cell 3
 have fq:∀ j,w.frozen? ⟨q,j,none⟩=false:=kq.frozen
 have h8:(nest == 8)=false:=beq_eq_false_iff_ne.2 (by omega)
 have hb0:0≤nest:=by omega
 have hb1:nest≤8:=by omega
 have HO:Hid (nest+1=8 - (d':Int)):=by show _=_;omega
 have HD8:Hid ((d' == 8)=false):=by show _=_;simp;omega
 have HK:Hid (Lx.known (Lx.hd ts)=true):=by show _=_;rw [hn];decide
 have HNE:Hid (Lx.hd ts≠Lx.noText):=by show _≠_;rw [hn];decide
 have HPI:Hid (Lx.pItem (Lx.pGroupAt (d'+1)) ts=(match Lx.pGroup (Lx.pAlts d') ts with
  | .error e=>.error e
  | .ok (alts,ts1)=>.ok (⟨2,Lx.noText,(Lx.pMark ts1).1,alts,Lx.pl ts⟩,(Lx.pMark ts1).2))):=by show _=_;unfold Lx.pItem;rw [if_pos hn];rfl
 have hU:(w.setCell ⟨q,3,none⟩ (.int .i64 (nest+1))).heap.size=w.heap.size:=by simp [World.setCell]
 have g2:=((h.renest (nest+1)).alloc (.cells #[.int .i64 0,.string ⟨#[]⟩,.int .u8 0,.slice none 0 0,.int .i64 0] 148)).alloc (.cells #[.int .i64 2,.string ⟨#[]⟩,.int .u8 0,.slice none 0 0,.int .i64 (Lx.pl ts:Int)] 148)
 have jB:=(Blk.new (w.setCell ⟨q,3,none⟩ (.int .i64 (nest+1))) #[.int .i64 0,.string ⟨#[]⟩,.int .u8 0,.slice none 0 0,.int .i64 0] 148).alloc (.cells #[.int .i64 2,.string ⟨#[]⟩,.int .u8 0,.slice none 0 0,.int .i64 (Lx.pl ts:Int)] 148)
 have jC:=Blk.new ((w.setCell ⟨q,3,none⟩ (.int .i64 (nest+1))).alloc (.cells #[.int .i64 0,.string ⟨#[]⟩,.int .u8 0,.slice none 0 0,.int .i64 0] 148)) #[.int .i64 2,.string ⟨#[]⟩,.int .u8 0,.slice none 0 0,.int .i64 (Lx.pl ts:Int)] 148
 rw [show ((w.setCell ⟨q,3,none⟩ (.int .i64 (nest+1))).alloc (.cells #[.int .i64 0,.string ⟨#[]⟩,.int .u8 0,.slice none 0 0,.int .i64 0] 148)).heap.size=w.heap.size+1 by simp [World.setCell]] at jC
 rw [hU] at jB
 have N0:=(((Mv.refl q sgv w).set 3 (.int .i64 (nest+1))).alloc (.cells #[.int .i64 0,.string ⟨#[]⟩,.int .u8 0,.slice none 0 0,.int .i64 0] 148)).alloc (.cells #[.int .i64 2,.string ⟨#[]⟩,.int .u8 0,.slice none 0 0,.int .i64 (Lx.pl ts:Int)] 148)
 clear h2 kB kC M0 hU
 clear hn hnest
 go_enter Tryz.func151,Tryz.ntmps151
 go_wp2_with fail
 refine (next_rr g2 HK.out HNE.out).mono ?_
 rintro e w1 ⟨rfl,sg1,m1,x1,h1⟩
 have f1B:=x1.keep (b:=w.heap.size) jB.lt fB
 have f1C:=x1.keep (b:=w.heap.size+1) jC.lt fC
 have kC1:=jC.mv m1 (by omega) fC
 have kB1:=jB.mv m1 (by omega) fB
 have M1:=N0.trans (Nx.refl _ _) m1
 have X1:=(Nx.refl sgv w).trans N0.size x1
 have lC1:=kC1.lt
 clear jB jC N0 g2 m1 x1 c1 c3 fq kq
 go_wp2_with fail
 have HA1:=HA s q w1 ts.tail (nest+1) sg1 _ HO.out h1
 rw [HD8.out] at HA1
 refine HA1.mono ?_
 intro e w2 he
 clear HA1
 cases hr2:Lx.pAlts d' ts.tail with
 | error x =>
  obtain⟨n,a⟩:=x
  obtain⟨v,sg2,sl2,rfl,m2,x2,hx2,va,vk,vc,rfl⟩:=he.err hr2
  have HE:Hid (Lx.pItem (Lx.pGroupAt (d'+1)) ts=.error (n,a)):=by
   show _=_;rw [HPI.out];unfold Lx.pGroup;rw [hr2]
  clear hr2 he HPI
  have f2B:=x2.keep (b:=w.heap.size) kB1.lt f1B
  have f2C:=x2.keep (b:=w.heap.size+1) kC1.lt f1C
  have kC2:=kC1.mv m2 (by omega) f1C
  have kB2:=kB1.mv m2 (by omega) f1B
  have M2:=M1.trans X1 m2
  have X2:=X1.trans M1.size x2
  have d3:w2.cell? ⟨w.heap.size+1,3,none⟩=some (.slice none 0 0):=kC2.cell 3
  have fz:∀ i,w2.frozen? ⟨w.heap.size+1,i,none⟩=false:=kC2.frozen
  have hx3:=hx2.other (b:=w.heap.size+1) 3 (.slice va vk vc) (by omega) f2C
  have kC3:=kC2.set 3 (.slice va vk vc)
  have kB3:=kB2.other (b':=w.heap.size+1) (i:=3) (by omega) (.slice va vk vc)
  have M3:=M2.new (b:=w.heap.size+1) (by omega) 3 (.slice va vk vc)
  clear kC2 kB2 kC1 kB1
  go_wp2_with fail
  refine (must_rx hx3 Lx.tShut).mono ?_
  rintro e w' ⟨rfl,hw⟩;obtain rfl:=hw.symm
  obtain⟨ii,WW,kq3⟩:=hx3.blk
  have c3:(w2.setCell ⟨w.heap.size+1,3,none⟩ (.slice va vk vc)).cell? ⟨q,3,none⟩=some (.int .i64 (nest+1)):=kq3.cell 3
  have fq3:∀ i,(w2.setCell ⟨w.heap.size+1,3,none⟩ (.slice va vk vc)).frozen? ⟨q,i,none⟩=false:=kq3.frozen
  have hx4:=hx3.renest nest
  have kCf:=kC3.other (b':=q) (i:=3) (by omega) (.int .i64 nest)
  have kBf:=kB3.other (b':=q) (i:=3) (by omega) (.int .i64 nest)
  have M4:=M3.set 3 (.int .i64 nest)
  clear kC3 kB3 d3 fz hx3 kq3
  generalize w2.setCell ⟨w.heap.size+1,3,none⟩ (.slice va vk vc)=w3 at *
  go_wp2_with fail
  generalize w3.setCell ⟨q,3,none⟩ (.int .i64 nest)=w4 at *
  refine (is_rx hx4 Lx.tStar).mono ?_
  rintro e w' ⟨rfl,hw⟩;obtain rfl:=hw.symm
  go_wp2_with fail
  refine (is_rx hx4 Lx.tPlus).mono ?_
  rintro e w' ⟨rfl,hw⟩;obtain rfl:=hw.symm
  go_wp2_with fail
  refine (is_rx hx4 Lx.tAsk).mono ?_
  rintro e w' ⟨rfl,hw⟩;obtain rfl:=hw.symm
  have kBz:=kBf
  have d0:w4.cell? ⟨w.heap.size+1,0,none⟩=some (.int .i64 2):=kCf.cell 0
  have d1:w4.cell? ⟨w.heap.size+1,1,none⟩=some (.string ⟨#[]⟩):=kCf.cell 1
  have d2:w4.cell? ⟨w.heap.size+1,2,none⟩=some (.int .u8 0):=kCf.cell 2
  have d3:w4.cell? ⟨w.heap.size+1,3,none⟩=some (.slice va vk vc):=kCf.cell 3
  have d4:w4.cell? ⟨w.heap.size+1,4,none⟩=some (.int .i64 (Lx.pl ts:Int)):=kCf.cell 4
  have e0:w4.cell? ⟨w.heap.size,0,none⟩=some (.int .i64 0):=kBf.cell 0
  have e1:w4.cell? ⟨w.heap.size,1,none⟩=some (.string ⟨#[]⟩):=kBf.cell 1
  have e2:w4.cell? ⟨w.heap.size,2,none⟩=some (.int .u8 0):=kBf.cell 2
  have e3:w4.cell? ⟨w.heap.size,3,none⟩=some (.slice none 0 0):=kBf.cell 3
  have e4:w4.cell? ⟨w.heap.size,4,none⟩=some (.int .i64 0):=kBf.cell 4
  have ff2:∀ i,w4.frozen? ⟨w.heap.size,i,none⟩=false:=kBf.frozen
  go_wp2_with fail
  refine bodyPost_ret (v:=.agg #[(.int .i64 2),(.string ⟨#[]⟩),.int .u8 0,(.slice va vk vc),.int .i64 (Lx.pl ts:Int)]) (by simp [results,Tryz.results151,go_sem,e0,e1,e2,e3,e4]) rfl ?_
  exact REnds.no HE.out (((((M4.new (Nat.le_refl _) _ _).new (Nat.le_refl _) _ _).new (Nat.le_refl _) _ _).new (Nat.le_refl _) _ _).new (Nat.le_refl _) _ _) X2 (((((hx4.other _ _ (by omega) f2B).other _ _ (by omega) f2B).other _ _ (by omega) f2B).other _ _ (by omega) f2B).other _ _ (by omega) f2B) ⟨_,_,_,_,_,_,_,rfl⟩
 | ok x =>
  obtain⟨l,ts2⟩:=x
  obtain⟨v,sg2,sl2,rfl,m2,x2,h2,hv2⟩:=he.ok hr2
  obtain⟨va,vk,vc,rfl⟩:=AltsIn.form hv2
  have HPI2:Hid (Lx.pItem (Lx.pGroupAt (d'+1)) ts=(match Lx.pMust Lx.tShut ts2 with
   | .error e=>.error e
   | .ok (_,ts1)=>.ok (⟨2,Lx.noText,(Lx.pMark ts1).1,l,Lx.pl ts⟩,(Lx.pMark ts1).2))):=by
   show _=_;rw [HPI.out];simp only [Lx.pGroup,hr2]
   cases hmm:Lx.pMust Lx.tShut ts2 with
   | error e=>simp only
   | ok y=>simp only
  clear hr2 he HPI
  have f2B:=x2.keep (b:=w.heap.size) kB1.lt f1B
  have f2C:=x2.keep (b:=w.heap.size+1) kC1.lt f1C
  have kC2:=kC1.mv m2 (by omega) f1C
  have kB2:=kB1.mv m2 (by omega) f1B
  have M2:=M1.trans X1 m2
  have X2:=X1.trans M1.size x2
  have d3:w2.cell? ⟨w.heap.size+1,3,none⟩=some (.slice none 0 0):=kC2.cell 3
  have fz:∀ i,w2.frozen? ⟨w.heap.size+1,i,none⟩=false:=kC2.frozen
  have h3:=h2.other (b:=w.heap.size+1) 3 (.slice va vk vc) (by omega) f2C
  have kC3:=kC2.set 3 (.slice va vk vc)
  have kB3:=kB2.other (b':=w.heap.size+1) (i:=3) (by omega) (.slice va vk vc)
  have M3:=M2.new (b:=w.heap.size+1) (by omega) 3 (.slice va vk vc)
  have hv3:AltsIn YR (d'+1) (Fp (w.heap.size+2) sg2 (w2.setCell ⟨w.heap.size+1,3,none⟩ (.slice va vk vc))) (w2.setCell ⟨w.heap.size+1,3,none⟩ (.slice va vk vc)) (.slice va vk vc) l :=
   AltsIn.move (fun b hb=>Below.heap_setCell _ _ _ _ (fun e=>by have e':b=w.heap.size+1:=e;have:=hb.1;omega)) (fun b hb=>⟨by have:=hb.1;omega,by simpa [World.setCell] using hb.2.1,hb.2.2⟩) hv2
  have lC3:=kC3.lt
  have lB3:=kB3.lt
  clear kC2 kB2 kC1 kB1 hv2 h2
  go_wp2_with fail
  generalize w2.setCell ⟨w.heap.size+1,3,none⟩ (.slice va vk vc)=w3 at *
  refine (must_rr h3 Lx.tShut (by decide) (by decide)).mono ?_
  intro e w4 he
  cases hr4:Lx.pMust Lx.tShut ts2 with
  | error x =>
   obtain⟨n,a⟩:=x
   obtain⟨v,sg4,sl4,rfl,m4,x4,hx4,rfl⟩:=he.err hr4
   have HE:Hid (Lx.pItem (Lx.pGroupAt (d'+1)) ts=.error (n,a)):=by show _=_;rw [HPI2.out,hr4]
   clear hr4 he HPI2
   have f4B:=x4.keep (b:=w.heap.size) lB3 f2B
   have f4C:=x4.keep (b:=w.heap.size+1) lC3 f2C
   have kC4:=kC3.mv m4 (by omega) f2C
   have kB4:=kB3.mv m4 (by omega) f2B
   have M4:=M3.trans X2 m4
   have X4:=X2.trans M3.size x4
   obtain⟨ii,WW,kq4⟩:=hx4.blk
   have c3:w4.cell? ⟨q,3,none⟩=some (.int .i64 (nest+1)):=kq4.cell 3
   have fq4:∀ i,w4.frozen? ⟨q,i,none⟩=false:=kq4.frozen
   have hx5:=hx4.renest nest
   have kCf:=kC4.other (b':=q) (i:=3) (by omega) (.int .i64 nest)
   have kBf:=kB4.other (b':=q) (i:=3) (by omega) (.int .i64 nest)
   have M5:=M4.set 3 (.int .i64 nest)
   clear kC4 kB4 hx4 kq4 kC3 kB3 d3 fz
   go_wp2_with fail
   generalize w4.setCell ⟨q,3,none⟩ (.int .i64 nest)=w5 at *
   refine (is_rx hx5 Lx.tStar).mono ?_
   rintro e w' ⟨rfl,hw⟩;obtain rfl:=hw.symm
   go_wp2_with fail
   refine (is_rx hx5 Lx.tPlus).mono ?_
   rintro e w' ⟨rfl,hw⟩;obtain rfl:=hw.symm
   go_wp2_with fail
   refine (is_rx hx5 Lx.tAsk).mono ?_
   rintro e w' ⟨rfl,hw⟩;obtain rfl:=hw.symm
   have kBz:=kBf
   have d0:w5.cell? ⟨w.heap.size+1,0,none⟩=some (.int .i64 2):=kCf.cell 0
   have d1:w5.cell? ⟨w.heap.size+1,1,none⟩=some (.string ⟨#[]⟩):=kCf.cell 1
   have d2:w5.cell? ⟨w.heap.size+1,2,none⟩=some (.int .u8 0):=kCf.cell 2
   have d3:w5.cell? ⟨w.heap.size+1,3,none⟩=some (.slice va vk vc):=kCf.cell 3
   have d4:w5.cell? ⟨w.heap.size+1,4,none⟩=some (.int .i64 (Lx.pl ts:Int)):=kCf.cell 4
   have e0:w5.cell? ⟨w.heap.size,0,none⟩=some (.int .i64 0):=kBf.cell 0
   have e1:w5.cell? ⟨w.heap.size,1,none⟩=some (.string ⟨#[]⟩):=kBf.cell 1
   have e2:w5.cell? ⟨w.heap.size,2,none⟩=some (.int .u8 0):=kBf.cell 2
   have e3:w5.cell? ⟨w.heap.size,3,none⟩=some (.slice none 0 0):=kBf.cell 3
   have e4:w5.cell? ⟨w.heap.size,4,none⟩=some (.int .i64 0):=kBf.cell 4
   have ff2:∀ i,w5.frozen? ⟨w.heap.size,i,none⟩=false:=kBf.frozen
   go_wp2_with fail
   refine bodyPost_ret (v:=.agg #[(.int .i64 2),(.string ⟨#[]⟩),.int .u8 0,(.slice va vk vc),.int .i64 (Lx.pl ts:Int)]) (by simp [results,Tryz.results151,go_sem,e0,e1,e2,e3,e4]) rfl ?_
   exact REnds.no HE.out (((((M5.new (Nat.le_refl _) _ _).new (Nat.le_refl _) _ _).new (Nat.le_refl _) _ _).new (Nat.le_refl _) _ _).new (Nat.le_refl _) _ _) X4 (((((hx5.other _ _ (by omega) f4B).other _ _ (by omega) f4B).other _ _ (by omega) f4B).other _ _ (by omega) f4B).other _ _ (by omega) f4B) ⟨_,_,_,_,_,_,_,rfl⟩
  | ok x =>
   obtain⟨u,ts4⟩:=x
   obtain⟨v,sg4,sl4,rfl,m4,x4,h4,rfl⟩:=he.ok hr4
   have HPP:Hid (∀ m t,Lx.pMark ts4=(m,t)→Lx.pItem (Lx.pGroupAt (d'+1)) ts=.ok (⟨2,Lx.noText,m,l,Lx.pl ts⟩,t)):=by
    intro m t e;rw [HPI2.out,hr4];simp only;rw [e]
   clear hr4 he HPI2
   have f4B:=x4.keep (b:=w.heap.size) lB3 f2B
   have f4C:=x4.keep (b:=w.heap.size+1) lC3 f2C
   have kC4:=kC3.mv m4 (by omega) f2C
   have kB4:=kB3.mv m4 (by omega) f2B
   have M4:=M3.trans X2 m4
   have X4:=X2.trans M3.size x4
   have hv4:AltsIn YR (d'+1) (Fp (w.heap.size+2) sg4 w4) w4 (.slice va vk vc) l:=AltsIn.move (fun b hb=>m4.block b hb.2.1 (fun e=>by have:=hb.1;omega) hb.2.2) (fun b hb=>⟨hb.1,Nat.lt_of_lt_of_le hb.2.1 m4.size,x4.keep hb.2.1 hb.2.2⟩) hv3
   have c3:w4.cell? ⟨q,3,none⟩=some (.int .i64 (nest+1)):=h4.blk.cell 3
   have fq4:∀ i,w4.frozen? ⟨q,i,none⟩=false:=h4.blk.frozen
   have h5:=h4.renest nest
   have kC5:=kC4.other (b':=q) (i:=3) (by omega) (.int .i64 nest)
   have kB5:=kB4.other (b':=q) (i:=3) (by omega) (.int .i64 nest)
   have M5:=M4.set 3 (.int .i64 nest)
   have hv5:AltsIn YR (d'+1) (Fp (w.heap.size+2) sg4 (w4.setCell ⟨q,3,none⟩ (.int .i64 nest))) (w4.setCell ⟨q,3,none⟩ (.int .i64 nest)) (.slice va vk vc) l :=
    AltsIn.move (fun b hb=>Below.heap_setCell _ _ _ _ (fun e=>by have e':b=q:=e;have:=hb.1;omega)) (fun b hb=>⟨hb.1,by simpa [World.setCell] using hb.2.1,hb.2.2⟩) hv4
   clear kC4 kB4 h4 kC3 kB3 d3 fz hv4 hv3 h3 m4 x4 m2 x2 M4 M3 M2 M1
   go_wp2_with fail
   generalize w4.setCell ⟨q,3,none⟩ (.int .i64 nest)=w1 at *
   have h3:=h5
   have kB1:=kB5
   have kC1:=kC5
   have M1:=M5
   have X1:=X4
   have f1B:=f4B
   have f1C:=f4C
   have hv1:=hv5
   have HP:=HPP.out
   clear h5 kB5 kC5 M5 X4 hv5 HPP c3 fq4
   by_cases hm:Lx.hd ts4=Lx.tStar
   ·have HPM:Hid _:=HP _ _ (pMark_star hm)
    have HM:Hid (Lx.hd ts4=Lx.tStar):=hm
    have HKN:Hid (Lx.known (Lx.hd ts4)=true):=by show _=_;rw [hm];decide
    have HNN:Hid (Lx.hd ts4≠Lx.noText):=by show _≠_;rw [hm];decide
    have c2:w1.cell? ⟨q,2,none⟩=some (.string ⟨#[42]⟩):=by
     have:=h3.blk.cell 2;rw [this];simp only [rblk];rw [Lx.refW_known HKN.out,HM.out];rfl
    have h4:=h3.other (b:=w.heap.size+1) 2 (.int .u8 42) (by omega) f1C
    have kC4:=kC1.set 2 (.int .u8 42)
    have kB4:=kB1.other (b':=w.heap.size+1) (i:=2) (by omega) (.int .u8 42)
    have M4:=M1.new (b:=w.heap.size+1) (by omega) 2 (.int .u8 42)
    have d2:w1.cell? ⟨w.heap.size+1,2,none⟩=some (.int .u8 0):=kC1.cell 2
    have fz1:∀ i,w1.frozen? ⟨w.heap.size+1,i,none⟩=false:=kC1.frozen
    have hv4:AltsIn YR (d'+1) (Fp (w.heap.size+2) sg4 (w1.setCell ⟨w.heap.size+1,2,none⟩ (.int .u8 42))) (w1.setCell ⟨w.heap.size+1,2,none⟩ (.int .u8 42)) (.slice va vk vc) l :=
     AltsIn.move (fun b hb=>Below.heap_setCell _ _ _ _ (fun e=>by have e':b=w.heap.size+1:=e;have:=hb.1;omega)) (fun b hb=>⟨hb.1,by simpa [World.setCell] using hb.2.1,hb.2.2⟩) hv1
    clear hm HP hv1
    go_wp2_with fail
    refine (is_rr h3 Lx.tStar (by decide) (by decide)).mono ?_
    rintro e w' ⟨rfl,hw⟩;obtain rfl:=hw.symm;rw [decide_eq_true HM.out]
    go_wp2_with fail
    refine (next_rr h4 HKN.out HNN.out).mono ?_
    rintro e w5 ⟨rfl,sg5,m5,x5,h5⟩
    have f5B:=x5.keep (b:=w.heap.size) kB4.lt f1B
    have kCf:=kC4.mv m5 (by omega) f1C
    have kBf:=kB4.mv m5 (by omega) f1B
    have hv5:AltsIn YR (d'+1) (Fp (w.heap.size+2) sg5 w5) w5 (.slice va vk vc) l:=AltsIn.move (fun b hb=>m5.block b hb.2.1 (fun e=>by have:=hb.1;omega) hb.2.2) (fun b hb=>⟨hb.1,Nat.lt_of_lt_of_le hb.2.1 m5.size,x5.keep hb.2.1 hb.2.2⟩) hv4
    have M5:=M4.trans X1 m5
    have X5:=X1.trans M4.size x5
    have kBz:=kBf
    have d0:w5.cell? ⟨w.heap.size+1,0,none⟩=some (.int .i64 2):=kCf.cell 0
    have d1:w5.cell? ⟨w.heap.size+1,1,none⟩=some (.string ⟨#[]⟩):=kCf.cell 1
    have d2:w5.cell? ⟨w.heap.size+1,2,none⟩=some (.int .u8 42):=kCf.cell 2
    have d3:w5.cell? ⟨w.heap.size+1,3,none⟩=some (.slice va vk vc):=kCf.cell 3
    have d4:w5.cell? ⟨w.heap.size+1,4,none⟩=some (.int .i64 (Lx.pl ts:Int)):=kCf.cell 4
    have e0:w5.cell? ⟨w.heap.size,0,none⟩=some (.int .i64 0):=kBf.cell 0
    have e1:w5.cell? ⟨w.heap.size,1,none⟩=some (.string ⟨#[]⟩):=kBf.cell 1
    have e2:w5.cell? ⟨w.heap.size,2,none⟩=some (.int .u8 0):=kBf.cell 2
    have e3:w5.cell? ⟨w.heap.size,3,none⟩=some (.slice none 0 0):=kBf.cell 3
    have e4:w5.cell? ⟨w.heap.size,4,none⟩=some (.int .i64 0):=kBf.cell 4
    have ff2:∀ i,w5.frozen? ⟨w.heap.size,i,none⟩=false:=kBf.frozen
    clear kC4 kB4 kC1 kB1 h4 h3 hv4 c2
    go_wp2_with fail
    refine bodyPost_ret (v:=.agg #[(.int .i64 2),(.string ⟨#[]⟩),.int .u8 42,(.slice va vk vc),.int .i64 (Lx.pl ts:Int)]) (by simp [results,Tryz.results151,go_sem,e0,e1,e2,e3,e4]) rfl ?_
    refine REnds.yes HPM.out (((((M5.new (Nat.le_refl _) _ _).new (Nat.le_refl _) _ _).new (Nat.le_refl _) _ _).new (Nat.le_refl _) _ _).new (Nat.le_refl _) _ _) X5 (((((h5.other _ _ (by omega) f5B).other _ _ (by omega) f5B).other _ _ (by omega) f5B).other _ _ (by omega) f5B).other _ _ (by omega) f5B) ⟨_,rfl,?_⟩
    refine AltsIn.move (fun b hb=>?_) (fun b hb=>⟨by have:=hb.1;omega,by simpa [World.setCell] using hb.2.1,hb.2.2⟩) hv5
    have hbb:b≠w.heap.size:=by have:=hb.1;omega
    rw [Below.heap_setCell _ _ _ _ hbb,Below.heap_setCell _ _ _ _ hbb,Below.heap_setCell _ _ _ _ hbb,Below.heap_setCell _ _ _ _ hbb,Below.heap_setCell _ _ _ _ hbb]
   have n42:Hid (¬ Lx.hd ts4=Lx.tStar):=hm
   clear hm
   by_cases hm:Lx.hd ts4=Lx.tPlus
   ·have HPM:Hid _:=HP _ _ (pMark_plus hm)
    have HM:Hid (Lx.hd ts4=Lx.tPlus):=hm
    have HKN:Hid (Lx.known (Lx.hd ts4)=true):=by show _=_;rw [hm];decide
    have HNN:Hid (Lx.hd ts4≠Lx.noText):=by show _≠_;rw [hm];decide
    have c2:w1.cell? ⟨q,2,none⟩=some (.string ⟨#[43]⟩):=by
     have:=h3.blk.cell 2;rw [this];simp only [rblk];rw [Lx.refW_known HKN.out,HM.out];rfl
    have h4:=h3.other (b:=w.heap.size+1) 2 (.int .u8 43) (by omega) f1C
    have kC4:=kC1.set 2 (.int .u8 43)
    have kB4:=kB1.other (b':=w.heap.size+1) (i:=2) (by omega) (.int .u8 43)
    have M4:=M1.new (b:=w.heap.size+1) (by omega) 2 (.int .u8 43)
    have d2:w1.cell? ⟨w.heap.size+1,2,none⟩=some (.int .u8 0):=kC1.cell 2
    have fz1:∀ i,w1.frozen? ⟨w.heap.size+1,i,none⟩=false:=kC1.frozen
    have hv4:AltsIn YR (d'+1) (Fp (w.heap.size+2) sg4 (w1.setCell ⟨w.heap.size+1,2,none⟩ (.int .u8 43))) (w1.setCell ⟨w.heap.size+1,2,none⟩ (.int .u8 43)) (.slice va vk vc) l :=
     AltsIn.move (fun b hb=>Below.heap_setCell _ _ _ _ (fun e=>by have e':b=w.heap.size+1:=e;have:=hb.1;omega)) (fun b hb=>⟨hb.1,by simpa [World.setCell] using hb.2.1,hb.2.2⟩) hv1
    clear hm HP hv1
    go_wp2_with fail
    refine (is_rr h3 Lx.tStar (by decide) (by decide)).mono ?_
    rintro e w' ⟨rfl,hw⟩;obtain rfl:=hw.symm;rw [decide_eq_false (by rw [HM.out];decide)]
    go_wp2_with fail
    refine (is_rr h3 Lx.tPlus (by decide) (by decide)).mono ?_
    rintro e w' ⟨rfl,hw⟩;obtain rfl:=hw.symm;rw [decide_eq_true HM.out]
    go_wp2_with fail
    refine (next_rr h4 HKN.out HNN.out).mono ?_
    rintro e w5 ⟨rfl,sg5,m5,x5,h5⟩
    have f5B:=x5.keep (b:=w.heap.size) kB4.lt f1B
    have kCf:=kC4.mv m5 (by omega) f1C
    have kBf:=kB4.mv m5 (by omega) f1B
    have hv5:AltsIn YR (d'+1) (Fp (w.heap.size+2) sg5 w5) w5 (.slice va vk vc) l:=AltsIn.move (fun b hb=>m5.block b hb.2.1 (fun e=>by have:=hb.1;omega) hb.2.2) (fun b hb=>⟨hb.1,Nat.lt_of_lt_of_le hb.2.1 m5.size,x5.keep hb.2.1 hb.2.2⟩) hv4
    have M5:=M4.trans X1 m5
    have X5:=X1.trans M4.size x5
    have kBz:=kBf
    have d0:w5.cell? ⟨w.heap.size+1,0,none⟩=some (.int .i64 2):=kCf.cell 0
    have d1:w5.cell? ⟨w.heap.size+1,1,none⟩=some (.string ⟨#[]⟩):=kCf.cell 1
    have d2:w5.cell? ⟨w.heap.size+1,2,none⟩=some (.int .u8 43):=kCf.cell 2
    have d3:w5.cell? ⟨w.heap.size+1,3,none⟩=some (.slice va vk vc):=kCf.cell 3
    have d4:w5.cell? ⟨w.heap.size+1,4,none⟩=some (.int .i64 (Lx.pl ts:Int)):=kCf.cell 4
    have e0:w5.cell? ⟨w.heap.size,0,none⟩=some (.int .i64 0):=kBf.cell 0
    have e1:w5.cell? ⟨w.heap.size,1,none⟩=some (.string ⟨#[]⟩):=kBf.cell 1
    have e2:w5.cell? ⟨w.heap.size,2,none⟩=some (.int .u8 0):=kBf.cell 2
    have e3:w5.cell? ⟨w.heap.size,3,none⟩=some (.slice none 0 0):=kBf.cell 3
    have e4:w5.cell? ⟨w.heap.size,4,none⟩=some (.int .i64 0):=kBf.cell 4
    have ff2:∀ i,w5.frozen? ⟨w.heap.size,i,none⟩=false:=kBf.frozen
    clear kC4 kB4 kC1 kB1 h4 h3 hv4 c2
    go_wp2_with fail
    refine bodyPost_ret (v:=.agg #[(.int .i64 2),(.string ⟨#[]⟩),.int .u8 43,(.slice va vk vc),.int .i64 (Lx.pl ts:Int)]) (by simp [results,Tryz.results151,go_sem,e0,e1,e2,e3,e4]) rfl ?_
    refine REnds.yes HPM.out (((((M5.new (Nat.le_refl _) _ _).new (Nat.le_refl _) _ _).new (Nat.le_refl _) _ _).new (Nat.le_refl _) _ _).new (Nat.le_refl _) _ _) X5 (((((h5.other _ _ (by omega) f5B).other _ _ (by omega) f5B).other _ _ (by omega) f5B).other _ _ (by omega) f5B).other _ _ (by omega) f5B) ⟨_,rfl,?_⟩
    refine AltsIn.move (fun b hb=>?_) (fun b hb=>⟨by have:=hb.1;omega,by simpa [World.setCell] using hb.2.1,hb.2.2⟩) hv5
    have hbb:b≠w.heap.size:=by have:=hb.1;omega
    rw [Below.heap_setCell _ _ _ _ hbb,Below.heap_setCell _ _ _ _ hbb,Below.heap_setCell _ _ _ _ hbb,Below.heap_setCell _ _ _ _ hbb,Below.heap_setCell _ _ _ _ hbb]
   have n43:Hid (¬ Lx.hd ts4=Lx.tPlus):=hm
   clear hm
   by_cases hm:Lx.hd ts4=Lx.tAsk
   ·have HPM:Hid _:=HP _ _ (pMark_ask hm)
    have HM:Hid (Lx.hd ts4=Lx.tAsk):=hm
    have HKN:Hid (Lx.known (Lx.hd ts4)=true):=by show _=_;rw [hm];decide
    have HNN:Hid (Lx.hd ts4≠Lx.noText):=by show _≠_;rw [hm];decide
    have c2:w1.cell? ⟨q,2,none⟩=some (.string ⟨#[63]⟩):=by
     have:=h3.blk.cell 2;rw [this];simp only [rblk];rw [Lx.refW_known HKN.out,HM.out];rfl
    have h4:=h3.other (b:=w.heap.size+1) 2 (.int .u8 63) (by omega) f1C
    have kC4:=kC1.set 2 (.int .u8 63)
    have kB4:=kB1.other (b':=w.heap.size+1) (i:=2) (by omega) (.int .u8 63)
    have M4:=M1.new (b:=w.heap.size+1) (by omega) 2 (.int .u8 63)
    have d2:w1.cell? ⟨w.heap.size+1,2,none⟩=some (.int .u8 0):=kC1.cell 2
    have fz1:∀ i,w1.frozen? ⟨w.heap.size+1,i,none⟩=false:=kC1.frozen
    have hv4:AltsIn YR (d'+1) (Fp (w.heap.size+2) sg4 (w1.setCell ⟨w.heap.size+1,2,none⟩ (.int .u8 63))) (w1.setCell ⟨w.heap.size+1,2,none⟩ (.int .u8 63)) (.slice va vk vc) l :=
     AltsIn.move (fun b hb=>Below.heap_setCell _ _ _ _ (fun e=>by have e':b=w.heap.size+1:=e;have:=hb.1;omega)) (fun b hb=>⟨hb.1,by simpa [World.setCell] using hb.2.1,hb.2.2⟩) hv1
    clear hm HP hv1
    go_wp2_with fail
    refine (is_rr h3 Lx.tStar (by decide) (by decide)).mono ?_
    rintro e w' ⟨rfl,hw⟩;obtain rfl:=hw.symm;rw [decide_eq_false (by rw [HM.out];decide)]
    go_wp2_with fail
    refine (is_rr h3 Lx.tPlus (by decide) (by decide)).mono ?_
    rintro e w' ⟨rfl,hw⟩;obtain rfl:=hw.symm;rw [decide_eq_false (by rw [HM.out];decide)]
    go_wp2_with fail
    refine (is_rr h3 Lx.tAsk (by decide) (by decide)).mono ?_
    rintro e w' ⟨rfl,hw⟩;obtain rfl:=hw.symm;rw [decide_eq_true HM.out]
    go_wp2_with fail
    refine (next_rr h4 HKN.out HNN.out).mono ?_
    rintro e w5 ⟨rfl,sg5,m5,x5,h5⟩
    have f5B:=x5.keep (b:=w.heap.size) kB4.lt f1B
    have kCf:=kC4.mv m5 (by omega) f1C
    have kBf:=kB4.mv m5 (by omega) f1B
    have hv5:AltsIn YR (d'+1) (Fp (w.heap.size+2) sg5 w5) w5 (.slice va vk vc) l:=AltsIn.move (fun b hb=>m5.block b hb.2.1 (fun e=>by have:=hb.1;omega) hb.2.2) (fun b hb=>⟨hb.1,Nat.lt_of_lt_of_le hb.2.1 m5.size,x5.keep hb.2.1 hb.2.2⟩) hv4
    have M5:=M4.trans X1 m5
    have X5:=X1.trans M4.size x5
    have kBz:=kBf
    have d0:w5.cell? ⟨w.heap.size+1,0,none⟩=some (.int .i64 2):=kCf.cell 0
    have d1:w5.cell? ⟨w.heap.size+1,1,none⟩=some (.string ⟨#[]⟩):=kCf.cell 1
    have d2:w5.cell? ⟨w.heap.size+1,2,none⟩=some (.int .u8 63):=kCf.cell 2
    have d3:w5.cell? ⟨w.heap.size+1,3,none⟩=some (.slice va vk vc):=kCf.cell 3
    have d4:w5.cell? ⟨w.heap.size+1,4,none⟩=some (.int .i64 (Lx.pl ts:Int)):=kCf.cell 4
    have e0:w5.cell? ⟨w.heap.size,0,none⟩=some (.int .i64 0):=kBf.cell 0
    have e1:w5.cell? ⟨w.heap.size,1,none⟩=some (.string ⟨#[]⟩):=kBf.cell 1
    have e2:w5.cell? ⟨w.heap.size,2,none⟩=some (.int .u8 0):=kBf.cell 2
    have e3:w5.cell? ⟨w.heap.size,3,none⟩=some (.slice none 0 0):=kBf.cell 3
    have e4:w5.cell? ⟨w.heap.size,4,none⟩=some (.int .i64 0):=kBf.cell 4
    have ff2:∀ i,w5.frozen? ⟨w.heap.size,i,none⟩=false:=kBf.frozen
    clear kC4 kB4 kC1 kB1 h4 h3 hv4 c2
    go_wp2_with fail
    refine bodyPost_ret (v:=.agg #[(.int .i64 2),(.string ⟨#[]⟩),.int .u8 63,(.slice va vk vc),.int .i64 (Lx.pl ts:Int)]) (by simp [results,Tryz.results151,go_sem,e0,e1,e2,e3,e4]) rfl ?_
    refine REnds.yes HPM.out (((((M5.new (Nat.le_refl _) _ _).new (Nat.le_refl _) _ _).new (Nat.le_refl _) _ _).new (Nat.le_refl _) _ _).new (Nat.le_refl _) _ _) X5 (((((h5.other _ _ (by omega) f5B).other _ _ (by omega) f5B).other _ _ (by omega) f5B).other _ _ (by omega) f5B).other _ _ (by omega) f5B) ⟨_,rfl,?_⟩
    refine AltsIn.move (fun b hb=>?_) (fun b hb=>⟨by have:=hb.1;omega,by simpa [World.setCell] using hb.2.1,hb.2.2⟩) hv5
    have hbb:b≠w.heap.size:=by have:=hb.1;omega
    rw [Below.heap_setCell _ _ _ _ hbb,Below.heap_setCell _ _ _ _ hbb,Below.heap_setCell _ _ _ _ hbb,Below.heap_setCell _ _ _ _ hbb,Below.heap_setCell _ _ _ _ hbb]
   have n63:Hid (¬ Lx.hd ts4=Lx.tAsk):=hm
   clear hm
   have HPM:Hid _:=HP _ _ (pMark_none n42.out n43.out n63.out)
   clear HP
   go_wp2_with fail
   refine (is_rr h3 Lx.tStar (by decide) (by decide)).mono ?_
   rintro e w' ⟨rfl,hw⟩;obtain rfl:=hw.symm;rw [decide_eq_false n42.out]
   go_wp2_with fail
   refine (is_rr h3 Lx.tPlus (by decide) (by decide)).mono ?_
   rintro e w' ⟨rfl,hw⟩;obtain rfl:=hw.symm;rw [decide_eq_false n43.out]
   go_wp2_with fail
   refine (is_rr h3 Lx.tAsk (by decide) (by decide)).mono ?_
   rintro e w' ⟨rfl,hw⟩;obtain rfl:=hw.symm;rw [decide_eq_false n63.out]
   have kCf:=kC1
   have kBf:=kB1
   have kBz:=kBf
   have d0:w1.cell? ⟨w.heap.size+1,0,none⟩=some (.int .i64 2):=kCf.cell 0
   have d1:w1.cell? ⟨w.heap.size+1,1,none⟩=some (.string ⟨#[]⟩):=kCf.cell 1
   have d2:w1.cell? ⟨w.heap.size+1,2,none⟩=some (.int .u8 0):=kCf.cell 2
   have d3:w1.cell? ⟨w.heap.size+1,3,none⟩=some (.slice va vk vc):=kCf.cell 3
   have d4:w1.cell? ⟨w.heap.size+1,4,none⟩=some (.int .i64 (Lx.pl ts:Int)):=kCf.cell 4
   have e0:w1.cell? ⟨w.heap.size,0,none⟩=some (.int .i64 0):=kBf.cell 0
   have e1:w1.cell? ⟨w.heap.size,1,none⟩=some (.string ⟨#[]⟩):=kBf.cell 1
   have e2:w1.cell? ⟨w.heap.size,2,none⟩=some (.int .u8 0):=kBf.cell 2
   have e3:w1.cell? ⟨w.heap.size,3,none⟩=some (.slice none 0 0):=kBf.cell 3
   have e4:w1.cell? ⟨w.heap.size,4,none⟩=some (.int .i64 0):=kBf.cell 4
   have ff2:∀ i,w1.frozen? ⟨w.heap.size,i,none⟩=false:=kBf.frozen
   go_wp2_with fail
   refine bodyPost_ret (v:=.agg #[(.int .i64 2),(.string ⟨#[]⟩),.int .u8 0,(.slice va vk vc),.int .i64 (Lx.pl ts:Int)]) (by simp [results,Tryz.results151,go_sem,e0,e1,e2,e3,e4]) rfl ?_
   refine REnds.yes HPM.out (((((M1.new (Nat.le_refl _) _ _).new (Nat.le_refl _) _ _).new (Nat.le_refl _) _ _).new (Nat.le_refl _) _ _).new (Nat.le_refl _) _ _) X1 (((((h3.other _ _ (by omega) f1B).other _ _ (by omega) f1B).other _ _ (by omega) f1B).other _ _ (by omega) f1B).other _ _ (by omega) f1B) ⟨_,rfl,?_⟩
   refine AltsIn.move (fun b hb=>?_) (fun b hb=>⟨by have:=hb.1;omega,by simpa [World.setCell] using hb.2.1,hb.2.2⟩) hv1
   have hbb:b≠w.heap.size:=by have:=hb.1;omega
   rw [Below.heap_setCell _ _ _ _ hbb,Below.heap_setCell _ _ _ _ hbb,Below.heap_setCell _ _ _ _ hbb,Below.heap_setCell _ _ _ _ hbb,Below.heap_setCell _ _ _ _ hbb]
end
section
open Go.RowKit
open Lx (Tk)
open Tr
theorem ritem_all {d:Nat}(hd:d≤8)(HA:∀ d',d'+1=d→RAltsSaid d'):RItemSaid d:=by
 intro s q w ts nest sgv sg hnest h hsee
 by_cases h1:Lx.hd ts=Lx.tOpen
 ·have e1:Lx.isName (Lx.hd ts)=false:=by rw [h1];decide
  have e2:Lx.isToken (Lx.hd ts)=false:=by rw [h1];decide
  rw [e1,e2]
  cases d with
  | zero=>exact ritem_group_zero s q w ts nest sgv sg (by simpa using hnest) h h1
  | succ d=>exact ritem_group_succ (by omega) (HA d rfl) s q w ts nest sgv sg hnest h h1
 ·cases h2:Lx.isName (Lx.hd ts)
  ·have h3:Lx.isToken (Lx.hd ts)=true:=by
    unfold Lx.seesItem at hsee
    rw [decide_eq_false h1,h2] at hsee
    simpa using hsee
   rw [h3]
   exact ritem_token s q w ts nest sgv sg h h1 h2 h3
  ·have h3:Lx.isToken (Lx.hd ts)=false:=by
    cases h3:Lx.isToken (Lx.hd ts)
    ·rfl
    ·exfalso
     unfold Lx.isName Lx.isWord at h2
     unfold Lx.isToken Lx.isWord at h3
     simp only [Bool.and_eq_true] at h2 h3
     have a1:=of_decide_eq_true h2.1.2
     have a2:=of_decide_eq_true h3.1.2
     omega
   rw [h3]
   exact ritem_name s q w ts nest sgv sg h h1 h2
section
variable {α:Type} {q B:Nat} {sgx sgx1:Value} {w w':World} {e s:Nat} {c:Value × α → List Value} {K:(Nat → Prop) → World → Value → α → Prop} {v:Value} {l:List α}
def RGrowBy (B:Nat)(sgx:Value)(w:World)(e s:Nat)(c:Value × α→List Value)(K:(Nat→Prop)→World→Value→α→Prop)(v:Value)(l:List α)(ps:List (Value × α))(F:Nat→Prop):Prop :=
 GrowBy B w e s c K v l ps F∧(∀ b,F b→sgx.ownBlock≠some b)∧∀ g,v.ownBlock=some g→sgx.ownBlock≠some g
def RGrow (B:Nat)(sgx:Value)(w:World)(e s:Nat)(c:Value × α→List Value)(K:(Nat→Prop)→World→Value→α→Prop)(v:Value)(l:List α):Prop:=∃ ps F,RGrowBy B sgx w e s c K v l ps F
theorem RGrow.nil (B:Nat)(sgx:Value)(w:World)(e s:Nat)(c:Value × α→List Value)(K:(Nat→Prop)→World→Value→α→Prop):RGrow B sgx w e s c K (.slice none 0 0) []:=by
 obtain⟨ps,F,h⟩:=Grow.nil (α:=α) B w e s c K
 exact⟨[],fun _=>False,⟨rfl,World.ownsRow_nil _ _ _ _,fun q h=>by simp at h,fun b h=>h.elim,fun _ _ h=>h⟩,fun b h=>h.elim,fun g h=>by simp [Value.ownBlock] at h⟩
theorem RGrowBy.mv {ps:List (Value × α)}{F:Nat→Prop}(hm:Movable K)(h:RGrowBy B sgx w e s c K v l ps F)(m:Mv q sgx w w')(n:Nx sgx w sgx1)(hq:q<B):RGrowBy B sgx1 w' e s c K v l ps F:=by
 obtain⟨⟨h1,h2,h3,h4,h5⟩,h6,h7⟩:=h
 have hF:∀ b,F b→w'.heap[b]?=w.heap[b]?:=fun b hb=>m.block b (h4 b hb).2 (fun e=>by have:=(h4 b hb).1;omega) (h6 b hb)
 refine⟨⟨h1,own_move h2 fun g hg=>m.block g (h2.lt g hg).2 (fun e=>by have:=(h2.lt g hg).1;omega) (h7 g hg),fun q hq=>hm F F w w' _ _ hF (fun _ h=>h) (h3 q hq),fun b hb=>⟨(h4 b hb).1,Nat.lt_of_lt_of_le (h4 b hb).2 m.size⟩,h5⟩,fun b hb=>n.keep (h4 b hb).2 (h6 b hb),fun g hg=>n.keep (h2.lt g hg).2 (h7 g hg)⟩
theorem RGrowBy.kept {ps:List (Value × α)}{F:Nat→Prop}(hm:Movable K)(h:RGrowBy B sgx w e s c K v l ps F){r:Option Nat}(hg:w.grownBy w' r)(hr:∀ k,r=some k→k<B):RGrowBy B sgx w' e s c K v l ps F:=⟨h.1.kept hm hg hr,h.2⟩
theorem RGrow.kept (hm:Movable K)(h:RGrow B sgx w e s c K v l){r:Option Nat}(hg:w.grownBy w' r)(hr:∀ k,r=some k→k<B):RGrow B sgx w' e s c K v l :=
 let ⟨ps,F,h'⟩:=h;⟨ps,F,h'.kept hm hg hr⟩
theorem RGrow.seq (hm:Movable K)(h:RGrow B sgx w e s c K v l):Tr.Seq (Fp B sgx w) w e s c (K (Fp B sgx w) w) v l:=by
 obtain⟨ps,F,⟨h1,h2,h3,h4,h5⟩,h6,h7⟩:=h
 exact⟨ps,h1,own_le h2 (Nat.zero_le _),fun g hg=>⟨(h2.lt g hg).1,(h2.lt g hg).2,h7 g hg⟩,fun q hq=>hm F _ w w _ _ (fun _ _=>rfl) (fun b hb=>⟨(h4 b hb).1,(h4 b hb).2,h6 b hb⟩) (h3 q hq)⟩
theorem RGrowBy.push {ps:List (Value × α)} {F:Nat→Prop} (hm:Movable K) (h:RGrowBy B sgx w e s c K v l ps F) (hq:q<B) (hB:B≤w.heap.size) {w1 w2 w3:World} (g1:Mv q sgx w w1) (n1:Nx sgx w sgx1) (ho1:∀ g,sgx1.ownBlock=some g→g<w1.heap.size) (x:Value × α)
  (hx:K (Fp w.heap.size sgx1 w1) w1 x.1 x.2) (g2:w1.grownBy w2 none) {g cap:Nat} (ho:w3.ownsRow B e s (.slice (some ⟨g,0,none⟩) (l.length+1) cap) (l.length+1) (ps.flatMap c++c x))
  (g3:w2.grownBy w3 v.ownBlock) (ha:v.ownBlock=some g∨g=w2.heap.size):RGrow B sgx1 w3 e s c K (.slice (some ⟨g,0,none⟩) (l.length+1) cap) (l++[x.2]):=by
 obtain⟨⟨h1,h2,h3,h4,h5⟩,h6,h7⟩:=h
 have s1:=g1.size
 have s2:=g2.size
 have s3:=g3.size
 have e1:∀ b,F b→w3.heap[b]?=w.heap[b]?:=fun b hF=>by
  have hb:=h4 b hF
  rw [g3.block b (by omega) (fun e=>h5 b e.symm hF),g2.block b (by omega) (by simp),g1.block b hb.2 (by omega) (h6 b hF)]
 have e2:∀ b,Fp w.heap.size sgx1 w1 b→w3.heap[b]?=w1.heap[b]?:=fun b hI=>by
  rw [g3.block b (by have:=hI.2.1;omega) (fun e=>by have:=(h2.lt b e.symm).2;have:=hI.1;omega),g2.block b hI.2.1 (by simp)]
 refine⟨ps++[x],fun b=>F b∨Fp w.heap.size sgx1 w1 b,⟨?_,?_,?_,?_,?_⟩,?_,?_⟩
 ·rw [List.map_append,h1];rfl
 ·rw [List.flatMap_append,List.length_append];simpa using ho
 ·intro q' hq'
  rcases List.mem_append.1 hq' with h' | h'
  ·exact hm F _ w w3 _ _ e1 (fun _ h=>.inl h) (h3 q' h')
  ·simp at h';subst h'
   exact hm _ _ w1 w3 _ _ e2 (fun _ h=>.inr h) hx
 ·intro b hb
  rcases hb with hb | hb
  ·have:=h4 b hb;omega
  ·have:=hb.1;have:=hb.2.1;omega
 ·intro g' hg'
  have:g=g':=by simpa [Value.ownBlock] using hg'
  subst this
  rintro (hF | hI)
  ·rcases ha with ha | ha
   ·exact h5 _ ha hF
   ·have:=h4 _ hF;omega
  ·rcases ha with ha | ha
   ·have:=(h2.lt _ ha).2;have:=hI.1;omega
   ·have:=hI.2.1;omega
 ·intro b hb
  rcases hb with hb | hb
  ·exact n1.keep (h4 b hb).2 (h6 b hb)
  ·exact hb.2.2
 ·intro g' hg'
  have:g=g':=by simpa [Value.ownBlock] using hg'
  subst this
  rcases ha with ha | ha
  ·exact n1.keep (h2.lt _ ha).2 (h7 _ ha)
  ·intro e';have:=ho1 _ e';omega
end
end
end Go.Proofs.YtlcppnabbicmoaaGreatDoor

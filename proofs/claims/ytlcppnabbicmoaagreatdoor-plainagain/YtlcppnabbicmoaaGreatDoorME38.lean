import Derived.BigQuiet
import Derived.Test.YtlcppnabbicmoaaGreatDoorME36
import Derived.Test.YtlcppnabbicmoaaGreatDoorME37
set_option maxHeartbeats 8000000
set_option maxRecDepth 1000000
namespace Go.Proofs.YtlcppnabbicmoaaGreatDoor
section
open Go.RowKit
open Tr
def intsA (r:List Nat):Array Value:=(intsV r).toArray
theorem intsA_set (r:List Nat)(i:Nat)(s:Nat):(intsA r).setIfInBounds i (.int .i64 (s:Int))=intsA (r.set i s):=by
 unfold intsA intsV;rw[List.setIfInBounds_toArray,List.map_set]
theorem intsA_get (r:List Nat){i:Nat}(h:i<r.length):(intsA r)[i]?=some (.int .i64 (r[i]:Int)):=by
 unfold intsA intsV;simp[h]
theorem made_ints (n:Nat):madeCells #[.int .i64 0] (n*1)=intsA (List.replicate n 0):=by
 unfold madeCells intsA intsV;apply Array.ext
 ·simp
 ·intro i h1 h2
  simp[Nat.mod_one]
theorem Tryz.info3':(Tryz.prog.info? 3).map (fun i=>(i.zero,i.size,i.bytes))=some (some (.int .i64 0),1,8):=by kernel_rfl
theorem make_ints {n:Nat}(hn:n<=100000)(w:World):(Instr.makeSlice 24 (.int .i64 (n:Int)) (.int .i64 (n:Int))).run Tryz.prog w=.ok (.slice (some ⟨w.heap.size,0,none⟩) n n) (w.alloc (.cells (intsA (List.replicate n 0)) 3)):=by
 obtain⟨i0,hi,hz0,hz1,hz2⟩:=info_parts Tryz.info3';have h:=run_make (P:=Tryz.prog) w 24 3 i0 _ (by kernel_rfl) hi hz0 .i64 .i64 (n:Int) (n:Int) (by omega) (Int.le_refl _) (by rw[hz2];omega) (by omega);rw[h,Int.toNat_natCast,hz1];have e:Value.cells (.int .i64 0)=#[.int .i64 0]:=rfl;rw[e,made_ints]
theorem IR_of_blk {w:World}{g:Nat}{r:List Nat}(h:Blk w g (intsA r) 3){B:Nat}(hB:B<=g)(hr:r.length<=100000):IR B w (.slice (some ⟨g,0,none⟩) r.length r.length) r:=by
 refine⟨by rw[intsV_len];simp,.inr ⟨g,r.length,intsA r,rfl,hB,h,Nat.le_refl _,by unfold maxLen;omega,by simp[intsA,intsV_len],?_⟩⟩;unfold intsA;rw[Nat.mul_one,<-intsV_len];exact List.take_length
namespace Lx
theorem addTok_nodup {l:List ByteArray}(h:l.Nodup)(b:ByteArray):(addTok l b).Nodup:=by
 unfold addTok
 split
 ·exact h
 ·rename_i hb
  rw[List.nodup_append];refine⟨h,by simp,fun a ha c hc e=>?_⟩;rw[List.mem_singleton]at hc;exact hb (fnd_mem.2 (hc ▸ e ▸ ha))
theorem addToks_nodup:∀ (bs l:List ByteArray),l.Nodup->(addToks l bs).Nodup
 | [],_,h=>h
 | b::bs,l,h=>addToks_nodup bs (addTok l b) (addTok_nodup h b)
theorem map_put {T:List ByteArray}(nd:T.Nodup){b:ByteArray}{i:Nat}(hi:T[i]?=some b)(f:ByteArray->Nat)(v:Nat):(T.map f).set i v=T.map fun t=>if t=b then v else f t:=by
 obtain⟨hi,rfl⟩:=List.getElem?_eq_some_iff.1 hi;apply List.ext_getElem
 ·simp
 ·intro j h1 h2
  simp only[List.length_set,List.length_map]at h1;rw[List.getElem_set,List.getElem_map,List.getElem_map]
  by_cases hij:i=j
  ·subst hij;simp
  ·rw[if_neg hij,if_neg]
   intro e;exact hij ((List.getElem_inj nd).1 e).symm
theorem fnd_get {T:List ByteArray}{b:ByteArray}(h:0<=fnd T b):T[fix T b]?=some b/\fnd T b=(fix T b:Int):=by
 have h0:fix T b<T.length:=by
  unfold fnd at h
  split at h
  ·assumption
  ·omega
 refine⟨?_,by unfold fnd;rw[if_pos h0]⟩;have:=List.findIdx_getElem (w:=h0);rw[List.getElem?_eq_getElem h0];have h2:T[fix T b]=b:=of_decide_eq_true this;rw[h2]
def putL (p:Nat × Nat):List (ByteArray × Nat)->(ByteArray->Nat × Nat)->ByteArray->Nat × Nat
 | [],B=>B
 | t::ts,B=>putL p ts fun c=>if c=t.1 then p else B c
theorem putL_eq (p:Nat × Nat):∀ (ts:List (ByteArray × Nat)) (B:ByteArray->Nat × Nat) (t:ByteArray),putL p ts B t=if 0<=fnd (ts.map Prod.fst) t then p else B t
 | [],B,t=>by
  have:¬ 0<=fnd ([]:List ByteArray) t:=fun h=>by have:=fnd_mem.1 h;cases this
  rw[List.map_nil,if_neg this];rfl
 | x::ts,B,t=>by
  rw[putL,putL_eq p ts,List.map_cons]
  by_cases h1:0<=fnd (ts.map Prod.fst) t
  ·rw[if_pos h1,if_pos (fnd_mem.2 (List.mem_cons_of_mem _ (fnd_mem.1 h1)))]
  ·rw[if_neg h1]
   by_cases h2:t=x.1
   ·rw[if_pos h2,if_pos (fnd_mem.2 (by rw[h2];exact List.mem_cons_self))]
   ·rw[if_neg h2,if_neg]
    intro h;rcases List.mem_cons.1 (fnd_mem.1 h) with h | h
    ·exact h2 h
    ·exact h1 (fnd_mem.2 h)
end Lx
structure LevP (w:World) (mb:Nat) (cs:Array Value) (T:List ByteArray) (B:ByteArray->Nat × Nat) (w':World):Prop where
 ex:∃ vB vK,Blk w' mb ((cs.setIfInBounds 3 vB).setIfInBounds 4 vK) 125/\IR w.heap.size w' vB (T.map fun t=>(B t).1)/\IR w.heap.size w' vK (T.map fun t=>(B t).2)/\∀ g,vB.ownBlock=some g->vK.ownBlock≠some g
 kp:Kp (fun g=>g<w.heap.size/\g≠mb) w w'
theorem addLevels_any {F:Nat->Prop} {w:World} {mb S:Nat} {vT vN vP vH vL:Value} {T:List ByteArray} {lvs:List Lx.Lv} (kM:Blk w mb #[vT,vN,vP,.slice none 0 0,.slice none 0 0,.map (some S),vH] 125) (oT:w.ownsRow 0 9 1 vT T.length (T.map Value.string)) (hS:SMap w S (Lx.tokN T)) (hV:Tr.Seq F w 175 2 cL (KL F w) vL lvs) (hF:∀ b,F b->b<w.heap.size/\b≠mb) (nd:T.Nodup) (hT:∀ l∈lvs,∀ t∈l.tokens,0<=Lx.fnd T t.1) (hTl:T.length<=100000) (hLl:lvs.length<=100000) :
  Calls Tryz.prog 56 #[.pointer (some ⟨mb,0,none⟩),vL] w fun e w'=>e=.returned (.tuple #[])/\LevP w mb #[vT,vN,vP,.slice none 0 0,.slice none 0 0,.map (some S),vH] T (fun t=>Lx.bk t 0 lvs (0,0)) w':=by
 obtain⟨la,lc,rfl,hlm⟩:=Seq.len hV;obtain⟨ta,tc,rfl,-⟩:=own_len oT;have lm:=kM.lt;have lS:=hS.lt;have hmS:mb≠S:=fun e=>by
  obtain⟨es,clock,h1,-⟩:=hS;unfold Blk at kM;rw[e,h1]at kM;cases kM
 have hmk:=fun w=>make_ints hTl w
 have m0:w.cell? ⟨mb,0,none⟩=some (.slice ta T.length tc):=kM.cell 0;have m3:w.cell? ⟨mb,3,none⟩=some (.slice none 0 0):=kM.cell 3;have m4:w.cell? ⟨mb,4,none⟩=some (.slice none 0 0):=kM.cell 4;have f0:∀ i,w.frozen? ⟨mb,i,none⟩=false:=kM.frozen;go_enter Tryz.func56,Tryz.ntmps56;go_wp2_with fail;obtain⟨W,hW⟩:∃ W,W=(((w.setCell ⟨mb,3,none⟩ (.slice (some ⟨w.heap.size,0,none⟩) T.length T.length)).setCell ⟨mb,4,none⟩ (.slice (some ⟨w.heap.size+1,0,none⟩) T.length T.length)).alloc (.cells (intsA (List.replicate T.length 0)) 3)).alloc (.cells (intsA (List.replicate T.length 0)) 3):=⟨_,rfl⟩;rw[<-hW];have kW:Blk W mb #[.slice ta T.length tc,vN,vP,.slice (some ⟨w.heap.size,0,none⟩) T.length T.length,.slice (some ⟨w.heap.size+1,0,none⟩) T.length T.length,.map (some S),vH] 125:=by rw[hW];exact (((kM.set 3 _).set 4 _).alloc _).alloc _
 have e00:T.map (fun _:ByteArray=>0)=List.replicate T.length 0:=List.map_const' ..;have kB:Blk W w.heap.size (intsA (T.map fun t=>((fun _=>(0,0):ByteArray->Nat × Nat) t).1)) 3:=by
  have:=(Blk.new ((w.setCell ⟨mb,3,none⟩ (.slice (some ⟨w.heap.size,0,none⟩) T.length T.length)).setCell ⟨mb,4,none⟩ (.slice (some ⟨w.heap.size+1,0,none⟩) T.length T.length)) (intsA (List.replicate T.length 0)) 3).alloc (.cells (intsA (List.replicate T.length 0)) 3);rw[hW];show Blk _ _ (intsA (T.map (fun _:ByteArray=>0))) 3;rw[e00];simpa [World.setCell]using this
 have kK:Blk W (w.heap.size+1) (intsA (T.map fun t=>((fun _=>(0,0):ByteArray->Nat × Nat) t).2)) 3:=by
  have:=Blk.new (((w.setCell ⟨mb,3,none⟩ (.slice (some ⟨w.heap.size,0,none⟩) T.length T.length)).setCell ⟨mb,4,none⟩ (.slice (some ⟨w.heap.size+1,0,none⟩) T.length T.length)).alloc (.cells (intsA (List.replicate T.length 0)) 3)) (intsA (List.replicate T.length 0)) 3;rw[hW];show Blk _ _ (intsA (T.map (fun _:ByteArray=>0))) 3;rw[e00];simpa [World.setCell]using this
 have hkW:Kp (fun g=>g<w.heap.size/\g≠mb) w W:=⟨by rw[hW];rfl,by rw[hW];rfl,by rw[hW];rfl,by rw[hW];simp[World.setCell];omega,fun g hg=>by rw[hW,Below.heap_alloc _ _ _ (by simp[World.setCell];omega),Below.heap_alloc _ _ _ (by simp[World.setCell];exact hg.1),Below.heap_setCell _ _ _ _ hg.2,Below.heap_setCell _ _ _ _ hg.2]⟩;have H0:Hid (∀ t,Lx.bk t 0 lvs (0,0)=Lx.bk t 0 (lvs.drop 0) ((fun _=>(0,0):ByteArray->Nat × Nat) t)):=fun _=>rfl
 clear hW e00 hmk m0 m3 m4 f0;obtain⟨CS,hCS⟩:∃ CS:Array Value,CS=#[.slice ta T.length tc,vN,vP,.slice (some ⟨w.heap.size,0,none⟩) T.length T.length,.slice (some ⟨w.heap.size+1,0,none⟩) T.length T.length,.map (some S),vH]:=⟨_,rfl⟩;rw[<-hCS]at kW
 go_loopg [32] lvs.length (fun k i wr=>∃ (j:Nat) (B:ByteArray->Nat × Nat),j+k=lvs.length/\i=.int .i64 j/\Blk wr mb CS 125/\Blk wr w.heap.size (intsA (T.map fun t=>(B t).1)) 3/\Blk wr (w.heap.size+1) (intsA (T.map fun t=>(B t).2)) 3/\Kp (fun g=>g<w.heap.size/\g≠mb) w wr/\Hid (∀ t,Lx.bk t 0 lvs (0,0)=Lx.bk t j (lvs.drop j) (B t)))
 case atStart=>exact⟨0,_,by omega,rfl,kW,kB,kK,hkW,H0⟩
 case round =>
  clear H0 hkW kK kB kW;revert wr;intro wz hrel;obtain⟨j,B,hk,rfl,kz,kBz,kKz,hkz,HD⟩:=hrel
  by_cases hlt:j<lvs.length
  ·have hVz:Tr.Seq F wz 175 2 cL (KL F w) _ lvs:=Seq.move hV (fun b hb=>hkz.block b (hF b hb)) (fun _ h=>h) (fun _ _ h=>h)
   obtain⟨gL,capL,va,hv,hgL,hKL,hcL⟩:=Seq.at hVz (fun _=>rfl) hlt;cases hv;have hTj:=hT lvs[j] (List.getElem_mem hlt);have hd:=HD.out;rw[List.drop_eq_getElem_cons hlt]at hd;have c0:wz.cell? ⟨gL,j*2,none⟩=some (.int .i64 (lvs[j].kind:Int)):=hcL 0 (by decide);have c1:wz.cell? ⟨gL,j*2+1,none⟩=some va:=hcL 1 (by decide);generalize lvs[j]=lv at hTj hd hKL c0 c1;obtain⟨kd,toks⟩:=lv;simp only at hTj hKL c0 c1;have hKL':Tr.Seq F w 9 1 cT (fun _ _=>True) va toks:=hKL;obtain⟨xa,xc,rfl,htm⟩:=Seq.len hKL';obtain⟨j1,hj1,HJ⟩:∃ j1:Nat,IntKind.i64.wrap ((j:Int)+1)=(j1:Int)/\Hid (j1=j+1):=⟨j+1,by rw[show ((j:Int)+1)=((j+1:Nat):Int) from by omega];exact wrap64 (by omega),rfl⟩;have HE:Hid (∀ t,Lx.bk t 0 lvs (0,0)=Lx.bk t (j+1) (lvs.drop (j+1)) (Lx.putL (j1,kd) (toks.drop 0) B t)):=fun t=>by
    rw[hd t,Lx.bk,HJ.out,List.drop_zero,Lx.putL_eq]
   clear hd HD hcL hKL;obtain⟨W1,hW1⟩:∃ W1,W1=wz.alloc (.cells #[.int .i64 (kd:Int),.slice xa toks.length xc] 175):=⟨_,rfl⟩;have hb1:Below wz.heap.size wz W1:=by rw[hW1];exact (Below.refl _ _).alloc (Nat.le_refl _) _
   have hs1:W1.heap.size=wz.heap.size+1:=by rw[hW1];simp
   have kl:Blk W1 wz.heap.size #[.int .i64 (kd:Int),.slice xa toks.length xc] 175:=by rw[hW1];exact Blk.new wz _ 175
   have lKz:=kKz.lt;have k1:Blk W1 mb CS 125:=(hb1.block _ kz.lt).trans kz;have kB1:=(hb1.block _ kBz.lt).trans kBz;have kK1:=(hb1.block _ kKz.lt).trans kKz;have hk1:Kp (fun g=>g<w.heap.size/\g≠mb) w W1:=hkz.trans (Kp.below hb1 (D:=fun g=>g<wz.heap.size) fun g hg=>hg) fun g hg=>Nat.lt_of_lt_of_le hg.1 hkz.size
   unfold maxLen at htm;go_wp2_with fail;rw[<-hW1];clear hW1 c0 c1
   go_loopg [40] toks.length (fun k i wr=>∃ (m:Nat) (B:ByteArray->Nat × Nat),m+k=toks.length/\i=.int .i64 m/\Blk wr mb CS 125/\Blk wr w.heap.size (intsA (T.map fun t=>(B t).1)) 3/\Blk wr (w.heap.size+1) (intsA (T.map fun t=>(B t).2)) 3/\Blk wr wz.heap.size #[.int .i64 (kd:Int),.slice xa toks.length xc] 175/\Kp (fun g=>g<w.heap.size/\g≠mb) w wr/\Hid (∀ t,Lx.bk t 0 lvs (0,0)=Lx.bk t (j+1) (lvs.drop (j+1)) (Lx.putL (j1,kd) (toks.drop m) B t)))
   case atStart=>exact⟨0,B,by omega,rfl,k1,kB1,kK1,kl,hk1,HE⟩
   case round =>
    clear HE hk1 kl kK1 kB1 k1 hb1 kz kBz kKz hkz;clear B;obtain⟨m,B,hkm,rfl,kr,kBr,kKr,klr,hkr,HE⟩:=hrel
    by_cases hltm:m<toks.length
    ·have hTr:Tr.Seq F wr 9 1 cT (fun _ _=>True) _ toks:=Seq.move hKL' (fun b hb=>hkr.block b (hF b hb)) (fun _ h=>h) (fun _ _ h=>h)
     obtain⟨gT,capT,vk,hv,hgT,-,hcT⟩:=Seq.at hTr (fun _=>rfl) hltm;cases hv;have t0:wr.cell? ⟨gT,m,none⟩=some (.string toks[m].1):=by
      have:=hcT 0 (by decide);rw[Nat.mul_one,Nat.add_zero]at this;exact this
     have hfm:=hTj toks[m] (List.getElem_mem hltm);have hd:=HE.out;rw[List.drop_eq_getElem_cons hltm]at hd;generalize toks[m]=tk at t0 hfm hd;obtain⟨tx,tp⟩:=tk;simp only at t0 hfm;obtain⟨hq1,hq2⟩:=Lx.fnd_get hfm;have hq3:Lx.tokN T tx=(Lx.fix T tx:Int):=by unfold Lx.tokN;rw[if_pos hfm];exact hq2
     have hMr:SMap wr S (Lx.tokN T):=hS.move (hkr.block S ⟨lS,fun e=>hmS e.symm⟩);have eB:=Lx.map_put nd hq1 (fun t=>(B t).1) j1;have eK:=Lx.map_put nd hq1 (fun t=>(B t).2) kd;have hql:Lx.fix T tx<T.length:=(List.getElem?_eq_some_iff.1 hq1).1;have HE2:Hid (∀ t,Lx.bk t 0 lvs (0,0)=Lx.bk t (j+1) (lvs.drop (j+1)) (Lx.putL (j1,kd) (toks.drop (m+1)) (fun c=>if c=tx then (j1,kd) else B c) t)):=fun t=>by rw[hd t];rfl
     have eB':(T.map fun t=>((fun c=>if c=tx then (j1,kd) else B c) t).1)=T.map fun t=>if t=tx then j1 else (B t).1:=List.map_congr_left fun t _=>by show (if t=tx then (j1,kd) else B t).1=_;split <;> rfl
     have eK':(T.map fun t=>((fun c=>if c=tx then (j1,kd) else B c) t).2)=T.map fun t=>if t=tx then kd else (B t).2:=List.map_congr_left fun t _=>by show (if t=tx then (j1,kd) else B t).2=_;split <;> rfl
     have hl1:=SMap.look (w:=wr.drew) (hMr.move rfl) tx;rw[hq3]at hl1;have HB0:Hid (Lx.fix T tx<(T.map fun t=>(B t).1).length):=by show _<_;simpa using hql
     have HK0:Hid (Lx.fix T tx<(T.map fun t=>(B t).2).length):=by show _<_;simpa using hql
     have hqN:=hq3;generalize Lx.fix T tx=q at hl1 eB eK hql HB0 HK0 hqN;have kBd:=kBr.drew;have b0:wr.drew.cell? ⟨w.heap.size,q,none⟩=some (.int .i64 ((T.map fun t=>(B t).1)[q]'HB0.out:Int)):=by rw[kBd.cell q];exact intsA_get _ HB0.out
     generalize (T.map fun t=>(B t).1)[q]'HB0.out=ob at b0;have fB:∀ i,wr.drew.frozen? ⟨w.heap.size,i,none⟩=false:=kBd.frozen;have krd:=kr.drew;rw[hCS]at krd;have m3:wr.drew.cell? ⟨mb,3,none⟩=some (.slice (some ⟨w.heap.size,0,none⟩) T.length T.length):=krd.cell 3;have m5:wr.drew.cell? ⟨mb,5,none⟩=some (.map (some S)):=krd.cell 5;obtain⟨W2,hW2⟩:∃ W2,W2=(wr.setCell ⟨w.heap.size,q,none⟩ (.int .i64 (j1:Int))).drew:=⟨_,rfl⟩;have kB2:Blk W2 w.heap.size (intsA (T.map fun t=>if t=tx then j1 else (B t).1)) 3:=by
      have:=(kBr.set q (.int .i64 (j1:Int))).drew;rw[intsA_set,eB]at this;rw[hW2];exact this
     have bk2:∀ g,g≠w.heap.size->W2.heap[g]?=wr.heap[g]?:=fun g hg=>by rw[hW2];exact Below.heap_setCell _ _ _ _ hg
     have k2:Blk W2 mb CS 125:=(bk2 mb (by omega)).trans kr;have kK2:=(bk2 (w.heap.size+1) (by omega)).trans kKr;have kl2:=(bk2 wz.heap.size (by omega)).trans klr;have hk2:Kp (fun g=>g<w.heap.size/\g≠mb) w W2:=⟨by rw[hW2];exact hkr.os,by rw[hW2];exact hkr.tape,by rw[hW2];exact hkr.output,by rw[hW2];simpa [World.setCell]using hkr.size,fun g hg=>(bk2 g (by omega)).trans (hkr.block g hg)⟩;have hM2:SMap W2 S (Lx.tokN T):=hMr.move (bk2 S (by omega));have hl2:=SMap.look (w:=W2.drew) (hM2.move rfl) tx;rw[hqN]at hl2;have kK2':Blk W2 (w.heap.size+1) (intsA (T.map fun t=>(B t).2)) 3:=kK2;have kl2':Blk W2 wz.heap.size #[.int .i64 (kd:Int),.slice (some ⟨gT,0,none⟩) toks.length xc] 175:=kl2;have a0:W2.drew.cell? ⟨w.heap.size+1,q,none⟩=some (.int .i64 ((T.map fun t=>(B t).2)[q]'HK0.out:Int)):=by rw[kK2'.drew.cell q];exact intsA_get _ HK0.out
     generalize (T.map fun t=>(B t).2)[q]'HK0.out=ok at a0;have fK:∀ i,W2.drew.frozen? ⟨w.heap.size+1,i,none⟩=false:=kK2'.drew.frozen;have k2d:=k2.drew;rw[hCS]at k2d;have n4:W2.drew.cell? ⟨mb,4,none⟩=some (.slice (some ⟨w.heap.size+1,0,none⟩) T.length T.length):=k2d.cell 4;have n5:W2.drew.cell? ⟨mb,5,none⟩=some (.map (some S)):=k2d.cell 5;have nl:W2.drew.cell? ⟨wz.heap.size,0,none⟩=some (.int .i64 (kd:Int)):=kl2'.drew.cell 0;obtain⟨W3,hW3⟩:∃ W3,W3=(W2.setCell ⟨w.heap.size+1,q,none⟩ (.int .i64 (kd:Int))).drew:=⟨_,rfl⟩;have kK3:Blk W3 (w.heap.size+1) (intsA (T.map fun t=>if t=tx then kd else (B t).2)) 3:=by
      have:=(kK2'.set q (.int .i64 (kd:Int))).drew;rw[intsA_set,eK]at this;rw[hW3];exact this
     have bk3:∀ g,g≠w.heap.size+1->W3.heap[g]?=W2.heap[g]?:=fun g hg=>by rw[hW3];exact Below.heap_setCell _ _ _ _ hg
     have k3:Blk W3 mb CS 125:=(bk3 mb (by omega)).trans k2;have kB3:Blk W3 w.heap.size _ 3:=(bk3 w.heap.size (by omega)).trans kB2;have kl3:Blk W3 wz.heap.size _ 175:=(bk3 wz.heap.size (by omega)).trans kl2';have hk3:Kp (fun g=>g<w.heap.size/\g≠mb) w W3:=⟨by rw[hW3];exact hk2.os,by rw[hW3];exact hk2.tape,by rw[hW3];exact hk2.output,by rw[hW3];simpa [World.setCell]using hk2.size,fun g hg=>(bk3 g (by omega)).trans (hk2.block g hg)⟩;rw[<-eB']at kB3;rw[<-eK']at kK3;clear hd hq1 hq2 hq3 hcT hfm eB kBr kBd eK eB' eK' kK2 kK2' kl2 kl2' k2d krd kB2 k2 hk2 hM2 hqN HB0 HK0 bk2 bk3 kr kKr klr hMr hkr hTr;go_wp2_with fail
     go_region
     all_goals
      rw[<-hW2];clear hW2;go_wp2_with fail
      go_region
     all_goals
      rw[<-hW3];clear hW3;go_wp2_with fail;go_roundg (toks.length - (m+1))
      case measure=>omega
      case rel=>exact⟨m+1,_,by omega,by go_num,k3,kB3,kK3,kl3,hk3,HE2⟩
    ·have:m=toks.length:=by omega
     subst this;have hd:=HE.out;rw[List.drop_length]at hd;have HD2:Hid (∀ t,Lx.bk t 0 lvs (0,0)=Lx.bk t (j+1) (lvs.drop (j+1)) (B t)):=hd;clear hd HE;go_wp2_with fail;go_roundg (lvs.length - (j+1))
     case measure=>omega
     case rel=>exact⟨j+1,B,by omega,by first | rfl | (rw[HJ.out];done) | (rw[HJ.out];go_num),kr,kBr,kKr,hkr,HD2⟩
  ·have:j=lvs.length:=by omega
   subst this;have hd:=HD.out;rw[List.drop_length]at hd;have HD2:Hid (∀ t,Lx.bk t 0 lvs (0,0)=B t):=hd;clear hd HD;go_wp2_with fail
   go_end0
   rw[hCS]at kz;refine⟨rfl,⟨_,_,kz,?_,?_,?_⟩,hkz⟩
   ·rw[show (T.map fun t=>(Lx.bk t 0 lvs (0,0)).1)=T.map fun t=>(B t).1 from List.map_congr_left fun t _=>by rw[HD2.out t]]
    have:=IR_of_blk kBz (Nat.le_refl _) (by simpa using hTl);simpa using this
   ·rw[show (T.map fun t=>(Lx.bk t 0 lvs (0,0)).2)=T.map fun t=>(B t).2 from List.map_congr_left fun t _=>by rw[HD2.out t]]
    have:=IR_of_blk (B:=w.heap.size) kKz (by omega) (by simpa using hTl);simpa using this
   ·intro g hg e
    have h1:w.heap.size=g:=by simpa [Value.ownBlock]using hg
    have h2:w.heap.size+1=g:=by simpa [Value.ownBlock]using e
    omega
end
section
open Go.RowKit
open Tr
def PlP (w:World)(v:Value)(T N:List ByteArray)(P:List Lx.Pd)(Bs Ks:List Nat):Prop:=∃ vT vN vP vB vK,v=.agg #[vT,vN,vP,vB,vK]/\w.ownsRow 0 9 1 vT T.length (T.map Value.string)/\w.ownsRow 0 9 1 vN N.length (N.map Value.string)/\PP (fun _=>True) w vP P/\IR 0 w vB Bs/\IR 0 w vK Ks
def PlPB (B:Nat)(w:World)(v:Value)(T N:List ByteArray)(P:List Lx.Pd)(Bs Ks:List Nat):Prop:=∃ vT vN vP vB vK,v=.agg #[vT,vN,vP,vB,vK]/\w.ownsRow 0 9 1 vT T.length (T.map Value.string)/\w.ownsRow 0 9 1 vN N.length (N.map Value.string)/\PP (fun g=>B<=g) w vP P/\IR 0 w vB Bs/\IR 0 w vK Ks/\∀ g,vP.ownBlock=some g->B<=g
theorem PlPB.pl {B:Nat}{w:World}{v:Value}{T N:List ByteArray}{P:List Lx.Pd}{Bs Ks:List Nat}(h:PlPB B w v T N P Bs Ks):PlP w v T N P Bs Ks:=by
 obtain⟨vT,vN,vP,vB,vK,h0,h1,h2,⟨ps,p1,p2,p3,p4⟩,h4,h5,-⟩:=h;exact⟨vT,vN,vP,vB,vK,h0,h1,h2,⟨ps,p1,p2,fun q hq=>⟨(p3 q hq).1,fun _ _=>trivial⟩,p4⟩,h4,h5⟩
theorem PP.move {D D':Nat->Prop}{w w':World}{v:Value}{P:List Lx.Pd}(h:PP D w v P)(hD:∀ g,D g->D' g)(hk:∀ g,D g->w'.heap[g]?=w.heap[g]?)(hv:∀ g,v.ownBlock=some g->w'.heap[g]?=w.heap[g]?):PP D' w' v P:=by
 obtain⟨ps,h1,h2,h3,h4⟩:=h;exact⟨ps,h1,own_move h2 hv,fun q hq=>⟨own_move (h3 q hq).1 fun g hg=>hk g ((h3 q hq).2 g hg),fun g hg=>hD g ((h3 q hq).2 g hg)⟩,h4⟩
theorem GMap.empty {κ:Type}{K:κ->Value}{G:κ->Prop}{w:World}{B:Nat}(h:w.heap[B]?=some (.map #[] 0)):GMap K G w B (fun _=>0) :=
 ⟨#[],0,h,fun i e h=>by simp at h,fun i j e e' h=>by simp at h,fun a h=>absurd rfl h⟩
theorem own_cells {w:World}{B e z:Nat}{v:Value}{n:Nat}{xs:List Value}(h:w.ownsRow B e z v n xs){g:Nat}(hg:v.ownBlock=some g):∃ cur:Array Value,w.heap[g]?=some (.cells cur e):=by
 rcases h.2 with h0 | ⟨g',cap,cur,hv,-,hh,-⟩
 ·rw[h0.1]at hg;simp[Value.ownBlock]at hg
 ·have:g'=g:=by rw[hv]at hg;simpa [Value.ownBlock]using hg
  subst this;exact⟨cur,hh⟩
def ProdP (g:Lx.Gr)(w:World)(e:Ending)(w':World):Prop:=∃ v,e=.returned v/\PlPB w.heap.size w' v (Lx.tokG g) (Lx.namG g) (Lx.prodG g) ((Lx.tokG g).map fun t=>(Lx.bkOf g t).1) ((Lx.tokG g).map fun t=>(Lx.bkOf g t).2)/\Below w.heap.size w w'
theorem produce_any {F:Nat->Prop} {w:World} {vl vr vW:Value} {g:Lx.Gr} {s:ByteArray} (hp:Lx.parse s=.ok g) (hf:Lx.Fit g) (hg:GramIn F w vl vr g) (hF:∀ b,F b->b<w.heap.size) (hWR:WR w vW (Lx.flatG g)) (ht:Tab w) (hwl:(Lx.flatG g).length<=100000) :
  Calls Tryz.prog 27 #[.agg #[vl,vr],vW] w (ProdP g w):=by
 obtain⟨la,lc,rfl,-⟩:=Seq.len hg.1;obtain⟨ra,rc,rfl,-⟩:=(PGr.len (F:=F) (w:=w) ⟨hF,SeqS.weak hg.2 fun A v x hA hk=>AltsInS.weak hA hk⟩);obtain⟨wa,wc,rfl,-⟩:=hWR.len;have hmm:=@run_makeMap Tryz.prog;unfold ProdP;go_enter Tryz.func27,Tryz.ntmps27;go_wp2_with fail;have e4:w.heap.size+1+1+1+1=w.heap.size+4:=rfl;have e3:w.heap.size+1+1+1=w.heap.size+3:=rfl;have e2:w.heap.size+1+1=w.heap.size+2:=rfl;rw[e4,e3,e2];clear e4 e3 e2 hmm;obtain⟨A1,hA1⟩:∃ A1,A1=(w.alloc (.cells #[.slice la g.levels.length lc,.slice ra g.rules.length rc] 65)).alloc (.cells #[.slice none 0 0,.slice none 0 0,.slice none 0 0,.slice none 0 0,.slice none 0 0] 26):=⟨_,rfl⟩;have hsA:A1.heap.size=w.heap.size+2:=by rw[hA1];simp
 obtain⟨W,hW⟩:∃ W,W=((A1.alloc (.map #[] 0)).alloc (.map #[] 0)).alloc (.cells #[.slice none 0 0,.slice none 0 0,.slice none 0 0,.slice none 0 0,.slice none 0 0,.map (some (w.heap.size+2)),.map (some (w.heap.size+3))] 125):=⟨_,rfl⟩;have hbA:Below w.heap.size w A1:=by rw[hA1];exact ((Below.refl _ _).alloc (Nat.le_refl _) _).alloc (by simp) _
 have hbAW:Below A1.heap.size A1 W:=by rw[hW];exact (((Below.refl _ _).alloc (Nat.le_refl _) _).alloc (by simp) _).alloc (by simp;omega) _
 have hbW:Below w.heap.size w W:=hbA.trans (hbAW.mono (by omega));have hsW:W.heap.size=w.heap.size+5:=by rw[hW];simp[hsA]
 have kG:Blk W w.heap.size #[.slice la g.levels.length lc,.slice ra g.rules.length rc] 65:=by
  have:Blk A1 w.heap.size #[.slice la g.levels.length lc,.slice ra g.rules.length rc] 65:=by rw[hA1];exact (Blk.new w _ 65).alloc _
  exact (hbAW.block _ (by omega)).trans this
 have kRs:Blk W (w.heap.size+1) #[.slice none 0 0,.slice none 0 0,.slice none 0 0,.slice none 0 0,.slice none 0 0] 26:=by
  have:Blk A1 (w.heap.size+1) #[.slice none 0 0,.slice none 0 0,.slice none 0 0,.slice none 0 0,.slice none 0 0] 26:=by rw[hA1];simpa using Blk.new (w.alloc (.cells #[.slice la g.levels.length lc,.slice ra g.rules.length rc] 65)) #[.slice none 0 0,.slice none 0 0,.slice none 0 0,.slice none 0 0,.slice none 0 0] 26
  exact (hbAW.block _ (by omega)).trans this
 have hSr:W.heap[w.heap.size+2]?=some (.map #[] 0):=by
  rw[hW,Below.heap_alloc _ _ _ (by simp;omega),Below.heap_alloc _ _ _ (by simp;omega),<-hsA];exact heap_alloc_new A1 _
 have hHr:W.heap[w.heap.size+3]?=some (.map #[] 0):=by
  rw[hW,Below.heap_alloc _ _ _ (by simp;omega),show w.heap.size+3=(A1.alloc (.map #[] 0)).heap.size by simp;omega];exact heap_alloc_new _ _
 have kM:Blk W (w.heap.size+4) #[.slice none 0 0,.slice none 0 0,.slice none 0 0,.slice none 0 0,.slice none 0 0,.map (some (w.heap.size+2)),.map (some (w.heap.size+3))] 125:=by
  have:=Blk.new ((A1.alloc (.map #[] 0)).alloc (.map #[] 0)) #[.slice none 0 0,.slice none 0 0,.slice none 0 0,.slice none 0 0,.slice none 0 0,.map (some (w.heap.size+2)),.map (some (w.heap.size+3))] 125;rw[hW];simpa [hsA]using this
 rw[hA1]at hW;rw[<-hW];clear hW hA1 hbA hbAW hsA;clear A1;have hWRW:=hWR.below hbW;have q1:=addTokens_any (S:=w.heap.size+2) kM (GMap.empty hSr) hWRW (fun b hb=>by have:=(hWR.lt b hb).2;omega) (Lx.flat_small hp) (Lx.flat_dollar hp) hwl;rw[Lx.tokW_tokG (Lx.prec_lev hp hf.unk)]at q1;refine q1.mono ?_;rintro e w2 ⟨rfl,⟨vT,kT,oT⟩,sT,kpT⟩;clear q1 hWRW;obtain⟨ta,tc,rfl,-⟩:=own_len oT;have kT':Blk w2 (w.heap.size+4) #[.slice ta (Lx.tokG g).length tc,.slice none 0 0,.slice none 0 0,.slice none 0 0,.slice none 0 0,.map (some (w.heap.size+2)),.map (some (w.heap.size+3))] 125:=kT;have hs2:=kpT.size;have b2:∀ x,x<w.heap.size+2∨x=w.heap.size+3->w2.heap[x]?=W.heap[x]?:=fun x hx=>kpT.block x (by omega)
 have g2:∀ x,x<w.heap.size->w2.heap[x]?=w.heap[x]?:=fun x hx=>(b2 x (by omega)).trans (hbW.block x hx)
 have kG2:Blk w2 w.heap.size _ 65:=(b2 _ (by omega)).trans kG;have gl:w2.cell? ⟨w.heap.size,0,none⟩=some (.slice la g.levels.length lc):=kG2.cell 0;have hlv:g.levels.length<=100000:=by
  have h1:g.levels.length<=Lx.sizeV g.levels:=Lx.len_sum (fun l:Lx.Lv=>1+l.tokens.length) fun _ _=>by omega
  have:=hf.sz;omega
 have q2:=addLevels_any (S:=w.heap.size+2) kT' (own_le oT (Nat.zero_le _)) sT (Seq.move hg.1 (fun b hb=>g2 b (hF b hb)) (fun _ h=>h) (fun v x h=>lev_movable F F w w2 v x (fun b hb=>g2 b (hF b hb)) (fun _ h=>h) h)) (fun b hb=>by have:=hF b hb;omega) (Lx.addToks_nodup _ _ (by simp)) (fun l hl t ht=>Lx.tokG_lv (List.mem_map.2 ⟨(0,t.1,t.2),List.mem_flatMap.2 ⟨l,hl,List.mem_map.2 ⟨t,ht,rfl⟩⟩,rfl⟩)) (by have:=hf.tokL;omega) hlv;go_wp2_with fail;refine q2.mono ?_;rintro e w3 ⟨rfl,⟨vB,vK,kL,oB,oK,hBK⟩,kpL⟩;clear q2 gl;have hs3:=kpL.size;have g3:∀ x,x<w.heap.size->w3.heap[x]?=w.heap[x]?:=fun x hx=>(kpL.block x (by omega)).trans (g2 x hx)
 have kL':Blk w3 (w.heap.size+4) #[.slice ta (Lx.tokG g).length tc,.slice none 0 0,.slice none 0 0,vB,vK,.map (some (w.heap.size+2)),.map (some (w.heap.size+3))] 125:=kL;have kG3:Blk w3 w.heap.size _ 65:=(kpL.block w.heap.size (by omega)).trans kG2;have gr:w3.cell? ⟨w.heap.size,1,none⟩=some (.slice ra g.rules.length rc):=kG3.cell 1;have sT3:SMap w3 (w.heap.size+2) (Lx.tokN (Lx.tokG g)):=sT.move (kpL.block _ (by omega));have hH3:w3.heap[w.heap.size+3]?=some (.map #[] 0):=(kpL.block _ (by omega)).trans ((b2 _ (.inr rfl)).trans hHr);have hR3:Tr.SeqS F w3 179 2 cR KR (.slice ra g.rules.length rc) g.rules:=SeqS.move hg.2 (fun b hb=>g3 b (hF b hb)) (fun _ h=>h) fun A v x hA hk=>rul_movable A A w w3 v x (fun b hb=>g3 b (hF b (hA b hb))) (fun _ h=>h) hk
 have ltab:=ht.lt;have t3:Tab w3:=ht.move (g3 tabB ltab);have hnm:∀ r∈g.rules,r.name.size<=2000:=fun r hr=>by have:=Lx.name_size (hf.rl r hr).1;omega
 have hnl:(Lx.nms g.rules).length<=50000:=by have h1:(Lx.namG g).length<=2002:=hf.namL;have h2:Lx.namG g=Lx.nms g.rules:=rfl;rw[<-h2];omega
 have q3:=addNames_any (D:=fun x=>x<w3.heap.size/\x≠w.heap.size+4/\x≠w.heap.size+2/\x≠w.heap.size+3) kL' sT3 (GMap.empty hH3) hR3 (fun b hb=>by have:=hF b hb;exact⟨by omega,by omega,by omega,by omega⟩) (fun b hb=>hb.1) (fun h=>h.2.1 rfl) (fun h=>h.2.2.1 rfl) (fun h=>h.2.2.2 rfl) (by omega) t3 ⟨by omega,by omega,by omega,by omega⟩ (Lx.dup_rules hf.dup) hnm (by have:=hf.tokL;omega) hnl (by have:=hf.rules;omega);go_wp2_with fail;refine q3.mono ?_;rintro e w4 ⟨rfl,⟨fH,fS,n4,sm4,sy4,he4⟩,kp4⟩;clear q3 gr;rw[List.take_length]at n4;obtain⟨vN,k4,oN,dN⟩:=n4.ex;have hs4:=kp4.size;have g4:∀ x,x<w.heap.size->w4.heap[x]?=w.heap[x]?:=fun x hx=>(kp4.block x ⟨by omega,by omega,by omega,by omega⟩).trans (g3 x hx)
 have lH4:w.heap.size+3<w4.heap.size:=GMap.lt n4.pm;have lS4:w.heap.size+2<w4.heap.size:=GMap.lt sm4;have lM4:=k4.lt;have hMp:Mp (fun x=>(x<w3.heap.size/\x≠w.heap.size+4/\x≠w.heap.size+2/\x≠w.heap.size+3)∨x=w.heap.size+2∨x=w.heap.size+3∨vN.ownBlock=some x) (fun b=>F b/\CellsB w3 b) w4 (w.heap.size+4) (w.heap.size+2) (w.heap.size+3) ta (Lx.tokG g).length tc vN vB vK fS fH []:=by
  refine⟨⟨.slice none 0 0,k4,⟨[],rfl,World.ownsRow_nil _ _ _ _,fun q hq=>(by cases hq),List.Pairwise.nil⟩,fun x hx=>(by cases hx)⟩,sm4,n4.pm,.inr (.inl rfl),.inr (.inr (.inl rfl)),?_,?_,?_⟩
  ·rintro (h | h | h | h)
   ·exact h.2.1 rfl
   ·omega
   ·omega
   ·exact (dN _ h).2.1 rfl
  ·rintro x (h | h | h | h)
   ·omega
   ·omega
   ·omega
   ·exact (oN.lt x h).2
  ·intro b hb
   have hb':=hF b hb.1;exact⟨.inl ⟨by omega,by omega,by omega,by omega⟩,hb.2.move (kp4.block b ⟨by omega,by omega,by omega,by omega⟩)⟩
 have hF4:∀ b,F b->w4.heap[b]?=w3.heap[b]?:=fun b hb=>by
  have hb':=hF b hb;exact kp4.block b ⟨by omega,by omega,by omega,by omega⟩
 have hR4:Tr.SeqS F w4 179 2 cR KR (.slice ra g.rules.length rc) g.rules:=SeqS.move hR3 hF4 (fun _ h=>h) fun A v x hA hk=>rul_movable A A w3 w4 v x (fun b hb=>hF4 b (hA b hb)) (fun _ h=>h) hk
 have hRw3:PGr F w3 (.slice ra g.rules.length rc) g.rules:=⟨fun b hb=>by have:=hF b hb;omega,SeqS.weak hR3 fun A v x hA hk=>AltsInS.weak hA hk⟩;have hRw4:PGr F w4 (.slice ra g.rules.length rc) g.rules:=⟨fun b hb=>by have:=hF b hb;omega,SeqS.weak hR4 fun A v x hA hk=>AltsInS.weak hA hk⟩;have hcv:∀ i (hi:i<g.rules.length),cv w4 ⟨blkOf (.slice ra g.rules.length rc),i*2+1,none⟩=cv w3 ⟨blkOf (.slice ra g.rules.length rc),i*2+1,none⟩/\adA 9 w4 (cv w4 ⟨blkOf (.slice ra g.rules.length rc),i*2+1,none⟩) g.rules[i].alts=adA 9 w3 (cv w3 ⟨blkOf (.slice ra g.rules.length rc),i*2+1,none⟩) g.rules[i].alts:=fun i hi=>by
  obtain⟨gR,cap,va,hv,hFg,hA,c0,c1⟩:=hRw3.at hi;rw[hv];show cv w4 ⟨gR,i*2+1,none⟩=cv w3 ⟨gR,i*2+1,none⟩/\_;have e1:cv w4 ⟨gR,i*2+1,none⟩=cv w3 ⟨gR,i*2+1,none⟩:=cv_same (hF4 gR hFg);refine⟨e1,?_⟩;show adA 9 w4 (cv w4 ⟨gR,i*2+1,none⟩) _=adA 9 w3 (cv w3 ⟨gR,i*2+1,none⟩) _;have e2:cv w3 ⟨gR,i*2+1,none⟩=va:=by unfold cv;rw[c1];rfl
  rw[e1,e2];exact adA_same hA hF4
 have he4':HelF w4 (blkOf (.slice ra g.rules.length rc)) (Lx.tokG g).length g.rules g.rules.length fH:=by
  intro i hi hlt k p hp;refine he4 i hi hlt k p ?_;unfold hlA at hp ⊢;rw[(hcv i hi).2]at hp;exact hp
 have hQ:=ruleQ_of hf hRw4 (adRules_apart hR4) sy4 he4' (G:=fun b=>F b/\CellsB w3 b) (fun b hb hc=>⟨hb,hc.move (hF4 b hb).symm⟩);have kG4:Blk w4 w.heap.size _ 65:=(kp4.block w.heap.size ⟨by omega,by omega,by omega,by omega⟩).trans kG3;have gr4:w4.cell? ⟨w.heap.size,1,none⟩=some (.slice ra g.rules.length rc):=kG4.cell 1;have q4:=addProds_any (T:=Lx.tokG g) (N:=Lx.namG g) hMp hRw4 (fun b hb=>by have hb':=hF b hb;exact .inl ⟨by omega,by omega,by omega,by omega⟩) hQ hf.ne (by have:=hf.rules;omega);go_wp2_with fail;refine q4.mono ?_;rintro e w5 ⟨rfl,E,hE,hM5,kp5⟩;clear q4 gr4 hQ he4';obtain⟨vP,k5,hPP,hvP⟩:=hM5.ex;have hD4:∀ x,x<w3.heap.size->x≠w.heap.size+4->x≠w.heap.size+2->x≠w.heap.size+3->w5.heap[x]?=w4.heap[x]?:=fun x h1 h2 h3 h4=>kp5.block x (.inl ⟨h1,h2,h3,h4⟩)
 have b45:∀ x,x<w3.heap.size->x≠w.heap.size+4->x≠w.heap.size+2->x≠w.heap.size+3->w5.heap[x]?=w3.heap[x]?:=fun x h1 h2 h3 h4=>(hD4 x h1 h2 h3 h4).trans (kp4.block x ⟨h1,h2,h3,h4⟩)
 have kR5:Blk w5 (w.heap.size+1) #[.slice none 0 0,.slice none 0 0,.slice none 0 0,.slice none 0 0,.slice none 0 0] 26:=(b45 _ (by omega) (by omega) (by omega) (by omega)).trans ((kpL.block _ (by omega)).trans ((b2 _ (by omega)).trans kRs));have oT5:w5.ownsRow 0 9 1 (.slice ta (Lx.tokG g).length tc) (Lx.tokG g).length ((Lx.tokG g).map Value.string):=own_le (own_move (own_move oT fun x hx=>kpL.block x (by have:=oT.lt x hx;omega)) fun x hx=>by have:=oT.lt x hx;exact b45 x (by omega) (by omega) (by omega) (by omega)) (Nat.zero_le _);have nT1:(Value.slice ta (Lx.tokG g).length tc).ownBlock≠some (w.heap.size+1):=fun e=>by have:=(oT.lt _ e).1;omega
 have oB5:=own_le (own_move (w':=w5) oB fun x hx=>by have:=oB.lt x hx;exact b45 x (by omega) (by omega) (by omega) (by omega)) (Nat.zero_le _);have nB1:vB.ownBlock≠some (w.heap.size+1):=fun e=>by have:=(oB.lt _ e).1;omega
 have oK5:=own_le (own_move (w':=w5) oK fun x hx=>by have:=oK.lt x hx;exact b45 x (by omega) (by omega) (by omega) (by omega)) (Nat.zero_le _);have nK1:vK.ownBlock≠some (w.heap.size+1):=fun e=>by have:=(oK.lt _ e).1;omega
 have oN5:=own_move (w':=w5) oN fun x hx=>kp5.block x (.inr (.inr (.inr hx)))
 have nN1:vN.ownBlock≠some (w.heap.size+1):=fun e=>(dN _ e).1 (.inl ⟨by omega,by omega,by omega,by omega⟩)
 have nE1:E (w.heap.size+1):=hE _ (.inl ⟨by omega,by omega,by omega,by omega⟩);have nP1:vP.ownBlock≠some (w.heap.size+1):=fun e=>(hvP _ e).1 nE1
 have hP4:∀ x,vP.ownBlock=some x->w.heap.size<=x:=fun x hx=>by have:=(hvP x hx).2;omega
 have hnd:PP (fun x=>x≠w.heap.size+1/\w.heap.size<=x) w5 vP (Lx.prodG g):=by
  obtain⟨ps,p1,p2,p3,p4⟩:=hPP;refine⟨ps,p1,p2,fun q hq=>⟨(p3 q hq).1,fun x hx=>⟨fun e=>?_,by have:=((p3 q hq).2 x hx).2;omega⟩⟩,p4⟩;obtain⟨cur,hc⟩:=own_cells (p3 q hq).1 hx;unfold Blk at kR5;rw[e,kR5]at hc;cases hc
 have hbw5:Below w.heap.size w w5:=⟨kp5.os.trans (kp4.os.trans (kpL.os.trans (kpT.os.trans hbW.os))),kp5.tape.trans (kp4.tape.trans (kpL.tape.trans (kpT.tape.trans hbW.tape))),kp5.output.trans (kp4.output.trans (kpL.output.trans (kpT.output.trans hbW.output))),by have:=kp5.size;omega,fun x hx=>(hD4 x (by omega) (by omega) (by omega) (by omega)).trans (g4 x hx)⟩;obtain⟨na,nc,rfl,-⟩:=own_len oN5;obtain⟨ps,hp1,hp2,hp3⟩:=id hnd;obtain⟨pa,pc,rfl,-⟩:=own_len hp2;obtain⟨ba,bc,rfl,-⟩:=own_len oB5;obtain⟨ka,kc,rfl,-⟩:=own_len oK5;have m0:w5.cell? ⟨w.heap.size+4,0,none⟩=some (.slice ta (Lx.tokG g).length tc):=k5.cell 0;have m1:w5.cell? ⟨w.heap.size+4,1,none⟩=some (.slice na (Lx.nms g.rules).length nc):=k5.cell 1;have m2:w5.cell? ⟨w.heap.size+4,2,none⟩=some (.slice pa (Lx.prodG g).length pc):=k5.cell 2;have m3:=k5.cell 3;have m4:=k5.cell 4;have r0:w5.cell? ⟨w.heap.size+1,0,none⟩=some (.slice none 0 0):=kR5.cell 0;have r1:w5.cell? ⟨w.heap.size+1,1,none⟩=some (.slice none 0 0):=kR5.cell 1;have r2:w5.cell? ⟨w.heap.size+1,2,none⟩=some (.slice none 0 0):=kR5.cell 2;have r3:w5.cell? ⟨w.heap.size+1,3,none⟩=some (.slice none 0 0):=kR5.cell 3;have r4:w5.cell? ⟨w.heap.size+1,4,none⟩=some (.slice none 0 0):=kR5.cell 4;have rf:∀ i,w5.frozen? ⟨w.heap.size+1,i,none⟩=false:=kR5.frozen;clear hp1 hp2 hp3;clear hM5 kp5 kp4 kpL kpT hPP hvP hE;simp at m3 m4;obtain⟨w6,hw6⟩:∃ w6,w6=((((w5.setCell ⟨w.heap.size+1,0,none⟩ (.slice ta (Lx.tokG g).length tc)).setCell ⟨w.heap.size+1,1,none⟩ (.slice na (Lx.nms g.rules).length nc)).setCell ⟨w.heap.size+1,2,none⟩ (.slice pa (Lx.prodG g).length pc)).setCell ⟨w.heap.size+1,3,none⟩ (.slice ba ((Lx.tokG g).map fun t=>(Lx.bk t 0 g.levels (0,0)).1).length bc)).setCell ⟨w.heap.size+1,4,none⟩ (.slice ka ((Lx.tokG g).map fun t=>(Lx.bk t 0 g.levels (0,0)).2).length kc):=⟨_,rfl⟩
 have k6:Blk w6 (w.heap.size+1) #[.slice ta (Lx.tokG g).length tc,.slice na (Lx.nms g.rules).length nc,.slice pa (Lx.prodG g).length pc,.slice ba ((Lx.tokG g).map fun t=>(Lx.bk t 0 g.levels (0,0)).1).length bc,.slice ka ((Lx.tokG g).map fun t=>(Lx.bk t 0 g.levels (0,0)).2).length kc] 26:=by rw[hw6];exact ((((kR5.set 0 _).set 1 _).set 2 _).set 3 _).set 4 _
 have b6:∀ x,x≠w.heap.size+1->w6.heap[x]?=w5.heap[x]?:=fun x hx=>by rw[hw6,Below.heap_setCell _ _ _ _ hx,Below.heap_setCell _ _ _ _ hx,Below.heap_setCell _ _ _ _ hx,Below.heap_setCell _ _ _ _ hx,Below.heap_setCell _ _ _ _ hx]
 have hbw6:Below w.heap.size w w6:=by rw[hw6];exact ((((hbw5.setCell (p:=⟨w.heap.size+1,0,none⟩) (by show w.heap.size<=w.heap.size+1;omega) _).setCell (p:=⟨w.heap.size+1,1,none⟩) (by show w.heap.size<=w.heap.size+1;omega) _).setCell (p:=⟨w.heap.size+1,2,none⟩) (by show w.heap.size<=w.heap.size+1;omega) _).setCell (p:=⟨w.heap.size+1,3,none⟩) (by show w.heap.size<=w.heap.size+1;omega) _).setCell (p:=⟨w.heap.size+1,4,none⟩) (by show w.heap.size<=w.heap.size+1;omega) _
 have hfin:PlPB w.heap.size w6 (.agg #[.slice ta (Lx.tokG g).length tc,.slice na (Lx.nms g.rules).length nc,.slice pa (Lx.prodG g).length pc,.slice ba ((Lx.tokG g).map fun t=>(Lx.bk t 0 g.levels (0,0)).1).length bc,.slice ka ((Lx.tokG g).map fun t=>(Lx.bk t 0 g.levels (0,0)).2).length kc]) (Lx.tokG g) (Lx.namG g) (Lx.prodG g) ((Lx.tokG g).map fun t=>(Lx.bkOf g t).1) ((Lx.tokG g).map fun t=>(Lx.bkOf g t).2) :=
  ⟨_,_,_,_,_,rfl,own_move oT5 fun x hx=>b6 x fun e=>nT1 (e ▸ hx),own_move oN5 fun x hx=>b6 x fun e=>nN1 (e ▸ hx),hnd.move (fun _ hx=>hx.2) (fun x hx=>b6 x hx.1) (fun x hx=>b6 x fun e=>nP1 (e ▸ hx)),own_move oB5 fun x hx=>b6 x fun e=>nB1 (e ▸ hx),own_move oK5 fun x hx=>b6 x fun e=>nK1 (e ▸ hx),hP4⟩
 have s0:=k6.cell 0;have s1:=k6.cell 1;have s2:=k6.cell 2;have s3:=k6.cell 3;have s4:=k6.cell 4;simp at s0 s1 s2 s3 s4;have HLB:Hid (((Lx.tokG g).map fun t=>(Lx.bk t 0 g.levels (0,0)).1).length=(Lx.tokG g).length):=by show _=_;simp
 have HLK:Hid (((Lx.tokG g).map fun t=>(Lx.bk t 0 g.levels (0,0)).2).length=(Lx.tokG g).length):=by show _=_;simp
 rw[HLB.out,HLK.out]at hw6 hfin;go_wp2_with fail;rw[<-hw6];exact bodyPost_ret (v:=.agg #[.slice ta (Lx.tokG g).length tc,.slice na (Lx.nms g.rules).length nc,.slice pa (Lx.prodG g).length pc,.slice ba (Lx.tokG g).length bc,.slice ka (Lx.tokG g).length kc]) (by simp[results,Tryz.results27,go_sem,s0,s1,s2,s3,s4]) rfl ⟨_,rfl,hfin,hbw6⟩
end
section
open Go.RowKit
open Tr
namespace Lx
def mkR (s:ByteArray):Except (Nat × Nat) Gr :=
 match parse s with
 | .error e=>.error e
 | .ok g=>if (chk g).1=0 then (if 200<(prodG g).length then .error (8,0) else .ok g) else .error (chk g)
theorem mkR_err {s:ByteArray}{e:Nat × Nat}(h:parse s=.error e):mkR s=.error e:=by unfold mkR;rw[h]
theorem mkR_chk {s:ByteArray}{g:Gr}(h:parse s=.ok g)(hc:(chk g).1≠0):mkR s=.error (chk g):=by unfold mkR;rw[h];exact if_neg hc
theorem mkR_many {s:ByteArray}{g:Gr}(h:parse s=.ok g)(hc:(chk g).1=0)(hm:200<(prodG g).length):mkR s=.error (8,0):=by unfold mkR;rw[h];exact (if_pos hc).trans (if_pos hm)
theorem mkR_ok {s:ByteArray}{g:Gr}(h:parse s=.ok g)(hc:(chk g).1=0)(hm:¬ 200<(prodG g).length):mkR s=.ok g:=by unfold mkR;rw[h];exact (if_pos hc).trans (if_neg hm)
theorem chk_zero {g:Gr}(h:(chk g).1=0):dupG g=none/\unkG g=none:=by
 unfold chk at h;cases h1:dupG g with
 | some p=>rw[h1]at h;exact absurd h (by simp[orE])
 | none =>
  rw[h1]at h;cases h2:unkG g with
  | some p=>rw[h2]at h;exact absurd h (by simp[orE])
  | none=>exact⟨rfl,rfl⟩
theorem lvWords_len (g:Gr):(levelWords g).length<=sizeV g.levels:=by
 have:=lvToks_len g;unfold levelToks textsOf at this;rw[List.length_map]at this;exact this
theorem wdOf_len (beh:ByteArray)(il:Bool)(t:Tk)(nx:ByteArray):(wdOf beh il t nx).length<=1:=by
 unfold wdOf
 split
 ·simp
 ·split <;> simp
theorem wl_len:∀ (ts:List Tk) (beh:ByteArray) (il:Bool),(wl beh il ts).length<=ts.length
 | [],_,_=>Nat.le_refl _
 | t::ts,beh,il=>by
  rw[wl,List.length_append,List.length_cons];have h1:=wdOf_len beh il t (hd ts);have h2:=wl_len ts t.1 (nextIn il t);omega
theorem flat_len {s:ByteArray}{g:Gr}(h:parse s=.ok g)(hs:s.size<=2000):(flatG g).length<=100000:=by
 rw[<-words_flat h];have h1:=wl_len (lex s) noText true;have h2:(lex s).length<=2001:=by have:=lexAt_len s (gapEnd s 0 false);unfold lex;omega
 omega
theorem parse_size {s:ByteArray}{g:Gr}(h:parse s=.ok g):s.size<=2000:=by
 unfold parse at h
 split at h
 ·cases h
 ·omega
end Lx
end
section
open Go.RowKit
open Tr
def none5:Value:=.agg #[.slice none 0 0,.slice none 0 0,.slice none 0 0,.slice none 0 0,.slice none 0 0]
def MakeEnds (s:ByteArray)(w:World)(e:Ending)(w':World):Prop :=
 ∃ v,∃ n a:Nat,e=.returned (.tuple #[v,.int .i64 (n:Int),.int .i64 (a:Int)])/\Below w.heap.size w w'/\(∀ g,Lx.mkR s=.ok g->n=0/\a=0/\PlP w' v (Lx.tokG g) (Lx.namG g) (Lx.prodG g) ((Lx.tokG g).map fun t=>(Lx.bkOf g t).1) ((Lx.tokG g).map fun t=>(Lx.bkOf g t).2))/\(∀ x,Lx.mkR s=.error x->n=x.1/\a=x.2/\v=none5)
def MakeB (s:ByteArray)(w:World)(e:Ending)(w':World):Prop :=
 ∃ v,∃ n a:Nat,e=.returned (.tuple #[v,.int .i64 (n:Int),.int .i64 (a:Int)])/\Below w.heap.size w w'/\(∀ g,Lx.mkR s=.ok g->n=0/\a=0/\PlPB w.heap.size w' v (Lx.tokG g) (Lx.namG g) (Lx.prodG g) ((Lx.tokG g).map fun t=>(Lx.bkOf g t).1) ((Lx.tokG g).map fun t=>(Lx.bkOf g t).2))/\(∀ x,Lx.mkR s=.error x->n=x.1/\a=x.2/\v=none5)
theorem MakeB.no {s:ByteArray}{w w':World}{n a:Nat}(h:Lx.mkR s=.error (n,a))(hb:Below w.heap.size w w'):MakeB s w (.returned (.tuple #[none5,.int .i64 (n:Int),.int .i64 (a:Int)])) w' :=
 ⟨_,n,a,rfl,hb,(fun g hg=>by rw[h]at hg;cases hg),(fun x hx=>by rw[h]at hx;cases hx;exact⟨rfl,rfl,rfl⟩)⟩
theorem put5_blk {w:World}{r t:Nat}{x0 x1 x2 x3 x4 y0 y1 y2 y3 y4:Value}(h:Blk w r #[y0,y1,y2,y3,y4] t):Blk (((((w.setCell ⟨r,0,none⟩ x0).setCell ⟨r,1,none⟩ x1).setCell ⟨r,2,none⟩ x2).setCell ⟨r,3,none⟩ x3).setCell ⟨r,4,none⟩ x4) r #[x0,x1,x2,x3,x4] t:=((((h.set 0 _).set 1 _).set 2 _).set 3 _).set 4 _
theorem put5_below {B:Nat}{a w:World}(h:Below B a w){r:Nat}(hr:B<=r)(x0 x1 x2 x3 x4:Value):Below B a (((((w.setCell ⟨r,0,none⟩ x0).setCell ⟨r,1,none⟩ x1).setCell ⟨r,2,none⟩ x2).setCell ⟨r,3,none⟩ x3).setCell ⟨r,4,none⟩ x4) :=
 ((((h.setCell (p:=⟨r,0,none⟩) hr x0).setCell (p:=⟨r,1,none⟩) hr x1).setCell (p:=⟨r,2,none⟩) hr x2).setCell (p:=⟨r,3,none⟩) hr x3).setCell (p:=⟨r,4,none⟩) hr x4
theorem put5_other (w:World)(r:Nat)(x0 x1 x2 x3 x4:Value)(g:Nat)(hn:g≠r):(((((w.setCell ⟨r,0,none⟩ x0).setCell ⟨r,1,none⟩ x1).setCell ⟨r,2,none⟩ x2).setCell ⟨r,3,none⟩ x3).setCell ⟨r,4,none⟩ x4).heap[g]?=w.heap[g]?:=by
 rw[Below.heap_setCell _ _ _ _ hn,Below.heap_setCell _ _ _ _ hn,Below.heap_setCell _ _ _ _ hn,Below.heap_setCell _ _ _ _ hn,Below.heap_setCell _ _ _ _ hn]
theorem own_ne {w:World}{B e z:Nat}{v:Value}{n:Nat}{xs:List Value}(h:w.ownsRow B e z v n xs){r t:Nat}{cs:Array Value}(hb:Blk w r cs t)(hne:e≠t):∀ g,v.ownBlock=some g->g≠r:=by
 intro g hg e1;obtain⟨cur,hc⟩:=own_cells h hg;unfold Blk at hb;rw[e1,hb]at hc;cases hc;exact hne rfl
theorem PlPB.other {B:Nat}{w w':World}{v:Value}{T N:List ByteArray}{P:List Lx.Pd}{Bs Ks:List Nat}(h:PlPB B w v T N P Bs Ks){r:Nat}{cs:Array Value}(hb:Blk w r cs 26)(hk:∀ g,g<w.heap.size->g≠r->w'.heap[g]?=w.heap[g]?):PlPB B w' v T N P Bs Ks:=by
 obtain⟨vT,vN,vP,vB,vK,rfl,h1,h2,⟨ps,p1,p2,p3,p4⟩,h4,h5,h6⟩:=h;exact⟨vT,vN,vP,vB,vK,rfl,own_move h1 fun g hg=>hk g (h1.lt g hg).2 (own_ne h1 hb (by decide) g hg),own_move h2 fun g hg=>hk g (h2.lt g hg).2 (own_ne h2 hb (by decide) g hg),⟨ps,p1,own_move p2 fun g hg=>hk g (p2.lt g hg).2 (own_ne p2 hb (by decide) g hg),fun q hq=>⟨own_move (p3 q hq).1 fun g hg=>hk g ((p3 q hq).1.lt g hg).2 (own_ne (p3 q hq).1 hb (by decide) g hg),(p3 q hq).2⟩,p4⟩,own_move h4 fun g hg=>hk g (h4.lt g hg).2 (own_ne h4 hb (by decide) g hg),own_move h5 fun g hg=>hk g (h5.lt g hg).2 (own_ne h5 hb (by decide) g hg),h6⟩
theorem PlPB.mono {B B':Nat}{w:World}{v:Value}{T N:List ByteArray}{P:List Lx.Pd}{Bs Ks:List Nat}(h:PlPB B w v T N P Bs Ks)(hB:B'<=B):PlPB B' w v T N P Bs Ks:=by
 obtain⟨vT,vN,vP,vB,vK,h0,h1,h2,⟨ps,p1,p2,p3,p4⟩,h4,h5,h6⟩:=h;exact⟨vT,vN,vP,vB,vK,h0,h1,h2,⟨ps,p1,p2,fun q hq=>⟨(p3 q hq).1,fun g hg=>Nat.le_trans hB ((p3 q hq).2 g hg)⟩,p4⟩,h4,h5,fun g hg=>Nat.le_trans hB (h6 g hg)⟩
theorem make_new (s:ByteArray)(w:World)(hmax:s.size<=maxLen)(ht:Tab w):Calls Tryz.prog 9 #[.string s] w (MakeB s w):=by
 obtain⟨W,hW⟩:∃ W,W=w.alloc (.cells #[.slice none 0 0,.slice none 0 0,.slice none 0 0,.slice none 0 0,.slice none 0 0] 26):=⟨_,rfl⟩;have hbW:Below w.heap.size w W:=by rw[hW];exact (Below.refl _ _).alloc (Nat.le_refl _) _
 have hsW:W.heap.size=w.heap.size+1:=by rw[hW];simp
 have kR:Blk W w.heap.size #[.slice none 0 0,.slice none 0 0,.slice none 0 0,.slice none 0 0,.slice none 0 0] 26:=by rw[hW];exact Blk.new w _ 26
 have q1:=Parse_any s W hmax;go_enter Tryz.func9,Tryz.ntmps9;go_wp2_with fail;rw[<-hW];clear hW;refine q1.mono ?_;rintro e w1 ⟨hb1,hm⟩;clear q1;have hbw1:Below w.heap.size w w1:=hbW.trans (hb1.mono (by omega));have kR1:Blk w1 w.heap.size _ 26:=(hb1.block _ (by omega)).trans kR;have hs1:=hb1.size;have lr1:w.heap.size<w1.heap.size:=kR1.lt;have r0:w1.cell? ⟨w.heap.size,0,none⟩=some (.slice none 0 0):=kR1.cell 0;have r1:w1.cell? ⟨w.heap.size,1,none⟩=some (.slice none 0 0):=kR1.cell 1;have r2:w1.cell? ⟨w.heap.size,2,none⟩=some (.slice none 0 0):=kR1.cell 2;have r3:w1.cell? ⟨w.heap.size,3,none⟩=some (.slice none 0 0):=kR1.cell 3;have r4:w1.cell? ⟨w.heap.size,4,none⟩=some (.slice none 0 0):=kR1.cell 4;have rf:∀ i,w1.frozen? ⟨w.heap.size,i,none⟩=false:=kR1.frozen;cases hp:Lx.parse s with
 | error x =>
  obtain⟨n,a⟩:=x;rw[hp]at hm;have he:e=.returned (.tuple #[.agg #[.slice none 0 0,.slice none 0 0],.int .i64 (n:Int),.int .i64 (a:Int)]):=hm;subst he;have HE:Hid (Lx.mkR s=.error (n,a)):=Lx.mkR_err hp;have hn0:0<n:=Lx.parse_pos hp;have hnb:((n:Int) != 0)=true:=bne_iff_ne.2 (by omega);have hnd:¬ (n:Int)=0:=by omega
  clear hm hp hn0;go_wp2_with fail;have kF:=(put5_blk (x0:=.slice none 0 0) (x1:=.slice none 0 0) (x2:=.slice none 0 0) (x3:=.slice none 0 0) (x4:=.slice none 0 0) kR1).alloc (.cells #[.slice none 0 0,.slice none 0 0] 65);have s0:=kF.cell 0;have s1:=kF.cell 1;have s2:=kF.cell 2;have s3:=kF.cell 3;have s4:=kF.cell 4;simp at s0 s1 s2 s3 s4;exact bodyPost_ret (v:=.tuple #[none5,.int .i64 (n:Int),.int .i64 (a:Int)]) (by simp[none5,results,Tryz.results9,go_sem,s0,s1,s2,s3,s4]) rfl (MakeB.no HE.out ((put5_below hbw1 (Nat.le_refl _) _ _ _ _ _).alloc (by simp;omega) _))
 | ok g =>
  rw[hp]at hm;obtain⟨vl,vr,rfl,hg⟩:=hm;obtain⟨la,lc,rfl,-⟩:=Seq.len hg.1;obtain⟨ra,rc,rfl,-⟩:=(PGr.len (F:=In W.heap.size w1.heap.size) (w:=w1) ⟨fun b hb=>hb.2,SeqS.weak hg.2 fun A v x hA hk=>AltsInS.weak hA hk⟩);have hss:=Lx.parse_size hp;obtain⟨W1,hW1⟩:∃ W1,W1=w1.alloc (.cells #[.slice la g.levels.length lc,.slice ra g.rules.length rc] 65):=⟨_,rfl⟩;have hbA:Below w1.heap.size w1 W1:=by rw[hW1];exact (Below.refl _ _).alloc (Nat.le_refl _) _
  have hsA:W1.heap.size=w1.heap.size+1:=by rw[hW1];simp
  have kB:Blk W1 w1.heap.size #[.slice la g.levels.length lc,.slice ra g.rules.length rc] 65:=by rw[hW1];exact Blk.new w1 _ 65
  have q2:=wordsOf_any s W1 hss;go_wp2_with fail;rw[<-hW1];clear hW1;refine q2.mono ?_;rintro e w2 ⟨vW,rfl,oW,hb2⟩;clear q2;rw[Lx.words_flat hp]at oW;have hWR:WR w2 vW (Lx.flatG g):=own_le oW (Nat.zero_le _);obtain⟨wa,wc,rfl,-⟩:=hWR.len;have hb12:Below w1.heap.size w1 w2:=hbA.trans (hb2.mono (by omega));have hs2:=hb2.size;have hgm:∀ {w':World},Below w1.heap.size w1 w'->GramIn (In W.heap.size w1.heap.size) w' (.slice la g.levels.length lc) (.slice ra g.rules.length rc) g:=fun hb=>hg.move (fun b hbb=>hb.block b hbb.2) (fun _ h=>h)
  have hpg:∀ {w':World},Below w1.heap.size w1 w'->PGr (In W.heap.size w1.heap.size) w' (.slice ra g.rules.length rc) g.rules:=fun hb=>⟨fun b hbb=>Nat.lt_of_lt_of_le hbb.2 hb.size,SeqS.weak (hgm hb).2 fun A v x hA hk=>AltsInS.weak hA hk⟩
  have q3:=firstFault_any hp (hpg hb12) hWR;have kB2:Blk w2 w1.heap.size #[.slice la g.levels.length lc,.slice ra g.rules.length rc] 65:=(hb2.block _ (by omega)).trans kB;have g1:w2.cell? ⟨w1.heap.size,1,none⟩=some (.slice ra g.rules.length rc):=kB2.cell 1;go_wp2_with fail;refine q3.mono ?_;rintro e w3 ⟨rfl,hb3⟩;clear q3 g1;have hs3:=hb3.size;have hb13:Below w1.heap.size w1 w3:=hb12.trans (hb3.mono hb12.size);have hbw3:Below w.heap.size w w3:=hbw1.trans (hb13.mono (by omega));have kR3:Blk w3 w.heap.size _ 26:=(hb13.block _ lr1).trans kR1;have kB3:Blk w3 w1.heap.size #[.slice la g.levels.length lc,.slice ra g.rules.length rc] 65:=(hb3.block _ (by omega)).trans kB2;clear r0 r1 r2 r3 r4 rf
  by_cases hc:(Lx.chk g).1=0
  ·have h6:=Lx.chk_zero hc
   obtain⟨h1,h2,h3⟩:=Lx.parse_is hp;obtain⟨h4,h5⟩:=Lx.parse_took hp;have hfit:Lx.Fit g:=by
    refine⟨h1,h2,h3,fun r hr=>?_,h4,h5,h6.2,h6.1⟩;obtain⟨i,hi,rfl⟩:=List.mem_iff_getElem.1 hr;obtain⟨_,_,_,-,-,hA,-⟩:=(hpg hb13).at hi;exact altsIn_dp hA
   have q4:=produce_any hp hfit (hgm hb13) (fun b hbb=>Nat.lt_of_lt_of_le hbb.2 hb13.size) (hWR.below hb3) (ht.move (hbw3.block _ ht.lt)) (Lx.flat_len hp hss);have hcb:(((Lx.chk g).1:Int) != 0)=false:=by simp[hc]
   have hcn:((Lx.chk g).1:Int)=0:=by omega
   have HC:Hid ((Lx.chk g).1=0):=hc;have HM:Hid (200<(Lx.prodG g).length->Lx.mkR s=.error (8,0)):=fun hm=>Lx.mkR_many hp hc hm
   have HO:Hid (¬ 200<(Lx.prodG g).length->Lx.mkR s=.ok g):=fun hm=>Lx.mkR_ok hp hc hm
   have g0:w3.cell? ⟨w1.heap.size,0,none⟩=some (.slice la g.levels.length lc):=kB3.cell 0;have g1:w3.cell? ⟨w1.heap.size,1,none⟩=some (.slice ra g.rules.length rc):=kB3.cell 1;clear hc h6 h1 h2 h3 h4 h5;generalize Lx.chk g=cr at hcb hcn HC;go_wp2_with fail;refine q4.mono ?_;rintro e w4 ⟨v,rfl,hPl,hb4⟩
   replace hPl:=hPl.mono (B':=w.heap.size) (by have:=hbw3.size;first | omega | (simp;omega))
   clear q4 g0 g1;obtain⟨vT,vN,vP,vB,vK,rfl,oT,oN,hPP,oB,oK,-⟩:=id hPl;obtain⟨ps,p1,p2,-⟩:=id hPP;obtain⟨ta,tc,rfl,-⟩:=own_len oT;obtain⟨na,nc,rfl,-⟩:=own_len oN;obtain⟨pa,pc,rfl,hpm⟩:=own_len p2;obtain⟨ba,bc,rfl,-⟩:=own_len oB;obtain⟨ka,kc,rfl,-⟩:=own_len oK;clear oT oN oB oK p1 p2 hPP;generalize ((Lx.tokG g).map fun t=>(Lx.bkOf g t).1).length=nB at hPl;generalize ((Lx.tokG g).map fun t=>(Lx.bkOf g t).2).length=nK at hPl;have hbw4:Below w.heap.size w w4:=hbw3.trans (hb4.mono (by omega));have kR4:Blk w4 w.heap.size _ 26:=(hb4.block _ (by omega)).trans kR3;have lr4:=kR4.lt;have r0:w4.cell? ⟨w.heap.size,0,none⟩=some (.slice none 0 0):=kR4.cell 0;have r1:w4.cell? ⟨w.heap.size,1,none⟩=some (.slice none 0 0):=kR4.cell 1;have r2:w4.cell? ⟨w.heap.size,2,none⟩=some (.slice none 0 0):=kR4.cell 2;have r3:w4.cell? ⟨w.heap.size,3,none⟩=some (.slice none 0 0):=kR4.cell 3;have r4:w4.cell? ⟨w.heap.size,4,none⟩=some (.slice none 0 0):=kR4.cell 4;have rf:∀ i,w4.frozen? ⟨w.heap.size,i,none⟩=false:=kR4.frozen;unfold maxLen at hpm
   by_cases hmany:200<(Lx.prodG g).length
   ·have HE:Hid (Lx.mkR s=.error (8,0)):=HM.out hmany
    have hmi:(200:Int)<((Lx.prodG g).length:Int):=by omega
    clear HM HO hmany;go_wp2_with fail;have kF:=(put5_blk (x0:=.slice none 0 0) (x1:=.slice none 0 0) (x2:=.slice none 0 0) (x3:=.slice none 0 0) (x4:=.slice none 0 0) kR4).alloc (.cells #[.slice ta (Lx.tokG g).length tc,.slice na (Lx.namG g).length nc,.slice pa (Lx.prodG g).length pc,.slice ba nB bc,.slice ka nK kc] 26);have s0:=kF.cell 0;have s1:=kF.cell 1;have s2:=kF.cell 2;have s3:=kF.cell 3;have s4:=kF.cell 4;simp at s0 s1 s2 s3 s4;exact bodyPost_ret (v:=.tuple #[none5,.int .i64 ((8:Nat):Int),.int .i64 ((0:Nat):Int)]) (by simp[none5,results,Tryz.results9,go_sem,s0,s1,s2,s3,s4]) rfl (MakeB.no HE.out ((put5_below hbw4 (Nat.le_refl _) _ _ _ _ _).alloc (by simp;omega) _))
   ·have HE:Hid (Lx.mkR s=.ok g):=HO.out hmany
    have hmi:¬ (200:Int)<((Lx.prodG g).length:Int):=by omega
    clear HM HO hmany;go_wp2_with fail;have kF:=(put5_blk (x0:=.slice ta (Lx.tokG g).length tc) (x1:=.slice na (Lx.namG g).length nc) (x2:=.slice pa (Lx.prodG g).length pc) (x3:=.slice ba nB bc) (x4:=.slice ka nK kc) kR4).alloc (.cells #[.slice ta (Lx.tokG g).length tc,.slice na (Lx.namG g).length nc,.slice pa (Lx.prodG g).length pc,.slice ba nB bc,.slice ka nK kc] 26);have s0:=kF.cell 0;have s1:=kF.cell 1;have s2:=kF.cell 2;have s3:=kF.cell 3;have s4:=kF.cell 4;simp at s0 s1 s2 s3 s4;refine bodyPost_ret (v:=.tuple #[.agg #[.slice ta (Lx.tokG g).length tc,.slice na (Lx.namG g).length nc,.slice pa (Lx.prodG g).length pc,.slice ba nB bc,.slice ka nK kc],.int .i64 ((0:Nat):Int),.int .i64 ((0:Nat):Int)]) (by simp[results,Tryz.results9,go_sem,s0,s1,s2,s3,s4]) rfl ⟨_,0,0,rfl,(put5_below hbw4 (Nat.le_refl _) _ _ _ _ _).alloc (by simp;omega) _,?_,?_⟩
    ·intro g' hg'
     rw[HE.out]at hg';cases hg';refine⟨rfl,rfl,hPl.other kR4 fun x hx hn=>?_⟩;rw[Below.heap_alloc _ _ _ (by simp[World.setCell];exact hx)];exact put5_other w4 w.heap.size _ _ _ _ _ x hn
    ·intro x hx;rw[HE.out]at hx;cases hx
  ·have HE:Hid (Lx.mkR s=.error (Lx.chk g)):=Lx.mkR_chk hp hc
   have hcb:(((Lx.chk g).1:Int) != 0)=true:=bne_iff_ne.2 (by omega);have hcd:¬ ((Lx.chk g).1:Int)=0:=by omega
   clear hc;generalize Lx.chk g=cr at HE hcb hcd;have r0:w3.cell? ⟨w.heap.size,0,none⟩=some (.slice none 0 0):=kR3.cell 0;have r1:w3.cell? ⟨w.heap.size,1,none⟩=some (.slice none 0 0):=kR3.cell 1;have r2:w3.cell? ⟨w.heap.size,2,none⟩=some (.slice none 0 0):=kR3.cell 2;have r3:w3.cell? ⟨w.heap.size,3,none⟩=some (.slice none 0 0):=kR3.cell 3;have r4:w3.cell? ⟨w.heap.size,4,none⟩=some (.slice none 0 0):=kR3.cell 4;have rf:∀ i,w3.frozen? ⟨w.heap.size,i,none⟩=false:=kR3.frozen;go_wp2_with fail;have kF:=put5_blk (x0:=.slice none 0 0) (x1:=.slice none 0 0) (x2:=.slice none 0 0) (x3:=.slice none 0 0) (x4:=.slice none 0 0) kR3;have s0:=kF.cell 0;have s1:=kF.cell 1;have s2:=kF.cell 2;have s3:=kF.cell 3;have s4:=kF.cell 4;simp at s0 s1 s2 s3 s4;exact bodyPost_ret (v:=.tuple #[none5,.int .i64 (cr.1:Int),.int .i64 (cr.2:Int)]) (by simp[none5,results,Tryz.results9,go_sem,s0,s1,s2,s3,s4]) rfl (MakeB.no HE.out (put5_below hbw3 (Nat.le_refl _) _ _ _ _ _))
theorem make_any (s:ByteArray)(w:World)(hmax:s.size<=maxLen)(ht:Tab w):Calls Tryz.prog 9 #[.string s] w (MakeEnds s w):=by
 refine (make_new s w hmax ht).mono ?_;rintro e w' ⟨v,n,a,h1,h2,h3,h4⟩;exact⟨v,n,a,h1,h2,fun g hg=>⟨(h3 g hg).1,(h3 g hg).2.1,(h3 g hg).2.2.pl⟩,h4⟩
end
section
open Go.RowKit
open Tr
def nine:Value:=.int .i64 (-9)
theorem flat3 {α:Type} {f:α->List Value} (hf:∀ a,(f a).length=3):∀ (l:List α) (i k:Nat) (hi:i<l.length),k<3->(l.flatMap f)[i*3+k]?=(f l[i])[k]?
 | [],i,k,hi,_=>by simp at hi
 | a::l,0,k,_,hk=>by
  rw[List.flatMap_cons,List.getElem?_append_left (by rw[hf];omega)];simp
 | a::l,i+1,k,hi,hk=>by
  rw[List.flatMap_cons,List.getElem?_append_right (by rw[hf];omega),hf,show (i+1)*3+k-3=i*3+k by omega];exact flat3 hf l i k (by simpa using hi) hk
theorem flat3_len {α:Type} {f:α->List Value} (hf:∀ a,(f a).length=3):∀ (l:List α),(l.flatMap f).length=l.length*3
 | []=>rfl
 | a::l=>by rw[List.flatMap_cons,List.length_append,hf,flat3_len hf l,List.length_cons];omega
def pdS (q:Bool × Value × Lx.Pd):List Value:=[if q.1 then nine else .int .i64 (q.2.2.left:Int),q.2.1,.int .i64 q.2.2.prec]
theorem pdS_len (q:Bool × Value × Lx.Pd):(pdS q).length=3:=rfl
def mixP (ps:List (Value × Lx.Pd))(j:Nat):List (Bool × Value × Lx.Pd):=(ps.take j).map (fun q=>(true,q))++(ps.drop j).map (fun q=>(false,q))
theorem mixP_len (ps:List (Value × Lx.Pd))(j:Nat):(mixP ps j).length=ps.length:=by unfold mixP;simp;omega
theorem mixP_snd (ps:List (Value × Lx.Pd))(j:Nat):(mixP ps j).map Prod.snd=ps:=by
 unfold mixP;rw[List.map_append,List.map_map,List.map_map];have e1:(Prod.snd ∘ fun q:Value × Lx.Pd=>(true,q))=id:=rfl;have e2:(Prod.snd ∘ fun q:Value × Lx.Pd=>(false,q))=id:=rfl;rw[e1,e2,List.map_id,List.map_id,List.take_append_drop]
theorem mixP_at {ps:List (Value × Lx.Pd)}{j i:Nat}(h:i<ps.length):((mixP ps j)[i]'(by rw[mixP_len];exact h)).2=ps[i]:=by
 have h9:=mixP_snd ps j;have:((mixP ps j).map Prod.snd)[i]?=ps[i]?:=by rw[h9]
 rw[List.getElem?_map,List.getElem?_eq_getElem (by rw[mixP_len];exact h),List.getElem?_eq_getElem h]at this;exact Option.some.inj this
theorem mixP_zero (ps:List (Value × Lx.Pd)):(mixP ps 0).flatMap pdS=ps.flatMap pdC:=by
 unfold mixP;rw[List.take_zero,List.drop_zero,List.map_nil,List.nil_append,List.flatMap_map];rfl
theorem mixP_succ {ps:List (Value × Lx.Pd)}{j:Nat}(h:j<ps.length):((mixP ps j).flatMap pdS).set (j*3) nine=(mixP ps (j+1)).flatMap pdS:=by
 unfold mixP;rw[List.take_succ_eq_append_getElem h,List.drop_eq_getElem_cons h,List.map_append,List.map_cons,List.map_cons,List.map_nil,List.append_assoc,List.flatMap_append,List.flatMap_append,List.set_append_right _ _ (by rw[flat3_len pdS_len];simp;omega),flat3_len pdS_len];have e:j*3 - ((ps.take j).map fun q=>(true,q)).length*3=0:=by simp;omega
 rw[e];rfl
structure RowP (W:World) (v:Value) (n k:Nat) (wr:World):Prop where
 own:∃ xs,wr.ownsRow 0 3 1 v n xs/\∀ i,i<k->xs[i]?=some nine
 fr:∀ g,v.ownBlock≠some g->wr.heap[g]?=W.heap[g]?
 os:wr.os=W.os
 tape:wr.tape=W.tape
 output:wr.output=W.output
 size:wr.heap.size=W.heap.size
theorem RowP.start {W:World}{v:Value}{r:List Nat}(h:IR 0 W v r):RowP W v r.length 0 W:=⟨⟨_,h,fun i hi=>by omega⟩,fun _ _=>rfl,rfl,rfl,rfl,rfl⟩
theorem RowP.put {W wr:World}{g n cap k:Nat}(h:RowP W (.slice (some ⟨g,0,none⟩) n cap) n k wr)(hk:k<n):RowP W (.slice (some ⟨g,0,none⟩) n cap) n (k+1) (wr.setCell ⟨g,k,none⟩ nine):=by
 obtain⟨⟨xs,h1,hx⟩,h2,h3,h4,h5,h6⟩:=h;have hl:xs.length=n*1:=h1.1;refine⟨⟨_,own_set h1 (g:=g) rfl k nine,fun i hi=>?_⟩,fun x hx=>(Below.heap_setCell _ _ _ _ (fun e=>hx ?_)).trans (h2 x hx),h3,h4,h5,by simpa [World.setCell]using h6⟩
 ·by_cases e:k=i
  ·subst e
   rw[List.getElem?_set_self (by omega)]
  ·rw[List.getElem?_set_ne e]
   exact hx i (by omega)
 ·have e':x=g:=e
  rw[e'];rfl
theorem RowP.full {W wr:World}{v:Value}{n:Nat}(h:RowP W v n n wr):wr.ownsRow 0 3 1 v n (List.replicate n nine):=by
 obtain⟨⟨xs,h1,hx⟩,-⟩:=h;have hl:xs.length=n*1:=h1.1;have:xs=List.replicate n nine:=by
  apply List.ext_getElem?;intro i
  by_cases hi:i<n
  ·rw[hx i hi,List.getElem?_replicate,if_pos hi]
  ·rw[List.getElem?_eq_none (by omega),List.getElem?_eq_none (by simp;omega)]
 exact this ▸ h1
structure SpP (W:World) (vP:Value) (ps:List (Value × Lx.Pd)) (j:Nat) (wr:World):Prop where
 own:wr.ownsRow 0 58 3 vP ps.length ((mixP ps j).flatMap pdS)
 row:∀ q,q∈ps.take j->wr.ownsRow 0 3 1 q.1 q.2.right.length (List.replicate q.2.right.length nine)
 fr:∀ g,vP.ownBlock≠some g->(∀ q,q∈ps.take j->q.1.ownBlock≠some g)->wr.heap[g]?=W.heap[g]?
 os:wr.os=W.os
 tape:wr.tape=W.tape
 output:wr.output=W.output
 size:wr.heap.size=W.heap.size
theorem SpP.start {W:World}{vP:Value}{ps:List (Value × Lx.Pd)}(h:W.ownsRow 0 58 3 vP ps.length (ps.flatMap pdC)):SpP W vP ps 0 W :=
 ⟨by rw[mixP_zero];exact h,fun q hq=>by simp at hq,fun _ _ _=>rfl,rfl,rfl,rfl,rfl⟩
theorem SpP.next {W wr w':World}{g c j:Nat}{ps:List (Value × Lx.Pd)}(h:SpP W (.slice (some ⟨g,0,none⟩) ps.length c) ps j wr)(hj:j<ps.length)(hr:RowP wr ps[j].1 ps[j].2.right.length ps[j].2.right.length w')(hpw:ps.Pairwise fun a b=>∀ g,a.1.ownBlock=some g->b.1.ownBlock≠some g)(hall:∀ q,q∈ps->q.1.ownBlock≠some g):SpP W (.slice (some ⟨g,0,none⟩) ps.length c) ps (j+1) (w'.setCell ⟨g,j*3,none⟩ nine):=by
 have htk:ps.take (j+1)=ps.take j++[ps[j]]:=List.take_succ_eq_append_getElem hj;have hbk:∀ x,x≠g->(w'.setCell ⟨g,j*3,none⟩ nine).heap[x]?=w'.heap[x]?:=fun x hx=>Below.heap_setCell _ _ _ _ hx
 refine⟨?_,?_,?_,hr.os.trans h.os,hr.tape.trans h.tape,hr.output.trans h.output,by simpa [World.setCell]using hr.size.trans h.size⟩
 ·rw[<-mixP_succ hj]
  exact own_set (own_move h.own fun x hx=>hr.fr x fun e=>hall _ (List.getElem_mem hj) (by rw[e];exact hx.symm ▸ rfl)) (g:=g) rfl (j*3) nine
 ·intro q hq
  rw[htk]at hq;rcases List.mem_append.1 hq with hq | hq
  ·refine own_move (h.row q hq) fun x hx=>(hbk x fun e=>hall q (List.mem_of_mem_take hq) (e ▸ hx)).trans (hr.fr x fun e=>?_)
   obtain⟨i,hi,rfl⟩:=List.mem_iff_getElem.1 hq;have hi':i<j:=by rw[List.length_take]at hi;omega
   rw[List.getElem_take]at hx;exact List.pairwise_iff_getElem.1 hpw i j (by omega) hj hi' x hx e
  ·rw[List.mem_singleton.1 hq]
   exact own_move hr.full fun x hx=>hbk x fun e=>hall _ (List.getElem_mem hj) (e ▸ hx)
 ·intro x hx hq
  have h1:x≠g:=fun e=>hx (by rw[e];rfl)
  rw[hbk x h1,hr.fr x (hq _ (by rw[htk];exact List.mem_append_right _ (List.mem_singleton.2 rfl)))];exact h.fr x hx fun q hq'=>hq q (by rw[htk];exact List.mem_append_left _ hq')
theorem SpP.right {W wr:World}{g c j i:Nat}{ps:List (Value × Lx.Pd)}(h:SpP W (.slice (some ⟨g,0,none⟩) ps.length c) ps j wr)(hi:i<ps.length):wr.cell? ⟨g,i*3+1,none⟩=some ps[i].1:=by
 rw[h.own.cellAt (i*3+1) (by omega),flat3 pdS_len _ i 1 (by rw[mixP_len];exact hi) (by decide)];show some ((mixP ps j)[i]'_).2.1=_;rw[mixP_at hi]
end
end Go.Proofs.YtlcppnabbicmoaaGreatDoor

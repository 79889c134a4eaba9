import Derived.Test.YtlcppnabbicmoaaGreatDoorMG26
set_option maxHeartbeats 8000000
set_option maxRecDepth 1000000
namespace Go.Proofs.YtlcppnabbicmoaaGreatDoor
open Lx Go.Proofs.Tryz
open Go.RowKit Tr
def jg (r:List Nat):Array Value:=(gV r).toArray
theorem XW (r:List Nat)(i:Nat)(s:Nat):(jg r).setIfInBounds i (.int .i64 (s:Int))=jg (r.set i s):=by
 unfold jg gV;rw[List.setIfInBounds_toArray,List.map_set]
theorem XY (r:List Nat){i:Nat}(h:i<r.length):(jg r)[i]?=some (.int .i64 (r[i]:Int)):=by
 unfold jg gV;simp[h]
theorem ahq (n:Nat):madeCells #[.int .i64 0] (n*1)=jg (List.replicate n 0):=by
 unfold madeCells jg gV;apply Array.ext
 ·simp
 ·intro i h1 h2
  simp[Nat.mod_one]
theorem Tryz.info3':(prog.info? 3).map (fun i=>(i.zero,i.size,i.bytes))=some (some (.int .i64 0),1,8):=by kernel_rfl
theorem ahr {n:Nat}(hn:n<=100000)(w:World):(Instr.makeSlice 24 (.int .i64 (n:Int)) (.int .i64 (n:Int))).run prog w=.ok (.slice (some ⟨w.heap.size,0,none⟩) n n) (w.alloc (.cells (jg (List.replicate n 0)) 3)):=by
 obtain⟨i0,hi,hz0,hz1,hz2⟩:=info_parts Tryz.info3';have h:=run_make (P:=prog) w 24 3 i0 _ (by kernel_rfl) hi hz0 .i64 .i64 (n:Int) (n:Int) (by omega) (Int.le_refl _) (by rw[hz2];omega) (by omega);rw[h,Int.toNat_natCast,hz1];have e:Value.cells (.int .i64 0)=#[.int .i64 0]:=rfl;rw[e,ahq]
theorem XZ {w:World}{g:Nat}{r:List Nat}(h:aj w g (jg r) 3){B:Nat}(hB:B<=g)(hr:r.length<=100000):IR B w (.slice (some ⟨g,0,none⟩) r.length r.length) r:=by
 refine⟨by rw[xg];simp,.inr ⟨g,r.length,jg r,rfl,hB,h,lr0,by unfold maxLen;omega,by simp[jg,xg],?_⟩⟩;unfold jg;rw[Nat.mul_one,<-xg];exact List.take_length
namespace Lx
theorem afi {l:List ByteArray}(h:l.Nodup)(b:ByteArray):(iM l b).Nodup:=by
 unfold iM
 split
 ·exact h
 ·rename_i hb
  rw[List.nodup_append];refine⟨h,by simp,fun a ha c hc e=>?_⟩;rw[List.mem_singleton]at hc;exact hb (iG.2 (hc ▸ e ▸ ha))
theorem Ox:∀ (bs l:List ByteArray),l.Nodup->(bQ l bs).Nodup
 | [],_,h=>h
 | b::bs,l,h=>Ox bs (iM l b) (afi h b)
theorem Zt {T:List ByteArray}(nd:T.Nodup){b:ByteArray}{i:Nat}(hi:T[i]?=some b)(f:ByteArray->Nat)(v:Nat):(T.map f).set i v=T.map fun t=>if t=b then v else f t:=by
 obtain⟨hi,rfl⟩:=List.getElem?_eq_some_iff.1 hi;apply List.ext_getElem
 ·simp
 ·intro j h1 h2
  simp only[List.length_set,List.length_map]at h1;rw[List.getElem_set,List.getElem_map,List.getElem_map]
  by_cases hij:i=j
  ·subst hij;simp
  ·rw[if_neg hij,if_neg]
   intro e;exact hij ((List.getElem_inj nd).1 e).symm
theorem ajm {T:List ByteArray}{b:ByteArray}(h:0<=bA T b):T[fix T b]?=some b/\bA T b=(fix T b:Int):=by
 have h0:fix T b<T.length:=by
  unfold bA at h
  split at h
  ·assumption
  ·omega
 refine⟨?_,by unfold bA;rw[if_pos h0]⟩;have:=List.findIdx_getElem (w:=h0);rw[List.getElem?_eq_getElem h0];have h2:T[fix T b]=b:=of_decide_eq_true this;rw[h2]
def Fw (p:Nat × Nat):List (ByteArray × Nat)->(ByteArray->Nat × Nat)->ByteArray->Nat × Nat
 | [],B=>B
 | t::ts,B=>Fw p ts fun c=>if c=t.1 then p else B c
theorem Zu (p:Nat × Nat):∀ (ts:List (ByteArray × Nat)) (B:ByteArray->Nat × Nat) (t:ByteArray),Fw p ts B t=if 0<=bA (ts.map Prod.fst) t then p else B t
 | [],B,t=>by
  have:¬ 0<=bA ([]:List ByteArray) t:=fun h=>by have:=iG.1 h;cases this
  rw[List.map_nil,if_neg this];rfl
 | x::ts,B,t=>by
  rw[Fw,Zu p ts,List.map_cons]
  by_cases h1:0<=bA (ts.map Prod.fst) t
  ·rw[if_pos h1,if_pos (iG.2 (List.mem_cons_of_mem _ (iG.1 h1)))]
  ·rw[if_neg h1]
   by_cases h2:t=x.1
   ·rw[if_pos h2,if_pos (iG.2 (by rw[h2];exact List.mem_cons_self))]
   ·rw[if_neg h2,if_neg]
    intro h;rcases List.mem_cons.1 (iG.1 h) with h | h
    ·exact h2 h
    ·exact h1 (iG.2 h)
end Lx
structure akG (w:World) (mb:Nat) (cs:Array Value) (T:List ByteArray) (B:ByteArray->Nat × Nat) (w':World):Prop where
 ex:∃ vB vK,aj w' mb ((cs.setIfInBounds 3 vB).setIfInBounds 4 vK) 125/\IR w.heap.size w' vB (T.map fun t=>(B t).1)/\IR w.heap.size w' vK (T.map fun t=>(B t).2)/\∀ g,vB.ownBlock=some g->vK.ownBlock≠some g
 kp:Kp (fun g=>g<w.heap.size/\g≠mb) w w'
theorem aeY {F:Nat->Prop} {w:World} {mb S:Nat} {vT vN vP vH vL:Value} {T:List ByteArray} {jA:List Lx.Lv} (kM:aj w mb #[vT,vN,vP,.slice none 0 0,.slice none 0 0,.map (some S),vH] 125) (oT:w.ownsRow 0 9 1 vT T.length (T.map Value.string)) (hS:SMap w S (iV T)) (hV:Tr.Seq F w 175 2 cL (KL F w) vL jA) (hF:∀ b,F b->b<w.heap.size/\b≠mb) (nd:T.Nodup) (hT:∀ l∈jA,∀ t∈l.tokens,0<=bA T t.1) (NH:T.length<=100000) (hLl:jA.length<=100000) :
  Calls prog 56 #[.pointer (some ⟨mb,0,none⟩),vL] w fun e w'=>e=.returned (.tuple #[])/\akG w mb #[vT,vN,vP,.slice none 0 0,.slice none 0 0,.map (some S),vH] T (fun t=>Lx.bk t 0 jA (0,0)) w':=by
 obtain⟨la,lc,rfl,hlm⟩:=Seq.len hV;obtain⟨ta,tc,rfl,-⟩:=aI oT;have lm:=kM.lt;have lS:=hS.lt;have DI:mb≠S:=fun e=>by
  obtain⟨es,clock,h1,-⟩:=hS;unfold aj at kM;rw[e,h1]at kM;cases kM
 have hmk:=fun w=>ahr NH w
 have m0:w.cell? ⟨mb,0,none⟩=some (.slice ta T.length tc):=kM.cell 0;have m3:w.cell? ⟨mb,3,none⟩=some (.slice none 0 0):=kM.cell 3;have m4:w.cell? ⟨mb,4,none⟩=some (.slice none 0 0):=kM.cell 4;have f0:∀ i,w.frozen? ⟨mb,i,none⟩=false:=kM.frozen;go_enter func56,ntmps56;go_wp2_with fail;obtain⟨W,hW⟩:∃ W,W=(((w.setCell ⟨mb,3,none⟩ (.slice (some ⟨w.heap.size,0,none⟩) T.length T.length)).setCell ⟨mb,4,none⟩ (.slice (some ⟨w.heap.size+1,0,none⟩) T.length T.length)).alloc (.cells (jg (List.replicate T.length 0)) 3)).alloc (.cells (jg (List.replicate T.length 0)) 3):=⟨_,rfl⟩;rw[<-hW];have kW:aj W mb #[.slice ta T.length tc,vN,vP,.slice (some ⟨w.heap.size,0,none⟩) T.length T.length,.slice (some ⟨w.heap.size+1,0,none⟩) T.length T.length,.map (some S),vH] 125:=by rw[hW];exact (((kM.set 3 _).set 4 _).alloc _).alloc _
 have TK:T.map (fun _:ByteArray=>0)=List.replicate T.length 0:=List.map_const' ..;have kB:aj W w.heap.size (jg (T.map fun t=>((fun _=>(0,0):ByteArray->Nat × Nat) t).1)) 3:=by
  have:=(aj.new ((w.setCell ⟨mb,3,none⟩ (.slice (some ⟨w.heap.size,0,none⟩) T.length T.length)).setCell ⟨mb,4,none⟩ (.slice (some ⟨w.heap.size+1,0,none⟩) T.length T.length)) (jg (List.replicate T.length 0)) 3).alloc (.cells (jg (List.replicate T.length 0)) 3);rw[hW];show aj _ _ (jg (T.map (fun _:ByteArray=>0))) 3;rw[TK];simpa [World.setCell]using this
 have kK:aj W (w.heap.size+1) (jg (T.map fun t=>((fun _=>(0,0):ByteArray->Nat × Nat) t).2)) 3:=by
  have:=aj.new (((w.setCell ⟨mb,3,none⟩ (.slice (some ⟨w.heap.size,0,none⟩) T.length T.length)).setCell ⟨mb,4,none⟩ (.slice (some ⟨w.heap.size+1,0,none⟩) T.length T.length)).alloc (.cells (jg (List.replicate T.length 0)) 3)) (jg (List.replicate T.length 0)) 3;rw[hW];show aj _ _ (jg (T.map (fun _:ByteArray=>0))) 3;rw[TK];simpa [World.setCell]using this
 have hkW:Kp (fun g=>g<w.heap.size/\g≠mb) w W:=⟨by rw[hW];rfl,by rw[hW];rfl,by rw[hW];rfl,by rw[hW];simp[World.setCell];omega,fun g hg=>by rw[hW,Below.heap_alloc _ _ _ (by simp[World.setCell];omega),Below.heap_alloc _ _ _ (by simp[World.setCell];exact hg.1),hs0 hg.2,hs0 hg.2]⟩;have H0:Hid (∀ t,Lx.bk t 0 jA (0,0)=Lx.bk t 0 (jA.drop 0) ((fun _=>(0,0):ByteArray->Nat × Nat) t)):=fun _=>rfl
 clear hW TK hmk m0 m3 m4 f0;obtain⟨CS,hCS⟩:∃ CS:Array Value,CS=#[.slice ta T.length tc,vN,vP,.slice (some ⟨w.heap.size,0,none⟩) T.length T.length,.slice (some ⟨w.heap.size+1,0,none⟩) T.length T.length,.map (some S),vH]:=⟨_,rfl⟩;rw[<-hCS]at kW
 go_loopg [32] jA.length (fun k i wr=>∃ (j:Nat) (B:ByteArray->Nat × Nat),j+k=jA.length/\i=.int .i64 j/\aj wr mb CS 125/\aj wr w.heap.size (jg (T.map fun t=>(B t).1)) 3/\aj wr (w.heap.size+1) (jg (T.map fun t=>(B t).2)) 3/\Kp (fun g=>g<w.heap.size/\g≠mb) w wr/\Hid (∀ t,Lx.bk t 0 jA (0,0)=Lx.bk t j (jA.drop j) (B t)))
 case atStart=>exact⟨0,_,by omega,rfl,kW,kB,kK,hkW,H0⟩
 case round =>
  clear H0 hkW kK kB kW;revert wr;intro wz hrel;obtain⟨j,B,hk,rfl,kz,oh,JG,hkz,HD⟩:=hrel
  by_cases hlt:j<jA.length
  ·have hVz:Tr.Seq F wz 175 2 cL (KL F w) _ jA:=Seq.move hV (fun b hb=>hkz.block b (hF b hb)) (fun _ h=>h) (fun _ _ h=>h)
   obtain⟨gL,Cr,va,hv,hgL,NI,zA⟩:=Seq.at hVz (fun _=>rfl) hlt;cases hv;have hTj:=hT jA[j] (List.getElem_mem hlt);have hd:=HD.out;rw[List.drop_eq_getElem_cons hlt]at hd;have c0:wz.cell? ⟨gL,j*2,none⟩=some (.int .i64 (jA[j].kind:Int)):=zA 0 (by decide);have c1:wz.cell? ⟨gL,j*2+1,none⟩=some va:=zA 1 (by decide);generalize jA[j]=lv at hTj hd NI c0 c1;obtain⟨kd,toks⟩:=lv;simp only at hTj NI c0 c1;have aa6:Tr.Seq F w 9 1 cT (fun _ _=>True) va toks:=NI;obtain⟨xa,xc,rfl,htm⟩:=Seq.len aa6;obtain⟨j1,hj1,HJ⟩:∃ j1:Nat,IntKind.i64.wrap ((j:Int)+1)=(j1:Int)/\Hid (j1=j+1):=⟨j+1,by rw[show ((j:Int)+1)=((j+1:Nat):Int) from by omega];exact wrap64 (by omega),rfl⟩;have HE:Hid (∀ t,Lx.bk t 0 jA (0,0)=Lx.bk t (j+1) (jA.drop (j+1)) (Fw (j1,kd) (toks.drop 0) B t)):=fun t=>by
    rw[hd t,Lx.bk,HJ.out,List.drop_zero,Zu]
   clear hd HD zA NI;obtain⟨W1,hW1⟩:∃ W1,W1=wz.alloc (.cells #[.int .i64 (kd:Int),.slice xa toks.length xc] 175):=⟨_,rfl⟩;have hb1:Below wz.heap.size wz W1:=by rw[hW1];exact (Below.refl _ _).alloc (lr0) _
   have hs1:W1.heap.size=wz.heap.size+1:=by rw[hW1];simp
   have kl:aj W1 wz.heap.size #[.int .i64 (kd:Int),.slice xa toks.length xc] 175:=by rw[hW1];exact aj.new wz _ 175
   have lKz:=JG.lt;have k1:aj W1 mb CS 125:=(hb1.block _ kz.lt).trans kz;have kB1:=(hb1.block _ oh.lt).trans oh;have kK1:=(hb1.block _ JG.lt).trans JG;have hk1:Kp (fun g=>g<w.heap.size/\g≠mb) w W1:=hkz.trans (Kp.below hb1 (D:=fun g=>g<wz.heap.size) fun g hg=>hg) fun g hg=>Nat.lt_of_lt_of_le hg.1 hkz.size
   unfold maxLen at htm;go_wp2_with fail;rw[<-hW1];clear hW1 c0 c1
   go_loopg [40] toks.length (fun k i wr=>∃ (m:Nat) (B:ByteArray->Nat × Nat),m+k=toks.length/\i=.int .i64 m/\aj wr mb CS 125/\aj wr w.heap.size (jg (T.map fun t=>(B t).1)) 3/\aj wr (w.heap.size+1) (jg (T.map fun t=>(B t).2)) 3/\aj wr wz.heap.size #[.int .i64 (kd:Int),.slice xa toks.length xc] 175/\Kp (fun g=>g<w.heap.size/\g≠mb) w wr/\Hid (∀ t,Lx.bk t 0 jA (0,0)=Lx.bk t (j+1) (jA.drop (j+1)) (Fw (j1,kd) (toks.drop m) B t)))
   case atStart=>exact⟨0,B,by omega,rfl,k1,kB1,kK1,kl,hk1,HE⟩
   case round =>
    clear HE hk1 kl kK1 kB1 k1 hb1 kz oh JG hkz;clear B;obtain⟨m,B,hkm,rfl,kr,jw,TL,klr,hkr,HE⟩:=hrel
    by_cases bF:m<toks.length
    ·have hTr:Tr.Seq F wr 9 1 cT (fun _ _=>True) _ toks:=Seq.move aa6 (fun b hb=>hkr.block b (hF b hb)) (fun _ h=>h) (fun _ _ h=>h)
     obtain⟨gT,am7,vk,hv,TM,-,hcT⟩:=Seq.at hTr (fun _=>rfl) bF;cases hv;have t0:wr.cell? ⟨gT,m,none⟩=some (.string toks[m].1):=by
      have:=hcT 0 (by decide);rw[Nat.mul_one,Nat.add_zero]at this;exact this
     have hfm:=hTj toks[m] (List.getElem_mem bF);have hd:=HE.out;rw[List.drop_eq_getElem_cons bF]at hd;generalize toks[m]=tk at t0 hfm hd;obtain⟨tx,tp⟩:=tk;simp only at t0 hfm;obtain⟨hq1,hq2⟩:=ajm hfm;have hq3:iV T tx=(Lx.fix T tx:Int):=by unfold iV;rw[if_pos hfm];exact hq2
     have aQ:SMap wr S (iV T):=hS.move (hkr.block S ⟨lS,fun e=>DI e.symm⟩);have eB:=Zt nd hq1 (fun t=>(B t).1) j1;have eK:=Zt nd hq1 (fun t=>(B t).2) kd;have Dx:Lx.fix T tx<T.length:=(List.getElem?_eq_some_iff.1 hq1).1;have HE2:Hid (∀ t,Lx.bk t 0 jA (0,0)=Lx.bk t (j+1) (jA.drop (j+1)) (Fw (j1,kd) (toks.drop (m+1)) (fun c=>if c=tx then (j1,kd) else B c) t)):=fun t=>by rw[hd t];rfl
     have eB':(T.map fun t=>((fun c=>if c=tx then (j1,kd) else B c) t).1)=T.map fun t=>if t=tx then j1 else (B t).1:=List.map_congr_left fun t _=>by show (if t=tx then (j1,kd) else B t).1=_;split <;> rfl
     have eK':(T.map fun t=>((fun c=>if c=tx then (j1,kd) else B c) t).2)=T.map fun t=>if t=tx then kd else (B t).2:=List.map_congr_left fun t _=>by show (if t=tx then (j1,kd) else B t).2=_;split <;> rfl
     have hl1:=SMap.look (w:=wr.drew) (aQ.move rfl) tx;rw[hq3]at hl1;have HB0:Hid (Lx.fix T tx<(T.map fun t=>(B t).1).length):=by show _<_;simpa using Dx
     have jV:Hid (Lx.fix T tx<(T.map fun t=>(B t).2).length):=by show _<_;simpa using Dx
     have TN:=hq3;generalize Lx.fix T tx=q at hl1 eB eK Dx HB0 jV TN;have TP:=jw.drew;have b0:wr.drew.cell? ⟨w.heap.size,q,none⟩=some (.int .i64 ((T.map fun t=>(B t).1)[q]'HB0.out:Int)):=by rw[TP.cell q];exact XY _ HB0.out
     generalize (T.map fun t=>(B t).1)[q]'HB0.out=ob at b0;have fB:∀ i,wr.drew.frozen? ⟨w.heap.size,i,none⟩=false:=TP.frozen;have NJ:=kr.drew;rw[hCS]at NJ;have m3:wr.drew.cell? ⟨mb,3,none⟩=some (.slice (some ⟨w.heap.size,0,none⟩) T.length T.length):=NJ.cell 3;have m5:wr.drew.cell? ⟨mb,5,none⟩=some (.map (some S)):=NJ.cell 5;obtain⟨W2,hW2⟩:∃ W2,W2=(wr.setCell ⟨w.heap.size,q,none⟩ (.int .i64 (j1:Int))).drew:=⟨_,rfl⟩;have kB2:aj W2 w.heap.size (jg (T.map fun t=>if t=tx then j1 else (B t).1)) 3:=by
      have:=(jw.set q (.int .i64 (j1:Int))).drew;rw[XW,eB]at this;rw[hW2];exact this
     have bk2:∀ g,g≠w.heap.size->W2.heap[g]?=wr.heap[g]?:=fun g hg=>by rw[hW2];exact hs0 hg
     have k2:aj W2 mb CS 125:=(bk2 mb (by omega)).trans kr;have kK2:=(bk2 (w.heap.size+1) (by omega)).trans TL;have kl2:=(bk2 wz.heap.size (by omega)).trans klr;have hk2:Kp (fun g=>g<w.heap.size/\g≠mb) w W2:=⟨by rw[hW2];exact hkr.os,by rw[hW2];exact hkr.tape,by rw[hW2];exact hkr.output,by rw[hW2];simpa [World.setCell]using hkr.size,fun g hg=>(bk2 g (by omega)).trans (hkr.block g hg)⟩;have hM2:SMap W2 S (iV T):=aQ.move (bk2 S (by omega));have hl2:=SMap.look (w:=W2.drew) (hM2.move rfl) tx;rw[TN]at hl2;have MK:aj W2 (w.heap.size+1) (jg (T.map fun t=>(B t).2)) 3:=kK2;have RP:aj W2 wz.heap.size #[.int .i64 (kd:Int),.slice (some ⟨gT,0,none⟩) toks.length xc] 175:=kl2;have a0:W2.drew.cell? ⟨w.heap.size+1,q,none⟩=some (.int .i64 ((T.map fun t=>(B t).2)[q]'jV.out:Int)):=by rw[MK.drew.cell q];exact XY _ jV.out
     generalize (T.map fun t=>(B t).2)[q]'jV.out=ok at a0;have fK:∀ i,W2.drew.frozen? ⟨w.heap.size+1,i,none⟩=false:=MK.drew.frozen;have NK:=k2.drew;rw[hCS]at NK;have n4:W2.drew.cell? ⟨mb,4,none⟩=some (.slice (some ⟨w.heap.size+1,0,none⟩) T.length T.length):=NK.cell 4;have n5:W2.drew.cell? ⟨mb,5,none⟩=some (.map (some S)):=NK.cell 5;have nl:W2.drew.cell? ⟨wz.heap.size,0,none⟩=some (.int .i64 (kd:Int)):=RP.drew.cell 0;obtain⟨W3,hW3⟩:∃ W3,W3=(W2.setCell ⟨w.heap.size+1,q,none⟩ (.int .i64 (kd:Int))).drew:=⟨_,rfl⟩;have kK3:aj W3 (w.heap.size+1) (jg (T.map fun t=>if t=tx then kd else (B t).2)) 3:=by
      have:=(MK.set q (.int .i64 (kd:Int))).drew;rw[XW,eK]at this;rw[hW3];exact this
     have JH:∀ g,g≠w.heap.size+1->W3.heap[g]?=W2.heap[g]?:=fun g hg=>by rw[hW3];exact hs0 hg
     have k3:aj W3 mb CS 125:=(JH mb (by omega)).trans k2;have kB3:aj W3 w.heap.size _ 3:=(JH w.heap.size (by omega)).trans kB2;have kl3:aj W3 wz.heap.size _ 175:=(JH wz.heap.size (by omega)).trans RP;have hk3:Kp (fun g=>g<w.heap.size/\g≠mb) w W3:=⟨by rw[hW3];exact hk2.os,by rw[hW3];exact hk2.tape,by rw[hW3];exact hk2.output,by rw[hW3];simpa [World.setCell]using hk2.size,fun g hg=>(JH g (by omega)).trans (hk2.block g hg)⟩;rw[<-eB']at kB3;rw[<-eK']at kK3;clear hd hq1 hq2 hq3 hcT hfm eB jw TP eK eB' eK' kK2 MK kl2 RP NK NJ kB2 k2 hk2 hM2 TN HB0 jV bk2 JH kr TL klr aQ hkr hTr;go_wp2_with fail
     go_region
     all_goals
      rw[<-hW2];clear hW2;go_wp2_with fail
      go_region
     all_goals
      rw[<-hW3];clear hW3;go_wp2_with fail;go_roundg (toks.length - (m+1))
      case measure=>omega
      case rel=>exact⟨m+1,_,by omega,by go_num,k3,kB3,kK3,kl3,hk3,HE2⟩
    ·have:m=toks.length:=by omega
     subst this;have hd:=HE.out;rw[List.drop_length]at hd;have HD2:Hid (∀ t,Lx.bk t 0 jA (0,0)=Lx.bk t (j+1) (jA.drop (j+1)) (B t)):=hd;clear hd HE;go_wp2_with fail;go_roundg (jA.length - (j+1))
     case measure=>omega
     case rel=>exact⟨j+1,B,by omega,by first | rfl | (rw[HJ.out];done) | (rw[HJ.out];go_num),kr,jw,TL,hkr,HD2⟩
  ·have:j=jA.length:=by omega
   subst this;have hd:=HD.out;rw[List.drop_length]at hd;have HD2:Hid (∀ t,Lx.bk t 0 jA (0,0)=B t):=hd;clear hd HD;go_wp2_with fail
   go_end0
   rw[hCS]at kz;refine⟨rfl,⟨_,_,kz,?_,?_,?_⟩,hkz⟩
   ·rw[show (T.map fun t=>(Lx.bk t 0 jA (0,0)).1)=T.map fun t=>(B t).1 from List.map_congr_left fun t _=>by rw[HD2.out t]]
    have:=XZ oh (lr0) (by simpa using NH);simpa using this
   ·rw[show (T.map fun t=>(Lx.bk t 0 jA (0,0)).2)=T.map fun t=>(B t).2 from List.map_congr_left fun t _=>by rw[HD2.out t]]
    have:=XZ (B:=w.heap.size) JG (by omega) (by simpa using NH);simpa using this
   ·intro g hg e
    have h1:w.heap.size=g:=by simpa [Value.ownBlock]using hg
    have h2:w.heap.size+1=g:=by simpa [Value.ownBlock]using e
    omega
def PlP (w:World)(v:Value)(T N:List ByteArray)(P:List Lx.Pd)(Bs Ks:List Nat):Prop:=∃ vT vN vP vB vK,v=.agg #[vT,vN,vP,vB,vK]/\w.ownsRow 0 9 1 vT T.length (T.map Value.string)/\w.ownsRow 0 9 1 vN N.length (N.map Value.string)/\PP (fun _=>True) w vP P/\IR 0 w vB Bs/\IR 0 w vK Ks
def vX (B:Nat)(w:World)(v:Value)(T N:List ByteArray)(P:List Lx.Pd)(Bs Ks:List Nat):Prop:=∃ vT vN vP vB vK,v=.agg #[vT,vN,vP,vB,vK]/\w.ownsRow 0 9 1 vT T.length (T.map Value.string)/\w.ownsRow 0 9 1 vN N.length (N.map Value.string)/\PP (fun g=>B<=g) w vP P/\IR 0 w vB Bs/\IR 0 w vK Ks/\∀ g,vP.ownBlock=some g->B<=g
theorem vX.pl {B:Nat}{w:World}{v:Value}{T N:List ByteArray}{P:List Lx.Pd}{Bs Ks:List Nat}(h:vX B w v T N P Bs Ks):PlP w v T N P Bs Ks:=by
 obtain⟨vT,vN,vP,vB,vK,h0,h1,h2,⟨ps,p1,p2,p3,p4⟩,h4,h5,-⟩:=h;exact⟨vT,vN,vP,vB,vK,h0,h1,h2,⟨ps,p1,p2,fun q hq=>⟨(p3 q hq).1,fun _ _=>trivial⟩,p4⟩,h4,h5⟩
theorem PP.move {D D':Nat->Prop}{w w':World}{v:Value}{P:List Lx.Pd}(h:PP D w v P)(hD:∀ g,D g->D' g)(hk:∀ g,D g->w'.heap[g]?=w.heap[g]?)(hv:∀ g,v.ownBlock=some g->w'.heap[g]?=w.heap[g]?):PP D' w' v P:=by
 obtain⟨ps,h1,h2,h3,h4⟩:=h;exact⟨ps,h1,aD h2 hv,fun q hq=>⟨aD (h3 q hq).1 fun g hg=>hk g ((h3 q hq).2 g hg),fun g hg=>hD g ((h3 q hq).2 g hg)⟩,h4⟩
theorem iT.empty {κ:Type}{K:κ->Value}{G:κ->Prop}{w:World}{B:Nat}(h:w.heap[B]?=some (.map #[] 0)):iT K G w B (fun _=>0) :=
 ⟨#[],0,h,fun i e h=>by simp at h,fun i j e e' h=>by simp at h,fun a h=>absurd rfl h⟩
theorem X0 {w:World}{B e z:Nat}{v:Value}{n:Nat}{xs:List Value}(h:w.ownsRow B e z v n xs){g:Nat}(hg:v.ownBlock=some g):∃ cur:Array Value,w.heap[g]?=some (.cells cur e):=by
 rcases h.2 with h0 | ⟨g',cap,cur,hv,-,hh,-⟩
 ·rw[h0.1]at hg;simp[Value.ownBlock]at hg
 ·have:g'=g:=by rw[hv]at hg;simpa [Value.ownBlock]using hg
  subst this;exact⟨cur,hh⟩
def aaq (g:Lx.Gr)(w:World)(e:Ending)(w':World):Prop:=∃ v,e=.returned v/\vX w.heap.size w' v (aA g) (aN g) (aU g) ((aA g).map fun t=>(dP g t).1) ((aA g).map fun t=>(dP g t).2)/\Below w.heap.size w w'
theorem afM {F:Nat->Prop} {w:World} {vl vr vW:Value} {g:Lx.Gr} {s:ByteArray} (hp:Lx.parse s=.ok g) (hf:Lx.Fit g) (hg:Al F w vl vr g) (hF:∀ b,F b->b<w.heap.size) (wP:WR w vW (iO g)) (ht:nL w) (hwl:(iO g).length<=100000) :
  Calls prog 27 #[.agg #[vl,vr],vW] w (aaq g w):=by
 obtain⟨la,lc,rfl,-⟩:=Seq.len hg.1;obtain⟨ra,rc,rfl,-⟩:=(mH.len (F:=F) (w:=w) ⟨hF,eO.weak hg.2 fun A v x hA hk=>fD.weak hA hk⟩);obtain⟨wa,wc,rfl,-⟩:=wP.len;have hmm:=@run_makeMap prog;unfold aaq;go_enter func27,ntmps27;go_wp2_with fail;have e4:w.heap.size+1+1+1+1=w.heap.size+4:=rfl;have e3:w.heap.size+1+1+1=w.heap.size+3:=rfl;have e2:w.heap.size+1+1=w.heap.size+2:=rfl;rw[e4,e3,e2];clear e4 e3 e2 hmm;obtain⟨A1,hA1⟩:∃ A1,A1=(w.alloc (.cells #[.slice la g.levels.length lc,.slice ra g.rules.length rc] 65)).alloc (.cells #[.slice none 0 0,.slice none 0 0,.slice none 0 0,.slice none 0 0,.slice none 0 0] 26):=⟨_,rfl⟩;have hsA:A1.heap.size=w.heap.size+2:=by rw[hA1];simp
 obtain⟨W,hW⟩:∃ W,W=((A1.alloc (.map #[] 0)).alloc (.map #[] 0)).alloc (.cells #[.slice none 0 0,.slice none 0 0,.slice none 0 0,.slice none 0 0,.slice none 0 0,.map (some (w.heap.size+2)),.map (some (w.heap.size+3))] 125):=⟨_,rfl⟩;have jJ:Below w.heap.size w A1:=by rw[hA1];exact ((Below.refl _ _).alloc (lr0) _).alloc (by simp) _
 have ML:Below A1.heap.size A1 W:=by rw[hW];exact (((Below.refl _ _).alloc (lr0) _).alloc (by simp) _).alloc (by simp;omega) _
 have hbW:Below w.heap.size w W:=jJ.trans (ML.mono (by omega));have wL:W.heap.size=w.heap.size+5:=by rw[hW];simp[hsA]
 have kG:aj W w.heap.size #[.slice la g.levels.length lc,.slice ra g.rules.length rc] 65:=by
  have:aj A1 w.heap.size #[.slice la g.levels.length lc,.slice ra g.rules.length rc] 65:=by rw[hA1];exact (aj.new w _ 65).alloc _
  exact (ML.block _ (by omega)).trans this
 have kRs:aj W (w.heap.size+1) #[.slice none 0 0,.slice none 0 0,.slice none 0 0,.slice none 0 0,.slice none 0 0] 26:=by
  have:aj A1 (w.heap.size+1) #[.slice none 0 0,.slice none 0 0,.slice none 0 0,.slice none 0 0,.slice none 0 0] 26:=by rw[hA1];simpa using aj.new (w.alloc (.cells #[.slice la g.levels.length lc,.slice ra g.rules.length rc] 65)) #[.slice none 0 0,.slice none 0 0,.slice none 0 0,.slice none 0 0,.slice none 0 0] 26
  exact (ML.block _ (by omega)).trans this
 have hSr:W.heap[w.heap.size+2]?=some (.map #[] 0):=by
  rw[hW,Below.heap_alloc _ _ _ (by simp;omega),Below.heap_alloc _ _ _ (by simp;omega),<-hsA];exact heap_alloc_new A1 _
 have hHr:W.heap[w.heap.size+3]?=some (.map #[] 0):=by
  rw[hW,Below.heap_alloc _ _ _ (by simp;omega),show w.heap.size+3=(A1.alloc (.map #[] 0)).heap.size by simp;omega];exact heap_alloc_new _ _
 have kM:aj W (w.heap.size+4) #[.slice none 0 0,.slice none 0 0,.slice none 0 0,.slice none 0 0,.slice none 0 0,.map (some (w.heap.size+2)),.map (some (w.heap.size+3))] 125:=by
  have:=aj.new ((A1.alloc (.map #[] 0)).alloc (.map #[] 0)) #[.slice none 0 0,.slice none 0 0,.slice none 0 0,.slice none 0 0,.slice none 0 0,.map (some (w.heap.size+2)),.map (some (w.heap.size+3))] 125;rw[hW];simpa [hsA]using this
 rw[hA1]at hW;rw[<-hW];clear hW hA1 jJ ML hsA;clear A1;have aa7:=wP.below hbW;have q1:=aeX (S:=w.heap.size+2) kM (iT.empty hSr) aa7 (fun b hb=>by have:=(wP.lt b hb).2;omega) (agu hp) (afL hp) hwl;rw[ahl (aiv hp hf.unk)]at q1;refine q1.mono ?_;rintro e w2 ⟨rfl,⟨vT,kT,oT⟩,sT,FT⟩;clear q1 aa7;obtain⟨ta,tc,rfl,-⟩:=aI oT;have kT':aj w2 (w.heap.size+4) #[.slice ta (aA g).length tc,.slice none 0 0,.slice none 0 0,.slice none 0 0,.slice none 0 0,.map (some (w.heap.size+2)),.map (some (w.heap.size+3))] 125:=kT;have hs2:=FT.size;have b2:∀ x,x<w.heap.size+2\/x=w.heap.size+3->w2.heap[x]?=W.heap[x]?:=fun x hx=>FT.block x (by omega)
 have g2:∀ x,x<w.heap.size->w2.heap[x]?=w.heap[x]?:=fun x hx=>(b2 x (by omega)).trans (hbW.block x hx)
 have nI:aj w2 w.heap.size _ 65:=(b2 _ (by omega)).trans kG;have gl:w2.cell? ⟨w.heap.size,0,none⟩=some (.slice la g.levels.length lc):=nI.cell 0;have hlv:g.levels.length<=100000:=by
  have h1:g.levels.length<=xD g.levels:=Ag (fun l:Lx.Lv=>1+l.tokens.length) fun _ _=>by omega
  have:=hf.sz;omega
 have q2:=aeY (S:=w.heap.size+2) kT' (dO oT (Nat.zero_le _)) sT (Seq.move hg.1 (fun b hb=>g2 b (hF b hb)) (fun _ h=>h) (fun v x h=>yD F F w w2 v x (fun b hb=>g2 b (hF b hb)) (fun _ h=>h) h)) (fun b hb=>by have:=hF b hb;omega) (Ox _ _ (by simp)) (fun l hl t ht=>Zk (List.mem_map.2 ⟨(0,t.1,t.2),List.mem_flatMap.2 ⟨l,hl,List.mem_map.2 ⟨t,ht,rfl⟩⟩,rfl⟩)) (by have:=hf.Ms;omega) hlv;go_wp2_with fail;refine q2.mono ?_;rintro e w3 ⟨rfl,⟨vB,vK,kL,oB,oK,hBK⟩,wQ⟩;clear q2 gl;have hs3:=wQ.size;have g3:∀ x,x<w.heap.size->w3.heap[x]?=w.heap[x]?:=fun x hx=>(wQ.block x (by omega)).trans (g2 x hx)
 have kL':aj w3 (w.heap.size+4) #[.slice ta (aA g).length tc,.slice none 0 0,.slice none 0 0,vB,vK,.map (some (w.heap.size+2)),.map (some (w.heap.size+3))] 125:=kL;have dG:aj w3 w.heap.size _ 65:=(wQ.block w.heap.size (by omega)).trans nI;have gr:w3.cell? ⟨w.heap.size,1,none⟩=some (.slice ra g.rules.length rc):=dG.cell 1;have wF:SMap w3 (w.heap.size+2) (iV (aA g)):=sT.move (wQ.block _ (by omega));have hH3:w3.heap[w.heap.size+3]?=some (.map #[] 0):=(wQ.block _ (by omega)).trans ((b2 _ (.inr rfl)).trans hHr);have TQ:Tr.eO F w3 179 2 cR KR (.slice ra g.rules.length rc) g.rules:=eO.move hg.2 (fun b hb=>g3 b (hF b hb)) (fun _ h=>h) fun A v x hA hk=>rD A A w w3 v x (fun b hb=>g3 b (hF b (hA b hb))) (fun _ h=>h) hk
 have akH:=ht.lt;have t3:nL w3:=ht.move (g3 rR akH);have hnm:∀ r∈g.rules,r.name.size<=2000:=fun r hr=>by have:=XP (hf.rl r hr).1;omega
 have hnl:(dZ g.rules).length<=50000:=by have h1:(aN g).length<=2002:=hf.Rh;have h2:aN g=dZ g.rules:=rfl;rw[<-h2];omega
 have q3:=afb (D:=fun x=>x<w3.heap.size/\x≠w.heap.size+4/\x≠w.heap.size+2/\x≠w.heap.size+3) kL' wF (iT.empty hH3) TQ (fun b hb=>by have:=hF b hb;exact⟨by omega,by omega,by omega,by omega⟩) (fun b hb=>hb.1) (fun h=>h.2.1 rfl) (fun h=>h.2.2.1 rfl) (fun h=>h.2.2.2 rfl) (by omega) t3 ⟨by omega,by omega,by omega,by omega⟩ (Ev hf.dup) hnm (by have:=hf.Ms;omega) hnl (by have:=hf.rules;omega);go_wp2_with fail;refine q3.mono ?_;rintro e w4 ⟨rfl,⟨fH,fS,n4,sm4,sy4,he4⟩,xV⟩;clear q3 gr;rw[List.take_length]at n4;obtain⟨vN,k4,oN,dN⟩:=n4.ex;have hs4:=xV.size;have g4:∀ x,x<w.heap.size->w4.heap[x]?=w.heap[x]?:=fun x hx=>(xV.block x ⟨by omega,by omega,by omega,by omega⟩).trans (g3 x hx)
 have lH4:w.heap.size+3<w4.heap.size:=iT.lt n4.pm;have lS4:w.heap.size+2<w4.heap.size:=iT.lt sm4;have lM4:=k4.lt;have hMp:Mp (fun x=>(x<w3.heap.size/\x≠w.heap.size+4/\x≠w.heap.size+2/\x≠w.heap.size+3)\/x=w.heap.size+2\/x=w.heap.size+3\/vN.ownBlock=some x) (fun b=>F b/\je w3 b) w4 (w.heap.size+4) (w.heap.size+2) (w.heap.size+3) ta (aA g).length tc vN vB vK fS fH []:=by
  refine⟨⟨.slice none 0 0,k4,⟨[],rfl,World.ownsRow_nil _ _ _ _,fun q hq=>(by cases hq),List.Pairwise.nil⟩,fun x hx=>(by cases hx)⟩,sm4,n4.pm,.inr (.inl rfl),.inr (.inr (.inl rfl)),?_,?_,?_⟩
  ·rintro (h | h | h | h)
   ·exact h.2.1 rfl
   ·omega
   ·omega
   ·exact (dN _ h).2.1 rfl
  ·rintro x (h | h | h | h)
   ·omega
   ·omega
   ·omega
   ·exact (oN.lt x h).2
  ·intro b hb
   have hb':=hF b hb.1;exact⟨.inl ⟨by omega,by omega,by omega,by omega⟩,hb.2.move (xV.block b ⟨by omega,by omega,by omega,by omega⟩)⟩
 have JI:∀ b,F b->w4.heap[b]?=w3.heap[b]?:=fun b hb=>by
  have hb':=hF b hb;exact xV.block b ⟨by omega,by omega,by omega,by omega⟩
 have hR4:Tr.eO F w4 179 2 cR KR (.slice ra g.rules.length rc) g.rules:=eO.move TQ JI (fun _ h=>h) fun A v x hA hk=>rD A A w3 w4 v x (fun b hb=>JI b (hA b hb)) (fun _ h=>h) hk
 have akI:mH F w3 (.slice ra g.rules.length rc) g.rules:=⟨fun b hb=>by have:=hF b hb;omega,eO.weak TQ fun A v x hA hk=>fD.weak hA hk⟩;have aa8:mH F w4 (.slice ra g.rules.length rc) g.rules:=⟨fun b hb=>by have:=hF b hb;omega,eO.weak hR4 fun A v x hA hk=>fD.weak hA hk⟩;have hcv:∀ i (hi:i<g.rules.length),cv w4 ⟨aZ (.slice ra g.rules.length rc),i*2+1,none⟩=cv w3 ⟨aZ (.slice ra g.rules.length rc),i*2+1,none⟩/\aT 9 w4 (cv w4 ⟨aZ (.slice ra g.rules.length rc),i*2+1,none⟩) g.rules[i].alts=aT 9 w3 (cv w3 ⟨aZ (.slice ra g.rules.length rc),i*2+1,none⟩) g.rules[i].alts:=fun i hi=>by
  obtain⟨gR,cap,va,hv,hFg,hA,c0,c1⟩:=akI.at hi;rw[hv];show cv w4 ⟨gR,i*2+1,none⟩=cv w3 ⟨gR,i*2+1,none⟩/\_;have e1:cv w4 ⟨gR,i*2+1,none⟩=cv w3 ⟨gR,i*2+1,none⟩:=Qn (JI gR hFg);refine⟨e1,?_⟩;show aT 9 w4 (cv w4 ⟨gR,i*2+1,none⟩) _=aT 9 w3 (cv w3 ⟨gR,i*2+1,none⟩) _;have e2:cv w3 ⟨gR,i*2+1,none⟩=va:=by unfold cv;rw[c1];rfl
  rw[e1,e2];exact GY hA JI
 have aa9:vU w4 (aZ (.slice ra g.rules.length rc)) (aA g).length g.rules g.rules.length fH:=by
  intro i hi hlt k p hp;refine he4 i hi hlt k p ?_;unfold hlA at hp |-;rw[(hcv i hi).2]at hp;exact hp
 have hQ:=aix hf aa8 (U5 hR4) sy4 aa9 (G:=fun b=>F b/\je w3 b) (fun b hb hc=>⟨hb,hc.move (JI b hb).symm⟩);have xW:aj w4 w.heap.size _ 65:=(xV.block w.heap.size ⟨by omega,by omega,by omega,by omega⟩).trans dG;have gr4:w4.cell? ⟨w.heap.size,1,none⟩=some (.slice ra g.rules.length rc):=xW.cell 1;have q4:=afd (T:=aA g) (N:=aN g) hMp aa8 (fun b hb=>by have hb':=hF b hb;exact .inl ⟨by omega,by omega,by omega,by omega⟩) hQ hf.ne (by have:=hf.rules;omega);go_wp2_with fail;refine q4.mono ?_;rintro e w5 ⟨rfl,E,hE,iB,DT⟩;clear q4 gr4 hQ aa9;obtain⟨vP,k5,om,zC⟩:=iB.ex;have hD4:∀ x,x<w3.heap.size->x≠w.heap.size+4->x≠w.heap.size+2->x≠w.heap.size+3->w5.heap[x]?=w4.heap[x]?:=fun x h1 h2 h3 h4=>DT.block x (.inl ⟨h1,h2,h3,h4⟩)
 have NM:∀ x,x<w3.heap.size->x≠w.heap.size+4->x≠w.heap.size+2->x≠w.heap.size+3->w5.heap[x]?=w3.heap[x]?:=fun x h1 h2 h3 h4=>(hD4 x h1 h2 h3 h4).trans (xV.block x ⟨h1,h2,h3,h4⟩)
 have ru:aj w5 (w.heap.size+1) #[.slice none 0 0,.slice none 0 0,.slice none 0 0,.slice none 0 0,.slice none 0 0] 26:=(NM _ (by omega) (by omega) (by omega) (by omega)).trans ((wQ.block _ (by omega)).trans ((b2 _ (by omega)).trans kRs));have oT5:w5.ownsRow 0 9 1 (.slice ta (aA g).length tc) (aA g).length ((aA g).map Value.string):=dO (aD (aD oT fun x hx=>wQ.block x (by have:=oT.lt x hx;omega)) fun x hx=>by have:=oT.lt x hx;exact NM x (by omega) (by omega) (by omega) (by omega)) (Nat.zero_le _);have nT1:(Value.slice ta (aA g).length tc).ownBlock≠some (w.heap.size+1):=fun e=>by have:=(oT.lt _ e).1;omega
 have oB5:=dO (aD (w':=w5) oB fun x hx=>by have:=oB.lt x hx;exact NM x (by omega) (by omega) (by omega) (by omega)) (Nat.zero_le _);have nB1:vB.ownBlock≠some (w.heap.size+1):=fun e=>by have:=(oB.lt _ e).1;omega
 have oK5:=dO (aD (w':=w5) oK fun x hx=>by have:=oK.lt x hx;exact NM x (by omega) (by omega) (by omega) (by omega)) (Nat.zero_le _);have nK1:vK.ownBlock≠some (w.heap.size+1):=fun e=>by have:=(oK.lt _ e).1;omega
 have oN5:=aD (w':=w5) oN fun x hx=>DT.block x (.inr (.inr (.inr hx)))
 have nN1:vN.ownBlock≠some (w.heap.size+1):=fun e=>(dN _ e).1 (.inl ⟨by omega,by omega,by omega,by omega⟩)
 have nE1:E (w.heap.size+1):=hE _ (.inl ⟨by omega,by omega,by omega,by omega⟩);have nP1:vP.ownBlock≠some (w.heap.size+1):=fun e=>(zC _ e).1 nE1
 have iA:∀ x,vP.ownBlock=some x->w.heap.size<=x:=fun x hx=>by have:=(zC x hx).2;omega
 have hnd:PP (fun x=>x≠w.heap.size+1/\w.heap.size<=x) w5 vP (aU g):=by
  obtain⟨ps,p1,p2,p3,p4⟩:=om;refine⟨ps,p1,p2,fun q hq=>⟨(p3 q hq).1,fun x hx=>⟨fun e=>?_,by have:=((p3 q hq).2 x hx).2;omega⟩⟩,p4⟩;obtain⟨cur,hc⟩:=X0 (p3 q hq).1 hx;unfold aj at ru;rw[e,ru]at hc;cases hc
 have akJ:Below w.heap.size w w5:=⟨DT.os.trans (xV.os.trans (wQ.os.trans (FT.os.trans hbW.os))),DT.tape.trans (xV.tape.trans (wQ.tape.trans (FT.tape.trans hbW.tape))),DT.output.trans (xV.output.trans (wQ.output.trans (FT.output.trans hbW.output))),by have:=DT.size;omega,fun x hx=>(hD4 x (by omega) (by omega) (by omega) (by omega)).trans (g4 x hx)⟩;obtain⟨na,nc,rfl,-⟩:=aI oN5;obtain⟨ps,hp1,hp2,hp3⟩:=id hnd;obtain⟨pa,pc,rfl,-⟩:=aI hp2;obtain⟨ba,bc,rfl,-⟩:=aI oB5;obtain⟨ka,kc,rfl,-⟩:=aI oK5;have m0:w5.cell? ⟨w.heap.size+4,0,none⟩=some (.slice ta (aA g).length tc):=k5.cell 0;have m1:w5.cell? ⟨w.heap.size+4,1,none⟩=some (.slice na (dZ g.rules).length nc):=k5.cell 1;have m2:w5.cell? ⟨w.heap.size+4,2,none⟩=some (.slice pa (aU g).length pc):=k5.cell 2;have m3:=k5.cell 3;have m4:=k5.cell 4;have r0:w5.cell? ⟨w.heap.size+1,0,none⟩=some (.slice none 0 0):=ru.cell 0;have r1:w5.cell? ⟨w.heap.size+1,1,none⟩=some (.slice none 0 0):=ru.cell 1;have r2:w5.cell? ⟨w.heap.size+1,2,none⟩=some (.slice none 0 0):=ru.cell 2;have r3:w5.cell? ⟨w.heap.size+1,3,none⟩=some (.slice none 0 0):=ru.cell 3;have r4:w5.cell? ⟨w.heap.size+1,4,none⟩=some (.slice none 0 0):=ru.cell 4;have rf:∀ i,w5.frozen? ⟨w.heap.size+1,i,none⟩=false:=ru.frozen;clear hp1 hp2 hp3;clear iB DT xV wQ FT om zC hE;simp at m3 m4;obtain⟨w6,zL⟩:∃ w6,w6=((((w5.setCell ⟨w.heap.size+1,0,none⟩ (.slice ta (aA g).length tc)).setCell ⟨w.heap.size+1,1,none⟩ (.slice na (dZ g.rules).length nc)).setCell ⟨w.heap.size+1,2,none⟩ (.slice pa (aU g).length pc)).setCell ⟨w.heap.size+1,3,none⟩ (.slice ba ((aA g).map fun t=>(Lx.bk t 0 g.levels (0,0)).1).length bc)).setCell ⟨w.heap.size+1,4,none⟩ (.slice ka ((aA g).map fun t=>(Lx.bk t 0 g.levels (0,0)).2).length kc):=⟨_,rfl⟩
 have k6:aj w6 (w.heap.size+1) #[.slice ta (aA g).length tc,.slice na (dZ g.rules).length nc,.slice pa (aU g).length pc,.slice ba ((aA g).map fun t=>(Lx.bk t 0 g.levels (0,0)).1).length bc,.slice ka ((aA g).map fun t=>(Lx.bk t 0 g.levels (0,0)).2).length kc] 26:=by rw[zL];exact ((((ru.set 0 _).set 1 _).set 2 _).set 3 _).set 4 _
 have b6:∀ x,x≠w.heap.size+1->w6.heap[x]?=w5.heap[x]?:=fun x hx=>by rw[zL,hs0 hx,hs0 hx,hs0 hx,hs0 hx,hs0 hx]
 have akK:Below w.heap.size w w6:=by rw[zL];exact ((((akJ.setCell (p:=⟨w.heap.size+1,0,none⟩) (by show w.heap.size<=w.heap.size+1;omega) _).setCell (p:=⟨w.heap.size+1,1,none⟩) (by show w.heap.size<=w.heap.size+1;omega) _).setCell (p:=⟨w.heap.size+1,2,none⟩) (by show w.heap.size<=w.heap.size+1;omega) _).setCell (p:=⟨w.heap.size+1,3,none⟩) (by show w.heap.size<=w.heap.size+1;omega) _).setCell (p:=⟨w.heap.size+1,4,none⟩) (by show w.heap.size<=w.heap.size+1;omega) _
 have hfin:vX w.heap.size w6 (.agg #[.slice ta (aA g).length tc,.slice na (dZ g.rules).length nc,.slice pa (aU g).length pc,.slice ba ((aA g).map fun t=>(Lx.bk t 0 g.levels (0,0)).1).length bc,.slice ka ((aA g).map fun t=>(Lx.bk t 0 g.levels (0,0)).2).length kc]) (aA g) (aN g) (aU g) ((aA g).map fun t=>(dP g t).1) ((aA g).map fun t=>(dP g t).2) :=
  ⟨_,_,_,_,_,rfl,aD oT5 fun x hx=>b6 x fun e=>nT1 (e ▸ hx),aD oN5 fun x hx=>b6 x fun e=>nN1 (e ▸ hx),hnd.move (fun _ hx=>hx.2) (fun x hx=>b6 x hx.1) (fun x hx=>b6 x fun e=>nP1 (e ▸ hx)),aD oB5 fun x hx=>b6 x fun e=>nB1 (e ▸ hx),aD oK5 fun x hx=>b6 x fun e=>nK1 (e ▸ hx),iA⟩
 have s0:=k6.cell 0;have s1:=k6.cell 1;have s2:=k6.cell 2;have s3:=k6.cell 3;have s4:=k6.cell 4;simp at s0 s1 s2 s3 s4;have JC:Hid (((aA g).map fun t=>(Lx.bk t 0 g.levels (0,0)).1).length=(aA g).length):=by show _=_;simp
 have xX:Hid (((aA g).map fun t=>(Lx.bk t 0 g.levels (0,0)).2).length=(aA g).length):=by show _=_;simp
 rw[JC.out,xX.out]at zL hfin;go_wp2_with fail;rw[<-zL];exact bodyPost_ret (v:=.agg #[.slice ta (aA g).length tc,.slice na (dZ g.rules).length nc,.slice pa (aU g).length pc,.slice ba (aA g).length bc,.slice ka (aA g).length kc]) (by simp[results,results27,go_sem,s0,s1,s2,s3,s4]) rfl ⟨_,rfl,hfin,akK⟩
theorem cell_below {w w':World}(h:Below w.heap.size w w'){a:Addr}{v:Value}(hc:w.cell? a=some v):w'.cell? a=some v:=(World.cell?_of_block (w:=w) (h.block a.block (World.block_lt_of_cell? w a hc))).trans hc
theorem PP.at {D:Nat->Prop}{w:World}{v:Value}{P:List Lx.Pd}(h:PP D w v P){j:Nat}(hj:j<P.length):∃ g cap u,v=.slice (some ⟨g,0,none⟩) P.length cap/\IR 0 w u P[j].right/\w.cell? ⟨g,j*3,none⟩=some (.int .i64 (P[j].left:Int))/\w.cell? ⟨g,j*3+1,none⟩=some u/\w.cell? ⟨g,j*3+2,none⟩=some (.int .i64 P[j].prec):=by
 obtain⟨ps,h1,h2,h3,-⟩:=h;have hs:Tr.Seq (fun _=>True) w 58 3 kH (fun u q=>IR 0 w u q.right) v P:=⟨ps,h1,h2,fun _ _=>trivial,fun q hq=>(h3 q hq).1⟩;obtain⟨g,cap,u,k1,-,k3,k4⟩:=Seq.at hs (fun _=>rfl) hj;exact⟨g,cap,u,k1,k3,k4 0 (by decide),k4 1 (by decide),k4 2 (by decide)⟩
theorem PR.at {D:Nat->Prop}{w:World}{v:Value}{P:List Lx.Pd}(h:PR D w v P){j:Nat}(hj:j<P.length):∃ g cap u,v=.slice (some ⟨g,0,none⟩) P.length cap/\IR 0 w u P[j].right/\w.cell? ⟨g,j*3,none⟩=some (.int .i64 (P[j].left:Int))/\w.cell? ⟨g,j*3+1,none⟩=some u/\w.cell? ⟨g,j*3+2,none⟩=some (.int .i64 P[j].prec):=by
 obtain⟨ps,h1,h2,h3⟩:=h;have hs:Tr.Seq (fun _=>True) w 78 3 kH (fun u q=>IR 0 w u q.right) v P:=⟨ps,h1,h2,fun _ _=>trivial,fun q hq=>(h3 q hq).1⟩;obtain⟨g,cap,u,k1,-,k3,k4⟩:=Seq.at hs (fun _=>rfl) hj;exact⟨g,cap,u,k1,k3,k4 0 (by decide),k4 1 (by decide),k4 2 (by decide)⟩
theorem PP.below {D:Nat->Prop}{w w':World}{v:Value}{P:List Lx.Pd}(h:PP D w v P)(hb:Below w.heap.size w w'):PP D w' v P:=by
 obtain⟨ps,h1,h2,h3,h4⟩:=h;exact⟨ps,h1,own_below h2 hb,fun q hq=>⟨own_below (h3 q hq).1 hb,(h3 q hq).2⟩,h4⟩
theorem PR.below {D:Nat->Prop}{w w':World}{v:Value}{P:List Lx.Pd}(h:PR D w v P)(hb:Below w.heap.size w w'):PR D w' v P:=by
 obtain⟨ps,h1,h2,h3⟩:=h;exact⟨ps,h1,own_below h2 hb,fun q hq=>⟨own_below (h3 q hq).1 hb,(h3 q hq).2⟩⟩
namespace Lx
def jQ (E:List Bool):List Nat->Nat
 | []=>0
 | s::r=>if au E s=true then 1+jQ E r else 0
theorem KW (E:List Bool):∀ r:List Nat,jQ E r<=r.length
 | []=>lr0
 | s::r=>by
  have:=KW E r;rw[jQ]
  split
  ·rw[List.length_cons];omega
  ·exact Nat.zero_le _
def mD (E:List Bool)(p:Pd):List Bool:=if au E p.left=false/\jQ E p.right=p.right.length then E.set p.left true else E
def bW (P:List Pd)(E:List Bool):List Bool:=P.foldl mD E
theorem ahs (E:List Bool)(p:Pd):(mD E p).length=E.length:=by unfold mD;split <;> simp
theorem X6:∀ (P:List Pd) (E:List Bool),(bW P E).length=E.length
 | [],_=>rfl
 | p::P,E=>by
  show (bW P (mD E p)).length=_;rw[X6 P,ahs]
def gq {α:Type} (f:α->α):Nat->α->α
 | 0,x=>x
 | k+1,x=>f (gq f k x)
theorem Qt {α:Type} {f:α->α} {x:α} {k:Nat} (h:f (gq f k x)=gq f k x):∀ m,gq f (k+m) x=gq f k x
 | 0=>rfl
 | m+1=>by
  show f (gq f (k+m) x)=_;rw[Qt h m,h]
theorem YK {α:Type}{f:α->α}{x:α}{k m:Nat}(hk:f (gq f k x)=gq f k x)(hm:f (gq f m x)=gq f m x):gq f k x=gq f m x:=by
 rw[<-Qt hk m,Nat.add_comm,Qt hm k]
def yV (n:Nat)(P:List Pd):Prop:=∀ p∈P,p.left<n/\∀ s∈p.right,s<n
end Lx
theorem UY {w:World}{v:Value}{r:List Nat}{E:List Bool}{g:Nat}(hr:IR 0 w v r)(hE:aj w g (aL E) 4)(hs:∀ s∈r,s<E.length):Calls prog 71 #[v,.slice (some ⟨g,0,none⟩) E.length E.length] w fun e w'=>e=.returned (.int .i64 (jQ E r:Int))/\w'=w:=by
 obtain⟨a,c,rfl,hm⟩:=aI hr;unfold maxLen at hm;go_enter func71,ntmps71;go_wp2_with fail;have H0:Hid (jQ E r=0+jQ E (r.drop 0)):=by show _=_;simp
 go_loopg [9] r.length (fun k i wr=>∃ j:Nat,j+k=r.length/\i=.int .i64 j/\wr=w/\Hid (jQ E r=j+jQ E (r.drop j)))
 case atStart=>exact⟨0,by omega,rfl,rfl,H0⟩
 case round =>
  obtain⟨j,hk,rfl,DK,HD⟩:=hrel;subst DK
  by_cases hlt:j<r.length
  ·obtain⟨gR,cap,hv,-,c1⟩:=hr.at hlt
   cases hv;have hd:=HD.out;rw[List.drop_eq_getElem_cons hlt,jQ]at hd;have hsj:=hs r[j] (List.getElem_mem hlt);have hb:=fI E hsj;generalize r[j]=s at c1 hd hsj hb;have cb:wr.cell? ⟨g,s,none⟩=some (.bool (au E s)):=(hE.cell s).trans hb;have i1:(0:Int)<=(s:Int):=by omega
   have i2:(s:Int)<(E.length:Int):=by omega
   cases hat:au E s with
   | true =>
    rw[hat]at cb;rw[if_pos hat]at hd;have HD2:Hid (jQ E r=(j+1)+jQ E (r.drop (j+1))):=by show _=_;omega
    clear hd HD hat hb;go_wp2_with fail;go_roundg (r.length - (j+1))
    case measure=>omega
    case rel=>exact⟨j+1,by omega,by go_num,rfl,HD2⟩
   | false =>
    rw[hat]at cb;rw[if_neg (by rw[hat];decide)]at hd;have HD2:Hid (jQ E r=j):=by show _=_;omega
    clear hd HD hat hb;go_wp2_with fail;go_ret;exact⟨by rw[HD2.out];rfl,rfl⟩
  ·have:j=r.length:=by omega
   subst this;have hd:=HD.out;rw[List.drop_length]at hd;have HD2:Hid (jQ E r=r.length):=hd;clear hd HD;go_wp2_with fail;go_ret;exact⟨by rw[HD2.out];rfl,rfl⟩
theorem V7 {n:Nat}(hn:n<=100000)(w:World):(Instr.makeSlice 39 (.int .i64 (n:Int)) (.int .i64 (n:Int))).run prog w=.ok (.slice (some ⟨w.heap.size,0,none⟩) n n) (w.alloc (.cells (aL (List.replicate n false)) 4)):=by
 obtain⟨i0,hi,hz0,hz1,hz2⟩:=info_parts Tryz.QO;have h:=run_make (P:=prog) w 39 4 i0 _ (by kernel_rfl) hi hz0 .i64 .i64 (n:Int) (n:Int) (by omega) (Int.le_refl _) (by rw[hz2];omega) (by omega);rw[h,Int.toNat_natCast,hz1];have e:Value.cells (.bool false)=#[.bool false]:=rfl;rw[e,OV]
namespace Lx
theorem YL (E:List Bool)(p:Pd):bO E (mD E p):=by
 unfold mD
 split
 ·refine⟨by simp,fun i hi=>?_⟩
  rw[at_set]
  split
  ·rfl
  ·exact hi
 ·exact bO.refl _
end Lx
structure EU (w:World) (ta:Option Addr) (nT tc:Nat) (na:Option Addr) (nN nc:Nat) (vP:Value) (P:List Lx.Pd):Prop where
 pp:PP (fun _=>True) w vP P
 ok:yV (nT+nN) P
 bd:nT+nN<=100000
theorem EU.below {w w':World}{ta:Option Addr}{nT tc:Nat}{na:Option Addr}{nN nc:Nat}{vP:Value}{P:List Lx.Pd}(h:EU w ta nT tc na nN nc vP P)(hb:Below w.heap.size w w'):EU w' ta nT tc na nN nc vP P:=⟨h.pp.below hb,h.ok,h.bd⟩
def ZT (w:World)(n:Nat)(P:List Lx.Pd)(e:Ending)(w':World):Prop:=∃ g E k,e=.returned (.slice (some ⟨g,0,none⟩) n n)/\w.heap.size<=g/\aj w' g (aL E) 4/\E.length=n/\E=gq (bW P) k (List.replicate n false)/\bW P E=E/\Below w.heap.size w w'
theorem aeL {w:World}{ta:Option Addr}{nT tc:Nat}{na:Option Addr}{nN nc:Nat}{vP:Value}{P:List Lx.Pd}{ba ka:Option Addr}{nb bc nk kc:Nat}(h:EU w ta nT tc na nN nc vP P):Calls prog 31 #[.agg #[.slice ta nT tc,.slice na nN nc,vP,.slice ba nb bc,.slice ka nk kc]] w (ZT w (nT+nN) P):=by
 obtain⟨hP,hok,hbd⟩:=h;obtain⟨pa,pc,rfl,hpm⟩:∃ a c,vP=.slice a P.length c/\P.length<=maxLen:=by obtain⟨ps,h1,h2,-⟩:=hP;exact aI h2
 unfold maxLen at hpm;obtain⟨n,hn⟩:∃ n,n=nT+nN:=⟨_,rfl⟩;have hw1:IntKind.i64.wrap ((nT:Int)+(nN:Int))=(n:Int):=by rw[hn,<-Int.natCast_add];exact wrap64 (by omega)
 rw[<-hn]at hok hbd |-;clear hn;have hmk:=fun w=>V7 hbd w
 unfold ZT;go_enter func31,ntmps31;go_wp2_with fail;obtain⟨W,hW⟩:∃ W,W=(w.alloc (.cells #[.slice ta nT tc,.slice na nN nc,.slice pa P.length pc,.slice ba nb bc,.slice ka nk kc] 26)).alloc (.cells (aL (List.replicate n false)) 4):=⟨_,rfl⟩;rw[<-hW];have hbW:Below w.heap.size w W:=by rw[hW];exact ((Below.refl _ _).alloc (lr0) _).alloc (by simp) _
 have wL:W.heap.size=w.heap.size+2:=by rw[hW];simp
 have kA:aj W w.heap.size #[.slice ta nT tc,.slice na nN nc,.slice pa P.length pc,.slice ba nb bc,.slice ka nk kc] 26:=by rw[hW];exact (aj.new w _ 26).alloc _
 have kE:aj W (w.heap.size+1) (aL (List.replicate n false)) 4:=by
  rw[hW];simpa using aj.new (w.alloc (.cells #[.slice ta nT tc,.slice na nN nc,.slice pa P.length pc,.slice ba nb bc,.slice ka nk kc] 26)) (aL (List.replicate n false)) 4
 clear hW hmk hw1
 go_loopg [4] (n+1) (fun k v wr=>∃ (b:Bool) (E:List Bool) (m:Nat),v=.bool b/\(b=true->n-bB E+1<=k)/\E.length=n/\aj wr (w.heap.size+1) (aL E) 4/\Kp (fun g=>g<W.heap.size/\g≠w.heap.size+1) W wr/\Hid (E=gq (bW P) m (List.replicate n false))/\Hid (b=false->bW P E=E))
 case atStart=>exact⟨true,_,0,rfl,fun _=>by omega,by simp,kE,Kp.refl _ _,rfl,fun h=>by cases h⟩
 case round =>
  revert wr;intro wz hrel;obtain⟨b,E,m,rfl,hbk,hlE,TR,hkz,HE,HF⟩:=hrel;have dY:aj wz w.heap.size _ 26:=eG kA hkz ⟨by omega,by omega⟩;have hsz:=hkz.size;cases b with
  | true =>
   have hk1:=hbk rfl;have z2:wz.cell? ⟨w.heap.size,2,none⟩=some (.slice pa P.length pc):=dY.cell 2;clear hbk HF;obtain⟨K0,jV⟩:∃ K0,Hid (K0=gk):=⟨gk,rfl⟩;have hk2:n-bB E+1<=K0:=by rw[jV.out];exact hk1
   clear hk1;go_wp2_with fail;have H0:Hid (bW P E=bW (P.drop 0) E):=rfl
   go_loopg [4,19] P.length (fun k v i wr=>∃ (j:Nat) (b:Bool) (F:List Bool),j+k=P.length/\v=.bool b/\i=.int .i64 j/\F.length=n/\aj wr (w.heap.size+1) (aL F) 4/\Kp (fun g=>g<W.heap.size/\g≠w.heap.size+1) W wr/\Hid ((b=false->F=E)/\(b=true->bB E<bB F)/\bB E<=bB F)/\Hid (bW P E=bW (P.drop j) F))
   case atStart=>exact⟨0,false,E,by omega,rfl,rfl,hlE,TR,hkz,⟨fun _=>rfl,(fun h=>by cases h),lr0⟩,H0⟩
   case round =>
    clear H0 TR hkz dY z2;obtain⟨j,b,F,hkj,rfl,rfl,Bq,kF,hkr,HB,HP⟩:=hrel;have hsr:=hkr.size;have hbr:Below w.heap.size w wr:=⟨hkr.os.trans hbW.os,hkr.tape.trans hbW.tape,hkr.output.trans hbW.output,by omega,fun x hx=>(hkr.block x ⟨by omega,by omega⟩).trans (hbW.block x hx)⟩
    by_cases hlt:j<P.length
    ·obtain⟨g,cap,u,hv,hu,x0,x1,x2⟩:=(hP.below hbr).at hlt
     cases hv;obtain⟨hleft,hright⟩:=hok P[j] (List.getElem_mem hlt);have hd:=HP.out;rw[List.drop_eq_getElem_cons hlt,show bW (P[j]::P.drop (j+1)) F=bW (P.drop (j+1)) (mD F P[j]) from rfl]at hd;generalize P[j]=pd at hu x0 x1 x2 hleft hright hd;obtain⟨pl,pr,pp⟩:=pd;simp only at hu x0 x1 x2 hleft hright;obtain⟨ua,uc,rfl,-⟩:=aI hu;obtain⟨W1,hW1⟩:∃ W1,W1=wr.alloc (.cells #[.int .i64 (pl:Int),.slice ua pr.length uc,.int .i64 pp] 58):=⟨_,rfl⟩;have hb1:Below wr.heap.size wr W1.drew:=by rw[hW1];exact ((Below.refl _ _).alloc (lr0) _).drew
     have hs1:W1.heap.size=wr.heap.size+1:=by rw[hW1];simp
     have kp:aj W1 wr.heap.size #[.int .i64 (pl:Int),.slice ua pr.length uc,.int .i64 pp] 58:=by rw[hW1];exact aj.new wr _ 58
     have lF:=kF.lt;have FU:aj W1.drew (w.heap.size+1) (aL F) 4:=(hb1.block _ lF).trans kF;have hk1:Kp (fun g=>g<W.heap.size/\g≠w.heap.size+1) W W1.drew:=hkr.trans (Kp.below hb1 (D:=fun g=>g<wr.heap.size) fun g hg=>hg) fun g hg=>by omega
     have p0:W1.drew.cell? ⟨wr.heap.size,0,none⟩=some (.int .i64 (pl:Int)):=kp.drew.cell 0;have p1:W1.drew.cell? ⟨wr.heap.size,1,none⟩=some (.slice ua pr.length uc):=kp.drew.cell 1;have i1:(0:Int)<=(pl:Int):=by omega
     have i2:(pl:Int)<(n:Int):=by omega
     have cE:W1.drew.cell? ⟨w.heap.size+1,pl,none⟩=some (.bool (au F pl)):=(FU.cell pl).trans (fI F (by rw[Bq];exact hleft));cases hat:au F pl with
     | true =>
      have hst:mD F ⟨pl,pr,pp⟩=F:=if_neg (by rw[show (⟨pl,pr,pp⟩:Lx.Pd).left=pl from rfl,hat];simp);rw[hst]at hd;have gJ:Hid (bW P E=bW (P.drop (j+1)) F):=hd;rw[hat]at cE;clear hd HP hst hat;go_wp2_with fail;rw[<-hW1];clear hW1 x0 x1 x2
      go_region
      all_goals
       go_wp2_with fail;go_roundg (P.length - (j+1))
       case measure=>omega
       case rel=>exact⟨j+1,b,F,by omega,rfl,by go_num,Bq,FU,hk1,HB,gJ⟩
     | false =>
      rw[hat]at cE;have hrl:∀ s∈pr,s<F.length:=fun s hs=>by rw[Bq];exact hright s hs
      have q1:=UY (w:=W1.drew) (own_below hu hb1) FU hrl;rw[Bq]at q1;have IB:=KW F pr
      by_cases hah:jQ F pr=pr.length
      ·have hst:mD F ⟨pl,pr,pp⟩=F.set pl true:=if_pos ⟨hat,hah⟩
       rw[hst]at hd;have gJ:Hid (bW P E=bW (P.drop (j+1)) (F.set pl true)):=hd;have hcs:=EL (bs:=F) (i:=pl) (by rw[Bq];exact hleft) hat;have HB2:Hid (bB E<bB (F.set pl true)):=by have:=HB.out.2.2;show _<_;omega
       rw[hah]at q1;obtain⟨W2,hW2⟩:∃ W2,W2=(W1.setCell ⟨w.heap.size+1,pl,none⟩ (.bool true)).drew:=⟨_,rfl⟩;have kF2:aj W2 (w.heap.size+1) (aL (F.set pl true)) 4:=by
        have:aj W1 (w.heap.size+1) (aL F) 4:=FU;rw[hW2,<-p9];exact (this.set pl _).drew
       have akL:Kp (fun g=>g<W.heap.size/\g≠w.heap.size+1) W W2:=by
        rw[hW2];exact⟨hk1.os,hk1.tape,hk1.output,by simpa [World.setCell]using hk1.size,fun x hx=>(hs0 hx.2).trans (hk1.block x hx)⟩
       have fE:∀ i,W1.drew.frozen? ⟨w.heap.size+1,i,none⟩=false:=FU.frozen;clear hd HP hst hat IB hcs hah;go_wp2_with fail;rw[<-hW1];clear hW1 x0 x1 x2
       go_region_held3 (fun w'=>w'.cell? ⟨wr.heap.size,0,none⟩=some (.int .i64 (pl:Int))/\w'.cell? ⟨wr.heap.size,1,none⟩=some (.slice ua pr.length uc)/\w'.cell? ⟨w.heap.size+1,pl,none⟩=some (.bool false)) (first | go_keep | assumption) ((go_at_call 71;refine q1.mono ?_;rintro e w5 ⟨rfl,oP⟩;subst oP))
       all_goals
        go_wp2_with fail;rw[<-hW2];go_roundg (P.length - (j+1))
        case measure=>omega
        case rel=>exact⟨j+1,true,F.set pl true,by omega,rfl,by go_num,by rw[List.length_set];exact Bq,kF2,akL,⟨(fun h=>by cases h),fun _=>HB2.out,Nat.le_of_lt HB2.out⟩,gJ⟩
      ·have hst:mD F ⟨pl,pr,pp⟩=F:=if_neg fun h=>hah h.2
       rw[hst]at hd;have gJ:Hid (bW P E=bW (P.drop (j+1)) F):=hd;obtain⟨an,han⟩:∃ an,an=jQ F pr:=⟨_,rfl⟩;rw[<-han]at q1 hah IB;have hne:((an:Int) == (pr.length:Int))=false:=bq0 (by omega);have hne2:¬ (an:Int)=(pr.length:Int):=by omega
       have am8:¬ an=pr.length:=hah;clear hd HP hst hat IB hah han;go_wp2_with fail;rw[<-hW1];clear hW1 x0 x1 x2
       go_region_held3 (fun w'=>w'.cell? ⟨wr.heap.size,0,none⟩=some (.int .i64 (pl:Int))/\w'.cell? ⟨wr.heap.size,1,none⟩=some (.slice ua pr.length uc)/\w'.cell? ⟨w.heap.size+1,pl,none⟩=some (.bool false)) (first | go_keep | assumption) ((go_at_call 71;refine q1.mono ?_;rintro e w5 ⟨rfl,oP⟩;subst oP))
       all_goals
        go_wp2_with fail;go_roundg (P.length - (j+1))
        case measure=>omega
        case rel=>exact⟨j+1,b,F,by omega,rfl,by go_num,Bq,FU,hk1,HB,gJ⟩
    ·have:j=P.length:=by omega
     subst this;have hd:=HP.out;rw[List.drop_length]at hd;have xQ:Hid (bW P E=F):=hd;have hcF:=Af F;have HE2:Hid (F=gq (bW P) (m+1) (List.replicate n false)):=by
      show F=bW P (gq (bW P) m (List.replicate n false));rw[<-HE.out];exact xQ.out.symm
     have TS:Hid (b=false->bW P F=F):=fun hb=>by
      have h1:=HB.out.1 hb;rw[h1];have:=xQ.out;rw[h1]at this;exact this
     have TT:Hid (b=true->n-bB F+1<=K0-1):=fun hb=>by
      have:=HB.out.2.1 hb;omega
     clear HB HP hd;go_wp2_with fail;go_roundg (K0-1)
     case measure=>have:=jV.out;omega
     case rel=>exact⟨b,F,m+1,rfl,TT.out,Bq,kF,hkr,HE2,TS⟩
  | false =>
   have AX:=HF.out rfl;have HF3:Hid (bW P E=E):=AX;clear HF AX hbk;have hbz:Below w.heap.size w wz:=⟨hkz.os.trans hbW.os,hkz.tape.trans hbW.tape,hkz.output.trans hbW.output,by omega,fun x hx=>(hkz.block x ⟨by omega,by omega⟩).trans (hbW.block x hx)⟩;go_wp2_with fail;go_ret;exact⟨_,E,m,rfl,by omega,TR,hlE,HE.out,HF3.out,hbz⟩
namespace Lx
def bV (A B:List Bool)(i:Nat):List Bool:=(List.range A.length).map fun k=>au A k || (decide (k<i) && au B k)
def pX (A B:List Bool):List Bool:=bV A B A.length
theorem lT (A B:List Bool)(i:Nat):(bV A B i).length=A.length:=by simp[bV]
theorem EW {A:List Bool}{k:Nat}(h:k<A.length):au A k=A[k]:=by simp[au,h]
theorem Ai (A B:List Bool)(i:Nat){k:Nat}(h:k<A.length):au (bV A B i) k=(au A k || (decide (k<i) && au B k)):=by
 rw[EW (by rw[lT];exact h)];simp[bV]
theorem KX (A B:List Bool):bV A B 0=A:=by
 apply List.ext_getElem
 ·simp[bV]
 ·intro k h1 h2
  simp[bV,EW h2]
theorem Am {A B:List Bool}(hl:A.length=B.length)(h:∀ k,k<A.length->au A k=au B k):A=B:=by
 apply List.ext_getElem hl;intro k h1 h2;have:=h k h1;rw[EW h1,EW h2]at this;exact this
theorem YM {A B:List Bool}{i:Nat}(hi:i<A.length)(hB:au B i=true):bV A B (i+1)=(bV A B i).set i true:=by
 refine Am (by simp[lT]) fun k hk=>?_
 rw[lT]at hk;rw[Ai A B (i+1) hk,at_set,Ai A B i hk,lT]
 by_cases e:i=k
 ·subst e;simp[hB,hi]
 ·rw[if_neg (by simp[e])]
  have:decide (k<i+1)=decide (k<i):=by simp;omega
  rw[this]
theorem Px {A B:List Bool}{i:Nat}(h:au B i=false\/au (bV A B i) i=true):bV A B (i+1)=bV A B i:=by
 refine Am (by simp[lT]) fun k hk=>?_
 rw[lT]at hk;rw[Ai A B (i+1) hk,Ai A B i hk]
 by_cases e:k=i
 ·subst e
  rcases h with h | h
  ·simp[h]
  ·rw[Ai A B k hk]at h
   simp at h;simp[h]
 ·have:decide (k<i+1)=decide (k<i):=by simp;omega
  rw[this]
theorem aiy (A:List Bool):pX A A=A:=by
 refine Am (by simp[pX,lT]) fun k hk=>?_
 unfold pX at hk |-;rw[lT]at hk;rw[Ai A A _ hk];simp
def mg (A:List Bool):List Nat:=(List.range A.length).filter fun k=>au A k
end Lx
structure mE (w:World) (gi:Nat) (A C:List Bool) (w':World):Prop where
 blk:aj w' gi (aL C) 4
 wR:∀ g,g≠gi->w'.heap[g]?=w.heap[g]?
 os:w'.os=w.os
 tape:w'.tape=w.tape
 output:w'.output=w.output
 size:w'.heap.size=w.heap.size
theorem aiz {w:World}{gi gf n:Nat}{A B:List Bool}(hne:gi≠gf)(kA:aj w gi (aL A) 4)(kB:aj w gf (aL B) 4)(hA:A.length=n)(hB:B.length=n)(hn:n<=100000):Calls prog 73 #[.slice (some ⟨gi,0,none⟩) n n,.slice (some ⟨gf,0,none⟩) n n] w fun e w'=>∃ b:Bool,e=.returned (.bool b)/\(b=true->bB A<bB (pX A B))/\(b=false->pX A B=A)/\mE w gi A (pX A B) w':=by
 go_enter func73,ntmps73;go_wp2_with fail
 go_loopg [5,10] n (fun k v i wr=>∃ (j:Nat) (b:Bool),j+k=n/\v=.bool b/\i=.int .i64 j/\mE w gi A (bV A B j) wr/\Hid ((b=true->bB A<bB (bV A B j))/\(b=false->bV A B j=A)/\bB A<=bB (bV A B j)))
 case atStart=>exact⟨0,false,by omega,rfl,rfl,⟨by rw[KX];exact kA,fun _ _=>rfl,rfl,rfl,rfl,rfl⟩,⟨(fun h=>by cases h),fun _=>KX A B,by rw[KX];exact lr0⟩⟩
 case round =>
  obtain⟨j,b,hk,rfl,rfl,⟨hb,ho,h1,h2,h3,h4⟩,HB⟩:=hrel
  by_cases hlt:j<n
  ·have jw:aj wr gf (aL B) 4:=(ho gf (fun e=>hne e.symm)).trans kB
   have cB:wr.cell? ⟨gf,j,none⟩=some (.bool (au B j)):=(jw.cell j).trans (fI B (by omega));have cA:wr.cell? ⟨gi,j,none⟩=some (.bool (au (bV A B j) j)):=(hb.cell j).trans (fI _ (by rw[lT];omega));have fA:∀ i,wr.frozen? ⟨gi,i,none⟩=false:=hb.frozen;have hJ:=hb.set j (.bool true);rw[p9]at hJ;cases haB:au B j with
   | false =>
    have hke:=Px (A:=A) (B:=B) (i:=j) (.inl haB);rw[haB]at cB;have HK:Hid (bV A B (j+1)=bV A B j):=hke;clear hke haB hJ;go_wp2_with fail;go_roundg (n - (j+1))
    case measure=>omega
    case rel=>exact⟨j+1,b,by omega,rfl,by go_num,by rw[HK.out];exact⟨hb,ho,h1,h2,h3,h4⟩,by rw[HK.out];exact HB⟩
   | true =>
    rw[haB]at cB;cases FV:au (bV A B j) j with
    | true =>
     have hke:=Px (A:=A) (B:=B) (i:=j) (.inr FV);rw[FV]at cA;have HK:Hid (bV A B (j+1)=bV A B j):=hke;clear hke haB FV hJ;go_wp2_with fail;go_roundg (n - (j+1))
     case measure=>omega
     case rel=>exact⟨j+1,b,by omega,rfl,by go_num,by rw[HK.out];exact⟨hb,ho,h1,h2,h3,h4⟩,by rw[HK.out];exact HB⟩
    | false =>
     have Br:=YM (A:=A) (B:=B) (i:=j) (by omega) haB;have hcs:=EL (bs:=bV A B j) (i:=j) (by rw[lT];omega) FV;rw[FV]at cA;have HK:Hid (bV A B (j+1)=(bV A B j).set j true):=Br;have HC:Hid (bB A<bB ((bV A B j).set j true)):=by have:=HB.out.2.2;show _<_;omega
     clear Br haB FV hcs;go_wp2_with fail;go_roundg (n - (j+1))
     case measure=>omega
     case rel=>exact⟨j+1,true,by omega,rfl,by go_num,by rw[HK.out];exact⟨hJ,fun g hg=>(hs0 hg).trans (ho g hg),h1,h2,h3,by simpa [World.setCell]using h4⟩,by rw[HK.out];exact⟨fun _=>HC.out,(fun h=>by cases h),Nat.le_of_lt HC.out⟩⟩
  ·have:j=n:=by omega
   subst this;have e1:bV A B j=pX A B:=by unfold pX;rw[hA]
   rw[e1]at hb HB;have HF:Hid ((b=true->bB A<bB (pX A B))/\(b=false->pX A B=A)):=⟨HB.out.1,HB.out.2.1⟩;clear HB e1;go_wp2_with fail;go_ret;exact⟨b,rfl,HF.out.1,HF.out.2,hb,ho,h1,h2,h3,h4⟩
theorem join_self {w:World}{gi n:Nat}{A:List Bool}(kA:aj w gi (aL A) 4)(hA:A.length=n)(hn:n<=100000):Calls prog 73 #[.slice (some ⟨gi,0,none⟩) n n,.slice (some ⟨gi,0,none⟩) n n] w fun e w'=>e=.returned (.bool false)/\w'=w:=by
 go_enter func73,ntmps73;go_wp2_with fail
 go_loopg [5,10] n (fun k v i wr=>∃ j:Nat,j+k=n/\v=.bool false/\i=.int .i64 j/\wr=w)
 case atStart=>exact⟨0,by omega,rfl,rfl,rfl⟩
 case round =>
  obtain⟨j,hk,rfl,rfl,DK⟩:=hrel;subst DK
  by_cases hlt:j<n
  ·have cA:wr.cell? ⟨gi,j,none⟩=some (.bool (au A j)):=(kA.cell j).trans (fI A (by omega))
   cases hat:au A j with
   | true =>
    rw[hat]at cA;clear hat;go_wp2_with fail;go_roundg (n - (j+1))
    case measure=>omega
    case rel=>exact⟨j+1,by omega,rfl,by go_num,rfl⟩
   | false =>
    rw[hat]at cA;clear hat;go_wp2_with fail;go_roundg (n - (j+1))
    case measure=>omega
    case rel=>exact⟨j+1,by omega,rfl,by go_num,rfl⟩
  ·go_wp2_with fail
   go_ret;exact⟨rfl,rfl⟩
theorem afN {w:World}{g n:Nat}{A:List Bool}(kA:aj w g (aL A) 4)(hA:A.length=n)(hn:n<=100000):Calls prog 74 #[.slice (some ⟨g,0,none⟩) n n] w fun e w'=>∃ u,e=.returned u/\IR w.heap.size w' u (mg A)/\Below w.heap.size w w':=by
 obtain⟨i0,hii,hz0,hz1,hz2⟩:=info_parts Tryz.info3;go_enter func74,ntmps74;go_wp2_with fail
 go_loopg [3,8] n (fun k v i wr=>∃ (j:Nat) (acc:List Nat),j+k=n/\i=.int .i64 j/\IR w.heap.size wr v acc/\Below w.heap.size w wr/\acc.length<=j/\Hid (acc=(List.range j).filter fun k=>au A k))
 case atStart=>exact⟨0,[],by omega,rfl,World.ownsRow_nil _ _ _ _,Below.refl _ _,by simp,rfl⟩
 case round =>
  obtain⟨j,acc,hk,rfl,ho,hb,hal,HA⟩:=hrel;obtain⟨oa,oc,rfl,-⟩:=aI ho;have hs:=hb.size
  by_cases hlt:j<n
  ·have NP:aj wr g (aL A) 4:=(hb.block g kA.lt).trans kA
   have cA:wr.cell? ⟨g,j,none⟩=some (.bool (au A j)):=(NP.cell j).trans (fI A (by omega));have hst:(List.range (j+1)).filter (fun k=>au A k)=(List.range j).filter (fun k=>au A k)++(if au A j=true then [j] else []):=by
    rw[List.range_succ,List.filter_append];simp[List.filter_cons]
   cases hat:au A j with
   | true =>
    rw[hat]at cA hst;have HA2:Hid (acc++[j]=(List.range (j+1)).filter fun k=>au A k):=by show _=_;rw[hst,<-HA.out];rfl
    have oA:=ho.alloc (.cells #[.int .i64 (j:Int)] 3);clear hat hst
    go_wp2_with (at_builtin;go_loud (refine wpList_append_own_at _ rfl _ _ 24 rfl w.heap.size 3 i0 _ 1 8 underlying24 hii hz0 hz1 hz2 rfl (by decide) (.slice oa acc.length oc) _ _ rfl oA ⟨_,0,none⟩ 1 1 [.int .i64 (j:Int)] rfl rfl (bP (aj.new _ _ 3)) (by simp[Value.oneCell']) (by unfold maxLen;omega) (by omega) (by simp;omega) ?_;intro v5 w5 hown5 bf _ jT;obtain⟨dL,dM,hv5,-⟩:=aI hown5;subst hv5))
    have hb5:Below w.heap.size w w5:=(hb.alloc hs _).grown bf (by simp;omega) (fun k hk=>(ho.lt k hk).1);go_roundg (n - (j+1))
    case measure=>omega
    case rel=>exact⟨j+1,acc++[j],by omega,by go_num,by unfold IR;rw[List.length_append,yE];exact hown5,hb5,by simp;omega,HA2⟩
   | false =>
    rw[hat]at cA hst;have HA2:Hid (acc=(List.range (j+1)).filter fun k=>au A k):=by show _=_;rw[hst,<-HA.out];simp
    clear hat hst;go_wp2_with fail;go_roundg (n - (j+1))
    case measure=>omega
    case rel=>exact⟨j+1,acc,by omega,by go_num,ho,hb,by omega,HA2⟩
  ·have:j=n:=by omega
   subst this;have HA2:Hid (acc=mg A):=by show _=_;rw[HA.out];unfold mg;rw[hA]
   clear HA;go_wp2_with fail;go_ret;exact⟨_,rfl,by rw[<-HA2.out];exact ho,hb⟩
end Go.Proofs.YtlcppnabbicmoaaGreatDoor

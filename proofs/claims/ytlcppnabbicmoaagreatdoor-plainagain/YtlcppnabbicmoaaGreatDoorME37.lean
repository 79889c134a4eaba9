import Derived.Test.YtlcppnabbicmoaaGreatDoorME32
import Derived.BigQuiet
set_option maxHeartbeats 8000000
set_option maxRecDepth 1000000
namespace Go.Proofs.YtlcppnabbicmoaaGreatDoor
open Go.RowKit
open Tr
namespace Lx
theorem toksW_drop_no {x:Wd}{ws:List Wd}(h:x.1=1∨x.1=2):toksW (x::ws)=toksW ws:=by unfold toksW;rw[List.filter_cons_of_neg];rcases h with h | h <;> simp[h]
theorem toksW_drop {x:Wd}{ws:List Wd}(h1:¬ x.1=1)(h2:¬ x.1=2):toksW (x::ws)=x.2.1::toksW ws:=by unfold toksW;rw[List.filter_cons_of_pos (by simp[h1,h2])];rfl
end Lx
structure TokP (w:World) (mb S:Nat) (cs:Array Value) (T:List ByteArray) (w':World):Prop where
 ex:∃ vT,Blk w' mb (cs.setIfInBounds 0 vT) 125/\w'.ownsRow w.heap.size 9 1 vT T.length (T.map Value.string)
 sm:SMap w' S (Lx.tokN T)
 kp:Kp (fun g=>g<w.heap.size/\g≠mb/\g≠S) w w'
theorem addTokens_any {w:World} {mb S:Nat} {vH vW:Value} {ws:List Lx.Wd} (kM:Blk w mb #[.slice none 0 0,.slice none 0 0,.slice none 0 0,.slice none 0 0,.slice none 0 0,.map (some S),vH] 125) (hS:SMap w S (fun _=>0)) (hWR:WR w vW ws) (hWb:∀ g,vW.ownBlock=some g->g≠mb/\g≠S) (hsz:∀ x∈ws,x.2.1.size<=2000) (hnd:∀ x∈ws,¬ x.1=1->¬ x.1=2->x.2.1≠Lx.tDollar) (hl:ws.length<=100000) :
  Calls Tryz.prog 55 #[.pointer (some ⟨mb,0,none⟩),vW] w fun e w'=>e=.returned (.tuple #[])/\TokP w mb S #[.slice none 0 0,.slice none 0 0,.slice none 0 0,.slice none 0 0,.slice none 0 0,.map (some S),vH] (Lx.addToks [Lx.tDollar] (Lx.toksW ws)) w':=by
 obtain⟨i9,hi9,hz90,hz91,hz92⟩:=info_parts Tryz.info9;obtain⟨a,c,rfl,-⟩:=hWR.len;have lm:=kM.lt;have lS:=hS.lt;have hmS:mb≠S:=fun e=>by
  obtain⟨es,clock,h1,-⟩:=hS;unfold Blk at kM;rw[e,h1]at kM;cases kM
 have m0:w.cell? ⟨mb,0,none⟩=some (.slice none 0 0):=kM.cell 0;have f0:∀ i,w.frozen? ⟨mb,i,none⟩=false:=kM.frozen;go_enter Tryz.func55,Tryz.ntmps55;go_wp2_with fail;obtain⟨W,hW⟩:∃ W,W=(w.setCell ⟨mb,0,none⟩ (.slice (some ⟨w.heap.size,0,none⟩) 1 1)).alloc (.cells #[.string Lx.tDollar] 9):=⟨_,rfl⟩;have eW:(w.setCell ⟨mb,0,none⟩ (.slice (some ⟨w.heap.size,0,none⟩) 1 1)).alloc (.cells #[.string { data:=#[36] }] 9)=W:=hW.symm;rw[eW];clear eW;have kW:Blk W mb #[.slice (some ⟨w.heap.size,0,none⟩) 1 1,.slice none 0 0,.slice none 0 0,.slice none 0 0,.slice none 0 0,.map (some S),vH] 125:=by rw[hW];exact (kM.set 0 _).alloc _
 have kN:Blk W w.heap.size #[.string Lx.tDollar] 9:=by
  have:=Blk.new (w.setCell ⟨mb,0,none⟩ (.slice (some ⟨w.heap.size,0,none⟩) 1 1)) #[.string Lx.tDollar] 9;rw[hW];simpa [World.setCell]using this
 have oW:W.ownsRow w.heap.size 9 1 (.slice (some ⟨w.heap.size,0,none⟩) 1 1) 1 [.string Lx.tDollar]:=⟨rfl,.inr ⟨w.heap.size,1,#[.string Lx.tDollar],rfl,Nat.le_refl _,kN,Nat.le_refl _,by decide,rfl,rfl⟩⟩;have hkW:Kp (fun g=>g<w.heap.size/\g≠mb) w W:=⟨by rw[hW];rfl,by rw[hW];rfl,by rw[hW];rfl,by rw[hW];simp[World.setCell],fun g hg=>by rw[hW,Below.heap_alloc _ _ _ (by simp[World.setCell];exact hg.1),Below.heap_setCell _ _ _ _ hg.2]⟩;have hSW:SMap W S (Lx.tokN [Lx.tDollar]):=by rw[Lx.tokN_one];exact hS.move (hkW.block S ⟨lS,fun e=>hmS e.symm⟩)
 have hkW2:Kp (fun g=>g<w.heap.size/\g≠mb/\g≠S) w W:=⟨hkW.os,hkW.tape,hkW.output,hkW.size,fun g hg=>hkW.block g ⟨hg.1,hg.2.1⟩⟩;have H0:Hid (Lx.addToks [Lx.tDollar] (Lx.toksW ws)=Lx.addToks [Lx.tDollar] (Lx.toksW (ws.drop 0))):=rfl;clear hW hkW kN m0 f0
 go_loopg [13] ws.length (fun k i wr=>∃ (j:Nat) (T:List ByteArray) (vT:Value),j+k=ws.length/\i=.int .i64 j/\T.length<=j+1/\(∃ T',T=Lx.tDollar::T')/\Blk wr mb #[vT,.slice none 0 0,.slice none 0 0,.slice none 0 0,.slice none 0 0,.map (some S),vH] 125/\wr.ownsRow w.heap.size 9 1 vT T.length (T.map Value.string)/\SMap wr S (Lx.tokN T)/\Kp (fun g=>g<w.heap.size/\g≠mb/\g≠S) w wr/\Hid (Lx.addToks [Lx.tDollar] (Lx.toksW ws)=Lx.addToks T (Lx.toksW (ws.drop j))))
 case atStart=>exact⟨0,[Lx.tDollar],_,by omega,rfl,by simp,⟨[],rfl⟩,kW,oW,hSW,hkW2,H0⟩
 case round =>
  clear H0 hSW hkW2 oW kW;obtain⟨j,T,vT,hk,rfl,hTl,hT',kr,or_,hM,hkr,HD⟩:=hrel;have hsr:=hkr.size;obtain⟨ta,tc,rfl,-⟩:=own_len or_
  by_cases hlt:j<ws.length
  ·have hwr:WR wr _ ws:=hWR.move fun g hg=>hkr.block g ⟨(hWR.lt g hg).2,hWb g hg⟩
   obtain⟨g,cap,hv,lg,c0,c1,c2⟩:=hwr.at hlt;cases hv;have hd:=HD.out;rw[List.drop_eq_getElem_cons hlt]at hd;have hszj:=hsz ws[j] (List.getElem_mem hlt);have hndj:=hnd ws[j] (List.getElem_mem hlt);generalize ws[j]=x at c0 c1 c2 hd hszj hndj;obtain⟨ro,tx,at_⟩:=x;simp only at c0 c1 c2 hd hszj hndj;obtain⟨W1,hW1⟩:∃ W1,W1=wr.alloc (.cells #[.int .i64 (ro:Int),.string tx,.int .i64 (at_:Int)] 116):=⟨_,rfl⟩;have hb1:Below wr.heap.size wr W1:=by rw[hW1];exact (Below.refl _ _).alloc (Nat.le_refl _) _
   have hs1:W1.heap.size=wr.heap.size+1:=by rw[hW1];simp
   have kx:Blk W1 wr.heap.size #[.int .i64 (ro:Int),.string tx,.int .i64 (at_:Int)] 116:=by rw[hW1];exact Blk.new wr _ 116
   have lSr:=hM.lt;have lmr:=kr.lt;have hM1:SMap W1 S (Lx.tokN T):=hM.move (hb1.block _ lSr);have k1:Blk W1 mb _ 125:=(hb1.block _ lmr).trans kr;have o1:=own_below or_ hb1;have hk1:Kp (fun g=>g<w.heap.size/\g≠mb/\g≠S) w W1:=hkr.trans (Kp.below hb1 (D:=fun g=>g<wr.heap.size) fun g hg=>hg) fun g hg=>Nat.lt_of_lt_of_le hg.1 hsr
   by_cases hro:ro=1∨ro=2
   ·rw[Lx.toksW_drop_no hro]at hd
    have HD2:Hid _:=hd;clear hd HD;rcases hro with hro | hro
    have hq1:((ro:Int) == 1)=true:=by simp[hro]
    clear hro
    rotate_left
    have hq1:((ro:Int) == 1)=false:=beq_eq_false_iff_ne.2 (by omega);have hq2:((ro:Int) == 2)=true:=by simp[hro]
    clear hro
    all_goals
     go_wp2_with fail;rw[<-hW1];go_roundg (ws.length - (j+1))
     case measure=>omega
     case rel=>exact⟨j+1,T,_,by omega,by go_num,by omega,hT',k1,o1,hM1,hk1,HD2⟩
   ·have hn1:¬ ro=1:=fun e=>hro (.inl e)
    have hn2:¬ ro=2:=fun e=>hro (.inr e)
    have hq1:((ro:Int) == 1)=false:=beq_eq_false_iff_ne.2 (by omega);have hq2:((ro:Int) == 2)=false:=beq_eq_false_iff_ne.2 (by omega);rw[Lx.toksW_drop hn1 hn2]at hd;have hnt:=hndj hn1 hn2;have hM1d:SMap W1.drew S (Lx.tokN T):=hM1.move rfl;have hl1:=hM1d.look tx;have x1:W1.drew.cell? ⟨wr.heap.size,1,none⟩=some (.string tx):=kx.drew.cell 1;have m5:W1.drew.cell? ⟨mb,5,none⟩=some (.map (some S)):=k1.drew.cell 5;have hk1d:Kp (fun g=>g<w.heap.size/\g≠mb/\g≠S) w W1.drew:=⟨hk1.os,hk1.tape,hk1.output,hk1.size,hk1.block⟩;clear hndj hro hn1 hn2;obtain⟨T',hT'⟩:=hT'
    by_cases h0:Lx.tokN T tx=0
    ·have hf:¬ 0<=Lx.fnd T tx:=by
      rw[hT']at h0 ⊢;exact (Lx.tokN_zero hnt).1 h0
     have HD2:Hid (Lx.addToks [Lx.tDollar] (Lx.toksW ws)=Lx.addToks (T++[tx]) (Lx.toksW (ws.drop (j+1)))):=by
      rw[show Lx.addToks T (tx::Lx.toksW (ws.drop (j+1)))=Lx.addToks (Lx.addTok T tx) (Lx.toksW (ws.drop (j+1))) from rfl,show Lx.addTok T tx=T++[tx] from if_neg hf]at hd;exact hd
     rw[h0]at hl1;have hMdd:SMap W1.drew.drew S (Lx.tokN T):=hM1.move rfl;obtain⟨w2,hu,hM2,hg2,hs2⟩:=hMdd.put tx (T.length:Int);rw[Lx.tokN_put hf]at hM2;have kdd:Blk W1.drew.drew mb _ 125:=k1.drew.drew;have kxd:Blk W1.drew.drew wr.heap.size _ 116:=kx.drew.drew;have d0:W1.drew.drew.cell? ⟨mb,0,none⟩=some (.slice ta T.length tc):=kdd.cell 0;have d5:W1.drew.drew.cell? ⟨mb,5,none⟩=some (.map (some S)):=kdd.cell 5;have dx:W1.drew.drew.cell? ⟨wr.heap.size,1,none⟩=some (.string tx):=kxd.cell 1;have k2:Blk w2 mb _ 125:=kdd.grown hg2 (fun e=>hmS (Option.some.inj e));have kx2:Blk w2 wr.heap.size _ 116:=kxd.grown hg2 (fun e=>by have:=Option.some.inj e;omega);have o2:w2.ownsRow w.heap.size 9 1 (.slice ta T.length tc) T.length (T.map Value.string):=own_move (own_move (w':=W1.drew.drew) o1 fun _ _=>rfl) fun g hg=>hg2.block g (o1.lt g hg).2 (fun e=>by have:=(o1.lt g hg).1;have:=Option.some.inj e;omega)
     have hk2:Kp (fun g=>g<w.heap.size/\g≠mb/\g≠S) w w2:=⟨hg2.os.trans hk1.os,hg2.tape.trans hk1.tape,hg2.output.trans hk1.output,by rw[hs2];exact hk1.size,fun g hg=>(hg2.block g (Nat.lt_of_lt_of_le hg.1 hk1.size) (fun e=>hg.2.2 (Option.some.inj e))).trans (hk1.block g hg)⟩;have hs2':w2.heap.size=wr.heap.size+1:=hs2.trans hs1;have hg2':=hg2;have HT:Hid (∃ T',T++[tx]=Lx.tDollar::T'):=⟨T'++[tx],by rw[hT'];rfl⟩;clear hd HD hf hnt h0 hM1 hM1d hMdd hg2 hs2 hk1d hT';go_wp2_with fail;rw[<-hW1];clear hW1 c0 c1 c2
     go_region
     all_goals
      go_wp2_with fail
      go_region
     all_goals
      clear hl1 hu d0 d5 dx m5 x1;have qC:=Clone_any tx w2.drew hszj;have lm2:=k2.lt;have e0:w2.drew.cell? ⟨mb,0,none⟩=some (.slice ta T.length tc):=k2.drew.cell 0;have ex:w2.drew.cell? ⟨wr.heap.size,1,none⟩=some (.string tx):=kx2.drew.cell 1;go_wp2_with fail
      go_region_law (first | (refine step_call rfl 99 #[.string tx] (by go_simp) qC ?_;rintro e w3 ⟨rfl,hb3⟩;have k3:Blk w3 mb _ 125:=(hb3.block mb lm2).trans k2;have o3:=own_below (own_move (w':=w2.drew) o2 fun _ _=>rfl) hb3;have oA:=o3.alloc (.cells #[.string tx] 9);have e3:w3.cell? ⟨mb,0,none⟩=some (.slice ta T.length tc):=k3.cell 0;have lm3:=k3.lt;have ls3:w.heap.size<=w3.heap.size:=Nat.le_trans hk2.size hb3.size;refine⟨_,rfl,?_⟩) | (refine step_append_lies _ rfl (.tmp 50) (.tmp 54) 22 rfl w.heap.size 9 i9 _ 1 16 Tryz.underlying22 hi9 hz90 hz91 hz92 rfl (by decide) (.slice ta T.length tc) T.length (T.map Value.string) (by simp[Act.eval]) oA ⟨w3.heap.size,0,none⟩ 1 1 [.string tx] (by simp[Act.eval]) rfl (news_of (Blk.new w3 _ 9)) (by simp[Value.oneCell']) (by decide) (by unfold maxLen;omega) (by omega) (by simp;omega) _ rfl ?_;intro g4 cap4 w4 hown4 hgrow4 hat4 hlt4;have k4:=(k3.alloc (.cells #[.string tx] 9)).grown hgrow4 (fun e=>by have:=(o2.lt mb e.symm).1;omega);have c40:w4.cell? ⟨mb,0,none⟩=some (.slice ta T.length tc):=k4.cell 0;have f4:∀ i,w4.frozen? ⟨mb,i,none⟩=false:=k4.frozen))
     all_goals
      have hbA:∀ g,g<w2.heap.size->g≠mb->g<w.heap.size->(w4.setCell ⟨mb,0,none⟩ (.slice (some ⟨g4,0,none⟩) (T.length+1) cap4)).heap[g]?=w2.heap[g]?:=fun g hg hm hlo=>by
       rw[Below.heap_setCell _ _ _ _ hm,hgrow4.block g (by have:=hb3.size;have:g<w3.heap.size:=Nat.lt_of_lt_of_le hg this;simp;omega) (fun e=>by have:=(o2.lt g e.symm).1;omega),Below.heap_alloc _ _ _ (Nat.lt_of_lt_of_le hg hb3.size),hb3.block g hg];rfl
      have o5:(w4.setCell ⟨mb,0,none⟩ (.slice (some ⟨g4,0,none⟩) (T.length+1) cap4)).ownsRow w.heap.size 9 1 (.slice (some ⟨g4,0,none⟩) (T.length+1) cap4) (T++[tx]).length ((T++[tx]).map Value.string):=by
       rw[List.length_append,List.map_append];exact own_move hown4 fun g hg=>Below.heap_setCell _ _ _ _ (fun e=>by have:=(hown4.lt g hg).1;have e':g=mb:=e;omega)
      have hs5:w2.heap.size<=(w4.setCell ⟨mb,0,none⟩ (.slice (some ⟨g4,0,none⟩) (T.length+1) cap4)).heap.size:=by
       have h1:=hb3.size;have h2:=hgrow4.size;simp[World.setCell]at h1 h2 ⊢;omega
      have lS2:S<w2.heap.size:=by omega
      have hM5:SMap (w4.setCell ⟨mb,0,none⟩ (.slice (some ⟨g4,0,none⟩) (T.length+1) cap4)) S (Lx.tokN (T++[tx])):=hM2.move (hbA S lS2 (fun e=>hmS e.symm) lS);have hk5:Kp (fun g=>g<w.heap.size/\g≠mb/\g≠S) w (w4.setCell ⟨mb,0,none⟩ (.slice (some ⟨g4,0,none⟩) (T.length+1) cap4)):=⟨hgrow4.os.trans (hb3.os.trans hk2.os),hgrow4.tape.trans (hb3.tape.trans hk2.tape),hgrow4.output.trans (hb3.output.trans hk2.output),Nat.le_trans hk2.size hs5,fun g hg=>(hbA g (Nat.lt_of_lt_of_le hg.1 hk2.size) hg.2.1 hg.1).trans (hk2.block g hg)⟩;have k5:=k4.set 0 (.slice (some ⟨g4,0,none⟩) (T.length+1) cap4);clear k4 c40 f4 hgrow4 hown4 hat4 hlt4 o3 oA e3 hb3 k3 qC e0 ex hbA hs5;go_wp2_with fail;go_roundg (ws.length - (j+1))
      case measure=>omega
      case rel=>exact⟨j+1,T++[tx],_,by omega,by go_num,by simp;omega,HT.out,k5,o5,hM5,hk5,HD2⟩
    ·have hf:0<=Lx.fnd T tx:=by
      apply Decidable.byContradiction;intro hn;rw[hT']at h0 hn;exact h0 ((Lx.tokN_zero hnt).2 hn)
     have HD2:Hid (Lx.addToks [Lx.tDollar] (Lx.toksW ws)=Lx.addToks T (Lx.toksW (ws.drop (j+1)))):=by
      rw[show Lx.addToks T (tx::Lx.toksW (ws.drop (j+1)))=Lx.addToks (Lx.addTok T tx) (Lx.toksW (ws.drop (j+1))) from rfl,show Lx.addTok T tx=T from if_pos hf]at hd;exact hd
     clear hd HD hf hnt;generalize hn:Lx.tokN T tx=n at hl1 h0;have hnb:(n == 0)=false:=beq_eq_false_iff_ne.2 h0;go_wp2_with fail;rw[<-hW1];clear hW1 c0 c1 c2
     go_region
     all_goals
      go_wp2_with fail;go_roundg (ws.length - (j+1))
      case measure=>omega
      case rel=>exact⟨j+1,T,_,by omega,by go_num,by omega,⟨T',hT'⟩,k1.drew,own_move o1 fun _ _=>rfl,hM1d,hk1d,HD2⟩
  ·have:j=ws.length:=by omega
   subst this;have hd:=HD.out;rw[List.drop_length]at hd;have HD2:Hid (Lx.addToks [Lx.tDollar] (Lx.toksW ws)=T):=hd;clear hd HD;go_wp2_with fail
   go_end0
   refine⟨rfl,?_⟩;rw[HD2.out];exact⟨⟨_,kr,or_⟩,hM,hkr⟩
end Go.Proofs.YtlcppnabbicmoaaGreatDoor

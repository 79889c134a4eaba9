import Derived.Test.YtlcppnabbicmoaaGreatDoorME34
import Derived.BigQuiet
import Derived.Deep.RegionHeld3
set_option maxHeartbeats 8000000
set_option maxRecDepth 1000000
namespace Go.Proofs.YtlcppnabbicmoaaGreatDoor
open Go.RowKit
open Tr
theorem ItQ.move {w w':World}{F G:Nat->Prop}{fS:ByteArray->Int}{fH:Addr->Int}{T N:List ByteArray}{b:Nat}{Hs:List Lx.It}{p:AI}(h:ItQ w F G fS fH T N b Hs p)(hk:∀ b,F b->w'.heap[b]?=w.heap[b]?)(hn:F p.1.block):ItQ w' F G fS fH T N b Hs p:=by
 obtain⟨h1,h2,h3,h4,n,m,d,va,e1,e2,e3,e4⟩:=h;have hn':F n:=by rw[e1]at hn;exact hn
 exact⟨h1,h2,h3,h4,n,m,d,va,e1,(World.cell?_of_block (w:=w) (hk n hn')).trans e2,AltsIn.move hk (fun _ h=>h) e3,fun q hq=>e4 q (by rw[<-adA_same e3 hk];exact hq)⟩
namespace Lx
theorem rulesPd_snoc (T N:List ByteArray):∀ (l:List Rl) (b:Nat) (r:Rl),rulesPd T N b (l++[r])=rulesPd T N b l++rulePd T N (b+(l.flatMap namesR).length) r
 | [],b,r=>by simp[rulesPd]
 | y::l,b,r=>by
  rw[List.cons_append,rulesPd,rulesPd_snoc T N l,rulesPd,List.append_assoc,List.flatMap_cons,List.length_append,namesR_len,show b+1+(hlpA 9 y.alts).length+(l.flatMap namesR).length=b+(1+(hlpA 9 y.alts).length+(l.flatMap namesR).length) by omega]
theorem rulesPd_take (T N:List ByteArray)(n:Nat){rs:List Rl}{j:Nat}(hj:j<rs.length):rulesPd T N (n+1) (rs.take (j+1))=rulesPd T N (n+1) (rs.take j)++rulePd T N (n+(nms (rs.take j)).length) rs[j]:=by
 rw[List.take_succ_eq_append_getElem hj,rulesPd_snoc];unfold nms;rw[List.length_cons,show n+1+((rs.take j).flatMap namesR).length=n+(((rs.take j).flatMap namesR).length+1) by omega]
theorem pd0 (n:Nat):pdOf n n [n+1]=⟨n,[n+1],-1⟩:=by
 unfold pdOf precOf;simp;omega
end Lx
structure RuleQ (w:World) (F G:Nat->Prop) (fS:ByteArray->Int) (fH:Addr->Int) (T N:List ByteArray) (va:Value) (r:Lx.Rl) (b:Nat):Prop where
 left:fS r.name=(b:Int)
 its:∀ p∈adA 9 w va r.alts,F p.1.block/\ItQ w F G fS fH T N b (Lx.hlpA 9 r.alts) p
 sym:∀ p∈adA 9 w va r.alts,symP fS fH p=(Lx.symOf T N b (Lx.hlpA 9 r.alts) p.2:Int)
 hel:∀ k p,(hlA w va r.alts)[k]?=some p->fH p.1=((b+1+k:Nat):Int)
 prec:∀ a∈r.alts,a.2.1≠Lx.noText->fS a.2.1=(Lx.fix T a.2.1:Int)
 len:r.alts.length<=10000
 lens:∀ a∈r.alts,a.1.length<=10000
 hl:(hlA w va r.alts).length<=100000
 pl:(Lx.rulePd T N b r).length<=10000000
theorem addProds_any {D F G:Nat->Prop} {w:World} {mb S H:Nat} {ta:Option Addr} {tc:Nat} {vN vB vK vR:Value} {fS:ByteArray->Int} {fH:Addr->Int} {T N:List ByteArray} {rs:List Lx.Rl} (h:Mp D G w mb S H ta T.length tc vN vB vK fS fH []) (hRw:PGr F w vR rs) (hF:∀ b,F b->D b) (hQ:∀ i (hi:i<rs.length),RuleQ w F G fS fH T N (cv w ⟨blkOf vR,i*2+1,none⟩) rs[i] (T.length+(Lx.nms (rs.take i)).length)) (hne:0<rs.length) (hrl:rs.length<=10000) :
  Calls Tryz.prog 58 #[.pointer (some ⟨mb,0,none⟩),vR] w fun e w'=>e=.returned (.tuple #[])/\PutP D G w mb S H ta T.length tc vN vB vK fS fH (⟨T.length,[T.length+1],-1⟩::Lx.rulesPd T N (T.length+1) rs) w':=by
 obtain⟨a,c,rfl,hm⟩:=hRw.len;unfold maxLen at hm;obtain⟨gR,capR,va0,hv,hFg,-,r0,-⟩:=hRw.at hne;cases hv;have e0:fS rs[0].name=((T.length+1:Nat):Int):=(hQ 0 hne).left;obtain⟨n1,hn1⟩:∃ n1,n1=T.length+1:=⟨_,rfl⟩;rw[<-hn1]at e0;have HN1:Hid (n1=T.length+1):=hn1;clear hn1;have hl0:=SMap.look (w:=w.drew) (h.sm.move rfl) rs[0].name;rw[e0]at hl0;rw[Nat.zero_mul]at r0;obtain⟨m0,m5,m6⟩:=h.cells;have lgR:gR<w.heap.size:=hRw.lt gR hFg;obtain⟨W,hW⟩:∃ W,W=(w.alloc (.cells #[.int .i64 (n1:Int)] 3)).drew:=⟨_,rfl⟩;have hbW:Below w.heap.size w W:=by rw[hW];exact ((Below.refl _ _).alloc (Nat.le_refl _) _).drew
 have hMW:=h.below hbW;have kW:Blk W w.heap.size #[.int .i64 (n1:Int)] 3:=by rw[hW];exact (Blk.new w _ 3).drew
 have oW:IR 0 W (.slice (some ⟨w.heap.size,0,none⟩) 1 1) [n1]:=⟨rfl,.inr ⟨w.heap.size,1,_,rfl,Nat.zero_le _,kW,Nat.le_refl _,by decide,rfl,rfl⟩⟩;have q0:=pput_any hMW T.length _ [n1] oW (by simp) (by simp);rw[hW]at q0;generalize rs[0].name=nm0 at hl0 r0;have d0:w.drew.cell? ⟨mb,0,none⟩=some (.slice ta T.length tc):=m0;have d5:w.drew.cell? ⟨mb,5,none⟩=some (.map (some S)):=m5;have dr:w.drew.cell? ⟨gR,0,none⟩=some (.string nm0):=r0;have x1:=World.new_ne w ⟨mb,0,none⟩ m0;have x2:=World.new_ne w ⟨gR,0,none⟩ r0;have x3:0<rs.length:=hne;clear e0;go_enter Tryz.func58,Tryz.ntmps58;go_wp2_with fail
 go_region_held3 (fun w'=>w'.cell? ⟨mb,0,none⟩=some (.slice ta T.length tc)/\w'.cell? ⟨mb,5,none⟩=some (.map (some S))/\w'.cell? ⟨gR,0,none⟩=some (.string nm0)) (first | go_keep | assumption) ((go_at_call 104;refine q0.mono ?_;rintro e w1 ⟨rfl,E1,hE1,hM1,hk1⟩;have S1:w1.cell? ⟨mb,0,none⟩=some (.slice ta T.length tc)/\w1.cell? ⟨mb,5,none⟩=some (.map (some S))/\w1.cell? ⟨gR,0,none⟩=some (.string nm0):=⟨hM1.cells.1,hM1.cells.2.1,(World.cell?_of_block (w:=w) ((hk1.block gR (hF gR hFg)).trans (by rw[<-hW];exact hbW.block gR lgR))).trans r0⟩))
 have hM1':Mp E1 G w1 mb S H ta T.length tc vN vB vK fS fH (⟨T.length,[T.length+1],-1⟩::Lx.rulesPd T N (T.length+1) (rs.take 0)):=by
  have e:(⟨T.length,[T.length+1],-1⟩::Lx.rulesPd T N (T.length+1) (rs.take 0):List Lx.Pd)=[]++[Lx.pdOf T.length T.length [n1]]:=by rw[HN1.out,Lx.pd0];simp[Lx.rulesPd]
  rw[e];exact hM1
 have hkw1:Kp D w w1:=(Kp.below hbW h.lt).trans (by rw[hW];exact hk1) fun g hg=>hg
 clear hl0 q0 oW kW hMW hM1 hk1 hW hbW d0 d5 dr x1 x2 r0 m0 m5 m6;clear W;go_wp2_with fail
 go_loopg [28] rs.length (fun k i wr=>∃ (j:Nat) (E:Nat->Prop),j+k=rs.length/\i=.int .i64 j/\(∀ g,D g->E g)/\Mp E G wr mb S H ta T.length tc vN vB vK fS fH (⟨T.length,[T.length+1],-1⟩::Lx.rulesPd T N (T.length+1) (rs.take j))/\Kp D w wr/\(Lx.rulesPd T N (T.length+1) (rs.take j)).length<=j*10000000)
 case atStart=>exact⟨0,E1,by omega,rfl,hE1,hM1',hkw1,by simp[Lx.rulesPd]⟩
 case round =>
  clear hM1' hkw1 hE1;revert wr;intro wz hrel;obtain⟨j,E,hk,rfl,hE,hMz,hkz,hPl⟩:=hrel
  by_cases hlt:j<rs.length
  ·obtain⟨gR',capR',va,hv,hFg',hA,c0,c1⟩:=hRw.at hlt
   cases hv;have ecv:cv w ⟨gR,j*2+1,none⟩=va:=by unfold cv;rw[c1];rfl
   have hq:=hQ j hlt;rw[show blkOf (.slice (some ⟨gR,0,none⟩) rs.length c)=gR from rfl,ecv]at hq;have bkz:=hkz.block gR (hF gR hFg);have z0:wz.cell? ⟨gR,j*2,none⟩=some (.string rs[j].name):=(World.cell?_of_block (w:=w) bkz).trans c0;have z1:wz.cell? ⟨gR,j*2+1,none⟩=some va:=(World.cell?_of_block (w:=w) bkz).trans c1;have HRT:Hid (Lx.rulesPd T N (T.length+1) (rs.take (j+1))=Lx.rulesPd T N (T.length+1) (rs.take j)++Lx.rulePd T N (T.length+(Lx.nms (rs.take j)).length) rs[j]):=Lx.rulesPd_take T N T.length hlt;generalize T.length+(Lx.nms (rs.take j)).length=b at hq HRT;generalize rs[j]=r at hq HRT z0 hA;generalize Lx.rulesPd T N (T.length+1) (rs.take j)=PJ at hMz hPl HRT;obtain⟨nm,al,rp⟩:=r;simp only at hA z0;obtain⟨sa,sc,rfl,-⟩:=AltsIn.len hA;obtain⟨W1,hW1⟩:∃ W1,W1=wz.alloc (.cells #[.string nm,.slice sa al.length sc] 179):=⟨_,rfl⟩;have hb1:Below wz.heap.size wz W1:=by rw[hW1];exact (Below.refl _ _).alloc (Nat.le_refl _) _
   have hs1:W1.heap.size=wz.heap.size+1:=by rw[hW1];simp
   have kR:Blk W1 wz.heap.size #[.string nm,.slice sa al.length sc] 179:=by rw[hW1];exact Blk.new wz _ 179
   have hM1:=hMz.more hb1;have dR:More E wz W1 wz.heap.size:=.inr ⟨Nat.le_refl _,by omega⟩;have hDW:∀ g,D g->More E wz W1 g:=fun g hg=>.inl (hE g hg)
   have hkW1:Kp D w W1:=hkz.trans (Kp.below hb1 (D:=fun g=>g<wz.heap.size) fun g hg=>hg) fun g hg=>hMz.lt g (hE g hg)
   clear c0 c1 ecv;go_wp2_with fail;rw[<-hW1];clear hW1 z0 z1
   go_loopg [35] al.length (fun k i wr=>∃ (q:Nat) (E2:Nat->Prop),q+k=al.length/\i=.int .i64 q/\(∀ g,More E wz W1 g->E2 g)/\Mp E2 G wr mb S H ta T.length tc vN vB vK fS fH ((⟨T.length,[T.length+1],-1⟩::PJ)++(al.take q).map (Lx.altPd T N b (Lx.hlpA 9 al)))/\Kp (More E wz W1) W1 wr)
   case atStart=>exact⟨0,_,by omega,rfl,fun _ h=>h,by simpa using hM1,Kp.refl _ _⟩
   case round =>
    revert wr;intro wy hrel;obtain⟨q,E2,hkq,rfl,hE2,hMy,hky⟩:=hrel;have hkDy:Kp D w wy:=hkW1.trans hky hDW;have kRy:Blk wy wz.heap.size #[.string nm,.slice sa al.length sc] 179:=kp_blk kR hky dR
    by_cases hltq:q<al.length
    ·obtain⟨vi,hci,hii,hmem⟩:=adA_alt hA hltq
     have hFb:F (blkOf (.slice sa al.length sc)):=(alts_cell hA hltq).1;have hAy:AltsIn YP 9 F wy (.slice sa al.length sc) al:=AltsIn.move (fun b hb=>hkDy.block b (hF b hb)) (fun _ h=>h) hA;obtain⟨gb,cap,vi',hv,hg,hit,hc⟩:=Seq.at hAy (fun _=>rfl) hltq;cases hv;have y0:wy.cell? ⟨gb,q*2,none⟩=some vi':=hc 0 (by decide);have y1:wy.cell? ⟨gb,q*2+1,none⟩=some (.string al[q].2.1):=hc 1 (by decide);have evi:vi'=vi:=by
      have h3:wy.cell? ⟨gb,q*2,none⟩=some vi:=(World.cell?_of_block (w:=w) (hkDy.block gb (hF gb hg))).trans hci;rw[h3]at y0;exact (Option.some.inj y0).symm
     subst evi;have hpr:=hq.prec al[q] (List.getElem_mem hltq);have hln:=hq.lens al[q] (List.getElem_mem hltq);have hsy:∀ k (hk:k<al[q].1.length) (hk':k<(Lx.rightOf T N b (Lx.hlpA 9 al) al[q].1).length),G (blkOf vi')/\symP fS fH (⟨blkOf vi',k*4,none⟩,al[q].1[k])=((Lx.rightOf T N b (Lx.hlpA 9 al) al[q].1)[k]:Int):=fun k hk hk'=>by
      have h4:=hmem k hk;refine⟨(hq.its _ h4).2.g,(hq.sym _ h4).trans ?_⟩;simp[Lx.rightOf]
     have HTK:Hid ((al.take (q+1)).map (Lx.altPd T N b (Lx.hlpA 9 al))=(al.take q).map (Lx.altPd T N b (Lx.hlpA 9 al))++[Lx.altPd T N b (Lx.hlpA 9 al) al[q]]):=by show _=_;rw[List.take_succ_eq_append_getElem hltq,List.map_append];rfl
     have hrlen:(Lx.rightOf T N b (Lx.hlpA 9 al) al[q].1).length=al[q].1.length:=by simp[Lx.rightOf]
     have hi':ItemsIn YP 8 F wy vi' al[q].1:=hit;have hal:al.length<=10000:=hq.len;clear hmem hci hii hit hc hAy;generalize al[q]=x at y1 hpr hln hsy HTK hrlen hi';obtain⟨its,prec,pa⟩:=x;simp only at y1 hpr hln hsy hrlen hi';have HALT:Hid (Lx.altPd T N b (Lx.hlpA 9 al) (its,prec,pa)=⟨b,Lx.rightOf T N b (Lx.hlpA 9 al) its,if prec=Lx.noText then Lx.precOf T.length (Lx.rightOf T N b (Lx.hlpA 9 al) its) else (Lx.fix T prec:Int)⟩):=rfl;generalize Lx.rightOf T N b (Lx.hlpA 9 al) its=rr at hsy hrlen HALT;obtain⟨ia,ic,rfl,him⟩:∃ a c,vi'=.slice a its.length c/\its.length<=maxLen:=Seq.len (show Tr.Seq F wy YP.eI YP.sI YP.cI (fun va it=>AltsIn YP 8 F wy va it.alts) vi' its from hi');obtain⟨W2,hW2⟩:∃ W2,W2=wy.alloc (.cells #[.slice ia its.length ic,.string prec] 194):=⟨_,rfl⟩;have hb2:Below wy.heap.size wy W2.drew:=by rw[hW2];exact ((Below.refl _ _).alloc (Nat.le_refl _) _).drew
     have hs2:W2.heap.size=wy.heap.size+1:=by rw[hW2];simp
     have kA:Blk W2 wy.heap.size #[.slice ia its.length ic,.string prec] 194:=by rw[hW2];exact Blk.new wy _ 194
     have hM2:=hMy.more hb2;have dA:More E2 wy W2.drew wy.heap.size:=.inr ⟨Nat.le_refl _,by show wy.heap.size<W2.heap.size;omega⟩;have dR2:More E2 wy W2.drew wz.heap.size:=.inl (hE2 _ dR);have lz2:=kRy.lt;have kR2:Blk W2.drew wz.heap.size _ 179:=(hb2.block _ lz2).trans kRy;have hbk:∀ b,F b->More E2 wy W2.drew b:=fun b hb=>.inl (hE2 b (.inl (hE b (hF b hb))))
     have q1:=pright_any hM2 its _ (ItemsIn.move (fun b hb=>hb2.block b (hMy.lt b (hE2 b (.inl (hE b (hF b hb)))))) (fun _ h=>h) hi') hbk rr hrlen (fun k hk=>hsy k hk (by rw[hrlen];exact hk)) hln prec;have hlk:=SMap.look (w:=W2.drew) hM2.sm nm;rw[show fS nm=(b:Int) from hq.left]at hlk;have s5:=hM2.cells.2.1;have sR:W2.drew.cell? ⟨wz.heap.size,0,none⟩=some (.string nm):=kR2.cell 0;have sA0:W2.drew.cell? ⟨wy.heap.size,0,none⟩=some (.slice ia its.length ic):=kA.drew.cell 0;have sA1:W2.drew.cell? ⟨wy.heap.size,1,none⟩=some (.string prec):=kA.drew.cell 1;have hnb:fS nm=(b:Int):=hq.left;have hPl2:(((⟨T.length,[T.length+1],-1⟩:Lx.Pd)::PJ)++(al.take q).map (Lx.altPd T N b (Lx.hlpA 9 al))).length<=400000000000:=by
      simp only[List.length_append,List.length_cons,List.length_map,List.length_take];have h5:j*10000000<=10000*10000000:=Nat.mul_le_mul_right _ (by omega);omega
     have HRL:Hid (rr.length=its.length):=hrlen;clear hrlen hsy hi';generalize hPP:(((⟨T.length,[T.length+1],-1⟩:Lx.Pd)::PJ)++(al.take q).map (Lx.altPd T N b (Lx.hlpA 9 al)))=PQ at hMy hM2 hPl2;have HPP:Hid _:=hPP;clear hPP;unfold maxLen at him;go_wp2_with fail;rw[<-hW2];clear hW2 y0 y1
     go_region_held3 (fun w'=>w'.cell? ⟨mb,5,none⟩=some (.map (some S))/\w'.cell? ⟨wz.heap.size,0,none⟩=some (.string nm)/\w'.cell? ⟨wy.heap.size,0,none⟩=some (.slice ia its.length ic)/\w'.cell? ⟨wy.heap.size,1,none⟩=some (.string prec)) (first | go_keep | assumption) (first | (go_at_call 105;refine q1.mono ?_;rintro e w3 ⟨u3,rfl,hu3,hb3⟩;obtain⟨ua,uc,rfl,-⟩:=own_len hu3;have hM3:=hM2.below hb3;have hk3:=Kp.below hb3 hM2.lt;have S3:w3.cell? ⟨mb,5,none⟩=some (.map (some S))/\w3.cell? ⟨wz.heap.size,0,none⟩=some (.string nm)/\w3.cell? ⟨wy.heap.size,0,none⟩=some (.slice ia its.length ic)/\w3.cell? ⟨wy.heap.size,1,none⟩=some (.string prec):=⟨hM3.cells.2.1,(kp_blk kR2 hk3 dR2).cell 0,(kp_blk kA.drew hk3 dA).cell 0,(kp_blk kA.drew hk3 dA).cell 1⟩;have hlk3:=SMap.look (w:=w3) hM3.sm nm;rw[hnb]at hlk3;have q3:=pput_any hM3 b _ rr (own_le hu3 (Nat.zero_le _)) (by have:=HRL.out;omega) (by omega)) | (go_at_call 104;refine q3.mono ?_;rintro e w4 ⟨rfl,E4,hE4,hM4,hk4⟩;have S4:w4.cell? ⟨mb,5,none⟩=some (.map (some S))/\w4.cell? ⟨wz.heap.size,0,none⟩=some (.string nm)/\w4.cell? ⟨wy.heap.size,0,none⟩=some (.slice ia its.length ic)/\w4.cell? ⟨wy.heap.size,1,none⟩=some (.string prec):=⟨hM4.cells.2.1,(kp_blk (kp_blk kR2 hk3 dR2) hk4 dR2).cell 0,(kp_blk (kp_blk kA.drew hk3 dA) hk4 dA).cell 0,(kp_blk (kp_blk kA.drew hk3 dA) hk4 dA).cell 1⟩))
     all_goals
      obtain⟨g45,g4R,g4A,g4p⟩:=S4;have k24:Kp E2 wy w4:=(Kp.below hb2 hMy.lt).trans (hk3.trans hk4 fun g h=>h) fun g hg=>.inl hg
      have kW4:Kp (More E wz W1) W1 w4:=hky.trans k24 hE2;have hE24:∀ g,More E wz W1 g->E4 g:=fun g hg=>hE4 g (.inl (hE2 g hg))
      have dA4:=hE4 _ dA;clear S3 hlk3 q3 q1 hlk s5 sR sA0 sA1 hu3 hM3 hM2 hk3 hk4 hb3
      by_cases hpn:prec=Lx.noText
      ·have HA2:Hid (Lx.altPd T N b (Lx.hlpA 9 al) (its,prec,pa)=Lx.pdOf T.length b rr):=by rw[HALT.out,if_pos hpn];rfl
       have hpe:prec=⟨#[]⟩:=hpn;clear hpn hpr HALT;subst hpe;go_wp2_with fail;go_roundg (al.length - (q+1))
       case measure=>omega
       case rel=>exact⟨q+1,E4,by omega,by go_num,hE24,by rw[HTK.out,HA2.out,<-List.append_assoc,HPP.out];exact hM4,kW4⟩
      ·have HA2:Hid (Lx.altPd T N b (Lx.hlpA 9 al) (its,prec,pa)=⟨b,rr,(Lx.fix T prec:Int)⟩):=by show _=_;rw[HALT.out,if_neg hpn]
       have hpb:(prec.toList == [])=false:=text_no hpn;have hfp:=hpr hpn;obtain⟨g,cg,sg2,ngD,ngm,⟨o,sgo⟩,fz,hset⟩:=hM4.setPrec;have hlp:=SMap.look (w:=w4.drew) (hM4.sm.move rfl) prec;rw[hfp]at hlp;have hset2:=hset (Lx.fix T prec:Int);generalize (Lx.fix T prec:Int)=pv at hlp hset2 HA2;have ng2:g≠wy.heap.size:=fun e=>ngD (e ▸ dA4)
       have t2:w4.drew.cell? ⟨mb,2,none⟩=some (.slice (some ⟨g,0,none⟩) (PQ.length+1) cg):=sg2;have t5:w4.drew.cell? ⟨mb,5,none⟩=some (.map (some S)):=g45;have tp:w4.drew.cell? ⟨wy.heap.size,1,none⟩=some (.string prec):=g4p;have tg:w4.drew.cell? ⟨g,PQ.length*3+2,none⟩=some (.int .i64 o):=sgo;have tz:∀ i,w4.drew.frozen? ⟨g,i,none⟩=false:=fz;obtain⟨w5,hw5⟩:∃ w5,w5=(w4.setCell ⟨g,PQ.length*3+2,none⟩ (.int .i64 pv)).drew:=⟨_,rfl⟩;have hM5:Mp E4 G w5 mb S H ta T.length tc vN vB vK fS fH (PQ++[⟨b,rr,pv⟩]):=by rw[hw5];exact hset2.1.below ((Below.refl _ _).drew)
       have kW5:Kp (More E wz W1) W1 w5:=kW4.trans (by rw[hw5];exact⟨hset2.2.os,hset2.2.tape,hset2.2.output,hset2.2.size,hset2.2.block⟩) hE24;have i1:(0:Int)<=(PQ.length:Int):=by omega
       have i2:(PQ.length:Int)<(PQ.length:Int)+1:=by omega
       have i3:IntKind.i64.wrap (PQ.length:Int)=(PQ.length:Int):=wrap64 (by omega);have i4:IntKind.i64.wrap ((PQ.length:Int)+1)=(PQ.length:Int)+1:=by have:=wrap64 (n:=PQ.length+1) (by omega);simpa using this
       have i5:IntKind.i64.wrap ((PQ.length:Int)+1-1)=(PQ.length:Int):=by rw[Int.add_sub_cancel];exact i3
       clear hset hset2 hpr hpn HALT hfp;go_wp2_with fail
       go_region_held3 (fun w'=>w'.cell? ⟨mb,2,none⟩=some (.slice (some ⟨g,0,none⟩) (PQ.length+1) cg)/\w'.cell? ⟨mb,5,none⟩=some (.map (some S))/\w'.cell? ⟨wy.heap.size,1,none⟩=some (.string prec)) (go_keep) (fail)
       all_goals
        rw[<-hw5];clear hw5 hlp t2 t5 tp tg tz sg2 sgo fz;go_wp2_with fail;go_roundg (al.length - (q+1))
        case measure=>omega
        case rel=>exact⟨q+1,E4,by omega,by go_num,hE24,by rw[HTK.out,HA2.out,<-List.append_assoc,HPP.out];exact hM5,kW5⟩
    ·have:q=al.length:=by omega
     subst this;rw[List.take_length]at hMy;have hmf:∀ (fn:Fn) (first cap:Array Value) (w:World),(Instr.makeFunc fn first cap).run Tryz.prog w=.ok (.func fn first cap) w:=fun _ _ _ _=>rfl
     have hAy:AltsIn YP 9 F wy (.slice sa al.length sc) al:=AltsIn.move (fun b hb=>hkDy.block b (hF b hb)) (fun _ h=>h) hA;have eA:adA 9 wy (.slice sa al.length sc) al=adA 9 w (.slice sa al.length sc) al:=adA_same hA fun b hb=>hkDy.block b (hF b hb)
     have eH:hlA wy (.slice sa al.length sc) al=hlA w (.slice sa al.length sc) al:=by unfold hlA;rw[eA]
     have hpl2:(((⟨T.length,[T.length+1],-1⟩:Lx.Pd)::PJ)++al.map (Lx.altPd T N b (Lx.hlpA 9 al))).length<=400000000000:=by
      have h9:al.length<=10000:=hq.len;simp only[List.length_append,List.length_cons,List.length_map];have h5:j*10000000<=10000*10000000:=Nat.mul_le_mul_right _ (by omega);omega
     have q5:=eachProds_any (T:=T) (N:=N) (b:=b) hMy (fun b hb=>hE2 b (.inl (hE b (hF b hb)))) hAy (fun p hp=>((hq.its p (by rw[<-eA];exact hp)).2).move (fun b hb=>hkDy.block b (hF b hb)) (hq.its p (by rw[<-eA];exact hp)).1) (fun k p hp=>hq.hel k p (by rw[<-eH];exact hp)) (by rw[eH];exact hq.hl) hpl2;have y1:wy.cell? ⟨wz.heap.size,1,none⟩=some (.slice sa al.length sc):=kRy.cell 1;have hpr:=hq.pl;have HRP:Hid (Lx.rulePd T N b ⟨nm,al,rp⟩=al.map (Lx.altPd T N b (Lx.hlpA 9 al))++Lx.helpsPd T N b (Lx.hlpA 9 al) 0 (Lx.hlpA 9 al)):=rfl;clear hAy eA eH hpl2 hq hA;go_wp2_with fail;refine q5.mono ?_;rintro e w6 ⟨rfl,E6,hE6,hM6,hk6⟩;clear q5 hmf y1;have hM6':Mp E6 G w6 mb S H ta T.length tc vN vB vK fS fH (⟨T.length,[T.length+1],-1⟩::Lx.rulesPd T N (T.length+1) (rs.take (j+1))):=by
      rw[HRT.out,HRP.out];simpa [List.append_assoc]using hM6
     have hk6':Kp D w w6:=hkDy.trans hk6 fun g hg=>hE2 g (.inl (hE g hg))
     have hpl6:(Lx.rulesPd T N (T.length+1) (rs.take (j+1))).length<=(j+1)*10000000:=by
      rw[HRT.out,List.length_append,Nat.succ_mul];omega
     have HF6:Hid _:=hM6';clear hM6 hM6' hMy hM1 hMz;go_wp2_with fail;go_roundg (rs.length - (j+1))
     case measure=>omega
     case rel=>exact⟨j+1,E6,by omega,by go_num,fun g hg=>hE6 g (hE2 g (.inl (hE g hg))),HF6.out,hk6',hpl6⟩
  ·have:j=rs.length:=by omega
   subst this;rw[List.take_length]at hMz;go_wp2_with fail
   go_end0
   exact⟨rfl,E,hE,hMz,hkz⟩
end Go.Proofs.YtlcppnabbicmoaaGreatDoor

import Derived.Test.YtjaalkocdbkdeaaGreatDoorSA27
set_option maxHeartbeats 8000000
set_option maxRecDepth 1000000
namespace Go.Proofs.YtjaalkocdbkdeaaGreatDoor
open Lx Go.Proofs.Tryz
open Go.RowKit Tr
theorem Bc.move{w w':World}{F G:Nat->Prop}{fS:ByteArray->Int}{fH:Addr->Int}{T N:List ByteArray}{b:Nat}{Hs:List Lx.It}{p:AI}(h:Bc w F G fS fH T N b Hs p)(hk:∀b,F b->w'.heap[b]?=w.heap[b]?)(hn:F p.1.block):Bc w' F G fS fH T N b Hs p:=by
 obtain⟨h1,h2,h3,h4,n,m,d,va,e1,e2,e3,e4⟩:=h;have hn':F n:=by rw[e1]at hn;exact hn
 exact⟨h1,h2,h3,h4,n,m,d,va,e1,(World.cell?_of_block (w:=w) (hk n hn')).trans e2,ay.move hk (fun _ h=>h) e3,fun q hq=>e4 q (by rw[<-Gb e3 hk];exact hq)⟩
namespace Lx
theorem Ur(T N:List ByteArray):∀(l:List Rl)(b:Nat)(r:Rl),iB T N b (l++[r])=iB T N b l++pO T N (b+(l.flatMap gD).length) r
 | [],b,r=>by simp[iB]
 |y::l,b,r=>by
  rw[List.cons_append,iB,Ur T N l,iB,List.append_assoc,List.flatMap_cons,List.length_append,zJ,show b+1+(aR 9 y.alts).length+(l.flatMap gD).length=b+(1+(aR 9 y.alts).length+(l.flatMap gD).length) by omega]
theorem aef(T N:List ByteArray)(n:Nat){rs:List Rl}{j:Nat}(hj:j<rs.length):iB T N (n+1) (rs.take (j+1))=iB T N (n+1) (rs.take j)++pO T N (n+(dY (rs.take j)).length) rs[j]:=by
 rw[List.take_succ_eq_append_getElem hj,Ur];unfold dY;rw[List.length_cons,show n+1+((rs.take j).flatMap gD).length=n+(((rs.take j).flatMap gD).length+1) by omega]
theorem pd0(n:Nat):aQ n n [n+1]=⟨n,[n+1],-1⟩:=by
 unfold aQ jN;simp;omega
end Lx
structure Zp(w:World)(F G:Nat->Prop)(fS:ByteArray->Int)(fH:Addr->Int)(T N:List ByteArray)(va:Value)(r:Lx.Rl)(b:Nat):Prop where
 left:fS r.name=(b:Int)
 its:∀p∈aT 9 w va r.alts,F p.1.block/\Bc w F G fS fH T N b (aR 9 r.alts) p
 sym:∀p∈aT 9 w va r.alts,yK fS fH p=(lI T N b (aR 9 r.alts) p.2:Int)
 hel:∀k p,(hlA w va r.alts)[k]?=some p->fH p.1=((b+1+k:Nat):Int)
 prec:∀a∈r.alts,a.2.1≠aL->fS a.2.1=(Lx.fix T a.2.1:Int)
 len:r.alts.length<=10000
 lens:∀a∈r.alts,a.1.length<=10000
 hl:(hlA w va r.alts).length<=100000
 pl:(pO T N b r).length<=10000000
theorem aeg{D F G:Nat->Prop}{w:World}{mb S H:Nat}{ta:Option Addr}{tc:Nat}{vN vB vK vR:Value}{fS:ByteArray->Int}{fH:Addr->Int}{T N:List ByteArray}{rs:List Lx.Rl}(h:Mp D G w mb S H ta T.length tc vN vB vK fS fH [])(zq:mo F w vR rs)(hF:∀b,F b->D b)(hQ:∀i(hi:i<rs.length),Zp w F G fS fH T N (cv w ⟨aY vR,i*2+1,none⟩) rs[i] (T.length+(dY (rs.take i)).length))(hne:0<rs.length)(hrl:rs.length<=10000):
  Calls prog 49 #[.pointer (some ⟨mb,0,none⟩),vR] w fun e w'=>e=.returned (.tuple #[])/\uz D G w mb S H ta T.length tc vN vB vK fS fH (⟨T.length,[T.length+1],-1⟩::iB T N (T.length+1) rs) w':=by
 obtain⟨a,c,rfl,hm⟩:=zq.len;unfold maxLen at hm;obtain⟨gR,ajV,va0,hv,hFg,-,r0,-⟩:=zq.at hne;cases hv;have e0:fS rs[0].name=((T.length+1:Nat):Int):=(hQ 0 hne).left;obtain⟨n1,hn1⟩:∃n1,n1=T.length+1:=⟨_,rfl⟩;rw[<-hn1]at e0;have HN1:Hid (n1=T.length+1):=hn1;clear hn1;have hl0:=SMap.look (w:=w.drew) (h.sm.move rfl) rs[0].name;rw[e0]at hl0;rw[Nat.zero_mul]at r0;obtain⟨m0,m5,m6⟩:=h.cells;have lgR:gR<w.heap.size:=zq.lt gR hFg;obtain⟨W,hW⟩:∃W,W=(w.alloc (.cells #[.int .i64 (n1:Int)] 3)).drew:=⟨_,rfl⟩;have hbW:Below w.heap.size w W:=by rw[hW];exact((Below.refl _ _).alloc (zL0) _).drew
 have hMW:=h.below hbW;have kW:aj W w.heap.size #[.int .i64 (n1:Int)] 3:=by rw[hW];exact(aj.new w _ 3).drew
 have oW:IR 0 W (.slice (some ⟨w.heap.size,0,none⟩) 1 1) [n1]:=⟨rfl,.inr ⟨w.heap.size,1,_,rfl,Nat.zero_le _,kW,zL0,by decide,rfl,rfl⟩⟩;have q0:=yu hMW T.length _ [n1] oW (by simp) (by simp);rw[hW]at q0;generalize rs[0].name=R7 at hl0 r0;have d0:w.drew.cell? ⟨mb,0,none⟩=some (.slice ta T.length tc):=m0;have d5:w.drew.cell? ⟨mb,5,none⟩=some (.map (some S)):=m5;have dr:w.drew.cell? ⟨gR,0,none⟩=some (.string R7):=r0;have x1:=World.new_ne w ⟨mb,0,none⟩ m0;have x2:=World.new_ne w ⟨gR,0,none⟩ r0;have x3:0<rs.length:=hne;clear e0;go_enter func49,ntmps49;go_wp2_with fail
 go_region_held3 (fun w'=>w'.cell? ⟨mb,0,none⟩=some (.slice ta T.length tc)/\w'.cell? ⟨mb,5,none⟩=some (.map (some S))/\w'.cell? ⟨gR,0,none⟩=some (.string R7)) (first | go_keep | assumption) ((go_at_call 92;refine q0.mono ?_;rintro e w1⟨rfl,E1,hE1,hM1,hk1⟩;have S1:w1.cell? ⟨mb,0,none⟩=some (.slice ta T.length tc)/\w1.cell? ⟨mb,5,none⟩=some (.map (some S))/\w1.cell? ⟨gR,0,none⟩=some (.string R7):=⟨hM1.cells.1,hM1.cells.2.1,(World.cell?_of_block (w:=w) ((hk1.block gR (hF gR hFg)).trans (by rw[<-hW];exact hbW.block gR lgR))).trans r0⟩))
 have ZX:Mp E1 G w1 mb S H ta T.length tc vN vB vK fS fH (⟨T.length,[T.length+1],-1⟩::iB T N (T.length+1) (rs.take 0)):=by
  have e:(⟨T.length,[T.length+1],-1⟩::iB T N (T.length+1) (rs.take 0):List Lx.Pd)=[]++[aQ T.length T.length [n1]]:=by rw[HN1.out,Lx.pd0];simp[iB]
  rw[e];exact hM1
 have xw:Kp D w w1:=(Kp.below hbW h.lt).trans (by rw[hW];exact hk1) fun g hg=>hg
 clear hl0 q0 oW kW hMW hM1 hk1 hW hbW d0 d5 dr x1 x2 r0 m0 m5 m6;clear W;go_wp2_with fail
 go_loopg [28] rs.length (fun k i wr=>∃(j:Nat)(E:Nat->Prop),j+k=rs.length/\i=.int .i64 j/\(∀g,D g->E g)/\Mp E G wr mb S H ta T.length tc vN vB vK fS fH (⟨T.length,[T.length+1],-1⟩::iB T N (T.length+1) (rs.take j))/\Kp D w wr/\(iB T N (T.length+1) (rs.take j)).length<=j*10000000)
 case atStart=>exact⟨0,E1,by omega,rfl,hE1,ZX,xw,by simp[iB]⟩
 case round=>
  clear ZX xw hE1;revert wr;intro wz hrel;obtain⟨j,E,hk,rfl,hE,Fb,hkz,lV⟩:=hrel
  by_cases hlt:j<rs.length
  ·obtain⟨gR',al7,va,hv,amq,hA,c0,c1⟩:=zq.at hlt
   cases hv;have wE:cv w ⟨gR,j*2+1,none⟩=va:=by unfold cv;rw[c1];rfl
   have hq:=hQ j hlt;rw[show aY (.slice (some ⟨gR,0,none⟩) rs.length c)=gR from rfl,wE]at hq;have bkz:=hkz.block gR (hF gR hFg);have z0:wz.cell? ⟨gR,j*2,none⟩=some (.string rs[j].name):=(World.cell?_of_block (w:=w) bkz).trans c0;have z1:wz.cell? ⟨gR,j*2+1,none⟩=some va:=(World.cell?_of_block (w:=w) bkz).trans c1;have I5:Hid (iB T N (T.length+1) (rs.take (j+1))=iB T N (T.length+1) (rs.take j)++pO T N (T.length+(dY (rs.take j)).length) rs[j]):=aef T N T.length hlt;generalize T.length+(dY (rs.take j)).length=b at hq I5;generalize rs[j]=r at hq I5 z0 hA;generalize iB T N (T.length+1) (rs.take j)=PJ at Fb lV I5;obtain⟨nm,al,rp⟩:=r;simp only at hA z0;obtain⟨sa,sc,rfl,-⟩:=ay.len hA;obtain⟨W1,hW1⟩:∃W1,W1=wz.alloc (.cells #[.string nm,.slice sa al.length sc] 179):=⟨_,rfl⟩;have hb1:Below wz.heap.size wz W1:=by rw[hW1];exact(Below.refl _ _).alloc (zL0) _
   have hs1:W1.heap.size=wz.heap.size+1:=by rw[hW1];simp
   have kR:aj W1 wz.heap.size #[.string nm,.slice sa al.length sc] 179:=by rw[hW1];exact aj.new wz _ 179
   have hM1:=Fb.more hb1;have dR:More E wz W1 wz.heap.size:=.inr ⟨zL0,by omega⟩;have hDW:∀g,D g->More E wz W1 g:=fun g hg=>.inl (hE g hg)
   have ajY:Kp D w W1:=hkz.trans (Kp.below hb1 (D:=fun g=>g<wz.heap.size) fun g hg=>hg) fun g hg=>Fb.lt g (hE g hg)
   clear c0 c1 wE;go_wp2_with fail;rw[<-hW1];clear hW1 z0 z1
   go_loopg [35] al.length (fun k i wr=>∃(q:Nat)(E2:Nat->Prop),q+k=al.length/\i=.int .i64 q/\(∀g,More E wz W1 g->E2 g)/\Mp E2 G wr mb S H ta T.length tc vN vB vK fS fH ((⟨T.length,[T.length+1],-1⟩::PJ)++(al.take q).map (jY T N b (aR 9 al)))/\Kp (More E wz W1) W1 wr)
   case atStart=>exact⟨0,_,by omega,rfl,fun _ h=>h,by simpa using hM1,Kp.refl _ _⟩
   case round=>
    revert wr;intro wy hrel;obtain⟨q,E2,hkq,rfl,hE2,nY,hky⟩:=hrel;have EJ:Kp D w wy:=ajY.trans hky hDW;have Dv:aj wy wz.heap.size #[.string nm,.slice sa al.length sc] 179:=fJ kR hky dR
    by_cases sN:q<al.length
    ·obtain⟨vi,hci,hii,hmem⟩:=Yk hA sN
     have hFb:F (aY (.slice sa al.length sc)):=(Ea hA sN).1;have I6:ay YP 9 F wy (.slice sa al.length sc) al:=ay.move (fun b hb=>EJ.block b (hF b hb)) (fun _ h=>h) hA;obtain⟨gb,cap,zu,hv,hg,hit,hc⟩:=Seq.at I6 (fun _=>rfl) sN;cases hv;have y0:wy.cell? ⟨gb,q*2,none⟩=some zu:=hc 0 (by decide);have y1:wy.cell? ⟨gb,q*2+1,none⟩=some (.string al[q].2.1):=hc 1 (by decide);have evi:zu=vi:=by
      have h3:wy.cell? ⟨gb,q*2,none⟩=some vi:=(World.cell?_of_block (w:=w) (EJ.block gb (hF gb hg))).trans hci;rw[h3]at y0;exact(Option.some.inj y0).symm
     subst evi;have hpr:=hq.prec al[q] (List.getElem_mem sN);have hln:=hq.lens al[q] (List.getElem_mem sN);have hsy:∀k(hk:k<al[q].1.length)(hk':k<(ig T N b (aR 9 al) al[q].1).length),G (aY zu)/\yK fS fH (⟨aY zu,k*4,none⟩,al[q].1[k])=((ig T N b (aR 9 al) al[q].1)[k]:Int):=fun k hk hk'=>by
      have h4:=hmem k hk;refine⟨(hq.its _ h4).2.g,(hq.sym _ h4).trans ?_⟩;simp[ig]
     have bY:Hid ((al.take (q+1)).map (jY T N b (aR 9 al))=(al.take q).map (jY T N b (aR 9 al))++[jY T N b (aR 9 al) al[q]]):=by show _=_;rw[List.take_succ_eq_append_getElem sN,List.map_append];rfl
     have hrlen:(ig T N b (aR 9 al) al[q].1).length=al[q].1.length:=by simp[ig]
     have hi':bM YP 8 F wy zu al[q].1:=hit;have hal:al.length<=10000:=hq.len;clear hmem hci hii hit hc I6;generalize al[q]=x at y1 hpr hln hsy bY hrlen hi';obtain⟨its,prec,pa⟩:=x;simp only at y1 hpr hln hsy hrlen hi';have Hf:Hid (jY T N b (aR 9 al) (its,prec,pa)=⟨b,ig T N b (aR 9 al) its,if prec=aL then jN T.length (ig T N b (aR 9 al) its) else (Lx.fix T prec:Int)⟩):=rfl;generalize ig T N b (aR 9 al) its=rr at hsy hrlen Hf;obtain⟨ia,ic,rfl,him⟩:∃a c,zu=.slice a its.length c/\its.length<=maxLen:=Seq.len (show Tr.Seq F wy YP.eI YP.sI YP.cI (fun va it=>ay YP 8 F wy va it.alts) zu its from hi');obtain⟨W2,hW2⟩:∃W2,W2=wy.alloc (.cells #[.slice ia its.length ic,.string prec] 195):=⟨_,rfl⟩;have hb2:Below wy.heap.size wy W2.drew:=by rw[hW2];exact((Below.refl _ _).alloc (zL0) _).drew
     have hs2:W2.heap.size=wy.heap.size+1:=by rw[hW2];simp
     have kA:aj W2 wy.heap.size #[.slice ia its.length ic,.string prec] 195:=by rw[hW2];exact aj.new wy _ 195
     have hM2:=nY.more hb2;have dA:More E2 wy W2.drew wy.heap.size:=.inr ⟨zL0,by show wy.heap.size<W2.heap.size;omega⟩;have R8:More E2 wy W2.drew wz.heap.size:=.inl (hE2 _ dR);have lz2:=Dv.lt;have mP:aj W2.drew wz.heap.size _ 179:=(hb2.block _ lz2).trans Dv;have hbk:∀b,F b->More E2 wy W2.drew b:=fun b hb=>.inl (hE2 b (.inl (hE b (hF b hb))))
     have q1:=VA hM2 its _ (bM.move (fun b hb=>hb2.block b (nY.lt b (hE2 b (.inl (hE b (hF b hb)))))) (fun _ h=>h) hi') hbk rr hrlen (fun k hk=>hsy k hk (by rw[hrlen];exact hk)) hln prec;have hlk:=SMap.look (w:=W2.drew) hM2.sm nm;rw[show fS nm=(b:Int) from hq.left]at hlk;have s5:=hM2.cells.2.1;have sR:W2.drew.cell? ⟨wz.heap.size,0,none⟩=some (.string nm):=mP.cell 0;have sA0:W2.drew.cell? ⟨wy.heap.size,0,none⟩=some (.slice ia its.length ic):=kA.drew.cell 0;have sA1:W2.drew.cell? ⟨wy.heap.size,1,none⟩=some (.string prec):=kA.drew.cell 1;have hnb:fS nm=(b:Int):=hq.left;have Qv:(((⟨T.length,[T.length+1],-1⟩:Lx.Pd)::PJ)++(al.take q).map (jY T N b (aR 9 al))).length<=400000000000:=by
      simp only[List.length_append,List.length_cons,List.length_map,List.length_take];have h5:j*10000000<=10000*10000000:=Nat.mul_le_mul_right _ (by omega);omega
     have HRL:Hid (rr.length=its.length):=hrlen;clear hrlen hsy hi';generalize xJ:(((⟨T.length,[T.length+1],-1⟩:Lx.Pd)::PJ)++(al.take q).map (jY T N b (aR 9 al)))=PQ at nY hM2 Qv;have rH:Hid _:=xJ;clear xJ;unfold maxLen at him;go_wp2_with fail;rw[<-hW2];clear hW2 y0 y1
     go_region_held3 (fun w'=>w'.cell? ⟨mb,5,none⟩=some (.map (some S))/\w'.cell? ⟨wz.heap.size,0,none⟩=some (.string nm)/\w'.cell? ⟨wy.heap.size,0,none⟩=some (.slice ia its.length ic)/\w'.cell? ⟨wy.heap.size,1,none⟩=some (.string prec)) (first|go_keep|assumption) (first|(go_at_call 93;refine q1.mono ?_;rintro e w3⟨u3,rfl,hu3,hb3⟩;obtain⟨ua,uc,rfl,-⟩:=aF hu3;have iU:=hM2.below hb3;have hk3:=Kp.below hb3 hM2.lt;have S3:w3.cell? ⟨mb,5,none⟩=some (.map (some S))/\w3.cell? ⟨wz.heap.size,0,none⟩=some (.string nm)/\w3.cell? ⟨wy.heap.size,0,none⟩=some (.slice ia its.length ic)/\w3.cell? ⟨wy.heap.size,1,none⟩=some (.string prec):=⟨iU.cells.2.1,(fJ mP hk3 R8).cell 0,(fJ kA.drew hk3 dA).cell 0,(fJ kA.drew hk3 dA).cell 1⟩;have ZY:=SMap.look (w:=w3) iU.sm nm;rw[hnb]at ZY;have q3:=yu iU b _ rr (dm hu3 (Nat.zero_le _)) (by have:=HRL.out;omega) (by omega))|(go_at_call 92;refine q3.mono ?_;rintro e w4⟨rfl,E4,I7,qp,hk4⟩;have S4:w4.cell? ⟨mb,5,none⟩=some (.map (some S))/\w4.cell? ⟨wz.heap.size,0,none⟩=some (.string nm)/\w4.cell? ⟨wy.heap.size,0,none⟩=some (.slice ia its.length ic)/\w4.cell? ⟨wy.heap.size,1,none⟩=some (.string prec):=⟨qp.cells.2.1,(fJ (fJ mP hk3 R8) hk4 R8).cell 0,(fJ (fJ kA.drew hk3 dA) hk4 dA).cell 0,(fJ (fJ kA.drew hk3 dA) hk4 dA).cell 1⟩))
     all_goals
      obtain⟨g45,g4R,g4A,g4p⟩:=S4;have k24:Kp E2 wy w4:=(Kp.below hb2 nY.lt).trans (hk3.trans hk4 fun g h=>h) fun g hg=>.inl hg
      have kW4:Kp (More E wz W1) W1 w4:=hky.trans k24 hE2;have Qw:∀g,More E wz W1 g->E4 g:=fun g hg=>I7 g (.inl (hE2 g hg))
      have dA4:=I7 _ dA;clear S3 ZY q3 q1 hlk s5 sR sA0 sA1 hu3 iU hM2 hk3 hk4 hb3
      by_cases hpn:prec=aL
      ·have HA2:Hid (jY T N b (aR 9 al) (its,prec,pa)=aQ T.length b rr):=by rw[Hf.out,if_pos hpn];rfl
       have hpe:prec=⟨#[]⟩:=hpn;clear hpn hpr Hf;subst hpe;go_wp2_with fail;go_roundg (al.length - (q+1))
       case measure=>omega
       case rel=>exact⟨q+1,E4,by omega,by go_num,Qw,by rw[bY.out,HA2.out,<-List.append_assoc,rH.out];exact qp,kW4⟩
      ·have HA2:Hid (jY T N b (aR 9 al) (its,prec,pa)=⟨b,rr,(Lx.fix T prec:Int)⟩):=by show _=_;rw[Hf.out,if_neg hpn]
       have hpb:(prec.toList == [])=false:=lC hpn;have hfp:=hpr hpn;obtain⟨g,cg,sg2,ngD,ngm,⟨o,sgo⟩,fz,hset⟩:=qp.aiB;have hlp:=SMap.look (w:=w4.drew) (qp.sm.move rfl) prec;rw[hfp]at hlp;have Ag:=hset (Lx.fix T prec:Int);generalize (Lx.fix T prec:Int)=pv at hlp Ag HA2;have ng2:g≠wy.heap.size:=fun e=>ngD (e▸dA4)
       have t2:w4.drew.cell? ⟨mb,2,none⟩=some (.slice (some ⟨g,0,none⟩) (PQ.length+1) cg):=sg2;have t5:w4.drew.cell? ⟨mb,5,none⟩=some (.map (some S)):=g45;have tp:w4.drew.cell? ⟨wy.heap.size,1,none⟩=some (.string prec):=g4p;have tg:w4.drew.cell? ⟨g,PQ.length*3+2,none⟩=some (.int .i64 o):=sgo;have tz:∀i,w4.drew.frozen? ⟨g,i,none⟩=false:=fz;obtain⟨w5,ML⟩:∃w5,w5=(w4.setCell ⟨g,PQ.length*3+2,none⟩ (.int .i64 pv)).drew:=⟨_,rfl⟩;have fE:Mp E4 G w5 mb S H ta T.length tc vN vB vK fS fH (PQ++[⟨b,rr,pv⟩]):=by rw[ML];exact Ag.1.below ((Below.refl _ _).drew)
       have kW5:Kp (More E wz W1) W1 w5:=kW4.trans (by rw[ML];exact⟨Ag.2.os,Ag.2.tape,Ag.2.output,Ag.2.size,Ag.2.block⟩) Qw;have i1:(0:Int)<=(PQ.length:Int):=by omega
       have i2:(PQ.length:Int)<(PQ.length:Int)+1:=by omega
       have i3:IntKind.i64.wrap (PQ.length:Int)=(PQ.length:Int):=wrap64 (by omega);have i4:IntKind.i64.wrap ((PQ.length:Int)+1)=(PQ.length:Int)+1:=by have:=wrap64 (n:=PQ.length+1) (by omega);simpa using this
       have i5:IntKind.i64.wrap ((PQ.length:Int)+1-1)=(PQ.length:Int):=by rw[Int.add_sub_cancel];exact i3
       clear hset Ag hpr hpn Hf hfp;go_wp2_with fail
       go_region_held3 (fun w'=>w'.cell? ⟨mb,2,none⟩=some (.slice (some ⟨g,0,none⟩) (PQ.length+1) cg)/\w'.cell? ⟨mb,5,none⟩=some (.map (some S))/\w'.cell? ⟨wy.heap.size,1,none⟩=some (.string prec)) (go_keep) (fail)
       all_goals
        rw[<-ML];clear ML hlp t2 t5 tp tg tz sg2 sgo fz;go_wp2_with fail;go_roundg (al.length - (q+1))
        case measure=>omega
        case rel=>exact⟨q+1,E4,by omega,by go_num,Qw,by rw[bY.out,HA2.out,<-List.append_assoc,rH.out];exact fE,kW5⟩
    ·have:q=al.length:=by omega
     subst this;rw[List.take_length]at nY;have sZ:∀(fn:Fn)(first cap:Array Value)(w:World),(Instr.makeFunc fn first cap).run prog w=.ok (.func fn first cap) w:=fun _ _ _ _=>rfl
     have I6:ay YP 9 F wy (.slice sa al.length sc) al:=ay.move (fun b hb=>EJ.block b (hF b hb)) (fun _ h=>h) hA;have eA:aT 9 wy (.slice sa al.length sc) al=aT 9 w (.slice sa al.length sc) al:=Gb hA fun b hb=>EJ.block b (hF b hb)
     have eH:hlA wy (.slice sa al.length sc) al=hlA w (.slice sa al.length sc) al:=by unfold hlA;rw[eA]
     have Z0:(((⟨T.length,[T.length+1],-1⟩:Lx.Pd)::PJ)++al.map (jY T N b (aR 9 al))).length<=400000000000:=by
      have h9:al.length<=10000:=hq.len;simp only[List.length_append,List.length_cons,List.length_map];have h5:j*10000000<=10000*10000000:=Nat.mul_le_mul_right _ (by omega);omega
     have q5:=adS (T:=T) (N:=N) (b:=b) nY (fun b hb=>hE2 b (.inl (hE b (hF b hb)))) I6 (fun p hp=>((hq.its p (by rw[<-eA];exact hp)).2).move (fun b hb=>EJ.block b (hF b hb)) (hq.its p (by rw[<-eA];exact hp)).1) (fun k p hp=>hq.hel k p (by rw[<-eH];exact hp)) (by rw[eH];exact hq.hl) Z0;have y1:wy.cell? ⟨wz.heap.size,1,none⟩=some (.slice sa al.length sc):=Dv.cell 1;have hpr:=hq.pl;have HRP:Hid (pO T N b ⟨nm,al,rp⟩=al.map (jY T N b (aR 9 al))++l6 T N b (aR 9 al) 0 (aR 9 al)):=rfl;clear I6 eA eH Z0 hq hA;go_wp2_with fail;refine q5.mono ?_;rintro e w6⟨rfl,E6,hE6,kP,Du⟩;clear q5 sZ y1;have Z5:Mp E6 G w6 mb S H ta T.length tc vN vB vK fS fH (⟨T.length,[T.length+1],-1⟩::iB T N (T.length+1) (rs.take (j+1))):=by
      rw[I5.out,HRP.out];simpa [List.append_assoc]using kP
     have ajZ:Kp D w w6:=EJ.trans Du fun g hg=>hE2 g (.inl (hE g hg))
     have aj0:(iB T N (T.length+1) (rs.take (j+1))).length<=(j+1)*10000000:=by
      rw[I5.out,List.length_append,Nat.succ_mul];omega
     have HF6:Hid _:=Z5;clear kP Z5 nY hM1 Fb;go_wp2_with fail;go_roundg (rs.length - (j+1))
     case measure=>omega
     case rel=>exact⟨j+1,E6,by omega,by go_num,fun g hg=>hE6 g (hE2 g (.inl (hE g hg))),HF6.out,ajZ,aj0⟩
  ·have:j=rs.length:=by omega
   subst this;rw[List.take_length]at Fb;go_wp2_with fail
   go_end0
   exact⟨rfl,E,hE,Fb,hkz⟩
def Dw(va:Value)(it:Lx.It):Value:=.agg #[.int .i64 (it.kind:Int),.string it.name,.int .u8 (it.mark:Int),va]
def I8(vi:Value)(a:Lx.Alt):Value:=.agg #[vi,.string a.2.1]
structure OkW(F:Nat->Prop)(w0:World)(Ok:World->Prop):Prop where
 fr:∀w,Ok w->∀b,F b->w.heap[b]?=w0.heap[b]?/\b<w.heap.size
 up:∀w w',Ok w->Below w.heap.size w w'->Ok w'
def uD(w:World)(b:Bool)(e:Ending)(w':World):Prop:=e=.returned (.bool b)/\Below w.heap.size w w'
theorem aeP {F:Nat->Prop} {w0:World} {Ok:World->Prop} (hO:OkW F w0 Ok) {nf:Nat} {caps:Array Value} (hcf:∀(ar:Array Value)(w:World),(callFunc nf ar).run prog w=.ok (.enter nf ar) w) {d:Nat} {pr:Lx.It->Bool} {R:Lx.It->Prop}
  (hf:∀(w':World)(va:Value)(it:Lx.It),Ok w'->ay YP d F w0 va it.alts->R it->Calls prog nf (#[Dw va it]++caps) w' (uD w' (pr it)))
  {vi:Value} {its:List Lx.It} (hi:bM YP d F w0 vi its) (hR:∀it∈its,R it) {w:World} (hw:Ok w) :
  Calls prog 151 #[vi,.func (.func nf) #[] caps] w fun e w'=>∃q:Int,e=.returned (.int .i64 q)/\(0<=q↔its.any pr=true)/\Below w.heap.size w w':=by
 obtain⟨ia,ic,iK,him⟩:∃a c,vi=.slice a its.length c/\its.length<=maxLen:=Seq.len (show Tr.Seq F w0 YP.eI YP.sI YP.cI (fun va it=>ay YP d F w0 va it.alts) vi its from hi);subst iK;unfold maxLen at him;go_enter func151,ntmps151;go_wp2_with fail
 go_loopg [8] its.length (fun k i wr=>∃j:Nat,j+k=its.length/\i=.int .i64 j/\Below w.heap.size w wr/\Hid (∀m(hm:m<its.length),m<j->pr its[m]=false))
 case atStart=>exact⟨0,by omega,rfl,Below.refl _ _,fun m _ h=>by omega⟩
 case round=>
  obtain⟨j,hk,rfl,hbr,HN⟩:=hrel;have hokr:=hO.up _ _ hw hbr
  by_cases hlt:j<its.length
  ·have hir:=hi
   unfold bM ow at hir;obtain⟨n,sG,va,hv,hn,ha,hcc⟩:=Seq.at hir (fun _=>rfl) hlt;cases hv;have hRj:=hR its[j] (List.getElem_mem hlt);have hq:=hf wr va its[j] hokr ha hRj;obtain⟨sa,sc,hva,-⟩:=ay.len ha;subst hva;have en:=(hO.fr _ hokr n hn).1;have ln:=(hO.fr _ hokr n hn).2;have x0:wr.cell? ⟨n,j*4,none⟩=some (.int .i64 (its[j].kind:Int)):=(World.cell?_of_block (w:=w0) en).trans (hcc 0 (by decide));have x1:wr.cell? ⟨n,j*4+1,none⟩=some (.string its[j].name):=(World.cell?_of_block (w:=w0) en).trans (hcc 1 (by decide));have x2:wr.cell? ⟨n,j*4+2,none⟩=some (.int .u8 (its[j].mark:Int)):=(World.cell?_of_block (w:=w0) en).trans (hcc 2 (by decide));have x3:wr.cell? ⟨n,j*4+3,none⟩=some (.slice sa its[j].alts.length sc):=(World.cell?_of_block (w:=w0) en).trans (hcc 3 (by decide));unfold Dw at hq;have HJ:Hid (∀b,pr its[j]=b->(b=true->its.any pr=true)/\(b=false->∀m(hm:m<its.length),m<j+1->pr its[m]=false)):=by
    intro b hb;refine⟨fun h=>List.any_eq_true.2 ⟨its[j],List.getElem_mem hlt,by rw[hb,h]⟩,fun h m hm hmj=>?_⟩
    by_cases Qx:m=j
    ·subst Qx;rw[hb,h]
    ·exact HN.out m hm (by omega)
   clear hcc hir HN;generalize hit:its[j]=it at hq x0 x1 x2 x3 HJ;clear hit;go_wp2_with fail;refine hq.mono ?_;rintro e w2⟨rfl,hb2⟩;have hb3:=hbr.trans (hb2.mono hbr.size);cases hp:pr it with
   |true=>
    have HJ2:=(HJ.out true hp).1 rfl;have HA:Hid (its.any pr=true):=HJ2;clear HJ HJ2 hp hq;go_wp2_with fail;go_ret;exact⟨_,rfl,⟨fun _=>HA.out,fun _=>by omega⟩,hb3⟩
   |false=>
    have HA:Hid _:=(HJ.out false hp).2 rfl;clear HJ hp hq;go_wp2_with fail;go_roundg (its.length - (j+1))
    case measure=>omega
    case rel=>exact⟨j+1,by omega,by go_num,hb3,HA⟩
  ·have:j=its.length:=by omega
   subst this;have HA:Hid (¬its.any pr=true):=by
    intro h;obtain⟨x,hx,hp⟩:=List.any_eq_true.1 h;obtain⟨m,hm,rfl⟩:=List.mem_iff_getElem.1 hx;rw[HN.out m hm hm]at hp;cases hp
   clear HN;go_wp2_with fail;go_ret;exact⟨_,rfl,⟨fun h=>by omega,fun h=>absurd h HA.out⟩,hbr⟩
theorem afs {F:Nat->Prop} {w0:World} {Ok:World->Prop} (hO:OkW F w0 Ok) {nf:Nat} {caps:Array Value} (hcf:∀(ar:Array Value)(w:World),(callFunc nf ar).run prog w=.ok (.enter nf ar) w) {d:Nat} {pr:Lx.Alt->Bool} {R:Lx.Alt->Prop}
  (hf:∀(w':World)(va:Value)(it:Lx.Alt),Ok w'->bM YP d F w0 va it.1->R it->Calls prog nf (#[I8 va it]++caps) w' (uD w' (pr it)))
  {vi:Value} {its:List Lx.Alt} (hi:ay YP (d+1) F w0 vi its) (hR:∀it∈its,R it) {w:World} (hw:Ok w) :
  Calls prog 150 #[vi,.func (.func nf) #[] caps] w fun e w'=>∃q:Int,e=.returned (.int .i64 q)/\(0<=q↔its.any pr=true)/\Below w.heap.size w w':=by
 obtain⟨ia,ic,iK,him⟩:∃a c,vi=.slice a its.length c/\its.length<=maxLen:=ay.len hi;subst iK;unfold maxLen at him;go_enter func150,ntmps150;go_wp2_with fail
 go_loopg [8] its.length (fun k i wr=>∃j:Nat,j+k=its.length/\i=.int .i64 j/\Below w.heap.size w wr/\Hid (∀m(hm:m<its.length),m<j->pr its[m]=false))
 case atStart=>exact⟨0,by omega,rfl,Below.refl _ _,fun m _ h=>by omega⟩
 case round=>
  obtain⟨j,hk,rfl,hbr,HN⟩:=hrel;have hokr:=hO.up _ _ hw hbr
  by_cases hlt:j<its.length
  ·have hir:=hi
   obtain⟨n,sG,va,hv,hn,ha,hcc⟩:=Seq.at hir (fun _=>rfl) hlt;cases hv;have hRj:=hR its[j] (List.getElem_mem hlt);have hq:=hf wr va its[j] hokr ha hRj;obtain⟨sa,sc,hva,-⟩:∃a c,va=.slice a its[j].1.length c/\its[j].1.length<=maxLen:=Seq.len (show Tr.Seq F w0 YP.eI YP.sI YP.cI (fun va it=>ay YP d F w0 va it.alts) va its[j].1 from ha);subst hva;have en:=(hO.fr _ hokr n hn).1;have ln:=(hO.fr _ hokr n hn).2;have x0:wr.cell? ⟨n,j*2,none⟩=some (.slice sa its[j].1.length sc):=(World.cell?_of_block (w:=w0) en).trans (hcc 0 (by decide));have x1:wr.cell? ⟨n,j*2+1,none⟩=some (.string its[j].2.1):=(World.cell?_of_block (w:=w0) en).trans (hcc 1 (by decide));unfold I8 at hq;have HJ:Hid (∀b,pr its[j]=b->(b=true->its.any pr=true)/\(b=false->∀m(hm:m<its.length),m<j+1->pr its[m]=false)):=by
    intro b hb;refine⟨fun h=>List.any_eq_true.2 ⟨its[j],List.getElem_mem hlt,by rw[hb,h]⟩,fun h m hm hmj=>?_⟩
    by_cases Qx:m=j
    ·subst Qx;rw[hb,h]
    ·exact HN.out m hm (by omega)
   clear hcc hir HN;generalize hit:its[j]=it at hq x0 x1 HJ;clear hit;go_wp2_with fail;refine hq.mono ?_;rintro e w2⟨rfl,hb2⟩;have hb3:=hbr.trans (hb2.mono hbr.size);cases hp:pr it with
   |true=>
    have HJ2:=(HJ.out true hp).1 rfl;have HA:Hid (its.any pr=true):=HJ2;clear HJ HJ2 hp hq;go_wp2_with fail;go_ret;exact⟨_,rfl,⟨fun _=>HA.out,fun _=>by omega⟩,hb3⟩
   |false=>
    have HA:Hid _:=(HJ.out false hp).2 rfl;clear HJ hp hq;go_wp2_with fail;go_roundg (its.length - (j+1))
    case measure=>omega
    case rel=>exact⟨j+1,by omega,by go_num,hb3,HA⟩
  ·have:j=its.length:=by omega
   subst this;have HA:Hid (¬its.any pr=true):=by
    intro h;obtain⟨x,hx,hp⟩:=List.any_eq_true.1 h;obtain⟨m,hm,rfl⟩:=List.mem_iff_getElem.1 hx;rw[HN.out m hm hm]at hp;cases hp
   clear HN;go_wp2_with fail;go_ret;exact⟨_,rfl,⟨fun h=>by omega,fun h=>absurd h HA.out⟩,hbr⟩
theorem adH {F:Nat->Prop} {w0:World} {Ok:World->Prop} (hO:OkW F w0 Ok) {nf:Nat} {caps:Array Value} (hcf:∀(ar:Array Value)(w:World),(callFunc nf ar).run prog w=.ok (.enter nf ar) w) {d:Nat} {pr:Lx.It->Bool} {R:Lx.It->Prop}
  (hf:∀(w':World)(va:Value)(it:Lx.It),Ok w'->ay YP d F w0 va it.alts->R it->Calls prog nf (#[Dw va it]++caps) w' (uD w' (pr it)))
  {vi:Value} {its:List Lx.It} (hi:bM YP d F w0 vi its) (hR:∀it∈its,R it) {w:World} (hw:Ok w) :
  Calls prog 120 #[vi,.func (.func nf) #[] caps] w (uD w (its.any pr)):=by
 have hq:=aeP hO hcf hf hi hR hw;obtain⟨ia,ic,iK,-⟩:∃a c,vi=.slice a its.length c/\its.length<=maxLen:=Seq.len (show Tr.Seq F w0 YP.eI YP.sI YP.cI (fun va it=>ay YP d F w0 va it.alts) vi its from hi);subst iK;go_enter func120,ntmps120;go_wp2_with fail;refine hq.mono ?_;rintro e w2⟨q,rfl,hiff,hb⟩;have HQ:Hid (decide (0<=q)=its.any pr):=by
  show _=_;cases ha:its.any pr with
  |true=>exact decide_eq_true (hiff.2 ha)
  |false=>exact decide_eq_false fun h=>by rw[hiff.1 h]at ha;cases ha
 clear hiff hq;go_wp2_with fail;go_ret;refine⟨?_,hb⟩;rw[<-HQ.out];rfl
theorem TN {F:Nat->Prop} {w0:World} {Ok:World->Prop} (hO:OkW F w0 Ok) {nf:Nat} {caps:Array Value} (hcf:∀(ar:Array Value)(w:World),(callFunc nf ar).run prog w=.ok (.enter nf ar) w) {d:Nat} {pr:Lx.Alt->Bool} {R:Lx.Alt->Prop}
  (hf:∀(w':World)(va:Value)(it:Lx.Alt),Ok w'->bM YP d F w0 va it.1->R it->Calls prog nf (#[I8 va it]++caps) w' (uD w' (pr it)))
  {vi:Value} {its:List Lx.Alt} (hi:ay YP (d+1) F w0 vi its) (hR:∀it∈its,R it) {w:World} (hw:Ok w) :
  Calls prog 118 #[vi,.func (.func nf) #[] caps] w (uD w (its.any pr)):=by
 have hq:=afs hO hcf hf hi hR hw;obtain⟨ia,ic,iK,-⟩:∃a c,vi=.slice a its.length c/\its.length<=maxLen:=ay.len hi;subst iK;go_enter func118,ntmps118;go_wp2_with fail;refine hq.mono ?_;rintro e w2⟨q,rfl,hiff,hb⟩;have HQ:Hid (decide (0<=q)=its.any pr):=by
  show _=_;cases ha:its.any pr with
  |true=>exact decide_eq_true (hiff.2 ha)
  |false=>exact decide_eq_false fun h=>by rw[hiff.1 h]at ha;cases ha
 clear hiff hq;go_wp2_with fail;go_ret;refine⟨?_,hb⟩;rw[<-HQ.out];rfl
theorem WG(ar:Array Value)(w:World):(callFunc 119 ar).run prog w=.ok (.enter 119 ar) w:=by kernel_rfl
theorem agz(ar:Array Value)(w:World):(callFunc 121 ar).run prog w=.ok (.enter 121 ar) w:=by kernel_rfl
def Ah(P:ByteArray->Prop)(it:Lx.It):Prop:=it.kind<=2/\(it.kind=0->P it.name)
structure GH(Ok:World->Prop)(nf:Nat)(caps:Array Value)(on:ByteArray->Bool)(P:ByteArray->Prop):Prop where
 cf:∀(ar:Array Value)(w:World),(callFunc nf ar).run prog w=.ok (.enter nf ar) w
 says:∀(w':World)(b:ByteArray),Ok w'->P b->Calls prog nf (#[.string b]++caps) w' (uD w' (on b))
def Bz(d:Nat):Prop:=∀(F:Nat->Prop)(w0:World)(Ok:World->Prop),OkW F w0 Ok->∀(nf:Nat)(caps:Array Value)(on:ByteArray->Bool)(P:ByteArray->Prop),GH Ok nf caps on P ->
 ∀(v:Value)(l:List Lx.Alt),ay YP d F w0 v l->(∀it∈cu d l,Ah P it)->∀w,Ok w->Calls prog 86 #[v,.func (.func nf) #[] caps] w (uD w (iw on d l))
theorem aeh {d:Nat} (IH:Bz d) {F:Nat->Prop} {w0:World} {Ok:World->Prop} (hO:OkW F w0 Ok) {nf:Nat} {caps:Array Value} {on:ByteArray->Bool} {P:ByteArray->Prop} (hN:GH Ok nf caps on P)
  {va:Value} {it:Lx.It} (ha:ay YP d F w0 va it.alts) (hi:∀x∈sJ d it,Ah P x) {w:World} (hw:Ok w) :
  Calls prog 122 #[Dw va it,.func (.func nf) #[] caps] w (uD w (fQ on d it)):=by
 obtain⟨sa,sc,hva,-⟩:=ay.len ha;subst hva;have hit:=hi it List.mem_cons_self;have hsub:∀x∈cu d it.alts,Ah P x:=fun x hx=>hi x (List.mem_cons_of_mem _ hx)
 unfold Dw;obtain⟨W,hW⟩:∃W,W=w.alloc (.cells #[.int .i64 (it.kind:Int),.string it.name,.int .u8 (it.mark:Int),.slice sa it.alts.length sc] 187):=⟨_,rfl⟩;have hB:Below w.heap.size w W:=by rw[hW];exact(Below.refl _ _).alloc (zL0) _
 have xL:=hO.up _ _ hw hB;have hcf:=hN.cf;have HE:Hid (fQ on d it=(decide (it.kind=1) || decide (it.mark=42) || decide (it.mark=63) || (decide (it.kind=0) && on it.name) || (decide (it.kind=2) && iw on d it.alts))):=rfl;go_enter func122,ntmps122
 by_cases h1:it.mark=42\/it.mark=63\/it.kind=1
 ·have HT:Hid (fQ on d it=true):=by
   show _=_;rw[HE.out];rcases h1 with h|h|h <;> simp[h]
  have hcase:(it.mark=42)\/(it.mark≠42/\it.mark=63)\/(it.mark≠42/\it.mark≠63/\it.kind=1):=by
   rcases h1 with h|h|h
   ·exact .inl h
   ·exact .inr (.inl ⟨by omega,h⟩)
   ·by_cases h2:it.mark=42
    ·exact .inl h2
    ·by_cases h3:it.mark=63
     ·exact .inr (.inl ⟨h2,h3⟩)
     ·exact .inr (.inr ⟨h2,h3,h⟩)
  clear h1;rcases hcase with h|⟨h,h'⟩|⟨h,h',h''⟩
  ·have q1:((it.mark:Int) == 42)=true:=by simp[h]
   clear h;go_wp2_with fail;go_ret;exact⟨by rw[HT.out];rfl,hW▸hB⟩
  ·have q1:((it.mark:Int) == 42)=false:=zB0 (by omega)
   have q2:((it.mark:Int) == 63)=true:=by simp[h']
   clear h h';go_wp2_with fail;go_ret;exact⟨by rw[HT.out];rfl,hW▸hB⟩
  ·have q1:((it.mark:Int) == 42)=false:=zB0 (by omega)
   have q2:((it.mark:Int) == 63)=false:=zB0 (by omega);have q3:((it.kind:Int) == 1)=true:=by simp[h'']
   clear h h' h'';go_wp2_with fail;go_ret;exact⟨by rw[HT.out];rfl,hW▸hB⟩
 ·have h2:it.mark≠42/\it.mark≠63/\it.kind≠1:=⟨fun e=>h1 (.inl e),fun e=>h1 (.inr (.inl e)),fun e=>h1 (.inr (.inr e))⟩
  have q1:((it.mark:Int) == 42)=false:=zB0 (by omega);have q2:((it.mark:Int) == 63)=false:=zB0 (by omega);have q3:((it.kind:Int) == 1)=false:=zB0 (by omega);clear h1
  by_cases h0:it.kind=0
  ·have HT:Hid (fQ on d it=on it.name):=by
    show _=_;rw[HE.out];simp[h0,h2.1,h2.2.1]
   have q4:((it.kind:Int) == 0)=true:=by simp[h0]
   have hs:=hN.says W it.name xL (hit.2 h0);clear h0 h2 HE hit;go_wp2_with fail;rw[<-hW];refine hs.mono ?_;rintro e w2⟨rfl,hb2⟩;go_wp2_with fail;go_ret;exact⟨by rw[HT.out];rfl,hB.trans (hb2.mono hB.size)⟩
  ·have hk2:it.kind=2:=by have:=hit.1;omega
   have HT:Hid (fQ on d it=iw on d it.alts):=by
    show _=_;rw[HE.out];simp[hk2,h2.1,h2.2.1]
   have q4:((it.kind:Int) == 0)=false:=zB0 (by omega);have hs:=IH F w0 Ok hO nf caps on P hN _ _ ha hsub W xL;clear h0 h2 HE hit hk2;go_wp2_with fail;rw[<-hW];refine hs.mono ?_;rintro e w2⟨rfl,hb2⟩;go_wp2_with fail;go_ret;exact⟨by rw[HT.out];rfl,hB.trans (hb2.mono hB.size)⟩
theorem OkW.box{F:Nat->Prop}{w0:World}{Ok:World->Prop}(h:OkW F w0 Ok)(eb:Nat)(v:Value):OkW F w0 (fun w=>Ok w/\aj w eb #[v] 40) :=
 ⟨fun w hw b hb=>h.fr w hw.1 b hb,fun w w' hw hb=>⟨h.up w w' hw.1 hb,(hb.block eb hw.2.lt).trans hw.2⟩⟩
theorem agA {d:Nat} (IH:Bz d) {F:Nat->Prop} {w0:World} {Ok:World->Prop} (hO:OkW F w0 Ok) {nf:Nat} {caps:Array Value} {on:ByteArray->Bool} {P:ByteArray->Prop} (hN:GH Ok nf caps on P) {eb:Nat}
  {va:Value} {it:Lx.It} (ha:ay YP d F w0 va it.alts) (hi:∀x∈sJ d it,Ah P x) {w:World} (hw:Ok w) (he:aj w eb #[.func (.func nf) #[] caps] 40) :
  Calls prog 121 #[Dw va it,.pointer (some ⟨eb,0,none⟩)] w (uD w (!fQ on d it)):=by
 obtain⟨sa,sc,hva,-⟩:=ay.len ha;subst hva;obtain⟨W,hW⟩:∃W,W=w.alloc (.cells #[.int .i64 (it.kind:Int),.string it.name,.int .u8 (it.mark:Int),.slice sa it.alts.length sc] 187):=⟨_,rfl⟩;have hB:Below w.heap.size w W:=by rw[hW];exact(Below.refl _ _).alloc (zL0) _
 have xL:=hO.up _ _ hw hB;have q:=aeh IH hO hN ha hi xL;have c0:w.cell? ⟨eb,0,none⟩=some (.func (.func nf) #[] caps):=he.cell 0;have le:=he.lt;unfold Dw at q|-;go_enter func121,ntmps121;go_wp2_with fail;rw[<-hW];refine q.mono ?_;rintro e w2⟨rfl,hb2⟩;go_wp2_with fail;go_ret;exact⟨rfl,hB.trans (hb2.mono hB.size)⟩
theorem agB {d:Nat} (IH:Bz d) {F:Nat->Prop} {w0:World} {Ok:World->Prop} (hO:OkW F w0 Ok) {nf:Nat} {caps:Array Value} {on:ByteArray->Bool} {P:ByteArray->Prop} (hN:GH Ok nf caps on P) {eb:Nat}
  {vi:Value} {a:Lx.Alt} (ha:bM YP d F w0 vi a.1) (hi:∀x∈pX d a.1,Ah P x) {w:World} (hw:Ok w) (he:aj w eb #[.func (.func nf) #[] caps] 40) :
  Calls prog 119 #[I8 vi a,.pointer (some ⟨eb,0,none⟩)] w (uD w (a.1.all (fQ on d))):=by
 obtain⟨ia,ic,iK,-⟩:∃x c,vi=.slice x a.1.length c/\a.1.length<=maxLen:=Seq.len (show Tr.Seq F w0 YP.eI YP.sI YP.cI (fun va it=>ay YP d F w0 va it.alts) vi a.1 from ha);subst iK;obtain⟨W,hW⟩:∃W,W=w.alloc (.cells #[.slice ia a.1.length ic,.string a.2.1] 195):=⟨_,rfl⟩;have hB:Below w.heap.size w W:=by rw[hW];exact(Below.refl _ _).alloc (zL0) _
 have xL:=hO.up _ _ hw hB;have heW:aj W eb #[.func (.func nf) #[] caps] 40:=(hB.block eb he.lt).trans he;have q:=adH (hO.box eb (.func (.func nf) #[] caps)) agz (caps:=#[.pointer (some ⟨eb,0,none⟩)]) (pr:=fun it=>!fQ on d it) (R:=fun it=>∀x∈sJ d it,Ah P x)
  (fun w' va it hw' ha' hr=>agA IH hO hN ha' hr hw'.1 hw'.2) ha (fun it hit x hx=>hi x (List.mem_flatMap.2 ⟨it,hit,hx⟩)) ⟨xL,heW⟩
 have HA:Hid (a.1.all (fQ on d)=!(a.1.any fun it=>!fQ on d it)):=by
  show _=_;rw[List.not_any_eq_all_not];congr 1;funext x;simp
 unfold I8;go_enter func119,ntmps119;go_wp2_with fail;rw[<-hW];refine q.mono ?_;rintro e w2⟨rfl,hb2⟩;go_wp2_with fail;go_ret;exact⟨by rw[HA.out];rfl,hB.trans (hb2.mono hB.size)⟩
theorem aei:Bz 0:=by
 intro F w0 Ok hO nf caps on P hN v l hl hi w hw;have hl1:=ay.up hl;obtain⟨rfl,rfl⟩:=hl;obtain⟨W,hW⟩:∃W,W=w.alloc (.cells #[.func (.func nf) #[] caps] 40):=⟨_,rfl⟩;have hB:Below w.heap.size w W:=by rw[hW];exact(Below.refl _ _).alloc (zL0) _
 have xL:=hO.up _ _ hw hB;have q:=TN hO WG (caps:=#[.pointer (some ⟨w.heap.size,0,none⟩)]) (pr:=fun _=>false) (R:=fun _=>False) (fun _ _ _ _ _ hr=>hr.elim) hl1 (fun it hit=>by cases hit) xL;go_enter func86,ntmps86;go_wp2_with fail;rw[<-hW];refine q.mono ?_;rintro e w2⟨rfl,hb2⟩;go_wp2_with fail;go_ret;exact⟨rfl,hB.trans (hb2.mono hB.size)⟩
theorem aej{d:Nat}(IH:Bz d):Bz (d+1):=by
 intro F w0 Ok hO nf caps on P hN v l hl hi w hw;obtain⟨va,vc,hv,-⟩:=ay.len hl;subst hv;obtain⟨W,hW⟩:∃W,W=w.alloc (.cells #[.func (.func nf) #[] caps] 40):=⟨_,rfl⟩;have hB:Below w.heap.size w W:=by rw[hW];exact(Below.refl _ _).alloc (zL0) _
 have xL:=hO.up _ _ hw hB;have he:aj W w.heap.size #[.func (.func nf) #[] caps] 40:=by rw[hW];exact aj.new w _ 40
 have q:=TN (hO.box w.heap.size (.func (.func nf) #[] caps)) WG (caps:=#[.pointer (some ⟨w.heap.size,0,none⟩)]) (pr:=fun a=>a.1.all (fQ on d)) (R:=fun a=>∀x∈pX d a.1,Ah P x)
  (fun w' vi a hw' ha' hr=>agB IH hO hN ha' hr hw'.1 hw'.2) hl (fun a ha x hx=>hi x (by rw[tY];exact List.mem_flatMap.2 ⟨a,ha,hx⟩)) ⟨xL,he⟩
 rw[Vj];go_enter func86,ntmps86;go_wp2_with fail;rw[<-hW];refine q.mono ?_;rintro e w2⟨rfl,hb2⟩;go_wp2_with fail;go_ret;exact⟨rfl,hB.trans (hb2.mono hB.size)⟩
theorem VD:∀d,Bz d
 |0=>aei
 |d+1=>aej (VD d)
end Go.Proofs.YtjaalkocdbkdeaaGreatDoor

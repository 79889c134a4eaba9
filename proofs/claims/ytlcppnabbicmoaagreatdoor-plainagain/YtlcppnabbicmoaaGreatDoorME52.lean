import Derived.Test.YtlcppnabbicmoaaGreatDoorME51
set_option maxHeartbeats 8000000
set_option maxRecDepth 1000000
namespace Go.Proofs.YtlcppnabbicmoaaGreatDoor
open Go.RowKit
open Tr
theorem print_all {w w':World}{s:ByteArray}{e:Ending}(h:PrintEnds w s e w'):∃ T,∃ n a:Nat,e=.returned (.tuple #[.string T,.int .i64 (n:Int),.int .i64 (a:Int)])/\Below w.heap.size w w'/\T.size<=5000000/\(n=0->T.size<=2000->Lx.mkA T=Lx.mkA s):=by
 cases hr:Lx.parse s with
 | ok g =>
  unfold PrintEnds at h;rw[hr]at h;exact⟨_,0,0,h.2,h.1,Lx.plain_size hr,fun _ hz=>Lx.mkA_plain hr hz⟩
 | error x =>
  obtain⟨n,a⟩:=x;unfold PrintEnds at h;rw[hr]at h;exact⟨_,n,a,h.2,h.1,by decide,fun h0=>absurd h0 (by have:=Lx.parse_pos hr;omega)⟩
theorem PlPB.slices {B:Nat}{w:World}{v:Value}{T N:List ByteArray}{P:List Lx.Pd}{Bs Ks:List Nat}(h:PlPB B w v T N P Bs Ks):∃ ta tc na nc pa pc ba bc ka kc,v=.agg #[.slice ta T.length tc,.slice na N.length nc,.slice pa P.length pc,.slice ba Bs.length bc,.slice ka Ks.length kc]/\P.length<=maxLen:=by
 obtain⟨vT,vN,vP,vB,vK,rfl,oT,oN,⟨ps,p1,p2,-⟩,oB,oK,-⟩:=h;obtain⟨ta,tc,rfl,-⟩:=own_len oT;obtain⟨na,nc,rfl,-⟩:=own_len oN;obtain⟨pa,pc,rfl,hpm⟩:=own_len p2;obtain⟨ba,bc,rfl,-⟩:=own_len oB;obtain⟨ka,kc,rfl,-⟩:=own_len oK;exact⟨ta,tc,na,nc,pa,pc,ba,bc,ka,kc,rfl,hpm⟩
theorem PlInB.slices {B:Nat}{w:World}{v:Value}{T N:List ByteArray}{P:List Lx.Pd}{Bs Ks:List Nat}(h:PlInB B w v T N P Bs Ks):∃ ta tc na nc pa pc ba bc ka kc,v=.agg #[.slice ta T.length tc,.slice na N.length nc,.slice pa P.length pc,.slice ba Bs.length bc,.slice ka Ks.length kc]:=by
 obtain⟨vT,vN,vP,vB,vK,rfl,oT,oN,⟨ps,p1,p2,-⟩,oB,oK,-⟩:=h;obtain⟨ta,tc,rfl,-⟩:=own_len oT;obtain⟨na,nc,rfl,-⟩:=own_len oN;obtain⟨pa,pc,rfl,hpm⟩:=own_len p2;obtain⟨ba,bc,rfl,-⟩:=own_len oB;obtain⟨ka,kc,rfl,-⟩:=own_len oK;exact⟨ta,tc,na,nc,pa,pc,ba,bc,ka,kc,rfl⟩
theorem blk_five {w:World}{b t:Nat}{x0 x1 x2 x3 x4:Value}(h:Blk w b #[x0,x1,x2,x3,x4] t):w.cell? ⟨b,0,none⟩=some x0/\w.cell? ⟨b,1,none⟩=some x1/\w.cell? ⟨b,2,none⟩=some x2/\w.cell? ⟨b,3,none⟩=some x3/\w.cell? ⟨b,4,none⟩=some x4:=⟨h.cell 0,h.cell 1,h.cell 2,h.cell 3,h.cell 4⟩
theorem PlPB.below {B:Nat}{w w':World}{v:Value}{T N:List ByteArray}{P:List Lx.Pd}{Bs Ks:List Nat}(h:PlPB B w v T N P Bs Ks)(hb:Below w.heap.size w w'):PlPB B w' v T N P Bs Ks:=by
 obtain⟨vT,vN,vP,vB,vK,rfl,h1,h2,⟨ps,p1,p2,p3,p4⟩,h4,h5,h6⟩:=h;exact⟨vT,vN,vP,vB,vK,rfl,own_below h1 hb,own_below h2 hb,⟨ps,p1,own_below p2 hb,fun q hq=>⟨own_below (p3 q hq).1 hb,(p3 q hq).2⟩,p4⟩,own_below h4 hb,own_below h5 hb,h6⟩
theorem PlInB.below {B:Nat}{w w':World}{v:Value}{T N:List ByteArray}{P:List Lx.Pd}{Bs Ks:List Nat}(h:PlInB B w v T N P Bs Ks)(hb:Below w.heap.size w w'):PlInB B w' v T N P Bs Ks:=by
 obtain⟨vT,vN,vP,vB,vK,rfl,h1,h2,⟨ps,p1,p2,p3⟩,h4,h5,h6⟩:=h;exact⟨vT,vN,vP,vB,vK,rfl,own_below h1 hb,own_below h2 hb,⟨ps,p1,own_below p2 hb,fun q hq=>⟨own_below (p3 q hq).1 hb,(p3 q hq).2⟩⟩,own_below h4 hb,own_below h5 hb,h6⟩
theorem PlInB.spoilt {Bd j:Nat}{w wz:World}{v vP:Value}{T N:List ByteArray}{P:List Lx.Pd}{Bs Ks:List Nat}{ps:List (Value × Lx.Pd)}{xs:List Value}(h:PlInB Bd w v T N P Bs Ks)(hS:SpP w vP ps j wz)(hP:w.ownsRow 0 58 3 vP ps.length xs)(hR:∀ q,q∈ps->IR 0 w q.1 q.2.right)(hlt:∀ q,q∈ps->∀ g,q.1.ownBlock=some g->g<Bd):PlIn wz v T N P Bs Ks:=by
 have ty:∀ {e z e' z' n n':Nat} {u u':Value} {ys ys':List Value},w.ownsRow 0 e z u n ys->w.ownsRow 0 e' z' u' n' ys'->e≠e'->∀ g,u.ownBlock=some g->u'.ownBlock≠some g:=by
  intro e z e' z' n n' u u' ys ys' h1 h2 hne g hg hg2;obtain⟨c1,e1⟩:=own_cells h1 hg;obtain⟨c2,e2⟩:=own_cells h2 hg2;rw[e1]at e2;have e3:=Option.some.inj e2;injection e3 with _ h3
  exact hne h3
 have kT:∀ {e z n:Nat} {u:Value} {ys:List Value},w.ownsRow 0 e z u n ys->e≠58->e≠3->∀ g,u.ownBlock=some g->wz.heap[g]?=w.heap[g]?:=fun ho h1 h2 g hg=>hS.fr g (ty ho hP h1 g hg) (fun q hq=>ty ho (hR q (List.mem_of_mem_take hq)) h2 g hg)
 have kB:∀ {u:Value} {r:List Nat},IR 0 w u r->(∀ g,u.ownBlock=some g->Bd<=g)->∀ g,u.ownBlock=some g->wz.heap[g]?=w.heap[g]?:=fun ho hb g hg=>hS.fr g (ty ho hP (by decide) g hg) (fun q hq e=>by have:=hlt q (List.mem_of_mem_take hq) g e;have:=hb g hg;omega)
 obtain⟨vT,vN,vP',vB,vK,rfl,h1,h2,⟨ps',p1,p2,p3⟩,h4,h5,h6,h7⟩:=h;exact⟨vT,vN,vP',vB,vK,rfl,own_move h1 (kT h1 (by decide) (by decide)),own_move h2 (kT h2 (by decide) (by decide)),⟨ps',p1,own_move p2 (kT p2 (by decide) (by decide)),fun q hq=>⟨own_move (p3 q hq).1 (kB (p3 q hq).1 (p3 q hq).2),fun _ _=>trivial⟩⟩,own_move h4 (kB h4 h6),own_move h5 (kB h5 h7)⟩
theorem PlainAgain_any (s:ByteArray)(w:World)(hmax:s.size<=maxLen)(ht:Tab w):Calls Tryz.prog 7 #[.string s] w fun e w'=>e=.returned (.bool true)/\Below w.heap.size w w':=by
 have q1:=Print_any s w hmax;go_enter Tryz.func7,Tryz.ntmps7;go_wp2_with fail;refine q1.mono ?_;intro e w1 he1;obtain⟨T,n1,a1,rfl,hb1,hTs,hTA⟩:=print_all he1;have HTA:Hid (n1=0->T.size<=2000->Lx.mkA T=Lx.mkA s):=hTA;clear q1 he1 hTA;have q2:=make_ans s w1 hmax (ht.move (hb1.block _ ht.lt));go_wp2_with fail;refine q2.mono ?_;rintro e w2 ⟨v2,a2,rfl,hb2,hp2⟩;clear q2;obtain⟨xa0,xc0,xa1,xc1,xa2,xc2,xa3,xc3,xa4,xc4,rfl,hPm⟩:=hp2.slices;unfold maxLen at hPm;generalize hA:Lx.mkA s=A at HTA hp2 hPm ⊢;obtain⟨W2,hW2⟩:∃ W2,W2=w2.alloc (.cells #[.slice xa0 A.tok.length xc0,.slice xa1 A.nam.length xc1,.slice xa2 A.prod.length xc2,.slice xa3 A.bs.length xc3,.slice xa4 A.ks.length xc4] 26):=⟨_,rfl⟩;have hbW2:Below w2.heap.size w2 W2:=by rw[hW2];exact (Below.refl _ _).alloc (Nat.le_refl _) _
 have kp:Blk W2 w2.heap.size #[.slice xa0 A.tok.length xc0,.slice xa1 A.nam.length xc1,.slice xa2 A.prod.length xc2,.slice xa3 A.bs.length xc3,.slice xa4 A.ks.length xc4] 26:=by rw[hW2];exact Blk.new w2 _ 26
 have hs1:=hb1.size;have hs2:=hb2.size;have hsW2:W2.heap.size=w2.heap.size+1:=by rw[hW2];simp
 have hb02:Below w.heap.size w W2:=hb1.trans ((hb2.trans (hbW2.mono hs2)).mono hs1);have q3:=make_ans T W2 (by unfold maxLen;omega) (ht.move (hb02.block _ ht.lt));go_wp2_with fail;rw[<-hW2];clear hW2;refine q3.mono ?_;rintro e w3 ⟨v3,a3,rfl,hb3,hp3⟩;clear q3;obtain⟨ya0,yc0,ya1,yc1,ya2,yc2,ya3,yc3,ya4,yc4,rfl,-⟩:=hp3.slices;generalize hB:Lx.mkA T=B at HTA hp3 ⊢;clear hB;obtain⟨W3,hW3⟩:∃ W3,W3=w3.alloc (.cells #[.slice ya0 B.tok.length yc0,.slice ya1 B.nam.length yc1,.slice ya2 B.prod.length yc2,.slice ya3 B.bs.length yc3,.slice ya4 B.ks.length yc4] 26):=⟨_,rfl⟩;have hbW3:Below w3.heap.size w3 W3:=by rw[hW3];exact (Below.refl _ _).alloc (Nat.le_refl _) _
 have kq:Blk W3 w3.heap.size #[.slice ya0 B.tok.length yc0,.slice ya1 B.nam.length yc1,.slice ya2 B.prod.length yc2,.slice ya3 B.bs.length yc3,.slice ya4 B.ks.length yc4] 26:=by rw[hW3];exact Blk.new w3 _ 26
 have hs3:=hb3.size;have hsW3:W3.heap.size=w3.heap.size+1:=by rw[hW3];simp
 have hb23:Below W2.heap.size W2 W3:=hb3.trans (hbW3.mono hs3);have hb03:Below w.heap.size w W3:=hb02.trans (hb23.mono hb02.size);have q4:=docMake_ans s W3;rw[hA]at q4;go_wp2_with fail;rw[<-hW3];clear hW3;refine q4.mono ?_;rintro e w4 ⟨v4,a4,rfl,hb4,hp4⟩;clear q4;obtain⟨za0,zc0,za1,zc1,za2,zc2,za3,zc3,za4,zc4,rfl⟩:=hp4.slices;obtain⟨W4,hW4⟩:∃ W4,W4=w4.alloc (.cells #[.slice za0 A.tok.length zc0,.slice za1 A.nam.length zc1,.slice za2 A.prod.length zc2,.slice za3 A.bs.length zc3,.slice za4 A.ks.length zc4] 32):=⟨_,rfl⟩;have hbW4:Below w4.heap.size w4 W4:=by rw[hW4];exact (Below.refl _ _).alloc (Nat.le_refl _) _
 have kr:Blk W4 w4.heap.size #[.slice za0 A.tok.length zc0,.slice za1 A.nam.length zc1,.slice za2 A.prod.length zc2,.slice za3 A.bs.length zc3,.slice za4 A.ks.length zc4] 32:=by rw[hW4];exact Blk.new w4 _ 32
 have hs4:=hb4.size;have hsW4:W4.heap.size=w4.heap.size+1:=by rw[hW4];simp
 have hb34:Below W3.heap.size W3 W4:=hb4.trans (hbW4.mono hs4);have hb04:Below w.heap.size w W4:=hb03.trans (hb34.mono hb03.size);have qa:=alive_any W4 (ht.move (hb04.block _ ht.lt))
 by_cases hn1:n1=0
 ·subst hn1
  by_cases hz:T.size<=2000
  ·have hAB:=HTA.out rfl hz
   subst hAB;clear HTA qa;have hzi:¬ (2000:Int)<(T.size:Int):=by omega
   have pl2:PlP W4 _ B.tok B.nam B.prod B.bs B.ks:=(hp2.below (hbW2.trans ((hb23.trans (hb34.mono hb23.size)).mono hbW2.size))).pl;have pl3:PlP W4 _ B.tok B.nam B.prod B.bs B.ks:=(hp3.below (hbW3.trans (hb34.mono hbW3.size))).pl;have pi4:=hp4.below hbW4;have kp4:Blk W4 w2.heap.size _ 26:=((hb23.trans (hb34.mono hb23.size)).block _ kp.lt).trans kp;have kq4:Blk W4 w3.heap.size _ 26:=(hb34.block _ kq.lt).trans kq;have qs:=same_any pl2 pi4.pl;obtain⟨a0,a1,a2',a3',a4'⟩:=blk_five kp4;obtain⟨d0,d1,d2,d3,d4⟩:=blk_five kr;have hW4':=hW4.symm;clear hW4
   go_wp2_with (first | (go_at_call 12;refine (num_any _ _).mono ?_;rintro e w' ⟨rfl,hw'⟩;obtain rfl:=hw'.symm) | fail)
   refine qs.mono ?_;rintro e w5 ⟨rfl,hb5⟩;clear qs a0 a1 a2' a3' a4' d0 d1 d2 d3 d4 hW4';have kq5:Blk w5 w3.heap.size _ 26:=(hb5.block _ kq4.lt).trans kq4;have kr5:Blk w5 w4.heap.size _ 32:=(hb5.block _ kr.lt).trans kr;have kp5:Blk w5 w2.heap.size _ 26:=(hb5.block _ kp4.lt).trans kp4;have qs:=same_any (pl3.below hb5) (pi4.below hb5).pl;obtain⟨a0,a1,a2',a3',a4'⟩:=blk_five kq5;obtain⟨d0,d1,d2,d3,d4⟩:=blk_five kr5;go_wp2_with fail;refine qs.mono ?_;rintro e w6 ⟨rfl,hb6⟩;clear qs a0 a1 a2' a3' a4' d0 d1 d2 d3 d4;have kr6:Blk w6 w4.heap.size _ 32:=(hb6.block _ kr5.lt).trans kr5;have kp6:Blk w6 w2.heap.size _ 26:=(hb6.block _ kp5.lt).trans kp5;clear kq4 kq5 kr kr5 kp kp4 kp5 kq pl2 pl3 hp3;have hb26:Below w2.heap.size w2 w6:=hbW2.trans (((hb23.trans (hb34.mono hb23.size)).trans ((hb5.trans (hb6.mono hb5.size)).mono (by have:=hb23.size;have:=hb34.size;omega))).mono hbW2.size);obtain⟨vT,vN,vP,vB,vK,hv,-,-,⟨ps,p1,p20,p30,p4⟩,-,-,h6⟩:=hp2;have p2:=own_below p20 hb26;have p3:∀ q,q∈ps->IR 0 w6 q.1 q.2.right/\∀ g,q.1.ownBlock=some g->w1.heap.size<=g:=fun q hq=>⟨own_below (p30 q hq).1 hb26,(p30 q hq).2⟩
   have pb:∀ q,q∈ps->∀ g,q.1.ownBlock=some g->g<w2.heap.size:=fun q hq g hg=>((p30 q hq).1.lt g hg).2
   clear p20 p30;injection hv with hv
   injection hv with hv
   injection hv with _ hv
   injection hv with _ hv
   injection hv with hv _
   subst hv;have hpl:B.prod.length=ps.length:=by rw[<-p1,List.length_map]
   rw[hpl]at p2 hPm kp6 h6 ⊢;have HPL:Hid (B.prod.length=ps.length):=hpl;clear hpl;have SP:=SpP.start p2;have hb06:Below w.heap.size w w6:=(hb1.trans (hb2.mono hs1)).trans (hb26.mono (by omega));have hnp:∀ q,q∈ps->∀ g,(Value.slice xa2 ps.length xc2).ownBlock=some g->q.1.ownBlock≠some g:=by
    intro q hq g hg hg2;obtain⟨c1,e1⟩:=own_cells p2 hg;obtain⟨c2,e2⟩:=own_cells (p3 q hq).1 hg2;rw[e1]at e2;cases e2
   have hn6:(Value.slice xa2 ps.length xc2).ownBlock≠some w2.heap.size:=fun e=>own_ne p2 kp6 (by decide) _ e rfl
   have hq6:∀ q,q∈ps->q.1.ownBlock≠some w2.heap.size:=fun q hq e=>own_ne (p3 q hq).1 kp6 (by decide) _ e rfl
   go_wp2_with fail
   go_loopg [17] ps.length (fun k i wr=>∃ (j:Nat),j+k=ps.length/\i=.int .i64 j/\SpP w6 (.slice xa2 ps.length xc2) ps j wr)
   case atStart=>exact⟨0,by omega,rfl,SP⟩
   case round =>
    clear SP;revert wr;intro wz hrel;obtain⟨j,hkj,rfl,hS⟩:=hrel;have kpr:Blk wz w2.heap.size _ 26:=(hS.fr _ hn6 (fun q hq=>hq6 q (List.mem_of_mem_take hq))).trans kp6;have a2':wz.cell? ⟨w2.heap.size,2,none⟩=some (.slice xa2 ps.length xc2):=kpr.cell 2
    by_cases hlt:j<ps.length
    ·obtain⟨gP,cP,hvP,-,lgP⟩:=hS.own.form (by omega)
     cases hvP;have hr1:=hS.right hlt;have hgp:=hnp _ (List.getElem_mem hlt) gP rfl;have hvq:=hq6 _ (List.getElem_mem hlt);have hri:IR 0 wz ps[j].1 ps[j].2.right:=own_move (p3 _ (List.getElem_mem hlt)).1 fun x hx=>hS.fr x (fun e=>hnp _ (List.getElem_mem hlt) x e hx) (fun q hq e=>by
      obtain⟨i,hi,rfl⟩:=List.mem_iff_getElem.1 hq;have hi':i<j:=by rw[List.length_take]at hi;omega
      rw[List.getElem_take]at e;exact List.pairwise_iff_getElem.1 p4 i j (by omega) hlt hi' x e hx)
     have RP:=RowP.start hri;have HN:=fun w' (h:RowP wz ps[j].1 ps[j].2.right.length ps[j].2.right.length w')=>hS.next hlt h p4 (fun q hq=>hnp q hq gP rfl)
     have kgz:∃ cs,Blk wz gP cs 58:=own_cells hS.own rfl;obtain⟨cs,kg⟩:=kgz;have hc0:∃ o,wz.cell? ⟨gP,j*3,none⟩=some o:=by
      rw[hS.own.cellAt (j*3) (by omega),show j*3=j*3+0 by omega,flat3 pdS_len _ j 0 (by rw[mixP_len];exact hlt) (by decide)];exact⟨_,rfl⟩
     obtain⟨o0,hc0⟩:=hc0;generalize ps[j]=q at hr1 hgp hvq hri RP HN;obtain⟨v,pd⟩:=q;obtain⟨ra,rc,hv,hrm⟩:=own_len hri;have hv':v=.slice ra pd.right.length rc:=hv;subst hv';unfold maxLen at hrm;generalize pd.right.length=n at hr1 hgp hvq hri RP HN hrm;clear hri;go_wp2_with fail
     go_loopg [18] n (fun k i wr=>∃ (t:Nat),t+k=n/\i=.int .i64 t/\RowP wz (.slice ra n rc) n t wr)
     case atStart=>exact⟨0,by omega,rfl,RP⟩
     case round =>
      clear RP;obtain⟨t,hkt,rfl,hR⟩:=hrel;have kpr2:Blk wr w2.heap.size _ 26:=(hR.fr _ hvq).trans kpr;have kgr:Blk wr gP cs 58:=(hR.fr _ hgp).trans kg;have b2:wr.cell? ⟨w2.heap.size,2,none⟩=some (.slice (some ⟨gP,0,none⟩) ps.length xc2):=kpr2.cell 2;have b1:wr.cell? ⟨gP,j*3+1,none⟩=some (.slice ra n rc):=(World.cell?_of_block (w:=wz) (hR.fr _ hgp)).trans hr1;have b0:wr.cell? ⟨gP,j*3,none⟩=some o0:=(World.cell?_of_block (w:=wz) (hR.fr _ hgp)).trans hc0;have bf:∀ i,wr.frozen? ⟨gP,i,none⟩=false:=kgr.frozen
      by_cases hlt2:t<n
      ·obtain⟨xs,hxo,hxn⟩:=hR.own
       obtain⟨gr,cr,hvr,-,lgr⟩:=hxo.form (by omega);cases hvr;obtain⟨c3,kr3⟩:=own_cells hxo (g:=gr) rfl;have kr3':Blk wr gr c3 3:=kr3;have rf:∀ i,wr.frozen? ⟨gr,i,none⟩=false:=kr3'.frozen;have hxl:t<xs.length:=by have:=hxo.1;omega
       have rcell:wr.cell? ⟨gr,t,none⟩=some xs[t]:=by rw[hxo.cellAt t (by omega),List.getElem?_eq_getElem hxl]
       have hput:=hR.put hlt2;unfold nine at hput;go_wp2_with fail;go_roundg (n - (t+1))
       case measure=>omega
       case rel=>exact⟨t+1,by omega,by go_num,hput⟩
      ·have hte:t=n:=by omega
       subst hte;have hNx:=HN wr hR;unfold nine at hNx;go_wp2_with fail;go_roundg (ps.length - (j+1))
       case measure=>omega
       case rel=>exact⟨j+1,by omega,by go_num,hNx⟩
    ·have hje:j=ps.length:=by omega
     subst hje;have hbz:Below w.heap.size w wz:=⟨hS.os.trans hb06.os,hS.tape.trans hb06.tape,hS.output.trans hb06.output,by rw[hS.size];exact hb06.size,fun b hb=>(hS.fr b (fun e=>by have:=h6 b e;omega) (fun q hq e=>by have:=(p3 q (List.mem_of_mem_take hq)).2 b e;omega)).trans (hb06.block b hb)⟩;have piz:=(pi4.below (hb5.trans (hb6.mono hb5.size))).spoilt hS p2 (fun q hq=>(p3 q hq).1) (fun q hq g hg=>by have:=pb q hq g hg;omega);have krz:Blk wz w4.heap.size _ 32:=(hS.fr _ (fun e=>own_ne p2 kr6 (by decide) _ e rfl) (fun q hq e=>own_ne (p3 q (List.mem_of_mem_take hq)).1 kr6 (by decide) _ e rfl)).trans kr6;have q7:=make_ans s wz hmax (ht.move (hbz.block _ ht.lt));rw[hA]at q7;go_wp2_with fail;refine q7.mono ?_;rintro e w7 ⟨v7,a7,rfl,hb7,hp7⟩;obtain⟨ta0,tc0,ta1,tc1,ta2,tc2,ta3,tc3,ta4,tc4,rfl,-⟩:=hp7.slices;have kr7:Blk w7 w4.heap.size _ 32:=(hb7.block _ krz.lt).trans krz;have lr7:=kr7.lt;obtain⟨d0,d1,d2,d3,d4⟩:=blk_five kr7;obtain⟨W7,hW7⟩:∃ W7,W7=w7.alloc (.cells #[.slice ta0 B.tok.length tc0,.slice ta1 B.nam.length tc1,.slice ta2 B.prod.length tc2,.slice ta3 B.bs.length tc3,.slice ta4 B.ks.length tc4] 26):=⟨_,rfl⟩;have hbW7:Below w7.heap.size w7 W7:=by rw[hW7];exact (Below.refl _ _).alloc (Nat.le_refl _) _
     have hbzW:Below wz.heap.size wz W7:=hb7.trans (hbW7.mono hb7.size);have qs:=same_any (hp7.below hbW7).pl (piz.below hbzW);go_wp2_with fail;rw[<-hW7];clear hW7;refine qs.mono ?_;rintro e w8 ⟨rfl,hb8⟩;clear qs d0 d1 d2 d3 d4 q7 a2';have hbz8:Below wz.heap.size wz w8:=hbzW.trans (hb8.mono hbzW.size);have hb08:Below w.heap.size w w8:=hbz.trans (hbz8.mono hbz.size);clear hbzW hbW7 hb8 hb7 hp7 piz krz kr7 lr7;go_wp2_with fail
     go_loopg [23] ps.length (fun k i wr=>∃ (j:Nat),j+k=ps.length/\i=.int .i64 j/\Below w8.heap.size w8 wr)
     case atStart=>exact⟨0,by omega,rfl,Below.refl _ _⟩
     case round =>
      revert wr;intro wy hrel;obtain⟨j,hkj,rfl,hby⟩:=hrel;have hbzy:Below wz.heap.size wz wy:=hbz8.trans (hby.mono hbz8.size);have kpy:Blk wy w2.heap.size _ 26:=(hbzy.block _ kpr.lt).trans kpr;have a2':wy.cell? ⟨w2.heap.size,2,none⟩=some (.slice xa2 ps.length xc2):=kpy.cell 2
      by_cases hlt:j<ps.length
      ·obtain⟨gP,cP,hvP,-,lgP⟩:=hS.own.form (by omega)
       cases hvP;have hr1:wy.cell? ⟨gP,j*3+1,none⟩=some ps[j].1:=(World.cell?_of_block (w:=wz) (hbzy.block _ lgP)).trans (hS.right hlt);have lgy:gP<wy.heap.size:=Nat.lt_of_lt_of_le lgP hbzy.size;have hrw:=own_below (hS.row ps[j] (by rw[List.take_length];exact List.getElem_mem hlt)) hbzy;generalize ps[j]=q at hr1 hrw;obtain⟨v,pd⟩:=q;obtain⟨ra,rc,hv,hrm⟩:=own_len hrw;have hv':v=.slice ra pd.right.length rc:=hv;subst hv';unfold maxLen at hrm;generalize pd.right.length=n at hr1 hrw hrm;go_wp2_with fail
       go_loopg [24] n (fun k i wr=>∃ (t:Nat),t+k=n/\i=.int .i64 t/\Below wy.heap.size wy wr)
       case atStart=>exact⟨0,by omega,rfl,Below.refl _ _⟩
       case round =>
        obtain⟨t,hkt,rfl,hbr⟩:=hrel;have kpr2:Blk wr w2.heap.size _ 26:=(hbr.block _ kpy.lt).trans kpy;have b2:wr.cell? ⟨w2.heap.size,2,none⟩=some (.slice (some ⟨gP,0,none⟩) ps.length xc2):=kpr2.cell 2;have b1:wr.cell? ⟨gP,j*3+1,none⟩=some (.slice ra n rc):=(World.cell?_of_block (w:=wy) (hbr.block _ lgy)).trans hr1
        by_cases hlt2:t<n
        ·have hro:=own_below hrw hbr
         obtain⟨gr,cr,hvr,-,lgr⟩:=hro.form (by omega);cases hvr;have rcell:wr.cell? ⟨gr,t,none⟩=some (.int .i64 (-9)):=by rw[hro.cellAt t (by omega),List.getElem?_replicate,if_pos hlt2];rfl
         go_wp2_with fail;go_roundg (n - (t+1))
         case measure=>omega
         case rel=>exact⟨t+1,by omega,by go_num,hbr⟩
        ·have hte:t=n:=by omega
         subst hte;go_wp2_with fail;go_roundg (ps.length - (j+1))
         case measure=>omega
         case rel=>exact⟨j+1,by omega,by go_num,hby.trans (hbr.mono hby.size)⟩
      ·have hb0y:Below w.heap.size w wy:=hb08.trans (hby.mono hb08.size)
       have qa:=alive_any wy (ht.move (hb0y.block _ ht.lt));go_wp2_with fail;refine qa.mono ?_;rintro e w9 ⟨rfl,hb9⟩;go_wp2_with fail;go_ret;exact⟨rfl,hb0y.trans (hb9.mono hb0y.size)⟩
  ·have hzi:(2000:Int)<(T.size:Int):=by omega
   go_wp2_with (first | (go_at_call 12;refine (num_any _ _).mono ?_;rintro e w' ⟨rfl,hw'⟩;obtain rfl:=hw'.symm) | fail)
   rw[<-hW4];refine qa.mono ?_;rintro e w5 ⟨rfl,hb5⟩;go_wp2_with fail;go_ret;exact⟨rfl,hb04.trans (hb5.mono hb04.size)⟩
 ·have hnb:((n1:Int) != 0)=true:=bne_iff_ne.2 (by omega)
  have hnd:¬ (n1:Int)=0:=by omega
  go_wp2_with (first | (go_at_call 12;refine (num_any _ _).mono ?_;rintro e w' ⟨rfl,hw'⟩;obtain rfl:=hw'.symm) | fail)
  rw[<-hW4];refine qa.mono ?_;rintro e w5 ⟨rfl,hb5⟩;go_wp2_with fail;go_ret;exact⟨rfl,hb04.trans (hb5.mono hb04.size)⟩
end Go.Proofs.YtlcppnabbicmoaaGreatDoor

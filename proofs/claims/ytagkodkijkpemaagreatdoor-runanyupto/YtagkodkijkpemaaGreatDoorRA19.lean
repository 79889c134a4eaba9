import Derived.Test.YtagkodkijkpemaaGreatDoorRA18
set_option maxHeartbeats 8000000
set_option maxRecDepth 1000000
namespace Go.Proofs.YtagkodkijkpemaaGreatDoor
open Lx Go.Proofs.Tryz
open Go.RowKit
open Tr
section
variable {w:World} {B rb pb:Nat} {b:ByteArray} {r:Pk.Rd} {v:fV} {p:Pk.T}
structure Gv(p:Pk.T):Prop where
 s0:0<p.ay.length
 s1:p.ay.length<=300
 t1:p.toks.length<=1000
 n1:p.aS.length<=1000
 b1:∀x∈p.ay,x<16777216
theorem Gv.most(h:Gv p):Pk.most p<=600000:=by
 unfold Pk.most;have:p.ay.length*(p.toks.length+p.aS.length)<=300*2000:=Nat.mul_le_mul h.s1 (by have:=h.t1;have:=h.n1;omega);omega
theorem af6(n:Int):bits .and .i64 n 4095=n % 4096:=by
 have a:(BitVec.ofInt 64 4095).toNat=2 ^ 12-1:=by decide
 have key:(BitVec.ofInt 64 n &&& BitVec.ofInt 64 4095).toNat=(n % ((2 ^ 64:Nat):Int)).toNat % 2 ^ 12:=by
  rw[BitVec.toNat_and,BitVec.toNat_ofInt,a,Nat.and_two_pow_sub_one_eq_mod]
 show IntKind.i64.wrap ((BitVec.ofInt 64 n &&& BitVec.ofInt 64 4095).toNat:Nat)=n % 4096;rw[key,gw];omega
theorem ag3(A:fI w rb b r)(f:aO w B pb v p)(aw:p.ak=[])(hB:B<=w.heap.size)(hb:Gv p):Calls prog 30 #[.pointer (some ⟨rb,0,none⟩),.pointer (some ⟨pb,0,none⟩)] w fun e w'=>e=.returned (.tuple #[])/\∃v',fI w' rb b (Pk.places b p r).2/\aO w' B pb v' { p with ak:=(Pk.places b p r).1 }/\gQ w rb pb v w' v':=by
 obtain⟨⟨a0,k0,c0⟩,-,⟨a2,k2,c2⟩,⟨a3,k3,c3⟩,-,-⟩:=f.cell;have hM:=hb.most;have eM:(p.ay.length:Int)*((p.toks.length:Int)+(p.aS.length:Int))=(Pk.most p:Int):=by unfold Pk.most;rw[Int.natCast_mul,pt]
 obtain⟨M,Y⟩:∃M,Pk.most p=M:=⟨_,rfl⟩;rw[Y]at hM eM;have s1:=hb.s1;have t1:=hb.t1;have n1:=hb.n1;have q1:∀X,_:=fun X=>EQ (w:=w.drewN X) (m:=M+1) (A.move rfl) (show 3<=4 by decide)
 simp only[show ((M+1:Nat):Int)=(M:Int)+1 by omega]at q1;have hn:=Pk.yI (b:=b) (n:=3) (r:=r) (show 0<M+1 by omega);obtain⟨x,hx⟩:∃x,Pk.below b (M+1) 3 r=x:=⟨_,rfl⟩;rw[hx]at hn;simp only[hx]at q1;have HE:Hid (Pk.places b p r=Pk.wJ b p x.1 x.2 []):=by exact(by unfold Pk.places;rw[Y,hx]:Pk.places b p r=Pk.wJ b p x.1 x.2 [])
 have H0:Hid (∀X w1,jf (w.drewN X) rb b w1 x.2->fI w1 rb b x.2/\aO w1 B pb v { p with ak:=[] }/\gQ w rb pb v w1 v):=fun X w1 T=>by
  refine⟨T.m,?_,?_⟩
  ·have:=(f.move (W':=w.drewN X) fun _ _=>rfl).read (A.move rfl) T
   rw[<-aw];exact this
  ·exact(gQ.below (w:=w) (w':=w.drewN X) ⟨rfl,rfl,rfl,zL0,fun _ _=>rfl⟩).trans (gQ.read T)
 clear A f hx;go_enter func30,ntmps30;go_upto_region 0 with fail
 go_quiet (fail)
 go_wp2_with (go_at_call 28;refine(q1 _).mono ?_;rintro e w1⟨rfl,T1⟩)
 obtain⟨A1,A2,A3⟩:=H0.out _ _ T1;clear H0 q1 T1 c0 c2 c3;have HI:Hid (fI w1 rb b x.2/\aO w1 B pb v { p with ak:=[] }/\gQ w rb pb v w1 v):=⟨A1,A2,A3⟩;clear A1 A2 A3;have a7:x.1<=600000:=by omega
 go_loopw [32] (fun i wr=>∃(j:Nat)(r1:Pk.Rd)(l:List (Nat×Nat×Nat))(D:fV),i=.int .i64 (j:Int)/\Hid (j<=x.1/\fI wr rb b r1/\aO wr B pb D { p with ak:=l }/\gQ w rb pb v wr D/\l.length<=M/\Pk.places b p r=Pk.wJ b p (x.1-j) r1 l)) (fun i _=>x.1 - (intOf i).toNat)
 case atStart=>exact⟨0,x.2,[],v,rfl,eR _,HI.out.1,HI.out.2.1,HI.out.2.2,eR _,HE.out⟩
 case round=>
  clear HI HE hn;obtain⟨j,r1,l,D,rfl,HI⟩:=hrel;obtain⟨hj,A,f,C,hl,H⟩:=HI.out;clear HI
  by_cases hjn:j<x.1
  ·have j1:(j:Int)<(x.1:Int):=by omega
   have q3:=EZ A (show 2<=4 by decide);have hg:=Pk.FJ b 2 r1;obtain⟨n,hn⟩:∃n,x.1-j=n+1:=⟨x.1-j-1,by omega⟩;rw[hn,Pk.wJ,Pk.SN]at H;obtain⟨y,hy⟩:∃y,Pk.num b 2 r1=y:=⟨_,rfl⟩;rw[hy]at q3 hg H;have HW:Hid (Pk.places b p r=_):=H;have H3:Hid (∀w2,jf wr rb b w2 y.2->fI w2 rb b y.2/\aO w2 B pb D { p with ak:=l }/\gQ w rb pb v w2 D):=fun w2 T=>⟨T.m,f.read A T,C.trans (gQ.read T)⟩
   clear hy A f C H;go_upto_region 4 with (go_at_call 29;refine q3.mono ?_;rintro e w2⟨rfl,T⟩)
   obtain⟨A,f,C⟩:=H3.out _ T;clear H3 q3 T;obtain⟨⟨a0,k0,c0⟩,-⟩:=f.cell
   dsimp only at c0
   have q4:=EQ (m:=p.ay.length) A (show 2<=4 by decide);have hs:=Pk.yI (b:=b) (n:=2) (r:=y.2) hb.s0;obtain⟨s,aq⟩:∃s,Pk.below b p.ay.length 2 y.2=s:=⟨_,rfl⟩;rw[aq]at q4 hs HW;have H4:Hid (∀w3,jf w2 rb b w3 s.2->fI w3 rb b s.2/\aO w3 B pb D { p with ak:=l }/\gQ w rb pb v w3 D):=fun w3 T=>⟨T.m,f.read A T,C.trans (gQ.read T)⟩
   clear aq A f C;go_upto_region 5 with (go_at_call 28;refine q4.mono ?_;rintro e w3⟨rfl,T⟩)
   obtain⟨A,f,C⟩:=H4.out _ T;clear H4 q4 T c0;have q5:=EZ A (show 2<=4 by decide);have hc:=Pk.FJ b 2 s.2;obtain⟨c,al⟩:∃c,Pk.num b 2 s.2=c:=⟨_,rfl⟩;rw[al]at q5 hc HW;have H5:Hid (∀U,jf w3 rb b U c.2->fI U rb b c.2/\aO U B pb D { p with ak:=l }/\gQ w rb pb v U D):=fun U T=>⟨T.m,f.read A T,C.trans (gQ.read T)⟩
   clear al A f C;go_upto_region 6 with (go_at_call 29;refine q5.mono ?_;rintro e U⟨rfl,T⟩)
   obtain⟨A,f,C⟩:=H5.out _ T;clear H5 q5 T;have H:=HW.out;clear HW;have e6:bits BinOp.and IntKind.i64 (c.1:Int) 4095=((c.1 % 4096:Nat):Int):=by rw[af6];omega
   have e7:(c.1:Int) / 4096=((c.1 / 4096:Nat):Int):=by omega
   have hd:c.1 / 4096<16:=by omega
   have ht:c.1 % 4096<4096:=by omega
   generalize c.1 / 4096=d at e7 hd H;generalize c.1 % 4096=t at e6 ht H;obtain⟨E,jh⟩:∃V,V=U.alloc (.cells #[.int .i64 (d:Int),.int .i64 (t:Int)] 42):=⟨_,rfl⟩;have aa:Below U.heap.size U E:=by rw[jh];exact(cV _ _).alloc (zL0) _
   have J:aj E U.heap.size #[.int .i64 (d:Int),.int .i64 (t:Int)] 42:=by rw[jh];exact aj.new ..
   have KM:=A.move (aa.block _ A.blk.lt);have mQ:=f.move (W':=E) fun k hk=>aa.block k (f.lt hk)
   have ah:=C.trans (gQ.below aa);clear A f C aa;obtain⟨R,ag⟩:∃b,U.heap.size=b:=⟨_,rfl⟩;rw[ag]at J;have H5:Hid (fI E rb b c.2/\aO E B pb D { p with ak:=l }/\gQ w rb pb v E D/\aj E R #[.int .i64 (d:Int),.int .i64 (t:Int)] 42):=⟨KM,mQ,ah,J⟩;clear KM mQ ah J;go_upto_region 7 with fail
   rw[<-jh];clear jh e6 e7 hc ag;obtain⟨A,f,C,J⟩:=H5.out;obtain⟨⟨a0,k0,c0⟩,⟨a1,k1,c1⟩,-⟩:=f.cell
   dsimp only at c0 c1
   have Vx:E.cell? ⟨rb,1,none⟩=some (.bool c.2.bad):=A.blk.cell 1;have x0:E.cell? ⟨R,0,none⟩=some (.int .i64 (d:Int)):=J.cell 0;have x1:E.cell? ⟨R,1,none⟩=some (.int .i64 (t:Int)):=J.cell 1;have HF:Hid (Pk.places b p r=(l,c.2.fail)->∀w',Below E.heap.size E w'->w'.cell? ⟨rb,1,none⟩=some (.bool c.2.bad)/\w'.frozen? ⟨rb,1,none⟩=false/\∃v',fI (w'.setCell ⟨rb,1,none⟩ (.bool true)) rb b (Pk.places b p r).2/\aO (w'.setCell ⟨rb,1,none⟩ (.bool true)) B pb v' { p with ak:=(Pk.places b p r).1 }/\gQ w rb pb v (w'.setCell ⟨rb,1,none⟩ (.bool true)) v'):=fun e w' N=>by
    rw[e];have Q:=A.move (N.block _ A.blk.lt);have a4:=f.move (W':=w') fun k hk=>N.block k (f.lt hk)
    exact⟨Q.blk.cell 1,Q.blk.frozen 1,D,Q.fail.m,a4.read Q Q.fail,(C.trans (gQ.below N)).trans (gQ.read Q.fail)⟩
   cases hbad:c.2.bad with
   |true=>
    rw[hbad]at Vx H;have L:Pk.places b p r=(l,c.2.fail):=by rw[H];rfl
    have KN:=HF.out L;clear HF L H A f C J;go_upto_region 8 with fail
    refine(oX (n:=9)).1 ?_;refine mo 22 (by kernel_rfl) (by kernel_rfl) (by kernel_rfl) ?_
    dsimp only[List.take,List.drop,List.length]
    repeat (gi_big_quiet_step (fail))
    refine wpQuietIn_nil ?_;rintro _⟨KO,rfl⟩;refine wpAnyIn_ready (rs:=[22]) (by kernel_rfl) (by simp) (AllReadyIn.cons rfl (fun K a=>?_) AllReadyIn.nil)
    go_simp
    refine⟨trivial,a _ _ ?_⟩;clear a K;refine wpAnyIn_ready (rs:=[23]) (by kernel_rfl) (by simp) (AllReadyIn.cons rfl (fun K a=>?_) AllReadyIn.nil)
    go_simp
    refine a _ _ ?_;clear a K;refine wpAnyIn_ready (rs:=[24]) (by kernel_rfl) (by simp) (AllReadyIn.cons rfl (fun K a=>?_) AllReadyIn.nil)
    go_simp
    refine a _ _ (wpAnyIn_done (by kernel_rfl) ?_ _);clear a K;obtain⟨z1,z2,z3⟩:=KN _ (⟨rfl,rfl,rfl,zL0,fun _ _=>rfl⟩:Below E.heap.size E (E.drewN KO));go_wp2_with fail;refine fx (oY rfl _ _ _) rfl ?_;exact⟨rfl,z3⟩
   |false=>
    rw[hbad]at Vx H
    by_cases hat:M<=l.length+y.1
    ·have b8:decide ((M:Int)<=(l.length:Int)+(y.1:Int))=true:=fh (by omega)
     have L:Pk.places b p r=(l,c.2.fail):=by rw[H,Y,fh hat];rfl
     have KN:=HF.out L;clear HF L H A f C J;go_upto_region 8 with fail
     refine(oX (n:=9)).1 ?_;refine mo 22 (by kernel_rfl) (by kernel_rfl) (by kernel_rfl) ?_
     dsimp only[List.take,List.drop,List.length]
     repeat (gi_big_quiet_step (fail))
     refine wpQuietIn_nil ?_;rintro _⟨KO,rfl⟩;refine wpAnyIn_ready (rs:=[22]) (by kernel_rfl) (by simp) (AllReadyIn.cons rfl (fun K a=>?_) AllReadyIn.nil)
     go_simp
     refine⟨trivial,a _ _ ?_⟩;clear a K;refine wpAnyIn_ready (rs:=[23]) (by kernel_rfl) (by simp) (AllReadyIn.cons rfl (fun K a=>?_) AllReadyIn.nil)
     go_simp
     refine a _ _ ?_;clear a K;refine wpAnyIn_ready (rs:=[24]) (by kernel_rfl) (by simp) (AllReadyIn.cons rfl (fun K a=>?_) AllReadyIn.nil)
     go_simp
     refine a _ _ (wpAnyIn_done (by kernel_rfl) ?_ _);clear a K;obtain⟨z1,z2,z3⟩:=KN _ (⟨rfl,rfl,rfl,zL0,fun _ _=>rfl⟩:Below E.heap.size E (E.drewN KO));go_wp2_with fail;refine fx (oY rfl _ _ _) rfl ?_;exact⟨rfl,z3⟩
    ·have b8:decide ((M:Int)<=(l.length:Int)+(y.1:Int))=false:=eV (by omega)
     rw[Y,eV hat]at H;obtain⟨z,hz⟩:∃z,p.ay[s.1]?=some z:=⟨_,cF hs⟩;have a9:=hb.b1 z (cQ hz);have ez:p.ay.getD s.1 0=z:=by simp[hz]
     rw[ez,show ((l.length+y.1:Nat):Int) - (z:Nat)=(l.length:Int)+(y.1:Int) - (z:Int) by omega]at H;obtain⟨gB,cB,ab,-,cz⟩:=Fz f.rB (p:=s.1) (u:=bQ z) (by rw[dj];show Option.map _ p.ay[s.1]?=_;rw[hz];rfl);unfold bQ at cz;clear c0;have c0:E.cell? ⟨pb,0,none⟩=some (.slice (some ⟨gB,0,none⟩) p.ay.length cB):=by
      have:=f.blk.cell 0;rw[this];exact eS some ab
     have s0:(0:Int)<=(s.1:Int):=by omega
     have s2:(s.1:Int)<(p.ay.length:Int):=by omega
     have q8:∀X,_:=fun X=>afD (w:=E.drewN X) (d:=d) (t:=t) (f.move fun _ _=>rfl) ((l.length:Int)+(y.1:Int) - (z:Int)) (by omega) (by show p.toks.length<=_;omega)
     simp only[show Pk.BS { p with ak:=l } d t ((l.length:Int)+(y.1:Int) - (z:Int))=Pk.BS p d t ((l.length:Int)+(y.1:Int) - (z:Int)) from rfl]at q8;have a8:y.1<65536:=hg;cases hu:Pk.BS p d t ((l.length:Int)+(y.1:Int) - (z:Int)) with
     |false=>
      simp only[hu]at q8;have L:Pk.places b p r=(l,c.2.fail):=by rw[H,hu];rfl
      have KN:=HF.out L;clear HF L H A f C J ab;go_upto_region 8 with fail
      refine(oX (n:=9)).1 ?_;refine mo 22 (by kernel_rfl) (by kernel_rfl) (by kernel_rfl) ?_
      dsimp only[List.take,List.drop,List.length]
      repeat (gi_big_quiet_step (fail))
      refine wpQuietIn_nil ?_;rintro _⟨KO,rfl⟩;refine wpAnyIn_ready (rs:=[22]) (by kernel_rfl) (by simp) (AllReadyIn.cons rfl (fun K a=>?_) AllReadyIn.nil)
      go_simp
      refine⟨trivial,(hU.2 (q8 _)).mono ?_⟩;rintro e O⟨rfl,F⟩;refine a _ _ ?_;clear a K;refine wpAnyIn_ready (rs:=[23]) (by kernel_rfl) (by simp) (AllReadyIn.cons rfl (fun K a=>?_) AllReadyIn.nil)
      go_simp
      refine a _ _ ?_;clear a K;refine wpAnyIn_ready (rs:=[24]) (by kernel_rfl) (by simp) (AllReadyIn.cons rfl (fun K a=>?_) AllReadyIn.nil)
      go_simp
      refine a _ _ (wpAnyIn_done (by kernel_rfl) ?_ _);clear a K;obtain⟨z1,z2,z3⟩:=KN _ (⟨F.1,F.2,F.3,F.4,F.5⟩:Below E.heap.size E O);go_wp2_with fail;refine fx (oY rfl _ _ _) rfl ?_;exact⟨rfl,z3⟩
     |true=>
      simp only[hu]at q8;rw[hu]at H;have ao:Pk.places b p r=Pk.wJ b p n c.2 (l++List.replicate y.1 (0,0,0)++[(d,t,s.1)]):=H;have H6:Hid (∀O,Below E.heap.size E O->fI O rb b c.2/\aO O B pb D { p with ak:=l }/\gQ w rb pb v O D/\aj O R #[.int .i64 (d:Int),.int .i64 (t:Int)] 42):=fun O N=>⟨A.move (N.block _ A.blk.lt),f.move fun k hk=>N.block k (f.lt hk),C.trans (gQ.below N),(N.block _ J.lt).trans J⟩
      have HW:Hid (Pk.places b p r=Pk.wJ b p n c.2 (l++List.replicate y.1 (0,0,0)++[(d,t,s.1)])):=ao;clear HF ao H A f C J ab;go_upto_region 8 with fail
      refine(oX (n:=9)).1 ?_;refine mo 22 (by kernel_rfl) (by kernel_rfl) (by kernel_rfl) ?_
      dsimp only[List.take,List.drop,List.length]
      repeat (gi_big_quiet_step (fail))
      refine wpQuietIn_nil ?_;rintro _⟨KO,rfl⟩;refine wpAnyIn_ready (rs:=[22]) (by kernel_rfl) (by simp) (AllReadyIn.cons rfl (fun K a=>?_) AllReadyIn.nil)
      go_simp
      refine⟨trivial,(hU.2 (q8 _)).mono ?_⟩;rintro e O⟨rfl,F⟩;refine a _ _ ?_;clear a K;refine wpAnyIn_ready (rs:=[23]) (by kernel_rfl) (by simp) (AllReadyIn.cons rfl (fun K a=>?_) AllReadyIn.nil)
      go_simp
      refine a _ _ ?_;clear a K;refine wpAnyIn_ready (rs:=[24]) (by kernel_rfl) (by simp) (AllReadyIn.cons rfl (fun K a=>?_) AllReadyIn.nil)
      go_simp
      refine a _ _ (wpAnyIn_done (by kernel_rfl) ?_ _);clear a K;obtain⟨A,f,C,J⟩:=H6.out _ (⟨F.1,F.2,F.3,F.4,F.5⟩:Below E.heap.size E O);clear H6 q8 F c0 c1 Vx x0 x1 cz;obtain⟨i0,af,am,ac,ar⟩:=fd Tryz.abx;have av:B<=O.heap.size:=dg hB C.bS;obtain⟨vq,S,D7,sG,jI,BZ⟩:=Xq (P:=prog) O B 74 3 74 138 i0 _ 3 24 .i64 .i64 Tryz.Tp Tryz.adX af am ac ar rfl (by decide) D.vP l.length (l.flatMap bV) f.rP y.1 (by rw[MU];exact ach _) (by unfold maxLen;omega) (by omega) av;rw[MU,<-fL,show l.length+y.1=(l++List.replicate y.1 ((0,0,0):Nat×Nat×Nat)).length by simp]at sG;obtain⟨q,W⟩:∃q,l++List.replicate y.1 ((0,0,0):Nat×Nat×Nat)=q:=⟨_,rfl⟩;have ad:Hid (q.length=l.length+y.1):=(by rw[<-W];simp:q.length=l.length+y.1);have Gg:q.length<=600000:=by have:=ad.out;omega
      rw[W]at sG HW;clear W;obtain⟨G,I,rfl,-⟩:=aB sG;have Cw:aj S pb D.cells 79:=(jI.block pb f.kp.lt fun e=>f.kp.ne (f.kP e.symm) (by decide) rfl).trans f.blk;have c1:O.cell? ⟨pb,1,none⟩=some D.vP:=f.blk.cell 1;have c7:S.cell? ⟨pb,1,none⟩=some D.vP:=Cw.cell 1;have f7:=Cw.frozen 1;have ai:=f.JN jI sG;have F8:(Value.slice G q.length I).ownBlock=D.vP.ownBlock\/∃g,(Value.slice G q.length I).ownBlock=some g/\O.heap.size<=g:=BZ.imp id fun e=>⟨_,e,zL0⟩
      have ae:=C.trans (gQ.JN (rb:=rb) (pb:=pb) jI F8);have a6:S.grownBy (S.setCell ⟨pb,1,none⟩ (.slice G q.length I)) (some pb):=iM _ _ _ _;have an:fI (S.setCell ⟨pb,1,none⟩ (.slice G q.length I)) rb b c.2:=A.move ((fQ _ _ fun e=>f.Ej A (.inl e)).trans (jI.block rb A.blk.lt fun e=>f.Ej A (.inr (.inr (.inl e.symm)))));have ap:aj (S.setCell ⟨pb,1,none⟩ (.slice G q.length I)) R #[.int .i64 (d:Int),.int .i64 (t:Int)] 42:=((fQ _ _ ((show Kd O R 42 from ⟨_,J⟩).ne f.kp (by decide))).trans (jI.block R J.lt fun e=>(show Kd O R 42 from ⟨_,J⟩).ne (f.kP e.symm) (by decide) rfl)).trans J;have H8:Hid (fI (S.setCell ⟨pb,1,none⟩ (.slice G q.length I)) rb b c.2/\aO (S.setCell ⟨pb,1,none⟩ (.slice G q.length I)) B pb { D with vP:=(.slice G q.length I) } { p with ak:=q }/\gQ w rb pb v (S.setCell ⟨pb,1,none⟩ (.slice G q.length I)) { D with vP:=(.slice G q.length I) }/\aj (S.setCell ⟨pb,1,none⟩ (.slice G q.length I)) R #[.int .i64 (d:Int),.int .i64 (t:Int)] 42):=⟨an,ai,ae,ap⟩;clear A f C J an ai ae ap a6 F8 BZ sG jI Cw;go_upto_region 11 with (at_builtin;refine Lib.wpList_append_run _ rfl _ _ _ _ rfl _ _ rfl rfl _ _ D7 ?_)
      generalize S.setCell ⟨pb,1,none⟩ (.slice G q.length I)=w8 at H8|-;obtain⟨A,f,C,J⟩:=H8.out;clear H8 c1 c7 f7 D7;have c1:w8.cell? ⟨pb,1,none⟩=some (.slice G q.length I):=f.blk.cell 1;have x0:w8.cell? ⟨R,0,none⟩=some (.int .i64 (d:Int)):=J.cell 0;have x1:w8.cell? ⟨R,1,none⟩=some (.int .i64 (t:Int)):=J.cell 1;have az:B<=w8.heap.size:=dg hB C.bS;have lp:=f.kp.lt;have lx:=J.lt;have dA:∀o,(w8.alloc o).cell? ⟨pb,1,none⟩=some (.slice G q.length I):=fun o=>(cJ (w:=w8) (di _ _ _ lp)).trans c1
      have o3:(w8.alloc (.cells #[.int .i64 (d:Int),.int .i64 (t:Int),.int .i64 (s.1:Int)] 138)).drew.ownsRow B 138 3 (.slice G q.length I) q.length (q.flatMap bV):=aC (f.rP.alloc (.cells #[.int .i64 (d:Int),.int .i64 (t:Int),.int .i64 (s.1:Int)] 138)) fun _ _=>rfl
      have jg:aj (w8.alloc (.cells #[.int .i64 (d:Int),.int .i64 (t:Int),.int .i64 (s.1:Int)] 138)).drew pb (fV.cells { D with vP:=.slice G q.length I }) 79:=(f.blk.alloc _).drew;have ax:(Value.slice G q.length I).ownBlock≠some pb:=fun e=>(f.kP e).ne f.kp (by decide) rfl
      have a5:B<=(w8.alloc (.cells #[.int .i64 (d:Int),.int .i64 (t:Int),.int .i64 (s.1:Int)] 138)).drew.heap.size:=dg az (aX w8 _ none).size;have H9:Hid (fI w8 rb b c.2/\aO w8 B pb { D with vP:=.slice G q.length I } { p with ak:=q }/\gQ w rb pb v w8 { D with vP:=.slice G q.length I }):=⟨A,f,C⟩;clear A f C J
      go_region_law (refine step_append_lies _ rfl (.tmp 105) (.tmp 109) 74 rfl B 138 i0 _ 3 24 Tryz.Tp af am ac ar rfl (by decide) (.slice G q.length I) q.length (q.flatMap bV) (by simp[Act.eval]) o3 ⟨w8.heap.size,0,none⟩ 1 1 [.int .i64 (d:Int),.int .i64 (t:Int),.int .i64 (s.1:Int)] (by simp[Act.eval]) rfl (dI (aj.new w8 _ 138).drew) (by simp[Value.oneCell']) (by decide) (by unfold maxLen;omega) (by omega) a5 _ rfl ?_;intro Z dw w9 ny jw lY F7;have jC:=jg.grown jw (fun e=>ax e.symm);have c9:w9.cell? ⟨pb,1,none⟩=some (.slice G q.length I):=jC.cell 1;have f9:=jC.frozen 1)
      all_goals
       obtain⟨A,f,C⟩:=H9.out;have W:=ad.out;have lI:w8.grownBy w9 (Value.slice G q.length I).ownBlock:=aL (b:=(w8.alloc (.cells #[.int .i64 (d:Int),.int .i64 (t:Int),.int .i64 (s.1:Int)] 138)).drew) ⟨rfl,rfl,rfl,(aX w8 _ none).size,fun i hi _=>di _ _ _ hi⟩ jw;have nY:w9.ownsRow B 138 3 (.slice (some ⟨Z,0,none⟩) (q.length+1) dw) (q++[(d,t,s.1)]).length ((q++[(d,t,s.1)]).flatMap bV):=by
        rw[fL,cH];exact ny
       have Ca:(Value.slice (some ⟨Z,0,none⟩) (q.length+1) dw).ownBlock=(Value.slice G q.length I).ownBlock\/∃g,(Value.slice (some ⟨Z,0,none⟩) (q.length+1) dw).ownBlock=some g/\w8.heap.size<=g:=by
        rcases lY with e|e
        ·exact .inl e.symm
        ·exact .inr ⟨Z,rfl,by rw[e];exact(aX w8 _ none).size⟩
       have HN:Hid (fI (w9.setCell ⟨pb,1,none⟩ (.slice (some ⟨Z,0,none⟩) (q.length+1) dw)) rb b c.2/\aO (w9.setCell ⟨pb,1,none⟩ (.slice (some ⟨Z,0,none⟩) (q.length+1) dw)) B pb { D with vP:=.slice (some ⟨Z,0,none⟩) (q.length+1) dw } { p with ak:=q++[(d,t,s.1)] }/\gQ w rb pb v (w9.setCell ⟨pb,1,none⟩ (.slice (some ⟨Z,0,none⟩) (q.length+1) dw)) { D with vP:=.slice (some ⟨Z,0,none⟩) (q.length+1) dw }/\(q++[(d,t,s.1)]).length<=M) :=
        ⟨A.move ((fQ _ _ fun e=>f.Ej A (.inl e)).trans (lI.block rb A.blk.lt fun e=>f.Ej A (.inr (.inr (.inl e.symm))))),f.JN lI nY,C.trans (gQ.JN (v:={ D with vP:=.slice G q.length I }) lI Ca),by rw[cH];show q.length+1<=M;omega⟩
       clear A f C lI nY Ca W ny jw lY jC c9 f9 o3 jg dA H9;go_wp2_with fail;refine⟨⟨j+1,c.2,q++[(d,t,s.1)],_,by go_num,by omega,HN.out.1,HN.out.2.1,HN.out.2.2.1,HN.out.2.2.2,?_⟩,by simp[intOf];omega⟩;rw[show x.1 - (j+1)=n by omega];exact HW.out
  ·obtain rfl:j=x.1:=by omega
   rw[ij,Pk.wJ]at H;rw[<-show (Pk.places b p r).2=r1 by rw[H]]at A;rw[<-show (Pk.places b p r).1=l by rw[H]]at f;clear H;go_wp2_with fail
   go_end0
   exact⟨rfl,D,A,f,C⟩
end
end Go.Proofs.YtagkodkijkpemaaGreatDoor

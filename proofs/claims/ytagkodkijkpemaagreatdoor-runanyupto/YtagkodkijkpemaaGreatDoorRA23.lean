import Derived.Test.YtagkodkijkpemaaGreatDoorRA22
set_option maxHeartbeats 8000000
set_option maxRecDepth 1000000
namespace Go.Proofs.YtagkodkijkpemaaGreatDoor
open Lx Go.Proofs.Tryz
open Go.RowKit Tr
theorem Yg:∀(l:List (Nat×Nat×Nat))(k:Nat)(x:Nat×Nat×Nat),(((l.flatMap bV).set (k*3) (.int .i64 (x.1:Int))).set (k*3+1) (.int .i64 (x.2.1:Int))).set (k*3+2) (.int .i64 (x.2.2:Int))=(l.set k x).flatMap bV
 | [],k,x=>rfl
 |y::l,0,x=>rfl
 |y::l,k+1,x=>by
  rw[mv,du,du,<-Yg l k x,show (k+1)*3=k*3+1+1+1 by omega];rfl
theorem Kd.frozen{W:World}{k t:Nat}(h:Kd W k t)(i:Nat):W.frozen? ⟨k,i,none⟩=false:=by
 obtain⟨a,b⟩:=h;exact aj.frozen (cs:=a) (e:=t) b i
section
variable {W0 W W':World} {B pb k:Nat} {vT vN x:Value} {vs:Nat -> Value} {P P':List (Nat×Nat)} {m m':Pk.Mk}
theorem bZ.Aa(h:bZ W0 B pb vT vN vs W P m){g k:Nat}(a:(vs 1).ownBlock=some g)(x:Nat×Nat×Nat):bZ W0 B pb vT vN vs (((W.setCell ⟨g,k*3,none⟩ (.int .i64 (x.1:Int))).setCell ⟨g,k*3+1,none⟩ (.int .i64 (x.2.1:Int))).setCell ⟨g,k*3+2,none⟩ (.int .i64 (x.2.2:Int))) P { m with ak:=m.ak.set k x }:=by
 have c:Sl 1:=.inr (.inl rfl);have b:=I8 (I8 (I8 (h.row 1 c) a (k*3) (.int .i64 (x.1:Int))) a (k*3+1) (.int .i64 (x.2.1:Int))) a (k*3+2) (.int .i64 (x.2.2:Int));refine h.put c a (aL (aL (iM ..) (iM ..)) (iM ..)) (P':=P) (m':={ m with ak:=m.ak.set k x }) ?_ ?_
 ·have e:Cy P m 1=m.ak.flatMap bV:=rfl
  rw[e,Yg]at b;have f:uo P { m with ak:=m.ak.set k x } 1=uo P m 1:=by show (m.ak.set k x).length=_;rw[ib];rfl
  rw[f];exact b
 ·rintro l(rfl | rfl | rfl | rfl)d
  ·exact⟨rfl,rfl⟩
  ·exact absurd rfl d
  ·exact⟨rfl,rfl⟩
  ·exact⟨rfl,rfl⟩
theorem ak9(h:bZ W0 B pb vT vN vs W P m){B':Nat}{vr:Value}{row:List (Nat×Nat×Nat)}(hr:W.ownsRow B' 205 3 vr row.length (row.flatMap bV))(hp:m.ak.length<=1000000)(hb:m.ay.length<=1000000)(hx:∀x∈row,x.2.2<=1000000)(hl:row.length<=1000000):Calls prog 50 #[.pointer (some ⟨pb,0,none⟩),vr] W fun e W'=>e=.returned (.tuple #[])/\∃vs',bZ W0 B pb vT vN vs' W' P (Pk.lay m row):=by
 obtain⟨ra,L,rfl,-⟩:=aB hr;obtain⟨i3,ao,DT,DU,ag⟩:=fd Tryz.info3';obtain⟨i8,VJ,Un,Uo,Uq⟩:=fd Tryz.abx;have s0:Sl 0:=.inl rfl;have K:Sl 1:=.inr (.inl rfl);have HF:Hid (∀wr(b:Nat),Below W.heap.size W wr->b<=1000000->Calls prog 86 #[.pointer (some ⟨pb,0,none⟩),.int .i64 (b:Int),.slice ra row.length L] wr fun e w'=>e=.returned (.bool (Pk.fits m.ak row b))/\Below W.heap.size W w'):=fun wr b H a5=>by
  have h':=h.move H;refine(ajI (show wr.cell? ⟨pb,1,none⟩=some (vs 1) from h'.blk.cell 1) (h'.row 1 K) (lQ.own (aC hr fun g hg=>H.block g (hr.lt g hg).2)) (fun x ar=>by have:=hx x ar;omega) (by omega)).mono ?_;rintro e w'⟨rfl,hw⟩;exact⟨rfl,H.trans (hw.mono H.size)⟩
 have HM:Hid (∀wr,Below W.heap.size W wr->bZ W0 B pb vT vN vs wr P m/\wr.ownsRow B' 205 3 (.slice ra row.length L) row.length (row.flatMap bV)):=fun wr H=>⟨h.move H,aC hr fun g hg=>H.block g (hr.lt g hg).2⟩
 have H0:Hid (0<=m.ak.length/\Below W.heap.size W W/\Pk.yX m.ak row (m.ak.length-0) 0=Pk.fit m.ak row):=⟨eR _,cV _ _,rfl⟩;clear h hr;go_enter func50,ntmps50;go_wp2_with fail
 go_loopw [4] (fun v wr=>∃b:Nat,v=.int .i64 (b:Int)/\Hid (b<=m.ak.length/\Below W.heap.size W wr/\Pk.yX m.ak row (m.ak.length-b) b=Pk.fit m.ak row)) (fun v _=>m.ak.length - (intOf v).toNat)
 case atStart=>exact⟨0,rfl,H0⟩
 case round=>
  clear H0;obtain⟨b,rfl,HI⟩:=hrel;obtain⟨a9,X,hf⟩:=HI.out;clear HI;have q:=HF.out wr b X (by omega);cases hfit:Pk.fits m.ak row b with
  |false=>
   have a8:b<m.ak.length:=by
    apply jz;intro hn;rw[Pk.ajE _ _ (by omega)]at hfit;cases hfit
   rw[show m.ak.length-b=(m.ak.length - (b+1))+1 by omega,Pk.ak5 hfit]at hf;have HE:Hid (Pk.yX m.ak row (m.ak.length - (b+1)) (b+1)=Pk.fit m.ak row):=hf;rw[hfit]at q;clear hf hfit HF HM X
   go_wp2_with (go_at_call 86;refine q.mono ?_;rintro e w2⟨rfl,Q⟩)
   exact⟨⟨b+1,by go_num,by omega,Q,HE.out⟩,by simp[intOf];omega⟩
  |true=>
   rw[Pk.ajF hfit]at hf;rw[hfit]at q;have ac:Hid (b=Pk.fit m.ak row):=hf;clear hf hfit HF X;go_upto_region 3 with (go_at_call 86;refine q.mono ?_;rintro e w2⟨rfl,Q⟩)
   obtain⟨h2,D⟩:=HM.out w2 Q;clear HM q Q;obtain⟨ba,bc,N,-⟩:∃a c,vs 0=.slice a m.ay.length c/\_:=aB (h2.row 0 s0);have o0:w2.ownsRow B 3 1 (.slice ba m.ay.length bc) m.ay.length (m.ay.map bQ):=by rw[<-N];exact h2.row 0 s0
   have c0:w2.cell? ⟨pb,0,none⟩=some (.slice ba m.ay.length bc):=by rw[<-N];exact h2.blk.cell 0
   have af:(Value.slice ba m.ay.length bc).ownBlock≠some pb:=by rw[<-N];exact h2.Cz s0
   have kL:=h2.blk;have hsz:=h2.size;have HV:Hid (vs 0=.slice ba m.ay.length bc):=N;have H2:Hid (bZ W0 B pb vT vN vs w2 P m/\w2.ownsRow B' 205 3 (.slice ra row.length L) row.length (row.flatMap bV)):=⟨h2,D⟩;clear h2 D N;go_upto_region 5 with (at_builtin;refine ge _ rfl _ _ 22 rfl B 3 i3 _ 1 8 underlying22 ao DT DU ag rfl (by decide) (.slice ba m.ay.length bc) _ _ rfl (o0.alloc _) ⟨_,0,none⟩ 1 1 [.int .i64 (b:Int)] rfl rfl (dI (aj.new _ _ 3)) (by simp[Value.oneCell']) (by unfold maxLen;omega) (by omega) (by simp;omega) ?_;intro v5 w5 G bF _ lG;obtain⟨l7,l8,aq,-⟩:=aB G;subst aq;have vI:=(kL.alloc (.cells #[.int .i64 (b:Int)] 3)).grown bF (fun e=>af e.symm);have c5:w5.cell? ⟨pb,0,none⟩=some (vs 0):=vI.cell 0;have f5:=vI.frozen 0)
   have O:Hid (bZ W0 B pb vT vN (Ol vs 0 (.slice l7 (m.ay.length+1) l8)) (w5.setCell ⟨pb,0,none⟩ (.slice l7 (m.ay.length+1) l8)) P { ay:=m.ay++[b],ak:=m.ak,aI:=m.aI }/\(w5.setCell ⟨pb,0,none⟩ (.slice l7 (m.ay.length+1) l8)).ownsRow B' 205 3 (.slice ra row.length L) row.length (row.flatMap bV)):=by
    have ad:w2.grownBy w5 (vs 0).ownBlock:=by rw[HV.out];exact aL (aX w2 _ _) bF
    refine⟨H2.out.1.upd (P':=P) (m':={ ay:=m.ay++[b],ak:=m.ak,aI:=m.aI }) s0 ad ?_ ?_ ?_,Br (ZV H2.out.1 H2.out.2 s0 ad) (show Kd w5 pb 79 from ⟨_,vI⟩) (by decide)⟩
    ·show w5.ownsRow B 3 1 _ (m.ay++[b]).length ((m.ay++[b]).map bQ)
     rw[cH,ei];exact G
    ·rw[HV.out]
     exact lG.imp id fun e=>⟨_,e,by simp⟩
    ·rintro l(rfl | rfl | rfl | rfl)hl
     ·exact absurd rfl hl
     ·exact⟨rfl,rfl⟩
     ·exact⟨rfl,rfl⟩
     ·exact⟨rfl,rfl⟩
   clear H2 vI c5 f5 G bF lG kL c0 o0 af HV;generalize w5.setCell ⟨pb,0,none⟩ (.slice l7 (m.ay.length+1) l8)=w6 at O|-;have H6:Hid (∃o f,bZ W0 B pb vT vN o w6 P { ay:=m.ay++[b],ak:=f,aI:=m.aI }/\w6.ownsRow B' 205 3 (.slice ra row.length L) row.length (row.flatMap bV)/\Pk.nO b m.ay.length (row.drop 0) f=Pk.nO b m.ay.length row m.ak/\f.length<=3000000):=⟨_,_,O.out.1,O.out.2,rfl,by omega⟩;clear O;go_wp2_with fail
   go_loopw [34] (fun i wr=>∃j:Nat,j<=row.length/\i=.int .i64 (j:Int)/\Hid (∃o f,bZ W0 B pb vT vN o wr P { ay:=m.ay++[b],ak:=f,aI:=m.aI }/\wr.ownsRow B' 205 3 (.slice ra row.length L) row.length (row.flatMap bV)/\Pk.nO b m.ay.length (row.drop j) f=Pk.nO b m.ay.length row m.ak/\f.length<=3000000)) (fun i _=>row.length - (intOf i).toNat)
   case atStart=>exact⟨0,by omega,rfl,H6⟩
   case round=>
    clear H6;revert wr;intro wz hrel;obtain⟨j,hj,rfl,HI⟩:=hrel;obtain⟨o,f,h1,S,I,av⟩:=HI.out;clear HI
    by_cases hjn:j<row.length
    ·have j1:(j:Int)<(row.length:Int):=by omega
     obtain⟨x,hxj⟩:∃x,row[j]?=some x:=⟨_,cF hjn⟩;obtain⟨_,_,e,A⟩:=lQ.own S;cases e;obtain⟨g,rfl,c1,c2,c3⟩:=A j x hxj;have ap:=hx x (cQ hxj);have hd:row.drop j=x::row.drop (j+1):=by
      obtain⟨hh,e⟩:=cG.1 hxj;rw[eL hh,e]
     rw[hd]at I;obtain⟨p,r,d⟩:=x;simp only at c1 c2 c3 ap;have xI:Hid (Pk.nO b m.ay.length (row.drop (j+1)) (Pk.Aa f (b+d) (p,r,m.ay.length))=Pk.nO b m.ay.length row m.ak):=I;obtain⟨t,aW⟩:∃V,V=wz.alloc (.cells #[.int .i64 (p:Int),.int .i64 (r:Int),.int .i64 (d:Int)] 205):=⟨_,rfl⟩;obtain⟨R,Y⟩:∃b,wz.heap.size=b:=⟨_,rfl⟩;have T:aj t R #[.int .i64 (p:Int),.int .i64 (r:Int),.int .i64 (d:Int)] 205:=by rw[aW,<-Y];exact aj.new ..
     have ab:Below wz.heap.size wz t:=by rw[aW];exact(cV _ _).alloc (zL0) _
     have h2:=h1.move ab;have D:t.ownsRow B' 205 3 (.slice (some ⟨g,0,none⟩) row.length L) row.length (row.flatMap bV):=aC S fun g hg=>ab.block g (S.lt g hg).2
     have x3:t.cell? ⟨R,2,none⟩=some (.int .i64 (d:Int)):=T.cell 2;obtain⟨pa,pc,E,-⟩:∃a c,o 1=.slice a f.length c/\_:=aB (h2.row 1 K);have cp:t.cell? ⟨pb,1,none⟩=some (.slice pa f.length pc):=by rw[<-E];exact h2.blk.cell 1
     have HB:Hid (b<=1000000):=by show b<=_;omega
     have a0:IntKind.i64.wrap ((b:Int)+(d:Int))=(b:Int)+(d:Int):=by rw[gw];omega
     clear h1 S I hd ab A hx ac;have aA:=HB.out
     by_cases hs:f.length<b+d+1
     ·obtain⟨sh,ae⟩:∃s,b+d+1-f.length=s:=⟨_,rfl⟩
      have e9:(b:Int)+(d:Int)+1 - (f.length:Int)=(sh:Int):=by omega
      have b9:decide ((0:Int)<(sh:Int))=true:=fh (by omega);have o1:t.ownsRow B 138 3 (.slice pa f.length pc) f.length (f.flatMap bV):=by rw[<-E];exact h2.row 1 K
      obtain⟨vq,U,D7,sG,jI,BZ⟩:=Xq (P:=prog) t B 74 3 74 138 i8 _ 3 24 .i64 .i64 Tryz.Tp Tryz.adX VJ Un Uo Uq rfl (by decide) (.slice pa f.length pc) f.length (f.flatMap bV) o1 sh (by rw[MU];exact ach _) (by unfold maxLen;omega) (by omega) h2.size;rw[MU,<-fL,show f.length+sh=(f++List.replicate sh ((0,0,0):Nat×Nat×Nat)).length by simp]at sG;obtain⟨C,yU⟩:∃l2,f++List.replicate sh ((0,0,0):Nat×Nat×Nat)=l2:=⟨_,rfl⟩;have pX:Hid (C.set (b+d) (p,r,m.ay.length)=Pk.Aa f (b+d) (p,r,m.ay.length)):=by
       show _=_;rw[Pk.Aa,ae,yU]
      have al:C.length=b+d+1:=by rw[<-yU,cH,im];omega
      rw[yU]at sG;have aa:b+d<C.length:=by omega
      have ai:C.length<=3000000:=by omega
      obtain⟨qa,M,rfl,-⟩:=aB sG;have JQ:t.grownBy U (o 1).ownBlock:=by rw[E];exact jI
      have Cw:aj U pb (Gy vT vN o) 79:=(JQ.block pb h2.kp.lt fun e=>h2.Cz K e.symm).trans h2.blk;have c7:U.cell? ⟨pb,1,none⟩=some (.slice pa f.length pc):=by rw[<-E];exact Cw.cell 1
      have f7:=Cw.frozen 1;have H8:Hid (∃J,bZ W0 B pb vT vN J (U.setCell ⟨pb,1,none⟩ (.slice qa C.length M)) P { ay:=m.ay++[b],ak:=C,aI:=m.aI }/\(U.setCell ⟨pb,1,none⟩ (.slice qa C.length M)).ownsRow B' 205 3 (.slice (some ⟨g,0,none⟩) row.length L) row.length (row.flatMap bV)/\aj (U.setCell ⟨pb,1,none⟩ (.slice qa C.length M)) R #[.int .i64 (p:Int),.int .i64 (r:Int),.int .i64 (d:Int)] 205):=by
       refine⟨_,h2.upd (P':=P) (m':={ ay:=m.ay++[b],ak:=C,aI:=m.aI }) K JQ sG (by rw[E];exact BZ.imp id fun e=>⟨_,e,zL0⟩) ?_,Br (ZV h2 D K JQ) (show Kd U pb 79 from ⟨_,Cw⟩) (by decide),?_⟩
       ·rintro l(rfl | rfl | rfl | rfl)hl
        ·exact⟨rfl,rfl⟩
        ·exact absurd rfl hl
        ·exact⟨rfl,rfl⟩
        ·exact⟨rfl,rfl⟩
       ·have kx:Kd t R 205:=⟨_,T⟩
        exact(fQ _ _ (kx.ne h2.kp (by decide))).trans ((JQ.block R T.lt fun e=>kx.ne (h2.kr K e.symm) (by decide) rfl).trans T)
      clear h2 D T jI JQ sG BZ Cw o1 al yU ae;go_upto_region 8 with fail
      rw[<-aW];clear aW Y;go_upto_region 12 with (at_builtin;refine Lib.wpList_append_run _ rfl _ _ _ _ rfl _ _ rfl rfl _ _ D7 ?_)
      obtain⟨J,Z,r8,k8⟩:=H8.out;clear H8;generalize U.setCell ⟨pb,1,none⟩ (.slice qa C.length M)=w8 at Z r8 k8|-;clear D7 c7 f7 cp x3 E;have az:True:=trivial
      ·
       have o8:=Z.row 1 K;obtain⟨n,M,z,uq,y,am,an,aw⟩:∃n M z,J 1=.slice (some ⟨n,0,none⟩) C.length M/\(J 1).ownBlock=some n/\En w8 n ((b+d)*3) z:=by
        obtain⟨z,hz⟩:∃z,C[b+d]?=some z:=⟨_,cF aa⟩;obtain⟨f1,f2,f3⟩:=Jb _ _ _ hz;obtain⟨g,cp,e,A⟩:=mZ o8 f1;exact⟨g,cp,z,e,by rw[e];rfl,A _ _ f1,A _ _ f2,A _ _ f3⟩
       have c8:w8.cell? ⟨pb,1,none⟩=some (.slice (some ⟨n,0,none⟩) C.length M):=by rw[<-uq];exact Z.blk.cell 1
       have f8:=(Z.kr K y).frozen;have x1:w8.cell? ⟨R,0,none⟩=some (.int .i64 (p:Int)):=k8.cell 0;have x2:w8.cell? ⟨R,1,none⟩=some (.int .i64 (r:Int)):=k8.cell 1;have O:Hid (∃o f,bZ W0 B pb vT vN o (((w8.setCell ⟨n,(b+d)*3,none⟩ (.int .i64 (p:Int))).setCell ⟨n,(b+d)*3+1,none⟩ (.int .i64 (r:Int))).setCell ⟨n,(b+d)*3+2,none⟩ (.int .i64 (m.ay.length:Int))) P { ay:=m.ay++[b],ak:=f,aI:=m.aI }/\(((w8.setCell ⟨n,(b+d)*3,none⟩ (.int .i64 (p:Int))).setCell ⟨n,(b+d)*3+1,none⟩ (.int .i64 (r:Int))).setCell ⟨n,(b+d)*3+2,none⟩ (.int .i64 (m.ay.length:Int))).ownsRow B' 205 3 (.slice (some ⟨g,0,none⟩) row.length L) row.length (row.flatMap bV)/\Pk.nO b m.ay.length (row.drop (j+1)) f=Pk.nO b m.ay.length row m.ak/\f.length<=3000000):=by
        have kq:=Z.kr K y;refine⟨J,_,Z.Aa y (k:=b+d) (p,r,m.ay.length),?_,?_,?_⟩
        ·have t1:=Br (j:=(b+d)*3) (u:=.int .i64 (p:Int)) r8 kq (by decide)
         have k1:Kd (w8.setCell ⟨n,(b+d)*3,none⟩ (.int .i64 (p:Int))) n 138:=by obtain⟨F,A⟩:=kq;exact⟨_,aj.set (cs:=F) A _ _⟩
         have t2:=Br (j:=(b+d)*3+1) (u:=.int .i64 (r:Int)) t1 k1 (by decide);have k2:Kd ((w8.setCell ⟨n,(b+d)*3,none⟩ (.int .i64 (p:Int))).setCell ⟨n,(b+d)*3+1,none⟩ (.int .i64 (r:Int))) n 138:=by obtain⟨F,A⟩:=k1;exact⟨_,aj.set (cs:=F) A _ _⟩
         exact Br t2 k2 (by decide)
        ·show Pk.nO b m.ay.length (row.drop (j+1)) (C.set (b+d) (p,r,m.ay.length))=_
         rw[<-xI.out,<-pX.out]
        ·show (C.set (b+d) (p,r,m.ay.length)).length<=_
         rw[ib];exact ai
       have Ep:Hid (∃o f,bZ W0 B pb vT vN o (((w8.setCell ⟨n,(b+d)*3,none⟩ (.int .i64 (p:Int))).setCell ⟨n,(b+d)*3+1,none⟩ (.int .i64 (r:Int))).setCell ⟨n,(b+d)*3+2,none⟩ (.int .i64 (m.ay.length:Int))).drew P { ay:=m.ay++[b],ak:=f,aI:=m.aI }/\(((w8.setCell ⟨n,(b+d)*3,none⟩ (.int .i64 (p:Int))).setCell ⟨n,(b+d)*3+1,none⟩ (.int .i64 (r:Int))).setCell ⟨n,(b+d)*3+2,none⟩ (.int .i64 (m.ay.length:Int))).drew.ownsRow B' 205 3 (.slice (some ⟨g,0,none⟩) row.length L) row.length (row.flatMap bV)/\Pk.nO b m.ay.length (row.drop (j+1)) f=Pk.nO b m.ay.length row m.ak/\f.length<=3000000):=by
        obtain⟨v1,p1,a1,a2,a3,a4⟩:=O.out;exact⟨v1,p1,a1.move ⟨rfl,rfl,rfl,zL0,fun _ _=>rfl⟩,aC a2 fun _ _=>rfl,a3,a4⟩
       clear O;have k0:(0:Int)<=(b:Int)+(d:Int):=by omega
       have k1:(b:Int)+(d:Int)<(C.length:Int):=by omega
       have k2:((b:Int)+(d:Int)).toNat=b+d:=by omega
       clear Z r8 k8 o8 uq y xI pX
       go_region
       go_wp2_with fail;exact⟨⟨j+1,by omega,by go_num,Ep⟩,by simp[intOf];omega⟩
     ·have b9:decide ((0:Int)<(b:Int)+(d:Int)+1 - (f.length:Int))=false:=eV (by omega)
      have pX:Hid (f.set (b+d) (p,r,m.ay.length)=Pk.Aa f (b+d) (p,r,m.ay.length)):=by
       show _=_;rw[Pk.Aa,show b+d+1-f.length=0 by omega,si,eN]
      have aa:b+d<f.length:=by omega
      go_upto_region 8 with fail
      rw[<-aW];clear aW Y;go_upto_region 12 with fail
      clear cp x3 E;obtain⟨J,ah⟩:∃v,o=v:=⟨_,rfl⟩;obtain⟨C,ax⟩:∃v,f=v:=⟨_,rfl⟩;subst ah ax
      ·
       have o2:=h2.row 1 K;obtain⟨n,M,z,uq,y,am,an,aw⟩:∃n M z,o 1=.slice (some ⟨n,0,none⟩) f.length M/\(o 1).ownBlock=some n/\En t n ((b+d)*3) z:=by
        obtain⟨z,hz⟩:∃z,f[b+d]?=some z:=⟨_,cF aa⟩;obtain⟨f1,f2,f3⟩:=Jb _ _ _ hz;obtain⟨g,cp,e,A⟩:=mZ o2 f1;exact⟨g,cp,z,e,by rw[e];rfl,A _ _ f1,A _ _ f2,A _ _ f3⟩
       have a7:t.cell? ⟨pb,1,none⟩=some (.slice (some ⟨n,0,none⟩) f.length M):=by rw[<-uq];exact h2.blk.cell 1
       have a6:=(h2.kr K y).frozen;have x1:t.cell? ⟨R,0,none⟩=some (.int .i64 (p:Int)):=T.cell 0;have x2:t.cell? ⟨R,1,none⟩=some (.int .i64 (r:Int)):=T.cell 1;have O:Hid (∃o f,bZ W0 B pb vT vN o (((t.setCell ⟨n,(b+d)*3,none⟩ (.int .i64 (p:Int))).setCell ⟨n,(b+d)*3+1,none⟩ (.int .i64 (r:Int))).setCell ⟨n,(b+d)*3+2,none⟩ (.int .i64 (m.ay.length:Int))) P { ay:=m.ay++[b],ak:=f,aI:=m.aI }/\(((t.setCell ⟨n,(b+d)*3,none⟩ (.int .i64 (p:Int))).setCell ⟨n,(b+d)*3+1,none⟩ (.int .i64 (r:Int))).setCell ⟨n,(b+d)*3+2,none⟩ (.int .i64 (m.ay.length:Int))).ownsRow B' 205 3 (.slice (some ⟨g,0,none⟩) row.length L) row.length (row.flatMap bV)/\Pk.nO b m.ay.length (row.drop (j+1)) f=Pk.nO b m.ay.length row m.ak/\f.length<=3000000):=by
        have kq:=h2.kr K y;refine⟨o,_,h2.Aa y (k:=b+d) (p,r,m.ay.length),?_,?_,?_⟩
        ·have t1:=Br (j:=(b+d)*3) (u:=.int .i64 (p:Int)) D kq (by decide)
         have k1:Kd (t.setCell ⟨n,(b+d)*3,none⟩ (.int .i64 (p:Int))) n 138:=by obtain⟨F,A⟩:=kq;exact⟨_,aj.set (cs:=F) A _ _⟩
         have t2:=Br (j:=(b+d)*3+1) (u:=.int .i64 (r:Int)) t1 k1 (by decide);have k2:Kd ((t.setCell ⟨n,(b+d)*3,none⟩ (.int .i64 (p:Int))).setCell ⟨n,(b+d)*3+1,none⟩ (.int .i64 (r:Int))) n 138:=by obtain⟨F,A⟩:=k1;exact⟨_,aj.set (cs:=F) A _ _⟩
         exact Br t2 k2 (by decide)
        ·show Pk.nO b m.ay.length (row.drop (j+1)) (f.set (b+d) (p,r,m.ay.length))=_
         rw[<-xI.out,<-pX.out]
        ·show (f.set (b+d) (p,r,m.ay.length)).length<=_
         rw[ib];exact av
       have Ep:Hid (∃o f,bZ W0 B pb vT vN o (((t.setCell ⟨n,(b+d)*3,none⟩ (.int .i64 (p:Int))).setCell ⟨n,(b+d)*3+1,none⟩ (.int .i64 (r:Int))).setCell ⟨n,(b+d)*3+2,none⟩ (.int .i64 (m.ay.length:Int))).drew P { ay:=m.ay++[b],ak:=f,aI:=m.aI }/\(((t.setCell ⟨n,(b+d)*3,none⟩ (.int .i64 (p:Int))).setCell ⟨n,(b+d)*3+1,none⟩ (.int .i64 (r:Int))).setCell ⟨n,(b+d)*3+2,none⟩ (.int .i64 (m.ay.length:Int))).drew.ownsRow B' 205 3 (.slice (some ⟨g,0,none⟩) row.length L) row.length (row.flatMap bV)/\Pk.nO b m.ay.length (row.drop (j+1)) f=Pk.nO b m.ay.length row m.ak/\f.length<=3000000):=by
        obtain⟨v1,p1,a1,a2,a3,a4⟩:=O.out;exact⟨v1,p1,a1.move ⟨rfl,rfl,rfl,zL0,fun _ _=>rfl⟩,aC a2 fun _ _=>rfl,a3,a4⟩
       clear O;have k0:(0:Int)<=(b:Int)+(d:Int):=by omega
       have k1:(b:Int)+(d:Int)<(f.length:Int):=by omega
       have k2:((b:Int)+(d:Int)).toNat=b+d:=by omega
       clear h2 D T o2 uq y xI pX
       go_region
       go_wp2_with fail;exact⟨⟨j+1,by omega,by go_num,Ep⟩,by simp[intOf];omega⟩
    ·obtain rfl:j=row.length:=by omega
     rw[g8,Pk.nO]at I;have HE:Hid (bZ W0 B pb vT vN o wz P (Pk.lay m row)):=by
      show bZ _ _ _ _ _ _ _ _ _;unfold Pk.lay;rw[<-ac.out,<-I];exact h1
     clear h1 I;go_wp2_with fail
     go_end0
     exact⟨rfl,o,HE.out⟩
end
theorem cell_below{w w':World}(h:Below w.heap.size w w'){a:Addr}{v:Value}(b:w.cell? a=some v):w'.cell? a=some v:=(cJ (w:=w) (h.block a.block (od w a b))).trans b
theorem PP.at{D:Nat->Prop}{w:World}{v:Value}{P:List Lx.Pd}(h:PP D w v P){j:Nat}(d:j<P.length):∃g cap u,v=.slice (some ⟨g,0,none⟩) P.length cap/\IR 0 w u P[j].right/\w.cell? ⟨g,j*3,none⟩=some (.int .i64 (P[j].left:Int))/\w.cell? ⟨g,j*3+1,none⟩=some u/\w.cell? ⟨g,j*3+2,none⟩=some (.int .i64 P[j].prec):=by
 obtain⟨c,h1,h2,h3,-⟩:=h;have i:Tr.Seq (fun _=>True) w 120 3 tX (fun u q=>IR 0 w u q.right) v P:=⟨c,h1,h2,fun _ _=>trivial,fun q f=>(h3 q f).1⟩;obtain⟨g,cap,u,b,-,k,a⟩:=Seq.at i (fun _=>rfl) d;exact⟨g,cap,u,b,k,a 0 (by decide),a 1 (by decide),a 2 (by decide)⟩
theorem PP.below{D:Nat->Prop}{w w':World}{v:Value}{P:List Lx.Pd}(h:PP D w v P)(b:Below w.heap.size w w'):PP D w' v P:=by
 obtain⟨c,h1,h2,h3,h4⟩:=h;exact⟨c,h1,own_below h2 b,fun q a=>⟨own_below (h3 q a).1 b,(h3 q a).2⟩,h4⟩
end Go.Proofs.YtagkodkijkpemaaGreatDoor

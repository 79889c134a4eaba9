import Derived.Test.YtagkodkijkpemaaGreatDoorRA46
set_option maxHeartbeats 8000000
set_option maxRecDepth 1000000
namespace Go.Proofs.YtagkodkijkpemaaGreatDoor
open Lx Go.Proofs.Tryz
open Go.RowKit
open Tr
theorem amu{W:World}(sF:∀W',Below W.heap.size W W'->fq W')(ae:∀W',Below W.heap.size W W'->TabAt 2 Lib.deBruijn64tab W'):Calls prog 36 #[.string iq] W (P9 W):=by
 have G8:=amr (W1:=W) (sF W (cV _ _));have HM:Hid (∀W1,Below W.heap.size W W1->fq W1):=sF;have H2:Hid (∀W',Below W.heap.size W W'->TabAt 2 Lib.deBruijn64tab W'):=ae;have WY:Hid (∀W1,fq W1->_):=fun W1 h=>amq (W1:=W1) h
 have WZ:Hid (∀W1,fq W1->_):=fun W1 h=>ams (W1:=W1) h
 clear sF ae;generalize iq=tx at G8 WY WZ|-;go_enter func36,ntmps36;go_upto_region 4 with (go_at_call 37;refine G8.mono ?_;rintro e w1⟨la,lc,ea,ec,rfl,F,hE⟩)
 have C8:=WY.out w1 (HM.out w1 F);clear G8 WY;go_upto_region 5 with (go_at_call 21;refine C8.mono ?_;rintro e w2⟨A,S,I,N,z,Q,x,O,J,H,R,M,P,rfl,X,hP,ak⟩)
 obtain⟨d,GZ⟩:∃b,w2.heap.size=b:=⟨_,rfl⟩;obtain⟨G,D⟩:∃V,V=w2.alloc (.cells #[.slice A 2 z,.slice S 2 Q,.slice (some ⟨x,0,none⟩) 3 O,.slice I J H,.slice N R M] 56):=⟨_,rfl⟩;have k3:aj G d #[.slice A 2 z,.slice S 2 Q,.slice (some ⟨x,0,none⟩) 3 O,.slice I J H,.slice N R M] 56:=by rw[D,<-GZ];exact aj.new ..
 have Ch:Below w2.heap.size w2 G:=by rw[D];exact(cV _ _).alloc (zL0) _
 have tJ:Below w1.heap.size w1 G:=X.trans (Ch.mono X.size);have Ae:Below W.heap.size W G:=F.trans (tJ.mono F.size);have G5:=hE.keep tJ;have ad:qH G (fun k=>k<G.heap.size) x P:=(hP.move fun b U=>Ch.block b U).imp fun k hk=>dd hk Ch.size
 rw[<-D];have ag:=WZ.out G (HM.out G Ae);rw[GZ];clear D GZ C8 X Ch tJ F hE HM WZ hP;go_upto_region 6 with (go_at_call 60;refine ag.mono ?_;rintro e c⟨gE,E,fa,fc,L,rfl,p,kE,am,hI,Vr,af⟩)
 have Ci:=Ae.trans (p.mono Ae.size);have Z:aj c d _ 56:=(p.block _ k3.lt).trans k3;have mP:=G5.keep p;have mQ:qH c (fun k=>k<c.heap.size) x P:=(ad.move fun b U=>p.block b U).imp fun k hk=>dd hk p.size
 have n:Hid (L.length=4):=Vr;clear ag p k3 G5 ad Ae Vr;have c0:c.cell? ⟨d,0,none⟩=some (.slice A 2 z):=Z.cell 0;have c1:c.cell? ⟨d,1,none⟩=some (.slice S 2 Q):=Z.cell 1;have c2:c.cell? ⟨d,2,none⟩=some (.slice (some ⟨x,0,none⟩) 3 O):=Z.cell 2;have c3:c.cell? ⟨d,3,none⟩=some (.slice I J H):=Z.cell 3;have c4:c.cell? ⟨d,4,none⟩=some (.slice N R M):=Z.cell 4;have ac:Hid (∀V,Below c.heap.size c V->Calls prog 61 #[.agg #[.slice A 2 z,.slice S 2 Q,.slice (some ⟨x,0,none⟩) 3 O,.slice I J H,.slice N R M],.slice ea 4 ec] V fun e u=>∃r,e=.returned (.agg #[.slice A 2 z,.slice S 2 Q,.slice (some ⟨x,0,none⟩) 3 O,.slice I J H,.slice N R M,.map (some r)])/\V.heap.size<=r/\dm bC (fun _=>True) u r (fun a=>(oo nG 4 a:Int))/\Below c.heap.size c u/\Below V.heap.size V u/\u.cell? ⟨d,0,none⟩=some (.slice A 2 z)):=fun V y=>(aeR (mP.keep y) (by decide)).mono (by
  rintro e u⟨r,rfl,h1,h2,h3⟩;exact⟨r,rfl,h1,h2,y.trans (h3.mono y.size),h3,aV (y.trans (h3.mono y.size)) c0⟩)
 have ah:Hid (∀V,Below c.heap.size c V->Calls prog 62 #[.slice fa 4 fc,.int .i64 2] V fun e u=>∃(gF:Nat)(Y:List Nat)(fs:List (List Nat)),e=.returned (.slice (some ⟨gF,0,none⟩) 4 4)/\Below c.heap.size c u/\Below V.heap.size V u/\V.heap.size<=gF/\aj u gF (Y.map (gY 1)).toArray 214/\Y.length=4/\∀(i g:Nat),Y[i]?=some g->∃ws:List Nat,fs[i]?=some ws/\TS u g ws/\ws.length=1):=fun V y=>(aht (nT:=2) (hI.keep y) (by rw[n.out];decide) (by decide) af).mono (by
  rintro e u⟨gO,Y,rfl,h1,h2,h3⟩;refine⟨gO,Y,L.map fun ts=>iW 1 ts ts.length,by rw[n.out],y.trans (h3.b.mono y.size),h3.b,h2,?_,h1.trans n.out,fun i g hg=>?_⟩
  ·have:=h3.out
   rw[h1,ij,si,eN]at this;exact this
  ·obtain⟨l,hl⟩:∃l,L[i]?=some l:=⟨_,cF (by rw[<-h1];exact(cG.1 hg).1)⟩
   have e1:(L.map fun ts=>iW 1 ts ts.length)[i]?=some (iW 1 l l.length):=by rw[dj,hl];rfl
   obtain⟨s1,s2⟩:=SK 1 l l.length;refine⟨_,e1,⟨?_,s2⟩,s1⟩;have:=h3.row i g (wL (iW 1 l l.length)) hg (by rw[dj];exact eS (Option.map wL) e1);exact this)
 clear mP hI af n Z;have hS:∀V,Below c.heap.size c V->V.cell? ⟨d,0,none⟩=some (.slice A 2 z)/\V.cell? ⟨d,1,none⟩=some (.slice S 2 Q)/\V.cell? ⟨d,2,none⟩=some (.slice (some ⟨x,0,none⟩) 3 O)/\V.cell? ⟨d,3,none⟩=some (.slice I J H)/\V.cell? ⟨d,4,none⟩=some (.slice N R M):=fun V hb=>⟨aV hb c0,aV hb c1,aV hb c2,aV hb c3,aV hb c4⟩
 have HS:Hid (∀V,Below c.heap.size c V->_):=hS;clear hS;have ar:=@r7 prog
 go_region_held3 (fun V=>V.cell? ⟨d,0,none⟩=some (.slice A 2 z)/\V.cell? ⟨d,1,none⟩=some (.slice S 2 Q)/\V.cell? ⟨d,2,none⟩=some (.slice (some ⟨x,0,none⟩) 3 O)/\V.cell? ⟨d,3,none⟩=some (.slice I J H)/\V.cell? ⟨d,4,none⟩=some (.slice N R M)) ((refine HS.out _ ?_;repeat (first | with_reducible exact j | with_reducible exact t | with_reducible exact cV _ _ | with_reducible refine zf ?_ _ | with_reducible refine OI ?_ | with_reducible refine QJ _ _ _ _ _ _ _ _ _ _ _ _ _ ?_ (by have:=t.size;first | omega | (have:=j.size;omega))))) (first
  | (go_at_call 61;refine(ac.out _ (by repeat (first | with_reducible exact cV _ _ | with_reducible refine zf ?_ _ | with_reducible refine OI ?_))).mono ?_;rintro e w6⟨r,rfl,T,hG,t,s,ao⟩;clear ac ao;have s6:c.heap.size<=w6.heap.size:=t.size;have EF:r<w6.heap.size:=hG.lt;(first | (have aa:c.heap.size+2<=r:=by simpa using T) | (have aa:c.heap.size+1<=r:=by simpa using T) | (have aa:c.heap.size<=r:=T));(first | have v:=aob s | have v:=aoc s | have v:=an9 s | have v:=aoa s | skip))
  | (go_at_call 62;refine(ah.out _ (by repeat (first|with_reducible exact t|with_reducible refine zf ?_ _|with_reducible refine OI ?_))).mono ?_;rintro e w7⟨gF,Y,fs,rfl,j,C,az,kF,ab,hr⟩;clear ah;have B:Below w6.heap.size w6 w7:=amt (by repeat (first|with_reducible exact cV _ _|with_reducible refine zf ?_ _|with_reducible refine OI ?_)) C;(first|have K:=VN C|have K:=kp1 C|skip);(first|have m:=Ih K.1|have m:=Ih K.2|have m:=Ih K|have m:=Ih (qy B v.1)|have m:=Ih (qy B v.2)|have m:=Ih (qy B v)|skip);(first|have f:=Ig K.1|have f:=Ig K.2|have f:=Ig K|have f:=Ig (qy B v.1)|have f:=Ig (qy B v.2)|have f:=Ig (qy B v)|skip);(try (have kz:=adk f;obtain⟨yf,y0,y1,y2,y3,y4,y5,y6,y7,y8,y9,ax,ap,av⟩:=kz;have kz:=adk (Qr (.map #[] 0) f);obtain⟨xf,x0,x1,x2,x3,x4,x5,x6,x7,x8,x9,aw,zM,wo⟩:=kz));have jI:r<w7.heap.size:=dd EF B.size;have q:Hid (Lf W c w7 r (.slice A 2 z) (.slice S 2 Q) (.slice (some ⟨x,0,none⟩) 3 O) (.slice I J H) (.slice N R M) (.slice (some ⟨gE,0,none⟩) 4 4) (.slice (some ⟨gF,0,none⟩) 4 4)):=fun W8 lb pm nZ hx an km kl aq hl hp=>ai2 Ci H2.out mQ ak kE am hG B kF ab hr nZ hx an km kl aq hl hp;clear hG kF ab hr))
 have o:=amQ q.out j jI
 rotate_left
 have o:=amR q.out j jI
 rotate_left
 have o:=adl q.out j m (by omega) (by omega)
 rotate_left
 have o:=FW q.out j m f (by omega) (by omega) (by omega)
 rotate_left
 have o:=adn q.out j jI f (by omega)
 rotate_left
 have o:=FW q.out j m f (by omega) (by omega) (by omega)
 rotate_left
 have o:=adl q.out j m (by omega) (by omega)
 rotate_left
 have o:=FW q.out j m f (by omega) (by omega) (by omega)
 rotate_left
 have o:=FW q.out j m f (by omega) (by omega) (by omega)
 rotate_left
 have o:=adn q.out j jI f (by omega)
 rotate_left
 have o:=FW q.out j m f (by omega) (by omega) (by omega)
 rotate_left
 have o:=FW q.out j m f (by omega) (by omega) (by omega)
 rotate_left
 all_goals
  unfold Bn at o
  try clear yf y0 y1 y2 y3 y4 y5 y6 y7 y8 y9 ax ap av xf x0 x1 x2 x3 x4 x5 x6 x7 x8 x9 aw zM wo
  clear q ar HS c0 c1 c2 c3 c4 mQ kE t j s C B Ci
  try clear v
  try clear K
  try clear m
  try clear f
  go_wp2_with (first | (go_at_call 63;refine o.mono ?_;rintro e w9⟨rfl,CX⟩;clear o) | (go_at_call 64;refine CX.mono ?_;rintro e wE⟨ra,rc,rfl,al,ai⟩;clear CX))
  refine fx (Mi rfl _ _ _) rfl ?_;exact⟨_,rfl,al,ai⟩
end Go.Proofs.YtagkodkijkpemaaGreatDoor

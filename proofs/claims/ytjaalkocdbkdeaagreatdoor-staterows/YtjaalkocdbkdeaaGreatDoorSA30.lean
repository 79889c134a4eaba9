import Derived.Test.YtjaalkocdbkdeaaGreatDoorSA29
import Derived.Test.YtjaalkocdbkdeaaGreatDoorSA22
import Derived.Deep.DrawnRows
import Derived.Shelf.SlSortCmp.InsertionK
import Derived.Shelf.Strconv.AppendIntPublic10
import Derived.Shelf.SlSortCmp.WholeK
import Derived.Shelf.SlGeneric
import Derived.Ground.NamesProg
import Derived.Ground.SlsfProg
import Derived.Test.YtjaalkocdbkdeaaGreatDoorProg
import Derived.Shelf.Small.Bits
set_option maxHeartbeats 8000000
set_option maxRecDepth 1000000
namespace Go.Proofs.YtjaalkocdbkdeaaGreatDoor
open Lx Go.Proofs.Tryz
open Go.RowKit
open Tr
namespace Lx
end Lx
end Go.Proofs.YtjaalkocdbkdeaaGreatDoor
namespace Go.Proofs.YtjaalkocdbkdeaaGreatDoor
open Lx Go.Proofs.Tryz
open Go.RowKit
open Tr
namespace Lx
end Lx
end Go.Proofs.YtjaalkocdbkdeaaGreatDoor
namespace Go.Proofs.YtjaalkocdbkdeaaGreatDoor
open Lx Go.Proofs.Tryz
open Go.RowKit
open Tr
namespace Lx
end Lx
end Go.Proofs.YtjaalkocdbkdeaaGreatDoor
namespace Go.Proofs.YtjaalkocdbkdeaaGreatDoor
open Lx Go.Proofs.Tryz
open Go.RowKit
open Tr
namespace Lx
def eZ(s:ByteArray):Except (Nat×Nat) Gr :=
 match parse s with
 |.error e=>.error e
 |.ok g=>if (dK g).1=0 then (if 200<(bI g).length then .error (8,0) else .ok g) else .error (dK g)
theorem KH{s:ByteArray}{e:Nat×Nat}(h:parse s=.error e):eZ s=.error e:=by unfold eZ;rw[h]
theorem KJ{s:ByteArray}{g:Gr}(h:parse s=.ok g)(hc:(dK g).1≠0):eZ s=.error (dK g):=by unfold eZ;rw[h];exact if_neg hc
theorem Kr{s:ByteArray}{g:Gr}(h:parse s=.ok g)(hc:(dK g).1=0)(hm:200<(bI g).length):eZ s=.error (8,0):=by unfold eZ;rw[h];exact(if_pos hc).trans (if_pos hm)
theorem KW{s:ByteArray}{g:Gr}(h:parse s=.ok g)(hc:(dK g).1=0)(hm:¬200<(bI g).length):eZ s=.ok g:=by unfold eZ;rw[h];exact(if_pos hc).trans (if_neg hm)
theorem XA{g:Gr}(h:(dK g).1=0):oU g=none/\pW g=none:=by
 unfold dK at h;cases h1:oU g with
 |some p=>rw[h1]at h;exact absurd h (by simp[iT])
 |none=>
  rw[h1]at h;cases h2:pW g with
  |some p=>rw[h2]at h;exact absurd h (by simp[iT])
  |none=>exact⟨rfl,rfl⟩
theorem aeW(g:Gr):(gY g).length<=wY g.levels:=by
 have:=Od g;unfold gZ eP at this;rw[List.length_map]at this;exact this
theorem ahN(aM:ByteArray)(il:Bool)(t:Tk)(nx:ByteArray):(qF aM il t nx).length<=1:=by
 unfold qF
 split
 ·simp
 ·split <;> simp
theorem YX:∀(ts:List Tk)(aM:ByteArray)(il:Bool),(wl aM il ts).length<=ts.length
 | [],_,_=>zL0
 |t::ts,aM,il=>by
  rw[wl,List.length_append,List.length_cons];have h1:=ahN aM il t (hd ts);have h2:=YX ts t.1 (wV il t);omega
theorem ahO{s:ByteArray}{g:Gr}(h:parse s=.ok g)(hs:s.size<=2000):(iE g).length<=100000:=by
 rw[<-NU h];have h1:=YX (lex s) aL true;have h2:(lex s).length<=2001:=by have:=F3 s (aV s 0 false);unfold lex;omega
 omega
theorem afx{s:ByteArray}{g:Gr}(h:parse s=.ok g):s.size<=2000:=by
 unfold parse at h
 split at h
 ·cases h
 ·omega
end Lx
end Go.Proofs.YtjaalkocdbkdeaaGreatDoor
namespace Go.Proofs.YtjaalkocdbkdeaaGreatDoor
open Lx Go.Proofs.Tryz
open Go.RowKit
open Tr
def wZ:Value:=.agg #[.slice none 0 0,.slice none 0 0,.slice none 0 0,.slice none 0 0,.slice none 0 0]
def ahP(s:ByteArray)(w:World)(e:Ending)(w':World):Prop :=
 ∃v,∃n a:Nat,e=.returned (.tuple #[v,.int .i64 (n:Int),.int .i64 (a:Int)])/\Below w.heap.size w w'/\(∀g,eZ s=.ok g->n=0/\a=0/\PlP w' v (aD g) (bg g) (bI g) ((aD g).map fun t=>(eT g t).1) ((aD g).map fun t=>(eT g t).2))/\(∀x,eZ s=.error x->n=x.1/\a=x.2/\v=wZ)
def Eu(s:ByteArray)(w:World)(e:Ending)(w':World):Prop :=
 ∃v,∃n a:Nat,e=.returned (.tuple #[v,.int .i64 (n:Int),.int .i64 (a:Int)])/\Below w.heap.size w w'/\(∀g,eZ s=.ok g->n=0/\a=0/\vz w.heap.size w' v (aD g) (bg g) (bI g) ((aD g).map fun t=>(eT g t).1) ((aD g).map fun t=>(eT g t).2))/\(∀x,eZ s=.error x->n=x.1/\a=x.2/\v=wZ)
theorem Eu.no{s:ByteArray}{w w':World}{n a:Nat}(h:eZ s=.error (n,a))(hb:Below w.heap.size w w'):Eu s w (.returned (.tuple #[wZ,.int .i64 (n:Int),.int .i64 (a:Int)])) w' :=
 ⟨_,n,a,rfl,hb,(fun g hg=>by rw[h]at hg;cases hg),(fun x hx=>by rw[h]at hx;cases hx;exact⟨rfl,rfl,rfl⟩)⟩
theorem Kt{w:World}{r t:Nat}{x0 x1 x2 x3 x4 y0 y1 y2 y3 y4:Value}(h:aj w r #[y0,y1,y2,y3,y4] t):aj (((((w.setCell ⟨r,0,none⟩ x0).setCell ⟨r,1,none⟩ x1).setCell ⟨r,2,none⟩ x2).setCell ⟨r,3,none⟩ x3).setCell ⟨r,4,none⟩ x4) r #[x0,x1,x2,x3,x4] t:=((((h.set 0 _).set 1 _).set 2 _).set 3 _).set 4 _
theorem J2{B:Nat}{a w:World}(h:Below B a w){r:Nat}(hr:B<=r)(x0 x1 x2 x3 x4:Value):Below B a (((((w.setCell ⟨r,0,none⟩ x0).setCell ⟨r,1,none⟩ x1).setCell ⟨r,2,none⟩ x2).setCell ⟨r,3,none⟩ x3).setCell ⟨r,4,none⟩ x4) :=
 ((((h.setCell (p:=⟨r,0,none⟩) hr x0).setCell (p:=⟨r,1,none⟩) hr x1).setCell (p:=⟨r,2,none⟩) hr x2).setCell (p:=⟨r,3,none⟩) hr x3).setCell (p:=⟨r,4,none⟩) hr x4
theorem afy(w:World)(r:Nat)(x0 x1 x2 x3 x4:Value)(g:Nat)(hn:g≠r):(((((w.setCell ⟨r,0,none⟩ x0).setCell ⟨r,1,none⟩ x1).setCell ⟨r,2,none⟩ x2).setCell ⟨r,3,none⟩ x3).setCell ⟨r,4,none⟩ x4).heap[g]?=w.heap[g]?:=by
 rw[zS0 hn,zS0 hn,zS0 hn,zS0 hn,zS0 hn]
theorem own_ne{w:World}{B e z:Nat}{v:Value}{n:Nat}{xs:List Value}(h:w.ownsRow B e z v n xs){r t:Nat}{cs:Array Value}(hb:aj w r cs t)(hne:e≠t):∀g,v.ownBlock=some g->g≠r:=by
 intro g hg e1;obtain⟨cur,hc⟩:=zN h hg;unfold aj at hb;rw[e1,hb]at hc;cases hc;exact hne rfl
theorem vz.other{B:Nat}{w w':World}{v:Value}{T N:List ByteArray}{P:List Lx.Pd}{Bs Ks:List Nat}(h:vz B w v T N P Bs Ks){r:Nat}{cs:Array Value}(hb:aj w r cs 45)(hk:∀g,g<w.heap.size->g≠r->w'.heap[g]?=w.heap[g]?):vz B w' v T N P Bs Ks:=by
 obtain⟨vT,vN,vP,vB,vK,rfl,h1,h2,⟨ps,p1,p2,p3,p4⟩,h4,h5,h6⟩:=h;exact⟨vT,vN,vP,vB,vK,rfl,aC h1 fun g hg=>hk g (h1.lt g hg).2 (own_ne h1 hb (by decide) g hg),aC h2 fun g hg=>hk g (h2.lt g hg).2 (own_ne h2 hb (by decide) g hg),⟨ps,p1,aC p2 fun g hg=>hk g (p2.lt g hg).2 (own_ne p2 hb (by decide) g hg),fun q hq=>⟨aC (p3 q hq).1 fun g hg=>hk g ((p3 q hq).1.lt g hg).2 (own_ne (p3 q hq).1 hb (by decide) g hg),(p3 q hq).2⟩,p4⟩,aC h4 fun g hg=>hk g (h4.lt g hg).2 (own_ne h4 hb (by decide) g hg),aC h5 fun g hg=>hk g (h5.lt g hg).2 (own_ne h5 hb (by decide) g hg),h6⟩
theorem vz.mono{B B':Nat}{w:World}{v:Value}{T N:List ByteArray}{P:List Lx.Pd}{Bs Ks:List Nat}(h:vz B w v T N P Bs Ks)(hB:B'<=B):vz B' w v T N P Bs Ks:=by
 obtain⟨vT,vN,vP,vB,vK,h0,h1,h2,⟨ps,p1,p2,p3,p4⟩,h4,h5,h6⟩:=h;exact⟨vT,vN,vP,vB,vK,h0,h1,h2,⟨ps,p1,p2,fun q hq=>⟨(p3 q hq).1,fun g hg=>Nat.le_trans hB ((p3 q hq).2 g hg)⟩,p4⟩,h4,h5,fun g hg=>Nat.le_trans hB (h6 g hg)⟩
theorem ahQ(s:ByteArray)(w:World)(hmax:s.size<=maxLen)(ht:jd w):Calls prog 13 #[.string s] w (Eu s w):=by
 obtain⟨W,hW⟩:∃W,W=w.alloc (.cells #[.slice none 0 0,.slice none 0 0,.slice none 0 0,.slice none 0 0,.slice none 0 0] 45):=⟨_,rfl⟩;have hbW:Below w.heap.size w W:=by rw[hW];exact(Below.refl _ _).alloc (zL0) _
 have IW:W.heap.size=w.heap.size+1:=by rw[hW];simp
 have kR:aj W w.heap.size #[.slice none 0 0,.slice none 0 0,.slice none 0 0,.slice none 0 0,.slice none 0 0] 45:=by rw[hW];exact aj.new w _ 45
 have q1:=afU s W hmax;go_enter func13,ntmps13;go_wp2_with fail;rw[<-hW];clear hW;refine q1.mono ?_;rintro e w1⟨hb1,hm⟩;clear q1;have fM:Below w.heap.size w w1:=hbW.trans (hb1.mono (by omega));have nZ:aj w1 w.heap.size _ 45:=(hb1.block _ (by omega)).trans kR;have hs1:=hb1.size;have lr1:w.heap.size<w1.heap.size:=nZ.lt;have r0:w1.cell? ⟨w.heap.size,0,none⟩=some (.slice none 0 0):=nZ.cell 0;have r1:w1.cell? ⟨w.heap.size,1,none⟩=some (.slice none 0 0):=nZ.cell 1;have r2:w1.cell? ⟨w.heap.size,2,none⟩=some (.slice none 0 0):=nZ.cell 2;have r3:w1.cell? ⟨w.heap.size,3,none⟩=some (.slice none 0 0):=nZ.cell 3;have r4:w1.cell? ⟨w.heap.size,4,none⟩=some (.slice none 0 0):=nZ.cell 4;have rf:∀i,w1.frozen? ⟨w.heap.size,i,none⟩=false:=nZ.frozen;cases hp:Lx.parse s with
 |error x=>
  obtain⟨n,a⟩:=x;rw[hp]at hm;have he:e=.returned (.tuple #[.agg #[.slice none 0 0,.slice none 0 0],.int .i64 (n:Int),.int .i64 (a:Int)]):=hm;subst he;have HE:Hid (eZ s=.error (n,a)):=KH hp;have hn0:0<n:=Ol hp;have hnb:((n:Int) != 0)=true:=bne_iff_ne.2 (by omega);have hnd:¬(n:Int)=0:=by omega
  clear hm hp hn0;go_wp2_with fail;have kF:=(Kt (x0:=.slice none 0 0) (x1:=.slice none 0 0) (x2:=.slice none 0 0) (x3:=.slice none 0 0) (x4:=.slice none 0 0) nZ).alloc (.cells #[.slice none 0 0,.slice none 0 0] 75);have s0:=kF.cell 0;have s1:=kF.cell 1;have s2:=kF.cell 2;have s3:=kF.cell 3;have s4:=kF.cell 4;simp at s0 s1 s2 s3 s4;exact bodyPost_ret (v:=.tuple #[wZ,.int .i64 (n:Int),.int .i64 (a:Int)]) (by simp[wZ,results,results13,go_sem,s0,s1,s2,s3,s4]) rfl (Eu.no HE.out ((J2 fM (zL0) _ _ _ _ _).alloc (by simp;omega) _))
 |ok g=>
  rw[hp]at hm;obtain⟨vl,vr,rfl,hg⟩:=hm;obtain⟨la,lc,rfl,-⟩:=Seq.len hg.1;obtain⟨ra,rc,rfl,-⟩:=(mo.len (F:=In W.heap.size w1.heap.size) (w:=w1) ⟨fun b hb=>hb.2,dW.weak hg.2 fun A v x hA hk=>eO.weak hA hk⟩);have hss:=afx hp;obtain⟨W1,hW1⟩:∃W1,W1=w1.alloc (.cells #[.slice la g.levels.length lc,.slice ra g.rules.length rc] 75):=⟨_,rfl⟩;have jw:Below w1.heap.size w1 W1:=by rw[hW1];exact(Below.refl _ _).alloc (zL0) _
  have hsA:W1.heap.size=w1.heap.size+1:=by rw[hW1];simp
  have kB:aj W1 w1.heap.size #[.slice la g.levels.length lc,.slice ra g.rules.length rc] 75:=by rw[hW1];exact aj.new w1 _ 75
  have q2:=aeN s W1 hss;go_wp2_with fail;rw[<-hW1];clear hW1;refine q2.mono ?_;rintro e w2⟨vW,rfl,oW,hb2⟩;clear q2;rw[NU hp]at oW;have wH:WR w2 vW (iE g):=dm oW (Nat.zero_le _);obtain⟨wa,wc,rfl,-⟩:=wH.len;have l7:Below w1.heap.size w1 w2:=jw.trans (hb2.mono (by omega));have hs2:=hb2.size;have hgm:∀{w':World},Below w1.heap.size w1 w'->zX (In W.heap.size w1.heap.size) w' (.slice la g.levels.length lc) (.slice ra g.rules.length rc) g:=fun hb=>hg.move (fun b hbb=>hb.block b hbb.2) (fun _ h=>h)
  have hpg:∀{w':World},Below w1.heap.size w1 w'->mo (In W.heap.size w1.heap.size) w' (.slice ra g.rules.length rc) g.rules:=fun hb=>⟨fun b hbb=>Nat.lt_of_lt_of_le hbb.2 hb.size,dW.weak (hgm hb).2 fun A v x hA hk=>eO.weak hA hk⟩
  have q3:=adI hp (hpg l7) wH;have kB2:aj w2 w1.heap.size #[.slice la g.levels.length lc,.slice ra g.rules.length rc] 75:=(hb2.block _ (by omega)).trans kB;have g1:w2.cell? ⟨w1.heap.size,1,none⟩=some (.slice ra g.rules.length rc):=kB2.cell 1;go_wp2_with fail;refine q3.mono ?_;rintro e w3⟨rfl,hb3⟩;clear q3 g1;have hs3:=hb3.size;have uF:Below w1.heap.size w1 w3:=l7.trans (hb3.mono l7.size);have qJ:Below w.heap.size w w3:=fM.trans (uF.mono (by omega));have iy:aj w3 w.heap.size _ 45:=(uF.block _ lr1).trans nZ;have kB3:aj w3 w1.heap.size #[.slice la g.levels.length lc,.slice ra g.rules.length rc] 75:=(hb3.block _ (by omega)).trans kB2;clear r0 r1 r2 r3 r4 rf
  by_cases hc:(dK g).1=0
  ·have h6:=XA hc
   obtain⟨h1,h2,h3⟩:=BL hp;obtain⟨h4,h5⟩:=JU hp;have hfit:Lx.Fit g:=by
    refine⟨h1,h2,h3,fun r hr=>?_,h4,h5,h6.2,h6.1⟩;obtain⟨i,hi,rfl⟩:=List.mem_iff_getElem.1 hr;obtain⟨_,_,_,-,-,hA,-⟩:=(hpg uF).at hi;exact OA hA
   have q4:=aeV hp hfit (hgm uF) (fun b hbb=>Nat.lt_of_lt_of_le hbb.2 uF.size) (wH.below hb3) (ht.move (qJ.block _ ht.lt)) (ahO hp hss);have hcb:(((dK g).1:Int) != 0)=false:=by simp[hc]
   have hcn:((dK g).1:Int)=0:=by omega
   have HC:Hid ((dK g).1=0):=hc;have HM:Hid (200<(bI g).length->eZ s=.error (8,0)):=fun hm=>Kr hp hc hm
   have HO:Hid (¬200<(bI g).length->eZ s=.ok g):=fun hm=>KW hp hc hm
   have g0:w3.cell? ⟨w1.heap.size,0,none⟩=some (.slice la g.levels.length lc):=kB3.cell 0;have g1:w3.cell? ⟨w1.heap.size,1,none⟩=some (.slice ra g.rules.length rc):=kB3.cell 1;clear hc h6 h1 h2 h3 h4 h5;generalize dK g=cr at hcb hcn HC;go_wp2_with fail;refine q4.mono ?_;rintro e w4⟨v,rfl,lV,hb4⟩
   replace lV:=lV.mono (B':=w.heap.size) (by have:=qJ.size;first | omega | (simp;omega))
   clear q4 g0 g1;obtain⟨vT,vN,vP,vB,vK,rfl,oT,oN,xJ,oB,oK,-⟩:=id lV;obtain⟨ps,p1,p2,-⟩:=id xJ;obtain⟨ta,tc,rfl,-⟩:=aF oT;obtain⟨na,nc,rfl,-⟩:=aF oN;obtain⟨pa,pc,rfl,hpm⟩:=aF p2;obtain⟨ba,bc,rfl,-⟩:=aF oB;obtain⟨ka,kc,rfl,-⟩:=aF oK;clear oT oN oB oK p1 p2 xJ;generalize ((aD g).map fun t=>(eT g t).1).length=nB at lV;generalize ((aD g).map fun t=>(eT g t).2).length=nK at lV;have Cz:Below w.heap.size w w4:=qJ.trans (hb4.mono (by omega));have qU:aj w4 w.heap.size _ 45:=(hb4.block _ (by omega)).trans iy;have lr4:=qU.lt;have r0:w4.cell? ⟨w.heap.size,0,none⟩=some (.slice none 0 0):=qU.cell 0;have r1:w4.cell? ⟨w.heap.size,1,none⟩=some (.slice none 0 0):=qU.cell 1;have r2:w4.cell? ⟨w.heap.size,2,none⟩=some (.slice none 0 0):=qU.cell 2;have r3:w4.cell? ⟨w.heap.size,3,none⟩=some (.slice none 0 0):=qU.cell 3;have r4:w4.cell? ⟨w.heap.size,4,none⟩=some (.slice none 0 0):=qU.cell 4;have rf:∀i,w4.frozen? ⟨w.heap.size,i,none⟩=false:=qU.frozen;unfold maxLen at hpm
   by_cases Ca:200<(bI g).length
   ·have HE:Hid (eZ s=.error (8,0)):=HM.out Ca
    have hmi:(200:Int)<((bI g).length:Int):=by omega
    clear HM HO Ca;go_wp2_with fail;have kF:=(Kt (x0:=.slice none 0 0) (x1:=.slice none 0 0) (x2:=.slice none 0 0) (x3:=.slice none 0 0) (x4:=.slice none 0 0) qU).alloc (.cells #[.slice ta (aD g).length tc,.slice na (bg g).length nc,.slice pa (bI g).length pc,.slice ba nB bc,.slice ka nK kc] 45);have s0:=kF.cell 0;have s1:=kF.cell 1;have s2:=kF.cell 2;have s3:=kF.cell 3;have s4:=kF.cell 4;simp at s0 s1 s2 s3 s4;exact bodyPost_ret (v:=.tuple #[wZ,.int .i64 ((8:Nat):Int),.int .i64 ((0:Nat):Int)]) (by simp[wZ,results,results13,go_sem,s0,s1,s2,s3,s4]) rfl (Eu.no HE.out ((J2 Cz (zL0) _ _ _ _ _).alloc (by simp;omega) _))
   ·have HE:Hid (eZ s=.ok g):=HO.out Ca
    have hmi:¬(200:Int)<((bI g).length:Int):=by omega
    clear HM HO Ca;go_wp2_with fail;have kF:=(Kt (x0:=.slice ta (aD g).length tc) (x1:=.slice na (bg g).length nc) (x2:=.slice pa (bI g).length pc) (x3:=.slice ba nB bc) (x4:=.slice ka nK kc) qU).alloc (.cells #[.slice ta (aD g).length tc,.slice na (bg g).length nc,.slice pa (bI g).length pc,.slice ba nB bc,.slice ka nK kc] 45);have s0:=kF.cell 0;have s1:=kF.cell 1;have s2:=kF.cell 2;have s3:=kF.cell 3;have s4:=kF.cell 4;simp at s0 s1 s2 s3 s4;refine bodyPost_ret (v:=.tuple #[.agg #[.slice ta (aD g).length tc,.slice na (bg g).length nc,.slice pa (bI g).length pc,.slice ba nB bc,.slice ka nK kc],.int .i64 ((0:Nat):Int),.int .i64 ((0:Nat):Int)]) (by simp[results,results13,go_sem,s0,s1,s2,s3,s4]) rfl ⟨_,0,0,rfl,(J2 Cz (zL0) _ _ _ _ _).alloc (by simp;omega) _,?_,?_⟩
    ·intro g' hg'
     rw[HE.out]at hg';cases hg';refine⟨rfl,rfl,lV.other qU fun x hx hn=>?_⟩;rw[Below.heap_alloc _ _ _ (by simp[World.setCell];exact hx)];exact afy w4 w.heap.size _ _ _ _ _ x hn
    ·intro x hx;rw[HE.out]at hx;cases hx
  ·have HE:Hid (eZ s=.error (dK g)):=KJ hp hc
   have hcb:(((dK g).1:Int) != 0)=true:=bne_iff_ne.2 (by omega);have hcd:¬((dK g).1:Int)=0:=by omega
   clear hc;generalize dK g=cr at HE hcb hcd;have r0:w3.cell? ⟨w.heap.size,0,none⟩=some (.slice none 0 0):=iy.cell 0;have r1:w3.cell? ⟨w.heap.size,1,none⟩=some (.slice none 0 0):=iy.cell 1;have r2:w3.cell? ⟨w.heap.size,2,none⟩=some (.slice none 0 0):=iy.cell 2;have r3:w3.cell? ⟨w.heap.size,3,none⟩=some (.slice none 0 0):=iy.cell 3;have r4:w3.cell? ⟨w.heap.size,4,none⟩=some (.slice none 0 0):=iy.cell 4;have rf:∀i,w3.frozen? ⟨w.heap.size,i,none⟩=false:=iy.frozen;go_wp2_with fail;have kF:=Kt (x0:=.slice none 0 0) (x1:=.slice none 0 0) (x2:=.slice none 0 0) (x3:=.slice none 0 0) (x4:=.slice none 0 0) iy;have s0:=kF.cell 0;have s1:=kF.cell 1;have s2:=kF.cell 2;have s3:=kF.cell 3;have s4:=kF.cell 4;simp at s0 s1 s2 s3 s4;exact bodyPost_ret (v:=.tuple #[wZ,.int .i64 (cr.1:Int),.int .i64 (cr.2:Int)]) (by simp[wZ,results,results13,go_sem,s0,s1,s2,s3,s4]) rfl (Eu.no HE.out (J2 qJ (zL0) _ _ _ _ _))
theorem XB(s:ByteArray)(w:World)(hmax:s.size<=maxLen)(ht:jd w):Calls prog 13 #[.string s] w (ahP s w):=by
 refine(ahQ s w hmax ht).mono ?_;rintro e w'⟨v,n,a,h1,h2,h3,h4⟩;exact⟨v,n,a,h1,h2,fun g hg=>⟨(h3 g hg).1,(h3 g hg).2.1,(h3 g hg).2.2.pl⟩,h4⟩
end Go.Proofs.YtjaalkocdbkdeaaGreatDoor
namespace Go.Proofs.YtjaalkocdbkdeaaGreatDoor
open Lx Go.Proofs.Tryz
open Go.RowKit
open Tr
theorem Lx.Yp{s:ByteArray}{x:Nat×Nat}(h:eZ s=.error x):x.1≠0:=by
 cases hp:Lx.parse s with
 |error y=>
  obtain⟨n,a⟩:=y;rw[KH hp]at h;cases h;have:=Ol hp;show n≠0;omega
 |ok g=>
  by_cases hc:(dK g).1=0
  ·by_cases hm:200<(bI g).length
   ·rw[Kr hp hc hm]at h;cases h;decide
   ·rw[KW hp hc hm]at h;cases h
  ·rw[KJ hp hc]at h;cases h;exact hc
end Go.Proofs.YtjaalkocdbkdeaaGreatDoor
namespace Go.Proofs.YtjaalkocdbkdeaaGreatDoor
open Lx Go.Proofs.Tryz
open Go.RowKit
open Tr
namespace Lx
theorem Gt{l:List ByteArray}{b:ByteArray}(h:0<=bA l b):fix l b<l.length:=(zT h).2
theorem OY(g:Gr):(bg g).length=1+(g.rules.flatMap gD).length:=by unfold bg;rw[List.length_cons];omega
theorem Pg{T N:List ByteArray}{x:It}(h:qz T N x):mK T N x<T.length+N.length:=by
 unfold qz at h;unfold mK
 split
 ·rename_i hk;rw[if_pos hk]at h;have:=Gt h;omega
 ·rename_i hk;rw[if_neg hk]at h;have:=Gt h;omega
theorem XC{T N:List ByteArray}{b:Nat}{H:List It}{x:It}(h:qE T N H x)(hb:b+1+H.length<=T.length+N.length):lI T N b H x<T.length+N.length:=by
 unfold qE at h;unfold lI
 split
 ·rename_i hk;rw[if_pos hk]at h;omega
 ·rename_i hk;rw[if_neg hk]at h;exact Pg h
theorem VG{T N:List ByteArray}{b:Nat}{H:List It}{its:List It}(h:∀x∈its,qE T N H x)(hb:b+1+H.length<=T.length+N.length):∀s∈ig T N b H its,s<T.length+N.length:=by
 intro s hs;obtain⟨x,hx,rfl⟩:=List.mem_map.1 hs;exact XC (h x hx) hb
theorem agE{n s m M L:Nat}{ps:List (List Nat)}(hs:s<M)(h:∀r∈ps,r.length<=L/\∀x∈r,x<M):∀p∈iO n s m ps,p.left=s/\p.right.length<=L+1/\∀x∈p.right,x<M:=by
 intro p hp;unfold iO at hp;rcases List.mem_append.1 hp with hp|hp
 ·split at hp
  ·rw[List.mem_singleton.1 hp];exact⟨rfl,Nat.zero_le _,fun x hx=>by cases hx⟩
  ·cases hp
 ·rcases List.mem_append.1 hp with hp | hp
  ·split at hp
   ·cases hp
   ·obtain⟨r,hr,rfl⟩:=List.mem_map.1 hp
    exact⟨rfl,Nat.le_succ_of_le (h r hr).1,(h r hr).2⟩
  ·split at hp
   ·obtain⟨r,hr,rfl⟩:=List.mem_map.1 hp
    refine⟨rfl,Nat.succ_le_succ (h r hr).1,fun x hx=>?_⟩;rcases List.mem_cons.1 hx with rfl|hx
    ·exact hs
    ·exact(h r hr).2 x hx
   ·cases hp
theorem VH{T N:List ByteArray}{b M L:Nat}{H:List It}:∀(l:List It)(k:Nat),b+1+k+l.length<=M->(∀x∈l,∀r∈partsOf T N b H x,r.length<=L/\∀s∈r,s<M)->∀p∈l6 T N b H k l,(b+1+k<=p.left/\p.left<b+1+k+l.length)/\p.right.length<=L+1/\∀x∈p.right,x<M
 | [],_,_,_,p,hp=>by cases hp
 |x::l,k,hb,h,p,hp=>by
  rw[List.length_cons]at hb|-;rcases List.mem_append.1 hp with hp|hp
  ·obtain⟨h1,h2⟩:=agE (s:=b+1+k) (by omega) (h x List.mem_cons_self) p hp
   exact⟨by omega,h2⟩
  ·obtain⟨h1,h2⟩:=VH l (k+1) (by omega) (fun y hy=>h y (List.mem_cons_of_mem _ hy)) p hp
   exact⟨by omega,h2⟩
theorem XD{d:Nat}{l:List Alt}{x:It}(h:x∈aR d l):x∈cu d l:=(List.mem_filter.1 h).1
theorem afz{g:Gr}(hf:Fit g){r:Rl}(hr:r∈g.rules){b:Nat}(hb:b+1+(aR 9 r.alts).length<=(aD g).length+(bg g).length){x:It}(hx:x∈cu 9 r.alts):∀q∈partsOf (aD g) (bg g) b (aR 9 r.alts) x,q.length<=2001/\∀s∈q,s<(aD g).length+(bg g).length:=by
 intro q hq;unfold partsOf at hq
 split at hq
 ·obtain⟨a,ha,rfl⟩:=List.mem_map.1 hq
  refine⟨by unfold ig;rw[List.length_map];exact(hf.its hr hx).2 a ha,VG (fun y hy=>hf.sym hr (KE (hf.dp r hr) hx ha hy)) hb⟩
 ·rename_i hk
  rw[List.mem_singleton.1 hq];refine⟨by simp,fun s hs=>?_⟩;rw[List.mem_singleton.1 hs];exact Pg (hf.plain hr hx hk)
theorem XE{l:List Alt}{a:Alt}(ha:a∈l){x:It}(hx:x∈a.1)(d:Nat):x∈cu (d+1) l:=BM.2 ⟨a,ha,x,hx,.inl rfl⟩
theorem agF{g:Gr}(hf:Fit g){r:Rl}(hr:r∈g.rules){b:Nat}(hb:b+1+(aR 9 r.alts).length<=(aD g).length+(bg g).length):∀p∈pO (aD g) (bg g) b r,(b<=p.left/\p.left<b+1+(aR 9 r.alts).length)/\p.right.length<=2002/\∀s∈p.right,s<(aD g).length+(bg g).length:=by
 intro p hp;unfold pO at hp;rcases List.mem_append.1 hp with hp|hp
 ·obtain⟨a,ha,rfl⟩:=List.mem_map.1 hp
  refine⟨⟨zL0,by show b<_;omega⟩,?_,VG (fun y hy=>hf.sym hr (XE ha hy 8)) hb⟩;show (ig _ _ _ _ _).length<=_;unfold ig;rw[List.length_map];have:=(hf.alts hr).2 a ha;omega
 ·obtain⟨h1,h2⟩:=VH (M:=(aD g).length+(bg g).length) (L:=2001) _ 0 (by omega) (fun x hx=>afz hf hr hb (XD hx)) p hp
  exact⟨by omega,h2⟩
theorem VI{g:Gr}(hf:Fit g):∀(rs:List Rl)(b:Nat),(∀r∈rs,r∈g.rules)->b+(rs.flatMap gD).length<=(aD g).length+(bg g).length->∀p∈iB (aD g) (bg g) b rs,(b<=p.left/\p.left<b+(rs.flatMap gD).length)/\p.right.length<=2002/\∀s∈p.right,s<(aD g).length+(bg g).length
 | [],_,_,_,p,hp=>by cases hp
 |r::rs,b,hin,hb,p,hp=>by
  have hl:=zJ r;rw[List.flatMap_cons,List.length_append]at hb|-;rcases List.mem_append.1 hp with hp|hp
  ·obtain⟨h1,h2⟩:=agF hf (hin r List.mem_cons_self) (b:=b) (by omega) p hp
   exact⟨by omega,h2⟩
  ·obtain⟨h1,h2⟩:=VI hf rs (b+1+(aR 9 r.alts).length) (fun q hq=>hin q (List.mem_cons_of_mem _ hq)) (by omega) p hp
   exact⟨by omega,h2⟩
theorem WM{g:Gr}(hf:Fit g):1<=(g.rules.flatMap gD).length:=by
 have:=hf.ne;cases hr:g.rules with
 |nil=>rw[hr]at this;simp at this
 |cons r rs=>
  rw[List.flatMap_cons,List.length_append];have:=zJ r;omega
theorem OZ{g:Gr}(hf:Fit g):∀p∈bI g,((aD g).length<=p.left/\p.left<(aD g).length+(bg g).length)/\p.right.length<=2002/\∀s∈p.right,s<(aD g).length+(bg g).length:=by
 intro p hp;have h1:=OY g;have h2:=WM hf;unfold bI at hp;rcases List.mem_cons.1 hp with rfl|hp
 ·refine⟨⟨zL0,by show (aD g).length<_;omega⟩,by simp,fun s hs=>?_⟩
  rw[List.mem_singleton.1 hs];omega
 ·obtain⟨h3,h4⟩:=VI hf g.rules _ (fun r hr=>hr) (by omega) p hp
  exact⟨by omega,h4⟩
end Lx
end Go.Proofs.YtjaalkocdbkdeaaGreatDoor
namespace Go.Proofs.YtjaalkocdbkdeaaGreatDoor
open Lx Go.Proofs.Tryz
open Go Go.RowKit
namespace Lx
end Lx
end Go.Proofs.YtjaalkocdbkdeaaGreatDoor
namespace Go.Proofs.YtjaalkocdbkdeaaGreatDoor
open Lx Go.Proofs.Tryz
open Go.RowKit
open Tr
namespace Lx
end Lx
end Go.Proofs.YtjaalkocdbkdeaaGreatDoor
namespace Go.Proofs.YtjaalkocdbkdeaaGreatDoor
open Lx Go.Proofs.Tryz
open Go Go.RowKit
namespace Lx
theorem JF(a:ByteArray):∀(bs l:List ByteArray),∃R,bP (a::l) bs=a::R
 | [],l=>⟨l,rfl⟩
 |b::bs,l=>by
  show ∃R,bP (iD (a::l) b) bs=a::R;unfold iD
  split
  ·exact JF a bs l
  ·exact JF a bs (l++[b])
theorem Yq{a:ByteArray}{R:List ByteArray}{b:ByteArray}(h:a≠b):0<fix (a::R) b:=by
 unfold fix;rw[List.findIdx_cons];simp[h]
theorem Ph(g:Gr){b:ByteArray}(h:isToken b=true):0<fix (aD g) b:=by
 obtain⟨R,e⟩:=JF iN (gZ g++g.rules.flatMap fun r=>iR 9 r.alts) [];unfold aD;rw[e];refine Yq fun e=>?_
 subst e;exact absurd h (by decide)
theorem Yr(g:Gr){b:ByteArray}(h:isName b=true):0<fix (bg g) b:=Yq (Xx h)
theorem ahR(g:Gr):0<(aD g).length:=by
 obtain⟨R,e⟩:=JF iN (gZ g++g.rules.flatMap fun r=>iR 9 r.alts) [];unfold aD;rw[e];simp
theorem ai6{g:Gr}{H:List It}{b:Nat}{x:It}(hx:sO x)(hb:(aD g).length<b)(hs:qE (aD g) (bg g) H x):0<lI (aD g) (bg g) b H x/\lI (aD g) (bg g) b H x≠(aD g).length:=by
 unfold lI
 split
 ·omega
 ·rename_i hh
  unfold qE at hs;rw[if_neg hh]at hs;unfold mK;unfold qz at hs;rcases hx with ⟨k,h1,-⟩|⟨k,h1,-⟩|k
  ·rw[if_neg (by omega)]
   have:=Yr g h1;omega
  ·rw[if_pos k]at hs|-
   have:=Ph g h1;have:=Gt hs;omega
  ·exact absurd (by unfold hlp;simp[k]) hh
theorem aiF{g:Gr}{x:It}(hx:sO x)(hk:x.kind≠2)(hp:qz (aD g) (bg g) x):0<mK (aD g) (bg g) x/\mK (aD g) (bg g) x≠(aD g).length:=by
 unfold mK;unfold qz at hp;rcases hx with ⟨k,h1,-⟩|⟨k,h1,-⟩|k
 ·rw[if_neg (by omega)]
  have:=Yr g h1;omega
 ·rw[if_pos k]at hp|-
  have:=Ph g h1;have:=Gt hp;omega
 ·exact absurd k hk
theorem Oh(n:Nat):∀(r:List Nat)(p:Int),r.foldl (fun p s=>if s<n then (s:Int) else p) p=p\/∃s∈r,s<n/\r.foldl (fun p s=>if s<n then (s:Int) else p) p=(s:Int)
 | [],p=>.inl rfl
 |s::r,p=>by
  rw[List.foldl_cons]
  by_cases h:s<n
  ·rw[if_pos h]
   rcases Oh n r (s:Int) with e|⟨u,hu,h1,h2⟩
   ·exact .inr ⟨s,List.mem_cons_self,h,e⟩
   ·exact .inr ⟨u,List.mem_cons_of_mem _ hu,h1,h2⟩
  ·rw[if_neg h]
   rcases Oh n r p with e|⟨u,hu,h1,h2⟩
   ·exact .inl e
   ·exact .inr ⟨u,List.mem_cons_of_mem _ hu,h1,h2⟩
def YZ(t n:Nat)(p:Pd):Prop:=(t<=p.left/\p.left<n)/\(∀s∈p.right,0<s/\s<n/\s≠t)/\-1<=p.prec/\p.prec<(t:Int)/\p.prec≠0
theorem WN{t:Nat}(ht:0<t){r:List Nat}(h:∀s∈r,0<s):-1<=jN t r/\jN t r<(t:Int)/\jN t r≠0:=by
 unfold jN;rcases Oh t r (-1) with e|⟨s,hs,h1,e⟩
 ·rw[e];omega
 ·rw[e]
  have:=h s hs;omega
theorem OG{t n s:Nat}(ht:0<t){r:List Nat}(hs:t<=s/\s<n)(h:∀s∈r,0<s/\s<n/\s≠t):YZ t n (aQ t s r):=⟨hs,h,WN ht fun s hs=>(h s hs).1⟩
theorem afA{n s m:Nat}{ps:List (List Nat)}{p:Pd}:p∈iO n s m ps↔((m=42\/m=63)/\p=aQ n s [])\/(m≠42/\∃r∈ps,p=aQ n s r)\/((m=42\/m=43)/\∃r∈ps,p=aQ n s (s::r)):=by
 unfold iO;rw[List.mem_append,List.mem_append];refine or_congr ?_ (or_congr ?_ ?_)
 ·split
  ·rename_i h;simp[h]
  ·rename_i h;simp[h]
 ·split
  ·rename_i h;simp[h]
  ·rename_i h
   rw[List.mem_map];exact⟨fun⟨r,hr,e⟩=>⟨h,r,hr,e.symm⟩,fun⟨_,r,hr,e⟩=>⟨r,hr,e.symm⟩⟩
 ·split
  ·rename_i h
   rw[List.mem_map];exact⟨fun⟨r,hr,e⟩=>⟨h,r,hr,e.symm⟩,fun⟨_,r,hr,e⟩=>⟨r,hr,e.symm⟩⟩
  ·rename_i h;simp[h]
theorem UQ{T N:List ByteArray}{b:Nat}{H:List It}{p:Pd}:∀(l:List It)(k:Nat),p∈l6 T N b H k l↔∃i,∃hi:i<l.length,p∈iO T.length (b+1+(k+i)) l[i].mark (partsOf T N b H l[i])
 | [],k=>by simp[l6]
 |x::l,k=>by
  rw[l6,List.mem_append,UQ l (k+1)];constructor
  ·rintro(h | ⟨i,hi,h⟩)
   ·exact⟨0,by simp,h⟩
   ·exact⟨i+1,by simpa using hi,by rw[show k+(i+1)=k+1+i by omega];exact h⟩
  ·rintro⟨i,hi,h⟩
   cases i with
   |zero=>exact .inl h
   |succ i=>exact .inr ⟨i,by simpa using hi,by rw[show k+1+i=k+(i+1) by omega];exact h⟩
theorem afB{T N:List ByteArray}{b:Nat}{r:Rl}{p:Pd}:p∈pO T N b r↔(∃a∈r.alts,p=jY T N b (aR 9 r.alts) a)\/∃k,∃hk:k<(aR 9 r.alts).length,p∈iO T.length (b+1+k) (aR 9 r.alts)[k].mark (partsOf T N b (aR 9 r.alts) (aR 9 r.alts)[k]):=by
 unfold pO;rw[List.mem_append,List.mem_map,UQ];refine or_congr ⟨fun⟨a,ha,e⟩=>⟨a,ha,e.symm⟩,fun⟨a,ha,e⟩=>⟨a,ha,e.symm⟩⟩ ?_;simp only[Nat.zero_add]
def qA(b:Nat)(rs:List Rl)(j:Nat):Nat:=b+((rs.take j).flatMap gD).length
theorem UR{T N:List ByteArray}{p:Pd}:∀(rs:List Rl)(b:Nat),p∈iB T N b rs↔∃j,∃hj:j<rs.length,p∈pO T N (qA b rs j) rs[j]
 | [],b=>by simp[iB]
 |r::rs,b=>by
  rw[iB,List.mem_append,UR rs];have hb:∀j,qA b (r::rs) (j+1)=qA (b+1+(aR 9 r.alts).length) rs j:=fun j=>by
   unfold qA;rw[List.take_succ_cons,List.flatMap_cons,List.length_append,zJ];omega
  constructor
  ·rintro(h | ⟨j,hj,h⟩)
   ·exact⟨0,by simp,by simpa [qA]using h⟩
   ·exact⟨j+1,by simpa using hj,by rw[hb];exact h⟩
  ·rintro⟨j,hj,h⟩
   cases j with
   |zero=>exact .inl (by simpa [qA]using h)
   |succ j=>exact .inr ⟨j,by simpa using hj,by rw[<-hb];exact h⟩
section
variable {g:Gr}
theorem Yt(_hf:Fit g){j:Nat}(hj:j<g.rules.length):(aD g).length<qA ((aD g).length+1) g.rules j/\qA ((aD g).length+1) g.rules j+1+(aR 9 g.rules[j].alts).length<=(aD g).length+(bg g).length:=by
 have h1:=OY g;have h2:(g.rules.flatMap gD).length=((g.rules.take j).flatMap gD).length+((g.rules.drop j).flatMap gD).length:=by
  rw[<-List.length_append,<-List.flatMap_append,List.take_append_drop]
 rw[List.drop_eq_getElem_cons hj,List.flatMap_cons,List.length_append,zJ]at h2;unfold qA;omega
theorem VJ(hf:Fit g){j:Nat}(hj:j<g.rules.length){its:List It}(h:∀x∈its,x∈cu 9 g.rules[j].alts):∀s∈ig (aD g) (bg g) (qA ((aD g).length+1) g.rules j) (aR 9 g.rules[j].alts) its,0<s/\s<(aD g).length+(bg g).length/\s≠(aD g).length:=by
 intro s hs;obtain⟨x,hx,rfl⟩:=List.mem_map.1 hs;have hr:g.rules[j]∈g.rules:=List.getElem_mem hj;have hb:=Yt hf hj;have h1:=ai6 ((hf.rl _ hr).2.1 x (h x hx)) hb.1 (hf.sym hr (h x hx));exact⟨h1.1,XC (hf.sym hr (h x hx)) hb.2,h1.2⟩
theorem afC(hf:Fit g){j:Nat}(hj:j<g.rules.length){x:It}(hx:x∈cu 9 g.rules[j].alts):∀r∈partsOf (aD g) (bg g) (qA ((aD g).length+1) g.rules j) (aR 9 g.rules[j].alts) x,∀s∈r,0<s/\s<(aD g).length+(bg g).length/\s≠(aD g).length:=by
 intro r hr;have hm:g.rules[j]∈g.rules:=List.getElem_mem hj;unfold partsOf at hr
 split at hr
 ·obtain⟨a,ha,rfl⟩:=List.mem_map.1 hr
  exact VJ hf hj fun y hy=>KE (hf.dp _ hm) hx ha hy
 ·rename_i hk
  rw[List.mem_singleton.1 hr];intro s hs;rw[List.mem_singleton.1 hs];have h1:=aiF ((hf.rl _ hm).2.1 x hx) hk (hf.plain hm hx hk);exact⟨h1.1,Pg (hf.plain hm hx hk),h1.2⟩
theorem agG(hf:Fit g):∀p∈bI g,YZ (aD g).length ((aD g).length+(bg g).length) p:=by
 intro p hp;have ht:=ahR g;unfold bI at hp;rcases List.mem_cons.1 hp with rfl|hp
 ·have h1:=OY g
  have h2:=WM hf;refine⟨⟨zL0,by show (aD g).length<_;omega⟩,fun s hs=>?_,by show (-1:Int)<=-1;omega,by show (-1:Int)<_;omega,by show (-1:Int)≠0;omega⟩;rw[List.mem_singleton.1 hs];omega
 ·obtain⟨j,hj,hp⟩:=(UR _ _).1 hp
  have hb:=Yt hf hj;have hm:g.rules[j]∈g.rules:=List.getElem_mem hj;rcases afB.1 hp with ⟨a,ha,rfl⟩|⟨k,hk,hp⟩
  ·have hw:=VJ hf hj (its:=a.1) fun x hx=>XE ha hx 8
   refine⟨⟨by show _<=qA _ _ _;omega,by show qA _ _ _<_;omega⟩,hw,?_⟩;unfold jY;simp only
   split
   ·exact WN ht fun s hs=>(hw s hs).1
   ·rename_i hn
    have h1:=hf.prec hm ha hn;have h2:=Gt h1;have h3:isToken a.2.1=true:=by
     rcases (hf.rl _ hm).2.2 a ha with h|h
     ·exact absurd h hn
     ·exact h
    have h4:=Ph g h3;omega
  ·have hH:(aR 9 g.rules[j].alts)[k]∈cu 9 g.rules[j].alts:=XD (List.getElem_mem hk)
   have hw:=afC hf hj hH;have hs:(aD g).length<=qA ((aD g).length+1) g.rules j+1+k/\qA ((aD g).length+1) g.rules j+1+k<(aD g).length+(bg g).length:=by omega
   rcases afA.1 hp with ⟨-,rfl⟩|⟨-,r,hr,rfl⟩|⟨-,r,hr,rfl⟩
   ·exact OG ht hs fun s hs=>by cases hs
   ·exact OG ht hs (hw r hr)
   ·refine OG ht hs fun s hs2=>?_
    rcases List.mem_cons.1 hs2 with rfl|hs2
    ·omega
    ·exact hw r hr s hs2
end
end Lx
end Go.Proofs.YtjaalkocdbkdeaaGreatDoor
namespace Go.Proofs.YtjaalkocdbkdeaaGreatDoor
open Lx Go.Proofs.Tryz
open Go Go.RowKit
open Tr
namespace Lx
structure mR(P:List Pd)(sz st:Nat):Prop where
 len:P.length<=200
 pos:0<P.length
 rgt:∀p∈P,p.right.length<=2002
 sym:∀p∈P,∀s∈p.right,s<sz/\s≠st
 lft:∀p∈P,p.left<sz
 fst:P[0]?.map Pd.left=some st
 M6:sz<=100000
theorem Pz{P:List Pd}{s:av}{n:Nat}(h:bE P s=some n):s.1<P.length/\s.2<(qD P s.1).length:=by
 unfold bE at h;have h2:=(List.getElem?_eq_some_iff.1 h).1;refine⟨?_,h2⟩;apply Decidable.byContradiction;intro hn;unfold qD at h2;rw[List.getElem?_eq_none (by omega)]at h2;simp at h2
theorem KM{P:List Pd}{sz st:Nat}(hp:mR P sz st){s:av}{n:Nat}(h:bE P s=some n):n<sz/\n≠st:=by
 have h1:=(Pz h).1;unfold bE qD at h;rw[List.getElem?_eq_getElem h1]at h;exact hp.sym _ (List.getElem_mem h1) n (List.mem_of_getElem? h)
theorem Pj{P:List Pd}{sz st:Nat}(hp:mR P sz st)(k:Nat):(qD P k).length<=2002:=by
 unfold qD;cases h:P[k]? with
 |none=>simp
 |some p=>exact hp.rgt p (List.mem_of_getElem? h)
theorem mR.aai{P:List Pd}{sz st:Nat}(hp:mR P sz st):Lg P st:=fun _ _ h=>(KM hp h).2
structure qw(P:List Pd)(i:Nat)(K:List av):Prop where
 wK:∀s∈K,s.1<P.length/\s.2<=(qD P s.1).length/\(s.2=0->s.1=0)
 len:K.length<=1+i*200
theorem Yu{P:List Pd}{n:Nat}:∀(C o:List av),(C.foldl (p9 P n) o).length<=o.length+C.length
 | [],o=>by simp
 |s::C,o=>by
  rw[List.foldl_cons];have h1:=Yu (P:=P) (n:=n) C (p9 P n o s);have h2:=Xo (P:=P) (n:=n) (o:=o) (s:=s);simp only[List.length_cons];omega
theorem qw.eU{P:List Pd}{sz st:Nat}(hp:mR P sz st){i:Nat}{K:List av}(h:qw P i K)(n:Nat){j:Nat}(hj:i<j):qw P j (eU P K n):=by
 refine⟨fun s hs=>?_,?_⟩
 ·obtain⟨t,-,h1,rfl⟩:=El.1 hs
  obtain⟨h2,h3⟩:=Pz h1;exact⟨h2,h3,fun e=>absurd e (Nat.succ_ne_zero _)⟩
 ·have h1:=Yu (P:=P) (n:=n) (gM P K) []
  have h2:=Yb P K;have h3:=h.len;have h4:=hp.len;have:(Lx.eU P K n).length<=[].length+(gM P K).length:=h1;simp only[List.length_nil]at this;omega
theorem qw.sp{P:List Pd}{sz st:Nat}(hp:mR P sz st){i:Nat}{K:List av}(h:qw P i K):qj P K:=fun s hs=>⟨(h.wK s hs).1,by have:=(h.wK s hs).2.1;have:=Pj hp s.1;omega⟩
theorem qw.zero{P:List Pd}{sz st:Nat}(hp:mR P sz st){i:Nat}{K:List av}(h:qw P i K):∀s∈K,s.2=0->P[s.1]?.map Pd.left=some st:=fun s hs e=>by rw[(h.wK s hs).2.2 e];exact hp.fst
theorem qw.first{P:List Pd}{sz st:Nat}(hp:mR P sz st):qw P 0 [(0,0)]:=by
 refine⟨fun s hs=>?_,by simp⟩;rw[List.mem_singleton]at hs;subst hs;exact⟨hp.pos,Nat.zero_le _,fun _=>rfl⟩
def oh(P:List Pd)(S:bK):Prop:=∀j K,S.ks[j]?=some K->qw P j K
theorem oh.first{P:List Pd}{sz st:Nat}(hp:mR P sz st):oh P ⟨[[(0,0)]],[]⟩:=by
 intro j K h;cases j with
 |zero=>cases h;exact qw.first hp
 |succ j=>simp at h
theorem oh.edge{P:List Pd}{sz st:Nat}(hp:mR P sz st){S:bK}(h:oh P S){i:Nat}{K:List av}(hK:S.ks[i]?=some K)(n:Nat):oh P (edge P i K S n):=by
 unfold Lx.edge
 split
 ·exact h
 ·split
  ·exact h
  ·intro j K' hj
   rw[List.getElem?_append]at hj
   split at hj
   ·exact h j K' hj
   ·rename_i hlt
    have hi:=(List.getElem?_eq_some_iff.1 hK).1;have hj1:j=S.ks.length:=by
     have:=(List.getElem?_eq_some_iff.1 hj).1;simp at this;omega
    subst hj1;simp at hj;subst hj;exact(h i K hK).eU hp n hi
theorem Pk{P:List Pd}{i:Nat}{K:List av}{S:bK}{n j:Nat}{K':List av}(h:S.ks[j]?=some K'):(edge P i K S n).ks[j]?=some K':=by
 obtain⟨a,ha⟩:=agc (P:=P) (i:=i) (K:=K) (S:=S) (n:=n);rw[ha,List.getElem?_append_left (List.getElem?_eq_some_iff.1 h).1];exact h
theorem ahS{P:List Pd}{i:Nat}{K:List av}{S:bK}{n:Nat}:(edge P i K S n).ks.length<=S.ks.length+1/\(edge P i K S n).es.length<=S.es.length+1:=by
 unfold edge
 split
 ·exact⟨by omega,by omega⟩
 ·split
  ·simp
  ·simp
theorem afD{P:List Pd}{i:Nat}{K:List av}{S:bK}{n sz:Nat}(h:n<sz):leave P i K S (List.range' n (sz-n))=leave P i K (edge P i K S n) (List.range' (n+1) (sz - (n+1))):=by
 rw[show sz-n=(sz - (n+1))+1 by omega,List.range'_succ];rfl
theorem WO{P:List Pd}{sz i:Nat}{S:bK}{K:List av}(hi:i<=300)(hK:S.ks[i]?=some K):qG P sz (302-i) i S=if 300<(leave P i K S (List.range sz)).ks.length then none else qG P sz (302 - (i+1)) (i+1) (leave P i K S (List.range sz)):=by
 obtain⟨h1,h2⟩:=List.getElem?_eq_some_iff.1 hK;rw[show 302-i=(302 - (i+1))+1 by omega,qG,dif_pos h1,h2]
theorem XF{P:List Pd}{sz i:Nat}{S:bK}(hi:i<=300)(hK:S.ks.length<=i):qG P sz (302-i) i S=some S:=by
 rw[show 302-i=(302 - (i+1))+1 by omega,qG,dif_neg (by omega)]
theorem XG{l:List (List av)}{k:List av}(h:∀(j:Nat)(x:List av),l[j]?=some x->x≠k):gN l k=l.length:=by
 unfold gN;rw[List.findIdx_eq_length];intro x hx;obtain⟨j,hj⟩:=List.mem_iff_getElem?.1 hx;simpa using h j x hj
theorem ahT{l:List (List av)}{k:List av}{j:Nat}(hj:l[j]?=some k)(h:∀(i:Nat)(x:List av),i<j->l[i]?=some x->x≠k):gN l k=j:=by
 obtain⟨h1,h2⟩:=List.getElem?_eq_some_iff.1 hj;unfold gN;rw[List.findIdx_eq h1];refine⟨by simp[h2],fun i hi=>?_⟩;have:=h i _ hi (List.getElem?_eq_getElem (by omega));simpa using this
end Lx
theorem Y0{g:Lx.Gr}(hf:Lx.Fit g)(hl:(bI g).length<=200):mR (bI g) ((aD g).length+(bg g).length) (aD g).length:=by
 refine⟨hl,by simp[bI],fun p hp=>(OZ hf p hp).2.1,fun p hp s hs=>⟨(OZ hf p hp).2.2 s hs,((agG hf p hp).2.1 s hs).2.2⟩,fun p hp=>(OZ hf p hp).1.2,rfl,by have:=hf.Lu;have:=hf.Qk;omega⟩
theorem ai7{w:World}{B B' e e' z z':Nat}{v v':Value}{n n':Nat}{xs xs':List Value}(h:w.ownsRow B e z v n xs)(h':w.ownsRow B' e' z' v' n' xs')(hne:e≠e'){g:Nat}(hg:v.ownBlock=some g):v'.ownBlock≠some g:=by
 intro hg';obtain⟨c,hc⟩:=zN h hg;obtain⟨c',hc'⟩:=zN h' hg';rw[hc]at hc';injection hc' with hc'
 injection hc' with _ h2
 exact hne h2
theorem BH{w w':World}{B B' e e' z z':Nat}{v v':Value}{n n':Nat}{xs xs':List Value}(h:w.ownsRow B e z v n xs)(h':w.ownsRow B' e' z' v' n' xs')(hne:e≠e')(hg:w.grownBy w' v'.ownBlock):w'.ownsRow B e z v n xs :=
 aC h fun g hg'=>hg.block g (World.ownsRow.lt h g hg').2 (fun e=>ai7 h h' hne hg' e.symm)
def uR(x:Option Addr×Nat×Nat):Value:=.slice x.1 x.2.1 x.2.2
def Dx(x:(Option Addr×Nat×Nat)×List av):List Value:=[uR x.1]
theorem KX:sw Dx 1:=⟨fun _=>rfl,fun x u hu=>by simp only[Dx,List.mem_singleton]at hu;subst hu;rfl⟩
def fD(S T B:Nat)(w:World)(v:Value)(ks:List (List av)):Prop:=∃xs:List ((Option Addr×Nat×Nat)×List av),xs.map Prod.snd=ks/\aJ S 1 Dx B w v xs/\∀x∈xs,aJ T 2 dI B w (uR x.1) x.2
theorem fD.len{S T B:Nat}{w:World}{v:Value}{ks:List (List av)}(h:fD S T B w v ks):∃a c,v=.slice a ks.length c/\ks.length<=maxLen:=by
 obtain⟨xs,rfl,h2,-⟩:=h;rw[List.length_map];exact aF h2
theorem fD.below{S T B:Nat}{w w':World}{v:Value}{ks:List (List av)}(h:fD S T B w v ks)(hb:Below w.heap.size w w'):fD S T B w' v ks:=by
 obtain⟨xs,h1,h2,h3⟩:=h;exact⟨xs,h1,h2.below hb,fun x hx=>(h3 x hx).below hb⟩
theorem fD.grown{S T B B' e z n:Nat}{w w':World}{v v':Value}{ys:List Value}{ks:List (List av)}(h:fD S T B w v ks)(h':w.ownsRow B' e z v' n ys)(hS:S≠e)(hT:T≠e)(hg:w.grownBy w' v'.ownBlock):fD S T B w' v ks:=by
 obtain⟨xs,h1,h2,h3⟩:=h;exact⟨xs,h1,BH h2 h' hS hg,fun x hx=>BH (h3 x hx) h' hT hg⟩
theorem fD.at{S T B:Nat}{w:World}{v:Value}{ks:List (List av)}(h:fD S T B w v ks){j:Nat}{K:List av}(hj:ks[j]?=some K):∃g cap a c,v=.slice (some ⟨g,0,none⟩) ks.length cap/\g<w.heap.size/\w.cell? ⟨g,j,none⟩=some (.slice a K.length c)/\aJ T 2 dI B w (.slice a K.length c) K:=by
 obtain⟨xs,rfl,h2,h3⟩:=h;rw[List.getElem?_map]at hj;obtain⟨x,hx,rfl⟩:=Option.map_eq_some_iff.1 hj;obtain⟨hlt,hxe⟩:=List.getElem?_eq_some_iff.1 hx;obtain⟨g,cap,hv,-,hl,hc⟩:=aJ.at KX h2 hlt;have h4:=h3 x (List.mem_of_getElem? hx);obtain⟨a,c,ha,-⟩:=aF h4;rw[ha]at h4;refine⟨g,cap,a,c,by rw[List.length_map];exact hv,hl,?_,h4⟩;have:=hc 0 (uR x.1) (by decide) (by rw[hxe];rfl);rw[Nat.mul_one,Nat.add_zero,ha]at this;exact this
theorem fD.push{S T B:Nat}{w w':World}{v v':Value}{xs:List ((Option Addr×Nat×Nat)×List av)}{x:(Option Addr×Nat×Nat)×List av}(h2:aJ S 1 Dx B w v xs)(h3:∀x∈xs,aJ T 2 dI B w (uR x.1) x.2)(hx:aJ T 2 dI B w (uR x.1) x.2)(hST:T≠S)(hg:w.grownBy w' v.ownBlock)(hn:aJ S 1 Dx B w' v' (xs++[x])):fD S T B w' v' (xs.map Prod.snd++[x.2]):=by
 refine⟨xs++[x],by simp,hn,fun y hy=>?_⟩;rcases List.mem_append.1 hy with hy|hy
 ·exact BH (h3 y hy) h2 hST hg
 ·rw[List.mem_singleton]at hy
  subst hy;exact BH hx h2 hST hg
def nP(e:CU):List Value:=[.int .i64 (e.1:Int),.int .i64 (e.2.1:Int),.int .i64 (e.2.2:Int)]
theorem Ht:sw nP 3:=⟨fun _=>rfl,fun x u hu=>by simp only[nP,List.mem_cons,List.not_mem_nil,or_false]at hu;rcases hu with rfl|rfl|rfl <;> rfl⟩
end Go.Proofs.YtjaalkocdbkdeaaGreatDoor
namespace Go.Proofs.YtjaalkocdbkdeaaGreatDoor
open Lx Go.Proofs.Tryz
open Go.RowKit
open Tr
namespace Lx
def mU(sz:Nat)(E:List Nat):List Bool:=(List.range sz).map fun n=>decide (n∈E)
theorem aiG(sz:Nat)(E:List Nat):(mU sz E).length=sz:=by simp[mU]
theorem ai8{sz n:Nat}{E:List Nat}(h:n<sz):aS (mU sz E) n=decide (n∈E):=by simp[aS,mU,h]
theorem aiH(sz:Nat):mU sz []=List.replicate sz false:=by
 apply List.ext_getElem
 ·simp[mU]
 ·intro i h1 h2;simp[mU]
theorem aiI{sz n:Nat}{E:List Nat}:(mU sz E).set n true=mU sz (n::E):=by
 apply List.ext_getElem
 ·simp[mU]
 ·intro i h1 h2
  simp only[mU,List.length_map,List.length_range]at h2;rw[List.getElem_set];simp only[mU,List.getElem_map,List.getElem_range,List.mem_cons]
  by_cases e:n=i
  ·subst e;simp
  ·have:¬i=n:=fun h=>e h.symm
   simp[e,this]
structure kQ(P:List Pd)(st:Nat)(K l:List av)(E:List Nat)(j:Nat):Prop where
 zok:l9 P K l
 gM:yF P st l E
 wK:∀s∈l,s.1<P.length/\s.2<=(qD P s.1).length
 run:∀r,Al P l E j r->Al P K [] 0 r
theorem kQ.first{P:List Pd}{sz st:Nat}(hp:mR P sz st){i:Nat}{K:List av}(h:qw P i K):kQ P st K K [] 0:=⟨l9.refl P K,yF.kernel (h.zero hp),fun s hs=>⟨(h.wK s hs).1,(h.wK s hs).2.1⟩,fun _ h=>h⟩
theorem kQ.step{P:List Pd}{sz st:Nat}(hp:mR P sz st){K l:List av}{E:List Nat}{j:Nat}(h:kQ P st K l E j)(hj:j<l.length):kQ P st K (p8 P (bE P l[j]) l E).1 (p8 P (bE P l[j]) l E).2 (j+1):=by
 obtain⟨h1,h2⟩:=h.gM.same hp.aai l[j];refine⟨by rw[<-h1];exact h.zok.add _,h2,fun s hs=>?_,fun r hr=>h.run r (.step hj hr)⟩;rw[<-h1]at hs;cases hb:bE P l[j] with
 |none=>rw[hb,F8]at hs;exact h.wK s hs
 |some n=>
  rw[hb,Gg]at hs;rcases List.mem_append.1 hs with hs|hs
  ·exact h.wK s hs
  ·obtain⟨g1,g2,-⟩:=BG.1 (List.mem_filter.1 hs).1
   exact⟨g2,by omega⟩
theorem kQ.known{P:List Pd}{st:Nat}{K l:List av}{E:List Nat}{j n:Nat}(h:kQ P st K (p8 P (some n) l E).1 (p8 P (some n) l E).2 j)(hn:n∈E):kQ P st K l E j:=by
 unfold p8 at h;simp only[if_pos hn]at h;exact h
theorem kQ.new{P:List Pd}{st:Nat}{K l:List av}{E:List Nat}{j n:Nat}(h:kQ P st K (p8 P (some n) l E).1 (p8 P (some n) l E).2 j)(hn:n∉E):kQ P st K (l++fT P n P.length) (n::E) j:=by
 unfold p8 at h;simp only[if_neg hn]at h;exact h
theorem kQ.done{P:List Pd}{sz st:Nat}(hp:mR P sz st){i:Nat}{K l:List av}(hK:qw P i K){E:List Nat}{j:Nat}(h:kQ P st K l E j)(hj:l.length<=j):l=Lx.gM P K:=(h.run l (.done hj)).gM hp.aai (hK.zero hp)
end Lx
theorem Tryz.KY:(prog.info? 36).map (fun i=>(i.zero,i.size,i.bytes))=some (some (.agg #[.int .i64 0,.int .i64 0]),2,16):=by kernel_rfl
theorem Tryz.FN:prog.underlying 34=some (.slice 36):=by kernel_rfl
theorem aeX{n:Nat}(hn:n<=100000)(w:World):(Instr.makeSlice 48 (.int .i64 (n:Int)) (.int .i64 (n:Int))).run prog w=.ok (.slice (some ⟨w.heap.size,0,none⟩) n n) (w.alloc (.cells (bF (List.replicate n false)) 4)):=by
 obtain⟨i0,hi,hz0,hz1,hz2⟩:=info_parts Tryz.Zh;have h:=run_make (P:=prog) w 48 4 i0 _ (by kernel_rfl) hi hz0 .i64 .i64 (n:Int) (n:Int) (by omega) (Int.le_refl _) (by rw[hz2];omega) (by omega);rw[h,Int.toNat_natCast,hz1];have e:Value.cells (.bool false)=#[.bool false]:=rfl;rw[e,Vk]
theorem afE{w:World}{B:Nat}{v:Value}{K:List av}(h:aJ 36 2 dI B w v K)(hl:K.length<=1000000):Calls prog 104 #[v] w fun e w'=>∃v',e=.returned v'/\aJ 36 2 dI w.heap.size w' v' K/\Below w.heap.size w w':=by
 obtain⟨i0,hi0,hz0,hz1,hz2⟩:=info_parts Tryz.KY;have q22:∀(w:World)(a:Option Addr)(n c n' c':Nat),(binOp .eql 34 (.slice a n c) (.slice none n' c')).run prog w=.ok (.bool a.isNone) w:=fun w a n c n' c'=>Lib.run_eql_slice_nil w _ _ a n c n' c' Tryz.FN
 have h':=h;unfold aJ at h';rcases h'.2 with ⟨rfl,hzero⟩|⟨g4,cap4,GY,rfl,hg4,Ez,hc4,xu,-,-⟩
 ·obtain rfl:K=[]:=List.eq_nil_of_length_eq_zero hzero
  go_enter func104,ntmps104;go_wp2_with fail;go_ret;exact⟨_,rfl,World.ownsRow_nil _ _ _ _,Below.refl _ _⟩
 ·have hcl:=World.ownsRow.cells h' (g:=g4) rfl
  have HC:Hid (∀(j:Nat)(u:Value),(K.flatMap dI)[j]?=some u->w.cell? ((⟨g4,0,none⟩:Addr).add j)=some u):=hcl;clear hcl h' hg4 Ez hc4 xu;go_enter func104,ntmps104
  go_wp2_with (at_builtin;go_loud (refine wpList_append_own_at _ rfl _ _ 34 rfl w.heap.size 36 i0 _ 2 16 Tryz.FN hi0 hz0 hz1 hz2 rfl (by decide) _ 0 [] rfl (World.ownsRow_made w #[] 0 (zL0) (Nat.zero_le _) rfl) ⟨g4,0,none⟩ K.length cap4 (K.flatMap dI) rfl (qi.G7 K) (fun j u hj=>Lib.cell?_alloc_some _ (HC.out j u hj)) (qi.ajP K) (by unfold maxLen;omega) (by omega) (by simp) ?_;intro v5 w5 hown5 aU _ _))
  go_ret;rw[Nat.zero_add]at hown5;exact⟨v5,rfl,hown5,((Below.refl _ w).alloc (zL0) _).grown aU (by simp) (by intro k hk;have hk':some w.heap.size=some k:=hk;injection hk' with hk';omega)⟩
end Go.Proofs.YtjaalkocdbkdeaaGreatDoor
namespace Go.Proofs.YtjaalkocdbkdeaaGreatDoor
open Lx Go.Proofs.Tryz
open Go.RowKit
open Tr
def K7(w:World)(C:List av)(e:Ending)(w':World):Prop:=∃v,e=.returned v/\aJ 36 2 dI w.heap.size w' v C/\Below w.heap.size w w'
theorem K7.mk{w:World}{C:List av}{e:Ending}{w':World}(v:Value)(he:e=.returned v)(h:aJ 36 2 dI w.heap.size w' v C)(hb:Below w.heap.size w w'):K7 w C e w':=⟨v,he,h,hb⟩
theorem Lx.agH{P:List Lx.Pd}{n q:Nat}(hq:q<P.length)(h:P[q].left=n):fT P n (q+1)=fT P n q++[(q,0)]:=by
 rw[fT,if_pos (by simp[hq,h])]
theorem Lx.ahU{P:List Lx.Pd}{n q:Nat}(hq:q<P.length)(h:¬P[q].left=n):fT P n (q+1)=fT P n q:=by
 rw[fT,if_neg (by simp[hq,h]),List.append_nil]
theorem aem{D:Nat->Prop}{w:World}{f:Nat}{ta na:Option Addr}{nT tc nN nc i st:Nat}{vP vB vQ vm vk ve vK:Value}{P:List Lx.Pd}{K:List av}{B0:Nat}(kF:aj w f #[.slice ta nT tc,.slice na nN nc,vP,vB,vQ,vm,vk,ve] 64)(hP:PP D w vP P)(hp:mR P (nT+nN) st)(hK:aJ 36 2 dI B0 w vK K)(hko:qw P i K)(hkm:K.length<=100000):Calls prog 64 #[.pointer (some ⟨f,0,none⟩),vK] w (K7 w (gM P K)):=by
 obtain⟨pa,pc,rfl,-⟩:∃a c,vP=.slice a P.length c/\P.length<=maxLen:=by obtain⟨ps,h1,h2,-⟩:=hP;exact aF h2
 have Hu:=hp.M6;have hpl:=hp.len;have hsum:IntKind.i64.wrap ((nT:Int)+(nN:Int))=(nT:Int)+(nN:Int):=by rw[IntKind.wrap_i64];omega
 obtain⟨sz,hsz⟩:∃sz,sz=nT+nN:=⟨_,rfl⟩;have hmk:∀wx:World,(Instr.makeSlice 48 (.int .i64 ((nT:Int)+(nN:Int))) (.int .i64 ((nT:Int)+(nN:Int)))).run prog wx=.ok (.slice (some ⟨wx.heap.size,0,none⟩) sz sz) (wx.alloc (.cells (bF (mU sz [])) 4)):=fun wx=>by
  have:=aeX (n:=nT+nN) Hu wx;rw[aiH,hsz];rw[Int.natCast_add]at this;exact this
 rw[<-hsz]at hp Hu;have HI0:Hid (kQ P st K K [] 0):=kQ.first hp hko;have HDn:Hid (∀(l:List av)(E:List Nat)(j:Nat),kQ P st K l E j->l.length<=j->l=gM P K):=fun l E j h hj=>h.done hp hko hj
 have HSt:Hid (∀(l:List av)(E:List Nat)(j:Nat)(h:j<l.length),kQ P st K l E j->kQ P st K (p8 P (bE P l[j]) l E).1 (p8 P (bE P l[j]) l E).2 (j+1)):=fun l E j h hI=>hI.step hp h
 have HSy:Hid (∀(s:av)(n:Nat),bE P s=some n->n<sz):=fun s n h=>(KM hp h).1
 have q1:=afE hK (by omega);have hfl:=kF.lt;go_enter func64,ntmps64;go_upto_region 2 with (go_at_call 104;refine q1.mono ?_;rintro e w1⟨v1,rfl,hL1,hb1⟩)
 clear q1;have wL:aj w1 f _ 64:=(hb1.block _ hfl).trans kF;have d0:w1.cell? ⟨f,0,none⟩=some (.slice ta nT tc):=wL.cell 0;have d1:w1.cell? ⟨f,1,none⟩=some (.slice na nN nc):=wL.cell 1;have hs1:=hb1.size;clear hsz
 go_region
 obtain⟨W2,hW2⟩:∃V,V=(w1.alloc (.cells (bF (mU sz [])) 4)).drew:=⟨_,rfl⟩;have kO2:aj W2 w1.heap.size (bF (mU sz [])) 4:=by rw[hW2];exact(aj.new w1 _ 4).drew
 have l7:Below w1.heap.size w1 W2:=by rw[hW2];exact((Below.refl _ _).alloc (zL0) _).drew
 have hL2:aJ 36 2 dI w.heap.size W2 v1 K:=aJ.below hL1 l7;have hb2:Below w.heap.size w W2:=hb1.trans (l7.mono (by omega));rw[<-hW2];clear hW2 l7 hL1 wL d0 d1 hmk hsum;generalize hob:w1.heap.size=ob at *;clear hob;go_wp2_with fail
 go_loopg [5,7] (K.length+P.length+1) (fun m v iv wr=>∃(j:Nat)(l:List av)(E:List Nat),j+m=K.length+P.length+1/\iv=.int .i64 (j:Int)/\j<=l.length/\aJ 36 2 dI w.heap.size wr v l/\aj wr ob (bF (mU sz E)) 4/\Below w.heap.size w wr/\Hid (kQ P st K l E j))
 case atStart=>exact⟨0,K,[],by omega,rfl,Nat.zero_le _,hL2,kO2,hb2,HI0⟩
 case round=>
  clear hL2 kO2 hb2 HI0;revert wr;intro wz hrel;obtain⟨j,l,E,hkj,rfl,hjl,hL,kO,hbz,HI⟩:=hrel;obtain⟨la,lc,rfl,-⟩:∃a c,_=Value.slice a l.length c/\l.length<=maxLen:=aF hL;have hzl:=HI.out.zok.len;have hsz:=hbz.size
  by_cases hlt:j<l.length
  ·obtain⟨gL,QK,hv,-,lgL,hcs⟩:=aJ.at qi hL hlt
   cases hv;have c0:=hcs 0 _ (by decide) rfl;have c1:=hcs 1 _ (by decide) rfl;have hsp:=HI.out.wK l[j] (List.getElem_mem hlt);have xO:=HSt.out l E j hlt HI.out;have hbe:bE P l[j]=(qD P l[j].1)[l[j].2]?:=rfl;clear hcs HI;generalize l[j]=sp at c0 c1 hsp xO hbe;obtain⟨sk,sd⟩:=sp;simp only[Nat.add_zero]at c0 c1 hsp hbe;have hk1:sk<P.length:=hsp.1;have hd1:sd<=P[sk].right.length:=by have:=hsp.2;rw[Ep hk1]at this;exact this
   obtain⟨gP,Ao,u,hvp,hu,-,x1,-⟩:=(hP.below hbz).at hk1;cases hvp;rw[Ep hk1]at hbe;clear hsp;obtain⟨ua,uc,rfl,-⟩:∃a c,u=Value.slice a P[sk].right.length c/\P[sk].right.length<=maxLen:=aF hu;generalize P[sk].right=r at hu x1 hd1 hbe;have Jf:aj wz f _ 64:=(hbz.block _ hfl).trans kF;have d2:wz.cell? ⟨f,2,none⟩=some (.slice (some ⟨gP,0,none⟩) P.length pc):=Jf.cell 2;have i1:(0:Int)<=(j:Int):=by omega
   have i2:(j:Int)<(l.length:Int):=by omega
   have i3:(0:Int)<=(sk:Int):=by omega
   have i4:(sk:Int)<(P.length:Int):=by omega
   go_wp2_with fail
   go_quiet (fail)
   obtain⟨wy,mq⟩:∃V,V=wz.drewN nq:=⟨_,rfl⟩;have e0:wy.cell? ⟨gL,j*2,none⟩=some (.int .i64 (sk:Int)):=by rw[mq];exact c0
   have e1:wy.cell? ⟨gL,j*2+1,none⟩=some (.int .i64 (sd:Int)):=by rw[mq];exact c1
   have hby:Below w.heap.size w wy:=by rw[mq];exact hbz.trans ⟨rfl,rfl,rfl,zL0,fun _ _=>rfl⟩
   have Dy:aJ 36 2 dI w.heap.size wy (.slice (some ⟨gL,0,none⟩) l.length lc) l:=by rw[mq];exact hL
   have Fj:aj wy ob (bF (mU sz E)) 4:=by rw[mq];exact kO
   have Bg:IR 0 wy (.slice ua r.length uc) r:=by rw[mq];exact hu
   have d2y:wy.cell? ⟨f,2,none⟩=some (.slice (some ⟨gP,0,none⟩) P.length pc):=by rw[mq];exact d2
   rw[<-mq];clear mq c0 c1 hL kO hu x1 d2 Jf
   by_cases hd:sd=r.length
   ·have HI2:Hid (kQ P st K l E (j+1)):=by rw[hbe,List.getElem?_eq_none (by omega)]at xO;exact xO
    have i5:((sd:Int) == (r.length:Int))=true:=by simp[hd]
    have i6:(sd:Int)=(r.length:Int):=by omega
    clear xO hbe hd Bg;go_wp2_with fail;go_roundg (K.length+P.length+1 - (j+1))
    case measure=>omega
    case rel=>exact⟨j+1,l,E,by omega,by go_num,by omega,Dy,Fj,hby,HI2⟩
   ·have hd2:sd<r.length:=by omega
    obtain⟨gU,ZJ,hvu,-,cU⟩:=Bg.at hd2;cases hvu;have hbn:bE P (sk,sd)=some r[sd]:=by rw[hbe,List.getElem?_eq_getElem hd2]
    have hns:=HSy.out _ _ hbn;rw[hbn]at xO;have i5:((sd:Int) == (r.length:Int))=false:=zB0 (by omega);have i6:¬(sd:Int)=(r.length:Int):=by omega
    have i6':¬sd=r.length:=hd;have i7:(0:Int)<=(sd:Int):=by omega
    have i8:(sd:Int)<(r.length:Int):=by omega
    clear hbn hbe hd;generalize r[sd]=n at cU hns xO;have i9:(0:Int)<=(n:Int):=by omega
    have i10:(n:Int)<(sz:Int):=by omega
    have o0:wy.cell? ⟨ob,n,none⟩=some (.bool (decide (n∈E))):=by rw[Fj.cell n,qx _ (by rw[aiG];exact hns),ai8 hns]
    have o1:wy.frozen? ⟨ob,n,none⟩=false:=Fj.frozen n
    by_cases M7:n∈E
    ·rw[decide_eq_true M7]at o0
     have HI2:Hid (kQ P st K l E (j+1)):=kQ.known xO M7;clear xO Bg;go_wp2_with fail;go_roundg (K.length+P.length+1 - (j+1))
     case measure=>omega
     case rel=>exact⟨j+1,l,E,by omega,by go_num,by omega,Dy,Fj,hby,HI2⟩
    ·rw[decide_eq_false M7]at o0
     have HI2:Hid (kQ P st K (l++fT P n P.length) (n::E) (j+1)):=kQ.new xO M7;clear xO Bg;obtain⟨W3,hW3⟩:∃V,V=wy.setCell ⟨ob,n,none⟩ (.bool true):=⟨_,rfl⟩;have kO3:aj W3 ob (bF (mU sz (n::E))) 4:=by rw[hW3,<-aiI,<-zL];exact Fj.set n _
     have aaj:∀b,b≠ob->W3.heap[b]?=wy.heap[b]?:=fun b hb=>by rw[hW3];exact zS0 hb
     have hL3:aJ 36 2 dI w.heap.size W3 (.slice (some ⟨gL,0,none⟩) l.length lc) l:=aC Dy fun b hb=>aaj b (own_ne Dy Fj (by decide) b hb)
     have hb3:Below w.heap.size w W3:=by rw[hW3];exact hby.setCell (p:=⟨ob,n,none⟩) hs1 _
     have d23:W3.cell? ⟨f,2,none⟩=some (.slice (some ⟨gP,0,none⟩) P.length pc):=by
      have qW:aj W3 f _ 64:=(hb3.block _ hfl).trans kF;exact qW.cell 2
     go_upto_region 10 with fail
     rw[<-hW3];clear hW3 aaj o0 o1 e0 e1 cU d2y;go_wp2_with fail;have hL3':aJ 36 2 dI w.heap.size W3 (.slice (some ⟨gL,0,none⟩) l.length lc) (l++fT P n 0):=by rw[show l++fT P n 0=l from List.append_nil l];exact hL3
     go_loopg [5,85] P.length (fun m v iv wr=>∃q:Nat,q+m=P.length/\iv=.int .i64 (q:Int)/\aJ 36 2 dI w.heap.size wr v (l++fT P n q)/\aj wr ob (bF (mU sz (n::E))) 4/\Below w.heap.size w wr)
     case atStart=>exact⟨0,by omega,rfl,hL3',kO3,hb3⟩
     case round=>
      clear hL3 hL3' kO3 hb3 d23;revert wr;intro wr hrel;obtain⟨q,hkq,rfl,AZ,kOr,hbr⟩:=hrel;obtain⟨X,hX⟩:∃X,X=l++fT P n q:=⟨_,rfl⟩;rw[<-hX]at AZ;have hlq:X.length<=1000000:=by have:=Wi (P:=P) (n:=n) q;rw[hX,List.length_append];omega
      have hlx:j+1<=X.length:=by rw[hX,List.length_append];omega
      have HX:Hid (X=l++fT P n q):=hX;clear hX;obtain⟨ra,rc,rfl,-⟩:∃a c,_=Value.slice a X.length c/\X.length<=maxLen:=aF AZ;have hsr:=hbr.size
      by_cases sN:q<P.length
      ·obtain⟨gP',Ao,u,hvp,hu,x0,x1,x2⟩:=(hP.below hbr).at sN
       cases hvp;obtain⟨ua2,uc2,rfl,-⟩:∃a c,u=Value.slice a P[q].right.length c/\P[q].right.length<=maxLen:=aF hu;clear hu;have j1:(0:Int)<=(q:Int):=by omega
       have j2:(q:Int)<(P.length:Int):=by omega
       have HY:Hid (P[q].left=n->fT P n (q+1)=fT P n q++[(q,0)]):=agH sN;have HN:Hid (¬P[q].left=n->fT P n (q+1)=fT P n q):=ahU sN;obtain⟨W5,mg⟩:∃V,V=wr.alloc (.cells #[.int .i64 (P[q].left:Int),.slice ua2 P[q].right.length uc2,.int .i64 P[q].prec] 51):=⟨_,rfl⟩;have hb5:Below wr.heap.size wr W5:=by rw[mg];exact(Below.refl _ _).alloc (zL0) _
       have IG:aj W5 wr.heap.size #[.int .i64 (P[q].left:Int),.slice ua2 P[q].right.length uc2,.int .i64 P[q].prec] 51:=by rw[mg];exact aj.new wr _ 51
       have hL5:aJ 36 2 dI w.heap.size W5 (.slice ra X.length rc) X:=AZ.below hb5;have Sl:aj W5 ob (bF (mU sz (n::E))) 4:=by rw[mg];exact kOr.alloc _
       have Cy:Below w.heap.size w W5:=hbr.trans (hb5.mono hsr);have hs5:=Cy.size;have y0:W5.cell? ⟨wr.heap.size,0,none⟩=some (.int .i64 (P[q].left:Int)):=IG.cell 0;clear IG;generalize P[q].left=lf at *;generalize P[q].prec=pf at *;generalize P[q].right.length=rl at *;go_upto_region 13 with fail
       rw[<-mg];clear mg x0 x1 x2
       by_cases hc:lf=n
       ·have HE:Hid (fT P n (q+1)=fT P n q++[(q,0)]):=HY.out hc
        have k1:((lf:Int) == (n:Int))=true:=by simp[hc]
        have k2:(lf:Int)=(n:Int):=by omega
        clear HY HN hc
        go_wp2_with (at_builtin;go_loud (refine rY Tryz.KY Tryz.FN rfl (by decide) qi rfl _ _ rfl w.heap.size (by simp;omega) _ X rfl (aJ.below hL5 ((Below.refl _ _).alloc (zL0) _)) (q,0) _ 1 rfl (bC (aj.new _ _ 36)) (by unfold maxLen;omega) (by omega) ?_;intro v8 w8 mh jR qR Di))
        have kO8:aj w8 ob (bF (mU sz (n::E))) 4:=(Sl.alloc _).grown qR (fun e=>own_ne (aJ.below hL5 ((Below.refl _ _).alloc (zL0) (.cells #[.int .i64 (q:Int),.int .i64 0] 36))) (Sl.alloc _) (by decide) ob e.symm rfl);go_roundg (P.length - (q+1))
        case measure=>omega
        case rel=>exact⟨q+1,by omega,by go_num,by rw[HE.out,<-List.append_assoc,<-HX.out];exact mh,kO8,Cy.trans (((Below.refl _ W5).alloc (by omega) _).trans jR)⟩
       ·have HE:Hid (fT P n (q+1)=fT P n q):=HN.out hc
        have k1:((lf:Int) == (n:Int))=false:=zB0 (by omega);have k2:¬(lf:Int)=(n:Int):=by omega
        have k3:¬lf=n:=hc;clear HY HN hc;go_wp2_with fail;go_roundg (P.length - (q+1))
        case measure=>omega
        case rel=>exact⟨q+1,by omega,by go_num,by rw[HE.out,<-HX.out];exact hL5,Sl,Cy⟩
      ·obtain rfl:q=P.length:=by omega
       have j2:¬(P.length:Int)<(P.length:Int):=by omega
       go_wp2_with fail;go_roundg (K.length+P.length+1 - (j+1))
       case measure=>omega
       case rel=>exact⟨j+1,X,n::E,by omega,by go_num,hlx,AZ,kOr,hbr,by rw[HX.out];exact HI2⟩
  ·have HC:Hid (l=gM P K):=HDn.out l E j HI.out (by omega)
   have i2:¬(j:Int)<(l.length:Int):=by omega
   clear HI;go_wp2_with fail;go_ret;exact K7.mk _ rfl (by rw[<-HC.out];exact hL) hbz
end Go.Proofs.YtjaalkocdbkdeaaGreatDoor
namespace Go.Proofs.YtjaalkocdbkdeaaGreatDoor
open Lx Go.Proofs.Tryz
open Go.RowKit
open Tr
def oV(a b:Int):Int:=if a<b then -1 else if b<a then 1 else 0
theorem Pm(a:Int)(w:World):Calls prog 107 #[.int .i64 a] w fun e w'=>e=.returned (.bool false)/\w'=w:=by
 go_enter func107,ntmps107;go_wp2_with fail;go_ret;exact⟨rfl,rfl⟩
theorem aiJ(a b:Int)(w:World):Calls prog 68 #[.int .i64 a,.int .i64 b] w fun e w'=>e=.returned (.int .i64 (oV a b))/\w'=w:=by
 go_enter func68,ntmps68;unfold oV
 by_cases h1:a<b
 ·rw[if_pos h1]
  go_wp2_with (go_at_call 107;refine(Pm _ _).mono ?_;rintro e w'⟨rfl,hw⟩;obtain rfl:=hw.symm)
  go_ret;exact⟨rfl,rfl⟩
 ·rw[if_neg h1]
  by_cases h2:b<a
  ·rw[if_pos h2]
   go_wp2_with (go_at_call 107;refine(Pm _ _).mono ?_;rintro e w'⟨rfl,hw⟩;obtain rfl:=hw.symm)
   go_ret;exact⟨rfl,rfl⟩
  ·rw[if_neg h2]
   go_wp2_with (go_at_call 107;refine(Pm _ _).mono ?_;rintro e w'⟨rfl,hw⟩;obtain rfl:=hw.symm)
   go_ret;exact⟨rfl,rfl⟩
def wM(a b c:Int):Int:=if a=0 then (if b=0 then c else b) else a
theorem ai9(a b c:Int)(g:Nat)(w:World)(h0:w.cell? ⟨g,0,none⟩=some (.int .i64 a))(h1:w.cell? ⟨g,1,none⟩=some (.int .i64 b))(h2:w.cell? ⟨g,2,none⟩=some (.int .i64 c)):Calls prog 67 #[.slice (some ⟨g,0,none⟩) 3 3] w fun e w'=>e=.returned (.int .i64 (wM a b c))/\w'=w:=by
 have HO:Hid (wM a b c=wM a b c):=rfl;generalize hr:wM a b c=r;have HR:Hid (wM a b c=r):=hr;clear hr HO;go_enter func67,ntmps67;go_wp2_with fail
 go_loopg [8] 3 (fun m i wr=>∃j:Nat,j+m=3/\i=.int .i64 (j:Int)/\wr=w/\Hid ((0<j->a=0)/\(1<j->b=0)/\(2<j->c=0)))
 case atStart=>exact⟨0,by omega,rfl,rfl,⟨by omega,by omega,by omega⟩⟩
 case round=>
  obtain⟨j,hj,rfl,rfl,HZ⟩:=hrel;have hz:=HZ.out
  match j,hj,hz with
  |0,hj,hz=>
   clear HZ hz
   by_cases ha:a=0
   ·go_wp2_with fail
    go_roundg 2
    case measure=>omega
    case rel=>exact⟨1,by omega,by go_num,rfl,⟨fun _=>ha,by omega,by omega⟩⟩
   ·go_wp2_with fail
    go_ret;exact⟨by rw[<-HR.out];unfold wM;rw[if_neg ha];rfl,rfl⟩
  |1,hj,hz=>
   have ha:=hz.1 (by omega);clear HZ hz
   by_cases hb:b=0
   ·go_wp2_with fail
    go_roundg 1
    case measure=>omega
    case rel=>exact⟨2,by omega,by go_num,rfl,⟨fun _=>ha,fun _=>hb,by omega⟩⟩
   ·go_wp2_with fail
    go_ret;exact⟨by rw[<-HR.out];unfold wM;rw[if_pos ha,if_neg hb];rfl,rfl⟩
  |2,hj,hz=>
   have ha:=hz.1 (by omega);have hb:=hz.2.1 (by omega);clear HZ hz
   by_cases hc:c=0
   ·go_wp2_with fail
    go_roundg 0
    case measure=>omega
    case rel=>exact⟨3,by omega,by go_num,rfl,⟨fun _=>ha,fun _=>hb,fun _=>hc⟩⟩
   ·go_wp2_with fail
    go_ret;exact⟨by rw[<-HR.out];unfold wM;rw[if_pos ha,if_pos hb];rfl,rfl⟩
  |3,hj,hz=>
   have ha:=hz.1 (by omega);have hb:=hz.2.1 (by omega);have hc:=hz.2.2 (by omega);clear HZ hz;go_wp2_with fail;go_ret;exact⟨by rw[<-HR.out];unfold wM;rw[if_pos ha,if_pos hb,hc];rfl,rfl⟩
  |j+4,hj,hz=>omega
attribute [local go_sem ↓] Go.wp_at_zero Go.wp_at_succ
def gI(m:Nat×(Nat×Nat)):List Value:=[.int .i64 (m.1:Int),.int .i64 (m.2.1:Int),.int .i64 (m.2.2:Int)]
def xA(x y:Nat×(Nat×Nat)):Int:=wM (oV (x.1:Int) (y.1:Int)) (oV (x.2.1:Int) (y.2.1:Int)) (oV (x.2.2:Int) (y.2.2:Int))
theorem agI(x y:Nat×(Nat×Nat))(W:World):Calls prog 66 #[.agg (gI x).toArray,.agg (gI y).toArray] W fun e w'=>e=.returned (.int .i64 (xA x y))/\∃q os',w'=Go.Sort.grow (W.drewN q) os':=by
 obtain⟨x0,x1,x2⟩:=x;obtain⟨y0,y1,y2⟩:=y;unfold xA;simp only[gI];obtain⟨W1,hW1⟩:∃V,V=(W.alloc (.cells #[.int .i64 (x0:Int),.int .i64 (x1:Int),.int .i64 (x2:Int)] 101)).alloc (.cells #[.int .i64 (y0:Int),.int .i64 (y1:Int),.int .i64 (y2:Int)] 101):=⟨_,rfl⟩;go_enter func66,ntmps66;have kA:aj W1 W.heap.size #[.int .i64 (x0:Int),.int .i64 (x1:Int),.int .i64 (x2:Int)] 101:=by rw[hW1];exact(aj.new W _ 101).alloc _
 have kB:aj W1 (W.heap.size+1) #[.int .i64 (y0:Int),.int .i64 (y1:Int),.int .i64 (y2:Int)] 101:=by rw[hW1];simpa using aj.new (W.alloc (.cells #[.int .i64 (x0:Int),.int .i64 (x1:Int),.int .i64 (x2:Int)] 101)) #[.int .i64 (y0:Int),.int .i64 (y1:Int),.int .i64 (y2:Int)] 101
 have a0:W1.cell? ⟨W.heap.size,0,none⟩=some (.int .i64 (x0:Int)):=kA.cell 0;have a1:W1.cell? ⟨W.heap.size,1,none⟩=some (.int .i64 (x1:Int)):=kA.cell 1;have a2:W1.cell? ⟨W.heap.size,2,none⟩=some (.int .i64 (x2:Int)):=kA.cell 2;have b0:W1.cell? ⟨W.heap.size+1,0,none⟩=some (.int .i64 (y0:Int)):=kB.cell 0;have b1:W1.cell? ⟨W.heap.size+1,1,none⟩=some (.int .i64 (y1:Int)):=kB.cell 1;have b2:W1.cell? ⟨W.heap.size+1,2,none⟩=some (.int .i64 (y2:Int)):=kB.cell 2;go_upto_region 1 with fail
 rw[<-hW1];have HW:Hid (∃q os',W1=Go.Sort.grow (W.drewN q) os'):=⟨0,_,by rw[hW1,Go.Sort.alloc_eq_grow,Go.Sort.alloc_eq_grow,Go.Sort.grow_grow];rfl⟩;clear hW1 kA kB
 go_region_held3 (fun w'=>w'.cell? ⟨W.heap.size,0,none⟩=some (.int .i64 (x0:Int))/\w'.cell? ⟨W.heap.size,1,none⟩=some (.int .i64 (x1:Int))/\w'.cell? ⟨W.heap.size,2,none⟩=some (.int .i64 (x2:Int))/\w'.cell? ⟨W.heap.size+1,0,none⟩=some (.int .i64 (y0:Int))/\w'.cell? ⟨W.heap.size+1,1,none⟩=some (.int .i64 (y1:Int))/\w'.cell? ⟨W.heap.size+1,2,none⟩=some (.int .i64 (y2:Int))) (go_keep) (first
  | (go_at_call 68;refine(aiJ _ _ _).mono ?_;rintro e w'⟨rfl,hw⟩;obtain rfl:=hw.symm)
  | (go_at_call 67;refine(ai9 (oV (x0:Int) (y0:Int)) (oV (x1:Int) (y1:Int)) (oV (x2:Int) (y2:Int)) _ _ (by simp) (by simp) (by simp)).mono ?_;rintro e w'⟨rfl,hw⟩;obtain rfl:=hw.symm))
 all_goals
  go_wp2_with fail;go_ret;obtain⟨q,os',hq⟩:=HW.out;refine⟨rfl,q+1,os'++#[.cells #[.int .i64 (oV (x0:Int) (y0:Int)),.int .i64 (oV (x1:Int) (y1:Int)),.int .i64 (oV (x2:Int) (y2:Int))] 3],?_⟩;rw[hq,<-Go.Sort.grow_grow,<-Go.Sort.alloc_eq_grow];rfl
end Go.Proofs.YtjaalkocdbkdeaaGreatDoor
namespace Go.Proofs
open Go.Shelf
def Tryz.aen:Go.Shelf.Ren:=⟨fun | 176=>63 | 249=>103 | 288=>136 | 283=>157 | 284=>158 | 285=>159 | 286=>160 | 129=>146 | 317=>170 | 318=>171 | 319=>172 | 320=>173 | 337=>177 | 338=>178 | n=>n,fun | 37=>160 | 2=>2 | 3=>3 | 53=>224 | 4=>4 | 9=>9 | 171=>245 | 0=>0 | 173=>247 | 212=>259 | 51=>234 | 5=>5 | 20=>20 | 213=>260 | 46=>207 | 232=>265 | 233=>266 | n=>n,fun | 17=>0 | 18=>1 | 19=>2 | n=>n⟩
theorem Tryz.ahV:Go.Proofs.LaysM.n176 prog Tryz.aen:={
 mixed:=by kernel_rfl
 f129:=func146.trans (congrArg some (by kernel_rfl))
 f176:=func63.trans (congrArg some (by kernel_rfl))
 f249:=func103.trans (congrArg some (by kernel_rfl))
 f283:=func157.trans (congrArg some (by kernel_rfl))
 f284:=func158.trans (congrArg some (by kernel_rfl))
 f285:=func159.trans (congrArg some (by kernel_rfl))
 f286:=func160.trans (congrArg some (by kernel_rfl))
 f288:=func136.trans (congrArg some (by kernel_rfl))
 f317:=func170.trans (congrArg some (by kernel_rfl))
 f318:=func171.trans (congrArg some (by kernel_rfl))
 f319:=func172.trans (congrArg some (by kernel_rfl))
 f320:=func173.trans (congrArg some (by kernel_rfl))
 f337:=func177.trans (congrArg some (by kernel_rfl))
 f338:=func178.trans (congrArg some (by kernel_rfl))
 t0:=underlying0
 a0:=Tryz.isAgg0
 z0:=Tryz.sizeOf0
 v0:=Tryz.zeroValue0
 t2:=underlying2
 a2:=Tryz.isAgg2
 z2:=Tryz.sizeOf2
 v2:=Tryz.zeroValue2
 t3:=underlying3
 a3:=Tryz.isAgg3
 z3:=Tryz.sizeOf3
 v3:=Tryz.zeroValue3
 t4:=underlying4
 a4:=Tryz.isAgg4
 z4:=Tryz.sizeOf4
 v4:=Tryz.zeroValue4
 t5:=underlying5
 a5:=Tryz.isAgg5
 z5:=Tryz.sizeOf5
 v5:=Tryz.zeroValue5
 t9:=underlying9
 a9:=Tryz.isAgg9
 z9:=Tryz.sizeOf9
 v9:=Tryz.zeroValue9
 t20:=underlying20
 a20:=Tryz.isAgg20
 z20:=Tryz.sizeOf20
 v20:=Tryz.zeroValue20
 t37:=underlying160
 a37:=Tryz.isAgg160
 z37:=Tryz.sizeOf160
 v37:=Tryz.zeroValue160
 t46:=underlying207
 a46:=Tryz.isAgg207
 z46:=Tryz.sizeOf207
 v46:=Tryz.zeroValue207
 t51:=underlying234
 a51:=Tryz.isAgg234
 z51:=Tryz.sizeOf234
 v51:=Tryz.zeroValue234
 t53:=underlying224
 a53:=Tryz.isAgg224
 z53:=Tryz.sizeOf224
 v53:=Tryz.zeroValue224
 t171:=underlying245
 a171:=Tryz.isAgg245
 z171:=Tryz.sizeOf245
 v171:=Tryz.zeroValue245
 t173:=underlying247
 a173:=Tryz.isAgg247
 z173:=Tryz.sizeOf247
 v173:=Tryz.zeroValue247
 t212:=underlying259
 a212:=Tryz.isAgg259
 z212:=Tryz.sizeOf259
 v212:=Tryz.zeroValue259
 t213:=underlying260
 a213:=Tryz.isAgg260
 z213:=Tryz.sizeOf260
 t232:=underlying265
 a232:=Tryz.isAgg265
 z232:=Tryz.sizeOf265
 v232:=Tryz.zeroValue265
 t233:=underlying266
 a233:=Tryz.isAgg266
 z233:=Tryz.sizeOf266
 v233:=Tryz.zeroValue266
 g17:=by kernel_rfl
 g18:=by kernel_rfl
 g19:=by kernel_rfl
 i0:=by kernel_rfl
 i2:=by kernel_rfl
 i3:=by kernel_rfl
 i4:=by kernel_rfl
 i5:=by kernel_rfl
 i9:=by kernel_rfl
 i20:=by kernel_rfl
 i37:=by kernel_rfl
 i46:=by kernel_rfl
 i51:=by kernel_rfl
 i53:=by kernel_rfl
 i171:=by kernel_rfl
 i173:=by kernel_rfl
 i212:=by kernel_rfl
 i232:=by kernel_rfl
 i233:=by kernel_rfl
 m17:=by kernel_rfl
 m18:=by kernel_rfl
 m19:=by kernel_rfl }
def Tryz.VK:Go.Shelf.Ren:=⟨fun | 6=>65 | 15=>106 | 14=>105 | 28=>145 | 29=>146 | 20=>137 | 21=>138 | 22=>139 | 23=>140 | 24=>141 | 25=>142 | 26=>143 | 27=>144 | 46=>161 | 47=>162 | 48=>163 | 49=>164 | 50=>165 | 57=>174 | n=>n,fun | 22=>98 | 24=>101 | 25=>166 | 3=>3 | 39=>207 | 0=>0 | 53=>234 | 55=>224 | 4=>4 | 46=>228 | 45=>227 | 50=>97 | 5=>5 | 9=>9 | 66=>249 | 70=>253 | 76=>261 | 77=>262 | n=>n,fun | n=>n⟩
theorem Tryz.Y1:Go.Proofs.SlLaysF0.n6 prog Tryz.VK:={
 mixed:=by kernel_rfl
 f6:=⟨Tryz.f65.name,by decide,func65.trans (congrArg some (by kernel_rfl))⟩
 f14:=⟨Tryz.f105.name,by decide,func105.trans (congrArg some (by kernel_rfl))⟩
 f15:=func106.trans (congrArg some (by kernel_rfl))
 f20:=⟨Tryz.f137.name,by decide,func137.trans (congrArg some (by kernel_rfl))⟩
 f21:=⟨Tryz.f138.name,by decide,func138.trans (congrArg some (by kernel_rfl))⟩
 f22:=⟨Tryz.f139.name,by decide,func139.trans (congrArg some (by kernel_rfl))⟩
 f23:=⟨Tryz.f140.name,by decide,func140.trans (congrArg some (by kernel_rfl))⟩
 f24:=⟨Tryz.f141.name,by decide,func141.trans (congrArg some (by kernel_rfl))⟩
 f25:=⟨Tryz.f142.name,by decide,func142.trans (congrArg some (by kernel_rfl))⟩
 f26:=⟨Tryz.f143.name,by decide,func143.trans (congrArg some (by kernel_rfl))⟩
 f27:=⟨Tryz.f144.name,by decide,func144.trans (congrArg some (by kernel_rfl))⟩
 f28:=func145.trans (congrArg some (by kernel_rfl))
 f29:=func146.trans (congrArg some (by kernel_rfl))
 f46:=⟨Tryz.f161.name,by decide,func161.trans (congrArg some (by kernel_rfl))⟩
 f47:=func162.trans (congrArg some (by kernel_rfl))
 f48:=func163.trans (congrArg some (by kernel_rfl))
 f49:=⟨Tryz.f164.name,by decide,func164.trans (congrArg some (by kernel_rfl))⟩
 f50:=⟨Tryz.f165.name,by decide,func165.trans (congrArg some (by kernel_rfl))⟩
 f57:=⟨Tryz.f174.name,by decide,func174.trans (congrArg some (by kernel_rfl))⟩
 t0:=underlying0
 a0:=Tryz.isAgg0
 z0:=Tryz.sizeOf0
 v0:=Tryz.zeroValue0
 t3:=underlying3
 a3:=Tryz.isAgg3
 z3:=Tryz.sizeOf3
 v3:=Tryz.zeroValue3
 t4:=underlying4
 a4:=Tryz.isAgg4
 z4:=Tryz.sizeOf4
 v4:=Tryz.zeroValue4
 t5:=underlying5
 a5:=Tryz.isAgg5
 z5:=Tryz.sizeOf5
 v5:=Tryz.zeroValue5
 t9:=underlying9
 a9:=Tryz.isAgg9
 z9:=Tryz.sizeOf9
 v9:=Tryz.zeroValue9
 t22:=underlying98
 a22:=Tryz.isAgg98
 z22:=Tryz.sizeOf98
 v22:=Tryz.zeroValue98
 t25:=underlying166
 a25:=Tryz.isAgg166
 z25:=Tryz.sizeOf166
 v25:=Tryz.zeroValue166
 t39:=underlying207
 a39:=Tryz.isAgg207
 z39:=Tryz.sizeOf207
 v39:=Tryz.zeroValue207
 t45:=underlying227
 a45:=Tryz.isAgg227
 z45:=Tryz.sizeOf227
 v45:=Tryz.zeroValue227
 t46:=underlying228
 a46:=Tryz.isAgg228
 z46:=Tryz.sizeOf228
 v46:=Tryz.zeroValue228
 t50:=underlying97
 a50:=Tryz.isAgg97
 z50:=Tryz.sizeOf97
 v50:=Tryz.zeroValue97
 t53:=underlying234
 a53:=Tryz.isAgg234
 z53:=Tryz.sizeOf234
 v53:=Tryz.zeroValue234
 t55:=underlying224
 a55:=Tryz.isAgg224
 z55:=Tryz.sizeOf224
 v55:=Tryz.zeroValue224
 t66:=underlying249
 a66:=Tryz.isAgg249
 z66:=Tryz.sizeOf249
 v66:=Tryz.zeroValue249
 t70:=underlying253
 a70:=Tryz.isAgg253
 z70:=Tryz.sizeOf253
 v70:=Tryz.zeroValue253
 t76:=underlying261
 a76:=Tryz.isAgg261
 z76:=Tryz.sizeOf261
 v76:=Tryz.zeroValue261
 t77:=underlying262
 a77:=Tryz.isAgg262
 z77:=Tryz.sizeOf262
 v77:=Tryz.zeroValue262 }
end Go.Proofs
namespace Go.Proofs.YtjaalkocdbkdeaaGreatDoor
open Lx Go.Proofs.Tryz
open Go.RowKit
open Tr
theorem ahW(fv:Value)(w:World):Calls prog 137 #[.slice none 0 0,.int .i64 0,.int .i64 0,fv] w fun e w'=>e=.returned (.tuple #[])/\w'=w:=by
 go_enter func137,ntmps137;go_wp2_with fail
 go_loopg [8] 0 (fun m i wr=>i=.int .i64 1/\wr=w)
 case atStart=>exact⟨rfl,rfl⟩
 case round=>
  obtain⟨rfl,rfl⟩:=hrel;go_wp2_with fail
  go_end0
  exact⟨rfl,rfl⟩
theorem ahX(fv:Value)(l:Int)(w:World):Calls prog 105 #[.slice none 0 0,.int .i64 0,.int .i64 0,.int .i64 l,fv] w fun e w'=>e=.returned (.tuple #[])/\w'=w:=by
 go_enter func105,ntmps105;go_wp2_with fail;refine wp_loop_rounds 1 ?_;rw[rounds_succ]
 go_wp2_with (go_at_call 137;refine(ahW _ _).mono ?_;rintro e w'⟨rfl,hw⟩;obtain rfl:=hw.symm)
 (try simp only[Exit.inBlock,Exit.then]);refine bodyPost_ret (results_none rfl _ _ _) rfl ?_
 exact⟨rfl,rfl⟩
theorem agJ(fv:Value)(w:World):Calls prog 65 #[.slice none 0 0,fv] w fun e w'=>e=.returned (.tuple #[])/\w'=w:=by
 have hl:∀W,Calls prog 106 #[.int .u64 0] W fun e w'=>e=.returned (.int .i64 (Lib.bitLen 0:Nat))/\w'=W:=fun W=>Any.bits_Len (SlLaysF0.n15.bits (P:=prog) (ρ:=Tryz.VK) { Tryz.Y1 with }) 0 W (by omega) (by omega)
 go_enter func65,ntmps65
 go_wp2_with (first|(go_at_call 106;refine(hl _).mono ?_;rintro e w'⟨rfl,hw⟩;obtain rfl:=hw.symm)|(go_at_call 105;refine(ahX _ _ _).mono ?_;rintro e w'⟨rfl,hw⟩;obtain rfl:=hw.symm))
 go_end0
 exact⟨rfl,rfl⟩
theorem Fq:sw gI 3:=⟨fun _=>rfl,fun s u hu=>by simp only[gI,List.mem_cons,List.not_mem_nil,or_false]at hu;rcases hu with rfl|rfl|rfl <;> rfl⟩
theorem Pn{a b:Int}:oV a b<0↔a<b:=by
 unfold oV
 split
 ·simp[*]
 ·split
  ·simp[*]
  ·simp[*]
theorem Kb{a b:Int}:oV a b=0↔a=b:=by
 unfold oV
 split
 ·simp;omega
 ·split
  ·simp;omega
  ·simp;omega
theorem aiK{x y:Nat×av}:xA x y<0↔oF x y:=by
 unfold xA wM oF dP
 by_cases h1:oV (x.1:Int) (y.1:Int)=0
 ·rw[if_pos h1]
  have e1:=Kb.1 h1
  by_cases h2:oV (x.2.1:Int) (y.2.1:Int)=0
  ·rw[if_pos h2,Pn]
   have e2:=Kb.1 h2;omega
  ·rw[if_neg h2,Pn]
   have e2:¬(x.2.1:Int)=(y.2.1:Int):=fun e=>h2 (Kb.2 e)
   omega
 ·rw[if_neg h1,Pn]
  have e1:¬(x.1:Int)=(y.1:Int):=fun e=>h1 (Kb.2 e)
  omega
theorem M8(x y:Nat×av):ltOf xA x y=true↔oF x y:=by
 unfold ltOf;simp only[decide_eq_true_eq];exact aiK
theorem Gl(x y:Nat×av):ltOf xA x y=false↔¬oF x y:=by rw[<-M8,Bool.not_eq_true]
theorem akb:Go.Sort.SWO (ltOf xA) where
 irrefl x:=(Gl _ _).2 (by unfold oF dP;omega)
 trans x y z h1 h2:=(M8 _ _).2 (by have:=(M8 _ _).1 h1;have:=(M8 _ _).1 h2;unfold oF dP at *;omega)
 ntrans x y z h1 h2:=(Gl _ _).2 (by have:=(Gl _ _).1 h1;have:=(Gl _ _).1 h2;unfold oF dP at *;omega)
theorem VL{α:Type}[Inhabited α]{enc:α->List Value}{k:Nat}(hE:sw enc k)(hk:0<k)(M:List α):(Go.Sort.flatK enc k M.toArray).toList=M.flatMap enc:=by
 apply List.ext_getElem?;intro t
 by_cases ht:t<M.length*k
 ·have hd:t / k<M.length:=(Nat.div_lt_iff_lt_mul hk).2 ht
  have hm:t % k<k:=Nat.mod_lt _ hk;have e:t=t / k*k+t % k:=by rw[Nat.mul_comm];exact(Nat.div_add_mod t k).symm
  have h1:(M.flatMap enc)[t]?=(enc M[t / k])[t % k]?:=by
   conv=>lhs;rw[e]
   exact hE.Qd hd hm
  have hlt:t % k<(enc M[t / k]).length:=by rw[hE.len];exact hm
  have hs:(Go.Sort.flatK enc k M.toArray).size=M.length*k:=by simp[Go.Sort.flatK]
  have hft:t<(Go.Sort.flatK enc k M.toArray).size:=by rw[hs];exact ht
  rw[h1,List.getElem?_eq_getElem hlt,Array.getElem?_toList,Array.getElem?_eq_getElem hft];have h2:=Go.Sort.get_flatK enc k M.toArray t (by simpa using ht);rw[getElem!_pos _ t hft,getElem!_pos M.toArray (t / k) (by simpa using hd)]at h2;simp only[List.getElem_toArray]at h2;rw[getElem!_pos (enc M[t / k]) (t % k) hlt]at h2;rw[h2]
 ·have hs:(Go.Sort.flatK enc k M.toArray).toList.length=M.length*k:=by rw[Array.length_toList];simp[Go.Sort.flatK]
  have hs2:=hE.G7 M;rw[List.getElem?_eq_none (l:=(Go.Sort.flatK enc k M.toArray).toList) (by omega),List.getElem?_eq_none (l:=M.flatMap enc) (by omega)]
theorem agK{B:Nat}{w:World}{g cap:Nat}{M:List (Nat×av)}(h:aJ 101 3 gI B w (.slice (some ⟨g,0,none⟩) M.length cap) M):Go.Sort.HoldsK gI 3 w g 0 M.toArray:=by
 have hc:=World.ownsRow.cells h (g:=g) rfl;have hl:=VL Fq (by decide) M;intro j hj;have hj2:(M.flatMap gI)[j]?=some (Go.Sort.flatK gI 3 M.toArray)[j]!:=by
  rw[<-hl,Array.getElem?_toList,Array.getElem?_eq_getElem hj,getElem!_pos _ j hj]
 refine⟨?_,?_⟩
 ·have:=hc j _ hj2
  rw[show (⟨g,0,none⟩:Addr).add j=⟨g,0+j,none⟩ by unfold Addr.add;split <;> simp_all]at this;exact this
 ·rcases h.2 with ⟨hv,-⟩ | ⟨g',cap',cur,hv,-,hg,-⟩
  ·cases hv
  ·cases hv
   exact aj.frozen (cs:=cur) (e:=101) hg _
theorem agL{M':List (Nat×av)}(hn:M'.Nodup)(h:Go.Sort.SortedIn (ltOf xA) 0 M'.length M'.toArray):M'.Pairwise oF:=by
 rw[List.pairwise_iff_getElem];intro i j hi hj hij;have h1:=h i j (Nat.zero_le _) hij hj;rw[getElem!_pos M'.toArray j (by simpa using hj),getElem!_pos M'.toArray i (by simpa using hi)]at h1;simp only[List.getElem_toArray]at h1;have h2:=(Gl _ _).1 h1;have h3:M'[i]≠M'[j]:=fun e=>absurd ((List.getElem_inj hn).1 e) (by omega)
 generalize M'[i]=x at h2 h3;generalize M'[j]=y at h2 h3;have h4:¬(x.1=y.1/\x.2.1=y.2.1/\x.2.2=y.2.2):=fun e=>h3 (Prod.ext e.1 (Prod.ext e.2.1 e.2.2))
 unfold oF dP at *;omega
theorem heap_put{w:World}{g n:Nat}{d:Array (Nat×av)}{os:Array Obj}{cur:Array Value}(hg:w.heap[g]?=some (.cells cur 101 (0,0))):(sortWorldK gI 3 w g 0 n d os).heap[g]?=some (.cells (Go.Sort.putCells id 0 (Go.Sort.flatK gI 3 d) cur) 101 (0,0))/\(∀b,b<w.heap.size->b≠g->(sortWorldK gI 3 w g 0 n d os).heap[b]?=w.heap[b]?)/\w.heap.size<=(sortWorldK gI 3 w g 0 n d os).heap.size:=by
 have hlt:=(Array.getElem?_eq_some_iff.1 hg).1;unfold sortWorldK Go.Sort.putRowK Go.Sort.putRow Go.Sort.mapBlock Go.Sort.ahead Go.Sort.grow;simp only;refine⟨?_,fun b hb hne=>?_,?_⟩
 ·rw[Array.getElem?_append_left (by simpa using hlt),Array.getElem?_modify,if_pos rfl,hg]
  rfl
 ·rw[Array.getElem?_append_left (by simpa using hb),Array.getElem?_modify,if_neg (fun e=>hne e.symm)]
 ·simp
theorem adW{F cur:Array Value}(h:F.size<=cur.size):(Go.Sort.putCells id 0 F cur).toList.take F.size=F.toList/\(Go.Sort.putCells id 0 F cur).size=cur.size:=by
 refine⟨?_,by simp[Go.Sort.putCells]⟩;apply List.ext_getElem
 ·simp[Go.Sort.putCells];omega
 ·intro i h1 h2
  have hi:i<F.size:=by simpa using h2
  simp only[List.getElem_take,Array.getElem_toList,Go.Sort.putCells,Array.getElem_mapIdx];rw[if_pos ⟨Nat.zero_le _,by omega⟩,Nat.sub_zero,getElem!_pos F i hi];rfl
theorem ahY{B:Nat}{w:World}{v:Value}{M:List (Nat×av)}(h:aJ 101 3 gI B w v M)(hl:M.length<=1000000)(hnd:M.Nodup):Calls prog 65 #[v,.func (.func 66) #[] #[]] w fun e w'=>e=.returned (.tuple #[])/\∃M':List (Nat×av),M'.Perm M/\M'.Pairwise oF/\aJ 101 3 gI B w' v M'/\Below B w w':=by
 have h':=h;unfold aJ at h';rcases h'.2 with ⟨rfl,hzero⟩|⟨g,cap,cur,rfl,hBg,hg,hnc,hcm,hcs,hct⟩
 ·obtain rfl:M=[]:=List.eq_nil_of_length_eq_zero hzero
  refine(agJ _ w).mono ?_;rintro e w'⟨rfl,rfl⟩;exact⟨rfl,[],.refl _,.nil,h,Below.refl _ _⟩
 ·have eg:∀args w,(callFunc 66 args).run prog w=.ok (.enter 66 args) w:=enters_of func66 (by kernel_rfl) rfl
  have hH:=agK h;have hlt:=(Array.getElem?_eq_some_iff.1 hg).1;have hcmp:CmpLays prog 66 #[] gI 3 xA g 0 M.toArray.size w:=fun _ _ _ _ x y=>agI x y _
  have hcon:=AnyQ.slices_SortFunc Tryz.Y1 3 Tryz.isAgg101 Tryz.sizeOf101 gI (fun _=>rfl) Fq.one xA akb 66 #[] g 0 cap M.toArray w eg hcmp hH hlt (by simp;omega);refine Calls.mono hcon ?_;rintro e w'⟨rfl,d',n,os,hp,hs,rfl⟩;obtain⟨p1,-,p3⟩:=hp;have hsz:d'.size=M.length:=by simpa using p1
  have hperm:d'.toList.Perm M:=by
   have e1:d'.extract 0 M.toArray.size=d':=by rw[<-p1];simp
   have e2:M.toArray.extract 0 M.toArray.size=M.toArray:=by simp
   rw[e1,e2]at p3;exact p3
  obtain⟨k1,k2,k3⟩:=heap_put (n:=n) (d:=d') (os:=os) hg;have hfl:(Go.Sort.flatK gI 3 d').toList=d'.toList.flatMap gI:=by
   have:=VL Fq (by decide) d'.toList;simpa using this
  have hfs:(Go.Sort.flatK gI 3 d').size=M.length*3:=by rw[<-Array.length_toList,hfl,Fq.G7,Array.length_toList,hsz]
  obtain⟨t1,t2⟩:=adW (F:=Go.Sort.flatK gI 3 d') (cur:=cur) (by rw[hfs,hcs];exact Nat.mul_le_mul_right 3 hnc);refine⟨rfl,d'.toList,hperm,agL (hperm.nodup_iff.2 hnd) ?_,?_,?_⟩
  ·rw[Array.length_toList,hsz]
   simpa using hs
  ·have hlen:d'.toList.length=M.length:=by rw[Array.length_toList,hsz]
   refine⟨Fq.G7 _,.inr ⟨g,cap,_,by rw[hlen],hBg,k1,by rw[hlen];exact hnc,hcm,by rw[t2];exact hcs,?_⟩⟩;rw[hlen,<-hfs,t1,hfl]
  ·exact⟨rfl,rfl,rfl,k3,fun b hb=>k2 b (by omega) (by omega)⟩
end Go.Proofs.YtjaalkocdbkdeaaGreatDoor
namespace Go.Proofs.YtjaalkocdbkdeaaGreatDoor
open Lx Go.Proofs.Tryz
open Go Go.RowKit
namespace Lx
structure ko(P:List Pd)(i n:Nat)(S:bK):Prop where
 nd:S.ks.Nodup
 zero:S.ks[0]?=some [(0,0)]
 kn:∀(j:Nat),j<S.ks.length->0<j->∃f m,(f,m,j)∈S.es
 es:∀e∈S.es,(e.1<i\/(e.1=i/\e.2.1<n))/\0<e.2.2/\∃K,S.ks[e.1]?=some K/\S.ks[e.2.2]?=some (eU P K e.2.1)/\eU P K e.2.1≠[]
 pw:S.es.Pairwise fun a b=>a.1<b.1\/(a.1=b.1/\a.2.1<b.2.1)
 all:∀(j:Nat)(K:List av)(m:Nat),S.ks[j]?=some K->(j<i\/(j=i/\m<n))->eU P K m≠[]->∃t,(j,m,t)∈S.es
 rise:∀(j:Nat)(K:List av),S.ks[j]?=some K->K.Pairwise dP
theorem aiL{P:List Pd}{K:List av}{n:Nat}{s:av}(h:s∈eU P K n):0<s.2:=by
 obtain⟨t,-,-,rfl⟩:=El.1 h;exact Nat.succ_pos _
theorem Y4{l:List (List av)}{k:List av}(h:gN l k<l.length):l[gN l k]?=some k:=by
 unfold gN at *;rw[List.getElem?_eq_getElem h];have:=List.findIdx_getElem (w:=h);simpa using this
theorem Y5{l:List (List av)}{k:List av}(h:¬gN l k<l.length):k∉l:=by
 intro hk;apply h;unfold gN;rw[List.findIdx_lt_length];exact⟨k,hk,by simp⟩
theorem ko.first(P:List Pd):ko P 0 0 ⟨[[(0,0)]],[]⟩:=by
 refine⟨by simp,rfl,fun j h1 h2=>?_,(fun e he=>by cases he),List.Pairwise.nil,(fun j K m _ h=>by omega),fun j K h=>?_⟩
 ·simp at h1;omega
 ·cases j with
  |zero=>cases h;simp
  |succ j=>simp at h
theorem ko.mono{P:List Pd}{i n:Nat}{S:bK}(h:ko P i n S){K:List av}(hK:S.ks[i]?=some K)(he:eU P K n=[]):ko P i (n+1) S:=by
 refine⟨h.nd,h.zero,h.kn,fun e h1=>?_,h.pw,fun j K' m h1 h2 h3=>?_,h.rise⟩
 ·obtain⟨h2,h3⟩:=h.es e h1
  exact⟨by omega,h3⟩
 ·by_cases e:j=i/\m=n
  ·obtain⟨rfl,rfl⟩:=e
   rw[hK]at h1;cases h1;exact absurd he h3
  ·exact h.all j K' m h1 (by omega) h3
theorem ko.edge{P:List Pd}{i n:Nat}{S:bK}(h:ko P i n S){K:List av}(hK:S.ks[i]?=some K):ko P i (n+1) (edge P i K S n):=by
 unfold Lx.edge
 by_cases he:eU P K n=[]
 ·rw[if_pos he];exact h.mono hK he
 ·rw[if_neg he]
  have hi:=(List.getElem?_eq_some_iff.1 hK).1;have hpw:∀t:Nat,(S.es++[(i,n,t)]).Pairwise fun(a b:CU)=>a.1<b.1\/(a.1=b.1/\a.2.1<b.2.1):=fun t=>by
   rw[List.pairwise_append];refine⟨h.pw,by simp,fun a ha b hb=>?_⟩;rw[List.mem_singleton]at hb;subst hb;have:=(h.es a ha).1;simp only;omega
  have h0:eU P K n≠[(0,0)]:=fun e=>by
   have:=aiL (P:=P) (K:=K) (n:=n) (s:=(0,0)) (by rw[e];simp);exact absurd this (by simp)
  by_cases hx:gN S.ks (eU P K n)<S.ks.length
  ·rw[if_pos hx]
   have hat:=Y4 hx;refine⟨h.nd,h.zero,fun j h1 h2=>?_,fun e he'=>?_,hpw _,fun j K' m h1 h2 h3=>?_,h.rise⟩
   ·obtain⟨f,m,h3⟩:=h.kn j h1 h2
    exact⟨f,m,List.mem_append.2 (.inl h3)⟩
   ·rcases List.mem_append.1 he' with h1 | h1
    ·obtain⟨h2,h3⟩:=h.es e h1
     exact⟨by omega,h3⟩
    ·rw[List.mem_singleton]at h1
     subst h1;refine⟨.inr ⟨rfl,Nat.lt_succ_self _⟩,?_,K,hK,hat,he⟩;apply Nat.pos_of_ne_zero;intro e0;have e0':gN S.ks (eU P K n)=0:=e0;rw[e0',h.zero]at hat;exact h0 (Option.some.inj hat).symm
   ·by_cases e:j=i/\m=n
    ·obtain⟨rfl,rfl⟩:=e
     exact⟨_,List.mem_append.2 (.inr List.mem_cons_self)⟩
    ·obtain⟨t,ht⟩:=h.all j K' m h1 (by omega) h3
     exact⟨t,List.mem_append.2 (.inl ht)⟩
  ·rw[if_neg hx]
   have hnew:=Y5 hx;have hold:∀{j:Nat}{K':List av},S.ks[j]?=some K'->(S.ks++[eU P K n])[j]?=some K':=fun{j K'}h1=>by
    rw[List.getElem?_append_left (List.getElem?_eq_some_iff.1 h1).1];exact h1
   have hsplit:∀{j:Nat}{K':List av},(S.ks++[eU P K n])[j]?=some K'->S.ks[j]?=some K'\/(j=S.ks.length/\K'=eU P K n):=fun{j K'}h1=>by
    rw[List.getElem?_append]at h1
    split at h1
    ·exact .inl h1
    ·rename_i hge
     have hj:j=S.ks.length:=by
      have:=(List.getElem?_eq_some_iff.1 h1).1;simp at this;omega
     subst hj;simp at h1;exact .inr ⟨rfl,h1.symm⟩
   have hlast:(S.ks++[eU P K n])[S.ks.length]?=some (eU P K n):=by simp
   refine⟨?_,hold h.zero,fun j h1 h2=>?_,fun e he'=>?_,hpw _,fun j K' m h1 h2 h3=>?_,fun j K' h1=>?_⟩
   ·rw[List.nodup_append]
    refine⟨h.nd,by simp,fun a ha b hb e=>?_⟩;rw[List.mem_singleton]at hb;subst hb;exact hnew (e▸ha)
   ·simp only[List.length_append,List.length_cons,List.length_nil]at h1
    by_cases e:j=S.ks.length
    ·subst e
     exact⟨i,n,List.mem_append.2 (.inr List.mem_cons_self)⟩
    ·obtain⟨f,m,h3⟩:=h.kn j (by omega) h2
     exact⟨f,m,List.mem_append.2 (.inl h3)⟩
   ·rcases List.mem_append.1 he' with h1 | h1
    ·obtain⟨h2,h3,K',h4,h5,h6⟩:=h.es e h1
     exact⟨by omega,h3,K',hold h4,hold h5,h6⟩
    ·rw[List.mem_singleton]at h1
     subst h1;exact⟨.inr ⟨rfl,Nat.lt_succ_self _⟩,by show 0<S.ks.length;omega,K,hold hK,hlast,he⟩
   ·rcases hsplit h1 with h1 | ⟨rfl,-⟩
    ·by_cases e:j=i/\m=n
     ·obtain⟨rfl,rfl⟩:=e
      exact⟨_,List.mem_append.2 (.inr List.mem_cons_self)⟩
     ·obtain⟨t,ht⟩:=h.all j K' m h1 (by omega) h3
      exact⟨t,List.mem_append.2 (.inl ht)⟩
    ·omega
   ·rcases hsplit h1 with h1 | ⟨-,rfl⟩
    ·exact h.rise j K' h1
    ·exact YL _ _ _
theorem ko.leave{P:List Pd}{i:Nat}{K:List av}:∀(q n:Nat)(S:bK),ko P i n S->S.ks[i]?=some K->ko P i (n+q) (leave P i K S (List.range' n q))/\(leave P i K S (List.range' n q)).ks[i]?=some K
 |0,n,S,h,hK=>⟨h,hK⟩
 |q+1,n,S,h,hK=>by
  rw[List.range'_succ];have:=ko.leave q (n+1) (Lx.edge P i K S n) (h.edge hK) (Pk hK);rw[show n+1+q=n+(q+1) by omega]at this;exact this
theorem ko.next{P:List Pd}{sz st i:Nat}{S:bK}(hp:mR P sz st)(h:ko P i sz S):ko P (i+1) 0 S:=by
 refine⟨h.nd,h.zero,h.kn,fun e h1=>?_,h.pw,fun j K' m h1 h2 h3=>?_,h.rise⟩
 ·obtain⟨h2,h3⟩:=h.es e h1
  exact⟨by omega,h3⟩
 ·refine h.all j K' m h1 ?_ h3
  by_cases e:j=i
  ·refine .inr ⟨e,?_⟩
   obtain⟨s,hs⟩:=List.exists_mem_of_ne_nil _ h3;obtain⟨t,-,ht,-⟩:=El.1 hs;exact(KM hp ht).1
  ·omega
end Lx
end Go.Proofs.YtjaalkocdbkdeaaGreatDoor

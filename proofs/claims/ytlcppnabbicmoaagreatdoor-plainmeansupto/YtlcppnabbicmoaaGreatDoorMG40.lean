import Derived.Test.YtlcppnabbicmoaaGreatDoorMG32
import Derived.Test.YtlcppnabbicmoaaGreatDoorMG37
import Derived.Test.YtlcppnabbicmoaaGreatDoorMG39
set_option maxHeartbeats 8000000
set_option maxRecDepth 1000000
namespace Go.Proofs.YtlcppnabbicmoaaGreatDoor
open Lx Go.Proofs.Tryz
open Go.RowKit
open Tr
def C8 (w:World)(v:Value)(r:List Int):Prop:=∃ a c,v=.slice a r.length c/\r.length<=c/\∀ t (h:t<r.length),∃ g o,a=some ⟨g,o,none⟩/\g<w.heap.size/\w.cell? ⟨g,o+t,none⟩=some (.int .i64 r[t])
theorem C8.below {w w':World}{v:Value}{r:List Int}(h:C8 w v r)(hb:Below w.heap.size w w'):C8 w' v r:=by
 obtain⟨a,c,h1,h2,h3⟩:=h;refine⟨a,c,h1,h2,fun t ht=>?_⟩;obtain⟨g,o,e,hl,hc⟩:=h3 t ht;exact⟨g,o,e,Nat.lt_of_lt_of_le hl hb.size,cell_below hb hc⟩
theorem C8.nat {w:World}{v:Value}{r:List Int}(h:C8 w v r)(hr:∀ t (ht:t<r.length),0<=r[t]):rT w v (r.map Int.toNat):=by
 obtain⟨a,c,h1,h2,h3⟩:=h;refine⟨a,c,by rw[List.length_map];exact h1,by rw[List.length_map];exact h2,fun t ht=>?_⟩;rw[List.length_map]at ht;obtain⟨g,o,e,hl,hc⟩:=h3 t ht;refine⟨g,o,e,hl,?_⟩;rw[hc,List.getElem_map,Int.toNat_of_nonneg (hr t ht)]
theorem ajv {s:ByteArray} {w':World} {B:Nat} {aJ:Value} {vL vR:Value} {n a:Nat} (hm:match jR s with
  | .ok (g,_)=>n=0/\a=0/\QB B aJ w' vL vR g
  | .error (m,b)=>n=m/\a=b/\vL=.slice none 0 0/\vR=.slice none 0 0):∃ la ln lc ra rn rc,vL=.slice la ln lc/\vR=.slice ra rn rc:=by
 split at hm
 ·obtain⟨-,-,hgi⟩:=hm
  have hd1:DG (Fp B aJ w') w' vL vR _:=⟨fun b hb=>hb.2.1,hgi.1,hgi.2⟩;obtain⟨la,lc,qD,-⟩:=hd1.qm;obtain⟨ra,rc,pR,-⟩:=hd1.o9;exact⟨_,_,_,_,_,_,qD,pR⟩
 ·obtain⟨-,-,h1,h2⟩:=hm
  exact⟨_,_,_,_,_,_,h1,h2⟩
theorem ajL {s:ByteArray}{g:Lx.Gr}(w:World)(h:dw s=.ok g):∀ r∈g.rules,∀ x∈aX 9 r.alts,wS g x:=by
 have hf:=Hg w h;have hne:=YT (LG h).1;intro r hr x hx;refine⟨?_,((hne r hr).2 x hx).2⟩;rcases (hf.rl r hr).2.1 x hx with h2 | h2 | h2
 ·exact .inl ⟨h2.1,Ah (hf.Fj hr) hx h2.1⟩
 ·exact .inr (.inl h2.1)
 ·exact .inr (.inr h2)
theorem ahO {s:ByteArray}{g:Lx.Gr}(w:World)(h:dw s=.ok g)(row:List Nat)(nm:List ByteArray)(hw:uU g row nm):∀ h0:0<g.rules.length,(dQ (aU g) row (.s (aA g).length) 0 row.length↔Lx.Mn g.rules nm (.A g.rules[0].alts) 0 row.length) :=
 fun h0=>afR (Hg w h) (Ev (Hg w h).dup) hw h0
theorem UZ (s:ByteArray)(vR:Value)(row:List Int)(w:World)(hmax:s.size<=maxLen)(ht:nL w)(hrow:C8 w vR row)(hlen:row.length<=1048576):Calls prog 5 #[.string s,vR] w fun e w'=>e=.returned (.bool true)/\Below w.heap.size w w':=by
 have q1:=P8 s w hmax ht;have HWP:Hid (∀ g,dw s=.ok g->aau (aA g).length (aN g).length (aU g)):=fun g hg=>aiX w hg
 have HIK:Hid (∀ g,dw s=.ok g->∀ r∈g.rules,∀ x∈aX 9 r.alts,wS g x):=fun g hg=>ajL w hg
 have HFT:Hid (∀ g,dw s=.ok g->Lx.Fit g):=fun g hg=>Hg w hg
 obtain⟨ra,rc,qX,-,-⟩:=id hrow;subst qX;go_enter func5,ntmps5;go_wp2_with fail;refine q1.mono ?_;rintro e w1 ⟨v,n,a,rfl,hb1,hok1,CU⟩;clear q1;have hs1:=hb1.size;cases hr:dw s with
 | error x =>
  obtain⟨rfl,rfl,rfl⟩:=CU x hr;have hp:=Zv hr;have HR:Hid (dw s=.error x):=hr;clear hr CU hok1;unfold vJ;obtain⟨W,hW⟩:∃ W,W=w1.alloc (.cells #[.slice none 0 0,.slice none 0 0,.slice none 0 0,.slice none 0 0,.slice none 0 0] 26):=⟨_,rfl⟩;have hbW1:Below w1.heap.size w1 W:=by rw[hW];exact (Below.refl _ _).alloc (lr0) _
  have hbW:Below w.heap.size w W:=hb1.trans (hbW1.mono hs1);have q2:=KH s W;go_wp2_with fail;rw[<-hW];clear hW;refine q2.mono ?_;intro e w2 he;obtain⟨vL,vR',aJ,n2,a2,rfl,BG,hm⟩:=he;have hb2:=Qi BG (by omega);obtain⟨la,ln,lc,Gj,rn,Gl,rfl,rfl⟩:=ajv hm;clear q2 BG hm;obtain⟨W2,hW2⟩:∃ W2,W2=w2.alloc (.cells #[.slice la ln lc,.slice Gj rn Gl] 49):=⟨_,rfl⟩;have IL:Below w2.heap.size w2 W2:=by rw[hW2];exact (Below.refl _ _).alloc (lr0) _
  have hbb:Below W.heap.size W W2:=hb2.trans (IL.mono hb2.size);have hbf:Below w.heap.size w W2:=hbW.trans (hbb.mono hbW.size);have q3:=Wh s W2;go_wp2_with fail;rw[<-hW2];clear hW2;refine q3.mono ?_;rintro e w3 ⟨v,n,a,rfl,hb3,-,aer⟩;obtain⟨rfl,rfl,rfl⟩:=aer x HR.out;clear q3 aer;obtain⟨W3,hW3⟩:∃ W3,W3=w3.alloc (.cells #[.slice none 0 0,.slice none 0 0,.slice none 0 0,.slice none 0 0,.slice none 0 0] 32):=⟨_,rfl⟩;have M6:Below w3.heap.size w3 W3:=by rw[hW3];exact (Below.refl _ _).alloc (lr0) _
  have C9:Below w.heap.size w W3:=hbf.trans ((hb3.trans (M6.mono hb3.size)).mono hbf.size);have q4:=PI W3 (ht.move (C9.block _ ht.lt));have hnb:((x.1:Int) != 0)=true:=bne_iff_ne.2 (by omega);have hnd:¬ (x.1:Int)=0:=by omega
  go_upto_region 4 with fail
  rw[<-hW3];clear hW3 hp
  go_wp2_with (first | (go_at_call 12;refine (QC _ _).mono ?_;rintro e w' ⟨rfl,hw'⟩;obtain rfl:=hw'.symm) | fail)
  go_at_call 13
  refine q4.mono ?_;rintro e w5 ⟨rfl,hb5⟩;go_wp2_with fail;go_ret;exact⟨rfl,C9.trans (hb5.mono C9.size)⟩
 | ok g =>
  obtain⟨rfl,rfl,hP⟩:=hok1 g hr;have wW:=HWP.out g hr;have HR:Hid (dw s=.ok g):=hr;have HK:Hid (∀ r∈g.rules,∀ x∈aX 9 r.alts,wS g x):=HIK.out g hr;have hf:=HFT.out g hr;have HMP:Hid (∀ (row:List Nat) (nm:List ByteArray),uU g row nm->∀ h0:0<g.rules.length,(dQ (aU g) row (.s (aA g).length) 0 row.length↔Lx.Mn g.rules nm (.A g.rules[0].alts) 0 row.length)):=fun row nm hw=>ahO w hr row nm hw
  have HSO:Hid (H6 g):=Qa hf;have HND:Hid ((g.rules.map Lx.Rl.name).Nodup):=Ev hf.dup;have hrl:=hf.rules;have hr0:=hf.ne;obtain⟨vT,vN,vP,vB,vK,rfl,hT,hN,om,hB,hK⟩:=hP;obtain⟨ta,tc,rfl,-⟩:=aI hT;obtain⟨na,nc,rfl,-⟩:=aI hN;obtain⟨ps,p1,p2,-⟩:=id om;obtain⟨pa,pc,rfl,-⟩:=aI p2;obtain⟨ba,bc,hvB,-⟩:=aI hB;obtain⟨ka,kc,FW,-⟩:=aI hK;rw[List.length_map]at hvB FW;subst hvB FW;clear hr CU hok1 hB hK p1 p2 HWP HIK HFT hf;have rW:Hid (Lx.parse s=.ok g):=(LG HR.out).1;obtain⟨T,Ej⟩:∃ T,T=aA g:=⟨_,rfl⟩;obtain⟨NN,J5⟩:∃ NN,NN=aN g:=⟨_,rfl⟩;obtain⟨P,Gm⟩:∃ P,P=aU g:=⟨_,rfl⟩;have HTG:Hid (T=aA g):=Ej;have Sd:Hid (yV (T.length+NN.length) P/\T.length+NN.length<=100000/\∀ p∈P,p.right.length<=100000):=by rw[Ej,J5,Gm];exact HSO.out
  have amD:Hid (∀ (row:List Nat) (nm:List ByteArray),uU g row nm->∀ h0:0<g.rules.length,(dQ P row (.s T.length) 0 row.length↔Lx.Mn g.rules nm (.A g.rules[0].alts) 0 row.length)):=by rw[Ej,Gm];exact HMP.out
  rw[<-Gm,<-Ej,<-J5]at wW;rw[<-Ej]at hT;rw[<-J5]at hN;rw[<-Gm]at om;rw[<-Ej,<-J5,<-Gm];clear Ej J5 Gm HSO HMP;obtain⟨W,hW⟩:∃ W,W=w1.alloc (.cells #[.slice ta T.length tc,.slice na NN.length nc,.slice pa P.length pc,.slice ba T.length bc,.slice ka T.length kc] 26):=⟨_,rfl⟩;have kW:aj W w1.heap.size #[.slice ta T.length tc,.slice na NN.length nc,.slice pa P.length pc,.slice ba T.length bc,.slice ka T.length kc] 26:=by rw[hW];exact RV _ _ _ _ _ _
  have hbW1:Below w1.heap.size w1 W:=by rw[hW];exact (Below.refl _ _).alloc (lr0) _
  have hbW:Below w.heap.size w W:=hb1.trans (hbW1.mono hs1);have lW:=kW.lt;have pG:Hid (PP (fun _=>True) W (.slice pa P.length pc) P):=om.below hbW1;have HT:Hid (W.ownsRow 0 9 1 (.slice ta T.length tc) T.length (T.map Value.string)):=aD hT fun g hg=>hbW1.block g (hT.lt g hg).2
  have HN:Hid (W.ownsRow 0 9 1 (.slice na NN.length nc) NN.length (NN.map Value.string)):=aD hN fun g hg=>hbW1.block g (hN.lt g hg).2
  have q2:=KH s W;clear om hT hN;go_wp2_with fail;rw[<-hW];clear hW;refine q2.mono ?_;intro e w2 he;obtain⟨vL,vR',aJ,n2,a2,rfl,BG,hm⟩:=he;have hb2:=Qi BG (by omega);have hgd:∃ F,DG F w2 vL vR' g:=by
   cases hrr:jR s with
   | error x =>
    have h1:=PG hrr;rw[rW.out]at h1;cases h1
   | ok x =>
    obtain⟨g',ts⟩:=x;rw[hrr]at hm;obtain⟨-,-,hgi⟩:=hm;have h1:=Qh hrr;rw[rW.out]at h1;cases h1;exact⟨Fp W.heap.size aJ w2,fun b hb=>hb.2.1,hgi.1,hgi.2⟩
  obtain⟨F,hd⟩:=hgd;obtain⟨la,lc,qD,-⟩:=hd.qm;obtain⟨Gj,Gl,pR,-⟩:=hd.o9;subst qD pR;clear q2 BG hm;obtain⟨W2,hW2⟩:∃ W2,W2=w2.alloc (.cells #[.slice la g.levels.length lc,.slice Gj g.rules.length Gl] 49):=⟨_,rfl⟩;have IL:Below w2.heap.size w2 W2:=by rw[hW2];exact (Below.refl _ _).alloc (lr0) _
  have nI:aj W2 w2.heap.size #[.slice la g.levels.length lc,.slice Gj g.rules.length Gl] 49:=by rw[hW2];exact aj.new w2 _ 49
  have lG2:=nI.lt;have HD2:Hid (DG F W2 (.slice la g.levels.length lc) (.slice Gj g.rules.length Gl) g):=hd.below IL;have hbb:Below W.heap.size W W2:=hb2.trans (IL.mono hb2.size);have hbf:Below w.heap.size w W2:=hbW.trans (hbb.mono hbW.size);have q3:=Wh s W2;clear hd;go_wp2_with fail;rw[<-hW2];clear hW2;refine q3.mono ?_;rintro e w3 ⟨v,n,a,rfl,hb3,hok2,-⟩;obtain⟨rfl,rfl,hP2⟩:=hok2 g HR.out;obtain⟨uT,uN,uP,uB,uK,rfl,hT,hN,⟨ps,p1,p2,-⟩,hB,hK⟩:=hP2;obtain⟨ta',tc',rfl,-⟩:=aI hT;obtain⟨na',nc',rfl,-⟩:=aI hN;obtain⟨pa',pc',rfl,-⟩:=aI p2;obtain⟨ba',bc',rfl,-⟩:=aI hB;obtain⟨ka',kc',rfl,-⟩:=aI hK;clear q3 hok2 hT hN hB hK p1 p2;generalize (aA g).length=m1;generalize (aN g).length=m2;generalize (aU g).length=m3;generalize ((aA g).map fun t=>(dP g t).1).length=m4;generalize ((aA g).map fun t=>(dP g t).2).length=m5;obtain⟨W3,hW3⟩:∃ W3,W3=w3.alloc (.cells #[.slice ta' m1 tc',.slice na' m2 nc',.slice pa' m3 pc',.slice ba' m4 bc',.slice ka' m5 kc'] 32):=⟨_,rfl⟩;have M6:Below w3.heap.size w3 W3:=by rw[hW3];exact (Below.refl _ _).alloc (lr0) _
  have yZ:Below W2.heap.size W2 W3:=hb3.trans (M6.mono hb3.size);have IQ:Below W.heap.size W W3:=hbb.trans (yZ.mono hbb.size);have C9:Below w.heap.size w W3:=hbf.trans (yZ.mono hbf.size);have kA:aj W3 w1.heap.size _ 26:=(IQ.block _ lW).trans kW;have a0:W3.cell? ⟨w1.heap.size,0,none⟩=some (.slice ta T.length tc):=kA.cell 0;have a1:W3.cell? ⟨w1.heap.size,1,none⟩=some (.slice na NN.length nc):=kA.cell 1;have a2:W3.cell? ⟨w1.heap.size,2,none⟩=some (.slice pa P.length pc):=kA.cell 2;have a3:W3.cell? ⟨w1.heap.size,3,none⟩=some (.slice ba T.length bc):=kA.cell 3;have a4:W3.cell? ⟨w1.heap.size,4,none⟩=some (.slice ka T.length kc):=kA.cell 4;have q4:=agH (ta:=ta) (tc:=tc) (na:=na) (nc:=nc) (ba:=ba) (bc:=bc) (ka:=ka) (kc:=kc) (pG.out.below IQ) wW.well wW.t0 wW.n1 wW.p1 wW.bd;have amE:=hW3.symm;clear hW3 M6 hb3
  go_wp2_with (first | (go_at_call 12;refine (QC _ _).mono ?_;rintro e w' ⟨rfl,hw'⟩;obtain rfl:=hw'.symm) | fail)
  go_at_call 18
  refine q4.mono ?_;rintro e w4 ⟨rfl,hb4⟩;clear q4 a0 a1 a2 a3 a4 amE;have M7:Below W.heap.size W w4:=IQ.trans (hb4.mono IQ.size);have Sg:Below W2.heap.size W2 w4:=yZ.trans (hb4.mono yZ.size);have vY:Below w.heap.size w w4:=C9.trans (hb4.mono C9.size);have Jf:aj w4 w1.heap.size _ 26:=(hb4.block _ kA.lt).trans kA;have lA4:w1.heap.size<w4.heap.size:=Jf.lt;have xW:aj w4 w2.heap.size _ 49:=(Sg.block _ lG2).trans nI;have lG4:w2.heap.size<w4.heap.size:=xW.lt;have hT0:=wW.t0;have hn1:=wW.n1;have hpl:=wW.pl;have hsb:=wW.bd;clear kA hb4 IQ yZ C9 hbb IL hb2 kW nI wW;obtain⟨i9,hi9,hz90,hz91,hz92⟩:=info_parts Tryz.yL;go_wp2_with fail
  go_loopg [15,16] row.length (fun k v i wr=>∃ (q:Nat) (nm:List ByteArray),q+k=row.length/\i=.int .i64 (q:Int)/\wr.ownsRow w4.heap.size 9 1 v nm.length (nm.map Value.string)/\Hid (nm.length=q)/\Below w4.heap.size w4 wr/\Hid (∀ t (ht:t<row.length),t<q->1<=row[t]/\row[t]<(T.length:Int)/\nm[t]?=T[row[t].toNat]?))
  case atStart=>exact⟨0,[],by omega,rfl,World.ownsRow_nil _ _ _ _,rfl,Below.refl _ _,fun t ht h=>by omega⟩
  case round =>
   revert wr;intro wz hrel;obtain⟨q,nm,hkq,rfl,hown,wX,hbz,bH⟩:=hrel;obtain⟨oa,oc,rfl,-⟩:=aI hown;have mF:Below w.heap.size w wz:=vY.trans (hbz.mono vY.size);have dY:aj wz w1.heap.size _ 26:=(hbz.block _ lA4).trans Jf;have a0:wz.cell? ⟨w1.heap.size,0,none⟩=some (.slice ta T.length tc):=dY.cell 0;have hsz:=hbz.size
   by_cases hlt:q<row.length
   ·obtain⟨a9,c9,Uf,-,hcell⟩:=hrow.below mF
    cases Uf;obtain⟨gr,o,hra,lgr,cr⟩:=hcell q hlt;subst hra;have i1:(0:Int)<=(q:Int):=by omega
    have i2:(q:Int)<(row.length:Int):=by omega
    have q5:∀ nq,Calls prog 13 #[] (wz.drewN nq) fun e w'=>e=.returned (.bool true)/\Below wz.heap.size wz w':=fun nq=>(PI (wz.drewN nq) (ht.move (mF.block _ ht.lt))).mono fun e w' ⟨h1,h2⟩=>⟨h1,(show Below wz.heap.size wz (wz.drewN nq) from ⟨rfl,rfl,rfl,lr0,fun _ _=>rfl⟩).trans h2⟩
    have HQ:Hid (∀ t (ht:t<row.length),t<q->1<=row[t]/\row[t]<(T.length:Int)/\nm[t]?=T[row[t].toNat]?):=bH;obtain⟨rq,hrq⟩:∃ rq,row[q]=rq:=⟨_,rfl⟩;have Ot:Hid (row[q]=rq):=hrq;rw[hrq]at cr;clear hrq hcell bH dY
    by_cases h1:rq<1
    ·have j1:(rq<1)=True:=eq_true h1
     clear HQ Ot wX;go_wp2_with fail
     go_quiet (fail)
     go_wp2_with fail;refine (q5 _).mono ?_;rintro e w6 ⟨rfl,hb6⟩;go_wp2_with fail;go_ret;exact⟨rfl,mF.trans (hb6.mono mF.size)⟩
    ·have j1:(rq<1)=False:=eq_false h1
     by_cases h2:(T.length:Int)<=rq
     ·have j2:((T.length:Int)<=rq)=True:=eq_true h2
      clear HQ Ot wX h1;go_wp2_with fail
      go_quiet (fail)
      go_wp2_with fail;refine (q5 _).mono ?_;rintro e w6 ⟨rfl,hb6⟩;go_wp2_with fail;go_ret;exact⟨rfl,mF.trans (hb6.mono mF.size)⟩
     ·have j2:((T.length:Int)<=rq)=False:=eq_false h2
      obtain⟨rn,hrn⟩:∃ rn:Nat,rq=(rn:Int):=⟨rq.toNat,by omega⟩;subst hrn;have UM:rn<T.length:=by omega
      obtain⟨gT,Ic,tF,-,lgT⟩:=HT.out.form hT0;cases tF;have hT':wz.ownsRow 0 9 1 (.slice (some ⟨gT,0,none⟩) T.length tc) T.length (T.map Value.string):=aD HT.out fun g hg=>((M7.trans (hbz.mono M7.size)).block g (HT.out.lt g hg).2)
      have cT:=hT'.cellAt rn (by simpa using UM);rw[List.getElem?_map,List.getElem?_eq_getElem UM]at cT;simp only[Option.map_some]at cT;have tK:Hid (∀ t (ht:t<row.length),t<q+1->1<=row[t]/\row[t]<(T.length:Int)/\(nm++[T[rn]])[t]?=T[row[t].toNat]?):=fun t ht htq=>by
       by_cases e:t=q
       ·subst e
        rw[Ot.out];refine⟨by omega,by omega,?_⟩;rw[List.getElem?_append_right (by have:=wX.out;omega),wX.out,Nat.sub_self];simp[UM]
       ·obtain⟨k1,k2,k3⟩:=HQ.out t ht (by omega)
        refine⟨k1,k2,?_⟩;rw[List.getElem?_append_left (by have:=wX.out;omega)];exact k3
      have aes:Hid ((nm++[T[rn]]).length=q+1):=by show _=_;rw[List.length_append,List.length_singleton,wX.out]
      generalize T[rn]=tk at cT tK aes;have hnl:nm.length<=1048576:=by have:=wX.out;omega
      clear HQ Ot wX hT' q5 h1 h2;have i3:(0:Int)<=(rn:Int):=by omega
      have i4:(rn:Int)<(T.length:Int):=by omega
      go_wp2_with fail
      go_quiet (fail)
      obtain⟨wq,hwq⟩:∃ wq,wq=wz.drewN nq:=⟨_,rfl⟩;have hbq:Below wz.heap.size wz wq:=by rw[hwq];exact⟨rfl,rfl,rfl,lr0,fun _ _=>rfl⟩
      rw[<-hwq];clear hwq;have b0:wq.cell? ⟨w1.heap.size,0,none⟩=some (.slice (some ⟨gT,0,none⟩) T.length tc):=cell_below hbq a0;have br:wq.cell? ⟨gr,o+q,none⟩=some (.int .i64 (rn:Int)):=cell_below hbq cr;have bT:wq.cell? ⟨gT,rn,none⟩=some (.string tk):=cell_below hbq (by simpa using cT);have aav:wq.ownsRow w4.heap.size 9 1 (.slice oa nm.length oc) nm.length (nm.map Value.string):=aD hown fun g hg=>hbq.block g (hown.lt g hg).2
      have oD:=aD (w':=(wq.alloc (.cells #[.string tk] 9)).drew) (aav.alloc (.cells #[.string tk] 9)) fun _ _=>rfl
      have zO:=hbq.size;clear a0 cr cT j1 j2;go_wp2_with fail
      go_region_law (go_loud (refine step_append_lies _ rfl (.tmp 77) (.tmp 86) 22 rfl w4.heap.size 9 i9 _ 1 16 underlying22 hi9 hz90 hz91 hz92 rfl (by decide) (.slice oa nm.length oc) nm.length (nm.map Value.string) (by simp[Act.eval]) oD ⟨wq.heap.size,0,none⟩ 1 1 [.string tk] (by simp[Act.eval]) rfl (bP (aj.new wq _ 9).drew) (by simp[Value.oneCell']) (by decide) (by unfold maxLen;omega) (by omega) (by simp;omega) _ rfl ?_);intro g2 cap2 w7 vI vE Sb aaC)
      all_goals
       have qB:Below w4.heap.size w4 w7:=(((hbz.trans (hbq.mono hsz)).alloc (by omega) (.cells #[.string tk] 9)).drew).grown vE (by simp;omega) (fun k hk=>(aav.lt k hk).1);have akb:w7.ownsRow w4.heap.size 9 1 (.slice (some ⟨g2,0,none⟩) (nm.length+1) cap2) (nm++[tk]).length ((nm++[tk]).map Value.string):=by
        rw[List.map_append,List.length_append];exact vI
       go_wp2_with fail;go_roundg (row.length - (q+1))
       case measure=>omega
       case rel=>exact⟨q+1,nm++[tk],by omega,by go_num,akb,aes,qB,tK⟩
   ·obtain rfl:q=row.length:=by omega
    obtain⟨rN,Gn⟩:∃ rN,rN=row.map Int.toNat:=⟨_,rfl⟩;have UN:rN.length=row.length:=by rw[Gn,List.length_map]
    have aeu:rT wz (.slice ra row.length rc) rN:=by
     rw[Gn];exact (hrow.below mF).nat fun t ht=>by have:=(bH.out t ht ht).1;omega
    have hWd:uU g rN nm:=by
     refine⟨fun x hx=>?_,fun t=>?_⟩
     ·rw[Gn]at hx
      obtain⟨y,hy,rfl⟩:=List.mem_map.1 hx;obtain⟨t,ht,rfl⟩:=List.getElem_of_mem hy;have:=bH.out t ht ht;rw[<-HTG.out];omega
     ·rw[<-HTG.out,Gn,List.getElem?_map]
      by_cases ht:t<row.length
      ·rw[(bH.out t ht ht).2.2,List.getElem?_eq_getElem ht]
       rfl
      ·rw[List.getElem?_eq_none (by have:=wX.out;omega),List.getElem?_eq_none (by omega)]
       rfl
    have hrt:∀ x∈rN,0<x/\x<T.length:=fun x hx=>by
     rw[Gn]at hx;obtain⟨y,hy,rfl⟩:=List.mem_map.1 hx;obtain⟨t,ht,rfl⟩:=List.getElem_of_mem hy;have:=bH.out t ht ht;omega
    have hMn:=amD.out rN nm hWd hr0;have hnm:nm.length=rN.length:=by rw[UN];exact wX.out
    obtain⟨bb,hbb⟩:∃ bb:Bool,bb=true↔dQ P rN (.s T.length) 0 rN.length:=by
     classical
     exact⟨decide _,decide_eq_true_iff⟩
    have HB1:Hid (bb=true↔dQ P rN (.s T.length) 0 rN.length):=hbb;have HB2:Hid (bb=true↔Lx.Mn g.rules nm (.A g.rules[0].alts) 0 nm.length):=by
     have:=hbb.trans hMn;rw[hnm];exact this
    have a1:wz.cell? ⟨w1.heap.size,1,none⟩=some (.slice na NN.length nc):=dY.cell 1;have a2:wz.cell? ⟨w1.heap.size,2,none⟩=some (.slice pa P.length pc):=dY.cell 2;have a3:wz.cell? ⟨w1.heap.size,3,none⟩=some (.slice ba T.length bc):=dY.cell 3;have a4:wz.cell? ⟨w1.heap.size,4,none⟩=some (.slice ka T.length kc):=dY.cell 4;have Si:Below W.heap.size W wz:=M7.trans (hbz.mono M7.size);have q6:=aiW (w:=wz) (vB:=.slice ba T.length bc) (vK:=.slice ka T.length kc) (aD HT.out fun g hg=>Si.block g (HT.out.lt g hg).2) (aD HN.out fun g hg=>Si.block g (HN.out.lt g hg).2) (pG.out.below Si) hT0 (by omega) (by omega) (by omega) (by omega) Sd.out.2.2;have UO:Hid (rT wz (.slice ra row.length rc) rN/\rN.length=row.length/\∀ x∈rN,0<x/\x<T.length):=⟨aeu,UN,hrt⟩;clear aeu UN hrt hMn hnm hbb hWd Gn bH;go_wp2_with fail;refine q6.mono ?_;rintro e w6 ⟨ta6,tc6,F9,Ga,uP,rfl,UQ,hb6⟩;obtain⟨pa6,pc6,amF,-⟩:∃ a c,uP=.slice a P.length c/\P.length<=maxLen:=by obtain⟨ps,h1,h2,-⟩:=UQ;exact aI h2
    subst amF;have q7:=ahH (w:=w6) (ta:=ta6) (tc:=tc6) (na:=F9) (nc:=Ga) (ba:=none) (nb:=0) (bc:=0) (ka:=none) (nk:=0) (kc:=0) ⟨UQ,Sd.out.1,Sd.out.2.1,by omega⟩ (UO.out.1.below hb6) UO.out.2.2 (by rw[UO.out.2.1];exact hlen) (by omega) bb HB1.out;clear q6 a0 a1 a2 a3 a4 dY UQ;have aev:Below w4.heap.size w4 w6:=hbz.trans (hb6.mono hsz);have hown6:w6.ownsRow w4.heap.size 9 1 (.slice oa nm.length oc) nm.length (nm.map Value.string):=aD hown fun g hg=>hb6.block g (hown.lt g hg).2
    go_wp2_with fail;refine q7.mono ?_;rintro e w7 ⟨rfl,qB⟩;clear q7;have Sj:Below w4.heap.size w4 w7:=aev.trans (qB.mono aev.size);have vI:w7.ownsRow w4.heap.size 9 1 (.slice oa nm.length oc) nm.length (nm.map Value.string):=aD hown6 fun g hg=>qB.block g (hown6.lt g hg).2
    have Ob:aj w7 w2.heap.size _ 49:=(Sj.block _ lG4).trans xW;have g0:w7.cell? ⟨w2.heap.size,0,none⟩=some (.slice la g.levels.length lc):=Ob.cell 0;have g1:w7.cell? ⟨w2.heap.size,1,none⟩=some (.slice Gj g.rules.length Gl):=Ob.cell 1;have q8:=ahI (HD2.out.below (Sg.trans (Sj.mono Sg.size))) (dO vI (Nat.zero_le _)) HND.out hr0 hrl HK.out (by have:=wX.out;omega) bb HB2.out;have aew:Below w.heap.size w w7:=vY.trans (Sj.mono vY.size);go_wp2_with fail;refine q8.mono ?_;rintro e w8 ⟨rfl,UL⟩;clear q8 g0 g1;have Sk:Below w.heap.size w w8:=aew.trans (UL.mono aew.size);have q9:=PI w8 (ht.move (Sk.block _ ht.lt));cases bb
    all_goals
     go_wp2_with fail;refine q9.mono ?_;rintro e w9 ⟨rfl,hb9⟩;go_wp2_with fail;go_ret;exact⟨rfl,Sk.trans (hb9.mono Sk.size)⟩
end Go.Proofs.YtlcppnabbicmoaaGreatDoor

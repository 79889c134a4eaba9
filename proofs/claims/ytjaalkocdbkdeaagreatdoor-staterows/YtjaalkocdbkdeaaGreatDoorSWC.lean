import Derived.Test.YtjaalkocdbkdeaaGreatDoorSWB
set_option maxHeartbeats 8000000
set_option maxRecDepth 1000000
namespace Go.Proofs.YtjaalkocdbkdeaaGreatDoor
open Lx Go.Proofs.Tryz
section
open Go Go.RowKit
namespace Lx
theorem rules_left{g:Gr}(hf:Fit g):∀p∈iB (aD g) (bg g) ((aD g).length+1) g.rules,(aD g).length<p.left:=by
 intro p hp;obtain⟨j,hj,hp⟩:=(UR _ _).1 hp;have hb:=Yt hf hj;rcases afB.1 hp with ⟨a,ha,rfl⟩|⟨k,hk,hp⟩
 ·show _<qA _ _ _
  omega
 ·rcases afA.1 hp with ⟨-,rfl⟩ | ⟨-,r,hr,rfl⟩ | ⟨-,r,hr,rfl⟩
  all_goals
   show _<qA _ _ _+1+k;omega
theorem first_left{g:Gr}(hf:Fit g)(k:Nat):(bI g)[k]?.map Pd.left=some (aD g).length↔k=0:=by
 cases k with
 |zero=>exact⟨fun _=>rfl,fun _=>rfl⟩
 |succ k=>
  refine⟨fun h=>?_,fun h=>by cases h⟩;unfold bI at h;rw[List.getElem?_cons_succ]at h;obtain⟨p,hp,e⟩:=Option.map_eq_some_iff.1 h;have:=rules_left hf p (List.mem_of_getElem? hp);omega
theorem lefts_ge{g:Gr}(hf:Fit g)(k A:Nat)(h:(bI g)[k]?.map Pd.left=some A):(aD g).length<=A:=by
 obtain⟨p,hp,rfl⟩:=Option.map_eq_some_iff.1 h;exact(OZ hf p (List.mem_of_getElem? hp)).1.1
structure RowF(P:List Pd)(S:bK)(row:List Int)(nT:Nat):Prop where
 first:Fol P S row 0 0
 step:∀(p:Nat)(a x:Int),Fol P S row p a->0<=a->row[p]?=some x->Fol P S row (p+1) (stepE S.es a x)
 last:∀(p:Nat)(a:Int),Fol P S row p a->(p=row.length\/(p<=row.length/\a<0))->(Via P row nT nT 0↔0<=a)
theorem rowF{g:Gr}(hf:Fit g)(hl:(bI g).length<=200){S:bK}(h:jV (bI g) (DR g)=some S)(row:List Int):RowF (bI g) S row (aD g).length:=by
 obtain⟨m,hm,hI,-⟩:=states_inv (Y0 hf hl) h;refine⟨Fol.first hI row,fun p a x h1 h2 h3=>Fol.step hm hI h1 h2 h3,fun p a h1 h2=>?_⟩;rw[via_kerR (lefts_ge hf) (first_left hf)];rcases h1.or with ⟨j,rfl,-,hne⟩|⟨rfl,he⟩
 ·have hp:p=row.length:=by omega
  subst hp;exact⟨fun _=>by omega,fun _=>hne⟩
 ·have:kerR (bI g) row row.length=[]:=kerR_end he _ (by omega)
  exact⟨fun h=>absurd this h,fun h=>by omega⟩
end Lx
end
section
open Go.RowKit
open Tr
theorem StateRows_any(s:ByteArray)(vR:Value)(row:List Int)(w:World)(hmax:s.size<=maxLen)(ht:jd w)(hrow:RowZ w vR row)(hlen:row.length<=1048576):Calls Tryz.prog 5 #[.string s,vR] w fun e w'=>e=.returned (.bool true)/\Below w.heap.size w w':=by
 obtain⟨ra,rc,Rx⟩:∃a c,vR=.slice a row.length c:=by obtain⟨a,c,h,-⟩:=hrow;exact⟨a,c,h⟩
 subst Rx;have HT:Hid (∀w',Below w.heap.size w w'->jd w'):=fun w' hb=>ht.below3 hb
 have HQ:Hid (∀w',Calls Tryz.prog 8 #[.string s] w' (yN s w')):=fun w'=>ad2 s w'
 have q1:=NR s w hmax ht;clear hmax ht;cases hr:Lx.kY s with
 |error x=>
  obtain⟨-,hN⟩:=Lx.YD hr;have hx0:=Lx.stR_pos hr;have HN:Hid (Lx.uS s=x):=hN;have i1:((x.1:Int) == 0)=false:=beq_eq_false_iff_ne.2 (by omega);have i2:((x.1:Int) != 0)=true:=by simp;omega
  have i3:¬(x.1:Int)=0:=by omega
  have i4:¬x.1=0:=hx0;clear hr hN hx0;go_enter Tryz.func5,Tryz.ntmps5;go_upto_region 2 with (go_at_call 7;refine q1.mono ?_;rintro e w1⟨vl,ve,he,hb1,-,-⟩;rw[HN.out]at he;subst he)
  have q3:=HQ.out w1;have hs1:=hb1.size;go_upto_region 3 with (go_at_call 8;refine q3.mono ?_;rintro e w3⟨ml,me,he,hb3,-,-⟩;rw[HN.out]at he;subst he)
  have qJ:Below w.heap.size w w3:=hb1.trans (hb3.mono hs1);have q4:=agU w3 (HT.out w3 qJ);have hs3:=qJ.size;clear q1 q3
  go_wp2_with (first|(go_at_call 11;refine(Pq _ _).mono ?_;rintro e w'⟨rfl,hw⟩;obtain rfl:=hw.symm)|(go_at_call 12;refine q4.mono ?_;rintro e w4⟨rfl,hb4⟩))
  go_ret;exact⟨rfl,qJ.trans (hb4.mono hs3)⟩
 |ok S=>
  obtain⟨hSe,hN⟩:=Lx.PG hr;obtain⟨g,hm,hst⟩:=Lx.stR_inv hr;have hfit:=YB w hm;have hps:=Y0 hfit (Lx.Pp hm).2.2;have hF:=Lx.rowF hfit (Lx.Pp hm).2.2 hst row;have hnp:0<(Lx.bg g).length:=by simp[Lx.bg]
  have HN:Hid (Lx.uS s=(0,0)):=hN;have HS:Hid (Lx.xZ s=S):=hSe;have HG:Hid (Lx.eZ s=.ok g):=hm;clear hr hN hSe hst hm hfit;go_enter Tryz.func5,Tryz.ntmps5;go_upto_region 2 with (go_at_call 7;refine q1.mono ?_;rintro e w1⟨vl,ve,he,hb1,hP1,-⟩;rw[HN.out]at he;subst he;rw[HS.out]at hP1)
  have q3:=HQ.out w1;have hs1:=hb1.size;go_upto_region 3 with (go_at_call 8;refine q3.mono ?_;rintro e w3⟨ml,me,he,hb3,-,-⟩;rw[HN.out]at he;subst he)
  have qJ:Below w.heap.size w w3:=hb1.trans (hb3.mono hs1);have SB:aJ 38 3 nP w.heap.size w3 ve S.es:=(hP1.below hb3).2;have hs3:=qJ.size;clear q1 q3 hP1;obtain⟨ea,ec,rfl,hem⟩:∃a c,ve=Value.slice a S.es.length c/\S.es.length<=maxLen:=aF SB;unfold maxLen at hem;go_upto_region 5 with (go_at_call 11;refine(Pq _ _).mono ?_;rintro e w'⟨rfl,hw⟩;obtain rfl:=hw.symm)
  go_upto_region 6 with (go_at_call 15;refine(UW s w3).mono ?_;rintro e w5⟨v,n,a,rfl,hb5,hok,-⟩;obtain⟨rfl,rfl,vT,vN,vP,vB,vK,rfl,h1,h2,h3,h4,h5⟩:=hok g HG.out;clear hok;obtain⟨ta,tc,rfl,-⟩:=aF h1;obtain⟨na,nc,rfl,-⟩:=aF h2;obtain⟨ba,bc,rfl,-⟩:=aF h4;obtain⟨ka,kc,rfl,-⟩:=aF h5;obtain⟨pa,pc,rfl,-⟩:∃a c,vP=.slice a (Lx.bI g).length c/\(Lx.bI g).length<=maxLen:=by (obtain⟨ps,h1,h2,-⟩:=h3;exact aF h2))
  have hs5:=hb5.size;obtain⟨W6,hW6⟩:∃V,V=w5.alloc (.cells #[.slice ta (Lx.aD g).length tc,.slice na (Lx.bg g).length nc,.slice pa (Lx.bI g).length pc,.slice ba (Lx.aD g).length bc,.slice ka (Lx.aD g).length kc] 54):=⟨_,rfl⟩;have hb6:Below w5.heap.size w5 W6:=by rw[hW6];exact(Below.refl _ _).alloc (Nat.le_refl _) _
  have kA:aj W6 w5.heap.size #[.slice ta (Lx.aD g).length tc,.slice na (Lx.bg g).length nc,.slice pa (Lx.bI g).length pc,.slice ba (Lx.aD g).length bc,.slice ka (Lx.aD g).length kc] 54:=by rw[hW6];exact aj.new w5 _ 54
  rw[<-hW6];clear hW6 h1 h2 h4 h5;have hb36:Below w3.heap.size w3 W6:=hb5.trans (hb6.mono hs5);have LU:Below w.heap.size w W6:=qJ.trans (hb36.mono hs3);have Tx:PR (fun _=>True) W6 (.slice pa (Lx.bI g).length pc) (Lx.bI g):=h3.yA hb6;have hE6:aJ 38 3 nP w.heap.size W6 (.slice ea S.es.length ec) S.es:=SB.below hb36;have hR6:RowZ W6 (.slice ra row.length rc) row:=hrow.below LU;clear h3 SB hb5 hb6 hb36 hrow;have HF:Hid (Lx.RowF (Lx.bI g) S row (Lx.aD g).length):=hF;have HPs:Hid (Lx.mR (Lx.bI g) ((Lx.aD g).length+(Lx.bg g).length) (Lx.aD g).length):=hps;clear hF hps HN HS HG HQ;generalize w5.heap.size=pb at kA|-;generalize (Lx.aD g).length=nT at *;generalize (Lx.bg g).length=nN at *;generalize Lx.bI g=P at *;have hs6:=LU.size;have HF0:Hid (Lx.Fol P S row 0 0):=HF.out.first;go_wp2_with fail
  go_loopg [16,17] row.length (fun m av iv wr=>∃(p:Nat)(a:Int),p+m=row.length/\iv=.int .i64 (p:Int)/\av=.int .i64 a/\Below W6.heap.size W6 wr/\Hid (Lx.Fol P S row p a))
  case atStart=>exact⟨0,0,by omega,rfl,rfl,Below.refl _ _,HF0⟩
  case round=>
   clear HF0;revert wr;intro wz hrel;obtain⟨p,a,hkp,rfl,rfl,hbz,HFp⟩:=hrel;have hsz:=hbz.size;have hbwz:Below w.heap.size w wz:=LU.trans (hbz.mono hs6)
   by_cases hgo:p<row.length/\0<=a
   ·obtain⟨hp,ha⟩:=hgo
    obtain⟨a9,c9,hv9,-,hcell⟩:=hR6.below hbz;cases hv9;obtain⟨gR,oR,hra,-,cR⟩:=hcell p hp;subst hra;have HFn:Hid (Lx.Fol P S row (p+1) (Lx.stepE S.es a row[p])):=HF.out.step p a row[p] HFp.out ha (List.getElem?_eq_getElem hp);clear hcell HFp;generalize row[p]=x at cR HFn;have i1:(0:Int)<=(p:Int):=by omega
    have i2:(p:Int)<(row.length:Int):=by omega
    go_wp2_with fail
    go_loopg [18,19] S.es.length (fun m tv kv wr=>∃(k:Nat),k+m=S.es.length/\kv=.int .i64 (k:Int)/\tv=.int .i64 (Lx.stepT S.es a x k)/\Below wz.heap.size wz wr)
    case atStart=>exact⟨0,by omega,rfl,by rw[Lx.stepT_zero],Below.refl _ _⟩
    case round=>
     revert wr;intro wk hrel;obtain⟨k,hkk,rfl,rfl,hbk⟩:=hrel;have cRk:=jS hbk cR
     by_cases hlt:k<S.es.length
     ·obtain⟨ge,ecap,hv,-,-,hcs⟩:=aJ.at Ht (aJ.below (aJ.below hE6 hbz) hbk) hlt
      cases hv;have c0:=hcs 0 _ (by decide) rfl;have c1:=hcs 1 _ (by decide) rfl;have c2:=hcs 2 _ (by decide) rfl;have hst:=Lx.stepT_succ (a:=a) (x:=x) hlt;have HSt:Hid (Lx.stepT S.es a x (k+1)=if (S.es[k].1:Int)=a/\(S.es[k].2.1:Int)=x then (S.es[k].2.2:Int) else Lx.stepT S.es a x k):=hst;clear hcs hst;generalize Lx.stepT S.es a x k=t0 at HSt|-;generalize S.es[k]=ed at c0 c1 c2 HSt;obtain⟨fr,sy,to'⟩:=ed;simp only[Nat.add_zero]at c0 c1 c2;have j1:(0:Int)<=(k:Int):=by omega
      have j2:(k:Int)<(S.es.length:Int):=by omega
      have HZ:Hid (∀nq,Below wz.heap.size wz (wk.drewN nq)):=fun nq=>hbk.trans ⟨rfl,rfl,rfl,Nat.le_refl _,fun _ _=>rfl⟩
      by_cases e1:(fr:Int)=a
      ·by_cases e2:(sy:Int)=x
       ·have HT2:Hid (Lx.stepT S.es a x (k+1)=(to':Int)):=by unfold Hid;rw[HSt.out,if_pos ⟨e1,e2⟩]
        subst e1;subst e2;clear HSt;go_upto_region 14 with fail
        go_quiet (fail)
        go_wp2_with fail;go_roundg (S.es.length - (k+1))
        case measure=>omega
        case rel=>exact⟨k+1,by omega,by go_num,by rw[HT2.out],HZ.out _⟩
       ·have HT2:Hid (Lx.stepT S.es a x (k+1)=t0):=by unfold Hid;rw[HSt.out,if_neg (fun h=>e2 h.2)]
        subst e1;have r1:((sy:Int) == x)=false:=beq_eq_false_iff_ne.2 e2;clear HSt;go_upto_region 14 with fail
        go_quiet (fail)
        go_wp2_with fail;go_roundg (S.es.length - (k+1))
        case measure=>omega
        case rel=>exact⟨k+1,by omega,by go_num,by rw[HT2.out],HZ.out _⟩
      ·have HT2:Hid (Lx.stepT S.es a x (k+1)=t0):=by unfold Hid;rw[HSt.out,if_neg (fun h=>e1 h.1)]
       have r1:((fr:Int) == a)=false:=beq_eq_false_iff_ne.2 e1;clear HSt;go_upto_region 14 with fail
       go_quiet (fail)
       go_wp2_with fail;go_roundg (S.es.length - (k+1))
       case measure=>omega
       case rel=>exact⟨k+1,by omega,by go_num,by rw[HT2.out],HZ.out _⟩
     ·obtain rfl:k=S.es.length:=by omega
      rw[Lx.stepT_all];have m1:¬(S.es.length:Int)<(S.es.length:Int):=by omega
      go_wp2_with fail;go_roundg (row.length - (p+1))
      case measure=>omega
      case rel=>exact⟨p+1,_,by omega,by go_num,rfl,hbz.trans (hbk.mono hsz),HFn⟩
   ·have HL:Hid (Lx.Via P row nT nT 0↔0<=a):=HF.out.last p a HFp.out (by omega)
    have qP:aj wz pb _ 54:=(hbz.block _ kA.lt).trans kA;have a0:wz.cell? ⟨pb,0,none⟩=some (.slice ta nT tc):=qP.cell 0;have a1:wz.cell? ⟨pb,1,none⟩=some (.slice na nN nc):=qP.cell 1;have a2:wz.cell? ⟨pb,2,none⟩=some (.slice pa P.length pc):=qP.cell 2;have a3:wz.cell? ⟨pb,3,none⟩=some (.slice ba nT bc):=qP.cell 3;have a4:wz.cell? ⟨pb,4,none⟩=some (.slice ka nT kc):=qP.cell 4;have q9:=viable_any (w0:=wz) (Tx.yA hbz) (hR6.below hbz) ((Below.refl _ wz).alloc (Nat.le_refl _) (.cells #[.slice ta nT tc,.slice na nN nc,.slice pa P.length pc,.slice ba nT bc,.slice ka nT kc,.slice ra row.length rc,.slice none 0 0] 60)) (aj.new wz _ 60) HPs.out hlen hnp;have hswz:=hbwz.size;clear HFp
    by_cases hp:p<row.length
    case' pos=>
     have m1:((p:Int)<(row.length:Int))=True:=eq_true (by omega);have m2:(0<=a)=False:=eq_false (by omega);have m3:¬0<=a:=by omega
    case' neg=>
     have m1:((p:Int)<(row.length:Int))=False:=eq_false (by omega)
    all_goals
     go_upto_region 19 with (go_at_call 16;refine q9.mono ?_;rintro e w9⟨b,rfl,zh,hbi⟩)
     have hb99:Below w.heap.size w w9:=hbwz.trans (zh.mono hswz);have qa:=agU w9 (HT.out w9 hb99);have hs9:=hb99.size;have hbv:b=decide (0<=a):=by
      have:=hbi.trans HL.out;cases b with
      |true=>rw[decide_eq_true (this.1 rfl)]
      |false=>rw[decide_eq_false (fun h=>by cases this.2 h)]
     subst hbv
     go_wp2_with (go_at_call 12;refine qa.mono ?_;rintro e w10⟨rfl,hb10⟩)
     go_ret;exact⟨rfl,hb99.trans (hb10.mono hs9)⟩
end
end Go.Proofs.YtjaalkocdbkdeaaGreatDoor

import Derived.Test.YtjaalkocdbkdeaaGreatDoorSA10
import Derived.Deep.Cut
set_option maxHeartbeats 8000000
set_option maxRecDepth 1000000
namespace Go.Proofs.YtjaalkocdbkdeaaGreatDoor
open Lx Go.Proofs.Tryz
open Go.RowKit Tr
def JV(d:Nat):Prop:=∀(F:Nat->Prop)(w:World)(v:Value)(l:List Lx.Alt),ay YR d F w v l->(∀b,F b->b<w.heap.size)->∀(X:Nat->Prop)(mb:Nat)(T N:List ByteArray),(∀b,F b->¬X b)->jm X w mb T N->T.length+(iR d l).length<=10000 ->
 Calls prog 56 #[.pointer (some ⟨mb,0,none⟩),v] w fun e w'=>e=.returned (.tuple #[])/\∃X',jm X' w' mb (bP T (iR d l)) N/\Fr X w X' w'
theorem aeA:JV 0:=by
 intro F w v l hl hL X mb T N hF h hn;obtain⟨rfl,rfl⟩:=hl;go_enter func56,ntmps56;go_wp2_with fail
 go_loopg [4] 0 (fun k i wr=>k=0/\i=.int .i64 0/\wr=w)
 case atStart=>exact⟨rfl,rfl,rfl⟩
 case round=>
  obtain⟨rfl,rfl,rfl⟩:=hrel;go_wp2_with fail
  go_end0
  exact⟨rfl,X,h,Fr.refl _ _⟩
theorem aeB{d:Nat}(IH:JV d):JV (d+1):=by
 intro F w v l hl hL X mb T N hF h hn;obtain⟨va,vc,hv,hm⟩:=ay.len hl;subst hv;unfold maxLen at hm;go_enter func56,ntmps56;go_wp2_with fail;have hn0:T.length+((l.drop 0).flatMap fun a=>a.1.flatMap (mI d)).length<=10000:=by rw[NZ]at hn;exact hn
 have H0:Hid (bP T (iR (d+1) l)=bP T ((l.drop 0).flatMap fun a=>a.1.flatMap (mI d))):=by rw[NZ];rfl
 go_loopg [4] l.length (fun k i wr=>∃(j:Nat)(U:List ByteArray)(Z:Nat->Prop),j+k=l.length/\i=.int .i64 j/\jm Z wr mb U N/\Fr X w Z wr/\U.length+((l.drop j).flatMap fun a=>a.1.flatMap (mI d)).length<=10000/\Hid (bP T (iR (d+1) l)=bP U ((l.drop j).flatMap fun a=>a.1.flatMap (mI d))))
 case atStart=>exact⟨0,T,X,by omega,rfl,h,Fr.refl _ _,hn0,H0⟩
 case round=>
  clear H0 hn0;revert wr;intro wz hrel;obtain⟨j,U,Z,hk,rfl,hz,hbz,hnz,HZ⟩:=hrel;have bz:∀b,F b->wz.heap[b]?=w.heap[b]?:=fun b hb=>hbz.block b (hL b hb) (hF b hb)
  have hsz:=hbz.size;have hFZ:∀b,F b->¬Z b:=fun b hb hz=>(hbz.own b hz).elim (hF b hb) (fun h=>by have:=hL b hb;omega)
  by_cases hlt:j<l.length
  ·have h1:ay YR (d+1) F wz _ l:=ay.move bz (fun _ h=>h) hl
   obtain⟨gb,cap,vi,hv,hg,hi,hc⟩:=Seq.at h1 (fun _=>rfl) hlt;cases hv;have hz2:=HZ.out;rw[List.drop_eq_getElem_cons hlt,List.flatMap_cons]at hz2 hnz;generalize l[j]=x at hi hc hz2 hnz;obtain⟨its,prec,pa⟩:=x;obtain⟨ia,ic,iK,him⟩:=Seq.len hi;subst iK;unfold maxLen at him;have c0:wz.cell? ⟨gb,j*3,none⟩=some (.slice ia its.length ic):=hc 0 (by decide);have HZ2:Hid _:=hz2;clear h1 hc hz2 HZ;go_wp2_with fail
   go_loopg [5] its.length (fun k i wr=>∃(m:Nat)(U:List ByteArray)(Y:Nat->Prop),m+k=its.length/\i=.int .i64 m/\jm Y wr mb U N/\Fr Z wz Y wr/\U.length+((its.drop m).flatMap (mI d)++(l.drop (j+1)).flatMap fun a=>a.1.flatMap (mI d)).length<=10000/\Hid (bP T (iR (d+1) l)=bP U ((its.drop m).flatMap (mI d)++(l.drop (j+1)).flatMap fun a=>a.1.flatMap (mI d))))
   case atStart=>exact⟨0,U,Z,by omega,rfl,hz,Fr.refl _ _,hnz,HZ2⟩
   case round=>
    clear HZ2;obtain⟨m,U2,Y,hkm,rfl,hr,hbr,hnr,HR⟩:=hrel;have br:∀b,F b->wr.heap[b]?=wz.heap[b]?:=fun b hb=>hbr.block b (Nat.lt_of_lt_of_le (hL b hb) hsz) (hFZ b hb)
    have pV:=hbr.size;have hFY:∀b,F b->¬Y b:=fun b hb hz=>(hbr.own b hz).elim (hFZ b hb) (fun h=>by have:=hL b hb;omega)
    have eg:wr.heap[gb]?=wz.heap[gb]?:=br gb hg;have d0:wr.cell? ⟨gb,j*3,none⟩=some (.slice ia its.length ic):=(World.cell?_of_block (w:=wz) eg).trans c0;have hlm:=hr.lt
    by_cases bJ:m<its.length
    ·have hir:bM YR d F wr _ its:=bM.move br (fun _ h=>h) hi
     unfold bM ow at hir;obtain⟨n,sG,va,hv,hn,ha,hcc⟩:=Seq.at hir (fun _=>rfl) bJ;cases hv;have hr2:=HR.out;rw[List.drop_eq_getElem_cons bJ,List.flatMap_cons,List.append_assoc]at hr2 hnr;generalize its[m]=it at ha hcc hr2 hnr;obtain⟨sa,sc,hva,-⟩:=ay.len ha;subst hva;have e0:wr.cell? ⟨n,m*5,none⟩=some (.int .i64 (it.kind:Int)):=hcc 0 (by decide);have e1:wr.cell? ⟨n,m*5+1,none⟩=some (.string it.name):=hcc 1 (by decide);have e2:wr.cell? ⟨n,m*5+2,none⟩=some (.int .u8 (it.mark:Int)):=hcc 2 (by decide);have e3:wr.cell? ⟨n,m*5+3,none⟩=some (.slice sa it.alts.length sc):=hcc 3 (by decide);have e4:wr.cell? ⟨n,m*5+4,none⟩=some (.int .i64 (it.place:Int)):=hcc 4 (by decide);have ln:n<wr.heap.size:=by have:=hL n hn;omega
     have ny:gb<wr.heap.size:=by have:=hL gb hg;omega
     rw[List.length_append,mI,List.length_append]at hnr;rw[DW U2,mI,DW U2]at hr2;clear hcc hir c0 HR;obtain⟨W1,hW1⟩:∃W1,W1=wr.alloc (.cells #[.int .i64 (it.kind:Int),.string it.name,.int .u8 (it.mark:Int),.slice sa it.alts.length sc,.int .i64 (it.place:Int)] 158):=⟨_,rfl⟩;have hb1:Below wr.heap.size wr W1:=by rw[hW1];exact(Below.refl _ _).alloc (zL0) _
     have hs1:W1.heap.size=wr.heap.size+1:=by rw[hW1];simp
     have kx:aj W1 wr.heap.size #[.int .i64 (it.kind:Int),.string it.name,.int .u8 (it.mark:Int),.slice sa it.alts.length sc,.int .i64 (it.place:Int)] 158:=by rw[hW1];exact aj.new wr _ 158
     have hY1:jm Y W1 mb U2 N:=hr.below hb1;have hxY:¬Y wr.heap.size:=fun h=>by have:=hr.1 _ h;omega
     have hf1:Fr Y wr Y W1:=Fr.same hb1
     by_cases hk1:it.kind=1
     rw[if_pos hk1]at hr2 hnr;have HK:Hid (it.kind=1):=hk1;have hkb:((it.kind:Int) == 1)=true:=by simp[hk1]
     have HR2:Hid _:=hr2;clear hk1 hr2;go_wp2_with fail;rw[<-hW1];refine(Wm hY1 (by omega) it.name).mono ?_;rintro e w2⟨⟨vq,rfl⟩,Y2,hY2,hf2⟩;have iL:aj w2 wr.heap.size _ 158:=(hf2.block _ (by omega) hxY).trans kx;have x3:w2.cell? ⟨wr.heap.size,3,none⟩=some (.slice sa it.alts.length sc):=iL.cell 3;have hn2:=N7 U2 it.name;have hn3:(iD U2 it.name).length+(iR d it.alts).length+((its.drop (m+1)).flatMap (mI d)++(l.drop (j+1)).flatMap fun a=>a.1.flatMap (mI d)).length<=10000:=by
      simp only[List.length_cons,List.length_nil]at hnr;omega
     have HR3:Hid (bP T (iR (d+1) l)=bP (bP (iD U2 it.name) (iR d it.alts)) ((its.drop (m+1)).flatMap (mI d)++(l.drop (j+1)).flatMap fun a=>a.1.flatMap (mI d))):=HR2.out;clear HR2 hnr;generalize iD U2 it.name=U3 at hn3 hY2 HR3;go_wp2_with fail
     rotate_left
     rw[if_neg hk1]at hr2 hnr;have HK:Hid (¬it.kind=1):=hk1;have hkb:((it.kind:Int) == 1)=false:=zB0 (by omega);have HR2:Hid _:=hr2;clear hk1 hr2;go_wp2_with fail;rw[<-hW1];obtain⟨w2,hw2⟩:∃w2,w2=W1:=⟨_,rfl⟩;rw[<-hw2];obtain⟨Y2,hY2,hf2⟩:∃Y2,jm Y2 w2 mb U2 N/\Fr Y W1 Y2 w2:=⟨Y,hw2▸hY1,hw2▸Fr.refl _ _⟩;obtain⟨U3,Ms⟩:∃U3,U3=U2:=⟨_,rfl⟩;rw[<-Ms]at hY2;have hn3:U3.length+(iR d it.alts).length+((its.drop (m+1)).flatMap (mI d)++(l.drop (j+1)).flatMap fun a=>a.1.flatMap (mI d)).length<=10000:=by
      simp only[List.length_nil]at hnr;rw[Ms];omega
     have HR3:Hid (bP T (iR (d+1) l)=bP (bP U3 (iR d it.alts)) ((its.drop (m+1)).flatMap (mI d)++(l.drop (j+1)).flatMap fun a=>a.1.flatMap (mI d))):=by rw[Ms];exact HR2.out
     clear HR2 hnr Ms hw2
     all_goals
      have hf3:Fr Y wr Y2 w2:=hf1.trans hf2;have hs2:=hf3.size;have hL2:∀b,F b->b<w2.heap.size:=fun b hb=>by have:=hL b hb;omega
      have ha2:ay YR d F w2 _ it.alts:=ay.move (fun b hb=>hf3.block b (by have:=hL b hb;omega) (hFY b hb)) (fun _ h=>h) ha;have ajH:∀b,F b->¬Y2 b:=fun b hb hz=>(hf3.own b hz).elim (hFY b hb) (fun h=>by have:=hL b hb;omega)
      have hln:=JK (iR d it.alts) U3;refine(IH F w2 _ _ ha2 hL2 Y2 mb U3 N ajH hY2 (by omega)).mono ?_;rintro e w3⟨rfl,Y3,hY3,Az⟩;have CV:=(hbr.trans hf3).trans Az;go_wp2_with fail;go_roundg (its.length - (m+1))
      case measure=>omega
      case rel=>exact⟨m+1,_,Y3,by omega,by go_num,hY3,CV,by omega,HR3⟩
    ·have:m=its.length:=by omega
     subst this;have hr2:=HR.out;rw[List.drop_length,List.flatMap_nil,List.nil_append]at hr2 hnr;have HR2:Hid _:=hr2;clear c0 hr2 HR;go_wp2_with fail;go_roundg (l.length - (j+1))
     case measure=>omega
     case rel=>exact⟨j+1,U2,Y,by omega,by go_num,hr,hbz.trans hbr,hnr,HR2⟩
  ·have:j=l.length:=by omega
   subst this;have hz2:=HZ.out;rw[List.drop_length]at hz2;have HZ2:Hid _:=hz2;clear hz2 HZ;go_wp2_with fail
   go_end0
   refine⟨rfl,Z,?_,hbz⟩;rw[HZ2.out];exact hz
theorem Wn:∀d,JV d
 |0=>aeA
 |d+1=>aeB (Wn d)
section
open Go.RowKit
open Lx (Tk)
theorem qY(c:Int)(w:World)(h0:0<=c)(h1:c<=255):
  Calls prog 129 #[.int .u8 c] w fun e w'=>e=.returned (.bool (Lx.digit c))/\w'=w:=by
 by_cases h:48<=c
 ·by_cases h':c<=57
  all_goals
   go_enter func129,ntmps129
   go_wp2
   go_ret;exact⟨gy (by simp[Lx.digit];omega),rfl⟩
 ·go_enter func129,ntmps129
  go_wp2
  go_ret;exact⟨gy (by simp[Lx.digit];omega),rfl⟩
theorem rX(c:Int)(w:World)(h0:0<=c)(h1:c<=255):
  Calls prog 130 #[.int .u8 c] w fun e w'=>e=.returned (.bool (Lx.small c))/\w'=w:=by
 by_cases h:97<=c
 ·by_cases h':c<=122
  all_goals
   go_enter func130,ntmps130
   go_wp2
   go_ret;exact⟨gy (by simp[Lx.small];omega),rfl⟩
 ·go_enter func130,ntmps130
  go_wp2
  go_ret;exact⟨gy (by simp[Lx.small];omega),rfl⟩
theorem uV(c:Int)(w:World)(h0:0<=c)(h1:c<=255):
  Calls prog 131 #[.int .u8 c] w fun e w'=>e=.returned (.bool (Lx.capital c))/\w'=w:=by
 by_cases h:65<=c
 ·by_cases h':c<=90
  all_goals
   go_enter func131,ntmps131
   go_wp2
   go_ret;exact⟨gy (by simp[Lx.capital];omega),rfl⟩
 ·go_enter func131,ntmps131
  go_wp2
  go_ret;exact⟨gy (by simp[Lx.capital];omega),rfl⟩
theorem zI(b:ByteArray)(w:World)(hs:b.size<=2000):
  Calls prog 134 #[.string b] w fun e w'=>e=.returned (.bool (Lx.isName b))/\w'=w:=by
 show Calls prog 134 #[.string b] w fun e w'=>e=.returned (.bool (Lx.isWord Lx.small b))/\w'=w
 by_cases h0:b.size=0
 ·have he:=JA (p:=Lx.small) h0
  have HE:Hid _:=he;clear he;have h0':((b.size:Int) == 0)=true:=beq_iff_eq.2 (by omega);go_enter func134,ntmps134;go_wp2_with fail;go_ret;exact⟨gy HE.out.symm,rfl⟩
 have h0':((b.size:Int) == 0)=false:=zB0 (by omega)
 by_cases h1:12<b.size
 ·have he:=JH (p:=Lx.small) h1
  have HE:Hid _:=he;clear he;go_enter func134,ntmps134;go_wp2_with fail;go_ret;exact⟨gy HE.out.symm,rfl⟩
 have hpos:0<b.size:=by omega
 have hbd:=nG b 0;rw[dh b 0 hpos]at hbd;have h1':decide (12<(b.size:Int))=false:=decide_eq_false (by omega);cases h2:Lx.small (b[0].toNat:Int)
 ·have he:=JB (p:=Lx.small) (b:=b) (by rw[dh b 0 hpos];exact h2)
  have HE:Hid _:=he;have H2:Hid _:=h2;clear he h2;go_enter func134,ntmps134
  go_wp2_with (go_at_call 130;refine(rX _ _ (by omega) (by omega)).mono ?_;rintro e w'⟨rfl,hw⟩;obtain rfl:=hw.symm;rw[H2.out])
  go_ret;exact⟨gy HE.out.symm,rfl⟩
 ·have H2:Hid _:=h2
  clear h2;go_enter func134,ntmps134
  go_wp2_with (go_at_call 130;refine(rX _ _ (by omega) (by omega)).mono ?_;rintro e w'⟨rfl,hw⟩;obtain rfl:=hw.symm;rw[H2.out])
  go_loop [3] (fun i=>∃(k:Nat),k<=b.size/\i=.int .i64 k/\Hid (∀j,j<k->(Lx.small (bW b j) || Lx.digit (bW b j))=true)) (fun i=>b.size - (intOf i).toNat)
  case atStart=>exact⟨0,by omega,rfl,fun j hj=>absurd hj (by omega)⟩
  case round=>
   obtain⟨k,hk,rfl,hg⟩:=hrel
   by_cases hlt:k<b.size
   ·have hbd:=nG b k
    have hbe:=dh b k hlt;rw[hbe]at hbd;have HB:Hid _:=hbe;clear hbe;cases h3:Lx.small (b[k].toNat:Int)
    ·have H3:Hid _:=h3
     clear h3;cases h4:Lx.digit (b[k].toNat:Int)
     ·have H4:Hid _:=h4
      clear h4
      go_wp2_with (first
       | (go_at_call 130;refine(rX _ _ (by omega) (by omega)).mono ?_;rintro e w'⟨rfl,hw⟩;obtain rfl:=hw.symm;rw[H3.out])
       | (go_at_call 129;refine(qY _ _ (by omega) (by omega)).mono ?_;rintro e w'⟨rfl,hw⟩;obtain rfl:=hw.symm;rw[H4.out]))
      go_ret;exact⟨gy (JO hlt (by rw[HB.out];exact H3.out) (by rw[HB.out];exact H4.out)).symm,rfl⟩
     ·have H4:Hid _:=h4
      clear h4
      go_wp2_with (first
       | (go_at_call 130;refine(rX _ _ (by omega) (by omega)).mono ?_;rintro e w'⟨rfl,hw⟩;obtain rfl:=hw.symm;rw[H3.out])
       | (go_at_call 129;refine(qY _ _ (by omega) (by omega)).mono ?_;rintro e w'⟨rfl,hw⟩;obtain rfl:=hw.symm;rw[H4.out]))
      refine⟨⟨k+1,by omega,by go_num,?_⟩,by simp[intOf];omega⟩;intro j hj
      by_cases hjk:j=k
      ·subst hjk;rw[HB.out,H4.out];simp
      ·exact hg.out j (by omega)
    ·have H3:Hid _:=h3
     clear h3
     go_wp2_with (first
      | (go_at_call 130;refine(rX _ _ (by omega) (by omega)).mono ?_;rintro e w'⟨rfl,hw⟩;obtain rfl:=hw.symm;rw[H3.out]))
     refine⟨⟨k+1,by omega,by go_num,?_⟩,by simp[intOf];omega⟩;intro j hj
     by_cases hjk:j=k
     ·subst hjk;rw[HB.out,H3.out];simp
     ·exact hg.out j (by omega)
   ·go_wp2_with fail
    go_ret;exact⟨gy (J4 hpos (by omega) (by rw[dh b 0 hpos];exact H2.out) (fun j hj=>hg.out j (by omega))).symm,rfl⟩
theorem zG(b:ByteArray)(w:World)(hs:b.size<=2000):
  Calls prog 154 #[.string b] w fun e w'=>e=.returned (.bool (Lx.isToken b))/\w'=w:=by
 show Calls prog 154 #[.string b] w fun e w'=>e=.returned (.bool (Lx.isWord Lx.capital b))/\w'=w
 by_cases h0:b.size=0
 ·have he:=JA (p:=Lx.capital) h0
  have HE:Hid _:=he;clear he;have h0':((b.size:Int) == 0)=true:=beq_iff_eq.2 (by omega);go_enter func154,ntmps154;go_wp2_with fail;go_ret;exact⟨gy HE.out.symm,rfl⟩
 have h0':((b.size:Int) == 0)=false:=zB0 (by omega)
 by_cases h1:12<b.size
 ·have he:=JH (p:=Lx.capital) h1
  have HE:Hid _:=he;clear he;go_enter func154,ntmps154;go_wp2_with fail;go_ret;exact⟨gy HE.out.symm,rfl⟩
 have hpos:0<b.size:=by omega
 have hbd:=nG b 0;rw[dh b 0 hpos]at hbd;have h1':decide (12<(b.size:Int))=false:=decide_eq_false (by omega);cases h2:Lx.capital (b[0].toNat:Int)
 ·have he:=JB (p:=Lx.capital) (b:=b) (by rw[dh b 0 hpos];exact h2)
  have HE:Hid _:=he;have H2:Hid _:=h2;clear he h2;go_enter func154,ntmps154
  go_wp2_with (go_at_call 131;refine(uV _ _ (by omega) (by omega)).mono ?_;rintro e w'⟨rfl,hw⟩;obtain rfl:=hw.symm;rw[H2.out])
  go_ret;exact⟨gy HE.out.symm,rfl⟩
 ·have H2:Hid _:=h2
  clear h2;go_enter func154,ntmps154
  go_wp2_with (go_at_call 131;refine(uV _ _ (by omega) (by omega)).mono ?_;rintro e w'⟨rfl,hw⟩;obtain rfl:=hw.symm;rw[H2.out])
  go_loop [3] (fun i=>∃(k:Nat),k<=b.size/\i=.int .i64 k/\Hid (∀j,j<k->(Lx.capital (bW b j) || Lx.digit (bW b j))=true)) (fun i=>b.size - (intOf i).toNat)
  case atStart=>exact⟨0,by omega,rfl,fun j hj=>absurd hj (by omega)⟩
  case round=>
   obtain⟨k,hk,rfl,hg⟩:=hrel
   by_cases hlt:k<b.size
   ·have hbd:=nG b k
    have hbe:=dh b k hlt;rw[hbe]at hbd;have HB:Hid _:=hbe;clear hbe;cases h3:Lx.capital (b[k].toNat:Int)
    ·have H3:Hid _:=h3
     clear h3;cases h4:Lx.digit (b[k].toNat:Int)
     ·have H4:Hid _:=h4
      clear h4
      go_wp2_with (first
       | (go_at_call 131;refine(uV _ _ (by omega) (by omega)).mono ?_;rintro e w'⟨rfl,hw⟩;obtain rfl:=hw.symm;rw[H3.out])
       | (go_at_call 129;refine(qY _ _ (by omega) (by omega)).mono ?_;rintro e w'⟨rfl,hw⟩;obtain rfl:=hw.symm;rw[H4.out]))
      go_ret;exact⟨gy (JO hlt (by rw[HB.out];exact H3.out) (by rw[HB.out];exact H4.out)).symm,rfl⟩
     ·have H4:Hid _:=h4
      clear h4
      go_wp2_with (first
       | (go_at_call 131;refine(uV _ _ (by omega) (by omega)).mono ?_;rintro e w'⟨rfl,hw⟩;obtain rfl:=hw.symm;rw[H3.out])
       | (go_at_call 129;refine(qY _ _ (by omega) (by omega)).mono ?_;rintro e w'⟨rfl,hw⟩;obtain rfl:=hw.symm;rw[H4.out]))
      refine⟨⟨k+1,by omega,by go_num,?_⟩,by simp[intOf];omega⟩;intro j hj
      by_cases hjk:j=k
      ·subst hjk;rw[HB.out,H4.out];simp
      ·exact hg.out j (by omega)
    ·have H3:Hid _:=h3
     clear h3
     go_wp2_with (first
      | (go_at_call 131;refine(uV _ _ (by omega) (by omega)).mono ?_;rintro e w'⟨rfl,hw⟩;obtain rfl:=hw.symm;rw[H3.out]))
     refine⟨⟨k+1,by omega,by go_num,?_⟩,by simp[intOf];omega⟩;intro j hj
     by_cases hjk:j=k
     ·subst hjk;rw[HB.out,H3.out];simp
     ·exact hg.out j (by omega)
   ·go_wp2_with fail
    go_ret;exact⟨gy (J4 hpos (by omega) (by rw[dh b 0 hpos];exact H2.out) (fun j hj=>hg.out j (by omega))).symm,rfl⟩
end
section
open Go.RowKit
open Lx (Tk)
open Tr
namespace Lx
def yC(c:Int):Bool:=decide (c=61\/c=59\/c=124\/c=40\/c=41\/c=42\/c=43\/c=63)
def known(t:ByteArray):Bool:=decide (bW t 0=37) || mE (bW t 0) || yC (bW t 0)
def fw(t:ByteArray):ByteArray:=if known t=true then t else aL
def eD(s:ByteArray)(i:Nat):Nat:=lY s (if bW s i=37 then i+1 else i)
def je(s:ByteArray)(i:Nat):ByteArray:=if i<s.size then s.extract i (if eD s i=i/\yC (bW s i)=true then i+1 else eD s i) else aL
theorem adF(s:ByteArray)(i j:Nat)(h:i<j)(hj:j<=s.size):bW (s.extract i j) 0=bW s i:=by
 rw[dh s i (by omega),dh (s.extract i j) 0 (by rw[ByteArray.size_extract];omega)];rw[ByteArray.getElem_extract];simp
theorem agh{s:ByteArray}{i:Nat}(h:i<s.size):i<=eD s i/\eD s i<=s.size:=by
 have h1:=JM (s:=s) (i:=if bW s i=37 then i+1 else i) (by split <;> omega);unfold eD
 split at h1 <;> simp_all <;> omega
theorem JC{s:ByteArray}{i:Nat}(h:i<s.size):eD s i=i↔(bW s i≠37/\mE (bW s i)=false):=by
 unfold eD
 by_cases h37:bW s i=37
 ·rw[if_pos h37]
  have:=JM (s:=s) (i:=i+1) (by omega);constructor
  ·intro e;omega
  ·intro e;exact absurd h37 e.1
 ·rw[if_neg h37,Jz h]
  constructor
  ·intro e
   refine⟨h37,?_⟩;cases hw:mE (bW s i)
   ·rfl
   ·rw[hw,if_pos rfl]at e
    have:=JM (s:=s) (i:=i+1) (by omega);omega
  ·intro e
   rw[e.2];simp
theorem Vq{s:ByteArray}{i:Nat}(h:i<=s.size):je s i=fw (hd (oz s i)):=by
 unfold je
 by_cases hi:i<s.size
 ·rw[if_pos hi,FV hi]
  show _=fw (s.extract i (jM s i));have hs:=BA hi;have hr:=agh hi;have hk:=JC hi;have hb:=adF s i (jM s i) hs.1 hs.2;unfold fw known;rw[hb];have he:jM s i=max (eD s i) (i+1):=rfl
  by_cases hz:eD s i=i
  ·obtain⟨h1,h2⟩:=hk.1 hz
   rw[decide_eq_false h1,h2];cases hp:yC (bW s i)
   ·rw[if_neg (by simp),hz]
    simp only[Bool.or_self,Bool.false_eq_true,if_false];apply ByteArray.ext;simp[aL]
   ·rw[if_pos ⟨hz,rfl⟩,he,hz]
    simp
  ·have hn:¬(bW s i≠37/\mE (bW s i)=false):=fun e=>hz (hk.2 e)
   rw[if_neg (fun e=>hz e.1),he];have hmax:max (eD s i) (i+1)=eD s i:=by omega
   rw[hmax,if_pos]
   by_cases h37:bW s i=37
   ·rw[decide_eq_true h37];simp
   ·cases hw:mE (bW s i)
    ·exact absurd ⟨h37,hw⟩ hn
    ·simp
 ·rw[if_neg hi,DX (by omega)]
  rfl
end Lx
end
section
open Go.RowKit
open Lx (Tk)
open Tr
theorem Tryz.Px:(prog.info? 9).map (fun i=>(i.zero,i.size,i.bytes))=some (some (.string ⟨#[]⟩),1,16):=by kernel_rfl
structure Mv(q:Nat)(au:Value)(w w':World):Prop where
 os:w'.os=w.os
 tape:w'.tape=w.tape
 output:w'.output=w.output
 size:w.heap.size<=w'.heap.size
 block:∀k,k<w.heap.size->k≠q->au.ownBlock≠some k->w'.heap[k]?=w.heap[k]?
def Nx(au:Value)(w:World)(Ch:Value):Prop:=Ch.ownBlock=au.ownBlock\/∃g,Ch.ownBlock=some g/\w.heap.size<=g
section
variable {q:Nat} {au Ch Zj:Value} {w w' w'':World}
theorem Mv.refl(q:Nat)(au:Value)(w:World):Mv q au w w:=⟨rfl,rfl,rfl,zL0,fun _ _ _ _=>rfl⟩
theorem Nx.refl(au:Value)(w:World):Nx au w au:=.inl rfl
theorem Mv.trans(h:Mv q au w w')(n:Nx au w Ch)(k:Mv q Ch w' w''):Mv q au w w'' :=
 ⟨k.os.trans h.os,k.tape.trans h.tape,k.output.trans h.output,Nat.le_trans h.size k.size,fun i hi hq hs=>by
  rw[k.block i (Nat.lt_of_lt_of_le hi h.size) hq ?_,h.block i hi hq hs];rcases n with n|⟨g,n,hg⟩
  ·rw[n];exact hs
  ·rw[n];intro e;cases e;omega⟩
theorem Nx.trans(n:Nx au w Ch)(hw:w.heap.size<=w'.heap.size)(k:Nx Ch w' Zj):Nx au w Zj:=by
 rcases k with k|⟨g,k,hg⟩
 ·rcases n with n | ⟨g,n,hg⟩
  ·exact .inl (k.trans n)
  ·exact .inr ⟨g,k.trans n,hg⟩
 ·exact .inr ⟨g,k,by omega⟩
theorem Mv.set(h:Mv q au w w')(o:Nat)(v:Value):Mv q au w (w'.setCell ⟨q,o,none⟩ v) :=
 ⟨h.os,h.tape,h.output,by have:=h.size;simpa [World.setCell]using this,fun k hk hq hs=>(zS0 (fun e=>hq e)).trans (h.block k hk hq hs)⟩
theorem Mv.new(h:Mv q au w w'){b:Nat}(hb:w.heap.size<=b)(o:Nat)(v:Value):Mv q au w (w'.setCell ⟨b,o,none⟩ v) :=
 ⟨h.os,h.tape,h.output,by have:=h.size;simpa [World.setCell]using this,fun k hk hq hs=>(zS0 (fun e=>by have e':k=b:=e;omega)).trans (h.block k hk hq hs)⟩
theorem Mv.drew(h:Mv q au w w'):Mv q au w w'.drew:=⟨h.os,h.tape,h.output,h.size,h.block⟩
theorem Mv.alloc(h:Mv q au w w')(o:Obj):Mv q au w (w'.alloc o) :=
 ⟨h.os,h.tape,h.output,by have:=h.size;simp;omega,fun k hk hq hs=>(Below.heap_alloc _ _ _ (Nat.lt_of_lt_of_le hk h.size)).trans (h.block k hk hq hs)⟩
theorem Mv.grown(h:Mv q au w w'){r:Option Nat}(hg:w'.grownBy w'' r)(hr:∀k,r=some k->w.heap.size<=k\/k=q\/au.ownBlock=some k):Mv q au w w'' :=
 ⟨hg.os.trans h.os,hg.tape.trans h.tape,hg.output.trans h.output,Nat.le_trans h.size hg.size,fun k hk hq hs=>(hg.block k (Nat.lt_of_lt_of_le hk h.size) (fun e=>by
  rcases hr k e.symm with h1|h1|h1
  ·omega
  ·exact hq h1
  ·exact hs h1)).trans (h.block k hk hq hs)⟩
end
def dJ(s:ByteArray)(i:Nat)(W:ByteArray)(nest err at_:Int)(au:Value):Array Value:=#[.string s,.int .i64 (i:Int),.string W,.int .i64 nest,.int .i64 err,.int .i64 at_,au]
theorem aj.drewN{w:World}{b:Nat}{cs:Array Value}{e:Nat}(h:aj w b cs e)(n:Nat):aj (w.drewN n) b cs e:=by
 unfold aj at *;simpa [World.drewN]using h
theorem Mv.drewN{q:Nat}{au:Value}{w w':World}(h:Mv q au w w')(n:Nat):Mv q au w (w'.drewN n):=by
 have e:(w'.drewN n).heap=w'.heap:=by simp[World.drewN]
 exact⟨h.os,h.tape,h.output,by rw[e];exact h.size,fun k hk hq hs=>by rw[e];exact h.block k hk hq hs⟩
structure St(q:Nat)(au:Value)(w:World)(aG:Value)(n:Nat)(xs:List Value)(u:World):Prop where
 mv:Mv q au w u
 nx:Nx au w aG
 own:u.ownsRow 0 9 1 aG n xs
 ne:aG.ownBlock≠some q
theorem St.set{q:Nat}{au:Value}{w:World}{aG:Value}{n:Nat}{xs:List Value}{u:World}(h:St q au w aG n xs u)(o:Nat)(v:Value):St q au w aG n xs (u.setCell ⟨q,o,none⟩ v) :=
 ⟨h.mv.set o v,h.nx,aC h.own fun g hg=>zS0 (fun e=>h.ne (by have e':g=q:=e;rw[hg,e'])),h.ne⟩
theorem St.drewN{q:Nat}{au:Value}{w:World}{aG:Value}{n:Nat}{xs:List Value}{u:World}(h:St q au w aG n xs u)(k:Nat):St q au w aG n xs (u.drewN k) :=
 ⟨h.mv.drewN k,h.nx,aC h.own fun g hg=>by simp[World.drewN],h.ne⟩
namespace Lx
theorem JW{c:Int}(h1:digit c=false)(h2:small c=false)(h3:capital c=false):mE c=false:=by simp[mE,h1,h2,h3]
theorem YM{c:Int}(h1:digit c=true):mE c=true:=by simp[mE,h1]
theorem KQ{c:Int}(h1:small c=true):mE c=true:=by simp[mE,h1]
theorem KS{c:Int}(h1:capital c=true):mE c=true:=by simp[mE,h1]
theorem UH{s:ByteArray}{i:Nat}(h:¬i<s.size):je s i=⟨#[]⟩:=if_neg h
theorem JD{s:ByteArray}{i k:Nat}(h:i<s.size)(he:eD s i=k)(hk:k≠i):je s i=s.extract i k:=by
 unfold je;rw[if_pos h,if_neg (fun e=>hk (he.symm.trans e.1)),he]
theorem TH{s:ByteArray}{i:Nat}(h:i<s.size)(he:eD s i=i)(hp:yC (bW s i)=true):je s i=s.extract i (i+1):=by
 unfold je;rw[if_pos h,if_pos ⟨he,hp⟩]
theorem TI{s:ByteArray}{i:Nat}(h:i<s.size)(he:eD s i=i)(hp:yC (bW s i)=false):je s i=s.extract i i:=by
 unfold je;rw[if_pos h,if_neg (fun e=>by rw[hp]at e;exact absurd e.2 (by simp)),he]
end Lx
end
section
open Go.RowKit
open Lx (Tk)
open Tr
theorem ahf(s:ByteArray)(q i g:Nat)(nest err at_:Int)(au:Value)(n:Nat)(xs:List Value)(w:World)(hs:s.size<=2000)(hi:i<=s.size)(kq:aj w q (dJ s i ⟨#[]⟩ nest err at_ au) 135)(hown:w.ownsRow 0 9 1 au n xs)(hneq:au.ownBlock≠some q)(hg0:aV s i false=g)(hge:¬g<s.size):
  Calls prog 96 #[.pointer (some ⟨q,0,none⟩)] w fun e w'=>e=.returned (.tuple #[])/\∃aG,St q au w aG n xs w'/\aj w' q (dJ s g (je s g) nest err at_ aG) 135:=by
 have c0:w.cell? ⟨q,0,none⟩=some (.string s):=kq.cell 0;have c1:w.cell? ⟨q,1,none⟩=some (.int .i64 (i:Int)):=kq.cell 1;have c2:w.cell? ⟨q,2,none⟩=some (.string ⟨#[]⟩):=kq.cell 2;have fq:∀j,w.frozen? ⟨q,j,none⟩=false:=kq.frozen;have rF:Hid _:=hg0;clear hg0;go_enter func96,ntmps96;go_wp2_with fail
 go_quiet (fail)
 go_wp2_with fail;have ku:=kq.drewN nq;have mu:=(St.mk (Mv.refl q au w) (Nx.refl au w) hown hneq).drewN nq;clear hown hneq;generalize w.drewN nq=u at *;have c0:u.cell? ⟨q,0,none⟩=some (.string s):=ku.cell 0;have fq:∀j,u.frozen? ⟨q,j,none⟩=false:=ku.frozen;have c1:=ku.cell 1;have c2:=ku.cell 2;simp only[dJ]at c1 c2;clear kq
 go_loop [2,3] (fun at_ r=>∃(k:Nat)(b:Bool),k<=s.size/\at_=.int .i64 k/\r=.bool b/\Hid (aV s k b=g)) (fun at_ _=>s.size - (intOf at_).toNat)
 case atStart=>exact⟨i,false,hi,rfl,rfl,rF⟩
 case round=>
  obtain⟨k,b,hk,rfl,rfl,hg⟩:=hrel
  by_cases hlt:k<s.size
  ·have hbd:=nG s k
   rw[dh s k hlt]at hbd;have hcs:(s[k].toNat:Int)=10\/(s[k].toNat:Int)=35\/(s[k].toNat:Int)=32\/(s[k].toNat:Int)=9\/((s[k].toNat:Int)≠10/\(s[k].toNat:Int)≠35/\(s[k].toNat:Int)≠32/\(s[k].toNat:Int)≠9):=by omega
   rcases hcs with hc|hc|hc|hc|hc
   ·have HG:Hid (aV s (k+1) false=g):=BP hlt hg.out hc
    cases b
    all_goals
     go_wp2_with fail;exact⟨⟨k+1,_,by omega,by go_num,rfl,HG⟩,by simp[intOf];omega⟩
   ·have HG:Hid (aV s (k+1) true=g):=BI hlt hg.out hc
    cases b
    all_goals
     go_wp2_with fail;exact⟨⟨k+1,_,by omega,by go_num,rfl,HG⟩,by simp[intOf];omega⟩
   ·cases b
    ·have HG:Hid (aV s (k+1) false=g):=rV hlt hg.out (.inl hc)
     go_wp2_with fail;exact⟨⟨k+1,_,by omega,by go_num,rfl,HG⟩,by simp[intOf];omega⟩
    ·have HG:Hid (aV s (k+1) true=g):=nI hlt hg.out (by omega) (by omega)
     go_wp2_with fail;exact⟨⟨k+1,_,by omega,by go_num,rfl,HG⟩,by simp[intOf];omega⟩
   ·cases b
    ·have HG:Hid (aV s (k+1) false=g):=rV hlt hg.out (.inr hc)
     go_wp2_with fail;exact⟨⟨k+1,_,by omega,by go_num,rfl,HG⟩,by simp[intOf];omega⟩
    ·have HG:Hid (aV s (k+1) true=g):=nI hlt hg.out (by omega) (by omega)
     go_wp2_with fail;exact⟨⟨k+1,_,by omega,by go_num,rfl,HG⟩,by simp[intOf];omega⟩
   ·have Ii:((s[k].toNat:Int) == 10)=false:=beq_eq_false_iff_ne.2 hc.1
    have t35:((s[k].toNat:Int) == 35)=false:=beq_eq_false_iff_ne.2 hc.2.1;have t32:((s[k].toNat:Int) == 32)=false:=beq_eq_false_iff_ne.2 hc.2.2.1;have t9:((s[k].toNat:Int) == 9)=false:=beq_eq_false_iff_ne.2 hc.2.2.2;cases b
    ·have hkg:k=g:=BJ hlt hg.out hc.1 hc.2.1 hc.2.2.1 hc.2.2.2
     subst hkg;clear hc;exact absurd hlt hge
    ·have HG:Hid (aV s (k+1) true=g):=nI hlt hg.out hc.1 hc.2.1
     clear hc;go_wp2_with fail;exact⟨⟨k+1,_,by omega,by go_num,rfl,HG⟩,by simp[intOf];omega⟩
  ·have hkg:k=g:=by have:=hg.out;rw[Bt _ (by omega)]at this;exact this
   subst hkg;have HQ:Hid (je s k=⟨#[]⟩):=UH hlt;have hkk:((k:Int) == (s.size:Int))=true:=beq_iff_eq.2 (by omega);go_wp2_with fail;refine bodyPost_ret (results_none rfl _ _ _) rfl ?_;refine⟨rfl,_,(mu.set 1 _).set 2 _,?_⟩;rw[HQ.out];exact(ku.set 1 _).set 2 _
end
end Go.Proofs.YtjaalkocdbkdeaaGreatDoor

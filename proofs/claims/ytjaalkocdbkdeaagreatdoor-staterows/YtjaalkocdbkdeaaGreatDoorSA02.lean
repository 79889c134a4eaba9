import Derived.Test.YtjaalkocdbkdeaaGreatDoorSA01
import Derived.Shelf.LaysM
import Derived.Shelf.Strconv.Clone
import Derived.Test.YtjaalkocdbkdeaaGreatDoorProg
import Derived.Deep.RegionHeld3
set_option maxHeartbeats 8000000
set_option maxRecDepth 1000000
namespace Go.Proofs.YtjaalkocdbkdeaaGreatDoor
open Lx Go.Proofs.Tryz
open Go.RowKit
open Lx (Tk)
namespace Lx
theorem VW(p:Int->Bool)(b:ByteArray):Er p b=true↔∀j,j<b.size->(p (bW b j) || digit (bW b j))=true:=by
 unfold Er;rw[List.all_eq_true];constructor
 ·intro h j hj
  have hj':j<b.data.toList.length:=by simpa using hj
  have h1:=h b.data.toList[j] (List.getElem_mem hj');rw[dh b j hj];exact h1
 ·intro h c hc
  obtain⟨j,hj,rfl⟩:=List.getElem_of_mem hc;have hj':j<b.size:=by simpa using hj
  have h1:=h j hj';rw[dh b j hj']at h1;exact h1
theorem J4{p:Int->Bool}{b:ByteArray}(h0:0<b.size)(h1:b.size<=12)(h2:p (bW b 0)=true)(h3:∀j,j<b.size->(p (bW b j) || digit (bW b j))=true):isWord p b=true:=by
 unfold isWord;rw[(VW p b).2 h3,h2];simp[h0,h1]
theorem JA{p:Int->Bool}{b:ByteArray}(h0:b.size=0):isWord p b=false:=by
 unfold isWord;simp[h0]
theorem JH{p:Int->Bool}{b:ByteArray}(h0:12<b.size):isWord p b=false:=by
 unfold isWord;simp[show ¬b.size<=12 by omega]
theorem JB{p:Int->Bool}{b:ByteArray}(h0:p (bW b 0)=false):isWord p b=false:=by
 unfold isWord;simp[h0]
theorem JO{p:Int->Bool}{b:ByteArray}{j:Nat}(hj:j<b.size)(h1:p (bW b j)=false)(h2:digit (bW b j)=false):isWord p b=false:=by
 have:Er p b=false:=by
  cases ha:Er p b
  ·rfl
  ·have:=(VW p b).1 ha j hj
   simp[h1,h2]at this
 unfold isWord;simp[this]
end Lx
theorem adE(b:ByteArray)(w:World)(hs:b.size<=2000):
  Calls prog 79 #[.string b,.func (.func 80) #[] #[]] w fun e w'=>e=.returned (.bool (Lx.isWord Lx.small b))/\w'=w:=by
 by_cases h0:b.size=0
 ·have he:=JA (p:=Lx.small) h0
  have HE:Hid _:=he;clear he;have h0':((b.size:Int) == 0)=true:=beq_iff_eq.2 (by omega);go_enter func79,ntmps79;go_wp2_with fail;go_ret;exact⟨gy HE.out.symm,rfl⟩
 have h0':((b.size:Int) == 0)=false:=beq_eq_false_iff_ne.2 (by omega)
 by_cases h1:12<b.size
 ·have he:=JH (p:=Lx.small) h1
  have HE:Hid _:=he;clear he;go_enter func79,ntmps79;go_wp2_with fail;go_ret;exact⟨gy HE.out.symm,rfl⟩
 have hpos:0<b.size:=by omega
 have hbd:=nG b 0;rw[dh b 0 hpos]at hbd;have h1':decide (12<(b.size:Int))=false:=decide_eq_false (by omega);cases h2:Lx.small (b[0].toNat:Int)
 ·have he:=JB (p:=Lx.small) (b:=b) (by rw[dh b 0 hpos];exact h2)
  have HE:Hid _:=he;have H2:Hid _:=h2;clear he h2;go_enter func79,ntmps79
  go_wp2_with (go_at_call 80;refine(Bu _ _ (by omega) (by omega)).mono ?_;rintro e w'⟨rfl,hw⟩;obtain rfl:=hw.symm;rw[H2.out])
  go_ret;exact⟨gy HE.out.symm,rfl⟩
 ·have H2:Hid _:=h2
  clear h2;go_enter func79,ntmps79
  go_wp2_with (go_at_call 80;refine(Bu _ _ (by omega) (by omega)).mono ?_;rintro e w'⟨rfl,hw⟩;obtain rfl:=hw.symm;rw[H2.out])
  go_loop [23] (fun i=>∃(k:Nat),k<=b.size/\i=.int .i64 k/\Hid (∀j,j<k->(Lx.small (bW b j) || Lx.digit (bW b j))=true)) (fun i=>b.size - (intOf i).toNat)
  case atStart=>exact⟨0,by omega,rfl,fun j hj=>absurd hj (by omega)⟩
  case round=>
   obtain⟨k,hk,rfl,hg⟩:=hrel
   by_cases hlt:k<b.size
   ·have hbd:=nG b k
    have hbe:=dh b k hlt;rw[hbe]at hbd;have HB:Hid _:=hbe;clear hbe;cases h3:Lx.small (b[k].toNat:Int)
    ·have H3:Hid _:=h3
     clear h3;cases h4:Lx.digit (b[k].toNat:Int)
     ·have H4:Hid _:=h4
      clear h4
      go_wp2_with (first
       | (go_at_call 80;refine(Bu _ _ (by omega) (by omega)).mono ?_;rintro e w'⟨rfl,hw⟩;obtain rfl:=hw.symm;rw[H3.out])
       | (go_at_call 117;refine(FQ _ _ (by omega) (by omega)).mono ?_;rintro e w'⟨rfl,hw⟩;obtain rfl:=hw.symm;rw[H4.out]))
      go_ret;exact⟨gy (JO hlt (by rw[HB.out];exact H3.out) (by rw[HB.out];exact H4.out)).symm,rfl⟩
     ·have H4:Hid _:=h4
      clear h4
      go_wp2_with (first
       | (go_at_call 80;refine(Bu _ _ (by omega) (by omega)).mono ?_;rintro e w'⟨rfl,hw⟩;obtain rfl:=hw.symm;rw[H3.out])
       | (go_at_call 117;refine(FQ _ _ (by omega) (by omega)).mono ?_;rintro e w'⟨rfl,hw⟩;obtain rfl:=hw.symm;rw[H4.out]))
      refine⟨⟨k+1,by omega,by go_num,?_⟩,by simp[intOf];omega⟩;intro j hj
      by_cases hjk:j=k
      ·subst hjk;rw[HB.out,H4.out];simp
      ·exact hg.out j (by omega)
    ·have H3:Hid _:=h3
     clear h3
     go_wp2_with (first
      | (go_at_call 80;refine(Bu _ _ (by omega) (by omega)).mono ?_;rintro e w'⟨rfl,hw⟩;obtain rfl:=hw.symm;rw[H3.out]))
     refine⟨⟨k+1,by omega,by go_num,?_⟩,by simp[intOf];omega⟩;intro j hj
     by_cases hjk:j=k
     ·subst hjk;rw[HB.out,H3.out];simp
     ·exact hg.out j (by omega)
   ·go_wp2_with fail
    go_ret;exact⟨gy (J4 hpos (by omega) (by rw[dh b 0 hpos];exact H2.out) (fun j hj=>hg.out j (by omega))).symm,rfl⟩
theorem adx(b:ByteArray)(w:World)(hs:b.size<=2000):
  Calls prog 79 #[.string b,.func (.func 81) #[] #[]] w fun e w'=>e=.returned (.bool (Lx.isWord Lx.capital b))/\w'=w:=by
 by_cases h0:b.size=0
 ·have he:=JA (p:=Lx.capital) h0
  have HE:Hid _:=he;clear he;have h0':((b.size:Int) == 0)=true:=beq_iff_eq.2 (by omega);go_enter func79,ntmps79;go_wp2_with fail;go_ret;exact⟨gy HE.out.symm,rfl⟩
 have h0':((b.size:Int) == 0)=false:=beq_eq_false_iff_ne.2 (by omega)
 by_cases h1:12<b.size
 ·have he:=JH (p:=Lx.capital) h1
  have HE:Hid _:=he;clear he;go_enter func79,ntmps79;go_wp2_with fail;go_ret;exact⟨gy HE.out.symm,rfl⟩
 have hpos:0<b.size:=by omega
 have hbd:=nG b 0;rw[dh b 0 hpos]at hbd;have h1':decide (12<(b.size:Int))=false:=decide_eq_false (by omega);cases h2:Lx.capital (b[0].toNat:Int)
 ·have he:=JB (p:=Lx.capital) (b:=b) (by rw[dh b 0 hpos];exact h2)
  have HE:Hid _:=he;have H2:Hid _:=h2;clear he h2;go_enter func79,ntmps79
  go_wp2_with (go_at_call 81;refine(DU _ _ (by omega) (by omega)).mono ?_;rintro e w'⟨rfl,hw⟩;obtain rfl:=hw.symm;rw[H2.out])
  go_ret;exact⟨gy HE.out.symm,rfl⟩
 ·have H2:Hid _:=h2
  clear h2;go_enter func79,ntmps79
  go_wp2_with (go_at_call 81;refine(DU _ _ (by omega) (by omega)).mono ?_;rintro e w'⟨rfl,hw⟩;obtain rfl:=hw.symm;rw[H2.out])
  go_loop [23] (fun i=>∃(k:Nat),k<=b.size/\i=.int .i64 k/\Hid (∀j,j<k->(Lx.capital (bW b j) || Lx.digit (bW b j))=true)) (fun i=>b.size - (intOf i).toNat)
  case atStart=>exact⟨0,by omega,rfl,fun j hj=>absurd hj (by omega)⟩
  case round=>
   obtain⟨k,hk,rfl,hg⟩:=hrel
   by_cases hlt:k<b.size
   ·have hbd:=nG b k
    have hbe:=dh b k hlt;rw[hbe]at hbd;have HB:Hid _:=hbe;clear hbe;cases h3:Lx.capital (b[k].toNat:Int)
    ·have H3:Hid _:=h3
     clear h3;cases h4:Lx.digit (b[k].toNat:Int)
     ·have H4:Hid _:=h4
      clear h4
      go_wp2_with (first
       | (go_at_call 81;refine(DU _ _ (by omega) (by omega)).mono ?_;rintro e w'⟨rfl,hw⟩;obtain rfl:=hw.symm;rw[H3.out])
       | (go_at_call 117;refine(FQ _ _ (by omega) (by omega)).mono ?_;rintro e w'⟨rfl,hw⟩;obtain rfl:=hw.symm;rw[H4.out]))
      go_ret;exact⟨gy (JO hlt (by rw[HB.out];exact H3.out) (by rw[HB.out];exact H4.out)).symm,rfl⟩
     ·have H4:Hid _:=h4
      clear h4
      go_wp2_with (first
       | (go_at_call 81;refine(DU _ _ (by omega) (by omega)).mono ?_;rintro e w'⟨rfl,hw⟩;obtain rfl:=hw.symm;rw[H3.out])
       | (go_at_call 117;refine(FQ _ _ (by omega) (by omega)).mono ?_;rintro e w'⟨rfl,hw⟩;obtain rfl:=hw.symm;rw[H4.out]))
      refine⟨⟨k+1,by omega,by go_num,?_⟩,by simp[intOf];omega⟩;intro j hj
      by_cases hjk:j=k
      ·subst hjk;rw[HB.out,H4.out];simp
      ·exact hg.out j (by omega)
    ·have H3:Hid _:=h3
     clear h3
     go_wp2_with (first
      | (go_at_call 81;refine(DU _ _ (by omega) (by omega)).mono ?_;rintro e w'⟨rfl,hw⟩;obtain rfl:=hw.symm;rw[H3.out]))
     refine⟨⟨k+1,by omega,by go_num,?_⟩,by simp[intOf];omega⟩;intro j hj
     by_cases hjk:j=k
     ·subst hjk;rw[HB.out,H3.out];simp
     ·exact hg.out j (by omega)
   ·go_wp2_with fail
    go_ret;exact⟨gy (J4 hpos (by omega) (by rw[dh b 0 hpos];exact H2.out) (fun j hj=>hg.out j (by omega))).symm,rfl⟩
theorem BD(b:ByteArray)(w:World)(hs:b.size<=2000):
  Calls prog 36 #[.string b] w fun e w'=>e=.returned (.bool (Lx.isName b))/\w'=w:=by
 go_enter func36,ntmps36
 go_wp2_with (go_at_call 79;refine(adE _ _ hs).mono ?_;rintro e w'⟨rfl,hw⟩;obtain rfl:=hw.symm)
 go_ret;exact⟨rfl,rfl⟩
theorem JI(b:ByteArray)(w:World)(hs:b.size<=2000):
  Calls prog 38 #[.string b] w fun e w'=>e=.returned (.bool (Lx.isToken b))/\w'=w:=by
 go_enter func38,ntmps38
 go_wp2_with (go_at_call 79;refine(adx _ _ hs).mono ?_;rintro e w'⟨rfl,hw⟩;obtain rfl:=hw.symm)
 go_ret;exact⟨rfl,rfl⟩
end Go.Proofs.YtjaalkocdbkdeaaGreatDoor
namespace Go.Proofs
open Go.Shelf
def Tryz.ad3:Go.Shelf.Ren:=⟨fun | 316=>123 | n=>n,fun | 9=>9 | 3=>3 | 4=>4 | 37=>160 | 0=>0 | 127=>241 | 5=>5 | n=>n,fun | n=>n⟩
theorem Tryz.agX:Go.Proofs.LaysM.n316 prog Tryz.ad3:={
 mixed:=by kernel_rfl
 f316:=func123.trans (congrArg some (by kernel_rfl))
 t0:=underlying0
 a0:=Tryz.isAgg0
 z0:=Tryz.sizeOf0
 v0:=Tryz.zeroValue0
 t3:=underlying3
 a3:=Tryz.isAgg3
 z3:=Tryz.sizeOf3
 v3:=Tryz.zeroValue3
 t4:=underlying4
 a4:=Tryz.isAgg4
 z4:=Tryz.sizeOf4
 v4:=Tryz.zeroValue4
 t9:=underlying9
 a9:=Tryz.isAgg9
 z9:=Tryz.sizeOf9
 v9:=Tryz.zeroValue9
 t37:=underlying160
 a37:=Tryz.isAgg160
 z37:=Tryz.sizeOf160
 v37:=Tryz.zeroValue160
 t127:=underlying241
 a127:=Tryz.isAgg241
 z127:=Tryz.sizeOf241
 v127:=Tryz.zeroValue241
 t5:=underlying5
 a5:=Tryz.isAgg5
 z5:=Tryz.sizeOf5
 v5:=Tryz.zeroValue5
 i0:=by kernel_rfl
 i3:=by kernel_rfl
 i4:=by kernel_rfl
 i5:=by kernel_rfl
 i9:=by kernel_rfl
 i37:=by kernel_rfl
 i127:=by kernel_rfl }
open Go.RowKit in
theorem Tryz.stringslite_Clone(s:ByteArray)(w:World)(hlim:s.size<=281474976710656):
  Calls prog 123 #[.string s] w fun e w'=>e=.returned (.string s)/\Below w.heap.size w w':=Any.stringslite_Clone Tryz.agX s w hlim
end Go.Proofs
namespace Go.Proofs.YtjaalkocdbkdeaaGreatDoor
open Lx Go.Proofs.Tryz
open Go.RowKit
open Lx (Tk)
theorem aib(s:ByteArray)(w:World)(hlim:s.size<=281474976710656):
  Calls prog 123 #[.string s] w fun e w'=>e=.returned (.string s)/\Below w.heap.size w w':=Tryz.stringslite_Clone s w hlim
theorem Oj(s:ByteArray)(w:World)(hlim:s.size<=2000):
  Calls prog 87 #[.string s] w fun e w'=>e=.returned (.string s)/\Below w.heap.size w w':=by
 go_enter func87,ntmps87
 go_wp2_with (go_at_call 123;refine(aib _ _ (by omega)).mono ?_;rintro e w'⟨rfl,hb⟩)
 go_ret;exact⟨rfl,hb⟩
theorem DT{w w':World}(h:Below w.heap.size w w')(r:Option Nat):w.grownBy w' r:=⟨h.os,h.tape,h.output,h.size,fun k hk _=>h.block k hk⟩
theorem Rd.below{sb cap:Nat}{L:List Tk}{p:Nat}{w w':World}{ts:List Tk}{o:Int}(h:Rd sb cap L p w ts o)(hb:Below w.heap.size w w'):Rd sb cap L p w' ts o :=
 h.grown (DT hb none) (by simp) (by simp)
theorem VX{b:ByteArray}(h:Lx.isName b=true):b≠aL:=by
 intro e;subst e;revert h;decide
theorem NT{b:ByteArray}(h:Lx.isToken b=true):b≠aL:=by
 intro e;subst e;revert h;decide
theorem VY{sb cap:Nat}{L:List Tk}{p:Nat}{w:World}{ts:List Tk}{o:Int}(h:Rd sb cap L p w ts o):
  Calls prog 147 #[.pointer (some ⟨p,0,none⟩),.func (.func 36) #[] #[]] w (Ends sb cap L p o K3 w (cK Lx.isName ts)):=by
 have hsz:=h.hsz;cases hd:Lx.isName (Lx.hd ts)
 ·have hm:cK Lx.isName ts=.error (2,Lx.pl ts):=if_neg (by rw[hd];simp)
  have HD:Hid _:=hd;have HM:Hid _:=hm;clear hd hm;go_enter func147,ntmps147
  go_wp2_with (first
   | (go_at_call 75;refine(oq h).mono ?_;rintro e w'⟨rfl,hw⟩;obtain rfl:=hw.symm)
   | (go_at_call 36;refine(BD _ _ hsz).mono ?_;rintro e w'⟨rfl,hw⟩;obtain rfl:=hw.symm;rw[HD.out])
   | (go_at_call 148;refine(Ke h 2).mono ?_;rintro e w'⟨rfl,hw⟩;obtain rfl:=hw.symm))
  exact⟨rfl,Ends.no HM.out (BB _ _)⟩
 ·have hm:cK Lx.isName ts=.ok (Lx.hd ts,ts.tail):=if_pos hd
  have HN:Hid (Lx.hd ts≠aL):=VX hd;have HD:Hid _:=hd;have HM:Hid _:=hm;clear hd hm;go_enter func147,ntmps147
  go_wp2_with (first
   | (go_at_call 75;refine(oq h).mono ?_;rintro e w'⟨rfl,hw⟩;obtain rfl:=hw.symm)
   | (go_at_call 36;refine(BD _ _ hsz).mono ?_;rintro e w'⟨rfl,hw⟩;obtain rfl:=hw.symm;rw[HD.out])
   | (go_at_call 111;refine(BN h HN.out).mono ?_;rintro e w1⟨rfl,hg,hr⟩)
   | (go_at_call 87;refine(Oj _ _ hsz).mono ?_;rintro e w2⟨rfl,hb⟩))
  go_ret;exact Ends.yes HM.out (aW hg (DT hb _)) (hr.below hb) rfl
theorem XP{sb cap:Nat}{L:List Tk}{p:Nat}{w:World}{ts:List Tk}{o:Int}(h:Rd sb cap L p w ts o):
  Calls prog 114 #[.pointer (some ⟨p,0,none⟩)] w (Ends sb cap L p o K3 w (cK Lx.isName ts)):=by
 cases hr:cK Lx.isName ts with
 |error x=>
  obtain⟨n,a⟩:=x;have HR:Hid _:=hr;clear hr;go_enter func114,ntmps114
  go_wp2_with (go_at_call 147;refine(VY h).mono ?_;intro e w' he;obtain⟨rfl,hg⟩:=he.err HR.out)
  exact⟨rfl,Ends.no rfl hg⟩
 |ok x=>
  obtain⟨b,ts'⟩:=x;have HR:Hid _:=hr;clear hr;go_enter func114,ntmps114
  go_wp2_with (go_at_call 147;refine(VY h).mono ?_;intro e w' he;obtain⟨v,rfl,hg,hrd,rfl⟩:=he.ok HR.out)
  go_ret;exact Ends.yes rfl hg hrd rfl
theorem U1{sb cap:Nat}{L:List Tk}{p:Nat}{w:World}{ts:List Tk}{o:Int}(h:Rd sb cap L p w ts o):
  Calls prog 147 #[.pointer (some ⟨p,0,none⟩),.func (.func 38) #[] #[]] w (Ends sb cap L p o K3 w (cK Lx.isToken ts)):=by
 have hsz:=h.hsz;cases hd:Lx.isToken (Lx.hd ts)
 ·have hm:cK Lx.isToken ts=.error (2,Lx.pl ts):=if_neg (by rw[hd];simp)
  have HD:Hid _:=hd;have HM:Hid _:=hm;clear hd hm;go_enter func147,ntmps147
  go_wp2_with (first
   | (go_at_call 75;refine(oq h).mono ?_;rintro e w'⟨rfl,hw⟩;obtain rfl:=hw.symm)
   | (go_at_call 38;refine(JI _ _ hsz).mono ?_;rintro e w'⟨rfl,hw⟩;obtain rfl:=hw.symm;rw[HD.out])
   | (go_at_call 148;refine(Ke h 2).mono ?_;rintro e w'⟨rfl,hw⟩;obtain rfl:=hw.symm))
  exact⟨rfl,Ends.no HM.out (BB _ _)⟩
 ·have hm:cK Lx.isToken ts=.ok (Lx.hd ts,ts.tail):=if_pos hd
  have HN:Hid (Lx.hd ts≠aL):=NT hd;have HD:Hid _:=hd;have HM:Hid _:=hm;clear hd hm;go_enter func147,ntmps147
  go_wp2_with (first
   | (go_at_call 75;refine(oq h).mono ?_;rintro e w'⟨rfl,hw⟩;obtain rfl:=hw.symm)
   | (go_at_call 38;refine(JI _ _ hsz).mono ?_;rintro e w'⟨rfl,hw⟩;obtain rfl:=hw.symm;rw[HD.out])
   | (go_at_call 111;refine(BN h HN.out).mono ?_;rintro e w1⟨rfl,hg,hr⟩)
   | (go_at_call 87;refine(Oj _ _ hsz).mono ?_;rintro e w2⟨rfl,hb⟩))
  go_ret;exact Ends.yes HM.out (aW hg (DT hb _)) (hr.below hb) rfl
theorem zO{sb cap:Nat}{L:List Tk}{p:Nat}{w:World}{ts:List Tk}{o:Int}(h:Rd sb cap L p w ts o):
  Calls prog 112 #[.pointer (some ⟨p,0,none⟩)] w (Ends sb cap L p o K3 w (cK Lx.isToken ts)):=by
 cases hr:cK Lx.isToken ts with
 |error x=>
  obtain⟨n,a⟩:=x;have HR:Hid _:=hr;clear hr;go_enter func112,ntmps112
  go_wp2_with (go_at_call 147;refine(U1 h).mono ?_;intro e w' he;obtain⟨rfl,hg⟩:=he.err HR.out)
  exact⟨rfl,Ends.no rfl hg⟩
 |ok x=>
  obtain⟨b,ts'⟩:=x;have HR:Hid _:=hr;clear hr;go_enter func112,ntmps112
  go_wp2_with (go_at_call 147;refine(U1 h).mono ?_;intro e w' he;obtain⟨v,rfl,hg,hrd,rfl⟩:=he.ok HR.out)
  go_ret;exact Ends.yes rfl hg hrd rfl
end Go.Proofs.YtjaalkocdbkdeaaGreatDoor
namespace Go.Proofs.YtjaalkocdbkdeaaGreatDoor
open Lx Go.Proofs.Tryz
open Go.RowKit
open Lx (Tk)
theorem lC{a:ByteArray}{l:List UInt8}(h:a≠⟨l.toArray⟩):(a.toList == l)=false:=by
 rw[ByteArray.toList_eq];exact beq_eq_false_iff_ne.2 fun e=>h (ByteArray.ext (by rw[<-e]))
theorem O0{sb cap:Nat}{L:List Tk}{p:Nat}{w:World}{ts:List Tk}{o:Int}(h:Rd sb cap L p w ts o):
  Calls prog 176 #[.pointer (some ⟨p,0,none⟩)] w fun e w'=>e=.returned (.int .u8 ((bS ts).1:Int))/\w.grownBy w' (some p)/\Rd sb cap L p w' (bS ts).2 o:=by
 by_cases h1:Lx.hd ts=jq
 ·have HM:Hid (bS ts=(42,ts.tail)):=if_pos h1
  have HN:Hid (Lx.hd ts≠aL):=by rw[h1];show _≠_;decide
  have H1:Hid (Lx.hd ts=⟨#[42]⟩):=h1;clear h1;go_enter func176,ntmps176
  go_wp2_with (first
   | (go_at_call 75;refine(oq h).mono ?_;rintro e w'⟨rfl,hw⟩;obtain rfl:=hw.symm;rw[H1.out])
   | (go_at_call 111;refine(BN h HN.out).mono ?_;rintro e w1⟨rfl,hg,hr⟩))
  go_ret;rw[HM.out];exact⟨rfl,hg,hr⟩
 by_cases h2:Lx.hd ts=jW
 ·have HM:Hid (bS ts=(43,ts.tail)):=by show _=_;unfold bS;rw[if_neg h1,if_pos h2]
  have HN:Hid (Lx.hd ts≠aL):=by rw[h2];show _≠_;decide
  have H1:Hid (Lx.hd ts=⟨#[43]⟩):=h2;clear h1 h2;go_enter func176,ntmps176
  go_wp2_with (first
   | (go_at_call 75;refine(oq h).mono ?_;rintro e w'⟨rfl,hw⟩;obtain rfl:=hw.symm;rw[H1.out])
   | (go_at_call 111;refine(BN h HN.out).mono ?_;rintro e w1⟨rfl,hg,hr⟩))
  go_ret;rw[HM.out];exact⟨rfl,hg,hr⟩
 by_cases h3:Lx.hd ts=mJ
 ·have HM:Hid (bS ts=(63,ts.tail)):=by show _=_;unfold bS;rw[if_neg h1,if_neg h2,if_pos h3]
  have HN:Hid (Lx.hd ts≠aL):=by rw[h3];show _≠_;decide
  have H1:Hid (Lx.hd ts=⟨#[63]⟩):=h3;clear h1 h2 h3;go_enter func176,ntmps176
  go_wp2_with (first
   | (go_at_call 75;refine(oq h).mono ?_;rintro e w'⟨rfl,hw⟩;obtain rfl:=hw.symm;rw[H1.out])
   | (go_at_call 111;refine(BN h HN.out).mono ?_;rintro e w1⟨rfl,hg,hr⟩))
  go_ret;rw[HM.out];exact⟨rfl,hg,hr⟩
 have HM:Hid (bS ts=(0,ts)):=by show _=_;unfold bS;rw[if_neg h1,if_neg h2,if_neg h3]
 have g1:((Lx.hd ts).toList == [42])=false:=lC h1;have g2:((Lx.hd ts).toList == [43])=false:=lC h2;have g3:((Lx.hd ts).toList == [63])=false:=lC h3;clear h1 h2 h3;go_enter func176,ntmps176
 go_wp2_with (first
  | (go_at_call 75;refine(oq h).mono ?_;rintro e w'⟨rfl,hw⟩;obtain rfl:=hw.symm))
 go_ret;rw[HM.out];exact⟨rfl,BB _ _,h⟩
theorem FM(b:ByteArray)(w:World):
  Calls prog 74 #[.string b] w fun e w'=>e=.returned (.int .i64 (fF b))/\w'=w:=by
 by_cases h1:b=Aa
 ·subst h1
  unfold Aa;go_enter func74,ntmps74
  go_wp2
  go_ret;exact⟨rfl,rfl⟩
 by_cases h2:b=zW
 ·subst h2
  unfold zW;go_enter func74,ntmps74
  go_wp2
  go_ret;exact⟨rfl,rfl⟩
 by_cases h3:b=Ab
 ·subst h3
  unfold Ab;go_enter func74,ntmps74
  go_wp2
  go_ret;exact⟨rfl,rfl⟩
 have HM:Hid (fF b=-1):=by show _=_;unfold fF;rw[if_neg h1,if_neg h2,if_neg h3]
 have g1:(b.toList == [37,108,101,102,116])=false:=lC h1;have g2:(b.toList == [37,114,105,103,104,116])=false:=lC h2;have g3:(b.toList == [37,110,111,110,101])=false:=lC h3;clear h1 h2 h3;go_enter func74,ntmps74
 go_wp2
 go_ret;rw[HM.out];exact⟨rfl,rfl⟩
theorem FR{sb cap:Nat}{L:List Tk}{p:Nat}{w:World}{ts:List Tk}{o:Int}(h:Rd sb cap L p w ts o):
  Calls prog 166 #[.pointer (some ⟨p,0,none⟩)] w fun e w'=>e=.returned (.bool (jU ts))/\w'=w:=by
 have hsz:=h.hsz;cases h1:decide (Lx.hd ts=jg)
 ·cases h2:Lx.isName (Lx.hd ts)
  ·have HM:Hid (jU ts=Lx.isToken (Lx.hd ts)):=by show _=_;unfold jU;rw[h1,h2];simp
   have H1:Hid _:=h1;have H2:Hid _:=h2;clear h1 h2;go_enter func166,ntmps166
   go_wp2_with (first
    | (go_at_call 75;refine(oq h).mono ?_;rintro e w'⟨rfl,hw⟩;obtain rfl:=hw.symm)
    | (go_at_call 78;refine(uX h jg).mono ?_;rintro e w'⟨rfl,hw⟩;obtain rfl:=hw.symm;rw[H1.out])
    | (go_at_call 36;refine(BD _ _ hsz).mono ?_;rintro e w'⟨rfl,hw⟩;obtain rfl:=hw.symm;rw[H2.out])
    | (go_at_call 38;refine(JI _ _ hsz).mono ?_;rintro e w'⟨rfl,hw⟩;obtain rfl:=hw.symm))
   go_ret;rw[HM.out];exact⟨rfl,rfl⟩
  ·have HM:Hid (jU ts=true):=by show _=_;unfold jU;rw[h1,h2];simp
   have H1:Hid _:=h1;have H2:Hid _:=h2;clear h1 h2;go_enter func166,ntmps166
   go_wp2_with (first
    | (go_at_call 75;refine(oq h).mono ?_;rintro e w'⟨rfl,hw⟩;obtain rfl:=hw.symm)
    | (go_at_call 78;refine(uX h jg).mono ?_;rintro e w'⟨rfl,hw⟩;obtain rfl:=hw.symm;rw[H1.out])
    | (go_at_call 36;refine(BD _ _ hsz).mono ?_;rintro e w'⟨rfl,hw⟩;obtain rfl:=hw.symm;rw[H2.out]))
   go_ret;rw[HM.out];exact⟨rfl,rfl⟩
 ·have HM:Hid (jU ts=true):=by show _=_;unfold jU;rw[h1];simp
  have H1:Hid _:=h1;clear h1;go_enter func166,ntmps166
  go_wp2_with (first
   | (go_at_call 78;refine(uX h jg).mono ?_;rintro e w'⟨rfl,hw⟩;obtain rfl:=hw.symm;rw[H1.out]))
  go_ret;rw[HM.out];exact⟨rfl,rfl⟩
end Go.Proofs.YtjaalkocdbkdeaaGreatDoor
namespace Go.Proofs.YtjaalkocdbkdeaaGreatDoor
open Lx Go.Proofs.Tryz
open Go.RowKit
open Lx (Tk)
open Tr
def YP:Lay:={ eA:=195,sA:=2,cA:=fun q=>[q.1,.string q.2.2.1],eI:=187,sI:=4,cI:=fun q=>[.int .i64 (q.2.kind:Int),.string q.2.name,.int .u8 (q.2.mark:Int),q.1] }
def BS(d lo:Nat)(w':World)(v:Value)(l:List Lx.Alt):Prop:=eO YP d (In lo w'.heap.size) w' v l
def K4(d lo:Nat)(w':World)(v:Value)(it:Lx.It):Prop:=∃va,v=.agg #[.int .i64 (it.kind:Int),.string it.name,.int .u8 (it.mark:Int),va]/\eO YP d (In lo w'.heap.size) w' va it.alts
def ajy(d lo:Nat)(w':World)(v:Value)(a:Lx.Alt):Prop:=∃vi,v=.agg #[vi,.string a.2.1]/\qZ YP d (In lo w'.heap.size) w' vi a.1
def OI(d:Nat):Prop:=∀(sb cap:Nat)(L:List Tk)(p:Nat)(w:World)(ts:List Tk)(o:Int),o=8 - (d:Int)->Rd sb cap L p w ts o ->
 Calls prog 116 #[.pointer (some ⟨p,0,none⟩)] w (Ends sb cap L p o (BS (d+1) w.heap.size) w (iP d ts))
def J5(d:Nat):Prop:=∀(sb cap:Nat)(L:List Tk)(p:Nat)(w:World)(ts:List Tk)(o:Int),o=8 - (d:Int)->Rd sb cap L p w ts o->Lx.hd ts=jg ->
 Calls prog 175 #[.pointer (some ⟨p,0,none⟩)] w (Ends sb cap L p o (BS d w.heap.size) w (bB d ts))
def WX(d:Nat):Prop:=∀(sb cap:Nat)(L:List Tk)(p:Nat)(w:World)(ts:List Tk)(o:Int),o=8 - (d:Int)->Rd sb cap L p w ts o->jU ts=true ->
 Calls prog 167 #[.pointer (some ⟨p,0,none⟩)] w (Ends sb cap L p o (K4 d w.heap.size) w (cO (bB d) ts))
def XQ(d:Nat):Prop:=∀(sb cap:Nat)(L:List Tk)(p:Nat)(w:World)(ts:List Tk)(o:Int),o=8 - (d:Int)->Rd sb cap L p w ts o ->
 Calls prog 149 #[.pointer (some ⟨p,0,none⟩)] w (Ends sb cap L p o (ajy d w.heap.size) w (dG (bB d) (d == 8) ts))
theorem BS.move{d lo lo':Nat}{w w':World}{v:Value}{l:List Lx.Alt}(h:BS d lo w v l)(hlo:lo'<=lo){r:Option Nat}(hg:w.grownBy w' r)(hr:∀k,r=some k->k<lo):BS d lo' w' v l :=
 eO.move (fun b hb=>hg.block b hb.2 fun e=>by have:=hr b e.symm;have:=hb.1;omega) (fun b hb=>⟨Nat.le_trans hlo hb.1,Nat.lt_of_lt_of_le hb.2 hg.size⟩) h
theorem ae1:J5 0:=by
 intro sb cap L p w ts o ho h hd;have hop:=h.op;have h8:(o == 8)=true:=beq_iff_eq.2 (by simpa using ho);have HO:Hid _:=ho;have HD:Hid _:=hd;clear ho hd;go_enter func175,ntmps175;go_wp2_with fail;refine(Ke h 3).mono ?_;rintro e w'⟨rfl,hw⟩;obtain rfl:=hw.symm;go_wp2_with fail;exact⟨rfl,Ends.no rfl (BB _ _)⟩
theorem ae2{d:Nat}(hd8:d<8)(HA:OI d):J5 (d+1):=by
 intro sb cap L p w ts o ho h hd;have hop:=h.op;have hfz:=h.rC;have h8:(o == 8)=false:=beq_eq_false_iff_ne.2 (by omega);have hb0:0<=o:=by omega
 have hb1:o<=8:=by omega
 have HO:Hid (o+1=8 - (d:Int)):=by show _=_;omega
 have HD:Hid _:=hd;have HP:Hid (gF jg ts=.ok ((),ts.tail)):=if_pos hd;clear ho hd;have hR:=h.reopen (o+1);go_enter func175,ntmps175;go_wp2_with fail;refine(JG hR jg (by decide)).mono ?_;intro e w1 he;obtain⟨v,rfl,hg1,hr1,rfl⟩:=he.ok HP.out;clear he;go_wp2_with fail;refine(HA sb cap L p _ _ _ HO.out hr1).mono ?_;intro e w2 he;have G1:=aW (gu w p 1 (.int .i64 (o+1))) hg1;cases hr2:iP d ts.tail with
 |error x=>
  obtain⟨n,a⟩:=x;obtain⟨rfl,hg2⟩:=he.err hr2;exact⟨rfl,Ends.no (by simp only[bB,nJ,hr2]) (aW G1 hg2)⟩
 |ok x=>
  obtain⟨l,bL⟩:=x;obtain⟨v,rfl,hg2,GI,hv⟩:=he.ok hr2;have HR2:Hid _:=hr2;clear hr2 he;go_wp2_with fail;refine(JG GI r9 (by decide)).mono ?_;intro e w3 he;have G2:=aW G1 hg2;cases hr3:gF r9 bL with
  |error x=>
   obtain⟨n,a⟩:=x;obtain⟨rfl,hg3⟩:=he.err hr3;exact⟨rfl,Ends.no (by simp only[bB,nJ,HR2.out,hr3]) (aW G2 hg3)⟩
  |ok x=>
   obtain⟨u,eF⟩:=x;obtain⟨v',rfl,hg3,Cc,rfl⟩:=he.ok hr3;have HR3:Hid _:=hr3;clear hr3 he;have G3:=aW G2 hg3;have al9:=Cc.op;have ama:=Cc.rC;go_wp2_with fail;go_ret;refine Ends.yes (x:=l) (ts':=eF) (by simp only[bB,nJ,HR2.out,HR3.out]) (aW G3 (gu w3 p 1 _)) (Cc.reopen o) ?_;have hl1:=G1.size;have hp:=h.lt;exact(hv.move hl1 hg3 (fun k hk=>by cases hk;omega)).move (Nat.le_refl _) (gu w3 p 1 _) (fun k hk=>by cases hk;omega)
end Go.Proofs.YtjaalkocdbkdeaaGreatDoor

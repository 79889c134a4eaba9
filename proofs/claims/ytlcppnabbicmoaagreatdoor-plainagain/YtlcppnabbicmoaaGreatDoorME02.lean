import Derived.Test.YtlcppnabbicmoaaGreatDoorME01
set_option maxHeartbeats 8000000
set_option maxRecDepth 1000000
namespace Go.Proofs.YtlcppnabbicmoaaGreatDoor
open Go.RowKit
open Lx (Tk)
namespace Lx
theorem allOf_iff (p:Int->Bool)(b:ByteArray):allOf p b=true↔∀ j,j<b.size->(p (byteAt b j) || digit (byteAt b j))=true:=by
 unfold allOf;rw[List.all_eq_true];constructor
 ·intro h j hj
  have hj':j<b.data.toList.length:=by simpa using hj
  have h1:=h b.data.toList[j] (List.getElem_mem hj');rw[byteAt_eq b j hj];exact h1
 ·intro h c hc
  obtain⟨j,hj,rfl⟩:=List.getElem_of_mem hc;have hj':j<b.size:=by simpa using hj
  have h1:=h j hj';rw[byteAt_eq b j hj']at h1;exact h1
theorem isWord_of {p:Int->Bool}{b:ByteArray}(h0:0<b.size)(h1:b.size<=12)(h2:p (byteAt b 0)=true)(h3:∀ j,j<b.size->(p (byteAt b j) || digit (byteAt b j))=true):isWord p b=true:=by
 unfold isWord;rw[(allOf_iff p b).2 h3,h2];simp[h0,h1]
theorem isWord_short {p:Int->Bool}{b:ByteArray}(h0:b.size=0):isWord p b=false:=by
 unfold isWord;simp[h0]
theorem isWord_long {p:Int->Bool}{b:ByteArray}(h0:12<b.size):isWord p b=false:=by
 unfold isWord;simp[show ¬ b.size<=12 by omega]
theorem isWord_first {p:Int->Bool}{b:ByteArray}(h0:p (byteAt b 0)=false):isWord p b=false:=by
 unfold isWord;simp[h0]
theorem isWord_not {p:Int->Bool}{b:ByteArray}{j:Nat}(hj:j<b.size)(h1:p (byteAt b j)=false)(h2:digit (byteAt b j)=false):isWord p b=false:=by
 have:allOf p b=false:=by
  cases ha:allOf p b
  ·rfl
  ·have:=(allOf_iff p b).1 ha j hj
   simp[h1,h2]at this
 unfold isWord;simp[this]
end Lx
theorem isWordOf_small (b:ByteArray) (w:World) (hs:b.size<=2000) :
  Calls Tryz.prog 91 #[.string b,.func (.func 92) #[] #[]] w fun e w'=>e=.returned (.bool (Lx.isWord Lx.small b))/\w'=w:=by
 by_cases h0:b.size=0
 ·have he:=Lx.isWord_short (p:=Lx.small) h0
  have HE:Hid _:=he;clear he;have h0':((b.size:Int) == 0)=true:=beq_iff_eq.2 (by omega);go_enter Tryz.func91,Tryz.ntmps91;go_wp2_with fail;go_ret;exact⟨ret_bool HE.out.symm,rfl⟩
 have h0':((b.size:Int) == 0)=false:=beq_eq_false_iff_ne.2 (by omega)
 by_cases h1:12<b.size
 ·have he:=Lx.isWord_long (p:=Lx.small) h1
  have HE:Hid _:=he;clear he;go_enter Tryz.func91,Tryz.ntmps91;go_wp2_with fail;go_ret;exact⟨ret_bool HE.out.symm,rfl⟩
 have hpos:0<b.size:=by omega
 have hbd:=Lx.byteAt_bd b 0;rw[Lx.byteAt_eq b 0 hpos]at hbd;have h1':decide (12<(b.size:Int))=false:=decide_eq_false (by omega);cases h2:Lx.small (b[0].toNat:Int)
 ·have he:=Lx.isWord_first (p:=Lx.small) (b:=b) (by rw[Lx.byteAt_eq b 0 hpos];exact h2)
  have HE:Hid _:=he;have H2:Hid _:=h2;clear he h2;go_enter Tryz.func91,Tryz.ntmps91
  go_wp2_with (go_at_call 92;refine (isSmall_any _ _ (by omega) (by omega)).mono ?_;rintro e w' ⟨rfl,hw⟩;obtain rfl:=hw.symm;rw[H2.out])
  go_ret;exact⟨ret_bool HE.out.symm,rfl⟩
 ·have H2:Hid _:=h2
  clear h2;go_enter Tryz.func91,Tryz.ntmps91
  go_wp2_with (go_at_call 92;refine (isSmall_any _ _ (by omega) (by omega)).mono ?_;rintro e w' ⟨rfl,hw⟩;obtain rfl:=hw.symm;rw[H2.out])
  go_loop [23] (fun i=>∃ (k:Nat),k<=b.size/\i=.int .i64 k/\Hid (∀ j,j<k->(Lx.small (Lx.byteAt b j) || Lx.digit (Lx.byteAt b j))=true)) (fun i=>b.size - (intOf i).toNat)
  case atStart=>exact⟨0,by omega,rfl,fun j hj=>absurd hj (by omega)⟩
  case round =>
   obtain⟨k,hk,rfl,hg⟩:=hrel
   by_cases hlt:k<b.size
   ·have hbd:=Lx.byteAt_bd b k
    have hbe:=Lx.byteAt_eq b k hlt;rw[hbe]at hbd;have HB:Hid _:=hbe;clear hbe;cases h3:Lx.small (b[k].toNat:Int)
    ·have H3:Hid _:=h3
     clear h3;cases h4:Lx.digit (b[k].toNat:Int)
     ·have H4:Hid _:=h4
      clear h4
      go_wp2_with (first
       | (go_at_call 92;refine (isSmall_any _ _ (by omega) (by omega)).mono ?_;rintro e w' ⟨rfl,hw⟩;obtain rfl:=hw.symm;rw[H3.out])
       | (go_at_call 127;refine (isDigit_any _ _ (by omega) (by omega)).mono ?_;rintro e w' ⟨rfl,hw⟩;obtain rfl:=hw.symm;rw[H4.out]))
      go_ret;exact⟨ret_bool (Lx.isWord_not hlt (by rw[HB.out];exact H3.out) (by rw[HB.out];exact H4.out)).symm,rfl⟩
     ·have H4:Hid _:=h4
      clear h4
      go_wp2_with (first
       | (go_at_call 92;refine (isSmall_any _ _ (by omega) (by omega)).mono ?_;rintro e w' ⟨rfl,hw⟩;obtain rfl:=hw.symm;rw[H3.out])
       | (go_at_call 127;refine (isDigit_any _ _ (by omega) (by omega)).mono ?_;rintro e w' ⟨rfl,hw⟩;obtain rfl:=hw.symm;rw[H4.out]))
      refine⟨⟨k+1,by omega,by go_num,?_⟩,by simp[intOf];omega⟩;intro j hj
      by_cases hjk:j=k
      ·subst hjk;rw[HB.out,H4.out];simp
      ·exact hg.out j (by omega)
    ·have H3:Hid _:=h3
     clear h3
     go_wp2_with (first
      | (go_at_call 92;refine (isSmall_any _ _ (by omega) (by omega)).mono ?_;rintro e w' ⟨rfl,hw⟩;obtain rfl:=hw.symm;rw[H3.out]))
     refine⟨⟨k+1,by omega,by go_num,?_⟩,by simp[intOf];omega⟩;intro j hj
     by_cases hjk:j=k
     ·subst hjk;rw[HB.out,H3.out];simp
     ·exact hg.out j (by omega)
   ·go_wp2_with fail
    go_ret;exact⟨ret_bool (Lx.isWord_of hpos (by omega) (by rw[Lx.byteAt_eq b 0 hpos];exact H2.out) (fun j hj=>hg.out j (by omega))).symm,rfl⟩
theorem isWordOf_capital (b:ByteArray) (w:World) (hs:b.size<=2000) :
  Calls Tryz.prog 91 #[.string b,.func (.func 93) #[] #[]] w fun e w'=>e=.returned (.bool (Lx.isWord Lx.capital b))/\w'=w:=by
 by_cases h0:b.size=0
 ·have he:=Lx.isWord_short (p:=Lx.capital) h0
  have HE:Hid _:=he;clear he;have h0':((b.size:Int) == 0)=true:=beq_iff_eq.2 (by omega);go_enter Tryz.func91,Tryz.ntmps91;go_wp2_with fail;go_ret;exact⟨ret_bool HE.out.symm,rfl⟩
 have h0':((b.size:Int) == 0)=false:=beq_eq_false_iff_ne.2 (by omega)
 by_cases h1:12<b.size
 ·have he:=Lx.isWord_long (p:=Lx.capital) h1
  have HE:Hid _:=he;clear he;go_enter Tryz.func91,Tryz.ntmps91;go_wp2_with fail;go_ret;exact⟨ret_bool HE.out.symm,rfl⟩
 have hpos:0<b.size:=by omega
 have hbd:=Lx.byteAt_bd b 0;rw[Lx.byteAt_eq b 0 hpos]at hbd;have h1':decide (12<(b.size:Int))=false:=decide_eq_false (by omega);cases h2:Lx.capital (b[0].toNat:Int)
 ·have he:=Lx.isWord_first (p:=Lx.capital) (b:=b) (by rw[Lx.byteAt_eq b 0 hpos];exact h2)
  have HE:Hid _:=he;have H2:Hid _:=h2;clear he h2;go_enter Tryz.func91,Tryz.ntmps91
  go_wp2_with (go_at_call 93;refine (isCapital_any _ _ (by omega) (by omega)).mono ?_;rintro e w' ⟨rfl,hw⟩;obtain rfl:=hw.symm;rw[H2.out])
  go_ret;exact⟨ret_bool HE.out.symm,rfl⟩
 ·have H2:Hid _:=h2
  clear h2;go_enter Tryz.func91,Tryz.ntmps91
  go_wp2_with (go_at_call 93;refine (isCapital_any _ _ (by omega) (by omega)).mono ?_;rintro e w' ⟨rfl,hw⟩;obtain rfl:=hw.symm;rw[H2.out])
  go_loop [23] (fun i=>∃ (k:Nat),k<=b.size/\i=.int .i64 k/\Hid (∀ j,j<k->(Lx.capital (Lx.byteAt b j) || Lx.digit (Lx.byteAt b j))=true)) (fun i=>b.size - (intOf i).toNat)
  case atStart=>exact⟨0,by omega,rfl,fun j hj=>absurd hj (by omega)⟩
  case round =>
   obtain⟨k,hk,rfl,hg⟩:=hrel
   by_cases hlt:k<b.size
   ·have hbd:=Lx.byteAt_bd b k
    have hbe:=Lx.byteAt_eq b k hlt;rw[hbe]at hbd;have HB:Hid _:=hbe;clear hbe;cases h3:Lx.capital (b[k].toNat:Int)
    ·have H3:Hid _:=h3
     clear h3;cases h4:Lx.digit (b[k].toNat:Int)
     ·have H4:Hid _:=h4
      clear h4
      go_wp2_with (first
       | (go_at_call 93;refine (isCapital_any _ _ (by omega) (by omega)).mono ?_;rintro e w' ⟨rfl,hw⟩;obtain rfl:=hw.symm;rw[H3.out])
       | (go_at_call 127;refine (isDigit_any _ _ (by omega) (by omega)).mono ?_;rintro e w' ⟨rfl,hw⟩;obtain rfl:=hw.symm;rw[H4.out]))
      go_ret;exact⟨ret_bool (Lx.isWord_not hlt (by rw[HB.out];exact H3.out) (by rw[HB.out];exact H4.out)).symm,rfl⟩
     ·have H4:Hid _:=h4
      clear h4
      go_wp2_with (first
       | (go_at_call 93;refine (isCapital_any _ _ (by omega) (by omega)).mono ?_;rintro e w' ⟨rfl,hw⟩;obtain rfl:=hw.symm;rw[H3.out])
       | (go_at_call 127;refine (isDigit_any _ _ (by omega) (by omega)).mono ?_;rintro e w' ⟨rfl,hw⟩;obtain rfl:=hw.symm;rw[H4.out]))
      refine⟨⟨k+1,by omega,by go_num,?_⟩,by simp[intOf];omega⟩;intro j hj
      by_cases hjk:j=k
      ·subst hjk;rw[HB.out,H4.out];simp
      ·exact hg.out j (by omega)
    ·have H3:Hid _:=h3
     clear h3
     go_wp2_with (first
      | (go_at_call 93;refine (isCapital_any _ _ (by omega) (by omega)).mono ?_;rintro e w' ⟨rfl,hw⟩;obtain rfl:=hw.symm;rw[H3.out]))
     refine⟨⟨k+1,by omega,by go_num,?_⟩,by simp[intOf];omega⟩;intro j hj
     by_cases hjk:j=k
     ·subst hjk;rw[HB.out,H3.out];simp
     ·exact hg.out j (by omega)
   ·go_wp2_with fail
    go_ret;exact⟨ret_bool (Lx.isWord_of hpos (by omega) (by rw[Lx.byteAt_eq b 0 hpos];exact H2.out) (fun j hj=>hg.out j (by omega))).symm,rfl⟩
theorem IsName_any (b:ByteArray) (w:World) (hs:b.size<=2000) :
  Calls Tryz.prog 45 #[.string b] w fun e w'=>e=.returned (.bool (Lx.isName b))/\w'=w:=by
 go_enter Tryz.func45,Tryz.ntmps45
 go_wp2_with (go_at_call 91;refine (isWordOf_small _ _ hs).mono ?_;rintro e w' ⟨rfl,hw⟩;obtain rfl:=hw.symm)
 go_ret;exact⟨rfl,rfl⟩
theorem IsToken_any (b:ByteArray) (w:World) (hs:b.size<=2000) :
  Calls Tryz.prog 47 #[.string b] w fun e w'=>e=.returned (.bool (Lx.isToken b))/\w'=w:=by
 go_enter Tryz.func47,Tryz.ntmps47
 go_wp2_with (go_at_call 91;refine (isWordOf_capital _ _ hs).mono ?_;rintro e w' ⟨rfl,hw⟩;obtain rfl:=hw.symm)
 go_ret;exact⟨rfl,rfl⟩
end Go.Proofs.YtlcppnabbicmoaaGreatDoor

import Derived.Test.YtagkodkijkpemaaGreatDoorRA01
import Derived.Shelf.LaysM
import Derived.Shelf.Strconv.Clone
import Derived.Test.YtagkodkijkpemaaGreatDoorProg
set_option maxHeartbeats 8000000
set_option maxRecDepth 1000000
namespace Go.Proofs.YtagkodkijkpemaaGreatDoor
open Lx Go.Proofs.Tryz
open Go.RowKit
open Lx (Tk)
namespace Lx
theorem Zk(p:Int->Bool)(b:ByteArray):FL p b=true↔∀j,j<b.size->(p (iy b j) || digit (iy b j))=true:=by
 unfold FL;rw[List.all_eq_true];constructor
 ·intro h j hj
  have hj':j<b.data.toList.length:=by simpa using hj
  have h1:=h b.data.toList[j] (List.getElem_mem hj');rw[oz b j hj];exact h1
 ·intro h c hc
  obtain⟨j,hj,rfl⟩:=List.getElem_of_mem hc;have hj':j<b.size:=by simpa using hj
  have h1:=h j hj';rw[oz b j hj']at h1;exact h1
theorem Zl{p:Int->Bool}{b:ByteArray}(h0:0<b.size)(h1:b.size<=12)(h2:p (iy b 0)=true)(h3:∀j,j<b.size->(p (iy b j) || digit (iy b j))=true):isWord p b=true:=by
 unfold isWord;rw[(Zk p b).2 h3,h2];simp[h0,h1]
theorem Xn{p:Int->Bool}{b:ByteArray}(h0:b.size=0):isWord p b=false:=by
 unfold isWord;simp[h0]
theorem XQ{p:Int->Bool}{b:ByteArray}(h0:12<b.size):isWord p b=false:=by
 unfold isWord;simp[show ¬b.size<=12 by omega]
theorem Xo{p:Int->Bool}{b:ByteArray}(h0:p (iy b 0)=false):isWord p b=false:=by
 unfold isWord;simp[h0]
theorem Yt{p:Int->Bool}{b:ByteArray}{j:Nat}(hj:j<b.size)(h1:p (iy b j)=false)(h2:digit (iy b j)=false):isWord p b=false:=by
 have:FL p b=false:=by
  cases ha:FL p b
  ·rfl
  ·have:=(Zk p b).1 ha j hj
   simp[h1,h2]at this
 unfold isWord;simp[this]
end Lx
theorem aeK(b:ByteArray)(w:World)(hs:b.size<=2000):
  Calls prog 115 #[.string b,.func (.func 116) #[] #[]] w fun e w'=>e=.returned (.bool (Lx.isWord Lx.small b))/\w'=w:=by
 by_cases h0:b.size=0
 ·have he:=Xn (p:=Lx.small) h0
  have HE:Hid _:=he;clear he;have h0':((b.size:Int) == 0)=true:=beq_iff_eq.2 (by omega);go_enter func115,ntmps115;go_wp2_with fail;go_ret;exact⟨iN HE.out.symm,rfl⟩
 have h0':((b.size:Int) == 0)=false:=beq_eq_false_iff_ne.2 (by omega)
 by_cases h1:12<b.size
 ·have he:=XQ (p:=Lx.small) h1
  have HE:Hid _:=he;clear he;go_enter func115,ntmps115;go_wp2_with fail;go_ret;exact⟨iN HE.out.symm,rfl⟩
 have hpos:0<b.size:=by omega
 have hbd:=Dh b 0;rw[oz b 0 hpos]at hbd;have h1':decide (12<(b.size:Int))=false:=decide_eq_false (by omega);cases h2:Lx.small (b[0].toNat:Int)
 ·have he:=Xo (p:=Lx.small) (b:=b) (by rw[oz b 0 hpos];exact h2)
  have HE:Hid _:=he;have H2:Hid _:=h2;clear he h2;go_enter func115,ntmps115
  go_wp2_with (go_at_call 116;refine(Da _ _ (by omega) (by omega)).mono ?_;rintro e w'⟨rfl,hw⟩;obtain rfl:=hw.symm;rw[H2.out])
  go_ret;exact⟨iN HE.out.symm,rfl⟩
 ·have H2:Hid _:=h2
  clear h2;go_enter func115,ntmps115
  go_wp2_with (go_at_call 116;refine(Da _ _ (by omega) (by omega)).mono ?_;rintro e w'⟨rfl,hw⟩;obtain rfl:=hw.symm;rw[H2.out])
  go_loop [23] (fun i=>∃(k:Nat),k<=b.size/\i=.int .i64 k/\Hid (∀j,j<k->(Lx.small (iy b j) || Lx.digit (iy b j))=true)) (fun i=>b.size - (intOf i).toNat)
  case atStart=>exact⟨0,by omega,rfl,fun j hj=>absurd hj (by omega)⟩
  case round=>
   obtain⟨k,hk,rfl,hg⟩:=hrel
   by_cases hlt:k<b.size
   ·have hbd:=Dh b k
    have hbe:=oz b k hlt;rw[hbe]at hbd;have HB:Hid _:=hbe;clear hbe;cases h3:Lx.small (b[k].toNat:Int)
    ·have H3:Hid _:=h3
     clear h3;cases h4:Lx.digit (b[k].toNat:Int)
     ·have H4:Hid _:=h4
      clear h4
      go_wp2_with (first
       | (go_at_call 116;refine(Da _ _ (by omega) (by omega)).mono ?_;rintro e w'⟨rfl,hw⟩;obtain rfl:=hw.symm;rw[H3.out])
       | (go_at_call 156;refine(Ip _ _ (by omega) (by omega)).mono ?_;rintro e w'⟨rfl,hw⟩;obtain rfl:=hw.symm;rw[H4.out]))
      go_ret;exact⟨iN (Yt hlt (by rw[HB.out];exact H3.out) (by rw[HB.out];exact H4.out)).symm,rfl⟩
     ·have H4:Hid _:=h4
      clear h4
      go_wp2_with (first
       | (go_at_call 116;refine(Da _ _ (by omega) (by omega)).mono ?_;rintro e w'⟨rfl,hw⟩;obtain rfl:=hw.symm;rw[H3.out])
       | (go_at_call 156;refine(Ip _ _ (by omega) (by omega)).mono ?_;rintro e w'⟨rfl,hw⟩;obtain rfl:=hw.symm;rw[H4.out]))
      refine⟨⟨k+1,by omega,by go_num,?_⟩,by simp[intOf];omega⟩;intro j hj
      by_cases hjk:j=k
      ·subst hjk;rw[HB.out,H4.out];simp
      ·exact hg.out j (by omega)
    ·have H3:Hid _:=h3
     clear h3
     go_wp2_with (first
      | (go_at_call 116;refine(Da _ _ (by omega) (by omega)).mono ?_;rintro e w'⟨rfl,hw⟩;obtain rfl:=hw.symm;rw[H3.out]))
     refine⟨⟨k+1,by omega,by go_num,?_⟩,by simp[intOf];omega⟩;intro j hj
     by_cases hjk:j=k
     ·subst hjk;rw[HB.out,H3.out];simp
     ·exact hg.out j (by omega)
   ·go_wp2_with fail
    go_ret;exact⟨iN (Zl hpos (by omega) (by rw[oz b 0 hpos];exact H2.out) (fun j hj=>hg.out j (by omega))).symm,rfl⟩
theorem aeE(b:ByteArray)(w:World)(hs:b.size<=2000):
  Calls prog 115 #[.string b,.func (.func 117) #[] #[]] w fun e w'=>e=.returned (.bool (Lx.isWord Lx.capital b))/\w'=w:=by
 by_cases h0:b.size=0
 ·have he:=Xn (p:=Lx.capital) h0
  have HE:Hid _:=he;clear he;have h0':((b.size:Int) == 0)=true:=beq_iff_eq.2 (by omega);go_enter func115,ntmps115;go_wp2_with fail;go_ret;exact⟨iN HE.out.symm,rfl⟩
 have h0':((b.size:Int) == 0)=false:=beq_eq_false_iff_ne.2 (by omega)
 by_cases h1:12<b.size
 ·have he:=XQ (p:=Lx.capital) h1
  have HE:Hid _:=he;clear he;go_enter func115,ntmps115;go_wp2_with fail;go_ret;exact⟨iN HE.out.symm,rfl⟩
 have hpos:0<b.size:=by omega
 have hbd:=Dh b 0;rw[oz b 0 hpos]at hbd;have h1':decide (12<(b.size:Int))=false:=decide_eq_false (by omega);cases h2:Lx.capital (b[0].toNat:Int)
 ·have he:=Xo (p:=Lx.capital) (b:=b) (by rw[oz b 0 hpos];exact h2)
  have HE:Hid _:=he;have H2:Hid _:=h2;clear he h2;go_enter func115,ntmps115
  go_wp2_with (go_at_call 117;refine(EK _ _ (by omega) (by omega)).mono ?_;rintro e w'⟨rfl,hw⟩;obtain rfl:=hw.symm;rw[H2.out])
  go_ret;exact⟨iN HE.out.symm,rfl⟩
 ·have H2:Hid _:=h2
  clear h2;go_enter func115,ntmps115
  go_wp2_with (go_at_call 117;refine(EK _ _ (by omega) (by omega)).mono ?_;rintro e w'⟨rfl,hw⟩;obtain rfl:=hw.symm;rw[H2.out])
  go_loop [23] (fun i=>∃(k:Nat),k<=b.size/\i=.int .i64 k/\Hid (∀j,j<k->(Lx.capital (iy b j) || Lx.digit (iy b j))=true)) (fun i=>b.size - (intOf i).toNat)
  case atStart=>exact⟨0,by omega,rfl,fun j hj=>absurd hj (by omega)⟩
  case round=>
   obtain⟨k,hk,rfl,hg⟩:=hrel
   by_cases hlt:k<b.size
   ·have hbd:=Dh b k
    have hbe:=oz b k hlt;rw[hbe]at hbd;have HB:Hid _:=hbe;clear hbe;cases h3:Lx.capital (b[k].toNat:Int)
    ·have H3:Hid _:=h3
     clear h3;cases h4:Lx.digit (b[k].toNat:Int)
     ·have H4:Hid _:=h4
      clear h4
      go_wp2_with (first
       | (go_at_call 117;refine(EK _ _ (by omega) (by omega)).mono ?_;rintro e w'⟨rfl,hw⟩;obtain rfl:=hw.symm;rw[H3.out])
       | (go_at_call 156;refine(Ip _ _ (by omega) (by omega)).mono ?_;rintro e w'⟨rfl,hw⟩;obtain rfl:=hw.symm;rw[H4.out]))
      go_ret;exact⟨iN (Yt hlt (by rw[HB.out];exact H3.out) (by rw[HB.out];exact H4.out)).symm,rfl⟩
     ·have H4:Hid _:=h4
      clear h4
      go_wp2_with (first
       | (go_at_call 117;refine(EK _ _ (by omega) (by omega)).mono ?_;rintro e w'⟨rfl,hw⟩;obtain rfl:=hw.symm;rw[H3.out])
       | (go_at_call 156;refine(Ip _ _ (by omega) (by omega)).mono ?_;rintro e w'⟨rfl,hw⟩;obtain rfl:=hw.symm;rw[H4.out]))
      refine⟨⟨k+1,by omega,by go_num,?_⟩,by simp[intOf];omega⟩;intro j hj
      by_cases hjk:j=k
      ·subst hjk;rw[HB.out,H4.out];simp
      ·exact hg.out j (by omega)
    ·have H3:Hid _:=h3
     clear h3
     go_wp2_with (first
      | (go_at_call 117;refine(EK _ _ (by omega) (by omega)).mono ?_;rintro e w'⟨rfl,hw⟩;obtain rfl:=hw.symm;rw[H3.out]))
     refine⟨⟨k+1,by omega,by go_num,?_⟩,by simp[intOf];omega⟩;intro j hj
     by_cases hjk:j=k
     ·subst hjk;rw[HB.out,H3.out];simp
     ·exact hg.out j (by omega)
   ·go_wp2_with fail
    go_ret;exact⟨iN (Zl hpos (by omega) (by rw[oz b 0 hpos];exact H2.out) (fun j hj=>hg.out j (by omega))).symm,rfl⟩
theorem Df(b:ByteArray)(w:World)(hs:b.size<=2000):
  Calls prog 72 #[.string b] w fun e w'=>e=.returned (.bool (Lx.isName b))/\w'=w:=by
 go_enter func72,ntmps72
 go_wp2_with (go_at_call 115;refine(aeK _ _ hs).mono ?_;rintro e w'⟨rfl,hw⟩;obtain rfl:=hw.symm)
 go_ret;exact⟨rfl,rfl⟩
theorem L8(b:ByteArray)(w:World)(hs:b.size<=2000):
  Calls prog 74 #[.string b] w fun e w'=>e=.returned (.bool (Lx.isToken b))/\w'=w:=by
 go_enter func74,ntmps74
 go_wp2_with (go_at_call 115;refine(aeE _ _ hs).mono ?_;rintro e w'⟨rfl,hw⟩;obtain rfl:=hw.symm)
 go_ret;exact⟨rfl,rfl⟩
end Go.Proofs.YtagkodkijkpemaaGreatDoor
namespace Go.Proofs
open Go.Shelf
def Tryz.afe:Go.Shelf.Ren:=⟨fun | 316=>89 | n=>n,fun | 9=>9 | 3=>3 | 4=>4 | 37=>112 | 0=>0 | 127=>271 | 5=>5 | n=>n,fun | n=>n⟩
theorem Tryz.ai7:Go.Proofs.LaysM.n316 prog Tryz.afe:={
 mixed:=by kernel_rfl
 f316:=func89.trans (congrArg some (by kernel_rfl))
 t0:=underlying0
 a0:=Tryz.isAgg0
 z0:=Tryz.sizeOf0
 v0:=Tryz.zeroValue0
 t3:=underlying3
 a3:=Tryz.isAgg3
 z3:=Tryz.sizeOf3
 v3:=Tryz.zeroValue3
 t4:=underlying4
 a4:=Tryz.isAgg4
 z4:=Tryz.sizeOf4
 v4:=Tryz.zeroValue4
 t9:=underlying9
 a9:=Tryz.isAgg9
 z9:=Tryz.sizeOf9
 v9:=Tryz.zeroValue9
 t37:=underlying112
 a37:=Tryz.isAgg112
 z37:=Tryz.sizeOf112
 v37:=Tryz.zeroValue112
 t127:=underlying271
 a127:=Tryz.isAgg271
 z127:=Tryz.sizeOf271
 v127:=Tryz.zeroValue271
 t5:=underlying5
 a5:=Tryz.isAgg5
 z5:=Tryz.sizeOf5
 v5:=Tryz.zeroValue5
 i0:=by kernel_rfl
 i3:=by kernel_rfl
 i4:=by kernel_rfl
 i5:=by kernel_rfl
 i9:=by kernel_rfl
 i37:=by kernel_rfl
 i127:=by kernel_rfl }
open Go.RowKit in
theorem Tryz.stringslite_Clone(s:ByteArray)(w:World)(hlim:s.size<=281474976710656):
  Calls prog 89 #[.string s] w fun e w'=>e=.returned (.string s)/\Below w.heap.size w w':=Any.stringslite_Clone Tryz.ai7 s w hlim
end Go.Proofs

import Derived.Test.YtlcppnabbicmoaaGreatDoorME04
import Derived.Deep.QuietTactic
import Derived.BigQuiet
import Derived.Deep.Cut
set_option maxHeartbeats 8000000
set_option maxRecDepth 1000000
namespace Go.Proofs.YtlcppnabbicmoaaGreatDoor
section
open Go.RowKit
open Lx (Tk)
theorem rdigit_any (c:Int) (w:World) (h0:0<=c) (h1:c<=255) :
  Calls Tryz.prog 111 #[.int .u8 c] w fun e w'=>e=.returned (.bool (Lx.digit c))/\w'=w:=by
 by_cases h:48<=c
 ·by_cases h':c<=57
  all_goals
   go_enter Tryz.func111,Tryz.ntmps111
   go_wp2
   go_ret;exact⟨ret_bool (by simp[Lx.digit];omega),rfl⟩
 ·go_enter Tryz.func111,Tryz.ntmps111
  go_wp2
  go_ret;exact⟨ret_bool (by simp[Lx.digit];omega),rfl⟩
theorem rlow_any (c:Int) (w:World) (h0:0<=c) (h1:c<=255) :
  Calls Tryz.prog 112 #[.int .u8 c] w fun e w'=>e=.returned (.bool (Lx.small c))/\w'=w:=by
 by_cases h:97<=c
 ·by_cases h':c<=122
  all_goals
   go_enter Tryz.func112,Tryz.ntmps112
   go_wp2
   go_ret;exact⟨ret_bool (by simp[Lx.small];omega),rfl⟩
 ·go_enter Tryz.func112,Tryz.ntmps112
  go_wp2
  go_ret;exact⟨ret_bool (by simp[Lx.small];omega),rfl⟩
theorem rbig_any (c:Int) (w:World) (h0:0<=c) (h1:c<=255) :
  Calls Tryz.prog 113 #[.int .u8 c] w fun e w'=>e=.returned (.bool (Lx.capital c))/\w'=w:=by
 by_cases h:65<=c
 ·by_cases h':c<=90
  all_goals
   go_enter Tryz.func113,Tryz.ntmps113
   go_wp2
   go_ret;exact⟨ret_bool (by simp[Lx.capital];omega),rfl⟩
 ·go_enter Tryz.func113,Tryz.ntmps113
  go_wp2
  go_ret;exact⟨ret_bool (by simp[Lx.capital];omega),rfl⟩
theorem rIsName_any (b:ByteArray) (w:World) (hs:b.size<=2000) :
  Calls Tryz.prog 116 #[.string b] w fun e w'=>e=.returned (.bool (Lx.isName b))/\w'=w:=by
 show Calls Tryz.prog 116 #[.string b] w fun e w'=>e=.returned (.bool (Lx.isWord Lx.small b))/\w'=w
 by_cases h0:b.size=0
 ·have he:=Lx.isWord_short (p:=Lx.small) h0
  have HE:Hid _:=he;clear he;have h0':((b.size:Int) == 0)=true:=beq_iff_eq.2 (by omega);go_enter Tryz.func116,Tryz.ntmps116;go_wp2_with fail;go_ret;exact⟨ret_bool HE.out.symm,rfl⟩
 have h0':((b.size:Int) == 0)=false:=beq_eq_false_iff_ne.2 (by omega)
 by_cases h1:12<b.size
 ·have he:=Lx.isWord_long (p:=Lx.small) h1
  have HE:Hid _:=he;clear he;go_enter Tryz.func116,Tryz.ntmps116;go_wp2_with fail;go_ret;exact⟨ret_bool HE.out.symm,rfl⟩
 have hpos:0<b.size:=by omega
 have hbd:=Lx.byteAt_bd b 0;rw[Lx.byteAt_eq b 0 hpos]at hbd;have h1':decide (12<(b.size:Int))=false:=decide_eq_false (by omega);cases h2:Lx.small (b[0].toNat:Int)
 ·have he:=Lx.isWord_first (p:=Lx.small) (b:=b) (by rw[Lx.byteAt_eq b 0 hpos];exact h2)
  have HE:Hid _:=he;have H2:Hid _:=h2;clear he h2;go_enter Tryz.func116,Tryz.ntmps116
  go_wp2_with (go_at_call 112;refine (rlow_any _ _ (by omega) (by omega)).mono ?_;rintro e w' ⟨rfl,hw⟩;obtain rfl:=hw.symm;rw[H2.out])
  go_ret;exact⟨ret_bool HE.out.symm,rfl⟩
 ·have H2:Hid _:=h2
  clear h2;go_enter Tryz.func116,Tryz.ntmps116
  go_wp2_with (go_at_call 112;refine (rlow_any _ _ (by omega) (by omega)).mono ?_;rintro e w' ⟨rfl,hw⟩;obtain rfl:=hw.symm;rw[H2.out])
  go_loop [3] (fun i=>∃ (k:Nat),k<=b.size/\i=.int .i64 k/\Hid (∀ j,j<k->(Lx.small (Lx.byteAt b j) || Lx.digit (Lx.byteAt b j))=true)) (fun i=>b.size - (intOf i).toNat)
  case atStart=>exact⟨0,by omega,rfl,fun j hj=>absurd hj (by omega)⟩
  case round =>
   obtain⟨k,hk,rfl,hg⟩:=hrel
   by_cases hlt:k<b.size
   ·have hbd:=Lx.byteAt_bd b k
    have hbe:=Lx.byteAt_eq b k hlt;rw[hbe]at hbd;have HB:Hid _:=hbe;clear hbe;cases h3:Lx.small (b[k].toNat:Int)
    ·have H3:Hid _:=h3
     clear h3;cases h4:Lx.digit (b[k].toNat:Int)
     ·have H4:Hid _:=h4
      clear h4
      go_wp2_with (first
       | (go_at_call 112;refine (rlow_any _ _ (by omega) (by omega)).mono ?_;rintro e w' ⟨rfl,hw⟩;obtain rfl:=hw.symm;rw[H3.out])
       | (go_at_call 111;refine (rdigit_any _ _ (by omega) (by omega)).mono ?_;rintro e w' ⟨rfl,hw⟩;obtain rfl:=hw.symm;rw[H4.out]))
      go_ret;exact⟨ret_bool (Lx.isWord_not hlt (by rw[HB.out];exact H3.out) (by rw[HB.out];exact H4.out)).symm,rfl⟩
     ·have H4:Hid _:=h4
      clear h4
      go_wp2_with (first
       | (go_at_call 112;refine (rlow_any _ _ (by omega) (by omega)).mono ?_;rintro e w' ⟨rfl,hw⟩;obtain rfl:=hw.symm;rw[H3.out])
       | (go_at_call 111;refine (rdigit_any _ _ (by omega) (by omega)).mono ?_;rintro e w' ⟨rfl,hw⟩;obtain rfl:=hw.symm;rw[H4.out]))
      refine⟨⟨k+1,by omega,by go_num,?_⟩,by simp[intOf];omega⟩;intro j hj
      by_cases hjk:j=k
      ·subst hjk;rw[HB.out,H4.out];simp
      ·exact hg.out j (by omega)
    ·have H3:Hid _:=h3
     clear h3
     go_wp2_with (first
      | (go_at_call 112;refine (rlow_any _ _ (by omega) (by omega)).mono ?_;rintro e w' ⟨rfl,hw⟩;obtain rfl:=hw.symm;rw[H3.out]))
     refine⟨⟨k+1,by omega,by go_num,?_⟩,by simp[intOf];omega⟩;intro j hj
     by_cases hjk:j=k
     ·subst hjk;rw[HB.out,H3.out];simp
     ·exact hg.out j (by omega)
   ·go_wp2_with fail
    go_ret;exact⟨ret_bool (Lx.isWord_of hpos (by omega) (by rw[Lx.byteAt_eq b 0 hpos];exact H2.out) (fun j hj=>hg.out j (by omega))).symm,rfl⟩
theorem rIsToken_any (b:ByteArray) (w:World) (hs:b.size<=2000) :
  Calls Tryz.prog 139 #[.string b] w fun e w'=>e=.returned (.bool (Lx.isToken b))/\w'=w:=by
 show Calls Tryz.prog 139 #[.string b] w fun e w'=>e=.returned (.bool (Lx.isWord Lx.capital b))/\w'=w
 by_cases h0:b.size=0
 ·have he:=Lx.isWord_short (p:=Lx.capital) h0
  have HE:Hid _:=he;clear he;have h0':((b.size:Int) == 0)=true:=beq_iff_eq.2 (by omega);go_enter Tryz.func139,Tryz.ntmps139;go_wp2_with fail;go_ret;exact⟨ret_bool HE.out.symm,rfl⟩
 have h0':((b.size:Int) == 0)=false:=beq_eq_false_iff_ne.2 (by omega)
 by_cases h1:12<b.size
 ·have he:=Lx.isWord_long (p:=Lx.capital) h1
  have HE:Hid _:=he;clear he;go_enter Tryz.func139,Tryz.ntmps139;go_wp2_with fail;go_ret;exact⟨ret_bool HE.out.symm,rfl⟩
 have hpos:0<b.size:=by omega
 have hbd:=Lx.byteAt_bd b 0;rw[Lx.byteAt_eq b 0 hpos]at hbd;have h1':decide (12<(b.size:Int))=false:=decide_eq_false (by omega);cases h2:Lx.capital (b[0].toNat:Int)
 ·have he:=Lx.isWord_first (p:=Lx.capital) (b:=b) (by rw[Lx.byteAt_eq b 0 hpos];exact h2)
  have HE:Hid _:=he;have H2:Hid _:=h2;clear he h2;go_enter Tryz.func139,Tryz.ntmps139
  go_wp2_with (go_at_call 113;refine (rbig_any _ _ (by omega) (by omega)).mono ?_;rintro e w' ⟨rfl,hw⟩;obtain rfl:=hw.symm;rw[H2.out])
  go_ret;exact⟨ret_bool HE.out.symm,rfl⟩
 ·have H2:Hid _:=h2
  clear h2;go_enter Tryz.func139,Tryz.ntmps139
  go_wp2_with (go_at_call 113;refine (rbig_any _ _ (by omega) (by omega)).mono ?_;rintro e w' ⟨rfl,hw⟩;obtain rfl:=hw.symm;rw[H2.out])
  go_loop [3] (fun i=>∃ (k:Nat),k<=b.size/\i=.int .i64 k/\Hid (∀ j,j<k->(Lx.capital (Lx.byteAt b j) || Lx.digit (Lx.byteAt b j))=true)) (fun i=>b.size - (intOf i).toNat)
  case atStart=>exact⟨0,by omega,rfl,fun j hj=>absurd hj (by omega)⟩
  case round =>
   obtain⟨k,hk,rfl,hg⟩:=hrel
   by_cases hlt:k<b.size
   ·have hbd:=Lx.byteAt_bd b k
    have hbe:=Lx.byteAt_eq b k hlt;rw[hbe]at hbd;have HB:Hid _:=hbe;clear hbe;cases h3:Lx.capital (b[k].toNat:Int)
    ·have H3:Hid _:=h3
     clear h3;cases h4:Lx.digit (b[k].toNat:Int)
     ·have H4:Hid _:=h4
      clear h4
      go_wp2_with (first
       | (go_at_call 113;refine (rbig_any _ _ (by omega) (by omega)).mono ?_;rintro e w' ⟨rfl,hw⟩;obtain rfl:=hw.symm;rw[H3.out])
       | (go_at_call 111;refine (rdigit_any _ _ (by omega) (by omega)).mono ?_;rintro e w' ⟨rfl,hw⟩;obtain rfl:=hw.symm;rw[H4.out]))
      go_ret;exact⟨ret_bool (Lx.isWord_not hlt (by rw[HB.out];exact H3.out) (by rw[HB.out];exact H4.out)).symm,rfl⟩
     ·have H4:Hid _:=h4
      clear h4
      go_wp2_with (first
       | (go_at_call 113;refine (rbig_any _ _ (by omega) (by omega)).mono ?_;rintro e w' ⟨rfl,hw⟩;obtain rfl:=hw.symm;rw[H3.out])
       | (go_at_call 111;refine (rdigit_any _ _ (by omega) (by omega)).mono ?_;rintro e w' ⟨rfl,hw⟩;obtain rfl:=hw.symm;rw[H4.out]))
      refine⟨⟨k+1,by omega,by go_num,?_⟩,by simp[intOf];omega⟩;intro j hj
      by_cases hjk:j=k
      ·subst hjk;rw[HB.out,H4.out];simp
      ·exact hg.out j (by omega)
    ·have H3:Hid _:=h3
     clear h3
     go_wp2_with (first
      | (go_at_call 113;refine (rbig_any _ _ (by omega) (by omega)).mono ?_;rintro e w' ⟨rfl,hw⟩;obtain rfl:=hw.symm;rw[H3.out]))
     refine⟨⟨k+1,by omega,by go_num,?_⟩,by simp[intOf];omega⟩;intro j hj
     by_cases hjk:j=k
     ·subst hjk;rw[HB.out,H3.out];simp
     ·exact hg.out j (by omega)
   ·go_wp2_with fail
    go_ret;exact⟨ret_bool (Lx.isWord_of hpos (by omega) (by rw[Lx.byteAt_eq b 0 hpos];exact H2.out) (fun j hj=>hg.out j (by omega))).symm,rfl⟩
end
section
open Go.RowKit
open Lx (Tk)
open Tr
namespace Lx
def punct (c:Int):Bool:=decide (c=61∨c=59∨c=124∨c=40∨c=41∨c=42∨c=43∨c=63)
def known (t:ByteArray):Bool:=decide (byteAt t 0=37) || wordB (byteAt t 0) || punct (byteAt t 0)
def refW (t:ByteArray):ByteArray:=if known t=true then t else noText
def refEnd (s:ByteArray)(i:Nat):Nat:=wordEnd s (if byteAt s i=37 then i+1 else i)
def refSign (s:ByteArray)(i:Nat):ByteArray:=if i<s.size then s.extract i (if refEnd s i=i/\punct (byteAt s i)=true then i+1 else refEnd s i) else noText
theorem byteAt_extract (s:ByteArray)(i j:Nat)(h:i<j)(hj:j<=s.size):byteAt (s.extract i j) 0=byteAt s i:=by
 rw[byteAt_eq s i (by omega),byteAt_eq (s.extract i j) 0 (by rw[ByteArray.size_extract];omega)];rw[ByteArray.getElem_extract];simp
theorem refEnd_bd {s:ByteArray}{i:Nat}(h:i<s.size):i<=refEnd s i/\refEnd s i<=s.size:=by
 have h1:=wordEnd_bd (s:=s) (i:=if byteAt s i=37 then i+1 else i) (by split <;> omega);unfold refEnd
 split at h1 <;> simp_all <;> omega
theorem refEnd_known {s:ByteArray}{i:Nat}(h:i<s.size):refEnd s i=i↔(byteAt s i≠37/\wordB (byteAt s i)=false):=by
 unfold refEnd
 by_cases h37:byteAt s i=37
 ·rw[if_pos h37]
  have:=wordEnd_bd (s:=s) (i:=i+1) (by omega);constructor
  ·intro e;omega
  ·intro e;exact absurd h37 e.1
 ·rw[if_neg h37,wordEnd_step h]
  constructor
  ·intro e
   refine⟨h37,?_⟩;cases hw:wordB (byteAt s i)
   ·rfl
   ·rw[hw,if_pos rfl]at e
    have:=wordEnd_bd (s:=s) (i:=i+1) (by omega);omega
  ·intro e
   rw[e.2];simp
theorem refSign_eq {s:ByteArray}{i:Nat}(h:i<=s.size):refSign s i=refW (hd (lexAt s i)):=by
 unfold refSign
 by_cases hi:i<s.size
 ·rw[if_pos hi,lexAt_step hi]
  show _=refW (s.extract i (signEnd s i));have hs:=signEnd_bd hi;have hr:=refEnd_bd hi;have hk:=refEnd_known hi;have hb:=byteAt_extract s i (signEnd s i) hs.1 hs.2;unfold refW known;rw[hb];have he:signEnd s i=max (refEnd s i) (i+1):=rfl
  by_cases hz:refEnd s i=i
  ·obtain⟨h1,h2⟩:=hk.1 hz
   rw[decide_eq_false h1,h2];cases hp:punct (byteAt s i)
   ·rw[if_neg (by simp),hz]
    simp only[Bool.or_self,Bool.false_eq_true,if_false];apply ByteArray.ext;simp[noText]
   ·rw[if_pos ⟨hz,rfl⟩,he,hz]
    simp
  ·have hn:¬ (byteAt s i≠37/\wordB (byteAt s i)=false):=fun e=>hz (hk.2 e)
   rw[if_neg (fun e=>hz e.1),he];have hmax:max (refEnd s i) (i+1)=refEnd s i:=by omega
   rw[hmax,if_pos]
   by_cases h37:byteAt s i=37
   ·rw[decide_eq_true h37];simp
   ·cases hw:wordB (byteAt s i)
    ·exact absurd ⟨h37,hw⟩ hn
    ·simp
 ·rw[if_neg hi,lexAt_done (by omega)]
  rfl
end Lx
end
section
open Go.RowKit
open Lx (Tk)
open Tr
theorem Tryz.info9':(Tryz.prog.info? 9).map (fun i=>(i.zero,i.size,i.bytes))=some (some (.string ⟨#[]⟩),1,16):=by kernel_rfl
structure Mv (q:Nat) (sgv:Value) (w w':World):Prop where
 os:w'.os=w.os
 tape:w'.tape=w.tape
 output:w'.output=w.output
 size:w.heap.size<=w'.heap.size
 block:∀ k,k<w.heap.size->k≠q->sgv.ownBlock≠some k->w'.heap[k]?=w.heap[k]?
def Nx (sgv:Value)(w:World)(sgv':Value):Prop:=sgv'.ownBlock=sgv.ownBlock∨∃ g,sgv'.ownBlock=some g/\w.heap.size<=g
section
variable {q:Nat} {sgv sgv' sgv'':Value} {w w' w'':World}
theorem Mv.refl (q:Nat)(sgv:Value)(w:World):Mv q sgv w w:=⟨rfl,rfl,rfl,Nat.le_refl _,fun _ _ _ _=>rfl⟩
theorem Nx.refl (sgv:Value)(w:World):Nx sgv w sgv:=.inl rfl
theorem Mv.trans (h:Mv q sgv w w')(n:Nx sgv w sgv')(k:Mv q sgv' w' w''):Mv q sgv w w'' :=
 ⟨k.os.trans h.os,k.tape.trans h.tape,k.output.trans h.output,Nat.le_trans h.size k.size,fun i hi hq hs=>by
  rw[k.block i (Nat.lt_of_lt_of_le hi h.size) hq ?_,h.block i hi hq hs];rcases n with n | ⟨g,n,hg⟩
  ·rw[n];exact hs
  ·rw[n];intro e;cases e;omega⟩
theorem Nx.trans (n:Nx sgv w sgv')(hw:w.heap.size<=w'.heap.size)(k:Nx sgv' w' sgv''):Nx sgv w sgv'':=by
 rcases k with k | ⟨g,k,hg⟩
 ·rcases n with n | ⟨g,n,hg⟩
  ·exact .inl (k.trans n)
  ·exact .inr ⟨g,k.trans n,hg⟩
 ·exact .inr ⟨g,k,by omega⟩
theorem Mv.set (h:Mv q sgv w w')(o:Nat)(v:Value):Mv q sgv w (w'.setCell ⟨q,o,none⟩ v) :=
 ⟨h.os,h.tape,h.output,by have:=h.size;simpa [World.setCell]using this,fun k hk hq hs=>(Below.heap_setCell _ _ _ _ (fun e=>hq e)).trans (h.block k hk hq hs)⟩
theorem Mv.new (h:Mv q sgv w w'){b:Nat}(hb:w.heap.size<=b)(o:Nat)(v:Value):Mv q sgv w (w'.setCell ⟨b,o,none⟩ v) :=
 ⟨h.os,h.tape,h.output,by have:=h.size;simpa [World.setCell]using this,fun k hk hq hs=>(Below.heap_setCell _ _ _ _ (fun e=>by have e':k=b:=e;omega)).trans (h.block k hk hq hs)⟩
theorem Mv.drew (h:Mv q sgv w w'):Mv q sgv w w'.drew:=⟨h.os,h.tape,h.output,h.size,h.block⟩
theorem Mv.alloc (h:Mv q sgv w w')(o:Obj):Mv q sgv w (w'.alloc o) :=
 ⟨h.os,h.tape,h.output,by have:=h.size;simp;omega,fun k hk hq hs=>(Below.heap_alloc _ _ _ (Nat.lt_of_lt_of_le hk h.size)).trans (h.block k hk hq hs)⟩
theorem Mv.grown (h:Mv q sgv w w'){r:Option Nat}(hg:w'.grownBy w'' r)(hr:∀ k,r=some k->w.heap.size<=k∨k=q∨sgv.ownBlock=some k):Mv q sgv w w'' :=
 ⟨hg.os.trans h.os,hg.tape.trans h.tape,hg.output.trans h.output,Nat.le_trans h.size hg.size,fun k hk hq hs=>(hg.block k (Nat.lt_of_lt_of_le hk h.size) (fun e=>by
  rcases hr k e.symm with h1 | h1 | h1
  ·omega
  ·exact hq h1
  ·exact hs h1)).trans (h.block k hk hq hs)⟩
end
def rblk (s:ByteArray)(i:Nat)(W:ByteArray)(nest err at_:Int)(sgv:Value):Array Value:=#[.string s,.int .i64 (i:Int),.string W,.int .i64 nest,.int .i64 err,.int .i64 at_,sgv]
theorem Blk.drewN {w:World}{b:Nat}{cs:Array Value}{e:Nat}(h:Blk w b cs e)(n:Nat):Blk (w.drewN n) b cs e:=by
 unfold Blk at *;simpa [World.drewN]using h
theorem Mv.drewN {q:Nat}{sgv:Value}{w w':World}(h:Mv q sgv w w')(n:Nat):Mv q sgv w (w'.drewN n):=by
 have e:(w'.drewN n).heap=w'.heap:=by simp[World.drewN]
 exact⟨h.os,h.tape,h.output,by rw[e];exact h.size,fun k hk hq hs=>by rw[e];exact h.block k hk hq hs⟩
structure St (q:Nat) (sgv:Value) (w:World) (sgx:Value) (n:Nat) (xs:List Value) (u:World):Prop where
 mv:Mv q sgv w u
 nx:Nx sgv w sgx
 own:u.ownsRow 0 9 1 sgx n xs
 ne:sgx.ownBlock≠some q
theorem St.set {q:Nat}{sgv:Value}{w:World}{sgx:Value}{n:Nat}{xs:List Value}{u:World}(h:St q sgv w sgx n xs u)(o:Nat)(v:Value):St q sgv w sgx n xs (u.setCell ⟨q,o,none⟩ v) :=
 ⟨h.mv.set o v,h.nx,own_move h.own fun g hg=>Below.heap_setCell _ _ _ _ (fun e=>h.ne (by have e':g=q:=e;rw[hg,e'])),h.ne⟩
theorem St.drewN {q:Nat}{sgv:Value}{w:World}{sgx:Value}{n:Nat}{xs:List Value}{u:World}(h:St q sgv w sgx n xs u)(k:Nat):St q sgv w sgx n xs (u.drewN k) :=
 ⟨h.mv.drewN k,h.nx,own_move h.own fun g hg=>by simp[World.drewN],h.ne⟩
namespace Lx
theorem word_parts {c:Int}(h1:digit c=false)(h2:small c=false)(h3:capital c=false):wordB c=false:=by simp[wordB,h1,h2,h3]
theorem word_d {c:Int}(h1:digit c=true):wordB c=true:=by simp[wordB,h1]
theorem word_s {c:Int}(h1:small c=true):wordB c=true:=by simp[wordB,h1]
theorem word_c {c:Int}(h1:capital c=true):wordB c=true:=by simp[wordB,h1]
theorem refSign_end {s:ByteArray}{i:Nat}(h:¬ i<s.size):refSign s i=⟨#[]⟩:=if_neg h
theorem refSign_word {s:ByteArray}{i k:Nat}(h:i<s.size)(he:refEnd s i=k)(hk:k≠i):refSign s i=s.extract i k:=by
 unfold refSign;rw[if_pos h,if_neg (fun e=>hk (he.symm.trans e.1)),he]
theorem refSign_punct {s:ByteArray}{i:Nat}(h:i<s.size)(he:refEnd s i=i)(hp:punct (byteAt s i)=true):refSign s i=s.extract i (i+1):=by
 unfold refSign;rw[if_pos h,if_pos ⟨he,hp⟩]
theorem refSign_other {s:ByteArray}{i:Nat}(h:i<s.size)(he:refEnd s i=i)(hp:punct (byteAt s i)=false):refSign s i=s.extract i i:=by
 unfold refSign;rw[if_pos h,if_neg (fun e=>by rw[hp]at e;exact absurd e.2 (by simp)),he]
end Lx
end
section
open Go.RowKit
open Lx (Tk)
open Tr
theorem next_end (s:ByteArray) (q i g:Nat) (nest err at_:Int) (sgv:Value) (n:Nat) (xs:List Value) (w:World) (hs:s.size<=2000) (hi:i<=s.size) (kq:Blk w q (rblk s i ⟨#[]⟩ nest err at_ sgv) 89) (hown:w.ownsRow 0 9 1 sgv n xs) (hneq:sgv.ownBlock≠some q) (hg0:Lx.gapEnd s i false=g) (hge:¬ g<s.size) :
  Calls Tryz.prog 76 #[.pointer (some ⟨q,0,none⟩)] w fun e w'=>e=.returned (.tuple #[])/\∃ sgx,St q sgv w sgx n xs w'/\Blk w' q (rblk s g (Lx.refSign s g) nest err at_ sgx) 89:=by
 have c0:w.cell? ⟨q,0,none⟩=some (.string s):=kq.cell 0;have c1:w.cell? ⟨q,1,none⟩=some (.int .i64 (i:Int)):=kq.cell 1;have c2:w.cell? ⟨q,2,none⟩=some (.string ⟨#[]⟩):=kq.cell 2;have fq:∀ j,w.frozen? ⟨q,j,none⟩=false:=kq.frozen;have HG0:Hid _:=hg0;clear hg0;go_enter Tryz.func76,Tryz.ntmps76;go_wp2_with fail
 go_quiet (fail)
 go_wp2_with fail;have ku:=kq.drewN nq;have mu:=(St.mk (Mv.refl q sgv w) (Nx.refl sgv w) hown hneq).drewN nq;clear hown hneq;generalize w.drewN nq=u at *;have c0:u.cell? ⟨q,0,none⟩=some (.string s):=ku.cell 0;have fq:∀ j,u.frozen? ⟨q,j,none⟩=false:=ku.frozen;have c1:=ku.cell 1;have c2:=ku.cell 2;simp only[rblk]at c1 c2;clear kq
 go_loop [2,3] (fun at_ r=>∃ (k:Nat) (b:Bool),k<=s.size/\at_=.int .i64 k/\r=.bool b/\Hid (Lx.gapEnd s k b=g)) (fun at_ _=>s.size - (intOf at_).toNat)
 case atStart=>exact⟨i,false,hi,rfl,rfl,HG0⟩
 case round =>
  obtain⟨k,b,hk,rfl,rfl,hg⟩:=hrel
  by_cases hlt:k<s.size
  ·have hbd:=Lx.byteAt_bd s k
   rw[Lx.byteAt_eq s k hlt]at hbd;have hcs:(s[k].toNat:Int)=10∨(s[k].toNat:Int)=35∨(s[k].toNat:Int)=32∨(s[k].toNat:Int)=9∨((s[k].toNat:Int)≠10/\(s[k].toNat:Int)≠35/\(s[k].toNat:Int)≠32/\(s[k].toNat:Int)≠9):=by omega
   rcases hcs with hc | hc | hc | hc | hc
   ·have HG:Hid (Lx.gapEnd s (k+1) false=g):=Lx.gap_nl hlt hg.out hc
    cases b
    all_goals
     go_wp2_with fail;exact⟨⟨k+1,_,by omega,by go_num,rfl,HG⟩,by simp[intOf];omega⟩
   ·have HG:Hid (Lx.gapEnd s (k+1) true=g):=Lx.gap_hash hlt hg.out hc
    cases b
    all_goals
     go_wp2_with fail;exact⟨⟨k+1,_,by omega,by go_num,rfl,HG⟩,by simp[intOf];omega⟩
   ·cases b
    ·have HG:Hid (Lx.gapEnd s (k+1) false=g):=Lx.gap_blank hlt hg.out (.inl hc)
     go_wp2_with fail;exact⟨⟨k+1,_,by omega,by go_num,rfl,HG⟩,by simp[intOf];omega⟩
    ·have HG:Hid (Lx.gapEnd s (k+1) true=g):=Lx.gap_rem hlt hg.out (by omega) (by omega)
     go_wp2_with fail;exact⟨⟨k+1,_,by omega,by go_num,rfl,HG⟩,by simp[intOf];omega⟩
   ·cases b
    ·have HG:Hid (Lx.gapEnd s (k+1) false=g):=Lx.gap_blank hlt hg.out (.inr hc)
     go_wp2_with fail;exact⟨⟨k+1,_,by omega,by go_num,rfl,HG⟩,by simp[intOf];omega⟩
    ·have HG:Hid (Lx.gapEnd s (k+1) true=g):=Lx.gap_rem hlt hg.out (by omega) (by omega)
     go_wp2_with fail;exact⟨⟨k+1,_,by omega,by go_num,rfl,HG⟩,by simp[intOf];omega⟩
   ·have t10:((s[k].toNat:Int) == 10)=false:=beq_eq_false_iff_ne.2 hc.1
    have t35:((s[k].toNat:Int) == 35)=false:=beq_eq_false_iff_ne.2 hc.2.1;have t32:((s[k].toNat:Int) == 32)=false:=beq_eq_false_iff_ne.2 hc.2.2.1;have t9:((s[k].toNat:Int) == 9)=false:=beq_eq_false_iff_ne.2 hc.2.2.2;cases b
    ·have hkg:k=g:=Lx.gap_stop hlt hg.out hc.1 hc.2.1 hc.2.2.1 hc.2.2.2
     subst hkg;clear hc;exact absurd hlt hge
    ·have HG:Hid (Lx.gapEnd s (k+1) true=g):=Lx.gap_rem hlt hg.out hc.1 hc.2.1
     clear hc;go_wp2_with fail;exact⟨⟨k+1,_,by omega,by go_num,rfl,HG⟩,by simp[intOf];omega⟩
  ·have hkg:k=g:=by have:=hg.out;rw[Lx.gapEnd_done _ (by omega)]at this;exact this
   subst hkg;have HQ:Hid (Lx.refSign s k=⟨#[]⟩):=Lx.refSign_end hlt;have hkk:((k:Int) == (s.size:Int))=true:=beq_iff_eq.2 (by omega);go_wp2_with fail;refine bodyPost_ret (results_none rfl _ _ _) rfl ?_;refine⟨rfl,_,(mu.set 1 _).set 2 _,?_⟩;rw[HQ.out];exact (ku.set 1 _).set 2 _
end
end Go.Proofs.YtlcppnabbicmoaaGreatDoor

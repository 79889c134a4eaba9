import Derived.Test.YtlcppnabbicmoaaGreatDoorMD14
import Derived.Deep.Cut
set_option maxHeartbeats 8000000
set_option maxRecDepth 1000000
namespace Go.Proofs.YtlcppnabbicmoaaGreatDoor
section
open Go.RowKit
open Lx (Tk)
open Tr
theorem Tryz.info9':(Tryz.prog.info? 9).map (fun i=>(i.zero,i.size,i.bytes))=some (some (.string ⟨#[]⟩),1,16):=by kernel_rfl
structure Mv (q:Nat) (sgv:Value) (w w':World):Prop where
 os:w'.os=w.os
 tape:w'.tape=w.tape
 output:w'.output=w.output
 size:w.heap.size<=w'.heap.size
 block:∀ k,k<w.heap.size->k≠q->sgv.ownBlock≠some k->w'.heap[k]?=w.heap[k]?
def Nx (sgv:Value)(w:World)(sgv':Value):Prop:=sgv'.ownBlock=sgv.ownBlock∨∃ g,sgv'.ownBlock=some g/\w.heap.size<=g
section
variable {q:Nat} {sgv sgv' sgv'':Value} {w w' w'':World}
theorem Mv.refl (q:Nat)(sgv:Value)(w:World):Mv q sgv w w:=⟨rfl,rfl,rfl,Nat.le_refl _,fun _ _ _ _=>rfl⟩
theorem Nx.refl (sgv:Value)(w:World):Nx sgv w sgv:=.inl rfl
theorem Mv.trans (h:Mv q sgv w w')(n:Nx sgv w sgv')(k:Mv q sgv' w' w''):Mv q sgv w w'' :=
 ⟨k.os.trans h.os,k.tape.trans h.tape,k.output.trans h.output,Nat.le_trans h.size k.size,fun i hi hq hs=>by
  rw[k.block i (Nat.lt_of_lt_of_le hi h.size) hq ?_,h.block i hi hq hs];rcases n with n | ⟨g,n,hg⟩
  ·rw[n];exact hs
  ·rw[n];intro e;cases e;omega⟩
theorem Nx.trans (n:Nx sgv w sgv')(hw:w.heap.size<=w'.heap.size)(k:Nx sgv' w' sgv''):Nx sgv w sgv'':=by
 rcases k with k | ⟨g,k,hg⟩
 ·rcases n with n | ⟨g,n,hg⟩
  ·exact .inl (k.trans n)
  ·exact .inr ⟨g,k.trans n,hg⟩
 ·exact .inr ⟨g,k,by omega⟩
theorem Mv.set (h:Mv q sgv w w')(o:Nat)(v:Value):Mv q sgv w (w'.setCell ⟨q,o,none⟩ v) :=
 ⟨h.os,h.tape,h.output,by have:=h.size;simpa [World.setCell]using this,fun k hk hq hs=>(Below.heap_setCell _ _ _ _ (fun e=>hq e)).trans (h.block k hk hq hs)⟩
theorem Mv.new (h:Mv q sgv w w'){b:Nat}(hb:w.heap.size<=b)(o:Nat)(v:Value):Mv q sgv w (w'.setCell ⟨b,o,none⟩ v) :=
 ⟨h.os,h.tape,h.output,by have:=h.size;simpa [World.setCell]using this,fun k hk hq hs=>(Below.heap_setCell _ _ _ _ (fun e=>by have e':k=b:=e;omega)).trans (h.block k hk hq hs)⟩
theorem Mv.drew (h:Mv q sgv w w'):Mv q sgv w w'.drew:=⟨h.os,h.tape,h.output,h.size,h.block⟩
theorem Mv.alloc (h:Mv q sgv w w')(o:Obj):Mv q sgv w (w'.alloc o) :=
 ⟨h.os,h.tape,h.output,by have:=h.size;simp;omega,fun k hk hq hs=>(Below.heap_alloc _ _ _ (Nat.lt_of_lt_of_le hk h.size)).trans (h.block k hk hq hs)⟩
theorem Mv.grown (h:Mv q sgv w w'){r:Option Nat}(hg:w'.grownBy w'' r)(hr:∀ k,r=some k->w.heap.size<=k∨k=q∨sgv.ownBlock=some k):Mv q sgv w w'' :=
 ⟨hg.os.trans h.os,hg.tape.trans h.tape,hg.output.trans h.output,Nat.le_trans h.size hg.size,fun k hk hq hs=>(hg.block k (Nat.lt_of_lt_of_le hk h.size) (fun e=>by
  rcases hr k e.symm with h1 | h1 | h1
  ·omega
  ·exact hq h1
  ·exact hs h1)).trans (h.block k hk hq hs)⟩
end
def rblk (s:ByteArray)(i:Nat)(W:ByteArray)(nest err at_:Int)(sgv:Value):Array Value:=#[.string s,.int .i64 (i:Int),.string W,.int .i64 nest,.int .i64 err,.int .i64 at_,sgv]
theorem Blk.drewN {w:World}{b:Nat}{cs:Array Value}{e:Nat}(h:Blk w b cs e)(n:Nat):Blk (w.drewN n) b cs e:=by
 unfold Blk at *;simpa [World.drewN]using h
theorem Mv.drewN {q:Nat}{sgv:Value}{w w':World}(h:Mv q sgv w w')(n:Nat):Mv q sgv w (w'.drewN n):=by
 have e:(w'.drewN n).heap=w'.heap:=by simp[World.drewN]
 exact⟨h.os,h.tape,h.output,by rw[e];exact h.size,fun k hk hq hs=>by rw[e];exact h.block k hk hq hs⟩
structure St (q:Nat) (sgv:Value) (w:World) (sgx:Value) (n:Nat) (xs:List Value) (u:World):Prop where
 mv:Mv q sgv w u
 nx:Nx sgv w sgx
 own:u.ownsRow 0 9 1 sgx n xs
 ne:sgx.ownBlock≠some q
theorem St.set {q:Nat}{sgv:Value}{w:World}{sgx:Value}{n:Nat}{xs:List Value}{u:World}(h:St q sgv w sgx n xs u)(o:Nat)(v:Value):St q sgv w sgx n xs (u.setCell ⟨q,o,none⟩ v) :=
 ⟨h.mv.set o v,h.nx,own_move h.own fun g hg=>Below.heap_setCell _ _ _ _ (fun e=>h.ne (by have e':g=q:=e;rw[hg,e'])),h.ne⟩
theorem St.drewN {q:Nat}{sgv:Value}{w:World}{sgx:Value}{n:Nat}{xs:List Value}{u:World}(h:St q sgv w sgx n xs u)(k:Nat):St q sgv w sgx n xs (u.drewN k) :=
 ⟨h.mv.drewN k,h.nx,own_move h.own fun g hg=>by simp[World.drewN],h.ne⟩
namespace Lx
theorem word_parts {c:Int}(h1:digit c=false)(h2:small c=false)(h3:capital c=false):wordB c=false:=by simp[wordB,h1,h2,h3]
theorem word_d {c:Int}(h1:digit c=true):wordB c=true:=by simp[wordB,h1]
theorem word_s {c:Int}(h1:small c=true):wordB c=true:=by simp[wordB,h1]
theorem word_c {c:Int}(h1:capital c=true):wordB c=true:=by simp[wordB,h1]
theorem refSign_end {s:ByteArray}{i:Nat}(h:¬ i<s.size):refSign s i=⟨#[]⟩:=if_neg h
theorem refSign_word {s:ByteArray}{i k:Nat}(h:i<s.size)(he:refEnd s i=k)(hk:k≠i):refSign s i=s.extract i k:=by
 unfold refSign;rw[if_pos h,if_neg (fun e=>hk (he.symm.trans e.1)),he]
theorem refSign_punct {s:ByteArray}{i:Nat}(h:i<s.size)(he:refEnd s i=i)(hp:punct (byteAt s i)=true):refSign s i=s.extract i (i+1):=by
 unfold refSign;rw[if_pos h,if_pos ⟨he,hp⟩]
theorem refSign_other {s:ByteArray}{i:Nat}(h:i<s.size)(he:refEnd s i=i)(hp:punct (byteAt s i)=false):refSign s i=s.extract i i:=by
 unfold refSign;rw[if_pos h,if_neg (fun e=>by rw[hp]at e;exact absurd e.2 (by simp)),he]
end Lx
end
section
open Go.RowKit
open Lx (Tk)
open Tr
theorem next_end (s:ByteArray) (q i g:Nat) (nest err at_:Int) (sgv:Value) (n:Nat) (xs:List Value) (w:World) (hs:s.size<=2000) (hi:i<=s.size) (kq:Blk w q (rblk s i ⟨#[]⟩ nest err at_ sgv) 89) (hown:w.ownsRow 0 9 1 sgv n xs) (hneq:sgv.ownBlock≠some q) (hg0:Lx.gapEnd s i false=g) (hge:¬ g<s.size) :
  Calls Tryz.prog 76 #[.pointer (some ⟨q,0,none⟩)] w fun e w'=>e=.returned (.tuple #[])/\∃ sgx,St q sgv w sgx n xs w'/\Blk w' q (rblk s g (Lx.refSign s g) nest err at_ sgx) 89:=by
 have c0:w.cell? ⟨q,0,none⟩=some (.string s):=kq.cell 0;have c1:w.cell? ⟨q,1,none⟩=some (.int .i64 (i:Int)):=kq.cell 1;have c2:w.cell? ⟨q,2,none⟩=some (.string ⟨#[]⟩):=kq.cell 2;have fq:∀ j,w.frozen? ⟨q,j,none⟩=false:=kq.frozen;have HG0:Hid _:=hg0;clear hg0;go_enter Tryz.func76,Tryz.ntmps76;go_wp2_with fail
 go_quiet (fail)
 go_wp2_with fail;have ku:=kq.drewN nq;have mu:=(St.mk (Mv.refl q sgv w) (Nx.refl sgv w) hown hneq).drewN nq;clear hown hneq;generalize w.drewN nq=u at *;have c0:u.cell? ⟨q,0,none⟩=some (.string s):=ku.cell 0;have fq:∀ j,u.frozen? ⟨q,j,none⟩=false:=ku.frozen;have c1:=ku.cell 1;have c2:=ku.cell 2;simp only[rblk]at c1 c2;clear kq
 go_loop [2,3] (fun at_ r=>∃ (k:Nat) (b:Bool),k<=s.size/\at_=.int .i64 k/\r=.bool b/\Hid (Lx.gapEnd s k b=g)) (fun at_ _=>s.size - (intOf at_).toNat)
 case atStart=>exact⟨i,false,hi,rfl,rfl,HG0⟩
 case round =>
  obtain⟨k,b,hk,rfl,rfl,hg⟩:=hrel
  by_cases hlt:k<s.size
  ·have hbd:=Lx.byteAt_bd s k
   rw[Lx.byteAt_eq s k hlt]at hbd;have hcs:(s[k].toNat:Int)=10∨(s[k].toNat:Int)=35∨(s[k].toNat:Int)=32∨(s[k].toNat:Int)=9∨((s[k].toNat:Int)≠10/\(s[k].toNat:Int)≠35/\(s[k].toNat:Int)≠32/\(s[k].toNat:Int)≠9):=by omega
   rcases hcs with hc | hc | hc | hc | hc
   ·have HG:Hid (Lx.gapEnd s (k+1) false=g):=Lx.gap_nl hlt hg.out hc
    cases b
    all_goals
     go_wp2_with fail;exact⟨⟨k+1,_,by omega,by go_num,rfl,HG⟩,by simp[intOf];omega⟩
   ·have HG:Hid (Lx.gapEnd s (k+1) true=g):=Lx.gap_hash hlt hg.out hc
    cases b
    all_goals
     go_wp2_with fail;exact⟨⟨k+1,_,by omega,by go_num,rfl,HG⟩,by simp[intOf];omega⟩
   ·cases b
    ·have HG:Hid (Lx.gapEnd s (k+1) false=g):=Lx.gap_blank hlt hg.out (.inl hc)
     go_wp2_with fail;exact⟨⟨k+1,_,by omega,by go_num,rfl,HG⟩,by simp[intOf];omega⟩
    ·have HG:Hid (Lx.gapEnd s (k+1) true=g):=Lx.gap_rem hlt hg.out (by omega) (by omega)
     go_wp2_with fail;exact⟨⟨k+1,_,by omega,by go_num,rfl,HG⟩,by simp[intOf];omega⟩
   ·cases b
    ·have HG:Hid (Lx.gapEnd s (k+1) false=g):=Lx.gap_blank hlt hg.out (.inr hc)
     go_wp2_with fail;exact⟨⟨k+1,_,by omega,by go_num,rfl,HG⟩,by simp[intOf];omega⟩
    ·have HG:Hid (Lx.gapEnd s (k+1) true=g):=Lx.gap_rem hlt hg.out (by omega) (by omega)
     go_wp2_with fail;exact⟨⟨k+1,_,by omega,by go_num,rfl,HG⟩,by simp[intOf];omega⟩
   ·have t10:((s[k].toNat:Int) == 10)=false:=beq_eq_false_iff_ne.2 hc.1
    have t35:((s[k].toNat:Int) == 35)=false:=beq_eq_false_iff_ne.2 hc.2.1;have t32:((s[k].toNat:Int) == 32)=false:=beq_eq_false_iff_ne.2 hc.2.2.1;have t9:((s[k].toNat:Int) == 9)=false:=beq_eq_false_iff_ne.2 hc.2.2.2;cases b
    ·have hkg:k=g:=Lx.gap_stop hlt hg.out hc.1 hc.2.1 hc.2.2.1 hc.2.2.2
     subst hkg;clear hc;exact absurd hlt hge
    ·have HG:Hid (Lx.gapEnd s (k+1) true=g):=Lx.gap_rem hlt hg.out hc.1 hc.2.1
     clear hc;go_wp2_with fail;exact⟨⟨k+1,_,by omega,by go_num,rfl,HG⟩,by simp[intOf];omega⟩
  ·have hkg:k=g:=by have:=hg.out;rw[Lx.gapEnd_done _ (by omega)]at this;exact this
   subst hkg;have HQ:Hid (Lx.refSign s k=⟨#[]⟩):=Lx.refSign_end hlt;have hkk:((k:Int) == (s.size:Int))=true:=beq_iff_eq.2 (by omega);go_wp2_with fail;refine bodyPost_ret (results_none rfl _ _ _) rfl ?_;refine⟨rfl,_,(mu.set 1 _).set 2 _,?_⟩;rw[HQ.out];exact (ku.set 1 _).set 2 _
end
end Go.Proofs.YtlcppnabbicmoaaGreatDoor

import Derived.Test.YtlcppnabbicmoaaGreatDoorME15
import Derived.Deep.Cut
set_option maxHeartbeats 8000000
set_option maxRecDepth 1000000
namespace Go.Proofs.YtlcppnabbicmoaaGreatDoor
open Go.RowKit
open Lx (Tk)
open Tr
theorem next_non (s:ByteArray) (q i g:Nat) (nest err at_:Int) (sgv:Value) (n:Nat) (xs:List Value) (w:World) (hs:s.size<=2000) (hi:i<=s.size) (kq:Blk w q (rblk s i ⟨#[]⟩ nest err at_ sgv) 89) (hown:w.ownsRow 0 9 1 sgv n xs) (hneq:sgv.ownBlock≠some q) (hg0:Lx.gapEnd s i false=g) (hlt0:g<s.size) (hnw:Hid (Lx.digit (s[g].toNat:Int)=false/\Lx.small (s[g].toNat:Int)=false/\Lx.capital (s[g].toNat:Int)=false/\(s[g].toNat:Int)≠37)) :
  Calls Tryz.prog 76 #[.pointer (some ⟨q,0,none⟩)] w fun e w'=>e=.returned (.tuple #[])/\∃ sgx,St q sgv w sgx n xs w'/\Blk w' q (rblk s g (Lx.refSign s g) nest err at_ sgx) 89:=by
 have c0:w.cell? ⟨q,0,none⟩=some (.string s):=kq.cell 0;have c1:w.cell? ⟨q,1,none⟩=some (.int .i64 (i:Int)):=kq.cell 1;have c2:w.cell? ⟨q,2,none⟩=some (.string ⟨#[]⟩):=kq.cell 2;have fq:∀ j,w.frozen? ⟨q,j,none⟩=false:=kq.frozen;have HG0:Hid _:=hg0;clear hg0;go_enter Tryz.func76,Tryz.ntmps76;go_wp2_with fail
 go_quiet (fail)
 go_wp2_with fail;have ku:=kq.drewN nq;have mu:=(St.mk (Mv.refl q sgv w) (Nx.refl sgv w) hown hneq).drewN nq;clear hown hneq;generalize w.drewN nq=u at *;have c0:u.cell? ⟨q,0,none⟩=some (.string s):=ku.cell 0;have fq:∀ j,u.frozen? ⟨q,j,none⟩=false:=ku.frozen;have c1:=ku.cell 1;have c2:=ku.cell 2;simp only[rblk]at c1 c2;clear kq
 go_loop [2,3] (fun at_ r=>∃ (k:Nat) (b:Bool),k<=s.size/\at_=.int .i64 k/\r=.bool b/\Hid (Lx.gapEnd s k b=g)) (fun at_ _=>s.size - (intOf at_).toNat)
 case atStart=>exact⟨i,false,hi,rfl,rfl,HG0⟩
 case round =>
  obtain⟨k,b,hk,rfl,rfl,hg⟩:=hrel
  by_cases hlt:k<s.size
  ·have hbd:=Lx.byteAt_bd s k
   rw[Lx.byteAt_eq s k hlt]at hbd;have hcs:(s[k].toNat:Int)=10∨(s[k].toNat:Int)=35∨(s[k].toNat:Int)=32∨(s[k].toNat:Int)=9∨((s[k].toNat:Int)≠10/\(s[k].toNat:Int)≠35/\(s[k].toNat:Int)≠32/\(s[k].toNat:Int)≠9):=by omega
   rcases hcs with hc | hc | hc | hc | hc
   ·have HG:Hid (Lx.gapEnd s (k+1) false=g):=Lx.gap_nl hlt hg.out hc
    cases b
    all_goals
     go_wp2_with fail;exact⟨⟨k+1,_,by omega,by go_num,rfl,HG⟩,by simp[intOf];omega⟩
   ·have HG:Hid (Lx.gapEnd s (k+1) true=g):=Lx.gap_hash hlt hg.out hc
    cases b
    all_goals
     go_wp2_with fail;exact⟨⟨k+1,_,by omega,by go_num,rfl,HG⟩,by simp[intOf];omega⟩
   ·cases b
    ·have HG:Hid (Lx.gapEnd s (k+1) false=g):=Lx.gap_blank hlt hg.out (.inl hc)
     go_wp2_with fail;exact⟨⟨k+1,_,by omega,by go_num,rfl,HG⟩,by simp[intOf];omega⟩
    ·have HG:Hid (Lx.gapEnd s (k+1) true=g):=Lx.gap_rem hlt hg.out (by omega) (by omega)
     go_wp2_with fail;exact⟨⟨k+1,_,by omega,by go_num,rfl,HG⟩,by simp[intOf];omega⟩
   ·cases b
    ·have HG:Hid (Lx.gapEnd s (k+1) false=g):=Lx.gap_blank hlt hg.out (.inr hc)
     go_wp2_with fail;exact⟨⟨k+1,_,by omega,by go_num,rfl,HG⟩,by simp[intOf];omega⟩
    ·have HG:Hid (Lx.gapEnd s (k+1) true=g):=Lx.gap_rem hlt hg.out (by omega) (by omega)
     go_wp2_with fail;exact⟨⟨k+1,_,by omega,by go_num,rfl,HG⟩,by simp[intOf];omega⟩
   ·have t10:((s[k].toNat:Int) == 10)=false:=beq_eq_false_iff_ne.2 hc.1
    have t35:((s[k].toNat:Int) == 35)=false:=beq_eq_false_iff_ne.2 hc.2.1;have t32:((s[k].toNat:Int) == 32)=false:=beq_eq_false_iff_ne.2 hc.2.2.1;have t9:((s[k].toNat:Int) == 9)=false:=beq_eq_false_iff_ne.2 hc.2.2.2;cases b
    ·have hkg:k=g:=Lx.gap_stop hlt hg.out hc.1 hc.2.1 hc.2.2.1 hc.2.2.2
     subst hkg;clear hc;obtain⟨HNW1,HNW2,HNW3,HNW4⟩:=hnw.out;have h37:((s[k].toNat:Int) == 37)=false:=beq_eq_false_iff_ne.2 HNW4;have HD:Hid (Lx.digit (s[k].toNat:Int)=false):=HNW1;have HS:Hid (Lx.small (s[k].toNat:Int)=false):=HNW2;have HC:Hid (Lx.capital (s[k].toNat:Int)=false):=HNW3;have HRK:Hid (Lx.refEnd s k=k):=(Lx.refEnd_known hlt).2 ⟨by rw[Lx.byteAt_eq s k hlt];exact HNW4,by rw[Lx.byteAt_eq s k hlt];exact Lx.word_parts HNW1 HNW2 HNW3⟩;have HQ1:Hid (((s[k].toNat:Int)=61∨(s[k].toNat:Int)=59∨(s[k].toNat:Int)=124∨(s[k].toNat:Int)=40∨(s[k].toNat:Int)=41∨(s[k].toNat:Int)=42∨(s[k].toNat:Int)=43∨(s[k].toNat:Int)=63)->Lx.refSign s k=s.extract k (k+1)) :=
      fun hp=>Lx.refSign_punct hlt HRK.out (by rw[Lx.byteAt_eq s k hlt];unfold Lx.punct;exact decide_eq_true hp)
     have HQ2:Hid (¬ ((s[k].toNat:Int)=61∨(s[k].toNat:Int)=59∨(s[k].toNat:Int)=124∨(s[k].toNat:Int)=40∨(s[k].toNat:Int)=41∨(s[k].toNat:Int)=42∨(s[k].toNat:Int)=43∨(s[k].toNat:Int)=63)->Lx.refSign s k=ByteArray.empty) :=
      fun hp=>(Lx.refSign_other hlt HRK.out (by rw[Lx.byteAt_eq s k hlt];unfold Lx.punct;exact decide_eq_false hp)).trans (by simp)
     have hpk:(((k:Int)) == (k:Int))=true:=beq_self_eq_true _;clear HNW1 HNW2 HNW3 HNW4;have ku2:=(ku.set 1 (.int .i64 (k:Int))).set 2 (.string ⟨#[]⟩);have mu2:=(mu.set 1 (.int .i64 (k:Int))).set 2 (.string ⟨#[]⟩);have hkk:((k:Int) == (s.size:Int))=false:=beq_eq_false_iff_ne.2 (by omega);go_wp2_with fail;have k2:Blk ((u.setCell ⟨q,1,none⟩ (.int .i64 (k:Int))).setCell ⟨q,2,none⟩ (.string ⟨#[]⟩)) q (rblk s k ⟨#[]⟩ nest err at_ sgv) 89:=ku2;have m2:St q sgv w sgv n xs ((u.setCell ⟨q,1,none⟩ (.int .i64 (k:Int))).setCell ⟨q,2,none⟩ (.string ⟨#[]⟩)):=mu2;clear ku2 mu2 ku mu c0 c1 c2 fq;generalize (u.setCell ⟨q,1,none⟩ (.int .i64 (k:Int))).setCell ⟨q,2,none⟩ (.string ⟨#[]⟩)=u2 at *;have c0:u2.cell? ⟨q,0,none⟩=some (.string s):=k2.cell 0;have c2:u2.cell? ⟨q,2,none⟩=some (.string ⟨#[]⟩):=k2.cell 2;have fq:∀ j,u2.frozen? ⟨q,j,none⟩=false:=k2.frozen
     go_loop [4] (fun j=>j=.int .i64 (k:Int)) (fun _=>0)
     case atStart=>rfl
     case round =>
      subst hrel;go_wp2_with fail;refine (rdigit_any _ _ (by omega) (by omega)).mono ?_;rintro e w' ⟨rfl,hw⟩;obtain rfl:=hw.symm;rw[HD.out];go_wp2_with fail;refine (rlow_any _ _ (by omega) (by omega)).mono ?_;rintro e w' ⟨rfl,hw⟩;obtain rfl:=hw.symm;rw[HS.out];go_wp2_with fail;refine (rbig_any _ _ (by omega) (by omega)).mono ?_;rintro e w' ⟨rfl,hw⟩;obtain rfl:=hw.symm;rw[HC.out];go_upto_region 18 with fail
      simp only[List.append_eq,List.cons_append,List.nil_append];go_wp2_with fail
      all_goals
       go_end0
       refine⟨rfl,_,m2.set 2 _,?_⟩;simp only[beq_iff_eq,beq_eq_false_iff_ne,ne_eq]at *
       first
       | (rw[HQ1.out (by omega)];exact k2.set 2 _)
       | (rw[HQ2.out (by omega)];exact k2.set 2 _)
    ·have HG:Hid (Lx.gapEnd s (k+1) true=g):=Lx.gap_rem hlt hg.out hc.1 hc.2.1
     clear hc;go_wp2_with fail;exact⟨⟨k+1,_,by omega,by go_num,rfl,HG⟩,by simp[intOf];omega⟩
  ·have hkg:k=g:=by have:=hg.out;rw[Lx.gapEnd_done _ (by omega)]at this;exact this
   subst hkg;exact absurd hlt0 hlt
end Go.Proofs.YtlcppnabbicmoaaGreatDoor

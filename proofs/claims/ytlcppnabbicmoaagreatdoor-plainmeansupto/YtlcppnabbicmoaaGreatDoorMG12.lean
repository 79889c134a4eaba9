import Derived.Test.YtlcppnabbicmoaaGreatDoorMG10
import Derived.Deep.Cut
set_option maxHeartbeats 8000000
set_option maxRecDepth 1000000
namespace Go.Proofs.YtlcppnabbicmoaaGreatDoor
open Lx Go.Proofs.Tryz
open Go.RowKit
open Lx (Tk)
open Tr
theorem aia (s:ByteArray) (q i g:Nat) (nest err at_:Int) (av:Value) (n:Nat) (xs:List Value) (w:World) (hs:s.size<=2000) (hi:i<=s.size) (kq:aj w q (dW s i ⟨#[]⟩ nest err at_ av) 89) (hown:w.ownsRow 0 9 1 av n xs) (hneq:av.ownBlock≠some q) (hg0:aW s i false=g) (qx:g<s.size) (hnw:Hid (Lx.digit (s[g].toNat:Int)=false/\Lx.small (s[g].toNat:Int)=false/\Lx.capital (s[g].toNat:Int)=false/\(s[g].toNat:Int)≠37)) :
  Calls prog 76 #[.pointer (some ⟨q,0,none⟩)] w fun e w'=>e=.returned (.tuple #[])/\∃ aJ,St q av w aJ n xs w'/\aj w' q (dW s g (jo s g) nest err at_ aJ) 89:=by
 have c0:w.cell? ⟨q,0,none⟩=some (.string s):=kq.cell 0;have c1:w.cell? ⟨q,1,none⟩=some (.int .i64 (i:Int)):=kq.cell 1;have c2:w.cell? ⟨q,2,none⟩=some (.string ⟨#[]⟩):=kq.cell 2;have fq:∀ j,w.frozen? ⟨q,j,none⟩=false:=kq.frozen;have oL:Hid _:=hg0;clear hg0;go_enter func76,ntmps76;go_wp2_with fail
 go_quiet (fail)
 go_wp2_with fail;have ku:=kq.drewN nq;have mu:=(St.mk (Mv.refl q av w) (Nx.refl av w) hown hneq).drewN nq;clear hown hneq;generalize w.drewN nq=u at *;have c0:u.cell? ⟨q,0,none⟩=some (.string s):=ku.cell 0;have fq:∀ j,u.frozen? ⟨q,j,none⟩=false:=ku.frozen;have c1:=ku.cell 1;have c2:=ku.cell 2;simp only[dW]at c1 c2;clear kq
 go_loop [2,3] (fun at_ r=>∃ (k:Nat) (b:Bool),k<=s.size/\at_=.int .i64 k/\r=.bool b/\Hid (aW s k b=g)) (fun at_ _=>s.size - (intOf at_).toNat)
 case atStart=>exact⟨i,false,hi,rfl,rfl,oL⟩
 case round =>
  obtain⟨k,b,hk,rfl,rfl,hg⟩:=hrel
  by_cases hlt:k<s.size
  ·have hbd:=nP s k
   rw[dB s k hlt]at hbd;have hcs:(s[k].toNat:Int)=10\/(s[k].toNat:Int)=35\/(s[k].toNat:Int)=32\/(s[k].toNat:Int)=9\/((s[k].toNat:Int)≠10/\(s[k].toNat:Int)≠35/\(s[k].toNat:Int)≠32/\(s[k].toNat:Int)≠9):=by omega
   rcases hcs with hc | hc | hc | hc | hc
   ·have HG:Hid (aW s (k+1) false=g):=Ch hlt hg.out hc
    cases b
    all_goals
     go_wp2_with fail;exact⟨⟨k+1,_,by omega,by go_num,rfl,HG⟩,by simp[intOf];omega⟩
   ·have HG:Hid (aW s (k+1) true=g):=BV hlt hg.out hc
    cases b
    all_goals
     go_wp2_with fail;exact⟨⟨k+1,_,by omega,by go_num,rfl,HG⟩,by simp[intOf];omega⟩
   ·cases b
    ·have HG:Hid (aW s (k+1) false=g):=sF hlt hg.out (.inl hc)
     go_wp2_with fail;exact⟨⟨k+1,_,by omega,by go_num,rfl,HG⟩,by simp[intOf];omega⟩
    ·have HG:Hid (aW s (k+1) true=g):=nU hlt hg.out (by omega) (by omega)
     go_wp2_with fail;exact⟨⟨k+1,_,by omega,by go_num,rfl,HG⟩,by simp[intOf];omega⟩
   ·cases b
    ·have HG:Hid (aW s (k+1) false=g):=sF hlt hg.out (.inr hc)
     go_wp2_with fail;exact⟨⟨k+1,_,by omega,by go_num,rfl,HG⟩,by simp[intOf];omega⟩
    ·have HG:Hid (aW s (k+1) true=g):=nU hlt hg.out (by omega) (by omega)
     go_wp2_with fail;exact⟨⟨k+1,_,by omega,by go_num,rfl,HG⟩,by simp[intOf];omega⟩
   ·have I8:((s[k].toNat:Int) == 10)=false:=beq_eq_false_iff_ne.2 hc.1
    have t35:((s[k].toNat:Int) == 35)=false:=beq_eq_false_iff_ne.2 hc.2.1;have t32:((s[k].toNat:Int) == 32)=false:=beq_eq_false_iff_ne.2 hc.2.2.1;have t9:((s[k].toNat:Int) == 9)=false:=beq_eq_false_iff_ne.2 hc.2.2.2;cases b
    ·have hkg:k=g:=BX hlt hg.out hc.1 hc.2.1 hc.2.2.1 hc.2.2.2
     subst hkg;clear hc;obtain⟨CB,CF,CG,CJ⟩:=hnw.out;have h37:((s[k].toNat:Int) == 37)=false:=beq_eq_false_iff_ne.2 CJ;have HD:Hid (Lx.digit (s[k].toNat:Int)=false):=CB;have HS:Hid (Lx.small (s[k].toNat:Int)=false):=CF;have HC:Hid (Lx.capital (s[k].toNat:Int)=false):=CG;have I9:Hid (eZ s k=k):=(Ka hlt).2 ⟨by rw[dB s k hlt];exact CJ,by rw[dB s k hlt];exact Kw CB CF CG⟩;have SH:Hid (((s[k].toNat:Int)=61\/(s[k].toNat:Int)=59\/(s[k].toNat:Int)=124\/(s[k].toNat:Int)=40\/(s[k].toNat:Int)=41\/(s[k].toNat:Int)=42\/(s[k].toNat:Int)=43\/(s[k].toNat:Int)=63)->jo s k=s.extract k (k+1)) :=
      fun hp=>U6 hlt I9.out (by rw[dB s k hlt];unfold yN;exact decide_eq_true hp)
     have tK:Hid (¬ ((s[k].toNat:Int)=61\/(s[k].toNat:Int)=59\/(s[k].toNat:Int)=124\/(s[k].toNat:Int)=40\/(s[k].toNat:Int)=41\/(s[k].toNat:Int)=42\/(s[k].toNat:Int)=43\/(s[k].toNat:Int)=63)->jo s k=ByteArray.empty) :=
      fun hp=>(U7 hlt I9.out (by rw[dB s k hlt];unfold yN;exact decide_eq_false hp)).trans (by simp)
     have hpk:(((k:Int)) == (k:Int))=true:=beq_self_eq_true _;clear CB CF CG CJ;have wo:=(ku.set 1 (.int .i64 (k:Int))).set 2 (.string ⟨#[]⟩);have wB:=(mu.set 1 (.int .i64 (k:Int))).set 2 (.string ⟨#[]⟩);have hkk:((k:Int) == (s.size:Int))=false:=bq0 (by omega);go_wp2_with fail;have k2:aj ((u.setCell ⟨q,1,none⟩ (.int .i64 (k:Int))).setCell ⟨q,2,none⟩ (.string ⟨#[]⟩)) q (dW s k ⟨#[]⟩ nest err at_ av) 89:=wo;have m2:St q av w av n xs ((u.setCell ⟨q,1,none⟩ (.int .i64 (k:Int))).setCell ⟨q,2,none⟩ (.string ⟨#[]⟩)):=wB;clear wo wB ku mu c0 c1 c2 fq;generalize (u.setCell ⟨q,1,none⟩ (.int .i64 (k:Int))).setCell ⟨q,2,none⟩ (.string ⟨#[]⟩)=u2 at *;have c0:u2.cell? ⟨q,0,none⟩=some (.string s):=k2.cell 0;have c2:u2.cell? ⟨q,2,none⟩=some (.string ⟨#[]⟩):=k2.cell 2;have fq:∀ j,u2.frozen? ⟨q,j,none⟩=false:=k2.frozen
     go_loop [4] (fun j=>j=.int .i64 (k:Int)) (fun _=>0)
     case atStart=>rfl
     case round =>
      subst hrel;go_wp2_with fail;refine (rE _ _ (by omega) (by omega)).mono ?_;rintro e w' ⟨rfl,hw⟩;obtain rfl:=hw.symm;rw[HD.out];go_wp2_with fail;refine (sH _ _ (by omega) (by omega)).mono ?_;rintro e w' ⟨rfl,hw⟩;obtain rfl:=hw.symm;rw[HS.out];go_wp2_with fail;refine (vw _ _ (by omega) (by omega)).mono ?_;rintro e w' ⟨rfl,hw⟩;obtain rfl:=hw.symm;rw[HC.out];go_upto_region 18 with fail
      simp only[List.append_eq,List.cons_append,List.nil_append];go_wp2_with fail
      all_goals
       go_end0
       refine⟨rfl,_,m2.set 2 _,?_⟩;simp only[beq_iff_eq,beq_eq_false_iff_ne,ne_eq]at *
       first
       | (rw[SH.out (by omega)];exact k2.set 2 _)
       | (rw[tK.out (by omega)];exact k2.set 2 _)
    ·have HG:Hid (aW s (k+1) true=g):=nU hlt hg.out hc.1 hc.2.1
     clear hc;go_wp2_with fail;exact⟨⟨k+1,_,by omega,by go_num,rfl,HG⟩,by simp[intOf];omega⟩
  ·have hkg:k=g:=by have:=hg.out;rw[BJ _ (by omega)]at this;exact this
   subst hkg;exact absurd qx hlt
end Go.Proofs.YtlcppnabbicmoaaGreatDoor

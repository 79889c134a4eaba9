import Derived.Test.YtjaalkocdbkdeaaGreatDoorSA11
set_option maxHeartbeats 8000000
set_option maxRecDepth 1000000
namespace Go.Proofs.YtjaalkocdbkdeaaGreatDoor
open Lx Go.Proofs.Tryz
open Go.RowKit
open Lx (Tk)
open Tr
theorem agi(s:ByteArray)(q i g:Nat)(nest err at_:Int)(au:Value)(n:Nat)(xs:List Value)(w:World)(hs:s.size<=2000)(hi:i<=s.size)(kq:aj w q (dJ s i ⟨#[]⟩ nest err at_ au) 135)(hown:w.ownsRow 0 9 1 au n xs)(hneq:au.ownBlock≠some q)(hg0:aV s i false=g)(qb:g<s.size)(hne:eD s g≠g):
  Calls prog 96 #[.pointer (some ⟨q,0,none⟩)] w fun e w'=>e=.returned (.tuple #[])/\∃aG,St q au w aG n xs w'/\aj w' q (dJ s g (je s g) nest err at_ aG) 135:=by
 have c0:w.cell? ⟨q,0,none⟩=some (.string s):=kq.cell 0;have c1:w.cell? ⟨q,1,none⟩=some (.int .i64 (i:Int)):=kq.cell 1;have c2:w.cell? ⟨q,2,none⟩=some (.string ⟨#[]⟩):=kq.cell 2;have fq:∀j,w.frozen? ⟨q,j,none⟩=false:=kq.frozen;have rF:Hid _:=hg0;clear hg0;go_enter func96,ntmps96;go_wp2_with fail
 go_quiet (fail)
 go_wp2_with fail;have ku:=kq.drewN nq;have mu:=(St.mk (Mv.refl q au w) (Nx.refl au w) hown hneq).drewN nq;clear hown hneq;generalize w.drewN nq=u at *;have c0:u.cell? ⟨q,0,none⟩=some (.string s):=ku.cell 0;have fq:∀j,u.frozen? ⟨q,j,none⟩=false:=ku.frozen;have c1:=ku.cell 1;have c2:=ku.cell 2;simp only[dJ]at c1 c2;clear kq
 go_loop [2,3] (fun at_ r=>∃(k:Nat)(b:Bool),k<=s.size/\at_=.int .i64 k/\r=.bool b/\Hid (aV s k b=g)) (fun at_ _=>s.size - (intOf at_).toNat)
 case atStart=>exact⟨i,false,hi,rfl,rfl,rF⟩
 case round=>
  obtain⟨k,b,hk,rfl,rfl,hg⟩:=hrel
  by_cases hlt:k<s.size
  ·have hbd:=nG s k
   rw[dh s k hlt]at hbd;have hcs:(s[k].toNat:Int)=10\/(s[k].toNat:Int)=35\/(s[k].toNat:Int)=32\/(s[k].toNat:Int)=9\/((s[k].toNat:Int)≠10/\(s[k].toNat:Int)≠35/\(s[k].toNat:Int)≠32/\(s[k].toNat:Int)≠9):=by omega
   rcases hcs with hc|hc|hc|hc|hc
   ·have HG:Hid (aV s (k+1) false=g):=BP hlt hg.out hc
    cases b
    all_goals
     go_wp2_with fail;exact⟨⟨k+1,_,by omega,by go_num,rfl,HG⟩,by simp[intOf];omega⟩
   ·have HG:Hid (aV s (k+1) true=g):=BI hlt hg.out hc
    cases b
    all_goals
     go_wp2_with fail;exact⟨⟨k+1,_,by omega,by go_num,rfl,HG⟩,by simp[intOf];omega⟩
   ·cases b
    ·have HG:Hid (aV s (k+1) false=g):=rV hlt hg.out (.inl hc)
     go_wp2_with fail;exact⟨⟨k+1,_,by omega,by go_num,rfl,HG⟩,by simp[intOf];omega⟩
    ·have HG:Hid (aV s (k+1) true=g):=nI hlt hg.out (by omega) (by omega)
     go_wp2_with fail;exact⟨⟨k+1,_,by omega,by go_num,rfl,HG⟩,by simp[intOf];omega⟩
   ·cases b
    ·have HG:Hid (aV s (k+1) false=g):=rV hlt hg.out (.inr hc)
     go_wp2_with fail;exact⟨⟨k+1,_,by omega,by go_num,rfl,HG⟩,by simp[intOf];omega⟩
    ·have HG:Hid (aV s (k+1) true=g):=nI hlt hg.out (by omega) (by omega)
     go_wp2_with fail;exact⟨⟨k+1,_,by omega,by go_num,rfl,HG⟩,by simp[intOf];omega⟩
   ·have Ii:((s[k].toNat:Int) == 10)=false:=beq_eq_false_iff_ne.2 hc.1
    have t35:((s[k].toNat:Int) == 35)=false:=beq_eq_false_iff_ne.2 hc.2.1;have t32:((s[k].toNat:Int) == 32)=false:=beq_eq_false_iff_ne.2 hc.2.2.1;have t9:((s[k].toNat:Int) == 9)=false:=beq_eq_false_iff_ne.2 hc.2.2.2;cases b
    ·have hkg:k=g:=BJ hlt hg.out hc.1 hc.2.1 hc.2.2.1 hc.2.2.2
     subst hkg;clear hc;have sV:Hid (eD s k≠k):=hne;clear hne;have PK:∃k0:Nat,((k0=k+1/\((s[k].toNat:Int) == 37)=true)\/(k0=k/\((s[k].toNat:Int) == 37)=false))/\eD s k=lY s k0:=by
      by_cases h37:(s[k].toNat:Int)=37
      ·exact⟨k+1,.inl ⟨rfl,beq_iff_eq.2 h37⟩,by unfold eD;rw[dh s k hlt,if_pos h37]⟩
      ·exact⟨k,.inr ⟨rfl,beq_eq_false_iff_ne.2 h37⟩,by unfold eD;rw[dh s k hlt,if_neg h37]⟩
     obtain⟨k0,hk0,hre⟩:=PK;have Rf:Hid _:=hre;clear hre;rcases hk0 with ⟨hk0,h37⟩|⟨hk0,h37⟩
     all_goals
      have qm:Hid _:=hk0;have ajI:k<=k0:=by omega
      have PY:k0<=s.size:=by omega
      clear hk0;have vG:=(ku.set 1 (.int .i64 (k:Int))).set 2 (.string ⟨#[]⟩);have vI:=(mu.set 1 (.int .i64 (k:Int))).set 2 (.string ⟨#[]⟩);have hkk:((k:Int) == (s.size:Int))=false:=zB0 (by omega);go_wp2_with fail;have k2:aj ((u.setCell ⟨q,1,none⟩ (.int .i64 (k:Int))).setCell ⟨q,2,none⟩ (.string ⟨#[]⟩)) q (dJ s k ⟨#[]⟩ nest err at_ au) 135:=vG;have m2:St q au w au n xs ((u.setCell ⟨q,1,none⟩ (.int .i64 (k:Int))).setCell ⟨q,2,none⟩ (.string ⟨#[]⟩)):=vI;clear vG vI ku mu c0 c1 c2 fq;generalize (u.setCell ⟨q,1,none⟩ (.int .i64 (k:Int))).setCell ⟨q,2,none⟩ (.string ⟨#[]⟩)=u2 at *;have c0:u2.cell? ⟨q,0,none⟩=some (.string s):=k2.cell 0;have c2:u2.cell? ⟨q,2,none⟩=some (.string ⟨#[]⟩):=k2.cell 2;have fq:∀j,u2.frozen? ⟨q,j,none⟩=false:=k2.frozen
      go_loop [4] (fun j=>∃(m:Nat),k0<=m/\m<=s.size/\j=.int .i64 m/\Hid (eD s k=lY s m)) (fun j=>s.size - (intOf j).toNat)
      case atStart=>exact⟨k0,zL0,PY,by first | (rw[qm.out];done) | (rw[qm.out];go_num),Rf⟩
      case round=>
       obtain⟨m,hm0,hm,rfl,hgm⟩:=hrel
       by_cases bJ:m<s.size
       ·have Rh:=nG s m
        rw[dh s m bJ]at Rh;have Cn:=Jz bJ;rw[dh s m bJ]at Cn;have HST:Hid _:=Cn;clear Cn;cases hd:Lx.digit (s[m].toNat:Int)
        ·cases hsm:Lx.small (s[m].toNat:Int)
         ·cases hcp:Lx.capital (s[m].toNat:Int)
          ·have HR:Hid (eD s k=m):=by show _=_;rw[hgm.out,HST.out,if_neg (by rw[JW hd hsm hcp];simp)]
           have HD:Hid _:=hd;have HS:Hid _:=hsm;have HC:Hid _:=hcp;have HQ:Hid (je s k=s.extract k m):=JD hlt HR.out (fun e=>sV.out (HR.out.trans e));have hmk:¬m=k:=fun e=>sV.out (HR.out.trans e)
           have hpk:(((m:Int)) == (k:Int))=false:=zB0 (by omega);clear hd hsm hcp;go_wp2_with fail;refine(qY _ _ (by omega) (by omega)).mono ?_;rintro e w'⟨rfl,hw⟩;obtain rfl:=hw.symm;rw[HD.out];go_wp2_with fail;refine(rX _ _ (by omega) (by omega)).mono ?_;rintro e w'⟨rfl,hw⟩;obtain rfl:=hw.symm;rw[HS.out];go_wp2_with fail;refine(uV _ _ (by omega) (by omega)).mono ?_;rintro e w'⟨rfl,hw⟩;obtain rfl:=hw.symm;rw[HC.out];go_upto_region 18 with fail
           simp only[List.append_eq,List.cons_append,List.nil_append];go_wp2_with fail
           go_end0
           refine⟨rfl,_,m2.set 2 _,?_⟩;rw[HQ.out];exact k2.set 2 _
          ·have HR:Hid (eD s k=lY s (m+1)):=by show _=_;rw[hgm.out,HST.out,if_pos (KS hcp)]
           have HD:Hid _:=hd;have HS:Hid _:=hsm;have HC:Hid _:=hcp;clear hd hsm hcp;go_wp2_with fail;refine(qY _ _ (by omega) (by omega)).mono ?_;rintro e w'⟨rfl,hw⟩;obtain rfl:=hw.symm;rw[HD.out];go_wp2_with fail;refine(rX _ _ (by omega) (by omega)).mono ?_;rintro e w'⟨rfl,hw⟩;obtain rfl:=hw.symm;rw[HS.out];go_wp2_with fail;refine(uV _ _ (by omega) (by omega)).mono ?_;rintro e w'⟨rfl,hw⟩;obtain rfl:=hw.symm;rw[HC.out];go_wp2_with fail;exact⟨⟨m+1,by omega,by omega,by go_num,HR⟩,by simp[intOf];omega⟩
         ·have HR:Hid (eD s k=lY s (m+1)):=by show _=_;rw[hgm.out,HST.out,if_pos (KQ hsm)]
          have HD:Hid _:=hd;have HS:Hid _:=hsm;clear hd hsm;go_wp2_with fail;refine(qY _ _ (by omega) (by omega)).mono ?_;rintro e w'⟨rfl,hw⟩;obtain rfl:=hw.symm;rw[HD.out];go_wp2_with fail;refine(rX _ _ (by omega) (by omega)).mono ?_;rintro e w'⟨rfl,hw⟩;obtain rfl:=hw.symm;rw[HS.out];go_wp2_with fail;exact⟨⟨m+1,by omega,by omega,by go_num,HR⟩,by simp[intOf];omega⟩
        ·have HR:Hid (eD s k=lY s (m+1)):=by show _=_;rw[hgm.out,HST.out,if_pos (YM hd)]
         have HD:Hid _:=hd;clear hd;go_wp2_with fail;refine(qY _ _ (by omega) (by omega)).mono ?_;rintro e w'⟨rfl,hw⟩;obtain rfl:=hw.symm;rw[HD.out];go_wp2_with fail;exact⟨⟨m+1,by omega,by omega,by go_num,HR⟩,by simp[intOf];omega⟩
       ·have HR:Hid (eD s k=m):=by show _=_;rw[hgm.out,NA (by omega)]
        have HQ:Hid (je s k=s.extract k m):=JD hlt HR.out (by omega);have hpk:(((m:Int)) == (k:Int))=false:=zB0 (by omega);go_upto_region 18 with fail
        simp only[List.append_eq,List.cons_append,List.nil_append];go_wp2_with fail
        go_end0
        refine⟨rfl,_,m2.set 2 _,?_⟩;rw[HQ.out];exact k2.set 2 _
    ·have HG:Hid (aV s (k+1) true=g):=nI hlt hg.out hc.1 hc.2.1
     clear hc;go_wp2_with fail;exact⟨⟨k+1,_,by omega,by go_num,rfl,HG⟩,by simp[intOf];omega⟩
  ·have hkg:k=g:=by have:=hg.out;rw[Bt _ (by omega)]at this;exact this
   subst hkg;exact absurd qb hlt
end Go.Proofs.YtjaalkocdbkdeaaGreatDoor

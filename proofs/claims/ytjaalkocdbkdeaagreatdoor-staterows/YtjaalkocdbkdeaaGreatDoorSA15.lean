import Derived.Test.YtjaalkocdbkdeaaGreatDoorSA11
set_option maxHeartbeats 8000000
set_option maxRecDepth 1000000
namespace Go.Proofs.YtjaalkocdbkdeaaGreatDoor
open Lx Go.Proofs.Tryz
open Go.RowKit
open Lx (Tk)
open Tr
theorem agk(s:ByteArray)(q j g:Nat)(W:ByteArray)(hW:(W.toList == [])=false)(nest err at_:Int)(au:Value)(n:Nat)(xs:List Value)(w:World)(hs:s.size<=2000)(hi:j+W.size<=s.size)(kq:aj w q (dJ s j W nest err at_ au) 135)(hown:w.ownsRow 0 9 1 au n xs)(hneq:au.ownBlock≠some q)(hn:n<=2001)(hg0:aV s (j+W.size) false=g)(qb:g<s.size)(hnw:Hid (Lx.digit (s[g].toNat:Int)=false/\Lx.small (s[g].toNat:Int)=false/\Lx.capital (s[g].toNat:Int)=false/\(s[g].toNat:Int)≠37)):
  Calls prog 96 #[.pointer (some ⟨q,0,none⟩)] w fun e w'=>e=.returned (.tuple #[])/\∃aG,St q au w aG (n+1) (xs++[.string W]) w'/\aj w' q (dJ s g (je s g) nest err at_ aG) 135:=by
 obtain⟨i0,hin,hz0,hz1,hz2⟩:=info_parts Tryz.Px;obtain⟨sa,sk,sc,rfl⟩:=rW hown;have c0:w.cell? ⟨q,0,none⟩=some (.string s):=kq.cell 0;have c1:w.cell? ⟨q,1,none⟩=some (.int .i64 (j:Int)):=kq.cell 1;have c2:w.cell? ⟨q,2,none⟩=some (.string W):=kq.cell 2;have c6:w.cell? ⟨q,6,none⟩=some (.slice sa sk sc):=kq.cell 6;have fq:∀j,w.frozen? ⟨q,j,none⟩=false:=kq.frozen;have rF:Hid _:=hg0;have ZH:=kq.lt;clear hg0;have Ac:(w.drew).ownsRow 0 9 1 (.slice sa sk sc) n xs:=aC hown fun _ _=>rfl
 go_enter func96,ntmps96;go_wp2_with fail
 go_region_law (first
  | (refine step_append_lies _ rfl (.tmp 14) (.tmp 19) 41 rfl 0 9 i0 _ 1 16 underlying41 hin hz0 hz1 hz2 rfl (by decide) (.slice sa sk sc) n xs (by simp[Act.eval]) (Ac.alloc _) ⟨w.heap.size,0,none⟩ 1 1 [.string W] (by simp[Act.eval]) rfl (bC (aj.new w.drew _ 9)) (by simp[Value.oneCell']) (by decide) (by unfold maxLen;omega) (by omega) (by simp) _ rfl ?_;intro ga iZ w3 hown3 hgrow3 hat hlt3;have jy:=((kq.drew).alloc _).grown hgrow3 (fun e=>hneq e.symm);have d6:w3.cell? ⟨q,6,none⟩=some (.slice sa sk sc):=jy.cell 6;have ET:∀i,w3.frozen? ⟨q,i,none⟩=false:=jy.frozen))
 all_goals
  have Lh:w.heap.size+1<=w3.heap.size:=by have:=hgrow3.size;simpa using this
  have GQ:ga≠q:=by
   rcases hat with h1|h1
   ·intro e;exact hneq (by rw[h1,e])
   ·intro e;simp at h1;omega
  have AA:St q (.slice sa sk sc) w (.slice (some ⟨ga,0,none⟩) (n+1) iZ) (n+1) (xs++[.string W]) w3:=by
   refine⟨?_,?_,hown3,by simp[Value.ownBlock];exact GQ⟩
   ·exact((Mv.refl q (.slice sa sk sc) w).drew.alloc _).grown hgrow3 (fun k hk=>.inr (.inr hk))
   ·rcases hat with h1 | h1
    ·exact .inl h1.symm
    ·refine .inr ⟨ga,rfl,?_⟩
     simp at h1;omega
  have AB:=AA.set 6 (.slice (some ⟨ga,0,none⟩) (n+1) iZ);have mQ:=jy.set 6 (.slice (some ⟨ga,0,none⟩) (n+1) iZ);clear hgrow3 hat hown3 AA Ac hown hneq;have c0':(w3.setCell ⟨q,6,none⟩ (.slice (some ⟨ga,0,none⟩) (n+1) iZ)).cell? ⟨q,0,none⟩=some (.string s):=mQ.cell 0;have c1':(w3.setCell ⟨q,6,none⟩ (.slice (some ⟨ga,0,none⟩) (n+1) iZ)).cell? ⟨q,1,none⟩=some (.int .i64 (j:Int)):=mQ.cell 1;have c2':(w3.setCell ⟨q,6,none⟩ (.slice (some ⟨ga,0,none⟩) (n+1) iZ)).cell? ⟨q,2,none⟩=some (.string W):=mQ.cell 2;have e0:w3.cell? ⟨q,0,none⟩=some (.string s):=jy.cell 0;have e1:w3.cell? ⟨q,1,none⟩=some (.int .i64 (j:Int)):=jy.cell 1;have e2:w3.cell? ⟨q,2,none⟩=some (.string W):=jy.cell 2;go_wp2_with fail
  go_quiet (fail)
  go_wp2_with fail;have ku:aj ((w3.setCell ⟨q,6,none⟩ (.slice (some ⟨ga,0,none⟩) (n+1) iZ)).drewN nq) q (dJ s j W nest err at_ (.slice (some ⟨ga,0,none⟩) (n+1) iZ)) 135:=mQ.drewN nq;have mu:=AB.drewN nq;clear mQ AB c0' c1' c2' jy e0 e1 e2 d6 ET c6;generalize (Value.slice (some ⟨ga,0,none⟩) (n+1) iZ)=aG at *;generalize (w3.setCell ⟨q,6,none⟩ aG).drewN nq=u at *;obtain⟨i,hie⟩:∃i,i=j+W.size:=⟨_,rfl⟩;rw[<-hie]at rF hi;have AJ:Hid _:=hie;clear hie;have c0:u.cell? ⟨q,0,none⟩=some (.string s):=ku.cell 0;have fq:∀j,u.frozen? ⟨q,j,none⟩=false:=ku.frozen;have c1:=ku.cell 1;have c2:=ku.cell 2;simp only[dJ]at c1 c2;clear kq
  go_loop [2,3] (fun at_ r=>∃(k:Nat)(b:Bool),k<=s.size/\at_=.int .i64 k/\r=.bool b/\Hid (aV s k b=g)) (fun at_ _=>s.size - (intOf at_).toNat)
  case atStart=>exact⟨i,false,hi,by first | (rw[AJ.out];done) | (rw[AJ.out];go_num),rfl,rF⟩
  case round=>
   obtain⟨k,b,hk,rfl,rfl,hg⟩:=hrel
   by_cases hlt:k<s.size
   ·have hbd:=nG s k
    rw[dh s k hlt]at hbd;have hcs:(s[k].toNat:Int)=10\/(s[k].toNat:Int)=35\/(s[k].toNat:Int)=32\/(s[k].toNat:Int)=9\/((s[k].toNat:Int)≠10/\(s[k].toNat:Int)≠35/\(s[k].toNat:Int)≠32/\(s[k].toNat:Int)≠9):=by omega
    rcases hcs with hc|hc|hc|hc|hc
    ·have HG:Hid (aV s (k+1) false=g):=BP hlt hg.out hc
     cases b
     all_goals
      go_wp2_with fail;exact⟨⟨k+1,_,by omega,by go_num,rfl,HG⟩,by simp[intOf];omega⟩
    ·have HG:Hid (aV s (k+1) true=g):=BI hlt hg.out hc
     cases b
     all_goals
      go_wp2_with fail;exact⟨⟨k+1,_,by omega,by go_num,rfl,HG⟩,by simp[intOf];omega⟩
    ·cases b
     ·have HG:Hid (aV s (k+1) false=g):=rV hlt hg.out (.inl hc)
      go_wp2_with fail;exact⟨⟨k+1,_,by omega,by go_num,rfl,HG⟩,by simp[intOf];omega⟩
     ·have HG:Hid (aV s (k+1) true=g):=nI hlt hg.out (by omega) (by omega)
      go_wp2_with fail;exact⟨⟨k+1,_,by omega,by go_num,rfl,HG⟩,by simp[intOf];omega⟩
    ·cases b
     ·have HG:Hid (aV s (k+1) false=g):=rV hlt hg.out (.inr hc)
      go_wp2_with fail;exact⟨⟨k+1,_,by omega,by go_num,rfl,HG⟩,by simp[intOf];omega⟩
     ·have HG:Hid (aV s (k+1) true=g):=nI hlt hg.out (by omega) (by omega)
      go_wp2_with fail;exact⟨⟨k+1,_,by omega,by go_num,rfl,HG⟩,by simp[intOf];omega⟩
    ·have Ii:((s[k].toNat:Int) == 10)=false:=beq_eq_false_iff_ne.2 hc.1
     have t35:((s[k].toNat:Int) == 35)=false:=beq_eq_false_iff_ne.2 hc.2.1;have t32:((s[k].toNat:Int) == 32)=false:=beq_eq_false_iff_ne.2 hc.2.2.1;have t9:((s[k].toNat:Int) == 9)=false:=beq_eq_false_iff_ne.2 hc.2.2.2;cases b
     ·have hkg:k=g:=BJ hlt hg.out hc.1 hc.2.1 hc.2.2.1 hc.2.2.2
      subst hkg;clear hc;obtain⟨Ci,Cj,Ck,Cm⟩:=hnw.out;have h37:((s[k].toNat:Int) == 37)=false:=beq_eq_false_iff_ne.2 Cm;have HD:Hid (Lx.digit (s[k].toNat:Int)=false):=Ci;have HS:Hid (Lx.small (s[k].toNat:Int)=false):=Cj;have HC:Hid (Lx.capital (s[k].toNat:Int)=false):=Ck;have Ij:Hid (eD s k=k):=(JC hlt).2 ⟨by rw[dh s k hlt];exact Cm,by rw[dh s k hlt];exact JW Ci Cj Ck⟩;have Rc:Hid (((s[k].toNat:Int)=61\/(s[k].toNat:Int)=59\/(s[k].toNat:Int)=124\/(s[k].toNat:Int)=40\/(s[k].toNat:Int)=41\/(s[k].toNat:Int)=42\/(s[k].toNat:Int)=43\/(s[k].toNat:Int)=63)->je s k=s.extract k (k+1)) :=
       fun hp=>TH hlt Ij.out (by rw[dh s k hlt];unfold yC;exact decide_eq_true hp)
      have rG:Hid (¬((s[k].toNat:Int)=61\/(s[k].toNat:Int)=59\/(s[k].toNat:Int)=124\/(s[k].toNat:Int)=40\/(s[k].toNat:Int)=41\/(s[k].toNat:Int)=42\/(s[k].toNat:Int)=43\/(s[k].toNat:Int)=63)->je s k=ByteArray.empty) :=
       fun hp=>(TI hlt Ij.out (by rw[dh s k hlt];unfold yC;exact decide_eq_false hp)).trans (by simp)
      have hpk:(((k:Int)) == (k:Int))=true:=beq_self_eq_true _;clear Ci Cj Ck Cm;have vG:=(ku.set 1 (.int .i64 (k:Int))).set 2 (.string ⟨#[]⟩);have vI:=(mu.set 1 (.int .i64 (k:Int))).set 2 (.string ⟨#[]⟩);have hkk:((k:Int) == (s.size:Int))=false:=zB0 (by omega);go_wp2_with fail;have k2:aj ((u.setCell ⟨q,1,none⟩ (.int .i64 (k:Int))).setCell ⟨q,2,none⟩ (.string ⟨#[]⟩)) q (dJ s k ⟨#[]⟩ nest err at_ aG) 135:=vG;have m2:St q (.slice sa sk sc) w aG (n+1) (xs++[.string W]) ((u.setCell ⟨q,1,none⟩ (.int .i64 (k:Int))).setCell ⟨q,2,none⟩ (.string ⟨#[]⟩)):=vI;clear vG vI ku mu c0 c1 c2 fq;generalize (u.setCell ⟨q,1,none⟩ (.int .i64 (k:Int))).setCell ⟨q,2,none⟩ (.string ⟨#[]⟩)=u2 at *;have c0:u2.cell? ⟨q,0,none⟩=some (.string s):=k2.cell 0;have c2:u2.cell? ⟨q,2,none⟩=some (.string ⟨#[]⟩):=k2.cell 2;have fq:∀j,u2.frozen? ⟨q,j,none⟩=false:=k2.frozen
      go_loop [4] (fun j=>j=.int .i64 (k:Int)) (fun _=>0)
      case atStart=>rfl
      case round=>
       subst hrel;go_wp2_with fail;refine(qY _ _ (by omega) (by omega)).mono ?_;rintro e w'⟨rfl,hw⟩;obtain rfl:=hw.symm;rw[HD.out];go_wp2_with fail;refine(rX _ _ (by omega) (by omega)).mono ?_;rintro e w'⟨rfl,hw⟩;obtain rfl:=hw.symm;rw[HS.out];go_wp2_with fail;refine(uV _ _ (by omega) (by omega)).mono ?_;rintro e w'⟨rfl,hw⟩;obtain rfl:=hw.symm;rw[HC.out];go_upto_region 18 with fail
       simp only[List.append_eq,List.cons_append,List.nil_append];go_wp2_with fail
       all_goals
        go_end0
        refine⟨rfl,_,m2.set 2 _,?_⟩;simp only[beq_iff_eq,beq_eq_false_iff_ne,ne_eq]at *
        first
        | (rw[Rc.out (by omega)];exact k2.set 2 _)
        | (rw[rG.out (by omega)];exact k2.set 2 _)
     ·have HG:Hid (aV s (k+1) true=g):=nI hlt hg.out hc.1 hc.2.1
      clear hc;go_wp2_with fail;exact⟨⟨k+1,_,by omega,by go_num,rfl,HG⟩,by simp[intOf];omega⟩
   ·have hkg:k=g:=by have:=hg.out;rw[Bt _ (by omega)]at this;exact this
    subst hkg;exact absurd qb hlt
end Go.Proofs.YtjaalkocdbkdeaaGreatDoor

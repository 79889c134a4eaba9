import Derived.Test.YtlcppnabbicmoaaGreatDoorMG10
import Derived.Deep.Cut
set_option maxHeartbeats 8000000
set_option maxRecDepth 1000000
namespace Go.Proofs.YtlcppnabbicmoaaGreatDoor
open Lx Go.Proofs.Tryz
open Go.RowKit
open Lx (Tk)
open Tr
theorem ahb (s:ByteArray) (q j g:Nat) (W:ByteArray) (hW:(W.toList == [])=false) (nest err at_:Int) (av:Value) (n:Nat) (xs:List Value) (w:World) (hs:s.size<=2000) (hi:j+W.size<=s.size) (kq:aj w q (dW s j W nest err at_ av) 89) (hown:w.ownsRow 0 9 1 av n xs) (hneq:av.ownBlock≠some q) (hn:n<=2001) (hg0:aW s (j+W.size) false=g) (hge:¬ g<s.size) :
  Calls prog 76 #[.pointer (some ⟨q,0,none⟩)] w fun e w'=>e=.returned (.tuple #[])/\∃ aJ,St q av w aJ (n+1) (xs++[.string W]) w'/\aj w' q (dW s g (jo s g) nest err at_ aJ) 89:=by
 obtain⟨i0,hin,hz0,hz1,hz2⟩:=info_parts Tryz.QF;obtain⟨sa,sk,sc,rfl⟩:=sG hown;have c0:w.cell? ⟨q,0,none⟩=some (.string s):=kq.cell 0;have c1:w.cell? ⟨q,1,none⟩=some (.int .i64 (j:Int)):=kq.cell 1;have c2:w.cell? ⟨q,2,none⟩=some (.string W):=kq.cell 2;have c6:w.cell? ⟨q,6,none⟩=some (.slice sa sk sc):=kq.cell 6;have fq:∀ j,w.frozen? ⟨q,j,none⟩=false:=kq.frozen;have oL:Hid _:=hg0;have aaK:=kq.lt;clear hg0;have Au:(w.drew).ownsRow 0 9 1 (.slice sa sk sc) n xs:=aD hown fun _ _=>rfl
 go_enter func76,ntmps76;go_wp2_with fail
 go_region_law (first
  | (refine step_append_lies _ rfl (.tmp 14) (.tmp 19) 22 rfl 0 9 i0 _ 1 16 underlying22 hin hz0 hz1 hz2 rfl (by decide) (.slice sa sk sc) n xs (by simp[Act.eval]) (Au.alloc _) ⟨w.heap.size,0,none⟩ 1 1 [.string W] (by simp[Act.eval]) rfl (bP (aj.new w.drew _ 9)) (by simp[Value.oneCell']) (by decide) (by unfold maxLen;omega) (by omega) (by simp) _ rfl ?_;intro ga jh w3 hown3 hgrow3 hat hlt3;have jK:=((kq.drew).alloc _).grown hgrow3 (fun e=>hneq e.symm);have d6:w3.cell? ⟨q,6,none⟩=some (.slice sa sk sc):=jK.cell 6;have FI:∀ i,w3.frozen? ⟨q,i,none⟩=false:=jK.frozen))
 all_goals
  have Mi:w.heap.size+1<=w3.heap.size:=by have:=hgrow3.size;simpa using this
  have Ii:ga≠q:=by
   rcases hat with h1 | h1
   ·intro e;exact hneq (by rw[h1,e])
   ·intro e;simp at h1;omega
  have AY:St q (.slice sa sk sc) w (.slice (some ⟨ga,0,none⟩) (n+1) jh) (n+1) (xs++[.string W]) w3:=by
   refine⟨?_,?_,hown3,by simp[Value.ownBlock];exact Ii⟩
   ·exact ((Mv.refl q (.slice sa sk sc) w).drew.alloc _).grown hgrow3 (fun k hk=>.inr (.inr hk))
   ·rcases hat with h1 | h1
    ·exact .inl h1.symm
    ·refine .inr ⟨ga,rfl,?_⟩
     simp at h1;omega
  have AZ:=AY.set 6 (.slice (some ⟨ga,0,none⟩) (n+1) jh);have mX:=jK.set 6 (.slice (some ⟨ga,0,none⟩) (n+1) jh);clear hgrow3 hat hown3 AY Au hown hneq;have c0':(w3.setCell ⟨q,6,none⟩ (.slice (some ⟨ga,0,none⟩) (n+1) jh)).cell? ⟨q,0,none⟩=some (.string s):=mX.cell 0;have c1':(w3.setCell ⟨q,6,none⟩ (.slice (some ⟨ga,0,none⟩) (n+1) jh)).cell? ⟨q,1,none⟩=some (.int .i64 (j:Int)):=mX.cell 1;have c2':(w3.setCell ⟨q,6,none⟩ (.slice (some ⟨ga,0,none⟩) (n+1) jh)).cell? ⟨q,2,none⟩=some (.string W):=mX.cell 2;have e0:w3.cell? ⟨q,0,none⟩=some (.string s):=jK.cell 0;have e1:w3.cell? ⟨q,1,none⟩=some (.int .i64 (j:Int)):=jK.cell 1;have e2:w3.cell? ⟨q,2,none⟩=some (.string W):=jK.cell 2;go_wp2_with fail
  go_quiet (fail)
  go_wp2_with fail;have ku:aj ((w3.setCell ⟨q,6,none⟩ (.slice (some ⟨ga,0,none⟩) (n+1) jh)).drewN nq) q (dW s j W nest err at_ (.slice (some ⟨ga,0,none⟩) (n+1) jh)) 89:=mX.drewN nq;have mu:=AZ.drewN nq;clear mX AZ c0' c1' c2' jK e0 e1 e2 d6 FI c6;generalize (Value.slice (some ⟨ga,0,none⟩) (n+1) jh)=aJ at *;generalize (w3.setCell ⟨q,6,none⟩ aJ).drewN nq=u at *;obtain⟨i,hie⟩:∃ i,i=j+W.size:=⟨_,rfl⟩;rw[<-hie]at oL hi;have A8:Hid _:=hie;clear hie;have c0:u.cell? ⟨q,0,none⟩=some (.string s):=ku.cell 0;have fq:∀ j,u.frozen? ⟨q,j,none⟩=false:=ku.frozen;have c1:=ku.cell 1;have c2:=ku.cell 2;simp only[dW]at c1 c2;clear kq
  go_loop [2,3] (fun at_ r=>∃ (k:Nat) (b:Bool),k<=s.size/\at_=.int .i64 k/\r=.bool b/\Hid (aW s k b=g)) (fun at_ _=>s.size - (intOf at_).toNat)
  case atStart=>exact⟨i,false,hi,by first | (rw[A8.out];done) | (rw[A8.out];go_num),rfl,oL⟩
  case round =>
   obtain⟨k,b,hk,rfl,rfl,hg⟩:=hrel
   by_cases hlt:k<s.size
   ·have hbd:=nP s k
    rw[dB s k hlt]at hbd;have hcs:(s[k].toNat:Int)=10\/(s[k].toNat:Int)=35\/(s[k].toNat:Int)=32\/(s[k].toNat:Int)=9\/((s[k].toNat:Int)≠10/\(s[k].toNat:Int)≠35/\(s[k].toNat:Int)≠32/\(s[k].toNat:Int)≠9):=by omega
    rcases hcs with hc | hc | hc | hc | hc
    ·have HG:Hid (aW s (k+1) false=g):=Ch hlt hg.out hc
     cases b
     all_goals
      go_wp2_with fail;exact⟨⟨k+1,_,by omega,by go_num,rfl,HG⟩,by simp[intOf];omega⟩
    ·have HG:Hid (aW s (k+1) true=g):=BV hlt hg.out hc
     cases b
     all_goals
      go_wp2_with fail;exact⟨⟨k+1,_,by omega,by go_num,rfl,HG⟩,by simp[intOf];omega⟩
    ·cases b
     ·have HG:Hid (aW s (k+1) false=g):=sF hlt hg.out (.inl hc)
      go_wp2_with fail;exact⟨⟨k+1,_,by omega,by go_num,rfl,HG⟩,by simp[intOf];omega⟩
     ·have HG:Hid (aW s (k+1) true=g):=nU hlt hg.out (by omega) (by omega)
      go_wp2_with fail;exact⟨⟨k+1,_,by omega,by go_num,rfl,HG⟩,by simp[intOf];omega⟩
    ·cases b
     ·have HG:Hid (aW s (k+1) false=g):=sF hlt hg.out (.inr hc)
      go_wp2_with fail;exact⟨⟨k+1,_,by omega,by go_num,rfl,HG⟩,by simp[intOf];omega⟩
     ·have HG:Hid (aW s (k+1) true=g):=nU hlt hg.out (by omega) (by omega)
      go_wp2_with fail;exact⟨⟨k+1,_,by omega,by go_num,rfl,HG⟩,by simp[intOf];omega⟩
    ·have I8:((s[k].toNat:Int) == 10)=false:=beq_eq_false_iff_ne.2 hc.1
     have t35:((s[k].toNat:Int) == 35)=false:=beq_eq_false_iff_ne.2 hc.2.1;have t32:((s[k].toNat:Int) == 32)=false:=beq_eq_false_iff_ne.2 hc.2.2.1;have t9:((s[k].toNat:Int) == 9)=false:=beq_eq_false_iff_ne.2 hc.2.2.2;cases b
     ·have hkg:k=g:=BX hlt hg.out hc.1 hc.2.1 hc.2.2.1 hc.2.2.2
      subst hkg;clear hc;exact absurd hlt hge
     ·have HG:Hid (aW s (k+1) true=g):=nU hlt hg.out hc.1 hc.2.1
      clear hc;go_wp2_with fail;exact⟨⟨k+1,_,by omega,by go_num,rfl,HG⟩,by simp[intOf];omega⟩
   ·have hkg:k=g:=by have:=hg.out;rw[BJ _ (by omega)]at this;exact this
    subst hkg;have HQ:Hid (jo s k=⟨#[]⟩):=VZ hlt;have hkk:((k:Int) == (s.size:Int))=true:=beq_iff_eq.2 (by omega);go_wp2_with fail;refine bodyPost_ret (results_none rfl _ _ _) rfl ?_;refine⟨rfl,_,(mu.set 1 _).set 2 _,?_⟩;rw[HQ.out];exact (ku.set 1 _).set 2 _
end Go.Proofs.YtlcppnabbicmoaaGreatDoor

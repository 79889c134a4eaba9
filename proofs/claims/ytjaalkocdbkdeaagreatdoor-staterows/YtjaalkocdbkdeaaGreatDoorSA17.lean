import Derived.Test.YtjaalkocdbkdeaaGreatDoorSA12
import Derived.Test.YtjaalkocdbkdeaaGreatDoorSA13
import Derived.Test.YtjaalkocdbkdeaaGreatDoorSA14
import Derived.Test.YtjaalkocdbkdeaaGreatDoorSA15
import Derived.Test.YtjaalkocdbkdeaaGreatDoorSA16
set_option maxHeartbeats 8000000
set_option maxRecDepth 1000000
namespace Go.Proofs.YtjaalkocdbkdeaaGreatDoor
open Lx Go.Proofs.Tryz
section
open Go.RowKit
open Lx (Tk)
open Tr
theorem YN{s:ByteArray}{g:Nat}(h:g<s.size)(hr:eD s g=g):Hid (Lx.digit (s[g].toNat:Int)=false/\Lx.small (s[g].toNat:Int)=false/\Lx.capital (s[g].toNat:Int)=false/\(s[g].toNat:Int)≠37):=by
 obtain⟨h1,h2⟩:=(JC h).1 hr;rw[dh s g h]at h1 h2;unfold mE at h2;simp only[Bool.or_eq_false_iff]at h2;exact⟨h2.2,h2.1.1,h2.1.2,h1⟩
theorem agl(s:ByteArray)(q j g:Nat)(W:ByteArray)(hW:(W.toList == [])=false)(nest err at_:Int)(au:Value)(n:Nat)(xs:List Value)(w:World)(hs:s.size<=2000)(hi:j+W.size<=s.size)(kq:aj w q (dJ s j W nest err at_ au) 135)(hown:w.ownsRow 0 9 1 au n xs)(hneq:au.ownBlock≠some q)(hn:n<=2001)(hg0:aV s (j+W.size) false=g):
  Calls prog 96 #[.pointer (some ⟨q,0,none⟩)] w fun e w'=>e=.returned (.tuple #[])/\∃aG,St q au w aG (n+1) (xs++[.string W]) w'/\aj w' q (dJ s g (je s g) nest err at_ aG) 135:=by
 by_cases hge:g<s.size
 ·by_cases hr:eD s g=g
  ·exact agk s q j g W hW nest err at_ au n xs w hs hi kq hown hneq hn hg0 hge (YN hge hr)
  ·exact afe s q j g W hW nest err at_ au n xs w hs hi kq hown hneq hn hg0 hge hr
 ·exact agj s q j g W hW nest err at_ au n xs w hs hi kq hown hneq hn hg0 hge
theorem ahh(s:ByteArray)(q i g:Nat)(nest err at_:Int)(au:Value)(n:Nat)(xs:List Value)(w:World)(hs:s.size<=2000)(hi:i<=s.size)(kq:aj w q (dJ s i ⟨#[]⟩ nest err at_ au) 135)(hown:w.ownsRow 0 9 1 au n xs)(hneq:au.ownBlock≠some q)(hg0:aV s i false=g):
  Calls prog 96 #[.pointer (some ⟨q,0,none⟩)] w fun e w'=>e=.returned (.tuple #[])/\∃aG,St q au w aG n xs w'/\aj w' q (dJ s g (je s g) nest err at_ aG) 135:=by
 by_cases hge:g<s.size
 ·by_cases hr:eD s g=g
  ·exact ahg s q i g nest err at_ au n xs w hs hi kq hown hneq hg0 hge (YN hge hr)
  ·exact agi s q i g nest err at_ au n xs w hs hi kq hown hneq hg0 hge hr
 ·exact ahf s q i g nest err at_ au n xs w hs hi kq hown hneq hg0 hge
end
section
open Go.RowKit
open Lx (Tk)
open Tr
namespace Lx
theorem OV{s:ByteArray}{i:Nat}(h:i<s.size):hd (oz s i)=s.extract i (jM s i):=by rw[FV h];rfl
theorem Ko{s:ByteArray}{i:Nat}(h:i<=s.size):pl (oz s i)=i:=by
 by_cases hi:i<s.size
 ·rw[FV hi];rfl
 ·rw[DX (by omega)];rfl
theorem aff{s:ByteArray}{i:Nat}(h:i<s.size):(oz s i).tail=oz s (oP s i):=by rw[FV h];rfl
theorem nE{b:ByteArray}(h:known b=true):fw b=b:=if_pos h
theorem rZ{t b:ByteArray}(hb:known b=true)(hn:b≠aL):fw t=b↔t=b:=by
 unfold fw
 split
 ·exact Iff.rfl
 ·rename_i hk
  constructor
  ·intro e;exact absurd e.symm hn
  ·intro e;subst e;exact absurd hb hk
theorem JE{p:Int->Bool}(hp:∀c,p c=true->mE c=true){t:ByteArray}(h:isWord p t=true):known t=true:=by
 unfold isWord at h;simp only[Bool.and_eq_true]at h;unfold known;rw[hp _ h.1.2];simp
theorem Bw(t:ByteArray):isName (fw t)=isName t:=by
 unfold fw
 split
 ·rfl
 ·rename_i hk
  cases h:isName t
  ·decide
  ·exact absurd (JE (fun c hc=>KQ hc) h) hk
theorem zH(t:ByteArray):isToken (fw t)=isToken t:=by
 unfold fw
 split
 ·rfl
 ·rename_i hk
  cases h:isToken t
  ·decide
  ·exact absurd (JE (fun c hc=>KS hc) h) hk
theorem Ue{t:ByteArray}(h:isName t=true):known t=true:=JE (fun _ hc=>KQ hc) h
theorem TJ{t:ByteArray}(h:isToken t=true):known t=true:=JE (fun _ hc=>KS hc) h
theorem agm(t:ByteArray):(fw t).size<=t.size:=by
 unfold fw
 split
 ·exact zL0
 ·exact Nat.zero_le _
end Lx
structure RR(s:ByteArray)(q:Nat)(w:World)(ts:List Tk)(nest:Int)(au:Value)(sg:List ByteArray):Prop where
 blk:aj w q (dJ s (Lx.pl ts) (fw (Lx.hd ts)) nest 0 0 au) 135
 own:w.ownsRow 0 9 1 au sg.length (sg.map Value.string)
 ne:au.ownBlock≠some q
 lex:ts=oz s (Lx.pl ts)
 Mt:Lx.pl ts<=s.size
 ss:s.size<=2000
 Li:sg++ts.map Prod.fst=(Lx.lex s).map Prod.fst
structure RX(s:ByteArray)(q:Nat)(w:World)(nest:Int)(n a:Nat)(au:Value)(sg:List ByteArray):Prop where
 blk:∃i W,aj w q (dJ s i W nest (n:Int) (a:Int) au) 135
 own:w.ownsRow 0 9 1 au sg.length (sg.map Value.string)
 ne:au.ownBlock≠some q
 pos:0<n
section
variable {s:ByteArray} {q:Nat} {w w':World} {ts:List Tk} {nest:Int} {au:Value} {sg:List ByteArray}
theorem RR.wf(h:RR s q w ts nest au sg):Lx.WF ts:=by
 rw[h.lex];exact OH s _ _ (zL0)
theorem RR.lt(h:RR s q w ts nest au sg):q<w.heap.size:=h.blk.lt
theorem RR.hsz(h:RR s q w ts nest au sg):(Lx.hd ts).size<=2000:=by
 by_cases hi:Lx.pl ts<s.size
 ·rw[h.lex,OV hi]
  have:=BA hi;rw[ByteArray.size_extract];have:=h.ss;omega
 ·rw[h.lex,DX (by omega)];exact Nat.zero_le _
theorem RR.Ri(h:RR s q w ts nest au sg):(fw (Lx.hd ts)).size<=2000:=Nat.le_trans (agm _) h.hsz
theorem RR.cnt(h:RR s q w ts nest au sg):sg.length+ts.length<=2001:=by
 have:=congrArg List.length h.Li;simp only[List.length_append,List.length_map]at this;have h2:=F3 s (aV s 0 false);have h3:=h.ss;unfold Lx.lex at this;omega
theorem RR.move(h:RR s q w ts nest au sg)(hq:w'.heap[q]?=w.heap[q]?)(hs:∀g,au.ownBlock=some g->w'.heap[g]?=w.heap[g]?):RR s q w' ts nest au sg :=
 ⟨hq.trans h.blk,aC h.own hs,h.ne,h.lex,h.Mt,h.ss,h.Li⟩
theorem RX.move{n a:Nat}(h:RX s q w nest n a au sg)(hq:w'.heap[q]?=w.heap[q]?)(hs:∀g,au.ownBlock=some g->w'.heap[g]?=w.heap[g]?):RX s q w' nest n a au sg:=by
 obtain⟨i,W,hb⟩:=h.blk;exact⟨⟨i,W,hq.trans hb⟩,aC h.own hs,h.ne,h.pos⟩
end
theorem oO{s:ByteArray}{q:Nat}{w:World}{ts:List Tk}{nest:Int}{au:Value}{sg:List ByteArray}(h:RR s q w ts nest au sg)(hk:Lx.known (Lx.hd ts)=true)(hn:Lx.hd ts≠aL):
  Calls prog 96 #[.pointer (some ⟨q,0,none⟩)] w fun e w'=>e=.returned (.tuple #[])/\∃aG,Mv q au w w'/\Nx au w aG/\RR s q w' ts.tail nest aG (sg++[Lx.hd ts]):=by
 have hp:Lx.pl ts<s.size:=by
  rcases Nat.lt_or_ge (Lx.pl ts) s.size with h1|h1
  ·exact h1
  ·have:=h.lex;rw[DX h1]at this;exact absurd (by rw[this];rfl) hn
 have hse:=BA hp;have hhd:Lx.hd ts=s.extract (Lx.pl ts) (jM s (Lx.pl ts)):=by rw[h.lex];rw[Ko h.Mt,OV hp]
 have hws:Lx.pl ts+(Lx.hd ts).size=jM s (Lx.pl ts):=by rw[hhd,ByteArray.size_extract];omega
 have kq:=h.blk;rw[nE hk]at kq;have hcnt:=h.cnt;refine(agl s q (Lx.pl ts) (oP s (Lx.pl ts)) (Lx.hd ts) (lC (l:=[]) hn) nest 0 0 au sg.length _ w h.ss (by omega) kq h.own h.ne (by omega) (by rw[hws];rfl)).mono ?_;rintro e w'⟨rfl,aG,st,Rj⟩;have hnb:=FZ hp;have htl:ts.tail=oz s (oP s (Lx.pl ts)):=by
  have e1:ts.tail=(oz s (Lx.pl ts)).tail:=by rw[<-h.lex]
  rw[e1,aff hp]
 have hpt:Lx.pl ts.tail=oP s (Lx.pl ts):=by rw[htl,Ko hnb.2]
 refine⟨rfl,aG,st.mv,st.nx,⟨?_,?_,st.ne,?_,by rw[hpt];exact hnb.2,h.ss,?_⟩⟩
 ·rw[hpt,htl,<-Vq hnb.2];exact Rj
 ·have:=st.own;simpa using this
 ·rw[hpt];exact htl
 ·have:=h.Li
  cases ts with
  |nil=>exact absurd (h.wf) (by simp[Lx.WF])
  |cons t r=>simpa [Lx.hd]using this
end
section
open Go.RowKit
open Lx (Tk)
open Tr
section
variable {s:ByteArray} {q:Nat} {w:World} {ts:List Tk} {nest:Int} {au:Value} {sg:List ByteArray}
theorem Kz(h:RR s q w ts nest au sg)(n a:Nat)(hn:0<n):
  Calls prog 95 #[.pointer (some ⟨q,0,none⟩),.int .i64 (n:Int),.int .i64 (a:Int)] w fun e w'=>e=.returned (.tuple #[])/\Mv q au w w'/\RX s q w' nest n a au sg:=by
 have kq:=h.blk;have c4:w.cell? ⟨q,4,none⟩=some (.int .i64 0):=kq.cell 4;have c5:w.cell? ⟨q,5,none⟩=some (.int .i64 0):=kq.cell 5;have fq:∀j,w.frozen? ⟨q,j,none⟩=false:=kq.frozen;go_enter func95,ntmps95
 go_wp2
 go_end0
 refine⟨rfl,((Mv.refl _ _ _).set 4 _).set 5 _,⟨⟨_,_,(kq.set 4 _).set 5 _⟩,?_,h.ne,hn⟩⟩;refine aC h.own fun g hg=>?_
 have Aq:g≠q:=fun e=>h.ne (by rw[hg,e])
 rw[zS0 Aq,zS0 Aq]
theorem ain{n a:Nat}(h:RX s q w nest n a au sg)(n' a':Int):
  Calls prog 95 #[.pointer (some ⟨q,0,none⟩),.int .i64 n',.int .i64 a'] w fun e w'=>e=.returned (.tuple #[])/\w'=w:=by
 obtain⟨i,W,kq⟩:=h.blk;have c4:w.cell? ⟨q,4,none⟩=some (.int .i64 (n:Int)):=kq.cell 4;have h0:((n:Int) == 0)=false:=beq_eq_false_iff_ne.2 (by have:=h.pos;omega);go_enter func95,ntmps95
 go_wp2
 go_end0
 exact⟨rfl,rfl⟩
theorem iG(h:RR s q w ts nest au sg)(b:ByteArray)(hb:Lx.known b=true)(hn:b≠aL):
  Calls prog 168 #[.pointer (some ⟨q,0,none⟩),.string b] w fun e w'=>e=.returned (.bool (decide (Lx.hd ts=b)))/\w'=w:=by
 have kq:=h.blk;have c4:w.cell? ⟨q,4,none⟩=some (.int .i64 0):=kq.cell 4;have c2:w.cell? ⟨q,2,none⟩=some (.string (fw (Lx.hd ts))):=kq.cell 2;go_enter func168,ntmps168
 go_wp2
 go_ret;refine⟨gy ((Gd _ _).trans ?_),rfl⟩
 by_cases he:Lx.hd ts=b
 ·rw[decide_eq_true he,decide_eq_true ((rZ hb hn).2 he)]
 ·rw[decide_eq_false he,decide_eq_false (fun e=>he ((rZ hb hn).1 e))]
theorem yD{n a:Nat}(h:RX s q w nest n a au sg)(b:ByteArray):
  Calls prog 168 #[.pointer (some ⟨q,0,none⟩),.string b] w fun e w'=>e=.returned (.bool false)/\w'=w:=by
 obtain⟨i,W,kq⟩:=h.blk;have c4:w.cell? ⟨q,4,none⟩=some (.int .i64 (n:Int)):=kq.cell 4;have h0:((n:Int) == 0)=false:=beq_eq_false_iff_ne.2 (by have:=h.pos;omega);go_enter func168,ntmps168
 go_wp2
 go_ret;exact⟨rfl,rfl⟩
theorem YO(h:RR s q w ts nest au sg)(b:ByteArray)(hb:Lx.known b=true)(hn:b≠aL)(hd:¬Lx.hd ts=b):
  Calls prog 155 #[.pointer (some ⟨q,0,none⟩),.string b] w fun e w'=>e=.returned (.bool false)/\w'=w:=by
 have HD:Hid _:=hd;clear hd;go_enter func155,ntmps155
 go_wp2_with (first
  | (go_at_call 168;refine(iG h b hb hn).mono ?_;rintro e w'⟨rfl,hw⟩;obtain rfl:=hw.symm;rw[decide_eq_false HD.out]))
 go_ret;exact⟨rfl,rfl⟩
theorem KU{n a:Nat}(h:RX s q w nest n a au sg)(b:ByteArray):
  Calls prog 155 #[.pointer (some ⟨q,0,none⟩),.string b] w fun e w'=>e=.returned (.bool false)/\w'=w:=by
 go_enter func155,ntmps155
 go_wp2_with (first
  | (go_at_call 168;refine(yD h b).mono ?_;rintro e w'⟨rfl,hw⟩;obtain rfl:=hw.symm))
 go_ret;exact⟨rfl,rfl⟩
theorem XZ(h:RR s q w ts nest au sg)(b:ByteArray)(hb:Lx.known b=true)(hn:b≠aL)(hd:Lx.hd ts=b):
  Calls prog 155 #[.pointer (some ⟨q,0,none⟩),.string b] w fun e w'=>e=.returned (.bool true)/\∃aG,Mv q au w w'/\Nx au w aG/\RR s q w' ts.tail nest aG (sg++[Lx.hd ts]):=by
 have HD:Hid (Lx.hd ts=b):=hd;clear hd;go_enter func155,ntmps155
 go_wp2_with (first
  | (go_at_call 168;refine(iG h b hb hn).mono ?_;rintro e w'⟨rfl,hw⟩;obtain rfl:=hw.symm;rw[decide_eq_true HD.out])
  | (go_at_call 96;refine(oO h (by rw[HD.out];exact hb) (by rw[HD.out];exact hn)).mono ?_;rintro e w'⟨rfl,aG,hm,hx,hr⟩))
 go_ret;exact⟨rfl,aG,hm,hx,hr⟩
end
def bO(s:ByteArray)(q:Nat)(nest:Int){α:Type}(V:Value->World->Value->α->Prop)(VE:Value->Prop)(w:World)(au:Value)(r:aX α)(e:Ending)(w':World):Prop :=
 ∃v aG uJ,e=.returned v/\Mv q au w w'/\Nx au w aG /\
  match r with
  | .ok (x,ts')=>RR s q w' ts' nest aG uJ/\V aG w' v x
  | .error (n,a)=>RX s q w' nest n a aG uJ/\VE v
section
variable {s:ByteArray} {q:Nat} {nest:Int} {α:Type} {V:Value -> World -> Value -> α -> Prop} {VE:Value -> Prop} {w w':World} {au:Value} {r:aX α} {e:Ending}
theorem bO.yes{x:α}{ts':List Tk}{v aG:Value}{uJ:List ByteArray}(hr:r=.ok (x,ts'))(hm:Mv q au w w')(hx:Nx au w aG)(h1:RR s q w' ts' nest aG uJ)(h2:V aG w' v x):bO s q nest V VE w au r (.returned v) w':=by
 subst hr;exact⟨v,aG,uJ,rfl,hm,hx,h1,h2⟩
theorem bO.no{n a:Nat}{v aG:Value}{uJ:List ByteArray}(hr:r=.error (n,a))(hm:Mv q au w w')(hx:Nx au w aG)(h1:RX s q w' nest n a aG uJ)(h2:VE v):bO s q nest V VE w au r (.returned v) w':=by
 subst hr;exact⟨v,aG,uJ,rfl,hm,hx,h1,h2⟩
theorem bO.ok{x:α}{ts':List Tk}(h:bO s q nest V VE w au r e w')(hr:r=.ok (x,ts')):∃v aG uJ,e=.returned v/\Mv q au w w'/\Nx au w aG/\RR s q w' ts' nest aG uJ/\V aG w' v x:=by
 subst hr;exact h
theorem bO.err{n a:Nat}(h:bO s q nest V VE w au r e w')(hr:r=.error (n,a)):∃v aG uJ,e=.returned v/\Mv q au w w'/\Nx au w aG/\RX s q w' nest n a aG uJ/\VE v:=by
 subst hr;exact h
end
section
variable {s:ByteArray} {q:Nat} {w:World} {ts:List Tk} {nest:Int} {au:Value} {sg:List ByteArray}
theorem KC(h:RR s q w ts nest au sg)(b:ByteArray)(hb:Lx.known b=true)(hn:b≠aL):
  Calls prog 133 #[.pointer (some ⟨q,0,none⟩),.string b] w (bO s q nest (fun _ _ v(_:Unit)=>v=.tuple #[]) (fun v=>v=.tuple #[]) w au (gF b ts)):=by
 by_cases hd:Lx.hd ts=b
 ·have HM:Hid (gF b ts=.ok ((),ts.tail)):=if_pos hd
  have HD:Hid (Lx.hd ts=b):=hd;clear hd;go_enter func133,ntmps133
  go_wp2_with (first
   | (go_at_call 155;refine(XZ h b hb hn HD.out).mono ?_;rintro e w'⟨rfl,aG,hm,hx,hr⟩))
  go_end0
  exact bO.yes HM.out hm hx hr rfl
 ·have HM:Hid (gF b ts=.error (2,Lx.pl ts)):=if_neg hd
  have HD:Hid (¬Lx.hd ts=b):=hd;have c1:w.cell? ⟨q,1,none⟩=some (.int .i64 (Lx.pl ts:Int)):=h.blk.cell 1;clear hd;go_enter func133,ntmps133
  go_wp2_with (first
   | (go_at_call 155;refine(YO h b hb hn HD.out).mono ?_;rintro e w'⟨rfl,hw⟩;obtain rfl:=hw.symm)
   | (go_at_call 95;refine(Kz h 2 (Lx.pl ts) (by decide)).mono ?_;rintro e w'⟨rfl,hm,hx⟩))
  go_end0
  exact bO.no HM.out hm (Nx.refl _ _) hx rfl
theorem KD{n a:Nat}(h:RX s q w nest n a au sg)(b:ByteArray):
  Calls prog 133 #[.pointer (some ⟨q,0,none⟩),.string b] w fun e w'=>e=.returned (.tuple #[])/\w'=w:=by
 obtain⟨i,W,kq⟩:=h.blk;have c1:w.cell? ⟨q,1,none⟩=some (.int .i64 (i:Int)):=kq.cell 1;go_enter func133,ntmps133
 go_wp2_with (first
  | (go_at_call 155;refine(KU h b).mono ?_;rintro e w'⟨rfl,hw⟩;obtain rfl:=hw.symm)
  | (go_at_call 95;refine(ain h _ _).mono ?_;rintro e w'⟨rfl,hw⟩;obtain rfl:=hw.symm))
 go_end0
 exact⟨rfl,rfl⟩
theorem Ou(h:RR s q w ts nest au sg):
  Calls prog 132 #[.pointer (some ⟨q,0,none⟩)] w (bO s q nest (fun _ _ v(b:ByteArray)=>v=.string b) (fun v=>v=.string ⟨#[]⟩) w au (cK Lx.isToken ts)):=by
 have kq:=h.blk;have c1:w.cell? ⟨q,1,none⟩=some (.int .i64 (Lx.pl ts:Int)):=kq.cell 1;have c2:w.cell? ⟨q,2,none⟩=some (.string (fw (Lx.hd ts))):=kq.cell 2;have c4:w.cell? ⟨q,4,none⟩=some (.int .i64 0):=kq.cell 4;have hsz:=h.Ri;cases hd:Lx.isToken (Lx.hd ts)
 ·have HM:Hid (cK Lx.isToken ts=.error (2,Lx.pl ts)):=if_neg (by rw[hd];simp)
  have HD:Hid (Lx.isToken (fw (Lx.hd ts))=false):=by rw[zH];exact hd
  clear hd;go_enter func132,ntmps132
  go_wp2_with (first
   | (go_at_call 154;refine(zG _ _ hsz).mono ?_;rintro e w'⟨rfl,hw⟩;obtain rfl:=hw.symm;rw[HD.out])
   | (go_at_call 95;refine(Kz h 2 (Lx.pl ts) (by decide)).mono ?_;rintro e w'⟨rfl,hm,hx⟩))
  go_ret;exact bO.no HM.out hm (Nx.refl _ _) hx rfl
 ·have HM:Hid (cK Lx.isToken ts=.ok (Lx.hd ts,ts.tail)):=if_pos hd
  have HD:Hid (Lx.isToken (fw (Lx.hd ts))=true):=by rw[zH];exact hd
  have HK:Hid (Lx.known (Lx.hd ts)=true):=TJ hd;have HN:Hid (Lx.hd ts≠aL):=NT hd;clear hd;go_enter func132,ntmps132
  go_wp2_with (first
   | (go_at_call 154;refine(zG _ _ hsz).mono ?_;rintro e w'⟨rfl,hw⟩;obtain rfl:=hw.symm;rw[HD.out])
   | (go_at_call 96;refine(oO h HK.out HN.out).mono ?_;rintro e w'⟨rfl,aG,hm,hx,hr⟩))
  go_ret;exact bO.yes HM.out hm hx hr (by rw[nE HK.out];rfl)
end
end
section
open Go.RowKit
open Lx (Tk)
open Tr
def Fp(lo:Nat)(aG:Value)(w:World):Nat->Prop:=fun b=>lo<=b/\b<w.heap.size/\aG.ownBlock≠some b
def aiY(d lo:Nat)(aG:Value)(w':World)(v:Value)(l:List Lx.Alt):Prop:=ay YR d (Fp lo aG w') w' v l
def Gp(d lo:Nat)(aG:Value)(w':World)(v:Value)(it:Lx.It):Prop:=∃va,v=.agg #[.int .i64 (it.kind:Int),.string it.name,.int .u8 (it.mark:Int),va,.int .i64 (it.place:Int)]/\ay YR d (Fp lo aG w') w' va it.alts
def ajo(d lo:Nat)(aG:Value)(w':World)(v:Value)(a:Lx.Alt):Prop:=∃vi,v=.agg #[vi,.string a.2.1,.int .i64 (a.2.2:Int)]/\bM YR d (Fp lo aG w') w' vi a.1
def Zk(v:Value):Prop:=∃a k c,v=.slice a k c
def Gy(v:Value):Prop:=∃k n m a l c p,v=.agg #[.int .i64 k,.string n,.int .u8 m,.slice a l c,.int .i64 p]
def ajJ(v:Value):Prop:=∃a l c b p,v=.agg #[.slice a l c,.string b,.int .i64 p]
def J9(d:Nat):Prop:=∀(s:ByteArray)(q:Nat)(w:World)(ts:List Tk)(nest:Int)(au:Value)(sg:List ByteArray),nest=8 - (d:Int)->RR s q w ts nest au sg ->
 Calls prog 135 #[.pointer (some ⟨q,0,none⟩),.bool (d == 8)] w (bO s q nest (aiY (d+1) w.heap.size) Zk w au (iP d ts))
def Wo(d:Nat):Prop:=∀(s:ByteArray)(q:Nat)(w:World)(ts:List Tk)(nest:Int)(au:Value)(sg:List ByteArray),nest=8 - (d:Int)->RR s q w ts nest au sg->jU ts=true ->
 Calls prog 169 #[.pointer (some ⟨q,0,none⟩),.bool (Lx.isName (Lx.hd ts)),.bool (Lx.isToken (Lx.hd ts))] w (bO s q nest (Gp d w.heap.size) Gy w au (cO (bB d) ts))
def Xh(d:Nat):Prop:=∀(s:ByteArray)(q:Nat)(w:World)(ts:List Tk)(nest:Int)(au:Value)(sg:List ByteArray),nest=8 - (d:Int)->RR s q w ts nest au sg ->
 Calls prog 156 #[.pointer (some ⟨q,0,none⟩),.bool (d == 8)] w (bO s q nest (ajo d w.heap.size) ajJ w au (dG (bB d) (d == 8) ts))
section
variable {s:ByteArray} {q:Nat} {w w':World} {ts:List Tk} {nest:Int} {au aG:Value} {sg:List ByteArray}
theorem RR.dQ(h:RR s q w ts nest au sg):∀g,au.ownBlock=some g->g<w.heap.size:=fun g hg=>(h.own.lt g hg).2
theorem RX.dQ{n a:Nat}(h:RX s q w nest n a au sg):∀g,au.ownBlock=some g->g<w.heap.size:=fun g hg=>(h.own.lt g hg).2
theorem RX.lt{n a:Nat}(h:RX s q w nest n a au sg):q<w.heap.size:=by obtain⟨i,W,hb⟩:=h.blk;exact hb.lt
theorem RR.alloc(h:RR s q w ts nest au sg)(o:Obj):RR s q (w.alloc o) ts nest au sg:=h.move (Below.heap_alloc _ _ _ h.lt) fun g hg=>Below.heap_alloc _ _ _ (h.dQ g hg)
theorem RX.alloc{n a:Nat}(h:RX s q w nest n a au sg)(o:Obj):RX s q (w.alloc o) nest n a au sg:=h.move (Below.heap_alloc _ _ _ h.lt) fun g hg=>Below.heap_alloc _ _ _ (h.dQ g hg)
theorem RR.other(h:RR s q w ts nest au sg){b:Nat}(i:Nat)(v:Value)(hq:b≠q)(hb:au.ownBlock≠some b):RR s q (w.setCell ⟨b,i,none⟩ v) ts nest au sg :=
 h.move (zS0 (Ne.symm hq)) fun g hg=>zS0 (fun e=>hb (by rw[hg];exact congrArg some e))
theorem RX.other{n a:Nat}(h:RX s q w nest n a au sg){b:Nat}(i:Nat)(v:Value)(hq:b≠q)(hb:au.ownBlock≠some b):RX s q (w.setCell ⟨b,i,none⟩ v) nest n a au sg :=
 h.move (zS0 (Ne.symm hq)) fun g hg=>zS0 (fun e=>hb (by rw[hg];exact congrArg some e))
theorem RR.Gq(h:RR s q w ts nest au sg)(m:Int):RR s q (w.setCell ⟨q,3,none⟩ (.int .i64 m)) ts m au sg :=
 ⟨h.blk.set 3 _,aC h.own fun g hg=>zS0 (fun e=>h.ne (by rw[hg];exact congrArg some e)),h.ne,h.lex,h.Mt,h.ss,h.Li⟩
theorem RX.Gq{n a:Nat}(h:RX s q w nest n a au sg)(m:Int):RX s q (w.setCell ⟨q,3,none⟩ (.int .i64 m)) m n a au sg:=by
 obtain⟨i,W,hb⟩:=h.blk;exact⟨⟨i,W,hb.set 3 _⟩,aC h.own fun g hg=>zS0 (fun e=>h.ne (by rw[hg];exact congrArg some e)),h.ne,h.pos⟩
theorem RR.fresh(h:RR s q w ts nest au sg){b:Nat}(hb:w.heap.size<=b):au.ownBlock≠some b:=fun e=>by have:=h.dQ b e;omega
theorem Nx.keep(h:Nx au w aG){b:Nat}(hb:b<w.heap.size)(hf:au.ownBlock≠some b):aG.ownBlock≠some b:=by
 rcases h with h|⟨g,h,hg⟩
 ·rw[h];exact hf
 ·rw[h];intro e
  have:=Option.some.inj e;omega
end
theorem aj.mv{q:Nat}{au:Value}{w w':World}{b:Nat}{cs:Array Value}{e:Nat}(h:aj w b cs e)(hm:Mv q au w w')(hq:b≠q)(hs:au.ownBlock≠some b):aj w' b cs e :=
 (hm.block b h.lt hq hs).trans h
end
section
open Go.RowKit
open Lx (Tk)
open Tr
theorem Oa{ts:List Tk}(h:Lx.hd ts=jq):bS ts=(42,ts.tail):=if_pos h
theorem Ob{ts:List Tk}(h:Lx.hd ts=jW):bS ts=(43,ts.tail):=by
 unfold bS;rw[if_neg (by rw[h];decide),if_pos h]
theorem Ov{ts:List Tk}(h:Lx.hd ts=mJ):bS ts=(63,ts.tail):=by
 unfold bS;rw[if_neg (by rw[h];decide),if_neg (by rw[h];decide),if_pos h]
theorem Oc{ts:List Tk}(h1:¬Lx.hd ts=jq)(h2:¬Lx.hd ts=jW)(h3:¬Lx.hd ts=mJ):bS ts=(0,ts):=by
 unfold bS;rw[if_neg h1,if_neg h2,if_neg h3]
theorem afg{d:Nat}(s:ByteArray)(q:Nat)(w:World)(ts:List Tk)(nest:Int)(au:Value)(sg:List ByteArray)(h:RR s q w ts nest au sg)(hno:¬Lx.hd ts=jg)(hn:Lx.isName (Lx.hd ts)=true):
  Calls prog 169 #[.pointer (some ⟨q,0,none⟩),.bool true,.bool false] w (bO s q nest (Gp d w.heap.size) Gy w au (cO (bB d) ts)):=by
 have hp:=h.lt;have kq:=h.blk;have c1:w.cell? ⟨q,1,none⟩=some (.int .i64 (Lx.pl ts:Int)):=kq.cell 1;have h2:=(h.alloc (.cells #[.int .i64 0,.string ⟨#[]⟩,.int .u8 0,.slice none 0 0,.int .i64 0] 158)).alloc (.cells #[.int .i64 0,.string (Lx.hd ts),.int .u8 0,.slice none 0 0,.int .i64 (Lx.pl ts:Int)] 158);have kB:=(aj.new w #[.int .i64 0,.string ⟨#[]⟩,.int .u8 0,.slice none 0 0,.int .i64 0] 158).alloc (.cells #[.int .i64 0,.string (Lx.hd ts),.int .u8 0,.slice none 0 0,.int .i64 (Lx.pl ts:Int)] 158);have kC:=aj.new (w.alloc (.cells #[.int .i64 0,.string ⟨#[]⟩,.int .u8 0,.slice none 0 0,.int .i64 0] 158)) #[.int .i64 0,.string (Lx.hd ts),.int .u8 0,.slice none 0 0,.int .i64 (Lx.pl ts:Int)] 158;rw[show (w.alloc (.cells #[.int .i64 0,.string ⟨#[]⟩,.int .u8 0,.slice none 0 0,.int .i64 0] 158)).heap.size=w.heap.size+1 by simp]at kC;have M0:=((Mv.refl q au w).alloc (.cells #[.int .i64 0,.string ⟨#[]⟩,.int .u8 0,.slice none 0 0,.int .i64 0] 158)).alloc (.cells #[.int .i64 0,.string (Lx.hd ts),.int .u8 0,.slice none 0 0,.int .i64 (Lx.pl ts:Int)] 158);have fB:au.ownBlock≠some w.heap.size:=h.fresh (zL0);have fC:au.ownBlock≠some (w.heap.size+1):=h.fresh (by omega);have HK:Hid (Lx.known (Lx.hd ts)=true):=Ue hn;have sV:Hid (Lx.hd ts≠aL):=VX hn;have c2:w.cell? ⟨q,2,none⟩=some (.string (Lx.hd ts)):=by have:=kq.cell 2;rw[this];simp only[dJ];rw[nE HK.out];rfl
 obtain⟨L,hL⟩:∃L:List Lx.Alt,L=[]:=⟨_,rfl⟩;have Ik:∀m t,bS ts.tail=(m,t)->cO (bB d) ts=.ok (⟨0,Lx.hd ts,m,L,Lx.pl ts⟩,t):=by
  intro m t e;unfold cO;rw[if_neg hno,if_pos hn];rw[e,hL]
 have rH:Hid _:=Ik;have HL:Hid _:=hL;clear Ik hn hL hno;go_enter func169,ntmps169;go_wp2_with fail;refine(oO h2 HK.out sV.out).mono ?_;rintro e w1⟨rfl,sg1,m1,X1,h3⟩;have aZ:=X1.keep (b:=w.heap.size) kB.lt fB;have eX:=X1.keep (b:=w.heap.size+1) kC.lt fC;have aP:=kC.mv m1 (by omega) fC;have kB1:=kB.mv m1 (by omega) fB;have M1:=M0.trans (Nx.refl _ _) m1;have X1:=(Nx.refl au w).trans M0.size X1;have hv1:ay YR d (Fp (w.heap.size+2) sg1 w1) w1 (.slice none 0 0) L:=by rw[HL.out];exact ay.nil _ _ _ _
 have HP:=rH.out;clear kC kB h2 M0 m1 rH HL c1 c2 kq;generalize ts.tail=aB at *
 by_cases hm:Lx.hd aB=jq
 ·have lK:Hid _:=HP _ _ (Oa hm)
  have HM:Hid (Lx.hd aB=jq):=hm;have jJ:Hid (Lx.known (Lx.hd aB)=true):=by show _=_;rw[hm];decide
  have nQ:Hid (Lx.hd aB≠aL):=by show _≠_;rw[hm];decide
  have c2:w1.cell? ⟨q,2,none⟩=some (.string ⟨#[42]⟩):=by
   have:=h3.blk.cell 2;rw[this];simp only[dJ];rw[nE jJ.out,HM.out];rfl
  have h4:=h3.other (b:=w.heap.size+1) 2 (.int .u8 42) (by omega) eX;have fV:=aP.set 2 (.int .u8 42);have bf:=kB1.other (b':=w.heap.size+1) (i:=2) (by omega) (.int .u8 42);have M4:=M1.new (b:=w.heap.size+1) (by omega) 2 (.int .u8 42);have d2:w1.cell? ⟨w.heap.size+1,2,none⟩=some (.int .u8 0):=aP.cell 2;have rC:∀i,w1.frozen? ⟨w.heap.size+1,i,none⟩=false:=aP.frozen;have hv4:ay YR d (Fp (w.heap.size+2) sg1 (w1.setCell ⟨w.heap.size+1,2,none⟩ (.int .u8 42))) (w1.setCell ⟨w.heap.size+1,2,none⟩ (.int .u8 42)) (.slice none 0 0) L :=
   ay.move (fun b hb=>zS0 (fun e=>by have e':b=w.heap.size+1:=e;have:=hb.1;omega)) (fun b hb=>⟨hb.1,by simpa [World.setCell]using hb.2.1,hb.2.2⟩) hv1
  clear hm HP hv1;go_wp2_with fail;refine(iG h3 jq (by decide) (by decide)).mono ?_;rintro e w'⟨rfl,hw⟩;obtain rfl:=hw.symm;rw[decide_eq_true HM.out];go_wp2_with fail;refine(oO h4 jJ.out nQ.out).mono ?_;rintro e w5⟨rfl,o7,m5,x5,h5⟩;have cB:=x5.keep (b:=w.heap.size) bf.lt aZ;have aN:=fV.mv m5 (by omega) eX;have aH:=bf.mv m5 (by omega) aZ;have hv5:ay YR d (Fp (w.heap.size+2) o7 w5) w5 (.slice none 0 0) L:=ay.move (fun b hb=>m5.block b hb.2.1 (fun e=>by have:=hb.1;omega) hb.2.2) (fun b hb=>⟨hb.1,Nat.lt_of_lt_of_le hb.2.1 m5.size,x5.keep hb.2.1 hb.2.2⟩) hv4;have M5:=M4.trans X1 m5;have X5:=X1.trans M4.size x5;have nU:=aH;have d0:w5.cell? ⟨w.heap.size+1,0,none⟩=some (.int .i64 0):=aN.cell 0;have d1:w5.cell? ⟨w.heap.size+1,1,none⟩=some (.string (Lx.hd ts)):=aN.cell 1;have d2:w5.cell? ⟨w.heap.size+1,2,none⟩=some (.int .u8 42):=aN.cell 2;have d3:w5.cell? ⟨w.heap.size+1,3,none⟩=some (.slice none 0 0):=aN.cell 3;have d4:w5.cell? ⟨w.heap.size+1,4,none⟩=some (.int .i64 (Lx.pl ts:Int)):=aN.cell 4;have e0:w5.cell? ⟨w.heap.size,0,none⟩=some (.int .i64 0):=aH.cell 0;have e1:w5.cell? ⟨w.heap.size,1,none⟩=some (.string ⟨#[]⟩):=aH.cell 1;have e2:w5.cell? ⟨w.heap.size,2,none⟩=some (.int .u8 0):=aH.cell 2;have e3:w5.cell? ⟨w.heap.size,3,none⟩=some (.slice none 0 0):=aH.cell 3;have e4:w5.cell? ⟨w.heap.size,4,none⟩=some (.int .i64 0):=aH.cell 4;have rJ:∀i,w5.frozen? ⟨w.heap.size,i,none⟩=false:=aH.frozen;clear fV bf aP kB1 h4 h3 hv4 c2;go_wp2_with fail;refine bodyPost_ret (v:=.agg #[(.int .i64 0),(.string (Lx.hd ts)),.int .u8 42,(.slice none 0 0),.int .i64 (Lx.pl ts:Int)]) (by simp[results,results169,go_sem,e0,e1,e2,e3,e4]) rfl ?_
  refine bO.yes lK.out (((((M5.new (zL0) _ _).new (zL0) _ _).new (zL0) _ _).new (zL0) _ _).new (zL0) _ _) X5 (((((h5.other _ _ (by omega) cB).other _ _ (by omega) cB).other _ _ (by omega) cB).other _ _ (by omega) cB).other _ _ (by omega) cB) ⟨_,rfl,?_⟩;refine ay.move (fun b hb=>?_) (fun b hb=>⟨by have:=hb.1;omega,by simpa [World.setCell]using hb.2.1,hb.2.2⟩) hv5;have hbb:b≠w.heap.size:=by have:=hb.1;omega
  rw[zS0 hbb,zS0 hbb,zS0 hbb,zS0 hbb,zS0 hbb]
 have n42:Hid (¬Lx.hd aB=jq):=hm;clear hm
 by_cases hm:Lx.hd aB=jW
 ·have lK:Hid _:=HP _ _ (Ob hm)
  have HM:Hid (Lx.hd aB=jW):=hm;have jJ:Hid (Lx.known (Lx.hd aB)=true):=by show _=_;rw[hm];decide
  have nQ:Hid (Lx.hd aB≠aL):=by show _≠_;rw[hm];decide
  have c2:w1.cell? ⟨q,2,none⟩=some (.string ⟨#[43]⟩):=by
   have:=h3.blk.cell 2;rw[this];simp only[dJ];rw[nE jJ.out,HM.out];rfl
  have h4:=h3.other (b:=w.heap.size+1) 2 (.int .u8 43) (by omega) eX;have fV:=aP.set 2 (.int .u8 43);have bf:=kB1.other (b':=w.heap.size+1) (i:=2) (by omega) (.int .u8 43);have M4:=M1.new (b:=w.heap.size+1) (by omega) 2 (.int .u8 43);have d2:w1.cell? ⟨w.heap.size+1,2,none⟩=some (.int .u8 0):=aP.cell 2;have rC:∀i,w1.frozen? ⟨w.heap.size+1,i,none⟩=false:=aP.frozen;have hv4:ay YR d (Fp (w.heap.size+2) sg1 (w1.setCell ⟨w.heap.size+1,2,none⟩ (.int .u8 43))) (w1.setCell ⟨w.heap.size+1,2,none⟩ (.int .u8 43)) (.slice none 0 0) L :=
   ay.move (fun b hb=>zS0 (fun e=>by have e':b=w.heap.size+1:=e;have:=hb.1;omega)) (fun b hb=>⟨hb.1,by simpa [World.setCell]using hb.2.1,hb.2.2⟩) hv1
  clear hm HP hv1;go_wp2_with fail;refine(iG h3 jq (by decide) (by decide)).mono ?_;rintro e w'⟨rfl,hw⟩;obtain rfl:=hw.symm;rw[decide_eq_false (by rw[HM.out];decide)];go_wp2_with fail;refine(iG h3 jW (by decide) (by decide)).mono ?_;rintro e w'⟨rfl,hw⟩;obtain rfl:=hw.symm;rw[decide_eq_true HM.out];go_wp2_with fail;refine(oO h4 jJ.out nQ.out).mono ?_;rintro e w5⟨rfl,o7,m5,x5,h5⟩;have cB:=x5.keep (b:=w.heap.size) bf.lt aZ;have aN:=fV.mv m5 (by omega) eX;have aH:=bf.mv m5 (by omega) aZ;have hv5:ay YR d (Fp (w.heap.size+2) o7 w5) w5 (.slice none 0 0) L:=ay.move (fun b hb=>m5.block b hb.2.1 (fun e=>by have:=hb.1;omega) hb.2.2) (fun b hb=>⟨hb.1,Nat.lt_of_lt_of_le hb.2.1 m5.size,x5.keep hb.2.1 hb.2.2⟩) hv4;have M5:=M4.trans X1 m5;have X5:=X1.trans M4.size x5;have nU:=aH;have d0:w5.cell? ⟨w.heap.size+1,0,none⟩=some (.int .i64 0):=aN.cell 0;have d1:w5.cell? ⟨w.heap.size+1,1,none⟩=some (.string (Lx.hd ts)):=aN.cell 1;have d2:w5.cell? ⟨w.heap.size+1,2,none⟩=some (.int .u8 43):=aN.cell 2;have d3:w5.cell? ⟨w.heap.size+1,3,none⟩=some (.slice none 0 0):=aN.cell 3;have d4:w5.cell? ⟨w.heap.size+1,4,none⟩=some (.int .i64 (Lx.pl ts:Int)):=aN.cell 4;have e0:w5.cell? ⟨w.heap.size,0,none⟩=some (.int .i64 0):=aH.cell 0;have e1:w5.cell? ⟨w.heap.size,1,none⟩=some (.string ⟨#[]⟩):=aH.cell 1;have e2:w5.cell? ⟨w.heap.size,2,none⟩=some (.int .u8 0):=aH.cell 2;have e3:w5.cell? ⟨w.heap.size,3,none⟩=some (.slice none 0 0):=aH.cell 3;have e4:w5.cell? ⟨w.heap.size,4,none⟩=some (.int .i64 0):=aH.cell 4;have rJ:∀i,w5.frozen? ⟨w.heap.size,i,none⟩=false:=aH.frozen
  clear fV bf aP kB1 h4 h3 hv4 c2;go_wp2_with fail;refine bodyPost_ret (v:=.agg #[(.int .i64 0),(.string (Lx.hd ts)),.int .u8 43,(.slice none 0 0),.int .i64 (Lx.pl ts:Int)]) (by simp[results,results169,go_sem,e0,e1,e2,e3,e4]) rfl ?_;refine bO.yes lK.out (((((M5.new (zL0) _ _).new (zL0) _ _).new (zL0) _ _).new (zL0) _ _).new (zL0) _ _) X5 (((((h5.other _ _ (by omega) cB).other _ _ (by omega) cB).other _ _ (by omega) cB).other _ _ (by omega) cB).other _ _ (by omega) cB) ⟨_,rfl,?_⟩;refine ay.move (fun b hb=>?_) (fun b hb=>⟨by have:=hb.1;omega,by simpa [World.setCell]using hb.2.1,hb.2.2⟩) hv5;have hbb:b≠w.heap.size:=by have:=hb.1;omega
  rw[zS0 hbb,zS0 hbb,zS0 hbb,zS0 hbb,zS0 hbb]
 have n43:Hid (¬Lx.hd aB=jW):=hm;clear hm
 by_cases hm:Lx.hd aB=mJ
 ·have lK:Hid _:=HP _ _ (Ov hm)
  have HM:Hid (Lx.hd aB=mJ):=hm;have jJ:Hid (Lx.known (Lx.hd aB)=true):=by show _=_;rw[hm];decide
  have nQ:Hid (Lx.hd aB≠aL):=by show _≠_;rw[hm];decide
  have c2:w1.cell? ⟨q,2,none⟩=some (.string ⟨#[63]⟩):=by
   have:=h3.blk.cell 2;rw[this];simp only[dJ];rw[nE jJ.out,HM.out];rfl
  have h4:=h3.other (b:=w.heap.size+1) 2 (.int .u8 63) (by omega) eX;have fV:=aP.set 2 (.int .u8 63);have bf:=kB1.other (b':=w.heap.size+1) (i:=2) (by omega) (.int .u8 63);have M4:=M1.new (b:=w.heap.size+1) (by omega) 2 (.int .u8 63);have d2:w1.cell? ⟨w.heap.size+1,2,none⟩=some (.int .u8 0):=aP.cell 2;have rC:∀i,w1.frozen? ⟨w.heap.size+1,i,none⟩=false:=aP.frozen;have hv4:ay YR d (Fp (w.heap.size+2) sg1 (w1.setCell ⟨w.heap.size+1,2,none⟩ (.int .u8 63))) (w1.setCell ⟨w.heap.size+1,2,none⟩ (.int .u8 63)) (.slice none 0 0) L :=
   ay.move (fun b hb=>zS0 (fun e=>by have e':b=w.heap.size+1:=e;have:=hb.1;omega)) (fun b hb=>⟨hb.1,by simpa [World.setCell]using hb.2.1,hb.2.2⟩) hv1
  clear hm HP hv1;go_wp2_with fail;refine(iG h3 jq (by decide) (by decide)).mono ?_;rintro e w'⟨rfl,hw⟩;obtain rfl:=hw.symm;rw[decide_eq_false (by rw[HM.out];decide)];go_wp2_with fail;refine(iG h3 jW (by decide) (by decide)).mono ?_;rintro e w'⟨rfl,hw⟩;obtain rfl:=hw.symm;rw[decide_eq_false (by rw[HM.out];decide)];go_wp2_with fail;refine(iG h3 mJ (by decide) (by decide)).mono ?_;rintro e w'⟨rfl,hw⟩;obtain rfl:=hw.symm;rw[decide_eq_true HM.out];go_wp2_with fail;refine(oO h4 jJ.out nQ.out).mono ?_;rintro e w5⟨rfl,o7,m5,x5,h5⟩;have cB:=x5.keep (b:=w.heap.size) bf.lt aZ;have aN:=fV.mv m5 (by omega) eX;have aH:=bf.mv m5 (by omega) aZ;have hv5:ay YR d (Fp (w.heap.size+2) o7 w5) w5 (.slice none 0 0) L:=ay.move (fun b hb=>m5.block b hb.2.1 (fun e=>by have:=hb.1;omega) hb.2.2) (fun b hb=>⟨hb.1,Nat.lt_of_lt_of_le hb.2.1 m5.size,x5.keep hb.2.1 hb.2.2⟩) hv4;have M5:=M4.trans X1 m5;have X5:=X1.trans M4.size x5;have nU:=aH;have d0:w5.cell? ⟨w.heap.size+1,0,none⟩=some (.int .i64 0):=aN.cell 0;have d1:w5.cell? ⟨w.heap.size+1,1,none⟩=some (.string (Lx.hd ts)):=aN.cell 1;have d2:w5.cell? ⟨w.heap.size+1,2,none⟩=some (.int .u8 63):=aN.cell 2;have d3:w5.cell? ⟨w.heap.size+1,3,none⟩=some (.slice none 0 0):=aN.cell 3;have d4:w5.cell? ⟨w.heap.size+1,4,none⟩=some (.int .i64 (Lx.pl ts:Int)):=aN.cell 4;have e0:w5.cell? ⟨w.heap.size,0,none⟩=some (.int .i64 0):=aH.cell 0;have e1:w5.cell? ⟨w.heap.size,1,none⟩=some (.string ⟨#[]⟩):=aH.cell 1;have e2:w5.cell? ⟨w.heap.size,2,none⟩=some (.int .u8 0):=aH.cell 2
  have e3:w5.cell? ⟨w.heap.size,3,none⟩=some (.slice none 0 0):=aH.cell 3;have e4:w5.cell? ⟨w.heap.size,4,none⟩=some (.int .i64 0):=aH.cell 4;have rJ:∀i,w5.frozen? ⟨w.heap.size,i,none⟩=false:=aH.frozen;clear fV bf aP kB1 h4 h3 hv4 c2;go_wp2_with fail;refine bodyPost_ret (v:=.agg #[(.int .i64 0),(.string (Lx.hd ts)),.int .u8 63,(.slice none 0 0),.int .i64 (Lx.pl ts:Int)]) (by simp[results,results169,go_sem,e0,e1,e2,e3,e4]) rfl ?_;refine bO.yes lK.out (((((M5.new (zL0) _ _).new (zL0) _ _).new (zL0) _ _).new (zL0) _ _).new (zL0) _ _) X5 (((((h5.other _ _ (by omega) cB).other _ _ (by omega) cB).other _ _ (by omega) cB).other _ _ (by omega) cB).other _ _ (by omega) cB) ⟨_,rfl,?_⟩;refine ay.move (fun b hb=>?_) (fun b hb=>⟨by have:=hb.1;omega,by simpa [World.setCell]using hb.2.1,hb.2.2⟩) hv5;have hbb:b≠w.heap.size:=by have:=hb.1;omega
  rw[zS0 hbb,zS0 hbb,zS0 hbb,zS0 hbb,zS0 hbb]
 have n63:Hid (¬Lx.hd aB=mJ):=hm;clear hm;have lK:Hid _:=HP _ _ (Oc n42.out n43.out n63.out);clear HP;go_wp2_with fail;refine(iG h3 jq (by decide) (by decide)).mono ?_;rintro e w'⟨rfl,hw⟩;obtain rfl:=hw.symm;rw[decide_eq_false n42.out];go_wp2_with fail;refine(iG h3 jW (by decide) (by decide)).mono ?_;rintro e w'⟨rfl,hw⟩;obtain rfl:=hw.symm;rw[decide_eq_false n43.out];go_wp2_with fail;refine(iG h3 mJ (by decide) (by decide)).mono ?_;rintro e w'⟨rfl,hw⟩;obtain rfl:=hw.symm;rw[decide_eq_false n63.out];have aN:=aP;have aH:=kB1;have nU:=aH;have d0:w1.cell? ⟨w.heap.size+1,0,none⟩=some (.int .i64 0):=aN.cell 0;have d1:w1.cell? ⟨w.heap.size+1,1,none⟩=some (.string (Lx.hd ts)):=aN.cell 1;have d2:w1.cell? ⟨w.heap.size+1,2,none⟩=some (.int .u8 0):=aN.cell 2;have d3:w1.cell? ⟨w.heap.size+1,3,none⟩=some (.slice none 0 0):=aN.cell 3;have d4:w1.cell? ⟨w.heap.size+1,4,none⟩=some (.int .i64 (Lx.pl ts:Int)):=aN.cell 4;have e0:w1.cell? ⟨w.heap.size,0,none⟩=some (.int .i64 0):=aH.cell 0;have e1:w1.cell? ⟨w.heap.size,1,none⟩=some (.string ⟨#[]⟩):=aH.cell 1;have e2:w1.cell? ⟨w.heap.size,2,none⟩=some (.int .u8 0):=aH.cell 2;have e3:w1.cell? ⟨w.heap.size,3,none⟩=some (.slice none 0 0):=aH.cell 3;have e4:w1.cell? ⟨w.heap.size,4,none⟩=some (.int .i64 0):=aH.cell 4;have rJ:∀i,w1.frozen? ⟨w.heap.size,i,none⟩=false:=aH.frozen;go_wp2_with fail;refine bodyPost_ret (v:=.agg #[(.int .i64 0),(.string (Lx.hd ts)),.int .u8 0,(.slice none 0 0),.int .i64 (Lx.pl ts:Int)]) (by simp[results,results169,go_sem,e0,e1,e2,e3,e4]) rfl ?_
 refine bO.yes lK.out (((((M1.new (zL0) _ _).new (zL0) _ _).new (zL0) _ _).new (zL0) _ _).new (zL0) _ _) X1 (((((h3.other _ _ (by omega) aZ).other _ _ (by omega) aZ).other _ _ (by omega) aZ).other _ _ (by omega) aZ).other _ _ (by omega) aZ) ⟨_,rfl,?_⟩;refine ay.move (fun b hb=>?_) (fun b hb=>⟨by have:=hb.1;omega,by simpa [World.setCell]using hb.2.1,hb.2.2⟩) hv1;have hbb:b≠w.heap.size:=by have:=hb.1;omega
 rw[zS0 hbb,zS0 hbb,zS0 hbb,zS0 hbb,zS0 hbb]
theorem aeC{d:Nat}(s:ByteArray)(q:Nat)(w:World)(ts:List Tk)(nest:Int)(au:Value)(sg:List ByteArray)(h:RR s q w ts nest au sg)(hno:¬Lx.hd ts=jg)(hnn:Lx.isName (Lx.hd ts)=false)(hn:Lx.isToken (Lx.hd ts)=true):
  Calls prog 169 #[.pointer (some ⟨q,0,none⟩),.bool false,.bool true] w (bO s q nest (Gp d w.heap.size) Gy w au (cO (bB d) ts)):=by
 have hp:=h.lt;have kq:=h.blk;have c1:w.cell? ⟨q,1,none⟩=some (.int .i64 (Lx.pl ts:Int)):=kq.cell 1;have h2:=(h.alloc (.cells #[.int .i64 0,.string ⟨#[]⟩,.int .u8 0,.slice none 0 0,.int .i64 0] 158)).alloc (.cells #[.int .i64 1,.string (Lx.hd ts),.int .u8 0,.slice none 0 0,.int .i64 (Lx.pl ts:Int)] 158);have kB:=(aj.new w #[.int .i64 0,.string ⟨#[]⟩,.int .u8 0,.slice none 0 0,.int .i64 0] 158).alloc (.cells #[.int .i64 1,.string (Lx.hd ts),.int .u8 0,.slice none 0 0,.int .i64 (Lx.pl ts:Int)] 158);have kC:=aj.new (w.alloc (.cells #[.int .i64 0,.string ⟨#[]⟩,.int .u8 0,.slice none 0 0,.int .i64 0] 158)) #[.int .i64 1,.string (Lx.hd ts),.int .u8 0,.slice none 0 0,.int .i64 (Lx.pl ts:Int)] 158;rw[show (w.alloc (.cells #[.int .i64 0,.string ⟨#[]⟩,.int .u8 0,.slice none 0 0,.int .i64 0] 158)).heap.size=w.heap.size+1 by simp]at kC;have M0:=((Mv.refl q au w).alloc (.cells #[.int .i64 0,.string ⟨#[]⟩,.int .u8 0,.slice none 0 0,.int .i64 0] 158)).alloc (.cells #[.int .i64 1,.string (Lx.hd ts),.int .u8 0,.slice none 0 0,.int .i64 (Lx.pl ts:Int)] 158);have fB:au.ownBlock≠some w.heap.size:=h.fresh (zL0);have fC:au.ownBlock≠some (w.heap.size+1):=h.fresh (by omega);have HK:Hid (Lx.known (Lx.hd ts)=true):=TJ hn;have sV:Hid (Lx.hd ts≠aL):=NT hn;have c2:w.cell? ⟨q,2,none⟩=some (.string (Lx.hd ts)):=by have:=kq.cell 2;rw[this];simp only[dJ];rw[nE HK.out];rfl
 obtain⟨L,hL⟩:∃L:List Lx.Alt,L=[]:=⟨_,rfl⟩;have Ik:∀m t,bS ts.tail=(m,t)->cO (bB d) ts=.ok (⟨1,Lx.hd ts,m,L,Lx.pl ts⟩,t):=by
  intro m t e;unfold cO;rw[if_neg hno,if_neg (by rw[hnn];simp),if_pos hn];rw[e,hL]
 have rH:Hid _:=Ik;have HL:Hid _:=hL;clear Ik hn hL hno hnn;go_enter func169,ntmps169;go_wp2_with fail;refine(oO h2 HK.out sV.out).mono ?_;rintro e w1⟨rfl,sg1,m1,X1,h3⟩;have aZ:=X1.keep (b:=w.heap.size) kB.lt fB;have eX:=X1.keep (b:=w.heap.size+1) kC.lt fC;have aP:=kC.mv m1 (by omega) fC;have kB1:=kB.mv m1 (by omega) fB;have M1:=M0.trans (Nx.refl _ _) m1;have X1:=(Nx.refl au w).trans M0.size X1;have hv1:ay YR d (Fp (w.heap.size+2) sg1 w1) w1 (.slice none 0 0) L:=by rw[HL.out];exact ay.nil _ _ _ _
 have HP:=rH.out;clear kC kB h2 M0 m1 rH HL c1 c2 kq;generalize ts.tail=aB at *
 by_cases hm:Lx.hd aB=jq
 ·have lK:Hid _:=HP _ _ (Oa hm)
  have HM:Hid (Lx.hd aB=jq):=hm;have jJ:Hid (Lx.known (Lx.hd aB)=true):=by show _=_;rw[hm];decide
  have nQ:Hid (Lx.hd aB≠aL):=by show _≠_;rw[hm];decide
  have c2:w1.cell? ⟨q,2,none⟩=some (.string ⟨#[42]⟩):=by
   have:=h3.blk.cell 2;rw[this];simp only[dJ];rw[nE jJ.out,HM.out];rfl
  have h4:=h3.other (b:=w.heap.size+1) 2 (.int .u8 42) (by omega) eX;have fV:=aP.set 2 (.int .u8 42);have bf:=kB1.other (b':=w.heap.size+1) (i:=2) (by omega) (.int .u8 42);have M4:=M1.new (b:=w.heap.size+1) (by omega) 2 (.int .u8 42);have d2:w1.cell? ⟨w.heap.size+1,2,none⟩=some (.int .u8 0):=aP.cell 2;have rC:∀i,w1.frozen? ⟨w.heap.size+1,i,none⟩=false:=aP.frozen;have hv4:ay YR d (Fp (w.heap.size+2) sg1 (w1.setCell ⟨w.heap.size+1,2,none⟩ (.int .u8 42))) (w1.setCell ⟨w.heap.size+1,2,none⟩ (.int .u8 42)) (.slice none 0 0) L :=
   ay.move (fun b hb=>zS0 (fun e=>by have e':b=w.heap.size+1:=e;have:=hb.1;omega)) (fun b hb=>⟨hb.1,by simpa [World.setCell]using hb.2.1,hb.2.2⟩) hv1
  clear hm HP hv1;go_wp2_with fail;refine(iG h3 jq (by decide) (by decide)).mono ?_;rintro e w'⟨rfl,hw⟩;obtain rfl:=hw.symm;rw[decide_eq_true HM.out];go_wp2_with fail;refine(oO h4 jJ.out nQ.out).mono ?_;rintro e w5⟨rfl,o7,m5,x5,h5⟩;have cB:=x5.keep (b:=w.heap.size) bf.lt aZ;have aN:=fV.mv m5 (by omega) eX;have aH:=bf.mv m5 (by omega) aZ;have hv5:ay YR d (Fp (w.heap.size+2) o7 w5) w5 (.slice none 0 0) L:=ay.move (fun b hb=>m5.block b hb.2.1 (fun e=>by have:=hb.1;omega) hb.2.2) (fun b hb=>⟨hb.1,Nat.lt_of_lt_of_le hb.2.1 m5.size,x5.keep hb.2.1 hb.2.2⟩) hv4;have M5:=M4.trans X1 m5;have X5:=X1.trans M4.size x5;have nU:=aH;have d0:w5.cell? ⟨w.heap.size+1,0,none⟩=some (.int .i64 1):=aN.cell 0;have d1:w5.cell? ⟨w.heap.size+1,1,none⟩=some (.string (Lx.hd ts)):=aN.cell 1;have d2:w5.cell? ⟨w.heap.size+1,2,none⟩=some (.int .u8 42):=aN.cell 2;have d3:w5.cell? ⟨w.heap.size+1,3,none⟩=some (.slice none 0 0):=aN.cell 3;have d4:w5.cell? ⟨w.heap.size+1,4,none⟩=some (.int .i64 (Lx.pl ts:Int)):=aN.cell 4;have e0:w5.cell? ⟨w.heap.size,0,none⟩=some (.int .i64 0):=aH.cell 0;have e1:w5.cell? ⟨w.heap.size,1,none⟩=some (.string ⟨#[]⟩):=aH.cell 1;have e2:w5.cell? ⟨w.heap.size,2,none⟩=some (.int .u8 0):=aH.cell 2;have e3:w5.cell? ⟨w.heap.size,3,none⟩=some (.slice none 0 0):=aH.cell 3;have e4:w5.cell? ⟨w.heap.size,4,none⟩=some (.int .i64 0):=aH.cell 4;have rJ:∀i,w5.frozen? ⟨w.heap.size,i,none⟩=false:=aH.frozen;clear fV bf aP kB1 h4 h3 hv4 c2;go_wp2_with fail;refine bodyPost_ret (v:=.agg #[(.int .i64 1),(.string (Lx.hd ts)),.int .u8 42,(.slice none 0 0),.int .i64 (Lx.pl ts:Int)]) (by simp[results,results169,go_sem,e0,e1,e2,e3,e4]) rfl ?_
  refine bO.yes lK.out (((((M5.new (zL0) _ _).new (zL0) _ _).new (zL0) _ _).new (zL0) _ _).new (zL0) _ _) X5 (((((h5.other _ _ (by omega) cB).other _ _ (by omega) cB).other _ _ (by omega) cB).other _ _ (by omega) cB).other _ _ (by omega) cB) ⟨_,rfl,?_⟩;refine ay.move (fun b hb=>?_) (fun b hb=>⟨by have:=hb.1;omega,by simpa [World.setCell]using hb.2.1,hb.2.2⟩) hv5;have hbb:b≠w.heap.size:=by have:=hb.1;omega
  rw[zS0 hbb,zS0 hbb,zS0 hbb,zS0 hbb,zS0 hbb]
 have n42:Hid (¬Lx.hd aB=jq):=hm;clear hm
 by_cases hm:Lx.hd aB=jW
 ·have lK:Hid _:=HP _ _ (Ob hm)
  have HM:Hid (Lx.hd aB=jW):=hm;have jJ:Hid (Lx.known (Lx.hd aB)=true):=by show _=_;rw[hm];decide
  have nQ:Hid (Lx.hd aB≠aL):=by show _≠_;rw[hm];decide
  have c2:w1.cell? ⟨q,2,none⟩=some (.string ⟨#[43]⟩):=by
   have:=h3.blk.cell 2;rw[this];simp only[dJ];rw[nE jJ.out,HM.out];rfl
  have h4:=h3.other (b:=w.heap.size+1) 2 (.int .u8 43) (by omega) eX;have fV:=aP.set 2 (.int .u8 43);have bf:=kB1.other (b':=w.heap.size+1) (i:=2) (by omega) (.int .u8 43);have M4:=M1.new (b:=w.heap.size+1) (by omega) 2 (.int .u8 43);have d2:w1.cell? ⟨w.heap.size+1,2,none⟩=some (.int .u8 0):=aP.cell 2;have rC:∀i,w1.frozen? ⟨w.heap.size+1,i,none⟩=false:=aP.frozen;have hv4:ay YR d (Fp (w.heap.size+2) sg1 (w1.setCell ⟨w.heap.size+1,2,none⟩ (.int .u8 43))) (w1.setCell ⟨w.heap.size+1,2,none⟩ (.int .u8 43)) (.slice none 0 0) L :=
   ay.move (fun b hb=>zS0 (fun e=>by have e':b=w.heap.size+1:=e;have:=hb.1;omega)) (fun b hb=>⟨hb.1,by simpa [World.setCell]using hb.2.1,hb.2.2⟩) hv1
  clear hm HP hv1;go_wp2_with fail;refine(iG h3 jq (by decide) (by decide)).mono ?_;rintro e w'⟨rfl,hw⟩;obtain rfl:=hw.symm;rw[decide_eq_false (by rw[HM.out];decide)];go_wp2_with fail;refine(iG h3 jW (by decide) (by decide)).mono ?_;rintro e w'⟨rfl,hw⟩;obtain rfl:=hw.symm;rw[decide_eq_true HM.out];go_wp2_with fail;refine(oO h4 jJ.out nQ.out).mono ?_;rintro e w5⟨rfl,o7,m5,x5,h5⟩;have cB:=x5.keep (b:=w.heap.size) bf.lt aZ;have aN:=fV.mv m5 (by omega) eX;have aH:=bf.mv m5 (by omega) aZ;have hv5:ay YR d (Fp (w.heap.size+2) o7 w5) w5 (.slice none 0 0) L:=ay.move (fun b hb=>m5.block b hb.2.1 (fun e=>by have:=hb.1;omega) hb.2.2) (fun b hb=>⟨hb.1,Nat.lt_of_lt_of_le hb.2.1 m5.size,x5.keep hb.2.1 hb.2.2⟩) hv4;have M5:=M4.trans X1 m5;have X5:=X1.trans M4.size x5;have nU:=aH;have d0:w5.cell? ⟨w.heap.size+1,0,none⟩=some (.int .i64 1):=aN.cell 0;have d1:w5.cell? ⟨w.heap.size+1,1,none⟩=some (.string (Lx.hd ts)):=aN.cell 1;have d2:w5.cell? ⟨w.heap.size+1,2,none⟩=some (.int .u8 43):=aN.cell 2;have d3:w5.cell? ⟨w.heap.size+1,3,none⟩=some (.slice none 0 0):=aN.cell 3;have d4:w5.cell? ⟨w.heap.size+1,4,none⟩=some (.int .i64 (Lx.pl ts:Int)):=aN.cell 4;have e0:w5.cell? ⟨w.heap.size,0,none⟩=some (.int .i64 0):=aH.cell 0;have e1:w5.cell? ⟨w.heap.size,1,none⟩=some (.string ⟨#[]⟩):=aH.cell 1;have e2:w5.cell? ⟨w.heap.size,2,none⟩=some (.int .u8 0):=aH.cell 2;have e3:w5.cell? ⟨w.heap.size,3,none⟩=some (.slice none 0 0):=aH.cell 3;have e4:w5.cell? ⟨w.heap.size,4,none⟩=some (.int .i64 0):=aH.cell 4;have rJ:∀i,w5.frozen? ⟨w.heap.size,i,none⟩=false:=aH.frozen
  clear fV bf aP kB1 h4 h3 hv4 c2;go_wp2_with fail;refine bodyPost_ret (v:=.agg #[(.int .i64 1),(.string (Lx.hd ts)),.int .u8 43,(.slice none 0 0),.int .i64 (Lx.pl ts:Int)]) (by simp[results,results169,go_sem,e0,e1,e2,e3,e4]) rfl ?_;refine bO.yes lK.out (((((M5.new (zL0) _ _).new (zL0) _ _).new (zL0) _ _).new (zL0) _ _).new (zL0) _ _) X5 (((((h5.other _ _ (by omega) cB).other _ _ (by omega) cB).other _ _ (by omega) cB).other _ _ (by omega) cB).other _ _ (by omega) cB) ⟨_,rfl,?_⟩;refine ay.move (fun b hb=>?_) (fun b hb=>⟨by have:=hb.1;omega,by simpa [World.setCell]using hb.2.1,hb.2.2⟩) hv5;have hbb:b≠w.heap.size:=by have:=hb.1;omega
  rw[zS0 hbb,zS0 hbb,zS0 hbb,zS0 hbb,zS0 hbb]
 have n43:Hid (¬Lx.hd aB=jW):=hm;clear hm
 by_cases hm:Lx.hd aB=mJ
 ·have lK:Hid _:=HP _ _ (Ov hm)
  have HM:Hid (Lx.hd aB=mJ):=hm;have jJ:Hid (Lx.known (Lx.hd aB)=true):=by show _=_;rw[hm];decide
  have nQ:Hid (Lx.hd aB≠aL):=by show _≠_;rw[hm];decide
  have c2:w1.cell? ⟨q,2,none⟩=some (.string ⟨#[63]⟩):=by
   have:=h3.blk.cell 2;rw[this];simp only[dJ];rw[nE jJ.out,HM.out];rfl
  have h4:=h3.other (b:=w.heap.size+1) 2 (.int .u8 63) (by omega) eX;have fV:=aP.set 2 (.int .u8 63);have bf:=kB1.other (b':=w.heap.size+1) (i:=2) (by omega) (.int .u8 63);have M4:=M1.new (b:=w.heap.size+1) (by omega) 2 (.int .u8 63);have d2:w1.cell? ⟨w.heap.size+1,2,none⟩=some (.int .u8 0):=aP.cell 2;have rC:∀i,w1.frozen? ⟨w.heap.size+1,i,none⟩=false:=aP.frozen;have hv4:ay YR d (Fp (w.heap.size+2) sg1 (w1.setCell ⟨w.heap.size+1,2,none⟩ (.int .u8 63))) (w1.setCell ⟨w.heap.size+1,2,none⟩ (.int .u8 63)) (.slice none 0 0) L :=
   ay.move (fun b hb=>zS0 (fun e=>by have e':b=w.heap.size+1:=e;have:=hb.1;omega)) (fun b hb=>⟨hb.1,by simpa [World.setCell]using hb.2.1,hb.2.2⟩) hv1
  clear hm HP hv1;go_wp2_with fail;refine(iG h3 jq (by decide) (by decide)).mono ?_;rintro e w'⟨rfl,hw⟩;obtain rfl:=hw.symm;rw[decide_eq_false (by rw[HM.out];decide)];go_wp2_with fail;refine(iG h3 jW (by decide) (by decide)).mono ?_;rintro e w'⟨rfl,hw⟩;obtain rfl:=hw.symm;rw[decide_eq_false (by rw[HM.out];decide)];go_wp2_with fail;refine(iG h3 mJ (by decide) (by decide)).mono ?_;rintro e w'⟨rfl,hw⟩;obtain rfl:=hw.symm;rw[decide_eq_true HM.out];go_wp2_with fail;refine(oO h4 jJ.out nQ.out).mono ?_;rintro e w5⟨rfl,o7,m5,x5,h5⟩;have cB:=x5.keep (b:=w.heap.size) bf.lt aZ;have aN:=fV.mv m5 (by omega) eX;have aH:=bf.mv m5 (by omega) aZ;have hv5:ay YR d (Fp (w.heap.size+2) o7 w5) w5 (.slice none 0 0) L:=ay.move (fun b hb=>m5.block b hb.2.1 (fun e=>by have:=hb.1;omega) hb.2.2) (fun b hb=>⟨hb.1,Nat.lt_of_lt_of_le hb.2.1 m5.size,x5.keep hb.2.1 hb.2.2⟩) hv4;have M5:=M4.trans X1 m5;have X5:=X1.trans M4.size x5;have nU:=aH;have d0:w5.cell? ⟨w.heap.size+1,0,none⟩=some (.int .i64 1):=aN.cell 0;have d1:w5.cell? ⟨w.heap.size+1,1,none⟩=some (.string (Lx.hd ts)):=aN.cell 1;have d2:w5.cell? ⟨w.heap.size+1,2,none⟩=some (.int .u8 63):=aN.cell 2;have d3:w5.cell? ⟨w.heap.size+1,3,none⟩=some (.slice none 0 0):=aN.cell 3;have d4:w5.cell? ⟨w.heap.size+1,4,none⟩=some (.int .i64 (Lx.pl ts:Int)):=aN.cell 4;have e0:w5.cell? ⟨w.heap.size,0,none⟩=some (.int .i64 0):=aH.cell 0;have e1:w5.cell? ⟨w.heap.size,1,none⟩=some (.string ⟨#[]⟩):=aH.cell 1;have e2:w5.cell? ⟨w.heap.size,2,none⟩=some (.int .u8 0):=aH.cell 2
  have e3:w5.cell? ⟨w.heap.size,3,none⟩=some (.slice none 0 0):=aH.cell 3;have e4:w5.cell? ⟨w.heap.size,4,none⟩=some (.int .i64 0):=aH.cell 4;have rJ:∀i,w5.frozen? ⟨w.heap.size,i,none⟩=false:=aH.frozen;clear fV bf aP kB1 h4 h3 hv4 c2;go_wp2_with fail;refine bodyPost_ret (v:=.agg #[(.int .i64 1),(.string (Lx.hd ts)),.int .u8 63,(.slice none 0 0),.int .i64 (Lx.pl ts:Int)]) (by simp[results,results169,go_sem,e0,e1,e2,e3,e4]) rfl ?_;refine bO.yes lK.out (((((M5.new (zL0) _ _).new (zL0) _ _).new (zL0) _ _).new (zL0) _ _).new (zL0) _ _) X5 (((((h5.other _ _ (by omega) cB).other _ _ (by omega) cB).other _ _ (by omega) cB).other _ _ (by omega) cB).other _ _ (by omega) cB) ⟨_,rfl,?_⟩;refine ay.move (fun b hb=>?_) (fun b hb=>⟨by have:=hb.1;omega,by simpa [World.setCell]using hb.2.1,hb.2.2⟩) hv5;have hbb:b≠w.heap.size:=by have:=hb.1;omega
  rw[zS0 hbb,zS0 hbb,zS0 hbb,zS0 hbb,zS0 hbb]
 have n63:Hid (¬Lx.hd aB=mJ):=hm;clear hm;have lK:Hid _:=HP _ _ (Oc n42.out n43.out n63.out);clear HP;go_wp2_with fail;refine(iG h3 jq (by decide) (by decide)).mono ?_;rintro e w'⟨rfl,hw⟩;obtain rfl:=hw.symm;rw[decide_eq_false n42.out];go_wp2_with fail;refine(iG h3 jW (by decide) (by decide)).mono ?_;rintro e w'⟨rfl,hw⟩;obtain rfl:=hw.symm;rw[decide_eq_false n43.out];go_wp2_with fail;refine(iG h3 mJ (by decide) (by decide)).mono ?_;rintro e w'⟨rfl,hw⟩;obtain rfl:=hw.symm;rw[decide_eq_false n63.out];have aN:=aP;have aH:=kB1;have nU:=aH;have d0:w1.cell? ⟨w.heap.size+1,0,none⟩=some (.int .i64 1):=aN.cell 0;have d1:w1.cell? ⟨w.heap.size+1,1,none⟩=some (.string (Lx.hd ts)):=aN.cell 1;have d2:w1.cell? ⟨w.heap.size+1,2,none⟩=some (.int .u8 0):=aN.cell 2;have d3:w1.cell? ⟨w.heap.size+1,3,none⟩=some (.slice none 0 0):=aN.cell 3;have d4:w1.cell? ⟨w.heap.size+1,4,none⟩=some (.int .i64 (Lx.pl ts:Int)):=aN.cell 4;have e0:w1.cell? ⟨w.heap.size,0,none⟩=some (.int .i64 0):=aH.cell 0;have e1:w1.cell? ⟨w.heap.size,1,none⟩=some (.string ⟨#[]⟩):=aH.cell 1;have e2:w1.cell? ⟨w.heap.size,2,none⟩=some (.int .u8 0):=aH.cell 2;have e3:w1.cell? ⟨w.heap.size,3,none⟩=some (.slice none 0 0):=aH.cell 3;have e4:w1.cell? ⟨w.heap.size,4,none⟩=some (.int .i64 0):=aH.cell 4;have rJ:∀i,w1.frozen? ⟨w.heap.size,i,none⟩=false:=aH.frozen;go_wp2_with fail;refine bodyPost_ret (v:=.agg #[(.int .i64 1),(.string (Lx.hd ts)),.int .u8 0,(.slice none 0 0),.int .i64 (Lx.pl ts:Int)]) (by simp[results,results169,go_sem,e0,e1,e2,e3,e4]) rfl ?_
 refine bO.yes lK.out (((((M1.new (zL0) _ _).new (zL0) _ _).new (zL0) _ _).new (zL0) _ _).new (zL0) _ _) X1 (((((h3.other _ _ (by omega) aZ).other _ _ (by omega) aZ).other _ _ (by omega) aZ).other _ _ (by omega) aZ).other _ _ (by omega) aZ) ⟨_,rfl,?_⟩;refine ay.move (fun b hb=>?_) (fun b hb=>⟨by have:=hb.1;omega,by simpa [World.setCell]using hb.2.1,hb.2.2⟩) hv1;have hbb:b≠w.heap.size:=by have:=hb.1;omega
 rw[zS0 hbb,zS0 hbb,zS0 hbb,zS0 hbb,zS0 hbb]
end
section
open Go.RowKit
open Lx (Tk)
open Tr
theorem ady(s:ByteArray)(q:Nat)(w:World)(ts:List Tk)(nest:Int)(au:Value)(sg:List ByteArray)(su:nest=8)(h:RR s q w ts nest au sg)(hn:Lx.hd ts=jg):
  Calls prog 169 #[.pointer (some ⟨q,0,none⟩),.bool false,.bool false] w (bO s q nest (Gp 0 w.heap.size) Gy w au (cO (bB 0) ts)):=by
 have hp:=h.lt;have kq:=h.blk;have c1:w.cell? ⟨q,1,none⟩=some (.int .i64 (Lx.pl ts:Int)):=kq.cell 1;have h2:=(h.alloc (.cells #[.int .i64 0,.string ⟨#[]⟩,.int .u8 0,.slice none 0 0,.int .i64 0] 158)).alloc (.cells #[.int .i64 2,.string ⟨#[]⟩,.int .u8 0,.slice none 0 0,.int .i64 (Lx.pl ts:Int)] 158);have kB:=(aj.new w #[.int .i64 0,.string ⟨#[]⟩,.int .u8 0,.slice none 0 0,.int .i64 0] 158).alloc (.cells #[.int .i64 2,.string ⟨#[]⟩,.int .u8 0,.slice none 0 0,.int .i64 (Lx.pl ts:Int)] 158);have kC:=aj.new (w.alloc (.cells #[.int .i64 0,.string ⟨#[]⟩,.int .u8 0,.slice none 0 0,.int .i64 0] 158)) #[.int .i64 2,.string ⟨#[]⟩,.int .u8 0,.slice none 0 0,.int .i64 (Lx.pl ts:Int)] 158;rw[show (w.alloc (.cells #[.int .i64 0,.string ⟨#[]⟩,.int .u8 0,.slice none 0 0,.int .i64 0] 158)).heap.size=w.heap.size+1 by simp]at kC;have M0:=((Mv.refl q au w).alloc (.cells #[.int .i64 0,.string ⟨#[]⟩,.int .u8 0,.slice none 0 0,.int .i64 0] 158)).alloc (.cells #[.int .i64 2,.string ⟨#[]⟩,.int .u8 0,.slice none 0 0,.int .i64 (Lx.pl ts:Int)] 158);have fB:au.ownBlock≠some w.heap.size:=h.fresh (zL0);have fC:au.ownBlock≠some (w.heap.size+1):=h.fresh (by omega);have c3:w.cell? ⟨q,3,none⟩=some (.int .i64 nest):=kq.cell 3;have h8:(nest == 8)=true:=beq_iff_eq.2 su;have HE:Hid (cO (bB 0) ts=.error (3,Lx.pl ts)):=by show _=_;unfold cO;rw[if_pos hn];rfl
 clear hn su;go_enter func169,ntmps169;go_wp2_with fail;refine(Kz h2 3 (Lx.pl ts) (by decide)).mono ?_;rintro e w1⟨rfl,m1,hx⟩;have aN:=kC.mv m1 (by omega) fC;have aH:=kB.mv m1 (by omega) fB;have M1:=M0.trans (Nx.refl _ _) m1;clear kC kB c1 c3 kq;have nU:=aH;have d0:w1.cell? ⟨w.heap.size+1,0,none⟩=some (.int .i64 2):=aN.cell 0;have d1:w1.cell? ⟨w.heap.size+1,1,none⟩=some (.string ⟨#[]⟩):=aN.cell 1;have d2:w1.cell? ⟨w.heap.size+1,2,none⟩=some (.int .u8 0):=aN.cell 2;have d3:w1.cell? ⟨w.heap.size+1,3,none⟩=some (.slice none 0 0):=aN.cell 3;have d4:w1.cell? ⟨w.heap.size+1,4,none⟩=some (.int .i64 (Lx.pl ts:Int)):=aN.cell 4;have e0:w1.cell? ⟨w.heap.size,0,none⟩=some (.int .i64 0):=aH.cell 0;have e1:w1.cell? ⟨w.heap.size,1,none⟩=some (.string ⟨#[]⟩):=aH.cell 1;have e2:w1.cell? ⟨w.heap.size,2,none⟩=some (.int .u8 0):=aH.cell 2;have e3:w1.cell? ⟨w.heap.size,3,none⟩=some (.slice none 0 0):=aH.cell 3;have e4:w1.cell? ⟨w.heap.size,4,none⟩=some (.int .i64 0):=aH.cell 4;have rJ:∀i,w1.frozen? ⟨w.heap.size,i,none⟩=false:=aH.frozen;go_wp2_with fail;refine bodyPost_ret (v:=.agg #[(.int .i64 2),(.string ⟨#[]⟩),.int .u8 0,(.slice none 0 0),.int .i64 (Lx.pl ts:Int)]) (by simp[results,results169,go_sem,e0,e1,e2,e3,e4]) rfl ?_;exact bO.no HE.out (((((M1.new (zL0) _ _).new (zL0) _ _).new (zL0) _ _).new (zL0) _ _).new (zL0) _ _) (Nx.refl _ _) (((((hx.other _ _ (by omega) fB).other _ _ (by omega) fB).other _ _ (by omega) fB).other _ _ (by omega) fB).other _ _ (by omega) fB) ⟨_,_,_,_,_,_,_,rfl⟩
theorem adz{d':Nat}(hd8:d'<8)(HA:J9 d')(s:ByteArray)(q:Nat)(w:World)(ts:List Tk)(nest:Int)(au:Value)(sg:List ByteArray)(su:nest=8 - ((d'+1:Nat):Int))(h:RR s q w ts nest au sg)(hn:Lx.hd ts=jg):
  Calls prog 169 #[.pointer (some ⟨q,0,none⟩),.bool false,.bool false] w (bO s q nest (Gp (d'+1) w.heap.size) Gy w au (cO (bB (d'+1)) ts)):=by
 obtain⟨d,hdd⟩:∃d,d=d'+1:=⟨_,rfl⟩;have hp:=h.lt;have kq:=h.blk;have c1:w.cell? ⟨q,1,none⟩=some (.int .i64 (Lx.pl ts:Int)):=kq.cell 1;have h2:=(h.alloc (.cells #[.int .i64 0,.string ⟨#[]⟩,.int .u8 0,.slice none 0 0,.int .i64 0] 158)).alloc (.cells #[.int .i64 2,.string ⟨#[]⟩,.int .u8 0,.slice none 0 0,.int .i64 (Lx.pl ts:Int)] 158);have kB:=(aj.new w #[.int .i64 0,.string ⟨#[]⟩,.int .u8 0,.slice none 0 0,.int .i64 0] 158).alloc (.cells #[.int .i64 2,.string ⟨#[]⟩,.int .u8 0,.slice none 0 0,.int .i64 (Lx.pl ts:Int)] 158);have kC:=aj.new (w.alloc (.cells #[.int .i64 0,.string ⟨#[]⟩,.int .u8 0,.slice none 0 0,.int .i64 0] 158)) #[.int .i64 2,.string ⟨#[]⟩,.int .u8 0,.slice none 0 0,.int .i64 (Lx.pl ts:Int)] 158;rw[show (w.alloc (.cells #[.int .i64 0,.string ⟨#[]⟩,.int .u8 0,.slice none 0 0,.int .i64 0] 158)).heap.size=w.heap.size+1 by simp]at kC;have M0:=((Mv.refl q au w).alloc (.cells #[.int .i64 0,.string ⟨#[]⟩,.int .u8 0,.slice none 0 0,.int .i64 0] 158)).alloc (.cells #[.int .i64 2,.string ⟨#[]⟩,.int .u8 0,.slice none 0 0,.int .i64 (Lx.pl ts:Int)] 158);have fB:au.ownBlock≠some w.heap.size:=h.fresh (zL0);have fC:au.ownBlock≠some (w.heap.size+1):=h.fresh (by omega);have c3:w.cell? ⟨q,3,none⟩=some (.int .i64 nest):=kq.cell 3;have fq:∀j,w.frozen? ⟨q,j,none⟩=false:=kq.frozen;have h8:(nest == 8)=false:=zB0 (by omega);have hb0:0<=nest:=by omega
 have hb1:nest<=8:=by omega
 have HO:Hid (nest+1=8 - (d':Int)):=by show _=_;omega
 have HD8:Hid ((d' == 8)=false):=by show _=_;simp;omega
 have HK:Hid (Lx.known (Lx.hd ts)=true):=by show _=_;rw[hn];decide
 have sV:Hid (Lx.hd ts≠aL):=by show _≠_;rw[hn];decide
 have jO:Hid (cO (bB (d'+1)) ts=(match nJ (iP d') ts with
  |.error e=>.error e
  | .ok (alts,aB)=>.ok (⟨2,aL,(bS aB).1,alts,Lx.pl ts⟩,(bS aB).2))):=by show _=_;unfold cO;rw[if_pos hn];rfl
 have hU:(w.setCell ⟨q,3,none⟩ (.int .i64 (nest+1))).heap.size=w.heap.size:=by simp[World.setCell]
 have g2:=((h.Gq (nest+1)).alloc (.cells #[.int .i64 0,.string ⟨#[]⟩,.int .u8 0,.slice none 0 0,.int .i64 0] 158)).alloc (.cells #[.int .i64 2,.string ⟨#[]⟩,.int .u8 0,.slice none 0 0,.int .i64 (Lx.pl ts:Int)] 158);have jB:=(aj.new (w.setCell ⟨q,3,none⟩ (.int .i64 (nest+1))) #[.int .i64 0,.string ⟨#[]⟩,.int .u8 0,.slice none 0 0,.int .i64 0] 158).alloc (.cells #[.int .i64 2,.string ⟨#[]⟩,.int .u8 0,.slice none 0 0,.int .i64 (Lx.pl ts:Int)] 158);have jC:=aj.new ((w.setCell ⟨q,3,none⟩ (.int .i64 (nest+1))).alloc (.cells #[.int .i64 0,.string ⟨#[]⟩,.int .u8 0,.slice none 0 0,.int .i64 0] 158)) #[.int .i64 2,.string ⟨#[]⟩,.int .u8 0,.slice none 0 0,.int .i64 (Lx.pl ts:Int)] 158;rw[show ((w.setCell ⟨q,3,none⟩ (.int .i64 (nest+1))).alloc (.cells #[.int .i64 0,.string ⟨#[]⟩,.int .u8 0,.slice none 0 0,.int .i64 0] 158)).heap.size=w.heap.size+1 by simp[World.setCell]]at jC;rw[hU]at jB;have N0:=(((Mv.refl q au w).set 3 (.int .i64 (nest+1))).alloc (.cells #[.int .i64 0,.string ⟨#[]⟩,.int .u8 0,.slice none 0 0,.int .i64 0] 158)).alloc (.cells #[.int .i64 2,.string ⟨#[]⟩,.int .u8 0,.slice none 0 0,.int .i64 (Lx.pl ts:Int)] 158);clear h2 kB kC M0 hU;clear hn su;go_enter func169,ntmps169;go_wp2_with fail;refine(oO g2 HK.out sV.out).mono ?_;rintro e w1⟨rfl,sg1,m1,x1,h1⟩;have aZ:=x1.keep (b:=w.heap.size) jB.lt fB;have eX:=x1.keep (b:=w.heap.size+1) jC.lt fC;have aP:=jC.mv m1 (by omega) fC;have kB1:=jB.mv m1 (by omega) fB;have M1:=N0.trans (Nx.refl _ _) m1;have X1:=(Nx.refl au w).trans N0.size x1
 have uM:=aP.lt;clear jB jC N0 g2 m1 x1 c1 c3 fq kq;go_wp2_with fail;have HA1:=HA s q w1 ts.tail (nest+1) sg1 _ HO.out h1;rw[HD8.out]at HA1;refine HA1.mono ?_;intro e w2 he;clear HA1;cases hr2:iP d' ts.tail with
 |error x=>
  obtain⟨n,a⟩:=x;obtain⟨v,sg2,sl2,rfl,m2,x2,hx2,va,vk,vc,rfl⟩:=he.err hr2;have HE:Hid (cO (bB (d'+1)) ts=.error (n,a)):=by
   show _=_;rw[jO.out];unfold nJ;rw[hr2]
  clear hr2 he jO;have lM:=x2.keep (b:=w.heap.size) kB1.lt aZ;have tu:=x2.keep (b:=w.heap.size+1) aP.lt eX;have eG:=aP.mv m2 (by omega) eX;have kB2:=kB1.mv m2 (by omega) aZ;have M2:=M1.trans X1 m2;have X2:=X1.trans M1.size x2;have d3:w2.cell? ⟨w.heap.size+1,3,none⟩=some (.slice none 0 0):=eG.cell 3;have fz:∀i,w2.frozen? ⟨w.heap.size+1,i,none⟩=false:=eG.frozen;have hx3:=hx2.other (b:=w.heap.size+1) 3 (.slice va vk vc) (by omega) tu;have bG:=eG.set 3 (.slice va vk vc);have kB3:=kB2.other (b':=w.heap.size+1) (i:=3) (by omega) (.slice va vk vc);have M3:=M2.new (b:=w.heap.size+1) (by omega) 3 (.slice va vk vc);clear eG kB2 aP kB1;go_wp2_with fail;refine(KD hx3 r9).mono ?_;rintro e w'⟨rfl,hw⟩;obtain rfl:=hw.symm;obtain⟨ii,WW,jy⟩:=hx3.blk;have c3:(w2.setCell ⟨w.heap.size+1,3,none⟩ (.slice va vk vc)).cell? ⟨q,3,none⟩=some (.int .i64 (nest+1)):=jy.cell 3;have ET:∀i,(w2.setCell ⟨w.heap.size+1,3,none⟩ (.slice va vk vc)).frozen? ⟨q,i,none⟩=false:=jy.frozen;have hx4:=hx3.Gq nest;have aN:=bG.other (b':=q) (i:=3) (by omega) (.int .i64 nest);have aH:=kB3.other (b':=q) (i:=3) (by omega) (.int .i64 nest);have M4:=M3.set 3 (.int .i64 nest);clear bG kB3 d3 fz hx3 jy;generalize w2.setCell ⟨w.heap.size+1,3,none⟩ (.slice va vk vc)=w3 at *;go_wp2_with fail;generalize w3.setCell ⟨q,3,none⟩ (.int .i64 nest)=w4 at *;refine(yD hx4 jq).mono ?_;rintro e w'⟨rfl,hw⟩;obtain rfl:=hw.symm;go_wp2_with fail;refine(yD hx4 jW).mono ?_;rintro e w'⟨rfl,hw⟩;obtain rfl:=hw.symm;go_wp2_with fail;refine(yD hx4 mJ).mono ?_
  rintro e w'⟨rfl,hw⟩;obtain rfl:=hw.symm;have nU:=aH;have d0:w4.cell? ⟨w.heap.size+1,0,none⟩=some (.int .i64 2):=aN.cell 0;have d1:w4.cell? ⟨w.heap.size+1,1,none⟩=some (.string ⟨#[]⟩):=aN.cell 1;have d2:w4.cell? ⟨w.heap.size+1,2,none⟩=some (.int .u8 0):=aN.cell 2;have d3:w4.cell? ⟨w.heap.size+1,3,none⟩=some (.slice va vk vc):=aN.cell 3;have d4:w4.cell? ⟨w.heap.size+1,4,none⟩=some (.int .i64 (Lx.pl ts:Int)):=aN.cell 4;have e0:w4.cell? ⟨w.heap.size,0,none⟩=some (.int .i64 0):=aH.cell 0;have e1:w4.cell? ⟨w.heap.size,1,none⟩=some (.string ⟨#[]⟩):=aH.cell 1;have e2:w4.cell? ⟨w.heap.size,2,none⟩=some (.int .u8 0):=aH.cell 2;have e3:w4.cell? ⟨w.heap.size,3,none⟩=some (.slice none 0 0):=aH.cell 3;have e4:w4.cell? ⟨w.heap.size,4,none⟩=some (.int .i64 0):=aH.cell 4;have rJ:∀i,w4.frozen? ⟨w.heap.size,i,none⟩=false:=aH.frozen;go_wp2_with fail;refine bodyPost_ret (v:=.agg #[(.int .i64 2),(.string ⟨#[]⟩),.int .u8 0,(.slice va vk vc),.int .i64 (Lx.pl ts:Int)]) (by simp[results,results169,go_sem,e0,e1,e2,e3,e4]) rfl ?_;exact bO.no HE.out (((((M4.new (zL0) _ _).new (zL0) _ _).new (zL0) _ _).new (zL0) _ _).new (zL0) _ _) X2 (((((hx4.other _ _ (by omega) lM).other _ _ (by omega) lM).other _ _ (by omega) lM).other _ _ (by omega) lM).other _ _ (by omega) lM) ⟨_,_,_,_,_,_,_,rfl⟩
 |ok x=>
  obtain⟨l,bL⟩:=x;obtain⟨v,sg2,sl2,rfl,m2,x2,h2,hv2⟩:=he.ok hr2;obtain⟨va,vk,vc,rfl⟩:=ay.form hv2;have Lj:Hid (cO (bB (d'+1)) ts=(match gF r9 bL with
   |.error e=>.error e
   | .ok (_,aB)=>.ok (⟨2,aL,(bS aB).1,l,Lx.pl ts⟩,(bS aB).2))):=by
   show _=_;rw[jO.out];simp only[nJ,hr2];cases hmm:gF r9 bL with
   |error e=>simp only
   |ok y=>simp only
  clear hr2 he jO;have lM:=x2.keep (b:=w.heap.size) kB1.lt aZ;have tu:=x2.keep (b:=w.heap.size+1) aP.lt eX;have eG:=aP.mv m2 (by omega) eX;have kB2:=kB1.mv m2 (by omega) aZ;have M2:=M1.trans X1 m2;have X2:=X1.trans M1.size x2;have d3:w2.cell? ⟨w.heap.size+1,3,none⟩=some (.slice none 0 0):=eG.cell 3;have fz:∀i,w2.frozen? ⟨w.heap.size+1,i,none⟩=false:=eG.frozen;have h3:=h2.other (b:=w.heap.size+1) 3 (.slice va vk vc) (by omega) tu;have bG:=eG.set 3 (.slice va vk vc);have kB3:=kB2.other (b':=w.heap.size+1) (i:=3) (by omega) (.slice va vk vc);have M3:=M2.new (b:=w.heap.size+1) (by omega) 3 (.slice va vk vc);have hv3:ay YR (d'+1) (Fp (w.heap.size+2) sg2 (w2.setCell ⟨w.heap.size+1,3,none⟩ (.slice va vk vc))) (w2.setCell ⟨w.heap.size+1,3,none⟩ (.slice va vk vc)) (.slice va vk vc) l :=
   ay.move (fun b hb=>zS0 (fun e=>by have e':b=w.heap.size+1:=e;have:=hb.1;omega)) (fun b hb=>⟨by have:=hb.1;omega,by simpa [World.setCell]using hb.2.1,hb.2.2⟩) hv2
  have lC3:=bG.lt;have lB3:=kB3.lt;clear eG kB2 aP kB1 hv2 h2;go_wp2_with fail;generalize w2.setCell ⟨w.heap.size+1,3,none⟩ (.slice va vk vc)=w3 at *;refine(KC h3 r9 (by decide) (by decide)).mono ?_;intro e w4 he;cases hr4:gF r9 bL with
  |error x=>
   obtain⟨n,a⟩:=x;obtain⟨v,AL,Rk,rfl,m4,x4,hx4,rfl⟩:=he.err hr4;have HE:Hid (cO (bB (d'+1)) ts=.error (n,a)):=by show _=_;rw[Lj.out,hr4]
   clear hr4 he Lj;have lN:=x4.keep (b:=w.heap.size) lB3 lM;have f4C:=x4.keep (b:=w.heap.size+1) lC3 tu;have fV:=bG.mv m4 (by omega) tu;have bf:=kB3.mv m4 (by omega) lM;have M4:=M3.trans X2 m4;have X4:=X2.trans M3.size x4;obtain⟨ii,WW,mQ⟩:=hx4.blk;have c3:w4.cell? ⟨q,3,none⟩=some (.int .i64 (nest+1)):=mQ.cell 3;have fq4:∀i,w4.frozen? ⟨q,i,none⟩=false:=mQ.frozen;have hx5:=hx4.Gq nest;have aN:=fV.other (b':=q) (i:=3) (by omega) (.int .i64 nest);have aH:=bf.other (b':=q) (i:=3) (by omega) (.int .i64 nest);have M5:=M4.set 3 (.int .i64 nest);clear fV bf hx4 mQ bG kB3 d3 fz;go_wp2_with fail;generalize w4.setCell ⟨q,3,none⟩ (.int .i64 nest)=w5 at *;refine(yD hx5 jq).mono ?_;rintro e w'⟨rfl,hw⟩;obtain rfl:=hw.symm;go_wp2_with fail;refine(yD hx5 jW).mono ?_;rintro e w'⟨rfl,hw⟩;obtain rfl:=hw.symm;go_wp2_with fail;refine(yD hx5 mJ).mono ?_;rintro e w'⟨rfl,hw⟩;obtain rfl:=hw.symm;have nU:=aH;have d0:w5.cell? ⟨w.heap.size+1,0,none⟩=some (.int .i64 2):=aN.cell 0;have d1:w5.cell? ⟨w.heap.size+1,1,none⟩=some (.string ⟨#[]⟩):=aN.cell 1;have d2:w5.cell? ⟨w.heap.size+1,2,none⟩=some (.int .u8 0):=aN.cell 2;have d3:w5.cell? ⟨w.heap.size+1,3,none⟩=some (.slice va vk vc):=aN.cell 3;have d4:w5.cell? ⟨w.heap.size+1,4,none⟩=some (.int .i64 (Lx.pl ts:Int)):=aN.cell 4;have e0:w5.cell? ⟨w.heap.size,0,none⟩=some (.int .i64 0):=aH.cell 0;have e1:w5.cell? ⟨w.heap.size,1,none⟩=some (.string ⟨#[]⟩):=aH.cell 1;have e2:w5.cell? ⟨w.heap.size,2,none⟩=some (.int .u8 0):=aH.cell 2;have e3:w5.cell? ⟨w.heap.size,3,none⟩=some (.slice none 0 0):=aH.cell 3
   have e4:w5.cell? ⟨w.heap.size,4,none⟩=some (.int .i64 0):=aH.cell 4;have rJ:∀i,w5.frozen? ⟨w.heap.size,i,none⟩=false:=aH.frozen;go_wp2_with fail;refine bodyPost_ret (v:=.agg #[(.int .i64 2),(.string ⟨#[]⟩),.int .u8 0,(.slice va vk vc),.int .i64 (Lx.pl ts:Int)]) (by simp[results,results169,go_sem,e0,e1,e2,e3,e4]) rfl ?_;exact bO.no HE.out (((((M5.new (zL0) _ _).new (zL0) _ _).new (zL0) _ _).new (zL0) _ _).new (zL0) _ _) X4 (((((hx5.other _ _ (by omega) lN).other _ _ (by omega) lN).other _ _ (by omega) lN).other _ _ (by omega) lN).other _ _ (by omega) lN) ⟨_,_,_,_,_,_,_,rfl⟩
  |ok x=>
   obtain⟨u,fO⟩:=x;obtain⟨v,AL,Rk,rfl,m4,x4,h4,rfl⟩:=he.ok hr4;have rH:Hid (∀m t,bS fO=(m,t)->cO (bB (d'+1)) ts=.ok (⟨2,aL,m,l,Lx.pl ts⟩,t)):=by
    intro m t e;rw[Lj.out,hr4];simp only;rw[e]
   clear hr4 he Lj;have lN:=x4.keep (b:=w.heap.size) lB3 lM;have f4C:=x4.keep (b:=w.heap.size+1) lC3 tu;have fV:=bG.mv m4 (by omega) tu;have bf:=kB3.mv m4 (by omega) lM;have M4:=M3.trans X2 m4;have X4:=X2.trans M3.size x4;have hv4:ay YR (d'+1) (Fp (w.heap.size+2) AL w4) w4 (.slice va vk vc) l:=ay.move (fun b hb=>m4.block b hb.2.1 (fun e=>by have:=hb.1;omega) hb.2.2) (fun b hb=>⟨hb.1,Nat.lt_of_lt_of_le hb.2.1 m4.size,x4.keep hb.2.1 hb.2.2⟩) hv3;have c3:w4.cell? ⟨q,3,none⟩=some (.int .i64 (nest+1)):=h4.blk.cell 3;have fq4:∀i,w4.frozen? ⟨q,i,none⟩=false:=h4.blk.frozen;have h5:=h4.Gq nest;have l8:=fV.other (b':=q) (i:=3) (by omega) (.int .i64 nest);have EO:=bf.other (b':=q) (i:=3) (by omega) (.int .i64 nest);have M5:=M4.set 3 (.int .i64 nest);have hv5:ay YR (d'+1) (Fp (w.heap.size+2) AL (w4.setCell ⟨q,3,none⟩ (.int .i64 nest))) (w4.setCell ⟨q,3,none⟩ (.int .i64 nest)) (.slice va vk vc) l :=
    ay.move (fun b hb=>zS0 (fun e=>by have e':b=q:=e;have:=hb.1;omega)) (fun b hb=>⟨hb.1,by simpa [World.setCell]using hb.2.1,hb.2.2⟩) hv4
   clear fV bf h4 bG kB3 d3 fz hv4 hv3 h3 m4 x4 m2 x2 M4 M3 M2 M1;go_wp2_with fail;generalize w4.setCell ⟨q,3,none⟩ (.int .i64 nest)=w1 at *;have h3:=h5;have kB1:=EO;have aP:=l8;have M1:=M5;have X1:=X4;have aZ:=lN;have eX:=f4C;have hv1:=hv5;have HP:=rH.out;clear h5 EO l8 M5 X4 hv5 rH c3 fq4
   by_cases hm:Lx.hd fO=jq
   ·have lK:Hid _:=HP _ _ (Oa hm)
    have HM:Hid (Lx.hd fO=jq):=hm;have jJ:Hid (Lx.known (Lx.hd fO)=true):=by show _=_;rw[hm];decide
    have nQ:Hid (Lx.hd fO≠aL):=by show _≠_;rw[hm];decide
    have c2:w1.cell? ⟨q,2,none⟩=some (.string ⟨#[42]⟩):=by
     have:=h3.blk.cell 2;rw[this];simp only[dJ];rw[nE jJ.out,HM.out];rfl
    have h4:=h3.other (b:=w.heap.size+1) 2 (.int .u8 42) (by omega) eX;have fV:=aP.set 2 (.int .u8 42);have bf:=kB1.other (b':=w.heap.size+1) (i:=2) (by omega) (.int .u8 42);have M4:=M1.new (b:=w.heap.size+1) (by omega) 2 (.int .u8 42);have d2:w1.cell? ⟨w.heap.size+1,2,none⟩=some (.int .u8 0):=aP.cell 2;have rC:∀i,w1.frozen? ⟨w.heap.size+1,i,none⟩=false:=aP.frozen;have hv4:ay YR (d'+1) (Fp (w.heap.size+2) AL (w1.setCell ⟨w.heap.size+1,2,none⟩ (.int .u8 42))) (w1.setCell ⟨w.heap.size+1,2,none⟩ (.int .u8 42)) (.slice va vk vc) l :=
     ay.move (fun b hb=>zS0 (fun e=>by have e':b=w.heap.size+1:=e;have:=hb.1;omega)) (fun b hb=>⟨hb.1,by simpa [World.setCell]using hb.2.1,hb.2.2⟩) hv1
    clear hm HP hv1;go_wp2_with fail;refine(iG h3 jq (by decide) (by decide)).mono ?_;rintro e w'⟨rfl,hw⟩;obtain rfl:=hw.symm;rw[decide_eq_true HM.out];go_wp2_with fail;refine(oO h4 jJ.out nQ.out).mono ?_;rintro e w5⟨rfl,o7,m5,x5,h5⟩;have cB:=x5.keep (b:=w.heap.size) bf.lt aZ;have aN:=fV.mv m5 (by omega) eX;have aH:=bf.mv m5 (by omega) aZ;have hv5:ay YR (d'+1) (Fp (w.heap.size+2) o7 w5) w5 (.slice va vk vc) l:=ay.move (fun b hb=>m5.block b hb.2.1 (fun e=>by have:=hb.1;omega) hb.2.2) (fun b hb=>⟨hb.1,Nat.lt_of_lt_of_le hb.2.1 m5.size,x5.keep hb.2.1 hb.2.2⟩) hv4;have M5:=M4.trans X1 m5;have X5:=X1.trans M4.size x5;have nU:=aH;have d0:w5.cell? ⟨w.heap.size+1,0,none⟩=some (.int .i64 2):=aN.cell 0;have d1:w5.cell? ⟨w.heap.size+1,1,none⟩=some (.string ⟨#[]⟩):=aN.cell 1;have d2:w5.cell? ⟨w.heap.size+1,2,none⟩=some (.int .u8 42):=aN.cell 2;have d3:w5.cell? ⟨w.heap.size+1,3,none⟩=some (.slice va vk vc):=aN.cell 3;have d4:w5.cell? ⟨w.heap.size+1,4,none⟩=some (.int .i64 (Lx.pl ts:Int)):=aN.cell 4;have e0:w5.cell? ⟨w.heap.size,0,none⟩=some (.int .i64 0):=aH.cell 0;have e1:w5.cell? ⟨w.heap.size,1,none⟩=some (.string ⟨#[]⟩):=aH.cell 1;have e2:w5.cell? ⟨w.heap.size,2,none⟩=some (.int .u8 0):=aH.cell 2;have e3:w5.cell? ⟨w.heap.size,3,none⟩=some (.slice none 0 0):=aH.cell 3;have e4:w5.cell? ⟨w.heap.size,4,none⟩=some (.int .i64 0):=aH.cell 4;have rJ:∀i,w5.frozen? ⟨w.heap.size,i,none⟩=false:=aH.frozen;clear fV bf aP kB1 h4 h3 hv4 c2;go_wp2_with fail;refine bodyPost_ret (v:=.agg #[(.int .i64 2),(.string ⟨#[]⟩),.int .u8 42,(.slice va vk vc),.int .i64 (Lx.pl ts:Int)]) (by simp[results,results169,go_sem,e0,e1,e2,e3,e4]) rfl ?_
    refine bO.yes lK.out (((((M5.new (zL0) _ _).new (zL0) _ _).new (zL0) _ _).new (zL0) _ _).new (zL0) _ _) X5 (((((h5.other _ _ (by omega) cB).other _ _ (by omega) cB).other _ _ (by omega) cB).other _ _ (by omega) cB).other _ _ (by omega) cB) ⟨_,rfl,?_⟩;refine ay.move (fun b hb=>?_) (fun b hb=>⟨by have:=hb.1;omega,by simpa [World.setCell]using hb.2.1,hb.2.2⟩) hv5;have hbb:b≠w.heap.size:=by have:=hb.1;omega
    rw[zS0 hbb,zS0 hbb,zS0 hbb,zS0 hbb,zS0 hbb]
   have n42:Hid (¬Lx.hd fO=jq):=hm;clear hm
   by_cases hm:Lx.hd fO=jW
   ·have lK:Hid _:=HP _ _ (Ob hm)
    have HM:Hid (Lx.hd fO=jW):=hm;have jJ:Hid (Lx.known (Lx.hd fO)=true):=by show _=_;rw[hm];decide
    have nQ:Hid (Lx.hd fO≠aL):=by show _≠_;rw[hm];decide
    have c2:w1.cell? ⟨q,2,none⟩=some (.string ⟨#[43]⟩):=by
     have:=h3.blk.cell 2;rw[this];simp only[dJ];rw[nE jJ.out,HM.out];rfl
    have h4:=h3.other (b:=w.heap.size+1) 2 (.int .u8 43) (by omega) eX;have fV:=aP.set 2 (.int .u8 43);have bf:=kB1.other (b':=w.heap.size+1) (i:=2) (by omega) (.int .u8 43);have M4:=M1.new (b:=w.heap.size+1) (by omega) 2 (.int .u8 43);have d2:w1.cell? ⟨w.heap.size+1,2,none⟩=some (.int .u8 0):=aP.cell 2;have rC:∀i,w1.frozen? ⟨w.heap.size+1,i,none⟩=false:=aP.frozen;have hv4:ay YR (d'+1) (Fp (w.heap.size+2) AL (w1.setCell ⟨w.heap.size+1,2,none⟩ (.int .u8 43))) (w1.setCell ⟨w.heap.size+1,2,none⟩ (.int .u8 43)) (.slice va vk vc) l :=
     ay.move (fun b hb=>zS0 (fun e=>by have e':b=w.heap.size+1:=e;have:=hb.1;omega)) (fun b hb=>⟨hb.1,by simpa [World.setCell]using hb.2.1,hb.2.2⟩) hv1
    clear hm HP hv1;go_wp2_with fail;refine(iG h3 jq (by decide) (by decide)).mono ?_;rintro e w'⟨rfl,hw⟩;obtain rfl:=hw.symm;rw[decide_eq_false (by rw[HM.out];decide)];go_wp2_with fail;refine(iG h3 jW (by decide) (by decide)).mono ?_;rintro e w'⟨rfl,hw⟩;obtain rfl:=hw.symm;rw[decide_eq_true HM.out];go_wp2_with fail;refine(oO h4 jJ.out nQ.out).mono ?_;rintro e w5⟨rfl,o7,m5,x5,h5⟩;have cB:=x5.keep (b:=w.heap.size) bf.lt aZ;have aN:=fV.mv m5 (by omega) eX;have aH:=bf.mv m5 (by omega) aZ;have hv5:ay YR (d'+1) (Fp (w.heap.size+2) o7 w5) w5 (.slice va vk vc) l:=ay.move (fun b hb=>m5.block b hb.2.1 (fun e=>by have:=hb.1;omega) hb.2.2) (fun b hb=>⟨hb.1,Nat.lt_of_lt_of_le hb.2.1 m5.size,x5.keep hb.2.1 hb.2.2⟩) hv4;have M5:=M4.trans X1 m5;have X5:=X1.trans M4.size x5;have nU:=aH;have d0:w5.cell? ⟨w.heap.size+1,0,none⟩=some (.int .i64 2):=aN.cell 0;have d1:w5.cell? ⟨w.heap.size+1,1,none⟩=some (.string ⟨#[]⟩):=aN.cell 1;have d2:w5.cell? ⟨w.heap.size+1,2,none⟩=some (.int .u8 43):=aN.cell 2;have d3:w5.cell? ⟨w.heap.size+1,3,none⟩=some (.slice va vk vc):=aN.cell 3;have d4:w5.cell? ⟨w.heap.size+1,4,none⟩=some (.int .i64 (Lx.pl ts:Int)):=aN.cell 4;have e0:w5.cell? ⟨w.heap.size,0,none⟩=some (.int .i64 0):=aH.cell 0;have e1:w5.cell? ⟨w.heap.size,1,none⟩=some (.string ⟨#[]⟩):=aH.cell 1;have e2:w5.cell? ⟨w.heap.size,2,none⟩=some (.int .u8 0):=aH.cell 2;have e3:w5.cell? ⟨w.heap.size,3,none⟩=some (.slice none 0 0):=aH.cell 3;have e4:w5.cell? ⟨w.heap.size,4,none⟩=some (.int .i64 0):=aH.cell 4
    have rJ:∀i,w5.frozen? ⟨w.heap.size,i,none⟩=false:=aH.frozen;clear fV bf aP kB1 h4 h3 hv4 c2;go_wp2_with fail;refine bodyPost_ret (v:=.agg #[(.int .i64 2),(.string ⟨#[]⟩),.int .u8 43,(.slice va vk vc),.int .i64 (Lx.pl ts:Int)]) (by simp[results,results169,go_sem,e0,e1,e2,e3,e4]) rfl ?_;refine bO.yes lK.out (((((M5.new (zL0) _ _).new (zL0) _ _).new (zL0) _ _).new (zL0) _ _).new (zL0) _ _) X5 (((((h5.other _ _ (by omega) cB).other _ _ (by omega) cB).other _ _ (by omega) cB).other _ _ (by omega) cB).other _ _ (by omega) cB) ⟨_,rfl,?_⟩;refine ay.move (fun b hb=>?_) (fun b hb=>⟨by have:=hb.1;omega,by simpa [World.setCell]using hb.2.1,hb.2.2⟩) hv5;have hbb:b≠w.heap.size:=by have:=hb.1;omega
    rw[zS0 hbb,zS0 hbb,zS0 hbb,zS0 hbb,zS0 hbb]
   have n43:Hid (¬Lx.hd fO=jW):=hm;clear hm
   by_cases hm:Lx.hd fO=mJ
   ·have lK:Hid _:=HP _ _ (Ov hm)
    have HM:Hid (Lx.hd fO=mJ):=hm;have jJ:Hid (Lx.known (Lx.hd fO)=true):=by show _=_;rw[hm];decide
    have nQ:Hid (Lx.hd fO≠aL):=by show _≠_;rw[hm];decide
    have c2:w1.cell? ⟨q,2,none⟩=some (.string ⟨#[63]⟩):=by
     have:=h3.blk.cell 2;rw[this];simp only[dJ];rw[nE jJ.out,HM.out];rfl
    have h4:=h3.other (b:=w.heap.size+1) 2 (.int .u8 63) (by omega) eX;have fV:=aP.set 2 (.int .u8 63);have bf:=kB1.other (b':=w.heap.size+1) (i:=2) (by omega) (.int .u8 63);have M4:=M1.new (b:=w.heap.size+1) (by omega) 2 (.int .u8 63);have d2:w1.cell? ⟨w.heap.size+1,2,none⟩=some (.int .u8 0):=aP.cell 2;have rC:∀i,w1.frozen? ⟨w.heap.size+1,i,none⟩=false:=aP.frozen;have hv4:ay YR (d'+1) (Fp (w.heap.size+2) AL (w1.setCell ⟨w.heap.size+1,2,none⟩ (.int .u8 63))) (w1.setCell ⟨w.heap.size+1,2,none⟩ (.int .u8 63)) (.slice va vk vc) l :=
     ay.move (fun b hb=>zS0 (fun e=>by have e':b=w.heap.size+1:=e;have:=hb.1;omega)) (fun b hb=>⟨hb.1,by simpa [World.setCell]using hb.2.1,hb.2.2⟩) hv1
    clear hm HP hv1;go_wp2_with fail;refine(iG h3 jq (by decide) (by decide)).mono ?_;rintro e w'⟨rfl,hw⟩;obtain rfl:=hw.symm;rw[decide_eq_false (by rw[HM.out];decide)];go_wp2_with fail;refine(iG h3 jW (by decide) (by decide)).mono ?_;rintro e w'⟨rfl,hw⟩;obtain rfl:=hw.symm;rw[decide_eq_false (by rw[HM.out];decide)];go_wp2_with fail;refine(iG h3 mJ (by decide) (by decide)).mono ?_;rintro e w'⟨rfl,hw⟩;obtain rfl:=hw.symm;rw[decide_eq_true HM.out];go_wp2_with fail;refine(oO h4 jJ.out nQ.out).mono ?_;rintro e w5⟨rfl,o7,m5,x5,h5⟩;have cB:=x5.keep (b:=w.heap.size) bf.lt aZ;have aN:=fV.mv m5 (by omega) eX;have aH:=bf.mv m5 (by omega) aZ;have hv5:ay YR (d'+1) (Fp (w.heap.size+2) o7 w5) w5 (.slice va vk vc) l:=ay.move (fun b hb=>m5.block b hb.2.1 (fun e=>by have:=hb.1;omega) hb.2.2) (fun b hb=>⟨hb.1,Nat.lt_of_lt_of_le hb.2.1 m5.size,x5.keep hb.2.1 hb.2.2⟩) hv4;have M5:=M4.trans X1 m5;have X5:=X1.trans M4.size x5;have nU:=aH;have d0:w5.cell? ⟨w.heap.size+1,0,none⟩=some (.int .i64 2):=aN.cell 0;have d1:w5.cell? ⟨w.heap.size+1,1,none⟩=some (.string ⟨#[]⟩):=aN.cell 1;have d2:w5.cell? ⟨w.heap.size+1,2,none⟩=some (.int .u8 63):=aN.cell 2;have d3:w5.cell? ⟨w.heap.size+1,3,none⟩=some (.slice va vk vc):=aN.cell 3;have d4:w5.cell? ⟨w.heap.size+1,4,none⟩=some (.int .i64 (Lx.pl ts:Int)):=aN.cell 4;have e0:w5.cell? ⟨w.heap.size,0,none⟩=some (.int .i64 0):=aH.cell 0;have e1:w5.cell? ⟨w.heap.size,1,none⟩=some (.string ⟨#[]⟩):=aH.cell 1;have e2:w5.cell? ⟨w.heap.size,2,none⟩=some (.int .u8 0):=aH.cell 2
    have e3:w5.cell? ⟨w.heap.size,3,none⟩=some (.slice none 0 0):=aH.cell 3;have e4:w5.cell? ⟨w.heap.size,4,none⟩=some (.int .i64 0):=aH.cell 4;have rJ:∀i,w5.frozen? ⟨w.heap.size,i,none⟩=false:=aH.frozen;clear fV bf aP kB1 h4 h3 hv4 c2;go_wp2_with fail;refine bodyPost_ret (v:=.agg #[(.int .i64 2),(.string ⟨#[]⟩),.int .u8 63,(.slice va vk vc),.int .i64 (Lx.pl ts:Int)]) (by simp[results,results169,go_sem,e0,e1,e2,e3,e4]) rfl ?_;refine bO.yes lK.out (((((M5.new (zL0) _ _).new (zL0) _ _).new (zL0) _ _).new (zL0) _ _).new (zL0) _ _) X5 (((((h5.other _ _ (by omega) cB).other _ _ (by omega) cB).other _ _ (by omega) cB).other _ _ (by omega) cB).other _ _ (by omega) cB) ⟨_,rfl,?_⟩;refine ay.move (fun b hb=>?_) (fun b hb=>⟨by have:=hb.1;omega,by simpa [World.setCell]using hb.2.1,hb.2.2⟩) hv5;have hbb:b≠w.heap.size:=by have:=hb.1;omega
    rw[zS0 hbb,zS0 hbb,zS0 hbb,zS0 hbb,zS0 hbb]
   have n63:Hid (¬Lx.hd fO=mJ):=hm;clear hm;have lK:Hid _:=HP _ _ (Oc n42.out n43.out n63.out);clear HP;go_wp2_with fail;refine(iG h3 jq (by decide) (by decide)).mono ?_;rintro e w'⟨rfl,hw⟩;obtain rfl:=hw.symm;rw[decide_eq_false n42.out];go_wp2_with fail;refine(iG h3 jW (by decide) (by decide)).mono ?_;rintro e w'⟨rfl,hw⟩;obtain rfl:=hw.symm;rw[decide_eq_false n43.out];go_wp2_with fail;refine(iG h3 mJ (by decide) (by decide)).mono ?_;rintro e w'⟨rfl,hw⟩;obtain rfl:=hw.symm;rw[decide_eq_false n63.out];have aN:=aP;have aH:=kB1;have nU:=aH;have d0:w1.cell? ⟨w.heap.size+1,0,none⟩=some (.int .i64 2):=aN.cell 0;have d1:w1.cell? ⟨w.heap.size+1,1,none⟩=some (.string ⟨#[]⟩):=aN.cell 1;have d2:w1.cell? ⟨w.heap.size+1,2,none⟩=some (.int .u8 0):=aN.cell 2;have d3:w1.cell? ⟨w.heap.size+1,3,none⟩=some (.slice va vk vc):=aN.cell 3;have d4:w1.cell? ⟨w.heap.size+1,4,none⟩=some (.int .i64 (Lx.pl ts:Int)):=aN.cell 4;have e0:w1.cell? ⟨w.heap.size,0,none⟩=some (.int .i64 0):=aH.cell 0;have e1:w1.cell? ⟨w.heap.size,1,none⟩=some (.string ⟨#[]⟩):=aH.cell 1;have e2:w1.cell? ⟨w.heap.size,2,none⟩=some (.int .u8 0):=aH.cell 2;have e3:w1.cell? ⟨w.heap.size,3,none⟩=some (.slice none 0 0):=aH.cell 3;have e4:w1.cell? ⟨w.heap.size,4,none⟩=some (.int .i64 0):=aH.cell 4;have rJ:∀i,w1.frozen? ⟨w.heap.size,i,none⟩=false:=aH.frozen;go_wp2_with fail;refine bodyPost_ret (v:=.agg #[(.int .i64 2),(.string ⟨#[]⟩),.int .u8 0,(.slice va vk vc),.int .i64 (Lx.pl ts:Int)]) (by simp[results,results169,go_sem,e0,e1,e2,e3,e4]) rfl ?_
   refine bO.yes lK.out (((((M1.new (zL0) _ _).new (zL0) _ _).new (zL0) _ _).new (zL0) _ _).new (zL0) _ _) X1 (((((h3.other _ _ (by omega) aZ).other _ _ (by omega) aZ).other _ _ (by omega) aZ).other _ _ (by omega) aZ).other _ _ (by omega) aZ) ⟨_,rfl,?_⟩;refine ay.move (fun b hb=>?_) (fun b hb=>⟨by have:=hb.1;omega,by simpa [World.setCell]using hb.2.1,hb.2.2⟩) hv1;have hbb:b≠w.heap.size:=by have:=hb.1;omega
   rw[zS0 hbb,zS0 hbb,zS0 hbb,zS0 hbb,zS0 hbb]
end
section
open Go.RowKit
open Lx (Tk)
open Tr
theorem Wp{d:Nat}(hd:d<=8)(HA:∀d',d'+1=d->J9 d'):Wo d:=by
 intro s q w ts nest au sg su h ug
 by_cases h1:Lx.hd ts=jg
 ·have e1:Lx.isName (Lx.hd ts)=false:=by rw[h1];decide
  have e2:Lx.isToken (Lx.hd ts)=false:=by rw[h1];decide
  rw[e1,e2];cases d with
  |zero=>exact ady s q w ts nest au sg (by simpa using su) h h1
  |succ d=>exact adz (by omega) (HA d rfl) s q w ts nest au sg su h h1
 ·cases h2:Lx.isName (Lx.hd ts)
  ·have h3:Lx.isToken (Lx.hd ts)=true:=by
    unfold jU at ug;rw[decide_eq_false h1,h2]at ug;simpa using ug
   rw[h3];exact aeC s q w ts nest au sg h h1 h2 h3
  ·have h3:Lx.isToken (Lx.hd ts)=false:=by
    cases h3:Lx.isToken (Lx.hd ts)
    ·rfl
    ·exfalso
     unfold Lx.isName Lx.isWord at h2;unfold Lx.isToken Lx.isWord at h3;simp only[Bool.and_eq_true]at h2 h3;have a1:=of_decide_eq_true h2.1.2;have a2:=of_decide_eq_true h3.1.2;omega
   rw[h3];exact afg s q w ts nest au sg h h1 h2
section
variable {α:Type} {q B:Nat} {aG nO:Value} {w w':World} {e s:Nat} {c:Value×α -> List Value} {K:(Nat -> Prop) -> World -> Value -> α -> Prop} {v:Value} {l:List α}
def iV(B:Nat)(aG:Value)(w:World)(e s:Nat)(c:Value×α->List Value)(K:(Nat->Prop)->World->Value->α->Prop)(v:Value)(l:List α)(ps:List (Value×α))(F:Nat->Prop):Prop :=
 uY B w e s c K v l ps F/\(∀b,F b->aG.ownBlock≠some b)/\∀g,v.ownBlock=some g->aG.ownBlock≠some g
def jr(B:Nat)(aG:Value)(w:World)(e s:Nat)(c:Value×α->List Value)(K:(Nat->Prop)->World->Value->α->Prop)(v:Value)(l:List α):Prop:=∃ps F,iV B aG w e s c K v l ps F
theorem jr.nil(B:Nat)(aG:Value)(w:World)(e s:Nat)(c:Value×α->List Value)(K:(Nat->Prop)->World->Value->α->Prop):jr B aG w e s c K (.slice none 0 0) []:=by
 obtain⟨ps,F,h⟩:=Grow.nil (α:=α) B w e s c K;exact⟨[],fun _=>False,⟨rfl,World.ownsRow_nil _ _ _ _,fun q h=>by simp at h,fun b h=>h.elim,fun _ _ h=>h⟩,fun b h=>h.elim,fun g h=>by simp[Value.ownBlock]at h⟩
theorem iV.mv{ps:List (Value×α)}{F:Nat->Prop}(hm:jF K)(h:iV B aG w e s c K v l ps F)(m:Mv q aG w w')(n:Nx aG w nO)(hq:q<B):iV B nO w' e s c K v l ps F:=by
 obtain⟨⟨h1,h2,h3,h4,h5⟩,h6,h7⟩:=h;have hF:∀b,F b->w'.heap[b]?=w.heap[b]?:=fun b hb=>m.block b (h4 b hb).2 (fun e=>by have:=(h4 b hb).1;omega) (h6 b hb)
 refine⟨⟨h1,aC h2 fun g hg=>m.block g (h2.lt g hg).2 (fun e=>by have:=(h2.lt g hg).1;omega) (h7 g hg),fun q hq=>hm F F w w' _ _ hF (fun _ h=>h) (h3 q hq),fun b hb=>⟨(h4 b hb).1,Nat.lt_of_lt_of_le (h4 b hb).2 m.size⟩,h5⟩,fun b hb=>n.keep (h4 b hb).2 (h6 b hb),fun g hg=>n.keep (h2.lt g hg).2 (h7 g hg)⟩
theorem iV.kept{ps:List (Value×α)}{F:Nat->Prop}(hm:jF K)(h:iV B aG w e s c K v l ps F){r:Option Nat}(hg:w.grownBy w' r)(hr:∀k,r=some k->k<B):iV B aG w' e s c K v l ps F:=⟨h.1.kept hm hg hr,h.2⟩
theorem jr.kept(hm:jF K)(h:jr B aG w e s c K v l){r:Option Nat}(hg:w.grownBy w' r)(hr:∀k,r=some k->k<B):jr B aG w' e s c K v l :=
 let ⟨ps,F,h'⟩:=h;⟨ps,F,h'.kept hm hg hr⟩
theorem jr.seq(hm:jF K)(h:jr B aG w e s c K v l):Tr.Seq (Fp B aG w) w e s c (K (Fp B aG w) w) v l:=by
 obtain⟨ps,F,⟨h1,h2,h3,h4,h5⟩,h6,h7⟩:=h;exact⟨ps,h1,dm h2 (Nat.zero_le _),fun g hg=>⟨(h2.lt g hg).1,(h2.lt g hg).2,h7 g hg⟩,fun q hq=>hm F _ w w _ _ (fun _ _=>rfl) (fun b hb=>⟨(h4 b hb).1,(h4 b hb).2,h6 b hb⟩) (h3 q hq)⟩
theorem iV.push {ps:List (Value×α)} {F:Nat->Prop} (hm:jF K) (h:iV B aG w e s c K v l ps F) (hq:q<B) (hB:B<=w.heap.size) {w1 w2 w3:World} (g1:Mv q aG w w1) (n1:Nx aG w nO) (ho1:∀g,nO.ownBlock=some g->g<w1.heap.size) (x:Value×α)
  (hx:K (Fp w.heap.size nO w1) w1 x.1 x.2) (g2:w1.grownBy w2 none) {g cap:Nat} (ho:w3.ownsRow B e s (.slice (some ⟨g,0,none⟩) (l.length+1) cap) (l.length+1) (ps.flatMap c++c x))
  (g3:w2.grownBy w3 v.ownBlock) (ha:v.ownBlock=some g\/g=w2.heap.size):jr B nO w3 e s c K (.slice (some ⟨g,0,none⟩) (l.length+1) cap) (l++[x.2]):=by
 obtain⟨⟨h1,h2,h3,h4,h5⟩,h6,h7⟩:=h;have s1:=g1.size;have s2:=g2.size;have s3:=g3.size;have e1:∀b,F b->w3.heap[b]?=w.heap[b]?:=fun b hF=>by
  have hb:=h4 b hF;rw[g3.block b (by omega) (fun e=>h5 b e.symm hF),g2.block b (by omega) (by simp),g1.block b hb.2 (by omega) (h6 b hF)]
 have e2:∀b,Fp w.heap.size nO w1 b->w3.heap[b]?=w1.heap[b]?:=fun b hI=>by
  rw[g3.block b (by have:=hI.2.1;omega) (fun e=>by have:=(h2.lt b e.symm).2;have:=hI.1;omega),g2.block b hI.2.1 (by simp)]
 refine⟨ps++[x],fun b=>F b\/Fp w.heap.size nO w1 b,⟨?_,?_,?_,?_,?_⟩,?_,?_⟩
 ·rw[List.map_append,h1];rfl
 ·rw[List.flatMap_append,List.length_append];simpa using ho
 ·intro q' hq'
  rcases List.mem_append.1 hq' with h'|h'
  ·exact hm F _ w w3 _ _ e1 (fun _ h=>.inl h) (h3 q' h')
  ·simp at h';subst h'
   exact hm _ _ w1 w3 _ _ e2 (fun _ h=>.inr h) hx
 ·intro b hb
  rcases hb with hb|hb
  ·have:=h4 b hb;omega
  ·have:=hb.1;have:=hb.2.1;omega
 ·intro g' hg'
  have:g=g':=by simpa [Value.ownBlock]using hg'
  subst this;rintro(hF | hI)
  ·rcases ha with ha | ha
   ·exact h5 _ ha hF
   ·have:=h4 _ hF;omega
  ·rcases ha with ha | ha
   ·have:=(h2.lt _ ha).2;have:=hI.1;omega
   ·have:=hI.2.1;omega
 ·intro b hb
  rcases hb with hb|hb
  ·exact n1.keep (h4 b hb).2 (h6 b hb)
  ·exact hb.2.2
 ·intro g' hg'
  have:g=g':=by simpa [Value.ownBlock]using hg'
  subst this;rcases ha with ha|ha
  ·exact n1.keep (h2.lt _ ha).2 (h7 _ ha)
  ·intro e';have:=ho1 _ e';omega
end
end
end Go.Proofs.YtjaalkocdbkdeaaGreatDoor

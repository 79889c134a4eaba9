import Derived.Test.YtlcppnabbicmoaaGreatDoorMG11
import Derived.Test.YtlcppnabbicmoaaGreatDoorMG12
import Derived.Test.YtlcppnabbicmoaaGreatDoorMG13
import Derived.Test.YtlcppnabbicmoaaGreatDoorMG14
import Derived.Test.YtlcppnabbicmoaaGreatDoorMG15
import Derived.Test.YtlcppnabbicmoaaGreatDoorMG16
set_option maxHeartbeats 8000000
set_option maxRecDepth 1000000
namespace Go.Proofs.YtlcppnabbicmoaaGreatDoor
open Lx Go.Proofs.Tryz
section
open Go.RowKit
open Lx (Tk)
open Tr
theorem ZN {s:ByteArray}{g:Nat}(h:g<s.size)(hr:eZ s g=g):Hid (Lx.digit (s[g].toNat:Int)=false/\Lx.small (s[g].toNat:Int)=false/\Lx.capital (s[g].toNat:Int)=false/\(s[g].toNat:Int)≠37):=by
 obtain⟨h1,h2⟩:=(Ka h).1 hr;rw[dB s g h]at h1 h2;unfold mM at h2;simp only[Bool.or_eq_false_iff]at h2;exact⟨h2.2,h2.1.1,h2.1.2,h1⟩
theorem ahd (s:ByteArray) (q j g:Nat) (W:ByteArray) (hW:(W.toList == [])=false) (nest err at_:Int) (av:Value) (n:Nat) (xs:List Value) (w:World) (hs:s.size<=2000) (hi:j+W.size<=s.size) (kq:aj w q (dW s j W nest err at_ av) 89) (hown:w.ownsRow 0 9 1 av n xs) (hneq:av.ownBlock≠some q) (hn:n<=2001) (hg0:aW s (j+W.size) false=g) :
  Calls prog 76 #[.pointer (some ⟨q,0,none⟩)] w fun e w'=>e=.returned (.tuple #[])/\∃ aJ,St q av w aJ (n+1) (xs++[.string W]) w'/\aj w' q (dW s g (jo s g) nest err at_ aJ) 89:=by
 by_cases hge:g<s.size
 ·by_cases hr:eZ s g=g
  ·exact ahc s q j g W hW nest err at_ av n xs w hs hi kq hown hneq hn hg0 hge (ZN hge hr)
  ·exact agd s q j g W hW nest err at_ av n xs w hs hi kq hown hneq hn hg0 hge hr
 ·exact ahb s q j g W hW nest err at_ av n xs w hs hi kq hown hneq hn hg0 hge
theorem aib (s:ByteArray) (q i g:Nat) (nest err at_:Int) (av:Value) (n:Nat) (xs:List Value) (w:World) (hs:s.size<=2000) (hi:i<=s.size) (kq:aj w q (dW s i ⟨#[]⟩ nest err at_ av) 89) (hown:w.ownsRow 0 9 1 av n xs) (hneq:av.ownBlock≠some q) (hg0:aW s i false=g) :
  Calls prog 76 #[.pointer (some ⟨q,0,none⟩)] w fun e w'=>e=.returned (.tuple #[])/\∃ aJ,St q av w aJ n xs w'/\aj w' q (dW s g (jo s g) nest err at_ aJ) 89:=by
 by_cases hge:g<s.size
 ·by_cases hr:eZ s g=g
  ·exact aia s q i g nest err at_ av n xs w hs hi kq hown hneq hg0 hge (ZN hge hr)
  ·exact aha s q i g nest err at_ av n xs w hs hi kq hown hneq hg0 hge hr
 ·exact ah9 s q i g nest err at_ av n xs w hs hi kq hown hneq hg0 hge
end
section
open Go.RowKit
open Lx (Tk)
open Tr
namespace Lx
theorem PY {s:ByteArray}{i:Nat}(h:i<s.size):hd (oC s i)=s.extract i (jY s i):=by rw[GH h];rfl
theorem La {s:ByteArray}{i:Nat}(h:i<=s.size):pl (oC s i)=i:=by
 by_cases hi:i<s.size
 ·rw[GH hi];rfl
 ·rw[Ep (by omega)];rfl
theorem agf {s:ByteArray}{i:Nat}(h:i<s.size):(oC s i).tail=oC s (oZ s i):=by rw[GH h];rfl
theorem nO {b:ByteArray}(h:known b=true):fJ b=b:=if_pos h
theorem sJ {t b:ByteArray}(hb:known b=true)(hn:b≠aM):fJ t=b↔t=b:=by
 unfold fJ
 split
 ·exact Iff.rfl
 ·rename_i hk
  constructor
  ·intro e;exact absurd e.symm hn
  ·intro e;subst e;exact absurd hb hk
theorem Kc {p:Int->Bool}(hp:∀ c,p c=true->mM c=true){t:ByteArray}(h:isWord p t=true):known t=true:=by
 unfold isWord at h;simp only[Bool.and_eq_true]at h;unfold known;rw[hp _ h.1.2];simp
theorem BM (t:ByteArray):isName (fJ t)=isName t:=by
 unfold fJ
 split
 ·rfl
 ·rename_i hk
  cases h:isName t
  ·decide
  ·exact absurd (Kc (fun c hc=>LH hc) h) hk
theorem zX (t:ByteArray):isToken (fJ t)=isToken t:=by
 unfold fJ
 split
 ·rfl
 ·rename_i hk
  cases h:isToken t
  ·decide
  ·exact absurd (Kc (fun c hc=>LJ hc) h) hk
theorem Vr {t:ByteArray}(h:isName t=true):known t=true:=Kc (fun _ hc=>LH hc) h
theorem U8 {t:ByteArray}(h:isToken t=true):known t=true:=Kc (fun _ hc=>LJ hc) h
theorem ahe (t:ByteArray):(fJ t).size<=t.size:=by
 unfold fJ
 split
 ·exact lr0
 ·exact Nat.zero_le _
end Lx
structure RR (s:ByteArray) (q:Nat) (w:World) (ts:List Tk) (nest:Int) (av:Value) (sg:List ByteArray):Prop where
 blk:aj w q (dW s (Lx.pl ts) (fJ (Lx.hd ts)) nest 0 0 av) 89
 own:w.ownsRow 0 9 1 av sg.length (sg.map Value.string)
 ne:av.ownBlock≠some q
 lex:ts=oC s (Lx.pl ts)
 Np:Lx.pl ts<=s.size
 ss:s.size<=2000
 Mj:sg++ts.map Prod.fst=(Lx.lex s).map Prod.fst
structure RX (s:ByteArray) (q:Nat) (w:World) (nest:Int) (n a:Nat) (av:Value) (sg:List ByteArray):Prop where
 blk:∃ i W,aj w q (dW s i W nest (n:Int) (a:Int) av) 89
 own:w.ownsRow 0 9 1 av sg.length (sg.map Value.string)
 ne:av.ownBlock≠some q
 pos:0<n
section
variable {s:ByteArray} {q:Nat} {w w':World} {ts:List Tk} {nest:Int} {av:Value} {sg:List ByteArray}
theorem RR.wf (h:RR s q w ts nest av sg):Lx.WF ts:=by
 rw[h.lex];exact PK s _ _ (lr0)
theorem RR.lt (h:RR s q w ts nest av sg):q<w.heap.size:=h.blk.lt
theorem RR.hsz (h:RR s q w ts nest av sg):(Lx.hd ts).size<=2000:=by
 by_cases hi:Lx.pl ts<s.size
 ·rw[h.lex,PY hi]
  have:=BP hi;rw[ByteArray.size_extract];have:=h.ss;omega
 ·rw[h.lex,Ep (by omega)];exact Nat.zero_le _
theorem RR.SL (h:RR s q w ts nest av sg):(fJ (Lx.hd ts)).size<=2000:=Nat.le_trans (ahe _) h.hsz
theorem RR.cnt (h:RR s q w ts nest av sg):sg.length+ts.length<=2001:=by
 have:=congrArg List.length h.Mj;simp only[List.length_append,List.length_map]at this;have h2:=GL s (aW s 0 false);have h3:=h.ss;unfold Lx.lex at this;omega
theorem RR.move (h:RR s q w ts nest av sg)(hq:w'.heap[q]?=w.heap[q]?)(hs:∀ g,av.ownBlock=some g->w'.heap[g]?=w.heap[g]?):RR s q w' ts nest av sg :=
 ⟨hq.trans h.blk,aD h.own hs,h.ne,h.lex,h.Np,h.ss,h.Mj⟩
theorem RX.move {n a:Nat}(h:RX s q w nest n a av sg)(hq:w'.heap[q]?=w.heap[q]?)(hs:∀ g,av.ownBlock=some g->w'.heap[g]?=w.heap[g]?):RX s q w' nest n a av sg:=by
 obtain⟨i,W,hb⟩:=h.blk;exact⟨⟨i,W,hq.trans hb⟩,aD h.own hs,h.ne,h.pos⟩
end
theorem oV {s:ByteArray} {q:Nat} {w:World} {ts:List Tk} {nest:Int} {av:Value} {sg:List ByteArray} (h:RR s q w ts nest av sg) (hk:Lx.known (Lx.hd ts)=true) (hn:Lx.hd ts≠aM) :
  Calls prog 76 #[.pointer (some ⟨q,0,none⟩)] w fun e w'=>e=.returned (.tuple #[])/\∃ aJ,Mv q av w w'/\Nx av w aJ/\RR s q w' ts.tail nest aJ (sg++[Lx.hd ts]):=by
 have hp:Lx.pl ts<s.size:=by
  rcases Nat.lt_or_ge (Lx.pl ts) s.size with h1 | h1
  ·exact h1
  ·have:=h.lex;rw[Ep h1]at this;exact absurd (by rw[this];rfl) hn
 have hse:=BP hp;have hhd:Lx.hd ts=s.extract (Lx.pl ts) (jY s (Lx.pl ts)):=by rw[h.lex];rw[La h.Np,PY hp]
 have hws:Lx.pl ts+(Lx.hd ts).size=jY s (Lx.pl ts):=by rw[hhd,ByteArray.size_extract];omega
 have kq:=h.blk;rw[nO hk]at kq;have hcnt:=h.cnt;refine (ahd s q (Lx.pl ts) (oZ s (Lx.pl ts)) (Lx.hd ts) (lU (l:=[]) hn) nest 0 0 av sg.length _ w h.ss (by omega) kq h.own h.ne (by omega) (by rw[hws];rfl)).mono ?_;rintro e w' ⟨rfl,aJ,st,SN⟩;have hnb:=GK hp;have htl:ts.tail=oC s (oZ s (Lx.pl ts)):=by
  have e1:ts.tail=(oC s (Lx.pl ts)).tail:=by rw[<-h.lex]
  rw[e1,agf hp]
 have hpt:Lx.pl ts.tail=oZ s (Lx.pl ts):=by rw[htl,La hnb.2]
 refine⟨rfl,aJ,st.mv,st.nx,⟨?_,?_,st.ne,?_,by rw[hpt];exact hnb.2,h.ss,?_⟩⟩
 ·rw[hpt,htl,<-WT hnb.2];exact SN
 ·have:=st.own;simpa using this
 ·rw[hpt];exact htl
 ·have:=h.Mj
  cases ts with
  | nil=>exact absurd (h.wf) (by simp[Lx.WF])
  | cons t r=>simpa [Lx.hd]using this
end
section
open Go.RowKit
open Lx (Tk)
open Tr
section
variable {s:ByteArray} {q:Nat} {w:World} {ts:List Tk} {nest:Int} {av:Value} {sg:List ByteArray}
theorem Ll (h:RR s q w ts nest av sg) (n a:Nat) (hn:0<n) :
  Calls prog 75 #[.pointer (some ⟨q,0,none⟩),.int .i64 (n:Int),.int .i64 (a:Int)] w fun e w'=>e=.returned (.tuple #[])/\Mv q av w w'/\RX s q w' nest n a av sg:=by
 have kq:=h.blk;have c4:w.cell? ⟨q,4,none⟩=some (.int .i64 0):=kq.cell 4;have c5:w.cell? ⟨q,5,none⟩=some (.int .i64 0):=kq.cell 5;have fq:∀ j,w.frozen? ⟨q,j,none⟩=false:=kq.frozen;go_enter func75,ntmps75
 go_wp2
 go_end0
 refine⟨rfl,((Mv.refl _ _ _).set 4 _).set 5 _,⟨⟨_,_,(kq.set 4 _).set 5 _⟩,?_,h.ne,hn⟩⟩;refine aD h.own fun g hg=>?_
 have AQ:g≠q:=fun e=>h.ne (by rw[hg,e])
 rw[hs0 AQ,hs0 AQ]
theorem ajb {n a:Nat} (h:RX s q w nest n a av sg) (n' a':Int) :
  Calls prog 75 #[.pointer (some ⟨q,0,none⟩),.int .i64 n',.int .i64 a'] w fun e w'=>e=.returned (.tuple #[])/\w'=w:=by
 obtain⟨i,W,kq⟩:=h.blk;have c4:w.cell? ⟨q,4,none⟩=some (.int .i64 (n:Int)):=kq.cell 4;have h0:((n:Int) == 0)=false:=beq_eq_false_iff_ne.2 (by have:=h.pos;omega);go_enter func75,ntmps75
 go_wp2
 go_end0
 exact⟨rfl,rfl⟩
theorem iQ (h:RR s q w ts nest av sg) (b:ByteArray) (hb:Lx.known b=true) (hn:b≠aM) :
  Calls prog 150 #[.pointer (some ⟨q,0,none⟩),.string b] w fun e w'=>e=.returned (.bool (decide (Lx.hd ts=b)))/\w'=w:=by
 have kq:=h.blk;have c4:w.cell? ⟨q,4,none⟩=some (.int .i64 0):=kq.cell 4;have c2:w.cell? ⟨q,2,none⟩=some (.string (fJ (Lx.hd ts))):=kq.cell 2;go_enter func150,ntmps150
 go_wp2
 go_ret;refine⟨gM ((Cc _ _).trans ?_),rfl⟩
 by_cases he:Lx.hd ts=b
 ·rw[decide_eq_true he,decide_eq_true ((sJ hb hn).2 he)]
 ·rw[decide_eq_false he,decide_eq_false (fun e=>he ((sJ hb hn).1 e))]
theorem yO {n a:Nat} (h:RX s q w nest n a av sg) (b:ByteArray) :
  Calls prog 150 #[.pointer (some ⟨q,0,none⟩),.string b] w fun e w'=>e=.returned (.bool false)/\w'=w:=by
 obtain⟨i,W,kq⟩:=h.blk;have c4:w.cell? ⟨q,4,none⟩=some (.int .i64 (n:Int)):=kq.cell 4;have h0:((n:Int) == 0)=false:=beq_eq_false_iff_ne.2 (by have:=h.pos;omega);go_enter func150,ntmps150
 go_wp2
 go_ret;exact⟨rfl,rfl⟩
theorem ZO (h:RR s q w ts nest av sg) (b:ByteArray) (hb:Lx.known b=true) (hn:b≠aM) (hd:¬ Lx.hd ts=b) :
  Calls prog 140 #[.pointer (some ⟨q,0,none⟩),.string b] w fun e w'=>e=.returned (.bool false)/\w'=w:=by
 have HD:Hid _:=hd;clear hd;go_enter func140,ntmps140
 go_wp2_with (first
  | (go_at_call 150;refine (iQ h b hb hn).mono ?_;rintro e w' ⟨rfl,hw⟩;obtain rfl:=hw.symm;rw[decide_eq_false HD.out]))
 go_ret;exact⟨rfl,rfl⟩
theorem LK {n a:Nat} (h:RX s q w nest n a av sg) (b:ByteArray) :
  Calls prog 140 #[.pointer (some ⟨q,0,none⟩),.string b] w fun e w'=>e=.returned (.bool false)/\w'=w:=by
 go_enter func140,ntmps140
 go_wp2_with (first
  | (go_at_call 150;refine (yO h b).mono ?_;rintro e w' ⟨rfl,hw⟩;obtain rfl:=hw.symm))
 go_ret;exact⟨rfl,rfl⟩
theorem Zh (h:RR s q w ts nest av sg) (b:ByteArray) (hb:Lx.known b=true) (hn:b≠aM) (hd:Lx.hd ts=b) :
  Calls prog 140 #[.pointer (some ⟨q,0,none⟩),.string b] w fun e w'=>e=.returned (.bool true)/\∃ aJ,Mv q av w w'/\Nx av w aJ/\RR s q w' ts.tail nest aJ (sg++[Lx.hd ts]):=by
 have HD:Hid (Lx.hd ts=b):=hd;clear hd;go_enter func140,ntmps140
 go_wp2_with (first
  | (go_at_call 150;refine (iQ h b hb hn).mono ?_;rintro e w' ⟨rfl,hw⟩;obtain rfl:=hw.symm;rw[decide_eq_true HD.out])
  | (go_at_call 76;refine (oV h (by rw[HD.out];exact hb) (by rw[HD.out];exact hn)).mono ?_;rintro e w' ⟨rfl,aJ,hm,hx,hr⟩))
 go_ret;exact⟨rfl,aJ,hm,hx,hr⟩
end
def bM (s:ByteArray)(q:Nat)(nest:Int){α:Type}(V:Value->World->Value->α->Prop)(VE:Value->Prop)(w:World)(av:Value)(r:aV α)(e:Ending)(w':World):Prop :=
 ∃ v aJ uX,e=.returned v/\Mv q av w w'/\Nx av w aJ /\
  match r with
  | .ok (x,ts')=>RR s q w' ts' nest aJ uX/\V aJ w' v x
  | .error (n,a)=>RX s q w' nest n a aJ uX/\VE v
section
variable {s:ByteArray} {q:Nat} {nest:Int} {α:Type} {V:Value -> World -> Value -> α -> Prop} {VE:Value -> Prop} {w w':World} {av:Value} {r:aV α} {e:Ending}
theorem bM.yes {x:α}{ts':List Tk}{v aJ:Value}{uX:List ByteArray}(hr:r=.ok (x,ts'))(hm:Mv q av w w')(hx:Nx av w aJ)(h1:RR s q w' ts' nest aJ uX)(h2:V aJ w' v x):bM s q nest V VE w av r (.returned v) w':=by
 subst hr;exact⟨v,aJ,uX,rfl,hm,hx,h1,h2⟩
theorem bM.no {n a:Nat}{v aJ:Value}{uX:List ByteArray}(hr:r=.error (n,a))(hm:Mv q av w w')(hx:Nx av w aJ)(h1:RX s q w' nest n a aJ uX)(h2:VE v):bM s q nest V VE w av r (.returned v) w':=by
 subst hr;exact⟨v,aJ,uX,rfl,hm,hx,h1,h2⟩
theorem bM.ok {x:α}{ts':List Tk}(h:bM s q nest V VE w av r e w')(hr:r=.ok (x,ts')):∃ v aJ uX,e=.returned v/\Mv q av w w'/\Nx av w aJ/\RR s q w' ts' nest aJ uX/\V aJ w' v x:=by
 subst hr;exact h
theorem bM.err {n a:Nat}(h:bM s q nest V VE w av r e w')(hr:r=.error (n,a)):∃ v aJ uX,e=.returned v/\Mv q av w w'/\Nx av w aJ/\RX s q w' nest n a aJ uX/\VE v:=by
 subst hr;exact h
end
section
variable {s:ByteArray} {q:Nat} {w:World} {ts:List Tk} {nest:Int} {av:Value} {sg:List ByteArray}
theorem Lm (h:RR s q w ts nest av sg) (b:ByteArray) (hb:Lx.known b=true) (hn:b≠aM) :
  Calls prog 115 #[.pointer (some ⟨q,0,none⟩),.string b] w (bM s q nest (fun _ _ v (_:Unit)=>v=.tuple #[]) (fun v=>v=.tuple #[]) w av (gU b ts)):=by
 by_cases hd:Lx.hd ts=b
 ·have HM:Hid (gU b ts=.ok ((),ts.tail)):=if_pos hd
  have HD:Hid (Lx.hd ts=b):=hd;clear hd;go_enter func115,ntmps115
  go_wp2_with (first
   | (go_at_call 140;refine (Zh h b hb hn HD.out).mono ?_;rintro e w' ⟨rfl,aJ,hm,hx,hr⟩))
  go_end0
  exact bM.yes HM.out hm hx hr rfl
 ·have HM:Hid (gU b ts=.error (2,Lx.pl ts)):=if_neg hd
  have HD:Hid (¬ Lx.hd ts=b):=hd;have c1:w.cell? ⟨q,1,none⟩=some (.int .i64 (Lx.pl ts:Int)):=h.blk.cell 1;clear hd;go_enter func115,ntmps115
  go_wp2_with (first
   | (go_at_call 140;refine (ZO h b hb hn HD.out).mono ?_;rintro e w' ⟨rfl,hw⟩;obtain rfl:=hw.symm)
   | (go_at_call 75;refine (Ll h 2 (Lx.pl ts) (by decide)).mono ?_;rintro e w' ⟨rfl,hm,hx⟩))
  go_end0
  exact bM.no HM.out hm (Nx.refl _ _) hx rfl
theorem Lp {n a:Nat} (h:RX s q w nest n a av sg) (b:ByteArray) :
  Calls prog 115 #[.pointer (some ⟨q,0,none⟩),.string b] w fun e w'=>e=.returned (.tuple #[])/\w'=w:=by
 obtain⟨i,W,kq⟩:=h.blk;have c1:w.cell? ⟨q,1,none⟩=some (.int .i64 (i:Int)):=kq.cell 1;go_enter func115,ntmps115
 go_wp2_with (first
  | (go_at_call 140;refine (LK h b).mono ?_;rintro e w' ⟨rfl,hw⟩;obtain rfl:=hw.symm)
  | (go_at_call 75;refine (ajb h _ _).mono ?_;rintro e w' ⟨rfl,hw⟩;obtain rfl:=hw.symm))
 go_end0
 exact⟨rfl,rfl⟩
theorem Pm (h:RR s q w ts nest av sg) :
  Calls prog 114 #[.pointer (some ⟨q,0,none⟩)] w (bM s q nest (fun _ _ v (b:ByteArray)=>v=.string b) (fun v=>v=.string ⟨#[]⟩) w av (dz Lx.isToken ts)):=by
 have kq:=h.blk;have c1:w.cell? ⟨q,1,none⟩=some (.int .i64 (Lx.pl ts:Int)):=kq.cell 1;have c2:w.cell? ⟨q,2,none⟩=some (.string (fJ (Lx.hd ts))):=kq.cell 2;have c4:w.cell? ⟨q,4,none⟩=some (.int .i64 0):=kq.cell 4;have hsz:=h.SL;cases hd:Lx.isToken (Lx.hd ts)
 ·have HM:Hid (dz Lx.isToken ts=.error (2,Lx.pl ts)):=if_neg (by rw[hd];simp)
  have HD:Hid (Lx.isToken (fJ (Lx.hd ts))=false):=by rw[zX];exact hd
  clear hd;go_enter func114,ntmps114
  go_wp2_with (first
   | (go_at_call 139;refine (zW _ _ hsz).mono ?_;rintro e w' ⟨rfl,hw⟩;obtain rfl:=hw.symm;rw[HD.out])
   | (go_at_call 75;refine (Ll h 2 (Lx.pl ts) (by decide)).mono ?_;rintro e w' ⟨rfl,hm,hx⟩))
  go_ret;exact bM.no HM.out hm (Nx.refl _ _) hx rfl
 ·have HM:Hid (dz Lx.isToken ts=.ok (Lx.hd ts,ts.tail)):=if_pos hd
  have HD:Hid (Lx.isToken (fJ (Lx.hd ts))=true):=by rw[zX];exact hd
  have HK:Hid (Lx.known (Lx.hd ts)=true):=U8 hd;have HN:Hid (Lx.hd ts≠aM):=OQ hd;clear hd;go_enter func114,ntmps114
  go_wp2_with (first
   | (go_at_call 139;refine (zW _ _ hsz).mono ?_;rintro e w' ⟨rfl,hw⟩;obtain rfl:=hw.symm;rw[HD.out])
   | (go_at_call 76;refine (oV h HK.out HN.out).mono ?_;rintro e w' ⟨rfl,aJ,hm,hx,hr⟩))
  go_ret;exact bM.yes HM.out hm hx hr (by rw[nO HK.out];rfl)
end
end
section
open Go.RowKit
open Lx (Tk)
open Tr
def Fp (lo:Nat)(aJ:Value)(w:World):Nat->Prop:=fun b=>lo<=b/\b<w.heap.size/\aJ.ownBlock≠some b
def ajz (d lo:Nat)(aJ:Value)(w':World)(v:Value)(l:List Lx.Alt):Prop:=ay YR d (Fp lo aJ w') w' v l
def Ho (d lo:Nat)(aJ:Value)(w':World)(v:Value)(it:Lx.It):Prop:=∃ va,v=.agg #[.int .i64 (it.kind:Int),.string it.name,.int .u8 (it.mark:Int),va,.int .i64 (it.place:Int)]/\ay YR d (Fp lo aJ w') w' va it.alts
def ajU (d lo:Nat)(aJ:Value)(w':World)(v:Value)(a:Lx.Alt):Prop:=∃ vi,v=.agg #[vi,.string a.2.1,.int .i64 (a.2.2:Int)]/\bJ YR d (Fp lo aJ w') w' vi a.1
def aak (v:Value):Prop:=∃ a k c,v=.slice a k c
def Hy (v:Value):Prop:=∃ k n m a l c p,v=.agg #[.int .i64 k,.string n,.int .u8 m,.slice a l c,.int .i64 p]
def ako (v:Value):Prop:=∃ a l c b p,v=.agg #[.slice a l c,.string b,.int .i64 p]
def KS (d:Nat):Prop:=∀ (s:ByteArray) (q:Nat) (w:World) (ts:List Tk) (nest:Int) (av:Value) (sg:List ByteArray),nest=8 - (d:Int)->RR s q w ts nest av sg ->
 Calls prog 117 #[.pointer (some ⟨q,0,none⟩),.bool (d == 8)] w (bM s q nest (ajz (d+1) w.heap.size) aak w av (iN d ts))
def XJ (d:Nat):Prop:=∀ (s:ByteArray) (q:Nat) (w:World) (ts:List Tk) (nest:Int) (av:Value) (sg:List ByteArray),nest=8 - (d:Int)->RR s q w ts nest av sg->kJ ts=true ->
 Calls prog 151 #[.pointer (some ⟨q,0,none⟩),.bool (Lx.isName (Lx.hd ts)),.bool (Lx.isToken (Lx.hd ts))] w (bM s q nest (Ho d w.heap.size) Hy w av (dh (bE d) ts))
def YC (d:Nat):Prop:=∀ (s:ByteArray) (q:Nat) (w:World) (ts:List Tk) (nest:Int) (av:Value) (sg:List ByteArray),nest=8 - (d:Int)->RR s q w ts nest av sg ->
 Calls prog 141 #[.pointer (some ⟨q,0,none⟩),.bool (d == 8)] w (bM s q nest (ajU d w.heap.size) ako w av (dJ (bE d) (d == 8) ts))
section
variable {s:ByteArray} {q:Nat} {w w':World} {ts:List Tk} {nest:Int} {av aJ:Value} {sg:List ByteArray}
theorem RR.eD (h:RR s q w ts nest av sg):∀ g,av.ownBlock=some g->g<w.heap.size:=fun g hg=>(h.own.lt g hg).2
theorem RX.eD {n a:Nat}(h:RX s q w nest n a av sg):∀ g,av.ownBlock=some g->g<w.heap.size:=fun g hg=>(h.own.lt g hg).2
theorem RX.lt {n a:Nat}(h:RX s q w nest n a av sg):q<w.heap.size:=by obtain⟨i,W,hb⟩:=h.blk;exact hb.lt
theorem RR.alloc (h:RR s q w ts nest av sg)(o:Obj):RR s q (w.alloc o) ts nest av sg:=h.move (Below.heap_alloc _ _ _ h.lt) fun g hg=>Below.heap_alloc _ _ _ (h.eD g hg)
theorem RX.alloc {n a:Nat}(h:RX s q w nest n a av sg)(o:Obj):RX s q (w.alloc o) nest n a av sg:=h.move (Below.heap_alloc _ _ _ h.lt) fun g hg=>Below.heap_alloc _ _ _ (h.eD g hg)
theorem RR.other (h:RR s q w ts nest av sg){b:Nat}(i:Nat)(v:Value)(hq:b≠q)(hb:av.ownBlock≠some b):RR s q (w.setCell ⟨b,i,none⟩ v) ts nest av sg :=
 h.move (hs0 (Ne.symm hq)) fun g hg=>hs0 (fun e=>hb (by rw[hg];exact congrArg some e))
theorem RX.other {n a:Nat}(h:RX s q w nest n a av sg){b:Nat}(i:Nat)(v:Value)(hq:b≠q)(hb:av.ownBlock≠some b):RX s q (w.setCell ⟨b,i,none⟩ v) nest n a av sg :=
 h.move (hs0 (Ne.symm hq)) fun g hg=>hs0 (fun e=>hb (by rw[hg];exact congrArg some e))
theorem RR.Hr (h:RR s q w ts nest av sg)(m:Int):RR s q (w.setCell ⟨q,3,none⟩ (.int .i64 m)) ts m av sg :=
 ⟨h.blk.set 3 _,aD h.own fun g hg=>hs0 (fun e=>h.ne (by rw[hg];exact congrArg some e)),h.ne,h.lex,h.Np,h.ss,h.Mj⟩
theorem RX.Hr {n a:Nat}(h:RX s q w nest n a av sg)(m:Int):RX s q (w.setCell ⟨q,3,none⟩ (.int .i64 m)) m n a av sg:=by
 obtain⟨i,W,hb⟩:=h.blk;exact⟨⟨i,W,hb.set 3 _⟩,aD h.own fun g hg=>hs0 (fun e=>h.ne (by rw[hg];exact congrArg some e)),h.ne,h.pos⟩
theorem RR.fresh (h:RR s q w ts nest av sg){b:Nat}(hb:w.heap.size<=b):av.ownBlock≠some b:=fun e=>by have:=h.eD b e;omega
theorem Nx.keep (h:Nx av w aJ){b:Nat}(hb:b<w.heap.size)(hf:av.ownBlock≠some b):aJ.ownBlock≠some b:=by
 rcases h with h | ⟨g,h,hg⟩
 ·rw[h];exact hf
 ·rw[h];intro e
  have:=Option.some.inj e;omega
end
theorem aj.mv {q:Nat}{av:Value}{w w':World}{b:Nat}{cs:Array Value}{e:Nat}(h:aj w b cs e)(hm:Mv q av w w')(hq:b≠q)(hs:av.ownBlock≠some b):aj w' b cs e :=
 (hm.block b h.lt hq hs).trans h
end
section
open Go.RowKit
open Lx (Tk)
open Tr
theorem O0 {ts:List Tk}(h:Lx.hd ts=jE):bK ts=(42,ts.tail):=if_pos h
theorem O1 {ts:List Tk}(h:Lx.hd ts=kP):bK ts=(43,ts.tail):=by
 unfold bK;rw[if_neg (by rw[h];decide),if_pos h]
theorem Pn {ts:List Tk}(h:Lx.hd ts=mR):bK ts=(63,ts.tail):=by
 unfold bK;rw[if_neg (by rw[h];decide),if_neg (by rw[h];decide),if_pos h]
theorem O3 {ts:List Tk}(h1:¬ Lx.hd ts=jE)(h2:¬ Lx.hd ts=kP)(h3:¬ Lx.hd ts=mR):bK ts=(0,ts):=by
 unfold bK;rw[if_neg h1,if_neg h2,if_neg h3]
theorem agh {d:Nat} (s:ByteArray) (q:Nat) (w:World) (ts:List Tk) (nest:Int) (av:Value) (sg:List ByteArray) (h:RR s q w ts nest av sg) (hno:¬ Lx.hd ts=jr) (hn:Lx.isName (Lx.hd ts)=true) :
  Calls prog 151 #[.pointer (some ⟨q,0,none⟩),.bool true,.bool false] w (bM s q nest (Ho d w.heap.size) Hy w av (dh (bE d) ts)):=by
 have hp:=h.lt;have kq:=h.blk;have c1:w.cell? ⟨q,1,none⟩=some (.int .i64 (Lx.pl ts:Int)):=kq.cell 1;have h2:=(h.alloc (.cells #[.int .i64 0,.string ⟨#[]⟩,.int .u8 0,.slice none 0 0,.int .i64 0] 148)).alloc (.cells #[.int .i64 0,.string (Lx.hd ts),.int .u8 0,.slice none 0 0,.int .i64 (Lx.pl ts:Int)] 148);have kB:=(aj.new w #[.int .i64 0,.string ⟨#[]⟩,.int .u8 0,.slice none 0 0,.int .i64 0] 148).alloc (.cells #[.int .i64 0,.string (Lx.hd ts),.int .u8 0,.slice none 0 0,.int .i64 (Lx.pl ts:Int)] 148);have kC:=aj.new (w.alloc (.cells #[.int .i64 0,.string ⟨#[]⟩,.int .u8 0,.slice none 0 0,.int .i64 0] 148)) #[.int .i64 0,.string (Lx.hd ts),.int .u8 0,.slice none 0 0,.int .i64 (Lx.pl ts:Int)] 148;rw[show (w.alloc (.cells #[.int .i64 0,.string ⟨#[]⟩,.int .u8 0,.slice none 0 0,.int .i64 0] 148)).heap.size=w.heap.size+1 by simp]at kC;have M0:=((Mv.refl q av w).alloc (.cells #[.int .i64 0,.string ⟨#[]⟩,.int .u8 0,.slice none 0 0,.int .i64 0] 148)).alloc (.cells #[.int .i64 0,.string (Lx.hd ts),.int .u8 0,.slice none 0 0,.int .i64 (Lx.pl ts:Int)] 148);have fB:av.ownBlock≠some w.heap.size:=h.fresh (lr0);have fC:av.ownBlock≠some (w.heap.size+1):=h.fresh (by omega);have HK:Hid (Lx.known (Lx.hd ts)=true):=Vr hn;have tu:Hid (Lx.hd ts≠aM):=Xm hn;have c2:w.cell? ⟨q,2,none⟩=some (.string (Lx.hd ts)):=by have:=kq.cell 2;rw[this];simp only[dW];rw[nO HK.out];rfl
 obtain⟨L,hL⟩:∃ L:List Lx.Alt,L=[]:=⟨_,rfl⟩;have Ja:∀ m t,bK ts.tail=(m,t)->dh (bE d) ts=.ok (⟨0,Lx.hd ts,m,L,Lx.pl ts⟩,t):=by
  intro m t e;unfold dh;rw[if_neg hno,if_pos hn];rw[e,hL]
 have pG:Hid _:=Ja;have HL:Hid _:=hL;clear Ja hn hL hno;go_enter func151,ntmps151;go_wp2_with fail;refine (oV h2 HK.out tu.out).mono ?_;rintro e w1 ⟨rfl,sg1,m1,X1,h3⟩;have bg:=X1.keep (b:=w.heap.size) kB.lt fB;have fF:=X1.keep (b:=w.heap.size+1) kC.lt fC;have aR:=kC.mv m1 (by omega) fC;have kB1:=kB.mv m1 (by omega) fB;have M1:=M0.trans (Nx.refl _ _) m1;have X1:=(Nx.refl av w).trans M0.size X1;have hv1:ay YR d (Fp (w.heap.size+2) sg1 w1) w1 (.slice none 0 0) L:=by rw[HL.out];exact ay.nil _ _ _ _
 have HP:=pG.out;clear kC kB h2 M0 m1 pG HL c1 c2 kq;generalize ts.tail=aC at *
 by_cases hm:Lx.hd aC=jE
 ·have lV:Hid _:=HP _ _ (O0 hm)
  have HM:Hid (Lx.hd aC=jE):=hm;have jW:Hid (Lx.known (Lx.hd aC)=true):=by show _=_;rw[hm];decide
  have kY:Hid (Lx.hd aC≠aM):=by show _≠_;rw[hm];decide
  have c2:w1.cell? ⟨q,2,none⟩=some (.string ⟨#[42]⟩):=by
   have:=h3.blk.cell 2;rw[this];simp only[dW];rw[nO jW.out,HM.out];rfl
  have h4:=h3.other (b:=w.heap.size+1) 2 (.int .u8 42) (by omega) fF;have gG:=aR.set 2 (.int .u8 42);have bC:=kB1.other (b':=w.heap.size+1) (i:=2) (by omega) (.int .u8 42);have M4:=M1.new (b:=w.heap.size+1) (by omega) 2 (.int .u8 42);have d2:w1.cell? ⟨w.heap.size+1,2,none⟩=some (.int .u8 0):=aR.cell 2;have rV:∀ i,w1.frozen? ⟨w.heap.size+1,i,none⟩=false:=aR.frozen;have hv4:ay YR d (Fp (w.heap.size+2) sg1 (w1.setCell ⟨w.heap.size+1,2,none⟩ (.int .u8 42))) (w1.setCell ⟨w.heap.size+1,2,none⟩ (.int .u8 42)) (.slice none 0 0) L :=
   ay.move (fun b hb=>hs0 (fun e=>by have e':b=w.heap.size+1:=e;have:=hb.1;omega)) (fun b hb=>⟨hb.1,by simpa [World.setCell]using hb.2.1,hb.2.2⟩) hv1
  clear hm HP hv1;go_wp2_with fail;refine (iQ h3 jE (by decide) (by decide)).mono ?_;rintro e w' ⟨rfl,hw⟩;obtain rfl:=hw.symm;rw[decide_eq_true HM.out];go_wp2_with fail;refine (oV h4 jW.out kY.out).mono ?_;rintro e w5 ⟨rfl,pI,m5,x5,h5⟩;have dm:=x5.keep (b:=w.heap.size) bC.lt bg;have aP:=gG.mv m5 (by omega) fF;have aK:=bC.mv m5 (by omega) bg;have hv5:ay YR d (Fp (w.heap.size+2) pI w5) w5 (.slice none 0 0) L:=ay.move (fun b hb=>m5.block b hb.2.1 (fun e=>by have:=hb.1;omega) hb.2.2) (fun b hb=>⟨hb.1,Nat.lt_of_lt_of_le hb.2.1 m5.size,x5.keep hb.2.1 hb.2.2⟩) hv4;have M5:=M4.trans X1 m5;have X5:=X1.trans M4.size x5;have oh:=aK;have d0:w5.cell? ⟨w.heap.size+1,0,none⟩=some (.int .i64 0):=aP.cell 0;have d1:w5.cell? ⟨w.heap.size+1,1,none⟩=some (.string (Lx.hd ts)):=aP.cell 1;have d2:w5.cell? ⟨w.heap.size+1,2,none⟩=some (.int .u8 42):=aP.cell 2;have d3:w5.cell? ⟨w.heap.size+1,3,none⟩=some (.slice none 0 0):=aP.cell 3;have d4:w5.cell? ⟨w.heap.size+1,4,none⟩=some (.int .i64 (Lx.pl ts:Int)):=aP.cell 4;have e0:w5.cell? ⟨w.heap.size,0,none⟩=some (.int .i64 0):=aK.cell 0;have e1:w5.cell? ⟨w.heap.size,1,none⟩=some (.string ⟨#[]⟩):=aK.cell 1;have e2:w5.cell? ⟨w.heap.size,2,none⟩=some (.int .u8 0):=aK.cell 2;have e3:w5.cell? ⟨w.heap.size,3,none⟩=some (.slice none 0 0):=aK.cell 3;have e4:w5.cell? ⟨w.heap.size,4,none⟩=some (.int .i64 0):=aK.cell 4;have rY:∀ i,w5.frozen? ⟨w.heap.size,i,none⟩=false:=aK.frozen;clear gG bC aR kB1 h4 h3 hv4 c2;go_wp2_with fail;refine bodyPost_ret (v:=.agg #[(.int .i64 0),(.string (Lx.hd ts)),.int .u8 42,(.slice none 0 0),.int .i64 (Lx.pl ts:Int)]) (by simp[results,results151,go_sem,e0,e1,e2,e3,e4]) rfl ?_
  refine bM.yes lV.out (((((M5.new (lr0) _ _).new (lr0) _ _).new (lr0) _ _).new (lr0) _ _).new (lr0) _ _) X5 (((((h5.other _ _ (by omega) dm).other _ _ (by omega) dm).other _ _ (by omega) dm).other _ _ (by omega) dm).other _ _ (by omega) dm) ⟨_,rfl,?_⟩;refine ay.move (fun b hb=>?_) (fun b hb=>⟨by have:=hb.1;omega,by simpa [World.setCell]using hb.2.1,hb.2.2⟩) hv5;have hbb:b≠w.heap.size:=by have:=hb.1;omega
  rw[hs0 hbb,hs0 hbb,hs0 hbb,hs0 hbb,hs0 hbb]
 have n42:Hid (¬ Lx.hd aC=jE):=hm;clear hm
 by_cases hm:Lx.hd aC=kP
 ·have lV:Hid _:=HP _ _ (O1 hm)
  have HM:Hid (Lx.hd aC=kP):=hm;have jW:Hid (Lx.known (Lx.hd aC)=true):=by show _=_;rw[hm];decide
  have kY:Hid (Lx.hd aC≠aM):=by show _≠_;rw[hm];decide
  have c2:w1.cell? ⟨q,2,none⟩=some (.string ⟨#[43]⟩):=by
   have:=h3.blk.cell 2;rw[this];simp only[dW];rw[nO jW.out,HM.out];rfl
  have h4:=h3.other (b:=w.heap.size+1) 2 (.int .u8 43) (by omega) fF;have gG:=aR.set 2 (.int .u8 43);have bC:=kB1.other (b':=w.heap.size+1) (i:=2) (by omega) (.int .u8 43);have M4:=M1.new (b:=w.heap.size+1) (by omega) 2 (.int .u8 43);have d2:w1.cell? ⟨w.heap.size+1,2,none⟩=some (.int .u8 0):=aR.cell 2;have rV:∀ i,w1.frozen? ⟨w.heap.size+1,i,none⟩=false:=aR.frozen;have hv4:ay YR d (Fp (w.heap.size+2) sg1 (w1.setCell ⟨w.heap.size+1,2,none⟩ (.int .u8 43))) (w1.setCell ⟨w.heap.size+1,2,none⟩ (.int .u8 43)) (.slice none 0 0) L :=
   ay.move (fun b hb=>hs0 (fun e=>by have e':b=w.heap.size+1:=e;have:=hb.1;omega)) (fun b hb=>⟨hb.1,by simpa [World.setCell]using hb.2.1,hb.2.2⟩) hv1
  clear hm HP hv1;go_wp2_with fail;refine (iQ h3 jE (by decide) (by decide)).mono ?_;rintro e w' ⟨rfl,hw⟩;obtain rfl:=hw.symm;rw[decide_eq_false (by rw[HM.out];decide)];go_wp2_with fail;refine (iQ h3 kP (by decide) (by decide)).mono ?_;rintro e w' ⟨rfl,hw⟩;obtain rfl:=hw.symm;rw[decide_eq_true HM.out];go_wp2_with fail;refine (oV h4 jW.out kY.out).mono ?_;rintro e w5 ⟨rfl,pI,m5,x5,h5⟩;have dm:=x5.keep (b:=w.heap.size) bC.lt bg;have aP:=gG.mv m5 (by omega) fF;have aK:=bC.mv m5 (by omega) bg;have hv5:ay YR d (Fp (w.heap.size+2) pI w5) w5 (.slice none 0 0) L:=ay.move (fun b hb=>m5.block b hb.2.1 (fun e=>by have:=hb.1;omega) hb.2.2) (fun b hb=>⟨hb.1,Nat.lt_of_lt_of_le hb.2.1 m5.size,x5.keep hb.2.1 hb.2.2⟩) hv4;have M5:=M4.trans X1 m5;have X5:=X1.trans M4.size x5;have oh:=aK;have d0:w5.cell? ⟨w.heap.size+1,0,none⟩=some (.int .i64 0):=aP.cell 0;have d1:w5.cell? ⟨w.heap.size+1,1,none⟩=some (.string (Lx.hd ts)):=aP.cell 1;have d2:w5.cell? ⟨w.heap.size+1,2,none⟩=some (.int .u8 43):=aP.cell 2;have d3:w5.cell? ⟨w.heap.size+1,3,none⟩=some (.slice none 0 0):=aP.cell 3;have d4:w5.cell? ⟨w.heap.size+1,4,none⟩=some (.int .i64 (Lx.pl ts:Int)):=aP.cell 4;have e0:w5.cell? ⟨w.heap.size,0,none⟩=some (.int .i64 0):=aK.cell 0;have e1:w5.cell? ⟨w.heap.size,1,none⟩=some (.string ⟨#[]⟩):=aK.cell 1;have e2:w5.cell? ⟨w.heap.size,2,none⟩=some (.int .u8 0):=aK.cell 2;have e3:w5.cell? ⟨w.heap.size,3,none⟩=some (.slice none 0 0):=aK.cell 3;have e4:w5.cell? ⟨w.heap.size,4,none⟩=some (.int .i64 0):=aK.cell 4;have rY:∀ i,w5.frozen? ⟨w.heap.size,i,none⟩=false:=aK.frozen
  clear gG bC aR kB1 h4 h3 hv4 c2;go_wp2_with fail;refine bodyPost_ret (v:=.agg #[(.int .i64 0),(.string (Lx.hd ts)),.int .u8 43,(.slice none 0 0),.int .i64 (Lx.pl ts:Int)]) (by simp[results,results151,go_sem,e0,e1,e2,e3,e4]) rfl ?_;refine bM.yes lV.out (((((M5.new (lr0) _ _).new (lr0) _ _).new (lr0) _ _).new (lr0) _ _).new (lr0) _ _) X5 (((((h5.other _ _ (by omega) dm).other _ _ (by omega) dm).other _ _ (by omega) dm).other _ _ (by omega) dm).other _ _ (by omega) dm) ⟨_,rfl,?_⟩;refine ay.move (fun b hb=>?_) (fun b hb=>⟨by have:=hb.1;omega,by simpa [World.setCell]using hb.2.1,hb.2.2⟩) hv5;have hbb:b≠w.heap.size:=by have:=hb.1;omega
  rw[hs0 hbb,hs0 hbb,hs0 hbb,hs0 hbb,hs0 hbb]
 have n43:Hid (¬ Lx.hd aC=kP):=hm;clear hm
 by_cases hm:Lx.hd aC=mR
 ·have lV:Hid _:=HP _ _ (Pn hm)
  have HM:Hid (Lx.hd aC=mR):=hm;have jW:Hid (Lx.known (Lx.hd aC)=true):=by show _=_;rw[hm];decide
  have kY:Hid (Lx.hd aC≠aM):=by show _≠_;rw[hm];decide
  have c2:w1.cell? ⟨q,2,none⟩=some (.string ⟨#[63]⟩):=by
   have:=h3.blk.cell 2;rw[this];simp only[dW];rw[nO jW.out,HM.out];rfl
  have h4:=h3.other (b:=w.heap.size+1) 2 (.int .u8 63) (by omega) fF;have gG:=aR.set 2 (.int .u8 63);have bC:=kB1.other (b':=w.heap.size+1) (i:=2) (by omega) (.int .u8 63);have M4:=M1.new (b:=w.heap.size+1) (by omega) 2 (.int .u8 63);have d2:w1.cell? ⟨w.heap.size+1,2,none⟩=some (.int .u8 0):=aR.cell 2;have rV:∀ i,w1.frozen? ⟨w.heap.size+1,i,none⟩=false:=aR.frozen;have hv4:ay YR d (Fp (w.heap.size+2) sg1 (w1.setCell ⟨w.heap.size+1,2,none⟩ (.int .u8 63))) (w1.setCell ⟨w.heap.size+1,2,none⟩ (.int .u8 63)) (.slice none 0 0) L :=
   ay.move (fun b hb=>hs0 (fun e=>by have e':b=w.heap.size+1:=e;have:=hb.1;omega)) (fun b hb=>⟨hb.1,by simpa [World.setCell]using hb.2.1,hb.2.2⟩) hv1
  clear hm HP hv1;go_wp2_with fail;refine (iQ h3 jE (by decide) (by decide)).mono ?_;rintro e w' ⟨rfl,hw⟩;obtain rfl:=hw.symm;rw[decide_eq_false (by rw[HM.out];decide)];go_wp2_with fail;refine (iQ h3 kP (by decide) (by decide)).mono ?_;rintro e w' ⟨rfl,hw⟩;obtain rfl:=hw.symm;rw[decide_eq_false (by rw[HM.out];decide)];go_wp2_with fail;refine (iQ h3 mR (by decide) (by decide)).mono ?_;rintro e w' ⟨rfl,hw⟩;obtain rfl:=hw.symm;rw[decide_eq_true HM.out];go_wp2_with fail;refine (oV h4 jW.out kY.out).mono ?_;rintro e w5 ⟨rfl,pI,m5,x5,h5⟩;have dm:=x5.keep (b:=w.heap.size) bC.lt bg;have aP:=gG.mv m5 (by omega) fF;have aK:=bC.mv m5 (by omega) bg;have hv5:ay YR d (Fp (w.heap.size+2) pI w5) w5 (.slice none 0 0) L:=ay.move (fun b hb=>m5.block b hb.2.1 (fun e=>by have:=hb.1;omega) hb.2.2) (fun b hb=>⟨hb.1,Nat.lt_of_lt_of_le hb.2.1 m5.size,x5.keep hb.2.1 hb.2.2⟩) hv4;have M5:=M4.trans X1 m5;have X5:=X1.trans M4.size x5;have oh:=aK;have d0:w5.cell? ⟨w.heap.size+1,0,none⟩=some (.int .i64 0):=aP.cell 0;have d1:w5.cell? ⟨w.heap.size+1,1,none⟩=some (.string (Lx.hd ts)):=aP.cell 1;have d2:w5.cell? ⟨w.heap.size+1,2,none⟩=some (.int .u8 63):=aP.cell 2;have d3:w5.cell? ⟨w.heap.size+1,3,none⟩=some (.slice none 0 0):=aP.cell 3;have d4:w5.cell? ⟨w.heap.size+1,4,none⟩=some (.int .i64 (Lx.pl ts:Int)):=aP.cell 4;have e0:w5.cell? ⟨w.heap.size,0,none⟩=some (.int .i64 0):=aK.cell 0;have e1:w5.cell? ⟨w.heap.size,1,none⟩=some (.string ⟨#[]⟩):=aK.cell 1;have e2:w5.cell? ⟨w.heap.size,2,none⟩=some (.int .u8 0):=aK.cell 2
  have e3:w5.cell? ⟨w.heap.size,3,none⟩=some (.slice none 0 0):=aK.cell 3;have e4:w5.cell? ⟨w.heap.size,4,none⟩=some (.int .i64 0):=aK.cell 4;have rY:∀ i,w5.frozen? ⟨w.heap.size,i,none⟩=false:=aK.frozen;clear gG bC aR kB1 h4 h3 hv4 c2;go_wp2_with fail;refine bodyPost_ret (v:=.agg #[(.int .i64 0),(.string (Lx.hd ts)),.int .u8 63,(.slice none 0 0),.int .i64 (Lx.pl ts:Int)]) (by simp[results,results151,go_sem,e0,e1,e2,e3,e4]) rfl ?_;refine bM.yes lV.out (((((M5.new (lr0) _ _).new (lr0) _ _).new (lr0) _ _).new (lr0) _ _).new (lr0) _ _) X5 (((((h5.other _ _ (by omega) dm).other _ _ (by omega) dm).other _ _ (by omega) dm).other _ _ (by omega) dm).other _ _ (by omega) dm) ⟨_,rfl,?_⟩;refine ay.move (fun b hb=>?_) (fun b hb=>⟨by have:=hb.1;omega,by simpa [World.setCell]using hb.2.1,hb.2.2⟩) hv5;have hbb:b≠w.heap.size:=by have:=hb.1;omega
  rw[hs0 hbb,hs0 hbb,hs0 hbb,hs0 hbb,hs0 hbb]
 have n63:Hid (¬ Lx.hd aC=mR):=hm;clear hm;have lV:Hid _:=HP _ _ (O3 n42.out n43.out n63.out);clear HP;go_wp2_with fail;refine (iQ h3 jE (by decide) (by decide)).mono ?_;rintro e w' ⟨rfl,hw⟩;obtain rfl:=hw.symm;rw[decide_eq_false n42.out];go_wp2_with fail;refine (iQ h3 kP (by decide) (by decide)).mono ?_;rintro e w' ⟨rfl,hw⟩;obtain rfl:=hw.symm;rw[decide_eq_false n43.out];go_wp2_with fail;refine (iQ h3 mR (by decide) (by decide)).mono ?_;rintro e w' ⟨rfl,hw⟩;obtain rfl:=hw.symm;rw[decide_eq_false n63.out];have aP:=aR;have aK:=kB1;have oh:=aK;have d0:w1.cell? ⟨w.heap.size+1,0,none⟩=some (.int .i64 0):=aP.cell 0;have d1:w1.cell? ⟨w.heap.size+1,1,none⟩=some (.string (Lx.hd ts)):=aP.cell 1;have d2:w1.cell? ⟨w.heap.size+1,2,none⟩=some (.int .u8 0):=aP.cell 2;have d3:w1.cell? ⟨w.heap.size+1,3,none⟩=some (.slice none 0 0):=aP.cell 3;have d4:w1.cell? ⟨w.heap.size+1,4,none⟩=some (.int .i64 (Lx.pl ts:Int)):=aP.cell 4;have e0:w1.cell? ⟨w.heap.size,0,none⟩=some (.int .i64 0):=aK.cell 0;have e1:w1.cell? ⟨w.heap.size,1,none⟩=some (.string ⟨#[]⟩):=aK.cell 1;have e2:w1.cell? ⟨w.heap.size,2,none⟩=some (.int .u8 0):=aK.cell 2;have e3:w1.cell? ⟨w.heap.size,3,none⟩=some (.slice none 0 0):=aK.cell 3;have e4:w1.cell? ⟨w.heap.size,4,none⟩=some (.int .i64 0):=aK.cell 4;have rY:∀ i,w1.frozen? ⟨w.heap.size,i,none⟩=false:=aK.frozen;go_wp2_with fail;refine bodyPost_ret (v:=.agg #[(.int .i64 0),(.string (Lx.hd ts)),.int .u8 0,(.slice none 0 0),.int .i64 (Lx.pl ts:Int)]) (by simp[results,results151,go_sem,e0,e1,e2,e3,e4]) rfl ?_
 refine bM.yes lV.out (((((M1.new (lr0) _ _).new (lr0) _ _).new (lr0) _ _).new (lr0) _ _).new (lr0) _ _) X1 (((((h3.other _ _ (by omega) bg).other _ _ (by omega) bg).other _ _ (by omega) bg).other _ _ (by omega) bg).other _ _ (by omega) bg) ⟨_,rfl,?_⟩;refine ay.move (fun b hb=>?_) (fun b hb=>⟨by have:=hb.1;omega,by simpa [World.setCell]using hb.2.1,hb.2.2⟩) hv1;have hbb:b≠w.heap.size:=by have:=hb.1;omega
 rw[hs0 hbb,hs0 hbb,hs0 hbb,hs0 hbb,hs0 hbb]
theorem afv {d:Nat} (s:ByteArray) (q:Nat) (w:World) (ts:List Tk) (nest:Int) (av:Value) (sg:List ByteArray) (h:RR s q w ts nest av sg) (hno:¬ Lx.hd ts=jr) (hnn:Lx.isName (Lx.hd ts)=false) (hn:Lx.isToken (Lx.hd ts)=true) :
  Calls prog 151 #[.pointer (some ⟨q,0,none⟩),.bool false,.bool true] w (bM s q nest (Ho d w.heap.size) Hy w av (dh (bE d) ts)):=by
 have hp:=h.lt;have kq:=h.blk;have c1:w.cell? ⟨q,1,none⟩=some (.int .i64 (Lx.pl ts:Int)):=kq.cell 1;have h2:=(h.alloc (.cells #[.int .i64 0,.string ⟨#[]⟩,.int .u8 0,.slice none 0 0,.int .i64 0] 148)).alloc (.cells #[.int .i64 1,.string (Lx.hd ts),.int .u8 0,.slice none 0 0,.int .i64 (Lx.pl ts:Int)] 148);have kB:=(aj.new w #[.int .i64 0,.string ⟨#[]⟩,.int .u8 0,.slice none 0 0,.int .i64 0] 148).alloc (.cells #[.int .i64 1,.string (Lx.hd ts),.int .u8 0,.slice none 0 0,.int .i64 (Lx.pl ts:Int)] 148);have kC:=aj.new (w.alloc (.cells #[.int .i64 0,.string ⟨#[]⟩,.int .u8 0,.slice none 0 0,.int .i64 0] 148)) #[.int .i64 1,.string (Lx.hd ts),.int .u8 0,.slice none 0 0,.int .i64 (Lx.pl ts:Int)] 148;rw[show (w.alloc (.cells #[.int .i64 0,.string ⟨#[]⟩,.int .u8 0,.slice none 0 0,.int .i64 0] 148)).heap.size=w.heap.size+1 by simp]at kC;have M0:=((Mv.refl q av w).alloc (.cells #[.int .i64 0,.string ⟨#[]⟩,.int .u8 0,.slice none 0 0,.int .i64 0] 148)).alloc (.cells #[.int .i64 1,.string (Lx.hd ts),.int .u8 0,.slice none 0 0,.int .i64 (Lx.pl ts:Int)] 148);have fB:av.ownBlock≠some w.heap.size:=h.fresh (lr0);have fC:av.ownBlock≠some (w.heap.size+1):=h.fresh (by omega);have HK:Hid (Lx.known (Lx.hd ts)=true):=U8 hn;have tu:Hid (Lx.hd ts≠aM):=OQ hn;have c2:w.cell? ⟨q,2,none⟩=some (.string (Lx.hd ts)):=by have:=kq.cell 2;rw[this];simp only[dW];rw[nO HK.out];rfl
 obtain⟨L,hL⟩:∃ L:List Lx.Alt,L=[]:=⟨_,rfl⟩;have Ja:∀ m t,bK ts.tail=(m,t)->dh (bE d) ts=.ok (⟨1,Lx.hd ts,m,L,Lx.pl ts⟩,t):=by
  intro m t e;unfold dh;rw[if_neg hno,if_neg (by rw[hnn];simp),if_pos hn];rw[e,hL]
 have pG:Hid _:=Ja;have HL:Hid _:=hL;clear Ja hn hL hno hnn;go_enter func151,ntmps151;go_wp2_with fail;refine (oV h2 HK.out tu.out).mono ?_;rintro e w1 ⟨rfl,sg1,m1,X1,h3⟩;have bg:=X1.keep (b:=w.heap.size) kB.lt fB;have fF:=X1.keep (b:=w.heap.size+1) kC.lt fC;have aR:=kC.mv m1 (by omega) fC;have kB1:=kB.mv m1 (by omega) fB;have M1:=M0.trans (Nx.refl _ _) m1;have X1:=(Nx.refl av w).trans M0.size X1;have hv1:ay YR d (Fp (w.heap.size+2) sg1 w1) w1 (.slice none 0 0) L:=by rw[HL.out];exact ay.nil _ _ _ _
 have HP:=pG.out;clear kC kB h2 M0 m1 pG HL c1 c2 kq;generalize ts.tail=aC at *
 by_cases hm:Lx.hd aC=jE
 ·have lV:Hid _:=HP _ _ (O0 hm)
  have HM:Hid (Lx.hd aC=jE):=hm;have jW:Hid (Lx.known (Lx.hd aC)=true):=by show _=_;rw[hm];decide
  have kY:Hid (Lx.hd aC≠aM):=by show _≠_;rw[hm];decide
  have c2:w1.cell? ⟨q,2,none⟩=some (.string ⟨#[42]⟩):=by
   have:=h3.blk.cell 2;rw[this];simp only[dW];rw[nO jW.out,HM.out];rfl
  have h4:=h3.other (b:=w.heap.size+1) 2 (.int .u8 42) (by omega) fF;have gG:=aR.set 2 (.int .u8 42);have bC:=kB1.other (b':=w.heap.size+1) (i:=2) (by omega) (.int .u8 42);have M4:=M1.new (b:=w.heap.size+1) (by omega) 2 (.int .u8 42);have d2:w1.cell? ⟨w.heap.size+1,2,none⟩=some (.int .u8 0):=aR.cell 2;have rV:∀ i,w1.frozen? ⟨w.heap.size+1,i,none⟩=false:=aR.frozen;have hv4:ay YR d (Fp (w.heap.size+2) sg1 (w1.setCell ⟨w.heap.size+1,2,none⟩ (.int .u8 42))) (w1.setCell ⟨w.heap.size+1,2,none⟩ (.int .u8 42)) (.slice none 0 0) L :=
   ay.move (fun b hb=>hs0 (fun e=>by have e':b=w.heap.size+1:=e;have:=hb.1;omega)) (fun b hb=>⟨hb.1,by simpa [World.setCell]using hb.2.1,hb.2.2⟩) hv1
  clear hm HP hv1;go_wp2_with fail;refine (iQ h3 jE (by decide) (by decide)).mono ?_;rintro e w' ⟨rfl,hw⟩;obtain rfl:=hw.symm;rw[decide_eq_true HM.out];go_wp2_with fail;refine (oV h4 jW.out kY.out).mono ?_;rintro e w5 ⟨rfl,pI,m5,x5,h5⟩;have dm:=x5.keep (b:=w.heap.size) bC.lt bg;have aP:=gG.mv m5 (by omega) fF;have aK:=bC.mv m5 (by omega) bg;have hv5:ay YR d (Fp (w.heap.size+2) pI w5) w5 (.slice none 0 0) L:=ay.move (fun b hb=>m5.block b hb.2.1 (fun e=>by have:=hb.1;omega) hb.2.2) (fun b hb=>⟨hb.1,Nat.lt_of_lt_of_le hb.2.1 m5.size,x5.keep hb.2.1 hb.2.2⟩) hv4;have M5:=M4.trans X1 m5;have X5:=X1.trans M4.size x5;have oh:=aK;have d0:w5.cell? ⟨w.heap.size+1,0,none⟩=some (.int .i64 1):=aP.cell 0;have d1:w5.cell? ⟨w.heap.size+1,1,none⟩=some (.string (Lx.hd ts)):=aP.cell 1;have d2:w5.cell? ⟨w.heap.size+1,2,none⟩=some (.int .u8 42):=aP.cell 2;have d3:w5.cell? ⟨w.heap.size+1,3,none⟩=some (.slice none 0 0):=aP.cell 3;have d4:w5.cell? ⟨w.heap.size+1,4,none⟩=some (.int .i64 (Lx.pl ts:Int)):=aP.cell 4;have e0:w5.cell? ⟨w.heap.size,0,none⟩=some (.int .i64 0):=aK.cell 0;have e1:w5.cell? ⟨w.heap.size,1,none⟩=some (.string ⟨#[]⟩):=aK.cell 1;have e2:w5.cell? ⟨w.heap.size,2,none⟩=some (.int .u8 0):=aK.cell 2;have e3:w5.cell? ⟨w.heap.size,3,none⟩=some (.slice none 0 0):=aK.cell 3;have e4:w5.cell? ⟨w.heap.size,4,none⟩=some (.int .i64 0):=aK.cell 4;have rY:∀ i,w5.frozen? ⟨w.heap.size,i,none⟩=false:=aK.frozen;clear gG bC aR kB1 h4 h3 hv4 c2;go_wp2_with fail;refine bodyPost_ret (v:=.agg #[(.int .i64 1),(.string (Lx.hd ts)),.int .u8 42,(.slice none 0 0),.int .i64 (Lx.pl ts:Int)]) (by simp[results,results151,go_sem,e0,e1,e2,e3,e4]) rfl ?_
  refine bM.yes lV.out (((((M5.new (lr0) _ _).new (lr0) _ _).new (lr0) _ _).new (lr0) _ _).new (lr0) _ _) X5 (((((h5.other _ _ (by omega) dm).other _ _ (by omega) dm).other _ _ (by omega) dm).other _ _ (by omega) dm).other _ _ (by omega) dm) ⟨_,rfl,?_⟩;refine ay.move (fun b hb=>?_) (fun b hb=>⟨by have:=hb.1;omega,by simpa [World.setCell]using hb.2.1,hb.2.2⟩) hv5;have hbb:b≠w.heap.size:=by have:=hb.1;omega
  rw[hs0 hbb,hs0 hbb,hs0 hbb,hs0 hbb,hs0 hbb]
 have n42:Hid (¬ Lx.hd aC=jE):=hm;clear hm
 by_cases hm:Lx.hd aC=kP
 ·have lV:Hid _:=HP _ _ (O1 hm)
  have HM:Hid (Lx.hd aC=kP):=hm;have jW:Hid (Lx.known (Lx.hd aC)=true):=by show _=_;rw[hm];decide
  have kY:Hid (Lx.hd aC≠aM):=by show _≠_;rw[hm];decide
  have c2:w1.cell? ⟨q,2,none⟩=some (.string ⟨#[43]⟩):=by
   have:=h3.blk.cell 2;rw[this];simp only[dW];rw[nO jW.out,HM.out];rfl
  have h4:=h3.other (b:=w.heap.size+1) 2 (.int .u8 43) (by omega) fF;have gG:=aR.set 2 (.int .u8 43);have bC:=kB1.other (b':=w.heap.size+1) (i:=2) (by omega) (.int .u8 43);have M4:=M1.new (b:=w.heap.size+1) (by omega) 2 (.int .u8 43);have d2:w1.cell? ⟨w.heap.size+1,2,none⟩=some (.int .u8 0):=aR.cell 2;have rV:∀ i,w1.frozen? ⟨w.heap.size+1,i,none⟩=false:=aR.frozen;have hv4:ay YR d (Fp (w.heap.size+2) sg1 (w1.setCell ⟨w.heap.size+1,2,none⟩ (.int .u8 43))) (w1.setCell ⟨w.heap.size+1,2,none⟩ (.int .u8 43)) (.slice none 0 0) L :=
   ay.move (fun b hb=>hs0 (fun e=>by have e':b=w.heap.size+1:=e;have:=hb.1;omega)) (fun b hb=>⟨hb.1,by simpa [World.setCell]using hb.2.1,hb.2.2⟩) hv1
  clear hm HP hv1;go_wp2_with fail;refine (iQ h3 jE (by decide) (by decide)).mono ?_;rintro e w' ⟨rfl,hw⟩;obtain rfl:=hw.symm;rw[decide_eq_false (by rw[HM.out];decide)];go_wp2_with fail;refine (iQ h3 kP (by decide) (by decide)).mono ?_;rintro e w' ⟨rfl,hw⟩;obtain rfl:=hw.symm;rw[decide_eq_true HM.out];go_wp2_with fail;refine (oV h4 jW.out kY.out).mono ?_;rintro e w5 ⟨rfl,pI,m5,x5,h5⟩;have dm:=x5.keep (b:=w.heap.size) bC.lt bg;have aP:=gG.mv m5 (by omega) fF;have aK:=bC.mv m5 (by omega) bg;have hv5:ay YR d (Fp (w.heap.size+2) pI w5) w5 (.slice none 0 0) L:=ay.move (fun b hb=>m5.block b hb.2.1 (fun e=>by have:=hb.1;omega) hb.2.2) (fun b hb=>⟨hb.1,Nat.lt_of_lt_of_le hb.2.1 m5.size,x5.keep hb.2.1 hb.2.2⟩) hv4;have M5:=M4.trans X1 m5;have X5:=X1.trans M4.size x5;have oh:=aK;have d0:w5.cell? ⟨w.heap.size+1,0,none⟩=some (.int .i64 1):=aP.cell 0;have d1:w5.cell? ⟨w.heap.size+1,1,none⟩=some (.string (Lx.hd ts)):=aP.cell 1;have d2:w5.cell? ⟨w.heap.size+1,2,none⟩=some (.int .u8 43):=aP.cell 2;have d3:w5.cell? ⟨w.heap.size+1,3,none⟩=some (.slice none 0 0):=aP.cell 3;have d4:w5.cell? ⟨w.heap.size+1,4,none⟩=some (.int .i64 (Lx.pl ts:Int)):=aP.cell 4;have e0:w5.cell? ⟨w.heap.size,0,none⟩=some (.int .i64 0):=aK.cell 0;have e1:w5.cell? ⟨w.heap.size,1,none⟩=some (.string ⟨#[]⟩):=aK.cell 1;have e2:w5.cell? ⟨w.heap.size,2,none⟩=some (.int .u8 0):=aK.cell 2;have e3:w5.cell? ⟨w.heap.size,3,none⟩=some (.slice none 0 0):=aK.cell 3;have e4:w5.cell? ⟨w.heap.size,4,none⟩=some (.int .i64 0):=aK.cell 4;have rY:∀ i,w5.frozen? ⟨w.heap.size,i,none⟩=false:=aK.frozen
  clear gG bC aR kB1 h4 h3 hv4 c2;go_wp2_with fail;refine bodyPost_ret (v:=.agg #[(.int .i64 1),(.string (Lx.hd ts)),.int .u8 43,(.slice none 0 0),.int .i64 (Lx.pl ts:Int)]) (by simp[results,results151,go_sem,e0,e1,e2,e3,e4]) rfl ?_;refine bM.yes lV.out (((((M5.new (lr0) _ _).new (lr0) _ _).new (lr0) _ _).new (lr0) _ _).new (lr0) _ _) X5 (((((h5.other _ _ (by omega) dm).other _ _ (by omega) dm).other _ _ (by omega) dm).other _ _ (by omega) dm).other _ _ (by omega) dm) ⟨_,rfl,?_⟩;refine ay.move (fun b hb=>?_) (fun b hb=>⟨by have:=hb.1;omega,by simpa [World.setCell]using hb.2.1,hb.2.2⟩) hv5;have hbb:b≠w.heap.size:=by have:=hb.1;omega
  rw[hs0 hbb,hs0 hbb,hs0 hbb,hs0 hbb,hs0 hbb]
 have n43:Hid (¬ Lx.hd aC=kP):=hm;clear hm
 by_cases hm:Lx.hd aC=mR
 ·have lV:Hid _:=HP _ _ (Pn hm)
  have HM:Hid (Lx.hd aC=mR):=hm;have jW:Hid (Lx.known (Lx.hd aC)=true):=by show _=_;rw[hm];decide
  have kY:Hid (Lx.hd aC≠aM):=by show _≠_;rw[hm];decide
  have c2:w1.cell? ⟨q,2,none⟩=some (.string ⟨#[63]⟩):=by
   have:=h3.blk.cell 2;rw[this];simp only[dW];rw[nO jW.out,HM.out];rfl
  have h4:=h3.other (b:=w.heap.size+1) 2 (.int .u8 63) (by omega) fF;have gG:=aR.set 2 (.int .u8 63);have bC:=kB1.other (b':=w.heap.size+1) (i:=2) (by omega) (.int .u8 63);have M4:=M1.new (b:=w.heap.size+1) (by omega) 2 (.int .u8 63);have d2:w1.cell? ⟨w.heap.size+1,2,none⟩=some (.int .u8 0):=aR.cell 2;have rV:∀ i,w1.frozen? ⟨w.heap.size+1,i,none⟩=false:=aR.frozen;have hv4:ay YR d (Fp (w.heap.size+2) sg1 (w1.setCell ⟨w.heap.size+1,2,none⟩ (.int .u8 63))) (w1.setCell ⟨w.heap.size+1,2,none⟩ (.int .u8 63)) (.slice none 0 0) L :=
   ay.move (fun b hb=>hs0 (fun e=>by have e':b=w.heap.size+1:=e;have:=hb.1;omega)) (fun b hb=>⟨hb.1,by simpa [World.setCell]using hb.2.1,hb.2.2⟩) hv1
  clear hm HP hv1;go_wp2_with fail;refine (iQ h3 jE (by decide) (by decide)).mono ?_;rintro e w' ⟨rfl,hw⟩;obtain rfl:=hw.symm;rw[decide_eq_false (by rw[HM.out];decide)];go_wp2_with fail;refine (iQ h3 kP (by decide) (by decide)).mono ?_;rintro e w' ⟨rfl,hw⟩;obtain rfl:=hw.symm;rw[decide_eq_false (by rw[HM.out];decide)];go_wp2_with fail;refine (iQ h3 mR (by decide) (by decide)).mono ?_;rintro e w' ⟨rfl,hw⟩;obtain rfl:=hw.symm;rw[decide_eq_true HM.out];go_wp2_with fail;refine (oV h4 jW.out kY.out).mono ?_;rintro e w5 ⟨rfl,pI,m5,x5,h5⟩;have dm:=x5.keep (b:=w.heap.size) bC.lt bg;have aP:=gG.mv m5 (by omega) fF;have aK:=bC.mv m5 (by omega) bg;have hv5:ay YR d (Fp (w.heap.size+2) pI w5) w5 (.slice none 0 0) L:=ay.move (fun b hb=>m5.block b hb.2.1 (fun e=>by have:=hb.1;omega) hb.2.2) (fun b hb=>⟨hb.1,Nat.lt_of_lt_of_le hb.2.1 m5.size,x5.keep hb.2.1 hb.2.2⟩) hv4;have M5:=M4.trans X1 m5;have X5:=X1.trans M4.size x5;have oh:=aK;have d0:w5.cell? ⟨w.heap.size+1,0,none⟩=some (.int .i64 1):=aP.cell 0;have d1:w5.cell? ⟨w.heap.size+1,1,none⟩=some (.string (Lx.hd ts)):=aP.cell 1;have d2:w5.cell? ⟨w.heap.size+1,2,none⟩=some (.int .u8 63):=aP.cell 2;have d3:w5.cell? ⟨w.heap.size+1,3,none⟩=some (.slice none 0 0):=aP.cell 3;have d4:w5.cell? ⟨w.heap.size+1,4,none⟩=some (.int .i64 (Lx.pl ts:Int)):=aP.cell 4;have e0:w5.cell? ⟨w.heap.size,0,none⟩=some (.int .i64 0):=aK.cell 0;have e1:w5.cell? ⟨w.heap.size,1,none⟩=some (.string ⟨#[]⟩):=aK.cell 1;have e2:w5.cell? ⟨w.heap.size,2,none⟩=some (.int .u8 0):=aK.cell 2
  have e3:w5.cell? ⟨w.heap.size,3,none⟩=some (.slice none 0 0):=aK.cell 3;have e4:w5.cell? ⟨w.heap.size,4,none⟩=some (.int .i64 0):=aK.cell 4;have rY:∀ i,w5.frozen? ⟨w.heap.size,i,none⟩=false:=aK.frozen;clear gG bC aR kB1 h4 h3 hv4 c2;go_wp2_with fail;refine bodyPost_ret (v:=.agg #[(.int .i64 1),(.string (Lx.hd ts)),.int .u8 63,(.slice none 0 0),.int .i64 (Lx.pl ts:Int)]) (by simp[results,results151,go_sem,e0,e1,e2,e3,e4]) rfl ?_;refine bM.yes lV.out (((((M5.new (lr0) _ _).new (lr0) _ _).new (lr0) _ _).new (lr0) _ _).new (lr0) _ _) X5 (((((h5.other _ _ (by omega) dm).other _ _ (by omega) dm).other _ _ (by omega) dm).other _ _ (by omega) dm).other _ _ (by omega) dm) ⟨_,rfl,?_⟩;refine ay.move (fun b hb=>?_) (fun b hb=>⟨by have:=hb.1;omega,by simpa [World.setCell]using hb.2.1,hb.2.2⟩) hv5;have hbb:b≠w.heap.size:=by have:=hb.1;omega
  rw[hs0 hbb,hs0 hbb,hs0 hbb,hs0 hbb,hs0 hbb]
 have n63:Hid (¬ Lx.hd aC=mR):=hm;clear hm;have lV:Hid _:=HP _ _ (O3 n42.out n43.out n63.out);clear HP;go_wp2_with fail;refine (iQ h3 jE (by decide) (by decide)).mono ?_;rintro e w' ⟨rfl,hw⟩;obtain rfl:=hw.symm;rw[decide_eq_false n42.out];go_wp2_with fail;refine (iQ h3 kP (by decide) (by decide)).mono ?_;rintro e w' ⟨rfl,hw⟩;obtain rfl:=hw.symm;rw[decide_eq_false n43.out];go_wp2_with fail;refine (iQ h3 mR (by decide) (by decide)).mono ?_;rintro e w' ⟨rfl,hw⟩;obtain rfl:=hw.symm;rw[decide_eq_false n63.out];have aP:=aR;have aK:=kB1;have oh:=aK;have d0:w1.cell? ⟨w.heap.size+1,0,none⟩=some (.int .i64 1):=aP.cell 0;have d1:w1.cell? ⟨w.heap.size+1,1,none⟩=some (.string (Lx.hd ts)):=aP.cell 1;have d2:w1.cell? ⟨w.heap.size+1,2,none⟩=some (.int .u8 0):=aP.cell 2;have d3:w1.cell? ⟨w.heap.size+1,3,none⟩=some (.slice none 0 0):=aP.cell 3;have d4:w1.cell? ⟨w.heap.size+1,4,none⟩=some (.int .i64 (Lx.pl ts:Int)):=aP.cell 4;have e0:w1.cell? ⟨w.heap.size,0,none⟩=some (.int .i64 0):=aK.cell 0;have e1:w1.cell? ⟨w.heap.size,1,none⟩=some (.string ⟨#[]⟩):=aK.cell 1;have e2:w1.cell? ⟨w.heap.size,2,none⟩=some (.int .u8 0):=aK.cell 2;have e3:w1.cell? ⟨w.heap.size,3,none⟩=some (.slice none 0 0):=aK.cell 3;have e4:w1.cell? ⟨w.heap.size,4,none⟩=some (.int .i64 0):=aK.cell 4;have rY:∀ i,w1.frozen? ⟨w.heap.size,i,none⟩=false:=aK.frozen;go_wp2_with fail;refine bodyPost_ret (v:=.agg #[(.int .i64 1),(.string (Lx.hd ts)),.int .u8 0,(.slice none 0 0),.int .i64 (Lx.pl ts:Int)]) (by simp[results,results151,go_sem,e0,e1,e2,e3,e4]) rfl ?_
 refine bM.yes lV.out (((((M1.new (lr0) _ _).new (lr0) _ _).new (lr0) _ _).new (lr0) _ _).new (lr0) _ _) X1 (((((h3.other _ _ (by omega) bg).other _ _ (by omega) bg).other _ _ (by omega) bg).other _ _ (by omega) bg).other _ _ (by omega) bg) ⟨_,rfl,?_⟩;refine ay.move (fun b hb=>?_) (fun b hb=>⟨by have:=hb.1;omega,by simpa [World.setCell]using hb.2.1,hb.2.2⟩) hv1;have hbb:b≠w.heap.size:=by have:=hb.1;omega
 rw[hs0 hbb,hs0 hbb,hs0 hbb,hs0 hbb,hs0 hbb]
end
section
open Go.RowKit
open Lx (Tk)
open Tr
theorem aeA (s:ByteArray) (q:Nat) (w:World) (ts:List Tk) (nest:Int) (av:Value) (sg:List ByteArray) (sO:nest=8) (h:RR s q w ts nest av sg) (hn:Lx.hd ts=jr) :
  Calls prog 151 #[.pointer (some ⟨q,0,none⟩),.bool false,.bool false] w (bM s q nest (Ho 0 w.heap.size) Hy w av (dh (bE 0) ts)):=by
 have hp:=h.lt;have kq:=h.blk;have c1:w.cell? ⟨q,1,none⟩=some (.int .i64 (Lx.pl ts:Int)):=kq.cell 1;have h2:=(h.alloc (.cells #[.int .i64 0,.string ⟨#[]⟩,.int .u8 0,.slice none 0 0,.int .i64 0] 148)).alloc (.cells #[.int .i64 2,.string ⟨#[]⟩,.int .u8 0,.slice none 0 0,.int .i64 (Lx.pl ts:Int)] 148);have kB:=(aj.new w #[.int .i64 0,.string ⟨#[]⟩,.int .u8 0,.slice none 0 0,.int .i64 0] 148).alloc (.cells #[.int .i64 2,.string ⟨#[]⟩,.int .u8 0,.slice none 0 0,.int .i64 (Lx.pl ts:Int)] 148);have kC:=aj.new (w.alloc (.cells #[.int .i64 0,.string ⟨#[]⟩,.int .u8 0,.slice none 0 0,.int .i64 0] 148)) #[.int .i64 2,.string ⟨#[]⟩,.int .u8 0,.slice none 0 0,.int .i64 (Lx.pl ts:Int)] 148;rw[show (w.alloc (.cells #[.int .i64 0,.string ⟨#[]⟩,.int .u8 0,.slice none 0 0,.int .i64 0] 148)).heap.size=w.heap.size+1 by simp]at kC;have M0:=((Mv.refl q av w).alloc (.cells #[.int .i64 0,.string ⟨#[]⟩,.int .u8 0,.slice none 0 0,.int .i64 0] 148)).alloc (.cells #[.int .i64 2,.string ⟨#[]⟩,.int .u8 0,.slice none 0 0,.int .i64 (Lx.pl ts:Int)] 148);have fB:av.ownBlock≠some w.heap.size:=h.fresh (lr0);have fC:av.ownBlock≠some (w.heap.size+1):=h.fresh (by omega);have c3:w.cell? ⟨q,3,none⟩=some (.int .i64 nest):=kq.cell 3;have h8:(nest == 8)=true:=beq_iff_eq.2 sO;have HE:Hid (dh (bE 0) ts=.error (3,Lx.pl ts)):=by show _=_;unfold dh;rw[if_pos hn];rfl
 clear hn sO;go_enter func151,ntmps151;go_wp2_with fail;refine (Ll h2 3 (Lx.pl ts) (by decide)).mono ?_;rintro e w1 ⟨rfl,m1,hx⟩;have aP:=kC.mv m1 (by omega) fC;have aK:=kB.mv m1 (by omega) fB;have M1:=M0.trans (Nx.refl _ _) m1;clear kC kB c1 c3 kq;have oh:=aK;have d0:w1.cell? ⟨w.heap.size+1,0,none⟩=some (.int .i64 2):=aP.cell 0;have d1:w1.cell? ⟨w.heap.size+1,1,none⟩=some (.string ⟨#[]⟩):=aP.cell 1;have d2:w1.cell? ⟨w.heap.size+1,2,none⟩=some (.int .u8 0):=aP.cell 2;have d3:w1.cell? ⟨w.heap.size+1,3,none⟩=some (.slice none 0 0):=aP.cell 3;have d4:w1.cell? ⟨w.heap.size+1,4,none⟩=some (.int .i64 (Lx.pl ts:Int)):=aP.cell 4;have e0:w1.cell? ⟨w.heap.size,0,none⟩=some (.int .i64 0):=aK.cell 0;have e1:w1.cell? ⟨w.heap.size,1,none⟩=some (.string ⟨#[]⟩):=aK.cell 1;have e2:w1.cell? ⟨w.heap.size,2,none⟩=some (.int .u8 0):=aK.cell 2;have e3:w1.cell? ⟨w.heap.size,3,none⟩=some (.slice none 0 0):=aK.cell 3;have e4:w1.cell? ⟨w.heap.size,4,none⟩=some (.int .i64 0):=aK.cell 4;have rY:∀ i,w1.frozen? ⟨w.heap.size,i,none⟩=false:=aK.frozen;go_wp2_with fail;refine bodyPost_ret (v:=.agg #[(.int .i64 2),(.string ⟨#[]⟩),.int .u8 0,(.slice none 0 0),.int .i64 (Lx.pl ts:Int)]) (by simp[results,results151,go_sem,e0,e1,e2,e3,e4]) rfl ?_;exact bM.no HE.out (((((M1.new (lr0) _ _).new (lr0) _ _).new (lr0) _ _).new (lr0) _ _).new (lr0) _ _) (Nx.refl _ _) (((((hx.other _ _ (by omega) fB).other _ _ (by omega) fB).other _ _ (by omega) fB).other _ _ (by omega) fB).other _ _ (by omega) fB) ⟨_,_,_,_,_,_,_,rfl⟩
theorem aeB {d':Nat} (hd8:d'<8) (HA:KS d') (s:ByteArray) (q:Nat) (w:World) (ts:List Tk) (nest:Int) (av:Value) (sg:List ByteArray) (sO:nest=8 - ((d'+1:Nat):Int)) (h:RR s q w ts nest av sg) (hn:Lx.hd ts=jr) :
  Calls prog 151 #[.pointer (some ⟨q,0,none⟩),.bool false,.bool false] w (bM s q nest (Ho (d'+1) w.heap.size) Hy w av (dh (bE (d'+1)) ts)):=by
 obtain⟨d,hdd⟩:∃ d,d=d'+1:=⟨_,rfl⟩;have hp:=h.lt;have kq:=h.blk;have c1:w.cell? ⟨q,1,none⟩=some (.int .i64 (Lx.pl ts:Int)):=kq.cell 1;have h2:=(h.alloc (.cells #[.int .i64 0,.string ⟨#[]⟩,.int .u8 0,.slice none 0 0,.int .i64 0] 148)).alloc (.cells #[.int .i64 2,.string ⟨#[]⟩,.int .u8 0,.slice none 0 0,.int .i64 (Lx.pl ts:Int)] 148);have kB:=(aj.new w #[.int .i64 0,.string ⟨#[]⟩,.int .u8 0,.slice none 0 0,.int .i64 0] 148).alloc (.cells #[.int .i64 2,.string ⟨#[]⟩,.int .u8 0,.slice none 0 0,.int .i64 (Lx.pl ts:Int)] 148);have kC:=aj.new (w.alloc (.cells #[.int .i64 0,.string ⟨#[]⟩,.int .u8 0,.slice none 0 0,.int .i64 0] 148)) #[.int .i64 2,.string ⟨#[]⟩,.int .u8 0,.slice none 0 0,.int .i64 (Lx.pl ts:Int)] 148;rw[show (w.alloc (.cells #[.int .i64 0,.string ⟨#[]⟩,.int .u8 0,.slice none 0 0,.int .i64 0] 148)).heap.size=w.heap.size+1 by simp]at kC;have M0:=((Mv.refl q av w).alloc (.cells #[.int .i64 0,.string ⟨#[]⟩,.int .u8 0,.slice none 0 0,.int .i64 0] 148)).alloc (.cells #[.int .i64 2,.string ⟨#[]⟩,.int .u8 0,.slice none 0 0,.int .i64 (Lx.pl ts:Int)] 148);have fB:av.ownBlock≠some w.heap.size:=h.fresh (lr0);have fC:av.ownBlock≠some (w.heap.size+1):=h.fresh (by omega);have c3:w.cell? ⟨q,3,none⟩=some (.int .i64 nest):=kq.cell 3;have fq:∀ j,w.frozen? ⟨q,j,none⟩=false:=kq.frozen;have h8:(nest == 8)=false:=bq0 (by omega);have hb0:0<=nest:=by omega
 have hb1:nest<=8:=by omega
 have HO:Hid (nest+1=8 - (d':Int)):=by show _=_;omega
 have HD8:Hid ((d' == 8)=false):=by show _=_;simp;omega
 have HK:Hid (Lx.known (Lx.hd ts)=true):=by show _=_;rw[hn];decide
 have tu:Hid (Lx.hd ts≠aM):=by show _≠_;rw[hn];decide
 have ko:Hid (dh (bE (d'+1)) ts=(match mK (iN d') ts with
  | .error e=>.error e
  | .ok (alts,aC)=>.ok (⟨2,aM,(bK aC).1,alts,Lx.pl ts⟩,(bK aC).2))):=by show _=_;unfold dh;rw[if_pos hn];rfl
 have hU:(w.setCell ⟨q,3,none⟩ (.int .i64 (nest+1))).heap.size=w.heap.size:=by simp[World.setCell]
 have g2:=((h.Hr (nest+1)).alloc (.cells #[.int .i64 0,.string ⟨#[]⟩,.int .u8 0,.slice none 0 0,.int .i64 0] 148)).alloc (.cells #[.int .i64 2,.string ⟨#[]⟩,.int .u8 0,.slice none 0 0,.int .i64 (Lx.pl ts:Int)] 148);have jB:=(aj.new (w.setCell ⟨q,3,none⟩ (.int .i64 (nest+1))) #[.int .i64 0,.string ⟨#[]⟩,.int .u8 0,.slice none 0 0,.int .i64 0] 148).alloc (.cells #[.int .i64 2,.string ⟨#[]⟩,.int .u8 0,.slice none 0 0,.int .i64 (Lx.pl ts:Int)] 148);have jC:=aj.new ((w.setCell ⟨q,3,none⟩ (.int .i64 (nest+1))).alloc (.cells #[.int .i64 0,.string ⟨#[]⟩,.int .u8 0,.slice none 0 0,.int .i64 0] 148)) #[.int .i64 2,.string ⟨#[]⟩,.int .u8 0,.slice none 0 0,.int .i64 (Lx.pl ts:Int)] 148;rw[show ((w.setCell ⟨q,3,none⟩ (.int .i64 (nest+1))).alloc (.cells #[.int .i64 0,.string ⟨#[]⟩,.int .u8 0,.slice none 0 0,.int .i64 0] 148)).heap.size=w.heap.size+1 by simp[World.setCell]]at jC;rw[hU]at jB;have N0:=(((Mv.refl q av w).set 3 (.int .i64 (nest+1))).alloc (.cells #[.int .i64 0,.string ⟨#[]⟩,.int .u8 0,.slice none 0 0,.int .i64 0] 148)).alloc (.cells #[.int .i64 2,.string ⟨#[]⟩,.int .u8 0,.slice none 0 0,.int .i64 (Lx.pl ts:Int)] 148);clear h2 kB kC M0 hU;clear hn sO;go_enter func151,ntmps151;go_wp2_with fail;refine (oV g2 HK.out tu.out).mono ?_;rintro e w1 ⟨rfl,sg1,m1,x1,h1⟩;have bg:=x1.keep (b:=w.heap.size) jB.lt fB;have fF:=x1.keep (b:=w.heap.size+1) jC.lt fC;have aR:=jC.mv m1 (by omega) fC;have kB1:=jB.mv m1 (by omega) fB;have M1:=N0.trans (Nx.refl _ _) m1;have X1:=(Nx.refl av w).trans N0.size x1
 have uY:=aR.lt;clear jB jC N0 g2 m1 x1 c1 c3 fq kq;go_wp2_with fail;have HA1:=HA s q w1 ts.tail (nest+1) sg1 _ HO.out h1;rw[HD8.out]at HA1;refine HA1.mono ?_;intro e w2 he;clear HA1;cases hr2:iN d' ts.tail with
 | error x =>
  obtain⟨n,a⟩:=x;obtain⟨v,sg2,sl2,rfl,m2,x2,hx2,va,vk,vc,rfl⟩:=he.err hr2;have HE:Hid (dh (bE (d'+1)) ts=.error (n,a)):=by
   show _=_;rw[ko.out];unfold mK;rw[hr2]
  clear hr2 he ko;have lY:=x2.keep (b:=w.heap.size) kB1.lt bg;have tL:=x2.keep (b:=w.heap.size+1) aR.lt fF;have fw:=aR.mv m2 (by omega) fF;have kB2:=kB1.mv m2 (by omega) bg;have M2:=M1.trans X1 m2;have X2:=X1.trans M1.size x2;have d3:w2.cell? ⟨w.heap.size+1,3,none⟩=some (.slice none 0 0):=fw.cell 3;have fz:∀ i,w2.frozen? ⟨w.heap.size+1,i,none⟩=false:=fw.frozen;have hx3:=hx2.other (b:=w.heap.size+1) 3 (.slice va vk vc) (by omega) tL;have bG:=fw.set 3 (.slice va vk vc);have kB3:=kB2.other (b':=w.heap.size+1) (i:=3) (by omega) (.slice va vk vc);have M3:=M2.new (b:=w.heap.size+1) (by omega) 3 (.slice va vk vc);clear fw kB2 aR kB1;go_wp2_with fail;refine (Lp hx3 sM).mono ?_;rintro e w' ⟨rfl,hw⟩;obtain rfl:=hw.symm;obtain⟨ii,WW,jK⟩:=hx3.blk;have c3:(w2.setCell ⟨w.heap.size+1,3,none⟩ (.slice va vk vc)).cell? ⟨q,3,none⟩=some (.int .i64 (nest+1)):=jK.cell 3;have FI:∀ i,(w2.setCell ⟨w.heap.size+1,3,none⟩ (.slice va vk vc)).frozen? ⟨q,i,none⟩=false:=jK.frozen;have hx4:=hx3.Hr nest;have aP:=bG.other (b':=q) (i:=3) (by omega) (.int .i64 nest);have aK:=kB3.other (b':=q) (i:=3) (by omega) (.int .i64 nest);have M4:=M3.set 3 (.int .i64 nest);clear bG kB3 d3 fz hx3 jK;generalize w2.setCell ⟨w.heap.size+1,3,none⟩ (.slice va vk vc)=w3 at *;go_wp2_with fail;generalize w3.setCell ⟨q,3,none⟩ (.int .i64 nest)=w4 at *;refine (yO hx4 jE).mono ?_;rintro e w' ⟨rfl,hw⟩;obtain rfl:=hw.symm;go_wp2_with fail;refine (yO hx4 kP).mono ?_;rintro e w' ⟨rfl,hw⟩;obtain rfl:=hw.symm;go_wp2_with fail;refine (yO hx4 mR).mono ?_
  rintro e w' ⟨rfl,hw⟩;obtain rfl:=hw.symm;have oh:=aK;have d0:w4.cell? ⟨w.heap.size+1,0,none⟩=some (.int .i64 2):=aP.cell 0;have d1:w4.cell? ⟨w.heap.size+1,1,none⟩=some (.string ⟨#[]⟩):=aP.cell 1;have d2:w4.cell? ⟨w.heap.size+1,2,none⟩=some (.int .u8 0):=aP.cell 2;have d3:w4.cell? ⟨w.heap.size+1,3,none⟩=some (.slice va vk vc):=aP.cell 3;have d4:w4.cell? ⟨w.heap.size+1,4,none⟩=some (.int .i64 (Lx.pl ts:Int)):=aP.cell 4;have e0:w4.cell? ⟨w.heap.size,0,none⟩=some (.int .i64 0):=aK.cell 0;have e1:w4.cell? ⟨w.heap.size,1,none⟩=some (.string ⟨#[]⟩):=aK.cell 1;have e2:w4.cell? ⟨w.heap.size,2,none⟩=some (.int .u8 0):=aK.cell 2;have e3:w4.cell? ⟨w.heap.size,3,none⟩=some (.slice none 0 0):=aK.cell 3;have e4:w4.cell? ⟨w.heap.size,4,none⟩=some (.int .i64 0):=aK.cell 4;have rY:∀ i,w4.frozen? ⟨w.heap.size,i,none⟩=false:=aK.frozen;go_wp2_with fail;refine bodyPost_ret (v:=.agg #[(.int .i64 2),(.string ⟨#[]⟩),.int .u8 0,(.slice va vk vc),.int .i64 (Lx.pl ts:Int)]) (by simp[results,results151,go_sem,e0,e1,e2,e3,e4]) rfl ?_;exact bM.no HE.out (((((M4.new (lr0) _ _).new (lr0) _ _).new (lr0) _ _).new (lr0) _ _).new (lr0) _ _) X2 (((((hx4.other _ _ (by omega) lY).other _ _ (by omega) lY).other _ _ (by omega) lY).other _ _ (by omega) lY).other _ _ (by omega) lY) ⟨_,_,_,_,_,_,_,rfl⟩
 | ok x =>
  obtain⟨l,bL⟩:=x;obtain⟨v,sg2,sl2,rfl,m2,x2,h2,hv2⟩:=he.ok hr2;obtain⟨va,vk,vc,rfl⟩:=ay.form hv2;have Mk:Hid (dh (bE (d'+1)) ts=(match gU sM bL with
   | .error e=>.error e
   | .ok (_,aC)=>.ok (⟨2,aM,(bK aC).1,l,Lx.pl ts⟩,(bK aC).2))):=by
   show _=_;rw[ko.out];simp only[mK,hr2];cases hmm:gU sM bL with
   | error e=>simp only
   | ok y=>simp only
  clear hr2 he ko;have lY:=x2.keep (b:=w.heap.size) kB1.lt bg;have tL:=x2.keep (b:=w.heap.size+1) aR.lt fF;have fw:=aR.mv m2 (by omega) fF;have kB2:=kB1.mv m2 (by omega) bg;have M2:=M1.trans X1 m2;have X2:=X1.trans M1.size x2;have d3:w2.cell? ⟨w.heap.size+1,3,none⟩=some (.slice none 0 0):=fw.cell 3;have fz:∀ i,w2.frozen? ⟨w.heap.size+1,i,none⟩=false:=fw.frozen;have h3:=h2.other (b:=w.heap.size+1) 3 (.slice va vk vc) (by omega) tL;have bG:=fw.set 3 (.slice va vk vc);have kB3:=kB2.other (b':=w.heap.size+1) (i:=3) (by omega) (.slice va vk vc);have M3:=M2.new (b:=w.heap.size+1) (by omega) 3 (.slice va vk vc);have hv3:ay YR (d'+1) (Fp (w.heap.size+2) sg2 (w2.setCell ⟨w.heap.size+1,3,none⟩ (.slice va vk vc))) (w2.setCell ⟨w.heap.size+1,3,none⟩ (.slice va vk vc)) (.slice va vk vc) l :=
   ay.move (fun b hb=>hs0 (fun e=>by have e':b=w.heap.size+1:=e;have:=hb.1;omega)) (fun b hb=>⟨by have:=hb.1;omega,by simpa [World.setCell]using hb.2.1,hb.2.2⟩) hv2
  have lC3:=bG.lt;have lB3:=kB3.lt;clear fw kB2 aR kB1 hv2 h2;go_wp2_with fail;generalize w2.setCell ⟨w.heap.size+1,3,none⟩ (.slice va vk vc)=w3 at *;refine (Lm h3 sM (by decide) (by decide)).mono ?_;intro e w4 he;cases hr4:gU sM bL with
  | error x =>
   obtain⟨n,a⟩:=x;obtain⟨v,A9,SQ,rfl,m4,x4,hx4,rfl⟩:=he.err hr4;have HE:Hid (dh (bE (d'+1)) ts=.error (n,a)):=by show _=_;rw[Mk.out,hr4]
   clear hr4 he Mk;have l5:=x4.keep (b:=w.heap.size) lB3 lY;have f4C:=x4.keep (b:=w.heap.size+1) lC3 tL;have gG:=bG.mv m4 (by omega) tL;have bC:=kB3.mv m4 (by omega) lY;have M4:=M3.trans X2 m4;have X4:=X2.trans M3.size x4;obtain⟨ii,WW,mX⟩:=hx4.blk;have c3:w4.cell? ⟨q,3,none⟩=some (.int .i64 (nest+1)):=mX.cell 3;have fq4:∀ i,w4.frozen? ⟨q,i,none⟩=false:=mX.frozen;have hx5:=hx4.Hr nest;have aP:=gG.other (b':=q) (i:=3) (by omega) (.int .i64 nest);have aK:=bC.other (b':=q) (i:=3) (by omega) (.int .i64 nest);have M5:=M4.set 3 (.int .i64 nest);clear gG bC hx4 mX bG kB3 d3 fz;go_wp2_with fail;generalize w4.setCell ⟨q,3,none⟩ (.int .i64 nest)=w5 at *;refine (yO hx5 jE).mono ?_;rintro e w' ⟨rfl,hw⟩;obtain rfl:=hw.symm;go_wp2_with fail;refine (yO hx5 kP).mono ?_;rintro e w' ⟨rfl,hw⟩;obtain rfl:=hw.symm;go_wp2_with fail;refine (yO hx5 mR).mono ?_;rintro e w' ⟨rfl,hw⟩;obtain rfl:=hw.symm;have oh:=aK;have d0:w5.cell? ⟨w.heap.size+1,0,none⟩=some (.int .i64 2):=aP.cell 0;have d1:w5.cell? ⟨w.heap.size+1,1,none⟩=some (.string ⟨#[]⟩):=aP.cell 1;have d2:w5.cell? ⟨w.heap.size+1,2,none⟩=some (.int .u8 0):=aP.cell 2;have d3:w5.cell? ⟨w.heap.size+1,3,none⟩=some (.slice va vk vc):=aP.cell 3;have d4:w5.cell? ⟨w.heap.size+1,4,none⟩=some (.int .i64 (Lx.pl ts:Int)):=aP.cell 4;have e0:w5.cell? ⟨w.heap.size,0,none⟩=some (.int .i64 0):=aK.cell 0;have e1:w5.cell? ⟨w.heap.size,1,none⟩=some (.string ⟨#[]⟩):=aK.cell 1;have e2:w5.cell? ⟨w.heap.size,2,none⟩=some (.int .u8 0):=aK.cell 2;have e3:w5.cell? ⟨w.heap.size,3,none⟩=some (.slice none 0 0):=aK.cell 3
   have e4:w5.cell? ⟨w.heap.size,4,none⟩=some (.int .i64 0):=aK.cell 4;have rY:∀ i,w5.frozen? ⟨w.heap.size,i,none⟩=false:=aK.frozen;go_wp2_with fail;refine bodyPost_ret (v:=.agg #[(.int .i64 2),(.string ⟨#[]⟩),.int .u8 0,(.slice va vk vc),.int .i64 (Lx.pl ts:Int)]) (by simp[results,results151,go_sem,e0,e1,e2,e3,e4]) rfl ?_;exact bM.no HE.out (((((M5.new (lr0) _ _).new (lr0) _ _).new (lr0) _ _).new (lr0) _ _).new (lr0) _ _) X4 (((((hx5.other _ _ (by omega) l5).other _ _ (by omega) l5).other _ _ (by omega) l5).other _ _ (by omega) l5).other _ _ (by omega) l5) ⟨_,_,_,_,_,_,_,rfl⟩
  | ok x =>
   obtain⟨u,fV⟩:=x;obtain⟨v,A9,SQ,rfl,m4,x4,h4,rfl⟩:=he.ok hr4;have pG:Hid (∀ m t,bK fV=(m,t)->dh (bE (d'+1)) ts=.ok (⟨2,aM,m,l,Lx.pl ts⟩,t)):=by
    intro m t e;rw[Mk.out,hr4];simp only;rw[e]
   clear hr4 he Mk;have l5:=x4.keep (b:=w.heap.size) lB3 lY;have f4C:=x4.keep (b:=w.heap.size+1) lC3 tL;have gG:=bG.mv m4 (by omega) tL;have bC:=kB3.mv m4 (by omega) lY;have M4:=M3.trans X2 m4;have X4:=X2.trans M3.size x4;have hv4:ay YR (d'+1) (Fp (w.heap.size+2) A9 w4) w4 (.slice va vk vc) l:=ay.move (fun b hb=>m4.block b hb.2.1 (fun e=>by have:=hb.1;omega) hb.2.2) (fun b hb=>⟨hb.1,Nat.lt_of_lt_of_le hb.2.1 m4.size,x4.keep hb.2.1 hb.2.2⟩) hv3;have c3:w4.cell? ⟨q,3,none⟩=some (.int .i64 (nest+1)):=h4.blk.cell 3;have fq4:∀ i,w4.frozen? ⟨q,i,none⟩=false:=h4.blk.frozen;have h5:=h4.Hr nest;have mG:=gG.other (b':=q) (i:=3) (by omega) (.int .i64 nest);have FD:=bC.other (b':=q) (i:=3) (by omega) (.int .i64 nest);have M5:=M4.set 3 (.int .i64 nest);have hv5:ay YR (d'+1) (Fp (w.heap.size+2) A9 (w4.setCell ⟨q,3,none⟩ (.int .i64 nest))) (w4.setCell ⟨q,3,none⟩ (.int .i64 nest)) (.slice va vk vc) l :=
    ay.move (fun b hb=>hs0 (fun e=>by have e':b=q:=e;have:=hb.1;omega)) (fun b hb=>⟨hb.1,by simpa [World.setCell]using hb.2.1,hb.2.2⟩) hv4
   clear gG bC h4 bG kB3 d3 fz hv4 hv3 h3 m4 x4 m2 x2 M4 M3 M2 M1;go_wp2_with fail;generalize w4.setCell ⟨q,3,none⟩ (.int .i64 nest)=w1 at *;have h3:=h5;have kB1:=FD;have aR:=mG;have M1:=M5;have X1:=X4;have bg:=l5;have fF:=f4C;have hv1:=hv5;have HP:=pG.out;clear h5 FD mG M5 X4 hv5 pG c3 fq4
   by_cases hm:Lx.hd fV=jE
   ·have lV:Hid _:=HP _ _ (O0 hm)
    have HM:Hid (Lx.hd fV=jE):=hm;have jW:Hid (Lx.known (Lx.hd fV)=true):=by show _=_;rw[hm];decide
    have kY:Hid (Lx.hd fV≠aM):=by show _≠_;rw[hm];decide
    have c2:w1.cell? ⟨q,2,none⟩=some (.string ⟨#[42]⟩):=by
     have:=h3.blk.cell 2;rw[this];simp only[dW];rw[nO jW.out,HM.out];rfl
    have h4:=h3.other (b:=w.heap.size+1) 2 (.int .u8 42) (by omega) fF;have gG:=aR.set 2 (.int .u8 42);have bC:=kB1.other (b':=w.heap.size+1) (i:=2) (by omega) (.int .u8 42);have M4:=M1.new (b:=w.heap.size+1) (by omega) 2 (.int .u8 42);have d2:w1.cell? ⟨w.heap.size+1,2,none⟩=some (.int .u8 0):=aR.cell 2;have rV:∀ i,w1.frozen? ⟨w.heap.size+1,i,none⟩=false:=aR.frozen;have hv4:ay YR (d'+1) (Fp (w.heap.size+2) A9 (w1.setCell ⟨w.heap.size+1,2,none⟩ (.int .u8 42))) (w1.setCell ⟨w.heap.size+1,2,none⟩ (.int .u8 42)) (.slice va vk vc) l :=
     ay.move (fun b hb=>hs0 (fun e=>by have e':b=w.heap.size+1:=e;have:=hb.1;omega)) (fun b hb=>⟨hb.1,by simpa [World.setCell]using hb.2.1,hb.2.2⟩) hv1
    clear hm HP hv1;go_wp2_with fail;refine (iQ h3 jE (by decide) (by decide)).mono ?_;rintro e w' ⟨rfl,hw⟩;obtain rfl:=hw.symm;rw[decide_eq_true HM.out];go_wp2_with fail;refine (oV h4 jW.out kY.out).mono ?_;rintro e w5 ⟨rfl,pI,m5,x5,h5⟩;have dm:=x5.keep (b:=w.heap.size) bC.lt bg;have aP:=gG.mv m5 (by omega) fF;have aK:=bC.mv m5 (by omega) bg;have hv5:ay YR (d'+1) (Fp (w.heap.size+2) pI w5) w5 (.slice va vk vc) l:=ay.move (fun b hb=>m5.block b hb.2.1 (fun e=>by have:=hb.1;omega) hb.2.2) (fun b hb=>⟨hb.1,Nat.lt_of_lt_of_le hb.2.1 m5.size,x5.keep hb.2.1 hb.2.2⟩) hv4;have M5:=M4.trans X1 m5;have X5:=X1.trans M4.size x5;have oh:=aK;have d0:w5.cell? ⟨w.heap.size+1,0,none⟩=some (.int .i64 2):=aP.cell 0;have d1:w5.cell? ⟨w.heap.size+1,1,none⟩=some (.string ⟨#[]⟩):=aP.cell 1;have d2:w5.cell? ⟨w.heap.size+1,2,none⟩=some (.int .u8 42):=aP.cell 2;have d3:w5.cell? ⟨w.heap.size+1,3,none⟩=some (.slice va vk vc):=aP.cell 3;have d4:w5.cell? ⟨w.heap.size+1,4,none⟩=some (.int .i64 (Lx.pl ts:Int)):=aP.cell 4;have e0:w5.cell? ⟨w.heap.size,0,none⟩=some (.int .i64 0):=aK.cell 0;have e1:w5.cell? ⟨w.heap.size,1,none⟩=some (.string ⟨#[]⟩):=aK.cell 1;have e2:w5.cell? ⟨w.heap.size,2,none⟩=some (.int .u8 0):=aK.cell 2;have e3:w5.cell? ⟨w.heap.size,3,none⟩=some (.slice none 0 0):=aK.cell 3;have e4:w5.cell? ⟨w.heap.size,4,none⟩=some (.int .i64 0):=aK.cell 4;have rY:∀ i,w5.frozen? ⟨w.heap.size,i,none⟩=false:=aK.frozen;clear gG bC aR kB1 h4 h3 hv4 c2;go_wp2_with fail;refine bodyPost_ret (v:=.agg #[(.int .i64 2),(.string ⟨#[]⟩),.int .u8 42,(.slice va vk vc),.int .i64 (Lx.pl ts:Int)]) (by simp[results,results151,go_sem,e0,e1,e2,e3,e4]) rfl ?_
    refine bM.yes lV.out (((((M5.new (lr0) _ _).new (lr0) _ _).new (lr0) _ _).new (lr0) _ _).new (lr0) _ _) X5 (((((h5.other _ _ (by omega) dm).other _ _ (by omega) dm).other _ _ (by omega) dm).other _ _ (by omega) dm).other _ _ (by omega) dm) ⟨_,rfl,?_⟩;refine ay.move (fun b hb=>?_) (fun b hb=>⟨by have:=hb.1;omega,by simpa [World.setCell]using hb.2.1,hb.2.2⟩) hv5;have hbb:b≠w.heap.size:=by have:=hb.1;omega
    rw[hs0 hbb,hs0 hbb,hs0 hbb,hs0 hbb,hs0 hbb]
   have n42:Hid (¬ Lx.hd fV=jE):=hm;clear hm
   by_cases hm:Lx.hd fV=kP
   ·have lV:Hid _:=HP _ _ (O1 hm)
    have HM:Hid (Lx.hd fV=kP):=hm;have jW:Hid (Lx.known (Lx.hd fV)=true):=by show _=_;rw[hm];decide
    have kY:Hid (Lx.hd fV≠aM):=by show _≠_;rw[hm];decide
    have c2:w1.cell? ⟨q,2,none⟩=some (.string ⟨#[43]⟩):=by
     have:=h3.blk.cell 2;rw[this];simp only[dW];rw[nO jW.out,HM.out];rfl
    have h4:=h3.other (b:=w.heap.size+1) 2 (.int .u8 43) (by omega) fF;have gG:=aR.set 2 (.int .u8 43);have bC:=kB1.other (b':=w.heap.size+1) (i:=2) (by omega) (.int .u8 43);have M4:=M1.new (b:=w.heap.size+1) (by omega) 2 (.int .u8 43);have d2:w1.cell? ⟨w.heap.size+1,2,none⟩=some (.int .u8 0):=aR.cell 2;have rV:∀ i,w1.frozen? ⟨w.heap.size+1,i,none⟩=false:=aR.frozen;have hv4:ay YR (d'+1) (Fp (w.heap.size+2) A9 (w1.setCell ⟨w.heap.size+1,2,none⟩ (.int .u8 43))) (w1.setCell ⟨w.heap.size+1,2,none⟩ (.int .u8 43)) (.slice va vk vc) l :=
     ay.move (fun b hb=>hs0 (fun e=>by have e':b=w.heap.size+1:=e;have:=hb.1;omega)) (fun b hb=>⟨hb.1,by simpa [World.setCell]using hb.2.1,hb.2.2⟩) hv1
    clear hm HP hv1;go_wp2_with fail;refine (iQ h3 jE (by decide) (by decide)).mono ?_;rintro e w' ⟨rfl,hw⟩;obtain rfl:=hw.symm;rw[decide_eq_false (by rw[HM.out];decide)];go_wp2_with fail;refine (iQ h3 kP (by decide) (by decide)).mono ?_;rintro e w' ⟨rfl,hw⟩;obtain rfl:=hw.symm;rw[decide_eq_true HM.out];go_wp2_with fail;refine (oV h4 jW.out kY.out).mono ?_;rintro e w5 ⟨rfl,pI,m5,x5,h5⟩;have dm:=x5.keep (b:=w.heap.size) bC.lt bg;have aP:=gG.mv m5 (by omega) fF;have aK:=bC.mv m5 (by omega) bg;have hv5:ay YR (d'+1) (Fp (w.heap.size+2) pI w5) w5 (.slice va vk vc) l:=ay.move (fun b hb=>m5.block b hb.2.1 (fun e=>by have:=hb.1;omega) hb.2.2) (fun b hb=>⟨hb.1,Nat.lt_of_lt_of_le hb.2.1 m5.size,x5.keep hb.2.1 hb.2.2⟩) hv4;have M5:=M4.trans X1 m5;have X5:=X1.trans M4.size x5;have oh:=aK;have d0:w5.cell? ⟨w.heap.size+1,0,none⟩=some (.int .i64 2):=aP.cell 0;have d1:w5.cell? ⟨w.heap.size+1,1,none⟩=some (.string ⟨#[]⟩):=aP.cell 1;have d2:w5.cell? ⟨w.heap.size+1,2,none⟩=some (.int .u8 43):=aP.cell 2;have d3:w5.cell? ⟨w.heap.size+1,3,none⟩=some (.slice va vk vc):=aP.cell 3;have d4:w5.cell? ⟨w.heap.size+1,4,none⟩=some (.int .i64 (Lx.pl ts:Int)):=aP.cell 4;have e0:w5.cell? ⟨w.heap.size,0,none⟩=some (.int .i64 0):=aK.cell 0;have e1:w5.cell? ⟨w.heap.size,1,none⟩=some (.string ⟨#[]⟩):=aK.cell 1;have e2:w5.cell? ⟨w.heap.size,2,none⟩=some (.int .u8 0):=aK.cell 2;have e3:w5.cell? ⟨w.heap.size,3,none⟩=some (.slice none 0 0):=aK.cell 3;have e4:w5.cell? ⟨w.heap.size,4,none⟩=some (.int .i64 0):=aK.cell 4
    have rY:∀ i,w5.frozen? ⟨w.heap.size,i,none⟩=false:=aK.frozen;clear gG bC aR kB1 h4 h3 hv4 c2;go_wp2_with fail;refine bodyPost_ret (v:=.agg #[(.int .i64 2),(.string ⟨#[]⟩),.int .u8 43,(.slice va vk vc),.int .i64 (Lx.pl ts:Int)]) (by simp[results,results151,go_sem,e0,e1,e2,e3,e4]) rfl ?_;refine bM.yes lV.out (((((M5.new (lr0) _ _).new (lr0) _ _).new (lr0) _ _).new (lr0) _ _).new (lr0) _ _) X5 (((((h5.other _ _ (by omega) dm).other _ _ (by omega) dm).other _ _ (by omega) dm).other _ _ (by omega) dm).other _ _ (by omega) dm) ⟨_,rfl,?_⟩;refine ay.move (fun b hb=>?_) (fun b hb=>⟨by have:=hb.1;omega,by simpa [World.setCell]using hb.2.1,hb.2.2⟩) hv5;have hbb:b≠w.heap.size:=by have:=hb.1;omega
    rw[hs0 hbb,hs0 hbb,hs0 hbb,hs0 hbb,hs0 hbb]
   have n43:Hid (¬ Lx.hd fV=kP):=hm;clear hm
   by_cases hm:Lx.hd fV=mR
   ·have lV:Hid _:=HP _ _ (Pn hm)
    have HM:Hid (Lx.hd fV=mR):=hm;have jW:Hid (Lx.known (Lx.hd fV)=true):=by show _=_;rw[hm];decide
    have kY:Hid (Lx.hd fV≠aM):=by show _≠_;rw[hm];decide
    have c2:w1.cell? ⟨q,2,none⟩=some (.string ⟨#[63]⟩):=by
     have:=h3.blk.cell 2;rw[this];simp only[dW];rw[nO jW.out,HM.out];rfl
    have h4:=h3.other (b:=w.heap.size+1) 2 (.int .u8 63) (by omega) fF;have gG:=aR.set 2 (.int .u8 63);have bC:=kB1.other (b':=w.heap.size+1) (i:=2) (by omega) (.int .u8 63);have M4:=M1.new (b:=w.heap.size+1) (by omega) 2 (.int .u8 63);have d2:w1.cell? ⟨w.heap.size+1,2,none⟩=some (.int .u8 0):=aR.cell 2;have rV:∀ i,w1.frozen? ⟨w.heap.size+1,i,none⟩=false:=aR.frozen;have hv4:ay YR (d'+1) (Fp (w.heap.size+2) A9 (w1.setCell ⟨w.heap.size+1,2,none⟩ (.int .u8 63))) (w1.setCell ⟨w.heap.size+1,2,none⟩ (.int .u8 63)) (.slice va vk vc) l :=
     ay.move (fun b hb=>hs0 (fun e=>by have e':b=w.heap.size+1:=e;have:=hb.1;omega)) (fun b hb=>⟨hb.1,by simpa [World.setCell]using hb.2.1,hb.2.2⟩) hv1
    clear hm HP hv1;go_wp2_with fail;refine (iQ h3 jE (by decide) (by decide)).mono ?_;rintro e w' ⟨rfl,hw⟩;obtain rfl:=hw.symm;rw[decide_eq_false (by rw[HM.out];decide)];go_wp2_with fail;refine (iQ h3 kP (by decide) (by decide)).mono ?_;rintro e w' ⟨rfl,hw⟩;obtain rfl:=hw.symm;rw[decide_eq_false (by rw[HM.out];decide)];go_wp2_with fail;refine (iQ h3 mR (by decide) (by decide)).mono ?_;rintro e w' ⟨rfl,hw⟩;obtain rfl:=hw.symm;rw[decide_eq_true HM.out];go_wp2_with fail;refine (oV h4 jW.out kY.out).mono ?_;rintro e w5 ⟨rfl,pI,m5,x5,h5⟩;have dm:=x5.keep (b:=w.heap.size) bC.lt bg;have aP:=gG.mv m5 (by omega) fF;have aK:=bC.mv m5 (by omega) bg;have hv5:ay YR (d'+1) (Fp (w.heap.size+2) pI w5) w5 (.slice va vk vc) l:=ay.move (fun b hb=>m5.block b hb.2.1 (fun e=>by have:=hb.1;omega) hb.2.2) (fun b hb=>⟨hb.1,Nat.lt_of_lt_of_le hb.2.1 m5.size,x5.keep hb.2.1 hb.2.2⟩) hv4;have M5:=M4.trans X1 m5;have X5:=X1.trans M4.size x5;have oh:=aK;have d0:w5.cell? ⟨w.heap.size+1,0,none⟩=some (.int .i64 2):=aP.cell 0;have d1:w5.cell? ⟨w.heap.size+1,1,none⟩=some (.string ⟨#[]⟩):=aP.cell 1;have d2:w5.cell? ⟨w.heap.size+1,2,none⟩=some (.int .u8 63):=aP.cell 2;have d3:w5.cell? ⟨w.heap.size+1,3,none⟩=some (.slice va vk vc):=aP.cell 3;have d4:w5.cell? ⟨w.heap.size+1,4,none⟩=some (.int .i64 (Lx.pl ts:Int)):=aP.cell 4;have e0:w5.cell? ⟨w.heap.size,0,none⟩=some (.int .i64 0):=aK.cell 0;have e1:w5.cell? ⟨w.heap.size,1,none⟩=some (.string ⟨#[]⟩):=aK.cell 1;have e2:w5.cell? ⟨w.heap.size,2,none⟩=some (.int .u8 0):=aK.cell 2
    have e3:w5.cell? ⟨w.heap.size,3,none⟩=some (.slice none 0 0):=aK.cell 3;have e4:w5.cell? ⟨w.heap.size,4,none⟩=some (.int .i64 0):=aK.cell 4;have rY:∀ i,w5.frozen? ⟨w.heap.size,i,none⟩=false:=aK.frozen;clear gG bC aR kB1 h4 h3 hv4 c2;go_wp2_with fail;refine bodyPost_ret (v:=.agg #[(.int .i64 2),(.string ⟨#[]⟩),.int .u8 63,(.slice va vk vc),.int .i64 (Lx.pl ts:Int)]) (by simp[results,results151,go_sem,e0,e1,e2,e3,e4]) rfl ?_;refine bM.yes lV.out (((((M5.new (lr0) _ _).new (lr0) _ _).new (lr0) _ _).new (lr0) _ _).new (lr0) _ _) X5 (((((h5.other _ _ (by omega) dm).other _ _ (by omega) dm).other _ _ (by omega) dm).other _ _ (by omega) dm).other _ _ (by omega) dm) ⟨_,rfl,?_⟩;refine ay.move (fun b hb=>?_) (fun b hb=>⟨by have:=hb.1;omega,by simpa [World.setCell]using hb.2.1,hb.2.2⟩) hv5;have hbb:b≠w.heap.size:=by have:=hb.1;omega
    rw[hs0 hbb,hs0 hbb,hs0 hbb,hs0 hbb,hs0 hbb]
   have n63:Hid (¬ Lx.hd fV=mR):=hm;clear hm;have lV:Hid _:=HP _ _ (O3 n42.out n43.out n63.out);clear HP;go_wp2_with fail;refine (iQ h3 jE (by decide) (by decide)).mono ?_;rintro e w' ⟨rfl,hw⟩;obtain rfl:=hw.symm;rw[decide_eq_false n42.out];go_wp2_with fail;refine (iQ h3 kP (by decide) (by decide)).mono ?_;rintro e w' ⟨rfl,hw⟩;obtain rfl:=hw.symm;rw[decide_eq_false n43.out];go_wp2_with fail;refine (iQ h3 mR (by decide) (by decide)).mono ?_;rintro e w' ⟨rfl,hw⟩;obtain rfl:=hw.symm;rw[decide_eq_false n63.out];have aP:=aR;have aK:=kB1;have oh:=aK;have d0:w1.cell? ⟨w.heap.size+1,0,none⟩=some (.int .i64 2):=aP.cell 0;have d1:w1.cell? ⟨w.heap.size+1,1,none⟩=some (.string ⟨#[]⟩):=aP.cell 1;have d2:w1.cell? ⟨w.heap.size+1,2,none⟩=some (.int .u8 0):=aP.cell 2;have d3:w1.cell? ⟨w.heap.size+1,3,none⟩=some (.slice va vk vc):=aP.cell 3;have d4:w1.cell? ⟨w.heap.size+1,4,none⟩=some (.int .i64 (Lx.pl ts:Int)):=aP.cell 4;have e0:w1.cell? ⟨w.heap.size,0,none⟩=some (.int .i64 0):=aK.cell 0;have e1:w1.cell? ⟨w.heap.size,1,none⟩=some (.string ⟨#[]⟩):=aK.cell 1;have e2:w1.cell? ⟨w.heap.size,2,none⟩=some (.int .u8 0):=aK.cell 2;have e3:w1.cell? ⟨w.heap.size,3,none⟩=some (.slice none 0 0):=aK.cell 3;have e4:w1.cell? ⟨w.heap.size,4,none⟩=some (.int .i64 0):=aK.cell 4;have rY:∀ i,w1.frozen? ⟨w.heap.size,i,none⟩=false:=aK.frozen;go_wp2_with fail;refine bodyPost_ret (v:=.agg #[(.int .i64 2),(.string ⟨#[]⟩),.int .u8 0,(.slice va vk vc),.int .i64 (Lx.pl ts:Int)]) (by simp[results,results151,go_sem,e0,e1,e2,e3,e4]) rfl ?_
   refine bM.yes lV.out (((((M1.new (lr0) _ _).new (lr0) _ _).new (lr0) _ _).new (lr0) _ _).new (lr0) _ _) X1 (((((h3.other _ _ (by omega) bg).other _ _ (by omega) bg).other _ _ (by omega) bg).other _ _ (by omega) bg).other _ _ (by omega) bg) ⟨_,rfl,?_⟩;refine ay.move (fun b hb=>?_) (fun b hb=>⟨by have:=hb.1;omega,by simpa [World.setCell]using hb.2.1,hb.2.2⟩) hv1;have hbb:b≠w.heap.size:=by have:=hb.1;omega
   rw[hs0 hbb,hs0 hbb,hs0 hbb,hs0 hbb,hs0 hbb]
end
section
open Go.RowKit
open Lx (Tk)
open Tr
theorem XK {d:Nat}(hd:d<=8)(HA:∀ d',d'+1=d->KS d'):XJ d:=by
 intro s q w ts nest av sg sO h uE
 by_cases h1:Lx.hd ts=jr
 ·have e1:Lx.isName (Lx.hd ts)=false:=by rw[h1];decide
  have e2:Lx.isToken (Lx.hd ts)=false:=by rw[h1];decide
  rw[e1,e2];cases d with
  | zero=>exact aeA s q w ts nest av sg (by simpa using sO) h h1
  | succ d=>exact aeB (by omega) (HA d rfl) s q w ts nest av sg sO h h1
 ·cases h2:Lx.isName (Lx.hd ts)
  ·have h3:Lx.isToken (Lx.hd ts)=true:=by
    unfold kJ at uE;rw[decide_eq_false h1,h2]at uE;simpa using uE
   rw[h3];exact afv s q w ts nest av sg h h1 h2 h3
  ·have h3:Lx.isToken (Lx.hd ts)=false:=by
    cases h3:Lx.isToken (Lx.hd ts)
    ·rfl
    ·exfalso
     unfold Lx.isName Lx.isWord at h2;unfold Lx.isToken Lx.isWord at h3;simp only[Bool.and_eq_true]at h2 h3;have a1:=of_decide_eq_true h2.1.2;have a2:=of_decide_eq_true h3.1.2;omega
   rw[h3];exact agh s q w ts nest av sg h h1 h2
section
variable {α:Type} {q B:Nat} {aJ nZ:Value} {w w':World} {e s:Nat} {c:Value × α -> List Value} {K:(Nat -> Prop) -> World -> Value -> α -> Prop} {v:Value} {l:List α}
def jd (B:Nat)(aJ:Value)(w:World)(e s:Nat)(c:Value × α->List Value)(K:(Nat->Prop)->World->Value->α->Prop)(v:Value)(l:List α)(ps:List (Value × α))(F:Nat->Prop):Prop :=
 vD B w e s c K v l ps F/\(∀ b,F b->aJ.ownBlock≠some b)/\∀ g,v.ownBlock=some g->aJ.ownBlock≠some g
def jH (B:Nat)(aJ:Value)(w:World)(e s:Nat)(c:Value × α->List Value)(K:(Nat->Prop)->World->Value->α->Prop)(v:Value)(l:List α):Prop:=∃ ps F,jd B aJ w e s c K v l ps F
theorem jH.nil (B:Nat)(aJ:Value)(w:World)(e s:Nat)(c:Value × α->List Value)(K:(Nat->Prop)->World->Value->α->Prop):jH B aJ w e s c K (.slice none 0 0) []:=by
 obtain⟨ps,F,h⟩:=Grow.nil (α:=α) B w e s c K;exact⟨[],fun _=>False,⟨rfl,World.ownsRow_nil _ _ _ _,fun q h=>by simp at h,fun b h=>h.elim,fun _ _ h=>h⟩,fun b h=>h.elim,fun g h=>by simp[Value.ownBlock]at h⟩
theorem jd.mv {ps:List (Value × α)}{F:Nat->Prop}(hm:jP K)(h:jd B aJ w e s c K v l ps F)(m:Mv q aJ w w')(n:Nx aJ w nZ)(hq:q<B):jd B nZ w' e s c K v l ps F:=by
 obtain⟨⟨h1,h2,h3,h4,h5⟩,h6,h7⟩:=h;have hF:∀ b,F b->w'.heap[b]?=w.heap[b]?:=fun b hb=>m.block b (h4 b hb).2 (fun e=>by have:=(h4 b hb).1;omega) (h6 b hb)
 refine⟨⟨h1,aD h2 fun g hg=>m.block g (h2.lt g hg).2 (fun e=>by have:=(h2.lt g hg).1;omega) (h7 g hg),fun q hq=>hm F F w w' _ _ hF (fun _ h=>h) (h3 q hq),fun b hb=>⟨(h4 b hb).1,Nat.lt_of_lt_of_le (h4 b hb).2 m.size⟩,h5⟩,fun b hb=>n.keep (h4 b hb).2 (h6 b hb),fun g hg=>n.keep (h2.lt g hg).2 (h7 g hg)⟩
theorem jd.kept {ps:List (Value × α)}{F:Nat->Prop}(hm:jP K)(h:jd B aJ w e s c K v l ps F){r:Option Nat}(hg:w.grownBy w' r)(hr:∀ k,r=some k->k<B):jd B aJ w' e s c K v l ps F:=⟨h.1.kept hm hg hr,h.2⟩
theorem jH.kept (hm:jP K)(h:jH B aJ w e s c K v l){r:Option Nat}(hg:w.grownBy w' r)(hr:∀ k,r=some k->k<B):jH B aJ w' e s c K v l :=
 let ⟨ps,F,h'⟩:=h;⟨ps,F,h'.kept hm hg hr⟩
theorem jH.seq (hm:jP K)(h:jH B aJ w e s c K v l):Tr.Seq (Fp B aJ w) w e s c (K (Fp B aJ w) w) v l:=by
 obtain⟨ps,F,⟨h1,h2,h3,h4,h5⟩,h6,h7⟩:=h;exact⟨ps,h1,dO h2 (Nat.zero_le _),fun g hg=>⟨(h2.lt g hg).1,(h2.lt g hg).2,h7 g hg⟩,fun q hq=>hm F _ w w _ _ (fun _ _=>rfl) (fun b hb=>⟨(h4 b hb).1,(h4 b hb).2,h6 b hb⟩) (h3 q hq)⟩
theorem jd.push {ps:List (Value × α)} {F:Nat->Prop} (hm:jP K) (h:jd B aJ w e s c K v l ps F) (hq:q<B) (hB:B<=w.heap.size) {w1 w2 w3:World} (g1:Mv q aJ w w1) (n1:Nx aJ w nZ) (ho1:∀ g,nZ.ownBlock=some g->g<w1.heap.size) (x:Value × α)
  (hx:K (Fp w.heap.size nZ w1) w1 x.1 x.2) (g2:w1.grownBy w2 none) {g cap:Nat} (ho:w3.ownsRow B e s (.slice (some ⟨g,0,none⟩) (l.length+1) cap) (l.length+1) (ps.flatMap c++c x))
  (g3:w2.grownBy w3 v.ownBlock) (ha:v.ownBlock=some g\/g=w2.heap.size):jH B nZ w3 e s c K (.slice (some ⟨g,0,none⟩) (l.length+1) cap) (l++[x.2]):=by
 obtain⟨⟨h1,h2,h3,h4,h5⟩,h6,h7⟩:=h;have s1:=g1.size;have s2:=g2.size;have s3:=g3.size;have e1:∀ b,F b->w3.heap[b]?=w.heap[b]?:=fun b hF=>by
  have hb:=h4 b hF;rw[g3.block b (by omega) (fun e=>h5 b e.symm hF),g2.block b (by omega) (by simp),g1.block b hb.2 (by omega) (h6 b hF)]
 have e2:∀ b,Fp w.heap.size nZ w1 b->w3.heap[b]?=w1.heap[b]?:=fun b hI=>by
  rw[g3.block b (by have:=hI.2.1;omega) (fun e=>by have:=(h2.lt b e.symm).2;have:=hI.1;omega),g2.block b hI.2.1 (by simp)]
 refine⟨ps++[x],fun b=>F b\/Fp w.heap.size nZ w1 b,⟨?_,?_,?_,?_,?_⟩,?_,?_⟩
 ·rw[List.map_append,h1];rfl
 ·rw[List.flatMap_append,List.length_append];simpa using ho
 ·intro q' hq'
  rcases List.mem_append.1 hq' with h' | h'
  ·exact hm F _ w w3 _ _ e1 (fun _ h=>.inl h) (h3 q' h')
  ·simp at h';subst h'
   exact hm _ _ w1 w3 _ _ e2 (fun _ h=>.inr h) hx
 ·intro b hb
  rcases hb with hb | hb
  ·have:=h4 b hb;omega
  ·have:=hb.1;have:=hb.2.1;omega
 ·intro g' hg'
  have:g=g':=by simpa [Value.ownBlock]using hg'
  subst this;rintro (hF | hI)
  ·rcases ha with ha | ha
   ·exact h5 _ ha hF
   ·have:=h4 _ hF;omega
  ·rcases ha with ha | ha
   ·have:=(h2.lt _ ha).2;have:=hI.1;omega
   ·have:=hI.2.1;omega
 ·intro b hb
  rcases hb with hb | hb
  ·exact n1.keep (h4 b hb).2 (h6 b hb)
  ·exact hb.2.2
 ·intro g' hg'
  have:g=g':=by simpa [Value.ownBlock]using hg'
  subst this;rcases ha with ha | ha
  ·exact n1.keep (h2.lt _ ha).2 (h7 _ ha)
  ·intro e';have:=ho1 _ e';omega
end
end
end Go.Proofs.YtlcppnabbicmoaaGreatDoor

import Derived.Test.YtlcppnabbicmoaaGreatDoorME16
import Derived.Test.YtlcppnabbicmoaaGreatDoorME17
import Derived.Test.YtlcppnabbicmoaaGreatDoorME18
import Derived.Test.YtlcppnabbicmoaaGreatDoorME19
import Derived.Test.YtlcppnabbicmoaaGreatDoorME20
import Derived.Test.YtlcppnabbicmoaaGreatDoorME05
set_option maxHeartbeats 8000000
set_option maxRecDepth 1000000
namespace Go.Proofs.YtlcppnabbicmoaaGreatDoor
section
open Go.RowKit
open Lx (Tk)
open Tr
theorem non_of {s:ByteArray}{g:Nat}(h:g<s.size)(hr:Lx.refEnd s g=g):Hid (Lx.digit (s[g].toNat:Int)=false/\Lx.small (s[g].toNat:Int)=false/\Lx.capital (s[g].toNat:Int)=false/\(s[g].toNat:Int)≠37):=by
 obtain⟨h1,h2⟩:=(Lx.refEnd_known h).1 hr;rw[Lx.byteAt_eq s g h]at h1 h2;unfold Lx.wordB at h2;simp only[Bool.or_eq_false_iff]at h2;exact⟨h2.2,h2.1.1,h2.1.2,h1⟩
theorem nextw_all (s:ByteArray) (q j g:Nat) (W:ByteArray) (hW:(W.toList == [])=false) (nest err at_:Int) (sgv:Value) (n:Nat) (xs:List Value) (w:World) (hs:s.size<=2000) (hi:j+W.size<=s.size) (kq:Blk w q (rblk s j W nest err at_ sgv) 89) (hown:w.ownsRow 0 9 1 sgv n xs) (hneq:sgv.ownBlock≠some q) (hn:n<=2001) (hg0:Lx.gapEnd s (j+W.size) false=g) :
  Calls Tryz.prog 76 #[.pointer (some ⟨q,0,none⟩)] w fun e w'=>e=.returned (.tuple #[])/\∃ sgx,St q sgv w sgx (n+1) (xs++[.string W]) w'/\Blk w' q (rblk s g (Lx.refSign s g) nest err at_ sgx) 89:=by
 by_cases hge:g<s.size
 ·by_cases hr:Lx.refEnd s g=g
  ·exact nextw_non s q j g W hW nest err at_ sgv n xs w hs hi kq hown hneq hn hg0 hge (non_of hge hr)
  ·exact nextw_word s q j g W hW nest err at_ sgv n xs w hs hi kq hown hneq hn hg0 hge hr
 ·exact nextw_end s q j g W hW nest err at_ sgv n xs w hs hi kq hown hneq hn hg0 hge
theorem next_all (s:ByteArray) (q i g:Nat) (nest err at_:Int) (sgv:Value) (n:Nat) (xs:List Value) (w:World) (hs:s.size<=2000) (hi:i<=s.size) (kq:Blk w q (rblk s i ⟨#[]⟩ nest err at_ sgv) 89) (hown:w.ownsRow 0 9 1 sgv n xs) (hneq:sgv.ownBlock≠some q) (hg0:Lx.gapEnd s i false=g) :
  Calls Tryz.prog 76 #[.pointer (some ⟨q,0,none⟩)] w fun e w'=>e=.returned (.tuple #[])/\∃ sgx,St q sgv w sgx n xs w'/\Blk w' q (rblk s g (Lx.refSign s g) nest err at_ sgx) 89:=by
 by_cases hge:g<s.size
 ·by_cases hr:Lx.refEnd s g=g
  ·exact next_non s q i g nest err at_ sgv n xs w hs hi kq hown hneq hg0 hge (non_of hge hr)
  ·exact next_word s q i g nest err at_ sgv n xs w hs hi kq hown hneq hg0 hge hr
 ·exact next_end s q i g nest err at_ sgv n xs w hs hi kq hown hneq hg0 hge
end
section
open Go.RowKit
open Lx (Tk)
open Tr
namespace Lx
theorem hd_lexAt {s:ByteArray}{i:Nat}(h:i<s.size):hd (lexAt s i)=s.extract i (signEnd s i):=by rw[lexAt_step h];rfl
theorem pl_lexAt {s:ByteArray}{i:Nat}(h:i<=s.size):pl (lexAt s i)=i:=by
 by_cases hi:i<s.size
 ·rw[lexAt_step hi];rfl
 ·rw[lexAt_done (by omega)];rfl
theorem tail_lexAt {s:ByteArray}{i:Nat}(h:i<s.size):(lexAt s i).tail=lexAt s (nextAt s i):=by rw[lexAt_step h];rfl
theorem refW_known {b:ByteArray}(h:known b=true):refW b=b:=if_pos h
theorem refW_eq {t b:ByteArray}(hb:known b=true)(hn:b≠noText):refW t=b↔t=b:=by
 unfold refW
 split
 ·exact Iff.rfl
 ·rename_i hk
  constructor
  ·intro e;exact absurd e.symm hn
  ·intro e;subst e;exact absurd hb hk
theorem isWord_known {p:Int->Bool}(hp:∀ c,p c=true->wordB c=true){t:ByteArray}(h:isWord p t=true):known t=true:=by
 unfold isWord at h;simp only[Bool.and_eq_true]at h;unfold known;rw[hp _ h.1.2];simp
theorem isName_refW (t:ByteArray):isName (refW t)=isName t:=by
 unfold refW
 split
 ·rfl
 ·rename_i hk
  cases h:isName t
  ·decide
  ·exact absurd (isWord_known (fun c hc=>word_s hc) h) hk
theorem isToken_refW (t:ByteArray):isToken (refW t)=isToken t:=by
 unfold refW
 split
 ·rfl
 ·rename_i hk
  cases h:isToken t
  ·decide
  ·exact absurd (isWord_known (fun c hc=>word_c hc) h) hk
theorem isName_known {t:ByteArray}(h:isName t=true):known t=true:=isWord_known (fun _ hc=>word_s hc) h
theorem isToken_known {t:ByteArray}(h:isToken t=true):known t=true:=isWord_known (fun _ hc=>word_c hc) h
theorem refW_size (t:ByteArray):(refW t).size<=t.size:=by
 unfold refW
 split
 ·exact Nat.le_refl _
 ·exact Nat.zero_le _
end Lx
structure RR (s:ByteArray) (q:Nat) (w:World) (ts:List Tk) (nest:Int) (sgv:Value) (sg:List ByteArray):Prop where
 blk:Blk w q (rblk s (Lx.pl ts) (Lx.refW (Lx.hd ts)) nest 0 0 sgv) 89
 own:w.ownsRow 0 9 1 sgv sg.length (sg.map Value.string)
 ne:sgv.ownBlock≠some q
 lex:ts=Lx.lexAt s (Lx.pl ts)
 ple:Lx.pl ts<=s.size
 ss:s.size<=2000
 hist:sg++ts.map Prod.fst=(Lx.lex s).map Prod.fst
structure RX (s:ByteArray) (q:Nat) (w:World) (nest:Int) (n a:Nat) (sgv:Value) (sg:List ByteArray):Prop where
 blk:∃ i W,Blk w q (rblk s i W nest (n:Int) (a:Int) sgv) 89
 own:w.ownsRow 0 9 1 sgv sg.length (sg.map Value.string)
 ne:sgv.ownBlock≠some q
 pos:0<n
section
variable {s:ByteArray} {q:Nat} {w w':World} {ts:List Tk} {nest:Int} {sgv:Value} {sg:List ByteArray}
theorem RR.wf (h:RR s q w ts nest sgv sg):Lx.WF ts:=by
 rw[h.lex];exact Lx.lexTo_wf s _ _ (Nat.le_refl _)
theorem RR.lt (h:RR s q w ts nest sgv sg):q<w.heap.size:=h.blk.lt
theorem RR.hsz (h:RR s q w ts nest sgv sg):(Lx.hd ts).size<=2000:=by
 by_cases hi:Lx.pl ts<s.size
 ·rw[h.lex,Lx.hd_lexAt hi]
  have:=Lx.signEnd_bd hi;rw[ByteArray.size_extract];have:=h.ss;omega
 ·rw[h.lex,Lx.lexAt_done (by omega)];exact Nat.zero_le _
theorem RR.wsz (h:RR s q w ts nest sgv sg):(Lx.refW (Lx.hd ts)).size<=2000:=Nat.le_trans (Lx.refW_size _) h.hsz
theorem RR.cnt (h:RR s q w ts nest sgv sg):sg.length+ts.length<=2001:=by
 have:=congrArg List.length h.hist;simp only[List.length_append,List.length_map]at this;have h2:=Lx.lexAt_len s (Lx.gapEnd s 0 false);have h3:=h.ss;unfold Lx.lex at this;omega
theorem RR.move (h:RR s q w ts nest sgv sg)(hq:w'.heap[q]?=w.heap[q]?)(hs:∀ g,sgv.ownBlock=some g->w'.heap[g]?=w.heap[g]?):RR s q w' ts nest sgv sg :=
 ⟨hq.trans h.blk,own_move h.own hs,h.ne,h.lex,h.ple,h.ss,h.hist⟩
theorem RX.move {n a:Nat}(h:RX s q w nest n a sgv sg)(hq:w'.heap[q]?=w.heap[q]?)(hs:∀ g,sgv.ownBlock=some g->w'.heap[g]?=w.heap[g]?):RX s q w' nest n a sgv sg:=by
 obtain⟨i,W,hb⟩:=h.blk;exact⟨⟨i,W,hq.trans hb⟩,own_move h.own hs,h.ne,h.pos⟩
end
theorem next_rr {s:ByteArray} {q:Nat} {w:World} {ts:List Tk} {nest:Int} {sgv:Value} {sg:List ByteArray} (h:RR s q w ts nest sgv sg) (hk:Lx.known (Lx.hd ts)=true) (hn:Lx.hd ts≠Lx.noText) :
  Calls Tryz.prog 76 #[.pointer (some ⟨q,0,none⟩)] w fun e w'=>e=.returned (.tuple #[])/\∃ sgx,Mv q sgv w w'/\Nx sgv w sgx/\RR s q w' ts.tail nest sgx (sg++[Lx.hd ts]):=by
 have hp:Lx.pl ts<s.size:=by
  rcases Nat.lt_or_ge (Lx.pl ts) s.size with h1 | h1
  ·exact h1
  ·have:=h.lex;rw[Lx.lexAt_done h1]at this;exact absurd (by rw[this];rfl) hn
 have hse:=Lx.signEnd_bd hp;have hhd:Lx.hd ts=s.extract (Lx.pl ts) (Lx.signEnd s (Lx.pl ts)):=by rw[h.lex];rw[Lx.pl_lexAt h.ple,Lx.hd_lexAt hp]
 have hws:Lx.pl ts+(Lx.hd ts).size=Lx.signEnd s (Lx.pl ts):=by rw[hhd,ByteArray.size_extract];omega
 have kq:=h.blk;rw[Lx.refW_known hk]at kq;have hcnt:=h.cnt;refine (nextw_all s q (Lx.pl ts) (Lx.nextAt s (Lx.pl ts)) (Lx.hd ts) (text_no (l:=[]) hn) nest 0 0 sgv sg.length _ w h.ss (by omega) kq h.own h.ne (by omega) (by rw[hws];rfl)).mono ?_;rintro e w' ⟨rfl,sgx,st,kq'⟩;have hnb:=Lx.nextAt_bd hp;have htl:ts.tail=Lx.lexAt s (Lx.nextAt s (Lx.pl ts)):=by
  have e1:ts.tail=(Lx.lexAt s (Lx.pl ts)).tail:=by rw[<-h.lex]
  rw[e1,Lx.tail_lexAt hp]
 have hpt:Lx.pl ts.tail=Lx.nextAt s (Lx.pl ts):=by rw[htl,Lx.pl_lexAt hnb.2]
 refine⟨rfl,sgx,st.mv,st.nx,⟨?_,?_,st.ne,?_,by rw[hpt];exact hnb.2,h.ss,?_⟩⟩
 ·rw[hpt,htl,<-Lx.refSign_eq hnb.2];exact kq'
 ·have:=st.own;simpa using this
 ·rw[hpt];exact htl
 ·have:=h.hist
  cases ts with
  | nil=>exact absurd (h.wf) (by simp[Lx.WF])
  | cons t r=>simpa [Lx.hd]using this
end
section
open Go.RowKit
open Lx (Tk)
open Tr
section
variable {s:ByteArray} {q:Nat} {w:World} {ts:List Tk} {nest:Int} {sgv:Value} {sg:List ByteArray}
theorem fail_rr (h:RR s q w ts nest sgv sg) (n a:Nat) (hn:0<n) :
  Calls Tryz.prog 75 #[.pointer (some ⟨q,0,none⟩),.int .i64 (n:Int),.int .i64 (a:Int)] w fun e w'=>e=.returned (.tuple #[])/\Mv q sgv w w'/\RX s q w' nest n a sgv sg:=by
 have kq:=h.blk;have c4:w.cell? ⟨q,4,none⟩=some (.int .i64 0):=kq.cell 4;have c5:w.cell? ⟨q,5,none⟩=some (.int .i64 0):=kq.cell 5;have fq:∀ j,w.frozen? ⟨q,j,none⟩=false:=kq.frozen;go_enter Tryz.func75,Tryz.ntmps75
 go_wp2
 go_end0
 refine⟨rfl,((Mv.refl _ _ _).set 4 _).set 5 _,⟨⟨_,_,(kq.set 4 _).set 5 _⟩,?_,h.ne,hn⟩⟩;refine own_move h.own fun g hg=>?_
 have hgq:g≠q:=fun e=>h.ne (by rw[hg,e])
 rw[Below.heap_setCell _ _ _ _ hgq,Below.heap_setCell _ _ _ _ hgq]
theorem fail_rx {n a:Nat} (h:RX s q w nest n a sgv sg) (n' a':Int) :
  Calls Tryz.prog 75 #[.pointer (some ⟨q,0,none⟩),.int .i64 n',.int .i64 a'] w fun e w'=>e=.returned (.tuple #[])/\w'=w:=by
 obtain⟨i,W,kq⟩:=h.blk;have c4:w.cell? ⟨q,4,none⟩=some (.int .i64 (n:Int)):=kq.cell 4;have h0:((n:Int) == 0)=false:=beq_eq_false_iff_ne.2 (by have:=h.pos;omega);go_enter Tryz.func75,Tryz.ntmps75
 go_wp2
 go_end0
 exact⟨rfl,rfl⟩
theorem is_rr (h:RR s q w ts nest sgv sg) (b:ByteArray) (hb:Lx.known b=true) (hn:b≠Lx.noText) :
  Calls Tryz.prog 150 #[.pointer (some ⟨q,0,none⟩),.string b] w fun e w'=>e=.returned (.bool (decide (Lx.hd ts=b)))/\w'=w:=by
 have kq:=h.blk;have c4:w.cell? ⟨q,4,none⟩=some (.int .i64 0):=kq.cell 4;have c2:w.cell? ⟨q,2,none⟩=some (.string (Lx.refW (Lx.hd ts))):=kq.cell 2;go_enter Tryz.func150,Tryz.ntmps150
 go_wp2
 go_ret;refine⟨ret_bool ((text_eq _ _).trans ?_),rfl⟩
 by_cases he:Lx.hd ts=b
 ·rw[decide_eq_true he,decide_eq_true ((Lx.refW_eq hb hn).2 he)]
 ·rw[decide_eq_false he,decide_eq_false (fun e=>he ((Lx.refW_eq hb hn).1 e))]
theorem is_rx {n a:Nat} (h:RX s q w nest n a sgv sg) (b:ByteArray) :
  Calls Tryz.prog 150 #[.pointer (some ⟨q,0,none⟩),.string b] w fun e w'=>e=.returned (.bool false)/\w'=w:=by
 obtain⟨i,W,kq⟩:=h.blk;have c4:w.cell? ⟨q,4,none⟩=some (.int .i64 (n:Int)):=kq.cell 4;have h0:((n:Int) == 0)=false:=beq_eq_false_iff_ne.2 (by have:=h.pos;omega);go_enter Tryz.func150,Tryz.ntmps150
 go_wp2
 go_ret;exact⟨rfl,rfl⟩
theorem has_no (h:RR s q w ts nest sgv sg) (b:ByteArray) (hb:Lx.known b=true) (hn:b≠Lx.noText) (hd:¬ Lx.hd ts=b) :
  Calls Tryz.prog 140 #[.pointer (some ⟨q,0,none⟩),.string b] w fun e w'=>e=.returned (.bool false)/\w'=w:=by
 have HD:Hid _:=hd;clear hd;go_enter Tryz.func140,Tryz.ntmps140
 go_wp2_with (first
  | (go_at_call 150;refine (is_rr h b hb hn).mono ?_;rintro e w' ⟨rfl,hw⟩;obtain rfl:=hw.symm;rw[decide_eq_false HD.out]))
 go_ret;exact⟨rfl,rfl⟩
theorem has_rx {n a:Nat} (h:RX s q w nest n a sgv sg) (b:ByteArray) :
  Calls Tryz.prog 140 #[.pointer (some ⟨q,0,none⟩),.string b] w fun e w'=>e=.returned (.bool false)/\w'=w:=by
 go_enter Tryz.func140,Tryz.ntmps140
 go_wp2_with (first
  | (go_at_call 150;refine (is_rx h b).mono ?_;rintro e w' ⟨rfl,hw⟩;obtain rfl:=hw.symm))
 go_ret;exact⟨rfl,rfl⟩
theorem has_yes (h:RR s q w ts nest sgv sg) (b:ByteArray) (hb:Lx.known b=true) (hn:b≠Lx.noText) (hd:Lx.hd ts=b) :
  Calls Tryz.prog 140 #[.pointer (some ⟨q,0,none⟩),.string b] w fun e w'=>e=.returned (.bool true)/\∃ sgx,Mv q sgv w w'/\Nx sgv w sgx/\RR s q w' ts.tail nest sgx (sg++[Lx.hd ts]):=by
 have HD:Hid (Lx.hd ts=b):=hd;clear hd;go_enter Tryz.func140,Tryz.ntmps140
 go_wp2_with (first
  | (go_at_call 150;refine (is_rr h b hb hn).mono ?_;rintro e w' ⟨rfl,hw⟩;obtain rfl:=hw.symm;rw[decide_eq_true HD.out])
  | (go_at_call 76;refine (next_rr h (by rw[HD.out];exact hb) (by rw[HD.out];exact hn)).mono ?_;rintro e w' ⟨rfl,sgx,hm,hx,hr⟩))
 go_ret;exact⟨rfl,sgx,hm,hx,hr⟩
end
def REnds (s:ByteArray)(q:Nat)(nest:Int){α:Type}(V:Value->World->Value->α->Prop)(VE:Value->Prop)(w:World)(sgv:Value)(r:Lx.Res α)(e:Ending)(w':World):Prop :=
 ∃ v sgx sg',e=.returned v/\Mv q sgv w w'/\Nx sgv w sgx /\
  match r with
  | .ok (x,ts')=>RR s q w' ts' nest sgx sg'/\V sgx w' v x
  | .error (n,a)=>RX s q w' nest n a sgx sg'/\VE v
section
variable {s:ByteArray} {q:Nat} {nest:Int} {α:Type} {V:Value -> World -> Value -> α -> Prop} {VE:Value -> Prop} {w w':World} {sgv:Value} {r:Lx.Res α} {e:Ending}
theorem REnds.yes {x:α}{ts':List Tk}{v sgx:Value}{sg':List ByteArray}(hr:r=.ok (x,ts'))(hm:Mv q sgv w w')(hx:Nx sgv w sgx)(h1:RR s q w' ts' nest sgx sg')(h2:V sgx w' v x):REnds s q nest V VE w sgv r (.returned v) w':=by
 subst hr;exact⟨v,sgx,sg',rfl,hm,hx,h1,h2⟩
theorem REnds.no {n a:Nat}{v sgx:Value}{sg':List ByteArray}(hr:r=.error (n,a))(hm:Mv q sgv w w')(hx:Nx sgv w sgx)(h1:RX s q w' nest n a sgx sg')(h2:VE v):REnds s q nest V VE w sgv r (.returned v) w':=by
 subst hr;exact⟨v,sgx,sg',rfl,hm,hx,h1,h2⟩
theorem REnds.ok {x:α}{ts':List Tk}(h:REnds s q nest V VE w sgv r e w')(hr:r=.ok (x,ts')):∃ v sgx sg',e=.returned v/\Mv q sgv w w'/\Nx sgv w sgx/\RR s q w' ts' nest sgx sg'/\V sgx w' v x:=by
 subst hr;exact h
theorem REnds.err {n a:Nat}(h:REnds s q nest V VE w sgv r e w')(hr:r=.error (n,a)):∃ v sgx sg',e=.returned v/\Mv q sgv w w'/\Nx sgv w sgx/\RX s q w' nest n a sgx sg'/\VE v:=by
 subst hr;exact h
end
section
variable {s:ByteArray} {q:Nat} {w:World} {ts:List Tk} {nest:Int} {sgv:Value} {sg:List ByteArray}
theorem must_rr (h:RR s q w ts nest sgv sg) (b:ByteArray) (hb:Lx.known b=true) (hn:b≠Lx.noText) :
  Calls Tryz.prog 115 #[.pointer (some ⟨q,0,none⟩),.string b] w (REnds s q nest (fun _ _ v (_:Unit)=>v=.tuple #[]) (fun v=>v=.tuple #[]) w sgv (Lx.pMust b ts)):=by
 by_cases hd:Lx.hd ts=b
 ·have HM:Hid (Lx.pMust b ts=.ok ((),ts.tail)):=if_pos hd
  have HD:Hid (Lx.hd ts=b):=hd;clear hd;go_enter Tryz.func115,Tryz.ntmps115
  go_wp2_with (first
   | (go_at_call 140;refine (has_yes h b hb hn HD.out).mono ?_;rintro e w' ⟨rfl,sgx,hm,hx,hr⟩))
  go_end0
  exact REnds.yes HM.out hm hx hr rfl
 ·have HM:Hid (Lx.pMust b ts=.error (2,Lx.pl ts)):=if_neg hd
  have HD:Hid (¬ Lx.hd ts=b):=hd;have c1:w.cell? ⟨q,1,none⟩=some (.int .i64 (Lx.pl ts:Int)):=h.blk.cell 1;clear hd;go_enter Tryz.func115,Tryz.ntmps115
  go_wp2_with (first
   | (go_at_call 140;refine (has_no h b hb hn HD.out).mono ?_;rintro e w' ⟨rfl,hw⟩;obtain rfl:=hw.symm)
   | (go_at_call 75;refine (fail_rr h 2 (Lx.pl ts) (by decide)).mono ?_;rintro e w' ⟨rfl,hm,hx⟩))
  go_end0
  exact REnds.no HM.out hm (Nx.refl _ _) hx rfl
theorem must_rx {n a:Nat} (h:RX s q w nest n a sgv sg) (b:ByteArray) :
  Calls Tryz.prog 115 #[.pointer (some ⟨q,0,none⟩),.string b] w fun e w'=>e=.returned (.tuple #[])/\w'=w:=by
 obtain⟨i,W,kq⟩:=h.blk;have c1:w.cell? ⟨q,1,none⟩=some (.int .i64 (i:Int)):=kq.cell 1;go_enter Tryz.func115,Tryz.ntmps115
 go_wp2_with (first
  | (go_at_call 140;refine (has_rx h b).mono ?_;rintro e w' ⟨rfl,hw⟩;obtain rfl:=hw.symm)
  | (go_at_call 75;refine (fail_rx h _ _).mono ?_;rintro e w' ⟨rfl,hw⟩;obtain rfl:=hw.symm))
 go_end0
 exact⟨rfl,rfl⟩
theorem rtoken_rr (h:RR s q w ts nest sgv sg) :
  Calls Tryz.prog 114 #[.pointer (some ⟨q,0,none⟩)] w (REnds s q nest (fun _ _ v (b:ByteArray)=>v=.string b) (fun v=>v=.string ⟨#[]⟩) w sgv (Lx.pWord Lx.isToken ts)):=by
 have kq:=h.blk;have c1:w.cell? ⟨q,1,none⟩=some (.int .i64 (Lx.pl ts:Int)):=kq.cell 1;have c2:w.cell? ⟨q,2,none⟩=some (.string (Lx.refW (Lx.hd ts))):=kq.cell 2;have c4:w.cell? ⟨q,4,none⟩=some (.int .i64 0):=kq.cell 4;have hsz:=h.wsz;cases hd:Lx.isToken (Lx.hd ts)
 ·have HM:Hid (Lx.pWord Lx.isToken ts=.error (2,Lx.pl ts)):=if_neg (by rw[hd];simp)
  have HD:Hid (Lx.isToken (Lx.refW (Lx.hd ts))=false):=by rw[Lx.isToken_refW];exact hd
  clear hd;go_enter Tryz.func114,Tryz.ntmps114
  go_wp2_with (first
   | (go_at_call 139;refine (rIsToken_any _ _ hsz).mono ?_;rintro e w' ⟨rfl,hw⟩;obtain rfl:=hw.symm;rw[HD.out])
   | (go_at_call 75;refine (fail_rr h 2 (Lx.pl ts) (by decide)).mono ?_;rintro e w' ⟨rfl,hm,hx⟩))
  go_ret;exact REnds.no HM.out hm (Nx.refl _ _) hx rfl
 ·have HM:Hid (Lx.pWord Lx.isToken ts=.ok (Lx.hd ts,ts.tail)):=if_pos hd
  have HD:Hid (Lx.isToken (Lx.refW (Lx.hd ts))=true):=by rw[Lx.isToken_refW];exact hd
  have HK:Hid (Lx.known (Lx.hd ts)=true):=Lx.isToken_known hd;have HN:Hid (Lx.hd ts≠Lx.noText):=isToken_ne hd;clear hd;go_enter Tryz.func114,Tryz.ntmps114
  go_wp2_with (first
   | (go_at_call 139;refine (rIsToken_any _ _ hsz).mono ?_;rintro e w' ⟨rfl,hw⟩;obtain rfl:=hw.symm;rw[HD.out])
   | (go_at_call 76;refine (next_rr h HK.out HN.out).mono ?_;rintro e w' ⟨rfl,sgx,hm,hx,hr⟩))
  go_ret;exact REnds.yes HM.out hm hx hr (by rw[Lx.refW_known HK.out];rfl)
end
end
section
open Go.RowKit
open Lx (Tk)
open Tr
def Fp (lo:Nat)(sgx:Value)(w:World):Nat->Prop:=fun b=>lo<=b/\b<w.heap.size/\sgx.ownBlock≠some b
def RVAlts (d lo:Nat)(sgx:Value)(w':World)(v:Value)(l:List Lx.Alt):Prop:=AltsIn YR d (Fp lo sgx w') w' v l
def RVItem (d lo:Nat)(sgx:Value)(w':World)(v:Value)(it:Lx.It):Prop:=∃ va,v=.agg #[.int .i64 (it.kind:Int),.string it.name,.int .u8 (it.mark:Int),va,.int .i64 (it.place:Int)]/\AltsIn YR d (Fp lo sgx w') w' va it.alts
def RVAlt (d lo:Nat)(sgx:Value)(w':World)(v:Value)(a:Lx.Alt):Prop:=∃ vi,v=.agg #[vi,.string a.2.1,.int .i64 (a.2.2:Int)]/\ItemsIn YR d (Fp lo sgx w') w' vi a.1
def XAlts (v:Value):Prop:=∃ a k c,v=.slice a k c
def XItem (v:Value):Prop:=∃ k n m a l c p,v=.agg #[.int .i64 k,.string n,.int .u8 m,.slice a l c,.int .i64 p]
def XAlt (v:Value):Prop:=∃ a l c b p,v=.agg #[.slice a l c,.string b,.int .i64 p]
def RAltsSaid (d:Nat):Prop:=∀ (s:ByteArray) (q:Nat) (w:World) (ts:List Tk) (nest:Int) (sgv:Value) (sg:List ByteArray),nest=8 - (d:Int)->RR s q w ts nest sgv sg ->
 Calls Tryz.prog 117 #[.pointer (some ⟨q,0,none⟩),.bool (d == 8)] w (REnds s q nest (RVAlts (d+1) w.heap.size) XAlts w sgv (Lx.pAlts d ts))
def RItemSaid (d:Nat):Prop:=∀ (s:ByteArray) (q:Nat) (w:World) (ts:List Tk) (nest:Int) (sgv:Value) (sg:List ByteArray),nest=8 - (d:Int)->RR s q w ts nest sgv sg->Lx.seesItem ts=true ->
 Calls Tryz.prog 151 #[.pointer (some ⟨q,0,none⟩),.bool (Lx.isName (Lx.hd ts)),.bool (Lx.isToken (Lx.hd ts))] w (REnds s q nest (RVItem d w.heap.size) XItem w sgv (Lx.pItem (Lx.pGroupAt d) ts))
def RAltSaid (d:Nat):Prop:=∀ (s:ByteArray) (q:Nat) (w:World) (ts:List Tk) (nest:Int) (sgv:Value) (sg:List ByteArray),nest=8 - (d:Int)->RR s q w ts nest sgv sg ->
 Calls Tryz.prog 141 #[.pointer (some ⟨q,0,none⟩),.bool (d == 8)] w (REnds s q nest (RVAlt d w.heap.size) XAlt w sgv (Lx.pAlt (Lx.pGroupAt d) (d == 8) ts))
section
variable {s:ByteArray} {q:Nat} {w w':World} {ts:List Tk} {nest:Int} {sgv sgx:Value} {sg:List ByteArray}
theorem RR.owl (h:RR s q w ts nest sgv sg):∀ g,sgv.ownBlock=some g->g<w.heap.size:=fun g hg=>(h.own.lt g hg).2
theorem RX.owl {n a:Nat}(h:RX s q w nest n a sgv sg):∀ g,sgv.ownBlock=some g->g<w.heap.size:=fun g hg=>(h.own.lt g hg).2
theorem RX.lt {n a:Nat}(h:RX s q w nest n a sgv sg):q<w.heap.size:=by obtain⟨i,W,hb⟩:=h.blk;exact hb.lt
theorem RR.alloc (h:RR s q w ts nest sgv sg)(o:Obj):RR s q (w.alloc o) ts nest sgv sg:=h.move (Below.heap_alloc _ _ _ h.lt) fun g hg=>Below.heap_alloc _ _ _ (h.owl g hg)
theorem RX.alloc {n a:Nat}(h:RX s q w nest n a sgv sg)(o:Obj):RX s q (w.alloc o) nest n a sgv sg:=h.move (Below.heap_alloc _ _ _ h.lt) fun g hg=>Below.heap_alloc _ _ _ (h.owl g hg)
theorem RR.other (h:RR s q w ts nest sgv sg){b:Nat}(i:Nat)(v:Value)(hq:b≠q)(hb:sgv.ownBlock≠some b):RR s q (w.setCell ⟨b,i,none⟩ v) ts nest sgv sg :=
 h.move (Below.heap_setCell _ _ _ _ (Ne.symm hq)) fun g hg=>Below.heap_setCell _ _ _ _ (fun e=>hb (by rw[hg];exact congrArg some e))
theorem RX.other {n a:Nat}(h:RX s q w nest n a sgv sg){b:Nat}(i:Nat)(v:Value)(hq:b≠q)(hb:sgv.ownBlock≠some b):RX s q (w.setCell ⟨b,i,none⟩ v) nest n a sgv sg :=
 h.move (Below.heap_setCell _ _ _ _ (Ne.symm hq)) fun g hg=>Below.heap_setCell _ _ _ _ (fun e=>hb (by rw[hg];exact congrArg some e))
theorem RR.renest (h:RR s q w ts nest sgv sg)(m:Int):RR s q (w.setCell ⟨q,3,none⟩ (.int .i64 m)) ts m sgv sg :=
 ⟨h.blk.set 3 _,own_move h.own fun g hg=>Below.heap_setCell _ _ _ _ (fun e=>h.ne (by rw[hg];exact congrArg some e)),h.ne,h.lex,h.ple,h.ss,h.hist⟩
theorem RX.renest {n a:Nat}(h:RX s q w nest n a sgv sg)(m:Int):RX s q (w.setCell ⟨q,3,none⟩ (.int .i64 m)) m n a sgv sg:=by
 obtain⟨i,W,hb⟩:=h.blk;exact⟨⟨i,W,hb.set 3 _⟩,own_move h.own fun g hg=>Below.heap_setCell _ _ _ _ (fun e=>h.ne (by rw[hg];exact congrArg some e)),h.ne,h.pos⟩
theorem RR.fresh (h:RR s q w ts nest sgv sg){b:Nat}(hb:w.heap.size<=b):sgv.ownBlock≠some b:=fun e=>by have:=h.owl b e;omega
theorem Nx.keep (h:Nx sgv w sgx){b:Nat}(hb:b<w.heap.size)(hf:sgv.ownBlock≠some b):sgx.ownBlock≠some b:=by
 rcases h with h | ⟨g,h,hg⟩
 ·rw[h];exact hf
 ·rw[h];intro e
  have:=Option.some.inj e;omega
end
theorem Blk.mv {q:Nat}{sgv:Value}{w w':World}{b:Nat}{cs:Array Value}{e:Nat}(h:Blk w b cs e)(hm:Mv q sgv w w')(hq:b≠q)(hs:sgv.ownBlock≠some b):Blk w' b cs e :=
 (hm.block b h.lt hq hs).trans h
end
section
open Go.RowKit
open Lx (Tk)
open Tr
theorem pMark_star {ts:List Tk}(h:Lx.hd ts=Lx.tStar):Lx.pMark ts=(42,ts.tail):=if_pos h
theorem pMark_plus {ts:List Tk}(h:Lx.hd ts=Lx.tPlus):Lx.pMark ts=(43,ts.tail):=by
 unfold Lx.pMark;rw[if_neg (by rw[h];decide),if_pos h]
theorem pMark_ask {ts:List Tk}(h:Lx.hd ts=Lx.tAsk):Lx.pMark ts=(63,ts.tail):=by
 unfold Lx.pMark;rw[if_neg (by rw[h];decide),if_neg (by rw[h];decide),if_pos h]
theorem pMark_none {ts:List Tk}(h1:¬ Lx.hd ts=Lx.tStar)(h2:¬ Lx.hd ts=Lx.tPlus)(h3:¬ Lx.hd ts=Lx.tAsk):Lx.pMark ts=(0,ts):=by
 unfold Lx.pMark;rw[if_neg h1,if_neg h2,if_neg h3]
theorem ritem_name {d:Nat} (s:ByteArray) (q:Nat) (w:World) (ts:List Tk) (nest:Int) (sgv:Value) (sg:List ByteArray) (h:RR s q w ts nest sgv sg) (hno:¬ Lx.hd ts=Lx.tOpen) (hn:Lx.isName (Lx.hd ts)=true) :
  Calls Tryz.prog 151 #[.pointer (some ⟨q,0,none⟩),.bool true,.bool false] w (REnds s q nest (RVItem d w.heap.size) XItem w sgv (Lx.pItem (Lx.pGroupAt d) ts)):=by
 have hp:=h.lt;have kq:=h.blk;have c1:w.cell? ⟨q,1,none⟩=some (.int .i64 (Lx.pl ts:Int)):=kq.cell 1;have h2:=(h.alloc (.cells #[.int .i64 0,.string ⟨#[]⟩,.int .u8 0,.slice none 0 0,.int .i64 0] 148)).alloc (.cells #[.int .i64 0,.string (Lx.hd ts),.int .u8 0,.slice none 0 0,.int .i64 (Lx.pl ts:Int)] 148);have kB:=(Blk.new w #[.int .i64 0,.string ⟨#[]⟩,.int .u8 0,.slice none 0 0,.int .i64 0] 148).alloc (.cells #[.int .i64 0,.string (Lx.hd ts),.int .u8 0,.slice none 0 0,.int .i64 (Lx.pl ts:Int)] 148);have kC:=Blk.new (w.alloc (.cells #[.int .i64 0,.string ⟨#[]⟩,.int .u8 0,.slice none 0 0,.int .i64 0] 148)) #[.int .i64 0,.string (Lx.hd ts),.int .u8 0,.slice none 0 0,.int .i64 (Lx.pl ts:Int)] 148;rw[show (w.alloc (.cells #[.int .i64 0,.string ⟨#[]⟩,.int .u8 0,.slice none 0 0,.int .i64 0] 148)).heap.size=w.heap.size+1 by simp]at kC;have M0:=((Mv.refl q sgv w).alloc (.cells #[.int .i64 0,.string ⟨#[]⟩,.int .u8 0,.slice none 0 0,.int .i64 0] 148)).alloc (.cells #[.int .i64 0,.string (Lx.hd ts),.int .u8 0,.slice none 0 0,.int .i64 (Lx.pl ts:Int)] 148);have fB:sgv.ownBlock≠some w.heap.size:=h.fresh (Nat.le_refl _);have fC:sgv.ownBlock≠some (w.heap.size+1):=h.fresh (by omega);have HK:Hid (Lx.known (Lx.hd ts)=true):=Lx.isName_known hn;have HNE:Hid (Lx.hd ts≠Lx.noText):=isName_ne hn;have c2:w.cell? ⟨q,2,none⟩=some (.string (Lx.hd ts)):=by have:=kq.cell 2;rw[this];simp only[rblk];rw[Lx.refW_known HK.out];rfl
 obtain⟨L,hL⟩:∃ L:List Lx.Alt,L=[]:=⟨_,rfl⟩;have HP0:∀ m t,Lx.pMark ts.tail=(m,t)->Lx.pItem (Lx.pGroupAt d) ts=.ok (⟨0,Lx.hd ts,m,L,Lx.pl ts⟩,t):=by
  intro m t e;unfold Lx.pItem;rw[if_neg hno,if_pos hn];rw[e,hL]
 have HPP:Hid _:=HP0;have HL:Hid _:=hL;clear HP0 hn hL hno;go_enter Tryz.func151,Tryz.ntmps151;go_wp2_with fail;refine (next_rr h2 HK.out HNE.out).mono ?_;rintro e w1 ⟨rfl,sg1,m1,X1,h3⟩;have f1B:=X1.keep (b:=w.heap.size) kB.lt fB;have f1C:=X1.keep (b:=w.heap.size+1) kC.lt fC;have kC1:=kC.mv m1 (by omega) fC;have kB1:=kB.mv m1 (by omega) fB;have M1:=M0.trans (Nx.refl _ _) m1;have X1:=(Nx.refl sgv w).trans M0.size X1;have hv1:AltsIn YR d (Fp (w.heap.size+2) sg1 w1) w1 (.slice none 0 0) L:=by rw[HL.out];exact AltsIn.nil _ _ _ _
 have HP:=HPP.out;clear kC kB h2 M0 m1 HPP HL c1 c2 kq;generalize ts.tail=ts1 at *
 by_cases hm:Lx.hd ts1=Lx.tStar
 ·have HPM:Hid _:=HP _ _ (pMark_star hm)
  have HM:Hid (Lx.hd ts1=Lx.tStar):=hm;have HKN:Hid (Lx.known (Lx.hd ts1)=true):=by show _=_;rw[hm];decide
  have HNN:Hid (Lx.hd ts1≠Lx.noText):=by show _≠_;rw[hm];decide
  have c2:w1.cell? ⟨q,2,none⟩=some (.string ⟨#[42]⟩):=by
   have:=h3.blk.cell 2;rw[this];simp only[rblk];rw[Lx.refW_known HKN.out,HM.out];rfl
  have h4:=h3.other (b:=w.heap.size+1) 2 (.int .u8 42) (by omega) f1C;have kC4:=kC1.set 2 (.int .u8 42);have kB4:=kB1.other (b':=w.heap.size+1) (i:=2) (by omega) (.int .u8 42);have M4:=M1.new (b:=w.heap.size+1) (by omega) 2 (.int .u8 42);have d2:w1.cell? ⟨w.heap.size+1,2,none⟩=some (.int .u8 0):=kC1.cell 2;have fz1:∀ i,w1.frozen? ⟨w.heap.size+1,i,none⟩=false:=kC1.frozen;have hv4:AltsIn YR d (Fp (w.heap.size+2) sg1 (w1.setCell ⟨w.heap.size+1,2,none⟩ (.int .u8 42))) (w1.setCell ⟨w.heap.size+1,2,none⟩ (.int .u8 42)) (.slice none 0 0) L :=
   AltsIn.move (fun b hb=>Below.heap_setCell _ _ _ _ (fun e=>by have e':b=w.heap.size+1:=e;have:=hb.1;omega)) (fun b hb=>⟨hb.1,by simpa [World.setCell]using hb.2.1,hb.2.2⟩) hv1
  clear hm HP hv1;go_wp2_with fail;refine (is_rr h3 Lx.tStar (by decide) (by decide)).mono ?_;rintro e w' ⟨rfl,hw⟩;obtain rfl:=hw.symm;rw[decide_eq_true HM.out];go_wp2_with fail;refine (next_rr h4 HKN.out HNN.out).mono ?_;rintro e w5 ⟨rfl,sg5,m5,x5,h5⟩;have f5B:=x5.keep (b:=w.heap.size) kB4.lt f1B;have kCf:=kC4.mv m5 (by omega) f1C;have kBf:=kB4.mv m5 (by omega) f1B;have hv5:AltsIn YR d (Fp (w.heap.size+2) sg5 w5) w5 (.slice none 0 0) L:=AltsIn.move (fun b hb=>m5.block b hb.2.1 (fun e=>by have:=hb.1;omega) hb.2.2) (fun b hb=>⟨hb.1,Nat.lt_of_lt_of_le hb.2.1 m5.size,x5.keep hb.2.1 hb.2.2⟩) hv4;have M5:=M4.trans X1 m5;have X5:=X1.trans M4.size x5;have kBz:=kBf;have d0:w5.cell? ⟨w.heap.size+1,0,none⟩=some (.int .i64 0):=kCf.cell 0;have d1:w5.cell? ⟨w.heap.size+1,1,none⟩=some (.string (Lx.hd ts)):=kCf.cell 1;have d2:w5.cell? ⟨w.heap.size+1,2,none⟩=some (.int .u8 42):=kCf.cell 2;have d3:w5.cell? ⟨w.heap.size+1,3,none⟩=some (.slice none 0 0):=kCf.cell 3;have d4:w5.cell? ⟨w.heap.size+1,4,none⟩=some (.int .i64 (Lx.pl ts:Int)):=kCf.cell 4;have e0:w5.cell? ⟨w.heap.size,0,none⟩=some (.int .i64 0):=kBf.cell 0;have e1:w5.cell? ⟨w.heap.size,1,none⟩=some (.string ⟨#[]⟩):=kBf.cell 1;have e2:w5.cell? ⟨w.heap.size,2,none⟩=some (.int .u8 0):=kBf.cell 2;have e3:w5.cell? ⟨w.heap.size,3,none⟩=some (.slice none 0 0):=kBf.cell 3;have e4:w5.cell? ⟨w.heap.size,4,none⟩=some (.int .i64 0):=kBf.cell 4;have ff2:∀ i,w5.frozen? ⟨w.heap.size,i,none⟩=false:=kBf.frozen;clear kC4 kB4 kC1 kB1 h4 h3 hv4 c2;go_wp2_with fail
  refine bodyPost_ret (v:=.agg #[(.int .i64 0),(.string (Lx.hd ts)),.int .u8 42,(.slice none 0 0),.int .i64 (Lx.pl ts:Int)]) (by simp[results,Tryz.results151,go_sem,e0,e1,e2,e3,e4]) rfl ?_;refine REnds.yes HPM.out (((((M5.new (Nat.le_refl _) _ _).new (Nat.le_refl _) _ _).new (Nat.le_refl _) _ _).new (Nat.le_refl _) _ _).new (Nat.le_refl _) _ _) X5 (((((h5.other _ _ (by omega) f5B).other _ _ (by omega) f5B).other _ _ (by omega) f5B).other _ _ (by omega) f5B).other _ _ (by omega) f5B) ⟨_,rfl,?_⟩;refine AltsIn.move (fun b hb=>?_) (fun b hb=>⟨by have:=hb.1;omega,by simpa [World.setCell]using hb.2.1,hb.2.2⟩) hv5;have hbb:b≠w.heap.size:=by have:=hb.1;omega
  rw[Below.heap_setCell _ _ _ _ hbb,Below.heap_setCell _ _ _ _ hbb,Below.heap_setCell _ _ _ _ hbb,Below.heap_setCell _ _ _ _ hbb,Below.heap_setCell _ _ _ _ hbb]
 have n42:Hid (¬ Lx.hd ts1=Lx.tStar):=hm;clear hm
 by_cases hm:Lx.hd ts1=Lx.tPlus
 ·have HPM:Hid _:=HP _ _ (pMark_plus hm)
  have HM:Hid (Lx.hd ts1=Lx.tPlus):=hm;have HKN:Hid (Lx.known (Lx.hd ts1)=true):=by show _=_;rw[hm];decide
  have HNN:Hid (Lx.hd ts1≠Lx.noText):=by show _≠_;rw[hm];decide
  have c2:w1.cell? ⟨q,2,none⟩=some (.string ⟨#[43]⟩):=by
   have:=h3.blk.cell 2;rw[this];simp only[rblk];rw[Lx.refW_known HKN.out,HM.out];rfl
  have h4:=h3.other (b:=w.heap.size+1) 2 (.int .u8 43) (by omega) f1C;have kC4:=kC1.set 2 (.int .u8 43);have kB4:=kB1.other (b':=w.heap.size+1) (i:=2) (by omega) (.int .u8 43);have M4:=M1.new (b:=w.heap.size+1) (by omega) 2 (.int .u8 43);have d2:w1.cell? ⟨w.heap.size+1,2,none⟩=some (.int .u8 0):=kC1.cell 2;have fz1:∀ i,w1.frozen? ⟨w.heap.size+1,i,none⟩=false:=kC1.frozen;have hv4:AltsIn YR d (Fp (w.heap.size+2) sg1 (w1.setCell ⟨w.heap.size+1,2,none⟩ (.int .u8 43))) (w1.setCell ⟨w.heap.size+1,2,none⟩ (.int .u8 43)) (.slice none 0 0) L :=
   AltsIn.move (fun b hb=>Below.heap_setCell _ _ _ _ (fun e=>by have e':b=w.heap.size+1:=e;have:=hb.1;omega)) (fun b hb=>⟨hb.1,by simpa [World.setCell]using hb.2.1,hb.2.2⟩) hv1
  clear hm HP hv1;go_wp2_with fail;refine (is_rr h3 Lx.tStar (by decide) (by decide)).mono ?_;rintro e w' ⟨rfl,hw⟩;obtain rfl:=hw.symm;rw[decide_eq_false (by rw[HM.out];decide)];go_wp2_with fail;refine (is_rr h3 Lx.tPlus (by decide) (by decide)).mono ?_;rintro e w' ⟨rfl,hw⟩;obtain rfl:=hw.symm;rw[decide_eq_true HM.out];go_wp2_with fail;refine (next_rr h4 HKN.out HNN.out).mono ?_;rintro e w5 ⟨rfl,sg5,m5,x5,h5⟩;have f5B:=x5.keep (b:=w.heap.size) kB4.lt f1B;have kCf:=kC4.mv m5 (by omega) f1C;have kBf:=kB4.mv m5 (by omega) f1B;have hv5:AltsIn YR d (Fp (w.heap.size+2) sg5 w5) w5 (.slice none 0 0) L:=AltsIn.move (fun b hb=>m5.block b hb.2.1 (fun e=>by have:=hb.1;omega) hb.2.2) (fun b hb=>⟨hb.1,Nat.lt_of_lt_of_le hb.2.1 m5.size,x5.keep hb.2.1 hb.2.2⟩) hv4;have M5:=M4.trans X1 m5;have X5:=X1.trans M4.size x5;have kBz:=kBf;have d0:w5.cell? ⟨w.heap.size+1,0,none⟩=some (.int .i64 0):=kCf.cell 0;have d1:w5.cell? ⟨w.heap.size+1,1,none⟩=some (.string (Lx.hd ts)):=kCf.cell 1;have d2:w5.cell? ⟨w.heap.size+1,2,none⟩=some (.int .u8 43):=kCf.cell 2;have d3:w5.cell? ⟨w.heap.size+1,3,none⟩=some (.slice none 0 0):=kCf.cell 3;have d4:w5.cell? ⟨w.heap.size+1,4,none⟩=some (.int .i64 (Lx.pl ts:Int)):=kCf.cell 4;have e0:w5.cell? ⟨w.heap.size,0,none⟩=some (.int .i64 0):=kBf.cell 0;have e1:w5.cell? ⟨w.heap.size,1,none⟩=some (.string ⟨#[]⟩):=kBf.cell 1;have e2:w5.cell? ⟨w.heap.size,2,none⟩=some (.int .u8 0):=kBf.cell 2;have e3:w5.cell? ⟨w.heap.size,3,none⟩=some (.slice none 0 0):=kBf.cell 3;have e4:w5.cell? ⟨w.heap.size,4,none⟩=some (.int .i64 0):=kBf.cell 4
  have ff2:∀ i,w5.frozen? ⟨w.heap.size,i,none⟩=false:=kBf.frozen;clear kC4 kB4 kC1 kB1 h4 h3 hv4 c2;go_wp2_with fail;refine bodyPost_ret (v:=.agg #[(.int .i64 0),(.string (Lx.hd ts)),.int .u8 43,(.slice none 0 0),.int .i64 (Lx.pl ts:Int)]) (by simp[results,Tryz.results151,go_sem,e0,e1,e2,e3,e4]) rfl ?_;refine REnds.yes HPM.out (((((M5.new (Nat.le_refl _) _ _).new (Nat.le_refl _) _ _).new (Nat.le_refl _) _ _).new (Nat.le_refl _) _ _).new (Nat.le_refl _) _ _) X5 (((((h5.other _ _ (by omega) f5B).other _ _ (by omega) f5B).other _ _ (by omega) f5B).other _ _ (by omega) f5B).other _ _ (by omega) f5B) ⟨_,rfl,?_⟩;refine AltsIn.move (fun b hb=>?_) (fun b hb=>⟨by have:=hb.1;omega,by simpa [World.setCell]using hb.2.1,hb.2.2⟩) hv5;have hbb:b≠w.heap.size:=by have:=hb.1;omega
  rw[Below.heap_setCell _ _ _ _ hbb,Below.heap_setCell _ _ _ _ hbb,Below.heap_setCell _ _ _ _ hbb,Below.heap_setCell _ _ _ _ hbb,Below.heap_setCell _ _ _ _ hbb]
 have n43:Hid (¬ Lx.hd ts1=Lx.tPlus):=hm;clear hm
 by_cases hm:Lx.hd ts1=Lx.tAsk
 ·have HPM:Hid _:=HP _ _ (pMark_ask hm)
  have HM:Hid (Lx.hd ts1=Lx.tAsk):=hm;have HKN:Hid (Lx.known (Lx.hd ts1)=true):=by show _=_;rw[hm];decide
  have HNN:Hid (Lx.hd ts1≠Lx.noText):=by show _≠_;rw[hm];decide
  have c2:w1.cell? ⟨q,2,none⟩=some (.string ⟨#[63]⟩):=by
   have:=h3.blk.cell 2;rw[this];simp only[rblk];rw[Lx.refW_known HKN.out,HM.out];rfl
  have h4:=h3.other (b:=w.heap.size+1) 2 (.int .u8 63) (by omega) f1C;have kC4:=kC1.set 2 (.int .u8 63);have kB4:=kB1.other (b':=w.heap.size+1) (i:=2) (by omega) (.int .u8 63);have M4:=M1.new (b:=w.heap.size+1) (by omega) 2 (.int .u8 63);have d2:w1.cell? ⟨w.heap.size+1,2,none⟩=some (.int .u8 0):=kC1.cell 2;have fz1:∀ i,w1.frozen? ⟨w.heap.size+1,i,none⟩=false:=kC1.frozen;have hv4:AltsIn YR d (Fp (w.heap.size+2) sg1 (w1.setCell ⟨w.heap.size+1,2,none⟩ (.int .u8 63))) (w1.setCell ⟨w.heap.size+1,2,none⟩ (.int .u8 63)) (.slice none 0 0) L :=
   AltsIn.move (fun b hb=>Below.heap_setCell _ _ _ _ (fun e=>by have e':b=w.heap.size+1:=e;have:=hb.1;omega)) (fun b hb=>⟨hb.1,by simpa [World.setCell]using hb.2.1,hb.2.2⟩) hv1
  clear hm HP hv1;go_wp2_with fail;refine (is_rr h3 Lx.tStar (by decide) (by decide)).mono ?_;rintro e w' ⟨rfl,hw⟩;obtain rfl:=hw.symm;rw[decide_eq_false (by rw[HM.out];decide)];go_wp2_with fail;refine (is_rr h3 Lx.tPlus (by decide) (by decide)).mono ?_;rintro e w' ⟨rfl,hw⟩;obtain rfl:=hw.symm;rw[decide_eq_false (by rw[HM.out];decide)];go_wp2_with fail;refine (is_rr h3 Lx.tAsk (by decide) (by decide)).mono ?_;rintro e w' ⟨rfl,hw⟩;obtain rfl:=hw.symm;rw[decide_eq_true HM.out];go_wp2_with fail;refine (next_rr h4 HKN.out HNN.out).mono ?_;rintro e w5 ⟨rfl,sg5,m5,x5,h5⟩;have f5B:=x5.keep (b:=w.heap.size) kB4.lt f1B;have kCf:=kC4.mv m5 (by omega) f1C;have kBf:=kB4.mv m5 (by omega) f1B;have hv5:AltsIn YR d (Fp (w.heap.size+2) sg5 w5) w5 (.slice none 0 0) L:=AltsIn.move (fun b hb=>m5.block b hb.2.1 (fun e=>by have:=hb.1;omega) hb.2.2) (fun b hb=>⟨hb.1,Nat.lt_of_lt_of_le hb.2.1 m5.size,x5.keep hb.2.1 hb.2.2⟩) hv4;have M5:=M4.trans X1 m5;have X5:=X1.trans M4.size x5;have kBz:=kBf;have d0:w5.cell? ⟨w.heap.size+1,0,none⟩=some (.int .i64 0):=kCf.cell 0;have d1:w5.cell? ⟨w.heap.size+1,1,none⟩=some (.string (Lx.hd ts)):=kCf.cell 1;have d2:w5.cell? ⟨w.heap.size+1,2,none⟩=some (.int .u8 63):=kCf.cell 2;have d3:w5.cell? ⟨w.heap.size+1,3,none⟩=some (.slice none 0 0):=kCf.cell 3;have d4:w5.cell? ⟨w.heap.size+1,4,none⟩=some (.int .i64 (Lx.pl ts:Int)):=kCf.cell 4;have e0:w5.cell? ⟨w.heap.size,0,none⟩=some (.int .i64 0):=kBf.cell 0;have e1:w5.cell? ⟨w.heap.size,1,none⟩=some (.string ⟨#[]⟩):=kBf.cell 1
  have e2:w5.cell? ⟨w.heap.size,2,none⟩=some (.int .u8 0):=kBf.cell 2;have e3:w5.cell? ⟨w.heap.size,3,none⟩=some (.slice none 0 0):=kBf.cell 3;have e4:w5.cell? ⟨w.heap.size,4,none⟩=some (.int .i64 0):=kBf.cell 4;have ff2:∀ i,w5.frozen? ⟨w.heap.size,i,none⟩=false:=kBf.frozen;clear kC4 kB4 kC1 kB1 h4 h3 hv4 c2;go_wp2_with fail;refine bodyPost_ret (v:=.agg #[(.int .i64 0),(.string (Lx.hd ts)),.int .u8 63,(.slice none 0 0),.int .i64 (Lx.pl ts:Int)]) (by simp[results,Tryz.results151,go_sem,e0,e1,e2,e3,e4]) rfl ?_;refine REnds.yes HPM.out (((((M5.new (Nat.le_refl _) _ _).new (Nat.le_refl _) _ _).new (Nat.le_refl _) _ _).new (Nat.le_refl _) _ _).new (Nat.le_refl _) _ _) X5 (((((h5.other _ _ (by omega) f5B).other _ _ (by omega) f5B).other _ _ (by omega) f5B).other _ _ (by omega) f5B).other _ _ (by omega) f5B) ⟨_,rfl,?_⟩;refine AltsIn.move (fun b hb=>?_) (fun b hb=>⟨by have:=hb.1;omega,by simpa [World.setCell]using hb.2.1,hb.2.2⟩) hv5;have hbb:b≠w.heap.size:=by have:=hb.1;omega
  rw[Below.heap_setCell _ _ _ _ hbb,Below.heap_setCell _ _ _ _ hbb,Below.heap_setCell _ _ _ _ hbb,Below.heap_setCell _ _ _ _ hbb,Below.heap_setCell _ _ _ _ hbb]
 have n63:Hid (¬ Lx.hd ts1=Lx.tAsk):=hm;clear hm;have HPM:Hid _:=HP _ _ (pMark_none n42.out n43.out n63.out);clear HP;go_wp2_with fail;refine (is_rr h3 Lx.tStar (by decide) (by decide)).mono ?_;rintro e w' ⟨rfl,hw⟩;obtain rfl:=hw.symm;rw[decide_eq_false n42.out];go_wp2_with fail;refine (is_rr h3 Lx.tPlus (by decide) (by decide)).mono ?_;rintro e w' ⟨rfl,hw⟩;obtain rfl:=hw.symm;rw[decide_eq_false n43.out];go_wp2_with fail;refine (is_rr h3 Lx.tAsk (by decide) (by decide)).mono ?_;rintro e w' ⟨rfl,hw⟩;obtain rfl:=hw.symm;rw[decide_eq_false n63.out];have kCf:=kC1;have kBf:=kB1;have kBz:=kBf;have d0:w1.cell? ⟨w.heap.size+1,0,none⟩=some (.int .i64 0):=kCf.cell 0;have d1:w1.cell? ⟨w.heap.size+1,1,none⟩=some (.string (Lx.hd ts)):=kCf.cell 1;have d2:w1.cell? ⟨w.heap.size+1,2,none⟩=some (.int .u8 0):=kCf.cell 2;have d3:w1.cell? ⟨w.heap.size+1,3,none⟩=some (.slice none 0 0):=kCf.cell 3;have d4:w1.cell? ⟨w.heap.size+1,4,none⟩=some (.int .i64 (Lx.pl ts:Int)):=kCf.cell 4;have e0:w1.cell? ⟨w.heap.size,0,none⟩=some (.int .i64 0):=kBf.cell 0;have e1:w1.cell? ⟨w.heap.size,1,none⟩=some (.string ⟨#[]⟩):=kBf.cell 1;have e2:w1.cell? ⟨w.heap.size,2,none⟩=some (.int .u8 0):=kBf.cell 2;have e3:w1.cell? ⟨w.heap.size,3,none⟩=some (.slice none 0 0):=kBf.cell 3;have e4:w1.cell? ⟨w.heap.size,4,none⟩=some (.int .i64 0):=kBf.cell 4;have ff2:∀ i,w1.frozen? ⟨w.heap.size,i,none⟩=false:=kBf.frozen;go_wp2_with fail;refine bodyPost_ret (v:=.agg #[(.int .i64 0),(.string (Lx.hd ts)),.int .u8 0,(.slice none 0 0),.int .i64 (Lx.pl ts:Int)]) (by simp[results,Tryz.results151,go_sem,e0,e1,e2,e3,e4]) rfl ?_
 refine REnds.yes HPM.out (((((M1.new (Nat.le_refl _) _ _).new (Nat.le_refl _) _ _).new (Nat.le_refl _) _ _).new (Nat.le_refl _) _ _).new (Nat.le_refl _) _ _) X1 (((((h3.other _ _ (by omega) f1B).other _ _ (by omega) f1B).other _ _ (by omega) f1B).other _ _ (by omega) f1B).other _ _ (by omega) f1B) ⟨_,rfl,?_⟩;refine AltsIn.move (fun b hb=>?_) (fun b hb=>⟨by have:=hb.1;omega,by simpa [World.setCell]using hb.2.1,hb.2.2⟩) hv1;have hbb:b≠w.heap.size:=by have:=hb.1;omega
 rw[Below.heap_setCell _ _ _ _ hbb,Below.heap_setCell _ _ _ _ hbb,Below.heap_setCell _ _ _ _ hbb,Below.heap_setCell _ _ _ _ hbb,Below.heap_setCell _ _ _ _ hbb]
theorem ritem_token {d:Nat} (s:ByteArray) (q:Nat) (w:World) (ts:List Tk) (nest:Int) (sgv:Value) (sg:List ByteArray) (h:RR s q w ts nest sgv sg) (hno:¬ Lx.hd ts=Lx.tOpen) (hnn:Lx.isName (Lx.hd ts)=false) (hn:Lx.isToken (Lx.hd ts)=true) :
  Calls Tryz.prog 151 #[.pointer (some ⟨q,0,none⟩),.bool false,.bool true] w (REnds s q nest (RVItem d w.heap.size) XItem w sgv (Lx.pItem (Lx.pGroupAt d) ts)):=by
 have hp:=h.lt;have kq:=h.blk;have c1:w.cell? ⟨q,1,none⟩=some (.int .i64 (Lx.pl ts:Int)):=kq.cell 1;have h2:=(h.alloc (.cells #[.int .i64 0,.string ⟨#[]⟩,.int .u8 0,.slice none 0 0,.int .i64 0] 148)).alloc (.cells #[.int .i64 1,.string (Lx.hd ts),.int .u8 0,.slice none 0 0,.int .i64 (Lx.pl ts:Int)] 148);have kB:=(Blk.new w #[.int .i64 0,.string ⟨#[]⟩,.int .u8 0,.slice none 0 0,.int .i64 0] 148).alloc (.cells #[.int .i64 1,.string (Lx.hd ts),.int .u8 0,.slice none 0 0,.int .i64 (Lx.pl ts:Int)] 148);have kC:=Blk.new (w.alloc (.cells #[.int .i64 0,.string ⟨#[]⟩,.int .u8 0,.slice none 0 0,.int .i64 0] 148)) #[.int .i64 1,.string (Lx.hd ts),.int .u8 0,.slice none 0 0,.int .i64 (Lx.pl ts:Int)] 148;rw[show (w.alloc (.cells #[.int .i64 0,.string ⟨#[]⟩,.int .u8 0,.slice none 0 0,.int .i64 0] 148)).heap.size=w.heap.size+1 by simp]at kC;have M0:=((Mv.refl q sgv w).alloc (.cells #[.int .i64 0,.string ⟨#[]⟩,.int .u8 0,.slice none 0 0,.int .i64 0] 148)).alloc (.cells #[.int .i64 1,.string (Lx.hd ts),.int .u8 0,.slice none 0 0,.int .i64 (Lx.pl ts:Int)] 148);have fB:sgv.ownBlock≠some w.heap.size:=h.fresh (Nat.le_refl _);have fC:sgv.ownBlock≠some (w.heap.size+1):=h.fresh (by omega);have HK:Hid (Lx.known (Lx.hd ts)=true):=Lx.isToken_known hn;have HNE:Hid (Lx.hd ts≠Lx.noText):=isToken_ne hn;have c2:w.cell? ⟨q,2,none⟩=some (.string (Lx.hd ts)):=by have:=kq.cell 2;rw[this];simp only[rblk];rw[Lx.refW_known HK.out];rfl
 obtain⟨L,hL⟩:∃ L:List Lx.Alt,L=[]:=⟨_,rfl⟩;have HP0:∀ m t,Lx.pMark ts.tail=(m,t)->Lx.pItem (Lx.pGroupAt d) ts=.ok (⟨1,Lx.hd ts,m,L,Lx.pl ts⟩,t):=by
  intro m t e;unfold Lx.pItem;rw[if_neg hno,if_neg (by rw[hnn];simp),if_pos hn];rw[e,hL]
 have HPP:Hid _:=HP0;have HL:Hid _:=hL;clear HP0 hn hL hno hnn;go_enter Tryz.func151,Tryz.ntmps151;go_wp2_with fail;refine (next_rr h2 HK.out HNE.out).mono ?_;rintro e w1 ⟨rfl,sg1,m1,X1,h3⟩;have f1B:=X1.keep (b:=w.heap.size) kB.lt fB;have f1C:=X1.keep (b:=w.heap.size+1) kC.lt fC;have kC1:=kC.mv m1 (by omega) fC;have kB1:=kB.mv m1 (by omega) fB;have M1:=M0.trans (Nx.refl _ _) m1;have X1:=(Nx.refl sgv w).trans M0.size X1;have hv1:AltsIn YR d (Fp (w.heap.size+2) sg1 w1) w1 (.slice none 0 0) L:=by rw[HL.out];exact AltsIn.nil _ _ _ _
 have HP:=HPP.out;clear kC kB h2 M0 m1 HPP HL c1 c2 kq;generalize ts.tail=ts1 at *
 by_cases hm:Lx.hd ts1=Lx.tStar
 ·have HPM:Hid _:=HP _ _ (pMark_star hm)
  have HM:Hid (Lx.hd ts1=Lx.tStar):=hm;have HKN:Hid (Lx.known (Lx.hd ts1)=true):=by show _=_;rw[hm];decide
  have HNN:Hid (Lx.hd ts1≠Lx.noText):=by show _≠_;rw[hm];decide
  have c2:w1.cell? ⟨q,2,none⟩=some (.string ⟨#[42]⟩):=by
   have:=h3.blk.cell 2;rw[this];simp only[rblk];rw[Lx.refW_known HKN.out,HM.out];rfl
  have h4:=h3.other (b:=w.heap.size+1) 2 (.int .u8 42) (by omega) f1C;have kC4:=kC1.set 2 (.int .u8 42);have kB4:=kB1.other (b':=w.heap.size+1) (i:=2) (by omega) (.int .u8 42);have M4:=M1.new (b:=w.heap.size+1) (by omega) 2 (.int .u8 42);have d2:w1.cell? ⟨w.heap.size+1,2,none⟩=some (.int .u8 0):=kC1.cell 2;have fz1:∀ i,w1.frozen? ⟨w.heap.size+1,i,none⟩=false:=kC1.frozen;have hv4:AltsIn YR d (Fp (w.heap.size+2) sg1 (w1.setCell ⟨w.heap.size+1,2,none⟩ (.int .u8 42))) (w1.setCell ⟨w.heap.size+1,2,none⟩ (.int .u8 42)) (.slice none 0 0) L :=
   AltsIn.move (fun b hb=>Below.heap_setCell _ _ _ _ (fun e=>by have e':b=w.heap.size+1:=e;have:=hb.1;omega)) (fun b hb=>⟨hb.1,by simpa [World.setCell]using hb.2.1,hb.2.2⟩) hv1
  clear hm HP hv1;go_wp2_with fail;refine (is_rr h3 Lx.tStar (by decide) (by decide)).mono ?_;rintro e w' ⟨rfl,hw⟩;obtain rfl:=hw.symm;rw[decide_eq_true HM.out];go_wp2_with fail;refine (next_rr h4 HKN.out HNN.out).mono ?_;rintro e w5 ⟨rfl,sg5,m5,x5,h5⟩;have f5B:=x5.keep (b:=w.heap.size) kB4.lt f1B;have kCf:=kC4.mv m5 (by omega) f1C;have kBf:=kB4.mv m5 (by omega) f1B;have hv5:AltsIn YR d (Fp (w.heap.size+2) sg5 w5) w5 (.slice none 0 0) L:=AltsIn.move (fun b hb=>m5.block b hb.2.1 (fun e=>by have:=hb.1;omega) hb.2.2) (fun b hb=>⟨hb.1,Nat.lt_of_lt_of_le hb.2.1 m5.size,x5.keep hb.2.1 hb.2.2⟩) hv4;have M5:=M4.trans X1 m5;have X5:=X1.trans M4.size x5;have kBz:=kBf;have d0:w5.cell? ⟨w.heap.size+1,0,none⟩=some (.int .i64 1):=kCf.cell 0;have d1:w5.cell? ⟨w.heap.size+1,1,none⟩=some (.string (Lx.hd ts)):=kCf.cell 1;have d2:w5.cell? ⟨w.heap.size+1,2,none⟩=some (.int .u8 42):=kCf.cell 2;have d3:w5.cell? ⟨w.heap.size+1,3,none⟩=some (.slice none 0 0):=kCf.cell 3;have d4:w5.cell? ⟨w.heap.size+1,4,none⟩=some (.int .i64 (Lx.pl ts:Int)):=kCf.cell 4;have e0:w5.cell? ⟨w.heap.size,0,none⟩=some (.int .i64 0):=kBf.cell 0;have e1:w5.cell? ⟨w.heap.size,1,none⟩=some (.string ⟨#[]⟩):=kBf.cell 1;have e2:w5.cell? ⟨w.heap.size,2,none⟩=some (.int .u8 0):=kBf.cell 2;have e3:w5.cell? ⟨w.heap.size,3,none⟩=some (.slice none 0 0):=kBf.cell 3;have e4:w5.cell? ⟨w.heap.size,4,none⟩=some (.int .i64 0):=kBf.cell 4;have ff2:∀ i,w5.frozen? ⟨w.heap.size,i,none⟩=false:=kBf.frozen;clear kC4 kB4 kC1 kB1 h4 h3 hv4 c2;go_wp2_with fail
  refine bodyPost_ret (v:=.agg #[(.int .i64 1),(.string (Lx.hd ts)),.int .u8 42,(.slice none 0 0),.int .i64 (Lx.pl ts:Int)]) (by simp[results,Tryz.results151,go_sem,e0,e1,e2,e3,e4]) rfl ?_;refine REnds.yes HPM.out (((((M5.new (Nat.le_refl _) _ _).new (Nat.le_refl _) _ _).new (Nat.le_refl _) _ _).new (Nat.le_refl _) _ _).new (Nat.le_refl _) _ _) X5 (((((h5.other _ _ (by omega) f5B).other _ _ (by omega) f5B).other _ _ (by omega) f5B).other _ _ (by omega) f5B).other _ _ (by omega) f5B) ⟨_,rfl,?_⟩;refine AltsIn.move (fun b hb=>?_) (fun b hb=>⟨by have:=hb.1;omega,by simpa [World.setCell]using hb.2.1,hb.2.2⟩) hv5;have hbb:b≠w.heap.size:=by have:=hb.1;omega
  rw[Below.heap_setCell _ _ _ _ hbb,Below.heap_setCell _ _ _ _ hbb,Below.heap_setCell _ _ _ _ hbb,Below.heap_setCell _ _ _ _ hbb,Below.heap_setCell _ _ _ _ hbb]
 have n42:Hid (¬ Lx.hd ts1=Lx.tStar):=hm;clear hm
 by_cases hm:Lx.hd ts1=Lx.tPlus
 ·have HPM:Hid _:=HP _ _ (pMark_plus hm)
  have HM:Hid (Lx.hd ts1=Lx.tPlus):=hm;have HKN:Hid (Lx.known (Lx.hd ts1)=true):=by show _=_;rw[hm];decide
  have HNN:Hid (Lx.hd ts1≠Lx.noText):=by show _≠_;rw[hm];decide
  have c2:w1.cell? ⟨q,2,none⟩=some (.string ⟨#[43]⟩):=by
   have:=h3.blk.cell 2;rw[this];simp only[rblk];rw[Lx.refW_known HKN.out,HM.out];rfl
  have h4:=h3.other (b:=w.heap.size+1) 2 (.int .u8 43) (by omega) f1C;have kC4:=kC1.set 2 (.int .u8 43);have kB4:=kB1.other (b':=w.heap.size+1) (i:=2) (by omega) (.int .u8 43);have M4:=M1.new (b:=w.heap.size+1) (by omega) 2 (.int .u8 43);have d2:w1.cell? ⟨w.heap.size+1,2,none⟩=some (.int .u8 0):=kC1.cell 2;have fz1:∀ i,w1.frozen? ⟨w.heap.size+1,i,none⟩=false:=kC1.frozen;have hv4:AltsIn YR d (Fp (w.heap.size+2) sg1 (w1.setCell ⟨w.heap.size+1,2,none⟩ (.int .u8 43))) (w1.setCell ⟨w.heap.size+1,2,none⟩ (.int .u8 43)) (.slice none 0 0) L :=
   AltsIn.move (fun b hb=>Below.heap_setCell _ _ _ _ (fun e=>by have e':b=w.heap.size+1:=e;have:=hb.1;omega)) (fun b hb=>⟨hb.1,by simpa [World.setCell]using hb.2.1,hb.2.2⟩) hv1
  clear hm HP hv1;go_wp2_with fail;refine (is_rr h3 Lx.tStar (by decide) (by decide)).mono ?_;rintro e w' ⟨rfl,hw⟩;obtain rfl:=hw.symm;rw[decide_eq_false (by rw[HM.out];decide)];go_wp2_with fail;refine (is_rr h3 Lx.tPlus (by decide) (by decide)).mono ?_;rintro e w' ⟨rfl,hw⟩;obtain rfl:=hw.symm;rw[decide_eq_true HM.out];go_wp2_with fail;refine (next_rr h4 HKN.out HNN.out).mono ?_;rintro e w5 ⟨rfl,sg5,m5,x5,h5⟩;have f5B:=x5.keep (b:=w.heap.size) kB4.lt f1B;have kCf:=kC4.mv m5 (by omega) f1C;have kBf:=kB4.mv m5 (by omega) f1B;have hv5:AltsIn YR d (Fp (w.heap.size+2) sg5 w5) w5 (.slice none 0 0) L:=AltsIn.move (fun b hb=>m5.block b hb.2.1 (fun e=>by have:=hb.1;omega) hb.2.2) (fun b hb=>⟨hb.1,Nat.lt_of_lt_of_le hb.2.1 m5.size,x5.keep hb.2.1 hb.2.2⟩) hv4;have M5:=M4.trans X1 m5;have X5:=X1.trans M4.size x5;have kBz:=kBf;have d0:w5.cell? ⟨w.heap.size+1,0,none⟩=some (.int .i64 1):=kCf.cell 0;have d1:w5.cell? ⟨w.heap.size+1,1,none⟩=some (.string (Lx.hd ts)):=kCf.cell 1;have d2:w5.cell? ⟨w.heap.size+1,2,none⟩=some (.int .u8 43):=kCf.cell 2;have d3:w5.cell? ⟨w.heap.size+1,3,none⟩=some (.slice none 0 0):=kCf.cell 3;have d4:w5.cell? ⟨w.heap.size+1,4,none⟩=some (.int .i64 (Lx.pl ts:Int)):=kCf.cell 4;have e0:w5.cell? ⟨w.heap.size,0,none⟩=some (.int .i64 0):=kBf.cell 0;have e1:w5.cell? ⟨w.heap.size,1,none⟩=some (.string ⟨#[]⟩):=kBf.cell 1;have e2:w5.cell? ⟨w.heap.size,2,none⟩=some (.int .u8 0):=kBf.cell 2;have e3:w5.cell? ⟨w.heap.size,3,none⟩=some (.slice none 0 0):=kBf.cell 3;have e4:w5.cell? ⟨w.heap.size,4,none⟩=some (.int .i64 0):=kBf.cell 4
  have ff2:∀ i,w5.frozen? ⟨w.heap.size,i,none⟩=false:=kBf.frozen;clear kC4 kB4 kC1 kB1 h4 h3 hv4 c2;go_wp2_with fail;refine bodyPost_ret (v:=.agg #[(.int .i64 1),(.string (Lx.hd ts)),.int .u8 43,(.slice none 0 0),.int .i64 (Lx.pl ts:Int)]) (by simp[results,Tryz.results151,go_sem,e0,e1,e2,e3,e4]) rfl ?_;refine REnds.yes HPM.out (((((M5.new (Nat.le_refl _) _ _).new (Nat.le_refl _) _ _).new (Nat.le_refl _) _ _).new (Nat.le_refl _) _ _).new (Nat.le_refl _) _ _) X5 (((((h5.other _ _ (by omega) f5B).other _ _ (by omega) f5B).other _ _ (by omega) f5B).other _ _ (by omega) f5B).other _ _ (by omega) f5B) ⟨_,rfl,?_⟩;refine AltsIn.move (fun b hb=>?_) (fun b hb=>⟨by have:=hb.1;omega,by simpa [World.setCell]using hb.2.1,hb.2.2⟩) hv5;have hbb:b≠w.heap.size:=by have:=hb.1;omega
  rw[Below.heap_setCell _ _ _ _ hbb,Below.heap_setCell _ _ _ _ hbb,Below.heap_setCell _ _ _ _ hbb,Below.heap_setCell _ _ _ _ hbb,Below.heap_setCell _ _ _ _ hbb]
 have n43:Hid (¬ Lx.hd ts1=Lx.tPlus):=hm;clear hm
 by_cases hm:Lx.hd ts1=Lx.tAsk
 ·have HPM:Hid _:=HP _ _ (pMark_ask hm)
  have HM:Hid (Lx.hd ts1=Lx.tAsk):=hm;have HKN:Hid (Lx.known (Lx.hd ts1)=true):=by show _=_;rw[hm];decide
  have HNN:Hid (Lx.hd ts1≠Lx.noText):=by show _≠_;rw[hm];decide
  have c2:w1.cell? ⟨q,2,none⟩=some (.string ⟨#[63]⟩):=by
   have:=h3.blk.cell 2;rw[this];simp only[rblk];rw[Lx.refW_known HKN.out,HM.out];rfl
  have h4:=h3.other (b:=w.heap.size+1) 2 (.int .u8 63) (by omega) f1C;have kC4:=kC1.set 2 (.int .u8 63);have kB4:=kB1.other (b':=w.heap.size+1) (i:=2) (by omega) (.int .u8 63);have M4:=M1.new (b:=w.heap.size+1) (by omega) 2 (.int .u8 63);have d2:w1.cell? ⟨w.heap.size+1,2,none⟩=some (.int .u8 0):=kC1.cell 2;have fz1:∀ i,w1.frozen? ⟨w.heap.size+1,i,none⟩=false:=kC1.frozen;have hv4:AltsIn YR d (Fp (w.heap.size+2) sg1 (w1.setCell ⟨w.heap.size+1,2,none⟩ (.int .u8 63))) (w1.setCell ⟨w.heap.size+1,2,none⟩ (.int .u8 63)) (.slice none 0 0) L :=
   AltsIn.move (fun b hb=>Below.heap_setCell _ _ _ _ (fun e=>by have e':b=w.heap.size+1:=e;have:=hb.1;omega)) (fun b hb=>⟨hb.1,by simpa [World.setCell]using hb.2.1,hb.2.2⟩) hv1
  clear hm HP hv1;go_wp2_with fail;refine (is_rr h3 Lx.tStar (by decide) (by decide)).mono ?_;rintro e w' ⟨rfl,hw⟩;obtain rfl:=hw.symm;rw[decide_eq_false (by rw[HM.out];decide)];go_wp2_with fail;refine (is_rr h3 Lx.tPlus (by decide) (by decide)).mono ?_;rintro e w' ⟨rfl,hw⟩;obtain rfl:=hw.symm;rw[decide_eq_false (by rw[HM.out];decide)];go_wp2_with fail;refine (is_rr h3 Lx.tAsk (by decide) (by decide)).mono ?_;rintro e w' ⟨rfl,hw⟩;obtain rfl:=hw.symm;rw[decide_eq_true HM.out];go_wp2_with fail;refine (next_rr h4 HKN.out HNN.out).mono ?_;rintro e w5 ⟨rfl,sg5,m5,x5,h5⟩;have f5B:=x5.keep (b:=w.heap.size) kB4.lt f1B;have kCf:=kC4.mv m5 (by omega) f1C;have kBf:=kB4.mv m5 (by omega) f1B;have hv5:AltsIn YR d (Fp (w.heap.size+2) sg5 w5) w5 (.slice none 0 0) L:=AltsIn.move (fun b hb=>m5.block b hb.2.1 (fun e=>by have:=hb.1;omega) hb.2.2) (fun b hb=>⟨hb.1,Nat.lt_of_lt_of_le hb.2.1 m5.size,x5.keep hb.2.1 hb.2.2⟩) hv4;have M5:=M4.trans X1 m5;have X5:=X1.trans M4.size x5;have kBz:=kBf;have d0:w5.cell? ⟨w.heap.size+1,0,none⟩=some (.int .i64 1):=kCf.cell 0;have d1:w5.cell? ⟨w.heap.size+1,1,none⟩=some (.string (Lx.hd ts)):=kCf.cell 1;have d2:w5.cell? ⟨w.heap.size+1,2,none⟩=some (.int .u8 63):=kCf.cell 2;have d3:w5.cell? ⟨w.heap.size+1,3,none⟩=some (.slice none 0 0):=kCf.cell 3;have d4:w5.cell? ⟨w.heap.size+1,4,none⟩=some (.int .i64 (Lx.pl ts:Int)):=kCf.cell 4;have e0:w5.cell? ⟨w.heap.size,0,none⟩=some (.int .i64 0):=kBf.cell 0;have e1:w5.cell? ⟨w.heap.size,1,none⟩=some (.string ⟨#[]⟩):=kBf.cell 1
  have e2:w5.cell? ⟨w.heap.size,2,none⟩=some (.int .u8 0):=kBf.cell 2;have e3:w5.cell? ⟨w.heap.size,3,none⟩=some (.slice none 0 0):=kBf.cell 3;have e4:w5.cell? ⟨w.heap.size,4,none⟩=some (.int .i64 0):=kBf.cell 4;have ff2:∀ i,w5.frozen? ⟨w.heap.size,i,none⟩=false:=kBf.frozen;clear kC4 kB4 kC1 kB1 h4 h3 hv4 c2;go_wp2_with fail;refine bodyPost_ret (v:=.agg #[(.int .i64 1),(.string (Lx.hd ts)),.int .u8 63,(.slice none 0 0),.int .i64 (Lx.pl ts:Int)]) (by simp[results,Tryz.results151,go_sem,e0,e1,e2,e3,e4]) rfl ?_;refine REnds.yes HPM.out (((((M5.new (Nat.le_refl _) _ _).new (Nat.le_refl _) _ _).new (Nat.le_refl _) _ _).new (Nat.le_refl _) _ _).new (Nat.le_refl _) _ _) X5 (((((h5.other _ _ (by omega) f5B).other _ _ (by omega) f5B).other _ _ (by omega) f5B).other _ _ (by omega) f5B).other _ _ (by omega) f5B) ⟨_,rfl,?_⟩;refine AltsIn.move (fun b hb=>?_) (fun b hb=>⟨by have:=hb.1;omega,by simpa [World.setCell]using hb.2.1,hb.2.2⟩) hv5;have hbb:b≠w.heap.size:=by have:=hb.1;omega
  rw[Below.heap_setCell _ _ _ _ hbb,Below.heap_setCell _ _ _ _ hbb,Below.heap_setCell _ _ _ _ hbb,Below.heap_setCell _ _ _ _ hbb,Below.heap_setCell _ _ _ _ hbb]
 have n63:Hid (¬ Lx.hd ts1=Lx.tAsk):=hm;clear hm;have HPM:Hid _:=HP _ _ (pMark_none n42.out n43.out n63.out);clear HP;go_wp2_with fail;refine (is_rr h3 Lx.tStar (by decide) (by decide)).mono ?_;rintro e w' ⟨rfl,hw⟩;obtain rfl:=hw.symm;rw[decide_eq_false n42.out];go_wp2_with fail;refine (is_rr h3 Lx.tPlus (by decide) (by decide)).mono ?_;rintro e w' ⟨rfl,hw⟩;obtain rfl:=hw.symm;rw[decide_eq_false n43.out];go_wp2_with fail;refine (is_rr h3 Lx.tAsk (by decide) (by decide)).mono ?_;rintro e w' ⟨rfl,hw⟩;obtain rfl:=hw.symm;rw[decide_eq_false n63.out];have kCf:=kC1;have kBf:=kB1;have kBz:=kBf;have d0:w1.cell? ⟨w.heap.size+1,0,none⟩=some (.int .i64 1):=kCf.cell 0;have d1:w1.cell? ⟨w.heap.size+1,1,none⟩=some (.string (Lx.hd ts)):=kCf.cell 1;have d2:w1.cell? ⟨w.heap.size+1,2,none⟩=some (.int .u8 0):=kCf.cell 2;have d3:w1.cell? ⟨w.heap.size+1,3,none⟩=some (.slice none 0 0):=kCf.cell 3;have d4:w1.cell? ⟨w.heap.size+1,4,none⟩=some (.int .i64 (Lx.pl ts:Int)):=kCf.cell 4;have e0:w1.cell? ⟨w.heap.size,0,none⟩=some (.int .i64 0):=kBf.cell 0;have e1:w1.cell? ⟨w.heap.size,1,none⟩=some (.string ⟨#[]⟩):=kBf.cell 1;have e2:w1.cell? ⟨w.heap.size,2,none⟩=some (.int .u8 0):=kBf.cell 2;have e3:w1.cell? ⟨w.heap.size,3,none⟩=some (.slice none 0 0):=kBf.cell 3;have e4:w1.cell? ⟨w.heap.size,4,none⟩=some (.int .i64 0):=kBf.cell 4;have ff2:∀ i,w1.frozen? ⟨w.heap.size,i,none⟩=false:=kBf.frozen;go_wp2_with fail;refine bodyPost_ret (v:=.agg #[(.int .i64 1),(.string (Lx.hd ts)),.int .u8 0,(.slice none 0 0),.int .i64 (Lx.pl ts:Int)]) (by simp[results,Tryz.results151,go_sem,e0,e1,e2,e3,e4]) rfl ?_
 refine REnds.yes HPM.out (((((M1.new (Nat.le_refl _) _ _).new (Nat.le_refl _) _ _).new (Nat.le_refl _) _ _).new (Nat.le_refl _) _ _).new (Nat.le_refl _) _ _) X1 (((((h3.other _ _ (by omega) f1B).other _ _ (by omega) f1B).other _ _ (by omega) f1B).other _ _ (by omega) f1B).other _ _ (by omega) f1B) ⟨_,rfl,?_⟩;refine AltsIn.move (fun b hb=>?_) (fun b hb=>⟨by have:=hb.1;omega,by simpa [World.setCell]using hb.2.1,hb.2.2⟩) hv1;have hbb:b≠w.heap.size:=by have:=hb.1;omega
 rw[Below.heap_setCell _ _ _ _ hbb,Below.heap_setCell _ _ _ _ hbb,Below.heap_setCell _ _ _ _ hbb,Below.heap_setCell _ _ _ _ hbb,Below.heap_setCell _ _ _ _ hbb]
end
end Go.Proofs.YtlcppnabbicmoaaGreatDoor

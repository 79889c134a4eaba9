import Derived.Test.YtlcppnabbicmoaaGreatDoorMG01
import Derived.Deep.RegionHeld3
import Derived.Deep.RegionLaw
import Derived.Lib.Builder
import Derived.Lib.AppendStr
import Derived.Lib.UnsafeStr
import Derived.Laws.Externs
set_option maxHeartbeats 8000000
set_option maxRecDepth 1000000
namespace Go.Proofs.YtlcppnabbicmoaaGreatDoor
open Lx Go.Proofs.Tryz
open Go.RowKit
open Lx (Tk)
theorem ai0 (s:ByteArray) (w:World) (hlim:s.size<=281474976710656) :
  Calls prog 133 #[.string s] w fun e w'=>e=.returned (.string s)/\Below w.heap.size w w':=Tryz.stringslite_Clone s w hlim
theorem O9 (s:ByteArray) (w:World) (hlim:s.size<=2000) :
  Calls prog 99 #[.string s] w fun e w'=>e=.returned (.string s)/\Below w.heap.size w w':=by
 go_enter func99,ntmps99
 go_wp2_with (go_at_call 133;refine (ai0 _ _ (by omega)).mono ?_;rintro e w' ⟨rfl,hb⟩)
 go_ret;exact⟨rfl,hb⟩
theorem El {w w':World}(h:Below w.heap.size w w')(r:Option Nat):w.grownBy w' r:=⟨h.os,h.tape,h.output,h.size,fun k hk _=>h.block k hk⟩
theorem Rd.below {sb cap:Nat}{L:List Tk}{p:Nat}{w w':World}{ts:List Tk}{o:Int}(h:Rd sb cap L p w ts o)(hb:Below w.heap.size w w'):Rd sb cap L p w' ts o :=
 h.grown (El hb none) (by simp) (by simp)
theorem Xm {b:ByteArray}(h:Lx.isName b=true):b≠aM:=by
 intro e;subst e;revert h;decide
theorem OQ {b:ByteArray}(h:Lx.isToken b=true):b≠aM:=by
 intro e;subst e;revert h;decide
theorem Xn {sb cap:Nat} {L:List Tk} {p:Nat} {w:World} {ts:List Tk} {o:Int} (h:Rd sb cap L p w ts o) :
  Calls prog 143 #[.pointer (some ⟨p,0,none⟩),.func (.func 45) #[] #[]] w (Ends sb cap L p o LW w (dz Lx.isName ts)):=by
 have hsz:=h.hsz;cases hd:Lx.isName (Lx.hd ts)
 ·have hm:dz Lx.isName ts=.error (2,Lx.pl ts):=if_neg (by rw[hd];simp)
  have HD:Hid _:=hd;have HM:Hid _:=hm;clear hd hm;go_enter func143,ntmps143
  go_wp2_with (first
   | (go_at_call 87;refine (oz h).mono ?_;rintro e w' ⟨rfl,hw⟩;obtain rfl:=hw.symm)
   | (go_at_call 45;refine (BR _ _ hsz).mono ?_;rintro e w' ⟨rfl,hw⟩;obtain rfl:=hw.symm;rw[HD.out])
   | (go_at_call 144;refine (KZ h 2).mono ?_;rintro e w' ⟨rfl,hw⟩;obtain rfl:=hw.symm))
  exact⟨rfl,Ends.no HM.out (BQ _ _)⟩
 ·have hm:dz Lx.isName ts=.ok (Lx.hd ts,ts.tail):=if_pos hd
  have HN:Hid (Lx.hd ts≠aM):=Xm hd;have HD:Hid _:=hd;have HM:Hid _:=hm;clear hd hm;go_enter func143,ntmps143
  go_wp2_with (first
   | (go_at_call 87;refine (oz h).mono ?_;rintro e w' ⟨rfl,hw⟩;obtain rfl:=hw.symm)
   | (go_at_call 45;refine (BR _ _ hsz).mono ?_;rintro e w' ⟨rfl,hw⟩;obtain rfl:=hw.symm;rw[HD.out])
   | (go_at_call 121;refine (Cb h HN.out).mono ?_;rintro e w1 ⟨rfl,hg,hr⟩)
   | (go_at_call 99;refine (O9 _ _ hsz).mono ?_;rintro e w2 ⟨rfl,hb⟩))
  go_ret;exact Ends.yes HM.out (aY hg (El hb _)) (hr.below hb) rfl
theorem Y5 {sb cap:Nat} {L:List Tk} {p:Nat} {w:World} {ts:List Tk} {o:Int} (h:Rd sb cap L p w ts o) :
  Calls prog 124 #[.pointer (some ⟨p,0,none⟩)] w (Ends sb cap L p o LW w (dz Lx.isName ts)):=by
 cases hr:dz Lx.isName ts with
 | error x =>
  obtain⟨n,a⟩:=x;have HR:Hid _:=hr;clear hr;go_enter func124,ntmps124
  go_wp2_with (go_at_call 143;refine (Xn h).mono ?_;intro e w' he;obtain⟨rfl,hg⟩:=he.err HR.out)
  exact⟨rfl,Ends.no rfl hg⟩
 | ok x =>
  obtain⟨b,ts'⟩:=x;have HR:Hid _:=hr;clear hr;go_enter func124,ntmps124
  go_wp2_with (go_at_call 143;refine (Xn h).mono ?_;intro e w' he;obtain⟨v,rfl,hg,hrd,rfl⟩:=he.ok HR.out)
  go_ret;exact Ends.yes rfl hg hrd rfl
theorem Wl {sb cap:Nat} {L:List Tk} {p:Nat} {w:World} {ts:List Tk} {o:Int} (h:Rd sb cap L p w ts o) :
  Calls prog 143 #[.pointer (some ⟨p,0,none⟩),.func (.func 47) #[] #[]] w (Ends sb cap L p o LW w (dz Lx.isToken ts)):=by
 have hsz:=h.hsz;cases hd:Lx.isToken (Lx.hd ts)
 ·have hm:dz Lx.isToken ts=.error (2,Lx.pl ts):=if_neg (by rw[hd];simp)
  have HD:Hid _:=hd;have HM:Hid _:=hm;clear hd hm;go_enter func143,ntmps143
  go_wp2_with (first
   | (go_at_call 87;refine (oz h).mono ?_;rintro e w' ⟨rfl,hw⟩;obtain rfl:=hw.symm)
   | (go_at_call 47;refine (Ki _ _ hsz).mono ?_;rintro e w' ⟨rfl,hw⟩;obtain rfl:=hw.symm;rw[HD.out])
   | (go_at_call 144;refine (KZ h 2).mono ?_;rintro e w' ⟨rfl,hw⟩;obtain rfl:=hw.symm))
  exact⟨rfl,Ends.no HM.out (BQ _ _)⟩
 ·have hm:dz Lx.isToken ts=.ok (Lx.hd ts,ts.tail):=if_pos hd
  have HN:Hid (Lx.hd ts≠aM):=OQ hd;have HD:Hid _:=hd;have HM:Hid _:=hm;clear hd hm;go_enter func143,ntmps143
  go_wp2_with (first
   | (go_at_call 87;refine (oz h).mono ?_;rintro e w' ⟨rfl,hw⟩;obtain rfl:=hw.symm)
   | (go_at_call 47;refine (Ki _ _ hsz).mono ?_;rintro e w' ⟨rfl,hw⟩;obtain rfl:=hw.symm;rw[HD.out])
   | (go_at_call 121;refine (Cb h HN.out).mono ?_;rintro e w1 ⟨rfl,hg,hr⟩)
   | (go_at_call 99;refine (O9 _ _ hsz).mono ?_;rintro e w2 ⟨rfl,hb⟩))
  go_ret;exact Ends.yes HM.out (aY hg (El hb _)) (hr.below hb) rfl
theorem Aa {sb cap:Nat} {L:List Tk} {p:Nat} {w:World} {ts:List Tk} {o:Int} (h:Rd sb cap L p w ts o) :
  Calls prog 122 #[.pointer (some ⟨p,0,none⟩)] w (Ends sb cap L p o LW w (dz Lx.isToken ts)):=by
 cases hr:dz Lx.isToken ts with
 | error x =>
  obtain⟨n,a⟩:=x;have HR:Hid _:=hr;clear hr;go_enter func122,ntmps122
  go_wp2_with (go_at_call 143;refine (Wl h).mono ?_;intro e w' he;obtain⟨rfl,hg⟩:=he.err HR.out)
  exact⟨rfl,Ends.no rfl hg⟩
 | ok x =>
  obtain⟨b,ts'⟩:=x;have HR:Hid _:=hr;clear hr;go_enter func122,ntmps122
  go_wp2_with (go_at_call 143;refine (Wl h).mono ?_;intro e w' he;obtain⟨v,rfl,hg,hrd,rfl⟩:=he.ok HR.out)
  go_ret;exact Ends.yes rfl hg hrd rfl
end Go.Proofs.YtlcppnabbicmoaaGreatDoor
namespace Go.Proofs.YtlcppnabbicmoaaGreatDoor
open Lx Go.Proofs.Tryz
open Go.RowKit
open Lx (Tk)
theorem lU {a:ByteArray}{l:List UInt8}(h:a≠⟨l.toArray⟩):(a.toList == l)=false:=by
 rw[ByteArray.toList_eq];exact beq_eq_false_iff_ne.2 fun e=>h (ByteArray.ext (by rw[<-e]))
theorem Qj {sb cap:Nat} {L:List Tk} {p:Nat} {w:World} {ts:List Tk} {o:Int} (h:Rd sb cap L p w ts o) :
  Calls prog 159 #[.pointer (some ⟨p,0,none⟩)] w fun e w'=>e=.returned (.int .u8 ((bK ts).1:Int))/\w.grownBy w' (some p)/\Rd sb cap L p w' (bK ts).2 o:=by
 by_cases h1:Lx.hd ts=jE
 ·have HM:Hid (bK ts=(42,ts.tail)):=if_pos h1
  have HN:Hid (Lx.hd ts≠aM):=by rw[h1];show _≠_;decide
  have H1:Hid (Lx.hd ts=⟨#[42]⟩):=h1;clear h1;go_enter func159,ntmps159
  go_wp2_with (first
   | (go_at_call 87;refine (oz h).mono ?_;rintro e w' ⟨rfl,hw⟩;obtain rfl:=hw.symm;rw[H1.out])
   | (go_at_call 121;refine (Cb h HN.out).mono ?_;rintro e w1 ⟨rfl,hg,hr⟩))
  go_ret;rw[HM.out];exact⟨rfl,hg,hr⟩
 by_cases h2:Lx.hd ts=kP
 ·have HM:Hid (bK ts=(43,ts.tail)):=by show _=_;unfold bK;rw[if_neg h1,if_pos h2]
  have HN:Hid (Lx.hd ts≠aM):=by rw[h2];show _≠_;decide
  have H1:Hid (Lx.hd ts=⟨#[43]⟩):=h2;clear h1 h2;go_enter func159,ntmps159
  go_wp2_with (first
   | (go_at_call 87;refine (oz h).mono ?_;rintro e w' ⟨rfl,hw⟩;obtain rfl:=hw.symm;rw[H1.out])
   | (go_at_call 121;refine (Cb h HN.out).mono ?_;rintro e w1 ⟨rfl,hg,hr⟩))
  go_ret;rw[HM.out];exact⟨rfl,hg,hr⟩
 by_cases h3:Lx.hd ts=mR
 ·have HM:Hid (bK ts=(63,ts.tail)):=by show _=_;unfold bK;rw[if_neg h1,if_neg h2,if_pos h3]
  have HN:Hid (Lx.hd ts≠aM):=by rw[h3];show _≠_;decide
  have H1:Hid (Lx.hd ts=⟨#[63]⟩):=h3;clear h1 h2 h3;go_enter func159,ntmps159
  go_wp2_with (first
   | (go_at_call 87;refine (oz h).mono ?_;rintro e w' ⟨rfl,hw⟩;obtain rfl:=hw.symm;rw[H1.out])
   | (go_at_call 121;refine (Cb h HN.out).mono ?_;rintro e w1 ⟨rfl,hg,hr⟩))
  go_ret;rw[HM.out];exact⟨rfl,hg,hr⟩
 have HM:Hid (bK ts=(0,ts)):=by show _=_;unfold bK;rw[if_neg h1,if_neg h2,if_neg h3]
 have g1:((Lx.hd ts).toList == [42])=false:=lU h1;have g2:((Lx.hd ts).toList == [43])=false:=lU h2;have g3:((Lx.hd ts).toList == [63])=false:=lU h3;clear h1 h2 h3;go_enter func159,ntmps159
 go_wp2_with (first
  | (go_at_call 87;refine (oz h).mono ?_;rintro e w' ⟨rfl,hw⟩;obtain rfl:=hw.symm))
 go_ret;rw[HM.out];exact⟨rfl,BQ _ _,h⟩
theorem Gt (b:ByteArray) (w:World) :
  Calls prog 86 #[.string b] w fun e w'=>e=.returned (.int .i64 (fM b))/\w'=w:=by
 by_cases h1:b=Ap
 ·subst h1
  unfold Ap;go_enter func86,ntmps86
  go_wp2
  go_ret;exact⟨rfl,rfl⟩
 by_cases h2:b=Ak
 ·subst h2
  unfold Ak;go_enter func86,ntmps86
  go_wp2
  go_ret;exact⟨rfl,rfl⟩
 by_cases h3:b=Aq
 ·subst h3
  unfold Aq;go_enter func86,ntmps86
  go_wp2
  go_ret;exact⟨rfl,rfl⟩
 have HM:Hid (fM b=-1):=by show _=_;unfold fM;rw[if_neg h1,if_neg h2,if_neg h3]
 have g1:(b.toList == [37,108,101,102,116])=false:=lU h1;have g2:(b.toList == [37,114,105,103,104,116])=false:=lU h2;have g3:(b.toList == [37,110,111,110,101])=false:=lU h3;clear h1 h2 h3;go_enter func86,ntmps86
 go_wp2
 go_ret;rw[HM.out];exact⟨rfl,rfl⟩
theorem Gx {sb cap:Nat} {L:List Tk} {p:Nat} {w:World} {ts:List Tk} {o:Int} (h:Rd sb cap L p w ts o) :
  Calls prog 152 #[.pointer (some ⟨p,0,none⟩)] w fun e w'=>e=.returned (.bool (kJ ts))/\w'=w:=by
 have hsz:=h.hsz;cases h1:decide (Lx.hd ts=jr)
 ·cases h2:Lx.isName (Lx.hd ts)
  ·have HM:Hid (kJ ts=Lx.isToken (Lx.hd ts)):=by show _=_;unfold kJ;rw[h1,h2];simp
   have H1:Hid _:=h1;have H2:Hid _:=h2;clear h1 h2;go_enter func152,ntmps152
   go_wp2_with (first
    | (go_at_call 87;refine (oz h).mono ?_;rintro e w' ⟨rfl,hw⟩;obtain rfl:=hw.symm)
    | (go_at_call 90;refine (vC h jr).mono ?_;rintro e w' ⟨rfl,hw⟩;obtain rfl:=hw.symm;rw[H1.out])
    | (go_at_call 45;refine (BR _ _ hsz).mono ?_;rintro e w' ⟨rfl,hw⟩;obtain rfl:=hw.symm;rw[H2.out])
    | (go_at_call 47;refine (Ki _ _ hsz).mono ?_;rintro e w' ⟨rfl,hw⟩;obtain rfl:=hw.symm))
   go_ret;rw[HM.out];exact⟨rfl,rfl⟩
  ·have HM:Hid (kJ ts=true):=by show _=_;unfold kJ;rw[h1,h2];simp
   have H1:Hid _:=h1;have H2:Hid _:=h2;clear h1 h2;go_enter func152,ntmps152
   go_wp2_with (first
    | (go_at_call 87;refine (oz h).mono ?_;rintro e w' ⟨rfl,hw⟩;obtain rfl:=hw.symm)
    | (go_at_call 90;refine (vC h jr).mono ?_;rintro e w' ⟨rfl,hw⟩;obtain rfl:=hw.symm;rw[H1.out])
    | (go_at_call 45;refine (BR _ _ hsz).mono ?_;rintro e w' ⟨rfl,hw⟩;obtain rfl:=hw.symm;rw[H2.out]))
   go_ret;rw[HM.out];exact⟨rfl,rfl⟩
 ·have HM:Hid (kJ ts=true):=by show _=_;unfold kJ;rw[h1];simp
  have H1:Hid _:=h1;clear h1;go_enter func152,ntmps152
  go_wp2_with (first
   | (go_at_call 90;refine (vC h jr).mono ?_;rintro e w' ⟨rfl,hw⟩;obtain rfl:=hw.symm;rw[H1.out]))
  go_ret;rw[HM.out];exact⟨rfl,rfl⟩
end Go.Proofs.YtlcppnabbicmoaaGreatDoor
namespace Go.Proofs.YtlcppnabbicmoaaGreatDoor
open Lx Go.Proofs.Tryz
open Go.RowKit
open Lx (Tk)
open Tr
def YP:Lay:={ eA:=194,sA:=2,cA:=fun q=>[q.1,.string q.2.2.1],eI:=187,sI:=4,cI:=fun q=>[.int .i64 (q.2.kind:Int),.string q.2.name,.int .u8 (q.2.mark:Int),q.1] }
def Cm (d lo:Nat)(w':World)(v:Value)(l:List Lx.Alt):Prop:=fD YP d (In lo w'.heap.size) w' v l
def LX (d lo:Nat)(w':World)(v:Value)(it:Lx.It):Prop:=∃ va,v=.agg #[.int .i64 (it.kind:Int),.string it.name,.int .u8 (it.mark:Int),va]/\fD YP d (In lo w'.heap.size) w' va it.alts
def akc (d lo:Nat)(w':World)(v:Value)(a:Lx.Alt):Prop:=∃ vi,v=.agg #[vi,.string a.2.1]/\rJ YP d (In lo w'.heap.size) w' vi a.1
def PL (d:Nat):Prop:=∀ (sb cap:Nat) (L:List Tk) (p:Nat) (w:World) (ts:List Tk) (o:Int),o=8 - (d:Int)->Rd sb cap L p w ts o ->
 Calls prog 126 #[.pointer (some ⟨p,0,none⟩)] w (Ends sb cap L p o (Cm (d+1) w.heap.size) w (iN d ts))
def KN (d:Nat):Prop:=∀ (sb cap:Nat) (L:List Tk) (p:Nat) (w:World) (ts:List Tk) (o:Int),o=8 - (d:Int)->Rd sb cap L p w ts o->Lx.hd ts=jr ->
 Calls prog 158 #[.pointer (some ⟨p,0,none⟩)] w (Ends sb cap L p o (Cm d w.heap.size) w (bE d ts))
def Yk (d:Nat):Prop:=∀ (sb cap:Nat) (L:List Tk) (p:Nat) (w:World) (ts:List Tk) (o:Int),o=8 - (d:Int)->Rd sb cap L p w ts o->kJ ts=true ->
 Calls prog 153 #[.pointer (some ⟨p,0,none⟩)] w (Ends sb cap L p o (LX d w.heap.size) w (dh (bE d) ts))
def Y6 (d:Nat):Prop:=∀ (sb cap:Nat) (L:List Tk) (p:Nat) (w:World) (ts:List Tk) (o:Int),o=8 - (d:Int)->Rd sb cap L p w ts o ->
 Calls prog 145 #[.pointer (some ⟨p,0,none⟩)] w (Ends sb cap L p o (akc d w.heap.size) w (dJ (bE d) (d == 8) ts))
theorem Cm.move {d lo lo':Nat}{w w':World}{v:Value}{l:List Lx.Alt}(h:Cm d lo w v l)(hlo:lo'<=lo){r:Option Nat}(hg:w.grownBy w' r)(hr:∀ k,r=some k->k<lo):Cm d lo' w' v l :=
 fD.move (fun b hb=>hg.block b hb.2 fun e=>by have:=hr b e.symm;have:=hb.1;omega) (fun b hb=>⟨Nat.le_trans hlo hb.1,Nat.lt_of_lt_of_le hb.2 hg.size⟩) h
theorem afX:KN 0:=by
 intro sb cap L p w ts o ho h hd;have hop:=h.op;have h8:(o == 8)=true:=beq_iff_eq.2 (by simpa using ho);have HO:Hid _:=ho;have HD:Hid _:=hd;clear ho hd;go_enter func158,ntmps158;go_wp2_with fail;refine (KZ h 3).mono ?_;rintro e w' ⟨rfl,hw⟩;obtain rfl:=hw.symm;go_wp2_with fail;exact⟨rfl,Ends.no rfl (BQ _ _)⟩
theorem afY {d:Nat}(hd8:d<8)(HA:PL d):KN (d+1):=by
 intro sb cap L p w ts o ho h hd;have hop:=h.op;have hfz:=h.rV;have h8:(o == 8)=false:=beq_eq_false_iff_ne.2 (by omega);have hb0:0<=o:=by omega
 have hb1:o<=8:=by omega
 have HO:Hid (o+1=8 - (d:Int)):=by show _=_;omega
 have HD:Hid _:=hd;have HP:Hid (gU jr ts=.ok ((),ts.tail)):=if_pos hd;clear ho hd;have hR:=h.reopen (o+1);go_enter func158,ntmps158;go_wp2_with fail;refine (Kg hR jr (by decide)).mono ?_;intro e w1 he;obtain⟨v,rfl,hg1,hr1,rfl⟩:=he.ok HP.out;clear he;go_wp2_with fail;refine (HA sb cap L p _ _ _ HO.out hr1).mono ?_;intro e w2 he;have G1:=aY (gK w p 1 (.int .i64 (o+1))) hg1;cases hr2:iN d ts.tail with
 | error x =>
  obtain⟨n,a⟩:=x;obtain⟨rfl,hg2⟩:=he.err hr2;exact⟨rfl,Ends.no (by simp only[bE,mK,hr2]) (aY G1 hg2)⟩
 | ok x =>
  obtain⟨l,bL⟩:=x;obtain⟨v,rfl,hg2,H9,hv⟩:=he.ok hr2;have HR2:Hid _:=hr2;clear hr2 he;go_wp2_with fail;refine (Kg H9 sM (by decide)).mono ?_;intro e w3 he;have G2:=aY G1 hg2;cases hr3:gU sM bL with
  | error x =>
   obtain⟨n,a⟩:=x;obtain⟨rfl,hg3⟩:=he.err hr3;exact⟨rfl,Ends.no (by simp only[bE,mK,HR2.out,hr3]) (aY G2 hg3)⟩
  | ok x =>
   obtain⟨u,fu⟩:=x;obtain⟨v',rfl,hg3,Ct,rfl⟩:=he.ok hr3;have HR3:Hid _:=hr3;clear hr3 he;have G3:=aY G2 hg3;have amL:=Ct.op;have amM:=Ct.rV;go_wp2_with fail;go_ret;refine Ends.yes (x:=l) (ts':=fu) (by simp only[bE,mK,HR2.out,HR3.out]) (aY G3 (gK w3 p 1 _)) (Ct.reopen o) ?_;have hl1:=G1.size;have hp:=h.lt;exact (hv.move hl1 hg3 (fun k hk=>by cases hk;omega)).move (Nat.le_refl _) (gK w3 p 1 _) (fun k hk=>by cases hk;omega)
end Go.Proofs.YtlcppnabbicmoaaGreatDoor
namespace Go.Proofs.YtlcppnabbicmoaaGreatDoor
open Lx Go.Proofs.Tryz
open Go.RowKit
open Lx (Tk)
open Tr
def aj (w:World)(b:Nat)(cs:Array Value)(e:Nat):Prop:=w.heap[b]?=some (.cells cs e (0,0))
section
variable {w w':World} {b:Nat} {cs:Array Value} {e:Nat}
theorem aj.cell (h:aj w b cs e)(i:Nat):w.cell? ⟨b,i,none⟩=cs[i]?:=by
 unfold aj at h;simp[World.cell?,h]
theorem aj.frozen (h:aj w b cs e)(i:Nat):w.frozen? ⟨b,i,none⟩=false:=by
 unfold aj at h;simp[World.frozen?,h]
theorem aj.lt (h:aj w b cs e):b<w.heap.size:=(Array.getElem?_eq_some_iff.1 h).1
theorem aj.set (h:aj w b cs e)(i:Nat)(v:Value):aj (w.setCell ⟨b,i,none⟩ v) b (cs.setIfInBounds i v) e:=by
 unfold aj at *;simp[World.setCell,Array.getElem?_modify,h]
theorem aj.other (h:aj w b cs e){b' i:Nat}(hb:b'≠b)(v:Value):aj (w.setCell ⟨b',i,none⟩ v) b cs e:=by
 unfold aj at *;rw[Below.heap_setCell _ _ _ _ (Ne.symm hb)];exact h
theorem aj.alloc (h:aj w b cs e)(o:Obj):aj (w.alloc o) b cs e:=by
 have hl:=h.lt;unfold aj at *;rw[Below.heap_alloc _ _ _ hl];exact h
theorem aj.new (w:World)(cs:Array Value)(e:Nat):aj (w.alloc (.cells cs e)) w.heap.size cs e:=heap_alloc_new w _
theorem aj.grown (h:aj w b cs e){r:Option Nat}(hg:w.grownBy w' r)(hr:some b≠r):aj w' b cs e:=by
 have hl:=h.lt;unfold aj at *;rw[hg.block b hl hr];exact h
theorem cK (w:World)(o:Obj)(r:Option Nat):w.grownBy (w.alloc o) r:=World.grownBy_alloc w o r
end
theorem Rd.alloc {sb cap:Nat}{L:List Tk}{p:Nat}{w:World}{ts:List Tk}{o:Int}(h:Rd sb cap L p w ts o)(ob:Obj):Rd sb cap L p (w.alloc ob) ts o :=
 h.grown (cK w ob none) (by simp) (by simp)
theorem Rd.setOther {sb cap:Nat}{L:List Tk}{p:Nat}{w:World}{ts:List Tk}{o:Int}(h:Rd sb cap L p w ts o){b:Nat}(i:Nat)(v:Value)(hp:b≠p)(hs:b≠sb):Rd sb cap L p (w.setCell ⟨b,i,none⟩ v) ts o :=
 h.grown (gK w b i v) (by simp;exact Ne.symm hp) (by simp;exact Ne.symm hs)
theorem eU {w u:World}{r:Option Nat}(h:w.grownBy u r){b:Nat}(hb:w.heap.size<=b)(i:Nat)(v:Value):w.grownBy (u.setCell ⟨b,i,none⟩ v) r :=
 ⟨h.os,h.tape,h.output,by have:=h.size;simpa [World.setCell]using this,fun k hk hn=>(Below.heap_setCell _ _ _ _ (fun e=>by have e':k=b:=e;omega)).trans (h.block k hk hn)⟩
theorem agL {d:Nat} (sb cap:Nat) (L:List Tk) (p:Nat) (w:World) (ts:List Tk) (o:Int) (h:Rd sb cap L p w ts o) (hno:¬ Lx.hd ts=jr) (hn:Lx.isName (Lx.hd ts)=true) :
  Calls prog 153 #[.pointer (some ⟨p,0,none⟩)] w (Ends sb cap L p o (LX d w.heap.size) w (dh (bE d) ts)):=by
 have hsz:=h.hsz;have HP:Hid (dh (bE d) ts=.ok (⟨0,Lx.hd ts,(bK ts.tail).1,[],Lx.pl ts⟩,(bK ts.tail).2)):=by
  show _=_;unfold dh;rw[if_neg hno,if_pos hn]
 have HW:Hid (dz Lx.isName ts=.ok (Lx.hd ts,ts.tail)):=if_pos hn;have HN:Hid _:=hn;have HO:Hid _:=hno;clear hn hno;have h2:=(h.alloc (.cells #[.int .i64 0,.string ⟨#[]⟩,.int .u8 0,.slice none 0 0] 187)).alloc (.cells #[.int .i64 0,.string ⟨#[]⟩,.int .u8 0,.slice none 0 0] 187);have kB:=(aj.new w #[.int .i64 0,.string ⟨#[]⟩,.int .u8 0,.slice none 0 0] 187).alloc (.cells #[.int .i64 0,.string ⟨#[]⟩,.int .u8 0,.slice none 0 0] 187);have kC:=aj.new (w.alloc (.cells #[.int .i64 0,.string ⟨#[]⟩,.int .u8 0,.slice none 0 0] 187)) #[.int .i64 0,.string ⟨#[]⟩,.int .u8 0,.slice none 0 0] 187;have G0:=aY (cK w (.cells #[.int .i64 0,.string ⟨#[]⟩,.int .u8 0,.slice none 0 0] 187) (some p)) (cK _ (.cells #[.int .i64 0,.string ⟨#[]⟩,.int .u8 0,.slice none 0 0] 187) (some p));rw[show (w.alloc (.cells #[.int .i64 0,.string ⟨#[]⟩,.int .u8 0,.slice none 0 0] 187)).heap.size=w.heap.size+1 by simp]at kC;have hp:=h.lt;have hs:=h.y7;go_enter func153,ntmps153
 go_wp2_with (first
  | (go_at_call 87;refine (oz h2).mono ?_;rintro e w' ⟨rfl,hw⟩;obtain rfl:=hw.symm)
  | (go_at_call 90;refine (vC h2 jr).mono ?_;rintro e w' ⟨rfl,hw⟩;obtain rfl:=hw.symm;rw[decide_eq_false HO.out])
  | (go_at_call 45;refine (BR _ _ hsz).mono ?_;rintro e w' ⟨rfl,hw⟩;obtain rfl:=hw.symm;rw[HN.out]))
 refine (Y5 h2).mono ?_;intro e w1 he;obtain⟨v,rfl,hg1,hr1,rfl⟩:=he.ok HW.out;clear he;have kB1:=kB.grown hg1 (by simp;omega);have aR:=kC.grown hg1 (by simp;omega);have c0:w1.cell? ⟨w.heap.size+1,0,none⟩=some (.int .i64 0):=aR.cell 0;have c1:w1.cell? ⟨w.heap.size+1,1,none⟩=some (.string ⟨#[]⟩):=aR.cell 1;have f0:∀ i,w1.frozen? ⟨w.heap.size+1,i,none⟩=false:=aR.frozen;have h3:=(hr1.setOther (b:=w.heap.size+1) 0 (.int .i64 0) (by omega) (by omega)).setOther (b:=w.heap.size+1) 1 (.string (Lx.hd ts)) (by omega) (by omega);have kB2:=(kB1.other (b':=w.heap.size+1) (i:=0) (by omega) (.int .i64 0)).other (b':=w.heap.size+1) (i:=1) (by omega) (.string (Lx.hd ts));have fw:=(aR.set 0 (.int .i64 0)).set 1 (.string (Lx.hd ts));have G1:=aY G0 hg1;clear kB1 aR kB kC;go_wp2_with fail;refine (Qj h3).mono ?_;rintro e w2 ⟨rfl,hg2,hr2⟩;have kB3:=kB2.grown hg2 (by simp;omega);have bG:=fw.grown hg2 (by simp;omega);have d0:w2.cell? ⟨w.heap.size+1,0,none⟩=some (.int .i64 0):=bG.cell 0;have d1:w2.cell? ⟨w.heap.size+1,1,none⟩=some (.string (Lx.hd ts)):=bG.cell 1;have d2:w2.cell? ⟨w.heap.size+1,2,none⟩=some (.int .u8 0):=bG.cell 2;have d3:w2.cell? ⟨w.heap.size+1,3,none⟩=some (.slice none 0 0):=bG.cell 3;have e0:w2.cell? ⟨w.heap.size,0,none⟩=some (.int .i64 0):=kB3.cell 0;have e1:w2.cell? ⟨w.heap.size,1,none⟩=some (.string ⟨#[]⟩):=kB3.cell 1;have e2:w2.cell? ⟨w.heap.size,2,none⟩=some (.int .u8 0):=kB3.cell 2;have e3:w2.cell? ⟨w.heap.size,3,none⟩=some (.slice none 0 0):=kB3.cell 3;have f1:∀ i,w2.frozen? ⟨w.heap.size+1,i,none⟩=false:=bG.frozen
 have f2:∀ i,w2.frozen? ⟨w.heap.size,i,none⟩=false:=kB3.frozen;have G2:=aY (eU (eU G1 (by omega) 0 (.int .i64 0)) (by omega) 1 (.string (Lx.hd ts))) hg2;clear kB2 fw c0 c1 f0;go_wp2_with fail;refine bodyPost_ret (v:=.agg #[.int .i64 0,.string (Lx.hd ts),.int .u8 ((bK ts.tail).1:Int),.slice none 0 0]) (by simp[results,results153,go_sem,e0,e1,e2,e3]) rfl ?_;refine Ends.yes HP.out (eU (eU (eU (eU (eU G2 (by omega) _ _) (Nat.le_refl _) _ _) (Nat.le_refl _) _ _) (Nat.le_refl _) _ _) (Nat.le_refl _) _ _) ?_ ⟨_,rfl,fD.nil _ _ _ _⟩;exact ((((hr2.setOther _ _ (by omega) (by omega)).setOther _ _ (by omega) (by omega)).setOther _ _ (by omega) (by omega)).setOther _ _ (by omega) (by omega)).setOther _ _ (by omega) (by omega)
theorem afZ {d:Nat} (sb cap:Nat) (L:List Tk) (p:Nat) (w:World) (ts:List Tk) (o:Int) (h:Rd sb cap L p w ts o) (hno:¬ Lx.hd ts=jr) (hnn:Lx.isName (Lx.hd ts)=false) (hn:Lx.isToken (Lx.hd ts)=true) :
  Calls prog 153 #[.pointer (some ⟨p,0,none⟩)] w (Ends sb cap L p o (LX d w.heap.size) w (dh (bE d) ts)):=by
 have hsz:=h.hsz;have HP:Hid (dh (bE d) ts=.ok (⟨1,Lx.hd ts,(bK ts.tail).1,[],Lx.pl ts⟩,(bK ts.tail).2)):=by
  show _=_;unfold dh;rw[if_neg hno,if_neg (by rw[hnn];simp),if_pos hn]
 have HW:Hid (dz Lx.isToken ts=.ok (Lx.hd ts,ts.tail)):=if_pos hn;have HN:Hid _:=hn;have HO:Hid _:=hno;have kY:Hid _:=hnn;clear hn hno hnn;have h2:=(h.alloc (.cells #[.int .i64 0,.string ⟨#[]⟩,.int .u8 0,.slice none 0 0] 187)).alloc (.cells #[.int .i64 0,.string ⟨#[]⟩,.int .u8 0,.slice none 0 0] 187);have kB:=(aj.new w #[.int .i64 0,.string ⟨#[]⟩,.int .u8 0,.slice none 0 0] 187).alloc (.cells #[.int .i64 0,.string ⟨#[]⟩,.int .u8 0,.slice none 0 0] 187);have kC:=aj.new (w.alloc (.cells #[.int .i64 0,.string ⟨#[]⟩,.int .u8 0,.slice none 0 0] 187)) #[.int .i64 0,.string ⟨#[]⟩,.int .u8 0,.slice none 0 0] 187;have G0:=aY (cK w (.cells #[.int .i64 0,.string ⟨#[]⟩,.int .u8 0,.slice none 0 0] 187) (some p)) (cK _ (.cells #[.int .i64 0,.string ⟨#[]⟩,.int .u8 0,.slice none 0 0] 187) (some p));rw[show (w.alloc (.cells #[.int .i64 0,.string ⟨#[]⟩,.int .u8 0,.slice none 0 0] 187)).heap.size=w.heap.size+1 by simp]at kC;have hp:=h.lt;have hs:=h.y7;go_enter func153,ntmps153
 go_wp2_with (first
  | (go_at_call 87;refine (oz h2).mono ?_;rintro e w' ⟨rfl,hw⟩;obtain rfl:=hw.symm)
  | (go_at_call 90;refine (vC h2 jr).mono ?_;rintro e w' ⟨rfl,hw⟩;obtain rfl:=hw.symm;rw[decide_eq_false HO.out])
  | (go_at_call 45;refine (BR _ _ hsz).mono ?_;rintro e w' ⟨rfl,hw⟩;obtain rfl:=hw.symm;rw[kY.out]))
 refine (Aa h2).mono ?_;intro e w1 he;obtain⟨v,rfl,hg1,hr1,rfl⟩:=he.ok HW.out;clear he;have kB1:=kB.grown hg1 (by simp;omega);have aR:=kC.grown hg1 (by simp;omega);have c0:w1.cell? ⟨w.heap.size+1,0,none⟩=some (.int .i64 0):=aR.cell 0;have c1:w1.cell? ⟨w.heap.size+1,1,none⟩=some (.string ⟨#[]⟩):=aR.cell 1;have f0:∀ i,w1.frozen? ⟨w.heap.size+1,i,none⟩=false:=aR.frozen;have h3:=(hr1.setOther (b:=w.heap.size+1) 0 (.int .i64 1) (by omega) (by omega)).setOther (b:=w.heap.size+1) 1 (.string (Lx.hd ts)) (by omega) (by omega);have kB2:=(kB1.other (b':=w.heap.size+1) (i:=0) (by omega) (.int .i64 1)).other (b':=w.heap.size+1) (i:=1) (by omega) (.string (Lx.hd ts));have fw:=(aR.set 0 (.int .i64 1)).set 1 (.string (Lx.hd ts));have G1:=aY G0 hg1;clear kB1 aR kB kC;go_wp2_with fail;refine (Qj h3).mono ?_;rintro e w2 ⟨rfl,hg2,hr2⟩;have kB3:=kB2.grown hg2 (by simp;omega);have bG:=fw.grown hg2 (by simp;omega);have d0:w2.cell? ⟨w.heap.size+1,0,none⟩=some (.int .i64 1):=bG.cell 0;have d1:w2.cell? ⟨w.heap.size+1,1,none⟩=some (.string (Lx.hd ts)):=bG.cell 1;have d2:w2.cell? ⟨w.heap.size+1,2,none⟩=some (.int .u8 0):=bG.cell 2;have d3:w2.cell? ⟨w.heap.size+1,3,none⟩=some (.slice none 0 0):=bG.cell 3;have e0:w2.cell? ⟨w.heap.size,0,none⟩=some (.int .i64 0):=kB3.cell 0;have e1:w2.cell? ⟨w.heap.size,1,none⟩=some (.string ⟨#[]⟩):=kB3.cell 1;have e2:w2.cell? ⟨w.heap.size,2,none⟩=some (.int .u8 0):=kB3.cell 2;have e3:w2.cell? ⟨w.heap.size,3,none⟩=some (.slice none 0 0):=kB3.cell 3;have f1:∀ i,w2.frozen? ⟨w.heap.size+1,i,none⟩=false:=bG.frozen
 have f2:∀ i,w2.frozen? ⟨w.heap.size,i,none⟩=false:=kB3.frozen;have G2:=aY (eU (eU G1 (by omega) 0 (.int .i64 1)) (by omega) 1 (.string (Lx.hd ts))) hg2;clear kB2 fw c0 c1 f0;go_wp2_with fail;refine bodyPost_ret (v:=.agg #[.int .i64 1,.string (Lx.hd ts),.int .u8 ((bK ts.tail).1:Int),.slice none 0 0]) (by simp[results,results153,go_sem,e0,e1,e2,e3]) rfl ?_;refine Ends.yes HP.out (eU (eU (eU (eU (eU G2 (by omega) _ _) (Nat.le_refl _) _ _) (Nat.le_refl _) _ _) (Nat.le_refl _) _ _) (Nat.le_refl _) _ _) ?_ ⟨_,rfl,fD.nil _ _ _ _⟩;exact ((((hr2.setOther _ _ (by omega) (by omega)).setOther _ _ (by omega) (by omega)).setOther _ _ (by omega) (by omega)).setOther _ _ (by omega) (by omega)).setOther _ _ (by omega) (by omega)
theorem af0 {d:Nat} (HG:KN d) (sb cap:Nat) (L:List Tk) (p:Nat) (w:World) (ts:List Tk) (o:Int) (ho:o=8 - (d:Int)) (h:Rd sb cap L p w ts o) (hn:Lx.hd ts=jr) :
  Calls prog 153 #[.pointer (some ⟨p,0,none⟩)] w (Ends sb cap L p o (LX d w.heap.size) w (dh (bE d) ts)):=by
 have HN:Hid (Lx.hd ts=jr):=hn;have HO:Hid (o=8 - (d:Int)):=ho;clear hn ho;have h2:=(h.alloc (.cells #[.int .i64 0,.string ⟨#[]⟩,.int .u8 0,.slice none 0 0] 187)).alloc (.cells #[.int .i64 0,.string ⟨#[]⟩,.int .u8 0,.slice none 0 0] 187);have kB:=(aj.new w #[.int .i64 0,.string ⟨#[]⟩,.int .u8 0,.slice none 0 0] 187).alloc (.cells #[.int .i64 0,.string ⟨#[]⟩,.int .u8 0,.slice none 0 0] 187);have kC:=aj.new (w.alloc (.cells #[.int .i64 0,.string ⟨#[]⟩,.int .u8 0,.slice none 0 0] 187)) #[.int .i64 0,.string ⟨#[]⟩,.int .u8 0,.slice none 0 0] 187;have G0:=aY (cK w (.cells #[.int .i64 0,.string ⟨#[]⟩,.int .u8 0,.slice none 0 0] 187) (some p)) (cK _ (.cells #[.int .i64 0,.string ⟨#[]⟩,.int .u8 0,.slice none 0 0] 187) (some p));rw[show (w.alloc (.cells #[.int .i64 0,.string ⟨#[]⟩,.int .u8 0,.slice none 0 0] 187)).heap.size=w.heap.size+1 by simp]at kC;have hp:=h.lt;have hs:=h.y7;go_enter func153,ntmps153
 go_wp2_with (first
  | (go_at_call 90;refine (vC h2 jr).mono ?_;rintro e w' ⟨rfl,hw⟩;obtain rfl:=hw.symm;rw[decide_eq_true HN.out]))
 refine (HG sb cap L p _ ts o HO.out h2 HN.out).mono ?_;intro e w1 he;cases hgr:bE d ts with
 | error x =>
  obtain⟨n,a⟩:=x;obtain⟨rfl,hg1⟩:=he.err hgr;exact⟨rfl,Ends.no (by unfold dh;rw[if_pos HN.out,hgr]) (aY G0 hg1)⟩
 | ok x =>
  obtain⟨l,aC⟩:=x;obtain⟨v,rfl,hg1,hr1,hv⟩:=he.ok hgr;obtain⟨va,vk,vc,rfl⟩:=fD.form hv;have HP:Hid (dh (bE d) ts=.ok (⟨2,aM,(bK aC).1,l,Lx.pl ts⟩,(bK aC).2)):=by
   show _=_;unfold dh;rw[if_pos HN.out,hgr]
  clear he hgr;have kB1:=kB.grown hg1 (by simp;omega);have aR:=kC.grown hg1 (by simp;omega);have c0:w1.cell? ⟨w.heap.size+1,0,none⟩=some (.int .i64 0):=aR.cell 0;have c1:w1.cell? ⟨w.heap.size+1,3,none⟩=some (.slice none 0 0):=aR.cell 3;have f0:∀ i,w1.frozen? ⟨w.heap.size+1,i,none⟩=false:=aR.frozen;have h3:=(hr1.setOther (b:=w.heap.size+1) 0 (.int .i64 2) (by omega) (by omega)).setOther (b:=w.heap.size+1) 3 (.slice va vk vc) (by omega) (by omega);have kB2:=(kB1.other (b':=w.heap.size+1) (i:=0) (by omega) (.int .i64 2)).other (b':=w.heap.size+1) (i:=3) (by omega) (.slice va vk vc);have fw:=(aR.set 0 (.int .i64 2)).set 3 (.slice va vk vc);have G1:=aY G0 hg1;rw[show ((w.alloc (.cells #[.int .i64 0,.string ⟨#[]⟩,.int .u8 0,.slice none 0 0] 187)).alloc (.cells #[.int .i64 0,.string ⟨#[]⟩,.int .u8 0,.slice none 0 0] 187)).heap.size=w.heap.size+2 by simp]at hv;clear kB1 aR kB kC;go_wp2_with fail;refine (Qj h3).mono ?_;rintro e w2 ⟨rfl,hg2,hr2⟩;have kB3:=kB2.grown hg2 (by simp;omega);have bG:=fw.grown hg2 (by simp;omega);have d0:w2.cell? ⟨w.heap.size+1,0,none⟩=some (.int .i64 2):=bG.cell 0;have d1:w2.cell? ⟨w.heap.size+1,1,none⟩=some (.string ⟨#[]⟩):=bG.cell 1;have d2:w2.cell? ⟨w.heap.size+1,2,none⟩=some (.int .u8 0):=bG.cell 2;have d3:w2.cell? ⟨w.heap.size+1,3,none⟩=some (.slice va vk vc):=bG.cell 3;have e0:w2.cell? ⟨w.heap.size,0,none⟩=some (.int .i64 0):=kB3.cell 0;have e1:w2.cell? ⟨w.heap.size,1,none⟩=some (.string ⟨#[]⟩):=kB3.cell 1;have e2:w2.cell? ⟨w.heap.size,2,none⟩=some (.int .u8 0):=kB3.cell 2
  have e3:w2.cell? ⟨w.heap.size,3,none⟩=some (.slice none 0 0):=kB3.cell 3;have f1:∀ i,w2.frozen? ⟨w.heap.size+1,i,none⟩=false:=bG.frozen;have f2:∀ i,w2.frozen? ⟨w.heap.size,i,none⟩=false:=kB3.frozen;have G2:=aY (eU (eU G1 (by omega) 0 (.int .i64 2)) (by omega) 3 (.slice va vk vc)) hg2;have hv2:Cm d (w.heap.size+2) w2 (.slice va vk vc) l:=((hv.move (Nat.le_refl _) (gK w1 (w.heap.size+1) 0 (.int .i64 2)) (fun k hk=>by cases hk;omega)).move (Nat.le_refl _) (gK _ (w.heap.size+1) 3 (.slice va vk vc)) (fun k hk=>by cases hk;omega)).move (Nat.le_refl _) hg2 (fun k hk=>by cases hk;omega);clear kB2 fw c0 c1 f0 hv;go_wp2_with fail;refine bodyPost_ret (v:=.agg #[.int .i64 2,.string ⟨#[]⟩,.int .u8 ((bK aC).1:Int),.slice va vk vc]) (by simp[results,results153,go_sem,e0,e1,e2,e3]) rfl ?_;have g1:=gK w2 (w.heap.size+1) 2 (.int .u8 ((bK aC).1:Int));refine Ends.yes HP.out (eU (eU (eU (eU (eU G2 (by omega) _ _) (Nat.le_refl _) _ _) (Nat.le_refl _) _ _) (Nat.le_refl _) _ _) (Nat.le_refl _) _ _) ?_ ⟨_,rfl,?_⟩
  ·exact ((((hr2.setOther _ _ (by omega) (by omega)).setOther _ _ (by omega) (by omega)).setOther _ _ (by omega) (by omega)).setOther _ _ (by omega) (by omega)).setOther _ _ (by omega) (by omega)
  ·have m0:=hv2.move (lo':=w.heap.size) (by omega) g1 (fun k hk=>by cases hk;omega)
   have m1:=hv2.move (Nat.le_refl _) g1 (fun k hk=>by cases hk;omega);have m2:=m1.move (Nat.le_refl _) (gK _ w.heap.size 0 (.int .i64 2)) (fun k hk=>by cases hk;omega);have m3:=m2.move (Nat.le_refl _) (gK _ w.heap.size 1 (.string ⟨#[]⟩)) (fun k hk=>by cases hk;omega);have m4:=m3.move (Nat.le_refl _) (gK _ w.heap.size 2 (.int .u8 ((bK aC).1:Int))) (fun k hk=>by cases hk;omega);exact m4.move (by omega) (gK _ w.heap.size 3 (.slice va vk vc)) (fun k hk=>by cases hk;omega)
theorem Yl {d:Nat}(HG:KN d):Yk d:=by
 intro sb cap L p w ts o ho h uE
 by_cases h1:Lx.hd ts=jr
 ·exact af0 HG sb cap L p w ts o ho h h1
 ·cases h2:Lx.isName (Lx.hd ts)
  ·refine afZ sb cap L p w ts o h h1 h2 ?_
   unfold kJ at uE;rw[decide_eq_false h1,h2]at uE;simpa using uE
  ·exact agL sb cap L p w ts o h h1 h2
end Go.Proofs.YtlcppnabbicmoaaGreatDoor
namespace Go.Proofs.YtlcppnabbicmoaaGreatDoor
open Lx Go.Proofs.Tryz
open Go.RowKit
open Lx (Tk)
open Tr
theorem Tryz.ai1:(prog.info? 187).map (fun i=>(i.zero,i.size,i.bytes))=some (some (.agg #[.int .i64 0,.string ⟨#[]⟩,.int .u8 0,.slice none 0 0]),4,56):=by kernel_rfl
theorem Tryz.ai2:(prog.info? 194).map (fun i=>(i.zero,i.size,i.bytes))=some (some (.agg #[.slice none 0 0,.string ⟨#[]⟩]),2,40):=by kernel_rfl
theorem oq (w:World)(r:Option Nat):w.grownBy w.drew r:=⟨rfl,rfl,rfl,Nat.le_refl _,fun _ _ _=>rfl⟩
theorem Rd.drew {sb cap:Nat}{L:List Tk}{p:Nat}{w:World}{ts:List Tk}{o:Int}(h:Rd sb cap L p w ts o):Rd sb cap L p w.drew ts o :=
 h.grown (oq w none) (by simp) (by simp)
theorem aj.drew {w:World}{b:Nat}{cs:Array Value}{e:Nat}(h:aj w b cs e):aj w.drew b cs e:=h
theorem mZ {P:Program} {ops:Array Oper} {o:Oper} {a:Act} {w:World} {K:Act->World->Prop} {Q:Exit->Act->World->Prop} {E:Prop} (hgd:o.guard=none) (f:FuncId) (args:Array Value)
  (hrun:(execOp a.eval o).run P w=.ok (.enter f args) w) {R:Ending->World->Prop} (hc:Calls P f args w R) (h:∀ e w',R e w'->∃ v,e=.returned v/\K (a.put o.dst v) w') :
  if Region.wanted o (yielded ops a.tmps)=true then Oper.wp P o a w K Q else E:=by
 have hw:Region.wanted o (yielded ops a.tmps)=true:=by simp[Region.wanted,hgd]
 rw[if_pos hw];unfold Oper.wp;rw[hrun,Oper.upon_enter];refine hc.mono ?_;intro e w' hr;obtain⟨v,rfl,hk⟩:=h e w' hr;exact hk
theorem uj {P:Program} {ops:Array Oper} {o:Oper} {a:Act} {w:World} {K:Act->World->Prop} {Q:Exit->Act->World->Prop} {E:Prop} (hgd:o.guard=none) (f:FuncId) (args:Array Value)
  (hrun:(execOp a.eval o).run P w=.ok (.enter f args) w) {R:Ending->World->Prop} (hc:Calls P f args w R) (h:∀ e w',R e w'->∃ c,e=.panicked c/\Q (.panic c) a w') :
  if Region.wanted o (yielded ops a.tmps)=true then Oper.wp P o a w K Q else E:=by
 have hw:Region.wanted o (yielded ops a.tmps)=true:=by simp[Region.wanted,hgd]
 rw[if_pos hw];unfold Oper.wp;rw[hrun,Oper.upon_enter];refine hc.mono ?_;intro e w' hr;obtain⟨v,rfl,hk⟩:=h e w' hr;exact hk
theorem bP {w:World}{g:Nat}{cs:Array Value}{e:Nat}(h:aj w g cs e):∀ (j:Nat) (u:Value),cs.toList[j]?=some u->w.cell? ((⟨g,0,none⟩:Addr).add j)=some u:=by
 intro j u hu;have hadd:(⟨g,0,none⟩:Addr).add j=⟨g,j,none⟩:=by unfold Addr.add;split <;> simp_all
 rw[hadd,h.cell];simpa using hu
theorem BI {w u u2 u3:World}{r s:Option Nat}(h:w.grownBy u s)(h2:u.grownBy u2 none)(h3:u2.grownBy u3 r)(hr:∀ k,r=some k->w.heap.size<=k):w.grownBy u3 s :=
 ⟨h3.os.trans (h2.os.trans h.os),h3.tape.trans (h2.tape.trans h.tape),h3.output.trans (h2.output.trans h.output),Nat.le_trans h.size (Nat.le_trans h2.size h3.size),fun k hk hn =>
  (h3.block k (Nat.lt_of_lt_of_le hk (Nat.le_trans h.size h2.size)) (fun e=>by have:=hr k e.symm;omega)).trans ((h2.block k (Nat.lt_of_lt_of_le hk h.size) (by simp)).trans (h.block k hk hn))⟩
abbrev KA (d:Nat):(Nat->Prop)->World->Value->Lx.It->Prop:=fun F w va it=>fD YP d F w va it.alts
theorem Y7 {d:Nat}(HI:Yk d):Y6 d:=by
 intro sb cap L p w ts o ho h;obtain⟨i0,hi,hz0,hz1,hz2⟩:=info_parts Tryz.ai1;have hp:=h.lt;have hs:=h.y7;have HO:Hid (o=8 - (d:Int)):=ho;have hlb:=h.lb;have hlen:=h.len;clear ho;have h2:=(h.alloc (.cells #[.slice none 0 0,.string ⟨#[]⟩] 194)).alloc (.cells #[.slice none 0 0,.string ⟨#[]⟩] 194);have kB:=(aj.new w #[.slice none 0 0,.string ⟨#[]⟩] 194).alloc (.cells #[.slice none 0 0,.string ⟨#[]⟩] 194);have kC:=aj.new (w.alloc (.cells #[.slice none 0 0,.string ⟨#[]⟩] 194)) #[.slice none 0 0,.string ⟨#[]⟩] 194;have G0:=aY (cK w (.cells #[.slice none 0 0,.string ⟨#[]⟩] 194) (some p)) (cK _ (.cells #[.slice none 0 0,.string ⟨#[]⟩] 194) (some p));rw[show (w.alloc (.cells #[.slice none 0 0,.string ⟨#[]⟩] 194)).heap.size=w.heap.size+1 by simp]at kC;go_enter func145,ntmps145;go_wp2_with fail
 go_loopg [] ts.length (fun k wr=>∃ (aB:List Tk) (acc:List Lx.It) (v:Value) (f:Nat),aB.length=k/\aB.length<=f/\acc.length+aB.length<=ts.length/\w.heap.size+2<=wr.heap.size/\Rd sb cap L p wr aB o/\aj wr (w.heap.size+1) #[v,.string ⟨#[]⟩] 194/\aj wr w.heap.size #[.slice none 0 0,.string ⟨#[]⟩] 194 /\
   mP (w.heap.size+2) wr 187 4 YP.cI (KA d) v acc/\w.grownBy wr (some p)/\Hid (dU (bE d) f aB acc=dU (bE d) ts.length ts []))
 case atStart=>exact⟨ts,[],_,ts.length,rfl,Nat.le_refl _,by simp,by simp,h2,kC,kB,mP.nil _ _ _ _ _ _,G0,rfl⟩
 case round =>
  obtain⟨aB,acc,v,f,hk,hf,hacc,hsz,hr,aR,kB1,hgrow,hg,hpi⟩:=hrel;clear h2 kB kC G0;cases uE:kJ aB
  ·have HS:Hid _:=uE
   clear uE;have Ia:dU (bE d) ts.length ts []=.ok (acc,aB):=by
    rw[<-hpi.out];have hne:=hr.wf.ne;obtain⟨f',rfl⟩:∃ f',f=f'+1:=⟨f-1,by omega⟩;simp only[dU];rw[if_neg (by rw[HS.out];simp)]
   have rW:Hid (dJ (bE d) (d == 8) ts=mq (d == 8) acc aB):=by
    show _=_;unfold dJ;rw[Ia]
   clear Ia hpi;have hop:=hr.op;have hseq:=hgrow.seq;obtain⟨va,vk,vc,rfl⟩:=eO.form hseq;have c0:wr.cell? ⟨w.heap.size+1,0,none⟩=some (.slice va vk vc):=aR.cell 0;have c1:wr.cell? ⟨w.heap.size+1,1,none⟩=some (.string ⟨#[]⟩):=aR.cell 1;have b0:wr.cell? ⟨w.heap.size,0,none⟩=some (.slice none 0 0):=kB1.cell 0;have b1:wr.cell? ⟨w.heap.size,1,none⟩=some (.string ⟨#[]⟩):=kB1.cell 1;have fB:∀ i,wr.frozen? ⟨w.heap.size,i,none⟩=false:=kB1.frozen;have fC:∀ i,wr.frozen? ⟨w.heap.size+1,i,none⟩=false:=aR.frozen
   by_cases h8:d=8
   ·have o0:(o == 0)=true:=beq_iff_eq.2 (by have:=HO.out;omega)
    by_cases hpr:Lx.hd aB=jf
    ·have hnx:Lx.hd aB≠aM:=by rw[hpr];decide
     have Sn:Hid (Lx.hd aB=jf):=hpr;have H8:Hid (d=8):=h8;clear hpr h8
     go_wp2_with (first
      | (go_at_call 152;refine (Gx hr).mono ?_;rintro e w' ⟨rfl,hw⟩;obtain rfl:=hw.symm;rw[HS.out]))
     refine (Ko hr jf (by decide) Sn.out).mono ?_;rintro e w1 ⟨rfl,hg1,hr1⟩;have fw:=aR.grown hg1 (by simp;omega);have kB2:=kB1.grown hg1 (by simp;omega);go_wp2_with fail;refine (Aa hr1).mono ?_;intro e w2 he;cases hpw:dz Lx.isToken aB.tail with
     | error x =>
      obtain⟨n,a⟩:=x;obtain⟨rfl,hg2⟩:=he.err hpw;exact⟨rfl,Ends.no (by rw[rW.out];unfold mq;rw[if_pos ⟨by simp[H8.out],Sn.out⟩,hpw]) (aY (aY hg hg1) hg2)⟩
     | ok x =>
      obtain⟨b,bL⟩:=x;obtain⟨v,rfl,hg2,hr2,rfl⟩:=he.ok hpw;have HP:Hid (dJ (bE d) (d == 8) ts=.ok ((acc,b,Lx.pl aB.tail),bL)):=by
       show _=_;rw[rW.out];unfold mq;rw[if_pos ⟨by simp[H8.out],Sn.out⟩,hpw]
      clear hpw he;have bG:=fw.grown hg2 (by simp;omega);have kB3:=kB2.grown hg2 (by simp;omega);have d0:w2.cell? ⟨w.heap.size+1,0,none⟩=some (.slice va vk vc):=bG.cell 0;have d1:w2.cell? ⟨w.heap.size+1,1,none⟩=some (.string ⟨#[]⟩):=bG.cell 1;have e0:w2.cell? ⟨w.heap.size,0,none⟩=some (.slice none 0 0):=kB3.cell 0;have e1:w2.cell? ⟨w.heap.size,1,none⟩=some (.string ⟨#[]⟩):=kB3.cell 1;have fB2:∀ i,w2.frozen? ⟨w.heap.size,i,none⟩=false:=kB3.frozen;have fC2:∀ i,w2.frozen? ⟨w.heap.size+1,i,none⟩=false:=bG.frozen;go_wp2_with fail;refine bodyPost_ret (v:=.agg #[.slice va vk vc,.string b]) (by simp[results,results145,go_sem,e0,e1]) rfl ?_;refine Ends.yes HP.out (eU (eU (eU (aY (aY hg hg1) hg2) (by omega) _ _) (Nat.le_refl _) _ _) (Nat.le_refl _) _ _) (((hr2.setOther _ _ (by omega) (by omega)).setOther _ _ (by omega) (by omega)).setOther _ _ (by omega) (by omega)) ⟨_,rfl,?_⟩;refine rJ.move (F:=In (w.heap.size+2) wr.heap.size) (w:=wr) (fun b hb=>?_) (fun b hb=>?_) hseq
      ·have h1:=hb.1
       have h2:=hb.2;have g1:=hg1.size;rw[Below.heap_setCell _ _ _ _ (fun e=>by have e':b=w.heap.size:=e;omega),Below.heap_setCell _ _ _ _ (fun e=>by have e':b=w.heap.size:=e;omega),Below.heap_setCell _ _ _ _ (fun e=>by have e':b=w.heap.size+1:=e;omega),hg2.block b (by omega) (by simp;omega),hg1.block b h2 (by simp;omega)]
      ·have h1:=hb.1
       have h2:=hb.2;have g1:=hg1.size;have g2:=hg2.size;exact⟨by omega,by simp[World.setCell];omega⟩
    ·have HP:Hid (dJ (bE d) (d == 8) ts=.ok ((acc,aM,0),aB)):=by
      show _=_;rw[rW.out];unfold mq;rw[if_neg (fun hh=>hpr hh.2)]
     have HR:Hid _:=hpr;clear hpr h8 rW
     go_wp2_with (first
      | (go_at_call 152;refine (Gx hr).mono ?_;rintro e w' ⟨rfl,hw⟩;obtain rfl:=hw.symm;rw[HS.out])
      | (go_at_call 123;refine (GN hr jf HR.out).mono ?_;rintro e w' ⟨rfl,hw⟩;obtain rfl:=hw.symm))
     refine bodyPost_ret (v:=.agg #[.slice va vk vc,.string ⟨#[]⟩]) (by simp[results,results145,go_sem,b0,b1]) rfl ?_;refine Ends.yes HP.out (eU (eU hg (Nat.le_refl _) _ _) (Nat.le_refl _) _ _) ((hr.setOther _ _ (by omega) (by omega)).setOther _ _ (by omega) (by omega)) ⟨_,rfl,?_⟩;refine rJ.move (F:=In (w.heap.size+2) wr.heap.size) (w:=wr) (fun b hb=>?_) (fun b hb=>?_) hseq
     ·have h1:=hb.1
      rw[Below.heap_setCell _ _ _ _ (fun e=>by have e':b=w.heap.size:=e;omega),Below.heap_setCell _ _ _ _ (fun e=>by have e':b=w.heap.size:=e;omega)]
     ·have h1:=hb.1
      have h2:=hb.2;exact⟨by omega,by simpa [World.setCell]using h2⟩
   ·have o0:(o == 0)=false:=beq_eq_false_iff_ne.2 (by have:=HO.out;omega)
    have HP:Hid (dJ (bE d) (d == 8) ts=.ok ((acc,aM,0),aB)):=by
     show _=_;rw[rW.out];unfold mq;rw[if_neg (fun hh=>h8 (by simpa using hh.1))]
    clear h8 rW
    go_wp2_with (first
     | (go_at_call 152;refine (Gx hr).mono ?_;rintro e w' ⟨rfl,hw⟩;obtain rfl:=hw.symm;rw[HS.out]))
    refine bodyPost_ret (v:=.agg #[.slice va vk vc,.string ⟨#[]⟩]) (by simp[results,results145,go_sem,b0,b1]) rfl ?_;refine Ends.yes HP.out (eU (eU hg (Nat.le_refl _) _ _) (Nat.le_refl _) _ _) ((hr.setOther _ _ (by omega) (by omega)).setOther _ _ (by omega) (by omega)) ⟨_,rfl,?_⟩;refine rJ.move (F:=In (w.heap.size+2) wr.heap.size) (w:=wr) (fun b hb=>?_) (fun b hb=>?_) hseq
    ·have h1:=hb.1
     rw[Below.heap_setCell _ _ _ _ (fun e=>by have e':b=w.heap.size:=e;omega),Below.heap_setCell _ _ _ _ (fun e=>by have e':b=w.heap.size:=e;omega)]
    ·have h1:=hb.1
     have h2:=hb.2;exact⟨by omega,by simpa [World.setCell]using h2⟩
  ·have HS:Hid _:=uE
   clear uE;obtain⟨ps,F,hgb⟩:=hgrow;have hown:=hgb.2.1;obtain⟨va,vk,vc,rfl⟩:=sG hown;have c0:wr.cell? ⟨w.heap.size+1,0,none⟩=some (.slice va vk vc):=aR.cell 0;have f0:∀ i,wr.frozen? ⟨w.heap.size+1,i,none⟩=false:=aR.frozen;have iw:=hr.drew;have lC:=aY hg (oq wr (some p));have hne:=hr.wf.ne;obtain⟨f',rfl⟩:∃ f',f=f'+1:=⟨f-1,by omega⟩;cases hit:dh (bE d) aB with
   | error x =>
    obtain⟨n,a⟩:=x;have HE:Hid (dJ (bE d) (d == 8) ts=.error (n,a)):=by
     show _=_;unfold dJ;rw[<-hpi.out];simp only[dU];rw[if_pos HS.out,hit]
    have HIT:Hid _:=hit;clear hit hpi
    go_wp2_with (first
     | (go_at_call 152;refine (Gx hr).mono ?_;rintro e w' ⟨rfl,hw⟩;obtain rfl:=hw.symm;rw[HS.out]))
    refine wp_region_any (by kernel_rfl) ?_;refine wpAny_take (i:=0) (v:=.pointer (some ⟨w.heap.size+1,0,none⟩)) rfl (by kernel_rfl) (by kernel_rfl) (by kernel_rfl) (fun _ _ _ h=>h) (Or.inl ⟨by rfl,fun w=>by go_simp⟩) ?_;refine wpAny_take (i:=2) (v:=.pointer (some ⟨p,0,none⟩)) rfl (by kernel_rfl) (by kernel_rfl) (by kernel_rfl) (fun _ _ _ h=>h) (Or.inl ⟨by rfl,fun w=>by go_simp⟩) ?_;refine wpAny_ready (rs:=[1,3]) (by kernel_rfl) (by simp) ?_;refine AllReady.cons rfl (fun K hK=>?_) (AllReady.cons rfl (fun K hK=>?_) AllReady.nil)
    ·change if _ then Oper.wp _ _ _ wr.drew _ _ else _
     go_simp
     refine hK _ _ ?_;clear hK K;refine wpAny_ready (rs:=[3]) (by kernel_rfl) (by simp) ?_;refine AllReady.cons rfl (fun K hK=>?_) AllReady.nil;exact uj rfl 153 #[.pointer (some ⟨p,0,none⟩)] (by go_simp) (HI sb cap L p _ aB o HO.out iw HS.out) fun e w1 he=>by obtain⟨rfl,hg1⟩:=he.err HIT.out;exact⟨_,rfl,rfl,Ends.no HE.out (aY lC hg1)⟩
    ·change if _ then Oper.wp _ _ _ wr.drew _ _ else _
     exact uj rfl 153 #[.pointer (some ⟨p,0,none⟩)] (by go_simp) (HI sb cap L p _ aB o HO.out iw HS.out) fun e w1 he=>by obtain⟨rfl,hg1⟩:=he.err HIT.out;exact⟨_,rfl,rfl,Ends.no HE.out (aY lC hg1)⟩
   | ok x =>
    obtain⟨it,aC⟩:=x;have hl1:=Et (zV d) hit;have hl2:=hr.wf.mJ;have ko:Hid (dU (bE d) f' aC (acc++[it])=dU (bE d) ts.length ts []):=by
     show _=_;rw[<-hpi.out];simp only[dU];rw[if_pos HS.out,hit]
    have HIT:Hid _:=hit;clear hit hpi
    go_wp2_with (first
     | (go_at_call 152;refine (Gx hr).mono ?_;rintro e w' ⟨rfl,hw⟩;obtain rfl:=hw.symm;rw[HS.out]))
    go_region_law (first
     | (refine step_append_lies _ rfl (.tmp 7) (.tmp 10) 192 rfl (w.heap.size+2) 187 i0 _ 4 56 underlying192 hi hz0 hz1 hz2 rfl (by decide) (.slice va vk vc) acc.length (ps.flatMap YP.cI) (by simp[Act.eval]) (hown1.alloc _) ⟨w1.heap.size,0,none⟩ 1 1 (YP.cI (.slice xa xk xc,it)) (by simp[Act.eval]) rfl (bP (aj.new w1 _ 187)) (by simp[YP,Value.oneCell']) (by decide) (by unfold maxLen;omega) (by omega) (by have:=hg1.size;simp at this;simp;omega) _ rfl ?_;intro g cap' w3 hown3 hgrow3 hat hlt;have bG:=(fw.alloc _).grown hgrow3 (fun e=>by have:=(hown.lt _ e.symm).1;omega);have c03:w3.cell? ⟨w.heap.size+1,0,none⟩=some (.slice va vk vc):=bG.cell 0;have oI:∀ i,w3.frozen? ⟨w.heap.size+1,i,none⟩=false:=bG.frozen)
     | (refine mZ rfl 153 #[.pointer (some ⟨p,0,none⟩)] (by go_simp) (HI sb cap L p _ aB o HO.out iw HS.out) ?_;intro e w1 he;obtain⟨vv,rfl,hg1,hr1,hv1⟩:=he.ok HIT.out;refine⟨_,rfl,?_⟩;obtain⟨vx,rfl,hax⟩:=hv1;obtain⟨xa,xk,xc,rfl⟩:=fD.form hax;have hown1:=((hgb.kept (Gq YP d) (oq wr none) (by simp)).kept (Gq YP d) hg1 (fun k hk=>by cases hk;omega)).2.1;have fw:=aR.drew.grown hg1 (by simp;omega);have Sq:w1.cell? ⟨w.heap.size+1,0,none⟩=some (.slice va vk vc):=fw.cell 0;have hlt2:=fw.lt))
    all_goals
     have G3:=vz.push (Gq YP d) (hgb.kept (Gq YP d) (oq wr none) (by simp)) (p:=p) (by omega) (by simpa using hsz) hg1 (.slice xa xk xc,it) hax (cK w1 _ none) hown3 hgrow3 hat;have kB3:=((kB1.drew.grown hg1 (by simp;omega)).alloc _).grown hgrow3 (fun e=>by have:=(hown.lt _ e.symm).1;omega);have hr3:=(hr1.alloc _).grown hgrow3 (fun e=>by have:=(hown.lt _ e.symm).1;omega) (fun e=>by have:=(hown.lt _ e.symm).1;omega);have Na:=BI (aY lC hg1) (cK w1 _ none) hgrow3 (fun k hk=>by have:=(hown.lt _ hk).1;omega);have hs3:=hgrow3.size;have hs1:=hg1.size;have hsD:wr.drew.heap.size=wr.heap.size:=rfl;have hsA:(w1.alloc (.cells (YP.cI (.slice xa xk xc,it)).toArray 187)).heap.size=w1.heap.size+1:=by simp
     clear hown3 hgrow3 hat hown1 fw Sq c0 f0 hax;go_wp2_with fail;go_roundg aC.length
     case measure=>omega
     case rel =>
      refine⟨aC,acc++[it],_,f',rfl,by omega,by simp;omega,?_,hr3.setOther _ _ (by omega) (by omega),bG.set 0 _,kB3.other (by omega) _,?_,eU Na (by omega) _ _,ko⟩
      ·simp only[World.setCell,Array.size_modify];have:=hs3;simp at this;omega
      ·exact mP.kept (Gq YP d) G3 (gK w3 (w.heap.size+1) 0 _) (fun k hk=>by cases hk;omega)
end Go.Proofs.YtlcppnabbicmoaaGreatDoor
namespace Go.Proofs.YtlcppnabbicmoaaGreatDoor
open Lx Go.Proofs.Tryz
open Go.RowKit
open Tr
theorem flat_get {α:Type} (c:Value × α->List Value) (s:Nat) (hc:∀ q,(c q).length=s):∀ (ps:List (Value × α)) (j i:Nat) (q:Value × α),ps[j]?=some q->i<s->(ps.flatMap c)[j*s+i]?=(c q)[i]?
 | [],_,_,_,h,_=>by simp at h
 | p::ps,0,i,q,h,hi=>by
  simp at h;subst h;rw[List.flatMap_cons,Nat.zero_mul,Nat.zero_add,List.getElem?_append_left (by rw[hc];exact hi)]
 | p::ps,j+1,i,q,h,hi=>by
  have h':ps[j]?=some q:=by simpa using h
  rw[List.flatMap_cons,List.getElem?_append_right (by rw[hc,Nat.succ_mul];omega),hc,show (j+1)*s+i-s=j*s+i by rw[Nat.succ_mul];omega];exact flat_get c s hc ps j i q h' hi
theorem Tr.Seq.at {α:Type} {F:Nat->Prop} {w:World} {e s:Nat} {c:Value × α->List Value} {K:Value->α->Prop} {v:Value} {l:List α} (h:Tr.Seq F w e s c K v l) (hc:∀ q,(c q).length=s) {j:Nat} (hj:j<l.length) :
  ∃ g cap vk,v=.slice (some ⟨g,0,none⟩) l.length cap/\F g/\K vk l[j]/\∀ i,i<s->w.cell? ⟨g,j*s+i,none⟩=(c (vk,l[j]))[i]?:=by
 obtain⟨ps,h1,h2,h3,h4⟩:=h;obtain⟨g,cap,rfl,-,-⟩:=h2.form (by omega);have hl:ps.length=l.length:=by rw[<-h1];simp
 have hq:ps[j]?=some ps[j]:=List.getElem?_eq_getElem (by omega);have h5:(ps[j]).2=l[j]:=by
  have:(ps.map Prod.snd)[j]?=l[j]?:=by rw[h1]
  rw[List.getElem?_map,hq,List.getElem?_eq_getElem hj]at this;simpa using this
 refine⟨g,cap,(ps[j]).1,rfl,h3 g rfl,?_,?_⟩
 ·rw[<-h5];exact h4 _ (List.getElem_mem _)
 ·intro i hi
  have hlt:j*s+i<l.length*s:=by
   have:(j+1)*s<=l.length*s:=Nat.mul_le_mul_right s hj;rw[Nat.succ_mul]at this;omega
  rw[h2.cellAt (j*s+i) hlt,flat_get c s hc ps j i _ hq hi,<-h5]
theorem Tr.Seq.len {α:Type}{F:Nat->Prop}{w:World}{e s:Nat}{c:Value × α->List Value}{K:Value->α->Prop}{v:Value}{l:List α}(h:Tr.Seq F w e s c K v l):∃ a cap,v=.slice a l.length cap/\l.length<=maxLen:=by
 obtain⟨ps,h1,h2,h3,h4⟩:=h;exact aI h2
theorem ay.len {Y:Lay}{d:Nat}{F:Nat->Prop}{w:World}{v:Value}{l:List Lx.Alt}(h:ay Y d F w v l):∃ a cap,v=.slice a l.length cap/\l.length<=maxLen:=by
 cases d with
 | zero=>obtain⟨rfl,rfl⟩:=h;exact⟨_,_,rfl,Nat.zero_le _⟩
 | succ d=>exact Seq.len h
end Go.Proofs.YtlcppnabbicmoaaGreatDoor
namespace Go.Proofs.YtlcppnabbicmoaaGreatDoor
open Lx Go.Proofs.Tryz
open Go.RowKit
open Tr
structure DG (F:Nat->Prop) (w:World) (vL vR:Value) (g:Lx.Gr):Prop where
 lt:∀ b,F b->b<w.heap.size
 lv:Tr.Seq F w 137 3 xK (FC F w) vL g.levels
 rl:Tr.Seq F w 99 3 Da (Sl F w) vR g.rules
theorem Tr.Seq.mv {α:Type}{F:Nat->Prop}{w w':World}{e s:Nat}{c:Value × α->List Value}{K:(Nat->Prop)->World->Value->α->Prop}{v:Value}{l:List α}(hm:jP K)(h:Tr.Seq F w e s c (K F w) v l)(hs:∀ b,F b->w'.heap[b]?=w.heap[b]?):Tr.Seq F w' e s c (K F w') v l :=
 h.move hs (fun _ h=>h) fun _ _ h=>hm F F w w' _ _ hs (fun _ h=>h) h
theorem DG.move {F:Nat->Prop}{w w':World}{vL vR:Value}{g:Lx.Gr}(h:DG F w vL vR g)(hs:∀ b,F b->w'.heap[b]?=w.heap[b]?)(hl:w.heap.size<=w'.heap.size):DG F w' vL vR g :=
 ⟨fun b hb=>Nat.lt_of_lt_of_le (h.lt b hb) hl,h.lv.mv kI hs,h.rl.mv (ug YR 9) hs⟩
theorem DG.below {F:Nat->Prop}{w w':World}{vL vR:Value}{g:Lx.Gr}(h:DG F w vL vR g)(hb:Below w.heap.size w w'):DG F w' vL vR g :=
 h.move (fun b hF=>hb.block b (h.lt b hF)) hb.size
theorem DG.rule {F:Nat->Prop}{w:World}{vL vR:Value}{g:Lx.Gr}(h:DG F w vL vR g){j:Nat}(hj:j<g.rules.length):∃ b cap va,vR=.slice (some ⟨b,0,none⟩) g.rules.length cap/\F b/\ay YR 9 F w va g.rules[j].alts/\w.cell? ⟨b,j*3,none⟩=some (.string g.rules[j].name)/\w.cell? ⟨b,j*3+1,none⟩=some va/\w.cell? ⟨b,j*3+2,none⟩=some (.int .i64 (g.rules[j].place:Int)):=by
 obtain⟨b,cap,va,h1,h2,h3,h4⟩:=Seq.at h.rl (fun _=>rfl) hj;exact⟨b,cap,va,h1,h2,h3,h4 0 (by decide),h4 1 (by decide),h4 2 (by decide)⟩
theorem DG.level {F:Nat->Prop} {w:World} {vL vR:Value} {g:Lx.Gr} (h:DG F w vL vR g) {j:Nat} (hj:j<g.levels.length):∃ b cap vT vA,vL=.slice (some ⟨b,0,none⟩) g.levels.length cap/\F b/\w.ownsRow 0 9 1 vT g.levels[j].tokens.length (g.levels[j].tokens.map fun t=>.string t.1)/\w.ownsRow 0 3 1 vA g.levels[j].tokens.length (g.levels[j].tokens.map fun t=>.int .i64 (t.2:Int))/\(∀ g,vT.ownBlock=some g->F g)/\(∀ g,vA.ownBlock=some g->F g) /\
  w.cell? ⟨b,j*3,none⟩=some (.int .i64 (g.levels[j].kind:Int))/\w.cell? ⟨b,j*3+1,none⟩=some vT/\w.cell? ⟨b,j*3+2,none⟩=some vA:=by
 obtain⟨b,cap,vk,h1,h2,⟨vT,vA,rfl,k1,k2,k3,k4⟩,h4⟩:=Seq.at h.lv (fun _=>rfl) hj;exact⟨b,cap,vT,vA,h1,h2,k1,k2,k3,k4,h4 0 (by decide),h4 1 (by decide),h4 2 (by decide)⟩
theorem DG.o9 {F:Nat->Prop}{w:World}{vL vR:Value}{g:Lx.Gr}(h:DG F w vL vR g):∃ a c,vR=.slice a g.rules.length c/\g.rules.length<=maxLen:=Seq.len h.rl
theorem DG.qm {F:Nat->Prop}{w:World}{vL vR:Value}{g:Lx.Gr}(h:DG F w vL vR g):∃ a c,vL=.slice a g.levels.length c/\g.levels.length<=maxLen:=Seq.len h.lv
def Lx.uw (g:Lx.Gr):List ByteArray:=g.rules.map fun r=>r.name
theorem BS {F:Nat->Prop} {w:World} {vL vR:Value} {g:Lx.Gr} (h:DG F w vL vR g) (b:ByteArray) :
  Calls prog 107 #[.agg #[vL,vR],.string b] w fun e w'=>e=.returned (.int .i64 (bA (uw g) b))/\Below w.heap.size w w':=by
 obtain⟨a,c,rfl,hm⟩:=h.o9;obtain⟨a',c',rfl,-⟩:=h.qm;unfold maxLen at hm;have hln:(uw g).length=g.rules.length:=by simp[uw]
 go_enter func107,ntmps107;have kb:=aj.new w #[.slice a' g.levels.length c',.slice a g.rules.length c] 49;go_wp2_with fail
 go_loopg [5] g.rules.length (fun k i wr=>∃ j:Nat,j+k=g.rules.length/\i=.int .i64 j/\wr=w.alloc (.cells #[.slice a' g.levels.length c',.slice a g.rules.length c] 49)/\∀ i,i<j->(uw g)[i]?≠some b)
 case atStart=>exact⟨0,by omega,rfl,rfl,fun i h=>by omega⟩
 case round =>
  obtain⟨j,hk,rfl,rfl,hno⟩:=hrel;have hb:Below w.heap.size w (w.alloc (.cells #[.slice a' g.levels.length c',.slice a g.rules.length c] 49)):=(Below.refl _ _).alloc (Nat.le_refl _) _;have c1:=kb.cell 1;have c1:(w.alloc (.cells #[.slice a' g.levels.length c',.slice a g.rules.length c] 49)).cell? ⟨w.heap.size,1,none⟩=some (.slice a g.rules.length c):=c1
  by_cases hlt:j<g.rules.length
  ·obtain⟨gb,cap,va,hv,hF,hA,d0,d1,d2⟩:=(h.below hb).rule hlt
   cases hv;have hx:(uw g)[j]?=some g.rules[j].name:=by unfold uw;rw[List.getElem?_map,List.getElem?_eq_getElem hlt];rfl
   generalize g.rules[j]=x at d0 d1 d2 hx
   by_cases hxb:x.name=b
   ·have hne:(x.name.toList == b.toList)=true:=by rw[Cc];simpa using hxb
    go_wp2_with fail
    all_goals
     go_ret;exact⟨by rw[QE (hxb ▸ hx) hno];rfl,hb⟩
   ·have hne:(x.name.toList == b.toList)=false:=by rw[Cc];simpa using hxb
    go_wp2_with fail;go_roundg (g.rules.length - (j+1))
    case measure=>omega
    case rel =>
     refine⟨j+1,by omega,by go_num,rfl,fun i hi=>?_⟩;rcases Nat.lt_succ_iff_lt_or_eq.1 hi with h' | rfl
     ·exact hno i h'
     ·rw[hx];exact fun e=>hxb (Option.some.inj e)
  ·have:j=g.rules.length:=by omega
   subst this;go_wp2_with fail;go_ret;exact⟨by rw[Yj (by rw[hln];exact hno)];rfl,hb⟩
def Lx.lvls (g:Lx.Gr)(b:ByteArray):Bool:=g.levels.any fun lv=>decide (0<=bA (lv.tokens.map Prod.fst) b)
theorem K3 {w:World}{vT:Value}{l:List Lx.Tk}(h:w.ownsRow 0 9 1 vT l.length (l.map fun t=>.string t.1)):w.ownsRow 0 9 1 vT (l.map Prod.fst).length ((l.map Prod.fst).map Value.string):=by
 rw[List.map_map,List.length_map];exact h
theorem VH {F:Nat->Prop} {w:World} {vL vR:Value} {g:Lx.Gr} (h:DG F w vL vR g) (b:ByteArray) :
  Calls prog 108 #[.agg #[vL,vR],.string b] w fun e w'=>e=.returned (.bool (Lx.lvls g b))/\Below w.heap.size w w':=by
 obtain⟨a,c,rfl,-⟩:=h.o9;obtain⟨a',c',rfl,hm⟩:=h.qm;unfold maxLen at hm;go_enter func108,ntmps108;have kb:=aj.new w #[.slice a' g.levels.length c',.slice a g.rules.length c] 49;go_wp2_with fail
 go_loopg [5] g.levels.length (fun k i wr=>∃ j:Nat,j+k=g.levels.length/\i=.int .i64 j/\Below (w.heap.size+1) (w.alloc (.cells #[.slice a' g.levels.length c',.slice a g.rules.length c] 49)) wr/\∀ i lv,i<j->g.levels[i]?=some lv->¬ 0<=bA (lv.tokens.map Prod.fst) b)
 case atStart=>exact⟨0,by omega,rfl,Below.refl _ _,fun i _ h=>by omega⟩
 case round =>
  obtain⟨j,hk,rfl,hbl,hno⟩:=hrel;have hsz:=hbl.size;simp at hsz;have hb:Below w.heap.size w wr:=((Below.refl w.heap.size w).alloc (Nat.le_refl _) _).trans (hbl.mono (by omega));have kr:aj wr w.heap.size _ 49:=(hbl.block _ (by omega)).trans kb;have c1:wr.cell? ⟨w.heap.size,0,none⟩=some (.slice a' g.levels.length c'):=kr.cell 0
  by_cases hlt:j<g.levels.length
  ·obtain⟨gb,cap,vT,vA,hv,hF,hT,hA,-,-,d0,d1,d2⟩:=(h.below hb).level hlt
   cases hv;have hx:g.levels[j]?=some g.levels[j]:=List.getElem?_eq_getElem hlt;generalize g.levels[j]=x at d0 d1 d2 hx hT hA;obtain⟨ta,tc,rfl,-⟩:=aI hT;go_wp2_with fail;refine (Ez _ b _ _ (K3 hT)).mono ?_;rintro e w2 ⟨rfl,hb2⟩;have hr:=zZ (x.tokens.map Prod.fst) b;have hlT:(x.tokens.map Prod.fst).length<=maxLen:=(aI (K3 hT)).elim fun _ h=>h.elim fun _ h=>h.2
   have hb3:=hbl.trans (hb2.mono (show w.heap.size+1<=wr.heap.size by omega));have hb4:Below w.heap.size w w2:=hb.trans (hb2.mono hb.size)
   by_cases hin:0<=bA (x.tokens.map Prod.fst) b
   ·go_wp2_with fail
    all_goals
     go_ret;refine⟨?_,hb4⟩;have:Lx.lvls g b=true:=List.any_eq_true.2 ⟨x,List.mem_of_getElem? hx,by simpa using hin⟩;rw[this];rfl
   ·go_wp2_with fail
    go_roundg (g.levels.length - (j+1))
    case measure=>omega
    case rel =>
     refine⟨j+1,by omega,by go_num,hb3,fun i lv hi he=>?_⟩;rcases Nat.lt_succ_iff_lt_or_eq.1 hi with h' | rfl
     ·exact hno i lv h' he
     ·rw[hx]at he;cases he;exact hin
  ·go_wp2_with fail
   go_ret;refine⟨?_,hb⟩;have:Lx.lvls g b=false:=by
    refine List.any_eq_false.2 fun lv hlv=>?_
    obtain⟨i,hi,he⟩:=List.mem_iff_getElem.1 hlv;simpa using hno i lv (by omega) (by rw[List.getElem?_eq_getElem hi,he])
   rw[this];rfl
end Go.Proofs.YtlcppnabbicmoaaGreatDoor
namespace Go.Proofs.YtlcppnabbicmoaaGreatDoor
open Lx Go.Proofs.Tryz
open Go Go.RowKit
namespace Lx
theorem Lh (ts:List Tk):ts.tail.length<=ts.length:=by simp
theorem VI:∀ (f:Nat) (ts acc x ts':List Tk),iX f ts acc=.ok (x,ts')->ts'.length<=ts.length
 | 0,ts,acc,x,ts',h=>by simp only[iX,Except.ok.injEq,Prod.mk.injEq]at h;rw[h.2];exact Nat.le_refl _
 | f+1,ts,acc,x,ts',h=>by
  have h3:=Lh ts;simp only[iX]at h
  split at h
  ·simp only[Except.ok.injEq,Prod.mk.injEq]at h;rw[<-h.2];exact h3
  ·cases hr:dz isToken ts with
   | error e=>rw[hr]at h;cases h
   | ok y =>
    obtain⟨b,aC⟩:=y;rw[hr]at h;have h1:=(mY hr).1;have h2:=VI f aC _ x ts' h;rw[h1]at h2;omega
theorem Kr {ts ts':List Tk}{x:Lv}(h:gZ ts=.ok (x,ts')):ts'.length<=ts.tail.length:=by
 unfold gZ at h;cases hr:dz isToken ts.tail with
 | error e=>rw[hr]at h;cases h
 | ok y =>
  obtain⟨b,aC⟩:=y;rw[hr]at h;have h1:=(mY hr).1;cases hr2:iX aC.length aC [(b,pl ts.tail)] with
  | error e=>simp only[hr2]at h;cases h
  | ok z =>
   obtain⟨l,bL⟩:=z;simp only[hr2,Except.ok.injEq,Prod.mk.injEq]at h;have h2:=VI _ _ _ _ _ hr2;have h3:=Lh ts.tail;rw[<-h.2];rw[h1]at h2;omega
theorem GQ {ts ts':List Tk}{x:Rl}(h:dI ts=.ok (x,ts')):ts'.length<=ts.tail.length:=by
 unfold dI at h;cases hr:dz isName ts with
 | error e=>rw[hr]at h;cases h
 | ok y =>
  obtain⟨b,aC⟩:=y;rw[hr]at h;have h1:=(mY hr).1;cases hr2:gU kV aC with
  | error e=>simp only[hr2]at h;cases h
  | ok z =>
   obtain⟨u,bL⟩:=z;have h2:=(wY hr2).1;cases hr3:iN 8 bL with
   | error e=>simp only[hr2,hr3]at h;cases h
   | ok z =>
    obtain⟨l,fu⟩:=z;have h3:=KJ 8 _ _ _ hr3;cases hr4:gU iI fu with
    | error e=>simp only[hr2,hr3,hr4]at h;cases h
    | ok z =>
     obtain⟨u',fV⟩:=z;have h4:=(wY hr4).1;simp only[hr2,hr3,hr4,Except.ok.injEq,Prod.mk.injEq]at h;have h5:=Lh fu;have h6:=Lh aC;rw[<-h.2,h4];rw[h2]at h3;rw[h1]at h3 h6;omega
def G9 (lv:List Lv):aV (List Rl)->aV Gr
 | .error e=>.error e
 | .ok (l,ts)=>.ok (⟨lv,l⟩,ts)
def yJ (lv:List Lv)(aC:List Tk):aV Gr :=
 match dI aC with
 | .error e=>.error e
 | .ok (x,bL)=>G9 lv (iE bL.length bL [x])
def L8:aV (List Lv)->aV Gr
 | .error e=>.error e
 | .ok (lv,aC)=>yJ lv aC
theorem Gy (ts:List Tk):gX ts=L8 (fP ts.length ts []):=by
 unfold gX;cases h1:fP ts.length ts [] with
 | error e=>rfl
 | ok y =>
  obtain⟨lv,aC⟩:=y;simp only[L8,yJ];cases h2:dI aC with
  | error e=>rfl
  | ok z =>
   obtain⟨x,bL⟩:=z;simp only;cases h3:iE bL.length bL [x] with
   | error e=>rfl
   | ok q=>obtain⟨l,fu⟩:=q;rfl
end Lx
end Go.Proofs.YtlcppnabbicmoaaGreatDoor
namespace Go.Proofs.YtlcppnabbicmoaaGreatDoor
open Lx Go.Proofs.Tryz
open Go Go.RowKit
namespace Lx
def EP {α:Type}(r:aV α):Prop:=∀ e,r=.error e->0<e.1
theorem EP.ok {α:Type}(x:α × List Tk):EP (.ok x:aV α):=fun _ h=>by cases h
theorem EP.no {α:Type}{n a:Nat}(h:0<n):EP (.error (n,a):aV α):=fun _ e=>by cases e;exact h
theorem EP.up {α β:Type}{r:aV α}{e:Nat × Nat}(h:EP r)(hr:r=.error e):EP (.error e:aV β):=fun _ h'=>by cases h';exact h e hr
theorem K4 (k:ByteArray->Bool)(ts:List Tk):EP (dz k ts):=by
 unfold dz
 split
 ·exact EP.ok _
 ·exact EP.no (by decide)
theorem PN (b:ByteArray)(ts:List Tk):EP (gU b ts):=by
 unfold gU
 split
 ·exact EP.ok _
 ·exact EP.no (by decide)
theorem ahS {aF:List Tk->aV (List Alt)}(hg:∀ ts,EP (aF ts))(ts:List Tk):EP (dh aF ts):=by
 unfold dh
 split
 ·cases hr0:aF ts with
  | error e=>exact EP.up (hg ts) hr0
  | ok y0 =>
   obtain⟨x0,pE⟩:=y0;exact EP.ok _
 ·split
  ·exact EP.ok _
  ·split
   ·exact EP.ok _
   ·exact EP.no (by decide)
theorem Xo {aF:List Tk->aV (List Alt)} (hg:∀ ts,EP (aF ts)):∀ (f:Nat) (ts:List Tk) (acc:List It),EP (dU aF f ts acc)
 | 0,_,_=>EP.ok _
 | f+1,ts,acc=>by
  simp only[dU]
  split
  ·cases hr0:dh aF ts with
   | error e=>exact EP.up (ahS hg ts) hr0
   | ok y0 =>
    obtain⟨x0,pE⟩:=y0;exact Xo hg f _ _
  ·exact EP.ok _
theorem ahT (top:Bool)(items:List It)(ts:List Tk):EP (mq top items ts):=by
 unfold mq
 split
 ·cases hr0:dz isToken ts.tail with
  | error e=>exact EP.up (K4 _ _) hr0
  | ok y0 =>
   obtain⟨x0,pE⟩:=y0;exact EP.ok _
 ·exact EP.ok _
theorem Y8 {aF:List Tk->aV (List Alt)}(hg:∀ ts,EP (aF ts))(top:Bool)(ts:List Tk):EP (dJ aF top ts):=by
 unfold dJ;cases hr0:dU aF ts.length ts [] with
 | error e=>exact EP.up (Xo hg _ _ _) hr0
 | ok y0 =>
  obtain⟨x0,pE⟩:=y0;exact ahT _ _ _
theorem Ym {aF:List Tk->aV (List Alt)} (hg:∀ ts,EP (aF ts)) (top:Bool):∀ (f:Nat) (ts:List Tk) (acc:List Alt),EP (iZ aF top f ts acc)
 | 0,_,_=>EP.ok _
 | f+1,ts,acc=>by
  simp only[iZ]
  split
  ·cases hr0:dJ aF top ts.tail with
   | error e=>exact EP.up (Y8 hg _ _) hr0
   | ok y0 =>
    obtain⟨x0,pE⟩:=y0;exact Ym hg top f _ _
  ·exact EP.ok _
theorem Wm {aF:List Tk->aV (List Alt)}(hg:∀ ts,EP (aF ts))(top:Bool)(ts:List Tk):EP (ni aF top ts):=by
 unfold ni;cases hr0:dJ aF top ts with
 | error e=>exact EP.up (Y8 hg _ _) hr0
 | ok y0 =>
  obtain⟨x0,pE⟩:=y0;exact Ym hg _ _ _ _
theorem agM {r:List Tk->aV (List Alt)}(hr:∀ ts,EP (r ts))(ts:List Tk):EP (mK r ts):=by
 unfold mK;cases hr0:r ts.tail with
 | error e=>exact EP.up (hr _) hr0
 | ok y0 =>
  obtain⟨x0,pE⟩:=y0;simp only;cases hr1:gU sM pE with
  | error e=>exact EP.up (PN _ _) hr1
  | ok y1 =>
   obtain⟨x1,aC⟩:=y1;exact EP.ok _
theorem Yn:∀ (d:Nat) (ts:List Tk),EP (iN d ts)
 | 0,ts=>Wm (aF:=fun ts=>.error (3,pl ts)) (fun _=>EP.no (by decide)) _ _
 | d+1,ts=>Wm (agM (Yn d)) _ _
theorem Yo (ts:List Tk):EP (dI ts):=by
 unfold dI;cases hr0:dz isName ts with
 | error e=>exact EP.up (K4 _ _) hr0
 | ok y0 =>
  obtain⟨x0,pE⟩:=y0;simp only;cases hr1:gU kV pE with
  | error e=>exact EP.up (PN _ _) hr1
  | ok y1 =>
   obtain⟨x1,aC⟩:=y1;simp only;cases hr2:iN 8 aC with
   | error e=>exact EP.up (Yn _ _) hr2
   | ok y2 =>
    obtain⟨x2,bL⟩:=y2;simp only;cases hr3:gU iI bL with
    | error e=>exact EP.up (PN _ _) hr3
    | ok y3 =>
     obtain⟨x3,fu⟩:=y3;exact EP.ok _
theorem Wn:∀ (f:Nat) (ts acc:List Tk),EP (iX f ts acc)
 | 0,_,_=>EP.ok _
 | f+1,ts,acc=>by
  simp only[iX]
  split
  ·exact EP.ok _
  ·cases hr0:dz isToken ts with
   | error e=>exact EP.up (K4 _ _) hr0
   | ok y0 =>
    obtain⟨x0,pE⟩:=y0;exact Wn f _ _
theorem agN (ts:List Tk):EP (gZ ts):=by
 unfold gZ;cases hr0:dz isToken ts.tail with
 | error e=>exact EP.up (K4 _ _) hr0
 | ok y0 =>
  obtain⟨x0,pE⟩:=y0;simp only;cases hr1:iX pE.length pE [(x0,pl ts.tail)] with
  | error e=>exact EP.up (Wn _ _ _) hr1
  | ok y1 =>
   obtain⟨x1,aC⟩:=y1;exact EP.ok _
theorem Wo:∀ (f:Nat) (ts:List Tk) (acc:List Lv),EP (fP f ts acc)
 | 0,_,_=>EP.ok _
 | f+1,ts,acc=>by
  simp only[fP]
  split
  ·cases hr0:gZ ts with
   | error e=>exact EP.up (agN _) hr0
   | ok y0 =>
    obtain⟨x0,pE⟩:=y0;exact Wo f _ _
  ·exact EP.ok _
theorem Xp:∀ (f:Nat) (ts:List Tk) (acc:List Rl),EP (iE f ts acc)
 | 0,_,_=>EP.ok _
 | f+1,ts,acc=>by
  simp only[iE]
  split
  ·exact EP.ok _
  ·cases hr0:dI ts with
   | error e=>exact EP.up (Yo _) hr0
   | ok y0 =>
    obtain⟨x0,pE⟩:=y0;exact Xp f _ _
theorem afm (ts:List Tk):EP (gX ts):=by
 unfold gX;cases hr0:fP ts.length ts [] with
 | error e=>exact EP.up (Wo _ _ _) hr0
 | ok y0 =>
  obtain⟨x0,pE⟩:=y0;simp only;cases hr1:dI pE with
  | error e=>exact EP.up (Yo _) hr1
  | ok y1 =>
   obtain⟨x1,aC⟩:=y1;simp only;cases hr2:iE aC.length aC [x1] with
   | error e=>exact EP.up (Xp _ _ _) hr2
   | ok y2 =>
    obtain⟨x2,bL⟩:=y2;exact EP.ok _
theorem Pb {s:ByteArray}{n a:Nat}(h:parse s=.error (n,a)):0<n:=by
 unfold parse at h
 split at h
 ·cases h;decide
 ·cases hr:gX (lex s) with
  | error e=>rw[hr]at h;cases h;exact afm _ _ hr
  | ok x=>obtain⟨g,ts'⟩:=x;rw[hr]at h;cases h
end Lx
end Go.Proofs.YtlcppnabbicmoaaGreatDoor
namespace Go.Proofs.YtlcppnabbicmoaaGreatDoor
open Lx Go.Proofs.Tryz
open Go Go.RowKit
namespace Lx
def bnd {α β:Type}(r:aV α)(k:α->List Tk->aV β):aV β :=
 match r with
 | .error e=>.error e
 | .ok (x,ts)=>k x ts
theorem ahU (aF:List Tk->aV (List Alt)) (ts:List Tk):dh aF ts=if hd ts=jr then bnd (aF ts) (fun alts aC=>.ok ((⟨2,aM,(bK aC).1,alts,pl ts⟩:It),(bK aC).2))
  else if isName (hd ts)=true then .ok (⟨0,hd ts,(bK ts.tail).1,[],pl ts⟩,(bK ts.tail).2)
  else if isToken (hd ts)=true then .ok (⟨1,hd ts,(bK ts.tail).1,[],pl ts⟩,(bK ts.tail).2)
  else .error (2,pl ts):=by
 unfold dh
 split
 ·cases aF ts with
  | error e=>rfl
  | ok y=>rfl
 ·rfl
theorem agO (aF:List Tk->aV (List Alt))(f:Nat)(ts:List Tk)(a:List It):dU aF (f+1) ts a=if kJ ts=true then bnd (dh aF ts) (fun x aC=>dU aF f aC (a++[x])) else .ok (a,ts):=by
 simp only[dU]
 split
 ·cases dh aF ts with
  | error e=>rfl
  | ok y=>rfl
 ·rfl
theorem ahV (top:Bool)(a:List It)(ts:List Tk):mq top a ts=if top=true/\hd ts=jf then bnd (dz isToken ts.tail) (fun x aC=>.ok (((a,x,pl ts.tail):Alt),aC)) else .ok ((a,aM,0),ts):=by
 unfold mq
 split
 ·cases dz isToken ts.tail with
  | error e=>rfl
  | ok y=>rfl
 ·rfl
theorem ai3 (aF:List Tk->aV (List Alt))(top:Bool)(ts:List Tk):dJ aF top ts=bnd (dU aF ts.length ts []) (fun x aC=>mq top x aC):=by
 unfold dJ;cases dU aF ts.length ts [] with
 | error e=>rfl
 | ok y=>rfl
theorem ahW (aF:List Tk->aV (List Alt))(top:Bool)(f:Nat)(ts:List Tk)(a:List Alt):iZ aF top (f+1) ts a=if hd ts=sP then bnd (dJ aF top ts.tail) (fun x aC=>iZ aF top f aC (a++[x])) else .ok (a,ts):=by
 simp only[iZ]
 split
 ·cases dJ aF top ts.tail with
  | error e=>rfl
  | ok y=>rfl
 ·rfl
theorem af2 (aF:List Tk->aV (List Alt))(top:Bool)(ts:List Tk):ni aF top ts=bnd (dJ aF top ts) (fun x aC=>iZ aF top aC.length aC [x]):=by
 unfold ni;cases dJ aF top ts with
 | error e=>rfl
 | ok y=>rfl
theorem agP (r:List Tk->aV (List Alt))(ts:List Tk):mK r ts=bnd (r ts.tail) (fun l aC=>bnd (gU sM aC) fun _ bL=>.ok (l,bL)):=by
 unfold mK;cases r ts.tail with
 | error e=>rfl
 | ok y =>
  obtain⟨l,aC⟩:=y;simp only[bnd];cases gU sM aC with
  | error e=>rfl
  | ok y=>rfl
theorem ahX (ts:List Tk):dI ts=bnd (dz isName ts) (fun n aC=>bnd (gU kV aC) fun _ bL=>bnd (iN 8 bL) fun l fu=>bnd (gU iI fu) fun _ fV=>.ok ((⟨n,l,pl ts⟩:Rl),fV)):=by
 unfold dI;cases dz isName ts with
 | error e=>rfl
 | ok y =>
  obtain⟨n,aC⟩:=y;simp only[bnd];cases gU kV aC with
  | error e=>rfl
  | ok y =>
   obtain⟨u,bL⟩:=y;simp only;cases iN 8 bL with
   | error e=>rfl
   | ok y =>
    obtain⟨l,fu⟩:=y;simp only;cases gU iI fu with
    | error e=>rfl
    | ok y=>rfl
theorem af3 (f:Nat)(ts a:List Tk):iX (f+1) ts a=if hd ts=iI then .ok (a,ts.tail) else bnd (dz isToken ts) (fun x aC=>iX f aC (a++[(x,pl ts)])):=by
 simp only[iX]
 split
 ·rfl
 ·cases dz isToken ts with
  | error e=>rfl
  | ok y=>rfl
theorem KO (ts:List Tk):gZ ts=bnd (dz isToken ts.tail) (fun b aC=>bnd (iX aC.length aC [(b,pl ts.tail)]) fun l bL=>.ok ((⟨(fM (hd ts)).toNat,l⟩:Lv),bL)):=by
 unfold gZ;cases dz isToken ts.tail with
 | error e=>rfl
 | ok y =>
  obtain⟨b,aC⟩:=y;simp only[bnd];cases iX aC.length aC [(b,pl ts.tail)] with
  | error e=>rfl
  | ok y=>rfl
theorem af4 (f:Nat)(ts:List Tk)(a:List Lv):fP (f+1) ts a=if 0<=fM (hd ts) then bnd (gZ ts) (fun x aC=>fP f aC (a++[x])) else .ok (a,ts):=by
 simp only[fP]
 split
 ·cases gZ ts with
  | error e=>rfl
  | ok y=>rfl
 ·rfl
theorem agQ (f:Nat)(ts:List Tk)(a:List Rl):iE (f+1) ts a=if hd ts=aM then .ok (a,ts) else bnd (dI ts) (fun x aC=>iE f aC (a++[x])):=by
 simp only[iE]
 split
 ·rfl
 ·cases dI ts with
  | error e=>rfl
  | ok y=>rfl
theorem ae1 (ts:List Tk):gX ts=bnd (fP ts.length ts []) (fun lv aC=>bnd (dI aC) fun x bL=>bnd (iE bL.length bL [x]) fun l fu=>.ok ((⟨lv,l⟩:Gr),fu)):=by
 unfold gX;cases fP ts.length ts [] with
 | error e=>rfl
 | ok y =>
  obtain⟨lv,aC⟩:=y;simp only[bnd];cases dI aC with
  | error e=>rfl
  | ok y =>
   obtain⟨x,bL⟩:=y;simp only;cases iE bL.length bL [x] with
   | error e=>rfl
   | ok y=>rfl
end Lx
end Go.Proofs.YtlcppnabbicmoaaGreatDoor
namespace Go.Proofs.YtlcppnabbicmoaaGreatDoor
open Lx Go.Proofs.Tryz
open Go Go.RowKit
namespace Lx
theorem nu {α β:Type}{r:aV α}{k:α->List Tk->aV β}{z:β}{ts':List Tk}(h:bnd r k=.ok (z,ts')):∃ x ts,r=.ok (x,ts)/\k x ts=.ok (z,ts'):=by
 cases r with
 | error e=>cases h
 | ok y=>exact⟨y.1,y.2,rfl,h⟩
section
variable (e:Tk) (C:List Tk)
variable {e C}
end
end Lx
end Go.Proofs.YtlcppnabbicmoaaGreatDoor
namespace Go.Proofs.YtlcppnabbicmoaaGreatDoor
open Lx Go.Proofs.Tryz
open Go Go.RowKit
namespace Lx
section
variable {e:Tk} {C:List Tk}
end
end Lx
end Go.Proofs.YtlcppnabbicmoaaGreatDoor
namespace Go.Proofs.YtlcppnabbicmoaaGreatDoor
open Lx Go.Proofs.Tryz
open Go.RowKit
open Tr
end Go.Proofs.YtlcppnabbicmoaaGreatDoor

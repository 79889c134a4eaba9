import Derived.Shelf.LaysM
import Derived.Shelf.Strconv.Clone
import Derived.Test.YtlcppnabbicmoaaGreatDoorProg
import Derived.Test.YtlcppnabbicmoaaGreatDoorME02
import Derived.Deep.RegionHeld3
import Derived.Deep.LoopGhost
set_option maxHeartbeats 8000000
set_option maxRecDepth 1000000
namespace Go.Proofs
open Go.Shelf
def Tryz.laysM316_ren:Go.Shelf.Ren:=⟨fun | 316=>133 | n=>n,fun | 9=>9 | 3=>3 | 4=>4 | 37=>162 | 0=>0 | 127=>202 | 5=>5 | n=>n,fun | n=>n⟩
theorem Tryz.laysM316:Go.Proofs.LaysM.n316 Tryz.prog Tryz.laysM316_ren:={
 mixed:=by kernel_rfl
 f316:=Tryz.func133.trans (congrArg some (by kernel_rfl))
 t0:=Tryz.underlying0
 a0:=Tryz.isAgg0
 z0:=Tryz.sizeOf0
 v0:=Tryz.zeroValue0
 t3:=Tryz.underlying3
 a3:=Tryz.isAgg3
 z3:=Tryz.sizeOf3
 v3:=Tryz.zeroValue3
 t4:=Tryz.underlying4
 a4:=Tryz.isAgg4
 z4:=Tryz.sizeOf4
 v4:=Tryz.zeroValue4
 t9:=Tryz.underlying9
 a9:=Tryz.isAgg9
 z9:=Tryz.sizeOf9
 v9:=Tryz.zeroValue9
 t37:=Tryz.underlying162
 a37:=Tryz.isAgg162
 z37:=Tryz.sizeOf162
 v37:=Tryz.zeroValue162
 t127:=Tryz.underlying202
 a127:=Tryz.isAgg202
 z127:=Tryz.sizeOf202
 v127:=Tryz.zeroValue202
 t5:=Tryz.underlying5
 a5:=Tryz.isAgg5
 z5:=Tryz.sizeOf5
 v5:=Tryz.zeroValue5
 i0:=by kernel_rfl
 i3:=by kernel_rfl
 i4:=by kernel_rfl
 i5:=by kernel_rfl
 i9:=by kernel_rfl
 i37:=by kernel_rfl
 i127:=by kernel_rfl }
open Go.RowKit in
theorem Tryz.stringslite_Clone (s:ByteArray) (w:World) (hlim:s.size<=281474976710656) :
  Calls Tryz.prog 133 #[.string s] w fun e w'=>e=.returned (.string s)/\Below w.heap.size w w':=Any.stringslite_Clone Tryz.laysM316 s w hlim
end Go.Proofs
namespace Go.Proofs.YtlcppnabbicmoaaGreatDoor
open Go.RowKit
open Lx (Tk)
theorem Clone75 (s:ByteArray) (w:World) (hlim:s.size<=281474976710656) :
  Calls Tryz.prog 133 #[.string s] w fun e w'=>e=.returned (.string s)/\Below w.heap.size w w':=Tryz.stringslite_Clone s w hlim
theorem Clone_any (s:ByteArray) (w:World) (hlim:s.size<=2000) :
  Calls Tryz.prog 99 #[.string s] w fun e w'=>e=.returned (.string s)/\Below w.heap.size w w':=by
 go_enter Tryz.func99,Tryz.ntmps99
 go_wp2_with (go_at_call 133;refine (Clone75 _ _ (by omega)).mono ?_;rintro e w' ⟨rfl,hb⟩)
 go_ret;exact⟨rfl,hb⟩
theorem grown_of_below {w w':World}(h:Below w.heap.size w w')(r:Option Nat):w.grownBy w' r:=⟨h.os,h.tape,h.output,h.size,fun k hk _=>h.block k hk⟩
theorem Rd.below {sb cap:Nat}{L:List Tk}{p:Nat}{w w':World}{ts:List Tk}{o:Int}(h:Rd sb cap L p w ts o)(hb:Below w.heap.size w w'):Rd sb cap L p w' ts o :=
 h.grown (grown_of_below hb none) (by simp) (by simp)
theorem isName_ne {b:ByteArray}(h:Lx.isName b=true):b≠Lx.noText:=by
 intro e;subst e;revert h;decide
theorem isToken_ne {b:ByteArray}(h:Lx.isToken b=true):b≠Lx.noText:=by
 intro e;subst e;revert h;decide
theorem word_name {sb cap:Nat} {L:List Tk} {p:Nat} {w:World} {ts:List Tk} {o:Int} (h:Rd sb cap L p w ts o) :
  Calls Tryz.prog 143 #[.pointer (some ⟨p,0,none⟩),.func (.func 45) #[] #[]] w (Ends sb cap L p o VText w (Lx.pWord Lx.isName ts)):=by
 have hsz:=h.hsz;cases hd:Lx.isName (Lx.hd ts)
 ·have hm:Lx.pWord Lx.isName ts=.error (2,Lx.pl ts):=if_neg (by rw[hd];simp)
  have HD:Hid _:=hd;have HM:Hid _:=hm;clear hd hm;go_enter Tryz.func143,Tryz.ntmps143
  go_wp2_with (first
   | (go_at_call 87;refine (ahead_rd h).mono ?_;rintro e w' ⟨rfl,hw⟩;obtain rfl:=hw.symm)
   | (go_at_call 45;refine (IsName_any _ _ hsz).mono ?_;rintro e w' ⟨rfl,hw⟩;obtain rfl:=hw.symm;rw[HD.out])
   | (go_at_call 144;refine (throw_rd h 2).mono ?_;rintro e w' ⟨rfl,hw⟩;obtain rfl:=hw.symm))
  exact⟨rfl,Ends.no HM.out (grown_refl _ _)⟩
 ·have hm:Lx.pWord Lx.isName ts=.ok (Lx.hd ts,ts.tail):=if_pos hd
  have HN:Hid (Lx.hd ts≠Lx.noText):=isName_ne hd;have HD:Hid _:=hd;have HM:Hid _:=hm;clear hd hm;go_enter Tryz.func143,Tryz.ntmps143
  go_wp2_with (first
   | (go_at_call 87;refine (ahead_rd h).mono ?_;rintro e w' ⟨rfl,hw⟩;obtain rfl:=hw.symm)
   | (go_at_call 45;refine (IsName_any _ _ hsz).mono ?_;rintro e w' ⟨rfl,hw⟩;obtain rfl:=hw.symm;rw[HD.out])
   | (go_at_call 121;refine (pass_rd h HN.out).mono ?_;rintro e w1 ⟨rfl,hg,hr⟩)
   | (go_at_call 99;refine (Clone_any _ _ hsz).mono ?_;rintro e w2 ⟨rfl,hb⟩))
  go_ret;exact Ends.yes HM.out (grown_trans hg (grown_of_below hb _)) (hr.below hb) rfl
theorem name_rd {sb cap:Nat} {L:List Tk} {p:Nat} {w:World} {ts:List Tk} {o:Int} (h:Rd sb cap L p w ts o) :
  Calls Tryz.prog 124 #[.pointer (some ⟨p,0,none⟩)] w (Ends sb cap L p o VText w (Lx.pWord Lx.isName ts)):=by
 cases hr:Lx.pWord Lx.isName ts with
 | error x =>
  obtain⟨n,a⟩:=x;have HR:Hid _:=hr;clear hr;go_enter Tryz.func124,Tryz.ntmps124
  go_wp2_with (go_at_call 143;refine (word_name h).mono ?_;intro e w' he;obtain⟨rfl,hg⟩:=he.err HR.out)
  exact⟨rfl,Ends.no rfl hg⟩
 | ok x =>
  obtain⟨b,ts'⟩:=x;have HR:Hid _:=hr;clear hr;go_enter Tryz.func124,Tryz.ntmps124
  go_wp2_with (go_at_call 143;refine (word_name h).mono ?_;intro e w' he;obtain⟨v,rfl,hg,hrd,rfl⟩:=he.ok HR.out)
  go_ret;exact Ends.yes rfl hg hrd rfl
theorem word_token {sb cap:Nat} {L:List Tk} {p:Nat} {w:World} {ts:List Tk} {o:Int} (h:Rd sb cap L p w ts o) :
  Calls Tryz.prog 143 #[.pointer (some ⟨p,0,none⟩),.func (.func 47) #[] #[]] w (Ends sb cap L p o VText w (Lx.pWord Lx.isToken ts)):=by
 have hsz:=h.hsz;cases hd:Lx.isToken (Lx.hd ts)
 ·have hm:Lx.pWord Lx.isToken ts=.error (2,Lx.pl ts):=if_neg (by rw[hd];simp)
  have HD:Hid _:=hd;have HM:Hid _:=hm;clear hd hm;go_enter Tryz.func143,Tryz.ntmps143
  go_wp2_with (first
   | (go_at_call 87;refine (ahead_rd h).mono ?_;rintro e w' ⟨rfl,hw⟩;obtain rfl:=hw.symm)
   | (go_at_call 47;refine (IsToken_any _ _ hsz).mono ?_;rintro e w' ⟨rfl,hw⟩;obtain rfl:=hw.symm;rw[HD.out])
   | (go_at_call 144;refine (throw_rd h 2).mono ?_;rintro e w' ⟨rfl,hw⟩;obtain rfl:=hw.symm))
  exact⟨rfl,Ends.no HM.out (grown_refl _ _)⟩
 ·have hm:Lx.pWord Lx.isToken ts=.ok (Lx.hd ts,ts.tail):=if_pos hd
  have HN:Hid (Lx.hd ts≠Lx.noText):=isToken_ne hd;have HD:Hid _:=hd;have HM:Hid _:=hm;clear hd hm;go_enter Tryz.func143,Tryz.ntmps143
  go_wp2_with (first
   | (go_at_call 87;refine (ahead_rd h).mono ?_;rintro e w' ⟨rfl,hw⟩;obtain rfl:=hw.symm)
   | (go_at_call 47;refine (IsToken_any _ _ hsz).mono ?_;rintro e w' ⟨rfl,hw⟩;obtain rfl:=hw.symm;rw[HD.out])
   | (go_at_call 121;refine (pass_rd h HN.out).mono ?_;rintro e w1 ⟨rfl,hg,hr⟩)
   | (go_at_call 99;refine (Clone_any _ _ hsz).mono ?_;rintro e w2 ⟨rfl,hb⟩))
  go_ret;exact Ends.yes HM.out (grown_trans hg (grown_of_below hb _)) (hr.below hb) rfl
theorem token_rd {sb cap:Nat} {L:List Tk} {p:Nat} {w:World} {ts:List Tk} {o:Int} (h:Rd sb cap L p w ts o) :
  Calls Tryz.prog 122 #[.pointer (some ⟨p,0,none⟩)] w (Ends sb cap L p o VText w (Lx.pWord Lx.isToken ts)):=by
 cases hr:Lx.pWord Lx.isToken ts with
 | error x =>
  obtain⟨n,a⟩:=x;have HR:Hid _:=hr;clear hr;go_enter Tryz.func122,Tryz.ntmps122
  go_wp2_with (go_at_call 143;refine (word_token h).mono ?_;intro e w' he;obtain⟨rfl,hg⟩:=he.err HR.out)
  exact⟨rfl,Ends.no rfl hg⟩
 | ok x =>
  obtain⟨b,ts'⟩:=x;have HR:Hid _:=hr;clear hr;go_enter Tryz.func122,Tryz.ntmps122
  go_wp2_with (go_at_call 143;refine (word_token h).mono ?_;intro e w' he;obtain⟨v,rfl,hg,hrd,rfl⟩:=he.ok HR.out)
  go_ret;exact Ends.yes rfl hg hrd rfl
end Go.Proofs.YtlcppnabbicmoaaGreatDoor
namespace Go.Proofs.YtlcppnabbicmoaaGreatDoor
open Go.RowKit
open Lx (Tk)
theorem text_no {a:ByteArray}{l:List UInt8}(h:a≠⟨l.toArray⟩):(a.toList == l)=false:=by
 rw[ByteArray.toList_eq];exact beq_eq_false_iff_ne.2 fun e=>h (ByteArray.ext (by rw[<-e]))
theorem mark_rd {sb cap:Nat} {L:List Tk} {p:Nat} {w:World} {ts:List Tk} {o:Int} (h:Rd sb cap L p w ts o) :
  Calls Tryz.prog 159 #[.pointer (some ⟨p,0,none⟩)] w fun e w'=>e=.returned (.int .u8 ((Lx.pMark ts).1:Int))/\w.grownBy w' (some p)/\Rd sb cap L p w' (Lx.pMark ts).2 o:=by
 by_cases h1:Lx.hd ts=Lx.tStar
 ·have HM:Hid (Lx.pMark ts=(42,ts.tail)):=if_pos h1
  have HN:Hid (Lx.hd ts≠Lx.noText):=by rw[h1];show _≠_;decide
  have H1:Hid (Lx.hd ts=⟨#[42]⟩):=h1;clear h1;go_enter Tryz.func159,Tryz.ntmps159
  go_wp2_with (first
   | (go_at_call 87;refine (ahead_rd h).mono ?_;rintro e w' ⟨rfl,hw⟩;obtain rfl:=hw.symm;rw[H1.out])
   | (go_at_call 121;refine (pass_rd h HN.out).mono ?_;rintro e w1 ⟨rfl,hg,hr⟩))
  go_ret;rw[HM.out];exact⟨rfl,hg,hr⟩
 by_cases h2:Lx.hd ts=Lx.tPlus
 ·have HM:Hid (Lx.pMark ts=(43,ts.tail)):=by show _=_;unfold Lx.pMark;rw[if_neg h1,if_pos h2]
  have HN:Hid (Lx.hd ts≠Lx.noText):=by rw[h2];show _≠_;decide
  have H1:Hid (Lx.hd ts=⟨#[43]⟩):=h2;clear h1 h2;go_enter Tryz.func159,Tryz.ntmps159
  go_wp2_with (first
   | (go_at_call 87;refine (ahead_rd h).mono ?_;rintro e w' ⟨rfl,hw⟩;obtain rfl:=hw.symm;rw[H1.out])
   | (go_at_call 121;refine (pass_rd h HN.out).mono ?_;rintro e w1 ⟨rfl,hg,hr⟩))
  go_ret;rw[HM.out];exact⟨rfl,hg,hr⟩
 by_cases h3:Lx.hd ts=Lx.tAsk
 ·have HM:Hid (Lx.pMark ts=(63,ts.tail)):=by show _=_;unfold Lx.pMark;rw[if_neg h1,if_neg h2,if_pos h3]
  have HN:Hid (Lx.hd ts≠Lx.noText):=by rw[h3];show _≠_;decide
  have H1:Hid (Lx.hd ts=⟨#[63]⟩):=h3;clear h1 h2 h3;go_enter Tryz.func159,Tryz.ntmps159
  go_wp2_with (first
   | (go_at_call 87;refine (ahead_rd h).mono ?_;rintro e w' ⟨rfl,hw⟩;obtain rfl:=hw.symm;rw[H1.out])
   | (go_at_call 121;refine (pass_rd h HN.out).mono ?_;rintro e w1 ⟨rfl,hg,hr⟩))
  go_ret;rw[HM.out];exact⟨rfl,hg,hr⟩
 have HM:Hid (Lx.pMark ts=(0,ts)):=by show _=_;unfold Lx.pMark;rw[if_neg h1,if_neg h2,if_neg h3]
 have g1:((Lx.hd ts).toList == [42])=false:=text_no h1;have g2:((Lx.hd ts).toList == [43])=false:=text_no h2;have g3:((Lx.hd ts).toList == [63])=false:=text_no h3;clear h1 h2 h3;go_enter Tryz.func159,Tryz.ntmps159
 go_wp2_with (first
  | (go_at_call 87;refine (ahead_rd h).mono ?_;rintro e w' ⟨rfl,hw⟩;obtain rfl:=hw.symm))
 go_ret;rw[HM.out];exact⟨rfl,grown_refl _ _,h⟩
theorem levelKind_any (b:ByteArray) (w:World) :
  Calls Tryz.prog 86 #[.string b] w fun e w'=>e=.returned (.int .i64 (Lx.levelKind b))/\w'=w:=by
 by_cases h1:b=Lx.tLeft
 ·subst h1
  unfold Lx.tLeft;go_enter Tryz.func86,Tryz.ntmps86
  go_wp2
  go_ret;exact⟨rfl,rfl⟩
 by_cases h2:b=Lx.tRight
 ·subst h2
  unfold Lx.tRight;go_enter Tryz.func86,Tryz.ntmps86
  go_wp2
  go_ret;exact⟨rfl,rfl⟩
 by_cases h3:b=Lx.tNone
 ·subst h3
  unfold Lx.tNone;go_enter Tryz.func86,Tryz.ntmps86
  go_wp2
  go_ret;exact⟨rfl,rfl⟩
 have HM:Hid (Lx.levelKind b=-1):=by show _=_;unfold Lx.levelKind;rw[if_neg h1,if_neg h2,if_neg h3]
 have g1:(b.toList == [37,108,101,102,116])=false:=text_no h1;have g2:(b.toList == [37,114,105,103,104,116])=false:=text_no h2;have g3:(b.toList == [37,110,111,110,101])=false:=text_no h3;clear h1 h2 h3;go_enter Tryz.func86,Tryz.ntmps86
 go_wp2
 go_ret;rw[HM.out];exact⟨rfl,rfl⟩
theorem seesItem_rd {sb cap:Nat} {L:List Tk} {p:Nat} {w:World} {ts:List Tk} {o:Int} (h:Rd sb cap L p w ts o) :
  Calls Tryz.prog 152 #[.pointer (some ⟨p,0,none⟩)] w fun e w'=>e=.returned (.bool (Lx.seesItem ts))/\w'=w:=by
 have hsz:=h.hsz;cases h1:decide (Lx.hd ts=Lx.tOpen)
 ·cases h2:Lx.isName (Lx.hd ts)
  ·have HM:Hid (Lx.seesItem ts=Lx.isToken (Lx.hd ts)):=by show _=_;unfold Lx.seesItem;rw[h1,h2];simp
   have H1:Hid _:=h1;have H2:Hid _:=h2;clear h1 h2;go_enter Tryz.func152,Tryz.ntmps152
   go_wp2_with (first
    | (go_at_call 87;refine (ahead_rd h).mono ?_;rintro e w' ⟨rfl,hw⟩;obtain rfl:=hw.symm)
    | (go_at_call 90;refine (sees_rd h Lx.tOpen).mono ?_;rintro e w' ⟨rfl,hw⟩;obtain rfl:=hw.symm;rw[H1.out])
    | (go_at_call 45;refine (IsName_any _ _ hsz).mono ?_;rintro e w' ⟨rfl,hw⟩;obtain rfl:=hw.symm;rw[H2.out])
    | (go_at_call 47;refine (IsToken_any _ _ hsz).mono ?_;rintro e w' ⟨rfl,hw⟩;obtain rfl:=hw.symm))
   go_ret;rw[HM.out];exact⟨rfl,rfl⟩
  ·have HM:Hid (Lx.seesItem ts=true):=by show _=_;unfold Lx.seesItem;rw[h1,h2];simp
   have H1:Hid _:=h1;have H2:Hid _:=h2;clear h1 h2;go_enter Tryz.func152,Tryz.ntmps152
   go_wp2_with (first
    | (go_at_call 87;refine (ahead_rd h).mono ?_;rintro e w' ⟨rfl,hw⟩;obtain rfl:=hw.symm)
    | (go_at_call 90;refine (sees_rd h Lx.tOpen).mono ?_;rintro e w' ⟨rfl,hw⟩;obtain rfl:=hw.symm;rw[H1.out])
    | (go_at_call 45;refine (IsName_any _ _ hsz).mono ?_;rintro e w' ⟨rfl,hw⟩;obtain rfl:=hw.symm;rw[H2.out]))
   go_ret;rw[HM.out];exact⟨rfl,rfl⟩
 ·have HM:Hid (Lx.seesItem ts=true):=by show _=_;unfold Lx.seesItem;rw[h1];simp
  have H1:Hid _:=h1;clear h1;go_enter Tryz.func152,Tryz.ntmps152
  go_wp2_with (first
   | (go_at_call 90;refine (sees_rd h Lx.tOpen).mono ?_;rintro e w' ⟨rfl,hw⟩;obtain rfl:=hw.symm;rw[H1.out]))
  go_ret;rw[HM.out];exact⟨rfl,rfl⟩
end Go.Proofs.YtlcppnabbicmoaaGreatDoor
namespace Go.Proofs.YtlcppnabbicmoaaGreatDoor
open Go.RowKit
open Lx (Tk)
open Tr
def YP:Lay:={ eA:=194,sA:=2,cA:=fun q=>[q.1,.string q.2.2.1],eI:=187,sI:=4,cI:=fun q=>[.int .i64 (q.2.kind:Int),.string q.2.name,.int .u8 (q.2.mark:Int),q.1] }
def VAlts (d lo:Nat)(w':World)(v:Value)(l:List Lx.Alt):Prop:=AltsInS YP d (In lo w'.heap.size) w' v l
def VItem (d lo:Nat)(w':World)(v:Value)(it:Lx.It):Prop:=∃ va,v=.agg #[.int .i64 (it.kind:Int),.string it.name,.int .u8 (it.mark:Int),va]/\AltsInS YP d (In lo w'.heap.size) w' va it.alts
def VAlt (d lo:Nat)(w':World)(v:Value)(a:Lx.Alt):Prop:=∃ vi,v=.agg #[vi,.string a.2.1]/\ItemsInS YP d (In lo w'.heap.size) w' vi a.1
def AltsSaid (d:Nat):Prop:=∀ (sb cap:Nat) (L:List Tk) (p:Nat) (w:World) (ts:List Tk) (o:Int),o=8 - (d:Int)->Rd sb cap L p w ts o ->
 Calls Tryz.prog 126 #[.pointer (some ⟨p,0,none⟩)] w (Ends sb cap L p o (VAlts (d+1) w.heap.size) w (Lx.pAlts d ts))
def GroupSaid (d:Nat):Prop:=∀ (sb cap:Nat) (L:List Tk) (p:Nat) (w:World) (ts:List Tk) (o:Int),o=8 - (d:Int)->Rd sb cap L p w ts o->Lx.hd ts=Lx.tOpen ->
 Calls Tryz.prog 158 #[.pointer (some ⟨p,0,none⟩)] w (Ends sb cap L p o (VAlts d w.heap.size) w (Lx.pGroupAt d ts))
def ItemSaid (d:Nat):Prop:=∀ (sb cap:Nat) (L:List Tk) (p:Nat) (w:World) (ts:List Tk) (o:Int),o=8 - (d:Int)->Rd sb cap L p w ts o->Lx.seesItem ts=true ->
 Calls Tryz.prog 153 #[.pointer (some ⟨p,0,none⟩)] w (Ends sb cap L p o (VItem d w.heap.size) w (Lx.pItem (Lx.pGroupAt d) ts))
def AltSaid (d:Nat):Prop:=∀ (sb cap:Nat) (L:List Tk) (p:Nat) (w:World) (ts:List Tk) (o:Int),o=8 - (d:Int)->Rd sb cap L p w ts o ->
 Calls Tryz.prog 145 #[.pointer (some ⟨p,0,none⟩)] w (Ends sb cap L p o (VAlt d w.heap.size) w (Lx.pAlt (Lx.pGroupAt d) (d == 8) ts))
theorem VAlts.move {d lo lo':Nat}{w w':World}{v:Value}{l:List Lx.Alt}(h:VAlts d lo w v l)(hlo:lo'<=lo){r:Option Nat}(hg:w.grownBy w' r)(hr:∀ k,r=some k->k<lo):VAlts d lo' w' v l :=
 AltsInS.move (fun b hb=>hg.block b hb.2 fun e=>by have:=hr b e.symm;have:=hb.1;omega) (fun b hb=>⟨Nat.le_trans hlo hb.1,Nat.lt_of_lt_of_le hb.2 hg.size⟩) h
theorem group_zero:GroupSaid 0:=by
 intro sb cap L p w ts o ho h hd;have hop:=h.op;have h8:(o == 8)=true:=beq_iff_eq.2 (by simpa using ho);have HO:Hid _:=ho;have HD:Hid _:=hd;clear ho hd;go_enter Tryz.func158,Tryz.ntmps158;go_wp2_with fail;refine (throw_rd h 3).mono ?_;rintro e w' ⟨rfl,hw⟩;obtain rfl:=hw.symm;go_wp2_with fail;exact⟨rfl,Ends.no rfl (grown_refl _ _)⟩
theorem group_succ {d:Nat}(hd8:d<8)(HA:AltsSaid d):GroupSaid (d+1):=by
 intro sb cap L p w ts o ho h hd;have hop:=h.op;have hfz:=h.fz1;have h8:(o == 8)=false:=beq_eq_false_iff_ne.2 (by omega);have hb0:0<=o:=by omega
 have hb1:o<=8:=by omega
 have HO:Hid (o+1=8 - (d:Int)):=by show _=_;omega
 have HD:Hid _:=hd;have HP:Hid (Lx.pMust Lx.tOpen ts=.ok ((),ts.tail)):=if_pos hd;clear ho hd;have hR:=h.reopen (o+1);go_enter Tryz.func158,Tryz.ntmps158;go_wp2_with fail;refine (mustPass_rd hR Lx.tOpen (by decide)).mono ?_;intro e w1 he;obtain⟨v,rfl,hg1,hr1,rfl⟩:=he.ok HP.out;clear he;go_wp2_with fail;refine (HA sb cap L p _ _ _ HO.out hr1).mono ?_;intro e w2 he;have G1:=grown_trans (grown_set w p 1 (.int .i64 (o+1))) hg1;cases hr2:Lx.pAlts d ts.tail with
 | error x =>
  obtain⟨n,a⟩:=x;obtain⟨rfl,hg2⟩:=he.err hr2;exact⟨rfl,Ends.no (by simp only[Lx.pGroupAt,Lx.pGroup,hr2]) (grown_trans G1 hg2)⟩
 | ok x =>
  obtain⟨l,ts2⟩:=x;obtain⟨v,rfl,hg2,hrd2,hv⟩:=he.ok hr2;have HR2:Hid _:=hr2;clear hr2 he;go_wp2_with fail;refine (mustPass_rd hrd2 Lx.tShut (by decide)).mono ?_;intro e w3 he;have G2:=grown_trans G1 hg2;cases hr3:Lx.pMust Lx.tShut ts2 with
  | error x =>
   obtain⟨n,a⟩:=x;obtain⟨rfl,hg3⟩:=he.err hr3;exact⟨rfl,Ends.no (by simp only[Lx.pGroupAt,Lx.pGroup,HR2.out,hr3]) (grown_trans G2 hg3)⟩
  | ok x =>
   obtain⟨u,ts3⟩:=x;obtain⟨v',rfl,hg3,hrd3,rfl⟩:=he.ok hr3;have HR3:Hid _:=hr3;clear hr3 he;have G3:=grown_trans G2 hg3;have hop3:=hrd3.op;have hfz3:=hrd3.fz1;go_wp2_with fail;go_ret;refine Ends.yes (x:=l) (ts':=ts3) (by simp only[Lx.pGroupAt,Lx.pGroup,HR2.out,HR3.out]) (grown_trans G3 (grown_set w3 p 1 _)) (hrd3.reopen o) ?_;have hl1:=G1.size;have hp:=h.lt;exact (hv.move hl1 hg3 (fun k hk=>by cases hk;omega)).move (Nat.le_refl _) (grown_set w3 p 1 _) (fun k hk=>by cases hk;omega)
end Go.Proofs.YtlcppnabbicmoaaGreatDoor
namespace Go.Proofs.YtlcppnabbicmoaaGreatDoor
open Go.RowKit
open Lx (Tk)
open Tr
def Blk (w:World)(b:Nat)(cs:Array Value)(e:Nat):Prop:=w.heap[b]?=some (.cells cs e (0,0))
section
variable {w w':World} {b:Nat} {cs:Array Value} {e:Nat}
theorem Blk.cell (h:Blk w b cs e)(i:Nat):w.cell? ⟨b,i,none⟩=cs[i]?:=by
 unfold Blk at h;simp[World.cell?,h]
theorem Blk.frozen (h:Blk w b cs e)(i:Nat):w.frozen? ⟨b,i,none⟩=false:=by
 unfold Blk at h;simp[World.frozen?,h]
theorem Blk.lt (h:Blk w b cs e):b<w.heap.size:=(Array.getElem?_eq_some_iff.1 h).1
theorem Blk.set (h:Blk w b cs e)(i:Nat)(v:Value):Blk (w.setCell ⟨b,i,none⟩ v) b (cs.setIfInBounds i v) e:=by
 unfold Blk at *;simp[World.setCell,Array.getElem?_modify,h]
theorem Blk.other (h:Blk w b cs e){b' i:Nat}(hb:b'≠b)(v:Value):Blk (w.setCell ⟨b',i,none⟩ v) b cs e:=by
 unfold Blk at *;rw[Below.heap_setCell _ _ _ _ (Ne.symm hb)];exact h
theorem Blk.alloc (h:Blk w b cs e)(o:Obj):Blk (w.alloc o) b cs e:=by
 have hl:=h.lt;unfold Blk at *;rw[Below.heap_alloc _ _ _ hl];exact h
theorem Blk.new (w:World)(cs:Array Value)(e:Nat):Blk (w.alloc (.cells cs e)) w.heap.size cs e:=heap_alloc_new w _
theorem Blk.grown (h:Blk w b cs e){r:Option Nat}(hg:w.grownBy w' r)(hr:some b≠r):Blk w' b cs e:=by
 have hl:=h.lt;unfold Blk at *;rw[hg.block b hl hr];exact h
theorem grown_alloc (w:World)(o:Obj)(r:Option Nat):w.grownBy (w.alloc o) r:=World.grownBy_alloc w o r
end
theorem Rd.alloc {sb cap:Nat}{L:List Tk}{p:Nat}{w:World}{ts:List Tk}{o:Int}(h:Rd sb cap L p w ts o)(ob:Obj):Rd sb cap L p (w.alloc ob) ts o :=
 h.grown (grown_alloc w ob none) (by simp) (by simp)
theorem Rd.setOther {sb cap:Nat}{L:List Tk}{p:Nat}{w:World}{ts:List Tk}{o:Int}(h:Rd sb cap L p w ts o){b:Nat}(i:Nat)(v:Value)(hp:b≠p)(hs:b≠sb):Rd sb cap L p (w.setCell ⟨b,i,none⟩ v) ts o :=
 h.grown (grown_set w b i v) (by simp;exact Ne.symm hp) (by simp;exact Ne.symm hs)
theorem grown_new {w u:World}{r:Option Nat}(h:w.grownBy u r){b:Nat}(hb:w.heap.size<=b)(i:Nat)(v:Value):w.grownBy (u.setCell ⟨b,i,none⟩ v) r :=
 ⟨h.os,h.tape,h.output,by have:=h.size;simpa [World.setCell]using this,fun k hk hn=>(Below.heap_setCell _ _ _ _ (fun e=>by have e':k=b:=e;omega)).trans (h.block k hk hn)⟩
theorem item_name {d:Nat} (sb cap:Nat) (L:List Tk) (p:Nat) (w:World) (ts:List Tk) (o:Int) (h:Rd sb cap L p w ts o) (hno:¬ Lx.hd ts=Lx.tOpen) (hn:Lx.isName (Lx.hd ts)=true) :
  Calls Tryz.prog 153 #[.pointer (some ⟨p,0,none⟩)] w (Ends sb cap L p o (VItem d w.heap.size) w (Lx.pItem (Lx.pGroupAt d) ts)):=by
 have hsz:=h.hsz;have HP:Hid (Lx.pItem (Lx.pGroupAt d) ts=.ok (⟨0,Lx.hd ts,(Lx.pMark ts.tail).1,[],Lx.pl ts⟩,(Lx.pMark ts.tail).2)):=by
  show _=_;unfold Lx.pItem;rw[if_neg hno,if_pos hn]
 have HW:Hid (Lx.pWord Lx.isName ts=.ok (Lx.hd ts,ts.tail)):=if_pos hn;have HN:Hid _:=hn;have HO:Hid _:=hno;clear hn hno;have h2:=(h.alloc (.cells #[.int .i64 0,.string ⟨#[]⟩,.int .u8 0,.slice none 0 0] 187)).alloc (.cells #[.int .i64 0,.string ⟨#[]⟩,.int .u8 0,.slice none 0 0] 187);have kB:=(Blk.new w #[.int .i64 0,.string ⟨#[]⟩,.int .u8 0,.slice none 0 0] 187).alloc (.cells #[.int .i64 0,.string ⟨#[]⟩,.int .u8 0,.slice none 0 0] 187);have kC:=Blk.new (w.alloc (.cells #[.int .i64 0,.string ⟨#[]⟩,.int .u8 0,.slice none 0 0] 187)) #[.int .i64 0,.string ⟨#[]⟩,.int .u8 0,.slice none 0 0] 187;have G0:=grown_trans (grown_alloc w (.cells #[.int .i64 0,.string ⟨#[]⟩,.int .u8 0,.slice none 0 0] 187) (some p)) (grown_alloc _ (.cells #[.int .i64 0,.string ⟨#[]⟩,.int .u8 0,.slice none 0 0] 187) (some p));rw[show (w.alloc (.cells #[.int .i64 0,.string ⟨#[]⟩,.int .u8 0,.slice none 0 0] 187)).heap.size=w.heap.size+1 by simp]at kC;have hp:=h.lt;have hs:=h.lts;go_enter Tryz.func153,Tryz.ntmps153
 go_wp2_with (first
  | (go_at_call 87;refine (ahead_rd h2).mono ?_;rintro e w' ⟨rfl,hw⟩;obtain rfl:=hw.symm)
  | (go_at_call 90;refine (sees_rd h2 Lx.tOpen).mono ?_;rintro e w' ⟨rfl,hw⟩;obtain rfl:=hw.symm;rw[decide_eq_false HO.out])
  | (go_at_call 45;refine (IsName_any _ _ hsz).mono ?_;rintro e w' ⟨rfl,hw⟩;obtain rfl:=hw.symm;rw[HN.out]))
 refine (name_rd h2).mono ?_;intro e w1 he;obtain⟨v,rfl,hg1,hr1,rfl⟩:=he.ok HW.out;clear he;have kB1:=kB.grown hg1 (by simp;omega);have kC1:=kC.grown hg1 (by simp;omega);have c0:w1.cell? ⟨w.heap.size+1,0,none⟩=some (.int .i64 0):=kC1.cell 0;have c1:w1.cell? ⟨w.heap.size+1,1,none⟩=some (.string ⟨#[]⟩):=kC1.cell 1;have f0:∀ i,w1.frozen? ⟨w.heap.size+1,i,none⟩=false:=kC1.frozen;have h3:=(hr1.setOther (b:=w.heap.size+1) 0 (.int .i64 0) (by omega) (by omega)).setOther (b:=w.heap.size+1) 1 (.string (Lx.hd ts)) (by omega) (by omega);have kB2:=(kB1.other (b':=w.heap.size+1) (i:=0) (by omega) (.int .i64 0)).other (b':=w.heap.size+1) (i:=1) (by omega) (.string (Lx.hd ts));have kC2:=(kC1.set 0 (.int .i64 0)).set 1 (.string (Lx.hd ts));have G1:=grown_trans G0 hg1;clear kB1 kC1 kB kC;go_wp2_with fail;refine (mark_rd h3).mono ?_;rintro e w2 ⟨rfl,hg2,hr2⟩;have kB3:=kB2.grown hg2 (by simp;omega);have kC3:=kC2.grown hg2 (by simp;omega);have d0:w2.cell? ⟨w.heap.size+1,0,none⟩=some (.int .i64 0):=kC3.cell 0;have d1:w2.cell? ⟨w.heap.size+1,1,none⟩=some (.string (Lx.hd ts)):=kC3.cell 1;have d2:w2.cell? ⟨w.heap.size+1,2,none⟩=some (.int .u8 0):=kC3.cell 2;have d3:w2.cell? ⟨w.heap.size+1,3,none⟩=some (.slice none 0 0):=kC3.cell 3;have e0:w2.cell? ⟨w.heap.size,0,none⟩=some (.int .i64 0):=kB3.cell 0;have e1:w2.cell? ⟨w.heap.size,1,none⟩=some (.string ⟨#[]⟩):=kB3.cell 1;have e2:w2.cell? ⟨w.heap.size,2,none⟩=some (.int .u8 0):=kB3.cell 2;have e3:w2.cell? ⟨w.heap.size,3,none⟩=some (.slice none 0 0):=kB3.cell 3
 have f1:∀ i,w2.frozen? ⟨w.heap.size+1,i,none⟩=false:=kC3.frozen;have f2:∀ i,w2.frozen? ⟨w.heap.size,i,none⟩=false:=kB3.frozen;have G2:=grown_trans (grown_new (grown_new G1 (by omega) 0 (.int .i64 0)) (by omega) 1 (.string (Lx.hd ts))) hg2;clear kB2 kC2 c0 c1 f0;go_wp2_with fail;refine bodyPost_ret (v:=.agg #[.int .i64 0,.string (Lx.hd ts),.int .u8 ((Lx.pMark ts.tail).1:Int),.slice none 0 0]) (by simp[results,Tryz.results153,go_sem,e0,e1,e2,e3]) rfl ?_;refine Ends.yes HP.out (grown_new (grown_new (grown_new (grown_new (grown_new G2 (by omega) _ _) (Nat.le_refl _) _ _) (Nat.le_refl _) _ _) (Nat.le_refl _) _ _) (Nat.le_refl _) _ _) ?_ ⟨_,rfl,AltsInS.nil _ _ _ _⟩;exact ((((hr2.setOther _ _ (by omega) (by omega)).setOther _ _ (by omega) (by omega)).setOther _ _ (by omega) (by omega)).setOther _ _ (by omega) (by omega)).setOther _ _ (by omega) (by omega)
theorem item_token {d:Nat} (sb cap:Nat) (L:List Tk) (p:Nat) (w:World) (ts:List Tk) (o:Int) (h:Rd sb cap L p w ts o) (hno:¬ Lx.hd ts=Lx.tOpen) (hnn:Lx.isName (Lx.hd ts)=false) (hn:Lx.isToken (Lx.hd ts)=true) :
  Calls Tryz.prog 153 #[.pointer (some ⟨p,0,none⟩)] w (Ends sb cap L p o (VItem d w.heap.size) w (Lx.pItem (Lx.pGroupAt d) ts)):=by
 have hsz:=h.hsz;have HP:Hid (Lx.pItem (Lx.pGroupAt d) ts=.ok (⟨1,Lx.hd ts,(Lx.pMark ts.tail).1,[],Lx.pl ts⟩,(Lx.pMark ts.tail).2)):=by
  show _=_;unfold Lx.pItem;rw[if_neg hno,if_neg (by rw[hnn];simp),if_pos hn]
 have HW:Hid (Lx.pWord Lx.isToken ts=.ok (Lx.hd ts,ts.tail)):=if_pos hn;have HN:Hid _:=hn;have HO:Hid _:=hno;have HNN:Hid _:=hnn;clear hn hno hnn;have h2:=(h.alloc (.cells #[.int .i64 0,.string ⟨#[]⟩,.int .u8 0,.slice none 0 0] 187)).alloc (.cells #[.int .i64 0,.string ⟨#[]⟩,.int .u8 0,.slice none 0 0] 187);have kB:=(Blk.new w #[.int .i64 0,.string ⟨#[]⟩,.int .u8 0,.slice none 0 0] 187).alloc (.cells #[.int .i64 0,.string ⟨#[]⟩,.int .u8 0,.slice none 0 0] 187);have kC:=Blk.new (w.alloc (.cells #[.int .i64 0,.string ⟨#[]⟩,.int .u8 0,.slice none 0 0] 187)) #[.int .i64 0,.string ⟨#[]⟩,.int .u8 0,.slice none 0 0] 187;have G0:=grown_trans (grown_alloc w (.cells #[.int .i64 0,.string ⟨#[]⟩,.int .u8 0,.slice none 0 0] 187) (some p)) (grown_alloc _ (.cells #[.int .i64 0,.string ⟨#[]⟩,.int .u8 0,.slice none 0 0] 187) (some p));rw[show (w.alloc (.cells #[.int .i64 0,.string ⟨#[]⟩,.int .u8 0,.slice none 0 0] 187)).heap.size=w.heap.size+1 by simp]at kC;have hp:=h.lt;have hs:=h.lts;go_enter Tryz.func153,Tryz.ntmps153
 go_wp2_with (first
  | (go_at_call 87;refine (ahead_rd h2).mono ?_;rintro e w' ⟨rfl,hw⟩;obtain rfl:=hw.symm)
  | (go_at_call 90;refine (sees_rd h2 Lx.tOpen).mono ?_;rintro e w' ⟨rfl,hw⟩;obtain rfl:=hw.symm;rw[decide_eq_false HO.out])
  | (go_at_call 45;refine (IsName_any _ _ hsz).mono ?_;rintro e w' ⟨rfl,hw⟩;obtain rfl:=hw.symm;rw[HNN.out]))
 refine (token_rd h2).mono ?_;intro e w1 he;obtain⟨v,rfl,hg1,hr1,rfl⟩:=he.ok HW.out;clear he;have kB1:=kB.grown hg1 (by simp;omega);have kC1:=kC.grown hg1 (by simp;omega);have c0:w1.cell? ⟨w.heap.size+1,0,none⟩=some (.int .i64 0):=kC1.cell 0;have c1:w1.cell? ⟨w.heap.size+1,1,none⟩=some (.string ⟨#[]⟩):=kC1.cell 1;have f0:∀ i,w1.frozen? ⟨w.heap.size+1,i,none⟩=false:=kC1.frozen;have h3:=(hr1.setOther (b:=w.heap.size+1) 0 (.int .i64 1) (by omega) (by omega)).setOther (b:=w.heap.size+1) 1 (.string (Lx.hd ts)) (by omega) (by omega);have kB2:=(kB1.other (b':=w.heap.size+1) (i:=0) (by omega) (.int .i64 1)).other (b':=w.heap.size+1) (i:=1) (by omega) (.string (Lx.hd ts));have kC2:=(kC1.set 0 (.int .i64 1)).set 1 (.string (Lx.hd ts));have G1:=grown_trans G0 hg1;clear kB1 kC1 kB kC;go_wp2_with fail;refine (mark_rd h3).mono ?_;rintro e w2 ⟨rfl,hg2,hr2⟩;have kB3:=kB2.grown hg2 (by simp;omega);have kC3:=kC2.grown hg2 (by simp;omega);have d0:w2.cell? ⟨w.heap.size+1,0,none⟩=some (.int .i64 1):=kC3.cell 0;have d1:w2.cell? ⟨w.heap.size+1,1,none⟩=some (.string (Lx.hd ts)):=kC3.cell 1;have d2:w2.cell? ⟨w.heap.size+1,2,none⟩=some (.int .u8 0):=kC3.cell 2;have d3:w2.cell? ⟨w.heap.size+1,3,none⟩=some (.slice none 0 0):=kC3.cell 3;have e0:w2.cell? ⟨w.heap.size,0,none⟩=some (.int .i64 0):=kB3.cell 0;have e1:w2.cell? ⟨w.heap.size,1,none⟩=some (.string ⟨#[]⟩):=kB3.cell 1;have e2:w2.cell? ⟨w.heap.size,2,none⟩=some (.int .u8 0):=kB3.cell 2;have e3:w2.cell? ⟨w.heap.size,3,none⟩=some (.slice none 0 0):=kB3.cell 3
 have f1:∀ i,w2.frozen? ⟨w.heap.size+1,i,none⟩=false:=kC3.frozen;have f2:∀ i,w2.frozen? ⟨w.heap.size,i,none⟩=false:=kB3.frozen;have G2:=grown_trans (grown_new (grown_new G1 (by omega) 0 (.int .i64 1)) (by omega) 1 (.string (Lx.hd ts))) hg2;clear kB2 kC2 c0 c1 f0;go_wp2_with fail;refine bodyPost_ret (v:=.agg #[.int .i64 1,.string (Lx.hd ts),.int .u8 ((Lx.pMark ts.tail).1:Int),.slice none 0 0]) (by simp[results,Tryz.results153,go_sem,e0,e1,e2,e3]) rfl ?_;refine Ends.yes HP.out (grown_new (grown_new (grown_new (grown_new (grown_new G2 (by omega) _ _) (Nat.le_refl _) _ _) (Nat.le_refl _) _ _) (Nat.le_refl _) _ _) (Nat.le_refl _) _ _) ?_ ⟨_,rfl,AltsInS.nil _ _ _ _⟩;exact ((((hr2.setOther _ _ (by omega) (by omega)).setOther _ _ (by omega) (by omega)).setOther _ _ (by omega) (by omega)).setOther _ _ (by omega) (by omega)).setOther _ _ (by omega) (by omega)
theorem item_group {d:Nat} (HG:GroupSaid d) (sb cap:Nat) (L:List Tk) (p:Nat) (w:World) (ts:List Tk) (o:Int) (ho:o=8 - (d:Int)) (h:Rd sb cap L p w ts o) (hn:Lx.hd ts=Lx.tOpen) :
  Calls Tryz.prog 153 #[.pointer (some ⟨p,0,none⟩)] w (Ends sb cap L p o (VItem d w.heap.size) w (Lx.pItem (Lx.pGroupAt d) ts)):=by
 have HN:Hid (Lx.hd ts=Lx.tOpen):=hn;have HO:Hid (o=8 - (d:Int)):=ho;clear hn ho;have h2:=(h.alloc (.cells #[.int .i64 0,.string ⟨#[]⟩,.int .u8 0,.slice none 0 0] 187)).alloc (.cells #[.int .i64 0,.string ⟨#[]⟩,.int .u8 0,.slice none 0 0] 187);have kB:=(Blk.new w #[.int .i64 0,.string ⟨#[]⟩,.int .u8 0,.slice none 0 0] 187).alloc (.cells #[.int .i64 0,.string ⟨#[]⟩,.int .u8 0,.slice none 0 0] 187);have kC:=Blk.new (w.alloc (.cells #[.int .i64 0,.string ⟨#[]⟩,.int .u8 0,.slice none 0 0] 187)) #[.int .i64 0,.string ⟨#[]⟩,.int .u8 0,.slice none 0 0] 187;have G0:=grown_trans (grown_alloc w (.cells #[.int .i64 0,.string ⟨#[]⟩,.int .u8 0,.slice none 0 0] 187) (some p)) (grown_alloc _ (.cells #[.int .i64 0,.string ⟨#[]⟩,.int .u8 0,.slice none 0 0] 187) (some p));rw[show (w.alloc (.cells #[.int .i64 0,.string ⟨#[]⟩,.int .u8 0,.slice none 0 0] 187)).heap.size=w.heap.size+1 by simp]at kC;have hp:=h.lt;have hs:=h.lts;go_enter Tryz.func153,Tryz.ntmps153
 go_wp2_with (first
  | (go_at_call 90;refine (sees_rd h2 Lx.tOpen).mono ?_;rintro e w' ⟨rfl,hw⟩;obtain rfl:=hw.symm;rw[decide_eq_true HN.out]))
 refine (HG sb cap L p _ ts o HO.out h2 HN.out).mono ?_;intro e w1 he;cases hgr:Lx.pGroupAt d ts with
 | error x =>
  obtain⟨n,a⟩:=x;obtain⟨rfl,hg1⟩:=he.err hgr;exact⟨rfl,Ends.no (by unfold Lx.pItem;rw[if_pos HN.out,hgr]) (grown_trans G0 hg1)⟩
 | ok x =>
  obtain⟨l,ts1⟩:=x;obtain⟨v,rfl,hg1,hr1,hv⟩:=he.ok hgr;obtain⟨va,vk,vc,rfl⟩:=AltsInS.form hv;have HP:Hid (Lx.pItem (Lx.pGroupAt d) ts=.ok (⟨2,Lx.noText,(Lx.pMark ts1).1,l,Lx.pl ts⟩,(Lx.pMark ts1).2)):=by
   show _=_;unfold Lx.pItem;rw[if_pos HN.out,hgr]
  clear he hgr;have kB1:=kB.grown hg1 (by simp;omega);have kC1:=kC.grown hg1 (by simp;omega);have c0:w1.cell? ⟨w.heap.size+1,0,none⟩=some (.int .i64 0):=kC1.cell 0;have c1:w1.cell? ⟨w.heap.size+1,3,none⟩=some (.slice none 0 0):=kC1.cell 3;have f0:∀ i,w1.frozen? ⟨w.heap.size+1,i,none⟩=false:=kC1.frozen;have h3:=(hr1.setOther (b:=w.heap.size+1) 0 (.int .i64 2) (by omega) (by omega)).setOther (b:=w.heap.size+1) 3 (.slice va vk vc) (by omega) (by omega);have kB2:=(kB1.other (b':=w.heap.size+1) (i:=0) (by omega) (.int .i64 2)).other (b':=w.heap.size+1) (i:=3) (by omega) (.slice va vk vc);have kC2:=(kC1.set 0 (.int .i64 2)).set 3 (.slice va vk vc);have G1:=grown_trans G0 hg1;rw[show ((w.alloc (.cells #[.int .i64 0,.string ⟨#[]⟩,.int .u8 0,.slice none 0 0] 187)).alloc (.cells #[.int .i64 0,.string ⟨#[]⟩,.int .u8 0,.slice none 0 0] 187)).heap.size=w.heap.size+2 by simp]at hv;clear kB1 kC1 kB kC;go_wp2_with fail;refine (mark_rd h3).mono ?_;rintro e w2 ⟨rfl,hg2,hr2⟩;have kB3:=kB2.grown hg2 (by simp;omega);have kC3:=kC2.grown hg2 (by simp;omega);have d0:w2.cell? ⟨w.heap.size+1,0,none⟩=some (.int .i64 2):=kC3.cell 0;have d1:w2.cell? ⟨w.heap.size+1,1,none⟩=some (.string ⟨#[]⟩):=kC3.cell 1;have d2:w2.cell? ⟨w.heap.size+1,2,none⟩=some (.int .u8 0):=kC3.cell 2;have d3:w2.cell? ⟨w.heap.size+1,3,none⟩=some (.slice va vk vc):=kC3.cell 3;have e0:w2.cell? ⟨w.heap.size,0,none⟩=some (.int .i64 0):=kB3.cell 0;have e1:w2.cell? ⟨w.heap.size,1,none⟩=some (.string ⟨#[]⟩):=kB3.cell 1;have e2:w2.cell? ⟨w.heap.size,2,none⟩=some (.int .u8 0):=kB3.cell 2
  have e3:w2.cell? ⟨w.heap.size,3,none⟩=some (.slice none 0 0):=kB3.cell 3;have f1:∀ i,w2.frozen? ⟨w.heap.size+1,i,none⟩=false:=kC3.frozen;have f2:∀ i,w2.frozen? ⟨w.heap.size,i,none⟩=false:=kB3.frozen;have G2:=grown_trans (grown_new (grown_new G1 (by omega) 0 (.int .i64 2)) (by omega) 3 (.slice va vk vc)) hg2;have hv2:VAlts d (w.heap.size+2) w2 (.slice va vk vc) l:=((hv.move (Nat.le_refl _) (grown_set w1 (w.heap.size+1) 0 (.int .i64 2)) (fun k hk=>by cases hk;omega)).move (Nat.le_refl _) (grown_set _ (w.heap.size+1) 3 (.slice va vk vc)) (fun k hk=>by cases hk;omega)).move (Nat.le_refl _) hg2 (fun k hk=>by cases hk;omega);clear kB2 kC2 c0 c1 f0 hv;go_wp2_with fail;refine bodyPost_ret (v:=.agg #[.int .i64 2,.string ⟨#[]⟩,.int .u8 ((Lx.pMark ts1).1:Int),.slice va vk vc]) (by simp[results,Tryz.results153,go_sem,e0,e1,e2,e3]) rfl ?_;have g1:=grown_set w2 (w.heap.size+1) 2 (.int .u8 ((Lx.pMark ts1).1:Int));refine Ends.yes HP.out (grown_new (grown_new (grown_new (grown_new (grown_new G2 (by omega) _ _) (Nat.le_refl _) _ _) (Nat.le_refl _) _ _) (Nat.le_refl _) _ _) (Nat.le_refl _) _ _) ?_ ⟨_,rfl,?_⟩
  ·exact ((((hr2.setOther _ _ (by omega) (by omega)).setOther _ _ (by omega) (by omega)).setOther _ _ (by omega) (by omega)).setOther _ _ (by omega) (by omega)).setOther _ _ (by omega) (by omega)
  ·have m0:=hv2.move (lo':=w.heap.size) (by omega) g1 (fun k hk=>by cases hk;omega)
   have m1:=hv2.move (Nat.le_refl _) g1 (fun k hk=>by cases hk;omega);have m2:=m1.move (Nat.le_refl _) (grown_set _ w.heap.size 0 (.int .i64 2)) (fun k hk=>by cases hk;omega);have m3:=m2.move (Nat.le_refl _) (grown_set _ w.heap.size 1 (.string ⟨#[]⟩)) (fun k hk=>by cases hk;omega);have m4:=m3.move (Nat.le_refl _) (grown_set _ w.heap.size 2 (.int .u8 ((Lx.pMark ts1).1:Int))) (fun k hk=>by cases hk;omega);exact m4.move (by omega) (grown_set _ w.heap.size 3 (.slice va vk vc)) (fun k hk=>by cases hk;omega)
theorem item_all {d:Nat}(HG:GroupSaid d):ItemSaid d:=by
 intro sb cap L p w ts o ho h hsee
 by_cases h1:Lx.hd ts=Lx.tOpen
 ·exact item_group HG sb cap L p w ts o ho h h1
 ·cases h2:Lx.isName (Lx.hd ts)
  ·refine item_token sb cap L p w ts o h h1 h2 ?_
   unfold Lx.seesItem at hsee;rw[decide_eq_false h1,h2]at hsee;simpa using hsee
  ·exact item_name sb cap L p w ts o h h1 h2
end Go.Proofs.YtlcppnabbicmoaaGreatDoor

import Derived.Test.YtjaalkocdbkdeaaGreatDoorSA02
import Derived.Deep.RegionLaw
import Derived.Lib.Builder
import Derived.Lib.AppendStr
import Derived.Lib.UnsafeStr
import Derived.Laws.Externs
set_option maxHeartbeats 8000000
set_option maxRecDepth 1000000
namespace Go.Proofs.YtjaalkocdbkdeaaGreatDoor
open Lx Go.Proofs.Tryz
open Go.RowKit
open Lx (Tk)
open Tr
def aj(w:World)(b:Nat)(cs:Array Value)(e:Nat):Prop:=w.heap[b]?=some (.cells cs e (0,0))
section
variable {w w':World} {b:Nat} {cs:Array Value} {e:Nat}
theorem aj.cell(h:aj w b cs e)(i:Nat):w.cell? ⟨b,i,none⟩=cs[i]?:=by
 unfold aj at h;simp[World.cell?,h]
theorem aj.frozen(h:aj w b cs e)(i:Nat):w.frozen? ⟨b,i,none⟩=false:=by
 unfold aj at h;simp[World.frozen?,h]
theorem aj.lt(h:aj w b cs e):b<w.heap.size:=(Array.getElem?_eq_some_iff.1 h).1
theorem aj.set(h:aj w b cs e)(i:Nat)(v:Value):aj (w.setCell ⟨b,i,none⟩ v) b (cs.setIfInBounds i v) e:=by
 unfold aj at *;simp[World.setCell,Array.getElem?_modify,h]
theorem aj.other(h:aj w b cs e){b' i:Nat}(hb:b'≠b)(v:Value):aj (w.setCell ⟨b',i,none⟩ v) b cs e:=by
 unfold aj at *;rw[Below.heap_setCell _ _ _ _ (Ne.symm hb)];exact h
theorem aj.alloc(h:aj w b cs e)(o:Obj):aj (w.alloc o) b cs e:=by
 have hl:=h.lt;unfold aj at *;rw[Below.heap_alloc _ _ _ hl];exact h
theorem aj.new(w:World)(cs:Array Value)(e:Nat):aj (w.alloc (.cells cs e)) w.heap.size cs e:=heap_alloc_new w _
theorem aj.grown(h:aj w b cs e){r:Option Nat}(hg:w.grownBy w' r)(hr:some b≠r):aj w' b cs e:=by
 have hl:=h.lt;unfold aj at *;rw[hg.block b hl hr];exact h
theorem bZ(w:World)(o:Obj)(r:Option Nat):w.grownBy (w.alloc o) r:=World.grownBy_alloc w o r
end
theorem Rd.alloc{sb cap:Nat}{L:List Tk}{p:Nat}{w:World}{ts:List Tk}{o:Int}(h:Rd sb cap L p w ts o)(ob:Obj):Rd sb cap L p (w.alloc ob) ts o :=
 h.grown (bZ w ob none) (by simp) (by simp)
theorem Rd.setOther{sb cap:Nat}{L:List Tk}{p:Nat}{w:World}{ts:List Tk}{o:Int}(h:Rd sb cap L p w ts o){b:Nat}(i:Nat)(v:Value)(hp:b≠p)(hs:b≠sb):Rd sb cap L p (w.setCell ⟨b,i,none⟩ v) ts o :=
 h.grown (gu w b i v) (by simp;exact Ne.symm hp) (by simp;exact Ne.symm hs)
theorem d9{w u:World}{r:Option Nat}(h:w.grownBy u r){b:Nat}(hb:w.heap.size<=b)(i:Nat)(v:Value):w.grownBy (u.setCell ⟨b,i,none⟩ v) r :=
 ⟨h.os,h.tape,h.output,by have:=h.size;simpa [World.setCell]using this,fun k hk hn=>(Below.heap_setCell _ _ _ _ (fun e=>by have e':k=b:=e;omega)).trans (h.block k hk hn)⟩
theorem afO{d:Nat}(sb cap:Nat)(L:List Tk)(p:Nat)(w:World)(ts:List Tk)(o:Int)(h:Rd sb cap L p w ts o)(hno:¬Lx.hd ts=jg)(hn:Lx.isName (Lx.hd ts)=true):
  Calls prog 167 #[.pointer (some ⟨p,0,none⟩)] w (Ends sb cap L p o (K4 d w.heap.size) w (cO (bB d) ts)):=by
 have hsz:=h.hsz;have HP:Hid (cO (bB d) ts=.ok (⟨0,Lx.hd ts,(bS ts.tail).1,[],Lx.pl ts⟩,(bS ts.tail).2)):=by
  show _=_;unfold cO;rw[if_neg hno,if_pos hn]
 have HW:Hid (cK Lx.isName ts=.ok (Lx.hd ts,ts.tail)):=if_pos hn;have HN:Hid _:=hn;have HO:Hid _:=hno;clear hn hno;have h2:=(h.alloc (.cells #[.int .i64 0,.string ⟨#[]⟩,.int .u8 0,.slice none 0 0] 187)).alloc (.cells #[.int .i64 0,.string ⟨#[]⟩,.int .u8 0,.slice none 0 0] 187);have kB:=(aj.new w #[.int .i64 0,.string ⟨#[]⟩,.int .u8 0,.slice none 0 0] 187).alloc (.cells #[.int .i64 0,.string ⟨#[]⟩,.int .u8 0,.slice none 0 0] 187);have kC:=aj.new (w.alloc (.cells #[.int .i64 0,.string ⟨#[]⟩,.int .u8 0,.slice none 0 0] 187)) #[.int .i64 0,.string ⟨#[]⟩,.int .u8 0,.slice none 0 0] 187;have G0:=aW (bZ w (.cells #[.int .i64 0,.string ⟨#[]⟩,.int .u8 0,.slice none 0 0] 187) (some p)) (bZ _ (.cells #[.int .i64 0,.string ⟨#[]⟩,.int .u8 0,.slice none 0 0] 187) (some p));rw[show (w.alloc (.cells #[.int .i64 0,.string ⟨#[]⟩,.int .u8 0,.slice none 0 0] 187)).heap.size=w.heap.size+1 by simp]at kC;have hp:=h.lt;have hs:=h.yO;go_enter func167,ntmps167
 go_wp2_with (first
  | (go_at_call 75;refine(oq h2).mono ?_;rintro e w'⟨rfl,hw⟩;obtain rfl:=hw.symm)
  | (go_at_call 78;refine(uX h2 jg).mono ?_;rintro e w'⟨rfl,hw⟩;obtain rfl:=hw.symm;rw[decide_eq_false HO.out])
  | (go_at_call 36;refine(BD _ _ hsz).mono ?_;rintro e w'⟨rfl,hw⟩;obtain rfl:=hw.symm;rw[HN.out]))
 refine(XP h2).mono ?_;intro e w1 he;obtain⟨v,rfl,hg1,hr1,rfl⟩:=he.ok HW.out;clear he;have kB1:=kB.grown hg1 (by simp;omega);have aP:=kC.grown hg1 (by simp;omega);have c0:w1.cell? ⟨w.heap.size+1,0,none⟩=some (.int .i64 0):=aP.cell 0;have c1:w1.cell? ⟨w.heap.size+1,1,none⟩=some (.string ⟨#[]⟩):=aP.cell 1;have f0:∀i,w1.frozen? ⟨w.heap.size+1,i,none⟩=false:=aP.frozen;have h3:=(hr1.setOther (b:=w.heap.size+1) 0 (.int .i64 0) (by omega) (by omega)).setOther (b:=w.heap.size+1) 1 (.string (Lx.hd ts)) (by omega) (by omega);have kB2:=(kB1.other (b':=w.heap.size+1) (i:=0) (by omega) (.int .i64 0)).other (b':=w.heap.size+1) (i:=1) (by omega) (.string (Lx.hd ts));have eG:=(aP.set 0 (.int .i64 0)).set 1 (.string (Lx.hd ts));have G1:=aW G0 hg1;clear kB1 aP kB kC;go_wp2_with fail;refine(O0 h3).mono ?_;rintro e w2⟨rfl,hg2,hr2⟩;have kB3:=kB2.grown hg2 (by simp;omega);have bG:=eG.grown hg2 (by simp;omega);have d0:w2.cell? ⟨w.heap.size+1,0,none⟩=some (.int .i64 0):=bG.cell 0;have d1:w2.cell? ⟨w.heap.size+1,1,none⟩=some (.string (Lx.hd ts)):=bG.cell 1;have d2:w2.cell? ⟨w.heap.size+1,2,none⟩=some (.int .u8 0):=bG.cell 2;have d3:w2.cell? ⟨w.heap.size+1,3,none⟩=some (.slice none 0 0):=bG.cell 3;have e0:w2.cell? ⟨w.heap.size,0,none⟩=some (.int .i64 0):=kB3.cell 0;have e1:w2.cell? ⟨w.heap.size,1,none⟩=some (.string ⟨#[]⟩):=kB3.cell 1;have e2:w2.cell? ⟨w.heap.size,2,none⟩=some (.int .u8 0):=kB3.cell 2;have e3:w2.cell? ⟨w.heap.size,3,none⟩=some (.slice none 0 0):=kB3.cell 3;have f1:∀i,w2.frozen? ⟨w.heap.size+1,i,none⟩=false:=bG.frozen
 have f2:∀i,w2.frozen? ⟨w.heap.size,i,none⟩=false:=kB3.frozen;have G2:=aW (d9 (d9 G1 (by omega) 0 (.int .i64 0)) (by omega) 1 (.string (Lx.hd ts))) hg2;clear kB2 eG c0 c1 f0;go_wp2_with fail;refine bodyPost_ret (v:=.agg #[.int .i64 0,.string (Lx.hd ts),.int .u8 ((bS ts.tail).1:Int),.slice none 0 0]) (by simp[results,results167,go_sem,e0,e1,e2,e3]) rfl ?_;refine Ends.yes HP.out (d9 (d9 (d9 (d9 (d9 G2 (by omega) _ _) (Nat.le_refl _) _ _) (Nat.le_refl _) _ _) (Nat.le_refl _) _ _) (Nat.le_refl _) _ _) ?_ ⟨_,rfl,eO.nil _ _ _ _⟩;exact((((hr2.setOther _ _ (by omega) (by omega)).setOther _ _ (by omega) (by omega)).setOther _ _ (by omega) (by omega)).setOther _ _ (by omega) (by omega)).setOther _ _ (by omega) (by omega)
theorem ae3{d:Nat}(sb cap:Nat)(L:List Tk)(p:Nat)(w:World)(ts:List Tk)(o:Int)(h:Rd sb cap L p w ts o)(hno:¬Lx.hd ts=jg)(hnn:Lx.isName (Lx.hd ts)=false)(hn:Lx.isToken (Lx.hd ts)=true):
  Calls prog 167 #[.pointer (some ⟨p,0,none⟩)] w (Ends sb cap L p o (K4 d w.heap.size) w (cO (bB d) ts)):=by
 have hsz:=h.hsz;have HP:Hid (cO (bB d) ts=.ok (⟨1,Lx.hd ts,(bS ts.tail).1,[],Lx.pl ts⟩,(bS ts.tail).2)):=by
  show _=_;unfold cO;rw[if_neg hno,if_neg (by rw[hnn];simp),if_pos hn]
 have HW:Hid (cK Lx.isToken ts=.ok (Lx.hd ts,ts.tail)):=if_pos hn;have HN:Hid _:=hn;have HO:Hid _:=hno;have nQ:Hid _:=hnn;clear hn hno hnn;have h2:=(h.alloc (.cells #[.int .i64 0,.string ⟨#[]⟩,.int .u8 0,.slice none 0 0] 187)).alloc (.cells #[.int .i64 0,.string ⟨#[]⟩,.int .u8 0,.slice none 0 0] 187);have kB:=(aj.new w #[.int .i64 0,.string ⟨#[]⟩,.int .u8 0,.slice none 0 0] 187).alloc (.cells #[.int .i64 0,.string ⟨#[]⟩,.int .u8 0,.slice none 0 0] 187);have kC:=aj.new (w.alloc (.cells #[.int .i64 0,.string ⟨#[]⟩,.int .u8 0,.slice none 0 0] 187)) #[.int .i64 0,.string ⟨#[]⟩,.int .u8 0,.slice none 0 0] 187;have G0:=aW (bZ w (.cells #[.int .i64 0,.string ⟨#[]⟩,.int .u8 0,.slice none 0 0] 187) (some p)) (bZ _ (.cells #[.int .i64 0,.string ⟨#[]⟩,.int .u8 0,.slice none 0 0] 187) (some p));rw[show (w.alloc (.cells #[.int .i64 0,.string ⟨#[]⟩,.int .u8 0,.slice none 0 0] 187)).heap.size=w.heap.size+1 by simp]at kC;have hp:=h.lt;have hs:=h.yO;go_enter func167,ntmps167
 go_wp2_with (first
  | (go_at_call 75;refine(oq h2).mono ?_;rintro e w'⟨rfl,hw⟩;obtain rfl:=hw.symm)
  | (go_at_call 78;refine(uX h2 jg).mono ?_;rintro e w'⟨rfl,hw⟩;obtain rfl:=hw.symm;rw[decide_eq_false HO.out])
  | (go_at_call 36;refine(BD _ _ hsz).mono ?_;rintro e w'⟨rfl,hw⟩;obtain rfl:=hw.symm;rw[nQ.out]))
 refine(zO h2).mono ?_;intro e w1 he;obtain⟨v,rfl,hg1,hr1,rfl⟩:=he.ok HW.out;clear he;have kB1:=kB.grown hg1 (by simp;omega);have aP:=kC.grown hg1 (by simp;omega);have c0:w1.cell? ⟨w.heap.size+1,0,none⟩=some (.int .i64 0):=aP.cell 0;have c1:w1.cell? ⟨w.heap.size+1,1,none⟩=some (.string ⟨#[]⟩):=aP.cell 1;have f0:∀i,w1.frozen? ⟨w.heap.size+1,i,none⟩=false:=aP.frozen;have h3:=(hr1.setOther (b:=w.heap.size+1) 0 (.int .i64 1) (by omega) (by omega)).setOther (b:=w.heap.size+1) 1 (.string (Lx.hd ts)) (by omega) (by omega);have kB2:=(kB1.other (b':=w.heap.size+1) (i:=0) (by omega) (.int .i64 1)).other (b':=w.heap.size+1) (i:=1) (by omega) (.string (Lx.hd ts));have eG:=(aP.set 0 (.int .i64 1)).set 1 (.string (Lx.hd ts));have G1:=aW G0 hg1;clear kB1 aP kB kC;go_wp2_with fail;refine(O0 h3).mono ?_;rintro e w2⟨rfl,hg2,hr2⟩;have kB3:=kB2.grown hg2 (by simp;omega);have bG:=eG.grown hg2 (by simp;omega);have d0:w2.cell? ⟨w.heap.size+1,0,none⟩=some (.int .i64 1):=bG.cell 0;have d1:w2.cell? ⟨w.heap.size+1,1,none⟩=some (.string (Lx.hd ts)):=bG.cell 1;have d2:w2.cell? ⟨w.heap.size+1,2,none⟩=some (.int .u8 0):=bG.cell 2;have d3:w2.cell? ⟨w.heap.size+1,3,none⟩=some (.slice none 0 0):=bG.cell 3;have e0:w2.cell? ⟨w.heap.size,0,none⟩=some (.int .i64 0):=kB3.cell 0;have e1:w2.cell? ⟨w.heap.size,1,none⟩=some (.string ⟨#[]⟩):=kB3.cell 1;have e2:w2.cell? ⟨w.heap.size,2,none⟩=some (.int .u8 0):=kB3.cell 2;have e3:w2.cell? ⟨w.heap.size,3,none⟩=some (.slice none 0 0):=kB3.cell 3;have f1:∀i,w2.frozen? ⟨w.heap.size+1,i,none⟩=false:=bG.frozen
 have f2:∀i,w2.frozen? ⟨w.heap.size,i,none⟩=false:=kB3.frozen;have G2:=aW (d9 (d9 G1 (by omega) 0 (.int .i64 1)) (by omega) 1 (.string (Lx.hd ts))) hg2;clear kB2 eG c0 c1 f0;go_wp2_with fail;refine bodyPost_ret (v:=.agg #[.int .i64 1,.string (Lx.hd ts),.int .u8 ((bS ts.tail).1:Int),.slice none 0 0]) (by simp[results,results167,go_sem,e0,e1,e2,e3]) rfl ?_;refine Ends.yes HP.out (d9 (d9 (d9 (d9 (d9 G2 (by omega) _ _) (Nat.le_refl _) _ _) (Nat.le_refl _) _ _) (Nat.le_refl _) _ _) (Nat.le_refl _) _ _) ?_ ⟨_,rfl,eO.nil _ _ _ _⟩;exact((((hr2.setOther _ _ (by omega) (by omega)).setOther _ _ (by omega) (by omega)).setOther _ _ (by omega) (by omega)).setOther _ _ (by omega) (by omega)).setOther _ _ (by omega) (by omega)
theorem ae4{d:Nat}(HG:J5 d)(sb cap:Nat)(L:List Tk)(p:Nat)(w:World)(ts:List Tk)(o:Int)(ho:o=8 - (d:Int))(h:Rd sb cap L p w ts o)(hn:Lx.hd ts=jg):
  Calls prog 167 #[.pointer (some ⟨p,0,none⟩)] w (Ends sb cap L p o (K4 d w.heap.size) w (cO (bB d) ts)):=by
 have HN:Hid (Lx.hd ts=jg):=hn;have HO:Hid (o=8 - (d:Int)):=ho;clear hn ho;have h2:=(h.alloc (.cells #[.int .i64 0,.string ⟨#[]⟩,.int .u8 0,.slice none 0 0] 187)).alloc (.cells #[.int .i64 0,.string ⟨#[]⟩,.int .u8 0,.slice none 0 0] 187);have kB:=(aj.new w #[.int .i64 0,.string ⟨#[]⟩,.int .u8 0,.slice none 0 0] 187).alloc (.cells #[.int .i64 0,.string ⟨#[]⟩,.int .u8 0,.slice none 0 0] 187);have kC:=aj.new (w.alloc (.cells #[.int .i64 0,.string ⟨#[]⟩,.int .u8 0,.slice none 0 0] 187)) #[.int .i64 0,.string ⟨#[]⟩,.int .u8 0,.slice none 0 0] 187;have G0:=aW (bZ w (.cells #[.int .i64 0,.string ⟨#[]⟩,.int .u8 0,.slice none 0 0] 187) (some p)) (bZ _ (.cells #[.int .i64 0,.string ⟨#[]⟩,.int .u8 0,.slice none 0 0] 187) (some p));rw[show (w.alloc (.cells #[.int .i64 0,.string ⟨#[]⟩,.int .u8 0,.slice none 0 0] 187)).heap.size=w.heap.size+1 by simp]at kC;have hp:=h.lt;have hs:=h.yO;go_enter func167,ntmps167
 go_wp2_with (first
  | (go_at_call 78;refine(uX h2 jg).mono ?_;rintro e w'⟨rfl,hw⟩;obtain rfl:=hw.symm;rw[decide_eq_true HN.out]))
 refine(HG sb cap L p _ ts o HO.out h2 HN.out).mono ?_;intro e w1 he;cases hgr:bB d ts with
 |error x=>
  obtain⟨n,a⟩:=x;obtain⟨rfl,hg1⟩:=he.err hgr;exact⟨rfl,Ends.no (by unfold cO;rw[if_pos HN.out,hgr]) (aW G0 hg1)⟩
 |ok x=>
  obtain⟨l,aB⟩:=x;obtain⟨v,rfl,hg1,hr1,hv⟩:=he.ok hgr;obtain⟨va,vk,vc,rfl⟩:=eO.form hv;have HP:Hid (cO (bB d) ts=.ok (⟨2,aL,(bS aB).1,l,Lx.pl ts⟩,(bS aB).2)):=by
   show _=_;unfold cO;rw[if_pos HN.out,hgr]
  clear he hgr;have kB1:=kB.grown hg1 (by simp;omega);have aP:=kC.grown hg1 (by simp;omega);have c0:w1.cell? ⟨w.heap.size+1,0,none⟩=some (.int .i64 0):=aP.cell 0;have c1:w1.cell? ⟨w.heap.size+1,3,none⟩=some (.slice none 0 0):=aP.cell 3;have f0:∀i,w1.frozen? ⟨w.heap.size+1,i,none⟩=false:=aP.frozen;have h3:=(hr1.setOther (b:=w.heap.size+1) 0 (.int .i64 2) (by omega) (by omega)).setOther (b:=w.heap.size+1) 3 (.slice va vk vc) (by omega) (by omega);have kB2:=(kB1.other (b':=w.heap.size+1) (i:=0) (by omega) (.int .i64 2)).other (b':=w.heap.size+1) (i:=3) (by omega) (.slice va vk vc);have eG:=(aP.set 0 (.int .i64 2)).set 3 (.slice va vk vc);have G1:=aW G0 hg1;rw[show ((w.alloc (.cells #[.int .i64 0,.string ⟨#[]⟩,.int .u8 0,.slice none 0 0] 187)).alloc (.cells #[.int .i64 0,.string ⟨#[]⟩,.int .u8 0,.slice none 0 0] 187)).heap.size=w.heap.size+2 by simp]at hv;clear kB1 aP kB kC;go_wp2_with fail;refine(O0 h3).mono ?_;rintro e w2⟨rfl,hg2,hr2⟩;have kB3:=kB2.grown hg2 (by simp;omega);have bG:=eG.grown hg2 (by simp;omega);have d0:w2.cell? ⟨w.heap.size+1,0,none⟩=some (.int .i64 2):=bG.cell 0;have d1:w2.cell? ⟨w.heap.size+1,1,none⟩=some (.string ⟨#[]⟩):=bG.cell 1;have d2:w2.cell? ⟨w.heap.size+1,2,none⟩=some (.int .u8 0):=bG.cell 2;have d3:w2.cell? ⟨w.heap.size+1,3,none⟩=some (.slice va vk vc):=bG.cell 3;have e0:w2.cell? ⟨w.heap.size,0,none⟩=some (.int .i64 0):=kB3.cell 0;have e1:w2.cell? ⟨w.heap.size,1,none⟩=some (.string ⟨#[]⟩):=kB3.cell 1;have e2:w2.cell? ⟨w.heap.size,2,none⟩=some (.int .u8 0):=kB3.cell 2
  have e3:w2.cell? ⟨w.heap.size,3,none⟩=some (.slice none 0 0):=kB3.cell 3;have f1:∀i,w2.frozen? ⟨w.heap.size+1,i,none⟩=false:=bG.frozen;have f2:∀i,w2.frozen? ⟨w.heap.size,i,none⟩=false:=kB3.frozen;have G2:=aW (d9 (d9 G1 (by omega) 0 (.int .i64 2)) (by omega) 3 (.slice va vk vc)) hg2;have hv2:BS d (w.heap.size+2) w2 (.slice va vk vc) l:=((hv.move (Nat.le_refl _) (gu w1 (w.heap.size+1) 0 (.int .i64 2)) (fun k hk=>by cases hk;omega)).move (Nat.le_refl _) (gu _ (w.heap.size+1) 3 (.slice va vk vc)) (fun k hk=>by cases hk;omega)).move (Nat.le_refl _) hg2 (fun k hk=>by cases hk;omega);clear kB2 eG c0 c1 f0 hv;go_wp2_with fail;refine bodyPost_ret (v:=.agg #[.int .i64 2,.string ⟨#[]⟩,.int .u8 ((bS aB).1:Int),.slice va vk vc]) (by simp[results,results167,go_sem,e0,e1,e2,e3]) rfl ?_;have g1:=gu w2 (w.heap.size+1) 2 (.int .u8 ((bS aB).1:Int));refine Ends.yes HP.out (d9 (d9 (d9 (d9 (d9 G2 (by omega) _ _) (Nat.le_refl _) _ _) (Nat.le_refl _) _ _) (Nat.le_refl _) _ _) (Nat.le_refl _) _ _) ?_ ⟨_,rfl,?_⟩
  ·exact((((hr2.setOther _ _ (by omega) (by omega)).setOther _ _ (by omega) (by omega)).setOther _ _ (by omega) (by omega)).setOther _ _ (by omega) (by omega)).setOther _ _ (by omega) (by omega)
  ·have m0:=hv2.move (lo':=w.heap.size) (by omega) g1 (fun k hk=>by cases hk;omega)
   have m1:=hv2.move (Nat.le_refl _) g1 (fun k hk=>by cases hk;omega);have m2:=m1.move (Nat.le_refl _) (gu _ w.heap.size 0 (.int .i64 2)) (fun k hk=>by cases hk;omega);have m3:=m2.move (Nat.le_refl _) (gu _ w.heap.size 1 (.string ⟨#[]⟩)) (fun k hk=>by cases hk;omega);have m4:=m3.move (Nat.le_refl _) (gu _ w.heap.size 2 (.int .u8 ((bS aB).1:Int))) (fun k hk=>by cases hk;omega);exact m4.move (by omega) (gu _ w.heap.size 3 (.slice va vk vc)) (fun k hk=>by cases hk;omega)
theorem WY{d:Nat}(HG:J5 d):WX d:=by
 intro sb cap L p w ts o ho h ug
 by_cases h1:Lx.hd ts=jg
 ·exact ae4 HG sb cap L p w ts o ho h h1
 ·cases h2:Lx.isName (Lx.hd ts)
  ·refine ae3 sb cap L p w ts o h h1 h2 ?_
   unfold jU at ug;rw[decide_eq_false h1,h2]at ug;simpa using ug
  ·exact afO sb cap L p w ts o h h1 h2
end Go.Proofs.YtjaalkocdbkdeaaGreatDoor
namespace Go.Proofs.YtjaalkocdbkdeaaGreatDoor
open Lx Go.Proofs.Tryz
open Go.RowKit
open Lx (Tk)
open Tr
theorem Tryz.aic:(prog.info? 187).map (fun i=>(i.zero,i.size,i.bytes))=some (some (.agg #[.int .i64 0,.string ⟨#[]⟩,.int .u8 0,.slice none 0 0]),4,56):=by kernel_rfl
theorem Tryz.aie:(prog.info? 195).map (fun i=>(i.zero,i.size,i.bytes))=some (some (.agg #[.slice none 0 0,.string ⟨#[]⟩]),2,40):=by kernel_rfl
theorem om(w:World)(r:Option Nat):w.grownBy w.drew r:=⟨rfl,rfl,rfl,Nat.le_refl _,fun _ _ _=>rfl⟩
theorem Rd.drew{sb cap:Nat}{L:List Tk}{p:Nat}{w:World}{ts:List Tk}{o:Int}(h:Rd sb cap L p w ts o):Rd sb cap L p w.drew ts o :=
 h.grown (om w none) (by simp) (by simp)
theorem aj.drew{w:World}{b:Nat}{cs:Array Value}{e:Nat}(h:aj w b cs e):aj w.drew b cs e:=h
theorem jK {P:Program} {ops:Array Oper} {o:Oper} {a:Act} {w:World} {K:Act->World->Prop} {Q:Exit->Act->World->Prop} {E:Prop} (hgd:o.guard=none) (f:FuncId) (args:Array Value)
  (hrun:(execOp a.eval o).run P w=.ok (.enter f args) w) {R:Ending->World->Prop} (hc:Calls P f args w R) (h:∀e w',R e w'->∃v,e=.returned v/\K (a.put o.dst v) w') :
  if Region.wanted o (yielded ops a.tmps)=true then Oper.wp P o a w K Q else E:=by
 have hw:Region.wanted o (yielded ops a.tmps)=true:=by simp[Region.wanted,hgd]
 rw[if_pos hw];unfold Oper.wp;rw[hrun,Oper.upon_enter];refine hc.mono ?_;intro e w' hr;obtain⟨v,rfl,hk⟩:=h e w' hr;exact hk
theorem tX {P:Program} {ops:Array Oper} {o:Oper} {a:Act} {w:World} {K:Act->World->Prop} {Q:Exit->Act->World->Prop} {E:Prop} (hgd:o.guard=none) (f:FuncId) (args:Array Value)
  (hrun:(execOp a.eval o).run P w=.ok (.enter f args) w) {R:Ending->World->Prop} (hc:Calls P f args w R) (h:∀e w',R e w'->∃c,e=.panicked c/\Q (.panic c) a w') :
  if Region.wanted o (yielded ops a.tmps)=true then Oper.wp P o a w K Q else E:=by
 have hw:Region.wanted o (yielded ops a.tmps)=true:=by simp[Region.wanted,hgd]
 rw[if_pos hw];unfold Oper.wp;rw[hrun,Oper.upon_enter];refine hc.mono ?_;intro e w' hr;obtain⟨v,rfl,hk⟩:=h e w' hr;exact hk
theorem bC{w:World}{g:Nat}{cs:Array Value}{e:Nat}(h:aj w g cs e):∀(j:Nat)(u:Value),cs.toList[j]?=some u->w.cell? ((⟨g,0,none⟩:Addr).add j)=some u:=by
 intro j u hu;have hadd:(⟨g,0,none⟩:Addr).add j=⟨g,j,none⟩:=by unfold Addr.add;split <;> simp_all
 rw[hadd,h.cell];simpa using hu
theorem Br{w u u2 u3:World}{r s:Option Nat}(h:w.grownBy u s)(h2:u.grownBy u2 none)(h3:u2.grownBy u3 r)(hr:∀k,r=some k->w.heap.size<=k):w.grownBy u3 s :=
 ⟨h3.os.trans (h2.os.trans h.os),h3.tape.trans (h2.tape.trans h.tape),h3.output.trans (h2.output.trans h.output),Nat.le_trans h.size (Nat.le_trans h2.size h3.size),fun k hk hn=>
  (h3.block k (Nat.lt_of_lt_of_le hk (Nat.le_trans h.size h2.size)) (fun e=>by have:=hr k e.symm;omega)).trans ((h2.block k (Nat.lt_of_lt_of_le hk h.size) (by simp)).trans (h.block k hk hn))⟩
abbrev KA(d:Nat):(Nat->Prop)->World->Value->Lx.It->Prop:=fun F w va it=>eO YP d F w va it.alts
theorem XR{d:Nat}(HI:WX d):XQ d:=by
 intro sb cap L p w ts o ho h;obtain⟨i0,hi,hz0,hz1,hz2⟩:=info_parts Tryz.aic;have hp:=h.lt;have hs:=h.yO;have HO:Hid (o=8 - (d:Int)):=ho;have hlb:=h.lb;have hlen:=h.len;clear ho;have h2:=(h.alloc (.cells #[.slice none 0 0,.string ⟨#[]⟩] 195)).alloc (.cells #[.slice none 0 0,.string ⟨#[]⟩] 195);have kB:=(aj.new w #[.slice none 0 0,.string ⟨#[]⟩] 195).alloc (.cells #[.slice none 0 0,.string ⟨#[]⟩] 195);have kC:=aj.new (w.alloc (.cells #[.slice none 0 0,.string ⟨#[]⟩] 195)) #[.slice none 0 0,.string ⟨#[]⟩] 195;have G0:=aW (bZ w (.cells #[.slice none 0 0,.string ⟨#[]⟩] 195) (some p)) (bZ _ (.cells #[.slice none 0 0,.string ⟨#[]⟩] 195) (some p));rw[show (w.alloc (.cells #[.slice none 0 0,.string ⟨#[]⟩] 195)).heap.size=w.heap.size+1 by simp]at kC;go_enter func149,ntmps149;go_wp2_with fail
 go_loopg [] ts.length (fun k wr=>∃(aA:List Tk)(acc:List Lx.It)(v:Value)(f:Nat),aA.length=k/\aA.length<=f/\acc.length+aA.length<=ts.length/\w.heap.size+2<=wr.heap.size/\Rd sb cap L p wr aA o/\aj wr (w.heap.size+1) #[v,.string ⟨#[]⟩] 195/\aj wr w.heap.size #[.slice none 0 0,.string ⟨#[]⟩] 195 /\
   mH (w.heap.size+2) wr 187 4 YP.cI (KA d) v acc/\w.grownBy wr (some p)/\Hid (dM (bB d) f aA acc=dM (bB d) ts.length ts []))
 case atStart=>exact⟨ts,[],_,ts.length,rfl,Nat.le_refl _,by simp,by simp,h2,kC,kB,mH.nil _ _ _ _ _ _,G0,rfl⟩
 case round=>
  obtain⟨aA,acc,v,f,hk,hf,hacc,hsz,hr,aP,kB1,hgrow,hg,hpi⟩:=hrel;clear h2 kB kC G0;cases ug:jU aA
  ·have HS:Hid _:=ug
   clear ug;have GJ:dM (bB d) ts.length ts []=.ok (acc,aA):=by
    rw[<-hpi.out];have hne:=hr.wf.ne;obtain⟨f',rfl⟩:∃f',f=f'+1:=⟨f-1,by omega⟩;simp only[dM];rw[if_neg (by rw[HS.out];simp)]
   have vD:Hid (dG (bB d) (d == 8) ts=mG (d == 8) acc aA):=by
    show _=_;unfold dG;rw[GJ]
   clear GJ hpi;have hop:=hr.op;have hseq:=hgrow.seq;obtain⟨va,vk,vc,rfl⟩:=dW.form hseq;have c0:wr.cell? ⟨w.heap.size+1,0,none⟩=some (.slice va vk vc):=aP.cell 0;have c1:wr.cell? ⟨w.heap.size+1,1,none⟩=some (.string ⟨#[]⟩):=aP.cell 1;have b0:wr.cell? ⟨w.heap.size,0,none⟩=some (.slice none 0 0):=kB1.cell 0;have b1:wr.cell? ⟨w.heap.size,1,none⟩=some (.string ⟨#[]⟩):=kB1.cell 1;have fB:∀i,wr.frozen? ⟨w.heap.size,i,none⟩=false:=kB1.frozen;have fC:∀i,wr.frozen? ⟨w.heap.size+1,i,none⟩=false:=aP.frozen
   by_cases h8:d=8
   ·have o0:(o == 0)=true:=beq_iff_eq.2 (by have:=HO.out;omega)
    by_cases hpr:Lx.hd aA=iX
    ·have hnx:Lx.hd aA≠aL:=by rw[hpr];decide
     have QZ:Hid (Lx.hd aA=iX):=hpr;have H8:Hid (d=8):=h8;clear hpr h8
     go_wp2_with (first
      | (go_at_call 166;refine(FR hr).mono ?_;rintro e w'⟨rfl,hw⟩;obtain rfl:=hw.symm;rw[HS.out]))
     refine(JN hr iX (by decide) QZ.out).mono ?_;rintro e w1⟨rfl,hg1,hr1⟩;have eG:=aP.grown hg1 (by simp;omega);have kB2:=kB1.grown hg1 (by simp;omega);go_wp2_with fail;refine(zO hr1).mono ?_;intro e w2 he;cases hpw:cK Lx.isToken aA.tail with
     |error x=>
      obtain⟨n,a⟩:=x;obtain⟨rfl,hg2⟩:=he.err hpw;exact⟨rfl,Ends.no (by rw[vD.out];unfold mG;rw[if_pos ⟨by simp[H8.out],QZ.out⟩,hpw]) (aW (aW hg hg1) hg2)⟩
     |ok x=>
      obtain⟨b,bL⟩:=x;obtain⟨v,rfl,hg2,hr2,rfl⟩:=he.ok hpw;have HP:Hid (dG (bB d) (d == 8) ts=.ok ((acc,b,Lx.pl aA.tail),bL)):=by
       show _=_;rw[vD.out];unfold mG;rw[if_pos ⟨by simp[H8.out],QZ.out⟩,hpw]
      clear hpw he;have bG:=eG.grown hg2 (by simp;omega);have kB3:=kB2.grown hg2 (by simp;omega);have d0:w2.cell? ⟨w.heap.size+1,0,none⟩=some (.slice va vk vc):=bG.cell 0;have d1:w2.cell? ⟨w.heap.size+1,1,none⟩=some (.string ⟨#[]⟩):=bG.cell 1;have e0:w2.cell? ⟨w.heap.size,0,none⟩=some (.slice none 0 0):=kB3.cell 0;have e1:w2.cell? ⟨w.heap.size,1,none⟩=some (.string ⟨#[]⟩):=kB3.cell 1;have fB2:∀i,w2.frozen? ⟨w.heap.size,i,none⟩=false:=kB3.frozen;have fC2:∀i,w2.frozen? ⟨w.heap.size+1,i,none⟩=false:=bG.frozen;go_wp2_with fail;refine bodyPost_ret (v:=.agg #[.slice va vk vc,.string b]) (by simp[results,results149,go_sem,e0,e1]) rfl ?_;refine Ends.yes HP.out (d9 (d9 (d9 (aW (aW hg hg1) hg2) (by omega) _ _) (Nat.le_refl _) _ _) (Nat.le_refl _) _ _) (((hr2.setOther _ _ (by omega) (by omega)).setOther _ _ (by omega) (by omega)).setOther _ _ (by omega) (by omega)) ⟨_,rfl,?_⟩;refine qZ.move (F:=In (w.heap.size+2) wr.heap.size) (w:=wr) (fun b hb=>?_) (fun b hb=>?_) hseq
      ·have h1:=hb.1
       have h2:=hb.2;have g1:=hg1.size;rw[Below.heap_setCell _ _ _ _ (fun e=>by have e':b=w.heap.size:=e;omega),Below.heap_setCell _ _ _ _ (fun e=>by have e':b=w.heap.size:=e;omega),Below.heap_setCell _ _ _ _ (fun e=>by have e':b=w.heap.size+1:=e;omega),hg2.block b (by omega) (by simp;omega),hg1.block b h2 (by simp;omega)]
      ·have h1:=hb.1
       have h2:=hb.2;have g1:=hg1.size;have g2:=hg2.size;exact⟨by omega,by simp[World.setCell];omega⟩
    ·have HP:Hid (dG (bB d) (d == 8) ts=.ok ((acc,aL,0),aA)):=by
      show _=_;rw[vD.out];unfold mG;rw[if_neg (fun hh=>hpr hh.2)]
     have HR:Hid _:=hpr;clear hpr h8 vD
     go_wp2_with (first
      | (go_at_call 166;refine(FR hr).mono ?_;rintro e w'⟨rfl,hw⟩;obtain rfl:=hw.symm;rw[HS.out])
      | (go_at_call 113;refine(F4 hr iX HR.out).mono ?_;rintro e w'⟨rfl,hw⟩;obtain rfl:=hw.symm))
     refine bodyPost_ret (v:=.agg #[.slice va vk vc,.string ⟨#[]⟩]) (by simp[results,results149,go_sem,b0,b1]) rfl ?_;refine Ends.yes HP.out (d9 (d9 hg (Nat.le_refl _) _ _) (Nat.le_refl _) _ _) ((hr.setOther _ _ (by omega) (by omega)).setOther _ _ (by omega) (by omega)) ⟨_,rfl,?_⟩;refine qZ.move (F:=In (w.heap.size+2) wr.heap.size) (w:=wr) (fun b hb=>?_) (fun b hb=>?_) hseq
     ·have h1:=hb.1
      rw[Below.heap_setCell _ _ _ _ (fun e=>by have e':b=w.heap.size:=e;omega),Below.heap_setCell _ _ _ _ (fun e=>by have e':b=w.heap.size:=e;omega)]
     ·have h1:=hb.1
      have h2:=hb.2;exact⟨by omega,by simpa [World.setCell]using h2⟩
   ·have o0:(o == 0)=false:=beq_eq_false_iff_ne.2 (by have:=HO.out;omega)
    have HP:Hid (dG (bB d) (d == 8) ts=.ok ((acc,aL,0),aA)):=by
     show _=_;rw[vD.out];unfold mG;rw[if_neg (fun hh=>h8 (by simpa using hh.1))]
    clear h8 vD
    go_wp2_with (first
     | (go_at_call 166;refine(FR hr).mono ?_;rintro e w'⟨rfl,hw⟩;obtain rfl:=hw.symm;rw[HS.out]))
    refine bodyPost_ret (v:=.agg #[.slice va vk vc,.string ⟨#[]⟩]) (by simp[results,results149,go_sem,b0,b1]) rfl ?_;refine Ends.yes HP.out (d9 (d9 hg (Nat.le_refl _) _ _) (Nat.le_refl _) _ _) ((hr.setOther _ _ (by omega) (by omega)).setOther _ _ (by omega) (by omega)) ⟨_,rfl,?_⟩;refine qZ.move (F:=In (w.heap.size+2) wr.heap.size) (w:=wr) (fun b hb=>?_) (fun b hb=>?_) hseq
    ·have h1:=hb.1
     rw[Below.heap_setCell _ _ _ _ (fun e=>by have e':b=w.heap.size:=e;omega),Below.heap_setCell _ _ _ _ (fun e=>by have e':b=w.heap.size:=e;omega)]
    ·have h1:=hb.1
     have h2:=hb.2;exact⟨by omega,by simpa [World.setCell]using h2⟩
  ·have HS:Hid _:=ug
   clear ug;obtain⟨ps,F,hgb⟩:=hgrow;have hown:=hgb.2.1;obtain⟨va,vk,vc,rfl⟩:=rW hown;have c0:wr.cell? ⟨w.heap.size+1,0,none⟩=some (.slice va vk vc):=aP.cell 0;have f0:∀i,wr.frozen? ⟨w.heap.size+1,i,none⟩=false:=aP.frozen;have gW:=hr.drew;have kE:=aW hg (om wr (some p));have hne:=hr.wf.ne;obtain⟨f',rfl⟩:∃f',f=f'+1:=⟨f-1,by omega⟩;cases hit:cO (bB d) aA with
   |error x=>
    obtain⟨n,a⟩:=x;have HE:Hid (dG (bB d) (d == 8) ts=.error (n,a)):=by
     show _=_;unfold dG;rw[<-hpi.out];simp only[dM];rw[if_pos HS.out,hit]
    have HIT:Hid _:=hit;clear hit hpi
    go_wp2_with (first
     | (go_at_call 166;refine(FR hr).mono ?_;rintro e w'⟨rfl,hw⟩;obtain rfl:=hw.symm;rw[HS.out]))
    refine wp_region_any (by kernel_rfl) ?_;refine wpAny_take (i:=0) (v:=.pointer (some ⟨w.heap.size+1,0,none⟩)) rfl (by kernel_rfl) (by kernel_rfl) (by kernel_rfl) (fun _ _ _ h=>h) (Or.inl ⟨by rfl,fun w=>by go_simp⟩) ?_;refine wpAny_take (i:=2) (v:=.pointer (some ⟨p,0,none⟩)) rfl (by kernel_rfl) (by kernel_rfl) (by kernel_rfl) (fun _ _ _ h=>h) (Or.inl ⟨by rfl,fun w=>by go_simp⟩) ?_;refine wpAny_ready (rs:=[1,3]) (by kernel_rfl) (by simp) ?_;refine AllReady.cons rfl (fun K hK=>?_) (AllReady.cons rfl (fun K hK=>?_) AllReady.nil)
    ·change if _ then Oper.wp _ _ _ wr.drew _ _ else _
     go_simp
     refine hK _ _ ?_;clear hK K;refine wpAny_ready (rs:=[3]) (by kernel_rfl) (by simp) ?_;refine AllReady.cons rfl (fun K hK=>?_) AllReady.nil;exact tX rfl 167 #[.pointer (some ⟨p,0,none⟩)] (by go_simp) (HI sb cap L p _ aA o HO.out gW HS.out) fun e w1 he=>by obtain⟨rfl,hg1⟩:=he.err HIT.out;exact⟨_,rfl,rfl,Ends.no HE.out (aW kE hg1)⟩
    ·change if _ then Oper.wp _ _ _ wr.drew _ _ else _
     exact tX rfl 167 #[.pointer (some ⟨p,0,none⟩)] (by go_simp) (HI sb cap L p _ aA o HO.out gW HS.out) fun e w1 he=>by obtain⟨rfl,hg1⟩:=he.err HIT.out;exact⟨_,rfl,rfl,Ends.no HE.out (aW kE hg1)⟩
   |ok x=>
    obtain⟨it,aB⟩:=x;have hl1:=D8 (zF d) hit;have hl2:=hr.wf.mD;have jO:Hid (dM (bB d) f' aB (acc++[it])=dM (bB d) ts.length ts []):=by
     show _=_;rw[<-hpi.out];simp only[dM];rw[if_pos HS.out,hit]
    have HIT:Hid _:=hit;clear hit hpi
    go_wp2_with (first
     | (go_at_call 166;refine(FR hr).mono ?_;rintro e w'⟨rfl,hw⟩;obtain rfl:=hw.symm;rw[HS.out]))
    go_region_law (first
     | (refine step_append_lies _ rfl (.tmp 7) (.tmp 10) 193 rfl (w.heap.size+2) 187 i0 _ 4 56 underlying193 hi hz0 hz1 hz2 rfl (by decide) (.slice va vk vc) acc.length (ps.flatMap YP.cI) (by simp[Act.eval]) (hown1.alloc _) ⟨w1.heap.size,0,none⟩ 1 1 (YP.cI (.slice xa xk xc,it)) (by simp[Act.eval]) rfl (bC (aj.new w1 _ 187)) (by simp[YP,Value.oneCell']) (by decide) (by unfold maxLen;omega) (by omega) (by have:=hg1.size;simp at this;simp;omega) _ rfl ?_;intro g cap' w3 hown3 hgrow3 hat hlt;have bG:=(eG.alloc _).grown hgrow3 (fun e=>by have:=(hown.lt _ e.symm).1;omega);have c03:w3.cell? ⟨w.heap.size+1,0,none⟩=some (.slice va vk vc):=bG.cell 0;have oJ:∀i,w3.frozen? ⟨w.heap.size+1,i,none⟩=false:=bG.frozen)
     | (refine jK rfl 167 #[.pointer (some ⟨p,0,none⟩)] (by go_simp) (HI sb cap L p _ aA o HO.out gW HS.out) ?_;intro e w1 he;obtain⟨vv,rfl,hg1,hr1,hv1⟩:=he.ok HIT.out;refine⟨_,rfl,?_⟩;obtain⟨vx,rfl,hax⟩:=hv1;obtain⟨xa,xk,xc,rfl⟩:=eO.form hax;have hown1:=((hgb.kept (FL YP d) (om wr none) (by simp)).kept (FL YP d) hg1 (fun k hk=>by cases hk;omega)).2.1;have eG:=aP.drew.grown hg1 (by simp;omega);have Q0:w1.cell? ⟨w.heap.size+1,0,none⟩=some (.slice va vk vc):=eG.cell 0;have hlt2:=eG.lt))
    all_goals
     have G3:=uW.push (FL YP d) (hgb.kept (FL YP d) (om wr none) (by simp)) (p:=p) (by omega) (by simpa using hsz) hg1 (.slice xa xk xc,it) hax (bZ w1 _ none) hown3 hgrow3 hat;have kB3:=((kB1.drew.grown hg1 (by simp;omega)).alloc _).grown hgrow3 (fun e=>by have:=(hown.lt _ e.symm).1;omega);have hr3:=(hr1.alloc _).grown hgrow3 (fun e=>by have:=(hown.lt _ e.symm).1;omega) (fun e=>by have:=(hown.lt _ e.symm).1;omega);have Md:=Br (aW kE hg1) (bZ w1 _ none) hgrow3 (fun k hk=>by have:=(hown.lt _ hk).1;omega);have hs3:=hgrow3.size;have hs1:=hg1.size;have hsD:wr.drew.heap.size=wr.heap.size:=rfl;have hsA:(w1.alloc (.cells (YP.cI (.slice xa xk xc,it)).toArray 187)).heap.size=w1.heap.size+1:=by simp
     clear hown3 hgrow3 hat hown1 eG Q0 c0 f0 hax;go_wp2_with fail;go_roundg aB.length
     case measure=>omega
     case rel=>
      refine⟨aB,acc++[it],_,f',rfl,by omega,by simp;omega,?_,hr3.setOther _ _ (by omega) (by omega),bG.set 0 _,kB3.other (by omega) _,?_,d9 Md (by omega) _ _,jO⟩
      ·simp only[World.setCell,Array.size_modify];have:=hs3;simp at this;omega
      ·exact mH.kept (FL YP d) G3 (gu w3 (w.heap.size+1) 0 _) (fun k hk=>by cases hk;omega)
end Go.Proofs.YtjaalkocdbkdeaaGreatDoor
namespace Go.Proofs.YtjaalkocdbkdeaaGreatDoor
open Lx Go.Proofs.Tryz
open Go.RowKit
open Tr
theorem flat_get{α:Type}(c:Value×α->List Value)(s:Nat)(hc:∀q,(c q).length=s):∀(ps:List (Value×α))(j i:Nat)(q:Value×α),ps[j]?=some q->i<s->(ps.flatMap c)[j*s+i]?=(c q)[i]?
 | [],_,_,_,h,_=>by simp at h
 |p::ps,0,i,q,h,hi=>by
  simp at h;subst h;rw[List.flatMap_cons,Nat.zero_mul,Nat.zero_add,List.getElem?_append_left (by rw[hc];exact hi)]
 |p::ps,j+1,i,q,h,hi=>by
  have h':ps[j]?=some q:=by simpa using h
  rw[List.flatMap_cons,List.getElem?_append_right (by rw[hc,Nat.succ_mul];omega),hc,show (j+1)*s+i-s=j*s+i by rw[Nat.succ_mul];omega];exact flat_get c s hc ps j i q h' hi
theorem Tr.Seq.at{α:Type}{F:Nat->Prop}{w:World}{e s:Nat}{c:Value×α->List Value}{K:Value->α->Prop}{v:Value}{l:List α}(h:Tr.Seq F w e s c K v l)(hc:∀q,(c q).length=s){j:Nat}(hj:j<l.length):
  ∃g cap vk,v=.slice (some ⟨g,0,none⟩) l.length cap/\F g/\K vk l[j]/\∀i,i<s->w.cell? ⟨g,j*s+i,none⟩=(c (vk,l[j]))[i]?:=by
 obtain⟨ps,h1,h2,h3,h4⟩:=h;obtain⟨g,cap,rfl,-,-⟩:=h2.form (by omega);have hl:ps.length=l.length:=by rw[<-h1];simp
 have hq:ps[j]?=some ps[j]:=List.getElem?_eq_getElem (by omega);have h5:(ps[j]).2=l[j]:=by
  have:(ps.map Prod.snd)[j]?=l[j]?:=by rw[h1]
  rw[List.getElem?_map,hq,List.getElem?_eq_getElem hj]at this;simpa using this
 refine⟨g,cap,(ps[j]).1,rfl,h3 g rfl,?_,?_⟩
 ·rw[<-h5];exact h4 _ (List.getElem_mem _)
 ·intro i hi
  have hlt:j*s+i<l.length*s:=by
   have:(j+1)*s<=l.length*s:=Nat.mul_le_mul_right s hj;rw[Nat.succ_mul]at this;omega
  rw[h2.cellAt (j*s+i) hlt,flat_get c s hc ps j i _ hq hi,<-h5]
theorem Tr.Seq.len{α:Type}{F:Nat->Prop}{w:World}{e s:Nat}{c:Value×α->List Value}{K:Value->α->Prop}{v:Value}{l:List α}(h:Tr.Seq F w e s c K v l):∃a cap,v=.slice a l.length cap/\l.length<=maxLen:=by
 obtain⟨ps,h1,h2,h3,h4⟩:=h;exact aF h2
theorem ay.len{Y:Lay}{d:Nat}{F:Nat->Prop}{w:World}{v:Value}{l:List Lx.Alt}(h:ay Y d F w v l):∃a cap,v=.slice a l.length cap/\l.length<=maxLen:=by
 cases d with
 |zero=>obtain⟨rfl,rfl⟩:=h;exact⟨_,_,rfl,Nat.zero_le _⟩
 |succ d=>exact Seq.len h
end Go.Proofs.YtjaalkocdbkdeaaGreatDoor
namespace Go.Proofs.YtjaalkocdbkdeaaGreatDoor
open Lx Go.Proofs.Tryz
open Go.RowKit
open Tr
structure DG(F:Nat->Prop)(w:World)(vL vR:Value)(g:Lx.Gr):Prop where
 lt:∀b,F b->b<w.heap.size
 lv:Tr.Seq F w 147 3 xB (EN F w) vL g.levels
 rl:Tr.Seq F w 139 3 CJ (QY F w) vR g.rules
theorem Tr.Seq.mv{α:Type}{F:Nat->Prop}{w w':World}{e s:Nat}{c:Value×α->List Value}{K:(Nat->Prop)->World->Value->α->Prop}{v:Value}{l:List α}(hm:jF K)(h:Tr.Seq F w e s c (K F w) v l)(hs:∀b,F b->w'.heap[b]?=w.heap[b]?):Tr.Seq F w' e s c (K F w') v l :=
 h.move hs (fun _ h=>h) fun _ _ h=>hm F F w w' _ _ hs (fun _ h=>h) h
theorem DG.move{F:Nat->Prop}{w w':World}{vL vR:Value}{g:Lx.Gr}(h:DG F w vL vR g)(hs:∀b,F b->w'.heap[b]?=w.heap[b]?)(hl:w.heap.size<=w'.heap.size):DG F w' vL vR g :=
 ⟨fun b hb=>Nat.lt_of_lt_of_le (h.lt b hb) hl,h.lv.mv jT hs,h.rl.mv (tT YR 9) hs⟩
theorem DG.below{F:Nat->Prop}{w w':World}{vL vR:Value}{g:Lx.Gr}(h:DG F w vL vR g)(hb:Below w.heap.size w w'):DG F w' vL vR g :=
 h.move (fun b hF=>hb.block b (h.lt b hF)) hb.size
theorem DG.rule{F:Nat->Prop}{w:World}{vL vR:Value}{g:Lx.Gr}(h:DG F w vL vR g){j:Nat}(hj:j<g.rules.length):∃b cap va,vR=.slice (some ⟨b,0,none⟩) g.rules.length cap/\F b/\ay YR 9 F w va g.rules[j].alts/\w.cell? ⟨b,j*3,none⟩=some (.string g.rules[j].name)/\w.cell? ⟨b,j*3+1,none⟩=some va/\w.cell? ⟨b,j*3+2,none⟩=some (.int .i64 (g.rules[j].place:Int)):=by
 obtain⟨b,cap,va,h1,h2,h3,h4⟩:=Seq.at h.rl (fun _=>rfl) hj;exact⟨b,cap,va,h1,h2,h3,h4 0 (by decide),h4 1 (by decide),h4 2 (by decide)⟩
theorem DG.level{F:Nat->Prop}{w:World}{vL vR:Value}{g:Lx.Gr}(h:DG F w vL vR g){j:Nat}(hj:j<g.levels.length):∃b cap vT vA,vL=.slice (some ⟨b,0,none⟩) g.levels.length cap/\F b/\w.ownsRow 0 9 1 vT g.levels[j].tokens.length (g.levels[j].tokens.map fun t=>.string t.1)/\w.ownsRow 0 3 1 vA g.levels[j].tokens.length (g.levels[j].tokens.map fun t=>.int .i64 (t.2:Int))/\(∀g,vT.ownBlock=some g->F g)/\(∀g,vA.ownBlock=some g->F g) /\
  w.cell? ⟨b,j*3,none⟩=some (.int .i64 (g.levels[j].kind:Int))/\w.cell? ⟨b,j*3+1,none⟩=some vT/\w.cell? ⟨b,j*3+2,none⟩=some vA:=by
 obtain⟨b,cap,vk,h1,h2,⟨vT,vA,rfl,k1,k2,k3,k4⟩,h4⟩:=Seq.at h.lv (fun _=>rfl) hj;exact⟨b,cap,vT,vA,h1,h2,k1,k2,k3,k4,h4 0 (by decide),h4 1 (by decide),h4 2 (by decide)⟩
theorem DG.sF{F:Nat->Prop}{w:World}{vL vR:Value}{g:Lx.Gr}(h:DG F w vL vR g):∃a c,vR=.slice a g.rules.length c/\g.rules.length<=maxLen:=Seq.len h.rl
theorem DG.uh{F:Nat->Prop}{w:World}{vL vR:Value}{g:Lx.Gr}(h:DG F w vL vR g):∃a c,vL=.slice a g.levels.length c/\g.levels.length<=maxLen:=Seq.len h.lv
def Lx.uZ(g:Lx.Gr):List ByteArray:=g.rules.map fun r=>r.name
theorem DY{F:Nat->Prop}{w:World}{vL vR:Value}{g:Lx.Gr}(h:DG F w vL vR g)(b:ByteArray):
  Calls prog 99 #[.agg #[vL,vR],.string b] w fun e w'=>e=.returned (.int .i64 (bA (uZ g) b))/\Below w.heap.size w w':=by
 obtain⟨a,c,rfl,hm⟩:=h.sF;obtain⟨a',c',rfl,-⟩:=h.uh;unfold maxLen at hm;have hln:(uZ g).length=g.rules.length:=by simp[uZ]
 go_enter func99,ntmps99;have kb:=aj.new w #[.slice a' g.levels.length c',.slice a g.rules.length c] 86;go_wp2_with fail
 go_loopg [5] g.rules.length (fun k i wr=>∃j:Nat,j+k=g.rules.length/\i=.int .i64 j/\wr=w.alloc (.cells #[.slice a' g.levels.length c',.slice a g.rules.length c] 86)/\∀i,i<j->(uZ g)[i]?≠some b)
 case atStart=>exact⟨0,by omega,rfl,rfl,fun i h=>by omega⟩
 case round=>
  obtain⟨j,hk,rfl,rfl,hno⟩:=hrel;have hb:Below w.heap.size w (w.alloc (.cells #[.slice a' g.levels.length c',.slice a g.rules.length c] 86)):=(Below.refl _ _).alloc (Nat.le_refl _) _;have c1:=kb.cell 1;have c1:(w.alloc (.cells #[.slice a' g.levels.length c',.slice a g.rules.length c] 86)).cell? ⟨w.heap.size,1,none⟩=some (.slice a g.rules.length c):=c1
  by_cases hlt:j<g.rules.length
  ·obtain⟨gb,cap,va,hv,hF,hA,d0,d1,d2⟩:=(h.below hb).rule hlt
   cases hv;have hx:(uZ g)[j]?=some g.rules[j].name:=by unfold uZ;rw[List.getElem?_map,List.getElem?_eq_getElem hlt];rfl
   generalize g.rules[j]=x at d0 d1 d2 hx
   by_cases hxb:x.name=b
   ·have hne:(x.name.toList == b.toList)=true:=by rw[Gd];simpa using hxb
    go_wp2_with fail
    all_goals
     go_ret;exact⟨by rw[Pv (hxb▸hx) hno];rfl,hb⟩
   ·have hne:(x.name.toList == b.toList)=false:=by rw[Gd];simpa using hxb
    go_wp2_with fail;go_roundg (g.rules.length - (j+1))
    case measure=>omega
    case rel=>
     refine⟨j+1,by omega,by go_num,rfl,fun i hi=>?_⟩;rcases Nat.lt_succ_iff_lt_or_eq.1 hi with h'|rfl
     ·exact hno i h'
     ·rw[hx];exact fun e=>hxb (Option.some.inj e)
  ·have:j=g.rules.length:=by omega
   subst this;go_wp2_with fail;go_ret;exact⟨by rw[WV (by rw[hln];exact hno)];rfl,hb⟩
def Lx.lvls(g:Lx.Gr)(b:ByteArray):Bool:=g.levels.any fun lv=>decide (0<=bA (lv.tokens.map Prod.fst) b)
theorem Kg{w:World}{vT:Value}{l:List Lx.Tk}(h:w.ownsRow 0 9 1 vT l.length (l.map fun t=>.string t.1)):w.ownsRow 0 9 1 vT (l.map Prod.fst).length ((l.map Prod.fst).map Value.string):=by
 rw[List.map_map,List.length_map];exact h
theorem Uu{F:Nat->Prop}{w:World}{vL vR:Value}{g:Lx.Gr}(h:DG F w vL vR g)(b:ByteArray):
  Calls prog 100 #[.agg #[vL,vR],.string b] w fun e w'=>e=.returned (.bool (Lx.lvls g b))/\Below w.heap.size w w':=by
 obtain⟨a,c,rfl,-⟩:=h.sF;obtain⟨a',c',rfl,hm⟩:=h.uh;unfold maxLen at hm;go_enter func100,ntmps100;have kb:=aj.new w #[.slice a' g.levels.length c',.slice a g.rules.length c] 86;go_wp2_with fail
 go_loopg [5] g.levels.length (fun k i wr=>∃j:Nat,j+k=g.levels.length/\i=.int .i64 j/\Below (w.heap.size+1) (w.alloc (.cells #[.slice a' g.levels.length c',.slice a g.rules.length c] 86)) wr/\∀i lv,i<j->g.levels[i]?=some lv->¬0<=bA (lv.tokens.map Prod.fst) b)
 case atStart=>exact⟨0,by omega,rfl,Below.refl _ _,fun i _ h=>by omega⟩
 case round=>
  obtain⟨j,hk,rfl,hbl,hno⟩:=hrel;have hsz:=hbl.size;simp at hsz;have hb:Below w.heap.size w wr:=((Below.refl w.heap.size w).alloc (Nat.le_refl _) _).trans (hbl.mono (by omega));have kr:aj wr w.heap.size _ 86:=(hbl.block _ (by omega)).trans kb;have c1:wr.cell? ⟨w.heap.size,0,none⟩=some (.slice a' g.levels.length c'):=kr.cell 0
  by_cases hlt:j<g.levels.length
  ·obtain⟨gb,cap,vT,vA,hv,hF,hT,hA,-,-,d0,d1,d2⟩:=(h.below hb).level hlt
   cases hv;have hx:g.levels[j]?=some g.levels[j]:=List.getElem?_eq_getElem hlt;generalize g.levels[j]=x at d0 d1 d2 hx hT hA;obtain⟨ta,tc,rfl,-⟩:=aF hT;go_wp2_with fail;refine(Ec _ b _ _ (Kg hT)).mono ?_;rintro e w2⟨rfl,hb2⟩;have hr:=zK (x.tokens.map Prod.fst) b;have hlT:(x.tokens.map Prod.fst).length<=maxLen:=(aF (Kg hT)).elim fun _ h=>h.elim fun _ h=>h.2
   have hb3:=hbl.trans (hb2.mono (show w.heap.size+1<=wr.heap.size by omega));have hb4:Below w.heap.size w w2:=hb.trans (hb2.mono hb.size)
   by_cases hin:0<=bA (x.tokens.map Prod.fst) b
   ·go_wp2_with fail
    all_goals
     go_ret;refine⟨?_,hb4⟩;have:Lx.lvls g b=true:=List.any_eq_true.2 ⟨x,List.mem_of_getElem? hx,by simpa using hin⟩;rw[this];rfl
   ·go_wp2_with fail
    go_roundg (g.levels.length - (j+1))
    case measure=>omega
    case rel=>
     refine⟨j+1,by omega,by go_num,hb3,fun i lv hi he=>?_⟩;rcases Nat.lt_succ_iff_lt_or_eq.1 hi with h'|rfl
     ·exact hno i lv h' he
     ·rw[hx]at he;cases he;exact hin
  ·go_wp2_with fail
   go_ret;refine⟨?_,hb⟩;have:Lx.lvls g b=false:=by
    refine List.any_eq_false.2 fun lv hlv=>?_
    obtain⟨i,hi,he⟩:=List.mem_iff_getElem.1 hlv;simpa using hno i lv (by omega) (by rw[List.getElem?_eq_getElem hi,he])
   rw[this];rfl
end Go.Proofs.YtjaalkocdbkdeaaGreatDoor
namespace Go.Proofs.YtjaalkocdbkdeaaGreatDoor
open Lx Go.Proofs.Tryz
open Go Go.RowKit
namespace Lx
theorem Kv(ts:List Tk):ts.tail.length<=ts.length:=by simp
theorem Uv:∀(f:Nat)(ts acc x ts':List Tk),iM f ts acc=.ok (x,ts')->ts'.length<=ts.length
 |0,ts,acc,x,ts',h=>by simp only[iM,Except.ok.injEq,Prod.mk.injEq]at h;rw[h.2];exact Nat.le_refl _
 |f+1,ts,acc,x,ts',h=>by
  have h3:=Kv ts;simp only[iM]at h
  split at h
  ·simp only[Except.ok.injEq,Prod.mk.injEq]at h;rw[<-h.2];exact h3
  ·cases hr:cK isToken ts with
   |error e=>rw[hr]at h;cases h
   |ok y=>
    obtain⟨b,aB⟩:=y;rw[hr]at h;have h1:=(mW hr).1;have h2:=Uv f aB _ x ts' h;rw[h1]at h2;omega
theorem JQ{ts ts':List Tk}{x:Lv}(h:gJ ts=.ok (x,ts')):ts'.length<=ts.tail.length:=by
 unfold gJ at h;cases hr:cK isToken ts.tail with
 |error e=>rw[hr]at h;cases h
 |ok y=>
  obtain⟨b,aB⟩:=y;rw[hr]at h;have h1:=(mW hr).1;cases hr2:iM aB.length aB [(b,pl ts.tail)] with
  |error e=>simp only[hr2]at h;cases h
  |ok z=>
   obtain⟨l,bL⟩:=z;simp only[hr2,Except.ok.injEq,Prod.mk.injEq]at h;have h2:=Uv _ _ _ _ _ hr2;have h3:=Kv ts.tail;rw[<-h.2];rw[h1]at h2;omega
theorem F5{ts ts':List Tk}{x:Rl}(h:dF ts=.ok (x,ts')):ts'.length<=ts.tail.length:=by
 unfold dF at h;cases hr:cK isName ts with
 |error e=>rw[hr]at h;cases h
 |ok y=>
  obtain⟨b,aB⟩:=y;rw[hr]at h;have h1:=(mW hr).1;cases hr2:gF kD aB with
  |error e=>simp only[hr2]at h;cases h
  |ok z=>
   obtain⟨u,bL⟩:=z;have h2:=(wR hr2).1;cases hr3:iP 8 bL with
   |error e=>simp only[hr2,hr3]at h;cases h
   |ok z=>
    obtain⟨l,eF⟩:=z;have h3:=J3 8 _ _ _ hr3;cases hr4:gF iq eF with
    |error e=>simp only[hr2,hr3,hr4]at h;cases h
    |ok z=>
     obtain⟨u',fO⟩:=z;have h4:=(wR hr4).1;simp only[hr2,hr3,hr4,Except.ok.injEq,Prod.mk.injEq]at h;have h5:=Kv eF;have h6:=Kv aB;rw[<-h.2,h4];rw[h2]at h3;rw[h1]at h3 h6;omega
def Gf(lv:List Lv):aX (List Rl)->aX Gr
 |.error e=>.error e
 | .ok (l,ts)=>.ok (⟨lv,l⟩,ts)
def yw(lv:List Lv)(aB:List Tk):aX Gr :=
 match dF aB with
 |.error e=>.error e
 | .ok (x,bL)=>Gf lv (iC bL.length bL [x])
def K9:aX (List Lv)->aX Gr
 |.error e=>.error e
 | .ok (lv,aB)=>yw lv aB
theorem FT(ts:List Tk):gQ ts=K9 (fI ts.length ts []):=by
 unfold gQ;cases h1:fI ts.length ts [] with
 |error e=>rfl
 |ok y=>
  obtain⟨lv,aB⟩:=y;simp only[K9,yw];cases h2:dF aB with
  |error e=>rfl
  |ok z=>
   obtain⟨x,bL⟩:=z;simp only;cases h3:iC bL.length bL [x] with
   |error e=>rfl
   |ok q=>obtain⟨l,eF⟩:=q;rfl
end Lx
end Go.Proofs.YtjaalkocdbkdeaaGreatDoor
namespace Go.Proofs.YtjaalkocdbkdeaaGreatDoor
open Lx Go.Proofs.Tryz
open Go Go.RowKit
namespace Lx
def EP{α:Type}(r:aX α):Prop:=∀e,r=.error e->0<e.1
theorem EP.ok{α:Type}(x:α×List Tk):EP (.ok x:aX α):=fun _ h=>by cases h
theorem EP.no{α:Type}{n a:Nat}(h:0<n):EP (.error (n,a):aX α):=fun _ e=>by cases e;exact h
theorem EP.up{α β:Type}{r:aX α}{e:Nat×Nat}(h:EP r)(hr:r=.error e):EP (.error e:aX β):=fun _ h'=>by cases h';exact h e hr
theorem Kh(k:ByteArray->Bool)(ts:List Tk):EP (cK k ts):=by
 unfold cK
 split
 ·exact EP.ok _
 ·exact EP.no (by decide)
theorem OJ(b:ByteArray)(ts:List Tk):EP (gF b ts):=by
 unfold gF
 split
 ·exact EP.ok _
 ·exact EP.no (by decide)
theorem agY{aI:List Tk->aX (List Alt)}(hg:∀ts,EP (aI ts))(ts:List Tk):EP (cO aI ts):=by
 unfold cO
 split
 ·cases hr0:aI ts with
  |error e=>exact EP.up (hg ts) hr0
  |ok y0=>
   obtain⟨x0,oZ⟩:=y0;exact EP.ok _
 ·split
  ·exact EP.ok _
  ·split
   ·exact EP.ok _
   ·exact EP.no (by decide)
theorem VZ{aI:List Tk->aX (List Alt)}(hg:∀ts,EP (aI ts)):∀(f:Nat)(ts:List Tk)(acc:List It),EP (dM aI f ts acc)
 |0,_,_=>EP.ok _
 |f+1,ts,acc=>by
  simp only[dM]
  split
  ·cases hr0:cO aI ts with
   |error e=>exact EP.up (agY hg ts) hr0
   |ok y0=>
    obtain⟨x0,oZ⟩:=y0;exact VZ hg f _ _
  ·exact EP.ok _
theorem agZ(top:Bool)(items:List It)(ts:List Tk):EP (mG top items ts):=by
 unfold mG
 split
 ·cases hr0:cK isToken ts.tail with
  |error e=>exact EP.up (Kh _ _) hr0
  |ok y0=>
   obtain⟨x0,oZ⟩:=y0;exact EP.ok _
 ·exact EP.ok _
theorem XT{aI:List Tk->aX (List Alt)}(hg:∀ts,EP (aI ts))(top:Bool)(ts:List Tk):EP (dG aI top ts):=by
 unfold dG;cases hr0:dM aI ts.length ts [] with
 |error e=>exact EP.up (VZ hg _ _ _) hr0
 |ok y0=>
  obtain⟨x0,oZ⟩:=y0;exact agZ _ _ _
theorem WZ{aI:List Tk->aX (List Alt)}(hg:∀ts,EP (aI ts))(top:Bool):∀(f:Nat)(ts:List Tk)(acc:List Alt),EP (jh aI top f ts acc)
 |0,_,_=>EP.ok _
 |f+1,ts,acc=>by
  simp only[jh]
  split
  ·cases hr0:dG aI top ts.tail with
   |error e=>exact EP.up (XT hg _ _) hr0
   |ok y0=>
    obtain⟨x0,oZ⟩:=y0;exact WZ hg top f _ _
  ·exact EP.ok _
theorem U4{aI:List Tk->aX (List Alt)}(hg:∀ts,EP (aI ts))(top:Bool)(ts:List Tk):EP (ou aI top ts):=by
 unfold ou;cases hr0:dG aI top ts with
 |error e=>exact EP.up (XT hg _ _) hr0
 |ok y0=>
  obtain⟨x0,oZ⟩:=y0;exact WZ hg _ _ _ _
theorem afP{r:List Tk->aX (List Alt)}(hr:∀ts,EP (r ts))(ts:List Tk):EP (nJ r ts):=by
 unfold nJ;cases hr0:r ts.tail with
 |error e=>exact EP.up (hr _) hr0
 |ok y0=>
  obtain⟨x0,oZ⟩:=y0;simp only;cases hr1:gF r9 oZ with
  |error e=>exact EP.up (OJ _ _) hr1
  |ok y1=>
   obtain⟨x1,aB⟩:=y1;exact EP.ok _
theorem W9:∀(d:Nat)(ts:List Tk),EP (iP d ts)
 |0,ts=>U4 (aI:=fun ts=>.error (3,pl ts)) (fun _=>EP.no (by decide)) _ _
 |d+1,ts=>U4 (afP (W9 d)) _ _
theorem Xa(ts:List Tk):EP (dF ts):=by
 unfold dF;cases hr0:cK isName ts with
 |error e=>exact EP.up (Kh _ _) hr0
 |ok y0=>
  obtain⟨x0,oZ⟩:=y0;simp only;cases hr1:gF kD oZ with
  |error e=>exact EP.up (OJ _ _) hr1
  |ok y1=>
   obtain⟨x1,aB⟩:=y1;simp only;cases hr2:iP 8 aB with
   |error e=>exact EP.up (W9 _ _) hr2
   |ok y2=>
    obtain⟨x2,bL⟩:=y2;simp only;cases hr3:gF iq bL with
    |error e=>exact EP.up (OJ _ _) hr3
    |ok y3=>
     obtain⟨x3,eF⟩:=y3;exact EP.ok _
theorem U5:∀(f:Nat)(ts acc:List Tk),EP (iM f ts acc)
 |0,_,_=>EP.ok _
 |f+1,ts,acc=>by
  simp only[iM]
  split
  ·exact EP.ok _
  ·cases hr0:cK isToken ts with
   |error e=>exact EP.up (Kh _ _) hr0
   |ok y0=>
    obtain⟨x0,oZ⟩:=y0;exact U5 f _ _
theorem afQ(ts:List Tk):EP (gJ ts):=by
 unfold gJ;cases hr0:cK isToken ts.tail with
 |error e=>exact EP.up (Kh _ _) hr0
 |ok y0=>
  obtain⟨x0,oZ⟩:=y0;simp only;cases hr1:iM oZ.length oZ [(x0,pl ts.tail)] with
  |error e=>exact EP.up (U5 _ _ _) hr1
  |ok y1=>
   obtain⟨x1,aB⟩:=y1;exact EP.ok _
theorem U6:∀(f:Nat)(ts:List Tk)(acc:List Lv),EP (fI f ts acc)
 |0,_,_=>EP.ok _
 |f+1,ts,acc=>by
  simp only[fI]
  split
  ·cases hr0:gJ ts with
   |error e=>exact EP.up (afQ _) hr0
   |ok y0=>
    obtain⟨x0,oZ⟩:=y0;exact U6 f _ _
  ·exact EP.ok _
theorem V3:∀(f:Nat)(ts:List Tk)(acc:List Rl),EP (iC f ts acc)
 |0,_,_=>EP.ok _
 |f+1,ts,acc=>by
  simp only[iC]
  split
  ·exact EP.ok _
  ·cases hr0:dF ts with
   |error e=>exact EP.up (Xa _) hr0
   |ok y0=>
    obtain⟨x0,oZ⟩:=y0;exact V3 f _ _
theorem aes(ts:List Tk):EP (gQ ts):=by
 unfold gQ;cases hr0:fI ts.length ts [] with
 |error e=>exact EP.up (U6 _ _ _) hr0
 |ok y0=>
  obtain⟨x0,oZ⟩:=y0;simp only;cases hr1:dF oZ with
  |error e=>exact EP.up (Xa _) hr1
  |ok y1=>
   obtain⟨x1,aB⟩:=y1;simp only;cases hr2:iC aB.length aB [x1] with
   |error e=>exact EP.up (V3 _ _ _) hr2
   |ok y2=>
    obtain⟨x2,bL⟩:=y2;exact EP.ok _
theorem Ol{s:ByteArray}{n a:Nat}(h:parse s=.error (n,a)):0<n:=by
 unfold parse at h
 split at h
 ·cases h;decide
 ·cases hr:gQ (lex s) with
  |error e=>rw[hr]at h;cases h;exact aes _ _ hr
  |ok x=>obtain⟨g,ts'⟩:=x;rw[hr]at h;cases h
end Lx
end Go.Proofs.YtjaalkocdbkdeaaGreatDoor
namespace Go.Proofs.YtjaalkocdbkdeaaGreatDoor
open Lx Go.Proofs.Tryz
open Go Go.RowKit
namespace Lx
def bnd{α β:Type}(r:aX α)(k:α->List Tk->aX β):aX β :=
 match r with
 |.error e=>.error e
 | .ok (x,ts)=>k x ts
theorem ag0(aI:List Tk->aX (List Alt))(ts:List Tk):cO aI ts=if hd ts=jg then bnd (aI ts) (fun alts aB=>.ok ((⟨2,aL,(bS aB).1,alts,pl ts⟩:It),(bS aB).2))
  else if isName (hd ts)=true then .ok (⟨0,hd ts,(bS ts.tail).1,[],pl ts⟩,(bS ts.tail).2)
  else if isToken (hd ts)=true then .ok (⟨1,hd ts,(bS ts.tail).1,[],pl ts⟩,(bS ts.tail).2)
  else .error (2,pl ts):=by
 unfold cO
 split
 ·cases aI ts with
  |error e=>rfl
  |ok y=>rfl
 ·rfl
theorem afR(aI:List Tk->aX (List Alt))(f:Nat)(ts:List Tk)(a:List It):dM aI (f+1) ts a=if jU ts=true then bnd (cO aI ts) (fun x aB=>dM aI f aB (a++[x])) else .ok (a,ts):=by
 simp only[dM]
 split
 ·cases cO aI ts with
  |error e=>rfl
  |ok y=>rfl
 ·rfl
theorem ag1(top:Bool)(a:List It)(ts:List Tk):mG top a ts=if top=true/\hd ts=iX then bnd (cK isToken ts.tail) (fun x aB=>.ok (((a,x,pl ts.tail):Alt),aB)) else .ok ((a,aL,0),ts):=by
 unfold mG
 split
 ·cases cK isToken ts.tail with
  |error e=>rfl
  |ok y=>rfl
 ·rfl
theorem aif(aI:List Tk->aX (List Alt))(top:Bool)(ts:List Tk):dG aI top ts=bnd (dM aI ts.length ts []) (fun x aB=>mG top x aB):=by
 unfold dG;cases dM aI ts.length ts [] with
 |error e=>rfl
 |ok y=>rfl
theorem ag2(aI:List Tk->aX (List Alt))(top:Bool)(f:Nat)(ts:List Tk)(a:List Alt):jh aI top (f+1) ts a=if hd ts=sD then bnd (dG aI top ts.tail) (fun x aB=>jh aI top f aB (a++[x])) else .ok (a,ts):=by
 simp only[jh]
 split
 ·cases dG aI top ts.tail with
  |error e=>rfl
  |ok y=>rfl
 ·rfl
theorem ae5(aI:List Tk->aX (List Alt))(top:Bool)(ts:List Tk):ou aI top ts=bnd (dG aI top ts) (fun x aB=>jh aI top aB.length aB [x]):=by
 unfold ou;cases dG aI top ts with
 |error e=>rfl
 |ok y=>rfl
theorem afS(r:List Tk->aX (List Alt))(ts:List Tk):nJ r ts=bnd (r ts.tail) (fun l aB=>bnd (gF r9 aB) fun _ bL=>.ok (l,bL)):=by
 unfold nJ;cases r ts.tail with
 |error e=>rfl
 |ok y=>
  obtain⟨l,aB⟩:=y;simp only[bnd];cases gF r9 aB with
  |error e=>rfl
  |ok y=>rfl
theorem ag3(ts:List Tk):dF ts=bnd (cK isName ts) (fun n aB=>bnd (gF kD aB) fun _ bL=>bnd (iP 8 bL) fun l eF=>bnd (gF iq eF) fun _ fO=>.ok ((⟨n,l,pl ts⟩:Rl),fO)):=by
 unfold dF;cases cK isName ts with
 |error e=>rfl
 |ok y=>
  obtain⟨n,aB⟩:=y;simp only[bnd];cases gF kD aB with
  |error e=>rfl
  |ok y=>
   obtain⟨u,bL⟩:=y;simp only;cases iP 8 bL with
   |error e=>rfl
   |ok y=>
    obtain⟨l,eF⟩:=y;simp only;cases gF iq eF with
    |error e=>rfl
    |ok y=>rfl
theorem ae6(f:Nat)(ts a:List Tk):iM (f+1) ts a=if hd ts=iq then .ok (a,ts.tail) else bnd (cK isToken ts) (fun x aB=>iM f aB (a++[(x,pl ts)])):=by
 simp only[iM]
 split
 ·rfl
 ·cases cK isToken ts with
  |error e=>rfl
  |ok y=>rfl
theorem J6(ts:List Tk):gJ ts=bnd (cK isToken ts.tail) (fun b aB=>bnd (iM aB.length aB [(b,pl ts.tail)]) fun l bL=>.ok ((⟨(fF (hd ts)).toNat,l⟩:Lv),bL)):=by
 unfold gJ;cases cK isToken ts.tail with
 |error e=>rfl
 |ok y=>
  obtain⟨b,aB⟩:=y;simp only[bnd];cases iM aB.length aB [(b,pl ts.tail)] with
  |error e=>rfl
  |ok y=>rfl
theorem ae7(f:Nat)(ts:List Tk)(a:List Lv):fI (f+1) ts a=if 0<=fF (hd ts) then bnd (gJ ts) (fun x aB=>fI f aB (a++[x])) else .ok (a,ts):=by
 simp only[fI]
 split
 ·cases gJ ts with
  |error e=>rfl
  |ok y=>rfl
 ·rfl
theorem afT(f:Nat)(ts:List Tk)(a:List Rl):iC (f+1) ts a=if hd ts=aL then .ok (a,ts) else bnd (dF ts) (fun x aB=>iC f aB (a++[x])):=by
 simp only[iC]
 split
 ·rfl
 ·cases dF ts with
  |error e=>rfl
  |ok y=>rfl
theorem ad4(ts:List Tk):gQ ts=bnd (fI ts.length ts []) (fun lv aB=>bnd (dF aB) fun x bL=>bnd (iC bL.length bL [x]) fun l eF=>.ok ((⟨lv,l⟩:Gr),eF)):=by
 unfold gQ;cases fI ts.length ts [] with
 |error e=>rfl
 |ok y=>
  obtain⟨lv,aB⟩:=y;simp only[bnd];cases dF aB with
  |error e=>rfl
  |ok y=>
   obtain⟨x,bL⟩:=y;simp only;cases iC bL.length bL [x] with
   |error e=>rfl
   |ok y=>rfl
end Lx
end Go.Proofs.YtjaalkocdbkdeaaGreatDoor
namespace Go.Proofs.YtjaalkocdbkdeaaGreatDoor
open Lx Go.Proofs.Tryz
open Go Go.RowKit
namespace Lx
theorem mX{α β:Type}{r:aX α}{k:α->List Tk->aX β}{z:β}{ts':List Tk}(h:bnd r k=.ok (z,ts')):∃x ts,r=.ok (x,ts)/\k x ts=.ok (z,ts'):=by
 cases r with
 |error e=>cases h
 |ok y=>exact⟨y.1,y.2,rfl,h⟩
section
variable (e:Tk) (C:List Tk)
variable {e C}
end
end Lx
end Go.Proofs.YtjaalkocdbkdeaaGreatDoor
namespace Go.Proofs.YtjaalkocdbkdeaaGreatDoor
open Lx Go.Proofs.Tryz
open Go Go.RowKit
namespace Lx
section
variable {e:Tk} {C:List Tk}
end
end Lx
end Go.Proofs.YtjaalkocdbkdeaaGreatDoor
namespace Go.Proofs.YtjaalkocdbkdeaaGreatDoor
open Lx Go.Proofs.Tryz
open Go.RowKit
open Tr
end Go.Proofs.YtjaalkocdbkdeaaGreatDoor
namespace Go.Proofs.YtjaalkocdbkdeaaGreatDoor
open Lx Go.Proofs.Tryz
open Go.RowKit
open Lx (Tk)
open Tr
namespace Lx
end Lx
end Go.Proofs.YtjaalkocdbkdeaaGreatDoor
namespace Go.Proofs.YtjaalkocdbkdeaaGreatDoor
open Lx Go.Proofs.Tryz
open Go.RowKit
open Lx (Tk)
open Tr
namespace Lx
end Lx
end Go.Proofs.YtjaalkocdbkdeaaGreatDoor
namespace Go.Proofs.YtjaalkocdbkdeaaGreatDoor
open Lx Go.Proofs.Tryz
open Go.RowKit
open Lx (Tk)
open Tr
abbrev KI(d:Nat):(Nat->Prop)->World->Value->Lx.Alt->Prop:=fun F w vi a=>qZ YP d F w vi a.1
theorem qZ.form{Y:Lay}{d:Nat}{F:Nat->Prop}{w:World}{v:Value}{l:List Lx.It}(h:qZ Y d F w v l):∃a k c,v=.slice a k c:=by
 exact dW.form h
theorem Xb{d:Nat}(HA:XQ d):OI d:=by
 intro sb cap L p w ts o ho h;obtain⟨i0,hi,hz0,hz1,hz2⟩:=info_parts Tryz.aie;have hp:=h.lt;have hs:=h.yO;have HO:Hid (o=8 - (d:Int)):=ho;have hlb:=h.lb;have hlen:=h.len;clear ho;have HE:Hid _:=WU d ts;go_enter func116,ntmps116;go_wp2_with fail;refine(HA sb cap L p w ts o HO.out h).mono ?_;intro e w1 he;cases hr1:dG (bB d) (d == 8) ts with
 |error x=>
  obtain⟨n,a⟩:=x;obtain⟨rfl,hg1⟩:=he.err hr1;exact⟨rfl,Ends.no (by rw[HE.out];unfold ou;rw[hr1]) hg1⟩
 |ok x=>
  obtain⟨a1,aB⟩:=x;obtain⟨v,rfl,hg1,PV,vi,rfl,hv⟩:=he.ok hr1;have hl1:=BK (zF d) hr1;have H6:Hid (iP d ts=jh (bB d) (d == 8) aB.length aB [a1]):=by
   show _=_;rw[HE.out];unfold ou;rw[hr1]
  obtain⟨va,vk,vc,rfl⟩:=qZ.form hv;have G1:mH w.heap.size (w1.alloc (.cells #[.slice va vk vc,.string a1.2.1] 195)) 195 2 YP.cA (KI d) (.slice (some ⟨w1.heap.size,0,none⟩) 1 1) [a1] :=
   mH.one (Jy YP d) (w:=w) (.slice va vk vc,a1) (Nat.le_refl _) hg1.size hv rfl
  have Zw:=PV.alloc (.cells #[.slice va vk vc,.string a1.2.1] 195);have ggA:=aW hg1 (bZ w1 (.cells #[.slice va vk vc,.string a1.2.1] 195) (some p));clear hr1 he HE;go_wp2_with fail
  go_loopg [3] aB.length (fun k v wr=>∃(aA:List Tk)(acc:List Lx.Alt)(f:Nat),aA.length=k/\aA.length<=f/\acc.length+aA.length<=ts.length+1/\Rd sb cap L p wr aA o /\
    mH w.heap.size wr 195 2 YP.cA (KI d) v acc/\w.grownBy wr (some p)/\Hid (iP d ts=jh (bB d) (d == 8) f aA acc))
  case atStart=>exact⟨aB,[a1],aB.length,rfl,Nat.le_refl _,by simp;omega,Zw,G1,ggA,H6⟩
  case round=>
   obtain⟨aA,acc,f,hk,hf,hacc,hr,hgrow,hg,hpm⟩:=hrel;clear Zw ggA G1 hv;have hne:=hr.wf.ne;obtain⟨f',rfl⟩:∃f',f=f'+1:=⟨f-1,by omega⟩
   by_cases hb:Lx.hd aA=sD
   ·have HB:Hid (Lx.hd aA=sD):=hb
    clear hb;have htl:=hr.wf.mD;go_wp2_with fail;refine(JN hr sD (by decide) HB.out).mono ?_;rintro e w2⟨rfl,hg2,hr2⟩;have Q5:=aW hg hg2;go_wp2_with fail;refine(HA sb cap L p w2 aA.tail o HO.out hr2).mono ?_;intro e w3 he;cases hr3:dG (bB d) (d == 8) aA.tail with
    |error x=>
     obtain⟨n,a⟩:=x;obtain⟨rfl,hg3⟩:=he.err hr3;exact⟨rfl,Ends.no (by rw[hpm.out];simp only[jh];rw[if_pos HB.out,hr3]) (aW Q5 hg3)⟩
    |ok x=>
     obtain⟨a3,eF⟩:=x;obtain⟨v,rfl,hg3,Cc,vi3,rfl,hv3⟩:=he.ok hr3;have hl3:=BK (zF d) hr3;have uI:Hid (iP d ts=jh (bB d) (d == 8) f' eF (acc++[a3])):=by
      show _=_;rw[hpm.out];simp only[jh];rw[if_pos HB.out,hr3]
     obtain⟨xa,xk,xc,rfl⟩:=qZ.form hv3;clear hr3 he hpm;obtain⟨ps,F,hgb⟩:=hgrow;have Ce:=hgb.kept (Jy YP d) hg2 (fun k hk=>by cases hk;omega);have ajz:=Ce.kept (Jy YP d) hg3 (fun k hk=>by cases hk;omega);have hown3:=ajz.2.1;have s2:=Q5.size;have s3:=hg3.size
     go_wp2_with (first
      | (at_builtin;refine wpList_append_lies _ rfl _ _ 177 rfl w.heap.size 195 i0 _ 2 40 underlying177 hi hz0 hz1 hz2 rfl (by decide) u3 acc.length (ps.flatMap YP.cA) rfl (hown3.alloc _) ⟨w3.heap.size,0,none⟩ 1 1 (YP.cA (.slice xa xk xc,a3)) rfl rfl (bC (aj.new w3 _ 195)) (by simp[YP,Value.oneCell']) (by decide) (by unfold maxLen;omega) (by omega) (by simp;omega) _ rfl ?_;intro g cap' w4 u7 bV hat hlt))
     have G4:=uW.push (Jy YP d) Ce (p:=p) (by omega) s2 hg3 (.slice xa xk xc,a3) hv3 (bZ w3 _ none) u7 bV hat;have hr4:=(Cc.alloc _).grown bV (fun e=>by have:=(hown3.lt _ e.symm).1;omega) (fun e=>by have:=(hown3.lt _ e.symm).1;omega);have gg4:=Br (aW Q5 hg3) (bZ w3 _ none) bV (fun k hk=>(hown3.lt _ hk).1);go_roundg eF.length
     case measure=>omega
     case rel=>exact⟨eF,acc++[a3],f',rfl,by omega,by simp;omega,hr4,G4,gg4,uI⟩
   ·have HB:Hid (¬Lx.hd aA=sD):=hb
    clear hb
    go_wp2_with (first
     | (go_at_call 113;refine(F4 hr sD HB.out).mono ?_;rintro e w'⟨rfl,hw⟩;obtain rfl:=hw.symm))
    go_ret;refine Ends.yes (x:=acc) (ts':=aA) (by rw[hpm.out];simp only[jh];rw[if_neg HB.out]) hg hr ?_;exact hgrow.seq
theorem XU:∀d,d<=8->OI d
 |0,_=>Xb (XR (WY ae1))
 |d+1,h=>Xb (XR (WY (ae2 (by omega) (XU d (by omega)))))
end Go.Proofs.YtjaalkocdbkdeaaGreatDoor
namespace Go.Proofs.YtjaalkocdbkdeaaGreatDoor
open Lx Go.Proofs.Tryz
open Go.RowKit
open Lx (Tk)
open Tr
def ajh(lo:Nat)(w':World)(v:Value)(r:Lx.Rl):Prop:=∃va,v=.agg #[.string r.name,va]/\eO YP 9 (In lo w'.heap.size) w' va r.alts
theorem Ef(sb cap:Nat)(L:List Tk)(p:Nat)(w:World)(ts:List Tk)(h:Rd sb cap L p w ts 0):
  Calls prog 77 #[.pointer (some ⟨p,0,none⟩)] w (Ends sb cap L p 0 (ajh w.heap.size) w (dF ts)):=by
 have hp:=h.lt;have hs:=h.yO;have h1:=h.alloc (.cells #[.string ⟨#[]⟩,.slice none 0 0] 179);have kB:=aj.new w #[.string ⟨#[]⟩,.slice none 0 0] 179;have G0:=bZ w (.cells #[.string ⟨#[]⟩,.slice none 0 0] 179) (some p);go_enter func77,ntmps77;go_wp2_with fail;refine(XP h1).mono ?_;intro e w1 he;cases hr1:cK Lx.isName ts with
 |error x=>
  obtain⟨n,a⟩:=x;obtain⟨rfl,hg1⟩:=he.err hr1;exact⟨rfl,Ends.no (by unfold dF;rw[hr1]) (aW G0 hg1)⟩
 |ok x=>
  obtain⟨b,aB⟩:=x;obtain⟨v,rfl,hg1,PV,rfl⟩:=he.ok hr1;have HR1:Hid _:=hr1;clear hr1 he;have G1:=aW G0 hg1;have kB1:=kB.grown hg1 (by simp;omega);have s1:=G1.size;have sB:=kB1.lt;have h2:=PV.alloc (.cells #[.string b,.slice none 0 0] 179);have kC:=aj.new w1 #[.string b,.slice none 0 0] 179;have kBA:=kB1.alloc (.cells #[.string b,.slice none 0 0] 179);have GA:=aW G1 (bZ w1 (.cells #[.string b,.slice none 0 0] 179) (some p));go_wp2_with fail;refine(JG h2 kD (by decide)).mono ?_;intro e w2 he;cases hr2:gF kD aB with
  |error x=>
   obtain⟨n,a⟩:=x;obtain⟨rfl,hg2⟩:=he.err hr2;exact⟨rfl,Ends.no (by unfold dF;simp only[HR1.out,hr2]) (aW GA hg2)⟩
  |ok x=>
   obtain⟨u,bL⟩:=x;obtain⟨v,rfl,hg2,GI,rfl⟩:=he.ok hr2;have HR2:Hid _:=hr2;clear hr2 he;have G2:=aW GA hg2;have eG:=kC.grown hg2 (by simp;omega);have kB2:=kBA.grown hg2 (by simp;omega);have sC:=eG.lt;go_wp2_with fail;refine(XU 8 (Nat.le_refl _) sb cap L p w2 bL 0 rfl GI).mono ?_;intro e w3 he;cases hr3:iP 8 bL with
   |error x=>
    obtain⟨n,a⟩:=x;obtain⟨rfl,hg3⟩:=he.err hr3;exact⟨rfl,Ends.no (by unfold dF;simp only[HR1.out,HR2.out,hr3]) (aW G2 hg3)⟩
   |ok x=>
    obtain⟨l,eF⟩:=x;obtain⟨v,rfl,hg3,Cc,hv⟩:=he.ok hr3;obtain⟨va,vk,vc,rfl⟩:=eO.form hv;have HR3:Hid _:=hr3;clear hr3 he;have G3:=aW G2 hg3;have bG:=eG.grown hg3 (by simp;omega);have kB3:=kB2.grown hg3 (by simp;omega);have c1:w3.cell? ⟨w1.heap.size,1,none⟩=some (.slice none 0 0):=bG.cell 1;have f1:∀i,w3.frozen? ⟨w1.heap.size,i,none⟩=false:=bG.frozen;have h4:=Cc.setOther (b:=w1.heap.size) 1 (.slice va vk vc) (by omega) (by omega);have fV:=bG.set 1 (.slice va vk vc);have bf:=kB3.other (b':=w1.heap.size) (i:=1) (by omega) (.slice va vk vc);have G4:=d9 G3 (b:=w1.heap.size) s1 1 (.slice va vk vc);have hv4:=BS.move (lo':=w2.heap.size) hv (Nat.le_refl _) (gu w3 w1.heap.size 1 (.slice va vk vc)) (fun k hk=>by cases hk;omega);clear kC kBA eG kB2 bG kB3 hv;go_wp2_with fail;refine(JG h4 iq (by decide)).mono ?_;intro e w5 he;cases nu:gF iq eF with
    |error x=>
     obtain⟨n,a⟩:=x;obtain⟨rfl,hg5⟩:=he.err nu;exact⟨rfl,Ends.no (by unfold dF;simp only[HR1.out,HR2.out,HR3.out,nu]) (aW G4 hg5)⟩
    |ok x=>
     obtain⟨u',ts5⟩:=x;obtain⟨v,rfl,hg5,ajA,rfl⟩:=he.ok nu;have HP:Hid (dF ts=.ok (⟨b,l,Lx.pl ts⟩,ts5)):=by
      show _=_;unfold dF;simp only[HR1.out,HR2.out,HR3.out,nu]
     clear nu he;have l8:=fV.grown hg5 (by simp;omega);have EO:=bf.grown hg5 (by simp;omega);have d0:w5.cell? ⟨w1.heap.size,0,none⟩=some (.string b):=l8.cell 0;have d1:w5.cell? ⟨w1.heap.size,1,none⟩=some (.slice va vk vc):=l8.cell 1;have e0:w5.cell? ⟨w.heap.size,0,none⟩=some (.string ⟨#[]⟩):=EO.cell 0;have e1:w5.cell? ⟨w.heap.size,1,none⟩=some (.slice none 0 0):=EO.cell 1;have f2:∀i,w5.frozen? ⟨w.heap.size,i,none⟩=false:=EO.frozen;have s2:=G2.size;go_wp2_with fail;refine bodyPost_ret (v:=.agg #[.string b,.slice va vk vc]) (by simp[results,results77,go_sem,e0,e1]) rfl ?_;refine Ends.yes HP.out (d9 (d9 (aW G4 hg5) (Nat.le_refl _) _ _) (Nat.le_refl _) _ _) ((ajA.setOther _ _ (by omega) (by omega)).setOther _ _ (by omega) (by omega)) ⟨_,rfl,?_⟩;have m1:=hv4.move (Nat.le_refl _) hg5 (fun k hk=>by cases hk;omega);have m2:=m1.move (Nat.le_refl _) (gu _ w.heap.size 0 (.string b)) (fun k hk=>by cases hk;omega);exact m2.move s2 (gu _ w.heap.size 1 (.slice va vk vc)) (fun k hk=>by cases hk;omega)
end Go.Proofs.YtjaalkocdbkdeaaGreatDoor

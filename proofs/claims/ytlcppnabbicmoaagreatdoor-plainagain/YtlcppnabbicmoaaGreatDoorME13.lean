import Derived.Test.YtlcppnabbicmoaaGreatDoorME12
import Derived.LaidEqlPtr
set_option maxHeartbeats 8000000
set_option maxRecDepth 1000000
namespace Go.Proofs.YtlcppnabbicmoaaGreatDoor
section
open Go.RowKit
open Tr
def wdC (x:Lx.Wd):List Value:=[.int .i64 (x.1:Int),.string x.2.1,.int .i64 (x.2.2:Int)]
def WR (w:World)(v:Value)(ws:List Lx.Wd):Prop:=w.ownsRow 0 116 3 v ws.length (ws.flatMap wdC)
theorem WR.len {w:World}{v:Value}{ws:List Lx.Wd}(h:WR w v ws):∃ a c,v=.slice a ws.length c/\ws.length<=maxLen:=own_len h
theorem wd_get:∀ (ws:List Lx.Wd) (j i:Nat) (x:Lx.Wd),ws[j]?=some x->i<3->(ws.flatMap wdC)[j*3+i]?=(wdC x)[i]?
 | [],_,_,_,h,_=>by simp at h
 | p::ps,0,i,x,h,hi=>by
  simp at h;subst h;rw[List.flatMap_cons,Nat.zero_mul,Nat.zero_add,List.getElem?_append_left (by simp[wdC];exact hi)]
 | p::ps,j+1,i,x,h,hi=>by
  have h':ps[j]?=some x:=by simpa using h
  rw[List.flatMap_cons,List.getElem?_append_right (by simp[wdC,Nat.succ_mul];omega),show (wdC p).length=3 from rfl,show (j+1)*3+i-3=j*3+i by omega];exact wd_get ps j i x h' hi
theorem WR.at {w:World}{v:Value}{ws:List Lx.Wd}(h:WR w v ws){j:Nat}(hj:j<ws.length):∃ g cap,v=.slice (some ⟨g,0,none⟩) ws.length cap/\g<w.heap.size/\w.cell? ⟨g,j*3,none⟩=some (.int .i64 (ws[j].1:Int))/\w.cell? ⟨g,j*3+1,none⟩=some (.string ws[j].2.1)/\w.cell? ⟨g,j*3+2,none⟩=some (.int .i64 (ws[j].2.2:Int)):=by
 unfold WR at h;obtain⟨g,cap,rfl,-,-⟩:=h.form (by omega);have hq:ws[j]?=some ws[j]:=List.getElem?_eq_getElem hj;have hc:∀ i,i<3->w.cell? ⟨g,j*3+i,none⟩=(wdC ws[j])[i]?:=fun i hi=>by
  rw[h.cellAt (j*3+i) (by omega),wd_get ws j i _ hq hi]
 exact⟨g,cap,rfl,(h.lt g rfl).2,hc 0 (by decide),hc 1 (by decide),hc 2 (by decide)⟩
theorem WR.move {w w':World}{v:Value}{ws:List Lx.Wd}(h:WR w v ws)(hb:∀ g,v.ownBlock=some g->w'.heap[g]?=w.heap[g]?):WR w' v ws:=own_move h hb
theorem WR.below {w w':World}{v:Value}{ws:List Lx.Wd}(h:WR w v ws)(hb:Below w.heap.size w w'):WR w' v ws:=own_move h fun g hg=>hb.block g (h.lt g hg).2
def atM:Option Nat->Int
 | none=>-1
 | some p=>p
namespace Lx
def seenF (s:List ByteArray)(b:ByteArray):Int:=if memB b s=true then 1 else 0
theorem told_cons_no {x:Wd}{ws:List Wd}(h:¬ (x.1=0∨x.1=1)):told (x::ws)=told ws:=by unfold told;rw[List.filter_cons,if_neg (by simpa using h)]
theorem told_cons {x:Wd}{ws:List Wd}(h:x.1=0∨x.1=1):told (x::ws)=x::told ws:=by unfold told;rw[List.filter_cons,if_pos (by simpa using h)]
theorem seenF_put (s:List ByteArray)(b:ByteArray):(fun c=>if c=b then (1:Int) else seenF s c)=seenF (b::s):=by
 funext c;unfold seenF memB
 by_cases h:c=b
 ·subst h;simp
 ·rw[if_neg h]
  have:decide (b=c)=false:=by simpa using fun e=>h e.symm
  rw[List.any_cons,this,Bool.false_or]
end Lx
theorem ptwice_any {w:World} {v:Value} {ws:List Lx.Wd} (h:WR w v ws) :
  Calls Tryz.prog 49 #[v] w fun e w'=>e=.returned (.int .i64 (atM (Lx.firstDup [] (Lx.told ws))))/\Below w.heap.size w w':=by
 obtain⟨a,c,rfl,hm⟩:=h.len;unfold maxLen at hm;have hmm:=@run_makeMap Tryz.prog;go_enter Tryz.func49,Tryz.ntmps49;go_wp2_with fail;clear hmm;obtain⟨W,hW⟩:∃ W,W=w.alloc (.map #[] 0):=⟨_,rfl⟩;rw[<-hW];have hWs:W.heap.size=w.heap.size+1:=by rw[hW];simp
 have hB:Below w.heap.size w W:=by rw[hW];exact (Below.refl _ _).alloc (Nat.le_refl _) _
 have hM:SMap W w.heap.size (Lx.seenF []):=by rw[hW];exact GMap.made _ w
 clear hW;have H0:Hid (Lx.firstDup [] (Lx.told ws)=Lx.firstDup [] (Lx.told (ws.drop 0))):=rfl
 go_loopg [9] ws.length (fun k i wr=>∃ (j:Nat) (s:List ByteArray),j+k=ws.length/\i=.int .i64 j/\Below w.heap.size w wr/\SMap wr w.heap.size (Lx.seenF s)/\Hid (Lx.firstDup [] (Lx.told ws)=Lx.firstDup s (Lx.told (ws.drop j))))
 case atStart=>exact⟨0,[],by omega,rfl,hB,hM,H0⟩
 case round =>
  clear H0 hM;obtain⟨j,s,hk,rfl,hbr,hM,HD⟩:=hrel;have hsr:=hM.lt
  by_cases hlt:j<ws.length
  ·have hwr:WR wr _ ws:=h.below hbr
   obtain⟨g,cap,hv,lg,c0,c1,c2⟩:=hwr.at hlt;cases hv;have hd:=HD.out;rw[List.drop_eq_getElem_cons hlt]at hd;have lgw:g<w.heap.size:=(h.lt g rfl).2;generalize ws[j]=x at c0 c1 c2 hd;obtain⟨ro,tx,at_⟩:=x;obtain⟨W1,hW1⟩:∃ W1,W1=wr.alloc (.cells #[.int .i64 (ro:Int),.string tx,.int .i64 (at_:Int)] 116):=⟨_,rfl⟩;have hb1:Below wr.heap.size wr W1:=by rw[hW1];exact (Below.refl _ _).alloc (Nat.le_refl _) _
   have hs1:W1.heap.size=wr.heap.size+1:=by rw[hW1];simp
   have kx:Blk W1 wr.heap.size #[.int .i64 (ro:Int),.string tx,.int .i64 (at_:Int)] 116:=by rw[hW1];exact Blk.new wr _ 116
   have hM1:SMap W1 w.heap.size (Lx.seenF s):=hM.move (hb1.block _ hsr);have hbw1:Below w.heap.size w W1:=hbr.trans (hb1.mono (by omega))
   by_cases hro:ro=0∨ro=1
   ·rw[Lx.told_cons hro,Lx.firstDup]at hd
    have hl1:=hM1.look tx;have hx2:∀ {w2:World},W1.grownBy w2 (some w.heap.size)->Blk w2 wr.heap.size #[.int .i64 (ro:Int),.string tx,.int .i64 (at_:Int)] 116:=fun hg=>kx.grown hg (fun e=>by have:=Option.some.inj e;omega)
    cases hmb:Lx.memB tx s with
    | true =>
     rw[if_pos hmb]at hd;have HD2:Hid (Lx.firstDup [] (Lx.told ws)=some at_):=hd;rw[show Lx.seenF s tx=1 from if_pos hmb]at hl1;obtain⟨w2,hu,hM2,hg2,hs2⟩:=hM1.put tx 2;have hl2:=hM2.look tx;rw[if_pos rfl]at hl2;have kx2:=hx2 hg2;have x1:w2.cell? ⟨wr.heap.size,1,none⟩=some (.string tx):=kx2.cell 1;have x2:w2.cell? ⟨wr.heap.size,2,none⟩=some (.int .i64 (at_:Int)):=kx2.cell 2;have hb2:Below w.heap.size w w2:=hbw1.grown hg2 (by omega) (fun k hk=>by cases hk;exact Nat.le_refl _);rw[hW1]at hl1 hu;clear hd HD hmb hM1 hM2 hM hx2 kx hb1 hs1 hW1 hg2;rcases hro with hro | hro
     have hq0:((ro:Int) != 0)=false:=by simp[hro]
     clear hro
     rotate_left
     have hq0:((ro:Int) != 0)=true:=bne_iff_ne.2 (by omega);have hq1:((ro:Int) != 1)=false:=by simp[hro]
     clear hro
     all_goals
      go_wp2_with fail;go_ret;exact⟨by rw[HD2.out];rfl,hb2⟩
    | false =>
     rw[if_neg (by rw[hmb];decide)]at hd;have HD2:Hid (Lx.firstDup [] (Lx.told ws)=Lx.firstDup (tx::s) (Lx.told (ws.drop (j+1)))):=hd;rw[show Lx.seenF s tx=0 from if_neg (by rw[hmb];decide)]at hl1;obtain⟨w2,hu,hM2,hg2,hs2⟩:=hM1.put tx 1;have hl2:=hM2.look tx;rw[if_pos rfl]at hl2;rw[Lx.seenF_put]at hM2;have kx2:=hx2 hg2;have x1:w2.cell? ⟨wr.heap.size,1,none⟩=some (.string tx):=kx2.cell 1;have hb2:Below w.heap.size w w2:=hbw1.grown hg2 (by omega) (fun k hk=>by cases hk;exact Nat.le_refl _);rw[hW1]at hl1 hu;clear hd HD hmb hM1 hM hx2 kx hb1 hs1 hW1 hg2;rcases hro with hro | hro
     have hq0:((ro:Int) != 0)=false:=by simp[hro]
     clear hro
     rotate_left
     have hq0:((ro:Int) != 0)=true:=bne_iff_ne.2 (by omega);have hq1:((ro:Int) != 1)=false:=by simp[hro]
     clear hro
     all_goals
      go_wp2_with fail;go_roundg (ws.length - (j+1))
      case measure=>omega
      case rel=>exact⟨j+1,tx::s,by omega,by go_num,hb2,hM2,HD2⟩
   ·rw[Lx.told_cons_no hro]at hd
    have HD2:Hid _:=hd;have hq0:((ro:Int) != 0)=true:=bne_iff_ne.2 (by omega);have hq1:((ro:Int) != 1)=true:=bne_iff_ne.2 (by omega);have hd0:¬ (ro:Int)=0:=by omega
    have hd1:¬ (ro:Int)=1:=by omega
    clear hd HD hro;go_wp2_with fail;rw[<-hW1];go_roundg (ws.length - (j+1))
    case measure=>omega
    case rel=>exact⟨j+1,s,by omega,by go_num,hbw1,hM1,HD2⟩
  ·have:j=ws.length:=by omega
   subst this;have hd:=HD.out;rw[List.drop_length]at hd;have HD2:Hid (Lx.firstDup [] (Lx.told ws)=none):=hd;clear hd HD;go_wp2_with fail;go_ret;exact⟨by rw[HD2.out];rfl,hbr⟩
end
section
open Go.RowKit
open Tr
namespace Lx
def cntN (l:List ByteArray)(b:ByteArray):Nat:=l.countP fun x=>decide (x=b)
def cntF (l:List ByteArray)(b:ByteArray):Int:=(cntN l b:Int)
theorem cntN_le (l:List ByteArray)(b:ByteArray):cntN l b<=l.length:=List.countP_le_length
theorem cntF_put (l:List ByteArray)(b:ByteArray):(fun c=>if c=b then cntF l b+1 else cntF l c)=cntF (l++[b]):=by
 funext c;unfold cntF cntN;rw[List.countP_append]
 by_cases h:c=b
 ·subst h;simp
 ·have:(fun x=>decide (x=c)) b=false:=by simpa using fun e=>h e.symm
  rw[if_neg h];simp[this]
theorem cntF_zero {l:List ByteArray}{b:ByteArray}:cntF l b=0↔memB b l=false:=by
 unfold cntF cntN memB;rw[List.any_eq_false];constructor
 ·intro h x hx
  have h0:List.countP (fun x=>decide (x=b)) l=0:=by omega
  intro e;have hp:0<List.countP (fun x=>decide (x=b)) l:=List.countP_pos_iff.2 ⟨x,hx,e⟩;omega
 ·intro h
  have:List.countP (fun x=>decide (x=b)) l=0:=List.countP_eq_zero.2 fun x hx=>h x hx
  omega
theorem textsOf_cons (w:Wd)(ws:List Wd):textsOf (w::ws)=w.2.1::textsOf ws:=rfl
end Lx
theorem punknown_any {w:World} {v:Value} {ws:List Lx.Wd} (h:WR w v ws) :
  Calls Tryz.prog 50 #[v] w fun e w'=>e=.returned (.int .i64 (atM (Lx.firstNone (Lx.textsOf (Lx.told ws)) ws)))/\Below w.heap.size w w':=by
 obtain⟨a,c,rfl,hm⟩:=h.len;unfold maxLen at hm;have hmm:=@run_makeMap Tryz.prog;go_enter Tryz.func50,Tryz.ntmps50;go_wp2_with fail;clear hmm;obtain⟨W,hW⟩:∃ W,W=w.alloc (.map #[] 0):=⟨_,rfl⟩;rw[<-hW];have hWs:W.heap.size=w.heap.size+1:=by rw[hW];simp
 have hB:Below w.heap.size w W:=by rw[hW];exact (Below.refl _ _).alloc (Nat.le_refl _) _
 have hM:SMap W w.heap.size (Lx.cntF []):=by rw[hW];exact GMap.made _ w
 clear hW;have H0:Hid (Lx.textsOf (Lx.told ws)=[]++Lx.textsOf (Lx.told (ws.drop 0))):=rfl
 go_loopg [11] ws.length (fun k i wr=>∃ (j:Nat) (s:List ByteArray),j+k=ws.length/\i=.int .i64 j/\Below w.heap.size w wr/\SMap wr w.heap.size (Lx.cntF s)/\s.length<=j/\Hid (Lx.textsOf (Lx.told ws)=s++Lx.textsOf (Lx.told (ws.drop j))))
 case atStart=>exact⟨0,[],by omega,rfl,hB,hM,Nat.le_refl _,H0⟩
 case round =>
  clear H0 hM;obtain⟨j,s,hk,rfl,hbr,hM,hsl,HD⟩:=hrel;have hsr:=hM.lt
  by_cases hlt:j<ws.length
  ·have hwr:WR wr _ ws:=h.below hbr
   obtain⟨g,cap,hv,lg,c0,c1,c2⟩:=hwr.at hlt;cases hv;have hd:=HD.out;rw[List.drop_eq_getElem_cons hlt]at hd;have lgw:g<w.heap.size:=(h.lt g rfl).2;generalize ws[j]=x at c0 c1 c2 hd;obtain⟨ro,tx,at_⟩:=x;obtain⟨W1,hW1⟩:∃ W1,W1=wr.alloc (.cells #[.int .i64 (ro:Int),.string tx,.int .i64 (at_:Int)] 116):=⟨_,rfl⟩;have hb1:Below wr.heap.size wr W1:=by rw[hW1];exact (Below.refl _ _).alloc (Nat.le_refl _) _
   have hs1:W1.heap.size=wr.heap.size+1:=by rw[hW1];simp
   have hM1:SMap W1 w.heap.size (Lx.cntF s):=hM.move (hb1.block _ hsr);have hbw1:Below w.heap.size w W1:=hbr.trans (hb1.mono (by omega))
   by_cases hro:ro=0∨ro=1
   ·rw[Lx.told_cons hro,Lx.textsOf_cons]at hd
    have hl1:=hM1.look tx;have hcl:=Lx.cntN_le s tx;obtain⟨w2,hu,hM2,hg2,hs2⟩:=hM1.put tx (Lx.cntF s tx+1);rw[Lx.cntF_put]at hM2;have hb2:Below w.heap.size w w2:=hbw1.grown hg2 (by omega) (fun k hk=>by cases hk;exact Nat.le_refl _);have HD2:Hid (Lx.textsOf (Lx.told ws)=(s++[tx])++Lx.textsOf (Lx.told (ws.drop (j+1)))):=by
     show _=_;rw[hd];simp
    have hsl2:(s++[tx]).length<=j+1:=by simp;omega
    rw[hW1]at hl1 hu;have hc0:0<=Lx.cntF s tx:=by unfold Lx.cntF;omega
    have hc1:Lx.cntF s tx+1<=9223372036854775807:=by unfold Lx.cntF;omega
    generalize Lx.cntF s tx=cn at hl1 hu hc0 hc1;clear hd HD hM1 hM hb1 hs1 hW1 hg2 hcl;rcases hro with hro | hro
    have hq0:((ro:Int) == 0)=true:=by simp[hro]
    clear hro
    rotate_left
    have hq0:((ro:Int) == 0)=false:=beq_eq_false_iff_ne.2 (by omega);have hq1:((ro:Int) == 1)=true:=by simp[hro]
    clear hro
    all_goals
     go_wp2_with fail;go_roundg (ws.length - (j+1))
     case measure=>omega
     case rel=>exact⟨j+1,s++[tx],by omega,by go_num,hb2,hM2,hsl2,HD2⟩
   ·rw[Lx.told_cons_no hro]at hd
    have HD2:Hid _:=hd;have hq0:((ro:Int) == 0)=false:=beq_eq_false_iff_ne.2 (by omega);have hq1:((ro:Int) == 1)=false:=beq_eq_false_iff_ne.2 (by omega);have hd0:¬ (ro:Int)=0:=by omega
    have hd1:¬ (ro:Int)=1:=by omega
    clear hd HD hro;go_wp2_with fail;rw[<-hW1];go_roundg (ws.length - (j+1))
    case measure=>omega
    case rel=>exact⟨j+1,s,by omega,by go_num,hbw1,hM1,by omega,HD2⟩
  ·have:j=ws.length:=by omega
   subst this;have hd:=HD.out;rw[List.drop_length]at hd;have HD2:Hid (Lx.textsOf (Lx.told ws)=s):=by rw[show Lx.textsOf (Lx.told [])=[] from rfl,List.append_nil]at hd;exact hd
   clear hd HD hk hsl;go_wp2_with fail;obtain⟨wz,hwz⟩:∃ wz,wz=wr:=⟨_,rfl⟩;rw[<-hwz]at hbr hM hsr;rw[<-hwz];clear hwz;have H1:Hid (Lx.firstNone s ws=Lx.firstNone s (ws.drop 0)):=rfl
   go_loopg [31] ws.length (fun k i wr=>∃ (j:Nat),j+k=ws.length/\i=.int .i64 j/\Below w.heap.size w wr/\SMap wr w.heap.size (Lx.cntF s)/\Hid (Lx.firstNone s ws=Lx.firstNone s (ws.drop j)))
   case atStart=>exact⟨0,by omega,rfl,hbr,hM,H1⟩
   case round =>
    clear H1 hM hbr;obtain⟨j,hk,rfl,hbr,hM,HD⟩:=hrel;have hsr:=hM.lt
    by_cases hlt:j<ws.length
    ·have hwr:WR wr _ ws:=h.below hbr
     obtain⟨g,cap,hv,lg,c0,c1,c2⟩:=hwr.at hlt;cases hv;have hd:=HD.out;rw[List.drop_eq_getElem_cons hlt]at hd;have lgw:g<w.heap.size:=(h.lt g rfl).2;generalize ws[j]=x at c0 c1 c2 hd;obtain⟨ro,tx,at_⟩:=x;obtain⟨W1,hW1⟩:∃ W1,W1=wr.alloc (.cells #[.int .i64 (ro:Int),.string tx,.int .i64 (at_:Int)] 116):=⟨_,rfl⟩;have hb1:Below wr.heap.size wr W1:=by rw[hW1];exact (Below.refl _ _).alloc (Nat.le_refl _) _
     have hM1:SMap W1 w.heap.size (Lx.cntF s):=hM.move (hb1.block _ hsr);have hbw1:Below w.heap.size w W1:=hbr.trans (hb1.mono (by omega));have hl1:=hM1.look tx;rw[hW1]at hl1;rw[Lx.firstNone]at hd
     by_cases hro:ro=2∨ro=4
     ·have hz:(Lx.cntF s tx=0)∨(Lx.cntF s tx≠0):=Decidable.em _
      rcases hz with hz | hz
      ·have hmem:=Lx.cntF_zero.1 hz
       rw[if_pos ⟨hro,hmem⟩]at hd;have HD2':Hid (Lx.firstNone s ws=some at_):=hd;rw[hz]at hl1;clear hd HD hz hmem;rcases hro with hro | hro
       have hq0:((ro:Int) == 2)=true:=by simp[hro]
       clear hro
       rotate_left
       have hq0:((ro:Int) == 2)=false:=beq_eq_false_iff_ne.2 (by omega);have hq1:((ro:Int) == 4)=true:=by simp[hro]
       clear hro
       all_goals
        go_wp2_with fail;go_ret;exact⟨by rw[HD2.out,HD2'.out];rfl,by rw[<-hW1];exact hbw1⟩
      ·have hmem:¬ Lx.memB tx s=false:=fun e=>hz (Lx.cntF_zero.2 e)
       rw[if_neg (fun e=>hmem e.2)]at hd;have HD2':Hid (Lx.firstNone s ws=Lx.firstNone s (ws.drop (j+1))):=hd;have hzb:(Lx.cntF s tx == 0)=false:=beq_eq_false_iff_ne.2 hz;clear hd HD hmem;generalize Lx.cntF s tx=cn at hl1 hz hzb;rcases hro with hro | hro
       have hq0:((ro:Int) == 2)=true:=by simp[hro]
       clear hro
       rotate_left
       have hq0:((ro:Int) == 2)=false:=beq_eq_false_iff_ne.2 (by omega);have hq1:((ro:Int) == 4)=true:=by simp[hro]
       clear hro
       all_goals
        go_wp2_with fail;rw[<-hW1];go_roundg (ws.length - (j+1))
        case measure=>omega
        case rel=>exact⟨j+1,by omega,by go_num,hbw1,hM1,HD2'⟩
     ·rw[if_neg (fun e=>hro e.1)]at hd
      have HD2':Hid (Lx.firstNone s ws=Lx.firstNone s (ws.drop (j+1))):=hd;have hq0:((ro:Int) == 2)=false:=beq_eq_false_iff_ne.2 (by omega);have hq1:((ro:Int) == 4)=false:=beq_eq_false_iff_ne.2 (by omega);have hd0:¬ (ro:Int)=2:=by omega
      have hd1:¬ (ro:Int)=4:=by omega
      clear hd HD hro;go_wp2_with fail;rw[<-hW1];go_roundg (ws.length - (j+1))
      case measure=>omega
      case rel=>exact⟨j+1,by omega,by go_num,hbw1,hM1,HD2'⟩
    ·have:j=ws.length:=by omega
     subst this;have hd:=HD.out;rw[List.drop_length]at hd;have HD2':Hid (Lx.firstNone s ws=none):=hd;clear hd HD;go_wp2_with fail;go_ret;exact⟨by rw[HD2.out,HD2'.out];rfl,hbr⟩
end
section
open Go.RowKit
open Tr
namespace Lx
def fl:List Bool->List Wd->Option Nat
 | _,[]=>none
 | [],w::ws=>if w.1=1 then none else fl [] ws
 | b::bs,w::ws=>if w.1=1 then (if b=true then fl bs ws else some w.2.2) else fl (b::bs) ws
def cnt1 (ws:List Wd):Nat:=ws.countP fun w=>decide (w.1=1)
theorem fl_skip {bs:List Bool}{w:Wd}{ws:List Wd}(h:w.1≠1):fl bs (w::ws)=fl bs ws:=by
 cases bs with
 | nil=>rw[fl,if_neg h]
 | cons b bs=>rw[fl,if_neg h]
theorem fl_rule {b:Bool}{bs:List Bool}{w:Wd}{ws:List Wd}(h:w.1=1):fl (b::bs) (w::ws)=if b=true then fl bs ws else some w.2.2:=by rw[fl,if_pos h]
theorem fl_none:∀ (ws:List Wd) (bs:List Bool),(∀ w∈ws,w.1≠1)->∀ us,fl bs (ws++us)=fl bs us
 | [],_,_,_=>rfl
 | w::ws,bs,h,us=>by
  rw[List.cons_append,fl_skip (h w List.mem_cons_self)];exact fl_none ws bs (fun x hx=>h x (List.mem_cons_of_mem _ hx)) us
theorem fl_rules:∀ (rs:List Rl) (bs:List Bool),rs.length<=bs.length->fl bs (rs.flatMap fun r=>(1,r.name,r.place)::flatA 9 r.alts)=firstOff rs bs
 | [],bs,_=>by cases bs <;> rfl
 | r::rs,[],h=>by simp at h
 | r::rs,b::bs,h=>by
  rw[List.flatMap_cons,List.cons_append,fl_rule rfl,firstOff]
  split
  ·rw[fl_none _ _ (fun w hw=>by rcases flatA_used 9 _ w hw with h | h | h <;> omega)]
   exact fl_rules rs bs (by simpa using h)
  ·rfl
theorem fl_flat (g:Gr)(bs:List Bool)(h:g.rules.length<=bs.length):fl bs (flatG g)=firstOff g.rules bs:=by
 unfold flatG;rw[fl_none _ _ (fun w hw=>?_),fl_rules _ _ h];obtain⟨lv,-,hw⟩:=List.mem_flatMap.1 hw;obtain⟨t,-,rfl⟩:=List.mem_map.1 hw;show (0:Nat)≠1;decide
theorem cnt1_rules:∀ (rs:List Rl),cnt1 (rs.flatMap fun r=>(1,r.name,r.place)::flatA 9 r.alts)=rs.length
 | []=>rfl
 | r::rs=>by
  have h0:cnt1 (flatA 9 r.alts)=0:=List.countP_eq_zero.2 fun w hw=>by
   rcases flatA_used 9 _ w hw with h | h | h <;> simp[h]
  have ih:=cnt1_rules rs;unfold cnt1 at h0 ih ⊢;rw[List.flatMap_cons,List.countP_append,ih,List.countP_cons,h0,List.length_cons];simp;omega
theorem cnt1_flat (g:Gr):cnt1 (flatG g)=g.rules.length:=by
 have h0:cnt1 (g.levels.flatMap fun lv=>lv.tokens.map fun t=>(0,t.1,t.2))=0:=List.countP_eq_zero.2 fun w hw=>by
  obtain⟨lv,-,hw⟩:=List.mem_flatMap.1 hw;obtain⟨t,-,rfl⟩:=List.mem_map.1 hw;simp
 have h1:=cnt1_rules g.rules;unfold flatG;unfold cnt1 at h0 h1 ⊢;rw[List.countP_append,h0,h1,Nat.zero_add]
end Lx
theorem pfirstLeft_any {w:World} {v:Value} {ws:List Lx.Wd} (h:WR w v ws) {o:Nat} {bs:List Bool} {n:Nat} (hB:Blk w o (boolsV bs) 4) (hn:bs.length=n) (hc:Lx.cnt1 ws<=n) :
  Calls Tryz.prog 52 #[.slice (some ⟨o,0,none⟩) n n,v] w fun e w'=>e=.returned (.int .i64 (atM (Lx.fl bs ws)))/\Below w.heap.size w w':=by
 obtain⟨a,c,rfl,hm⟩:=h.len;unfold maxLen at hm;have HN:Hid (bs.length=n):=hn;clear hn;have hcl:Lx.cnt1 ws<=ws.length:=List.countP_le_length;go_enter Tryz.func52,Tryz.ntmps52;go_wp2_with fail;have H0:Hid (Lx.fl bs ws=Lx.fl (bs.drop 0) (ws.drop 0)):=rfl;have hc0:0+Lx.cnt1 (ws.drop 0)<=n:=by rw[List.drop_zero,Nat.zero_add];exact hc
 go_loopg [5,10] ws.length (fun k rv i wr=>∃ (j r:Nat),j+k=ws.length/\i=.int .i64 j/\rv=.int .i64 r/\Below w.heap.size w wr/\r+Lx.cnt1 (ws.drop j)<=n/\r<=j/\Hid (Lx.fl bs ws=Lx.fl (bs.drop r) (ws.drop j)))
 case atStart=>exact⟨0,0,by omega,rfl,rfl,Below.refl _ _,hc0,Nat.le_refl _,H0⟩
 case round =>
  clear H0 hc0;obtain⟨j,r,hk,rfl,rfl,hbr,hcr,hrj,HD⟩:=hrel;have hsr:=hbr.size
  by_cases hlt:j<ws.length
  ·have hwr:WR wr _ ws:=h.below hbr
   obtain⟨g,cap,hv,lg,c0,c1,c2⟩:=hwr.at hlt;cases hv;have hd:=HD.out;rw[List.drop_eq_getElem_cons hlt]at hd hcr;generalize ws[j]=x at c0 c1 c2 hd hcr;obtain⟨ro,tx,at_⟩:=x;have hb1:Below wr.heap.size wr (wr.alloc (.cells #[.int .i64 (ro:Int),.string tx,.int .i64 (at_:Int)] 116)):=(Below.refl _ _).alloc (Nat.le_refl _) _;have hbw1:=hbr.trans (hb1.mono hsr)
   by_cases hro:ro=1
   ·have hcr2:r+(Lx.cnt1 (ws.drop (j+1))+1)<=n:=by unfold Lx.cnt1 at hcr ⊢;rw[List.countP_cons]at hcr;simpa [hro]using hcr
    have hrl:r<bs.length:=by have:=HN.out;omega
    have o1:wr.cell? ⟨o,r,none⟩=some (.bool (Lx.at? bs r)):=(World.cell?_of_block (w:=w) (hbr.block o hB.lt)).trans ((hB.cell r).trans (bools_get bs hrl));have eb:Lx.at? bs r=bs[r]:=by simp[Lx.at?,hrl]
    rw[List.drop_eq_getElem_cons hrl,Lx.fl_rule hro,<-eb]at hd;have hq:((ro:Int) != 1)=false:=by simp[hro]
    have lo:=hB.lt;have lor:o<wr.heap.size:=by omega
    have hrn:r<n:=by omega
    clear hro hcr hrl eb HD;cases hb:Lx.at? bs r with
    | true =>
     rw[hb,if_pos rfl]at hd;rw[hb]at o1;have HD2:Hid _:=hd;clear hd hb;go_wp2_with fail;go_roundg (ws.length - (j+1))
     case measure=>omega
     case rel=>exact⟨j+1,r+1,by omega,by go_num,by go_num,hbw1,by omega,by omega,HD2⟩
    | false =>
     rw[hb,if_neg (by decide)]at hd;rw[hb]at o1;have HD2:Hid (Lx.fl bs ws=some at_):=hd;clear hd hb;go_wp2_with fail;go_ret;exact⟨by rw[HD2.out];rfl,hbw1⟩
   ·rw[Lx.fl_skip hro]at hd
    have hcr2:r+Lx.cnt1 (ws.drop (j+1))<=n:=by unfold Lx.cnt1 at hcr ⊢;rw[List.countP_cons]at hcr;simpa [hro]using hcr
    have hq:((ro:Int) != 1)=true:=bne_iff_ne.2 (by omega);have hqd:¬ (ro:Int)=1:=by omega
    have HD2:Hid _:=hd;clear hd HD hro hcr;go_wp2_with fail;go_roundg (ws.length - (j+1))
    case measure=>omega
    case rel=>exact⟨j+1,r,by omega,by go_num,rfl,hbw1,hcr2,by omega,HD2⟩
  ·have:j=ws.length:=by omega
   subst this;have hd:=HD.out;rw[List.drop_length]at hd;have HD2:Hid (Lx.fl bs ws=none):=by rw[hd];cases bs.drop r <;> rfl
   clear hd HD;go_wp2_with fail;go_ret;exact⟨by rw[HD2.out];rfl,hbr⟩
end
section
open Go.RowKit
open Tr
structure PGr (F:Nat->Prop) (w:World) (vR:Value) (rs:List Lx.Rl):Prop where
 lt:∀ b,F b->b<w.heap.size
 rl:Tr.Seq F w 179 2 cR (fun va r=>AltsIn YP 9 F w va r.alts) vR rs
theorem PGr.move {F:Nat->Prop}{w w':World}{vR:Value}{rs:List Lx.Rl}(h:PGr F w vR rs)(hs:∀ b,F b->w'.heap[b]?=w.heap[b]?)(hl:w.heap.size<=w'.heap.size):PGr F w' vR rs :=
 ⟨fun b hb=>Nat.lt_of_lt_of_le (h.lt b hb) hl,Seq.move h.rl hs (fun _ h=>h) fun _ _ ha=>AltsIn.move hs (fun _ h=>h) ha⟩
theorem PGr.below {F:Nat->Prop}{w w':World}{vR:Value}{rs:List Lx.Rl}(h:PGr F w vR rs)(hb:Below w.heap.size w w'):PGr F w' vR rs:=h.move (fun b hF=>hb.block b (h.lt b hF)) hb.size
theorem PGr.len {F:Nat->Prop}{w:World}{vR:Value}{rs:List Lx.Rl}(h:PGr F w vR rs):∃ a c,vR=.slice a rs.length c/\rs.length<=maxLen:=Seq.len h.rl
theorem PGr.at {F:Nat->Prop}{w:World}{vR:Value}{rs:List Lx.Rl}(h:PGr F w vR rs){j:Nat}(hj:j<rs.length):∃ b cap va,vR=.slice (some ⟨b,0,none⟩) rs.length cap/\F b/\AltsIn YP 9 F w va rs[j].alts/\w.cell? ⟨b,j*2,none⟩=some (.string rs[j].name)/\w.cell? ⟨b,j*2+1,none⟩=some va:=by
 obtain⟨b,cap,va,h1,h2,h3,h4⟩:=Seq.at h.rl (fun _=>rfl) hj;exact⟨b,cap,va,h1,h2,h3,h4 0 (by decide),h4 1 (by decide)⟩
theorem pnumbers_any {F:Nat->Prop} {w:World} {vR:Value} {rs:List Lx.Rl} (h:PGr F w vR rs) :
  Calls Tryz.prog 51 #[vR] w fun e w'=>∃ B f,e=.returned (.map (some B))/\w.heap.size<=B/\SMap w' B f/\(∀ i (hi:i<rs.length),(∀ k (hk:k<rs.length),i<k->rs[k].name≠rs[i].name)->f rs[i].name=(i:Int))/\Below w.heap.size w w':=by
 obtain⟨a,c,rfl,hm⟩:=h.len;unfold maxLen at hm;have hmm:=@run_makeMap Tryz.prog;go_enter Tryz.func51,Tryz.ntmps51;go_wp2_with fail;clear hmm;obtain⟨W,hW⟩:∃ W,W=w.alloc (.map #[] 0):=⟨_,rfl⟩;rw[<-hW];have hWs:W.heap.size=w.heap.size+1:=by rw[hW];simp
 have hB:Below w.heap.size w W:=by rw[hW];exact (Below.refl _ _).alloc (Nat.le_refl _) _
 have hM:SMap W w.heap.size (fun _=>0):=by rw[hW];exact GMap.made _ w
 clear hW
 go_loopg [9] rs.length (fun k i wr=>∃ (j:Nat) (f:ByteArray->Int),j+k=rs.length/\i=.int .i64 j/\Below w.heap.size w wr/\SMap wr w.heap.size f/\Hid (∀ i (hi:i<rs.length),i<j->(∀ k (hk:k<rs.length),i<k->k<j->rs[k].name≠rs[i].name)->f rs[i].name=(i:Int)))
 case atStart=>exact⟨0,_,by omega,rfl,hB,hM,fun i hi h=>by omega⟩
 case round =>
  clear hM;obtain⟨j,f,hk,rfl,hbr,hM,HF⟩:=hrel;have hsr:=hM.lt
  by_cases hlt:j<rs.length
  ·obtain⟨gb,cap,va,hv,hFg,-,c0,c1⟩:=(h.below hbr).at hlt
   cases hv;obtain⟨nm,hnm⟩:∃ nm,nm=rs[j].name:=⟨_,rfl⟩;rw[<-hnm]at c0;obtain⟨W1,hW1⟩:∃ W1,W1=wr.alloc (.cells #[.string nm,va] 179):=⟨_,rfl⟩;have hb1:Below wr.heap.size wr W1:=by rw[hW1];exact (Below.refl _ _).alloc (Nat.le_refl _) _
   have hM1:SMap W1 w.heap.size f:=hM.move (hb1.block _ hsr);have hs1:W1.heap.size=wr.heap.size+1:=by rw[hW1];simp
   obtain⟨w2,hu,hM2,hg2,hs2⟩:=hM1.put nm (j:Int);have hb2:Below w.heap.size w w2:=(hbr.trans (hb1.mono (by omega))).grown hg2 (by omega) (fun k hk=>by cases hk;exact Nat.le_refl _);have HF2:Hid (∀ i (hi:i<rs.length),i<j+1->(∀ k (hk:k<rs.length),i<k->k<j+1->rs[k].name≠rs[i].name)->(fun c=>if c=nm then (j:Int) else f c) rs[i].name=(i:Int)):=by
    intro i hi hij hu
    by_cases he:i=j
    ·subst he;simp[hnm]
    ·have hne:rs[i].name≠nm:=fun e=>hu j hlt (by omega) (by omega) (by rw[<-hnm,e])
     simp only[if_neg hne];exact HF.out i hi (by omega) fun k hk h1 h2=>hu k hk h1 (by omega)
   rw[hW1]at hu;obtain⟨sa,k',sc,hva⟩:∃ a k c,va=.slice a k c:=by
    obtain⟨_,_,va',hv',_,hA',_,hc'⟩:=(h.below hbr).at hlt;cases hv';rw[c1]at hc';cases hc';exact AltsIn.form hA'
   subst hva;clear hnm HF hM1 hM;go_wp2_with fail;go_roundg (rs.length - (j+1))
   case measure=>omega
   case rel=>exact⟨j+1,_,by omega,by go_num,hb2,hM2,HF2⟩
  ·have:j=rs.length:=by omega
   subst this;go_wp2_with fail;go_ret;exact⟨_,f,rfl,Nat.le_refl _,hM,fun i hi hu=>HF.out i hi hi fun k hk h1 _=>hu k hk h1,hbr⟩
end
section
open Go Go.RowKit
namespace Lx
def ItOk (x:It):Prop:=(x.kind=0/\isName x.name=true/\x.alts=[])∨(x.kind=1/\isToken x.name=true/\x.alts=[])∨x.kind=2
def PrOk (a:Alt):Prop:=a.2.1=noText∨isToken a.2.1=true
def GrpOk (d:Nat)(grp:List Tk->Res (List Alt)):Prop:=∀ ts l ts',grp ts=.ok (l,ts')->(∀ x∈itsA d l,ItOk x)
theorem pItem_ok {d:Nat}{grp:List Tk->Res (List Alt)}(hg:GrpOk d grp){ts ts':List Tk}{x:It}(h:pItem grp ts=.ok (x,ts')):∀ y∈itsI d x,ItOk y:=by
 unfold pItem at h
 split at h
 ·split at h
  ·cases h
  ·rename_i alts ts1 hq
   cases h;intro y hy;rcases List.mem_cons.1 hy with rfl | hy
   ·exact .inr (.inr rfl)
   ·exact hg _ _ _ hq y hy
 ·split at h
  ·rename_i hn
   cases h;intro y hy;rcases List.mem_cons.1 hy with rfl | hy
   ·exact .inl ⟨rfl,hn,rfl⟩
   ·rw[itsA_nil]at hy;cases hy
  ·split at h
   ·rename_i hn
    cases h;intro y hy;rcases List.mem_cons.1 hy with rfl | hy
    ·exact .inr (.inl ⟨rfl,hn,rfl⟩)
    ·rw[itsA_nil]at hy;cases hy
   ·cases h
theorem pItems_ok {d:Nat} {grp:List Tk->Res (List Alt)} (hg:GrpOk d grp):∀ (f:Nat) (ts:List Tk) (a x:List It) (ts':List Tk),pItems grp f ts a=.ok (x,ts')->(∀ y∈itsL d a,ItOk y)->∀ y∈itsL d x,ItOk y
 | 0,ts,a,x,ts',h,ha=>by cases h;exact ha
 | f+1,ts,a,x,ts',h,ha=>by
  unfold pItems at h
  split at h
  ·split at h
   ·cases h
   ·rename_i z t1 hz
    refine pItems_ok hg f t1 _ x ts' h fun y hy=>?_
    unfold itsL at hy;rw[List.flatMap_append]at hy;rcases List.mem_append.1 hy with hy | hy
    ·exact ha y hy
    ·rw[List.flatMap_cons,List.flatMap_nil,List.append_nil]at hy
     exact pItem_ok hg hz y hy
  ·cases h;exact ha
theorem pAlt_ok {d:Nat}{grp:List Tk->Res (List Alt)}(hg:GrpOk d grp){top:Bool}{ts ts':List Tk}{x:Alt}(h:pAlt grp top ts=.ok (x,ts')):(∀ y∈itsL d x.1,ItOk y)/\PrOk x:=by
 unfold pAlt at h
 split at h
 ·cases h
 ·rename_i its t1 hi
  have h1:=pItems_ok hg _ _ _ _ _ hi (fun y hy=>by cases hy);unfold pPrec at h
  split at h
  ·split at h
   ·cases h
   ·rename_i b t2 hb
    cases h;obtain⟨rfl,rfl,hk⟩:=pWord_len hb;exact⟨h1,.inr hk⟩
  ·cases h
   exact⟨h1,.inl rfl⟩
theorem pMore_ok {d:Nat} {grp:List Tk->Res (List Alt)} (hg:GrpOk d grp) {top:Bool}:∀ (f:Nat) (ts:List Tk) (a x:List Alt) (ts':List Tk),pMore grp top f ts a=.ok (x,ts')->((∀ y∈itsA (d+1) a,ItOk y)/\∀ y∈a,PrOk y)->(∀ y∈itsA (d+1) x,ItOk y)/\∀ y∈x,PrOk y
 | 0,ts,a,x,ts',h,ha=>by cases h;exact ha
 | f+1,ts,a,x,ts',h,ha=>by
  unfold pMore at h
  split at h
  ·split at h
   ·cases h
   ·rename_i z t1 hz
    have hz2:=pAlt_ok hg hz;refine pMore_ok hg f t1 _ x ts' h ⟨fun y hy=>?_,fun y hy=>?_⟩
    ·rw[itsA_succ,List.flatMap_append]at hy
     rcases List.mem_append.1 hy with hy | hy
     ·exact ha.1 y hy
     ·rw[List.flatMap_cons,List.flatMap_nil,List.append_nil]at hy
      exact hz2.1 y hy
    ·rcases List.mem_append.1 hy with hy | hy
     ·exact ha.2 y hy
     ·rw[List.mem_singleton.1 hy];exact hz2.2
  ·cases h;exact ha
theorem pAltsBy_ok {d:Nat}{grp:List Tk->Res (List Alt)}(hg:GrpOk d grp){top:Bool}{ts ts':List Tk}{x:List Alt}(h:pAltsBy grp top ts=.ok (x,ts')):(∀ y∈itsA (d+1) x,ItOk y)/\∀ y∈x,PrOk y:=by
 unfold pAltsBy at h
 split at h
 ·cases h
 ·rename_i z t1 hz
  have hz2:=pAlt_ok hg hz;refine pMore_ok hg _ _ _ _ _ h ⟨fun y hy=>?_,fun y hy=>?_⟩
  ·rw[itsA_succ,List.flatMap_cons,List.flatMap_nil,List.append_nil]at hy
   exact hz2.1 y hy
  ·rw[List.mem_singleton.1 hy];exact hz2.2
theorem pGroup_ok {d:Nat}{r:List Tk->Res (List Alt)}(hr:∀ ts l ts',r ts=.ok (l,ts')->(∀ y∈itsA d l,ItOk y)/\∀ y∈l,PrOk y):GrpOk d (pGroup r):=by
 intro ts l ts' h;unfold pGroup at h
 split at h
 ·cases h
 ·rename_i l1 t1 h1
  split at h
  ·cases h
  ·cases h
   exact (hr _ _ _ h1).1
theorem pAlts_ok:∀ (d:Nat) (ts:List Tk) (l:List Alt) (ts':List Tk),pAlts d ts=.ok (l,ts')->(∀ y∈itsA (d+1) l,ItOk y)/\∀ y∈l,PrOk y
 | 0,ts,l,ts',h=>pAltsBy_ok (d:=0) (fun _ _ _ h=>by cases h) h
 | d+1,ts,l,ts',h=>pAltsBy_ok (pGroup_ok (pAlts_ok d)) h
def RlOk (r:Rl):Prop:=isName r.name=true/\(∀ y∈itsA 9 r.alts,ItOk y)/\∀ y∈r.alts,PrOk y
theorem pRule_ok {ts ts':List Tk}{x:Rl}(h:pRule ts=.ok (x,ts')):RlOk x:=by
 unfold pRule at h
 split at h
 ·cases h
 ·rename_i n t1 h1
  obtain⟨rfl,rfl,hk⟩:=pWord_len h1
  split at h
  ·cases h
  ·split at h
   ·cases h
   ·rename_i l t3 h3
    split at h
    ·cases h
    ·cases h
     exact⟨hk,pAlts_ok 8 _ _ _ h3⟩
theorem pRules_ok:∀ (f:Nat) (ts:List Tk) (a x:List Rl) (ts':List Tk),pRules f ts a=.ok (x,ts')->(∀ r∈a,RlOk r)->∀ r∈x,RlOk r
 | 0,ts,a,x,ts',h,ha=>by cases h;exact ha
 | f+1,ts,a,x,ts',h,ha=>by
  unfold pRules at h
  split at h
  ·cases h;exact ha
  ·split at h
   ·cases h
   ·rename_i z t1 hz
    refine pRules_ok f t1 _ x ts' h fun r hr=>?_
    rcases List.mem_append.1 hr with hr | hr
    ·exact ha r hr
    ·rw[List.mem_singleton.1 hr];exact pRule_ok hz
theorem pTokens_ok:∀ (f:Nat) (ts a x:List Tk) (ts':List Tk),pTokens f ts a=.ok (x,ts')->(∀ t∈a,isToken t.1=true)->∀ t∈x,isToken t.1=true
 | 0,ts,a,x,ts',h,ha=>by cases h;exact ha
 | f+1,ts,a,x,ts',h,ha=>by
  unfold pTokens at h
  split at h
  ·cases h;exact ha
  ·split at h
   ·cases h
   ·rename_i b t1 h1
    obtain⟨rfl,rfl,hk⟩:=pWord_len h1;refine pTokens_ok f _ _ _ _ h fun t ht=>?_
    rcases List.mem_append.1 ht with ht | ht
    ·exact ha t ht
    ·rw[List.mem_singleton.1 ht];exact hk
def LvOk (l:Lv):Prop:=∀ t∈l.tokens,isToken t.1=true
theorem pLevels_ok:∀ (f:Nat) (ts:List Tk) (a x:List Lv) (ts':List Tk),pLevels f ts a=.ok (x,ts')->(∀ l∈a,LvOk l)->∀ l∈x,LvOk l
 | 0,ts,a,x,ts',h,ha=>by cases h;exact ha
 | f+1,ts,a,x,ts',h,ha=>by
  unfold pLevels at h
  split at h
  ·split at h
   ·cases h
   ·rename_i z t1 hz
    refine pLevels_ok f t1 _ x ts' h fun l hl=>?_
    rcases List.mem_append.1 hl with hl | hl
    ·exact ha l hl
    ·rw[List.mem_singleton.1 hl]
     unfold pLevel at hz
     split at hz
     ·cases hz
     ·rename_i b t2 hb
      obtain⟨rfl,rfl,hw⟩:=pWord_len hb
      split at hz
      ·cases hz
      ·rename_i l t3 h3
       cases hz;exact pTokens_ok _ _ _ _ _ h3 fun t ht=>by rw[List.mem_singleton.1 ht];exact hw
  ·cases h;exact ha
theorem parse_is {s:ByteArray}{g:Gr}(h:parse s=.ok g):(∀ l∈g.levels,LvOk l)/\(∀ r∈g.rules,RlOk r)/\0<g.rules.length:=by
 unfold parse at h
 split at h
 ·cases h
 ·split at h
  ·cases h
  ·rename_i g' ts' hp
   cases h;unfold pGrammar at hp
   split at hp
   ·cases hp
   ·rename_i lv t1 h1
    split at hp
    ·cases hp
    ·rename_i x t2 h2
     split at hp
     ·cases hp
     ·rename_i l t3 h3
      cases hp;refine⟨pLevels_ok _ _ _ _ _ h1 (fun _ h=>by cases h),pRules_ok _ _ _ _ _ h3 (fun r hr=>by rw[List.mem_singleton.1 hr];exact pRule_ok h2),?_⟩;obtain⟨y,e,-⟩:=pRules_took _ _ _ _ _ h3;show 0<l.length;rw[e];simp
def Dp:Nat->List Alt->Prop
 | 0,l=>l=[]
 | d+1,l=>∀ a∈l,∀ x∈a.1,Dp d x.alts
theorem mem_itsA {d:Nat}{l:List Alt}{y:It}:y∈itsA (d+1) l↔∃ a∈l,∃ x∈a.1,y=x∨y∈itsA d x.alts:=by
 rw[itsA_succ,List.mem_flatMap];constructor
 ·rintro⟨a,ha,hy⟩
  obtain⟨x,hx,hy⟩:=List.mem_flatMap.1 hy;exact⟨a,ha,x,hx,List.mem_cons.1 hy⟩
 ·rintro⟨a,ha,x,hx,hy⟩
  exact⟨a,ha,List.mem_flatMap.2 ⟨x,hx,List.mem_cons.2 hy⟩⟩
theorem its_sub:∀ {d:Nat} {l:List Alt},Dp d l->∀ {x:It},x∈itsA d l->∀ {a:Alt},a∈x.alts->∀ {y:It},y∈a.1->y∈itsA d l
 | 0,l,h,x,hx,a,ha,y,hy=>by cases hx
 | d+1,l,h,x,hx,a,ha,y,hy=>by
  obtain⟨b,hb,z,hz,hx⟩:=mem_itsA.1 hx;refine mem_itsA.2 ⟨b,hb,z,hz,.inr ?_⟩;have hD:=h b hb z hz;rcases hx with rfl | hx
  ·cases d with
   | zero=>rw[show x.alts=[] from hD]at ha;cases ha
   | succ d=>exact mem_itsA.2 ⟨a,ha,y,hy,.inl rfl⟩
  ·exact its_sub hD hx ha hy
theorem sum_mem {α:Type} (f:α->Nat):∀ {l:List α} {a:α},a∈l->f a<=(l.map f).sum
 | b::l,a,h=>by
  rw[List.map_cons,List.sum_cons];rcases List.mem_cons.1 h with rfl | h
  ·omega
  ·have:=sum_mem f h;omega
theorem len_sum {α:Type} (f:α->Nat):∀ {l:List α},(∀ a∈l,1<=f a)->l.length<=(l.map f).sum
 | [],_=>Nat.le_refl _
 | b::l,h=>by
  rw[List.map_cons,List.sum_cons,List.length_cons];have:=h b List.mem_cons_self;have:=len_sum f (l:=l) fun a ha=>h a (List.mem_cons_of_mem _ ha)
  omega
theorem alts_size:∀ {d:Nat} {l:List Alt},Dp d l->l.length<=sizeA d l/\∀ a∈l,a.1.length<=sizeA d l
 | 0,l,h=>by rw[show l=[] from h];exact⟨Nat.le_refl _,fun _ h=>by cases h⟩
 | d+1,l,h=>by
  rw[sizeA_succ];refine⟨len_sum _ fun a _=>by omega,fun a ha=>?_⟩;have h1:1+sizeL d a.1<=_:=sum_mem (fun a:Alt=>1+sizeL d a.1) ha;have h2:a.1.length<=sizeL d a.1:=len_sum _ fun x _=>by unfold sizeI;omega
  omega
theorem its_size:∀ {d:Nat} {l:List Alt},Dp d l->∀ {x:It},x∈itsA d l->x.alts.length<=sizeA d l/\∀ a∈x.alts,a.1.length<=sizeA d l
 | 0,l,h,x,hx=>by cases hx
 | d+1,l,h,x,hx=>by
  obtain⟨b,hb,z,hz,hx⟩:=mem_itsA.1 hx;have hD:=h b hb z hz;have hs:sizeA d z.alts<=sizeA (d+1) l:=by
   rw[sizeA_succ];have h1:1+sizeL d b.1<=_:=sum_mem (fun a:Alt=>1+sizeL d a.1) hb;have h2:1+sizeA d z.alts<=sizeL d b.1:=sum_mem (sizeI d) hz;omega
  have h4:x.alts.length<=sizeA d z.alts/\∀ a∈x.alts,a.1.length<=sizeA d z.alts:=by
   rcases hx with rfl | hx
   ·exact alts_size hD
   ·exact its_size hD hx
  exact⟨by omega,fun a ha=>by have:=h4.2 a ha;omega⟩
end Lx
theorem altsIn_dp {Y:Tr.Lay} {F:Nat->Prop} {w:World}:∀ {d:Nat} {v:Value} {l:List Lx.Alt},Tr.AltsIn Y d F w v l->Lx.Dp d l
 | 0,_,_,h=>h.2
 | d+1,v,l,h=>by
  obtain⟨ps,h1,-,-,h4⟩:=h;intro a ha x hx;rw[<-h1]at ha;obtain⟨q,hq,rfl⟩:=List.mem_map.1 ha;obtain⟨qs,k1,-,-,k4⟩:=h4 q hq;rw[<-k1]at hx;obtain⟨p,hp,rfl⟩:=List.mem_map.1 hx;exact altsIn_dp (k4 p hp)
end
section
open Go.RowKit
open Tr
def blkOf:Value->Nat
 | .slice (some a) _ _=>a.block
 | _=>0
def cv (w:World)(a:Addr):Value:=(w.cell? a).getD (.slice none 0 0)
abbrev AI:=Addr × Lx.It
def adItems (sub:Value->List Lx.Alt->List AI) (w:World) (g:Nat):Nat->List Lx.It->List AI
 | _,[]=>[]
 | i,x::xs=>((⟨g,i*4,none⟩:Addr),x)::(sub (cv w ⟨g,i*4+3,none⟩) x.alts++adItems sub w g (i+1) xs)
def adAlts (sub:Value->List Lx.Alt->List AI) (w:World) (g:Nat):Nat->List Lx.Alt->List AI
 | _,[]=>[]
 | j,a::l=>adItems sub w (blkOf (cv w ⟨g,j*2,none⟩)) 0 a.1++adAlts sub w g (j+1) l
def adA:Nat->World->Value->List Lx.Alt->List AI
 | 0,_,_,_=>[]
 | d+1,w,v,l=>adAlts (adA d w) w (blkOf v) 0 l
theorem adItems_snd {sub:Value->List Lx.Alt->List AI} {w:World} {g d:Nat}:∀ (its:List Lx.It) (i:Nat),(∀ k x,its[k]?=some x->(sub (cv w ⟨g,(i+k)*4+3,none⟩) x.alts).map Prod.snd=Lx.itsA d x.alts)->(adItems sub w g i its).map Prod.snd=Lx.itsL d its
 | [],_,_=>rfl
 | x::xs,i,h=>by
  have h0:=h 0 x rfl;have h1:=adItems_snd (sub:=sub) (w:=w) (g:=g) (d:=d) xs (i+1) fun k y hy=>by
   have:=h (k+1) y (by simpa using hy);rw[show i+(k+1)=i+1+k by omega]at this;exact this
  rw[adItems,List.map_cons,List.map_append,h1];simp only[Nat.add_zero]at h0;rw[h0];rfl
theorem adAlts_snd {sub:Value->List Lx.Alt->List AI} {w:World} {g d:Nat}:∀ (l:List Lx.Alt) (j:Nat),(∀ k a,l[k]?=some a->(adItems sub w (blkOf (cv w ⟨g,(j+k)*2,none⟩)) 0 a.1).map Prod.snd=Lx.itsL d a.1)->(adAlts sub w g j l).map Prod.snd=Lx.itsA (d+1) l
 | [],_,_=>rfl
 | a::l,j,h=>by
  have h0:=h 0 a rfl;have h1:=adAlts_snd (sub:=sub) (w:=w) (g:=g) (d:=d) l (j+1) fun k y hy=>by
   have:=h (k+1) y (by simpa using hy);rw[show j+(k+1)=j+1+k by omega]at this;exact this
  rw[adAlts,List.map_append,h1];simp only[Nat.add_zero]at h0;rw[h0];rfl
theorem alts_cell {d:Nat}{F:Nat->Prop}{w:World}{v:Value}{l:List Lx.Alt}(h:AltsIn YP (d+1) F w v l){j:Nat}(hj:j<l.length):F (blkOf v)/\∃ vi,w.cell? ⟨blkOf v,j*2,none⟩=some vi/\ItemsIn YP d F w vi l[j].1:=by
 obtain⟨b,cap,vi,h1,h2,h3,h4⟩:=Seq.at h (fun _=>rfl) hj;subst h1;exact⟨h2,vi,h4 0 (by decide),h3⟩
theorem items_cell {d:Nat}{F:Nat->Prop}{w:World}{v:Value}{l:List Lx.It}(h:ItemsIn YP d F w v l){j:Nat}(hj:j<l.length):F (blkOf v)/\∃ va,w.cell? ⟨blkOf v,j*4+3,none⟩=some va/\AltsIn YP d F w va l[j].alts:=by
 unfold ItemsIn ItemsBy at h;obtain⟨b,cap,vi,h1,h2,h3,h4⟩:=Seq.at h (fun _=>rfl) hj;subst h1;exact⟨h2,vi,h4 3 (by decide),h3⟩
theorem adA_snd:∀ {d:Nat} {F:Nat->Prop} {w:World} {v:Value} {l:List Lx.Alt},AltsIn YP d F w v l->(adA d w v l).map Prod.snd=Lx.itsA d l
 | 0,_,_,_,_,_=>rfl
 | d+1,F,w,v,l,h=>by
  refine adAlts_snd l 0 fun k a ha=>?_
  obtain⟨hk,rfl⟩:=List.getElem?_eq_some_iff.1 ha;obtain⟨-,vi,hc,hi⟩:=alts_cell h hk;have e1:cv w ⟨blkOf v,(0+k)*2,none⟩=vi:=by unfold cv;rw[Nat.zero_add,hc];rfl
  rw[e1];refine adItems_snd _ 0 fun m x hx=>?_
  obtain⟨hm,rfl⟩:=List.getElem?_eq_some_iff.1 hx;obtain⟨-,va,hc2,hA⟩:=items_cell hi hm;have e2:cv w ⟨blkOf vi,(0+m)*4+3,none⟩=va:=by unfold cv;rw[Nat.zero_add,hc2];rfl
  rw[e2];exact adA_snd hA
theorem adItems_same {sub sub':Value->List Lx.Alt->List AI} {w w':World} {g:Nat}:∀ (its:List Lx.It) (i:Nat),(∀ k x,its[k]?=some x->sub' (cv w' ⟨g,(i+k)*4+3,none⟩) x.alts=sub (cv w ⟨g,(i+k)*4+3,none⟩) x.alts)->adItems sub' w' g i its=adItems sub w g i its
 | [],_,_=>rfl
 | x::xs,i,h=>by
  have h0:=h 0 x rfl;have h1:=adItems_same (sub:=sub) (sub':=sub') (w:=w) (w':=w') (g:=g) xs (i+1) fun k y hy=>by
   have:=h (k+1) y (by simpa using hy);rw[show i+(k+1)=i+1+k by omega]at this;exact this
  simp only[Nat.add_zero]at h0;rw[adItems,adItems,h0,h1]
theorem adAlts_same {sub sub':Value->List Lx.Alt->List AI} {w w':World} {g:Nat}:∀ (l:List Lx.Alt) (j:Nat),(∀ k a,l[k]?=some a->adItems sub' w' (blkOf (cv w' ⟨g,(j+k)*2,none⟩)) 0 a.1=adItems sub w (blkOf (cv w ⟨g,(j+k)*2,none⟩)) 0 a.1)->adAlts sub' w' g j l=adAlts sub w g j l
 | [],_,_=>rfl
 | a::l,j,h=>by
  have h0:=h 0 a rfl;have h1:=adAlts_same (sub:=sub) (sub':=sub') (w:=w) (w':=w') (g:=g) l (j+1) fun k y hy=>by
   have:=h (k+1) y (by simpa using hy);rw[show j+(k+1)=j+1+k by omega]at this;exact this
  simp only[Nat.add_zero]at h0;rw[adAlts,adAlts,h0,h1]
theorem cv_same {w w':World}{a:Addr}(h:w'.heap[a.block]?=w.heap[a.block]?):cv w' a=cv w a:=by unfold cv;rw[World.cell?_of_block h]
theorem adA_same:∀ {d:Nat} {F:Nat->Prop} {w w':World} {v:Value} {l:List Lx.Alt},AltsIn YP d F w v l->(∀ b,F b->w'.heap[b]?=w.heap[b]?)->adA d w' v l=adA d w v l
 | 0,_,_,_,_,_,_,_=>rfl
 | d+1,F,w,w',v,l,h,hs=>by
  refine adAlts_same l 0 fun k a ha=>?_
  obtain⟨hk,rfl⟩:=List.getElem?_eq_some_iff.1 ha;obtain⟨hF,vi,hc,hi⟩:=alts_cell h hk;have e1:cv w ⟨blkOf v,(0+k)*2,none⟩=vi:=by unfold cv;rw[Nat.zero_add,hc];rfl
  rw[cv_same (hs _ hF),e1];refine adItems_same _ 0 fun m x hx=>?_
  obtain⟨hm,rfl⟩:=List.getElem?_eq_some_iff.1 hx;obtain⟨hF2,va,hc2,hA⟩:=items_cell hi hm;have e2:cv w ⟨blkOf vi,(0+m)*4+3,none⟩=va:=by unfold cv;rw[Nat.zero_add,hc2];rfl
  rw[cv_same (hs _ hF2),e2];exact adA_same hA hs
theorem adItems_drop {sub:Value->List Lx.Alt->List AI}{w:World}{g:Nat}{its:List Lx.It}{m:Nat}(hm:m<its.length):adItems sub w g m (its.drop m)=((⟨g,m*4,none⟩:Addr),its[m])::(sub (cv w ⟨g,m*4+3,none⟩) its[m].alts++adItems sub w g (m+1) (its.drop (m+1))):=by
 rw[List.drop_eq_getElem_cons hm,adItems]
theorem adAlts_drop {sub:Value->List Lx.Alt->List AI}{w:World}{g:Nat}{l:List Lx.Alt}{j:Nat}(hj:j<l.length):adAlts sub w g j (l.drop j)=adItems sub w (blkOf (cv w ⟨g,j*2,none⟩)) 0 l[j].1++adAlts sub w g (j+1) (l.drop (j+1)):=by
 rw[List.drop_eq_getElem_cons hj,adAlts]
end
section
open Go.RowKit
open Tr
def CellsB (w:World)(b:Nat):Prop:=∃ (ca:Array Value) (ta:TypeId),w.heap[b]?=some (.cells ca ta (0,0))
theorem CellsB.move {w w':World}{b:Nat}(h:CellsB w b)(hb:w'.heap[b]?=w.heap[b]?):CellsB w' b:=by
 obtain⟨ca,ta,h⟩:=h;exact⟨ca,ta,hb.trans h⟩
def Apart (F:Nat->Prop)(w:World)(l:List AI):Prop:=(∀ p∈l,F p.1.block/\CellsB w p.1.block)/\(l.map Prod.fst).Nodup
def SepF (Fs:Nat->Nat->Prop):Prop:=∀ k k',k<k'->∀ b,Fs k b->Fs k' b->False
theorem Tr.SeqS.at {α:Type} {F:Nat->Prop} {w:World} {e s:Nat} {c:Value × α->List Value} {K:(Nat->Prop)->World->Value->α->Prop} {v:Value} {l:List α} (h:SeqS F w e s c K v l) (hc:∀ q,(c q).length=s) :
  ∃ Fs:Nat->Nat->Prop,SepF Fs/\(∀ k b,Fs k b->F b)/\(∀ g,v.ownBlock=some g->F g/\CellsB w g/\∀ k,¬ Fs k g) /\
   ∀ j (hj:j<l.length),∃ g cap vk,v=.slice (some ⟨g,0,none⟩) l.length cap/\K (Fs j) w vk l[j]/\∀ i,i<s->w.cell? ⟨g,j*s+i,none⟩=(c (vk,l[j]))[i]?:=by
 obtain⟨ps,Fs,h1,h2,h3,h4,h5,h6,h7⟩:=h;have hl:ps.length=l.length:=by rw[<-h1];simp
 have hFs:∀ k b,((Fs[k]?).getD fun _=>False) b->∃ hk:k<Fs.length,Fs[k] b:=by
  intro k b hb
  by_cases hk:k<Fs.length
  ·rw[List.getElem?_eq_getElem hk]at hb;exact⟨hk,hb⟩
  ·rw[List.getElem?_eq_none (by omega)]at hb;exact hb.elim
 refine⟨fun k=>(Fs[k]?).getD fun _=>False,?_,?_,?_,?_⟩
 ·intro k k' hkk b hb hb'
  obtain⟨hk,hb⟩:=hFs k b hb;obtain⟨hk',hb'⟩:=hFs k' b hb';exact List.pairwise_iff_getElem.1 h5 k k' hk hk' hkk b hb hb'
 ·intro k b hb
  obtain⟨hk,hb⟩:=hFs k b hb;exact h4 _ (List.getElem_mem hk) b hb
 ·intro g hg
  refine⟨(h3 g hg).1,?_,fun k hb=>?_⟩
  ·rcases h2.2 with h0 | ⟨g',cap,cur,hv,-,hh,-⟩
   ·rw[h0.1]at hg;simp[Value.ownBlock]at hg
   ·have:g'=g:=by rw[hv]at hg;simpa [Value.ownBlock]using hg
    subst this;exact⟨_,_,hh⟩
  ·obtain⟨hk,hb⟩:=hFs k g hb
   exact (h3 g hg).2 _ (List.getElem_mem hk) hb
 ·intro j hj
  obtain⟨g,cap,rfl,-,-⟩:=h2.form (by omega);have hq:ps[j]?=some ps[j]:=List.getElem?_eq_getElem (by omega);have hA:Fs[j]?=some Fs[j]:=List.getElem?_eq_getElem (by omega);have e5:(ps[j]).2=l[j]:=by
   have:(ps.map Prod.snd)[j]?=l[j]?:=by rw[h1]
   rw[List.getElem?_map,hq,List.getElem?_eq_getElem hj]at this;simpa using this
  refine⟨g,cap,(ps[j]).1,rfl,?_,?_⟩
  ·have:=h7 j _ _ hq hA
   rw[e5]at this;show K ((Fs[j]?).getD fun _=>False) w _ _;rw[hA];exact this
  ·intro i hi
   have hlt:j*s+i<l.length*s:=by
    have:(j+1)*s<=l.length*s:=Nat.mul_le_mul_right s hj;rw[Nat.succ_mul]at this;omega
   rw[h2.cellAt (j*s+i) hlt,flat_get c s hc ps j i _ hq hi,<-e5]
theorem adItems_apart {sub:Value->List Lx.Alt->List AI} {w:World} {g:Nat} {Fs:Nat->Nat->Prop} (hs:SepF Fs) (hg:∀ k,¬ Fs k g) (hc:CellsB w g):∀ (its:List Lx.It) (i:Nat),(∀ k x,its[k]?=some x->Apart (Fs (i+k)) w (sub (cv w ⟨g,(i+k)*4+3,none⟩) x.alts)) ->
  (∀ p∈adItems sub w g i its,CellsB w p.1.block/\((p.1.block=g/\∃ m,i<=m/\p.1.off=m*4)∨∃ k,i<=k/\Fs k p.1.block))/\((adItems sub w g i its).map Prod.fst).Nodup
 | [],i,_=>⟨fun p h=>(by cases h),List.nodup_nil⟩
 | x::xs,i,h=>by
  have h0:=h 0 x rfl;simp only[Nat.add_zero]at h0;have h1:=adItems_apart hs hg hc xs (i+1) fun k y hy=>by
   have:=h (k+1) y (by simpa using hy);rw[show i+(k+1)=i+1+k by omega]at this;exact this
  rw[adItems];refine⟨fun p hp=>?_,?_⟩
  ·rcases List.mem_cons.1 hp with rfl | hp
   ·exact⟨hc,.inl ⟨rfl,i,Nat.le_refl _,rfl⟩⟩
   ·rcases List.mem_append.1 hp with hp | hp
    ·exact⟨(h0.1 p hp).2,.inr ⟨i,Nat.le_refl _,(h0.1 p hp).1⟩⟩
    ·obtain⟨a,b⟩:=h1.1 p hp
     refine⟨a,?_⟩;rcases b with ⟨e,m,hm,ho⟩ | ⟨k,hk,hF⟩
     ·exact .inl ⟨e,m,by omega,ho⟩
     ·exact .inr ⟨k,by omega,hF⟩
  ·rw[List.map_cons,List.map_append,List.nodup_cons,List.nodup_append]
   refine⟨fun hm=>?_,h0.2,h1.2,fun a ha b hb e=>?_⟩
   ·rcases List.mem_append.1 hm with hm | hm
    ·obtain⟨p,hp,e⟩:=List.mem_map.1 hm
     have:=(h0.1 p hp).1;rw[e]at this;exact hg _ this
    ·obtain⟨p,hp,e⟩:=List.mem_map.1 hm
     rcases (h1.1 p hp).2 with ⟨-,m,hm,ho⟩ | ⟨k,hk,hF⟩
     ·rw[e]at ho
      have ho':i*4=m*4:=ho;omega
     ·rw[e]at hF;exact hg _ hF
   ·subst e
    obtain⟨p,hp,e1⟩:=List.mem_map.1 ha;obtain⟨q,hq,e2⟩:=List.mem_map.1 hb;have f1:=(h0.1 p hp).1;rw[e1]at f1;rcases (h1.1 q hq).2 with ⟨hb',-⟩ | ⟨k,hk,hF⟩
    ·rw[e2]at hb';rw[hb']at f1;exact hg _ f1
    ·rw[e2]at hF;exact hs i k (by omega) _ f1 hF
def ixFlat {α:Type} (f:Nat->α->List AI):Nat->List α->List AI
 | _,[]=>[]
 | j,a::l=>f j a++ixFlat f (j+1) l
theorem ixFlat_apart {α:Type} {f:Nat->α->List AI} {w:World} {Fs:Nat->Nat->Prop} (hs:SepF Fs):∀ (l:List α) (j:Nat),(∀ k a,l[k]?=some a->Apart (Fs (j+k)) w (f (j+k) a)) ->
  (∀ p∈ixFlat f j l,CellsB w p.1.block/\∃ k,j<=k/\Fs k p.1.block)/\((ixFlat f j l).map Prod.fst).Nodup
 | [],j,_=>⟨fun p h=>(by cases h),List.nodup_nil⟩
 | x::xs,j,h=>by
  have h0:=h 0 x rfl;simp only[Nat.add_zero]at h0;have h1:=ixFlat_apart (f:=f) (w:=w) hs xs (j+1) fun k y hy=>by
   have:=h (k+1) y (by simpa using hy);rw[show j+(k+1)=j+1+k by omega]at this;exact this
  rw[ixFlat];refine⟨fun p hp=>?_,?_⟩
  ·rcases List.mem_append.1 hp with hp | hp
   ·exact⟨(h0.1 p hp).2,j,Nat.le_refl _,(h0.1 p hp).1⟩
   ·obtain⟨a,k,hk,hF⟩:=h1.1 p hp
    exact⟨a,k,by omega,hF⟩
  ·rw[List.map_append,List.nodup_append]
   refine⟨h0.2,h1.2,fun a ha b hb e=>?_⟩;subst e;obtain⟨p,hp,e1⟩:=List.mem_map.1 ha;obtain⟨q,hq,e2⟩:=List.mem_map.1 hb;have f1:=(h0.1 p hp).1;rw[e1]at f1;obtain⟨-,k,hk,hF⟩:=h1.1 q hq;rw[e2]at hF;exact hs j k (by omega) _ f1 hF
theorem adAlts_ix {sub:Value->List Lx.Alt->List AI} {w:World} {g:Nat}:∀ (l:List Lx.Alt) (j:Nat),adAlts sub w g j l=ixFlat (fun j a=>adItems sub w (blkOf (cv w ⟨g,j*2,none⟩)) 0 a.1) j l
 | [],_=>rfl
 | a::l,j=>by rw[adAlts,ixFlat,adAlts_ix l (j+1)]
theorem adA_apart:∀ {d:Nat} {F:Nat->Prop} {w:World} {v:Value} {l:List Lx.Alt},AltsInS YP d F w v l->Apart F w (adA d w v l)
 | 0,_,_,_,_,_=>⟨fun p h=>(by cases h),List.nodup_nil⟩
 | d+1,F,w,v,l,h=>by
  obtain⟨Fs,h1,h2,h3,h4⟩:=SeqS.at h (fun _=>rfl);have e0:adA (d+1) w v l=ixFlat (fun j a=>adItems (adA d w) w (blkOf (cv w ⟨blkOf v,j*2,none⟩)) 0 a.1) 0 l:=adAlts_ix l 0;have hx:=ixFlat_apart (f:=fun j (a:Lx.Alt)=>adItems (adA d w) w (blkOf (cv w ⟨blkOf v,j*2,none⟩)) 0 a.1) (w:=w) h1 l 0 fun k a ha=>by
   obtain⟨hk,rfl⟩:=List.getElem?_eq_some_iff.1 ha;obtain⟨g,cap,vi,hv,hi,hcell⟩:=h4 k hk;subst hv;have hc0:w.cell? ⟨g,k*2,none⟩=some vi:=hcell 0 (by decide);have e1:cv w ⟨g,(0+k)*2,none⟩=vi:=by unfold cv;rw[Nat.zero_add,hc0];rfl
   rw[show blkOf (.slice (some ⟨g,0,none⟩) l.length cap)=g from rfl,e1,Nat.zero_add];obtain⟨Gs,k1,k2,k3,k4⟩:=SeqS.at hi (fun _=>rfl)
   by_cases hlen:0<l[k].1.length
   ·obtain⟨n,ncap,va,hv2,-,-⟩:=k4 0 hlen
    obtain⟨kF,kc,kn⟩:=k3 n (by rw[hv2];rfl);have hy:=adItems_apart (sub:=adA d w) (w:=w) (g:=n) k1 kn kc l[k].1 0 fun m x hx=>by
     obtain⟨hm,rfl⟩:=List.getElem?_eq_some_iff.1 hx;obtain⟨n',ncap',va',hv3,hA,hcell2⟩:=k4 m hm;have:n'=n:=by rw[hv2]at hv3;cases hv3;rfl
     subst this;have hc3:w.cell? ⟨n',m*4+3,none⟩=some va':=hcell2 3 (by decide);have e2:cv w ⟨n',(0+m)*4+3,none⟩=va':=by unfold cv;rw[Nat.zero_add,hc3];rfl
     rw[e2,Nat.zero_add];exact adA_apart hA
    rw[hv2,show blkOf (.slice (some ⟨n,0,none⟩) l[k].1.length ncap)=n from rfl];refine⟨fun p hp=>?_,hy.2⟩;obtain⟨a,b⟩:=hy.1 p hp;refine⟨?_,a⟩;rcases b with ⟨e,-⟩ | ⟨m,-,hF⟩
    ·rw[e];exact kF
    ·exact k2 m _ hF
   ·have:l[k].1=[]:=List.eq_nil_of_length_eq_zero (by omega)
    rw[this];exact⟨fun p h=>(by cases h),List.nodup_nil⟩
  rw[e0];exact⟨fun p hp=>by obtain⟨a,k,-,hF⟩:=hx.1 p hp;exact⟨h2 k _ hF,a⟩,hx.2⟩
def adRules (w:World)(g:Nat):Nat->List Lx.Rl->List AI:=ixFlat fun j r=>adA 9 w (cv w ⟨g,j*2+1,none⟩) r.alts
theorem adRules_apart {F:Nat->Prop}{w:World}{v:Value}{rs:List Lx.Rl}(h:Tr.SeqS F w 179 2 cR KR v rs):Apart F w (adRules w (blkOf v) 0 rs):=by
 obtain⟨Fs,h1,h2,h3,h4⟩:=SeqS.at h (fun _=>rfl);have hx:=ixFlat_apart (f:=fun j (r:Lx.Rl)=>adA 9 w (cv w ⟨blkOf v,j*2+1,none⟩) r.alts) (w:=w) h1 rs 0 fun k a ha=>by
  obtain⟨hk,rfl⟩:=List.getElem?_eq_some_iff.1 ha;obtain⟨g,cap,va,hv,hA,hcell⟩:=h4 k hk;subst hv;have hc0:w.cell? ⟨g,k*2+1,none⟩=some va:=hcell 1 (by decide);have e1:cv w ⟨g,(0+k)*2+1,none⟩=va:=by unfold cv;rw[Nat.zero_add,hc0];rfl
  rw[show blkOf (.slice (some ⟨g,0,none⟩) rs.length cap)=g from rfl,e1,Nat.zero_add];exact adA_apart hA
 exact⟨fun p hp=>by obtain⟨a,k,-,hF⟩:=hx.1 p hp;exact⟨h2 k _ hF,a⟩,hx.2⟩
end
section
open Go.RowKit
open Tr
theorem run_equal_ptr {P:Program} {w:World} {tp te:TypeId} {j:TypeInfo} {a b:Addr} (hp:P.underlying tp=some (.pointer te)) (hte:P.info? te=some j) (hsz:j.size≠0) (ha:CellsB w a.block) (hb:CellsB w b.block) :
  (Op.equal tp (.pointer (some a)) (.pointer (some b))).run P w=.ok (decide (a=b)) w:=by
 obtain⟨ca,ta,ha⟩:=ha;obtain⟨cb,tb,hb⟩:=hb
 by_cases hab:a=b
 ·subst hab
  have h:∀ d:Nat,(Op.equalIn (d+1) tp (.pointer (some a)) (.pointer (some a))).run P w=.ok true w:=fun d=>by
   simp[Op.equalIn,run_underlying hp,sizeOf,typeInfo,hte,run_sameAddr_same]
  simp[Op.equal,Op.maxDepth,h 9999]
 ·have h:∀ d:Nat,(Op.equalIn (d+1) tp (.pointer (some a)) (.pointer (some b))).run P w=.ok false w:=fun d=>by
   simp[Op.equalIn,run_underlying hp,sizeOf,typeInfo,hte,hsz,run_sameAddr_other w hab ha hb]
  simp[Op.equal,Op.maxDepth,h 9999,hab]
def ptrV (a:Addr):Value:=.pointer (some a)
theorem find_ptr {P:Program} {w:World} {tp te:TypeId} {j:TypeInfo} {a:Addr} (hp:P.underlying tp=some (.pointer te)) (hte:P.info? te=some j) (hsz:j.size≠0) (ha:CellsB w a.block):∀ (l:List MapEntry) (i:Nat),(∀ x∈l,∃ c,x.key=ptrV c/\CellsB w c.block) ->
  ((Instr.findAsking tp (ptrV a) l i).run P w=.ok none w/\∀ (x:MapEntry),x∈l->x.key≠ptrV a)∨∃ (k:Nat) (e:MapEntry),(Instr.findAsking tp (ptrV a) l i).run P w=.ok (some (i+k,e.val)) w/\l[k]?=some e/\e.key=ptrV a
 | [],i,_=>.inl ⟨by simp[Instr.findAsking],fun x h=>(by cases h)⟩
 | x::l,i,h=>by
  obtain⟨c,hc,hcb⟩:=h x List.mem_cons_self;have he:=run_equal_ptr (w:=w) hp hte hsz ha hcb
  by_cases hac:a=c
  ·subst hac
   refine .inr ⟨0,x,?_,rfl,hc⟩;have he':(Op.equal tp (ptrV a) x.key).run P w=.ok true w:=by rw[hc];simpa [ptrV]using he
   simp[Instr.findAsking,he',Result.andThen]
  ·have he':(Op.equal tp (ptrV a) x.key).run P w=.ok false w:=by rw[hc];simpa [ptrV,hac]using he
   rcases find_ptr hp hte hsz ha l (i+1) (fun y hy=>h y (List.mem_cons_of_mem _ hy)) with ⟨h1,h2⟩ | ⟨k,e,h1,h2,h3⟩
   ·refine .inl ⟨?_,fun y hy=>?_⟩
    ·simp[Instr.findAsking,he',h1,Result.andThen]
    ·rcases List.mem_cons.1 hy with rfl | hy
     ·rw[hc];intro e;unfold ptrV at e;cases e;exact hac rfl
     ·exact h2 y hy
   ·refine .inr ⟨k+1,e,?_,by simpa using h2,h3⟩
    rw[show i+(k+1)=i+1+k by omega];simp[Instr.findAsking,he',h1,Result.andThen]
theorem ptr_key {P:Program} {tp te:TypeId} {j:TypeInfo} (hp:P.underlying tp=some (.pointer te)) (hte:P.info? te=some j) (hsz:j.size≠0):KeyT P tp ptrV (fun w a=>CellsB w a.block) where
 inj a b h:=by unfold ptrV at h;cases h;rfl
 check em w a:=by
  have h:∀ n:Nat,(Instr.checkKey em (n+1) tp (ptrV a)).run P w=.ok () w:=fun n=>by
   simp[Instr.checkKey,run_underlying hp,ptrV]
  exact h 9999
 find w a l ha hl:=by
  cases l with
  | nil=>exact .inl ⟨by simp[Instr.findKey,Instr.findNow,run_underlying hp],fun x h=>(by cases h)⟩
  | cons x l =>
   have e0:Instr.findNow (.pointer te) (ptrV a) (x::l) 0=none:=by
    unfold Instr.findNow ptrV Instr.sameNow;rfl
   have h1:=find_ptr hp hte hsz ha (x::l) 0 hl;have e1:(Instr.findKey tp (ptrV a) (x::l)).run P w=(Instr.findAsking tp (ptrV a) (x::l) 0).run P w:=by
    simp[Instr.findKey,run_underlying hp,e0]
   rw[e1];rcases h1 with h1 | ⟨k,e,h1,h2,h3⟩
   ·exact .inl h1
   ·rw[Nat.zero_add]at h1
    exact .inr ⟨k,e,h1,h2,h3⟩
 stays w a:=by simp[Instr.keyThatStays,Instr.sameBits,ptrV]
theorem Tryz.under185:Tryz.prog.underlying 185=some (.pointer 187):=by kernel_rfl
theorem Tryz.map123:Tryz.prog.underlying 123=some (.map 185 3):=by kernel_rfl
theorem Tryz.info187z:(Tryz.prog.info? 187).map (fun i=>i.size)=some 4:=by kernel_rfl
theorem Tryz.ptrK:KeyT Tryz.prog 185 ptrV (fun w a=>CellsB w a.block):=by
 have h:=Tryz.info187z;cases hi:Tryz.prog.info? 187 with
 | none=>rw[hi]at h;cases h
 | some j =>
  rw[hi]at h;have hj:j.size=4:=by simpa using h
  exact ptr_key Tryz.under185 hi (by omega)
def PMap (G:Nat->Prop)(w:World)(B:Nat)(f:Addr->Int):Prop:=GMap ptrV (fun a=>G a.block) w B f
theorem PMap.look {G:Nat->Prop}{w:World}{B:Nat}{f:Addr->Int}(h:PMap G w B f)(hG:∀ b,G b->CellsB w b){a:Addr}(ha:G a.block):(Instr.lookup 123 (.map (some B)) (.pointer (some a)) false).run Tryz.prog w=.ok (.int .i64 (f a)) w:=GMap.look Tryz.ptrK Tryz.map123 Tryz.zero3 (fun _ ha=>hG _ ha) h ha
theorem PMap.put {G:Nat->Prop}{w:World}{B:Nat}{f:Addr->Int}(h:PMap G w B f)(hG:∀ b,G b->CellsB w b){a:Addr}(ha:G a.block)(v:Int):∃ w',(Instr.mapUpdate 123 (.map (some B)) (.pointer (some a)) (.int .i64 v)).run Tryz.prog w=.ok () w'/\PMap G w' B (fun c=>if c=a then v else f c)/\w.grownBy w' (some B)/\w'.heap.size=w.heap.size:=GMap.put Tryz.ptrK Tryz.map123 (fun _ ha=>hG _ ha) h ha v
end
end Go.Proofs.YtlcppnabbicmoaaGreatDoor

import Derived.Test.YtjaalkocdbkdeaaGreatDoorSA23
import Derived.Deep.RegionWith
import Derived.Deep.CutRange
set_option maxHeartbeats 8000000
set_option maxRecDepth 1000000
namespace Go.Proofs.YtjaalkocdbkdeaaGreatDoor
open Lx Go.Proofs.Tryz
open Go.RowKit
open Tr
namespace Lx
def GD(nx:ByteArray):Nat:=if nx=kD then 1 else 2
def Af(aM:ByteArray)(il:Bool):Nat:=if il=true then 0 else if aM=iX then 4 else 3
theorem WF.at:∀{l:List Tk},WF l->∀{j:Nat}(h:j<l.length),l[j].1≠aL->j+1<l.length
 | [],h,_,_,_=>h.elim
 | [t],h,0,_,hn=>absurd h hn
 | [t],_,j+1,h,_=>by simp at h
 |t::u::r,_,0,_,_=>by simp
 |t::u::r,h,j+1,hj,hn=>by
  have:=WF.at (l:=u::r) h.2 (j:=j) (by simpa using hj) (by simpa using hn);simp at this|-;omega
end Lx
theorem wrap64{n:Nat}(h:n<=9223372036854775807):IntKind.i64.wrap (n:Int)=(n:Int):=by
 simp[IntKind.wrap,IntKind.bits,IntKind.signed];omega
theorem aed(nx:ByteArray)(w:World):Calls prog 37 #[.string nx] w fun e w'=>e=.returned (.int .i64 (GD nx:Int))/\w'=w:=by
 go_enter func37,ntmps37
 by_cases h:nx=kD
 ·have hr:GD nx=1:=if_pos h
  rw[hr];have h':nx=⟨#[61]⟩:=h;clear h hr;go_wp2_with fail;go_ret;exact⟨rfl,rfl⟩
 ·have hr:GD nx=2:=if_neg h
  rw[hr];have h':(nx.toList == [61])=false:=lC h;clear h hr;go_wp2_with fail;go_ret;exact⟨rfl,rfl⟩
theorem adO(aM:ByteArray)(il:Bool)(w:World):Calls prog 39 #[.string aM,.bool il] w fun e w'=>e=.returned (.int .i64 (Af aM il:Int))/\w'=w:=by
 go_enter func39,ntmps39;cases il with
 |true=>
  have hr:Af aM true=0:=rfl;rw[hr];clear hr;go_wp2_with fail;go_ret;exact⟨rfl,rfl⟩
 |false=>
  by_cases h:aM=iX
  ·have hr:Af aM false=4:=by unfold Af;rw[if_neg (by decide),if_pos h]
   rw[hr];have h':aM=⟨#[37,112,114,101,99]⟩:=h;clear h hr;go_wp2_with fail;go_ret;exact⟨rfl,rfl⟩
  ·have hr:Af aM false=3:=by unfold Af;rw[if_neg (by decide),if_neg h]
   rw[hr];have h':(aM.toList == [37,112,114,101,99])=false:=lC h;clear h hr;go_wp2_with fail;go_ret;exact⟨rfl,rfl⟩
theorem Tryz.aiv:(prog.info? 119).map (fun i=>(i.zero,i.size,i.bytes))=some (some (.agg #[.int .i64 0,.string ByteArray.empty,.int .i64 0]),3,32):=by kernel_rfl
theorem Tryz.Ul:prog.underlying 78=some (.slice 119):=by kernel_rfl
def YW(s:ByteArray)(w:World)(e:Ending)(w':World):Prop:=∃v,e=.returned v/\w'.ownsRow w.heap.size 119 3 v (Lx.wl aL true (Lx.lex s)).length ((Lx.wl aL true (Lx.lex s)).flatMap tK)/\Below w.heap.size w w'
theorem aeN(s:ByteArray)(w:World)(hs:s.size<=2000):Calls prog 21 #[.string s] w (YW s w):=by
 obtain⟨i0,hi,hz0,hz1,hz2⟩:=info_parts Tryz.aiv;have hwf:=Lx.lex_wf s;have hsz:∀t∈Lx.lex s,t.1.size<=2000:=fun t ht=>Nat.le_trans (YJ s t ht) hs
 have hln:(Lx.lex s).length<=2001:=by have:=F3 s (aV s 0 false);unfold Lx.lex;omega
 have q0:=XO s w hs;unfold YW;generalize Lx.lex s=L at *;go_enter func21,ntmps21;go_wp2_with fail;refine q0.mono ?_;rintro e w1⟨v,rfl,hL,hb1⟩;obtain⟨va,vc,rfl,-⟩:=aF hL;clear q0;have hs1:=hb1.size;have H0:Hid (Lx.wl aL true L=[]++Lx.wl aL true (L.drop 0)):=rfl;go_wp2_with fail
 go_loopg [3,5,6,13] L.length (fun k v vb vl i wr=>∃(j:Nat)(ws:List Lx.Wd)(aM:ByteArray)(il:Bool),j+k=L.length/\ws.length<=j/\vb=.string aM/\vl=.bool il/\i=.int .i64 j/\wr.ownsRow w1.heap.size 119 3 v ws.length (ws.flatMap tK)/\Below w1.heap.size w1 wr/\Hid (Lx.wl aL true L=ws++Lx.wl aM il (L.drop j)))
 case atStart=>exact⟨0,[],aL,true,by omega,by simp,rfl,rfl,rfl,World.ownsRow_nil _ _ _ _,Below.refl _ _,H0⟩
 case round=>
  clear H0;obtain⟨j,ws,aM,il,hk,hwl,rfl,rfl,rfl,hv,hbr,HD⟩:=hrel;have hsr:=hbr.size
  by_cases hlt:j<L.length
  ·have h1:=own_below hL hbr
   obtain⟨g,cap,hv2,-,hg⟩:=h1.form (by omega);cases hv2;have hg0:g<w1.heap.size:=(hL.lt g rfl).2;have ht:L[j]?=some L[j]:=List.getElem?_eq_getElem hlt;obtain⟨e1,e2⟩:=NG L j _ ht;have c1:wr.cell? ⟨g,j*2,none⟩=some (.string L[j].1):=(h1.cellAt (j*2) (by omega)).trans e1;have c2:wr.cell? ⟨g,j*2+1,none⟩=some (.int .i64 (L[j].2:Int)):=(h1.cellAt (j*2+1) (by omega)).trans e2;have hts:=hsz L[j] (List.getElem_mem hlt);have hnx:Lx.isName L[j].1=true->j+1<L.length/\(pJ L)[(j+1)*2]?=some (.string (Lx.hd (L.drop (j+1)))):=fun hn=>by
    have hl2:=Lx.WF.at hwf hlt (zS (by decide) hn);have:=(NG L (j+1) _ (List.getElem?_eq_getElem hl2)).1;rw[this,List.drop_eq_getElem_cons hl2];exact⟨hl2,rfl⟩
   have hdr:L.drop j=L[j]::L.drop (j+1):=List.drop_eq_getElem_cons hlt;have hd:=HD.out;rw[hdr,Lx.wl]at hd;generalize L[j]=t at c1 c2 hts hnx hd;clear e1 e2 ht hdr HD;obtain⟨tt,tp⟩:=t;simp only at c1 c2 hts hnx hd;generalize Lx.hd (L.drop (j+1))=nx at hnx hd;obtain⟨W1,hW1⟩:∃W1,W1=wr.alloc (.cells #[.string tt,.int .i64 (tp:Int)] 115):=⟨_,rfl⟩;have hbw:Below wr.heap.size wr W1:=by rw[hW1];exact(Below.refl _ _).alloc (zL0) _
   have IW:W1.heap.size=wr.heap.size+1:=by rw[hW1];simp
   have kS:aj W1 wr.heap.size #[.string tt,.int .i64 (tp:Int)] 115:=by rw[hW1];exact aj.new wr _ 115
   have q1:=BD tt W1 hts;have q2:=JI tt W1 hts;have s0:W1.cell? ⟨wr.heap.size,0,none⟩=some (.string tt):=kS.cell 0;have s1:W1.cell? ⟨wr.heap.size,1,none⟩=some (.int .i64 (tp:Int)):=kS.cell 1;have hbW:Below w1.heap.size w1 W1:=hbr.trans (hbw.mono hsr);have RQ:=own_below hv hbw;obtain⟨xa,xc,rfl,-⟩:=aF hv;go_wp2_with fail;rw[<-hW1];clear c1 c2 hW1;refine q1.mono ?_;rintro e w2⟨rfl,hw2⟩;obtain rfl:=hw2.symm;cases hn:Lx.isName tt with
   |true=>
     obtain⟨hlt2,hce⟩:=hnx hn;have HX:Hid (Lx.wl aL true L=(ws++[(GD nx,tt,tp)])++Lx.wl tt false (L.drop (j+1))):=by
      rw[show wV il (tt,tp)=false from if_pos hn]at hd;show _=_;rw[hd,List.append_assoc];unfold qF;rw[if_pos (by exact hn)];rfl
     have hgW:W1.heap[g]?=wr.heap[g]?:=hbw.block g hg;have cn:W1.cell? ⟨g,(j+1)*2,none⟩=some (.string nx):=(World.cell?_of_block (w:=wr) hgW).trans ((h1.cellAt ((j+1)*2) (by omega)).trans hce);have q3:=aed nx W1.drew;obtain⟨j1,hj1,hj2,HJ⟩:∃j1:Nat,IntKind.i64.wrap ((j:Int)+1)=(j1:Int)/\j1<L.length/\Hid (j1=j+1):=⟨j+1,by rw[show ((j:Int)+1)=((j+1:Nat):Int) from by omega];exact wrap64 (by omega),hlt2,rfl⟩;rw[<-HJ.out]at cn HX;clear hlt2;generalize GD nx=ro at q3 HX;clear hce;have Bb:=aC (w':=(W1.alloc (.cells #[.int .i64 (ro:Int),.string tt,.int .i64 (tp:Int)] 119)).drew) (RQ.alloc (.cells #[.int .i64 (ro:Int),.string tt,.int .i64 (tp:Int)] 119)) fun _ _=>rfl
     have RU:aj (W1.alloc (.cells #[.int .i64 (ro:Int),.string tt,.int .i64 (tp:Int)] 119)).drew wr.heap.size #[.string tt,.int .i64 (tp:Int)] 115:=(kS.alloc _).drew;have hbD:Below w1.heap.size w1 (W1.alloc (.cells #[.int .i64 (ro:Int),.string tt,.int .i64 (tp:Int)] 119)).drew:=(hbW.alloc hbW.size _).drew;have hno:(Value.slice xa ws.length xc).ownBlock≠some wr.heap.size:=fun e=>by have:=(hv.lt _ e).2;omega
     have hge:∀k,(Value.slice xa ws.length xc).ownBlock=some k->w1.heap.size<=k:=fun k hk=>(hv.lt _ hk).1
     clear hd hnx q1 q2;go_wp2_with fail
     go_region_law (first | (refine jK rfl 37 #[.string nx] (by go_simp) q3 ?_;rintro e w3⟨rfl,rfl⟩;refine⟨_,rfl,?_⟩) | (refine step_append_lies _ rfl (.tmp 22) (.tmp 35) 78 rfl w1.heap.size 119 i0 _ 3 32 Tryz.Ul hi hz0 hz1 hz2 rfl (by decide) (.slice xa ws.length xc) ws.length (ws.flatMap tK) (by simp[Act.eval]) Bb ⟨W1.heap.size,0,none⟩ 1 1 [.int .i64 (ro:Int),.string tt,.int .i64 (tp:Int)] (by simp[Act.eval]) rfl (bC (aj.new W1 _ 119).drew) (by simp[Value.oneCell']) (by decide) (by unfold maxLen;omega) (by omega) (by simp;omega) _ rfl ?_;intro g2 cap2 w3 hown3 hgrow3 iI hlt3;have qQ:=RU.grown hgrow3 (fun e=>hno e.symm);have MI:w3.cell? ⟨wr.heap.size,0,none⟩=some (.string tt):=qQ.cell 0))
     all_goals
      have hb3:Below w1.heap.size w1 w3:=hbD.grown hgrow3 hbD.size (fun k hk=>hge k hk);go_wp2_with fail;go_roundg (L.length-j1)
      case measure=>have:=HJ.out;omega
      case rel=>exact⟨j1,ws++[(ro,tt,tp)],tt,false,by have:=HJ.out;omega,by have:=HJ.out;simp;omega,rfl,rfl,by first | rfl | (rw[HJ.out];go_num),by simpa [tK]using hown3,hb3,HX⟩
   |false=>
    go_wp2_with fail;refine q2.mono ?_;rintro e w2⟨rfl,hw2⟩;obtain rfl:=hw2.symm;cases htk:Lx.isToken tt with
    |true=>
     have HX:Hid (Lx.wl aL true L=(ws++[(Af aM il,tt,tp)])++Lx.wl tt il (L.drop (j+1))):=by
      rw[BO hn]at hd;show _=_;rw[hd,List.append_assoc];unfold qF;rw[if_neg (by simp[hn]),if_pos htk];rfl
     have q3:=adO aM il W1.drew;generalize Af aM il=ro at q3 HX;have Bb:=aC (w':=(W1.alloc (.cells #[.int .i64 (ro:Int),.string tt,.int .i64 (tp:Int)] 119)).drew) (RQ.alloc (.cells #[.int .i64 (ro:Int),.string tt,.int .i64 (tp:Int)] 119)) fun _ _=>rfl
     have RU:aj (W1.alloc (.cells #[.int .i64 (ro:Int),.string tt,.int .i64 (tp:Int)] 119)).drew wr.heap.size #[.string tt,.int .i64 (tp:Int)] 115:=(kS.alloc _).drew;have hbD:Below w1.heap.size w1 (W1.alloc (.cells #[.int .i64 (ro:Int),.string tt,.int .i64 (tp:Int)] 119)).drew:=(hbW.alloc hbW.size _).drew;have hno:(Value.slice xa ws.length xc).ownBlock≠some wr.heap.size:=fun e=>by have:=(hv.lt _ e).2;omega
     have hge:∀k,(Value.slice xa ws.length xc).ownBlock=some k->w1.heap.size<=k:=fun k hk=>(hv.lt _ hk).1
     clear hd hnx q1 q2;go_wp2_with fail
     go_region_law (first | (refine jK rfl 39 #[.string aM,.bool il] (by go_simp) q3 ?_;rintro e w3⟨rfl,rfl⟩;refine⟨_,rfl,?_⟩) | (refine step_append_lies _ rfl (.tmp 41) (.tmp 50) 78 rfl w1.heap.size 119 i0 _ 3 32 Tryz.Ul hi hz0 hz1 hz2 rfl (by decide) (.slice xa ws.length xc) ws.length (ws.flatMap tK) (by simp[Act.eval]) Bb ⟨W1.heap.size,0,none⟩ 1 1 [.int .i64 (ro:Int),.string tt,.int .i64 (tp:Int)] (by simp[Act.eval]) rfl (bC (aj.new W1 _ 119).drew) (by simp[Value.oneCell']) (by decide) (by unfold maxLen;omega) (by omega) (by simp;omega) _ rfl ?_;intro g2 cap2 w3 hown3 hgrow3 iI hlt3;have qQ:=RU.grown hgrow3 (fun e=>hno e.symm);have MI:w3.cell? ⟨wr.heap.size,0,none⟩=some (.string tt):=qQ.cell 0))
     all_goals
      have hb3:Below w1.heap.size w1 w3:=hbD.grown hgrow3 hbD.size (fun k hk=>hge k hk);go_wp2_with fail;go_roundg (L.length - (j+1))
      case measure=>omega
      case rel=>exact⟨j+1,ws++[(ro,tt,tp)],tt,il,by omega,by simp;omega,rfl,rfl,by go_num,by simpa [tK]using hown3,hb3,HX⟩
    |false=>
     have HD2:Hid (Lx.wl aL true L=ws++Lx.wl tt il (L.drop (j+1))):=by
      rw[PI hn htk,BO hn,List.nil_append]at hd;exact hd
     clear hd hnx q1 q2;go_wp2_with fail;go_roundg (L.length - (j+1))
     case measure=>omega
     case rel=>exact⟨j+1,ws,tt,il,by omega,by omega,rfl,rfl,by go_num,RQ,hbW,HD2⟩
  ·have:j=L.length:=by omega
   subst this;have hd:=HD.out;rw[List.drop_length,Lx.wl,List.append_nil]at hd;have HD2:Hid _:=hd;clear hd;go_wp2_with fail;go_ret;exact⟨_,rfl,by rw[HD2.out];exact dm hv hs1,hb1.trans (hbr.mono hs1)⟩
end Go.Proofs.YtjaalkocdbkdeaaGreatDoor

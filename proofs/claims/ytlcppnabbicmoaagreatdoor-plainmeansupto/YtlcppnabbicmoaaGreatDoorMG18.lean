import Derived.Test.YtlcppnabbicmoaaGreatDoorMG17
import Derived.Laws.AppendOwnNone
import Derived.Laws.BytesString
set_option maxHeartbeats 8000000
set_option maxRecDepth 1000000
namespace Go.Proofs.YtlcppnabbicmoaaGreatDoor
open Lx Go.Proofs.Tryz
open Go.RowKit Tr
section
open Go.RowKit
open Lx (Tk)
open Tr
theorem Tryz.Zi:(prog.info? 148).map (fun i=>(i.zero,i.size,i.bytes))=some (some (.agg #[.int .i64 0,.string ⟨#[]⟩,.int .u8 0,.slice none 0 0,.int .i64 0]),5,64):=by kernel_rfl
theorem Tryz.ajc:(prog.info? 145).map (fun i=>(i.zero,i.size,i.bytes))=some (some (.agg #[.slice none 0 0,.string ⟨#[]⟩,.int .i64 0]),3,48):=by kernel_rfl
abbrev KAr (d:Nat):(Nat->Prop)->World->Value->Lx.It->Prop:=fun F w va it=>ay YR d F w va it.alts
theorem ajd (t:Bool) (s:ByteArray) (q:Nat) (w:World) (nest:Int) (n a:Nat) (av:Value) (sg:List ByteArray) (h:RX s q w nest n a av sg) :
  Calls prog 141 #[.pointer (some ⟨q,0,none⟩),.bool t] w fun e w'=>e=.returned (.agg #[.slice none 0 0,.string ⟨#[]⟩,.int .i64 0])/\Mv q av w w'/\RX s q w' nest n a av sg:=by
 have hp:=h.lt;obtain⟨i,W,kq⟩:=h.blk;have c4:w.cell? ⟨q,4,none⟩=some (.int .i64 (n:Int)):=kq.cell 4;have h0:((n:Int) == 0)=false:=beq_eq_false_iff_ne.2 (by have:=h.pos;omega);have h2:=(h.alloc (.cells #[.slice none 0 0,.string ⟨#[]⟩,.int .i64 0] 145)).alloc (.cells #[.slice none 0 0,.string ⟨#[]⟩,.int .i64 0] 145);have M0:=((Mv.refl q av w).alloc (.cells #[.slice none 0 0,.string ⟨#[]⟩,.int .i64 0] 145)).alloc (.cells #[.slice none 0 0,.string ⟨#[]⟩,.int .i64 0] 145);have fB:av.ownBlock≠some w.heap.size:=fun e=>by have:=h.eD _ e;omega
 cases t
 all_goals
  go_enter func141,ntmps141;go_wp2_with fail
  go_loop [] True 0
  case atStart=>trivial
  case round =>
   go_wp2_with (first
    | (go_at_call 150;refine (yO h2 _).mono ?_;rintro e w' ⟨rfl,hw⟩;obtain rfl:=hw.symm))
   refine bodyPost_ret (v:=.agg #[.slice none 0 0,.string ⟨#[]⟩,.int .i64 0]) (by simp[results,results141,go_sem]) rfl ?_;exact⟨rfl,M0,h2⟩
theorem YD {d:Nat}(HI:XJ d):YC d:=by
 intro s q w ts nest av sg sO h;obtain⟨i0,hi,hz0,hz1,hz2⟩:=info_parts Tryz.Zi;have hp:=h.lt;have HO:Hid (nest=8 - (d:Int)):=sO;have hcnt:=h.cnt;clear sO;have h2:=(h.alloc (.cells #[.slice none 0 0,.string ⟨#[]⟩,.int .i64 0] 145)).alloc (.cells #[.slice none 0 0,.string ⟨#[]⟩,.int .i64 0] 145);have kB:=(aj.new w #[.slice none 0 0,.string ⟨#[]⟩,.int .i64 0] 145).alloc (.cells #[.slice none 0 0,.string ⟨#[]⟩,.int .i64 0] 145);have kC:=aj.new (w.alloc (.cells #[.slice none 0 0,.string ⟨#[]⟩,.int .i64 0] 145)) #[.slice none 0 0,.string ⟨#[]⟩,.int .i64 0] 145;rw[show (w.alloc (.cells #[.slice none 0 0,.string ⟨#[]⟩,.int .i64 0] 145)).heap.size=w.heap.size+1 by simp]at kC;have M0:=((Mv.refl q av w).alloc (.cells #[.slice none 0 0,.string ⟨#[]⟩,.int .i64 0] 145)).alloc (.cells #[.slice none 0 0,.string ⟨#[]⟩,.int .i64 0] 145);have qQ:av.ownBlock≠some w.heap.size:=h.fresh (lr0);have f0C:av.ownBlock≠some (w.heap.size+1):=h.fresh (by omega);obtain⟨top,htop⟩:∃ top,top=(d == 8):=⟨_,rfl⟩;rw[<-htop];have amV:Hid _:=htop;clear htop;go_enter func141,ntmps141;go_wp2_with fail
 go_loopg [] (ts.length+1) (fun k wr=>(∃ (aB:List Tk) (acc:List Lx.It) (v bI:Value) (gI:List ByteArray) (f:Nat),aB.length+1=k/\aB.length<=f/\acc.length+aB.length<=ts.length/\RR s q wr aB nest bI gI/\aj wr (w.heap.size+1) #[v,.string ⟨#[]⟩,.int .i64 0] 145/\aj wr w.heap.size #[.slice none 0 0,.string ⟨#[]⟩,.int .i64 0] 145/\bI.ownBlock≠some w.heap.size/\bI.ownBlock≠some (w.heap.size+1) /\
   jH (w.heap.size+2) bI wr 148 5 YR.cI (KAr d) v acc/\Mv q av w wr/\Nx av w bI/\Hid (dU (bE d) f aB acc=dU (bE d) ts.length ts [])) \/
  (∃ (n a:Nat) (xa:Option Addr) (xk xc:Nat) (bI:Value) (gI:List ByteArray),k=0/\RX s q wr nest n a bI gI/\aj wr (w.heap.size+1) #[.slice xa xk xc,.string ⟨#[]⟩,.int .i64 0] 145/\aj wr w.heap.size #[.slice none 0 0,.string ⟨#[]⟩,.int .i64 0] 145/\bI.ownBlock≠some w.heap.size /\
   Mv q av w wr/\Nx av w bI/\Hid (dJ (bE d) top ts=.error (n,a))))
 case atStart=>exact .inl ⟨ts,[],_,av,sg,ts.length,rfl,lr0,by simp,h2,kC,kB,qQ,f0C,jH.nil _ _ _ _ _ _ _,M0,Nx.refl _ _,rfl⟩
 case round =>
  clear h2 kB kC M0;rcases hrel with ⟨aB,acc,v,bI,gI,f,hk,hf,hacc,hr,jv,jw,fB,fC,hgrow,M,X,hpi⟩ | ⟨n,a,xa,xk,xc,bI,gI,hk,hx,aP,aK,fB,M,X,HE⟩
  ·have hne:=hr.wf.ne
   obtain⟨f',rfl⟩:∃ f',f=f'+1:=⟨f-1,by omega⟩;obtain⟨ps,F,hrg⟩:=hgrow;have hown:=hrg.1.2.1;obtain⟨va,vk,vc,rfl⟩:=sG hown;have qy:=hr.SL;have c2:wr.cell? ⟨q,2,none⟩=some (.string (fJ (Lx.hd aB))):=hr.blk.cell 2;have c4:wr.cell? ⟨q,4,none⟩=some (.int .i64 0):=hr.blk.cell 4;have lCr:=jv.lt;cases hnm:Lx.isName (Lx.hd aB)
   ·cases htk:Lx.isToken (Lx.hd aB)
    ·by_cases hop:Lx.hd aB=jr
     ·have HS:Hid (kJ aB=true):=by show _=_;unfold kJ;rw[decide_eq_true hop];simp
      have HN:Hid _:=hnm;have HT:Hid _:=htk;have t40:((fJ (Lx.hd aB)).toList == [40])=true:=by rw[hop,nO (by decide),ByteArray.toList_eq];rfl
      clear hnm htk hop
      go_wp2_with (first
       | (go_at_call 116;refine (zY _ _ qy).mono ?_;rintro e w' ⟨rfl,hw⟩;obtain rfl:=hw.symm;rw[BM,HN.out])
       | (go_at_call 139;refine (zW _ _ qy).mono ?_;rintro e w' ⟨rfl,hw⟩;obtain rfl:=hw.symm;rw[zX,HT.out]))
      have wC:=HI s q wr aB nest bI gI HO.out hr HS.out;rw[HN.out,HT.out]at wC;refine wC.mono ?_;intro e w1 he;clear wC;cases hit:dh (bE d) aB with
      | error x =>
       obtain⟨n,a⟩:=x;obtain⟨v1,sg1,sl1,rfl,m1,x1,hx1,yk,yn,ym,ya,yl,yc,yp,rfl⟩:=he.err hit;have HE:Hid (dJ (bE d) top ts=.error (n,a)):=by
        show _=_;unfold dJ;rw[<-hpi.out];simp only[dU];rw[if_pos HS.out,hit]
       clear hit he hpi;have hrg1:=hrg.mv (oU YR d) m1 x1 (by omega);have hown1:=hrg1.1.2.1;have bg:=x1.keep (b:=w.heap.size) jw.lt fB;have fF:=x1.keep (b:=w.heap.size+1) jv.lt fC;have aR:=jv.mv m1 (by omega) fC;have kB1:=jw.mv m1 (by omega) fB;have uY:=aR.lt;have M1:=M.trans X m1;have X1:=X.trans M.size x1;have qR:w1.cell? ⟨w.heap.size+1,0,none⟩=some (.slice va vk vc):=aR.cell 0;have qx:w.heap.size+1<w1.heap.size:=uY
       go_wp2_with (first
        | (at_builtin;refine wpList_append_lies _ rfl _ _ 133 rfl (w.heap.size+2) 148 i0 _ 5 64 underlying133 hi hz0 hz1 hz2 rfl (by decide) (.slice va vk vc) acc.length (ps.flatMap YR.cI) rfl ((hown1.alloc _).alloc _) ⟨w1.heap.size+1,0,none⟩ 1 1 [.int .i64 yk,.string yn,.int .u8 ym,.slice ya yl yc,.int .i64 yp] rfl rfl (by have:=bP (aj.new (w1.alloc (.cells #[.int .i64 yk,.string yn,.int .u8 ym,.slice ya yl yc,.int .i64 yp] 148)) #[.int .i64 yk,.string yn,.int .u8 ym,.slice ya yl yc,.int .i64 yp] 148);simpa using this) (by simp[Value.oneCell']) (by decide) (by unfold maxLen;omega) (by omega) (by simp;omega) _ rfl ?_;intro g3 nD w3 hown3 hgrow3 iU hlt3;have bG:=((aR.alloc _).alloc _).grown hgrow3 (fun e=>by have:=(hown1.lt _ e.symm).1;omega);have c03:w3.cell? ⟨w.heap.size+1,0,none⟩=some (.slice va vk vc):=bG.cell 0;have oI:∀ i,w3.frozen? ⟨w.heap.size+1,i,none⟩=false:=bG.frozen))
       have kB3:=((kB1.alloc _).alloc _).grown hgrow3 (fun e=>by have:=(hown1.lt _ e.symm).1;omega);have M3:=((M1.alloc _).alloc _).grown hgrow3 (fun k hk=>.inl (by have:=(hown1.lt _ hk).1;omega));have hx3:=(((hx1.alloc _).alloc _).move (hgrow3.block q (by simp;omega) (fun e=>by have:=(hown1.lt _ e.symm).1;omega)) (fun g hg=>hgrow3.block g (by have:=hx1.eD g hg;simp;omega) (fun e=>hrg1.2.2 g e.symm hg)));go_roundg 0
       case measure=>omega
       case rel =>
        exact .inr ⟨n,a,_,_,_,sg1,sl1,rfl,hx3.other _ _ (by omega) fF,bG.set 0 _,kB3.other (by omega) _,bg,M3.new (by omega) _ _,X1,HE⟩
      | ok x =>
       obtain⟨it,aC⟩:=x;obtain⟨v1,sg1,sl1,rfl,m1,x1,hr1,Nq,rfl,hax⟩:=he.ok hit;obtain⟨ya,yl,yc,rfl⟩:=ay.form hax;have hl1:=Et (zV d) hit;have hl2:=hr.wf.mJ;have ko:Hid (dU (bE d) f' aC (acc++[it])=dU (bE d) ts.length ts []):=by
        show _=_;rw[<-hpi.out];simp only[dU];rw[if_pos HS.out,hit]
       clear hit he hpi;have hrg1:=hrg.mv (oU YR d) m1 x1 (by omega);have hown1:=hrg1.1.2.1;have bg:=x1.keep (b:=w.heap.size) jw.lt fB;have fF:=x1.keep (b:=w.heap.size+1) jv.lt fC;have aR:=jv.mv m1 (by omega) fC;have kB1:=jw.mv m1 (by omega) fB;have uY:=aR.lt;have M1:=M.trans X m1;have X1:=X.trans M.size x1;have qR:w1.cell? ⟨w.heap.size+1,0,none⟩=some (.slice va vk vc):=aR.cell 0;have qx:w.heap.size+1<w1.heap.size:=uY
       go_wp2_with (first
        | (at_builtin;refine wpList_append_lies _ rfl _ _ 133 rfl (w.heap.size+2) 148 i0 _ 5 64 underlying133 hi hz0 hz1 hz2 rfl (by decide) (.slice va vk vc) acc.length (ps.flatMap YR.cI) rfl ((hown1.alloc _).alloc _) ⟨w1.heap.size+1,0,none⟩ 1 1 [.int .i64 (it.kind:Int),.string it.name,.int .u8 (it.mark:Int),.slice ya yl yc,.int .i64 (it.place:Int)] rfl rfl (by have:=bP (aj.new (w1.alloc (.cells #[.int .i64 (it.kind:Int),.string it.name,.int .u8 (it.mark:Int),.slice ya yl yc,.int .i64 (it.place:Int)] 148)) #[.int .i64 (it.kind:Int),.string it.name,.int .u8 (it.mark:Int),.slice ya yl yc,.int .i64 (it.place:Int)] 148);simpa using this) (by simp[Value.oneCell']) (by decide) (by unfold maxLen;omega) (by omega) (by simp;omega) _ rfl ?_;intro g3 nD w3 hown3 hgrow3 iU hlt3;have bG:=((aR.alloc _).alloc _).grown hgrow3 (fun e=>by have:=(hown1.lt _ e.symm).1;omega);have c03:w3.cell? ⟨w.heap.size+1,0,none⟩=some (.slice va vk vc):=bG.cell 0;have oI:∀ i,w3.frozen? ⟨w.heap.size+1,i,none⟩=false:=bG.frozen))
       have kB3:=((kB1.alloc _).alloc _).grown hgrow3 (fun e=>by have:=(hown1.lt _ e.symm).1;omega);have M3:=((M1.alloc _).alloc _).grown hgrow3 (fun k hk=>.inl (by have:=(hown1.lt _ hk).1;omega));have hr3:=(((hr1.alloc _).alloc _).move (hgrow3.block q (by simp;omega) (fun e=>by have:=(hown1.lt _ e.symm).1;omega)) (fun g hg=>hgrow3.block g (by have:=hr1.eD g hg;simp;omega) (fun e=>hrg1.2.2 g e.symm hg)));have G3:=jd.push (oU YR d) hrg (q:=q) (by omega) (by omega) m1 x1 hr1.eD (.slice ya yl yc,it) hax (aY (cK w1 _ none) (cK _ _ none)) hown3 hgrow3 iU;go_roundg (aC.length+1)
       case measure=>omega
       case rel =>
        exact .inl ⟨aC,acc++[it],_,sg1,sl1,f',rfl,by omega,by simp;omega,hr3.other _ _ (by omega) fF,bG.set 0 _,kB3.other (by omega) _,bg,fF,jH.kept (oU YR d) G3 (gK w3 (w.heap.size+1) 0 _) (fun k hk=>by cases hk;omega),M3.new (by omega) _ _,X1,ko⟩
     ·have HS:Hid (kJ aB=false):=by show _=_;unfold kJ;rw[decide_eq_false hop,hnm,htk];rfl
      have Ia:dU (bE d) ts.length ts []=.ok (acc,aB):=by
       rw[<-hpi.out];simp only[dU];rw[if_neg (by rw[HS.out];simp)]
      have rW:Hid (dJ (bE d) top ts=mq top acc aB):=by
       show _=_;unfold dJ;rw[Ia]
      have HN:Hid _:=hnm;have HT:Hid _:=htk;have t40:((fJ (Lx.hd aB)).toList == [40])=false:=by
       refine lU (l:=[40]) ?_;exact fun e=>hop ((sJ (b:=jr) (by decide) (by decide)).1 e)
      have hseq:=jH.seq (oU YR d) ⟨ps,F,hrg⟩;have aP:=jv;have aK:=jw;clear hnm htk hop Ia hpi;cases top
      ·have Jb:Hid (dJ (bE d) false ts=.ok ((acc,aM,0),aB)):=by
        show _=_;rw[rW.out];unfold mq;rw[if_neg (by simp)]
       have e0:wr.cell? ⟨w.heap.size,0,none⟩=some (.slice none 0 0):=aK.cell 0;have e1:wr.cell? ⟨w.heap.size,1,none⟩=some (.string ⟨#[]⟩):=aK.cell 1;have e2:wr.cell? ⟨w.heap.size,2,none⟩=some (.int .i64 0):=aK.cell 2;have d0:wr.cell? ⟨w.heap.size+1,0,none⟩=some (.slice va vk vc):=aP.cell 0;have d1:wr.cell? ⟨w.heap.size+1,1,none⟩=some (.string ⟨#[]⟩):=aP.cell 1;have d2:wr.cell? ⟨w.heap.size+1,2,none⟩=some (.int .i64 0):=aP.cell 2;have ff:∀ i,wr.frozen? ⟨w.heap.size,i,none⟩=false:=aK.frozen
       go_wp2_with (first
        | (go_at_call 116;refine (zY _ _ qy).mono ?_;rintro e w' ⟨rfl,hw⟩;obtain rfl:=hw.symm;rw[BM,HN.out])
        | (go_at_call 139;refine (zW _ _ qy).mono ?_;rintro e w' ⟨rfl,hw⟩;obtain rfl:=hw.symm;rw[zX,HT.out]))
       refine bodyPost_ret (v:=.agg #[(.slice va vk vc),(.string ⟨#[]⟩),(.int .i64 0)]) (by simp[results,results141,go_sem,e0,e1,e2]) rfl ?_;refine bM.yes Jb.out (((M.new (lr0) _ _).new (lr0) _ _).new (lr0) _ _) X (((hr.other _ _ (by omega) fB).other _ _ (by omega) fB).other _ _ (by omega) fB) ⟨_,rfl,?_⟩;refine bJ.move (fun b hb=>?_) (fun b hb=>⟨by have:=hb.1;omega,by simpa [World.setCell]using hb.2.1,hb.2.2⟩) hseq;have hbb:b≠w.heap.size:=by have:=hb.1;omega
       rw[hs0 hbb,hs0 hbb,hs0 hbb]
      ·by_cases hpr:Lx.hd aB=jf
       ·have Ba:Hid (Lx.hd aB=jf):=hpr
        clear hpr
        go_wp2_with (first
         | (go_at_call 116;refine (zY _ _ qy).mono ?_;rintro e w' ⟨rfl,hw⟩;obtain rfl:=hw.symm;rw[BM,HN.out])
         | (go_at_call 139;refine (zW _ _ qy).mono ?_;rintro e w' ⟨rfl,hw⟩;obtain rfl:=hw.symm;rw[zX,HT.out])
         | (go_at_call 150;refine (iQ hr jf (by decide) (by decide)).mono ?_;rintro e w' ⟨rfl,hw⟩;obtain rfl:=hw.symm;rw[decide_eq_true Ba.out])
         | (go_at_call 76;refine (oV hr (by rw[Ba.out];decide) (by rw[Ba.out];decide)).mono ?_;rintro e w2 ⟨rfl,sg2,m2,x2,hr2⟩;have fw:=jv.mv m2 (by omega) fC;have c12:w2.cell? ⟨q,1,none⟩=some (.int .i64 (Lx.pl aB.tail:Int)):=hr2.blk.cell 1;have f2:∀ i,w2.frozen? ⟨w.heap.size+1,i,none⟩=false:=fw.frozen;have FJ:w2.cell? ⟨w.heap.size+1,2,none⟩=some (.int .i64 0):=fw.cell 2))
        have tL:=x2.keep (b:=w.heap.size+1) jv.lt fC;have lY:=x2.keep (b:=w.heap.size) jw.lt fB;have kB2:=jw.mv m2 (by omega) fB;have M2:=M.trans X m2;have X2:=X.trans M.size x2;have hrg2:=(hrg.mv (oU YR d) m2 x2 (by omega)).kept (oU YR d) (gK w2 (w.heap.size+1) 2 (.int .i64 (Lx.pl aB.tail:Int))) (fun k hk=>by cases hk;omega);refine (Pm (hr2.other _ _ (by omega) tL)).mono ?_;intro e w3 he;cases hpw:dz Lx.isToken aB.tail with
        | error x =>
         obtain⟨n,a⟩:=x;obtain⟨v3,lI,qU,rfl,m3,x3,hx3,rfl⟩:=he.err hpw;have HE:Hid (dJ (bE d) true ts=.error (n,a)):=by
          show _=_;rw[rW.out];unfold mq;rw[if_pos ⟨rfl,Ba.out⟩,hpw]
         clear hpw he;have lJ:=x3.keep (b:=w.heap.size) (by have:=kB2.lt;simpa [World.setCell]using this) lY;have SS:=x3.keep (b:=w.heap.size+1) (by have:=fw.lt;simpa [World.setCell]using this) tL;have aP:=(fw.set 2 (.int .i64 (Lx.pl aB.tail:Int))).mv m3 (by omega) tL;have sW:aj (w2.setCell ⟨w.heap.size+1,2,none⟩ (.int .i64 (Lx.pl aB.tail:Int))) w.heap.size #[.slice none 0 0,.string ⟨#[]⟩,.int .i64 0] 145:=kB2.other (by omega) _;have aK:=sW.mv m3 (by omega) lY;have M3:=(M2.new (by omega) 2 (.int .i64 (Lx.pl aB.tail:Int))).trans X2 m3;have X3:=X2.trans (M2.new (b:=w.heap.size+1) (by omega) 2 (.int .i64 (Lx.pl aB.tail:Int))).size x3;have e0:w3.cell? ⟨w.heap.size,0,none⟩=some (.slice none 0 0):=aK.cell 0;have e1:w3.cell? ⟨w.heap.size,1,none⟩=some (.string ⟨#[]⟩):=aK.cell 1;have e2:w3.cell? ⟨w.heap.size,2,none⟩=some (.int .i64 0):=aK.cell 2;have d0:w3.cell? ⟨w.heap.size+1,0,none⟩=some (.slice va vk vc):=aP.cell 0;have d1:w3.cell? ⟨w.heap.size+1,1,none⟩=some (.string ⟨#[]⟩):=aP.cell 1;have gg:∀ i,w3.frozen? ⟨w.heap.size+1,i,none⟩=false:=aP.frozen;have d2:w3.cell? ⟨w.heap.size+1,2,none⟩=some (.int .i64 (Lx.pl aB.tail:Int)):=aP.cell 2;have ff:∀ i,w3.frozen? ⟨w.heap.size,i,none⟩=false:=aK.frozen;go_wp2_with fail;refine bodyPost_ret (v:=.agg #[(.slice va vk vc),(.string ⟨#[]⟩),(.int .i64 (Lx.pl aB.tail:Int))]) (by simp[results,results141,go_sem,e0,e1,e2]) rfl ?_;exact bM.no HE.out ((((M3.new (by omega) _ _).new (lr0) _ _).new (lr0) _ _).new (lr0) _ _) X3 ((((hx3.other _ _ (by omega) SS).other _ _ (by omega) lJ).other _ _ (by omega) lJ).other _ _ (by omega) lJ) ⟨_,_,_,_,_,rfl⟩
        | ok x =>
         obtain⟨b3,fu⟩:=x;obtain⟨v3,lI,qU,rfl,m3,x3,hr3,rfl⟩:=he.ok hpw;have Jb:Hid (dJ (bE d) true ts=.ok ((acc,b3,Lx.pl aB.tail),fu)):=by
          show _=_;rw[rW.out];unfold mq;rw[if_pos ⟨rfl,Ba.out⟩,hpw]
         clear hpw he;have ajV:=jH.seq (oU YR d) ⟨ps,F,hrg2.mv (oU YR d) m3 x3 (by omega)⟩;have lJ:=x3.keep (b:=w.heap.size) (by have:=kB2.lt;simpa [World.setCell]using this) lY;have SS:=x3.keep (b:=w.heap.size+1) (by have:=fw.lt;simpa [World.setCell]using this) tL;have aP:=(fw.set 2 (.int .i64 (Lx.pl aB.tail:Int))).mv m3 (by omega) tL;have sW:aj (w2.setCell ⟨w.heap.size+1,2,none⟩ (.int .i64 (Lx.pl aB.tail:Int))) w.heap.size #[.slice none 0 0,.string ⟨#[]⟩,.int .i64 0] 145:=kB2.other (by omega) _;have aK:=sW.mv m3 (by omega) lY;have M3:=(M2.new (by omega) 2 (.int .i64 (Lx.pl aB.tail:Int))).trans X2 m3;have X3:=X2.trans (M2.new (b:=w.heap.size+1) (by omega) 2 (.int .i64 (Lx.pl aB.tail:Int))).size x3;have e0:w3.cell? ⟨w.heap.size,0,none⟩=some (.slice none 0 0):=aK.cell 0;have e1:w3.cell? ⟨w.heap.size,1,none⟩=some (.string ⟨#[]⟩):=aK.cell 1;have e2:w3.cell? ⟨w.heap.size,2,none⟩=some (.int .i64 0):=aK.cell 2;have d0:w3.cell? ⟨w.heap.size+1,0,none⟩=some (.slice va vk vc):=aP.cell 0;have d1:w3.cell? ⟨w.heap.size+1,1,none⟩=some (.string ⟨#[]⟩):=aP.cell 1;have gg:∀ i,w3.frozen? ⟨w.heap.size+1,i,none⟩=false:=aP.frozen;have d2:w3.cell? ⟨w.heap.size+1,2,none⟩=some (.int .i64 (Lx.pl aB.tail:Int)):=aP.cell 2;have ff:∀ i,w3.frozen? ⟨w.heap.size,i,none⟩=false:=aK.frozen;go_wp2_with fail;refine bodyPost_ret (v:=.agg #[(.slice va vk vc),(.string b3),(.int .i64 (Lx.pl aB.tail:Int))]) (by simp[results,results141,go_sem,e0,e1,e2]) rfl ?_;refine bM.yes Jb.out ((((M3.new (by omega) _ _).new (lr0) _ _).new (lr0) _ _).new (lr0) _ _) X3 ((((hr3.other _ _ (by omega) SS).other _ _ (by omega) lJ).other _ _ (by omega) lJ).other _ _ (by omega) lJ) ⟨_,rfl,?_⟩
         refine bJ.move (fun b hb=>?_) (fun b hb=>⟨by have:=hb.1;omega,by simpa [World.setCell]using hb.2.1,hb.2.2⟩) ajV;have hbb:b≠w.heap.size:=by have:=hb.1;omega
         have hbc:b≠w.heap.size+1:=by have:=hb.1;omega
         rw[hs0 hbb,hs0 hbb,hs0 hbb,hs0 hbc]
       ·have Ba:Hid (¬ Lx.hd aB=jf):=hpr
        clear hpr;have Jb:Hid (dJ (bE d) true ts=.ok ((acc,aM,0),aB)):=by
         show _=_;rw[rW.out];unfold mq;rw[if_neg (fun e=>Ba.out e.2)]
        have e0:wr.cell? ⟨w.heap.size,0,none⟩=some (.slice none 0 0):=aK.cell 0;have e1:wr.cell? ⟨w.heap.size,1,none⟩=some (.string ⟨#[]⟩):=aK.cell 1;have e2:wr.cell? ⟨w.heap.size,2,none⟩=some (.int .i64 0):=aK.cell 2;have d0:wr.cell? ⟨w.heap.size+1,0,none⟩=some (.slice va vk vc):=aP.cell 0;have d1:wr.cell? ⟨w.heap.size+1,1,none⟩=some (.string ⟨#[]⟩):=aP.cell 1;have d2:wr.cell? ⟨w.heap.size+1,2,none⟩=some (.int .i64 0):=aP.cell 2;have ff:∀ i,wr.frozen? ⟨w.heap.size,i,none⟩=false:=aK.frozen
        go_wp2_with (first
         | (go_at_call 116;refine (zY _ _ qy).mono ?_;rintro e w' ⟨rfl,hw⟩;obtain rfl:=hw.symm;rw[BM,HN.out])
         | (go_at_call 139;refine (zW _ _ qy).mono ?_;rintro e w' ⟨rfl,hw⟩;obtain rfl:=hw.symm;rw[zX,HT.out])
         | (go_at_call 150;refine (iQ hr jf (by decide) (by decide)).mono ?_;rintro e w' ⟨rfl,hw⟩;obtain rfl:=hw.symm;rw[decide_eq_false Ba.out]))
        refine bodyPost_ret (v:=.agg #[(.slice va vk vc),(.string ⟨#[]⟩),(.int .i64 0)]) (by simp[results,results141,go_sem,e0,e1,e2]) rfl ?_;refine bM.yes Jb.out (((M.new (lr0) _ _).new (lr0) _ _).new (lr0) _ _) X (((hr.other _ _ (by omega) fB).other _ _ (by omega) fB).other _ _ (by omega) fB) ⟨_,rfl,?_⟩;refine bJ.move (fun b hb=>?_) (fun b hb=>⟨by have:=hb.1;omega,by simpa [World.setCell]using hb.2.1,hb.2.2⟩) hseq;have hbb:b≠w.heap.size:=by have:=hb.1;omega
        rw[hs0 hbb,hs0 hbb,hs0 hbb]
    ·have HS:Hid (kJ aB=true):=by show _=_;unfold kJ;rw[htk];simp
     have HN:Hid _:=hnm;have HT:Hid _:=htk;clear hnm htk
     go_wp2_with (first
      | (go_at_call 116;refine (zY _ _ qy).mono ?_;rintro e w' ⟨rfl,hw⟩;obtain rfl:=hw.symm;rw[BM,HN.out])
      | (go_at_call 139;refine (zW _ _ qy).mono ?_;rintro e w' ⟨rfl,hw⟩;obtain rfl:=hw.symm;rw[zX,HT.out]))
     have wC:=HI s q wr aB nest bI gI HO.out hr HS.out;rw[HN.out,HT.out]at wC;refine wC.mono ?_;intro e w1 he;clear wC;cases hit:dh (bE d) aB with
     | error x =>
      obtain⟨n,a⟩:=x;obtain⟨v1,sg1,sl1,rfl,m1,x1,hx1,yk,yn,ym,ya,yl,yc,yp,rfl⟩:=he.err hit;have HE:Hid (dJ (bE d) top ts=.error (n,a)):=by
       show _=_;unfold dJ;rw[<-hpi.out];simp only[dU];rw[if_pos HS.out,hit]
      clear hit he hpi;have hrg1:=hrg.mv (oU YR d) m1 x1 (by omega);have hown1:=hrg1.1.2.1;have bg:=x1.keep (b:=w.heap.size) jw.lt fB;have fF:=x1.keep (b:=w.heap.size+1) jv.lt fC;have aR:=jv.mv m1 (by omega) fC;have kB1:=jw.mv m1 (by omega) fB;have uY:=aR.lt;have M1:=M.trans X m1;have X1:=X.trans M.size x1;have qR:w1.cell? ⟨w.heap.size+1,0,none⟩=some (.slice va vk vc):=aR.cell 0;have qx:w.heap.size+1<w1.heap.size:=uY
      go_wp2_with (first
       | (at_builtin;refine wpList_append_lies _ rfl _ _ 133 rfl (w.heap.size+2) 148 i0 _ 5 64 underlying133 hi hz0 hz1 hz2 rfl (by decide) (.slice va vk vc) acc.length (ps.flatMap YR.cI) rfl ((hown1.alloc _).alloc _) ⟨w1.heap.size+1,0,none⟩ 1 1 [.int .i64 yk,.string yn,.int .u8 ym,.slice ya yl yc,.int .i64 yp] rfl rfl (by have:=bP (aj.new (w1.alloc (.cells #[.int .i64 yk,.string yn,.int .u8 ym,.slice ya yl yc,.int .i64 yp] 148)) #[.int .i64 yk,.string yn,.int .u8 ym,.slice ya yl yc,.int .i64 yp] 148);simpa using this) (by simp[Value.oneCell']) (by decide) (by unfold maxLen;omega) (by omega) (by simp;omega) _ rfl ?_;intro g3 nD w3 hown3 hgrow3 iU hlt3;have bG:=((aR.alloc _).alloc _).grown hgrow3 (fun e=>by have:=(hown1.lt _ e.symm).1;omega);have c03:w3.cell? ⟨w.heap.size+1,0,none⟩=some (.slice va vk vc):=bG.cell 0;have oI:∀ i,w3.frozen? ⟨w.heap.size+1,i,none⟩=false:=bG.frozen))
      have kB3:=((kB1.alloc _).alloc _).grown hgrow3 (fun e=>by have:=(hown1.lt _ e.symm).1;omega);have M3:=((M1.alloc _).alloc _).grown hgrow3 (fun k hk=>.inl (by have:=(hown1.lt _ hk).1;omega));have hx3:=(((hx1.alloc _).alloc _).move (hgrow3.block q (by simp;omega) (fun e=>by have:=(hown1.lt _ e.symm).1;omega)) (fun g hg=>hgrow3.block g (by have:=hx1.eD g hg;simp;omega) (fun e=>hrg1.2.2 g e.symm hg)));go_roundg 0
      case measure=>omega
      case rel =>
       exact .inr ⟨n,a,_,_,_,sg1,sl1,rfl,hx3.other _ _ (by omega) fF,bG.set 0 _,kB3.other (by omega) _,bg,M3.new (by omega) _ _,X1,HE⟩
     | ok x =>
      obtain⟨it,aC⟩:=x;obtain⟨v1,sg1,sl1,rfl,m1,x1,hr1,Nq,rfl,hax⟩:=he.ok hit;obtain⟨ya,yl,yc,rfl⟩:=ay.form hax;have hl1:=Et (zV d) hit;have hl2:=hr.wf.mJ;have ko:Hid (dU (bE d) f' aC (acc++[it])=dU (bE d) ts.length ts []):=by
       show _=_;rw[<-hpi.out];simp only[dU];rw[if_pos HS.out,hit]
      clear hit he hpi;have hrg1:=hrg.mv (oU YR d) m1 x1 (by omega);have hown1:=hrg1.1.2.1;have bg:=x1.keep (b:=w.heap.size) jw.lt fB;have fF:=x1.keep (b:=w.heap.size+1) jv.lt fC;have aR:=jv.mv m1 (by omega) fC;have kB1:=jw.mv m1 (by omega) fB;have uY:=aR.lt;have M1:=M.trans X m1;have X1:=X.trans M.size x1;have qR:w1.cell? ⟨w.heap.size+1,0,none⟩=some (.slice va vk vc):=aR.cell 0;have qx:w.heap.size+1<w1.heap.size:=uY
      go_wp2_with (first
       | (at_builtin;refine wpList_append_lies _ rfl _ _ 133 rfl (w.heap.size+2) 148 i0 _ 5 64 underlying133 hi hz0 hz1 hz2 rfl (by decide) (.slice va vk vc) acc.length (ps.flatMap YR.cI) rfl ((hown1.alloc _).alloc _) ⟨w1.heap.size+1,0,none⟩ 1 1 [.int .i64 (it.kind:Int),.string it.name,.int .u8 (it.mark:Int),.slice ya yl yc,.int .i64 (it.place:Int)] rfl rfl (by have:=bP (aj.new (w1.alloc (.cells #[.int .i64 (it.kind:Int),.string it.name,.int .u8 (it.mark:Int),.slice ya yl yc,.int .i64 (it.place:Int)] 148)) #[.int .i64 (it.kind:Int),.string it.name,.int .u8 (it.mark:Int),.slice ya yl yc,.int .i64 (it.place:Int)] 148);simpa using this) (by simp[Value.oneCell']) (by decide) (by unfold maxLen;omega) (by omega) (by simp;omega) _ rfl ?_;intro g3 nD w3 hown3 hgrow3 iU hlt3;have bG:=((aR.alloc _).alloc _).grown hgrow3 (fun e=>by have:=(hown1.lt _ e.symm).1;omega);have c03:w3.cell? ⟨w.heap.size+1,0,none⟩=some (.slice va vk vc):=bG.cell 0;have oI:∀ i,w3.frozen? ⟨w.heap.size+1,i,none⟩=false:=bG.frozen))
      have kB3:=((kB1.alloc _).alloc _).grown hgrow3 (fun e=>by have:=(hown1.lt _ e.symm).1;omega);have M3:=((M1.alloc _).alloc _).grown hgrow3 (fun k hk=>.inl (by have:=(hown1.lt _ hk).1;omega));have hr3:=(((hr1.alloc _).alloc _).move (hgrow3.block q (by simp;omega) (fun e=>by have:=(hown1.lt _ e.symm).1;omega)) (fun g hg=>hgrow3.block g (by have:=hr1.eD g hg;simp;omega) (fun e=>hrg1.2.2 g e.symm hg)));have G3:=jd.push (oU YR d) hrg (q:=q) (by omega) (by omega) m1 x1 hr1.eD (.slice ya yl yc,it) hax (aY (cK w1 _ none) (cK _ _ none)) hown3 hgrow3 iU;go_roundg (aC.length+1)
      case measure=>omega
      case rel =>
       exact .inl ⟨aC,acc++[it],_,sg1,sl1,f',rfl,by omega,by simp;omega,hr3.other _ _ (by omega) fF,bG.set 0 _,kB3.other (by omega) _,bg,fF,jH.kept (oU YR d) G3 (gK w3 (w.heap.size+1) 0 _) (fun k hk=>by cases hk;omega),M3.new (by omega) _ _,X1,ko⟩
   ·have HS:Hid (kJ aB=true):=by show _=_;unfold kJ;rw[hnm];simp
    cases htk:Lx.isToken (Lx.hd aB)
    all_goals
     have HN:Hid _:=hnm;have HT:Hid _:=htk;clear htk
     go_wp2_with (first
      | (go_at_call 116;refine (zY _ _ qy).mono ?_;rintro e w' ⟨rfl,hw⟩;obtain rfl:=hw.symm;rw[BM,HN.out])
      | (go_at_call 139;refine (zW _ _ qy).mono ?_;rintro e w' ⟨rfl,hw⟩;obtain rfl:=hw.symm;rw[zX,HT.out]))
     have wC:=HI s q wr aB nest bI gI HO.out hr HS.out;rw[HN.out,HT.out]at wC;refine wC.mono ?_;intro e w1 he;clear wC;cases hit:dh (bE d) aB with
     | error x =>
      obtain⟨n,a⟩:=x;obtain⟨v1,sg1,sl1,rfl,m1,x1,hx1,yk,yn,ym,ya,yl,yc,yp,rfl⟩:=he.err hit;have HE:Hid (dJ (bE d) top ts=.error (n,a)):=by
       show _=_;unfold dJ;rw[<-hpi.out];simp only[dU];rw[if_pos HS.out,hit]
      clear hit he hpi;have hrg1:=hrg.mv (oU YR d) m1 x1 (by omega);have hown1:=hrg1.1.2.1;have bg:=x1.keep (b:=w.heap.size) jw.lt fB;have fF:=x1.keep (b:=w.heap.size+1) jv.lt fC;have aR:=jv.mv m1 (by omega) fC;have kB1:=jw.mv m1 (by omega) fB;have uY:=aR.lt;have M1:=M.trans X m1;have X1:=X.trans M.size x1;have qR:w1.cell? ⟨w.heap.size+1,0,none⟩=some (.slice va vk vc):=aR.cell 0;have qx:w.heap.size+1<w1.heap.size:=uY
      go_wp2_with (first
       | (at_builtin;refine wpList_append_lies _ rfl _ _ 133 rfl (w.heap.size+2) 148 i0 _ 5 64 underlying133 hi hz0 hz1 hz2 rfl (by decide) (.slice va vk vc) acc.length (ps.flatMap YR.cI) rfl ((hown1.alloc _).alloc _) ⟨w1.heap.size+1,0,none⟩ 1 1 [.int .i64 yk,.string yn,.int .u8 ym,.slice ya yl yc,.int .i64 yp] rfl rfl (by have:=bP (aj.new (w1.alloc (.cells #[.int .i64 yk,.string yn,.int .u8 ym,.slice ya yl yc,.int .i64 yp] 148)) #[.int .i64 yk,.string yn,.int .u8 ym,.slice ya yl yc,.int .i64 yp] 148);simpa using this) (by simp[Value.oneCell']) (by decide) (by unfold maxLen;omega) (by omega) (by simp;omega) _ rfl ?_;intro g3 nD w3 hown3 hgrow3 iU hlt3;have bG:=((aR.alloc _).alloc _).grown hgrow3 (fun e=>by have:=(hown1.lt _ e.symm).1;omega);have c03:w3.cell? ⟨w.heap.size+1,0,none⟩=some (.slice va vk vc):=bG.cell 0;have oI:∀ i,w3.frozen? ⟨w.heap.size+1,i,none⟩=false:=bG.frozen))
      have kB3:=((kB1.alloc _).alloc _).grown hgrow3 (fun e=>by have:=(hown1.lt _ e.symm).1;omega);have M3:=((M1.alloc _).alloc _).grown hgrow3 (fun k hk=>.inl (by have:=(hown1.lt _ hk).1;omega));have hx3:=(((hx1.alloc _).alloc _).move (hgrow3.block q (by simp;omega) (fun e=>by have:=(hown1.lt _ e.symm).1;omega)) (fun g hg=>hgrow3.block g (by have:=hx1.eD g hg;simp;omega) (fun e=>hrg1.2.2 g e.symm hg)));go_roundg 0
      case measure=>omega
      case rel =>
       exact .inr ⟨n,a,_,_,_,sg1,sl1,rfl,hx3.other _ _ (by omega) fF,bG.set 0 _,kB3.other (by omega) _,bg,M3.new (by omega) _ _,X1,HE⟩
     | ok x =>
      obtain⟨it,aC⟩:=x;obtain⟨v1,sg1,sl1,rfl,m1,x1,hr1,Nq,rfl,hax⟩:=he.ok hit;obtain⟨ya,yl,yc,rfl⟩:=ay.form hax;have hl1:=Et (zV d) hit;have hl2:=hr.wf.mJ;have ko:Hid (dU (bE d) f' aC (acc++[it])=dU (bE d) ts.length ts []):=by
       show _=_;rw[<-hpi.out];simp only[dU];rw[if_pos HS.out,hit]
      clear hit he hpi;have hrg1:=hrg.mv (oU YR d) m1 x1 (by omega);have hown1:=hrg1.1.2.1;have bg:=x1.keep (b:=w.heap.size) jw.lt fB;have fF:=x1.keep (b:=w.heap.size+1) jv.lt fC;have aR:=jv.mv m1 (by omega) fC;have kB1:=jw.mv m1 (by omega) fB;have uY:=aR.lt;have M1:=M.trans X m1;have X1:=X.trans M.size x1;have qR:w1.cell? ⟨w.heap.size+1,0,none⟩=some (.slice va vk vc):=aR.cell 0;have qx:w.heap.size+1<w1.heap.size:=uY
      go_wp2_with (first
       | (at_builtin;refine wpList_append_lies _ rfl _ _ 133 rfl (w.heap.size+2) 148 i0 _ 5 64 underlying133 hi hz0 hz1 hz2 rfl (by decide) (.slice va vk vc) acc.length (ps.flatMap YR.cI) rfl ((hown1.alloc _).alloc _) ⟨w1.heap.size+1,0,none⟩ 1 1 [.int .i64 (it.kind:Int),.string it.name,.int .u8 (it.mark:Int),.slice ya yl yc,.int .i64 (it.place:Int)] rfl rfl (by have:=bP (aj.new (w1.alloc (.cells #[.int .i64 (it.kind:Int),.string it.name,.int .u8 (it.mark:Int),.slice ya yl yc,.int .i64 (it.place:Int)] 148)) #[.int .i64 (it.kind:Int),.string it.name,.int .u8 (it.mark:Int),.slice ya yl yc,.int .i64 (it.place:Int)] 148);simpa using this) (by simp[Value.oneCell']) (by decide) (by unfold maxLen;omega) (by omega) (by simp;omega) _ rfl ?_;intro g3 nD w3 hown3 hgrow3 iU hlt3;have bG:=((aR.alloc _).alloc _).grown hgrow3 (fun e=>by have:=(hown1.lt _ e.symm).1;omega);have c03:w3.cell? ⟨w.heap.size+1,0,none⟩=some (.slice va vk vc):=bG.cell 0;have oI:∀ i,w3.frozen? ⟨w.heap.size+1,i,none⟩=false:=bG.frozen))
      have kB3:=((kB1.alloc _).alloc _).grown hgrow3 (fun e=>by have:=(hown1.lt _ e.symm).1;omega);have M3:=((M1.alloc _).alloc _).grown hgrow3 (fun k hk=>.inl (by have:=(hown1.lt _ hk).1;omega));have hr3:=(((hr1.alloc _).alloc _).move (hgrow3.block q (by simp;omega) (fun e=>by have:=(hown1.lt _ e.symm).1;omega)) (fun g hg=>hgrow3.block g (by have:=hr1.eD g hg;simp;omega) (fun e=>hrg1.2.2 g e.symm hg)));have G3:=jd.push (oU YR d) hrg (q:=q) (by omega) (by omega) m1 x1 hr1.eD (.slice ya yl yc,it) hax (aY (cK w1 _ none) (cK _ _ none)) hown3 hgrow3 iU;go_roundg (aC.length+1)
      case measure=>omega
      case rel =>
       exact .inl ⟨aC,acc++[it],_,sg1,sl1,f',rfl,by omega,by simp;omega,hr3.other _ _ (by omega) fF,bG.set 0 _,kB3.other (by omega) _,bg,fF,jH.kept (oU YR d) G3 (gK w3 (w.heap.size+1) 0 _) (fun k hk=>by cases hk;omega),M3.new (by omega) _ _,X1,ko⟩
  ·have h0:((n:Int) == 0)=false:=beq_eq_false_iff_ne.2 (by have:=hx.pos;omega)
   obtain⟨ii,WW,rZ⟩:=hx.blk;have c4:wr.cell? ⟨q,4,none⟩=some (.int .i64 (n:Int)):=rZ.cell 4;have e0:wr.cell? ⟨w.heap.size,0,none⟩=some (.slice none 0 0):=aK.cell 0;have e1:wr.cell? ⟨w.heap.size,1,none⟩=some (.string ⟨#[]⟩):=aK.cell 1;have e2:wr.cell? ⟨w.heap.size,2,none⟩=some (.int .i64 0):=aK.cell 2;have d0:wr.cell? ⟨w.heap.size+1,0,none⟩=some (.slice xa xk xc):=aP.cell 0;have d1:wr.cell? ⟨w.heap.size+1,1,none⟩=some (.string ⟨#[]⟩):=aP.cell 1;have d2:wr.cell? ⟨w.heap.size+1,2,none⟩=some (.int .i64 0):=aP.cell 2;have ff:∀ i,wr.frozen? ⟨w.heap.size,i,none⟩=false:=aK.frozen;cases top
   ·go_wp2_with fail
    refine bodyPost_ret (v:=.agg #[(.slice xa xk xc),(.string ⟨#[]⟩),(.int .i64 0)]) (by simp[results,results141,go_sem,e0,e1,e2]) rfl ?_;exact bM.no HE.out (((M.new (lr0) _ _).new (lr0) _ _).new (lr0) _ _) X (((hx.other _ _ (by omega) fB).other _ _ (by omega) fB).other _ _ (by omega) fB) ⟨_,_,_,_,_,rfl⟩
   ·go_wp2_with (first
     | (go_at_call 150;refine (yO hx _).mono ?_;rintro e w' ⟨rfl,hw⟩;obtain rfl:=hw.symm))
    refine bodyPost_ret (v:=.agg #[(.slice xa xk xc),(.string ⟨#[]⟩),(.int .i64 0)]) (by simp[results,results141,go_sem,e0,e1,e2]) rfl ?_;exact bM.no HE.out (((M.new (lr0) _ _).new (lr0) _ _).new (lr0) _ _) X (((hx.other _ _ (by omega) fB).other _ _ (by omega) fB).other _ _ (by omega) fB) ⟨_,_,_,_,_,rfl⟩
end
theorem ay.up {Y:Lay} {F:Nat->Prop} {w:World}:∀ {d:Nat} {v:Value} {l:List Lx.Alt},ay Y d F w v l->ay Y (d+1) F w v l
 | 0,_,_,h=>by obtain⟨rfl,rfl⟩:=h;exact ay.nil _ _ _ _
 | d+1,_,_,h=>Seq.move (K:=fun vi (a:Lx.Alt)=>nV Y (ay Y d F w) F w vi a.1) h (fun _ _=>rfl) (fun _ h=>h) fun _ _ hi=>Seq.move (K:=fun va (it:Lx.It)=>ay Y d F w va it.alts) hi (fun _ _=>rfl) (fun _ h=>h) fun _ _ ha=>ay.up ha
theorem ay.ups {Y:Lay} {F:Nat->Prop} {w:World} {d:Nat} {v:Value} {l:List Lx.Alt} (h:ay Y d F w v l):∀ k,ay Y (d+k) F w v l
 | 0=>h
 | k+1=>ay.up (ay.ups h k)
theorem ay.nine {Y:Lay}{F:Nat->Prop}{w:World}{d:Nat}{v:Value}{l:List Lx.Alt}(h:ay Y d F w v l)(hd:d<=9):ay Y 9 F w v l:=by
 have:=ay.ups h (9-d)
 rwa [show d+(9-d)=9 by omega]at this
def HR (B:Nat)(F:Nat->Prop)(w:World)(v:Value)(l:List Lx.It):Prop:=∃ ps:List (Value × Lx.It),ps.map Prod.snd=l/\w.ownsRow B 148 5 v l.length (ps.flatMap YR.cI)/\∀ q,q∈ps->ay YR 9 F w q.1 q.2.alts
theorem ZP {F:Nat->Prop}{w:World}{q:Value × Lx.It}(h:ay YR 9 F w q.1 q.2.alts):∀ u∈YR.cI q,u.oneCell'=true:=by
 obtain⟨a,k,c,e⟩:=ay.form h;intro u hu;simp only[YR,List.mem_cons,List.not_mem_nil,or_false]at hu;rcases hu with rfl | rfl | rfl | rfl | rfl
 ·rfl
 ·rfl
 ·rfl
 ·rw[e];rfl
 ·rfl
theorem Zj {F:Nat->Prop}{w:World}{ps:List (Value × Lx.It)}(h:∀ q,q∈ps->ay YR 9 F w q.1 q.2.alts):∀ u∈ps.flatMap YR.cI,u.oneCell'=true:=by
 intro u hu;obtain⟨q,hq,hu⟩:=List.mem_flatMap.1 hu;exact ZP (h q hq) u hu
theorem QG:∀ ps:List (Value × Lx.It),(ps.flatMap YR.cI).length=ps.length*5
 | []=>rfl
 | p::ps=>by rw[List.flatMap_cons,List.length_append,QG ps,List.length_cons,Nat.succ_mul];show 5+_=_;omega
theorem HR.move {B:Nat}{F:Nat->Prop}{w w':World}{v:Value}{l:List Lx.It}(h:HR B F w v l)(hF:∀ b,F b->w'.heap[b]?=w.heap[b]?)(hv:∀ g,v.ownBlock=some g->w'.heap[g]?=w.heap[g]?):HR B F w' v l:=by
 obtain⟨ps,h1,h2,h3⟩:=h;exact⟨ps,h1,aD h2 hv,fun q hq=>ay.move hF (fun _ h=>h) (h3 q hq)⟩
def Ky (d:Nat):Prop:=∀ (F:Nat->Prop) (w:World) (v:Value) (l:List Lx.Alt),ay YR d F w v l->d<=9->(∀ b,F b->b<w.heap.size)->(aH d l).length<=10000 ->
 Calls prog 65 #[v] w fun e w'=>∃ u,e=.returned u/\HR w.heap.size F w' u (aH d l)/\Below w.heap.size w w'
theorem afw:Ky 0:=by
 intro F w v l hl hd hL hn;obtain⟨rfl,rfl⟩:=hl;go_enter func65,ntmps65;go_wp2_with fail
 go_loopg [3,4] 0 (fun k vo i wr=>k=0/\vo=.slice none 0 0/\i=.int .i64 0/\wr=w)
 case atStart=>exact⟨rfl,rfl,rfl,rfl⟩
 case round =>
  obtain⟨rfl,rfl,rfl,rfl⟩:=hrel;go_wp2_with fail;go_ret;exact⟨_,rfl,⟨[],rfl,World.ownsRow_nil _ _ _ _,fun q h=>by cases h⟩,Below.refl _ _⟩
theorem afx {d:Nat}(IH:Ky d):Ky (d+1):=by
 intro F w v l hl hd hL hn;obtain⟨i0,hii,hz0,hz1,hz2⟩:=info_parts Tryz.Zi;obtain⟨va,vc,hv,hm⟩:=ay.len hl;subst hv;unfold maxLen at hm;rw[ag3]at hn |-;go_enter func65,ntmps65;go_wp2_with fail;have H0:Hid ((l.flatMap fun a=>jS d a.1)=[]++((l.drop 0).flatMap fun a=>jS d a.1)):=rfl
 go_loopg [3,4] l.length (fun k vo i wr=>∃ (j:Nat) (ho:List Lx.It),j+k=l.length/\i=.int .i64 j/\HR w.heap.size F wr vo ho/\Below w.heap.size w wr/\Hid ((l.flatMap fun a=>jS d a.1)=ho++((l.drop j).flatMap fun a=>jS d a.1)))
 case atStart=>exact⟨0,[],by omega,rfl,⟨[],rfl,World.ownsRow_nil _ _ _ _,fun q h=>by cases h⟩,Below.refl _ _,H0⟩
 case round =>
  clear H0;revert wr;intro wz hrel;obtain⟨j,ho,hk,rfl,hz,hbz,HZ⟩:=hrel;obtain⟨oa,oc,tN,uZ⟩:=aI hz.choose_spec.2.1;subst tN
  by_cases hlt:j<l.length
  ·have h1:ay YR (d+1) F wz _ l:=ay.move (fun b hb'=>hbz.block b (hL b hb')) (fun _ h=>h) hl
   obtain⟨gb,cap,vi,hv,hg,hi,hc⟩:=Seq.at h1 (fun _=>rfl) hlt;cases hv;have hz2:=HZ.out;rw[List.drop_eq_getElem_cons hlt,List.flatMap_cons]at hz2;generalize l[j]=x at hi hc hz2;obtain⟨its,prec,pa⟩:=x;obtain⟨ia,ic,iF,him⟩:=Seq.len hi;subst iF;unfold maxLen at him;have c0:wz.cell? ⟨gb,j*3,none⟩=some (.slice ia its.length ic):=hc 0 (by decide);have HZ2:Hid (_=ho++((its.drop 0).flatMap (uJ d)++(l.drop (j+1)).flatMap fun a=>jS d a.1)):=hz2;clear h1 hc hz2 HZ;go_wp2_with fail
   go_loopg [3,5] its.length (fun k vo i wr=>∃ (m:Nat) (ho:List Lx.It),m+k=its.length/\i=.int .i64 m/\HR w.heap.size F wr vo ho/\Below w.heap.size w wr/\Hid ((l.flatMap fun a=>jS d a.1)=ho++((its.drop m).flatMap (uJ d)++(l.drop (j+1)).flatMap fun a=>jS d a.1)))
   case atStart=>exact⟨0,ho,by omega,rfl,hz,hbz,HZ2⟩
   case round =>
    clear HZ2 hz uZ oa oc;obtain⟨m,ho,hkm,rfl,hr,hbr,HR1⟩:=hrel;have br:∀ b,F b->wr.heap[b]?=wz.heap[b]?:=fun b hb=>(hbr.block b (hL b hb)).trans (hbz.block b (hL b hb)).symm
    have qo:=hbr.size;have eg:wr.heap[gb]?=wz.heap[gb]?:=br gb hg;have d0:wr.cell? ⟨gb,j*3,none⟩=some (.slice ia its.length ic):=(World.cell?_of_block (w:=wz) eg).trans c0;obtain⟨ps,hp1,hp2,hp3⟩:=hr;obtain⟨oa,oc,tN,uZ⟩:=aI hp2;subst tN;unfold maxLen at uZ
    by_cases bF:m<its.length
    ·have hir:bJ YR d F wr _ its:=bJ.move br (fun _ h=>h) hi
     unfold bJ nV at hir;obtain⟨n,rP,va,hv,hn2,ha,hcc⟩:=Seq.at hir (fun _=>rfl) bF;cases hv;have hr2:=HR1.out;rw[List.drop_eq_getElem_cons bF,List.flatMap_cons,List.append_assoc]at hr2;generalize its[m]=it at ha hcc hr2;obtain⟨sa,sc,hva,-⟩:=ay.len ha;subst hva;have e0:wr.cell? ⟨n,m*5,none⟩=some (.int .i64 (it.kind:Int)):=hcc 0 (by decide);have e1:wr.cell? ⟨n,m*5+1,none⟩=some (.string it.name):=hcc 1 (by decide);have e2:wr.cell? ⟨n,m*5+2,none⟩=some (.int .u8 (it.mark:Int)):=hcc 2 (by decide);have e3:wr.cell? ⟨n,m*5+3,none⟩=some (.slice sa it.alts.length sc):=hcc 3 (by decide);have e4:wr.cell? ⟨n,m*5+4,none⟩=some (.int .i64 (it.place:Int)):=hcc 4 (by decide);have ln:n<wr.heap.size:=by have:=hL n hn2;omega
     have lD:gb<wr.heap.size:=by have:=hL gb hg;omega
     have hnn:=hn;rw[hr2,List.length_append,List.length_append]at hnn;have e5:uJ d it=(if Lx.hlp it=true then [it] else [])++aH d it.alts:=rfl;rw[e5]at hr2 hnn;rw[List.length_append]at hnn;clear hcc hir c0 HR1 e5;obtain⟨W1,hW1⟩:∃ W1,W1=wr.alloc (.cells #[.int .i64 (it.kind:Int),.string it.name,.int .u8 (it.mark:Int),.slice sa it.alts.length sc,.int .i64 (it.place:Int)] 148):=⟨_,rfl⟩;have hb1:Below wr.heap.size wr W1:=by rw[hW1];exact (Below.refl _ _).alloc (lr0) _
     have hs1:W1.heap.size=wr.heap.size+1:=by rw[hW1];simp
     have kx:aj W1 wr.heap.size #[.int .i64 (it.kind:Int),.string it.name,.int .u8 (it.mark:Int),.slice sa it.alts.length sc,.int .i64 (it.place:Int)] 148:=by rw[hW1];exact aj.new wr _ 148
     have hone:=ZP (q:=(.slice sa it.alts.length sc,it)) (ay.nine ha (by omega));have amW:ps.length=ho.length:=by rw[<-hp1,List.length_map]
     by_cases hh:Lx.hlp it=true
     ·rw[if_pos hh]at hr2 hnn
      have HR2:Hid _:=hr2;clear hr2;have hcase:(it.kind=2)\/(it.kind≠2/\it.mark≠0):=by
       by_cases h2:it.kind=2
       ·exact .inl h2
       ·refine .inr ⟨h2,?_⟩
        simpa [Lx.hlp,h2]using hh
      clear hh;have o2:=(hp2.alloc (.cells #[.int .i64 (it.kind:Int),.string it.name,.int .u8 (it.mark:Int),.slice sa it.alts.length sc,.int .i64 (it.place:Int)] 148)).alloc (.cells #[.int .i64 (it.kind:Int),.string it.name,.int .u8 (it.mark:Int),.slice sa it.alts.length sc,.int .i64 (it.place:Int)] 148);have kx':=aj.new wr #[.int .i64 (it.kind:Int),.string it.name,.int .u8 (it.mark:Int),.slice sa it.alts.length sc,.int .i64 (it.place:Int)] 148;have kn:aj ((wr.alloc (.cells #[.int .i64 (it.kind:Int),.string it.name,.int .u8 (it.mark:Int),.slice sa it.alts.length sc,.int .i64 (it.place:Int)] 148)).alloc (.cells #[.int .i64 (it.kind:Int),.string it.name,.int .u8 (it.mark:Int),.slice sa it.alts.length sc,.int .i64 (it.place:Int)] 148)) (wr.heap.size+1) #[.int .i64 (it.kind:Int),.string it.name,.int .u8 (it.mark:Int),.slice sa it.alts.length sc,.int .i64 (it.place:Int)] 148:=by simpa using aj.new (wr.alloc (.cells #[.int .i64 (it.kind:Int),.string it.name,.int .u8 (it.mark:Int),.slice sa it.alts.length sc,.int .i64 (it.place:Int)] 148)) #[.int .i64 (it.kind:Int),.string it.name,.int .u8 (it.mark:Int),.slice sa it.alts.length sc,.int .i64 (it.place:Int)] 148
      rcases hcase with hk2 | ⟨hk2,hm2⟩
      have hkb:((it.kind:Int) == 2)=true:=by simp[hk2]
      have HK:Hid (it.kind=2):=hk2;clear hk2
      rotate_left
      have hkb:((it.kind:Int) == 2)=false:=bq0 (by omega);have hmb:((it.mark:Int) == 0)=false:=bq0 (by omega);have HK:Hid (it.kind≠2):=hk2;have HM:Hid (it.mark≠0):=hm2;clear hk2 hm2
      all_goals
       go_wp2_with (at_builtin;go_loud (refine wpList_append_own_at _ rfl _ _ 133 rfl w.heap.size 148 i0 _ 5 64 underlying133 hii hz0 hz1 hz2 rfl (by decide) (.slice oa ho.length oc) _ _ rfl o2 ⟨_,0,none⟩ 1 1 (YR.cI (.slice sa it.alts.length sc,it)) rfl rfl (bP kn) hone (by unfold maxLen;omega) (by omega) (by simp;omega) ?_;intro v3 w3 hown3 hgrow3 _ iU;obtain⟨Bb,Bc,hv3,-⟩:=aI hown3;subst hv3;have kx3:aj w3 wr.heap.size _ 148:=(kx'.alloc _).grown hgrow3 (fun e=>by have:=(hp2.lt _ e.symm).2;omega);have x3:w3.cell? ⟨wr.heap.size,3,none⟩=some (.slice sa it.alts.length sc):=kx3.cell 3))
       have hb3:Below w.heap.size w w3:=((hbr.alloc qo _).alloc (by simp;omega) _).grown hgrow3 (by simp;omega) (fun k hk=>(hp2.lt k hk).1);obtain⟨ho3,Ml⟩:∃ ho3,ho3=ho++[it]:=⟨_,rfl⟩;have hl3:ho3.length=ho.length+1:=by rw[Ml];simp
       obtain⟨pJ,hps⟩:∃ pJ,pJ=ps++[(.slice sa it.alts.length sc,it)]:=⟨_,rfl⟩;have Ij:pJ.map Prod.snd=ho3:=by rw[hps,Ml,List.map_append,hp1];rfl
       have Ik:w3.ownsRow w.heap.size 148 5 (.slice Bb ho3.length Bc) ho3.length (pJ.flatMap YR.cI):=by rw[hps,List.flatMap_append,hl3];simpa using hown3
       have Q8:∀ q,q∈pJ->ay YR 9 F w3 q.1 q.2.alts:=by
        intro q hq;have h9:ay YR 9 F wr q.1 q.2.alts:=by
         rw[hps]at hq;rcases List.mem_append.1 hq with hq | hq
         ·exact hp3 q hq
         ·rw[List.mem_singleton.1 hq];exact ay.nine ha (by omega)
        exact ay.move (fun b hb=>(hb3.block b (hL b hb)).trans (hbr.block b (hL b hb)).symm) (fun _ h=>h) h9
       have HR3:Hid ((l.flatMap fun a=>jS d a.1)=ho3++(aH d it.alts++((its.drop (m+1)).flatMap (uJ d)++(l.drop (j+1)).flatMap fun a=>jS d a.1))):=by
        have:=HR2.out;show _=_;rw[this,Ml];simp[List.append_assoc]
       rw[<-hl3];simp only[List.length_cons,List.length_nil]at hnn;have akp:ho3.length+(aH d it.alts).length<=10000:=by omega
       clear HR2 o2 Ml hps hown3 iU hl3 hnn;have hs3:=hb3.size;have SV:∀ b,F b->w3.heap[b]?=wr.heap[b]?:=fun b hb=>(hb3.block b (hL b hb)).trans (hbr.block b (hL b hb)).symm
       have hL3:∀ b,F b->b<w3.heap.size:=fun b hb=>by have:=hL b hb;omega
       refine (IH F w3 _ _ (ay.move SV (fun _ h=>h) ha) (by omega) hL3 (by omega)).mono ?_;rintro e w4 ⟨u,rfl,⟨qs,hq1,hq2,hq3⟩,hb4⟩;have Il:Below w.heap.size w w4:=hb3.trans (hb4.mono hs3);have hs4:=hb4.size;have qP:=aD (w':=w4) Ik (fun g hg=>hb4.block g (Ik.lt g hg).2);have Im:∀ q,q∈pJ->ay YR 9 F w4 q.1 q.2.alts:=fun q hq=>ay.move (fun b hb=>hb4.block b (hL3 b hb)) (fun _ h=>h) (Q8 q hq)
       rcases hq2.2 with ⟨hu,hzero⟩ | ⟨g4,cap4,Mq,hu,hg4,Mr,hc4,AJ,-,-⟩
       ·subst hu
        have hnil:aH d it.alts=[]:=List.eq_nil_of_length_eq_zero hzero;have HR4:Hid ((l.flatMap fun a=>jS d a.1)=ho3++((its.drop (m+1)).flatMap (uJ d)++(l.drop (j+1)).flatMap fun a=>jS d a.1)):=by have:=HR3.out;rw[hnil,List.nil_append]at this;exact this
        clear HR3 hnil hq2 hq1 hq3 hzero
        go_wp2_with (at_builtin;refine wpList_append_own_none rfl _ _ 133 rfl w.heap.size 148 i0 5 underlying133 hii (.slice Bb ho3.length Bc) _ _ rfl qP rfl ?_)
        go_roundg (its.length - (m+1))
        case measure=>omega
        case rel=>exact⟨m+1,ho3,by omega,by go_num,⟨pJ,Ij,qP,Im⟩,Il,HR4⟩
       ·subst hu
        have hlq:qs.length=(aH d it.alts).length:=by rw[<-hq1,List.length_map]
        unfold maxLen at AJ;have HR4:Hid ((l.flatMap fun a=>jS d a.1)=(ho3++aH d it.alts)++((its.drop (m+1)).flatMap (uJ d)++(l.drop (j+1)).flatMap fun a=>jS d a.1)):=by have:=HR3.out;rw[<-List.append_assoc]at this;exact this
        clear HR3
        go_wp2_with (at_builtin;refine wpList_append_own_at _ rfl _ _ 133 rfl w.heap.size 148 i0 _ 5 64 underlying133 hii hz0 hz1 hz2 rfl (by decide) (.slice Bb ho3.length Bc) _ _ rfl qP ⟨g4,0,none⟩ (aH d it.alts).length cap4 (qs.flatMap YR.cI) rfl (by rw[QG,hlq]) (hq2.cells rfl) (Zj hq3) (by unfold maxLen;omega) (by omega) (by omega) ?_;intro v5 w5 hown5 bf _ jT;obtain⟨dL,dM,hv5,-⟩:=aI hown5;subst hv5)
        have hb5:Below w.heap.size w w5:=Il.grown bf (by omega) (fun k hk=>(qP.lt k hk).1);have Q9:∀ q,q∈pJ++qs->ay YR 9 F w5 q.1 q.2.alts:=fun q hq=>ay.move (fun b hb=>bf.block b (by have:=hL b hb;omega) (fun e=>by have:=(qP.lt b e.symm).1;have:=hL b hb;omega)) (fun _ h=>h) ((List.mem_append.1 hq).elim (Im q) (hq3 q))
        go_roundg (its.length - (m+1))
        case measure=>omega
        case rel=>exact⟨m+1,ho3++aH d it.alts,by omega,by go_num,⟨pJ++qs,by rw[List.map_append,Ij,hq1],by rw[List.length_append,List.flatMap_append];exact hown5,Q9⟩,hb5,HR4⟩
     ·rw[if_neg hh]at hr2 hnn
      have hk2:it.kind≠2/\it.mark=0:=by simpa [Lx.hlp]using hh
      have hkb:((it.kind:Int) == 2)=false:=bq0 (by omega);have hmb:((it.mark:Int) == 0)=true:=by simp[hk2.2]
      have HK:Hid (it.kind≠2/\it.mark=0):=hk2;have HR2:Hid _:=hr2;clear hr2 hk2 hh;go_wp2_with fail;rw[<-hW1];have x3:W1.cell? ⟨wr.heap.size,3,none⟩=some (.slice sa it.alts.length sc):=kx.cell 3;obtain⟨w3,hw3⟩:∃ w3,w3=W1:=⟨_,rfl⟩;rw[<-hw3];have hb3:Below w.heap.size w w3:=by rw[hw3];exact hbr.trans (hb1.mono qo)
      have Ik:w3.ownsRow w.heap.size 148 5 (.slice oa ho.length oc) ho.length (ps.flatMap YR.cI):=aD hp2 fun g hg=>by rw[hw3];exact hb1.block g (hp2.lt g hg).2
      have Q8:∀ q,q∈ps->ay YR 9 F w3 q.1 q.2.alts:=fun q hq=>ay.move (fun b hb=>(hb3.block b (hL b hb)).trans (hbr.block b (hL b hb)).symm) (fun _ h=>h) (hp3 q hq)
      obtain⟨Bb,Bc,ho3,pJ,Ij,rfl,rfl,rfl,rfl⟩:∃ Bb Bc ho3,∃ pJ:List (Value × Lx.It),pJ.map Prod.snd=ho3/\Bb=oa/\Bc=oc/\ho3=ho/\pJ=ps:=⟨oa,oc,ho,ps,hp1,rfl,rfl,rfl,rfl⟩;have HR3:Hid ((l.flatMap fun a=>jS d a.1)=ho3++(aH d it.alts++((its.drop (m+1)).flatMap (uJ d)++(l.drop (j+1)).flatMap fun a=>jS d a.1))):=HR2.out;simp only[List.length_nil]at hnn;have akp:ho3.length+(aH d it.alts).length<=10000:=by omega
      clear hnn;clear HR2;have hs3:=hb3.size;have SV:∀ b,F b->w3.heap[b]?=wr.heap[b]?:=fun b hb=>(hb3.block b (hL b hb)).trans (hbr.block b (hL b hb)).symm
      have hL3:∀ b,F b->b<w3.heap.size:=fun b hb=>by have:=hL b hb;omega
      refine (IH F w3 _ _ (ay.move SV (fun _ h=>h) ha) (by omega) hL3 (by omega)).mono ?_;rintro e w4 ⟨u,rfl,⟨qs,hq1,hq2,hq3⟩,hb4⟩;have Il:Below w.heap.size w w4:=hb3.trans (hb4.mono hs3);have hs4:=hb4.size;have qP:=aD (w':=w4) Ik (fun g hg=>hb4.block g (Ik.lt g hg).2);have Im:∀ q,q∈pJ->ay YR 9 F w4 q.1 q.2.alts:=fun q hq=>ay.move (fun b hb=>hb4.block b (hL3 b hb)) (fun _ h=>h) (Q8 q hq)
      rcases hq2.2 with ⟨hu,hzero⟩ | ⟨g4,cap4,Mq,hu,hg4,Mr,hc4,AJ,-,-⟩
      ·subst hu
       have hnil:aH d it.alts=[]:=List.eq_nil_of_length_eq_zero hzero;have HR4:Hid ((l.flatMap fun a=>jS d a.1)=ho3++((its.drop (m+1)).flatMap (uJ d)++(l.drop (j+1)).flatMap fun a=>jS d a.1)):=by have:=HR3.out;rw[hnil,List.nil_append]at this;exact this
       clear HR3 hnil hq2 hq1 hq3 hzero
       go_wp2_with (at_builtin;refine wpList_append_own_none rfl _ _ 133 rfl w.heap.size 148 i0 5 underlying133 hii (.slice Bb ho3.length Bc) _ _ rfl qP rfl ?_)
       go_roundg (its.length - (m+1))
       case measure=>omega
       case rel=>exact⟨m+1,ho3,by omega,by go_num,⟨pJ,Ij,qP,Im⟩,Il,HR4⟩
      ·subst hu
       have hlq:qs.length=(aH d it.alts).length:=by rw[<-hq1,List.length_map]
       unfold maxLen at AJ;have HR4:Hid ((l.flatMap fun a=>jS d a.1)=(ho3++aH d it.alts)++((its.drop (m+1)).flatMap (uJ d)++(l.drop (j+1)).flatMap fun a=>jS d a.1)):=by have:=HR3.out;rw[<-List.append_assoc]at this;exact this
       clear HR3
       go_wp2_with (at_builtin;refine wpList_append_own_at _ rfl _ _ 133 rfl w.heap.size 148 i0 _ 5 64 underlying133 hii hz0 hz1 hz2 rfl (by decide) (.slice Bb ho3.length Bc) _ _ rfl qP ⟨g4,0,none⟩ (aH d it.alts).length cap4 (qs.flatMap YR.cI) rfl (by rw[QG,hlq]) (hq2.cells rfl) (Zj hq3) (by unfold maxLen;omega) (by omega) (by omega) ?_;intro v5 w5 hown5 bf _ jT;obtain⟨dL,dM,hv5,-⟩:=aI hown5;subst hv5)
       have hb5:Below w.heap.size w w5:=Il.grown bf (by omega) (fun k hk=>(qP.lt k hk).1);have Q9:∀ q,q∈pJ++qs->ay YR 9 F w5 q.1 q.2.alts:=fun q hq=>ay.move (fun b hb=>bf.block b (by have:=hL b hb;omega) (fun e=>by have:=(qP.lt b e.symm).1;have:=hL b hb;omega)) (fun _ h=>h) ((List.mem_append.1 hq).elim (Im q) (hq3 q))
       go_roundg (its.length - (m+1))
       case measure=>omega
       case rel=>exact⟨m+1,ho3++aH d it.alts,by omega,by go_num,⟨pJ++qs,by rw[List.map_append,Ij,hq1],by rw[List.length_append,List.flatMap_append];exact hown5,Q9⟩,hb5,HR4⟩
    ·have:m=its.length:=by omega
     subst this;have hr2:=HR1.out;rw[List.drop_length,List.flatMap_nil,List.nil_append]at hr2;have HR2:Hid _:=hr2;clear c0 hr2 HR1;go_wp2_with fail;go_roundg (l.length - (j+1))
     case measure=>omega
     case rel=>exact⟨j+1,ho,by omega,by go_num,⟨ps,hp1,hp2,hp3⟩,hbr,HR2⟩
  ·have:j=l.length:=by omega
   subst this;have hz2:=HZ.out;rw[List.drop_length,List.flatMap_nil,List.append_nil]at hz2;have HZ2:Hid _:=hz2;clear hz2 HZ;go_wp2_with fail;go_ret;refine⟨_,rfl,?_,hbz⟩;rw[HZ2.out];exact hz
theorem Po:∀ d,Ky d
 | 0=>afw
 | d+1=>afx (Po d)
theorem Pp (n:Nat):(qw n).size<=n+1:=by
 show ((Lib.decDigits n).toArray).size<=n+1;rw[List.size_toArray]
 induction n using Nat.strongRecOn with
 | _ n IH =>
  rw[Lib.decDigits]
  split
  ·simp
  ·have:=IH (n / 10) (by omega)
   rw[List.length_append,List.length_singleton];omega
theorem aic (w:World)(k:Int):(convert 162 9 (.slice (some ⟨w.heap.size,0,none⟩) 1 1)).run prog (w.alloc (.cells #[.int .u8 k] 5))=.ok (.string ⟨#[UInt8.ofNat k.toNat]⟩) (w.alloc (.cells #[.int .u8 k] 5)):=by
 rw[run_convert_bytes_string _ 162 9 5 _ 1 1 (by kernel_rfl) (by kernel_rfl) (by kernel_rfl),run_bytesToString _ ⟨w.heap.size,0,none⟩ 1 1 [k]]
 ·rfl
 ·have h0:(w.alloc (.cells #[.int .u8 k] 5)).cell? ⟨w.heap.size,0,none⟩=some (.int .u8 k):=(aj.new w _ 5).cell 0
  simp[loadCells,loadCellsFrom,go_sem,h0]
theorem afy (n:Nat):∀ (w:World),n<=100000->Calls prog 66 #[.int .i64 (n:Int)] w fun e w'=>e=.returned (.string (qw n))/\Below w.heap.size w w':=by
 induction n using Nat.strongRecOn with
 | _ n IH =>
  intro w hn;have hc:=aic;go_enter func66,ntmps66
  by_cases h10:n<10
  ·go_wp2_with fail
   go_ret;refine⟨?_,?_⟩
   ·have:qw n=⟨#[UInt8.ofNat (48+n)]⟩:=by unfold qw;rw[Lib.decDigits,dif_pos h10]
    rw[this];rfl
   ·exact (Below.refl _ _).alloc (lr0) _
  ·go_wp2_with fail
   have e1:(n:Int) / 10=((n / 10:Nat):Int):=by omega
   rw[e1];clear e1;refine (IH (n / 10) (by omega) w (by omega)).mono ?_;rintro e w1 ⟨rfl,hb1⟩;have hsz:=Pp (n / 10);have hsz2:(qw (n / 10)).size<=10001:=by omega
   clear hsz;go_wp2_with fail;go_ret;refine⟨?_,(hb1.alloc hb1.size _)⟩;have:qw n=qw (n / 10)++⟨#[UInt8.ofNat (48+n % 10)]⟩:=by
    unfold qw;rw[Lib.decDigits,dif_neg h10];apply ByteArray.ext;simp
   have e3:UInt8.ofNat (48+n % 10)=48+UInt8.ofNat (n % 10):=by simp
   rw[this,e3];rfl
end Go.Proofs.YtlcppnabbicmoaaGreatDoor

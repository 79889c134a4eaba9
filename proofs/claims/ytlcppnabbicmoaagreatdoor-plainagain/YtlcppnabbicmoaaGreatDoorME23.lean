import Derived.Test.YtlcppnabbicmoaaGreatDoorME22
set_option maxHeartbeats 8000000
set_option maxRecDepth 1000000
namespace Go.Proofs.YtlcppnabbicmoaaGreatDoor
open Go.RowKit
open Lx (Tk)
open Tr
theorem Tryz.info148:(Tryz.prog.info? 148).map (fun i=>(i.zero,i.size,i.bytes))=some (some (.agg #[.int .i64 0,.string ⟨#[]⟩,.int .u8 0,.slice none 0 0,.int .i64 0]),5,64):=by kernel_rfl
theorem Tryz.info145:(Tryz.prog.info? 145).map (fun i=>(i.zero,i.size,i.bytes))=some (some (.agg #[.slice none 0 0,.string ⟨#[]⟩,.int .i64 0]),3,48):=by kernel_rfl
abbrev KAr (d:Nat):(Nat->Prop)->World->Value->Lx.It->Prop:=fun F w va it=>AltsIn YR d F w va it.alts
theorem ralt_rx (t:Bool) (s:ByteArray) (q:Nat) (w:World) (nest:Int) (n a:Nat) (sgv:Value) (sg:List ByteArray) (h:RX s q w nest n a sgv sg) :
  Calls Tryz.prog 141 #[.pointer (some ⟨q,0,none⟩),.bool t] w fun e w'=>e=.returned (.agg #[.slice none 0 0,.string ⟨#[]⟩,.int .i64 0])/\Mv q sgv w w'/\RX s q w' nest n a sgv sg:=by
 have hp:=h.lt;obtain⟨i,W,kq⟩:=h.blk;have c4:w.cell? ⟨q,4,none⟩=some (.int .i64 (n:Int)):=kq.cell 4;have h0:((n:Int) == 0)=false:=beq_eq_false_iff_ne.2 (by have:=h.pos;omega);have h2:=(h.alloc (.cells #[.slice none 0 0,.string ⟨#[]⟩,.int .i64 0] 145)).alloc (.cells #[.slice none 0 0,.string ⟨#[]⟩,.int .i64 0] 145);have M0:=((Mv.refl q sgv w).alloc (.cells #[.slice none 0 0,.string ⟨#[]⟩,.int .i64 0] 145)).alloc (.cells #[.slice none 0 0,.string ⟨#[]⟩,.int .i64 0] 145);have fB:sgv.ownBlock≠some w.heap.size:=fun e=>by have:=h.owl _ e;omega
 cases t
 all_goals
  go_enter Tryz.func141,Tryz.ntmps141;go_wp2_with fail
  go_loop [] True 0
  case atStart=>trivial
  case round =>
   go_wp2_with (first
    | (go_at_call 150;refine (is_rx h2 _).mono ?_;rintro e w' ⟨rfl,hw⟩;obtain rfl:=hw.symm))
   refine bodyPost_ret (v:=.agg #[.slice none 0 0,.string ⟨#[]⟩,.int .i64 0]) (by simp[results,Tryz.results141,go_sem]) rfl ?_;exact⟨rfl,M0,h2⟩
theorem ralt_all {d:Nat}(HI:RItemSaid d):RAltSaid d:=by
 intro s q w ts nest sgv sg hnest h;obtain⟨i0,hi,hz0,hz1,hz2⟩:=info_parts Tryz.info148;have hp:=h.lt;have HO:Hid (nest=8 - (d:Int)):=hnest;have hcnt:=h.cnt;clear hnest;have h2:=(h.alloc (.cells #[.slice none 0 0,.string ⟨#[]⟩,.int .i64 0] 145)).alloc (.cells #[.slice none 0 0,.string ⟨#[]⟩,.int .i64 0] 145);have kB:=(Blk.new w #[.slice none 0 0,.string ⟨#[]⟩,.int .i64 0] 145).alloc (.cells #[.slice none 0 0,.string ⟨#[]⟩,.int .i64 0] 145);have kC:=Blk.new (w.alloc (.cells #[.slice none 0 0,.string ⟨#[]⟩,.int .i64 0] 145)) #[.slice none 0 0,.string ⟨#[]⟩,.int .i64 0] 145;rw[show (w.alloc (.cells #[.slice none 0 0,.string ⟨#[]⟩,.int .i64 0] 145)).heap.size=w.heap.size+1 by simp]at kC;have M0:=((Mv.refl q sgv w).alloc (.cells #[.slice none 0 0,.string ⟨#[]⟩,.int .i64 0] 145)).alloc (.cells #[.slice none 0 0,.string ⟨#[]⟩,.int .i64 0] 145);have f0B:sgv.ownBlock≠some w.heap.size:=h.fresh (Nat.le_refl _);have f0C:sgv.ownBlock≠some (w.heap.size+1):=h.fresh (by omega);obtain⟨top,htop⟩:∃ top,top=(d == 8):=⟨_,rfl⟩;rw[<-htop];have HTOP:Hid _:=htop;clear htop;go_enter Tryz.func141,Tryz.ntmps141;go_wp2_with fail
 go_loopg [] (ts.length+1) (fun k wr=>(∃ (tsr:List Tk) (acc:List Lx.It) (v sgr:Value) (slr:List ByteArray) (f:Nat),tsr.length+1=k/\tsr.length<=f/\acc.length+tsr.length<=ts.length/\RR s q wr tsr nest sgr slr/\Blk wr (w.heap.size+1) #[v,.string ⟨#[]⟩,.int .i64 0] 145/\Blk wr w.heap.size #[.slice none 0 0,.string ⟨#[]⟩,.int .i64 0] 145/\sgr.ownBlock≠some w.heap.size/\sgr.ownBlock≠some (w.heap.size+1) /\
   RGrow (w.heap.size+2) sgr wr 148 5 YR.cI (KAr d) v acc/\Mv q sgv w wr/\Nx sgv w sgr/\Hid (Lx.pItems (Lx.pGroupAt d) f tsr acc=Lx.pItems (Lx.pGroupAt d) ts.length ts [])) ∨
  (∃ (n a:Nat) (xa:Option Addr) (xk xc:Nat) (sgr:Value) (slr:List ByteArray),k=0/\RX s q wr nest n a sgr slr/\Blk wr (w.heap.size+1) #[.slice xa xk xc,.string ⟨#[]⟩,.int .i64 0] 145/\Blk wr w.heap.size #[.slice none 0 0,.string ⟨#[]⟩,.int .i64 0] 145/\sgr.ownBlock≠some w.heap.size /\
   Mv q sgv w wr/\Nx sgv w sgr/\Hid (Lx.pAlt (Lx.pGroupAt d) top ts=.error (n,a))))
 case atStart=>exact .inl ⟨ts,[],_,sgv,sg,ts.length,rfl,Nat.le_refl _,by simp,h2,kC,kB,f0B,f0C,RGrow.nil _ _ _ _ _ _ _,M0,Nx.refl _ _,rfl⟩
 case round =>
  clear h2 kB kC M0;rcases hrel with ⟨tsr,acc,v,sgr,slr,f,hk,hf,hacc,hr,kCr,kBr,fB,fC,hgrow,M,X,hpi⟩ | ⟨n,a,xa,xk,xc,sgr,slr,hk,hx,kCf,kBf,fB,M,X,HE⟩
  ·have hne:=hr.wf.ne
   obtain⟨f',rfl⟩:∃ f',f=f'+1:=⟨f-1,by omega⟩;obtain⟨ps,F,hrg⟩:=hgrow;have hown:=hrg.1.2.1;obtain⟨va,vk,vc,rfl⟩:=own_form hown;have hwsz:=hr.wsz;have c2:wr.cell? ⟨q,2,none⟩=some (.string (Lx.refW (Lx.hd tsr))):=hr.blk.cell 2;have c4:wr.cell? ⟨q,4,none⟩=some (.int .i64 0):=hr.blk.cell 4;have lCr:=kCr.lt;cases hnm:Lx.isName (Lx.hd tsr)
   ·cases htk:Lx.isToken (Lx.hd tsr)
    ·by_cases hop:Lx.hd tsr=Lx.tOpen
     ·have HS:Hid (Lx.seesItem tsr=true):=by show _=_;unfold Lx.seesItem;rw[decide_eq_true hop];simp
      have HN:Hid _:=hnm;have HT:Hid _:=htk;have t40:((Lx.refW (Lx.hd tsr)).toList == [40])=true:=by rw[hop,Lx.refW_known (by decide),ByteArray.toList_eq];rfl
      clear hnm htk hop
      go_wp2_with (first
       | (go_at_call 116;refine (rIsName_any _ _ hwsz).mono ?_;rintro e w' ⟨rfl,hw⟩;obtain rfl:=hw.symm;rw[Lx.isName_refW,HN.out])
       | (go_at_call 139;refine (rIsToken_any _ _ hwsz).mono ?_;rintro e w' ⟨rfl,hw⟩;obtain rfl:=hw.symm;rw[Lx.isToken_refW,HT.out]))
      have HIx:=HI s q wr tsr nest sgr slr HO.out hr HS.out;rw[HN.out,HT.out]at HIx;refine HIx.mono ?_;intro e w1 he;clear HIx;cases hit:Lx.pItem (Lx.pGroupAt d) tsr with
      | error x =>
       obtain⟨n,a⟩:=x;obtain⟨v1,sg1,sl1,rfl,m1,x1,hx1,yk,yn,ym,ya,yl,yc,yp,rfl⟩:=he.err hit;have HE:Hid (Lx.pAlt (Lx.pGroupAt d) top ts=.error (n,a)):=by
        show _=_;unfold Lx.pAlt;rw[<-hpi.out];simp only[Lx.pItems];rw[if_pos HS.out,hit]
       clear hit he hpi;have hrg1:=hrg.mv (alts_movable YR d) m1 x1 (by omega);have hown1:=hrg1.1.2.1;have f1B:=x1.keep (b:=w.heap.size) kBr.lt fB;have f1C:=x1.keep (b:=w.heap.size+1) kCr.lt fC;have kC1:=kCr.mv m1 (by omega) fC;have kB1:=kBr.mv m1 (by omega) fB;have lC1:=kC1.lt;have M1:=M.trans X m1;have X1:=X.trans M.size x1;have cc0:w1.cell? ⟨w.heap.size+1,0,none⟩=some (.slice va vk vc):=kC1.cell 0;have hlt0:w.heap.size+1<w1.heap.size:=lC1
       go_wp2_with (first
        | (at_builtin;refine wpList_append_lies _ rfl _ _ 133 rfl (w.heap.size+2) 148 i0 _ 5 64 Tryz.underlying133 hi hz0 hz1 hz2 rfl (by decide) (.slice va vk vc) acc.length (ps.flatMap YR.cI) rfl ((hown1.alloc _).alloc _) ⟨w1.heap.size+1,0,none⟩ 1 1 [.int .i64 yk,.string yn,.int .u8 ym,.slice ya yl yc,.int .i64 yp] rfl rfl (by have:=news_of (Blk.new (w1.alloc (.cells #[.int .i64 yk,.string yn,.int .u8 ym,.slice ya yl yc,.int .i64 yp] 148)) #[.int .i64 yk,.string yn,.int .u8 ym,.slice ya yl yc,.int .i64 yp] 148);simpa using this) (by simp[Value.oneCell']) (by decide) (by unfold maxLen;omega) (by omega) (by simp;omega) _ rfl ?_;intro g3 cap3 w3 hown3 hgrow3 hat3 hlt3;have kC3:=((kC1.alloc _).alloc _).grown hgrow3 (fun e=>by have:=(hown1.lt _ e.symm).1;omega);have c03:w3.cell? ⟨w.heap.size+1,0,none⟩=some (.slice va vk vc):=kC3.cell 0;have f03:∀ i,w3.frozen? ⟨w.heap.size+1,i,none⟩=false:=kC3.frozen))
       have kB3:=((kB1.alloc _).alloc _).grown hgrow3 (fun e=>by have:=(hown1.lt _ e.symm).1;omega);have M3:=((M1.alloc _).alloc _).grown hgrow3 (fun k hk=>.inl (by have:=(hown1.lt _ hk).1;omega));have hx3:=(((hx1.alloc _).alloc _).move (hgrow3.block q (by simp;omega) (fun e=>by have:=(hown1.lt _ e.symm).1;omega)) (fun g hg=>hgrow3.block g (by have:=hx1.owl g hg;simp;omega) (fun e=>hrg1.2.2 g e.symm hg)));go_roundg 0
       case measure=>omega
       case rel =>
        exact .inr ⟨n,a,_,_,_,sg1,sl1,rfl,hx3.other _ _ (by omega) f1C,kC3.set 0 _,kB3.other (by omega) _,f1B,M3.new (by omega) _ _,X1,HE⟩
      | ok x =>
       obtain⟨it,ts1⟩:=x;obtain⟨v1,sg1,sl1,rfl,m1,x1,hr1,va1,rfl,hax⟩:=he.ok hit;obtain⟨ya,yl,yc,rfl⟩:=AltsIn.form hax;have hl1:=Lx.pItem_len (Lx.pGroupAt_len d) hit;have hl2:=hr.wf.tail_len;have HPI:Hid (Lx.pItems (Lx.pGroupAt d) f' ts1 (acc++[it])=Lx.pItems (Lx.pGroupAt d) ts.length ts []):=by
        show _=_;rw[<-hpi.out];simp only[Lx.pItems];rw[if_pos HS.out,hit]
       clear hit he hpi;have hrg1:=hrg.mv (alts_movable YR d) m1 x1 (by omega);have hown1:=hrg1.1.2.1;have f1B:=x1.keep (b:=w.heap.size) kBr.lt fB;have f1C:=x1.keep (b:=w.heap.size+1) kCr.lt fC;have kC1:=kCr.mv m1 (by omega) fC;have kB1:=kBr.mv m1 (by omega) fB;have lC1:=kC1.lt;have M1:=M.trans X m1;have X1:=X.trans M.size x1;have cc0:w1.cell? ⟨w.heap.size+1,0,none⟩=some (.slice va vk vc):=kC1.cell 0;have hlt0:w.heap.size+1<w1.heap.size:=lC1
       go_wp2_with (first
        | (at_builtin;refine wpList_append_lies _ rfl _ _ 133 rfl (w.heap.size+2) 148 i0 _ 5 64 Tryz.underlying133 hi hz0 hz1 hz2 rfl (by decide) (.slice va vk vc) acc.length (ps.flatMap YR.cI) rfl ((hown1.alloc _).alloc _) ⟨w1.heap.size+1,0,none⟩ 1 1 [.int .i64 (it.kind:Int),.string it.name,.int .u8 (it.mark:Int),.slice ya yl yc,.int .i64 (it.place:Int)] rfl rfl (by have:=news_of (Blk.new (w1.alloc (.cells #[.int .i64 (it.kind:Int),.string it.name,.int .u8 (it.mark:Int),.slice ya yl yc,.int .i64 (it.place:Int)] 148)) #[.int .i64 (it.kind:Int),.string it.name,.int .u8 (it.mark:Int),.slice ya yl yc,.int .i64 (it.place:Int)] 148);simpa using this) (by simp[Value.oneCell']) (by decide) (by unfold maxLen;omega) (by omega) (by simp;omega) _ rfl ?_;intro g3 cap3 w3 hown3 hgrow3 hat3 hlt3;have kC3:=((kC1.alloc _).alloc _).grown hgrow3 (fun e=>by have:=(hown1.lt _ e.symm).1;omega);have c03:w3.cell? ⟨w.heap.size+1,0,none⟩=some (.slice va vk vc):=kC3.cell 0;have f03:∀ i,w3.frozen? ⟨w.heap.size+1,i,none⟩=false:=kC3.frozen))
       have kB3:=((kB1.alloc _).alloc _).grown hgrow3 (fun e=>by have:=(hown1.lt _ e.symm).1;omega);have M3:=((M1.alloc _).alloc _).grown hgrow3 (fun k hk=>.inl (by have:=(hown1.lt _ hk).1;omega));have hr3:=(((hr1.alloc _).alloc _).move (hgrow3.block q (by simp;omega) (fun e=>by have:=(hown1.lt _ e.symm).1;omega)) (fun g hg=>hgrow3.block g (by have:=hr1.owl g hg;simp;omega) (fun e=>hrg1.2.2 g e.symm hg)));have G3:=RGrowBy.push (alts_movable YR d) hrg (q:=q) (by omega) (by omega) m1 x1 hr1.owl (.slice ya yl yc,it) hax (grown_trans (grown_alloc w1 _ none) (grown_alloc _ _ none)) hown3 hgrow3 hat3;go_roundg (ts1.length+1)
       case measure=>omega
       case rel =>
        exact .inl ⟨ts1,acc++[it],_,sg1,sl1,f',rfl,by omega,by simp;omega,hr3.other _ _ (by omega) f1C,kC3.set 0 _,kB3.other (by omega) _,f1B,f1C,RGrow.kept (alts_movable YR d) G3 (grown_set w3 (w.heap.size+1) 0 _) (fun k hk=>by cases hk;omega),M3.new (by omega) _ _,X1,HPI⟩
     ·have HS:Hid (Lx.seesItem tsr=false):=by show _=_;unfold Lx.seesItem;rw[decide_eq_false hop,hnm,htk];rfl
      have hpi0:Lx.pItems (Lx.pGroupAt d) ts.length ts []=.ok (acc,tsr):=by
       rw[<-hpi.out];simp only[Lx.pItems];rw[if_neg (by rw[HS.out];simp)]
      have HPA:Hid (Lx.pAlt (Lx.pGroupAt d) top ts=Lx.pPrec top acc tsr):=by
       show _=_;unfold Lx.pAlt;rw[hpi0]
      have HN:Hid _:=hnm;have HT:Hid _:=htk;have t40:((Lx.refW (Lx.hd tsr)).toList == [40])=false:=by
       refine text_no (l:=[40]) ?_;exact fun e=>hop ((Lx.refW_eq (b:=Lx.tOpen) (by decide) (by decide)).1 e)
      have hseq:=RGrow.seq (alts_movable YR d) ⟨ps,F,hrg⟩;have kCf:=kCr;have kBf:=kBr;clear hnm htk hop hpi0 hpi;cases top
      ·have HPB:Hid (Lx.pAlt (Lx.pGroupAt d) false ts=.ok ((acc,Lx.noText,0),tsr)):=by
        show _=_;rw[HPA.out];unfold Lx.pPrec;rw[if_neg (by simp)]
       have e0:wr.cell? ⟨w.heap.size,0,none⟩=some (.slice none 0 0):=kBf.cell 0;have e1:wr.cell? ⟨w.heap.size,1,none⟩=some (.string ⟨#[]⟩):=kBf.cell 1;have e2:wr.cell? ⟨w.heap.size,2,none⟩=some (.int .i64 0):=kBf.cell 2;have d0:wr.cell? ⟨w.heap.size+1,0,none⟩=some (.slice va vk vc):=kCf.cell 0;have d1:wr.cell? ⟨w.heap.size+1,1,none⟩=some (.string ⟨#[]⟩):=kCf.cell 1;have d2:wr.cell? ⟨w.heap.size+1,2,none⟩=some (.int .i64 0):=kCf.cell 2;have ff:∀ i,wr.frozen? ⟨w.heap.size,i,none⟩=false:=kBf.frozen
       go_wp2_with (first
        | (go_at_call 116;refine (rIsName_any _ _ hwsz).mono ?_;rintro e w' ⟨rfl,hw⟩;obtain rfl:=hw.symm;rw[Lx.isName_refW,HN.out])
        | (go_at_call 139;refine (rIsToken_any _ _ hwsz).mono ?_;rintro e w' ⟨rfl,hw⟩;obtain rfl:=hw.symm;rw[Lx.isToken_refW,HT.out]))
       refine bodyPost_ret (v:=.agg #[(.slice va vk vc),(.string ⟨#[]⟩),(.int .i64 0)]) (by simp[results,Tryz.results141,go_sem,e0,e1,e2]) rfl ?_;refine REnds.yes HPB.out (((M.new (Nat.le_refl _) _ _).new (Nat.le_refl _) _ _).new (Nat.le_refl _) _ _) X (((hr.other _ _ (by omega) fB).other _ _ (by omega) fB).other _ _ (by omega) fB) ⟨_,rfl,?_⟩;refine ItemsIn.move (fun b hb=>?_) (fun b hb=>⟨by have:=hb.1;omega,by simpa [World.setCell]using hb.2.1,hb.2.2⟩) hseq;have hbb:b≠w.heap.size:=by have:=hb.1;omega
       rw[Below.heap_setCell _ _ _ _ hbb,Below.heap_setCell _ _ _ _ hbb,Below.heap_setCell _ _ _ _ hbb]
      ·by_cases hpr:Lx.hd tsr=Lx.tPrec
       ·have HPD:Hid (Lx.hd tsr=Lx.tPrec):=hpr
        clear hpr
        go_wp2_with (first
         | (go_at_call 116;refine (rIsName_any _ _ hwsz).mono ?_;rintro e w' ⟨rfl,hw⟩;obtain rfl:=hw.symm;rw[Lx.isName_refW,HN.out])
         | (go_at_call 139;refine (rIsToken_any _ _ hwsz).mono ?_;rintro e w' ⟨rfl,hw⟩;obtain rfl:=hw.symm;rw[Lx.isToken_refW,HT.out])
         | (go_at_call 150;refine (is_rr hr Lx.tPrec (by decide) (by decide)).mono ?_;rintro e w' ⟨rfl,hw⟩;obtain rfl:=hw.symm;rw[decide_eq_true HPD.out])
         | (go_at_call 76;refine (next_rr hr (by rw[HPD.out];decide) (by rw[HPD.out];decide)).mono ?_;rintro e w2 ⟨rfl,sg2,m2,x2,hr2⟩;have kC2:=kCr.mv m2 (by omega) fC;have c12:w2.cell? ⟨q,1,none⟩=some (.int .i64 (Lx.pl tsr.tail:Int)):=hr2.blk.cell 1;have f2:∀ i,w2.frozen? ⟨w.heap.size+1,i,none⟩=false:=kC2.frozen;have c22:w2.cell? ⟨w.heap.size+1,2,none⟩=some (.int .i64 0):=kC2.cell 2))
        have f2C:=x2.keep (b:=w.heap.size+1) kCr.lt fC;have f2B:=x2.keep (b:=w.heap.size) kBr.lt fB;have kB2:=kBr.mv m2 (by omega) fB;have M2:=M.trans X m2;have X2:=X.trans M.size x2;have hrg2:=(hrg.mv (alts_movable YR d) m2 x2 (by omega)).kept (alts_movable YR d) (grown_set w2 (w.heap.size+1) 2 (.int .i64 (Lx.pl tsr.tail:Int))) (fun k hk=>by cases hk;omega);refine (rtoken_rr (hr2.other _ _ (by omega) f2C)).mono ?_;intro e w3 he;cases hpw:Lx.pWord Lx.isToken tsr.tail with
        | error x =>
         obtain⟨n,a⟩:=x;obtain⟨v3,sg3,sl3,rfl,m3,x3,hx3,rfl⟩:=he.err hpw;have HE:Hid (Lx.pAlt (Lx.pGroupAt d) true ts=.error (n,a)):=by
          show _=_;rw[HPA.out];unfold Lx.pPrec;rw[if_pos ⟨rfl,HPD.out⟩,hpw]
         clear hpw he;have f3B:=x3.keep (b:=w.heap.size) (by have:=kB2.lt;simpa [World.setCell]using this) f2B;have f3C:=x3.keep (b:=w.heap.size+1) (by have:=kC2.lt;simpa [World.setCell]using this) f2C;have kCf:=(kC2.set 2 (.int .i64 (Lx.pl tsr.tail:Int))).mv m3 (by omega) f2C;have kB2':Blk (w2.setCell ⟨w.heap.size+1,2,none⟩ (.int .i64 (Lx.pl tsr.tail:Int))) w.heap.size #[.slice none 0 0,.string ⟨#[]⟩,.int .i64 0] 145:=kB2.other (by omega) _;have kBf:=kB2'.mv m3 (by omega) f2B;have M3:=(M2.new (by omega) 2 (.int .i64 (Lx.pl tsr.tail:Int))).trans X2 m3;have X3:=X2.trans (M2.new (b:=w.heap.size+1) (by omega) 2 (.int .i64 (Lx.pl tsr.tail:Int))).size x3;have e0:w3.cell? ⟨w.heap.size,0,none⟩=some (.slice none 0 0):=kBf.cell 0;have e1:w3.cell? ⟨w.heap.size,1,none⟩=some (.string ⟨#[]⟩):=kBf.cell 1;have e2:w3.cell? ⟨w.heap.size,2,none⟩=some (.int .i64 0):=kBf.cell 2;have d0:w3.cell? ⟨w.heap.size+1,0,none⟩=some (.slice va vk vc):=kCf.cell 0;have d1:w3.cell? ⟨w.heap.size+1,1,none⟩=some (.string ⟨#[]⟩):=kCf.cell 1;have gg:∀ i,w3.frozen? ⟨w.heap.size+1,i,none⟩=false:=kCf.frozen;have d2:w3.cell? ⟨w.heap.size+1,2,none⟩=some (.int .i64 (Lx.pl tsr.tail:Int)):=kCf.cell 2;have ff:∀ i,w3.frozen? ⟨w.heap.size,i,none⟩=false:=kBf.frozen;go_wp2_with fail;refine bodyPost_ret (v:=.agg #[(.slice va vk vc),(.string ⟨#[]⟩),(.int .i64 (Lx.pl tsr.tail:Int))]) (by simp[results,Tryz.results141,go_sem,e0,e1,e2]) rfl ?_;exact REnds.no HE.out ((((M3.new (by omega) _ _).new (Nat.le_refl _) _ _).new (Nat.le_refl _) _ _).new (Nat.le_refl _) _ _) X3 ((((hx3.other _ _ (by omega) f3C).other _ _ (by omega) f3B).other _ _ (by omega) f3B).other _ _ (by omega) f3B) ⟨_,_,_,_,_,rfl⟩
        | ok x =>
         obtain⟨b3,ts3⟩:=x;obtain⟨v3,sg3,sl3,rfl,m3,x3,hr3,rfl⟩:=he.ok hpw;have HPB:Hid (Lx.pAlt (Lx.pGroupAt d) true ts=.ok ((acc,b3,Lx.pl tsr.tail),ts3)):=by
          show _=_;rw[HPA.out];unfold Lx.pPrec;rw[if_pos ⟨rfl,HPD.out⟩,hpw]
         clear hpw he;have hseq3:=RGrow.seq (alts_movable YR d) ⟨ps,F,hrg2.mv (alts_movable YR d) m3 x3 (by omega)⟩;have f3B:=x3.keep (b:=w.heap.size) (by have:=kB2.lt;simpa [World.setCell]using this) f2B;have f3C:=x3.keep (b:=w.heap.size+1) (by have:=kC2.lt;simpa [World.setCell]using this) f2C;have kCf:=(kC2.set 2 (.int .i64 (Lx.pl tsr.tail:Int))).mv m3 (by omega) f2C;have kB2':Blk (w2.setCell ⟨w.heap.size+1,2,none⟩ (.int .i64 (Lx.pl tsr.tail:Int))) w.heap.size #[.slice none 0 0,.string ⟨#[]⟩,.int .i64 0] 145:=kB2.other (by omega) _;have kBf:=kB2'.mv m3 (by omega) f2B;have M3:=(M2.new (by omega) 2 (.int .i64 (Lx.pl tsr.tail:Int))).trans X2 m3;have X3:=X2.trans (M2.new (b:=w.heap.size+1) (by omega) 2 (.int .i64 (Lx.pl tsr.tail:Int))).size x3;have e0:w3.cell? ⟨w.heap.size,0,none⟩=some (.slice none 0 0):=kBf.cell 0;have e1:w3.cell? ⟨w.heap.size,1,none⟩=some (.string ⟨#[]⟩):=kBf.cell 1;have e2:w3.cell? ⟨w.heap.size,2,none⟩=some (.int .i64 0):=kBf.cell 2;have d0:w3.cell? ⟨w.heap.size+1,0,none⟩=some (.slice va vk vc):=kCf.cell 0;have d1:w3.cell? ⟨w.heap.size+1,1,none⟩=some (.string ⟨#[]⟩):=kCf.cell 1;have gg:∀ i,w3.frozen? ⟨w.heap.size+1,i,none⟩=false:=kCf.frozen;have d2:w3.cell? ⟨w.heap.size+1,2,none⟩=some (.int .i64 (Lx.pl tsr.tail:Int)):=kCf.cell 2;have ff:∀ i,w3.frozen? ⟨w.heap.size,i,none⟩=false:=kBf.frozen;go_wp2_with fail;refine bodyPost_ret (v:=.agg #[(.slice va vk vc),(.string b3),(.int .i64 (Lx.pl tsr.tail:Int))]) (by simp[results,Tryz.results141,go_sem,e0,e1,e2]) rfl ?_
         refine REnds.yes HPB.out ((((M3.new (by omega) _ _).new (Nat.le_refl _) _ _).new (Nat.le_refl _) _ _).new (Nat.le_refl _) _ _) X3 ((((hr3.other _ _ (by omega) f3C).other _ _ (by omega) f3B).other _ _ (by omega) f3B).other _ _ (by omega) f3B) ⟨_,rfl,?_⟩;refine ItemsIn.move (fun b hb=>?_) (fun b hb=>⟨by have:=hb.1;omega,by simpa [World.setCell]using hb.2.1,hb.2.2⟩) hseq3;have hbb:b≠w.heap.size:=by have:=hb.1;omega
         have hbc:b≠w.heap.size+1:=by have:=hb.1;omega
         rw[Below.heap_setCell _ _ _ _ hbb,Below.heap_setCell _ _ _ _ hbb,Below.heap_setCell _ _ _ _ hbb,Below.heap_setCell _ _ _ _ hbc]
       ·have HPD:Hid (¬ Lx.hd tsr=Lx.tPrec):=hpr
        clear hpr;have HPB:Hid (Lx.pAlt (Lx.pGroupAt d) true ts=.ok ((acc,Lx.noText,0),tsr)):=by
         show _=_;rw[HPA.out];unfold Lx.pPrec;rw[if_neg (fun e=>HPD.out e.2)]
        have e0:wr.cell? ⟨w.heap.size,0,none⟩=some (.slice none 0 0):=kBf.cell 0;have e1:wr.cell? ⟨w.heap.size,1,none⟩=some (.string ⟨#[]⟩):=kBf.cell 1;have e2:wr.cell? ⟨w.heap.size,2,none⟩=some (.int .i64 0):=kBf.cell 2;have d0:wr.cell? ⟨w.heap.size+1,0,none⟩=some (.slice va vk vc):=kCf.cell 0;have d1:wr.cell? ⟨w.heap.size+1,1,none⟩=some (.string ⟨#[]⟩):=kCf.cell 1;have d2:wr.cell? ⟨w.heap.size+1,2,none⟩=some (.int .i64 0):=kCf.cell 2;have ff:∀ i,wr.frozen? ⟨w.heap.size,i,none⟩=false:=kBf.frozen
        go_wp2_with (first
         | (go_at_call 116;refine (rIsName_any _ _ hwsz).mono ?_;rintro e w' ⟨rfl,hw⟩;obtain rfl:=hw.symm;rw[Lx.isName_refW,HN.out])
         | (go_at_call 139;refine (rIsToken_any _ _ hwsz).mono ?_;rintro e w' ⟨rfl,hw⟩;obtain rfl:=hw.symm;rw[Lx.isToken_refW,HT.out])
         | (go_at_call 150;refine (is_rr hr Lx.tPrec (by decide) (by decide)).mono ?_;rintro e w' ⟨rfl,hw⟩;obtain rfl:=hw.symm;rw[decide_eq_false HPD.out]))
        refine bodyPost_ret (v:=.agg #[(.slice va vk vc),(.string ⟨#[]⟩),(.int .i64 0)]) (by simp[results,Tryz.results141,go_sem,e0,e1,e2]) rfl ?_;refine REnds.yes HPB.out (((M.new (Nat.le_refl _) _ _).new (Nat.le_refl _) _ _).new (Nat.le_refl _) _ _) X (((hr.other _ _ (by omega) fB).other _ _ (by omega) fB).other _ _ (by omega) fB) ⟨_,rfl,?_⟩;refine ItemsIn.move (fun b hb=>?_) (fun b hb=>⟨by have:=hb.1;omega,by simpa [World.setCell]using hb.2.1,hb.2.2⟩) hseq;have hbb:b≠w.heap.size:=by have:=hb.1;omega
        rw[Below.heap_setCell _ _ _ _ hbb,Below.heap_setCell _ _ _ _ hbb,Below.heap_setCell _ _ _ _ hbb]
    ·have HS:Hid (Lx.seesItem tsr=true):=by show _=_;unfold Lx.seesItem;rw[htk];simp
     have HN:Hid _:=hnm;have HT:Hid _:=htk;clear hnm htk
     go_wp2_with (first
      | (go_at_call 116;refine (rIsName_any _ _ hwsz).mono ?_;rintro e w' ⟨rfl,hw⟩;obtain rfl:=hw.symm;rw[Lx.isName_refW,HN.out])
      | (go_at_call 139;refine (rIsToken_any _ _ hwsz).mono ?_;rintro e w' ⟨rfl,hw⟩;obtain rfl:=hw.symm;rw[Lx.isToken_refW,HT.out]))
     have HIx:=HI s q wr tsr nest sgr slr HO.out hr HS.out;rw[HN.out,HT.out]at HIx;refine HIx.mono ?_;intro e w1 he;clear HIx;cases hit:Lx.pItem (Lx.pGroupAt d) tsr with
     | error x =>
      obtain⟨n,a⟩:=x;obtain⟨v1,sg1,sl1,rfl,m1,x1,hx1,yk,yn,ym,ya,yl,yc,yp,rfl⟩:=he.err hit;have HE:Hid (Lx.pAlt (Lx.pGroupAt d) top ts=.error (n,a)):=by
       show _=_;unfold Lx.pAlt;rw[<-hpi.out];simp only[Lx.pItems];rw[if_pos HS.out,hit]
      clear hit he hpi;have hrg1:=hrg.mv (alts_movable YR d) m1 x1 (by omega);have hown1:=hrg1.1.2.1;have f1B:=x1.keep (b:=w.heap.size) kBr.lt fB;have f1C:=x1.keep (b:=w.heap.size+1) kCr.lt fC;have kC1:=kCr.mv m1 (by omega) fC;have kB1:=kBr.mv m1 (by omega) fB;have lC1:=kC1.lt;have M1:=M.trans X m1;have X1:=X.trans M.size x1;have cc0:w1.cell? ⟨w.heap.size+1,0,none⟩=some (.slice va vk vc):=kC1.cell 0;have hlt0:w.heap.size+1<w1.heap.size:=lC1
      go_wp2_with (first
       | (at_builtin;refine wpList_append_lies _ rfl _ _ 133 rfl (w.heap.size+2) 148 i0 _ 5 64 Tryz.underlying133 hi hz0 hz1 hz2 rfl (by decide) (.slice va vk vc) acc.length (ps.flatMap YR.cI) rfl ((hown1.alloc _).alloc _) ⟨w1.heap.size+1,0,none⟩ 1 1 [.int .i64 yk,.string yn,.int .u8 ym,.slice ya yl yc,.int .i64 yp] rfl rfl (by have:=news_of (Blk.new (w1.alloc (.cells #[.int .i64 yk,.string yn,.int .u8 ym,.slice ya yl yc,.int .i64 yp] 148)) #[.int .i64 yk,.string yn,.int .u8 ym,.slice ya yl yc,.int .i64 yp] 148);simpa using this) (by simp[Value.oneCell']) (by decide) (by unfold maxLen;omega) (by omega) (by simp;omega) _ rfl ?_;intro g3 cap3 w3 hown3 hgrow3 hat3 hlt3;have kC3:=((kC1.alloc _).alloc _).grown hgrow3 (fun e=>by have:=(hown1.lt _ e.symm).1;omega);have c03:w3.cell? ⟨w.heap.size+1,0,none⟩=some (.slice va vk vc):=kC3.cell 0;have f03:∀ i,w3.frozen? ⟨w.heap.size+1,i,none⟩=false:=kC3.frozen))
      have kB3:=((kB1.alloc _).alloc _).grown hgrow3 (fun e=>by have:=(hown1.lt _ e.symm).1;omega);have M3:=((M1.alloc _).alloc _).grown hgrow3 (fun k hk=>.inl (by have:=(hown1.lt _ hk).1;omega));have hx3:=(((hx1.alloc _).alloc _).move (hgrow3.block q (by simp;omega) (fun e=>by have:=(hown1.lt _ e.symm).1;omega)) (fun g hg=>hgrow3.block g (by have:=hx1.owl g hg;simp;omega) (fun e=>hrg1.2.2 g e.symm hg)));go_roundg 0
      case measure=>omega
      case rel =>
       exact .inr ⟨n,a,_,_,_,sg1,sl1,rfl,hx3.other _ _ (by omega) f1C,kC3.set 0 _,kB3.other (by omega) _,f1B,M3.new (by omega) _ _,X1,HE⟩
     | ok x =>
      obtain⟨it,ts1⟩:=x;obtain⟨v1,sg1,sl1,rfl,m1,x1,hr1,va1,rfl,hax⟩:=he.ok hit;obtain⟨ya,yl,yc,rfl⟩:=AltsIn.form hax;have hl1:=Lx.pItem_len (Lx.pGroupAt_len d) hit;have hl2:=hr.wf.tail_len;have HPI:Hid (Lx.pItems (Lx.pGroupAt d) f' ts1 (acc++[it])=Lx.pItems (Lx.pGroupAt d) ts.length ts []):=by
       show _=_;rw[<-hpi.out];simp only[Lx.pItems];rw[if_pos HS.out,hit]
      clear hit he hpi;have hrg1:=hrg.mv (alts_movable YR d) m1 x1 (by omega);have hown1:=hrg1.1.2.1;have f1B:=x1.keep (b:=w.heap.size) kBr.lt fB;have f1C:=x1.keep (b:=w.heap.size+1) kCr.lt fC;have kC1:=kCr.mv m1 (by omega) fC;have kB1:=kBr.mv m1 (by omega) fB;have lC1:=kC1.lt;have M1:=M.trans X m1;have X1:=X.trans M.size x1;have cc0:w1.cell? ⟨w.heap.size+1,0,none⟩=some (.slice va vk vc):=kC1.cell 0;have hlt0:w.heap.size+1<w1.heap.size:=lC1
      go_wp2_with (first
       | (at_builtin;refine wpList_append_lies _ rfl _ _ 133 rfl (w.heap.size+2) 148 i0 _ 5 64 Tryz.underlying133 hi hz0 hz1 hz2 rfl (by decide) (.slice va vk vc) acc.length (ps.flatMap YR.cI) rfl ((hown1.alloc _).alloc _) ⟨w1.heap.size+1,0,none⟩ 1 1 [.int .i64 (it.kind:Int),.string it.name,.int .u8 (it.mark:Int),.slice ya yl yc,.int .i64 (it.place:Int)] rfl rfl (by have:=news_of (Blk.new (w1.alloc (.cells #[.int .i64 (it.kind:Int),.string it.name,.int .u8 (it.mark:Int),.slice ya yl yc,.int .i64 (it.place:Int)] 148)) #[.int .i64 (it.kind:Int),.string it.name,.int .u8 (it.mark:Int),.slice ya yl yc,.int .i64 (it.place:Int)] 148);simpa using this) (by simp[Value.oneCell']) (by decide) (by unfold maxLen;omega) (by omega) (by simp;omega) _ rfl ?_;intro g3 cap3 w3 hown3 hgrow3 hat3 hlt3;have kC3:=((kC1.alloc _).alloc _).grown hgrow3 (fun e=>by have:=(hown1.lt _ e.symm).1;omega);have c03:w3.cell? ⟨w.heap.size+1,0,none⟩=some (.slice va vk vc):=kC3.cell 0;have f03:∀ i,w3.frozen? ⟨w.heap.size+1,i,none⟩=false:=kC3.frozen))
      have kB3:=((kB1.alloc _).alloc _).grown hgrow3 (fun e=>by have:=(hown1.lt _ e.symm).1;omega);have M3:=((M1.alloc _).alloc _).grown hgrow3 (fun k hk=>.inl (by have:=(hown1.lt _ hk).1;omega));have hr3:=(((hr1.alloc _).alloc _).move (hgrow3.block q (by simp;omega) (fun e=>by have:=(hown1.lt _ e.symm).1;omega)) (fun g hg=>hgrow3.block g (by have:=hr1.owl g hg;simp;omega) (fun e=>hrg1.2.2 g e.symm hg)));have G3:=RGrowBy.push (alts_movable YR d) hrg (q:=q) (by omega) (by omega) m1 x1 hr1.owl (.slice ya yl yc,it) hax (grown_trans (grown_alloc w1 _ none) (grown_alloc _ _ none)) hown3 hgrow3 hat3;go_roundg (ts1.length+1)
      case measure=>omega
      case rel =>
       exact .inl ⟨ts1,acc++[it],_,sg1,sl1,f',rfl,by omega,by simp;omega,hr3.other _ _ (by omega) f1C,kC3.set 0 _,kB3.other (by omega) _,f1B,f1C,RGrow.kept (alts_movable YR d) G3 (grown_set w3 (w.heap.size+1) 0 _) (fun k hk=>by cases hk;omega),M3.new (by omega) _ _,X1,HPI⟩
   ·have HS:Hid (Lx.seesItem tsr=true):=by show _=_;unfold Lx.seesItem;rw[hnm];simp
    cases htk:Lx.isToken (Lx.hd tsr)
    all_goals
     have HN:Hid _:=hnm;have HT:Hid _:=htk;clear htk
     go_wp2_with (first
      | (go_at_call 116;refine (rIsName_any _ _ hwsz).mono ?_;rintro e w' ⟨rfl,hw⟩;obtain rfl:=hw.symm;rw[Lx.isName_refW,HN.out])
      | (go_at_call 139;refine (rIsToken_any _ _ hwsz).mono ?_;rintro e w' ⟨rfl,hw⟩;obtain rfl:=hw.symm;rw[Lx.isToken_refW,HT.out]))
     have HIx:=HI s q wr tsr nest sgr slr HO.out hr HS.out;rw[HN.out,HT.out]at HIx;refine HIx.mono ?_;intro e w1 he;clear HIx;cases hit:Lx.pItem (Lx.pGroupAt d) tsr with
     | error x =>
      obtain⟨n,a⟩:=x;obtain⟨v1,sg1,sl1,rfl,m1,x1,hx1,yk,yn,ym,ya,yl,yc,yp,rfl⟩:=he.err hit;have HE:Hid (Lx.pAlt (Lx.pGroupAt d) top ts=.error (n,a)):=by
       show _=_;unfold Lx.pAlt;rw[<-hpi.out];simp only[Lx.pItems];rw[if_pos HS.out,hit]
      clear hit he hpi;have hrg1:=hrg.mv (alts_movable YR d) m1 x1 (by omega);have hown1:=hrg1.1.2.1;have f1B:=x1.keep (b:=w.heap.size) kBr.lt fB;have f1C:=x1.keep (b:=w.heap.size+1) kCr.lt fC;have kC1:=kCr.mv m1 (by omega) fC;have kB1:=kBr.mv m1 (by omega) fB;have lC1:=kC1.lt;have M1:=M.trans X m1;have X1:=X.trans M.size x1;have cc0:w1.cell? ⟨w.heap.size+1,0,none⟩=some (.slice va vk vc):=kC1.cell 0;have hlt0:w.heap.size+1<w1.heap.size:=lC1
      go_wp2_with (first
       | (at_builtin;refine wpList_append_lies _ rfl _ _ 133 rfl (w.heap.size+2) 148 i0 _ 5 64 Tryz.underlying133 hi hz0 hz1 hz2 rfl (by decide) (.slice va vk vc) acc.length (ps.flatMap YR.cI) rfl ((hown1.alloc _).alloc _) ⟨w1.heap.size+1,0,none⟩ 1 1 [.int .i64 yk,.string yn,.int .u8 ym,.slice ya yl yc,.int .i64 yp] rfl rfl (by have:=news_of (Blk.new (w1.alloc (.cells #[.int .i64 yk,.string yn,.int .u8 ym,.slice ya yl yc,.int .i64 yp] 148)) #[.int .i64 yk,.string yn,.int .u8 ym,.slice ya yl yc,.int .i64 yp] 148);simpa using this) (by simp[Value.oneCell']) (by decide) (by unfold maxLen;omega) (by omega) (by simp;omega) _ rfl ?_;intro g3 cap3 w3 hown3 hgrow3 hat3 hlt3;have kC3:=((kC1.alloc _).alloc _).grown hgrow3 (fun e=>by have:=(hown1.lt _ e.symm).1;omega);have c03:w3.cell? ⟨w.heap.size+1,0,none⟩=some (.slice va vk vc):=kC3.cell 0;have f03:∀ i,w3.frozen? ⟨w.heap.size+1,i,none⟩=false:=kC3.frozen))
      have kB3:=((kB1.alloc _).alloc _).grown hgrow3 (fun e=>by have:=(hown1.lt _ e.symm).1;omega);have M3:=((M1.alloc _).alloc _).grown hgrow3 (fun k hk=>.inl (by have:=(hown1.lt _ hk).1;omega));have hx3:=(((hx1.alloc _).alloc _).move (hgrow3.block q (by simp;omega) (fun e=>by have:=(hown1.lt _ e.symm).1;omega)) (fun g hg=>hgrow3.block g (by have:=hx1.owl g hg;simp;omega) (fun e=>hrg1.2.2 g e.symm hg)));go_roundg 0
      case measure=>omega
      case rel =>
       exact .inr ⟨n,a,_,_,_,sg1,sl1,rfl,hx3.other _ _ (by omega) f1C,kC3.set 0 _,kB3.other (by omega) _,f1B,M3.new (by omega) _ _,X1,HE⟩
     | ok x =>
      obtain⟨it,ts1⟩:=x;obtain⟨v1,sg1,sl1,rfl,m1,x1,hr1,va1,rfl,hax⟩:=he.ok hit;obtain⟨ya,yl,yc,rfl⟩:=AltsIn.form hax;have hl1:=Lx.pItem_len (Lx.pGroupAt_len d) hit;have hl2:=hr.wf.tail_len;have HPI:Hid (Lx.pItems (Lx.pGroupAt d) f' ts1 (acc++[it])=Lx.pItems (Lx.pGroupAt d) ts.length ts []):=by
       show _=_;rw[<-hpi.out];simp only[Lx.pItems];rw[if_pos HS.out,hit]
      clear hit he hpi;have hrg1:=hrg.mv (alts_movable YR d) m1 x1 (by omega);have hown1:=hrg1.1.2.1;have f1B:=x1.keep (b:=w.heap.size) kBr.lt fB;have f1C:=x1.keep (b:=w.heap.size+1) kCr.lt fC;have kC1:=kCr.mv m1 (by omega) fC;have kB1:=kBr.mv m1 (by omega) fB;have lC1:=kC1.lt;have M1:=M.trans X m1;have X1:=X.trans M.size x1;have cc0:w1.cell? ⟨w.heap.size+1,0,none⟩=some (.slice va vk vc):=kC1.cell 0;have hlt0:w.heap.size+1<w1.heap.size:=lC1
      go_wp2_with (first
       | (at_builtin;refine wpList_append_lies _ rfl _ _ 133 rfl (w.heap.size+2) 148 i0 _ 5 64 Tryz.underlying133 hi hz0 hz1 hz2 rfl (by decide) (.slice va vk vc) acc.length (ps.flatMap YR.cI) rfl ((hown1.alloc _).alloc _) ⟨w1.heap.size+1,0,none⟩ 1 1 [.int .i64 (it.kind:Int),.string it.name,.int .u8 (it.mark:Int),.slice ya yl yc,.int .i64 (it.place:Int)] rfl rfl (by have:=news_of (Blk.new (w1.alloc (.cells #[.int .i64 (it.kind:Int),.string it.name,.int .u8 (it.mark:Int),.slice ya yl yc,.int .i64 (it.place:Int)] 148)) #[.int .i64 (it.kind:Int),.string it.name,.int .u8 (it.mark:Int),.slice ya yl yc,.int .i64 (it.place:Int)] 148);simpa using this) (by simp[Value.oneCell']) (by decide) (by unfold maxLen;omega) (by omega) (by simp;omega) _ rfl ?_;intro g3 cap3 w3 hown3 hgrow3 hat3 hlt3;have kC3:=((kC1.alloc _).alloc _).grown hgrow3 (fun e=>by have:=(hown1.lt _ e.symm).1;omega);have c03:w3.cell? ⟨w.heap.size+1,0,none⟩=some (.slice va vk vc):=kC3.cell 0;have f03:∀ i,w3.frozen? ⟨w.heap.size+1,i,none⟩=false:=kC3.frozen))
      have kB3:=((kB1.alloc _).alloc _).grown hgrow3 (fun e=>by have:=(hown1.lt _ e.symm).1;omega);have M3:=((M1.alloc _).alloc _).grown hgrow3 (fun k hk=>.inl (by have:=(hown1.lt _ hk).1;omega));have hr3:=(((hr1.alloc _).alloc _).move (hgrow3.block q (by simp;omega) (fun e=>by have:=(hown1.lt _ e.symm).1;omega)) (fun g hg=>hgrow3.block g (by have:=hr1.owl g hg;simp;omega) (fun e=>hrg1.2.2 g e.symm hg)));have G3:=RGrowBy.push (alts_movable YR d) hrg (q:=q) (by omega) (by omega) m1 x1 hr1.owl (.slice ya yl yc,it) hax (grown_trans (grown_alloc w1 _ none) (grown_alloc _ _ none)) hown3 hgrow3 hat3;go_roundg (ts1.length+1)
      case measure=>omega
      case rel =>
       exact .inl ⟨ts1,acc++[it],_,sg1,sl1,f',rfl,by omega,by simp;omega,hr3.other _ _ (by omega) f1C,kC3.set 0 _,kB3.other (by omega) _,f1B,f1C,RGrow.kept (alts_movable YR d) G3 (grown_set w3 (w.heap.size+1) 0 _) (fun k hk=>by cases hk;omega),M3.new (by omega) _ _,X1,HPI⟩
  ·have h0:((n:Int) == 0)=false:=beq_eq_false_iff_ne.2 (by have:=hx.pos;omega)
   obtain⟨ii,WW,kqx⟩:=hx.blk;have c4:wr.cell? ⟨q,4,none⟩=some (.int .i64 (n:Int)):=kqx.cell 4;have e0:wr.cell? ⟨w.heap.size,0,none⟩=some (.slice none 0 0):=kBf.cell 0;have e1:wr.cell? ⟨w.heap.size,1,none⟩=some (.string ⟨#[]⟩):=kBf.cell 1;have e2:wr.cell? ⟨w.heap.size,2,none⟩=some (.int .i64 0):=kBf.cell 2;have d0:wr.cell? ⟨w.heap.size+1,0,none⟩=some (.slice xa xk xc):=kCf.cell 0;have d1:wr.cell? ⟨w.heap.size+1,1,none⟩=some (.string ⟨#[]⟩):=kCf.cell 1;have d2:wr.cell? ⟨w.heap.size+1,2,none⟩=some (.int .i64 0):=kCf.cell 2;have ff:∀ i,wr.frozen? ⟨w.heap.size,i,none⟩=false:=kBf.frozen;cases top
   ·go_wp2_with fail
    refine bodyPost_ret (v:=.agg #[(.slice xa xk xc),(.string ⟨#[]⟩),(.int .i64 0)]) (by simp[results,Tryz.results141,go_sem,e0,e1,e2]) rfl ?_;exact REnds.no HE.out (((M.new (Nat.le_refl _) _ _).new (Nat.le_refl _) _ _).new (Nat.le_refl _) _ _) X (((hx.other _ _ (by omega) fB).other _ _ (by omega) fB).other _ _ (by omega) fB) ⟨_,_,_,_,_,rfl⟩
   ·go_wp2_with (first
     | (go_at_call 150;refine (is_rx hx _).mono ?_;rintro e w' ⟨rfl,hw⟩;obtain rfl:=hw.symm))
    refine bodyPost_ret (v:=.agg #[(.slice xa xk xc),(.string ⟨#[]⟩),(.int .i64 0)]) (by simp[results,Tryz.results141,go_sem,e0,e1,e2]) rfl ?_;exact REnds.no HE.out (((M.new (Nat.le_refl _) _ _).new (Nat.le_refl _) _ _).new (Nat.le_refl _) _ _) X (((hx.other _ _ (by omega) fB).other _ _ (by omega) fB).other _ _ (by omega) fB) ⟨_,_,_,_,_,rfl⟩
end Go.Proofs.YtlcppnabbicmoaaGreatDoor

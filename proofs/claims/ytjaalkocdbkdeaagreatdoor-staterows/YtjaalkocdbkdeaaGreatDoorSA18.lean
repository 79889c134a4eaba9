import Derived.Test.YtjaalkocdbkdeaaGreatDoorSA17
set_option maxHeartbeats 8000000
set_option maxRecDepth 1000000
namespace Go.Proofs.YtjaalkocdbkdeaaGreatDoor
open Lx Go.Proofs.Tryz
open Go.RowKit
open Lx (Tk)
open Tr
theorem Tryz.X0:(prog.info? 158).map (fun i=>(i.zero,i.size,i.bytes))=some (some (.agg #[.int .i64 0,.string ⟨#[]⟩,.int .u8 0,.slice none 0 0,.int .i64 0]),5,64):=by kernel_rfl
theorem Tryz.aio:(prog.info? 155).map (fun i=>(i.zero,i.size,i.bytes))=some (some (.agg #[.slice none 0 0,.string ⟨#[]⟩,.int .i64 0]),3,48):=by kernel_rfl
abbrev KAr(d:Nat):(Nat->Prop)->World->Value->Lx.It->Prop:=fun F w va it=>ay YR d F w va it.alts
theorem aip(t:Bool)(s:ByteArray)(q:Nat)(w:World)(nest:Int)(n a:Nat)(au:Value)(sg:List ByteArray)(h:RX s q w nest n a au sg):
  Calls prog 156 #[.pointer (some ⟨q,0,none⟩),.bool t] w fun e w'=>e=.returned (.agg #[.slice none 0 0,.string ⟨#[]⟩,.int .i64 0])/\Mv q au w w'/\RX s q w' nest n a au sg:=by
 have hp:=h.lt;obtain⟨i,W,kq⟩:=h.blk;have c4:w.cell? ⟨q,4,none⟩=some (.int .i64 (n:Int)):=kq.cell 4;have h0:((n:Int) == 0)=false:=beq_eq_false_iff_ne.2 (by have:=h.pos;omega);have h2:=(h.alloc (.cells #[.slice none 0 0,.string ⟨#[]⟩,.int .i64 0] 155)).alloc (.cells #[.slice none 0 0,.string ⟨#[]⟩,.int .i64 0] 155);have M0:=((Mv.refl q au w).alloc (.cells #[.slice none 0 0,.string ⟨#[]⟩,.int .i64 0] 155)).alloc (.cells #[.slice none 0 0,.string ⟨#[]⟩,.int .i64 0] 155);have fB:au.ownBlock≠some w.heap.size:=fun e=>by have:=h.dQ _ e;omega
 cases t
 all_goals
  go_enter func156,ntmps156;go_wp2_with fail
  go_loop [] True 0
  case atStart=>trivial
  case round=>
   go_wp2_with (first
    | (go_at_call 168;refine(yD h2 _).mono ?_;rintro e w'⟨rfl,hw⟩;obtain rfl:=hw.symm))
   refine bodyPost_ret (v:=.agg #[.slice none 0 0,.string ⟨#[]⟩,.int .i64 0]) (by simp[results,results156,go_sem]) rfl ?_;exact⟨rfl,M0,h2⟩
theorem Xi{d:Nat}(HI:Wo d):Xh d:=by
 intro s q w ts nest au sg su h;obtain⟨i0,hi,hz0,hz1,hz2⟩:=info_parts Tryz.X0;have hp:=h.lt;have HO:Hid (nest=8 - (d:Int)):=su;have hcnt:=h.cnt;clear su;have h2:=(h.alloc (.cells #[.slice none 0 0,.string ⟨#[]⟩,.int .i64 0] 155)).alloc (.cells #[.slice none 0 0,.string ⟨#[]⟩,.int .i64 0] 155);have kB:=(aj.new w #[.slice none 0 0,.string ⟨#[]⟩,.int .i64 0] 155).alloc (.cells #[.slice none 0 0,.string ⟨#[]⟩,.int .i64 0] 155);have kC:=aj.new (w.alloc (.cells #[.slice none 0 0,.string ⟨#[]⟩,.int .i64 0] 155)) #[.slice none 0 0,.string ⟨#[]⟩,.int .i64 0] 155;rw[show (w.alloc (.cells #[.slice none 0 0,.string ⟨#[]⟩,.int .i64 0] 155)).heap.size=w.heap.size+1 by simp]at kC;have M0:=((Mv.refl q au w).alloc (.cells #[.slice none 0 0,.string ⟨#[]⟩,.int .i64 0] 155)).alloc (.cells #[.slice none 0 0,.string ⟨#[]⟩,.int .i64 0] 155);have qK:au.ownBlock≠some w.heap.size:=h.fresh (zL0);have f0C:au.ownBlock≠some (w.heap.size+1):=h.fresh (by omega);obtain⟨top,htop⟩:∃top,top=(d == 8):=⟨_,rfl⟩;rw[<-htop];have amk:Hid _:=htop;clear htop;go_enter func156,ntmps156;go_wp2_with fail
 go_loopg [] (ts.length+1) (fun k wr=>(∃(aA:List Tk)(acc:List Lx.It)(v bH:Value)(fZ:List ByteArray)(f:Nat),aA.length+1=k/\aA.length<=f/\acc.length+aA.length<=ts.length/\RR s q wr aA nest bH fZ/\aj wr (w.heap.size+1) #[v,.string ⟨#[]⟩,.int .i64 0] 155/\aj wr w.heap.size #[.slice none 0 0,.string ⟨#[]⟩,.int .i64 0] 155/\bH.ownBlock≠some w.heap.size/\bH.ownBlock≠some (w.heap.size+1) /\
   jr (w.heap.size+2) bH wr 158 5 YR.cI (KAr d) v acc/\Mv q au w wr/\Nx au w bH/\Hid (dM (bB d) f aA acc=dM (bB d) ts.length ts [])) \/
  (∃(n a:Nat)(xa:Option Addr)(xk xc:Nat)(bH:Value)(fZ:List ByteArray),k=0/\RX s q wr nest n a bH fZ/\aj wr (w.heap.size+1) #[.slice xa xk xc,.string ⟨#[]⟩,.int .i64 0] 155/\aj wr w.heap.size #[.slice none 0 0,.string ⟨#[]⟩,.int .i64 0] 155/\bH.ownBlock≠some w.heap.size /\
   Mv q au w wr/\Nx au w bH/\Hid (dG (bB d) top ts=.error (n,a))))
 case atStart=>exact .inl ⟨ts,[],_,au,sg,ts.length,rfl,zL0,by simp,h2,kC,kB,qK,f0C,jr.nil _ _ _ _ _ _ _,M0,Nx.refl _ _,rfl⟩
 case round=>
  clear h2 kB kC M0;rcases hrel with ⟨aA,acc,v,bH,fZ,f,hk,hf,hacc,hr,jl,jI,fB,fC,hgrow,M,X,hpi⟩|⟨n,a,xa,xk,xc,bH,fZ,hk,hx,aN,aH,fB,M,X,HE⟩
  ·have hne:=hr.wf.ne
   obtain⟨f',rfl⟩:∃f',f=f'+1:=⟨f-1,by omega⟩;obtain⟨ps,F,hrg⟩:=hgrow;have hown:=hrg.1.2.1;obtain⟨va,vk,vc,rfl⟩:=rW hown;have qd:=hr.Ri;have c2:wr.cell? ⟨q,2,none⟩=some (.string (fw (Lx.hd aA))):=hr.blk.cell 2;have c4:wr.cell? ⟨q,4,none⟩=some (.int .i64 0):=hr.blk.cell 4;have lCr:=jl.lt;cases hnm:Lx.isName (Lx.hd aA)
   ·cases htk:Lx.isToken (Lx.hd aA)
    ·by_cases hop:Lx.hd aA=jg
     ·have HS:Hid (jU aA=true):=by show _=_;unfold jU;rw[decide_eq_true hop];simp
      have HN:Hid _:=hnm;have HT:Hid _:=htk;have t40:((fw (Lx.hd aA)).toList == [40])=true:=by rw[hop,nE (by decide),ByteArray.toList_eq];rfl
      clear hnm htk hop
      go_wp2_with (first
       | (go_at_call 134;refine(zI _ _ qd).mono ?_;rintro e w'⟨rfl,hw⟩;obtain rfl:=hw.symm;rw[Bw,HN.out])
       | (go_at_call 154;refine(zG _ _ qd).mono ?_;rintro e w'⟨rfl,hw⟩;obtain rfl:=hw.symm;rw[zH,HT.out]))
      have vJ:=HI s q wr aA nest bH fZ HO.out hr HS.out;rw[HN.out,HT.out]at vJ;refine vJ.mono ?_;intro e w1 he;clear vJ;cases hit:cO (bB d) aA with
      |error x=>
       obtain⟨n,a⟩:=x;obtain⟨v1,sg1,sl1,rfl,m1,x1,hx1,yk,yn,ym,ya,yl,yc,yp,rfl⟩:=he.err hit;have HE:Hid (dG (bB d) top ts=.error (n,a)):=by
        show _=_;unfold dG;rw[<-hpi.out];simp only[dM];rw[if_pos HS.out,hit]
       clear hit he hpi;have hrg1:=hrg.mv (oM YR d) m1 x1 (by omega);have hown1:=hrg1.1.2.1;have aZ:=x1.keep (b:=w.heap.size) jI.lt fB;have eX:=x1.keep (b:=w.heap.size+1) jl.lt fC;have aP:=jl.mv m1 (by omega) fC;have kB1:=jI.mv m1 (by omega) fB;have uM:=aP.lt;have M1:=M.trans X m1;have X1:=X.trans M.size x1;have qL:w1.cell? ⟨w.heap.size+1,0,none⟩=some (.slice va vk vc):=aP.cell 0;have qb:w.heap.size+1<w1.heap.size:=uM
       go_wp2_with (first
        | (at_builtin;refine wpList_append_lies _ rfl _ _ 143 rfl (w.heap.size+2) 158 i0 _ 5 64 underlying143 hi hz0 hz1 hz2 rfl (by decide) (.slice va vk vc) acc.length (ps.flatMap YR.cI) rfl ((hown1.alloc _).alloc _) ⟨w1.heap.size+1,0,none⟩ 1 1 [.int .i64 yk,.string yn,.int .u8 ym,.slice ya yl yc,.int .i64 yp] rfl rfl (by have:=bC (aj.new (w1.alloc (.cells #[.int .i64 yk,.string yn,.int .u8 ym,.slice ya yl yc,.int .i64 yp] 158)) #[.int .i64 yk,.string yn,.int .u8 ym,.slice ya yl yc,.int .i64 yp] 158);simpa using this) (by simp[Value.oneCell']) (by decide) (by unfold maxLen;omega) (by omega) (by simp;omega) _ rfl ?_;intro g3 ng w3 hown3 hgrow3 iI hlt3;have bG:=((aP.alloc _).alloc _).grown hgrow3 (fun e=>by have:=(hown1.lt _ e.symm).1;omega);have c03:w3.cell? ⟨w.heap.size+1,0,none⟩=some (.slice va vk vc):=bG.cell 0;have oJ:∀i,w3.frozen? ⟨w.heap.size+1,i,none⟩=false:=bG.frozen))
       have kB3:=((kB1.alloc _).alloc _).grown hgrow3 (fun e=>by have:=(hown1.lt _ e.symm).1;omega);have M3:=((M1.alloc _).alloc _).grown hgrow3 (fun k hk=>.inl (by have:=(hown1.lt _ hk).1;omega));have hx3:=(((hx1.alloc _).alloc _).move (hgrow3.block q (by simp;omega) (fun e=>by have:=(hown1.lt _ e.symm).1;omega)) (fun g hg=>hgrow3.block g (by have:=hx1.dQ g hg;simp;omega) (fun e=>hrg1.2.2 g e.symm hg)));go_roundg 0
       case measure=>omega
       case rel=>
        exact .inr ⟨n,a,_,_,_,sg1,sl1,rfl,hx3.other _ _ (by omega) eX,bG.set 0 _,kB3.other (by omega) _,aZ,M3.new (by omega) _ _,X1,HE⟩
      |ok x=>
       obtain⟨it,aB⟩:=x;obtain⟨v1,sg1,sl1,rfl,m1,x1,hr1,Mw,rfl,hax⟩:=he.ok hit;obtain⟨ya,yl,yc,rfl⟩:=ay.form hax;have hl1:=D8 (zF d) hit;have hl2:=hr.wf.mD;have jO:Hid (dM (bB d) f' aB (acc++[it])=dM (bB d) ts.length ts []):=by
        show _=_;rw[<-hpi.out];simp only[dM];rw[if_pos HS.out,hit]
       clear hit he hpi;have hrg1:=hrg.mv (oM YR d) m1 x1 (by omega);have hown1:=hrg1.1.2.1;have aZ:=x1.keep (b:=w.heap.size) jI.lt fB;have eX:=x1.keep (b:=w.heap.size+1) jl.lt fC;have aP:=jl.mv m1 (by omega) fC;have kB1:=jI.mv m1 (by omega) fB;have uM:=aP.lt;have M1:=M.trans X m1;have X1:=X.trans M.size x1;have qL:w1.cell? ⟨w.heap.size+1,0,none⟩=some (.slice va vk vc):=aP.cell 0;have qb:w.heap.size+1<w1.heap.size:=uM
       go_wp2_with (first
        | (at_builtin;refine wpList_append_lies _ rfl _ _ 143 rfl (w.heap.size+2) 158 i0 _ 5 64 underlying143 hi hz0 hz1 hz2 rfl (by decide) (.slice va vk vc) acc.length (ps.flatMap YR.cI) rfl ((hown1.alloc _).alloc _) ⟨w1.heap.size+1,0,none⟩ 1 1 [.int .i64 (it.kind:Int),.string it.name,.int .u8 (it.mark:Int),.slice ya yl yc,.int .i64 (it.place:Int)] rfl rfl (by have:=bC (aj.new (w1.alloc (.cells #[.int .i64 (it.kind:Int),.string it.name,.int .u8 (it.mark:Int),.slice ya yl yc,.int .i64 (it.place:Int)] 158)) #[.int .i64 (it.kind:Int),.string it.name,.int .u8 (it.mark:Int),.slice ya yl yc,.int .i64 (it.place:Int)] 158);simpa using this) (by simp[Value.oneCell']) (by decide) (by unfold maxLen;omega) (by omega) (by simp;omega) _ rfl ?_;intro g3 ng w3 hown3 hgrow3 iI hlt3;have bG:=((aP.alloc _).alloc _).grown hgrow3 (fun e=>by have:=(hown1.lt _ e.symm).1;omega);have c03:w3.cell? ⟨w.heap.size+1,0,none⟩=some (.slice va vk vc):=bG.cell 0;have oJ:∀i,w3.frozen? ⟨w.heap.size+1,i,none⟩=false:=bG.frozen))
       have kB3:=((kB1.alloc _).alloc _).grown hgrow3 (fun e=>by have:=(hown1.lt _ e.symm).1;omega);have M3:=((M1.alloc _).alloc _).grown hgrow3 (fun k hk=>.inl (by have:=(hown1.lt _ hk).1;omega));have hr3:=(((hr1.alloc _).alloc _).move (hgrow3.block q (by simp;omega) (fun e=>by have:=(hown1.lt _ e.symm).1;omega)) (fun g hg=>hgrow3.block g (by have:=hr1.dQ g hg;simp;omega) (fun e=>hrg1.2.2 g e.symm hg)));have G3:=iV.push (oM YR d) hrg (q:=q) (by omega) (by omega) m1 x1 hr1.dQ (.slice ya yl yc,it) hax (aW (bZ w1 _ none) (bZ _ _ none)) hown3 hgrow3 iI;go_roundg (aB.length+1)
       case measure=>omega
       case rel=>
        exact .inl ⟨aB,acc++[it],_,sg1,sl1,f',rfl,by omega,by simp;omega,hr3.other _ _ (by omega) eX,bG.set 0 _,kB3.other (by omega) _,aZ,eX,jr.kept (oM YR d) G3 (gu w3 (w.heap.size+1) 0 _) (fun k hk=>by cases hk;omega),M3.new (by omega) _ _,X1,jO⟩
     ·have HS:Hid (jU aA=false):=by show _=_;unfold jU;rw[decide_eq_false hop,hnm,htk];rfl
      have GJ:dM (bB d) ts.length ts []=.ok (acc,aA):=by
       rw[<-hpi.out];simp only[dM];rw[if_neg (by rw[HS.out];simp)]
      have vD:Hid (dG (bB d) top ts=mG top acc aA):=by
       show _=_;unfold dG;rw[GJ]
      have HN:Hid _:=hnm;have HT:Hid _:=htk;have t40:((fw (Lx.hd aA)).toList == [40])=false:=by
       refine lC (l:=[40]) ?_;exact fun e=>hop ((rZ (b:=jg) (by decide) (by decide)).1 e)
      have hseq:=jr.seq (oM YR d) ⟨ps,F,hrg⟩;have aN:=jl;have aH:=jI;clear hnm htk hop GJ hpi;cases top
      ·have Il:Hid (dG (bB d) false ts=.ok ((acc,aL,0),aA)):=by
        show _=_;rw[vD.out];unfold mG;rw[if_neg (by simp)]
       have e0:wr.cell? ⟨w.heap.size,0,none⟩=some (.slice none 0 0):=aH.cell 0;have e1:wr.cell? ⟨w.heap.size,1,none⟩=some (.string ⟨#[]⟩):=aH.cell 1;have e2:wr.cell? ⟨w.heap.size,2,none⟩=some (.int .i64 0):=aH.cell 2;have d0:wr.cell? ⟨w.heap.size+1,0,none⟩=some (.slice va vk vc):=aN.cell 0;have d1:wr.cell? ⟨w.heap.size+1,1,none⟩=some (.string ⟨#[]⟩):=aN.cell 1;have d2:wr.cell? ⟨w.heap.size+1,2,none⟩=some (.int .i64 0):=aN.cell 2;have ff:∀i,wr.frozen? ⟨w.heap.size,i,none⟩=false:=aH.frozen
       go_wp2_with (first
        | (go_at_call 134;refine(zI _ _ qd).mono ?_;rintro e w'⟨rfl,hw⟩;obtain rfl:=hw.symm;rw[Bw,HN.out])
        | (go_at_call 154;refine(zG _ _ qd).mono ?_;rintro e w'⟨rfl,hw⟩;obtain rfl:=hw.symm;rw[zH,HT.out]))
       refine bodyPost_ret (v:=.agg #[(.slice va vk vc),(.string ⟨#[]⟩),(.int .i64 0)]) (by simp[results,results156,go_sem,e0,e1,e2]) rfl ?_;refine bO.yes Il.out (((M.new (zL0) _ _).new (zL0) _ _).new (zL0) _ _) X (((hr.other _ _ (by omega) fB).other _ _ (by omega) fB).other _ _ (by omega) fB) ⟨_,rfl,?_⟩;refine bM.move (fun b hb=>?_) (fun b hb=>⟨by have:=hb.1;omega,by simpa [World.setCell]using hb.2.1,hb.2.2⟩) hseq;have hbb:b≠w.heap.size:=by have:=hb.1;omega
       rw[zS0 hbb,zS0 hbb,zS0 hbb]
      ·by_cases hpr:Lx.hd aA=iX
       ·have AO:Hid (Lx.hd aA=iX):=hpr
        clear hpr
        go_wp2_with (first
         | (go_at_call 134;refine(zI _ _ qd).mono ?_;rintro e w'⟨rfl,hw⟩;obtain rfl:=hw.symm;rw[Bw,HN.out])
         | (go_at_call 154;refine(zG _ _ qd).mono ?_;rintro e w'⟨rfl,hw⟩;obtain rfl:=hw.symm;rw[zH,HT.out])
         | (go_at_call 168;refine(iG hr iX (by decide) (by decide)).mono ?_;rintro e w'⟨rfl,hw⟩;obtain rfl:=hw.symm;rw[decide_eq_true AO.out])
         | (go_at_call 96;refine(oO hr (by rw[AO.out];decide) (by rw[AO.out];decide)).mono ?_;rintro e w2⟨rfl,sg2,m2,x2,hr2⟩;have eG:=jl.mv m2 (by omega) fC;have c12:w2.cell? ⟨q,1,none⟩=some (.int .i64 (Lx.pl aA.tail:Int)):=hr2.blk.cell 1;have f2:∀i,w2.frozen? ⟨w.heap.size+1,i,none⟩=false:=eG.frozen;have EU:w2.cell? ⟨w.heap.size+1,2,none⟩=some (.int .i64 0):=eG.cell 2))
        have tu:=x2.keep (b:=w.heap.size+1) jl.lt fC;have lM:=x2.keep (b:=w.heap.size) jI.lt fB;have kB2:=jI.mv m2 (by omega) fB;have M2:=M.trans X m2;have X2:=X.trans M.size x2;have hrg2:=(hrg.mv (oM YR d) m2 x2 (by omega)).kept (oM YR d) (gu w2 (w.heap.size+1) 2 (.int .i64 (Lx.pl aA.tail:Int))) (fun k hk=>by cases hk;omega);refine(Ou (hr2.other _ _ (by omega) tu)).mono ?_;intro e w3 he;cases hpw:cK Lx.isToken aA.tail with
        |error x=>
         obtain⟨n,a⟩:=x;obtain⟨v3,kI,qM,rfl,m3,x3,hx3,rfl⟩:=he.err hpw;have HE:Hid (dG (bB d) true ts=.error (n,a)):=by
          show _=_;rw[vD.out];unfold mG;rw[if_pos ⟨rfl,AO.out⟩,hpw]
         clear hpw he;have kJ:=x3.keep (b:=w.heap.size) (by have:=kB2.lt;simpa [World.setCell]using this) lM;have Rm:=x3.keep (b:=w.heap.size+1) (by have:=eG.lt;simpa [World.setCell]using this) tu;have aN:=(eG.set 2 (.int .i64 (Lx.pl aA.tail:Int))).mv m3 (by omega) tu;have sM:aj (w2.setCell ⟨w.heap.size+1,2,none⟩ (.int .i64 (Lx.pl aA.tail:Int))) w.heap.size #[.slice none 0 0,.string ⟨#[]⟩,.int .i64 0] 155:=kB2.other (by omega) _;have aH:=sM.mv m3 (by omega) lM;have M3:=(M2.new (by omega) 2 (.int .i64 (Lx.pl aA.tail:Int))).trans X2 m3;have X3:=X2.trans (M2.new (b:=w.heap.size+1) (by omega) 2 (.int .i64 (Lx.pl aA.tail:Int))).size x3;have e0:w3.cell? ⟨w.heap.size,0,none⟩=some (.slice none 0 0):=aH.cell 0;have e1:w3.cell? ⟨w.heap.size,1,none⟩=some (.string ⟨#[]⟩):=aH.cell 1;have e2:w3.cell? ⟨w.heap.size,2,none⟩=some (.int .i64 0):=aH.cell 2;have d0:w3.cell? ⟨w.heap.size+1,0,none⟩=some (.slice va vk vc):=aN.cell 0;have d1:w3.cell? ⟨w.heap.size+1,1,none⟩=some (.string ⟨#[]⟩):=aN.cell 1;have gg:∀i,w3.frozen? ⟨w.heap.size+1,i,none⟩=false:=aN.frozen;have d2:w3.cell? ⟨w.heap.size+1,2,none⟩=some (.int .i64 (Lx.pl aA.tail:Int)):=aN.cell 2;have ff:∀i,w3.frozen? ⟨w.heap.size,i,none⟩=false:=aH.frozen;go_wp2_with fail;refine bodyPost_ret (v:=.agg #[(.slice va vk vc),(.string ⟨#[]⟩),(.int .i64 (Lx.pl aA.tail:Int))]) (by simp[results,results156,go_sem,e0,e1,e2]) rfl ?_;exact bO.no HE.out ((((M3.new (by omega) _ _).new (zL0) _ _).new (zL0) _ _).new (zL0) _ _) X3 ((((hx3.other _ _ (by omega) Rm).other _ _ (by omega) kJ).other _ _ (by omega) kJ).other _ _ (by omega) kJ) ⟨_,_,_,_,_,rfl⟩
        |ok x=>
         obtain⟨b3,eF⟩:=x;obtain⟨v3,kI,qM,rfl,m3,x3,hr3,rfl⟩:=he.ok hpw;have Il:Hid (dG (bB d) true ts=.ok ((acc,b3,Lx.pl aA.tail),eF)):=by
          show _=_;rw[vD.out];unfold mG;rw[if_pos ⟨rfl,AO.out⟩,hpw]
         clear hpw he;have ajp:=jr.seq (oM YR d) ⟨ps,F,hrg2.mv (oM YR d) m3 x3 (by omega)⟩;have kJ:=x3.keep (b:=w.heap.size) (by have:=kB2.lt;simpa [World.setCell]using this) lM;have Rm:=x3.keep (b:=w.heap.size+1) (by have:=eG.lt;simpa [World.setCell]using this) tu;have aN:=(eG.set 2 (.int .i64 (Lx.pl aA.tail:Int))).mv m3 (by omega) tu;have sM:aj (w2.setCell ⟨w.heap.size+1,2,none⟩ (.int .i64 (Lx.pl aA.tail:Int))) w.heap.size #[.slice none 0 0,.string ⟨#[]⟩,.int .i64 0] 155:=kB2.other (by omega) _;have aH:=sM.mv m3 (by omega) lM;have M3:=(M2.new (by omega) 2 (.int .i64 (Lx.pl aA.tail:Int))).trans X2 m3;have X3:=X2.trans (M2.new (b:=w.heap.size+1) (by omega) 2 (.int .i64 (Lx.pl aA.tail:Int))).size x3;have e0:w3.cell? ⟨w.heap.size,0,none⟩=some (.slice none 0 0):=aH.cell 0;have e1:w3.cell? ⟨w.heap.size,1,none⟩=some (.string ⟨#[]⟩):=aH.cell 1;have e2:w3.cell? ⟨w.heap.size,2,none⟩=some (.int .i64 0):=aH.cell 2;have d0:w3.cell? ⟨w.heap.size+1,0,none⟩=some (.slice va vk vc):=aN.cell 0;have d1:w3.cell? ⟨w.heap.size+1,1,none⟩=some (.string ⟨#[]⟩):=aN.cell 1;have gg:∀i,w3.frozen? ⟨w.heap.size+1,i,none⟩=false:=aN.frozen;have d2:w3.cell? ⟨w.heap.size+1,2,none⟩=some (.int .i64 (Lx.pl aA.tail:Int)):=aN.cell 2;have ff:∀i,w3.frozen? ⟨w.heap.size,i,none⟩=false:=aH.frozen;go_wp2_with fail;refine bodyPost_ret (v:=.agg #[(.slice va vk vc),(.string b3),(.int .i64 (Lx.pl aA.tail:Int))]) (by simp[results,results156,go_sem,e0,e1,e2]) rfl ?_;refine bO.yes Il.out ((((M3.new (by omega) _ _).new (zL0) _ _).new (zL0) _ _).new (zL0) _ _) X3 ((((hr3.other _ _ (by omega) Rm).other _ _ (by omega) kJ).other _ _ (by omega) kJ).other _ _ (by omega) kJ) ⟨_,rfl,?_⟩
         refine bM.move (fun b hb=>?_) (fun b hb=>⟨by have:=hb.1;omega,by simpa [World.setCell]using hb.2.1,hb.2.2⟩) ajp;have hbb:b≠w.heap.size:=by have:=hb.1;omega
         have hbc:b≠w.heap.size+1:=by have:=hb.1;omega
         rw[zS0 hbb,zS0 hbb,zS0 hbb,zS0 hbc]
       ·have AO:Hid (¬Lx.hd aA=iX):=hpr
        clear hpr;have Il:Hid (dG (bB d) true ts=.ok ((acc,aL,0),aA)):=by
         show _=_;rw[vD.out];unfold mG;rw[if_neg (fun e=>AO.out e.2)]
        have e0:wr.cell? ⟨w.heap.size,0,none⟩=some (.slice none 0 0):=aH.cell 0;have e1:wr.cell? ⟨w.heap.size,1,none⟩=some (.string ⟨#[]⟩):=aH.cell 1;have e2:wr.cell? ⟨w.heap.size,2,none⟩=some (.int .i64 0):=aH.cell 2;have d0:wr.cell? ⟨w.heap.size+1,0,none⟩=some (.slice va vk vc):=aN.cell 0;have d1:wr.cell? ⟨w.heap.size+1,1,none⟩=some (.string ⟨#[]⟩):=aN.cell 1;have d2:wr.cell? ⟨w.heap.size+1,2,none⟩=some (.int .i64 0):=aN.cell 2;have ff:∀i,wr.frozen? ⟨w.heap.size,i,none⟩=false:=aH.frozen
        go_wp2_with (first
         | (go_at_call 134;refine(zI _ _ qd).mono ?_;rintro e w'⟨rfl,hw⟩;obtain rfl:=hw.symm;rw[Bw,HN.out])
         | (go_at_call 154;refine(zG _ _ qd).mono ?_;rintro e w'⟨rfl,hw⟩;obtain rfl:=hw.symm;rw[zH,HT.out])
         | (go_at_call 168;refine(iG hr iX (by decide) (by decide)).mono ?_;rintro e w'⟨rfl,hw⟩;obtain rfl:=hw.symm;rw[decide_eq_false AO.out]))
        refine bodyPost_ret (v:=.agg #[(.slice va vk vc),(.string ⟨#[]⟩),(.int .i64 0)]) (by simp[results,results156,go_sem,e0,e1,e2]) rfl ?_;refine bO.yes Il.out (((M.new (zL0) _ _).new (zL0) _ _).new (zL0) _ _) X (((hr.other _ _ (by omega) fB).other _ _ (by omega) fB).other _ _ (by omega) fB) ⟨_,rfl,?_⟩;refine bM.move (fun b hb=>?_) (fun b hb=>⟨by have:=hb.1;omega,by simpa [World.setCell]using hb.2.1,hb.2.2⟩) hseq;have hbb:b≠w.heap.size:=by have:=hb.1;omega
        rw[zS0 hbb,zS0 hbb,zS0 hbb]
    ·have HS:Hid (jU aA=true):=by show _=_;unfold jU;rw[htk];simp
     have HN:Hid _:=hnm;have HT:Hid _:=htk;clear hnm htk
     go_wp2_with (first
      | (go_at_call 134;refine(zI _ _ qd).mono ?_;rintro e w'⟨rfl,hw⟩;obtain rfl:=hw.symm;rw[Bw,HN.out])
      | (go_at_call 154;refine(zG _ _ qd).mono ?_;rintro e w'⟨rfl,hw⟩;obtain rfl:=hw.symm;rw[zH,HT.out]))
     have vJ:=HI s q wr aA nest bH fZ HO.out hr HS.out;rw[HN.out,HT.out]at vJ;refine vJ.mono ?_;intro e w1 he;clear vJ;cases hit:cO (bB d) aA with
     |error x=>
      obtain⟨n,a⟩:=x;obtain⟨v1,sg1,sl1,rfl,m1,x1,hx1,yk,yn,ym,ya,yl,yc,yp,rfl⟩:=he.err hit;have HE:Hid (dG (bB d) top ts=.error (n,a)):=by
       show _=_;unfold dG;rw[<-hpi.out];simp only[dM];rw[if_pos HS.out,hit]
      clear hit he hpi;have hrg1:=hrg.mv (oM YR d) m1 x1 (by omega);have hown1:=hrg1.1.2.1;have aZ:=x1.keep (b:=w.heap.size) jI.lt fB;have eX:=x1.keep (b:=w.heap.size+1) jl.lt fC;have aP:=jl.mv m1 (by omega) fC;have kB1:=jI.mv m1 (by omega) fB;have uM:=aP.lt;have M1:=M.trans X m1;have X1:=X.trans M.size x1;have qL:w1.cell? ⟨w.heap.size+1,0,none⟩=some (.slice va vk vc):=aP.cell 0;have qb:w.heap.size+1<w1.heap.size:=uM
      go_wp2_with (first
       | (at_builtin;refine wpList_append_lies _ rfl _ _ 143 rfl (w.heap.size+2) 158 i0 _ 5 64 underlying143 hi hz0 hz1 hz2 rfl (by decide) (.slice va vk vc) acc.length (ps.flatMap YR.cI) rfl ((hown1.alloc _).alloc _) ⟨w1.heap.size+1,0,none⟩ 1 1 [.int .i64 yk,.string yn,.int .u8 ym,.slice ya yl yc,.int .i64 yp] rfl rfl (by have:=bC (aj.new (w1.alloc (.cells #[.int .i64 yk,.string yn,.int .u8 ym,.slice ya yl yc,.int .i64 yp] 158)) #[.int .i64 yk,.string yn,.int .u8 ym,.slice ya yl yc,.int .i64 yp] 158);simpa using this) (by simp[Value.oneCell']) (by decide) (by unfold maxLen;omega) (by omega) (by simp;omega) _ rfl ?_;intro g3 ng w3 hown3 hgrow3 iI hlt3;have bG:=((aP.alloc _).alloc _).grown hgrow3 (fun e=>by have:=(hown1.lt _ e.symm).1;omega);have c03:w3.cell? ⟨w.heap.size+1,0,none⟩=some (.slice va vk vc):=bG.cell 0;have oJ:∀i,w3.frozen? ⟨w.heap.size+1,i,none⟩=false:=bG.frozen))
      have kB3:=((kB1.alloc _).alloc _).grown hgrow3 (fun e=>by have:=(hown1.lt _ e.symm).1;omega);have M3:=((M1.alloc _).alloc _).grown hgrow3 (fun k hk=>.inl (by have:=(hown1.lt _ hk).1;omega));have hx3:=(((hx1.alloc _).alloc _).move (hgrow3.block q (by simp;omega) (fun e=>by have:=(hown1.lt _ e.symm).1;omega)) (fun g hg=>hgrow3.block g (by have:=hx1.dQ g hg;simp;omega) (fun e=>hrg1.2.2 g e.symm hg)));go_roundg 0
      case measure=>omega
      case rel=>
       exact .inr ⟨n,a,_,_,_,sg1,sl1,rfl,hx3.other _ _ (by omega) eX,bG.set 0 _,kB3.other (by omega) _,aZ,M3.new (by omega) _ _,X1,HE⟩
     |ok x=>
      obtain⟨it,aB⟩:=x;obtain⟨v1,sg1,sl1,rfl,m1,x1,hr1,Mw,rfl,hax⟩:=he.ok hit;obtain⟨ya,yl,yc,rfl⟩:=ay.form hax;have hl1:=D8 (zF d) hit;have hl2:=hr.wf.mD;have jO:Hid (dM (bB d) f' aB (acc++[it])=dM (bB d) ts.length ts []):=by
       show _=_;rw[<-hpi.out];simp only[dM];rw[if_pos HS.out,hit]
      clear hit he hpi;have hrg1:=hrg.mv (oM YR d) m1 x1 (by omega);have hown1:=hrg1.1.2.1;have aZ:=x1.keep (b:=w.heap.size) jI.lt fB;have eX:=x1.keep (b:=w.heap.size+1) jl.lt fC;have aP:=jl.mv m1 (by omega) fC;have kB1:=jI.mv m1 (by omega) fB;have uM:=aP.lt;have M1:=M.trans X m1;have X1:=X.trans M.size x1;have qL:w1.cell? ⟨w.heap.size+1,0,none⟩=some (.slice va vk vc):=aP.cell 0;have qb:w.heap.size+1<w1.heap.size:=uM
      go_wp2_with (first
       | (at_builtin;refine wpList_append_lies _ rfl _ _ 143 rfl (w.heap.size+2) 158 i0 _ 5 64 underlying143 hi hz0 hz1 hz2 rfl (by decide) (.slice va vk vc) acc.length (ps.flatMap YR.cI) rfl ((hown1.alloc _).alloc _) ⟨w1.heap.size+1,0,none⟩ 1 1 [.int .i64 (it.kind:Int),.string it.name,.int .u8 (it.mark:Int),.slice ya yl yc,.int .i64 (it.place:Int)] rfl rfl (by have:=bC (aj.new (w1.alloc (.cells #[.int .i64 (it.kind:Int),.string it.name,.int .u8 (it.mark:Int),.slice ya yl yc,.int .i64 (it.place:Int)] 158)) #[.int .i64 (it.kind:Int),.string it.name,.int .u8 (it.mark:Int),.slice ya yl yc,.int .i64 (it.place:Int)] 158);simpa using this) (by simp[Value.oneCell']) (by decide) (by unfold maxLen;omega) (by omega) (by simp;omega) _ rfl ?_;intro g3 ng w3 hown3 hgrow3 iI hlt3;have bG:=((aP.alloc _).alloc _).grown hgrow3 (fun e=>by have:=(hown1.lt _ e.symm).1;omega);have c03:w3.cell? ⟨w.heap.size+1,0,none⟩=some (.slice va vk vc):=bG.cell 0;have oJ:∀i,w3.frozen? ⟨w.heap.size+1,i,none⟩=false:=bG.frozen))
      have kB3:=((kB1.alloc _).alloc _).grown hgrow3 (fun e=>by have:=(hown1.lt _ e.symm).1;omega);have M3:=((M1.alloc _).alloc _).grown hgrow3 (fun k hk=>.inl (by have:=(hown1.lt _ hk).1;omega));have hr3:=(((hr1.alloc _).alloc _).move (hgrow3.block q (by simp;omega) (fun e=>by have:=(hown1.lt _ e.symm).1;omega)) (fun g hg=>hgrow3.block g (by have:=hr1.dQ g hg;simp;omega) (fun e=>hrg1.2.2 g e.symm hg)));have G3:=iV.push (oM YR d) hrg (q:=q) (by omega) (by omega) m1 x1 hr1.dQ (.slice ya yl yc,it) hax (aW (bZ w1 _ none) (bZ _ _ none)) hown3 hgrow3 iI;go_roundg (aB.length+1)
      case measure=>omega
      case rel=>
       exact .inl ⟨aB,acc++[it],_,sg1,sl1,f',rfl,by omega,by simp;omega,hr3.other _ _ (by omega) eX,bG.set 0 _,kB3.other (by omega) _,aZ,eX,jr.kept (oM YR d) G3 (gu w3 (w.heap.size+1) 0 _) (fun k hk=>by cases hk;omega),M3.new (by omega) _ _,X1,jO⟩
   ·have HS:Hid (jU aA=true):=by show _=_;unfold jU;rw[hnm];simp
    cases htk:Lx.isToken (Lx.hd aA)
    all_goals
     have HN:Hid _:=hnm;have HT:Hid _:=htk;clear htk
     go_wp2_with (first
      | (go_at_call 134;refine(zI _ _ qd).mono ?_;rintro e w'⟨rfl,hw⟩;obtain rfl:=hw.symm;rw[Bw,HN.out])
      | (go_at_call 154;refine(zG _ _ qd).mono ?_;rintro e w'⟨rfl,hw⟩;obtain rfl:=hw.symm;rw[zH,HT.out]))
     have vJ:=HI s q wr aA nest bH fZ HO.out hr HS.out;rw[HN.out,HT.out]at vJ;refine vJ.mono ?_;intro e w1 he;clear vJ;cases hit:cO (bB d) aA with
     |error x=>
      obtain⟨n,a⟩:=x;obtain⟨v1,sg1,sl1,rfl,m1,x1,hx1,yk,yn,ym,ya,yl,yc,yp,rfl⟩:=he.err hit;have HE:Hid (dG (bB d) top ts=.error (n,a)):=by
       show _=_;unfold dG;rw[<-hpi.out];simp only[dM];rw[if_pos HS.out,hit]
      clear hit he hpi;have hrg1:=hrg.mv (oM YR d) m1 x1 (by omega);have hown1:=hrg1.1.2.1;have aZ:=x1.keep (b:=w.heap.size) jI.lt fB;have eX:=x1.keep (b:=w.heap.size+1) jl.lt fC;have aP:=jl.mv m1 (by omega) fC;have kB1:=jI.mv m1 (by omega) fB;have uM:=aP.lt;have M1:=M.trans X m1;have X1:=X.trans M.size x1;have qL:w1.cell? ⟨w.heap.size+1,0,none⟩=some (.slice va vk vc):=aP.cell 0;have qb:w.heap.size+1<w1.heap.size:=uM
      go_wp2_with (first
       | (at_builtin;refine wpList_append_lies _ rfl _ _ 143 rfl (w.heap.size+2) 158 i0 _ 5 64 underlying143 hi hz0 hz1 hz2 rfl (by decide) (.slice va vk vc) acc.length (ps.flatMap YR.cI) rfl ((hown1.alloc _).alloc _) ⟨w1.heap.size+1,0,none⟩ 1 1 [.int .i64 yk,.string yn,.int .u8 ym,.slice ya yl yc,.int .i64 yp] rfl rfl (by have:=bC (aj.new (w1.alloc (.cells #[.int .i64 yk,.string yn,.int .u8 ym,.slice ya yl yc,.int .i64 yp] 158)) #[.int .i64 yk,.string yn,.int .u8 ym,.slice ya yl yc,.int .i64 yp] 158);simpa using this) (by simp[Value.oneCell']) (by decide) (by unfold maxLen;omega) (by omega) (by simp;omega) _ rfl ?_;intro g3 ng w3 hown3 hgrow3 iI hlt3;have bG:=((aP.alloc _).alloc _).grown hgrow3 (fun e=>by have:=(hown1.lt _ e.symm).1;omega);have c03:w3.cell? ⟨w.heap.size+1,0,none⟩=some (.slice va vk vc):=bG.cell 0;have oJ:∀i,w3.frozen? ⟨w.heap.size+1,i,none⟩=false:=bG.frozen))
      have kB3:=((kB1.alloc _).alloc _).grown hgrow3 (fun e=>by have:=(hown1.lt _ e.symm).1;omega);have M3:=((M1.alloc _).alloc _).grown hgrow3 (fun k hk=>.inl (by have:=(hown1.lt _ hk).1;omega));have hx3:=(((hx1.alloc _).alloc _).move (hgrow3.block q (by simp;omega) (fun e=>by have:=(hown1.lt _ e.symm).1;omega)) (fun g hg=>hgrow3.block g (by have:=hx1.dQ g hg;simp;omega) (fun e=>hrg1.2.2 g e.symm hg)));go_roundg 0
      case measure=>omega
      case rel=>
       exact .inr ⟨n,a,_,_,_,sg1,sl1,rfl,hx3.other _ _ (by omega) eX,bG.set 0 _,kB3.other (by omega) _,aZ,M3.new (by omega) _ _,X1,HE⟩
     |ok x=>
      obtain⟨it,aB⟩:=x;obtain⟨v1,sg1,sl1,rfl,m1,x1,hr1,Mw,rfl,hax⟩:=he.ok hit;obtain⟨ya,yl,yc,rfl⟩:=ay.form hax;have hl1:=D8 (zF d) hit;have hl2:=hr.wf.mD;have jO:Hid (dM (bB d) f' aB (acc++[it])=dM (bB d) ts.length ts []):=by
       show _=_;rw[<-hpi.out];simp only[dM];rw[if_pos HS.out,hit]
      clear hit he hpi;have hrg1:=hrg.mv (oM YR d) m1 x1 (by omega);have hown1:=hrg1.1.2.1;have aZ:=x1.keep (b:=w.heap.size) jI.lt fB;have eX:=x1.keep (b:=w.heap.size+1) jl.lt fC;have aP:=jl.mv m1 (by omega) fC;have kB1:=jI.mv m1 (by omega) fB;have uM:=aP.lt;have M1:=M.trans X m1;have X1:=X.trans M.size x1;have qL:w1.cell? ⟨w.heap.size+1,0,none⟩=some (.slice va vk vc):=aP.cell 0;have qb:w.heap.size+1<w1.heap.size:=uM
      go_wp2_with (first
       | (at_builtin;refine wpList_append_lies _ rfl _ _ 143 rfl (w.heap.size+2) 158 i0 _ 5 64 underlying143 hi hz0 hz1 hz2 rfl (by decide) (.slice va vk vc) acc.length (ps.flatMap YR.cI) rfl ((hown1.alloc _).alloc _) ⟨w1.heap.size+1,0,none⟩ 1 1 [.int .i64 (it.kind:Int),.string it.name,.int .u8 (it.mark:Int),.slice ya yl yc,.int .i64 (it.place:Int)] rfl rfl (by have:=bC (aj.new (w1.alloc (.cells #[.int .i64 (it.kind:Int),.string it.name,.int .u8 (it.mark:Int),.slice ya yl yc,.int .i64 (it.place:Int)] 158)) #[.int .i64 (it.kind:Int),.string it.name,.int .u8 (it.mark:Int),.slice ya yl yc,.int .i64 (it.place:Int)] 158);simpa using this) (by simp[Value.oneCell']) (by decide) (by unfold maxLen;omega) (by omega) (by simp;omega) _ rfl ?_;intro g3 ng w3 hown3 hgrow3 iI hlt3;have bG:=((aP.alloc _).alloc _).grown hgrow3 (fun e=>by have:=(hown1.lt _ e.symm).1;omega);have c03:w3.cell? ⟨w.heap.size+1,0,none⟩=some (.slice va vk vc):=bG.cell 0;have oJ:∀i,w3.frozen? ⟨w.heap.size+1,i,none⟩=false:=bG.frozen))
      have kB3:=((kB1.alloc _).alloc _).grown hgrow3 (fun e=>by have:=(hown1.lt _ e.symm).1;omega);have M3:=((M1.alloc _).alloc _).grown hgrow3 (fun k hk=>.inl (by have:=(hown1.lt _ hk).1;omega));have hr3:=(((hr1.alloc _).alloc _).move (hgrow3.block q (by simp;omega) (fun e=>by have:=(hown1.lt _ e.symm).1;omega)) (fun g hg=>hgrow3.block g (by have:=hr1.dQ g hg;simp;omega) (fun e=>hrg1.2.2 g e.symm hg)));have G3:=iV.push (oM YR d) hrg (q:=q) (by omega) (by omega) m1 x1 hr1.dQ (.slice ya yl yc,it) hax (aW (bZ w1 _ none) (bZ _ _ none)) hown3 hgrow3 iI;go_roundg (aB.length+1)
      case measure=>omega
      case rel=>
       exact .inl ⟨aB,acc++[it],_,sg1,sl1,f',rfl,by omega,by simp;omega,hr3.other _ _ (by omega) eX,bG.set 0 _,kB3.other (by omega) _,aZ,eX,jr.kept (oM YR d) G3 (gu w3 (w.heap.size+1) 0 _) (fun k hk=>by cases hk;omega),M3.new (by omega) _ _,X1,jO⟩
  ·have h0:((n:Int) == 0)=false:=beq_eq_false_iff_ne.2 (by have:=hx.pos;omega)
   obtain⟨ii,WW,rM⟩:=hx.blk;have c4:wr.cell? ⟨q,4,none⟩=some (.int .i64 (n:Int)):=rM.cell 4;have e0:wr.cell? ⟨w.heap.size,0,none⟩=some (.slice none 0 0):=aH.cell 0;have e1:wr.cell? ⟨w.heap.size,1,none⟩=some (.string ⟨#[]⟩):=aH.cell 1;have e2:wr.cell? ⟨w.heap.size,2,none⟩=some (.int .i64 0):=aH.cell 2;have d0:wr.cell? ⟨w.heap.size+1,0,none⟩=some (.slice xa xk xc):=aN.cell 0;have d1:wr.cell? ⟨w.heap.size+1,1,none⟩=some (.string ⟨#[]⟩):=aN.cell 1;have d2:wr.cell? ⟨w.heap.size+1,2,none⟩=some (.int .i64 0):=aN.cell 2;have ff:∀i,wr.frozen? ⟨w.heap.size,i,none⟩=false:=aH.frozen;cases top
   ·go_wp2_with fail
    refine bodyPost_ret (v:=.agg #[(.slice xa xk xc),(.string ⟨#[]⟩),(.int .i64 0)]) (by simp[results,results156,go_sem,e0,e1,e2]) rfl ?_;exact bO.no HE.out (((M.new (zL0) _ _).new (zL0) _ _).new (zL0) _ _) X (((hx.other _ _ (by omega) fB).other _ _ (by omega) fB).other _ _ (by omega) fB) ⟨_,_,_,_,_,rfl⟩
   ·go_wp2_with (first
     | (go_at_call 168;refine(yD hx _).mono ?_;rintro e w'⟨rfl,hw⟩;obtain rfl:=hw.symm))
    refine bodyPost_ret (v:=.agg #[(.slice xa xk xc),(.string ⟨#[]⟩),(.int .i64 0)]) (by simp[results,results156,go_sem,e0,e1,e2]) rfl ?_;exact bO.no HE.out (((M.new (zL0) _ _).new (zL0) _ _).new (zL0) _ _) X (((hx.other _ _ (by omega) fB).other _ _ (by omega) fB).other _ _ (by omega) fB) ⟨_,_,_,_,_,rfl⟩
end Go.Proofs.YtjaalkocdbkdeaaGreatDoor

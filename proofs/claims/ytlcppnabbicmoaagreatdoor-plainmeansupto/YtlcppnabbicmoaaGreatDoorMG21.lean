import Derived.Test.YtlcppnabbicmoaaGreatDoorMG20
set_option maxHeartbeats 8000000
set_option maxRecDepth 1000000
namespace Go.Proofs.YtlcppnabbicmoaaGreatDoor
open Lx Go.Proofs.Tryz
open Go.RowKit Tr
namespace Lx
theorem Ab (b n:Nat):(oG b n).length=n:=by simp[oG]
theorem YG {b n k:Nat}(h:k<n):(oG b n)[k]?=some (b+1+k):=by simp[oG,h]
def qM (T N:List ByteArray)(H:List It)(it:It):Prop:=if hlp it=true then qO H it.place<H.length else qi T N it
theorem Lb {H:List It}(hr:(H.map It.place).Pairwise (·< ·)){p k:Nat}(hk:k<H.length)(hl:qO H p<H.length):H[k].place=p↔k=qO H p:=by
 have h1:H[qO H p].place=p:=by
  have:=List.findIdx_getElem (w:=hl);exact of_decide_eq_true this
 constructor
 ·intro h
  rcases Nat.lt_trichotomy k (qO H p) with h2 | h2 | h2
  ·have:=List.not_of_lt_findIdx h2
   simp[h]at this
  ·exact h2
  ·exfalso
   have h3:=List.pairwise_iff_getElem.1 hr (qO H p) k (by simpa using hl) (by simpa using hk) h2;simp[h1,h]at h3
 ·rintro rfl;exact h1
end Lx
theorem HR.at {B:Nat}{F:Nat->Prop}{w:World}{v:Value}{l:List Lx.It}(h:HR B F w v l){j:Nat}(hj:j<l.length):∃ g cap va,v=.slice (some ⟨g,0,none⟩) l.length cap/\ay YR 9 F w va l[j].alts/\∀ i,i<5->w.cell? ⟨g,j*5+i,none⟩=(YR.cI (va,l[j]))[i]?:=by
 obtain⟨ps,h1,h2,h3⟩:=h;have hs:Tr.Seq (fun _=>True) w 148 5 YR.cI (fun va it=>ay YR 9 F w va it.alts) v l:=⟨ps,h1,dO h2 (Nat.zero_le _),fun _ _=>trivial,h3⟩;obtain⟨g,cap,va,k1,-,k3,k4⟩:=Seq.at hs (fun _=>rfl) hj;exact⟨g,cap,va,k1,k3,k4⟩
theorem HR.len {B:Nat}{F:Nat->Prop}{w:World}{v:Value}{l:List Lx.It}(h:HR B F w v l):∃ a c,v=.slice a l.length c/\l.length<=maxLen:=by
 obtain⟨ps,h1,h2,h3⟩:=h;exact aI h2
theorem IR.at {B:Nat}{w:World}{v:Value}{r:List Nat}(h:IR B w v r){j:Nat}(hj:j<r.length):∃ g cap,v=.slice (some ⟨g,0,none⟩) r.length cap/\g<w.heap.size/\w.cell? ⟨g,j,none⟩=some (.int .i64 (r[j]:Int)):=by
 unfold IR at h;obtain⟨g,cap,rfl,-,-⟩:=h.form (by omega);refine⟨g,cap,rfl,(h.lt g rfl).2,?_⟩;rw[h.cellAt j (by omega),ahf hj]
theorem HR.blk {B:Nat}{F:Nat->Prop}{w:World}{v:Value}{l:List Lx.It}(h:HR B F w v l):∀ g,v.ownBlock=some g->g<w.heap.size:=by
 obtain⟨ps,h1,h2,h3⟩:=h;exact fun g hg=>(h2.lt g hg).2
theorem XM {F:Nat->Prop} {w:World} {mb:Nat} {T N:List ByteArray} {b:Nat} {H:List Lx.It} (h:Dl F w mb T N b H) {d:Nat} (its:List Lx.It) (vi:Value) (hi:bJ YR d F w vi its) (hil:its.length<=10000) (prec:ByteArray) (pa:Nat) (hok:∀ x,x∈its->qM T N H x) :
  Calls prog 68 #[.pointer (some ⟨mb,0,none⟩),.agg #[vi,.string prec,.int .i64 (pa:Int)]] w fun e w'=>∃ u,e=.returned u/\IR w.heap.size w' u (gY T N b H its)/\Below w.heap.size w w':=by
 obtain⟨i0,hii,hz0,hz1,hz2⟩:=info_parts Tryz.info3;obtain⟨⟨vT,vN,vP,vB,vK,vH,vL,h1,h2,h3,h4,h5⟩,hl,h6,h7,h8⟩:=id h;obtain⟨ia,ic,iF,him⟩:∃ a c,vi=.slice a its.length c/\its.length<=maxLen:=Seq.len (show Tr.Seq F w YR.eI YR.sI YR.cI (fun va it=>ay YR d F w va it.alts) vi its from hi);subst iF;unfold maxLen at him;obtain⟨ha,hc,tQ,Ti⟩:=h4.len;subst tQ;unfold maxLen at Ti;have jL:=h1.lt;go_enter func68,ntmps68;go_wp2_with fail;obtain⟨W,hW⟩:∃ W,W=w.alloc (.cells #[.slice ia its.length ic,.string prec,.int .i64 (pa:Int)] 145):=⟨_,rfl⟩;rw[<-hW];have hB:Below w.heap.size w W:=by rw[hW];exact (Below.refl _ _).alloc (lr0) _
 have hWs:W.heap.size=w.heap.size+1:=by rw[hW];simp
 have kA:aj W w.heap.size #[.slice ia its.length ic,.string prec,.int .i64 (pa:Int)] 145:=by rw[hW];exact aj.new w _ 145
 clear hW
 go_loopg [5,6] its.length (fun k vo i wr=>∃ (j:Nat) (acc:List Nat),j+k=its.length/\i=.int .i64 j/\IR W.heap.size wr vo acc/\Below W.heap.size W wr/\Hid (acc=(its.take j).map (fT T N b H)))
 case atStart=>exact⟨0,[],by omega,rfl,World.ownsRow_nil _ _ _ _,Below.refl _ _,rfl⟩
 case round =>
  revert wr;intro wz hrel;obtain⟨j,acc,hk,rfl,ho,hbz,tT⟩:=hrel;have hac:acc.length<=10000:=by rw[tT.out,List.length_map,List.length_take];omega
  obtain⟨oa,oc,tN,uZ⟩:=aI ho;subst tN;have hsz:=hbz.size;have hbw:Below w.heap.size w wz:=hB.trans (hbz.mono (by omega));have dY:aj wz w.heap.size _ 145:=(hbz.block _ (by omega)).trans kA;have a0:wz.cell? ⟨w.heap.size,0,none⟩=some (.slice ia its.length ic):=dY.cell 0
  by_cases hlt:j<its.length
  ·have hiz:bJ YR d F wz _ its:=bJ.move (fun b hb=>hbw.block b (hl b hb)) (fun _ h=>h) hi
   unfold bJ nV at hiz;obtain⟨n,rP,va,hv,hn,ha',hcc⟩:=Seq.at hiz (fun _=>rfl) hlt;cases hv;have hok1:=hok its[j] (List.getElem_mem hlt);have htk:(its.take (j+1)).map (fT T N b H)=acc++[fT T N b H its[j]]:=by rw[tT.out,List.take_succ_eq_append_getElem hlt,List.map_append];rfl
   have bH:Hid _:=htk;clear htk;generalize its[j]=it at ha' hcc hok1 bH;obtain⟨sa,sc,hva,-⟩:=ay.len ha';subst hva;have e0:wz.cell? ⟨n,j*5,none⟩=some (.int .i64 (it.kind:Int)):=hcc 0 (by decide);have e1:wz.cell? ⟨n,j*5+1,none⟩=some (.string it.name):=hcc 1 (by decide);have e2:wz.cell? ⟨n,j*5+2,none⟩=some (.int .u8 (it.mark:Int)):=hcc 2 (by decide);have e3:wz.cell? ⟨n,j*5+3,none⟩=some (.slice sa it.alts.length sc):=hcc 3 (by decide);have e4:wz.cell? ⟨n,j*5+4,none⟩=some (.int .i64 (it.place:Int)):=hcc 4 (by decide);have ln:n<wz.heap.size:=by have:=hl n hn;omega
   clear hcc hiz;obtain⟨W1,hW1⟩:∃ W1,W1=wz.alloc (.cells #[.int .i64 (it.kind:Int),.string it.name,.int .u8 (it.mark:Int),.slice sa it.alts.length sc,.int .i64 (it.place:Int)] 148):=⟨_,rfl⟩;have hb1:Below wz.heap.size wz W1:=by rw[hW1];exact (Below.refl _ _).alloc (lr0) _
   have hs1:W1.heap.size=wz.heap.size+1:=by rw[hW1];simp
   have kx:aj W1 wz.heap.size #[.int .i64 (it.kind:Int),.string it.name,.int .u8 (it.mark:Int),.slice sa it.alts.length sc,.int .i64 (it.place:Int)] 148:=by rw[hW1];exact aj.new wz _ 148
   have AB:Below w.heap.size w W1:=hbw.trans (hb1.mono (by omega))
   by_cases hh:Lx.hlp it=true
   ·have hfx:qO H it.place<H.length:=by unfold qM at hok1;rw[if_pos hh]at hok1;exact hok1
    have Bg:Hid (fT T N b H it=b+1+qO H it.place):=if_pos hh;have hcase:(it.kind=2)\/(it.kind≠2/\it.mark≠0):=by
     by_cases h2:it.kind=2
     ·exact .inl h2
     ·refine .inr ⟨h2,?_⟩
      simpa [Lx.hlp,h2]using hh
    clear hh hok1;have HFX:Hid (qO H it.place<H.length):=hfx;have hfi:=fun {k:Nat} (hk:k<H.length)=>Lb h8 hk hfx
    clear hfx;generalize qO H it.place=fx at HFX Bg hfi;rcases hcase with hk2 | ⟨hk2,hm2⟩
    have hkb:((it.kind:Int) == 2)=true:=by simp[hk2]
    have hkn:((it.kind:Int) != 2)=false:=by simp[hk2]
    have HK:Hid (it.kind=2):=hk2;clear hk2
    rotate_left
    have hkb:((it.kind:Int) == 2)=false:=bq0 (by omega);have hkn:((it.kind:Int) != 2)=true:=bne_iff_ne.2 (by omega);have hkd:¬ (it.kind:Int)=2:=by omega
    have hmd:¬ (it.mark:Int)=0:=by omega
    have hmn:((it.mark:Int) != 0)=true:=bne_iff_ne.2 (by omega);have hmb:((it.mark:Int) == 0)=false:=bq0 (by omega);have HK:Hid (it.kind≠2):=hk2;have HM:Hid (it.mark≠0):=hm2;clear hk2 hm2
    all_goals
     go_wp2_with fail;rw[<-hW1];clear hW1
     go_loopg [8,9] H.length (fun k s i wr=>∃ (m sv:Nat),m+k=H.length/\i=.int .i64 m/\s=.int .i64 sv/\Below W1.heap.size W1 wr/\Hid (sv=if fx<m then b+1+fx else 0))
     case atStart=>exact⟨0,0,by omega,rfl,rfl,Below.refl _ _,rfl⟩
     case round =>
      obtain⟨m,sv,hkm,rfl,rfl,hbr,HS⟩:=hrel;have qo:=hbr.size;have Fh:Below w.heap.size w wr:=AB.trans (hbr.mono (by omega));have iy:aj wr wz.heap.size _ 148:=(hbr.block _ (by omega)).trans kx;have hx0:wr.cell? ⟨wz.heap.size,0,none⟩=some (.int .i64 (it.kind:Int)):=iy.cell 0;have hx2:wr.cell? ⟨wz.heap.size,2,none⟩=some (.int .u8 (it.mark:Int)):=iy.cell 2;have hx4:wr.cell? ⟨wz.heap.size,4,none⟩=some (.int .i64 (it.place:Int)):=iy.cell 4;have wG:aj wr mb _ 135:=(Fh.block _ jL).trans h1;have hm5:wr.cell? ⟨mb,5,none⟩=some (.slice ha H.length hc):=wG.cell 5;have Jj:wr.cell? ⟨mb,6,none⟩=some vL:=wG.cell 6
      by_cases bF:m<H.length
      ·obtain⟨gH,akr,vaH,tQ,Jk,zy⟩:=(h4.move (w':=wr) (fun b hF=>Fh.block b (hl b hF)) (fun g hg=>Fh.block g (h4.blk g hg))).at bF
       cases tQ;have Jl:wr.cell? ⟨gH,m*5+4,none⟩=some (.int .i64 (H[m].place:Int)):=zy 4 (by decide);have hi2:=hfi bF;clear zy Jk;generalize H[m].place=pl at Jl hi2
       by_cases hpe:pl=it.place
       ·have hpb:((pl:Int) == (it.place:Int))=true:=by simp[hpe]
        have zi:=hi2.1 hpe;have HS2:Hid (b+1+m=if fx<m+1 then b+1+fx else 0):=by
         show _=_;rw[if_pos (by omega),zi]
        have hL6:IR 0 wr vL (oG b H.length):=aD h5 fun g hg=>Fh.block g (h5.lt g hg).2
        obtain⟨gL,Cr,qD,lL,zA⟩:=hL6.at (j:=m) (by rw[Ab];exact bF);rw[qD]at Jj;rw[Ab]at Jj;have Rc:wr.cell? ⟨gL,m,none⟩=some (.int .i64 ((b+1+m:Nat):Int)):=by
         rw[zA];have:=YG (b:=b) bF;rw[List.getElem?_eq_getElem (by rw[Ab];exact bF)]at this;rw[Option.some.inj this]
        generalize b+1+m=nv at HS2 Rc;clear hpe zi hi2 HS zA;go_wp2_with fail
        go_quiet (fail)
        have hb6:Below W1.heap.size W1 (wr.drewN nq):=hbr.trans ⟨rfl,rfl,rfl,lr0,fun _ _=>rfl⟩;go_wp2_with fail;go_roundg (H.length - (m+1))
        case measure=>omega
        case rel=>exact⟨m+1,nv,by omega,by go_num,rfl,hb6,HS2⟩
       ·have hpb:((pl:Int) == (it.place:Int))=false:=bq0 (by omega)
        have zi:¬ m=fx:=fun e=>hpe (hi2.2 e)
        have HS2:Hid (sv=if fx<m+1 then b+1+fx else 0):=by
         have:=HS.out;show _=_;rw[this]
         by_cases h':fx<m
         ·rw[if_pos h',if_pos (by omega)]
         ·rw[if_neg h',if_neg (by omega)]
        clear hpe zi hi2 HS;go_wp2_with fail
        go_quiet (fail)
        have hb6:Below W1.heap.size W1 (wr.drewN nq):=hbr.trans ⟨rfl,rfl,rfl,lr0,fun _ _=>rfl⟩;go_wp2_with fail;go_roundg (H.length - (m+1))
        case measure=>omega
        case rel=>exact⟨m+1,sv,by omega,by go_num,rfl,hb6,HS2⟩
      ·have:m=H.length:=by omega
       subst this;have hsv:fT T N b H it=sv:=by rw[Bg.out,HS.out,if_pos HFX.out]
       have aks:Hid (fT T N b H it=sv):=hsv;clear hsv Bg;have Bg:=aks;have sQ:Below wz.heap.size wz wr:=hb1.trans (hbr.mono (by omega));clear hx0 hx2 hx4 Jj;have qP:wr.ownsRow W.heap.size 3 1 (.slice oa acc.length oc) acc.length (gV acc):=aD ho fun g hg=>sQ.block g (ho.lt g hg).2
       have akt:=sQ.size
       go_wp2_with (at_builtin;go_loud (refine wpList_append_own_at _ rfl _ _ 24 rfl W.heap.size 3 i0 _ 1 8 underlying24 hii hz0 hz1 hz2 rfl (by decide) (.slice oa acc.length oc) _ _ rfl (qP.alloc _) ⟨_,0,none⟩ 1 1 [.int .i64 (sv:Int)] rfl rfl (bP (aj.new _ _ 3)) (by simp[Value.oneCell']) (by unfold maxLen;omega) (by omega) (by simp;omega) ?_;intro v5 w5 hown5 bf _ _;obtain⟨dL,dM,hv5,-⟩:=aI hown5;subst hv5))
       have hb5:Below W.heap.size W w5:=((hbz.trans (sQ.mono hsz)).alloc (by omega) _).grown bf (by simp;omega) (fun k hk=>(ho.lt k hk).1);have Tj:IR W.heap.size w5 (.slice dL (acc.length+1) dM) (acc++[fT T N b H it]):=by
        unfold IR;rw[yE,List.length_append,Bg.out];exact hown5
       have Rf:Hid (acc++[fT T N b H it]=(its.take (j+1)).map (fT T N b H)):=bH.out.symm;go_roundg (its.length - (j+1))
       case measure=>omega
       case rel=>exact⟨j+1,_,by omega,by go_num,Tj,hb5,Rf⟩
   ·have hp1:qi T N it:=by unfold qM at hok1;rw[if_neg hh]at hok1;exact hok1
    have Bg:Hid (fT T N b H it=fU T N it):=if_neg hh;have hk2:it.kind≠2/\it.mark=0:=by simpa [Lx.hlp]using hh
    have hkb:((it.kind:Int) == 2)=false:=bq0 (by omega);have hkn:((it.kind:Int) != 2)=true:=bne_iff_ne.2 (by omega);have hkd:¬ (it.kind:Int)=2:=by omega
    have hmn:((it.mark:Int) != 0)=false:=by simp[hk2.2]
    have hmb:((it.mark:Int) == 0)=true:=by simp[hk2.2]
    have HK:Hid (it.kind≠2/\it.mark=0):=hk2;clear hk2 hh hok1;go_wp2_with fail;rw[<-hW1];clear hW1;refine (V3 (h.below AB) it sa it.alts.length sc hp1).mono ?_;rintro e w2 ⟨rfl,hb2⟩;generalize fU T N it=sv at Bg;go_wp2_with fail
    go_loopg [8,9] H.length (fun k s i wr=>∃ (m:Nat),m+k=H.length/\i=.int .i64 m/\s=.int .i64 (sv:Int)/\Below w2.heap.size w2 wr)
    case atStart=>exact⟨0,by omega,rfl,rfl,Below.refl _ _⟩
    case round =>
     obtain⟨m,hkm,rfl,rfl,qz⟩:=hrel;have hbr:Below W1.heap.size W1 wr:=hb2.trans (qz.mono hb2.size);have qo:=hbr.size;have Fh:Below w.heap.size w wr:=AB.trans (hbr.mono (by omega));have iy:aj wr wz.heap.size _ 148:=(hbr.block _ (by omega)).trans kx;have hx0:wr.cell? ⟨wz.heap.size,0,none⟩=some (.int .i64 (it.kind:Int)):=iy.cell 0;have hx2:wr.cell? ⟨wz.heap.size,2,none⟩=some (.int .u8 (it.mark:Int)):=iy.cell 2;have hx4:wr.cell? ⟨wz.heap.size,4,none⟩=some (.int .i64 (it.place:Int)):=iy.cell 4;have wG:aj wr mb _ 135:=(Fh.block _ jL).trans h1;have hm5:wr.cell? ⟨mb,5,none⟩=some (.slice ha H.length hc):=wG.cell 5;have Jj:wr.cell? ⟨mb,6,none⟩=some vL:=wG.cell 6
     by_cases bF:m<H.length
     ·go_wp2_with fail
      go_quiet (fail)
      have hb6:Below w2.heap.size w2 (wr.drewN nq):=qz.trans ⟨rfl,rfl,rfl,lr0,fun _ _=>rfl⟩;go_wp2_with fail;go_roundg (H.length - (m+1))
      case measure=>omega
      case rel=>exact⟨m+1,by omega,by go_num,rfl,hb6⟩
     ·have sQ:Below wz.heap.size wz wr:=hb1.trans (hbr.mono (by omega))
      clear hx0 hx2 hx4 Jj;have qP:wr.ownsRow W.heap.size 3 1 (.slice oa acc.length oc) acc.length (gV acc):=aD ho fun g hg=>sQ.block g (ho.lt g hg).2
      have akt:=sQ.size
      go_wp2_with (at_builtin;go_loud (refine wpList_append_own_at _ rfl _ _ 24 rfl W.heap.size 3 i0 _ 1 8 underlying24 hii hz0 hz1 hz2 rfl (by decide) (.slice oa acc.length oc) _ _ rfl (qP.alloc _) ⟨_,0,none⟩ 1 1 [.int .i64 (sv:Int)] rfl rfl (bP (aj.new _ _ 3)) (by simp[Value.oneCell']) (by unfold maxLen;omega) (by omega) (by simp;omega) ?_;intro v5 w5 hown5 bf _ _;obtain⟨dL,dM,hv5,-⟩:=aI hown5;subst hv5))
      have hb5:Below W.heap.size W w5:=((hbz.trans (sQ.mono hsz)).alloc (by omega) _).grown bf (by simp;omega) (fun k hk=>(ho.lt k hk).1);have Tj:IR W.heap.size w5 (.slice dL (acc.length+1) dM) (acc++[fT T N b H it]):=by
       unfold IR;rw[yE,List.length_append,Bg.out];exact hown5
      have Rf:Hid (acc++[fT T N b H it]=(its.take (j+1)).map (fT T N b H)):=bH.out.symm;go_roundg (its.length - (j+1))
      case measure=>omega
      case rel=>exact⟨j+1,_,by omega,by go_num,Tj,hb5,Rf⟩
  ·have:j=its.length:=by omega
   subst this;go_wp2_with fail;go_ret;refine⟨_,rfl,?_,hbw⟩;have h9:IR w.heap.size wz (.slice oa acc.length oc) acc:=dO ho (by omega);have e9:acc=gY T N b H its:=by have:=tT.out;rw[List.take_length]at this;exact this
   rw[e9]at h9 |-;exact h9
namespace Lx
theorem agi (l:List ByteArray)(b:ByteArray):(∀ c∈l,c∈iM l b)/\b∈iM l b:=by
 unfold iM
 split
 ·rename_i h;exact⟨fun _ h=>h,iG.1 h⟩
 ·exact⟨fun c h=>List.mem_append.2 (.inl h),List.mem_append.2 (.inr List.mem_cons_self)⟩
theorem OI:∀ (bs l:List ByteArray),(∀ c∈l,c∈bQ l bs)/\∀ b∈bs,b∈bQ l bs
 | [],l=>⟨fun _ h=>h,fun _ h=>by cases h⟩
 | b::bs,l=>by
  have h1:=agi l b;have h2:=OI bs (iM l b);refine⟨fun c hc=>h2.1 c (h1.1 c hc),fun c hc=>?_⟩;rcases List.mem_cons.1 hc with rfl | hc
  ·exact h2.1 _ h1.2
  ·exact h2.2 c hc
theorem Zk {g:Gr}{b:ByteArray}(h:b∈iD g):0<=bA (aA g) b:=iG.2 ((OI _ _).2 b (List.mem_append.2 (.inl h)))
theorem Qp {g:Gr}{r:Rl}(hr:r∈g.rules){x:It}(hx:x∈aX 9 r.alts)(hk:x.kind=1):0<=bA (aA g) x.name:=by
 refine iG.2 ((OI _ _).2 _ (List.mem_append.2 (.inr (List.mem_flatMap.2 ⟨r,hr,?_⟩))));exact List.mem_map.2 ⟨x,List.mem_filter.2 ⟨hx,by simp[hk]⟩,rfl⟩
theorem ahg {g:Gr}{b:ByteArray}(h:b∈aG g):0<=bA (aN g) b:=by
 obtain⟨r,hr,rfl⟩:=List.mem_map.1 h;exact iG.2 (List.mem_cons_of_mem _ (List.mem_flatMap.2 ⟨r,hr,List.mem_cons_self⟩))
theorem Vs {g:Gr} {d:Nat}:∀ {its:List It} {r:List Wd},unk g (its.flatMap (j6 d)++r)=none->(∀ x∈its,(x.kind=0->0<=bA (aG g) x.name)/\unk g (dD d x.alts)=none)/\unk g r=none
 | [],r,h=>⟨fun _ h=>(by cases h),h⟩
 | x::its,r,h=>by
  rw[List.flatMap_cons,List.append_assoc]at h;obtain⟨h1,h2,h3⟩:=OE h;obtain⟨h4,h5⟩:=Vs h3;refine⟨fun y hy=>?_,h5⟩;rcases List.mem_cons.1 hy with rfl | hy
  ·exact⟨h1,h2⟩
  ·exact h4 y hy
theorem OJ {g:Gr} {d:Nat}:∀ {l:List Alt},unk g (l.flatMap (qd d))=none->∀ a∈l,(∀ x∈a.1,(x.kind=0->0<=bA (aG g) x.name)/\unk g (dD d x.alts)=none)/\(a.2.1≠aM->lvls g a.2.1=true)
 | [],h,a,ha=>by cases ha
 | b::l,h,a,ha=>by
  rw[List.flatMap_cons,GI,List.append_assoc]at h;obtain⟨h1,h2⟩:=Vs h;have h3:=OG h2;rcases List.mem_cons.1 ha with rfl | ha
  ·refine⟨h1,fun hn=>?_⟩
   cases hq:lvls g a.2.1 with
   | true=>rfl
   | false=>rw[VQ hn hq]at h2;cases h2
  ·exact OJ h3 a ha
theorem Ah:∀ {d:Nat} {g:Gr} {l:List Alt},unk g (dD d l)=none->∀ {x:It},x∈aX d l->x.kind=0->0<=bA (aG g) x.name
 | 0,g,l,h,x,hx,hk=>by cases hx
 | d+1,g,l,h,x,hx,hk=>by
  obtain⟨a,ha,z,hz,hx⟩:=nQ.1 hx;rw[Er]at h;obtain⟨h1,h2⟩:=(OJ h a ha).1 z hz;rcases hx with rfl | hx
  ·exact h1 hk
  ·exact Ah h2 hx hk
structure Fit (g:Gr):Prop where
 lv:∀ l∈g.levels,Mh l
 rl:∀ r∈g.rules,Ig r
 ne:0<g.rules.length
 dp:∀ r∈g.rules,Dp 9 r.alts
 sz:xD g.levels+uz g.rules<=2001
 FK:((Ie g.rules).map It.place).Pairwise (·< ·)
 unk:qp g=none
 dup:pu g=none
theorem Fit.Fj {g:Gr}(h:Fit g){r:Rl}(hr:r∈g.rules):Lx.unk g (dD 9 r.alts)=none:=GX h.unk r hr
theorem Fit.plain {g:Gr}(h:Fit g){r:Rl}(hr:r∈g.rules){x:It}(hx:x∈aX 9 r.alts)(hk:x.kind≠2):qi (aA g) (aN g) x:=by
 unfold qi
 split
 ·rename_i h1;exact Qp hr hx h1
 ·rename_i h1
  rcases (h.rl r hr).2.1 x hx with h2 | h2 | h2
  ·exact ahg (iG.1 (Ah (h.Fj hr) hx h2.1))
  ·exact absurd h2.1 h1
  ·exact absurd h2 hk
theorem Lr {H:List It}{x:It}(h:x∈H):qO H x.place<H.length:=List.findIdx_lt_length_of_exists ⟨x,h,by simp⟩
theorem Fit.sym {g:Gr}(h:Fit g){r:Rl}(hr:r∈g.rules){x:It}(hx:x∈aX 9 r.alts):qM (aA g) (aN g) (aH 9 r.alts) x:=by
 unfold qM
 split
 ·rename_i hh;exact Lr (List.mem_filter.2 ⟨hx,hh⟩)
 ·rename_i hh
  refine h.plain hr hx fun hk=>hh ?_
  simp[hlp,hk]
theorem Fit.prec {g:Gr}(h:Fit g){r:Rl}(hr:r∈g.rules){a:Alt}(ha:a∈r.alts)(hn:a.2.1≠aM):0<=bA (aA g) a.2.1:=by
 have h1:=(OJ (d:=8) (h.Fj hr) a ha).2 hn;rw[PV]at h1;exact Zk (xu.1 h1)
theorem Fit.size {g:Gr}(h:Fit g){r:Rl}(hr:r∈g.rules):1+iP 9 r.alts<=2001:=by
 have h1:1+iP 9 r.alts<=uz g.rules:=He (fun r:Rl=>1+iP 9 r.alts) hr;have:=h.sz;omega
theorem Fit.rise {g:Gr}(h:Fit g){r:Rl}(hr:r∈g.rules):((aH 9 r.alts).map It.place).Pairwise (·< ·):=by
 refine h.FK.sublist (List.Sublist.map _ ?_);refine List.Sublist.trans List.filter_sublist ?_;unfold Ie;obtain⟨s,t,e⟩:=List.append_of_mem hr;rw[e,List.flatMap_append,List.flatMap_cons];exact List.Sublist.trans (List.sublist_append_left _ _) (List.sublist_append_right _ _)
theorem Fit.rules {g:Gr}(h:Fit g):g.rules.length<=2001:=by
 have h1:g.rules.length<=uz g.rules:=Ag (fun r:Rl=>1+iP 9 r.alts) fun _ _=>by omega
 have:=h.sz;omega
theorem O4 (g:Gr):(iD g).length<=xD g.levels:=by
 unfold iD eX iC xD;rw[List.length_map,List.length_flatMap]
 induction g.levels with
 | nil=>exact lr0
 | cons l ls ih=>simp only[List.map_cons,List.sum_cons,List.length_map]at ih |-;omega
theorem YH (rs:List Rl):(rs.flatMap fun r=>jb 9 r.alts).length<=uz rs:=by
 unfold uz;rw[List.length_flatMap]
 induction rs with
 | nil=>exact lr0
 | cons r rs ih =>
  have:=ag4 9 r.alts;simp only[List.map_cons,List.sum_cons]at ih |-;omega
theorem vg (r:Rl):(fQ r).length=1+(aH 9 r.alts).length:=by simp[fQ];omega
theorem Pt (rs:List Rl):(rs.flatMap fQ).length<=uz rs:=by
 unfold uz;rw[List.length_flatMap]
 induction rs with
 | nil=>exact lr0
 | cons r rs ih =>
  have:=Yv 9 r.alts;have:=vg r;simp only[List.map_cons,List.sum_cons]at ih |-;omega
theorem Fit.Ms {g:Gr}(h:Fit g):(aA g).length<=2002:=by
 have h1:=Kk (iD g++g.rules.flatMap fun r=>jb 9 r.alts) [iY];have h2:=O4 g;have h3:=YH g.rules;have:=h.sz;rw[List.length_append]at h1;unfold aA;simp only[List.length_cons,List.length_nil]at h1;omega
theorem Fit.Rh {g:Gr}(h:Fit g):(aN g).length<=2002:=by
 have h3:=Pt g.rules;have:=h.sz;unfold aN;rw[List.length_cons];omega
theorem OL {T N:List ByteArray}{b:Nat}{H:List It}{x:It}{n:Nat}(h:x.alts.length<=n)(hn:1<=n):(partsOf T N b H x).length<=n:=by
 unfold partsOf;split
 ·rw[List.length_map];exact h
 ·exact hn
theorem WU (n s m:Nat)(ps:List (List Nat)):(iH n s m ps).length<=1+2*ps.length:=by
 unfold iH;rw[List.length_append,List.length_append]
 split <;> split <;> split <;> simp <;> omega
theorem OM {T N:List ByteArray} {b:Nat} {H:List It} {n:Nat} (hn:1<=n):∀ (l:List It) (k:Nat),(∀ x∈l,x.alts.length<=n)->(jZ T N b H k l).length<=l.length*(1+2*n)
 | [],_,_=>Nat.zero_le _
 | x::l,k,h=>by
  rw[jZ,List.length_append,List.length_cons,Nat.succ_mul];have h1:=WU T.length (b+1+k) x.mark (partsOf T N b H x);have h2:=OL (T:=T) (N:=N) (b:=b) (H:=H) (h x List.mem_cons_self) hn;have h3:=OM (T:=T) (N:=N) (b:=b) (H:=H) hn l (k+1) fun y hy=>h y (List.mem_cons_of_mem _ hy)
  omega
theorem Fit.its {g:Gr}(h:Fit g){r:Rl}(hr:r∈g.rules){x:It}(hx:x∈aX 9 r.alts):x.alts.length<=2001/\∀ a∈x.alts,a.1.length<=2001:=by
 have h1:=YA (h.dp r hr) hx;have h2:=h.size hr;exact⟨by omega,fun a ha=>by have:=h1.2 a ha;omega⟩
theorem Fit.alts {g:Gr}(h:Fit g){r:Rl}(hr:r∈g.rules):r.alts.length<=2001/\∀ a∈r.alts,a.1.length<=2001:=by
 have h1:=XF (h.dp r hr);have h2:=h.size hr;exact⟨by omega,fun a ha=>by have:=h1.2 a ha;omega⟩
theorem Fit.jS {g:Gr}(h:Fit g){r:Rl}(hr:r∈g.rules):(aH 9 r.alts).length<=2001:=by
 have h1:=Yv 9 r.alts;have h2:=h.size hr;omega
theorem Fit.aal {g:Gr}(h:Fit g){r:Rl}(hr:r∈g.rules)(T N:List ByteArray)(b:Nat):(ny T N b r).length<=10000000:=by
 unfold ny;rw[List.length_append,List.length_map];have h1:=OM (T:=T) (N:=N) (b:=b) (H:=aH 9 r.alts) (n:=2001) (by omega) (aH 9 r.alts) 0 fun x hx=>(h.its hr (List.mem_filter.1 hx).1).1
 have h2:=(h.alts hr).1;have h3:=h.jS hr;have h4:(aH 9 r.alts).length*(1+2*2001)<=2001*(1+2*2001):=Nat.mul_le_mul_right _ h3;omega
end Lx
theorem Ov {w:World}{n m:Nat}{it:Lx.It}(h:o7 w n m it):Calls prog 101 #[.pointer (some ⟨n,m*4,none⟩)] w fun e w'=>e=.returned (.bool (Lx.hlp it))/\w'=w:=by
 have h0:=h.kind;have h2:=h.mark;go_enter func101,ntmps101
 by_cases hk:it.kind=2
 ·have hkb:((it.kind:Int) == 2)=true:=by simp[hk]
  have hr:Lx.hlp it=true:=by simp[Lx.hlp,hk]
  rw[hr];clear hk hr;go_wp2_with fail;go_ret;exact⟨rfl,rfl⟩
 ·have hkb:((it.kind:Int) == 2)=false:=bq0 (by omega)
  by_cases hm:it.mark=0
  ·have hmb:((it.mark:Int) != 0)=false:=by simp[hm]
   have hr:Lx.hlp it=false:=by simp[Lx.hlp,hk,hm]
   rw[hr];clear hk hr hm;go_wp2_with fail;go_ret;exact⟨rfl,rfl⟩
  ·have hmb:((it.mark:Int) != 0)=true:=bne_iff_ne.2 (by omega)
   have hr:Lx.hlp it=true:=by simp[Lx.hlp,hk,hm]
   rw[hr];clear hk hr hm;go_wp2_with fail;go_ret;exact⟨rfl,rfl⟩
theorem Tryz.ZQ:(prog.info? 78).map (fun i=>(i.zero,i.size,i.bytes))=some (some (.agg #[.int .i64 0,.slice none 0 0,.int .i64 0]),3,40):=by kernel_rfl
theorem Tryz.OC:prog.underlying 30=some (.slice 78):=by kernel_rfl
def kH (q:Value × Lx.Pd):List Value:=[.int .i64 (q.2.left:Int),q.1,.int .i64 q.2.prec]
theorem Hf:∀ ps:List (Value × Lx.Pd),(ps.flatMap kH).length=ps.length*3
 | []=>rfl
 | p::ps=>by rw[List.flatMap_cons,List.length_append,Hf ps,List.length_cons,Nat.succ_mul];show 3+_=_;omega
def PR (D:Nat->Prop)(w:World)(v:Value)(P:List Lx.Pd):Prop:=∃ ps:List (Value × Lx.Pd),ps.map Prod.snd=P/\w.ownsRow 0 78 3 v P.length (ps.flatMap kH)/\∀ q,q∈ps->IR 0 w q.1 q.2.right/\∀ g,q.1.ownBlock=some g->D g
structure fZ (D F:Nat->Prop) (w:World) (mb:Nat) (T N:List ByteArray) (b:Nat) (H:List Lx.It) (P:List Lx.Pd):Prop where
 ex:∃ vT vN vP vH vL,aj w mb #[vT,vN,vP,.slice none 0 0,.slice none 0 0,vH,vL] 135/\w.ownsRow 0 9 1 vT T.length (T.map Value.string)/\w.ownsRow 0 9 1 vN N.length (N.map Value.string)/\HR 0 F w vH H/\IR 0 w vL (oG b H.length)/\PR (fun g=>D g/\mb<g) w vP P/\(∀ g,vT.ownBlock=some g->D g)/\(∀ g,vN.ownBlock=some g->D g)/\(∀ g,vH.ownBlock=some g->D g)/\(∀ g,vL.ownBlock=some g->D g)/\(∀ g,vP.ownBlock=some g->¬ D g/\g≠mb)
 nm:¬ D mb
 fd:∀ g,F g->D g
 lt:∀ g,D g->g<w.heap.size
 tn:T.length+N.length<=100000
 bn:b+H.length<=200000
 FK:(H.map Lx.It.place).Pairwise (·< ·)
theorem fZ.rd {D F:Nat->Prop}{w:World}{mb:Nat}{T N:List ByteArray}{b:Nat}{H:List Lx.It}{P:List Lx.Pd}(h:fZ D F w mb T N b H P):Dl F w mb T N b H:=by
 obtain⟨vT,vN,vP,vH,vL,h1,h2,h3,h4,h5,-⟩:=h.ex;exact⟨⟨vT,vN,vP,_,_,vH,vL,h1,h2,h3,h4,h5⟩,fun g hg=>h.lt g (h.fd g hg),h.tn,h.bn,h.FK⟩
structure Kp (D:Nat->Prop) (w w':World):Prop where
 os:w'.os=w.os
 tape:w'.tape=w.tape
 output:w'.output=w.output
 size:w.heap.size<=w'.heap.size
 block:∀ g,D g->w'.heap[g]?=w.heap[g]?
theorem Kp.refl (D:Nat->Prop)(w:World):Kp D w w:=⟨rfl,rfl,rfl,lr0,fun _ _=>rfl⟩
theorem Kp.trans {D D':Nat->Prop}{w w' w'':World}(h:Kp D w w')(k:Kp D' w' w'')(hD:∀ g,D g->D' g):Kp D w w'':=⟨k.os.trans h.os,k.tape.trans h.tape,k.output.trans h.output,Nat.le_trans h.size k.size,fun g hg=>(k.block g (hD g hg)).trans (h.block g hg)⟩
theorem Kp.below {D:Nat->Prop}{w w':World}(h:Below w.heap.size w w')(hD:∀ g,D g->g<w.heap.size):Kp D w w':=⟨h.os,h.tape,h.output,h.size,fun g hg=>h.block g (hD g hg)⟩
def More (D:Nat->Prop)(w w':World):Nat->Prop:=fun g=>D g\/(w.heap.size<=g/\g<w'.heap.size)
theorem PR.move {D D':Nat->Prop}{w w':World}{v:Value}{P:List Lx.Pd}(h:PR D w v P)(hD:∀ g,D g->D' g)(hk:∀ g,D g->w'.heap[g]?=w.heap[g]?)(hv:∀ g,v.ownBlock=some g->w'.heap[g]?=w.heap[g]?):PR D' w' v P:=by
 obtain⟨ps,h1,h2,h3⟩:=h;exact⟨ps,h1,aD h2 hv,fun q hq=>⟨aD (h3 q hq).1 fun g hg=>hk g ((h3 q hq).2 g hg),fun g hg=>hD g ((h3 q hq).2 g hg)⟩⟩
theorem PR.blk {D:Nat->Prop}{w:World}{v:Value}{P:List Lx.Pd}(h:PR D w v P):∀ g,v.ownBlock=some g->g<w.heap.size:=by
 obtain⟨ps,h1,h2,h3⟩:=h;exact fun g hg=>(h2.lt g hg).2
theorem fZ.more {D F:Nat->Prop}{w w':World}{mb:Nat}{T N:List ByteArray}{b:Nat}{H:List Lx.It}{P:List Lx.Pd}(h:fZ D F w mb T N b H P)(hb:Below w.heap.size w w'):fZ (More D w w') F w' mb T N b H P:=by
 obtain⟨⟨vT,vN,vP,vH,vL,h1,h2,h3,h4,h5,h6,k1,k2,k3,k4,k5⟩,e1,e2,e3,e4,e5,e6⟩:=h;have jL:=h1.lt;refine⟨⟨vT,vN,vP,vH,vL,(hb.block _ jL).trans h1,aD h2 fun g hg=>hb.block g (h2.lt g hg).2,aD h3 fun g hg=>hb.block g (h3.lt g hg).2,h4.move (fun g hg=>hb.block g (e3 g (e2 g hg))) (fun g hg=>hb.block g (h4.blk g hg)),aD h5 fun g hg=>hb.block g (h5.lt g hg).2,h6.move (fun g hg=>⟨.inl hg.1,hg.2⟩) (fun g hg=>hb.block g (e3 g hg.1)) (fun g hg=>hb.block g (h6.blk g hg)),fun g hg=>.inl (k1 g hg),fun g hg=>.inl (k2 g hg),fun g hg=>.inl (k3 g hg),fun g hg=>.inl (k4 g hg),fun g hg=>⟨?_,(k5 g hg).2⟩⟩,?_,fun g hg=>.inl (e2 g hg),?_,e4,e5,e6⟩
 ·rintro (h' | h')
  ·exact (k5 g hg).1 h'
  ·have:=h6.blk g hg;omega
 ·rintro (h' | h')
  ·exact e1 h'
  ·omega
 ·rintro g (h' | h')
  ·exact Nat.lt_of_lt_of_le (e3 g h') hb.size
  ·exact h'.2
namespace Lx
def ET (T:List ByteArray)(prec:ByteArray)(r:List Nat):Int:=if prec=aM then j5 T.length r else (fix T prec:Int)
theorem afB (n:Nat)(r:List Nat)(s:Nat):j5 n (r++[s])=if s<n then (s:Int) else j5 n r:=by unfold j5;rw[List.foldl_append];rfl
theorem V4 {n:Nat}{r:List Nat}{m:Nat}(h:m<r.length):j5 n (r.take (m+1))=if r[m]<n then (r[m]:Int) else j5 n (r.take m):=by rw[List.take_succ_eq_append_getElem h,afB]
end Lx
theorem Zl {D F:Nat->Prop} {w:World} {mb:Nat} {T N:List ByteArray} {b:Nat} {H:List Lx.It} {P:List Lx.Pd} (h:fZ D F w mb T N b H P) (left:Nat) (vR:Value) (r:List Nat) (hr:IR 0 w vR r) (iw:∀ g,vR.ownBlock=some g->D g/\mb<g) (prec:ByteArray) (hp:prec≠aM->0<=bA T prec) (hP:P.length<=1000000000000) :
  Calls prog 67 #[.pointer (some ⟨mb,0,none⟩),.int .i64 (left:Int),vR,.string prec] w fun e w'=>e=.returned (.tuple #[])/\fZ D F w' mb T N b H (P++[⟨left,r,ET T prec r⟩])/\Kp D w w':=by
 obtain⟨i0,hii,hz0,hz1,hz2⟩:=info_parts Tryz.ZQ;obtain⟨⟨vT,vN,vP,vH,vL,h1,h2,h3,h4,h5,h6,k1,k2,k3,k4,k5⟩,e1,e2,e3,e4,e5,e6⟩:=h;obtain⟨ra,rc,pR,hrm⟩:=aI hr;subst pR;obtain⟨ta,tc,tF,-⟩:=aI h2;subst tF;unfold maxLen at hrm;have jL:=h1.lt;go_enter func67,ntmps67;go_wp2_with fail;obtain⟨W,hW⟩:∃ W,W=w.alloc (.cells #[.int .i64 (left:Int),.slice ra r.length rc,.int .i64 (-1)] 78):=⟨_,rfl⟩;rw[<-hW];have hB:Below w.heap.size w W:=by rw[hW];exact (Below.refl _ _).alloc (lr0) _
 have hWs:W.heap.size=w.heap.size+1:=by rw[hW];simp
 have kp:aj W w.heap.size #[.int .i64 (left:Int),.slice ra r.length rc,.int .i64 (-1)] 78:=by rw[hW];exact aj.new w _ 78
 clear hW
 go_loopg [9] r.length (fun k i wr=>∃ (m:Nat) (pv:Int),m+k=r.length/\i=.int .i64 m/\aj wr w.heap.size #[.int .i64 (left:Int),.slice ra r.length rc,.int .i64 pv] 78/\Below w.heap.size w wr/\Hid (pv=j5 T.length (r.take m)))
 case atStart=>exact⟨0,-1,by omega,rfl,kp,hB,rfl⟩
 case round =>
  clear kp hB;obtain⟨m,pv,hkm,rfl,kp,hbr,Dy⟩:=hrel;have hsr:w.heap.size<wr.heap.size:=kp.lt;have wG:aj wr mb _ 135:=(hbr.block _ jL).trans h1;have m0:wr.cell? ⟨mb,0,none⟩=some (.slice ta T.length tc):=wG.cell 0;have m2:wr.cell? ⟨mb,2,none⟩=some vP:=wG.cell 2;have p0:wr.cell? ⟨w.heap.size,0,none⟩=some (.int .i64 (left:Int)):=kp.cell 0;have p1:wr.cell? ⟨w.heap.size,1,none⟩=some (.slice ra r.length rc):=kp.cell 1;have p2:wr.cell? ⟨w.heap.size,2,none⟩=some (.int .i64 pv):=kp.cell 2;have fp:∀ j,wr.frozen? ⟨w.heap.size,j,none⟩=false:=kp.frozen
  by_cases hlt:m<r.length
  ·have hrr:IR 0 wr (.slice ra r.length rc) r:=aD hr fun g hg=>hbr.block g (hr.lt g hg).2
   obtain⟨gR,cR,hv,lR,hcR⟩:=hrr.at hlt;cases hv;have htk:=V4 (n:=T.length) hlt;rw[<-Dy.out]at htk;generalize r[m]=s at hcR htk
   by_cases hst:s<T.length
   ·have gJ:Hid ((s:Int)=j5 T.length (r.take (m+1))):=by rw[if_pos hst]at htk;exact htk.symm
    clear htk;go_wp2_with fail
    go_quiet (fail)
    have hb6:Below w.heap.size w (wr.drewN nq):=hbr.trans ⟨rfl,rfl,rfl,lr0,fun _ _=>rfl⟩;have Tn:aj (wr.drewN nq) w.heap.size _ 78:=kp.drewN nq;have kp7:=Tn.set 2 (.int .i64 (s:Int));simp at kp7;go_wp2_with fail;go_roundg (r.length - (m+1))
    case measure=>omega
    case rel=>exact⟨m+1,_,by omega,by go_num,kp7,hb6.setCell (p:=⟨w.heap.size,2,none⟩) (lr0) _,gJ⟩
   ·have gJ:Hid (pv=j5 T.length (r.take (m+1))):=by rw[if_neg hst]at htk;exact htk.symm
    clear htk;go_wp2_with fail
    go_quiet (fail)
    have hb6:Below w.heap.size w (wr.drewN nq):=hbr.trans ⟨rfl,rfl,rfl,lr0,fun _ _=>rfl⟩;have Tn:aj (wr.drewN nq) w.heap.size _ 78:=kp.drewN nq;go_wp2_with fail;go_roundg (r.length - (m+1))
    case measure=>omega
    case rel=>exact⟨m+1,pv,by omega,by go_num,Tn,hb6,gJ⟩
  ·have:m=r.length:=by omega
   subst this;have gJ:Hid (pv=j5 T.length r):=by have:=Dy.out;rw[List.take_length]at this;exact this
   clear Dy
   by_cases hpn:prec=aM
   ·have hpb:(prec.toList == [])=true:=by rw[hpn,ByteArray.toList_eq];rfl
    have xQ:Hid (ET T prec r=pv):=(if_pos hpn).trans gJ.out.symm;clear hpn hp;obtain⟨w3,hw3⟩:∃ w3,w3=wr:=⟨_,rfl⟩;have hb3:Below w.heap.size w w3:=hw3 ▸ hbr;obtain⟨nJ,CQ⟩:∃ nJ,nJ=pv:=⟨_,rfl⟩;have zB:aj w3 w.heap.size #[.int .i64 (left:Int),.slice ra r.length rc,.int .i64 nJ] 78:=hw3 ▸ CQ ▸ kp;rw[<-CQ]at xQ;go_wp2_with fail;rw[<-hw3];clear hw3 CQ p0 p1 p2 fp kp hbr wG m0 m2 gJ;obtain⟨ps,hp1,hp2,hp3⟩:=h6;obtain⟨pa,pc,zC,Jm⟩:=aI hp2;subst zC;unfold maxLen at Jm;have hs3:=hb3.size;have qW:aj w3 mb _ 135:=(hb3.block _ jL).trans h1;have m32:w3.cell? ⟨mb,2,none⟩=some (.slice pa P.length pc):=qW.cell 2;have p30:w3.cell? ⟨w.heap.size,0,none⟩=some (.int .i64 (left:Int)):=zB.cell 0;have p31:w3.cell? ⟨w.heap.size,1,none⟩=some (.slice ra r.length rc):=zB.cell 1;have p32:w3.cell? ⟨w.heap.size,2,none⟩=some (.int .i64 nJ):=zB.cell 2;have Tp:mb<w3.heap.size:=by omega
    have lp3:w.heap.size<w3.heap.size:=zB.lt;have Ri:w3.ownsRow 0 78 3 (.slice pa P.length pc) P.length (ps.flatMap kH):=aD hp2 fun g hg=>hb3.block g (hp2.lt g hg).2
    have Jo:=aD (w':=(w3.alloc (.cells #[.int .i64 (left:Int),.slice ra r.length rc,.int .i64 nJ] 78)).drew) (Ri.alloc (.cells #[.int .i64 (left:Int),.slice ra r.length rc,.int .i64 nJ] 78)) fun _ _=>rfl
    have u6:(Value.slice pa P.length pc).ownBlock≠some mb:=fun e=>(k5 mb e).2 rfl
    have Tq:aj (w3.alloc (.cells #[.int .i64 (left:Int),.slice ra r.length rc,.int .i64 nJ] 78)).drew mb _ 135:=(qW.alloc _).drew;go_wp2_with fail
    go_region_law (refine step_append_lies _ rfl (.tmp 46) (.tmp 48) 30 rfl 0 78 i0 _ 3 40 Tryz.OC hii hz0 hz1 hz2 rfl (by decide) (.slice pa P.length pc) P.length (ps.flatMap kH) (by simp[Act.eval]) Jo ⟨w3.heap.size,0,none⟩ 1 1 [.int .i64 (left:Int),.slice ra r.length rc,.int .i64 nJ] (by simp[Act.eval]) rfl (bP (aj.new w3 _ 78).drew) (by simp[Value.oneCell']) (by decide) (by unfold maxLen;omega) (by omega) (by simp) _ rfl ?_;intro g2 cap2 w5 hown5 bf jT E9;have l7:=Tq.grown bf (fun e=>u6 e.symm);have Ny:w5.cell? ⟨mb,2,none⟩=some (.slice pa P.length pc):=l7.cell 2;have f52:∀ i,w5.frozen? ⟨mb,i,none⟩=false:=l7.frozen)
    all_goals
     have bk:∀ g,g<w.heap.size->g≠mb->(Value.slice pa P.length pc).ownBlock≠some g->(w5.setCell ⟨mb,2,none⟩ (.slice (some ⟨g2,0,none⟩) (P.length+1) cap2)).heap[g]?=w.heap[g]?:=by
      intro g hg hm hv;have hg3:g<w3.heap.size:=by omega
      rw[hs0 hm,bf.block g (by simp;omega) (fun e=>hv e.symm)];exact (Below.heap_alloc _ _ _ hg3).trans (hb3.block g hg)
     have bD:∀ g,D g->(w5.setCell ⟨mb,2,none⟩ (.slice (some ⟨g2,0,none⟩) (P.length+1) cap2)).heap[g]?=w.heap[g]?:=fun g hg=>bk g (e3 g hg) (fun e=>e1 (e ▸ hg)) (fun e=>(k5 g e).1 hg)
     have hs5:w.heap.size<=w5.heap.size:=by have:=bf.size;simp at this;omega
     have hse:(w5.setCell ⟨mb,2,none⟩ (.slice (some ⟨g2,0,none⟩) (P.length+1) cap2)).heap.size=w5.heap.size:=by simp[World.setCell]
     have hg2:¬ D g2/\g2≠mb:=by
      rcases jT with h' | h'
      ·exact k5 g2 h'
      ·have:g2=w3.heap.size+1:=by simpa using h'
       exact⟨fun hd=>by have:=e3 g2 hd;omega,by omega⟩
     go_wp2_with fail
     go_end0
     refine⟨rfl,⟨⟨_,vN,.slice (some ⟨g2,0,none⟩) (P.length+1) cap2,vH,vL,l7.set 2 _,aD h2 fun g hg=>bD g (k1 g hg),aD h3 fun g hg=>bD g (k2 g hg),h4.move (fun g hg=>bD g (e2 g hg)) (fun g hg=>bD g (k3 g hg)),aD h5 fun g hg=>bD g (k4 g hg),?_,k1,k2,k3,k4,fun g hg=>?_⟩,e1,e2,fun g hg=>by rw[hse];exact Nat.lt_of_lt_of_le (e3 g hg) hs5,e4,e5,e6⟩,?_⟩
     ·refine⟨ps++[(.slice ra r.length rc,⟨left,r,nJ⟩)],by rw[List.map_append,hp1,xQ.out];rfl,?_,?_⟩
      ·have h9:=aD (w':=w5.setCell ⟨mb,2,none⟩ (.slice (some ⟨g2,0,none⟩) (P.length+1) cap2)) hown5 (fun g hg=>hs0 (fun e=>hg2.2 (by have e':g=mb:=e;have e'':g2=g:=(by simpa [Value.ownBlock]using hg);omega)))
       rw[List.length_append,List.flatMap_append];exact h9
      ·intro q hq
       rcases List.mem_append.1 hq with hq | hq
       ·exact⟨aD (hp3 q hq).1 fun g hg=>bD g ((hp3 q hq).2 g hg).1,(hp3 q hq).2⟩
       ·rw[List.mem_singleton.1 hq]
        exact⟨aD hr fun g hg=>bD g (iw g hg).1,iw⟩
     ·have:g2=g:=by simpa [Value.ownBlock]using hg
      exact this ▸ hg2
     ·refine⟨?_,?_,?_,by rw[hse];exact hs5,bD⟩
      ·exact bf.os.trans hb3.os
      ·exact bf.tape.trans hb3.tape
      ·exact bf.output.trans hb3.output
   ·have hpb:(prec.toList == [])=false:=lU (l:=[]) hpn
    have aaM:Hid (ET T prec r=(Lx.fix T prec:Int)):=if_neg hpn;have hfp:=hp hpn;clear hpn hp;go_wp2_with fail;refine (Pj wG (aD h2 fun g hg=>hbr.block g (h2.lt g hg).2) prec hfp).mono ?_;rintro e w2 ⟨rfl,hb2⟩;have Nz:aj w2 w.heap.size _ 78:=(hb2.block _ hsr).trans kp;have p22:w2.cell? ⟨w.heap.size,2,none⟩=some (.int .i64 pv):=Nz.cell 2;have fp2:∀ j,w2.frozen? ⟨w.heap.size,j,none⟩=false:=Nz.frozen;obtain⟨w3,hw3⟩:∃ w3,w3=w2.setCell ⟨w.heap.size,2,none⟩ (.int .i64 (Lx.fix T prec:Int)):=⟨_,rfl⟩;have hb3:Below w.heap.size w w3:=by rw[hw3];exact (hbr.trans (hb2.mono (Nat.le_of_lt hsr))).setCell (p:=⟨w.heap.size,2,none⟩) (lr0) _
    obtain⟨nJ,CQ⟩:∃ nJ,nJ=(Lx.fix T prec:Int):=⟨_,rfl⟩;have zB:aj w3 w.heap.size #[.int .i64 (left:Int),.slice ra r.length rc,.int .i64 nJ] 78:=by
     rw[hw3,CQ];have:=Nz.set 2 (.int .i64 (Lx.fix T prec:Int));simpa using this
    have xQ:Hid (ET T prec r=nJ):=aaM.out.trans CQ.symm;go_wp2_with fail;rw[<-hw3];clear hw3 CQ p0 p1 p2 fp kp hbr wG m0 m2 gJ aaM Nz p22 fp2 hb2;obtain⟨ps,hp1,hp2,hp3⟩:=h6;obtain⟨pa,pc,zC,Jm⟩:=aI hp2;subst zC;unfold maxLen at Jm;have hs3:=hb3.size;have qW:aj w3 mb _ 135:=(hb3.block _ jL).trans h1;have m32:w3.cell? ⟨mb,2,none⟩=some (.slice pa P.length pc):=qW.cell 2;have p30:w3.cell? ⟨w.heap.size,0,none⟩=some (.int .i64 (left:Int)):=zB.cell 0;have p31:w3.cell? ⟨w.heap.size,1,none⟩=some (.slice ra r.length rc):=zB.cell 1;have p32:w3.cell? ⟨w.heap.size,2,none⟩=some (.int .i64 nJ):=zB.cell 2;have Tp:mb<w3.heap.size:=by omega
    have lp3:w.heap.size<w3.heap.size:=zB.lt;have Ri:w3.ownsRow 0 78 3 (.slice pa P.length pc) P.length (ps.flatMap kH):=aD hp2 fun g hg=>hb3.block g (hp2.lt g hg).2
    have Jo:=aD (w':=(w3.alloc (.cells #[.int .i64 (left:Int),.slice ra r.length rc,.int .i64 nJ] 78)).drew) (Ri.alloc (.cells #[.int .i64 (left:Int),.slice ra r.length rc,.int .i64 nJ] 78)) fun _ _=>rfl
    have u6:(Value.slice pa P.length pc).ownBlock≠some mb:=fun e=>(k5 mb e).2 rfl
    have Tq:aj (w3.alloc (.cells #[.int .i64 (left:Int),.slice ra r.length rc,.int .i64 nJ] 78)).drew mb _ 135:=(qW.alloc _).drew;go_wp2_with fail
    go_region_law (refine step_append_lies _ rfl (.tmp 46) (.tmp 48) 30 rfl 0 78 i0 _ 3 40 Tryz.OC hii hz0 hz1 hz2 rfl (by decide) (.slice pa P.length pc) P.length (ps.flatMap kH) (by simp[Act.eval]) Jo ⟨w3.heap.size,0,none⟩ 1 1 [.int .i64 (left:Int),.slice ra r.length rc,.int .i64 nJ] (by simp[Act.eval]) rfl (bP (aj.new w3 _ 78).drew) (by simp[Value.oneCell']) (by decide) (by unfold maxLen;omega) (by omega) (by simp) _ rfl ?_;intro g2 cap2 w5 hown5 bf jT E9;have l7:=Tq.grown bf (fun e=>u6 e.symm);have Ny:w5.cell? ⟨mb,2,none⟩=some (.slice pa P.length pc):=l7.cell 2;have f52:∀ i,w5.frozen? ⟨mb,i,none⟩=false:=l7.frozen)
    all_goals
     have bk:∀ g,g<w.heap.size->g≠mb->(Value.slice pa P.length pc).ownBlock≠some g->(w5.setCell ⟨mb,2,none⟩ (.slice (some ⟨g2,0,none⟩) (P.length+1) cap2)).heap[g]?=w.heap[g]?:=by
      intro g hg hm hv;have hg3:g<w3.heap.size:=by omega
      rw[hs0 hm,bf.block g (by simp;omega) (fun e=>hv e.symm)];exact (Below.heap_alloc _ _ _ hg3).trans (hb3.block g hg)
     have bD:∀ g,D g->(w5.setCell ⟨mb,2,none⟩ (.slice (some ⟨g2,0,none⟩) (P.length+1) cap2)).heap[g]?=w.heap[g]?:=fun g hg=>bk g (e3 g hg) (fun e=>e1 (e ▸ hg)) (fun e=>(k5 g e).1 hg)
     have hs5:w.heap.size<=w5.heap.size:=by have:=bf.size;simp at this;omega
     have hse:(w5.setCell ⟨mb,2,none⟩ (.slice (some ⟨g2,0,none⟩) (P.length+1) cap2)).heap.size=w5.heap.size:=by simp[World.setCell]
     have hg2:¬ D g2/\g2≠mb:=by
      rcases jT with h' | h'
      ·exact k5 g2 h'
      ·have:g2=w3.heap.size+1:=by simpa using h'
       exact⟨fun hd=>by have:=e3 g2 hd;omega,by omega⟩
     go_wp2_with fail
     go_end0
     refine⟨rfl,⟨⟨_,vN,.slice (some ⟨g2,0,none⟩) (P.length+1) cap2,vH,vL,l7.set 2 _,aD h2 fun g hg=>bD g (k1 g hg),aD h3 fun g hg=>bD g (k2 g hg),h4.move (fun g hg=>bD g (e2 g hg)) (fun g hg=>bD g (k3 g hg)),aD h5 fun g hg=>bD g (k4 g hg),?_,k1,k2,k3,k4,fun g hg=>?_⟩,e1,e2,fun g hg=>by rw[hse];exact Nat.lt_of_lt_of_le (e3 g hg) hs5,e4,e5,e6⟩,?_⟩
     ·refine⟨ps++[(.slice ra r.length rc,⟨left,r,nJ⟩)],by rw[List.map_append,hp1,xQ.out];rfl,?_,?_⟩
      ·have h9:=aD (w':=w5.setCell ⟨mb,2,none⟩ (.slice (some ⟨g2,0,none⟩) (P.length+1) cap2)) hown5 (fun g hg=>hs0 (fun e=>hg2.2 (by have e':g=mb:=e;have e'':g2=g:=(by simpa [Value.ownBlock]using hg);omega)))
       rw[List.length_append,List.flatMap_append];exact h9
      ·intro q hq
       rcases List.mem_append.1 hq with hq | hq
       ·exact⟨aD (hp3 q hq).1 fun g hg=>bD g ((hp3 q hq).2 g hg).1,(hp3 q hq).2⟩
       ·rw[List.mem_singleton.1 hq]
        exact⟨aD hr fun g hg=>bD g (iw g hg).1,iw⟩
     ·have:g2=g:=by simpa [Value.ownBlock]using hg
      exact this ▸ hg2
     ·refine⟨?_,?_,?_,by rw[hse];exact hs5,bD⟩
      ·exact bf.os.trans hb3.os
      ·exact bf.tape.trans hb3.tape
      ·exact bf.output.trans hb3.output
theorem Tryz.QI:(prog.info? 24).map (fun i=>(i.zero,i.size,i.bytes))=some (some (.slice none 0 0),1,24):=by kernel_rfl
theorem Tryz.Vt:prog.underlying 40=some (.slice 24):=by kernel_rfl
def Rj (B:Nat)(w:World)(v:Value)(ps:List (List Nat))(qs:List (Value × List Nat)):Prop:=qs.map Prod.snd=ps/\w.ownsRow B 24 1 v ps.length (qs.map Prod.fst)/\(∀ q,q∈qs->IR B w q.1 q.2)/\∀ q,q∈qs->∀ g,q.1.ownBlock=some g->v.ownBlock≠some g
def oM (B:Nat)(w:World)(v:Value)(ps:List (List Nat)):Prop:=∃ qs,Rj B w v ps qs
theorem oM.move {B:Nat}{w w':World}{v:Value}{ps:List (List Nat)}(h:oM B w v ps)(hb:∀ g,B<=g->g<w.heap.size->w'.heap[g]?=w.heap[g]?):oM B w' v ps:=by
 obtain⟨qs,h1,h2,h3,h4⟩:=h;exact⟨qs,h1,aD h2 fun g hg=>hb g (h2.lt g hg).1 (h2.lt g hg).2,fun q hq=>aD (h3 q hq) fun g hg=>hb g ((h3 q hq).lt g hg).1 ((h3 q hq).lt g hg).2,h4⟩
theorem oM.len {B:Nat}{w:World}{v:Value}{ps:List (List Nat)}(h:oM B w v ps):∃ a c,v=.slice a ps.length c/\ps.length<=maxLen:=by
 obtain⟨qs,h1,h2,h3,h4⟩:=h;exact aI h2
theorem oM.at {B:Nat}{w:World}{v:Value}{ps:List (List Nat)}(h:oM B w v ps){j:Nat}(hj:j<ps.length):∃ g cap u,v=.slice (some ⟨g,0,none⟩) ps.length cap/\B<=g/\g<w.heap.size/\w.cell? ⟨g,j,none⟩=some u/\IR B w u ps[j]:=by
 obtain⟨qs,h1,h2,h3,h4⟩:=h;obtain⟨g,cap,rfl,-,-⟩:=h2.form (by omega);have hl:qs.length=ps.length:=by rw[<-h1,List.length_map]
 have hq:qs[j]?=some qs[j]:=List.getElem?_eq_getElem (by omega);have h5:(qs[j]).2=ps[j]:=by
  have:(qs.map Prod.snd)[j]?=ps[j]?:=by rw[h1]
  rw[List.getElem?_map,hq,List.getElem?_eq_getElem hj]at this;simpa using this
 refine⟨g,cap,(qs[j]).1,rfl,(h2.lt g rfl).1,(h2.lt g rfl).2,?_,?_⟩
 ·rw[h2.cellAt j (by omega),List.getElem?_map,hq];rfl
 ·rw[<-h5];exact h3 _ (List.getElem_mem _)
theorem ahh {F:Nat->Prop} {w:World} {mb:Nat} {T N:List ByteArray} {b:Nat} {H:List Lx.It} (h:Dl F w mb T N b H) (it:Lx.It) (va:Value) (ha:ay YR 9 F w va it.alts) (hp:it.kind≠2->qi T N it) (hs:it.kind=2->∀ a,a∈it.alts->a.1.length<=10000/\∀ x,x∈a.1->qM T N H x) (hl:it.alts.length<=10000) :
  Calls prog 110 #[.pointer (some ⟨mb,0,none⟩),Dm va it] w fun e w'=>∃ u,e=.returned u/\oM w.heap.size w' u (Lx.partsOf T N b H it)/\Below w.heap.size w w':=by
 obtain⟨i0,hii,hz0,hz1,hz2⟩:=info_parts Tryz.QI;obtain⟨sa,sc,hva,-⟩:=ay.len ha;subst hva;unfold Dm;go_enter func110,ntmps110;obtain⟨W,hW⟩:∃ W,W=w.alloc (.cells #[.int .i64 (it.kind:Int),.string it.name,.int .u8 (it.mark:Int),.slice sa it.alts.length sc,.int .i64 (it.place:Int)] 148):=⟨_,rfl⟩;have hB:Below w.heap.size w W:=by rw[hW];exact (Below.refl _ _).alloc (lr0) _
 have hWs:W.heap.size=w.heap.size+1:=by rw[hW];simp
 have kx:aj W w.heap.size #[.int .i64 (it.kind:Int),.string it.name,.int .u8 (it.mark:Int),.slice sa it.alts.length sc,.int .i64 (it.place:Int)] 148:=by rw[hW];exact aj.new w _ 148
 by_cases hk:it.kind=2
 ·have Jp:Hid (Lx.partsOf T N b H it=it.alts.map fun a=>gY T N b H a.1):=if_pos hk
  have hkn:((it.kind:Int) != 2)=false:=by simp[hk]
  have hs2:=hs hk;have HK:Hid (it.kind=2):=hk;clear hk hp hs;go_wp2_with fail;rw[<-hW];clear hW
  go_loopg [6,7] it.alts.length (fun k vo i wr=>∃ (j:Nat) (ps:List (List Nat)),j+k=it.alts.length/\i=.int .i64 j/\oM W.heap.size wr vo ps/\Below W.heap.size W wr/\Hid (ps=(it.alts.take j).map fun a=>gY T N b H a.1))
  case atStart=>exact⟨0,[],by omega,rfl,⟨[],rfl,World.ownsRow_nil _ _ _ _,fun q hq=>(by cases hq),fun q hq=>(by cases hq)⟩,Below.refl _ _,rfl⟩
  case round =>
   obtain⟨j,ps,hk,rfl,ho,hbr,FN⟩:=hrel;have hsr:=hbr.size;have hbw:Below w.heap.size w wr:=hB.trans (hbr.mono (by omega));have iy:aj wr w.heap.size _ 148:=(hbr.block _ (by omega)).trans kx;have x3:wr.cell? ⟨w.heap.size,3,none⟩=some (.slice sa it.alts.length sc):=iy.cell 3;obtain⟨qs,hq1,hq2,hq3,hq4⟩:=ho;obtain⟨oa,oc,tN,uZ⟩:=aI hq2;subst tN;unfold maxLen at uZ;have hpl:ps.length<=10000:=by rw[FN.out,List.length_map,List.length_take];omega
   by_cases hlt:j<it.alts.length
   ·have har:ay YR 9 F wr _ it.alts:=ay.move (fun g hg=>hbw.block g (h.lt g hg)) (fun _ h=>h) ha
    obtain⟨gb,cap,vi,hv,hg,hi,hc⟩:=Seq.at har (fun _=>rfl) hlt;cases hv;have hsj:=hs2 it.alts[j] (List.getElem_mem hlt);have htk:(it.alts.take (j+1)).map (fun a=>gY T N b H a.1)=ps++[gY T N b H it.alts[j].1]:=by rw[FN.out,List.take_succ_eq_append_getElem hlt,List.map_append];rfl
    have bH:Hid _:=htk;clear htk FN har;generalize it.alts[j]=x at hi hc hsj bH;obtain⟨its,prec,pa⟩:=x;have hi':bJ YR 8 F wr vi its:=hi;obtain⟨ia,ic,iF,him⟩:=Seq.len hi;subst iF;have c0:wr.cell? ⟨gb,j*3,none⟩=some (.slice ia its.length ic):=hc 0 (by decide);have c1:wr.cell? ⟨gb,j*3+1,none⟩=some (.string prec):=hc 1 (by decide);have c2:wr.cell? ⟨gb,j*3+2,none⟩=some (.int .i64 (pa:Int)):=hc 2 (by decide);have lD:gb<wr.heap.size:=by have:=h.lt gb hg;omega
    clear hc hi;go_wp2_with fail;refine (XM (h.below hbw) its _ hi' hsj.1 prec pa hsj.2).mono ?_;rintro e w2 ⟨u,rfl,hu,hb2⟩;obtain⟨ua,uc,hvu,-⟩:=aI hu;subst hvu;have Mt:=hb2.size;have Rk:w2.ownsRow W.heap.size 24 1 (.slice oa ps.length oc) ps.length (qs.map Prod.fst):=aD hq2 fun g hg=>hb2.block g (hq2.lt g hg).2
    generalize gY T N b H its=rr at hu bH
    go_wp2_with (at_builtin;go_loud (refine wpList_append_own_at _ rfl _ _ 40 rfl W.heap.size 24 i0 _ 1 24 Tryz.Vt hii hz0 hz1 hz2 rfl (by decide) (.slice oa ps.length oc) _ _ rfl (Rk.alloc _) ⟨_,0,none⟩ 1 1 [.slice ua rr.length uc] rfl rfl (bP (aj.new _ _ 24)) (by simp[Value.oneCell']) (by unfold maxLen;omega) (by omega) (by simp;omega) ?_;intro v5 w5 hown5 bf _ jT;obtain⟨dL,dM,hv5,-⟩:=aI hown5;subst hv5))
    have hb5:Below W.heap.size W w5:=((hbr.trans (hb2.mono hsr)).alloc (by omega) _).grown bf (by simp;omega) (fun k hk=>(hq2.lt k hk).1);have hat:∀ g,(Value.slice dL (ps.length+1) dM).ownBlock=some g->(Value.slice oa ps.length oc).ownBlock=some g\/w2.heap.size<=g:=by
     intro g hg;rcases jT with h' | h'
     ·exact .inl (h' ▸ hg)
     ·rw[h']at hg;simp at hg;exact .inr (by omega)
    have bl:∀ g,g<w2.heap.size->(Value.slice oa ps.length oc).ownBlock≠some g->w5.heap[g]?=w2.heap[g]?:=fun g hg hn=>(bf.block g (by simp;omega) (fun e=>hn e.symm)).trans (Below.heap_alloc _ _ _ hg)
    have hpt:oM W.heap.size w5 (.slice dL (ps.length+1) dM) (ps++[rr]):=by
     refine⟨qs++[(.slice ua rr.length uc,rr)],by rw[List.map_append,hq1];rfl,?_,?_,?_⟩
     ·rw[List.length_append,List.map_append];exact hown5
     ·intro q hq
      rcases List.mem_append.1 hq with hq | hq
      ·refine aD (hq3 q hq) fun g hg=>?_
       have Bh:=(hq3 q hq).lt g hg;exact (bl g (by omega) (hq4 q hq g hg)).trans (hb2.block g Bh.2)
      ·rw[List.mem_singleton.1 hq]
       refine aD (dO hu hsr) fun g hg=>bl g (hu.lt g hg).2 fun e=>?_
       have:=(hu.lt g hg).1;have:=(hq2.lt g e).2;omega
     ·intro q hq g hg e
      rcases hat g e with h' | h'
      ·rcases List.mem_append.1 hq with hq | hq
       ·exact hq4 q hq g hg h'
       ·rw[List.mem_singleton.1 hq]at hg
        have:=(hu.lt g hg).1;have:=(hq2.lt g h').2;omega
      ·rcases List.mem_append.1 hq with hq | hq
       ·have:=((hq3 q hq).lt g hg).2;omega
       ·rw[List.mem_singleton.1 hq]at hg
        have:=(hu.lt g hg).2;omega
    go_roundg (it.alts.length - (j+1))
    case measure=>omega
    case rel=>exact⟨j+1,_,by omega,by go_num,hpt,hb5,bH.out.symm⟩
   ·have:j=it.alts.length:=by omega
    subst this;go_wp2_with fail;go_ret;refine⟨_,rfl,?_,hbw⟩;have e9:ps=Lx.partsOf T N b H it:=by have:=FN.out;rw[List.take_length]at this;rw[Jp.out,this]
    rw[<-e9];exact⟨qs,hq1,dO hq2 (by omega),fun q hq=>dO (hq3 q hq) (by omega),hq4⟩
 ·have Jp:Hid (Lx.partsOf T N b H it=[[fU T N it]]):=if_neg hk
  have hkn:((it.kind:Int) != 2)=true:=bne_iff_ne.2 (by omega);have hkd:¬ (it.kind:Int)=2:=by omega
  have hp1:=hp hk;have HK:Hid (¬ it.kind=2):=hk;clear hk hp hs;go_wp2_with fail;rw[<-hW];clear hW;refine (V3 (h.below hB) it sa it.alts.length sc hp1).mono ?_;rintro e w2 ⟨rfl,hb2⟩;have hs2:=hb2.size;go_wp2_with fail;go_ret;refine⟨_,rfl,?_,?_⟩
  ·rw[Jp.out]
   have ka:=(aj.new w2 #[.int .i64 (fU T N it:Int)] 3).alloc (.cells #[.slice (some ⟨w2.heap.size,0,none⟩) 1 1] 24);have kb:aj ((w2.alloc (.cells #[.int .i64 (fU T N it:Int)] 3)).alloc (.cells #[.slice (some ⟨w2.heap.size,0,none⟩) 1 1] 24)) (w2.heap.size+1) #[.slice (some ⟨w2.heap.size,0,none⟩) 1 1] 24:=by simpa using aj.new (w2.alloc (.cells #[.int .i64 (fU T N it:Int)] 3)) #[.slice (some ⟨w2.heap.size,0,none⟩) 1 1] 24
   refine⟨[(.slice (some ⟨w2.heap.size,0,none⟩) 1 1,[fU T N it])],rfl,?_,?_,?_⟩
   ·exact⟨rfl,.inr ⟨w2.heap.size+1,1,_,rfl,by omega,kb,lr0,by decide,rfl,rfl⟩⟩
   ·intro q hq
    rw[List.mem_singleton.1 hq];exact⟨rfl,.inr ⟨w2.heap.size,1,_,rfl,by omega,ka,lr0,by decide,rfl,rfl⟩⟩
   ·intro q hq g hg
    rw[List.mem_singleton.1 hq]at hg;simp[Value.ownBlock]at hg |-;omega
  ·exact ((hB.trans (hb2.mono (by omega))).alloc (by omega) _).alloc (by simp;omega) _
end Go.Proofs.YtlcppnabbicmoaaGreatDoor

import Derived.Test.YtjaalkocdbkdeaaGreatDoorSA20
import Derived.BigRegion
set_option maxHeartbeats 8000000
set_option maxRecDepth 1000000
namespace Go.Proofs.YtjaalkocdbkdeaaGreatDoor
open Lx Go.Proofs.Tryz
open Go.RowKit Tr
namespace Lx
theorem zP(b n:Nat):(oG b n).length=n:=by simp[oG]
theorem Xl{b n k:Nat}(h:k<n):(oG b n)[k]?=some (b+1+k):=by simp[oG,h]
def qE(T N:List ByteArray)(H:List It)(it:It):Prop:=if hlp it=true then sK H it.place<H.length else qz T N it
theorem Xm{H:List It}(hr:(H.map It.place).Pairwise (·< ·)){p k:Nat}(hk:k<H.length)(hl:sK H p<H.length):H[k].place=p↔k=sK H p:=by
 have h1:H[sK H p].place=p:=by
  have:=List.findIdx_getElem (w:=hl);exact of_decide_eq_true this
 constructor
 ·intro h
  rcases Nat.lt_trichotomy k (sK H p) with h2|h2|h2
  ·have:=List.not_of_lt_findIdx h2
   simp[h]at this
  ·exact h2
  ·exfalso
   have h3:=List.pairwise_iff_getElem.1 hr (sK H p) k (by simpa using hl) (by simpa using hk) h2;simp[h1,h]at h3
 ·rintro rfl;exact h1
end Lx
theorem HR.at{B:Nat}{F:Nat->Prop}{w:World}{v:Value}{l:List Lx.It}(h:HR B F w v l){j:Nat}(hj:j<l.length):∃g cap va,v=.slice (some ⟨g,0,none⟩) l.length cap/\ay YR 9 F w va l[j].alts/\∀i,i<5->w.cell? ⟨g,j*5+i,none⟩=(YR.cI (va,l[j]))[i]?:=by
 obtain⟨ps,h1,h2,h3⟩:=h;have hs:Tr.Seq (fun _=>True) w 158 5 YR.cI (fun va it=>ay YR 9 F w va it.alts) v l:=⟨ps,h1,dm h2 (Nat.zero_le _),fun _ _=>trivial,h3⟩;obtain⟨g,cap,va,k1,-,k3,k4⟩:=Seq.at hs (fun _=>rfl) hj;exact⟨g,cap,va,k1,k3,k4⟩
theorem HR.len{B:Nat}{F:Nat->Prop}{w:World}{v:Value}{l:List Lx.It}(h:HR B F w v l):∃a c,v=.slice a l.length c/\l.length<=maxLen:=by
 obtain⟨ps,h1,h2,h3⟩:=h;exact aF h2
theorem IR.at{B:Nat}{w:World}{v:Value}{r:List Nat}(h:IR B w v r){j:Nat}(hj:j<r.length):∃g cap,v=.slice (some ⟨g,0,none⟩) r.length cap/\g<w.heap.size/\w.cell? ⟨g,j,none⟩=some (.int .i64 (r[j]:Int)):=by
 unfold IR at h;obtain⟨g,cap,rfl,-,-⟩:=h.form (by omega);refine⟨g,cap,rfl,(h.lt g rfl).2,?_⟩;rw[h.cellAt j (by omega),agn hj]
theorem HR.blk{B:Nat}{F:Nat->Prop}{w:World}{v:Value}{l:List Lx.It}(h:HR B F w v l):∀g,v.ownBlock=some g->g<w.heap.size:=by
 obtain⟨ps,h1,h2,h3⟩:=h;exact fun g hg=>(h2.lt g hg).2
theorem Ws{F:Nat->Prop}{w:World}{mb:Nat}{T N:List ByteArray}{b:Nat}{H:List Lx.It}(h:CW F w mb T N b H){d:Nat}(its:List Lx.It)(vi:Value)(hi:bM YR d F w vi its)(hil:its.length<=10000)(prec:ByteArray)(pa:Nat)(hok:∀x,x∈its->qE T N H x):
  Calls prog 60 #[.pointer (some ⟨mb,0,none⟩),.agg #[vi,.string prec,.int .i64 (pa:Int)]] w fun e w'=>∃u,e=.returned u/\IR w.heap.size w' u (ig T N b H its)/\Below w.heap.size w w':=by
 obtain⟨i0,hii,hz0,hz1,hz2⟩:=info_parts Tryz.info3;obtain⟨⟨vT,vN,vP,vB,vK,vH,vL,h1,h2,h3,h4,h5⟩,hl,h6,h7,h8⟩:=id h;obtain⟨ia,ic,iK,him⟩:∃a c,vi=.slice a its.length c/\its.length<=maxLen:=Seq.len (show Tr.Seq F w YR.eI YR.sI YR.cI (fun va it=>ay YR d F w va it.alts) vi its from hi);subst iK;unfold maxLen at him;obtain⟨ha,hc,tH,Rv⟩:=h4.len;subst tH;unfold maxLen at Rv;have jQ:=h1.lt;go_enter func60,ntmps60;go_wp2_with fail;obtain⟨W,hW⟩:∃W,W=w.alloc (.cells #[.slice ia its.length ic,.string prec,.int .i64 (pa:Int)] 155):=⟨_,rfl⟩;rw[<-hW];have hB:Below w.heap.size w W:=by rw[hW];exact(Below.refl _ _).alloc (zL0) _
 have hWs:W.heap.size=w.heap.size+1:=by rw[hW];simp
 have kA:aj W w.heap.size #[.slice ia its.length ic,.string prec,.int .i64 (pa:Int)] 155:=by rw[hW];exact aj.new w _ 155
 clear hW
 go_loopg [5,6] its.length (fun k vo i wr=>∃(j:Nat)(acc:List Nat),j+k=its.length/\i=.int .i64 j/\IR W.heap.size wr vo acc/\Below W.heap.size W wr/\Hid (acc=(its.take j).map (lI T N b H)))
 case atStart=>exact⟨0,[],by omega,rfl,World.ownsRow_nil _ _ _ _,Below.refl _ _,rfl⟩
 case round=>
  revert wr;intro wz hrel;obtain⟨j,acc,hk,rfl,ho,hbz,tJ⟩:=hrel;have hac:acc.length<=10000:=by rw[tJ.out,List.length_map,List.length_take];omega
  obtain⟨oa,oc,tC,uO⟩:=aF ho;subst tC;have hsz:=hbz.size;have hbw:Below w.heap.size w wz:=hB.trans (hbz.mono (by omega));have qP:aj wz w.heap.size _ 155:=(hbz.block _ (by omega)).trans kA;have a0:wz.cell? ⟨w.heap.size,0,none⟩=some (.slice ia its.length ic):=qP.cell 0
  by_cases hlt:j<its.length
  ·have hiz:bM YR d F wz _ its:=bM.move (fun b hb=>hbw.block b (hl b hb)) (fun _ h=>h) hi
   unfold bM ow at hiz;obtain⟨n,sG,va,hv,hn,ha',hcc⟩:=Seq.at hiz (fun _=>rfl) hlt;cases hv;have hok1:=hok its[j] (List.getElem_mem hlt);have htk:(its.take (j+1)).map (lI T N b H)=acc++[lI T N b H its[j]]:=by rw[tJ.out,List.take_succ_eq_append_getElem hlt,List.map_append];rfl
   have bY:Hid _:=htk;clear htk;generalize its[j]=it at ha' hcc hok1 bY;obtain⟨sa,sc,hva,-⟩:=ay.len ha';subst hva;have e0:wz.cell? ⟨n,j*5,none⟩=some (.int .i64 (it.kind:Int)):=hcc 0 (by decide);have e1:wz.cell? ⟨n,j*5+1,none⟩=some (.string it.name):=hcc 1 (by decide);have e2:wz.cell? ⟨n,j*5+2,none⟩=some (.int .u8 (it.mark:Int)):=hcc 2 (by decide);have e3:wz.cell? ⟨n,j*5+3,none⟩=some (.slice sa it.alts.length sc):=hcc 3 (by decide);have e4:wz.cell? ⟨n,j*5+4,none⟩=some (.int .i64 (it.place:Int)):=hcc 4 (by decide);have ln:n<wz.heap.size:=by have:=hl n hn;omega
   clear hcc hiz;obtain⟨W1,hW1⟩:∃W1,W1=wz.alloc (.cells #[.int .i64 (it.kind:Int),.string it.name,.int .u8 (it.mark:Int),.slice sa it.alts.length sc,.int .i64 (it.place:Int)] 158):=⟨_,rfl⟩;have hb1:Below wz.heap.size wz W1:=by rw[hW1];exact(Below.refl _ _).alloc (zL0) _
   have hs1:W1.heap.size=wz.heap.size+1:=by rw[hW1];simp
   have kx:aj W1 wz.heap.size #[.int .i64 (it.kind:Int),.string it.name,.int .u8 (it.mark:Int),.slice sa it.alts.length sc,.int .i64 (it.place:Int)] 158:=by rw[hW1];exact aj.new wz _ 158
   have Aj:Below w.heap.size w W1:=hbw.trans (hb1.mono (by omega))
   by_cases hh:Lx.hlp it=true
   ·have hfx:sK H it.place<H.length:=by unfold qE at hok1;rw[if_pos hh]at hok1;exact hok1
    have AV:Hid (lI T N b H it=b+1+sK H it.place):=if_pos hh;have hcase:(it.kind=2)\/(it.kind≠2/\it.mark≠0):=by
     by_cases h2:it.kind=2
     ·exact .inl h2
     ·refine .inr ⟨h2,?_⟩
      simpa [Lx.hlp,h2]using hh
    clear hh hok1;have HFX:Hid (sK H it.place<H.length):=hfx;have hfi:=fun{k:Nat}(hk:k<H.length)=>Xm h8 hk hfx
    clear hfx;generalize sK H it.place=fx at HFX AV hfi;rcases hcase with hk2|⟨hk2,hm2⟩
    have hkb:((it.kind:Int) == 2)=true:=by simp[hk2]
    have hkn:((it.kind:Int) != 2)=false:=by simp[hk2]
    have HK:Hid (it.kind=2):=hk2;clear hk2
    rotate_left
    have hkb:((it.kind:Int) == 2)=false:=zB0 (by omega);have hkn:((it.kind:Int) != 2)=true:=bne_iff_ne.2 (by omega);have hkd:¬(it.kind:Int)=2:=by omega
    have hmd:¬(it.mark:Int)=0:=by omega
    have hmn:((it.mark:Int) != 0)=true:=bne_iff_ne.2 (by omega);have hmb:((it.mark:Int) == 0)=false:=zB0 (by omega);have HK:Hid (it.kind≠2):=hk2;have HM:Hid (it.mark≠0):=hm2;clear hk2 hm2
    all_goals
     go_wp2_with fail;rw[<-hW1];clear hW1
     go_loopg [8,9] H.length (fun k s i wr=>∃(m sv:Nat),m+k=H.length/\i=.int .i64 m/\s=.int .i64 sv/\Below W1.heap.size W1 wr/\Hid (sv=if fx<m then b+1+fx else 0))
     case atStart=>exact⟨0,0,by omega,rfl,rfl,Below.refl _ _,rfl⟩
     case round=>
      obtain⟨m,sv,hkm,rfl,rfl,hbr,HS⟩:=hrel;have pV:=hbr.size;have EB:Below w.heap.size w wr:=Aj.trans (hbr.mono (by omega));have gX:aj wr wz.heap.size _ 158:=(hbr.block _ (by omega)).trans kx;have hx0:wr.cell? ⟨wz.heap.size,0,none⟩=some (.int .i64 (it.kind:Int)):=gX.cell 0;have hx2:wr.cell? ⟨wz.heap.size,2,none⟩=some (.int .u8 (it.mark:Int)):=gX.cell 2;have hx4:wr.cell? ⟨wz.heap.size,4,none⟩=some (.int .i64 (it.place:Int)):=gX.cell 4;have vV:aj wr mb _ 145:=(EB.block _ jQ).trans h1;have EZ:wr.cell? ⟨mb,5,none⟩=some (.slice ha H.length hc):=vV.cell 5;have Iy:wr.cell? ⟨mb,6,none⟩=some vL:=vV.cell 6
      by_cases bJ:m<H.length
      ·obtain⟨gH,ajM,vaH,tH,Iz,ze⟩:=(h4.move (w':=wr) (fun b hF=>EB.block b (hl b hF)) (fun g hg=>EB.block g (h4.blk g hg))).at bJ
       cases tH;have IB:wr.cell? ⟨gH,m*5+4,none⟩=some (.int .i64 (H[m].place:Int)):=ze 4 (by decide);have hi2:=hfi bJ;clear ze Iz;generalize H[m].place=pl at IB hi2
       by_cases hpe:pl=it.place
       ·have hpb:((pl:Int) == (it.place:Int))=true:=by simp[hpe]
        have sZ:=hi2.1 hpe;have HS2:Hid (b+1+m=if fx<m+1 then b+1+fx else 0):=by
         show _=_;rw[if_pos (by omega),sZ]
        have hL6:IR 0 wr vL (oG b H.length):=aC h5 fun g hg=>EB.block g (h5.lt g hg).2
        obtain⟨gL,Cb,AX,lL,zf⟩:=hL6.at (j:=m) (by rw[zP];exact bJ);rw[AX]at Iy;rw[zP]at Iy;have Qa:wr.cell? ⟨gL,m,none⟩=some (.int .i64 ((b+1+m:Nat):Int)):=by
         rw[zf];have:=Xl (b:=b) bJ;rw[List.getElem?_eq_getElem (by rw[zP];exact bJ)]at this;rw[Option.some.inj this]
        generalize b+1+m=nv at HS2 Qa;clear hpe sZ hi2 HS zf;go_wp2_with fail
        go_quiet (fail)
        have hb6:Below W1.heap.size W1 (wr.drewN nq):=hbr.trans ⟨rfl,rfl,rfl,zL0,fun _ _=>rfl⟩;go_wp2_with fail;go_roundg (H.length - (m+1))
        case measure=>omega
        case rel=>exact⟨m+1,nv,by omega,by go_num,rfl,hb6,HS2⟩
       ·have hpb:((pl:Int) == (it.place:Int))=false:=zB0 (by omega)
        have sZ:¬m=fx:=fun e=>hpe (hi2.2 e)
        have HS2:Hid (sv=if fx<m+1 then b+1+fx else 0):=by
         have:=HS.out;show _=_;rw[this]
         by_cases h':fx<m
         ·rw[if_pos h',if_pos (by omega)]
         ·rw[if_neg h',if_neg (by omega)]
        clear hpe sZ hi2 HS;go_wp2_with fail
        go_quiet (fail)
        have hb6:Below W1.heap.size W1 (wr.drewN nq):=hbr.trans ⟨rfl,rfl,rfl,zL0,fun _ _=>rfl⟩;go_wp2_with fail;go_roundg (H.length - (m+1))
        case measure=>omega
        case rel=>exact⟨m+1,sv,by omega,by go_num,rfl,hb6,HS2⟩
      ·have:m=H.length:=by omega
       subst this;have hsv:lI T N b H it=sv:=by rw[AV.out,HS.out,if_pos HFX.out]
       have ajN:Hid (lI T N b H it=sv):=hsv;clear hsv AV;have AV:=ajN;have ru:Below wz.heap.size wz wr:=hb1.trans (hbr.mono (by omega));clear hx0 hx2 hx4 Iy;have qH:wr.ownsRow W.heap.size 3 1 (.slice oa acc.length oc) acc.length (gK acc):=aC ho fun g hg=>ru.block g (ho.lt g hg).2
       have ajO:=ru.size
       go_wp2_with (at_builtin;go_loud (refine wpList_append_own_at _ rfl _ _ 43 rfl W.heap.size 3 i0 _ 1 8 underlying43 hii hz0 hz1 hz2 rfl (by decide) (.slice oa acc.length oc) _ _ rfl (qH.alloc _) ⟨_,0,none⟩ 1 1 [.int .i64 (sv:Int)] rfl rfl (bC (aj.new _ _ 3)) (by simp[Value.oneCell']) (by unfold maxLen;omega) (by omega) (by simp;omega) ?_;intro v5 w5 hown5 aU _ _;obtain⟨dU,dV,hv5,-⟩:=aF hown5;subst hv5))
       have hb5:Below W.heap.size W w5:=((hbz.trans (ru.mono hsz)).alloc (by omega) _).grown aU (by simp;omega) (fun k hk=>(ho.lt k hk).1);have Rw:IR W.heap.size w5 (.slice dU (acc.length+1) dV) (acc++[lI T N b H it]):=by
        unfold IR;rw[zM,List.length_append,AV.out];exact hown5
       have Qb:Hid (acc++[lI T N b H it]=(its.take (j+1)).map (lI T N b H)):=bY.out.symm;go_roundg (its.length - (j+1))
       case measure=>omega
       case rel=>exact⟨j+1,_,by omega,by go_num,Rw,hb5,Qb⟩
   ·have hp1:qz T N it:=by unfold qE at hok1;rw[if_neg hh]at hok1;exact hok1
    have AV:Hid (lI T N b H it=mK T N it):=if_neg hh;have hk2:it.kind≠2/\it.mark=0:=by simpa [Lx.hlp]using hh
    have hkb:((it.kind:Int) == 2)=false:=zB0 (by omega);have hkn:((it.kind:Int) != 2)=true:=bne_iff_ne.2 (by omega);have hkd:¬(it.kind:Int)=2:=by omega
    have hmn:((it.mark:Int) != 0)=false:=by simp[hk2.2]
    have hmb:((it.mark:Int) == 0)=true:=by simp[hk2.2]
    have HK:Hid (it.kind≠2/\it.mark=0):=hk2;clear hk2 hh hok1;go_wp2_with fail;rw[<-hW1];clear hW1;refine(UI (h.below Aj) it sa it.alts.length sc hp1).mono ?_;rintro e w2⟨rfl,hb2⟩;generalize mK T N it=sv at AV;go_wp2_with fail
    go_loopg [8,9] H.length (fun k s i wr=>∃(m:Nat),m+k=H.length/\i=.int .i64 m/\s=.int .i64 (sv:Int)/\Below w2.heap.size w2 wr)
    case atStart=>exact⟨0,by omega,rfl,rfl,Below.refl _ _⟩
    case round=>
     obtain⟨m,hkm,rfl,rfl,qg⟩:=hrel;have hbr:Below W1.heap.size W1 wr:=hb2.trans (qg.mono hb2.size);have pV:=hbr.size;have EB:Below w.heap.size w wr:=Aj.trans (hbr.mono (by omega));have gX:aj wr wz.heap.size _ 158:=(hbr.block _ (by omega)).trans kx;have hx0:wr.cell? ⟨wz.heap.size,0,none⟩=some (.int .i64 (it.kind:Int)):=gX.cell 0;have hx2:wr.cell? ⟨wz.heap.size,2,none⟩=some (.int .u8 (it.mark:Int)):=gX.cell 2;have hx4:wr.cell? ⟨wz.heap.size,4,none⟩=some (.int .i64 (it.place:Int)):=gX.cell 4;have vV:aj wr mb _ 145:=(EB.block _ jQ).trans h1;have EZ:wr.cell? ⟨mb,5,none⟩=some (.slice ha H.length hc):=vV.cell 5;have Iy:wr.cell? ⟨mb,6,none⟩=some vL:=vV.cell 6
     by_cases bJ:m<H.length
     ·go_wp2_with fail
      go_quiet (fail)
      have hb6:Below w2.heap.size w2 (wr.drewN nq):=qg.trans ⟨rfl,rfl,rfl,zL0,fun _ _=>rfl⟩;go_wp2_with fail;go_roundg (H.length - (m+1))
      case measure=>omega
      case rel=>exact⟨m+1,by omega,by go_num,rfl,hb6⟩
     ·have ru:Below wz.heap.size wz wr:=hb1.trans (hbr.mono (by omega))
      clear hx0 hx2 hx4 Iy;have qH:wr.ownsRow W.heap.size 3 1 (.slice oa acc.length oc) acc.length (gK acc):=aC ho fun g hg=>ru.block g (ho.lt g hg).2
      have ajO:=ru.size
      go_wp2_with (at_builtin;go_loud (refine wpList_append_own_at _ rfl _ _ 43 rfl W.heap.size 3 i0 _ 1 8 underlying43 hii hz0 hz1 hz2 rfl (by decide) (.slice oa acc.length oc) _ _ rfl (qH.alloc _) ⟨_,0,none⟩ 1 1 [.int .i64 (sv:Int)] rfl rfl (bC (aj.new _ _ 3)) (by simp[Value.oneCell']) (by unfold maxLen;omega) (by omega) (by simp;omega) ?_;intro v5 w5 hown5 aU _ _;obtain⟨dU,dV,hv5,-⟩:=aF hown5;subst hv5))
      have hb5:Below W.heap.size W w5:=((hbz.trans (ru.mono hsz)).alloc (by omega) _).grown aU (by simp;omega) (fun k hk=>(ho.lt k hk).1);have Rw:IR W.heap.size w5 (.slice dU (acc.length+1) dV) (acc++[lI T N b H it]):=by
       unfold IR;rw[zM,List.length_append,AV.out];exact hown5
      have Qb:Hid (acc++[lI T N b H it]=(its.take (j+1)).map (lI T N b H)):=bY.out.symm;go_roundg (its.length - (j+1))
      case measure=>omega
      case rel=>exact⟨j+1,_,by omega,by go_num,Rw,hb5,Qb⟩
  ·have:j=its.length:=by omega
   subst this;go_wp2_with fail;go_ret;refine⟨_,rfl,?_,hbw⟩;have h9:IR w.heap.size wz (.slice oa acc.length oc) acc:=dm ho (by omega);have e9:acc=ig T N b H its:=by have:=tJ.out;rw[List.take_length]at this;exact this
   rw[e9]at h9|-;exact h9
theorem Tryz.ai1:(prog.info? 94).map (fun i=>(i.zero,i.size,i.bytes))=some (some (.agg #[.int .i64 0,.slice none 0 0,.int .i64 0]),3,40):=by kernel_rfl
theorem Tryz.Uf:prog.underlying 52=some (.slice 94):=by kernel_rfl
def nV(q:Value×Lx.Pd):List Value:=[.int .i64 (q.2.left:Int),q.1,.int .i64 q.2.prec]
theorem Gh:∀ps:List (Value×Lx.Pd),(ps.flatMap nV).length=ps.length*3
 | []=>rfl
 |p::ps=>by rw[List.flatMap_cons,List.length_append,Gh ps,List.length_cons,Nat.succ_mul];show 3+_=_;omega
def PR(D:Nat->Prop)(w:World)(v:Value)(P:List Lx.Pd):Prop:=∃ps:List (Value×Lx.Pd),ps.map Prod.snd=P/\w.ownsRow 0 94 3 v P.length (ps.flatMap nV)/\∀q,q∈ps->IR 0 w q.1 q.2.right/\∀g,q.1.ownBlock=some g->D g
structure fP(D F:Nat->Prop)(w:World)(mb:Nat)(T N:List ByteArray)(b:Nat)(H:List Lx.It)(P:List Lx.Pd):Prop where
 ex:∃vT vN vP vH vL,aj w mb #[vT,vN,vP,.slice none 0 0,.slice none 0 0,vH,vL] 145/\w.ownsRow 0 9 1 vT T.length (T.map Value.string)/\w.ownsRow 0 9 1 vN N.length (N.map Value.string)/\HR 0 F w vH H/\IR 0 w vL (oG b H.length)/\PR (fun g=>D g/\mb<g) w vP P/\(∀g,vT.ownBlock=some g->D g)/\(∀g,vN.ownBlock=some g->D g)/\(∀g,vH.ownBlock=some g->D g)/\(∀g,vL.ownBlock=some g->D g)/\(∀g,vP.ownBlock=some g->¬D g/\g≠mb)
 nm:¬D mb
 fd:∀g,F g->D g
 lt:∀g,D g->g<w.heap.size
 tn:T.length+N.length<=100000
 bn:b+H.length<=200000
 Im:(H.map Lx.It.place).Pairwise (·< ·)
theorem fP.rd{D F:Nat->Prop}{w:World}{mb:Nat}{T N:List ByteArray}{b:Nat}{H:List Lx.It}{P:List Lx.Pd}(h:fP D F w mb T N b H P):CW F w mb T N b H:=by
 obtain⟨vT,vN,vP,vH,vL,h1,h2,h3,h4,h5,-⟩:=h.ex;exact⟨⟨vT,vN,vP,_,_,vH,vL,h1,h2,h3,h4,h5⟩,fun g hg=>h.lt g (h.fd g hg),h.tn,h.bn,h.Im⟩
structure Kp(D:Nat->Prop)(w w':World):Prop where
 os:w'.os=w.os
 tape:w'.tape=w.tape
 output:w'.output=w.output
 size:w.heap.size<=w'.heap.size
 block:∀g,D g->w'.heap[g]?=w.heap[g]?
theorem Kp.refl(D:Nat->Prop)(w:World):Kp D w w:=⟨rfl,rfl,rfl,zL0,fun _ _=>rfl⟩
theorem Kp.trans{D D':Nat->Prop}{w w' w'':World}(h:Kp D w w')(k:Kp D' w' w'')(hD:∀g,D g->D' g):Kp D w w'':=⟨k.os.trans h.os,k.tape.trans h.tape,k.output.trans h.output,Nat.le_trans h.size k.size,fun g hg=>(k.block g (hD g hg)).trans (h.block g hg)⟩
theorem Kp.below{D:Nat->Prop}{w w':World}(h:Below w.heap.size w w')(hD:∀g,D g->g<w.heap.size):Kp D w w':=⟨h.os,h.tape,h.output,h.size,fun g hg=>h.block g (hD g hg)⟩
def More(D:Nat->Prop)(w w':World):Nat->Prop:=fun g=>D g\/(w.heap.size<=g/\g<w'.heap.size)
theorem PR.move{D D':Nat->Prop}{w w':World}{v:Value}{P:List Lx.Pd}(h:PR D w v P)(hD:∀g,D g->D' g)(hk:∀g,D g->w'.heap[g]?=w.heap[g]?)(hv:∀g,v.ownBlock=some g->w'.heap[g]?=w.heap[g]?):PR D' w' v P:=by
 obtain⟨ps,h1,h2,h3⟩:=h;exact⟨ps,h1,aC h2 hv,fun q hq=>⟨aC (h3 q hq).1 fun g hg=>hk g ((h3 q hq).2 g hg),fun g hg=>hD g ((h3 q hq).2 g hg)⟩⟩
theorem PR.blk{D:Nat->Prop}{w:World}{v:Value}{P:List Lx.Pd}(h:PR D w v P):∀g,v.ownBlock=some g->g<w.heap.size:=by
 obtain⟨ps,h1,h2,h3⟩:=h;exact fun g hg=>(h2.lt g hg).2
theorem fP.more{D F:Nat->Prop}{w w':World}{mb:Nat}{T N:List ByteArray}{b:Nat}{H:List Lx.It}{P:List Lx.Pd}(h:fP D F w mb T N b H P)(hb:Below w.heap.size w w'):fP (More D w w') F w' mb T N b H P:=by
 obtain⟨⟨vT,vN,vP,vH,vL,h1,h2,h3,h4,h5,h6,k1,k2,k3,k4,k5⟩,e1,e2,e3,e4,e5,e6⟩:=h;have jQ:=h1.lt;refine⟨⟨vT,vN,vP,vH,vL,(hb.block _ jQ).trans h1,aC h2 fun g hg=>hb.block g (h2.lt g hg).2,aC h3 fun g hg=>hb.block g (h3.lt g hg).2,h4.move (fun g hg=>hb.block g (e3 g (e2 g hg))) (fun g hg=>hb.block g (h4.blk g hg)),aC h5 fun g hg=>hb.block g (h5.lt g hg).2,h6.move (fun g hg=>⟨.inl hg.1,hg.2⟩) (fun g hg=>hb.block g (e3 g hg.1)) (fun g hg=>hb.block g (h6.blk g hg)),fun g hg=>.inl (k1 g hg),fun g hg=>.inl (k2 g hg),fun g hg=>.inl (k3 g hg),fun g hg=>.inl (k4 g hg),fun g hg=>⟨?_,(k5 g hg).2⟩⟩,?_,fun g hg=>.inl (e2 g hg),?_,e4,e5,e6⟩
 ·rintro(h' | h')
  ·exact(k5 g hg).1 h'
  ·have:=h6.blk g hg;omega
 ·rintro(h' | h')
  ·exact e1 h'
  ·omega
 ·rintro g(h' | h')
  ·exact Nat.lt_of_lt_of_le (e3 g h') hb.size
  ·exact h'.2
namespace Lx
def Es(T:List ByteArray)(prec:ByteArray)(r:List Nat):Int:=if prec=aL then jN T.length r else (fix T prec:Int)
theorem aeG(n:Nat)(r:List Nat)(s:Nat):jN n (r++[s])=if s<n then (s:Int) else jN n r:=by unfold jN;rw[List.foldl_append];rfl
theorem UJ{n:Nat}{r:List Nat}{m:Nat}(h:m<r.length):jN n (r.take (m+1))=if r[m]<n then (r[m]:Int) else jN n (r.take m):=by rw[List.take_succ_eq_append_getElem h,aeG]
end Lx
theorem X7{D F:Nat->Prop}{w:World}{mb:Nat}{T N:List ByteArray}{b:Nat}{H:List Lx.It}{P:List Lx.Pd}(h:fP D F w mb T N b H P)(left:Nat)(vR:Value)(r:List Nat)(hr:IR 0 w vR r)(gW:∀g,vR.ownBlock=some g->D g/\mb<g)(prec:ByteArray)(hp:prec≠aL->0<=bA T prec)(hP:P.length<=1000000000000):
  Calls prog 59 #[.pointer (some ⟨mb,0,none⟩),.int .i64 (left:Int),vR,.string prec] w fun e w'=>e=.returned (.tuple #[])/\fP D F w' mb T N b H (P++[⟨left,r,Es T prec r⟩])/\Kp D w w':=by
 obtain⟨i0,hii,hz0,hz1,hz2⟩:=info_parts Tryz.ai1;obtain⟨⟨vT,vN,vP,vH,vL,h1,h2,h3,h4,h5,h6,k1,k2,k3,k4,k5⟩,e1,e2,e3,e4,e5,e6⟩:=h;obtain⟨ra,rc,Rx,hrm⟩:=aF hr;subst Rx;obtain⟨ta,tc,yV,-⟩:=aF h2;subst yV;unfold maxLen at hrm;have jQ:=h1.lt;go_enter func59,ntmps59;go_wp2_with fail;obtain⟨W,hW⟩:∃W,W=w.alloc (.cells #[.int .i64 (left:Int),.slice ra r.length rc,.int .i64 (-1)] 94):=⟨_,rfl⟩;rw[<-hW];have hB:Below w.heap.size w W:=by rw[hW];exact(Below.refl _ _).alloc (zL0) _
 have hWs:W.heap.size=w.heap.size+1:=by rw[hW];simp
 have kp:aj W w.heap.size #[.int .i64 (left:Int),.slice ra r.length rc,.int .i64 (-1)] 94:=by rw[hW];exact aj.new w _ 94
 clear hW
 go_loopg [9] r.length (fun k i wr=>∃(m:Nat)(pv:Int),m+k=r.length/\i=.int .i64 m/\aj wr w.heap.size #[.int .i64 (left:Int),.slice ra r.length rc,.int .i64 pv] 94/\Below w.heap.size w wr/\Hid (pv=jN T.length (r.take m)))
 case atStart=>exact⟨0,-1,by omega,rfl,kp,hB,rfl⟩
 case round=>
  clear kp hB;obtain⟨m,pv,hkm,rfl,kp,hbr,Dc⟩:=hrel;have hsr:w.heap.size<wr.heap.size:=kp.lt;have vV:aj wr mb _ 145:=(hbr.block _ jQ).trans h1;have m0:wr.cell? ⟨mb,0,none⟩=some (.slice ta T.length tc):=vV.cell 0;have m2:wr.cell? ⟨mb,2,none⟩=some vP:=vV.cell 2;have p0:wr.cell? ⟨w.heap.size,0,none⟩=some (.int .i64 (left:Int)):=kp.cell 0;have p1:wr.cell? ⟨w.heap.size,1,none⟩=some (.slice ra r.length rc):=kp.cell 1;have p2:wr.cell? ⟨w.heap.size,2,none⟩=some (.int .i64 pv):=kp.cell 2;have fp:∀j,wr.frozen? ⟨w.heap.size,j,none⟩=false:=kp.frozen
  by_cases hlt:m<r.length
  ·have hrr:IR 0 wr (.slice ra r.length rc) r:=aC hr fun g hg=>hbr.block g (hr.lt g hg).2
   obtain⟨gR,cR,hv,lR,hcR⟩:=hrr.at hlt;cases hv;have htk:=UJ (n:=T.length) hlt;rw[<-Dc.out]at htk;generalize r[m]=s at hcR htk
   by_cases hst:s<T.length
   ·have nA:Hid ((s:Int)=jN T.length (r.take (m+1))):=by rw[if_pos hst]at htk;exact htk.symm
    clear htk;go_wp2_with fail
    go_quiet (fail)
    have hb6:Below w.heap.size w (wr.drewN nq):=hbr.trans ⟨rfl,rfl,rfl,zL0,fun _ _=>rfl⟩;have Ry:aj (wr.drewN nq) w.heap.size _ 94:=kp.drewN nq;have kp7:=Ry.set 2 (.int .i64 (s:Int));simp at kp7;go_wp2_with fail;go_roundg (r.length - (m+1))
    case measure=>omega
    case rel=>exact⟨m+1,_,by omega,by go_num,kp7,hb6.setCell (p:=⟨w.heap.size,2,none⟩) (zL0) _,nA⟩
   ·have nA:Hid (pv=jN T.length (r.take (m+1))):=by rw[if_neg hst]at htk;exact htk.symm
    clear htk;go_wp2_with fail
    go_quiet (fail)
    have hb6:Below w.heap.size w (wr.drewN nq):=hbr.trans ⟨rfl,rfl,rfl,zL0,fun _ _=>rfl⟩;have Ry:aj (wr.drewN nq) w.heap.size _ 94:=kp.drewN nq;go_wp2_with fail;go_roundg (r.length - (m+1))
    case measure=>omega
    case rel=>exact⟨m+1,pv,by omega,by go_num,Ry,hb6,nA⟩
  ·have:m=r.length:=by omega
   subst this;have nA:Hid (pv=jN T.length r):=by have:=Dc.out;rw[List.take_length]at this;exact this
   clear Dc
   by_cases hpn:prec=aL
   ·have hpb:(prec.toList == [])=true:=by rw[hpn,ByteArray.toList_eq];rfl
    have MB:Hid (Es T prec r=pv):=(if_pos hpn).trans nA.out.symm;clear hpn hp;obtain⟨w3,hw3⟩:∃w3,w3=wr:=⟨_,rfl⟩;have hb3:Below w.heap.size w w3:=hw3▸hbr;obtain⟨nC,Cr⟩:∃nC,nC=pv:=⟨_,rfl⟩;have vX:aj w3 w.heap.size #[.int .i64 (left:Int),.slice ra r.length rc,.int .i64 nC] 94:=hw3▸Cr▸kp;rw[<-Cr]at MB;go_wp2_with fail;rw[<-hw3];clear hw3 Cr p0 p1 p2 fp kp hbr vV m0 m2 nA;obtain⟨ps,hp1,hp2,hp3⟩:=h6;obtain⟨pa,pc,Df,IC⟩:=aF hp2;subst Df;unfold maxLen at IC;have hs3:=hb3.size;have qQ:aj w3 mb _ 145:=(hb3.block _ jQ).trans h1;have m32:w3.cell? ⟨mb,2,none⟩=some (.slice pa P.length pc):=qQ.cell 2;have p30:w3.cell? ⟨w.heap.size,0,none⟩=some (.int .i64 (left:Int)):=vX.cell 0;have p31:w3.cell? ⟨w.heap.size,1,none⟩=some (.slice ra r.length rc):=vX.cell 1;have p32:w3.cell? ⟨w.heap.size,2,none⟩=some (.int .i64 nC):=vX.cell 2;have Rz:mb<w3.heap.size:=by omega
    have lp3:w.heap.size<w3.heap.size:=vX.lt;have Qc:w3.ownsRow 0 94 3 (.slice pa P.length pc) P.length (ps.flatMap nV):=aC hp2 fun g hg=>hb3.block g (hp2.lt g hg).2
    have RA:=aC (w':=(w3.alloc (.cells #[.int .i64 (left:Int),.slice ra r.length rc,.int .i64 nC] 94)).drew) (Qc.alloc (.cells #[.int .i64 (left:Int),.slice ra r.length rc,.int .i64 nC] 94)) fun _ _=>rfl
    have uQ:(Value.slice pa P.length pc).ownBlock≠some mb:=fun e=>(k5 mb e).2 rfl
    have RB:aj (w3.alloc (.cells #[.int .i64 (left:Int),.slice ra r.length rc,.int .i64 nC] 94)).drew mb _ 145:=(qQ.alloc _).drew;go_wp2_with fail
    go_region_law (refine step_append_lies _ rfl (.tmp 46) (.tmp 48) 52 rfl 0 94 i0 _ 3 40 Tryz.Uf hii hz0 hz1 hz2 rfl (by decide) (.slice pa P.length pc) P.length (ps.flatMap nV) (by simp[Act.eval]) RA ⟨w3.heap.size,0,none⟩ 1 1 [.int .i64 (left:Int),.slice ra r.length rc,.int .i64 nC] (by simp[Act.eval]) rfl (bC (aj.new w3 _ 94).drew) (by simp[Value.oneCell']) (by decide) (by unfold maxLen;omega) (by omega) (by simp) _ rfl ?_;intro g2 cap2 w5 hown5 aU j6 Ew;have lT:=RB.grown aU (fun e=>uQ e.symm);have MC:w5.cell? ⟨mb,2,none⟩=some (.slice pa P.length pc):=lT.cell 2;have f52:∀i,w5.frozen? ⟨mb,i,none⟩=false:=lT.frozen)
    all_goals
     have bk:∀g,g<w.heap.size->g≠mb->(Value.slice pa P.length pc).ownBlock≠some g->(w5.setCell ⟨mb,2,none⟩ (.slice (some ⟨g2,0,none⟩) (P.length+1) cap2)).heap[g]?=w.heap[g]?:=by
      intro g hg hm hv;have hg3:g<w3.heap.size:=by omega
      rw[zS0 hm,aU.block g (by simp;omega) (fun e=>hv e.symm)];exact(Below.heap_alloc _ _ _ hg3).trans (hb3.block g hg)
     have bD:∀g,D g->(w5.setCell ⟨mb,2,none⟩ (.slice (some ⟨g2,0,none⟩) (P.length+1) cap2)).heap[g]?=w.heap[g]?:=fun g hg=>bk g (e3 g hg) (fun e=>e1 (e▸hg)) (fun e=>(k5 g e).1 hg)
     have hs5:w.heap.size<=w5.heap.size:=by have:=aU.size;simp at this;omega
     have hse:(w5.setCell ⟨mb,2,none⟩ (.slice (some ⟨g2,0,none⟩) (P.length+1) cap2)).heap.size=w5.heap.size:=by simp[World.setCell]
     have hg2:¬D g2/\g2≠mb:=by
      rcases j6 with h'|h'
      ·exact k5 g2 h'
      ·have:g2=w3.heap.size+1:=by simpa using h'
       exact⟨fun hd=>by have:=e3 g2 hd;omega,by omega⟩
     go_wp2_with fail
     go_end0
     refine⟨rfl,⟨⟨_,vN,.slice (some ⟨g2,0,none⟩) (P.length+1) cap2,vH,vL,lT.set 2 _,aC h2 fun g hg=>bD g (k1 g hg),aC h3 fun g hg=>bD g (k2 g hg),h4.move (fun g hg=>bD g (e2 g hg)) (fun g hg=>bD g (k3 g hg)),aC h5 fun g hg=>bD g (k4 g hg),?_,k1,k2,k3,k4,fun g hg=>?_⟩,e1,e2,fun g hg=>by rw[hse];exact Nat.lt_of_lt_of_le (e3 g hg) hs5,e4,e5,e6⟩,?_⟩
     ·refine⟨ps++[(.slice ra r.length rc,⟨left,r,nC⟩)],by rw[List.map_append,hp1,MB.out];rfl,?_,?_⟩
      ·have h9:=aC (w':=w5.setCell ⟨mb,2,none⟩ (.slice (some ⟨g2,0,none⟩) (P.length+1) cap2)) hown5 (fun g hg=>zS0 (fun e=>hg2.2 (by have e':g=mb:=e;have e'':g2=g:=(by simpa [Value.ownBlock]using hg);omega)))
       rw[List.length_append,List.flatMap_append];exact h9
      ·intro q hq
       rcases List.mem_append.1 hq with hq|hq
       ·exact⟨aC (hp3 q hq).1 fun g hg=>bD g ((hp3 q hq).2 g hg).1,(hp3 q hq).2⟩
       ·rw[List.mem_singleton.1 hq]
        exact⟨aC hr fun g hg=>bD g (gW g hg).1,gW⟩
     ·have:g2=g:=by simpa [Value.ownBlock]using hg
      exact this▸hg2
     ·refine⟨?_,?_,?_,by rw[hse];exact hs5,bD⟩
      ·exact aU.os.trans hb3.os
      ·exact aU.tape.trans hb3.tape
      ·exact aU.output.trans hb3.output
   ·have hpb:(prec.toList == [])=false:=lC (l:=[]) hpn
    have ZI:Hid (Es T prec r=(Lx.fix T prec:Int)):=if_neg hpn;have hfp:=hp hpn;clear hpn hp;go_wp2_with fail;refine(Ot vV (aC h2 fun g hg=>hbr.block g (h2.lt g hg).2) prec hfp).mono ?_;rintro e w2⟨rfl,hb2⟩;have E8:aj w2 w.heap.size _ 94:=(hb2.block _ hsr).trans kp;have p22:w2.cell? ⟨w.heap.size,2,none⟩=some (.int .i64 pv):=E8.cell 2;have fp2:∀j,w2.frozen? ⟨w.heap.size,j,none⟩=false:=E8.frozen;obtain⟨w3,hw3⟩:∃w3,w3=w2.setCell ⟨w.heap.size,2,none⟩ (.int .i64 (Lx.fix T prec:Int)):=⟨_,rfl⟩;have hb3:Below w.heap.size w w3:=by rw[hw3];exact(hbr.trans (hb2.mono (Nat.le_of_lt hsr))).setCell (p:=⟨w.heap.size,2,none⟩) (zL0) _
    obtain⟨nC,Cr⟩:∃nC,nC=(Lx.fix T prec:Int):=⟨_,rfl⟩;have vX:aj w3 w.heap.size #[.int .i64 (left:Int),.slice ra r.length rc,.int .i64 nC] 94:=by
     rw[hw3,Cr];have:=E8.set 2 (.int .i64 (Lx.fix T prec:Int));simpa using this
    have MB:Hid (Es T prec r=nC):=ZI.out.trans Cr.symm;go_wp2_with fail;rw[<-hw3];clear hw3 Cr p0 p1 p2 fp kp hbr vV m0 m2 nA ZI E8 p22 fp2 hb2;obtain⟨ps,hp1,hp2,hp3⟩:=h6;obtain⟨pa,pc,Df,IC⟩:=aF hp2;subst Df;unfold maxLen at IC;have hs3:=hb3.size;have qQ:aj w3 mb _ 145:=(hb3.block _ jQ).trans h1;have m32:w3.cell? ⟨mb,2,none⟩=some (.slice pa P.length pc):=qQ.cell 2;have p30:w3.cell? ⟨w.heap.size,0,none⟩=some (.int .i64 (left:Int)):=vX.cell 0;have p31:w3.cell? ⟨w.heap.size,1,none⟩=some (.slice ra r.length rc):=vX.cell 1;have p32:w3.cell? ⟨w.heap.size,2,none⟩=some (.int .i64 nC):=vX.cell 2;have Rz:mb<w3.heap.size:=by omega
    have lp3:w.heap.size<w3.heap.size:=vX.lt;have Qc:w3.ownsRow 0 94 3 (.slice pa P.length pc) P.length (ps.flatMap nV):=aC hp2 fun g hg=>hb3.block g (hp2.lt g hg).2
    have RA:=aC (w':=(w3.alloc (.cells #[.int .i64 (left:Int),.slice ra r.length rc,.int .i64 nC] 94)).drew) (Qc.alloc (.cells #[.int .i64 (left:Int),.slice ra r.length rc,.int .i64 nC] 94)) fun _ _=>rfl
    have uQ:(Value.slice pa P.length pc).ownBlock≠some mb:=fun e=>(k5 mb e).2 rfl
    have RB:aj (w3.alloc (.cells #[.int .i64 (left:Int),.slice ra r.length rc,.int .i64 nC] 94)).drew mb _ 145:=(qQ.alloc _).drew;go_wp2_with fail
    go_region_law (refine step_append_lies _ rfl (.tmp 46) (.tmp 48) 52 rfl 0 94 i0 _ 3 40 Tryz.Uf hii hz0 hz1 hz2 rfl (by decide) (.slice pa P.length pc) P.length (ps.flatMap nV) (by simp[Act.eval]) RA ⟨w3.heap.size,0,none⟩ 1 1 [.int .i64 (left:Int),.slice ra r.length rc,.int .i64 nC] (by simp[Act.eval]) rfl (bC (aj.new w3 _ 94).drew) (by simp[Value.oneCell']) (by decide) (by unfold maxLen;omega) (by omega) (by simp) _ rfl ?_;intro g2 cap2 w5 hown5 aU j6 Ew;have lT:=RB.grown aU (fun e=>uQ e.symm);have MC:w5.cell? ⟨mb,2,none⟩=some (.slice pa P.length pc):=lT.cell 2;have f52:∀i,w5.frozen? ⟨mb,i,none⟩=false:=lT.frozen)
    all_goals
     have bk:∀g,g<w.heap.size->g≠mb->(Value.slice pa P.length pc).ownBlock≠some g->(w5.setCell ⟨mb,2,none⟩ (.slice (some ⟨g2,0,none⟩) (P.length+1) cap2)).heap[g]?=w.heap[g]?:=by
      intro g hg hm hv;have hg3:g<w3.heap.size:=by omega
      rw[zS0 hm,aU.block g (by simp;omega) (fun e=>hv e.symm)];exact(Below.heap_alloc _ _ _ hg3).trans (hb3.block g hg)
     have bD:∀g,D g->(w5.setCell ⟨mb,2,none⟩ (.slice (some ⟨g2,0,none⟩) (P.length+1) cap2)).heap[g]?=w.heap[g]?:=fun g hg=>bk g (e3 g hg) (fun e=>e1 (e▸hg)) (fun e=>(k5 g e).1 hg)
     have hs5:w.heap.size<=w5.heap.size:=by have:=aU.size;simp at this;omega
     have hse:(w5.setCell ⟨mb,2,none⟩ (.slice (some ⟨g2,0,none⟩) (P.length+1) cap2)).heap.size=w5.heap.size:=by simp[World.setCell]
     have hg2:¬D g2/\g2≠mb:=by
      rcases j6 with h'|h'
      ·exact k5 g2 h'
      ·have:g2=w3.heap.size+1:=by simpa using h'
       exact⟨fun hd=>by have:=e3 g2 hd;omega,by omega⟩
     go_wp2_with fail
     go_end0
     refine⟨rfl,⟨⟨_,vN,.slice (some ⟨g2,0,none⟩) (P.length+1) cap2,vH,vL,lT.set 2 _,aC h2 fun g hg=>bD g (k1 g hg),aC h3 fun g hg=>bD g (k2 g hg),h4.move (fun g hg=>bD g (e2 g hg)) (fun g hg=>bD g (k3 g hg)),aC h5 fun g hg=>bD g (k4 g hg),?_,k1,k2,k3,k4,fun g hg=>?_⟩,e1,e2,fun g hg=>by rw[hse];exact Nat.lt_of_lt_of_le (e3 g hg) hs5,e4,e5,e6⟩,?_⟩
     ·refine⟨ps++[(.slice ra r.length rc,⟨left,r,nC⟩)],by rw[List.map_append,hp1,MB.out];rfl,?_,?_⟩
      ·have h9:=aC (w':=w5.setCell ⟨mb,2,none⟩ (.slice (some ⟨g2,0,none⟩) (P.length+1) cap2)) hown5 (fun g hg=>zS0 (fun e=>hg2.2 (by have e':g=mb:=e;have e'':g2=g:=(by simpa [Value.ownBlock]using hg);omega)))
       rw[List.length_append,List.flatMap_append];exact h9
      ·intro q hq
       rcases List.mem_append.1 hq with hq|hq
       ·exact⟨aC (hp3 q hq).1 fun g hg=>bD g ((hp3 q hq).2 g hg).1,(hp3 q hq).2⟩
       ·rw[List.mem_singleton.1 hq]
        exact⟨aC hr fun g hg=>bD g (gW g hg).1,gW⟩
     ·have:g2=g:=by simpa [Value.ownBlock]using hg
      exact this▸hg2
     ·refine⟨?_,?_,?_,by rw[hse];exact hs5,bD⟩
      ·exact aU.os.trans hb3.os
      ·exact aU.tape.trans hb3.tape
      ·exact aU.output.trans hb3.output
theorem jS{w w':World}(h:Below w.heap.size w w'){a:Addr}{v:Value}(hc:w.cell? a=some v):w'.cell? a=some v:=(World.cell?_of_block (w:=w) (h.block a.block (World.block_lt_of_cell? w a hc))).trans hc
theorem PR.atS{D:Nat->Prop}{w:World}{v:Value}{P:List Lx.Pd}(h:PR D w v P){j:Nat}(hj:j<P.length):∃g cap u,v=.slice (some ⟨g,0,none⟩) P.length cap/\IR 0 w u P[j].right/\w.cell? ⟨g,j*3,none⟩=some (.int .i64 (P[j].left:Int))/\w.cell? ⟨g,j*3+1,none⟩=some u/\w.cell? ⟨g,j*3+2,none⟩=some (.int .i64 P[j].prec):=by
 obtain⟨ps,h1,h2,h3⟩:=h;have hs:Tr.Seq (fun _=>True) w 94 3 nV (fun u q=>IR 0 w u q.right) v P:=⟨ps,h1,h2,fun _ _=>trivial,fun q hq=>(h3 q hq).1⟩;obtain⟨g,cap,u,k1,-,k3,k4⟩:=Seq.at hs (fun _=>rfl) hj;exact⟨g,cap,u,k1,k3,k4 0 (by decide),k4 1 (by decide),k4 2 (by decide)⟩
theorem PR.yA{D:Nat->Prop}{w w':World}{v:Value}{P:List Lx.Pd}(h:PR D w v P)(hb:Below w.heap.size w w'):PR D w' v P:=by
 obtain⟨ps,h1,h2,h3⟩:=h;exact⟨ps,h1,own_below h2 hb,fun q hq=>⟨own_below (h3 q hq).1 hb,(h3 q hq).2⟩⟩
def dI(s:av):List Value:=[.int .i64 (s.1:Int),.int .i64 (s.2:Int)]
def SR(B:Nat)(w:World)(v:Value)(l:List av):Prop:=w.ownsRow B 70 2 v l.length (l.flatMap dI)
theorem ahk{l:List av}{j:Nat}(hj:j<l.length):(l.flatMap dI)[j*2]?=some (.int .i64 (l[j].1:Int))/\(l.flatMap dI)[j*2+1]?=some (.int .i64 (l[j].2:Int)):=by
 induction l generalizing j with
 |nil=>cases hj
 |cons s l ih=>
  rw[List.flatMap_cons];cases j with
  |zero=>exact⟨rfl,rfl⟩
  |succ j=>
   have h:=ih (j:=j) (by simpa using hj);have e1:(j+1)*2=2+j*2:=by omega
   rw[e1,show 2+j*2+1=2+(j*2+1) by omega];rw[List.getElem?_append_right (by simp[dI]),List.getElem?_append_right (by simp[dI])];simpa [dI,show 2+j*2-2=j*2 by omega,show 2+(j*2+1) - 2=j*2+1 by omega]using h
theorem SR.at{B:Nat}{w:World}{v:Value}{l:List av}(h:SR B w v l){j:Nat}(hj:j<l.length):∃g cap,v=.slice (some ⟨g,0,none⟩) l.length cap/\g<w.heap.size/\w.cell? ⟨g,j*2,none⟩=some (.int .i64 (l[j].1:Int))/\w.cell? ⟨g,j*2+1,none⟩=some (.int .i64 (l[j].2:Int)):=by
 unfold SR at h;obtain⟨g,cap,e,-,hl⟩:=h.form (by omega);subst e;have hc:=h.cells (g:=g) rfl;obtain⟨h1,h2⟩:=ahk hj;exact⟨g,cap,rfl,hl,by have:=hc _ _ h1;rw[show (⟨g,0,none⟩:Addr).add (j*2)=⟨g,j*2,none⟩ by unfold Addr.add;split <;> simp_all]at this;exact this,by have:=hc _ _ h2;simpa [Addr.add]using this⟩
theorem SR.below{B:Nat}{w w':World}{v:Value}{l:List av}(h:SR B w v l)(hb:Below w.heap.size w w'):SR B w' v l:=aC h fun g hg=>hb.block g (h.lt g hg).2
def rQ(P:List Lx.Pd)(s:av):Int:=match bE P s with
 |some n=>(n:Int)
 |none=>-1
theorem Ep{P:List Lx.Pd}{k:Nat}(h:k<P.length):qD P k=P[k].right:=by simp[qD,h]
theorem Vr{w:World}{ta na ba ka:Option Addr}{nT tc nN nc nb bc nk kc:Nat}{vP:Value}{P:List Lx.Pd}(hP:PR (fun _=>True) w vP P)(s:av)(hs:s.1<P.length)(hd:s.2<=100000)(_hpm:P.length<=100000):Calls prog 70 #[.agg #[.slice ta nT tc,.slice na nN nc,vP,.slice ba nb bc,.slice ka nk kc],.agg #[.int .i64 (s.1:Int),.int .i64 (s.2:Int)]] w fun e w'=>e=.returned (.int .i64 (rQ P s))/\Below w.heap.size w w':=by
 obtain⟨gP,Ao,u,hvp,hu,x0,x1,x2⟩:=hP.atS hs;subst hvp;obtain⟨ua,uc,hva,-⟩:=aF hu;have hb:rQ P s=match (P[s.1].right)[s.2]? with
  |some n=>(n:Int)
  |none=>-1:=by unfold rQ bE;rw[Ep hs]
 have hur:IR 0 w u P[s.1].right:=hu;obtain⟨k,d⟩:=s;simp only at hs hd x0 x1 x2 hb hva hur|-;generalize P[k].right=r at *;subst hva;have HB:Hid (rQ P (k,d)=match r[d]? with
  |some n=>(n:Int)
  |none=>-1):=hb
 clear hb hu hP;have i1:(0:Int)<=(k:Int):=by omega
 have i2:(k:Int)<(P.length:Int):=by omega
 obtain⟨W0,hW0⟩:∃W,W=(w.alloc (.cells #[.slice ta nT tc,.slice na nN nc,.slice (some ⟨gP,0,none⟩) P.length Ao,.slice ba nb bc,.slice ka nk kc] 54)).alloc (.cells #[.int .i64 (k:Int),.int .i64 (d:Int)] 70):=⟨_,rfl⟩;have hb0:Below w.heap.size w W0:=by rw[hW0];exact((Below.refl _ _).alloc (zL0) _).alloc (by simp) _
 have rO:aj W0 w.heap.size #[.slice ta nT tc,.slice na nN nc,.slice (some ⟨gP,0,none⟩) P.length Ao,.slice ba nb bc,.slice ka nk kc] 54:=by rw[hW0];exact(aj.new w _ 54).alloc _
 have AY:aj W0 (w.heap.size+1) #[.int .i64 (k:Int),.int .i64 (d:Int)] 70:=by rw[hW0];simpa using aj.new (w.alloc (.cells #[.slice ta nT tc,.slice na nN nc,.slice (some ⟨gP,0,none⟩) P.length Ao,.slice ba nb bc,.slice ka nk kc] 54)) #[.int .i64 (k:Int),.int .i64 (d:Int)] 70
 have a2:W0.cell? ⟨w.heap.size,2,none⟩=some (.slice (some ⟨gP,0,none⟩) P.length Ao):=rO.cell 2;have s0:W0.cell? ⟨w.heap.size+1,0,none⟩=some (.int .i64 (k:Int)):=AY.cell 0;have s1:W0.cell? ⟨w.heap.size+1,1,none⟩=some (.int .i64 (d:Int)):=AY.cell 1;have y1:W0.cell? ⟨gP,k*3+1,none⟩=some (.slice ua r.length uc):=jS hb0 x1;go_enter func70,ntmps70;go_upto_region 1 with fail
 rw[<-hW0];clear hW0 x0 x1 x2
 by_cases hlt:d<r.length
 ·obtain⟨gU,ZJ,hvu,lU,cU⟩:=hur.at hlt
  cases hvu;have cU0:=jS hb0 cU;have HB2:Hid (rQ P (k,d)=(r[d]:Int)):=by show _=_;rw[HB.out,List.getElem?_eq_getElem hlt]
  generalize r[d]=n at cU0 HB2 cU;have i3:(0:Int)<=(d:Int):=by omega
  have i4:(d:Int)<(r.length:Int):=by omega
  clear HB cU;go_wp2_with fail;go_ret;exact⟨by rw[HB2.out];rfl,hb0⟩
 ·have HB2:Hid (rQ P (k,d)=-1):=by show _=_;rw[HB.out,List.getElem?_eq_none (by omega)]
  have i4:¬(d:Int)<(r.length:Int):=by omega
  clear HB;go_wp2_with fail;go_ret;exact⟨by rw[HB2.out];rfl,hb0⟩
theorem YS{B:Nat}{w:World}{v:Value}{l:List av}(hl:SR B w v l)(s:av):Calls prog 108 #[v,.agg #[.int .i64 (s.1:Int),.int .i64 (s.2:Int)]] w fun e w'=>e=.returned (.bool (decide (s∈l)))/\Below w.heap.size w w':=by
 obtain⟨a,c,rfl,hm⟩:∃a c,v=.slice a l.length c/\l.length<=maxLen:=aF hl;unfold maxLen at hm;obtain⟨k,d⟩:=s;simp only;obtain⟨W0,hW0⟩:∃W,W=w.alloc (.cells #[.int .i64 (k:Int),.int .i64 (d:Int)] 70):=⟨_,rfl⟩;have hb0:Below w.heap.size w W0:=by rw[hW0];exact(Below.refl _ _).alloc (zL0) _
 have AY:aj W0 w.heap.size #[.int .i64 (k:Int),.int .i64 (d:Int)] 70:=by rw[hW0];exact aj.new w _ 70
 have hs0:W0.heap.size=w.heap.size+1:=by rw[hW0];simp
 have HD:Hid (decide ((k,d)∈l)=decide ((k,d)∈l.drop 0)):=rfl;go_enter func108,ntmps108;go_wp2_with fail;rw[<-hW0];clear hW0
 go_loopg [5] l.length (fun m i wr=>∃j:Nat,j+m=l.length/\i=.int .i64 (j:Int)/\Below W0.heap.size W0 wr/\Hid (decide ((k,d)∈l)=decide ((k,d)∈l.drop j)))
 case atStart=>exact⟨0,by omega,rfl,Below.refl _ _,HD⟩
 case round=>
  clear HD;revert wr;intro wz hrel;obtain⟨j,hkj,rfl,hbz,HD⟩:=hrel;have hbw:Below w.heap.size w wz:=hb0.trans (hbz.mono (by omega));have IE:aj wz w.heap.size _ 70:=(hbz.block _ (by omega)).trans AY;have s0:wz.cell? ⟨w.heap.size,0,none⟩=some (.int .i64 (k:Int)):=IE.cell 0;have s1:wz.cell? ⟨w.heap.size,1,none⟩=some (.int .i64 (d:Int)):=IE.cell 1;have hsz:=hbz.size
  by_cases hlt:j<l.length
  ·obtain⟨g,cap,hv,lg,c0,c1⟩:=(hl.below hbw).at hlt
   cases hv;have hd:=HD.out;rw[List.drop_eq_getElem_cons hlt]at hd;generalize l[j]=x at c0 c1 hd;obtain⟨xk,xd⟩:=x;simp only at c0 c1;have i1:(0:Int)<=(j:Int):=by omega
   have i2:(j:Int)<(l.length:Int):=by omega
   have HZ:Hid (∀nq,Below W0.heap.size W0 (wz.drewN nq)):=fun nq=>hbz.trans ⟨rfl,rfl,rfl,zL0,fun _ _=>rfl⟩
   by_cases he:xk=k/\xd=d
   ·obtain⟨rfl,rfl⟩:=he
    have HD2:Hid (decide ((xk,xd)∈l)=true):=by show _=_;rw[hd];simp
    clear hd HD;go_wp2_with fail
    go_quiet (fail)
    go_wp2_with fail;go_ret;exact⟨by rw[HD2.out];rfl,hb0.trans ((HZ.out _).mono (by omega))⟩
   ·have HD2:Hid (decide ((k,d)∈l)=decide ((k,d)∈l.drop (j+1))):=by
     show _=_;rw[hd];have:¬(k,d)=(xk,xd):=fun e=>he ⟨by cases e;rfl,by cases e;rfl⟩
     simp[List.mem_cons,this]
    clear hd HD;rcases Classical.em (xk=k) with h1|h1
    ·subst h1
     have hx:((xd:Int) == (d:Int))=false:=zB0 (by omega);have hx2:¬(xd:Int)=(d:Int):=by omega
     have hx3:¬xd=d:=by omega
     clear he;go_wp2_with fail
     go_quiet (fail)
     go_wp2_with fail;go_roundg (l.length - (j+1))
     case measure=>omega
     case rel=>exact⟨j+1,by omega,by go_num,HZ.out _,HD2⟩
    ·have hx:((xk:Int) == (k:Int))=false:=zB0 (by omega)
     have hx2:¬(xk:Int)=(k:Int):=by omega
     clear he;go_wp2_with fail
     go_quiet (fail)
     go_wp2_with fail;go_roundg (l.length - (j+1))
     case measure=>omega
     case rel=>exact⟨j+1,by omega,by go_num,HZ.out _,HD2⟩
  ·obtain rfl:j=l.length:=by omega
   have HD2:Hid (decide ((k,d)∈l)=false):=by show _=_;rw[HD.out,List.drop_length];simp
   clear HD;go_wp2_with fail;go_ret;exact⟨by rw[HD2.out];rfl,hbw⟩
end Go.Proofs.YtjaalkocdbkdeaaGreatDoor

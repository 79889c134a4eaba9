import Derived.Test.YtjaalkocdbkdeaaGreatDoorSA26
set_option maxHeartbeats 8000000
set_option maxRecDepth 1000000
namespace Go.Proofs.YtjaalkocdbkdeaaGreatDoor
open Lx Go.Proofs.Tryz
open Go.RowKit Tr
theorem Mp.more{D G:Nat->Prop}{w w':World}{mb S H:Nat}{ta:Option Addr}{nT tc:Nat}{vN vB vK:Value}{fS:ByteArray->Int}{fH:Addr->Int}{P:List Lx.Pd}(h:Mp D G w mb S H ta nT tc vN vB vK fS fH P)(hb:Below w.heap.size w w'):Mp (More D w w') G w' mb S H ta nT tc vN vB vK fS fH P:=by
 have lm:=h.lm;obtain⟨⟨vP,h1,⟨ps,p1,p2,p3,p4⟩,h3⟩,e1,e2,e3,e4,e5,e6,e7⟩:=h;refine⟨⟨vP,(hb.block _ h1.lt).trans h1,⟨ps,p1,own_below p2 hb,fun q hq=>⟨own_below (p3 q hq).1 hb,fun g hg=>⟨.inl ((p3 q hq).2 g hg).1,((p3 q hq).2 g hg).2⟩⟩,p4⟩,fun g hg=>⟨?_,(h3 g hg).2⟩⟩,e1.move (hb.block _ (e6 _ e3)),e2.move (hb.block _ (e6 _ e4)),.inl e3,.inl e4,?_,?_,fun b hb'=>⟨.inl (e7 b hb').1,(e7 b hb').2.move (hb.block b (e6 b (e7 b hb').1))⟩⟩
 ·rintro(h' | h')
  ·exact(h3 g hg).1 h'
  ·have:=(p2.lt g hg).2;omega
 ·rintro(h' | h')
  ·exact e5 h'
  ·omega
 ·rintro g(h' | h')
  ·exact Nat.lt_of_lt_of_le (e6 g h') hb.size
  ·exact h'.2
theorem Xz{B:Nat}{w:World}{u:Value}{s:Nat}{r:List Nat}(hu:IR B w u r)(hB:B<=w.heap.size):pE B ((w.alloc (.cells #[.int .i64 (s:Int)] 3)).alloc (.cells #[.slice (some ⟨w.heap.size,0,none⟩) 1 1,u] 43)) (.slice (some ⟨w.heap.size+1,0,none⟩) 2 2) [[s],r]:=by
 have ka:=(aj.new w #[.int .i64 (s:Int)] 3).alloc (.cells #[.slice (some ⟨w.heap.size,0,none⟩) 1 1,u] 43);have kb:aj ((w.alloc (.cells #[.int .i64 (s:Int)] 3)).alloc (.cells #[.slice (some ⟨w.heap.size,0,none⟩) 1 1,u] 43)) (w.heap.size+1) #[.slice (some ⟨w.heap.size,0,none⟩) 1 1,u] 43:=by simpa using aj.new (w.alloc (.cells #[.int .i64 (s:Int)] 3)) #[.slice (some ⟨w.heap.size,0,none⟩) 1 1,u] 43
 refine⟨[(.slice (some ⟨w.heap.size,0,none⟩) 1 1,[s]),(u,r)],rfl,?_,?_,?_⟩
 ·exact⟨rfl,.inr ⟨w.heap.size+1,2,_,rfl,by omega,kb,zL0,by decide,rfl,rfl⟩⟩
 ·intro q hq
  rcases List.mem_cons.1 hq with rfl|hq
  ·exact⟨rfl,.inr ⟨w.heap.size,1,_,rfl,hB,ka,zL0,by decide,rfl,rfl⟩⟩
  ·rw[List.mem_singleton.1 hq]
   exact(World.ownsRow.alloc hu _).alloc _
 ·intro q hq g hg e
  have e1:w.heap.size+1=g:=by simpa [Value.ownBlock]using e
  rcases List.mem_cons.1 hq with rfl|hq
  ·have e2:w.heap.size=g:=by simpa [Value.ownBlock]using hg
   omega
  ·rw[List.mem_singleton.1 hq]at hg
   have:=(hu.lt g hg).2;omega
def uz(D G:Nat->Prop)(w:World)(mb S H:Nat)(ta:Option Addr)(nT tc:Nat)(vN vB vK:Value)(fS:ByteArray->Int)(fH:Addr->Int)(P:List Lx.Pd)(w':World):Prop:=∃D',(∀g,D g->D' g)/\Mp D' G w' mb S H ta nT tc vN vB vK fS fH P/\Kp D w w'
theorem uz.trans{D D' G:Nat->Prop}{w w' w'':World}{mb S H:Nat}{ta:Option Addr}{nT tc:Nat}{vN vB vK:Value}{fS:ByteArray->Int}{fH:Addr->Int}{P:List Lx.Pd}(hD:∀g,D g->D' g)(hk:Kp D w w')(h:uz D' G w' mb S H ta nT tc vN vB vK fS fH P w''):uz D G w mb S H ta nT tc vN vB vK fS fH P w'':=by
 obtain⟨D2,h1,h2,h3⟩:=h;exact⟨D2,fun g hg=>h1 g (hD g hg),h2,hk.trans h3 hD⟩
theorem adG{D F G:Nat->Prop}{w:World}{mb S H:Nat}{ta:Option Addr}{nT tc:Nat}{vN vB vK:Value}{fS:ByteArray->Int}{fH:Addr->Int}{P:List Lx.Pd}(h:Mp D G w mb S H ta nT tc vN vB vK fS fH P){n m d:Nat}{it:Lx.It}{va:Value}(hi:oQ w n m it)(hGn:G n)(hva:w.cell? ⟨n,m*4+3,none⟩=some va)(hA:ay YP d F w va it.alts)(hF:∀b,F b->D b)(ps:List (List Nat))(hp1:it.kind≠2->∃s:Nat,ps=[[s]]/\fS it.name=(s:Int))(hp2:it.kind=2->Pb w G fS fH (aY va) it.alts ps)(hl:it.alts.length<=10000)(s:Nat)(hs:fH ⟨n,m*4,none⟩=(s:Int))(hpl:ps.length<=10000)(hpr:∀r∈ps,r.length<=10000)(hP:P.length<=500000000000):
  Calls prog 94 #[.pointer (some ⟨mb,0,none⟩),.pointer (some ⟨n,m*4,none⟩)] w fun e w'=>e=.returned (.tuple #[])/\uz D G w mb S H ta nT tc vN vB vK fS fH (P++iO nT s it.mark ps) w':=by
 have hDn:=(h.gc n hGn).1;have Zo:=sP.look (w:=w.drew) (f:=fH) (h.pm.move rfl) (fun b hb=>(h.gc b hb).2.move (w':=w.drew) rfl) (a:=⟨n,m*4,none⟩) hGn;rw[hs]at Zo;have hd:Mp D G w.drew mb S H ta nT tc vN vB vK fS fH P:=h.below ((Below.refl _ _).drew);have hA':ay YP d F w.drew va it.alts:=by
  refine ay.move (w:=w) ?_ (fun _ h=>h) hA;intro _ _;rfl
 have q1:=afq hd (hi.move rfl) hva hA' hF ps hp1 (fun e=>hp2 e) hl;have d6:w.drew.cell? ⟨mb,6,none⟩=some (.map (some H)):=hd.cells.2.2;go_enter func94,ntmps94;go_wp2_with fail
 go_region_held3 (fun w'=>w'.cell? ⟨mb,6,none⟩=some (.map (some H))) (first | go_keep | assumption) ((go_at_call 127;refine q1.mono ?_;rintro e w1⟨u1,rfl,hu1,hb1⟩;have h1:=hd.below hb1;have S1:w1.cell? ⟨mb,6,none⟩=some (.map (some H)):=h1.cells.2.2;have hl2:=sP.look (w:=w1) (f:=fH) h1.pm (fun b hb=>(h1.gc b hb).2) (a:=⟨n,m*4,none⟩) hGn;rw[hs]at hl2))
 all_goals
  obtain⟨ua,uc,rfl,-⟩:=hu1.len;have fM:Below w.heap.size w w1:=((Below.refl w.heap.size w).drew).trans hb1;have hM1:=h.more fM;have xw:Kp D w w1:=Kp.below fM h.lt;have mk1:w1.cell? ⟨n,m*4+2,none⟩=some (.int .u8 (it.mark:Int)):=(World.cell?_of_block (w:=w) (fM.block n (h.lt n hDn))).trans hi.mark;have MK:Kp (More D w w1) w1 w1:=Kp.refl _ _;clear Zo q1 d6 h1 hA' hd hp1 hp2 hA hva hl
  by_cases qo:it.mark=42
  ·skip
   have t42:((it.mark:Int) == 42)=true:=by simp[qo]
   have u42:((it.mark:Int) != 42)=false:=by simp[qo]
   have t43:((it.mark:Int) == 43)=false:=zB0 (by omega);have R5:((it.mark:Int) != 43)=true:=bne_iff_ne.2 (by omega);have v43:¬(it.mark:Int)=43:=(by omega);have t63:((it.mark:Int) == 63)=false:=zB0 (by omega);have u63:((it.mark:Int) != 63)=true:=bne_iff_ne.2 (by omega);have v63:¬(it.mark:Int)=63:=(by omega);have wo:Hid (it.mark=42):=qo;clear qo;go_wp2_with fail;refine(yu hM1 s (.slice none 0 0) [] (World.ownsRow_nil _ _ _ _) (by simp) (by omega)).mono ?_;rintro e wA⟨rfl,DA,IY,R6,IZ⟩;have I4:Kp (More D w w1) w1 wA:=MK.trans IZ fun g hg=>hg
   have Qu:∀g,More D w w1 g->DA g:=fun g hg=>IY g (hg)
   have mkA:wA.cell? ⟨n,m*4+2,none⟩=some (.int .u8 (it.mark:Int)):=(World.cell?_of_block (w:=w1) (I4.block n (.inl hDn))).trans mk1;clear IZ IY;go_wp2_with fail
   go_loopg [64] ps.length (fun k i wr=>∃(j:Nat)(E:Nat->Prop),j+k=ps.length/\i=.int .i64 j/\(∀g,More D w w1 g->E g)/\Mp E G wr mb S H ta nT tc vN vB vK fS fH ((P++[aQ nT s []])++(ps.take j).map (fun r=>aQ nT s (s::r)))/\Kp (More D w w1) w1 wr)
   case atStart=>exact⟨0,_,by omega,rfl,Qu,by simpa using R6,I4⟩
   case round=>
    obtain⟨j,E,hkj,rfl,hE,aO,hkr⟩:=hrel;have wF:wr.cell? ⟨n,m*4+2,none⟩=some (.int .u8 (it.mark:Int)):=(World.cell?_of_block (w:=w1) (hkr.block n (.inl hDn))).trans mk1
    by_cases hlt:j<ps.length
    ·have hur:=hu1.move (w':=wr) fun g hg hl=>hkr.block g (.inr ⟨hg,hl⟩)
     obtain⟨gP,LH,u,hv,hBg,hgl,hc,hu⟩:=hur.at hlt;cases hv;have hrl:=hpr ps[j] (List.getElem_mem hlt);have htk:(ps.take (j+1)).map (fun r=>aQ nT s (s::r))=(ps.take j).map (fun r=>aQ nT s (s::r))++[aQ nT s (s::ps[j])]:=by rw[List.take_succ_eq_append_getElem hlt,List.map_append];rfl
     have bY:Hid _:=htk;have lV:((P++[aQ nT s []])++(ps.take j).map (fun r=>aQ nT s (s::r))).length<=600000000000:=by simp;omega
     generalize ps[j]=x at hc hu hrl bY;obtain⟨xa,xc,rfl,-⟩:=aF hu;clear htk wF;have hB0:w.heap.size<=wr.heap.size:=Nat.le_trans hb1.size hkr.size;have hpt:=Xz (s:=s) hu (show w.drew.heap.size<=wr.heap.size from hB0);have hfl:([[s],x]:List (List Nat)).flatten=s::x:=by simp
     have q2:=VB hpt (by rw[hfl];simp) (by rw[hfl,List.length_cons];omega);rw[hfl]at q2;have jw:Below wr.heap.size wr ((wr.alloc (.cells #[.int .i64 (s:Int)] 3)).alloc (.cells #[.slice (some ⟨wr.heap.size,0,none⟩) 1 1,.slice xa x.length xc] 43)):=(((Below.refl _ _).alloc (zL0) _).alloc (by simp) _);go_wp2_with fail;refine q2.mono ?_;rintro e w4⟨u4,rfl,Dt,hb4⟩;obtain⟨ya,yc,rfl,-⟩:=aF Dt;have pF:Below wr.heap.size wr w4:=jw.trans (hb4.mono jw.size);have q3:=yu (aO.below pF) s _ (s::x) (dm Dt (Nat.zero_le _)) (by rw[List.length_cons];omega) (by omega);clear q2 hpt jw hfl;go_wp2_with fail;refine q3.mono ?_;rintro e w5⟨rfl,E5,rR,fE,hk5⟩;clear q3;go_wp2_with fail;go_roundg (ps.length - (j+1))
     case measure=>omega
     case rel=>exact⟨j+1,E5,by omega,by go_num,fun g hg=>rR g (hE g hg),by rw[bY.out,<-List.append_assoc];exact fE,(hkr.trans (Kp.below pF (D:=fun g=>g<wr.heap.size) fun g hg=>hg) fun g hg=>aO.lt g (hE g hg)).trans hk5 hE⟩
    ·have:j=ps.length:=by omega
     subst this;rw[List.take_length]at aO;clear hkj hlt;go_wp2_with fail
     go_end0
     refine⟨rfl,uz.trans (fun g hg=>.inl hg) xw ⟨_,hE,?_,hkr⟩⟩;have e9:P++iO nT s it.mark ps=(P++[aQ nT s []])++ps.map (fun r=>aQ nT s (s::r)):=by rw[wo.out];simp[iO]
     rw[e9];exact aO
  ·by_cases h63:it.mark=63
   ·skip
    have t42:((it.mark:Int) == 42)=false:=zB0 (by omega);have u42:((it.mark:Int) != 42)=true:=bne_iff_ne.2 (by omega);have v42:¬(it.mark:Int)=42:=(by omega);have t43:((it.mark:Int) == 43)=false:=zB0 (by omega);have R5:((it.mark:Int) != 43)=true:=bne_iff_ne.2 (by omega);have v43:¬(it.mark:Int)=43:=(by omega);have t63:((it.mark:Int) == 63)=true:=by simp[h63]
    have u63:((it.mark:Int) != 63)=false:=by simp[h63]
    have wo:Hid (it.mark=63):=h63;clear h63 qo;go_wp2_with fail;refine(yu hM1 s (.slice none 0 0) [] (World.ownsRow_nil _ _ _ _) (by simp) (by omega)).mono ?_;rintro e wA⟨rfl,DA,IY,R6,IZ⟩;have I4:Kp (More D w w1) w1 wA:=MK.trans IZ fun g hg=>hg
    have Qu:∀g,More D w w1 g->DA g:=fun g hg=>IY g (hg)
    have mkA:wA.cell? ⟨n,m*4+2,none⟩=some (.int .u8 (it.mark:Int)):=(World.cell?_of_block (w:=w1) (I4.block n (.inl hDn))).trans mk1;clear IZ IY;go_wp2_with fail
    go_loopg [41] ps.length (fun k i wr=>∃(j:Nat)(E:Nat->Prop),j+k=ps.length/\i=.int .i64 j/\(∀g,More D w w1 g->E g)/\Mp E G wr mb S H ta nT tc vN vB vK fS fH ((P++[aQ nT s []])++(ps.take j).map (aQ nT s))/\Kp (More D w w1) w1 wr)
    case atStart=>exact⟨0,_,by omega,rfl,Qu,by simpa using R6,I4⟩
    case round=>
     obtain⟨j,E,hkj,rfl,hE,aO,hkr⟩:=hrel;have wF:wr.cell? ⟨n,m*4+2,none⟩=some (.int .u8 (it.mark:Int)):=(World.cell?_of_block (w:=w1) (hkr.block n (.inl hDn))).trans mk1
     by_cases hlt:j<ps.length
     ·have hur:=hu1.move (w':=wr) fun g hg hl=>hkr.block g (.inr ⟨hg,hl⟩)
      obtain⟨gP,LH,u,hv,hBg,hgl,hc,hu⟩:=hur.at hlt;cases hv;have hrl:=hpr ps[j] (List.getElem_mem hlt);have htk:(ps.take (j+1)).map (aQ nT s)=(ps.take j).map (aQ nT s)++[aQ nT s ps[j]]:=by rw[List.take_succ_eq_append_getElem hlt,List.map_append];rfl
      have bY:Hid _:=htk;have lV:((P++[aQ nT s []])++(ps.take j).map (aQ nT s)).length<=600000000000:=by simp;omega
      generalize ps[j]=x at hc hu hrl bY;obtain⟨xa,xc,rfl,-⟩:=aF hu;clear htk wF;have q2:=yu aO s _ x (dm hu (Nat.zero_le _)) (by omega) (by omega);go_wp2_with fail;refine q2.mono ?_;rintro e w5⟨rfl,E5,rR,fE,hk5⟩;clear q2;go_wp2_with fail;go_roundg (ps.length - (j+1))
      case measure=>omega
      case rel=>exact⟨j+1,E5,by omega,by go_num,fun g hg=>rR g (hE g hg),by rw[bY.out,<-List.append_assoc];exact fE,hkr.trans hk5 hE⟩
     ·have:j=ps.length:=by omega
      subst this;rw[List.take_length]at aO;clear hkj hlt;go_wp2_with fail
      go_end0
      refine⟨rfl,uz.trans (fun g hg=>.inl hg) xw ⟨_,hE,?_,hkr⟩⟩;have e9:P++iO nT s it.mark ps=(P++[aQ nT s []])++ps.map (aQ nT s):=by rw[wo.out];simp[iO]
      rw[e9];exact aO
   ·by_cases h43:it.mark=43
    ·skip
     have t42:((it.mark:Int) == 42)=false:=zB0 (by omega);have u42:((it.mark:Int) != 42)=true:=bne_iff_ne.2 (by omega);have v42:¬(it.mark:Int)=42:=(by omega);have t43:((it.mark:Int) == 43)=true:=by simp[h43]
     have R5:((it.mark:Int) != 43)=false:=by simp[h43]
     have t63:((it.mark:Int) == 63)=false:=zB0 (by omega);have u63:((it.mark:Int) != 63)=true:=bne_iff_ne.2 (by omega);have v63:¬(it.mark:Int)=63:=(by omega);have wo:Hid (it.mark=43):=h43;clear h63 qo h43;go_wp2_with fail
     go_loopg [41] ps.length (fun k i wr=>∃(j:Nat)(E:Nat->Prop),j+k=ps.length/\i=.int .i64 j/\(∀g,More D w w1 g->E g)/\Mp E G wr mb S H ta nT tc vN vB vK fS fH (P++(ps.take j).map (aQ nT s))/\Kp (More D w w1) w1 wr)
     case atStart=>exact⟨0,_,by omega,rfl,fun g hg=>hg,by simpa using hM1,MK⟩
     case round=>
      obtain⟨j,E,hkj,rfl,hE,aO,hkr⟩:=hrel;have wF:wr.cell? ⟨n,m*4+2,none⟩=some (.int .u8 (it.mark:Int)):=(World.cell?_of_block (w:=w1) (hkr.block n (.inl hDn))).trans mk1
      by_cases hlt:j<ps.length
      ·have hur:=hu1.move (w':=wr) fun g hg hl=>hkr.block g (.inr ⟨hg,hl⟩)
       obtain⟨gP,LH,u,hv,hBg,hgl,hc,hu⟩:=hur.at hlt;cases hv;have hrl:=hpr ps[j] (List.getElem_mem hlt);have htk:(ps.take (j+1)).map (aQ nT s)=(ps.take j).map (aQ nT s)++[aQ nT s ps[j]]:=by rw[List.take_succ_eq_append_getElem hlt,List.map_append];rfl
       have bY:Hid _:=htk;have lV:(P++(ps.take j).map (aQ nT s)).length<=600000000000:=by simp;omega
       generalize ps[j]=x at hc hu hrl bY;obtain⟨xa,xc,rfl,-⟩:=aF hu;clear htk wF;have q2:=yu aO s _ x (dm hu (Nat.zero_le _)) (by omega) (by omega);go_wp2_with fail;refine q2.mono ?_;rintro e w5⟨rfl,E5,rR,fE,hk5⟩;clear q2;go_wp2_with fail;go_roundg (ps.length - (j+1))
       case measure=>omega
       case rel=>exact⟨j+1,E5,by omega,by go_num,fun g hg=>rR g (hE g hg),by rw[bY.out,<-List.append_assoc];exact fE,hkr.trans hk5 hE⟩
      ·have:j=ps.length:=by omega
       subst this;rw[List.take_length]at aO;clear hkj hlt;have mkB:=wF;have hMB:=aO;have kkB:=hkr;have hsB:=hE;clear wF aO hkr hE;go_wp2_with fail
       go_loopg [64] ps.length (fun k i wr=>∃(j:Nat)(E:Nat->Prop),j+k=ps.length/\i=.int .i64 j/\(∀g,More D w w1 g->E g)/\Mp E G wr mb S H ta nT tc vN vB vK fS fH ((P++ps.map (aQ nT s))++(ps.take j).map (fun r=>aQ nT s (s::r)))/\Kp (More D w w1) w1 wr)
       case atStart=>exact⟨0,_,by omega,rfl,hsB,by simpa using hMB,kkB⟩
       case round=>
        obtain⟨j,E,hkj,rfl,hE,aO,hkr⟩:=hrel;have wF:wr.cell? ⟨n,m*4+2,none⟩=some (.int .u8 (it.mark:Int)):=(World.cell?_of_block (w:=w1) (hkr.block n (.inl hDn))).trans mk1
        by_cases hlt:j<ps.length
        ·have hur:=hu1.move (w':=wr) fun g hg hl=>hkr.block g (.inr ⟨hg,hl⟩)
         obtain⟨gP,LH,u,hv,hBg,hgl,hc,hu⟩:=hur.at hlt;cases hv;have hrl:=hpr ps[j] (List.getElem_mem hlt);have htk:(ps.take (j+1)).map (fun r=>aQ nT s (s::r))=(ps.take j).map (fun r=>aQ nT s (s::r))++[aQ nT s (s::ps[j])]:=by rw[List.take_succ_eq_append_getElem hlt,List.map_append];rfl
         have bY:Hid _:=htk;have lV:((P++ps.map (aQ nT s))++(ps.take j).map (fun r=>aQ nT s (s::r))).length<=600000000000:=by simp;omega
         generalize ps[j]=x at hc hu hrl bY;obtain⟨xa,xc,rfl,-⟩:=aF hu;clear htk wF;have hB0:w.heap.size<=wr.heap.size:=Nat.le_trans hb1.size hkr.size;have hpt:=Xz (s:=s) hu (show w.drew.heap.size<=wr.heap.size from hB0);have hfl:([[s],x]:List (List Nat)).flatten=s::x:=by simp
         have q2:=VB hpt (by rw[hfl];simp) (by rw[hfl,List.length_cons];omega);rw[hfl]at q2;have jw:Below wr.heap.size wr ((wr.alloc (.cells #[.int .i64 (s:Int)] 3)).alloc (.cells #[.slice (some ⟨wr.heap.size,0,none⟩) 1 1,.slice xa x.length xc] 43)):=(((Below.refl _ _).alloc (zL0) _).alloc (by simp) _);go_wp2_with fail;refine q2.mono ?_;rintro e w4⟨u4,rfl,Dt,hb4⟩;obtain⟨ya,yc,rfl,-⟩:=aF Dt;have pF:Below wr.heap.size wr w4:=jw.trans (hb4.mono jw.size);have q3:=yu (aO.below pF) s _ (s::x) (dm Dt (Nat.zero_le _)) (by rw[List.length_cons];omega) (by omega);clear q2 hpt jw hfl;go_wp2_with fail;refine q3.mono ?_;rintro e w5⟨rfl,E5,rR,fE,hk5⟩;clear q3;go_wp2_with fail;go_roundg (ps.length - (j+1))
         case measure=>omega
         case rel=>exact⟨j+1,E5,by omega,by go_num,fun g hg=>rR g (hE g hg),by rw[bY.out,<-List.append_assoc];exact fE,(hkr.trans (Kp.below pF (D:=fun g=>g<wr.heap.size) fun g hg=>hg) fun g hg=>aO.lt g (hE g hg)).trans hk5 hE⟩
        ·have:j=ps.length:=by omega
         subst this;rw[List.take_length]at aO;clear hkj hlt;go_wp2_with fail
         go_end0
         refine⟨rfl,uz.trans (fun g hg=>.inl hg) xw ⟨_,hE,?_,hkr⟩⟩;have e9:P++iO nT s it.mark ps=(P++ps.map (aQ nT s))++ps.map (fun r=>aQ nT s (s::r)):=by rw[wo.out];simp[iO]
         rw[e9];exact aO
    ·skip
     have t42:((it.mark:Int) == 42)=false:=zB0 (by omega);have u42:((it.mark:Int) != 42)=true:=bne_iff_ne.2 (by omega);have v42:¬(it.mark:Int)=42:=(by omega);have t43:((it.mark:Int) == 43)=false:=zB0 (by omega);have R5:((it.mark:Int) != 43)=true:=bne_iff_ne.2 (by omega);have v43:¬(it.mark:Int)=43:=(by omega);have t63:((it.mark:Int) == 63)=false:=zB0 (by omega);have u63:((it.mark:Int) != 63)=true:=bne_iff_ne.2 (by omega);have v63:¬(it.mark:Int)=63:=(by omega);have wo:Hid (iO nT s it.mark ps=ps.map (aQ nT s)):=by show _=_;simp[iO,qo,h63,h43]
     clear h63 qo h43;go_wp2_with fail
     go_loopg [41] ps.length (fun k i wr=>∃(j:Nat)(E:Nat->Prop),j+k=ps.length/\i=.int .i64 j/\(∀g,More D w w1 g->E g)/\Mp E G wr mb S H ta nT tc vN vB vK fS fH (P++(ps.take j).map (aQ nT s))/\Kp (More D w w1) w1 wr)
     case atStart=>exact⟨0,_,by omega,rfl,fun g hg=>hg,by simpa using hM1,MK⟩
     case round=>
      obtain⟨j,E,hkj,rfl,hE,aO,hkr⟩:=hrel;have wF:wr.cell? ⟨n,m*4+2,none⟩=some (.int .u8 (it.mark:Int)):=(World.cell?_of_block (w:=w1) (hkr.block n (.inl hDn))).trans mk1
      by_cases hlt:j<ps.length
      ·have hur:=hu1.move (w':=wr) fun g hg hl=>hkr.block g (.inr ⟨hg,hl⟩)
       obtain⟨gP,LH,u,hv,hBg,hgl,hc,hu⟩:=hur.at hlt;cases hv;have hrl:=hpr ps[j] (List.getElem_mem hlt);have htk:(ps.take (j+1)).map (aQ nT s)=(ps.take j).map (aQ nT s)++[aQ nT s ps[j]]:=by rw[List.take_succ_eq_append_getElem hlt,List.map_append];rfl
       have bY:Hid _:=htk;have lV:(P++(ps.take j).map (aQ nT s)).length<=600000000000:=by simp;omega
       generalize ps[j]=x at hc hu hrl bY;obtain⟨xa,xc,rfl,-⟩:=aF hu;clear htk wF;have q2:=yu aO s _ x (dm hu (Nat.zero_le _)) (by omega) (by omega);go_wp2_with fail;refine q2.mono ?_;rintro e w5⟨rfl,E5,rR,fE,hk5⟩;clear q2;go_wp2_with fail;go_roundg (ps.length - (j+1))
       case measure=>omega
       case rel=>exact⟨j+1,E5,by omega,by go_num,fun g hg=>rR g (hE g hg),by rw[bY.out,<-List.append_assoc];exact fE,hkr.trans hk5 hE⟩
      ·have:j=ps.length:=by omega
       subst this;rw[List.take_length]at aO;clear hkj hlt;go_wp2_with fail
       go_end0
       refine⟨rfl,uz.trans (fun g hg=>.inl hg) xw ⟨_,hE,?_,hkr⟩⟩;rw[wo.out];exact aO
theorem aiA{w:World}{B e z:Nat}{v:Value}{n:Nat}{xs:List Value}(h:w.ownsRow B e z v n xs){g:Nat}(hg:v.ownBlock=some g)(i:Nat)(u:Value):(w.setCell ⟨g,i,none⟩ u).ownsRow B e z v n (xs.set i u):=by
 refine⟨by rw[List.length_set];exact h.1,?_⟩;rcases h.2 with h0|⟨g',cap,cur,hv,hB,hh,hc1,hc2,hc3,hc4⟩
 ·rw[h0.1]at hg;simp[Value.ownBlock]at hg
 ·have:g'=g:=by rw[hv]at hg;simpa [Value.ownBlock]using hg
  subst this;have hb:aj w g' cur e:=hh;refine .inr ⟨g',cap,cur.setIfInBounds i u,hv,hB,hb.set i u,hc1,hc2,by simpa using hc3,?_⟩;rw[Array.toList_setIfInBounds,List.take_set,hc4]
theorem Mp.aiB{D G:Nat->Prop}{w:World}{mb S H:Nat}{ta:Option Addr}{nT tc:Nat}{vN vB vK:Value}{fS:ByteArray->Int}{fH:Addr->Int}{P:List Lx.Pd}{q:Lx.Pd}(h:Mp D G w mb S H ta nT tc vN vB vK fS fH (P++[q])):∃g c,w.cell? ⟨mb,2,none⟩=some (.slice (some ⟨g,0,none⟩) (P.length+1) c)/\¬D g/\g≠mb/\(∃o,w.cell? ⟨g,P.length*3+2,none⟩=some (.int .i64 o))/\(∀i,w.frozen? ⟨g,i,none⟩=false)/\∀v:Int,Mp D G (w.setCell ⟨g,P.length*3+2,none⟩ (.int .i64 v)) mb S H ta nT tc vN vB vK fS fH (P++[⟨q.left,q.right,v⟩])/\Kp D w (w.setCell ⟨g,P.length*3+2,none⟩ (.int .i64 v)):=by
 obtain⟨⟨vP,h1,⟨ps,p1,p2,p3,p4⟩,h3⟩,e1,e2,e3,e4,e5,e6,e7⟩:=h;obtain⟨ps',x,rfl⟩:∃ps' x,ps=ps'++[x]:=by
  rcases List.eq_nil_or_concat ps with rfl|⟨ps',x,rfl⟩
  ·simp at p1
  ·exact⟨ps',x,by simp⟩
 rw[List.map_append,List.map_cons,List.map_nil]at p1;obtain⟨hp,hq⟩:=List.append_inj' p1 rfl;have hq':x.2=q:=by simpa using hq
 have hl:ps'.length=P.length:=by rw[<-hp,List.length_map]
 obtain⟨g,c,rfl,-,hgl⟩:=p2.form (by simp);have hgb:=h3 g rfl;have hfm:(ps'++[x]).flatMap nV=ps'.flatMap nV++[.int .i64 (x.2.left:Int),x.1,.int .i64 x.2.prec]:=by rw[List.flatMap_append];simp[nV]
 have hset:∀v:Int,((ps'++[x]).flatMap nV).set (P.length*3+2) (.int .i64 v)=(ps'++[(x.1,(⟨q.left,q.right,v⟩:Lx.Pd))]).flatMap nV:=fun v=>by
  rw[hfm,List.flatMap_append,List.set_append_right _ _ (by rw[Gh,hl];omega),Gh,hl,show P.length*3+2-P.length*3=2 by omega];simp[nV,hq']
 have hcell:w.cell? ⟨g,P.length*3+2,none⟩=some (.int .i64 x.2.prec):=by
  rw[p2.cellAt (P.length*3+2) (by simp;omega),hfm,List.getElem?_append_right (by rw[Gh,hl];omega),Gh,hl,show P.length*3+2-P.length*3=2 by omega];rfl
 have hfz:∀i,w.frozen? ⟨g,i,none⟩=false:=by
  rcases p2.2 with h0|⟨g',cap,cur,hv,hB,hh,-⟩
  ·exact absurd h0.2 (by simp)
  ·have:g'=g:=by simp only[Value.slice.injEq,Option.some.injEq,Addr.mk.injEq]at hv;exact hv.1.1.symm
   subst this;have hb:aj w g' cur 51:=hh;exact hb.frozen
 have bk:∀v:Int,∀b,b≠g->(w.setCell ⟨g,P.length*3+2,none⟩ (.int .i64 v)).heap[b]?=w.heap[b]?:=fun v b hb=>zS0 hb
 have bD:∀v:Int,∀b,D b->(w.setCell ⟨g,P.length*3+2,none⟩ (.int .i64 v)).heap[b]?=w.heap[b]?:=fun v b hb=>bk v b fun e=>hgb.1 (e▸hb)
 refine⟨g,c,by have:=h1.cell 2;simpa using this,hgb.1,Nat.ne_of_gt hgb.2,⟨_,hcell⟩,hfz,fun v=>⟨⟨⟨_,(bk v mb (fun e=>Nat.ne_of_gt hgb.2 e.symm)).trans h1,⟨ps'++[(x.1,(⟨q.left,q.right,v⟩:Lx.Pd))],?_,?_,?_,?_⟩,h3⟩,e1.move (bD v S e3),e2.move (bD v H e4),e3,e4,e5,fun b hb=>by simpa [World.setCell]using e6 b hb,fun b hb=>⟨(e7 b hb).1,(e7 b hb).2.move (bD v b (e7 b hb).1)⟩⟩,⟨rfl,rfl,rfl,by simp[World.setCell],bD v⟩⟩⟩
 ·rw[List.map_append,hp];rfl
 ·have:=aiA p2 (g:=g) rfl (P.length*3+2) (.int .i64 v)
  rw[hset]at this;simpa using this
 ·intro y hy
  rcases List.mem_append.1 hy with hy|hy
  ·have:=p3 y (List.mem_append_left _ hy)
   exact⟨aC this.1 fun b hb=>bD v b (this.2 b hb).1,this.2⟩
  ·rw[List.mem_singleton.1 hy]
   have:=p3 x (by simp);rw[hq']at this;exact⟨aC this.1 fun b hb=>bD v b (this.2 b hb).1,this.2⟩
 ·rw[List.pairwise_append]at p4|-
  exact⟨p4.1,List.pairwise_singleton _ _,fun a ha b hb=>by rw[List.mem_singleton.1 hb];exact p4.2.2 a ha x (by simp)⟩
namespace Lx
theorem Uq(T N:List ByteArray)(b:Nat)(H:List It):∀(l:List It)(k:Nat)(x:It),l6 T N b H k (l++[x])=l6 T N b H k l++iO T.length (b+1+(k+l.length)) x.mark (partsOf T N b H x)
 | [],k,x=>by simp[l6]
 |y::l,k,x=>by
  rw[List.cons_append,l6,Uq T N b H l (k+1) x,l6,List.append_assoc,List.length_cons,show k+1+l.length=k+(l.length+1) by omega]
end Lx
structure Bc(w:World)(F G:Nat->Prop)(fS:ByteArray->Int)(fH:Addr->Int)(T N:List ByteArray)(b:Nat)(Hs:List Lx.It)(p:AI):Prop where
 g:G p.1.block
 nm:p.2.kind≠2->fS p.2.name=(mK T N p.2:Int)
 len:p.2.alts.length<=10000
 lens:∀a∈p.2.alts,a.1.length<=10000
 sub:∃n m d va,p.1=⟨n,m*4,none⟩/\w.cell? ⟨n,m*4+3,none⟩=some va/\ay YP d F w va p.2.alts/\∀q∈aT d w va p.2.alts,G q.1.block/\yK fS fH q=(lI T N b Hs q.2:Int)
theorem Bc.parts{w w':World}{F G:Nat->Prop}{fS:ByteArray->Int}{fH:Addr->Int}{T N:List ByteArray}{b:Nat}{Hs:List Lx.It}{n m:Nat}{it:Lx.It}(h:Bc w F G fS fH T N b Hs (⟨n,m*4,none⟩,it))(hk:∀b,F b->w'.heap[b]?=w.heap[b]?)(hn:F n):∃d va,w'.cell? ⟨n,m*4+3,none⟩=some va/\ay YP d F w' va it.alts/\(it.kind≠2->∃s:Nat,Lx.partsOf T N b Hs it=[[s]]/\fS it.name=(s:Int))/\(it.kind=2->Pb w' G fS fH (aY va) it.alts (Lx.partsOf T N b Hs it)):=by
 obtain⟨n',m',d,va,hp,hc,hA,hq⟩:=h.sub;have e1:n=n':=by simpa using congrArg Addr.block hp
 have e2:m*4=m'*4:=by simpa using congrArg Addr.off hp
 subst e1;rw[<-e2]at hc;refine⟨d,va,(World.cell?_of_block (w:=w) (hk n hn)).trans hc,ay.move hk (fun _ h=>h) hA,fun h2=>⟨_,if_neg h2,h.nm h2⟩,fun h2=>?_⟩;have ep:Lx.partsOf T N b Hs it=it.alts.map fun a=>ig T N b Hs a.1:=if_pos h2
 rw[ep];refine⟨by simp,fun k hk1 hk2=>?_⟩;obtain⟨d',rfl⟩:∃d',d=d'+1:=by
  cases d with
  |zero=>
   have hA2:it.alts=[]:=hA.2;rw[hA2]at hk1;simp at hk1
  |succ d'=>exact⟨d',rfl⟩
 obtain⟨vi,iK,hii,hmem⟩:=Yk hA hk1;have hF2:F (aY va):=(Ea hA hk1).1;refine⟨h.lens _ (List.getElem_mem hk1),by simp[ig],fun zu ZW q hq1 hq2=>?_⟩;have:zu=vi:=by
  have h3:w'.cell? ⟨aY va,k*2,none⟩=some vi:=(World.cell?_of_block (w:=w) (hk _ hF2)).trans iK;rw[h3]at ZW;exact(Option.some.inj ZW).symm
 subst this;have:=hq _ (hmem q hq1);refine⟨this.1,this.2.trans ?_⟩;simp[ig]
theorem ahF(ar:Array Value)(w:World):(callFunc 94 ar).run prog w=.ok (.enter 94 ar) w:=by kernel_rfl
theorem afr{T N:List ByteArray}{b:Nat}{Hs:List Lx.It}{x:Lx.It}(h:∀a∈x.alts,a.1.length<=10000):∀r∈Lx.partsOf T N b Hs x,r.length<=10000:=by
 unfold Lx.partsOf
 split
 ·intro r hr
  obtain⟨a,ha,rfl⟩:=List.mem_map.1 hr;unfold ig;rw[List.length_map];exact h a ha
 ·intro r hr
  rw[List.mem_singleton.1 hr];simp
theorem adS{D F G:Nat->Prop}{w:World}{mb S H:Nat}{ta:Option Addr}{tc:Nat}{vN vB vK va:Value}{fS:ByteArray->Int}{fH:Addr->Int}{P:List Lx.Pd}{T N:List ByteArray}{b:Nat}{l:List Lx.Alt}(h:Mp D G w mb S H ta T.length tc vN vB vK fS fH P)(hF:∀b,F b->D b)(hA:ay YP 9 F w va l)(hQ:∀p∈aT 9 w va l,Bc w F G fS fH T N b (aR 9 l) p)(hH:∀k p,(hlA w va l)[k]?=some p->fH p.1=((b+1+k:Nat):Int))(hl:(hlA w va l).length<=100000)(hP:P.length<=400000000000):
  Calls prog 82 #[va,.func (.func 89) #[] #[],.func (.func 94) #[.pointer (some ⟨mb,0,none⟩)] #[]] w fun e w'=>e=.returned (.tuple #[])/\uz D G w mb S H ta T.length tc vN vB vK fS fH (P++l6 T N b (aR 9 l) 0 (aR 9 l)) w':=by
 have hsub:∀p∈hlA w va l,p∈aT 9 w va l:=fun p hp=>(List.mem_filter.1 hp).1
 have q:=OW 9 89 94 #[.pointer (some ⟨mb,0,none⟩)] #[] Lx.hlp F w (fun L w'=>uz D G w mb S H ta T.length tc vN vB vK fS fH (P++l6 T N b (aR 9 l) 0 (L.map Prod.snd)) w') (Bc w F G fS fH T N b (aR 9 l)) (hlA w va l) Xy ahF
  (fun w' n m it _ hi=>Ny hi)
  (fun w' L n m it hI hn hi hwd hq hR=>by
   obtain⟨E,hE,hM,hk⟩:=hI;obtain⟨R,hR⟩:=hR;have hmem:∀p∈L,p∈hlA w va l:=fun p hp=>by rw[hR];simp[hp]
   have hlen:L.length<=100000:=by have:=hl;rw[hR]at this;simp at this;omega
   have hs:=hH L.length (⟨n,m*4,none⟩,it) (by rw[hR];simp);obtain⟨d,tF,hva,hA',hp1,hp2⟩:=hq.parts (w':=w') (fun b hb=>hk.block b (hF b hb)) hn;have hbig:(l6 T N b (aR 9 l) 0 (L.map Prod.snd)).length<=100000*20001:=by
    refine Nat.le_trans (NP (n:=10000) (by omega) (L.map Prod.snd) 0 fun x hx=>?_) ?_
    ·obtain⟨p,hp,rfl⟩:=List.mem_map.1 hx
     exact(hQ p (hsub p (hmem p hp))).len
    ·rw[List.length_map];exact Nat.mul_le_mul_right _ hlen
   refine(adG hM hi hq.g hva hA' (fun b hb=>hE b (hF b hb)) (Lx.partsOf T N b (aR 9 l) it) hp1 hp2 hq.len (b+1+L.length) hs (NN hq.len (by omega)) (afr hq.lens) (by rw[List.length_append];omega)).mono ?_;rintro e w''⟨rfl,hput⟩;refine⟨rfl,?_⟩;rw[List.map_append,List.map_cons,List.map_nil,Uq,List.length_map,Nat.zero_add,<-List.append_assoc];exact uz.trans hE hk hput)
  (fun L w' hI b hb=>by obtain⟨E,hE,hM,hk⟩:=hI;exact hk.block b (hF b hb))
  va l hA hQ w [] ⟨D,fun _ h=>h,by simpa [l6]using h,Kp.refl _ _⟩ ⟨[],by simp[hlA]⟩
 refine q.mono ?_;rintro e w'⟨rfl,hput⟩;refine⟨rfl,?_⟩;rw[List.nil_append]at hput;have e1:((aT 9 w va l).filter fun p=>Lx.hlp p.2).map Prod.snd=aR 9 l:=Yj hA;rw[e1]at hput;exact hput
end Go.Proofs.YtjaalkocdbkdeaaGreatDoor

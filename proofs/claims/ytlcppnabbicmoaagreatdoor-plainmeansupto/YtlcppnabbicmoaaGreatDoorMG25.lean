import Derived.Test.YtlcppnabbicmoaaGreatDoorMG24
set_option maxHeartbeats 8000000
set_option maxRecDepth 1000000
namespace Go.Proofs.YtlcppnabbicmoaaGreatDoor
open Lx Go.Proofs.Tryz
open Go.RowKit Tr
theorem Mp.more {D G:Nat->Prop}{w w':World}{mb S H:Nat}{ta:Option Addr}{nT tc:Nat}{vN vB vK:Value}{fS:ByteArray->Int}{fH:Addr->Int}{P:List Lx.Pd}(h:Mp D G w mb S H ta nT tc vN vB vK fS fH P)(hb:Below w.heap.size w w'):Mp (More D w w') G w' mb S H ta nT tc vN vB vK fS fH P:=by
 have lm:=h.lm;obtain⟨⟨vP,h1,⟨ps,p1,p2,p3,p4⟩,h3⟩,e1,e2,e3,e4,e5,e6,e7⟩:=h;refine⟨⟨vP,(hb.block _ h1.lt).trans h1,⟨ps,p1,own_below p2 hb,fun q hq=>⟨own_below (p3 q hq).1 hb,fun g hg=>⟨.inl ((p3 q hq).2 g hg).1,((p3 q hq).2 g hg).2⟩⟩,p4⟩,fun g hg=>⟨?_,(h3 g hg).2⟩⟩,e1.move (hb.block _ (e6 _ e3)),e2.move (hb.block _ (e6 _ e4)),.inl e3,.inl e4,?_,?_,fun b hb'=>⟨.inl (e7 b hb').1,(e7 b hb').2.move (hb.block b (e6 b (e7 b hb').1))⟩⟩
 ·rintro (h' | h')
  ·exact (h3 g hg).1 h'
  ·have:=(p2.lt g hg).2;omega
 ·rintro (h' | h')
  ·exact e5 h'
  ·omega
 ·rintro g (h' | h')
  ·exact Nat.lt_of_lt_of_le (e6 g h') hb.size
  ·exact h'.2
theorem YJ {B:Nat}{w:World}{u:Value}{s:Nat}{r:List Nat}(hu:IR B w u r)(hB:B<=w.heap.size):oM B ((w.alloc (.cells #[.int .i64 (s:Int)] 3)).alloc (.cells #[.slice (some ⟨w.heap.size,0,none⟩) 1 1,u] 24)) (.slice (some ⟨w.heap.size+1,0,none⟩) 2 2) [[s],r]:=by
 have ka:=(aj.new w #[.int .i64 (s:Int)] 3).alloc (.cells #[.slice (some ⟨w.heap.size,0,none⟩) 1 1,u] 24);have kb:aj ((w.alloc (.cells #[.int .i64 (s:Int)] 3)).alloc (.cells #[.slice (some ⟨w.heap.size,0,none⟩) 1 1,u] 24)) (w.heap.size+1) #[.slice (some ⟨w.heap.size,0,none⟩) 1 1,u] 24:=by simpa using aj.new (w.alloc (.cells #[.int .i64 (s:Int)] 3)) #[.slice (some ⟨w.heap.size,0,none⟩) 1 1,u] 24
 refine⟨[(.slice (some ⟨w.heap.size,0,none⟩) 1 1,[s]),(u,r)],rfl,?_,?_,?_⟩
 ·exact⟨rfl,.inr ⟨w.heap.size+1,2,_,rfl,by omega,kb,lr0,by decide,rfl,rfl⟩⟩
 ·intro q hq
  rcases List.mem_cons.1 hq with rfl | hq
  ·exact⟨rfl,.inr ⟨w.heap.size,1,_,rfl,hB,ka,lr0,by decide,rfl,rfl⟩⟩
  ·rw[List.mem_singleton.1 hq]
   exact (World.ownsRow.alloc hu _).alloc _
 ·intro q hq g hg e
  have e1:w.heap.size+1=g:=by simpa [Value.ownBlock]using e
  rcases List.mem_cons.1 hq with rfl | hq
  ·have e2:w.heap.size=g:=by simpa [Value.ownBlock]using hg
   omega
  ·rw[List.mem_singleton.1 hq]at hg
   have:=(hu.lt g hg).2;omega
def uO (D G:Nat->Prop)(w:World)(mb S H:Nat)(ta:Option Addr)(nT tc:Nat)(vN vB vK:Value)(fS:ByteArray->Int)(fH:Addr->Int)(P:List Lx.Pd)(w':World):Prop:=∃ D',(∀ g,D g->D' g)/\Mp D' G w' mb S H ta nT tc vN vB vK fS fH P/\Kp D w w'
theorem uO.trans {D D' G:Nat->Prop}{w w' w'':World}{mb S H:Nat}{ta:Option Addr}{nT tc:Nat}{vN vB vK:Value}{fS:ByteArray->Int}{fH:Addr->Int}{P:List Lx.Pd}(hD:∀ g,D g->D' g)(hk:Kp D w w')(h:uO D' G w' mb S H ta nT tc vN vB vK fS fH P w''):uO D G w mb S H ta nT tc vN vB vK fS fH P w'':=by
 obtain⟨D2,h1,h2,h3⟩:=h;exact⟨D2,fun g hg=>h1 g (hD g hg),h2,hk.trans h3 hD⟩
theorem aeI {D F G:Nat->Prop} {w:World} {mb S H:Nat} {ta:Option Addr} {nT tc:Nat} {vN vB vK:Value} {fS:ByteArray->Int} {fH:Addr->Int} {P:List Lx.Pd} (h:Mp D G w mb S H ta nT tc vN vB vK fS fH P) {n m d:Nat} {it:Lx.It} {va:Value} (hi:o7 w n m it) (hGn:G n) (hva:w.cell? ⟨n,m*4+3,none⟩=some va) (hA:ay YP d F w va it.alts) (hF:∀ b,F b->D b) (ps:List (List Nat)) (hp1:it.kind≠2->∃ s:Nat,ps=[[s]]/\fS it.name=(s:Int)) (hp2:it.kind=2->Qs w G fS fH (aZ va) it.alts ps) (hl:it.alts.length<=10000) (s:Nat) (hs:fH ⟨n,m*4,none⟩=(s:Int)) (hpl:ps.length<=10000) (hpr:∀ r∈ps,r.length<=10000) (hP:P.length<=500000000000) :
  Calls prog 106 #[.pointer (some ⟨mb,0,none⟩),.pointer (some ⟨n,m*4,none⟩)] w fun e w'=>e=.returned (.tuple #[])/\uO D G w mb S H ta nT tc vN vB vK fS fH (P++iH nT s it.mark ps) w':=by
 have hDn:=(h.gc n hGn).1;have aan:=sV.look (w:=w.drew) (f:=fH) (h.pm.move rfl) (fun b hb=>(h.gc b hb).2.move (w':=w.drew) rfl) (a:=⟨n,m*4,none⟩) hGn;rw[hs]at aan;have hd:Mp D G w.drew mb S H ta nT tc vN vB vK fS fH P:=h.below ((Below.refl _ _).drew);have hA':ay YP d F w.drew va it.alts:=by
  refine ay.move (w:=w) ?_ (fun _ h=>h) hA;intro _ _;rfl
 have q1:=agp hd (hi.move rfl) hva hA' hF ps hp1 (fun e=>hp2 e) hl;have d6:w.drew.cell? ⟨mb,6,none⟩=some (.map (some H)):=hd.cells.2.2;go_enter func106,ntmps106;go_wp2_with fail
 go_region_held3 (fun w'=>w'.cell? ⟨mb,6,none⟩=some (.map (some H))) (first | go_keep | assumption) ((go_at_call 137;refine q1.mono ?_;rintro e w1 ⟨u1,rfl,hu1,hb1⟩;have h1:=hd.below hb1;have S1:w1.cell? ⟨mb,6,none⟩=some (.map (some H)):=h1.cells.2.2;have hl2:=sV.look (w:=w1) (f:=fH) h1.pm (fun b hb=>(h1.gc b hb).2) (a:=⟨n,m*4,none⟩) hGn;rw[hs]at hl2))
 all_goals
  obtain⟨ua,uc,rfl,-⟩:=hu1.len;have dV:Below w.heap.size w w1:=((Below.refl w.heap.size w).drew).trans hb1;have hM1:=h.more dV;have xJ:Kp D w w1:=Kp.below dV h.lt;have mk1:w1.cell? ⟨n,m*4+2,none⟩=some (.int .u8 (it.mark:Int)):=(World.cell?_of_block (w:=w) (dV.block n (h.lt n hDn))).trans hi.mark;have ND:Kp (More D w w1) w1 w1:=Kp.refl _ _;clear aan q1 d6 h1 hA' hd hp1 hp2 hA hva hl
  by_cases qE:it.mark=42
  ·skip
   have t42:((it.mark:Int) == 42)=true:=by simp[qE]
   have u42:((it.mark:Int) != 42)=false:=by simp[qE]
   have t43:((it.mark:Int) == 43)=false:=bq0 (by omega);have TB:((it.mark:Int) != 43)=true:=bne_iff_ne.2 (by omega);have v43:¬ (it.mark:Int)=43:=(by omega);have t63:((it.mark:Int) == 63)=false:=bq0 (by omega);have u63:((it.mark:Int) != 63)=true:=bne_iff_ne.2 (by omega);have v63:¬ (it.mark:Int)=63:=(by omega);have wI:Hid (it.mark=42):=qE;clear qE;go_wp2_with fail;refine (yG hM1 s (.slice none 0 0) [] (World.ownsRow_nil _ _ _ _) (by simp) (by omega)).mono ?_;rintro e wA ⟨rfl,DA,Jv,TD,Bo⟩;have Jw:Kp (More D w w1) w1 wA:=ND.trans Bo fun g hg=>hg
   have Rv:∀ g,More D w w1 g->DA g:=fun g hg=>Jv g (hg)
   have mkA:wA.cell? ⟨n,m*4+2,none⟩=some (.int .u8 (it.mark:Int)):=(World.cell?_of_block (w:=w1) (Jw.block n (.inl hDn))).trans mk1;clear Bo Jv;go_wp2_with fail
   go_loopg [64] ps.length (fun k i wr=>∃ (j:Nat) (E:Nat->Prop),j+k=ps.length/\i=.int .i64 j/\(∀ g,More D w w1 g->E g)/\Mp E G wr mb S H ta nT tc vN vB vK fS fH ((P++[aS nT s []])++(ps.take j).map (fun r=>aS nT s (s::r)))/\Kp (More D w w1) w1 wr)
   case atStart=>exact⟨0,_,by omega,rfl,Rv,by simpa using TD,Jw⟩
   case round =>
    obtain⟨j,E,hkj,rfl,hE,aQ,hkr⟩:=hrel;have wN:wr.cell? ⟨n,m*4+2,none⟩=some (.int .u8 (it.mark:Int)):=(World.cell?_of_block (w:=w1) (hkr.block n (.inl hDn))).trans mk1
    by_cases hlt:j<ps.length
    ·have hur:=hu1.move (w':=wr) fun g hg hl=>hkr.block g (.inr ⟨hg,hl⟩)
     obtain⟨gP,MG,u,hv,hBg,hgl,hc,hu⟩:=hur.at hlt;cases hv;have hrl:=hpr ps[j] (List.getElem_mem hlt);have htk:(ps.take (j+1)).map (fun r=>aS nT s (s::r))=(ps.take j).map (fun r=>aS nT s (s::r))++[aS nT s (s::ps[j])]:=by rw[List.take_succ_eq_append_getElem hlt,List.map_append];rfl
     have bH:Hid _:=htk;have l8:((P++[aS nT s []])++(ps.take j).map (fun r=>aS nT s (s::r))).length<=600000000000:=by simp;omega
     generalize ps[j]=x at hc hu hrl bH;obtain⟨xa,xc,rfl,-⟩:=aI hu;clear htk wN;have hB0:w.heap.size<=wr.heap.size:=Nat.le_trans hb1.size hkr.size;have hpt:=YJ (s:=s) hu (show w.drew.heap.size<=wr.heap.size from hB0);have hfl:([[s],x]:List (List Nat)).flatten=s::x:=by simp
     have q2:=WY hpt (by rw[hfl];simp) (by rw[hfl,List.length_cons];omega);rw[hfl]at q2;have jJ:Below wr.heap.size wr ((wr.alloc (.cells #[.int .i64 (s:Int)] 3)).alloc (.cells #[.slice (some ⟨wr.heap.size,0,none⟩) 1 1,.slice xa x.length xc] 24)):=(((Below.refl _ _).alloc (lr0) _).alloc (by simp) _);go_wp2_with fail;refine q2.mono ?_;rintro e w4 ⟨u4,rfl,DJ,hb4⟩;obtain⟨ya,yc,rfl,-⟩:=aI DJ;have Jy:Below wr.heap.size wr w4:=jJ.trans (hb4.mono jJ.size);have q3:=yG (aQ.below Jy) s _ (s::x) (dO DJ (Nat.zero_le _)) (by rw[List.length_cons];omega) (by omega);clear q2 hpt jJ hfl;go_wp2_with fail;refine q3.mono ?_;rintro e w5 ⟨rfl,E5,zI,iB,hk5⟩;clear q3;go_wp2_with fail;go_roundg (ps.length - (j+1))
     case measure=>omega
     case rel=>exact⟨j+1,E5,by omega,by go_num,fun g hg=>zI g (hE g hg),by rw[bH.out,<-List.append_assoc];exact iB,(hkr.trans (Kp.below Jy (D:=fun g=>g<wr.heap.size) fun g hg=>hg) fun g hg=>aQ.lt g (hE g hg)).trans hk5 hE⟩
    ·have:j=ps.length:=by omega
     subst this;rw[List.take_length]at aQ;clear hkj hlt;go_wp2_with fail
     go_end0
     refine⟨rfl,uO.trans (fun g hg=>.inl hg) xJ ⟨_,hE,?_,hkr⟩⟩;have e9:P++iH nT s it.mark ps=(P++[aS nT s []])++ps.map (fun r=>aS nT s (s::r)):=by rw[wI.out];simp[iH]
     rw[e9];exact aQ
  ·by_cases h63:it.mark=63
   ·skip
    have t42:((it.mark:Int) == 42)=false:=bq0 (by omega);have u42:((it.mark:Int) != 42)=true:=bne_iff_ne.2 (by omega);have v42:¬ (it.mark:Int)=42:=(by omega);have t43:((it.mark:Int) == 43)=false:=bq0 (by omega);have TB:((it.mark:Int) != 43)=true:=bne_iff_ne.2 (by omega);have v43:¬ (it.mark:Int)=43:=(by omega);have t63:((it.mark:Int) == 63)=true:=by simp[h63]
    have u63:((it.mark:Int) != 63)=false:=by simp[h63]
    have wI:Hid (it.mark=63):=h63;clear h63 qE;go_wp2_with fail;refine (yG hM1 s (.slice none 0 0) [] (World.ownsRow_nil _ _ _ _) (by simp) (by omega)).mono ?_;rintro e wA ⟨rfl,DA,Jv,TD,Bo⟩;have Jw:Kp (More D w w1) w1 wA:=ND.trans Bo fun g hg=>hg
    have Rv:∀ g,More D w w1 g->DA g:=fun g hg=>Jv g (hg)
    have mkA:wA.cell? ⟨n,m*4+2,none⟩=some (.int .u8 (it.mark:Int)):=(World.cell?_of_block (w:=w1) (Jw.block n (.inl hDn))).trans mk1;clear Bo Jv;go_wp2_with fail
    go_loopg [41] ps.length (fun k i wr=>∃ (j:Nat) (E:Nat->Prop),j+k=ps.length/\i=.int .i64 j/\(∀ g,More D w w1 g->E g)/\Mp E G wr mb S H ta nT tc vN vB vK fS fH ((P++[aS nT s []])++(ps.take j).map (aS nT s))/\Kp (More D w w1) w1 wr)
    case atStart=>exact⟨0,_,by omega,rfl,Rv,by simpa using TD,Jw⟩
    case round =>
     obtain⟨j,E,hkj,rfl,hE,aQ,hkr⟩:=hrel;have wN:wr.cell? ⟨n,m*4+2,none⟩=some (.int .u8 (it.mark:Int)):=(World.cell?_of_block (w:=w1) (hkr.block n (.inl hDn))).trans mk1
     by_cases hlt:j<ps.length
     ·have hur:=hu1.move (w':=wr) fun g hg hl=>hkr.block g (.inr ⟨hg,hl⟩)
      obtain⟨gP,MG,u,hv,hBg,hgl,hc,hu⟩:=hur.at hlt;cases hv;have hrl:=hpr ps[j] (List.getElem_mem hlt);have htk:(ps.take (j+1)).map (aS nT s)=(ps.take j).map (aS nT s)++[aS nT s ps[j]]:=by rw[List.take_succ_eq_append_getElem hlt,List.map_append];rfl
      have bH:Hid _:=htk;have l8:((P++[aS nT s []])++(ps.take j).map (aS nT s)).length<=600000000000:=by simp;omega
      generalize ps[j]=x at hc hu hrl bH;obtain⟨xa,xc,rfl,-⟩:=aI hu;clear htk wN;have q2:=yG aQ s _ x (dO hu (Nat.zero_le _)) (by omega) (by omega);go_wp2_with fail;refine q2.mono ?_;rintro e w5 ⟨rfl,E5,zI,iB,hk5⟩;clear q2;go_wp2_with fail;go_roundg (ps.length - (j+1))
      case measure=>omega
      case rel=>exact⟨j+1,E5,by omega,by go_num,fun g hg=>zI g (hE g hg),by rw[bH.out,<-List.append_assoc];exact iB,hkr.trans hk5 hE⟩
     ·have:j=ps.length:=by omega
      subst this;rw[List.take_length]at aQ;clear hkj hlt;go_wp2_with fail
      go_end0
      refine⟨rfl,uO.trans (fun g hg=>.inl hg) xJ ⟨_,hE,?_,hkr⟩⟩;have e9:P++iH nT s it.mark ps=(P++[aS nT s []])++ps.map (aS nT s):=by rw[wI.out];simp[iH]
      rw[e9];exact aQ
   ·by_cases h43:it.mark=43
    ·skip
     have t42:((it.mark:Int) == 42)=false:=bq0 (by omega);have u42:((it.mark:Int) != 42)=true:=bne_iff_ne.2 (by omega);have v42:¬ (it.mark:Int)=42:=(by omega);have t43:((it.mark:Int) == 43)=true:=by simp[h43]
     have TB:((it.mark:Int) != 43)=false:=by simp[h43]
     have t63:((it.mark:Int) == 63)=false:=bq0 (by omega);have u63:((it.mark:Int) != 63)=true:=bne_iff_ne.2 (by omega);have v63:¬ (it.mark:Int)=63:=(by omega);have wI:Hid (it.mark=43):=h43;clear h63 qE h43;go_wp2_with fail
     go_loopg [41] ps.length (fun k i wr=>∃ (j:Nat) (E:Nat->Prop),j+k=ps.length/\i=.int .i64 j/\(∀ g,More D w w1 g->E g)/\Mp E G wr mb S H ta nT tc vN vB vK fS fH (P++(ps.take j).map (aS nT s))/\Kp (More D w w1) w1 wr)
     case atStart=>exact⟨0,_,by omega,rfl,fun g hg=>hg,by simpa using hM1,ND⟩
     case round =>
      obtain⟨j,E,hkj,rfl,hE,aQ,hkr⟩:=hrel;have wN:wr.cell? ⟨n,m*4+2,none⟩=some (.int .u8 (it.mark:Int)):=(World.cell?_of_block (w:=w1) (hkr.block n (.inl hDn))).trans mk1
      by_cases hlt:j<ps.length
      ·have hur:=hu1.move (w':=wr) fun g hg hl=>hkr.block g (.inr ⟨hg,hl⟩)
       obtain⟨gP,MG,u,hv,hBg,hgl,hc,hu⟩:=hur.at hlt;cases hv;have hrl:=hpr ps[j] (List.getElem_mem hlt);have htk:(ps.take (j+1)).map (aS nT s)=(ps.take j).map (aS nT s)++[aS nT s ps[j]]:=by rw[List.take_succ_eq_append_getElem hlt,List.map_append];rfl
       have bH:Hid _:=htk;have l8:(P++(ps.take j).map (aS nT s)).length<=600000000000:=by simp;omega
       generalize ps[j]=x at hc hu hrl bH;obtain⟨xa,xc,rfl,-⟩:=aI hu;clear htk wN;have q2:=yG aQ s _ x (dO hu (Nat.zero_le _)) (by omega) (by omega);go_wp2_with fail;refine q2.mono ?_;rintro e w5 ⟨rfl,E5,zI,iB,hk5⟩;clear q2;go_wp2_with fail;go_roundg (ps.length - (j+1))
       case measure=>omega
       case rel=>exact⟨j+1,E5,by omega,by go_num,fun g hg=>zI g (hE g hg),by rw[bH.out,<-List.append_assoc];exact iB,hkr.trans hk5 hE⟩
      ·have:j=ps.length:=by omega
       subst this;rw[List.take_length]at aQ;clear hkj hlt;have mkB:=wN;have hMB:=aQ;have kkB:=hkr;have hsB:=hE;clear wN aQ hkr hE;go_wp2_with fail
       go_loopg [64] ps.length (fun k i wr=>∃ (j:Nat) (E:Nat->Prop),j+k=ps.length/\i=.int .i64 j/\(∀ g,More D w w1 g->E g)/\Mp E G wr mb S H ta nT tc vN vB vK fS fH ((P++ps.map (aS nT s))++(ps.take j).map (fun r=>aS nT s (s::r)))/\Kp (More D w w1) w1 wr)
       case atStart=>exact⟨0,_,by omega,rfl,hsB,by simpa using hMB,kkB⟩
       case round =>
        obtain⟨j,E,hkj,rfl,hE,aQ,hkr⟩:=hrel;have wN:wr.cell? ⟨n,m*4+2,none⟩=some (.int .u8 (it.mark:Int)):=(World.cell?_of_block (w:=w1) (hkr.block n (.inl hDn))).trans mk1
        by_cases hlt:j<ps.length
        ·have hur:=hu1.move (w':=wr) fun g hg hl=>hkr.block g (.inr ⟨hg,hl⟩)
         obtain⟨gP,MG,u,hv,hBg,hgl,hc,hu⟩:=hur.at hlt;cases hv;have hrl:=hpr ps[j] (List.getElem_mem hlt);have htk:(ps.take (j+1)).map (fun r=>aS nT s (s::r))=(ps.take j).map (fun r=>aS nT s (s::r))++[aS nT s (s::ps[j])]:=by rw[List.take_succ_eq_append_getElem hlt,List.map_append];rfl
         have bH:Hid _:=htk;have l8:((P++ps.map (aS nT s))++(ps.take j).map (fun r=>aS nT s (s::r))).length<=600000000000:=by simp;omega
         generalize ps[j]=x at hc hu hrl bH;obtain⟨xa,xc,rfl,-⟩:=aI hu;clear htk wN;have hB0:w.heap.size<=wr.heap.size:=Nat.le_trans hb1.size hkr.size;have hpt:=YJ (s:=s) hu (show w.drew.heap.size<=wr.heap.size from hB0);have hfl:([[s],x]:List (List Nat)).flatten=s::x:=by simp
         have q2:=WY hpt (by rw[hfl];simp) (by rw[hfl,List.length_cons];omega);rw[hfl]at q2;have jJ:Below wr.heap.size wr ((wr.alloc (.cells #[.int .i64 (s:Int)] 3)).alloc (.cells #[.slice (some ⟨wr.heap.size,0,none⟩) 1 1,.slice xa x.length xc] 24)):=(((Below.refl _ _).alloc (lr0) _).alloc (by simp) _);go_wp2_with fail;refine q2.mono ?_;rintro e w4 ⟨u4,rfl,DJ,hb4⟩;obtain⟨ya,yc,rfl,-⟩:=aI DJ;have Jy:Below wr.heap.size wr w4:=jJ.trans (hb4.mono jJ.size);have q3:=yG (aQ.below Jy) s _ (s::x) (dO DJ (Nat.zero_le _)) (by rw[List.length_cons];omega) (by omega);clear q2 hpt jJ hfl;go_wp2_with fail;refine q3.mono ?_;rintro e w5 ⟨rfl,E5,zI,iB,hk5⟩;clear q3;go_wp2_with fail;go_roundg (ps.length - (j+1))
         case measure=>omega
         case rel=>exact⟨j+1,E5,by omega,by go_num,fun g hg=>zI g (hE g hg),by rw[bH.out,<-List.append_assoc];exact iB,(hkr.trans (Kp.below Jy (D:=fun g=>g<wr.heap.size) fun g hg=>hg) fun g hg=>aQ.lt g (hE g hg)).trans hk5 hE⟩
        ·have:j=ps.length:=by omega
         subst this;rw[List.take_length]at aQ;clear hkj hlt;go_wp2_with fail
         go_end0
         refine⟨rfl,uO.trans (fun g hg=>.inl hg) xJ ⟨_,hE,?_,hkr⟩⟩;have e9:P++iH nT s it.mark ps=(P++ps.map (aS nT s))++ps.map (fun r=>aS nT s (s::r)):=by rw[wI.out];simp[iH]
         rw[e9];exact aQ
    ·skip
     have t42:((it.mark:Int) == 42)=false:=bq0 (by omega);have u42:((it.mark:Int) != 42)=true:=bne_iff_ne.2 (by omega);have v42:¬ (it.mark:Int)=42:=(by omega);have t43:((it.mark:Int) == 43)=false:=bq0 (by omega);have TB:((it.mark:Int) != 43)=true:=bne_iff_ne.2 (by omega);have v43:¬ (it.mark:Int)=43:=(by omega);have t63:((it.mark:Int) == 63)=false:=bq0 (by omega);have u63:((it.mark:Int) != 63)=true:=bne_iff_ne.2 (by omega);have v63:¬ (it.mark:Int)=63:=(by omega);have wI:Hid (iH nT s it.mark ps=ps.map (aS nT s)):=by show _=_;simp[iH,qE,h63,h43]
     clear h63 qE h43;go_wp2_with fail
     go_loopg [41] ps.length (fun k i wr=>∃ (j:Nat) (E:Nat->Prop),j+k=ps.length/\i=.int .i64 j/\(∀ g,More D w w1 g->E g)/\Mp E G wr mb S H ta nT tc vN vB vK fS fH (P++(ps.take j).map (aS nT s))/\Kp (More D w w1) w1 wr)
     case atStart=>exact⟨0,_,by omega,rfl,fun g hg=>hg,by simpa using hM1,ND⟩
     case round =>
      obtain⟨j,E,hkj,rfl,hE,aQ,hkr⟩:=hrel;have wN:wr.cell? ⟨n,m*4+2,none⟩=some (.int .u8 (it.mark:Int)):=(World.cell?_of_block (w:=w1) (hkr.block n (.inl hDn))).trans mk1
      by_cases hlt:j<ps.length
      ·have hur:=hu1.move (w':=wr) fun g hg hl=>hkr.block g (.inr ⟨hg,hl⟩)
       obtain⟨gP,MG,u,hv,hBg,hgl,hc,hu⟩:=hur.at hlt;cases hv;have hrl:=hpr ps[j] (List.getElem_mem hlt);have htk:(ps.take (j+1)).map (aS nT s)=(ps.take j).map (aS nT s)++[aS nT s ps[j]]:=by rw[List.take_succ_eq_append_getElem hlt,List.map_append];rfl
       have bH:Hid _:=htk;have l8:(P++(ps.take j).map (aS nT s)).length<=600000000000:=by simp;omega
       generalize ps[j]=x at hc hu hrl bH;obtain⟨xa,xc,rfl,-⟩:=aI hu;clear htk wN;have q2:=yG aQ s _ x (dO hu (Nat.zero_le _)) (by omega) (by omega);go_wp2_with fail;refine q2.mono ?_;rintro e w5 ⟨rfl,E5,zI,iB,hk5⟩;clear q2;go_wp2_with fail;go_roundg (ps.length - (j+1))
       case measure=>omega
       case rel=>exact⟨j+1,E5,by omega,by go_num,fun g hg=>zI g (hE g hg),by rw[bH.out,<-List.append_assoc];exact iB,hkr.trans hk5 hE⟩
      ·have:j=ps.length:=by omega
       subst this;rw[List.take_length]at aQ;clear hkj hlt;go_wp2_with fail
       go_end0
       refine⟨rfl,uO.trans (fun g hg=>.inl hg) xJ ⟨_,hE,?_,hkr⟩⟩;rw[wI.out];exact aQ
theorem aji {w:World}{B e z:Nat}{v:Value}{n:Nat}{xs:List Value}(h:w.ownsRow B e z v n xs){g:Nat}(hg:v.ownBlock=some g)(i:Nat)(u:Value):(w.setCell ⟨g,i,none⟩ u).ownsRow B e z v n (xs.set i u):=by
 refine⟨by rw[List.length_set];exact h.1,?_⟩;rcases h.2 with h0 | ⟨g',cap,cur,hv,hB,hh,hc1,hc2,hc3,hc4⟩
 ·rw[h0.1]at hg;simp[Value.ownBlock]at hg
 ·have:g'=g:=by rw[hv]at hg;simpa [Value.ownBlock]using hg
  subst this;have hb:aj w g' cur e:=hh;refine .inr ⟨g',cap,cur.setIfInBounds i u,hv,hB,hb.set i u,hc1,hc2,by simpa using hc3,?_⟩;rw[Array.toList_setIfInBounds,List.take_set,hc4]
theorem Mp.ajj {D G:Nat->Prop}{w:World}{mb S H:Nat}{ta:Option Addr}{nT tc:Nat}{vN vB vK:Value}{fS:ByteArray->Int}{fH:Addr->Int}{P:List Lx.Pd}{q:Lx.Pd}(h:Mp D G w mb S H ta nT tc vN vB vK fS fH (P++[q])):∃ g c,w.cell? ⟨mb,2,none⟩=some (.slice (some ⟨g,0,none⟩) (P.length+1) c)/\¬ D g/\g≠mb/\(∃ o,w.cell? ⟨g,P.length*3+2,none⟩=some (.int .i64 o))/\(∀ i,w.frozen? ⟨g,i,none⟩=false)/\∀ v:Int,Mp D G (w.setCell ⟨g,P.length*3+2,none⟩ (.int .i64 v)) mb S H ta nT tc vN vB vK fS fH (P++[⟨q.left,q.right,v⟩])/\Kp D w (w.setCell ⟨g,P.length*3+2,none⟩ (.int .i64 v)):=by
 obtain⟨⟨vP,h1,⟨ps,p1,p2,p3,p4⟩,h3⟩,e1,e2,e3,e4,e5,e6,e7⟩:=h;obtain⟨ps',x,rfl⟩:∃ ps' x,ps=ps'++[x]:=by
  rcases List.eq_nil_or_concat ps with rfl | ⟨ps',x,rfl⟩
  ·simp at p1
  ·exact⟨ps',x,by simp⟩
 rw[List.map_append,List.map_cons,List.map_nil]at p1;obtain⟨hp,hq⟩:=List.append_inj' p1 rfl;have hq':x.2=q:=by simpa using hq
 have hl:ps'.length=P.length:=by rw[<-hp,List.length_map]
 obtain⟨g,c,rfl,-,hgl⟩:=p2.form (by simp);have hgb:=h3 g rfl;have hfm:(ps'++[x]).flatMap kH=ps'.flatMap kH++[.int .i64 (x.2.left:Int),x.1,.int .i64 x.2.prec]:=by rw[List.flatMap_append];simp[kH]
 have hset:∀ v:Int,((ps'++[x]).flatMap kH).set (P.length*3+2) (.int .i64 v)=(ps'++[(x.1,(⟨q.left,q.right,v⟩:Lx.Pd))]).flatMap kH:=fun v=>by
  rw[hfm,List.flatMap_append,List.set_append_right _ _ (by rw[Hf,hl];omega),Hf,hl,show P.length*3+2-P.length*3=2 by omega];simp[kH,hq']
 have hcell:w.cell? ⟨g,P.length*3+2,none⟩=some (.int .i64 x.2.prec):=by
  rw[p2.cellAt (P.length*3+2) (by simp;omega),hfm,List.getElem?_append_right (by rw[Hf,hl];omega),Hf,hl,show P.length*3+2-P.length*3=2 by omega];rfl
 have hfz:∀ i,w.frozen? ⟨g,i,none⟩=false:=by
  rcases p2.2 with h0 | ⟨g',cap,cur,hv,hB,hh,-⟩
  ·exact absurd h0.2 (by simp)
  ·have:g'=g:=by simp only[Value.slice.injEq,Option.some.injEq,Addr.mk.injEq]at hv;exact hv.1.1.symm
   subst this;have hb:aj w g' cur 58:=hh;exact hb.frozen
 have bk:∀ v:Int,∀ b,b≠g->(w.setCell ⟨g,P.length*3+2,none⟩ (.int .i64 v)).heap[b]?=w.heap[b]?:=fun v b hb=>hs0 hb
 have bD:∀ v:Int,∀ b,D b->(w.setCell ⟨g,P.length*3+2,none⟩ (.int .i64 v)).heap[b]?=w.heap[b]?:=fun v b hb=>bk v b fun e=>hgb.1 (e ▸ hb)
 refine⟨g,c,by have:=h1.cell 2;simpa using this,hgb.1,Nat.ne_of_gt hgb.2,⟨_,hcell⟩,hfz,fun v=>⟨⟨⟨_,(bk v mb (fun e=>Nat.ne_of_gt hgb.2 e.symm)).trans h1,⟨ps'++[(x.1,(⟨q.left,q.right,v⟩:Lx.Pd))],?_,?_,?_,?_⟩,h3⟩,e1.move (bD v S e3),e2.move (bD v H e4),e3,e4,e5,fun b hb=>by simpa [World.setCell]using e6 b hb,fun b hb=>⟨(e7 b hb).1,(e7 b hb).2.move (bD v b (e7 b hb).1)⟩⟩,⟨rfl,rfl,rfl,by simp[World.setCell],bD v⟩⟩⟩
 ·rw[List.map_append,hp];rfl
 ·have:=aji p2 (g:=g) rfl (P.length*3+2) (.int .i64 v)
  rw[hset]at this;simpa using this
 ·intro y hy
  rcases List.mem_append.1 hy with hy | hy
  ·have:=p3 y (List.mem_append_left _ hy)
   exact⟨aD this.1 fun b hb=>bD v b (this.2 b hb).1,this.2⟩
  ·rw[List.mem_singleton.1 hy]
   have:=p3 x (by simp);rw[hq']at this;exact⟨aD this.1 fun b hb=>bD v b (this.2 b hb).1,this.2⟩
 ·rw[List.pairwise_append]at p4 |-
  exact⟨p4.1,List.pairwise_singleton _ _,fun a ha b hb=>by rw[List.mem_singleton.1 hb];exact p4.2.2 a ha x (by simp)⟩
namespace Lx
theorem Vy (T N:List ByteArray) (b:Nat) (H:List It):∀ (l:List It) (k:Nat) (x:It),jZ T N b H k (l++[x])=jZ T N b H k l++iH T.length (b+1+(k+l.length)) x.mark (partsOf T N b H x)
 | [],k,x=>by simp[jZ]
 | y::l,k,x=>by
  rw[List.cons_append,jZ,Vy T N b H l (k+1) x,jZ,List.append_assoc,List.length_cons,show k+1+l.length=k+(l.length+1) by omega]
end Lx
structure Bp (w:World) (F G:Nat->Prop) (fS:ByteArray->Int) (fH:Addr->Int) (T N:List ByteArray) (b:Nat) (Hs:List Lx.It) (p:AI):Prop where
 g:G p.1.block
 nm:p.2.kind≠2->fS p.2.name=(fU T N p.2:Int)
 len:p.2.alts.length<=10000
 lens:∀ a∈p.2.alts,a.1.length<=10000
 sub:∃ n m d va,p.1=⟨n,m*4,none⟩/\w.cell? ⟨n,m*4+3,none⟩=some va/\ay YP d F w va p.2.alts/\∀ q∈aT d w va p.2.alts,G q.1.block/\yT fS fH q=(fT T N b Hs q.2:Int)
theorem Bp.parts {w w':World}{F G:Nat->Prop}{fS:ByteArray->Int}{fH:Addr->Int}{T N:List ByteArray}{b:Nat}{Hs:List Lx.It}{n m:Nat}{it:Lx.It}(h:Bp w F G fS fH T N b Hs (⟨n,m*4,none⟩,it))(hk:∀ b,F b->w'.heap[b]?=w.heap[b]?)(hn:F n):∃ d va,w'.cell? ⟨n,m*4+3,none⟩=some va/\ay YP d F w' va it.alts/\(it.kind≠2->∃ s:Nat,Lx.partsOf T N b Hs it=[[s]]/\fS it.name=(s:Int))/\(it.kind=2->Qs w' G fS fH (aZ va) it.alts (Lx.partsOf T N b Hs it)):=by
 obtain⟨n',m',d,va,hp,hc,hA,hq⟩:=h.sub;have e1:n=n':=by simpa using congrArg Addr.block hp
 have e2:m*4=m'*4:=by simpa using congrArg Addr.off hp
 subst e1;rw[<-e2]at hc;refine⟨d,va,(World.cell?_of_block (w:=w) (hk n hn)).trans hc,ay.move hk (fun _ h=>h) hA,fun h2=>⟨_,if_neg h2,h.nm h2⟩,fun h2=>?_⟩;have ep:Lx.partsOf T N b Hs it=it.alts.map fun a=>gY T N b Hs a.1:=if_pos h2
 rw[ep];refine⟨by simp,fun k hk1 hk2=>?_⟩;obtain⟨d',rfl⟩:∃ d',d=d'+1:=by
  cases d with
  | zero =>
   have hA2:it.alts=[]:=hA.2;rw[hA2]at hk1;simp at hk1
  | succ d'=>exact⟨d',rfl⟩
 obtain⟨vi,iF,hii,hmem⟩:=Zo hA hk1;have hF2:F (aZ va):=(Eu hA hk1).1;refine⟨h.lens _ (List.getElem_mem hk1),by simp[gY],fun zJ aaV q hq1 hq2=>?_⟩;have:zJ=vi:=by
  have h3:w'.cell? ⟨aZ va,k*2,none⟩=some vi:=(World.cell?_of_block (w:=w) (hk _ hF2)).trans iF;rw[h3]at aaV;exact (Option.some.inj aaV).symm
 subst this;have:=hq _ (hmem q hq1);refine⟨this.1,this.2.trans ?_⟩;simp[gY]
theorem ahm (ar:Array Value)(w:World):(callFunc 106 ar).run prog w=.ok (.enter 106 ar) w:=by kernel_rfl
theorem agq {T N:List ByteArray}{b:Nat}{Hs:List Lx.It}{x:Lx.It}(h:∀ a∈x.alts,a.1.length<=10000):∀ r∈Lx.partsOf T N b Hs x,r.length<=10000:=by
 unfold Lx.partsOf
 split
 ·intro r hr
  obtain⟨a,ha,rfl⟩:=List.mem_map.1 hr;unfold gY;rw[List.length_map];exact h a ha
 ·intro r hr
  rw[List.mem_singleton.1 hr];simp
theorem aeV {D F G:Nat->Prop} {w:World} {mb S H:Nat} {ta:Option Addr} {tc:Nat} {vN vB vK va:Value} {fS:ByteArray->Int} {fH:Addr->Int} {P:List Lx.Pd} {T N:List ByteArray} {b:Nat} {l:List Lx.Alt} (h:Mp D G w mb S H ta T.length tc vN vB vK fS fH P) (hF:∀ b,F b->D b) (hA:ay YP 9 F w va l) (hQ:∀ p∈aT 9 w va l,Bp w F G fS fH T N b (aH 9 l) p) (hH:∀ k p,(hlA w va l)[k]?=some p->fH p.1=((b+1+k:Nat):Int)) (hl:(hlA w va l).length<=100000) (hP:P.length<=400000000000) :
  Calls prog 94 #[va,.func (.func 101) #[] #[],.func (.func 106) #[.pointer (some ⟨mb,0,none⟩)] #[]] w fun e w'=>e=.returned (.tuple #[])/\uO D G w mb S H ta T.length tc vN vB vK fS fH (P++jZ T N b (aH 9 l) 0 (aH 9 l)) w':=by
 have hsub:∀ p∈hlA w va l,p∈aT 9 w va l:=fun p hp=>(List.mem_filter.1 hp).1
 have q:=PX 9 101 106 #[.pointer (some ⟨mb,0,none⟩)] #[] Lx.hlp F w (fun L w'=>uO D G w mb S H ta T.length tc vN vB vK fS fH (P++jZ T N b (aH 9 l) 0 (L.map Prod.snd)) w') (Bp w F G fS fH T N b (aH 9 l)) (hlA w va l) XQ ahm
  (fun w' n m it _ hi=>Ov hi)
  (fun w' L n m it hI hn hi hwd hq hR=>by
   obtain⟨E,hE,hM,hk⟩:=hI;obtain⟨R,hR⟩:=hR;have hmem:∀ p∈L,p∈hlA w va l:=fun p hp=>by rw[hR];simp[hp]
   have hlen:L.length<=100000:=by have:=hl;rw[hR]at this;simp at this;omega
   have hs:=hH L.length (⟨n,m*4,none⟩,it) (by rw[hR];simp);obtain⟨d,tJ,hva,hA',hp1,hp2⟩:=hq.parts (w':=w') (fun b hb=>hk.block b (hF b hb)) hn;have hbig:(jZ T N b (aH 9 l) 0 (L.map Prod.snd)).length<=100000*20001:=by
    refine Nat.le_trans (OM (n:=10000) (by omega) (L.map Prod.snd) 0 fun x hx=>?_) ?_
    ·obtain⟨p,hp,rfl⟩:=List.mem_map.1 hx
     exact (hQ p (hsub p (hmem p hp))).len
    ·rw[List.length_map];exact Nat.mul_le_mul_right _ hlen
   refine (aeI hM hi hq.g hva hA' (fun b hb=>hE b (hF b hb)) (Lx.partsOf T N b (aH 9 l) it) hp1 hp2 hq.len (b+1+L.length) hs (OL hq.len (by omega)) (agq hq.lens) (by rw[List.length_append];omega)).mono ?_;rintro e w'' ⟨rfl,hput⟩;refine⟨rfl,?_⟩;rw[List.map_append,List.map_cons,List.map_nil,Vy,List.length_map,Nat.zero_add,<-List.append_assoc];exact uO.trans hE hk hput)
  (fun L w' hI b hb=>by obtain⟨E,hE,hM,hk⟩:=hI;exact hk.block b (hF b hb))
  va l hA hQ w [] ⟨D,fun _ h=>h,by simpa [jZ]using h,Kp.refl _ _⟩ ⟨[],by simp[hlA]⟩
 refine q.mono ?_;rintro e w' ⟨rfl,hput⟩;refine⟨rfl,?_⟩;rw[List.nil_append]at hput;have e1:((aT 9 w va l).filter fun p=>Lx.hlp p.2).map Prod.snd=aH 9 l:=Zn hA;rw[e1]at hput;exact hput
theorem Bp.move {w w':World}{F G:Nat->Prop}{fS:ByteArray->Int}{fH:Addr->Int}{T N:List ByteArray}{b:Nat}{Hs:List Lx.It}{p:AI}(h:Bp w F G fS fH T N b Hs p)(hk:∀ b,F b->w'.heap[b]?=w.heap[b]?)(hn:F p.1.block):Bp w' F G fS fH T N b Hs p:=by
 obtain⟨h1,h2,h3,h4,n,m,d,va,e1,e2,e3,e4⟩:=h;have hn':F n:=by rw[e1]at hn;exact hn
 exact⟨h1,h2,h3,h4,n,m,d,va,e1,(World.cell?_of_block (w:=w) (hk n hn')).trans e2,ay.move hk (fun _ h=>h) e3,fun q hq=>e4 q (by rw[<-GY e3 hk];exact hq)⟩
namespace Lx
theorem Vz (T N:List ByteArray):∀ (l:List Rl) (b:Nat) (r:Rl),gQ T N b (l++[r])=gQ T N b l++ny T N (b+(l.flatMap fQ).length) r
 | [],b,r=>by simp[gQ]
 | y::l,b,r=>by
  rw[List.cons_append,gQ,Vz T N l,gQ,List.append_assoc,List.flatMap_cons,List.length_append,vg,show b+1+(aH 9 y.alts).length+(l.flatMap fQ).length=b+(1+(aH 9 y.alts).length+(l.flatMap fQ).length) by omega]
theorem afc (T N:List ByteArray)(n:Nat){rs:List Rl}{j:Nat}(hj:j<rs.length):gQ T N (n+1) (rs.take (j+1))=gQ T N (n+1) (rs.take j)++ny T N (n+(dZ (rs.take j)).length) rs[j]:=by
 rw[List.take_succ_eq_append_getElem hj,Vz];unfold dZ;rw[List.length_cons,show n+1+((rs.take j).flatMap fQ).length=n+(((rs.take j).flatMap fQ).length+1) by omega]
theorem pd0 (n:Nat):aS n n [n+1]=⟨n,[n+1],-1⟩:=by
 unfold aS j5;simp;omega
end Lx
structure aao (w:World) (F G:Nat->Prop) (fS:ByteArray->Int) (fH:Addr->Int) (T N:List ByteArray) (va:Value) (r:Lx.Rl) (b:Nat):Prop where
 left:fS r.name=(b:Int)
 its:∀ p∈aT 9 w va r.alts,F p.1.block/\Bp w F G fS fH T N b (aH 9 r.alts) p
 sym:∀ p∈aT 9 w va r.alts,yT fS fH p=(fT T N b (aH 9 r.alts) p.2:Int)
 hel:∀ k p,(hlA w va r.alts)[k]?=some p->fH p.1=((b+1+k:Nat):Int)
 prec:∀ a∈r.alts,a.2.1≠aM->fS a.2.1=(Lx.fix T a.2.1:Int)
 len:r.alts.length<=10000
 lens:∀ a∈r.alts,a.1.length<=10000
 hl:(hlA w va r.alts).length<=100000
 pl:(ny T N b r).length<=10000000
theorem afd {D F G:Nat->Prop} {w:World} {mb S H:Nat} {ta:Option Addr} {tc:Nat} {vN vB vK vR:Value} {fS:ByteArray->Int} {fH:Addr->Int} {T N:List ByteArray} {rs:List Lx.Rl} (h:Mp D G w mb S H ta T.length tc vN vB vK fS fH []) (zG:mH F w vR rs) (hF:∀ b,F b->D b) (hQ:∀ i (hi:i<rs.length),aao w F G fS fH T N (cv w ⟨aZ vR,i*2+1,none⟩) rs[i] (T.length+(dZ (rs.take i)).length)) (hne:0<rs.length) (hrl:rs.length<=10000) :
  Calls prog 58 #[.pointer (some ⟨mb,0,none⟩),vR] w fun e w'=>e=.returned (.tuple #[])/\uO D G w mb S H ta T.length tc vN vB vK fS fH (⟨T.length,[T.length+1],-1⟩::gQ T N (T.length+1) rs) w':=by
 obtain⟨a,c,rfl,hm⟩:=zG.len;unfold maxLen at hm;obtain⟨gR,MC,va0,hv,hFg,-,r0,-⟩:=zG.at hne;cases hv;have e0:fS rs[0].name=((T.length+1:Nat):Int):=(hQ 0 hne).left;obtain⟨n1,hn1⟩:∃ n1,n1=T.length+1:=⟨_,rfl⟩;rw[<-hn1]at e0;have HN1:Hid (n1=T.length+1):=hn1;clear hn1;have hl0:=SMap.look (w:=w.drew) (h.sm.move rfl) rs[0].name;rw[e0]at hl0;rw[Nat.zero_mul]at r0;obtain⟨m0,m5,m6⟩:=h.cells;have lgR:gR<w.heap.size:=zG.lt gR hFg;obtain⟨W,hW⟩:∃ W,W=(w.alloc (.cells #[.int .i64 (n1:Int)] 3)).drew:=⟨_,rfl⟩;have hbW:Below w.heap.size w W:=by rw[hW];exact ((Below.refl _ _).alloc (lr0) _).drew
 have hMW:=h.below hbW;have kW:aj W w.heap.size #[.int .i64 (n1:Int)] 3:=by rw[hW];exact (aj.new w _ 3).drew
 have oW:IR 0 W (.slice (some ⟨w.heap.size,0,none⟩) 1 1) [n1]:=⟨rfl,.inr ⟨w.heap.size,1,_,rfl,Nat.zero_le _,kW,lr0,by decide,rfl,rfl⟩⟩;have q0:=yG hMW T.length _ [n1] oW (by simp) (by simp);rw[hW]at q0;generalize rs[0].name=TF at hl0 r0;have d0:w.drew.cell? ⟨mb,0,none⟩=some (.slice ta T.length tc):=m0;have d5:w.drew.cell? ⟨mb,5,none⟩=some (.map (some S)):=m5;have dr:w.drew.cell? ⟨gR,0,none⟩=some (.string TF):=r0;have x1:=World.new_ne w ⟨mb,0,none⟩ m0;have x2:=World.new_ne w ⟨gR,0,none⟩ r0;have x3:0<rs.length:=hne;clear e0;go_enter func58,ntmps58;go_wp2_with fail
 go_region_held3 (fun w'=>w'.cell? ⟨mb,0,none⟩=some (.slice ta T.length tc)/\w'.cell? ⟨mb,5,none⟩=some (.map (some S))/\w'.cell? ⟨gR,0,none⟩=some (.string TF)) (first | go_keep | assumption) ((go_at_call 104;refine q0.mono ?_;rintro e w1 ⟨rfl,E1,hE1,hM1,hk1⟩;have S1:w1.cell? ⟨mb,0,none⟩=some (.slice ta T.length tc)/\w1.cell? ⟨mb,5,none⟩=some (.map (some S))/\w1.cell? ⟨gR,0,none⟩=some (.string TF):=⟨hM1.cells.1,hM1.cells.2.1,(World.cell?_of_block (w:=w) ((hk1.block gR (hF gR hFg)).trans (by rw[<-hW];exact hbW.block gR lgR))).trans r0⟩))
 have aaW:Mp E1 G w1 mb S H ta T.length tc vN vB vK fS fH (⟨T.length,[T.length+1],-1⟩::gQ T N (T.length+1) (rs.take 0)):=by
  have e:(⟨T.length,[T.length+1],-1⟩::gQ T N (T.length+1) (rs.take 0):List Lx.Pd)=[]++[aS T.length T.length [n1]]:=by rw[HN1.out,Lx.pd0];simp[gQ]
  rw[e];exact hM1
 have xJ:Kp D w w1:=(Kp.below hbW h.lt).trans (by rw[hW];exact hk1) fun g hg=>hg
 clear hl0 q0 oW kW hMW hM1 hk1 hW hbW d0 d5 dr x1 x2 r0 m0 m5 m6;clear W;go_wp2_with fail
 go_loopg [28] rs.length (fun k i wr=>∃ (j:Nat) (E:Nat->Prop),j+k=rs.length/\i=.int .i64 j/\(∀ g,D g->E g)/\Mp E G wr mb S H ta T.length tc vN vB vK fS fH (⟨T.length,[T.length+1],-1⟩::gQ T N (T.length+1) (rs.take j))/\Kp D w wr/\(gQ T N (T.length+1) (rs.take j)).length<=j*10000000)
 case atStart=>exact⟨0,E1,by omega,rfl,hE1,aaW,xJ,by simp[gQ]⟩
 case round =>
  clear aaW xJ hE1;revert wr;intro wz hrel;obtain⟨j,E,hk,rfl,hE,FQ,hkz,l8⟩:=hrel
  by_cases hlt:j<rs.length
  ·obtain⟨gR',aj2,va,hv,am0,hA,c0,c1⟩:=zG.at hlt
   cases hv;have wM:cv w ⟨gR,j*2+1,none⟩=va:=by unfold cv;rw[c1];rfl
   have hq:=hQ j hlt;rw[show aZ (.slice (some ⟨gR,0,none⟩) rs.length c)=gR from rfl,wM]at hq;have bkz:=hkz.block gR (hF gR hFg);have z0:wz.cell? ⟨gR,j*2,none⟩=some (.string rs[j].name):=(World.cell?_of_block (w:=w) bkz).trans c0;have z1:wz.cell? ⟨gR,j*2+1,none⟩=some va:=(World.cell?_of_block (w:=w) bkz).trans c1;have Jz:Hid (gQ T N (T.length+1) (rs.take (j+1))=gQ T N (T.length+1) (rs.take j)++ny T N (T.length+(dZ (rs.take j)).length) rs[j]):=afc T N T.length hlt;generalize T.length+(dZ (rs.take j)).length=b at hq Jz;generalize rs[j]=r at hq Jz z0 hA;generalize gQ T N (T.length+1) (rs.take j)=PJ at FQ l8 Jz;obtain⟨nm,al,rp⟩:=r;simp only at hA z0;obtain⟨sa,sc,rfl,-⟩:=ay.len hA;obtain⟨W1,hW1⟩:∃ W1,W1=wz.alloc (.cells #[.string nm,.slice sa al.length sc] 179):=⟨_,rfl⟩;have hb1:Below wz.heap.size wz W1:=by rw[hW1];exact (Below.refl _ _).alloc (lr0) _
   have hs1:W1.heap.size=wz.heap.size+1:=by rw[hW1];simp
   have kR:aj W1 wz.heap.size #[.string nm,.slice sa al.length sc] 179:=by rw[hW1];exact aj.new wz _ 179
   have hM1:=FQ.more hb1;have dR:More E wz W1 wz.heap.size:=.inr ⟨lr0,by omega⟩;have hDW:∀ g,D g->More E wz W1 g:=fun g hg=>.inl (hE g hg)
   have aky:Kp D w W1:=hkz.trans (Kp.below hb1 (D:=fun g=>g<wz.heap.size) fun g hg=>hg) fun g hg=>FQ.lt g (hE g hg)
   clear c0 c1 wM;go_wp2_with fail;rw[<-hW1];clear hW1 z0 z1
   go_loopg [35] al.length (fun k i wr=>∃ (q:Nat) (E2:Nat->Prop),q+k=al.length/\i=.int .i64 q/\(∀ g,More E wz W1 g->E2 g)/\Mp E2 G wr mb S H ta T.length tc vN vB vK fS fH ((⟨T.length,[T.length+1],-1⟩::PJ)++(al.take q).map (jF T N b (aH 9 al)))/\Kp (More E wz W1) W1 wr)
   case atStart=>exact⟨0,_,by omega,rfl,fun _ h=>h,by simpa using hM1,Kp.refl _ _⟩
   case round =>
    revert wr;intro wy hrel;obtain⟨q,E2,hkq,rfl,hE2,qZ,hky⟩:=hrel;have Fv:Kp D w wy:=aky.trans hky hDW;have DL:aj wy wz.heap.size #[.string nm,.slice sa al.length sc] 179:=eG kR hky dR
    by_cases vV:q<al.length
    ·obtain⟨vi,hci,hii,hmem⟩:=Zo hA vV
     have hFb:F (aZ (.slice sa al.length sc)):=(Eu hA vV).1;have JA:ay YP 9 F wy (.slice sa al.length sc) al:=ay.move (fun b hb=>Fv.block b (hF b hb)) (fun _ h=>h) hA;obtain⟨gb,cap,zJ,hv,hg,hit,hc⟩:=Seq.at JA (fun _=>rfl) vV;cases hv;have y0:wy.cell? ⟨gb,q*2,none⟩=some zJ:=hc 0 (by decide);have y1:wy.cell? ⟨gb,q*2+1,none⟩=some (.string al[q].2.1):=hc 1 (by decide);have evi:zJ=vi:=by
      have h3:wy.cell? ⟨gb,q*2,none⟩=some vi:=(World.cell?_of_block (w:=w) (Fv.block gb (hF gb hg))).trans hci;rw[h3]at y0;exact (Option.some.inj y0).symm
     subst evi;have hpr:=hq.prec al[q] (List.getElem_mem vV);have hln:=hq.lens al[q] (List.getElem_mem vV);have hsy:∀ k (hk:k<al[q].1.length) (hk':k<(gY T N b (aH 9 al) al[q].1).length),G (aZ zJ)/\yT fS fH (⟨aZ zJ,k*4,none⟩,al[q].1[k])=((gY T N b (aH 9 al) al[q].1)[k]:Int):=fun k hk hk'=>by
      have h4:=hmem k hk;refine⟨(hq.its _ h4).2.g,(hq.sym _ h4).trans ?_⟩;simp[gY]
     have bH:Hid ((al.take (q+1)).map (jF T N b (aH 9 al))=(al.take q).map (jF T N b (aH 9 al))++[jF T N b (aH 9 al) al[q]]):=by show _=_;rw[List.take_succ_eq_append_getElem vV,List.map_append];rfl
     have hrlen:(gY T N b (aH 9 al) al[q].1).length=al[q].1.length:=by simp[gY]
     have hi':bJ YP 8 F wy zJ al[q].1:=hit;have hal:al.length<=10000:=hq.len;clear hmem hci hii hit hc JA;generalize al[q]=x at y1 hpr hln hsy bH hrlen hi';obtain⟨its,prec,pa⟩:=x;simp only at y1 hpr hln hsy hrlen hi';have Iq:Hid (jF T N b (aH 9 al) (its,prec,pa)=⟨b,gY T N b (aH 9 al) its,if prec=aM then j5 T.length (gY T N b (aH 9 al) its) else (Lx.fix T prec:Int)⟩):=rfl;generalize gY T N b (aH 9 al) its=rr at hsy hrlen Iq;obtain⟨ia,ic,rfl,him⟩:∃ a c,zJ=.slice a its.length c/\its.length<=maxLen:=Seq.len (show Tr.Seq F wy YP.eI YP.sI YP.cI (fun va it=>ay YP 8 F wy va it.alts) zJ its from hi');obtain⟨W2,hW2⟩:∃ W2,W2=wy.alloc (.cells #[.slice ia its.length ic,.string prec] 194):=⟨_,rfl⟩;have hb2:Below wy.heap.size wy W2.drew:=by rw[hW2];exact ((Below.refl _ _).alloc (lr0) _).drew
     have hs2:W2.heap.size=wy.heap.size+1:=by rw[hW2];simp
     have kA:aj W2 wy.heap.size #[.slice ia its.length ic,.string prec] 194:=by rw[hW2];exact aj.new wy _ 194
     have hM2:=qZ.more hb2;have dA:More E2 wy W2.drew wy.heap.size:=.inr ⟨lr0,by show wy.heap.size<W2.heap.size;omega⟩;have TG:More E2 wy W2.drew wz.heap.size:=.inl (hE2 _ dR);have lz2:=DL.lt;have mW:aj W2.drew wz.heap.size _ 179:=(hb2.block _ lz2).trans DL;have hbk:∀ b,F b->More E2 wy W2.drew b:=fun b hb=>.inl (hE2 b (.inl (hE b (hF b hb))))
     have q1:=WX hM2 its _ (bJ.move (fun b hb=>hb2.block b (qZ.lt b (hE2 b (.inl (hE b (hF b hb)))))) (fun _ h=>h) hi') hbk rr hrlen (fun k hk=>hsy k hk (by rw[hrlen];exact hk)) hln prec;have hlk:=SMap.look (w:=W2.drew) hM2.sm nm;rw[show fS nm=(b:Int) from hq.left]at hlk;have s5:=hM2.cells.2.1;have sR:W2.drew.cell? ⟨wz.heap.size,0,none⟩=some (.string nm):=mW.cell 0;have sA0:W2.drew.cell? ⟨wy.heap.size,0,none⟩=some (.slice ia its.length ic):=kA.drew.cell 0;have sA1:W2.drew.cell? ⟨wy.heap.size,1,none⟩=some (.string prec):=kA.drew.cell 1;have hnb:fS nm=(b:Int):=hq.left;have Rw:(((⟨T.length,[T.length+1],-1⟩:Lx.Pd)::PJ)++(al.take q).map (jF T N b (aH 9 al))).length<=400000000000:=by
      simp only[List.length_append,List.length_cons,List.length_map,List.length_take];have h5:j*10000000<=10000*10000000:=Nat.mul_le_mul_right _ (by omega);omega
     have HRL:Hid (rr.length=its.length):=hrlen;clear hrlen hsy hi';generalize om:(((⟨T.length,[T.length+1],-1⟩:Lx.Pd)::PJ)++(al.take q).map (jF T N b (aH 9 al)))=PQ at qZ hM2 Rw;have pG:Hid _:=om;clear om;unfold maxLen at him;go_wp2_with fail;rw[<-hW2];clear hW2 y0 y1
     go_region_held3 (fun w'=>w'.cell? ⟨mb,5,none⟩=some (.map (some S))/\w'.cell? ⟨wz.heap.size,0,none⟩=some (.string nm)/\w'.cell? ⟨wy.heap.size,0,none⟩=some (.slice ia its.length ic)/\w'.cell? ⟨wy.heap.size,1,none⟩=some (.string prec)) (first | go_keep | assumption) (first | (go_at_call 105;refine q1.mono ?_;rintro e w3 ⟨u3,rfl,hu3,hb3⟩;obtain⟨ua,uc,rfl,-⟩:=aI hu3;have jc:=hM2.below hb3;have hk3:=Kp.below hb3 hM2.lt;have S3:w3.cell? ⟨mb,5,none⟩=some (.map (some S))/\w3.cell? ⟨wz.heap.size,0,none⟩=some (.string nm)/\w3.cell? ⟨wy.heap.size,0,none⟩=some (.slice ia its.length ic)/\w3.cell? ⟨wy.heap.size,1,none⟩=some (.string prec):=⟨jc.cells.2.1,(eG mW hk3 TG).cell 0,(eG kA.drew hk3 dA).cell 0,(eG kA.drew hk3 dA).cell 1⟩;have aaX:=SMap.look (w:=w3) jc.sm nm;rw[hnb]at aaX;have q3:=yG jc b _ rr (dO hu3 (Nat.zero_le _)) (by have:=HRL.out;omega) (by omega)) | (go_at_call 104;refine q3.mono ?_;rintro e w4 ⟨rfl,E4,hE4,qF,hk4⟩;have S4:w4.cell? ⟨mb,5,none⟩=some (.map (some S))/\w4.cell? ⟨wz.heap.size,0,none⟩=some (.string nm)/\w4.cell? ⟨wy.heap.size,0,none⟩=some (.slice ia its.length ic)/\w4.cell? ⟨wy.heap.size,1,none⟩=some (.string prec):=⟨qF.cells.2.1,(eG (eG mW hk3 TG) hk4 TG).cell 0,(eG (eG kA.drew hk3 dA) hk4 dA).cell 0,(eG (eG kA.drew hk3 dA) hk4 dA).cell 1⟩))
     all_goals
      obtain⟨g45,g4R,g4A,g4p⟩:=S4;have k24:Kp E2 wy w4:=(Kp.below hb2 qZ.lt).trans (hk3.trans hk4 fun g h=>h) fun g hg=>.inl hg
      have kW4:Kp (More E wz W1) W1 w4:=hky.trans k24 hE2;have Rx:∀ g,More E wz W1 g->E4 g:=fun g hg=>hE4 g (.inl (hE2 g hg))
      have dA4:=hE4 _ dA;clear S3 aaX q3 q1 hlk s5 sR sA0 sA1 hu3 jc hM2 hk3 hk4 hb3
      by_cases hpn:prec=aM
      ·have HA2:Hid (jF T N b (aH 9 al) (its,prec,pa)=aS T.length b rr):=by rw[Iq.out,if_pos hpn];rfl
       have hpe:prec=⟨#[]⟩:=hpn;clear hpn hpr Iq;subst hpe;go_wp2_with fail;go_roundg (al.length - (q+1))
       case measure=>omega
       case rel=>exact⟨q+1,E4,by omega,by go_num,Rx,by rw[bH.out,HA2.out,<-List.append_assoc,pG.out];exact qF,kW4⟩
      ·have HA2:Hid (jF T N b (aH 9 al) (its,prec,pa)=⟨b,rr,(Lx.fix T prec:Int)⟩):=by show _=_;rw[Iq.out,if_neg hpn]
       have hpb:(prec.toList == [])=false:=lU hpn;have hfp:=hpr hpn;obtain⟨g,cg,sg2,ngD,ngm,⟨o,sgo⟩,fz,hset⟩:=qF.ajj;have hlp:=SMap.look (w:=w4.drew) (qF.sm.move rfl) prec;rw[hfp]at hlp;have Ay:=hset (Lx.fix T prec:Int);generalize (Lx.fix T prec:Int)=pv at hlp Ay HA2;have ng2:g≠wy.heap.size:=fun e=>ngD (e ▸ dA4)
       have t2:w4.drew.cell? ⟨mb,2,none⟩=some (.slice (some ⟨g,0,none⟩) (PQ.length+1) cg):=sg2;have t5:w4.drew.cell? ⟨mb,5,none⟩=some (.map (some S)):=g45;have tp:w4.drew.cell? ⟨wy.heap.size,1,none⟩=some (.string prec):=g4p;have tg:w4.drew.cell? ⟨g,PQ.length*3+2,none⟩=some (.int .i64 o):=sgo;have tz:∀ i,w4.drew.frozen? ⟨g,i,none⟩=false:=fz;obtain⟨w5,oP⟩:∃ w5,w5=(w4.setCell ⟨g,PQ.length*3+2,none⟩ (.int .i64 pv)).drew:=⟨_,rfl⟩;have iB:Mp E4 G w5 mb S H ta T.length tc vN vB vK fS fH (PQ++[⟨b,rr,pv⟩]):=by rw[oP];exact Ay.1.below ((Below.refl _ _).drew)
       have kW5:Kp (More E wz W1) W1 w5:=kW4.trans (by rw[oP];exact⟨Ay.2.os,Ay.2.tape,Ay.2.output,Ay.2.size,Ay.2.block⟩) Rx;have i1:(0:Int)<=(PQ.length:Int):=by omega
       have i2:(PQ.length:Int)<(PQ.length:Int)+1:=by omega
       have i3:IntKind.i64.wrap (PQ.length:Int)=(PQ.length:Int):=wrap64 (by omega);have i4:IntKind.i64.wrap ((PQ.length:Int)+1)=(PQ.length:Int)+1:=by have:=wrap64 (n:=PQ.length+1) (by omega);simpa using this
       have i5:IntKind.i64.wrap ((PQ.length:Int)+1-1)=(PQ.length:Int):=by rw[Int.add_sub_cancel];exact i3
       clear hset Ay hpr hpn Iq hfp;go_wp2_with fail
       go_region_held3 (fun w'=>w'.cell? ⟨mb,2,none⟩=some (.slice (some ⟨g,0,none⟩) (PQ.length+1) cg)/\w'.cell? ⟨mb,5,none⟩=some (.map (some S))/\w'.cell? ⟨wy.heap.size,1,none⟩=some (.string prec)) (go_keep) (fail)
       all_goals
        rw[<-oP];clear oP hlp t2 t5 tp tg tz sg2 sgo fz;go_wp2_with fail;go_roundg (al.length - (q+1))
        case measure=>omega
        case rel=>exact⟨q+1,E4,by omega,by go_num,Rx,by rw[bH.out,HA2.out,<-List.append_assoc,pG.out];exact iB,kW5⟩
    ·have:q=al.length:=by omega
     subst this;rw[List.take_length]at qZ;have zi:∀ (fn:Fn) (first cap:Array Value) (w:World),(Instr.makeFunc fn first cap).run prog w=.ok (.func fn first cap) w:=fun _ _ _ _=>rfl
     have JA:ay YP 9 F wy (.slice sa al.length sc) al:=ay.move (fun b hb=>Fv.block b (hF b hb)) (fun _ h=>h) hA;have eA:aT 9 wy (.slice sa al.length sc) al=aT 9 w (.slice sa al.length sc) al:=GY hA fun b hb=>Fv.block b (hF b hb)
     have eH:hlA wy (.slice sa al.length sc) al=hlA w (.slice sa al.length sc) al:=by unfold hlA;rw[eA]
     have aaY:(((⟨T.length,[T.length+1],-1⟩:Lx.Pd)::PJ)++al.map (jF T N b (aH 9 al))).length<=400000000000:=by
      have h9:al.length<=10000:=hq.len;simp only[List.length_append,List.length_cons,List.length_map];have h5:j*10000000<=10000*10000000:=Nat.mul_le_mul_right _ (by omega);omega
     have q5:=aeV (T:=T) (N:=N) (b:=b) qZ (fun b hb=>hE2 b (.inl (hE b (hF b hb)))) JA (fun p hp=>((hq.its p (by rw[<-eA];exact hp)).2).move (fun b hb=>Fv.block b (hF b hb)) (hq.its p (by rw[<-eA];exact hp)).1) (fun k p hp=>hq.hel k p (by rw[<-eH];exact hp)) (by rw[eH];exact hq.hl) aaY;have y1:wy.cell? ⟨wz.heap.size,1,none⟩=some (.slice sa al.length sc):=DL.cell 1;have hpr:=hq.pl;have HRP:Hid (ny T N b ⟨nm,al,rp⟩=al.map (jF T N b (aH 9 al))++jZ T N b (aH 9 al) 0 (aH 9 al)):=rfl;clear JA eA eH aaY hq hA;go_wp2_with fail;refine q5.mono ?_;rintro e w6 ⟨rfl,E6,hE6,mI,zH⟩;clear q5 zi y1;have aaZ:Mp E6 G w6 mb S H ta T.length tc vN vB vK fS fH (⟨T.length,[T.length+1],-1⟩::gQ T N (T.length+1) (rs.take (j+1))):=by
      rw[Jz.out,HRP.out];simpa [List.append_assoc]using mI
     have akz:Kp D w w6:=Fv.trans zH fun g hg=>hE2 g (.inl (hE g hg))
     have akA:(gQ T N (T.length+1) (rs.take (j+1))).length<=(j+1)*10000000:=by
      rw[Jz.out,List.length_append,Nat.succ_mul];omega
     have HF6:Hid _:=aaZ;clear mI aaZ qZ hM1 FQ;go_wp2_with fail;go_roundg (rs.length - (j+1))
     case measure=>omega
     case rel=>exact⟨j+1,E6,by omega,by go_num,fun g hg=>hE6 g (hE2 g (.inl (hE g hg))),HF6.out,akz,akA⟩
  ·have:j=rs.length:=by omega
   subst this;rw[List.take_length]at FQ;go_wp2_with fail
   go_end0
   exact⟨rfl,E,hE,FQ,hkz⟩
end Go.Proofs.YtlcppnabbicmoaaGreatDoor

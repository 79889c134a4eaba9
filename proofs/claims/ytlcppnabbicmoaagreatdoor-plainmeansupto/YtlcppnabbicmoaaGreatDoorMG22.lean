import Derived.Test.YtlcppnabbicmoaaGreatDoorMG21
import Derived.Shelf.Strconv.Itoa0
import Derived.Shelf.Strconv.Itoa1
import Derived.Shelf.Strconv.Itoa2
import Derived.Shelf.Strconv.Itoa3
import Derived.Shelf.Slices.Clone
import Derived.Test.YtlcppnabbicmoaaGreatDoorProg
import Derived.Lib.AppendIntMem
set_option maxHeartbeats 8000000
set_option maxRecDepth 1000000
namespace Go.Proofs.YtlcppnabbicmoaaGreatDoor
open Lx Go.Proofs.Tryz
open Go.RowKit
open Tr
theorem aif (T:List ByteArray)(r:List Nat):ET T ⟨#[]⟩ r=j5 T.length r:=if_pos rfl
theorem xB {D F:Nat->Prop} {w:World} {mb:Nat} {T N:List ByteArray} {b:Nat} {H:List Lx.It} {P:List Lx.Pd} (h:fZ D F w mb T N b H P) (left:Nat) (vR:Value) (r:List Nat) (hr:IR 0 w vR r) (iw:∀ g,vR.ownBlock=some g->D g/\mb<g) (hP:P.length<=1000000000000) :
  Calls prog 67 #[.pointer (some ⟨mb,0,none⟩),.int .i64 (left:Int),vR,.string ⟨#[]⟩] w fun e w'=>e=.returned (.tuple #[])/\fZ D F w' mb T N b H (P++[aS T.length left r])/\Kp D w w':=by
 have h1:=Zl h left vR r hr iw ⟨#[]⟩ (fun e=>absurd rfl e) hP;rw[aif]at h1;exact h1
theorem fZ.lm {D F:Nat->Prop}{w:World}{mb:Nat}{T N:List ByteArray}{b:Nat}{H:List Lx.It}{P:List Lx.Pd}(h:fZ D F w mb T N b H P):mb<w.heap.size:=by
 obtain⟨vT,vN,vP,vH,vL,h1,-⟩:=h.ex;exact h1.lt
theorem agj {D F:Nat->Prop} {w:World} {mb:Nat} {T N:List ByteArray} {b:Nat} {H:List Lx.It} {P:List Lx.Pd} (h:fZ D F w mb T N b H P) (it:Lx.It) (va:Value) (ha:ay YR 9 F w va it.alts) (hp:it.kind≠2->qi T N it) (hs:it.kind=2->∀ a,a∈it.alts->a.1.length<=10000/\∀ x,x∈a.1->qM T N H x) (hl:it.alts.length<=10000) (s:Nat) (hP:P.length+2*(Lx.partsOf T N b H it).length+1<=1000000000000) (hrl:∀ r,r∈Lx.partsOf T N b H it->r.length<=10000) :
  Calls prog 69 #[.pointer (some ⟨mb,0,none⟩),Dm va it,.int .i64 (s:Int)] w fun e w'=>e=.returned (.tuple #[])/\∃ D',fZ D' F w' mb T N b H (P++iH T.length s it.mark (Lx.partsOf T N b H it))/\(∀ g,D g->D' g)/\Kp D w w':=by
 obtain⟨i0,hii,hz0,hz1,hz2⟩:=info_parts Tryz.info3;obtain⟨sa,sc,hva,-⟩:=ay.len ha;subst hva;have jL:=h.lm;unfold Dm;generalize hps:Lx.partsOf T N b H it=ps at hP hrl |-;go_enter func69,ntmps69;obtain⟨W,hW⟩:∃ W,W=w.alloc (.cells #[.int .i64 (it.kind:Int),.string it.name,.int .u8 (it.mark:Int),.slice sa it.alts.length sc,.int .i64 (it.place:Int)] 148):=⟨_,rfl⟩;have hB:Below w.heap.size w W:=by rw[hW];exact (Below.refl _ _).alloc (lr0) _
 have hWs:W.heap.size=w.heap.size+1:=by rw[hW];simp
 have kx:aj W w.heap.size #[.int .i64 (it.kind:Int),.string it.name,.int .u8 (it.mark:Int),.slice sa it.alts.length sc,.int .i64 (it.place:Int)] 148:=by rw[hW];exact aj.new w _ 148
 go_wp2_with fail;rw[<-hW];clear hW;have haW:ay YR 9 F W (.slice sa it.alts.length sc) it.alts:=ay.move (fun g hg=>hB.block g (h.lt g (h.fd g hg))) (fun _ h=>h) ha;refine (ahh (h.rd.below hB) it _ haW hp hs hl).mono ?_;rintro e w2 ⟨u,rfl,hu,hb2⟩;rw[hps]at hu;clear hps;have hbw2:Below w.heap.size w w2:=hB.trans (hb2.mono (by omega));have hM2:=h.more hbw2;have hs2:=hb2.size;have iW:aj w2 w.heap.size _ 148:=(hb2.block _ (by omega)).trans kx;have wH:More D w w2 w.heap.size:=.inr ⟨lr0,by omega⟩;obtain⟨D2,hD2⟩:∃ D2,D2=More D w w2:=⟨_,rfl⟩;rw[<-hD2]at hM2 wH;have xR:∀ g,D g->D2 g:=fun g hg=>by rw[hD2];exact .inl hg
 have hDn:∀ g,W.heap.size<=g->g<w2.heap.size->D2 g:=fun g h1 h2=>by rw[hD2];exact .inr ⟨by omega,h2⟩
 have hK2:Kp D w w2:=Kp.below hbw2 h.lt;clear hD2;obtain⟨la,lc,hvu,hlm⟩:=hu.len;subst hvu;unfold maxLen at hlm
 by_cases qE:it.mark=42
 ·have hmk:=qE
  clear qE;have Rm:((it.mark:Int) == 42)=true:=by simp[hmk]
  have Rn:((it.mark:Int) != 42)=false:=by simp[hmk]
  have Ro:((it.mark:Int) == 63)=false:=bq0 (by omega);have hn63:((it.mark:Int) != 63)=true:=bne_iff_ne.2 (by omega);have aaN:¬ (it.mark:Int)=63:=by omega
  have Rp:((it.mark:Int) == 43)=false:=bq0 (by omega);have hn43:((it.mark:Int) != 43)=true:=bne_iff_ne.2 (by omega);have aaO:¬ (it.mark:Int)=43:=by omega
  have HH:Hid (iH T.length s it.mark ps=[aS T.length s []]++([]++ps.map fun r=>aS T.length s (s::r))):=by simp[Hid,iH,hmk]
  have wI:Hid (it.mark=42):=hmk;clear hmk;have Dz:w2.cell? ⟨w.heap.size,2,none⟩=some (.int .u8 (it.mark:Int)):=iW.cell 2;go_wp2_with fail;refine (xB hM2 s (.slice none 0 0) [] (World.ownsRow_nil _ _ _ _) (fun g hg=>by simp[Value.ownBlock]at hg) (by omega)).mono ?_;rintro e w3 ⟨rfl,jc,hK3⟩;obtain⟨P3,hP3⟩:∃ P3,P3=P++[aS T.length s []]:=⟨_,rfl⟩;have Rq:P3.length+2*ps.length<=1000000000000:=by rw[hP3,List.length_append,List.length_singleton];omega
  have uV:Hid (P3=P++[aS T.length s []]):=hP3;rw[<-hP3]at jc;clear hP3 Dz;go_wp2_with fail
  by_cases hpos:0<ps.length
  ·skip
   go_loopg [7] 0 (fun k i wr=>k=0/\i=.int .i64 0/\wr=w3)
   case atStart=>exact⟨rfl,rfl,rfl⟩
   case round =>
    obtain⟨rfl,rfl,hwr⟩:=hrel;have aQ:fZ D2 F wr mb T N b H P3:=hwr ▸ jc;have hKr:Kp D2 w2 wr:=hwr ▸ hK3;clear hwr jc hK3;have iq:∀ g,D2 g->wr.heap[g]?=w2.heap[g]?:=hKr.block;have iy:aj wr w.heap.size _ 148:=(iq _ wH).trans iW;have x2:wr.cell? ⟨w.heap.size,2,none⟩=some (.int .u8 (it.mark:Int)):=iy.cell 2;have jO:=aQ.lm;obtain⟨P4,iA⟩:∃ P4,P4=P3++[]:=⟨_,rfl⟩;have Mw:P4.length+ps.length<=1000000000000:=by rw[iA,List.append_nil];omega
    have zD:Hid (P4=P3++[]):=iA;rw[List.append_nil]at iA;rw[<-iA]at aQ;clear iA;go_wp2_with fail
    all_goals
     clear x2 iy jO iq;obtain⟨w4,hw4⟩:∃ w4,w4=wr:=⟨_,rfl⟩;rw[<-hw4]at aQ hKr |-;clear hw4;have qF:=aQ;have hK4:=hKr;clear aQ hKr
     go_loopg [8] ps.length (fun k i wr=>∃ (m:Nat) (D3:Nat->Prop),m+k=ps.length/\i=.int .i64 m/\fZ D3 F wr mb T N b H (P4++(ps.take m).map (fun r=>aS T.length s (s::r)))/\(∀ g,D2 g->D3 g)/\Kp D2 w2 wr)
     case atStart=>exact⟨0,D2,by omega,rfl,by simpa using qF,fun _ h=>h,hK4⟩
     case round =>
      clear qF hK4;obtain⟨m,D3,hkm,rfl,aQ,hD3,hKr⟩:=hrel;have iq:∀ g,D2 g->wr.heap[g]?=w2.heap[g]?:=hKr.block;have iy:aj wr w.heap.size _ 148:=(iq _ wH).trans iW;have x2:wr.cell? ⟨w.heap.size,2,none⟩=some (.int .u8 (it.mark:Int)):=iy.cell 2;have jO:=aQ.lm
      by_cases hlt:m<ps.length
      ·have htk:(ps.take (m+1)).map (fun r=>aS T.length s (s::r))=(ps.take m).map (fun r=>aS T.length s (s::r))++[aS T.length s (s::ps[m])]:=by rw[List.take_succ_eq_append_getElem hlt,List.map_append];rfl
       have bH:Hid _:=htk;clear htk;obtain⟨gl,cl,ur,hv,yR,rQ,hcl,hur⟩:=hu.at hlt;cases hv;have Mx:wr.cell? ⟨gl,m,none⟩=some ur:=(World.cell?_of_block (w:=w2) (iq gl (hDn gl yR rQ))).trans hcl;have MB:gl<wr.heap.size:=Nat.lt_of_lt_of_le rQ hKr.size;have uM:∀ g,ur.ownBlock=some g->D2 g:=fun g hg=>hDn g (hur.lt g hg).1 (hur.lt g hg).2
       have CR:∀ g,ur.ownBlock=some g->mb<g:=fun g hg=>by have:=(hur.lt g hg).1;omega
       have mV:IR 0 wr ur ps[m]:=dO (aD hur fun g hg=>iq g (uM g hg)) (Nat.zero_le _);have yS:=hrl ps[m] (List.getElem_mem hlt);clear hur;generalize ps[m]=pm at mV yS bH;obtain⟨ra,rc,qX,-⟩:=aI mV;subst qX;have Jq:=aQ.lt;have sZ:(wr.alloc (.cells #[.int .i64 (s:Int)] 3)).ownsRow wr.heap.size 3 1 (.slice (some ⟨wr.heap.size,0,none⟩) 1 1) 1 [.int .i64 (s:Int)]:=⟨rfl,.inr ⟨wr.heap.size,1,_,rfl,lr0,aj.new wr _ 3,lr0,by decide,rfl,rfl⟩⟩;have hb0:Below wr.heap.size wr (wr.alloc (.cells #[.int .i64 (s:Int)] 3)):=(Below.refl _ _).alloc (lr0) _;have l8:(P4++(ps.take m).map (fun r=>aS T.length s (s::r))).length<=1000000000000:=by rw[List.length_append,List.length_map,List.length_take];omega
       obtain⟨P5,wJ⟩:∃ P5,P5=P4++(ps.take m).map (fun r=>aS T.length s (s::r)):=⟨_,rfl⟩;rw[<-wJ]at aQ l8;have Jr:Hid _:=wJ;clear wJ;rcases mV.2 with ⟨Bj,hzero⟩ | ⟨g4,cap4,Mq,Bj,hg4,Mr,hc4,AJ,-,-⟩
       ·obtain rfl:pm=[]:=List.eq_nil_of_length_eq_zero hzero
        cases Bj
        go_wp2_with (at_builtin;go_loud (refine wpList_append_own_none rfl _ _ 24 rfl wr.heap.size 3 i0 1 underlying24 hii (.slice (some ⟨wr.heap.size,0,none⟩) 1 1) _ _ rfl sZ rfl ?_))
        have iB:=aQ.more hb0;have nG:IR 0 (wr.alloc (.cells #[.int .i64 (s:Int)] 3)) (.slice (some ⟨wr.heap.size,0,none⟩) 1 1) (s::[]):=dO sZ (Nat.zero_le _);refine (xB iB s _ (s::[]) nG (fun g hg=>⟨.inr (sZ.lt g hg),Nat.lt_of_lt_of_le jO (sZ.lt g hg).1⟩) l8).mono ?_;rintro e w6 ⟨rfl,mI,pU⟩;have wK:Kp D2 w2 w6:=(hKr.trans (Kp.below hb0 Jq) hD3).trans pU (fun g hg=>.inl (hD3 g hg));have oO:=mI;rw[Jr.out,List.append_assoc,<-bH.out]at oO;go_wp2_with fail;go_roundg (ps.length - (m+1))
        case measure=>omega
        case rel=>exact⟨m+1,_,by omega,by go_num,oO,fun g hg=>.inl (hD3 g hg),wK⟩
       ·cases Bj
        unfold maxLen at AJ;have Rs:∀ j u,(gV pm)[j]?=some u->(wr.alloc (.cells #[.int .i64 (s:Int)] 3)).cell? ((⟨g4,0,none⟩:Addr).add j)=some u:=(World.ownsRow.alloc mV _).cells rfl
        go_wp2_with (at_builtin;go_loud (refine wpList_append_own_at _ rfl _ _ 24 rfl wr.heap.size 3 i0 _ 1 8 underlying24 hii hz0 hz1 hz2 rfl (by decide) (.slice (some ⟨wr.heap.size,0,none⟩) 1 1) _ _ rfl sZ ⟨g4,0,none⟩ pm.length rc (gV pm) rfl (by rw[xg,Nat.mul_one]) Rs (KU _) (by unfold maxLen;omega) (by omega) (by simp) ?_;intro v5 w5 hown5 bf _ _;obtain⟨dL,dM,hv5,-⟩:=aI hown5;subst hv5))
        have hb5:Below wr.heap.size wr w5:=hb0.grown bf (by simp) (fun k hk=>(sZ.lt k hk).1);have iB:=aQ.more hb5;have nG:IR 0 w5 (.slice dL (1+pm.length) dM) (s::pm):=by
         have h9:=dO hown5 (Nat.zero_le _);unfold IR;rw[show (s::pm).length=1+pm.length by rw[List.length_cons];omega];exact h9
        refine (xB iB s _ (s::pm) nG (fun g hg=>⟨.inr (hown5.lt g hg),Nat.lt_of_lt_of_le jO (hown5.lt g hg).1⟩) l8).mono ?_;rintro e w6 ⟨rfl,mI,pU⟩;have wK:Kp D2 w2 w6:=(hKr.trans (Kp.below hb5 Jq) hD3).trans pU (fun g hg=>.inl (hD3 g hg));have oO:=mI;rw[Jr.out,List.append_assoc,<-bH.out]at oO;go_wp2_with fail;go_roundg (ps.length - (m+1))
        case measure=>omega
        case rel=>exact⟨m+1,_,by omega,by go_num,oO,fun g hg=>.inl (hD3 g hg),wK⟩
      ·have:m=ps.length:=by omega
       subst this;rw[List.take_length]at aQ;go_wp2_with fail
       go_end0
       refine⟨rfl,D3,?_,fun g hg=>hD3 g (xR g hg),hK2.trans hKr xR⟩;have e9:=zD.out;rw[e9,uV.out]at aQ;rw[HH.out];simpa [List.append_assoc]using aQ
  ·have aaP:ps=[]:=List.eq_nil_of_length_eq_zero (by omega)
   have HH2:Hid (iH T.length s it.mark ps=[aS T.length s []]++([]++[])):=by have:=HH.out;rw[aaP]at this |-;exact this
   clear HH aaP;have HH:=HH2
   go_loopg [7] 0 (fun k i wr=>k=0/\i=.int .i64 0/\wr=w3)
   case atStart=>exact⟨rfl,rfl,rfl⟩
   case round =>
    obtain⟨rfl,rfl,hwr⟩:=hrel;have aQ:fZ D2 F wr mb T N b H P3:=hwr ▸ jc;have hKr:Kp D2 w2 wr:=hwr ▸ hK3;clear hwr jc hK3;have iq:∀ g,D2 g->wr.heap[g]?=w2.heap[g]?:=hKr.block;have iy:aj wr w.heap.size _ 148:=(iq _ wH).trans iW;have x2:wr.cell? ⟨w.heap.size,2,none⟩=some (.int .u8 (it.mark:Int)):=iy.cell 2;have jO:=aQ.lm;obtain⟨P4,iA⟩:∃ P4,P4=P3++[]:=⟨_,rfl⟩;have Mw:P4.length+ps.length<=1000000000000:=by rw[iA,List.append_nil];omega
    have zD:Hid (P4=P3++[]):=iA;rw[List.append_nil]at iA;rw[<-iA]at aQ;clear iA;go_wp2_with fail
    all_goals
     clear x2 iy jO iq;obtain⟨w4,hw4⟩:∃ w4,w4=wr:=⟨_,rfl⟩;rw[<-hw4]at aQ hKr |-;clear hw4
     go_loopg [8] 0 (fun k i wr=>k=0/\i=.int .i64 0/\wr=w4)
     case atStart=>exact⟨rfl,rfl,rfl⟩
     case round =>
      obtain⟨rfl,rfl,hwr⟩:=hrel;rw[<-hwr]at aQ hKr;clear hwr;have iq:∀ g,D2 g->wr.heap[g]?=w2.heap[g]?:=hKr.block;have iy:aj wr w.heap.size _ 148:=(iq _ wH).trans iW;have x2:wr.cell? ⟨w.heap.size,2,none⟩=some (.int .u8 (it.mark:Int)):=iy.cell 2;have jO:=aQ.lm;go_wp2_with fail
      all_goals
       go_end0
       refine⟨rfl,D2,?_,xR,hK2.trans hKr xR⟩;have e9:=zD.out;rw[e9,uV.out]at aQ;rw[HH.out];simpa [List.append_assoc]using aQ
 ·by_cases h63:it.mark=63
  ·have hmk:=h63
   clear h63;have Rm:((it.mark:Int) == 42)=false:=bq0 (by omega);have Rn:((it.mark:Int) != 42)=true:=bne_iff_ne.2 (by omega);have aaQ:¬ (it.mark:Int)=42:=by omega
   have Ro:((it.mark:Int) == 63)=true:=by simp[hmk]
   have hn63:((it.mark:Int) != 63)=false:=by simp[hmk]
   have Rp:((it.mark:Int) == 43)=false:=bq0 (by omega);have hn43:((it.mark:Int) != 43)=true:=bne_iff_ne.2 (by omega);have aaO:¬ (it.mark:Int)=43:=by omega
   have HH:Hid (iH T.length s it.mark ps=[aS T.length s []]++(ps.map (aS T.length s)++[])):=by simp[Hid,iH,hmk]
   have wI:Hid (it.mark=63):=hmk;clear hmk;clear qE;have Dz:w2.cell? ⟨w.heap.size,2,none⟩=some (.int .u8 (it.mark:Int)):=iW.cell 2;go_wp2_with fail;refine (xB hM2 s (.slice none 0 0) [] (World.ownsRow_nil _ _ _ _) (fun g hg=>by simp[Value.ownBlock]at hg) (by omega)).mono ?_;rintro e w3 ⟨rfl,jc,hK3⟩;obtain⟨P3,hP3⟩:∃ P3,P3=P++[aS T.length s []]:=⟨_,rfl⟩;have Rq:P3.length+2*ps.length<=1000000000000:=by rw[hP3,List.length_append,List.length_singleton];omega
   have uV:Hid (P3=P++[aS T.length s []]):=hP3;rw[<-hP3]at jc;clear hP3 Dz;go_wp2_with fail
   go_loopg [7] ps.length (fun k i wr=>∃ m:Nat,m+k=ps.length/\i=.int .i64 m/\fZ D2 F wr mb T N b H (P3++(ps.take m).map (aS T.length s))/\Kp D2 w2 wr)
   case atStart=>exact⟨0,by omega,rfl,by simpa using jc,hK3⟩
   case round =>
    clear jc hK3;obtain⟨m,hkm,rfl,aQ,hKr⟩:=hrel;have iq:∀ g,D2 g->wr.heap[g]?=w2.heap[g]?:=hKr.block;have iy:aj wr w.heap.size _ 148:=(iq _ wH).trans iW;have x2:wr.cell? ⟨w.heap.size,2,none⟩=some (.int .u8 (it.mark:Int)):=iy.cell 2;have jO:=aQ.lm
    by_cases hlt:m<ps.length
    ·have htk:(ps.take (m+1)).map (aS T.length s)=(ps.take m).map (aS T.length s)++[aS T.length s ps[m]]:=by rw[List.take_succ_eq_append_getElem hlt,List.map_append];rfl
     have bH:Hid _:=htk;clear htk;obtain⟨gl,cl,ur,hv,yR,rQ,hcl,hur⟩:=hu.at hlt;cases hv;have Mx:wr.cell? ⟨gl,m,none⟩=some ur:=(World.cell?_of_block (w:=w2) (iq gl (hDn gl yR rQ))).trans hcl;have MB:gl<wr.heap.size:=Nat.lt_of_lt_of_le rQ hKr.size;have uM:∀ g,ur.ownBlock=some g->D2 g:=fun g hg=>hDn g (hur.lt g hg).1 (hur.lt g hg).2
     have CR:∀ g,ur.ownBlock=some g->mb<g:=fun g hg=>by have:=(hur.lt g hg).1;omega
     have mV:IR 0 wr ur ps[m]:=dO (aD hur fun g hg=>iq g (uM g hg)) (Nat.zero_le _);have yS:=hrl ps[m] (List.getElem_mem hlt);clear hur;generalize ps[m]=pm at mV yS bH;obtain⟨ra,rc,qX,-⟩:=aI mV;subst qX;go_wp2_with fail;refine (xB aQ s _ pm mV (fun g hg=>⟨uM g hg,CR g hg⟩) (by rw[List.length_append,List.length_map,List.length_take];omega)).mono ?_;rintro e w5 ⟨rfl,iB,Js⟩;have pU:=hKr.trans Js (fun _ h=>h);have mI:fZ D2 F w5 mb T N b H (P3++(ps.take (m+1)).map (aS T.length s)):=by rw[bH.out,<-List.append_assoc];exact iB
     go_wp2_with fail;go_roundg (ps.length - (m+1))
     case measure=>omega
     case rel=>exact⟨m+1,by omega,by go_num,mI,pU⟩
    ·have:m=ps.length:=by omega
     subst this;rw[List.take_length]at aQ;obtain⟨P4,iA⟩:∃ P4,P4=P3++ps.map (aS T.length s):=⟨_,rfl⟩;have Mw:P4.length+ps.length<=1000000000000:=by rw[iA,List.length_append,List.length_map];omega
     have zD:Hid (P4=P3++ps.map (aS T.length s)):=iA;rw[<-iA]at aQ;clear iA;go_wp2_with fail;clear x2 iy jO iq;obtain⟨w4,hw4⟩:∃ w4,w4=wr:=⟨_,rfl⟩;rw[<-hw4]at aQ hKr |-;clear hw4
     go_loopg [8] 0 (fun k i wr=>k=0/\i=.int .i64 0/\wr=w4)
     case atStart=>exact⟨rfl,rfl,rfl⟩
     case round =>
      obtain⟨rfl,rfl,hwr⟩:=hrel;rw[<-hwr]at aQ hKr;clear hwr;have iq:∀ g,D2 g->wr.heap[g]?=w2.heap[g]?:=hKr.block;have iy:aj wr w.heap.size _ 148:=(iq _ wH).trans iW;have x2:wr.cell? ⟨w.heap.size,2,none⟩=some (.int .u8 (it.mark:Int)):=iy.cell 2;have jO:=aQ.lm;go_wp2_with fail
      all_goals
       go_end0
       refine⟨rfl,D2,?_,xR,hK2.trans hKr xR⟩;have e9:=zD.out;rw[e9,uV.out]at aQ;rw[HH.out];simpa [List.append_assoc]using aQ
  ·by_cases h43:it.mark=43
   ·have hmk:=h43
    clear h43;have Rm:((it.mark:Int) == 42)=false:=bq0 (by omega);have Rn:((it.mark:Int) != 42)=true:=bne_iff_ne.2 (by omega);have aaQ:¬ (it.mark:Int)=42:=by omega
    have Ro:((it.mark:Int) == 63)=false:=bq0 (by omega);have hn63:((it.mark:Int) != 63)=true:=bne_iff_ne.2 (by omega);have aaN:¬ (it.mark:Int)=63:=by omega
    have Rp:((it.mark:Int) == 43)=true:=by simp[hmk]
    have hn43:((it.mark:Int) != 43)=false:=by simp[hmk]
    have HH:Hid (iH T.length s it.mark ps=[]++(ps.map (aS T.length s)++ps.map fun r=>aS T.length s (s::r))):=by simp[Hid,iH,hmk]
    have wI:Hid (it.mark=43):=hmk;clear hmk;clear qE h63;have Dz:w2.cell? ⟨w.heap.size,2,none⟩=some (.int .u8 (it.mark:Int)):=iW.cell 2;go_wp2_with fail;obtain⟨w3,hw3⟩:∃ w3,w3=w2:=⟨_,rfl⟩;rw[<-hw3];obtain⟨P3,hP3⟩:∃ P3,P3=P++[]:=⟨_,rfl⟩;have Rq:P3.length+2*ps.length<=1000000000000:=by rw[hP3,List.append_nil];omega
    have uV:Hid (P3=P++[]):=hP3;have jc:fZ D2 F w3 mb T N b H P3:=by rw[hP3,List.append_nil,hw3];exact hM2
    have hK3:Kp D2 w2 w3:=by rw[hw3];exact Kp.refl _ _
    clear hP3 Dz hw3
    go_loopg [7] ps.length (fun k i wr=>∃ m:Nat,m+k=ps.length/\i=.int .i64 m/\fZ D2 F wr mb T N b H (P3++(ps.take m).map (aS T.length s))/\Kp D2 w2 wr)
    case atStart=>exact⟨0,by omega,rfl,by simpa using jc,hK3⟩
    case round =>
     clear jc hK3;obtain⟨m,hkm,rfl,aQ,hKr⟩:=hrel;have iq:∀ g,D2 g->wr.heap[g]?=w2.heap[g]?:=hKr.block;have iy:aj wr w.heap.size _ 148:=(iq _ wH).trans iW;have x2:wr.cell? ⟨w.heap.size,2,none⟩=some (.int .u8 (it.mark:Int)):=iy.cell 2;have jO:=aQ.lm
     by_cases hlt:m<ps.length
     ·have htk:(ps.take (m+1)).map (aS T.length s)=(ps.take m).map (aS T.length s)++[aS T.length s ps[m]]:=by rw[List.take_succ_eq_append_getElem hlt,List.map_append];rfl
      have bH:Hid _:=htk;clear htk;obtain⟨gl,cl,ur,hv,yR,rQ,hcl,hur⟩:=hu.at hlt;cases hv;have Mx:wr.cell? ⟨gl,m,none⟩=some ur:=(World.cell?_of_block (w:=w2) (iq gl (hDn gl yR rQ))).trans hcl;have MB:gl<wr.heap.size:=Nat.lt_of_lt_of_le rQ hKr.size;have uM:∀ g,ur.ownBlock=some g->D2 g:=fun g hg=>hDn g (hur.lt g hg).1 (hur.lt g hg).2
      have CR:∀ g,ur.ownBlock=some g->mb<g:=fun g hg=>by have:=(hur.lt g hg).1;omega
      have mV:IR 0 wr ur ps[m]:=dO (aD hur fun g hg=>iq g (uM g hg)) (Nat.zero_le _);have yS:=hrl ps[m] (List.getElem_mem hlt);clear hur;generalize ps[m]=pm at mV yS bH;obtain⟨ra,rc,qX,-⟩:=aI mV;subst qX;go_wp2_with fail;refine (xB aQ s _ pm mV (fun g hg=>⟨uM g hg,CR g hg⟩) (by rw[List.length_append,List.length_map,List.length_take];omega)).mono ?_;rintro e w5 ⟨rfl,iB,Js⟩;have pU:=hKr.trans Js (fun _ h=>h);have mI:fZ D2 F w5 mb T N b H (P3++(ps.take (m+1)).map (aS T.length s)):=by rw[bH.out,<-List.append_assoc];exact iB
      go_wp2_with fail;go_roundg (ps.length - (m+1))
      case measure=>omega
      case rel=>exact⟨m+1,by omega,by go_num,mI,pU⟩
     ·have:m=ps.length:=by omega
      subst this;rw[List.take_length]at aQ;obtain⟨P4,iA⟩:∃ P4,P4=P3++ps.map (aS T.length s):=⟨_,rfl⟩;have Mw:P4.length+ps.length<=1000000000000:=by rw[iA,List.length_append,List.length_map];omega
      have zD:Hid (P4=P3++ps.map (aS T.length s)):=iA;rw[<-iA]at aQ;clear iA;go_wp2_with fail;clear x2 iy jO iq;obtain⟨w4,hw4⟩:∃ w4,w4=wr:=⟨_,rfl⟩;rw[<-hw4]at aQ hKr |-;clear hw4;have qF:=aQ;have hK4:=hKr;clear aQ hKr
      go_loopg [8] ps.length (fun k i wr=>∃ (m:Nat) (D3:Nat->Prop),m+k=ps.length/\i=.int .i64 m/\fZ D3 F wr mb T N b H (P4++(ps.take m).map (fun r=>aS T.length s (s::r)))/\(∀ g,D2 g->D3 g)/\Kp D2 w2 wr)
      case atStart=>exact⟨0,D2,by omega,rfl,by simpa using qF,fun _ h=>h,hK4⟩
      case round =>
       clear qF hK4;obtain⟨m,D3,hkm,rfl,aQ,hD3,hKr⟩:=hrel;have iq:∀ g,D2 g->wr.heap[g]?=w2.heap[g]?:=hKr.block;have iy:aj wr w.heap.size _ 148:=(iq _ wH).trans iW;have x2:wr.cell? ⟨w.heap.size,2,none⟩=some (.int .u8 (it.mark:Int)):=iy.cell 2;have jO:=aQ.lm
       by_cases hlt:m<ps.length
       ·have htk:(ps.take (m+1)).map (fun r=>aS T.length s (s::r))=(ps.take m).map (fun r=>aS T.length s (s::r))++[aS T.length s (s::ps[m])]:=by rw[List.take_succ_eq_append_getElem hlt,List.map_append];rfl
        have bH:Hid _:=htk;clear htk;obtain⟨gl,cl,ur,hv,yR,rQ,hcl,hur⟩:=hu.at hlt;cases hv;have Mx:wr.cell? ⟨gl,m,none⟩=some ur:=(World.cell?_of_block (w:=w2) (iq gl (hDn gl yR rQ))).trans hcl;have MB:gl<wr.heap.size:=Nat.lt_of_lt_of_le rQ hKr.size;have uM:∀ g,ur.ownBlock=some g->D2 g:=fun g hg=>hDn g (hur.lt g hg).1 (hur.lt g hg).2
        have CR:∀ g,ur.ownBlock=some g->mb<g:=fun g hg=>by have:=(hur.lt g hg).1;omega
        have mV:IR 0 wr ur ps[m]:=dO (aD hur fun g hg=>iq g (uM g hg)) (Nat.zero_le _);have yS:=hrl ps[m] (List.getElem_mem hlt);clear hur;generalize ps[m]=pm at mV yS bH;obtain⟨ra,rc,qX,-⟩:=aI mV;subst qX;have Jq:=aQ.lt;have sZ:(wr.alloc (.cells #[.int .i64 (s:Int)] 3)).ownsRow wr.heap.size 3 1 (.slice (some ⟨wr.heap.size,0,none⟩) 1 1) 1 [.int .i64 (s:Int)]:=⟨rfl,.inr ⟨wr.heap.size,1,_,rfl,lr0,aj.new wr _ 3,lr0,by decide,rfl,rfl⟩⟩;have hb0:Below wr.heap.size wr (wr.alloc (.cells #[.int .i64 (s:Int)] 3)):=(Below.refl _ _).alloc (lr0) _;have l8:(P4++(ps.take m).map (fun r=>aS T.length s (s::r))).length<=1000000000000:=by rw[List.length_append,List.length_map,List.length_take];omega
        obtain⟨P5,wJ⟩:∃ P5,P5=P4++(ps.take m).map (fun r=>aS T.length s (s::r)):=⟨_,rfl⟩;rw[<-wJ]at aQ l8;have Jr:Hid _:=wJ;clear wJ;rcases mV.2 with ⟨Bj,hzero⟩ | ⟨g4,cap4,Mq,Bj,hg4,Mr,hc4,AJ,-,-⟩
        ·obtain rfl:pm=[]:=List.eq_nil_of_length_eq_zero hzero
         cases Bj
         go_wp2_with (at_builtin;go_loud (refine wpList_append_own_none rfl _ _ 24 rfl wr.heap.size 3 i0 1 underlying24 hii (.slice (some ⟨wr.heap.size,0,none⟩) 1 1) _ _ rfl sZ rfl ?_))
         have iB:=aQ.more hb0;have nG:IR 0 (wr.alloc (.cells #[.int .i64 (s:Int)] 3)) (.slice (some ⟨wr.heap.size,0,none⟩) 1 1) (s::[]):=dO sZ (Nat.zero_le _);refine (xB iB s _ (s::[]) nG (fun g hg=>⟨.inr (sZ.lt g hg),Nat.lt_of_lt_of_le jO (sZ.lt g hg).1⟩) l8).mono ?_;rintro e w6 ⟨rfl,mI,pU⟩;have wK:Kp D2 w2 w6:=(hKr.trans (Kp.below hb0 Jq) hD3).trans pU (fun g hg=>.inl (hD3 g hg));have oO:=mI;rw[Jr.out,List.append_assoc,<-bH.out]at oO;go_wp2_with fail;go_roundg (ps.length - (m+1))
         case measure=>omega
         case rel=>exact⟨m+1,_,by omega,by go_num,oO,fun g hg=>.inl (hD3 g hg),wK⟩
        ·cases Bj
         unfold maxLen at AJ;have Rs:∀ j u,(gV pm)[j]?=some u->(wr.alloc (.cells #[.int .i64 (s:Int)] 3)).cell? ((⟨g4,0,none⟩:Addr).add j)=some u:=(World.ownsRow.alloc mV _).cells rfl
         go_wp2_with (at_builtin;go_loud (refine wpList_append_own_at _ rfl _ _ 24 rfl wr.heap.size 3 i0 _ 1 8 underlying24 hii hz0 hz1 hz2 rfl (by decide) (.slice (some ⟨wr.heap.size,0,none⟩) 1 1) _ _ rfl sZ ⟨g4,0,none⟩ pm.length rc (gV pm) rfl (by rw[xg,Nat.mul_one]) Rs (KU _) (by unfold maxLen;omega) (by omega) (by simp) ?_;intro v5 w5 hown5 bf _ _;obtain⟨dL,dM,hv5,-⟩:=aI hown5;subst hv5))
         have hb5:Below wr.heap.size wr w5:=hb0.grown bf (by simp) (fun k hk=>(sZ.lt k hk).1);have iB:=aQ.more hb5;have nG:IR 0 w5 (.slice dL (1+pm.length) dM) (s::pm):=by
          have h9:=dO hown5 (Nat.zero_le _);unfold IR;rw[show (s::pm).length=1+pm.length by rw[List.length_cons];omega];exact h9
         refine (xB iB s _ (s::pm) nG (fun g hg=>⟨.inr (hown5.lt g hg),Nat.lt_of_lt_of_le jO (hown5.lt g hg).1⟩) l8).mono ?_;rintro e w6 ⟨rfl,mI,pU⟩;have wK:Kp D2 w2 w6:=(hKr.trans (Kp.below hb5 Jq) hD3).trans pU (fun g hg=>.inl (hD3 g hg));have oO:=mI;rw[Jr.out,List.append_assoc,<-bH.out]at oO;go_wp2_with fail;go_roundg (ps.length - (m+1))
         case measure=>omega
         case rel=>exact⟨m+1,_,by omega,by go_num,oO,fun g hg=>.inl (hD3 g hg),wK⟩
       ·have:m=ps.length:=by omega
        subst this;rw[List.take_length]at aQ;go_wp2_with fail
        go_end0
        refine⟨rfl,D3,?_,fun g hg=>hD3 g (xR g hg),hK2.trans hKr xR⟩;have e9:=zD.out;rw[e9,uV.out]at aQ;rw[HH.out];simpa [List.append_assoc]using aQ
   ·skip
    have Rm:((it.mark:Int) == 42)=false:=bq0 (by omega);have Rn:((it.mark:Int) != 42)=true:=bne_iff_ne.2 (by omega);have aaQ:¬ (it.mark:Int)=42:=by omega
    have Ro:((it.mark:Int) == 63)=false:=bq0 (by omega);have hn63:((it.mark:Int) != 63)=true:=bne_iff_ne.2 (by omega);have aaN:¬ (it.mark:Int)=63:=by omega
    have Rp:((it.mark:Int) == 43)=false:=bq0 (by omega);have hn43:((it.mark:Int) != 43)=true:=bne_iff_ne.2 (by omega);have aaO:¬ (it.mark:Int)=43:=by omega
    have HH:Hid (iH T.length s it.mark ps=[]++(ps.map (aS T.length s)++[])):=by simp[Hid,iH,qE,h63,h43]
    have wI:Hid (¬ it.mark=42/\¬ it.mark=63/\¬ it.mark=43):=⟨qE,h63,h43⟩;clear qE h63 h43;have Dz:w2.cell? ⟨w.heap.size,2,none⟩=some (.int .u8 (it.mark:Int)):=iW.cell 2;go_wp2_with fail;obtain⟨w3,hw3⟩:∃ w3,w3=w2:=⟨_,rfl⟩;rw[<-hw3];obtain⟨P3,hP3⟩:∃ P3,P3=P++[]:=⟨_,rfl⟩;have Rq:P3.length+2*ps.length<=1000000000000:=by rw[hP3,List.append_nil];omega
    have uV:Hid (P3=P++[]):=hP3;have jc:fZ D2 F w3 mb T N b H P3:=by rw[hP3,List.append_nil,hw3];exact hM2
    have hK3:Kp D2 w2 w3:=by rw[hw3];exact Kp.refl _ _
    clear hP3 Dz hw3
    go_loopg [7] ps.length (fun k i wr=>∃ m:Nat,m+k=ps.length/\i=.int .i64 m/\fZ D2 F wr mb T N b H (P3++(ps.take m).map (aS T.length s))/\Kp D2 w2 wr)
    case atStart=>exact⟨0,by omega,rfl,by simpa using jc,hK3⟩
    case round =>
     clear jc hK3;obtain⟨m,hkm,rfl,aQ,hKr⟩:=hrel;have iq:∀ g,D2 g->wr.heap[g]?=w2.heap[g]?:=hKr.block;have iy:aj wr w.heap.size _ 148:=(iq _ wH).trans iW;have x2:wr.cell? ⟨w.heap.size,2,none⟩=some (.int .u8 (it.mark:Int)):=iy.cell 2;have jO:=aQ.lm
     by_cases hlt:m<ps.length
     ·have htk:(ps.take (m+1)).map (aS T.length s)=(ps.take m).map (aS T.length s)++[aS T.length s ps[m]]:=by rw[List.take_succ_eq_append_getElem hlt,List.map_append];rfl
      have bH:Hid _:=htk;clear htk;obtain⟨gl,cl,ur,hv,yR,rQ,hcl,hur⟩:=hu.at hlt;cases hv;have Mx:wr.cell? ⟨gl,m,none⟩=some ur:=(World.cell?_of_block (w:=w2) (iq gl (hDn gl yR rQ))).trans hcl;have MB:gl<wr.heap.size:=Nat.lt_of_lt_of_le rQ hKr.size;have uM:∀ g,ur.ownBlock=some g->D2 g:=fun g hg=>hDn g (hur.lt g hg).1 (hur.lt g hg).2
      have CR:∀ g,ur.ownBlock=some g->mb<g:=fun g hg=>by have:=(hur.lt g hg).1;omega
      have mV:IR 0 wr ur ps[m]:=dO (aD hur fun g hg=>iq g (uM g hg)) (Nat.zero_le _);have yS:=hrl ps[m] (List.getElem_mem hlt);clear hur;generalize ps[m]=pm at mV yS bH;obtain⟨ra,rc,qX,-⟩:=aI mV;subst qX;go_wp2_with fail;refine (xB aQ s _ pm mV (fun g hg=>⟨uM g hg,CR g hg⟩) (by rw[List.length_append,List.length_map,List.length_take];omega)).mono ?_;rintro e w5 ⟨rfl,iB,Js⟩;have pU:=hKr.trans Js (fun _ h=>h);have mI:fZ D2 F w5 mb T N b H (P3++(ps.take (m+1)).map (aS T.length s)):=by rw[bH.out,<-List.append_assoc];exact iB
      go_wp2_with fail;go_roundg (ps.length - (m+1))
      case measure=>omega
      case rel=>exact⟨m+1,by omega,by go_num,mI,pU⟩
     ·have:m=ps.length:=by omega
      subst this;rw[List.take_length]at aQ;obtain⟨P4,iA⟩:∃ P4,P4=P3++ps.map (aS T.length s):=⟨_,rfl⟩;have Mw:P4.length+ps.length<=1000000000000:=by rw[iA,List.length_append,List.length_map];omega
      have zD:Hid (P4=P3++ps.map (aS T.length s)):=iA;rw[<-iA]at aQ;clear iA;go_wp2_with fail;clear x2 iy jO iq;obtain⟨w4,hw4⟩:∃ w4,w4=wr:=⟨_,rfl⟩;rw[<-hw4]at aQ hKr |-;clear hw4
      go_loopg [8] 0 (fun k i wr=>k=0/\i=.int .i64 0/\wr=w4)
      case atStart=>exact⟨rfl,rfl,rfl⟩
      case round =>
       obtain⟨rfl,rfl,hwr⟩:=hrel;rw[<-hwr]at aQ hKr;clear hwr;have iq:∀ g,D2 g->wr.heap[g]?=w2.heap[g]?:=hKr.block;have iy:aj wr w.heap.size _ 148:=(iq _ wH).trans iW;have x2:wr.cell? ⟨w.heap.size,2,none⟩=some (.int .u8 (it.mark:Int)):=iy.cell 2;have jO:=aQ.lm;go_wp2_with fail
       all_goals
        go_end0
        refine⟨rfl,D2,?_,xR,hK2.trans hKr xR⟩;have e9:=zD.out;rw[e9,uV.out]at aQ;rw[HH.out];simpa [List.append_assoc]using aQ
end Go.Proofs.YtlcppnabbicmoaaGreatDoor
namespace Go.Proofs.YtlcppnabbicmoaaGreatDoor
open Lx Go.Proofs.Tryz
open Go.RowKit
open Tr
theorem jy.ajY {Z F:Nat->Prop}{w:World}{mb:Nat}{T N:List ByteArray}(h:jy Z w mb T N)(hF:∀ g,F g->g<w.heap.size/\g≠mb)(tn:T.length+N.length<=100000){b:Nat}(hb:b<=200000):fZ (fun g=>g<w.heap.size/\g≠mb) F w mb T N b [] []:=by
 obtain⟨h0,vT,vN,h1,h2,h3,h4,h5,h6,h7,h8,h9⟩:=h;refine⟨⟨vT,vN,_,_,_,h1,h2,h3,⟨[],rfl,World.ownsRow_nil _ _ _ _,fun q hq=>(by cases hq)⟩,World.ownsRow_nil _ _ _ _,⟨[],rfl,World.ownsRow_nil _ _ _ _,fun q hq=>(by cases hq)⟩,fun g hg=>⟨(h2.lt g hg).2,fun e=>h7 (e ▸ hg)⟩,fun g hg=>⟨(h3.lt g hg).2,fun e=>h8 (e ▸ hg)⟩,fun g hg=>(by cases hg),fun g hg=>(by cases hg),fun g hg=>(by cases hg)⟩,fun h=>h.2 rfl,hF,fun g hg=>hg.1,tn,by simpa using hb,List.Pairwise.nil⟩
structure LM (w:World) (mb i:Nat) (v:Value) (s:Nat) (r:List Nat) (cs:Array Value) (v3:Value) (w4:World):Prop where
 blk:aj w4 mb (cs.setIfInBounds i v3) 135
 row:IR 0 w4 v3 (r++[s])
 keep:∀ g,g<w.heap.size->g≠mb->v.ownBlock≠some g->w4.heap[g]?=w.heap[g]?
 ne:v3.ownBlock≠some mb
 at_:∀ g,v3.ownBlock=some g->v.ownBlock=some g\/w.heap.size<=g
 os:w4.os=w.os
 tape:w4.tape=w.tape
 output:w4.output=w.output
 size:w.heap.size<=w4.heap.size
theorem pushed {w w1 w3:World}{mb i:Nat}{cs:Array Value}{v:Value}{r:List Nat}{s:Nat}{v3:Value}(h1:aj w mb cs 135)(h8:v.ownBlock≠some mb)(hb:Below w.heap.size w w1)(ho:w3.ownsRow 0 3 1 v3 (r.length+1) (gV r++[.int .i64 (s:Int)]))(hg:w1.grownBy w3 v.ownBlock)(hat:v3.ownBlock=v.ownBlock\/∃ g,v3.ownBlock=some g/\w.heap.size<=g):LM w mb i v s r cs v3 (w3.setCell ⟨mb,i,none⟩ v3):=by
 have jL:=h1.lt;have hs1:=hb.size;have hs3:=hg.size;have hne:v3.ownBlock≠some mb:=by
  rcases hat with h | ⟨g,h,hg2⟩
  ·rw[h];exact h8
  ·rw[h];intro e;cases e;omega
 have k3:aj w3 mb cs 135:=by
  unfold aj at h1 |-;rw[hg.block mb (by omega) (fun e=>h8 e.symm),hb.block mb jL];exact h1
 refine⟨k3.set i v3,?_,?_,hne,?_,hg.os.trans hb.os,hg.tape.trans hb.tape,hg.output.trans hb.output,by simp[World.setCell];omega⟩
 ·unfold IR
  rw[List.length_append,yE];exact aD ho fun g hx=>hs0 (fun e=>hne (by have e':g=mb:=e;rw[<-e'];exact hx))
 ·intro g hg1 hm hn
  rw[hs0 hm,hg.block g (by omega) (fun e=>hn e.symm),hb.block g hg1]
 ·intro g hx
  rcases hat with h | ⟨g',h,hg2⟩
  ·exact .inl (h ▸ hx)
  ·rw[h]at hx;cases hx;exact .inr hg2
structure Bl (D F:Nat->Prop) (w:World) (mb:Nat) (T N:List ByteArray) (H:List Lx.It) (Ls:List Nat) (P:List Lx.Pd):Prop where
 ex:∃ vT vN vP vH vL,aj w mb #[vT,vN,vP,.slice none 0 0,.slice none 0 0,vH,vL] 135/\w.ownsRow 0 9 1 vT T.length (T.map Value.string)/\w.ownsRow 0 9 1 vN N.length (N.map Value.string)/\HR 0 F w vH H/\IR 0 w vL Ls/\PR (fun g=>D g/\mb<g) w vP P/\(∀ g,vT.ownBlock=some g->D g)/\(∀ g,vN.ownBlock=some g->D g)/\(∀ g,vH.ownBlock=some g->D g)/\(∀ g,vP.ownBlock=some g->¬ D g/\g≠mb)/\(∀ g,vL.ownBlock=some g->¬ D g/\g≠mb/\vP.ownBlock≠some g)
 nm:¬ D mb
 fd:∀ g,F g->D g
 lt:∀ g,D g->g<w.heap.size
 tn:T.length+N.length<=100000
 FK:(H.map Lx.It.place).Pairwise (·< ·)
theorem fZ.reset {D F:Nat->Prop}{w:World}{mb:Nat}{T N:List ByteArray}{b:Nat}{H H':List Lx.It}{P:List Lx.Pd}(h:fZ D F w mb T N b H P){B:Nat}{v:Value}(hH:HR B F w v H')(hv:∀ g,v.ownBlock=some g->D g)(hr:(H'.map Lx.It.place).Pairwise (·< ·)):Bl D F ((w.setCell ⟨mb,5,none⟩ v).setCell ⟨mb,6,none⟩ (.slice none 0 0)) mb T N H' [] P/\Kp D w ((w.setCell ⟨mb,5,none⟩ v).setCell ⟨mb,6,none⟩ (.slice none 0 0)):=by
 obtain⟨⟨vT,vN,vP,vH,vL,h1,h2,h3,h4,h5,h6,k1,k2,k3,k4,k5⟩,e1,e2,e3,e4,e5,e6⟩:=h;have bk:∀ g,g≠mb->((w.setCell ⟨mb,5,none⟩ v).setCell ⟨mb,6,none⟩ (.slice none 0 0)).heap[g]?=w.heap[g]?:=fun g hg=>by
  rw[hs0 hg,hs0 hg]
 have bD:∀ g,D g->((w.setCell ⟨mb,5,none⟩ v).setCell ⟨mb,6,none⟩ (.slice none 0 0)).heap[g]?=w.heap[g]?:=fun g hg=>bk g fun e=>e1 (e ▸ hg)
 have hse:((w.setCell ⟨mb,5,none⟩ v).setCell ⟨mb,6,none⟩ (.slice none 0 0)).heap.size=w.heap.size:=by simp[World.setCell]
 obtain⟨ps,p1,p2,p3⟩:=hH;refine⟨⟨⟨vT,vN,vP,v,_,(h1.set 5 v).set 6 _,aD h2 fun g hg=>bD g (k1 g hg),aD h3 fun g hg=>bD g (k2 g hg),⟨ps,p1,dO (aD p2 fun g hg=>bD g (hv g hg)) (Nat.zero_le _),fun q hq=>ay.move (fun g hg=>bD g (e2 g hg)) (fun _ h=>h) (p3 q hq)⟩,World.ownsRow_nil _ _ _ _,h6.move (fun _ h=>h) (fun g hg=>bD g hg.1) (fun g hg=>bk g (k5 g hg).2),k1,k2,hv,k5,fun g hg=>(by cases hg)⟩,e1,e2,fun g hg=>by rw[hse];exact e3 g hg,e4,hr⟩,⟨rfl,rfl,rfl,by rw[hse];exact lr0,bD⟩⟩
theorem Bl.push {D F:Nat->Prop} {w w4:World} {mb:Nat} {T N:List ByteArray} {H:List Lx.It} {Ls:List Nat} {P:List Lx.Pd} {s:Nat} {vT vN vP vH vL v3:Value} (h:Bl D F w mb T N H Ls P)
  (h1:aj w mb #[vT,vN,vP,.slice none 0 0,.slice none 0 0,vH,vL] 135) (hp:LM w mb 6 vL s Ls #[vT,vN,vP,.slice none 0 0,.slice none 0 0,vH,vL] v3 w4):Bl D F w4 mb T N H (Ls++[s]) P/\Kp D w w4:=by
 obtain⟨⟨uT,uN,uP,uH,uL,j1,h2,h3,h4,h5,h6,k1,k2,k3,k4,k5⟩,e1,e2,e3,e4,e6⟩:=h;unfold aj at h1 j1;rw[h1]at j1;obtain⟨⟩:=j1;have bD:∀ g,D g->w4.heap[g]?=w.heap[g]?:=fun g hg=>hp.keep g (e3 g hg) (fun e=>e1 (e ▸ hg)) (fun e=>(k5 g e).1 hg)
 refine⟨⟨⟨_,_,_,_,v3,hp.blk,aD h2 fun g hg=>bD g (k1 g hg),aD h3 fun g hg=>bD g (k2 g hg),h4.move (fun g hg=>bD g (e2 g hg)) (fun g hg=>bD g (k3 g hg)),hp.row,h6.move (fun _ h=>h) (fun g hg=>bD g hg.1) (fun g hg=>hp.keep g (h6.blk g hg) (k4 g hg).2 (fun e=>(k5 g e).2.2 hg)),k1,k2,k3,k4,fun g hg=>?_⟩,e1,e2,fun g hg=>Nat.lt_of_lt_of_le (e3 g hg) hp.size,e4,e6⟩,⟨hp.os,hp.tape,hp.output,hp.size,bD⟩⟩;refine⟨fun hd=>?_,fun e=>hp.ne (e ▸ hg),fun e=>?_⟩
 ·rcases hp.at_ g hg with h' | h'
  ·exact (k5 g h').1 hd
  ·have:=e3 g hd;omega
 ·rcases hp.at_ g hg with h' | h'
  ·exact (k5 g h').2.2 e
  ·have:=h6.blk g e;omega
theorem Bl.done {D F:Nat->Prop}{w:World}{mb:Nat}{T N:List ByteArray}{b:Nat}{H:List Lx.It}{P:List Lx.Pd}(h:Bl D F w mb T N H (oG b H.length) P)(hb:b+H.length<=200000):∃ D',fZ D' F w mb T N b H P/\∀ g,D g->D' g:=by
 obtain⟨⟨vT,vN,vP,vH,vL,h1,h2,h3,h4,h5,h6,k1,k2,k3,k4,k5⟩,e1,e2,e3,e4,e6⟩:=h;refine⟨fun g=>D g\/vL.ownBlock=some g,⟨⟨vT,vN,vP,vH,vL,h1,h2,h3,h4,h5,h6.move (fun g hg=>⟨.inl hg.1,hg.2⟩) (fun _ _=>rfl) (fun _ _=>rfl),fun g hg=>.inl (k1 g hg),fun g hg=>.inl (k2 g hg),fun g hg=>.inl (k3 g hg),fun g hg=>.inr hg,fun g hg=>⟨?_,(k4 g hg).2⟩⟩,?_,fun g hg=>.inl (e2 g hg),?_,e4,hb,e6⟩,fun g hg=>.inl hg⟩
 ·rintro (h' | h')
  ·exact (k4 g hg).1 h'
  ·exact (k5 g h').2.2 hg
 ·rintro (h' | h')
  ·exact e1 h'
  ·exact (k5 mb h').2.1 rfl
 ·rintro g (h' | h')
  ·exact e3 g h'
  ·exact (h5.lt g h').2
structure zF (D:Nat->Prop) (w:World) (mb:Nat) (T N:List ByteArray) (P:List Lx.Pd) (Bs Ks:List Nat):Prop where
 ex:∃ vT vN vP vB vK vH vL,aj w mb #[vT,vN,vP,vB,vK,vH,vL] 135/\w.ownsRow 0 9 1 vT T.length (T.map Value.string)/\w.ownsRow 0 9 1 vN N.length (N.map Value.string)/\PR (fun g=>D g/\mb<g) w vP P/\IR 0 w vB Bs/\IR 0 w vK Ks/\(∀ g,vT.ownBlock=some g->D g)/\(∀ g,vN.ownBlock=some g->D g)/\(∀ g,vP.ownBlock=some g->D g)/\(∀ g,vB.ownBlock=some g->¬ D g/\mb<g/\vK.ownBlock≠some g)/\(∀ g,vK.ownBlock=some g->¬ D g/\mb<g)
 nm:¬ D mb
 lt:∀ g,D g->g<w.heap.size
theorem fZ.ajZ {D F:Nat->Prop}{w:World}{mb:Nat}{T N:List ByteArray}{b:Nat}{H:List Lx.It}{P:List Lx.Pd}(h:fZ D F w mb T N b H P):∃ D',zF D' w mb T N P [] []/\∀ g,D g->D' g:=by
 obtain⟨⟨vT,vN,vP,vH,vL,h1,h2,h3,h4,h5,h6,k1,k2,k3,k4,k5⟩,e1,e2,e3,e4,e5,e6⟩:=h;refine⟨fun g=>D g\/vP.ownBlock=some g,⟨⟨vT,vN,vP,_,_,vH,vL,h1,h2,h3,h6.move (fun g hg=>⟨.inl hg.1,hg.2⟩) (fun _ _=>rfl) (fun _ _=>rfl),World.ownsRow_nil _ _ _ _,World.ownsRow_nil _ _ _ _,fun g hg=>.inl (k1 g hg),fun g hg=>.inl (k2 g hg),fun g hg=>.inr hg,fun g hg=>(by cases hg),fun g hg=>(by cases hg)⟩,?_,?_⟩,fun g hg=>.inl hg⟩
 ·rintro (h' | h')
  ·exact e1 h'
  ·exact (k5 mb h').2 rfl
 ·rintro g (h' | h')
  ·exact e3 g h'
  ·exact h6.blk g h'
theorem zF.pushB {D:Nat->Prop} {w w4:World} {mb:Nat} {T N:List ByteArray} {P:List Lx.Pd} {Bs Ks:List Nat} {s:Nat} {vT vN vP vB vK vH vL v3:Value} (h:zF D w mb T N P Bs Ks)
  (h1:aj w mb #[vT,vN,vP,vB,vK,vH,vL] 135) (hp:LM w mb 3 vB s Bs #[vT,vN,vP,vB,vK,vH,vL] v3 w4):zF D w4 mb T N P (Bs++[s]) Ks/\Kp D w w4:=by
 obtain⟨⟨uT,uN,uP,uB,uK,uH,uL,j1,h2,h3,h4,h5,h6,k1,k2,k3,k4,k5⟩,e1,e3⟩:=h;have jL:=h1.lt;unfold aj at h1 j1;rw[h1]at j1;obtain⟨⟩:=j1;have bD:∀ g,D g->w4.heap[g]?=w.heap[g]?:=fun g hg=>hp.keep g (e3 g hg) (fun e=>e1 (e ▸ hg)) (fun e=>(k4 g e).1 hg)
 refine⟨⟨⟨_,_,_,v3,_,_,_,hp.blk,aD h2 fun g hg=>bD g (k1 g hg),aD h3 fun g hg=>bD g (k2 g hg),h4.move (fun _ h=>h) (fun g hg=>bD g hg.1) (fun g hg=>bD g (k3 g hg)),hp.row,aD h6 fun g hg=>hp.keep g (h6.lt g hg).2 (Nat.ne_of_gt (k5 g hg).2) (fun e=>(k4 g e).2.2 hg),k1,k2,k3,fun g hg=>?_,k5⟩,e1,fun g hg=>Nat.lt_of_lt_of_le (e3 g hg) hp.size⟩,⟨hp.os,hp.tape,hp.output,hp.size,bD⟩⟩;refine⟨fun hd=>?_,(hp.at_ g hg).elim (fun h'=>(k4 g h').2.1) (fun h'=>Nat.lt_of_lt_of_le jL h'),fun e=>?_⟩
 ·rcases hp.at_ g hg with h' | h'
  ·exact (k4 g h').1 hd
  ·have:=e3 g hd;omega
 ·rcases hp.at_ g hg with h' | h'
  ·exact (k4 g h').2.2 e
  ·have:=(h6.lt g e).2;omega
theorem zF.aj0 {D:Nat->Prop} {w w4:World} {mb:Nat} {T N:List ByteArray} {P:List Lx.Pd} {Bs Ks:List Nat} {s:Nat} {vT vN vP vB vK vH vL v3:Value} (h:zF D w mb T N P Bs Ks)
  (h1:aj w mb #[vT,vN,vP,vB,vK,vH,vL] 135) (hp:LM w mb 4 vK s Ks #[vT,vN,vP,vB,vK,vH,vL] v3 w4):zF D w4 mb T N P Bs (Ks++[s])/\Kp D w w4:=by
 obtain⟨⟨uT,uN,uP,uB,uK,uH,uL,j1,h2,h3,h4,h5,h6,k1,k2,k3,k4,k5⟩,e1,e3⟩:=h;have jL:=h1.lt;unfold aj at h1 j1;rw[h1]at j1;obtain⟨⟩:=j1;have bD:∀ g,D g->w4.heap[g]?=w.heap[g]?:=fun g hg=>hp.keep g (e3 g hg) (fun e=>e1 (e ▸ hg)) (fun e=>(k5 g e).1 hg)
 refine⟨⟨⟨_,_,_,_,v3,_,_,hp.blk,aD h2 fun g hg=>bD g (k1 g hg),aD h3 fun g hg=>bD g (k2 g hg),h4.move (fun _ h=>h) (fun g hg=>bD g hg.1) (fun g hg=>bD g (k3 g hg)),aD h5 fun g hg=>hp.keep g (h5.lt g hg).2 (Nat.ne_of_gt (k4 g hg).2.1) (fun e=>(k4 g hg).2.2 e),hp.row,k1,k2,k3,fun g hg=>⟨(k4 g hg).1,(k4 g hg).2.1,fun e=>?_⟩,fun g hg=>⟨fun hd=>?_,(hp.at_ g hg).elim (fun h'=>(k5 g h').2) (fun h'=>Nat.lt_of_lt_of_le jL h')⟩⟩,e1,fun g hg=>Nat.lt_of_lt_of_le (e3 g hg) hp.size⟩,⟨hp.os,hp.tape,hp.output,hp.size,bD⟩⟩
 ·rcases hp.at_ g e with h' | h'
  ·exact (k4 g hg).2.2 h'
  ·have:=(h5.lt g hg).2;omega
 ·rcases hp.at_ g hg with h' | h'
  ·exact (k5 g h').1 hd
  ·have:=e3 g hd;omega
def aaR (w:World)(v:Value)(T N:List ByteArray)(P:List Lx.Pd)(Bs Ks:List Nat):Prop:=∃ vT vN vP vB vK,v=.agg #[vT,vN,vP,vB,vK]/\w.ownsRow 0 9 1 vT T.length (T.map Value.string)/\w.ownsRow 0 9 1 vN N.length (N.map Value.string)/\PR (fun _=>True) w vP P/\IR 0 w vB Bs/\IR 0 w vK Ks
def LZ (B:Nat)(w:World)(v:Value)(T N:List ByteArray)(P:List Lx.Pd)(Bs Ks:List Nat):Prop:=∃ vT vN vP vB vK,v=.agg #[vT,vN,vP,vB,vK]/\w.ownsRow 0 9 1 vT T.length (T.map Value.string)/\w.ownsRow 0 9 1 vN N.length (N.map Value.string)/\PR (fun g=>B<=g) w vP P/\IR 0 w vB Bs/\IR 0 w vK Ks/\(∀ g,vB.ownBlock=some g->B<=g)/\(∀ g,vK.ownBlock=some g->B<=g)
theorem LZ.pl {B:Nat}{w:World}{v:Value}{T N:List ByteArray}{P:List Lx.Pd}{Bs Ks:List Nat}(h:LZ B w v T N P Bs Ks):aaR w v T N P Bs Ks:=by
 obtain⟨vT,vN,vP,vB,vK,h0,h1,h2,⟨ps,p1,p2,p3⟩,h4,h5,-⟩:=h;exact⟨vT,vN,vP,vB,vK,h0,h1,h2,⟨ps,p1,p2,fun q hq=>⟨(p3 q hq).1,fun _ _=>trivial⟩⟩,h4,h5⟩
end Go.Proofs.YtlcppnabbicmoaaGreatDoor
namespace Go.Proofs.YtlcppnabbicmoaaGreatDoor
open Lx Go.Proofs.Tryz
open Go.RowKit
open Tr
structure Puts (bt et sz:Nat) (w:World) (mb i:Nat) (v:Value) (n:Nat) (xs:List Value) (cs:Array Value) (v3:Value) (w4:World):Prop where
 blk:aj w4 mb (cs.setIfInBounds i v3) bt
 row:w4.ownsRow 0 et sz v3 n xs
 keep:∀ g,g<w.heap.size->g≠mb->v.ownBlock≠some g->w4.heap[g]?=w.heap[g]?
 ne:v3.ownBlock≠some mb
 at_:∀ g,v3.ownBlock=some g->v.ownBlock=some g\/w.heap.size<=g
 os:w4.os=w.os
 tape:w4.tape=w.tape
 output:w4.output=w.output
 size:w.heap.size<=w4.heap.size
theorem puts {bt et sz:Nat}{w w1 w3:World}{mb i:Nat}{cs:Array Value}{v:Value}{n:Nat}{xs:List Value}{v3:Value}(h1:aj w mb cs bt)(h8:v.ownBlock≠some mb)(hb:Below w.heap.size w w1)(ho:w3.ownsRow 0 et sz v3 n xs)(hg:w1.grownBy w3 v.ownBlock)(hat:v3.ownBlock=v.ownBlock\/∃ g,v3.ownBlock=some g/\w.heap.size<=g):Puts bt et sz w mb i v n xs cs v3 (w3.setCell ⟨mb,i,none⟩ v3):=by
 have jL:=h1.lt;have hs1:=hb.size;have hs3:=hg.size;have hne:v3.ownBlock≠some mb:=by
  rcases hat with h | ⟨g,h,hg2⟩
  ·rw[h];exact h8
  ·rw[h];intro e;cases e;omega
 have k3:aj w3 mb cs bt:=by
  unfold aj at h1 |-;rw[hg.block mb (by omega) (fun e=>h8 e.symm),hb.block mb jL];exact h1
 refine⟨k3.set i v3,?_,?_,hne,?_,hg.os.trans hb.os,hg.tape.trans hb.tape,hg.output.trans hb.output,by simp[World.setCell];omega⟩
 ·exact aD ho fun g hx=>hs0 (fun e=>hne (by have e':g=mb:=e;rw[<-e'];exact hx))
 ·intro g hg1 hm hn
  rw[hs0 hm,hg.block g (by omega) (fun e=>hn e.symm),hb.block g hg1]
 ·intro g hx
  rcases hat with h | ⟨g',h,hg2⟩
  ·exact .inl (h ▸ hx)
  ·rw[h]at hx;cases hx;exact .inr hg2
theorem Puts.drew {bt et sz:Nat}{w w4:World}{mb i:Nat}{cs:Array Value}{v:Value}{n:Nat}{xs:List Value}{v3:Value}(h:Puts bt et sz w mb i v n xs cs v3 w4):Puts bt et sz w mb i v n xs cs v3 w4.drew:=⟨h.blk.drew,aD h.row fun _ _=>rfl,h.keep,h.ne,h.at_,h.os,h.tape,h.output,h.size⟩
def aam (w:World)(mb nT:Nat)(V:List ByteArray)(nm:ByteArray)(vN:Value)(cs:Array Value)(e:Ending)(w':World):Prop:=e=.returned (.int .i64 ((nT+V.length:Nat):Int))/\∃ v3,Puts 125 9 1 w mb 1 vN (V.length+1) ((V++[nm]).map Value.string) cs v3 w'
theorem afC {w:World} {mb nT:Nat} {V:List ByteArray} {ta:Option Addr} {tc:Nat} {vN vP vB vK vS vH:Value} (kM:aj w mb #[.slice ta nT tc,vN,vP,vB,vK,vS,vH] 125) (oN:w.ownsRow 0 9 1 vN V.length (V.map Value.string)) (hne:vN.ownBlock≠some mb) (hT:nT<=100000) (hV:V.length<=100000) (nm:ByteArray) :
  Calls prog 100 #[.pointer (some ⟨mb,0,none⟩),.string nm] w (aam w mb nT V nm vN #[.slice ta nT tc,vN,vP,vB,vK,vS,vH]):=by
 obtain⟨i9,hi9,hz90,hz91,hz92⟩:=info_parts Tryz.yL;obtain⟨na,nc,rfl,-⟩:=aI oN;have lm:=kM.lt;have m1:w.cell? ⟨mb,1,none⟩=some (.slice na V.length nc):=kM.cell 1;have hb1:Below w.heap.size w (w.alloc (.cells #[.string nm] 9)):=(Below.refl _ _).alloc (lr0) _;unfold aam;go_enter func100,ntmps100
 go_wp2_with (at_builtin;go_loud (refine wpList_append_own_at _ rfl _ _ 22 rfl 0 9 i9 _ 1 16 underlying22 hi9 hz90 hz91 hz92 rfl (by decide) (.slice na V.length nc) _ _ rfl (oN.alloc _) ⟨_,0,none⟩ 1 1 [.string nm] rfl rfl (bP (aj.new _ _ 9)) (by simp[Value.oneCell']) (by unfold maxLen;omega) (by omega) (by simp) ?_;intro v5 w5 hown5 bf _ jT;obtain⟨dL,dM,hv5,-⟩:=aI hown5;subst hv5;have l7:=(kM.alloc (.cells #[.string nm] 9)).grown bf (fun e=>hne e.symm);have Jt:w5.cell? ⟨mb,1,none⟩=some (.slice na V.length nc):=l7.cell 1;have f56:∀ i,w5.frozen? ⟨mb,i,none⟩=false:=l7.frozen))
 have uF:(Value.slice dL (V.length+1) dM).ownBlock=(Value.slice na V.length nc).ownBlock\/∃ g,(Value.slice dL (V.length+1) dM).ownBlock=some g/\w.heap.size<=g:=by
  rcases jT with h' | h'
  ·exact .inl h'
  ·exact .inr ⟨_,h',by simp⟩
 have hown6:w5.ownsRow 0 9 1 (.slice dL (V.length+1) dM) (V.length+1) ((V++[nm]).map Value.string):=by rw[List.map_append];exact hown5
 have hP:=puts (i:=1) kM hne hb1 hown6 bf uF;clear jT uF hown5 hown6 bf l7 Jt f56 m1;generalize w5.setCell ⟨mb,1,none⟩ (.slice dL (V.length+1) dM)=w6 at hP;have k6:=hP.blk;have d0:w6.drew.cell? ⟨mb,0,none⟩=some (.slice ta nT tc):=k6.drew.cell 0;have d1:w6.drew.cell? ⟨mb,1,none⟩=some (.slice dL (V.length+1) dM):=k6.drew.cell 1;have hPd:=hP.drew;have d2:w6.cell? ⟨mb,0,none⟩=some (.slice ta nT tc):=k6.cell 0;have d3:w6.cell? ⟨mb,1,none⟩=some (.slice dL (V.length+1) dM):=k6.cell 1;clear kM oN hb1 k6 hP
 go_region
 all_goals
  go_wp2_with fail;go_ret;exact⟨by go_num,_,hPd⟩
end Go.Proofs.YtlcppnabbicmoaaGreatDoor
namespace Go.Proofs
open Go.Shelf
def Tryz.ae9:Go.Shelf.Ren:=⟨fun | 171=>103 | 243=>134 | 246=>148 | 283=>154 | 284=>155 | 285=>156 | 286=>157 | 129=>161 | 317=>160 | 318=>162 | 319=>163 | 320=>164 | 337=>165 | 338=>166 | n=>n,fun | 3=>3 | 9=>9 | 2=>2 | 4=>4 | 171=>226 | 0=>0 | 53=>227 | 37=>162 | 5=>5 | 173=>230 | 212=>235 | 51=>236 | 20=>20 | 213=>237 | 46=>239 | 232=>242 | 233=>243 | n=>n,fun | 17=>0 | 18=>1 | 19=>2 | n=>n⟩
theorem Tryz.aii:Go.Proofs.LaysM.n171 prog Tryz.ae9:={
 mixed:=by kernel_rfl
 f129:=func161.trans (congrArg some (by kernel_rfl))
 f171:=func103.trans (congrArg some (by kernel_rfl))
 f243:=func134.trans (congrArg some (by kernel_rfl))
 f246:=func148.trans (congrArg some (by kernel_rfl))
 f283:=func154.trans (congrArg some (by kernel_rfl))
 f284:=func155.trans (congrArg some (by kernel_rfl))
 f285:=func156.trans (congrArg some (by kernel_rfl))
 f286:=func157.trans (congrArg some (by kernel_rfl))
 f317:=func160.trans (congrArg some (by kernel_rfl))
 f318:=func162.trans (congrArg some (by kernel_rfl))
 f319:=func163.trans (congrArg some (by kernel_rfl))
 f320:=func164.trans (congrArg some (by kernel_rfl))
 f337:=func165.trans (congrArg some (by kernel_rfl))
 f338:=func166.trans (congrArg some (by kernel_rfl))
 t0:=underlying0
 a0:=Tryz.isAgg0
 z0:=Tryz.sizeOf0
 v0:=Tryz.zeroValue0
 t2:=underlying2
 a2:=Tryz.isAgg2
 z2:=Tryz.sizeOf2
 v2:=Tryz.zeroValue2
 t3:=underlying3
 a3:=Tryz.isAgg3
 z3:=Tryz.sizeOf3
 v3:=Tryz.zeroValue3
 t4:=underlying4
 a4:=Tryz.isAgg4
 z4:=Tryz.sizeOf4
 v4:=Tryz.zeroValue4
 t5:=underlying5
 a5:=Tryz.isAgg5
 z5:=Tryz.sizeOf5
 v5:=Tryz.zeroValue5
 t9:=underlying9
 a9:=Tryz.isAgg9
 z9:=Tryz.sizeOf9
 v9:=Tryz.zeroValue9
 t20:=underlying20
 a20:=Tryz.isAgg20
 z20:=Tryz.sizeOf20
 v20:=Tryz.zeroValue20
 t37:=underlying162
 a37:=Tryz.isAgg162
 z37:=Tryz.sizeOf162
 v37:=Tryz.zeroValue162
 t46:=underlying239
 a46:=Tryz.isAgg239
 z46:=Tryz.sizeOf239
 v46:=Tryz.zeroValue239
 t51:=underlying236
 a51:=Tryz.isAgg236
 z51:=Tryz.sizeOf236
 v51:=Tryz.zeroValue236
 t53:=underlying227
 a53:=Tryz.isAgg227
 z53:=Tryz.sizeOf227
 v53:=Tryz.zeroValue227
 t171:=underlying226
 a171:=Tryz.isAgg226
 z171:=Tryz.sizeOf226
 v171:=Tryz.zeroValue226
 t173:=underlying230
 a173:=Tryz.isAgg230
 z173:=Tryz.sizeOf230
 v173:=Tryz.zeroValue230
 t212:=underlying235
 a212:=Tryz.isAgg235
 z212:=Tryz.sizeOf235
 v212:=Tryz.zeroValue235
 t213:=underlying237
 a213:=Tryz.isAgg237
 z213:=Tryz.sizeOf237
 t232:=underlying242
 a232:=Tryz.isAgg242
 z232:=Tryz.sizeOf242
 v232:=Tryz.zeroValue242
 t233:=underlying243
 a233:=Tryz.isAgg243
 z233:=Tryz.sizeOf243
 v233:=Tryz.zeroValue243
 g17:=by kernel_rfl
 g18:=by kernel_rfl
 g19:=by kernel_rfl
 i0:=by kernel_rfl
 i2:=by kernel_rfl
 i3:=by kernel_rfl
 i4:=by kernel_rfl
 i5:=by kernel_rfl
 i9:=by kernel_rfl
 i20:=by kernel_rfl
 i37:=by kernel_rfl
 i46:=by kernel_rfl
 i51:=by kernel_rfl
 i53:=by kernel_rfl
 i171:=by kernel_rfl
 i173:=by kernel_rfl
 i212:=by kernel_rfl
 i232:=by kernel_rfl
 i233:=by kernel_rfl
 m17:=by kernel_rfl
 m18:=by kernel_rfl
 m19:=by kernel_rfl }
open Go.RowKit Go.Sort Go.Lib in
theorem Tryz.strconv_Itoa (n : Int) (h0 : -9223372036854775808 ≤ n) (h1 : n ≤ 9223372036854775807) (w : World) (htab : Lib.TabIs prog w "internal/strconv.uint64pow10" .u64 Lib.pow10Tab) :
  Calls prog 103 #[.int .i64 n] w fun e w'=>e=.returned (.string ⟨(Lib.itoa n).toArray⟩)/\∃ k os,w'=grow (w.drewN k) os:=Any.strconv_Itoa Tryz.aii n h0 h1 w htab
def Tryz.aeQ:Go.Shelf.Ren:=⟨fun | 15=>135 | n=>n,fun | 22=>24 | 3=>3 | 4=>4 | n=>n,fun | n=>n⟩
theorem Tryz.XO:Go.Proofs.Lays2.n15 prog Tryz.aeQ:={
 mixed:=by kernel_rfl
 f15:=func135.trans (congrArg some (by kernel_rfl))
 t3:=underlying3
 a3:=Tryz.isAgg3
 z3:=Tryz.sizeOf3
 v3:=Tryz.zeroValue3
 t4:=underlying4
 a4:=Tryz.isAgg4
 z4:=Tryz.sizeOf4
 v4:=Tryz.zeroValue4
 t22:=underlying24
 a22:=Tryz.isAgg24
 z22:=Tryz.sizeOf24
 v22:=Tryz.zeroValue24
 i3:=by kernel_rfl }
open Go.RowKit Go.Lib in
theorem Tryz.slices_Clone_int (b off n c:Nat) (zs:List Int) (w:World) (hz:n<=zs.length) (hbig:n*8<=140737488355328) (hc:∀ j,j<zs.length->w.cell? ⟨b,off+j,none⟩=some (.int .i64 (zs.getD j 0))) :
  Calls prog 135 #[.slice (some ⟨b,off,none⟩) n c] w fun e w'=>∃ v',e=.returned v'/\w'.ownsRow w.heap.size 3 1 v' n ((zs.take n).map (Value.int .i64))/\v'≠.slice none 0 0/\Below w.heap.size w w':=Any.slices_Clone_int Tryz.XO b off n c zs w hz hbig hc
open Go.RowKit Go.Lib in
theorem Tryz.slices_Clone_int_nil (n c:Nat) (w:World) :
  Calls prog 135 #[.slice none n c] w fun e w'=>e=.returned (.slice none 0 0)/\w'=w:=Any.slices_Clone_int_nil Tryz.XO n c w
end Go.Proofs
namespace Go.Proofs.YtlcppnabbicmoaaGreatDoor
open Lx Go.Proofs.Tryz
open Go.RowKit
open Tr
def nL (w : World) : Prop := Lib.TabIs prog w "internal/strconv.uint64pow10" .u64 Lib.pow10Tab
def rR:Nat:=0
theorem Pv : prog.globalNamed "internal/strconv.uint64pow10" = some rR := by kernel_rfl
theorem nL.move {w w':World}(h:nL w)(hb:w'.heap[rR]?=w.heap[rR]?):nL w':=by
 unfold nL Lib.TabIs World.var? at *;rw[Pv]at h |-;simp only[Option.bind_some]at h |-;rw[hb];exact h
theorem nL.lt {w:World}(h:nL w):rR<w.heap.size:=by
 unfold nL Lib.TabIs World.var? at h;rw[Pv]at h;simp only[Option.bind_some]at h;rcases Nat.lt_or_ge rR w.heap.size with h' | h'
 ·exact h'
 ·rw[Array.getElem?_eq_none h']at h;cases h
theorem aij {w:World}(h:nL w)(n:Nat)(hn:n<=100000):Calls prog 103 #[.int .i64 (n:Int)] w fun e w'=>e=.returned (.string (qw n))/\Below w.heap.size w w':=by
 refine (Tryz.strconv_Itoa (n:Int) (by omega) (by omega) w h).mono ?_;rintro e w' ⟨rfl,k,os,rfl⟩;refine⟨?_,Lib.below_grow _ _ (lr0) _ _⟩;have:Lib.itoa (n:Int)=Lib.decDigits n:=by unfold Lib.itoa;rw[if_neg (by omega),Int.toNat_natCast]
 rw[this];rfl
structure Nm (D:Nat->Prop) (w:World) (mb H:Nat) (ta:Option Addr) (nT tc:Nat) (vP vB vK vS:Value) (N:List ByteArray) (G:Nat->Prop) (f:Addr->Int):Prop where
 ex:∃ vN,aj w mb #[.slice ta nT tc,vN,vP,vB,vK,vS,.map (some H)] 125/\w.ownsRow 0 9 1 vN N.length (N.map Value.string)/\(∀ g,vN.ownBlock=some g->¬ D g/\g≠mb/\g≠H)
 pm:sV G w H f
 nm:¬ D mb
 nH:¬ D H
 ne:mb≠H
 lt:∀ g,D g->g<w.heap.size
section
variable {D G:Nat -> Prop} {w w':World} {mb H:Nat} {ta:Option Addr} {nT tc:Nat} {vP vB vK vS:Value} {N:List ByteArray} {f:Addr -> Int}
theorem Nm.lm (h:Nm D w mb H ta nT tc vP vB vK vS N G f):mb<w.heap.size:=by
 obtain⟨vN,h1,-⟩:=h.ex;exact h1.lt
theorem Nm.other (h:Nm D w mb H ta nT tc vP vB vK vS N G f)(hk:∀ g,g<w.heap.size->¬ D g->w'.heap[g]?=w.heap[g]?)(hs:w.heap.size<=w'.heap.size):Nm D w' mb H ta nT tc vP vB vK vS N G f:=by
 obtain⟨⟨vN,h1,h2,h3⟩,e1,e2,e3,e4,e5⟩:=h;exact⟨⟨vN,(hk _ h1.lt e2).trans h1,aD h2 fun g hg=>hk g (h2.lt g hg).2 (h3 g hg).1,h3⟩,e1.move (hk _ (iT.lt e1) e3),e2,e3,e4,fun g hg=>Nat.lt_of_lt_of_le (e5 g hg) hs⟩
theorem Nm.below (h:Nm D w mb H ta nT tc vP vB vK vS N G f)(hb:Below w.heap.size w w'):Nm D w' mb H ta nT tc vP vB vK vS N G f/\Kp D w w':=⟨h.other (fun g hg _=>hb.block g hg) hb.size,Kp.below hb h.lt⟩
theorem Nm.named {nm:ByteArray}{vN v3:Value}(h:Nm D w mb H ta nT tc vP vB vK vS N G f)(hb:aj w mb #[.slice ta nT tc,vN,vP,vB,vK,vS,.map (some H)] 125)(p:Puts 125 9 1 w mb 1 vN (N.length+1) ((N++[nm]).map Value.string) #[.slice ta nT tc,vN,vP,vB,vK,vS,.map (some H)] v3 w'):Nm D w' mb H ta nT tc vP vB vK vS (N++[nm]) G f/\Kp D w w':=by
 obtain⟨⟨uN,h1,h2,h3⟩,e1,e2,e3,e4,e5⟩:=h;unfold aj at hb h1;rw[hb]at h1;obtain⟨⟩:=h1;have lH:H<w.heap.size:=iT.lt e1;have hn:vN.ownBlock≠some H:=fun e=>(h3 H e).2.2 rfl
 refine⟨⟨⟨v3,p.blk,by rw[List.length_append];exact p.row,fun g hg=>?_⟩,e1.move (p.keep H lH (fun e=>e4 e.symm) hn),e2,e3,e4,fun g hg=>Nat.lt_of_lt_of_le (e5 g hg) p.size⟩,⟨p.os,p.tape,p.output,p.size,fun g hg=>p.keep g (e5 g hg) (fun e=>e2 (e ▸ hg)) (fun e=>(h3 g e).1 hg)⟩⟩;rcases p.at_ g hg with h' | h'
 ·exact h3 g h'
 ·exact⟨fun hd=>by have:=e5 g hd;omega,fun e=>p.ne (e ▸ hg),fun e=>by omega⟩
theorem Nm.aku {f':Addr->Int}(h:Nm D w mb H ta nT tc vP vB vK vS N G f)(hm:sV G w' H f')(hg:w.grownBy w' (some H)):Nm D w' mb H ta nT tc vP vB vK vS N G f'/\Kp D w w':=by
 obtain⟨⟨vN,h1,h2,h3⟩,e1,e2,e3,e4,e5⟩:=h;have hb:∀ g,g<w.heap.size->g≠H->w'.heap[g]?=w.heap[g]?:=fun g hl hn=>hg.block g hl fun e=>hn (Option.some.inj e)
 exact⟨⟨⟨vN,(hb _ h1.lt e4).trans h1,aD h2 fun g hg=>hb g (h2.lt g hg).2 (h3 g hg).2.2,h3⟩,hm,e2,e3,e4,fun g hd=>Nat.lt_of_lt_of_le (e5 g hd) hg.size⟩,⟨hg.os,hg.tape,hg.output,hg.size,fun g hd=>hb g (e5 g hd) fun e=>e3 (e ▸ hd)⟩⟩
end
def hNames (nm:ByteArray)(n:Nat):List ByteArray:=(List.range n).map fun k=>Lx.hName nm (k+1)
theorem afD (nm:ByteArray)(n:Nat):hNames nm (n+1)=hNames nm n++[Lx.hName nm (n+1)]:=by unfold hNames;rw[List.range_succ,List.map_append];rfl
theorem O5 (nm:ByteArray)(n:Nat):(hNames nm n).length=n:=by simp[hNames]
def Av (b:Nat)(L:List AI)(f f':Addr->Int):Prop:=(∀ a,(∀ p∈L,p.1≠a)->f' a=f a)/\∀ k p,L[k]?=some p->f' p.1=((b+k:Nat):Int)
theorem Av.push {b:Nat}{L:List AI}{f f':Addr->Int}(h:Av b L f f'){p:AI}(hn:((L++[p]).map Prod.fst).Nodup):Av b (L++[p]) f (fun c=>if c=p.1 then ((b+L.length:Nat):Int) else f' c):=by
 rw[List.map_append,List.nodup_append]at hn;have hne:∀ q∈L,q.1≠p.1:=fun q hq=>hn.2.2 _ (List.mem_map.2 ⟨q,hq,rfl⟩) _ (by simp)
 refine⟨fun a ha=>?_,fun k q hq=>?_⟩
 ·have h1:a≠p.1:=fun e=>ha p (by simp) e.symm
  simp only[if_neg h1];exact h.1 a fun q hq=>ha q (by simp[hq])
 ·rw[List.getElem?_append]at hq
  split at hq
  ·rename_i hk
   simp only[if_neg (hne q (List.mem_of_getElem? hq))];exact h.2 k q hq
  ·rename_i hk
   obtain⟨hk2,rfl⟩:=List.getElem?_eq_some_iff.1 hq;simp only[List.length_singleton]at hk2;have:k=L.length:=by omega
   subst this;simp
end Go.Proofs.YtlcppnabbicmoaaGreatDoor

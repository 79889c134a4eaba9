import Derived.Test.YtlcppnabbicmoaaGreatDoorME29
import Derived.BigQuiet
import Derived.Shelf.Strconv.Itoa0
import Derived.Shelf.Strconv.Itoa1
import Derived.Shelf.LaysM
import Derived.Shelf.Strconv.Itoa2
import Derived.Shelf.Strconv.Itoa3
import Derived.Shelf.Strconv.Clone
import Derived.Shelf.Slices.Clone
import Derived.Test.YtlcppnabbicmoaaGreatDoorProg
import Derived.Lib.AppendIntMem
set_option maxHeartbeats 8000000
set_option maxRecDepth 1000000
namespace Go.Proofs.YtlcppnabbicmoaaGreatDoor
open Go.RowKit
open Tr
theorem precP_no (T:List ByteArray)(r:List Nat):Lx.precP T ⟨#[]⟩ r=Lx.precOf T.length r:=if_pos rfl
theorem put_no {D F:Nat->Prop} {w:World} {mb:Nat} {T N:List ByteArray} {b:Nat} {H:List Lx.It} {P:List Lx.Pd} (h:Mk2 D F w mb T N b H P) (left:Nat) (vR:Value) (r:List Nat) (hr:IR 0 w vR r) (hrD:∀ g,vR.ownBlock=some g->D g/\mb<g) (hP:P.length<=1000000000000) :
  Calls Tryz.prog 67 #[.pointer (some ⟨mb,0,none⟩),.int .i64 (left:Int),vR,.string ⟨#[]⟩] w fun e w'=>e=.returned (.tuple #[])/\Mk2 D F w' mb T N b H (P++[Lx.pdOf T.length left r])/\Kp D w w':=by
 have h1:=put_any h left vR r hr hrD ⟨#[]⟩ (fun e=>absurd rfl e) hP;rw[precP_no]at h1;exact h1
theorem Mk2.lm {D F:Nat->Prop}{w:World}{mb:Nat}{T N:List ByteArray}{b:Nat}{H:List Lx.It}{P:List Lx.Pd}(h:Mk2 D F w mb T N b H P):mb<w.heap.size:=by
 obtain⟨vT,vN,vP,vH,vL,h1,-⟩:=h.ex;exact h1.lt
theorem helper_any {D F:Nat->Prop} {w:World} {mb:Nat} {T N:List ByteArray} {b:Nat} {H:List Lx.It} {P:List Lx.Pd} (h:Mk2 D F w mb T N b H P) (it:Lx.It) (va:Value) (ha:AltsIn YR 9 F w va it.alts) (hp:it.kind≠2->Lx.Plain1 T N it) (hs:it.kind=2->∀ a,a∈it.alts->a.1.length<=10000/\∀ x,x∈a.1->Lx.SymOk T N H x) (hl:it.alts.length<=10000) (s:Nat) (hP:P.length+2*(Lx.partsOf T N b H it).length+1<=1000000000000) (hrl:∀ r,r∈Lx.partsOf T N b H it->r.length<=10000) :
  Calls Tryz.prog 69 #[.pointer (some ⟨mb,0,none⟩),itV va it,.int .i64 (s:Int)] w fun e w'=>e=.returned (.tuple #[])/\∃ D',Mk2 D' F w' mb T N b H (P++Lx.helpPd T.length s it.mark (Lx.partsOf T N b H it))/\(∀ g,D g->D' g)/\Kp D w w':=by
 obtain⟨i0,hii,hz0,hz1,hz2⟩:=info_parts Tryz.info3;obtain⟨sa,sc,hva,-⟩:=AltsIn.len ha;subst hva;have lmb:=h.lm;unfold itV;generalize hps:Lx.partsOf T N b H it=ps at hP hrl ⊢;go_enter Tryz.func69,Tryz.ntmps69;obtain⟨W,hW⟩:∃ W,W=w.alloc (.cells #[.int .i64 (it.kind:Int),.string it.name,.int .u8 (it.mark:Int),.slice sa it.alts.length sc,.int .i64 (it.place:Int)] 148):=⟨_,rfl⟩;have hB:Below w.heap.size w W:=by rw[hW];exact (Below.refl _ _).alloc (Nat.le_refl _) _
 have hWs:W.heap.size=w.heap.size+1:=by rw[hW];simp
 have kx:Blk W w.heap.size #[.int .i64 (it.kind:Int),.string it.name,.int .u8 (it.mark:Int),.slice sa it.alts.length sc,.int .i64 (it.place:Int)] 148:=by rw[hW];exact Blk.new w _ 148
 go_wp2_with fail;rw[<-hW];clear hW;have haW:AltsIn YR 9 F W (.slice sa it.alts.length sc) it.alts:=AltsIn.move (fun g hg=>hB.block g (h.lt g (h.fd g hg))) (fun _ h=>h) ha;refine (parts_any (h.rd.below hB) it _ haW hp hs hl).mono ?_;rintro e w2 ⟨u,rfl,hu,hb2⟩;rw[hps]at hu;clear hps;have hbw2:Below w.heap.size w w2:=hB.trans (hb2.mono (by omega));have hM2:=h.more hbw2;have hs2:=hb2.size;have kx2:Blk w2 w.heap.size _ 148:=(hb2.block _ (by omega)).trans kx;have hDx:More D w w2 w.heap.size:=.inr ⟨Nat.le_refl _,by omega⟩;obtain⟨D2,hD2⟩:∃ D2,D2=More D w w2:=⟨_,rfl⟩;rw[<-hD2]at hM2 hDx;have hDD:∀ g,D g->D2 g:=fun g hg=>by rw[hD2];exact .inl hg
 have hDn:∀ g,W.heap.size<=g->g<w2.heap.size->D2 g:=fun g h1 h2=>by rw[hD2];exact .inr ⟨by omega,h2⟩
 have hK2:Kp D w w2:=Kp.below hbw2 h.lt;clear hD2;obtain⟨la,lc,hvu,hlm⟩:=hu.len;subst hvu;unfold maxLen at hlm
 by_cases h42:it.mark=42
 ·have hmk:=h42
  clear h42;have hq42:((it.mark:Int) == 42)=true:=by simp[hmk]
  have hn42:((it.mark:Int) != 42)=false:=by simp[hmk]
  have hq63:((it.mark:Int) == 63)=false:=beq_eq_false_iff_ne.2 (by omega);have hn63:((it.mark:Int) != 63)=true:=bne_iff_ne.2 (by omega);have hd63:¬ (it.mark:Int)=63:=by omega
  have hq43:((it.mark:Int) == 43)=false:=beq_eq_false_iff_ne.2 (by omega);have hn43:((it.mark:Int) != 43)=true:=bne_iff_ne.2 (by omega);have hd43:¬ (it.mark:Int)=43:=by omega
  have HH:Hid (Lx.helpPd T.length s it.mark ps=[Lx.pdOf T.length s []]++([]++ps.map fun r=>Lx.pdOf T.length s (s::r))):=by simp[Hid,Lx.helpPd,hmk]
  have HMK:Hid (it.mark=42):=hmk;clear hmk;have x22:w2.cell? ⟨w.heap.size,2,none⟩=some (.int .u8 (it.mark:Int)):=kx2.cell 2;go_wp2_with fail;refine (put_no hM2 s (.slice none 0 0) [] (World.ownsRow_nil _ _ _ _) (fun g hg=>by simp[Value.ownBlock]at hg) (by omega)).mono ?_;rintro e w3 ⟨rfl,hM3,hK3⟩;obtain⟨P3,hP3⟩:∃ P3,P3=P++[Lx.pdOf T.length s []]:=⟨_,rfl⟩;have hP3l:P3.length+2*ps.length<=1000000000000:=by rw[hP3,List.length_append,List.length_singleton];omega
  have HP3:Hid (P3=P++[Lx.pdOf T.length s []]):=hP3;rw[<-hP3]at hM3;clear hP3 x22;go_wp2_with fail
  by_cases hpos:0<ps.length
  ·skip
   go_loopg [7] 0 (fun k i wr=>k=0/\i=.int .i64 0/\wr=w3)
   case atStart=>exact⟨rfl,rfl,rfl⟩
   case round =>
    obtain⟨rfl,rfl,hwr⟩:=hrel;have hMr:Mk2 D2 F wr mb T N b H P3:=hwr ▸ hM3;have hKr:Kp D2 w2 wr:=hwr ▸ hK3;clear hwr hM3 hK3;have hKr2:∀ g,D2 g->wr.heap[g]?=w2.heap[g]?:=hKr.block;have kxr:Blk wr w.heap.size _ 148:=(hKr2 _ hDx).trans kx2;have x2:wr.cell? ⟨w.heap.size,2,none⟩=some (.int .u8 (it.mark:Int)):=kxr.cell 2;have lmr:=hMr.lm;obtain⟨P4,hP4⟩:∃ P4,P4=P3++[]:=⟨_,rfl⟩;have hP4l:P4.length+ps.length<=1000000000000:=by rw[hP4,List.append_nil];omega
    have HP4:Hid (P4=P3++[]):=hP4;rw[List.append_nil]at hP4;rw[<-hP4]at hMr;clear hP4;go_wp2_with fail
    all_goals
     clear x2 kxr lmr hKr2;obtain⟨w4,hw4⟩:∃ w4,w4=wr:=⟨_,rfl⟩;rw[<-hw4]at hMr hKr ⊢;clear hw4;have hM4:=hMr;have hK4:=hKr;clear hMr hKr
     go_loopg [8] ps.length (fun k i wr=>∃ (m:Nat) (D3:Nat->Prop),m+k=ps.length/\i=.int .i64 m/\Mk2 D3 F wr mb T N b H (P4++(ps.take m).map (fun r=>Lx.pdOf T.length s (s::r)))/\(∀ g,D2 g->D3 g)/\Kp D2 w2 wr)
     case atStart=>exact⟨0,D2,by omega,rfl,by simpa using hM4,fun _ h=>h,hK4⟩
     case round =>
      clear hM4 hK4;obtain⟨m,D3,hkm,rfl,hMr,hD3,hKr⟩:=hrel;have hKr2:∀ g,D2 g->wr.heap[g]?=w2.heap[g]?:=hKr.block;have kxr:Blk wr w.heap.size _ 148:=(hKr2 _ hDx).trans kx2;have x2:wr.cell? ⟨w.heap.size,2,none⟩=some (.int .u8 (it.mark:Int)):=kxr.cell 2;have lmr:=hMr.lm
      by_cases hlt:m<ps.length
      ·have htk:(ps.take (m+1)).map (fun r=>Lx.pdOf T.length s (s::r))=(ps.take m).map (fun r=>Lx.pdOf T.length s (s::r))++[Lx.pdOf T.length s (s::ps[m])]:=by rw[List.take_succ_eq_append_getElem hlt,List.map_append];rfl
       have HTK:Hid _:=htk;clear htk;obtain⟨gl,cl,ur,hv,hgl1,hgl2,hcl,hur⟩:=hu.at hlt;cases hv;have hclr:wr.cell? ⟨gl,m,none⟩=some ur:=(World.cell?_of_block (w:=w2) (hKr2 gl (hDn gl hgl1 hgl2))).trans hcl;have lglr:gl<wr.heap.size:=Nat.lt_of_lt_of_le hgl2 hKr.size;have hurD:∀ g,ur.ownBlock=some g->D2 g:=fun g hg=>hDn g (hur.lt g hg).1 (hur.lt g hg).2
       have hurM:∀ g,ur.ownBlock=some g->mb<g:=fun g hg=>by have:=(hur.lt g hg).1;omega
       have hurr:IR 0 wr ur ps[m]:=own_le (own_move hur fun g hg=>hKr2 g (hurD g hg)) (Nat.zero_le _);have hrlm:=hrl ps[m] (List.getElem_mem hlt);clear hur;generalize ps[m]=pm at hurr hrlm HTK;obtain⟨ra,rc,hvr,-⟩:=own_len hurr;subst hvr;have lD3:=hMr.lt;have own0:(wr.alloc (.cells #[.int .i64 (s:Int)] 3)).ownsRow wr.heap.size 3 1 (.slice (some ⟨wr.heap.size,0,none⟩) 1 1) 1 [.int .i64 (s:Int)]:=⟨rfl,.inr ⟨wr.heap.size,1,_,rfl,Nat.le_refl _,Blk.new wr _ 3,Nat.le_refl _,by decide,rfl,rfl⟩⟩;have hb0:Below wr.heap.size wr (wr.alloc (.cells #[.int .i64 (s:Int)] 3)):=(Below.refl _ _).alloc (Nat.le_refl _) _;have hPl:(P4++(ps.take m).map (fun r=>Lx.pdOf T.length s (s::r))).length<=1000000000000:=by rw[List.length_append,List.length_map,List.length_take];omega
       obtain⟨P5,hP5⟩:∃ P5,P5=P4++(ps.take m).map (fun r=>Lx.pdOf T.length s (s::r)):=⟨_,rfl⟩;rw[<-hP5]at hMr hPl;have HP5:Hid _:=hP5;clear hP5;rcases hurr.2 with ⟨hu5,hzero⟩ | ⟨g4,cap4,cur4,hu5,hg4,hgg4,hc4,hcm4,-,-⟩
       ·obtain rfl:pm=[]:=List.eq_nil_of_length_eq_zero hzero
        cases hu5
        go_wp2_with (at_builtin;go_loud (refine wpList_append_own_none rfl _ _ 24 rfl wr.heap.size 3 i0 1 Tryz.underlying24 hii (.slice (some ⟨wr.heap.size,0,none⟩) 1 1) _ _ rfl own0 rfl ?_))
        have hM5:=hMr.more hb0;have hr5:IR 0 (wr.alloc (.cells #[.int .i64 (s:Int)] 3)) (.slice (some ⟨wr.heap.size,0,none⟩) 1 1) (s::[]):=own_le own0 (Nat.zero_le _);refine (put_no hM5 s _ (s::[]) hr5 (fun g hg=>⟨.inr (own0.lt g hg),Nat.lt_of_lt_of_le lmr (own0.lt g hg).1⟩) hPl).mono ?_;rintro e w6 ⟨rfl,hM6,hK6⟩;have hK7:Kp D2 w2 w6:=(hKr.trans (Kp.below hb0 lD3) hD3).trans hK6 (fun g hg=>.inl (hD3 g hg));have hM7:=hM6;rw[HP5.out,List.append_assoc,<-HTK.out]at hM7;go_wp2_with fail;go_roundg (ps.length - (m+1))
        case measure=>omega
        case rel=>exact⟨m+1,_,by omega,by go_num,hM7,fun g hg=>.inl (hD3 g hg),hK7⟩
       ·cases hu5
        unfold maxLen at hcm4;have hurA:∀ j u,(intsV pm)[j]?=some u->(wr.alloc (.cells #[.int .i64 (s:Int)] 3)).cell? ((⟨g4,0,none⟩:Addr).add j)=some u:=(World.ownsRow.alloc hurr _).cells rfl
        go_wp2_with (at_builtin;go_loud (refine wpList_append_own_at _ rfl _ _ 24 rfl wr.heap.size 3 i0 _ 1 8 Tryz.underlying24 hii hz0 hz1 hz2 rfl (by decide) (.slice (some ⟨wr.heap.size,0,none⟩) 1 1) _ _ rfl own0 ⟨g4,0,none⟩ pm.length rc (intsV pm) rfl (by rw[intsV_len,Nat.mul_one]) hurA (intsV_one _) (by unfold maxLen;omega) (by omega) (by simp) ?_;intro v5 w5 hown5 hgrow5 _ _;obtain⟨oa5,oc5,hv5,-⟩:=own_len hown5;subst hv5))
        have hb5:Below wr.heap.size wr w5:=hb0.grown hgrow5 (by simp) (fun k hk=>(own0.lt k hk).1);have hM5:=hMr.more hb5;have hr5:IR 0 w5 (.slice oa5 (1+pm.length) oc5) (s::pm):=by
         have h9:=own_le hown5 (Nat.zero_le _);unfold IR;rw[show (s::pm).length=1+pm.length by rw[List.length_cons];omega];exact h9
        refine (put_no hM5 s _ (s::pm) hr5 (fun g hg=>⟨.inr (hown5.lt g hg),Nat.lt_of_lt_of_le lmr (hown5.lt g hg).1⟩) hPl).mono ?_;rintro e w6 ⟨rfl,hM6,hK6⟩;have hK7:Kp D2 w2 w6:=(hKr.trans (Kp.below hb5 lD3) hD3).trans hK6 (fun g hg=>.inl (hD3 g hg));have hM7:=hM6;rw[HP5.out,List.append_assoc,<-HTK.out]at hM7;go_wp2_with fail;go_roundg (ps.length - (m+1))
        case measure=>omega
        case rel=>exact⟨m+1,_,by omega,by go_num,hM7,fun g hg=>.inl (hD3 g hg),hK7⟩
      ·have:m=ps.length:=by omega
       subst this;rw[List.take_length]at hMr;go_wp2_with fail
       go_end0
       refine⟨rfl,D3,?_,fun g hg=>hD3 g (hDD g hg),hK2.trans hKr hDD⟩;have e9:=HP4.out;rw[e9,HP3.out]at hMr;rw[HH.out];simpa [List.append_assoc]using hMr
  ·have hps0:ps=[]:=List.eq_nil_of_length_eq_zero (by omega)
   have HH2:Hid (Lx.helpPd T.length s it.mark ps=[Lx.pdOf T.length s []]++([]++[])):=by have:=HH.out;rw[hps0]at this ⊢;exact this
   clear HH hps0;have HH:=HH2
   go_loopg [7] 0 (fun k i wr=>k=0/\i=.int .i64 0/\wr=w3)
   case atStart=>exact⟨rfl,rfl,rfl⟩
   case round =>
    obtain⟨rfl,rfl,hwr⟩:=hrel;have hMr:Mk2 D2 F wr mb T N b H P3:=hwr ▸ hM3;have hKr:Kp D2 w2 wr:=hwr ▸ hK3;clear hwr hM3 hK3;have hKr2:∀ g,D2 g->wr.heap[g]?=w2.heap[g]?:=hKr.block;have kxr:Blk wr w.heap.size _ 148:=(hKr2 _ hDx).trans kx2;have x2:wr.cell? ⟨w.heap.size,2,none⟩=some (.int .u8 (it.mark:Int)):=kxr.cell 2;have lmr:=hMr.lm;obtain⟨P4,hP4⟩:∃ P4,P4=P3++[]:=⟨_,rfl⟩;have hP4l:P4.length+ps.length<=1000000000000:=by rw[hP4,List.append_nil];omega
    have HP4:Hid (P4=P3++[]):=hP4;rw[List.append_nil]at hP4;rw[<-hP4]at hMr;clear hP4;go_wp2_with fail
    all_goals
     clear x2 kxr lmr hKr2;obtain⟨w4,hw4⟩:∃ w4,w4=wr:=⟨_,rfl⟩;rw[<-hw4]at hMr hKr ⊢;clear hw4
     go_loopg [8] 0 (fun k i wr=>k=0/\i=.int .i64 0/\wr=w4)
     case atStart=>exact⟨rfl,rfl,rfl⟩
     case round =>
      obtain⟨rfl,rfl,hwr⟩:=hrel;rw[<-hwr]at hMr hKr;clear hwr;have hKr2:∀ g,D2 g->wr.heap[g]?=w2.heap[g]?:=hKr.block;have kxr:Blk wr w.heap.size _ 148:=(hKr2 _ hDx).trans kx2;have x2:wr.cell? ⟨w.heap.size,2,none⟩=some (.int .u8 (it.mark:Int)):=kxr.cell 2;have lmr:=hMr.lm;go_wp2_with fail
      all_goals
       go_end0
       refine⟨rfl,D2,?_,hDD,hK2.trans hKr hDD⟩;have e9:=HP4.out;rw[e9,HP3.out]at hMr;rw[HH.out];simpa [List.append_assoc]using hMr
 ·by_cases h63:it.mark=63
  ·have hmk:=h63
   clear h63;have hq42:((it.mark:Int) == 42)=false:=beq_eq_false_iff_ne.2 (by omega);have hn42:((it.mark:Int) != 42)=true:=bne_iff_ne.2 (by omega);have hd42:¬ (it.mark:Int)=42:=by omega
   have hq63:((it.mark:Int) == 63)=true:=by simp[hmk]
   have hn63:((it.mark:Int) != 63)=false:=by simp[hmk]
   have hq43:((it.mark:Int) == 43)=false:=beq_eq_false_iff_ne.2 (by omega);have hn43:((it.mark:Int) != 43)=true:=bne_iff_ne.2 (by omega);have hd43:¬ (it.mark:Int)=43:=by omega
   have HH:Hid (Lx.helpPd T.length s it.mark ps=[Lx.pdOf T.length s []]++(ps.map (Lx.pdOf T.length s)++[])):=by simp[Hid,Lx.helpPd,hmk]
   have HMK:Hid (it.mark=63):=hmk;clear hmk;clear h42;have x22:w2.cell? ⟨w.heap.size,2,none⟩=some (.int .u8 (it.mark:Int)):=kx2.cell 2;go_wp2_with fail;refine (put_no hM2 s (.slice none 0 0) [] (World.ownsRow_nil _ _ _ _) (fun g hg=>by simp[Value.ownBlock]at hg) (by omega)).mono ?_;rintro e w3 ⟨rfl,hM3,hK3⟩;obtain⟨P3,hP3⟩:∃ P3,P3=P++[Lx.pdOf T.length s []]:=⟨_,rfl⟩;have hP3l:P3.length+2*ps.length<=1000000000000:=by rw[hP3,List.length_append,List.length_singleton];omega
   have HP3:Hid (P3=P++[Lx.pdOf T.length s []]):=hP3;rw[<-hP3]at hM3;clear hP3 x22;go_wp2_with fail
   go_loopg [7] ps.length (fun k i wr=>∃ m:Nat,m+k=ps.length/\i=.int .i64 m/\Mk2 D2 F wr mb T N b H (P3++(ps.take m).map (Lx.pdOf T.length s))/\Kp D2 w2 wr)
   case atStart=>exact⟨0,by omega,rfl,by simpa using hM3,hK3⟩
   case round =>
    clear hM3 hK3;obtain⟨m,hkm,rfl,hMr,hKr⟩:=hrel;have hKr2:∀ g,D2 g->wr.heap[g]?=w2.heap[g]?:=hKr.block;have kxr:Blk wr w.heap.size _ 148:=(hKr2 _ hDx).trans kx2;have x2:wr.cell? ⟨w.heap.size,2,none⟩=some (.int .u8 (it.mark:Int)):=kxr.cell 2;have lmr:=hMr.lm
    by_cases hlt:m<ps.length
    ·have htk:(ps.take (m+1)).map (Lx.pdOf T.length s)=(ps.take m).map (Lx.pdOf T.length s)++[Lx.pdOf T.length s ps[m]]:=by rw[List.take_succ_eq_append_getElem hlt,List.map_append];rfl
     have HTK:Hid _:=htk;clear htk;obtain⟨gl,cl,ur,hv,hgl1,hgl2,hcl,hur⟩:=hu.at hlt;cases hv;have hclr:wr.cell? ⟨gl,m,none⟩=some ur:=(World.cell?_of_block (w:=w2) (hKr2 gl (hDn gl hgl1 hgl2))).trans hcl;have lglr:gl<wr.heap.size:=Nat.lt_of_lt_of_le hgl2 hKr.size;have hurD:∀ g,ur.ownBlock=some g->D2 g:=fun g hg=>hDn g (hur.lt g hg).1 (hur.lt g hg).2
     have hurM:∀ g,ur.ownBlock=some g->mb<g:=fun g hg=>by have:=(hur.lt g hg).1;omega
     have hurr:IR 0 wr ur ps[m]:=own_le (own_move hur fun g hg=>hKr2 g (hurD g hg)) (Nat.zero_le _);have hrlm:=hrl ps[m] (List.getElem_mem hlt);clear hur;generalize ps[m]=pm at hurr hrlm HTK;obtain⟨ra,rc,hvr,-⟩:=own_len hurr;subst hvr;go_wp2_with fail;refine (put_no hMr s _ pm hurr (fun g hg=>⟨hurD g hg,hurM g hg⟩) (by rw[List.length_append,List.length_map,List.length_take];omega)).mono ?_;rintro e w5 ⟨rfl,hM5,hK5⟩;have hK6:=hKr.trans hK5 (fun _ h=>h);have hM6:Mk2 D2 F w5 mb T N b H (P3++(ps.take (m+1)).map (Lx.pdOf T.length s)):=by rw[HTK.out,<-List.append_assoc];exact hM5
     go_wp2_with fail;go_roundg (ps.length - (m+1))
     case measure=>omega
     case rel=>exact⟨m+1,by omega,by go_num,hM6,hK6⟩
    ·have:m=ps.length:=by omega
     subst this;rw[List.take_length]at hMr;obtain⟨P4,hP4⟩:∃ P4,P4=P3++ps.map (Lx.pdOf T.length s):=⟨_,rfl⟩;have hP4l:P4.length+ps.length<=1000000000000:=by rw[hP4,List.length_append,List.length_map];omega
     have HP4:Hid (P4=P3++ps.map (Lx.pdOf T.length s)):=hP4;rw[<-hP4]at hMr;clear hP4;go_wp2_with fail;clear x2 kxr lmr hKr2;obtain⟨w4,hw4⟩:∃ w4,w4=wr:=⟨_,rfl⟩;rw[<-hw4]at hMr hKr ⊢;clear hw4
     go_loopg [8] 0 (fun k i wr=>k=0/\i=.int .i64 0/\wr=w4)
     case atStart=>exact⟨rfl,rfl,rfl⟩
     case round =>
      obtain⟨rfl,rfl,hwr⟩:=hrel;rw[<-hwr]at hMr hKr;clear hwr;have hKr2:∀ g,D2 g->wr.heap[g]?=w2.heap[g]?:=hKr.block;have kxr:Blk wr w.heap.size _ 148:=(hKr2 _ hDx).trans kx2;have x2:wr.cell? ⟨w.heap.size,2,none⟩=some (.int .u8 (it.mark:Int)):=kxr.cell 2;have lmr:=hMr.lm;go_wp2_with fail
      all_goals
       go_end0
       refine⟨rfl,D2,?_,hDD,hK2.trans hKr hDD⟩;have e9:=HP4.out;rw[e9,HP3.out]at hMr;rw[HH.out];simpa [List.append_assoc]using hMr
  ·by_cases h43:it.mark=43
   ·have hmk:=h43
    clear h43;have hq42:((it.mark:Int) == 42)=false:=beq_eq_false_iff_ne.2 (by omega);have hn42:((it.mark:Int) != 42)=true:=bne_iff_ne.2 (by omega);have hd42:¬ (it.mark:Int)=42:=by omega
    have hq63:((it.mark:Int) == 63)=false:=beq_eq_false_iff_ne.2 (by omega);have hn63:((it.mark:Int) != 63)=true:=bne_iff_ne.2 (by omega);have hd63:¬ (it.mark:Int)=63:=by omega
    have hq43:((it.mark:Int) == 43)=true:=by simp[hmk]
    have hn43:((it.mark:Int) != 43)=false:=by simp[hmk]
    have HH:Hid (Lx.helpPd T.length s it.mark ps=[]++(ps.map (Lx.pdOf T.length s)++ps.map fun r=>Lx.pdOf T.length s (s::r))):=by simp[Hid,Lx.helpPd,hmk]
    have HMK:Hid (it.mark=43):=hmk;clear hmk;clear h42 h63;have x22:w2.cell? ⟨w.heap.size,2,none⟩=some (.int .u8 (it.mark:Int)):=kx2.cell 2;go_wp2_with fail;obtain⟨w3,hw3⟩:∃ w3,w3=w2:=⟨_,rfl⟩;rw[<-hw3];obtain⟨P3,hP3⟩:∃ P3,P3=P++[]:=⟨_,rfl⟩;have hP3l:P3.length+2*ps.length<=1000000000000:=by rw[hP3,List.append_nil];omega
    have HP3:Hid (P3=P++[]):=hP3;have hM3:Mk2 D2 F w3 mb T N b H P3:=by rw[hP3,List.append_nil,hw3];exact hM2
    have hK3:Kp D2 w2 w3:=by rw[hw3];exact Kp.refl _ _
    clear hP3 x22 hw3
    go_loopg [7] ps.length (fun k i wr=>∃ m:Nat,m+k=ps.length/\i=.int .i64 m/\Mk2 D2 F wr mb T N b H (P3++(ps.take m).map (Lx.pdOf T.length s))/\Kp D2 w2 wr)
    case atStart=>exact⟨0,by omega,rfl,by simpa using hM3,hK3⟩
    case round =>
     clear hM3 hK3;obtain⟨m,hkm,rfl,hMr,hKr⟩:=hrel;have hKr2:∀ g,D2 g->wr.heap[g]?=w2.heap[g]?:=hKr.block;have kxr:Blk wr w.heap.size _ 148:=(hKr2 _ hDx).trans kx2;have x2:wr.cell? ⟨w.heap.size,2,none⟩=some (.int .u8 (it.mark:Int)):=kxr.cell 2;have lmr:=hMr.lm
     by_cases hlt:m<ps.length
     ·have htk:(ps.take (m+1)).map (Lx.pdOf T.length s)=(ps.take m).map (Lx.pdOf T.length s)++[Lx.pdOf T.length s ps[m]]:=by rw[List.take_succ_eq_append_getElem hlt,List.map_append];rfl
      have HTK:Hid _:=htk;clear htk;obtain⟨gl,cl,ur,hv,hgl1,hgl2,hcl,hur⟩:=hu.at hlt;cases hv;have hclr:wr.cell? ⟨gl,m,none⟩=some ur:=(World.cell?_of_block (w:=w2) (hKr2 gl (hDn gl hgl1 hgl2))).trans hcl;have lglr:gl<wr.heap.size:=Nat.lt_of_lt_of_le hgl2 hKr.size;have hurD:∀ g,ur.ownBlock=some g->D2 g:=fun g hg=>hDn g (hur.lt g hg).1 (hur.lt g hg).2
      have hurM:∀ g,ur.ownBlock=some g->mb<g:=fun g hg=>by have:=(hur.lt g hg).1;omega
      have hurr:IR 0 wr ur ps[m]:=own_le (own_move hur fun g hg=>hKr2 g (hurD g hg)) (Nat.zero_le _);have hrlm:=hrl ps[m] (List.getElem_mem hlt);clear hur;generalize ps[m]=pm at hurr hrlm HTK;obtain⟨ra,rc,hvr,-⟩:=own_len hurr;subst hvr;go_wp2_with fail;refine (put_no hMr s _ pm hurr (fun g hg=>⟨hurD g hg,hurM g hg⟩) (by rw[List.length_append,List.length_map,List.length_take];omega)).mono ?_;rintro e w5 ⟨rfl,hM5,hK5⟩;have hK6:=hKr.trans hK5 (fun _ h=>h);have hM6:Mk2 D2 F w5 mb T N b H (P3++(ps.take (m+1)).map (Lx.pdOf T.length s)):=by rw[HTK.out,<-List.append_assoc];exact hM5
      go_wp2_with fail;go_roundg (ps.length - (m+1))
      case measure=>omega
      case rel=>exact⟨m+1,by omega,by go_num,hM6,hK6⟩
     ·have:m=ps.length:=by omega
      subst this;rw[List.take_length]at hMr;obtain⟨P4,hP4⟩:∃ P4,P4=P3++ps.map (Lx.pdOf T.length s):=⟨_,rfl⟩;have hP4l:P4.length+ps.length<=1000000000000:=by rw[hP4,List.length_append,List.length_map];omega
      have HP4:Hid (P4=P3++ps.map (Lx.pdOf T.length s)):=hP4;rw[<-hP4]at hMr;clear hP4;go_wp2_with fail;clear x2 kxr lmr hKr2;obtain⟨w4,hw4⟩:∃ w4,w4=wr:=⟨_,rfl⟩;rw[<-hw4]at hMr hKr ⊢;clear hw4;have hM4:=hMr;have hK4:=hKr;clear hMr hKr
      go_loopg [8] ps.length (fun k i wr=>∃ (m:Nat) (D3:Nat->Prop),m+k=ps.length/\i=.int .i64 m/\Mk2 D3 F wr mb T N b H (P4++(ps.take m).map (fun r=>Lx.pdOf T.length s (s::r)))/\(∀ g,D2 g->D3 g)/\Kp D2 w2 wr)
      case atStart=>exact⟨0,D2,by omega,rfl,by simpa using hM4,fun _ h=>h,hK4⟩
      case round =>
       clear hM4 hK4;obtain⟨m,D3,hkm,rfl,hMr,hD3,hKr⟩:=hrel;have hKr2:∀ g,D2 g->wr.heap[g]?=w2.heap[g]?:=hKr.block;have kxr:Blk wr w.heap.size _ 148:=(hKr2 _ hDx).trans kx2;have x2:wr.cell? ⟨w.heap.size,2,none⟩=some (.int .u8 (it.mark:Int)):=kxr.cell 2;have lmr:=hMr.lm
       by_cases hlt:m<ps.length
       ·have htk:(ps.take (m+1)).map (fun r=>Lx.pdOf T.length s (s::r))=(ps.take m).map (fun r=>Lx.pdOf T.length s (s::r))++[Lx.pdOf T.length s (s::ps[m])]:=by rw[List.take_succ_eq_append_getElem hlt,List.map_append];rfl
        have HTK:Hid _:=htk;clear htk;obtain⟨gl,cl,ur,hv,hgl1,hgl2,hcl,hur⟩:=hu.at hlt;cases hv;have hclr:wr.cell? ⟨gl,m,none⟩=some ur:=(World.cell?_of_block (w:=w2) (hKr2 gl (hDn gl hgl1 hgl2))).trans hcl;have lglr:gl<wr.heap.size:=Nat.lt_of_lt_of_le hgl2 hKr.size;have hurD:∀ g,ur.ownBlock=some g->D2 g:=fun g hg=>hDn g (hur.lt g hg).1 (hur.lt g hg).2
        have hurM:∀ g,ur.ownBlock=some g->mb<g:=fun g hg=>by have:=(hur.lt g hg).1;omega
        have hurr:IR 0 wr ur ps[m]:=own_le (own_move hur fun g hg=>hKr2 g (hurD g hg)) (Nat.zero_le _);have hrlm:=hrl ps[m] (List.getElem_mem hlt);clear hur;generalize ps[m]=pm at hurr hrlm HTK;obtain⟨ra,rc,hvr,-⟩:=own_len hurr;subst hvr;have lD3:=hMr.lt;have own0:(wr.alloc (.cells #[.int .i64 (s:Int)] 3)).ownsRow wr.heap.size 3 1 (.slice (some ⟨wr.heap.size,0,none⟩) 1 1) 1 [.int .i64 (s:Int)]:=⟨rfl,.inr ⟨wr.heap.size,1,_,rfl,Nat.le_refl _,Blk.new wr _ 3,Nat.le_refl _,by decide,rfl,rfl⟩⟩;have hb0:Below wr.heap.size wr (wr.alloc (.cells #[.int .i64 (s:Int)] 3)):=(Below.refl _ _).alloc (Nat.le_refl _) _;have hPl:(P4++(ps.take m).map (fun r=>Lx.pdOf T.length s (s::r))).length<=1000000000000:=by rw[List.length_append,List.length_map,List.length_take];omega
        obtain⟨P5,hP5⟩:∃ P5,P5=P4++(ps.take m).map (fun r=>Lx.pdOf T.length s (s::r)):=⟨_,rfl⟩;rw[<-hP5]at hMr hPl;have HP5:Hid _:=hP5;clear hP5;rcases hurr.2 with ⟨hu5,hzero⟩ | ⟨g4,cap4,cur4,hu5,hg4,hgg4,hc4,hcm4,-,-⟩
        ·obtain rfl:pm=[]:=List.eq_nil_of_length_eq_zero hzero
         cases hu5
         go_wp2_with (at_builtin;go_loud (refine wpList_append_own_none rfl _ _ 24 rfl wr.heap.size 3 i0 1 Tryz.underlying24 hii (.slice (some ⟨wr.heap.size,0,none⟩) 1 1) _ _ rfl own0 rfl ?_))
         have hM5:=hMr.more hb0;have hr5:IR 0 (wr.alloc (.cells #[.int .i64 (s:Int)] 3)) (.slice (some ⟨wr.heap.size,0,none⟩) 1 1) (s::[]):=own_le own0 (Nat.zero_le _);refine (put_no hM5 s _ (s::[]) hr5 (fun g hg=>⟨.inr (own0.lt g hg),Nat.lt_of_lt_of_le lmr (own0.lt g hg).1⟩) hPl).mono ?_;rintro e w6 ⟨rfl,hM6,hK6⟩;have hK7:Kp D2 w2 w6:=(hKr.trans (Kp.below hb0 lD3) hD3).trans hK6 (fun g hg=>.inl (hD3 g hg));have hM7:=hM6;rw[HP5.out,List.append_assoc,<-HTK.out]at hM7;go_wp2_with fail;go_roundg (ps.length - (m+1))
         case measure=>omega
         case rel=>exact⟨m+1,_,by omega,by go_num,hM7,fun g hg=>.inl (hD3 g hg),hK7⟩
        ·cases hu5
         unfold maxLen at hcm4;have hurA:∀ j u,(intsV pm)[j]?=some u->(wr.alloc (.cells #[.int .i64 (s:Int)] 3)).cell? ((⟨g4,0,none⟩:Addr).add j)=some u:=(World.ownsRow.alloc hurr _).cells rfl
         go_wp2_with (at_builtin;go_loud (refine wpList_append_own_at _ rfl _ _ 24 rfl wr.heap.size 3 i0 _ 1 8 Tryz.underlying24 hii hz0 hz1 hz2 rfl (by decide) (.slice (some ⟨wr.heap.size,0,none⟩) 1 1) _ _ rfl own0 ⟨g4,0,none⟩ pm.length rc (intsV pm) rfl (by rw[intsV_len,Nat.mul_one]) hurA (intsV_one _) (by unfold maxLen;omega) (by omega) (by simp) ?_;intro v5 w5 hown5 hgrow5 _ _;obtain⟨oa5,oc5,hv5,-⟩:=own_len hown5;subst hv5))
         have hb5:Below wr.heap.size wr w5:=hb0.grown hgrow5 (by simp) (fun k hk=>(own0.lt k hk).1);have hM5:=hMr.more hb5;have hr5:IR 0 w5 (.slice oa5 (1+pm.length) oc5) (s::pm):=by
          have h9:=own_le hown5 (Nat.zero_le _);unfold IR;rw[show (s::pm).length=1+pm.length by rw[List.length_cons];omega];exact h9
         refine (put_no hM5 s _ (s::pm) hr5 (fun g hg=>⟨.inr (hown5.lt g hg),Nat.lt_of_lt_of_le lmr (hown5.lt g hg).1⟩) hPl).mono ?_;rintro e w6 ⟨rfl,hM6,hK6⟩;have hK7:Kp D2 w2 w6:=(hKr.trans (Kp.below hb5 lD3) hD3).trans hK6 (fun g hg=>.inl (hD3 g hg));have hM7:=hM6;rw[HP5.out,List.append_assoc,<-HTK.out]at hM7;go_wp2_with fail;go_roundg (ps.length - (m+1))
         case measure=>omega
         case rel=>exact⟨m+1,_,by omega,by go_num,hM7,fun g hg=>.inl (hD3 g hg),hK7⟩
       ·have:m=ps.length:=by omega
        subst this;rw[List.take_length]at hMr;go_wp2_with fail
        go_end0
        refine⟨rfl,D3,?_,fun g hg=>hD3 g (hDD g hg),hK2.trans hKr hDD⟩;have e9:=HP4.out;rw[e9,HP3.out]at hMr;rw[HH.out];simpa [List.append_assoc]using hMr
   ·skip
    have hq42:((it.mark:Int) == 42)=false:=beq_eq_false_iff_ne.2 (by omega);have hn42:((it.mark:Int) != 42)=true:=bne_iff_ne.2 (by omega);have hd42:¬ (it.mark:Int)=42:=by omega
    have hq63:((it.mark:Int) == 63)=false:=beq_eq_false_iff_ne.2 (by omega);have hn63:((it.mark:Int) != 63)=true:=bne_iff_ne.2 (by omega);have hd63:¬ (it.mark:Int)=63:=by omega
    have hq43:((it.mark:Int) == 43)=false:=beq_eq_false_iff_ne.2 (by omega);have hn43:((it.mark:Int) != 43)=true:=bne_iff_ne.2 (by omega);have hd43:¬ (it.mark:Int)=43:=by omega
    have HH:Hid (Lx.helpPd T.length s it.mark ps=[]++(ps.map (Lx.pdOf T.length s)++[])):=by simp[Hid,Lx.helpPd,h42,h63,h43]
    have HMK:Hid (¬ it.mark=42/\¬ it.mark=63/\¬ it.mark=43):=⟨h42,h63,h43⟩;clear h42 h63 h43;have x22:w2.cell? ⟨w.heap.size,2,none⟩=some (.int .u8 (it.mark:Int)):=kx2.cell 2;go_wp2_with fail;obtain⟨w3,hw3⟩:∃ w3,w3=w2:=⟨_,rfl⟩;rw[<-hw3];obtain⟨P3,hP3⟩:∃ P3,P3=P++[]:=⟨_,rfl⟩;have hP3l:P3.length+2*ps.length<=1000000000000:=by rw[hP3,List.append_nil];omega
    have HP3:Hid (P3=P++[]):=hP3;have hM3:Mk2 D2 F w3 mb T N b H P3:=by rw[hP3,List.append_nil,hw3];exact hM2
    have hK3:Kp D2 w2 w3:=by rw[hw3];exact Kp.refl _ _
    clear hP3 x22 hw3
    go_loopg [7] ps.length (fun k i wr=>∃ m:Nat,m+k=ps.length/\i=.int .i64 m/\Mk2 D2 F wr mb T N b H (P3++(ps.take m).map (Lx.pdOf T.length s))/\Kp D2 w2 wr)
    case atStart=>exact⟨0,by omega,rfl,by simpa using hM3,hK3⟩
    case round =>
     clear hM3 hK3;obtain⟨m,hkm,rfl,hMr,hKr⟩:=hrel;have hKr2:∀ g,D2 g->wr.heap[g]?=w2.heap[g]?:=hKr.block;have kxr:Blk wr w.heap.size _ 148:=(hKr2 _ hDx).trans kx2;have x2:wr.cell? ⟨w.heap.size,2,none⟩=some (.int .u8 (it.mark:Int)):=kxr.cell 2;have lmr:=hMr.lm
     by_cases hlt:m<ps.length
     ·have htk:(ps.take (m+1)).map (Lx.pdOf T.length s)=(ps.take m).map (Lx.pdOf T.length s)++[Lx.pdOf T.length s ps[m]]:=by rw[List.take_succ_eq_append_getElem hlt,List.map_append];rfl
      have HTK:Hid _:=htk;clear htk;obtain⟨gl,cl,ur,hv,hgl1,hgl2,hcl,hur⟩:=hu.at hlt;cases hv;have hclr:wr.cell? ⟨gl,m,none⟩=some ur:=(World.cell?_of_block (w:=w2) (hKr2 gl (hDn gl hgl1 hgl2))).trans hcl;have lglr:gl<wr.heap.size:=Nat.lt_of_lt_of_le hgl2 hKr.size;have hurD:∀ g,ur.ownBlock=some g->D2 g:=fun g hg=>hDn g (hur.lt g hg).1 (hur.lt g hg).2
      have hurM:∀ g,ur.ownBlock=some g->mb<g:=fun g hg=>by have:=(hur.lt g hg).1;omega
      have hurr:IR 0 wr ur ps[m]:=own_le (own_move hur fun g hg=>hKr2 g (hurD g hg)) (Nat.zero_le _);have hrlm:=hrl ps[m] (List.getElem_mem hlt);clear hur;generalize ps[m]=pm at hurr hrlm HTK;obtain⟨ra,rc,hvr,-⟩:=own_len hurr;subst hvr;go_wp2_with fail;refine (put_no hMr s _ pm hurr (fun g hg=>⟨hurD g hg,hurM g hg⟩) (by rw[List.length_append,List.length_map,List.length_take];omega)).mono ?_;rintro e w5 ⟨rfl,hM5,hK5⟩;have hK6:=hKr.trans hK5 (fun _ h=>h);have hM6:Mk2 D2 F w5 mb T N b H (P3++(ps.take (m+1)).map (Lx.pdOf T.length s)):=by rw[HTK.out,<-List.append_assoc];exact hM5
      go_wp2_with fail;go_roundg (ps.length - (m+1))
      case measure=>omega
      case rel=>exact⟨m+1,by omega,by go_num,hM6,hK6⟩
     ·have:m=ps.length:=by omega
      subst this;rw[List.take_length]at hMr;obtain⟨P4,hP4⟩:∃ P4,P4=P3++ps.map (Lx.pdOf T.length s):=⟨_,rfl⟩;have hP4l:P4.length+ps.length<=1000000000000:=by rw[hP4,List.length_append,List.length_map];omega
      have HP4:Hid (P4=P3++ps.map (Lx.pdOf T.length s)):=hP4;rw[<-hP4]at hMr;clear hP4;go_wp2_with fail;clear x2 kxr lmr hKr2;obtain⟨w4,hw4⟩:∃ w4,w4=wr:=⟨_,rfl⟩;rw[<-hw4]at hMr hKr ⊢;clear hw4
      go_loopg [8] 0 (fun k i wr=>k=0/\i=.int .i64 0/\wr=w4)
      case atStart=>exact⟨rfl,rfl,rfl⟩
      case round =>
       obtain⟨rfl,rfl,hwr⟩:=hrel;rw[<-hwr]at hMr hKr;clear hwr;have hKr2:∀ g,D2 g->wr.heap[g]?=w2.heap[g]?:=hKr.block;have kxr:Blk wr w.heap.size _ 148:=(hKr2 _ hDx).trans kx2;have x2:wr.cell? ⟨w.heap.size,2,none⟩=some (.int .u8 (it.mark:Int)):=kxr.cell 2;have lmr:=hMr.lm;go_wp2_with fail
       all_goals
        go_end0
        refine⟨rfl,D2,?_,hDD,hK2.trans hKr hDD⟩;have e9:=HP4.out;rw[e9,HP3.out]at hMr;rw[HH.out];simpa [List.append_assoc]using hMr
end Go.Proofs.YtlcppnabbicmoaaGreatDoor
namespace Go.Proofs.YtlcppnabbicmoaaGreatDoor
open Go.RowKit
open Tr
theorem Ph1.toMk2 {Z F:Nat->Prop}{w:World}{mb:Nat}{T N:List ByteArray}(h:Ph1 Z w mb T N)(hF:∀ g,F g->g<w.heap.size/\g≠mb)(tn:T.length+N.length<=100000){b:Nat}(hb:b<=200000):Mk2 (fun g=>g<w.heap.size/\g≠mb) F w mb T N b [] []:=by
 obtain⟨h0,vT,vN,h1,h2,h3,h4,h5,h6,h7,h8,h9⟩:=h;refine⟨⟨vT,vN,_,_,_,h1,h2,h3,⟨[],rfl,World.ownsRow_nil _ _ _ _,fun q hq=>(by cases hq)⟩,World.ownsRow_nil _ _ _ _,⟨[],rfl,World.ownsRow_nil _ _ _ _,fun q hq=>(by cases hq)⟩,fun g hg=>⟨(h2.lt g hg).2,fun e=>h7 (e ▸ hg)⟩,fun g hg=>⟨(h3.lt g hg).2,fun e=>h8 (e ▸ hg)⟩,fun g hg=>(by cases hg),fun g hg=>(by cases hg),fun g hg=>(by cases hg)⟩,fun h=>h.2 rfl,hF,fun g hg=>hg.1,tn,by simpa using hb,List.Pairwise.nil⟩
structure Pushed (w:World) (mb i:Nat) (v:Value) (s:Nat) (r:List Nat) (cs:Array Value) (v3:Value) (w4:World):Prop where
 blk:Blk w4 mb (cs.setIfInBounds i v3) 135
 row:IR 0 w4 v3 (r++[s])
 keep:∀ g,g<w.heap.size->g≠mb->v.ownBlock≠some g->w4.heap[g]?=w.heap[g]?
 ne:v3.ownBlock≠some mb
 at_:∀ g,v3.ownBlock=some g->v.ownBlock=some g∨w.heap.size<=g
 os:w4.os=w.os
 tape:w4.tape=w.tape
 output:w4.output=w.output
 size:w.heap.size<=w4.heap.size
theorem pushed {w w1 w3:World}{mb i:Nat}{cs:Array Value}{v:Value}{r:List Nat}{s:Nat}{v3:Value}(h1:Blk w mb cs 135)(h8:v.ownBlock≠some mb)(hb:Below w.heap.size w w1)(ho:w3.ownsRow 0 3 1 v3 (r.length+1) (intsV r++[.int .i64 (s:Int)]))(hg:w1.grownBy w3 v.ownBlock)(hat:v3.ownBlock=v.ownBlock∨∃ g,v3.ownBlock=some g/\w.heap.size<=g):Pushed w mb i v s r cs v3 (w3.setCell ⟨mb,i,none⟩ v3):=by
 have lmb:=h1.lt;have hs1:=hb.size;have hs3:=hg.size;have hne:v3.ownBlock≠some mb:=by
  rcases hat with h | ⟨g,h,hg2⟩
  ·rw[h];exact h8
  ·rw[h];intro e;cases e;omega
 have k3:Blk w3 mb cs 135:=by
  unfold Blk at h1 ⊢;rw[hg.block mb (by omega) (fun e=>h8 e.symm),hb.block mb lmb];exact h1
 refine⟨k3.set i v3,?_,?_,hne,?_,hg.os.trans hb.os,hg.tape.trans hb.tape,hg.output.trans hb.output,by simp[World.setCell];omega⟩
 ·unfold IR
  rw[List.length_append,intsV_app];exact own_move ho fun g hx=>Below.heap_setCell _ _ _ _ (fun e=>hne (by have e':g=mb:=e;rw[<-e'];exact hx))
 ·intro g hg1 hm hn
  rw[Below.heap_setCell _ _ _ _ hm,hg.block g (by omega) (fun e=>hn e.symm),hb.block g hg1]
 ·intro g hx
  rcases hat with h | ⟨g',h,hg2⟩
  ·exact .inl (h ▸ hx)
  ·rw[h]at hx;cases hx;exact .inr hg2
structure Mk3 (D F:Nat->Prop) (w:World) (mb:Nat) (T N:List ByteArray) (H:List Lx.It) (Ls:List Nat) (P:List Lx.Pd):Prop where
 ex:∃ vT vN vP vH vL,Blk w mb #[vT,vN,vP,.slice none 0 0,.slice none 0 0,vH,vL] 135/\w.ownsRow 0 9 1 vT T.length (T.map Value.string)/\w.ownsRow 0 9 1 vN N.length (N.map Value.string)/\HR 0 F w vH H/\IR 0 w vL Ls/\PR (fun g=>D g/\mb<g) w vP P/\(∀ g,vT.ownBlock=some g->D g)/\(∀ g,vN.ownBlock=some g->D g)/\(∀ g,vH.ownBlock=some g->D g)/\(∀ g,vP.ownBlock=some g->¬ D g/\g≠mb)/\(∀ g,vL.ownBlock=some g->¬ D g/\g≠mb/\vP.ownBlock≠some g)
 nm:¬ D mb
 fd:∀ g,F g->D g
 lt:∀ g,D g->g<w.heap.size
 tn:T.length+N.length<=100000
 ris:(H.map Lx.It.place).Pairwise (·< ·)
theorem Mk2.reset {D F:Nat->Prop}{w:World}{mb:Nat}{T N:List ByteArray}{b:Nat}{H H':List Lx.It}{P:List Lx.Pd}(h:Mk2 D F w mb T N b H P){B:Nat}{v:Value}(hH:HR B F w v H')(hv:∀ g,v.ownBlock=some g->D g)(hr:(H'.map Lx.It.place).Pairwise (·< ·)):Mk3 D F ((w.setCell ⟨mb,5,none⟩ v).setCell ⟨mb,6,none⟩ (.slice none 0 0)) mb T N H' [] P/\Kp D w ((w.setCell ⟨mb,5,none⟩ v).setCell ⟨mb,6,none⟩ (.slice none 0 0)):=by
 obtain⟨⟨vT,vN,vP,vH,vL,h1,h2,h3,h4,h5,h6,k1,k2,k3,k4,k5⟩,e1,e2,e3,e4,e5,e6⟩:=h;have bk:∀ g,g≠mb->((w.setCell ⟨mb,5,none⟩ v).setCell ⟨mb,6,none⟩ (.slice none 0 0)).heap[g]?=w.heap[g]?:=fun g hg=>by
  rw[Below.heap_setCell _ _ _ _ hg,Below.heap_setCell _ _ _ _ hg]
 have bD:∀ g,D g->((w.setCell ⟨mb,5,none⟩ v).setCell ⟨mb,6,none⟩ (.slice none 0 0)).heap[g]?=w.heap[g]?:=fun g hg=>bk g fun e=>e1 (e ▸ hg)
 have hse:((w.setCell ⟨mb,5,none⟩ v).setCell ⟨mb,6,none⟩ (.slice none 0 0)).heap.size=w.heap.size:=by simp[World.setCell]
 obtain⟨ps,p1,p2,p3⟩:=hH;refine⟨⟨⟨vT,vN,vP,v,_,(h1.set 5 v).set 6 _,own_move h2 fun g hg=>bD g (k1 g hg),own_move h3 fun g hg=>bD g (k2 g hg),⟨ps,p1,own_le (own_move p2 fun g hg=>bD g (hv g hg)) (Nat.zero_le _),fun q hq=>AltsIn.move (fun g hg=>bD g (e2 g hg)) (fun _ h=>h) (p3 q hq)⟩,World.ownsRow_nil _ _ _ _,h6.move (fun _ h=>h) (fun g hg=>bD g hg.1) (fun g hg=>bk g (k5 g hg).2),k1,k2,hv,k5,fun g hg=>(by cases hg)⟩,e1,e2,fun g hg=>by rw[hse];exact e3 g hg,e4,hr⟩,⟨rfl,rfl,rfl,by rw[hse];exact Nat.le_refl _,bD⟩⟩
theorem Mk3.push {D F:Nat->Prop} {w w4:World} {mb:Nat} {T N:List ByteArray} {H:List Lx.It} {Ls:List Nat} {P:List Lx.Pd} {s:Nat} {vT vN vP vH vL v3:Value} (h:Mk3 D F w mb T N H Ls P)
  (h1:Blk w mb #[vT,vN,vP,.slice none 0 0,.slice none 0 0,vH,vL] 135) (hp:Pushed w mb 6 vL s Ls #[vT,vN,vP,.slice none 0 0,.slice none 0 0,vH,vL] v3 w4):Mk3 D F w4 mb T N H (Ls++[s]) P/\Kp D w w4:=by
 obtain⟨⟨uT,uN,uP,uH,uL,j1,h2,h3,h4,h5,h6,k1,k2,k3,k4,k5⟩,e1,e2,e3,e4,e6⟩:=h;unfold Blk at h1 j1;rw[h1]at j1;obtain⟨⟩:=j1;have bD:∀ g,D g->w4.heap[g]?=w.heap[g]?:=fun g hg=>hp.keep g (e3 g hg) (fun e=>e1 (e ▸ hg)) (fun e=>(k5 g e).1 hg)
 refine⟨⟨⟨_,_,_,_,v3,hp.blk,own_move h2 fun g hg=>bD g (k1 g hg),own_move h3 fun g hg=>bD g (k2 g hg),h4.move (fun g hg=>bD g (e2 g hg)) (fun g hg=>bD g (k3 g hg)),hp.row,h6.move (fun _ h=>h) (fun g hg=>bD g hg.1) (fun g hg=>hp.keep g (h6.blk g hg) (k4 g hg).2 (fun e=>(k5 g e).2.2 hg)),k1,k2,k3,k4,fun g hg=>?_⟩,e1,e2,fun g hg=>Nat.lt_of_lt_of_le (e3 g hg) hp.size,e4,e6⟩,⟨hp.os,hp.tape,hp.output,hp.size,bD⟩⟩;refine⟨fun hd=>?_,fun e=>hp.ne (e ▸ hg),fun e=>?_⟩
 ·rcases hp.at_ g hg with h' | h'
  ·exact (k5 g h').1 hd
  ·have:=e3 g hd;omega
 ·rcases hp.at_ g hg with h' | h'
  ·exact (k5 g h').2.2 e
  ·have:=h6.blk g e;omega
theorem Mk3.done {D F:Nat->Prop}{w:World}{mb:Nat}{T N:List ByteArray}{b:Nat}{H:List Lx.It}{P:List Lx.Pd}(h:Mk3 D F w mb T N H (Lx.lsOf b H.length) P)(hb:b+H.length<=200000):∃ D',Mk2 D' F w mb T N b H P/\∀ g,D g->D' g:=by
 obtain⟨⟨vT,vN,vP,vH,vL,h1,h2,h3,h4,h5,h6,k1,k2,k3,k4,k5⟩,e1,e2,e3,e4,e6⟩:=h;refine⟨fun g=>D g∨vL.ownBlock=some g,⟨⟨vT,vN,vP,vH,vL,h1,h2,h3,h4,h5,h6.move (fun g hg=>⟨.inl hg.1,hg.2⟩) (fun _ _=>rfl) (fun _ _=>rfl),fun g hg=>.inl (k1 g hg),fun g hg=>.inl (k2 g hg),fun g hg=>.inl (k3 g hg),fun g hg=>.inr hg,fun g hg=>⟨?_,(k4 g hg).2⟩⟩,?_,fun g hg=>.inl (e2 g hg),?_,e4,hb,e6⟩,fun g hg=>.inl hg⟩
 ·rintro (h' | h')
  ·exact (k4 g hg).1 h'
  ·exact (k5 g h').2.2 hg
 ·rintro (h' | h')
  ·exact e1 h'
  ·exact (k5 mb h').2.1 rfl
 ·rintro g (h' | h')
  ·exact e3 g h'
  ·exact (h5.lt g h').2
structure Mk4 (D:Nat->Prop) (w:World) (mb:Nat) (T N:List ByteArray) (P:List Lx.Pd) (Bs Ks:List Nat):Prop where
 ex:∃ vT vN vP vB vK vH vL,Blk w mb #[vT,vN,vP,vB,vK,vH,vL] 135/\w.ownsRow 0 9 1 vT T.length (T.map Value.string)/\w.ownsRow 0 9 1 vN N.length (N.map Value.string)/\PR (fun g=>D g/\mb<g) w vP P/\IR 0 w vB Bs/\IR 0 w vK Ks/\(∀ g,vT.ownBlock=some g->D g)/\(∀ g,vN.ownBlock=some g->D g)/\(∀ g,vP.ownBlock=some g->D g)/\(∀ g,vB.ownBlock=some g->¬ D g/\mb<g/\vK.ownBlock≠some g)/\(∀ g,vK.ownBlock=some g->¬ D g/\mb<g)
 nm:¬ D mb
 lt:∀ g,D g->g<w.heap.size
theorem Mk2.toMk4 {D F:Nat->Prop}{w:World}{mb:Nat}{T N:List ByteArray}{b:Nat}{H:List Lx.It}{P:List Lx.Pd}(h:Mk2 D F w mb T N b H P):∃ D',Mk4 D' w mb T N P [] []/\∀ g,D g->D' g:=by
 obtain⟨⟨vT,vN,vP,vH,vL,h1,h2,h3,h4,h5,h6,k1,k2,k3,k4,k5⟩,e1,e2,e3,e4,e5,e6⟩:=h;refine⟨fun g=>D g∨vP.ownBlock=some g,⟨⟨vT,vN,vP,_,_,vH,vL,h1,h2,h3,h6.move (fun g hg=>⟨.inl hg.1,hg.2⟩) (fun _ _=>rfl) (fun _ _=>rfl),World.ownsRow_nil _ _ _ _,World.ownsRow_nil _ _ _ _,fun g hg=>.inl (k1 g hg),fun g hg=>.inl (k2 g hg),fun g hg=>.inr hg,fun g hg=>(by cases hg),fun g hg=>(by cases hg)⟩,?_,?_⟩,fun g hg=>.inl hg⟩
 ·rintro (h' | h')
  ·exact e1 h'
  ·exact (k5 mb h').2 rfl
 ·rintro g (h' | h')
  ·exact e3 g h'
  ·exact h6.blk g h'
theorem Mk4.pushB {D:Nat->Prop} {w w4:World} {mb:Nat} {T N:List ByteArray} {P:List Lx.Pd} {Bs Ks:List Nat} {s:Nat} {vT vN vP vB vK vH vL v3:Value} (h:Mk4 D w mb T N P Bs Ks)
  (h1:Blk w mb #[vT,vN,vP,vB,vK,vH,vL] 135) (hp:Pushed w mb 3 vB s Bs #[vT,vN,vP,vB,vK,vH,vL] v3 w4):Mk4 D w4 mb T N P (Bs++[s]) Ks/\Kp D w w4:=by
 obtain⟨⟨uT,uN,uP,uB,uK,uH,uL,j1,h2,h3,h4,h5,h6,k1,k2,k3,k4,k5⟩,e1,e3⟩:=h;have lmb:=h1.lt;unfold Blk at h1 j1;rw[h1]at j1;obtain⟨⟩:=j1;have bD:∀ g,D g->w4.heap[g]?=w.heap[g]?:=fun g hg=>hp.keep g (e3 g hg) (fun e=>e1 (e ▸ hg)) (fun e=>(k4 g e).1 hg)
 refine⟨⟨⟨_,_,_,v3,_,_,_,hp.blk,own_move h2 fun g hg=>bD g (k1 g hg),own_move h3 fun g hg=>bD g (k2 g hg),h4.move (fun _ h=>h) (fun g hg=>bD g hg.1) (fun g hg=>bD g (k3 g hg)),hp.row,own_move h6 fun g hg=>hp.keep g (h6.lt g hg).2 (Nat.ne_of_gt (k5 g hg).2) (fun e=>(k4 g e).2.2 hg),k1,k2,k3,fun g hg=>?_,k5⟩,e1,fun g hg=>Nat.lt_of_lt_of_le (e3 g hg) hp.size⟩,⟨hp.os,hp.tape,hp.output,hp.size,bD⟩⟩;refine⟨fun hd=>?_,(hp.at_ g hg).elim (fun h'=>(k4 g h').2.1) (fun h'=>Nat.lt_of_lt_of_le lmb h'),fun e=>?_⟩
 ·rcases hp.at_ g hg with h' | h'
  ·exact (k4 g h').1 hd
  ·have:=e3 g hd;omega
 ·rcases hp.at_ g hg with h' | h'
  ·exact (k4 g h').2.2 e
  ·have:=(h6.lt g e).2;omega
theorem Mk4.pushK {D:Nat->Prop} {w w4:World} {mb:Nat} {T N:List ByteArray} {P:List Lx.Pd} {Bs Ks:List Nat} {s:Nat} {vT vN vP vB vK vH vL v3:Value} (h:Mk4 D w mb T N P Bs Ks)
  (h1:Blk w mb #[vT,vN,vP,vB,vK,vH,vL] 135) (hp:Pushed w mb 4 vK s Ks #[vT,vN,vP,vB,vK,vH,vL] v3 w4):Mk4 D w4 mb T N P Bs (Ks++[s])/\Kp D w w4:=by
 obtain⟨⟨uT,uN,uP,uB,uK,uH,uL,j1,h2,h3,h4,h5,h6,k1,k2,k3,k4,k5⟩,e1,e3⟩:=h;have lmb:=h1.lt;unfold Blk at h1 j1;rw[h1]at j1;obtain⟨⟩:=j1;have bD:∀ g,D g->w4.heap[g]?=w.heap[g]?:=fun g hg=>hp.keep g (e3 g hg) (fun e=>e1 (e ▸ hg)) (fun e=>(k5 g e).1 hg)
 refine⟨⟨⟨_,_,_,_,v3,_,_,hp.blk,own_move h2 fun g hg=>bD g (k1 g hg),own_move h3 fun g hg=>bD g (k2 g hg),h4.move (fun _ h=>h) (fun g hg=>bD g hg.1) (fun g hg=>bD g (k3 g hg)),own_move h5 fun g hg=>hp.keep g (h5.lt g hg).2 (Nat.ne_of_gt (k4 g hg).2.1) (fun e=>(k4 g hg).2.2 e),hp.row,k1,k2,k3,fun g hg=>⟨(k4 g hg).1,(k4 g hg).2.1,fun e=>?_⟩,fun g hg=>⟨fun hd=>?_,(hp.at_ g hg).elim (fun h'=>(k5 g h').2) (fun h'=>Nat.lt_of_lt_of_le lmb h')⟩⟩,e1,fun g hg=>Nat.lt_of_lt_of_le (e3 g hg) hp.size⟩,⟨hp.os,hp.tape,hp.output,hp.size,bD⟩⟩
 ·rcases hp.at_ g e with h' | h'
  ·exact (k4 g hg).2.2 h'
  ·have:=(h5.lt g hg).2;omega
 ·rcases hp.at_ g hg with h' | h'
  ·exact (k5 g h').1 hd
  ·have:=e3 g hd;omega
def PlIn (w:World)(v:Value)(T N:List ByteArray)(P:List Lx.Pd)(Bs Ks:List Nat):Prop:=∃ vT vN vP vB vK,v=.agg #[vT,vN,vP,vB,vK]/\w.ownsRow 0 9 1 vT T.length (T.map Value.string)/\w.ownsRow 0 9 1 vN N.length (N.map Value.string)/\PR (fun _=>True) w vP P/\IR 0 w vB Bs/\IR 0 w vK Ks
def PlInB (B:Nat)(w:World)(v:Value)(T N:List ByteArray)(P:List Lx.Pd)(Bs Ks:List Nat):Prop:=∃ vT vN vP vB vK,v=.agg #[vT,vN,vP,vB,vK]/\w.ownsRow 0 9 1 vT T.length (T.map Value.string)/\w.ownsRow 0 9 1 vN N.length (N.map Value.string)/\PR (fun g=>B<=g) w vP P/\IR 0 w vB Bs/\IR 0 w vK Ks/\(∀ g,vB.ownBlock=some g->B<=g)/\(∀ g,vK.ownBlock=some g->B<=g)
theorem PlInB.pl {B:Nat}{w:World}{v:Value}{T N:List ByteArray}{P:List Lx.Pd}{Bs Ks:List Nat}(h:PlInB B w v T N P Bs Ks):PlIn w v T N P Bs Ks:=by
 obtain⟨vT,vN,vP,vB,vK,h0,h1,h2,⟨ps,p1,p2,p3⟩,h4,h5,-⟩:=h;exact⟨vT,vN,vP,vB,vK,h0,h1,h2,⟨ps,p1,p2,fun q hq=>⟨(p3 q hq).1,fun _ _=>trivial⟩⟩,h4,h5⟩
end Go.Proofs.YtlcppnabbicmoaaGreatDoor
namespace Go.Proofs.YtlcppnabbicmoaaGreatDoor
open Go.RowKit
open Tr
structure Puts (bt et sz:Nat) (w:World) (mb i:Nat) (v:Value) (n:Nat) (xs:List Value) (cs:Array Value) (v3:Value) (w4:World):Prop where
 blk:Blk w4 mb (cs.setIfInBounds i v3) bt
 row:w4.ownsRow 0 et sz v3 n xs
 keep:∀ g,g<w.heap.size->g≠mb->v.ownBlock≠some g->w4.heap[g]?=w.heap[g]?
 ne:v3.ownBlock≠some mb
 at_:∀ g,v3.ownBlock=some g->v.ownBlock=some g∨w.heap.size<=g
 os:w4.os=w.os
 tape:w4.tape=w.tape
 output:w4.output=w.output
 size:w.heap.size<=w4.heap.size
theorem puts {bt et sz:Nat}{w w1 w3:World}{mb i:Nat}{cs:Array Value}{v:Value}{n:Nat}{xs:List Value}{v3:Value}(h1:Blk w mb cs bt)(h8:v.ownBlock≠some mb)(hb:Below w.heap.size w w1)(ho:w3.ownsRow 0 et sz v3 n xs)(hg:w1.grownBy w3 v.ownBlock)(hat:v3.ownBlock=v.ownBlock∨∃ g,v3.ownBlock=some g/\w.heap.size<=g):Puts bt et sz w mb i v n xs cs v3 (w3.setCell ⟨mb,i,none⟩ v3):=by
 have lmb:=h1.lt;have hs1:=hb.size;have hs3:=hg.size;have hne:v3.ownBlock≠some mb:=by
  rcases hat with h | ⟨g,h,hg2⟩
  ·rw[h];exact h8
  ·rw[h];intro e;cases e;omega
 have k3:Blk w3 mb cs bt:=by
  unfold Blk at h1 ⊢;rw[hg.block mb (by omega) (fun e=>h8 e.symm),hb.block mb lmb];exact h1
 refine⟨k3.set i v3,?_,?_,hne,?_,hg.os.trans hb.os,hg.tape.trans hb.tape,hg.output.trans hb.output,by simp[World.setCell];omega⟩
 ·exact own_move ho fun g hx=>Below.heap_setCell _ _ _ _ (fun e=>hne (by have e':g=mb:=e;rw[<-e'];exact hx))
 ·intro g hg1 hm hn
  rw[Below.heap_setCell _ _ _ _ hm,hg.block g (by omega) (fun e=>hn e.symm),hb.block g hg1]
 ·intro g hx
  rcases hat with h | ⟨g',h,hg2⟩
  ·exact .inl (h ▸ hx)
  ·rw[h]at hx;cases hx;exact .inr hg2
theorem Puts.drew {bt et sz:Nat}{w w4:World}{mb i:Nat}{cs:Array Value}{v:Value}{n:Nat}{xs:List Value}{v3:Value}(h:Puts bt et sz w mb i v n xs cs v3 w4):Puts bt et sz w mb i v n xs cs v3 w4.drew:=⟨h.blk.drew,own_move h.row fun _ _=>rfl,h.keep,h.ne,h.at_,h.os,h.tape,h.output,h.size⟩
def NameP (w:World)(mb nT:Nat)(V:List ByteArray)(nm:ByteArray)(vN:Value)(cs:Array Value)(e:Ending)(w':World):Prop:=e=.returned (.int .i64 ((nT+V.length:Nat):Int))/\∃ v3,Puts 125 9 1 w mb 1 vN (V.length+1) ((V++[nm]).map Value.string) cs v3 w'
theorem addName_any {w:World} {mb nT:Nat} {V:List ByteArray} {ta:Option Addr} {tc:Nat} {vN vP vB vK vS vH:Value} (kM:Blk w mb #[.slice ta nT tc,vN,vP,vB,vK,vS,vH] 125) (oN:w.ownsRow 0 9 1 vN V.length (V.map Value.string)) (hne:vN.ownBlock≠some mb) (hT:nT<=100000) (hV:V.length<=100000) (nm:ByteArray) :
  Calls Tryz.prog 100 #[.pointer (some ⟨mb,0,none⟩),.string nm] w (NameP w mb nT V nm vN #[.slice ta nT tc,vN,vP,vB,vK,vS,vH]):=by
 obtain⟨i9,hi9,hz90,hz91,hz92⟩:=info_parts Tryz.info9;obtain⟨na,nc,rfl,-⟩:=own_len oN;have lm:=kM.lt;have m1:w.cell? ⟨mb,1,none⟩=some (.slice na V.length nc):=kM.cell 1;have hb1:Below w.heap.size w (w.alloc (.cells #[.string nm] 9)):=(Below.refl _ _).alloc (Nat.le_refl _) _;unfold NameP;go_enter Tryz.func100,Tryz.ntmps100
 go_wp2_with (at_builtin;go_loud (refine wpList_append_own_at _ rfl _ _ 22 rfl 0 9 i9 _ 1 16 Tryz.underlying22 hi9 hz90 hz91 hz92 rfl (by decide) (.slice na V.length nc) _ _ rfl (oN.alloc _) ⟨_,0,none⟩ 1 1 [.string nm] rfl rfl (news_of (Blk.new _ _ 9)) (by simp[Value.oneCell']) (by unfold maxLen;omega) (by omega) (by simp) ?_;intro v5 w5 hown5 hgrow5 _ hat5;obtain⟨oa5,oc5,hv5,-⟩:=own_len hown5;subst hv5;have km5:=(kM.alloc (.cells #[.string nm] 9)).grown hgrow5 (fun e=>hne e.symm);have c56:w5.cell? ⟨mb,1,none⟩=some (.slice na V.length nc):=km5.cell 1;have f56:∀ i,w5.frozen? ⟨mb,i,none⟩=false:=km5.frozen))
 have hat6:(Value.slice oa5 (V.length+1) oc5).ownBlock=(Value.slice na V.length nc).ownBlock∨∃ g,(Value.slice oa5 (V.length+1) oc5).ownBlock=some g/\w.heap.size<=g:=by
  rcases hat5 with h' | h'
  ·exact .inl h'
  ·exact .inr ⟨_,h',by simp⟩
 have hown6:w5.ownsRow 0 9 1 (.slice oa5 (V.length+1) oc5) (V.length+1) ((V++[nm]).map Value.string):=by rw[List.map_append];exact hown5
 have hP:=puts (i:=1) kM hne hb1 hown6 hgrow5 hat6;clear hat5 hat6 hown5 hown6 hgrow5 km5 c56 f56 m1;generalize w5.setCell ⟨mb,1,none⟩ (.slice oa5 (V.length+1) oc5)=w6 at hP;have k6:=hP.blk;have d0:w6.drew.cell? ⟨mb,0,none⟩=some (.slice ta nT tc):=k6.drew.cell 0;have d1:w6.drew.cell? ⟨mb,1,none⟩=some (.slice oa5 (V.length+1) oc5):=k6.drew.cell 1;have hPd:=hP.drew;have d2:w6.cell? ⟨mb,0,none⟩=some (.slice ta nT tc):=k6.cell 0;have d3:w6.cell? ⟨mb,1,none⟩=some (.slice oa5 (V.length+1) oc5):=k6.cell 1;clear kM oN hb1 k6 hP
 go_region
 all_goals
  go_wp2_with fail;go_ret;exact⟨by go_num,_,hPd⟩
end Go.Proofs.YtlcppnabbicmoaaGreatDoor
namespace Go.Proofs
open Go.Shelf
def Tryz.laysM171_ren:Go.Shelf.Ren:=⟨fun | 171=>103 | 243=>134 | 246=>148 | 283=>154 | 284=>155 | 285=>156 | 286=>157 | 129=>161 | 317=>160 | 318=>162 | 319=>163 | 320=>164 | 337=>165 | 338=>166 | n=>n,fun | 3=>3 | 9=>9 | 2=>2 | 4=>4 | 171=>226 | 0=>0 | 53=>227 | 37=>162 | 5=>5 | 173=>230 | 212=>235 | 51=>236 | 20=>20 | 213=>237 | 46=>239 | 232=>242 | 233=>243 | n=>n,fun | 17=>0 | 18=>1 | 19=>2 | n=>n⟩
theorem Tryz.laysM171:Go.Proofs.LaysM.n171 Tryz.prog Tryz.laysM171_ren:={
 mixed:=by kernel_rfl
 f129:=Tryz.func161.trans (congrArg some (by kernel_rfl))
 f171:=Tryz.func103.trans (congrArg some (by kernel_rfl))
 f243:=Tryz.func134.trans (congrArg some (by kernel_rfl))
 f246:=Tryz.func148.trans (congrArg some (by kernel_rfl))
 f283:=Tryz.func154.trans (congrArg some (by kernel_rfl))
 f284:=Tryz.func155.trans (congrArg some (by kernel_rfl))
 f285:=Tryz.func156.trans (congrArg some (by kernel_rfl))
 f286:=Tryz.func157.trans (congrArg some (by kernel_rfl))
 f317:=Tryz.func160.trans (congrArg some (by kernel_rfl))
 f318:=Tryz.func162.trans (congrArg some (by kernel_rfl))
 f319:=Tryz.func163.trans (congrArg some (by kernel_rfl))
 f320:=Tryz.func164.trans (congrArg some (by kernel_rfl))
 f337:=Tryz.func165.trans (congrArg some (by kernel_rfl))
 f338:=Tryz.func166.trans (congrArg some (by kernel_rfl))
 t0:=Tryz.underlying0
 a0:=Tryz.isAgg0
 z0:=Tryz.sizeOf0
 v0:=Tryz.zeroValue0
 t2:=Tryz.underlying2
 a2:=Tryz.isAgg2
 z2:=Tryz.sizeOf2
 v2:=Tryz.zeroValue2
 t3:=Tryz.underlying3
 a3:=Tryz.isAgg3
 z3:=Tryz.sizeOf3
 v3:=Tryz.zeroValue3
 t4:=Tryz.underlying4
 a4:=Tryz.isAgg4
 z4:=Tryz.sizeOf4
 v4:=Tryz.zeroValue4
 t5:=Tryz.underlying5
 a5:=Tryz.isAgg5
 z5:=Tryz.sizeOf5
 v5:=Tryz.zeroValue5
 t9:=Tryz.underlying9
 a9:=Tryz.isAgg9
 z9:=Tryz.sizeOf9
 v9:=Tryz.zeroValue9
 t20:=Tryz.underlying20
 a20:=Tryz.isAgg20
 z20:=Tryz.sizeOf20
 v20:=Tryz.zeroValue20
 t37:=Tryz.underlying162
 a37:=Tryz.isAgg162
 z37:=Tryz.sizeOf162
 v37:=Tryz.zeroValue162
 t46:=Tryz.underlying239
 a46:=Tryz.isAgg239
 z46:=Tryz.sizeOf239
 v46:=Tryz.zeroValue239
 t51:=Tryz.underlying236
 a51:=Tryz.isAgg236
 z51:=Tryz.sizeOf236
 v51:=Tryz.zeroValue236
 t53:=Tryz.underlying227
 a53:=Tryz.isAgg227
 z53:=Tryz.sizeOf227
 v53:=Tryz.zeroValue227
 t171:=Tryz.underlying226
 a171:=Tryz.isAgg226
 z171:=Tryz.sizeOf226
 v171:=Tryz.zeroValue226
 t173:=Tryz.underlying230
 a173:=Tryz.isAgg230
 z173:=Tryz.sizeOf230
 v173:=Tryz.zeroValue230
 t212:=Tryz.underlying235
 a212:=Tryz.isAgg235
 z212:=Tryz.sizeOf235
 v212:=Tryz.zeroValue235
 t213:=Tryz.underlying237
 a213:=Tryz.isAgg237
 z213:=Tryz.sizeOf237
 t232:=Tryz.underlying242
 a232:=Tryz.isAgg242
 z232:=Tryz.sizeOf242
 v232:=Tryz.zeroValue242
 t233:=Tryz.underlying243
 a233:=Tryz.isAgg243
 z233:=Tryz.sizeOf243
 v233:=Tryz.zeroValue243
 g17:=by kernel_rfl
 g18:=by kernel_rfl
 g19:=by kernel_rfl
 i0:=by kernel_rfl
 i2:=by kernel_rfl
 i3:=by kernel_rfl
 i4:=by kernel_rfl
 i5:=by kernel_rfl
 i9:=by kernel_rfl
 i20:=by kernel_rfl
 i37:=by kernel_rfl
 i46:=by kernel_rfl
 i51:=by kernel_rfl
 i53:=by kernel_rfl
 i171:=by kernel_rfl
 i173:=by kernel_rfl
 i212:=by kernel_rfl
 i232:=by kernel_rfl
 i233:=by kernel_rfl
 m17:=by kernel_rfl
 m18:=by kernel_rfl
 m19:=by kernel_rfl }
open Go.RowKit Go.Sort Go.Lib in
theorem Tryz.strconv_Itoa (n : Int) (h0 : -9223372036854775808 ≤ n) (h1 : n ≤ 9223372036854775807) (w : World) (htab : Lib.TabIs Tryz.prog w "internal/strconv.uint64pow10" .u64 Lib.pow10Tab) :
  Calls Tryz.prog 103 #[.int .i64 n] w fun e w'=>e=.returned (.string ⟨(Lib.itoa n).toArray⟩)/\∃ k os,w'=grow (w.drewN k) os:=Any.strconv_Itoa Tryz.laysM171 n h0 h1 w htab
def Tryz.laysNm215_ren:Go.Shelf.Ren:=⟨fun | 15=>135 | n=>n,fun | 22=>24 | 3=>3 | 4=>4 | n=>n,fun | n=>n⟩
theorem Tryz.laysNm215:Go.Proofs.Lays2.n15 Tryz.prog Tryz.laysNm215_ren:={
 mixed:=by kernel_rfl
 f15:=Tryz.func135.trans (congrArg some (by kernel_rfl))
 t3:=Tryz.underlying3
 a3:=Tryz.isAgg3
 z3:=Tryz.sizeOf3
 v3:=Tryz.zeroValue3
 t4:=Tryz.underlying4
 a4:=Tryz.isAgg4
 z4:=Tryz.sizeOf4
 v4:=Tryz.zeroValue4
 t22:=Tryz.underlying24
 a22:=Tryz.isAgg24
 z22:=Tryz.sizeOf24
 v22:=Tryz.zeroValue24
 i3:=by kernel_rfl }
open Go.RowKit Go.Lib in
theorem Tryz.slices_Clone_int (b off n c:Nat) (zs:List Int) (w:World) (hz:n<=zs.length) (hbig:n*8<=140737488355328) (hc:∀ j,j<zs.length->w.cell? ⟨b,off+j,none⟩=some (.int .i64 (zs.getD j 0))) :
  Calls Tryz.prog 135 #[.slice (some ⟨b,off,none⟩) n c] w fun e w'=>∃ v',e=.returned v'/\w'.ownsRow w.heap.size 3 1 v' n ((zs.take n).map (Value.int .i64))/\v'≠.slice none 0 0/\Below w.heap.size w w':=Any.slices_Clone_int Tryz.laysNm215 b off n c zs w hz hbig hc
open Go.RowKit Go.Lib in
theorem Tryz.slices_Clone_int_nil (n c:Nat) (w:World) :
  Calls Tryz.prog 135 #[.slice none n c] w fun e w'=>e=.returned (.slice none 0 0)/\w'=w:=Any.slices_Clone_int_nil Tryz.laysNm215 n c w
end Go.Proofs
namespace Go.Proofs.YtlcppnabbicmoaaGreatDoor
open Go.RowKit
open Tr
def Tab (w : World) : Prop := Lib.TabIs Tryz.prog w "internal/strconv.uint64pow10" .u64 Lib.pow10Tab
def tabB:Nat:=0
theorem tab_named : Tryz.prog.globalNamed "internal/strconv.uint64pow10" = some tabB := by kernel_rfl
theorem Tab.move {w w':World}(h:Tab w)(hb:w'.heap[tabB]?=w.heap[tabB]?):Tab w':=by
 unfold Tab Lib.TabIs World.var? at *;rw[tab_named]at h ⊢;simp only[Option.bind_some]at h ⊢;rw[hb];exact h
theorem Tab.lt {w:World}(h:Tab w):tabB<w.heap.size:=by
 unfold Tab Lib.TabIs World.var? at h;rw[tab_named]at h;simp only[Option.bind_some]at h;rcases Nat.lt_or_ge tabB w.heap.size with h' | h'
 ·exact h'
 ·rw[Array.getElem?_eq_none h']at h;cases h
theorem Itoa_any {w:World}(h:Tab w)(n:Nat)(hn:n<=100000):Calls Tryz.prog 103 #[.int .i64 (n:Int)] w fun e w'=>e=.returned (.string (Lx.decB n))/\Below w.heap.size w w':=by
 refine (Tryz.strconv_Itoa (n:Int) (by omega) (by omega) w h).mono ?_;rintro e w' ⟨rfl,k,os,rfl⟩;refine⟨?_,Lib.below_grow _ _ (Nat.le_refl _) _ _⟩;have:Lib.itoa (n:Int)=Lib.decDigits n:=by unfold Lib.itoa;rw[if_neg (by omega),Int.toNat_natCast]
 rw[this];rfl
structure Nm (D:Nat->Prop) (w:World) (mb H:Nat) (ta:Option Addr) (nT tc:Nat) (vP vB vK vS:Value) (N:List ByteArray) (G:Nat->Prop) (f:Addr->Int):Prop where
 ex:∃ vN,Blk w mb #[.slice ta nT tc,vN,vP,vB,vK,vS,.map (some H)] 125/\w.ownsRow 0 9 1 vN N.length (N.map Value.string)/\(∀ g,vN.ownBlock=some g->¬ D g/\g≠mb/\g≠H)
 pm:PMap G w H f
 nm:¬ D mb
 nH:¬ D H
 ne:mb≠H
 lt:∀ g,D g->g<w.heap.size
section
variable {D G:Nat -> Prop} {w w':World} {mb H:Nat} {ta:Option Addr} {nT tc:Nat} {vP vB vK vS:Value} {N:List ByteArray} {f:Addr -> Int}
theorem Nm.lm (h:Nm D w mb H ta nT tc vP vB vK vS N G f):mb<w.heap.size:=by
 obtain⟨vN,h1,-⟩:=h.ex;exact h1.lt
theorem Nm.other (h:Nm D w mb H ta nT tc vP vB vK vS N G f)(hk:∀ g,g<w.heap.size->¬ D g->w'.heap[g]?=w.heap[g]?)(hs:w.heap.size<=w'.heap.size):Nm D w' mb H ta nT tc vP vB vK vS N G f:=by
 obtain⟨⟨vN,h1,h2,h3⟩,e1,e2,e3,e4,e5⟩:=h;exact⟨⟨vN,(hk _ h1.lt e2).trans h1,own_move h2 fun g hg=>hk g (h2.lt g hg).2 (h3 g hg).1,h3⟩,e1.move (hk _ (GMap.lt e1) e3),e2,e3,e4,fun g hg=>Nat.lt_of_lt_of_le (e5 g hg) hs⟩
theorem Nm.below (h:Nm D w mb H ta nT tc vP vB vK vS N G f)(hb:Below w.heap.size w w'):Nm D w' mb H ta nT tc vP vB vK vS N G f/\Kp D w w':=⟨h.other (fun g hg _=>hb.block g hg) hb.size,Kp.below hb h.lt⟩
theorem Nm.named {nm:ByteArray}{vN v3:Value}(h:Nm D w mb H ta nT tc vP vB vK vS N G f)(hb:Blk w mb #[.slice ta nT tc,vN,vP,vB,vK,vS,.map (some H)] 125)(p:Puts 125 9 1 w mb 1 vN (N.length+1) ((N++[nm]).map Value.string) #[.slice ta nT tc,vN,vP,vB,vK,vS,.map (some H)] v3 w'):Nm D w' mb H ta nT tc vP vB vK vS (N++[nm]) G f/\Kp D w w':=by
 obtain⟨⟨uN,h1,h2,h3⟩,e1,e2,e3,e4,e5⟩:=h;unfold Blk at hb h1;rw[hb]at h1;obtain⟨⟩:=h1;have lH:H<w.heap.size:=GMap.lt e1;have hn:vN.ownBlock≠some H:=fun e=>(h3 H e).2.2 rfl
 refine⟨⟨⟨v3,p.blk,by rw[List.length_append];exact p.row,fun g hg=>?_⟩,e1.move (p.keep H lH (fun e=>e4 e.symm) hn),e2,e3,e4,fun g hg=>Nat.lt_of_lt_of_le (e5 g hg) p.size⟩,⟨p.os,p.tape,p.output,p.size,fun g hg=>p.keep g (e5 g hg) (fun e=>e2 (e ▸ hg)) (fun e=>(h3 g e).1 hg)⟩⟩;rcases p.at_ g hg with h' | h'
 ·exact h3 g h'
 ·exact⟨fun hd=>by have:=e5 g hd;omega,fun e=>p.ne (e ▸ hg),fun e=>by omega⟩
theorem Nm.putH {f':Addr->Int}(h:Nm D w mb H ta nT tc vP vB vK vS N G f)(hm:PMap G w' H f')(hg:w.grownBy w' (some H)):Nm D w' mb H ta nT tc vP vB vK vS N G f'/\Kp D w w':=by
 obtain⟨⟨vN,h1,h2,h3⟩,e1,e2,e3,e4,e5⟩:=h;have hb:∀ g,g<w.heap.size->g≠H->w'.heap[g]?=w.heap[g]?:=fun g hl hn=>hg.block g hl fun e=>hn (Option.some.inj e)
 exact⟨⟨⟨vN,(hb _ h1.lt e4).trans h1,own_move h2 fun g hg=>hb g (h2.lt g hg).2 (h3 g hg).2.2,h3⟩,hm,e2,e3,e4,fun g hd=>Nat.lt_of_lt_of_le (e5 g hd) hg.size⟩,⟨hg.os,hg.tape,hg.output,hg.size,fun g hd=>hb g (e5 g hd) fun e=>e3 (e ▸ hd)⟩⟩
end
def hNames (nm:ByteArray)(n:Nat):List ByteArray:=(List.range n).map fun k=>Lx.hName nm (k+1)
theorem hNames_succ (nm:ByteArray)(n:Nat):hNames nm (n+1)=hNames nm n++[Lx.hName nm (n+1)]:=by unfold hNames;rw[List.range_succ,List.map_append];rfl
theorem hNames_len (nm:ByteArray)(n:Nat):(hNames nm n).length=n:=by simp[hNames]
def Tells (b:Nat)(L:List AI)(f f':Addr->Int):Prop:=(∀ a,(∀ p∈L,p.1≠a)->f' a=f a)/\∀ k p,L[k]?=some p->f' p.1=((b+k:Nat):Int)
theorem Tells.push {b:Nat}{L:List AI}{f f':Addr->Int}(h:Tells b L f f'){p:AI}(hn:((L++[p]).map Prod.fst).Nodup):Tells b (L++[p]) f (fun c=>if c=p.1 then ((b+L.length:Nat):Int) else f' c):=by
 rw[List.map_append,List.nodup_append]at hn;have hne:∀ q∈L,q.1≠p.1:=fun q hq=>hn.2.2 _ (List.mem_map.2 ⟨q,hq,rfl⟩) _ (by simp)
 refine⟨fun a ha=>?_,fun k q hq=>?_⟩
 ·have h1:a≠p.1:=fun e=>ha p (by simp) e.symm
  simp only[if_neg h1];exact h.1 a fun q hq=>ha q (by simp[hq])
 ·rw[List.getElem?_append]at hq
  split at hq
  ·rename_i hk
   simp only[if_neg (hne q (List.mem_of_getElem? hq))];exact h.2 k q hq
  ·rename_i hk
   obtain⟨hk2,rfl⟩:=List.getElem?_eq_some_iff.1 hq;simp only[List.length_singleton]at hk2;have:k=L.length:=by omega
   subst this;simp
end Go.Proofs.YtlcppnabbicmoaaGreatDoor

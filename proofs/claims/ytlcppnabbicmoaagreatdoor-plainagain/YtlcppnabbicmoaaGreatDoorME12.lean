import Derived.Test.YtlcppnabbicmoaaGreatDoorME11
import Derived.Lib.ItoaNum
import Derived.Maps.AppendAt
import Derived.MapKept
import Derived.Carry
set_option maxHeartbeats 8000000
set_option maxRecDepth 1000000
namespace Go.Proofs.YtlcppnabbicmoaaGreatDoor
section
open Go.RowKit
open Tr
namespace Lx
theorem dup_cons_yes {seen:List ByteArray}{w:Wd}{ws:List Wd}(h:0<=fnd seen w.2.1):firstDup seen (w::ws)=some w.2.2:=by
 rw[firstDup,if_pos (memB_iff.2 (fnd_mem.1 h))]
theorem dup_cons_no {seen:List ByteArray}{w:Wd}{ws:List Wd}(h:¬ 0<=fnd seen w.2.1):firstDup seen (w::ws)=firstDup (seen++[w.2.1]) ws:=by
 rw[firstDup,if_neg (fun e=>h (fnd_mem.2 (memB_iff.1 e)))];exact firstDup_same _ _ _ fun v _=>by simp[or_comm]
theorem fix_take {l:List ByteArray}{b:ByteArray}{i:Nat}(hb:b∈l):fnd l b<(i:Int)↔b∈l.take i:=by
 have h0:=fnd_mem.2 hb;unfold fnd at h0 ⊢
 split
 ·rename_i hlt
  have he:l[fix l b]?=some b:=by
   unfold fix at hlt ⊢;have h1:=List.findIdx_getElem (w:=hlt);rw[List.getElem?_eq_getElem hlt,of_decide_eq_true h1]
  constructor
  ·intro h
   refine List.mem_iff_getElem?.2 ⟨fix l b,?_⟩;rw[List.getElem?_take_of_lt (by omega)];exact he
  ·intro h
   obtain⟨k,hk⟩:=List.mem_iff_getElem?.1 h;have hk2:k<i/\l[k]?=some b:=by
    rw[List.getElem?_take]at hk
    split at hk
    ·rename_i hki;exact⟨hki,hk⟩
    ·cases hk
   have:fix l b<=k:=by
    unfold fix;refine Nat.le_of_not_lt fun hlt'=>?_
    have:=List.not_of_lt_findIdx hlt';obtain⟨hkl,hke⟩:=List.getElem?_eq_some_iff.1 hk2.2;simp[hke]at this
   omega
 ·rename_i hn
  rw[if_neg hn]at h0;omega
theorem take_succ_names (g:Gr){i:Nat}(hi:i<g.rules.length):(ruleNames g).take (i+1)=(ruleNames g).take i++[g.rules[i].name]:=by
 unfold ruleNames;rw[List.take_succ_eq_append_getElem (by simpa using hi)];simp
theorem rule_drop (g:Gr){i:Nat}(hi:i<g.rules.length):(ruleWords g).drop i=(1,g.rules[i].name,g.rules[i].place)::(ruleWords g).drop (i+1):=by
 unfold ruleWords;rw[<-List.map_drop,List.drop_eq_getElem_cons hi,List.map_cons,List.map_drop]
theorem rule_dup {g:Gr}{i:Nat}(hi:i<g.rules.length):(fnd (ruleNames g) g.rules[i].name<(i:Int)->firstDup ((ruleNames g).take i) ((ruleWords g).drop i)=some g.rules[i].place)/\(¬ fnd (ruleNames g) g.rules[i].name<(i:Int)->firstDup ((ruleNames g).take i) ((ruleWords g).drop i)=firstDup ((ruleNames g).take (i+1)) ((ruleWords g).drop (i+1))):=by
 have hm:g.rules[i].name∈ruleNames g:=List.mem_map.2 ⟨_,List.getElem_mem hi,rfl⟩;rw[fix_take hm,rule_drop g hi,take_succ_names g hi];constructor
 ·intro h;exact dup_cons_yes (fnd_mem.2 h)
 ·intro h;exact dup_cons_no (fun e=>h (fnd_mem.1 e))
def lvW (lv:Lv):List Wd:=lv.tokens.map fun t=>(0,t.1,t.2)
end Lx
theorem twice_any {F:Nat->Prop} {w:World} {vL vR:Value} {g:Lx.Gr} (h:DG F w vL vR g) (hsm:(Lx.levelWords g).length<=2001) :
  Calls Tryz.prog 59 #[.agg #[vL,vR]] w fun e w'=>e=.returned (fltV 4 ((Lx.firstDup [] (Lx.levelWords g)).or (Lx.firstDup [] (Lx.ruleWords g))))/\Below w.heap.size w w':=by
 obtain⟨a,c,rfl,hmr⟩:=h.lenR;obtain⟨a',c',rfl,hml⟩:=h.lenL;unfold maxLen at hmr hml;obtain⟨i0,hii,hz0,hz1,hz2⟩:=info_parts Tryz.info9;go_enter Tryz.func59,Tryz.ntmps59;go_wp2_with fail;obtain⟨W,hW⟩:∃ W,W=(w.alloc (.cells #[.slice a' g.levels.length c',.slice a g.rules.length c] 49)).alloc (.cells #[.int .i64 0,.int .i64 0] 74):=⟨_,rfl⟩;rw[<-hW];have hWs:W.heap.size=w.heap.size+2:=by rw[hW];simp
 have kG:Blk W w.heap.size #[.slice a' g.levels.length c',.slice a g.rules.length c] 49:=by rw[hW];exact (Blk.new w _ 49).alloc _
 have kR:Blk W (w.heap.size+1) #[.int .i64 0,.int .i64 0] 74:=by rw[hW];simpa using Blk.new (w.alloc (.cells #[.slice a' g.levels.length c',.slice a g.rules.length c] 49)) #[.int .i64 0,.int .i64 0] 74
 have hB:Below w.heap.size w W:=by rw[hW];exact ((Below.refl _ _).alloc (Nat.le_refl _) _).alloc (by simp) _
 clear hW;have HD:Hid (Lx.firstDup [] (Lx.levelWords g)=Lx.firstDup [] ((g.levels.drop 0).flatMap Lx.lvW)):=rfl
 go_loopg [3,4] g.levels.length (fun k lv i wr=>∃ (j:Nat) (seen:List ByteArray),j+k=g.levels.length/\i=.int .i64 j/\Below W.heap.size W wr/\wr.ownsRow W.heap.size 9 1 lv seen.length (seen.map Value.string)/\seen.length+((g.levels.drop j).flatMap Lx.lvW).length=(Lx.levelWords g).length/\Hid (Lx.firstDup [] (Lx.levelWords g)=Lx.firstDup seen ((g.levels.drop j).flatMap Lx.lvW)))
 case atStart=>exact⟨0,[],by omega,rfl,Below.refl _ _,World.ownsRow_nil _ _ _ _,by rw[List.length_nil,Nat.zero_add];rfl,HD⟩
 case round =>
  clear HD;revert wr;intro wz hrel;obtain⟨j,seen,hk,rfl,hbz,hown,hcnt,HD⟩:=hrel;have hbw:Below w.heap.size w wz:=hB.trans (hbz.mono (by omega));have kGz:Blk wz w.heap.size _ 49:=(hbz.block _ (by omega)).trans kG;have kRz:Blk wz (w.heap.size+1) _ 74:=(hbz.block _ (by omega)).trans kR;have hsz:=hbz.size;have g0:wz.cell? ⟨w.heap.size,0,none⟩=some (.slice a' g.levels.length c'):=kGz.cell 0;have g1:wz.cell? ⟨w.heap.size,1,none⟩=some (.slice a g.rules.length c):=kGz.cell 1;obtain⟨sa,sk,sc,hsv⟩:=own_form hown;subst hsv
  by_cases hlt:j<g.levels.length
  ·have hl2:=HD.out
   rw[List.drop_eq_getElem_cons hlt,List.flatMap_cons]at hl2 hcnt;have HD2:Hid _:=hl2;clear hl2 HD;have hxj:g.levels[j]?=some g.levels[j]:=List.getElem?_eq_getElem hlt;generalize hx:g.levels[j]=x at HD2 hcnt;go_wp2_with fail
   go_loopg [3,5] x.tokens.length (fun k lv i wr=>∃ (m:Nat) (sn:List ByteArray),m+k=x.tokens.length/\i=.int .i64 m/\Below W.heap.size W wr/\wr.ownsRow W.heap.size 9 1 lv sn.length (sn.map Value.string)/\sn.length+((x.tokens.drop m).length+((g.levels.drop (j+1)).flatMap Lx.lvW).length)=(Lx.levelWords g).length/\Hid (Lx.firstDup [] (Lx.levelWords g)=Lx.firstDup sn ((x.tokens.drop m).map (fun t=>(0,t.1,t.2))++(g.levels.drop (j+1)).flatMap Lx.lvW)))
   case atStart=>exact⟨0,seen,by omega,rfl,hbz,hown,by rw[<-hcnt];simp[Lx.lvW],HD2⟩
   case round =>
    clear HD2 hown hcnt;obtain⟨m,sn,hkm,rfl,hbr,hown,hcnt,HD2⟩:=hrel;have hbwr:Below w.heap.size w wr:=hB.trans (hbr.mono (by omega));have hszr:=hbr.size;obtain⟨gb,cap,vT,vA,hv,hF,hT,hA,hFT,hFA,d0,d1,d2⟩:=(h.below hbwr).level hlt;cases hv;rw[hx]at hT hA d0;have kGr:Blk wr w.heap.size _ 49:=(hbr.block _ (by omega)).trans kG;have kRr:Blk wr (w.heap.size+1) _ 74:=(hbr.block _ (by omega)).trans kR;have g0:wr.cell? ⟨w.heap.size,0,none⟩=some (.slice (some ⟨gb,0,none⟩) g.levels.length c'):=kGr.cell 0;have g1:wr.cell? ⟨w.heap.size,1,none⟩=some (.slice a g.rules.length c):=kGr.cell 1;obtain⟨ta,tc,hvT,hmT⟩:=own_len hT;subst hvT;unfold maxLen at hmT;obtain⟨aa,ac,hvA,-⟩:=own_len hA;subst hvA;obtain⟨sa,sk,sc,hsv⟩:=own_form hown;subst hsv
    by_cases hltm:m<x.tokens.length
    ·have hd2:=HD2.out
     rw[List.drop_eq_getElem_cons hltm,List.map_cons,List.cons_append]at hd2;rw[List.drop_eq_getElem_cons hltm,List.length_cons]at hcnt;obtain⟨tg,tcap,hvt,-,-⟩:=hT.form (by omega);cases hvt;obtain⟨ag,acap,hva,-,-⟩:=hA.form (by omega);cases hva;have t1:=hT.cellAt m (by omega);rw[List.getElem?_map,List.getElem?_eq_getElem hltm]at t1;have t2:=hA.cellAt m (by omega);rw[List.getElem?_map,List.getElem?_eq_getElem hltm]at t2;simp only[Option.map_some]at t1 t2;generalize x.tokens[m]=tk at t1 t2 hd2;have q1:=find_any sn tk.1 _ _ (own_le hown (Nat.zero_le _))
     by_cases hin:0<=Lx.fnd sn tk.1
     ·have HD3:Hid (Lx.firstDup [] (Lx.levelWords g)=some tk.2):=hd2.trans (Lx.dup_cons_yes hin)
      clear hd2 HD2;go_wp2_with fail;refine q1.mono ?_;rintro e w2 ⟨rfl,hb2⟩;have r:=Lx.fnd_range sn tk.1;have lgb:gb<wr.heap.size:=(h.below hbwr).lt gb hF;have lag:ag<wr.heap.size:=(h.below hbwr).lt ag (hFA ag rfl);have kG2:Blk w2 w.heap.size _ 49:=(hb2.block _ (by omega)).trans kGr;have kR2:Blk w2 (w.heap.size+1) _ 74:=(hb2.block _ (by omega)).trans kRr;have y0:w2.cell? ⟨w.heap.size,0,none⟩=some (.slice (some ⟨gb,0,none⟩) g.levels.length c'):=kG2.cell 0;have y2:w2.cell? ⟨gb,j*3+2,none⟩=some (.slice (some ⟨ag,0,none⟩) x.tokens.length ac):=(World.cell?_of_block (w:=wr) (hb2.block gb lgb)).trans d2;have y3:w2.cell? ⟨ag,m,none⟩=some (.int .i64 (tk.2:Int)):=(World.cell?_of_block (w:=wr) (hb2.block ag lag)).trans t2;have r0:w2.cell? ⟨w.heap.size+1,0,none⟩=some (.int .i64 0):=kR2.cell 0;have r1:w2.cell? ⟨w.heap.size+1,1,none⟩=some (.int .i64 0):=kR2.cell 1;have f0:∀ j,w2.frozen? ⟨w.heap.size+1,j,none⟩=false:=kR2.frozen;have hb3:=(hbwr.trans (hb2.mono hbwr.size)).put2 (Nat.le_succ w.heap.size) (.int .i64 4) (.int .i64 (tk.2:Int));go_wp2_with fail;refine bodyPost_ret (v:=.agg #[.int .i64 4,.int .i64 (tk.2:Int)]) (by simp[results,Tryz.results59,go_sem,r0,r1]) rfl ⟨?_,?_⟩
      ·rw[HD3.out];rfl
      ·exact hb3
     ·have HD3:Hid (Lx.firstDup [] (Lx.levelWords g)=Lx.firstDup (sn++[tk.1]) ((x.tokens.drop (m+1)).map (fun t=>(0,t.1,t.2))++(g.levels.drop (j+1)).flatMap Lx.lvW)):=hd2.trans (Lx.dup_cons_no hin)
      clear hd2 HD2;go_wp2_with fail;refine q1.mono ?_;rintro e w2 ⟨rfl,hb2⟩;have r:=Lx.fnd_range sn tk.1;have hs2:=hb2.size;have hown2:=own_below hown hb2;have hlT:=hcnt
      go_wp2_with (at_builtin;refine wpList_append_own _ rfl _ _ 22 rfl W.heap.size 9 i0 _ 1 16 Tryz.underlying22 hii hz0 hz1 hz2 rfl (by decide) (.slice sa sk sc) _ _ rfl (hown2.alloc _) ⟨_,0,none⟩ 1 1 [.string tk.1] rfl rfl (news_of (Blk.new w2 _ 9)) (by simp[Value.oneCell']) (by unfold maxLen;omega) (by omega) (by simp;omega) ?_;intro v' w3 hown3 hgrow3 _)
      have hb4:Below W.heap.size W w3:=((hbr.trans (hb2.mono hszr)).alloc (by omega) (.cells #[.string tk.1] 9)).grown hgrow3 (by simp;omega) (fun q hq=>(hown.lt q hq).1);go_wp2_with fail;go_roundg (x.tokens.length - (m+1))
      case measure=>omega
      case rel=>exact⟨m+1,sn++[tk.1],by omega,by go_num,hb4,by simpa using hown3,by rw[List.length_append,List.length_singleton];omega,HD3⟩
    ·have:m=x.tokens.length:=by omega
     subst this;have hd2:=HD2.out;rw[List.drop_length,List.map_nil,List.nil_append]at hd2;rw[List.drop_length,List.length_nil]at hcnt;have HD3:Hid _:=hd2;clear hd2 HD2;go_wp2_with fail;go_roundg (g.levels.length - (j+1))
     case measure=>omega
     case rel=>exact⟨j+1,sn,by omega,by go_num,hbr,hown,by omega,HD3⟩
  ·have:j=g.levels.length:=by omega
   subst this;have hd2:=HD.out;rw[List.drop_length]at hd2;have HD3:Hid (Lx.firstDup [] (Lx.levelWords g)=none):=hd2;clear hd2 HD hown hcnt;go_wp2_with fail;have HR:Hid (Lx.firstDup [] (Lx.ruleWords g)=Lx.firstDup ((Lx.ruleNames g).take 0) ((Lx.ruleWords g).drop 0)):=rfl;clear kGz kRz g0 g1 hk
   go_loopg [7] g.rules.length (fun k i wr=>∃ (j:Nat),j+k=g.rules.length/\i=.int .i64 j/\Below W.heap.size W wr/\Hid (Lx.firstDup [] (Lx.ruleWords g)=Lx.firstDup ((Lx.ruleNames g).take j) ((Lx.ruleWords g).drop j)))
   case atStart=>exact⟨0,by omega,rfl,hbz,HR⟩
   case round =>
    clear HR;obtain⟨j,hk,rfl,hbr,HR⟩:=hrel;have hbwr:Below w.heap.size w wr:=hB.trans (hbr.mono (by omega));have hszr:=hbr.size;have kGr:Blk wr w.heap.size _ 49:=(hbr.block _ (by omega)).trans kG;have kRr:Blk wr (w.heap.size+1) _ 74:=(hbr.block _ (by omega)).trans kR;have g0:wr.cell? ⟨w.heap.size,0,none⟩=some (.slice a' g.levels.length c'):=kGr.cell 0;have g1:wr.cell? ⟨w.heap.size,1,none⟩=some (.slice a g.rules.length c):=kGr.cell 1
    by_cases hlt:j<g.rules.length
    ·obtain⟨gb,cap,va,hv,hF,hA,d0,d1,d2⟩:=(h.below hbwr).rule hlt
     cases hv;have hdup:=Lx.rule_dup hlt;have lgb:gb<wr.heap.size:=(h.below hbwr).lt gb hF;have lG:w.heap.size<wr.heap.size:=by omega
     have hdg:=h.below hbwr;generalize g.rules[j]=x at d0 d1 d2 hdup;have r:=Lx.fnd_range (Lx.ruleNames g) x.name;have hln:(Lx.ruleNames g).length=g.rules.length:=by simp[Lx.ruleNames]
     by_cases hin:Lx.fnd (Lx.ruleNames g) x.name<(j:Int)
     ·have HR2:Hid (Lx.firstDup [] (Lx.ruleWords g)=some x.place):=HR.out.trans (hdup.1 hin)
      clear hdup HR;go_wp2_with fail
      go_region_law (have q1:=ruleOf_any (hdg.below (w':=wr.drew) ⟨rfl,rfl,rfl,Nat.le_refl _,fun _ _=>rfl⟩) x.name;rw[show Lx.rnames g=Lx.ruleNames g from rfl]at q1;refine step_call rfl 107 #[.agg #[.slice a' g.levels.length c',.slice (some ⟨gb,0,none⟩) g.rules.length c],.string x.name] (by go_simp) q1 ?_;rintro e w1 ⟨rfl,hb1⟩;refine⟨_,rfl,?_⟩)
      all_goals
       have hb6:Below wr.heap.size wr w1:=(Below.refl _ wr).drew.trans hb1;have kR3:Blk w1 (w.heap.size+1) _ 74:=(hb6.block _ (by omega)).trans kRr;have kG3:Blk w1 w.heap.size _ 49:=(hb6.block _ (by omega)).trans kGr;have m1:w1.cell? ⟨w.heap.size,1,none⟩=some (.slice (some ⟨gb,0,none⟩) g.rules.length c):=kG3.cell 1;have m2:w1.cell? ⟨gb,j*3+2,none⟩=some (.int .i64 (x.place:Int)):=(World.cell?_of_block (w:=wr) (hb6.block gb lgb)).trans d2;have r0:w1.cell? ⟨w.heap.size+1,0,none⟩=some (.int .i64 0):=kR3.cell 0;have r1:w1.cell? ⟨w.heap.size+1,1,none⟩=some (.int .i64 0):=kR3.cell 1;have f0:∀ j,w1.frozen? ⟨w.heap.size+1,j,none⟩=false:=kR3.frozen;have hb7:=(hbwr.trans (hb6.mono (by omega))).put2 (Nat.le_succ w.heap.size) (.int .i64 4) (.int .i64 (x.place:Int));go_wp2_with fail;refine bodyPost_ret (v:=.agg #[.int .i64 4,.int .i64 (x.place:Int)]) (by simp[results,Tryz.results59,go_sem,r0,r1]) rfl ⟨?_,?_⟩
       ·rw[HD3.out,HR2.out];rfl
       ·exact hb7
     ·have HR2:Hid (Lx.firstDup [] (Lx.ruleWords g)=Lx.firstDup ((Lx.ruleNames g).take (j+1)) ((Lx.ruleWords g).drop (j+1))):=HR.out.trans (hdup.2 hin)
      clear hdup HR;go_wp2_with fail
      go_region_law (have q1:=ruleOf_any (hdg.below (w':=wr.drew) ⟨rfl,rfl,rfl,Nat.le_refl _,fun _ _=>rfl⟩) x.name;rw[show Lx.rnames g=Lx.ruleNames g from rfl]at q1;refine step_call rfl 107 #[.agg #[.slice a' g.levels.length c',.slice (some ⟨gb,0,none⟩) g.rules.length c],.string x.name] (by go_simp) q1 ?_;rintro e w1 ⟨rfl,hb1⟩;refine⟨_,rfl,?_⟩)
      all_goals
       have hb6:Below wr.heap.size wr w1:=(Below.refl _ wr).drew.trans hb1;go_wp2_with fail;go_roundg (g.rules.length - (j+1))
       case measure=>omega
       case rel=>exact⟨j+1,by omega,by go_num,hbr.trans (hb6.mono hszr),HR2⟩
    ·have:j=g.rules.length:=by omega
     subst this;have hr2:=HR.out;rw[List.drop_eq_nil_of_le (by simp[Lx.ruleWords])]at hr2;have HR2:Hid (Lx.firstDup [] (Lx.ruleWords g)=none):=hr2;clear hr2 HR;have r0:wr.cell? ⟨w.heap.size+1,0,none⟩=some (.int .i64 0):=kRr.cell 0;have r1:wr.cell? ⟨w.heap.size+1,1,none⟩=some (.int .i64 0):=kRr.cell 1;have f0:∀ j,wr.frozen? ⟨w.heap.size+1,j,none⟩=false:=kRr.frozen;go_wp2_with fail;refine bodyPost_ret (v:=.agg #[.int .i64 0,.int .i64 0]) (by simp[results,Tryz.results59,go_sem,r0,r1]) rfl ⟨?_,?_⟩
     ·rw[HD3.out,HR2.out];rfl
     ·exact hbwr.put2 (Nat.le_succ _) _ _
end
section
open Go.RowKit
open Tr
theorem Tryz.info4:(Tryz.prog.info? 4).map (fun i=>(i.zero,i.size,i.bytes))=some (some (.bool false),1,1):=by kernel_rfl
theorem made_bools (n:Nat):madeCells #[.bool false] (n*1)=boolsV (List.replicate n false):=by
 unfold madeCells boolsV;apply Array.ext
 ·simp
 ·intro i h1 h2
  simp[Nat.mod_one]
theorem make_bools {n:Nat}(hn:n<=2001)(w:World):(Instr.makeSlice 39 (.int .i64 (n:Int)) (.int .i64 (n:Int))).run Tryz.prog w=.ok (.slice (some ⟨w.heap.size,0,none⟩) n n) (w.alloc (.cells (boolsV (List.replicate n false)) 4)):=by
 obtain⟨i0,hi,hz0,hz1,hz2⟩:=info_parts Tryz.info4;have h:=run_make (P:=Tryz.prog) w 39 4 i0 _ (by kernel_rfl) hi hz0 .i64 .i64 (n:Int) (n:Int) (by omega) (Int.le_refl _) (by rw[hz2];omega) (by omega);rw[h,Int.toNat_natCast,hz1];have e:Value.cells (.bool false)=#[.bool false]:=rfl;rw[e,made_bools]
namespace Lx
def firstOff:List Rl->List Bool->Option Nat
 | r::rs,b::bs=>if b=true then firstOff rs bs else some r.place
 | _,_=>none
theorem firstOff_drop {rs:List Rl}{bs:List Bool}{i:Nat}(hr:i<rs.length)(hb:i<bs.length):(at? bs i=true->firstOff (rs.drop i) (bs.drop i)=firstOff (rs.drop (i+1)) (bs.drop (i+1)))/\(at? bs i=false->firstOff (rs.drop i) (bs.drop i)=some rs[i].place):=by
 rw[List.drop_eq_getElem_cons hr,List.drop_eq_getElem_cons hb];have e:at? bs i=bs[i]:=by simp[at?,hb]
 rw[e];constructor
 ·intro h;rw[firstOff,if_pos h]
 ·intro h;rw[firstOff,if_neg (by rw[h];decide)]
def comeL (g:Gr):List Bool:=iter (roundB (comeStep g) g.rules.length 0) (g.rules.length+1) ((List.replicate g.rules.length false).set 0 true)
def endL (g:Gr):List Bool:=iter (roundB (endStep g) g.rules.length 0) (g.rules.length+1) (List.replicate g.rules.length false)
def dupG (g:Gr):Option Nat:=(firstDup [] (levelWords g)).or (firstDup [] (ruleWords g))
def unkG (g:Gr):Option Nat:=rulesUnknown (ruleNames g) (levelToks g) g.rules
def orE (n:Nat)(o:Option Nat)(r:Nat × Nat):Nat × Nat :=
 match o with
 | some p=>(n,p)
 | none=>r
def chk (g:Gr):Nat × Nat:=orE 4 (dupG g) (orE 5 (unkG g) (orE 6 (firstOff g.rules (comeL g)) (orE 7 (firstOff g.rules (endL g)) (0,0))))
theorem unkG_drop {g:Gr}{rs:List Rl}{i:Nat}(hi:i<rs.length):rulesUnknown (ruleNames g) (levelToks g) (rs.drop i)=(unk g (flatA 9 rs[i].alts)).or (rulesUnknown (ruleNames g) (levelToks g) (rs.drop (i+1))):=by
 rw[List.drop_eq_getElem_cons hi];rfl
theorem unkG_all {g:Gr}:∀ {rs:List Rl},rulesUnknown (ruleNames g) (levelToks g) rs=none->∀ r∈rs,unk g (flatA 9 r.alts)=none
 | [],_,_,h=>by cases h
 | r::rs,h,x,hx=>by
  rw[rulesUnknown]at h;cases h1:firstUnknown (ruleNames g) (levelToks g) (flatA 9 r.alts) with
  | some p=>rw[h1]at h;cases h
  | none =>
   rw[h1]at h;rcases List.mem_cons.1 hx with rfl | hx
   ·exact h1
   ·exact unkG_all h x hx
theorem roundB_snoc {step:Nat->List Bool->List Bool}:∀ (k i:Nat) (bs:List Bool),roundB step (k+1) i bs=step (i+k) (roundB step k i bs)
 | 0,i,bs=>rfl
 | k+1,i,bs=>by
  rw[roundB,roundB_snoc k (i+1) (step i bs),roundB,show i+1+k=i+(k+1) by omega]
theorem iter_snoc {σ:Type} (R:σ->σ):∀ (k:Nat) (s:σ),iter R (k+1) s=R (iter R k s)
 | 0,_=>rfl
 | k+1,s=>by rw[iter,iter_snoc R k (R s),iter]
theorem altsAt_eq {g:Gr}{i:Nat}(hi:i<g.rules.length):altsAt g i=g.rules[i].alts:=by simp[altsAt,hi]
theorem comeStep_on {g:Gr}{i:Nat}{bs:List Bool}(hi:i<g.rules.length)(h:at? bs i=true):comeStep g i bs=markL (ruleNames g) (usedD 9 g.rules[i].alts) bs:=by
 rw[comeStep,if_pos h,altsAt_eq hi];rfl
theorem comeStep_off {g:Gr}{i:Nat}{bs:List Bool}(h:at? bs i=false):comeStep g i bs=bs:=by
 rw[comeStep,if_neg (by rw[h];decide)]
theorem endStep_eq {g:Gr}{i:Nat}{bs:List Bool}(hi:i<g.rules.length)(hb:i<bs.length):endStep g i bs=bs.set i (at? bs i || endsA (onB g bs) 9 g.rules[i].alts):=by
 rw[endStep,altsAt_eq hi];cases h:endsA (onB g bs) 9 g.rules[i].alts with
 | true=>rw[if_pos rfl,Bool.or_true]
 | false =>
  rw[if_neg (by decide),Bool.or_false];have e:at? bs i=bs[i]:=by simp[at?,hb]
  rw[e,List.set_getElem_self]
theorem comeStep_len (g:Gr)(i:Nat)(bs:List Bool):(comeStep g i bs).length=bs.length:=((come_step g).le i bs).1.symm
end Lx
end
section
open Go Go.RowKit
namespace Lx
def itsA:Nat->List Alt->List It
 | 0,_=>[]
 | d+1,l=>l.flatMap fun a=>a.1.flatMap fun x=>x::itsA d x.alts
def sizeA:Nat->List Alt->Nat
 | 0,_=>0
 | d+1,l=>(l.map fun a=>1+(a.1.map fun x=>1+sizeA d x.alts).sum).sum
def itsI (d:Nat)(x:It):List It:=x::itsA d x.alts
def sizeI (d:Nat)(x:It):Nat:=1+sizeA d x.alts
def itsL (d:Nat)(l:List It):List It:=l.flatMap (itsI d)
def sizeL (d:Nat)(l:List It):Nat:=(l.map (sizeI d)).sum
theorem itsA_succ (d:Nat)(l:List Alt):itsA (d+1) l=l.flatMap fun a=>itsL d a.1:=rfl
theorem sizeA_succ (d:Nat)(l:List Alt):sizeA (d+1) l=(l.map fun a=>1+sizeL d a.1).sum:=rfl
theorem itsA_nil:∀ d,itsA d []=[]
 | 0=>rfl
 | _+1=>rfl
theorem sizeA_nil:∀ d,sizeA d []=0
 | 0=>rfl
 | _+1=>rfl
def Took (ts ts':List Tk)(l:List It)(n k:Nat):Prop:=∃ pre,ts=pre++ts'/\(l.map It.place).Sublist (pre.map Prod.snd)/\n<=pre.length+k
theorem Took.refl (ts:List Tk):Took ts ts [] 0 0:=⟨[],rfl,List.Sublist.refl _,Nat.le_refl _⟩
theorem Took.trans {a b c:List Tk}{l m:List It}{n n' k k':Nat}(h:Took a b l n k)(h':Took b c m n' k'):Took a c (l++m) (n+n') (k+k'):=by
 obtain⟨p,rfl,h2,h3⟩:=h;obtain⟨q,rfl,h5,h6⟩:=h';refine⟨p++q,by simp,?_,by simp;omega⟩;rw[List.map_append,List.map_append];exact h2.append h5
theorem Took.less {a b:List Tk}{l:List It}{n n' k k':Nat}(h:Took a b l n k)(hn:n'+k<=n+k'):Took a b l n' k':=by
 obtain⟨p,e,h2,h3⟩:=h;exact⟨p,e,h2,by omega⟩
theorem cons_of {ts:List Tk}(h:hd ts≠noText):ts=(hd ts,pl ts)::ts.tail:=by
 cases ts with
 | nil=>exact absurd rfl h
 | cons t ts=>rfl
theorem Took.pass {ts:List Tk}(h:hd ts≠noText):Took ts ts.tail [] 1 0:=⟨[(hd ts,pl ts)],cons_of h,List.nil_sublist _,Nat.le_refl _⟩
theorem Took.item {ts:List Tk}(h:hd ts≠noText){x:It}(hx:x.place=pl ts):Took ts ts.tail [x] 1 0:=⟨[(hd ts,pl ts)],cons_of h,by rw[<-hx];exact List.Sublist.refl _,Nat.le_refl _⟩
theorem name_ne {b:ByteArray}(p:Int->Bool)(h:isWord p b=true):b≠noText:=by
 rintro rfl;simp[isWord,noText,ByteArray.size]at h
theorem pMark_took (ts:List Tk):Took ts (pMark ts).2 [] 0 0:=by
 unfold pMark
 split
 ·rename_i h;exact (Took.pass (by rw[h];decide)).less (by omega)
 ·split
  ·rename_i h;exact (Took.pass (by rw[h];decide)).less (by omega)
  ·split
   ·rename_i h;exact (Took.pass (by rw[h];decide)).less (by omega)
   ·exact Took.refl _
def GrpTook (d:Nat)(grp:List Tk->Res (List Alt)):Prop:=∀ ts l ts',grp ts=.ok (l,ts')->Took ts.tail ts' (itsA d l) (sizeA d l) 0
theorem pItem_took {d:Nat}{grp:List Tk->Res (List Alt)}(hg:GrpTook d grp){ts ts':List Tk}{x:It}(h:pItem grp ts=.ok (x,ts')):Took ts ts' (itsI d x) (sizeI d x) 0:=by
 unfold pItem at h
 split at h
 ·rename_i ho
  split at h
  ·cases h
  ·rename_i alts ts1 hq
   cases h;have h1:=(Took.item (ts:=ts) (by rw[ho];decide) (x:=⟨2,noText,(pMark ts1).1,alts,pl ts⟩) rfl).trans ((hg _ _ _ hq).trans (pMark_took ts1));rw[List.append_nil]at h1;exact h1
 ·split at h
  ·rename_i hn
   cases h;have h1:=(Took.item (ts:=ts) (name_ne _ hn) (x:=⟨0,hd ts,(pMark ts.tail).1,[],pl ts⟩) rfl).trans (pMark_took ts.tail);rw[List.append_nil]at h1;simpa [itsI,sizeI,itsA_nil,sizeA_nil]using h1
  ·split at h
   ·rename_i hn
    cases h;have h1:=(Took.item (ts:=ts) (name_ne _ hn) (x:=⟨1,hd ts,(pMark ts.tail).1,[],pl ts⟩) rfl).trans (pMark_took ts.tail);rw[List.append_nil]at h1;simpa [itsI,sizeI,itsA_nil,sizeA_nil]using h1
   ·cases h
theorem pItems_took {d:Nat} {grp:List Tk->Res (List Alt)} (hg:GrpTook d grp):∀ (f:Nat) (ts:List Tk) (a x:List It) (ts':List Tk),pItems grp f ts a=.ok (x,ts')->∃ y,x=a++y/\Took ts ts' (itsL d y) (sizeL d y) 0
 | 0,ts,a,x,ts',h=>by
  cases h;exact⟨[],by simp,Took.refl _⟩
 | f+1,ts,a,x,ts',h=>by
  unfold pItems at h
  split at h
  ·split at h
   ·cases h
   ·rename_i z t1 hz
    obtain⟨y,e,h2⟩:=pItems_took hg f t1 _ x ts' h;refine⟨z::y,by rw[e];simp,?_⟩;exact (pItem_took hg hz).trans h2
  ·cases h
   exact⟨[],by simp,Took.refl _⟩
theorem pAlt_took {d:Nat}{grp:List Tk->Res (List Alt)}(hg:GrpTook d grp){top:Bool}{ts ts':List Tk}{x:Alt}(h:pAlt grp top ts=.ok (x,ts')):Took ts ts' (itsL d x.1) (1+sizeL d x.1) 1:=by
 unfold pAlt at h
 split at h
 ·cases h
 ·rename_i its t1 hi
  obtain⟨y,e,h2⟩:=pItems_took hg _ _ _ _ _ hi;rw[List.nil_append]at e;subst e;unfold pPrec at h
  split at h
  ·rename_i hp
   split at h
   ·cases h
   ·rename_i b t2 hb
    cases h;obtain⟨rfl,rfl,hk⟩:=pWord_len hb;have h3:=h2.trans ((Took.pass (ts:=t1) (by rw[hp.2];decide)).trans (Took.pass (name_ne _ hk)));simp only[List.append_nil]at h3;refine Took.less h3 ?_;show 1+sizeL d its+_<=_;omega
  ·cases h
   refine Took.less h2 ?_;show 1+sizeL d its+_<=_;omega
theorem pMore_took {d:Nat} {grp:List Tk->Res (List Alt)} (hg:GrpTook d grp) {top:Bool}:∀ (f:Nat) (ts:List Tk) (a x:List Alt) (ts':List Tk),pMore grp top f ts a=.ok (x,ts')->∃ y,x=a++y/\Took ts ts' (itsA (d+1) y) (sizeA (d+1) y) 0
 | 0,ts,a,x,ts',h=>by
  cases h;exact⟨[],by simp,Took.refl _⟩
 | f+1,ts,a,x,ts',h=>by
  unfold pMore at h
  split at h
  ·rename_i hb
   split at h
   ·cases h
   ·rename_i z t1 hz
    obtain⟨y,e,h2⟩:=pMore_took hg f t1 _ x ts' h;refine⟨z::y,by rw[e];simp,?_⟩;have h3:=(Took.pass (ts:=ts) (by rw[hb];decide)).trans ((pAlt_took hg hz).trans h2);rw[List.nil_append]at h3;rw[itsA_succ,sizeA_succ,List.flatMap_cons,List.map_cons,List.sum_cons,<-itsA_succ,<-sizeA_succ];exact h3.less (by omega)
  ·cases h
   exact⟨[],by simp,Took.refl _⟩
theorem pAltsBy_took {d:Nat}{grp:List Tk->Res (List Alt)}(hg:GrpTook d grp){top:Bool}{ts ts':List Tk}{x:List Alt}(h:pAltsBy grp top ts=.ok (x,ts')):Took ts ts' (itsA (d+1) x) (sizeA (d+1) x) 1:=by
 unfold pAltsBy at h
 split at h
 ·cases h
 ·rename_i z t1 hz
  obtain⟨y,e,h2⟩:=pMore_took hg _ _ _ _ _ h;subst e;have h3:=(pAlt_took hg hz).trans h2;rw[List.cons_append,List.nil_append,itsA_succ,sizeA_succ,List.flatMap_cons,List.map_cons,List.sum_cons,<-itsA_succ,<-sizeA_succ];exact h3.less (by omega)
theorem pGroup_took {d:Nat}{r:List Tk->Res (List Alt)}(hr:∀ ts l ts',r ts=.ok (l,ts')->Took ts ts' (itsA d l) (sizeA d l) 1):GrpTook d (pGroup r):=by
 intro ts l ts' h;unfold pGroup at h
 split at h
 ·cases h
 ·rename_i l1 t1 h1
  split at h
  ·cases h
  ·rename_i u t2 h2
   cases h;obtain⟨rfl,hs⟩:=pMust_len h2;have h3:=(hr _ _ _ h1).trans (Took.pass (ts:=t1) (by rw[hs];decide));rw[List.append_nil]at h3;exact h3.less (by omega)
theorem pAlts_took:∀ (d:Nat) (ts:List Tk) (l:List Alt) (ts':List Tk),pAlts d ts=.ok (l,ts')->Took ts ts' (itsA (d+1) l) (sizeA (d+1) l) 1
 | 0,ts,l,ts',h=>pAltsBy_took (d:=0) (fun _ _ _ h=>by cases h) h
 | d+1,ts,l,ts',h=>pAltsBy_took (pGroup_took (pAlts_took d)) h
theorem pRule_took {ts ts':List Tk}{x:Rl}(h:pRule ts=.ok (x,ts')):Took ts ts' (itsA 9 x.alts) (1+sizeA 9 x.alts) 0:=by
 unfold pRule at h
 split at h
 ·cases h
 ·rename_i n t1 h1
  obtain⟨rfl,rfl,hk⟩:=pWord_len h1
  split at h
  ·cases h
  ·rename_i u t2 h2
   obtain⟨rfl,he⟩:=pMust_len h2
   split at h
   ·cases h
   ·rename_i l t3 h3
    split at h
    ·cases h
    ·rename_i u4 t4 h4
     obtain⟨rfl,hs⟩:=pMust_len h4;cases h;have h5:=(Took.pass (ts:=ts) (name_ne _ hk)).trans ((Took.pass (ts:=ts.tail) (by rw[he];decide)).trans ((pAlts_took 8 _ _ _ h3).trans (Took.pass (ts:=t3) (by rw[hs];decide))));rw[List.append_nil,List.nil_append,List.nil_append]at h5;refine Took.less h5 ?_;show 1+sizeA 9 l+_<=1+(1+(sizeA 9 l+1))+_;omega
def itsG (rs:List Rl):List It:=rs.flatMap fun r=>itsA 9 r.alts
def sizeG (rs:List Rl):Nat:=(rs.map fun r=>1+sizeA 9 r.alts).sum
theorem pRules_took:∀ (f:Nat) (ts:List Tk) (a x:List Rl) (ts':List Tk),pRules f ts a=.ok (x,ts')->∃ y,x=a++y/\Took ts ts' (itsG y) (sizeG y) 0
 | 0,ts,a,x,ts',h=>by
  cases h;exact⟨[],by simp,Took.refl _⟩
 | f+1,ts,a,x,ts',h=>by
  unfold pRules at h
  split at h
  ·cases h
   exact⟨[],by simp,Took.refl _⟩
  ·split at h
   ·cases h
   ·rename_i z t1 hz
    obtain⟨y,e,h2⟩:=pRules_took f t1 _ x ts' h;exact⟨z::y,by rw[e];simp,(pRule_took hz).trans h2⟩
theorem pTokens_took:∀ (f:Nat) (ts a x:List Tk) (ts':List Tk),pTokens f ts a=.ok (x,ts')->∃ pre,ts=pre++ts'/\x.length<=a.length+pre.length
 | 0,ts,a,x,ts',h=>by cases h;exact⟨[],rfl,Nat.le_refl _⟩
 | f+1,ts,a,x,ts',h=>by
  unfold pTokens at h
  split at h
  ·rename_i hs
   cases h;exact⟨[(hd ts,pl ts)],cons_of (by rw[hs];decide),by simp⟩
  ·split at h
   ·cases h
   ·rename_i b t1 h1
    obtain⟨rfl,rfl,hk⟩:=pWord_len h1;obtain⟨pre,e,h2⟩:=pTokens_took f _ _ _ _ h;refine⟨(hd ts,pl ts)::pre,?_,by simp at h2 ⊢;omega⟩;rw[List.cons_append,<-e];exact cons_of (name_ne _ hk)
def sizeV (ls:List Lv):Nat:=(ls.map fun l=>1+l.tokens.length).sum
theorem levelKind_ne {b:ByteArray}(h:0<=levelKind b):b≠noText:=by
 rintro rfl;exact absurd h (by decide)
theorem pLevels_took:∀ (f:Nat) (ts:List Tk) (a x:List Lv) (ts':List Tk),pLevels f ts a=.ok (x,ts')->∃ y,x=a++y/\Took ts ts' [] (sizeV y) 0
 | 0,ts,a,x,ts',h=>by
  cases h;exact⟨[],by simp,Took.refl _⟩
 | f+1,ts,a,x,ts',h=>by
  unfold pLevels at h
  split at h
  ·rename_i hk
   split at h
   ·cases h
   ·rename_i z t1 hz
    obtain⟨y,e,h2⟩:=pLevels_took f t1 _ x ts' h;refine⟨z::y,by rw[e];simp,?_⟩;unfold pLevel at hz
    split at hz
    ·cases hz
    ·rename_i b t2 hb
     obtain⟨rfl,rfl,hw⟩:=pWord_len hb
     split at hz
     ·cases hz
     ·rename_i l t3 h3
      cases hz;obtain⟨pre,e3,h4⟩:=pTokens_took _ _ _ _ _ h3;have h5:Took ts.tail.tail t1 [] pre.length 0:=⟨pre,e3,List.nil_sublist _,Nat.le_refl _⟩;have h6:=(Took.pass (ts:=ts) (levelKind_ne hk)).trans ((Took.pass (ts:=ts.tail) (name_ne _ hw)).trans (h5.trans h2));refine Took.less h6 ?_;simp only[sizeV,List.map_cons,List.sum_cons,List.length_cons,List.length_nil]at h4 ⊢;omega
  ·cases h
   exact⟨[],by simp,Took.refl _⟩
theorem pGrammar_took {ts ts':List Tk}{g:Gr}(h:pGrammar ts=.ok (g,ts')):Took ts ts' (itsG g.rules) (sizeV g.levels+sizeG g.rules) 0:=by
 unfold pGrammar at h
 split at h
 ·cases h
 ·rename_i lv t1 h1
  split at h
  ·cases h
  ·rename_i x t2 h2
   split at h
   ·cases h
   ·rename_i l t3 h3
    cases h;obtain⟨y,e,k1⟩:=pLevels_took _ _ _ _ _ h1;obtain⟨z,e',k2⟩:=pRules_took _ _ _ _ _ h3;rw[List.nil_append]at e;subst e e';exact k1.trans ((pRule_took h2).trans k2)
theorem lexTo_rise (s:ByteArray):∀ (f i:Nat),i<=s.size->(∀ t∈lexTo s f i,i<=t.2)/\(lexTo s f i).Pairwise fun a b=>a.2<b.2
 | 0,i,hi=>by
  unfold lexTo;exact⟨fun t ht=>by simp at ht;subst ht;exact Nat.le_refl _,List.pairwise_singleton _ _⟩
 | f+1,i,hi=>by
  unfold lexTo
  split
  ·rename_i hlt
   have hn:=nextAt_bd hlt;obtain⟨h1,h2⟩:=lexTo_rise s f (nextAt s i) hn.2;refine⟨fun t ht=>?_,List.pairwise_cons.2 ⟨fun t ht=>?_,h2⟩⟩
   ·rcases List.mem_cons.1 ht with rfl | ht
    ·exact Nat.le_refl _
    ·have:=h1 t ht;omega
   ·have:=h1 t ht
    show i<t.2;omega
  ·exact⟨fun t ht=>by simp at ht;subst ht;exact Nat.le_refl _,List.pairwise_singleton _ _⟩
theorem lex_rise (s:ByteArray):(lex s).Pairwise fun a b=>a.2<b.2:=(lexTo_rise s _ _ (gapEnd_bd false (Nat.zero_le _)).2).2
theorem parse_took {s:ByteArray}{g:Gr}(h:parse s=.ok g):sizeV g.levels+sizeG g.rules<=2001/\((itsG g.rules).map It.place).Pairwise (·< ·):=by
 unfold parse at h
 split at h
 ·cases h
 ·rename_i hs
  split at h
  ·cases h
  ·rename_i g' ts' hp
   cases h;obtain⟨pre,e,h1,h2⟩:=pGrammar_took hp;have hl:=lexAt_len s (gapEnd s 0 false);have hr:=lex_rise s;have e2:lexAt s (gapEnd s 0 false)=pre++ts':=e;rw[e2,List.length_append]at hl;rw[e]at hr;refine⟨by omega,?_⟩;have h3:(pre.map Prod.snd).Pairwise (·< ·):=List.pairwise_map.2 (List.pairwise_append.1 hr).1;exact h3.sublist h1
end Lx
end
section
open Go Go.RowKit
namespace Lx
def hlp (x:It):Bool:=decide (x.kind=2) || decide (x.mark≠0)
def hlpA (d:Nat)(l:List Alt):List It:=(itsA d l).filter hlp
def hlpI (d:Nat)(x:It):List It:=(if hlp x=true then [x] else [])++hlpA d x.alts
def hlpL (d:Nat)(l:List It):List It:=l.flatMap (hlpI d)
theorem hlp_itsI (d:Nat)(x:It):(itsI d x).filter hlp=hlpI d x:=by
 unfold itsI hlpI hlpA;rw[List.filter_cons]
 split <;> simp
theorem filter_flat {α β:Type} (p:β->Bool) (f:α->List β):∀ l:List α,(l.flatMap f).filter p=l.flatMap fun a=>(f a).filter p
 | []=>rfl
 | a::l=>by rw[List.flatMap_cons,List.filter_append,filter_flat p f l,List.flatMap_cons]
theorem hlpA_succ (d:Nat)(l:List Alt):hlpA (d+1) l=l.flatMap fun a=>hlpL d a.1:=by
 unfold hlpA hlpL;rw[itsA_succ,filter_flat];congr 1;funext a;unfold itsL;rw[filter_flat];congr 1;funext x;exact hlp_itsI d x
theorem itsA_len:∀ (d:Nat) (l:List Alt),(itsA d l).length<=sizeA d l
 | 0,_=>Nat.le_refl _
 | d+1,l=>by
  rw[itsA_succ,sizeA_succ,List.length_flatMap];have h1:∀ its:List It,(itsL d its).length<=sizeL d its:=by
   intro its;unfold itsL sizeL;rw[List.length_flatMap]
   induction its with
   | nil=>exact Nat.le_refl _
   | cons x its ih =>
    rw[List.map_cons,List.map_cons,List.sum_cons,List.sum_cons];have:=itsA_len d x.alts;simp only[itsI,sizeI,List.length_cons]at *;omega
  induction l with
  | nil=>exact Nat.le_refl _
  | cons a l ih =>
   rw[List.map_cons,List.map_cons,List.sum_cons,List.sum_cons];have:=h1 a.1;omega
theorem hlpA_len (d:Nat)(l:List Alt):(hlpA d l).length<=sizeA d l:=Nat.le_trans (List.length_filter_le _ _) (itsA_len d l)
def toksA (d:Nat)(l:List Alt):List ByteArray:=((itsA d l).filter fun x=>decide (x.kind=1)).map It.name
def toksI (d:Nat)(x:It):List ByteArray:=(if x.kind=1 then [x.name] else [])++toksA d x.alts
theorem toksA_succ (d:Nat)(l:List Alt):toksA (d+1) l=l.flatMap fun a=>a.1.flatMap (toksI d):=by
 unfold toksA;rw[itsA_succ,filter_flat,List.map_flatMap];congr 1;funext a;unfold itsL;rw[filter_flat,List.map_flatMap];congr 1;funext x;unfold itsI toksI toksA;rw[List.filter_cons]
 by_cases h:x.kind=1
 ·simp[h]
 ·simp[h]
theorem toksA_len (d:Nat)(l:List Alt):(toksA d l).length<=sizeA d l:=by
 unfold toksA;rw[List.length_map];exact Nat.le_trans (List.length_filter_le _ _) (itsA_len d l)
def tDollar:ByteArray:=⟨#[36]⟩
def tStart:ByteArray:=⟨#[36,115,116,97,114,116]⟩
def tTick:ByteArray:=⟨#[39]⟩
def addTok (l:List ByteArray)(b:ByteArray):List ByteArray:=if 0<=fnd l b then l else l++[b]
theorem addTok_len (l:List ByteArray)(b:ByteArray):(addTok l b).length<=l.length+1:=by
 unfold addTok;split
 ·omega
 ·simp
def addToks (l bs:List ByteArray):List ByteArray:=bs.foldl addTok l
theorem addToks_len:∀ (bs l:List ByteArray),(addToks l bs).length<=l.length+bs.length
 | [],l=>Nat.le_refl _
 | b::bs,l=>by
  have h1:=addToks_len bs (addTok l b);have h2:=addTok_len l b;rw[List.length_cons];have:addToks l (b::bs)=addToks (addTok l b) bs:=rfl;rw[this];omega
theorem addToks_app (l a b:List ByteArray):addToks l (a++b)=addToks (addToks l a) b:=List.foldl_append
def decB (n:Nat):ByteArray:=⟨(Lib.decDigits n).toArray⟩
def hName (b:ByteArray)(k:Nat):ByteArray:=b++tTick++decB k
def namesR (r:Rl):List ByteArray:=r.name::(List.range (hlpA 9 r.alts).length).map fun k=>hName r.name (k+1)
def tokG (g:Gr):List ByteArray:=addToks [tDollar] (levelToks g++g.rules.flatMap fun r=>toksA 9 r.alts)
def namG (g:Gr):List ByteArray:=tStart::g.rules.flatMap namesR
structure Pd where
 left:Nat
 right:List Nat
 prec:Int
def precOf (n:Nat)(r:List Nat):Int:=r.foldl (fun p s=>if s<n then (s:Int) else p) (-1)
def pdOf (n s:Nat)(r:List Nat):Pd:=⟨s,r,precOf n r⟩
def psym (T N:List ByteArray)(x:It):Nat:=if x.kind=1 then fix T x.name else T.length+fix N x.name
def fixP (H:List It)(p:Nat):Nat:=H.findIdx fun x=>decide (x.place=p)
def symOf (T N:List ByteArray)(b:Nat)(H:List It)(x:It):Nat:=if hlp x=true then b+1+fixP H x.place else psym T N x
def rightOf (T N:List ByteArray)(b:Nat)(H:List It)(its:List It):List Nat:=its.map (symOf T N b H)
def altPd (T N:List ByteArray)(b:Nat)(H:List It)(a:Alt):Pd:=⟨b,rightOf T N b H a.1,if a.2.1=noText then precOf T.length (rightOf T N b H a.1) else (fix T a.2.1:Int)⟩
def partsOf (T N:List ByteArray)(b:Nat)(H:List It)(x:It):List (List Nat):=if x.kind=2 then x.alts.map fun a=>rightOf T N b H a.1 else [[psym T N x]]
def helpPd (n s m:Nat)(ps:List (List Nat)):List Pd:=(if m=42∨m=63 then [pdOf n s []] else [])++((if m=42 then [] else ps.map (pdOf n s))++(if m=42∨m=43 then ps.map fun r=>pdOf n s (s::r) else []))
def helpsPd (T N:List ByteArray) (b:Nat) (H:List It):Nat->List It->List Pd
 | _,[]=>[]
 | k,x::l=>helpPd T.length (b+1+k) x.mark (partsOf T N b H x)++helpsPd T N b H (k+1) l
def rulePd (T N:List ByteArray)(b:Nat)(r:Rl):List Pd:=r.alts.map (altPd T N b (hlpA 9 r.alts))++helpsPd T N b (hlpA 9 r.alts) 0 (hlpA 9 r.alts)
def rulesPd (T N:List ByteArray):Nat->List Rl->List Pd
 | _,[]=>[]
 | b,r::rs=>rulePd T N b r++rulesPd T N (b+1+(hlpA 9 r.alts).length) rs
def prodG (g:Gr):List Pd:=⟨(tokG g).length,[(tokG g).length+1],-1⟩::rulesPd (tokG g) (namG g) ((tokG g).length+1) g.rules
def bk (t:ByteArray):Nat->List Lv->Nat × Nat->Nat × Nat
 | _,[],r=>r
 | i,l::ls,r=>bk t (i+1) ls (if 0<=fnd (l.tokens.map Prod.fst) t then (i+1,l.kind) else r)
def bkOf (g:Gr)(t:ByteArray):Nat × Nat:=bk t 0 g.levels (0,0)
end Lx
end
section
open Go.RowKit
open Tr
theorem token_has {w:World} {mb:Nat} {vT vN vP vB vK vH vL:Value} (k:Blk w mb #[vT,vN,vP,vB,vK,vH,vL] 135) {T:List ByteArray} (hT:w.ownsRow 0 9 1 vT T.length (T.map Value.string)) (b:ByteArray) (hb:0<=Lx.fnd T b) :
  Calls Tryz.prog 63 #[.pointer (some ⟨mb,0,none⟩),.string b] w fun e w'=>e=.returned (.int .i64 (Lx.fix T b:Int))/\Below w.heap.size w w':=by
 obtain⟨a,c,hv,hm⟩:=own_len hT;subst hv;unfold maxLen at hm;have hf:=fnd_fix hb;obtain⟨hf1,hf2⟩:=hf;clear hb;have c0:w.cell? ⟨mb,0,none⟩=some (.slice a T.length c):=k.cell 0;go_enter Tryz.func63,Tryz.ntmps63;go_wp2_with fail;refine (find_any T b _ w hT).mono ?_;rintro e w1 ⟨rfl,hb1⟩;rw[hf1];go_wp2_with fail;go_ret;exact⟨rfl,hb1⟩
structure Fr (X:Nat->Prop) (w:World) (X':Nat->Prop) (w':World):Prop where
 os:w'.os=w.os
 tape:w'.tape=w.tape
 output:w'.output=w.output
 size:w.heap.size<=w'.heap.size
 block:∀ g,g<w.heap.size->¬ X g->w'.heap[g]?=w.heap[g]?
 own:∀ g,X' g->X g∨w.heap.size<=g
theorem Fr.refl (X:Nat->Prop)(w:World):Fr X w X w:=⟨rfl,rfl,rfl,Nat.le_refl _,fun _ _ _=>rfl,fun _ h=>.inl h⟩
theorem Fr.trans {X X' X'':Nat->Prop}{w w' w'':World}(h:Fr X w X' w')(k:Fr X' w' X'' w''):Fr X w X'' w'':=by
 refine⟨k.os.trans h.os,k.tape.trans h.tape,k.output.trans h.output,Nat.le_trans h.size k.size,fun g hg hx=>?_,fun g hg=>?_⟩
 ·refine (k.block g (Nat.lt_of_lt_of_le hg h.size) fun hx'=>?_).trans (h.block g hg hx)
  rcases h.own g hx' with h1 | h1
  ·exact hx h1
  ·omega
 ·rcases k.own g hg with h1 | h1
  ·exact h.own g h1
  ·exact .inr (Nat.le_trans h.size h1)
theorem Fr.same {X:Nat->Prop}{w w':World}(h:Below w.heap.size w w'):Fr X w X w':=⟨h.os,h.tape,h.output,h.size,fun g hg _=>h.block g hg,fun _ h=>.inl h⟩
def Ph1 (X:Nat->Prop)(w:World)(mb:Nat)(T N:List ByteArray):Prop :=
 (∀ g,X g->g<w.heap.size)/\∃ vT vN,Blk w mb #[vT,vN,.slice none 0 0,.slice none 0 0,.slice none 0 0,.slice none 0 0,.slice none 0 0] 135/\w.ownsRow 0 9 1 vT T.length (T.map Value.string)/\w.ownsRow 0 9 1 vN N.length (N.map Value.string)/\X mb/\(∀ g,vT.ownBlock=some g->X g)/\(∀ g,vN.ownBlock=some g->X g)/\vT.ownBlock≠some mb/\vN.ownBlock≠some mb/\(vT.ownBlock=none∨vT.ownBlock≠vN.ownBlock)
theorem Ph1.keep {X:Nat->Prop}{mb:Nat}{w w':World}{T N:List ByteArray}(h:Ph1 X w mb T N)(hs:w.heap.size<=w'.heap.size)(hk:∀ g,X g->g<w.heap.size->w'.heap[g]?=w.heap[g]?):Ph1 X w' mb T N:=by
 obtain⟨h0,vT,vN,h1,h2,h3,h4,h5,h6,h7⟩:=h;refine⟨fun g hg=>Nat.lt_of_lt_of_le (h0 g hg) hs,vT,vN,(hk _ h4 h1.lt).trans h1,own_move h2 fun g hg=>?_,own_move h3 fun g hg=>?_,h4,h5,h6,h7⟩
 ·exact hk g (h5 g hg) (h2.lt g hg).2
 ·exact hk g (h6 g hg) (h3.lt g hg).2
theorem Ph1.below {X:Nat->Prop}{mb:Nat}{w w':World}{T N:List ByteArray}(h:Ph1 X w mb T N)(hb:Below w.heap.size w w'):Ph1 X w' mb T N:=h.keep hb.size fun g _ hg=>hb.block g hg
theorem Ph1.lt {X:Nat->Prop}{mb:Nat}{w:World}{T N:List ByteArray}(h:Ph1 X w mb T N):mb<w.heap.size:=by
 obtain⟨-,vT,vN,h1,-⟩:=h;exact h1.lt
theorem token_any {X:Nat->Prop} {mb:Nat} {w:World} {T N:List ByteArray} (h:Ph1 X w mb T N) (hl:T.length<=10000) (b:ByteArray) :
  Calls Tryz.prog 63 #[.pointer (some ⟨mb,0,none⟩),.string b] w fun e w'=>(∃ v,e=.returned v)/\∃ X',Ph1 X' w' mb (Lx.addTok T b) N/\Fr X w X' w':=by
 obtain⟨i0,hii,hz0,hz1,hz2⟩:=info_parts Tryz.info9;have hmb:=h.lt
 by_cases hin:0<=Lx.fnd T b
 ·have e1:Lx.addTok T b=T:=if_pos hin
  rw[e1];obtain⟨-,vT,vN,h1,h2,-⟩:=id h;refine (token_has h1 h2 b hin).mono ?_;rintro e w1 ⟨rfl,hb⟩;exact⟨⟨_,rfl⟩,X,h.below hb,Fr.same hb⟩
 ·have e1:Lx.addTok T b=T++[b]:=if_neg hin
  rw[e1];obtain⟨hX0,vT,vN,h1,h2,h3,h4,h5,h6,h7,h8,h9⟩:=h;have hm:=own_len h2;obtain⟨a,c,hv,hm⟩:=hm;subst hv;unfold maxLen at hm;have hr:=Lx.fnd_range T b;have c0:w.cell? ⟨mb,0,none⟩=some (.slice a T.length c):=h1.cell 0;go_enter Tryz.func63,Tryz.ntmps63;go_wp2_with fail;refine (find_any T b _ w h2).mono ?_;rintro e w1 ⟨rfl,hb1⟩;have hs1:=hb1.size;have k1:Blk w1 mb _ 135:=(hb1.block mb (by omega)).trans h1;have d0:w1.cell? ⟨mb,0,none⟩=some (.slice a T.length c):=k1.cell 0;have o1:w1.ownsRow 0 9 1 (.slice a T.length c) T.length (T.map Value.string):=own_move h2 fun g hg=>hb1.block g (h2.lt g hg).2
  have lm:mb<w1.heap.size:=by omega
  go_wp2_with (at_builtin;refine wpList_append_own_at _ rfl _ _ 22 rfl 0 9 i0 _ 1 16 Tryz.underlying22 hii hz0 hz1 hz2 rfl (by decide) (.slice a T.length c) _ _ rfl (o1.alloc _) ⟨_,0,none⟩ 1 1 [.string b] rfl rfl (news_of (Blk.new w1 _ 9)) (by simp[Value.oneCell']) (by unfold maxLen;omega) (by omega) (by simp) ?_;intro v' w3 hown3 hgrow3 _ hat;obtain⟨a3,c3,hv3,hm3⟩:=own_len hown3;subst hv3;have k3:Blk w3 mb _ 135:=(k1.alloc _).grown hgrow3 (fun e=>h7 e.symm);have f3:∀ j,w3.frozen? ⟨mb,j,none⟩=false:=k3.frozen;have g0:w3.cell? ⟨mb,0,none⟩=some (.slice a T.length c):=k3.cell 0;unfold maxLen at hm3)
  go_ret;have hat2:∀ g,(Value.slice a3 (T.length+1) c3).ownBlock=some g->(Value.slice a T.length c).ownBlock=some g∨w1.heap.size<g:=by
   intro g hg;rcases hat with h | h
   ·exact .inl (h ▸ hg)
   ·rw[h]at hg;simp at hg;exact .inr (by omega)
  have hX:∀ g,(Value.slice a3 (T.length+1) c3).ownBlock=some g->g≠mb/\(X g∨(w.heap.size<=g/\g<w3.heap.size)):=by
   intro g hg;rcases hat2 g hg with h | h
   ·exact⟨fun e=>h7 (e ▸ h),.inl (h5 g h)⟩
   ·exact⟨by omega,.inr ⟨by omega,(hown3.lt g hg).2⟩⟩
  have bk:∀ g,g<w.heap.size->g≠mb->(Value.slice a T.length c).ownBlock≠some g->(w3.setCell ⟨mb,0,none⟩ (.slice a3 (T.length+1) c3)).heap[g]?=w.heap[g]?:=by
   intro g hg h1 h2;rw[Below.heap_setCell _ _ _ _ h1,hgrow3.block g (by simp;omega) (fun e=>h2 e.symm),Below.heap_alloc _ _ _ (by omega),hb1.block g hg]
  have hs3:=hgrow3.size;simp at hs3;have hse:(w3.setCell ⟨mb,0,none⟩ (.slice a3 (T.length+1) c3)).heap.size=w3.heap.size:=by simp[World.setCell]
  refine⟨⟨_,rfl⟩,fun g=>X g∨(w.heap.size<=g/\g<w3.heap.size),⟨fun g hg=>?_,.slice a3 (T.length+1) c3,vN,k3.set 0 _,?_,?_,.inl h4,fun g hg=>(hX g hg).2,fun g hg=>.inl (h6 g hg),fun e=>(hX mb e).1 rfl,h8,?_⟩,?_⟩
  ·rw[hse]
   rcases hg with h | h
   ·have:=hX0 g h;omega
   ·exact h.2
  ·have:=own_move (w':=w3.setCell ⟨mb,0,none⟩ (.slice a3 (T.length+1) c3)) hown3 (fun g hg=>Below.heap_setCell _ _ _ _ (hX g hg).1)
   simpa using this
  ·refine own_move h3 fun g hg=>bk g (h3.lt g hg).2 (fun e=>h8 (e ▸ hg)) fun e=>?_
   rcases h9 with h | h
   ·rw[h]at e;cases e
   ·exact h (e.trans hg.symm)
  ·right
   intro e;cases hq:vN.ownBlock with
   | none =>
    rw[hq]at e;rcases hown3.2 with ⟨e1,e2⟩ | ⟨g,_,_,e1,_⟩
    ·omega
    ·rw[e1]at e;cases e
   | some g =>
    rw[hq]at e;rcases hat2 g e with h | h
    ·rcases h9 with h' | h'
     ·rw[h']at h;cases h
     ·exact h' (h.trans hq.symm)
    ·have:=(h3.lt g hq).2;omega
  ·refine⟨?_,?_,?_,?_,?_,fun g hg=>hg.imp_right And.left⟩
   ·exact hgrow3.os.trans hb1.os
   ·exact hgrow3.tape.trans hb1.tape
   ·exact hgrow3.output.trans hb1.output
   ·have:=hgrow3.size;simp[World.setCell]at this ⊢;omega
   ·exact fun g hg hx=>bk g hg (fun e=>hx (e ▸ h4)) (fun e=>hx (h5 g e))
end
section
open Go.RowKit
open Tr
structure KeyT (P:Program) (kt:TypeId) {κ:Type} (K:κ->Value) (G:World->κ->Prop):Prop where
 inj:∀ a b,K a=K b->a=b
 check:∀ em w a,(Instr.checkKey em 10000 kt (K a)).run P w=.ok () w
 find:∀ w a l,G w a->(∀ x∈l,∃ c,x.key=K c/\G w c)->((Instr.findKey kt (K a) l).run P w=.ok none w/\∀ (x:MapEntry),x∈l->x.key≠K a)∨∃ (j:Nat) (e:MapEntry),(Instr.findKey kt (K a) l).run P w=.ok (some (j,e.val)) w/\l[j]?=some e/\e.key=K a
 stays:∀ w a,(Instr.keyThatStays (K a) (K a)).run P w=.ok (K a) w
def GMap {κ:Type}(K:κ->Value)(G:κ->Prop)(w:World)(B:Nat)(f:κ->Int):Prop :=
 ∃ es clock,w.heap[B]?=some (.map es clock)/\(∀ (i:Nat) (e:MapEntry),es[i]?=some e->∃ a,e.key=K a/\G a/\e.val=.int .i64 (f a))/\(∀ (i j:Nat) (e e':MapEntry),es[i]?=some e->es[j]?=some e'->e.key=e'.key->i=j)/\(∀ a,f a≠0->∃ (i:Nat) (e:MapEntry),es[i]?=some e/\e.key=K a)
section
variable {P:Program} {kt:TypeId} {κ:Type} {K:κ -> Value} {Gw:World -> κ -> Prop} {w:World} {B:Nat} {f:κ -> Int}
theorem GMap.lt {G:κ->Prop}(h:GMap K G w B f):B<w.heap.size:=by
 obtain⟨es,clock,h1,-⟩:=h;exact (Array.getElem?_eq_some_iff.1 h1).1
theorem GMap.move {G:κ->Prop}{w':World}(h:GMap K G w B f)(hb:w'.heap[B]?=w.heap[B]?):GMap K G w' B f:=by
 obtain⟨es,clock,h1,h2⟩:=h;exact⟨es,clock,hb.trans h1,h2⟩
theorem GMap.made (G:κ->Prop)(w:World):GMap K G (w.alloc (.map #[] 0)) w.heap.size (fun _=>0) :=
 ⟨#[],0,heap_alloc_new w _,fun i e h=>by simp at h,fun i j e e' h=>by simp at h,fun a h=>absurd rfl h⟩
theorem GMap.look (hK:KeyT P kt K Gw){T E:TypeId}(hT:P.underlying T=some (.map kt E))(hz:∀ w,(zeroValue E).run P w=.ok (.int .i64 0) w){G:κ->Prop}(hG:∀ a,G a->Gw w a)(h:GMap K G w B f){a:κ}(ha:G a):(Instr.lookup T (.map (some B)) (K a) false).run P w=.ok (.int .i64 (f a)) w:=by
 obtain⟨es,clock,h1,h2,h3,h4⟩:=h;have hl:∀ x∈es.toList,∃ c,x.key=K c/\Gw w c:=by
  intro x hx;obtain⟨i,hi⟩:=List.mem_iff_getElem?.1 hx;obtain⟨c,hc,hg,-⟩:=h2 i x (by rw[<-Array.getElem?_toList];exact hi);exact⟨c,hc,hG _ hg⟩
 rcases hK.find w a es.toList (hG a ha) hl with ⟨hf,hn⟩ | ⟨j,e,hf,hj,hk⟩
 ·have hz0:f a=0:=by
   apply Decidable.byContradiction;intro hne;obtain⟨i,e,hi,he⟩:=h4 a hne;exact hn e (List.mem_iff_getElem?.2 ⟨i,by rw[Array.getElem?_toList];exact hi⟩) he
  rw[hz0];simp[Instr.lookup,run_underlying hT,MapKept.run_getObj_map h1,hK.check,hf,hz,Result.andThen]
 ·obtain⟨c,hc,-,hv⟩:=h2 j e (by rw[<-Array.getElem?_toList];exact hj)
  have hca:c=a:=hK.inj _ _ (hc.symm.trans hk);subst hca;rw[hv]at hf;simp[Instr.lookup,run_underlying hT,MapKept.run_getObj_map h1,hK.check,hf,Result.andThen]
theorem GMap.put [DecidableEq κ] (hK:KeyT P kt K Gw){T E:TypeId}(hT:P.underlying T=some (.map kt E)){G:κ->Prop}(hG:∀ a,G a->Gw w a)(h:GMap K G w B f){a:κ}(ha:G a)(v:Int):∃ w',(Instr.mapUpdate T (.map (some B)) (K a) (.int .i64 v)).run P w=.ok () w'/\GMap K G w' B (fun c=>if c=a then v else f c)/\w.grownBy w' (some B)/\w'.heap.size=w.heap.size:=by
 obtain⟨es,clock,h1,h2,h3,h4⟩:=h;have hl:∀ x∈es.toList,∃ c,x.key=K c/\Gw w c:=by
  intro x hx;obtain⟨i,hi⟩:=List.mem_iff_getElem?.1 hx;obtain⟨c,hc,hg,-⟩:=h2 i x (by rw[<-Array.getElem?_toList];exact hi);exact⟨c,hc,hG _ hg⟩
 have hset:∀ o:Obj,w.grownBy { w with heap:=w.heap.setIfInBounds B o } (some B):=fun o=>⟨rfl,rfl,rfl,by simp,fun k _ hk=>(MapKept.heap_set h1).2 k (fun e=>hk (by rw[e]))⟩
 rcases hK.find w a es.toList (hG a ha) hl with ⟨hf,hn⟩ | ⟨j,e,hf,hj,hk⟩
 ·refine⟨{ w with heap:=w.heap.setIfInBounds B (.map (es.push { key:=K a,val:=.int .i64 v,born:=clock }) (clock+1)) },?_,⟨es.push { key:=K a,val:=.int .i64 v,born:=clock },clock+1,(MapKept.heap_set h1).1,?_,?_,?_⟩,hset _,by simp⟩
  ·simp[Instr.mapUpdate,run_underlying hT,MapKept.run_getObj_map h1,hK.check,hf,MapKept.run_setObj_map _ h1,Result.andThen]
  ·intro i e hi
   rw[Array.getElem?_push]at hi
   split at hi
   ·cases hi;exact⟨a,rfl,ha,by simp⟩
   ·obtain⟨c,hc,hg,hv⟩:=h2 i e hi
    have hne:c≠a:=fun e'=>hn e (List.mem_iff_getElem?.2 ⟨i,by rw[Array.getElem?_toList];exact hi⟩) (by rw[hc,e'])
    exact⟨c,hc,hg,by simp only[if_neg hne];exact hv⟩
  ·intro i i' e e' hi hi' he
   rw[Array.getElem?_push]at hi hi'
   split at hi <;> split at hi'
   ·omega
   ·cases hi
    exact absurd he.symm (hn e' (List.mem_iff_getElem?.2 ⟨i',by rw[Array.getElem?_toList];exact hi'⟩))
   ·cases hi'
    exact absurd he (hn e (List.mem_iff_getElem?.2 ⟨i,by rw[Array.getElem?_toList];exact hi⟩))
   ·exact h3 i i' e e' hi hi' he
  ·intro c hc
   by_cases hca:c=a
   ·subst hca
    exact⟨es.size,_,by rw[Array.getElem?_push,if_pos rfl],rfl⟩
   ·simp only[if_neg hca]at hc
    obtain⟨i,e,hi,he⟩:=h4 c hc;refine⟨i,e,?_,he⟩;have hlt:=(Array.getElem?_eq_some_iff.1 hi).1;rw[Array.getElem?_push,if_neg (by omega)];exact hi
 ·have hj':es[j]?=some e:=by rw[<-Array.getElem?_toList];exact hj
  refine⟨{ w with heap:=w.heap.setIfInBounds B (.map (es.modify j fun e=>{ e with key:=K a,val:=.int .i64 v }) clock) },?_,⟨es.modify j fun e=>{ e with key:=K a,val:=.int .i64 v },clock,(MapKept.heap_set h1).1,?_,?_,?_⟩,hset _,by simp⟩
  ·simp[Instr.mapUpdate,run_underlying hT,MapKept.run_getObj_map h1,hK.check,hf,hj',hk,hK.stays,MapKept.run_setObj_map _ h1,Result.andThen]
  ·intro i x hi
   rw[Array.getElem?_modify]at hi
   split at hi
   ·rename_i hji
    subst hji;rw[hj']at hi;cases hi;exact⟨a,rfl,ha,by simp⟩
   ·rename_i hji
    obtain⟨c,hc,hg,hv⟩:=h2 i x hi;have hne:c≠a:=fun e'=>hji (h3 j i e x hj' hi (by rw[hk,hc,e']))
    exact⟨c,hc,hg,by simp only[if_neg hne];exact hv⟩
  ·intro i i' x x' hi hi' he
   have hkey:∀ (i:Nat) (x:MapEntry),(es.modify j fun e=>{ e with key:=K a,val:=.int .i64 v })[i]?=some x->∃ y,es[i]?=some y/\y.key=x.key:=by
    intro i x hi;rw[Array.getElem?_modify]at hi
    split at hi
    ·rename_i hji
     subst hji;rw[hj']at hi;cases hi;exact⟨e,hj',hk⟩
    ·exact⟨x,hi,rfl⟩
   obtain⟨y,hy,ky⟩:=hkey i x hi;obtain⟨y',hy',ky'⟩:=hkey i' x' hi';exact h3 i i' y y' hy hy' (by rw[ky,ky',he])
  ·intro c hc
   by_cases hca:c=a
   ·subst hca
    exact⟨j,_,by rw[Array.getElem?_modify,if_pos rfl,hj'];rfl,rfl⟩
   ·simp only[if_neg hca]at hc
    obtain⟨i,x,hi,he⟩:=h4 c hc;refine⟨i,x,?_,he⟩;have hji:j≠i:=fun e'=>hca (hK.inj _ _ (by rw[<-he,<-hk];subst e';rw[hj']at hi;cases hi;rfl))
    rw[Array.getElem?_modify,if_neg hji];exact hi
end
theorem str_key {P:Program} {kt:TypeId} (hk:P.underlying kt=some .string):KeyT P kt Value.string (fun _ _=>True) where
 inj a b h:=by cases h;rfl
 check em w a:=MapKept.run_checkKey (d:=.string) (k:=.string a) hk trivial em 9999
 find w a l _ hl:=by
  have hkeys:∀ x∈l,MapKept.IsKey .string x.key:=fun x hx=>by obtain⟨c,hc,-⟩:=hl x hx;rw[hc];trivial
  rcases MapKept.findNow_spec (d:=.string) (k:=.string a) trivial l 0 hkeys with ⟨h1,h2⟩ | ⟨j,e,h1,h2,h3⟩
  ·exact .inl ⟨MapKept.run_findKey hk h1,h2⟩
  ·rw[Nat.zero_add]at h1
   exact .inr ⟨j,e,MapKept.run_findKey hk h1,h2,h3⟩
 stays w a:=MapKept.run_keyThatStays (d:=.string) (k:=.string a) trivial
def SMap (w:World)(B:Nat)(f:ByteArray->Int):Prop:=GMap Value.string (fun _=>True) w B f
theorem Tryz.strK:KeyT Tryz.prog 9 Value.string (fun _ _=>True):=str_key (by kernel_rfl)
theorem Tryz.map119:Tryz.prog.underlying 119=some (.map 9 3):=by kernel_rfl
theorem Tryz.zero3 (w:World):(zeroValue 3).run Tryz.prog w=.ok (.int .i64 0) w:=by kernel_rfl
theorem SMap.look {w:World}{B:Nat}{f:ByteArray->Int}(h:SMap w B f)(b:ByteArray):(Instr.lookup 119 (.map (some B)) (.string b) false).run Tryz.prog w=.ok (.int .i64 (f b)) w:=GMap.look Tryz.strK Tryz.map119 Tryz.zero3 (fun _ _=>trivial) h trivial
theorem SMap.put {w:World}{B:Nat}{f:ByteArray->Int}(h:SMap w B f)(b:ByteArray)(v:Int):∃ w',(Instr.mapUpdate 119 (.map (some B)) (.string b) (.int .i64 v)).run Tryz.prog w=.ok () w'/\SMap w' B (fun c=>if c=b then v else f c)/\w.grownBy w' (some B)/\w'.heap.size=w.heap.size:=GMap.put Tryz.strK Tryz.map119 (fun _ _=>trivial) h trivial v
end
end Go.Proofs.YtlcppnabbicmoaaGreatDoor

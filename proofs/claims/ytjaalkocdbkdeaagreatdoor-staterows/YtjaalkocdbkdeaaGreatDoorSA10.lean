import Derived.Test.YtjaalkocdbkdeaaGreatDoorSA09
import Derived.Lib.ItoaNum
import Derived.Maps.AppendAt
set_option maxHeartbeats 8000000
set_option maxRecDepth 1000000
namespace Go.Proofs.YtjaalkocdbkdeaaGreatDoor
open Lx Go.Proofs.Tryz
open Go.RowKit Tr
namespace Lx
theorem T9{seen:List ByteArray}{w:Wd}{ws:List Wd}(h:0<=bA seen w.2.1):bQ seen (w::ws)=some w.2.2:=by
 rw[bQ,if_pos (wU.2 (iA.1 h))]
theorem UE{seen:List ByteArray}{w:Wd}{ws:List Wd}(h:¬0<=bA seen w.2.1):bQ seen (w::ws)=bQ (seen++[w.2.1]) ws:=by
 rw[bQ,if_neg (fun e=>h (iA.2 (wU.1 e)))];exact Nz _ _ _ fun v _=>by simp[or_comm]
theorem ag7{l:List ByteArray}{b:ByteArray}{i:Nat}(hb:b∈l):bA l b<(i:Int)↔b∈l.take i:=by
 have h0:=iA.2 hb;unfold bA at h0|-
 split
 ·rename_i hlt
  have he:l[fix l b]?=some b:=by
   unfold fix at hlt|-;have h1:=List.findIdx_getElem (w:=hlt);rw[List.getElem?_eq_getElem hlt,of_decide_eq_true h1]
  constructor
  ·intro h
   refine List.mem_iff_getElem?.2 ⟨fix l b,?_⟩;rw[List.getElem?_take_of_lt (by omega)];exact he
  ·intro h
   obtain⟨k,hk⟩:=List.mem_iff_getElem?.1 h;have hk2:k<i/\l[k]?=some b:=by
    rw[List.getElem?_take]at hk
    split at hk
    ·rename_i hki;exact⟨hki,hk⟩
    ·cases hk
   have:fix l b<=k:=by
    unfold fix;refine Nat.le_of_not_lt fun hlt'=>?_
    have:=List.not_of_lt_findIdx hlt';obtain⟨hkl,hke⟩:=List.getElem?_eq_some_iff.1 hk2.2;simp[hke]at this
   omega
 ·rename_i hn
  rw[if_neg hn]at h0;omega
theorem adC(g:Gr){i:Nat}(hi:i<g.rules.length):(aK g).take (i+1)=(aK g).take i++[g.rules[i].name]:=by
 unfold aK;rw[List.take_succ_eq_append_getElem (by simpa using hi)];simp
theorem af5(g:Gr){i:Nat}(hi:i<g.rules.length):(lu g).drop i=(1,g.rules[i].name,g.rules[i].place)::(lu g).drop (i+1):=by
 unfold lu;rw[<-List.map_drop,List.drop_eq_getElem_cons hi,List.map_cons,List.map_drop]
theorem ag8{g:Gr}{i:Nat}(hi:i<g.rules.length):(bA (aK g) g.rules[i].name<(i:Int)->bQ ((aK g).take i) ((lu g).drop i)=some g.rules[i].place)/\(¬bA (aK g) g.rules[i].name<(i:Int)->bQ ((aK g).take i) ((lu g).drop i)=bQ ((aK g).take (i+1)) ((lu g).drop (i+1))):=by
 have hm:g.rules[i].name∈aK g:=List.mem_map.2 ⟨_,List.getElem_mem hi,rfl⟩;rw[ag7 hm,af5 g hi,adC g hi];constructor
 ·intro h;exact T9 (iA.2 h)
 ·intro h;exact UE (fun e=>h (iA.1 e))
def CP(lv:Lv):List Wd:=lv.tokens.map fun t=>(0,t.1,t.2)
end Lx
theorem af6{F:Nat->Prop}{w:World}{vL vR:Value}{g:Lx.Gr}(h:DG F w vL vR g)(hsm:(gY g).length<=2001):
  Calls prog 51 #[.agg #[vL,vR]] w fun e w'=>e=.returned (Ld 4 ((bQ [] (gY g)).or (bQ [] (lu g))))/\Below w.heap.size w w':=by
 obtain⟨a,c,rfl,hmr⟩:=h.sF;obtain⟨a',c',rfl,hml⟩:=h.uh;unfold maxLen at hmr hml;obtain⟨i0,hii,hz0,hz1,hz2⟩:=info_parts Tryz.BU;go_enter func51,ntmps51;go_wp2_with fail;obtain⟨W,hW⟩:∃W,W=(w.alloc (.cells #[.slice a' g.levels.length c',.slice a g.rules.length c] 86)).alloc (.cells #[.int .i64 0,.int .i64 0] 90):=⟨_,rfl⟩;rw[<-hW];have hWs:W.heap.size=w.heap.size+2:=by rw[hW];simp
 have kG:aj W w.heap.size #[.slice a' g.levels.length c',.slice a g.rules.length c] 86:=by rw[hW];exact(aj.new w _ 86).alloc _
 have kR:aj W (w.heap.size+1) #[.int .i64 0,.int .i64 0] 90:=by rw[hW];simpa using aj.new (w.alloc (.cells #[.slice a' g.levels.length c',.slice a g.rules.length c] 86)) #[.int .i64 0,.int .i64 0] 90
 have hB:Below w.heap.size w W:=by rw[hW];exact((Below.refl _ _).alloc (zL0) _).alloc (by simp) _
 clear hW;have HD:Hid (bQ [] (gY g)=bQ [] ((g.levels.drop 0).flatMap CP)):=rfl
 go_loopg [3,4] g.levels.length (fun k lv i wr=>∃(j:Nat)(seen:List ByteArray),j+k=g.levels.length/\i=.int .i64 j/\Below W.heap.size W wr/\wr.ownsRow W.heap.size 9 1 lv seen.length (seen.map Value.string)/\seen.length+((g.levels.drop j).flatMap CP).length=(gY g).length/\Hid (bQ [] (gY g)=bQ seen ((g.levels.drop j).flatMap CP)))
 case atStart=>exact⟨0,[],by omega,rfl,Below.refl _ _,World.ownsRow_nil _ _ _ _,by rw[List.length_nil,Nat.zero_add];rfl,HD⟩
 case round=>
  clear HD;revert wr;intro wz hrel;obtain⟨j,seen,hk,rfl,hbz,hown,hcnt,HD⟩:=hrel;have hbw:Below w.heap.size w wz:=hB.trans (hbz.mono (by omega));have jP:aj wz w.heap.size _ 86:=(hbz.block _ (by omega)).trans kG;have vE:aj wz (w.heap.size+1) _ 90:=(hbz.block _ (by omega)).trans kR;have hsz:=hbz.size;have g0:wz.cell? ⟨w.heap.size,0,none⟩=some (.slice a' g.levels.length c'):=jP.cell 0;have g1:wz.cell? ⟨w.heap.size,1,none⟩=some (.slice a g.rules.length c):=jP.cell 1;obtain⟨sa,sk,sc,hsv⟩:=rW hown;subst hsv
  by_cases hlt:j<g.levels.length
  ·have hl2:=HD.out
   rw[List.drop_eq_getElem_cons hlt,List.flatMap_cons]at hl2 hcnt;have HD2:Hid _:=hl2;clear hl2 HD;have hxj:g.levels[j]?=some g.levels[j]:=List.getElem?_eq_getElem hlt;generalize hx:g.levels[j]=x at HD2 hcnt;go_wp2_with fail
   go_loopg [3,5] x.tokens.length (fun k lv i wr=>∃(m:Nat)(sn:List ByteArray),m+k=x.tokens.length/\i=.int .i64 m/\Below W.heap.size W wr/\wr.ownsRow W.heap.size 9 1 lv sn.length (sn.map Value.string)/\sn.length+((x.tokens.drop m).length+((g.levels.drop (j+1)).flatMap CP).length)=(gY g).length/\Hid (bQ [] (gY g)=bQ sn ((x.tokens.drop m).map (fun t=>(0,t.1,t.2))++(g.levels.drop (j+1)).flatMap CP)))
   case atStart=>exact⟨0,seen,by omega,rfl,hbz,hown,by rw[<-hcnt];simp[CP],HD2⟩
   case round=>
    clear HD2 hown hcnt;obtain⟨m,sn,hkm,rfl,hbr,hown,hcnt,HD2⟩:=hrel;have j5:Below w.heap.size w wr:=hB.trans (hbr.mono (by omega));have pV:=hbr.size;obtain⟨gb,cap,vT,vA,hv,hF,hT,hA,Ra,CQ,d0,d1,d2⟩:=(h.below j5).level hlt;cases hv;rw[hx]at hT hA d0;have jb:aj wr w.heap.size _ 86:=(hbr.block _ (by omega)).trans kG;have xE:aj wr (w.heap.size+1) _ 90:=(hbr.block _ (by omega)).trans kR;have g0:wr.cell? ⟨w.heap.size,0,none⟩=some (.slice (some ⟨gb,0,none⟩) g.levels.length c'):=jb.cell 0;have g1:wr.cell? ⟨w.heap.size,1,none⟩=some (.slice a g.rules.length c):=jb.cell 1;obtain⟨ta,tc,yV,Rb⟩:=aF hT;subst yV;unfold maxLen at Rb;obtain⟨aa,ac,CR,-⟩:=aF hA;subst CR;obtain⟨sa,sk,sc,hsv⟩:=rW hown;subst hsv
    by_cases bJ:m<x.tokens.length
    ·have hd2:=HD2.out
     rw[List.drop_eq_getElem_cons bJ,List.map_cons,List.cons_append]at hd2;rw[List.drop_eq_getElem_cons bJ,List.length_cons]at hcnt;obtain⟨tg,Lf,yX,-,-⟩:=hT.form (by omega);cases yX;obtain⟨ag,amj,hva,-,-⟩:=hA.form (by omega);cases hva;have t1:=hT.cellAt m (by omega);rw[List.getElem?_map,List.getElem?_eq_getElem bJ]at t1;have t2:=hA.cellAt m (by omega);rw[List.getElem?_map,List.getElem?_eq_getElem bJ]at t2;simp only[Option.map_some]at t1 t2;generalize x.tokens[m]=tk at t1 t2 hd2;have q1:=Ec sn tk.1 _ _ (dm hown (Nat.zero_le _))
     by_cases hin:0<=bA sn tk.1
     ·have HD3:Hid (bQ [] (gY g)=some tk.2):=hd2.trans (T9 hin)
      clear hd2 HD2;go_wp2_with fail;refine q1.mono ?_;rintro e w2⟨rfl,hb2⟩;have r:=zK sn tk.1;have ny:gb<wr.heap.size:=(h.below j5).lt gb hF;have lag:ag<wr.heap.size:=(h.below j5).lt ag (CQ ag rfl);have tq:aj w2 w.heap.size _ 86:=(hb2.block _ (by omega)).trans jb;have mP:aj w2 (w.heap.size+1) _ 90:=(hb2.block _ (by omega)).trans xE;have y0:w2.cell? ⟨w.heap.size,0,none⟩=some (.slice (some ⟨gb,0,none⟩) g.levels.length c'):=tq.cell 0;have y2:w2.cell? ⟨gb,j*3+2,none⟩=some (.slice (some ⟨ag,0,none⟩) x.tokens.length ac):=(World.cell?_of_block (w:=wr) (hb2.block gb ny)).trans d2;have y3:w2.cell? ⟨ag,m,none⟩=some (.int .i64 (tk.2:Int)):=(World.cell?_of_block (w:=wr) (hb2.block ag lag)).trans t2;have r0:w2.cell? ⟨w.heap.size+1,0,none⟩=some (.int .i64 0):=mP.cell 0;have r1:w2.cell? ⟨w.heap.size+1,1,none⟩=some (.int .i64 0):=mP.cell 1;have f0:∀j,w2.frozen? ⟨w.heap.size+1,j,none⟩=false:=mP.frozen;have hb3:=(j5.trans (hb2.mono j5.size)).uo (Nat.le_succ w.heap.size) (.int .i64 4) (.int .i64 (tk.2:Int));go_wp2_with fail;refine bodyPost_ret (v:=.agg #[.int .i64 4,.int .i64 (tk.2:Int)]) (by simp[results,results51,go_sem,r0,r1]) rfl ⟨?_,?_⟩
      ·rw[HD3.out];rfl
      ·exact hb3
     ·have HD3:Hid (bQ [] (gY g)=bQ (sn++[tk.1]) ((x.tokens.drop (m+1)).map (fun t=>(0,t.1,t.2))++(g.levels.drop (j+1)).flatMap CP)):=hd2.trans (UE hin)
      clear hd2 HD2;go_wp2_with fail;refine q1.mono ?_;rintro e w2⟨rfl,hb2⟩;have r:=zK sn tk.1;have hs2:=hb2.size;have hown2:=own_below hown hb2;have hlT:=hcnt
      go_wp2_with (at_builtin;refine wpList_append_own _ rfl _ _ 41 rfl W.heap.size 9 i0 _ 1 16 underlying41 hii hz0 hz1 hz2 rfl (by decide) (.slice sa sk sc) _ _ rfl (hown2.alloc _) ⟨_,0,none⟩ 1 1 [.string tk.1] rfl rfl (bC (aj.new w2 _ 9)) (by simp[Value.oneCell']) (by unfold maxLen;omega) (by omega) (by simp;omega) ?_;intro v' w3 hown3 hgrow3 _)
      have hb4:Below W.heap.size W w3:=((hbr.trans (hb2.mono pV)).alloc (by omega) (.cells #[.string tk.1] 9)).grown hgrow3 (by simp;omega) (fun q hq=>(hown.lt q hq).1);go_wp2_with fail;go_roundg (x.tokens.length - (m+1))
      case measure=>omega
      case rel=>exact⟨m+1,sn++[tk.1],by omega,by go_num,hb4,by simpa using hown3,by rw[List.length_append,List.length_singleton];omega,HD3⟩
    ·have:m=x.tokens.length:=by omega
     subst this;have hd2:=HD2.out;rw[List.drop_length,List.map_nil,List.nil_append]at hd2;rw[List.drop_length,List.length_nil]at hcnt;have HD3:Hid _:=hd2;clear hd2 HD2;go_wp2_with fail;go_roundg (g.levels.length - (j+1))
     case measure=>omega
     case rel=>exact⟨j+1,sn,by omega,by go_num,hbr,hown,by omega,HD3⟩
  ·have:j=g.levels.length:=by omega
   subst this;have hd2:=HD.out;rw[List.drop_length]at hd2;have HD3:Hid (bQ [] (gY g)=none):=hd2;clear hd2 HD hown hcnt;go_wp2_with fail;have HR:Hid (bQ [] (lu g)=bQ ((aK g).take 0) ((lu g).drop 0)):=rfl;clear jP vE g0 g1 hk
   go_loopg [7] g.rules.length (fun k i wr=>∃(j:Nat),j+k=g.rules.length/\i=.int .i64 j/\Below W.heap.size W wr/\Hid (bQ [] (lu g)=bQ ((aK g).take j) ((lu g).drop j)))
   case atStart=>exact⟨0,by omega,rfl,hbz,HR⟩
   case round=>
    clear HR;obtain⟨j,hk,rfl,hbr,HR⟩:=hrel;have j5:Below w.heap.size w wr:=hB.trans (hbr.mono (by omega));have pV:=hbr.size;have jb:aj wr w.heap.size _ 86:=(hbr.block _ (by omega)).trans kG;have xE:aj wr (w.heap.size+1) _ 90:=(hbr.block _ (by omega)).trans kR;have g0:wr.cell? ⟨w.heap.size,0,none⟩=some (.slice a' g.levels.length c'):=jb.cell 0;have g1:wr.cell? ⟨w.heap.size,1,none⟩=some (.slice a g.rules.length c):=jb.cell 1
    by_cases hlt:j<g.rules.length
    ·obtain⟨gb,cap,va,hv,hF,hA,d0,d1,d2⟩:=(h.below j5).rule hlt
     cases hv;have hdup:=ag8 hlt;have ny:gb<wr.heap.size:=(h.below j5).lt gb hF;have lG:w.heap.size<wr.heap.size:=by omega
     have hdg:=h.below j5;generalize g.rules[j]=x at d0 d1 d2 hdup;have r:=zK (aK g) x.name;have hln:(aK g).length=g.rules.length:=by simp[aK]
     by_cases hin:bA (aK g) x.name<(j:Int)
     ·have HR2:Hid (bQ [] (lu g)=some x.place):=HR.out.trans (hdup.1 hin)
      clear hdup HR;go_wp2_with fail
      go_region_law (have q1:=DY (hdg.below (w':=wr.drew) ⟨rfl,rfl,rfl,zL0,fun _ _=>rfl⟩) x.name;rw[show uZ g=aK g from rfl]at q1;refine jK rfl 99 #[.agg #[.slice a' g.levels.length c',.slice (some ⟨gb,0,none⟩) g.rules.length c],.string x.name] (by go_simp) q1 ?_;rintro e w1⟨rfl,hb1⟩;refine⟨_,rfl,?_⟩)
      all_goals
       have hb6:Below wr.heap.size wr w1:=(Below.refl _ wr).drew.trans hb1;have iy:aj w1 (w.heap.size+1) _ 90:=(hb6.block _ (by omega)).trans xE;have dB:aj w1 w.heap.size _ 86:=(hb6.block _ (by omega)).trans jb;have m1:w1.cell? ⟨w.heap.size,1,none⟩=some (.slice (some ⟨gb,0,none⟩) g.rules.length c):=dB.cell 1;have m2:w1.cell? ⟨gb,j*3+2,none⟩=some (.int .i64 (x.place:Int)):=(World.cell?_of_block (w:=wr) (hb6.block gb ny)).trans d2;have r0:w1.cell? ⟨w.heap.size+1,0,none⟩=some (.int .i64 0):=iy.cell 0;have r1:w1.cell? ⟨w.heap.size+1,1,none⟩=some (.int .i64 0):=iy.cell 1;have f0:∀j,w1.frozen? ⟨w.heap.size+1,j,none⟩=false:=iy.frozen;have jc:=(j5.trans (hb6.mono (by omega))).uo (Nat.le_succ w.heap.size) (.int .i64 4) (.int .i64 (x.place:Int));go_wp2_with fail;refine bodyPost_ret (v:=.agg #[.int .i64 4,.int .i64 (x.place:Int)]) (by simp[results,results51,go_sem,r0,r1]) rfl ⟨?_,?_⟩
       ·rw[HD3.out,HR2.out];rfl
       ·exact jc
     ·have HR2:Hid (bQ [] (lu g)=bQ ((aK g).take (j+1)) ((lu g).drop (j+1))):=HR.out.trans (hdup.2 hin)
      clear hdup HR;go_wp2_with fail
      go_region_law (have q1:=DY (hdg.below (w':=wr.drew) ⟨rfl,rfl,rfl,zL0,fun _ _=>rfl⟩) x.name;rw[show uZ g=aK g from rfl]at q1;refine jK rfl 99 #[.agg #[.slice a' g.levels.length c',.slice (some ⟨gb,0,none⟩) g.rules.length c],.string x.name] (by go_simp) q1 ?_;rintro e w1⟨rfl,hb1⟩;refine⟨_,rfl,?_⟩)
      all_goals
       have hb6:Below wr.heap.size wr w1:=(Below.refl _ wr).drew.trans hb1;go_wp2_with fail;go_roundg (g.rules.length - (j+1))
       case measure=>omega
       case rel=>exact⟨j+1,by omega,by go_num,hbr.trans (hb6.mono pV),HR2⟩
    ·have:j=g.rules.length:=by omega
     subst this;have hr2:=HR.out;rw[List.drop_eq_nil_of_le (by simp[lu])]at hr2;have HR2:Hid (bQ [] (lu g)=none):=hr2;clear hr2 HR;have r0:wr.cell? ⟨w.heap.size+1,0,none⟩=some (.int .i64 0):=xE.cell 0;have r1:wr.cell? ⟨w.heap.size+1,1,none⟩=some (.int .i64 0):=xE.cell 1;have f0:∀j,wr.frozen? ⟨w.heap.size+1,j,none⟩=false:=xE.frozen;go_wp2_with fail;refine bodyPost_ret (v:=.agg #[.int .i64 0,.int .i64 0]) (by simp[results,results51,go_sem,r0,r1]) rfl ⟨?_,?_⟩
     ·rw[HD3.out,HR2.out];rfl
     ·exact j5.uo (Nat.le_succ _) _ _
theorem Tryz.Zh:(prog.info? 4).map (fun i=>(i.zero,i.size,i.bytes))=some (some (.bool false),1,1):=by kernel_rfl
theorem Vk(n:Nat):madeCells #[.bool false] (n*1)=bF (List.replicate n false):=by
 unfold madeCells bF;apply Array.ext
 ·simp
 ·intro i h1 h2
  simp[Nat.mod_one]
theorem NW{n:Nat}(hn:n<=2001)(w:World):(Instr.makeSlice 48 (.int .i64 (n:Int)) (.int .i64 (n:Int))).run prog w=.ok (.slice (some ⟨w.heap.size,0,none⟩) n n) (w.alloc (.cells (bF (List.replicate n false)) 4)):=by
 obtain⟨i0,hi,hz0,hz1,hz2⟩:=info_parts Tryz.Zh;have h:=run_make (P:=prog) w 48 4 i0 _ (by kernel_rfl) hi hz0 .i64 .i64 (n:Int) (n:Int) (by omega) (Int.le_refl _) (by rw[hz2];omega) (by omega);rw[h,Int.toNat_natCast,hz1];have e:Value.cells (.bool false)=#[.bool false]:=rfl;rw[e,Vk]
namespace Lx
def gB:List Rl->List Bool->Option Nat
 |r::rs,b::bs=>if b=true then gB rs bs else some r.place
 |_,_=>none
theorem TG{rs:List Rl}{bs:List Bool}{i:Nat}(hr:i<rs.length)(hb:i<bs.length):(aS bs i=true->gB (rs.drop i) (bs.drop i)=gB (rs.drop (i+1)) (bs.drop (i+1)))/\(aS bs i=false->gB (rs.drop i) (bs.drop i)=some rs[i].place):=by
 rw[List.drop_eq_getElem_cons hr,List.drop_eq_getElem_cons hb];have e:aS bs i=bs[i]:=by simp[aS,hb]
 rw[e];constructor
 ·intro h;rw[gB,if_pos h]
 ·intro h;rw[gB,if_neg (by rw[h];decide)]
def BV(g:Gr):List Bool:=iter (jf (jL g) g.rules.length 0) (g.rules.length+1) ((List.replicate g.rules.length false).set 0 true)
def Ak(g:Gr):List Bool:=iter (jf (l5 g) g.rules.length 0) (g.rules.length+1) (List.replicate g.rules.length false)
def oU(g:Gr):Option Nat:=(bQ [] (gY g)).or (bQ [] (lu g))
def pW(g:Gr):Option Nat:=yg (aK g) (gZ g) g.rules
def iT(n:Nat)(o:Option Nat)(r:Nat×Nat):Nat×Nat :=
 match o with
 |some p=>(n,p)
 |none=>r
def dK(g:Gr):Nat×Nat:=iT 4 (oU g) (iT 5 (pW g) (iT 6 (gB g.rules (BV g)) (iT 7 (gB g.rules (Ak g)) (0,0))))
theorem af7{g:Gr}{rs:List Rl}{i:Nat}(hi:i<rs.length):yg (aK g) (gZ g) (rs.drop i)=(unk g (dw 9 rs[i].alts)).or (yg (aK g) (gZ g) (rs.drop (i+1))):=by
 rw[List.drop_eq_getElem_cons hi];rfl
theorem Ga{g:Gr}:∀{rs:List Rl},yg (aK g) (gZ g) rs=none->∀r∈rs,unk g (dw 9 r.alts)=none
 | [],_,_,h=>by cases h
 |r::rs,h,x,hx=>by
  rw[yg]at h;cases h1:lW (aK g) (gZ g) (dw 9 r.alts) with
  |some p=>rw[h1]at h;cases h
  |none=>
   rw[h1]at h;rcases List.mem_cons.1 hx with rfl|hx
   ·exact h1
   ·exact Ga h x hx
theorem FU{step:Nat->List Bool->List Bool}:∀(k i:Nat)(bs:List Bool),jf step (k+1) i bs=step (i+k) (jf step k i bs)
 |0,i,bs=>rfl
 |k+1,i,bs=>by
  rw[jf,FU k (i+1) (step i bs),jf,show i+1+k=i+(k+1) by omega]
theorem Oq{σ:Type}(R:σ->σ):∀(k:Nat)(s:σ),iter R (k+1) s=R (iter R k s)
 |0,_=>rfl
 |k+1,s=>by rw[iter,Oq R k (R s),iter]
theorem F7{g:Gr}{i:Nat}(hi:i<g.rules.length):lD g i=g.rules[i].alts:=by simp[lD,hi]
theorem aey{g:Gr}{i:Nat}{bs:List Bool}(hi:i<g.rules.length)(h:aS bs i=true):jL g i bs=iQ (aK g) (qB 9 g.rules[i].alts) bs:=by
 rw[jL,if_pos h,F7 hi];rfl
theorem ad9{g:Gr}{i:Nat}{bs:List Bool}(h:aS bs i=false):jL g i bs=bs:=by
 rw[jL,if_neg (by rw[h];decide)]
theorem Vl{g:Gr}{i:Nat}{bs:List Bool}(hi:i<g.rules.length)(hb:i<bs.length):l5 g i bs=bs.set i (aS bs i || iw (dD g bs) 9 g.rules[i].alts):=by
 rw[l5,F7 hi];cases h:iw (dD g bs) 9 g.rules[i].alts with
 |true=>rw[if_pos rfl,Bool.or_true]
 |false=>
  rw[if_neg (by decide),Bool.or_false];have e:aS bs i=bs[i]:=by simp[aS,hb]
  rw[e,List.set_getElem_self]
theorem Ua(g:Gr)(i:Nat)(bs:List Bool):(jL g i bs).length=bs.length:=((J8 g).le i bs).1.symm
def cu:Nat->List Alt->List It
 |0,_=>[]
 |d+1,l=>l.flatMap fun a=>a.1.flatMap fun x=>x::cu d x.alts
def iF:Nat->List Alt->Nat
 |0,_=>0
 |d+1,l=>(l.map fun a=>1+(a.1.map fun x=>1+iF d x.alts).sum).sum
def sJ(d:Nat)(x:It):List It:=x::cu d x.alts
def BX(d:Nat)(x:It):Nat:=1+iF d x.alts
def pX(d:Nat)(l:List It):List It:=l.flatMap (sJ d)
def sj(d:Nat)(l:List It):Nat:=(l.map (BX d)).sum
theorem tY(d:Nat)(l:List Alt):cu (d+1) l=l.flatMap fun a=>pX d a.1:=rfl
theorem BF(d:Nat)(l:List Alt):iF (d+1) l=(l.map fun a=>1+sj d a.1).sum:=rfl
theorem Km:∀d,cu d []=[]
 |0=>rfl
 |_+1=>rfl
theorem V9:∀d,iF d []=0
 |0=>rfl
 |_+1=>rfl
def bX(ts ts':List Tk)(l:List It)(n k:Nat):Prop:=∃pre,ts=pre++ts'/\(l.map It.place).Sublist (pre.map Prod.snd)/\n<=pre.length+k
theorem bX.refl(ts:List Tk):bX ts ts [] 0 0:=⟨[],rfl,List.Sublist.refl _,zL0⟩
theorem bX.trans{a b c:List Tk}{l m:List It}{n n' k k':Nat}(h:bX a b l n k)(h':bX b c m n' k'):bX a c (l++m) (n+n') (k+k'):=by
 obtain⟨p,rfl,h2,h3⟩:=h;obtain⟨q,rfl,h5,h6⟩:=h';refine⟨p++q,by simp,?_,by simp;omega⟩;rw[List.map_append,List.map_append];exact h2.append h5
theorem bX.less{a b:List Tk}{l:List It}{n n' k k':Nat}(h:bX a b l n k)(hn:n'+k<=n+k'):bX a b l n' k':=by
 obtain⟨p,e,h2,h3⟩:=h;exact⟨p,e,h2,by omega⟩
theorem Kw{ts:List Tk}(h:hd ts≠aL):ts=(hd ts,pl ts)::ts.tail:=by
 cases ts with
 |nil=>exact absurd rfl h
 |cons t ts=>rfl
theorem bX.pass{ts:List Tk}(h:hd ts≠aL):bX ts ts.tail [] 1 0:=⟨[(hd ts,pl ts)],Kw h,List.nil_sublist _,zL0⟩
theorem bX.item{ts:List Tk}(h:hd ts≠aL){x:It}(hx:x.place=pl ts):bX ts ts.tail [x] 1 0:=⟨[(hd ts,pl ts)],Kw h,by rw[<-hx];exact List.Sublist.refl _,zL0⟩
theorem Ei{b:ByteArray}(p:Int->Bool)(h:isWord p b=true):b≠aL:=by
 rintro rfl;simp[isWord,aL,ByteArray.size]at h
theorem NY(ts:List Tk):bX ts (bS ts).2 [] 0 0:=by
 unfold bS
 split
 ·rename_i h;exact(bX.pass (by rw[h];decide)).less (by omega)
 ·split
  ·rename_i h;exact(bX.pass (by rw[h];decide)).less (by omega)
  ·split
   ·rename_i h;exact(bX.pass (by rw[h];decide)).less (by omega)
   ·exact bX.refl _
def Ej(d:Nat)(aI:List Tk->aX (List Alt)):Prop:=∀ts l ts',aI ts=.ok (l,ts')->bX ts.tail ts' (cu d l) (iF d l) 0
theorem afd{d:Nat}{aI:List Tk->aX (List Alt)}(hg:Ej d aI){ts ts':List Tk}{x:It}(h:cO aI ts=.ok (x,ts')):bX ts ts' (sJ d x) (BX d x) 0:=by
 unfold cO at h
 split at h
 ·rename_i ho
  split at h
  ·cases h
  ·rename_i alts aB hq
   cases h;have h1:=(bX.item (ts:=ts) (by rw[ho];decide) (x:=⟨2,aL,(bS aB).1,alts,pl ts⟩) rfl).trans ((hg _ _ _ hq).trans (NY aB));rw[List.append_nil]at h1;exact h1
 ·split at h
  ·rename_i hn
   cases h;have h1:=(bX.item (ts:=ts) (Ei _ hn) (x:=⟨0,hd ts,(bS ts.tail).1,[],pl ts⟩) rfl).trans (NY ts.tail);rw[List.append_nil]at h1;simpa [sJ,BX,Km,V9]using h1
  ·split at h
   ·rename_i hn
    cases h;have h1:=(bX.item (ts:=ts) (Ei _ hn) (x:=⟨1,hd ts,(bS ts.tail).1,[],pl ts⟩) rfl).trans (NY ts.tail);rw[List.append_nil]at h1;simpa [sJ,BX,Km,V9]using h1
   ·cases h
theorem UF{d:Nat}{aI:List Tk->aX (List Alt)}(hg:Ej d aI):∀(f:Nat)(ts:List Tk)(a x:List It)(ts':List Tk),dM aI f ts a=.ok (x,ts')->∃y,x=a++y/\bX ts ts' (pX d y) (sj d y) 0
 |0,ts,a,x,ts',h=>by
  cases h;exact⟨[],by simp,bX.refl _⟩
 |f+1,ts,a,x,ts',h=>by
  unfold dM at h
  split at h
  ·split at h
   ·cases h
   ·rename_i z t1 hz
    obtain⟨y,e,h2⟩:=UF hg f t1 _ x ts' h;refine⟨z::y,by rw[e];simp,?_⟩;exact(afd hg hz).trans h2
  ·cases h
   exact⟨[],by simp,bX.refl _⟩
theorem Wh{d:Nat}{aI:List Tk->aX (List Alt)}(hg:Ej d aI){top:Bool}{ts ts':List Tk}{x:Alt}(h:dG aI top ts=.ok (x,ts')):bX ts ts' (pX d x.1) (1+sj d x.1) 1:=by
 unfold dG at h
 split at h
 ·cases h
 ·rename_i its t1 hi
  obtain⟨y,e,h2⟩:=UF hg _ _ _ _ _ hi;rw[List.nil_append]at e;subst e;unfold mG at h
  split at h
  ·rename_i hp
   split at h
   ·cases h
   ·rename_i b t2 hb
    cases h;obtain⟨rfl,rfl,hk⟩:=mW hb;have h3:=h2.trans ((bX.pass (ts:=t1) (by rw[hp.2];decide)).trans (bX.pass (Ei _ hk)));simp only[List.append_nil]at h3;refine bX.less h3 ?_;show 1+sj d its+_<=_;omega
  ·cases h
   refine bX.less h2 ?_;show 1+sj d its+_<=_;omega
theorem Vm{d:Nat}{aI:List Tk->aX (List Alt)}(hg:Ej d aI){top:Bool}:∀(f:Nat)(ts:List Tk)(a x:List Alt)(ts':List Tk),jh aI top f ts a=.ok (x,ts')->∃y,x=a++y/\bX ts ts' (cu (d+1) y) (iF (d+1) y) 0
 |0,ts,a,x,ts',h=>by
  cases h;exact⟨[],by simp,bX.refl _⟩
 |f+1,ts,a,x,ts',h=>by
  unfold jh at h
  split at h
  ·rename_i hb
   split at h
   ·cases h
   ·rename_i z t1 hz
    obtain⟨y,e,h2⟩:=Vm hg f t1 _ x ts' h;refine⟨z::y,by rw[e];simp,?_⟩;have h3:=(bX.pass (ts:=ts) (by rw[hb];decide)).trans ((Wh hg hz).trans h2);rw[List.nil_append]at h3;rw[tY,BF,List.flatMap_cons,List.map_cons,List.sum_cons,<-tY,<-BF];exact h3.less (by omega)
  ·cases h
   exact⟨[],by simp,bX.refl _⟩
theorem Ub{d:Nat}{aI:List Tk->aX (List Alt)}(hg:Ej d aI){top:Bool}{ts ts':List Tk}{x:List Alt}(h:ou aI top ts=.ok (x,ts')):bX ts ts' (cu (d+1) x) (iF (d+1) x) 1:=by
 unfold ou at h
 split at h
 ·cases h
 ·rename_i z t1 hz
  obtain⟨y,e,h2⟩:=Vm hg _ _ _ _ _ h;subst e;have h3:=(Wh hg hz).trans h2;rw[List.cons_append,List.nil_append,tY,BF,List.flatMap_cons,List.map_cons,List.sum_cons,<-tY,<-BF];exact h3.less (by omega)
theorem aez{d:Nat}{r:List Tk->aX (List Alt)}(hr:∀ts l ts',r ts=.ok (l,ts')->bX ts ts' (cu d l) (iF d l) 1):Ej d (nJ r):=by
 intro ts l ts' h;unfold nJ at h
 split at h
 ·cases h
 ·rename_i l1 t1 h1
  split at h
  ·cases h
  ·rename_i u t2 h2
   cases h;obtain⟨rfl,hs⟩:=wR h2;have h3:=(hr _ _ _ h1).trans (bX.pass (ts:=t1) (by rw[hs];decide));rw[List.append_nil]at h3;exact h3.less (by omega)
theorem Vn:∀(d:Nat)(ts:List Tk)(l:List Alt)(ts':List Tk),iP d ts=.ok (l,ts')->bX ts ts' (cu (d+1) l) (iF (d+1) l) 1
 |0,ts,l,ts',h=>Ub (d:=0) (fun _ _ _ h=>by cases h) h
 |d+1,ts,l,ts',h=>Ub (aez (Vn d)) h
theorem Vo{ts ts':List Tk}{x:Rl}(h:dF ts=.ok (x,ts')):bX ts ts' (cu 9 x.alts) (1+iF 9 x.alts) 0:=by
 unfold dF at h
 split at h
 ·cases h
 ·rename_i n t1 h1
  obtain⟨rfl,rfl,hk⟩:=mW h1
  split at h
  ·cases h
  ·rename_i u t2 h2
   obtain⟨rfl,he⟩:=wR h2
   split at h
   ·cases h
   ·rename_i l t3 h3
    split at h
    ·cases h
    ·rename_i u4 t4 h4
     obtain⟨rfl,hs⟩:=wR h4;cases h;have h5:=(bX.pass (ts:=ts) (Ei _ hk)).trans ((bX.pass (ts:=ts.tail) (by rw[he];decide)).trans ((Vn 8 _ _ _ h3).trans (bX.pass (ts:=t3) (by rw[hs];decide))));rw[List.append_nil,List.nil_append,List.nil_append]at h5;refine bX.less h5 ?_;show 1+iF 9 l+_<=1+(1+(iF 9 l+1))+_;omega
def GN(rs:List Rl):List It:=rs.flatMap fun r=>cu 9 r.alts
def uf(rs:List Rl):Nat:=(rs.map fun r=>1+iF 9 r.alts).sum
theorem NJ:∀(f:Nat)(ts:List Tk)(a x:List Rl)(ts':List Tk),iC f ts a=.ok (x,ts')->∃y,x=a++y/\bX ts ts' (GN y) (uf y) 0
 |0,ts,a,x,ts',h=>by
  cases h;exact⟨[],by simp,bX.refl _⟩
 |f+1,ts,a,x,ts',h=>by
  unfold iC at h
  split at h
  ·cases h
   exact⟨[],by simp,bX.refl _⟩
  ·split at h
   ·cases h
   ·rename_i z t1 hz
    obtain⟨y,e,h2⟩:=NJ f t1 _ x ts' h;exact⟨z::y,by rw[e];simp,(Vo hz).trans h2⟩
theorem Uc:∀(f:Nat)(ts a x:List Tk)(ts':List Tk),iM f ts a=.ok (x,ts')->∃pre,ts=pre++ts'/\x.length<=a.length+pre.length
 |0,ts,a,x,ts',h=>by cases h;exact⟨[],rfl,zL0⟩
 |f+1,ts,a,x,ts',h=>by
  unfold iM at h
  split at h
  ·rename_i hs
   cases h;exact⟨[(hd ts,pl ts)],Kw (by rw[hs];decide),by simp⟩
  ·split at h
   ·cases h
   ·rename_i b t1 h1
    obtain⟨rfl,rfl,hk⟩:=mW h1;obtain⟨pre,e,h2⟩:=Uc f _ _ _ _ h;refine⟨(hd ts,pl ts)::pre,?_,by simp at h2|-;omega⟩;rw[List.cons_append,<-e];exact Kw (Ei _ hk)
def wY(ls:List Lv):Nat:=(ls.map fun l=>1+l.tokens.length).sum
theorem NC{b:ByteArray}(h:0<=fF b):b≠aL:=by
 rintro rfl;exact absurd h (by decide)
theorem Ud:∀(f:Nat)(ts:List Tk)(a x:List Lv)(ts':List Tk),fI f ts a=.ok (x,ts')->∃y,x=a++y/\bX ts ts' [] (wY y) 0
 |0,ts,a,x,ts',h=>by
  cases h;exact⟨[],by simp,bX.refl _⟩
 |f+1,ts,a,x,ts',h=>by
  unfold fI at h
  split at h
  ·rename_i hk
   split at h
   ·cases h
   ·rename_i z t1 hz
    obtain⟨y,e,h2⟩:=Ud f t1 _ x ts' h;refine⟨z::y,by rw[e];simp,?_⟩;unfold gJ at hz
    split at hz
    ·cases hz
    ·rename_i b t2 hb
     obtain⟨rfl,rfl,hw⟩:=mW hb
     split at hz
     ·cases hz
     ·rename_i l t3 h3
      cases hz;obtain⟨pre,e3,h4⟩:=Uc _ _ _ _ _ h3;have h5:bX ts.tail.tail t1 [] pre.length 0:=⟨pre,e3,List.nil_sublist _,zL0⟩;have h6:=(bX.pass (ts:=ts) (NC hk)).trans ((bX.pass (ts:=ts.tail) (Ei _ hw)).trans (h5.trans h2));refine bX.less h6 ?_;simp only[wY,List.map_cons,List.sum_cons,List.length_cons,List.length_nil]at h4|-;omega
  ·cases h
   exact⟨[],by simp,bX.refl _⟩
theorem adL{ts ts':List Tk}{g:Gr}(h:gQ ts=.ok (g,ts')):bX ts ts' (GN g.rules) (wY g.levels+uf g.rules) 0:=by
 unfold gQ at h
 split at h
 ·cases h
 ·rename_i lv t1 h1
  split at h
  ·cases h
  ·rename_i x t2 h2
   split at h
   ·cases h
   ·rename_i l t3 h3
    cases h;obtain⟨y,e,k1⟩:=Ud _ _ _ _ _ h1;obtain⟨z,e',k2⟩:=NJ _ _ _ _ _ h3;rw[List.nil_append]at e;subst e e';exact k1.trans ((Vo h2).trans k2)
theorem Vp(s:ByteArray):∀(f i:Nat),i<=s.size->(∀t∈mF s f i,i<=t.2)/\(mF s f i).Pairwise fun a b=>a.2<b.2
 |0,i,hi=>by
  unfold mF;exact⟨fun t ht=>by simp at ht;subst ht;exact zL0,List.pairwise_singleton _ _⟩
 |f+1,i,hi=>by
  unfold mF
  split
  ·rename_i hlt
   have hn:=FZ hlt;obtain⟨h1,h2⟩:=Vp s f (oP s i) hn.2;refine⟨fun t ht=>?_,List.pairwise_cons.2 ⟨fun t ht=>?_,h2⟩⟩
   ·rcases List.mem_cons.1 ht with rfl | ht
    ·exact zL0
    ·have:=h1 t ht;omega
   ·have:=h1 t ht
    show i<t.2;omega
  ·exact⟨fun t ht=>by simp at ht;subst ht;exact zL0,List.pairwise_singleton _ _⟩
theorem ag9(s:ByteArray):(lex s).Pairwise fun a b=>a.2<b.2:=(Vp s _ _ (FY false (Nat.zero_le _)).2).2
theorem JU{s:ByteArray}{g:Gr}(h:parse s=.ok g):wY g.levels+uf g.rules<=2001/\((GN g.rules).map It.place).Pairwise (·< ·):=by
 unfold parse at h
 split at h
 ·cases h
 ·rename_i hs
  split at h
  ·cases h
  ·rename_i g' ts' hp
   cases h;obtain⟨pre,e,h1,h2⟩:=adL hp;have hl:=F3 s (aV s 0 false);have hr:=ag9 s;have e2:oz s (aV s 0 false)=pre++ts':=e;rw[e2,List.length_append]at hl;rw[e]at hr;refine⟨by omega,?_⟩;have h3:(pre.map Prod.snd).Pairwise (·< ·):=List.pairwise_map.2 (List.pairwise_append.1 hr).1;exact h3.sublist h1
def hlp(x:It):Bool:=decide (x.kind=2) || decide (x.mark≠0)
def aR(d:Nat)(l:List Alt):List It:=(cu d l).filter hlp
def uw(d:Nat)(x:It):List It:=(if hlp x=true then [x] else [])++aR d x.alts
def jH(d:Nat)(l:List It):List It:=l.flatMap (uw d)
theorem aha(d:Nat)(x:It):(sJ d x).filter hlp=uw d x:=by
 unfold sJ uw aR;rw[List.filter_cons]
 split <;> simp
theorem Bv{α β:Type}(p:β->Bool)(f:α->List β):∀l:List α,(l.flatMap f).filter p=l.flatMap fun a=>(f a).filter p
 | []=>rfl
 |a::l=>by rw[List.flatMap_cons,List.filter_append,Bv p f l,List.flatMap_cons]
theorem af8(d:Nat)(l:List Alt):aR (d+1) l=l.flatMap fun a=>jH d a.1:=by
 unfold aR jH;rw[tY,Bv];congr 1;funext a;unfold pX;rw[Bv];congr 1;funext x;exact aha d x
theorem OQ:∀(d:Nat)(l:List Alt),(cu d l).length<=iF d l
 |0,_=>zL0
 |d+1,l=>by
  rw[tY,BF,List.length_flatMap];have h1:∀its:List It,(pX d its).length<=sj d its:=by
   intro its;unfold pX sj;rw[List.length_flatMap]
   induction its with
   |nil=>exact zL0
   |cons x its ih=>
    rw[List.map_cons,List.map_cons,List.sum_cons,List.sum_cons];have:=OQ d x.alts;simp only[sJ,BX,List.length_cons]at *;omega
  induction l with
  |nil=>exact zL0
  |cons a l ih=>
   rw[List.map_cons,List.map_cons,List.sum_cons,List.sum_cons];have:=h1 a.1;omega
theorem Xg(d:Nat)(l:List Alt):(aR d l).length<=iF d l:=Nat.le_trans (List.length_filter_le _ _) (OQ d l)
def iR(d:Nat)(l:List Alt):List ByteArray:=((cu d l).filter fun x=>decide (x.kind=1)).map It.name
def mI(d:Nat)(x:It):List ByteArray:=(if x.kind=1 then [x.name] else [])++iR d x.alts
theorem NZ(d:Nat)(l:List Alt):iR (d+1) l=l.flatMap fun a=>a.1.flatMap (mI d):=by
 unfold iR;rw[tY,Bv,List.map_flatMap];congr 1;funext a;unfold pX;rw[Bv,List.map_flatMap];congr 1;funext x;unfold sJ mI iR;rw[List.filter_cons]
 by_cases h:x.kind=1
 ·simp[h]
 ·simp[h]
theorem af9(d:Nat)(l:List Alt):(iR d l).length<=iF d l:=by
 unfold iR;rw[List.length_map];exact Nat.le_trans (List.length_filter_le _ _) (OQ d l)
def iN:ByteArray:=⟨#[36]⟩
def wW:ByteArray:=⟨#[36,115,116,97,114,116]⟩
def Zi:ByteArray:=⟨#[39]⟩
def iD(l:List ByteArray)(b:ByteArray):List ByteArray:=if 0<=bA l b then l else l++[b]
theorem N7(l:List ByteArray)(b:ByteArray):(iD l b).length<=l.length+1:=by
 unfold iD;split
 ·omega
 ·simp
def bP(l bs:List ByteArray):List ByteArray:=bs.foldl iD l
theorem JK:∀(bs l:List ByteArray),(bP l bs).length<=l.length+bs.length
 | [],l=>zL0
 |b::bs,l=>by
  have h1:=JK bs (iD l b);have h2:=N7 l b;rw[List.length_cons];have:bP l (b::bs)=bP (iD l b) bs:=rfl;rw[this];omega
theorem DW(l a b:List ByteArray):bP l (a++b)=bP (bP l a) b:=List.foldl_append
def pY(n:Nat):ByteArray:=⟨(Lib.decDigits n).toArray⟩
def hName(b:ByteArray)(k:Nat):ByteArray:=b++Zi++pY k
def gD(r:Rl):List ByteArray:=r.name::(List.range (aR 9 r.alts).length).map fun k=>hName r.name (k+1)
def aD(g:Gr):List ByteArray:=bP [iN] (gZ g++g.rules.flatMap fun r=>iR 9 r.alts)
def bg(g:Gr):List ByteArray:=wW::g.rules.flatMap gD
structure Pd where
 left:Nat
 right:List Nat
 prec:Int
def jN(n:Nat)(r:List Nat):Int:=r.foldl (fun p s=>if s<n then (s:Int) else p) (-1)
def aQ(n s:Nat)(r:List Nat):Pd:=⟨s,r,jN n r⟩
def mK(T N:List ByteArray)(x:It):Nat:=if x.kind=1 then fix T x.name else T.length+fix N x.name
def sK(H:List It)(p:Nat):Nat:=H.findIdx fun x=>decide (x.place=p)
def lI(T N:List ByteArray)(b:Nat)(H:List It)(x:It):Nat:=if hlp x=true then b+1+sK H x.place else mK T N x
def ig(T N:List ByteArray)(b:Nat)(H:List It)(its:List It):List Nat:=its.map (lI T N b H)
def jY(T N:List ByteArray)(b:Nat)(H:List It)(a:Alt):Pd:=⟨b,ig T N b H a.1,if a.2.1=aL then jN T.length (ig T N b H a.1) else (fix T a.2.1:Int)⟩
def partsOf(T N:List ByteArray)(b:Nat)(H:List It)(x:It):List (List Nat):=if x.kind=2 then x.alts.map fun a=>ig T N b H a.1 else [[mK T N x]]
def iO(n s m:Nat)(ps:List (List Nat)):List Pd:=(if m=42\/m=63 then [aQ n s []] else [])++((if m=42 then [] else ps.map (aQ n s))++(if m=42\/m=43 then ps.map fun r=>aQ n s (s::r) else []))
def l6(T N:List ByteArray)(b:Nat)(H:List It):Nat->List It->List Pd
 |_,[]=>[]
 |k,x::l=>iO T.length (b+1+k) x.mark (partsOf T N b H x)++l6 T N b H (k+1) l
def pO(T N:List ByteArray)(b:Nat)(r:Rl):List Pd:=r.alts.map (jY T N b (aR 9 r.alts))++l6 T N b (aR 9 r.alts) 0 (aR 9 r.alts)
def iB(T N:List ByteArray):Nat->List Rl->List Pd
 |_,[]=>[]
 |b,r::rs=>pO T N b r++iB T N (b+1+(aR 9 r.alts).length) rs
def bI(g:Gr):List Pd:=⟨(aD g).length,[(aD g).length+1],-1⟩::iB (aD g) (bg g) ((aD g).length+1) g.rules
def bk(t:ByteArray):Nat->List Lv->Nat×Nat->Nat×Nat
 |_,[],r=>r
 |i,l::ls,r=>bk t (i+1) ls (if 0<=bA (l.tokens.map Prod.fst) t then (i+1,l.kind) else r)
def eT(g:Gr)(t:ByteArray):Nat×Nat:=bk t 0 g.levels (0,0)
abbrev av:=Nat×Nat
def qD(P:List Pd)(k:Nat):List Nat:=(P[k]?.map Pd.right).getD []
def bE(P:List Pd)(s:av):Option Nat:=(qD P s.1)[s.2]?
def fT(P:List Pd)(n:Nat):Nat->List av
 |0=>[]
 |k+1=>fT P n k++(if (P[k]?.map Pd.left)=some n then [(k,0)] else [])
theorem BG{P:List Pd}{n:Nat}{s:av}:∀{k:Nat},s∈fT P n k↔s.2=0/\s.1<k/\P[s.1]?.map Pd.left=some n
 |0=>by simp[fT]
 |k+1=>by
  rw[fT,List.mem_append,BG];constructor
  ·rintro(⟨h1,h2,h3⟩ | h)
   ·exact⟨h1,by omega,h3⟩
   ·split at h
    ·rename_i h'
     rw[List.mem_singleton]at h;subst h;exact⟨rfl,by simp,h'⟩
    ·cases h
  ·rintro⟨h1,h2,h3⟩
   by_cases e:s.1=k
   ·right
    rw[if_pos (e▸h3),List.mem_singleton];exact Prod.ext e h1
   ·exact .inl ⟨h1,by omega,h3⟩
theorem UG{P:List Pd}{n:Nat}:∀k:Nat,(fT P n k).Nodup
 |0=>List.nodup_nil
 |k+1=>by
  rw[fT,List.nodup_append];refine⟨UG k,?_,fun a ha b hb=>?_⟩
  ·split <;> simp
  ·split at hb
   ·rw[List.mem_singleton]at hb
    subst hb;have:=(BG.1 ha).2.1;intro e;rw[e]at this;exact absurd this (Nat.lt_irrefl _)
   ·cases hb
def fu(P:List Pd)(n:Option Nat)(l:List av):Nat->List av
 |0=>l
 |k+1=>if (P[k]?.map Pd.left)=n/\n≠none/\(k,0)∉l then fu P n l k++[(k,0)] else fu P n l k
theorem OT{P:List Pd}{n:Option Nat}{l:List av}:∀{k j:Nat},k<=j->((j,0)∈fu P n l k↔(j,0)∈l)
 |0,j,_=>Iff.rfl
 |k+1,j,h=>by
  rw[fu]
  split
  ·rw[List.mem_append,OT (by omega),List.mem_singleton]
   constructor
   ·rintro(h1 | h1)
    ·exact h1
    ·cases h1;omega
   ·exact .inl
  ·exact OT (by omega)
theorem Gg{P:List Pd}{n:Nat}{l:List av}:∀k:Nat,fu P (some n) l k=l++(fT P n k).filter fun s=>decide (s∉l)
 |0=>by simp[fu,fT]
 |k+1=>by
  rw[fu,fT,List.filter_append,Gg k]
  by_cases h1:P[k]?.map Pd.left=some n
  ·rw[if_pos h1]
   by_cases h2:(k,0)∈l
   ·rw[if_neg (fun h=>h.2.2 h2)]
    simp[h2]
   ·rw[if_pos ⟨h1,by simp,h2⟩]
    simp[h2,List.append_assoc]
  ·rw[if_neg (fun h=>h1 h.1),if_neg h1]
   simp
theorem F8{P:List Pd}{l:List av}:∀k:Nat,fu P none l k=l
 |0=>rfl
 |k+1=>by rw[fu,if_neg (fun h=>h.2.1 rfl),F8 k]
inductive mZ (P:List Pd):List av->Nat->List av->Prop
 | done {l:List av} {i:Nat} (h:l.length<=i):mZ P l i l
 | step {l r:List av} {i:Nat} (h:i<l.length) (k:mZ P (fu P (bE P l[i]) l P.length) (i+1) r):mZ P l i r
def p8(P:List Pd)(n:Option Nat)(l:List av)(E:List Nat):List av×List Nat :=
 match n with
 |none=>(l,E)
 |some n=>if n∈E then (l,E) else (l++fT P n P.length,n::E)
inductive Al (P:List Pd):List av->List Nat->Nat->List av->Prop
 | done {l:List av} {E:List Nat} {i:Nat} (h:l.length<=i):Al P l E i l
 | step {l r:List av} {E:List Nat} {i:Nat} (h:i<l.length) (k:Al P (p8 P (bE P l[i]) l E).1 (p8 P (bE P l[i]) l E).2 (i+1) r):Al P l E i r
structure yF(P:List Pd)(st:Nat)(l:List av)(E:List Nat):Prop where
 opn:∀n∈E,∀s∈fT P n P.length,s∈l
 fst:∀k,(k,0)∈l->∀n,P[k]?.map Pd.left=some n->n∈E\/n=st
def Lg(P:List Pd)(st:Nat):Prop:=∀s n,bE P s=some n->n≠st
theorem yF.same{P:List Pd}{st:Nat}{l:List av}{E:List Nat}(hs:Lg P st)(h:yF P st l E)(s:av):fu P (bE P s) l P.length=(p8 P (bE P s) l E).1/\yF P st (p8 P (bE P s) l E).1 (p8 P (bE P s) l E).2:=by
 cases hn:bE P s with
 |none=>exact⟨F8 _,h⟩
 |some n=>
  rw[Gg];unfold p8
  by_cases hE:n∈E
  ·simp only[if_pos hE]
   refine⟨?_,h⟩;have:(fT P n P.length).filter (fun s=>decide (s∉l))=[]:=List.filter_eq_nil_iff.2 fun x hx=>by simpa using h.opn n hE x hx
   rw[this,List.append_nil]
  ·simp only[if_neg hE]
   have hnew:∀x∈fT P n P.length,x∉l:=fun x hx hl=>by
    obtain⟨h1,h2,h3⟩:=BG.1 hx;have:x=(x.1,0):=Prod.ext rfl h1;rw[this]at hl;rcases h.fst _ hl n h3 with h4|h4
    ·exact hE h4
    ·exact hs s n hn h4
   refine⟨?_,fun m hm x hx=>?_,fun k hk m hm=>?_⟩
   ·rw[List.filter_eq_self.2 fun x hx=>by simpa using hnew x hx]
   ·rcases List.mem_cons.1 hm with rfl | hm
    ·exact List.mem_append.2 (.inr hx)
    ·exact List.mem_append.2 (.inl (h.opn m hm x hx))
   ·rcases List.mem_append.1 hk with hk | hk
    ·rcases h.fst k hk m hm with h4 | h4
     ·exact .inl (List.mem_cons_of_mem _ h4)
     ·exact .inr h4
    ·have:=(BG.1 hk).2.2
     rw[hm]at this;cases this;exact .inl List.mem_cons_self
theorem ahb{P:List Pd}{st:Nat}(hs:Lg P st){l r:List av}{E:List Nat}{i:Nat}(h:Al P l E i r):yF P st l E->mZ P l i r:=by
 induction h with
 |done h=>exact fun _=>.done h
 |step h _ ih=>
  intro hI;obtain⟨e,hI2⟩:=hI.same hs _;refine .step h ?_;rw[e];exact ih hI2
theorem mZ.det{P:List Pd}{l r r':List av}{i:Nat}(h:mZ P l i r):mZ P l i r'->r=r':=by
 induction h with
 |done h=>
  intro h';cases h' with
  |done _=>rfl
  |step h2 _=>omega
 |step h _ ih=>
  intro h';cases h' with
  |done h2=>omega
  |step _ k=>exact ih k
theorem yF.kernel{P:List Pd}{st:Nat}{K:List av}(h:∀s∈K,s.2=0->P[s.1]?.map Pd.left=some st):yF P st K [] :=
 ⟨fun n hn=>(by cases hn),fun k hk n hn=>.inr (by have:=h _ hk rfl;rw[hn]at this;exact Option.some.inj this)⟩
theorem Wi{P:List Pd}{n:Nat}:∀k:Nat,(fT P n k).length<=k
 |0=>zL0
 |k+1=>by
  rw[fT,List.length_append];have:=Wi (P:=P) (n:=n) k
  split <;> simp <;> omega
theorem Wj{α:Type}{R:α->α->Prop}(Ml:∀a b,R a b->¬R b a):∀{l m:List α},l.Pairwise R->m.Pairwise R->(∀x,x∈l↔x∈m)->l=m
 | [],[],_,_,_=>rfl
 | [],b::m,_,_,h=>absurd ((h b).2 List.mem_cons_self) (by simp)
 |a::l,[],_,_,h=>absurd ((h a).1 List.mem_cons_self) (by simp)
 |a::l,b::m,hl,hm,h=>by
  rw[List.pairwise_cons]at hl hm;have e:a=b:=by
   rcases List.mem_cons.1 ((h a).1 List.mem_cons_self) with e|h1
   ·exact e
   ·rcases List.mem_cons.1 ((h b).2 List.mem_cons_self) with e | h2
    ·exact e.symm
    ·exact absurd (hl.1 b h2) (Ml _ _ (hm.1 a h1))
  subst e;have key:∀x,x∈l↔x∈m:=fun x=>by
   constructor
   ·intro hx
    rcases List.mem_cons.1 ((h x).1 (List.mem_cons_of_mem _ hx)) with e|h1
    ·subst e;exact absurd (hl.1 x hx) (Ml _ _ (hl.1 x hx))
    ·exact h1
   ·intro hx
    rcases List.mem_cons.1 ((h x).2 (List.mem_cons_of_mem _ hx)) with e|h1
    ·subst e;exact absurd (hm.1 x hx) (Ml _ _ (hm.1 x hx))
    ·exact h1
  rw[Wj Ml hl.2 hm.2 key]
def dP(a b:av):Prop:=a.1<b.1\/(a.1=b.1/\a.2<b.2)
instance (a b:av):Decidable (dP a b):=by unfold dP;infer_instance
theorem ahc(a b:av)(h:dP a b):¬dP b a:=by unfold dP at *;omega
theorem ahd{a b c:av}(h:dP a b)(k:dP b c):dP a c:=by unfold dP at *;omega
theorem aga{a b:av}(h:¬dP a b)(hn:a≠b):dP b a:=by
 have:¬(a.1=b.1/\a.2=b.2):=fun e=>hn (Prod.ext e.1 e.2)
 unfold dP at *;omega
def ins(s:av):List av->List av
 | []=>[s]
 |x::l=>if dP s x then s::x::l else x::ins s l
theorem O4{s x:av}:∀{l:List av},x∈ins s l↔x=s\/x∈l
 | []=>by simp[ins]
 |y::l=>by
  rw[ins]
  split
  ·simp
  ·rw[List.mem_cons,O4,List.mem_cons]
   constructor
   ·rintro(h | h | h)
    ·exact .inr (.inl h)
    ·exact .inl h
    ·exact .inr (.inr h)
   ·rintro(h | h | h)
    ·exact .inr (.inl h)
    ·exact .inl h
    ·exact .inr (.inr h)
theorem YK{s:av}:∀{l:List av},l.Pairwise dP->s∉l->(ins s l).Pairwise dP
 | [],_,_=>by simp[ins]
 |y::l,h,hn=>by
  rw[List.pairwise_cons]at h;rw[ins]
  split
  ·rename_i h1
   refine List.pairwise_cons.2 ⟨fun z hz=>?_,List.pairwise_cons.2 h⟩;rcases List.mem_cons.1 hz with rfl|hz
   ·exact h1
   ·exact ahd h1 (h.1 z hz)
  ·rename_i h1
   refine List.pairwise_cons.2 ⟨fun z hz=>?_,YK h.2 fun hz=>hn (List.mem_cons_of_mem _ hz)⟩;rcases O4.1 hz with rfl|hz
   ·exact aga h1 fun e=>hn (e▸List.mem_cons_self)
   ·exact h.1 z hz
def oD(l:List av)(s:av):List av:=if s∈l then l else ins s l
theorem ahe{l:List av}{s:av}(h:l.Pairwise dP):(oD l s).Pairwise dP:=by
 unfold oD
 split
 ·exact h
 ·rename_i hn;exact YK h hn
theorem agb{l:List av}{s x:av}:x∈oD l s↔x=s\/x∈l:=by
 unfold oD
 split
 ·rename_i h
  exact⟨.inr,fun h'=>h'.elim (fun e=>e▸h) id⟩
 ·exact O4
def p9(P:List Pd)(n:Nat)(out:List av)(s:av):List av:=if bE P s=some n then oD out (s.1,s.2+1) else out
def Mq(P:List Pd)(C:List av)(n:Nat):List av:=C.foldl (p9 P n) []
theorem Pw{P:List Pd}{n:Nat}:∀(C out:List av),out.Pairwise dP->(C.foldl (p9 P n) out).Pairwise dP/\∀x,x∈C.foldl (p9 P n) out↔x∈out\/∃s∈C,bE P s=some n/\x=(s.1,s.2+1)
 | [],out,h=>⟨h,fun x=>by simp⟩
 |s::C,out,h=>by
  rw[List.foldl_cons];have h1:(p9 P n out s).Pairwise dP:=by
   unfold p9
   split
   ·exact ahe h
   ·exact h
  obtain⟨h2,h3⟩:=Pw C _ h1;refine⟨h2,fun x=>?_⟩;rw[h3 x];unfold p9
  split
  ·rename_i hb
   rw[agb];constructor
   ·rintro((h | h) | ⟨t,ht,h⟩)
    ·exact .inr ⟨s,List.mem_cons_self,hb,h⟩
    ·exact .inl h
    ·exact .inr ⟨t,List.mem_cons_of_mem _ ht,h⟩
   ·rintro(h | ⟨t,ht,g1,g2⟩)
    ·exact .inl (.inr h)
    ·rcases List.mem_cons.1 ht with rfl | ht
     ·exact .inl (.inl g2)
     ·exact .inr ⟨t,ht,g1,g2⟩
  ·rename_i hb
   constructor
   ·rintro(h | ⟨t,ht,h⟩)
    ·exact .inl h
    ·exact .inr ⟨t,List.mem_cons_of_mem _ ht,h⟩
   ·rintro(h | ⟨t,ht,g1,g2⟩)
    ·exact .inl h
    ·rcases List.mem_cons.1 ht with rfl | ht
     ·exact absurd g1 hb
     ·exact .inr ⟨t,ht,g1,g2⟩
theorem YL(P:List Pd)(C:List av)(n:Nat):(Mq P C n).Pairwise dP:=(Pw C [] List.Pairwise.nil).1
theorem El{P:List Pd}{C:List av}{n:Nat}{x:av}:x∈Mq P C n↔∃s∈C,bE P s=some n/\x=(s.1,s.2+1):=by
 have:=(Pw (P:=P) (n:=n) C [] List.Pairwise.nil).2 x;simpa [Mq]using this
def kH(P:List Pd)(C:List av):List (Nat×av):=C.filterMap fun s=>(bE P s).map fun n=>(n,(s.1,s.2+1))
theorem Ky{P:List Pd}{C:List av}{m:Nat×av}:m∈kH P C↔∃s∈C,bE P s=some m.1/\m.2=(s.1,s.2+1):=by
 unfold kH;rw[List.mem_filterMap];constructor
 ·rintro⟨s,hs,h⟩
  obtain⟨n,hn,rfl⟩:=Option.map_eq_some_iff.1 h;exact⟨s,hs,hn,rfl⟩
 ·rintro⟨s,hs,h1,h2⟩
  exact⟨s,hs,by rw[h1];exact congrArg some (Prod.ext rfl h2.symm)⟩
def oF(a b:Nat×av):Prop:=a.1<b.1\/(a.1=b.1/\dP a.2 b.2)
theorem OU:∀(n:Nat)(l:List Nat),l.Nodup->(∀x∈l,x<n)->l.length<=n
 |0,[],_,_=>zL0
 |0,x::_,_,h=>absurd (h x List.mem_cons_self) (Nat.not_lt_zero _)
 |n+1,l,hn,h=>by
  by_cases hm:n∈l
  ·have h1:=OU n (l.erase n) (hn.erase n) fun x hx=>by
    have h2:=hn.mem_erase_iff.1 hx;have:=h x h2.2;have:=h2.1;omega
   rw[List.length_erase_of_mem hm]at h1;omega
  ·have:=OU n l hn fun x hx=>by
    have:=h x hx;have:x≠n:=fun e=>hm (e▸hx)
    omega
   omega
def l9(P:List Pd)(K l:List av):Prop:=∃Z,l=K++Z/\Z.Nodup/\∀z∈Z,z.2=0/\z.1<P.length/\z∉K
theorem l9.len{P:List Pd}{K l:List av}(h:l9 P K l):l.length<=K.length+P.length:=by
 obtain⟨Z,rfl,hn,hz⟩:=h;rw[List.length_append];have h1:(Z.map Prod.fst).Nodup:=by
  rw[List.Nodup,List.pairwise_map];refine hn.imp_of_mem fun{a b}ha hb hab e=>hab ?_
  exact Prod.ext e ((hz a ha).1.trans (hz b hb).1.symm)
 have h2:=OU P.length _ h1 fun x hx=>by
  obtain⟨z,hz',rfl⟩:=List.mem_map.1 hx;exact(hz z hz').2.1
 rw[List.length_map]at h2;omega
theorem l9.add{P:List Pd}{K l:List av}(h:l9 P K l)(n:Option Nat):l9 P K (fu P n l P.length):=by
 cases n with
 |none=>rw[F8];exact h
 |some n=>
  obtain⟨Z,rfl,hn,hz⟩:=h;rw[Gg];refine⟨Z++(fT P n P.length).filter (fun s=>decide (s∉K++Z)),by rw[List.append_assoc],?_,fun z hz'=>?_⟩
  ·rw[List.nodup_append]
   refine⟨hn,(UG _).filter _,fun a ha b hb e=>?_⟩;have:=of_decide_eq_true (List.mem_filter.1 hb).2;exact this (List.mem_append.2 (.inr (e▸ha)))
  ·rcases List.mem_append.1 hz' with h1 | h1
   ·exact hz z h1
   ·obtain⟨h2,h3⟩:=List.mem_filter.1 h1
    obtain⟨h4,h5,-⟩:=BG.1 h2;exact⟨h4,h5,fun hk=>of_decide_eq_true h3 (List.mem_append.2 (.inl hk))⟩
theorem l9.refl(P:List Pd)(K:List av):l9 P K K:=⟨[],by simp,List.nodup_nil,fun z hz=>by cases hz⟩
def Mr(P:List Pd):Nat->List av->Nat->List av
 |0,l,_=>l
 |f+1,l,i=>if h:i<l.length then Mr P f (fu P (bE P l[i]) l P.length) (i+1) else l
def gM(P:List Pd)(K:List av):List av:=Mr P (K.length+P.length+1) K 0
theorem XY{P:List Pd}{K:List av}:∀(f i:Nat)(l:List av),l9 P K l->K.length+P.length+1<=f+i->mZ P l i (Mr P f l i)
 |0,i,l,h,hf=>.done (by have:=h.len;omega)
 |f+1,i,l,h,hf=>by
  rw[Mr]
  split
  ·rename_i hi
   exact .step hi (XY f (i+1) _ (h.add _) (by omega))
  ·exact .done (by omega)
theorem KP(P:List Pd)(K:List av):mZ P K 0 (gM P K):=XY _ 0 K (l9.refl P K) (by omega)
theorem mZ.gM{P:List Pd}{K r:List av}(h:mZ P K 0 r):r=gM P K:=h.det (KP P K)
theorem Al.gM{P:List Pd}{st:Nat}(hs:Lg P st){K r:List av}(hK:∀s∈K,s.2=0->P[s.1]?.map Pd.left=some st)(h:Al P K [] 0 r):r=gM P K:=(ahb hs h (yF.kernel hK)).gM
def eU(P:List Pd)(K:List av)(n:Nat):List av:=Mq P (gM P K) n
abbrev CU:=Nat×Nat×Nat
structure bK where
 ks:List (List av)
 es:List CU
def gN(l:List (List av))(k:List av):Nat:=l.findIdx fun x=>decide (x=k)
def edge(P:List Pd)(i:Nat)(K:List av)(S:bK)(n:Nat):bK :=
 if eU P K n=[] then S else if gN S.ks (eU P K n)<S.ks.length then ⟨S.ks,S.es++[(i,n,gN S.ks (eU P K n))]⟩ else ⟨S.ks++[eU P K n],S.es++[(i,n,S.ks.length)]⟩
def leave(P:List Pd)(i:Nat)(K:List av)(S:bK)(ns:List Nat):bK:=ns.foldl (edge P i K) S
theorem Wl{P:List Pd}{i:Nat}{K:List av}{S:bK}{n:Nat}(h:eU P K n=[]):edge P i K S n=S:=if_pos h
def qG(P:List Pd)(sz:Nat):Nat->Nat->bK->Option bK
 |0,_,_=>none
 |f+1,i,S=>if h:i<S.ks.length then (if 300<(leave P i S.ks[i] S (List.range sz)).ks.length then none else qG P sz f (i+1) (leave P i S.ks[i] S (List.range sz))) else some S
def jV(P:List Pd)(sz:Nat):Option bK:=qG P sz 302 0 ⟨[[(0,0)]],[]⟩
theorem agc{P:List Pd}{i:Nat}{K:List av}{S:bK}{n:Nat}:∃a,(edge P i K S n).ks=S.ks++a:=by
 unfold edge
 split
 ·exact⟨[],by simp⟩
 ·split
  ·exact⟨[],by simp⟩
  ·exact⟨_,rfl⟩
theorem take_same{n:Nat}:∀{M:List (Nat×av)},M.Pairwise oF->(∀m∈M,n<=m.1)->M.takeWhile (fun m=>decide (m.1=n))=M.filter (fun m=>decide (m.1=n))/\M.dropWhile (fun m=>decide (m.1=n))=M.filter (fun m=>decide (m.1≠n))
 | [],_,_=>⟨rfl,rfl⟩
 |m::M,h,hn=>by
  rw[List.pairwise_cons]at h
  by_cases e:m.1=n
  ·obtain⟨h1,h2⟩:=take_same h.2 fun x hx=>hn x (List.mem_cons_of_mem _ hx)
   constructor
   ·rw[List.takeWhile_cons,List.filter_cons];simp only[e,decide_true,if_true];rw[h1]
   ·rw[List.dropWhile_cons,List.filter_cons];simp only[e,decide_true,if_true,ne_eq,not_true_eq_false,decide_false,Bool.false_eq_true,if_false];rw[h2]
  ·have hm:=hn m List.mem_cons_self
   have hall:∀x∈M,x.1≠n:=fun x hx=>by
    have:=h.1 x hx;unfold oF at this;omega
   constructor
   ·rw[List.takeWhile_cons,List.filter_cons]
    simp only[e,decide_false,Bool.false_eq_true,if_false];exact(List.filter_eq_nil_iff.2 fun x hx=>by simpa using hall x hx).symm
   ·rw[List.dropWhile_cons,List.filter_cons]
    simp only[e,decide_false,Bool.false_eq_true,if_false,ne_eq,not_false_eq_true,decide_true,if_true];rw[List.filter_eq_self.2 fun x hx=>by simpa using hall x hx]
def Gx(i:Nat)(S:bK)(n:Nat)(k:List av):bK:=if gN S.ks k<S.ks.length then ⟨S.ks,S.es++[(i,n,gN S.ks k)]⟩ else ⟨S.ks++[k],S.es++[(i,n,S.ks.length)]⟩
theorem agd{P:List Pd}{i:Nat}{K:List av}{S:bK}{n:Nat}(h:eU P K n≠[]):edge P i K S n=Gx i S n (eU P K n):=if_neg h
inductive rE (i:Nat):List (Nat×av)->bK->bK->Prop
 | nil {S:bK}:rE i [] S S
 | aI {n:Nat} {x:av} {M:List (Nat×av)} {S R:bK} (h:rE i (M.dropWhile fun m=>decide (m.1=n)) (Gx i S n (x::(M.takeWhile fun m=>decide (m.1=n)).map Prod.snd)) R):rE i ((n,x)::M) S R
theorem N8{P:List Pd}{i:Nat}{K:List av}:∀(ns:List Nat)(S:bK),(∀n∈ns,eU P K n=[])->leave P i K S ns=S
 | [],S,_=>rfl
 |n::ns,S,h=>by
  have:leave P i K S (n::ns)=leave P i K (edge P i K S n) ns:=rfl;rw[this,Wl (h n List.mem_cons_self)];exact N8 ns S fun m hm=>h m (List.mem_cons_of_mem _ hm)
theorem agf{P:List Pd}{i:Nat}{K:List av}(a b:List Nat)(S:bK):leave P i K S (a++b)=leave P i K (leave P i K S a) b:=List.foldl_append
theorem rE.leave{P:List Pd}{i:Nat}{K:List av}{sz:Nat}{M:List (Nat×av)}{S R:bK}(h:rE i M S R):∀a,a<=sz->M.Pairwise oF->(∀m,m∈M↔m∈kH P (gM P K)/\a<=m.1)->(∀m∈M,m.1<sz)->R=leave P i K S (List.range' a (sz-a)):=by
 induction h with
 | @nil S=>
  intro a _ _ hm _;refine(N8 _ _ fun n hn=>?_).symm;rw[List.mem_range'_1]at hn;refine List.eq_nil_iff_forall_not_mem.2 fun x hx=>?_
  obtain⟨s,hs,h1,h2⟩:=El.1 hx;have:=(hm (n,x)).2 ⟨Ky.2 ⟨s,hs,h1,h2⟩,hn.1⟩;cases this
 | @aI n x M S R _ ih=>
  intro a ha hp hm hz;have hn:a<=n:=((hm (n,x)).1 List.mem_cons_self).2;have hnz:n<sz:=hz (n,x) List.mem_cons_self;have hge:∀m∈M,n<=m.1:=fun m hmm=>by
   have:=(List.pairwise_cons.1 hp).1 m hmm;unfold oF at this;omega
  obtain⟨t1,t2⟩:=take_same (List.pairwise_cons.1 hp).2 hge;have hsplit:List.range' a (sz-a)=List.range' a (n-a)++(n::List.range' (n+1) (sz - (n+1))):=by
   have e1:sz-a=(n-a)+(1+(sz - (n+1))):=by omega
   rw[e1,<-List.range'_append_1,show a+(n-a)=n by omega,Nat.add_comm 1,List.range'_succ]
  have hk:eU P K n=x::(M.takeWhile fun m=>decide (m.1=n)).map Prod.snd:=by
   refine Wj ahc (YL _ _ _) ?_ fun y=>?_
   ·have h1:((n,x)::M.takeWhile fun m=>decide (m.1=n)).Pairwise oF:=by
     refine hp.sublist (List.Sublist.cons_cons _ (List.takeWhile_sublist _))
    have h2:(((n,x)::M.takeWhile fun m=>decide (m.1=n)).map Prod.snd).Pairwise dP:=by
     rw[List.pairwise_map];refine h1.imp_of_mem fun{u v}hu hv huv=>?_
     have e:∀w∈(n,x)::M.takeWhile (fun m=>decide (m.1=n)),w.1=n:=fun w hw=>by
      rcases List.mem_cons.1 hw with rfl|hw
      ·rfl
      ·rw[t1]at hw
       exact of_decide_eq_true (List.mem_filter.1 hw).2
     have:=e u hu;have:=e v hv;unfold oF at huv;rcases huv with h'|h'
     ·omega
     ·exact h'.2
    exact h2
   ·have e:∀y,(y∈x::(M.takeWhile fun m=>decide (m.1=n)).map Prod.snd)↔(n,y)∈(n,x)::M:=fun y=>by
     rw[t1];constructor
     ·intro h
      rcases List.mem_cons.1 h with rfl|h
      ·exact List.mem_cons_self
      ·obtain⟨m,hm1,rfl⟩:=List.mem_map.1 h
       obtain⟨h1,h2⟩:=List.mem_filter.1 hm1;have h3:=of_decide_eq_true h2;exact List.mem_cons_of_mem _ (by rw[<-h3];exact h1)
     ·intro h
      rcases List.mem_cons.1 h with h|h
      ·cases h;exact List.mem_cons_self
      ·exact List.mem_cons_of_mem _ (List.mem_map.2 ⟨(n,y),List.mem_filter.2 ⟨h,by simp⟩,rfl⟩)
    rw[e y,hm (n,y),Ky];unfold eU;rw[El];exact⟨fun h=>⟨h,hn⟩,fun h=>h.1⟩
  rw[hsplit,agf,N8 (List.range' a (n-a)) S fun q hq=>?_]
  ·have e1:Lx.leave P i K S (n::List.range' (n+1) (sz - (n+1)))=Lx.leave P i K (edge P i K S n) (List.range' (n+1) (sz - (n+1))):=rfl
   rw[e1,agd (by rw[hk];simp),hk];refine ih (n+1) (by omega) ?_ (fun m=>?_) fun m hmm=>?_
   ·exact(List.pairwise_cons.1 hp).2.sublist (List.dropWhile_sublist _)
   ·rw[t2,List.mem_filter]
    constructor
    ·rintro⟨h1,h2⟩
     have h3:=of_decide_eq_true h2;have h4:=(hm m).1 (List.mem_cons_of_mem _ h1);have:=hge m h1;exact⟨h4.1,by omega⟩
    ·rintro⟨h1,h2⟩
     have h3:=(hm m).2 ⟨h1,by omega⟩;rcases List.mem_cons.1 h3 with h4|h4
     ·rw[h4]at h2;exact absurd h2 (by show ¬n+1<=n;omega)
     ·exact⟨h4,by simp;omega⟩
   ·rw[t2]at hmm
    exact hz m (List.mem_cons_of_mem _ (List.mem_filter.1 hmm).1)
  ·rw[List.mem_range'_1]at hq
   refine List.eq_nil_iff_forall_not_mem.2 fun y hy=>?_
   obtain⟨s,hs,h1,h2⟩:=El.1 hy;have h3:=(hm (q,y)).2 ⟨Ky.2 ⟨s,hs,h1,h2⟩,hq.1⟩;rcases List.mem_cons.1 h3 with h4|h4
   ·cases h4;omega
   ·have:=hge _ h4
    have:n<=q:=this;omega
end Lx
theorem Ot{w:World}{mb:Nat}{vT vN vP vB vK vH vL:Value}(k:aj w mb #[vT,vN,vP,vB,vK,vH,vL] 145){T:List ByteArray}(hT:w.ownsRow 0 9 1 vT T.length (T.map Value.string))(b:ByteArray)(hb:0<=bA T b):
  Calls prog 55 #[.pointer (some ⟨mb,0,none⟩),.string b] w fun e w'=>e=.returned (.int .i64 (Lx.fix T b:Int))/\Below w.heap.size w w':=by
 obtain⟨a,c,hv,hm⟩:=aF hT;subst hv;unfold maxLen at hm;have hf:=zT hb;obtain⟨hf1,hf2⟩:=hf;clear hb;have c0:w.cell? ⟨mb,0,none⟩=some (.slice a T.length c):=k.cell 0;go_enter func55,ntmps55;go_wp2_with fail;refine(Ec T b _ w hT).mono ?_;rintro e w1⟨rfl,hb1⟩;rw[hf1];go_wp2_with fail;go_ret;exact⟨rfl,hb1⟩
structure Fr(X:Nat->Prop)(w:World)(X':Nat->Prop)(w':World):Prop where
 os:w'.os=w.os
 tape:w'.tape=w.tape
 output:w'.output=w.output
 size:w.heap.size<=w'.heap.size
 block:∀g,g<w.heap.size->¬X g->w'.heap[g]?=w.heap[g]?
 own:∀g,X' g->X g\/w.heap.size<=g
theorem Fr.refl(X:Nat->Prop)(w:World):Fr X w X w:=⟨rfl,rfl,rfl,zL0,fun _ _ _=>rfl,fun _ h=>.inl h⟩
theorem Fr.trans{X X' X'':Nat->Prop}{w w' w'':World}(h:Fr X w X' w')(k:Fr X' w' X'' w''):Fr X w X'' w'':=by
 refine⟨k.os.trans h.os,k.tape.trans h.tape,k.output.trans h.output,Nat.le_trans h.size k.size,fun g hg hx=>?_,fun g hg=>?_⟩
 ·refine(k.block g (Nat.lt_of_lt_of_le hg h.size) fun hx'=>?_).trans (h.block g hg hx)
  rcases h.own g hx' with h1|h1
  ·exact hx h1
  ·omega
 ·rcases k.own g hg with h1 | h1
  ·exact h.own g h1
  ·exact .inr (Nat.le_trans h.size h1)
theorem Fr.same{X:Nat->Prop}{w w':World}(h:Below w.heap.size w w'):Fr X w X w':=⟨h.os,h.tape,h.output,h.size,fun g hg _=>h.block g hg,fun _ h=>.inl h⟩
def jm(X:Nat->Prop)(w:World)(mb:Nat)(T N:List ByteArray):Prop :=
 (∀g,X g->g<w.heap.size)/\∃vT vN,aj w mb #[vT,vN,.slice none 0 0,.slice none 0 0,.slice none 0 0,.slice none 0 0,.slice none 0 0] 145/\w.ownsRow 0 9 1 vT T.length (T.map Value.string)/\w.ownsRow 0 9 1 vN N.length (N.map Value.string)/\X mb/\(∀g,vT.ownBlock=some g->X g)/\(∀g,vN.ownBlock=some g->X g)/\vT.ownBlock≠some mb/\vN.ownBlock≠some mb/\(vT.ownBlock=none\/vT.ownBlock≠vN.ownBlock)
theorem jm.keep{X:Nat->Prop}{mb:Nat}{w w':World}{T N:List ByteArray}(h:jm X w mb T N)(hs:w.heap.size<=w'.heap.size)(hk:∀g,X g->g<w.heap.size->w'.heap[g]?=w.heap[g]?):jm X w' mb T N:=by
 obtain⟨h0,vT,vN,h1,h2,h3,h4,h5,h6,h7⟩:=h;refine⟨fun g hg=>Nat.lt_of_lt_of_le (h0 g hg) hs,vT,vN,(hk _ h4 h1.lt).trans h1,aC h2 fun g hg=>?_,aC h3 fun g hg=>?_,h4,h5,h6,h7⟩
 ·exact hk g (h5 g hg) (h2.lt g hg).2
 ·exact hk g (h6 g hg) (h3.lt g hg).2
theorem jm.below{X:Nat->Prop}{mb:Nat}{w w':World}{T N:List ByteArray}(h:jm X w mb T N)(hb:Below w.heap.size w w'):jm X w' mb T N:=h.keep hb.size fun g _ hg=>hb.block g hg
theorem jm.lt{X:Nat->Prop}{mb:Nat}{w:World}{T N:List ByteArray}(h:jm X w mb T N):mb<w.heap.size:=by
 obtain⟨-,vT,vN,h1,-⟩:=h;exact h1.lt
theorem Wm{X:Nat->Prop}{mb:Nat}{w:World}{T N:List ByteArray}(h:jm X w mb T N)(hl:T.length<=10000)(b:ByteArray):
  Calls prog 55 #[.pointer (some ⟨mb,0,none⟩),.string b] w fun e w'=>(∃v,e=.returned v)/\∃X',jm X' w' mb (iD T b) N/\Fr X w X' w':=by
 obtain⟨i0,hii,hz0,hz1,hz2⟩:=info_parts Tryz.BU;have hmb:=h.lt
 by_cases hin:0<=bA T b
 ·have e1:iD T b=T:=if_pos hin
  rw[e1];obtain⟨-,vT,vN,h1,h2,-⟩:=id h;refine(Ot h1 h2 b hin).mono ?_;rintro e w1⟨rfl,hb⟩;exact⟨⟨_,rfl⟩,X,h.below hb,Fr.same hb⟩
 ·have e1:iD T b=T++[b]:=if_neg hin
  rw[e1];obtain⟨hX0,vT,vN,h1,h2,h3,h4,h5,h6,h7,h8,h9⟩:=h;have hm:=aF h2;obtain⟨a,c,hv,hm⟩:=hm;subst hv;unfold maxLen at hm;have hr:=zK T b;have c0:w.cell? ⟨mb,0,none⟩=some (.slice a T.length c):=h1.cell 0;go_enter func55,ntmps55;go_wp2_with fail;refine(Ec T b _ w h2).mono ?_;rintro e w1⟨rfl,hb1⟩;have hs1:=hb1.size;have k1:aj w1 mb _ 145:=(hb1.block mb (by omega)).trans h1;have d0:w1.cell? ⟨mb,0,none⟩=some (.slice a T.length c):=k1.cell 0;have o1:w1.ownsRow 0 9 1 (.slice a T.length c) T.length (T.map Value.string):=aC h2 fun g hg=>hb1.block g (h2.lt g hg).2
  have lm:mb<w1.heap.size:=by omega
  go_wp2_with (at_builtin;refine wpList_append_own_at _ rfl _ _ 41 rfl 0 9 i0 _ 1 16 underlying41 hii hz0 hz1 hz2 rfl (by decide) (.slice a T.length c) _ _ rfl (o1.alloc _) ⟨_,0,none⟩ 1 1 [.string b] rfl rfl (bC (aj.new w1 _ 9)) (by simp[Value.oneCell']) (by unfold maxLen;omega) (by omega) (by simp) ?_;intro v' w3 hown3 hgrow3 _ hat;obtain⟨a3,c3,hv3,Ay⟩:=aF hown3;subst hv3;have k3:aj w3 mb _ 145:=(k1.alloc _).grown hgrow3 (fun e=>h7 e.symm);have f3:∀j,w3.frozen? ⟨mb,j,none⟩=false:=k3.frozen;have g0:w3.cell? ⟨mb,0,none⟩=some (.slice a T.length c):=k3.cell 0;unfold maxLen at Ay)
  go_ret;have xq:∀g,(Value.slice a3 (T.length+1) c3).ownBlock=some g->(Value.slice a T.length c).ownBlock=some g\/w1.heap.size<g:=by
   intro g hg;rcases hat with h|h
   ·exact .inl (h▸hg)
   ·rw[h]at hg;simp at hg;exact .inr (by omega)
  have hX:∀g,(Value.slice a3 (T.length+1) c3).ownBlock=some g->g≠mb/\(X g\/(w.heap.size<=g/\g<w3.heap.size)):=by
   intro g hg;rcases xq g hg with h|h
   ·exact⟨fun e=>h7 (e▸h),.inl (h5 g h)⟩
   ·exact⟨by omega,.inr ⟨by omega,(hown3.lt g hg).2⟩⟩
  have bk:∀g,g<w.heap.size->g≠mb->(Value.slice a T.length c).ownBlock≠some g->(w3.setCell ⟨mb,0,none⟩ (.slice a3 (T.length+1) c3)).heap[g]?=w.heap[g]?:=by
   intro g hg h1 h2;rw[zS0 h1,hgrow3.block g (by simp;omega) (fun e=>h2 e.symm),Below.heap_alloc _ _ _ (by omega),hb1.block g hg]
  have hs3:=hgrow3.size;simp at hs3;have hse:(w3.setCell ⟨mb,0,none⟩ (.slice a3 (T.length+1) c3)).heap.size=w3.heap.size:=by simp[World.setCell]
  refine⟨⟨_,rfl⟩,fun g=>X g\/(w.heap.size<=g/\g<w3.heap.size),⟨fun g hg=>?_,.slice a3 (T.length+1) c3,vN,k3.set 0 _,?_,?_,.inl h4,fun g hg=>(hX g hg).2,fun g hg=>.inl (h6 g hg),fun e=>(hX mb e).1 rfl,h8,?_⟩,?_⟩
  ·rw[hse]
   rcases hg with h|h
   ·have:=hX0 g h;omega
   ·exact h.2
  ·have:=aC (w':=w3.setCell ⟨mb,0,none⟩ (.slice a3 (T.length+1) c3)) hown3 (fun g hg=>zS0 (hX g hg).1)
   simpa using this
  ·refine aC h3 fun g hg=>bk g (h3.lt g hg).2 (fun e=>h8 (e▸hg)) fun e=>?_
   rcases h9 with h|h
   ·rw[h]at e;cases e
   ·exact h (e.trans hg.symm)
  ·right
   intro e;cases hq:vN.ownBlock with
   |none=>
    rw[hq]at e;rcases hown3.2 with ⟨e1,e2⟩|⟨g,_,_,e1,_⟩
    ·omega
    ·rw[e1]at e;cases e
   |some g=>
    rw[hq]at e;rcases xq g e with h|h
    ·rcases h9 with h' | h'
     ·rw[h']at h;cases h
     ·exact h' (h.trans hq.symm)
    ·have:=(h3.lt g hq).2;omega
  ·refine⟨?_,?_,?_,?_,?_,fun g hg=>hg.imp_right And.left⟩
   ·exact hgrow3.os.trans hb1.os
   ·exact hgrow3.tape.trans hb1.tape
   ·exact hgrow3.output.trans hb1.output
   ·have:=hgrow3.size;simp[World.setCell]at this|-;omega
   ·exact fun g hg hx=>bk g hg (fun e=>hx (e▸h4)) (fun e=>hx (h5 g e))
end Go.Proofs.YtjaalkocdbkdeaaGreatDoor

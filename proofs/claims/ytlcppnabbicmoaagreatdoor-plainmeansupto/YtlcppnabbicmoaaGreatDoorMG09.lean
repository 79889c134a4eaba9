import Derived.Test.YtlcppnabbicmoaaGreatDoorMG08
import Derived.Lib.ItoaNum
import Derived.Maps.AppendAt
import Derived.MapKept
import Derived.Carry
import Derived.LaidEqlPtr
set_option maxHeartbeats 8000000
set_option maxRecDepth 1000000
namespace Go.Proofs.YtlcppnabbicmoaaGreatDoor
open Lx Go.Proofs.Tryz
open Go.RowKit Tr
namespace Lx
theorem Vi {seen:List ByteArray}{w:Wd}{ws:List Wd}(h:0<=bA seen w.2.1):bS seen (w::ws)=some w.2.2:=by
 rw[bS,if_pos (xu.2 (iG.1 h))]
theorem VT {seen:List ByteArray}{w:Wd}{ws:List Wd}(h:¬ 0<=bA seen w.2.1):bS seen (w::ws)=bS (seen++[w.2.1]) ws:=by
 rw[bS,if_neg (fun e=>h (iG.2 (xu.1 e)))];exact Ow _ _ _ fun v _=>by simp[or_comm]
theorem ah1 {l:List ByteArray}{b:ByteArray}{i:Nat}(hb:b∈l):bA l b<(i:Int)↔b∈l.take i:=by
 have h0:=iG.2 hb;unfold bA at h0 |-
 split
 ·rename_i hlt
  have he:l[fix l b]?=some b:=by
   unfold fix at hlt |-;have h1:=List.findIdx_getElem (w:=hlt);rw[List.getElem?_eq_getElem hlt,of_decide_eq_true h1]
  constructor
  ·intro h
   refine List.mem_iff_getElem?.2 ⟨fix l b,?_⟩;rw[List.getElem?_take_of_lt (by omega)];exact he
  ·intro h
   obtain⟨k,hk⟩:=List.mem_iff_getElem?.1 h;have hk2:k<i/\l[k]?=some b:=by
    rw[List.getElem?_take]at hk
    split at hk
    ·rename_i hki;exact⟨hki,hk⟩
    ·cases hk
   have:fix l b<=k:=by
    unfold fix;refine Nat.le_of_not_lt fun hlt'=>?_
    have:=List.not_of_lt_findIdx hlt';obtain⟨hkl,hke⟩:=List.getElem?_eq_some_iff.1 hk2.2;simp[hke]at this
   omega
 ·rename_i hn
  rw[if_neg hn]at h0;omega
theorem aeD (g:Gr){i:Nat}(hi:i<g.rules.length):(aG g).take (i+1)=(aG g).take i++[g.rules[i].name]:=by
 unfold aG;rw[List.take_succ_eq_append_getElem (by simpa using hi)];simp
theorem ag0 (g:Gr){i:Nat}(hi:i<g.rules.length):(lQ g).drop i=(1,g.rules[i].name,g.rules[i].place)::(lQ g).drop (i+1):=by
 unfold lQ;rw[<-List.map_drop,List.drop_eq_getElem_cons hi,List.map_cons,List.map_drop]
theorem ah2 {g:Gr}{i:Nat}(hi:i<g.rules.length):(bA (aG g) g.rules[i].name<(i:Int)->bS ((aG g).take i) ((lQ g).drop i)=some g.rules[i].place)/\(¬ bA (aG g) g.rules[i].name<(i:Int)->bS ((aG g).take i) ((lQ g).drop i)=bS ((aG g).take (i+1)) ((lQ g).drop (i+1))):=by
 have hm:g.rules[i].name∈aG g:=List.mem_map.2 ⟨_,List.getElem_mem hi,rfl⟩;rw[ah1 hm,ag0 g hi,aeD g hi];constructor
 ·intro h;exact Vi (iG.2 h)
 ·intro h;exact VT (fun e=>h (iG.1 e))
def Dg (lv:Lv):List Wd:=lv.tokens.map fun t=>(0,t.1,t.2)
end Lx
theorem ag1 {F:Nat->Prop} {w:World} {vL vR:Value} {g:Lx.Gr} (h:DG F w vL vR g) (hsm:(iC g).length<=2001) :
  Calls prog 59 #[.agg #[vL,vR]] w fun e w'=>e=.returned (Md 4 ((bS [] (iC g)).or (bS [] (lQ g))))/\Below w.heap.size w w':=by
 obtain⟨a,c,rfl,hmr⟩:=h.o9;obtain⟨a',c',rfl,hml⟩:=h.qm;unfold maxLen at hmr hml;obtain⟨i0,hii,hz0,hz1,hz2⟩:=info_parts Tryz.yL;go_enter func59,ntmps59;go_wp2_with fail;obtain⟨W,hW⟩:∃ W,W=(w.alloc (.cells #[.slice a' g.levels.length c',.slice a g.rules.length c] 49)).alloc (.cells #[.int .i64 0,.int .i64 0] 74):=⟨_,rfl⟩;rw[<-hW];have hWs:W.heap.size=w.heap.size+2:=by rw[hW];simp
 have kG:aj W w.heap.size #[.slice a' g.levels.length c',.slice a g.rules.length c] 49:=by rw[hW];exact (aj.new w _ 49).alloc _
 have kR:aj W (w.heap.size+1) #[.int .i64 0,.int .i64 0] 74:=by rw[hW];simpa using aj.new (w.alloc (.cells #[.slice a' g.levels.length c',.slice a g.rules.length c] 49)) #[.int .i64 0,.int .i64 0] 74
 have hB:Below w.heap.size w W:=by rw[hW];exact ((Below.refl _ _).alloc (lr0) _).alloc (by simp) _
 clear hW;have HD:Hid (bS [] (iC g)=bS [] ((g.levels.drop 0).flatMap Dg)):=rfl
 go_loopg [3,4] g.levels.length (fun k lv i wr=>∃ (j:Nat) (seen:List ByteArray),j+k=g.levels.length/\i=.int .i64 j/\Below W.heap.size W wr/\wr.ownsRow W.heap.size 9 1 lv seen.length (seen.map Value.string)/\seen.length+((g.levels.drop j).flatMap Dg).length=(iC g).length/\Hid (bS [] (iC g)=bS seen ((g.levels.drop j).flatMap Dg)))
 case atStart=>exact⟨0,[],by omega,rfl,Below.refl _ _,World.ownsRow_nil _ _ _ _,by rw[List.length_nil,Nat.zero_add];rfl,HD⟩
 case round =>
  clear HD;revert wr;intro wz hrel;obtain⟨j,seen,hk,rfl,hbz,hown,hcnt,HD⟩:=hrel;have hbw:Below w.heap.size w wz:=hB.trans (hbz.mono (by omega));have kD:aj wz w.heap.size _ 49:=(hbz.block _ (by omega)).trans kG;have oJ:aj wz (w.heap.size+1) _ 74:=(hbz.block _ (by omega)).trans kR;have hsz:=hbz.size;have g0:wz.cell? ⟨w.heap.size,0,none⟩=some (.slice a' g.levels.length c'):=kD.cell 0;have g1:wz.cell? ⟨w.heap.size,1,none⟩=some (.slice a g.rules.length c):=kD.cell 1;obtain⟨sa,sk,sc,hsv⟩:=sG hown;subst hsv
  by_cases hlt:j<g.levels.length
  ·have hl2:=HD.out
   rw[List.drop_eq_getElem_cons hlt,List.flatMap_cons]at hl2 hcnt;have HD2:Hid _:=hl2;clear hl2 HD;have hxj:g.levels[j]?=some g.levels[j]:=List.getElem?_eq_getElem hlt;generalize hx:g.levels[j]=x at HD2 hcnt;go_wp2_with fail
   go_loopg [3,5] x.tokens.length (fun k lv i wr=>∃ (m:Nat) (sn:List ByteArray),m+k=x.tokens.length/\i=.int .i64 m/\Below W.heap.size W wr/\wr.ownsRow W.heap.size 9 1 lv sn.length (sn.map Value.string)/\sn.length+((x.tokens.drop m).length+((g.levels.drop (j+1)).flatMap Dg).length)=(iC g).length/\Hid (bS [] (iC g)=bS sn ((x.tokens.drop m).map (fun t=>(0,t.1,t.2))++(g.levels.drop (j+1)).flatMap Dg)))
   case atStart=>exact⟨0,seen,by omega,rfl,hbz,hown,by rw[<-hcnt];simp[Dg],HD2⟩
   case round =>
    clear HD2 hown hcnt;obtain⟨m,sn,hkm,rfl,hbr,hown,hcnt,HD2⟩:=hrel;have nY:Below w.heap.size w wr:=hB.trans (hbr.mono (by omega));have qo:=hbr.size;obtain⟨gb,cap,vT,vA,hv,hF,hT,hA,SB,Dh,d0,d1,d2⟩:=(h.below nY).level hlt;cases hv;rw[hx]at hT hA d0;have jl:aj wr w.heap.size _ 49:=(hbr.block _ (by omega)).trans kG;have xO:aj wr (w.heap.size+1) _ 74:=(hbr.block _ (by omega)).trans kR;have g0:wr.cell? ⟨w.heap.size,0,none⟩=some (.slice (some ⟨gb,0,none⟩) g.levels.length c'):=jl.cell 0;have g1:wr.cell? ⟨w.heap.size,1,none⟩=some (.slice a g.rules.length c):=jl.cell 1;obtain⟨ta,tc,tF,SC⟩:=aI hT;subst tF;unfold maxLen at SC;obtain⟨aa,ac,Di,-⟩:=aI hA;subst Di;obtain⟨sa,sk,sc,hsv⟩:=sG hown;subst hsv
    by_cases bF:m<x.tokens.length
    ·have hd2:=HD2.out
     rw[List.drop_eq_getElem_cons bF,List.map_cons,List.cons_append]at hd2;rw[List.drop_eq_getElem_cons bF,List.length_cons]at hcnt;obtain⟨tg,Ic,zq,-,-⟩:=hT.form (by omega);cases zq;obtain⟨ag,amU,hva,-,-⟩:=hA.form (by omega);cases hva;have t1:=hT.cellAt m (by omega);rw[List.getElem?_map,List.getElem?_eq_getElem bF]at t1;have t2:=hA.cellAt m (by omega);rw[List.getElem?_map,List.getElem?_eq_getElem bF]at t2;simp only[Option.map_some]at t1 t2;generalize x.tokens[m]=tk at t1 t2 hd2;have q1:=Ez sn tk.1 _ _ (dO hown (Nat.zero_le _))
     by_cases hin:0<=bA sn tk.1
     ·have HD3:Hid (bS [] (iC g)=some tk.2):=hd2.trans (Vi hin)
      clear hd2 HD2;go_wp2_with fail;refine q1.mono ?_;rintro e w2 ⟨rfl,hb2⟩;have r:=zZ sn tk.1;have lD:gb<wr.heap.size:=(h.below nY).lt gb hF;have lag:ag<wr.heap.size:=(h.below nY).lt ag (Dh ag rfl);have nI:aj w2 w.heap.size _ 49:=(hb2.block _ (by omega)).trans jl;have mW:aj w2 (w.heap.size+1) _ 74:=(hb2.block _ (by omega)).trans xO;have y0:w2.cell? ⟨w.heap.size,0,none⟩=some (.slice (some ⟨gb,0,none⟩) g.levels.length c'):=nI.cell 0;have y2:w2.cell? ⟨gb,j*3+2,none⟩=some (.slice (some ⟨ag,0,none⟩) x.tokens.length ac):=(World.cell?_of_block (w:=wr) (hb2.block gb lD)).trans d2;have y3:w2.cell? ⟨ag,m,none⟩=some (.int .i64 (tk.2:Int)):=(World.cell?_of_block (w:=wr) (hb2.block ag lag)).trans t2;have r0:w2.cell? ⟨w.heap.size+1,0,none⟩=some (.int .i64 0):=mW.cell 0;have r1:w2.cell? ⟨w.heap.size+1,1,none⟩=some (.int .i64 0):=mW.cell 1;have f0:∀ j,w2.frozen? ⟨w.heap.size+1,j,none⟩=false:=mW.frozen;have hb3:=(nY.trans (hb2.mono nY.size)).uG (Nat.le_succ w.heap.size) (.int .i64 4) (.int .i64 (tk.2:Int));go_wp2_with fail;refine bodyPost_ret (v:=.agg #[.int .i64 4,.int .i64 (tk.2:Int)]) (by simp[results,results59,go_sem,r0,r1]) rfl ⟨?_,?_⟩
      ·rw[HD3.out];rfl
      ·exact hb3
     ·have HD3:Hid (bS [] (iC g)=bS (sn++[tk.1]) ((x.tokens.drop (m+1)).map (fun t=>(0,t.1,t.2))++(g.levels.drop (j+1)).flatMap Dg)):=hd2.trans (VT hin)
      clear hd2 HD2;go_wp2_with fail;refine q1.mono ?_;rintro e w2 ⟨rfl,hb2⟩;have r:=zZ sn tk.1;have hs2:=hb2.size;have hown2:=own_below hown hb2;have hlT:=hcnt
      go_wp2_with (at_builtin;refine wpList_append_own _ rfl _ _ 22 rfl W.heap.size 9 i0 _ 1 16 underlying22 hii hz0 hz1 hz2 rfl (by decide) (.slice sa sk sc) _ _ rfl (hown2.alloc _) ⟨_,0,none⟩ 1 1 [.string tk.1] rfl rfl (bP (aj.new w2 _ 9)) (by simp[Value.oneCell']) (by unfold maxLen;omega) (by omega) (by simp;omega) ?_;intro v' w3 hown3 hgrow3 _)
      have hb4:Below W.heap.size W w3:=((hbr.trans (hb2.mono qo)).alloc (by omega) (.cells #[.string tk.1] 9)).grown hgrow3 (by simp;omega) (fun q hq=>(hown.lt q hq).1);go_wp2_with fail;go_roundg (x.tokens.length - (m+1))
      case measure=>omega
      case rel=>exact⟨m+1,sn++[tk.1],by omega,by go_num,hb4,by simpa using hown3,by rw[List.length_append,List.length_singleton];omega,HD3⟩
    ·have:m=x.tokens.length:=by omega
     subst this;have hd2:=HD2.out;rw[List.drop_length,List.map_nil,List.nil_append]at hd2;rw[List.drop_length,List.length_nil]at hcnt;have HD3:Hid _:=hd2;clear hd2 HD2;go_wp2_with fail;go_roundg (g.levels.length - (j+1))
     case measure=>omega
     case rel=>exact⟨j+1,sn,by omega,by go_num,hbr,hown,by omega,HD3⟩
  ·have:j=g.levels.length:=by omega
   subst this;have hd2:=HD.out;rw[List.drop_length]at hd2;have HD3:Hid (bS [] (iC g)=none):=hd2;clear hd2 HD hown hcnt;go_wp2_with fail;have HR:Hid (bS [] (lQ g)=bS ((aG g).take 0) ((lQ g).drop 0)):=rfl;clear kD oJ g0 g1 hk
   go_loopg [7] g.rules.length (fun k i wr=>∃ (j:Nat),j+k=g.rules.length/\i=.int .i64 j/\Below W.heap.size W wr/\Hid (bS [] (lQ g)=bS ((aG g).take j) ((lQ g).drop j)))
   case atStart=>exact⟨0,by omega,rfl,hbz,HR⟩
   case round =>
    clear HR;obtain⟨j,hk,rfl,hbr,HR⟩:=hrel;have nY:Below w.heap.size w wr:=hB.trans (hbr.mono (by omega));have qo:=hbr.size;have jl:aj wr w.heap.size _ 49:=(hbr.block _ (by omega)).trans kG;have xO:aj wr (w.heap.size+1) _ 74:=(hbr.block _ (by omega)).trans kR;have g0:wr.cell? ⟨w.heap.size,0,none⟩=some (.slice a' g.levels.length c'):=jl.cell 0;have g1:wr.cell? ⟨w.heap.size,1,none⟩=some (.slice a g.rules.length c):=jl.cell 1
    by_cases hlt:j<g.rules.length
    ·obtain⟨gb,cap,va,hv,hF,hA,d0,d1,d2⟩:=(h.below nY).rule hlt
     cases hv;have hdup:=ah2 hlt;have lD:gb<wr.heap.size:=(h.below nY).lt gb hF;have lG:w.heap.size<wr.heap.size:=by omega
     have hdg:=h.below nY;generalize g.rules[j]=x at d0 d1 d2 hdup;have r:=zZ (aG g) x.name;have hln:(aG g).length=g.rules.length:=by simp[aG]
     by_cases hin:bA (aG g) x.name<(j:Int)
     ·have HR2:Hid (bS [] (lQ g)=some x.place):=HR.out.trans (hdup.1 hin)
      clear hdup HR;go_wp2_with fail
      go_region_law (have q1:=BS (hdg.below (w':=wr.drew) ⟨rfl,rfl,rfl,lr0,fun _ _=>rfl⟩) x.name;rw[show uw g=aG g from rfl]at q1;refine mZ rfl 107 #[.agg #[.slice a' g.levels.length c',.slice (some ⟨gb,0,none⟩) g.rules.length c],.string x.name] (by go_simp) q1 ?_;rintro e w1 ⟨rfl,hb1⟩;refine⟨_,rfl,?_⟩)
      all_goals
       have hb6:Below wr.heap.size wr w1:=(Below.refl _ wr).drew.trans hb1;have iK:aj w1 (w.heap.size+1) _ 74:=(hb6.block _ (by omega)).trans xO;have dG:aj w1 w.heap.size _ 49:=(hb6.block _ (by omega)).trans jl;have m1:w1.cell? ⟨w.heap.size,1,none⟩=some (.slice (some ⟨gb,0,none⟩) g.rules.length c):=dG.cell 1;have m2:w1.cell? ⟨gb,j*3+2,none⟩=some (.int .i64 (x.place:Int)):=(World.cell?_of_block (w:=wr) (hb6.block gb lD)).trans d2;have r0:w1.cell? ⟨w.heap.size+1,0,none⟩=some (.int .i64 0):=iK.cell 0;have r1:w1.cell? ⟨w.heap.size+1,1,none⟩=some (.int .i64 0):=iK.cell 1;have f0:∀ j,w1.frozen? ⟨w.heap.size+1,j,none⟩=false:=iK.frozen;have qB:=(nY.trans (hb6.mono (by omega))).uG (Nat.le_succ w.heap.size) (.int .i64 4) (.int .i64 (x.place:Int));go_wp2_with fail;refine bodyPost_ret (v:=.agg #[.int .i64 4,.int .i64 (x.place:Int)]) (by simp[results,results59,go_sem,r0,r1]) rfl ⟨?_,?_⟩
       ·rw[HD3.out,HR2.out];rfl
       ·exact qB
     ·have HR2:Hid (bS [] (lQ g)=bS ((aG g).take (j+1)) ((lQ g).drop (j+1))):=HR.out.trans (hdup.2 hin)
      clear hdup HR;go_wp2_with fail
      go_region_law (have q1:=BS (hdg.below (w':=wr.drew) ⟨rfl,rfl,rfl,lr0,fun _ _=>rfl⟩) x.name;rw[show uw g=aG g from rfl]at q1;refine mZ rfl 107 #[.agg #[.slice a' g.levels.length c',.slice (some ⟨gb,0,none⟩) g.rules.length c],.string x.name] (by go_simp) q1 ?_;rintro e w1 ⟨rfl,hb1⟩;refine⟨_,rfl,?_⟩)
      all_goals
       have hb6:Below wr.heap.size wr w1:=(Below.refl _ wr).drew.trans hb1;go_wp2_with fail;go_roundg (g.rules.length - (j+1))
       case measure=>omega
       case rel=>exact⟨j+1,by omega,by go_num,hbr.trans (hb6.mono qo),HR2⟩
    ·have:j=g.rules.length:=by omega
     subst this;have hr2:=HR.out;rw[List.drop_eq_nil_of_le (by simp[lQ])]at hr2;have HR2:Hid (bS [] (lQ g)=none):=hr2;clear hr2 HR;have r0:wr.cell? ⟨w.heap.size+1,0,none⟩=some (.int .i64 0):=xO.cell 0;have r1:wr.cell? ⟨w.heap.size+1,1,none⟩=some (.int .i64 0):=xO.cell 1;have f0:∀ j,wr.frozen? ⟨w.heap.size+1,j,none⟩=false:=xO.frozen;go_wp2_with fail;refine bodyPost_ret (v:=.agg #[.int .i64 0,.int .i64 0]) (by simp[results,results59,go_sem,r0,r1]) rfl ⟨?_,?_⟩
     ·rw[HD3.out,HR2.out];rfl
     ·exact nY.uG (Nat.le_succ _) _ _
theorem Tryz.QO:(prog.info? 4).map (fun i=>(i.zero,i.size,i.bytes))=some (some (.bool false),1,1):=by kernel_rfl
theorem OV (n:Nat):madeCells #[.bool false] (n*1)=aL (List.replicate n false):=by
 unfold madeCells aL;apply Array.ext
 ·simp
 ·intro i h1 h2
  simp[Nat.mod_one]
theorem OW {n:Nat}(hn:n<=2001)(w:World):(Instr.makeSlice 39 (.int .i64 (n:Int)) (.int .i64 (n:Int))).run prog w=.ok (.slice (some ⟨w.heap.size,0,none⟩) n n) (w.alloc (.cells (aL (List.replicate n false)) 4)):=by
 obtain⟨i0,hi,hz0,hz1,hz2⟩:=info_parts Tryz.QO;have h:=run_make (P:=prog) w 39 4 i0 _ (by kernel_rfl) hi hz0 .i64 .i64 (n:Int) (n:Int) (by omega) (Int.le_refl _) (by rw[hz2];omega) (by omega);rw[h,Int.toNat_natCast,hz1];have e:Value.cells (.bool false)=#[.bool false]:=rfl;rw[e,OV]
namespace Lx
def eF:List Rl->List Bool->Option Nat
 | r::rs,b::bs=>if b=true then eF rs bs else some r.place
 | _,_=>none
theorem U1 {rs:List Rl}{bs:List Bool}{i:Nat}(hr:i<rs.length)(hb:i<bs.length):(au bs i=true->eF (rs.drop i) (bs.drop i)=eF (rs.drop (i+1)) (bs.drop (i+1)))/\(au bs i=false->eF (rs.drop i) (bs.drop i)=some rs[i].place):=by
 rw[List.drop_eq_getElem_cons hr,List.drop_eq_getElem_cons hb];have e:au bs i=bs[i]:=by simp[au,hb]
 rw[e];constructor
 ·intro h;rw[eF,if_pos h]
 ·intro h;rw[eF,if_neg (by rw[h];decide)]
def xC (g:Gr):List Bool:=iter (jq (jX g) g.rules.length 0) (g.rules.length+1) ((List.replicate g.rules.length false).set 0 true)
def vM (g:Gr):List Bool:=iter (jq (mo g) g.rules.length 0) (g.rules.length+1) (List.replicate g.rules.length false)
def pu (g:Gr):Option Nat:=(bS [] (iC g)).or (bS [] (lQ g))
def qp (g:Gr):Option Nat:=yC (aG g) (iD g) g.rules
def iL (n:Nat)(o:Option Nat)(r:Nat × Nat):Nat × Nat :=
 match o with
 | some p=>(n,p)
 | none=>r
def dF (g:Gr):Nat × Nat:=iL 4 (pu g) (iL 5 (qp g) (iL 6 (eF g.rules (xC g)) (iL 7 (eF g.rules (vM g)) (0,0))))
theorem ag2 {g:Gr}{rs:List Rl}{i:Nat}(hi:i<rs.length):yC (aG g) (iD g) (rs.drop i)=(unk g (dD 9 rs[i].alts)).or (yC (aG g) (iD g) (rs.drop (i+1))):=by
 rw[List.drop_eq_getElem_cons hi];rfl
theorem GX {g:Gr}:∀ {rs:List Rl},yC (aG g) (iD g) rs=none->∀ r∈rs,unk g (dD 9 r.alts)=none
 | [],_,_,h=>by cases h
 | r::rs,h,x,hx=>by
  rw[yC]at h;cases h1:l9 (aG g) (iD g) (dD 9 r.alts) with
  | some p=>rw[h1]at h;cases h
  | none =>
   rw[h1]at h;rcases List.mem_cons.1 hx with rfl | hx
   ·exact h1
   ·exact GX h x hx
theorem Gz {step:Nat->List Bool->List Bool}:∀ (k i:Nat) (bs:List Bool),jq step (k+1) i bs=step (i+k) (jq step k i bs)
 | 0,i,bs=>rfl
 | k+1,i,bs=>by
  rw[jq,Gz k (i+1) (step i bs),jq,show i+1+k=i+(k+1) by omega]
theorem Ph {σ:Type} (R:σ->σ):∀ (k:Nat) (s:σ),iter R (k+1) s=R (iter R k s)
 | 0,_=>rfl
 | k+1,s=>by rw[iter,Ph R k (R s),iter]
theorem GU {g:Gr}{i:Nat}(hi:i<g.rules.length):jD g i=g.rules[i].alts:=by simp[jD,hi]
theorem afr {g:Gr}{i:Nat}{bs:List Bool}(hi:i<g.rules.length)(h:au bs i=true):jX g i bs=ja (aG g) (qL 9 g.rules[i].alts) bs:=by
 rw[jX,if_pos h,GU hi];rfl
theorem ae6 {g:Gr}{i:Nat}{bs:List Bool}(h:au bs i=false):jX g i bs=bs:=by
 rw[jX,if_neg (by rw[h];decide)]
theorem WG {g:Gr}{i:Nat}{bs:List Bool}(hi:i<g.rules.length)(hb:i<bs.length):mo g i bs=bs.set i (au bs i || ig (dK g bs) 9 g.rules[i].alts):=by
 rw[mo,GU hi];cases h:ig (dK g bs) 9 g.rules[i].alts with
 | true=>rw[if_pos rfl,Bool.or_true]
 | false =>
  rw[if_neg (by decide),Bool.or_false];have e:au bs i=bs[i]:=by simp[au,hb]
  rw[e,List.set_getElem_self]
theorem Vj (g:Gr)(i:Nat)(bs:List Bool):(jX g i bs).length=bs.length:=((KQ g).le i bs).1.symm
def aX:Nat->List Alt->List It
 | 0,_=>[]
 | d+1,l=>l.flatMap fun a=>a.1.flatMap fun x=>x::aX d x.alts
def iP:Nat->List Alt->Nat
 | 0,_=>0
 | d+1,l=>(l.map fun a=>1+(a.1.map fun x=>1+iP d x.alts).sum).sum
def nA (d:Nat)(x:It):List It:=x::aX d x.alts
def Cn (d:Nat)(x:It):Nat:=1+iP d x.alts
def nC (d:Nat)(l:List It):List It:=l.flatMap (nA d)
def sN (d:Nat)(l:List It):Nat:=(l.map (Cn d)).sum
theorem rH (d:Nat)(l:List Alt):aX (d+1) l=l.flatMap fun a=>nC d a.1:=rfl
theorem BU (d:Nat)(l:List Alt):iP (d+1) l=(l.map fun a=>1+sN d a.1).sum:=rfl
theorem EB:∀ d,aX d []=[]
 | 0=>rfl
 | _+1=>rfl
theorem Xx:∀ d,iP d []=0
 | 0=>rfl
 | _+1=>rfl
def bZ (ts ts':List Tk)(l:List It)(n k:Nat):Prop:=∃ pre,ts=pre++ts'/\(l.map It.place).Sublist (pre.map Prod.snd)/\n<=pre.length+k
theorem bZ.refl (ts:List Tk):bZ ts ts [] 0 0:=⟨[],rfl,List.Sublist.refl _,lr0⟩
theorem bZ.trans {a b c:List Tk}{l m:List It}{n n' k k':Nat}(h:bZ a b l n k)(h':bZ b c m n' k'):bZ a c (l++m) (n+n') (k+k'):=by
 obtain⟨p,rfl,h2,h3⟩:=h;obtain⟨q,rfl,h5,h6⟩:=h';refine⟨p++q,by simp,?_,by simp;omega⟩;rw[List.map_append,List.map_append];exact h2.append h5
theorem bZ.less {a b:List Tk}{l:List It}{n n' k k':Nat}(h:bZ a b l n k)(hn:n'+k<=n+k'):bZ a b l n' k':=by
 obtain⟨p,e,h2,h3⟩:=h;exact⟨p,e,h2,by omega⟩
theorem Li {ts:List Tk}(h:hd ts≠aM):ts=(hd ts,pl ts)::ts.tail:=by
 cases ts with
 | nil=>exact absurd rfl h
 | cons t ts=>rfl
theorem bZ.pass {ts:List Tk}(h:hd ts≠aM):bZ ts ts.tail [] 1 0:=⟨[(hd ts,pl ts)],Li h,List.nil_sublist _,lr0⟩
theorem bZ.item {ts:List Tk}(h:hd ts≠aM){x:It}(hx:x.place=pl ts):bZ ts ts.tail [x] 1 0:=⟨[(hd ts,pl ts)],Li h,by rw[<-hx];exact List.Sublist.refl _,lr0⟩
theorem EH {b:ByteArray}(p:Int->Bool)(h:isWord p b=true):b≠aM:=by
 rintro rfl;simp[isWord,aM,ByteArray.size]at h
theorem OX (ts:List Tk):bZ ts (bK ts).2 [] 0 0:=by
 unfold bK
 split
 ·rename_i h;exact (bZ.pass (by rw[h];decide)).less (by omega)
 ·split
  ·rename_i h;exact (bZ.pass (by rw[h];decide)).less (by omega)
  ·split
   ·rename_i h;exact (bZ.pass (by rw[h];decide)).less (by omega)
   ·exact bZ.refl _
def EJ (d:Nat)(aF:List Tk->aV (List Alt)):Prop:=∀ ts l ts',aF ts=.ok (l,ts')->bZ ts.tail ts' (aX d l) (iP d l) 0
theorem af9 {d:Nat}{aF:List Tk->aV (List Alt)}(hg:EJ d aF){ts ts':List Tk}{x:It}(h:dh aF ts=.ok (x,ts')):bZ ts ts' (nA d x) (Cn d x) 0:=by
 unfold dh at h
 split at h
 ·rename_i ho
  split at h
  ·cases h
  ·rename_i alts aC hq
   cases h;have h1:=(bZ.item (ts:=ts) (by rw[ho];decide) (x:=⟨2,aM,(bK aC).1,alts,pl ts⟩) rfl).trans ((hg _ _ _ hq).trans (OX aC));rw[List.append_nil]at h1;exact h1
 ·split at h
  ·rename_i hn
   cases h;have h1:=(bZ.item (ts:=ts) (EH _ hn) (x:=⟨0,hd ts,(bK ts.tail).1,[],pl ts⟩) rfl).trans (OX ts.tail);rw[List.append_nil]at h1;simpa [nA,Cn,EB,Xx]using h1
  ·split at h
   ·rename_i hn
    cases h;have h1:=(bZ.item (ts:=ts) (EH _ hn) (x:=⟨1,hd ts,(bK ts.tail).1,[],pl ts⟩) rfl).trans (OX ts.tail);rw[List.append_nil]at h1;simpa [nA,Cn,EB,Xx]using h1
   ·cases h
theorem VU {d:Nat} {aF:List Tk->aV (List Alt)} (hg:EJ d aF):∀ (f:Nat) (ts:List Tk) (a x:List It) (ts':List Tk),dU aF f ts a=.ok (x,ts')->∃ y,x=a++y/\bZ ts ts' (nC d y) (sN d y) 0
 | 0,ts,a,x,ts',h=>by
  cases h;exact⟨[],by simp,bZ.refl _⟩
 | f+1,ts,a,x,ts',h=>by
  unfold dU at h
  split at h
  ·split at h
   ·cases h
   ·rename_i z t1 hz
    obtain⟨y,e,h2⟩:=VU hg f t1 _ x ts' h;refine⟨z::y,by rw[e];simp,?_⟩;exact (af9 hg hz).trans h2
  ·cases h
   exact⟨[],by simp,bZ.refl _⟩
theorem Xy {d:Nat}{aF:List Tk->aV (List Alt)}(hg:EJ d aF){top:Bool}{ts ts':List Tk}{x:Alt}(h:dJ aF top ts=.ok (x,ts')):bZ ts ts' (nC d x.1) (1+sN d x.1) 1:=by
 unfold dJ at h
 split at h
 ·cases h
 ·rename_i its t1 hi
  obtain⟨y,e,h2⟩:=VU hg _ _ _ _ _ hi;rw[List.nil_append]at e;subst e;unfold mq at h
  split at h
  ·rename_i hp
   split at h
   ·cases h
   ·rename_i b t2 hb
    cases h;obtain⟨rfl,rfl,hk⟩:=mY hb;have h3:=h2.trans ((bZ.pass (ts:=t1) (by rw[hp.2];decide)).trans (bZ.pass (EH _ hk)));simp only[List.append_nil]at h3;refine bZ.less h3 ?_;show 1+sN d its+_<=_;omega
  ·cases h
   refine bZ.less h2 ?_;show 1+sN d its+_<=_;omega
theorem WH {d:Nat} {aF:List Tk->aV (List Alt)} (hg:EJ d aF) {top:Bool}:∀ (f:Nat) (ts:List Tk) (a x:List Alt) (ts':List Tk),iZ aF top f ts a=.ok (x,ts')->∃ y,x=a++y/\bZ ts ts' (aX (d+1) y) (iP (d+1) y) 0
 | 0,ts,a,x,ts',h=>by
  cases h;exact⟨[],by simp,bZ.refl _⟩
 | f+1,ts,a,x,ts',h=>by
  unfold iZ at h
  split at h
  ·rename_i hb
   split at h
   ·cases h
   ·rename_i z t1 hz
    obtain⟨y,e,h2⟩:=WH hg f t1 _ x ts' h;refine⟨z::y,by rw[e];simp,?_⟩;have h3:=(bZ.pass (ts:=ts) (by rw[hb];decide)).trans ((Xy hg hz).trans h2);rw[List.nil_append]at h3;rw[rH,BU,List.flatMap_cons,List.map_cons,List.sum_cons,<-rH,<-BU];exact h3.less (by omega)
  ·cases h
   exact⟨[],by simp,bZ.refl _⟩
theorem Vk {d:Nat}{aF:List Tk->aV (List Alt)}(hg:EJ d aF){top:Bool}{ts ts':List Tk}{x:List Alt}(h:ni aF top ts=.ok (x,ts')):bZ ts ts' (aX (d+1) x) (iP (d+1) x) 1:=by
 unfold ni at h
 split at h
 ·cases h
 ·rename_i z t1 hz
  obtain⟨y,e,h2⟩:=WH hg _ _ _ _ _ h;subst e;have h3:=(Xy hg hz).trans h2;rw[List.cons_append,List.nil_append,rH,BU,List.flatMap_cons,List.map_cons,List.sum_cons,<-rH,<-BU];exact h3.less (by omega)
theorem afs {d:Nat}{r:List Tk->aV (List Alt)}(hr:∀ ts l ts',r ts=.ok (l,ts')->bZ ts ts' (aX d l) (iP d l) 1):EJ d (mK r):=by
 intro ts l ts' h;unfold mK at h
 split at h
 ·cases h
 ·rename_i l1 t1 h1
  split at h
  ·cases h
  ·rename_i u t2 h2
   cases h;obtain⟨rfl,hs⟩:=wY h2;have h3:=(hr _ _ _ h1).trans (bZ.pass (ts:=t1) (by rw[hs];decide));rw[List.append_nil]at h3;exact h3.less (by omega)
theorem WI:∀ (d:Nat) (ts:List Tk) (l:List Alt) (ts':List Tk),iN d ts=.ok (l,ts')->bZ ts ts' (aX (d+1) l) (iP (d+1) l) 1
 | 0,ts,l,ts',h=>Vk (d:=0) (fun _ _ _ h=>by cases h) h
 | d+1,ts,l,ts',h=>Vk (afs (WI d)) h
theorem WJ {ts ts':List Tk}{x:Rl}(h:dI ts=.ok (x,ts')):bZ ts ts' (aX 9 x.alts) (1+iP 9 x.alts) 0:=by
 unfold dI at h
 split at h
 ·cases h
 ·rename_i n t1 h1
  obtain⟨rfl,rfl,hk⟩:=mY h1
  split at h
  ·cases h
  ·rename_i u t2 h2
   obtain⟨rfl,he⟩:=wY h2
   split at h
   ·cases h
   ·rename_i l t3 h3
    split at h
    ·cases h
    ·rename_i u4 t4 h4
     obtain⟨rfl,hs⟩:=wY h4;cases h;have h5:=(bZ.pass (ts:=ts) (EH _ hk)).trans ((bZ.pass (ts:=ts.tail) (by rw[he];decide)).trans ((WI 8 _ _ _ h3).trans (bZ.pass (ts:=t3) (by rw[hs];decide))));rw[List.append_nil,List.nil_append,List.nil_append]at h5;refine bZ.less h5 ?_;show 1+iP 9 l+_<=1+(1+(iP 9 l+1))+_;omega
def Ie (rs:List Rl):List It:=rs.flatMap fun r=>aX 9 r.alts
def uz (rs:List Rl):Nat:=(rs.map fun r=>1+iP 9 r.alts).sum
theorem OH:∀ (f:Nat) (ts:List Tk) (a x:List Rl) (ts':List Tk),iE f ts a=.ok (x,ts')->∃ y,x=a++y/\bZ ts ts' (Ie y) (uz y) 0
 | 0,ts,a,x,ts',h=>by
  cases h;exact⟨[],by simp,bZ.refl _⟩
 | f+1,ts,a,x,ts',h=>by
  unfold iE at h
  split at h
  ·cases h
   exact⟨[],by simp,bZ.refl _⟩
  ·split at h
   ·cases h
   ·rename_i z t1 hz
    obtain⟨y,e,h2⟩:=OH f t1 _ x ts' h;exact⟨z::y,by rw[e];simp,(WJ hz).trans h2⟩
theorem Vl:∀ (f:Nat) (ts a x:List Tk) (ts':List Tk),iX f ts a=.ok (x,ts')->∃ pre,ts=pre++ts'/\x.length<=a.length+pre.length
 | 0,ts,a,x,ts',h=>by cases h;exact⟨[],rfl,lr0⟩
 | f+1,ts,a,x,ts',h=>by
  unfold iX at h
  split at h
  ·rename_i hs
   cases h;exact⟨[(hd ts,pl ts)],Li (by rw[hs];decide),by simp⟩
  ·split at h
   ·cases h
   ·rename_i b t1 h1
    obtain⟨rfl,rfl,hk⟩:=mY h1;obtain⟨pre,e,h2⟩:=Vl f _ _ _ _ h;refine⟨(hd ts,pl ts)::pre,?_,by simp at h2 |-;omega⟩;rw[List.cons_append,<-e];exact Li (EH _ hk)
def xD (ls:List Lv):Nat:=(ls.map fun l=>1+l.tokens.length).sum
theorem Oz {b:ByteArray}(h:0<=fM b):b≠aM:=by
 rintro rfl;exact absurd h (by decide)
theorem Vm:∀ (f:Nat) (ts:List Tk) (a x:List Lv) (ts':List Tk),fP f ts a=.ok (x,ts')->∃ y,x=a++y/\bZ ts ts' [] (xD y) 0
 | 0,ts,a,x,ts',h=>by
  cases h;exact⟨[],by simp,bZ.refl _⟩
 | f+1,ts,a,x,ts',h=>by
  unfold fP at h
  split at h
  ·rename_i hk
   split at h
   ·cases h
   ·rename_i z t1 hz
    obtain⟨y,e,h2⟩:=Vm f t1 _ x ts' h;refine⟨z::y,by rw[e];simp,?_⟩;unfold gZ at hz
    split at hz
    ·cases hz
    ·rename_i b t2 hb
     obtain⟨rfl,rfl,hw⟩:=mY hb
     split at hz
     ·cases hz
     ·rename_i l t3 h3
      cases hz;obtain⟨pre,e3,h4⟩:=Vl _ _ _ _ _ h3;have h5:bZ ts.tail.tail t1 [] pre.length 0:=⟨pre,e3,List.nil_sublist _,lr0⟩;have h6:=(bZ.pass (ts:=ts) (Oz hk)).trans ((bZ.pass (ts:=ts.tail) (EH _ hw)).trans (h5.trans h2));refine bZ.less h6 ?_;simp only[xD,List.map_cons,List.sum_cons,List.length_cons,List.length_nil]at h4 |-;omega
  ·cases h
   exact⟨[],by simp,bZ.refl _⟩
theorem aeO {ts ts':List Tk}{g:Gr}(h:gX ts=.ok (g,ts')):bZ ts ts' (Ie g.rules) (xD g.levels+uz g.rules) 0:=by
 unfold gX at h
 split at h
 ·cases h
 ·rename_i lv t1 h1
  split at h
  ·cases h
  ·rename_i x t2 h2
   split at h
   ·cases h
   ·rename_i l t3 h3
    cases h;obtain⟨y,e,k1⟩:=Vm _ _ _ _ _ h1;obtain⟨z,e',k2⟩:=OH _ _ _ _ _ h3;rw[List.nil_append]at e;subst e e';exact k1.trans ((WJ h2).trans k2)
theorem WK (s:ByteArray):∀ (f i:Nat),i<=s.size->(∀ t∈mO s f i,i<=t.2)/\(mO s f i).Pairwise fun a b=>a.2<b.2
 | 0,i,hi=>by
  unfold mO;exact⟨fun t ht=>by simp at ht;subst ht;exact lr0,List.pairwise_singleton _ _⟩
 | f+1,i,hi=>by
  unfold mO
  split
  ·rename_i hlt
   have hn:=GK hlt;obtain⟨h1,h2⟩:=WK s f (oZ s i) hn.2;refine⟨fun t ht=>?_,List.pairwise_cons.2 ⟨fun t ht=>?_,h2⟩⟩
   ·rcases List.mem_cons.1 ht with rfl | ht
    ·exact lr0
    ·have:=h1 t ht;omega
   ·have:=h1 t ht
    show i<t.2;omega
  ·exact⟨fun t ht=>by simp at ht;subst ht;exact lr0,List.pairwise_singleton _ _⟩
theorem ah3 (s:ByteArray):(lex s).Pairwise fun a b=>a.2<b.2:=(WK s _ _ (GJ false (Nat.zero_le _)).2).2
theorem Ku {s:ByteArray}{g:Gr}(h:parse s=.ok g):xD g.levels+uz g.rules<=2001/\((Ie g.rules).map It.place).Pairwise (·< ·):=by
 unfold parse at h
 split at h
 ·cases h
 ·rename_i hs
  split at h
  ·cases h
  ·rename_i g' ts' hp
   cases h;obtain⟨pre,e,h1,h2⟩:=aeO hp;have hl:=GL s (aW s 0 false);have hr:=ah3 s;have e2:oC s (aW s 0 false)=pre++ts':=e;rw[e2,List.length_append]at hl;rw[e]at hr;refine⟨by omega,?_⟩;have h3:(pre.map Prod.snd).Pairwise (·< ·):=List.pairwise_map.2 (List.pairwise_append.1 hr).1;exact h3.sublist h1
def hlp (x:It):Bool:=decide (x.kind=2) || decide (x.mark≠0)
def aH (d:Nat)(l:List Alt):List It:=(aX d l).filter hlp
def uJ (d:Nat)(x:It):List It:=(if hlp x=true then [x] else [])++aH d x.alts
def jS (d:Nat)(l:List It):List It:=l.flatMap (uJ d)
theorem ah4 (d:Nat)(x:It):(nA d x).filter hlp=uJ d x:=by
 unfold nA uJ aH;rw[List.filter_cons]
 split <;> simp
theorem BL {α β:Type} (p:β->Bool) (f:α->List β):∀ l:List α,(l.flatMap f).filter p=l.flatMap fun a=>(f a).filter p
 | []=>rfl
 | a::l=>by rw[List.flatMap_cons,List.filter_append,BL p f l,List.flatMap_cons]
theorem ag3 (d:Nat)(l:List Alt):aH (d+1) l=l.flatMap fun a=>jS d a.1:=by
 unfold aH jS;rw[rH,BL];congr 1;funext a;unfold nC;rw[BL];congr 1;funext x;exact ah4 d x
theorem PW:∀ (d:Nat) (l:List Alt),(aX d l).length<=iP d l
 | 0,_=>lr0
 | d+1,l=>by
  rw[rH,BU,List.length_flatMap];have h1:∀ its:List It,(nC d its).length<=sN d its:=by
   intro its;unfold nC sN;rw[List.length_flatMap]
   induction its with
   | nil=>exact lr0
   | cons x its ih =>
    rw[List.map_cons,List.map_cons,List.sum_cons,List.sum_cons];have:=PW d x.alts;simp only[nA,Cn,List.length_cons]at *;omega
  induction l with
  | nil=>exact lr0
  | cons a l ih =>
   rw[List.map_cons,List.map_cons,List.sum_cons,List.sum_cons];have:=h1 a.1;omega
theorem Yv (d:Nat)(l:List Alt):(aH d l).length<=iP d l:=Nat.le_trans (List.length_filter_le _ _) (PW d l)
def jb (d:Nat)(l:List Alt):List ByteArray:=((aX d l).filter fun x=>decide (x.kind=1)).map It.name
def mQ (d:Nat)(x:It):List ByteArray:=(if x.kind=1 then [x.name] else [])++jb d x.alts
theorem OY (d:Nat)(l:List Alt):jb (d+1) l=l.flatMap fun a=>a.1.flatMap (mQ d):=by
 unfold jb;rw[rH,BL,List.map_flatMap];congr 1;funext a;unfold nC;rw[BL,List.map_flatMap];congr 1;funext x;unfold nA mQ jb;rw[List.filter_cons]
 by_cases h:x.kind=1
 ·simp[h]
 ·simp[h]
theorem ag4 (d:Nat)(l:List Alt):(jb d l).length<=iP d l:=by
 unfold jb;rw[List.length_map];exact Nat.le_trans (List.length_filter_le _ _) (PW d l)
def iY:ByteArray:=⟨#[36]⟩
def xA:ByteArray:=⟨#[36,115,116,97,114,116]⟩
def aah:ByteArray:=⟨#[39]⟩
def iM (l:List ByteArray)(b:ByteArray):List ByteArray:=if 0<=bA l b then l else l++[b]
theorem OZ (l:List ByteArray)(b:ByteArray):(iM l b).length<=l.length+1:=by
 unfold iM;split
 ·omega
 ·simp
def bQ (l bs:List ByteArray):List ByteArray:=bs.foldl iM l
theorem Kk:∀ (bs l:List ByteArray),(bQ l bs).length<=l.length+bs.length
 | [],l=>lr0
 | b::bs,l=>by
  have h1:=Kk bs (iM l b);have h2:=OZ l b;rw[List.length_cons];have:bQ l (b::bs)=bQ (iM l b) bs:=rfl;rw[this];omega
theorem Eo (l a b:List ByteArray):bQ l (a++b)=bQ (bQ l a) b:=List.foldl_append
def qw (n:Nat):ByteArray:=⟨(Lib.decDigits n).toArray⟩
def hName (b:ByteArray)(k:Nat):ByteArray:=b++aah++qw k
def fQ (r:Rl):List ByteArray:=r.name::(List.range (aH 9 r.alts).length).map fun k=>hName r.name (k+1)
def aA (g:Gr):List ByteArray:=bQ [iY] (iD g++g.rules.flatMap fun r=>jb 9 r.alts)
def aN (g:Gr):List ByteArray:=xA::g.rules.flatMap fQ
structure Pd where
 left:Nat
 right:List Nat
 prec:Int
def j5 (n:Nat)(r:List Nat):Int:=r.foldl (fun p s=>if s<n then (s:Int) else p) (-1)
def aS (n s:Nat)(r:List Nat):Pd:=⟨s,r,j5 n r⟩
def fU (T N:List ByteArray)(x:It):Nat:=if x.kind=1 then fix T x.name else T.length+fix N x.name
def qO (H:List It)(p:Nat):Nat:=H.findIdx fun x=>decide (x.place=p)
def fT (T N:List ByteArray)(b:Nat)(H:List It)(x:It):Nat:=if hlp x=true then b+1+qO H x.place else fU T N x
def gY (T N:List ByteArray)(b:Nat)(H:List It)(its:List It):List Nat:=its.map (fT T N b H)
def jF (T N:List ByteArray)(b:Nat)(H:List It)(a:Alt):Pd:=⟨b,gY T N b H a.1,if a.2.1=aM then j5 T.length (gY T N b H a.1) else (fix T a.2.1:Int)⟩
def partsOf (T N:List ByteArray)(b:Nat)(H:List It)(x:It):List (List Nat):=if x.kind=2 then x.alts.map fun a=>gY T N b H a.1 else [[fU T N x]]
def iH (n s m:Nat)(ps:List (List Nat)):List Pd:=(if m=42\/m=63 then [aS n s []] else [])++((if m=42 then [] else ps.map (aS n s))++(if m=42\/m=43 then ps.map fun r=>aS n s (s::r) else []))
def jZ (T N:List ByteArray) (b:Nat) (H:List It):Nat->List It->List Pd
 | _,[]=>[]
 | k,x::l=>iH T.length (b+1+k) x.mark (partsOf T N b H x)++jZ T N b H (k+1) l
def ny (T N:List ByteArray)(b:Nat)(r:Rl):List Pd:=r.alts.map (jF T N b (aH 9 r.alts))++jZ T N b (aH 9 r.alts) 0 (aH 9 r.alts)
def gQ (T N:List ByteArray):Nat->List Rl->List Pd
 | _,[]=>[]
 | b,r::rs=>ny T N b r++gQ T N (b+1+(aH 9 r.alts).length) rs
def aU (g:Gr):List Pd:=⟨(aA g).length,[(aA g).length+1],-1⟩::gQ (aA g) (aN g) ((aA g).length+1) g.rules
def bk (t:ByteArray):Nat->List Lv->Nat × Nat->Nat × Nat
 | _,[],r=>r
 | i,l::ls,r=>bk t (i+1) ls (if 0<=bA (l.tokens.map Prod.fst) t then (i+1,l.kind) else r)
def dP (g:Gr)(t:ByteArray):Nat × Nat:=bk t 0 g.levels (0,0)
end Lx
theorem Pj {w:World} {mb:Nat} {vT vN vP vB vK vH vL:Value} (k:aj w mb #[vT,vN,vP,vB,vK,vH,vL] 135) {T:List ByteArray} (hT:w.ownsRow 0 9 1 vT T.length (T.map Value.string)) (b:ByteArray) (hb:0<=bA T b) :
  Calls prog 63 #[.pointer (some ⟨mb,0,none⟩),.string b] w fun e w'=>e=.returned (.int .i64 (Lx.fix T b:Int))/\Below w.heap.size w w':=by
 obtain⟨a,c,hv,hm⟩:=aI hT;subst hv;unfold maxLen at hm;have hf:=uo hb;obtain⟨hf1,hf2⟩:=hf;clear hb;have c0:w.cell? ⟨mb,0,none⟩=some (.slice a T.length c):=k.cell 0;go_enter func63,ntmps63;go_wp2_with fail;refine (Ez T b _ w hT).mono ?_;rintro e w1 ⟨rfl,hb1⟩;rw[hf1];go_wp2_with fail;go_ret;exact⟨rfl,hb1⟩
structure Fr (X:Nat->Prop) (w:World) (X':Nat->Prop) (w':World):Prop where
 os:w'.os=w.os
 tape:w'.tape=w.tape
 output:w'.output=w.output
 size:w.heap.size<=w'.heap.size
 block:∀ g,g<w.heap.size->¬ X g->w'.heap[g]?=w.heap[g]?
 own:∀ g,X' g->X g\/w.heap.size<=g
theorem Fr.refl (X:Nat->Prop)(w:World):Fr X w X w:=⟨rfl,rfl,rfl,lr0,fun _ _ _=>rfl,fun _ h=>.inl h⟩
theorem Fr.trans {X X' X'':Nat->Prop}{w w' w'':World}(h:Fr X w X' w')(k:Fr X' w' X'' w''):Fr X w X'' w'':=by
 refine⟨k.os.trans h.os,k.tape.trans h.tape,k.output.trans h.output,Nat.le_trans h.size k.size,fun g hg hx=>?_,fun g hg=>?_⟩
 ·refine (k.block g (Nat.lt_of_lt_of_le hg h.size) fun hx'=>?_).trans (h.block g hg hx)
  rcases h.own g hx' with h1 | h1
  ·exact hx h1
  ·omega
 ·rcases k.own g hg with h1 | h1
  ·exact h.own g h1
  ·exact .inr (Nat.le_trans h.size h1)
theorem Fr.same {X:Nat->Prop}{w w':World}(h:Below w.heap.size w w'):Fr X w X w':=⟨h.os,h.tape,h.output,h.size,fun g hg _=>h.block g hg,fun _ h=>.inl h⟩
def jy (X:Nat->Prop)(w:World)(mb:Nat)(T N:List ByteArray):Prop :=
 (∀ g,X g->g<w.heap.size)/\∃ vT vN,aj w mb #[vT,vN,.slice none 0 0,.slice none 0 0,.slice none 0 0,.slice none 0 0,.slice none 0 0] 135/\w.ownsRow 0 9 1 vT T.length (T.map Value.string)/\w.ownsRow 0 9 1 vN N.length (N.map Value.string)/\X mb/\(∀ g,vT.ownBlock=some g->X g)/\(∀ g,vN.ownBlock=some g->X g)/\vT.ownBlock≠some mb/\vN.ownBlock≠some mb/\(vT.ownBlock=none\/vT.ownBlock≠vN.ownBlock)
theorem jy.keep {X:Nat->Prop}{mb:Nat}{w w':World}{T N:List ByteArray}(h:jy X w mb T N)(hs:w.heap.size<=w'.heap.size)(hk:∀ g,X g->g<w.heap.size->w'.heap[g]?=w.heap[g]?):jy X w' mb T N:=by
 obtain⟨h0,vT,vN,h1,h2,h3,h4,h5,h6,h7⟩:=h;refine⟨fun g hg=>Nat.lt_of_lt_of_le (h0 g hg) hs,vT,vN,(hk _ h4 h1.lt).trans h1,aD h2 fun g hg=>?_,aD h3 fun g hg=>?_,h4,h5,h6,h7⟩
 ·exact hk g (h5 g hg) (h2.lt g hg).2
 ·exact hk g (h6 g hg) (h3.lt g hg).2
theorem jy.below {X:Nat->Prop}{mb:Nat}{w w':World}{T N:List ByteArray}(h:jy X w mb T N)(hb:Below w.heap.size w w'):jy X w' mb T N:=h.keep hb.size fun g _ hg=>hb.block g hg
theorem jy.lt {X:Nat->Prop}{mb:Nat}{w:World}{T N:List ByteArray}(h:jy X w mb T N):mb<w.heap.size:=by
 obtain⟨-,vT,vN,h1,-⟩:=h;exact h1.lt
theorem Xz {X:Nat->Prop} {mb:Nat} {w:World} {T N:List ByteArray} (h:jy X w mb T N) (hl:T.length<=10000) (b:ByteArray) :
  Calls prog 63 #[.pointer (some ⟨mb,0,none⟩),.string b] w fun e w'=>(∃ v,e=.returned v)/\∃ X',jy X' w' mb (iM T b) N/\Fr X w X' w':=by
 obtain⟨i0,hii,hz0,hz1,hz2⟩:=info_parts Tryz.yL;have hmb:=h.lt
 by_cases hin:0<=bA T b
 ·have e1:iM T b=T:=if_pos hin
  rw[e1];obtain⟨-,vT,vN,h1,h2,-⟩:=id h;refine (Pj h1 h2 b hin).mono ?_;rintro e w1 ⟨rfl,hb⟩;exact⟨⟨_,rfl⟩,X,h.below hb,Fr.same hb⟩
 ·have e1:iM T b=T++[b]:=if_neg hin
  rw[e1];obtain⟨hX0,vT,vN,h1,h2,h3,h4,h5,h6,h7,h8,h9⟩:=h;have hm:=aI h2;obtain⟨a,c,hv,hm⟩:=hm;subst hv;unfold maxLen at hm;have hr:=zZ T b;have c0:w.cell? ⟨mb,0,none⟩=some (.slice a T.length c):=h1.cell 0;go_enter func63,ntmps63;go_wp2_with fail;refine (Ez T b _ w h2).mono ?_;rintro e w1 ⟨rfl,hb1⟩;have hs1:=hb1.size;have k1:aj w1 mb _ 135:=(hb1.block mb (by omega)).trans h1;have d0:w1.cell? ⟨mb,0,none⟩=some (.slice a T.length c):=k1.cell 0;have o1:w1.ownsRow 0 9 1 (.slice a T.length c) T.length (T.map Value.string):=aD h2 fun g hg=>hb1.block g (h2.lt g hg).2
  have lm:mb<w1.heap.size:=by omega
  go_wp2_with (at_builtin;refine wpList_append_own_at _ rfl _ _ 22 rfl 0 9 i0 _ 1 16 underlying22 hii hz0 hz1 hz2 rfl (by decide) (.slice a T.length c) _ _ rfl (o1.alloc _) ⟨_,0,none⟩ 1 1 [.string b] rfl rfl (bP (aj.new w1 _ 9)) (by simp[Value.oneCell']) (by unfold maxLen;omega) (by omega) (by simp) ?_;intro v' w3 hown3 hgrow3 _ hat;obtain⟨a3,c3,hv3,Nk⟩:=aI hown3;subst hv3;have k3:aj w3 mb _ 135:=(k1.alloc _).grown hgrow3 (fun e=>h7 e.symm);have f3:∀ j,w3.frozen? ⟨mb,j,none⟩=false:=k3.frozen;have g0:w3.cell? ⟨mb,0,none⟩=some (.slice a T.length c):=k3.cell 0;unfold maxLen at Nk)
  go_ret;have xG:∀ g,(Value.slice a3 (T.length+1) c3).ownBlock=some g->(Value.slice a T.length c).ownBlock=some g\/w1.heap.size<g:=by
   intro g hg;rcases hat with h | h
   ·exact .inl (h ▸ hg)
   ·rw[h]at hg;simp at hg;exact .inr (by omega)
  have hX:∀ g,(Value.slice a3 (T.length+1) c3).ownBlock=some g->g≠mb/\(X g\/(w.heap.size<=g/\g<w3.heap.size)):=by
   intro g hg;rcases xG g hg with h | h
   ·exact⟨fun e=>h7 (e ▸ h),.inl (h5 g h)⟩
   ·exact⟨by omega,.inr ⟨by omega,(hown3.lt g hg).2⟩⟩
  have bk:∀ g,g<w.heap.size->g≠mb->(Value.slice a T.length c).ownBlock≠some g->(w3.setCell ⟨mb,0,none⟩ (.slice a3 (T.length+1) c3)).heap[g]?=w.heap[g]?:=by
   intro g hg h1 h2;rw[hs0 h1,hgrow3.block g (by simp;omega) (fun e=>h2 e.symm),Below.heap_alloc _ _ _ (by omega),hb1.block g hg]
  have hs3:=hgrow3.size;simp at hs3;have hse:(w3.setCell ⟨mb,0,none⟩ (.slice a3 (T.length+1) c3)).heap.size=w3.heap.size:=by simp[World.setCell]
  refine⟨⟨_,rfl⟩,fun g=>X g\/(w.heap.size<=g/\g<w3.heap.size),⟨fun g hg=>?_,.slice a3 (T.length+1) c3,vN,k3.set 0 _,?_,?_,.inl h4,fun g hg=>(hX g hg).2,fun g hg=>.inl (h6 g hg),fun e=>(hX mb e).1 rfl,h8,?_⟩,?_⟩
  ·rw[hse]
   rcases hg with h | h
   ·have:=hX0 g h;omega
   ·exact h.2
  ·have:=aD (w':=w3.setCell ⟨mb,0,none⟩ (.slice a3 (T.length+1) c3)) hown3 (fun g hg=>hs0 (hX g hg).1)
   simpa using this
  ·refine aD h3 fun g hg=>bk g (h3.lt g hg).2 (fun e=>h8 (e ▸ hg)) fun e=>?_
   rcases h9 with h | h
   ·rw[h]at e;cases e
   ·exact h (e.trans hg.symm)
  ·right
   intro e;cases hq:vN.ownBlock with
   | none =>
    rw[hq]at e;rcases hown3.2 with ⟨e1,e2⟩ | ⟨g,_,_,e1,_⟩
    ·omega
    ·rw[e1]at e;cases e
   | some g =>
    rw[hq]at e;rcases xG g e with h | h
    ·rcases h9 with h' | h'
     ·rw[h']at h;cases h
     ·exact h' (h.trans hq.symm)
    ·have:=(h3.lt g hq).2;omega
  ·refine⟨?_,?_,?_,?_,?_,fun g hg=>hg.imp_right And.left⟩
   ·exact hgrow3.os.trans hb1.os
   ·exact hgrow3.tape.trans hb1.tape
   ·exact hgrow3.output.trans hb1.output
   ·have:=hgrow3.size;simp[World.setCell]at this |-;omega
   ·exact fun g hg hx=>bk g hg (fun e=>hx (e ▸ h4)) (fun e=>hx (h5 g e))
structure Fb (P:Program) (kt:TypeId) {κ:Type} (K:κ->Value) (G:World->κ->Prop):Prop where
 inj:∀ a b,K a=K b->a=b
 check:∀ em w a,(Instr.checkKey em 10000 kt (K a)).run P w=.ok () w
 find:∀ w a l,G w a->(∀ x∈l,∃ c,x.key=K c/\G w c)->((Instr.findKey kt (K a) l).run P w=.ok none w/\∀ (x:MapEntry),x∈l->x.key≠K a)\/∃ (j:Nat) (e:MapEntry),(Instr.findKey kt (K a) l).run P w=.ok (some (j,e.val)) w/\l[j]?=some e/\e.key=K a
 stays:∀ w a,(Instr.keyThatStays (K a) (K a)).run P w=.ok (K a) w
def iT {κ:Type}(K:κ->Value)(G:κ->Prop)(w:World)(B:Nat)(f:κ->Int):Prop :=
 ∃ es clock,w.heap[B]?=some (.map es clock)/\(∀ (i:Nat) (e:MapEntry),es[i]?=some e->∃ a,e.key=K a/\G a/\e.val=.int .i64 (f a))/\(∀ (i j:Nat) (e e':MapEntry),es[i]?=some e->es[j]?=some e'->e.key=e'.key->i=j)/\(∀ a,f a≠0->∃ (i:Nat) (e:MapEntry),es[i]?=some e/\e.key=K a)
section
variable {P:Program} {kt:TypeId} {κ:Type} {K:κ -> Value} {Gw:World -> κ -> Prop} {w:World} {B:Nat} {f:κ -> Int}
theorem iT.lt {G:κ->Prop}(h:iT K G w B f):B<w.heap.size:=by
 obtain⟨es,clock,h1,-⟩:=h;exact (Array.getElem?_eq_some_iff.1 h1).1
theorem iT.move {G:κ->Prop}{w':World}(h:iT K G w B f)(hb:w'.heap[B]?=w.heap[B]?):iT K G w' B f:=by
 obtain⟨es,clock,h1,h2⟩:=h;exact⟨es,clock,hb.trans h1,h2⟩
theorem iT.made (G:κ->Prop)(w:World):iT K G (w.alloc (.map #[] 0)) w.heap.size (fun _=>0) :=
 ⟨#[],0,heap_alloc_new w _,fun i e h=>by simp at h,fun i j e e' h=>by simp at h,fun a h=>absurd rfl h⟩
theorem iT.look (hK:Fb P kt K Gw){T E:TypeId}(hT:P.underlying T=some (.map kt E))(hz:∀ w,(zeroValue E).run P w=.ok (.int .i64 0) w){G:κ->Prop}(hG:∀ a,G a->Gw w a)(h:iT K G w B f){a:κ}(ha:G a):(Instr.lookup T (.map (some B)) (K a) false).run P w=.ok (.int .i64 (f a)) w:=by
 obtain⟨es,clock,h1,h2,h3,h4⟩:=h;have hl:∀ x∈es.toList,∃ c,x.key=K c/\Gw w c:=by
  intro x hx;obtain⟨i,hi⟩:=List.mem_iff_getElem?.1 hx;obtain⟨c,hc,hg,-⟩:=h2 i x (by rw[<-Array.getElem?_toList];exact hi);exact⟨c,hc,hG _ hg⟩
 rcases hK.find w a es.toList (hG a ha) hl with ⟨hf,hn⟩ | ⟨j,e,hf,hj,hk⟩
 ·have hz0:f a=0:=by
   apply Decidable.byContradiction;intro hne;obtain⟨i,e,hi,he⟩:=h4 a hne;exact hn e (List.mem_iff_getElem?.2 ⟨i,by rw[Array.getElem?_toList];exact hi⟩) he
  rw[hz0];simp[Instr.lookup,run_underlying hT,MapKept.run_getObj_map h1,hK.check,hf,hz,Result.andThen]
 ·obtain⟨c,hc,-,hv⟩:=h2 j e (by rw[<-Array.getElem?_toList];exact hj)
  have hca:c=a:=hK.inj _ _ (hc.symm.trans hk);subst hca;rw[hv]at hf;simp[Instr.lookup,run_underlying hT,MapKept.run_getObj_map h1,hK.check,hf,Result.andThen]
theorem iT.put [DecidableEq κ] (hK:Fb P kt K Gw){T E:TypeId}(hT:P.underlying T=some (.map kt E)){G:κ->Prop}(hG:∀ a,G a->Gw w a)(h:iT K G w B f){a:κ}(ha:G a)(v:Int):∃ w',(Instr.mapUpdate T (.map (some B)) (K a) (.int .i64 v)).run P w=.ok () w'/\iT K G w' B (fun c=>if c=a then v else f c)/\w.grownBy w' (some B)/\w'.heap.size=w.heap.size:=by
 obtain⟨es,clock,h1,h2,h3,h4⟩:=h;have hl:∀ x∈es.toList,∃ c,x.key=K c/\Gw w c:=by
  intro x hx;obtain⟨i,hi⟩:=List.mem_iff_getElem?.1 hx;obtain⟨c,hc,hg,-⟩:=h2 i x (by rw[<-Array.getElem?_toList];exact hi);exact⟨c,hc,hG _ hg⟩
 have hset:∀ o:Obj,w.grownBy { w with heap:=w.heap.setIfInBounds B o } (some B):=fun o=>⟨rfl,rfl,rfl,by simp,fun k _ hk=>(MapKept.heap_set h1).2 k (fun e=>hk (by rw[e]))⟩
 rcases hK.find w a es.toList (hG a ha) hl with ⟨hf,hn⟩ | ⟨j,e,hf,hj,hk⟩
 ·refine⟨{ w with heap:=w.heap.setIfInBounds B (.map (es.push { key:=K a,val:=.int .i64 v,born:=clock }) (clock+1)) },?_,⟨es.push { key:=K a,val:=.int .i64 v,born:=clock },clock+1,(MapKept.heap_set h1).1,?_,?_,?_⟩,hset _,by simp⟩
  ·simp[Instr.mapUpdate,run_underlying hT,MapKept.run_getObj_map h1,hK.check,hf,MapKept.run_setObj_map _ h1,Result.andThen]
  ·intro i e hi
   rw[Array.getElem?_push]at hi
   split at hi
   ·cases hi;exact⟨a,rfl,ha,by simp⟩
   ·obtain⟨c,hc,hg,hv⟩:=h2 i e hi
    have hne:c≠a:=fun e'=>hn e (List.mem_iff_getElem?.2 ⟨i,by rw[Array.getElem?_toList];exact hi⟩) (by rw[hc,e'])
    exact⟨c,hc,hg,by simp only[if_neg hne];exact hv⟩
  ·intro i i' e e' hi hi' he
   rw[Array.getElem?_push]at hi hi'
   split at hi <;> split at hi'
   ·omega
   ·cases hi
    exact absurd he.symm (hn e' (List.mem_iff_getElem?.2 ⟨i',by rw[Array.getElem?_toList];exact hi'⟩))
   ·cases hi'
    exact absurd he (hn e (List.mem_iff_getElem?.2 ⟨i,by rw[Array.getElem?_toList];exact hi⟩))
   ·exact h3 i i' e e' hi hi' he
  ·intro c hc
   by_cases hca:c=a
   ·subst hca
    exact⟨es.size,_,by rw[Array.getElem?_push,if_pos rfl],rfl⟩
   ·simp only[if_neg hca]at hc
    obtain⟨i,e,hi,he⟩:=h4 c hc;refine⟨i,e,?_,he⟩;have hlt:=(Array.getElem?_eq_some_iff.1 hi).1;rw[Array.getElem?_push,if_neg (by omega)];exact hi
 ·have hj':es[j]?=some e:=by rw[<-Array.getElem?_toList];exact hj
  refine⟨{ w with heap:=w.heap.setIfInBounds B (.map (es.modify j fun e=>{ e with key:=K a,val:=.int .i64 v }) clock) },?_,⟨es.modify j fun e=>{ e with key:=K a,val:=.int .i64 v },clock,(MapKept.heap_set h1).1,?_,?_,?_⟩,hset _,by simp⟩
  ·simp[Instr.mapUpdate,run_underlying hT,MapKept.run_getObj_map h1,hK.check,hf,hj',hk,hK.stays,MapKept.run_setObj_map _ h1,Result.andThen]
  ·intro i x hi
   rw[Array.getElem?_modify]at hi
   split at hi
   ·rename_i hji
    subst hji;rw[hj']at hi;cases hi;exact⟨a,rfl,ha,by simp⟩
   ·rename_i hji
    obtain⟨c,hc,hg,hv⟩:=h2 i x hi;have hne:c≠a:=fun e'=>hji (h3 j i e x hj' hi (by rw[hk,hc,e']))
    exact⟨c,hc,hg,by simp only[if_neg hne];exact hv⟩
  ·intro i i' x x' hi hi' he
   have hkey:∀ (i:Nat) (x:MapEntry),(es.modify j fun e=>{ e with key:=K a,val:=.int .i64 v })[i]?=some x->∃ y,es[i]?=some y/\y.key=x.key:=by
    intro i x hi;rw[Array.getElem?_modify]at hi
    split at hi
    ·rename_i hji
     subst hji;rw[hj']at hi;cases hi;exact⟨e,hj',hk⟩
    ·exact⟨x,hi,rfl⟩
   obtain⟨y,hy,ky⟩:=hkey i x hi;obtain⟨y',hy',ky'⟩:=hkey i' x' hi';exact h3 i i' y y' hy hy' (by rw[ky,ky',he])
  ·intro c hc
   by_cases hca:c=a
   ·subst hca
    exact⟨j,_,by rw[Array.getElem?_modify,if_pos rfl,hj'];rfl,rfl⟩
   ·simp only[if_neg hca]at hc
    obtain⟨i,x,hi,he⟩:=h4 c hc;refine⟨i,x,?_,he⟩;have hji:j≠i:=fun e'=>hca (hK.inj _ _ (by rw[<-he,<-hk];subst e';rw[hj']at hi;cases hi;rfl))
    rw[Array.getElem?_modify,if_neg hji];exact hi
end
theorem ai8 {P:Program} {kt:TypeId} (hk:P.underlying kt=some .string):Fb P kt Value.string (fun _ _=>True) where
 inj a b h:=by cases h;rfl
 check em w a:=MapKept.run_checkKey (d:=.string) (k:=.string a) hk trivial em 9999
 find w a l _ hl:=by
  have hkeys:∀ x∈l,MapKept.IsKey .string x.key:=fun x hx=>by obtain⟨c,hc,-⟩:=hl x hx;rw[hc];trivial
  rcases MapKept.findNow_spec (d:=.string) (k:=.string a) trivial l 0 hkeys with ⟨h1,h2⟩ | ⟨j,e,h1,h2,h3⟩
  ·exact .inl ⟨MapKept.run_findKey hk h1,h2⟩
  ·rw[Nat.zero_add]at h1
   exact .inr ⟨j,e,MapKept.run_findKey hk h1,h2,h3⟩
 stays w a:=MapKept.run_keyThatStays (d:=.string) (k:=.string a) trivial
def SMap (w:World)(B:Nat)(f:ByteArray->Int):Prop:=iT Value.string (fun _=>True) w B f
theorem Tryz.aaH:Fb prog 9 Value.string (fun _ _=>True):=ai8 (by kernel_rfl)
theorem Tryz.ZJ:prog.underlying 119=some (.map 9 3):=by kernel_rfl
theorem Tryz.aai (w:World):(zeroValue 3).run prog w=.ok (.int .i64 0) w:=by kernel_rfl
theorem SMap.look {w:World}{B:Nat}{f:ByteArray->Int}(h:SMap w B f)(b:ByteArray):(Instr.lookup 119 (.map (some B)) (.string b) false).run prog w=.ok (.int .i64 (f b)) w:=iT.look Tryz.aaH Tryz.ZJ Tryz.aai (fun _ _=>trivial) h trivial
theorem SMap.put {w:World}{B:Nat}{f:ByteArray->Int}(h:SMap w B f)(b:ByteArray)(v:Int):∃ w',(Instr.mapUpdate 119 (.map (some B)) (.string b) (.int .i64 v)).run prog w=.ok () w'/\SMap w' B (fun c=>if c=b then v else f c)/\w.grownBy w' (some B)/\w'.heap.size=w.heap.size:=iT.put Tryz.aaH Tryz.ZJ (fun _ _=>trivial) h trivial v
def tH (x:Lx.Wd):List Value:=[.int .i64 (x.1:Int),.string x.2.1,.int .i64 (x.2.2:Int)]
def WR (w:World)(v:Value)(ws:List Lx.Wd):Prop:=w.ownsRow 0 116 3 v ws.length (ws.flatMap tH)
theorem WR.len {w:World}{v:Value}{ws:List Lx.Wd}(h:WR w v ws):∃ a c,v=.slice a ws.length c/\ws.length<=maxLen:=aI h
theorem ZK:∀ (ws:List Lx.Wd) (j i:Nat) (x:Lx.Wd),ws[j]?=some x->i<3->(ws.flatMap tH)[j*3+i]?=(tH x)[i]?
 | [],_,_,_,h,_=>by simp at h
 | p::ps,0,i,x,h,hi=>by
  simp at h;subst h;rw[List.flatMap_cons,Nat.zero_mul,Nat.zero_add,List.getElem?_append_left (by simp[tH];exact hi)]
 | p::ps,j+1,i,x,h,hi=>by
  have h':ps[j]?=some x:=by simpa using h
  rw[List.flatMap_cons,List.getElem?_append_right (by simp[tH,Nat.succ_mul];omega),show (tH p).length=3 from rfl,show (j+1)*3+i-3=j*3+i by omega];exact ZK ps j i x h' hi
theorem WR.at {w:World}{v:Value}{ws:List Lx.Wd}(h:WR w v ws){j:Nat}(hj:j<ws.length):∃ g cap,v=.slice (some ⟨g,0,none⟩) ws.length cap/\g<w.heap.size/\w.cell? ⟨g,j*3,none⟩=some (.int .i64 (ws[j].1:Int))/\w.cell? ⟨g,j*3+1,none⟩=some (.string ws[j].2.1)/\w.cell? ⟨g,j*3+2,none⟩=some (.int .i64 (ws[j].2.2:Int)):=by
 unfold WR at h;obtain⟨g,cap,rfl,-,-⟩:=h.form (by omega);have hq:ws[j]?=some ws[j]:=List.getElem?_eq_getElem hj;have hc:∀ i,i<3->w.cell? ⟨g,j*3+i,none⟩=(tH ws[j])[i]?:=fun i hi=>by
  rw[h.cellAt (j*3+i) (by omega),ZK ws j i _ hq hi]
 exact⟨g,cap,rfl,(h.lt g rfl).2,hc 0 (by decide),hc 1 (by decide),hc 2 (by decide)⟩
theorem WR.move {w w':World}{v:Value}{ws:List Lx.Wd}(h:WR w v ws)(hb:∀ g,v.ownBlock=some g->w'.heap[g]?=w.heap[g]?):WR w' v ws:=aD h hb
theorem WR.below {w w':World}{v:Value}{ws:List Lx.Wd}(h:WR w v ws)(hb:Below w.heap.size w w'):WR w' v ws:=aD h fun g hg=>hb.block g (h.lt g hg).2
def wm:Option Nat->Int
 | none=>-1
 | some p=>p
namespace Lx
def Ar (s:List ByteArray)(b:ByteArray):Int:=if iR b s=true then 1 else 0
theorem Vn {x:Wd}{ws:List Wd}(h:¬ (x.1=0\/x.1=1)):told (x::ws)=told ws:=by unfold told;rw[List.filter_cons,if_neg (by simpa using h)]
theorem XA {x:Wd}{ws:List Wd}(h:x.1=0\/x.1=1):told (x::ws)=x::told ws:=by unfold told;rw[List.filter_cons,if_pos (by simpa using h)]
theorem ag5 (s:List ByteArray)(b:ByteArray):(fun c=>if c=b then (1:Int) else Ar s c)=Ar (b::s):=by
 funext c;unfold Ar iR
 by_cases h:c=b
 ·subst h;simp
 ·rw[if_neg h]
  have:decide (b=c)=false:=by simpa using fun e=>h e.symm
  rw[List.any_cons,this,Bool.false_or]
end Lx
theorem aga {w:World} {v:Value} {ws:List Lx.Wd} (h:WR w v ws) :
  Calls prog 49 #[v] w fun e w'=>e=.returned (.int .i64 (wm (bS [] (Lx.told ws))))/\Below w.heap.size w w':=by
 obtain⟨a,c,rfl,hm⟩:=h.len;unfold maxLen at hm;have hmm:=@run_makeMap prog;go_enter func49,ntmps49;go_wp2_with fail;clear hmm;obtain⟨W,hW⟩:∃ W,W=w.alloc (.map #[] 0):=⟨_,rfl⟩;rw[<-hW];have hWs:W.heap.size=w.heap.size+1:=by rw[hW];simp
 have hB:Below w.heap.size w W:=by rw[hW];exact (Below.refl _ _).alloc (lr0) _
 have hM:SMap W w.heap.size (Ar []):=by rw[hW];exact iT.made _ w
 clear hW;have H0:Hid (bS [] (Lx.told ws)=bS [] (Lx.told (ws.drop 0))):=rfl
 go_loopg [9] ws.length (fun k i wr=>∃ (j:Nat) (s:List ByteArray),j+k=ws.length/\i=.int .i64 j/\Below w.heap.size w wr/\SMap wr w.heap.size (Ar s)/\Hid (bS [] (Lx.told ws)=bS s (Lx.told (ws.drop j))))
 case atStart=>exact⟨0,[],by omega,rfl,hB,hM,H0⟩
 case round =>
  clear H0 hM;obtain⟨j,s,hk,rfl,hbr,hM,HD⟩:=hrel;have hsr:=hM.lt
  by_cases hlt:j<ws.length
  ·have hwr:WR wr _ ws:=h.below hbr
   obtain⟨g,cap,hv,lg,c0,c1,c2⟩:=hwr.at hlt;cases hv;have hd:=HD.out;rw[List.drop_eq_getElem_cons hlt]at hd;have lgw:g<w.heap.size:=(h.lt g rfl).2;generalize ws[j]=x at c0 c1 c2 hd;obtain⟨ro,tx,at_⟩:=x;obtain⟨W1,hW1⟩:∃ W1,W1=wr.alloc (.cells #[.int .i64 (ro:Int),.string tx,.int .i64 (at_:Int)] 116):=⟨_,rfl⟩;have hb1:Below wr.heap.size wr W1:=by rw[hW1];exact (Below.refl _ _).alloc (lr0) _
   have hs1:W1.heap.size=wr.heap.size+1:=by rw[hW1];simp
   have kx:aj W1 wr.heap.size #[.int .i64 (ro:Int),.string tx,.int .i64 (at_:Int)] 116:=by rw[hW1];exact aj.new wr _ 116
   have hM1:SMap W1 w.heap.size (Ar s):=hM.move (hb1.block _ hsr);have dV:Below w.heap.size w W1:=hbr.trans (hb1.mono (by omega))
   by_cases hro:ro=0\/ro=1
   ·rw[XA hro,bS]at hd
    have hl1:=hM1.look tx;have hx2:∀ {w2:World},W1.grownBy w2 (some w.heap.size)->aj w2 wr.heap.size #[.int .i64 (ro:Int),.string tx,.int .i64 (at_:Int)] 116:=fun hg=>kx.grown hg (fun e=>by have:=Option.some.inj e;omega)
    cases hmb:iR tx s with
    | true =>
     rw[if_pos hmb]at hd;have HD2:Hid (bS [] (Lx.told ws)=some at_):=hd;rw[show Ar s tx=1 from if_pos hmb]at hl1;obtain⟨w2,hu,hM2,hg2,hs2⟩:=hM1.put tx 2;have hl2:=hM2.look tx;rw[if_pos rfl]at hl2;have iW:=hx2 hg2;have x1:w2.cell? ⟨wr.heap.size,1,none⟩=some (.string tx):=iW.cell 1;have x2:w2.cell? ⟨wr.heap.size,2,none⟩=some (.int .i64 (at_:Int)):=iW.cell 2;have hb2:Below w.heap.size w w2:=dV.grown hg2 (by omega) (fun k hk=>by cases hk;exact lr0);rw[hW1]at hl1 hu;clear hd HD hmb hM1 hM2 hM hx2 kx hb1 hs1 hW1 hg2;rcases hro with hro | hro
     have hq0:((ro:Int) != 0)=false:=by simp[hro]
     clear hro
     rotate_left
     have hq0:((ro:Int) != 0)=true:=bne_iff_ne.2 (by omega);have hq1:((ro:Int) != 1)=false:=by simp[hro]
     clear hro
     all_goals
      go_wp2_with fail;go_ret;exact⟨by rw[HD2.out];rfl,hb2⟩
    | false =>
     rw[if_neg (by rw[hmb];decide)]at hd;have HD2:Hid (bS [] (Lx.told ws)=bS (tx::s) (Lx.told (ws.drop (j+1)))):=hd;rw[show Ar s tx=0 from if_neg (by rw[hmb];decide)]at hl1;obtain⟨w2,hu,hM2,hg2,hs2⟩:=hM1.put tx 1;have hl2:=hM2.look tx;rw[if_pos rfl]at hl2;rw[ag5]at hM2;have iW:=hx2 hg2;have x1:w2.cell? ⟨wr.heap.size,1,none⟩=some (.string tx):=iW.cell 1;have hb2:Below w.heap.size w w2:=dV.grown hg2 (by omega) (fun k hk=>by cases hk;exact lr0);rw[hW1]at hl1 hu;clear hd HD hmb hM1 hM hx2 kx hb1 hs1 hW1 hg2;rcases hro with hro | hro
     have hq0:((ro:Int) != 0)=false:=by simp[hro]
     clear hro
     rotate_left
     have hq0:((ro:Int) != 0)=true:=bne_iff_ne.2 (by omega);have hq1:((ro:Int) != 1)=false:=by simp[hro]
     clear hro
     all_goals
      go_wp2_with fail;go_roundg (ws.length - (j+1))
      case measure=>omega
      case rel=>exact⟨j+1,tx::s,by omega,by go_num,hb2,hM2,HD2⟩
   ·rw[Vn hro]at hd
    have HD2:Hid _:=hd;have hq0:((ro:Int) != 0)=true:=bne_iff_ne.2 (by omega);have hq1:((ro:Int) != 1)=true:=bne_iff_ne.2 (by omega);have hd0:¬ (ro:Int)=0:=by omega
    have hd1:¬ (ro:Int)=1:=by omega
    clear hd HD hro;go_wp2_with fail;rw[<-hW1];go_roundg (ws.length - (j+1))
    case measure=>omega
    case rel=>exact⟨j+1,s,by omega,by go_num,dV,hM1,HD2⟩
  ·have:j=ws.length:=by omega
   subst this;have hd:=HD.out;rw[List.drop_length]at hd;have HD2:Hid (bS [] (Lx.told ws)=none):=hd;clear hd HD;go_wp2_with fail;go_ret;exact⟨by rw[HD2.out];rfl,hbr⟩
namespace Lx
def Mg (l:List ByteArray)(b:ByteArray):Nat:=l.countP fun x=>decide (x=b)
def cntF (l:List ByteArray)(b:ByteArray):Int:=(Mg l b:Int)
theorem ai9 (l:List ByteArray)(b:ByteArray):Mg l b<=l.length:=List.countP_le_length
theorem ah5 (l:List ByteArray)(b:ByteArray):(fun c=>if c=b then cntF l b+1 else cntF l c)=cntF (l++[b]):=by
 funext c;unfold cntF Mg;rw[List.countP_append]
 by_cases h:c=b
 ·subst h;simp
 ·have:(fun x=>decide (x=c)) b=false:=by simpa using fun e=>h e.symm
  rw[if_neg h];simp[this]
theorem XB {l:List ByteArray}{b:ByteArray}:cntF l b=0↔iR b l=false:=by
 unfold cntF Mg iR;rw[List.any_eq_false];constructor
 ·intro h x hx
  have h0:List.countP (fun x=>decide (x=b)) l=0:=by omega
  intro e;have hp:0<List.countP (fun x=>decide (x=b)) l:=List.countP_pos_iff.2 ⟨x,hx,e⟩;omega
 ·intro h
  have:List.countP (fun x=>decide (x=b)) l=0:=List.countP_eq_zero.2 fun x hx=>h x hx
  omega
theorem Vo (w:Wd)(ws:List Wd):eX (w::ws)=w.2.1::eX ws:=rfl
end Lx
theorem ae7 {w:World} {v:Value} {ws:List Lx.Wd} (h:WR w v ws) :
  Calls prog 50 #[v] w fun e w'=>e=.returned (.int .i64 (wm (ow (eX (Lx.told ws)) ws)))/\Below w.heap.size w w':=by
 obtain⟨a,c,rfl,hm⟩:=h.len;unfold maxLen at hm;have hmm:=@run_makeMap prog;go_enter func50,ntmps50;go_wp2_with fail;clear hmm;obtain⟨W,hW⟩:∃ W,W=w.alloc (.map #[] 0):=⟨_,rfl⟩;rw[<-hW];have hWs:W.heap.size=w.heap.size+1:=by rw[hW];simp
 have hB:Below w.heap.size w W:=by rw[hW];exact (Below.refl _ _).alloc (lr0) _
 have hM:SMap W w.heap.size (Lx.cntF []):=by rw[hW];exact iT.made _ w
 clear hW;have H0:Hid (eX (Lx.told ws)=[]++eX (Lx.told (ws.drop 0))):=rfl
 go_loopg [11] ws.length (fun k i wr=>∃ (j:Nat) (s:List ByteArray),j+k=ws.length/\i=.int .i64 j/\Below w.heap.size w wr/\SMap wr w.heap.size (Lx.cntF s)/\s.length<=j/\Hid (eX (Lx.told ws)=s++eX (Lx.told (ws.drop j))))
 case atStart=>exact⟨0,[],by omega,rfl,hB,hM,lr0,H0⟩
 case round =>
  clear H0 hM;obtain⟨j,s,hk,rfl,hbr,hM,hsl,HD⟩:=hrel;have hsr:=hM.lt
  by_cases hlt:j<ws.length
  ·have hwr:WR wr _ ws:=h.below hbr
   obtain⟨g,cap,hv,lg,c0,c1,c2⟩:=hwr.at hlt;cases hv;have hd:=HD.out;rw[List.drop_eq_getElem_cons hlt]at hd;have lgw:g<w.heap.size:=(h.lt g rfl).2;generalize ws[j]=x at c0 c1 c2 hd;obtain⟨ro,tx,at_⟩:=x;obtain⟨W1,hW1⟩:∃ W1,W1=wr.alloc (.cells #[.int .i64 (ro:Int),.string tx,.int .i64 (at_:Int)] 116):=⟨_,rfl⟩;have hb1:Below wr.heap.size wr W1:=by rw[hW1];exact (Below.refl _ _).alloc (lr0) _
   have hs1:W1.heap.size=wr.heap.size+1:=by rw[hW1];simp
   have hM1:SMap W1 w.heap.size (Lx.cntF s):=hM.move (hb1.block _ hsr);have dV:Below w.heap.size w W1:=hbr.trans (hb1.mono (by omega))
   by_cases hro:ro=0\/ro=1
   ·rw[XA hro,Vo]at hd
    have hl1:=hM1.look tx;have hcl:=ai9 s tx;obtain⟨w2,hu,hM2,hg2,hs2⟩:=hM1.put tx (Lx.cntF s tx+1);rw[ah5]at hM2;have hb2:Below w.heap.size w w2:=dV.grown hg2 (by omega) (fun k hk=>by cases hk;exact lr0);have HD2:Hid (eX (Lx.told ws)=(s++[tx])++eX (Lx.told (ws.drop (j+1)))):=by
     show _=_;rw[hd];simp
    have hsl2:(s++[tx]).length<=j+1:=by simp;omega
    rw[hW1]at hl1 hu;have hc0:0<=Lx.cntF s tx:=by unfold Lx.cntF;omega
    have hc1:Lx.cntF s tx+1<=9223372036854775807:=by unfold Lx.cntF;omega
    generalize Lx.cntF s tx=cn at hl1 hu hc0 hc1;clear hd HD hM1 hM hb1 hs1 hW1 hg2 hcl;rcases hro with hro | hro
    have hq0:((ro:Int) == 0)=true:=by simp[hro]
    clear hro
    rotate_left
    have hq0:((ro:Int) == 0)=false:=bq0 (by omega);have hq1:((ro:Int) == 1)=true:=by simp[hro]
    clear hro
    all_goals
     go_wp2_with fail;go_roundg (ws.length - (j+1))
     case measure=>omega
     case rel=>exact⟨j+1,s++[tx],by omega,by go_num,hb2,hM2,hsl2,HD2⟩
   ·rw[Vn hro]at hd
    have HD2:Hid _:=hd;have hq0:((ro:Int) == 0)=false:=bq0 (by omega);have hq1:((ro:Int) == 1)=false:=bq0 (by omega);have hd0:¬ (ro:Int)=0:=by omega
    have hd1:¬ (ro:Int)=1:=by omega
    clear hd HD hro;go_wp2_with fail;rw[<-hW1];go_roundg (ws.length - (j+1))
    case measure=>omega
    case rel=>exact⟨j+1,s,by omega,by go_num,dV,hM1,by omega,HD2⟩
  ·have:j=ws.length:=by omega
   subst this;have hd:=HD.out;rw[List.drop_length]at hd;have HD2:Hid (eX (Lx.told ws)=s):=by rw[show eX (Lx.told [])=[] from rfl,List.append_nil]at hd;exact hd
   clear hd HD hk hsl;go_wp2_with fail;obtain⟨wz,hwz⟩:∃ wz,wz=wr:=⟨_,rfl⟩;rw[<-hwz]at hbr hM hsr;rw[<-hwz];clear hwz;have H1:Hid (ow s ws=ow s (ws.drop 0)):=rfl
   go_loopg [31] ws.length (fun k i wr=>∃ (j:Nat),j+k=ws.length/\i=.int .i64 j/\Below w.heap.size w wr/\SMap wr w.heap.size (Lx.cntF s)/\Hid (ow s ws=ow s (ws.drop j)))
   case atStart=>exact⟨0,by omega,rfl,hbr,hM,H1⟩
   case round =>
    clear H1 hM hbr;obtain⟨j,hk,rfl,hbr,hM,HD⟩:=hrel;have hsr:=hM.lt
    by_cases hlt:j<ws.length
    ·have hwr:WR wr _ ws:=h.below hbr
     obtain⟨g,cap,hv,lg,c0,c1,c2⟩:=hwr.at hlt;cases hv;have hd:=HD.out;rw[List.drop_eq_getElem_cons hlt]at hd;have lgw:g<w.heap.size:=(h.lt g rfl).2;generalize ws[j]=x at c0 c1 c2 hd;obtain⟨ro,tx,at_⟩:=x;obtain⟨W1,hW1⟩:∃ W1,W1=wr.alloc (.cells #[.int .i64 (ro:Int),.string tx,.int .i64 (at_:Int)] 116):=⟨_,rfl⟩;have hb1:Below wr.heap.size wr W1:=by rw[hW1];exact (Below.refl _ _).alloc (lr0) _
     have hM1:SMap W1 w.heap.size (Lx.cntF s):=hM.move (hb1.block _ hsr);have dV:Below w.heap.size w W1:=hbr.trans (hb1.mono (by omega));have hl1:=hM1.look tx;rw[hW1]at hl1;rw[ow]at hd
     by_cases hro:ro=2\/ro=4
     ·have hz:(Lx.cntF s tx=0)\/(Lx.cntF s tx≠0):=Decidable.em _
      rcases hz with hz | hz
      ·have hmem:=XB.1 hz
       rw[if_pos ⟨hro,hmem⟩]at hd;have Cx:Hid (ow s ws=some at_):=hd;rw[hz]at hl1;clear hd HD hz hmem;rcases hro with hro | hro
       have hq0:((ro:Int) == 2)=true:=by simp[hro]
       clear hro
       rotate_left
       have hq0:((ro:Int) == 2)=false:=bq0 (by omega);have hq1:((ro:Int) == 4)=true:=by simp[hro]
       clear hro
       all_goals
        go_wp2_with fail;go_ret;exact⟨by rw[HD2.out,Cx.out];rfl,by rw[<-hW1];exact dV⟩
      ·have hmem:¬ iR tx s=false:=fun e=>hz (XB.2 e)
       rw[if_neg (fun e=>hmem e.2)]at hd;have Cx:Hid (ow s ws=ow s (ws.drop (j+1))):=hd;have hzb:(Lx.cntF s tx == 0)=false:=beq_eq_false_iff_ne.2 hz;clear hd HD hmem;generalize Lx.cntF s tx=cn at hl1 hz hzb;rcases hro with hro | hro
       have hq0:((ro:Int) == 2)=true:=by simp[hro]
       clear hro
       rotate_left
       have hq0:((ro:Int) == 2)=false:=bq0 (by omega);have hq1:((ro:Int) == 4)=true:=by simp[hro]
       clear hro
       all_goals
        go_wp2_with fail;rw[<-hW1];go_roundg (ws.length - (j+1))
        case measure=>omega
        case rel=>exact⟨j+1,by omega,by go_num,dV,hM1,Cx⟩
     ·rw[if_neg (fun e=>hro e.1)]at hd
      have Cx:Hid (ow s ws=ow s (ws.drop (j+1))):=hd;have hq0:((ro:Int) == 2)=false:=bq0 (by omega);have hq1:((ro:Int) == 4)=false:=bq0 (by omega);have hd0:¬ (ro:Int)=2:=by omega
      have hd1:¬ (ro:Int)=4:=by omega
      clear hd HD hro;go_wp2_with fail;rw[<-hW1];go_roundg (ws.length - (j+1))
      case measure=>omega
      case rel=>exact⟨j+1,by omega,by go_num,dV,hM1,Cx⟩
    ·have:j=ws.length:=by omega
     subst this;have hd:=HD.out;rw[List.drop_length]at hd;have Cx:Hid (ow s ws=none):=hd;clear hd HD;go_wp2_with fail;go_ret;exact⟨by rw[HD2.out,Cx.out];rfl,hbr⟩
namespace Lx
def fl:List Bool->List Wd->Option Nat
 | _,[]=>none
 | [],w::ws=>if w.1=1 then none else fl [] ws
 | b::bs,w::ws=>if w.1=1 then (if b=true then fl bs ws else some w.2.2) else fl (b::bs) ws
def cnt1 (ws:List Wd):Nat:=ws.countP fun w=>decide (w.1=1)
theorem Zc {bs:List Bool}{w:Wd}{ws:List Wd}(h:w.1≠1):fl bs (w::ws)=fl bs ws:=by
 cases bs with
 | nil=>rw[fl,if_neg h]
 | cons b bs=>rw[fl,if_neg h]
theorem Zd {b:Bool}{bs:List Bool}{w:Wd}{ws:List Wd}(h:w.1=1):fl (b::bs) (w::ws)=if b=true then fl bs ws else some w.2.2:=by rw[fl,if_pos h]
theorem Qm:∀ (ws:List Wd) (bs:List Bool),(∀ w∈ws,w.1≠1)->∀ us,fl bs (ws++us)=fl bs us
 | [],_,_,_=>rfl
 | w::ws,bs,h,us=>by
  rw[List.cons_append,Zc (h w List.mem_cons_self)];exact Qm ws bs (fun x hx=>h x (List.mem_cons_of_mem _ hx)) us
theorem Yw:∀ (rs:List Rl) (bs:List Bool),rs.length<=bs.length->fl bs (rs.flatMap fun r=>(1,r.name,r.place)::dD 9 r.alts)=eF rs bs
 | [],bs,_=>by cases bs <;> rfl
 | r::rs,[],h=>by simp at h
 | r::rs,b::bs,h=>by
  rw[List.flatMap_cons,List.cons_append,Zd rfl,eF]
  split
  ·rw[Qm _ _ (fun w hw=>by rcases Kt 9 _ w hw with h | h | h <;> omega)]
   exact Yw rs bs (by simpa using h)
  ·rfl
theorem Ze (g:Gr)(bs:List Bool)(h:g.rules.length<=bs.length):fl bs (iO g)=eF g.rules bs:=by
 unfold iO;rw[Qm _ _ (fun w hw=>?_),Yw _ _ h];obtain⟨lv,-,hw⟩:=List.mem_flatMap.1 hw;obtain⟨t,-,rfl⟩:=List.mem_map.1 hw;show (0:Nat)≠1;decide
theorem WL:∀ (rs:List Rl),cnt1 (rs.flatMap fun r=>(1,r.name,r.place)::dD 9 r.alts)=rs.length
 | []=>rfl
 | r::rs=>by
  have h0:cnt1 (dD 9 r.alts)=0:=List.countP_eq_zero.2 fun w hw=>by
   rcases Kt 9 _ w hw with h | h | h <;> simp[h]
  have ih:=WL rs;unfold cnt1 at h0 ih |-;rw[List.flatMap_cons,List.countP_append,ih,List.countP_cons,h0,List.length_cons];simp;omega
theorem XC (g:Gr):cnt1 (iO g)=g.rules.length:=by
 have h0:cnt1 (g.levels.flatMap fun lv=>lv.tokens.map fun t=>(0,t.1,t.2))=0:=List.countP_eq_zero.2 fun w hw=>by
  obtain⟨lv,-,hw⟩:=List.mem_flatMap.1 hw;obtain⟨t,-,rfl⟩:=List.mem_map.1 hw;simp
 have h1:=WL g.rules;unfold iO;unfold cnt1 at h0 h1 |-;rw[List.countP_append,h0,h1,Nat.zero_add]
end Lx
theorem UW {w:World} {v:Value} {ws:List Lx.Wd} (h:WR w v ws) {o:Nat} {bs:List Bool} {n:Nat} (hB:aj w o (aL bs) 4) (hn:bs.length=n) (hc:Lx.cnt1 ws<=n) :
  Calls prog 52 #[.slice (some ⟨o,0,none⟩) n n,v] w fun e w'=>e=.returned (.int .i64 (wm (Lx.fl bs ws)))/\Below w.heap.size w w':=by
 obtain⟨a,c,rfl,hm⟩:=h.len;unfold maxLen at hm;have HN:Hid (bs.length=n):=hn;clear hn;have hcl:Lx.cnt1 ws<=ws.length:=List.countP_le_length;go_enter func52,ntmps52;go_wp2_with fail;have H0:Hid (Lx.fl bs ws=Lx.fl (bs.drop 0) (ws.drop 0)):=rfl;have hc0:0+Lx.cnt1 (ws.drop 0)<=n:=by rw[List.drop_zero,Nat.zero_add];exact hc
 go_loopg [5,10] ws.length (fun k rv i wr=>∃ (j r:Nat),j+k=ws.length/\i=.int .i64 j/\rv=.int .i64 r/\Below w.heap.size w wr/\r+Lx.cnt1 (ws.drop j)<=n/\r<=j/\Hid (Lx.fl bs ws=Lx.fl (bs.drop r) (ws.drop j)))
 case atStart=>exact⟨0,0,by omega,rfl,rfl,Below.refl _ _,hc0,lr0,H0⟩
 case round =>
  clear H0 hc0;obtain⟨j,r,hk,rfl,rfl,hbr,hcr,hrj,HD⟩:=hrel;have hsr:=hbr.size
  by_cases hlt:j<ws.length
  ·have hwr:WR wr _ ws:=h.below hbr
   obtain⟨g,cap,hv,lg,c0,c1,c2⟩:=hwr.at hlt;cases hv;have hd:=HD.out;rw[List.drop_eq_getElem_cons hlt]at hd hcr;generalize ws[j]=x at c0 c1 c2 hd hcr;obtain⟨ro,tx,at_⟩:=x;have hb1:Below wr.heap.size wr (wr.alloc (.cells #[.int .i64 (ro:Int),.string tx,.int .i64 (at_:Int)] 116)):=(Below.refl _ _).alloc (lr0) _;have dV:=hbr.trans (hb1.mono hsr)
   by_cases hro:ro=1
   ·have aaI:r+(Lx.cnt1 (ws.drop (j+1))+1)<=n:=by unfold Lx.cnt1 at hcr |-;rw[List.countP_cons]at hcr;simpa [hro]using hcr
    have hrl:r<bs.length:=by have:=HN.out;omega
    have o1:wr.cell? ⟨o,r,none⟩=some (.bool (au bs r)):=(World.cell?_of_block (w:=w) (hbr.block o hB.lt)).trans ((hB.cell r).trans (fI bs hrl));have eb:au bs r=bs[r]:=by simp[au,hrl]
    rw[List.drop_eq_getElem_cons hrl,Zd hro,<-eb]at hd;have hq:((ro:Int) != 1)=false:=by simp[hro]
    have lo:=hB.lt;have lor:o<wr.heap.size:=by omega
    have hrn:r<n:=by omega
    clear hro hcr hrl eb HD;cases hb:au bs r with
    | true =>
     rw[hb,if_pos rfl]at hd;rw[hb]at o1;have HD2:Hid _:=hd;clear hd hb;go_wp2_with fail;go_roundg (ws.length - (j+1))
     case measure=>omega
     case rel=>exact⟨j+1,r+1,by omega,by go_num,by go_num,dV,by omega,by omega,HD2⟩
    | false =>
     rw[hb,if_neg (by decide)]at hd;rw[hb]at o1;have HD2:Hid (Lx.fl bs ws=some at_):=hd;clear hd hb;go_wp2_with fail;go_ret;exact⟨by rw[HD2.out];rfl,dV⟩
   ·rw[Zc hro]at hd
    have aaI:r+Lx.cnt1 (ws.drop (j+1))<=n:=by unfold Lx.cnt1 at hcr |-;rw[List.countP_cons]at hcr;simpa [hro]using hcr
    have hq:((ro:Int) != 1)=true:=bne_iff_ne.2 (by omega);have hqd:¬ (ro:Int)=1:=by omega
    have HD2:Hid _:=hd;clear hd HD hro hcr;go_wp2_with fail;go_roundg (ws.length - (j+1))
    case measure=>omega
    case rel=>exact⟨j+1,r,by omega,by go_num,rfl,dV,aaI,by omega,HD2⟩
  ·have:j=ws.length:=by omega
   subst this;have hd:=HD.out;rw[List.drop_length]at hd;have HD2:Hid (Lx.fl bs ws=none):=by rw[hd];cases bs.drop r <;> rfl
   clear hd HD;go_wp2_with fail;go_ret;exact⟨by rw[HD2.out];rfl,hbr⟩
structure mH (F:Nat->Prop) (w:World) (vR:Value) (rs:List Lx.Rl):Prop where
 lt:∀ b,F b->b<w.heap.size
 rl:Tr.Seq F w 179 2 cR (fun va r=>ay YP 9 F w va r.alts) vR rs
theorem mH.move {F:Nat->Prop}{w w':World}{vR:Value}{rs:List Lx.Rl}(h:mH F w vR rs)(hs:∀ b,F b->w'.heap[b]?=w.heap[b]?)(hl:w.heap.size<=w'.heap.size):mH F w' vR rs :=
 ⟨fun b hb=>Nat.lt_of_lt_of_le (h.lt b hb) hl,Seq.move h.rl hs (fun _ h=>h) fun _ _ ha=>ay.move hs (fun _ h=>h) ha⟩
theorem mH.below {F:Nat->Prop}{w w':World}{vR:Value}{rs:List Lx.Rl}(h:mH F w vR rs)(hb:Below w.heap.size w w'):mH F w' vR rs:=h.move (fun b hF=>hb.block b (h.lt b hF)) hb.size
theorem mH.len {F:Nat->Prop}{w:World}{vR:Value}{rs:List Lx.Rl}(h:mH F w vR rs):∃ a c,vR=.slice a rs.length c/\rs.length<=maxLen:=Seq.len h.rl
theorem mH.at {F:Nat->Prop}{w:World}{vR:Value}{rs:List Lx.Rl}(h:mH F w vR rs){j:Nat}(hj:j<rs.length):∃ b cap va,vR=.slice (some ⟨b,0,none⟩) rs.length cap/\F b/\ay YP 9 F w va rs[j].alts/\w.cell? ⟨b,j*2,none⟩=some (.string rs[j].name)/\w.cell? ⟨b,j*2+1,none⟩=some va:=by
 obtain⟨b,cap,va,h1,h2,h3,h4⟩:=Seq.at h.rl (fun _=>rfl) hj;exact⟨b,cap,va,h1,h2,h3,h4 0 (by decide),h4 1 (by decide)⟩
theorem ae8 {F:Nat->Prop} {w:World} {vR:Value} {rs:List Lx.Rl} (h:mH F w vR rs) :
  Calls prog 51 #[vR] w fun e w'=>∃ B f,e=.returned (.map (some B))/\w.heap.size<=B/\SMap w' B f/\(∀ i (hi:i<rs.length),(∀ k (hk:k<rs.length),i<k->rs[k].name≠rs[i].name)->f rs[i].name=(i:Int))/\Below w.heap.size w w':=by
 obtain⟨a,c,rfl,hm⟩:=h.len;unfold maxLen at hm;have hmm:=@run_makeMap prog;go_enter func51,ntmps51;go_wp2_with fail;clear hmm;obtain⟨W,hW⟩:∃ W,W=w.alloc (.map #[] 0):=⟨_,rfl⟩;rw[<-hW];have hWs:W.heap.size=w.heap.size+1:=by rw[hW];simp
 have hB:Below w.heap.size w W:=by rw[hW];exact (Below.refl _ _).alloc (lr0) _
 have hM:SMap W w.heap.size (fun _=>0):=by rw[hW];exact iT.made _ w
 clear hW
 go_loopg [9] rs.length (fun k i wr=>∃ (j:Nat) (f:ByteArray->Int),j+k=rs.length/\i=.int .i64 j/\Below w.heap.size w wr/\SMap wr w.heap.size f/\Hid (∀ i (hi:i<rs.length),i<j->(∀ k (hk:k<rs.length),i<k->k<j->rs[k].name≠rs[i].name)->f rs[i].name=(i:Int)))
 case atStart=>exact⟨0,_,by omega,rfl,hB,hM,fun i hi h=>by omega⟩
 case round =>
  clear hM;obtain⟨j,f,hk,rfl,hbr,hM,HF⟩:=hrel;have hsr:=hM.lt
  by_cases hlt:j<rs.length
  ·obtain⟨gb,cap,va,hv,hFg,-,c0,c1⟩:=(h.below hbr).at hlt
   cases hv;obtain⟨nm,hnm⟩:∃ nm,nm=rs[j].name:=⟨_,rfl⟩;rw[<-hnm]at c0;obtain⟨W1,hW1⟩:∃ W1,W1=wr.alloc (.cells #[.string nm,va] 179):=⟨_,rfl⟩;have hb1:Below wr.heap.size wr W1:=by rw[hW1];exact (Below.refl _ _).alloc (lr0) _
   have hM1:SMap W1 w.heap.size f:=hM.move (hb1.block _ hsr);have hs1:W1.heap.size=wr.heap.size+1:=by rw[hW1];simp
   obtain⟨w2,hu,hM2,hg2,hs2⟩:=hM1.put nm (j:Int);have hb2:Below w.heap.size w w2:=(hbr.trans (hb1.mono (by omega))).grown hg2 (by omega) (fun k hk=>by cases hk;exact lr0);have AX:Hid (∀ i (hi:i<rs.length),i<j+1->(∀ k (hk:k<rs.length),i<k->k<j+1->rs[k].name≠rs[i].name)->(fun c=>if c=nm then (j:Int) else f c) rs[i].name=(i:Int)):=by
    intro i hi hij hu
    by_cases he:i=j
    ·subst he;simp[hnm]
    ·have hne:rs[i].name≠nm:=fun e=>hu j hlt (by omega) (by omega) (by rw[<-hnm,e])
     simp only[if_neg hne];exact HF.out i hi (by omega) fun k hk h1 h2=>hu k hk h1 (by omega)
   rw[hW1]at hu;obtain⟨sa,k',sc,hva⟩:∃ a k c,va=.slice a k c:=by
    obtain⟨_,_,tJ,hv',_,hA',_,hc'⟩:=(h.below hbr).at hlt;cases hv';rw[c1]at hc';cases hc';exact ay.form hA'
   subst hva;clear hnm HF hM1 hM;go_wp2_with fail;go_roundg (rs.length - (j+1))
   case measure=>omega
   case rel=>exact⟨j+1,_,by omega,by go_num,hb2,hM2,AX⟩
  ·have:j=rs.length:=by omega
   subst this;go_wp2_with fail;go_ret;exact⟨_,f,rfl,lr0,hM,fun i hi hu=>HF.out i hi hi fun k hk h1 _=>hu k hk h1,hbr⟩
namespace Lx
def sU (x:It):Prop:=(x.kind=0/\isName x.name=true/\x.alts=[])\/(x.kind=1/\isToken x.name=true/\x.alts=[])\/x.kind=2
def Cy (a:Alt):Prop:=a.2.1=aM\/isToken a.2.1=true
def ER (d:Nat)(aF:List Tk->aV (List Alt)):Prop:=∀ ts l ts',aF ts=.ok (l,ts')->(∀ x∈aX d l,sU x)
theorem ah6 {d:Nat}{aF:List Tk->aV (List Alt)}(hg:ER d aF){ts ts':List Tk}{x:It}(h:dh aF ts=.ok (x,ts')):∀ y∈nA d x,sU y:=by
 unfold dh at h
 split at h
 ·split at h
  ·cases h
  ·rename_i alts aC hq
   cases h;intro y hy;rcases List.mem_cons.1 hy with rfl | hy
   ·exact .inr (.inr rfl)
   ·exact hg _ _ _ hq y hy
 ·split at h
  ·rename_i hn
   cases h;intro y hy;rcases List.mem_cons.1 hy with rfl | hy
   ·exact .inl ⟨rfl,hn,rfl⟩
   ·rw[EB]at hy;cases hy
  ·split at h
   ·rename_i hn
    cases h;intro y hy;rcases List.mem_cons.1 hy with rfl | hy
    ·exact .inr (.inl ⟨rfl,hn,rfl⟩)
    ·rw[EB]at hy;cases hy
   ·cases h
theorem XD {d:Nat} {aF:List Tk->aV (List Alt)} (hg:ER d aF):∀ (f:Nat) (ts:List Tk) (a x:List It) (ts':List Tk),dU aF f ts a=.ok (x,ts')->(∀ y∈nC d a,sU y)->∀ y∈nC d x,sU y
 | 0,ts,a,x,ts',h,ha=>by cases h;exact ha
 | f+1,ts,a,x,ts',h,ha=>by
  unfold dU at h
  split at h
  ·split at h
   ·cases h
   ·rename_i z t1 hz
    refine XD hg f t1 _ x ts' h fun y hy=>?_
    unfold nC at hy;rw[List.flatMap_append]at hy;rcases List.mem_append.1 hy with hy | hy
    ·exact ha y hy
    ·rw[List.flatMap_cons,List.flatMap_nil,List.append_nil]at hy
     exact ah6 hg hz y hy
  ·cases h;exact ha
theorem Zf {d:Nat}{aF:List Tk->aV (List Alt)}(hg:ER d aF){top:Bool}{ts ts':List Tk}{x:Alt}(h:dJ aF top ts=.ok (x,ts')):(∀ y∈nC d x.1,sU y)/\Cy x:=by
 unfold dJ at h
 split at h
 ·cases h
 ·rename_i its t1 hi
  have h1:=XD hg _ _ _ _ _ hi (fun y hy=>by cases hy);unfold mq at h
  split at h
  ·split at h
   ·cases h
   ·rename_i b t2 hb
    cases h;obtain⟨rfl,rfl,hk⟩:=mY hb;exact⟨h1,.inr hk⟩
  ·cases h
   exact⟨h1,.inl rfl⟩
theorem Yx {d:Nat} {aF:List Tk->aV (List Alt)} (hg:ER d aF) {top:Bool}:∀ (f:Nat) (ts:List Tk) (a x:List Alt) (ts':List Tk),iZ aF top f ts a=.ok (x,ts')->((∀ y∈aX (d+1) a,sU y)/\∀ y∈a,Cy y)->(∀ y∈aX (d+1) x,sU y)/\∀ y∈x,Cy y
 | 0,ts,a,x,ts',h,ha=>by cases h;exact ha
 | f+1,ts,a,x,ts',h,ha=>by
  unfold iZ at h
  split at h
  ·split at h
   ·cases h
   ·rename_i z t1 hz
    have hz2:=Zf hg hz;refine Yx hg f t1 _ x ts' h ⟨fun y hy=>?_,fun y hy=>?_⟩
    ·rw[rH,List.flatMap_append]at hy
     rcases List.mem_append.1 hy with hy | hy
     ·exact ha.1 y hy
     ·rw[List.flatMap_cons,List.flatMap_nil,List.append_nil]at hy
      exact hz2.1 y hy
    ·rcases List.mem_append.1 hy with hy | hy
     ·exact ha.2 y hy
     ·rw[List.mem_singleton.1 hy];exact hz2.2
  ·cases h;exact ha
theorem WM {d:Nat}{aF:List Tk->aV (List Alt)}(hg:ER d aF){top:Bool}{ts ts':List Tk}{x:List Alt}(h:ni aF top ts=.ok (x,ts')):(∀ y∈aX (d+1) x,sU y)/\∀ y∈x,Cy y:=by
 unfold ni at h
 split at h
 ·cases h
 ·rename_i z t1 hz
  have hz2:=Zf hg hz;refine Yx hg _ _ _ _ _ h ⟨fun y hy=>?_,fun y hy=>?_⟩
  ·rw[rH,List.flatMap_cons,List.flatMap_nil,List.append_nil]at hy
   exact hz2.1 y hy
  ·rw[List.mem_singleton.1 hy];exact hz2.2
theorem ag6 {d:Nat}{r:List Tk->aV (List Alt)}(hr:∀ ts l ts',r ts=.ok (l,ts')->(∀ y∈aX d l,sU y)/\∀ y∈l,Cy y):ER d (mK r):=by
 intro ts l ts' h;unfold mK at h
 split at h
 ·cases h
 ·rename_i l1 t1 h1
  split at h
  ·cases h
  ·cases h
   exact (hr _ _ _ h1).1
theorem Yy:∀ (d:Nat) (ts:List Tk) (l:List Alt) (ts':List Tk),iN d ts=.ok (l,ts')->(∀ y∈aX (d+1) l,sU y)/\∀ y∈l,Cy y
 | 0,ts,l,ts',h=>WM (d:=0) (fun _ _ _ h=>by cases h) h
 | d+1,ts,l,ts',h=>WM (ag6 (Yy d)) h
def Ig (r:Rl):Prop:=isName r.name=true/\(∀ y∈aX 9 r.alts,sU y)/\∀ y∈r.alts,Cy y
theorem Yz {ts ts':List Tk}{x:Rl}(h:dI ts=.ok (x,ts')):Ig x:=by
 unfold dI at h
 split at h
 ·cases h
 ·rename_i n t1 h1
  obtain⟨rfl,rfl,hk⟩:=mY h1
  split at h
  ·cases h
  ·split at h
   ·cases h
   ·rename_i l t3 h3
    split at h
    ·cases h
    ·cases h
     exact⟨hk,Yy 8 _ _ _ h3⟩
theorem XE:∀ (f:Nat) (ts:List Tk) (a x:List Rl) (ts':List Tk),iE f ts a=.ok (x,ts')->(∀ r∈a,Ig r)->∀ r∈x,Ig r
 | 0,ts,a,x,ts',h,ha=>by cases h;exact ha
 | f+1,ts,a,x,ts',h,ha=>by
  unfold iE at h
  split at h
  ·cases h;exact ha
  ·split at h
   ·cases h
   ·rename_i z t1 hz
    refine XE f t1 _ x ts' h fun r hr=>?_
    rcases List.mem_append.1 hr with hr | hr
    ·exact ha r hr
    ·rw[List.mem_singleton.1 hr];exact Yz hz
theorem WN:∀ (f:Nat) (ts a x:List Tk) (ts':List Tk),iX f ts a=.ok (x,ts')->(∀ t∈a,isToken t.1=true)->∀ t∈x,isToken t.1=true
 | 0,ts,a,x,ts',h,ha=>by cases h;exact ha
 | f+1,ts,a,x,ts',h,ha=>by
  unfold iX at h
  split at h
  ·cases h;exact ha
  ·split at h
   ·cases h
   ·rename_i b t1 h1
    obtain⟨rfl,rfl,hk⟩:=mY h1;refine WN f _ _ _ _ h fun t ht=>?_
    rcases List.mem_append.1 ht with ht | ht
    ·exact ha t ht
    ·rw[List.mem_singleton.1 ht];exact hk
def Mh (l:Lv):Prop:=∀ t∈l.tokens,isToken t.1=true
theorem WO:∀ (f:Nat) (ts:List Tk) (a x:List Lv) (ts':List Tk),fP f ts a=.ok (x,ts')->(∀ l∈a,Mh l)->∀ l∈x,Mh l
 | 0,ts,a,x,ts',h,ha=>by cases h;exact ha
 | f+1,ts,a,x,ts',h,ha=>by
  unfold fP at h
  split at h
  ·split at h
   ·cases h
   ·rename_i z t1 hz
    refine WO f t1 _ x ts' h fun l hl=>?_
    rcases List.mem_append.1 hl with hl | hl
    ·exact ha l hl
    ·rw[List.mem_singleton.1 hl]
     unfold gZ at hz
     split at hz
     ·cases hz
     ·rename_i b t2 hb
      obtain⟨rfl,rfl,hw⟩:=mY hb
      split at hz
      ·cases hz
      ·rename_i l t3 h3
       cases hz;exact WN _ _ _ _ _ h3 fun t ht=>by rw[List.mem_singleton.1 ht];exact hw
  ·cases h;exact ha
theorem Ca {s:ByteArray}{g:Gr}(h:parse s=.ok g):(∀ l∈g.levels,Mh l)/\(∀ r∈g.rules,Ig r)/\0<g.rules.length:=by
 unfold parse at h
 split at h
 ·cases h
 ·split at h
  ·cases h
  ·rename_i g' ts' hp
   cases h;unfold gX at hp
   split at hp
   ·cases hp
   ·rename_i lv t1 h1
    split at hp
    ·cases hp
    ·rename_i x t2 h2
     split at hp
     ·cases hp
     ·rename_i l t3 h3
      cases hp;refine⟨WO _ _ _ _ _ h1 (fun _ h=>by cases h),XE _ _ _ _ _ h3 (fun r hr=>by rw[List.mem_singleton.1 hr];exact Yz h2),?_⟩;obtain⟨y,e,-⟩:=OH _ _ _ _ _ h3;show 0<l.length;rw[e];simp
def Dp:Nat->List Alt->Prop
 | 0,l=>l=[]
 | d+1,l=>∀ a∈l,∀ x∈a.1,Dp d x.alts
theorem nQ {d:Nat}{l:List Alt}{y:It}:y∈aX (d+1) l↔∃ a∈l,∃ x∈a.1,y=x\/y∈aX d x.alts:=by
 rw[rH,List.mem_flatMap];constructor
 ·rintro⟨a,ha,hy⟩
  obtain⟨x,hx,hy⟩:=List.mem_flatMap.1 hy;exact⟨a,ha,x,hx,List.mem_cons.1 hy⟩
 ·rintro⟨a,ha,x,hx,hy⟩
  exact⟨a,ha,List.mem_flatMap.2 ⟨x,hx,List.mem_cons.2 hy⟩⟩
theorem Cg:∀ {d:Nat} {l:List Alt},Dp d l->∀ {x:It},x∈aX d l->∀ {a:Alt},a∈x.alts->∀ {y:It},y∈a.1->y∈aX d l
 | 0,l,h,x,hx,a,ha,y,hy=>by cases hx
 | d+1,l,h,x,hx,a,ha,y,hy=>by
  obtain⟨b,hb,z,hz,hx⟩:=nQ.1 hx;refine nQ.2 ⟨b,hb,z,hz,.inr ?_⟩;have hD:=h b hb z hz;rcases hx with rfl | hx
  ·cases d with
   | zero=>rw[show x.alts=[] from hD]at ha;cases ha
   | succ d=>exact nQ.2 ⟨a,ha,y,hy,.inl rfl⟩
  ·exact Cg hD hx ha hy
theorem He {α:Type} (f:α->Nat):∀ {l:List α} {a:α},a∈l->f a<=(l.map f).sum
 | b::l,a,h=>by
  rw[List.map_cons,List.sum_cons];rcases List.mem_cons.1 h with rfl | h
  ·omega
  ·have:=He f h;omega
theorem Ag {α:Type} (f:α->Nat):∀ {l:List α},(∀ a∈l,1<=f a)->l.length<=(l.map f).sum
 | [],_=>lr0
 | b::l,h=>by
  rw[List.map_cons,List.sum_cons,List.length_cons];have:=h b List.mem_cons_self;have:=Ag f (l:=l) fun a ha=>h a (List.mem_cons_of_mem _ ha)
  omega
theorem XF:∀ {d:Nat} {l:List Alt},Dp d l->l.length<=iP d l/\∀ a∈l,a.1.length<=iP d l
 | 0,l,h=>by rw[show l=[] from h];exact⟨lr0,fun _ h=>by cases h⟩
 | d+1,l,h=>by
  rw[BU];refine⟨Ag _ fun a _=>by omega,fun a ha=>?_⟩;have h1:1+sN d a.1<=_:=He (fun a:Alt=>1+sN d a.1) ha;have h2:a.1.length<=sN d a.1:=Ag _ fun x _=>by unfold Cn;omega
  omega
theorem YA:∀ {d:Nat} {l:List Alt},Dp d l->∀ {x:It},x∈aX d l->x.alts.length<=iP d l/\∀ a∈x.alts,a.1.length<=iP d l
 | 0,l,h,x,hx=>by cases hx
 | d+1,l,h,x,hx=>by
  obtain⟨b,hb,z,hz,hx⟩:=nQ.1 hx;have hD:=h b hb z hz;have hs:iP d z.alts<=iP (d+1) l:=by
   rw[BU];have h1:1+sN d b.1<=_:=He (fun a:Alt=>1+sN d a.1) hb;have h2:1+iP d z.alts<=sN d b.1:=He (Cn d) hz;omega
  have h4:x.alts.length<=iP d z.alts/\∀ a∈x.alts,a.1.length<=iP d z.alts:=by
   rcases hx with rfl | hx
   ·exact XF hD
   ·exact YA hD hx
  exact⟨by omega,fun a ha=>by have:=h4.2 a ha;omega⟩
end Lx
theorem Pk {Y:Tr.Lay} {F:Nat->Prop} {w:World}:∀ {d:Nat} {v:Value} {l:List Lx.Alt},Tr.ay Y d F w v l->Lx.Dp d l
 | 0,_,_,h=>h.2
 | d+1,v,l,h=>by
  obtain⟨ps,h1,-,-,h4⟩:=h;intro a ha x hx;rw[<-h1]at ha;obtain⟨q,hq,rfl⟩:=List.mem_map.1 ha;obtain⟨qs,k1,-,-,k4⟩:=h4 q hq;rw[<-k1]at hx;obtain⟨p,hp,rfl⟩:=List.mem_map.1 hx;exact Pk (k4 p hp)
def aZ:Value->Nat
 | .slice (some a) _ _=>a.block
 | _=>0
def cv (w:World)(a:Addr):Value:=(w.cell? a).getD (.slice none 0 0)
abbrev AI:=Addr × Lx.It
def eY (sub:Value->List Lx.Alt->List AI) (w:World) (g:Nat):Nat->List Lx.It->List AI
 | _,[]=>[]
 | i,x::xs=>((⟨g,i*4,none⟩:Addr),x)::(sub (cv w ⟨g,i*4+3,none⟩) x.alts++eY sub w g (i+1) xs)
def eu (sub:Value->List Lx.Alt->List AI) (w:World) (g:Nat):Nat->List Lx.Alt->List AI
 | _,[]=>[]
 | j,a::l=>eY sub w (aZ (cv w ⟨g,j*2,none⟩)) 0 a.1++eu sub w g (j+1) l
def aT:Nat->World->Value->List Lx.Alt->List AI
 | 0,_,_,_=>[]
 | d+1,w,v,l=>eu (aT d w) w (aZ v) 0 l
theorem VW {sub:Value->List Lx.Alt->List AI} {w:World} {g d:Nat}:∀ (its:List Lx.It) (i:Nat),(∀ k x,its[k]?=some x->(sub (cv w ⟨g,(i+k)*4+3,none⟩) x.alts).map Prod.snd=aX d x.alts)->(eY sub w g i its).map Prod.snd=nC d its
 | [],_,_=>rfl
 | x::xs,i,h=>by
  have h0:=h 0 x rfl;have h1:=VW (sub:=sub) (w:=w) (g:=g) (d:=d) xs (i+1) fun k y hy=>by
   have:=h (k+1) y (by simpa using hy);rw[show i+(k+1)=i+1+k by omega]at this;exact this
  rw[eY,List.map_cons,List.map_append,h1];simp only[Nat.add_zero]at h0;rw[h0];rfl
theorem WQ {sub:Value->List Lx.Alt->List AI} {w:World} {g d:Nat}:∀ (l:List Lx.Alt) (j:Nat),(∀ k a,l[k]?=some a->(eY sub w (aZ (cv w ⟨g,(j+k)*2,none⟩)) 0 a.1).map Prod.snd=nC d a.1)->(eu sub w g j l).map Prod.snd=aX (d+1) l
 | [],_,_=>rfl
 | a::l,j,h=>by
  have h0:=h 0 a rfl;have h1:=WQ (sub:=sub) (w:=w) (g:=g) (d:=d) l (j+1) fun k y hy=>by
   have:=h (k+1) y (by simpa using hy);rw[show j+(k+1)=j+1+k by omega]at this;exact this
  rw[eu,List.map_append,h1];simp only[Nat.add_zero]at h0;rw[h0];rfl
theorem Eu {d:Nat}{F:Nat->Prop}{w:World}{v:Value}{l:List Lx.Alt}(h:ay YP (d+1) F w v l){j:Nat}(hj:j<l.length):F (aZ v)/\∃ vi,w.cell? ⟨aZ v,j*2,none⟩=some vi/\bJ YP d F w vi l[j].1:=by
 obtain⟨b,cap,vi,h1,h2,h3,h4⟩:=Seq.at h (fun _=>rfl) hj;subst h1;exact⟨h2,vi,h4 0 (by decide),h3⟩
theorem WS {d:Nat}{F:Nat->Prop}{w:World}{v:Value}{l:List Lx.It}(h:bJ YP d F w v l){j:Nat}(hj:j<l.length):F (aZ v)/\∃ va,w.cell? ⟨aZ v,j*4+3,none⟩=some va/\ay YP d F w va l[j].alts:=by
 unfold bJ nV at h;obtain⟨b,cap,vi,h1,h2,h3,h4⟩:=Seq.at h (fun _=>rfl) hj;subst h1;exact⟨h2,vi,h4 3 (by decide),h3⟩
theorem EK:∀ {d:Nat} {F:Nat->Prop} {w:World} {v:Value} {l:List Lx.Alt},ay YP d F w v l->(aT d w v l).map Prod.snd=aX d l
 | 0,_,_,_,_,_=>rfl
 | d+1,F,w,v,l,h=>by
  refine WQ l 0 fun k a ha=>?_
  obtain⟨hk,rfl⟩:=List.getElem?_eq_some_iff.1 ha;obtain⟨-,vi,hc,hi⟩:=Eu h hk;have e1:cv w ⟨aZ v,(0+k)*2,none⟩=vi:=by unfold cv;rw[Nat.zero_add,hc];rfl
  rw[e1];refine VW _ 0 fun m x hx=>?_
  obtain⟨hm,rfl⟩:=List.getElem?_eq_some_iff.1 hx;obtain⟨-,va,hc2,hA⟩:=WS hi hm;have e2:cv w ⟨aZ vi,(0+m)*4+3,none⟩=va:=by unfold cv;rw[Nat.zero_add,hc2];rfl
  rw[e2];exact EK hA
theorem Vp {sub sub':Value->List Lx.Alt->List AI} {w w':World} {g:Nat}:∀ (its:List Lx.It) (i:Nat),(∀ k x,its[k]?=some x->sub' (cv w' ⟨g,(i+k)*4+3,none⟩) x.alts=sub (cv w ⟨g,(i+k)*4+3,none⟩) x.alts)->eY sub' w' g i its=eY sub w g i its
 | [],_,_=>rfl
 | x::xs,i,h=>by
  have h0:=h 0 x rfl;have h1:=Vp (sub:=sub) (sub':=sub') (w:=w) (w':=w') (g:=g) xs (i+1) fun k y hy=>by
   have:=h (k+1) y (by simpa using hy);rw[show i+(k+1)=i+1+k by omega]at this;exact this
  simp only[Nat.add_zero]at h0;rw[eY,eY,h0,h1]
theorem VX {sub sub':Value->List Lx.Alt->List AI} {w w':World} {g:Nat}:∀ (l:List Lx.Alt) (j:Nat),(∀ k a,l[k]?=some a->eY sub' w' (aZ (cv w' ⟨g,(j+k)*2,none⟩)) 0 a.1=eY sub w (aZ (cv w ⟨g,(j+k)*2,none⟩)) 0 a.1)->eu sub' w' g j l=eu sub w g j l
 | [],_,_=>rfl
 | a::l,j,h=>by
  have h0:=h 0 a rfl;have h1:=VX (sub:=sub) (sub':=sub') (w:=w) (w':=w') (g:=g) l (j+1) fun k y hy=>by
   have:=h (k+1) y (by simpa using hy);rw[show j+(k+1)=j+1+k by omega]at this;exact this
  simp only[Nat.add_zero]at h0;rw[eu,eu,h0,h1]
theorem Qn {w w':World}{a:Addr}(h:w'.heap[a.block]?=w.heap[a.block]?):cv w' a=cv w a:=by unfold cv;rw[World.cell?_of_block h]
theorem GY:∀ {d:Nat} {F:Nat->Prop} {w w':World} {v:Value} {l:List Lx.Alt},ay YP d F w v l->(∀ b,F b->w'.heap[b]?=w.heap[b]?)->aT d w' v l=aT d w v l
 | 0,_,_,_,_,_,_,_=>rfl
 | d+1,F,w,w',v,l,h,hs=>by
  refine VX l 0 fun k a ha=>?_
  obtain⟨hk,rfl⟩:=List.getElem?_eq_some_iff.1 ha;obtain⟨hF,vi,hc,hi⟩:=Eu h hk;have e1:cv w ⟨aZ v,(0+k)*2,none⟩=vi:=by unfold cv;rw[Nat.zero_add,hc];rfl
  rw[Qn (hs _ hF),e1];refine Vp _ 0 fun m x hx=>?_
  obtain⟨hm,rfl⟩:=List.getElem?_eq_some_iff.1 hx;obtain⟨hF2,va,hc2,hA⟩:=WS hi hm;have e2:cv w ⟨aZ vi,(0+m)*4+3,none⟩=va:=by unfold cv;rw[Nat.zero_add,hc2];rfl
  rw[Qn (hs _ hF2),e2];exact GY hA hs
theorem Vq {sub:Value->List Lx.Alt->List AI}{w:World}{g:Nat}{its:List Lx.It}{m:Nat}(hm:m<its.length):eY sub w g m (its.drop m)=((⟨g,m*4,none⟩:Addr),its[m])::(sub (cv w ⟨g,m*4+3,none⟩) its[m].alts++eY sub w g (m+1) (its.drop (m+1))):=by
 rw[List.drop_eq_getElem_cons hm,eY]
theorem VY {sub:Value->List Lx.Alt->List AI}{w:World}{g:Nat}{l:List Lx.Alt}{j:Nat}(hj:j<l.length):eu sub w g j (l.drop j)=eY sub w (aZ (cv w ⟨g,j*2,none⟩)) 0 l[j].1++eu sub w g (j+1) (l.drop (j+1)):=by
 rw[List.drop_eq_getElem_cons hj,eu]
def je (w:World)(b:Nat):Prop:=∃ (ca:Array Value) (ta:TypeId),w.heap[b]?=some (.cells ca ta (0,0))
theorem je.move {w w':World}{b:Nat}(h:je w b)(hb:w'.heap[b]?=w.heap[b]?):je w' b:=by
 obtain⟨ca,ta,h⟩:=h;exact⟨ca,ta,hb.trans h⟩
def Apart (F:Nat->Prop)(w:World)(l:List AI):Prop:=(∀ p∈l,F p.1.block/\je w p.1.block)/\(l.map Prod.fst).Nodup
def Q5 (Fs:Nat->Nat->Prop):Prop:=∀ k k',k<k'->∀ b,Fs k b->Fs k' b->False
theorem Tr.eO.at {α:Type} {F:Nat->Prop} {w:World} {e s:Nat} {c:Value × α->List Value} {K:(Nat->Prop)->World->Value->α->Prop} {v:Value} {l:List α} (h:eO F w e s c K v l) (hc:∀ q,(c q).length=s) :
  ∃ Fs:Nat->Nat->Prop,Q5 Fs/\(∀ k b,Fs k b->F b)/\(∀ g,v.ownBlock=some g->F g/\je w g/\∀ k,¬ Fs k g) /\
   ∀ j (hj:j<l.length),∃ g cap vk,v=.slice (some ⟨g,0,none⟩) l.length cap/\K (Fs j) w vk l[j]/\∀ i,i<s->w.cell? ⟨g,j*s+i,none⟩=(c (vk,l[j]))[i]?:=by
 obtain⟨ps,Fs,h1,h2,h3,h4,h5,h6,h7⟩:=h;have hl:ps.length=l.length:=by rw[<-h1];simp
 have Nl:∀ k b,((Fs[k]?).getD fun _=>False) b->∃ hk:k<Fs.length,Fs[k] b:=by
  intro k b hb
  by_cases hk:k<Fs.length
  ·rw[List.getElem?_eq_getElem hk]at hb;exact⟨hk,hb⟩
  ·rw[List.getElem?_eq_none (by omega)]at hb;exact hb.elim
 refine⟨fun k=>(Fs[k]?).getD fun _=>False,?_,?_,?_,?_⟩
 ·intro k k' hkk b hb hb'
  obtain⟨hk,hb⟩:=Nl k b hb;obtain⟨hk',hb'⟩:=Nl k' b hb';exact List.pairwise_iff_getElem.1 h5 k k' hk hk' hkk b hb hb'
 ·intro k b hb
  obtain⟨hk,hb⟩:=Nl k b hb;exact h4 _ (List.getElem_mem hk) b hb
 ·intro g hg
  refine⟨(h3 g hg).1,?_,fun k hb=>?_⟩
  ·rcases h2.2 with h0 | ⟨g',cap,cur,hv,-,hh,-⟩
   ·rw[h0.1]at hg;simp[Value.ownBlock]at hg
   ·have:g'=g:=by rw[hv]at hg;simpa [Value.ownBlock]using hg
    subst this;exact⟨_,_,hh⟩
  ·obtain⟨hk,hb⟩:=Nl k g hb
   exact (h3 g hg).2 _ (List.getElem_mem hk) hb
 ·intro j hj
  obtain⟨g,cap,rfl,-,-⟩:=h2.form (by omega);have hq:ps[j]?=some ps[j]:=List.getElem?_eq_getElem (by omega);have hA:Fs[j]?=some Fs[j]:=List.getElem?_eq_getElem (by omega);have e5:(ps[j]).2=l[j]:=by
   have:(ps.map Prod.snd)[j]?=l[j]?:=by rw[h1]
   rw[List.getElem?_map,hq,List.getElem?_eq_getElem hj]at this;simpa using this
  refine⟨g,cap,(ps[j]).1,rfl,?_,?_⟩
  ·have:=h7 j _ _ hq hA
   rw[e5]at this;show K ((Fs[j]?).getD fun _=>False) w _ _;rw[hA];exact this
  ·intro i hi
   have hlt:j*s+i<l.length*s:=by
    have:(j+1)*s<=l.length*s:=Nat.mul_le_mul_right s hj;rw[Nat.succ_mul]at this;omega
   rw[h2.cellAt (j*s+i) hlt,flat_get c s hc ps j i _ hq hi,<-e5]
theorem U4 {sub:Value->List Lx.Alt->List AI} {w:World} {g:Nat} {Fs:Nat->Nat->Prop} (hs:Q5 Fs) (hg:∀ k,¬ Fs k g) (hc:je w g):∀ (its:List Lx.It) (i:Nat),(∀ k x,its[k]?=some x->Apart (Fs (i+k)) w (sub (cv w ⟨g,(i+k)*4+3,none⟩) x.alts)) ->
  (∀ p∈eY sub w g i its,je w p.1.block/\((p.1.block=g/\∃ m,i<=m/\p.1.off=m*4)\/∃ k,i<=k/\Fs k p.1.block))/\((eY sub w g i its).map Prod.fst).Nodup
 | [],i,_=>⟨fun p h=>(by cases h),List.nodup_nil⟩
 | x::xs,i,h=>by
  have h0:=h 0 x rfl;simp only[Nat.add_zero]at h0;have h1:=U4 hs hg hc xs (i+1) fun k y hy=>by
   have:=h (k+1) y (by simpa using hy);rw[show i+(k+1)=i+1+k by omega]at this;exact this
  rw[eY];refine⟨fun p hp=>?_,?_⟩
  ·rcases List.mem_cons.1 hp with rfl | hp
   ·exact⟨hc,.inl ⟨rfl,i,lr0,rfl⟩⟩
   ·rcases List.mem_append.1 hp with hp | hp
    ·exact⟨(h0.1 p hp).2,.inr ⟨i,lr0,(h0.1 p hp).1⟩⟩
    ·obtain⟨a,b⟩:=h1.1 p hp
     refine⟨a,?_⟩;rcases b with ⟨e,m,hm,ho⟩ | ⟨k,hk,hF⟩
     ·exact .inl ⟨e,m,by omega,ho⟩
     ·exact .inr ⟨k,by omega,hF⟩
  ·rw[List.map_cons,List.map_append,List.nodup_cons,List.nodup_append]
   refine⟨fun hm=>?_,h0.2,h1.2,fun a ha b hb e=>?_⟩
   ·rcases List.mem_append.1 hm with hm | hm
    ·obtain⟨p,hp,e⟩:=List.mem_map.1 hm
     have:=(h0.1 p hp).1;rw[e]at this;exact hg _ this
    ·obtain⟨p,hp,e⟩:=List.mem_map.1 hm
     rcases (h1.1 p hp).2 with ⟨-,m,hm,ho⟩ | ⟨k,hk,hF⟩
     ·rw[e]at ho
      have ho':i*4=m*4:=ho;omega
     ·rw[e]at hF;exact hg _ hF
   ·subst e
    obtain⟨p,hp,e1⟩:=List.mem_map.1 ha;obtain⟨q,hq,e2⟩:=List.mem_map.1 hb;have f1:=(h0.1 p hp).1;rw[e1]at f1;rcases (h1.1 q hq).2 with ⟨hb',-⟩ | ⟨k,hk,hF⟩
    ·rw[e2]at hb';rw[hb']at f1;exact hg _ f1
    ·rw[e2]at hF;exact hs i k (by omega) _ f1 hF
def qg {α:Type} (f:Nat->α->List AI):Nat->List α->List AI
 | _,[]=>[]
 | j,a::l=>f j a++qg f (j+1) l
theorem OB {α:Type} {f:Nat->α->List AI} {w:World} {Fs:Nat->Nat->Prop} (hs:Q5 Fs):∀ (l:List α) (j:Nat),(∀ k a,l[k]?=some a->Apart (Fs (j+k)) w (f (j+k) a)) ->
  (∀ p∈qg f j l,je w p.1.block/\∃ k,j<=k/\Fs k p.1.block)/\((qg f j l).map Prod.fst).Nodup
 | [],j,_=>⟨fun p h=>(by cases h),List.nodup_nil⟩
 | x::xs,j,h=>by
  have h0:=h 0 x rfl;simp only[Nat.add_zero]at h0;have h1:=OB (f:=f) (w:=w) hs xs (j+1) fun k y hy=>by
   have:=h (k+1) y (by simpa using hy);rw[show j+(k+1)=j+1+k by omega]at this;exact this
  rw[qg];refine⟨fun p hp=>?_,?_⟩
  ·rcases List.mem_append.1 hp with hp | hp
   ·exact⟨(h0.1 p hp).2,j,lr0,(h0.1 p hp).1⟩
   ·obtain⟨a,k,hk,hF⟩:=h1.1 p hp
    exact⟨a,k,by omega,hF⟩
  ·rw[List.map_append,List.nodup_append]
   refine⟨h0.2,h1.2,fun a ha b hb e=>?_⟩;subst e;obtain⟨p,hp,e1⟩:=List.mem_map.1 ha;obtain⟨q,hq,e2⟩:=List.mem_map.1 hb;have f1:=(h0.1 p hp).1;rw[e1]at f1;obtain⟨-,k,hk,hF⟩:=h1.1 q hq;rw[e2]at hF;exact hs j k (by omega) _ f1 hF
theorem XG {sub:Value->List Lx.Alt->List AI} {w:World} {g:Nat}:∀ (l:List Lx.Alt) (j:Nat),eu sub w g j l=qg (fun j a=>eY sub w (aZ (cv w ⟨g,j*2,none⟩)) 0 a.1) j l
 | [],_=>rfl
 | a::l,j=>by rw[eu,qg,XG l (j+1)]
theorem XH:∀ {d:Nat} {F:Nat->Prop} {w:World} {v:Value} {l:List Lx.Alt},fD YP d F w v l->Apart F w (aT d w v l)
 | 0,_,_,_,_,_=>⟨fun p h=>(by cases h),List.nodup_nil⟩
 | d+1,F,w,v,l,h=>by
  obtain⟨Fs,h1,h2,h3,h4⟩:=eO.at h (fun _=>rfl);have e0:aT (d+1) w v l=qg (fun j a=>eY (aT d w) w (aZ (cv w ⟨aZ v,j*2,none⟩)) 0 a.1) 0 l:=XG l 0;have hx:=OB (f:=fun j (a:Lx.Alt)=>eY (aT d w) w (aZ (cv w ⟨aZ v,j*2,none⟩)) 0 a.1) (w:=w) h1 l 0 fun k a ha=>by
   obtain⟨hk,rfl⟩:=List.getElem?_eq_some_iff.1 ha;obtain⟨g,cap,vi,hv,hi,hcell⟩:=h4 k hk;subst hv;have hc0:w.cell? ⟨g,k*2,none⟩=some vi:=hcell 0 (by decide);have e1:cv w ⟨g,(0+k)*2,none⟩=vi:=by unfold cv;rw[Nat.zero_add,hc0];rfl
   rw[show aZ (.slice (some ⟨g,0,none⟩) l.length cap)=g from rfl,e1,Nat.zero_add];obtain⟨Gs,k1,k2,k3,k4⟩:=eO.at hi (fun _=>rfl)
   by_cases hlen:0<l[k].1.length
   ·obtain⟨n,rP,va,hv2,-,-⟩:=k4 0 hlen
    obtain⟨kF,kc,kn⟩:=k3 n (by rw[hv2];rfl);have hy:=U4 (sub:=aT d w) (w:=w) (g:=n) k1 kn kc l[k].1 0 fun m x hx=>by
     obtain⟨hm,rfl⟩:=List.getElem?_eq_some_iff.1 hx;obtain⟨n',amJ,tJ,hv3,hA,hcell2⟩:=k4 m hm;have:n'=n:=by rw[hv2]at hv3;cases hv3;rfl
     subst this;have hc3:w.cell? ⟨n',m*4+3,none⟩=some tJ:=hcell2 3 (by decide);have e2:cv w ⟨n',(0+m)*4+3,none⟩=tJ:=by unfold cv;rw[Nat.zero_add,hc3];rfl
     rw[e2,Nat.zero_add];exact XH hA
    rw[hv2,show aZ (.slice (some ⟨n,0,none⟩) l[k].1.length rP)=n from rfl];refine⟨fun p hp=>?_,hy.2⟩;obtain⟨a,b⟩:=hy.1 p hp;refine⟨?_,a⟩;rcases b with ⟨e,-⟩ | ⟨m,-,hF⟩
    ·rw[e];exact kF
    ·exact k2 m _ hF
   ·have:l[k].1=[]:=List.eq_nil_of_length_eq_zero (by omega)
    rw[this];exact⟨fun p h=>(by cases h),List.nodup_nil⟩
  rw[e0];exact⟨fun p hp=>by obtain⟨a,k,-,hF⟩:=hx.1 p hp;exact⟨h2 k _ hF,a⟩,hx.2⟩
def Qo (w:World)(g:Nat):Nat->List Lx.Rl->List AI:=qg fun j r=>aT 9 w (cv w ⟨g,j*2+1,none⟩) r.alts
theorem U5 {F:Nat->Prop}{w:World}{v:Value}{rs:List Lx.Rl}(h:Tr.eO F w 179 2 cR KR v rs):Apart F w (Qo w (aZ v) 0 rs):=by
 obtain⟨Fs,h1,h2,h3,h4⟩:=eO.at h (fun _=>rfl);have hx:=OB (f:=fun j (r:Lx.Rl)=>aT 9 w (cv w ⟨aZ v,j*2+1,none⟩) r.alts) (w:=w) h1 rs 0 fun k a ha=>by
  obtain⟨hk,rfl⟩:=List.getElem?_eq_some_iff.1 ha;obtain⟨g,cap,va,hv,hA,hcell⟩:=h4 k hk;subst hv;have hc0:w.cell? ⟨g,k*2+1,none⟩=some va:=hcell 1 (by decide);have e1:cv w ⟨g,(0+k)*2+1,none⟩=va:=by unfold cv;rw[Nat.zero_add,hc0];rfl
  rw[show aZ (.slice (some ⟨g,0,none⟩) rs.length cap)=g from rfl,e1,Nat.zero_add];exact XH hA
 exact⟨fun p hp=>by obtain⟨a,k,-,hF⟩:=hx.1 p hp;exact⟨h2 k _ hF,a⟩,hx.2⟩
end Go.Proofs.YtlcppnabbicmoaaGreatDoor

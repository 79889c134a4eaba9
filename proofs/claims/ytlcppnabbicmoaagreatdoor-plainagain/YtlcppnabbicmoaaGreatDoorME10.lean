import Derived.Test.YtlcppnabbicmoaaGreatDoorME09
set_option maxHeartbeats 8000000
set_option maxRecDepth 1000000
namespace Go.Proofs.YtlcppnabbicmoaaGreatDoor
open Go.RowKit
open Tr
namespace Lx
def usedD (d:Nat)(l:List Alt):List ByteArray:=textsOf ((flatA d l).filter fun w=>decide (w.1=2))
def usedI (d:Nat)(x:It):List ByteArray:=(if x.kind=0 then [x.name] else [])++usedD d x.alts
theorem textsOf_app (a b:List Wd):textsOf (a++b)=textsOf a++textsOf b:=by unfold textsOf;rw[List.map_append]
theorem used_flatI (d:Nat)(x:It):textsOf ((flatI d x).filter fun w=>decide (w.1=2))=usedI d x:=by
 unfold flatI usedI usedD;rw[List.filter_append,textsOf_app];congr 1
 split
 ·simp[textsOf]
 ·split
  ·simp[textsOf]
  ·rfl
theorem used_items (d:Nat):∀ its:List It,textsOf ((its.flatMap (flatI d)).filter fun w=>decide (w.1=2))=its.flatMap (usedI d)
 | []=>rfl
 | x::its=>by rw[List.flatMap_cons,List.filter_append,textsOf_app,used_flatI,used_items d its,List.flatMap_cons]
theorem usedD_succ (d:Nat):∀ l:List Alt,usedD (d+1) l=l.flatMap fun a=>a.1.flatMap (usedI d)
 | []=>rfl
 | a::l=>by
  have ih:=usedD_succ d l;unfold usedD at ih ⊢;rw[flatA_succ]at ih ⊢;rw[List.flatMap_cons,List.filter_append,textsOf_app,ih,flatOne_eq,List.filter_append,textsOf_app,used_items,List.flatMap_cons];have:textsOf ((precW a).filter fun w=>decide (w.1=2))=[]:=by
   unfold precW;split
   ·rfl
   ·simp[textsOf]
  rw[this,List.append_nil]
theorem markL_app (ns a b:List ByteArray)(bs:List Bool):markL ns (a++b) bs=markL ns b (markL ns a bs):=by unfold markL;rw[List.foldl_append]
theorem markL_len (ns:List ByteArray)(us:List ByteArray)(bs:List Bool):(markL ns us bs).length=bs.length:=(mark_le ns us bs).1.symm
theorem unk_item_ok {g:Gr}{d:Nat}{x:It}{r:List Wd}(h:unk g (flatI d x++r)=none):(x.kind=0->0<=fnd (ruleNames g) x.name)/\unk g (flatA d x.alts)=none/\unk g r=none:=by
 by_cases he:x.kind=0/\fnd (ruleNames g) x.name<0
 ·rw[unk_item_no he.1 he.2]at h;cases h
 ·rw[unk_item_go he]at h
  refine⟨fun h0=>?_,?_⟩
  ·have:=fun h=>he ⟨h0,h⟩;omega
  ·cases h1:unk g (flatA d x.alts) with
   | none=>rw[h1]at h;exact⟨rfl,h⟩
   | some p=>rw[h1]at h;cases h
theorem unk_prec_ok {g:Gr}{a:Alt}{r:List Wd}(h:unk g (precW a++r)=none):unk g r=none:=by
 rw[unk_app]at h;cases h1:unk g (precW a) with
 | none=>rw[h1]at h;exact h
 | some p=>rw[h1]at h;cases h
end Lx
def boolsV (bs:List Bool):Array Value:=(bs.map Value.bool).toArray
theorem bools_set (bs:List Bool)(i:Nat)(b:Bool):(boolsV bs).setIfInBounds i (.bool b)=boolsV (bs.set i b):=by
 unfold boolsV;rw[List.setIfInBounds_toArray,List.map_set]
theorem bools_get (bs:List Bool){i:Nat}(h:i<bs.length):(boolsV bs)[i]?=some (.bool (Lx.at? bs i)):=by
 unfold boolsV Lx.at?;simp[h]
theorem fnd_fix {l:List ByteArray}{b:ByteArray}(h:0<=Lx.fnd l b):Lx.fnd l b=(Lx.fix l b:Int)/\Lx.fix l b<l.length:=by
 unfold Lx.fnd at h ⊢
 split
 ·rename_i h1;exact⟨rfl,h1⟩
 ·rename_i h1;rw[if_neg h1]at h;omega
def MarkSaid (d:Nat):Prop:=∀ (F:Nat->Prop) (w:World) (vL vR:Value) (g:Lx.Gr),DG F w vL vR g->∀ (v:Value) (l:List Lx.Alt),AltsIn YR d F w v l->Lx.unk g (Lx.flatA d l)=none->∀ (o:Nat) (bs:List Bool),¬ F o->Blk w o (boolsV bs) 4->bs.length=g.rules.length ->
 Calls Tryz.prog 61 #[.agg #[vL,vR],v,.slice (some ⟨o,0,none⟩) g.rules.length g.rules.length] w fun e w'=>e=.returned (.tuple #[])/\w.grownBy w' (some o)/\Blk w' o (boolsV (Lx.markL (Lx.ruleNames g) (Lx.usedD d l) bs)) 4
theorem mark_zero:MarkSaid 0:=by
 intro F w vL vR g h v l hl hu o bs hF hB hlen;obtain⟨rfl,rfl⟩:=hl;obtain⟨a,c,rfl,-⟩:=h.lenR;obtain⟨a',c',rfl,-⟩:=h.lenL;go_enter Tryz.func61,Tryz.ntmps61;go_wp2_with fail
 go_loopg [6] 0 (fun k i wr=>k=0/\i=.int .i64 0/\wr=w.alloc (.cells #[.slice a' g.levels.length c',.slice a g.rules.length c] 49))
 case atStart=>exact⟨rfl,rfl,rfl⟩
 case round =>
  obtain⟨rfl,rfl,rfl⟩:=hrel;go_wp2_with fail
  go_end0
  exact⟨rfl,grown_alloc _ _ _,hB.alloc _⟩
theorem mark_succ {d:Nat}(IH:MarkSaid d):MarkSaid (d+1):=by
 intro F w vL vR g h v l hl hu o bs hF hB hlen;obtain⟨a,c,rfl,hmr⟩:=h.lenR;obtain⟨a',c',rfl,-⟩:=h.lenL;obtain⟨va,vc,hv,hm⟩:=AltsIn.len hl;subst hv;unfold maxLen at hm hmr;have lo:=hB.lt;go_enter Tryz.func61,Tryz.ntmps61;go_wp2_with fail;obtain⟨W,hW⟩:∃ W,W=w.alloc (.cells #[.slice a' g.levels.length c',.slice a g.rules.length c] 49):=⟨_,rfl⟩;rw[<-hW];have hWs:W.heap.size=w.heap.size+1:=by rw[hW];simp
 have kG:Blk W w.heap.size #[.slice a' g.levels.length c',.slice a g.rules.length c] 49:=by rw[hW];exact Blk.new w _ 49
 have hgW:w.grownBy W (some o):=by rw[hW];exact grown_alloc _ _ _
 have hBW:Blk W o (boolsV bs) 4:=by rw[hW];exact hB.alloc _
 clear hW;have hu0:Lx.unk g ((l.drop 0).flatMap (Lx.flatOne d))=none:=hu;have hm0:Lx.markL (Lx.ruleNames g) (Lx.usedD (d+1) l) bs=Lx.markL (Lx.ruleNames g) ((l.drop 0).flatMap fun a=>a.1.flatMap (Lx.usedI d)) bs:=by rw[Lx.usedD_succ];rfl
 generalize hT:Lx.markL (Lx.ruleNames g) (Lx.usedD (d+1) l) bs=T at hm0 ⊢
 go_loopg [6] l.length (fun k i wr=>∃ (j:Nat) (bz:List Bool),j+k=l.length/\i=.int .i64 j/\W.grownBy wr (some o)/\Blk wr o (boolsV bz) 4/\bz.length=bs.length/\Lx.unk g ((l.drop j).flatMap (Lx.flatOne d))=none/\T=Lx.markL (Lx.ruleNames g) ((l.drop j).flatMap fun a=>a.1.flatMap (Lx.usedI d)) bz)
 case atStart=>exact⟨0,bs,by omega,rfl,grown_refl _ _,hBW,rfl,hu0,hm0⟩
 case round =>
  revert wr;intro wz hrel;obtain⟨j,bz,hk,rfl,hgz,hBz,hlz,huz,hTz⟩:=hrel;have hgw:w.grownBy wz (some o):=grown_trans hgW hgz;have kGz:Blk wz w.heap.size _ 49:=kG.grown hgz (fun e=>by cases e;omega);have hsz:=hgz.size
  by_cases hlt:j<l.length
  ·have h1:AltsIn YR (d+1) F wz _ l:=AltsIn.move (fun b hb'=>hgw.block b (h.lt b hb') (fun e=>by cases e;exact hF hb')) (fun _ h=>h) hl
   obtain⟨gb,cap,vi,hv,hg,hi,hc⟩:=Seq.at h1 (fun _=>rfl) hlt;cases hv;rw[List.drop_eq_getElem_cons hlt,List.flatMap_cons]at huz hTz;rw[Lx.flatOne_eq,List.append_assoc]at huz;generalize l[j]=x at hi hc huz hTz;obtain⟨its,prec,pa⟩:=x;obtain⟨ia,ic,hvi,him⟩:=Seq.len hi;subst hvi;unfold maxLen at him;have c0:wz.cell? ⟨gb,j*3,none⟩=some (.slice ia its.length ic):=hc 0 (by decide);clear h1 hc;have hgo:gb≠o:=fun e=>hF (e ▸ hg)
   go_wp2_with fail
   go_loopg [7] its.length (fun k i wr=>∃ (m:Nat) (br:List Bool),m+k=its.length/\i=.int .i64 m/\wz.grownBy wr (some o)/\Blk wr o (boolsV br) 4/\br.length=bs.length/\Lx.unk g ((its.drop m).flatMap (Lx.flatI d)++(Lx.precW (its,prec,pa)++(l.drop (j+1)).flatMap (Lx.flatOne d)))=none/\T=Lx.markL (Lx.ruleNames g) ((its.drop m).flatMap (Lx.usedI d)++(l.drop (j+1)).flatMap fun a=>a.1.flatMap (Lx.usedI d)) br)
   case atStart=>exact⟨0,bz,by omega,rfl,grown_refl _ _,hBz,hlz,huz,hTz⟩
   case round =>
    obtain⟨m,br,hkm,rfl,hgr,hBr,hlr,hur,hTr⟩:=hrel;have hgwr:w.grownBy wr (some o):=grown_trans hgw hgr;have hszr:=hgr.size;have lgb:gb<wr.heap.size:=by have:=h.lt gb hg;omega
    have eg:wr.heap[gb]?=wz.heap[gb]?:=hgr.block gb (by have:=h.lt gb hg;omega) (fun e=>by cases e;exact hgo rfl);have d0:wr.cell? ⟨gb,j*3,none⟩=some (.slice ia its.length ic):=(World.cell?_of_block (w:=wz) eg).trans c0;have kGr:Blk wr w.heap.size _ 49:=kGz.grown hgr (fun e=>by cases e;omega);have g0:wr.cell? ⟨w.heap.size,0,none⟩=some (.slice a' g.levels.length c'):=kGr.cell 0;have g1:wr.cell? ⟨w.heap.size,1,none⟩=some (.slice a g.rules.length c):=kGr.cell 1
    by_cases hltm:m<its.length
    ·have hir:ItemsIn YR d F wr _ its:=ItemsIn.move (fun b hb'=>hgr.block b (by have:=h.lt b hb';omega) (fun e=>by cases e;exact hF hb')) (fun _ h=>h) hi
     unfold ItemsIn ItemsBy at hir;obtain⟨n,ncap,va,hv,hn,ha,hcc⟩:=Seq.at hir (fun _=>rfl) hltm;cases hv;rw[List.drop_eq_getElem_cons hltm,List.flatMap_cons,List.append_assoc]at hur hTr;generalize its[m]=it at ha hcc hur hTr;obtain⟨sa,sc,hva,-⟩:=AltsIn.len ha;subst hva;have e0:wr.cell? ⟨n,m*5,none⟩=some (.int .i64 (it.kind:Int)):=hcc 0 (by decide);have e1:wr.cell? ⟨n,m*5+1,none⟩=some (.string it.name):=hcc 1 (by decide);have e2:wr.cell? ⟨n,m*5+2,none⟩=some (.int .u8 (it.mark:Int)):=hcc 2 (by decide);have e3:wr.cell? ⟨n,m*5+3,none⟩=some (.slice sa it.alts.length sc):=hcc 3 (by decide);have e4:wr.cell? ⟨n,m*5+4,none⟩=some (.int .i64 (it.place:Int)):=hcc 4 (by decide);have lG:w.heap.size<wr.heap.size:=by omega
     have ln:n<wr.heap.size:=by have:=h.lt n hn;omega
     have lor:o<wr.heap.size:=by omega
     clear hcc hir c0;obtain⟨hnm,hu1,hu2⟩:=Lx.unk_item_ok hur;have hTr2:T=Lx.markL (Lx.ruleNames g) (((its.drop (m+1)).flatMap (Lx.usedI d)++(l.drop (j+1)).flatMap fun a=>a.1.flatMap (Lx.usedI d))) (Lx.markL (Lx.ruleNames g) (Lx.usedD d it.alts) (Lx.markL (Lx.ruleNames g) (if it.kind=0 then [it.name] else []) br)):=by
      rw[hTr];simp only[Lx.markL_app,Lx.usedI]
     obtain⟨W1,hW1⟩:∃ W1,W1=wr.alloc (.cells #[.int .i64 (it.kind:Int),.string it.name,.int .u8 (it.mark:Int),.slice sa it.alts.length sc,.int .i64 (it.place:Int)] 148):=⟨_,rfl⟩;have hb1:Below wr.heap.size wr W1:=by rw[hW1];exact (Below.refl _ _).alloc (Nat.le_refl _) _
     have hs1:W1.heap.size=wr.heap.size+1:=by rw[hW1];simp
     have kx:Blk W1 wr.heap.size #[.int .i64 (it.kind:Int),.string it.name,.int .u8 (it.mark:Int),.slice sa it.alts.length sc,.int .i64 (it.place:Int)] 148:=by rw[hW1];exact Blk.new wr _ 148
     have hg1:wr.grownBy W1 (some o):=grown_of_below hb1 _
     by_cases hk0:it.kind=0
     have hge:=hnm hk0;obtain⟨hfx,hfl⟩:=fnd_fix hge;rw[if_pos hk0]at hTr2;have HK0:Hid (it.kind=0):=hk0;have hkb:((it.kind:Int) == 0)=true:=by simp[hk0]
     have hfl2:Lx.fix (Lx.ruleNames g) it.name<bs.length:=by rw[hlen];simpa [Lx.ruleNames]using hfl
     clear hk0 hnm;have hdg:DG F W1 (.slice a' g.levels.length c') (.slice a g.rules.length c) g:=h.move (fun b hb'=>(hb1.block b (by have:=h.lt b hb';omega)).trans (hgwr.block b (h.lt b hb') (fun e=>by cases e;exact hF hb'))) (by omega);go_wp2_with fail;rw[<-hW1];refine (ruleOf_any hdg it.name).mono ?_;rintro e w2 ⟨rfl,hb2⟩;have hs2:=hb2.size;rw[show Lx.rnames g=Lx.ruleNames g from rfl,hfx];have hB2:Blk w2 o (boolsV br) 4:=(hb2.block _ (by omega)).trans ((hb1.block _ (by omega)).trans hBr);have kG2:Blk w2 w.heap.size _ 49:=(hb2.block _ (by omega)).trans ((hb1.block _ (by omega)).trans kGr);have kx2:Blk w2 wr.heap.size _ 148:=(hb2.block _ (by omega)).trans kx;have x3:w2.cell? ⟨wr.heap.size,3,none⟩=some (.slice sa it.alts.length sc):=kx2.cell 3;have y0:w2.cell? ⟨w.heap.size,0,none⟩=some (.slice a' g.levels.length c'):=kG2.cell 0;have y1:w2.cell? ⟨w.heap.size,1,none⟩=some (.slice a g.rules.length c):=kG2.cell 1;have o1:w2.cell? ⟨o,Lx.fix (Lx.ruleNames g) it.name,none⟩=some (.bool (Lx.at? br (Lx.fix (Lx.ruleNames g) it.name))):=(hB2.cell _).trans (bools_get br (by omega));have f1:w2.frozen? ⟨o,Lx.fix (Lx.ruleNames g) it.name,none⟩=false:=hB2.frozen _;have hno1:w.heap.size≠o:=by omega
     have hno2:wr.heap.size≠o:=by omega
     generalize hfq:Lx.fix (Lx.ruleNames g) it.name=q at *;go_wp2_with fail;obtain⟨W3,hW3⟩:∃ W3,W3=w2.setCell ⟨o,q,none⟩ (.bool true):=⟨_,rfl⟩;rw[<-hW3];have hg3:wr.grownBy W3 (some o):=by rw[hW3];exact grown_trans (grown_trans hg1 (grown_of_below hb2 _)) (grown_set _ _ _ _)
     have hB3:Blk W3 o (boolsV (br.set q true)) 4:=by rw[hW3,<-bools_set];exact hB2.set q _
     obtain⟨bq,hbq⟩:∃ bq,bq=br.set q true:=⟨_,rfl⟩;rw[<-hbq]at hB3;have hlq:bq.length=bs.length:=by rw[hbq,List.length_set,hlr]
     have hT3:T=Lx.markL (Lx.ruleNames g) (((its.drop (m+1)).flatMap (Lx.usedI d)++(l.drop (j+1)).flatMap fun a=>a.1.flatMap (Lx.usedI d))) (Lx.markL (Lx.ruleNames g) (Lx.usedD d it.alts) bq):=by
      rw[hTr2,hbq,<-hfq];rfl
     clear hW3 hbq
     rotate_left
     rw[if_neg hk0]at hTr2;have HK0:Hid (¬ it.kind=0):=hk0;have hkb:((it.kind:Int) == 0)=false:=beq_eq_false_iff_ne.2 (by omega);clear hk0 hnm;go_wp2_with fail;rw[<-hW1];obtain⟨W3,hW3⟩:∃ W3,W3=W1:=⟨_,rfl⟩;rw[<-hW3];have hg3:wr.grownBy W3 (some o):=by rw[hW3];exact hg1
     obtain⟨bq,hbq⟩:∃ bq,bq=br:=⟨_,rfl⟩;have hB3:Blk W3 o (boolsV bq) 4:=by rw[hW3,hbq];exact (hb1.block _ (by omega)).trans hBr
     have hlq:bq.length=bs.length:=by rw[hbq,hlr]
     have hT3:T=Lx.markL (Lx.ruleNames g) (((its.drop (m+1)).flatMap (Lx.usedI d)++(l.drop (j+1)).flatMap fun a=>a.1.flatMap (Lx.usedI d))) (Lx.markL (Lx.ruleNames g) (Lx.usedD d it.alts) bq):=by
      rw[hTr2,hbq];rfl
     clear hW3 hbq
     all_goals
      have hgw3:w.grownBy W3 (some o):=grown_trans hgwr hg3;have hs3:=hg3.size;have hd3:DG F W3 (.slice a' g.levels.length c') (.slice a g.rules.length c) g:=h.move (fun b hb'=>hgw3.block b (h.lt b hb') (fun e=>by cases e;exact hF hb')) hgw3.size;have ha3:AltsIn YR d F W3 _ it.alts:=AltsIn.move (fun b hb'=>hg3.block b (by have:=h.lt b hb';omega) (fun e=>by cases e;exact hF hb')) (fun _ h=>h) ha;have q1:=IH F W3 _ _ g hd3 _ _ ha3 hu1 o bq hF hB3 (hlq.trans hlen);refine q1.mono ?_;rintro e w4 ⟨rfl,hg4,hB4⟩;have hg5:wz.grownBy w4 (some o):=grown_trans (grown_trans hgr hg3) hg4;go_wp2_with fail;go_roundg (its.length - (m+1))
      case measure=>omega
      case rel=>exact⟨m+1,_,by omega,by go_num,hg5,hB4,by rw[Lx.markL_len];exact hlq,hu2,hT3⟩
    ·have:m=its.length:=by omega
     subst this;rw[List.drop_length,List.flatMap_nil,List.nil_append]at hur hTr;have hu2:=Lx.unk_prec_ok hur;clear c0;go_wp2_with fail;go_roundg (l.length - (j+1))
     case measure=>omega
     case rel=>exact⟨j+1,br,by omega,by go_num,grown_trans hgz hgr,hBr,hlr,hu2,hTr⟩
  ·go_wp2_with fail
   go_end0
   refine⟨rfl,hgw,?_⟩;have:j=l.length:=by omega
   subst this;rw[List.drop_length]at hTz;rw[hT,hTz];exact hBz
theorem mark_at:∀ d,MarkSaid d
 | 0=>mark_zero
 | d+1=>mark_succ (mark_at d)
end Go.Proofs.YtlcppnabbicmoaaGreatDoor

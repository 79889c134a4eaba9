import Derived.Test.YtjaalkocdbkdeaaGreatDoorSA07
set_option maxHeartbeats 8000000
set_option maxRecDepth 1000000
namespace Go.Proofs.YtjaalkocdbkdeaaGreatDoor
open Lx Go.Proofs.Tryz
open Go.RowKit
open Tr
namespace Lx
def qB(d:Nat)(l:List Alt):List ByteArray:=eP ((dw d l).filter fun w=>decide (w.1=2))
def pR(d:Nat)(x:It):List ByteArray:=(if x.kind=0 then [x.name] else [])++qB d x.alts
theorem DV(a b:List Wd):eP (a++b)=eP a++eP b:=by unfold eP;rw[List.map_append]
theorem afc(d:Nat)(x:It):eP ((jX d x).filter fun w=>decide (w.1=2))=pR d x:=by
 unfold jX pR qB;rw[List.filter_append,DV];congr 1
 split
 ·simp[eP]
 ·split
  ·simp[eP]
  ·rfl
theorem Vi(d:Nat):∀its:List It,eP ((its.flatMap (jX d)).filter fun w=>decide (w.1=2))=its.flatMap (pR d)
 | []=>rfl
 |x::its=>by rw[List.flatMap_cons,List.filter_append,DV,afc,Vi d its,List.flatMap_cons]
theorem NV(d:Nat):∀l:List Alt,qB (d+1) l=l.flatMap fun a=>a.1.flatMap (pR d)
 | []=>rfl
 |a::l=>by
  have ih:=NV d l;unfold qB at ih|-;rw[FW]at ih|-;rw[List.flatMap_cons,List.filter_append,DV,ih,FX,List.filter_append,DV,Vi,List.flatMap_cons];have:eP ((tZ a).filter fun w=>decide (w.1=2))=[]:=by
   unfold tZ;split
   ·rfl
   ·simp[eP]
  rw[this,List.append_nil]
theorem afY(ns a b:List ByteArray)(bs:List Bool):iQ ns (a++b) bs=iQ ns b (iQ ns a bs):=by unfold iQ;rw[List.foldl_append]
theorem afZ(ns:List ByteArray)(us:List ByteArray)(bs:List Bool):(iQ ns us bs).length=bs.length:=(Eh ns us bs).1.symm
theorem NH{g:Gr}{d:Nat}{x:It}{r:List Wd}(h:unk g (jX d x++r)=none):(x.kind=0->0<=bA (aK g) x.name)/\unk g (dw d x.alts)=none/\unk g r=none:=by
 by_cases he:x.kind=0/\bA (aK g) x.name<0
 ·rw[UA he.1 he.2]at h;cases h
 ·rw[UB he]at h
  refine⟨fun h0=>?_,?_⟩
  ·have:=fun h=>he ⟨h0,h⟩;omega
  ·cases h1:unk g (dw d x.alts) with
   |none=>rw[h1]at h;exact⟨rfl,h⟩
   |some p=>rw[h1]at h;cases h
theorem NI{g:Gr}{a:Alt}{r:List Wd}(h:unk g (tZ a++r)=none):unk g r=none:=by
 rw[O1]at h;cases h1:unk g (tZ a) with
 |none=>rw[h1]at h;exact h
 |some p=>rw[h1]at h;cases h
end Lx
def bF(bs:List Bool):Array Value:=(bs.map Value.bool).toArray
theorem zL(bs:List Bool)(i:Nat)(b:Bool):(bF bs).setIfInBounds i (.bool b)=bF (bs.set i b):=by
 unfold bF;rw[List.setIfInBounds_toArray,List.map_set]
theorem qx(bs:List Bool){i:Nat}(h:i<bs.length):(bF bs)[i]?=some (.bool (aS bs i)):=by
 unfold bF aS;simp[h]
theorem zT{l:List ByteArray}{b:ByteArray}(h:0<=bA l b):bA l b=(Lx.fix l b:Int)/\Lx.fix l b<l.length:=by
 unfold bA at h|-
 split
 ·rename_i h1;exact⟨rfl,h1⟩
 ·rename_i h1;rw[if_neg h1]at h;omega
def Kk(d:Nat):Prop:=∀(F:Nat->Prop)(w:World)(vL vR:Value)(g:Lx.Gr),DG F w vL vR g->∀(v:Value)(l:List Lx.Alt),ay YR d F w v l->Lx.unk g (dw d l)=none->∀(o:Nat)(bs:List Bool),¬F o->aj w o (bF bs) 4->bs.length=g.rules.length ->
 Calls prog 53 #[.agg #[vL,vR],v,.slice (some ⟨o,0,none⟩) g.rules.length g.rules.length] w fun e w'=>e=.returned (.tuple #[])/\w.grownBy w' (some o)/\aj w' o (bF (iQ (aK g) (qB d l) bs)) 4
theorem af0:Kk 0:=by
 intro F w vL vR g h v l hl hu o bs hF hB hlen;obtain⟨rfl,rfl⟩:=hl;obtain⟨a,c,rfl,-⟩:=h.sF;obtain⟨a',c',rfl,-⟩:=h.uh;go_enter func53,ntmps53;go_wp2_with fail
 go_loopg [6] 0 (fun k i wr=>k=0/\i=.int .i64 0/\wr=w.alloc (.cells #[.slice a' g.levels.length c',.slice a g.rules.length c] 86))
 case atStart=>exact⟨rfl,rfl,rfl⟩
 case round=>
  obtain⟨rfl,rfl,rfl⟩:=hrel;go_wp2_with fail
  go_end0
  exact⟨rfl,bZ _ _ _,hB.alloc _⟩
theorem af2{d:Nat}(IH:Kk d):Kk (d+1):=by
 intro F w vL vR g h v l hl hu o bs hF hB hlen;obtain⟨a,c,rfl,hmr⟩:=h.sF;obtain⟨a',c',rfl,-⟩:=h.uh;obtain⟨va,vc,hv,hm⟩:=ay.len hl;subst hv;unfold maxLen at hm hmr;have lo:=hB.lt;go_enter func53,ntmps53;go_wp2_with fail;obtain⟨W,hW⟩:∃W,W=w.alloc (.cells #[.slice a' g.levels.length c',.slice a g.rules.length c] 86):=⟨_,rfl⟩;rw[<-hW];have hWs:W.heap.size=w.heap.size+1:=by rw[hW];simp
 have kG:aj W w.heap.size #[.slice a' g.levels.length c',.slice a g.rules.length c] 86:=by rw[hW];exact aj.new w _ 86
 have hgW:w.grownBy W (some o):=by rw[hW];exact bZ _ _ _
 have hBW:aj W o (bF bs) 4:=by rw[hW];exact hB.alloc _
 clear hW;have hu0:Lx.unk g ((l.drop 0).flatMap (qy d))=none:=hu;have hm0:iQ (aK g) (qB (d+1) l) bs=iQ (aK g) ((l.drop 0).flatMap fun a=>a.1.flatMap (pR d)) bs:=by rw[NV];rfl
 generalize hT:iQ (aK g) (qB (d+1) l) bs=T at hm0|-
 go_loopg [6] l.length (fun k i wr=>∃(j:Nat)(bz:List Bool),j+k=l.length/\i=.int .i64 j/\W.grownBy wr (some o)/\aj wr o (bF bz) 4/\bz.length=bs.length/\Lx.unk g ((l.drop j).flatMap (qy d))=none/\T=iQ (aK g) ((l.drop j).flatMap fun a=>a.1.flatMap (pR d)) bz)
 case atStart=>exact⟨0,bs,by omega,rfl,BB _ _,hBW,rfl,hu0,hm0⟩
 case round=>
  revert wr;intro wz hrel;obtain⟨j,bz,hk,rfl,hgz,hBz,hlz,Aw,Ig⟩:=hrel;have hgw:w.grownBy wz (some o):=aW hgW hgz;have jP:aj wz w.heap.size _ 86:=kG.grown hgz (fun e=>by cases e;omega);have hsz:=hgz.size
  by_cases hlt:j<l.length
  ·have h1:ay YR (d+1) F wz _ l:=ay.move (fun b hb'=>hgw.block b (h.lt b hb') (fun e=>by cases e;exact hF hb')) (fun _ h=>h) hl
   obtain⟨gb,cap,vi,hv,hg,hi,hc⟩:=Seq.at h1 (fun _=>rfl) hlt;cases hv;rw[List.drop_eq_getElem_cons hlt,List.flatMap_cons]at Aw Ig;rw[FX,List.append_assoc]at Aw;generalize l[j]=x at hi hc Aw Ig;obtain⟨its,prec,pa⟩:=x;obtain⟨ia,ic,iK,him⟩:=Seq.len hi;subst iK;unfold maxLen at him;have c0:wz.cell? ⟨gb,j*3,none⟩=some (.slice ia its.length ic):=hc 0 (by decide);clear h1 hc;have hgo:gb≠o:=fun e=>hF (e▸hg)
   go_wp2_with fail
   go_loopg [7] its.length (fun k i wr=>∃(m:Nat)(br:List Bool),m+k=its.length/\i=.int .i64 m/\wz.grownBy wr (some o)/\aj wr o (bF br) 4/\br.length=bs.length/\Lx.unk g ((its.drop m).flatMap (jX d)++(tZ (its,prec,pa)++(l.drop (j+1)).flatMap (qy d)))=none/\T=iQ (aK g) ((its.drop m).flatMap (pR d)++(l.drop (j+1)).flatMap fun a=>a.1.flatMap (pR d)) br)
   case atStart=>exact⟨0,bz,by omega,rfl,BB _ _,hBz,hlz,Aw,Ig⟩
   case round=>
    obtain⟨m,br,hkm,rfl,hgr,hBr,hlr,hur,hTr⟩:=hrel;have ZE:w.grownBy wr (some o):=aW hgw hgr;have pV:=hgr.size;have ny:gb<wr.heap.size:=by have:=h.lt gb hg;omega
    have eg:wr.heap[gb]?=wz.heap[gb]?:=hgr.block gb (by have:=h.lt gb hg;omega) (fun e=>by cases e;exact hgo rfl);have d0:wr.cell? ⟨gb,j*3,none⟩=some (.slice ia its.length ic):=(World.cell?_of_block (w:=wz) eg).trans c0;have jb:aj wr w.heap.size _ 86:=jP.grown hgr (fun e=>by cases e;omega);have g0:wr.cell? ⟨w.heap.size,0,none⟩=some (.slice a' g.levels.length c'):=jb.cell 0;have g1:wr.cell? ⟨w.heap.size,1,none⟩=some (.slice a g.rules.length c):=jb.cell 1
    by_cases bJ:m<its.length
    ·have hir:bM YR d F wr _ its:=bM.move (fun b hb'=>hgr.block b (by have:=h.lt b hb';omega) (fun e=>by cases e;exact hF hb')) (fun _ h=>h) hi
     unfold bM ow at hir;obtain⟨n,sG,va,hv,hn,ha,hcc⟩:=Seq.at hir (fun _=>rfl) bJ;cases hv;rw[List.drop_eq_getElem_cons bJ,List.flatMap_cons,List.append_assoc]at hur hTr;generalize its[m]=it at ha hcc hur hTr;obtain⟨sa,sc,hva,-⟩:=ay.len ha;subst hva;have e0:wr.cell? ⟨n,m*5,none⟩=some (.int .i64 (it.kind:Int)):=hcc 0 (by decide);have e1:wr.cell? ⟨n,m*5+1,none⟩=some (.string it.name):=hcc 1 (by decide);have e2:wr.cell? ⟨n,m*5+2,none⟩=some (.int .u8 (it.mark:Int)):=hcc 2 (by decide);have e3:wr.cell? ⟨n,m*5+3,none⟩=some (.slice sa it.alts.length sc):=hcc 3 (by decide);have e4:wr.cell? ⟨n,m*5+4,none⟩=some (.int .i64 (it.place:Int)):=hcc 4 (by decide);have lG:w.heap.size<wr.heap.size:=by omega
     have ln:n<wr.heap.size:=by have:=h.lt n hn;omega
     have lor:o<wr.heap.size:=by omega
     clear hcc hir c0;obtain⟨hnm,hu1,hu2⟩:=NH hur;have Le:T=iQ (aK g) (((its.drop (m+1)).flatMap (pR d)++(l.drop (j+1)).flatMap fun a=>a.1.flatMap (pR d))) (iQ (aK g) (qB d it.alts) (iQ (aK g) (if it.kind=0 then [it.name] else []) br)):=by
      rw[hTr];simp only[afY,pR]
     obtain⟨W1,hW1⟩:∃W1,W1=wr.alloc (.cells #[.int .i64 (it.kind:Int),.string it.name,.int .u8 (it.mark:Int),.slice sa it.alts.length sc,.int .i64 (it.place:Int)] 158):=⟨_,rfl⟩;have hb1:Below wr.heap.size wr W1:=by rw[hW1];exact(Below.refl _ _).alloc (zL0) _
     have hs1:W1.heap.size=wr.heap.size+1:=by rw[hW1];simp
     have kx:aj W1 wr.heap.size #[.int .i64 (it.kind:Int),.string it.name,.int .u8 (it.mark:Int),.slice sa it.alts.length sc,.int .i64 (it.place:Int)] 158:=by rw[hW1];exact aj.new wr _ 158
     have hg1:wr.grownBy W1 (some o):=DT hb1 _
     by_cases hk0:it.kind=0
     have hge:=hnm hk0;obtain⟨hfx,hfl⟩:=zT hge;rw[if_pos hk0]at Le;have qm:Hid (it.kind=0):=hk0;have hkb:((it.kind:Int) == 0)=true:=by simp[hk0]
     have ZF:Lx.fix (aK g) it.name<bs.length:=by rw[hlen];simpa [aK]using hfl
     clear hk0 hnm;have hdg:DG F W1 (.slice a' g.levels.length c') (.slice a g.rules.length c) g:=h.move (fun b hb'=>(hb1.block b (by have:=h.lt b hb';omega)).trans (ZE.block b (h.lt b hb') (fun e=>by cases e;exact hF hb'))) (by omega);go_wp2_with fail;rw[<-hW1];refine(DY hdg it.name).mono ?_;rintro e w2⟨rfl,hb2⟩;have hs2:=hb2.size;rw[show uZ g=aK g from rfl,hfx];have hB2:aj w2 o (bF br) 4:=(hb2.block _ (by omega)).trans ((hb1.block _ (by omega)).trans hBr);have tq:aj w2 w.heap.size _ 86:=(hb2.block _ (by omega)).trans ((hb1.block _ (by omega)).trans jb);have iL:aj w2 wr.heap.size _ 158:=(hb2.block _ (by omega)).trans kx;have x3:w2.cell? ⟨wr.heap.size,3,none⟩=some (.slice sa it.alts.length sc):=iL.cell 3;have y0:w2.cell? ⟨w.heap.size,0,none⟩=some (.slice a' g.levels.length c'):=tq.cell 0;have y1:w2.cell? ⟨w.heap.size,1,none⟩=some (.slice a g.rules.length c):=tq.cell 1;have o1:w2.cell? ⟨o,Lx.fix (aK g) it.name,none⟩=some (.bool (aS br (Lx.fix (aK g) it.name))):=(hB2.cell _).trans (qx br (by omega));have f1:w2.frozen? ⟨o,Lx.fix (aK g) it.name,none⟩=false:=hB2.frozen _;have amh:w.heap.size≠o:=by omega
     have ami:wr.heap.size≠o:=by omega
     generalize Ih:Lx.fix (aK g) it.name=q at *;go_wp2_with fail;obtain⟨W3,hW3⟩:∃W3,W3=w2.setCell ⟨o,q,none⟩ (.bool true):=⟨_,rfl⟩;rw[<-hW3];have hg3:wr.grownBy W3 (some o):=by rw[hW3];exact aW (aW hg1 (DT hb2 _)) (gu _ _ _ _)
     have hB3:aj W3 o (bF (br.set q true)) 4:=by rw[hW3,<-zL];exact hB2.set q _
     obtain⟨bq,hbq⟩:∃bq,bq=br.set q true:=⟨_,rfl⟩;rw[<-hbq]at hB3;have hlq:bq.length=bs.length:=by rw[hbq,List.length_set,hlr]
     have hT3:T=iQ (aK g) (((its.drop (m+1)).flatMap (pR d)++(l.drop (j+1)).flatMap fun a=>a.1.flatMap (pR d))) (iQ (aK g) (qB d it.alts) bq):=by
      rw[Le,hbq,<-Ih];rfl
     clear hW3 hbq
     rotate_left
     rw[if_neg hk0]at Le;have qm:Hid (¬it.kind=0):=hk0;have hkb:((it.kind:Int) == 0)=false:=zB0 (by omega);clear hk0 hnm;go_wp2_with fail;rw[<-hW1];obtain⟨W3,hW3⟩:∃W3,W3=W1:=⟨_,rfl⟩;rw[<-hW3];have hg3:wr.grownBy W3 (some o):=by rw[hW3];exact hg1
     obtain⟨bq,hbq⟩:∃bq,bq=br:=⟨_,rfl⟩;have hB3:aj W3 o (bF bq) 4:=by rw[hW3,hbq];exact(hb1.block _ (by omega)).trans hBr
     have hlq:bq.length=bs.length:=by rw[hbq,hlr]
     have hT3:T=iQ (aK g) (((its.drop (m+1)).flatMap (pR d)++(l.drop (j+1)).flatMap fun a=>a.1.flatMap (pR d))) (iQ (aK g) (qB d it.alts) bq):=by
      rw[Le,hbq];rfl
     clear hW3 hbq
     all_goals
      have ZG:w.grownBy W3 (some o):=aW ZE hg3;have hs3:=hg3.size;have hd3:DG F W3 (.slice a' g.levels.length c') (.slice a g.rules.length c) g:=h.move (fun b hb'=>ZG.block b (h.lt b hb') (fun e=>by cases e;exact hF hb')) ZG.size;have ha3:ay YR d F W3 _ it.alts:=ay.move (fun b hb'=>hg3.block b (by have:=h.lt b hb';omega) (fun e=>by cases e;exact hF hb')) (fun _ h=>h) ha;have q1:=IH F W3 _ _ g hd3 _ _ ha3 hu1 o bq hF hB3 (hlq.trans hlen);refine q1.mono ?_;rintro e w4⟨rfl,hg4,hB4⟩;have hg5:wz.grownBy w4 (some o):=aW (aW hgr hg3) hg4;go_wp2_with fail;go_roundg (its.length - (m+1))
      case measure=>omega
      case rel=>exact⟨m+1,_,by omega,by go_num,hg5,hB4,by rw[afZ];exact hlq,hu2,hT3⟩
    ·have:m=its.length:=by omega
     subst this;rw[List.drop_length,List.flatMap_nil,List.nil_append]at hur hTr;have hu2:=NI hur;clear c0;go_wp2_with fail;go_roundg (l.length - (j+1))
     case measure=>omega
     case rel=>exact⟨j+1,br,by omega,by go_num,aW hgz hgr,hBr,hlr,hu2,hTr⟩
  ·go_wp2_with fail
   go_end0
   refine⟨rfl,hgw,?_⟩;have:j=l.length:=by omega
   subst this;rw[List.drop_length]at Ig;rw[hT,Ig];exact hBz
theorem XW:∀d,Kk d
 |0=>af0
 |d+1=>af2 (XW d)
end Go.Proofs.YtjaalkocdbkdeaaGreatDoor

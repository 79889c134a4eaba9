import Derived.Test.YtlcppnabbicmoaaGreatDoorMG07
set_option maxHeartbeats 8000000
set_option maxRecDepth 1000000
namespace Go.Proofs.YtlcppnabbicmoaaGreatDoor
open Lx Go.Proofs.Tryz
open Go.RowKit Tr
namespace Lx
def qL (d:Nat)(l:List Alt):List ByteArray:=eX ((dD d l).filter fun w=>decide (w.1=2))
def qj (d:Nat)(x:It):List ByteArray:=(if x.kind=0 then [x.name] else [])++qL d x.alts
theorem En (a b:List Wd):eX (a++b)=eX a++eX b:=by unfold eX;rw[List.map_append]
theorem af8 (d:Nat)(x:It):eX ((j6 d x).filter fun w=>decide (w.1=2))=qj d x:=by
 unfold j6 qj qL;rw[List.filter_append,En];congr 1
 split
 ·simp[eX]
 ·split
  ·simp[eX]
  ·rfl
theorem WC (d:Nat):∀ its:List It,eX ((its.flatMap (j6 d)).filter fun w=>decide (w.1=2))=its.flatMap (qj d)
 | []=>rfl
 | x::its=>by rw[List.flatMap_cons,List.filter_append,En,af8,WC d its,List.flatMap_cons]
theorem OU (d:Nat):∀ l:List Alt,qL (d+1) l=l.flatMap fun a=>a.1.flatMap (qj d)
 | []=>rfl
 | a::l=>by
  have ih:=OU d l;unfold qL at ih |-;rw[Er]at ih |-;rw[List.flatMap_cons,List.filter_append,En,ih,GI,List.filter_append,En,WC,List.flatMap_cons];have:eX ((uy a).filter fun w=>decide (w.1=2))=[]:=by
   unfold uy;split
   ·rfl
   ·simp[eX]
  rw[this,List.append_nil]
theorem agU (ns a b:List ByteArray)(bs:List Bool):ja ns (a++b) bs=ja ns b (ja ns a bs):=by unfold ja;rw[List.foldl_append]
theorem agV (ns:List ByteArray)(us:List ByteArray)(bs:List Bool):(ja ns us bs).length=bs.length:=(EG ns us bs).1.symm
theorem OE {g:Gr}{d:Nat}{x:It}{r:List Wd}(h:unk g (j6 d x++r)=none):(x.kind=0->0<=bA (aG g) x.name)/\unk g (dD d x.alts)=none/\unk g r=none:=by
 by_cases he:x.kind=0/\bA (aG g) x.name<0
 ·rw[VO he.1 he.2]at h;cases h
 ·rw[VP he]at h
  refine⟨fun h0=>?_,?_⟩
  ·have:=fun h=>he ⟨h0,h⟩;omega
  ·cases h1:unk g (dD d x.alts) with
   | none=>rw[h1]at h;exact⟨rfl,h⟩
   | some p=>rw[h1]at h;cases h
theorem OG {g:Gr}{a:Alt}{r:List Wd}(h:unk g (uy a++r)=none):unk g r=none:=by
 rw[Qk]at h;cases h1:unk g (uy a) with
 | none=>rw[h1]at h;exact h
 | some p=>rw[h1]at h;cases h
end Lx
def aL (bs:List Bool):Array Value:=(bs.map Value.bool).toArray
theorem p9 (bs:List Bool)(i:Nat)(b:Bool):(aL bs).setIfInBounds i (.bool b)=aL (bs.set i b):=by
 unfold aL;rw[List.setIfInBounds_toArray,List.map_set]
theorem fI (bs:List Bool){i:Nat}(h:i<bs.length):(aL bs)[i]?=some (.bool (au bs i)):=by
 unfold aL au;simp[h]
theorem uo {l:List ByteArray}{b:ByteArray}(h:0<=bA l b):bA l b=(Lx.fix l b:Int)/\Lx.fix l b<l.length:=by
 unfold bA at h |-
 split
 ·rename_i h1;exact⟨rfl,h1⟩
 ·rename_i h1;rw[if_neg h1]at h;omega
def K7 (d:Nat):Prop:=∀ (F:Nat->Prop) (w:World) (vL vR:Value) (g:Lx.Gr),DG F w vL vR g->∀ (v:Value) (l:List Lx.Alt),ay YR d F w v l->Lx.unk g (dD d l)=none->∀ (o:Nat) (bs:List Bool),¬ F o->aj w o (aL bs) 4->bs.length=g.rules.length ->
 Calls prog 61 #[.agg #[vL,vR],v,.slice (some ⟨o,0,none⟩) g.rules.length g.rules.length] w fun e w'=>e=.returned (.tuple #[])/\w.grownBy w' (some o)/\aj w' o (aL (ja (aG g) (qL d l) bs)) 4
theorem agW:K7 0:=by
 intro F w vL vR g h v l hl hu o bs hF hB hlen;obtain⟨rfl,rfl⟩:=hl;obtain⟨a,c,rfl,-⟩:=h.o9;obtain⟨a',c',rfl,-⟩:=h.qm;go_enter func61,ntmps61;go_wp2_with fail
 go_loopg [6] 0 (fun k i wr=>k=0/\i=.int .i64 0/\wr=w.alloc (.cells #[.slice a' g.levels.length c',.slice a g.rules.length c] 49))
 case atStart=>exact⟨rfl,rfl,rfl⟩
 case round =>
  obtain⟨rfl,rfl,rfl⟩:=hrel;go_wp2_with fail
  go_end0
  exact⟨rfl,cK _ _ _,hB.alloc _⟩
theorem agX {d:Nat}(IH:K7 d):K7 (d+1):=by
 intro F w vL vR g h v l hl hu o bs hF hB hlen;obtain⟨a,c,rfl,hmr⟩:=h.o9;obtain⟨a',c',rfl,-⟩:=h.qm;obtain⟨va,vc,hv,hm⟩:=ay.len hl;subst hv;unfold maxLen at hm hmr;have lo:=hB.lt;go_enter func61,ntmps61;go_wp2_with fail;obtain⟨W,hW⟩:∃ W,W=w.alloc (.cells #[.slice a' g.levels.length c',.slice a g.rules.length c] 49):=⟨_,rfl⟩;rw[<-hW];have hWs:W.heap.size=w.heap.size+1:=by rw[hW];simp
 have kG:aj W w.heap.size #[.slice a' g.levels.length c',.slice a g.rules.length c] 49:=by rw[hW];exact aj.new w _ 49
 have hgW:w.grownBy W (some o):=by rw[hW];exact cK _ _ _
 have hBW:aj W o (aL bs) 4:=by rw[hW];exact hB.alloc _
 clear hW;have hu0:Lx.unk g ((l.drop 0).flatMap (qd d))=none:=hu;have hm0:ja (aG g) (qL (d+1) l) bs=ja (aG g) ((l.drop 0).flatMap fun a=>a.1.flatMap (qj d)) bs:=by rw[OU];rfl
 generalize hT:ja (aG g) (qL (d+1) l) bs=T at hm0 |-
 go_loopg [6] l.length (fun k i wr=>∃ (j:Nat) (bz:List Bool),j+k=l.length/\i=.int .i64 j/\W.grownBy wr (some o)/\aj wr o (aL bz) 4/\bz.length=bs.length/\Lx.unk g ((l.drop j).flatMap (qd d))=none/\T=ja (aG g) ((l.drop j).flatMap fun a=>a.1.flatMap (qj d)) bz)
 case atStart=>exact⟨0,bs,by omega,rfl,BQ _ _,hBW,rfl,hu0,hm0⟩
 case round =>
  revert wr;intro wz hrel;obtain⟨j,bz,hk,rfl,hgz,uW,hlz,AV,I4⟩:=hrel;have hgw:w.grownBy wz (some o):=aY hgW hgz;have kD:aj wz w.heap.size _ 49:=kG.grown hgz (fun e=>by cases e;omega);have hsz:=hgz.size
  by_cases hlt:j<l.length
  ·have h1:ay YR (d+1) F wz _ l:=ay.move (fun b hb'=>hgw.block b (h.lt b hb') (fun e=>by cases e;exact hF hb')) (fun _ h=>h) hl
   obtain⟨gb,cap,vi,hv,hg,hi,hc⟩:=Seq.at h1 (fun _=>rfl) hlt;cases hv;rw[List.drop_eq_getElem_cons hlt,List.flatMap_cons]at AV I4;rw[GI,List.append_assoc]at AV;generalize l[j]=x at hi hc AV I4;obtain⟨its,prec,pa⟩:=x;obtain⟨ia,ic,iF,him⟩:=Seq.len hi;subst iF;unfold maxLen at him;have c0:wz.cell? ⟨gb,j*3,none⟩=some (.slice ia its.length ic):=hc 0 (by decide);clear h1 hc;have hgo:gb≠o:=fun e=>hF (e ▸ hg)
   go_wp2_with fail
   go_loopg [7] its.length (fun k i wr=>∃ (m:Nat) (br:List Bool),m+k=its.length/\i=.int .i64 m/\wz.grownBy wr (some o)/\aj wr o (aL br) 4/\br.length=bs.length/\Lx.unk g ((its.drop m).flatMap (j6 d)++(uy (its,prec,pa)++(l.drop (j+1)).flatMap (qd d)))=none/\T=ja (aG g) ((its.drop m).flatMap (qj d)++(l.drop (j+1)).flatMap fun a=>a.1.flatMap (qj d)) br)
   case atStart=>exact⟨0,bz,by omega,rfl,BQ _ _,uW,hlz,AV,I4⟩
   case round =>
    obtain⟨m,br,hkm,rfl,hgr,hBr,hlr,hur,hTr⟩:=hrel;have aaE:w.grownBy wr (some o):=aY hgw hgr;have qo:=hgr.size;have lD:gb<wr.heap.size:=by have:=h.lt gb hg;omega
    have eg:wr.heap[gb]?=wz.heap[gb]?:=hgr.block gb (by have:=h.lt gb hg;omega) (fun e=>by cases e;exact hgo rfl);have d0:wr.cell? ⟨gb,j*3,none⟩=some (.slice ia its.length ic):=(World.cell?_of_block (w:=wz) eg).trans c0;have jl:aj wr w.heap.size _ 49:=kD.grown hgr (fun e=>by cases e;omega);have g0:wr.cell? ⟨w.heap.size,0,none⟩=some (.slice a' g.levels.length c'):=jl.cell 0;have g1:wr.cell? ⟨w.heap.size,1,none⟩=some (.slice a g.rules.length c):=jl.cell 1
    by_cases bF:m<its.length
    ·have hir:bJ YR d F wr _ its:=bJ.move (fun b hb'=>hgr.block b (by have:=h.lt b hb';omega) (fun e=>by cases e;exact hF hb')) (fun _ h=>h) hi
     unfold bJ nV at hir;obtain⟨n,rP,va,hv,hn,ha,hcc⟩:=Seq.at hir (fun _=>rfl) bF;cases hv;rw[List.drop_eq_getElem_cons bF,List.flatMap_cons,List.append_assoc]at hur hTr;generalize its[m]=it at ha hcc hur hTr;obtain⟨sa,sc,hva,-⟩:=ay.len ha;subst hva;have e0:wr.cell? ⟨n,m*5,none⟩=some (.int .i64 (it.kind:Int)):=hcc 0 (by decide);have e1:wr.cell? ⟨n,m*5+1,none⟩=some (.string it.name):=hcc 1 (by decide);have e2:wr.cell? ⟨n,m*5+2,none⟩=some (.int .u8 (it.mark:Int)):=hcc 2 (by decide);have e3:wr.cell? ⟨n,m*5+3,none⟩=some (.slice sa it.alts.length sc):=hcc 3 (by decide);have e4:wr.cell? ⟨n,m*5+4,none⟩=some (.int .i64 (it.place:Int)):=hcc 4 (by decide);have lG:w.heap.size<wr.heap.size:=by omega
     have ln:n<wr.heap.size:=by have:=h.lt n hn;omega
     have lor:o<wr.heap.size:=by omega
     clear hcc hir c0;obtain⟨hnm,hu1,hu2⟩:=OE hur;have Mf:T=ja (aG g) (((its.drop (m+1)).flatMap (qj d)++(l.drop (j+1)).flatMap fun a=>a.1.flatMap (qj d))) (ja (aG g) (qL d it.alts) (ja (aG g) (if it.kind=0 then [it.name] else []) br)):=by
      rw[hTr];simp only[agU,qj]
     obtain⟨W1,hW1⟩:∃ W1,W1=wr.alloc (.cells #[.int .i64 (it.kind:Int),.string it.name,.int .u8 (it.mark:Int),.slice sa it.alts.length sc,.int .i64 (it.place:Int)] 148):=⟨_,rfl⟩;have hb1:Below wr.heap.size wr W1:=by rw[hW1];exact (Below.refl _ _).alloc (lr0) _
     have hs1:W1.heap.size=wr.heap.size+1:=by rw[hW1];simp
     have kx:aj W1 wr.heap.size #[.int .i64 (it.kind:Int),.string it.name,.int .u8 (it.mark:Int),.slice sa it.alts.length sc,.int .i64 (it.place:Int)] 148:=by rw[hW1];exact aj.new wr _ 148
     have hg1:wr.grownBy W1 (some o):=El hb1 _
     by_cases hk0:it.kind=0
     have hge:=hnm hk0;obtain⟨hfx,hfl⟩:=uo hge;rw[if_pos hk0]at Mf;have jV:Hid (it.kind=0):=hk0;have hkb:((it.kind:Int) == 0)=true:=by simp[hk0]
     have aaF:Lx.fix (aG g) it.name<bs.length:=by rw[hlen];simpa [aG]using hfl
     clear hk0 hnm;have hdg:DG F W1 (.slice a' g.levels.length c') (.slice a g.rules.length c) g:=h.move (fun b hb'=>(hb1.block b (by have:=h.lt b hb';omega)).trans (aaE.block b (h.lt b hb') (fun e=>by cases e;exact hF hb'))) (by omega);go_wp2_with fail;rw[<-hW1];refine (BS hdg it.name).mono ?_;rintro e w2 ⟨rfl,hb2⟩;have hs2:=hb2.size;rw[show uw g=aG g from rfl,hfx];have hB2:aj w2 o (aL br) 4:=(hb2.block _ (by omega)).trans ((hb1.block _ (by omega)).trans hBr);have nI:aj w2 w.heap.size _ 49:=(hb2.block _ (by omega)).trans ((hb1.block _ (by omega)).trans jl);have iW:aj w2 wr.heap.size _ 148:=(hb2.block _ (by omega)).trans kx;have x3:w2.cell? ⟨wr.heap.size,3,none⟩=some (.slice sa it.alts.length sc):=iW.cell 3;have y0:w2.cell? ⟨w.heap.size,0,none⟩=some (.slice a' g.levels.length c'):=nI.cell 0;have y1:w2.cell? ⟨w.heap.size,1,none⟩=some (.slice a g.rules.length c):=nI.cell 1;have o1:w2.cell? ⟨o,Lx.fix (aG g) it.name,none⟩=some (.bool (au br (Lx.fix (aG g) it.name))):=(hB2.cell _).trans (fI br (by omega));have f1:w2.frozen? ⟨o,Lx.fix (aG g) it.name,none⟩=false:=hB2.frozen _;have amS:w.heap.size≠o:=by omega
     have amT:wr.heap.size≠o:=by omega
     generalize I5:Lx.fix (aG g) it.name=q at *;go_wp2_with fail;obtain⟨W3,hW3⟩:∃ W3,W3=w2.setCell ⟨o,q,none⟩ (.bool true):=⟨_,rfl⟩;rw[<-hW3];have hg3:wr.grownBy W3 (some o):=by rw[hW3];exact aY (aY hg1 (El hb2 _)) (gK _ _ _ _)
     have hB3:aj W3 o (aL (br.set q true)) 4:=by rw[hW3,<-p9];exact hB2.set q _
     obtain⟨bq,hbq⟩:∃ bq,bq=br.set q true:=⟨_,rfl⟩;rw[<-hbq]at hB3;have hlq:bq.length=bs.length:=by rw[hbq,List.length_set,hlr]
     have hT3:T=ja (aG g) (((its.drop (m+1)).flatMap (qj d)++(l.drop (j+1)).flatMap fun a=>a.1.flatMap (qj d))) (ja (aG g) (qL d it.alts) bq):=by
      rw[Mf,hbq,<-I5];rfl
     clear hW3 hbq
     rotate_left
     rw[if_neg hk0]at Mf;have jV:Hid (¬ it.kind=0):=hk0;have hkb:((it.kind:Int) == 0)=false:=bq0 (by omega);clear hk0 hnm;go_wp2_with fail;rw[<-hW1];obtain⟨W3,hW3⟩:∃ W3,W3=W1:=⟨_,rfl⟩;rw[<-hW3];have hg3:wr.grownBy W3 (some o):=by rw[hW3];exact hg1
     obtain⟨bq,hbq⟩:∃ bq,bq=br:=⟨_,rfl⟩;have hB3:aj W3 o (aL bq) 4:=by rw[hW3,hbq];exact (hb1.block _ (by omega)).trans hBr
     have hlq:bq.length=bs.length:=by rw[hbq,hlr]
     have hT3:T=ja (aG g) (((its.drop (m+1)).flatMap (qj d)++(l.drop (j+1)).flatMap fun a=>a.1.flatMap (qj d))) (ja (aG g) (qL d it.alts) bq):=by
      rw[Mf,hbq];rfl
     clear hW3 hbq
     all_goals
      have aaG:w.grownBy W3 (some o):=aY aaE hg3;have hs3:=hg3.size;have hd3:DG F W3 (.slice a' g.levels.length c') (.slice a g.rules.length c) g:=h.move (fun b hb'=>aaG.block b (h.lt b hb') (fun e=>by cases e;exact hF hb')) aaG.size;have ha3:ay YR d F W3 _ it.alts:=ay.move (fun b hb'=>hg3.block b (by have:=h.lt b hb';omega) (fun e=>by cases e;exact hF hb')) (fun _ h=>h) ha;have q1:=IH F W3 _ _ g hd3 _ _ ha3 hu1 o bq hF hB3 (hlq.trans hlen);refine q1.mono ?_;rintro e w4 ⟨rfl,hg4,hB4⟩;have hg5:wz.grownBy w4 (some o):=aY (aY hgr hg3) hg4;go_wp2_with fail;go_roundg (its.length - (m+1))
      case measure=>omega
      case rel=>exact⟨m+1,_,by omega,by go_num,hg5,hB4,by rw[agV];exact hlq,hu2,hT3⟩
    ·have:m=its.length:=by omega
     subst this;rw[List.drop_length,List.flatMap_nil,List.nil_append]at hur hTr;have hu2:=OG hur;clear c0;go_wp2_with fail;go_roundg (l.length - (j+1))
     case measure=>omega
     case rel=>exact⟨j+1,br,by omega,by go_num,aY hgz hgr,hBr,hlr,hu2,hTr⟩
  ·go_wp2_with fail
   go_end0
   refine⟨rfl,hgw,?_⟩;have:j=l.length:=by omega
   subst this;rw[List.drop_length]at I4;rw[hT,I4];exact uW
theorem Zb:∀ d,K7 d
 | 0=>agW
 | d+1=>agX (Zb d)
namespace Lx
def gB (on:ByteArray->Bool)(d:Nat)(x:It):Bool:=decide (x.kind=1) || decide (x.mark=42) || decide (x.mark=63) || (decide (x.kind=0) && on x.name) || (decide (x.kind=2) && ig on d x.alts)
theorem WE (on:ByteArray->Bool)(d:Nat)(l:List Alt):ig on (d+1) l=l.any fun a=>a.1.all (gB on d):=rfl
end Lx
def K8 (d:Nat):Prop:=∀ (F:Nat->Prop) (w:World) (vL vR:Value) (g:Lx.Gr),DG F w vL vR g->∀ (v:Value) (l:List Lx.Alt),ay YR d F w v l->Lx.unk g (dD d l)=none->∀ (o:Nat) (bs:List Bool),aj w o (aL bs) 4->bs.length=g.rules.length ->
 Calls prog 62 #[.agg #[vL,vR],v,.slice (some ⟨o,0,none⟩) g.rules.length g.rules.length] w fun e w'=>e=.returned (.bool (ig (dK g bs) d l))/\Below w.heap.size w w'
theorem agY:K8 0:=by
 intro F w vL vR g h v l hl hu o bs hB hlen;obtain⟨rfl,rfl⟩:=hl;obtain⟨a,c,rfl,-⟩:=h.o9;obtain⟨a',c',rfl,-⟩:=h.qm;go_enter func62,ntmps62;go_wp2_with fail
 go_loopg [7] 0 (fun k i wr=>k=0/\i=.int .i64 0/\wr=w.alloc (.cells #[.slice a' g.levels.length c',.slice a g.rules.length c] 49))
 case atStart=>exact⟨rfl,rfl,rfl⟩
 case round =>
  obtain⟨rfl,rfl,rfl⟩:=hrel;go_wp2_with fail;go_ret;exact⟨rfl,(Below.refl _ _).alloc (lr0) _⟩
theorem agZ {d:Nat}(IH:K8 d):K8 (d+1):=by
 intro F w vL vR g h v l hl hu o bs hB hlen;obtain⟨a,c,rfl,hmr⟩:=h.o9;obtain⟨a',c',rfl,-⟩:=h.qm;obtain⟨va,vc,hv,hm⟩:=ay.len hl;subst hv;unfold maxLen at hm hmr;have lo:=hB.lt;go_enter func62,ntmps62;go_wp2_with fail;obtain⟨W,hW⟩:∃ W,W=w.alloc (.cells #[.slice a' g.levels.length c',.slice a g.rules.length c] 49):=⟨_,rfl⟩;rw[<-hW];have hWs:W.heap.size=w.heap.size+1:=by rw[hW];simp
 have kG:aj W w.heap.size #[.slice a' g.levels.length c',.slice a g.rules.length c] 49:=by rw[hW];exact aj.new w _ 49
 have hbW:Below w.heap.size w W:=by rw[hW];exact (Below.refl _ _).alloc (lr0) _
 clear hW;have hu0:Lx.unk g ((l.drop 0).flatMap (qd d))=none:=hu;have HE:Hid (ig (dK g bs) (d+1) l=(l.drop 0).any fun a=>a.1.all (gB (dK g bs) d)):=WE _ _ _
 go_loopg [7] l.length (fun k i wr=>∃ (j:Nat),j+k=l.length/\i=.int .i64 j/\Below W.heap.size W wr/\Lx.unk g ((l.drop j).flatMap (qd d))=none/\Hid (ig (dK g bs) (d+1) l=(l.drop j).any fun a=>a.1.all (gB (dK g bs) d)))
 case atStart=>exact⟨0,by omega,rfl,Below.refl _ _,hu0,HE⟩
 case round =>
  clear hu0 HE;revert wr;intro wz hrel;obtain⟨j,hk,rfl,hbz,AV,HE⟩:=hrel;have hbw:Below w.heap.size w wz:=hbW.trans (hbz.mono (by omega));have kD:aj wz w.heap.size _ 49:=(hbz.block _ (by omega)).trans kG;have hsz:=hbz.size
  by_cases hlt:j<l.length
  ·have h1:ay YR (d+1) F wz _ l:=ay.move (fun b hb'=>hbw.block b (h.lt b hb')) (fun _ h=>h) hl
   obtain⟨gb,cap,vi,hv,hg,hi,hc⟩:=Seq.at h1 (fun _=>rfl) hlt;cases hv;unfold Hid at HE;rw[List.drop_eq_getElem_cons hlt]at HE;rw[List.drop_eq_getElem_cons hlt,List.flatMap_cons,GI,List.append_assoc]at AV;rw[List.any_cons]at HE;generalize l[j]=x at hi hc AV HE;obtain⟨its,prec,pa⟩:=x;obtain⟨ia,ic,iF,him⟩:=Seq.len hi;subst iF;unfold maxLen at him;have c0:wz.cell? ⟨gb,j*3,none⟩=some (.slice ia its.length ic):=hc 0 (by decide);clear h1 hc;have HE2:Hid (ig (dK g bs) (d+1) l=(its.all (gB (dK g bs) d) || (l.drop (j+1)).any fun a=>a.1.all (gB (dK g bs) d))):=HE;have HA:Hid (its.all (gB (dK g bs) d)=(true && (its.drop 0).all (gB (dK g bs) d))):=by show _=_;simp
   clear HE;go_wp2_with fail
   go_loopg [8,9] its.length (fun k bv i wr=>∃ (m:Nat) (ab:Bool),m+k=its.length/\bv=.bool ab/\i=.int .i64 m/\Below wz.heap.size wz wr/\Lx.unk g ((its.drop m).flatMap (j6 d)++(uy (its,prec,pa)++(l.drop (j+1)).flatMap (qd d)))=none/\Hid (its.all (gB (dK g bs) d)=(ab && (its.drop m).all (gB (dK g bs) d))))
   case atStart=>exact⟨0,true,by omega,rfl,rfl,Below.refl _ _,AV,HA⟩
   case round =>
    clear HA;obtain⟨m,ab,hkm,rfl,rfl,hbr,hur,HA⟩:=hrel;have nY:Below w.heap.size w wr:=hbw.trans (hbr.mono (by omega));have qo:=hbr.size;have lD:gb<wr.heap.size:=by have:=h.lt gb hg;omega
    have eg:wr.heap[gb]?=wz.heap[gb]?:=hbr.block gb (by have:=h.lt gb hg;omega);have d0:wr.cell? ⟨gb,j*3,none⟩=some (.slice ia its.length ic):=(World.cell?_of_block (w:=wz) eg).trans c0;have jl:aj wr w.heap.size _ 49:=(hbr.block _ (by omega)).trans kD;have g0:wr.cell? ⟨w.heap.size,0,none⟩=some (.slice a' g.levels.length c'):=jl.cell 0;have g1:wr.cell? ⟨w.heap.size,1,none⟩=some (.slice a g.rules.length c):=jl.cell 1
    by_cases bF:m<its.length
    ·have hir:bJ YR d F wr _ its:=bJ.move (fun b hb'=>hbr.block b (by have:=h.lt b hb';omega)) (fun _ h=>h) hi
     unfold bJ nV at hir;obtain⟨n,rP,va,hv,hn,ha,hcc⟩:=Seq.at hir (fun _=>rfl) bF;cases hv;unfold Hid at HA;rw[List.drop_eq_getElem_cons bF,List.flatMap_cons,List.append_assoc]at hur;rw[List.drop_eq_getElem_cons bF,List.all_cons,<-Bool.and_assoc]at HA;generalize its[m]=it at ha hcc hur HA;obtain⟨sa,sc,hva,-⟩:=ay.len ha;subst hva;have e0:wr.cell? ⟨n,m*5,none⟩=some (.int .i64 (it.kind:Int)):=hcc 0 (by decide);have e1:wr.cell? ⟨n,m*5+1,none⟩=some (.string it.name):=hcc 1 (by decide);have e2:wr.cell? ⟨n,m*5+2,none⟩=some (.int .u8 (it.mark:Int)):=hcc 2 (by decide);have e3:wr.cell? ⟨n,m*5+3,none⟩=some (.slice sa it.alts.length sc):=hcc 3 (by decide);have e4:wr.cell? ⟨n,m*5+4,none⟩=some (.int .i64 (it.place:Int)):=hcc 4 (by decide);have lG:w.heap.size<wr.heap.size:=by omega
     have ln:n<wr.heap.size:=by have:=h.lt n hn;omega
     have lor:o<wr.heap.size:=by omega
     clear hcc hir c0;obtain⟨hnm,hu1,hu2⟩:=OE hur;obtain⟨W1,hW1⟩:∃ W1,W1=wr.alloc (.cells #[.int .i64 (it.kind:Int),.string it.name,.int .u8 (it.mark:Int),.slice sa it.alts.length sc,.int .i64 (it.place:Int)] 148):=⟨_,rfl⟩;have hb1:Below wr.heap.size wr W1:=by rw[hW1];exact (Below.refl _ _).alloc (lr0) _
     have hs1:W1.heap.size=wr.heap.size+1:=by rw[hW1];simp
     have kx:aj W1 wr.heap.size #[.int .i64 (it.kind:Int),.string it.name,.int .u8 (it.mark:Int),.slice sa it.alts.length sc,.int .i64 (it.place:Int)] 148:=by rw[hW1];exact aj.new wr _ 148
     have Fa:Below wz.heap.size wz W1:=hbr.trans (hb1.mono qo);have FH:Hid (its.all (gB (dK g bs) d)=(ab && gB (dK g bs) d it && (its.drop (m+1)).all (gB (dK g bs) d))):=HA;clear HA
     by_cases hk1:it.kind=1
     ·have hE:Hid (gB (dK g bs) d it=true):=by show _=_;simp[gB,hk1]
      have hkb:((it.kind:Int) == 1)=true:=by simp[hk1]
      clear hk1 hnm;cases ab
      all_goals
       go_wp2_with fail;rw[<-hW1];go_roundg (its.length - (m+1))
       case measure=>omega
       case rel=>exact⟨m+1,_,by omega,rfl,by go_num,Fa,hu2,by have:=FH.out;rw[hE.out]at this;exact this⟩
     ·have hkb:((it.kind:Int) == 1)=false:=bq0 (by omega)
      by_cases hm1:it.mark=42
      ·have hE:Hid (gB (dK g bs) d it=true):=by show _=_;simp[gB,hm1]
       have hmb:((it.mark:Int) == 42)=true:=by simp[hm1]
       clear hk1 hnm hm1;cases ab
       all_goals
        go_wp2_with fail;rw[<-hW1];go_roundg (its.length - (m+1))
        case measure=>omega
        case rel=>exact⟨m+1,_,by omega,rfl,by go_num,Fa,hu2,by have:=FH.out;rw[hE.out]at this;exact this⟩
      ·have hmb:((it.mark:Int) == 42)=false:=bq0 (by omega)
       by_cases hm2:it.mark=63
       ·have hE:Hid (gB (dK g bs) d it=true):=by show _=_;simp[gB,hm2]
        have akk:((it.mark:Int) == 63)=true:=by simp[hm2]
        clear hk1 hnm hm1 hm2;cases ab
        all_goals
         go_wp2_with fail;rw[<-hW1];go_roundg (its.length - (m+1))
         case measure=>omega
         case rel=>exact⟨m+1,_,by omega,rfl,by go_num,Fa,hu2,by have:=FH.out;rw[hE.out]at this;exact this⟩
       ·have akk:((it.mark:Int) == 63)=false:=bq0 (by omega)
        by_cases hk0:it.kind=0
        ·have hE:Hid (gB (dK g bs) d it=dK g bs it.name):=by show _=_;simp[gB,hm1,hm2,hk0]
         have hge:=hnm hk0;obtain⟨hfx,hfl⟩:=uo hge;have akl:((it.kind:Int) == 0)=true:=by simp[hk0]
         have hkb2:((it.kind:Int) == 2)=false:=by simp[hk0]
         have aaF:Lx.fix (aG g) it.name<g.rules.length:=by simpa [aG]using hfl
         clear hk1 hnm hm1 hm2 hk0;have hdg:DG F W1 (.slice a' g.levels.length c') (.slice a g.rules.length c) g:=(h.below nY).below hb1;go_wp2_with fail;rw[<-hW1];refine (BS hdg it.name).mono ?_;rintro e w2 ⟨rfl,hb2⟩;have hs2:=hb2.size;rw[show uw g=aG g from rfl,hfx];have hB2:aj w2 o (aL bs) 4:=(hb2.block _ (by omega)).trans ((hb1.block _ (by omega)).trans ((nY.block _ lo).trans hB));have iW:aj w2 wr.heap.size _ 148:=(hb2.block _ (by omega)).trans kx;have x0:w2.cell? ⟨wr.heap.size,0,none⟩=some (.int .i64 (it.kind:Int)):=iW.cell 0;have o1:w2.cell? ⟨o,Lx.fix (aG g) it.name,none⟩=some (.bool (dK g bs it.name)):=(hB2.cell _).trans (fI bs (by omega));have sQ:Below wz.heap.size wz w2:=Fa.trans (hb2.mono (by omega));generalize I5:Lx.fix (aG g) it.name=q at aaF o1 |-;clear hfx hfl hge I5;cases hon:dK g bs it.name
         all_goals
          rw[hon]at o1 hE;cases ab
          all_goals
           go_wp2_with fail;go_roundg (its.length - (m+1))
           case measure=>omega
           case rel=>exact⟨m+1,_,by omega,rfl,by go_num,sQ,hu2,by have:=FH.out;rw[hE.out]at this;exact this⟩
        ·have akl:((it.kind:Int) == 0)=false:=bq0 (by omega)
         by_cases hk2:it.kind=2
         ·have hE:Hid (gB (dK g bs) d it=ig (dK g bs) d it.alts):=by show _=_;simp[gB,hm1,hm2,hk2]
          have hkb2:((it.kind:Int) == 2)=true:=by simp[hk2]
          clear hk1 hnm hm1 hm2 hk0 hk2;have hdg:DG F W1 (.slice a' g.levels.length c') (.slice a g.rules.length c) g:=(h.below nY).below hb1;have ha1:ay YR d F W1 _ it.alts:=ay.move (fun b hb'=>hb1.block b (by have:=h.lt b hb';omega)) (fun _ h=>h) ha;have hB1:aj W1 o (aL bs) 4:=(hb1.block _ (by omega)).trans ((nY.block _ lo).trans hB);go_wp2_with fail;rw[<-hW1];refine (IH F W1 _ _ g hdg _ _ ha1 hu1 o bs hB1 hlen).mono ?_;rintro e w2 ⟨rfl,hb2⟩;have sQ:Below wz.heap.size wz w2:=Fa.trans (hb2.mono (by omega));cases hon:ig (dK g bs) d it.alts
          all_goals
           rw[hon]at hE;cases ab
           all_goals
            go_wp2_with fail;go_roundg (its.length - (m+1))
            case measure=>omega
            case rel=>exact⟨m+1,_,by omega,rfl,by go_num,sQ,hu2,by have:=FH.out;rw[hE.out]at this;exact this⟩
         ·have hE:Hid (gB (dK g bs) d it=false):=by show _=_;simp[gB,hk1,hm1,hm2,hk0,hk2]
          have hkb2:((it.kind:Int) == 2)=false:=bq0 (by omega);clear hk1 hnm hm1 hm2 hk0 hk2;cases ab
          all_goals
           go_wp2_with fail;rw[<-hW1];go_roundg (its.length - (m+1))
           case measure=>omega
           case rel=>exact⟨m+1,_,by omega,rfl,by go_num,Fa,hu2,by have:=FH.out;rw[hE.out]at this;exact this⟩
    ·have:m=its.length:=by omega
     subst this;rw[List.drop_length,List.flatMap_nil,List.nil_append]at hur;have hu2:=OG hur;have hA:its.all (gB (dK g bs) d)=ab:=by have:=HA.out;rw[List.drop_length]at this;simpa using this
     have hE2:=HE2.out;rw[hA]at hE2;have HF:Hid (ig (dK g bs) (d+1) l=(ab || (l.drop (j+1)).any fun a=>a.1.all (gB (dK g bs) d))):=hE2;clear hA hE2 c0;cases ab with
     | true =>
      go_wp2_with fail;go_ret;exact⟨by rw[HF.out];rfl,nY⟩
     | false =>
      go_wp2_with fail;go_roundg (l.length - (j+1))
      case measure=>omega
      case rel=>exact⟨j+1,by omega,by go_num,hbz.trans (hbr.mono hsz),hu2,by have:=HF.out;rw[Bool.false_or]at this;exact this⟩
  ·have:j=l.length:=by omega
   subst this;have hE:=HE.out;rw[List.drop_length]at hE;have HF:Hid (ig (dK g bs) (d+1) l=false):=hE;clear hE;go_wp2_with fail;go_ret;exact⟨by rw[HF.out];rfl,hbw⟩
theorem Ql:∀ d,K8 d
 | 0=>agY
 | d+1=>agZ (Ql d)
end Go.Proofs.YtlcppnabbicmoaaGreatDoor

import Derived.Test.YtjaalkocdbkdeaaGreatDoorSA06
import Derived.BigQuiet
import Derived.Deep.QuietTactic
set_option maxHeartbeats 8000000
set_option maxRecDepth 1000000
namespace Go.Proofs.YtjaalkocdbkdeaaGreatDoor
open Lx Go.Proofs.Tryz
open Go.RowKit
open Tr
namespace Lx
def unk(g:Gr)(ws:List Wd):Option Nat:=lW (aK g) (gZ g) ws
theorem O1(g:Gr)(a b:List Wd):unk g (a++b)=(unk g a).or (unk g b):=Nw _ _ a b
theorem XV{l:List ByteArray}{b:ByteArray}:bA l b<0↔iH b l=false:=by
 have h:=iA (l:=l) (b:=b);rw[Ve];constructor
 ·intro h1 h2;have:=h.2 h2;omega
 ·intro h1;by_cases h2:bA l b<0
  ·exact h2
  ·exact absurd (h.1 (by omega)) h1
theorem OP(g:Gr)(b:ByteArray):lvls g b=iH b (gZ g):=by
 have e:lvls g b=true↔iH b (gZ g)=true:=by
  rw[wU];unfold lvls gZ eP gY;rw[List.any_eq_true];constructor
  ·rintro⟨lv,h1,h2⟩
   have h2:=iA.1 (of_decide_eq_true h2);obtain⟨t,ht,rfl⟩:=List.mem_map.1 h2;exact List.mem_map.2 ⟨(0,t.1,t.2),List.mem_flatMap.2 ⟨lv,h1,List.mem_map.2 ⟨t,ht,rfl⟩⟩,rfl⟩
  ·intro h
   obtain⟨wd,h1,rfl⟩:=List.mem_map.1 h;obtain⟨lv,h2,h3⟩:=List.mem_flatMap.1 h1;obtain⟨t,ht,rfl⟩:=List.mem_map.1 h3;exact⟨lv,h2,decide_eq_true (iA.2 (List.mem_map.2 ⟨t,ht,rfl⟩))⟩
 cases h1:lvls g b <;> cases h2:iH b (gZ g) <;> simp_all
def tZ(a:Alt):List Wd:=if a.2.1=aL then [] else [(4,a.2.1,a.2.2)]
theorem FX(d:Nat)(a:Alt):qy d a=a.1.flatMap (jX d)++tZ a:=rfl
theorem UA{g:Gr}{d:Nat}{x:It}(h0:x.kind=0)(h:bA (aK g) x.name<0)(r:List Wd):unk g (jX d x++r)=some x.place:=by
 unfold unk jX;rw[if_pos h0];simp only[List.cons_append,List.nil_append,lW];rw[if_pos (.inl ⟨by simp,XV.1 h⟩)]
theorem UB{g:Gr}{d:Nat}{x:It}(h:¬(x.kind=0/\bA (aK g) x.name<0))(r:List Wd):unk g (jX d x++r)=(unk g (dw d x.alts)).or (unk g r):=by
 rw[show jX d x=(if x.kind=0 then [(2,x.name,x.place)] else if x.kind=1 then [(3,x.name,x.place)] else [])++dw d x.alts from rfl,List.append_assoc,O1,O1];have e:unk g (if x.kind=0 then [(2,x.name,x.place)] else if x.kind=1 then [(3,x.name,x.place)] else [])=none:=by
  unfold unk
  split
  ·rename_i h0
   have:¬iH x.name (aK g)=false:=fun e=>h ⟨h0,XV.2 e⟩
   simp only[lW];rw[if_neg];rintro(⟨_,h2⟩ | ⟨h1,_⟩)
   ·exact this h2
   ·cases h1
  ·split
   ·simp[lW]
   ·rfl
 rw[e];rfl
theorem UC{g:Gr}{a:Alt}(h:a.2.1≠aL)(hl:lvls g a.2.1=false)(r:List Wd):unk g (tZ a++r)=some a.2.2:=by
 unfold unk tZ;rw[if_neg h];simp only[List.cons_append,List.nil_append,lW];rw[if_pos (.inr ⟨by simp,by rw[<-OP];exact hl⟩)]
theorem UD{g:Gr}{a:Alt}(h:a.2.1=aL\/lvls g a.2.1=true)(r:List Wd):unk g (tZ a++r)=unk g r:=by
 unfold unk tZ
 split
 ·rfl
 ·rename_i h0
  have hl:=h.resolve_left h0;rw[OP]at hl;simp[lW,hl]
end Lx
def PX(n:Nat):Option Nat->Int
 |none=>0
 |some _=>n
def Q9:Option Nat->Int
 |none=>0
 |some p=>p
def Ld(n:Nat)(o:Option Nat):Value:=.agg #[.int .i64 (PX n o),.int .i64 (Q9 o)]
theorem JS {P:Program} {ops:Array Oper} {o:Oper} {a:Act} {w:World} {K:Act->World->Prop} {Q:Exit->Act->World->Prop} {E:Prop} (hw:Region.wanted o (yielded ops a.tmps)=true) (f:FuncId) (args:Array Value)
  (hrun:(execOp a.eval o).run P w=.ok (.enter f args) w) {R:Ending->World->Prop} (hc:Calls P f args w R) (h:∀e w',R e w'->∃v,e=.returned v/\K (a.put o.dst v) w') :
  if Region.wanted o (yielded ops a.tmps)=true then Oper.wp P o a w K Q else E:=by
 rw[if_pos hw];unfold Oper.wp;rw[hrun,Oper.upon_enter];refine hc.mono ?_;intro e w' hr;obtain⟨v,rfl,hk⟩:=h e w' hr;exact hk
theorem _root_.Go.RowKit.Below.uo{B:Nat}{a w:World}(h:Below B a w){r:Nat}(hr:B<=r)(x y:Value):Below B a ((w.setCell ⟨r,0,none⟩ x).setCell ⟨r,1,none⟩ y):=(h.setCell (p:=⟨r,0,none⟩) hr x).setCell (p:=⟨r,1,none⟩) hr y
def JJ(d:Nat):Prop:=∀(F:Nat->Prop)(w:World)(vL vR:Value)(g:Lx.Gr),DG F w vL vR g->∀(v:Value)(l:List Lx.Alt),ay YR d F w v l ->
 Calls prog 52 #[.agg #[vL,vR],v] w fun e w'=>e=.returned (Ld 5 (Lx.unk g (dw d l)))/\Below w.heap.size w w'
theorem ad7:JJ 0:=by
 intro F w vL vR g h v l hl;obtain⟨rfl,rfl⟩:=hl;obtain⟨a,c,rfl,-⟩:=h.sF;obtain⟨a',c',rfl,-⟩:=h.uh;go_enter func52,ntmps52;go_wp2_with fail
 go_loopg [5] 0 (fun k i wr=>k=0/\i=.int .i64 0/\wr=(w.alloc (.cells #[.slice a' g.levels.length c',.slice a g.rules.length c] 86)).alloc (.cells #[.int .i64 0,.int .i64 0] 90))
 case atStart=>exact⟨rfl,rfl,rfl⟩
 case round=>
  obtain⟨rfl,rfl,rfl⟩:=hrel;go_wp2_with fail;refine bodyPost_ret (v:=.agg #[.int .i64 0,.int .i64 0]) (by simp[results,results52,go_sem]) rfl ⟨rfl,?_⟩;exact((Below.refl _ _).alloc (zL0) _).alloc (by simp) _
theorem ad8{d:Nat}(IH:JJ d):JJ (d+1):=by
 intro F w vL vR g h v l hl;obtain⟨a,c,rfl,-⟩:=h.sF;obtain⟨a',c',rfl,-⟩:=h.uh;obtain⟨va,vc,hv,hm⟩:=ay.len hl;subst hv;unfold maxLen at hm;go_enter func52,ntmps52;go_wp2_with fail;have hW:∃W,W=(w.alloc (.cells #[.slice a' g.levels.length c',.slice a g.rules.length c] 86)).alloc (.cells #[.int .i64 0,.int .i64 0] 90):=⟨_,rfl⟩;obtain⟨W,hW⟩:=hW;rw[<-hW];have hWs:W.heap.size=w.heap.size+2:=by rw[hW];simp
 have kG:aj W w.heap.size #[.slice a' g.levels.length c',.slice a g.rules.length c] 86:=by rw[hW];exact(aj.new w _ 86).alloc _
 have kR:aj W (w.heap.size+1) #[.int .i64 0,.int .i64 0] 90:=by rw[hW];simpa using aj.new (w.alloc (.cells #[.slice a' g.levels.length c',.slice a g.rules.length c] 86)) #[.int .i64 0,.int .i64 0] 90
 have hB:Below w.heap.size w W:=by rw[hW];exact((Below.refl _ _).alloc (zL0) _).alloc (by simp) _
 clear hW
 go_loopg [5] l.length (fun k i wr=>∃j:Nat,j+k=l.length/\i=.int .i64 j/\Below W.heap.size W wr/\Lx.unk g (dw (d+1) l)=Lx.unk g ((l.drop j).flatMap (qy d)))
 case atStart=>exact⟨0,by omega,rfl,Below.refl _ _,rfl⟩
 case round=>
  revert wr;intro wz hrel;obtain⟨j,hk,rfl,hbz,hun⟩:=hrel;have hbw:Below w.heap.size w wz:=hB.trans (hbz.mono (by omega));have jP:aj wz w.heap.size _ 86:=(hbz.block _ (by omega)).trans kG;have vE:aj wz (w.heap.size+1) _ 90:=(hbz.block _ (by omega)).trans kR
  by_cases hlt:j<l.length
  ·have h1:ay YR (d+1) F wz _ l:=ay.move (fun b hb'=>hbw.block b (h.lt b hb')) (fun _ h=>h) hl
   obtain⟨gb,cap,vi,hv,hg,hi,hc⟩:=Seq.at h1 (fun _=>rfl) hlt;cases hv;rw[List.drop_eq_getElem_cons hlt,List.flatMap_cons,FX,List.append_assoc]at hun;generalize l[j]=x at hi hc hun;obtain⟨its,prec,pa⟩:=x;obtain⟨ia,ic,iK,him⟩:=Seq.len hi;subst iK;unfold maxLen at him;have c0:wz.cell? ⟨gb,j*3,none⟩=some (.slice ia its.length ic):=hc 0 (by decide);have c1:wz.cell? ⟨gb,j*3+1,none⟩=some (.string prec):=hc 1 (by decide);have c2:wz.cell? ⟨gb,j*3+2,none⟩=some (.int .i64 (pa:Int)):=hc 2 (by decide);clear h1 hc;go_wp2_with fail
   go_loopg [6] its.length (fun k i wr=>∃m:Nat,m+k=its.length/\i=.int .i64 m/\Below wz.heap.size wz wr/\Lx.unk g (dw (d+1) l)=Lx.unk g ((its.drop m).flatMap (jX d)++(tZ (its,prec,pa)++(l.drop (j+1)).flatMap (qy d))))
   case atStart=>exact⟨0,by omega,rfl,Below.refl _ _,hun⟩
   case round=>
    obtain⟨m,hkm,rfl,hbr,hur⟩:=hrel;have hsz:=hbz.size;have pV:=hbr.size;have GK:Below w.heap.size w wr:=hbw.trans (hbr.mono (by omega));have eg:wr.heap[gb]?=wz.heap[gb]?:=hbr.block gb (by have:=h.lt gb hg;omega);have d0:wr.cell? ⟨gb,j*3,none⟩=some (.slice ia its.length ic):=(World.cell?_of_block (w:=wz) eg).trans c0;have d1:wr.cell? ⟨gb,j*3+1,none⟩=some (.string prec):=(World.cell?_of_block (w:=wz) eg).trans c1;have d2:wr.cell? ⟨gb,j*3+2,none⟩=some (.int .i64 (pa:Int)):=(World.cell?_of_block (w:=wz) eg).trans c2;have jb:aj wr w.heap.size _ 86:=(hbr.block _ (by omega)).trans jP;have xE:aj wr (w.heap.size+1) _ 90:=(hbr.block _ (by omega)).trans vE;have g0:wr.cell? ⟨w.heap.size,0,none⟩=some (.slice a' g.levels.length c'):=jb.cell 0;have g1:wr.cell? ⟨w.heap.size,1,none⟩=some (.slice a g.rules.length c):=jb.cell 1
    by_cases bJ:m<its.length
    ·have hir:bM YR d F wr _ its:=bM.move (fun b hb'=>hbr.block b (by have:=h.lt b hb';omega)) (fun _ h=>h) hi
     unfold bM ow at hir;obtain⟨n,sG,va,hv,hn,ha,hcc⟩:=Seq.at hir (fun _=>rfl) bJ;cases hv;rw[List.drop_eq_getElem_cons bJ,List.flatMap_cons,List.append_assoc]at hur;generalize its[m]=it at ha hcc hur;obtain⟨sa,sc,hva,-⟩:=ay.len ha;subst hva;have e0:wr.cell? ⟨n,m*5,none⟩=some (.int .i64 (it.kind:Int)):=hcc 0 (by decide);have e1:wr.cell? ⟨n,m*5+1,none⟩=some (.string it.name):=hcc 1 (by decide);have e2:wr.cell? ⟨n,m*5+2,none⟩=some (.int .u8 (it.mark:Int)):=hcc 2 (by decide);have e3:wr.cell? ⟨n,m*5+3,none⟩=some (.slice sa it.alts.length sc):=hcc 3 (by decide);have e4:wr.cell? ⟨n,m*5+4,none⟩=some (.int .i64 (it.place:Int)):=hcc 4 (by decide);have lG:w.heap.size<wr.heap.size:=by omega
     have lR:w.heap.size+1<wr.heap.size:=by omega
     have ny:gb<wr.heap.size:=by have:=h.lt gb hg;omega
     have ln:n<wr.heap.size:=by have:=h.lt n hn;omega
     clear hcc hir c0 c1 c2;obtain⟨W1,hW1⟩:∃W1,W1=wr.alloc (.cells #[.int .i64 (it.kind:Int),.string it.name,.int .u8 (it.mark:Int),.slice sa it.alts.length sc,.int .i64 (it.place:Int)] 158):=⟨_,rfl⟩;have hb1:Below wr.heap.size wr W1:=by rw[hW1];exact(Below.refl _ _).alloc (zL0) _
     have hs1:W1.heap.size=wr.heap.size+1:=by rw[hW1];simp
     have kx:aj W1 wr.heap.size #[.int .i64 (it.kind:Int),.string it.name,.int .u8 (it.mark:Int),.slice sa it.alts.length sc,.int .i64 (it.place:Int)] 158:=by rw[hW1];exact aj.new wr _ 158
     have hdg:DG F W1 (.slice a' g.levels.length c') (.slice a g.rules.length c) g:=(h.below GK).move (fun b hb'=>hb1.block b (by have:=h.lt b hb';omega)) hb1.size;have Aj:Below w.heap.size w W1:=GK.trans (hb1.mono (by omega));have hr:=zK (aK g) it.name;have hlr:(aK g).length<=2 ^ 63-1:=by
      obtain⟨_,_,_,hq⟩:=h.sF;unfold maxLen at hq;simpa [aK]using hq
     have hrn:uZ g=aK g:=rfl
     by_cases sH:it.kind=0/\bA (aK g) it.name<0
     ·have uq:=hur.trans (UA sH.1 sH.2 _)
      obtain⟨hk0,hneg⟩:=sH;have qm:Hid (it.kind=0):=hk0;have hkb:((it.kind:Int) == 0)=true:=by simp[hk0]
      clear hk0;go_wp2_with fail;rw[<-hW1];refine(DY hdg it.name).mono ?_;rintro e w2⟨rfl,hb2⟩;rw[hrn];have mP:aj w2 (w.heap.size+1) _ 90:=(hb2.block _ (by omega)).trans ((hb1.block _ (by omega)).trans xE);have iL:aj w2 wr.heap.size _ 158:=(hb2.block _ (by omega)).trans kx;have x4:w2.cell? ⟨wr.heap.size,4,none⟩=some (.int .i64 (it.place:Int)):=iL.cell 4;have r0:w2.cell? ⟨w.heap.size+1,0,none⟩=some (.int .i64 0):=mP.cell 0;have r1:w2.cell? ⟨w.heap.size+1,1,none⟩=some (.int .i64 0):=mP.cell 1;have f0:∀j,w2.frozen? ⟨w.heap.size+1,j,none⟩=false:=mP.frozen;have hb3:Below w.heap.size w w2:=Aj.trans (hb2.mono (by omega));go_wp2_with fail;refine bodyPost_ret (v:=.agg #[.int .i64 5,.int .i64 (it.place:Int)]) (by simp[results,results52,go_sem,r0,r1]) rfl ⟨?_,?_⟩
      ·rw[uq];rfl
      ·exact hb3.uo (Nat.le_succ _) _ _
     ·have uq:=hur.trans (UB sH _)
      by_cases hk0:it.kind=0
      have hge:0<=bA (aK g) it.name:=by have:=fun h=>sH ⟨hk0,h⟩;omega
      have qm:Hid (it.kind=0):=hk0;have hkb:((it.kind:Int) == 0)=true:=by simp[hk0]
      clear hk0 sH;go_wp2_with fail;rw[<-hW1];refine(DY hdg it.name).mono ?_;rintro e w2⟨rfl,hb2⟩;rw[hrn];have tq:aj w2 w.heap.size _ 86:=(hb2.block _ (by omega)).trans ((hb1.block _ (by omega)).trans jb);have iL:aj w2 wr.heap.size _ 158:=(hb2.block _ (by omega)).trans kx;have x3:w2.cell? ⟨wr.heap.size,3,none⟩=some (.slice sa it.alts.length sc):=iL.cell 3;have y0:w2.cell? ⟨w.heap.size,0,none⟩=some (.slice a' g.levels.length c'):=tq.cell 0;have y1:w2.cell? ⟨w.heap.size,1,none⟩=some (.slice a g.rules.length c):=tq.cell 1;go_wp2_with fail
      rotate_left
      have hkb:((it.kind:Int) == 0)=false:=zB0 (by omega);have qm:Hid (¬it.kind=0):=hk0;clear hk0 sH;go_wp2_with fail;rw[<-hW1];obtain⟨w2,hw2⟩:∃w2,w2=W1:=⟨_,rfl⟩;have hb2:Below W1.heap.size W1 w2:=by rw[hw2];exact Below.refl _ _
      rw[<-hw2]
      all_goals
       have hs2:=hb2.size;have hb3:Below w.heap.size w w2:=Aj.trans (hb2.mono (by omega));have ZC:Below wr.heap.size wr w2:=hb1.trans (hb2.mono (by omega));have ha2:ay YR d F w2 _ it.alts:=ay.move (fun b hb'=>ZC.block b (by have:=h.lt b hb';omega)) (fun _ h=>h) ha;refine(IH F w2 _ _ g (h.below hb3) _ _ ha2).mono ?_;rintro e w3⟨rfl,hb4⟩;have hb5:Below wr.heap.size wr w3:=ZC.trans (hb4.mono (by omega));have hs3:=hb4.size;unfold Ld;cases hq:Lx.unk g (dw d it.alts) with
       |some pq=>
        rw[hq]at uq;have iy:aj w3 (w.heap.size+1) _ 90:=(hb5.block _ (by omega)).trans xE;have r0:w3.cell? ⟨w.heap.size+1,0,none⟩=some (.int .i64 0):=iy.cell 0;have r1:w3.cell? ⟨w.heap.size+1,1,none⟩=some (.int .i64 0):=iy.cell 1;have f0:∀j,w3.frozen? ⟨w.heap.size+1,j,none⟩=false:=iy.frozen;have lR3:w.heap.size+1<w3.heap.size:=by omega
        have hb6:=((GK.trans (hb5.mono (by omega))).uo (Nat.le_succ w.heap.size) (.int .i64 5) (.int .i64 (pq:Int))).alloc (by simp;omega) (.cells #[.int .i64 5,.int .i64 (pq:Int)] 90);have kR6:=((iy.set 0 (.int .i64 5)).set 1 (.int .i64 (pq:Int))).alloc (.cells #[.int .i64 5,.int .i64 (pq:Int)] 90);have z0:=kR6.cell 0;have z1:=kR6.cell 1;simp at z0 z1;simp only[PX,Q9];go_wp2_with fail;refine bodyPost_ret (v:=.agg #[.int .i64 5,.int .i64 (pq:Int)]) (by simp[results,results52,go_sem,z0,z1]) rfl ⟨?_,?_⟩
        ·rw[uq];rfl
        ·exact hb6
       |none=>
        rw[hq]at uq;have hb6:=(hbr.trans (hb5.mono pV)).alloc (by omega) (.cells #[.int .i64 0,.int .i64 0] 90);simp only[PX,Q9];go_wp2_with fail;go_roundg (its.length - (m+1))
        case measure=>omega
        case rel=>exact⟨m+1,by omega,by go_num,hb6,uq⟩
    ·have:m=its.length:=by omega
     subst this;rw[List.drop_length,List.flatMap_nil,List.nil_append]at hur
     by_cases hp:prec=aL
     ·have hpb:(prec.toList == [])=true:=by rw[hp,ByteArray.toList_eq];rfl
      have uq:=hur.trans (UD (.inl hp) _);have HP:Hid (prec=aL):=hp;clear hp c0 c1 c2;go_wp2_with fail
      go_quiet (fail)
      have hb6:Below W.heap.size W (wr.drewN nq):=(hbz.trans (hbr.mono hsz)).trans ⟨rfl,rfl,rfl,zL0,fun _ _=>rfl⟩;go_wp2_with fail;go_roundg (l.length - (j+1))
      case measure=>omega
      case rel=>exact⟨j+1,by omega,by go_num,hb6,uq⟩
     ·have hpb:(prec.toList == [])=false:=lC (l:=[]) hp
      have HP:Hid (prec≠aL):=hp;have hdg:DG F wr (.slice a' g.levels.length c') (.slice a g.rules.length c) g:=h.below GK;have lG:w.heap.size<wr.heap.size:=by omega
      have ny:gb<wr.heap.size:=by have:=h.lt gb hg;omega
      clear c0 c1 c2;cases hlv:Lx.lvls g prec with
      |true=>
       have uq:=hur.trans (UD (.inr hlv) _);clear hp;go_wp2_with fail
       go_region_law (have q1:=Uu (hdg.below (w':=wr.drew) ⟨rfl,rfl,rfl,zL0,fun _ _=>rfl⟩) prec;rw[hlv]at q1;refine JS (by go_simp) 100 #[.agg #[.slice a' g.levels.length c',.slice a g.rules.length c],.string prec] (by go_simp) q1 ?_;rintro e w1⟨rfl,hb1⟩;refine⟨_,rfl,?_⟩)
       all_goals
        have hb6:Below W.heap.size W w1:=(hbz.trans (hbr.mono hsz)).trans ((Below.refl _ wr).drew.trans (hb1.mono (show W.heap.size<=wr.heap.size by omega)));go_wp2_with fail;go_roundg (l.length - (j+1))
        case measure=>omega
        case rel=>exact⟨j+1,by omega,by go_num,hb6,uq⟩
      |false=>
       have uq:=hur.trans (UC hp hlv _);clear hp;go_wp2_with fail
       go_region_law (have q1:=Uu (hdg.below (w':=wr.drew) ⟨rfl,rfl,rfl,zL0,fun _ _=>rfl⟩) prec;rw[hlv]at q1;refine JS (by go_simp) 100 #[.agg #[.slice a' g.levels.length c',.slice a g.rules.length c],.string prec] (by go_simp) q1 ?_;rintro e w1⟨rfl,hb1⟩;refine⟨_,rfl,?_⟩)
       all_goals
        have hb6:Below wr.heap.size wr w1:=(Below.refl _ wr).drew.trans hb1;have iy:aj w1 (w.heap.size+1) _ 90:=(hb6.block _ (by omega)).trans xE;have m2:w1.cell? ⟨gb,j*3+2,none⟩=some (.int .i64 (pa:Int)):=(World.cell?_of_block (w:=wr) (hb6.block gb ny)).trans d2;have r0:w1.cell? ⟨w.heap.size+1,0,none⟩=some (.int .i64 0):=iy.cell 0;have r1:w1.cell? ⟨w.heap.size+1,1,none⟩=some (.int .i64 0):=iy.cell 1;have f0:∀j,w1.frozen? ⟨w.heap.size+1,j,none⟩=false:=iy.frozen;have jc:=(GK.trans (hb6.mono (by omega))).uo (Nat.le_succ w.heap.size) (.int .i64 5) (.int .i64 (pa:Int));go_wp2_with fail;refine bodyPost_ret (v:=.agg #[.int .i64 5,.int .i64 (pa:Int)]) (by simp[results,results52,go_sem,r0,r1]) rfl ⟨?_,?_⟩
        ·rw[uq];rfl
        ·exact jc
  ·have:j=l.length:=by omega
   subst this;rw[List.drop_length,List.flatMap_nil]at hun;have r0:wz.cell? ⟨w.heap.size+1,0,none⟩=some (.int .i64 0):=vE.cell 0;have r1:wz.cell? ⟨w.heap.size+1,1,none⟩=some (.int .i64 0):=vE.cell 1;have f0:∀j,wz.frozen? ⟨w.heap.size+1,j,none⟩=false:=vE.frozen;go_wp2_with fail;refine bodyPost_ret (v:=.agg #[.int .i64 0,.int .i64 0]) (by simp[results,results52,go_sem,r0,r1]) rfl ⟨?_,?_⟩
   ·rw[hun];rfl
   ·exact hbw.uo (Nat.le_succ _) _ _
theorem Vh:∀d,JJ d
 |0=>ad7
 |d+1=>ad8 (Vh d)
end Go.Proofs.YtjaalkocdbkdeaaGreatDoor

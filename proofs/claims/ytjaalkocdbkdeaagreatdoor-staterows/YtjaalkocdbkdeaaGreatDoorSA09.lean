import Derived.Test.YtjaalkocdbkdeaaGreatDoorSA08
set_option maxHeartbeats 8000000
set_option maxRecDepth 1000000
namespace Go.Proofs.YtjaalkocdbkdeaaGreatDoor
open Lx Go.Proofs.Tryz
open Go.RowKit
open Tr
namespace Lx
def fQ(on:ByteArray->Bool)(d:Nat)(x:It):Bool:=decide (x.kind=1) || decide (x.mark=42) || decide (x.mark=63) || (decide (x.kind=0) && on x.name) || (decide (x.kind=2) && iw on d x.alts)
theorem Vj(on:ByteArray->Bool)(d:Nat)(l:List Alt):iw on (d+1) l=l.any fun a=>a.1.all (fQ on d):=rfl
end Lx
def Kl(d:Nat):Prop:=∀(F:Nat->Prop)(w:World)(vL vR:Value)(g:Lx.Gr),DG F w vL vR g->∀(v:Value)(l:List Lx.Alt),ay YR d F w v l->Lx.unk g (dw d l)=none->∀(o:Nat)(bs:List Bool),aj w o (bF bs) 4->bs.length=g.rules.length ->
 Calls prog 54 #[.agg #[vL,vR],v,.slice (some ⟨o,0,none⟩) g.rules.length g.rules.length] w fun e w'=>e=.returned (.bool (iw (dD g bs) d l))/\Below w.heap.size w w'
theorem af3:Kl 0:=by
 intro F w vL vR g h v l hl hu o bs hB hlen;obtain⟨rfl,rfl⟩:=hl;obtain⟨a,c,rfl,-⟩:=h.sF;obtain⟨a',c',rfl,-⟩:=h.uh;go_enter func54,ntmps54;go_wp2_with fail
 go_loopg [7] 0 (fun k i wr=>k=0/\i=.int .i64 0/\wr=w.alloc (.cells #[.slice a' g.levels.length c',.slice a g.rules.length c] 86))
 case atStart=>exact⟨rfl,rfl,rfl⟩
 case round=>
  obtain⟨rfl,rfl,rfl⟩:=hrel;go_wp2_with fail;go_ret;exact⟨rfl,(Below.refl _ _).alloc (zL0) _⟩
theorem af4{d:Nat}(IH:Kl d):Kl (d+1):=by
 intro F w vL vR g h v l hl hu o bs hB hlen;obtain⟨a,c,rfl,hmr⟩:=h.sF;obtain⟨a',c',rfl,-⟩:=h.uh;obtain⟨va,vc,hv,hm⟩:=ay.len hl;subst hv;unfold maxLen at hm hmr;have lo:=hB.lt;go_enter func54,ntmps54;go_wp2_with fail;obtain⟨W,hW⟩:∃W,W=w.alloc (.cells #[.slice a' g.levels.length c',.slice a g.rules.length c] 86):=⟨_,rfl⟩;rw[<-hW];have hWs:W.heap.size=w.heap.size+1:=by rw[hW];simp
 have kG:aj W w.heap.size #[.slice a' g.levels.length c',.slice a g.rules.length c] 86:=by rw[hW];exact aj.new w _ 86
 have hbW:Below w.heap.size w W:=by rw[hW];exact(Below.refl _ _).alloc (zL0) _
 clear hW;have hu0:Lx.unk g ((l.drop 0).flatMap (qy d))=none:=hu;have HE:Hid (iw (dD g bs) (d+1) l=(l.drop 0).any fun a=>a.1.all (fQ (dD g bs) d)):=Vj _ _ _
 go_loopg [7] l.length (fun k i wr=>∃(j:Nat),j+k=l.length/\i=.int .i64 j/\Below W.heap.size W wr/\Lx.unk g ((l.drop j).flatMap (qy d))=none/\Hid (iw (dD g bs) (d+1) l=(l.drop j).any fun a=>a.1.all (fQ (dD g bs) d)))
 case atStart=>exact⟨0,by omega,rfl,Below.refl _ _,hu0,HE⟩
 case round=>
  clear hu0 HE;revert wr;intro wz hrel;obtain⟨j,hk,rfl,hbz,Aw,HE⟩:=hrel;have hbw:Below w.heap.size w wz:=hbW.trans (hbz.mono (by omega));have jP:aj wz w.heap.size _ 86:=(hbz.block _ (by omega)).trans kG;have hsz:=hbz.size
  by_cases hlt:j<l.length
  ·have h1:ay YR (d+1) F wz _ l:=ay.move (fun b hb'=>hbw.block b (h.lt b hb')) (fun _ h=>h) hl
   obtain⟨gb,cap,vi,hv,hg,hi,hc⟩:=Seq.at h1 (fun _=>rfl) hlt;cases hv;unfold Hid at HE;rw[List.drop_eq_getElem_cons hlt]at HE;rw[List.drop_eq_getElem_cons hlt,List.flatMap_cons,FX,List.append_assoc]at Aw;rw[List.any_cons]at HE;generalize l[j]=x at hi hc Aw HE;obtain⟨its,prec,pa⟩:=x;obtain⟨ia,ic,iK,him⟩:=Seq.len hi;subst iK;unfold maxLen at him;have c0:wz.cell? ⟨gb,j*3,none⟩=some (.slice ia its.length ic):=hc 0 (by decide);clear h1 hc;have HE2:Hid (iw (dD g bs) (d+1) l=(its.all (fQ (dD g bs) d) || (l.drop (j+1)).any fun a=>a.1.all (fQ (dD g bs) d))):=HE;have HA:Hid (its.all (fQ (dD g bs) d)=(true && (its.drop 0).all (fQ (dD g bs) d))):=by show _=_;simp
   clear HE;go_wp2_with fail
   go_loopg [8,9] its.length (fun k bv i wr=>∃(m:Nat)(ab:Bool),m+k=its.length/\bv=.bool ab/\i=.int .i64 m/\Below wz.heap.size wz wr/\Lx.unk g ((its.drop m).flatMap (jX d)++(tZ (its,prec,pa)++(l.drop (j+1)).flatMap (qy d)))=none/\Hid (its.all (fQ (dD g bs) d)=(ab && (its.drop m).all (fQ (dD g bs) d))))
   case atStart=>exact⟨0,true,by omega,rfl,rfl,Below.refl _ _,Aw,HA⟩
   case round=>
    clear HA;obtain⟨m,ab,hkm,rfl,rfl,hbr,hur,HA⟩:=hrel;have j5:Below w.heap.size w wr:=hbw.trans (hbr.mono (by omega));have pV:=hbr.size;have ny:gb<wr.heap.size:=by have:=h.lt gb hg;omega
    have eg:wr.heap[gb]?=wz.heap[gb]?:=hbr.block gb (by have:=h.lt gb hg;omega);have d0:wr.cell? ⟨gb,j*3,none⟩=some (.slice ia its.length ic):=(World.cell?_of_block (w:=wz) eg).trans c0;have jb:aj wr w.heap.size _ 86:=(hbr.block _ (by omega)).trans jP;have g0:wr.cell? ⟨w.heap.size,0,none⟩=some (.slice a' g.levels.length c'):=jb.cell 0;have g1:wr.cell? ⟨w.heap.size,1,none⟩=some (.slice a g.rules.length c):=jb.cell 1
    by_cases bJ:m<its.length
    ·have hir:bM YR d F wr _ its:=bM.move (fun b hb'=>hbr.block b (by have:=h.lt b hb';omega)) (fun _ h=>h) hi
     unfold bM ow at hir;obtain⟨n,sG,va,hv,hn,ha,hcc⟩:=Seq.at hir (fun _=>rfl) bJ;cases hv;unfold Hid at HA;rw[List.drop_eq_getElem_cons bJ,List.flatMap_cons,List.append_assoc]at hur;rw[List.drop_eq_getElem_cons bJ,List.all_cons,<-Bool.and_assoc]at HA;generalize its[m]=it at ha hcc hur HA;obtain⟨sa,sc,hva,-⟩:=ay.len ha;subst hva;have e0:wr.cell? ⟨n,m*5,none⟩=some (.int .i64 (it.kind:Int)):=hcc 0 (by decide);have e1:wr.cell? ⟨n,m*5+1,none⟩=some (.string it.name):=hcc 1 (by decide);have e2:wr.cell? ⟨n,m*5+2,none⟩=some (.int .u8 (it.mark:Int)):=hcc 2 (by decide);have e3:wr.cell? ⟨n,m*5+3,none⟩=some (.slice sa it.alts.length sc):=hcc 3 (by decide);have e4:wr.cell? ⟨n,m*5+4,none⟩=some (.int .i64 (it.place:Int)):=hcc 4 (by decide);have lG:w.heap.size<wr.heap.size:=by omega
     have ln:n<wr.heap.size:=by have:=h.lt n hn;omega
     have lor:o<wr.heap.size:=by omega
     clear hcc hir c0;obtain⟨hnm,hu1,hu2⟩:=NH hur;obtain⟨W1,hW1⟩:∃W1,W1=wr.alloc (.cells #[.int .i64 (it.kind:Int),.string it.name,.int .u8 (it.mark:Int),.slice sa it.alts.length sc,.int .i64 (it.place:Int)] 158):=⟨_,rfl⟩;have hb1:Below wr.heap.size wr W1:=by rw[hW1];exact(Below.refl _ _).alloc (zL0) _
     have hs1:W1.heap.size=wr.heap.size+1:=by rw[hW1];simp
     have kx:aj W1 wr.heap.size #[.int .i64 (it.kind:Int),.string it.name,.int .u8 (it.mark:Int),.slice sa it.alts.length sc,.int .i64 (it.place:Int)] 158:=by rw[hW1];exact aj.new wr _ 158
     have Ey:Below wz.heap.size wz W1:=hbr.trans (hb1.mono pV);have ER:Hid (its.all (fQ (dD g bs) d)=(ab && fQ (dD g bs) d it && (its.drop (m+1)).all (fQ (dD g bs) d))):=HA;clear HA
     by_cases hk1:it.kind=1
     ·have hE:Hid (fQ (dD g bs) d it=true):=by show _=_;simp[fQ,hk1]
      have hkb:((it.kind:Int) == 1)=true:=by simp[hk1]
      clear hk1 hnm;cases ab
      all_goals
       go_wp2_with fail;rw[<-hW1];go_roundg (its.length - (m+1))
       case measure=>omega
       case rel=>exact⟨m+1,_,by omega,rfl,by go_num,Ey,hu2,by have:=ER.out;rw[hE.out]at this;exact this⟩
     ·have hkb:((it.kind:Int) == 1)=false:=zB0 (by omega)
      by_cases hm1:it.mark=42
      ·have hE:Hid (fQ (dD g bs) d it=true):=by show _=_;simp[fQ,hm1]
       have hmb:((it.mark:Int) == 42)=true:=by simp[hm1]
       clear hk1 hnm hm1;cases ab
       all_goals
        go_wp2_with fail;rw[<-hW1];go_roundg (its.length - (m+1))
        case measure=>omega
        case rel=>exact⟨m+1,_,by omega,rfl,by go_num,Ey,hu2,by have:=ER.out;rw[hE.out]at this;exact this⟩
      ·have hmb:((it.mark:Int) == 42)=false:=zB0 (by omega)
       by_cases hm2:it.mark=63
       ·have hE:Hid (fQ (dD g bs) d it=true):=by show _=_;simp[fQ,hm2]
        have GL:((it.mark:Int) == 63)=true:=by simp[hm2]
        clear hk1 hnm hm1 hm2;cases ab
        all_goals
         go_wp2_with fail;rw[<-hW1];go_roundg (its.length - (m+1))
         case measure=>omega
         case rel=>exact⟨m+1,_,by omega,rfl,by go_num,Ey,hu2,by have:=ER.out;rw[hE.out]at this;exact this⟩
       ·have GL:((it.mark:Int) == 63)=false:=zB0 (by omega)
        by_cases hk0:it.kind=0
        ·have hE:Hid (fQ (dD g bs) d it=dD g bs it.name):=by show _=_;simp[fQ,hm1,hm2,hk0]
         have hge:=hnm hk0;obtain⟨hfx,hfl⟩:=zT hge;have ajG:((it.kind:Int) == 0)=true:=by simp[hk0]
         have hkb2:((it.kind:Int) == 2)=false:=by simp[hk0]
         have ZF:Lx.fix (aK g) it.name<g.rules.length:=by simpa [aK]using hfl
         clear hk1 hnm hm1 hm2 hk0;have hdg:DG F W1 (.slice a' g.levels.length c') (.slice a g.rules.length c) g:=(h.below j5).below hb1;go_wp2_with fail;rw[<-hW1];refine(DY hdg it.name).mono ?_;rintro e w2⟨rfl,hb2⟩;have hs2:=hb2.size;rw[show uZ g=aK g from rfl,hfx];have hB2:aj w2 o (bF bs) 4:=(hb2.block _ (by omega)).trans ((hb1.block _ (by omega)).trans ((j5.block _ lo).trans hB));have iL:aj w2 wr.heap.size _ 158:=(hb2.block _ (by omega)).trans kx;have x0:w2.cell? ⟨wr.heap.size,0,none⟩=some (.int .i64 (it.kind:Int)):=iL.cell 0;have o1:w2.cell? ⟨o,Lx.fix (aK g) it.name,none⟩=some (.bool (dD g bs it.name)):=(hB2.cell _).trans (qx bs (by omega));have ru:Below wz.heap.size wz w2:=Ey.trans (hb2.mono (by omega));generalize Ih:Lx.fix (aK g) it.name=q at ZF o1|-;clear hfx hfl hge Ih;cases hon:dD g bs it.name
         all_goals
          rw[hon]at o1 hE;cases ab
          all_goals
           go_wp2_with fail;go_roundg (its.length - (m+1))
           case measure=>omega
           case rel=>exact⟨m+1,_,by omega,rfl,by go_num,ru,hu2,by have:=ER.out;rw[hE.out]at this;exact this⟩
        ·have ajG:((it.kind:Int) == 0)=false:=zB0 (by omega)
         by_cases hk2:it.kind=2
         ·have hE:Hid (fQ (dD g bs) d it=iw (dD g bs) d it.alts):=by show _=_;simp[fQ,hm1,hm2,hk2]
          have hkb2:((it.kind:Int) == 2)=true:=by simp[hk2]
          clear hk1 hnm hm1 hm2 hk0 hk2;have hdg:DG F W1 (.slice a' g.levels.length c') (.slice a g.rules.length c) g:=(h.below j5).below hb1;have ha1:ay YR d F W1 _ it.alts:=ay.move (fun b hb'=>hb1.block b (by have:=h.lt b hb';omega)) (fun _ h=>h) ha;have hB1:aj W1 o (bF bs) 4:=(hb1.block _ (by omega)).trans ((j5.block _ lo).trans hB);go_wp2_with fail;rw[<-hW1];refine(IH F W1 _ _ g hdg _ _ ha1 hu1 o bs hB1 hlen).mono ?_;rintro e w2⟨rfl,hb2⟩;have ru:Below wz.heap.size wz w2:=Ey.trans (hb2.mono (by omega));cases hon:iw (dD g bs) d it.alts
          all_goals
           rw[hon]at hE;cases ab
           all_goals
            go_wp2_with fail;go_roundg (its.length - (m+1))
            case measure=>omega
            case rel=>exact⟨m+1,_,by omega,rfl,by go_num,ru,hu2,by have:=ER.out;rw[hE.out]at this;exact this⟩
         ·have hE:Hid (fQ (dD g bs) d it=false):=by show _=_;simp[fQ,hk1,hm1,hm2,hk0,hk2]
          have hkb2:((it.kind:Int) == 2)=false:=zB0 (by omega);clear hk1 hnm hm1 hm2 hk0 hk2;cases ab
          all_goals
           go_wp2_with fail;rw[<-hW1];go_roundg (its.length - (m+1))
           case measure=>omega
           case rel=>exact⟨m+1,_,by omega,rfl,by go_num,Ey,hu2,by have:=ER.out;rw[hE.out]at this;exact this⟩
    ·have:m=its.length:=by omega
     subst this;rw[List.drop_length,List.flatMap_nil,List.nil_append]at hur;have hu2:=NI hur;have hA:its.all (fQ (dD g bs) d)=ab:=by have:=HA.out;rw[List.drop_length]at this;simpa using this
     have hE2:=HE2.out;rw[hA]at hE2;have HF:Hid (iw (dD g bs) (d+1) l=(ab || (l.drop (j+1)).any fun a=>a.1.all (fQ (dD g bs) d))):=hE2;clear hA hE2 c0;cases ab with
     |true=>
      go_wp2_with fail;go_ret;exact⟨by rw[HF.out];rfl,j5⟩
     |false=>
      go_wp2_with fail;go_roundg (l.length - (j+1))
      case measure=>omega
      case rel=>exact⟨j+1,by omega,by go_num,hbz.trans (hbr.mono hsz),hu2,by have:=HF.out;rw[Bool.false_or]at this;exact this⟩
  ·have:j=l.length:=by omega
   subst this;have hE:=HE.out;rw[List.drop_length]at hE;have HF:Hid (iw (dD g bs) (d+1) l=false):=hE;clear hE;go_wp2_with fail;go_ret;exact⟨by rw[HF.out];rfl,hbw⟩
theorem O3:∀d,Kl d
 |0=>af3
 |d+1=>af4 (O3 d)
end Go.Proofs.YtjaalkocdbkdeaaGreatDoor

import Derived.Test.YtlcppnabbicmoaaGreatDoorME10
set_option maxHeartbeats 8000000
set_option maxRecDepth 1000000
namespace Go.Proofs.YtlcppnabbicmoaaGreatDoor
open Go.RowKit
open Tr
namespace Lx
def itemE (on:ByteArray->Bool)(d:Nat)(x:It):Bool:=decide (x.kind=1) || decide (x.mark=42) || decide (x.mark=63) || (decide (x.kind=0) && on x.name) || (decide (x.kind=2) && endsA on d x.alts)
theorem endsA_succ (on:ByteArray->Bool)(d:Nat)(l:List Alt):endsA on (d+1) l=l.any fun a=>a.1.all (itemE on d):=rfl
end Lx
def EndsSaid (d:Nat):Prop:=∀ (F:Nat->Prop) (w:World) (vL vR:Value) (g:Lx.Gr),DG F w vL vR g->∀ (v:Value) (l:List Lx.Alt),AltsIn YR d F w v l->Lx.unk g (Lx.flatA d l)=none->∀ (o:Nat) (bs:List Bool),Blk w o (boolsV bs) 4->bs.length=g.rules.length ->
 Calls Tryz.prog 62 #[.agg #[vL,vR],v,.slice (some ⟨o,0,none⟩) g.rules.length g.rules.length] w fun e w'=>e=.returned (.bool (Lx.endsA (Lx.onB g bs) d l))/\Below w.heap.size w w'
theorem ends_zero:EndsSaid 0:=by
 intro F w vL vR g h v l hl hu o bs hB hlen;obtain⟨rfl,rfl⟩:=hl;obtain⟨a,c,rfl,-⟩:=h.lenR;obtain⟨a',c',rfl,-⟩:=h.lenL;go_enter Tryz.func62,Tryz.ntmps62;go_wp2_with fail
 go_loopg [7] 0 (fun k i wr=>k=0/\i=.int .i64 0/\wr=w.alloc (.cells #[.slice a' g.levels.length c',.slice a g.rules.length c] 49))
 case atStart=>exact⟨rfl,rfl,rfl⟩
 case round =>
  obtain⟨rfl,rfl,rfl⟩:=hrel;go_wp2_with fail;go_ret;exact⟨rfl,(Below.refl _ _).alloc (Nat.le_refl _) _⟩
theorem ends_succ {d:Nat}(IH:EndsSaid d):EndsSaid (d+1):=by
 intro F w vL vR g h v l hl hu o bs hB hlen;obtain⟨a,c,rfl,hmr⟩:=h.lenR;obtain⟨a',c',rfl,-⟩:=h.lenL;obtain⟨va,vc,hv,hm⟩:=AltsIn.len hl;subst hv;unfold maxLen at hm hmr;have lo:=hB.lt;go_enter Tryz.func62,Tryz.ntmps62;go_wp2_with fail;obtain⟨W,hW⟩:∃ W,W=w.alloc (.cells #[.slice a' g.levels.length c',.slice a g.rules.length c] 49):=⟨_,rfl⟩;rw[<-hW];have hWs:W.heap.size=w.heap.size+1:=by rw[hW];simp
 have kG:Blk W w.heap.size #[.slice a' g.levels.length c',.slice a g.rules.length c] 49:=by rw[hW];exact Blk.new w _ 49
 have hbW:Below w.heap.size w W:=by rw[hW];exact (Below.refl _ _).alloc (Nat.le_refl _) _
 clear hW;have hu0:Lx.unk g ((l.drop 0).flatMap (Lx.flatOne d))=none:=hu;have HE:Hid (Lx.endsA (Lx.onB g bs) (d+1) l=(l.drop 0).any fun a=>a.1.all (Lx.itemE (Lx.onB g bs) d)):=Lx.endsA_succ _ _ _
 go_loopg [7] l.length (fun k i wr=>∃ (j:Nat),j+k=l.length/\i=.int .i64 j/\Below W.heap.size W wr/\Lx.unk g ((l.drop j).flatMap (Lx.flatOne d))=none/\Hid (Lx.endsA (Lx.onB g bs) (d+1) l=(l.drop j).any fun a=>a.1.all (Lx.itemE (Lx.onB g bs) d)))
 case atStart=>exact⟨0,by omega,rfl,Below.refl _ _,hu0,HE⟩
 case round =>
  clear hu0 HE;revert wr;intro wz hrel;obtain⟨j,hk,rfl,hbz,huz,HE⟩:=hrel;have hbw:Below w.heap.size w wz:=hbW.trans (hbz.mono (by omega));have kGz:Blk wz w.heap.size _ 49:=(hbz.block _ (by omega)).trans kG;have hsz:=hbz.size
  by_cases hlt:j<l.length
  ·have h1:AltsIn YR (d+1) F wz _ l:=AltsIn.move (fun b hb'=>hbw.block b (h.lt b hb')) (fun _ h=>h) hl
   obtain⟨gb,cap,vi,hv,hg,hi,hc⟩:=Seq.at h1 (fun _=>rfl) hlt;cases hv;unfold Hid at HE;rw[List.drop_eq_getElem_cons hlt]at HE;rw[List.drop_eq_getElem_cons hlt,List.flatMap_cons,Lx.flatOne_eq,List.append_assoc]at huz;rw[List.any_cons]at HE;generalize l[j]=x at hi hc huz HE;obtain⟨its,prec,pa⟩:=x;obtain⟨ia,ic,hvi,him⟩:=Seq.len hi;subst hvi;unfold maxLen at him;have c0:wz.cell? ⟨gb,j*3,none⟩=some (.slice ia its.length ic):=hc 0 (by decide);clear h1 hc;have HE2:Hid (Lx.endsA (Lx.onB g bs) (d+1) l=(its.all (Lx.itemE (Lx.onB g bs) d) || (l.drop (j+1)).any fun a=>a.1.all (Lx.itemE (Lx.onB g bs) d))):=HE;have HA:Hid (its.all (Lx.itemE (Lx.onB g bs) d)=(true && (its.drop 0).all (Lx.itemE (Lx.onB g bs) d))):=by show _=_;simp
   clear HE;go_wp2_with fail
   go_loopg [8,9] its.length (fun k bv i wr=>∃ (m:Nat) (ab:Bool),m+k=its.length/\bv=.bool ab/\i=.int .i64 m/\Below wz.heap.size wz wr/\Lx.unk g ((its.drop m).flatMap (Lx.flatI d)++(Lx.precW (its,prec,pa)++(l.drop (j+1)).flatMap (Lx.flatOne d)))=none/\Hid (its.all (Lx.itemE (Lx.onB g bs) d)=(ab && (its.drop m).all (Lx.itemE (Lx.onB g bs) d))))
   case atStart=>exact⟨0,true,by omega,rfl,rfl,Below.refl _ _,huz,HA⟩
   case round =>
    clear HA;obtain⟨m,ab,hkm,rfl,rfl,hbr,hur,HA⟩:=hrel;have hbwr:Below w.heap.size w wr:=hbw.trans (hbr.mono (by omega));have hszr:=hbr.size;have lgb:gb<wr.heap.size:=by have:=h.lt gb hg;omega
    have eg:wr.heap[gb]?=wz.heap[gb]?:=hbr.block gb (by have:=h.lt gb hg;omega);have d0:wr.cell? ⟨gb,j*3,none⟩=some (.slice ia its.length ic):=(World.cell?_of_block (w:=wz) eg).trans c0;have kGr:Blk wr w.heap.size _ 49:=(hbr.block _ (by omega)).trans kGz;have g0:wr.cell? ⟨w.heap.size,0,none⟩=some (.slice a' g.levels.length c'):=kGr.cell 0;have g1:wr.cell? ⟨w.heap.size,1,none⟩=some (.slice a g.rules.length c):=kGr.cell 1
    by_cases hltm:m<its.length
    ·have hir:ItemsIn YR d F wr _ its:=ItemsIn.move (fun b hb'=>hbr.block b (by have:=h.lt b hb';omega)) (fun _ h=>h) hi
     unfold ItemsIn ItemsBy at hir;obtain⟨n,ncap,va,hv,hn,ha,hcc⟩:=Seq.at hir (fun _=>rfl) hltm;cases hv;unfold Hid at HA;rw[List.drop_eq_getElem_cons hltm,List.flatMap_cons,List.append_assoc]at hur;rw[List.drop_eq_getElem_cons hltm,List.all_cons,<-Bool.and_assoc]at HA;generalize its[m]=it at ha hcc hur HA;obtain⟨sa,sc,hva,-⟩:=AltsIn.len ha;subst hva;have e0:wr.cell? ⟨n,m*5,none⟩=some (.int .i64 (it.kind:Int)):=hcc 0 (by decide);have e1:wr.cell? ⟨n,m*5+1,none⟩=some (.string it.name):=hcc 1 (by decide);have e2:wr.cell? ⟨n,m*5+2,none⟩=some (.int .u8 (it.mark:Int)):=hcc 2 (by decide);have e3:wr.cell? ⟨n,m*5+3,none⟩=some (.slice sa it.alts.length sc):=hcc 3 (by decide);have e4:wr.cell? ⟨n,m*5+4,none⟩=some (.int .i64 (it.place:Int)):=hcc 4 (by decide);have lG:w.heap.size<wr.heap.size:=by omega
     have ln:n<wr.heap.size:=by have:=h.lt n hn;omega
     have lor:o<wr.heap.size:=by omega
     clear hcc hir c0;obtain⟨hnm,hu1,hu2⟩:=Lx.unk_item_ok hur;obtain⟨W1,hW1⟩:∃ W1,W1=wr.alloc (.cells #[.int .i64 (it.kind:Int),.string it.name,.int .u8 (it.mark:Int),.slice sa it.alts.length sc,.int .i64 (it.place:Int)] 148):=⟨_,rfl⟩;have hb1:Below wr.heap.size wr W1:=by rw[hW1];exact (Below.refl _ _).alloc (Nat.le_refl _) _
     have hs1:W1.heap.size=wr.heap.size+1:=by rw[hW1];simp
     have kx:Blk W1 wr.heap.size #[.int .i64 (it.kind:Int),.string it.name,.int .u8 (it.mark:Int),.slice sa it.alts.length sc,.int .i64 (it.place:Int)] 148:=by rw[hW1];exact Blk.new wr _ 148
     have hbz1:Below wz.heap.size wz W1:=hbr.trans (hb1.mono hszr);have HAH:Hid (its.all (Lx.itemE (Lx.onB g bs) d)=(ab && Lx.itemE (Lx.onB g bs) d it && (its.drop (m+1)).all (Lx.itemE (Lx.onB g bs) d))):=HA;clear HA
     by_cases hk1:it.kind=1
     ·have hE:Hid (Lx.itemE (Lx.onB g bs) d it=true):=by show _=_;simp[Lx.itemE,hk1]
      have hkb:((it.kind:Int) == 1)=true:=by simp[hk1]
      clear hk1 hnm;cases ab
      all_goals
       go_wp2_with fail;rw[<-hW1];go_roundg (its.length - (m+1))
       case measure=>omega
       case rel=>exact⟨m+1,_,by omega,rfl,by go_num,hbz1,hu2,by have:=HAH.out;rw[hE.out]at this;exact this⟩
     ·have hkb:((it.kind:Int) == 1)=false:=beq_eq_false_iff_ne.2 (by omega)
      by_cases hm1:it.mark=42
      ·have hE:Hid (Lx.itemE (Lx.onB g bs) d it=true):=by show _=_;simp[Lx.itemE,hm1]
       have hmb:((it.mark:Int) == 42)=true:=by simp[hm1]
       clear hk1 hnm hm1;cases ab
       all_goals
        go_wp2_with fail;rw[<-hW1];go_roundg (its.length - (m+1))
        case measure=>omega
        case rel=>exact⟨m+1,_,by omega,rfl,by go_num,hbz1,hu2,by have:=HAH.out;rw[hE.out]at this;exact this⟩
      ·have hmb:((it.mark:Int) == 42)=false:=beq_eq_false_iff_ne.2 (by omega)
       by_cases hm2:it.mark=63
       ·have hE:Hid (Lx.itemE (Lx.onB g bs) d it=true):=by show _=_;simp[Lx.itemE,hm2]
        have hmb2:((it.mark:Int) == 63)=true:=by simp[hm2]
        clear hk1 hnm hm1 hm2;cases ab
        all_goals
         go_wp2_with fail;rw[<-hW1];go_roundg (its.length - (m+1))
         case measure=>omega
         case rel=>exact⟨m+1,_,by omega,rfl,by go_num,hbz1,hu2,by have:=HAH.out;rw[hE.out]at this;exact this⟩
       ·have hmb2:((it.mark:Int) == 63)=false:=beq_eq_false_iff_ne.2 (by omega)
        by_cases hk0:it.kind=0
        ·have hE:Hid (Lx.itemE (Lx.onB g bs) d it=Lx.onB g bs it.name):=by show _=_;simp[Lx.itemE,hm1,hm2,hk0]
         have hge:=hnm hk0;obtain⟨hfx,hfl⟩:=fnd_fix hge;have hkb0:((it.kind:Int) == 0)=true:=by simp[hk0]
         have hkb2:((it.kind:Int) == 2)=false:=by simp[hk0]
         have hfl2:Lx.fix (Lx.ruleNames g) it.name<g.rules.length:=by simpa [Lx.ruleNames]using hfl
         clear hk1 hnm hm1 hm2 hk0;have hdg:DG F W1 (.slice a' g.levels.length c') (.slice a g.rules.length c) g:=(h.below hbwr).below hb1;go_wp2_with fail;rw[<-hW1];refine (ruleOf_any hdg it.name).mono ?_;rintro e w2 ⟨rfl,hb2⟩;have hs2:=hb2.size;rw[show Lx.rnames g=Lx.ruleNames g from rfl,hfx];have hB2:Blk w2 o (boolsV bs) 4:=(hb2.block _ (by omega)).trans ((hb1.block _ (by omega)).trans ((hbwr.block _ lo).trans hB));have kx2:Blk w2 wr.heap.size _ 148:=(hb2.block _ (by omega)).trans kx;have x0:w2.cell? ⟨wr.heap.size,0,none⟩=some (.int .i64 (it.kind:Int)):=kx2.cell 0;have o1:w2.cell? ⟨o,Lx.fix (Lx.ruleNames g) it.name,none⟩=some (.bool (Lx.onB g bs it.name)):=(hB2.cell _).trans (bools_get bs (by omega));have hbz2:Below wz.heap.size wz w2:=hbz1.trans (hb2.mono (by omega));generalize hfq:Lx.fix (Lx.ruleNames g) it.name=q at hfl2 o1 ⊢;clear hfx hfl hge hfq;cases hon:Lx.onB g bs it.name
         all_goals
          rw[hon]at o1 hE;cases ab
          all_goals
           go_wp2_with fail;go_roundg (its.length - (m+1))
           case measure=>omega
           case rel=>exact⟨m+1,_,by omega,rfl,by go_num,hbz2,hu2,by have:=HAH.out;rw[hE.out]at this;exact this⟩
        ·have hkb0:((it.kind:Int) == 0)=false:=beq_eq_false_iff_ne.2 (by omega)
         by_cases hk2:it.kind=2
         ·have hE:Hid (Lx.itemE (Lx.onB g bs) d it=Lx.endsA (Lx.onB g bs) d it.alts):=by show _=_;simp[Lx.itemE,hm1,hm2,hk2]
          have hkb2:((it.kind:Int) == 2)=true:=by simp[hk2]
          clear hk1 hnm hm1 hm2 hk0 hk2;have hdg:DG F W1 (.slice a' g.levels.length c') (.slice a g.rules.length c) g:=(h.below hbwr).below hb1;have ha1:AltsIn YR d F W1 _ it.alts:=AltsIn.move (fun b hb'=>hb1.block b (by have:=h.lt b hb';omega)) (fun _ h=>h) ha;have hB1:Blk W1 o (boolsV bs) 4:=(hb1.block _ (by omega)).trans ((hbwr.block _ lo).trans hB);go_wp2_with fail;rw[<-hW1];refine (IH F W1 _ _ g hdg _ _ ha1 hu1 o bs hB1 hlen).mono ?_;rintro e w2 ⟨rfl,hb2⟩;have hbz2:Below wz.heap.size wz w2:=hbz1.trans (hb2.mono (by omega));cases hon:Lx.endsA (Lx.onB g bs) d it.alts
          all_goals
           rw[hon]at hE;cases ab
           all_goals
            go_wp2_with fail;go_roundg (its.length - (m+1))
            case measure=>omega
            case rel=>exact⟨m+1,_,by omega,rfl,by go_num,hbz2,hu2,by have:=HAH.out;rw[hE.out]at this;exact this⟩
         ·have hE:Hid (Lx.itemE (Lx.onB g bs) d it=false):=by show _=_;simp[Lx.itemE,hk1,hm1,hm2,hk0,hk2]
          have hkb2:((it.kind:Int) == 2)=false:=beq_eq_false_iff_ne.2 (by omega);clear hk1 hnm hm1 hm2 hk0 hk2;cases ab
          all_goals
           go_wp2_with fail;rw[<-hW1];go_roundg (its.length - (m+1))
           case measure=>omega
           case rel=>exact⟨m+1,_,by omega,rfl,by go_num,hbz1,hu2,by have:=HAH.out;rw[hE.out]at this;exact this⟩
    ·have:m=its.length:=by omega
     subst this;rw[List.drop_length,List.flatMap_nil,List.nil_append]at hur;have hu2:=Lx.unk_prec_ok hur;have hA:its.all (Lx.itemE (Lx.onB g bs) d)=ab:=by have:=HA.out;rw[List.drop_length]at this;simpa using this
     have hE2:=HE2.out;rw[hA]at hE2;have HF:Hid (Lx.endsA (Lx.onB g bs) (d+1) l=(ab || (l.drop (j+1)).any fun a=>a.1.all (Lx.itemE (Lx.onB g bs) d))):=hE2;clear hA hE2 c0;cases ab with
     | true =>
      go_wp2_with fail;go_ret;exact⟨by rw[HF.out];rfl,hbwr⟩
     | false =>
      go_wp2_with fail;go_roundg (l.length - (j+1))
      case measure=>omega
      case rel=>exact⟨j+1,by omega,by go_num,hbz.trans (hbr.mono hsz),hu2,by have:=HF.out;rw[Bool.false_or]at this;exact this⟩
  ·have:j=l.length:=by omega
   subst this;have hE:=HE.out;rw[List.drop_length]at hE;have HF:Hid (Lx.endsA (Lx.onB g bs) (d+1) l=false):=hE;clear hE;go_wp2_with fail;go_ret;exact⟨by rw[HF.out];rfl,hbw⟩
theorem ends_at:∀ d,EndsSaid d
 | 0=>ends_zero
 | d+1=>ends_succ (ends_at d)
end Go.Proofs.YtlcppnabbicmoaaGreatDoor

import Derived.Test.YtlcppnabbicmoaaGreatDoorME13
set_option maxHeartbeats 8000000
set_option maxRecDepth 1000000
namespace Go.Proofs.YtlcppnabbicmoaaGreatDoor
section
open Go.RowKit
open Tr
structure ItemAt (w:World) (n m:Nat) (it:Lx.It):Prop where
 kind:w.cell? ⟨n,m*4,none⟩=some (.int .i64 (it.kind:Int))
 name:w.cell? ⟨n,m*4+1,none⟩=some (.string it.name)
 mark:w.cell? ⟨n,m*4+2,none⟩=some (.int .u8 (it.mark:Int))
def EachSaid (d:Nat):Prop:=∀ (nw nv:Nat) (caps:Array Value) (wd:Lx.It->Bool) (F:Nat->Prop) (w0:World) (I:List AI->World->Prop) (Q:AI->Prop),
 (∀ (ar:Array Value) (w:World),(callFunc nw ar).run Tryz.prog w=.ok (.enter nw ar) w)->(∀ (ar:Array Value) (w:World),(callFunc nv ar).run Tryz.prog w=.ok (.enter nv ar) w) ->
 (∀ (w':World) (n m:Nat) (it:Lx.It),F n->ItemAt w' n m it->Calls Tryz.prog nw #[.pointer (some ⟨n,m*4,none⟩)] w' fun e w''=>e=.returned (.bool (wd it))/\w''=w') ->
 (∀ (w':World) (L:List AI) (n m:Nat) (it:Lx.It),I L w'->F n->ItemAt w' n m it->wd it=true->Q (⟨n,m*4,none⟩,it)->Calls Tryz.prog nv (#[.pointer (some ⟨n,m*4,none⟩)]++caps) w' fun e w''=>e=.returned (.tuple #[])/\I (L++[(⟨n,m*4,none⟩,it)]) w'') ->
 (∀ (L:List AI) (w':World),I L w'->∀ b,F b->w'.heap[b]?=w0.heap[b]?) ->
 ∀ (v:Value) (l:List Lx.Alt),AltsIn YP d F w0 v l->(∀ p∈adA d w0 v l,Q p)->∀ (w:World) (L:List AI),I L w ->
 Calls Tryz.prog 94 #[v,.func (.func nw) #[] #[],.func (.func nv) #[] caps] w fun e w'=>e=.returned (.tuple #[])/\I (L++(adA d w0 v l).filter fun p=>wd p.2) w'
theorem each_zero:EachSaid 0:=by
 intro nw nv caps wd F w0 I Q hcw hcv hw hv hf v l hl hq w L hI;obtain⟨rfl,rfl⟩:=hl;go_enter Tryz.func94,Tryz.ntmps94;go_wp2_with fail
 go_loopg [11] 0 (fun k i wr=>k=0/\i=.int .i64 0/\wr=w)
 case atStart=>exact⟨rfl,rfl,rfl⟩
 case round =>
  obtain⟨rfl,rfl,rfl⟩:=hrel;go_wp2_with fail
  go_end0
  refine⟨rfl,?_⟩;rw[show adA 0 w0 (.slice none 0 0) []=[] from rfl,List.filter_nil,List.append_nil];exact hI
theorem each_succ {d:Nat}(IH:EachSaid d):EachSaid (d+1):=by
 intro nw nv caps wd F w0 I Q hcw hcv hw hv hf v l hl hq w L hI;obtain⟨va,vc,hvv,hm⟩:=AltsIn.len hl;subst hvv;unfold maxLen at hm;obtain⟨T,hT⟩:∃ T,T=L++(adA (d+1) w0 (.slice va l.length vc) l).filter (fun p=>wd p.2):=⟨_,rfl⟩;rw[<-hT];go_enter Tryz.func94,Tryz.ntmps94;go_wp2_with fail;have e0:adA (d+1) w0 (.slice va l.length vc) l=adAlts (adA d w0) w0 (blkOf (.slice va l.length vc)) 0 (l.drop 0):=rfl;have H0:Hid (T=L++(adAlts (adA d w0) w0 (blkOf (.slice va l.length vc)) 0 (l.drop 0)).filter (fun p=>wd p.2)):=by show _=_;rw[hT,e0]
 rw[e0]at hq;clear e0;clear hT
 go_loopg [11] l.length (fun k i wr=>∃ (j:Nat) (L':List AI),j+k=l.length/\i=.int .i64 j/\I L' wr/\(∀ p∈adAlts (adA d w0) w0 (blkOf (.slice va l.length vc)) j (l.drop j),Q p)/\Hid (T=L'++(adAlts (adA d w0) w0 (blkOf (.slice va l.length vc)) j (l.drop j)).filter (fun p=>wd p.2)))
 case atStart=>exact⟨0,L,by omega,rfl,hI,hq,H0⟩
 case round =>
  clear H0 hq hI;revert wr;intro wz hrel;obtain⟨j,L1,hk,rfl,hz,hqz,HZ⟩:=hrel
  by_cases hlt:j<l.length
  ·obtain⟨gb,cap,vi,hvv,hg,hi,hc⟩:=Seq.at hl (fun _=>rfl) hlt
   cases hvv;have hz2:=HZ.out;have ec:cv w0 ⟨gb,j*2,none⟩=vi:=by unfold cv;rw[show w0.cell? ⟨gb,j*2,none⟩=some vi from hc 0 (by decide)];rfl
   rw[adAlts_drop hlt,show blkOf (.slice (some ⟨gb,0,none⟩) l.length vc)=gb from rfl,ec]at hz2 hqz;generalize l[j]=x at hi hc hz2 hqz;obtain⟨its,prec,pa⟩:=x;have hi':ItemsIn YP d F w0 vi its:=hi;obtain⟨ia,ic,hvi,him⟩:=Seq.len hi;subst hvi;unfold maxLen at him;have c0:wz.cell? ⟨gb,j*2,none⟩=some (.slice ia its.length ic):=(World.cell?_of_block (w:=w0) (hf _ _ hz gb hg)).trans (hc 0 (by decide));have HZ2:Hid (T=L1++(adItems (adA d w0) w0 (blkOf (.slice ia its.length ic)) 0 (its.drop 0)++adAlts (adA d w0) w0 gb (j+1) (l.drop (j+1))).filter (fun p=>wd p.2)):=hz2;have hqz2:∀ p∈adItems (adA d w0) w0 (blkOf (.slice ia its.length ic)) 0 (its.drop 0)++adAlts (adA d w0) w0 gb (j+1) (l.drop (j+1)),Q p:=hqz;clear hc hz2 HZ hqz ec hi;go_wp2_with fail
   go_loopg [21] its.length (fun k i wr=>∃ (m:Nat) (L':List AI),m+k=its.length/\i=.int .i64 m/\I L' wr/\(∀ p∈adItems (adA d w0) w0 (blkOf (.slice ia its.length ic)) m (its.drop m)++adAlts (adA d w0) w0 gb (j+1) (l.drop (j+1)),Q p)/\Hid (T=L'++(adItems (adA d w0) w0 (blkOf (.slice ia its.length ic)) m (its.drop m)++adAlts (adA d w0) w0 gb (j+1) (l.drop (j+1))).filter (fun p=>wd p.2)))
   case atStart=>exact⟨0,L1,by omega,rfl,hz,hqz2,HZ2⟩
   case round =>
    clear HZ2 hqz2 hz c0;obtain⟨m,L2,hkm,rfl,hr,hqr,HR⟩:=hrel
    by_cases hltm:m<its.length
    ·have hir:=hi'
     unfold ItemsIn ItemsBy at hir;obtain⟨n,ncap,va,hvv,hn,ha,hcc⟩:=Seq.at hir (fun _=>rfl) hltm;cases hvv;have hr2:=HR.out;have ec:cv w0 ⟨n,m*4+3,none⟩=va:=by unfold cv;rw[show w0.cell? ⟨n,m*4+3,none⟩=some va from hcc 3 (by decide)];rfl
     rw[adItems_drop hltm,show blkOf (.slice (some ⟨n,0,none⟩) its.length ic)=n from rfl,ec]at hr2 hqr;generalize its[m]=it at ha hcc hr2 hqr;obtain⟨sa,sc,hva,-⟩:=AltsIn.len ha;subst hva;have en:wr.heap[n]?=w0.heap[n]?:=hf _ _ hr n hn;have hia:ItemAt wr n m it:=⟨(World.cell?_of_block (w:=w0) en).trans (hcc 0 (by decide)),(World.cell?_of_block (w:=w0) en).trans (hcc 1 (by decide)),(World.cell?_of_block (w:=w0) en).trans (hcc 2 (by decide))⟩;have hQ1:Q (⟨n,m*4,none⟩,it):=hqr _ (by simp);have hQ2:∀ p∈adA d w0 (.slice sa it.alts.length sc) it.alts,Q p:=fun p hp=>hqr p (by simp[hp])
     have hQ3:∀ p∈adItems (adA d w0) w0 n (m+1) (its.drop (m+1))++adAlts (adA d w0) w0 gb (j+1) (l.drop (j+1)),Q p:=fun p hp=>hqr p (by
      rcases List.mem_append.1 hp with hp | hp
      ·simp[hp]
      ·simp[hp])
     clear hqr hir HR ec;go_wp2_with fail;refine (hw wr n m it hn hia).mono ?_;rintro e w1 ⟨rfl,hw1⟩;obtain rfl:=hw1.symm;cases hwd:wd it with
     | true =>
      have HWD:Hid (wd it=true):=hwd;have hr3:T=(L2++[(⟨n,m*4,none⟩,it)])++((adA d w0 (.slice sa it.alts.length sc) it.alts).filter (fun p=>wd p.2)++(adItems (adA d w0) w0 n (m+1) (its.drop (m+1))++adAlts (adA d w0) w0 gb (j+1) (l.drop (j+1))).filter (fun p=>wd p.2)):=by
       rw[hr2];simp[hwd,List.append_assoc]
      have HR3:Hid _:=hr3;have q1:=hv wr L2 n m it hr hn hia hwd hQ1;clear hr2 hr3 hwd;go_wp2_with fail;refine q1.mono ?_;rintro e w2 ⟨rfl,hI2⟩;have en2:w2.heap[n]?=w0.heap[n]?:=hf _ _ hI2 n hn;have y3:w2.cell? ⟨n,m*4+3,none⟩=some (.slice sa it.alts.length sc):=(World.cell?_of_block (w:=w0) en2).trans (hcc 3 (by decide));go_wp2_with fail;refine (IH nw nv caps wd F w0 I Q hcw hcv hw hv hf _ _ ha hQ2 w2 _ hI2).mono ?_;rintro e w3 ⟨rfl,hI3⟩;have HR4:Hid _:=HR3.out;rw[<-List.append_assoc]at HR4;go_wp2_with fail;go_roundg (its.length - (m+1))
      case measure=>omega
      case rel=>exact⟨m+1,_,by omega,by go_num,hI3,hQ3,HR4⟩
     | false =>
      have hr3:T=L2++((adA d w0 (.slice sa it.alts.length sc) it.alts).filter (fun p=>wd p.2)++(adItems (adA d w0) w0 n (m+1) (its.drop (m+1))++adAlts (adA d w0) w0 gb (j+1) (l.drop (j+1))).filter (fun p=>wd p.2)):=by
       rw[hr2];simp[hwd,List.append_assoc]
      have HR3:Hid _:=hr3;clear hr2 hr3 hwd;have y3:wr.cell? ⟨n,m*4+3,none⟩=some (.slice sa it.alts.length sc):=(World.cell?_of_block (w:=w0) en).trans (hcc 3 (by decide));go_wp2_with fail;refine (IH nw nv caps wd F w0 I Q hcw hcv hw hv hf _ _ ha hQ2 wr _ hr).mono ?_;rintro e w3 ⟨rfl,hI3⟩;have HR4:Hid _:=HR3.out;rw[<-List.append_assoc]at HR4;go_wp2_with fail;go_roundg (its.length - (m+1))
      case measure=>omega
      case rel=>exact⟨m+1,_,by omega,by go_num,hI3,hQ3,HR4⟩
    ·have:m=its.length:=by omega
     subst this;have hr2:=HR.out;rw[List.drop_length,adItems,List.nil_append]at hr2 hqr;have HR2:Hid _:=hr2;clear hr2 HR;go_wp2_with fail;go_roundg (l.length - (j+1))
     case measure=>omega
     case rel=>exact⟨j+1,L2,by omega,by go_num,hr,hqr,HR2⟩
  ·have:j=l.length:=by omega
   subst this;have hz2:=HZ.out;rw[List.drop_length,adAlts,List.filter_nil,List.append_nil]at hz2;have HZ2:Hid _:=hz2;clear hz2 HZ;go_wp2_with fail
   go_end0
   refine⟨rfl,?_⟩;rw[HZ2.out];exact hz
theorem each_at:∀ d,EachSaid d
 | 0=>each_zero
 | d+1=>each_succ (each_at d)
end
section
open Go.RowKit
open Tr
def EachTot (d:Nat):Prop:=∀ (nw nv:Nat) (fst caps:Array Value) (wd:Lx.It->Bool) (F:Nat->Prop) (w0:World) (I:List AI->World->Prop) (Q:AI->Prop) (Tot:List AI),
 (∀ (ar:Array Value) (w:World),(callFunc nw ar).run Tryz.prog w=.ok (.enter nw ar) w)->(∀ (ar:Array Value) (w:World),(callFunc nv ar).run Tryz.prog w=.ok (.enter nv ar) w) ->
 (∀ (w':World) (n m:Nat) (it:Lx.It),F n->ItemAt w' n m it->Calls Tryz.prog nw #[.pointer (some ⟨n,m*4,none⟩)] w' fun e w''=>e=.returned (.bool (wd it))/\w''=w') ->
 (∀ (w':World) (L:List AI) (n m:Nat) (it:Lx.It),I L w'->F n->ItemAt w' n m it->wd it=true->Q (⟨n,m*4,none⟩,it)->(∃ R,Tot=L++((⟨n,m*4,none⟩,it)::R))->Calls Tryz.prog nv (fst++#[.pointer (some ⟨n,m*4,none⟩)]++caps) w' fun e w''=>e=.returned (.tuple #[])/\I (L++[(⟨n,m*4,none⟩,it)]) w'') ->
 (∀ (L:List AI) (w':World),I L w'->∀ b,F b->w'.heap[b]?=w0.heap[b]?) ->
 ∀ (v:Value) (l:List Lx.Alt),AltsIn YP d F w0 v l->(∀ p∈adA d w0 v l,Q p)->∀ (w:World) (L:List AI),I L w->(∃ R,Tot=(L++(adA d w0 v l).filter fun p=>wd p.2)++R) ->
 Calls Tryz.prog 94 #[v,.func (.func nw) #[] #[],.func (.func nv) fst caps] w fun e w'=>e=.returned (.tuple #[])/\I (L++(adA d w0 v l).filter fun p=>wd p.2) w'
theorem eachT_zero:EachTot 0:=by
 intro nw nv fst caps wd F w0 I Q Tot hcw hcv hw hv hf v l hl hq w L hI hTot;obtain⟨rfl,rfl⟩:=hl;go_enter Tryz.func94,Tryz.ntmps94;go_wp2_with fail
 go_loopg [11] 0 (fun k i wr=>k=0/\i=.int .i64 0/\wr=w)
 case atStart=>exact⟨rfl,rfl,rfl⟩
 case round =>
  obtain⟨rfl,rfl,rfl⟩:=hrel;go_wp2_with fail
  go_end0
  refine⟨rfl,?_⟩;rw[show adA 0 w0 (.slice none 0 0) []=[] from rfl,List.filter_nil,List.append_nil];exact hI
theorem eachT_succ {d:Nat}(IH:EachTot d):EachTot (d+1):=by
 intro nw nv fst caps wd F w0 I Q Tot hcw hcv hw hv hf v l hl hq w L hI hTot;obtain⟨va,vc,hvv,hm⟩:=AltsIn.len hl;subst hvv;unfold maxLen at hm;obtain⟨T,hT⟩:∃ T,T=L++(adA (d+1) w0 (.slice va l.length vc) l).filter (fun p=>wd p.2):=⟨_,rfl⟩;rw[<-hT]at hTot ⊢;obtain⟨R0,hTot⟩:=hTot;have HTot:Hid (Tot=T++R0):=hTot;clear hTot;go_enter Tryz.func94,Tryz.ntmps94;go_wp2_with fail;have e0:adA (d+1) w0 (.slice va l.length vc) l=adAlts (adA d w0) w0 (blkOf (.slice va l.length vc)) 0 (l.drop 0):=rfl;have H0:Hid (T=L++(adAlts (adA d w0) w0 (blkOf (.slice va l.length vc)) 0 (l.drop 0)).filter (fun p=>wd p.2)):=by show _=_;rw[hT,e0]
 rw[e0]at hq;clear e0;clear hT
 go_loopg [11] l.length (fun k i wr=>∃ (j:Nat) (L':List AI),j+k=l.length/\i=.int .i64 j/\I L' wr/\(∀ p∈adAlts (adA d w0) w0 (blkOf (.slice va l.length vc)) j (l.drop j),Q p)/\Hid (T=L'++(adAlts (adA d w0) w0 (blkOf (.slice va l.length vc)) j (l.drop j)).filter (fun p=>wd p.2)))
 case atStart=>exact⟨0,L,by omega,rfl,hI,hq,H0⟩
 case round =>
  clear H0 hq hI;revert wr;intro wz hrel;obtain⟨j,L1,hk,rfl,hz,hqz,HZ⟩:=hrel
  by_cases hlt:j<l.length
  ·obtain⟨gb,cap,vi,hvv,hg,hi,hc⟩:=Seq.at hl (fun _=>rfl) hlt
   cases hvv;have hz2:=HZ.out;have ec:cv w0 ⟨gb,j*2,none⟩=vi:=by unfold cv;rw[show w0.cell? ⟨gb,j*2,none⟩=some vi from hc 0 (by decide)];rfl
   rw[adAlts_drop hlt,show blkOf (.slice (some ⟨gb,0,none⟩) l.length vc)=gb from rfl,ec]at hz2 hqz;generalize l[j]=x at hi hc hz2 hqz;obtain⟨its,prec,pa⟩:=x;have hi':ItemsIn YP d F w0 vi its:=hi;obtain⟨ia,ic,hvi,him⟩:=Seq.len hi;subst hvi;unfold maxLen at him;have c0:wz.cell? ⟨gb,j*2,none⟩=some (.slice ia its.length ic):=(World.cell?_of_block (w:=w0) (hf _ _ hz gb hg)).trans (hc 0 (by decide));have HZ2:Hid (T=L1++(adItems (adA d w0) w0 (blkOf (.slice ia its.length ic)) 0 (its.drop 0)++adAlts (adA d w0) w0 gb (j+1) (l.drop (j+1))).filter (fun p=>wd p.2)):=hz2;have hqz2:∀ p∈adItems (adA d w0) w0 (blkOf (.slice ia its.length ic)) 0 (its.drop 0)++adAlts (adA d w0) w0 gb (j+1) (l.drop (j+1)),Q p:=hqz;clear hc hz2 HZ hqz ec hi;go_wp2_with fail
   go_loopg [21] its.length (fun k i wr=>∃ (m:Nat) (L':List AI),m+k=its.length/\i=.int .i64 m/\I L' wr/\(∀ p∈adItems (adA d w0) w0 (blkOf (.slice ia its.length ic)) m (its.drop m)++adAlts (adA d w0) w0 gb (j+1) (l.drop (j+1)),Q p)/\Hid (T=L'++(adItems (adA d w0) w0 (blkOf (.slice ia its.length ic)) m (its.drop m)++adAlts (adA d w0) w0 gb (j+1) (l.drop (j+1))).filter (fun p=>wd p.2)))
   case atStart=>exact⟨0,L1,by omega,rfl,hz,hqz2,HZ2⟩
   case round =>
    clear HZ2 hqz2 hz c0;obtain⟨m,L2,hkm,rfl,hr,hqr,HR⟩:=hrel
    by_cases hltm:m<its.length
    ·have hir:=hi'
     unfold ItemsIn ItemsBy at hir;obtain⟨n,ncap,va,hvv,hn,ha,hcc⟩:=Seq.at hir (fun _=>rfl) hltm;cases hvv;have hr2:=HR.out;have ec:cv w0 ⟨n,m*4+3,none⟩=va:=by unfold cv;rw[show w0.cell? ⟨n,m*4+3,none⟩=some va from hcc 3 (by decide)];rfl
     rw[adItems_drop hltm,show blkOf (.slice (some ⟨n,0,none⟩) its.length ic)=n from rfl,ec]at hr2 hqr;generalize its[m]=it at ha hcc hr2 hqr;obtain⟨sa,sc,hva,-⟩:=AltsIn.len ha;subst hva;have en:wr.heap[n]?=w0.heap[n]?:=hf _ _ hr n hn;have hia:ItemAt wr n m it:=⟨(World.cell?_of_block (w:=w0) en).trans (hcc 0 (by decide)),(World.cell?_of_block (w:=w0) en).trans (hcc 1 (by decide)),(World.cell?_of_block (w:=w0) en).trans (hcc 2 (by decide))⟩;have hQ1:Q (⟨n,m*4,none⟩,it):=hqr _ (by simp);have hQ2:∀ p∈adA d w0 (.slice sa it.alts.length sc) it.alts,Q p:=fun p hp=>hqr p (by simp[hp])
     have hQ3:∀ p∈adItems (adA d w0) w0 n (m+1) (its.drop (m+1))++adAlts (adA d w0) w0 gb (j+1) (l.drop (j+1)),Q p:=fun p hp=>hqr p (by
      rcases List.mem_append.1 hp with hp | hp
      ·simp[hp]
      ·simp[hp])
     clear hqr hir HR ec;go_wp2_with fail;refine (hw wr n m it hn hia).mono ?_;rintro e w1 ⟨rfl,hw1⟩;obtain rfl:=hw1.symm;cases hwd:wd it with
     | true =>
      have HWD:Hid (wd it=true):=hwd;have hr3:T=(L2++[(⟨n,m*4,none⟩,it)])++((adA d w0 (.slice sa it.alts.length sc) it.alts).filter (fun p=>wd p.2)++(adItems (adA d w0) w0 n (m+1) (its.drop (m+1))++adAlts (adA d w0) w0 gb (j+1) (l.drop (j+1))).filter (fun p=>wd p.2)):=by
       rw[hr2];simp[hwd,List.append_assoc]
      have HR3:Hid _:=hr3;have q1:=hv wr L2 n m it hr hn hia hwd hQ1 ⟨_,by rw[HTot.out,hr3,List.append_assoc,List.append_assoc];rfl⟩;clear hr2 hr3 hwd;go_wp2_with fail;refine q1.mono ?_;rintro e w2 ⟨rfl,hI2⟩;have en2:w2.heap[n]?=w0.heap[n]?:=hf _ _ hI2 n hn;have y3:w2.cell? ⟨n,m*4+3,none⟩=some (.slice sa it.alts.length sc):=(World.cell?_of_block (w:=w0) en2).trans (hcc 3 (by decide));go_wp2_with fail;refine (IH nw nv fst caps wd F w0 I Q Tot hcw hcv hw hv hf _ _ ha hQ2 w2 _ hI2 ⟨_,by rw[HTot.out,HR3.out,<-List.append_assoc (L2++_),List.append_assoc (_++List.filter _ _)]⟩).mono ?_;rintro e w3 ⟨rfl,hI3⟩;have HR4:Hid _:=HR3.out;rw[<-List.append_assoc]at HR4;go_wp2_with fail;go_roundg (its.length - (m+1))
      case measure=>omega
      case rel=>exact⟨m+1,_,by omega,by go_num,hI3,hQ3,HR4⟩
     | false =>
      have hr3:T=L2++((adA d w0 (.slice sa it.alts.length sc) it.alts).filter (fun p=>wd p.2)++(adItems (adA d w0) w0 n (m+1) (its.drop (m+1))++adAlts (adA d w0) w0 gb (j+1) (l.drop (j+1))).filter (fun p=>wd p.2)):=by
       rw[hr2];simp[hwd,List.append_assoc]
      have HR3:Hid _:=hr3;clear hr2 hr3 hwd;have y3:wr.cell? ⟨n,m*4+3,none⟩=some (.slice sa it.alts.length sc):=(World.cell?_of_block (w:=w0) en).trans (hcc 3 (by decide));go_wp2_with fail;refine (IH nw nv fst caps wd F w0 I Q Tot hcw hcv hw hv hf _ _ ha hQ2 wr _ hr ⟨_,by rw[HTot.out,HR3.out,<-List.append_assoc L2,List.append_assoc (_++List.filter _ _)]⟩).mono ?_;rintro e w3 ⟨rfl,hI3⟩;have HR4:Hid _:=HR3.out;rw[<-List.append_assoc]at HR4;go_wp2_with fail;go_roundg (its.length - (m+1))
      case measure=>omega
      case rel=>exact⟨m+1,_,by omega,by go_num,hI3,hQ3,HR4⟩
    ·have:m=its.length:=by omega
     subst this;have hr2:=HR.out;rw[List.drop_length,adItems,List.nil_append]at hr2 hqr;have HR2:Hid _:=hr2;clear hr2 HR;go_wp2_with fail;go_roundg (l.length - (j+1))
     case measure=>omega
     case rel=>exact⟨j+1,L2,by omega,by go_num,hr,hqr,HR2⟩
  ·have:j=l.length:=by omega
   subst this;have hz2:=HZ.out;rw[List.drop_length,adAlts,List.filter_nil,List.append_nil]at hz2;have HZ2:Hid _:=hz2;clear hz2 HZ;go_wp2_with fail
   go_end0
   refine⟨rfl,?_⟩;rw[HZ2.out];exact hz
theorem eachT_at:∀ d,EachTot d
 | 0=>eachT_zero
 | d+1=>eachT_succ (eachT_at d)
end
section
open Go.RowKit
open Tr
def TokensSaid (d:Nat):Prop:=∀ (F:Nat->Prop) (w:World) (v:Value) (l:List Lx.Alt),AltsIn YR d F w v l->(∀ b,F b->b<w.heap.size)->∀ (X:Nat->Prop) (mb:Nat) (T N:List ByteArray),(∀ b,F b->¬ X b)->Ph1 X w mb T N->T.length+(Lx.toksA d l).length<=10000 ->
 Calls Tryz.prog 64 #[.pointer (some ⟨mb,0,none⟩),v] w fun e w'=>e=.returned (.tuple #[])/\∃ X',Ph1 X' w' mb (Lx.addToks T (Lx.toksA d l)) N/\Fr X w X' w'
theorem tokens_zero:TokensSaid 0:=by
 intro F w v l hl hL X mb T N hF h hn;obtain⟨rfl,rfl⟩:=hl;go_enter Tryz.func64,Tryz.ntmps64;go_wp2_with fail
 go_loopg [4] 0 (fun k i wr=>k=0/\i=.int .i64 0/\wr=w)
 case atStart=>exact⟨rfl,rfl,rfl⟩
 case round =>
  obtain⟨rfl,rfl,rfl⟩:=hrel;go_wp2_with fail
  go_end0
  exact⟨rfl,X,h,Fr.refl _ _⟩
theorem tokens_succ {d:Nat}(IH:TokensSaid d):TokensSaid (d+1):=by
 intro F w v l hl hL X mb T N hF h hn;obtain⟨va,vc,hv,hm⟩:=AltsIn.len hl;subst hv;unfold maxLen at hm;go_enter Tryz.func64,Tryz.ntmps64;go_wp2_with fail;have hn0:T.length+((l.drop 0).flatMap fun a=>a.1.flatMap (Lx.toksI d)).length<=10000:=by rw[Lx.toksA_succ]at hn;exact hn
 have H0:Hid (Lx.addToks T (Lx.toksA (d+1) l)=Lx.addToks T ((l.drop 0).flatMap fun a=>a.1.flatMap (Lx.toksI d))):=by rw[Lx.toksA_succ];rfl
 go_loopg [4] l.length (fun k i wr=>∃ (j:Nat) (U:List ByteArray) (Z:Nat->Prop),j+k=l.length/\i=.int .i64 j/\Ph1 Z wr mb U N/\Fr X w Z wr/\U.length+((l.drop j).flatMap fun a=>a.1.flatMap (Lx.toksI d)).length<=10000/\Hid (Lx.addToks T (Lx.toksA (d+1) l)=Lx.addToks U ((l.drop j).flatMap fun a=>a.1.flatMap (Lx.toksI d))))
 case atStart=>exact⟨0,T,X,by omega,rfl,h,Fr.refl _ _,hn0,H0⟩
 case round =>
  clear H0 hn0;revert wr;intro wz hrel;obtain⟨j,U,Z,hk,rfl,hz,hbz,hnz,HZ⟩:=hrel;have bz:∀ b,F b->wz.heap[b]?=w.heap[b]?:=fun b hb=>hbz.block b (hL b hb) (hF b hb)
  have hsz:=hbz.size;have hFZ:∀ b,F b->¬ Z b:=fun b hb hz=>(hbz.own b hz).elim (hF b hb) (fun h=>by have:=hL b hb;omega)
  by_cases hlt:j<l.length
  ·have h1:AltsIn YR (d+1) F wz _ l:=AltsIn.move bz (fun _ h=>h) hl
   obtain⟨gb,cap,vi,hv,hg,hi,hc⟩:=Seq.at h1 (fun _=>rfl) hlt;cases hv;have hz2:=HZ.out;rw[List.drop_eq_getElem_cons hlt,List.flatMap_cons]at hz2 hnz;generalize l[j]=x at hi hc hz2 hnz;obtain⟨its,prec,pa⟩:=x;obtain⟨ia,ic,hvi,him⟩:=Seq.len hi;subst hvi;unfold maxLen at him;have c0:wz.cell? ⟨gb,j*3,none⟩=some (.slice ia its.length ic):=hc 0 (by decide);have HZ2:Hid _:=hz2;clear h1 hc hz2 HZ;go_wp2_with fail
   go_loopg [5] its.length (fun k i wr=>∃ (m:Nat) (U:List ByteArray) (Y:Nat->Prop),m+k=its.length/\i=.int .i64 m/\Ph1 Y wr mb U N/\Fr Z wz Y wr/\U.length+((its.drop m).flatMap (Lx.toksI d)++(l.drop (j+1)).flatMap fun a=>a.1.flatMap (Lx.toksI d)).length<=10000/\Hid (Lx.addToks T (Lx.toksA (d+1) l)=Lx.addToks U ((its.drop m).flatMap (Lx.toksI d)++(l.drop (j+1)).flatMap fun a=>a.1.flatMap (Lx.toksI d))))
   case atStart=>exact⟨0,U,Z,by omega,rfl,hz,Fr.refl _ _,hnz,HZ2⟩
   case round =>
    clear HZ2;obtain⟨m,U2,Y,hkm,rfl,hr,hbr,hnr,HR⟩:=hrel;have br:∀ b,F b->wr.heap[b]?=wz.heap[b]?:=fun b hb=>hbr.block b (Nat.lt_of_lt_of_le (hL b hb) hsz) (hFZ b hb)
    have hszr:=hbr.size;have hFY:∀ b,F b->¬ Y b:=fun b hb hz=>(hbr.own b hz).elim (hFZ b hb) (fun h=>by have:=hL b hb;omega)
    have eg:wr.heap[gb]?=wz.heap[gb]?:=br gb hg;have d0:wr.cell? ⟨gb,j*3,none⟩=some (.slice ia its.length ic):=(World.cell?_of_block (w:=wz) eg).trans c0;have hlm:=hr.lt
    by_cases hltm:m<its.length
    ·have hir:ItemsIn YR d F wr _ its:=ItemsIn.move br (fun _ h=>h) hi
     unfold ItemsIn ItemsBy at hir;obtain⟨n,ncap,va,hv,hn,ha,hcc⟩:=Seq.at hir (fun _=>rfl) hltm;cases hv;have hr2:=HR.out;rw[List.drop_eq_getElem_cons hltm,List.flatMap_cons,List.append_assoc]at hr2 hnr;generalize its[m]=it at ha hcc hr2 hnr;obtain⟨sa,sc,hva,-⟩:=AltsIn.len ha;subst hva;have e0:wr.cell? ⟨n,m*5,none⟩=some (.int .i64 (it.kind:Int)):=hcc 0 (by decide);have e1:wr.cell? ⟨n,m*5+1,none⟩=some (.string it.name):=hcc 1 (by decide);have e2:wr.cell? ⟨n,m*5+2,none⟩=some (.int .u8 (it.mark:Int)):=hcc 2 (by decide);have e3:wr.cell? ⟨n,m*5+3,none⟩=some (.slice sa it.alts.length sc):=hcc 3 (by decide);have e4:wr.cell? ⟨n,m*5+4,none⟩=some (.int .i64 (it.place:Int)):=hcc 4 (by decide);have ln:n<wr.heap.size:=by have:=hL n hn;omega
     have lgb:gb<wr.heap.size:=by have:=hL gb hg;omega
     rw[List.length_append,Lx.toksI,List.length_append]at hnr;rw[Lx.addToks_app U2,Lx.toksI,Lx.addToks_app U2]at hr2;clear hcc hir c0 HR;obtain⟨W1,hW1⟩:∃ W1,W1=wr.alloc (.cells #[.int .i64 (it.kind:Int),.string it.name,.int .u8 (it.mark:Int),.slice sa it.alts.length sc,.int .i64 (it.place:Int)] 148):=⟨_,rfl⟩;have hb1:Below wr.heap.size wr W1:=by rw[hW1];exact (Below.refl _ _).alloc (Nat.le_refl _) _
     have hs1:W1.heap.size=wr.heap.size+1:=by rw[hW1];simp
     have kx:Blk W1 wr.heap.size #[.int .i64 (it.kind:Int),.string it.name,.int .u8 (it.mark:Int),.slice sa it.alts.length sc,.int .i64 (it.place:Int)] 148:=by rw[hW1];exact Blk.new wr _ 148
     have hY1:Ph1 Y W1 mb U2 N:=hr.below hb1;have hxY:¬ Y wr.heap.size:=fun h=>by have:=hr.1 _ h;omega
     have hf1:Fr Y wr Y W1:=Fr.same hb1
     by_cases hk1:it.kind=1
     rw[if_pos hk1]at hr2 hnr;have HK:Hid (it.kind=1):=hk1;have hkb:((it.kind:Int) == 1)=true:=by simp[hk1]
     have HR2:Hid _:=hr2;clear hk1 hr2;go_wp2_with fail;rw[<-hW1];refine (token_any hY1 (by omega) it.name).mono ?_;rintro e w2 ⟨⟨vq,rfl⟩,Y2,hY2,hf2⟩;have kx2:Blk w2 wr.heap.size _ 148:=(hf2.block _ (by omega) hxY).trans kx;have x3:w2.cell? ⟨wr.heap.size,3,none⟩=some (.slice sa it.alts.length sc):=kx2.cell 3;have hn2:=Lx.addTok_len U2 it.name;have hn3:(Lx.addTok U2 it.name).length+(Lx.toksA d it.alts).length+((its.drop (m+1)).flatMap (Lx.toksI d)++(l.drop (j+1)).flatMap fun a=>a.1.flatMap (Lx.toksI d)).length<=10000:=by
      simp only[List.length_cons,List.length_nil]at hnr;omega
     have HR3:Hid (Lx.addToks T (Lx.toksA (d+1) l)=Lx.addToks (Lx.addToks (Lx.addTok U2 it.name) (Lx.toksA d it.alts)) ((its.drop (m+1)).flatMap (Lx.toksI d)++(l.drop (j+1)).flatMap fun a=>a.1.flatMap (Lx.toksI d))):=HR2.out;clear HR2 hnr;generalize Lx.addTok U2 it.name=U3 at hn3 hY2 HR3;go_wp2_with fail
     rotate_left
     rw[if_neg hk1]at hr2 hnr;have HK:Hid (¬ it.kind=1):=hk1;have hkb:((it.kind:Int) == 1)=false:=beq_eq_false_iff_ne.2 (by omega);have HR2:Hid _:=hr2;clear hk1 hr2;go_wp2_with fail;rw[<-hW1];obtain⟨w2,hw2⟩:∃ w2,w2=W1:=⟨_,rfl⟩;rw[<-hw2];obtain⟨Y2,hY2,hf2⟩:∃ Y2,Ph1 Y2 w2 mb U2 N/\Fr Y W1 Y2 w2:=⟨Y,hw2 ▸ hY1,hw2 ▸ Fr.refl _ _⟩;obtain⟨U3,hU3⟩:∃ U3,U3=U2:=⟨_,rfl⟩;rw[<-hU3]at hY2;have hn3:U3.length+(Lx.toksA d it.alts).length+((its.drop (m+1)).flatMap (Lx.toksI d)++(l.drop (j+1)).flatMap fun a=>a.1.flatMap (Lx.toksI d)).length<=10000:=by
      simp only[List.length_nil]at hnr;rw[hU3];omega
     have HR3:Hid (Lx.addToks T (Lx.toksA (d+1) l)=Lx.addToks (Lx.addToks U3 (Lx.toksA d it.alts)) ((its.drop (m+1)).flatMap (Lx.toksI d)++(l.drop (j+1)).flatMap fun a=>a.1.flatMap (Lx.toksI d))):=by rw[hU3];exact HR2.out
     clear HR2 hnr hU3 hw2
     all_goals
      have hf3:Fr Y wr Y2 w2:=hf1.trans hf2;have hs2:=hf3.size;have hL2:∀ b,F b->b<w2.heap.size:=fun b hb=>by have:=hL b hb;omega
      have ha2:AltsIn YR d F w2 _ it.alts:=AltsIn.move (fun b hb=>hf3.block b (by have:=hL b hb;omega) (hFY b hb)) (fun _ h=>h) ha;have hFY2:∀ b,F b->¬ Y2 b:=fun b hb hz=>(hf3.own b hz).elim (hFY b hb) (fun h=>by have:=hL b hb;omega)
      have hln:=Lx.addToks_len (Lx.toksA d it.alts) U3;refine (IH F w2 _ _ ha2 hL2 Y2 mb U3 N hFY2 hY2 (by omega)).mono ?_;rintro e w3 ⟨rfl,Y3,hY3,hf4⟩;have hf5:=(hbr.trans hf3).trans hf4;go_wp2_with fail;go_roundg (its.length - (m+1))
      case measure=>omega
      case rel=>exact⟨m+1,_,Y3,by omega,by go_num,hY3,hf5,by omega,HR3⟩
    ·have:m=its.length:=by omega
     subst this;have hr2:=HR.out;rw[List.drop_length,List.flatMap_nil,List.nil_append]at hr2 hnr;have HR2:Hid _:=hr2;clear c0 hr2 HR;go_wp2_with fail;go_roundg (l.length - (j+1))
     case measure=>omega
     case rel=>exact⟨j+1,U2,Y,by omega,by go_num,hr,hbz.trans hbr,hnr,HR2⟩
  ·have:j=l.length:=by omega
   subst this;have hz2:=HZ.out;rw[List.drop_length]at hz2;have HZ2:Hid _:=hz2;clear hz2 HZ;go_wp2_with fail
   go_end0
   refine⟨rfl,Z,?_,hbz⟩;rw[HZ2.out];exact hz
theorem tokens_at:∀ d,TokensSaid d
 | 0=>tokens_zero
 | d+1=>tokens_succ (tokens_at d)
end
end Go.Proofs.YtlcppnabbicmoaaGreatDoor

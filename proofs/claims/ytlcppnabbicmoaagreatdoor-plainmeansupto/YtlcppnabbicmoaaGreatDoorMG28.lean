import Derived.Test.YtlcppnabbicmoaaGreatDoorMG27
set_option maxHeartbeats 8000000
set_option maxRecDepth 1000000
namespace Go.Proofs.YtlcppnabbicmoaaGreatDoor
open Lx Go.Proofs.Tryz
open Go.RowKit Tr
def vA (l:List Value):Array Value:=l.toArray
theorem ZU (l:List Value)(i:Nat)(v:Value):(vA l).setIfInBounds i v=vA (l.set i v):=by unfold vA;rw[List.setIfInBounds_toArray]
theorem QJ (l:List Value)(i:Nat):(vA l)[i]?=l[i]?:=by unfold vA;rw[List.getElem?_toArray]
def rz (n g:Nat):Value:=.slice (some ⟨g,0,none⟩) n n
theorem Tryz.QK:(prog.info? 39).map (fun i=>(i.zero,i.size,i.bytes))=some (some (.slice none 0 0),1,24):=by kernel_rfl
theorem aht {n:Nat}(hn:n<=100000)(w:World):(Instr.makeSlice 81 (.int .i64 (n:Int)) (.int .i64 (n:Int))).run prog w=.ok (.slice (some ⟨w.heap.size,0,none⟩) n n) (w.alloc (.cells (vA (List.replicate n (Value.slice none 0 0))) 39)):=by
 obtain⟨i0,hi,hz0,hz1,hz2⟩:=info_parts Tryz.QK;have h:=run_make (P:=prog) w 81 39 i0 _ (by kernel_rfl) hi hz0 .i64 .i64 (n:Int) (n:Int) (by omega) (Int.le_refl _) (by rw[hz2];omega) (by omega);rw[h,Int.toNat_natCast,hz1];have e:Value.cells (.slice none 0 0)=#[.slice none 0 0]:=rfl;have e2:madeCells #[.slice none 0 0] (n*1)=(vA (List.replicate n (Value.slice none 0 0))):=by
  unfold madeCells vA;apply Array.ext
  ·simp
  ·intro i h1 h2
   simp[Nat.mod_one]
 rw[e,e2]
structure BB (w:World) (gO nT:Nat) (gs:List Nat) (B:List (List Bool)):Prop where
 outer:aj w gO (vA (gs.map (rz nT))) 39
 len:B.length=gs.length
 rows:∀ i (hi:i<gs.length) (hi':i<B.length),aj w gs[i] (aL B[i]) 4
 rl:∀ b∈B,b.length=nT
 nd:gs.Nodup
 no:gO ∉ gs
namespace Lx
def yH (nT i:Nat):List Bool:=if i<nT then (List.replicate nT false).set i true else List.replicate nT false
def alone (nT n:Nat):List (List Bool):=(List.range n).map (yH nT)
theorem afj (nT i:Nat):(yH nT i).length=nT:=by unfold yH;split <;> simp
end Lx
def ZV (w:World)(nT n:Nat)(e:Ending)(w':World):Prop:=∃ gO gs,e=.returned (.slice (some ⟨gO,0,none⟩) n n)/\w.heap.size<=gO/\(∀ g∈gs,w.heap.size<=g)/\BB w' gO nT gs (Lx.alone nT n)/\Below w.heap.size w w'
theorem aeE {w:World}{ta:Option Addr}{nT tc:Nat}{na:Option Addr}{nN nc:Nat}{vP vB vK:Value}{pa ba ka:Option Addr}{np pc nb bc nk kc:Nat}(zC:vP=.slice pa np pc)(hvB:vB=.slice ba nb bc)(FW:vK=.slice ka nk kc)(hbd:nT+nN<=100000):Calls prog 72 #[.agg #[.slice ta nT tc,.slice na nN nc,vP,vB,vK]] w (ZV w nT (nT+nN)):=by
 subst zC hvB FW;obtain⟨n,hn⟩:∃ n,n=nT+nN:=⟨_,rfl⟩;have hw1:IntKind.i64.wrap ((nT:Int)+(nN:Int))=(n:Int):=by rw[hn,<-Int.natCast_add];exact wrap64 (by omega)
 have JJ:nT<=100000:=by omega
 rw[<-hn]at hbd |-;clear hn;have hmk:=fun w=>aht hbd w
 unfold ZV;go_enter func72,ntmps72;go_wp2_with fail;obtain⟨W,hW⟩:∃ W,W=(w.alloc (.cells #[.slice ta nT tc,.slice na nN nc,.slice pa np pc,.slice ba nb bc,.slice ka nk kc] 26)).alloc (.cells (vA (List.replicate n (Value.slice none 0 0))) 39):=⟨_,rfl⟩;rw[<-hW];have hbW:Below w.heap.size w W:=by rw[hW];exact ((Below.refl _ _).alloc (lr0) _).alloc (by simp) _
 have wL:W.heap.size=w.heap.size+2:=by rw[hW];simp
 have kA:aj W w.heap.size #[.slice ta nT tc,.slice na nN nc,.slice pa np pc,.slice ba nb bc,.slice ka nk kc] 26:=by rw[hW];exact (aj.new w _ 26).alloc _
 have kO:aj W (w.heap.size+1) (vA (List.replicate n (Value.slice none 0 0))) 39:=by
  rw[hW];simpa using aj.new (w.alloc (.cells #[.slice ta nT tc,.slice na nN nc,.slice pa np pc,.slice ba nb bc,.slice ka nk kc] 26)) (vA (List.replicate n (Value.slice none 0 0))) 39
 clear hW hmk hw1
 go_loopg [15] n (fun k i wr=>∃ (j:Nat) (gs:List Nat),j+k=n/\i=.int .i64 j/\gs.length=j/\aj wr (w.heap.size+1) (vA (gs.map (rz nT)++List.replicate (n-j) (Value.slice none 0 0))) 39/\(∀ i (hi:i<gs.length),aj wr gs[i] (aL (yH nT i)) 4)/\(∀ g∈gs,w.heap.size+2<=g)/\gs.Nodup/\Kp (fun g=>g<W.heap.size/\g≠w.heap.size+1) W wr)
 case atStart=>exact⟨0,[],by omega,rfl,rfl,by simpa using kO,(fun i hi=>absurd hi (by simp)),(fun g hg=>by cases hg),List.nodup_nil,Kp.refl _ _⟩
 case round =>
  obtain⟨j,gs,hk,rfl,hgl,hO,hrow,hgb,hnd,hkr⟩:=hrel;have hsr:=hkr.size;have NP:aj wr w.heap.size _ 26:=eG kA hkr ⟨by omega,by omega⟩
  by_cases hlt:j<n
  ·have a0:wr.cell? ⟨w.heap.size,0,none⟩=some (.slice ta nT tc):=NP.cell 0
   have MN:=fun w=>V7 JJ w
   have lO:=hO.lt;have lw:=NP.lt;have cO:wr.cell? ⟨w.heap.size+1,j,none⟩=some (.slice none 0 0):=by
    rw[hO.cell j,QJ,List.getElem?_append_right (by simp;omega),List.length_map,hgl,Nat.sub_self,List.getElem?_replicate,if_pos (by omega)]
   have fO:∀ i,wr.frozen? ⟨w.heap.size+1,i,none⟩=false:=hO.frozen;have abb:∀ g∈gs,g<wr.heap.size:=fun g hg=>by
    obtain⟨i,hi,rfl⟩:=List.getElem_of_mem hg;exact (hrow i hi).lt
   have hset:(vA (gs.map (rz nT)++List.replicate (n-j) (Value.slice none 0 0))).setIfInBounds j (rz nT wr.heap.size)=(vA ((gs++[wr.heap.size]).map (rz nT)++List.replicate (n - (j+1)) (Value.slice none 0 0))):=by
    rw[ZU,List.set_append_right _ _ (by simp;omega),show n-j=n - (j+1)+1 by omega,List.replicate_succ];simp[hgl]
   have HS:Hid _:=hset;have hall:∀ {C:List Bool},C=yH nT j->∀ W2,W2=(wr.setCell ⟨w.heap.size+1,j,none⟩ (rz nT wr.heap.size)).alloc (.cells (aL C) 4)->aj W2 (w.heap.size+1) (vA ((gs++[wr.heap.size]).map (rz nT)++List.replicate (n - (j+1)) (Value.slice none 0 0))) 39/\(∀ i (hi:i<(gs++[wr.heap.size]).length),aj W2 (gs++[wr.heap.size])[i] (aL (yH nT i)) 4)/\(∀ g∈gs++[wr.heap.size],w.heap.size+2<=g)/\(gs++[wr.heap.size]).Nodup/\Kp (fun g=>g<W.heap.size/\g≠w.heap.size+1) W W2:=by
    intro C hC W2 hW2;have hbk:∀ g,g<wr.heap.size->g≠w.heap.size+1->W2.heap[g]?=wr.heap[g]?:=fun g hg hn=>by
     rw[hW2,Below.heap_alloc _ _ _ (by simp[World.setCell];exact hg),hs0 hn]
    refine⟨?_,?_,?_,?_,?_⟩
    ·rw[hW2,<-HS.out];exact (hO.set j _).alloc _
    ·intro i hi
     rw[List.length_append,List.length_singleton]at hi
     by_cases hij:i<gs.length
     ·rw[List.getElem_append_left hij]
      have h1:=hgb gs[i] (List.getElem_mem hij);exact (hbk _ (abb _ (List.getElem_mem hij)) (by omega)).trans (hrow i hij)
     ·have:i=gs.length:=by omega
      subst this;rw[List.getElem_append_right (lr0)];simp only[Nat.sub_self,List.getElem_cons_zero];rw[hgl,<-hC,hW2];have:=aj.new (wr.setCell ⟨w.heap.size+1,j,none⟩ (rz nT wr.heap.size)) (aL C) 4;simpa [World.setCell]using this
    ·intro g hg
     rcases List.mem_append.1 hg with hg | hg
     ·exact hgb g hg
     ·rw[List.mem_singleton.1 hg];omega
    ·rw[List.nodup_append]
     refine⟨hnd,by simp,fun a ha b hb e=>?_⟩;rw[List.mem_singleton.1 hb]at e;have:=abb a ha;omega
    ·refine⟨by rw[hW2];exact hkr.os,by rw[hW2];exact hkr.tape,by rw[hW2];exact hkr.output,by rw[hW2];simp[World.setCell];omega,fun g hg=>(hbk g (by omega) hg.2).trans (hkr.block g hg)⟩
   have abd:Hid _:=@hall;clear hall hset
   by_cases hjt:j<nT
   ·have hjc:(aL (List.replicate nT false))[j]?=some (.bool false):=by rw[fI _ (by simpa using hjt)];simp[au,hjt]
    have hC:(List.replicate nT false).set j true=yH nT j:=(if_pos hjt).symm;have HC:Hid _:=hC;clear hC hrow hO hgb hnd;go_wp2_with fail;rw[p9];have hx:=abd.out HC.out _ rfl;go_roundg (n - (j+1))
    case measure=>omega
    case rel=>exact⟨j+1,gs++[wr.heap.size],by omega,by go_num,by simp[hgl],hx.1,hx.2.1,hx.2.2.1,hx.2.2.2.1,hx.2.2.2.2⟩
   ·have hC:List.replicate nT false=yH nT j:=(if_neg hjt).symm
    have HC:Hid _:=hC;clear hC hrow hO hgb hnd;go_wp2_with fail;have hx:=abd.out HC.out _ rfl;go_roundg (n - (j+1))
    case measure=>omega
    case rel=>exact⟨j+1,gs++[wr.heap.size],by omega,by go_num,by simp[hgl],hx.1,hx.2.1,hx.2.2.1,hx.2.2.2.1,hx.2.2.2.2⟩
  ·have:j=n:=by omega
   subst this;have hbz:Below w.heap.size w wr:=⟨hkr.os.trans hbW.os,hkr.tape.trans hbW.tape,hkr.output.trans hbW.output,by omega,fun x hx=>(hkr.block x ⟨by omega,by omega⟩).trans (hbW.block x hx)⟩;have hbb:BB wr (w.heap.size+1) nT gs (Lx.alone nT j):=by
    refine⟨by simpa using hO,by simp[Lx.alone,hgl],fun i hi hi'=>?_,?_,hnd,fun hm=>by have:=hgb _ hm;omega⟩
    ·have:(Lx.alone nT j)[i]=yH nT i:=by simp[Lx.alone]
     rw[this];exact hrow i hi
    ·intro b hb
     obtain⟨i,-,rfl⟩:=List.mem_map.1 hb;exact afj nT i
   have HB:Hid _:=hbb;have HG:Hid (∀ g∈gs,w.heap.size<=g):=fun g hg=>by have:=hgb g hg;omega
   clear hbb hO hrow hgb;go_wp2_with fail;go_ret;exact⟨_,gs,rfl,by omega,HG.out,HB.out,hbz⟩
namespace Lx
def rowAt (B:List (List Bool))(i:Nat):List Bool:=B[i]?.getD []
def rM (l:Nat)(B:List (List Bool))(s:Nat):List (List Bool):=B.set l (pX (rowAt B l) (rowAt B s))
def akM (E:List Bool)(p:Pd):Nat:=min (jQ E p.right+1) p.right.length
def QU (E:List Bool)(B:List (List Bool))(p:Pd):List (List Bool):=(p.right.take (akM E p)).foldl (rM p.left) B
def iJ (P:List Pd)(E:List Bool)(B:List (List Bool)):List (List Bool):=P.foldl (QU E) B
def tot (B:List (List Bool)):Nat:=(B.map bB).sum
theorem yI {B:List (List Bool)}{i:Nat}(h:i<B.length):rowAt B i=B[i]:=by simp[rowAt,h]
theorem Qu:∀ {B:List (List Bool)} {l:Nat} {C:List Bool} (h:l<B.length),tot (B.set l C)+bB B[l]=tot B+bB C
 | b::B,0,C,_=>by simp[tot];omega
 | b::B,l+1,C,h=>by
  have:=Qu (B:=B) (l:=l) (C:=C) (by simpa using h);simp[tot]at this |-;omega
theorem LP {nT:Nat}:∀ {B:List (List Bool)},(∀ b∈B,b.length=nT)->tot B<=B.length*nT
 | [],_=>by simp[tot]
 | b::B,h=>by
  have h1:=LP (B:=B) fun x hx=>h x (List.mem_cons_of_mem _ hx)
  have h2:=Af b;rw[h b List.mem_cons_self]at h2;simp[tot,Nat.succ_mul]at h1 |-;omega
theorem ajn (A B:List Bool):(pX A B).length=A.length:=by unfold pX;rw[lT]
end Lx
theorem BB.at {w:World}{gO nT:Nat}{gs:List Nat}{B:List (List Bool)}(h:BB w gO nT gs B){i:Nat}(hi:i<gs.length):w.cell? ⟨gO,i,none⟩=some (.slice (some ⟨gs[i],0,none⟩) nT nT)/\aj w gs[i] (aL (Lx.rowAt B i)) 4/\(Lx.rowAt B i).length=nT:=by
 have hi':i<B.length:=by rw[h.len];exact hi
 rw[yI hi'];refine⟨?_,h.rows i hi hi',h.rl _ (List.getElem_mem hi')⟩;rw[h.outer.cell i,QJ];simp[hi,rz]
theorem BB.join {w w':World}{gO nT:Nat}{gs:List Nat}{B:List (List Bool)}(h:BB w gO nT gs B){l:Nat}(hl:l<gs.length){A C:List Bool}(hj:mE w gs[l] A C w')(hC:C.length=nT):BB w' gO nT gs (B.set l C):=by
 obtain⟨h1,h2,h3,h4,h5,h6⟩:=h;refine⟨(hj.wR gO (fun e=>h6 (e ▸ List.getElem_mem hl))).trans h1,by rw[List.length_set];exact h2,fun i hi hi'=>?_,fun b hb=>?_,h5,h6⟩
 ·rw[List.getElem_set]
  by_cases e:l=i
  ·subst e;rw[if_pos rfl];exact hj.blk
  ·rw[if_neg e]
   rw[List.length_set]at hi';exact (hj.wR _ (fun e'=>e ((List.getElem_inj h5).1 e').symm)).trans (h3 i hi hi')
 ·rcases List.mem_or_eq_of_mem_set hb with hb | hb
  ·exact h4 b hb
  ·rw[hb];exact hC
theorem BB.move {w w':World}{gO nT:Nat}{gs:List Nat}{B:List (List Bool)}(h:BB w gO nT gs B)(hk:∀ g,g<w.heap.size->w'.heap[g]?=w.heap[g]?):BB w' gO nT gs B:=⟨(hk _ h.outer.lt).trans h.outer,h.len,fun i hi hi'=>(hk _ (h.rows i hi hi').lt).trans (h.rows i hi hi'),h.rl,h.nd,h.no⟩
theorem agw {n:Nat}(hn:n<=100000)(w:World):(Instr.makeSlice 40 (.int .i64 (n:Int)) (.int .i64 (n:Int))).run prog w=.ok (.slice (some ⟨w.heap.size,0,none⟩) n n) (w.alloc (.cells (vA (List.replicate n (Value.slice none 0 0))) 24)):=by
 obtain⟨i0,hi,hz0,hz1,hz2⟩:=info_parts Tryz.QI;have h:=run_make (P:=prog) w 40 24 i0 _ (by kernel_rfl) hi hz0 .i64 .i64 (n:Int) (n:Int) (by omega) (Int.le_refl _) (by rw[hz2];omega) (by omega);rw[h,Int.toNat_natCast,hz1];have e:Value.cells (.slice none 0 0)=#[.slice none 0 0]:=rfl;have e2:madeCells #[.slice none 0 0] (n*1)=(vA (List.replicate n (Value.slice none 0 0))):=by
  unfold madeCells vA;apply Array.ext
  ·simp
  ·intro i h1 h2
   simp[Nat.mod_one]
 rw[e,e2]
def FX (B:Nat)(w:World)(v:Value)(ps:List (List Nat)):Prop:=∃ qs,Rj B w v ps qs/\qs.Pairwise fun a b=>∀ g,a.1.ownBlock=some g->b.1.ownBlock≠some g
theorem FX.pt {B:Nat}{w:World}{v:Value}{ps:List (List Nat)}(h:FX B w v ps):oM B w v ps:=by
 obtain⟨qs,h1,-⟩:=h;exact⟨qs,h1⟩
def ZW (w:World)(nT n:Nat)(P:List Lx.Pd)(E:List Bool)(e:Ending)(w':World):Prop:=∃ v B m,e=.returned v/\B=gq (iJ P E) m (Lx.alone nT n)/\iJ P E B=B/\FX w.heap.size w' v (B.map mg)/\Below w.heap.size w w'
theorem aeF {w:World}{ta:Option Addr}{nT tc:Nat}{na:Option Addr}{nN nc:Nat}{vP:Value}{P:List Lx.Pd}{ba ka:Option Addr}{nb bc nk kc gE:Nat}{E:List Bool}(h:EU w ta nT tc na nN nc vP P)(kE:aj w gE (aL E) 4)(hE:E.length=nT+nN)(hpr:∀ p∈P,p.right.length<=100000):Calls prog 32 #[.agg #[.slice ta nT tc,.slice na nN nc,vP,.slice ba nb bc,.slice ka nk kc],.slice (some ⟨gE,0,none⟩) (nT+nN) (nT+nN)] w (ZW w nT (nT+nN) P E):=by
 obtain⟨hP,hok,hbd⟩:=h;obtain⟨pa,pc,rfl,hpm⟩:∃ a c,vP=.slice a P.length c/\P.length<=maxLen:=by obtain⟨ps,h1,h2,-⟩:=hP;exact aI h2
 unfold maxLen at hpm;obtain⟨W,hW⟩:∃ W,W=w.alloc (.cells #[.slice ta nT tc,.slice na nN nc,.slice pa P.length pc,.slice ba nb bc,.slice ka nk kc] 26):=⟨_,rfl⟩;have hbW:Below w.heap.size w W:=by rw[hW];exact (Below.refl _ _).alloc (lr0) _
 have wL:W.heap.size=w.heap.size+1:=by rw[hW];simp
 have kA:aj W w.heap.size #[.slice ta nT tc,.slice na nN nc,.slice pa P.length pc,.slice ba nb bc,.slice ka nk kc] 26:=by rw[hW];exact aj.new w _ 26
 have q0:=aeE (w:=W) (ta:=ta) (tc:=tc) (na:=na) (nc:=nc) (vP:=.slice pa P.length pc) (vB:=.slice ba nb bc) (vK:=.slice ka nk kc) rfl rfl rfl hbd;have JJ:nT<=100000:=by omega
 obtain⟨n,hn⟩:∃ n,n=nT+nN:=⟨_,rfl⟩;rw[<-hn]at hok hbd hE q0 |-;clear hn;unfold ZW;go_enter func32,ntmps32;go_wp2_with fail;rw[<-hW];clear hW;refine q0.mono ?_;rintro e w1 ⟨gO,gs,rfl,NQ,hgs,hBB,hb1⟩;clear q0;have hs1:=hb1.size;have dV:Below w.heap.size w w1:=hbW.trans (hb1.mono (by omega));have kA1:aj w1 w.heap.size _ 26:=(hb1.block _ (by omega)).trans kA;have kE1:aj w1 gE (aL E) 4:=(dV.block _ kE.lt).trans kE;have lE:=kE.lt;have hgl:gs.length=n:=by rw[<-hBB.len];simp[Lx.alone]
 go_wp2_with fail
 go_loopg [6] (n*nT+1) (fun k v wr=>∃ (b:Bool) (B:List (List Bool)) (m:Nat),v=.bool b/\(b=true->n*nT-Lx.tot B+1<=k)/\BB wr gO nT gs B/\Kp (fun g=>g<W.heap.size) w1 wr/\Hid (B=gq (iJ P E) m (Lx.alone nT n))/\Hid (b=false->iJ P E B=B))
 case atStart=>exact⟨true,_,0,rfl,fun _=>by omega,hBB,Kp.refl _ _,rfl,fun h=>by cases h⟩
 case round =>
  revert wr;intro wz hrel;obtain⟨b,B,m,rfl,hbk,uW,hkz,HB,HF⟩:=hrel;have dY:aj wz w.heap.size _ 26:=eG kA1 hkz (by show w.heap.size<W.heap.size;omega);have z2:wz.cell? ⟨w.heap.size,2,none⟩=some (.slice pa P.length pc):=dY.cell 2;cases b with
  | true =>
   obtain⟨K0,jV⟩:∃ K0,Hid (K0=gk):=⟨gk,rfl⟩;have hk2:n*nT-Lx.tot B+1<=K0:=by rw[jV.out];exact hbk rfl
   have htl:∀ {C:List (List Bool)} {x:World},BB x gO nT gs C->Lx.tot C<=n*nT:=fun hC=>by
    have:=LP hC.rl;rw[hC.len,hgl]at this;exact this
   clear hbk HF;have H0:Hid (iJ P E B=iJ (P.drop 0) E B):=rfl;go_wp2_with fail
   go_loopg [6,21] P.length (fun k v i wr=>∃ (j:Nat) (b:Bool) (C:List (List Bool)),j+k=P.length/\v=.bool b/\i=.int .i64 j/\BB wr gO nT gs C/\Kp (fun g=>g<W.heap.size) w1 wr/\Hid ((b=false->C=B)/\(b=true->Lx.tot B<Lx.tot C)/\Lx.tot B<=Lx.tot C)/\Hid (iJ P E B=iJ (P.drop j) E C))
   case atStart=>exact⟨0,false,B,by omega,rfl,rfl,uW,hkz,⟨fun _=>rfl,(fun h=>by cases h),lr0⟩,H0⟩
   case round =>
    clear H0 uW hkz dY z2;revert wr;intro wy hrel;obtain⟨j,b,C,hkj,rfl,rfl,hC,hky,HC,HP⟩:=hrel;have hsy:=hky.size;have hby:Below w.heap.size w wy:=⟨hky.os.trans dV.os,hky.tape.trans dV.tape,hky.output.trans dV.output,Nat.le_trans dV.size hky.size,fun x hx=>(hky.block x (by show x<W.heap.size;omega)).trans (dV.block x hx)⟩
    by_cases hlt:j<P.length
    ·obtain⟨g,cap,u,hv,hu0,x0',x1',x2'⟩:=hP.at hlt
     cases hv;have hu:IR 0 wy u P[j].right:=own_below hu0 hby;have x0:=cell_below hby x0';have x1:=cell_below hby x1';have x2:=cell_below hby x2';clear x0' x1' x2';obtain⟨hleft,hright⟩:=hok P[j] (List.getElem_mem hlt);have hrl:=hpr P[j] (List.getElem_mem hlt);have hd:=HP.out;rw[List.drop_eq_getElem_cons hlt,show iJ (P[j]::P.drop (j+1)) E C=iJ (P.drop (j+1)) E (QU E C P[j]) from rfl]at hd;generalize P[j]=pd at hu hu0 x0 x1 x2 hleft hright hd hrl;obtain⟨pl,pr,pp⟩:=pd;simp only at hu hu0 x0 x1 x2 hleft hright hrl;obtain⟨ua,uc,rfl,-⟩:=aI hu;obtain⟨W1,hW1⟩:∃ W1,W1=wy.alloc (.cells #[.int .i64 (pl:Int),.slice ua pr.length uc,.int .i64 pp] 58):=⟨_,rfl⟩;have jJ:Below wy.heap.size wy W1.drew:=by rw[hW1];exact ((Below.refl _ _).alloc (lr0) _).drew
     have hsA:W1.heap.size=wy.heap.size+1:=by rw[hW1];simp
     have kp:aj W1.drew wy.heap.size #[.int .i64 (pl:Int),.slice ua pr.length uc,.int .i64 pp] 58:=by rw[hW1];exact (aj.new wy _ 58).drew
     have kEA:aj W1.drew gE (aL E) 4:=(jJ.block _ (by have:=hby.size;omega)).trans ((hby.block _ lE).trans kE);have TU:BB W1.drew gO nT gs C:=hC.move fun x hx=>jJ.block x hx
     have Bo:Kp (fun g=>g<W.heap.size) w1 W1.drew:=hky.trans (Kp.below jJ (D:=fun g=>g<wy.heap.size) fun g hg=>hg) fun g hg=>by show g<wy.heap.size;omega
     have p1:W1.drew.cell? ⟨wy.heap.size,1,none⟩=some (.slice ua pr.length uc):=kp.cell 1;have huA:IR 0 W1.drew (.slice ua pr.length uc) pr:=own_below hu jJ;have q1:=UY huA kEA (fun s hs=>by rw[hE];exact hright s hs);rw[hE]at q1;have IB:=KW E pr;have HST:Hid (QU E C ⟨pl,pr,pp⟩=(pr.take (min (jQ E pr+1) pr.length)).foldl (rM pl) C):=rfl;obtain⟨cn,hcn⟩:∃ cn,cn=min (jQ E pr+1) pr.length:=⟨_,rfl⟩;rw[<-hcn]at HST;have JE:Hid (cn=min (jQ E pr+1) pr.length):=hcn;have hcl:cn<=pr.length:=by omega
     generalize jQ E pr=an at q1 IB JE hcn;clear hcn;go_wp2_with fail;rw[<-hW1];clear hW1 x0 x1 x2
     go_region_held3 (fun w'=>w'.cell? ⟨wy.heap.size,1,none⟩=some (.slice ua pr.length uc)) (first | go_keep | assumption) ((go_at_call 71;refine q1.mono ?_;rintro e w5 ⟨rfl,oP⟩;subst oP))
     have hmin:min (IntKind.i64.wrap ((an:Int)+1)) (pr.length:Int)=(cn:Int):=by
      rw[show ((an:Int)+1)=((an+1:Nat):Int) from by omega,wrap64 (by omega),JE.out];omega
     rw[hmin];clear hmin q1;rw[HST.out]at hd;have akN:Hid (∀ s∈pr.take cn,s<n):=fun s hs=>hright s (List.mem_of_mem_take hs)
     have hcap:=Zq huA;have c0:(0:Int)<=(cn:Int):=by omega
     have c1:(cn:Int)<=(uc:Int):=by omega
     have hlen:(pr.take cn).length=cn:=by rw[List.length_take];omega
     have hgy:∀ x∈gs,x<wy.heap.size:=fun x hx=>by
      obtain⟨i,hi,rfl⟩:=List.getElem_of_mem hx;exact (hC.rows i hi (by rw[hC.len];exact hi)).lt
     have H3:Hid (iJ P E B=iJ (P.drop (j+1)) E (((pr.take cn).drop 0).foldl (rM pl) C)):=hd;have HU:Hid (∀ {x:World},Kp (fun g=>g<W.heap.size\/g=wy.heap.size) W1.drew x->IR 0 x (.slice ua pr.length uc) pr):=fun hx=>aD huA fun g hg=>hx.block g (.inl (by have:=(hu0.lt g hg).2;omega))
     clear hd HP;rcases huA.2 with ⟨e1,e2⟩ | ⟨gR,MC,am9,pR,-,hhR,hx1,hx2,hx3,hx4⟩
     ·have akO:cn=0:=by omega
      subst akO;have H4:Hid (iJ P E B=iJ (P.drop (j+1)) E C):=by show _=_;have:=H3.out;simpa using this
      simp only[Value.slice.injEq]at e1;obtain⟨rfl,-,rfl⟩:=e1;have akP:pr=[]:=List.eq_nil_of_length_eq_zero e2;subst akP;clear H3 HST JE e2 hlen akN HU;go_wp2_with fail
      go_loopg [6,39] 0 (fun k v i wr=>k=0/\v=.bool b/\i=.int .i64 0/\wr=W1.drew)
      case atStart=>exact⟨rfl,rfl,rfl,rfl⟩
      case round =>
       obtain⟨rfl,rfl,rfl,rfl⟩:=hrel;go_wp2_with fail;go_roundg (P.length - (j+1))
       case measure=>omega
       case rel=>exact⟨j+1,b,C,by omega,rfl,by go_num,TU,Bo,HC,H4⟩
     ·cases pR
      clear hx4 hx3 hhR hx2 hx1;go_wp2_with fail
      go_loopg [6,39] cn (fun k v i wr=>∃ (q:Nat) (b2:Bool) (C2:List (List Bool)),q+k=cn/\v=.bool b2/\i=.int .i64 q/\BB wr gO nT gs C2/\Kp (fun g=>g<W.heap.size\/g=wy.heap.size) W1.drew wr/\Hid ((b2=false->C2=B)/\(b2=true->Lx.tot B<Lx.tot C2)/\Lx.tot B<=Lx.tot C2)/\Hid (iJ P E B=iJ (P.drop (j+1)) E (((pr.take cn).drop q).foldl (rM pl) C2)))
      case atStart=>exact⟨0,b,C,by omega,rfl,rfl,TU,Kp.refl _ _,HC,H3⟩
      case round =>
       clear H3 TU p1 kEA;obtain⟨q,b2,C2,hkq,rfl,rfl,hC2,hkr,tV,H3⟩:=hrel
       by_cases vV:q<cn
       ·have hur:=HU.out hkr
        obtain⟨gR',aj2,akQ,-,cq⟩:=hur.at (j:=q) (by omega);cases akQ;have h3:=H3.out;have hqx:q<(pr.take cn).length:=by rw[hlen];exact vV
        have hdr:(pr.take cn).drop q=(pr.take cn)[q]::(pr.take cn).drop (q+1):=List.drop_eq_getElem_cons hqx;rw[hdr,List.foldl_cons,List.getElem_take]at h3;have hsn:=hright pr[q] (List.getElem_mem (by omega));generalize pr[q]=sy at cq h3 hsn;obtain⟨o1,o2,o3⟩:=hC2.at (i:=pl) (by omega);obtain⟨y1,y2,y3⟩:=hC2.at (i:=sy) (by omega);have kpr:aj wr wy.heap.size #[.int .i64 (pl:Int),.slice (some ⟨gR,0,none⟩) pr.length uc,.int .i64 pp] 58:=eG kp hkr (.inr rfl);have dp:wr.drew.cell? ⟨wy.heap.size,0,none⟩=some (.int .i64 (pl:Int)):=kpr.drew.cell 0;have NR:wr.drew.cell? ⟨gO,pl,none⟩=some (.slice (some ⟨gs[pl]'(by omega),0,none⟩) nT nT):=o1;have NS:wr.drew.cell? ⟨gO,sy,none⟩=some (.slice (some ⟨gs[sy]'(by omega),0,none⟩) nT nT):=y1;have i1:(0:Int)<=(pl:Int):=by omega
        have i2:(pl:Int)<(n:Int):=by omega
        have i3:(0:Int)<=(sy:Int):=by omega
        have i4:(sy:Int)<(n:Int):=by omega
        have FY:C2.length=n:=by rw[hC2.len];exact hgl
        have hCd:BB wr.drew gO nT gs C2:=hC2.move fun _ _=>rfl
        by_cases hps:sy=pl
        ·subst hps
         have hjs:rM sy C2 sy=C2:=by
          unfold rM;rw[aiy,yI (by omega)];exact List.set_getElem_self _
         rw[hjs]at h3;have H4:Hid (iJ P E B=iJ (P.drop (j+1)) E (((pr.take cn).drop (q+1)).foldl (rM sy) C2)):=h3;have q1:=join_self (w:=wr.drew) (o2.drew) o3 JJ;have hkd:Kp (fun g=>g<W.heap.size\/g=wy.heap.size) W1.drew wr.drew:=⟨hkr.os,hkr.tape,hkr.output,hkr.size,hkr.block⟩;generalize gs[sy]'(by omega)=ga at NR NS q1;clear h3 H3 hjs hdr o1 y1 o2 y2;go_wp2_with fail
         go_region_held3 (fun w'=>w'.cell? ⟨wy.heap.size,0,none⟩=some (.int .i64 (sy:Int))/\w'.cell? ⟨gO,sy,none⟩=some (.slice (some ⟨ga,0,none⟩) nT nT)) (first | go_keep | assumption) ((go_at_call 73;refine q1.mono ?_;rintro e w5 ⟨rfl,oP⟩;subst oP))
         all_goals
          go_wp2_with fail;go_roundg (cn - (q+1))
          case measure=>omega
          case rel=>exact⟨q+1,b2,C2,by omega,rfl,by go_num,hCd,hkd,tV,H4⟩
        ·have abe:gs[pl]'(by omega)≠gs[sy]'(by omega):=fun e=>hps ((List.getElem_inj hC2.nd).1 e).symm
         have H4:Hid (iJ P E B=iJ (P.drop (j+1)) E (((pr.take cn).drop (q+1)).foldl (rM pl) (rM pl C2 sy))):=h3;have q1:=aiz (w:=wr.drew) abe (o2.drew) (y2.drew) o3 y3 JJ;have hts:=Qu (B:=C2) (l:=pl) (C:=pX (Lx.rowAt C2 pl) (Lx.rowAt C2 sy)) (by omega);rw[<-yI (B:=C2) (i:=pl) (by omega)]at hts;have hgm:=List.getElem_mem (l:=gs) (n:=pl) (by omega);have hgW:=hgs _ hgm;have ana:=hgy _ hgm;have HJ:Hid (∀ {x:World},mE wr.drew (gs[pl]'(by omega)) (Lx.rowAt C2 pl) (pX (Lx.rowAt C2 pl) (Lx.rowAt C2 sy)) x->BB x gO nT gs (rM pl C2 sy)):=fun hx=>hCd.join (by omega) hx (by rw[ajn];exact o3)
         have HT:Hid (Lx.tot (rM pl C2 sy)+bB (Lx.rowAt C2 pl)=Lx.tot C2+bB (pX (Lx.rowAt C2 pl) (Lx.rowAt C2 sy))):=hts;have Nb:Hid (pX (Lx.rowAt C2 pl) (Lx.rowAt C2 sy)=Lx.rowAt C2 pl->rM pl C2 sy=C2):=fun he=>by
          unfold rM;rw[he,yI (by omega)];exact List.set_getElem_self _
         have hsg:gs[pl]'(by omega)≠wy.heap.size:=by omega
         have NQ:gO≠gs[pl]'(by omega):=fun e=>hC2.no (e ▸ hgm)
         generalize gs[pl]'(by omega)=ga at NR q1 hgW hsg HJ NQ;generalize gs[sy]'(by omega)=gb at NS q1;clear h3 H3 hdr o1 y1 o2 y2 abe hgm hts;go_wp2_with fail
         go_region_held3 (fun w'=>w'.cell? ⟨wy.heap.size,0,none⟩=some (.int .i64 (pl:Int))/\w'.cell? ⟨gO,pl,none⟩=some (.slice (some ⟨ga,0,none⟩) nT nT)/\w'.cell? ⟨gO,sy,none⟩=some (.slice (some ⟨gb,0,none⟩) nT nT)) (first | go_keep | assumption) ((go_at_call 73;refine q1.mono ?_;rintro e w5 ⟨b3,rfl,RQ,RU,zM⟩;have S5:w5.cell? ⟨wy.heap.size,0,none⟩=some (.int .i64 (pl:Int))/\w5.cell? ⟨gO,pl,none⟩=some (.slice (some ⟨ga,0,none⟩) nT nT)/\w5.cell? ⟨gO,sy,none⟩=some (.slice (some ⟨gb,0,none⟩) nT nT):=⟨(World.cell?_of_block (w:=wr.drew) (zM.wR _ (fun e=>hsg e.symm))).trans dp,(World.cell?_of_block (w:=wr.drew) (zM.wR _ NQ)).trans NR,(World.cell?_of_block (w:=wr.drew) (zM.wR _ NQ)).trans NS⟩))
         all_goals
          have DU:=HJ.out zM;have hk5:Kp (fun g=>g<W.heap.size\/g=wy.heap.size) W1.drew w5:=⟨zM.os.trans hkr.os,zM.tape.trans hkr.tape,zM.output.trans hkr.output,by rw[zM.size];exact hkr.size,fun x hx=>(zM.wR x (by rcases hx with hx | hx <;> omega)).trans (hkr.block x hx)⟩;clear S5 q1 dp NR NS;cases b3 with
          | true =>
           have RD:=RQ rfl;have pW:Hid (Lx.tot B<Lx.tot (rM pl C2 sy)):=by have:=HT.out;have:=tV.out.2.2;show _<_;omega
           clear RQ RU RD;go_wp2_with fail;go_roundg (cn - (q+1))
           case measure=>omega
           case rel=>exact⟨q+1,true,_,by omega,rfl,by go_num,DU,hk5,⟨(fun h=>by cases h),fun _=>pW.out,Nat.le_of_lt pW.out⟩,H4⟩
          | false =>
           have he:=Nb.out (RU rfl);rw[he]at DU H4;clear RQ RU he;go_wp2_with fail;go_roundg (cn - (q+1))
           case measure=>omega
           case rel=>exact⟨q+1,b2,C2,by omega,rfl,by go_num,DU,hk5,tV,H4⟩
       ·have:q=cn:=by omega
        subst this;have H4:Hid (iJ P E B=iJ (P.drop (j+1)) E C2):=by
         show _=_;have:=H3.out;rw[show (pr.take q).drop q=[] from List.drop_eq_nil_of_le (by rw[hlen];exact lr0)]at this;exact this
        have hk5:Kp (fun g=>g<W.heap.size) w1 wr:=Bo.trans hkr fun g hg=>.inl hg
        clear H3 HU;go_wp2_with fail;go_roundg (P.length - (j+1))
        case measure=>omega
        case rel=>exact⟨j+1,b2,C2,by omega,rfl,by go_num,hC2,hk5,tV,H4⟩
    ·have:j=P.length:=by omega
     subst this;have hd:=HP.out;rw[List.drop_length]at hd;have xQ:Hid (iJ P E B=C):=hd;have hcF:=htl hC;have HE2:Hid (C=gq (iJ P E) (m+1) (Lx.alone nT n)):=by
      show C=iJ P E (gq (iJ P E) m (Lx.alone nT n));rw[<-HB.out];exact xQ.out.symm
     have TS:Hid (b=false->iJ P E C=C):=fun hb=>by
      have h1:=HC.out.1 hb;rw[h1];have:=xQ.out;rw[h1]at this;exact this
     have TT:Hid (b=true->n*nT-Lx.tot C+1<=K0-1):=fun hb=>by
      have:=HC.out.2.1 hb;omega
     clear HC HP hd htl;go_wp2_with fail;go_roundg (K0-1)
     case measure=>have:=jV.out;omega
     case rel=>exact⟨b,C,m+1,rfl,TT.out,hC,hky,HE2,TS⟩
  | false =>
   have AX:Hid (iJ P E B=B):=HF.out rfl;have hmk:=fun w=>agw hbd w
   have hbz:Below w.heap.size w wz:=⟨hkz.os.trans dV.os,hkz.tape.trans dV.tape,hkz.output.trans dV.output,Nat.le_trans dV.size hkz.size,fun x hx=>(hkz.block x (by show x<W.heap.size;omega)).trans (dV.block x hx)⟩;have hszz:=hbz.size;obtain⟨W3,hW3⟩:∃ W3,W3=wz.alloc (.cells (vA (List.replicate n (Value.slice none 0 0))) 24):=⟨_,rfl⟩;have hb3:Below wz.heap.size wz W3:=by rw[hW3];exact (Below.refl _ _).alloc (lr0) _
   have hs3:W3.heap.size=wz.heap.size+1:=by rw[hW3];simp
   have kL:aj W3 wz.heap.size (vA (List.replicate n (Value.slice none 0 0))) 24:=by rw[hW3];exact aj.new wz _ 24
   have hB3:BB W3 gO nT gs B:=uW.move fun x hx=>hb3.block x hx
   clear hbk HF z2 dY;go_wp2_with fail;rw[<-hW3];clear hW3 hmk
   go_loopg [60] n (fun k i wr=>∃ (j:Nat) (us:List Value),j+k=n/\i=.int .i64 j/\us.length=j/\aj wr wz.heap.size (vA (us++List.replicate (n-j) (Value.slice none 0 0))) 24/\(∀ x (hx:x<us.length),IR w.heap.size wr us[x] (mg (Lx.rowAt B x))/\us[x].ownBlock≠some wz.heap.size)/\Hid (us.Pairwise fun a b=>∀ g,a.ownBlock=some g->b.ownBlock≠some g)/\Kp (fun g=>g<W3.heap.size/\g≠wz.heap.size) W3 wr)
   case atStart=>exact⟨0,[],by omega,rfl,rfl,by simpa using kL,(fun x hx=>absurd hx (by simp)),List.Pairwise.nil,Kp.refl _ _⟩
   case round =>
    obtain⟨j,us,hkj,rfl,Bt,hL,tO,HPW,hkr⟩:=hrel;have hsr:=hkr.size
    by_cases hlt:j<n
    ·have hBr:BB wr gO nT gs B:=by
      have hkk:∀ x,x<wz.heap.size->wr.heap[x]?=wz.heap[x]?:=fun x hx=>(hkr.block x ⟨by omega,by omega⟩).trans (hb3.block x hx)
      exact uW.move hkk
     obtain⟨o1,o2,o3⟩:=hBr.at (i:=j) (by omega);have q1:=afN (w:=wr) o2 o3 JJ;have lL:=hL.lt;have cL:wr.cell? ⟨wz.heap.size,j,none⟩=some (.slice none 0 0):=by
      rw[hL.cell j,QJ,List.getElem?_append_right (by omega),Bt,Nat.sub_self,List.getElem?_replicate,if_pos (by omega)]
     have i1:(0:Int)<=(j:Int):=by omega
     have i2:(j:Int)<(n:Int):=by omega
     generalize gs[j]'(by omega)=ga at o1 q1;have hset:∀ u:Value,(us++List.replicate (n-j) (Value.slice none 0 0)).set j u=(us++[u])++List.replicate (n - (j+1)) (Value.slice none 0 0):=fun u=>by
      rw[List.set_append_right _ _ (by omega),show n-j=n - (j+1)+1 by omega,List.replicate_succ,Bt];simp
     have akR:Hid _:=hset;clear hset o2;go_wp2_with fail;refine q1.mono ?_;rintro e w5 ⟨u,rfl,hu,hb5⟩;obtain⟨ua,uc,rfl,-⟩:=aI hu;have hL5:aj w5 wz.heap.size _ 24:=(hb5.block _ lL).trans hL;have c5:w5.cell? ⟨wz.heap.size,j,none⟩=some (.slice none 0 0):=cell_below hb5 cL;have f5:∀ i,w5.frozen? ⟨wz.heap.size,i,none⟩=false:=hL5.frozen;have hL6:=hL5.set j (.slice ua (mg (Lx.rowAt B j)).length uc);rw[ZU,akR.out]at hL6;have abf:∀ x (hx:x<(us++[Value.slice ua (mg (Lx.rowAt B j)).length uc]).length),IR w.heap.size (w5.setCell ⟨wz.heap.size,j,none⟩ (.slice ua (mg (Lx.rowAt B j)).length uc)) (us++[Value.slice ua (mg (Lx.rowAt B j)).length uc])[x] (mg (Lx.rowAt B x))/\(us++[Value.slice ua (mg (Lx.rowAt B j)).length uc])[x].ownBlock≠some wz.heap.size:=by
      intro x hx;rw[List.length_append,List.length_singleton]at hx
      by_cases hxu:x<us.length
      ·rw[List.getElem_append_left hxu]
       have h1:=tO x hxu;exact⟨aD (own_below h1.1 hb5) fun g hg=>hs0 (fun e=>h1.2 (by rw[hg];exact congrArg some e)),h1.2⟩
      ·have:x=us.length:=by omega
       subst this;rw[List.getElem_append_right (lr0)];simp only[Nat.sub_self,List.getElem_cons_zero];rw[Bt];have hnl:(Value.slice ua (mg (Lx.rowAt B j)).length uc).ownBlock≠some wz.heap.size:=fun e=>by have:=(hu.lt _ e).1;omega
       exact⟨dO (aD hu fun g hg=>hs0 (fun e=>hnl (by rw[hg];exact congrArg some e))) (by omega),hnl⟩
     have zH:Kp (fun g=>g<W3.heap.size/\g≠wz.heap.size) W3 (w5.setCell ⟨wz.heap.size,j,none⟩ (.slice ua (mg (Lx.rowAt B j)).length uc)):=⟨hb5.os.trans hkr.os,hb5.tape.trans hkr.tape,hb5.output.trans hkr.output,by have:=hb5.size;simp[World.setCell];omega,fun x hx=>(hs0 hx.2).trans ((hb5.block x (by omega)).trans (hkr.block x hx))⟩;have xY:Hid ((us++[Value.slice ua (mg (Lx.rowAt B j)).length uc]).Pairwise fun a b=>∀ g,a.ownBlock=some g->b.ownBlock≠some g):=List.pairwise_append.2 ⟨HPW.out,List.pairwise_singleton _ _,fun a ha b hb g hg e=>by
      rw[List.mem_singleton]at hb;subst hb;obtain⟨x,hx,rfl⟩:=List.getElem_of_mem ha;have h1:=((tO x hx).1.lt g hg).2;have h2:=(hu.lt g e).1;omega⟩
     have HL6:Hid _:=hL6;have HU6:Hid _:=abf;clear hL6 abf tO hL hL5 q1 cL o1;go_wp2_with fail;go_roundg (n - (j+1))
     case measure=>omega
     case rel=>exact⟨j+1,_,by omega,by go_num,by rw[List.length_append,List.length_singleton];omega,HL6.out,HU6.out,xY,zH⟩
    ·have:j=n:=by omega
     subst this;have hlB:B.length=j:=by rw[uW.len];exact hgl
     have hpt:FX w.heap.size wr (.slice (some ⟨wz.heap.size,0,none⟩) j j) (B.map mg):=by
      have amK:us.length=(B.map mg).length:=by rw[List.length_map];omega
      have hL':aj wr wz.heap.size (vA us) 24:=by simpa using hL
      refine⟨us.zip (B.map mg),⟨List.map_snd_zip (by omega),?_,?_,?_⟩,?_⟩
      ·rw[List.map_fst_zip (by omega),List.length_map,hlB]
       refine⟨by rw[Bt];simp,.inr ⟨wz.heap.size,j,vA us,rfl,by omega,hL',lr0,by unfold maxLen;omega,by simp[vA,Bt],?_⟩⟩;unfold vA;rw[Nat.mul_one,<-Bt];exact List.take_length
      ·intro q hq
       obtain⟨x,hx,rfl⟩:=List.getElem_of_mem hq;rw[List.length_zip]at hx;rw[List.getElem_zip,List.getElem_map];have h1:=tO x (by omega);rw[yI (by omega)]at h1;exact h1.1
      ·intro q hq g hg e
       obtain⟨x,hx,rfl⟩:=List.getElem_of_mem hq;rw[List.length_zip]at hx;rw[List.getElem_zip]at hg;have e1:wz.heap.size=g:=by simpa [Value.ownBlock]using e
       exact (tO x (by omega)).2 (by rw[e1];exact hg)
      ·rw[List.pairwise_iff_getElem]
       intro x y hx hy hxy g hg;rw[List.length_zip]at hx hy;rw[List.getElem_zip]at hg |-;exact List.pairwise_iff_getElem.1 HPW.out x y (by omega) (by omega) hxy g hg
     have hbf:Below w.heap.size w wr:=⟨hkr.os.trans (hb3.os.trans hbz.os),hkr.tape.trans (hb3.tape.trans hbz.tape),hkr.output.trans (hb3.output.trans hbz.output),by omega,fun x hx=>(hkr.block x ⟨by omega,by omega⟩).trans ((hb3.block x (by omega)).trans (hbz.block x hx))⟩;have Jp:Hid _:=hpt;clear hpt tO hL;go_wp2_with fail;go_ret;exact⟨_,B,m,rfl,HB.out,AX.out,Jp.out,hbf⟩
namespace Lx
def dw (s:ByteArray):Except (Nat × Nat) Gr :=
 match parse s with
 | .error e=>.error e
 | .ok g=>if (dF g).1=0 then (if 200<(aU g).length then .error (8,0) else .ok g) else .error (dF g)
theorem LA {s:ByteArray}{e:Nat × Nat}(h:parse s=.error e):dw s=.error e:=by unfold dw;rw[h]
theorem LB {s:ByteArray}{g:Gr}(h:parse s=.ok g)(hc:(dF g).1≠0):dw s=.error (dF g):=by unfold dw;rw[h];exact if_neg hc
theorem Lc {s:ByteArray}{g:Gr}(h:parse s=.ok g)(hc:(dF g).1=0)(hm:200<(aU g).length):dw s=.error (8,0):=by unfold dw;rw[h];exact (if_pos hc).trans (if_pos hm)
theorem LQ {s:ByteArray}{g:Gr}(h:parse s=.ok g)(hc:(dF g).1=0)(hm:¬ 200<(aU g).length):dw s=.ok g:=by unfold dw;rw[h];exact (if_pos hc).trans (if_neg hm)
theorem P7 {g:Gr}(h:(dF g).1=0):pu g=none/\qp g=none:=by
 unfold dF at h;cases h1:pu g with
 | some p=>rw[h1]at h;exact absurd h (by simp[iL])
 | none =>
  rw[h1]at h;cases h2:qp g with
  | some p=>rw[h2]at h;exact absurd h (by simp[iL])
  | none=>exact⟨rfl,rfl⟩
theorem afO (g:Gr):(iC g).length<=xD g.levels:=by
 have:=O4 g;unfold iD eX at this;rw[List.length_map]at this;exact this
theorem aiA (aO:ByteArray)(il:Bool)(t:Tk)(nx:ByteArray):(qN aO il t nx).length<=1:=by
 unfold qN
 split
 ·simp
 ·split <;> simp
theorem ZX:∀ (ts:List Tk) (aO:ByteArray) (il:Bool),(wl aO il ts).length<=ts.length
 | [],_,_=>lr0
 | t::ts,aO,il=>by
  rw[wl,List.length_append,List.length_cons];have h1:=aiA aO il t (hd ts);have h2:=ZX ts t.1 (xw il t);omega
theorem aiB {s:ByteArray}{g:Gr}(h:parse s=.ok g)(hs:s.size<=2000):(iO g).length<=100000:=by
 rw[<-OT h];have h1:=ZX (lex s) aM true;have h2:(lex s).length<=2001:=by have:=GL s (aW s 0 false);unfold lex;omega
 omega
theorem agx {s:ByteArray}{g:Gr}(h:parse s=.ok g):s.size<=2000:=by
 unfold parse at h
 split at h
 ·cases h
 ·omega
end Lx
def vJ:Value:=.agg #[.slice none 0 0,.slice none 0 0,.slice none 0 0,.slice none 0 0,.slice none 0 0]
def aiC (s:ByteArray)(w:World)(e:Ending)(w':World):Prop :=
 ∃ v,∃ n a:Nat,e=.returned (.tuple #[v,.int .i64 (n:Int),.int .i64 (a:Int)])/\Below w.heap.size w w'/\(∀ g,dw s=.ok g->n=0/\a=0/\PlP w' v (aA g) (aN g) (aU g) ((aA g).map fun t=>(dP g t).1) ((aA g).map fun t=>(dP g t).2))/\(∀ x,dw s=.error x->n=x.1/\a=x.2/\v=vJ)
def EX (s:ByteArray)(w:World)(e:Ending)(w':World):Prop :=
 ∃ v,∃ n a:Nat,e=.returned (.tuple #[v,.int .i64 (n:Int),.int .i64 (a:Int)])/\Below w.heap.size w w'/\(∀ g,dw s=.ok g->n=0/\a=0/\vX w.heap.size w' v (aA g) (aN g) (aU g) ((aA g).map fun t=>(dP g t).1) ((aA g).map fun t=>(dP g t).2))/\(∀ x,dw s=.error x->n=x.1/\a=x.2/\v=vJ)
theorem EX.no {s:ByteArray}{w w':World}{n a:Nat}(h:dw s=.error (n,a))(hb:Below w.heap.size w w'):EX s w (.returned (.tuple #[vJ,.int .i64 (n:Int),.int .i64 (a:Int)])) w' :=
 ⟨_,n,a,rfl,hb,(fun g hg=>by rw[h]at hg;cases hg),(fun x hx=>by rw[h]at hx;cases hx;exact⟨rfl,rfl,rfl⟩)⟩
theorem Ld {w:World}{r t:Nat}{x0 x1 x2 x3 x4 y0 y1 y2 y3 y4:Value}(h:aj w r #[y0,y1,y2,y3,y4] t):aj (((((w.setCell ⟨r,0,none⟩ x0).setCell ⟨r,1,none⟩ x1).setCell ⟨r,2,none⟩ x2).setCell ⟨r,3,none⟩ x3).setCell ⟨r,4,none⟩ x4) r #[x0,x1,x2,x3,x4] t:=((((h.set 0 _).set 1 _).set 2 _).set 3 _).set 4 _
theorem KF {B:Nat}{a w:World}(h:Below B a w){r:Nat}(hr:B<=r)(x0 x1 x2 x3 x4:Value):Below B a (((((w.setCell ⟨r,0,none⟩ x0).setCell ⟨r,1,none⟩ x1).setCell ⟨r,2,none⟩ x2).setCell ⟨r,3,none⟩ x3).setCell ⟨r,4,none⟩ x4) :=
 ((((h.setCell (p:=⟨r,0,none⟩) hr x0).setCell (p:=⟨r,1,none⟩) hr x1).setCell (p:=⟨r,2,none⟩) hr x2).setCell (p:=⟨r,3,none⟩) hr x3).setCell (p:=⟨r,4,none⟩) hr x4
theorem agy (w:World)(r:Nat)(x0 x1 x2 x3 x4:Value)(g:Nat)(hn:g≠r):(((((w.setCell ⟨r,0,none⟩ x0).setCell ⟨r,1,none⟩ x1).setCell ⟨r,2,none⟩ x2).setCell ⟨r,3,none⟩ x3).setCell ⟨r,4,none⟩ x4).heap[g]?=w.heap[g]?:=by
 rw[hs0 hn,hs0 hn,hs0 hn,hs0 hn,hs0 hn]
theorem own_ne {w:World}{B e z:Nat}{v:Value}{n:Nat}{xs:List Value}(h:w.ownsRow B e z v n xs){r t:Nat}{cs:Array Value}(hb:aj w r cs t)(hne:e≠t):∀ g,v.ownBlock=some g->g≠r:=by
 intro g hg e1;obtain⟨cur,hc⟩:=X0 h hg;unfold aj at hb;rw[e1,hb]at hc;cases hc;exact hne rfl
theorem vX.other {B:Nat}{w w':World}{v:Value}{T N:List ByteArray}{P:List Lx.Pd}{Bs Ks:List Nat}(h:vX B w v T N P Bs Ks){r:Nat}{cs:Array Value}(hb:aj w r cs 26)(hk:∀ g,g<w.heap.size->g≠r->w'.heap[g]?=w.heap[g]?):vX B w' v T N P Bs Ks:=by
 obtain⟨vT,vN,vP,vB,vK,rfl,h1,h2,⟨ps,p1,p2,p3,p4⟩,h4,h5,h6⟩:=h;exact⟨vT,vN,vP,vB,vK,rfl,aD h1 fun g hg=>hk g (h1.lt g hg).2 (own_ne h1 hb (by decide) g hg),aD h2 fun g hg=>hk g (h2.lt g hg).2 (own_ne h2 hb (by decide) g hg),⟨ps,p1,aD p2 fun g hg=>hk g (p2.lt g hg).2 (own_ne p2 hb (by decide) g hg),fun q hq=>⟨aD (p3 q hq).1 fun g hg=>hk g ((p3 q hq).1.lt g hg).2 (own_ne (p3 q hq).1 hb (by decide) g hg),(p3 q hq).2⟩,p4⟩,aD h4 fun g hg=>hk g (h4.lt g hg).2 (own_ne h4 hb (by decide) g hg),aD h5 fun g hg=>hk g (h5.lt g hg).2 (own_ne h5 hb (by decide) g hg),h6⟩
theorem vX.mono {B B':Nat}{w:World}{v:Value}{T N:List ByteArray}{P:List Lx.Pd}{Bs Ks:List Nat}(h:vX B w v T N P Bs Ks)(hB:B'<=B):vX B' w v T N P Bs Ks:=by
 obtain⟨vT,vN,vP,vB,vK,h0,h1,h2,⟨ps,p1,p2,p3,p4⟩,h4,h5,h6⟩:=h;exact⟨vT,vN,vP,vB,vK,h0,h1,h2,⟨ps,p1,p2,fun q hq=>⟨(p3 q hq).1,fun g hg=>Nat.le_trans hB ((p3 q hq).2 g hg)⟩,p4⟩,h4,h5,fun g hg=>Nat.le_trans hB (h6 g hg)⟩
theorem aiD (s:ByteArray)(w:World)(hmax:s.size<=maxLen)(ht:nL w):Calls prog 9 #[.string s] w (EX s w):=by
 obtain⟨W,hW⟩:∃ W,W=w.alloc (.cells #[.slice none 0 0,.slice none 0 0,.slice none 0 0,.slice none 0 0,.slice none 0 0] 26):=⟨_,rfl⟩;have hbW:Below w.heap.size w W:=by rw[hW];exact (Below.refl _ _).alloc (lr0) _
 have wL:W.heap.size=w.heap.size+1:=by rw[hW];simp
 have kR:aj W w.heap.size #[.slice none 0 0,.slice none 0 0,.slice none 0 0,.slice none 0 0,.slice none 0 0] 26:=by rw[hW];exact aj.new w _ 26
 have q1:=agR s W hmax;go_enter func9,ntmps9;go_wp2_with fail;rw[<-hW];clear hW;refine q1.mono ?_;rintro e w1 ⟨hb1,hm⟩;clear q1;have dV:Below w.heap.size w w1:=hbW.trans (hb1.mono (by omega));have oo:aj w1 w.heap.size _ 26:=(hb1.block _ (by omega)).trans kR;have hs1:=hb1.size;have lr1:w.heap.size<w1.heap.size:=oo.lt;have r0:w1.cell? ⟨w.heap.size,0,none⟩=some (.slice none 0 0):=oo.cell 0;have r1:w1.cell? ⟨w.heap.size,1,none⟩=some (.slice none 0 0):=oo.cell 1;have r2:w1.cell? ⟨w.heap.size,2,none⟩=some (.slice none 0 0):=oo.cell 2;have r3:w1.cell? ⟨w.heap.size,3,none⟩=some (.slice none 0 0):=oo.cell 3;have r4:w1.cell? ⟨w.heap.size,4,none⟩=some (.slice none 0 0):=oo.cell 4;have rf:∀ i,w1.frozen? ⟨w.heap.size,i,none⟩=false:=oo.frozen;cases hp:Lx.parse s with
 | error x =>
  obtain⟨n,a⟩:=x;rw[hp]at hm;have he:e=.returned (.tuple #[.agg #[.slice none 0 0,.slice none 0 0],.int .i64 (n:Int),.int .i64 (a:Int)]):=hm;subst he;have HE:Hid (dw s=.error (n,a)):=LA hp;have hn0:0<n:=Pb hp;have hnb:((n:Int) != 0)=true:=bne_iff_ne.2 (by omega);have hnd:¬ (n:Int)=0:=by omega
  clear hm hp hn0;go_wp2_with fail;have kF:=(Ld (x0:=.slice none 0 0) (x1:=.slice none 0 0) (x2:=.slice none 0 0) (x3:=.slice none 0 0) (x4:=.slice none 0 0) oo).alloc (.cells #[.slice none 0 0,.slice none 0 0] 65);have s0:=kF.cell 0;have s1:=kF.cell 1;have s2:=kF.cell 2;have s3:=kF.cell 3;have s4:=kF.cell 4;simp at s0 s1 s2 s3 s4;exact bodyPost_ret (v:=.tuple #[vJ,.int .i64 (n:Int),.int .i64 (a:Int)]) (by simp[vJ,results,results9,go_sem,s0,s1,s2,s3,s4]) rfl (EX.no HE.out ((KF dV (lr0) _ _ _ _ _).alloc (by simp;omega) _))
 | ok g =>
  rw[hp]at hm;obtain⟨vl,vr,rfl,hg⟩:=hm;obtain⟨la,lc,rfl,-⟩:=Seq.len hg.1;obtain⟨ra,rc,rfl,-⟩:=(mH.len (F:=In W.heap.size w1.heap.size) (w:=w1) ⟨fun b hb=>hb.2,eO.weak hg.2 fun A v x hA hk=>fD.weak hA hk⟩);have hss:=agx hp;obtain⟨W1,hW1⟩:∃ W1,W1=w1.alloc (.cells #[.slice la g.levels.length lc,.slice ra g.rules.length rc] 65):=⟨_,rfl⟩;have jJ:Below w1.heap.size w1 W1:=by rw[hW1];exact (Below.refl _ _).alloc (lr0) _
  have hsA:W1.heap.size=w1.heap.size+1:=by rw[hW1];simp
  have kB:aj W1 w1.heap.size #[.slice la g.levels.length lc,.slice ra g.rules.length rc] 65:=by rw[hW1];exact aj.new w1 _ 65
  have q2:=afE s W1 hss;go_wp2_with fail;rw[<-hW1];clear hW1;refine q2.mono ?_;rintro e w2 ⟨vW,rfl,oW,hb2⟩;clear q2;rw[OT hp]at oW;have wP:WR w2 vW (iO g):=dO oW (Nat.zero_le _);obtain⟨wa,wc,rfl,-⟩:=wP.len;have qA:Below w1.heap.size w1 w2:=jJ.trans (hb2.mono (by omega));have hs2:=hb2.size;have hgm:∀ {w':World},Below w1.heap.size w1 w'->Al (In W.heap.size w1.heap.size) w' (.slice la g.levels.length lc) (.slice ra g.rules.length rc) g:=fun hb=>hg.move (fun b hbb=>hb.block b hbb.2) (fun _ h=>h)
  have hpg:∀ {w':World},Below w1.heap.size w1 w'->mH (In W.heap.size w1.heap.size) w' (.slice ra g.rules.length rc) g.rules:=fun hb=>⟨fun b hbb=>Nat.lt_of_lt_of_le hbb.2 hb.size,eO.weak (hgm hb).2 fun A v x hA hk=>fD.weak hA hk⟩
  have q3:=aeK hp (hpg qA) wP;have kB2:aj w2 w1.heap.size #[.slice la g.levels.length lc,.slice ra g.rules.length rc] 65:=(hb2.block _ (by omega)).trans kB;have g1:w2.cell? ⟨w1.heap.size,1,none⟩=some (.slice ra g.rules.length rc):=kB2.cell 1;go_wp2_with fail;refine q3.mono ?_;rintro e w3 ⟨rfl,hb3⟩;clear q3 g1;have hs3:=hb3.size;have yU:Below w1.heap.size w1 w3:=qA.trans (hb3.mono qA.size);have tq:Below w.heap.size w w3:=dV.trans (yU.mono (by omega));have iK:aj w3 w.heap.size _ 26:=(yU.block _ lr1).trans oo;have kB3:aj w3 w1.heap.size #[.slice la g.levels.length lc,.slice ra g.rules.length rc] 65:=(hb3.block _ (by omega)).trans kB2;clear r0 r1 r2 r3 r4 rf
  by_cases hc:(dF g).1=0
  ·have h6:=P7 hc
   obtain⟨h1,h2,h3⟩:=Ca hp;obtain⟨h4,h5⟩:=Ku hp;have hfit:Lx.Fit g:=by
    refine⟨h1,h2,h3,fun r hr=>?_,h4,h5,h6.2,h6.1⟩;obtain⟨i,hi,rfl⟩:=List.mem_iff_getElem.1 hr;obtain⟨_,_,_,-,-,hA,-⟩:=(hpg yU).at hi;exact Pk hA
   have q4:=afM hp hfit (hgm yU) (fun b hbb=>Nat.lt_of_lt_of_le hbb.2 yU.size) (wP.below hb3) (ht.move (tq.block _ ht.lt)) (aiB hp hss);have hcb:(((dF g).1:Int) != 0)=false:=by simp[hc]
   have hcn:((dF g).1:Int)=0:=by omega
   have HC:Hid ((dF g).1=0):=hc;have HM:Hid (200<(aU g).length->dw s=.error (8,0)):=fun hm=>Lc hp hc hm
   have HO:Hid (¬ 200<(aU g).length->dw s=.ok g):=fun hm=>LQ hp hc hm
   have g0:w3.cell? ⟨w1.heap.size,0,none⟩=some (.slice la g.levels.length lc):=kB3.cell 0;have g1:w3.cell? ⟨w1.heap.size,1,none⟩=some (.slice ra g.rules.length rc):=kB3.cell 1;clear hc h6 h1 h2 h3 h4 h5;generalize dF g=cr at hcb hcn HC;go_wp2_with fail;refine q4.mono ?_;rintro e w4 ⟨v,rfl,l8,hb4⟩
   replace l8:=l8.mono (B':=w.heap.size) (by have:=tq.size;first | omega | (simp;omega))
   clear q4 g0 g1;obtain⟨vT,vN,vP,vB,vK,rfl,oT,oN,om,oB,oK,-⟩:=id l8;obtain⟨ps,p1,p2,-⟩:=id om;obtain⟨ta,tc,rfl,-⟩:=aI oT;obtain⟨na,nc,rfl,-⟩:=aI oN;obtain⟨pa,pc,rfl,hpm⟩:=aI p2;obtain⟨ba,bc,rfl,-⟩:=aI oB;obtain⟨ka,kc,rfl,-⟩:=aI oK;clear oT oN oB oK p1 p2 om;generalize ((aA g).map fun t=>(dP g t).1).length=nB at l8;generalize ((aA g).map fun t=>(dP g t).2).length=nK at l8;have vY:Below w.heap.size w w4:=tq.trans (hb4.mono (by omega));have qY:aj w4 w.heap.size _ 26:=(hb4.block _ (by omega)).trans iK;have lr4:=qY.lt;have r0:w4.cell? ⟨w.heap.size,0,none⟩=some (.slice none 0 0):=qY.cell 0;have r1:w4.cell? ⟨w.heap.size,1,none⟩=some (.slice none 0 0):=qY.cell 1;have r2:w4.cell? ⟨w.heap.size,2,none⟩=some (.slice none 0 0):=qY.cell 2;have r3:w4.cell? ⟨w.heap.size,3,none⟩=some (.slice none 0 0):=qY.cell 3;have r4:w4.cell? ⟨w.heap.size,4,none⟩=some (.slice none 0 0):=qY.cell 4;have rf:∀ i,w4.frozen? ⟨w.heap.size,i,none⟩=false:=qY.frozen;unfold maxLen at hpm
   by_cases Cq:200<(aU g).length
   ·have HE:Hid (dw s=.error (8,0)):=HM.out Cq
    have hmi:(200:Int)<((aU g).length:Int):=by omega
    clear HM HO Cq;go_wp2_with fail;have kF:=(Ld (x0:=.slice none 0 0) (x1:=.slice none 0 0) (x2:=.slice none 0 0) (x3:=.slice none 0 0) (x4:=.slice none 0 0) qY).alloc (.cells #[.slice ta (aA g).length tc,.slice na (aN g).length nc,.slice pa (aU g).length pc,.slice ba nB bc,.slice ka nK kc] 26);have s0:=kF.cell 0;have s1:=kF.cell 1;have s2:=kF.cell 2;have s3:=kF.cell 3;have s4:=kF.cell 4;simp at s0 s1 s2 s3 s4;exact bodyPost_ret (v:=.tuple #[vJ,.int .i64 ((8:Nat):Int),.int .i64 ((0:Nat):Int)]) (by simp[vJ,results,results9,go_sem,s0,s1,s2,s3,s4]) rfl (EX.no HE.out ((KF vY (lr0) _ _ _ _ _).alloc (by simp;omega) _))
   ·have HE:Hid (dw s=.ok g):=HO.out Cq
    have hmi:¬ (200:Int)<((aU g).length:Int):=by omega
    clear HM HO Cq;go_wp2_with fail;have kF:=(Ld (x0:=.slice ta (aA g).length tc) (x1:=.slice na (aN g).length nc) (x2:=.slice pa (aU g).length pc) (x3:=.slice ba nB bc) (x4:=.slice ka nK kc) qY).alloc (.cells #[.slice ta (aA g).length tc,.slice na (aN g).length nc,.slice pa (aU g).length pc,.slice ba nB bc,.slice ka nK kc] 26);have s0:=kF.cell 0;have s1:=kF.cell 1;have s2:=kF.cell 2;have s3:=kF.cell 3;have s4:=kF.cell 4;simp at s0 s1 s2 s3 s4;refine bodyPost_ret (v:=.tuple #[.agg #[.slice ta (aA g).length tc,.slice na (aN g).length nc,.slice pa (aU g).length pc,.slice ba nB bc,.slice ka nK kc],.int .i64 ((0:Nat):Int),.int .i64 ((0:Nat):Int)]) (by simp[results,results9,go_sem,s0,s1,s2,s3,s4]) rfl ⟨_,0,0,rfl,(KF vY (lr0) _ _ _ _ _).alloc (by simp;omega) _,?_,?_⟩
    ·intro g' hg'
     rw[HE.out]at hg';cases hg';refine⟨rfl,rfl,l8.other qY fun x hx hn=>?_⟩;rw[Below.heap_alloc _ _ _ (by simp[World.setCell];exact hx)];exact agy w4 w.heap.size _ _ _ _ _ x hn
    ·intro x hx;rw[HE.out]at hx;cases hx
  ·have HE:Hid (dw s=.error (dF g)):=LB hp hc
   have hcb:(((dF g).1:Int) != 0)=true:=bne_iff_ne.2 (by omega);have hcd:¬ ((dF g).1:Int)=0:=by omega
   clear hc;generalize dF g=cr at HE hcb hcd;have r0:w3.cell? ⟨w.heap.size,0,none⟩=some (.slice none 0 0):=iK.cell 0;have r1:w3.cell? ⟨w.heap.size,1,none⟩=some (.slice none 0 0):=iK.cell 1;have r2:w3.cell? ⟨w.heap.size,2,none⟩=some (.slice none 0 0):=iK.cell 2;have r3:w3.cell? ⟨w.heap.size,3,none⟩=some (.slice none 0 0):=iK.cell 3;have r4:w3.cell? ⟨w.heap.size,4,none⟩=some (.slice none 0 0):=iK.cell 4;have rf:∀ i,w3.frozen? ⟨w.heap.size,i,none⟩=false:=iK.frozen;go_wp2_with fail;have kF:=Ld (x0:=.slice none 0 0) (x1:=.slice none 0 0) (x2:=.slice none 0 0) (x3:=.slice none 0 0) (x4:=.slice none 0 0) iK;have s0:=kF.cell 0;have s1:=kF.cell 1;have s2:=kF.cell 2;have s3:=kF.cell 3;have s4:=kF.cell 4;simp at s0 s1 s2 s3 s4;exact bodyPost_ret (v:=.tuple #[vJ,.int .i64 (cr.1:Int),.int .i64 (cr.2:Int)]) (by simp[vJ,results,results9,go_sem,s0,s1,s2,s3,s4]) rfl (EX.no HE.out (KF tq (lr0) _ _ _ _ _))
theorem P8 (s:ByteArray)(w:World)(hmax:s.size<=maxLen)(ht:nL w):Calls prog 9 #[.string s] w (aiC s w):=by
 refine (aiD s w hmax ht).mono ?_;rintro e w' ⟨v,n,a,h1,h2,h3,h4⟩;exact⟨v,n,a,h1,h2,fun g hg=>⟨(h3 g hg).1,(h3 g hg).2.1,(h3 g hg).2.2.pl⟩,h4⟩
theorem Lx.Zv {s:ByteArray}{x:Nat × Nat}(h:dw s=.error x):x.1≠0:=by
 cases hp:Lx.parse s with
 | error y =>
  obtain⟨n,a⟩:=y;rw[LA hp]at h;cases h;have:=Pb hp;show n≠0;omega
 | ok g =>
  by_cases hc:(dF g).1=0
  ·by_cases hm:200<(aU g).length
   ·rw[Lc hp hc hm]at h;cases h;decide
   ·rw[LQ hp hc hm]at h;cases h
  ·rw[LB hp hc]at h;cases h;exact hc
def H6 (g:Lx.Gr):Prop:=yV ((aA g).length+(aN g).length) (aU g)/\(aA g).length+(aN g).length<=100000/\∀ p∈aU g,p.right.length<=100000
def aj3 (w w':World)(nT n:Nat)(P:List Lx.Pd)(e:Ending):Prop:=∃ gE E k vF B m,e=.returned (.tuple #[.slice (some ⟨gE,0,none⟩) n n,vF,.int .i64 0,.int .i64 0])/\aj w' gE (aL E) 4/\w.heap.size<=gE/\E.length=n/\E=gq (bW P) k (List.replicate n false)/\bW P E=E/\B=gq (iJ P E) m (Lx.alone nT n)/\iJ P E B=B/\FX w.heap.size w' vF (B.map mg)
def aiE (s:ByteArray)(w:World)(e:Ending)(w':World):Prop :=
 Below w.heap.size w w'/\(∀ x,dw s=.error x->e=.returned (.tuple #[.slice none 0 0,.slice none 0 0,.int .i64 (x.1:Int),.int .i64 (x.2:Int)]))/\(∀ g,dw s=.ok g->aj3 w w' (aA g).length ((aA g).length+(aN g).length) (aU g) e)
theorem RV (w:World)(x0 x1 x2 x3 x4:Value):aj (w.alloc (.cells #[x0,x1,x2,x3,x4] 26)) w.heap.size #[x0,x1,x2,x3,x4] 26:=aj.new w _ 26
theorem aiF (s:ByteArray)(w:World)(hmax:s.size<=maxLen)(ht:nL w)(hok:∀ g,dw s=.ok g->H6 g):Calls prog 14 #[.string s] w (aiE s w):=by
 have q1:=P8 s w hmax ht;go_enter func14,ntmps14;go_wp2_with fail;refine q1.mono ?_;rintro e w1 ⟨v,n,a,rfl,hb1,hok1,CU⟩;clear q1;cases hr:dw s with
 | error x =>
  obtain⟨rfl,rfl,rfl⟩:=CU x hr;have hp:=Zv hr;have HR:Hid (dw s=.error x):=hr;have hnb:((x.1:Int) != 0)=true:=bne_iff_ne.2 (by omega);have hnd:¬ (x.1:Int)=0:=by omega
  clear hr CU hok1 hok hp;unfold vJ;go_wp2_with fail;refine bodyPost_ret (v:=.tuple #[.slice none 0 0,.slice none 0 0,.int .i64 (x.1:Int),.int .i64 (x.2:Int)]) (by simp[results,results14,go_sem]) rfl ?_;refine⟨hb1.alloc hb1.size _,fun y hy=>?_,fun g hg=>?_⟩
  ·rw[HR.out]at hy;cases hy;rfl
  ·rw[HR.out]at hg;cases hg
 | ok g =>
  obtain⟨rfl,rfl,hP⟩:=hok1 g hr;obtain⟨o1,o2,o3⟩:=hok g hr;obtain⟨vT,vN,vP,vB,vK,rfl,hT,hN,om,hB,hK⟩:=hP;obtain⟨ta,tc,rfl,-⟩:=aI hT;obtain⟨na,nc,rfl,-⟩:=aI hN;obtain⟨ps,p1,p2,-⟩:=id om;obtain⟨pa,pc,rfl,-⟩:=aI p2;obtain⟨ba,bc,rfl,-⟩:=aI hB;obtain⟨ka,kc,rfl,-⟩:=aI hK;have HR:Hid (dw s=.ok g):=hr;clear hr CU hok1 hok hT hN hB hK p1 p2;generalize hNT:(aA g).length=nT at *;generalize NT:(aN g).length=nN at *;have wD:Hid _:=hNT;have kY:Hid _:=NT;clear hNT NT;generalize ((aA g).map fun t=>(dP g t).1).length=nB at *;generalize ((aA g).map fun t=>(dP g t).2).length=nK at *;obtain⟨W,hW⟩:∃ W,W=w1.alloc (.cells #[.slice ta nT tc,.slice na nN nc,.slice pa (aU g).length pc,.slice ba nB bc,.slice ka nK kc] 26):=⟨_,rfl⟩;have kW:aj W w1.heap.size #[.slice ta nT tc,.slice na nN nc,.slice pa (aU g).length pc,.slice ba nB bc,.slice ka nK kc] 26:=by rw[hW];exact RV _ _ _ _ _ _
  have hbW:Below w1.heap.size w1 W:=by rw[hW];exact (Below.refl _ _).alloc (lr0) _
  have hin:EU W ta nT tc na nN nc (.slice pa (aU g).length pc) (aU g):=⟨om.below hbW,o1,o2⟩;have q2:=aeL (ba:=ba) (ka:=ka) (nb:=nB) (bc:=bc) (nk:=nK) (kc:=kc) hin;have c0:W.cell? ⟨w1.heap.size,0,none⟩=some (.slice ta nT tc):=kW.cell 0;have c1:W.cell? ⟨w1.heap.size,1,none⟩=some (.slice na nN nc):=kW.cell 1;have c2:W.cell? ⟨w1.heap.size,2,none⟩=some (.slice pa (aU g).length pc):=kW.cell 2;have c3:W.cell? ⟨w1.heap.size,3,none⟩=some (.slice ba nB bc):=kW.cell 3;have c4:W.cell? ⟨w1.heap.size,4,none⟩=some (.slice ka nK kc):=kW.cell 4;go_wp2_with fail;rw[<-hW];clear hW;go_wp2_with fail;refine q2.mono ?_;rintro e w2 ⟨gE,E,k,rfl,hgE,kE,hEl,hE,JK,hb2⟩;clear q2 c0 c1 c2 c3 c4;have zN:aj w2 w1.heap.size _ 26:=(hb2.block _ kW.lt).trans kW;have c0:w2.cell? ⟨w1.heap.size,0,none⟩=some (.slice ta nT tc):=zN.cell 0;have c1:w2.cell? ⟨w1.heap.size,1,none⟩=some (.slice na nN nc):=zN.cell 1;have c2:w2.cell? ⟨w1.heap.size,2,none⟩=some (.slice pa (aU g).length pc):=zN.cell 2;have c3:w2.cell? ⟨w1.heap.size,3,none⟩=some (.slice ba nB bc):=zN.cell 3;have c4:w2.cell? ⟨w1.heap.size,4,none⟩=some (.slice ka nK kc):=zN.cell 4;have q3:=aeF (ba:=ba) (ka:=ka) (nb:=nB) (bc:=bc) (nk:=nK) (kc:=kc) (hin.below hb2) kE hEl o3;have HE:Hid _:=hE;have HES:Hid _:=JK;have HEL:Hid _:=hEl;clear hE JK hEl hin o1 o3 om;go_wp2_with fail;refine q3.mono ?_;rintro e w3 ⟨vF,B,m,rfl,hB,JL,hpt,hb3⟩;clear q3;have hs1:=hb1.size;have wL:=hbW.size;have hs2:=hb2.size;have akS:FX w.heap.size w3 vF (B.map mg):=by
   obtain⟨qs,⟨r1,r2,r3,r4⟩,r5⟩:=hpt;exact⟨qs,⟨r1,dO r2 (by omega),fun q hq=>dO (r3 q hq) (by omega),r4⟩,r5⟩
  obtain⟨fa,fc,rfl⟩:∃ fa fc,vF=.slice fa (B.map mg).length fc:=by
   obtain⟨qs,⟨r1,r2,-⟩,-⟩:=hpt;obtain⟨fa,fc,e,-⟩:=aI r2;exact⟨fa,fc,e⟩
  have HB:Hid _:=hB;have HBS:Hid _:=JL;clear hB JL;go_wp2_with fail;refine bodyPost_ret (v:=.tuple #[.slice (some ⟨gE,0,none⟩) (nT+nN) (nT+nN),.slice fa (B.map mg).length fc,.int .i64 0,.int .i64 0]) (by simp[results,results14,go_sem]) rfl ?_;refine⟨hb1.trans ((hbW.trans ((hb2.mono wL).trans (hb3.mono (by omega)))).mono (by omega)),fun y hy=>?_,fun g' hg=>?_⟩
  ·rw[HR.out]at hy;cases hy
  ·rw[HR.out]at hg
   cases hg;rw[wD.out,kY.out];exact⟨gE,E,k,_,B,m,rfl,(hb3.block _ kE.lt).trans kE,by omega,HEL.out,HE.out,HES.out,HB.out,HBS.out,akS⟩
namespace Lx
theorem Cj {l:List ByteArray}{b:ByteArray}(h:0<=bA l b):fix l b<l.length:=(uo h).2
theorem G5 (g:Gr):(aN g).length=1+(g.rules.flatMap fQ).length:=by unfold aN;rw[List.length_cons];omega
theorem Qv {T N:List ByteArray}{x:It}(h:qi T N x):fU T N x<T.length+N.length:=by
 unfold qi at h;unfold fU
 split
 ·rename_i hk;rw[if_pos hk]at h;have:=Cj h;omega
 ·rename_i hk;rw[if_neg hk]at h;have:=Cj h;omega
theorem YN {T N:List ByteArray}{b:Nat}{H:List It}{x:It}(h:qM T N H x)(hb:b+1+H.length<=T.length+N.length):fT T N b H x<T.length+N.length:=by
 unfold qM at h;unfold fT
 split
 ·rename_i hk;rw[if_pos hk]at h;omega
 ·rename_i hk;rw[if_neg hk]at h;exact Qv h
theorem Xa {T N:List ByteArray}{b:Nat}{H:List It}{its:List It}(h:∀ x∈its,qM T N H x)(hb:b+1+H.length<=T.length+N.length):∀ s∈gY T N b H its,s<T.length+N.length:=by
 intro s hs;obtain⟨x,hx,rfl⟩:=List.mem_map.1 hs;exact YN (h x hx) hb
theorem ahu {n s m M L:Nat}{ps:List (List Nat)}(hs:s<M)(h:∀ r∈ps,r.length<=L/\∀ x∈r,x<M):∀ p∈iH n s m ps,p.left=s/\p.right.length<=L+1/\∀ x∈p.right,x<M:=by
 intro p hp;unfold iH at hp;rcases List.mem_append.1 hp with hp | hp
 ·split at hp
  ·rw[List.mem_singleton.1 hp];exact⟨rfl,Nat.zero_le _,fun x hx=>by cases hx⟩
  ·cases hp
 ·rcases List.mem_append.1 hp with hp | hp
  ·split at hp
   ·cases hp
   ·obtain⟨r,hr,rfl⟩:=List.mem_map.1 hp
    exact⟨rfl,Nat.le_succ_of_le (h r hr).1,(h r hr).2⟩
  ·split at hp
   ·obtain⟨r,hr,rfl⟩:=List.mem_map.1 hp
    refine⟨rfl,Nat.succ_le_succ (h r hr).1,fun x hx=>?_⟩;rcases List.mem_cons.1 hx with rfl | hx
    ·exact hs
    ·exact (h r hr).2 x hx
   ·cases hp
theorem Xb {T N:List ByteArray} {b M L:Nat} {H:List It}:∀ (l:List It) (k:Nat),b+1+k+l.length<=M->(∀ x∈l,∀ r∈partsOf T N b H x,r.length<=L/\∀ s∈r,s<M)->∀ p∈jZ T N b H k l,(b+1+k<=p.left/\p.left<b+1+k+l.length)/\p.right.length<=L+1/\∀ x∈p.right,x<M
 | [],_,_,_,p,hp=>by cases hp
 | x::l,k,hb,h,p,hp=>by
  rw[List.length_cons]at hb |-;rcases List.mem_append.1 hp with hp | hp
  ·obtain⟨h1,h2⟩:=ahu (s:=b+1+k) (by omega) (h x List.mem_cons_self) p hp
   exact⟨by omega,h2⟩
  ·obtain⟨h1,h2⟩:=Xb l (k+1) (by omega) (fun y hy=>h y (List.mem_cons_of_mem _ hy)) p hp
   exact⟨by omega,h2⟩
theorem G7 {d:Nat}{l:List Alt}{x:It}(h:x∈aH d l):x∈aX d l:=(List.mem_filter.1 h).1
theorem agz {g:Gr}(hf:Fit g){r:Rl}(hr:r∈g.rules){b:Nat}(hb:b+1+(aH 9 r.alts).length<=(aA g).length+(aN g).length){x:It}(hx:x∈aX 9 r.alts):∀ q∈partsOf (aA g) (aN g) b (aH 9 r.alts) x,q.length<=2001/\∀ s∈q,s<(aA g).length+(aN g).length:=by
 intro q hq;unfold partsOf at hq
 split at hq
 ·obtain⟨a,ha,rfl⟩:=List.mem_map.1 hq
  refine⟨by unfold gY;rw[List.length_map];exact (hf.its hr hx).2 a ha,Xa (fun y hy=>hf.sym hr (Cg (hf.dp r hr) hx ha hy)) hb⟩
 ·rename_i hk
  rw[List.mem_singleton.1 hq];refine⟨by simp,fun s hs=>?_⟩;rw[List.mem_singleton.1 hs];exact Qv (hf.plain hr hx hk)
theorem P9 {l:List Alt}{a:Alt}(ha:a∈l){x:It}(hx:x∈a.1)(d:Nat):x∈aX (d+1) l:=nQ.2 ⟨a,ha,x,hx,.inl rfl⟩
theorem ahv {g:Gr}(hf:Fit g){r:Rl}(hr:r∈g.rules){b:Nat}(hb:b+1+(aH 9 r.alts).length<=(aA g).length+(aN g).length):∀ p∈ny (aA g) (aN g) b r,(b<=p.left/\p.left<b+1+(aH 9 r.alts).length)/\p.right.length<=2002/\∀ s∈p.right,s<(aA g).length+(aN g).length:=by
 intro p hp;unfold ny at hp;rcases List.mem_append.1 hp with hp | hp
 ·obtain⟨a,ha,rfl⟩:=List.mem_map.1 hp
  refine⟨⟨lr0,by show b<_;omega⟩,?_,Xa (fun y hy=>hf.sym hr (P9 ha hy 8)) hb⟩;show (gY _ _ _ _ _).length<=_;unfold gY;rw[List.length_map];have:=(hf.alts hr).2 a ha;omega
 ·obtain⟨h1,h2⟩:=Xb (M:=(aA g).length+(aN g).length) (L:=2001) _ 0 (by omega) (fun x hx=>agz hf hr hb (G7 hx)) p hp
  exact⟨by omega,h2⟩
theorem Xc {g:Gr} (hf:Fit g):∀ (rs:List Rl) (b:Nat),(∀ r∈rs,r∈g.rules)->b+(rs.flatMap fQ).length<=(aA g).length+(aN g).length->∀ p∈gQ (aA g) (aN g) b rs,(b<=p.left/\p.left<b+(rs.flatMap fQ).length)/\p.right.length<=2002/\∀ s∈p.right,s<(aA g).length+(aN g).length
 | [],_,_,_,p,hp=>by cases hp
 | r::rs,b,hin,hb,p,hp=>by
  have hl:=vg r;rw[List.flatMap_cons,List.length_append]at hb |-;rcases List.mem_append.1 hp with hp | hp
  ·obtain⟨h1,h2⟩:=ahv hf (hin r List.mem_cons_self) (b:=b) (by omega) p hp
   exact⟨by omega,h2⟩
  ·obtain⟨h1,h2⟩:=Xc hf rs (b+1+(aH 9 r.alts).length) (fun q hq=>hin q (List.mem_cons_of_mem _ hq)) (by omega) p hp
   exact⟨by omega,h2⟩
theorem Py {g:Gr}(hf:Fit g):1<=(g.rules.flatMap fQ).length:=by
 have:=hf.ne;cases hr:g.rules with
 | nil=>rw[hr]at this;simp at this
 | cons r rs =>
  rw[List.flatMap_cons,List.length_append];have:=vg r;omega
theorem aiG {g:Gr}(hf:Fit g):∀ p∈aU g,((aA g).length<=p.left/\p.left<(aA g).length+(aN g).length)/\p.right.length<=2002/\∀ s∈p.right,s<(aA g).length+(aN g).length:=by
 intro p hp;have h1:=G5 g;have h2:=Py hf;unfold aU at hp;rcases List.mem_cons.1 hp with rfl | hp
 ·refine⟨⟨lr0,by show (aA g).length<_;omega⟩,by simp,fun s hs=>?_⟩
  rw[List.mem_singleton.1 hs];omega
 ·obtain⟨h3,h4⟩:=Xc hf g.rules _ (fun r hr=>hr) (by omega) p hp
  exact⟨by omega,h4⟩
end Lx
theorem Qa {g:Lx.Gr}(hf:Lx.Fit g):H6 g:=by
 have h:=aiG hf;exact⟨fun p hp=>⟨(h p hp).1.2,(h p hp).2.2⟩,by have:=hf.Ms;have:=hf.Rh;omega,fun p hp=>by have:=(h p hp).2.1;omega⟩
namespace Lx
def uS (x:It):Prop:=(x.kind=2->x.alts≠[])/\(x.mark=0\/x.mark=42\/x.mark=43\/x.mark=63)
theorem Qb (ts:List Tk):(bK ts).1=0\/(bK ts).1=42\/(bK ts).1=43\/(bK ts).1=63:=by
 unfold bK
 split
 ·simp
 ·split
  ·simp
  ·split <;> simp
def EY (d:Nat)(aF:List Tk->aV (List Alt)):Prop:=∀ ts l ts',aF ts=.ok (l,ts')->l≠[]/\∀ x∈aX d l,uS x
theorem aiH {d:Nat}{aF:List Tk->aV (List Alt)}(hg:EY d aF){ts ts':List Tk}{x:It}(h:dh aF ts=.ok (x,ts')):∀ y∈nA d x,uS y:=by
 unfold dh at h
 split at h
 ·split at h
  ·cases h
  ·rename_i alts aC hq
   cases h;intro y hy;rcases List.mem_cons.1 hy with rfl | hy
   ·exact⟨fun _=>(hg _ _ _ hq).1,Qb _⟩
   ·exact (hg _ _ _ hq).2 y hy
 ·split at h
  ·cases h
   intro y hy;rcases List.mem_cons.1 hy with rfl | hy
   ·exact⟨fun h=>(by cases h),Qb _⟩
   ·rw[EB]at hy;cases hy
  ·split at h
   ·cases h
    intro y hy;rcases List.mem_cons.1 hy with rfl | hy
    ·exact⟨fun h=>(by cases h),Qb _⟩
    ·rw[EB]at hy;cases hy
   ·cases h
theorem X7 {d:Nat} {aF:List Tk->aV (List Alt)} (hg:EY d aF):∀ (f:Nat) (ts:List Tk) (a x:List It) (ts':List Tk),dU aF f ts a=.ok (x,ts')->(∀ y∈nC d a,uS y)->∀ y∈nC d x,uS y
 | 0,ts,a,x,ts',h,ha=>by cases h;exact ha
 | f+1,ts,a,x,ts',h,ha=>by
  unfold dU at h
  split at h
  ·split at h
   ·cases h
   ·rename_i z t1 hz
    refine X7 hg f t1 _ x ts' h fun y hy=>?_
    unfold nC at hy;rw[List.flatMap_append]at hy;rcases List.mem_append.1 hy with hy | hy
    ·exact ha y hy
    ·rw[List.flatMap_cons,List.flatMap_nil,List.append_nil]at hy
     exact aiH hg hz y hy
  ·cases h;exact ha
theorem Zw {d:Nat}{aF:List Tk->aV (List Alt)}(hg:EY d aF){top:Bool}{ts ts':List Tk}{x:Alt}(h:dJ aF top ts=.ok (x,ts')):∀ y∈nC d x.1,uS y:=by
 unfold dJ at h
 split at h
 ·cases h
 ·rename_i its t1 hi
  have h1:=X7 hg _ _ _ _ _ hi (fun y hy=>by cases hy);unfold mq at h
  split at h
  ·split at h
   ·cases h
   ·cases h;exact h1
  ·cases h;exact h1
theorem YO {d:Nat} {aF:List Tk->aV (List Alt)} (hg:EY d aF) {top:Bool}:∀ (f:Nat) (ts:List Tk) (a x:List Alt) (ts':List Tk),iZ aF top f ts a=.ok (x,ts')->(a≠[]/\∀ y∈aX (d+1) a,uS y)->x≠[]/\∀ y∈aX (d+1) x,uS y
 | 0,ts,a,x,ts',h,ha=>by cases h;exact ha
 | f+1,ts,a,x,ts',h,ha=>by
  unfold iZ at h
  split at h
  ·split at h
   ·cases h
   ·rename_i z t1 hz
    have hz2:=Zw hg hz;refine YO hg f t1 _ x ts' h ⟨by simp,fun y hy=>?_⟩;rw[rH,List.flatMap_append]at hy;rcases List.mem_append.1 hy with hy | hy
    ·exact ha.2 y hy
    ·rw[List.flatMap_cons,List.flatMap_nil,List.append_nil]at hy
     exact hz2 y hy
  ·cases h;exact ha
theorem Xd {d:Nat}{aF:List Tk->aV (List Alt)}(hg:EY d aF){top:Bool}{ts ts':List Tk}{x:List Alt}(h:ni aF top ts=.ok (x,ts')):x≠[]/\∀ y∈aX (d+1) x,uS y:=by
 unfold ni at h
 split at h
 ·cases h
 ·rename_i z t1 hz
  have hz2:=Zw hg hz;refine YO hg _ _ _ _ _ h ⟨by simp,fun y hy=>?_⟩;rw[rH,List.flatMap_cons,List.flatMap_nil,List.append_nil]at hy;exact hz2 y hy
theorem ahw {d:Nat}{r:List Tk->aV (List Alt)}(hr:∀ ts l ts',r ts=.ok (l,ts')->l≠[]/\∀ y∈aX d l,uS y):EY d (mK r):=by
 intro ts l ts' h;unfold mK at h
 split at h
 ·cases h
 ·rename_i l1 t1 h1
  split at h
  ·cases h
  ·cases h
   exact hr _ _ _ h1
theorem YQ:∀ (d:Nat) (ts:List Tk) (l:List Alt) (ts':List Tk),iN d ts=.ok (l,ts')->l≠[]/\∀ y∈aX (d+1) l,uS y
 | 0,ts,l,ts',h=>Xd (d:=0) (fun _ _ _ h=>by cases h) h
 | d+1,ts,l,ts',h=>Xd (ahw (YQ d)) h
def AO (r:Rl):Prop:=r.alts≠[]/\∀ y∈aX 9 r.alts,uS y
theorem YS {ts ts':List Tk}{x:Rl}(h:dI ts=.ok (x,ts')):AO x:=by
 unfold dI at h
 split at h
 ·cases h
 ·split at h
  ·cases h
  ·split at h
   ·cases h
   ·rename_i l t3 h3
    split at h
    ·cases h
    ·cases h
     exact YQ 8 _ _ _ h3
theorem X8:∀ (f:Nat) (ts:List Tk) (a x:List Rl) (ts':List Tk),iE f ts a=.ok (x,ts')->(∀ r∈a,AO r)->∀ r∈x,AO r
 | 0,ts,a,x,ts',h,ha=>by cases h;exact ha
 | f+1,ts,a,x,ts',h,ha=>by
  unfold iE at h
  split at h
  ·cases h;exact ha
  ·split at h
   ·cases h
   ·rename_i z t1 hz
    refine X8 f t1 _ x ts' h fun r hr=>?_
    rcases List.mem_append.1 hr with hr | hr
    ·exact ha r hr
    ·rw[List.mem_singleton.1 hr];exact YS hz
theorem YT {s:ByteArray}{g:Gr}(h:parse s=.ok g):∀ r∈g.rules,AO r:=by
 unfold parse at h
 split at h
 ·cases h
 ·split at h
  ·cases h
  ·rename_i g' ts' hp
   cases h;unfold gX at hp
   split at hp
   ·cases hp
   ·split at hp
    ·cases hp
    ·rename_i x t2 h2
     split at hp
     ·cases hp
     ·rename_i l t3 h3
      cases hp;exact X8 _ _ _ _ _ h3 fun r hr=>by rw[List.mem_singleton.1 hr];exact YS h2
theorem Xe (E:List Bool):∀ r:List Nat,(jQ E r=r.length)↔(r.all (au E)=true)
 | []=>by simp[jQ]
 | s::r=>by
  have h1:=Xe E r;have hl:=KW E r;rw[jQ,List.all_cons]
  by_cases h:au E s=true
  ·rw[if_pos h,h,Bool.true_and,<-h1,List.length_cons];omega
  ·rw[if_neg h];simp[h]
theorem aeZ {E:List Bool}{i:Nat}(h:au E i=true):E.set i true=E:=by
 refine Am (by simp) fun k _=>?_
 rw[at_set]
 split
 ·rename_i hh;rw[<-hh.1,h]
 ·rfl
theorem ahx {E:List Bool}{p:Pd}(h:p.right.all (au E)=true):mD E p=E.set p.left true:=by
 unfold mD;have ha:=(Xe E p.right).2 h;cases hat:au E p.left with
 | false=>exact if_pos ⟨rfl,ha⟩
 | true=>rw[if_neg (fun h=>by cases h.1)];exact (aeZ hat).symm
theorem G8:∀ (P:List Pd) (E:List Bool),bO E (bW P E)
 | [],E=>bO.refl E
 | p::P,E=>(YL E p).trans (G8 P (mD E p))
theorem Xf {n:Nat}:∀ (P:List Pd) (E:List Bool),E.length=n->yV n P->bW P E=E\/∃ p∈P,au E p.left=false/\au (bW P E) p.left=true
 | [],_,_,_=>.inl rfl
 | p::P,E,hE,hP=>by
  show bW P (mD E p)=E\/∃ q∈p::P,au E q.left=false/\au (bW P (mD E p)) q.left=true;have hP':yV n P:=fun q hq=>hP q (List.mem_cons_of_mem _ hq)
  by_cases hs:mD E p=E
  ·rw[hs]
   rcases Xf P E hE hP' with h | ⟨q,hq,h⟩
   ·exact .inl h
   ·exact .inr ⟨q,List.mem_cons_of_mem _ hq,h⟩
  ·right
   have hl:=(hP p List.mem_cons_self).1;have h1:au E p.left=false/\jQ E p.right=p.right.length:=by
    rcases Classical.em (au E p.left=false/\jQ E p.right=p.right.length) with h | h
    ·exact h
    ·exact absurd (if_neg h) hs
   refine⟨p,List.mem_cons_self,h1.1,(G8 P (mD E p)).2 _ ?_⟩;have:mD E p=E.set p.left true:=if_pos h1;rw[this,at_set,if_pos ⟨rfl,by omega⟩]
theorem VA {α:Type} {f g:α->Bool}:∀ {l:List α},(∀ x,f x=true->g x=true)->(∃ x∈l,f x=false/\g x=true)->l.countP f<l.countP g
 | [],_,h=>by obtain⟨x,hx,-⟩:=h;cases hx
 | y::l,hm,h=>by
  obtain⟨x,hx,h1,h2⟩:=h;have hle:l.countP f<=l.countP g:=List.countP_mono_left fun z _=>hm z
  rw[List.countP_cons,List.countP_cons];rcases List.mem_cons.1 hx with rfl | hx
  ·rw[h1,h2];simp;omega
  ·have:=VA hm ⟨x,hx,h1,h2⟩
   cases hf:f y with
   | false=>simp;omega
   | true=>rw[hm y hf];simp;omega
def NU (P:List Pd)(E:List Bool):Nat:=P.countP fun p=>au E p.left
theorem LD (P:List Pd) (E:List Bool):∀ k,(gq (bW P) k E).length=E.length
 | 0=>rfl
 | k+1=>by
  show (bW P (gq (bW P) k E)).length=_;rw[X6,LD P E k]
theorem ZY {n:Nat} {P:List Pd} {E:List Bool} (hE:E.length=n) (hP:yV n P):∀ k,bW P (gq (bW P) k E)=gq (bW P) k E\/k<=NU P (gq (bW P) k E)
 | 0=>.inr (Nat.zero_le _)
 | k+1=>by
  show bW P (bW P (gq (bW P) k E))=bW P (gq (bW P) k E)\/k+1<=NU P (bW P (gq (bW P) k E));rcases ZY hE hP k with h | h
  ·left;rw[h,h]
  ·rcases Xf P (gq (bW P) k E) ((LD P E k).trans hE) hP with h2 | h2
   ·left;rw[h2,h2]
   ·right
    have:=VA (l:=P) (f:=fun p=>au (gq (bW P) k E) p.left) (g:=fun p=>au (bW P (gq (bW P) k E)) p.left) (fun x hx=>(G8 P _).2 _ hx) h2;unfold NU at h |-;omega
theorem Ke (a:ByteArray):∀ (bs l:List ByteArray),∃ R,bQ (a::l) bs=a::R
 | [],l=>⟨l,rfl⟩
 | b::bs,l=>by
  show ∃ R,bQ (iM (a::l) b) bs=a::R;unfold iM
  split
  ·exact Ke a bs l
  ·exact Ke a bs (l++[b])
theorem Zx {a:ByteArray}{R:List ByteArray}{b:ByteArray}(h:a≠b):0<fix (a::R) b:=by
 unfold fix;rw[List.findIdx_cons];simp[h]
theorem Qw (g:Gr){b:ByteArray}(h:isToken b=true):0<fix (aA g) b:=by
 obtain⟨R,e⟩:=Ke iY (iD g++g.rules.flatMap fun r=>jb 9 r.alts) [];unfold aA;rw[e];refine Zx fun e=>?_
 subst e;exact absurd h (by decide)
theorem Zy (g:Gr){b:ByteArray}(h:isName b=true):0<fix (aN g) b:=Zx (YI h)
theorem YU (g:Gr):0<(aA g).length:=by
 obtain⟨R,e⟩:=Ke iY (iD g++g.rules.flatMap fun r=>jb 9 r.alts) [];unfold aA;rw[e];simp
theorem ajE {g:Gr}{H:List It}{b:Nat}{x:It}(hx:sU x)(hb:(aA g).length<b)(hs:qM (aA g) (aN g) H x):0<fT (aA g) (aN g) b H x/\fT (aA g) (aN g) b H x≠(aA g).length:=by
 unfold fT
 split
 ·omega
 ·rename_i hh
  unfold qM at hs;rw[if_neg hh]at hs;unfold fU;unfold qi at hs;rcases hx with ⟨k,h1,-⟩ | ⟨k,h1,-⟩ | k
  ·rw[if_neg (by omega)]
   have:=Zy g h1;omega
  ·rw[if_pos k]at hs |-
   have:=Qw g h1;have:=Cj hs;omega
  ·exact absurd (by unfold hlp;simp[k]) hh
theorem ajo {g:Gr}{x:It}(hx:sU x)(hk:x.kind≠2)(hp:qi (aA g) (aN g) x):0<fU (aA g) (aN g) x/\fU (aA g) (aN g) x≠(aA g).length:=by
 unfold fU;unfold qi at hp;rcases hx with ⟨k,h1,-⟩ | ⟨k,h1,-⟩ | k
 ·rw[if_neg (by omega)]
  have:=Zy g h1;omega
 ·rw[if_pos k]at hp |-
  have:=Qw g h1;have:=Cj hp;omega
 ·exact absurd k hk
theorem O7 (n:Nat):∀ (r:List Nat) (p:Int),r.foldl (fun p s=>if s<n then (s:Int) else p) p=p\/∃ s∈r,s<n/\r.foldl (fun p s=>if s<n then (s:Int) else p) p=(s:Int)
 | [],p=>.inl rfl
 | s::r,p=>by
  rw[List.foldl_cons]
  by_cases h:s<n
  ·rw[if_pos h]
   rcases O7 n r (s:Int) with e | ⟨u,hu,h1,h2⟩
   ·exact .inr ⟨s,List.mem_cons_self,h,e⟩
   ·exact .inr ⟨u,List.mem_cons_of_mem _ hu,h1,h2⟩
  ·rw[if_neg h]
   rcases O7 n r p with e | ⟨u,hu,h1,h2⟩
   ·exact .inl e
   ·exact .inr ⟨u,List.mem_cons_of_mem _ hu,h1,h2⟩
def LU (t n:Nat)(p:Pd):Prop:=(t<=p.left/\p.left<n)/\(∀ s∈p.right,0<s/\s<n/\s≠t)/\-1<=p.prec/\p.prec<(t:Int)/\p.prec≠0
theorem Ya {t:Nat}(ht:0<t){r:List Nat}(h:∀ s∈r,0<s):-1<=j5 t r/\j5 t r<(t:Int)/\j5 t r≠0:=by
 unfold j5;rcases O7 t r (-1) with e | ⟨s,hs,h1,e⟩
 ·rw[e];omega
 ·rw[e]
  have:=h s hs;omega
theorem Pz {t n s:Nat}(ht:0<t){r:List Nat}(hs:t<=s/\s<n)(h:∀ s∈r,0<s/\s<n/\s≠t):LU t n (aS t s r):=⟨hs,h,Ya ht fun s hs=>(h s hs).1⟩
theorem rF {n s m:Nat}{ps:List (List Nat)}{p:Pd}:p∈iH n s m ps↔((m=42\/m=63)/\p=aS n s [])\/(m≠42/\∃ r∈ps,p=aS n s r)\/((m=42\/m=43)/\∃ r∈ps,p=aS n s (s::r)):=by
 unfold iH;rw[List.mem_append,List.mem_append];refine or_congr ?_ (or_congr ?_ ?_)
 ·split
  ·rename_i h;simp[h]
  ·rename_i h;simp[h]
 ·split
  ·rename_i h;simp[h]
  ·rename_i h
   rw[List.mem_map];exact⟨fun ⟨r,hr,e⟩=>⟨h,r,hr,e.symm⟩,fun ⟨_,r,hr,e⟩=>⟨r,hr,e.symm⟩⟩
 ·split
  ·rename_i h
   rw[List.mem_map];exact⟨fun ⟨r,hr,e⟩=>⟨h,r,hr,e.symm⟩,fun ⟨_,r,hr,e⟩=>⟨r,hr,e.symm⟩⟩
  ·rename_i h;simp[h]
theorem V8 {T N:List ByteArray} {b:Nat} {H:List It} {p:Pd}:∀ (l:List It) (k:Nat),p∈jZ T N b H k l↔∃ i,∃ hi:i<l.length,p∈iH T.length (b+1+(k+i)) l[i].mark (partsOf T N b H l[i])
 | [],k=>by simp[jZ]
 | x::l,k=>by
  rw[jZ,List.mem_append,V8 l (k+1)];constructor
  ·rintro (h | ⟨i,hi,h⟩)
   ·exact⟨0,by simp,h⟩
   ·exact⟨i+1,by simpa using hi,by rw[show k+(i+1)=k+1+i by omega];exact h⟩
  ·rintro⟨i,hi,h⟩
   cases i with
   | zero=>exact .inl h
   | succ i=>exact .inr ⟨i,by simpa using hi,by rw[show k+1+i=k+(i+1) by omega];exact h⟩
theorem rG {T N:List ByteArray}{b:Nat}{r:Rl}{p:Pd}:p∈ny T N b r↔(∃ a∈r.alts,p=jF T N b (aH 9 r.alts) a)\/∃ k,∃ hk:k<(aH 9 r.alts).length,p∈iH T.length (b+1+k) (aH 9 r.alts)[k].mark (partsOf T N b (aH 9 r.alts) (aH 9 r.alts)[k]):=by
 unfold ny;rw[List.mem_append,List.mem_map,V8];refine or_congr ⟨fun ⟨a,ha,e⟩=>⟨a,ha,e.symm⟩,fun ⟨a,ha,e⟩=>⟨a,ha,e.symm⟩⟩ ?_;simp only[Nat.zero_add]
def cZ (b:Nat)(rs:List Rl)(j:Nat):Nat:=b+((rs.take j).flatMap fQ).length
theorem Km {T N:List ByteArray} {p:Pd}:∀ (rs:List Rl) (b:Nat),p∈gQ T N b rs↔∃ j,∃ hj:j<rs.length,p∈ny T N (cZ b rs j) rs[j]
 | [],b=>by simp[gQ]
 | r::rs,b=>by
  rw[gQ,List.mem_append,Km rs];have hb:∀ j,cZ b (r::rs) (j+1)=cZ (b+1+(aH 9 r.alts).length) rs j:=fun j=>by
   unfold cZ;rw[List.take_succ_cons,List.flatMap_cons,List.length_append,vg];omega
  constructor
  ·rintro (h | ⟨j,hj,h⟩)
   ·exact⟨0,by simp,by simpa [cZ]using h⟩
   ·exact⟨j+1,by simpa using hj,by rw[hb];exact h⟩
  ·rintro⟨j,hj,h⟩
   cases j with
   | zero=>exact .inl (by simpa [cZ]using h)
   | succ j=>exact .inr ⟨j,by simpa using hj,by rw[<-hb];exact h⟩
theorem YV:∀ (rs:List Rl) (i:Nat),i<(rs.flatMap fQ).length->∃ j,∃ hj:j<rs.length,∃ k,k<=(aH 9 rs[j].alts).length/\i=((rs.take j).flatMap fQ).length+k
 | [],i,h=>by simp at h
 | r::rs,i,h=>by
  rw[List.flatMap_cons,List.length_append,vg]at h
  by_cases hi:i<1+(aH 9 r.alts).length
  ·exact⟨0,by simp,i,by simp;omega,by simp⟩
  ·obtain⟨j,hj,k,hk,e⟩:=YV rs (i - (1+(aH 9 r.alts).length)) (by omega)
   refine⟨j+1,by simpa using hj,k,hk,?_⟩;rw[List.take_succ_cons,List.flatMap_cons,List.length_append,vg];omega
section
variable {g:Gr}
theorem Qx (_hf:Fit g){j:Nat}(hj:j<g.rules.length):(aA g).length<cZ ((aA g).length+1) g.rules j/\cZ ((aA g).length+1) g.rules j+1+(aH 9 g.rules[j].alts).length<=(aA g).length+(aN g).length:=by
 have h1:=G5 g;have h2:(g.rules.flatMap fQ).length=((g.rules.take j).flatMap fQ).length+((g.rules.drop j).flatMap fQ).length:=by
  rw[<-List.length_append,<-List.flatMap_append,List.take_append_drop]
 rw[List.drop_eq_getElem_cons hj,List.flatMap_cons,List.length_append,vg]at h2;unfold cZ;omega
theorem Le (hf:Fit g)(nd:(g.rules.map Rl.name).Nodup){j:Nat}(hj:j<g.rules.length):(aA g).length+fix (aN g) g.rules[j].name=cZ ((aA g).length+1) g.rules j:=by
 have h:=Zm (rs:=g.rules) (fun r hr=>(hf.rl r hr).1) nd hj;have h2:aN g=dZ g.rules:=rfl;rw[h2,h];unfold dZ cZ;rw[List.length_cons];omega
theorem uq {j:Nat}(hj:j<g.rules.length){p:Pd}(h:p∈ny (aA g) (aN g) (cZ ((aA g).length+1) g.rules j) g.rules[j]):p∈aU g:=List.mem_cons_of_mem _ ((Km _ _).2 ⟨j,hj,h⟩)
theorem Xg (hf:Fit g){j:Nat}(hj:j<g.rules.length){its:List It}(h:∀ x∈its,x∈aX 9 g.rules[j].alts):∀ s∈gY (aA g) (aN g) (cZ ((aA g).length+1) g.rules j) (aH 9 g.rules[j].alts) its,0<s/\s<(aA g).length+(aN g).length/\s≠(aA g).length:=by
 intro s hs;obtain⟨x,hx,rfl⟩:=List.mem_map.1 hs;have hr:g.rules[j]∈g.rules:=List.getElem_mem hj;have hb:=Qx hf hj;have h1:=ajE ((hf.rl _ hr).2.1 x (h x hx)) hb.1 (hf.sym hr (h x hx));exact⟨h1.1,YN (hf.sym hr (h x hx)) hb.2,h1.2⟩
theorem agA (hf:Fit g){j:Nat}(hj:j<g.rules.length){x:It}(hx:x∈aX 9 g.rules[j].alts):∀ r∈partsOf (aA g) (aN g) (cZ ((aA g).length+1) g.rules j) (aH 9 g.rules[j].alts) x,∀ s∈r,0<s/\s<(aA g).length+(aN g).length/\s≠(aA g).length:=by
 intro r hr;have hm:g.rules[j]∈g.rules:=List.getElem_mem hj;unfold partsOf at hr
 split at hr
 ·obtain⟨a,ha,rfl⟩:=List.mem_map.1 hr
  exact Xg hf hj fun y hy=>Cg (hf.dp _ hm) hx ha hy
 ·rename_i hk
  rw[List.mem_singleton.1 hr];intro s hs;rw[List.mem_singleton.1 hs];have h1:=ajo ((hf.rl _ hm).2.1 x hx) hk (hf.plain hm hx hk);exact⟨h1.1,Qv (hf.plain hm hx hk),h1.2⟩
theorem ahy (hf:Fit g):∀ p∈aU g,LU (aA g).length ((aA g).length+(aN g).length) p:=by
 intro p hp;have ht:=YU g;unfold aU at hp;rcases List.mem_cons.1 hp with rfl | hp
 ·have h1:=G5 g
  have h2:=Py hf;refine⟨⟨lr0,by show (aA g).length<_;omega⟩,fun s hs=>?_,by show (-1:Int)<=-1;omega,by show (-1:Int)<_;omega,by show (-1:Int)≠0;omega⟩;rw[List.mem_singleton.1 hs];omega
 ·obtain⟨j,hj,hp⟩:=(Km _ _).1 hp
  have hb:=Qx hf hj;have hm:g.rules[j]∈g.rules:=List.getElem_mem hj;rcases rG.1 hp with ⟨a,ha,rfl⟩ | ⟨k,hk,hp⟩
  ·have hw:=Xg hf hj (its:=a.1) fun x hx=>P9 ha hx 8
   refine⟨⟨by show _<=cZ _ _ _;omega,by show cZ _ _ _<_;omega⟩,hw,?_⟩;unfold jF;simp only
   split
   ·exact Ya ht fun s hs=>(hw s hs).1
   ·rename_i hn
    have h1:=hf.prec hm ha hn;have h2:=Cj h1;have h3:isToken a.2.1=true:=by
     rcases (hf.rl _ hm).2.2 a ha with h | h
     ·exact absurd h hn
     ·exact h
    have h4:=Qw g h3;omega
  ·have hH:(aH 9 g.rules[j].alts)[k]∈aX 9 g.rules[j].alts:=G7 (List.getElem_mem hk)
   have hw:=agA hf hj hH;have hs:(aA g).length<=cZ ((aA g).length+1) g.rules j+1+k/\cZ ((aA g).length+1) g.rules j+1+k<(aA g).length+(aN g).length:=by omega
   rcases rF.1 hp with ⟨-,rfl⟩ | ⟨-,r,hr,rfl⟩ | ⟨-,r,hr,rfl⟩
   ·exact Pz ht hs fun s hs=>by cases hs
   ·exact Pz ht hs (hw r hr)
   ·refine Pz ht hs fun s hs2=>?_
    rcases List.mem_cons.1 hs2 with rfl | hs2
    ·omega
    ·exact hw r hr s hs2
end
end Lx
section
open Go Go.RowKit
namespace Lx
theorem GD {n s m:Nat}{ps:List (List Nat)}:∀ p∈iH n s m ps,p.left=s:=by
 intro p hp;rcases rF.1 hp with ⟨-,rfl⟩ | ⟨-,r,-,rfl⟩ | ⟨-,r,-,rfl⟩ <;> rfl
theorem PD {s:Nat}:∀ {l:List Pd},(∀ p∈l,p.left=s)->l.Pairwise fun a b=>a.left<=b.left
 | [],_=>List.Pairwise.nil
 | p::l,h=>List.pairwise_cons.2 ⟨fun q hq=>by rw[h p List.mem_cons_self,h q (List.mem_cons_of_mem _ hq)];exact lr0,PD fun q hq=>h q (List.mem_cons_of_mem _ hq)⟩
theorem VB {T N:List ByteArray} {b:Nat} {H:List It}:∀ (l:List It) (k:Nat),(jZ T N b H k l).Pairwise (fun a b=>a.left<=b.left)/\∀ p∈jZ T N b H k l,b+1+k<=p.left/\p.left<b+1+k+l.length
 | [],k=>⟨List.Pairwise.nil,fun p hp=>by cases hp⟩
 | x::l,k=>by
  obtain⟨h1,h2⟩:=VB (T:=T) (N:=N) (b:=b) (H:=H) l (k+1);rw[jZ];refine⟨List.pairwise_append.2 ⟨PD GD,h1,fun p hp q hq=>?_⟩,fun p hp=>?_⟩
  ·rw[GD p hp]
   have:=(h2 q hq).1;omega
  ·rw[List.length_cons]
   rcases List.mem_append.1 hp with hp | hp
   ·rw[GD p hp];omega
   ·have:=h2 p hp;omega
theorem afP {T N:List ByteArray}{b:Nat}{r:Rl}:(ny T N b r).Pairwise (fun a b=>a.left<=b.left)/\∀ p∈ny T N b r,b<=p.left/\p.left<b+1+(aH 9 r.alts).length:=by
 obtain⟨h1,h2⟩:=VB (T:=T) (N:=N) (b:=b) (H:=aH 9 r.alts) (aH 9 r.alts) 0;have h3:∀ p∈r.alts.map (jF T N b (aH 9 r.alts)),p.left=b:=fun p hp=>by
  obtain⟨a,-,rfl⟩:=List.mem_map.1 hp;rfl
 unfold ny;refine⟨List.pairwise_append.2 ⟨PD h3,h1,fun p hp q hq=>?_⟩,fun p hp=>?_⟩
 ·rw[h3 p hp]
  have:=(h2 q hq).1;omega
 ·rcases List.mem_append.1 hp with hp | hp
  ·rw[h3 p hp];omega
  ·have:=h2 p hp;omega
theorem VD {T N:List ByteArray}:∀ (rs:List Rl) (b:Nat),(gQ T N b rs).Pairwise (fun a b=>a.left<=b.left)/\∀ p∈gQ T N b rs,b<=p.left
 | [],b=>⟨List.Pairwise.nil,fun p hp=>by cases hp⟩
 | r::rs,b=>by
  obtain⟨h1,h2⟩:=VD (T:=T) (N:=N) rs (b+1+(aH 9 r.alts).length);obtain⟨h3,h4⟩:=afP (T:=T) (N:=N) (b:=b) (r:=r);rw[gQ];refine⟨List.pairwise_append.2 ⟨h3,h1,fun p hp q hq=>?_⟩,fun p hp=>?_⟩
  ·have:=(h4 p hp).2
   have:=h2 q hq;omega
  ·rcases List.mem_append.1 hp with hp | hp
   ·exact (h4 p hp).1
   ·have:=h2 p hp;omega
theorem ahz (g:Gr):(aU g).Pairwise fun a b=>a.left<=b.left:=by
 obtain⟨h1,h2⟩:=VD (T:=aA g) (N:=aN g) g.rules ((aA g).length+1);unfold aU;exact List.pairwise_cons.2 ⟨fun p hp=>by have:=h2 p hp;show (aA g).length<=_;omega,h1⟩
section
variable {g:Gr}
theorem PE (_hf:Fit g){s:Nat}(h1:(aA g).length<s)(h2:s<(aA g).length+(aN g).length):∃ j,∃ hj:j<g.rules.length,s=cZ ((aA g).length+1) g.rules j\/∃ k,k<(aH 9 g.rules[j].alts).length/\s=cZ ((aA g).length+1) g.rules j+1+k:=by
 have h3:=G5 g;obtain⟨j,hj,k,hk,e⟩:=YV g.rules (s - ((aA g).length+1)) (by omega);refine⟨j,hj,?_⟩;unfold cZ;cases k with
 | zero=>left;omega
 | succ k=>right;exact⟨k,by omega,by omega⟩
theorem aiI {T N:List ByteArray}{b:Nat}{H:List It}{x:It}(h:uS x):partsOf T N b H x≠[]:=by
 unfold partsOf
 split
 ·rename_i hk
  simpa using h.1 hk
 ·simp
theorem Qc (hf:Fit g)(hne:∀ r∈g.rules,AO r){s:Nat}(h1:(aA g).length<=s)(h2:s<(aA g).length+(aN g).length):∃ p∈aU g,p.left=s:=by
 by_cases h0:s=(aA g).length
 ·exact⟨_,List.mem_cons_self,h0.symm⟩
 ·obtain⟨j,hj,h | ⟨k,hk,h⟩⟩:=PE hf (by omega) h2
  ·have hn:=(hne _ (List.getElem_mem hj)).1
   obtain⟨a,l,e⟩:=List.exists_cons_of_ne_nil hn;refine⟨_,uq hj (rG.2 (.inl ⟨a,by rw[e];exact List.mem_cons_self,rfl⟩)),h.symm⟩
  ·have hx:=(hne _ (List.getElem_mem hj)).2 _ (G7 (List.getElem_mem hk))
   have hp:=aiI (T:=aA g) (N:=aN g) (b:=cZ ((aA g).length+1) g.rules j) (H:=aH 9 g.rules[j].alts) hx;obtain⟨r,l,e⟩:=List.exists_cons_of_ne_nil hp
   by_cases hm:(aH 9 g.rules[j].alts)[k].mark=42
   ·exact⟨_,uq hj (rG.2 (.inr ⟨k,hk,rF.2 (.inl ⟨.inl hm,rfl⟩)⟩)),h.symm⟩
   ·exact⟨_,uq hj (rG.2 (.inr ⟨k,hk,rF.2 (.inr (.inl ⟨hm,r,by rw[e];exact List.mem_cons_self,rfl⟩))⟩)),h.symm⟩
theorem Zz:∀ {d:Nat} {l:List Alt} {y:It},y∈aX d l->(∃ a∈l,y∈a.1)\/∃ x∈aX d l,∃ a∈x.alts,y∈a.1
 | 0,_,_,h=>by cases h
 | d+1,l,y,h=>by
  obtain⟨a,ha,x,hx,h⟩:=nQ.1 h;rcases h with rfl | h
  ·exact .inl ⟨a,ha,hx⟩
  ·right
   rcases Zz h with ⟨c,hc,hy⟩ | ⟨z,hz,c,hc,hy⟩
   ·exact⟨x,nQ.2 ⟨a,ha,x,hx,.inl rfl⟩,c,hc,hy⟩
   ·exact⟨z,nQ.2 ⟨a,ha,x,hx,.inr hz⟩,c,hc,hy⟩
theorem Ck (_hf:Fit g){j:Nat}(hj:j<g.rules.length){x:It}(hx:x∈aX 9 g.rules[j].alts)(hh:hlp x=true):∃ k,∃ hk:k<(aH 9 g.rules[j].alts).length,(aH 9 g.rules[j].alts)[k]=x:=by
 obtain⟨k,hk,e⟩:=List.getElem_of_mem (List.mem_filter.2 ⟨hx,hh⟩:x∈aH 9 g.rules[j].alts);exact⟨k,hk,e⟩
theorem Yb {j:Nat}(hj:j<g.rules.length){k:Nat}(hk:k<(aH 9 g.rules[j].alts).length){r:List Nat}(hr:r∈partsOf (aA g) (aN g) (cZ ((aA g).length+1) g.rules j) (aH 9 g.rules[j].alts) (aH 9 g.rules[j].alts)[k]){s:Nat}(hs:s∈r):∃ p∈aU g,s∈p.right:=by
 by_cases hm:(aH 9 g.rules[j].alts)[k].mark=42
 ·exact⟨_,uq hj (rG.2 (.inr ⟨k,hk,rF.2 (.inr (.inr ⟨.inl hm,r,hr,rfl⟩))⟩)),List.mem_cons_of_mem _ hs⟩
 ·exact⟨_,uq hj (rG.2 (.inr ⟨k,hk,rF.2 (.inr (.inl ⟨hm,r,hr,rfl⟩))⟩)),hs⟩
theorem Yc (hf:Fit g){j:Nat}(hj:j<g.rules.length){y:It}(hy:y∈aX 9 g.rules[j].alts):∃ p∈aU g,fT (aA g) (aN g) (cZ ((aA g).length+1) g.rules j) (aH 9 g.rules[j].alts) y∈p.right:=by
 rcases Zz hy with ⟨a,ha,hya⟩ | ⟨x,hx,a,ha,hya⟩
 ·exact⟨_,uq hj (rG.2 (.inl ⟨a,ha,rfl⟩)),List.mem_map.2 ⟨y,hya,rfl⟩⟩
 ·have hk:x.kind=2:=by
   rcases (hf.rl _ (List.getElem_mem hj)).2.1 x hx with ⟨-,-,e⟩ | ⟨-,-,e⟩ | e
   ·rw[e]at ha;cases ha
   ·rw[e]at ha;cases ha
   ·exact e
  obtain⟨k,hk2,e⟩:=Ck hf hj hx (by unfold hlp;simp[hk]);refine Yb hj hk2 (r:=gY (aA g) (aN g) (cZ ((aA g).length+1) g.rules j) (aH 9 g.rules[j].alts) a.1) ?_ (List.mem_map.2 ⟨y,hya,rfl⟩);rw[e];unfold partsOf;rw[if_pos hk];exact List.mem_map.2 ⟨a,ha,rfl⟩
theorem agB (hf:Fit g){j:Nat}(hj:j<g.rules.length){y:It}(hy:y∈aX 9 g.rules[j].alts)(hk:y.kind≠2):∃ p∈aU g,fU (aA g) (aN g) y∈p.right:=by
 by_cases hh:hlp y=true
 ·obtain⟨k,hk2,e⟩:=Ck hf hj hy hh
  refine Yb hj hk2 (r:=[fU (aA g) (aN g) y]) ?_ List.mem_cons_self;rw[e];unfold partsOf;rw[if_neg hk];exact List.mem_cons_self
 ·obtain⟨p,hp,h⟩:=Yc hf hj hy
  unfold fT at h;rw[if_neg hh]at h;exact⟨p,hp,h⟩
theorem Yd:∀ {d:Nat} {l:List Alt} {b:ByteArray},b∈eX ((dD d l).filter fun w=>decide (w.1=2))->∃ y∈aX d l,y.kind=0/\y.name=b
 | 0,_,_,h=>by cases h
 | d+1,l,b,h=>by
  obtain⟨w,hw,rfl⟩:=List.mem_map.1 h;obtain⟨hw,hk⟩:=List.mem_filter.1 hw;have hk:=of_decide_eq_true hk;rw[Er]at hw;obtain⟨a,ha,hw⟩:=List.mem_flatMap.1 hw;unfold qd at hw;rcases List.mem_append.1 hw with hw | hw
  ·obtain⟨x,hx,hw⟩:=List.mem_flatMap.1 hw
   unfold j6 at hw;rcases List.mem_append.1 hw with hw | hw
   ·split at hw
    ·rename_i h0
     rw[List.mem_singleton.1 hw];exact⟨x,nQ.2 ⟨a,ha,x,hx,.inl rfl⟩,h0,rfl⟩
    ·split at hw
     ·rw[List.mem_singleton.1 hw]at hk;cases hk
     ·cases hw
   ·obtain⟨y,hy,h1,h2⟩:=Yd (d:=d) (l:=x.alts) (b:=w.2.1) (List.mem_map.2 ⟨w,List.mem_filter.2 ⟨hw,decide_eq_true hk⟩,rfl⟩)
    exact⟨y,nQ.2 ⟨a,ha,x,hx,.inr hy⟩,h1,h2⟩
  ·split at hw
   ·cases hw
   ·rw[List.mem_singleton.1 hw]at hk;cases hk
theorem Qd:∀ {rs:List Rl} {bs:List Bool},rs.length=bs.length->eF rs bs=none->∀ i,i<bs.length->au bs i=true
 | [],[],_,_,i,h=>by simp at h
 | _::_,b::bs,hl,h,i,hi=>by
  rw[eF]at h
  split at h
  ·rename_i hb
   cases i with
   | zero=>simpa [au]using hb
   | succ i =>
    have:=Qd (by simpa using hl) h i (by simpa using hi);simpa [au]using this
  ·cases h
 | [],_::_,hl,_,_,_=>by simp at hl
 | _::_,[],hl,_,_,_=>by simp at hl
theorem ZA (h:(dF g).1=0):eF g.rules (xC g)=none/\eF g.rules (vM g)=none:=by
 obtain⟨h1,h2⟩:=P7 h;unfold dF at h;rw[h1,h2]at h;cases h3:eF g.rules (xC g) with
 | some p=>rw[h3]at h;simp[iL]at h
 | none =>
  rw[h3]at h;cases h4:eF g.rules (vM g) with
  | some p=>rw[h4]at h;simp[iL]at h
  | none=>exact⟨rfl,rfl⟩
def EZ (n:Nat)(P:Nat->Prop) [DecidablePred P]:List Bool:=(List.range n).map fun i=>decide (P i)
theorem EC {n:Nat}{P:Nat->Prop} [DecidablePred P] {i:Nat}(hi:i<n):au (EZ n P) i=true↔P i:=by
 unfold au EZ;simp[hi]
theorem Ew {n:Nat}{P:Nat->Prop} [DecidablePred P]:(EZ n P).length=n:=by simp[EZ]
theorem ajF (l:List ByteArray)(b:ByteArray):jI l b=fix l b:=rfl
theorem Qy {i:Nat}(hi:i<g.rules.length){b:ByteArray}(h:jI (aG g) b=i):g.rules[i].name=b:=by
 have hl:jI (aG g) b<(aG g).length:=by rw[h];simpa [aG]using hi
 have:=List.findIdx_getElem (p:=fun x=>decide (x=b)) (xs:=aG g) (w:=hl);have e:=of_decide_eq_true this;subst h;simpa [aG,jI]using e
open Classical in
theorem ahA (hf:Fit g)(nd:(g.rules.map Rl.name).Nodup)(hc:(dF g).1=0){s:Nat}(h1:(aA g).length<s)(h2:s<(aA g).length+(aN g).length):∃ p∈aU g,s∈p.right:=by
 obtain⟨j,hj,h | ⟨k,hk,h⟩⟩:=PE hf h1 h2
 ·by_cases h0:j=0
  ·subst h0
   refine⟨_,List.mem_cons_self,?_⟩;rw[h];show cZ _ _ 0∈[_];simp[cZ]
  ·have hL:sK (zo g) g.rules.length ((List.replicate g.rules.length false).set 0 true) (xC g):=Wz g g.rules.length (g.rules.length+1) ((List.replicate g.rules.length false).set 0 true) (by simp) (lr0)
   have hT:=hL.least (EZ g.rules.length fun i=>i=0\/∃ p∈aU g,cZ ((aA g).length+1) g.rules i∈p.right) Ew ⟨by rw[Ew];simp,fun i hi=>?_⟩ (fun i hi hat b hb hlt=>?_)
   ·have hall:=Qd (by rw[hL.len]) (ZA hc).1 j (by rw[hL.len];exact hj)
    have:=(EC hj).1 (hT.2 j hall);rcases this with h' | h'
    ·exact absurd h' h0
    ·rw[h];exact h'
   ·rw[at_set]at hi
    split at hi
    ·rename_i he
     rw[<-he.1];exact (EC (by simpa using he.2)).2 (.inl rfl)
    ·simp[au,List.getElem?_replicate]at hi
     split at hi <;> simp at hi
   ·rw[Ew]at hlt
    refine (EC hlt).2 (.inr ?_);have hai:jD g i=g.rules[i].alts:=by unfold jD;simp[hi]
    rw[hai]at hb;obtain⟨y,hy,hk,hn⟩:=Yd hb;obtain⟨p,hp,h⟩:=agB hf hi hy (by omega);refine⟨p,hp,?_⟩;rw[<-Le hf nd hlt,Qy hlt rfl,<-hn];unfold fU at h;rw[if_neg (by omega)]at h;exact h
 ·have hx:=G7 (List.getElem_mem hk)
  obtain⟨p,hp,hs⟩:=Yc hf hj hx;refine⟨p,hp,?_⟩;have hh:hlp (aH 9 g.rules[j].alts)[k]=true:=(List.mem_filter.1 (List.getElem_mem hk)).2;unfold fT at hs;rw[if_pos hh]at hs;have hfx:qO (aH 9 g.rules[j].alts) (aH 9 g.rules[j].alts)[k].place=k:=((Lb (hf.rise (List.getElem_mem hj)) hk (Lr (List.getElem_mem hk))).1 rfl).symm;rw[hfx]at hs;rw[h];exact hs
end
end Lx
end
namespace Lx
theorem aiJ {a b:List Bool}(h:bO a b)(k:bO b a):a=b:=Am h.1 fun i _=>by
 have h1:=h.2 i;have h2:=k.2 i;cases ha:au a i <;> cases hb:au b i <;> simp_all
theorem Ye:∀ {P:List Pd} {E:List Bool},bW P E=E->∀ p∈P,mD E p=E
 | [],_,_,p,hp=>by cases hp
 | q::P,E,h,p,hp=>by
  have h1:bW P (mD E q)=E:=h;have h2:mD E q=E:=(aiJ (YL E q) (by have:=G8 P (mD E q);rw[h1]at this;exact this)).symm;rcases List.mem_cons.1 hp with rfl | hp
  ·exact h2
  ·rw[h2]at h1
   exact Ye h1 p hp
theorem ahB {P:List Pd}{E:List Bool}(h:bW P E=E){p:Pd}(hp:p∈P)(hl:p.left<E.length)(hr:∀ s∈p.right,au E s=true):au E p.left=true:=by
 have h1:=Ye h p hp;rw[ahx (List.all_eq_true.2 hr)]at h1;rw[<-h1,at_set,if_pos ⟨rfl,hl⟩]
section
variable {g:Gr}
structure Ends (g:Gr) (E:List Bool):Prop where
 len:E.length=(aA g).length+(aN g).length
 tok:∀ s,s<(aA g).length->au E s=true
 cl:∀ p∈aU g,(∀ s∈p.right,au E s=true)->au E p.left=true
def onE (g:Gr)(E:List Bool)(b:ByteArray):Bool:=au E ((aA g).length+fix (aN g) b)
theorem Ends.help {E:List Bool}(h:Ends g E){j:Nat}(hj:j<g.rules.length){k:Nat}(hk:k<(aH 9 g.rules[j].alts).length)(hp:(aH 9 g.rules[j].alts)[k].mark=42\/(aH 9 g.rules[j].alts)[k].mark=63\/∃ r∈partsOf (aA g) (aN g) (cZ ((aA g).length+1) g.rules j) (aH 9 g.rules[j].alts) (aH 9 g.rules[j].alts)[k],∀ s∈r,au E s=true):au E (cZ ((aA g).length+1) g.rules j+1+k)=true:=by
 by_cases hm:(aH 9 g.rules[j].alts)[k].mark=42\/(aH 9 g.rules[j].alts)[k].mark=63
 ·exact h.cl _ (uq hj (rG.2 (.inr ⟨k,hk,rF.2 (.inl ⟨hm,rfl⟩)⟩))) (fun s hs=>by cases hs)
 ·rcases hp with hp | hp | ⟨r,hr,hs⟩
  ·exact absurd (.inl hp) hm
  ·exact absurd (.inr hp) hm
  ·exact h.cl _ (uq hj (rG.2 (.inr ⟨k,hk,rF.2 (.inr (.inl ⟨fun e=>hm (.inl e),r,hr,rfl⟩))⟩))) hs
theorem LF (hf:Fit g){j:Nat}(hj:j<g.rules.length){k:Nat}(hk:k<(aH 9 g.rules[j].alts).length):qO (aH 9 g.rules[j].alts) (aH 9 g.rules[j].alts)[k].place=k:=((Lb (hf.rise (List.getElem_mem hj)) hk (Lr (List.getElem_mem hk))).1 rfl).symm
theorem Ends.item (hf:Fit g){E:List Bool}(h:Ends g E){j:Nat}(hj:j<g.rules.length){x:It}(hx:x∈aX 9 g.rules[j].alts)(hp:x.mark=42\/x.mark=63\/(x.kind=1)\/(x.kind=0/\onE g E x.name=true)\/(x.kind=2/\∃ a∈x.alts,∀ y∈a.1,au E (fT (aA g) (aN g) (cZ ((aA g).length+1) g.rules j) (aH 9 g.rules[j].alts) y)=true)):au E (fT (aA g) (aN g) (cZ ((aA g).length+1) g.rules j) (aH 9 g.rules[j].alts) x)=true:=by
 have hm:g.rules[j]∈g.rules:=List.getElem_mem hj;have hpl:x.kind=1\/(x.kind=0/\onE g E x.name=true)->au E (fU (aA g) (aN g) x)=true:=by
  rintro (hk | ⟨hk,ho⟩)
  ·unfold fU
   rw[if_pos hk];have:=hf.plain hm hx (by omega);unfold qi at this;rw[if_pos hk]at this;exact h.tok _ (Cj this)
  ·unfold fU
   rw[if_neg (by omega)];exact ho
 by_cases hh:hlp x=true
 ·obtain⟨k,hk,e⟩:=Ck hf hj hx hh
  unfold fT;rw[if_pos hh];have hfx:=LF hf hj hk;rw[e]at hfx;rw[hfx];refine h.help hj hk ?_;rw[e];rcases hp with hp | hp | hp | hp | ⟨hk2,a,ha,hy⟩
  ·exact .inl hp
  ·exact .inr (.inl hp)
  ·refine .inr (.inr ⟨[fU (aA g) (aN g) x],?_,fun s hs=>?_⟩)
   ·unfold partsOf;rw[if_neg (by omega)];exact List.mem_cons_self
   ·rw[List.mem_singleton.1 hs];exact hpl (.inl hp)
  ·refine .inr (.inr ⟨[fU (aA g) (aN g) x],?_,fun s hs=>?_⟩)
   ·unfold partsOf;rw[if_neg (by omega)];exact List.mem_cons_self
   ·rw[List.mem_singleton.1 hs];exact hpl (.inr hp)
  ·refine .inr (.inr ⟨gY (aA g) (aN g) (cZ ((aA g).length+1) g.rules j) (aH 9 g.rules[j].alts) a.1,?_,fun s hs=>?_⟩)
   ·unfold partsOf;rw[if_pos hk2];exact List.mem_map.2 ⟨a,ha,rfl⟩
   ·obtain⟨y,hy2,rfl⟩:=List.mem_map.1 hs
    exact hy y hy2
 ·unfold fT
  rw[if_neg hh];have JM:¬ (x.kind=2)/\x.mark=0:=by
   unfold hlp at hh;simp only[Bool.or_eq_true,decide_eq_true_eq,not_or,ne_eq,Decidable.not_not]at hh;exact hh
  rcases hp with hp | hp | hp | hp | hp
  ·omega
  ·omega
  ·exact hpl (.inl hp)
  ·exact hpl (.inr hp)
  ·exact absurd hp.1 JM.1
theorem Ends.alts (hf:Fit g) {E:List Bool} (h:Ends g E) {j:Nat} (hj:j<g.rules.length) {on:ByteArray->Bool}:∀ {d:Nat} {l:List Alt},(∀ a∈l,∀ x∈a.1,x∈aX 9 g.rules[j].alts)->(∀ x∈aX 9 g.rules[j].alts,x.kind=0->on x.name=true->onE g E x.name=true)->ig on d l=true->∃ a∈l,∀ x∈a.1,au E (fT (aA g) (aN g) (cZ ((aA g).length+1) g.rules j) (aH 9 g.rules[j].alts) x)=true
 | 0,_,_,_,e=>by cases e
 | d+1,l,hl,ho,e=>by
  rw[ig,List.any_eq_true]at e;obtain⟨a,ha,hx⟩:=e;rw[List.all_eq_true]at hx;refine⟨a,ha,fun x hxa=>?_⟩;have hxi:=hl a ha x hxa;have hx:=hx x hxa;simp only[Bool.or_eq_true,Bool.and_eq_true,decide_eq_true_eq]at hx;refine h.item hf hj hxi ?_;rcases hx with ((((t | t) | t) | t) | t)
  ·exact .inr (.inr (.inl t))
  ·exact .inl t
  ·exact .inr (.inl t)
  ·exact .inr (.inr (.inr (.inl ⟨t.1,ho x hxi t.1 t.2⟩)))
  ·exact .inr (.inr (.inr (.inr ⟨t.1,Ends.alts hf h hj (fun b hb y hy=>Cg (hf.dp _ (List.getElem_mem hj)) hxi hb hy) ho t.2⟩)))
theorem Ends.rule (_hf:Fit g){E:List Bool}(h:Ends g E){j:Nat}(hj:j<g.rules.length)(hx:∃ a∈g.rules[j].alts,∀ x∈a.1,au E (fT (aA g) (aN g) (cZ ((aA g).length+1) g.rules j) (aH 9 g.rules[j].alts) x)=true):au E (cZ ((aA g).length+1) g.rules j)=true:=by
 obtain⟨a,ha,hx⟩:=hx;refine h.cl (jF (aA g) (aN g) (cZ ((aA g).length+1) g.rules j) (aH 9 g.rules[j].alts) a) (uq hj (rG.2 (.inl ⟨a,ha,rfl⟩))) fun s hs=>?_
 obtain⟨x,hxa,rfl⟩:=List.mem_map.1 hs;exact hx x hxa
theorem Ends.rules (hf:Fit g)(nd:(g.rules.map Rl.name).Nodup)(hc:(dF g).1=0){E:List Bool}(h:Ends g E){j:Nat}(hj:j<g.rules.length):au E (cZ ((aA g).length+1) g.rules j)=true:=by
 have hL:sK (pF g) g.rules.length (List.replicate g.rules.length false) (vM g):=Xw g g.rules.length (g.rules.length+1) _ (by simp) (lr0);have hT:=hL.least (EZ g.rules.length fun i=>au E (cZ ((aA g).length+1) g.rules i)=true) Ew ⟨by rw[Ew];simp,fun i hi=>?_⟩ (fun i hi hat hlt=>?_)
 ·exact (EC hj).1 (hT.2 j (Qd (by rw[hL.len]) (ZA hc).2 j (by rw[hL.len];exact hj)))
 ·simp[au,List.getElem?_replicate]at hi
  split at hi <;> simp at hi
 ·refine (EC hi).2 ?_
  have hai:jD g i=g.rules[i].alts:=by unfold jD;simp[hi]
  rw[hai]at hat;refine h.rule hf hi (h.alts hf hi (fun a ha x hx=>P9 ha hx 8) (fun x hx hk ho=>?_) hat);unfold dK at ho;have hlt2:jI (aG g) x.name<g.rules.length:=by
   rcases Nat.lt_or_ge (jI (aG g) x.name) g.rules.length with h' | h'
   ·exact h'
   ·unfold au at ho
    rw[List.getElem?_eq_none (by rw[Ew];exact h')]at ho;cases ho
  have h1:=(EC hlt2).1 ho;rw[<-Le hf nd hlt2,Qy hlt2 rfl]at h1;exact h1
theorem Ends.its (hf:Fit g) (hne:∀ r∈g.rules,AO r) (nd:(g.rules.map Rl.name).Nodup) (hc:(dF g).1=0) {E:List Bool} (h:Ends g E) {j:Nat} (hj:j<g.rules.length):∀ (d:Nat) (l:List Alt),(∀ x∈aX d l,x∈aX 9 g.rules[j].alts)->Dp d l->∀ x∈aX d l,au E (fT (aA g) (aN g) (cZ ((aA g).length+1) g.rules j) (aH 9 g.rules[j].alts) x)=true
 | 0,_,_,_,x,hx=>by cases hx
 | d+1,l,hl,hd,x,hx=>by
  obtain⟨a,ha,y,hy,hx2⟩:=nQ.1 hx;have hsub:∀ z∈aX d y.alts,z∈aX 9 g.rules[j].alts:=fun z hz=>hl z (nQ.2 ⟨a,ha,y,hy,.inr hz⟩)
  have ih:=Ends.its hf hne nd hc h hj d y.alts hsub (hd a ha y hy);rcases hx2 with rfl | hx2
  ·have hxi:=hl x hx
   refine h.item hf hj hxi ?_;rcases (hf.rl _ (List.getElem_mem hj)).2.1 x hxi with ⟨k,hn,-⟩ | ⟨k,-⟩ | k
   ·refine .inr (.inr (.inr (.inl ⟨k,?_⟩)))
    have hu:=Ah (hf.Fj (List.getElem_mem hj)) hxi k;have hlt2:jI (aG g) x.name<g.rules.length:=by
     have:=Cj hu;rw[ajF];simpa [aG]using this
    have h1:=h.rules hf nd hc hlt2;rw[<-Le hf nd hlt2,Qy hlt2 rfl]at h1;exact h1
   ·exact .inr (.inr (.inl k))
   ·have hnn:=((hne _ (List.getElem_mem hj)).2 x hxi).1 k
    obtain⟨c,t,e⟩:=List.exists_cons_of_ne_nil hnn;refine .inr (.inr (.inr (.inr ⟨k,c,by rw[e];exact List.mem_cons_self,fun z hz=>?_⟩)));cases d with
    | zero =>
     have:=hd a ha x hy;rw[show x.alts=[] from this]at e;cases e
    | succ d=>exact ih z (nQ.2 ⟨c,by rw[e];exact List.mem_cons_self,z,hz,.inl rfl⟩)
  ·exact ih x hx2
theorem Ends.all (hf:Fit g)(hne:∀ r∈g.rules,AO r)(nd:(g.rules.map Rl.name).Nodup)(hc:(dF g).1=0){E:List Bool}(h:Ends g E){s:Nat}(hs:s<(aA g).length+(aN g).length):au E s=true:=by
 by_cases h1:s<(aA g).length
 ·exact h.tok s h1
 ·by_cases h0:s=(aA g).length
  ·rw[h0]
   refine h.cl ⟨(aA g).length,[(aA g).length+1],-1⟩ List.mem_cons_self fun u hu=>?_
   rw[List.mem_singleton.1 hu];have:=h.rules hf nd hc hf.ne;simpa [cZ]using this
  ·obtain⟨j,hj,e | ⟨k,hk,e⟩⟩:=PE hf (by omega) hs
   ·rw[e];exact h.rules hf nd hc hj
   ·have:=h.its hf hne nd hc hj 9 g.rules[j].alts (fun _ h=>h) (hf.dp _ (List.getElem_mem hj)) _ (G7 (List.getElem_mem hk))
    unfold fT at this;rw[if_pos (List.mem_filter.1 (List.getElem_mem hk)).2,LF hf hj hk]at this;rw[e];exact this
theorem afQ (hf:Fit g)(hne:∀ r∈g.rules,AO r)(nd:(g.rules.map Rl.name).Nodup)(hc:(dF g).1=0){E0:List Bool}(hl:E0.length=(aA g).length+(aN g).length)(ht:∀ s,s<(aA g).length->au E0 s=true){s:Nat}(hs:s<(aA g).length+(aN g).length):au (gq (bW (aU g)) (aU g).length E0) s=true:=by
 have hok:yV ((aA g).length+(aN g).length) (aU g):=(Qa hf).1;have hle:∀ k,bO E0 (gq (bW (aU g)) k E0):=fun k=>by
  induction k with
  | zero=>exact bO.refl _
  | succ k ih=>exact ih.trans (G8 _ _)
 rcases ZY hl hok (aU g).length with h | h
 ·refine Ends.all hf hne nd hc ⟨(LD _ _ _).trans hl,fun u hu=>(hle _).2 u (ht u hu),fun p hp hr=>ahB h hp ?_ hr⟩ hs
  rw[LD,hl];exact (hok p hp).1
 ·by_cases h1:s<(aA g).length
  ·exact (hle _).2 s (ht s h1)
  ·obtain⟨p,hp,e⟩:=Qc hf hne (by omega) hs
   unfold NU at h;have h2:=List.countP_eq_length.1 (Nat.le_antisymm List.countP_le_length h) p hp;rw[<-e];exact h2
end
inductive Sy where
 | s (n:Nat)
 | r (l:List Nat)
inductive dQ (P:List Pd) (row:List Nat):Sy->Nat->Nat->Prop
 | tok {a s:Nat} (h:row[a]?=some s):dQ P row (.s s) a (a+1)
 | pr {p:Pd} {a b:Nat} (h:p∈P) (k:dQ P row (.r p.right) a b):dQ P row (.s p.left) a b
 | nil {a:Nat}:dQ P row (.r []) a a
 | cons {s:Nat} {l:List Nat} {a b c:Nat} (h:dQ P row (.s s) a c) (k:dQ P row (.r l) c b):dQ P row (.r (s::l)) a b
inductive Nd where
 | A (l:List Alt)
 | S (l:List It)
 | I (x:It)
 | P (x:It)
inductive MR (R:ByteArray->Nat->Nat->Prop) (row:List ByteArray):Nd->Nat->Nat->Prop
 | alt {l:List Alt} {al:Alt} {a b:Nat} (h:al∈l) (k:MR R row (.S al.1) a b):MR R row (.A l) a b
 | nil {a:Nat}:MR R row (.S []) a a
 | cons {x:It} {l:List It} {a b c:Nat} (h:MR R row (.I x) a c) (k:MR R row (.S l) c b):MR R row (.S (x::l)) a b
 | one {x:It} {a b:Nat} (h:MR R row (.P x) a b):MR R row (.I x) a b
 | non {x:It} {a:Nat} (h:x.mark=42\/x.mark=63):MR R row (.I x) a a
 | more {x:It} {a b c:Nat} (h:x.mark=42\/x.mark=43) (k:MR R row (.I x) a c) (n:MR R row (.P x) c b):MR R row (.I x) a b
 | tok {x:It} {a:Nat} (h:x.kind=1) (k:row[a]?=some x.name):MR R row (.P x) a (a+1)
 | aF {x:It} {a b:Nat} (h:x.kind=2) (k:MR R row (.A x.alts) a b):MR R row (.P x) a b
 | rA {x:It} {a b:Nat} (h:x.kind=0) (k:R x.name a b):MR R row (.P x) a b
inductive Mn (rs:List Rl) (row:List ByteArray):Nd->Nat->Nat->Prop
 | alt {l:List Alt} {al:Alt} {a b:Nat} (h:al∈l) (k:Mn rs row (.S al.1) a b):Mn rs row (.A l) a b
 | nil {a:Nat}:Mn rs row (.S []) a a
 | cons {x:It} {l:List It} {a b c:Nat} (h:Mn rs row (.I x) a c) (k:Mn rs row (.S l) c b):Mn rs row (.S (x::l)) a b
 | one {x:It} {a b:Nat} (h:Mn rs row (.P x) a b):Mn rs row (.I x) a b
 | non {x:It} {a:Nat} (h:x.mark=42\/x.mark=63):Mn rs row (.I x) a a
 | more {x:It} {a b c:Nat} (h:x.mark=42\/x.mark=43) (k:Mn rs row (.I x) a c) (n:Mn rs row (.P x) c b):Mn rs row (.I x) a b
 | tok {x:It} {a:Nat} (h:x.kind=1) (k:row[a]?=some x.name):Mn rs row (.P x) a (a+1)
 | aF {x:It} {a b:Nat} (h:x.kind=2) (k:Mn rs row (.A x.alts) a b):Mn rs row (.P x) a b
 | rA {x:It} {r:Rl} {a b:Nat} (h:x.kind=0) (hr:r∈rs) (e:r.name=x.name) (k:Mn rs row (.A r.alts) a b):Mn rs row (.P x) a b
theorem MR.whole {rs:List Rl}{row:List ByteArray}{R:ByteArray->Nat->Nat->Prop}(hR:∀ b i j,R b i j->∃ r∈rs,r.name=b/\Mn rs row (.A r.alts) i j){n:Nd}{a b:Nat}(h:MR R row n a b):Mn rs row n a b:=by
 induction h with
 | alt h _ ih=>exact .alt h ih
 | nil=>exact .nil
 | cons _ _ i1 i2=>exact .cons i1 i2
 | one _ ih=>exact .one ih
 | non h=>exact .non h
 | more h _ _ i1 i2=>exact .more h i1 i2
 | tok h k=>exact .tok h k
 | aF h _ ih=>exact .aF h ih
 | rA h k=>obtain⟨r,hr,e,k⟩:=hR _ _ _ k;exact .rA h hr e k
theorem Mn.by {rs:List Rl}{row:List ByteArray}{R:ByteArray->Nat->Nat->Prop}(hR:∀ r∈rs,∀ i j,MR R row (.A r.alts) i j->R r.name i j){n:Nd}{a b:Nat}(h:Mn rs row n a b):MR R row n a b:=by
 induction h with
 | alt h _ ih=>exact .alt h ih
 | nil=>exact .nil
 | cons _ _ i1 i2=>exact .cons i1 i2
 | one _ ih=>exact .one ih
 | non h=>exact .non h
 | more h _ _ i1 i2=>exact .more h i1 i2
 | tok h k=>exact .tok h k
 | aF h _ ih=>exact .aF h ih
 | rA h hr e _ ih=>exact .rA h (e ▸ hR _ hr _ _ ih)
variable {g:Gr}
theorem Yf {b:Nat}{rs:List Rl}{j:Nat}(hj:j<rs.length):cZ b rs (j+1)=cZ b rs j+1+(aH 9 rs[j].alts).length:=by
 unfold cZ;rw[List.take_add_one,List.getElem?_eq_getElem hj,List.flatMap_append,List.length_append];simp only[Option.toList,List.flatMap_cons,List.flatMap_nil,List.append_nil,vg];omega
theorem Qz {b:Nat} {rs:List Rl} {i:Nat} (hi:i<rs.length):∀ j,i<j->cZ b rs i+1+(aH 9 rs[i].alts).length<=cZ b rs j
 | 0,h=>by omega
 | j+1,h=>by
  by_cases e:i=j
  ·subst e;rw[Yf hi];exact lr0
  ·have h1:=Qz (b:=b) hi j (by omega)
   by_cases hj:j<rs.length
   ·rw[Yf (b:=b) hj];omega
   ·have:cZ b rs (j+1)=cZ b rs j:=by unfold cZ;rw[List.take_of_length_le (by omega),List.take_of_length_le (by omega)]
    omega
theorem Lf {b:Nat}{rs:List Rl}{i j:Nat}(hi:i<rs.length)(hj:j<rs.length){k l:Nat}(hk:k<=(aH 9 rs[i].alts).length)(hl:l<=(aH 9 rs[j].alts).length)(e:cZ b rs i+k=cZ b rs j+l):i=j/\k=l:=by
 rcases Nat.lt_trichotomy i j with h | h | h
 ·have:=Qz (b:=b) hi j h;omega
 ·subst h;exact⟨rfl,by omega⟩
 ·have:=Qz (b:=b) hj i h;omega
def bs (g:Gr)(j:Nat):Nat:=cZ ((aA g).length+1) g.rules j
def sy (g:Gr)(j:Nat)(hj:j<g.rules.length)(x:It):Nat:=fT (aA g) (aN g) (bs g j) (aH 9 g.rules[j].alts) x
def NV (g:Gr)(j:Nat)(hj:j<g.rules.length)(l:List It):List Nat:=gY (aA g) (aN g) (bs g j) (aH 9 g.rules[j].alts) l
def pts (g:Gr)(j:Nat)(hj:j<g.rules.length)(x:It):List (List Nat):=partsOf (aA g) (aN g) (bs g j) (aH 9 g.rules[j].alts) x
structure Sm (g:Gr) (row:List Nat) (nm:List ByteArray) (s a b:Nat):Prop where
 tok:s<(aA g).length->row[a]?=some s/\b=a+1
 st:s=(aA g).length->∀ h:0<g.rules.length,Mn g.rules nm (.A g.rules[0].alts) a b
 rl:∀ j (hj:j<g.rules.length),s=bs g j->Mn g.rules nm (.A g.rules[j].alts) a b
 hp:∀ j (hj:j<g.rules.length) k (hk:k<(aH 9 g.rules[j].alts).length),s=bs g j+1+k->Mn g.rules nm (.I (aH 9 g.rules[j].alts)[k]) a b
def tX (g:Gr) (row:List Nat) (nm:List ByteArray):List Nat->Nat->Nat->Prop
 | [],a,b=>a=b
 | s::l,a,b=>∃ c,Sm g row nm s a c/\tX g row nm l c b
def uU (g:Gr)(row:List Nat)(nm:List ByteArray):Prop:=(∀ s∈row,s<(aA g).length)/\∀ a:Nat,nm[a]?=(row[a]?).bind fun s=>(aA g)[s]?
theorem agC (g:Gr):(aA g).Nodup:=Ox _ _ (by simp)
theorem YW {l:List ByteArray}{b:ByteArray}(h:0<=bA l b):l[fix l b]?=some b:=by
 have hl:=(uo h).2;rw[List.getElem?_eq_getElem hl];exact congrArg some (of_decide_eq_true (List.findIdx_getElem (w:=hl)))
theorem ajp {x:It}(hf:Fit g){j:Nat}(hj:j<g.rules.length)(hx:x∈aX 9 g.rules[j].alts)(hk:x.kind=0):∃ i,∃ hi:i<g.rules.length,g.rules[i].name=x.name:=by
 have h1:=iG.1 (Ah (hf.Fj (List.getElem_mem hj)) hx hk);obtain⟨r,hr,e⟩:=List.mem_map.1 h1;obtain⟨i,hi,rfl⟩:=List.getElem_of_mem hr;exact⟨i,hi,e⟩
theorem Yg {x:It}(hf:Fit g)(nd:(g.rules.map Rl.name).Nodup)(hk:x.kind=0){i:Nat}(hi:i<g.rules.length)(e:g.rules[i].name=x.name):fU (aA g) (aN g) x=bs g i:=by
 unfold fU;rw[if_neg (by omega),<-e];exact Le hf nd hi
section
variable {row:List Nat} {nm:List ByteArray}
theorem Sm.plain (hf:Fit g)(nd:(g.rules.map Rl.name).Nodup)(hw:uU g row nm){j:Nat}(hj:j<g.rules.length){x:It}(hx:x∈aX 9 g.rules[j].alts)(hk:x.kind≠2){a b:Nat}(h:Sm g row nm (fU (aA g) (aN g) x) a b):Mn g.rules nm (.P x) a b:=by
 rcases (hf.rl _ (List.getElem_mem hj)).2.1 x hx with ⟨k,-,-⟩ | ⟨k,-,-⟩ | k
 ·obtain⟨i,hi,e⟩:=ajp hf hj hx k
  exact .rA k (List.getElem_mem hi) e (h.rl i hi (Yg hf nd k hi e))
 ·have e:fU (aA g) (aN g) x=fix (aA g) x.name:=by unfold fU;rw[if_pos k]
  have h2:=Qp (List.getElem_mem hj) hx k;rw[e]at h;obtain⟨h3,rfl⟩:=h.tok (uo h2).2;refine .tok k ?_;rw[hw.2,h3];exact YW h2
 ·exact absurd k hk
theorem Z0 {x:It}(h:¬ hlp x=true):x.kind≠2/\x.mark=0:=by
 unfold hlp at h;simp at h;exact h
theorem Sm.item (hf:Fit g)(nd:(g.rules.map Rl.name).Nodup)(hw:uU g row nm){j:Nat}(hj:j<g.rules.length){x:It}(hx:x∈aX 9 g.rules[j].alts){a b:Nat}(h:Sm g row nm (sy g j hj x) a b):Mn g.rules nm (.I x) a b:=by
 unfold sy fT at h
 split at h
 ·rename_i hh
  obtain⟨k,hk,rfl⟩:=Ck hf hj hx hh;rw[LF hf hj hk]at h;exact h.hp j hj k hk rfl
 ·rename_i hh
  exact .one (h.plain hf nd hw hj hx (Z0 hh).1)
theorem tX.items (hf:Fit g) (nd:(g.rules.map Rl.name).Nodup) (hw:uU g row nm) {j:Nat} (hj:j<g.rules.length):∀ {l:List It},(∀ x∈l,x∈aX 9 g.rules[j].alts)->∀ {a b:Nat},tX g row nm (NV g j hj l) a b->Mn g.rules nm (.S l) a b
 | [],_,a,b,h=>by cases (show a=b from h);exact .nil
 | x::l,hl,a,b,h=>by
  obtain⟨c,h1,h2⟩:=h;exact .cons (Sm.item hf nd hw hj (hl x List.mem_cons_self) h1) (tX.items hf nd hw hj (fun y hy=>hl y (List.mem_cons_of_mem _ hy)) h2)
theorem tX.part (hf:Fit g)(nd:(g.rules.map Rl.name).Nodup)(hw:uU g row nm){j:Nat}(hj:j<g.rules.length){x:It}(hx:x∈aX 9 g.rules[j].alts){r:List Nat}(hr:r∈pts g j hj x){a b:Nat}(h:tX g row nm r a b):Mn g.rules nm (.P x) a b:=by
 unfold pts partsOf at hr
 split at hr
 ·rename_i hk
  obtain⟨al,ha,rfl⟩:=List.mem_map.1 hr;exact .aF hk (.alt ha (tX.items hf nd hw hj (fun y hy=>Cg (hf.dp _ (List.getElem_mem hj)) hx ha hy) h))
 ·rename_i hk
  cases List.mem_singleton.1 hr;obtain⟨c,h1,rfl⟩:=h;exact h1.plain hf nd hw hj hx hk
theorem H7 (hf:Fit g){j:Nat}(hj:j<g.rules.length):(aA g).length<bs g j:=(Qx hf hj).1
theorem ZB (g:Gr):bs g 0=(aA g).length+1:=by simp[bs,cZ]
theorem Sm.prod (hf:Fit g)(nd:(g.rules.map Rl.name).Nodup)(hw:uU g row nm){p:Pd}(hp:p∈aU g){a b:Nat}(h:tX g row nm p.right a b):Sm g row nm p.left a b:=by
 rcases List.mem_cons.1 hp with rfl | hp
 ·obtain⟨c,h1,rfl⟩:=h
  refine⟨fun h=>absurd h (Nat.lt_irrefl _),fun _ h0=>h1.rl 0 h0 (ZB g).symm,fun j hj e=>?_,fun j hj k hk e=>?_⟩
  ·have:=H7 hf hj;exact absurd e (by show ¬ (aA g).length=_;omega)
  ·have:=H7 hf hj;exact absurd e (by show ¬ (aA g).length=_;omega)
 ·obtain⟨j,hj,hp⟩:=(Km _ _).1 hp
  have hb:=H7 hf hj;rcases rG.1 hp with ⟨al,ha,rfl⟩ | ⟨k,hk,hp⟩
  ·have h2:tX g row nm (NV g j hj al.1) a b:=h
   have h3:=tX.items hf nd hw hj (fun x hx=>nQ.2 ⟨al,ha,x,hx,.inl rfl⟩) h2;show Sm g row nm (bs g j) a b;refine⟨fun h=>by omega,fun e=>by omega,fun i hi e=>?_,fun i hi k hk e=>?_⟩
   ·obtain⟨rfl,-⟩:=Lf hj hi (Nat.zero_le _) (Nat.zero_le _) (show bs g j+0=bs g i+0 by omega)
    exact .alt ha h3
   ·have:=Lf hj hi (Nat.zero_le _) (show k+1<=_ by omega) (show bs g j+0=bs g i+(k+1) by omega)
    omega
  ·have hx:(aH 9 g.rules[j].alts)[k]∈aX 9 g.rules[j].alts:=(List.mem_filter.1 (List.getElem_mem hk)).1
   have hl:p.left=bs g j+1+k:=GD p hp;have main:Mn g.rules nm (.I (aH 9 g.rules[j].alts)[k]) a b:=by
    rcases rF.1 hp with ⟨hm,rfl⟩ | ⟨hm,r,hr,rfl⟩ | ⟨hm,r,hr,rfl⟩
    ·cases (show a=b from h);exact .non hm
    ·exact .one (tX.part hf nd hw hj hx hr h)
    ·obtain⟨c,h1,h2⟩:=h
     exact .more hm (h1.hp j hj k hk rfl) (tX.part hf nd hw hj hx hr h2)
   rw[hl];refine⟨fun h=>by omega,fun e=>by omega,fun i hi e=>?_,fun i hi l hl e=>?_⟩
   ·have:=Lf hj hi (show k+1<=_ by omega) (Nat.zero_le _) (show bs g j+(k+1)=bs g i+0 by omega)
    omega
   ·obtain⟨rfl,e2⟩:=Lf hj hi (show k+1<=_ by omega) (show l+1<=_ by omega) (show bs g j+(k+1)=bs g i+(l+1) by omega)
    obtain rfl:k=l:=by omega
    exact main
def SmS (g:Gr) (row:List Nat) (nm:List ByteArray):Sy->Nat->Nat->Prop
 | .s s=>Sm g row nm s
 | .r l=>tX g row nm l
theorem dQ.means (hf:Fit g)(nd:(g.rules.map Rl.name).Nodup)(hw:uU g row nm){n:Sy}{a b:Nat}(h:dQ (aU g) row n a b):SmS g row nm n a b:=by
 induction h with
 | @tok a s h =>
  have h1:=hw.1 s (List.mem_of_getElem? h);exact⟨fun _=>⟨h,rfl⟩,fun e=>by omega,fun j hj e=>by have:=H7 hf hj;omega,fun j hj k hk e=>by have:=H7 hf hj;omega⟩
 | pr h _ ih=>exact Sm.prod hf nd hw h ih
 | nil=>exact rfl
 | cons _ _ i1 i2=>exact⟨_,i1,i2⟩
theorem dQ.help {j:Nat}(hj:j<g.rules.length){k:Nat}(hk:k<(aH 9 g.rules[j].alts).length){p:Pd}(hp:p∈iH (aA g).length (bs g j+1+k) (aH 9 g.rules[j].alts)[k].mark (pts g j hj (aH 9 g.rules[j].alts)[k])){a b:Nat}(h:dQ (aU g) row (.r p.right) a b):dQ (aU g) row (.s (bs g j+1+k)) a b:=by
 have:=dQ.pr (P:=aU g) (uq hj (rG.2 (.inr ⟨k,hk,hp⟩))) h
 rwa [GD p hp]at this
theorem dQ.single {P:List Pd}{s a b:Nat}(h:dQ P row (.r [s]) a b):dQ P row (.s s) a b:=by
 cases h with
 | cons h k=>cases k with | nil=>exact h
theorem dQ.Qe {P:List Pd}{s a b:Nat}(h:dQ P row (.s s) a b):dQ P row (.r [s]) a b:=.cons h .nil
def DrS (g:Gr) (row:List Nat):Nd->Nat->Nat->Prop
 | .A l,a,b=>∀ j (hj:j<g.rules.length),(∀ al∈l,∀ x∈al.1,x∈aX 9 g.rules[j].alts)->∃ al∈l,dQ (aU g) row (.r (NV g j hj al.1)) a b
 | .S l,a,b=>∀ j (hj:j<g.rules.length),(∀ x∈l,x∈aX 9 g.rules[j].alts)->dQ (aU g) row (.r (NV g j hj l)) a b
 | .I x,a,b=>∀ j (hj:j<g.rules.length),x∈aX 9 g.rules[j].alts->dQ (aU g) row (.s (sy g j hj x)) a b
 | .P x,a,b=>∀ j (hj:j<g.rules.length),x∈aX 9 g.rules[j].alts->∃ r∈pts g j hj x,dQ (aU g) row (.r r) a b
theorem QL (hf:Fit g){j:Nat}(hj:j<g.rules.length){k:Nat}(hk:k<(aH 9 g.rules[j].alts).length):sy g j hj (aH 9 g.rules[j].alts)[k]=bs g j+1+k:=by
 unfold sy fT;rw[if_pos (List.mem_filter.1 (List.getElem_mem hk)).2,LF hf hj hk]
theorem Mn.comes (hf:Fit g)(nd:(g.rules.map Rl.name).Nodup)(hw:uU g row nm){n:Nd}{a b:Nat}(h:Mn g.rules nm n a b):DrS g row n a b:=by
 induction h with
 | alt h _ ih=>exact fun j hj hl=>⟨_,h,ih j hj (hl _ h)⟩
 | nil=>exact fun j hj _=>.nil
 | cons _ _ i1 i2=>exact fun j hj hl=>.cons (i1 j hj (hl _ List.mem_cons_self)) (i2 j hj fun y hy=>hl y (List.mem_cons_of_mem _ hy))
 | @one x a b _ ih =>
  intro j hj hx;obtain⟨r,hr,hd⟩:=ih j hj hx
  by_cases hh:hlp x=true
  ·obtain⟨k,hk,rfl⟩:=Ck hf hj hx hh
   rw[QL hf hj hk]
   by_cases hm:(aH 9 g.rules[j].alts)[k].mark=42
   ·refine dQ.help hj hk (rF.2 (.inr (.inr ⟨.inl hm,r,hr,rfl⟩))) (.cons ?_ hd)
    exact dQ.help hj hk (rF.2 (.inl ⟨.inl hm,rfl⟩)) .nil
   ·exact dQ.help hj hk (rF.2 (.inr (.inl ⟨hm,r,hr,rfl⟩))) hd
  ·have h1:=(Z0 hh).1
   unfold pts partsOf at hr;rw[if_neg h1]at hr;cases List.mem_singleton.1 hr;unfold sy fT;rw[if_neg hh];exact hd.single
 | @non x a h =>
  intro j hj hx;obtain⟨k,hk,rfl⟩:=Ck hf hj hx (by unfold hlp;rcases h with h | h <;> simp[h]);rw[QL hf hj hk];exact dQ.help hj hk (rF.2 (.inl ⟨h,rfl⟩)) .nil
 | @more x a b c h _ _ i1 i2 =>
  intro j hj hx;obtain⟨r,hr,hd⟩:=i2 j hj hx;have h1:=i1 j hj hx;obtain⟨k,hk,rfl⟩:=Ck hf hj hx (by unfold hlp;rcases h with h | h <;> simp[h]);rw[QL hf hj hk]at h1 |-;exact dQ.help hj hk (rF.2 (.inr (.inr ⟨h,r,hr,rfl⟩))) (.cons h1 hd)
 | @tok x a h k =>
  intro j hj hx;refine⟨[fU (aA g) (aN g) x],?_,?_⟩
  ·unfold pts partsOf;rw[if_neg (by omega)];exact List.mem_singleton.2 rfl
  ·rw[hw.2]at k
   obtain⟨s,hs,k2⟩:=Option.bind_eq_some_iff.1 k;have h2:=Qp (List.getElem_mem hj) hx h;have e:s=fU (aA g) (aN g) x:=by
    unfold fU;rw[if_pos h];have h3:=YW h2;obtain⟨l1,e1⟩:=List.getElem?_eq_some_iff.1 k2;obtain⟨l2,e2⟩:=List.getElem?_eq_some_iff.1 h3;exact (List.getElem_inj (agC g)).1 (e1.trans e2.symm)
   subst e;exact (dQ.tok hs).Qe
 | @aF x a b h _ ih =>
  intro j hj hx;obtain⟨al,ha,hd⟩:=ih j hj fun al ha y hy=>Cg (hf.dp _ (List.getElem_mem hj)) hx ha hy
  refine⟨_,?_,hd⟩;unfold pts partsOf;rw[if_pos h];exact List.mem_map.2 ⟨al,ha,rfl⟩
 | @rA x r a b h hr e _ ih =>
  intro j hj hx;obtain⟨i,hi,rfl⟩:=List.getElem_of_mem hr;obtain⟨al,ha,hd⟩:=ih i hi fun al ha y hy=>nQ.2 ⟨al,ha,y,hy,.inl rfl⟩
  refine⟨[fU (aA g) (aN g) x],?_,?_⟩
  ·unfold pts partsOf;rw[if_neg (by omega)];exact List.mem_singleton.2 rfl
  ·rw[Yg hf nd h hi e]
   exact (dQ.pr (P:=aU g) (uq hi (rG.2 (.inl ⟨al,ha,rfl⟩))) hd).Qe
theorem afR (hf:Fit g)(nd:(g.rules.map Rl.name).Nodup)(hw:uU g row nm)(h0:0<g.rules.length){a b:Nat}:dQ (aU g) row (.s (aA g).length) a b↔Mn g.rules nm (.A g.rules[0].alts) a b:=by
 constructor
 ·intro h
  exact (dQ.means hf nd hw h:Sm g row nm _ a b).st rfl h0
 ·intro h
  obtain⟨al,ha,hd⟩:=(Mn.comes hf nd hw h:DrS g row (.A _) a b) 0 h0 fun al ha y hy=>nQ.2 ⟨al,ha,y,hy,.inl rfl⟩
  have h1:dQ (aU g) row (.s ((aA g).length+1)) a b:=by
   have:=dQ.pr (P:=aU g) (row:=row) (uq h0 (rG.2 (.inl ⟨al,ha,rfl⟩))) hd;have e:cZ ((aA g).length+1) g.rules 0=(aA g).length+1:=ZB g;simpa only[jF,e]using this
  exact dQ.pr (P:=aU g) (p:=⟨(aA g).length,[(aA g).length+1],-1⟩) List.mem_cons_self h1.Qe
end
end Lx
end Go.Proofs.YtlcppnabbicmoaaGreatDoor

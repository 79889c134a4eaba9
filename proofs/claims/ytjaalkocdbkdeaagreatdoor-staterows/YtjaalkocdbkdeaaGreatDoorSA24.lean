import Derived.Test.YtjaalkocdbkdeaaGreatDoorSA23
import Derived.Test.YtjaalkocdbkdeaaGreatDoorSA21
import Derived.Shelf.Strconv.Itoa0
import Derived.Shelf.Strconv.Itoa1
import Derived.Shelf.Strconv.Itoa2
import Derived.Shelf.Strconv.Itoa3
import Derived.Shelf.Slices.Clone
import Derived.Test.YtjaalkocdbkdeaaGreatDoorProg
import Derived.Lib.AppendIntMem
set_option maxHeartbeats 8000000
set_option maxRecDepth 1000000
namespace Go.Proofs.YtjaalkocdbkdeaaGreatDoor
open Lx Go.Proofs.Tryz
open Go.RowKit
open Tr
def KF(d:Nat):Prop:=∀(nw nv:Nat)(fst caps:Array Value)(wd:Lx.It->Bool)(F:Nat->Prop)(w0:World)(I:List AI->World->Prop)(Q:AI->Prop)(Dl:List AI),
 (∀(ar:Array Value)(w:World),(callFunc nw ar).run prog w=.ok (.enter nw ar) w)->(∀(ar:Array Value)(w:World),(callFunc nv ar).run prog w=.ok (.enter nv ar) w) ->
 (∀(w':World)(n m:Nat)(it:Lx.It),F n->oQ w' n m it->Calls prog nw #[.pointer (some ⟨n,m*4,none⟩)] w' fun e w''=>e=.returned (.bool (wd it))/\w''=w') ->
 (∀(w':World)(L:List AI)(n m:Nat)(it:Lx.It),I L w'->F n->oQ w' n m it->wd it=true->Q (⟨n,m*4,none⟩,it)->(∃R,Dl=L++((⟨n,m*4,none⟩,it)::R))->Calls prog nv (fst++#[.pointer (some ⟨n,m*4,none⟩)]++caps) w' fun e w''=>e=.returned (.tuple #[])/\I (L++[(⟨n,m*4,none⟩,it)]) w'') ->
 (∀(L:List AI)(w':World),I L w'->∀b,F b->w'.heap[b]?=w0.heap[b]?) ->
 ∀(v:Value)(l:List Lx.Alt),ay YP d F w0 v l->(∀p∈aT d w0 v l,Q p)->∀(w:World)(L:List AI),I L w->(∃R,Dl=(L++(aT d w0 v l).filter fun p=>wd p.2)++R) ->
 Calls prog 82 #[v,.func (.func nw) #[] #[],.func (.func nv) fst caps] w fun e w'=>e=.returned (.tuple #[])/\I (L++(aT d w0 v l).filter fun p=>wd p.2) w'
theorem afi:KF 0:=by
 intro nw nv fst caps wd F w0 I Q Dl hcw hcv hw hv hf v l hl hq w L hI EF;obtain⟨rfl,rfl⟩:=hl;go_enter func82,ntmps82;go_wp2_with fail
 go_loopg [11] 0 (fun k i wr=>k=0/\i=.int .i64 0/\wr=w)
 case atStart=>exact⟨rfl,rfl,rfl⟩
 case round=>
  obtain⟨rfl,rfl,rfl⟩:=hrel;go_wp2_with fail
  go_end0
  refine⟨rfl,?_⟩;rw[show aT 0 w0 (.slice none 0 0) []=[] from rfl,List.filter_nil,List.append_nil];exact hI
theorem afj{d:Nat}(IH:KF d):KF (d+1):=by
 intro nw nv fst caps wd F w0 I Q Dl hcw hcv hw hv hf v l hl hq w L hI EF;obtain⟨va,vc,hvv,hm⟩:=ay.len hl;subst hvv;unfold maxLen at hm;obtain⟨T,hT⟩:∃T,T=L++(aT (d+1) w0 (.slice va l.length vc) l).filter (fun p=>wd p.2):=⟨_,rfl⟩;rw[<-hT]at EF|-;obtain⟨R0,EF⟩:=EF;have Qi:Hid (Dl=T++R0):=EF;clear EF;go_enter func82,ntmps82;go_wp2_with fail;have e0:aT (d+1) w0 (.slice va l.length vc) l=dO (aT d w0) w0 (aY (.slice va l.length vc)) 0 (l.drop 0):=rfl;have H0:Hid (T=L++(dO (aT d w0) w0 (aY (.slice va l.length vc)) 0 (l.drop 0)).filter (fun p=>wd p.2)):=by show _=_;rw[hT,e0]
 rw[e0]at hq;clear e0;clear hT
 go_loopg [11] l.length (fun k i wr=>∃(j:Nat)(L':List AI),j+k=l.length/\i=.int .i64 j/\I L' wr/\(∀p∈dO (aT d w0) w0 (aY (.slice va l.length vc)) j (l.drop j),Q p)/\Hid (T=L'++(dO (aT d w0) w0 (aY (.slice va l.length vc)) j (l.drop j)).filter (fun p=>wd p.2)))
 case atStart=>exact⟨0,L,by omega,rfl,hI,hq,H0⟩
 case round=>
  clear H0 hq hI;revert wr;intro wz hrel;obtain⟨j,L1,hk,rfl,hz,hqz,HZ⟩:=hrel
  by_cases hlt:j<l.length
  ·obtain⟨gb,cap,vi,hvv,hg,hi,hc⟩:=Seq.at hl (fun _=>rfl) hlt
   cases hvv;have hz2:=HZ.out;have ec:cv w0 ⟨gb,j*2,none⟩=vi:=by unfold cv;rw[show w0.cell? ⟨gb,j*2,none⟩=some vi from hc 0 (by decide)];rfl
   rw[UM hlt,show aY (.slice (some ⟨gb,0,none⟩) l.length vc)=gb from rfl,ec]at hz2 hqz;generalize l[j]=x at hi hc hz2 hqz;obtain⟨its,prec,pa⟩:=x;have hi':bM YP d F w0 vi its:=hi;obtain⟨ia,ic,iK,him⟩:=Seq.len hi;subst iK;unfold maxLen at him;have c0:wz.cell? ⟨gb,j*2,none⟩=some (.slice ia its.length ic):=(World.cell?_of_block (w:=w0) (hf _ _ hz gb hg)).trans (hc 0 (by decide));have HZ2:Hid (T=L1++(eu (aT d w0) w0 (aY (.slice ia its.length ic)) 0 (its.drop 0)++dO (aT d w0) w0 gb (j+1) (l.drop (j+1))).filter (fun p=>wd p.2)):=hz2;have G9:∀p∈eu (aT d w0) w0 (aY (.slice ia its.length ic)) 0 (its.drop 0)++dO (aT d w0) w0 gb (j+1) (l.drop (j+1)),Q p:=hqz;clear hc hz2 HZ hqz ec hi;go_wp2_with fail
   go_loopg [21] its.length (fun k i wr=>∃(m:Nat)(L':List AI),m+k=its.length/\i=.int .i64 m/\I L' wr/\(∀p∈eu (aT d w0) w0 (aY (.slice ia its.length ic)) m (its.drop m)++dO (aT d w0) w0 gb (j+1) (l.drop (j+1)),Q p)/\Hid (T=L'++(eu (aT d w0) w0 (aY (.slice ia its.length ic)) m (its.drop m)++dO (aT d w0) w0 gb (j+1) (l.drop (j+1))).filter (fun p=>wd p.2)))
   case atStart=>exact⟨0,L1,by omega,rfl,hz,G9,HZ2⟩
   case round=>
    clear HZ2 G9 hz c0;obtain⟨m,L2,hkm,rfl,hr,hqr,HR⟩:=hrel
    by_cases bJ:m<its.length
    ·have hir:=hi'
     unfold bM ow at hir;obtain⟨n,sG,va,hvv,hn,ha,hcc⟩:=Seq.at hir (fun _=>rfl) bJ;cases hvv;have hr2:=HR.out;have ec:cv w0 ⟨n,m*4+3,none⟩=va:=by unfold cv;rw[show w0.cell? ⟨n,m*4+3,none⟩=some va from hcc 3 (by decide)];rfl
     rw[Uj bJ,show aY (.slice (some ⟨n,0,none⟩) its.length ic)=n from rfl,ec]at hr2 hqr;generalize its[m]=it at ha hcc hr2 hqr;obtain⟨sa,sc,hva,-⟩:=ay.len ha;subst hva;have en:wr.heap[n]?=w0.heap[n]?:=hf _ _ hr n hn;have hia:oQ wr n m it:=⟨(World.cell?_of_block (w:=w0) en).trans (hcc 0 (by decide)),(World.cell?_of_block (w:=w0) en).trans (hcc 1 (by decide)),(World.cell?_of_block (w:=w0) en).trans (hcc 2 (by decide))⟩;have RG:Q (⟨n,m*4,none⟩,it):=hqr _ (by simp);have IJ:∀p∈aT d w0 (.slice sa it.alts.length sc) it.alts,Q p:=fun p hp=>hqr p (by simp[hp])
     have IK:∀p∈eu (aT d w0) w0 n (m+1) (its.drop (m+1))++dO (aT d w0) w0 gb (j+1) (l.drop (j+1)),Q p:=fun p hp=>hqr p (by
      rcases List.mem_append.1 hp with hp|hp
      ·simp[hp]
      ·simp[hp])
     clear hqr hir HR ec;go_wp2_with fail;refine(hw wr n m it hn hia).mono ?_;rintro e w1⟨rfl,hw1⟩;obtain rfl:=hw1.symm;cases hwd:wd it with
     |true=>
      have HWD:Hid (wd it=true):=hwd;have hr3:T=(L2++[(⟨n,m*4,none⟩,it)])++((aT d w0 (.slice sa it.alts.length sc) it.alts).filter (fun p=>wd p.2)++(eu (aT d w0) w0 n (m+1) (its.drop (m+1))++dO (aT d w0) w0 gb (j+1) (l.drop (j+1))).filter (fun p=>wd p.2)):=by
       rw[hr2];simp[hwd,List.append_assoc]
      have HR3:Hid _:=hr3;have q1:=hv wr L2 n m it hr hn hia hwd RG ⟨_,by rw[Qi.out,hr3,List.append_assoc,List.append_assoc];rfl⟩;clear hr2 hr3 hwd;go_wp2_with fail;refine q1.mono ?_;rintro e w2⟨rfl,hI2⟩;have RH:w2.heap[n]?=w0.heap[n]?:=hf _ _ hI2 n hn;have y3:w2.cell? ⟨n,m*4+3,none⟩=some (.slice sa it.alts.length sc):=(World.cell?_of_block (w:=w0) RH).trans (hcc 3 (by decide));go_wp2_with fail;refine(IH nw nv fst caps wd F w0 I Q Dl hcw hcv hw hv hf _ _ ha IJ w2 _ hI2 ⟨_,by rw[Qi.out,HR3.out,<-List.append_assoc (L2++_),List.append_assoc (_++List.filter _ _)]⟩).mono ?_;rintro e w3⟨rfl,Dk⟩;have HR4:Hid _:=HR3.out;rw[<-List.append_assoc]at HR4;go_wp2_with fail;go_roundg (its.length - (m+1))
      case measure=>omega
      case rel=>exact⟨m+1,_,by omega,by go_num,Dk,IK,HR4⟩
     |false=>
      have hr3:T=L2++((aT d w0 (.slice sa it.alts.length sc) it.alts).filter (fun p=>wd p.2)++(eu (aT d w0) w0 n (m+1) (its.drop (m+1))++dO (aT d w0) w0 gb (j+1) (l.drop (j+1))).filter (fun p=>wd p.2)):=by
       rw[hr2];simp[hwd,List.append_assoc]
      have HR3:Hid _:=hr3;clear hr2 hr3 hwd;have y3:wr.cell? ⟨n,m*4+3,none⟩=some (.slice sa it.alts.length sc):=(World.cell?_of_block (w:=w0) en).trans (hcc 3 (by decide));go_wp2_with fail;refine(IH nw nv fst caps wd F w0 I Q Dl hcw hcv hw hv hf _ _ ha IJ wr _ hr ⟨_,by rw[Qi.out,HR3.out,<-List.append_assoc L2,List.append_assoc (_++List.filter _ _)]⟩).mono ?_;rintro e w3⟨rfl,Dk⟩;have HR4:Hid _:=HR3.out;rw[<-List.append_assoc]at HR4;go_wp2_with fail;go_roundg (its.length - (m+1))
      case measure=>omega
      case rel=>exact⟨m+1,_,by omega,by go_num,Dk,IK,HR4⟩
    ·have:m=its.length:=by omega
     subst this;have hr2:=HR.out;rw[List.drop_length,eu,List.nil_append]at hr2 hqr;have HR2:Hid _:=hr2;clear hr2 HR;go_wp2_with fail;go_roundg (l.length - (j+1))
     case measure=>omega
     case rel=>exact⟨j+1,L2,by omega,by go_num,hr,hqr,HR2⟩
  ·have:j=l.length:=by omega
   subst this;have hz2:=HZ.out;rw[List.drop_length,dO,List.filter_nil,List.append_nil]at hz2;have HZ2:Hid _:=hz2;clear hz2 HZ;go_wp2_with fail
   go_end0
   refine⟨rfl,?_⟩;rw[HZ2.out];exact hz
theorem OW:∀d,KF d
 |0=>afi
 |d+1=>afj (OW d)
end Go.Proofs.YtjaalkocdbkdeaaGreatDoor
namespace Go.Proofs.YtjaalkocdbkdeaaGreatDoor
open Lx Go.Proofs.Tryz
open Go.RowKit
open Tr
theorem aeJ{w:World}{n m:Nat}{it:Lx.It}(h:oQ w n m it):Calls prog 83 #[.pointer (some ⟨n,m*4,none⟩)] w fun e w'=>e=.returned (.bool (decide (it.kind=0)))/\w'=w:=by
 have h0:=h.kind;go_enter func83,ntmps83
 by_cases hk:it.kind=0
 ·have hkb:((it.kind:Int) == 0)=true:=by simp[hk]
  rw[decide_eq_true hk];clear hk;go_wp2_with fail;go_ret;exact⟨rfl,rfl⟩
 ·have hkb:((it.kind:Int) == 0)=false:=zB0 (by omega)
  rw[decide_eq_false hk];clear hk;go_wp2_with fail;go_ret;exact⟨rfl,rfl⟩
namespace Lx
def vis(names:List ByteArray)(s:List Bool×List Nat)(nm:ByteArray):List Bool×List Nat:=if aS s.1 (fix names nm)=true then s else (s.1.set (fix names nm) true,s.2++[fix names nm])
end Lx
structure RS(lo n B:Nat)(num:ByteArray->Int)(w0 w:World)(s:List Bool×List Nat):Prop where
 nb:aj w lo #[.map (some B)] 62
 mp:SMap w B num
 bl:B<lo
 fo:aj w (lo+1) (bF s.1) 4
 fv:aj w (lo+2) #[.slice (some ⟨lo+1,0,none⟩) n n] 48
 ov:∃vo,aj w (lo+4) #[vo] 43/\w.ownsRow 0 3 1 vo s.2.length (gK s.2)/\∀g,vo.ownBlock=some g->g=lo+3\/lo+5<=g
 len:Hid (s.1.length=n)
 fr:Below lo w0 w
theorem aeK{lo n B:Nat}{num:ByteArray->Int}{w0 w:World}{s:List Bool×List Nat}(h:RS lo n B num w0 w s){a m:Nat}{it:Lx.It}(hi:oQ w a m it){names:List ByteArray}(hq:num it.name=(Lx.fix names it.name:Int))(hl:Lx.fix names it.name<n)(hop:s.2.length<=10000):
  Calls prog 84 #[.pointer (some ⟨a,m*4,none⟩),.pointer (some ⟨lo,0,none⟩),.pointer (some ⟨lo+2,0,none⟩),.pointer (some ⟨lo+4,0,none⟩)] w fun e w'=>e=.returned (.tuple #[])/\RS lo n B num w0 w' (Lx.vis names s it.name):=by
 obtain⟨i3,hi3,Cv,Cw,hz32⟩:=info_parts Tryz.info3;obtain⟨h1,h2,h3,h4,h5,⟨vo,h6,h7,h8⟩,h9,h10⟩:=h;have h2d:SMap w.drew B num:=h2.move rfl;have hlk:=h2d.look it.name;rw[hq]at hlk;have x1:=hi.name;have c0:w.cell? ⟨lo,0,none⟩=some (.map (some B)):=h1.cell 0;go_enter func84,ntmps84;go_wp2_with fail
 go_region
 all_goals
  have hv0:Lx.vis names s it.name=if aS s.1 (Lx.fix names it.name)=true then s else (s.1.set (Lx.fix names it.name) true,s.2++[Lx.fix names it.name]):=rfl
  have MF:Hid _:=hv0;have Dm:Lx.fix names it.name<s.1.length:=by have:=h9.out;omega
  clear hv0;obtain⟨wd,hwd⟩:∃wd,wd=w.drew:=⟨_,rfl⟩;rw[<-hwd];have hh:wd.heap=w.heap:=by rw[hwd];rfl
  have ZM:Below lo w0 wd:=by rw[hwd];exact h10.drew
  have h1d:aj wd lo #[.map (some B)] 62:=by unfold aj;rw[hh];exact h1
  have h2e:SMap wd B num:=h2.move (by rw[hh]);have IL:aj wd (lo+1) (bF s.1) 4:=by unfold aj;rw[hh];exact h4
  have MG:aj wd (lo+2) #[.slice (some ⟨lo+1,0,none⟩) n n] 48:=by unfold aj;rw[hh];exact h5
  have RJ:aj wd (lo+4) #[vo] 43:=by unfold aj;rw[hh];exact h6
  have RL:wd.ownsRow 0 3 1 vo s.2.length (gK s.2):=aC h7 fun g _=>by rw[hh]
  have f0:wd.cell? ⟨lo+2,0,none⟩=some (.slice (some ⟨lo+1,0,none⟩) n n):=MG.cell 0;have o1:wd.cell? ⟨lo+1,Lx.fix names it.name,none⟩=some (.bool (aS s.1 (Lx.fix names it.name))):=(IL.cell _).trans (qx s.1 Dm);have of:∀i,wd.frozen? ⟨lo+1,i,none⟩=false:=IL.frozen;have l1:=IL.lt;have l2:=MG.lt;have l4:=RJ.lt;have HQL:Hid (Lx.fix names it.name<s.1.length):=Dm;clear hwd hh h1 h2 h2d h4 h5 h6 h7 h10 x1 c0 hlk hq hi Dm;generalize Lx.fix names it.name=q at *;cases hb:aS s.1 q with
  |true=>
   have hv0:=MF.out;rw[if_pos hb]at hv0;have RN:Hid _:=hv0;rw[hb]at o1;clear hv0 MF hb;go_wp2_with fail
   go_end0
   refine⟨rfl,?_⟩;rw[RN.out];exact⟨h1d,h2e,h3,IL,MG,⟨vo,RJ,RL,h8⟩,h9,ZM⟩
  |false=>
   have hv0:=MF.out;rw[if_neg (by rw[hb];decide)]at hv0;have RN:Hid _:=hv0;rw[hb]at o1;clear hv0 MF hb;obtain⟨oa,oc,tC,uO⟩:=aF RL;subst tC;unfold maxLen at uO;have h6e:aj (wd.setCell ⟨lo+1,q,none⟩ (.bool true)) (lo+4) #[.slice oa s.2.length oc] 43:=RJ.other (by omega) _;have o40:(wd.setCell ⟨lo+1,q,none⟩ (.bool true)).cell? ⟨lo+4,0,none⟩=some (.slice oa s.2.length oc):=h6e.cell 0;have h7e:(wd.setCell ⟨lo+1,q,none⟩ (.bool true)).ownsRow 0 3 1 (.slice oa s.2.length oc) s.2.length (gK s.2):=aC RL fun g hg=>zS0 (fun e=>by have e':g=lo+1:=e;rcases h8 g hg with h|h <;> omega)
   have k41:aj (wd.setCell ⟨lo+1,q,none⟩ (.bool true)) (lo+1) (bF (s.1.set q true)) 4:=by rw[<-zL];exact IL.set q _
   have hse:(wd.setCell ⟨lo+1,q,none⟩ (.bool true)).heap.size=wd.heap.size:=by simp[World.setCell]
   have hkn:aj ((wd.setCell ⟨lo+1,q,none⟩ (.bool true)).alloc (.cells #[.int .i64 (q:Int)] 3)) wd.heap.size #[.int .i64 (q:Int)] 3:=by rw[<-hse];exact aj.new _ _ 3
   have hn4:(Value.slice oa s.2.length oc).ownBlock≠some (lo+4):=fun e=>by rcases h8 _ e with h | h <;> omega
   go_wp2_with (at_builtin;go_loud (refine wpList_append_own_at _ rfl _ _ 43 rfl 0 3 i3 _ 1 8 underlying43 hi3 Cv Cw hz32 rfl (by decide) (.slice oa s.2.length oc) _ _ rfl (h7e.alloc _) ⟨_,0,none⟩ 1 1 [.int .i64 (q:Int)] rfl rfl (bC hkn) (by simp[Value.oneCell']) (by unfold maxLen;omega) (by omega) (by simp) ?_;intro v5 w5 hown5 aU _ j6;obtain⟨dU,dV,hv5,-⟩:=aF hown5;subst hv5;have lT:=(h6e.alloc (.cells #[.int .i64 (q:Int)] 3)).grown aU (fun e=>hn4 e.symm);have MH:w5.cell? ⟨lo+4,0,none⟩=some (.slice oa s.2.length oc):=lT.cell 0;have f54:∀i,w5.frozen? ⟨lo+4,i,none⟩=false:=lT.frozen))
   go_end0
   refine⟨rfl,?_⟩;rw[RN.out];have bk:∀g,g<wd.heap.size->g≠lo+4->g≠lo+1->(Value.slice oa s.2.length oc).ownBlock≠some g->(w5.setCell ⟨lo+4,0,none⟩ (.slice dU (s.2.length+1) dV)).heap[g]?=wd.heap[g]?:=by
    intro g hg h4' h1' hn;rw[zS0 h4',aU.block g (by simp[World.setCell];omega) (fun e=>hn e.symm),Below.heap_alloc _ _ _ (by rw[hse];exact hg),zS0 h1']
   have hno:∀g,g<lo+3->(Value.slice oa s.2.length oc).ownBlock≠some g:=fun g hg e=>by rcases h8 _ e with h | h <;> omega
   have hs5:=aU.size;simp only[World.size_alloc]at hs5;have uj:∀g,(Value.slice dU (s.2.length+1) dV).ownBlock=some g->g=lo+3\/lo+5<=g:=by
    intro g hg;rcases j6 with h|h
    ·exact h8 g (h▸hg)
    ·rw[h]at hg
     have e1:=Option.some.inj hg;have e2:g=wd.heap.size+1:=by rw[<-e1];simp[World.setCell]
     omega
   refine⟨?_,h2e.move (bk B (by omega) (by omega) (by omega) (hno B (by omega))),h3,?_,?_,⟨_,lT.set 0 _,?_,uj⟩,?_,?_⟩
   ·exact(bk lo (by omega) (by omega) (by omega) (hno lo (by omega))).trans h1d
   ·have k5:=(k41.alloc (.cells #[.int .i64 (q:Int)] 3)).grown aU (fun e=>hno (lo+1) (by omega) e.symm)
    exact k5.other (by omega) _
   ·exact(bk (lo+2) (by omega) (by omega) (by omega) (hno (lo+2) (by omega))).trans MG
   ·rw[List.length_append,zM]
    exact aC hown5 fun g hg=>zS0 (fun e=>by have e':g=lo+4:=e;rcases uj g hg with h|h <;> omega)
   ·show (s.1.set q true).length=n
    rw[List.length_set];exact h9.out
   ·refine ZM.trans ⟨?_,?_,?_,?_,fun g hg=>bk g (by omega) (by omega) (by omega) (hno g (by omega))⟩
    ·exact aU.os
    ·exact aU.tape
    ·exact aU.output
    ·have:=aU.size;simp[World.setCell]at this|-;omega
end Go.Proofs.YtjaalkocdbkdeaaGreatDoor
namespace Go.Proofs.YtjaalkocdbkdeaaGreatDoor
open Lx Go.Proofs.Tryz
open Go Go.RowKit
namespace Lx
theorem afk(l:List ByteArray)(b:ByteArray):(∀c∈l,c∈iD l b)/\b∈iD l b:=by
 unfold iD
 split
 ·rename_i h;exact⟨fun _ h=>h,iA.1 h⟩
 ·exact⟨fun c h=>List.mem_append.2 (.inl h),List.mem_append.2 (.inr List.mem_cons_self)⟩
theorem NK:∀(bs l:List ByteArray),(∀c∈l,c∈bP l bs)/\∀b∈bs,b∈bP l bs
 | [],l=>⟨fun _ h=>h,fun _ h=>by cases h⟩
 |b::bs,l=>by
  have h1:=afk l b;have h2:=NK bs (iD l b);refine⟨fun c hc=>h2.1 c (h1.1 c hc),fun c hc=>?_⟩;rcases List.mem_cons.1 hc with rfl|hc
  ·exact h2.1 _ h1.2
  ·exact h2.2 c hc
theorem Yh{g:Gr}{b:ByteArray}(h:b∈gZ g):0<=bA (aD g) b:=iA.2 ((NK _ _).2 b (List.mem_append.2 (.inl h)))
theorem aiu{g:Gr}{r:Rl}(hr:r∈g.rules){x:It}(hx:x∈cu 9 r.alts)(hk:x.kind=1):0<=bA (aD g) x.name:=by
 refine iA.2 ((NK _ _).2 _ (List.mem_append.2 (.inr (List.mem_flatMap.2 ⟨r,hr,?_⟩))));exact List.mem_map.2 ⟨x,List.mem_filter.2 ⟨hx,by simp[hk]⟩,rfl⟩
theorem agu{g:Gr}{b:ByteArray}(h:b∈aK g):0<=bA (bg g) b:=by
 obtain⟨r,hr,rfl⟩:=List.mem_map.1 h;exact iA.2 (List.mem_cons_of_mem _ (List.mem_flatMap.2 ⟨r,hr,List.mem_cons_self⟩))
theorem Uk{g:Gr}{d:Nat}:∀{its:List It}{r:List Wd},unk g (its.flatMap (jX d)++r)=none->(∀x∈its,(x.kind=0->0<=bA (aK g) x.name)/\unk g (dw d x.alts)=none)/\unk g r=none
 | [],r,h=>⟨fun _ h=>(by cases h),h⟩
 |x::its,r,h=>by
  rw[List.flatMap_cons,List.append_assoc]at h;obtain⟨h1,h2,h3⟩:=NH h;obtain⟨h4,h5⟩:=Uk h3;refine⟨fun y hy=>?_,h5⟩;rcases List.mem_cons.1 hy with rfl|hy
  ·exact⟨h1,h2⟩
  ·exact h4 y hy
theorem NM{g:Gr}{d:Nat}:∀{l:List Alt},unk g (l.flatMap (qy d))=none->∀a∈l,(∀x∈a.1,(x.kind=0->0<=bA (aK g) x.name)/\unk g (dw d x.alts)=none)/\(a.2.1≠aL->lvls g a.2.1=true)
 | [],h,a,ha=>by cases ha
 |b::l,h,a,ha=>by
  rw[List.flatMap_cons,FX,List.append_assoc]at h;obtain⟨h1,h2⟩:=Uk h;have h3:=NI h2;rcases List.mem_cons.1 ha with rfl|ha
  ·refine⟨h1,fun hn=>?_⟩
   cases hq:lvls g a.2.1 with
   |true=>rfl
   |false=>rw[UC hn hq]at h2;cases h2
  ·exact NM h3 a ha
theorem Gj:∀{d:Nat}{g:Gr}{l:List Alt},unk g (dw d l)=none->∀{x:It},x∈cu d l->x.kind=0->0<=bA (aK g) x.name
 |0,g,l,h,x,hx,hk=>by cases hx
 |d+1,g,l,h,x,hx,hk=>by
  obtain⟨a,ha,z,hz,hx⟩:=BM.1 hx;rw[FW]at h;obtain⟨h1,h2⟩:=(NM h a ha).1 z hz;rcases hx with rfl|hx
  ·exact h1 hk
  ·exact Gj h2 hx hk
structure Fit(g:Gr):Prop where
 lv:∀l∈g.levels,Lr l
 rl:∀r∈g.rules,G8 r
 ne:0<g.rules.length
 dp:∀r∈g.rules,Dp 9 r.alts
 sz:wY g.levels+uf g.rules<=2001
 Im:((GN g.rules).map It.place).Pairwise (·< ·)
 unk:pW g=none
 dup:oU g=none
theorem Fit.Qj{g:Gr}(h:Fit g){r:Rl}(hr:r∈g.rules):Lx.unk g (dw 9 r.alts)=none:=Ga h.unk r hr
theorem Fit.plain{g:Gr}(h:Fit g){r:Rl}(hr:r∈g.rules){x:It}(hx:x∈cu 9 r.alts)(hk:x.kind≠2):qz (aD g) (bg g) x:=by
 unfold qz
 split
 ·rename_i h1;exact aiu hr hx h1
 ·rename_i h1
  rcases (h.rl r hr).2.1 x hx with h2|h2|h2
  ·exact agu (iA.1 (Gj (h.Qj hr) hx h2.1))
  ·exact absurd h2.1 h1
  ·exact absurd h2 hk
theorem Yi{H:List It}{x:It}(h:x∈H):sK H x.place<H.length:=List.findIdx_lt_length_of_exists ⟨x,h,by simp⟩
theorem Fit.sym{g:Gr}(h:Fit g){r:Rl}(hr:r∈g.rules){x:It}(hx:x∈cu 9 r.alts):qE (aD g) (bg g) (aR 9 r.alts) x:=by
 unfold qE
 split
 ·rename_i hh;exact Yi (List.mem_filter.2 ⟨hx,hh⟩)
 ·rename_i hh
  refine h.plain hr hx fun hk=>hh ?_
  simp[hlp,hk]
theorem Fit.prec{g:Gr}(h:Fit g){r:Rl}(hr:r∈g.rules){a:Alt}(ha:a∈r.alts)(hn:a.2.1≠aL):0<=bA (aD g) a.2.1:=by
 have h1:=(NM (d:=8) (h.Qj hr) a ha).2 hn;rw[OP]at h1;exact Yh (wU.1 h1)
theorem Fit.size{g:Gr}(h:Fit g){r:Rl}(hr:r∈g.rules):1+iF 9 r.alts<=2001:=by
 have h1:1+iF 9 r.alts<=uf g.rules:=Gi (fun r:Rl=>1+iF 9 r.alts) hr;have:=h.sz;omega
theorem Fit.rise{g:Gr}(h:Fit g){r:Rl}(hr:r∈g.rules):((aR 9 r.alts).map It.place).Pairwise (·< ·):=by
 refine h.Im.sublist (List.Sublist.map _ ?_);refine List.Sublist.trans List.filter_sublist ?_;unfold GN;obtain⟨s,t,e⟩:=List.append_of_mem hr;rw[e,List.flatMap_append,List.flatMap_cons];exact List.Sublist.trans (List.sublist_append_left _ _) (List.sublist_append_right _ _)
theorem Fit.rules{g:Gr}(h:Fit g):g.rules.length<=2001:=by
 have h1:g.rules.length<=uf g.rules:=zU (fun r:Rl=>1+iF 9 r.alts) fun _ _=>by omega
 have:=h.sz;omega
theorem Od(g:Gr):(gZ g).length<=wY g.levels:=by
 unfold gZ eP gY wY;rw[List.length_map,List.length_flatMap]
 induction g.levels with
 |nil=>exact zL0
 |cons l ls ih=>simp only[List.map_cons,List.sum_cons,List.length_map]at ih|-;omega
theorem Xw(rs:List Rl):(rs.flatMap fun r=>iR 9 r.alts).length<=uf rs:=by
 unfold uf;rw[List.length_flatMap]
 induction rs with
 |nil=>exact zL0
 |cons r rs ih=>
  have:=af9 9 r.alts;simp only[List.map_cons,List.sum_cons]at ih|-;omega
theorem zJ(r:Rl):(gD r).length=1+(aR 9 r.alts).length:=by simp[gD];omega
theorem OB(rs:List Rl):(rs.flatMap gD).length<=uf rs:=by
 unfold uf;rw[List.length_flatMap]
 induction rs with
 |nil=>exact zL0
 |cons r rs ih=>
  have:=Xg 9 r.alts;have:=zJ r;simp only[List.map_cons,List.sum_cons]at ih|-;omega
theorem Fit.Lu{g:Gr}(h:Fit g):(aD g).length<=2002:=by
 have h1:=JK (gZ g++g.rules.flatMap fun r=>iR 9 r.alts) [iN];have h2:=Od g;have h3:=Xw g.rules;have:=h.sz;rw[List.length_append]at h1;unfold aD;simp only[List.length_cons,List.length_nil]at h1;omega
theorem Fit.Qk{g:Gr}(h:Fit g):(bg g).length<=2002:=by
 have h3:=OB g.rules;have:=h.sz;unfold bg;rw[List.length_cons];omega
theorem NN{T N:List ByteArray}{b:Nat}{H:List It}{x:It}{n:Nat}(h:x.alts.length<=n)(hn:1<=n):(partsOf T N b H x).length<=n:=by
 unfold partsOf;split
 ·rw[List.length_map];exact h
 ·exact hn
theorem Vy(n s m:Nat)(ps:List (List Nat)):(iO n s m ps).length<=1+2*ps.length:=by
 unfold iO;rw[List.length_append,List.length_append]
 split <;> split <;> split <;> simp <;> omega
theorem NP{T N:List ByteArray}{b:Nat}{H:List It}{n:Nat}(hn:1<=n):∀(l:List It)(k:Nat),(∀x∈l,x.alts.length<=n)->(l6 T N b H k l).length<=l.length*(1+2*n)
 | [],_,_=>Nat.zero_le _
 |x::l,k,h=>by
  rw[l6,List.length_append,List.length_cons,Nat.succ_mul];have h1:=Vy T.length (b+1+k) x.mark (partsOf T N b H x);have h2:=NN (T:=T) (N:=N) (b:=b) (H:=H) (h x List.mem_cons_self) hn;have h3:=NP (T:=T) (N:=N) (b:=b) (H:=H) hn l (k+1) fun y hy=>h y (List.mem_cons_of_mem _ hy)
  omega
theorem Fit.its{g:Gr}(h:Fit g){r:Rl}(hr:r∈g.rules){x:It}(hx:x∈cu 9 r.alts):x.alts.length<=2001/\∀a∈x.alts,a.1.length<=2001:=by
 have h1:=Xu (h.dp r hr) hx;have h2:=h.size hr;exact⟨by omega,fun a ha=>by have:=h1.2 a ha;omega⟩
theorem Fit.alts{g:Gr}(h:Fit g){r:Rl}(hr:r∈g.rules):r.alts.length<=2001/\∀a∈r.alts,a.1.length<=2001:=by
 have h1:=Wy (h.dp r hr);have h2:=h.size hr;exact⟨by omega,fun a ha=>by have:=h1.2 a ha;omega⟩
theorem Fit.jH{g:Gr}(h:Fit g){r:Rl}(hr:r∈g.rules):(aR 9 r.alts).length<=2001:=by
 have h1:=Xg 9 r.alts;have h2:=h.size hr;omega
theorem Fit.Zm{g:Gr}(h:Fit g){r:Rl}(hr:r∈g.rules)(T N:List ByteArray)(b:Nat):(pO T N b r).length<=10000000:=by
 unfold pO;rw[List.length_append,List.length_map];have h1:=NP (T:=T) (N:=N) (b:=b) (H:=aR 9 r.alts) (n:=2001) (by omega) (aR 9 r.alts) 0 fun x hx=>(h.its hr (List.mem_filter.1 hx).1).1
 have h2:=(h.alts hr).1;have h3:=h.jH hr;have h4:(aR 9 r.alts).length*(1+2*2001)<=2001*(1+2*2001):=Nat.mul_le_mul_right _ h3;omega
end Lx
end Go.Proofs.YtjaalkocdbkdeaaGreatDoor
namespace Go.Proofs.YtjaalkocdbkdeaaGreatDoor
open Lx Go.Proofs.Tryz
open Go.RowKit
open Tr
theorem Ny{w:World}{n m:Nat}{it:Lx.It}(h:oQ w n m it):Calls prog 89 #[.pointer (some ⟨n,m*4,none⟩)] w fun e w'=>e=.returned (.bool (Lx.hlp it))/\w'=w:=by
 have h0:=h.kind;have h2:=h.mark;go_enter func89,ntmps89
 by_cases hk:it.kind=2
 ·have hkb:((it.kind:Int) == 2)=true:=by simp[hk]
  have hr:Lx.hlp it=true:=by simp[Lx.hlp,hk]
  rw[hr];clear hk hr;go_wp2_with fail;go_ret;exact⟨rfl,rfl⟩
 ·have hkb:((it.kind:Int) == 2)=false:=zB0 (by omega)
  by_cases hm:it.mark=0
  ·have hmb:((it.mark:Int) != 0)=false:=by simp[hm]
   have hr:Lx.hlp it=false:=by simp[Lx.hlp,hk,hm]
   rw[hr];clear hk hr hm;go_wp2_with fail;go_ret;exact⟨rfl,rfl⟩
  ·have hmb:((it.mark:Int) != 0)=true:=bne_iff_ne.2 (by omega)
   have hr:Lx.hlp it=true:=by simp[Lx.hlp,hk,hm]
   rw[hr];clear hk hr hm;go_wp2_with fail;go_ret;exact⟨rfl,rfl⟩
end Go.Proofs.YtjaalkocdbkdeaaGreatDoor
namespace Go.Proofs.YtjaalkocdbkdeaaGreatDoor
open Lx Go.Proofs.Tryz
open Go.RowKit
open Tr
theorem Tryz.YV:(prog.info? 43).map (fun i=>(i.zero,i.size,i.bytes))=some (some (.slice none 0 0),1,24):=by kernel_rfl
theorem Tryz.TM:prog.underlying 203=some (.slice 43):=by kernel_rfl
def ZN(B:Nat)(w:World)(v:Value)(ps:List (List Nat))(qs:List (Value×List Nat)):Prop:=qs.map Prod.snd=ps/\w.ownsRow B 43 1 v ps.length (qs.map Prod.fst)/\(∀q,q∈qs->IR B w q.1 q.2)/\∀q,q∈qs->∀g,q.1.ownBlock=some g->v.ownBlock≠some g
def pE(B:Nat)(w:World)(v:Value)(ps:List (List Nat)):Prop:=∃qs,ZN B w v ps qs
theorem pE.move{B:Nat}{w w':World}{v:Value}{ps:List (List Nat)}(h:pE B w v ps)(hb:∀g,B<=g->g<w.heap.size->w'.heap[g]?=w.heap[g]?):pE B w' v ps:=by
 obtain⟨qs,h1,h2,h3,h4⟩:=h;exact⟨qs,h1,aC h2 fun g hg=>hb g (h2.lt g hg).1 (h2.lt g hg).2,fun q hq=>aC (h3 q hq) fun g hg=>hb g ((h3 q hq).lt g hg).1 ((h3 q hq).lt g hg).2,h4⟩
theorem pE.len{B:Nat}{w:World}{v:Value}{ps:List (List Nat)}(h:pE B w v ps):∃a c,v=.slice a ps.length c/\ps.length<=maxLen:=by
 obtain⟨qs,h1,h2,h3,h4⟩:=h;exact aF h2
theorem pE.at{B:Nat}{w:World}{v:Value}{ps:List (List Nat)}(h:pE B w v ps){j:Nat}(hj:j<ps.length):∃g cap u,v=.slice (some ⟨g,0,none⟩) ps.length cap/\B<=g/\g<w.heap.size/\w.cell? ⟨g,j,none⟩=some u/\IR B w u ps[j]:=by
 obtain⟨qs,h1,h2,h3,h4⟩:=h;obtain⟨g,cap,rfl,-,-⟩:=h2.form (by omega);have hl:qs.length=ps.length:=by rw[<-h1,List.length_map]
 have hq:qs[j]?=some qs[j]:=List.getElem?_eq_getElem (by omega);have h5:(qs[j]).2=ps[j]:=by
  have:(qs.map Prod.snd)[j]?=ps[j]?:=by rw[h1]
  rw[List.getElem?_map,hq,List.getElem?_eq_getElem hj]at this;simpa using this
 refine⟨g,cap,(qs[j]).1,rfl,(h2.lt g rfl).1,(h2.lt g rfl).2,?_,?_⟩
 ·rw[h2.cellAt j (by omega),List.getElem?_map,hq];rfl
 ·rw[<-h5];exact h3 _ (List.getElem_mem _)
theorem agv{F:Nat->Prop}{w:World}{mb:Nat}{T N:List ByteArray}{b:Nat}{H:List Lx.It}(h:CW F w mb T N b H)(it:Lx.It)(va:Value)(ha:ay YR 9 F w va it.alts)(hp:it.kind≠2->qz T N it)(hs:it.kind=2->∀a,a∈it.alts->a.1.length<=10000/\∀x,x∈a.1->qE T N H x)(hl:it.alts.length<=10000):
  Calls prog 102 #[.pointer (some ⟨mb,0,none⟩),CX va it] w fun e w'=>∃u,e=.returned u/\pE w.heap.size w' u (Lx.partsOf T N b H it)/\Below w.heap.size w w':=by
 obtain⟨i0,hii,hz0,hz1,hz2⟩:=info_parts Tryz.YV;obtain⟨sa,sc,hva,-⟩:=ay.len ha;subst hva;unfold CX;go_enter func102,ntmps102;obtain⟨W,hW⟩:∃W,W=w.alloc (.cells #[.int .i64 (it.kind:Int),.string it.name,.int .u8 (it.mark:Int),.slice sa it.alts.length sc,.int .i64 (it.place:Int)] 158):=⟨_,rfl⟩;have hB:Below w.heap.size w W:=by rw[hW];exact(Below.refl _ _).alloc (zL0) _
 have hWs:W.heap.size=w.heap.size+1:=by rw[hW];simp
 have kx:aj W w.heap.size #[.int .i64 (it.kind:Int),.string it.name,.int .u8 (it.mark:Int),.slice sa it.alts.length sc,.int .i64 (it.place:Int)] 158:=by rw[hW];exact aj.new w _ 158
 by_cases hk:it.kind=2
 ·have RO:Hid (Lx.partsOf T N b H it=it.alts.map fun a=>ig T N b H a.1):=if_pos hk
  have hkn:((it.kind:Int) != 2)=false:=by simp[hk]
  have hs2:=hs hk;have HK:Hid (it.kind=2):=hk;clear hk hp hs;go_wp2_with fail;rw[<-hW];clear hW
  go_loopg [6,7] it.alts.length (fun k vo i wr=>∃(j:Nat)(ps:List (List Nat)),j+k=it.alts.length/\i=.int .i64 j/\pE W.heap.size wr vo ps/\Below W.heap.size W wr/\Hid (ps=(it.alts.take j).map fun a=>ig T N b H a.1))
  case atStart=>exact⟨0,[],by omega,rfl,⟨[],rfl,World.ownsRow_nil _ _ _ _,fun q hq=>(by cases hq),fun q hq=>(by cases hq)⟩,Below.refl _ _,rfl⟩
  case round=>
   obtain⟨j,ps,hk,rfl,ho,hbr,E9⟩:=hrel;have hsr:=hbr.size;have hbw:Below w.heap.size w wr:=hB.trans (hbr.mono (by omega));have gX:aj wr w.heap.size _ 158:=(hbr.block _ (by omega)).trans kx;have x3:wr.cell? ⟨w.heap.size,3,none⟩=some (.slice sa it.alts.length sc):=gX.cell 3;obtain⟨qs,hq1,hq2,hq3,hq4⟩:=ho;obtain⟨oa,oc,tC,uO⟩:=aF hq2;subst tC;unfold maxLen at uO;have hpl:ps.length<=10000:=by rw[E9.out,List.length_map,List.length_take];omega
   by_cases hlt:j<it.alts.length
   ·have har:ay YR 9 F wr _ it.alts:=ay.move (fun g hg=>hbw.block g (h.lt g hg)) (fun _ h=>h) ha
    obtain⟨gb,cap,vi,hv,hg,hi,hc⟩:=Seq.at har (fun _=>rfl) hlt;cases hv;have hsj:=hs2 it.alts[j] (List.getElem_mem hlt);have htk:(it.alts.take (j+1)).map (fun a=>ig T N b H a.1)=ps++[ig T N b H it.alts[j].1]:=by rw[E9.out,List.take_succ_eq_append_getElem hlt,List.map_append];rfl
    have bY:Hid _:=htk;clear htk E9 har;generalize it.alts[j]=x at hi hc hsj bY;obtain⟨its,prec,pa⟩:=x;have hi':bM YR 8 F wr vi its:=hi;obtain⟨ia,ic,iK,him⟩:=Seq.len hi;subst iK;have c0:wr.cell? ⟨gb,j*3,none⟩=some (.slice ia its.length ic):=hc 0 (by decide);have c1:wr.cell? ⟨gb,j*3+1,none⟩=some (.string prec):=hc 1 (by decide);have c2:wr.cell? ⟨gb,j*3+2,none⟩=some (.int .i64 (pa:Int)):=hc 2 (by decide);have ny:gb<wr.heap.size:=by have:=h.lt gb hg;omega
    clear hc hi;go_wp2_with fail;refine(Ws (h.below hbw) its _ hi' hsj.1 prec pa hsj.2).mono ?_;rintro e w2⟨u,rfl,hu,hb2⟩;obtain⟨ua,uc,hvu,-⟩:=aF hu;subst hvu;have ajS:=hb2.size;have Ql:w2.ownsRow W.heap.size 43 1 (.slice oa ps.length oc) ps.length (qs.map Prod.fst):=aC hq2 fun g hg=>hb2.block g (hq2.lt g hg).2
    generalize ig T N b H its=rr at hu bY
    go_wp2_with (at_builtin;go_loud (refine wpList_append_own_at _ rfl _ _ 203 rfl W.heap.size 43 i0 _ 1 24 Tryz.TM hii hz0 hz1 hz2 rfl (by decide) (.slice oa ps.length oc) _ _ rfl (Ql.alloc _) ⟨_,0,none⟩ 1 1 [.slice ua rr.length uc] rfl rfl (bC (aj.new _ _ 43)) (by simp[Value.oneCell']) (by unfold maxLen;omega) (by omega) (by simp;omega) ?_;intro v5 w5 hown5 aU _ j6;obtain⟨dU,dV,hv5,-⟩:=aF hown5;subst hv5))
    have hb5:Below W.heap.size W w5:=((hbr.trans (hb2.mono hsr)).alloc (by omega) _).grown aU (by simp;omega) (fun k hk=>(hq2.lt k hk).1);have hat:∀g,(Value.slice dU (ps.length+1) dV).ownBlock=some g->(Value.slice oa ps.length oc).ownBlock=some g\/w2.heap.size<=g:=by
     intro g hg;rcases j6 with h'|h'
     ·exact .inl (h'▸hg)
     ·rw[h']at hg;simp at hg;exact .inr (by omega)
    have bl:∀g,g<w2.heap.size->(Value.slice oa ps.length oc).ownBlock≠some g->w5.heap[g]?=w2.heap[g]?:=fun g hg hn=>(aU.block g (by simp;omega) (fun e=>hn e.symm)).trans (Below.heap_alloc _ _ _ hg)
    have hpt:pE W.heap.size w5 (.slice dU (ps.length+1) dV) (ps++[rr]):=by
     refine⟨qs++[(.slice ua rr.length uc,rr)],by rw[List.map_append,hq1];rfl,?_,?_,?_⟩
     ·rw[List.length_append,List.map_append];exact hown5
     ·intro q hq
      rcases List.mem_append.1 hq with hq|hq
      ·refine aC (hq3 q hq) fun g hg=>?_
       have RP:=(hq3 q hq).lt g hg;exact(bl g (by omega) (hq4 q hq g hg)).trans (hb2.block g RP.2)
      ·rw[List.mem_singleton.1 hq]
       refine aC (dm hu hsr) fun g hg=>bl g (hu.lt g hg).2 fun e=>?_
       have:=(hu.lt g hg).1;have:=(hq2.lt g e).2;omega
     ·intro q hq g hg e
      rcases hat g e with h'|h'
      ·rcases List.mem_append.1 hq with hq | hq
       ·exact hq4 q hq g hg h'
       ·rw[List.mem_singleton.1 hq]at hg
        have:=(hu.lt g hg).1;have:=(hq2.lt g h').2;omega
      ·rcases List.mem_append.1 hq with hq | hq
       ·have:=((hq3 q hq).lt g hg).2;omega
       ·rw[List.mem_singleton.1 hq]at hg
        have:=(hu.lt g hg).2;omega
    go_roundg (it.alts.length - (j+1))
    case measure=>omega
    case rel=>exact⟨j+1,_,by omega,by go_num,hpt,hb5,bY.out.symm⟩
   ·have:j=it.alts.length:=by omega
    subst this;go_wp2_with fail;go_ret;refine⟨_,rfl,?_,hbw⟩;have e9:ps=Lx.partsOf T N b H it:=by have:=E9.out;rw[List.take_length]at this;rw[RO.out,this]
    rw[<-e9];exact⟨qs,hq1,dm hq2 (by omega),fun q hq=>dm (hq3 q hq) (by omega),hq4⟩
 ·have RO:Hid (Lx.partsOf T N b H it=[[mK T N it]]):=if_neg hk
  have hkn:((it.kind:Int) != 2)=true:=bne_iff_ne.2 (by omega);have hkd:¬(it.kind:Int)=2:=by omega
  have hp1:=hp hk;have HK:Hid (¬it.kind=2):=hk;clear hk hp hs;go_wp2_with fail;rw[<-hW];clear hW;refine(UI (h.below hB) it sa it.alts.length sc hp1).mono ?_;rintro e w2⟨rfl,hb2⟩;have hs2:=hb2.size;go_wp2_with fail;go_ret;refine⟨_,rfl,?_,?_⟩
  ·rw[RO.out]
   have ka:=(aj.new w2 #[.int .i64 (mK T N it:Int)] 3).alloc (.cells #[.slice (some ⟨w2.heap.size,0,none⟩) 1 1] 43);have kb:aj ((w2.alloc (.cells #[.int .i64 (mK T N it:Int)] 3)).alloc (.cells #[.slice (some ⟨w2.heap.size,0,none⟩) 1 1] 43)) (w2.heap.size+1) #[.slice (some ⟨w2.heap.size,0,none⟩) 1 1] 43:=by simpa using aj.new (w2.alloc (.cells #[.int .i64 (mK T N it:Int)] 3)) #[.slice (some ⟨w2.heap.size,0,none⟩) 1 1] 43
   refine⟨[(.slice (some ⟨w2.heap.size,0,none⟩) 1 1,[mK T N it])],rfl,?_,?_,?_⟩
   ·exact⟨rfl,.inr ⟨w2.heap.size+1,1,_,rfl,by omega,kb,zL0,by decide,rfl,rfl⟩⟩
   ·intro q hq
    rw[List.mem_singleton.1 hq];exact⟨rfl,.inr ⟨w2.heap.size,1,_,rfl,by omega,ka,zL0,by decide,rfl,rfl⟩⟩
   ·intro q hq g hg
    rw[List.mem_singleton.1 hq]at hg;simp[Value.ownBlock]at hg|-;omega
  ·exact((hB.trans (hb2.mono (by omega))).alloc (by omega) _).alloc (by simp;omega) _
end Go.Proofs.YtjaalkocdbkdeaaGreatDoor
namespace Go.Proofs.YtjaalkocdbkdeaaGreatDoor
open Lx Go.Proofs.Tryz
open Go.RowKit
open Tr
theorem ahv(T:List ByteArray)(r:List Nat):Es T ⟨#[]⟩ r=jN T.length r:=if_pos rfl
theorem wX{D F:Nat->Prop}{w:World}{mb:Nat}{T N:List ByteArray}{b:Nat}{H:List Lx.It}{P:List Lx.Pd}(h:fP D F w mb T N b H P)(left:Nat)(vR:Value)(r:List Nat)(hr:IR 0 w vR r)(gW:∀g,vR.ownBlock=some g->D g/\mb<g)(hP:P.length<=1000000000000):
  Calls prog 59 #[.pointer (some ⟨mb,0,none⟩),.int .i64 (left:Int),vR,.string ⟨#[]⟩] w fun e w'=>e=.returned (.tuple #[])/\fP D F w' mb T N b H (P++[aQ T.length left r])/\Kp D w w':=by
 have h1:=X7 h left vR r hr gW ⟨#[]⟩ (fun e=>absurd rfl e) hP;rw[ahv]at h1;exact h1
theorem fP.lm{D F:Nat->Prop}{w:World}{mb:Nat}{T N:List ByteArray}{b:Nat}{H:List Lx.It}{P:List Lx.Pd}(h:fP D F w mb T N b H P):mb<w.heap.size:=by
 obtain⟨vT,vN,vP,vH,vL,h1,-⟩:=h.ex;exact h1.lt
theorem afl{D F:Nat->Prop}{w:World}{mb:Nat}{T N:List ByteArray}{b:Nat}{H:List Lx.It}{P:List Lx.Pd}(h:fP D F w mb T N b H P)(it:Lx.It)(va:Value)(ha:ay YR 9 F w va it.alts)(hp:it.kind≠2->qz T N it)(hs:it.kind=2->∀a,a∈it.alts->a.1.length<=10000/\∀x,x∈a.1->qE T N H x)(hl:it.alts.length<=10000)(s:Nat)(hP:P.length+2*(Lx.partsOf T N b H it).length+1<=1000000000000)(hrl:∀r,r∈Lx.partsOf T N b H it->r.length<=10000):
  Calls prog 61 #[.pointer (some ⟨mb,0,none⟩),CX va it,.int .i64 (s:Int)] w fun e w'=>e=.returned (.tuple #[])/\∃D',fP D' F w' mb T N b H (P++iO T.length s it.mark (Lx.partsOf T N b H it))/\(∀g,D g->D' g)/\Kp D w w':=by
 obtain⟨i0,hii,hz0,hz1,hz2⟩:=info_parts Tryz.info3;obtain⟨sa,sc,hva,-⟩:=ay.len ha;subst hva;have jQ:=h.lm;unfold CX;generalize hps:Lx.partsOf T N b H it=ps at hP hrl|-;go_enter func61,ntmps61;obtain⟨W,hW⟩:∃W,W=w.alloc (.cells #[.int .i64 (it.kind:Int),.string it.name,.int .u8 (it.mark:Int),.slice sa it.alts.length sc,.int .i64 (it.place:Int)] 158):=⟨_,rfl⟩;have hB:Below w.heap.size w W:=by rw[hW];exact(Below.refl _ _).alloc (zL0) _
 have hWs:W.heap.size=w.heap.size+1:=by rw[hW];simp
 have kx:aj W w.heap.size #[.int .i64 (it.kind:Int),.string it.name,.int .u8 (it.mark:Int),.slice sa it.alts.length sc,.int .i64 (it.place:Int)] 158:=by rw[hW];exact aj.new w _ 158
 go_wp2_with fail;rw[<-hW];clear hW;have haW:ay YR 9 F W (.slice sa it.alts.length sc) it.alts:=ay.move (fun g hg=>hB.block g (h.lt g (h.fd g hg))) (fun _ h=>h) ha;refine(agv (h.rd.below hB) it _ haW hp hs hl).mono ?_;rintro e w2⟨u,rfl,hu,hb2⟩;rw[hps]at hu;clear hps;have hbw2:Below w.heap.size w w2:=hB.trans (hb2.mono (by omega));have hM2:=h.more hbw2;have hs2:=hb2.size;have iL:aj w2 w.heap.size _ 158:=(hb2.block _ (by omega)).trans kx;have wm:More D w w2 w.heap.size:=.inr ⟨zL0,by omega⟩;obtain⟨D2,hD2⟩:∃D2,D2=More D w w2:=⟨_,rfl⟩;rw[<-hD2]at hM2 wm;have xI:∀g,D g->D2 g:=fun g hg=>by rw[hD2];exact .inl hg
 have hDn:∀g,W.heap.size<=g->g<w2.heap.size->D2 g:=fun g h1 h2=>by rw[hD2];exact .inr ⟨by omega,h2⟩
 have hK2:Kp D w w2:=Kp.below hbw2 h.lt;clear hD2;obtain⟨la,lc,hvu,hlm⟩:=hu.len;subst hvu;unfold maxLen at hlm
 by_cases qo:it.mark=42
 ·have hmk:=qo
  clear qo;have Qm:((it.mark:Int) == 42)=true:=by simp[hmk]
  have Qn:((it.mark:Int) != 42)=false:=by simp[hmk]
  have Qo:((it.mark:Int) == 63)=false:=zB0 (by omega);have hn63:((it.mark:Int) != 63)=true:=bne_iff_ne.2 (by omega);have ZO:¬(it.mark:Int)=63:=by omega
  have Qp:((it.mark:Int) == 43)=false:=zB0 (by omega);have hn43:((it.mark:Int) != 43)=true:=bne_iff_ne.2 (by omega);have ZP:¬(it.mark:Int)=43:=by omega
  have HH:Hid (iO T.length s it.mark ps=[aQ T.length s []]++([]++ps.map fun r=>aQ T.length s (s::r))):=by simp[Hid,iO,hmk]
  have wo:Hid (it.mark=42):=hmk;clear hmk;have Dn:w2.cell? ⟨w.heap.size,2,none⟩=some (.int .u8 (it.mark:Int)):=iL.cell 2;go_wp2_with fail;refine(wX hM2 s (.slice none 0 0) [] (World.ownsRow_nil _ _ _ _) (fun g hg=>by simp[Value.ownBlock]at hg) (by omega)).mono ?_;rintro e w3⟨rfl,iU,hK3⟩;obtain⟨P3,hP3⟩:∃P3,P3=P++[aQ T.length s []]:=⟨_,rfl⟩;have Qq:P3.length+2*ps.length<=1000000000000:=by rw[hP3,List.length_append,List.length_singleton];omega
  have uI:Hid (P3=P++[aQ T.length s []]):=hP3;rw[<-hP3]at iU;clear hP3 Dn;go_wp2_with fail
  by_cases hpos:0<ps.length
  ·skip
   go_loopg [7] 0 (fun k i wr=>k=0/\i=.int .i64 0/\wr=w3)
   case atStart=>exact⟨rfl,rfl,rfl⟩
   case round=>
    obtain⟨rfl,rfl,hwr⟩:=hrel;have aO:fP D2 F wr mb T N b H P3:=hwr▸iU;have hKr:Kp D2 w2 wr:=hwr▸hK3;clear hwr iU hK3;have gV:∀g,D2 g->wr.heap[g]?=w2.heap[g]?:=hKr.block;have gX:aj wr w.heap.size _ 158:=(gV _ wm).trans iL;have x2:wr.cell? ⟨w.heap.size,2,none⟩=some (.int .u8 (it.mark:Int)):=gX.cell 2;have jE:=aO.lm;obtain⟨P4,eY⟩:∃P4,P4=P3++[]:=⟨_,rfl⟩;have LA:P4.length+ps.length<=1000000000000:=by rw[eY,List.append_nil];omega
    have zk:Hid (P4=P3++[]):=eY;rw[List.append_nil]at eY;rw[<-eY]at aO;clear eY;go_wp2_with fail
    all_goals
     clear x2 gX jE gV;obtain⟨w4,hw4⟩:∃w4,w4=wr:=⟨_,rfl⟩;rw[<-hw4]at aO hKr|-;clear hw4;have qp:=aO;have hK4:=hKr;clear aO hKr
     go_loopg [8] ps.length (fun k i wr=>∃(m:Nat)(D3:Nat->Prop),m+k=ps.length/\i=.int .i64 m/\fP D3 F wr mb T N b H (P4++(ps.take m).map (fun r=>aQ T.length s (s::r)))/\(∀g,D2 g->D3 g)/\Kp D2 w2 wr)
     case atStart=>exact⟨0,D2,by omega,rfl,by simpa using qp,fun _ h=>h,hK4⟩
     case round=>
      clear qp hK4;obtain⟨m,D3,hkm,rfl,aO,hD3,hKr⟩:=hrel;have gV:∀g,D2 g->wr.heap[g]?=w2.heap[g]?:=hKr.block;have gX:aj wr w.heap.size _ 158:=(gV _ wm).trans iL;have x2:wr.cell? ⟨w.heap.size,2,none⟩=some (.int .u8 (it.mark:Int)):=gX.cell 2;have jE:=aO.lm
      by_cases hlt:m<ps.length
      ·have htk:(ps.take (m+1)).map (fun r=>aQ T.length s (s::r))=(ps.take m).map (fun r=>aQ T.length s (s::r))++[aQ T.length s (s::ps[m])]:=by rw[List.take_succ_eq_append_getElem hlt,List.map_append];rfl
       have bY:Hid _:=htk;clear htk;obtain⟨gl,cl,ur,hv,yI,rz,hcl,hur⟩:=hu.at hlt;cases hv;have LB:wr.cell? ⟨gl,m,none⟩=some ur:=(World.cell?_of_block (w:=w2) (gV gl (hDn gl yI rz))).trans hcl;have LD:gl<wr.heap.size:=Nat.lt_of_lt_of_le rz hKr.size;have uy:∀g,ur.ownBlock=some g->D2 g:=fun g hg=>hDn g (hur.lt g hg).1 (hur.lt g hg).2
       have Cx:∀g,ur.ownBlock=some g->mb<g:=fun g hg=>by have:=(hur.lt g hg).1;omega
       have mO:IR 0 wr ur ps[m]:=dm (aC hur fun g hg=>gV g (uy g hg)) (Nat.zero_le _);have yJ:=hrl ps[m] (List.getElem_mem hlt);clear hur;generalize ps[m]=pm at mO yJ bY;obtain⟨ra,rc,vY,-⟩:=aF mO;subst vY;have IQ:=aO.lt;have sQ:(wr.alloc (.cells #[.int .i64 (s:Int)] 3)).ownsRow wr.heap.size 3 1 (.slice (some ⟨wr.heap.size,0,none⟩) 1 1) 1 [.int .i64 (s:Int)]:=⟨rfl,.inr ⟨wr.heap.size,1,_,rfl,zL0,aj.new wr _ 3,zL0,by decide,rfl,rfl⟩⟩;have hb0:Below wr.heap.size wr (wr.alloc (.cells #[.int .i64 (s:Int)] 3)):=(Below.refl _ _).alloc (zL0) _;have lV:(P4++(ps.take m).map (fun r=>aQ T.length s (s::r))).length<=1000000000000:=by rw[List.length_append,List.length_map,List.length_take];omega
       obtain⟨P5,wu⟩:∃P5,P5=P4++(ps.take m).map (fun r=>aQ T.length s (s::r)):=⟨_,rfl⟩;rw[<-wu]at aO lV;have IU:Hid _:=wu;clear wu;rcases mO.2 with ⟨A9,hzero⟩|⟨g4,cap4,GY,A9,hg4,Ez,hc4,xu,-,-⟩
       ·obtain rfl:pm=[]:=List.eq_nil_of_length_eq_zero hzero
        cases A9
        go_wp2_with (at_builtin;go_loud (refine wpList_append_own_none rfl _ _ 43 rfl wr.heap.size 3 i0 1 underlying43 hii (.slice (some ⟨wr.heap.size,0,none⟩) 1 1) _ _ rfl sQ rfl ?_))
        have fE:=aO.more hb0;have nu:IR 0 (wr.alloc (.cells #[.int .i64 (s:Int)] 3)) (.slice (some ⟨wr.heap.size,0,none⟩) 1 1) (s::[]):=dm sQ (Nat.zero_le _);refine(wX fE s _ (s::[]) nu (fun g hg=>⟨.inr (sQ.lt g hg),Nat.lt_of_lt_of_le jE (sQ.lt g hg).1⟩) lV).mono ?_;rintro e w6⟨rfl,kP,nX⟩;have wC:Kp D2 w2 w6:=(hKr.trans (Kp.below hb0 IQ) hD3).trans nX (fun g hg=>.inl (hD3 g hg));have oL:=kP;rw[IU.out,List.append_assoc,<-bY.out]at oL;go_wp2_with fail;go_roundg (ps.length - (m+1))
        case measure=>omega
        case rel=>exact⟨m+1,_,by omega,by go_num,oL,fun g hg=>.inl (hD3 g hg),wC⟩
       ·cases A9
        unfold maxLen at xu;have Qr:∀j u,(gK pm)[j]?=some u->(wr.alloc (.cells #[.int .i64 (s:Int)] 3)).cell? ((⟨g4,0,none⟩:Addr).add j)=some u:=(World.ownsRow.alloc mO _).cells rfl
        go_wp2_with (at_builtin;go_loud (refine wpList_append_own_at _ rfl _ _ 43 rfl wr.heap.size 3 i0 _ 1 8 underlying43 hii hz0 hz1 hz2 rfl (by decide) (.slice (some ⟨wr.heap.size,0,none⟩) 1 1) _ _ rfl sQ ⟨g4,0,none⟩ pm.length rc (gK pm) rfl (by rw[yj,Nat.mul_one]) Qr (Oy _) (by unfold maxLen;omega) (by omega) (by simp) ?_;intro v5 w5 hown5 aU _ _;obtain⟨dU,dV,hv5,-⟩:=aF hown5;subst hv5))
        have hb5:Below wr.heap.size wr w5:=hb0.grown aU (by simp) (fun k hk=>(sQ.lt k hk).1);have fE:=aO.more hb5;have nu:IR 0 w5 (.slice dU (1+pm.length) dV) (s::pm):=by
         have h9:=dm hown5 (Nat.zero_le _);unfold IR;rw[show (s::pm).length=1+pm.length by rw[List.length_cons];omega];exact h9
        refine(wX fE s _ (s::pm) nu (fun g hg=>⟨.inr (hown5.lt g hg),Nat.lt_of_lt_of_le jE (hown5.lt g hg).1⟩) lV).mono ?_;rintro e w6⟨rfl,kP,nX⟩;have wC:Kp D2 w2 w6:=(hKr.trans (Kp.below hb5 IQ) hD3).trans nX (fun g hg=>.inl (hD3 g hg));have oL:=kP;rw[IU.out,List.append_assoc,<-bY.out]at oL;go_wp2_with fail;go_roundg (ps.length - (m+1))
        case measure=>omega
        case rel=>exact⟨m+1,_,by omega,by go_num,oL,fun g hg=>.inl (hD3 g hg),wC⟩
      ·have:m=ps.length:=by omega
       subst this;rw[List.take_length]at aO;go_wp2_with fail
       go_end0
       refine⟨rfl,D3,?_,fun g hg=>hD3 g (xI g hg),hK2.trans hKr xI⟩;have e9:=zk.out;rw[e9,uI.out]at aO;rw[HH.out];simpa [List.append_assoc]using aO
  ·have ZQ:ps=[]:=List.eq_nil_of_length_eq_zero (by omega)
   have HH2:Hid (iO T.length s it.mark ps=[aQ T.length s []]++([]++[])):=by have:=HH.out;rw[ZQ]at this|-;exact this
   clear HH ZQ;have HH:=HH2
   go_loopg [7] 0 (fun k i wr=>k=0/\i=.int .i64 0/\wr=w3)
   case atStart=>exact⟨rfl,rfl,rfl⟩
   case round=>
    obtain⟨rfl,rfl,hwr⟩:=hrel;have aO:fP D2 F wr mb T N b H P3:=hwr▸iU;have hKr:Kp D2 w2 wr:=hwr▸hK3;clear hwr iU hK3;have gV:∀g,D2 g->wr.heap[g]?=w2.heap[g]?:=hKr.block;have gX:aj wr w.heap.size _ 158:=(gV _ wm).trans iL;have x2:wr.cell? ⟨w.heap.size,2,none⟩=some (.int .u8 (it.mark:Int)):=gX.cell 2;have jE:=aO.lm;obtain⟨P4,eY⟩:∃P4,P4=P3++[]:=⟨_,rfl⟩;have LA:P4.length+ps.length<=1000000000000:=by rw[eY,List.append_nil];omega
    have zk:Hid (P4=P3++[]):=eY;rw[List.append_nil]at eY;rw[<-eY]at aO;clear eY;go_wp2_with fail
    all_goals
     clear x2 gX jE gV;obtain⟨w4,hw4⟩:∃w4,w4=wr:=⟨_,rfl⟩;rw[<-hw4]at aO hKr|-;clear hw4
     go_loopg [8] 0 (fun k i wr=>k=0/\i=.int .i64 0/\wr=w4)
     case atStart=>exact⟨rfl,rfl,rfl⟩
     case round=>
      obtain⟨rfl,rfl,hwr⟩:=hrel;rw[<-hwr]at aO hKr;clear hwr;have gV:∀g,D2 g->wr.heap[g]?=w2.heap[g]?:=hKr.block;have gX:aj wr w.heap.size _ 158:=(gV _ wm).trans iL;have x2:wr.cell? ⟨w.heap.size,2,none⟩=some (.int .u8 (it.mark:Int)):=gX.cell 2;have jE:=aO.lm;go_wp2_with fail
      all_goals
       go_end0
       refine⟨rfl,D2,?_,xI,hK2.trans hKr xI⟩;have e9:=zk.out;rw[e9,uI.out]at aO;rw[HH.out];simpa [List.append_assoc]using aO
 ·by_cases h63:it.mark=63
  ·have hmk:=h63
   clear h63;have Qm:((it.mark:Int) == 42)=false:=zB0 (by omega);have Qn:((it.mark:Int) != 42)=true:=bne_iff_ne.2 (by omega);have ZR:¬(it.mark:Int)=42:=by omega
   have Qo:((it.mark:Int) == 63)=true:=by simp[hmk]
   have hn63:((it.mark:Int) != 63)=false:=by simp[hmk]
   have Qp:((it.mark:Int) == 43)=false:=zB0 (by omega);have hn43:((it.mark:Int) != 43)=true:=bne_iff_ne.2 (by omega);have ZP:¬(it.mark:Int)=43:=by omega
   have HH:Hid (iO T.length s it.mark ps=[aQ T.length s []]++(ps.map (aQ T.length s)++[])):=by simp[Hid,iO,hmk]
   have wo:Hid (it.mark=63):=hmk;clear hmk;clear qo;have Dn:w2.cell? ⟨w.heap.size,2,none⟩=some (.int .u8 (it.mark:Int)):=iL.cell 2;go_wp2_with fail;refine(wX hM2 s (.slice none 0 0) [] (World.ownsRow_nil _ _ _ _) (fun g hg=>by simp[Value.ownBlock]at hg) (by omega)).mono ?_;rintro e w3⟨rfl,iU,hK3⟩;obtain⟨P3,hP3⟩:∃P3,P3=P++[aQ T.length s []]:=⟨_,rfl⟩;have Qq:P3.length+2*ps.length<=1000000000000:=by rw[hP3,List.length_append,List.length_singleton];omega
   have uI:Hid (P3=P++[aQ T.length s []]):=hP3;rw[<-hP3]at iU;clear hP3 Dn;go_wp2_with fail
   go_loopg [7] ps.length (fun k i wr=>∃m:Nat,m+k=ps.length/\i=.int .i64 m/\fP D2 F wr mb T N b H (P3++(ps.take m).map (aQ T.length s))/\Kp D2 w2 wr)
   case atStart=>exact⟨0,by omega,rfl,by simpa using iU,hK3⟩
   case round=>
    clear iU hK3;obtain⟨m,hkm,rfl,aO,hKr⟩:=hrel;have gV:∀g,D2 g->wr.heap[g]?=w2.heap[g]?:=hKr.block;have gX:aj wr w.heap.size _ 158:=(gV _ wm).trans iL;have x2:wr.cell? ⟨w.heap.size,2,none⟩=some (.int .u8 (it.mark:Int)):=gX.cell 2;have jE:=aO.lm
    by_cases hlt:m<ps.length
    ·have htk:(ps.take (m+1)).map (aQ T.length s)=(ps.take m).map (aQ T.length s)++[aQ T.length s ps[m]]:=by rw[List.take_succ_eq_append_getElem hlt,List.map_append];rfl
     have bY:Hid _:=htk;clear htk;obtain⟨gl,cl,ur,hv,yI,rz,hcl,hur⟩:=hu.at hlt;cases hv;have LB:wr.cell? ⟨gl,m,none⟩=some ur:=(World.cell?_of_block (w:=w2) (gV gl (hDn gl yI rz))).trans hcl;have LD:gl<wr.heap.size:=Nat.lt_of_lt_of_le rz hKr.size;have uy:∀g,ur.ownBlock=some g->D2 g:=fun g hg=>hDn g (hur.lt g hg).1 (hur.lt g hg).2
     have Cx:∀g,ur.ownBlock=some g->mb<g:=fun g hg=>by have:=(hur.lt g hg).1;omega
     have mO:IR 0 wr ur ps[m]:=dm (aC hur fun g hg=>gV g (uy g hg)) (Nat.zero_le _);have yJ:=hrl ps[m] (List.getElem_mem hlt);clear hur;generalize ps[m]=pm at mO yJ bY;obtain⟨ra,rc,vY,-⟩:=aF mO;subst vY;go_wp2_with fail;refine(wX aO s _ pm mO (fun g hg=>⟨uy g hg,Cx g hg⟩) (by rw[List.length_append,List.length_map,List.length_take];omega)).mono ?_;rintro e w5⟨rfl,fE,wD⟩;have nX:=hKr.trans wD (fun _ h=>h);have kP:fP D2 F w5 mb T N b H (P3++(ps.take (m+1)).map (aQ T.length s)):=by rw[bY.out,<-List.append_assoc];exact fE
     go_wp2_with fail;go_roundg (ps.length - (m+1))
     case measure=>omega
     case rel=>exact⟨m+1,by omega,by go_num,kP,nX⟩
    ·have:m=ps.length:=by omega
     subst this;rw[List.take_length]at aO;obtain⟨P4,eY⟩:∃P4,P4=P3++ps.map (aQ T.length s):=⟨_,rfl⟩;have LA:P4.length+ps.length<=1000000000000:=by rw[eY,List.length_append,List.length_map];omega
     have zk:Hid (P4=P3++ps.map (aQ T.length s)):=eY;rw[<-eY]at aO;clear eY;go_wp2_with fail;clear x2 gX jE gV;obtain⟨w4,hw4⟩:∃w4,w4=wr:=⟨_,rfl⟩;rw[<-hw4]at aO hKr|-;clear hw4
     go_loopg [8] 0 (fun k i wr=>k=0/\i=.int .i64 0/\wr=w4)
     case atStart=>exact⟨rfl,rfl,rfl⟩
     case round=>
      obtain⟨rfl,rfl,hwr⟩:=hrel;rw[<-hwr]at aO hKr;clear hwr;have gV:∀g,D2 g->wr.heap[g]?=w2.heap[g]?:=hKr.block;have gX:aj wr w.heap.size _ 158:=(gV _ wm).trans iL;have x2:wr.cell? ⟨w.heap.size,2,none⟩=some (.int .u8 (it.mark:Int)):=gX.cell 2;have jE:=aO.lm;go_wp2_with fail
      all_goals
       go_end0
       refine⟨rfl,D2,?_,xI,hK2.trans hKr xI⟩;have e9:=zk.out;rw[e9,uI.out]at aO;rw[HH.out];simpa [List.append_assoc]using aO
  ·by_cases h43:it.mark=43
   ·have hmk:=h43
    clear h43;have Qm:((it.mark:Int) == 42)=false:=zB0 (by omega);have Qn:((it.mark:Int) != 42)=true:=bne_iff_ne.2 (by omega);have ZR:¬(it.mark:Int)=42:=by omega
    have Qo:((it.mark:Int) == 63)=false:=zB0 (by omega);have hn63:((it.mark:Int) != 63)=true:=bne_iff_ne.2 (by omega);have ZO:¬(it.mark:Int)=63:=by omega
    have Qp:((it.mark:Int) == 43)=true:=by simp[hmk]
    have hn43:((it.mark:Int) != 43)=false:=by simp[hmk]
    have HH:Hid (iO T.length s it.mark ps=[]++(ps.map (aQ T.length s)++ps.map fun r=>aQ T.length s (s::r))):=by simp[Hid,iO,hmk]
    have wo:Hid (it.mark=43):=hmk;clear hmk;clear qo h63;have Dn:w2.cell? ⟨w.heap.size,2,none⟩=some (.int .u8 (it.mark:Int)):=iL.cell 2;go_wp2_with fail;obtain⟨w3,hw3⟩:∃w3,w3=w2:=⟨_,rfl⟩;rw[<-hw3];obtain⟨P3,hP3⟩:∃P3,P3=P++[]:=⟨_,rfl⟩;have Qq:P3.length+2*ps.length<=1000000000000:=by rw[hP3,List.append_nil];omega
    have uI:Hid (P3=P++[]):=hP3;have iU:fP D2 F w3 mb T N b H P3:=by rw[hP3,List.append_nil,hw3];exact hM2
    have hK3:Kp D2 w2 w3:=by rw[hw3];exact Kp.refl _ _
    clear hP3 Dn hw3
    go_loopg [7] ps.length (fun k i wr=>∃m:Nat,m+k=ps.length/\i=.int .i64 m/\fP D2 F wr mb T N b H (P3++(ps.take m).map (aQ T.length s))/\Kp D2 w2 wr)
    case atStart=>exact⟨0,by omega,rfl,by simpa using iU,hK3⟩
    case round=>
     clear iU hK3;obtain⟨m,hkm,rfl,aO,hKr⟩:=hrel;have gV:∀g,D2 g->wr.heap[g]?=w2.heap[g]?:=hKr.block;have gX:aj wr w.heap.size _ 158:=(gV _ wm).trans iL;have x2:wr.cell? ⟨w.heap.size,2,none⟩=some (.int .u8 (it.mark:Int)):=gX.cell 2;have jE:=aO.lm
     by_cases hlt:m<ps.length
     ·have htk:(ps.take (m+1)).map (aQ T.length s)=(ps.take m).map (aQ T.length s)++[aQ T.length s ps[m]]:=by rw[List.take_succ_eq_append_getElem hlt,List.map_append];rfl
      have bY:Hid _:=htk;clear htk;obtain⟨gl,cl,ur,hv,yI,rz,hcl,hur⟩:=hu.at hlt;cases hv;have LB:wr.cell? ⟨gl,m,none⟩=some ur:=(World.cell?_of_block (w:=w2) (gV gl (hDn gl yI rz))).trans hcl;have LD:gl<wr.heap.size:=Nat.lt_of_lt_of_le rz hKr.size;have uy:∀g,ur.ownBlock=some g->D2 g:=fun g hg=>hDn g (hur.lt g hg).1 (hur.lt g hg).2
      have Cx:∀g,ur.ownBlock=some g->mb<g:=fun g hg=>by have:=(hur.lt g hg).1;omega
      have mO:IR 0 wr ur ps[m]:=dm (aC hur fun g hg=>gV g (uy g hg)) (Nat.zero_le _);have yJ:=hrl ps[m] (List.getElem_mem hlt);clear hur;generalize ps[m]=pm at mO yJ bY;obtain⟨ra,rc,vY,-⟩:=aF mO;subst vY;go_wp2_with fail;refine(wX aO s _ pm mO (fun g hg=>⟨uy g hg,Cx g hg⟩) (by rw[List.length_append,List.length_map,List.length_take];omega)).mono ?_;rintro e w5⟨rfl,fE,wD⟩;have nX:=hKr.trans wD (fun _ h=>h);have kP:fP D2 F w5 mb T N b H (P3++(ps.take (m+1)).map (aQ T.length s)):=by rw[bY.out,<-List.append_assoc];exact fE
      go_wp2_with fail;go_roundg (ps.length - (m+1))
      case measure=>omega
      case rel=>exact⟨m+1,by omega,by go_num,kP,nX⟩
     ·have:m=ps.length:=by omega
      subst this;rw[List.take_length]at aO;obtain⟨P4,eY⟩:∃P4,P4=P3++ps.map (aQ T.length s):=⟨_,rfl⟩;have LA:P4.length+ps.length<=1000000000000:=by rw[eY,List.length_append,List.length_map];omega
      have zk:Hid (P4=P3++ps.map (aQ T.length s)):=eY;rw[<-eY]at aO;clear eY;go_wp2_with fail;clear x2 gX jE gV;obtain⟨w4,hw4⟩:∃w4,w4=wr:=⟨_,rfl⟩;rw[<-hw4]at aO hKr|-;clear hw4;have qp:=aO;have hK4:=hKr;clear aO hKr
      go_loopg [8] ps.length (fun k i wr=>∃(m:Nat)(D3:Nat->Prop),m+k=ps.length/\i=.int .i64 m/\fP D3 F wr mb T N b H (P4++(ps.take m).map (fun r=>aQ T.length s (s::r)))/\(∀g,D2 g->D3 g)/\Kp D2 w2 wr)
      case atStart=>exact⟨0,D2,by omega,rfl,by simpa using qp,fun _ h=>h,hK4⟩
      case round=>
       clear qp hK4;obtain⟨m,D3,hkm,rfl,aO,hD3,hKr⟩:=hrel;have gV:∀g,D2 g->wr.heap[g]?=w2.heap[g]?:=hKr.block;have gX:aj wr w.heap.size _ 158:=(gV _ wm).trans iL;have x2:wr.cell? ⟨w.heap.size,2,none⟩=some (.int .u8 (it.mark:Int)):=gX.cell 2;have jE:=aO.lm
       by_cases hlt:m<ps.length
       ·have htk:(ps.take (m+1)).map (fun r=>aQ T.length s (s::r))=(ps.take m).map (fun r=>aQ T.length s (s::r))++[aQ T.length s (s::ps[m])]:=by rw[List.take_succ_eq_append_getElem hlt,List.map_append];rfl
        have bY:Hid _:=htk;clear htk;obtain⟨gl,cl,ur,hv,yI,rz,hcl,hur⟩:=hu.at hlt;cases hv;have LB:wr.cell? ⟨gl,m,none⟩=some ur:=(World.cell?_of_block (w:=w2) (gV gl (hDn gl yI rz))).trans hcl;have LD:gl<wr.heap.size:=Nat.lt_of_lt_of_le rz hKr.size;have uy:∀g,ur.ownBlock=some g->D2 g:=fun g hg=>hDn g (hur.lt g hg).1 (hur.lt g hg).2
        have Cx:∀g,ur.ownBlock=some g->mb<g:=fun g hg=>by have:=(hur.lt g hg).1;omega
        have mO:IR 0 wr ur ps[m]:=dm (aC hur fun g hg=>gV g (uy g hg)) (Nat.zero_le _);have yJ:=hrl ps[m] (List.getElem_mem hlt);clear hur;generalize ps[m]=pm at mO yJ bY;obtain⟨ra,rc,vY,-⟩:=aF mO;subst vY;have IQ:=aO.lt;have sQ:(wr.alloc (.cells #[.int .i64 (s:Int)] 3)).ownsRow wr.heap.size 3 1 (.slice (some ⟨wr.heap.size,0,none⟩) 1 1) 1 [.int .i64 (s:Int)]:=⟨rfl,.inr ⟨wr.heap.size,1,_,rfl,zL0,aj.new wr _ 3,zL0,by decide,rfl,rfl⟩⟩;have hb0:Below wr.heap.size wr (wr.alloc (.cells #[.int .i64 (s:Int)] 3)):=(Below.refl _ _).alloc (zL0) _;have lV:(P4++(ps.take m).map (fun r=>aQ T.length s (s::r))).length<=1000000000000:=by rw[List.length_append,List.length_map,List.length_take];omega
        obtain⟨P5,wu⟩:∃P5,P5=P4++(ps.take m).map (fun r=>aQ T.length s (s::r)):=⟨_,rfl⟩;rw[<-wu]at aO lV;have IU:Hid _:=wu;clear wu;rcases mO.2 with ⟨A9,hzero⟩|⟨g4,cap4,GY,A9,hg4,Ez,hc4,xu,-,-⟩
        ·obtain rfl:pm=[]:=List.eq_nil_of_length_eq_zero hzero
         cases A9
         go_wp2_with (at_builtin;go_loud (refine wpList_append_own_none rfl _ _ 43 rfl wr.heap.size 3 i0 1 underlying43 hii (.slice (some ⟨wr.heap.size,0,none⟩) 1 1) _ _ rfl sQ rfl ?_))
         have fE:=aO.more hb0;have nu:IR 0 (wr.alloc (.cells #[.int .i64 (s:Int)] 3)) (.slice (some ⟨wr.heap.size,0,none⟩) 1 1) (s::[]):=dm sQ (Nat.zero_le _);refine(wX fE s _ (s::[]) nu (fun g hg=>⟨.inr (sQ.lt g hg),Nat.lt_of_lt_of_le jE (sQ.lt g hg).1⟩) lV).mono ?_;rintro e w6⟨rfl,kP,nX⟩;have wC:Kp D2 w2 w6:=(hKr.trans (Kp.below hb0 IQ) hD3).trans nX (fun g hg=>.inl (hD3 g hg));have oL:=kP;rw[IU.out,List.append_assoc,<-bY.out]at oL;go_wp2_with fail;go_roundg (ps.length - (m+1))
         case measure=>omega
         case rel=>exact⟨m+1,_,by omega,by go_num,oL,fun g hg=>.inl (hD3 g hg),wC⟩
        ·cases A9
         unfold maxLen at xu;have Qr:∀j u,(gK pm)[j]?=some u->(wr.alloc (.cells #[.int .i64 (s:Int)] 3)).cell? ((⟨g4,0,none⟩:Addr).add j)=some u:=(World.ownsRow.alloc mO _).cells rfl
         go_wp2_with (at_builtin;go_loud (refine wpList_append_own_at _ rfl _ _ 43 rfl wr.heap.size 3 i0 _ 1 8 underlying43 hii hz0 hz1 hz2 rfl (by decide) (.slice (some ⟨wr.heap.size,0,none⟩) 1 1) _ _ rfl sQ ⟨g4,0,none⟩ pm.length rc (gK pm) rfl (by rw[yj,Nat.mul_one]) Qr (Oy _) (by unfold maxLen;omega) (by omega) (by simp) ?_;intro v5 w5 hown5 aU _ _;obtain⟨dU,dV,hv5,-⟩:=aF hown5;subst hv5))
         have hb5:Below wr.heap.size wr w5:=hb0.grown aU (by simp) (fun k hk=>(sQ.lt k hk).1);have fE:=aO.more hb5;have nu:IR 0 w5 (.slice dU (1+pm.length) dV) (s::pm):=by
          have h9:=dm hown5 (Nat.zero_le _);unfold IR;rw[show (s::pm).length=1+pm.length by rw[List.length_cons];omega];exact h9
         refine(wX fE s _ (s::pm) nu (fun g hg=>⟨.inr (hown5.lt g hg),Nat.lt_of_lt_of_le jE (hown5.lt g hg).1⟩) lV).mono ?_;rintro e w6⟨rfl,kP,nX⟩;have wC:Kp D2 w2 w6:=(hKr.trans (Kp.below hb5 IQ) hD3).trans nX (fun g hg=>.inl (hD3 g hg));have oL:=kP;rw[IU.out,List.append_assoc,<-bY.out]at oL;go_wp2_with fail;go_roundg (ps.length - (m+1))
         case measure=>omega
         case rel=>exact⟨m+1,_,by omega,by go_num,oL,fun g hg=>.inl (hD3 g hg),wC⟩
       ·have:m=ps.length:=by omega
        subst this;rw[List.take_length]at aO;go_wp2_with fail
        go_end0
        refine⟨rfl,D3,?_,fun g hg=>hD3 g (xI g hg),hK2.trans hKr xI⟩;have e9:=zk.out;rw[e9,uI.out]at aO;rw[HH.out];simpa [List.append_assoc]using aO
   ·skip
    have Qm:((it.mark:Int) == 42)=false:=zB0 (by omega);have Qn:((it.mark:Int) != 42)=true:=bne_iff_ne.2 (by omega);have ZR:¬(it.mark:Int)=42:=by omega
    have Qo:((it.mark:Int) == 63)=false:=zB0 (by omega);have hn63:((it.mark:Int) != 63)=true:=bne_iff_ne.2 (by omega);have ZO:¬(it.mark:Int)=63:=by omega
    have Qp:((it.mark:Int) == 43)=false:=zB0 (by omega);have hn43:((it.mark:Int) != 43)=true:=bne_iff_ne.2 (by omega);have ZP:¬(it.mark:Int)=43:=by omega
    have HH:Hid (iO T.length s it.mark ps=[]++(ps.map (aQ T.length s)++[])):=by simp[Hid,iO,qo,h63,h43]
    have wo:Hid (¬it.mark=42/\¬it.mark=63/\¬it.mark=43):=⟨qo,h63,h43⟩;clear qo h63 h43;have Dn:w2.cell? ⟨w.heap.size,2,none⟩=some (.int .u8 (it.mark:Int)):=iL.cell 2;go_wp2_with fail;obtain⟨w3,hw3⟩:∃w3,w3=w2:=⟨_,rfl⟩;rw[<-hw3];obtain⟨P3,hP3⟩:∃P3,P3=P++[]:=⟨_,rfl⟩;have Qq:P3.length+2*ps.length<=1000000000000:=by rw[hP3,List.append_nil];omega
    have uI:Hid (P3=P++[]):=hP3;have iU:fP D2 F w3 mb T N b H P3:=by rw[hP3,List.append_nil,hw3];exact hM2
    have hK3:Kp D2 w2 w3:=by rw[hw3];exact Kp.refl _ _
    clear hP3 Dn hw3
    go_loopg [7] ps.length (fun k i wr=>∃m:Nat,m+k=ps.length/\i=.int .i64 m/\fP D2 F wr mb T N b H (P3++(ps.take m).map (aQ T.length s))/\Kp D2 w2 wr)
    case atStart=>exact⟨0,by omega,rfl,by simpa using iU,hK3⟩
    case round=>
     clear iU hK3;obtain⟨m,hkm,rfl,aO,hKr⟩:=hrel;have gV:∀g,D2 g->wr.heap[g]?=w2.heap[g]?:=hKr.block;have gX:aj wr w.heap.size _ 158:=(gV _ wm).trans iL;have x2:wr.cell? ⟨w.heap.size,2,none⟩=some (.int .u8 (it.mark:Int)):=gX.cell 2;have jE:=aO.lm
     by_cases hlt:m<ps.length
     ·have htk:(ps.take (m+1)).map (aQ T.length s)=(ps.take m).map (aQ T.length s)++[aQ T.length s ps[m]]:=by rw[List.take_succ_eq_append_getElem hlt,List.map_append];rfl
      have bY:Hid _:=htk;clear htk;obtain⟨gl,cl,ur,hv,yI,rz,hcl,hur⟩:=hu.at hlt;cases hv;have LB:wr.cell? ⟨gl,m,none⟩=some ur:=(World.cell?_of_block (w:=w2) (gV gl (hDn gl yI rz))).trans hcl;have LD:gl<wr.heap.size:=Nat.lt_of_lt_of_le rz hKr.size;have uy:∀g,ur.ownBlock=some g->D2 g:=fun g hg=>hDn g (hur.lt g hg).1 (hur.lt g hg).2
      have Cx:∀g,ur.ownBlock=some g->mb<g:=fun g hg=>by have:=(hur.lt g hg).1;omega
      have mO:IR 0 wr ur ps[m]:=dm (aC hur fun g hg=>gV g (uy g hg)) (Nat.zero_le _);have yJ:=hrl ps[m] (List.getElem_mem hlt);clear hur;generalize ps[m]=pm at mO yJ bY;obtain⟨ra,rc,vY,-⟩:=aF mO;subst vY;go_wp2_with fail;refine(wX aO s _ pm mO (fun g hg=>⟨uy g hg,Cx g hg⟩) (by rw[List.length_append,List.length_map,List.length_take];omega)).mono ?_;rintro e w5⟨rfl,fE,wD⟩;have nX:=hKr.trans wD (fun _ h=>h);have kP:fP D2 F w5 mb T N b H (P3++(ps.take (m+1)).map (aQ T.length s)):=by rw[bY.out,<-List.append_assoc];exact fE
      go_wp2_with fail;go_roundg (ps.length - (m+1))
      case measure=>omega
      case rel=>exact⟨m+1,by omega,by go_num,kP,nX⟩
     ·have:m=ps.length:=by omega
      subst this;rw[List.take_length]at aO;obtain⟨P4,eY⟩:∃P4,P4=P3++ps.map (aQ T.length s):=⟨_,rfl⟩;have LA:P4.length+ps.length<=1000000000000:=by rw[eY,List.length_append,List.length_map];omega
      have zk:Hid (P4=P3++ps.map (aQ T.length s)):=eY;rw[<-eY]at aO;clear eY;go_wp2_with fail;clear x2 gX jE gV;obtain⟨w4,hw4⟩:∃w4,w4=wr:=⟨_,rfl⟩;rw[<-hw4]at aO hKr|-;clear hw4
      go_loopg [8] 0 (fun k i wr=>k=0/\i=.int .i64 0/\wr=w4)
      case atStart=>exact⟨rfl,rfl,rfl⟩
      case round=>
       obtain⟨rfl,rfl,hwr⟩:=hrel;rw[<-hwr]at aO hKr;clear hwr;have gV:∀g,D2 g->wr.heap[g]?=w2.heap[g]?:=hKr.block;have gX:aj wr w.heap.size _ 158:=(gV _ wm).trans iL;have x2:wr.cell? ⟨w.heap.size,2,none⟩=some (.int .u8 (it.mark:Int)):=gX.cell 2;have jE:=aO.lm;go_wp2_with fail
       all_goals
        go_end0
        refine⟨rfl,D2,?_,xI,hK2.trans hKr xI⟩;have e9:=zk.out;rw[e9,uI.out]at aO;rw[HH.out];simpa [List.append_assoc]using aO
end Go.Proofs.YtjaalkocdbkdeaaGreatDoor
namespace Go.Proofs.YtjaalkocdbkdeaaGreatDoor
open Lx Go.Proofs.Tryz
open Go.RowKit
open Tr
theorem jm.ajs{Z F:Nat->Prop}{w:World}{mb:Nat}{T N:List ByteArray}(h:jm Z w mb T N)(hF:∀g,F g->g<w.heap.size/\g≠mb)(tn:T.length+N.length<=100000){b:Nat}(hb:b<=200000):fP (fun g=>g<w.heap.size/\g≠mb) F w mb T N b [] []:=by
 obtain⟨h0,vT,vN,h1,h2,h3,h4,h5,h6,h7,h8,h9⟩:=h;refine⟨⟨vT,vN,_,_,_,h1,h2,h3,⟨[],rfl,World.ownsRow_nil _ _ _ _,fun q hq=>(by cases hq)⟩,World.ownsRow_nil _ _ _ _,⟨[],rfl,World.ownsRow_nil _ _ _ _,fun q hq=>(by cases hq)⟩,fun g hg=>⟨(h2.lt g hg).2,fun e=>h7 (e▸hg)⟩,fun g hg=>⟨(h3.lt g hg).2,fun e=>h8 (e▸hg)⟩,fun g hg=>(by cases hg),fun g hg=>(by cases hg),fun g hg=>(by cases hg)⟩,fun h=>h.2 rfl,hF,fun g hg=>hg.1,tn,by simpa using hb,List.Pairwise.nil⟩
structure KV(w:World)(mb i:Nat)(v:Value)(s:Nat)(r:List Nat)(cs:Array Value)(v3:Value)(w4:World):Prop where
 blk:aj w4 mb (cs.setIfInBounds i v3) 145
 row:IR 0 w4 v3 (r++[s])
 keep:∀g,g<w.heap.size->g≠mb->v.ownBlock≠some g->w4.heap[g]?=w.heap[g]?
 ne:v3.ownBlock≠some mb
 at_:∀g,v3.ownBlock=some g->v.ownBlock=some g\/w.heap.size<=g
 os:w4.os=w.os
 tape:w4.tape=w.tape
 output:w4.output=w.output
 size:w.heap.size<=w4.heap.size
theorem pushed{w w1 w3:World}{mb i:Nat}{cs:Array Value}{v:Value}{r:List Nat}{s:Nat}{v3:Value}(h1:aj w mb cs 145)(h8:v.ownBlock≠some mb)(hb:Below w.heap.size w w1)(ho:w3.ownsRow 0 3 1 v3 (r.length+1) (gK r++[.int .i64 (s:Int)]))(hg:w1.grownBy w3 v.ownBlock)(hat:v3.ownBlock=v.ownBlock\/∃g,v3.ownBlock=some g/\w.heap.size<=g):KV w mb i v s r cs v3 (w3.setCell ⟨mb,i,none⟩ v3):=by
 have jQ:=h1.lt;have hs1:=hb.size;have hs3:=hg.size;have hne:v3.ownBlock≠some mb:=by
  rcases hat with h|⟨g,h,hg2⟩
  ·rw[h];exact h8
  ·rw[h];intro e;cases e;omega
 have k3:aj w3 mb cs 145:=by
  unfold aj at h1|-;rw[hg.block mb (by omega) (fun e=>h8 e.symm),hb.block mb jQ];exact h1
 refine⟨k3.set i v3,?_,?_,hne,?_,hg.os.trans hb.os,hg.tape.trans hb.tape,hg.output.trans hb.output,by simp[World.setCell];omega⟩
 ·unfold IR
  rw[List.length_append,zM];exact aC ho fun g hx=>zS0 (fun e=>hne (by have e':g=mb:=e;rw[<-e'];exact hx))
 ·intro g hg1 hm hn
  rw[zS0 hm,hg.block g (by omega) (fun e=>hn e.symm),hb.block g hg1]
 ·intro g hx
  rcases hat with h|⟨g',h,hg2⟩
  ·exact .inl (h▸hx)
  ·rw[h]at hx;cases hx;exact .inr hg2
structure Ba(D F:Nat->Prop)(w:World)(mb:Nat)(T N:List ByteArray)(H:List Lx.It)(Ls:List Nat)(P:List Lx.Pd):Prop where
 ex:∃vT vN vP vH vL,aj w mb #[vT,vN,vP,.slice none 0 0,.slice none 0 0,vH,vL] 145/\w.ownsRow 0 9 1 vT T.length (T.map Value.string)/\w.ownsRow 0 9 1 vN N.length (N.map Value.string)/\HR 0 F w vH H/\IR 0 w vL Ls/\PR (fun g=>D g/\mb<g) w vP P/\(∀g,vT.ownBlock=some g->D g)/\(∀g,vN.ownBlock=some g->D g)/\(∀g,vH.ownBlock=some g->D g)/\(∀g,vP.ownBlock=some g->¬D g/\g≠mb)/\(∀g,vL.ownBlock=some g->¬D g/\g≠mb/\vP.ownBlock≠some g)
 nm:¬D mb
 fd:∀g,F g->D g
 lt:∀g,D g->g<w.heap.size
 tn:T.length+N.length<=100000
 Im:(H.map Lx.It.place).Pairwise (·< ·)
theorem fP.reset{D F:Nat->Prop}{w:World}{mb:Nat}{T N:List ByteArray}{b:Nat}{H H':List Lx.It}{P:List Lx.Pd}(h:fP D F w mb T N b H P){B:Nat}{v:Value}(hH:HR B F w v H')(hv:∀g,v.ownBlock=some g->D g)(hr:(H'.map Lx.It.place).Pairwise (·< ·)):Ba D F ((w.setCell ⟨mb,5,none⟩ v).setCell ⟨mb,6,none⟩ (.slice none 0 0)) mb T N H' [] P/\Kp D w ((w.setCell ⟨mb,5,none⟩ v).setCell ⟨mb,6,none⟩ (.slice none 0 0)):=by
 obtain⟨⟨vT,vN,vP,vH,vL,h1,h2,h3,h4,h5,h6,k1,k2,k3,k4,k5⟩,e1,e2,e3,e4,e5,e6⟩:=h;have bk:∀g,g≠mb->((w.setCell ⟨mb,5,none⟩ v).setCell ⟨mb,6,none⟩ (.slice none 0 0)).heap[g]?=w.heap[g]?:=fun g hg=>by
  rw[zS0 hg,zS0 hg]
 have bD:∀g,D g->((w.setCell ⟨mb,5,none⟩ v).setCell ⟨mb,6,none⟩ (.slice none 0 0)).heap[g]?=w.heap[g]?:=fun g hg=>bk g fun e=>e1 (e▸hg)
 have hse:((w.setCell ⟨mb,5,none⟩ v).setCell ⟨mb,6,none⟩ (.slice none 0 0)).heap.size=w.heap.size:=by simp[World.setCell]
 obtain⟨ps,p1,p2,p3⟩:=hH;refine⟨⟨⟨vT,vN,vP,v,_,(h1.set 5 v).set 6 _,aC h2 fun g hg=>bD g (k1 g hg),aC h3 fun g hg=>bD g (k2 g hg),⟨ps,p1,dm (aC p2 fun g hg=>bD g (hv g hg)) (Nat.zero_le _),fun q hq=>ay.move (fun g hg=>bD g (e2 g hg)) (fun _ h=>h) (p3 q hq)⟩,World.ownsRow_nil _ _ _ _,h6.move (fun _ h=>h) (fun g hg=>bD g hg.1) (fun g hg=>bk g (k5 g hg).2),k1,k2,hv,k5,fun g hg=>(by cases hg)⟩,e1,e2,fun g hg=>by rw[hse];exact e3 g hg,e4,hr⟩,⟨rfl,rfl,rfl,by rw[hse];exact zL0,bD⟩⟩
theorem Ba.push {D F:Nat->Prop} {w w4:World} {mb:Nat} {T N:List ByteArray} {H:List Lx.It} {Ls:List Nat} {P:List Lx.Pd} {s:Nat} {vT vN vP vH vL v3:Value} (h:Ba D F w mb T N H Ls P)
  (h1:aj w mb #[vT,vN,vP,.slice none 0 0,.slice none 0 0,vH,vL] 145) (hp:KV w mb 6 vL s Ls #[vT,vN,vP,.slice none 0 0,.slice none 0 0,vH,vL] v3 w4):Ba D F w4 mb T N H (Ls++[s]) P/\Kp D w w4:=by
 obtain⟨⟨uT,uN,uP,uH,uL,j1,h2,h3,h4,h5,h6,k1,k2,k3,k4,k5⟩,e1,e2,e3,e4,e6⟩:=h;unfold aj at h1 j1;rw[h1]at j1;obtain⟨⟩:=j1;have bD:∀g,D g->w4.heap[g]?=w.heap[g]?:=fun g hg=>hp.keep g (e3 g hg) (fun e=>e1 (e▸hg)) (fun e=>(k5 g e).1 hg)
 refine⟨⟨⟨_,_,_,_,v3,hp.blk,aC h2 fun g hg=>bD g (k1 g hg),aC h3 fun g hg=>bD g (k2 g hg),h4.move (fun g hg=>bD g (e2 g hg)) (fun g hg=>bD g (k3 g hg)),hp.row,h6.move (fun _ h=>h) (fun g hg=>bD g hg.1) (fun g hg=>hp.keep g (h6.blk g hg) (k4 g hg).2 (fun e=>(k5 g e).2.2 hg)),k1,k2,k3,k4,fun g hg=>?_⟩,e1,e2,fun g hg=>Nat.lt_of_lt_of_le (e3 g hg) hp.size,e4,e6⟩,⟨hp.os,hp.tape,hp.output,hp.size,bD⟩⟩;refine⟨fun hd=>?_,fun e=>hp.ne (e▸hg),fun e=>?_⟩
 ·rcases hp.at_ g hg with h' | h'
  ·exact(k5 g h').1 hd
  ·have:=e3 g hd;omega
 ·rcases hp.at_ g hg with h' | h'
  ·exact(k5 g h').2.2 e
  ·have:=h6.blk g e;omega
theorem Ba.done{D F:Nat->Prop}{w:World}{mb:Nat}{T N:List ByteArray}{b:Nat}{H:List Lx.It}{P:List Lx.Pd}(h:Ba D F w mb T N H (oG b H.length) P)(hb:b+H.length<=200000):∃D',fP D' F w mb T N b H P/\∀g,D g->D' g:=by
 obtain⟨⟨vT,vN,vP,vH,vL,h1,h2,h3,h4,h5,h6,k1,k2,k3,k4,k5⟩,e1,e2,e3,e4,e6⟩:=h;refine⟨fun g=>D g\/vL.ownBlock=some g,⟨⟨vT,vN,vP,vH,vL,h1,h2,h3,h4,h5,h6.move (fun g hg=>⟨.inl hg.1,hg.2⟩) (fun _ _=>rfl) (fun _ _=>rfl),fun g hg=>.inl (k1 g hg),fun g hg=>.inl (k2 g hg),fun g hg=>.inl (k3 g hg),fun g hg=>.inr hg,fun g hg=>⟨?_,(k4 g hg).2⟩⟩,?_,fun g hg=>.inl (e2 g hg),?_,e4,hb,e6⟩,fun g hg=>.inl hg⟩
 ·rintro(h' | h')
  ·exact(k4 g hg).1 h'
  ·exact(k5 g h').2.2 hg
 ·rintro(h' | h')
  ·exact e1 h'
  ·exact(k5 mb h').2.1 rfl
 ·rintro g(h' | h')
  ·exact e3 g h'
  ·exact(h5.lt g h').2
structure zo(D:Nat->Prop)(w:World)(mb:Nat)(T N:List ByteArray)(P:List Lx.Pd)(Bs Ks:List Nat):Prop where
 ex:∃vT vN vP vB vK vH vL,aj w mb #[vT,vN,vP,vB,vK,vH,vL] 145/\w.ownsRow 0 9 1 vT T.length (T.map Value.string)/\w.ownsRow 0 9 1 vN N.length (N.map Value.string)/\PR (fun g=>D g/\mb<g) w vP P/\IR 0 w vB Bs/\IR 0 w vK Ks/\(∀g,vT.ownBlock=some g->D g)/\(∀g,vN.ownBlock=some g->D g)/\(∀g,vP.ownBlock=some g->D g)/\(∀g,vB.ownBlock=some g->¬D g/\mb<g/\vK.ownBlock≠some g)/\(∀g,vK.ownBlock=some g->¬D g/\mb<g)
 nm:¬D mb
 lt:∀g,D g->g<w.heap.size
theorem fP.ajt{D F:Nat->Prop}{w:World}{mb:Nat}{T N:List ByteArray}{b:Nat}{H:List Lx.It}{P:List Lx.Pd}(h:fP D F w mb T N b H P):∃D',zo D' w mb T N P [] []/\∀g,D g->D' g:=by
 obtain⟨⟨vT,vN,vP,vH,vL,h1,h2,h3,h4,h5,h6,k1,k2,k3,k4,k5⟩,e1,e2,e3,e4,e5,e6⟩:=h;refine⟨fun g=>D g\/vP.ownBlock=some g,⟨⟨vT,vN,vP,_,_,vH,vL,h1,h2,h3,h6.move (fun g hg=>⟨.inl hg.1,hg.2⟩) (fun _ _=>rfl) (fun _ _=>rfl),World.ownsRow_nil _ _ _ _,World.ownsRow_nil _ _ _ _,fun g hg=>.inl (k1 g hg),fun g hg=>.inl (k2 g hg),fun g hg=>.inr hg,fun g hg=>(by cases hg),fun g hg=>(by cases hg)⟩,?_,?_⟩,fun g hg=>.inl hg⟩
 ·rintro(h' | h')
  ·exact e1 h'
  ·exact(k5 mb h').2 rfl
 ·rintro g(h' | h')
  ·exact e3 g h'
  ·exact h6.blk g h'
theorem zo.pushB {D:Nat->Prop} {w w4:World} {mb:Nat} {T N:List ByteArray} {P:List Lx.Pd} {Bs Ks:List Nat} {s:Nat} {vT vN vP vB vK vH vL v3:Value} (h:zo D w mb T N P Bs Ks)
  (h1:aj w mb #[vT,vN,vP,vB,vK,vH,vL] 145) (hp:KV w mb 3 vB s Bs #[vT,vN,vP,vB,vK,vH,vL] v3 w4):zo D w4 mb T N P (Bs++[s]) Ks/\Kp D w w4:=by
 obtain⟨⟨uT,uN,uP,uB,uK,uH,uL,j1,h2,h3,h4,h5,h6,k1,k2,k3,k4,k5⟩,e1,e3⟩:=h;have jQ:=h1.lt;unfold aj at h1 j1;rw[h1]at j1;obtain⟨⟩:=j1;have bD:∀g,D g->w4.heap[g]?=w.heap[g]?:=fun g hg=>hp.keep g (e3 g hg) (fun e=>e1 (e▸hg)) (fun e=>(k4 g e).1 hg)
 refine⟨⟨⟨_,_,_,v3,_,_,_,hp.blk,aC h2 fun g hg=>bD g (k1 g hg),aC h3 fun g hg=>bD g (k2 g hg),h4.move (fun _ h=>h) (fun g hg=>bD g hg.1) (fun g hg=>bD g (k3 g hg)),hp.row,aC h6 fun g hg=>hp.keep g (h6.lt g hg).2 (Nat.ne_of_gt (k5 g hg).2) (fun e=>(k4 g e).2.2 hg),k1,k2,k3,fun g hg=>?_,k5⟩,e1,fun g hg=>Nat.lt_of_lt_of_le (e3 g hg) hp.size⟩,⟨hp.os,hp.tape,hp.output,hp.size,bD⟩⟩;refine⟨fun hd=>?_,(hp.at_ g hg).elim (fun h'=>(k4 g h').2.1) (fun h'=>Nat.lt_of_lt_of_le jQ h'),fun e=>?_⟩
 ·rcases hp.at_ g hg with h' | h'
  ·exact(k4 g h').1 hd
  ·have:=e3 g hd;omega
 ·rcases hp.at_ g hg with h' | h'
  ·exact(k4 g h').2.2 e
  ·have:=(h6.lt g e).2;omega
theorem zo.aju {D:Nat->Prop} {w w4:World} {mb:Nat} {T N:List ByteArray} {P:List Lx.Pd} {Bs Ks:List Nat} {s:Nat} {vT vN vP vB vK vH vL v3:Value} (h:zo D w mb T N P Bs Ks)
  (h1:aj w mb #[vT,vN,vP,vB,vK,vH,vL] 145) (hp:KV w mb 4 vK s Ks #[vT,vN,vP,vB,vK,vH,vL] v3 w4):zo D w4 mb T N P Bs (Ks++[s])/\Kp D w w4:=by
 obtain⟨⟨uT,uN,uP,uB,uK,uH,uL,j1,h2,h3,h4,h5,h6,k1,k2,k3,k4,k5⟩,e1,e3⟩:=h;have jQ:=h1.lt;unfold aj at h1 j1;rw[h1]at j1;obtain⟨⟩:=j1;have bD:∀g,D g->w4.heap[g]?=w.heap[g]?:=fun g hg=>hp.keep g (e3 g hg) (fun e=>e1 (e▸hg)) (fun e=>(k5 g e).1 hg)
 refine⟨⟨⟨_,_,_,_,v3,_,_,hp.blk,aC h2 fun g hg=>bD g (k1 g hg),aC h3 fun g hg=>bD g (k2 g hg),h4.move (fun _ h=>h) (fun g hg=>bD g hg.1) (fun g hg=>bD g (k3 g hg)),aC h5 fun g hg=>hp.keep g (h5.lt g hg).2 (Nat.ne_of_gt (k4 g hg).2.1) (fun e=>(k4 g hg).2.2 e),hp.row,k1,k2,k3,fun g hg=>⟨(k4 g hg).1,(k4 g hg).2.1,fun e=>?_⟩,fun g hg=>⟨fun hd=>?_,(hp.at_ g hg).elim (fun h'=>(k5 g h').2) (fun h'=>Nat.lt_of_lt_of_le jQ h')⟩⟩,e1,fun g hg=>Nat.lt_of_lt_of_le (e3 g hg) hp.size⟩,⟨hp.os,hp.tape,hp.output,hp.size,bD⟩⟩
 ·rcases hp.at_ g e with h' | h'
  ·exact(k4 g hg).2.2 h'
  ·have:=(h5.lt g hg).2;omega
 ·rcases hp.at_ g hg with h' | h'
  ·exact(k5 g h').1 hd
  ·have:=e3 g hd;omega
def ZT(w:World)(v:Value)(T N:List ByteArray)(P:List Lx.Pd)(Bs Ks:List Nat):Prop:=∃vT vN vP vB vK,v=.agg #[vT,vN,vP,vB,vK]/\w.ownsRow 0 9 1 vT T.length (T.map Value.string)/\w.ownsRow 0 9 1 vN N.length (N.map Value.string)/\PR (fun _=>True) w vP P/\IR 0 w vB Bs/\IR 0 w vK Ks
def K6(B:Nat)(w:World)(v:Value)(T N:List ByteArray)(P:List Lx.Pd)(Bs Ks:List Nat):Prop:=∃vT vN vP vB vK,v=.agg #[vT,vN,vP,vB,vK]/\w.ownsRow 0 9 1 vT T.length (T.map Value.string)/\w.ownsRow 0 9 1 vN N.length (N.map Value.string)/\PR (fun g=>B<=g) w vP P/\IR 0 w vB Bs/\IR 0 w vK Ks/\(∀g,vB.ownBlock=some g->B<=g)/\(∀g,vK.ownBlock=some g->B<=g)
theorem K6.pl{B:Nat}{w:World}{v:Value}{T N:List ByteArray}{P:List Lx.Pd}{Bs Ks:List Nat}(h:K6 B w v T N P Bs Ks):ZT w v T N P Bs Ks:=by
 obtain⟨vT,vN,vP,vB,vK,h0,h1,h2,⟨ps,p1,p2,p3⟩,h4,h5,-⟩:=h;exact⟨vT,vN,vP,vB,vK,h0,h1,h2,⟨ps,p1,p2,fun q hq=>⟨(p3 q hq).1,fun _ _=>trivial⟩⟩,h4,h5⟩
end Go.Proofs.YtjaalkocdbkdeaaGreatDoor
namespace Go.Proofs.YtjaalkocdbkdeaaGreatDoor
open Lx Go.Proofs.Tryz
open Go.RowKit
open Tr
structure Puts(bt et sz:Nat)(w:World)(mb i:Nat)(v:Value)(n:Nat)(xs:List Value)(cs:Array Value)(v3:Value)(w4:World):Prop where
 blk:aj w4 mb (cs.setIfInBounds i v3) bt
 row:w4.ownsRow 0 et sz v3 n xs
 keep:∀g,g<w.heap.size->g≠mb->v.ownBlock≠some g->w4.heap[g]?=w.heap[g]?
 ne:v3.ownBlock≠some mb
 at_:∀g,v3.ownBlock=some g->v.ownBlock=some g\/w.heap.size<=g
 os:w4.os=w.os
 tape:w4.tape=w.tape
 output:w4.output=w.output
 size:w.heap.size<=w4.heap.size
theorem puts{bt et sz:Nat}{w w1 w3:World}{mb i:Nat}{cs:Array Value}{v:Value}{n:Nat}{xs:List Value}{v3:Value}(h1:aj w mb cs bt)(h8:v.ownBlock≠some mb)(hb:Below w.heap.size w w1)(ho:w3.ownsRow 0 et sz v3 n xs)(hg:w1.grownBy w3 v.ownBlock)(hat:v3.ownBlock=v.ownBlock\/∃g,v3.ownBlock=some g/\w.heap.size<=g):Puts bt et sz w mb i v n xs cs v3 (w3.setCell ⟨mb,i,none⟩ v3):=by
 have jQ:=h1.lt;have hs1:=hb.size;have hs3:=hg.size;have hne:v3.ownBlock≠some mb:=by
  rcases hat with h|⟨g,h,hg2⟩
  ·rw[h];exact h8
  ·rw[h];intro e;cases e;omega
 have k3:aj w3 mb cs bt:=by
  unfold aj at h1|-;rw[hg.block mb (by omega) (fun e=>h8 e.symm),hb.block mb jQ];exact h1
 refine⟨k3.set i v3,?_,?_,hne,?_,hg.os.trans hb.os,hg.tape.trans hb.tape,hg.output.trans hb.output,by simp[World.setCell];omega⟩
 ·exact aC ho fun g hx=>zS0 (fun e=>hne (by have e':g=mb:=e;rw[<-e'];exact hx))
 ·intro g hg1 hm hn
  rw[zS0 hm,hg.block g (by omega) (fun e=>hn e.symm),hb.block g hg1]
 ·intro g hx
  rcases hat with h|⟨g',h,hg2⟩
  ·exact .inl (h▸hx)
  ·rw[h]at hx;cases hx;exact .inr hg2
theorem Puts.drew{bt et sz:Nat}{w w4:World}{mb i:Nat}{cs:Array Value}{v:Value}{n:Nat}{xs:List Value}{v3:Value}(h:Puts bt et sz w mb i v n xs cs v3 w4):Puts bt et sz w mb i v n xs cs v3 w4.drew:=⟨h.blk.drew,aC h.row fun _ _=>rfl,h.keep,h.ne,h.at_,h.os,h.tape,h.output,h.size⟩
def Zn(w:World)(mb nT:Nat)(V:List ByteArray)(nm:ByteArray)(vN:Value)(cs:Array Value)(e:Ending)(w':World):Prop:=e=.returned (.int .i64 ((nT+V.length:Nat):Int))/\∃v3,Puts 127 9 1 w mb 1 vN (V.length+1) ((V++[nm]).map Value.string) cs v3 w'
theorem aeL{w:World}{mb nT:Nat}{V:List ByteArray}{ta:Option Addr}{tc:Nat}{vN vP vB vK vS vH:Value}(kM:aj w mb #[.slice ta nT tc,vN,vP,vB,vK,vS,vH] 127)(oN:w.ownsRow 0 9 1 vN V.length (V.map Value.string))(hne:vN.ownBlock≠some mb)(hT:nT<=100000)(hV:V.length<=100000)(nm:ByteArray):
  Calls prog 88 #[.pointer (some ⟨mb,0,none⟩),.string nm] w (Zn w mb nT V nm vN #[.slice ta nT tc,vN,vP,vB,vK,vS,vH]):=by
 obtain⟨i9,hi9,hz90,hz91,hz92⟩:=info_parts Tryz.BU;obtain⟨na,nc,rfl,-⟩:=aF oN;have lm:=kM.lt;have m1:w.cell? ⟨mb,1,none⟩=some (.slice na V.length nc):=kM.cell 1;have hb1:Below w.heap.size w (w.alloc (.cells #[.string nm] 9)):=(Below.refl _ _).alloc (zL0) _;unfold Zn;go_enter func88,ntmps88
 go_wp2_with (at_builtin;go_loud (refine wpList_append_own_at _ rfl _ _ 41 rfl 0 9 i9 _ 1 16 underlying41 hi9 hz90 hz91 hz92 rfl (by decide) (.slice na V.length nc) _ _ rfl (oN.alloc _) ⟨_,0,none⟩ 1 1 [.string nm] rfl rfl (bC (aj.new _ _ 9)) (by simp[Value.oneCell']) (by unfold maxLen;omega) (by omega) (by simp) ?_;intro v5 w5 hown5 aU _ j6;obtain⟨dU,dV,hv5,-⟩:=aF hown5;subst hv5;have lT:=(kM.alloc (.cells #[.string nm] 9)).grown aU (fun e=>hne e.symm);have IV:w5.cell? ⟨mb,1,none⟩=some (.slice na V.length nc):=lT.cell 1;have f56:∀i,w5.frozen? ⟨mb,i,none⟩=false:=lT.frozen))
 have uj:(Value.slice dU (V.length+1) dV).ownBlock=(Value.slice na V.length nc).ownBlock\/∃g,(Value.slice dU (V.length+1) dV).ownBlock=some g/\w.heap.size<=g:=by
  rcases j6 with h'|h'
  ·exact .inl h'
  ·exact .inr ⟨_,h',by simp⟩
 have hown6:w5.ownsRow 0 9 1 (.slice dU (V.length+1) dV) (V.length+1) ((V++[nm]).map Value.string):=by rw[List.map_append];exact hown5
 have hP:=puts (i:=1) kM hne hb1 hown6 aU uj;clear j6 uj hown5 hown6 aU lT IV f56 m1;generalize w5.setCell ⟨mb,1,none⟩ (.slice dU (V.length+1) dV)=w6 at hP;have k6:=hP.blk;have d0:w6.drew.cell? ⟨mb,0,none⟩=some (.slice ta nT tc):=k6.drew.cell 0;have d1:w6.drew.cell? ⟨mb,1,none⟩=some (.slice dU (V.length+1) dV):=k6.drew.cell 1;have hPd:=hP.drew;have d2:w6.cell? ⟨mb,0,none⟩=some (.slice ta nT tc):=k6.cell 0;have d3:w6.cell? ⟨mb,1,none⟩=some (.slice dU (V.length+1) dV):=k6.cell 1;clear kM oN hb1 k6 hP
 go_region
 all_goals
  go_wp2_with fail;go_ret;exact⟨by go_num,_,hPd⟩
end Go.Proofs.YtjaalkocdbkdeaaGreatDoor
namespace Go.Proofs
open Go.Shelf
def Tryz.aec:Go.Shelf.Ren:=⟨fun | 171=>91 | 243=>124 | 246=>152 | 283=>157 | 284=>158 | 285=>159 | 286=>160 | 129=>146 | 317=>170 | 318=>171 | 319=>172 | 320=>173 | 337=>177 | 338=>178 | n=>n,fun | 3=>3 | 9=>9 | 2=>2 | 4=>4 | 171=>245 | 0=>0 | 53=>224 | 37=>160 | 5=>5 | 173=>247 | 212=>259 | 51=>234 | 20=>20 | 213=>260 | 46=>207 | 232=>265 | 233=>266 | n=>n,fun | 17=>0 | 18=>1 | 19=>2 | n=>n⟩
theorem Tryz.ahw:Go.Proofs.LaysM.n171 prog Tryz.aec:={
 mixed:=by kernel_rfl
 f129:=func146.trans (congrArg some (by kernel_rfl))
 f171:=func91.trans (congrArg some (by kernel_rfl))
 f243:=func124.trans (congrArg some (by kernel_rfl))
 f246:=func152.trans (congrArg some (by kernel_rfl))
 f283:=func157.trans (congrArg some (by kernel_rfl))
 f284:=func158.trans (congrArg some (by kernel_rfl))
 f285:=func159.trans (congrArg some (by kernel_rfl))
 f286:=func160.trans (congrArg some (by kernel_rfl))
 f317:=func170.trans (congrArg some (by kernel_rfl))
 f318:=func171.trans (congrArg some (by kernel_rfl))
 f319:=func172.trans (congrArg some (by kernel_rfl))
 f320:=func173.trans (congrArg some (by kernel_rfl))
 f337:=func177.trans (congrArg some (by kernel_rfl))
 f338:=func178.trans (congrArg some (by kernel_rfl))
 t0:=underlying0
 a0:=Tryz.isAgg0
 z0:=Tryz.sizeOf0
 v0:=Tryz.zeroValue0
 t2:=underlying2
 a2:=Tryz.isAgg2
 z2:=Tryz.sizeOf2
 v2:=Tryz.zeroValue2
 t3:=underlying3
 a3:=Tryz.isAgg3
 z3:=Tryz.sizeOf3
 v3:=Tryz.zeroValue3
 t4:=underlying4
 a4:=Tryz.isAgg4
 z4:=Tryz.sizeOf4
 v4:=Tryz.zeroValue4
 t5:=underlying5
 a5:=Tryz.isAgg5
 z5:=Tryz.sizeOf5
 v5:=Tryz.zeroValue5
 t9:=underlying9
 a9:=Tryz.isAgg9
 z9:=Tryz.sizeOf9
 v9:=Tryz.zeroValue9
 t20:=underlying20
 a20:=Tryz.isAgg20
 z20:=Tryz.sizeOf20
 v20:=Tryz.zeroValue20
 t37:=underlying160
 a37:=Tryz.isAgg160
 z37:=Tryz.sizeOf160
 v37:=Tryz.zeroValue160
 t46:=underlying207
 a46:=Tryz.isAgg207
 z46:=Tryz.sizeOf207
 v46:=Tryz.zeroValue207
 t51:=underlying234
 a51:=Tryz.isAgg234
 z51:=Tryz.sizeOf234
 v51:=Tryz.zeroValue234
 t53:=underlying224
 a53:=Tryz.isAgg224
 z53:=Tryz.sizeOf224
 v53:=Tryz.zeroValue224
 t171:=underlying245
 a171:=Tryz.isAgg245
 z171:=Tryz.sizeOf245
 v171:=Tryz.zeroValue245
 t173:=underlying247
 a173:=Tryz.isAgg247
 z173:=Tryz.sizeOf247
 v173:=Tryz.zeroValue247
 t212:=underlying259
 a212:=Tryz.isAgg259
 z212:=Tryz.sizeOf259
 v212:=Tryz.zeroValue259
 t213:=underlying260
 a213:=Tryz.isAgg260
 z213:=Tryz.sizeOf260
 t232:=underlying265
 a232:=Tryz.isAgg265
 z232:=Tryz.sizeOf265
 v232:=Tryz.zeroValue265
 t233:=underlying266
 a233:=Tryz.isAgg266
 z233:=Tryz.sizeOf266
 v233:=Tryz.zeroValue266
 g17:=by kernel_rfl
 g18:=by kernel_rfl
 g19:=by kernel_rfl
 i0:=by kernel_rfl
 i2:=by kernel_rfl
 i3:=by kernel_rfl
 i4:=by kernel_rfl
 i5:=by kernel_rfl
 i9:=by kernel_rfl
 i20:=by kernel_rfl
 i37:=by kernel_rfl
 i46:=by kernel_rfl
 i51:=by kernel_rfl
 i53:=by kernel_rfl
 i171:=by kernel_rfl
 i173:=by kernel_rfl
 i212:=by kernel_rfl
 i232:=by kernel_rfl
 i233:=by kernel_rfl
 m17:=by kernel_rfl
 m18:=by kernel_rfl
 m19:=by kernel_rfl }
open Go.RowKit Go.Sort Go.Lib in
theorem Tryz.strconv_Itoa (n : Int) (h0 : -9223372036854775808 ≤ n) (h1 : n ≤ 9223372036854775807) (w : World) (htab : Lib.TabIs prog w "internal/strconv.uint64pow10" .u64 Lib.pow10Tab) :
  Calls prog 91 #[.int .i64 n] w fun e w'=>e=.returned (.string ⟨(Lib.itoa n).toArray⟩)/\∃k os,w'=grow (w.drewN k) os:=Any.strconv_Itoa Tryz.ahw n h0 h1 w htab
def Tryz.adN:Go.Shelf.Ren:=⟨fun | 15=>125 | n=>n,fun | 22=>43 | 3=>3 | 4=>4 | n=>n,fun | n=>n⟩
theorem Tryz.WB:Go.Proofs.Lays2.n15 prog Tryz.adN:={
 mixed:=by kernel_rfl
 f15:=func125.trans (congrArg some (by kernel_rfl))
 t3:=underlying3
 a3:=Tryz.isAgg3
 z3:=Tryz.sizeOf3
 v3:=Tryz.zeroValue3
 t4:=underlying4
 a4:=Tryz.isAgg4
 z4:=Tryz.sizeOf4
 v4:=Tryz.zeroValue4
 t22:=underlying43
 a22:=Tryz.isAgg43
 z22:=Tryz.sizeOf43
 v22:=Tryz.zeroValue43
 i3:=by kernel_rfl }
open Go.RowKit Go.Lib in
theorem Tryz.slices_Clone_int(b off n c:Nat)(zs:List Int)(w:World)(hz:n<=zs.length)(hbig:n*8<=140737488355328)(hc:∀j,j<zs.length->w.cell? ⟨b,off+j,none⟩=some (.int .i64 (zs.getD j 0))):
  Calls prog 125 #[.slice (some ⟨b,off,none⟩) n c] w fun e w'=>∃v',e=.returned v'/\w'.ownsRow w.heap.size 3 1 v' n ((zs.take n).map (Value.int .i64))/\v'≠.slice none 0 0/\Below w.heap.size w w':=Any.slices_Clone_int Tryz.WB b off n c zs w hz hbig hc
open Go.RowKit Go.Lib in
theorem Tryz.slices_Clone_int_nil(n c:Nat)(w:World):
  Calls prog 125 #[.slice none n c] w fun e w'=>e=.returned (.slice none 0 0)/\w'=w:=Any.slices_Clone_int_nil Tryz.WB n c w
end Go.Proofs
namespace Go.Proofs.YtjaalkocdbkdeaaGreatDoor
open Lx Go.Proofs.Tryz
open Go.RowKit
open Tr
def jd (w : World) : Prop := Lib.TabIs prog w "internal/strconv.uint64pow10" .u64 Lib.pow10Tab
def rA:Nat:=0
theorem OC : prog.globalNamed "internal/strconv.uint64pow10" = some rA := by kernel_rfl
theorem jd.move{w w':World}(h:jd w)(hb:w'.heap[rA]?=w.heap[rA]?):jd w':=by
 unfold jd Lib.TabIs World.var? at *;rw[OC]at h|-;simp only[Option.bind_some]at h|-;rw[hb];exact h
theorem jd.lt{w:World}(h:jd w):rA<w.heap.size:=by
 unfold jd Lib.TabIs World.var? at h;rw[OC]at h;simp only[Option.bind_some]at h;rcases Nat.lt_or_ge rA w.heap.size with h'|h'
 ·exact h'
 ·rw[Array.getElem?_eq_none h']at h;cases h
theorem ahx{w:World}(h:jd w)(n:Nat)(hn:n<=100000):Calls prog 91 #[.int .i64 (n:Int)] w fun e w'=>e=.returned (.string (pY n))/\Below w.heap.size w w':=by
 refine(Tryz.strconv_Itoa (n:Int) (by omega) (by omega) w h).mono ?_;rintro e w'⟨rfl,k,os,rfl⟩;refine⟨?_,Lib.below_grow _ _ (zL0) _ _⟩;have:Lib.itoa (n:Int)=Lib.decDigits n:=by unfold Lib.itoa;rw[if_neg (by omega),Int.toNat_natCast]
 rw[this];rfl
structure Nm(D:Nat->Prop)(w:World)(mb H:Nat)(ta:Option Addr)(nT tc:Nat)(vP vB vK vS:Value)(N:List ByteArray)(G:Nat->Prop)(f:Addr->Int):Prop where
 ex:∃vN,aj w mb #[.slice ta nT tc,vN,vP,vB,vK,vS,.map (some H)] 127/\w.ownsRow 0 9 1 vN N.length (N.map Value.string)/\(∀g,vN.ownBlock=some g->¬D g/\g≠mb/\g≠H)
 pm:sP G w H f
 nm:¬D mb
 nH:¬D H
 ne:mb≠H
 lt:∀g,D g->g<w.heap.size
section
variable {D G:Nat -> Prop} {w w':World} {mb H:Nat} {ta:Option Addr} {nT tc:Nat} {vP vB vK vS:Value} {N:List ByteArray} {f:Addr -> Int}
theorem Nm.lm(h:Nm D w mb H ta nT tc vP vB vK vS N G f):mb<w.heap.size:=by
 obtain⟨vN,h1,-⟩:=h.ex;exact h1.lt
theorem Nm.other(h:Nm D w mb H ta nT tc vP vB vK vS N G f)(hk:∀g,g<w.heap.size->¬D g->w'.heap[g]?=w.heap[g]?)(hs:w.heap.size<=w'.heap.size):Nm D w' mb H ta nT tc vP vB vK vS N G f:=by
 obtain⟨⟨vN,h1,h2,h3⟩,e1,e2,e3,e4,e5⟩:=h;exact⟨⟨vN,(hk _ h1.lt e2).trans h1,aC h2 fun g hg=>hk g (h2.lt g hg).2 (h3 g hg).1,h3⟩,e1.move (hk _ (iJ.lt e1) e3),e2,e3,e4,fun g hg=>Nat.lt_of_lt_of_le (e5 g hg) hs⟩
theorem Nm.below(h:Nm D w mb H ta nT tc vP vB vK vS N G f)(hb:Below w.heap.size w w'):Nm D w' mb H ta nT tc vP vB vK vS N G f/\Kp D w w':=⟨h.other (fun g hg _=>hb.block g hg) hb.size,Kp.below hb h.lt⟩
theorem Nm.named{nm:ByteArray}{vN v3:Value}(h:Nm D w mb H ta nT tc vP vB vK vS N G f)(hb:aj w mb #[.slice ta nT tc,vN,vP,vB,vK,vS,.map (some H)] 127)(p:Puts 127 9 1 w mb 1 vN (N.length+1) ((N++[nm]).map Value.string) #[.slice ta nT tc,vN,vP,vB,vK,vS,.map (some H)] v3 w'):Nm D w' mb H ta nT tc vP vB vK vS (N++[nm]) G f/\Kp D w w':=by
 obtain⟨⟨uN,h1,h2,h3⟩,e1,e2,e3,e4,e5⟩:=h;unfold aj at hb h1;rw[hb]at h1;obtain⟨⟩:=h1;have lH:H<w.heap.size:=iJ.lt e1;have hn:vN.ownBlock≠some H:=fun e=>(h3 H e).2.2 rfl
 refine⟨⟨⟨v3,p.blk,by rw[List.length_append];exact p.row,fun g hg=>?_⟩,e1.move (p.keep H lH (fun e=>e4 e.symm) hn),e2,e3,e4,fun g hg=>Nat.lt_of_lt_of_le (e5 g hg) p.size⟩,⟨p.os,p.tape,p.output,p.size,fun g hg=>p.keep g (e5 g hg) (fun e=>e2 (e▸hg)) (fun e=>(h3 g e).1 hg)⟩⟩;rcases p.at_ g hg with h'|h'
 ·exact h3 g h'
 ·exact⟨fun hd=>by have:=e5 g hd;omega,fun e=>p.ne (e▸hg),fun e=>by omega⟩
theorem Nm.ajT{f':Addr->Int}(h:Nm D w mb H ta nT tc vP vB vK vS N G f)(hm:sP G w' H f')(hg:w.grownBy w' (some H)):Nm D w' mb H ta nT tc vP vB vK vS N G f'/\Kp D w w':=by
 obtain⟨⟨vN,h1,h2,h3⟩,e1,e2,e3,e4,e5⟩:=h;have hb:∀g,g<w.heap.size->g≠H->w'.heap[g]?=w.heap[g]?:=fun g hl hn=>hg.block g hl fun e=>hn (Option.some.inj e)
 exact⟨⟨⟨vN,(hb _ h1.lt e4).trans h1,aC h2 fun g hg=>hb g (h2.lt g hg).2 (h3 g hg).2.2,h3⟩,hm,e2,e3,e4,fun g hd=>Nat.lt_of_lt_of_le (e5 g hd) hg.size⟩,⟨hg.os,hg.tape,hg.output,hg.size,fun g hd=>hb g (e5 g hd) fun e=>e3 (e▸hd)⟩⟩
end
def hNames(nm:ByteArray)(n:Nat):List ByteArray:=(List.range n).map fun k=>Lx.hName nm (k+1)
theorem aeM(nm:ByteArray)(n:Nat):hNames nm (n+1)=hNames nm n++[Lx.hName nm (n+1)]:=by unfold hNames;rw[List.range_succ,List.map_append];rfl
theorem Oe(nm:ByteArray)(n:Nat):(hNames nm n).length=n:=by simp[hNames]
def Ae(b:Nat)(L:List AI)(f f':Addr->Int):Prop:=(∀a,(∀p∈L,p.1≠a)->f' a=f a)/\∀k p,L[k]?=some p->f' p.1=((b+k:Nat):Int)
theorem Ae.push{b:Nat}{L:List AI}{f f':Addr->Int}(h:Ae b L f f'){p:AI}(hn:((L++[p]).map Prod.fst).Nodup):Ae b (L++[p]) f (fun c=>if c=p.1 then ((b+L.length:Nat):Int) else f' c):=by
 rw[List.map_append,List.nodup_append]at hn;have hne:∀q∈L,q.1≠p.1:=fun q hq=>hn.2.2 _ (List.mem_map.2 ⟨q,hq,rfl⟩) _ (by simp)
 refine⟨fun a ha=>?_,fun k q hq=>?_⟩
 ·have h1:a≠p.1:=fun e=>ha p (by simp) e.symm
  simp only[if_neg h1];exact h.1 a fun q hq=>ha q (by simp[hq])
 ·rw[List.getElem?_append]at hq
  split at hq
  ·rename_i hk
   simp only[if_neg (hne q (List.mem_of_getElem? hq))];exact h.2 k q hq
  ·rename_i hk
   obtain⟨hk2,rfl⟩:=List.getElem?_eq_some_iff.1 hq;simp only[List.length_singleton]at hk2;have:k=L.length:=by omega
   subst this;simp
end Go.Proofs.YtjaalkocdbkdeaaGreatDoor

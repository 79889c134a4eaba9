import Derived.Test.YtagkodkijkpemaaGreatDoorRA10
import Derived.Laws.AppendOwnNone
import Derived.Laws.BytesString
import Derived.Laws.BitsLemmas
import Derived.Shelf.Strconv.Itoa0
import Derived.Shelf.Strconv.Itoa1
import Derived.Shelf.Strconv.Itoa2
import Derived.Shelf.Strconv.Itoa3
import Derived.Shelf.Slices.Clone
import Derived.Test.YtagkodkijkpemaaGreatDoorProg
import Derived.Lib.AppendIntMem
set_option maxHeartbeats 8000000
set_option maxRecDepth 1000000
namespace Go.Proofs.YtagkodkijkpemaaGreatDoor
open Lx Go.Proofs.Tryz
open Go.RowKit
open Tr
def Nh(d:Nat):Prop:=∀(nw nv:Nat)(fst caps:Array Value)(wd:Lx.It->Bool)(F:Nat->Prop)(w0:World)(I:List AI->World->Prop)(Q:AI->Prop)(Ec:List AI),
 (∀(ar:Array Value)(w:World),(callFunc nw ar).run prog w=.ok (.enter nw ar) w)->(∀(ar:Array Value)(w:World),(callFunc nv ar).run prog w=.ok (.enter nv ar) w) ->
 (∀(w':World)(n m:Nat)(it:Lx.It),F n->pE w' n m it->Calls prog nw #[.pointer (some ⟨n,m*4,none⟩)] w' fun e w''=>e=.returned (.bool (wd it))/\w''=w') ->
 (∀(w':World)(L:List AI)(n m:Nat)(it:Lx.It),I L w'->F n->pE w' n m it->wd it=true->Q (⟨n,m*4,none⟩,it)->(∃R,Ec=L++((⟨n,m*4,none⟩,it)::R))->Calls prog nv (fst++#[.pointer (some ⟨n,m*4,none⟩)]++caps) w' fun e w''=>e=.returned (.tuple #[])/\I (L++[(⟨n,m*4,none⟩,it)]) w'') ->
 (∀(L:List AI)(w':World),I L w'->∀b,F b->w'.heap[b]?=w0.heap[b]?) ->
 ∀(v:Value)(l:List Lx.Alt),aM YP d F w0 v l->(∀p∈aK d w0 v l,Q p)->∀(w:World)(L:List AI),I L w->(∃R,Ec=(L++(aK d w0 v l).filter fun p=>wd p.2)++R) ->
 Calls prog 118 #[v,.func (.func nw) #[] #[],.func (.func nv) fst caps] w fun e w'=>e=.returned (.tuple #[])/\I (L++(aK d w0 v l).filter fun p=>wd p.2) w'
theorem agN:Nh 0:=by
 intro nw nv fst caps wd F w0 I Q Ec hcw hcv hw hv hf v l hl hq w L hI FZ;obtain⟨rfl,rfl⟩:=hl;go_enter func118,ntmps118;go_wp2_with fail
 go_loopg [11] 0 (fun k i wr=>k=0/\i=.int .i64 0/\wr=w)
 case atStart=>exact⟨rfl,rfl,rfl⟩
 case round=>
  obtain⟨rfl,rfl,rfl⟩:=hrel;go_wp2_with fail
  go_end0
  refine⟨rfl,?_⟩;rw[show aK 0 w0 (.slice none 0 0) []=[] from rfl,List.filter_nil,List.append_nil];exact hI
theorem agO{d:Nat}(IH:Nh d):Nh (d+1):=by
 intro nw nv fst caps wd F w0 I Q Ec hcw hcv hw hv hf v l hl hq w L hI FZ;obtain⟨va,vc,hvv,hm⟩:=aM.len hl;subst hvv;unfold maxLen at hm;obtain⟨T,hT⟩:∃T,T=L++(aK (d+1) w0 (.slice va l.length vc) l).filter (fun p=>wd p.2):=⟨_,rfl⟩;rw[<-hT]at FZ|-;obtain⟨R0,FZ⟩:=FZ;have TM:Hid (Ec=T++R0):=FZ;clear FZ;go_enter func118,ntmps118;go_wp2_with fail;have e0:aK (d+1) w0 (.slice va l.length vc) l=dP (aK d w0) w0 (aQ (.slice va l.length vc)) 0 (l.drop 0):=rfl;have H0:Hid (T=L++(dP (aK d w0) w0 (aQ (.slice va l.length vc)) 0 (l.drop 0)).filter (fun p=>wd p.2)):=by show _=_;rw[hT,e0]
 rw[e0]at hq;clear e0;clear hT
 go_loopg [11] l.length (fun k i wr=>∃(j:Nat)(L':List AI),j+k=l.length/\i=.int .i64 j/\I L' wr/\(∀p∈dP (aK d w0) w0 (aQ (.slice va l.length vc)) j (l.drop j),Q p)/\Hid (T=L'++(dP (aK d w0) w0 (aQ (.slice va l.length vc)) j (l.drop j)).filter (fun p=>wd p.2)))
 case atStart=>exact⟨0,L,by omega,rfl,hI,hq,H0⟩
 case round=>
  clear H0 hq hI;revert wr;intro wz hrel;obtain⟨j,L1,hk,rfl,hz,hqz,HZ⟩:=hrel
  by_cases hlt:j<l.length
  ·obtain⟨gb,cap,vi,hvv,hg,hi,hc⟩:=Seq.at hl (fun _=>rfl) hlt
   cases hvv;have hz2:=HZ.out;have ec:cv w0 ⟨gb,j*2,none⟩=vi:=by unfold cv;rw[show w0.cell? ⟨gb,j*2,none⟩=some vi from hc 0 (by decide)];rfl
   rw[Ya hlt,show aQ (.slice (some ⟨gb,0,none⟩) l.length vc)=gb from rfl,ec]at hz2 hqz;generalize l[j]=x at hi hc hz2 hqz;obtain⟨its,prec,pa⟩:=x;have hi':jG YP d F w0 vi its:=hi;obtain⟨ia,ic,qY,him⟩:=Seq.len hi;subst qY;unfold maxLen at him;have c0:wz.cell? ⟨gb,j*2,none⟩=some (.slice ia its.length ic):=(World.cell?_of_block (w:=w0) (hf _ _ hz gb hg)).trans (hc 0 (by decide));have HZ2:Hid (T=L1++(eF (aK d w0) w0 (aQ (.slice ia its.length ic)) 0 (its.drop 0)++dP (aK d w0) w0 gb (j+1) (l.drop (j+1))).filter (fun p=>wd p.2)):=hz2;have JI:∀p∈eF (aK d w0) w0 (aQ (.slice ia its.length ic)) 0 (its.drop 0)++dP (aK d w0) w0 gb (j+1) (l.drop (j+1)),Q p:=hqz;clear hc hz2 HZ hqz ec hi;go_wp2_with fail
   go_loopg [21] its.length (fun k i wr=>∃(m:Nat)(L':List AI),m+k=its.length/\i=.int .i64 m/\I L' wr/\(∀p∈eF (aK d w0) w0 (aQ (.slice ia its.length ic)) m (its.drop m)++dP (aK d w0) w0 gb (j+1) (l.drop (j+1)),Q p)/\Hid (T=L'++(eF (aK d w0) w0 (aQ (.slice ia its.length ic)) m (its.drop m)++dP (aK d w0) w0 gb (j+1) (l.drop (j+1))).filter (fun p=>wd p.2)))
   case atStart=>exact⟨0,L1,by omega,rfl,hz,JI,HZ2⟩
   case round=>
    clear HZ2 JI hz c0;obtain⟨m,L2,hkm,rfl,hr,hqr,HR⟩:=hrel
    by_cases zZ:m<its.length
    ·have hir:=hi'
     unfold jG wO at hir;obtain⟨n,DR,va,hvv,hn,ha,hcc⟩:=Seq.at hir (fun _=>rfl) zZ;cases hvv;have hr2:=HR.out;have ec:cv w0 ⟨n,m*4+3,none⟩=va:=by unfold cv;rw[show w0.cell? ⟨n,m*4+3,none⟩=some va from hcc 3 (by decide)];rfl
     rw[XF zZ,show aQ (.slice (some ⟨n,0,none⟩) its.length ic)=n from rfl,ec]at hr2 hqr;generalize its[m]=it at ha hcc hr2 hqr;obtain⟨sa,sc,hva,-⟩:=aM.len ha;subst hva;have en:wr.heap[n]?=w0.heap[n]?:=hf _ _ hr n hn;have hia:pE wr n m it:=⟨(World.cell?_of_block (w:=w0) en).trans (hcc 0 (by decide)),(World.cell?_of_block (w:=w0) en).trans (hcc 1 (by decide)),(World.cell?_of_block (w:=w0) en).trans (hcc 2 (by decide))⟩;have U3:Q (⟨n,m*4,none⟩,it):=hqr _ (by simp);have Kh:∀p∈aK d w0 (.slice sa it.alts.length sc) it.alts,Q p:=fun p hp=>hqr p (by simp[hp])
     have Ki:∀p∈eF (aK d w0) w0 n (m+1) (its.drop (m+1))++dP (aK d w0) w0 gb (j+1) (l.drop (j+1)),Q p:=fun p hp=>hqr p (by
      rcases List.mem_append.1 hp with hp|hp
      ·simp[hp]
      ·simp[hp])
     clear hqr hir HR ec;go_wp2_with fail;refine(hw wr n m it hn hia).mono ?_;rintro e w1⟨rfl,hw1⟩;obtain rfl:=hw1.symm;cases hwd:wd it with
     |true=>
      have HWD:Hid (wd it=true):=hwd;have hr3:T=(L2++[(⟨n,m*4,none⟩,it)])++((aK d w0 (.slice sa it.alts.length sc) it.alts).filter (fun p=>wd p.2)++(eF (aK d w0) w0 n (m+1) (its.drop (m+1))++dP (aK d w0) w0 gb (j+1) (l.drop (j+1))).filter (fun p=>wd p.2)):=by
       rw[hr2];simp[hwd,List.append_assoc]
      have HR3:Hid _:=hr3;have q1:=hv wr L2 n m it hr hn hia hwd U3 ⟨_,by rw[TM.out,hr3,List.append_assoc,List.append_assoc];rfl⟩;clear hr2 hr3 hwd;go_wp2_with fail;refine q1.mono ?_;rintro e w2⟨rfl,hI2⟩;have U4:w2.heap[n]?=w0.heap[n]?:=hf _ _ hI2 n hn;have y3:w2.cell? ⟨n,m*4+3,none⟩=some (.slice sa it.alts.length sc):=(World.cell?_of_block (w:=w0) U4).trans (hcc 3 (by decide));go_wp2_with fail;refine(IH nw nv fst caps wd F w0 I Q Ec hcw hcv hw hv hf _ _ ha Kh w2 _ hI2 ⟨_,by rw[TM.out,HR3.out,<-List.append_assoc (L2++_),List.append_assoc (_++List.filter _ _)]⟩).mono ?_;rintro e w3⟨rfl,Eb⟩;have HR4:Hid _:=HR3.out;rw[<-List.append_assoc]at HR4;go_wp2_with fail;go_roundg (its.length - (m+1))
      case measure=>omega
      case rel=>exact⟨m+1,_,by omega,by go_num,Eb,Ki,HR4⟩
     |false=>
      have hr3:T=L2++((aK d w0 (.slice sa it.alts.length sc) it.alts).filter (fun p=>wd p.2)++(eF (aK d w0) w0 n (m+1) (its.drop (m+1))++dP (aK d w0) w0 gb (j+1) (l.drop (j+1))).filter (fun p=>wd p.2)):=by
       rw[hr2];simp[hwd,List.append_assoc]
      have HR3:Hid _:=hr3;clear hr2 hr3 hwd;have y3:wr.cell? ⟨n,m*4+3,none⟩=some (.slice sa it.alts.length sc):=(World.cell?_of_block (w:=w0) en).trans (hcc 3 (by decide));go_wp2_with fail;refine(IH nw nv fst caps wd F w0 I Q Ec hcw hcv hw hv hf _ _ ha Kh wr _ hr ⟨_,by rw[TM.out,HR3.out,<-List.append_assoc L2,List.append_assoc (_++List.filter _ _)]⟩).mono ?_;rintro e w3⟨rfl,Eb⟩;have HR4:Hid _:=HR3.out;rw[<-List.append_assoc]at HR4;go_wp2_with fail;go_roundg (its.length - (m+1))
      case measure=>omega
      case rel=>exact⟨m+1,_,by omega,by go_num,Eb,Ki,HR4⟩
    ·have:m=its.length:=by omega
     subst this;have hr2:=HR.out;rw[List.drop_length,eF,List.nil_append]at hr2 hqr;have HR2:Hid _:=hr2;clear hr2 HR;go_wp2_with fail;go_roundg (l.length - (j+1))
     case measure=>omega
     case rel=>exact⟨j+1,L2,by omega,by go_num,hr,hqr,HR2⟩
  ·have:j=l.length:=by omega
   subst this;have hz2:=HZ.out;rw[List.drop_length,dP,List.filter_nil,List.append_nil]at hz2;have HZ2:Hid _:=hz2;clear hz2 HZ;go_wp2_with fail
   go_end0
   refine⟨rfl,?_⟩;rw[HZ2.out];exact hz
theorem RL:∀d,Nh d
 |0=>agN
 |d+1=>agO (RL d)
end Go.Proofs.YtagkodkijkpemaaGreatDoor
namespace Go.Proofs.YtagkodkijkpemaaGreatDoor
open Lx Go.Proofs.Tryz
open Go.RowKit
open Tr
theorem aM.up{Y:Lay}{F:Nat->Prop}{w:World}:∀{d:Nat}{v:Value}{l:List Lx.Alt},aM Y d F w v l->aM Y (d+1) F w v l
 |0,_,_,h=>by obtain⟨rfl,rfl⟩:=h;exact aM.nil _ _ _ _
 |d+1,_,_,h=>Seq.move (K:=fun vi(a:Lx.Alt)=>wO Y (aM Y d F w) F w vi a.1) h (fun _ _=>rfl) (fun _ h=>h) fun _ _ hi=>Seq.move (K:=fun va(it:Lx.It)=>aM Y d F w va it.alts) hi (fun _ _=>rfl) (fun _ h=>h) fun _ _ ha=>aM.up ha
end Go.Proofs.YtagkodkijkpemaaGreatDoor
namespace Go.Proofs.YtagkodkijkpemaaGreatDoor
open Lx Go.Proofs.Tryz
open Go.RowKit
open Tr
theorem ahX(n:Nat):(FY n).size<=n+1:=by
 show ((Lib.decDigits n).toArray).size<=n+1;rw[List.size_toArray]
 induction n using Nat.strongRecOn with
 |_ n IH=>
  rw[Lib.decDigits]
  split
  ·simp
  ·have:=IH (n / 10) (by omega)
   rw[List.length_append,List.length_singleton];omega
end Go.Proofs.YtagkodkijkpemaaGreatDoor
namespace Go.Proofs.YtagkodkijkpemaaGreatDoor
open Lx Go.Proofs.Tryz
open Go.RowKit
open Tr
def dK(r:List Nat):List Value:=r.map fun(s:Nat)=>.int .i64 (s:Int)
theorem Dj(r:List Nat):(dK r).length=r.length:=by simp[dK]
theorem EU(a b:List Nat):dK (a++b)=dK a++dK b:=by simp[dK]
theorem ahY(r:List Nat):∀u∈dK r,u.oneCell'=true:=by
 intro u hu;obtain⟨s,-,rfl⟩:=List.mem_map.1 hu;rfl
theorem ahZ{r:List Nat}{j:Nat}(h:j<r.length):(dK r)[j]?=some (.int .i64 (r[j]:Int)):=by simp[dK,h]
def IR(B:Nat)(w:World)(v:Value)(r:List Nat):Prop:=w.ownsRow B 3 1 v r.length (dK r)
def Lx.zT(T N:List ByteArray)(it:Lx.It):Prop:=if it.kind=1 then 0<=bW T it.name else 0<=bW N it.name
end Go.Proofs.YtagkodkijkpemaaGreatDoor
namespace Go.Proofs.YtagkodkijkpemaaGreatDoor
open Lx Go.Proofs.Tryz
open Go.RowKit
open Lx (Tk)
open Tr
theorem Tryz.info3:(prog.info? 3).map (fun i=>(i.zero,i.size,i.bytes))=some (some (.int .i64 0),1,8):=by kernel_rfl
end Go.Proofs.YtagkodkijkpemaaGreatDoor
namespace Go.Proofs.YtagkodkijkpemaaGreatDoor
open Lx Go.Proofs.Tryz
open Go.RowKit
open Tr
theorem afQ{w:World}{n m:Nat}{it:Lx.It}(h:pE w n m it):Calls prog 119 #[.pointer (some ⟨n,m*4,none⟩)] w fun e w'=>e=.returned (.bool (decide (it.kind=0)))/\w'=w:=by
 have h0:=h.kind;go_enter func119,ntmps119
 by_cases hk:it.kind=0
 ·have hkb:((it.kind:Int) == 0)=true:=by simp[hk]
  rw[decide_eq_true hk];clear hk;go_wp2_with fail;go_ret;exact⟨rfl,rfl⟩
 ·have hkb:((it.kind:Int) == 0)=false:=zB0 (by omega)
  rw[decide_eq_false hk];clear hk;go_wp2_with fail;go_ret;exact⟨rfl,rfl⟩
namespace Lx
def vis(names:List ByteArray)(s:List Bool×List Nat)(nm:ByteArray):List Bool×List Nat:=if aJ s.1 (fix names nm)=true then s else (s.1.set (fix names nm) true,s.2++[fix names nm])
end Lx
structure RS(lo n B:Nat)(num:ByteArray->Int)(w0 w:World)(s:List Bool×List Nat):Prop where
 nb:aj w lo #[.map (some B)] 155
 mp:SMap w B num
 bl:B<lo
 fo:aj w (lo+1) (bE s.1) 4
 fv:aj w (lo+2) #[.slice (some ⟨lo+1,0,none⟩) n n] 142
 ov:∃vo,aj w (lo+4) #[vo] 22/\w.ownsRow 0 3 1 vo s.2.length (dK s.2)/\∀g,vo.ownBlock=some g->g=lo+3\/lo+5<=g
 len:Hid (s.1.length=n)
 fr:Below lo w0 w
theorem afR{lo n B:Nat}{num:ByteArray->Int}{w0 w:World}{s:List Bool×List Nat}(h:RS lo n B num w0 w s){a m:Nat}{it:Lx.It}(hi:pE w a m it){names:List ByteArray}(hq:num it.name=(Lx.fix names it.name:Int))(hl:Lx.fix names it.name<n)(hop:s.2.length<=10000):
  Calls prog 120 #[.pointer (some ⟨a,m*4,none⟩),.pointer (some ⟨lo,0,none⟩),.pointer (some ⟨lo+2,0,none⟩),.pointer (some ⟨lo+4,0,none⟩)] w fun e w'=>e=.returned (.tuple #[])/\RS lo n B num w0 w' (Lx.vis names s it.name):=by
 obtain⟨i3,hi3,DT,DU,hz32⟩:=info_parts Tryz.info3;obtain⟨h1,h2,h3,h4,h5,⟨vo,h6,h7,h8⟩,h9,h10⟩:=h;have h2d:SMap w.drew B num:=h2.move rfl;have hlk:=h2d.look it.name;rw[hq]at hlk;have x1:=hi.name;have c0:w.cell? ⟨lo,0,none⟩=some (.map (some B)):=h1.cell 0;go_enter func120,ntmps120;go_wp2_with fail
 go_region
 all_goals
  have hv0:Lx.vis names s it.name=if aJ s.1 (Lx.fix names it.name)=true then s else (s.1.set (Lx.fix names it.name) true,s.2++[Lx.fix names it.name]):=rfl
  have OY:Hid _:=hv0;have mO:Lx.fix names it.name<s.1.length:=by have:=h9.out;omega
  clear hv0;obtain⟨wd,hwd⟩:∃wd,wd=w.drew:=⟨_,rfl⟩;rw[<-hwd];have hh:wd.heap=w.heap:=by rw[hwd];rfl
  have adz:Below lo w0 wd:=by rw[hwd];exact h10.drew
  have h1d:aj wd lo #[.map (some B)] 155:=by unfold aj;rw[hh];exact h1
  have h2e:SMap wd B num:=h2.move (by rw[hh]);have Kj:aj wd (lo+1) (bE s.1) 4:=by unfold aj;rw[hh];exact h4
  have OZ:aj wd (lo+2) #[.slice (some ⟨lo+1,0,none⟩) n n] 142:=by unfold aj;rw[hh];exact h5
  have U5:aj wd (lo+4) #[vo] 22:=by unfold aj;rw[hh];exact h6
  have U6:wd.ownsRow 0 3 1 vo s.2.length (dK s.2):=aC h7 fun g _=>by rw[hh]
  have f0:wd.cell? ⟨lo+2,0,none⟩=some (.slice (some ⟨lo+1,0,none⟩) n n):=OZ.cell 0;have o1:wd.cell? ⟨lo+1,Lx.fix names it.name,none⟩=some (.bool (aJ s.1 (Lx.fix names it.name))):=(Kj.cell _).trans (qM s.1 mO);have of:∀i,wd.frozen? ⟨lo+1,i,none⟩=false:=Kj.frozen;have l1:=Kj.lt;have l2:=OZ.lt;have l4:=U5.lt;have HQL:Hid (Lx.fix names it.name<s.1.length):=mO;clear hwd hh h1 h2 h2d h4 h5 h6 h7 h10 x1 c0 hlk hq hi mO;generalize Lx.fix names it.name=q at *;cases hb:aJ s.1 q with
  |true=>
   have hv0:=OY.out;rw[if_pos hb]at hv0;have U7:Hid _:=hv0;rw[hb]at o1;clear hv0 OY hb;go_wp2_with fail
   go_end0
   refine⟨rfl,?_⟩;rw[U7.out];exact⟨h1d,h2e,h3,Kj,OZ,⟨vo,U5,U6,h8⟩,h9,adz⟩
  |false=>
   have hv0:=OY.out;rw[if_neg (by rw[hb];decide)]at hv0;have U7:Hid _:=hv0;rw[hb]at o1;clear hv0 OY hb;obtain⟨oa,oc,Ed,Kk⟩:=aB U6;subst Ed;unfold maxLen at Kk;have h6e:aj (wd.setCell ⟨lo+1,q,none⟩ (.bool true)) (lo+4) #[.slice oa s.2.length oc] 22:=U5.other (by omega) _;have o40:(wd.setCell ⟨lo+1,q,none⟩ (.bool true)).cell? ⟨lo+4,0,none⟩=some (.slice oa s.2.length oc):=h6e.cell 0;have h7e:(wd.setCell ⟨lo+1,q,none⟩ (.bool true)).ownsRow 0 3 1 (.slice oa s.2.length oc) s.2.length (dK s.2):=aC U6 fun g hg=>zS0 (fun e=>by have e':g=lo+1:=e;rcases h8 g hg with h|h <;> omega)
   have k41:aj (wd.setCell ⟨lo+1,q,none⟩ (.bool true)) (lo+1) (bE (s.1.set q true)) 4:=by rw[<-Di];exact Kj.set q _
   have hse:(wd.setCell ⟨lo+1,q,none⟩ (.bool true)).heap.size=wd.heap.size:=by simp[World.setCell]
   have hkn:aj ((wd.setCell ⟨lo+1,q,none⟩ (.bool true)).alloc (.cells #[.int .i64 (q:Int)] 3)) wd.heap.size #[.int .i64 (q:Int)] 3:=by rw[<-hse];exact aj.new _ _ 3
   have hn4:(Value.slice oa s.2.length oc).ownBlock≠some (lo+4):=fun e=>by rcases h8 _ e with h | h <;> omega
   go_wp2_with (at_builtin;go_loud (refine wpList_append_own_at _ rfl _ _ 22 rfl 0 3 i3 _ 1 8 underlying22 hi3 DT DU hz32 rfl (by decide) (.slice oa s.2.length oc) _ _ rfl (h7e.alloc _) ⟨_,0,none⟩ 1 1 [.int .i64 (q:Int)] rfl rfl (dI hkn) (by simp[Value.oneCell']) (by unfold maxLen;omega) (by omega) (by simp) ?_;intro v5 w5 hown5 bF _ lG;obtain⟨l7,l8,hv5,-⟩:=aB hown5;subst hv5;have Ee:=(h6e.alloc (.cells #[.int .i64 (q:Int)] 3)).grown bF (fun e=>hn4 e.symm);have c54:w5.cell? ⟨lo+4,0,none⟩=some (.slice oa s.2.length oc):=Ee.cell 0;have f54:∀i,w5.frozen? ⟨lo+4,i,none⟩=false:=Ee.frozen))
   go_end0
   refine⟨rfl,?_⟩;rw[U7.out];have bk:∀g,g<wd.heap.size->g≠lo+4->g≠lo+1->(Value.slice oa s.2.length oc).ownBlock≠some g->(w5.setCell ⟨lo+4,0,none⟩ (.slice l7 (s.2.length+1) l8)).heap[g]?=wd.heap[g]?:=by
    intro g hg h4' h1' hn;rw[zS0 h4',bF.block g (by simp[World.setCell];omega) (fun e=>hn e.symm),Below.heap_alloc _ _ _ (by rw[hse];exact hg),zS0 h1']
   have hno:∀g,g<lo+3->(Value.slice oa s.2.length oc).ownBlock≠some g:=fun g hg e=>by rcases h8 _ e with h | h <;> omega
   have hs5:=bF.size;simp only[World.size_alloc]at hs5;have wY:∀g,(Value.slice l7 (s.2.length+1) l8).ownBlock=some g->g=lo+3\/lo+5<=g:=by
    intro g hg;rcases lG with h|h
    ·exact h8 g (h▸hg)
    ·rw[h]at hg
     have e1:=Option.some.inj hg;have e2:g=wd.heap.size+1:=by rw[<-e1];simp[World.setCell]
     omega
   refine⟨?_,h2e.move (bk B (by omega) (by omega) (by omega) (hno B (by omega))),h3,?_,?_,⟨_,Ee.set 0 _,?_,wY⟩,?_,?_⟩
   ·exact(bk lo (by omega) (by omega) (by omega) (hno lo (by omega))).trans h1d
   ·have k5:=(k41.alloc (.cells #[.int .i64 (q:Int)] 3)).grown bF (fun e=>hno (lo+1) (by omega) e.symm)
    exact k5.other (by omega) _
   ·exact(bk (lo+2) (by omega) (by omega) (by omega) (hno (lo+2) (by omega))).trans OZ
   ·rw[List.length_append,EU]
    exact aC hown5 fun g hg=>zS0 (fun e=>by have e':g=lo+4:=e;rcases wY g hg with h|h <;> omega)
   ·show (s.1.set q true).length=n
    rw[List.length_set];exact h9.out
   ·refine adz.trans ⟨?_,?_,?_,?_,fun g hg=>bk g (by omega) (by omega) (by omega) (hno g (by omega))⟩
    ·exact bF.os
    ·exact bF.tape
    ·exact bF.output
    ·have:=bF.size;simp[World.setCell]at this|-;omega
end Go.Proofs.YtagkodkijkpemaaGreatDoor
namespace Go.Proofs.YtagkodkijkpemaaGreatDoor
open Lx Go.Proofs.Tryz
open Go.RowKit
open Tr
namespace Lx
def Dx(T N:List ByteArray)(H:List It)(it:It):Prop:=if hlp it=true then zY H it.place<H.length else zT T N it
theorem ajp{H:List It}(hr:(H.map It.place).Pairwise (·< ·)){p k:Nat}(hk:k<H.length)(hl:zY H p<H.length):H[k].place=p↔k=zY H p:=by
 have h1:H[zY H p].place=p:=by
  have:=List.findIdx_getElem (w:=hl);exact of_decide_eq_true this
 constructor
 ·intro h
  rcases Nat.lt_trichotomy k (zY H p) with h2|h2|h2
  ·have:=List.not_of_lt_findIdx h2
   simp[h]at this
  ·exact h2
  ·exfalso
   have h3:=List.pairwise_iff_getElem.1 hr (zY H p) k (by simpa using hl) (by simpa using hk) h2;simp[h1,h]at h3
 ·rintro rfl;exact h1
end Lx
theorem IR.at{B:Nat}{w:World}{v:Value}{r:List Nat}(h:IR B w v r){j:Nat}(hj:j<r.length):∃g cap,v=.slice (some ⟨g,0,none⟩) r.length cap/\g<w.heap.size/\w.cell? ⟨g,j,none⟩=some (.int .i64 (r[j]:Int)):=by
 unfold IR at h;obtain⟨g,cap,rfl,-,-⟩:=h.form (by omega);refine⟨g,cap,rfl,(h.lt g rfl).2,?_⟩;rw[h.cellAt j (by omega),ahZ hj]
end Go.Proofs.YtagkodkijkpemaaGreatDoor
namespace Go.Proofs.YtagkodkijkpemaaGreatDoor
open Lx Go.Proofs.Tryz
open Go Go.RowKit
namespace Lx
theorem agP(l:List ByteArray)(b:ByteArray):(∀c∈l,c∈jR l b)/\b∈jR l b:=by
 unfold jR
 split
 ·rename_i h;exact⟨fun _ h=>h,jH.1 h⟩
 ·exact⟨fun c h=>List.mem_append.2 (.inl h),List.mem_append.2 (.inr List.mem_cons_self)⟩
theorem QC:∀(bs l:List ByteArray),(∀c∈l,c∈gH l bs)/\∀b∈bs,b∈gH l bs
 | [],l=>⟨fun _ h=>h,fun _ h=>by cases h⟩
 |b::bs,l=>by
  have h1:=agP l b;have h2:=QC bs (jR l b);refine⟨fun c hc=>h2.1 c (h1.1 c hc),fun c hc=>?_⟩;rcases List.mem_cons.1 hc with rfl|hc
  ·exact h2.1 _ h1.2
  ·exact h2.2 c hc
theorem abn{g:Gr}{b:ByteArray}(h:b∈lV g):0<=bW (aD g) b:=jH.2 ((QC _ _).2 b (List.mem_append.2 (.inl h)))
theorem akR{g:Gr}{r:Rl}(hr:r∈g.rules){x:It}(hx:x∈dh 9 r.alts)(hk:x.kind=1):0<=bW (aD g) x.name:=by
 refine jH.2 ((QC _ _).2 _ (List.mem_append.2 (.inr (List.mem_flatMap.2 ⟨r,hr,?_⟩))));exact List.mem_map.2 ⟨x,List.mem_filter.2 ⟨hx,by simp[hk]⟩,rfl⟩
theorem ah0{g:Gr}{b:ByteArray}(h:b∈aZ g):0<=bW (bI g) b:=by
 obtain⟨r,hr,rfl⟩:=List.mem_map.1 h;exact jH.2 (List.mem_cons_of_mem _ (List.mem_flatMap.2 ⟨r,hr,List.mem_cons_self⟩))
theorem XG{g:Gr}{d:Nat}:∀{its:List It}{r:List Wd},unk g (its.flatMap (mJ d)++r)=none->(∀x∈its,(x.kind=0->0<=bW (aZ g) x.name)/\unk g (eY d x.alts)=none)/\unk g r=none
 | [],r,h=>⟨fun _ h=>(by cases h),h⟩
 |x::its,r,h=>by
  rw[List.flatMap_cons,List.append_assoc]at h;obtain⟨h1,h2,h3⟩:=afN h;obtain⟨h4,h5⟩:=XG h3;refine⟨fun y hy=>?_,h5⟩;rcases List.mem_cons.1 hy with rfl|hy
  ·exact⟨h1,h2⟩
  ·exact h4 y hy
theorem QD{g:Gr}{d:Nat}:∀{l:List Alt},unk g (l.flatMap (Dn d))=none->∀a∈l,(∀x∈a.1,(x.kind=0->0<=bW (aZ g) x.name)/\unk g (eY d x.alts)=none)/\(a.2.1≠aT->lvls g a.2.1=true)
 | [],h,a,ha=>by cases ha
 |b::l,h,a,ha=>by
  rw[List.flatMap_cons,YH,List.append_assoc]at h;obtain⟨h1,h2⟩:=XG h;have h3:=afO h2;rcases List.mem_cons.1 ha with rfl|ha
  ·refine⟨h1,fun hn=>?_⟩
   cases hq:lvls g a.2.1 with
   |true=>rfl
   |false=>rw[afM hn hq]at h2;cases h2
  ·exact QD h3 a ha
theorem I4:∀{d:Nat}{g:Gr}{l:List Alt},unk g (eY d l)=none->∀{x:It},x∈dh d l->x.kind=0->0<=bW (aZ g) x.name
 |0,g,l,h,x,hx,hk=>by cases hx
 |d+1,g,l,h,x,hx,hk=>by
  obtain⟨a,ha,z,hz,hx⟩:=Fe.1 hx;rw[Iy]at h;obtain⟨h1,h2⟩:=(QD h a ha).1 z hz;rcases hx with rfl|hx
  ·exact h1 hk
  ·exact I4 h2 hx hk
structure Fit(g:Gr):Prop where
 lv:∀l∈g.levels,Oa l
 rl:∀r∈g.rules,JH r
 ne:0<g.rules.length
 dp:∀r∈g.rules,Dp 9 r.alts
 sz:BJ g.levels+wV g.rules<=2001
 ris:((JG g.rules).map It.place).Pairwise (·< ·)
 unk:uS g=none
 dup:zX g=none
theorem Fit.TN{g:Gr}(h:Fit g){r:Rl}(hr:r∈g.rules):Lx.unk g (eY 9 r.alts)=none:=MO h.unk r hr
theorem Fit.plain{g:Gr}(h:Fit g){r:Rl}(hr:r∈g.rules){x:It}(hx:x∈dh 9 r.alts)(hk:x.kind≠2):zT (aD g) (bI g) x:=by
 unfold zT
 split
 ·rename_i h1;exact akR hr hx h1
 ·rename_i h1
  rcases (h.rl r hr).2.1 x hx with h2|h2|h2
  ·exact ah0 (jH.1 (I4 (h.TN hr) hx h2.1))
  ·exact absurd h2.1 h1
  ·exact absurd h2 hk
theorem abo{H:List It}{x:It}(h:x∈H):zY H x.place<H.length:=List.findIdx_lt_length_of_exists ⟨x,h,by simp⟩
theorem Fit.sym{g:Gr}(h:Fit g){r:Rl}(hr:r∈g.rules){x:It}(hx:x∈dh 9 r.alts):Dx (aD g) (bI g) (bB 9 r.alts) x:=by
 unfold Dx
 split
 ·rename_i hh;exact abo (List.mem_filter.2 ⟨hx,hh⟩)
 ·rename_i hh
  refine h.plain hr hx fun hk=>hh ?_
  simp[hlp,hk]
theorem Fit.prec{g:Gr}(h:Fit g){r:Rl}(hr:r∈g.rules){a:Alt}(ha:a∈r.alts)(hn:a.2.1≠aT):0<=bW (aD g) a.2.1:=by
 have h1:=(QD (d:=8) (h.TN hr) a ha).2 hn;rw[aau]at h1;exact abn (Bq.1 h1)
theorem Fit.size{g:Gr}(h:Fit g){r:Rl}(hr:r∈g.rules):1+iO 9 r.alts<=2001:=by
 have h1:1+iO 9 r.alts<=wV g.rules:=IZ (fun r:Rl=>1+iO 9 r.alts) hr;have:=h.sz;omega
theorem Fit.rise{g:Gr}(h:Fit g){r:Rl}(hr:r∈g.rules):((bB 9 r.alts).map It.place).Pairwise (·< ·):=by
 refine h.ris.sublist (List.Sublist.map _ ?_);refine List.Sublist.trans List.filter_sublist ?_;unfold JG;obtain⟨s,t,e⟩:=List.append_of_mem hr;rw[e,List.flatMap_append,List.flatMap_cons];exact List.Sublist.trans (List.sublist_append_left _ _) (List.sublist_append_right _ _)
theorem Fit.rules{g:Gr}(h:Fit g):g.rules.length<=2001:=by
 have h1:g.rules.length<=wV g.rules:=Fx (fun r:Rl=>1+iO 9 r.alts) fun _ _=>by omega
 have:=h.sz;omega
theorem agQ(g:Gr):(lV g).length<=BJ g.levels:=by
 unfold lV eZ nI BJ;rw[List.length_map,List.length_flatMap]
 induction g.levels with
 |nil=>exact zL0
 |cons l ls ih=>simp only[List.map_cons,List.sum_cons,List.length_map]at ih|-;omega
theorem MR(rs:List Rl):(rs.flatMap fun r=>uP 9 r.alts).length<=wV rs:=by
 unfold wV;rw[List.length_flatMap]
 induction rs with
 |nil=>exact zL0
 |cons r rs ih=>
  have:=ahS 9 r.alts;simp only[List.map_cons,List.sum_cons]at ih|-;omega
theorem EO(r:Rl):(jS r).length=1+(bB 9 r.alts).length:=by simp[jS];omega
theorem ah1(rs:List Rl):(rs.flatMap jS).length<=wV rs:=by
 unfold wV;rw[List.length_flatMap]
 induction rs with
 |nil=>exact zL0
 |cons r rs ih=>
  have:=aav 9 r.alts;have:=EO r;simp only[List.map_cons,List.sum_cons]at ih|-;omega
theorem Fit.TQ{g:Gr}(h:Fit g):(aD g).length<=2002:=by
 have h1:=XZ (lV g++g.rules.flatMap fun r=>uP 9 r.alts) [lq];have h2:=agQ g;have h3:=MR g.rules;have:=h.sz;rw[List.length_append]at h1;unfold aD;simp only[List.length_cons,List.length_nil]at h1;omega
theorem Fit.adB{g:Gr}(h:Fit g):(bI g).length<=2002:=by
 have h3:=ah1 g.rules;have:=h.sz;unfold bI;rw[List.length_cons];omega
theorem Yb{T N:List ByteArray}{b:Nat}{H:List It}{x:It}{n:Nat}(h:x.alts.length<=n)(hn:1<=n):(partsOf T N b H x).length<=n:=by
 unfold partsOf;split
 ·rw[List.length_map];exact h
 ·exact hn
theorem agR(n s m:Nat)(ps:List (List Nat)):(nL n s m ps).length<=1+2*ps.length:=by
 unfold nL;rw[List.length_append,List.length_append]
 split <;> split <;> split <;> simp <;> omega
theorem QE{T N:List ByteArray}{b:Nat}{H:List It}{n:Nat}(hn:1<=n):∀(l:List It)(k:Nat),(∀x∈l,x.alts.length<=n)->(oH T N b H k l).length<=l.length*(1+2*n)
 | [],_,_=>Nat.zero_le _
 |x::l,k,h=>by
  rw[oH,List.length_append,List.length_cons,Nat.succ_mul];have h1:=agR T.length (b+1+k) x.mark (partsOf T N b H x);have h2:=Yb (T:=T) (N:=N) (b:=b) (H:=H) (h x List.mem_cons_self) hn;have h3:=QE (T:=T) (N:=N) (b:=b) (H:=H) hn l (k+1) fun y hy=>h y (List.mem_cons_of_mem _ hy)
  omega
theorem Fit.its{g:Gr}(h:Fit g){r:Rl}(hr:r∈g.rules){x:It}(hx:x∈dh 9 r.alts):x.alts.length<=2001/\∀a∈x.alts,a.1.length<=2001:=by
 have h1:=aaA (h.dp r hr) hx;have h2:=h.size hr;exact⟨by omega,fun a ha=>by have:=h1.2 a ha;omega⟩
theorem Fit.alts{g:Gr}(h:Fit g){r:Rl}(hr:r∈g.rules):r.alts.length<=2001/\∀a∈r.alts,a.1.length<=2001:=by
 have h1:=ZI (h.dp r hr);have h2:=h.size hr;exact⟨by omega,fun a ha=>by have:=h1.2 a ha;omega⟩
theorem Fit.adC{g:Gr}(h:Fit g){r:Rl}(hr:r∈g.rules):(bB 9 r.alts).length<=2001:=by
 have h1:=aav 9 r.alts;have h2:=h.size hr;omega
theorem Fit.amD{g:Gr}(h:Fit g){r:Rl}(hr:r∈g.rules)(T N:List ByteArray)(b:Nat):(sZ T N b r).length<=10000000:=by
 unfold sZ;rw[List.length_append,List.length_map];have h1:=QE (T:=T) (N:=N) (b:=b) (H:=bB 9 r.alts) (n:=2001) (by omega) (bB 9 r.alts) 0 fun x hx=>(h.its hr (List.mem_filter.1 hx).1).1
 have h2:=(h.alts hr).1;have h3:=h.adC hr;have h4:(bB 9 r.alts).length*(1+2*2001)<=2001*(1+2*2001):=Nat.mul_le_mul_right _ h3;omega
end Lx
end Go.Proofs.YtagkodkijkpemaaGreatDoor
namespace Go.Proofs.YtagkodkijkpemaaGreatDoor
open Lx Go.Proofs.Tryz
open Go.RowKit
open Tr
theorem Qt{w:World}{n m:Nat}{it:Lx.It}(h:pE w n m it):Calls prog 124 #[.pointer (some ⟨n,m*4,none⟩)] w fun e w'=>e=.returned (.bool (Lx.hlp it))/\w'=w:=by
 have h0:=h.kind;have h2:=h.mark;go_enter func124,ntmps124
 by_cases hk:it.kind=2
 ·have hkb:((it.kind:Int) == 2)=true:=by simp[hk]
  have hr:Lx.hlp it=true:=by simp[Lx.hlp,hk]
  rw[hr];clear hk hr;go_wp2_with fail;go_ret;exact⟨rfl,rfl⟩
 ·have hkb:((it.kind:Int) == 2)=false:=zB0 (by omega)
  by_cases hm:it.mark=0
  ·have hmb:((it.mark:Int) != 0)=false:=by simp[hm]
   have hr:Lx.hlp it=false:=by simp[Lx.hlp,hk,hm]
   rw[hr];clear hk hr hm;go_wp2_with fail;go_ret;exact⟨rfl,rfl⟩
  ·have hmb:((it.mark:Int) != 0)=true:=bne_iff_ne.2 (by omega)
   have hr:Lx.hlp it=true:=by simp[Lx.hlp,hk,hm]
   rw[hr];clear hk hr hm;go_wp2_with fail;go_ret;exact⟨rfl,rfl⟩
end Go.Proofs.YtagkodkijkpemaaGreatDoor
namespace Go.Proofs.YtagkodkijkpemaaGreatDoor
open Lx Go.Proofs.Tryz
open Go.RowKit
open Tr
def tX(q:Value×Lx.Pd):List Value:=[.int .i64 (q.2.left:Int),q.1,.int .i64 q.2.prec]
theorem I5:∀ps:List (Value×Lx.Pd),(ps.flatMap tX).length=ps.length*3
 | []=>rfl
 |p::ps=>by rw[List.flatMap_cons,List.length_append,I5 ps,List.length_cons,Nat.succ_mul];show 3+_=_;omega
structure Kp(D:Nat->Prop)(w w':World):Prop where
 os:w'.os=w.os
 tape:w'.tape=w.tape
 output:w'.output=w.output
 size:w.heap.size<=w'.heap.size
 block:∀g,D g->w'.heap[g]?=w.heap[g]?
theorem Kp.refl(D:Nat->Prop)(w:World):Kp D w w:=⟨rfl,rfl,rfl,zL0,fun _ _=>rfl⟩
theorem Kp.trans{D D':Nat->Prop}{w w' w'':World}(h:Kp D w w')(k:Kp D' w' w'')(hD:∀g,D g->D' g):Kp D w w'':=⟨k.os.trans h.os,k.tape.trans h.tape,k.output.trans h.output,Nat.le_trans h.size k.size,fun g hg=>(k.block g (hD g hg)).trans (h.block g hg)⟩
theorem Kp.below{D:Nat->Prop}{w w':World}(h:Below w.heap.size w w')(hD:∀g,D g->g<w.heap.size):Kp D w w':=⟨h.os,h.tape,h.output,h.size,fun g hg=>h.block g (hD g hg)⟩
def More(D:Nat->Prop)(w w':World):Nat->Prop:=fun g=>D g\/(w.heap.size<=g/\g<w'.heap.size)
namespace Lx
theorem afS(n:Nat)(r:List Nat)(s:Nat):oJ n (r++[s])=if s<n then (s:Int) else oJ n r:=by unfold oJ;rw[List.foldl_append];rfl
theorem afT{n:Nat}{r:List Nat}{m:Nat}(h:m<r.length):oJ n (r.take (m+1))=if r[m]<n then (r[m]:Int) else oJ n (r.take m):=by rw[List.take_succ_eq_append_getElem h,afS]
end Lx
end Go.Proofs.YtagkodkijkpemaaGreatDoor
namespace Go.Proofs.YtagkodkijkpemaaGreatDoor
open Lx Go.Proofs.Tryz
open Go.RowKit
open Tr
theorem Tryz.ace:(prog.info? 22).map (fun i=>(i.zero,i.size,i.bytes))=some (some (.slice none 0 0),1,24):=by kernel_rfl
theorem Tryz.afk:prog.underlying 49=some (.slice 22):=by kernel_rfl
def TR(B:Nat)(w:World)(v:Value)(ps:List (List Nat))(qs:List (Value×List Nat)):Prop:=qs.map Prod.snd=ps/\w.ownsRow B 22 1 v ps.length (qs.map Prod.fst)/\(∀q,q∈qs->IR B w q.1 q.2)/\∀q,q∈qs->∀g,q.1.ownBlock=some g->v.ownBlock≠some g
def sw(B:Nat)(w:World)(v:Value)(ps:List (List Nat)):Prop:=∃qs,TR B w v ps qs
theorem sw.move{B:Nat}{w w':World}{v:Value}{ps:List (List Nat)}(h:sw B w v ps)(hb:∀g,B<=g->g<w.heap.size->w'.heap[g]?=w.heap[g]?):sw B w' v ps:=by
 obtain⟨qs,h1,h2,h3,h4⟩:=h;exact⟨qs,h1,aC h2 fun g hg=>hb g (h2.lt g hg).1 (h2.lt g hg).2,fun q hq=>aC (h3 q hq) fun g hg=>hb g ((h3 q hq).lt g hg).1 ((h3 q hq).lt g hg).2,h4⟩
theorem sw.len{B:Nat}{w:World}{v:Value}{ps:List (List Nat)}(h:sw B w v ps):∃a c,v=.slice a ps.length c/\ps.length<=maxLen:=by
 obtain⟨qs,h1,h2,h3,h4⟩:=h;exact aB h2
theorem sw.at{B:Nat}{w:World}{v:Value}{ps:List (List Nat)}(h:sw B w v ps){j:Nat}(hj:j<ps.length):∃g cap u,v=.slice (some ⟨g,0,none⟩) ps.length cap/\B<=g/\g<w.heap.size/\w.cell? ⟨g,j,none⟩=some u/\IR B w u ps[j]:=by
 obtain⟨qs,h1,h2,h3,h4⟩:=h;obtain⟨g,cap,rfl,-,-⟩:=h2.form (by omega);have hl:qs.length=ps.length:=by rw[<-h1,List.length_map]
 have hq:qs[j]?=some qs[j]:=List.getElem?_eq_getElem (by omega);have h5:(qs[j]).2=ps[j]:=by
  have:(qs.map Prod.snd)[j]?=ps[j]?:=by rw[h1]
  rw[List.getElem?_map,hq,List.getElem?_eq_getElem hj]at this;simpa using this
 refine⟨g,cap,(qs[j]).1,rfl,(h2.lt g rfl).1,(h2.lt g rfl).2,?_,?_⟩
 ·rw[h2.cellAt j (by omega),List.getElem?_map,hq];rfl
 ·rw[<-h5];exact h3 _ (List.getElem_mem _)
end Go.Proofs.YtagkodkijkpemaaGreatDoor
namespace Go.Proofs.YtagkodkijkpemaaGreatDoor
open Lx Go.Proofs.Tryz
open Go.RowKit
open Tr
structure Puts(bt et sz:Nat)(w:World)(mb i:Nat)(v:Value)(n:Nat)(xs:List Value)(cs:Array Value)(v3:Value)(w4:World):Prop where
 blk:aj w4 mb (cs.setIfInBounds i v3) bt
 row:w4.ownsRow 0 et sz v3 n xs
 keep:∀g,g<w.heap.size->g≠mb->v.ownBlock≠some g->w4.heap[g]?=w.heap[g]?
 ne:v3.ownBlock≠some mb
 at_:∀g,v3.ownBlock=some g->v.ownBlock=some g\/w.heap.size<=g
 os:w4.os=w.os
 tape:w4.tape=w.tape
 output:w4.output=w.output
 size:w.heap.size<=w4.heap.size
theorem puts{bt et sz:Nat}{w w1 w3:World}{mb i:Nat}{cs:Array Value}{v:Value}{n:Nat}{xs:List Value}{v3:Value}(h1:aj w mb cs bt)(h8:v.ownBlock≠some mb)(hb:Below w.heap.size w w1)(ho:w3.ownsRow 0 et sz v3 n xs)(hg:w1.grownBy w3 v.ownBlock)(hat:v3.ownBlock=v.ownBlock\/∃g,v3.ownBlock=some g/\w.heap.size<=g):Puts bt et sz w mb i v n xs cs v3 (w3.setCell ⟨mb,i,none⟩ v3):=by
 have Kl:=h1.lt;have hs1:=hb.size;have hs3:=hg.size;have hne:v3.ownBlock≠some mb:=by
  rcases hat with h|⟨g,h,hg2⟩
  ·rw[h];exact h8
  ·rw[h];intro e;cases e;omega
 have k3:aj w3 mb cs bt:=by
  unfold aj at h1|-;rw[hg.block mb (by omega) (fun e=>h8 e.symm),hb.block mb Kl];exact h1
 refine⟨k3.set i v3,?_,?_,hne,?_,hg.os.trans hb.os,hg.tape.trans hb.tape,hg.output.trans hb.output,by simp[World.setCell];omega⟩
 ·exact aC ho fun g hx=>zS0 (fun e=>hne (by have e':g=mb:=e;rw[<-e'];exact hx))
 ·intro g hg1 hm hn
  rw[zS0 hm,hg.block g (by omega) (fun e=>hn e.symm),hb.block g hg1]
 ·intro g hx
  rcases hat with h|⟨g',h,hg2⟩
  ·exact .inl (h▸hx)
  ·rw[h]at hx;cases hx;exact .inr hg2
theorem Puts.drew{bt et sz:Nat}{w w4:World}{mb i:Nat}{cs:Array Value}{v:Value}{n:Nat}{xs:List Value}{v3:Value}(h:Puts bt et sz w mb i v n xs cs v3 w4):Puts bt et sz w mb i v n xs cs v3 w4.drew:=⟨h.blk.drew,aC h.row fun _ _=>rfl,h.keep,h.ne,h.at_,h.os,h.tape,h.output,h.size⟩
def acZ(w:World)(mb nT:Nat)(V:List ByteArray)(nm:ByteArray)(vN:Value)(cs:Array Value)(e:Ending)(w':World):Prop:=e=.returned (.int .i64 ((nT+V.length:Nat):Int))/\∃v3,Puts 198 9 1 w mb 1 vN (V.length+1) ((V++[nm]).map Value.string) cs v3 w'
theorem afU{w:World}{mb nT:Nat}{V:List ByteArray}{ta:Option Addr}{tc:Nat}{vN vP vB vK vS vH:Value}(kM:aj w mb #[.slice ta nT tc,vN,vP,vB,vK,vS,vH] 198)(oN:w.ownsRow 0 9 1 vN V.length (V.map Value.string))(hne:vN.ownBlock≠some mb)(hT:nT<=100000)(hV:V.length<=100000)(nm:ByteArray):
  Calls prog 123 #[.pointer (some ⟨mb,0,none⟩),.string nm] w (acZ w mb nT V nm vN #[.slice ta nT tc,vN,vP,vB,vK,vS,vH]):=by
 obtain⟨i9,hi9,hz90,hz91,hz92⟩:=info_parts Tryz.Ti;obtain⟨na,nc,rfl,-⟩:=aB oN;have lm:=kM.lt;have m1:w.cell? ⟨mb,1,none⟩=some (.slice na V.length nc):=kM.cell 1;have hb1:Below w.heap.size w (w.alloc (.cells #[.string nm] 9)):=(Below.refl _ _).alloc (zL0) _;unfold acZ;go_enter func123,ntmps123
 go_wp2_with (at_builtin;go_loud (refine wpList_append_own_at _ rfl _ _ 53 rfl 0 9 i9 _ 1 16 underlying53 hi9 hz90 hz91 hz92 rfl (by decide) (.slice na V.length nc) _ _ rfl (oN.alloc _) ⟨_,0,none⟩ 1 1 [.string nm] rfl rfl (dI (aj.new _ _ 9)) (by simp[Value.oneCell']) (by unfold maxLen;omega) (by omega) (by simp) ?_;intro v5 w5 hown5 bF _ lG;obtain⟨l7,l8,hv5,-⟩:=aB hown5;subst hv5;have Ee:=(kM.alloc (.cells #[.string nm] 9)).grown bF (fun e=>hne e.symm);have c56:w5.cell? ⟨mb,1,none⟩=some (.slice na V.length nc):=Ee.cell 1;have f56:∀i,w5.frozen? ⟨mb,i,none⟩=false:=Ee.frozen))
 have wY:(Value.slice l7 (V.length+1) l8).ownBlock=(Value.slice na V.length nc).ownBlock\/∃g,(Value.slice l7 (V.length+1) l8).ownBlock=some g/\w.heap.size<=g:=by
  rcases lG with h'|h'
  ·exact .inl h'
  ·exact .inr ⟨_,h',by simp⟩
 have hown6:w5.ownsRow 0 9 1 (.slice l7 (V.length+1) l8) (V.length+1) ((V++[nm]).map Value.string):=by rw[List.map_append];exact hown5
 have hP:=puts (i:=1) kM hne hb1 hown6 bF wY;clear lG wY hown5 hown6 bF Ee c56 f56 m1;generalize w5.setCell ⟨mb,1,none⟩ (.slice l7 (V.length+1) l8)=w6 at hP;have k6:=hP.blk;have d0:w6.drew.cell? ⟨mb,0,none⟩=some (.slice ta nT tc):=k6.drew.cell 0;have d1:w6.drew.cell? ⟨mb,1,none⟩=some (.slice l7 (V.length+1) l8):=k6.drew.cell 1;have hPd:=hP.drew;have d2:w6.cell? ⟨mb,0,none⟩=some (.slice ta nT tc):=k6.cell 0;have d3:w6.cell? ⟨mb,1,none⟩=some (.slice l7 (V.length+1) l8):=k6.cell 1;clear kM oN hb1 k6 hP
 go_region
 all_goals
  go_wp2_with fail;go_ret;exact⟨by go_num,_,hPd⟩
end Go.Proofs.YtagkodkijkpemaaGreatDoor
namespace Go.Proofs
open Go.Shelf
def Tryz.afl:Go.Shelf.Ren:=⟨fun | 171=>126 | 243=>162 | 246=>179 | 283=>194 | 284=>195 | 285=>196 | 286=>197 | 129=>191 | 317=>205 | 318=>206 | 319=>207 | 320=>208 | 337=>210 | 338=>141 | n=>n,fun | 3=>3 | 9=>9 | 2=>2 | 4=>4 | 171=>331 | 0=>0 | 53=>277 | 37=>112 | 5=>5 | 173=>333 | 212=>343 | 51=>82 | 20=>20 | 213=>344 | 46=>135 | 232=>347 | 233=>311 | n=>n,fun | 17=>3 | 18=>4 | 19=>2 | n=>n⟩
theorem Tryz.ajq:Go.Proofs.LaysM.n171 prog Tryz.afl:={
 mixed:=by kernel_rfl
 f129:=func191.trans (congrArg some (by kernel_rfl))
 f171:=func126.trans (congrArg some (by kernel_rfl))
 f243:=func162.trans (congrArg some (by kernel_rfl))
 f246:=func179.trans (congrArg some (by kernel_rfl))
 f283:=func194.trans (congrArg some (by kernel_rfl))
 f284:=func195.trans (congrArg some (by kernel_rfl))
 f285:=func196.trans (congrArg some (by kernel_rfl))
 f286:=func197.trans (congrArg some (by kernel_rfl))
 f317:=func205.trans (congrArg some (by kernel_rfl))
 f318:=func206.trans (congrArg some (by kernel_rfl))
 f319:=func207.trans (congrArg some (by kernel_rfl))
 f320:=func208.trans (congrArg some (by kernel_rfl))
 f337:=func210.trans (congrArg some (by kernel_rfl))
 f338:=func141.trans (congrArg some (by kernel_rfl))
 t0:=underlying0
 a0:=Tryz.isAgg0
 z0:=Tryz.sizeOf0
 v0:=Tryz.zeroValue0
 t2:=underlying2
 a2:=Tryz.isAgg2
 z2:=Tryz.sizeOf2
 v2:=Tryz.zeroValue2
 t3:=underlying3
 a3:=Tryz.isAgg3
 z3:=Tryz.sizeOf3
 v3:=Tryz.zeroValue3
 t4:=underlying4
 a4:=Tryz.isAgg4
 z4:=Tryz.sizeOf4
 v4:=Tryz.zeroValue4
 t5:=underlying5
 a5:=Tryz.isAgg5
 z5:=Tryz.sizeOf5
 v5:=Tryz.zeroValue5
 t9:=underlying9
 a9:=Tryz.isAgg9
 z9:=Tryz.sizeOf9
 v9:=Tryz.zeroValue9
 t20:=underlying20
 a20:=Tryz.isAgg20
 z20:=Tryz.sizeOf20
 v20:=Tryz.zeroValue20
 t37:=underlying112
 a37:=Tryz.isAgg112
 z37:=Tryz.sizeOf112
 v37:=Tryz.zeroValue112
 t46:=underlying135
 a46:=Tryz.isAgg135
 z46:=Tryz.sizeOf135
 v46:=Tryz.zeroValue135
 t51:=underlying82
 a51:=Tryz.isAgg82
 z51:=Tryz.sizeOf82
 v51:=Tryz.zeroValue82
 t53:=underlying277
 a53:=Tryz.isAgg277
 z53:=Tryz.sizeOf277
 v53:=Tryz.zeroValue277
 t171:=underlying331
 a171:=Tryz.isAgg331
 z171:=Tryz.sizeOf331
 v171:=Tryz.zeroValue331
 t173:=underlying333
 a173:=Tryz.isAgg333
 z173:=Tryz.sizeOf333
 v173:=Tryz.zeroValue333
 t212:=underlying343
 a212:=Tryz.isAgg343
 z212:=Tryz.sizeOf343
 v212:=Tryz.zeroValue343
 t213:=underlying344
 a213:=Tryz.isAgg344
 z213:=Tryz.sizeOf344
 t232:=underlying347
 a232:=Tryz.isAgg347
 z232:=Tryz.sizeOf347
 v232:=Tryz.zeroValue347
 t233:=underlying311
 a233:=Tryz.isAgg311
 z233:=Tryz.sizeOf311
 v233:=Tryz.zeroValue311
 g17:=by kernel_rfl
 g18:=by kernel_rfl
 g19:=by kernel_rfl
 i0:=by kernel_rfl
 i2:=by kernel_rfl
 i3:=by kernel_rfl
 i4:=by kernel_rfl
 i5:=by kernel_rfl
 i9:=by kernel_rfl
 i20:=by kernel_rfl
 i37:=by kernel_rfl
 i46:=by kernel_rfl
 i51:=by kernel_rfl
 i53:=by kernel_rfl
 i171:=by kernel_rfl
 i173:=by kernel_rfl
 i212:=by kernel_rfl
 i232:=by kernel_rfl
 i233:=by kernel_rfl
 m17:=by kernel_rfl
 m18:=by kernel_rfl
 m19:=by kernel_rfl }
open Go.RowKit Go.Sort Go.Lib in
theorem Tryz.strconv_Itoa (n : Int) (h0 : -9223372036854775808 ≤ n) (h1 : n ≤ 9223372036854775807) (w : World) (htab : Lib.TabIs prog w "internal/strconv.uint64pow10" .u64 Lib.pow10Tab) :
  Calls prog 126 #[.int .i64 n] w fun e w'=>e=.returned (.string ⟨(Lib.itoa n).toArray⟩)/\∃k os,w'=grow (w.drewN k) os:=Any.strconv_Itoa Tryz.ajq n h0 h1 w htab
def Tryz.aeV:Go.Shelf.Ren:=⟨fun | 15=>163 | n=>n,fun | 22=>22 | 3=>3 | 4=>4 | n=>n,fun | n=>n⟩
theorem Tryz.ZL:Go.Proofs.Lays2.n15 prog Tryz.aeV:={
 mixed:=by kernel_rfl
 f15:=func163.trans (congrArg some (by kernel_rfl))
 t3:=underlying3
 a3:=Tryz.isAgg3
 z3:=Tryz.sizeOf3
 v3:=Tryz.zeroValue3
 t4:=underlying4
 a4:=Tryz.isAgg4
 z4:=Tryz.sizeOf4
 v4:=Tryz.zeroValue4
 t22:=underlying22
 a22:=Tryz.isAgg22
 z22:=Tryz.sizeOf22
 v22:=Tryz.zeroValue22
 i3:=by kernel_rfl }
open Go.RowKit Go.Lib in
theorem Tryz.slices_Clone_int(b off n c:Nat)(zs:List Int)(w:World)(hz:n<=zs.length)(hbig:n*8<=140737488355328)(hc:∀j,j<zs.length->w.cell? ⟨b,off+j,none⟩=some (.int .i64 (zs.getD j 0))):
  Calls prog 163 #[.slice (some ⟨b,off,none⟩) n c] w fun e w'=>∃v',e=.returned v'/\w'.ownsRow w.heap.size 3 1 v' n ((zs.take n).map (Value.int .i64))/\v'≠.slice none 0 0/\Below w.heap.size w w':=Any.slices_Clone_int Tryz.ZL b off n c zs w hz hbig hc
open Go.RowKit Go.Lib in
theorem Tryz.slices_Clone_int_nil(n c:Nat)(w:World):
  Calls prog 163 #[.slice none n c] w fun e w'=>e=.returned (.slice none 0 0)/\w'=w:=Any.slices_Clone_int_nil Tryz.ZL n c w
end Go.Proofs
namespace Go.Proofs.YtagkodkijkpemaaGreatDoor
open Lx Go.Proofs.Tryz
open Go.RowKit
open Tr
def fq (w : World) : Prop := Lib.TabIs prog w "internal/strconv.uint64pow10" .u64 Lib.pow10Tab
def r9:Nat:=3
theorem IG : prog.globalNamed "internal/strconv.uint64pow10" = some r9 := by kernel_rfl
theorem fq.move{w w':World}(h:fq w)(hb:w'.heap[r9]?=w.heap[r9]?):fq w':=by
 unfold fq Lib.TabIs World.var? at *;rw[IG]at h|-;simp only[Option.bind_some]at h|-;rw[hb];exact h
theorem fq.lt{w:World}(h:fq w):r9<w.heap.size:=by
 unfold fq Lib.TabIs World.var? at h;rw[IG]at h;simp only[Option.bind_some]at h;rcases Nat.lt_or_ge r9 w.heap.size with h'|h'
 ·exact h'
 ·rw[Array.getElem?_eq_none h']at h;cases h
theorem ajr{w:World}(h:fq w)(n:Nat)(hn:n<=100000):Calls prog 126 #[.int .i64 (n:Int)] w fun e w'=>e=.returned (.string (FY n))/\Below w.heap.size w w':=by
 refine(Tryz.strconv_Itoa (n:Int) (by omega) (by omega) w h).mono ?_;rintro e w'⟨rfl,k,os,rfl⟩;refine⟨?_,Lib.below_grow _ _ (zL0) _ _⟩;have:Lib.itoa (n:Int)=Lib.decDigits n:=by unfold Lib.itoa;rw[if_neg (by omega),Int.toNat_natCast]
 rw[this];rfl
structure Nm(D:Nat->Prop)(w:World)(mb H:Nat)(ta:Option Addr)(nT tc:Nat)(vP vB vK vS:Value)(N:List ByteArray)(G:Nat->Prop)(f:Addr->Int):Prop where
 ex:∃vN,aj w mb #[.slice ta nT tc,vN,vP,vB,vK,vS,.map (some H)] 198/\w.ownsRow 0 9 1 vN N.length (N.map Value.string)/\(∀g,vN.ownBlock=some g->¬D g/\g≠mb/\g≠H)
 pm:tH G w H f
 nm:¬D mb
 nH:¬D H
 ne:mb≠H
 lt:∀g,D g->g<w.heap.size
section
variable {D G:Nat -> Prop} {w w':World} {mb H:Nat} {ta:Option Addr} {nT tc:Nat} {vP vB vK vS:Value} {N:List ByteArray} {f:Addr -> Int}
theorem Nm.lm(h:Nm D w mb H ta nT tc vP vB vK vS N G f):mb<w.heap.size:=by
 obtain⟨vN,h1,-⟩:=h.ex;exact h1.lt
theorem Nm.other(h:Nm D w mb H ta nT tc vP vB vK vS N G f)(hk:∀g,g<w.heap.size->¬D g->w'.heap[g]?=w.heap[g]?)(hs:w.heap.size<=w'.heap.size):Nm D w' mb H ta nT tc vP vB vK vS N G f:=by
 obtain⟨⟨vN,h1,h2,h3⟩,e1,e2,e3,e4,e5⟩:=h;exact⟨⟨vN,(hk _ h1.lt e2).trans h1,aC h2 fun g hg=>hk g (h2.lt g hg).2 (h3 g hg).1,h3⟩,e1.move (hk _ (dm.lt e1) e3),e2,e3,e4,fun g hg=>Nat.lt_of_lt_of_le (e5 g hg) hs⟩
theorem Nm.below(h:Nm D w mb H ta nT tc vP vB vK vS N G f)(hb:Below w.heap.size w w'):Nm D w' mb H ta nT tc vP vB vK vS N G f/\Kp D w w':=⟨h.other (fun g hg _=>hb.block g hg) hb.size,Kp.below hb h.lt⟩
theorem Nm.named{nm:ByteArray}{vN v3:Value}(h:Nm D w mb H ta nT tc vP vB vK vS N G f)(hb:aj w mb #[.slice ta nT tc,vN,vP,vB,vK,vS,.map (some H)] 198)(p:Puts 198 9 1 w mb 1 vN (N.length+1) ((N++[nm]).map Value.string) #[.slice ta nT tc,vN,vP,vB,vK,vS,.map (some H)] v3 w'):Nm D w' mb H ta nT tc vP vB vK vS (N++[nm]) G f/\Kp D w w':=by
 obtain⟨⟨uN,h1,h2,h3⟩,e1,e2,e3,e4,e5⟩:=h;unfold aj at hb h1;rw[hb]at h1;obtain⟨⟩:=h1;have lH:H<w.heap.size:=dm.lt e1;have hn:vN.ownBlock≠some H:=fun e=>(h3 H e).2.2 rfl
 refine⟨⟨⟨v3,p.blk,by rw[List.length_append];exact p.row,fun g hg=>?_⟩,e1.move (p.keep H lH (fun e=>e4 e.symm) hn),e2,e3,e4,fun g hg=>Nat.lt_of_lt_of_le (e5 g hg) p.size⟩,⟨p.os,p.tape,p.output,p.size,fun g hg=>p.keep g (e5 g hg) (fun e=>e2 (e▸hg)) (fun e=>(h3 g e).1 hg)⟩⟩;rcases p.at_ g hg with h'|h'
 ·exact h3 g h'
 ·exact⟨fun hd=>by have:=e5 g hd;omega,fun e=>p.ne (e▸hg),fun e=>by omega⟩
theorem Nm.am1{f':Addr->Int}(h:Nm D w mb H ta nT tc vP vB vK vS N G f)(hm:tH G w' H f')(hg:w.grownBy w' (some H)):Nm D w' mb H ta nT tc vP vB vK vS N G f'/\Kp D w w':=by
 obtain⟨⟨vN,h1,h2,h3⟩,e1,e2,e3,e4,e5⟩:=h;have hb:∀g,g<w.heap.size->g≠H->w'.heap[g]?=w.heap[g]?:=fun g hl hn=>hg.block g hl fun e=>hn (Option.some.inj e)
 exact⟨⟨⟨vN,(hb _ h1.lt e4).trans h1,aC h2 fun g hg=>hb g (h2.lt g hg).2 (h3 g hg).2.2,h3⟩,hm,e2,e3,e4,fun g hd=>Nat.lt_of_lt_of_le (e5 g hd) hg.size⟩,⟨hg.os,hg.tape,hg.output,hg.size,fun g hd=>hb g (e5 g hd) fun e=>e3 (e▸hd)⟩⟩
end
def hNames(nm:ByteArray)(n:Nat):List ByteArray:=(List.range n).map fun k=>Lx.hName nm (k+1)
theorem afV(nm:ByteArray)(n:Nat):hNames nm (n+1)=hNames nm n++[Lx.hName nm (n+1)]:=by unfold hNames;rw[List.range_succ,List.map_append];rfl
theorem QT(nm:ByteArray)(n:Nat):(hNames nm n).length=n:=by simp[hNames]
def BL(b:Nat)(L:List AI)(f f':Addr->Int):Prop:=(∀a,(∀p∈L,p.1≠a)->f' a=f a)/\∀k p,L[k]?=some p->f' p.1=((b+k:Nat):Int)
theorem BL.push{b:Nat}{L:List AI}{f f':Addr->Int}(h:BL b L f f'){p:AI}(hn:((L++[p]).map Prod.fst).Nodup):BL b (L++[p]) f (fun c=>if c=p.1 then ((b+L.length:Nat):Int) else f' c):=by
 rw[List.map_append,List.nodup_append]at hn;have hne:∀q∈L,q.1≠p.1:=fun q hq=>hn.2.2 _ (List.mem_map.2 ⟨q,hq,rfl⟩) _ (by simp)
 refine⟨fun a ha=>?_,fun k q hq=>?_⟩
 ·have h1:a≠p.1:=fun e=>ha p (by simp) e.symm
  simp only[if_neg h1];exact h.1 a fun q hq=>ha q (by simp[hq])
 ·rw[List.getElem?_append]at hq
  split at hq
  ·rename_i hk
   simp only[if_neg (hne q (List.mem_of_getElem? hq))];exact h.2 k q hq
  ·rename_i hk
   obtain⟨hk2,rfl⟩:=List.getElem?_eq_some_iff.1 hq;simp only[List.length_singleton]at hk2;have:k=L.length:=by omega
   subst this;simp
end Go.Proofs.YtagkodkijkpemaaGreatDoor

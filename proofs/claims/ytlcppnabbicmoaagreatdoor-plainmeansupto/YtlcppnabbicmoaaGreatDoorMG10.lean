import Derived.Test.YtlcppnabbicmoaaGreatDoorMG09
set_option maxHeartbeats 8000000
set_option maxRecDepth 1000000
namespace Go.Proofs.YtlcppnabbicmoaaGreatDoor
open Lx Go.Proofs.Tryz
open Go.RowKit Tr
theorem aeP {P:Program} {w:World} {tp te:TypeId} {j:TypeInfo} {a b:Addr} (hp:P.underlying tp=some (.pointer te)) (hte:P.info? te=some j) (hsz:j.size≠0) (ha:je w a.block) (hb:je w b.block) :
  (Op.equal tp (.pointer (some a)) (.pointer (some b))).run P w=.ok (decide (a=b)) w:=by
 obtain⟨ca,ta,ha⟩:=ha;obtain⟨cb,tb,hb⟩:=hb
 by_cases hab:a=b
 ·subst hab
  have h:∀ d:Nat,(Op.equalIn (d+1) tp (.pointer (some a)) (.pointer (some a))).run P w=.ok true w:=fun d=>by
   simp[Op.equalIn,run_underlying hp,sizeOf,typeInfo,hte,run_sameAddr_same]
  simp[Op.equal,Op.maxDepth,h 9999]
 ·have h:∀ d:Nat,(Op.equalIn (d+1) tp (.pointer (some a)) (.pointer (some b))).run P w=.ok false w:=fun d=>by
   simp[Op.equalIn,run_underlying hp,sizeOf,typeInfo,hte,hsz,run_sameAddr_other w hab ha hb]
  simp[Op.equal,Op.maxDepth,h 9999,hab]
def mU (a:Addr):Value:=.pointer (some a)
theorem YB {P:Program} {w:World} {tp te:TypeId} {j:TypeInfo} {a:Addr} (hp:P.underlying tp=some (.pointer te)) (hte:P.info? te=some j) (hsz:j.size≠0) (ha:je w a.block):∀ (l:List MapEntry) (i:Nat),(∀ x∈l,∃ c,x.key=mU c/\je w c.block) ->
  ((Instr.findAsking tp (mU a) l i).run P w=.ok none w/\∀ (x:MapEntry),x∈l->x.key≠mU a)\/∃ (k:Nat) (e:MapEntry),(Instr.findAsking tp (mU a) l i).run P w=.ok (some (i+k,e.val)) w/\l[k]?=some e/\e.key=mU a
 | [],i,_=>.inl ⟨by simp[Instr.findAsking],fun x h=>(by cases h)⟩
 | x::l,i,h=>by
  obtain⟨c,hc,hcb⟩:=h x List.mem_cons_self;have he:=aeP (w:=w) hp hte hsz ha hcb
  by_cases hac:a=c
  ·subst hac
   refine .inr ⟨0,x,?_,rfl,hc⟩;have he':(Op.equal tp (mU a) x.key).run P w=.ok true w:=by rw[hc];simpa [mU]using he
   simp[Instr.findAsking,he',Result.andThen]
  ·have he':(Op.equal tp (mU a) x.key).run P w=.ok false w:=by rw[hc];simpa [mU,hac]using he
   rcases YB hp hte hsz ha l (i+1) (fun y hy=>h y (List.mem_cons_of_mem _ hy)) with ⟨h1,h2⟩ | ⟨k,e,h1,h2,h3⟩
   ·refine .inl ⟨?_,fun y hy=>?_⟩
    ·simp[Instr.findAsking,he',h1,Result.andThen]
    ·rcases List.mem_cons.1 hy with rfl | hy
     ·rw[hc];intro e;unfold mU at e;cases e;exact hac rfl
     ·exact h2 y hy
   ·refine .inr ⟨k+1,e,?_,by simpa using h2,h3⟩
    rw[show i+(k+1)=i+1+k by omega];simp[Instr.findAsking,he',h1,Result.andThen]
theorem aja {P:Program} {tp te:TypeId} {j:TypeInfo} (hp:P.underlying tp=some (.pointer te)) (hte:P.info? te=some j) (hsz:j.size≠0):Fb P tp mU (fun w a=>je w a.block) where
 inj a b h:=by unfold mU at h;cases h;rfl
 check em w a:=by
  have h:∀ n:Nat,(Instr.checkKey em (n+1) tp (mU a)).run P w=.ok () w:=fun n=>by
   simp[Instr.checkKey,run_underlying hp,mU]
  exact h 9999
 find w a l ha hl:=by
  cases l with
  | nil=>exact .inl ⟨by simp[Instr.findKey,Instr.findNow,run_underlying hp],fun x h=>(by cases h)⟩
  | cons x l =>
   have e0:Instr.findNow (.pointer te) (mU a) (x::l) 0=none:=by
    unfold Instr.findNow mU Instr.sameNow;rfl
   have h1:=YB hp hte hsz ha (x::l) 0 hl;have e1:(Instr.findKey tp (mU a) (x::l)).run P w=(Instr.findAsking tp (mU a) (x::l) 0).run P w:=by
    simp[Instr.findKey,run_underlying hp,e0]
   rw[e1];rcases h1 with h1 | ⟨k,e,h1,h2,h3⟩
   ·exact .inl h1
   ·rw[Nat.zero_add]at h1
    exact .inr ⟨k,e,h1,h2,h3⟩
 stays w a:=by simp[Instr.keyThatStays,Instr.sameBits,mU]
theorem Tryz.ah7:prog.underlying 185=some (.pointer 187):=by kernel_rfl
theorem Tryz.ZL:prog.underlying 123=some (.map 185 3):=by kernel_rfl
theorem Tryz.ah8:(prog.info? 187).map (fun i=>i.size)=some 4:=by kernel_rfl
theorem Tryz.aaJ:Fb prog 185 mU (fun w a=>je w a.block):=by
 have h:=Tryz.ah8;cases hi:prog.info? 187 with
 | none=>rw[hi]at h;cases h
 | some j =>
  rw[hi]at h;have hj:j.size=4:=by simpa using h
  exact aja Tryz.ah7 hi (by omega)
def sV (G:Nat->Prop)(w:World)(B:Nat)(f:Addr->Int):Prop:=iT mU (fun a=>G a.block) w B f
theorem sV.look {G:Nat->Prop}{w:World}{B:Nat}{f:Addr->Int}(h:sV G w B f)(hG:∀ b,G b->je w b){a:Addr}(ha:G a.block):(Instr.lookup 123 (.map (some B)) (.pointer (some a)) false).run prog w=.ok (.int .i64 (f a)) w:=iT.look Tryz.aaJ Tryz.ZL Tryz.aai (fun _ ha=>hG _ ha) h ha
theorem sV.put {G:Nat->Prop}{w:World}{B:Nat}{f:Addr->Int}(h:sV G w B f)(hG:∀ b,G b->je w b){a:Addr}(ha:G a.block)(v:Int):∃ w',(Instr.mapUpdate 123 (.map (some B)) (.pointer (some a)) (.int .i64 v)).run prog w=.ok () w'/\sV G w' B (fun c=>if c=a then v else f c)/\w.grownBy w' (some B)/\w'.heap.size=w.heap.size:=iT.put Tryz.aaJ Tryz.ZL (fun _ ha=>hG _ ha) h ha v
structure o7 (w:World) (n m:Nat) (it:Lx.It):Prop where
 kind:w.cell? ⟨n,m*4,none⟩=some (.int .i64 (it.kind:Int))
 name:w.cell? ⟨n,m*4+1,none⟩=some (.string it.name)
 mark:w.cell? ⟨n,m*4+2,none⟩=some (.int .u8 (it.mark:Int))
def K9 (d:Nat):Prop:=∀ (nw nv:Nat) (caps:Array Value) (wd:Lx.It->Bool) (F:Nat->Prop) (w0:World) (I:List AI->World->Prop) (Q:AI->Prop),
 (∀ (ar:Array Value) (w:World),(callFunc nw ar).run prog w=.ok (.enter nw ar) w)->(∀ (ar:Array Value) (w:World),(callFunc nv ar).run prog w=.ok (.enter nv ar) w) ->
 (∀ (w':World) (n m:Nat) (it:Lx.It),F n->o7 w' n m it->Calls prog nw #[.pointer (some ⟨n,m*4,none⟩)] w' fun e w''=>e=.returned (.bool (wd it))/\w''=w') ->
 (∀ (w':World) (L:List AI) (n m:Nat) (it:Lx.It),I L w'->F n->o7 w' n m it->wd it=true->Q (⟨n,m*4,none⟩,it)->Calls prog nv (#[.pointer (some ⟨n,m*4,none⟩)]++caps) w' fun e w''=>e=.returned (.tuple #[])/\I (L++[(⟨n,m*4,none⟩,it)]) w'') ->
 (∀ (L:List AI) (w':World),I L w'->∀ b,F b->w'.heap[b]?=w0.heap[b]?) ->
 ∀ (v:Value) (l:List Lx.Alt),ay YP d F w0 v l->(∀ p∈aT d w0 v l,Q p)->∀ (w:World) (L:List AI),I L w ->
 Calls prog 94 #[v,.func (.func nw) #[] #[],.func (.func nv) #[] caps] w fun e w'=>e=.returned (.tuple #[])/\I (L++(aT d w0 v l).filter fun p=>wd p.2) w'
theorem ag7:K9 0:=by
 intro nw nv caps wd F w0 I Q hcw hcv hw hv hf v l hl hq w L hI;obtain⟨rfl,rfl⟩:=hl;go_enter func94,ntmps94;go_wp2_with fail
 go_loopg [11] 0 (fun k i wr=>k=0/\i=.int .i64 0/\wr=w)
 case atStart=>exact⟨rfl,rfl,rfl⟩
 case round =>
  obtain⟨rfl,rfl,rfl⟩:=hrel;go_wp2_with fail
  go_end0
  refine⟨rfl,?_⟩;rw[show aT 0 w0 (.slice none 0 0) []=[] from rfl,List.filter_nil,List.append_nil];exact hI
theorem ag8 {d:Nat}(IH:K9 d):K9 (d+1):=by
 intro nw nv caps wd F w0 I Q hcw hcv hw hv hf v l hl hq w L hI;obtain⟨va,vc,hvv,hm⟩:=ay.len hl;subst hvv;unfold maxLen at hm;obtain⟨T,hT⟩:∃ T,T=L++(aT (d+1) w0 (.slice va l.length vc) l).filter (fun p=>wd p.2):=⟨_,rfl⟩;rw[<-hT];go_enter func94,ntmps94;go_wp2_with fail;have e0:aT (d+1) w0 (.slice va l.length vc) l=eu (aT d w0) w0 (aZ (.slice va l.length vc)) 0 (l.drop 0):=rfl;have H0:Hid (T=L++(eu (aT d w0) w0 (aZ (.slice va l.length vc)) 0 (l.drop 0)).filter (fun p=>wd p.2)):=by show _=_;rw[hT,e0]
 rw[e0]at hq;clear e0;clear hT
 go_loopg [11] l.length (fun k i wr=>∃ (j:Nat) (L':List AI),j+k=l.length/\i=.int .i64 j/\I L' wr/\(∀ p∈eu (aT d w0) w0 (aZ (.slice va l.length vc)) j (l.drop j),Q p)/\Hid (T=L'++(eu (aT d w0) w0 (aZ (.slice va l.length vc)) j (l.drop j)).filter (fun p=>wd p.2)))
 case atStart=>exact⟨0,L,by omega,rfl,hI,hq,H0⟩
 case round =>
  clear H0 hq hI;revert wr;intro wz hrel;obtain⟨j,L1,hk,rfl,hz,hqz,HZ⟩:=hrel
  by_cases hlt:j<l.length
  ·obtain⟨gb,cap,vi,hvv,hg,hi,hc⟩:=Seq.at hl (fun _=>rfl) hlt
   cases hvv;have hz2:=HZ.out;have ec:cv w0 ⟨gb,j*2,none⟩=vi:=by unfold cv;rw[show w0.cell? ⟨gb,j*2,none⟩=some vi from hc 0 (by decide)];rfl
   rw[VY hlt,show aZ (.slice (some ⟨gb,0,none⟩) l.length vc)=gb from rfl,ec]at hz2 hqz;generalize l[j]=x at hi hc hz2 hqz;obtain⟨its,prec,pa⟩:=x;have hi':bJ YP d F w0 vi its:=hi;obtain⟨ia,ic,iF,him⟩:=Seq.len hi;subst iF;unfold maxLen at him;have c0:wz.cell? ⟨gb,j*2,none⟩=some (.slice ia its.length ic):=(World.cell?_of_block (w:=w0) (hf _ _ hz gb hg)).trans (hc 0 (by decide));have HZ2:Hid (T=L1++(eY (aT d w0) w0 (aZ (.slice ia its.length ic)) 0 (its.drop 0)++eu (aT d w0) w0 gb (j+1) (l.drop (j+1))).filter (fun p=>wd p.2)):=hz2;have Ih:∀ p∈eY (aT d w0) w0 (aZ (.slice ia its.length ic)) 0 (its.drop 0)++eu (aT d w0) w0 gb (j+1) (l.drop (j+1)),Q p:=hqz;clear hc hz2 HZ hqz ec hi;go_wp2_with fail
   go_loopg [21] its.length (fun k i wr=>∃ (m:Nat) (L':List AI),m+k=its.length/\i=.int .i64 m/\I L' wr/\(∀ p∈eY (aT d w0) w0 (aZ (.slice ia its.length ic)) m (its.drop m)++eu (aT d w0) w0 gb (j+1) (l.drop (j+1)),Q p)/\Hid (T=L'++(eY (aT d w0) w0 (aZ (.slice ia its.length ic)) m (its.drop m)++eu (aT d w0) w0 gb (j+1) (l.drop (j+1))).filter (fun p=>wd p.2)))
   case atStart=>exact⟨0,L1,by omega,rfl,hz,Ih,HZ2⟩
   case round =>
    clear HZ2 Ih hz c0;obtain⟨m,L2,hkm,rfl,hr,hqr,HR⟩:=hrel
    by_cases bF:m<its.length
    ·have hir:=hi'
     unfold bJ nV at hir;obtain⟨n,rP,va,hvv,hn,ha,hcc⟩:=Seq.at hir (fun _=>rfl) bF;cases hvv;have hr2:=HR.out;have ec:cv w0 ⟨n,m*4+3,none⟩=va:=by unfold cv;rw[show w0.cell? ⟨n,m*4+3,none⟩=some va from hcc 3 (by decide)];rfl
     rw[Vq bF,show aZ (.slice (some ⟨n,0,none⟩) its.length ic)=n from rfl,ec]at hr2 hqr;generalize its[m]=it at ha hcc hr2 hqr;obtain⟨sa,sc,hva,-⟩:=ay.len ha;subst hva;have en:wr.heap[n]?=w0.heap[n]?:=hf _ _ hr n hn;have hia:o7 wr n m it:=⟨(World.cell?_of_block (w:=w0) en).trans (hcc 0 (by decide)),(World.cell?_of_block (w:=w0) en).trans (hcc 1 (by decide)),(World.cell?_of_block (w:=w0) en).trans (hcc 2 (by decide))⟩;have SE:Q (⟨n,m*4,none⟩,it):=hqr _ (by simp);have I6:∀ p∈aT d w0 (.slice sa it.alts.length sc) it.alts,Q p:=fun p hp=>hqr p (by simp[hp])
     have I7:∀ p∈eY (aT d w0) w0 n (m+1) (its.drop (m+1))++eu (aT d w0) w0 gb (j+1) (l.drop (j+1)),Q p:=fun p hp=>hqr p (by
      rcases List.mem_append.1 hp with hp | hp
      ·simp[hp]
      ·simp[hp])
     clear hqr hir HR ec;go_wp2_with fail;refine (hw wr n m it hn hia).mono ?_;rintro e w1 ⟨rfl,hw1⟩;obtain rfl:=hw1.symm;cases hwd:wd it with
     | true =>
      have HWD:Hid (wd it=true):=hwd;have hr3:T=(L2++[(⟨n,m*4,none⟩,it)])++((aT d w0 (.slice sa it.alts.length sc) it.alts).filter (fun p=>wd p.2)++(eY (aT d w0) w0 n (m+1) (its.drop (m+1))++eu (aT d w0) w0 gb (j+1) (l.drop (j+1))).filter (fun p=>wd p.2)):=by
       rw[hr2];simp[hwd,List.append_assoc]
      have HR3:Hid _:=hr3;have q1:=hv wr L2 n m it hr hn hia hwd SE;clear hr2 hr3 hwd;go_wp2_with fail;refine q1.mono ?_;rintro e w2 ⟨rfl,hI2⟩;have SF:w2.heap[n]?=w0.heap[n]?:=hf _ _ hI2 n hn;have y3:w2.cell? ⟨n,m*4+3,none⟩=some (.slice sa it.alts.length sc):=(World.cell?_of_block (w:=w0) SF).trans (hcc 3 (by decide));go_wp2_with fail;refine (IH nw nv caps wd F w0 I Q hcw hcv hw hv hf _ _ ha I6 w2 _ hI2).mono ?_;rintro e w3 ⟨rfl,Dj⟩;have HR4:Hid _:=HR3.out;rw[<-List.append_assoc]at HR4;go_wp2_with fail;go_roundg (its.length - (m+1))
      case measure=>omega
      case rel=>exact⟨m+1,_,by omega,by go_num,Dj,I7,HR4⟩
     | false =>
      have hr3:T=L2++((aT d w0 (.slice sa it.alts.length sc) it.alts).filter (fun p=>wd p.2)++(eY (aT d w0) w0 n (m+1) (its.drop (m+1))++eu (aT d w0) w0 gb (j+1) (l.drop (j+1))).filter (fun p=>wd p.2)):=by
       rw[hr2];simp[hwd,List.append_assoc]
      have HR3:Hid _:=hr3;clear hr2 hr3 hwd;have y3:wr.cell? ⟨n,m*4+3,none⟩=some (.slice sa it.alts.length sc):=(World.cell?_of_block (w:=w0) en).trans (hcc 3 (by decide));go_wp2_with fail;refine (IH nw nv caps wd F w0 I Q hcw hcv hw hv hf _ _ ha I6 wr _ hr).mono ?_;rintro e w3 ⟨rfl,Dj⟩;have HR4:Hid _:=HR3.out;rw[<-List.append_assoc]at HR4;go_wp2_with fail;go_roundg (its.length - (m+1))
      case measure=>omega
      case rel=>exact⟨m+1,_,by omega,by go_num,Dj,I7,HR4⟩
    ·have:m=its.length:=by omega
     subst this;have hr2:=HR.out;rw[List.drop_length,eY,List.nil_append]at hr2 hqr;have HR2:Hid _:=hr2;clear hr2 HR;go_wp2_with fail;go_roundg (l.length - (j+1))
     case measure=>omega
     case rel=>exact⟨j+1,L2,by omega,by go_num,hr,hqr,HR2⟩
  ·have:j=l.length:=by omega
   subst this;have hz2:=HZ.out;rw[List.drop_length,eu,List.filter_nil,List.append_nil]at hz2;have HZ2:Hid _:=hz2;clear hz2 HZ;go_wp2_with fail
   go_end0
   refine⟨rfl,?_⟩;rw[HZ2.out];exact hz
theorem Zg:∀ d,K9 d
 | 0=>ag7
 | d+1=>ag8 (Zg d)
def Lj (d:Nat):Prop:=∀ (nw nv:Nat) (fst caps:Array Value) (wd:Lx.It->Bool) (F:Nat->Prop) (w0:World) (I:List AI->World->Prop) (Q:AI->Prop) (Dk:List AI),
 (∀ (ar:Array Value) (w:World),(callFunc nw ar).run prog w=.ok (.enter nw ar) w)->(∀ (ar:Array Value) (w:World),(callFunc nv ar).run prog w=.ok (.enter nv ar) w) ->
 (∀ (w':World) (n m:Nat) (it:Lx.It),F n->o7 w' n m it->Calls prog nw #[.pointer (some ⟨n,m*4,none⟩)] w' fun e w''=>e=.returned (.bool (wd it))/\w''=w') ->
 (∀ (w':World) (L:List AI) (n m:Nat) (it:Lx.It),I L w'->F n->o7 w' n m it->wd it=true->Q (⟨n,m*4,none⟩,it)->(∃ R,Dk=L++((⟨n,m*4,none⟩,it)::R))->Calls prog nv (fst++#[.pointer (some ⟨n,m*4,none⟩)]++caps) w' fun e w''=>e=.returned (.tuple #[])/\I (L++[(⟨n,m*4,none⟩,it)]) w'') ->
 (∀ (L:List AI) (w':World),I L w'->∀ b,F b->w'.heap[b]?=w0.heap[b]?) ->
 ∀ (v:Value) (l:List Lx.Alt),ay YP d F w0 v l->(∀ p∈aT d w0 v l,Q p)->∀ (w:World) (L:List AI),I L w->(∃ R,Dk=(L++(aT d w0 v l).filter fun p=>wd p.2)++R) ->
 Calls prog 94 #[v,.func (.func nw) #[] #[],.func (.func nv) fst caps] w fun e w'=>e=.returned (.tuple #[])/\I (L++(aT d w0 v l).filter fun p=>wd p.2) w'
theorem agb:Lj 0:=by
 intro nw nv fst caps wd F w0 I Q Dk hcw hcv hw hv hf v l hl hq w L hI Fe;obtain⟨rfl,rfl⟩:=hl;go_enter func94,ntmps94;go_wp2_with fail
 go_loopg [11] 0 (fun k i wr=>k=0/\i=.int .i64 0/\wr=w)
 case atStart=>exact⟨rfl,rfl,rfl⟩
 case round =>
  obtain⟨rfl,rfl,rfl⟩:=hrel;go_wp2_with fail
  go_end0
  refine⟨rfl,?_⟩;rw[show aT 0 w0 (.slice none 0 0) []=[] from rfl,List.filter_nil,List.append_nil];exact hI
theorem agc {d:Nat}(IH:Lj d):Lj (d+1):=by
 intro nw nv fst caps wd F w0 I Q Dk hcw hcv hw hv hf v l hl hq w L hI Fe;obtain⟨va,vc,hvv,hm⟩:=ay.len hl;subst hvv;unfold maxLen at hm;obtain⟨T,hT⟩:∃ T,T=L++(aT (d+1) w0 (.slice va l.length vc) l).filter (fun p=>wd p.2):=⟨_,rfl⟩;rw[<-hT]at Fe |-;obtain⟨R0,Fe⟩:=Fe;have Q6:Hid (Dk=T++R0):=Fe;clear Fe;go_enter func94,ntmps94;go_wp2_with fail;have e0:aT (d+1) w0 (.slice va l.length vc) l=eu (aT d w0) w0 (aZ (.slice va l.length vc)) 0 (l.drop 0):=rfl;have H0:Hid (T=L++(eu (aT d w0) w0 (aZ (.slice va l.length vc)) 0 (l.drop 0)).filter (fun p=>wd p.2)):=by show _=_;rw[hT,e0]
 rw[e0]at hq;clear e0;clear hT
 go_loopg [11] l.length (fun k i wr=>∃ (j:Nat) (L':List AI),j+k=l.length/\i=.int .i64 j/\I L' wr/\(∀ p∈eu (aT d w0) w0 (aZ (.slice va l.length vc)) j (l.drop j),Q p)/\Hid (T=L'++(eu (aT d w0) w0 (aZ (.slice va l.length vc)) j (l.drop j)).filter (fun p=>wd p.2)))
 case atStart=>exact⟨0,L,by omega,rfl,hI,hq,H0⟩
 case round =>
  clear H0 hq hI;revert wr;intro wz hrel;obtain⟨j,L1,hk,rfl,hz,hqz,HZ⟩:=hrel
  by_cases hlt:j<l.length
  ·obtain⟨gb,cap,vi,hvv,hg,hi,hc⟩:=Seq.at hl (fun _=>rfl) hlt
   cases hvv;have hz2:=HZ.out;have ec:cv w0 ⟨gb,j*2,none⟩=vi:=by unfold cv;rw[show w0.cell? ⟨gb,j*2,none⟩=some vi from hc 0 (by decide)];rfl
   rw[VY hlt,show aZ (.slice (some ⟨gb,0,none⟩) l.length vc)=gb from rfl,ec]at hz2 hqz;generalize l[j]=x at hi hc hz2 hqz;obtain⟨its,prec,pa⟩:=x;have hi':bJ YP d F w0 vi its:=hi;obtain⟨ia,ic,iF,him⟩:=Seq.len hi;subst iF;unfold maxLen at him;have c0:wz.cell? ⟨gb,j*2,none⟩=some (.slice ia its.length ic):=(World.cell?_of_block (w:=w0) (hf _ _ hz gb hg)).trans (hc 0 (by decide));have HZ2:Hid (T=L1++(eY (aT d w0) w0 (aZ (.slice ia its.length ic)) 0 (its.drop 0)++eu (aT d w0) w0 gb (j+1) (l.drop (j+1))).filter (fun p=>wd p.2)):=hz2;have Ih:∀ p∈eY (aT d w0) w0 (aZ (.slice ia its.length ic)) 0 (its.drop 0)++eu (aT d w0) w0 gb (j+1) (l.drop (j+1)),Q p:=hqz;clear hc hz2 HZ hqz ec hi;go_wp2_with fail
   go_loopg [21] its.length (fun k i wr=>∃ (m:Nat) (L':List AI),m+k=its.length/\i=.int .i64 m/\I L' wr/\(∀ p∈eY (aT d w0) w0 (aZ (.slice ia its.length ic)) m (its.drop m)++eu (aT d w0) w0 gb (j+1) (l.drop (j+1)),Q p)/\Hid (T=L'++(eY (aT d w0) w0 (aZ (.slice ia its.length ic)) m (its.drop m)++eu (aT d w0) w0 gb (j+1) (l.drop (j+1))).filter (fun p=>wd p.2)))
   case atStart=>exact⟨0,L1,by omega,rfl,hz,Ih,HZ2⟩
   case round =>
    clear HZ2 Ih hz c0;obtain⟨m,L2,hkm,rfl,hr,hqr,HR⟩:=hrel
    by_cases bF:m<its.length
    ·have hir:=hi'
     unfold bJ nV at hir;obtain⟨n,rP,va,hvv,hn,ha,hcc⟩:=Seq.at hir (fun _=>rfl) bF;cases hvv;have hr2:=HR.out;have ec:cv w0 ⟨n,m*4+3,none⟩=va:=by unfold cv;rw[show w0.cell? ⟨n,m*4+3,none⟩=some va from hcc 3 (by decide)];rfl
     rw[Vq bF,show aZ (.slice (some ⟨n,0,none⟩) its.length ic)=n from rfl,ec]at hr2 hqr;generalize its[m]=it at ha hcc hr2 hqr;obtain⟨sa,sc,hva,-⟩:=ay.len ha;subst hva;have en:wr.heap[n]?=w0.heap[n]?:=hf _ _ hr n hn;have hia:o7 wr n m it:=⟨(World.cell?_of_block (w:=w0) en).trans (hcc 0 (by decide)),(World.cell?_of_block (w:=w0) en).trans (hcc 1 (by decide)),(World.cell?_of_block (w:=w0) en).trans (hcc 2 (by decide))⟩;have SE:Q (⟨n,m*4,none⟩,it):=hqr _ (by simp);have I6:∀ p∈aT d w0 (.slice sa it.alts.length sc) it.alts,Q p:=fun p hp=>hqr p (by simp[hp])
     have I7:∀ p∈eY (aT d w0) w0 n (m+1) (its.drop (m+1))++eu (aT d w0) w0 gb (j+1) (l.drop (j+1)),Q p:=fun p hp=>hqr p (by
      rcases List.mem_append.1 hp with hp | hp
      ·simp[hp]
      ·simp[hp])
     clear hqr hir HR ec;go_wp2_with fail;refine (hw wr n m it hn hia).mono ?_;rintro e w1 ⟨rfl,hw1⟩;obtain rfl:=hw1.symm;cases hwd:wd it with
     | true =>
      have HWD:Hid (wd it=true):=hwd;have hr3:T=(L2++[(⟨n,m*4,none⟩,it)])++((aT d w0 (.slice sa it.alts.length sc) it.alts).filter (fun p=>wd p.2)++(eY (aT d w0) w0 n (m+1) (its.drop (m+1))++eu (aT d w0) w0 gb (j+1) (l.drop (j+1))).filter (fun p=>wd p.2)):=by
       rw[hr2];simp[hwd,List.append_assoc]
      have HR3:Hid _:=hr3;have q1:=hv wr L2 n m it hr hn hia hwd SE ⟨_,by rw[Q6.out,hr3,List.append_assoc,List.append_assoc];rfl⟩;clear hr2 hr3 hwd;go_wp2_with fail;refine q1.mono ?_;rintro e w2 ⟨rfl,hI2⟩;have SF:w2.heap[n]?=w0.heap[n]?:=hf _ _ hI2 n hn;have y3:w2.cell? ⟨n,m*4+3,none⟩=some (.slice sa it.alts.length sc):=(World.cell?_of_block (w:=w0) SF).trans (hcc 3 (by decide));go_wp2_with fail;refine (IH nw nv fst caps wd F w0 I Q Dk hcw hcv hw hv hf _ _ ha I6 w2 _ hI2 ⟨_,by rw[Q6.out,HR3.out,<-List.append_assoc (L2++_),List.append_assoc (_++List.filter _ _)]⟩).mono ?_;rintro e w3 ⟨rfl,Dj⟩;have HR4:Hid _:=HR3.out;rw[<-List.append_assoc]at HR4;go_wp2_with fail;go_roundg (its.length - (m+1))
      case measure=>omega
      case rel=>exact⟨m+1,_,by omega,by go_num,Dj,I7,HR4⟩
     | false =>
      have hr3:T=L2++((aT d w0 (.slice sa it.alts.length sc) it.alts).filter (fun p=>wd p.2)++(eY (aT d w0) w0 n (m+1) (its.drop (m+1))++eu (aT d w0) w0 gb (j+1) (l.drop (j+1))).filter (fun p=>wd p.2)):=by
       rw[hr2];simp[hwd,List.append_assoc]
      have HR3:Hid _:=hr3;clear hr2 hr3 hwd;have y3:wr.cell? ⟨n,m*4+3,none⟩=some (.slice sa it.alts.length sc):=(World.cell?_of_block (w:=w0) en).trans (hcc 3 (by decide));go_wp2_with fail;refine (IH nw nv fst caps wd F w0 I Q Dk hcw hcv hw hv hf _ _ ha I6 wr _ hr ⟨_,by rw[Q6.out,HR3.out,<-List.append_assoc L2,List.append_assoc (_++List.filter _ _)]⟩).mono ?_;rintro e w3 ⟨rfl,Dj⟩;have HR4:Hid _:=HR3.out;rw[<-List.append_assoc]at HR4;go_wp2_with fail;go_roundg (its.length - (m+1))
      case measure=>omega
      case rel=>exact⟨m+1,_,by omega,by go_num,Dj,I7,HR4⟩
    ·have:m=its.length:=by omega
     subst this;have hr2:=HR.out;rw[List.drop_length,eY,List.nil_append]at hr2 hqr;have HR2:Hid _:=hr2;clear hr2 HR;go_wp2_with fail;go_roundg (l.length - (j+1))
     case measure=>omega
     case rel=>exact⟨j+1,L2,by omega,by go_num,hr,hqr,HR2⟩
  ·have:j=l.length:=by omega
   subst this;have hz2:=HZ.out;rw[List.drop_length,eu,List.filter_nil,List.append_nil]at hz2;have HZ2:Hid _:=hz2;clear hz2 HZ;go_wp2_with fail
   go_end0
   refine⟨rfl,?_⟩;rw[HZ2.out];exact hz
theorem PX:∀ d,Lj d
 | 0=>agb
 | d+1=>agc (PX d)
def Kv (d:Nat):Prop:=∀ (F:Nat->Prop) (w:World) (v:Value) (l:List Lx.Alt),ay YR d F w v l->(∀ b,F b->b<w.heap.size)->∀ (X:Nat->Prop) (mb:Nat) (T N:List ByteArray),(∀ b,F b->¬ X b)->jy X w mb T N->T.length+(jb d l).length<=10000 ->
 Calls prog 64 #[.pointer (some ⟨mb,0,none⟩),v] w fun e w'=>e=.returned (.tuple #[])/\∃ X',jy X' w' mb (bQ T (jb d l)) N/\Fr X w X' w'
theorem aft:Kv 0:=by
 intro F w v l hl hL X mb T N hF h hn;obtain⟨rfl,rfl⟩:=hl;go_enter func64,ntmps64;go_wp2_with fail
 go_loopg [4] 0 (fun k i wr=>k=0/\i=.int .i64 0/\wr=w)
 case atStart=>exact⟨rfl,rfl,rfl⟩
 case round =>
  obtain⟨rfl,rfl,rfl⟩:=hrel;go_wp2_with fail
  go_end0
  exact⟨rfl,X,h,Fr.refl _ _⟩
theorem afu {d:Nat}(IH:Kv d):Kv (d+1):=by
 intro F w v l hl hL X mb T N hF h hn;obtain⟨va,vc,hv,hm⟩:=ay.len hl;subst hv;unfold maxLen at hm;go_enter func64,ntmps64;go_wp2_with fail;have hn0:T.length+((l.drop 0).flatMap fun a=>a.1.flatMap (mQ d)).length<=10000:=by rw[OY]at hn;exact hn
 have H0:Hid (bQ T (jb (d+1) l)=bQ T ((l.drop 0).flatMap fun a=>a.1.flatMap (mQ d))):=by rw[OY];rfl
 go_loopg [4] l.length (fun k i wr=>∃ (j:Nat) (U:List ByteArray) (Z:Nat->Prop),j+k=l.length/\i=.int .i64 j/\jy Z wr mb U N/\Fr X w Z wr/\U.length+((l.drop j).flatMap fun a=>a.1.flatMap (mQ d)).length<=10000/\Hid (bQ T (jb (d+1) l)=bQ U ((l.drop j).flatMap fun a=>a.1.flatMap (mQ d))))
 case atStart=>exact⟨0,T,X,by omega,rfl,h,Fr.refl _ _,hn0,H0⟩
 case round =>
  clear H0 hn0;revert wr;intro wz hrel;obtain⟨j,U,Z,hk,rfl,hz,hbz,hnz,HZ⟩:=hrel;have bz:∀ b,F b->wz.heap[b]?=w.heap[b]?:=fun b hb=>hbz.block b (hL b hb) (hF b hb)
  have hsz:=hbz.size;have hFZ:∀ b,F b->¬ Z b:=fun b hb hz=>(hbz.own b hz).elim (hF b hb) (fun h=>by have:=hL b hb;omega)
  by_cases hlt:j<l.length
  ·have h1:ay YR (d+1) F wz _ l:=ay.move bz (fun _ h=>h) hl
   obtain⟨gb,cap,vi,hv,hg,hi,hc⟩:=Seq.at h1 (fun _=>rfl) hlt;cases hv;have hz2:=HZ.out;rw[List.drop_eq_getElem_cons hlt,List.flatMap_cons]at hz2 hnz;generalize l[j]=x at hi hc hz2 hnz;obtain⟨its,prec,pa⟩:=x;obtain⟨ia,ic,iF,him⟩:=Seq.len hi;subst iF;unfold maxLen at him;have c0:wz.cell? ⟨gb,j*3,none⟩=some (.slice ia its.length ic):=hc 0 (by decide);have HZ2:Hid _:=hz2;clear h1 hc hz2 HZ;go_wp2_with fail
   go_loopg [5] its.length (fun k i wr=>∃ (m:Nat) (U:List ByteArray) (Y:Nat->Prop),m+k=its.length/\i=.int .i64 m/\jy Y wr mb U N/\Fr Z wz Y wr/\U.length+((its.drop m).flatMap (mQ d)++(l.drop (j+1)).flatMap fun a=>a.1.flatMap (mQ d)).length<=10000/\Hid (bQ T (jb (d+1) l)=bQ U ((its.drop m).flatMap (mQ d)++(l.drop (j+1)).flatMap fun a=>a.1.flatMap (mQ d))))
   case atStart=>exact⟨0,U,Z,by omega,rfl,hz,Fr.refl _ _,hnz,HZ2⟩
   case round =>
    clear HZ2;obtain⟨m,U2,Y,hkm,rfl,hr,hbr,hnr,HR⟩:=hrel;have br:∀ b,F b->wr.heap[b]?=wz.heap[b]?:=fun b hb=>hbr.block b (Nat.lt_of_lt_of_le (hL b hb) hsz) (hFZ b hb)
    have qo:=hbr.size;have hFY:∀ b,F b->¬ Y b:=fun b hb hz=>(hbr.own b hz).elim (hFZ b hb) (fun h=>by have:=hL b hb;omega)
    have eg:wr.heap[gb]?=wz.heap[gb]?:=br gb hg;have d0:wr.cell? ⟨gb,j*3,none⟩=some (.slice ia its.length ic):=(World.cell?_of_block (w:=wz) eg).trans c0;have hlm:=hr.lt
    by_cases bF:m<its.length
    ·have hir:bJ YR d F wr _ its:=bJ.move br (fun _ h=>h) hi
     unfold bJ nV at hir;obtain⟨n,rP,va,hv,hn,ha,hcc⟩:=Seq.at hir (fun _=>rfl) bF;cases hv;have hr2:=HR.out;rw[List.drop_eq_getElem_cons bF,List.flatMap_cons,List.append_assoc]at hr2 hnr;generalize its[m]=it at ha hcc hr2 hnr;obtain⟨sa,sc,hva,-⟩:=ay.len ha;subst hva;have e0:wr.cell? ⟨n,m*5,none⟩=some (.int .i64 (it.kind:Int)):=hcc 0 (by decide);have e1:wr.cell? ⟨n,m*5+1,none⟩=some (.string it.name):=hcc 1 (by decide);have e2:wr.cell? ⟨n,m*5+2,none⟩=some (.int .u8 (it.mark:Int)):=hcc 2 (by decide);have e3:wr.cell? ⟨n,m*5+3,none⟩=some (.slice sa it.alts.length sc):=hcc 3 (by decide);have e4:wr.cell? ⟨n,m*5+4,none⟩=some (.int .i64 (it.place:Int)):=hcc 4 (by decide);have ln:n<wr.heap.size:=by have:=hL n hn;omega
     have lD:gb<wr.heap.size:=by have:=hL gb hg;omega
     rw[List.length_append,mQ,List.length_append]at hnr;rw[Eo U2,mQ,Eo U2]at hr2;clear hcc hir c0 HR;obtain⟨W1,hW1⟩:∃ W1,W1=wr.alloc (.cells #[.int .i64 (it.kind:Int),.string it.name,.int .u8 (it.mark:Int),.slice sa it.alts.length sc,.int .i64 (it.place:Int)] 148):=⟨_,rfl⟩;have hb1:Below wr.heap.size wr W1:=by rw[hW1];exact (Below.refl _ _).alloc (lr0) _
     have hs1:W1.heap.size=wr.heap.size+1:=by rw[hW1];simp
     have kx:aj W1 wr.heap.size #[.int .i64 (it.kind:Int),.string it.name,.int .u8 (it.mark:Int),.slice sa it.alts.length sc,.int .i64 (it.place:Int)] 148:=by rw[hW1];exact aj.new wr _ 148
     have hY1:jy Y W1 mb U2 N:=hr.below hb1;have hxY:¬ Y wr.heap.size:=fun h=>by have:=hr.1 _ h;omega
     have hf1:Fr Y wr Y W1:=Fr.same hb1
     by_cases hk1:it.kind=1
     rw[if_pos hk1]at hr2 hnr;have HK:Hid (it.kind=1):=hk1;have hkb:((it.kind:Int) == 1)=true:=by simp[hk1]
     have HR2:Hid _:=hr2;clear hk1 hr2;go_wp2_with fail;rw[<-hW1];refine (Xz hY1 (by omega) it.name).mono ?_;rintro e w2 ⟨⟨vq,rfl⟩,Y2,hY2,hf2⟩;have iW:aj w2 wr.heap.size _ 148:=(hf2.block _ (by omega) hxY).trans kx;have x3:w2.cell? ⟨wr.heap.size,3,none⟩=some (.slice sa it.alts.length sc):=iW.cell 3;have hn2:=OZ U2 it.name;have hn3:(iM U2 it.name).length+(jb d it.alts).length+((its.drop (m+1)).flatMap (mQ d)++(l.drop (j+1)).flatMap fun a=>a.1.flatMap (mQ d)).length<=10000:=by
      simp only[List.length_cons,List.length_nil]at hnr;omega
     have HR3:Hid (bQ T (jb (d+1) l)=bQ (bQ (iM U2 it.name) (jb d it.alts)) ((its.drop (m+1)).flatMap (mQ d)++(l.drop (j+1)).flatMap fun a=>a.1.flatMap (mQ d))):=HR2.out;clear HR2 hnr;generalize iM U2 it.name=U3 at hn3 hY2 HR3;go_wp2_with fail
     rotate_left
     rw[if_neg hk1]at hr2 hnr;have HK:Hid (¬ it.kind=1):=hk1;have hkb:((it.kind:Int) == 1)=false:=bq0 (by omega);have HR2:Hid _:=hr2;clear hk1 hr2;go_wp2_with fail;rw[<-hW1];obtain⟨w2,hw2⟩:∃ w2,w2=W1:=⟨_,rfl⟩;rw[<-hw2];obtain⟨Y2,hY2,hf2⟩:∃ Y2,jy Y2 w2 mb U2 N/\Fr Y W1 Y2 w2:=⟨Y,hw2 ▸ hY1,hw2 ▸ Fr.refl _ _⟩;obtain⟨U3,Nn⟩:∃ U3,U3=U2:=⟨_,rfl⟩;rw[<-Nn]at hY2;have hn3:U3.length+(jb d it.alts).length+((its.drop (m+1)).flatMap (mQ d)++(l.drop (j+1)).flatMap fun a=>a.1.flatMap (mQ d)).length<=10000:=by
      simp only[List.length_nil]at hnr;rw[Nn];omega
     have HR3:Hid (bQ T (jb (d+1) l)=bQ (bQ U3 (jb d it.alts)) ((its.drop (m+1)).flatMap (mQ d)++(l.drop (j+1)).flatMap fun a=>a.1.flatMap (mQ d))):=by rw[Nn];exact HR2.out
     clear HR2 hnr Nn hw2
     all_goals
      have hf3:Fr Y wr Y2 w2:=hf1.trans hf2;have hs2:=hf3.size;have hL2:∀ b,F b->b<w2.heap.size:=fun b hb=>by have:=hL b hb;omega
      have ha2:ay YR d F w2 _ it.alts:=ay.move (fun b hb=>hf3.block b (by have:=hL b hb;omega) (hFY b hb)) (fun _ h=>h) ha;have akm:∀ b,F b->¬ Y2 b:=fun b hb hz=>(hf3.own b hz).elim (hFY b hb) (fun h=>by have:=hL b hb;omega)
      have hln:=Kk (jb d it.alts) U3;refine (IH F w2 _ _ ha2 hL2 Y2 mb U3 N akm hY2 (by omega)).mono ?_;rintro e w3 ⟨rfl,Y3,hY3,SG⟩;have hf5:=(hbr.trans hf3).trans SG;go_wp2_with fail;go_roundg (its.length - (m+1))
      case measure=>omega
      case rel=>exact⟨m+1,_,Y3,by omega,by go_num,hY3,hf5,by omega,HR3⟩
    ·have:m=its.length:=by omega
     subst this;have hr2:=HR.out;rw[List.drop_length,List.flatMap_nil,List.nil_append]at hr2 hnr;have HR2:Hid _:=hr2;clear c0 hr2 HR;go_wp2_with fail;go_roundg (l.length - (j+1))
     case measure=>omega
     case rel=>exact⟨j+1,U2,Y,by omega,by go_num,hr,hbz.trans hbr,hnr,HR2⟩
  ·have:j=l.length:=by omega
   subst this;have hz2:=HZ.out;rw[List.drop_length]at hz2;have HZ2:Hid _:=hz2;clear hz2 HZ;go_wp2_with fail
   go_end0
   refine⟨rfl,Z,?_,hbz⟩;rw[HZ2.out];exact hz
theorem XI:∀ d,Kv d
 | 0=>aft
 | d+1=>afu (XI d)
section
open Go.RowKit
open Lx (Tk)
theorem rE (c:Int) (w:World) (h0:0<=c) (h1:c<=255) :
  Calls prog 111 #[.int .u8 c] w fun e w'=>e=.returned (.bool (Lx.digit c))/\w'=w:=by
 by_cases h:48<=c
 ·by_cases h':c<=57
  all_goals
   go_enter func111,ntmps111
   go_wp2
   go_ret;exact⟨gM (by simp[Lx.digit];omega),rfl⟩
 ·go_enter func111,ntmps111
  go_wp2
  go_ret;exact⟨gM (by simp[Lx.digit];omega),rfl⟩
theorem sH (c:Int) (w:World) (h0:0<=c) (h1:c<=255) :
  Calls prog 112 #[.int .u8 c] w fun e w'=>e=.returned (.bool (Lx.small c))/\w'=w:=by
 by_cases h:97<=c
 ·by_cases h':c<=122
  all_goals
   go_enter func112,ntmps112
   go_wp2
   go_ret;exact⟨gM (by simp[Lx.small];omega),rfl⟩
 ·go_enter func112,ntmps112
  go_wp2
  go_ret;exact⟨gM (by simp[Lx.small];omega),rfl⟩
theorem vw (c:Int) (w:World) (h0:0<=c) (h1:c<=255) :
  Calls prog 113 #[.int .u8 c] w fun e w'=>e=.returned (.bool (Lx.capital c))/\w'=w:=by
 by_cases h:65<=c
 ·by_cases h':c<=90
  all_goals
   go_enter func113,ntmps113
   go_wp2
   go_ret;exact⟨gM (by simp[Lx.capital];omega),rfl⟩
 ·go_enter func113,ntmps113
  go_wp2
  go_ret;exact⟨gM (by simp[Lx.capital];omega),rfl⟩
theorem zY (b:ByteArray) (w:World) (hs:b.size<=2000) :
  Calls prog 116 #[.string b] w fun e w'=>e=.returned (.bool (Lx.isName b))/\w'=w:=by
 show Calls prog 116 #[.string b] w fun e w'=>e=.returned (.bool (Lx.isWord Lx.small b))/\w'=w
 by_cases h0:b.size=0
 ·have he:=J8 (p:=Lx.small) h0
  have HE:Hid _:=he;clear he;have h0':((b.size:Int) == 0)=true:=beq_iff_eq.2 (by omega);go_enter func116,ntmps116;go_wp2_with fail;go_ret;exact⟨gM HE.out.symm,rfl⟩
 have h0':((b.size:Int) == 0)=false:=bq0 (by omega)
 by_cases h1:12<b.size
 ·have he:=Kh (p:=Lx.small) h1
  have HE:Hid _:=he;clear he;go_enter func116,ntmps116;go_wp2_with fail;go_ret;exact⟨gM HE.out.symm,rfl⟩
 have hpos:0<b.size:=by omega
 have hbd:=nP b 0;rw[dB b 0 hpos]at hbd;have h1':decide (12<(b.size:Int))=false:=decide_eq_false (by omega);cases h2:Lx.small (b[0].toNat:Int)
 ·have he:=J9 (p:=Lx.small) (b:=b) (by rw[dB b 0 hpos];exact h2)
  have HE:Hid _:=he;have H2:Hid _:=h2;clear he h2;go_enter func116,ntmps116
  go_wp2_with (go_at_call 112;refine (sH _ _ (by omega) (by omega)).mono ?_;rintro e w' ⟨rfl,hw⟩;obtain rfl:=hw.symm;rw[H2.out])
  go_ret;exact⟨gM HE.out.symm,rfl⟩
 ·have H2:Hid _:=h2
  clear h2;go_enter func116,ntmps116
  go_wp2_with (go_at_call 112;refine (sH _ _ (by omega) (by omega)).mono ?_;rintro e w' ⟨rfl,hw⟩;obtain rfl:=hw.symm;rw[H2.out])
  go_loop [3] (fun i=>∃ (k:Nat),k<=b.size/\i=.int .i64 k/\Hid (∀ j,j<k->(Lx.small (bY b j) || Lx.digit (bY b j))=true)) (fun i=>b.size - (intOf i).toNat)
  case atStart=>exact⟨0,by omega,rfl,fun j hj=>absurd hj (by omega)⟩
  case round =>
   obtain⟨k,hk,rfl,hg⟩:=hrel
   by_cases hlt:k<b.size
   ·have hbd:=nP b k
    have hbe:=dB b k hlt;rw[hbe]at hbd;have HB:Hid _:=hbe;clear hbe;cases h3:Lx.small (b[k].toNat:Int)
    ·have H3:Hid _:=h3
     clear h3;cases h4:Lx.digit (b[k].toNat:Int)
     ·have H4:Hid _:=h4
      clear h4
      go_wp2_with (first
       | (go_at_call 112;refine (sH _ _ (by omega) (by omega)).mono ?_;rintro e w' ⟨rfl,hw⟩;obtain rfl:=hw.symm;rw[H3.out])
       | (go_at_call 111;refine (rE _ _ (by omega) (by omega)).mono ?_;rintro e w' ⟨rfl,hw⟩;obtain rfl:=hw.symm;rw[H4.out]))
      go_ret;exact⟨gM (Kq hlt (by rw[HB.out];exact H3.out) (by rw[HB.out];exact H4.out)).symm,rfl⟩
     ·have H4:Hid _:=h4
      clear h4
      go_wp2_with (first
       | (go_at_call 112;refine (sH _ _ (by omega) (by omega)).mono ?_;rintro e w' ⟨rfl,hw⟩;obtain rfl:=hw.symm;rw[H3.out])
       | (go_at_call 111;refine (rE _ _ (by omega) (by omega)).mono ?_;rintro e w' ⟨rfl,hw⟩;obtain rfl:=hw.symm;rw[H4.out]))
      refine⟨⟨k+1,by omega,by go_num,?_⟩,by simp[intOf];omega⟩;intro j hj
      by_cases hjk:j=k
      ·subst hjk;rw[HB.out,H4.out];simp
      ·exact hg.out j (by omega)
    ·have H3:Hid _:=h3
     clear h3
     go_wp2_with (first
      | (go_at_call 112;refine (sH _ _ (by omega) (by omega)).mono ?_;rintro e w' ⟨rfl,hw⟩;obtain rfl:=hw.symm;rw[H3.out]))
     refine⟨⟨k+1,by omega,by go_num,?_⟩,by simp[intOf];omega⟩;intro j hj
     by_cases hjk:j=k
     ·subst hjk;rw[HB.out,H3.out];simp
     ·exact hg.out j (by omega)
   ·go_wp2_with fail
    go_ret;exact⟨gM (KM hpos (by omega) (by rw[dB b 0 hpos];exact H2.out) (fun j hj=>hg.out j (by omega))).symm,rfl⟩
theorem zW (b:ByteArray) (w:World) (hs:b.size<=2000) :
  Calls prog 139 #[.string b] w fun e w'=>e=.returned (.bool (Lx.isToken b))/\w'=w:=by
 show Calls prog 139 #[.string b] w fun e w'=>e=.returned (.bool (Lx.isWord Lx.capital b))/\w'=w
 by_cases h0:b.size=0
 ·have he:=J8 (p:=Lx.capital) h0
  have HE:Hid _:=he;clear he;have h0':((b.size:Int) == 0)=true:=beq_iff_eq.2 (by omega);go_enter func139,ntmps139;go_wp2_with fail;go_ret;exact⟨gM HE.out.symm,rfl⟩
 have h0':((b.size:Int) == 0)=false:=bq0 (by omega)
 by_cases h1:12<b.size
 ·have he:=Kh (p:=Lx.capital) h1
  have HE:Hid _:=he;clear he;go_enter func139,ntmps139;go_wp2_with fail;go_ret;exact⟨gM HE.out.symm,rfl⟩
 have hpos:0<b.size:=by omega
 have hbd:=nP b 0;rw[dB b 0 hpos]at hbd;have h1':decide (12<(b.size:Int))=false:=decide_eq_false (by omega);cases h2:Lx.capital (b[0].toNat:Int)
 ·have he:=J9 (p:=Lx.capital) (b:=b) (by rw[dB b 0 hpos];exact h2)
  have HE:Hid _:=he;have H2:Hid _:=h2;clear he h2;go_enter func139,ntmps139
  go_wp2_with (go_at_call 113;refine (vw _ _ (by omega) (by omega)).mono ?_;rintro e w' ⟨rfl,hw⟩;obtain rfl:=hw.symm;rw[H2.out])
  go_ret;exact⟨gM HE.out.symm,rfl⟩
 ·have H2:Hid _:=h2
  clear h2;go_enter func139,ntmps139
  go_wp2_with (go_at_call 113;refine (vw _ _ (by omega) (by omega)).mono ?_;rintro e w' ⟨rfl,hw⟩;obtain rfl:=hw.symm;rw[H2.out])
  go_loop [3] (fun i=>∃ (k:Nat),k<=b.size/\i=.int .i64 k/\Hid (∀ j,j<k->(Lx.capital (bY b j) || Lx.digit (bY b j))=true)) (fun i=>b.size - (intOf i).toNat)
  case atStart=>exact⟨0,by omega,rfl,fun j hj=>absurd hj (by omega)⟩
  case round =>
   obtain⟨k,hk,rfl,hg⟩:=hrel
   by_cases hlt:k<b.size
   ·have hbd:=nP b k
    have hbe:=dB b k hlt;rw[hbe]at hbd;have HB:Hid _:=hbe;clear hbe;cases h3:Lx.capital (b[k].toNat:Int)
    ·have H3:Hid _:=h3
     clear h3;cases h4:Lx.digit (b[k].toNat:Int)
     ·have H4:Hid _:=h4
      clear h4
      go_wp2_with (first
       | (go_at_call 113;refine (vw _ _ (by omega) (by omega)).mono ?_;rintro e w' ⟨rfl,hw⟩;obtain rfl:=hw.symm;rw[H3.out])
       | (go_at_call 111;refine (rE _ _ (by omega) (by omega)).mono ?_;rintro e w' ⟨rfl,hw⟩;obtain rfl:=hw.symm;rw[H4.out]))
      go_ret;exact⟨gM (Kq hlt (by rw[HB.out];exact H3.out) (by rw[HB.out];exact H4.out)).symm,rfl⟩
     ·have H4:Hid _:=h4
      clear h4
      go_wp2_with (first
       | (go_at_call 113;refine (vw _ _ (by omega) (by omega)).mono ?_;rintro e w' ⟨rfl,hw⟩;obtain rfl:=hw.symm;rw[H3.out])
       | (go_at_call 111;refine (rE _ _ (by omega) (by omega)).mono ?_;rintro e w' ⟨rfl,hw⟩;obtain rfl:=hw.symm;rw[H4.out]))
      refine⟨⟨k+1,by omega,by go_num,?_⟩,by simp[intOf];omega⟩;intro j hj
      by_cases hjk:j=k
      ·subst hjk;rw[HB.out,H4.out];simp
      ·exact hg.out j (by omega)
    ·have H3:Hid _:=h3
     clear h3
     go_wp2_with (first
      | (go_at_call 113;refine (vw _ _ (by omega) (by omega)).mono ?_;rintro e w' ⟨rfl,hw⟩;obtain rfl:=hw.symm;rw[H3.out]))
     refine⟨⟨k+1,by omega,by go_num,?_⟩,by simp[intOf];omega⟩;intro j hj
     by_cases hjk:j=k
     ·subst hjk;rw[HB.out,H3.out];simp
     ·exact hg.out j (by omega)
   ·go_wp2_with fail
    go_ret;exact⟨gM (KM hpos (by omega) (by rw[dB b 0 hpos];exact H2.out) (fun j hj=>hg.out j (by omega))).symm,rfl⟩
end
section
open Go.RowKit
open Lx (Tk)
open Tr
namespace Lx
def yN (c:Int):Bool:=decide (c=61\/c=59\/c=124\/c=40\/c=41\/c=42\/c=43\/c=63)
def known (t:ByteArray):Bool:=decide (bY t 0=37) || mM (bY t 0) || yN (bY t 0)
def fJ (t:ByteArray):ByteArray:=if known t=true then t else aM
def eZ (s:ByteArray)(i:Nat):Nat:=mh s (if bY s i=37 then i+1 else i)
def jo (s:ByteArray)(i:Nat):ByteArray:=if i<s.size then s.extract i (if eZ s i=i/\yN (bY s i)=true then i+1 else eZ s i) else aM
theorem aeH (s:ByteArray)(i j:Nat)(h:i<j)(hj:j<=s.size):bY (s.extract i j) 0=bY s i:=by
 rw[dB s i (by omega),dB (s.extract i j) 0 (by rw[ByteArray.size_extract];omega)];rw[ByteArray.getElem_extract];simp
theorem ag9 {s:ByteArray}{i:Nat}(h:i<s.size):i<=eZ s i/\eZ s i<=s.size:=by
 have h1:=Kn (s:=s) (i:=if bY s i=37 then i+1 else i) (by split <;> omega);unfold eZ
 split at h1 <;> simp_all <;> omega
theorem Ka {s:ByteArray}{i:Nat}(h:i<s.size):eZ s i=i↔(bY s i≠37/\mM (bY s i)=false):=by
 unfold eZ
 by_cases h37:bY s i=37
 ·rw[if_pos h37]
  have:=Kn (s:=s) (i:=i+1) (by omega);constructor
  ·intro e;omega
  ·intro e;exact absurd h37 e.1
 ·rw[if_neg h37,J7 h]
  constructor
  ·intro e
   refine⟨h37,?_⟩;cases hw:mM (bY s i)
   ·rfl
   ·rw[hw,if_pos rfl]at e
    have:=Kn (s:=s) (i:=i+1) (by omega);omega
  ·intro e
   rw[e.2];simp
theorem WT {s:ByteArray}{i:Nat}(h:i<=s.size):jo s i=fJ (hd (oC s i)):=by
 unfold jo
 by_cases hi:i<s.size
 ·rw[if_pos hi,GH hi]
  show _=fJ (s.extract i (jY s i));have hs:=BP hi;have hr:=ag9 hi;have hk:=Ka hi;have hb:=aeH s i (jY s i) hs.1 hs.2;unfold fJ known;rw[hb];have he:jY s i=max (eZ s i) (i+1):=rfl
  by_cases hz:eZ s i=i
  ·obtain⟨h1,h2⟩:=hk.1 hz
   rw[decide_eq_false h1,h2];cases hp:yN (bY s i)
   ·rw[if_neg (by simp),hz]
    simp only[Bool.or_self,Bool.false_eq_true,if_false];apply ByteArray.ext;simp[aM]
   ·rw[if_pos ⟨hz,rfl⟩,he,hz]
    simp
  ·have hn:¬ (bY s i≠37/\mM (bY s i)=false):=fun e=>hz (hk.2 e)
   rw[if_neg (fun e=>hz e.1),he];have hmax:max (eZ s i) (i+1)=eZ s i:=by omega
   rw[hmax,if_pos]
   by_cases h37:bY s i=37
   ·rw[decide_eq_true h37];simp
   ·cases hw:mM (bY s i)
    ·exact absurd ⟨h37,hw⟩ hn
    ·simp
 ·rw[if_neg hi,Ep (by omega)]
  rfl
end Lx
end
section
open Go.RowKit
open Lx (Tk)
open Tr
theorem Tryz.QF:(prog.info? 9).map (fun i=>(i.zero,i.size,i.bytes))=some (some (.string ⟨#[]⟩),1,16):=by kernel_rfl
structure Mv (q:Nat) (av:Value) (w w':World):Prop where
 os:w'.os=w.os
 tape:w'.tape=w.tape
 output:w'.output=w.output
 size:w.heap.size<=w'.heap.size
 block:∀ k,k<w.heap.size->k≠q->av.ownBlock≠some k->w'.heap[k]?=w.heap[k]?
def Nx (av:Value)(w:World)(Cz:Value):Prop:=Cz.ownBlock=av.ownBlock\/∃ g,Cz.ownBlock=some g/\w.heap.size<=g
section
variable {q:Nat} {av Cz aaj:Value} {w w' w'':World}
theorem Mv.refl (q:Nat)(av:Value)(w:World):Mv q av w w:=⟨rfl,rfl,rfl,lr0,fun _ _ _ _=>rfl⟩
theorem Nx.refl (av:Value)(w:World):Nx av w av:=.inl rfl
theorem Mv.trans (h:Mv q av w w')(n:Nx av w Cz)(k:Mv q Cz w' w''):Mv q av w w'' :=
 ⟨k.os.trans h.os,k.tape.trans h.tape,k.output.trans h.output,Nat.le_trans h.size k.size,fun i hi hq hs=>by
  rw[k.block i (Nat.lt_of_lt_of_le hi h.size) hq ?_,h.block i hi hq hs];rcases n with n | ⟨g,n,hg⟩
  ·rw[n];exact hs
  ·rw[n];intro e;cases e;omega⟩
theorem Nx.trans (n:Nx av w Cz)(hw:w.heap.size<=w'.heap.size)(k:Nx Cz w' aaj):Nx av w aaj:=by
 rcases k with k | ⟨g,k,hg⟩
 ·rcases n with n | ⟨g,n,hg⟩
  ·exact .inl (k.trans n)
  ·exact .inr ⟨g,k.trans n,hg⟩
 ·exact .inr ⟨g,k,by omega⟩
theorem Mv.set (h:Mv q av w w')(o:Nat)(v:Value):Mv q av w (w'.setCell ⟨q,o,none⟩ v) :=
 ⟨h.os,h.tape,h.output,by have:=h.size;simpa [World.setCell]using this,fun k hk hq hs=>(hs0 (fun e=>hq e)).trans (h.block k hk hq hs)⟩
theorem Mv.new (h:Mv q av w w'){b:Nat}(hb:w.heap.size<=b)(o:Nat)(v:Value):Mv q av w (w'.setCell ⟨b,o,none⟩ v) :=
 ⟨h.os,h.tape,h.output,by have:=h.size;simpa [World.setCell]using this,fun k hk hq hs=>(hs0 (fun e=>by have e':k=b:=e;omega)).trans (h.block k hk hq hs)⟩
theorem Mv.drew (h:Mv q av w w'):Mv q av w w'.drew:=⟨h.os,h.tape,h.output,h.size,h.block⟩
theorem Mv.alloc (h:Mv q av w w')(o:Obj):Mv q av w (w'.alloc o) :=
 ⟨h.os,h.tape,h.output,by have:=h.size;simp;omega,fun k hk hq hs=>(Below.heap_alloc _ _ _ (Nat.lt_of_lt_of_le hk h.size)).trans (h.block k hk hq hs)⟩
theorem Mv.grown (h:Mv q av w w'){r:Option Nat}(hg:w'.grownBy w'' r)(hr:∀ k,r=some k->w.heap.size<=k\/k=q\/av.ownBlock=some k):Mv q av w w'' :=
 ⟨hg.os.trans h.os,hg.tape.trans h.tape,hg.output.trans h.output,Nat.le_trans h.size hg.size,fun k hk hq hs=>(hg.block k (Nat.lt_of_lt_of_le hk h.size) (fun e=>by
  rcases hr k e.symm with h1 | h1 | h1
  ·omega
  ·exact hq h1
  ·exact hs h1)).trans (h.block k hk hq hs)⟩
end
def dW (s:ByteArray)(i:Nat)(W:ByteArray)(nest err at_:Int)(av:Value):Array Value:=#[.string s,.int .i64 (i:Int),.string W,.int .i64 nest,.int .i64 err,.int .i64 at_,av]
theorem aj.drewN {w:World}{b:Nat}{cs:Array Value}{e:Nat}(h:aj w b cs e)(n:Nat):aj (w.drewN n) b cs e:=by
 unfold aj at *;simpa [World.drewN]using h
theorem Mv.drewN {q:Nat}{av:Value}{w w':World}(h:Mv q av w w')(n:Nat):Mv q av w (w'.drewN n):=by
 have e:(w'.drewN n).heap=w'.heap:=by simp[World.drewN]
 exact⟨h.os,h.tape,h.output,by rw[e];exact h.size,fun k hk hq hs=>by rw[e];exact h.block k hk hq hs⟩
structure St (q:Nat) (av:Value) (w:World) (aJ:Value) (n:Nat) (xs:List Value) (u:World):Prop where
 mv:Mv q av w u
 nx:Nx av w aJ
 own:u.ownsRow 0 9 1 aJ n xs
 ne:aJ.ownBlock≠some q
theorem St.set {q:Nat}{av:Value}{w:World}{aJ:Value}{n:Nat}{xs:List Value}{u:World}(h:St q av w aJ n xs u)(o:Nat)(v:Value):St q av w aJ n xs (u.setCell ⟨q,o,none⟩ v) :=
 ⟨h.mv.set o v,h.nx,aD h.own fun g hg=>hs0 (fun e=>h.ne (by have e':g=q:=e;rw[hg,e'])),h.ne⟩
theorem St.drewN {q:Nat}{av:Value}{w:World}{aJ:Value}{n:Nat}{xs:List Value}{u:World}(h:St q av w aJ n xs u)(k:Nat):St q av w aJ n xs (u.drewN k) :=
 ⟨h.mv.drewN k,h.nx,aD h.own fun g hg=>by simp[World.drewN],h.ne⟩
namespace Lx
theorem Kw {c:Int}(h1:digit c=false)(h2:small c=false)(h3:capital c=false):mM c=false:=by simp[mM,h1,h2,h3]
theorem ZM {c:Int}(h1:digit c=true):mM c=true:=by simp[mM,h1]
theorem LH {c:Int}(h1:small c=true):mM c=true:=by simp[mM,h1]
theorem LJ {c:Int}(h1:capital c=true):mM c=true:=by simp[mM,h1]
theorem VZ {s:ByteArray}{i:Nat}(h:¬ i<s.size):jo s i=⟨#[]⟩:=if_neg h
theorem Kb {s:ByteArray}{i k:Nat}(h:i<s.size)(he:eZ s i=k)(hk:k≠i):jo s i=s.extract i k:=by
 unfold jo;rw[if_pos h,if_neg (fun e=>hk (he.symm.trans e.1)),he]
theorem U6 {s:ByteArray}{i:Nat}(h:i<s.size)(he:eZ s i=i)(hp:yN (bY s i)=true):jo s i=s.extract i (i+1):=by
 unfold jo;rw[if_pos h,if_pos ⟨he,hp⟩]
theorem U7 {s:ByteArray}{i:Nat}(h:i<s.size)(he:eZ s i=i)(hp:yN (bY s i)=false):jo s i=s.extract i i:=by
 unfold jo;rw[if_pos h,if_neg (fun e=>by rw[hp]at e;exact absurd e.2 (by simp)),he]
end Lx
end
end Go.Proofs.YtlcppnabbicmoaaGreatDoor

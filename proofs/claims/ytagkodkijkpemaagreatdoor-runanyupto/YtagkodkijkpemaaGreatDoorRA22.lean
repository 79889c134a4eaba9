import Derived.Test.YtagkodkijkpemaaGreatDoorRA21
set_option maxHeartbeats 8000000
set_option maxRecDepth 1000000
namespace Go.Proofs.YtagkodkijkpemaaGreatDoor
open Lx Go.Proofs.Tryz
open Go.RowKit Tr
theorem Jb:∀(l:List (Nat×Nat×Nat))(i:Nat)(x:Nat×Nat×Nat),l[i]?=some x->(l.flatMap bV)[i*3]?=some (.int .i64 (x.1:Int))/\(l.flatMap bV)[i*3+1]?=some (.int .i64 (x.2.1:Int))/\(l.flatMap bV)[i*3+2]?=some (.int .i64 (x.2.2:Int))
 | [],i,x,h=>by simp at h
 |p::l,0,x,h=>by
  simp only[List.getElem?_cons_zero,Option.some.injEq]at h;subst h;exact⟨rfl,rfl,rfl⟩
 |p::l,i+1,x,h=>by
  have:=Jb l i x (by simpa using h);rw[List.flatMap_cons,show bV p=[.int .i64 (p.1:Int),.int .i64 (p.2.1:Int),.int .i64 (p.2.2:Int)] from rfl,show (i+1)*3=i*3+3 by omega];exact this
theorem Jc:∀(l:List (Nat×Nat))(i:Nat)(x:Nat×Nat),l[i]?=some x->(l.flatMap eX)[i*2]?=some (.int .i64 (x.1:Int))/\(l.flatMap eX)[i*2+1]?=some (.int .i64 (x.2:Int))
 | [],i,x,h=>by simp at h
 |p::l,0,x,h=>by
  simp only[List.getElem?_cons_zero,Option.some.injEq]at h;subst h;exact⟨rfl,rfl⟩
 |p::l,i+1,x,h=>by
  have:=Jc l i x (by simpa using h);rw[List.flatMap_cons,show eX p=[.int .i64 (p.1:Int),.int .i64 (p.2:Int)] from rfl,show (i+1)*2=i*2+2 by omega];exact this
theorem mZ{W:World}{B e z:Nat}{v:Value}{n:Nat}{xs:List Value}(h:W.ownsRow B e z v n xs){j:Nat}{u:Value}(hj:xs[j]?=some u):∃g cap,v=.slice (some ⟨g,0,none⟩) n cap/\∀(i:Nat)u,xs[i]?=some u->W.cell? ⟨g,i,none⟩=some u:=by
 have hpl:=(List.getElem?_eq_some_iff.1 hj).1;rcases h.2 with ⟨rfl,h0⟩|⟨g,cap,cur,rfl,-⟩
 ·have:=h.1
  subst h0;omega
 ·have hadd:∀p,(⟨g,0,none⟩:Addr).add p=⟨g,p,none⟩:=fun p=>by unfold Addr.add;split <;> simp_all
  exact⟨g,cap,rfl,fun i u hi=>by rw[<-hadd];exact World.ownsRow.cells h (g:=g) rfl _ _ hi⟩
theorem within_iff{i:Int}{n:Nat}:Pk.within i n=true↔0<=i/\i<(n:Int):=by
 unfold Pk.within;rw[Bool.and_eq_true,decide_eq_true_eq,decide_eq_true_eq]
namespace Pk
def BA(p:T)(i:Nat):Nat×Nat×Nat:=p.ak.getD i (0,0,0)
def cell(p:T)(q s:Nat):Nat×Nat:=if (BA p (p.ay.getD q 0+s)).2.2=q then ((BA p (p.ay.getD q 0+s)).1,(BA p (p.ay.getD q 0+s)).2.1) else (0,0)
def gV(p:T)(i:Int):Nat×Nat:=if within i p.prods.length=true then p.prods.getD i.toNat (0,0) else (0,0)
def act(p:T)(q n:Int):Nat×Nat:=if (within q p.aI.length && within n p.toks.length)=true then (if (cell p q.toNat n.toNat).1=0/\p.aI.getD q.toNat 0≠0 then (2,p.aI.getD q.toNat 0) else cell p q.toNat n.toNat) else (0,0)
def goto(p:T)(q n:Int):Nat:=if (within q p.aI.length && within n p.aS.length)=true then (cell p q.toNat (p.toks.length+n.toNat)).2 else 0
end Pk
section
variable {w:World} {B pb:Nat} {v:fV} {p:Pk.T}
def isStr(P:Program)(t:Nat):Bool:=match P.underlying t with
 | some (.struct _)=>true
 |_=>false
theorem pz{P:Program}{fn:Func}{p:Tmp}{ty:TypeId}{R:Ending->World->Prop}(h:fn.results=#[.cell p ty]){tmps:Array Value}{W:World}{g t:Nat}{cs:Array Value}(hp:tmps.getD p undef=.pointer (some ⟨g,0,none⟩))(hg:aj W g cs t)(hu:isStr P ty=true)(hi:(P.info? ty).map (·.size)=some cs.size)(hR:R (.returned (.agg cs)) W):bodyPost P fn R .ret { tmps,defers:=[] } W:=by
 obtain⟨fs,hu⟩:∃fs,P.underlying ty=some (.struct fs):=by
  unfold isStr at hu
  split at hu
  ·exact⟨_,by assumption⟩
  ·cases hu
 exact bodyPost_ret (results_cell_row h tmps W g t cs (0,0) _ hp hg hu rfl hi) rfl hR
theorem Yf{vP:Value}{ak:List (Nat×Nat×Nat)}(h:w.ownsRow B 138 3 vP ak.length (ak.flatMap bV))(i:Nat):Calls prog 59 #[vP,.int .i64 (i:Int)] w fun e w'=>e=.returned (.agg #[.int .i64 ((ak.getD i (0,0,0)).1:Int),.int .i64 ((ak.getD i (0,0,0)).2.1:Int),.int .i64 ((ak.getD i (0,0,0)).2.2:Int)])/\Below w.heap.size w w':=by
 obtain⟨a,c,hv,-⟩:=aB h;have q:=fun w=>Bo (w:=w) (i:Int) ak.length
 have hb1:∀o,Below w.heap.size w (w.alloc o):=fun o=>(Below.refl _ _).alloc (zL0) o
 cases hi:ak[i]? with
 |none=>
  have hw:Pk.within (i:Int) ak.length=false:=by
   have:=List.getElem?_eq_none_iff.1 hi;rw[<-Bool.not_eq_true,within_iff];omega
  have hp:ak.getD i (0,0,0)=(0,0,0):=by simp[hi]
  rw[hv,hp];simp only[hw]at q;go_enter func59,ntmps59
  go_wp2_with (go_at_call 32;refine(q _).mono ?_;rintro e w1⟨rfl,rfl⟩)
  exact pz rfl rfl ((aj.new ..).alloc _) (by kernel_rfl) (by kernel_rfl) ⟨rfl,(hb1 _).alloc (by simp) _⟩
 |some x=>
  obtain⟨f1,f2,f3⟩:=Jb _ _ _ hi;obtain⟨g,cap,hv',hc⟩:=mZ h f1;have hil:=(List.getElem?_eq_some_iff.1 hi).1;have hw:Pk.within (i:Int) ak.length=true:=by
   rw[within_iff];omega
  have hp:ak.getD i (0,0,0)=x:=by simp[hi]
  rw[hv',hp];simp only[hw]at q;have hgl:g<w.heap.size:=(h.lt g (by rw[hv'];rfl)).2;have d:∀o(j:Nat)u,w.cell? ⟨g,j,none⟩=some u->(w.alloc o).cell? ⟨g,j,none⟩=some u:=fun o j u e=>(World.cell?_of_block (w:=w) (Below.heap_alloc _ _ _ hgl)).trans e
  have d0:=fun o=>d o _ _ (hc _ _ f1)
  have d1:=fun o=>d o _ _ (hc _ _ f2)
  have d2:=fun o=>d o _ _ (hc _ _ f3)
  have j0:(0:Int)<=(i:Int):=by omega
  have j1:(i:Int)<(ak.length:Int):=by omega
  clear d hc f1 f2 f3 hv hv' hi hw hp;go_enter func59,ntmps59
  go_wp2_with (go_at_call 32;refine(q _).mono ?_;rintro e w1⟨rfl,rfl⟩)
  exact pz rfl rfl (aj.new ..) (by kernel_rfl) (by kernel_rfl) ⟨rfl,hb1 _⟩
theorem ag4(h:aO w B pb v p)(i:Nat):Calls prog 59 #[v.vP,.int .i64 (i:Int)] w fun e w'=>e=.returned (.agg #[.int .i64 ((Pk.BA p i).1:Int),.int .i64 ((Pk.BA p i).2.1:Int),.int .i64 ((Pk.BA p i).2.2:Int)])/\Below w.heap.size w w':=Yf h.rP i
theorem aik(h:aO w B pb v p)(i:Int):Calls prog 34 #[v.vR,.int .i64 i] w fun e w'=>e=.returned (.agg #[.int .i64 ((Pk.gV p i).1:Int),.int .i64 ((Pk.gV p i).2:Int)])/\Below w.heap.size w w':=by
 obtain⟨a,c,hv,-⟩:=aB h.rR;have q:=fun w=>Bo (w:=w) i p.prods.length
 have hb1:∀o,Below w.heap.size w (w.alloc o):=fun o=>(Below.refl _ _).alloc (zL0) o
 by_cases hw:Pk.within i p.prods.length=true
 ·obtain⟨j0,j1⟩:=within_iff.1 hw
  obtain⟨n,rfl⟩:∃n:Nat,i=(n:Int):=⟨i.toNat,by omega⟩;obtain⟨x,hx⟩:∃x,p.prods[n]?=some x:=⟨_,List.getElem?_eq_getElem (by omega)⟩;have hp:Pk.gV p (n:Int)=x:=by unfold Pk.gV;rw[if_pos hw];simp[hx]
  obtain⟨f1,f2⟩:=Jc _ _ _ hx;obtain⟨g,cap,hv',hc⟩:=mZ h.rR f1;rw[hv',hp];simp only[hw]at q;have hgl:g<w.heap.size:=(h.rR.lt g (by rw[hv'];rfl)).2;have d:∀o(j:Nat)u,w.cell? ⟨g,j,none⟩=some u->(w.alloc o).cell? ⟨g,j,none⟩=some u:=fun o j u e=>(World.cell?_of_block (w:=w) (Below.heap_alloc _ _ _ hgl)).trans e
  have d0:=fun o=>d o _ _ (hc _ _ f1)
  have d1:=fun o=>d o _ _ (hc _ _ f2)
  clear d hc f1 f2 hv hv' hx hw hp;go_enter func34,ntmps34
  go_wp2_with (go_at_call 32;refine(q _).mono ?_;rintro e w1⟨rfl,rfl⟩)
  exact pz rfl rfl (aj.new ..) (by kernel_rfl) (by kernel_rfl) ⟨rfl,hb1 _⟩
 ·have hp:Pk.gV p i=(0,0):=by unfold Pk.gV;rw[if_neg hw]
  rw[hv,hp];simp only[Bool.eq_false_iff.2 hw]at q;go_enter func34,ntmps34
  go_wp2_with (go_at_call 32;refine(q _).mono ?_;rintro e w1⟨rfl,rfl⟩)
  exact pz rfl rfl ((aj.new ..).alloc _) (by kernel_rfl) (by kernel_rfl) ⟨rfl,(hb1 _).alloc (by simp) _⟩
end
theorem Nl{w:World}{g j:Nat}{u:Value}(h:w.cell? ⟨g,j,none⟩=some u):g<w.heap.size:=by
 apply Decidable.byContradiction;intro hn;have e:w.heap[g]?=none:=Array.getElem?_eq_none (by omega);simp[World.cell?,e]at h
theorem aV{w w':World}(hb:Below w.heap.size w w'){g j:Nat}{u:Value}(h:w.cell? ⟨g,j,none⟩=some u):w'.cell? ⟨g,j,none⟩=some u:=(hb.cell (p:=⟨g,j,none⟩) (Nl h)).trans h
def tK{α:Type}(z:Nat)(Q:Nat->Nat->α->Prop)(v:Value)(l:List α):Prop:=∃a c,v=.slice a l.length c/\∀(i:Nat)(x:α),l[i]?=some x->∃g,a=some ⟨g,0,none⟩/\Q g (i*z) x
theorem tK.mono{α:Type}{z:Nat}{Q R:Nat->Nat->α->Prop}{v:Value}{l:List α}(h:tK z Q v l)(hk:∀g o x,Q g o x->R g o x):tK z R v l:=by
 obtain⟨a,c,h1,h2⟩:=h;exact⟨a,c,h1,fun i x hx=>by obtain⟨g,e,hq⟩:=h2 i x hx;exact⟨g,e,hk g _ x hq⟩⟩
def iQ(w:World)(g o:Nat)(x:Nat):Prop:=w.cell? ⟨g,o,none⟩=some (.int .i64 (x:Int))
def Cx(w:World)(g o:Nat)(x:Nat×Nat):Prop:=w.cell? ⟨g,o,none⟩=some (.int .i64 (x.1:Int))/\w.cell? ⟨g,o+1,none⟩=some (.int .i64 (x.2:Int))
def En(w:World)(g o:Nat)(x:Nat×Nat×Nat):Prop:=w.cell? ⟨g,o,none⟩=some (.int .i64 (x.1:Int))/\w.cell? ⟨g,o+1,none⟩=some (.int .i64 (x.2.1:Int))/\w.cell? ⟨g,o+2,none⟩=some (.int .i64 (x.2.2:Int))
def sQ(w:World)(g o:Nat)(x:ByteArray):Prop:=w.cell? ⟨g,o,none⟩=some (.string x)
def rQ{α:Type}(w:World)(z:Nat)(Q:Nat->Nat->α->Prop)(g o:Nat)(l:List α):Prop:=∃v,w.cell? ⟨g,o,none⟩=some v/\tK z Q v l
section
variable {w w':World} (hb:Below w.heap.size w w')
include hb
theorem iQ.keep{g o:Nat}{x:Nat}(h:iQ w g o x):iQ w' g o x:=aV hb h
theorem sQ.keep{g o:Nat}{x:ByteArray}(h:sQ w g o x):sQ w' g o x:=aV hb h
theorem Cx.keep{g o:Nat}{x:Nat×Nat}(h:Cx w g o x):Cx w' g o x:=⟨aV hb h.1,aV hb h.2⟩
theorem En.keep{g o:Nat}{x:Nat×Nat×Nat}(h:En w g o x):En w' g o x:=⟨aV hb h.1,aV hb h.2.1,aV hb h.2.2⟩
theorem rQ.keep{α:Type}{z:Nat}{Q R:Nat->Nat->α->Prop}{g o:Nat}{l:List α}(hk:∀g o x,Q g o x->R g o x)(h:rQ w z Q g o l):rQ w' z R g o l:=by
 obtain⟨v,h1,h2⟩:=h;exact⟨v,aV hb h1,h2.mono hk⟩
end
abbrev lD(w:World):=tK 1 (iQ w)
abbrev vG(w:World):=tK 2 (Cx w)
abbrev lQ(w:World):=tK 3 (En w)
theorem lD.keep{w w':World}{v:Value}{l:List Nat}(h:lD w v l)(hb:Below w.heap.size w w'):lD w' v l:=h.mono fun _ _ _=>iQ.keep hb
theorem vG.keep{w w':World}{v:Value}{l:List (Nat×Nat)}(h:vG w v l)(hb:Below w.heap.size w w'):vG w' v l:=h.mono fun _ _ _=>Cx.keep hb
theorem lQ.keep{w w':World}{v:Value}{l:List (Nat×Nat×Nat)}(h:lQ w v l)(hb:Below w.heap.size w w'):lQ w' v l:=h.mono fun _ _ _=>En.keep hb
abbrev yV(w:World):=tK 1 (sQ w)
theorem yV.keep{w w':World}{v:Value}{l:List ByteArray}(h:yV w v l)(hb:Below w.heap.size w w'):yV w' v l:=h.mono fun _ _ _=>sQ.keep hb
theorem yV.own{w:World}{B:Nat}{v:Value}{l:List ByteArray}(h:w.ownsRow B 9 1 v l.length (l.map Value.string)):yV w v l:=by
 obtain⟨a,c,rfl,-⟩:=aB h;refine⟨a,c,rfl,fun i x hx=>?_⟩;obtain⟨g,c',h1,h2⟩:=mZ h (j:=i) (u:=.string x) (by rw[List.getElem?_map,hx];rfl);cases h1;exact⟨g,rfl,by rw[Nat.mul_one];exact h2 i _ (by rw[List.getElem?_map,hx];rfl)⟩
theorem lD.own{w:World}{B:Nat}{v:Value}{l:List Nat}(h:w.ownsRow B 3 1 v l.length (l.map bQ)):lD w v l:=by
 obtain⟨a,c,rfl,-⟩:=aB h;refine⟨a,c,rfl,fun i x hx=>?_⟩;obtain⟨g,c',h1,h2⟩:=mZ h (j:=i) (u:=bQ x) (by rw[List.getElem?_map,hx];rfl);cases h1;exact⟨g,rfl,by rw[Nat.mul_one];exact h2 i _ (by rw[List.getElem?_map,hx];rfl)⟩
theorem vG.own{w:World}{B e:Nat}{v:Value}{l:List (Nat×Nat)}(h:w.ownsRow B e 2 v l.length (l.flatMap eX)):vG w v l:=by
 obtain⟨a,c,rfl,-⟩:=aB h;refine⟨a,c,rfl,fun i x hx=>?_⟩;obtain⟨f1,f2⟩:=Jc _ _ _ hx;obtain⟨g,c',h1,h2⟩:=mZ h f1;cases h1;exact⟨g,rfl,h2 _ _ f1,h2 _ _ f2⟩
theorem lQ.own{w:World}{B e:Nat}{v:Value}{l:List (Nat×Nat×Nat)}(h:w.ownsRow B e 3 v l.length (l.flatMap bV)):lQ w v l:=by
 obtain⟨a,c,rfl,-⟩:=aB h;refine⟨a,c,rfl,fun i x hx=>?_⟩;obtain⟨f1,f2,f3⟩:=Jb _ _ _ hx;obtain⟨g,c',h1,h2⟩:=mZ h f1;cases h1;exact⟨g,rfl,h2 _ _ f1,h2 _ _ f2,h2 _ _ f3⟩
namespace Pk
def uj(t:ByteArray):List Nat:=t.data.toList.map UInt8.toNat
def wS(l:List ByteArray):List Nat:=l.flatMap fun t=>be 1 t.size++uj t
theorem abz(t:ByteArray):(uj t).length=t.size:=by rw[uj,List.length_map,Array.length_toList];rfl
end Pk
theorem al5(t:ByteArray):Lib.strCells t=(Pk.uj t).map uh:=by
 unfold Lib.strCells Pk.uj uh;rw[List.map_map];rfl
theorem Tryz.amG:prog.underlying 9=some .string:=by kernel_rfl
section
variable {W0 W W':World} {B wb:Nat} {vB x:Value} {l:List Nat}
theorem Y2(h:bH W0 W0.heap.size wb vB W l){vT:Value}{ts:List ByteArray}(hT:yV W0 vT ts)(hl:l.length+(Pk.wS ts).length<=1000000000):Calls prog 46 #[.pointer (some ⟨wb,0,none⟩),vT] W fun e W'=>e=.returned (.tuple #[])/\∃gZ,bH W0 W0.heap.size wb gZ W' (l++Pk.wS ts):=by
 obtain⟨ta,tc,rfl,hT⟩:=hT;obtain⟨B,hB⟩:∃B,W0.heap.size=B:=⟨_,rfl⟩;have hk:∀W,Below B W0 W->∀(j:Nat)t,ts[j]?=some t->∃g,ta=some ⟨g,0,none⟩/\W.cell? ⟨g,j,none⟩=some (.string t):=fun W hW j t ht=>by
  obtain⟨g,e,hc⟩:=hT j t ht;unfold sQ at hc;rw[Nat.mul_one]at hc;rw[<-hB]at hW;exact⟨g,e,aV hW hc⟩
 rw[hB]at h|-;clear hB hT;obtain⟨i0,hii,hz0,hz1,hz2⟩:=info_parts Tryz.info5;have H0:Hid (∃l1 jK,bH W0 B wb jK W l1/\l1++Pk.wS (ts.drop 0)=l++Pk.wS ts):=⟨l,vB,h,rfl⟩;have HL:Hid (l.length+(Pk.wS ts).length<=1000000000):=hl;have hn:ts.length<=1000000000:=by
  have:∀ts:List ByteArray,ts.length<=(Pk.wS ts).length:=fun ts=>by
   induction ts with
   |nil=>exact zL0
   |cons t ts ih=>
    have e:Pk.wS (t::ts)=(Pk.be 1 t.size++Pk.uj t)++Pk.wS ts:=rfl;rw[e,List.length_append,List.length_append,Pk.qP,List.length_cons];omega
  have:=this ts;omega
 have HC:Hid (∀(w:World)(l1:List Nat)(v:Value),bH W0 B wb v w l1->∀(j:Nat)t,ts[j]?=some t->∃g,ta=some ⟨g,0,none⟩/\w.cell? ⟨g,j,none⟩=some (.string t)):=fun w l1 v hw j t ht=>hk w hw.b j t ht
 clear h hl hk;go_enter func46,ntmps46;go_wp2_with fail
 go_loopw [8] (fun i wr=>∃j:Nat,j<=ts.length/\i=.int .i64 (j:Int)/\Hid (∃l1 jK,bH W0 B wb jK wr l1/\l1++Pk.wS (ts.drop j)=l++Pk.wS ts)) (fun i _=>ts.length - (intOf i).toNat)
 case atStart=>exact⟨0,by omega,rfl,H0⟩
 case round=>
  clear H0;obtain⟨j,hj,rfl,HI⟩:=hrel;obtain⟨l1,jK,h1,hb1⟩:=HI.out;clear HI
  by_cases hjn:j<ts.length
  ·have j1:(j:Int)<(ts.length:Int):=by omega
   obtain⟨t,ht⟩:∃t,ts[j]?=some t:=⟨_,List.getElem?_eq_getElem hjn⟩;have hd:ts.drop j=t::ts.drop (j+1):=by
    rw[List.drop_eq_getElem_cons hjn];congr 1;rw[List.getElem?_eq_getElem hjn]at ht;exact Option.some.inj ht
   have es:Pk.wS (ts.drop j)=(Pk.be 1 t.size++Pk.uj t)++Pk.wS (ts.drop (j+1)):=by rw[hd];rfl
   obtain⟨g,rfl,hc⟩:=HC.out wr l1 jK h1 j t ht;have hlen:l1.length+(1+t.size)<=1000000000:=by
    have:=congrArg List.length hb1;rw[es]at this;simp only[List.length_append,Pk.qP,Pk.abz]at this;have:=HL.out;omega
   rw[es]at hb1;have HB:Hid (l1++(Pk.be 1 t.size++Pk.uj t++Pk.wS (ts.drop (j+1)))=l++Pk.wS ts):=hb1;have p9:Calls prog 45 #[.pointer (some ⟨wb,0,none⟩),.int .i64 1,.int .i64 (t.size:Int)] wr fun e W'=>e=.returned (.tuple #[])/\∃gZ,bH W0 B wb gZ W' (l1++Pk.be 1 t.size)/\jk wr W':=wI (n:=1) h1 (by decide) (by omega)
   clear h1 hb1 es hd HC ht;go_upto_region 4 with (go_at_call 45;refine p9.mono ?_;rintro e w2⟨rfl,vB2,h2,-⟩)
   clear p9 hc;have hl2:(l1++Pk.be 1 t.size).length=l1.length+1:=by rw[List.length_append,Pk.qP]
   obtain⟨l2,yU⟩:∃l2,l1++Pk.be 1 t.size=l2:=⟨_,rfl⟩;have HB2:Hid (l2++(Pk.uj t++Pk.wS (ts.drop (j+1)))=l++Pk.wS ts):=by
    show l2++(Pk.uj t++Pk.wS (ts.drop (j+1)))=l++Pk.wS ts;rw[<-HB.out,<-yU];simp only[List.append_assoc]
   rw[yU]at h2 hl2;have amH:l2.length+t.size<=1000000000:=by omega
   clear HB hl2 yU hlen;obtain⟨ba,bc,rfl,-⟩:=aB h2.r;have c0:w2.cell? ⟨wb,0,none⟩=some (.slice ba l2.length bc):=h2.blk.cell 0;have hvl:(Value.slice ba l2.length bc).ownBlock≠some wb:=fun e=>(h2.kB e).ne h2.kw (by decide) rfl
   have KS:=h2.blk;have o2:=h2.r;have hb2:=h2.size;have H9:Hid (bH W0 B wb (.slice ba l2.length bc) w2 l2):=h2;clear h2
   go_wp2_with (at_builtin;refine Lib.wpList_append_own_string _ rfl _ _ 112 9 rfl B 5 i0 Tryz.acg Tryz.amG hii hz0 hz1 hz2 (.slice ba l2.length bc) l2.length (l2.map uh) rfl o2 t rfl (by unfold maxLen;omega) (by omega) hb2 ?_;intro v3 w3 ho3 hg3 _;obtain⟨ua,uc,rfl,-⟩:=aB ho3;have jg:=KS.grown hg3 (fun e=>hvl e.symm);have d3:w3.cell? ⟨wb,0,none⟩=some (.slice ba l2.length bc):=jg.cell 0;have f3:=jg.frozen 0)
   refine⟨⟨j+1,by omega,by go_num,l2++Pk.uj t,_,H9.out.set (m:=l2++Pk.uj t) hg3 (by rw[List.map_append,List.length_append,Pk.abz,<-al5];exact ho3),?_⟩,by simp[intOf];omega⟩;rw[<-HB2.out,List.append_assoc]
  ·obtain rfl:j=ts.length:=by omega
   rw[List.drop_length,Pk.wS,List.flatMap_nil,List.append_nil]at hb1;have HE:Hid (bH W0 B wb jK wr (l++Pk.wS ts)):=by rw[<-hb1];exact h1
   clear h1 hb1;go_wp2_with fail
   go_end0
   exact⟨rfl,jK,HE.out⟩
end
namespace Pk
def cnt(row:List (Nat×Nat))(k:Nat):Nat->Nat
 |0=>0
 |j+1=>cnt row k j+(if row[j]?=some (2,k) then 1 else 0)
theorem acj(row:List (Nat×Nat))(k:Nat):∀j,cnt row k j<=j
 |0=>zL0
 |j+1=>by
  have:=acj row k j;unfold cnt
  split <;> omega
def qG(row:List (Nat×Nat)):Nat->Nat
 |0=>0
 |j+1=>if cnt row (qG row j) row.length<cnt row j row.length then j else qG row j
theorem acn(row:List (Nat×Nat)):∀j,qG row j<j\/qG row j=0
 |0=>.inr rfl
 |j+1=>by
  have:=acn row j;unfold qG
  split <;> omega
def usual(row:List (Nat×Nat))(n:Nat):Nat:=qG row n
def lT(row:List (Nat×Nat))(u:Nat):Nat->List (Nat×Nat×Nat)
 |0=>[]
 |j+1=>lT row u j++(match row[j]? with
  |some c=>if c.1≠0/\c≠(2,u) then [(c.1,c.2,j)] else []
  |none=>[])
def mg(gt:List Nat)(o:Nat):Nat->List (Nat×Nat×Nat)
 |0=>[]
 |j+1=>mg gt o j++(match gt[j]? with
  |some t=>if t≠0 then [(1,t,o+j)] else []
  |none=>[])
def told(row:List (Nat×Nat))(gt:List Nat)(u:Nat):List (Nat×Nat×Nat):=lT row u row.length++mg gt row.length gt.length
def fits(ak:List (Nat×Nat×Nat))(row:List (Nat×Nat×Nat))(b:Nat):Bool:=row.all fun x=>(ak.getD (b+x.2.2) (0,0,0)).1 == 0
theorem ajE(ak:List (Nat×Nat×Nat))(row:List (Nat×Nat×Nat)){b:Nat}(h:ak.length<=b):fits ak row b=true:=by
 unfold fits;rw[List.all_eq_true];intro x _;rw[List.getD_eq_getElem?_getD,List.getElem?_eq_none (by omega)];rfl
def yX(ak:List (Nat×Nat×Nat))(row:List (Nat×Nat×Nat)):Nat->Nat->Nat
 |0,b=>b
 |f+1,b=>if fits ak row b=true then b else yX ak row f (b+1)
theorem ajF{ak:List (Nat×Nat×Nat)}{row:List (Nat×Nat×Nat)}{b:Nat}(h:fits ak row b=true):∀f,yX ak row f b=b
 |0=>rfl
 |f+1=>by rw[yX,if_pos h]
theorem ak5{ak:List (Nat×Nat×Nat)}{row:List (Nat×Nat×Nat)}{b f:Nat}(h:fits ak row b=false):yX ak row (f+1) b=yX ak row f (b+1):=by
 rw[yX,h,if_neg (by decide)]
def fit(ak:List (Nat×Nat×Nat))(row:List (Nat×Nat×Nat)):Nat:=yX ak row ak.length 0
def Aa(ak:List (Nat×Nat×Nat))(k:Nat)(x:Nat×Nat×Nat):List (Nat×Nat×Nat):=(ak++List.replicate (k+1-ak.length) (0,0,0)).set k x
def nO(b q:Nat):List (Nat×Nat×Nat)->List (Nat×Nat×Nat)->List (Nat×Nat×Nat)
 | [],ak=>ak
 |x::r,ak=>nO b q r (Aa ak (b+x.2.2) (x.1,x.2.1,q))
structure Mk where
 ay:List Nat
 ak:List (Nat×Nat×Nat)
 aI:List Nat
def lay(m:Mk)(row:List (Nat×Nat×Nat)):Mk:={ m with ay:=m.ay++[fit m.ak row],ak:=nO (fit m.ak row) m.ay.length row m.ak }
def one(nP:Nat)(m:Mk)(row:List (Nat×Nat))(gt:List Nat):Mk:=lay { m with aI:=m.aI++[usual row nP] } (told row gt (usual row nP))
def mk(nP:Nat)(cs:List (List (Nat×Nat)))(gs:List (List Nat)):Nat->Mk
 |0=>⟨[],[],[]⟩
 |k+1=>one nP (mk nP cs gs k) (cs.getD k []) (gs.getD k [])
def wP:Nat->List (Nat×Nat×Nat)->List Nat
 |_,[]=>[]
 |gap,x::r=>if x.1=0 then wP (gap+1) r else be 2 gap++be 2 x.2.2++be 2 (x.1*4096+x.2.1)++wP 0 r
def tu(l:List (Nat×Nat×Nat)):Nat:=(l.filter fun x=>x.1 != 0).length
def lU(l:List (Nat×Nat×Nat)):List Nat:=be 3 (tu l)++wP 0 l
def wR(nT:Nat)(l:List (Nat×Nat)):List Nat:=l.flatMap fun x=>be 2 (x.1-nT)++be 2 x.2
def wD(m:Mk):Nat->List Nat
 |0=>[]
 |k+1=>wD m k++(be 1 (m.aI.getD k 0)++be 3 (m.ay.getD k 0))
def sj(T N:List ByteArray)(P:List (Nat×Nat))(m:Mk):List Nat:=be 2 (m.aI.length-1)++be 2 (T.length-1)++be 2 (N.length-1)++be 2 (P.length-1)++wS T++wS N++wR T.length P++wD m m.aI.length++lU m.ak
def zq(l:List Nat):ByteArray:=⟨(l.map fun x=>UInt8.ofNat x).toArray⟩
def written(T N:List ByteArray)(P:List (Nat×Nat))(m:Mk):ByteArray:=zq (sj T N P m++be 4 (sum (zq (sj T N P m)) (sj T N P m).length))
end Pk
theorem ak6(d t:Nat)(hd:d<=15)(ht:t<4096):bits BinOp.or IntKind.i64 ((d*4096:Nat):Int) (t:Int)=((d*4096+t:Nat):Int):=by
 have h1:(BitVec.ofInt 64 ((d*4096:Nat):Int)).toNat=d*4096:=by rw[BitVec.toNat_ofInt];omega
 have h2:(BitVec.ofInt 64 (t:Int)).toNat=t:=by rw[BitVec.toNat_ofInt];omega
 have h3:d*4096 ||| t=d*4096+t:=by
  have:=Nat.two_pow_add_eq_or_of_lt (i:=12) (b:=t) ht d;rw[show d*4096=2 ^ 12*d by omega];exact this.symm
 show IntKind.i64.wrap ((BitVec.ofInt 64 ((d*4096:Nat):Int) ||| BitVec.ofInt 64 (t:Int)).toNat:Nat)=_;rw[BitVec.toNat_or,h1,h2,h3,IntKind.wrap_i64];omega
section
variable {W0 W W':World} {B wb:Nat} {vB x:Value} {l:List Nat}
theorem bH.move(h:bH W0 B wb vB W l)(hb:Below W.heap.size W W'):bH W0 B wb vB W' l :=
 ⟨(hb.block wb h.kw.lt).trans h.blk,aC h.r fun g hg=>hb.block g (h.kB hg).lt,h.b.trans (hb.mono h.size),h.lb⟩
theorem Pk.ajG(l:List (Nat×Nat×Nat)):Pk.tu l<=l.length:=List.length_filter_le ..
theorem Pk.ag5{l:List (Nat×Nat×Nat)}{j:Nat}{x:Nat×Nat×Nat}(h:l[j]?=some x):Pk.tu (l.take (j+1))=Pk.tu (l.take j)+(if x.1=0 then 0 else 1):=by
 unfold Pk.tu;rw[List.take_add_one,h,List.filter_append,List.length_append]
 by_cases e:x.1=0
 ·simp[e]
 ·simp[e]
theorem Pk.SS:∀(l:List (Nat×Nat×Nat))(g:Nat),(Pk.wP g l).length<=6*l.length
 | [],_=>zL0
 |x::l,g=>by
  have h1:=Pk.SS l (g+1);have h2:=Pk.SS l 0;rw[Pk.wP,List.length_cons]
  split
  ·omega
  ·simp only[List.length_append,Pk.qP]
   omega
theorem af8(h:bH W0 W0.heap.size wb vB W l){vP:Value}{ak:List (Nat×Nat×Nat)}(hP:lQ W0 vP ak)(hl:l.length+3+6*ak.length<=1000000000)(hx:∀x∈ak,x.1<=15/\x.2.1<4096):Calls prog 47 #[.pointer (some ⟨wb,0,none⟩),vP] W fun e W'=>e=.returned (.tuple #[])/\∃gZ,bH W0 W0.heap.size wb gZ W' (l++Pk.lU ak):=by
 obtain⟨a,c,rfl,hc⟩:=hP;obtain⟨B,hB⟩:∃B,W0.heap.size=B:=⟨_,rfl⟩;have HC:Hid (∀(wr:World)(l1:List Nat)(v:Value),bH W0 B wb v wr l1->∀(j:Nat)x,ak[j]?=some x->∃g,a=some ⟨g,0,none⟩/\wr.cell? ⟨g,j*3,none⟩=some (.int .i64 (x.1:Int))/\wr.cell? ⟨g,j*3+1,none⟩=some (.int .i64 (x.2.1:Int))/\wr.cell? ⟨g,j*3+2,none⟩=some (.int .i64 (x.2.2:Int))):=fun wr l1 v hw j x hx=>by
  have hb:=hw.b;rw[<-hB]at hb;obtain⟨g,e,h1,h2,h3⟩:=hc j x hx;exact⟨g,e,aV hb h1,aV hb h2,aV hb h3⟩
 rw[hB]at h|-;clear hB hc;have H0:Hid (bH W0 B wb vB W l):=h;clear h;go_enter func47,ntmps47;go_wp2_with fail
 go_loopw [4,12] (fun v i wr=>∃j:Nat,j<=ak.length/\i=.int .i64 (j:Int)/\v=.int .i64 (Pk.tu (ak.take j):Int)/\Hid (bH W0 B wb vB wr l)) (fun _ i _=>ak.length - (intOf i).toNat)
 case atStart=>exact⟨0,by omega,rfl,rfl,H0⟩
 case round=>
  clear H0;obtain⟨j,hj,rfl,rfl,HI⟩:=hrel
  by_cases hjn:j<ak.length
  ·have j1:(j:Int)<(ak.length:Int):=by omega
   obtain⟨x,hxj⟩:∃x,ak[j]?=some x:=⟨_,List.getElem?_eq_getElem hjn⟩;obtain⟨g,rfl,c1,c2,c3⟩:=HC.out wr l vB HI.out j x hxj;have HT:Hid _:=Pk.ag5 hxj;have ht:=Pk.ajG (ak.take j);rw[List.length_take]at ht;generalize Pk.tu (ak.take j)=t1 at HT ht;obtain⟨y1,y2,y3⟩:=x;simp only at c1 c2 c3;have HN:Hid (bH W0 B wb vB (wr.alloc (.cells #[.int .i64 (y1:Int),.int .i64 (y2:Int),.int .i64 (y3:Int)] 138)) l):=HI.out.move ((Below.refl _ _).alloc (zL0) _);clear HI HC hx
   by_cases h0:y1=0
   ·have b1:((y1:Int) != 0)=false:=by simp[h0]
    have HE:Hid (Pk.tu (ak.take (j+1))=t1):=HT.out.trans (by simp[h0]);clear HT h0;go_wp2_with fail;exact⟨⟨j+1,by omega,by go_num,by rw[HE.out],HN⟩,by simp[intOf];omega⟩
   ·have b1:((y1:Int) != 0)=true:=by simp;omega
    have HE:Hid (Pk.tu (ak.take (j+1))=t1+1):=HT.out.trans (by simp[h0]);clear HT h0;go_wp2_with fail;exact⟨⟨j+1,by omega,by go_num,by rw[HE.out];go_num,HN⟩,by simp[intOf];omega⟩
  ·obtain rfl:j=ak.length:=by omega
   rw[List.take_length];have hlen:l.length<=1000000000:=by omega
   have p9:Calls prog 45 #[.pointer (some ⟨wb,0,none⟩),.int .i64 3,.int .i64 (Pk.tu ak:Int)] wr fun e W'=>e=.returned (.tuple #[])/\∃gZ,bH W0 B wb gZ W' (l++Pk.be 3 (Pk.tu ak))/\jk wr W':=wI (n:=3) HI.out (by decide) hlen
   have HW:Hid (Pk.lU ak=Pk.be 3 (Pk.tu ak)++Pk.wP 0 ak):=rfl;generalize Pk.tu ak=tn at p9 HW;clear HI;go_upto_region 8 with (go_at_call 45;refine p9.mono ?_;rintro e w2⟨rfl,vB2,h2,-⟩)
   clear p9;have H0:Hid (∃l1 jK,bH W0 B wb jK w2 l1/\l1++Pk.wP 0 (ak.drop 0)=l++Pk.lU ak):=⟨_,vB2,h2,by rw[HW.out,List.drop_zero,List.append_assoc]⟩;have HL:Hid ((l++Pk.lU ak).length<=1000000000):=by
    show _<=_;have:=Pk.SS ak 0;rw[HW.out];simp only[List.length_append,Pk.qP];omega
   clear h2 HW;go_wp2_with fail
   go_loopw [7,28] (fun v i wr=>∃j g:Nat,j<=ak.length/\g<=j/\i=.int .i64 (j:Int)/\v=.int .i64 (g:Int)/\Hid (∃l1 jK,bH W0 B wb jK wr l1/\l1++Pk.wP g (ak.drop j)=l++Pk.lU ak)) (fun _ i _=>ak.length - (intOf i).toNat)
   case atStart=>exact⟨0,0,by omega,zL0,rfl,rfl,H0⟩
   case round=>
    clear H0;revert wr;intro wz hrel;obtain⟨j,gp,hj,hgj,rfl,rfl,HI⟩:=hrel;obtain⟨l1,jK,h1,hb1⟩:=HI.out;clear HI
    by_cases hjn:j<ak.length
    ·have j1:(j:Int)<(ak.length:Int):=by omega
     obtain⟨x,hxj⟩:∃x,ak[j]?=some x:=⟨_,List.getElem?_eq_getElem hjn⟩;obtain⟨g,rfl,c1,c2,c3⟩:=HC.out wz l1 jK h1 j x hxj;have hd:ak.drop j=x::ak.drop (j+1):=by
      obtain⟨hh,e⟩:=List.getElem?_eq_some_iff.1 hxj;rw[List.drop_eq_getElem_cons hh,e]
     have hlx:=hx x (List.mem_of_getElem? hxj);rw[hd,Pk.wP]at hb1;obtain⟨y1,y2,y3⟩:=x;simp only at c1 c2 c3 hlx hb1;obtain⟨wa,aW⟩:∃V,V=wz.alloc (.cells #[.int .i64 (y1:Int),.int .i64 (y2:Int),.int .i64 (y3:Int)] 138):=⟨_,rfl⟩;obtain⟨bx,hbx⟩:∃b,wz.heap.size=b:=⟨_,rfl⟩;have kX:aj wa bx #[.int .i64 (y1:Int),.int .i64 (y2:Int),.int .i64 (y3:Int)] 138:=by rw[aW,<-hbx];exact aj.new ..
     have h2:bH W0 B wb jK wa l1:=by rw[aW];exact h1.move ((Below.refl _ _).alloc (zL0) _)
     have x1:wa.cell? ⟨bx,0,none⟩=some (.int .i64 (y1:Int)):=kX.cell 0;clear h1 hd HC hx
     by_cases h0:y1=0
     ·have b1:((y1:Int) == 0)=true:=by simp[h0]
      rw[if_pos h0]at hb1;have HN:Hid (∃l1 jK,bH W0 B wb jK wa l1/\l1++Pk.wP (gp+1) (ak.drop (j+1))=l++Pk.lU ak):=⟨l1,jK,h2,hb1⟩;clear h2 hb1 kX h0;go_upto_region 12 with fail
      rw[<-aW];clear aW hbx;go_wp2_with fail;exact⟨⟨j+1,gp+1,by omega,by omega,by go_num,by go_num,HN⟩,by simp[intOf];omega⟩
     ·have b1:((y1:Int) == 0)=false:=zB0 (by omega)
      rw[if_neg h0]at hb1;have hln:l1.length+6<=1000000000:=by
       have h4:=congrArg List.length hb1;have h5:=HL.out;rw[<-h4]at h5;simp only[List.length_append,Pk.qP]at h5;omega
      have HB:Hid (l1++(Pk.be 2 gp++Pk.be 2 y3++Pk.be 2 (y1*4096+y2)++Pk.wP 0 (ak.drop (j+1)))=l++Pk.lU ak):=hb1;have q1:Calls prog 45 #[.pointer (some ⟨wb,0,none⟩),.int .i64 2,.int .i64 (gp:Int)] wa fun e W'=>e=.returned (.tuple #[])/\∃gZ,bH W0 B wb gZ W' (l1++Pk.be 2 gp)/\jk wa W':=wI (n:=2) h2 (by decide) (by omega)
      clear h2 hb1;go_upto_region 12 with fail
      rw[<-aW];clear aW hbx;go_upto_region 15 with (go_at_call 45;refine q1.mono ?_;rintro e w3⟨rfl,vB3,h3,o3⟩)
      have k3:=o3.blk kX (by decide) (by decide);have z3:w3.cell? ⟨bx,2,none⟩=some (.int .i64 (y3:Int)):=k3.cell 2;have q2:Calls prog 45 #[.pointer (some ⟨wb,0,none⟩),.int .i64 2,.int .i64 (y3:Int)] w3 fun e W'=>e=.returned (.tuple #[])/\∃gZ,bH W0 B wb gZ W' (l1++Pk.be 2 gp++Pk.be 2 y3)/\jk w3 W':=wI (n:=2) h3 (by decide) (by rw[List.length_append,Pk.qP];omega)
      clear q1 h3 o3 kX x1;go_upto_region 16 with (go_at_call 45;refine q2.mono ?_;rintro e w4⟨rfl,vB4,h4,o4⟩)
      have k4:=o4.blk k3 (by decide) (by decide);have z1:w4.cell? ⟨bx,0,none⟩=some (.int .i64 (y1:Int)):=k4.cell 0;have z2:w4.cell? ⟨bx,1,none⟩=some (.int .i64 (y2:Int)):=k4.cell 1;have q3:Calls prog 45 #[.pointer (some ⟨wb,0,none⟩),.int .i64 2,.int .i64 ((y1*4096+y2:Nat):Int)] w4 fun e W'=>e=.returned (.tuple #[])/\∃gZ,bH W0 B wb gZ W' (l1++Pk.be 2 gp++Pk.be 2 y3++Pk.be 2 (y1*4096+y2))/\jk w4 W':=wI (n:=2) h4 (by decide) (by rw[List.length_append,List.length_append,Pk.qP,Pk.qP];omega)
      have eo:=ak6 y1 y2 hlx.1 hlx.2;rw[show ((y1*4096:Nat):Int)=(y1:Int)*4096 by omega]at eo;obtain⟨yy,VF⟩:∃y,y1*4096+y2=y:=⟨_,rfl⟩;rw[VF]at q3 eo;have HY:Hid (y1*4096+y2=yy):=VF;clear q2 h4 o4 k3 k4 z3 VF
      go_wp2_with (go_at_call 45;refine q3.mono ?_;rintro e w5⟨rfl,vB5,h5,o5⟩)
      refine⟨⟨j+1,0,by omega,by omega,by go_num,rfl,_,vB5,h5,?_⟩,by simp[intOf];omega⟩;rw[<-HB.out,HY.out];simp only[List.append_assoc]
    ·obtain rfl:j=ak.length:=by omega
     rw[List.drop_length,Pk.wP,List.append_nil]at hb1;have HE:Hid (bH W0 B wb jK wz (l++Pk.lU ak)):=by rw[<-hb1];exact h1
     clear h1 hb1;go_wp2_with fail
     go_end0
     exact⟨rfl,jK,HE.out⟩
end
def Pk.pJ(row:List (Nat×Nat))(n j:Nat):List Nat:=(List.range n).map fun k=>Pk.cnt row k j
theorem Pk.aaF{row:List (Nat×Nat)}{n j k:Nat}(h:k<n):(Pk.pJ row n j)[k]?=some (Pk.cnt row k j):=by simp[Pk.pJ,h]
theorem Pk.MV(row:List (Nat×Nat))(n j:Nat):(Pk.pJ row n j).length=n:=by simp[Pk.pJ]
theorem Pk.ak7{row:List (Nat×Nat)}{n j:Nat}{x:Nat×Nat}(hx:row[j]?=some x)(h:x.1≠2):Pk.pJ row n (j+1)=Pk.pJ row n j:=by
 unfold Pk.pJ;refine List.map_congr_left fun k _=>?_
 rw[Pk.cnt,hx,if_neg]
 ·rfl
 ·intro e
  cases e;exact h rfl
theorem Pk.ajH{row:List (Nat×Nat)}{n j k:Nat}(hx:row[j]?=some (2,k)):Pk.pJ row n (j+1)=(Pk.pJ row n j).set k (Pk.cnt row k j+1):=by
 apply List.ext_getElem
 ·rw[List.length_set,Pk.MV,Pk.MV]
 ·intro i h1 h2
  rw[Pk.MV]at h1;rw[List.getElem_set];simp only[Pk.pJ,List.getElem_map,List.getElem_range];rw[Pk.cnt,hx]
  by_cases e:k=i
  ·subst e;simp
  ·rw[if_neg e,if_neg]
   ·rfl
   ·intro e'
    cases e';exact e rfl
theorem RO{l:List Nat}{i x:Nat}(h:l[i]?=some x):(eO l)[i]?=some (.int .i64 (x:Int)):=by
 obtain⟨h1,rfl⟩:=List.getElem?_eq_some_iff.1 h;exact Rk l h1
theorem af9{w:World}{v:Value}{row:List (Nat×Nat)}{n:Nat}(h:vG w v row)(hp:∀x∈row,x.1=2->x.2<n)(h0:0<n)(hn:n<=100000)(hr:row.length<=100000):Calls prog 49 #[v,.int .i64 (n:Int)] w fun e w'=>e=.returned (.int .i64 (Pk.usual row n:Int))/\Below w.heap.size w w':=by
 obtain⟨a,c,rfl,hc⟩:=h;obtain⟨gC,VG⟩:∃g,w.heap.size=g:=⟨_,rfl⟩;have hm:=fun w=>Rm (n:=n) hn w
 have H0:Hid (Below gC w (w.alloc (.cells (eO (List.replicate n 0)) 3))/\aj (w.alloc (.cells (eO (List.replicate n 0)) 3)) gC (eO (Pk.pJ row n 0)) 3):=by
  refine⟨by rw[<-VG];exact(Below.refl _ _).alloc (zL0) _,?_⟩;rw[<-VG,show Pk.pJ row n 0=List.replicate n 0 from by
   apply List.ext_getElem
   ·rw[Pk.MV,List.length_replicate]
   ·intro i h1 h2
    simp[Pk.pJ,Pk.cnt]]
  exact aj.new ..
 have HC:Hid (∀wr,Below gC w wr->∀(j:Nat)x,row[j]?=some x->∃g,a=some ⟨g,0,none⟩/\wr.cell? ⟨g,j*2,none⟩=some (.int .i64 (x.1:Int))/\wr.cell? ⟨g,j*2+1,none⟩=some (.int .i64 (x.2:Int))):=fun wr hb j x hx=>by
  rw[<-VG]at hb;obtain⟨g,e,h1,h2⟩:=hc j x hx;exact⟨g,e,aV hb h1,aV hb h2⟩
 clear hc;go_enter func49,ntmps49
 go_wp2_with (simp only[hm])
 go_loopw [15] (fun i wr=>∃j:Nat,j<=row.length/\i=.int .i64 (j:Int)/\Hid (Below gC w wr/\aj wr gC (eO (Pk.pJ row n j)) 3)) (fun i _=>row.length - (intOf i).toNat)
 case atStart=>exact⟨0,by omega,rfl,H0⟩
 case round=>
  clear H0;obtain⟨j,hj,rfl,HI⟩:=hrel;obtain⟨hb,kC⟩:=HI.out;clear HI
  by_cases hjn:j<row.length
  ·have j1:(j:Int)<(row.length:Int):=by omega
   obtain⟨x,hx⟩:∃x,row[j]?=some x:=⟨_,List.getElem?_eq_getElem hjn⟩;obtain⟨g,rfl,c1,c2⟩:=HC.out wr hb j x hx;obtain⟨y1,y2⟩:=x;simp only at c1 c2;obtain⟨wa,aW⟩:∃V,V=wr.alloc (.cells #[.int .i64 (y1:Int),.int .i64 (y2:Int)] 42):=⟨_,rfl⟩;have kX:aj wa wr.heap.size #[.int .i64 (y1:Int),.int .i64 (y2:Int)] 42:=by rw[aW];exact aj.new ..
   have iL:aj wa gC (eO (Pk.pJ row n j)) 3:=by rw[aW];exact kC.alloc _
   have hb2:Below gC w wa:=by rw[aW];exact hb.alloc (Nat.le_of_lt kC.lt) _
   have x1:wa.cell? ⟨wr.heap.size,0,none⟩=some (.int .i64 (y1:Int)):=kX.cell 0;have x2:wa.cell? ⟨wr.heap.size,1,none⟩=some (.int .i64 (y2:Int)):=kX.cell 1
   by_cases h2:y1=2
   ·have b1:((y1:Int) == 2)=true:=by simp[h2]
    have hy:y2<n:=hp _ (List.mem_of_getElem? hx) h2;rw[h2]at hx;have d1:(0:Int)<=(y2:Int):=by omega
    have d2:(y2:Int)<(n:Int):=by omega
    have d3:wa.cell? ⟨gC,y2,none⟩=some (.int .i64 (Pk.cnt row y2 j:Int)):=by rw[iL.cell];exact RO (Pk.aaF hy)
    have hcl:=Pk.acj row y2 j;have fr:=iL.frozen y2;have HN:Hid (Below gC w (wa.setCell ⟨gC,y2,none⟩ (.int .i64 ((Pk.cnt row y2 j+1:Nat):Int)))/\aj (wa.setCell ⟨gC,y2,none⟩ (.int .i64 ((Pk.cnt row y2 j+1:Nat):Int))) gC (eO (Pk.pJ row n (j+1))) 3):=by
     refine⟨hb2.setCell (p:=⟨gC,y2,none⟩) (zL0) _,?_⟩;rw[Pk.ajH hx,<-Rj];exact iL.set y2 _
    generalize Pk.cnt row y2 j=z at d3 hcl HN;have e1:((z+1:Nat):Int)=(z:Int)+1:=by omega
    rw[e1]at HN;clear hb kC iL hb2 hp HC e1 h2;go_upto_region 6 with fail
    rw[<-aW];clear aW;go_wp2_with fail;exact⟨⟨j+1,by omega,by go_num,HN⟩,by simp[intOf];omega⟩
   ·have b1:((y1:Int) == 2)=false:=zB0 (by omega)
    have HN:Hid (Below gC w wa/\aj wa gC (eO (Pk.pJ row n (j+1))) 3):=⟨hb2,by rw[Pk.ak7 hx h2];exact iL⟩;clear hb kC iL hb2 hp HC;go_upto_region 6 with fail
    rw[<-aW];clear aW;go_wp2_with fail;exact⟨⟨j+1,by omega,by go_num,HN⟩,by simp[intOf];omega⟩
  ·obtain rfl:j=row.length:=by omega
   have qF:Hid (∀k,k<n->wr.cell? ⟨gC,k,none⟩=some (.int .i64 (Pk.cnt row k row.length:Int))):=fun k hk=>by rw[kC.cell];exact RO (Pk.aaF hk)
   have HB:Hid (Below gC w wr):=hb;clear hb kC hp HC;go_wp2_with fail
   go_loop [6,32] (fun u i=>∃j:Nat,j<=n/\i=.int .i64 (j:Int)/\u=.int .i64 (Pk.qG row j:Int)) (fun _ i=>n - (intOf i).toNat)
   case atStart=>exact⟨0,by omega,rfl,rfl⟩
   case round=>
    obtain⟨j,hj,rfl,rfl⟩:=hrel
    by_cases hjn:j<n
    ·have j1:(j:Int)<(n:Int):=by omega
     have hu:=Pk.acn row j;have d1:=qF.out j hjn;have d2:=qF.out (Pk.qG row j) (by omega);have e1:Pk.qG row (j+1)=if Pk.cnt row (Pk.qG row j) row.length<Pk.cnt row j row.length then j else Pk.qG row j:=rfl
     have e2:Pk.qG row j<n:=by omega
     have HE:Hid _:=e1;clear e1;generalize Pk.cnt row j row.length=z1 at d1 HE;generalize Pk.cnt row (Pk.qG row j) row.length=z2 at d2 HE;generalize Pk.qG row j=u at d2 e2 HE hu;have u1:(0:Int)<=(u:Int):=by omega
     have u2:(u:Int)<(n:Int):=by omega
     clear hu
     by_cases hz:z2<z1
     ·have b1:decide ((z2:Int)<(z1:Int))=true:=decide_eq_true (by omega)
      have HE2:Hid (Pk.qG row (j+1)=j):=HE.out.trans (if_pos hz);clear HE;go_wp2_with fail;exact⟨⟨j+1,by omega,by go_num,by rw[HE2.out]⟩,by simp[intOf];omega⟩
     ·have b1:decide ((z2:Int)<(z1:Int))=false:=decide_eq_false (by omega)
      have HE2:Hid (Pk.qG row (j+1)=u):=HE.out.trans (if_neg hz);clear HE;go_wp2_with fail;exact⟨⟨j+1,by omega,by go_num,by rw[HE2.out]⟩,by simp[intOf];omega⟩
    ·obtain rfl:j=n:=by omega
     go_wp2_with fail;go_ret;exact⟨rfl,HB.out⟩
theorem Tryz.ak8:(prog.info? 205).map (fun i=>(i.zero,i.size,i.bytes))=some (some (.agg #[.int .i64 0,.int .i64 0,.int .i64 0]),3,24):=by kernel_rfl
theorem Tryz.SV:prog.underlying 124=some (.slice 205):=by kernel_rfl
def TdE(w:World)(l:List (Nat×Nat×Nat))(e:Ending)(w':World):Prop:=∃vo,e=.returned vo/\w'.ownsRow w.heap.size 205 3 vo l.length (l.flatMap bV)/\Below w.heap.size w w'
theorem RP{w:World}{B e:Nat}{v:Value}{l:List (Nat×Nat×Nat)}{x:Nat×Nat×Nat}(h:w.ownsRow B e 3 v (l.length+1) (l.flatMap bV++[.int .i64 (x.1:Int),.int .i64 (x.2.1:Int),.int .i64 (x.2.2:Int)])):w.ownsRow B e 3 v (l++[x]).length ((l++[x]).flatMap bV):=by
 rw[List.length_append,List.flatMap_append];simpa [bV]using h
theorem Pk.Nn(row:List (Nat×Nat))(u:Nat):∀j,(Pk.lT row u j).length<=j
 |0=>zL0
 |j+1=>by
  have:=Pk.Nn row u j;rw[Pk.lT,List.length_append]
  split
  ·split <;> simp <;> omega
  ·simp;omega
theorem Pk.Sq(gt:List Nat)(o:Nat):∀j,(Pk.mg gt o j).length<=j
 |0=>zL0
 |j+1=>by
  have:=Pk.Sq gt o j;rw[Pk.mg,List.length_append]
  split
  ·split <;> simp <;> omega
  ·simp;omega
theorem ag6{w:World}{v vg:Value}{row:List (Nat×Nat)}{gt:List Nat}(h:vG w v row)(hg:lD w vg gt)(hr:row.length<=100000)(hgl:gt.length<=100000)(u:Nat):Calls prog 51 #[v,vg,.int .i64 (u:Int)] w (TdE w (Pk.told row gt u)):=by
 obtain⟨a,c,rfl,hc⟩:=h;obtain⟨ga,gc,rfl,hgc⟩:=hg;obtain⟨i0,hii,hz0,hz1,hz2⟩:=info_parts Tryz.ak8;have H0:Hid (Below w.heap.size w w/\w.ownsRow w.heap.size 205 3 (.slice none 0 0) (Pk.lT row u 0).length ((Pk.lT row u 0).flatMap bV)):=⟨Below.refl _ _,World.ownsRow_nil _ _ _ _⟩;have HC:Hid (∀wr,Below w.heap.size w wr->∀(j:Nat)x,row[j]?=some x->∃g,a=some ⟨g,0,none⟩/\wr.cell? ⟨g,j*2,none⟩=some (.int .i64 (x.1:Int))/\wr.cell? ⟨g,j*2+1,none⟩=some (.int .i64 (x.2:Int))):=fun wr hb j x hx=>by
  obtain⟨g,e,h1,h2⟩:=hc j x hx;exact⟨g,e,aV hb h1,aV hb h2⟩
 have HG:Hid (∀wr,Below w.heap.size w wr->∀(j:Nat)x,gt[j]?=some x->∃g,ga=some ⟨g,0,none⟩/\wr.cell? ⟨g,j,none⟩=some (.int .i64 (x:Int))):=fun wr hb j x hx=>by
  obtain⟨g,e,h1⟩:=hgc j x hx;rw[Nat.mul_one]at h1;exact⟨g,e,aV hb h1⟩
 clear hc hgc;go_enter func51,ntmps51;go_wp2_with fail
 go_loopw [7,14] (fun vo i wr=>∃j:Nat,j<=row.length/\i=.int .i64 (j:Int)/\Hid (Below w.heap.size w wr/\wr.ownsRow w.heap.size 205 3 vo (Pk.lT row u j).length ((Pk.lT row u j).flatMap bV))) (fun _ i _=>row.length - (intOf i).toNat)
 case atStart=>exact⟨0,by omega,rfl,H0⟩
 case round=>
  clear H0;obtain⟨j,hj,rfl,HI⟩:=hrel;obtain⟨hb,ho⟩:=HI.out;clear HI
  by_cases hjn:j<row.length
  ·have j1:(j:Int)<(row.length:Int):=by omega
   obtain⟨x,hx⟩:∃x,row[j]?=some x:=⟨_,List.getElem?_eq_getElem hjn⟩;obtain⟨g,rfl,c1,c2⟩:=HC.out wr hb j x hx;obtain⟨y1,y2⟩:=x;simp only at c1 c2;have hl:=Pk.Nn row u j;have hN:Pk.lT row u (j+1)=Pk.lT row u j++(if y1≠0/\(y1,y2)≠(2,u) then [(y1,y2,j)] else []):=by rw[Pk.lT,hx]
   have HN:Hid _:=hN;clear hN;generalize Pk.lT row u j=tl at ho hl HN;obtain⟨oa,oc,rfl,-⟩:=aB ho;obtain⟨wa,aW⟩:∃V,V=wr.alloc (.cells #[.int .i64 (y1:Int),.int .i64 (y2:Int)] 42):=⟨_,rfl⟩;obtain⟨bx,hbx⟩:∃b,wr.heap.size=b:=⟨_,rfl⟩;have kX:aj wa bx #[.int .i64 (y1:Int),.int .i64 (y2:Int)] 42:=by rw[aW,<-hbx];exact aj.new ..
   have ho2:wa.ownsRow w.heap.size 205 3 (.slice oa tl.length oc) tl.length (tl.flatMap bV):=by rw[aW];exact ho.alloc _
   have hb2:Below w.heap.size w wa:=by rw[aW];exact hb.alloc hb.size _
   have x1:wa.cell? ⟨bx,0,none⟩=some (.int .i64 (y1:Int)):=kX.cell 0;have x2:wa.cell? ⟨bx,1,none⟩=some (.int .i64 (y2:Int)):=kX.cell 1;clear ho hb HC HG kX;have Hno:Hid (¬(y1≠0/\(y1,y2)≠(2,u))->Pk.lT row u (j+1)=tl):=fun hc=>by show Pk.lT row u (j+1)=tl;rw[HN.out,if_neg hc,List.append_nil]
   by_cases h0:y1=0
   ·have b1:((y1:Int) != 0)=false:=by simp[h0]
    have HE:Hid (Below w.heap.size w wa/\wa.ownsRow w.heap.size 205 3 (.slice oa tl.length oc) (Pk.lT row u (j+1)).length ((Pk.lT row u (j+1)).flatMap bV)):=⟨hb2,by rw[Hno.out (fun h=>h.1 h0)];exact ho2⟩;clear HN Hno hb2 ho2 h0;go_upto_region 5 with fail
    rw[<-aW];clear aW hbx;go_wp2_with fail;exact⟨⟨j+1,by omega,by go_num,HE⟩,by simp[intOf];omega⟩
   ·have b1:((y1:Int) != 0)=true:=by simp;omega
    by_cases h2:y1=2/\y2=u
    ·have HE:Hid (Below w.heap.size w wa/\wa.ownsRow w.heap.size 205 3 (.slice oa tl.length oc) (Pk.lT row u (j+1)).length ((Pk.lT row u (j+1)).flatMap bV)):=⟨hb2,by rw[Hno.out (fun h=>h.2 (by rw[h2.1,h2.2]))];exact ho2⟩
     have H2:Hid (y1=2/\y2=u):=h2;clear HN Hno hb2 ho2 h0 h2;go_upto_region 5 with fail
     rw[<-aW];clear aW hbx;have e1:((y1:Int) == 2)=true:=by simp[H2.out.1]
     have e2:((y2:Int) == (u:Int))=true:=by simp[H2.out.2]
     have e3:(y1:Int)=2:=by have:=H2.out;omega
     have e4:(y2:Int)=(u:Int):=by have:=H2.out;omega
     go_wp2_with fail;exact⟨⟨j+1,by omega,by go_num,HE⟩,by simp[intOf];omega⟩
    ·have HT:Hid (Pk.lT row u (j+1)=tl++[(y1,y2,j)]):=by
      show _=_;rw[HN.out,if_pos ⟨h0,fun e=>h2 (by cases e;exact⟨rfl,rfl⟩)⟩]
     by_cases h3:y1=2
     ·have h4:¬y2=u:=fun e=>h2 ⟨h3,e⟩
      have H3:Hid (y1=2/\¬y2=u):=⟨h3,h4⟩;clear h2 HN Hno h0 h3 h4;go_upto_region 5 with fail
      rw[<-aW];clear aW hbx;have e1:((y1:Int) == 2)=true:=by simp[H3.out.1]
      have e2:((y2:Int) == (u:Int))=false:=beq_eq_false_iff_ne.2 (by have:=H3.out;omega);have e4:¬(y2:Int)=(u:Int):=by have:=H3.out;omega
      go_wp2_with (at_builtin;refine wpList_append_own_at _ rfl _ _ 124 rfl w.heap.size 205 i0 _ 3 24 Tryz.SV hii hz0 hz1 hz2 rfl (by decide) (.slice oa tl.length oc) _ _ rfl (ho2.alloc _) ⟨_,0,none⟩ 1 1 [.int .i64 (y1:Int),.int .i64 (y2:Int),.int .i64 (j:Int)] rfl rfl (dI (aj.new _ _ 205)) (by simp[Value.oneCell']) (by unfold maxLen;omega) (by omega) (by simp;have:=hb2.size;omega) ?_;intro v5 w5 hown5 bF _ lG;obtain⟨l7,l8,hv5,-⟩:=aB hown5;subst hv5)
      refine⟨⟨j+1,by omega,by go_num,(hb2.alloc hb2.size _).grown bF (by simp;have:=hb2.size;omega) (fun k hk=>(ho2.lt k hk).1),?_⟩,by simp[intOf];omega⟩;rw[HT.out];exact RP (x:=(y1,y2,j)) hown5
     ·clear h2
      clear HN Hno h0;go_upto_region 5 with fail
      rw[<-aW];clear aW hbx;have e1:((y1:Int) == 2)=false:=zB0 (by omega);have e4:¬(y1:Int)=2:=by omega
      clear h3
      go_wp2_with (at_builtin;refine wpList_append_own_at _ rfl _ _ 124 rfl w.heap.size 205 i0 _ 3 24 Tryz.SV hii hz0 hz1 hz2 rfl (by decide) (.slice oa tl.length oc) _ _ rfl (ho2.alloc _) ⟨_,0,none⟩ 1 1 [.int .i64 (y1:Int),.int .i64 (y2:Int),.int .i64 (j:Int)] rfl rfl (dI (aj.new _ _ 205)) (by simp[Value.oneCell']) (by unfold maxLen;omega) (by omega) (by simp;have:=hb2.size;omega) ?_;intro v5 w5 hown5 bF _ lG;obtain⟨l7,l8,hv5,-⟩:=aB hown5;subst hv5)
      refine⟨⟨j+1,by omega,by go_num,(hb2.alloc hb2.size _).grown bF (by simp;have:=hb2.size;omega) (fun k hk=>(ho2.lt k hk).1),?_⟩,by simp[intOf];omega⟩;rw[HT.out];exact RP (x:=(y1,y2,j)) hown5
  ·obtain rfl:j=row.length:=by omega
   have HB:Hid (Below w.heap.size w wr):=hb;have VH:Hid (Pk.lT row u row.length++Pk.mg gt row.length gt.length=Pk.told row gt u):=rfl;have hl:=Pk.Nn row u row.length;generalize Pk.lT row u row.length=tl at ho VH hl;obtain⟨va,vc,Ed,-⟩:=aB ho;subst Ed;have H1:Hid (Below w.heap.size w wr/\wr.ownsRow w.heap.size 205 3 (.slice va tl.length vc) (tl++Pk.mg gt row.length 0).length ((tl++Pk.mg gt row.length 0).flatMap bV)):=⟨hb,by rw[Pk.mg,List.append_nil];exact ho⟩;clear hb ho HC HB;go_wp2_with fail
   go_loopw [7,37] (fun vo i wr=>∃j:Nat,j<=gt.length/\i=.int .i64 (j:Int)/\Hid (Below w.heap.size w wr/\wr.ownsRow w.heap.size 205 3 vo (tl++Pk.mg gt row.length j).length ((tl++Pk.mg gt row.length j).flatMap bV))) (fun _ i _=>gt.length - (intOf i).toNat)
   case atStart=>exact⟨0,by omega,rfl,H1⟩
   case round=>
    clear H1;revert wr;intro wz hrel;obtain⟨j,hj,rfl,HI⟩:=hrel;obtain⟨hb,ho⟩:=HI.out;clear HI
    by_cases hjn:j<gt.length
    ·have j1:(j:Int)<(gt.length:Int):=by omega
     obtain⟨t,ht⟩:∃t,gt[j]?=some t:=⟨_,List.getElem?_eq_getElem hjn⟩;obtain⟨g,rfl,c1⟩:=HG.out wz hb j t ht;have hN:Pk.mg gt row.length (j+1)=Pk.mg gt row.length j++(if t≠0 then [(1,t,row.length+j)] else []):=by rw[Pk.mg,ht]
     have hl2:=Pk.Sq gt row.length j;have HT:Hid (tl++Pk.mg gt row.length (j+1)=(tl++Pk.mg gt row.length j)++(if t≠0 then [(1,t,row.length+j)] else [])):=by show _=_;rw[hN,List.append_assoc]
     have hl3:(tl++Pk.mg gt row.length j).length<=200000:=by rw[List.length_append];omega
     clear hN hl2 HG;generalize tl++Pk.mg gt row.length j=t2 at ho HT hl3;obtain⟨oa,oc,rfl,-⟩:=aB ho
     by_cases h0:t=0
     ·have b1:((t:Int) != 0)=false:=by simp[h0]
      have HE:Hid (Below w.heap.size w wz/\wz.ownsRow w.heap.size 205 3 (.slice oa t2.length oc) (tl++Pk.mg gt row.length (j+1)).length ((tl++Pk.mg gt row.length (j+1)).flatMap bV)):=⟨hb,by rw[HT.out,if_neg (fun h=>h h0),List.append_nil];exact ho⟩;clear HT hb ho h0;go_wp2_with fail;exact⟨⟨j+1,by omega,by go_num,HE⟩,by simp[intOf];omega⟩
     ·have b1:((t:Int) != 0)=true:=by simp;omega
      have ew:IntKind.i64.wrap ((row.length:Int)+(j:Int))=(row.length:Int)+(j:Int):=by rw[IntKind.wrap_i64];omega
      have HE:Hid (tl++Pk.mg gt row.length (j+1)=t2++[(1,t,row.length+j)]):=by show _=_;rw[HT.out,if_pos h0]
      clear HT h0
      go_wp2_with (at_builtin;refine wpList_append_own_at _ rfl _ _ 124 rfl w.heap.size 205 i0 _ 3 24 Tryz.SV hii hz0 hz1 hz2 rfl (by decide) (.slice oa t2.length oc) _ _ rfl (ho.alloc _) ⟨_,0,none⟩ 1 1 [.int .i64 1,.int .i64 (t:Int),.int .i64 ((row.length:Int)+(j:Int))] rfl rfl (dI (aj.new _ _ 205)) (by simp[Value.oneCell']) (by unfold maxLen;omega) (by omega) (by simp;have:=hb.size;omega) ?_;intro v5 w5 hown5 bF _ lG;obtain⟨l7,l8,hv5,-⟩:=aB hown5;subst hv5)
      refine⟨⟨j+1,by omega,by go_num,(hb.alloc hb.size _).grown bF (by simp;have:=hb.size;omega) (fun k hk=>(ho.lt k hk).1),?_⟩,by simp[intOf];omega⟩;rw[HE.out];refine RP (x:=(1,t,row.length+j)) ?_;rw[show ((row.length+j:Nat):Int)=(row.length:Int)+(j:Int) by omega];exact hown5
    ·obtain rfl:j=gt.length:=by omega
     rw[VH.out]at ho;clear HG VH;go_wp2_with fail;go_ret;exact⟨_,rfl,ho,hb⟩
theorem Pk.ail{ak row:List (Nat×Nat×Nat)}{j b:Nat}{x:Nat×Nat×Nat}(hx:row[j]?=some x):Pk.fits ak (row.drop j) b=((ak.getD (b+x.2.2) (0,0,0)).1 == 0 && Pk.fits ak (row.drop (j+1)) b):=by
 obtain⟨h,rfl⟩:=List.getElem?_eq_some_iff.1 hx;rw[List.drop_eq_getElem_cons h];rfl
theorem ajI{w:World}{B pb b:Nat}{vP vr:Value}{ak row:List (Nat×Nat×Nat)}(hc:w.cell? ⟨pb,1,none⟩=some vP)(hP:w.ownsRow B 138 3 vP ak.length (ak.flatMap bV))(hr:lQ w vr row)(hx:∀x∈row,b+x.2.2<=1000000000)(hl:row.length<=1000000):Calls prog 86 #[.pointer (some ⟨pb,0,none⟩),.int .i64 (b:Int),vr] w fun e w'=>e=.returned (.bool (Pk.fits ak row b))/\Below w.heap.size w w':=by
 obtain⟨a,c,rfl,hrc⟩:=hr;obtain⟨pa,pc,rfl,-⟩:=aB hP;have HC:Hid (∀wr,Below w.heap.size w wr->wr.cell? ⟨pb,1,none⟩=some (.slice pa ak.length pc)/\∀i:Nat,Calls prog 59 #[.slice pa ak.length pc,.int .i64 (i:Int)] wr fun e w'=>e=.returned (.agg #[.int .i64 ((ak.getD i (0,0,0)).1:Int),.int .i64 ((ak.getD i (0,0,0)).2.1:Int),.int .i64 ((ak.getD i (0,0,0)).2.2:Int)])/\Below wr.heap.size wr w'):=fun wr hb=>⟨aV hb hc,fun i=>Yf (aC hP fun g hg=>hb.block g (hP.lt g hg).2) i⟩
 have HR:Hid (∀wr,Below w.heap.size w wr->∀(j:Nat)x,row[j]?=some x->∃g,a=some ⟨g,0,none⟩/\wr.cell? ⟨g,j*3,none⟩=some (.int .i64 (x.1:Int))/\wr.cell? ⟨g,j*3+1,none⟩=some (.int .i64 (x.2.1:Int))/\wr.cell? ⟨g,j*3+2,none⟩=some (.int .i64 (x.2.2:Int))):=fun wr hb j x hx=>by
  obtain⟨g,e,h1,h2,h3⟩:=hrc j x hx;exact⟨g,e,aV hb h1,aV hb h2,aV hb h3⟩
 have H0:Hid (Below w.heap.size w w/\Pk.fits ak (row.drop 0) b=Pk.fits ak row b):=⟨Below.refl _ _,rfl⟩;clear hrc hP hc;go_enter func86,ntmps86;go_wp2_with fail
 go_loopw [11] (fun i wr=>∃j:Nat,j<=row.length/\i=.int .i64 (j:Int)/\Hid (Below w.heap.size w wr/\Pk.fits ak (row.drop j) b=Pk.fits ak row b)) (fun i _=>row.length - (intOf i).toNat)
 case atStart=>exact⟨0,by omega,rfl,H0⟩
 case round=>
  clear H0;obtain⟨j,hj,rfl,HI⟩:=hrel;obtain⟨hb,hf⟩:=HI.out;clear HI
  by_cases hjn:j<row.length
  ·have j1:(j:Int)<(row.length:Int):=by omega
   obtain⟨x,hxj⟩:∃x,row[j]?=some x:=⟨_,List.getElem?_eq_getElem hjn⟩;obtain⟨g,rfl,c1,c2,c3⟩:=HR.out wr hb j x hxj;have hxb:=hx x (List.mem_of_getElem? hxj);rw[Pk.ail hxj]at hf;obtain⟨y1,y2,y3⟩:=x;simp only at c1 c2 c3 hxb hf;obtain⟨wa,aW⟩:∃V,V=wr.alloc (.cells #[.int .i64 (y1:Int),.int .i64 (y2:Int),.int .i64 (y3:Int)] 205):=⟨_,rfl⟩;obtain⟨bx,hbx⟩:∃b,wr.heap.size=b:=⟨_,rfl⟩;have kX:aj wa bx #[.int .i64 (y1:Int),.int .i64 (y2:Int),.int .i64 (y3:Int)] 205:=by rw[aW,<-hbx];exact aj.new ..
   have hb2:Below w.heap.size w wa:=by rw[aW];exact hb.alloc hb.size _
   have x3:wa.cell? ⟨bx,2,none⟩=some (.int .i64 (y3:Int)):=kX.cell 2;obtain⟨cP,-⟩:=HC.out wa hb2;have KU:=fun nq=>(HC.out (wa.drewN nq) ⟨hb2.1,hb2.2,hb2.3,hb2.4,hb2.5⟩).2 (b+y3)
   simp only[show ((b+y3:Nat):Int)=(b:Int)+(y3:Int) by omega]at KU;have ew:IntKind.i64.wrap ((b:Int)+(y3:Int))=(b:Int)+(y3:Int):=by rw[IntKind.wrap_i64];omega
   have HB2:Hid (∀nq w2,Below (wa.drewN nq).heap.size (wa.drewN nq) w2->Below w.heap.size w w2):=fun nq w2 h2=>by
    have:Below w.heap.size w (wa.drewN nq):=⟨hb2.1,hb2.2,hb2.3,hb2.4,hb2.5⟩;exact this.trans (h2.mono this.size)
   have HF:Hid (((ak.getD (b+y3) (0,0,0)).1 == 0 && Pk.fits ak (row.drop (j+1)) b)=Pk.fits ak row b):=hf;clear hb hf hb2 kX hx HC HR;generalize ak.getD (b+y3) (0,0,0)=d at KU HF;obtain⟨d1,d2,d3⟩:=d;simp only at KU HF;go_upto_region 4 with fail
   rw[<-aW];clear aW hbx;refine(wpIn_wide (n:=9)).1 ?_;refine mo 8 (by kernel_rfl) (by kernel_rfl) (by kernel_rfl) ?_
   dsimp only[List.take,List.drop,List.length]
   repeat (gi_big_quiet_step (fail))
   refine wpQuietIn_nil ?_;rintro _⟨J7,rfl⟩;refine wpAnyIn_ready (rs:=[8]) (by kernel_rfl) (by simp) (AllReadyIn.cons rfl (fun K2 hK2=>?_) AllReadyIn.nil)
   go_simp
   refine⟨trivial,(callsIn_wide.2 (KU _)).mono ?_⟩;rintro e w5⟨rfl,hb5⟩;have hb6:=HB2.out _ _ hb5;clear KU hb5 HB2;refine hK2 _ _ ?_;clear hK2 K2;refine wpAnyIn_ready (rs:=[9]) (by kernel_rfl) (by simp) (AllReadyIn.cons rfl (fun K2 hK2=>?_) AllReadyIn.nil)
   go_simp
   refine hK2 _ _ ?_;clear hK2 K2;refine wpAnyIn_ready (rs:=[10]) (by kernel_rfl) (by simp) (AllReadyIn.cons rfl (fun K2 hK2=>?_) AllReadyIn.nil)
   go_simp
   refine hK2 _ _ ?_;clear hK2 K2;refine wpAnyIn_ready (rs:=[11]) (by kernel_rfl) (by simp) (AllReadyIn.cons rfl (fun K2 hK2=>?_) AllReadyIn.nil)
   go_simp
   refine hK2 _ _ (wpAnyIn_done (by kernel_rfl) ?_ _);clear hK2 K2
   by_cases hd:d1=0
   ·have b1:((d1:Int) != 0)=false:=by simp[hd]
    have HE:Hid (Below w.heap.size w w5/\Pk.fits ak (row.drop (j+1)) b=Pk.fits ak row b):=⟨hb6,by rw[<-HF.out,hd];simp⟩;clear hd HF hb6;go_wp2_with fail;exact⟨⟨j+1,by omega,by go_num,HE⟩,by simp[intOf];omega⟩
   ·have b1:((d1:Int) != 0)=true:=by simp;omega
    have HE:Hid (Pk.fits ak row b=false):=by
     show _=_;rw[<-HF.out];simp[hd]
    clear HF;go_wp2_with fail;go_ret;exact⟨iN HE.out.symm,hb6⟩
  ·obtain rfl:j=row.length:=by omega
   rw[List.drop_length]at hf;have HE:Hid (Pk.fits ak row b=true):=by rw[<-hf];rfl
   clear hf;go_wp2_with fail;go_ret;exact⟨iN HE.out.symm,hb⟩
def Sl(k:Nat):Prop:=k=0\/k=1\/k=4\/k=5
def Eo:Nat->Nat
 |0=>3
 |1=>138
 |4=>81
 |_=>3
def VI:Nat->Nat
 |0=>1
 |1=>3
 |4=>2
 |_=>1
def uo(P:List (Nat×Nat))(m:Pk.Mk):Nat->Nat
 |0=>m.ay.length
 |1=>m.ak.length
 |4=>P.length
 |_=>m.aI.length
def Cy(P:List (Nat×Nat))(m:Pk.Mk):Nat->List Value
 |0=>m.ay.map bQ
 |1=>m.ak.flatMap bV
 |4=>P.flatMap eX
 |_=>m.aI.map bQ
def Ol(vs:Nat->Value)(k:Nat)(x:Value):Nat->Value:=fun j=>if j=k then x else vs j
def Gy(vT vN:Value)(vs:Nat->Value):Array Value:=#[vs 0,vs 1,vT,vN,vs 4,vs 5]
structure bZ(W0:World)(B pb:Nat)(vT vN:Value)(vs:Nat->Value)(W:World)(P:List (Nat×Nat))(m:Pk.Mk):Prop where
 blk:aj W pb (Gy vT vN vs) 79
 row:∀k,Sl k->W.ownsRow B (Eo k) (VI k) (vs k) (uo P m k) (Cy P m k)
 ne:∀k l g,Sl k->Sl l->k≠l->(vs k).ownBlock=some g->(vs l).ownBlock≠some g
 b:Below B W0 W
 lb:B<=pb
section
variable {W0 W W':World} {B pb k:Nat} {vT vN x:Value} {vs:Nat -> Value} {P P':List (Nat×Nat)} {m m':Pk.Mk}
theorem aco(k:Nat):Eo k≠79/\Eo k≠205:=by
 unfold Eo
 split <;> decide
theorem bZ.kp(h:bZ W0 B pb vT vN vs W P m):Kd W pb 79:=⟨_,h.blk⟩
theorem bZ.kr(h:bZ W0 B pb vT vN vs W P m)(hk:Sl k){g:Nat}(hg:(vs k).ownBlock=some g):Kd W g (Eo k):=eU (h.row k hk) hg
theorem bZ.size(h:bZ W0 B pb vT vN vs W P m):B<=W.heap.size:=Nat.le_trans h.lb (Nat.le_of_lt h.kp.lt)
theorem bZ.Cz(h:bZ W0 B pb vT vN vs W P m)(hk:Sl k):(vs k).ownBlock≠some pb:=fun e=>(h.kr hk e).ne h.kp (aco k).1 rfl
theorem bZ.move(h:bZ W0 B pb vT vN vs W P m)(hb:Below W.heap.size W W'):bZ W0 B pb vT vN vs W' P m where
 blk:=(hb.block pb h.kp.lt).trans h.blk
 row k hk:=aC (h.row k hk) fun g hg=>hb.block g (h.kr hk hg).lt
 ne:=h.ne
 b:=h.b.trans (hb.mono h.size)
 lb:=h.lb
theorem bZ.upd(h:bZ W0 B pb vT vN vs W P m)(hk:Sl k)(hg:W.grownBy W' (vs k).ownBlock)(ho:W'.ownsRow B (Eo k) (VI k) x (uo P' m' k) (Cy P' m' k))(hx:x.ownBlock=(vs k).ownBlock\/∃g,x.ownBlock=some g/\W.heap.size<=g)(hs:∀l,Sl l->l≠k->uo P' m' l=uo P m l/\Cy P' m' l=Cy P m l):bZ W0 B pb vT vN (Ol vs k x) (W'.setCell ⟨pb,k,none⟩ x) P' m':=by
 have kp':aj W' pb (Gy vT vN vs) 79:=(hg.block pb h.kp.lt fun e=>h.Cz hk e.symm).trans h.blk;have hxp:∀g,x.ownBlock=some g->g≠pb:=fun g e=>by
  rcases hx with hx|⟨g',e',hl⟩
  ·rintro rfl
   exact h.Cz hk (hx▸e)
  ·rw[e]at e'
   cases e';have:=h.kp.lt;omega
 have hne:∀l g,Sl l->l≠k->(vs l).ownBlock=some g->x.ownBlock≠some g:=fun l g hl hlk e e2=>by
  rcases hx with hx|⟨g',e',hlt⟩
  ·exact h.ne l k g hl hk hlk e (hx▸e2)
  ·rw[e2]at e'
   cases e';have:=(h.kr hl e).lt;omega
 refine⟨?_,fun l hl=>?_,fun l l' g hl hl' hll e e2=>?_,⟨hg.1.trans h.b.1,hg.2.trans h.b.2,hg.3.trans h.b.3,by simpa using Nat.le_trans h.b.4 hg.size,fun j hj=>(fQ _ _ (by have:=h.lb;omega)).trans ((hg.block j (Nat.lt_of_lt_of_le hj h.size) fun e=>by have:=((h.row k hk).lt j e.symm).1;omega).trans (h.b.block j hj))⟩,h.lb⟩
 ·have:=kp'.set k x
  rcases hk with rfl|rfl|rfl|rfl <;> exact this
 ·unfold Ol
  by_cases e:l=k
  ·subst e
   rw[if_pos rfl];exact aC ho fun g hg=>fQ _ _ (hxp g hg)
  ·rw[if_neg e,(hs l hl e).1,(hs l hl e).2]
   exact aC (h.row l hl) fun g hg'=>(fQ _ _ fun(e':g=pb)=>h.Cz hl (by rw[<-e'];exact hg')).trans (hg.block g (h.kr hl hg').lt fun e'=>h.ne l k g hl hk e hg' e'.symm)
 ·unfold Ol at e e2
  by_cases e3:l=k
  ·subst e3
   rw[if_pos rfl]at e;rw[if_neg fun e4=>hll e4.symm]at e2;exact hne l' g hl' (fun e4=>hll e4.symm) e2 e
  ·rw[if_neg e3]at e
   by_cases e4:l'=k
   ·subst e4
    rw[if_pos rfl]at e2;exact hne l g hl e3 e e2
   ·rw[if_neg e4]at e2
    exact h.ne l l' g hl hl' hll e e2
theorem bZ.put(h:bZ W0 B pb vT vN vs W P m)(hk:Sl k){g:Nat}(hg:(vs k).ownBlock=some g)(hgr:W.grownBy W' (some g))(ho:W'.ownsRow B (Eo k) (VI k) (vs k) (uo P' m' k) (Cy P' m' k))(hs:∀l,Sl l->l≠k->uo P' m' l=uo P m l/\Cy P' m' l=Cy P m l):bZ W0 B pb vT vN vs W' P' m' where
 blk:=(hgr.block pb h.kp.lt fun e=>by cases e;exact h.Cz hk hg).trans h.blk
 row l hl:=by
  by_cases e:l=k
  ·subst e;exact ho
  ·rw[(hs l hl e).1,(hs l hl e).2]
   exact aC (h.row l hl) fun g' hg'=>hgr.block g' (h.kr hl hg').lt fun e'=>by cases e';exact h.ne l k g hl hk e hg' hg
 ne:=h.ne
 b:=h.b.grown hgr h.size fun j e=>by cases e;exact((h.row k hk).lt g hg).1
 lb:=h.lb
theorem ZV{B':Nat}{vr:Value}{row:List (Nat×Nat×Nat)}(h:bZ W0 B pb vT vN vs W P m)(hr:W.ownsRow B' 205 3 vr row.length (row.flatMap bV))(hk:Sl k)(hg:W.grownBy W' (vs k).ownBlock):W'.ownsRow B' 205 3 vr row.length (row.flatMap bV) :=
 aC hr fun g e=>hg.block g (show Kd W g 205 from eU hr e).lt fun e'=>(show Kd W g 205 from eU hr e).ne (h.kr hk e'.symm) (fun e=>(aco k).2 e.symm) rfl
theorem Br{B' j:Nat}{vr u:Value}{row:List (Nat×Nat×Nat)}(hr:W.ownsRow B' 205 3 vr row.length (row.flatMap bV)){b t:Nat}(hb:Kd W b t)(ht:t≠205):(W.setCell ⟨b,j,none⟩ u).ownsRow B' 205 3 vr row.length (row.flatMap bV) :=
 aC hr fun g e=>fQ _ _ ((show Kd W g 205 from eU hr e).ne hb fun e=>ht e.symm)
end
end Go.Proofs.YtagkodkijkpemaaGreatDoor

import Derived.Test.YtagkodkijkpemaaGreatDoorRA31
set_option maxHeartbeats 8000000
set_option maxRecDepth 1000000
namespace Go.Proofs.YtagkodkijkpemaaGreatDoor
open Lx Go.Proofs.Tryz
open Go.RowKit Tr
theorem aj4{W:World}{B e z m:Nat}{a:Option Addr}{n c:Nat}{i:List Value}(h:W.ownsRow B e z (.slice a n c) n i)(j:m<=n)(r:0<m):W.ownsRow B e z (.slice a m c) m (i.take (m*z)):=by
 have b:m*z<=n*z:=j9 z j;refine⟨by rw[fN,h.1];omega,?_⟩;rcases h.2 with ⟨f,q⟩|⟨g,l,d,f,h2,h3,h4,o,k,p⟩
 ·cases f
  omega
 ·cases f
  refine .inr ⟨g,c,d,rfl,h2,h3,by omega,o,k,?_⟩;rw[<-p,List.take_take,sg b]
theorem uD.alq{p:Pk.T}(h:uD p)(i:Int):(Pk.gV p i).1<=2000/\(Pk.gV p i).2<=1000:=by
 unfold Pk.gV
 split
 ·rw[ed]
  cases e:p.prods[i.toNat]? with
  |none=>exact⟨by decide,by decide⟩
  |some x=>
   have:=h.pr x (cQ e);have:=h.bd.t1;have:=h.bd.n1;exact⟨by show x.1<=2000;omega,by show x.2<=1000;omega⟩
 ·exact⟨by decide,by decide⟩
section
variable {W0 W W':World} {B B' wb pb:Nat} {rv vL vS x:Value} {s:Rn.S} {v:fV} {p:Pk.T} {row:List Int}
theorem dF.pass(h:dF W0 B wb pb rv vL vS W s)(n:Nat):dF W0 B wb pb rv vL vS (W.setCell ⟨wb,2,none⟩ (.int .i64 (n:Int))) { s with passed:=n } :=
 ⟨h.blk.set 2 _,aC h.rL fun g e=>heap_set ((h.kL e).ne h.kw (by decide)),aC h.rS fun g e=>heap_set ((h.kS e).ne h.kw (by decide)),h.ne,mq h.b h.lb,h.hB,h.lb⟩
theorem dF.cut{a:Option Addr}{n b m:Nat}(h:dF W0 B wb pb rv (.slice a n b) vS W s)(f:s.pile.length=n)(c:m<=n)(g:0<m):dF W0 B wb pb rv (.slice a m b) vS (W.setCell ⟨wb,3,none⟩ (.slice a m b)) { s with pile:=s.pile.take m }:=by
 subst f;have d:W.ownsRow B 61 1 (.slice a m b) (s.pile.take m).length ((s.pile.take m).map DY):=by
  have:=aj4 h.rL c g;rw[jt]at this;rw[List.map_take,fN,sg c];exact this
 exact h.JX (l:=s.pile.take m) ⟨rfl,rfl,rfl,zL0,fun _ _ _=>rfl⟩ d (.inl (by cases a <;> rfl))
theorem aj5(h:dF W0 B wb pb rv vL vS W s)(hp:aO W0 B' pb v p)(hG:uD p){c:Nat×Nat}(D:c.1=1->c.2<300)(CO:c.1≠1->(Pk.gV p (c.2:Int)).2<s.pile.length/\c.2<200)(ac:∀q n,Pk.goto p q n<300)(ab:∀x∈s.pile,x<300)(ai:s.passed<=1000000000)(hl:s.pile.length<=1000000000/\s.steps.length<=1000000000):Calls prog 55 #[.pointer (some ⟨wb,0,none⟩),.agg #[.int .i64 (c.1:Int),.int .i64 (c.2:Int)]] W fun e W'=>e=.returned (.tuple #[])/\∃ig rC,dF W0 B wb pb rv ig rC W' (Rn.step p s c):=by
 obtain⟨i,ad⟩:∃b,W.heap.size=b:=⟨_,rfl⟩;obtain⟨w1,j⟩:∃V,V=W.alloc (.cells #[.int .i64 (c.1:Int),.int .i64 (c.2:Int)] 42):=⟨_,rfl⟩;have Q:Below W.heap.size W w1:=by rw[j];exact(cV _ _).alloc (zL0) _
 have a:aj w1 i #[.int .i64 (c.1:Int),.int .i64 (c.2:Int)] 42:=by rw[j,<-ad];exact aj.new ..
 have h1:=h.move Q;clear h Q;have x0:w1.cell? ⟨i,0,none⟩=some (.int .i64 (c.1:Int)):=a.cell 0;have x1:w1.cell? ⟨i,1,none⟩=some (.int .i64 (c.2:Int)):=a.cell 1;have O:wb≠i:=fun e=>h1.kw.ne (show Kd w1 i 42 from ⟨_,a⟩) (by decide) e
 unfold Rn.step
 by_cases hc:c.1=1
 ·rw[de hc]
  have b1:((c.1:Int) == 1)=true:=by rw[hc];rfl
  have c2:w1.cell? ⟨wb,2,none⟩=some (.int .i64 (s.passed:Int)):=h1.blk.cell 2;have f2:=h1.blk.frozen 2;have h2:=h1.pass (s.passed+1);rw[show ((s.passed+1:Nat):Int)=(s.passed:Int)+1 from rfl]at h2;have PI:=aaQ h2 (t:=c.2) (k:=-1) (D hc) (by omega) hl;have d1:(w1.setCell ⟨wb,2,none⟩ (.int .i64 ((s.passed:Int)+1))).cell? ⟨i,1,none⟩=some (.int .i64 (c.2:Int)):=(cJ (w:=w1) (heap_set (fun e=>O e.symm))).trans x1;clear h1 h2 a hc D CO;go_enter func55,ntmps55;go_upto_region 1 with fail
  rw[<-j];clear j
  go_wp2_with (go_at_call 87;refine PI.mono ?_;rintro e w3⟨rfl,ig,rC,h3⟩)
  refine fx (oY rfl _ _ _) rfl ?_;exact⟨rfl,ig,rC,h3⟩
 ·rw[dk hc]
  obtain⟨hsz,ah⟩:=CO hc;have b1:((c.1:Int) == 1)=false:=zB0 (by omega);obtain⟨F,z,GQ,-⟩:=aB h1.rL;subst GQ;have Z:w1.cell? ⟨wb,0,none⟩=some (.pointer (some ⟨pb,0,none⟩)):=h1.blk.cell 0;have AR:=RY (w:=w1.drew) ((h1.pk hp).move fun _ _=>rfl) (c.2:Int);obtain⟨y,P⟩:∃y,Pk.gV p (c.2:Int)=y:=⟨_,rfl⟩;rw[P]at AR hsz;have HN:Hid (∀w2,Below w1.heap.size w1 w2->dF W0 B wb pb rv (.slice F s.pile.length z) vS w2 s/\aj w2 i #[.int .i64 (c.1:Int),.int .i64 (c.2:Int)] 42):=fun w2 C=>⟨h1.move C,(C.block _ a.lt).trans a⟩
  clear h1 a D CO hc;go_enter func55,ntmps55;go_upto_region 1 with fail
  rw[<-j];clear j;go_upto_region 4 with fail
  go_region_law (refine fP rfl 17 #[.pointer (some ⟨pb,0,none⟩),.int .i64 (c.2:Int)] (by go_simp) AR ?_;rintro e w2⟨rfl,f⟩;refine⟨_,rfl,?_⟩)
  all_goals
   obtain⟨h2,a⟩:=HN.out w2 ⟨f.1,f.2,f.3,f.4,f.5⟩;clear f x0 x1 Z;have c3:w2.cell? ⟨wb,3,none⟩=some (.slice F s.pile.length z):=h2.blk.cell 3;have f3:=h2.blk.frozen 3;have ag:s.pile.length<=z:=Ni h2.rL;obtain⟨m,hm⟩:∃m,s.pile.length-y.2=m:=⟨_,rfl⟩;have aa:(s.pile.length:Int) - (y.2:Int)=(m:Int):=by omega
   have m0:(0:Int)<=(m:Int):=by omega
   have m1:(m:Int)<=(z:Int):=by omega
   have m2:¬z=0:=by omega
   have K:Hid (∀L,dF W0 B wb pb rv (.slice F m z) vS ((w2.drewN L).setCell ⟨wb,3,none⟩ (.slice F m z)) { s with pile:=s.pile.take m }/\aj ((w2.drewN L).setCell ⟨wb,3,none⟩ (.slice F m z)) i #[.int .i64 (c.1:Int),.int .i64 (c.2:Int)] 42):=fun L=>⟨(h2.move (W':=w2.drewN L) ⟨rfl,rfl,rfl,zL0,fun _ _=>rfl⟩).cut rfl (by omega) (by omega),(show aj (w2.drewN L) i _ 42 from a).other O _⟩
   clear h2 a;go_upto_region 5 with fail
   simp only[Act.put,iz,mv,ms,List.getElem_toArray,List.getElem_cons_succ,tB];refine(oX (n:=9)).1 ?_;refine mo 15 (by kernel_rfl) (by kernel_rfl) (by kernel_rfl) ?_
   dsimp only[List.take,List.drop,List.length]
   repeat (gi_big_quiet_step (fail))
   refine wpQuietIn_nil ?_;rintro _⟨J7,rfl⟩;refine wpAnyIn_ready (rs:=[15]) (by kernel_rfl) (by simp) (AllReadyIn.cons rfl (fun K2 R=>?_) AllReadyIn.nil)
   go_simp
   refine R _ _ (wpAnyIn_done (by kernel_rfl) ?_ _);clear R K2;obtain⟨h3,a⟩:=K.out J7;clear K c3 f3 m0 m1 m2 aa;generalize (w2.drewN J7).setCell ⟨wb,3,none⟩ (.slice F m z)=w3 at h3 a|-;have I:(s.pile.take m)≠[]:=by
    rw[<-List.length_pos_iff,fN];omega
   obtain⟨u,E⟩:∃u:Rn.S,u={ s with pile:=s.pile.take m }:=⟨_,rfl⟩;have AP:Rn.less p s c.2=u:=by unfold Rn.less;rw[P,hm,E]
   have Y:u.pile≠[]:=by rw[E];exact I
   have X:∀x∈u.pile,x<300:=by rw[E];exact fun x hx=>ab x (nz hx)
   have M:u.pile.length<=1000000000:=by rw[E];show (s.pile.take m).length<=_;rw[fN];omega
   have uf:u.steps=s.steps/\u.passed=s.passed:=by rw[E];exact⟨rfl,rfl⟩
   rw[<-E]at h3;clear E I;have Z:w3.cell? ⟨wb,0,none⟩=some (.pointer (some ⟨pb,0,none⟩)):=h3.blk.cell 0;have Gx:=aiB (h3.pk hp);have N:Hid (∀d,Below w3.heap.size w3 d->dF W0 B wb pb rv (.slice F m z) vS d u/\aj d i #[.int .i64 (c.1:Int),.int .i64 (c.2:Int)] 42):=fun d C=>⟨h3.move C,(C.block _ a.lt).trans a⟩
   clear h3 a HN;go_upto_region 7 with (go_at_call 14;refine Gx.mono ?_;rintro e d⟨rfl,U⟩)
   obtain⟨h4,a⟩:=N.out d U;clear N U Gx Z;have Z:d.cell? ⟨wb,0,none⟩=some (.pointer (some ⟨pb,0,none⟩)):=h4.blk.cell 0;have x1:d.cell? ⟨i,1,none⟩=some (.int .i64 (c.2:Int)):=a.cell 1;have ae:=(hG.alq (c.2:Int)).1;rw[P]at ae;have ak:=hG.bd.t1;have ew:IntKind.i64.wrap ((y.1:Int) - (p.toks.length:Int))=(y.1:Int) - (p.toks.length:Int):=by rw[gw];omega
   have J:=Z7 (h4.move (W':=d.drew) ⟨rfl,rfl,rfl,zL0,fun _ _=>rfl⟩) Y X M;obtain⟨G,A⟩:∃g,Pk.goto p (Rn.top u:Int) ((y.1:Int) - (p.toks.length:Int))=g:=⟨_,rfl⟩;have af:G<300:=by rw[<-A];exact ac _ _
   have HX:Hid (∀o,Below d.heap.size d o->o.cell? ⟨wb,0,none⟩=some (.pointer (some ⟨pb,0,none⟩))/\o.cell? ⟨i,1,none⟩=some (.int .i64 (c.2:Int))/\Calls prog 16 #[.pointer (some ⟨pb,0,none⟩),.int .i64 (Rn.top u:Int),.int .i64 ((y.1:Int) - (p.toks.length:Int))] o (fun e w'=>e=.returned (.int .i64 (G:Int))/\Below o.heap.size o w')/\Calls prog 87 #[.pointer (some ⟨wb,0,none⟩),.int .i64 (G:Int),.int .i64 (c.2:Int)] o fun e W'=>e=.returned (.tuple #[])/\∃ig rC,dF W0 B wb pb rv ig rC W' { u with pile:=u.pile++[G],steps:=u.steps++[(c.2:Int)] }):=fun o C=>by
    have h5:=h4.move C;have k5:aj o i #[.int .i64 (c.1:Int),.int .i64 (c.2:Int)] 42:=(C.block _ a.lt).trans a;have r:=aj3 (h5.pk hp) hG (Rn.top u:Int) ((y.1:Int) - (p.toks.length:Int));rw[A]at r;exact⟨h5.blk.cell 0,k5.cell 1,r,aaQ h5 af (by omega) ⟨M,by rw[uf.1];exact hl.2⟩⟩
   have HR:Hid (Rn.reduce p s c.2={ u with pile:=u.pile++[G],steps:=u.steps++[(c.2:Int)] }):=by
    show Rn.reduce p s c.2=_;unfold Rn.reduce;rw[AP,P,A,uf.1,uf.2]
   clear h4 a A AP P Y X
   go_region_law (first
    | (refine fP rfl 52 #[.pointer (some ⟨wb,0,none⟩)] (by go_simp) J ?_;rintro e o⟨rfl,l⟩;refine⟨_,rfl,?_⟩;clear J;have Uy:Below d.heap.size d o:=⟨l.1,l.2,l.3,l.4,l.5⟩;obtain⟨c5,x5,r,-⟩:=HX.out o Uy;clear l)
    | (refine fP rfl 16 #[.pointer (some ⟨pb,0,none⟩),.int .i64 (Rn.top u:Int),.int .i64 ((y.1:Int) - (p.toks.length:Int))] (by go_simp) r ?_;rintro e w6⟨rfl,H⟩;refine⟨_,rfl,?_⟩;clear r;have yZ:Below d.heap.size d w6:=Uy.trans (H.mono Uy.size);obtain⟨c6,x6,-,PI⟩:=HX.out w6 yZ;clear H HX)
    | (refine fP rfl 87 #[.pointer (some ⟨wb,0,none⟩),.int .i64 (G:Int),.int .i64 (c.2:Int)] (by go_simp) PI ?_;rintro e w7⟨rfl,ig,rC,h7⟩;refine⟨_,rfl,?_⟩;clear PI))
   all_goals
    go_wp2_with fail
    go_end0
    exact⟨rfl,ig,rC,by rw[HR.out];exact h7⟩
end
namespace Rn
def most(row:List Int):Nat:=200*(row.length+5)
def work(p:Pk.T)(row:List Int):Nat->S->(Nat×Nat)×S
 |0,s=>((12,0),s)
 |n+1,s=>if (Pk.act p (top s:Int) (ahead row s)).1=3 then ((0,0),s) else if can p row s (Pk.act p (top s:Int) (ahead row s))=false then ((11,s.passed),s) else if s.steps.length=most row then ((12,0),s) else work p row n (step p s (Pk.act p (top s:Int) (ahead row s)))
def yt(p:Pk.T)(n:Nat)(k:Int)(x:Nat×Nat):Option (Nat×Nat):=if k=-1 then (if x.1<n then some (x.1+1,x.2+1) else none) else if 0<=k/\(Pk.gV p k).2<=x.2 then some (x.1,x.2 - (Pk.gV p k).2+1) else none
def re(p:Pk.T)(n:Nat)(l:List Int):Option (Nat×Nat):=l.foldl (fun o k=>o.bind (yt p n k)) (some (0,0))
theorem acF(p:Pk.T)(n:Nat)(l:List Int)(k:Int):re p n (l++[k])=(re p n l).bind (yt p n k):=by
 unfold re;rw[py];rfl
structure I(p:Pk.T)(row:List Int)(s:S):Prop where
 ne:s.pile≠[]
 lo:∀x∈s.pile,x<300
 pa:s.passed<=row.length
 st:s.steps.length<=most row
 pl:s.pile.length<=s.steps.length+1
 re:re p row.length s.steps=some (s.passed,s.pile.length-1)
 sk:∀k∈s.steps,-1<=k/\k<200
theorem abN{p:Pk.T}(b:uD p)(q s:Nat):((Pk.cell p q s).2<300)/\((Pk.cell p q s).1=2->(Pk.cell p q s).2<p.prods.length):=by
 unfold Pk.cell
 split
 ·unfold Pk.BA
  rw[ed];cases e:p.ak[p.ay.getD q 0+s]? with
  |none=>exact⟨by decide,fun h=>by cases h⟩
  |some x=>
   have h:=b.pl _ _ e;have h1:=b.bd.s1;have h2:=b.p0.2;show x.2.1<300/\(x.1=2->x.2.1<p.prods.length);rcases h with rfl|⟨-,h⟩
   ·exact⟨by decide,fun h=>by cases h⟩
   ·unfold Pk.BS at h
    simp only[j',ii]at h;obtain⟨⟨⟨h3,-⟩,h4⟩,-⟩:=h;obtain a|a|a|a|a:x.1=0\/x.1=1\/x.1=2\/x.1=3\/x.1=4:=by omega
    all_goals
     rw[a]at h4;simp only[Pk.bound]at h4;exact⟨by omega,fun h=>by omega⟩
 ·exact⟨by decide,fun h=>by cases h⟩
theorem al9{p:Pk.T}(a:uD p)(q n:Int):(Pk.act p q n).2<300/\((Pk.act p q n).1=2->(Pk.act p q n).2<p.prods.length):=by
 have h2:=a.p0.2;unfold Pk.act
 split
 ·split
  ·have:p.aI.getD q.toNat 0<p.prods.length:=by
    rw[ed];cases e:p.aI[q.toNat]? with
    |none=>exact a.p0.1
    |some x=>exact a.df x (cQ e)
   exact⟨by show p.aI.getD q.toNat 0<300;omega,fun _=>this⟩
  ·exact abN a _ _
 ·exact⟨by decide,fun h=>by cases h⟩
theorem abO{p:Pk.T}(a:uD p)(q n:Int):Pk.goto p q n<300:=by
 unfold Pk.goto
 split
 ·exact(abN a _ _).1
 ·decide
theorem I.stepped{p:Pk.T}{row:List Int}{s:S}(h:I p row s)(f:uD p){c:Nat×Nat}(d:can p row s c=true)(h3:c.2<300)(h2:c.1=2->c.2<p.prods.length)(l:s.steps.length≠most row):I p row (step p s c):=by
 have g:=List.length_pos_iff.2 h.ne;have i:=h.st;unfold can at d;unfold step
 by_cases e1:c.1=1
 ·rw[de e1]at d|-
  rw[ii]at d;unfold shift;refine⟨by simp,fun x a=>?_,d,by simp;omega,by have:=h.pl;simp;omega,?_,fun k b=>?_⟩
  ·rcases cY.1 a with a | a
   ·exact h.lo x a
   ·rw[cM]at a;omega
  ·rw[acF,h.re]
   show yt p row.length (-1) (s.passed,s.pile.length-1)=some (s.passed+1,(s.pile++[c.2]).length-1);unfold yt;rw[de rfl,de d];simp;omega
  ·rcases cY.1 b with b | b
   ·exact h.sk k b
   ·rw[cM]at b;omega
 ·rw[dk e1]at d|-
  by_cases e2:c.1=2
  ·rw[de e2,ii]at d
   have j:=h2 e2;have m:=f.p0.2;unfold reduce less
   dsimp only
   refine⟨by simp,fun x a=>?_,h.pa,by simp;omega,by have:=h.pl;simp;omega,?_,fun k b=>?_⟩
   ·rcases cY.1 a with a | a
    ·exact h.lo x (nz a)
    ·rw[cM]at a;rw[a];exact abO f _ _
   ·rw[acF,h.re]
    show yt p row.length (c.2:Int) (s.passed,s.pile.length-1)=_;unfold yt;rw[dk (by omega),de ⟨by omega,by dsimp only;omega⟩];simp;omega
   ·rcases cY.1 b with b | b
    ·exact h.sk k b
    ·rw[cM]at b;omega
  ·rw[dk e2]at d
   cases d
end Rn
end Go.Proofs.YtagkodkijkpemaaGreatDoor

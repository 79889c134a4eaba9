import Derived.Test.YtfpjphhnjegnjaaGreatDoorCL05
set_option maxHeartbeats 8000000
set_option maxRecDepth 1000000
namespace Go.Proofs.YtfpjphhnjegnjaaGreatDoor
open Lx Go.Proofs.Tryz
open Go.RowKit Tr
open Go.Value renaming slice→ς,int→ι,pointer→π,agg→γ,tuple→θ
open Go.IntKind renaming i64→ξ
open Option renaming none→ν,some→ο
open Go.Ending renaming returned→δ
open Go.Obj renaming cells→ζ
open Bool renaming true→η,false→ε
open Go renaming World→ω,Value→υ,Calls→χ
open Go.RowKit renaming Below→φ
namespace Rn
def most(row:List Int):Nat:=200*(row.length+5)
def work(p:Pk.T)(row:List Int):Nat->S->(Nat×Nat)×S
 |0,s=>((12,0),s)
 |n+1,s=>if (Pk.act p (top s:Int) (ahead row s)).1=3 then ((0,0),s) else if can p row s (Pk.act p (top s:Int) (ahead row s))=ε then ((11,s.passed),s) else if s.steps.length=most row then ((12,0),s) else work p row n (step p s (Pk.act p (top s:Int) (ahead row s)))
def wH(p:Pk.T)(n:Nat)(k:Int)(x:Nat×Nat):Option (Nat×Nat):=if k=-1 then (if x.1<n then ο (x.1+1,x.2+1) else ν) else if 0<=k/\(Pk.bH p k).2<=x.2 then ο (x.1,x.2 - (Pk.bH p k).2+1) else ν
def re(p:Pk.T)(n:Nat)(l:List Int):Option (Nat×Nat):=l.foldl (fun o k=>o.bind (wH p n k)) (ο (0,0))
theorem acF(p:Pk.T)(n:Nat)(l:List Int)(k:Int):re p n (l++[k])=(re p n l).bind (wH p n k):=by
 unfold re;rw[pB];rfl
structure I(p:Pk.T)(row:List Int)(s:S):Prop where
 ne:s.pile≠[]
 lo:∀x∈s.pile,x<300
 pa:s.passed<=row.length
 st:s.steps.length<=most row
 pl:s.pile.length<=s.steps.length+1
 re:re p row.length s.steps=ο (s.passed,s.pile.length-1)
 sk:∀k∈s.steps,-1<=k/\k<200
theorem abD{p:Pk.T}(b:pJ p)(q s:Nat):((Pk.cell p q s).2<300)/\((Pk.cell p q s).1=2->(Pk.cell p q s).2<p.prods.length):=by
 unfold Pk.cell
 split
 ·unfold Pk.BP
  rw[di];cases e:p.ak[p.aD.getD q 0+s]? with
  |none=>exact⟨by decide,fun h=>by cases h⟩
  |some x=>
   have h:=b.pl _ _ e;have h1:=b.bd.s1;have h2:=b.p0.2;show x.2.1<300/\(x.1=2->x.2.1<p.prods.length);rcases h with rfl|⟨-,h⟩
   ·exact⟨by decide,fun h=>by cases h⟩
   ·unfold Pk.Al at h
    simp only[Bool.and_eq_true,decide_eq_true_eq]at h;obtain⟨⟨⟨h3,-⟩,h4⟩,-⟩:=h;obtain a|a|a|a|a:x.1=0\/x.1=1\/x.1=2\/x.1=3\/x.1=4:=by omega
    all_goals
     rw[a]at h4;simp only[Pk.bound]at h4;exact⟨by omega,fun h=>by omega⟩
 ·exact⟨by decide,fun h=>by cases h⟩
theorem amo{p:Pk.T}(a:pJ p)(q n:Int):(Pk.act p q n).2<300/\((Pk.act p q n).1=2->(Pk.act p q n).2<p.prods.length):=by
 have h2:=a.p0.2;unfold Pk.act
 split
 ·split
  ·have:p.aH.getD q.toNat 0<p.prods.length:=by
    rw[di];cases e:p.aH[q.toNat]? with
    |none=>exact a.p0.1
    |some x=>exact a.df x (cM e)
   exact⟨by show p.aH.getD q.toNat 0<300;omega,fun _=>this⟩
  ·exact abD a _ _
 ·exact⟨by decide,fun h=>by cases h⟩
theorem abE{p:Pk.T}(a:pJ p)(q n:Int):Pk.goto p q n<300:=by
 unfold Pk.goto
 split
 ·exact(abD a _ _).1
 ·decide
theorem I.stepped{p:Pk.T}{row:List Int}{s:S}(h:I p row s)(f:pJ p){c:Nat×Nat}(d:can p row s c=η)(h3:c.2<300)(h2:c.1=2->c.2<p.prods.length)(l:s.steps.length≠most row):I p row (step p s c):=by
 have j:=xo.2 h.ne;have g:=h.st;unfold can at d;unfold step
 by_cases e1:c.1=1
 ·rw[du e1]at d|-
  rw[me]at d;unfold shift;refine⟨by simp,fun x a=>?_,d,by simp;omega,by have:=h.pl;simp;omega,?_,fun k b=>?_⟩
  ·rcases dq.1 a with a | a
   ·exact h.lo x a
   ·rw[dd]at a;omega
  ·rw[acF,h.re]
   show wH p row.length (-1) (s.passed,s.pile.length-1)=ο (s.passed+1,(s.pile++[c.2]).length-1);unfold wH;rw[du rfl,du d];simp;omega
  ·rcases dq.1 b with b | b
   ·exact h.sk k b
   ·rw[dd]at b;omega
 ·rw[dt e1]at d|-
  by_cases e2:c.1=2
  ·rw[du e2,me]at d
   have i:=h2 e2;have hp:=f.p0.2;unfold reduce less
   dsimp only
   refine⟨by simp,fun x a=>?_,h.pa,by simp;omega,by have:=h.pl;simp;omega,?_,fun k b=>?_⟩
   ·rcases dq.1 a with a | a
    ·exact h.lo x (mw a)
    ·rw[dd]at a;rw[a];exact abE f _ _
   ·rw[acF,h.re]
    show wH p row.length (c.2:Int) (s.passed,s.pile.length-1)=_;unfold wH;rw[dt (by omega),du ⟨by omega,by dsimp only;omega⟩];simp;omega
   ·rcases dq.1 b with b | b
    ·exact h.sk k b
    ·rw[dd]at b;omega
  ·rw[dt e2]at d
   cases d
end Rn
section
variable{W0 W W':ω}{B B' wb pb:Nat}{rv vL vS x:υ}{s:Rn.S}{v:cu}{p:Pk.T}{row:List Int}
theorem ajK(h:dV W0 B wb pb rv vL vS W s)(hI:Rn.I p row s)(hp:aQ W0 B' pb v p)(Q:pJ p)(hr:qg W0 rv row)(ag:row.length<=1048576):χ prog 49 #[π (ο ⟨wb,0,ν⟩)] W fun e W'=>∃gu qV,e=δ (θ #[ι ξ ((Rn.work p row (Rn.most row+1-s.steps.length) s).1.1:Int),ι ξ ((Rn.work p row (Rn.most row+1-s.steps.length) s).1.2:Int)])/\dV W0 B wb pb rv gu qV W' (Rn.work p row (Rn.most row+1-s.steps.length) s).2/\Rn.I p row (Rn.work p row (Rn.most row+1-s.steps.length) s).2:=by
  obtain⟨ra,rc,AU,-,-⟩:=id hr;have c1:W.cell? ⟨wb,1,ν⟩=ο (ς ra row.length rc):=by rw[<-AU];exact h.blk.cell 1
  obtain⟨M,P⟩:=aF (Rn.most row);have eM:200*((row.length:Int)+5)=(M:Int):=by rw[<-P];unfold Rn.most;omega
  have ad:M<=300000000:=by rw[<-P];unfold Rn.most;omega
  rw[P];obtain⟨R,j⟩:=aF (Rn.work p row (M+1-s.steps.length) s);rw[j];have H0:Hid (∃s1 E D,M+1-s.steps.length=M+1-s1.steps.length/\dV W0 B wb pb rv E D W s1/\Rn.I p row s1/\Rn.work p row (M+1-s.steps.length) s1=R):=⟨s,vL,vS,rfl,h,hI,j⟩;clear h hI j;go_enter func49,ntmps49;go_wp2_with fail
  go_loopg [] (M+1-s.steps.length) (fun n wr=>Hid (∃s1 E D,n=M+1-s1.steps.length/\dV W0 B wb pb rv E D wr s1/\Rn.I p row s1/\Rn.work p row n s1=R))
  case atStart=>exact H0
  case round=>
    clear H0 c1;obtain⟨s1,E,D,hn,h1,b,hW⟩:=hrel.out;clear hrel;have ab:=b.st;rw[P]at ab;obtain⟨k,hk⟩:∃k,gk=k+1:=⟨gk-1,by omega⟩;rw[hk,Rn.work,P]at hW;obtain⟨N,K⟩:=aF (Rn.top s1);obtain⟨J,H⟩:=aF (Rn.ahead row s1);obtain⟨c,hc⟩:=aF (Pk.act p (N:Int) J);rw[K,H,hc]at hW;have A:=Rn.amo Q (N:Int) J;rw[hc]at A;have O9:s1.pile.length<=1000000000:=by have:=b.pl;omega
    have Qp:Hid (∀g,φ wr.heap.size wr g->χ prog 101 #[π (ο ⟨wb,0,ν⟩)] g fun e W'=>e=δ (ι ξ (N:Int))/\φ g.heap.size g W'):=fun g u=>by rw[<-K];exact aag (h1.move u) b.ne b.lo O9
    have Qq:Hid (∀g,φ wr.heap.size wr g->χ prog 102 #[π (ο ⟨wb,0,ν⟩)] g fun e W'=>e=δ (ι ξ J)/\φ g.heap.size g W'):=fun g u=>by rw[<-H];exact aix (h1.move u) hr b.pa
    have Qr:Hid (∀g,φ wr.heap.size wr g->χ prog 100 #[π (ο ⟨pb,0,ν⟩),ι ξ (N:Int),ι ξ J] g fun e W'=>e=δ (γ #[ι ξ (c.1:Int),ι ξ (c.2:Int)])/\φ g.heap.size g W'):=fun g u=>by rw[<-hc];exact ahp ((h1.move u).pk hp) Q (N:Int) J
    have lw:=h1.blk.lt;have F:Hid (∀g,φ wr.heap.size wr g->g.cell? ⟨wb,0,ν⟩=ο (π (ο ⟨pb,0,ν⟩))):=fun g u=>(h1.move u).blk.cell 0
    have C:φ wr.heap.size wr wr.drew:=⟨rfl,rfl,rfl,zL0,fun _ _=>rfl⟩;have X:φ wr.heap.size wr (wr.alloc (ζ #[ι ξ 0,ι ξ 0] 118)).drew:=by
      have:=(cV wr.heap.size wr).alloc (zL0) (ζ #[ι ξ 0,ι ξ 0] 118);exact⟨this.1,this.2,this.3,this.4,this.5⟩
    have c0:=h1.blk.a0;have cA:=F.out (wr.alloc (ζ #[ι ξ 0,ι ξ 0] 118)) ((cV wr.heap.size wr).alloc (zL0) (ζ #[ι ξ 0,ι ξ 0] 118));have HK:Hid (aj (wr.alloc (ζ #[ι ξ 0,ι ξ 0] 118)).drew wr.heap.size #[ι ξ 0,ι ξ 0] 118):=(aj.new ..).drew;have HM:Hid (dV W0 B wb pb rv E D wr s1/\Rn.I p row s1):=⟨h1,b⟩;have G:Hid (_=R):=hW;have HN:Hid (gk=M+1-s1.steps.length/\gk=k+1):=⟨hn,hk⟩;clear h1 b K H hc hW hn hk;go_upto_region 2 with fail
    go_region_law (first
      | (refine eZ rfl 101 #[π (ο ⟨wb,0,ν⟩)] (by go_simp) (Qp.out _ X) ?_;rintro e w2⟨rfl,t⟩;refine⟨_,rfl,?_⟩;clear Qp;have kt:=(t.block _ HK.out.lt).trans HK.out;have a:φ wr.heap.size wr w2:=X.trans (t.mono X.size);have c2:=F.out _ a;clear t)
      | (refine eZ rfl 101 #[π (ο ⟨wb,0,ν⟩)] (by go_simp) (Qp.out _ C) ?_;rintro e w2⟨rfl,t⟩;refine⟨_,rfl,?_⟩;clear Qp;have a:φ wr.heap.size wr w2:=C.trans (t.mono C.size);have c2:=F.out _ a;have Y:φ wr.heap.size wr (w2.alloc (ζ #[ι ξ 0,ι ξ 0] 118)):=a.alloc a.size (ζ #[ι ξ 0,ι ξ 0] 118);have af:=F.out _ Y;clear t)
      | (refine eZ rfl 102 #[π (ο ⟨wb,0,ν⟩)] (by go_simp) (Qq.out _ a) ?_;rintro e r⟨rfl,o⟩;refine⟨_,rfl,?_⟩;clear Qq;have z:φ wr.heap.size wr r:=a.trans (o.mono a.size);have c3:=F.out _ z;(first | (have WS:=(o.block _ (aj.lt kt)).trans kt) | (have Pf:φ wr.heap.size wr (r.alloc (ζ #[ι ξ 0,ι ξ 0] 118)):=z.alloc z.size (ζ #[ι ξ 0,ι ξ 0] 118);have ae:=F.out _ Pf));clear o)
      | (refine eZ rfl 102 #[π (ο ⟨wb,0,ν⟩)] (by go_simp) (Qq.out _ Y) ?_;rintro e r⟨rfl,o⟩;refine⟨_,rfl,?_⟩;clear Qq;have z:φ wr.heap.size wr r:=Y.trans (o.mono Y.size);have c3:=F.out _ z;have WS:aj r w2.heap.size #[ι ξ 0,ι ξ 0] 118:=(o.block _ (aj.new ..).lt).trans (aj.new ..);clear o)
      | (refine eZ rfl 100 #[π (ο ⟨pb,0,ν⟩),ι ξ (N:Int),ι ξ J] (by go_simp) (Qr.out _ z) ?_;rintro e f⟨rfl,m⟩;refine⟨_,rfl,?_⟩;clear Qr;have O:φ wr.heap.size wr f:=z.trans (m.mono z.size);(first | (have y:aj f _ #[ι ξ 0,ι ξ 0] 118:=(m.block _ (aj.lt WS)).trans WS;have t0:f.cell? ⟨_,0,ν⟩=ο (ι ξ 0):=y.cell 0;have t1:f.cell? ⟨_,1,ν⟩=ο (ι ξ 0):=y.cell 1;have f0:=y.frozen 0;have f1:=y.frozen 1) | skip);clear m)
      | (refine eZ rfl 100 #[π (ο ⟨pb,0,ν⟩),ι ξ (N:Int),ι ξ J] (by go_simp) (Qr.out _ Pf) ?_;rintro e f⟨rfl,m⟩;refine⟨_,rfl,?_⟩;clear Qr;have O:φ wr.heap.size wr f:=Pf.trans (m.mono Pf.size);have y:aj f r.heap.size #[ι ξ 0,ι ξ 0] 118:=(m.block _ (aj.new ..).lt).trans (aj.new ..);have t0:f.cell? ⟨_,0,ν⟩=ο (ι ξ 0):=y.cell 0;have t1:f.cell? ⟨_,1,ν⟩=ο (ι ξ 0):=y.cell 1;have f0:=y.frozen 0;have f1:=y.frozen 1;clear m))
    all_goals first
      | (have q:aj (f.alloc (ζ #[ι ξ (c.1:Int),ι ξ (c.2:Int)] 118)) f.heap.size #[ι ξ (c.1:Int),ι ξ (c.2:Int)] 118:=aj.new ..
         have d:φ wr.heap.size wr (f.alloc (ζ #[ι ξ (c.1:Int),ι ξ (c.2:Int)] 118)):=O.alloc O.size _;generalize f.alloc (ζ #[ι ξ (c.1:Int),ι ξ (c.2:Int)] 118)=w5 at q d|-
         change (Exit.then _ _) Exit.normal _ w5)
      | (have q:aj ((f.setCell ⟨wr.heap.size,0,ν⟩ (ι ξ (c.1:Int))).setCell ⟨wr.heap.size,1,ν⟩ (ι ξ (c.2:Int))) wr.heap.size #[ι ξ (c.1:Int),ι ξ (c.2:Int)] 118:=(y.set 0 _).set 1 _
         have d:φ wr.heap.size wr ((f.setCell ⟨wr.heap.size,0,ν⟩ (ι ξ (c.1:Int))).setCell ⟨wr.heap.size,1,ν⟩ (ι ξ (c.2:Int))):=l6 (l6 O (zL0)) (zL0);generalize (f.setCell ⟨wr.heap.size,0,ν⟩ (ι ξ (c.1:Int))).setCell ⟨wr.heap.size,1,ν⟩ (ι ξ (c.2:Int))=w5 at q d|-
         change (Exit.then _ _) Exit.normal _ w5)
      | (have q:aj ((f.setCell ⟨w2.heap.size,0,ν⟩ (ι ξ (c.1:Int))).setCell ⟨w2.heap.size,1,ν⟩ (ι ξ (c.2:Int))) w2.heap.size #[ι ξ (c.1:Int),ι ξ (c.2:Int)] 118:=(y.set 0 _).set 1 _
         have d:φ wr.heap.size wr ((f.setCell ⟨w2.heap.size,0,ν⟩ (ι ξ (c.1:Int))).setCell ⟨w2.heap.size,1,ν⟩ (ι ξ (c.2:Int))):=l6 (l6 O a.size) a.size;generalize (f.setCell ⟨w2.heap.size,0,ν⟩ (ι ξ (c.1:Int))).setCell ⟨w2.heap.size,1,ν⟩ (ι ξ (c.2:Int))=w5 at q d|-
         change (Exit.then _ _) Exit.normal _ w5)
      | (have q:aj ((f.setCell ⟨r.heap.size,0,ν⟩ (ι ξ (c.1:Int))).setCell ⟨r.heap.size,1,ν⟩ (ι ξ (c.2:Int))) r.heap.size #[ι ξ (c.1:Int),ι ξ (c.2:Int)] 118:=(y.set 0 _).set 1 _
         have d:φ wr.heap.size wr ((f.setCell ⟨r.heap.size,0,ν⟩ (ι ξ (c.1:Int))).setCell ⟨r.heap.size,1,ν⟩ (ι ξ (c.2:Int))):=l6 (l6 O z.size) z.size;generalize (f.setCell ⟨r.heap.size,0,ν⟩ (ι ξ (c.1:Int))).setCell ⟨r.heap.size,1,ν⟩ (ι ξ (c.2:Int))=w5 at q d|-
         change (Exit.then _ _) Exit.normal _ w5)
    all_goals
      clear c0 cA F C X HK a z O;obtain⟨h1,b⟩:=HM.out;have L:=h1.move d;obtain⟨sa,sc,oG,-⟩:=aB L.rS;have y0:=q.a0;have y1:=q.a1
      by_cases h3:c.1=3
      · have b1:((c.1:Int) == 3)=η:=by rw[h3];rfl
        have j:R=((0,0),s1):=by rw[<-G.out,du h3]
        clear h3 G q h1 d;go_wp2_with fail
        go_ret2
        exact⟨E,D,by rw[j];rfl,by rw[j];exact L,by rw[j];exact b⟩
      · have b1:((c.1:Int) == 3)=ε:=zB0 (by omega)
        have U:=alj L hr hp c;cases hu:Rn.can p row s1 c with
        |false=>
          rw[hu]at U;have j:R=((11,s1.passed),s1):=by rw[<-G.out,dt h3,du hu]
          clear G q h1 d;go_upto_region 6 with (go_at_call 103;refine U.mono ?_;rintro e l⟨rfl,i⟩)
          have h6:=L.move i;have c2:=h6.blk.a2
          go_quiet (fail)
          go_wp2_with fail
          go_ret2
          exact⟨E,D,by rw[j];rfl,by rw[j];exact h6.move ⟨rfl,rfl,rfl,zL0,fun _ _=>rfl⟩,by rw[j];exact b⟩
        |true=>
          rw[hu]at U;have Z:Hid (∀l,φ w5.heap.size w5 l->l.cell? ⟨wb,4,ν⟩=ο (ς sa s1.steps.length sc)/\l.cell? ⟨_,0,ν⟩=ο (ι ξ (c.1:Int))/\l.cell? ⟨_,1,ν⟩=ο (ι ξ (c.2:Int))):=fun l u=>by
            have k6:=q.on u;exact⟨by rw[<-oG];exact(L.move u).blk.cell 4,k6.cell 0,k6.cell 1⟩
          by_cases LC:s1.steps.length=M
          · have b2:((s1.steps.length:Int) == (M:Int))=η:=by rw[LC];exact tj _
            have j:R=((12,0),s1):=by rw[<-G.out,dt h3,dt (by rw[hu];simp),du LC]
            clear G q h1 d LC;go_upto_region 7 with (go_at_call 103;refine U.mono ?_;rintro e l⟨rfl,i⟩)
            obtain⟨d4,d0,d1⟩:=Z.out l i;have h6:=L.move i;clear Z i;go_wp2_with fail
            go_ret2
            exact⟨E,D,by rw[j];rfl,by rw[j];exact h6,by rw[j];exact b⟩
          · have b2:((s1.steps.length:Int) == (M:Int))=ε:=zB0 (by omega)
            have j:Rn.work p row k (Rn.step p s1 c)=R:=by rw[<-G.out,dt h3,dt (by rw[hu];simp),dt LC]
            have aa:=b.stepped Q hu A.1 A.2 (by rw[P];exact LC);have ac:(Rn.step p s1 c).steps.length=s1.steps.length+1:=by unfold Rn.step;split <;> simp[Rn.shift,Rn.reduce]
            have V:∀l,φ w5.heap.size w5 l->_:=fun l u=>ajJ (L.move u) hp Q (c:=c) (fun _=>A.1) (fun e1=>by
              unfold Rn.can at hu;rw[dt e1]at hu
              by_cases e2:c.1=2
              · rw[du e2,me]at hu
                have:=A.2 e2;have:=Q.p0.2;exact⟨hu,by omega⟩
              · rw[dt e2]at hu
                cases hu) (Rn.abE Q) b.lo (by have:=b.pa;omega) ⟨O9,by omega⟩
            have HQ:Hid (∀l,φ w5.heap.size w5 l->_):=V;clear G q h1 d V;go_upto_region 7 with (go_at_call 103;refine U.mono ?_;rintro e l⟨rfl,i⟩)
            obtain⟨d4,d0,d1⟩:=Z.out l i;have V:=HQ.out l i;clear Z i HQ
            go_wp2_with (go_at_call 104;refine V.mono ?_;rintro e w7⟨rfl,gu,qV,h7⟩)
            go_roundg k
            case measure=>have:=HN.out;omega
            case rel=>exact⟨Rn.step p s1 c,gu,qV,by rw[ac];have:=HN.out;omega,h7,aa,j⟩
end

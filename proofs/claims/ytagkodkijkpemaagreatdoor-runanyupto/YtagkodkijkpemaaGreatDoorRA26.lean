import Derived.Test.YtagkodkijkpemaaGreatDoorRA25
import Derived.RangeFuncBound
import Derived.RangeFuncCalls
import Derived.Shelf.Abstract
import Derived.Shelf.RegionOpen
import Derived.OwnWalkIn
import Derived.TacticsInMore
import Derived.Sort.LoopGhostIn
set_option maxHeartbeats 8000000
set_option maxRecDepth 1000000
namespace Go.Proofs.YtagkodkijkpemaaGreatDoor
open Lx Go.Proofs.Tryz
section
open Go.RowKit Go.Shelf
open Tr
attribute [local go_sem] px
structure qH(w:World)(F:Nat->Prop)(g:Nat)(P:List Lx.Pd):Prop where
 own:F g
 row:∀(k:Nat)(p:Lx.Pd),P[k]?=some p->∃ra rc,w.cell? ⟨g,k*3,none⟩=some (.int .i64 (p.left:Int))/\w.cell? ⟨g,k*3+1,none⟩=some (.slice ra p.right.length rc)/\w.cell? ⟨g,k*3+2,none⟩=some (.int .i64 p.prec)/\p.right.length<=rc/\((ra=none/\p.right=[]/\rc=0)\/∃b,ra=some ⟨b,0,none⟩/\F b/\∀(j x:Nat),p.right[j]?=some x->w.cell? ⟨b,j,none⟩=some (.int .i64 (x:Int)))
theorem qH.move{w w':World}{F:Nat->Prop}{g:Nat}{P:List Lx.Pd}(h:qH w F g P)(f:∀b,F b->w'.heap[b]?=w.heap[b]?):qH w' F g P:=by
 refine⟨h.own,fun k p m=>?_⟩;obtain⟨n,i,h1,h2,h3,h4,c⟩:=h.row k p m;have a:=f g h.own;refine⟨n,i,(cJ (w:=w) a).trans h1,(cJ (w:=w) a).trans h2,(cJ (w:=w) a).trans h3,h4,?_⟩;rcases c with c|⟨b,e,d,l⟩
 ·exact .inl c
 ·exact .inr ⟨b,e,d,fun j x o=>(cJ (w:=w) (f b d)).trans (l j x o)⟩
structure KY(w0:World)(F:Nat->Prop)(W:World)(bm:Nat)(v0 v1 vP v3 v4:Value)(gm:Nat)(f:Nat×Nat->Nat):Prop where
 blk:aj W bm #[v0,v1,vP,v3,v4,.map (some gm)] 147
 keep:∀b,F b->W.heap[b]?=w0.heap[b]?
 goes:dm bC (fun _=>True) W gm (fun a=>(f a:Int))
def encS(x:au×Nat):Array Value:=#[bC x.1,.int .i64 (x.2:Int)]
theorem Z4{w0:World}{F:Nat->Prop}{bm bs gm gP pc q n:Nat}{v0 v1 v3 v4:Value}{P:List Lx.Pd}{f:Nat×Nat->Nat}(hP:qH w0 F gP P)(ab:P.length<=200)(Q:∀k,(cZ P k).length<=2002):zW prog 167 #[.pointer (some ⟨bm,0,none⟩),.pointer (some ⟨bs,0,none⟩)] encS (iP P f q n P.length) (fun W=>KY w0 F W bm v0 v1 (.slice (some ⟨gP,0,none⟩) P.length pc) v3 v4 gm f/\aj W bs #[.int .i64 (q:Int),.int .i64 (n:Int)] 212):=by
 intro l J W hJ E hY S;refine hU.1 (callsIn_of_wp (F:=Fence.wide) (n:=9) func167 rfl trivial ?_ rfl);simp only[ntmps167,kf,el,iu,Nat.reduceAdd,Nat.reduceSub,mA,mz,n8,m7,go,fX];have m2:W.cell? ⟨bm,2,none⟩=some (.slice (some ⟨gP,0,none⟩) P.length pc):=(E _ _ _ S).1.blk.cell 2
 gi_wp2
 gi_loopg [13] P.length (fun m i wr=>∃(k:Nat)(Z:Nat->Prop),k+m=P.length/\i=.int .i64 (k:Int)/\J (iP P f q n k).length Z wr)
 case atStart=>exact⟨0,_,by omega,rfl,S⟩
 case round=>
  clear S m2;obtain⟨k,Z,hk,rfl,H⟩:=hrel
  by_cases hlt:k<P.length
  ·obtain⟨p,t⟩:∃p,P[k]?=some p:=⟨_,cF hlt⟩
   obtain⟨B,A,c0,c1,c2,-,u⟩:=(hP.move (E _ _ _ H).1.keep).row k p t;have C:cZ P k=p.right:=by simp[cZ,t]
   have aa:p.right.length<=2002:=C▸Q k;have HB:Hid (∀(j x:Nat),p.right[j]?=some x->∃b,B=some ⟨b,0,none⟩/\F b/\w0.cell? ⟨b,j,none⟩=some (.int .i64 (x:Int))):=fun j x z=>by
    rcases u with ⟨-,h,-⟩|⟨b,e,Y,hc⟩
    ·rw[h]at z;cases z
    ·exact⟨b,e,Y,(cJ (w:=wr) ((E _ _ _ H).1.keep b Y).symm).trans (hc j x z)⟩
   clear u;have j1:(0:Int)<=(k:Int):=by omega
   have j2:(k:Int)<(P.length:Int):=by omega
   gi_upto_region 3 with fail
   obtain⟨G,o⟩:∃V,V=wr.alloc (.cells #[.int .i64 (p.left:Int),.slice B p.right.length A,.int .i64 p.prec] 120):=⟨_,rfl⟩;rw[<-o];obtain⟨I,c,v⟩:∃I:Nat->Prop,J (iP P f q n k).length I G/\I wr.heap.size:=⟨fun x=>Z x\/x=wr.heap.size,by rw[o];exact hJ.new _ _ _ _ H,.inr rfl⟩;have kB:aj G wr.heap.size #[.int .i64 (p.left:Int),.slice B p.right.length A,.int .i64 p.prec] 120:=by rw[o];exact aj.new ..
   generalize wr.heap.size=bp at c kB v|-;clear o H c0 c1 c2;have kS:=(E _ _ _ c).2;have b0:G.cell? ⟨bp,0,none⟩=some (.int .i64 (p.left:Int)):=kB.cell 0;have T:G.cell? ⟨bp,1,none⟩=some (.slice B p.right.length A):=kB.cell 1;have s0:G.cell? ⟨bs,0,none⟩=some (.int .i64 (q:Int)):=kS.cell 0;have s1:G.cell? ⟨bs,1,none⟩=some (.int .i64 (n:Int)):=kS.cell 1
   by_cases hl:p.left=n
   ·have r:P[k]?.map Lx.Pd.left=some n:=by rw[t,<-hl];rfl
    have e1:((p.left:Int) != (n:Int))=false:=by simp[hl]
    have e2:¬(p.left:Int)≠(n:Int):=by simp[hl]
    clear hl
    gi_wp2
    gi_loopg [6,28] p.right.length (fun m av i D=>∃(d:Nat)(y:Nat->Prop),d+m=p.right.length/\i=.int .i64 (d:Int)/\av=.int .i64 (vJ f q (p.right.take d):Int)/\J ((iP P f q n k).length+d) y D/\y bp/\aj D bp #[.int .i64 (p.left:Int),.slice B p.right.length A,.int .i64 p.prec] 120)
    case atStart=>exact⟨0,I,by omega,rfl,rfl,c,v,kB⟩
    case round=>
     clear kS b0 T s0 s1 c v kB;revert wr;intro D hrel;obtain⟨d,y,hd,rfl,rfl,g,M,kB⟩:=hrel;obtain⟨fn,tmps,assign,body,K,N⟩:=hY _ _ y D (alg hlt r (show d<=_ by rw[C];omega)) g;rw[C]at K;simp only[encS,bC]at K
     by_cases hdl:d<p.right.length
     ·obtain⟨x,z⟩:∃x,p.right[d]?=some x:=⟨_,cF hdl⟩
      obtain⟨b,rfl,Ku,U⟩:=HB.out d x z;have U:D.cell? ⟨b,d,none⟩=some (.int .i64 (x:Int)):=(cJ (w:=w0) ((E _ _ _ g).1.keep b Ku)).trans U;have j3:(0:Int)<=(d:Int):=by omega
      have j4:(d:Int)<(p.right.length:Int):=by omega
      gi_wp2
      refine(IC N).mono ?_;rintro e X⟨rfl,s,L⟩;have R:aj X bp #[.int .i64 (p.left:Int),.slice (some ⟨b,0,none⟩) p.right.length A,.int .i64 p.prec] 120:=(L bp M kB.lt).trans kB;have O:=(E _ _ _ s).1;have m5:X.cell? ⟨bm,5,none⟩=some (.map (some gm)):=O.blk.cell 5;have lk:=dm.look Tryz.Jy Tryz.Jl Tryz.FP (fun _ _=>trivial) O.goes (a:=(vJ f q (p.right.take d),x)) trivial;simp only[bC]at lk;have ew:f (vJ f q (p.right.take d),x)=vJ f q (p.right.take (d+1)):=by
       have:=ajT (P:=P) (f:=f) (q:=q) (k:=k) (d:=d) (x:=x) (by rw[C];exact z);rw[C]at this;exact this.symm
      have HE:Hid (f (vJ f q (p.right.take d),x)=vJ f q (p.right.take (d+1))):=ew;clear ew L O K N kB g U
      gi_wp2
      gi_roundg (p.right.length - (d+1))
      case measure=>omega
      case rel=>exact⟨d+1,y,by omega,by go_num,by rw[HE.out],s,M,R⟩
     ·obtain rfl:d=p.right.length:=by omega
      rw[ft]at K;have T:D.cell? ⟨bp,1,none⟩=some (.slice B p.right.length A):=kB.cell 1
      gi_wp2
      refine(IC N).mono ?_;rintro e X⟨rfl,s,-⟩;clear K N kB g T
      gi_wp2
      gi_roundg (P.length - (k+1))
      case measure=>omega
      case rel=>exact⟨k+1,y,by omega,by go_num,by rw[Z0 r,C];exact s⟩
   ·have r:P[k]?.map Lx.Pd.left≠some n:=fun e=>hl (by rw[t]at e;simpa using e)
    have e1:((p.left:Int) != (n:Int))=true:=by simp;omega
    have e2:(p.left:Int)≠(n:Int):=by omega
    clear kB kS
    gi_wp2
    gi_roundg (P.length - (k+1))
    case measure=>omega
    case rel=>exact⟨k+1,I,by omega,by go_num,by rw[ajS r];exact c⟩
  ·gi_wp2
   go_end0
   exact⟨⟨_,rfl⟩,Z,by rw[show P.length=k by omega];exact H⟩
end
section
open Go.RowKit Go.Shelf
open Tr
attribute [local go_sem] px
theorem Z5{w:World}{v0 v1 b v3 v4 a:Value}{x y:Int}:Calls prog 136 #[.agg #[v0,v1,b,v3,v4,a],.agg #[.int .i64 x,.int .i64 y]] w fun e w'=>e=.returned (.func (.func 167) #[] #[.pointer (some ⟨w.heap.size,0,none⟩),.pointer (some ⟨w.heap.size+1,0,none⟩)])/\w'=(w.alloc (.cells #[v0,v1,b,v3,v4,a] 147)).alloc (.cells #[.int .i64 x,.int .i64 y] 212):=by
 go_enter func136,ntmps136;go_wp2_with fail;go_ret;exact⟨rfl,rfl⟩
theorem ait{w:World}{v0 v1 b v3 v4 a:Value}{x y:Int}:Calls prog 96 #[.agg #[v0,v1,b,v3,v4,a],.agg #[.int .i64 x,.int .i64 y]] w fun e w'=>e=.returned (.func (.func 135) #[] #[.pointer (some ⟨w.heap.size,0,none⟩),.pointer (some ⟨w.heap.size+1,0,none⟩)])/\w'=(w.alloc (.cells #[v0,v1,b,v3,v4,a] 147)).alloc (.cells #[.int .i64 x,.int .i64 y] 212):=by
 go_enter func96,ntmps96;go_wp2_with fail;go_ret;exact⟨rfl,rfl⟩
theorem ajU{w:World}{v0 v1 b v3 v4 a:Value}{x y:Int}:Calls prog 138 #[.agg #[v0,v1,b,v3,v4,a],.agg #[.int .i64 x,.int .i64 y]] w fun e w'=>e=.returned (.func (.func 168) #[] #[.pointer (some ⟨w.heap.size,0,none⟩),.pointer (some ⟨w.heap.size+1,0,none⟩)])/\w'=(w.alloc (.cells #[v0,v1,b,v3,v4,a] 147)).alloc (.cells #[.int .i64 x,.int .i64 y] 212):=by
 go_enter func138,ntmps138;go_wp2_with fail;go_ret;exact⟨rfl,rfl⟩
namespace Lx
def zw(P:List Pd)(nT:Nat)(x:au×Nat):Bool:=match eT P x.1 with
 |some m=>decide (nT<=m)
 |none=>false
def Es(P:List Pd)(x:au×Nat):Bool:=decide (x.1.2=(cZ P x.1.1).length)
theorem FC{α:Type}{g:α->Bool}{a:List α}{i:Nat}{x:α}(h:a[i]?=some x):(a.take (i+1)).filter g=(a.take i).filter g++(if g x then [x] else []):=by
 rw[mS,h,jx];cases hg:g x <;> simp[hg]
theorem ac9{α:Type}{g:α->Bool}{a:List α}{i:Nat}{x:α}(h:a[i]?=some x)(b:g x=true):(a.filter g)[((a.take i).filter g).length]?=some x:=by
 have e:a.filter g=(a.take (i+1)).filter g++(a.drop (i+1)).filter g:=by rw[<-jx,mn]
 rw[e,FC h,b,dq,eJ (zL0),ij];rfl
end Lx
def tailV:Value->Nat->Value
 | .slice (some ⟨b,o,s⟩) n c,i=>.slice (if c-i=1 then some ⟨b,o+i,s⟩ else some ⟨b,o+i+1,s⟩) (n-i-1) (c-i-1)
 |v,_=>v
def Ga(w:World)(g k:Nat):Value:=(w.cell? ⟨g,k*3+1,none⟩).getD undef
def Us(w0:World)(gP:Nat)(P:List Lx.Pd)(x:au×Nat):Array Value:=#[bC (x.2,(eT P x.1).getD 0),tailV (Ga w0 gP x.1.1) x.1.2]
def xE(J:Nat->(Nat->Prop)->World->Prop)(c:Nat->Nat)(n0 n:Nat)(R:World->Prop)(i:Nat)(Z:Nat->Prop)(W:World):Prop:=J (c i) (fun k=>Z k\/(n0<=k/\k<n)) W/\(∀k,Z k->n<=k)/\n<=W.heap.size/\R W
def Oo(n0 n:Nat)(R:World->Prop):Prop:=n0<n/\∀A B:World,(∀k,n0<=k->k<n->B.heap[k]?=A.heap[k]?)->R A->R B
theorem xE.vO{J:Nat->(Nat->Prop)->World->Prop}(f:xJ J){c:Nat->Nat}{d n:Nat}{R:World->Prop}(b:Oo d n R):xJ (xE J c d n R) where
 own i Z A B row hs hg hr:=by
  obtain⟨h1,h2,h3,h4⟩:=hs;refine⟨f.own _ _ A B row h1 hg fun r e=>.inl (hr r e),h2,dg h3 hg.size,b.2 A B (fun k _ a=>hg.block k (by omega) fun e=>?_) h4⟩;have:=h2 k (hr k e.symm);omega
 new i Z A o hs:=by
  obtain⟨h1,h2,h3,h4⟩:=hs;refine⟨Jq (f.new _ _ A o h1) fun k=>by grind,fun k a=>?_,by rw[fb];omega,b.2 A _ (fun k _ a=>di _ _ _ (by omega)) h4⟩;rcases a with a|a
  ·exact h2 k a
  ·omega
theorem xE.next{J:Nat->(Nat->Prop)->World->Prop}{c:Nat->Nat}{b n i:Nat}{R:World->Prop}{Z:Nat->Prop}{W d:World}{a:Act}(h:xE J c b n R i Z W)(g:Oo b n R)(h3:J (c (i+1)) (fun k=>Z k\/(b<=k/\k<n)) d)(f:∀k,(Z k\/(b<=k/\k<n))->k<W.heap.size->d.heap[k]?=W.heap[k]?):yN Z (xE J c b n R (i+1) Z) W .normal a d:=by
 obtain⟨h1,h2,h4,m⟩:=h;have:=g.1;refine⟨⟨h3,h2,?_,g.2 W d (fun k p o=>f k (.inr ⟨p,o⟩) (by omega)) m⟩,fun k l j=>f k (.inl l) j⟩;have e:=f (n-1) (.inr ⟨by omega,by omega⟩) (by omega);apply jz;intro q;rw[rj (by omega),j7 (by omega)]at e;cases e
theorem aiu{w0:World}{F:Nat->Prop}{bm bs gm gP pc q n nT tc:Nat}{ta:Option Addr}{v1 v3 v4:Value}{P:List Lx.Pd}{f:Nat×Nat->Nat}(hP:qH w0 F gP P)(aa:P.length<=200)(ac:∀k,(cZ P k).length<=2002):zW prog 135 #[.pointer (some ⟨bm,0,none⟩),.pointer (some ⟨bs,0,none⟩)] (Us w0 gP P) ((iP P f q n P.length).filter (zw P nT)) (fun W=>KY w0 F W bm (.slice ta nT tc) v1 (.slice (some ⟨gP,0,none⟩) P.length pc) v3 v4 gm f/\aj W bs #[.int .i64 (q:Int),.int .i64 (n:Int)] 212):=by
 have X:Hid (∀bm bs,zW prog 167 #[.pointer (some ⟨bm,0,none⟩),.pointer (some ⟨bs,0,none⟩)] encS (iP P f q n P.length) _):=fun bm bs=>Z4 (w0:=w0) (F:=F) (bm:=bm) (bs:=bs) (gm:=gm) (gP:=gP) (pc:=pc) (q:=q) (n:=n) (v0:=.slice ta nT tc) (v1:=v1) (v3:=v3) (v4:=v4) (f:=f) hP aa ac
 have HM:Hid (∀x∈iP P f q n P.length,x.1.1<P.length/\x.1.2<=(cZ P x.1.1).length):=fun x hx=>by
  have:=(RV (s:=x.1) (r:=x.2) P.length).1 hx;exact⟨this.1,this.2.2.1⟩
 generalize iP P f q n P.length=xs at X HM|-;intro l J W t U hY h0;refine hU.1 (callsIn_of_wp_marks (F:=Fence.wide) (n:=9) func135 rfl trivial ?_ rfl);simp only[ntmps135,kf,el,iu,Nat.reduceAdd,Nat.reduceSub,mA,mz,n8,m7,go,fX]
 gi_upto_region 1 with fail
 obtain⟨j,u⟩:∃V,V=W.alloc (.cells #[.func (.yield l) #[] #[]] 279):=⟨_,rfl⟩;rw[<-u];have Q:=t.new _ _ _ (.cells #[.func (.yield l) #[] #[]] 279) h0;rw[<-u]at Q;have kY:aj j W.heap.size #[.func (.yield l) #[] #[]] 279:=by rw[u];exact aj.new ..
 have I:j.heap.size=W.heap.size+1:=by rw[u];simp
 clear u h0;generalize W.heap.size=by' at Q kY I|-;obtain⟨o,kS⟩:=U _ _ _ Q;have m0:j.cell? ⟨bm,0,none⟩=some (.slice ta nT tc):=o.blk.cell 0;have m1:j.cell? ⟨bm,1,none⟩=some v1:=o.blk.cell 1;have m2:j.cell? ⟨bm,2,none⟩=some (.slice (some ⟨gP,0,none⟩) P.length pc):=o.blk.cell 2;have m3:j.cell? ⟨bm,3,none⟩=some v3:=o.blk.cell 3;have m4:j.cell? ⟨bm,4,none⟩=some v4:=o.blk.cell 4;have m5:j.cell? ⟨bm,5,none⟩=some (.map (some gm)):=o.blk.cell 5;have s0:j.cell? ⟨bs,0,none⟩=some (.int .i64 (q:Int)):=kS.cell 0;have s1:j.cell? ⟨bs,1,none⟩=some (.int .i64 (n:Int)):=kS.cell 1
 gi_wp2_with (refine⟨trivial,?_⟩;gi_at_call 136;refine(hU.2 Z5).mono ?_;rintro e w2⟨rfl,c⟩)
 have m:=t.new _ _ _ (.cells #[.int .i64 (q:Int),.int .i64 (n:Int)] 212) (t.new _ _ _ (.cells #[.slice ta nT tc,v1,.slice (some ⟨gP,0,none⟩) P.length pc,v3,v4,.map (some gm)] 147) Q);have kA:aj w2 j.heap.size #[.slice ta nT tc,v1,.slice (some ⟨gP,0,none⟩) P.length pc,v3,v4,.map (some gm)] 147:=by rw[c];exact(aj.new ..).alloc _
 have Y:aj w2 (j.heap.size+1) #[.int .i64 (q:Int),.int .i64 (n:Int)] 212:=by
  rw[c];have:=aj.new (j.alloc (.cells #[.slice ta nT tc,v1,.slice (some ⟨gP,0,none⟩) P.length pc,v3,v4,.map (some gm)] 147)) #[.int .i64 (q:Int),.int .i64 (n:Int)] 212
  rwa [fb]at this
 have KZ:aj w2 by' #[.func (.yield l) #[] #[]] 279:=by rw[c];exact(kY.alloc _).alloc _
 have ah:w2.heap.size=by'+3:=by rw[c];simp;omega
 rw[<-c,fb]at m;rw[<-c];rw[I]at m kA Y;clear c Q kY I o kS m0 m1 m2 m3 m4 m5 s0 s1;have VR:J 0 (fun k=>False\/(by'<=k/\k<by'+3)) w2:=Jq m fun k=>by grind
 clear m;have ab:=X.out (by'+1) (by'+1+1);clear X;obtain⟨R,G,H,VT⟩:∃R:World->Prop,Oo by' (by'+3) R/\Hid (∀W,R W->aj W by' #[.func (.yield l) #[] #[]] 279/\aj W (by'+1) #[.slice ta nT tc,v1,.slice (some ⟨gP,0,none⟩) P.length pc,v3,v4,.map (some gm)] 147/\aj W (by'+1+1) #[.int .i64 (q:Int),.int .i64 (n:Int)] 212)/\R w2 :=
  ⟨_,⟨by omega,fun A B h hb=>⟨(h _ (by omega) (by omega)).trans hb.1,(h _ (by omega) (by omega)).trans hb.2.1,(h _ (by omega) (by omega)).trans hb.2.2⟩⟩,fun _ h=>h,KZ,kA,Y⟩
 clear KZ kA Y;refine Iw (gf:=167) (lb:=#[.pointer (some ⟨by'+1,0,none⟩),.pointer (some ⟨by'+1+1,0,none⟩)]) rfl (enters_of func167 (by kernel_rfl) rfl) ab (fun _=>rfl)
  (xE J (fun i=>((xs.take i).filter (zw P nT)).length) by' (by'+3) R) (xE.vO t G)
  (fun i Z W h=>⟨⟨(H.out W h.2.2.2).2.1,(U _ _ _ h.1).1.keep,(U _ _ _ h.1).1.goes⟩,(H.out W h.2.2.2).2.2⟩) ⟨VR,fun k h=>h.elim,by omega,VT⟩
  (fun x a' W=>∃E,by'+5<=E/\aj W E #[.int .i64 (x.1.1:Int),.int .i64 (x.1.2:Int)] 160/\a'={ tmps:=#[.func (.yield l) #[] #[],.pointer (some ⟨bm,0,none⟩),.pointer (some ⟨bs,0,none⟩),.pointer (some ⟨by',0,none⟩),.pointer (some ⟨E,0,none⟩),.int .i64 (x.2:Int),undef,.agg #[.slice ta nT tc,v1,.slice (some ⟨gP,0,none⟩) P.length pc,v3,v4,.map (some gm)],.agg #[.int .i64 (q:Int),.int .i64 (n:Int)],.func (.func 167) #[] #[.pointer (some ⟨by'+1,0,none⟩),.pointer (some ⟨by'+1+1,0,none⟩)],bC x.1,.int .i64 (x.2:Int),undef,undef,undef,undef,undef,undef,undef,undef,undef,undef,undef,undef,undef,undef,undef,undef,undef,undef,undef,undef,undef,undef,undef,undef,undef,undef,undef,undef,undef,undef,undef,undef,undef,undef],defers:=[] })
  ?hAx ?assign ?body ?done
 case hAx=>
  rintro x a' A o'⟨E,h1,h2,rfl⟩;exact⟨E,h1,(World.putObj_heap_other (by omega)).trans h2,rfl⟩
 case assign=>
  rintro l' i⟨⟨k,d⟩,r⟩Z W K hsz N C;simp only[encS,bC]
  gi_wp2
  exact C _ _ (by simp) (fun k _ hk=>di _ _ _ hk) ((xE.vO t G).own _ _ _ _ none N (qh _ _ none) (fun r e=>by cases e)) ⟨W.heap.size,by omega,aj.new ..,rfl⟩
 case body=>
  rintro l' i⟨⟨k,d⟩,r⟩Z a' W hx N⟨E,af,kX,rfl⟩;have L:=N.1;have i4:=(H.out W N.2.2.2).1;obtain⟨o,-⟩:=U _ _ _ L;have m0:W.cell? ⟨bm,0,none⟩=some (.slice ta nT tc):=o.blk.cell 0;have m2:W.cell? ⟨bm,2,none⟩=some (.slice (some ⟨gP,0,none⟩) P.length pc):=o.blk.cell 2;have x0:W.cell? ⟨E,0,none⟩=some (.int .i64 (k:Int)):=kX.cell 0;have x1:W.cell? ⟨E,1,none⟩=some (.int .i64 (d:Int)):=kX.cell 1;have y0:W.cell? ⟨by',0,none⟩=some (.func (.yield l) #[] #[]):=i4.cell 0;obtain⟨hk,hd⟩:k<P.length/\d<=(cZ P k).length:=HM.out _ (cQ hx);obtain⟨p,hp⟩:∃p,P[k]?=some p:=⟨_,cF hk⟩;have er:cZ P k=p.right:=by simp[cZ,hp]
  rw[er]at hd;obtain⟨ra,rc,-,c1,-,ag,v⟩:=(hP.move o.keep).row k p hp;have j1:(0:Int)<=(k:Int):=by omega
  have j2:(k:Int)<(P.length:Int):=by omega
  by_cases hdl:d<p.right.length
  ·obtain⟨x,T⟩:∃x,p.right[d]?=some x:=⟨_,cF hdl⟩
   obtain⟨b,rfl,Ku,hc⟩:=v.resolve_left (fun h=>by rw[h.2.1]at T;cases T);have cx:=hc d x T;clear hc v
   gi_wp2
   refine Db (by kernel_rfl) (by kernel_rfl) (by kernel_rfl) ?_
   repeat (gi_big_quiet_step (fail))
   refine wpQuietIn_nil ?_;rintro _⟨y,rfl⟩;have e1:(((p.right.length-d:Nat):Int) == 0)=false:=zB0 (by omega);have e2:¬((p.right.length-d:Nat):Int)=0:=by omega
   have e3:(0:Int)<((p.right.length-d:Nat):Int):=by omega
   have e4:¬p.right.length-d=0:=by omega
   gi_wp2
   refine Db (by kernel_rfl) (by kernel_rfl) (by kernel_rfl) ?_
   repeat (gi_big_quiet_step (fail))
   refine wpQuietIn_nil ?_;rintro _⟨z,rfl⟩;have M:eT P (k,d)=some x:=by show (cZ P k)[d]?=_;rw[er];exact T
   by_cases hn:x<nT
   ·have n1:decide (x<nT)=true:=fh hn
    have O:zw P nT ((k,d),r)=false:=by unfold zw;simp only[M];exact eV (by omega)
    gi_wp2
    exact N.next G (by simp only[FC hx,O];simpa using t.drew (t.drew L _) _) (fun k _ _=>rfl)
   ·have n1:decide (x<nT)=false:=eV hn
    have O:zw P nT ((k,d),r)=true:=by unfold zw;simp only[M];exact fh (by omega)
    gi_wp2
    refine Me 8 (by kernel_rfl) (by kernel_rfl) (by kernel_rfl) (by kernel_rfl) ?_
    dsimp only[List.take,List.drop,List.length]
    repeat (gi_big_quiet_step (fail))
    refine wpQuietIn_nil ?_;rintro _⟨Px,rfl⟩;obtain⟨fn,tmps,assign,body,hy,G⟩:=hY _ _ _ _ (ac9 hx O) (t.drew L (y+z+Px));have cw:w0.cell? ⟨gP,k*3+1,none⟩=some (.slice (some ⟨b,0,none⟩) p.right.length rc):=(cJ (w:=W) (o.keep gP hP.own).symm).trans c1;simp only[Us,bC,M,pD,Ga,cw,tailV,fi]at hy;refine wpAnyIn_ready (rs:=[8]) (by kernel_rfl) (by simp) (AllReadyIn.cons rfl (fun K C=>?_) AllReadyIn.nil)
    go_simp
    refine(IC G).mono ?_;rintro e W3⟨rfl,m,ad⟩;refine C _ _ ?_;clear C K hy G;refine wpAnyIn_ready (rs:=[9]) (by kernel_rfl) (by simp) (AllReadyIn.cons rfl (fun K C=>?_) AllReadyIn.nil)
    go_simp
    refine C _ _ (wpAnyIn_done (by kernel_rfl) ?_ _);clear C K;have g:∀a,yN Z _ W .normal a W3:=fun a=>N.next G (by simp only[FC hx,O];simpa using m) ad
    gi_wp2
    all_goals exact g _
  ·have ae:d=p.right.length:=by omega
   subst ae;have O:zw P nT ((k,p.right.length),r)=false:=by
    have:eT P (k,p.right.length)=none:=by show (cZ P k)[p.right.length]?=_;rw[er];simp
    unfold zw;simp only[this]
   have g:∀y z a,yN Z _ W .normal a ((W.drewN y).drewN z):=fun y z a=>N.next G (by simp only[FC hx,O];simpa using t.drew (t.drew L y) z) (fun _ _ _=>rfl)
   generalize hpr:p.right.length=d at *;rcases v with ⟨rfl,S,rfl⟩|⟨b,rfl,-,-⟩
   ·obtain rfl:d=0:=by rw[S]at hpr;exact hpr.symm
    clear hpr
    gi_wp2
    refine Db (by kernel_rfl) (by kernel_rfl) (by kernel_rfl) ?_
    repeat (gi_big_quiet_step (fail))
    refine wpQuietIn_nil ?_;rintro _⟨y,rfl⟩
    gi_wp2
    refine Db (by kernel_rfl) (by kernel_rfl) (by kernel_rfl) ?_
    repeat (gi_big_quiet_step (fail))
    refine wpQuietIn_nil ?_;rintro _⟨z,rfl⟩
    gi_wp2
    exact g y z _
   ·have e1:(((d-d:Nat):Int) == 0)=true:=by simp
    have e2:d-d=0:=by simp
    by_cases hrd:rc-d=0
    all_goals
     gi_wp2
     refine Db (by kernel_rfl) (by kernel_rfl) (by kernel_rfl) ?_
     repeat (gi_big_quiet_step (fail))
     refine wpQuietIn_nil ?_;rintro _⟨y,rfl⟩
     gi_wp2
     refine Db (by kernel_rfl) (by kernel_rfl) (by kernel_rfl) ?_
     repeat (gi_big_quiet_step (fail))
     refine wpQuietIn_nil ?_;rintro _⟨z,rfl⟩
     gi_wp2
     exact g y z _
 case done=>
  rintro D Z W hD CB⟨L,-⟩C;simp only[ft]at L
  gi_wp2
  refine⟨by simp,.inl ⟨_,_,rfl,run_takeDeferred C,?_⟩⟩;exact⟨_,oY rfl _ _ _,⟨_,rfl⟩,_,t.put _ L (.inl CB)⟩
end
section
open Go.RowKit Go.Shelf
open Tr
attribute [local go_sem] px
def Ut(x:au×Nat):Array Value:=#[bC (x.2,x.1.1)]
theorem ajV{w0:World}{F:Nat->Prop}{bm bs gm gP pc q n:Nat}{v0 v1 v3 v4:Value}{P:List Lx.Pd}{f:Nat×Nat->Nat}(hP:qH w0 F gP P)(O:P.length<=200)(Q:∀k,(cZ P k).length<=2002):zW prog 168 #[.pointer (some ⟨bm,0,none⟩),.pointer (some ⟨bs,0,none⟩)] Ut ((iP P f q n P.length).filter (Es P)) (fun W=>KY w0 F W bm (v0) v1 (.slice (some ⟨gP,0,none⟩) P.length pc) v3 v4 gm f/\aj W bs #[.int .i64 (q:Int),.int .i64 (n:Int)] 212):=by
 have L:Hid (∀bm bs,zW prog 167 #[.pointer (some ⟨bm,0,none⟩),.pointer (some ⟨bs,0,none⟩)] encS (iP P f q n P.length) _):=fun bm bs=>Z4 (w0:=w0) (F:=F) (bm:=bm) (bs:=bs) (gm:=gm) (gP:=gP) (pc:=pc) (q:=q) (n:=n) (v0:=v0) (v1:=v1) (v3:=v3) (v4:=v4) (f:=f) hP O Q
 have HM:Hid (∀x∈iP P f q n P.length,x.1.1<P.length/\x.1.2<=(cZ P x.1.1).length):=fun x hx=>by
  have:=(RV (s:=x.1) (r:=x.2) P.length).1 hx;exact⟨this.1,this.2.2.1⟩
 generalize iP P f q n P.length=xs at L HM|-;intro l J W o I hY h0;refine hU.1 (callsIn_of_wp_marks (F:=Fence.wide) (n:=9) func168 rfl trivial ?_ rfl);simp only[ntmps168,kf,el,iu,Nat.reduceAdd,Nat.reduceSub,mA,mz,n8,m7,go,fX]
 gi_upto_region 1 with fail
 obtain⟨b,g⟩:∃V,V=W.alloc (.cells #[.func (.yield l) #[] #[]] 310):=⟨_,rfl⟩;rw[<-g];have E:=o.new _ _ _ (.cells #[.func (.yield l) #[] #[]] 310) h0;rw[<-g]at E;have N:aj b W.heap.size #[.func (.yield l) #[] #[]] 310:=by rw[g];exact aj.new ..
 have v:b.heap.size=W.heap.size+1:=by rw[g];simp
 clear g h0;generalize W.heap.size=by' at E N v|-;obtain⟨j,kS⟩:=I _ _ _ E;have m0:b.cell? ⟨bm,0,none⟩=some v0:=j.blk.cell 0;have m1:b.cell? ⟨bm,1,none⟩=some v1:=j.blk.cell 1;have m2:b.cell? ⟨bm,2,none⟩=some (.slice (some ⟨gP,0,none⟩) P.length pc):=j.blk.cell 2;have m3:b.cell? ⟨bm,3,none⟩=some v3:=j.blk.cell 3;have m4:b.cell? ⟨bm,4,none⟩=some v4:=j.blk.cell 4;have m5:b.cell? ⟨bm,5,none⟩=some (.map (some gm)):=j.blk.cell 5;have s0:b.cell? ⟨bs,0,none⟩=some (.int .i64 (q:Int)):=kS.cell 0;have s1:b.cell? ⟨bs,1,none⟩=some (.int .i64 (n:Int)):=kS.cell 1
 gi_wp2_with (refine⟨trivial,?_⟩;gi_at_call 136;refine(hU.2 Z5).mono ?_;rintro e w2⟨rfl,a⟩)
 have c:=o.new _ _ _ (.cells #[.int .i64 (q:Int),.int .i64 (n:Int)] 212) (o.new _ _ _ (.cells #[v0,v1,.slice (some ⟨gP,0,none⟩) P.length pc,v3,v4,.map (some gm)] 147) E);have kA:aj w2 b.heap.size #[v0,v1,.slice (some ⟨gP,0,none⟩) P.length pc,v3,v4,.map (some gm)] 147:=by rw[a];exact(aj.new ..).alloc _
 have M:aj w2 (b.heap.size+1) #[.int .i64 (q:Int),.int .i64 (n:Int)] 212:=by
  rw[a];have:=aj.new (b.alloc (.cells #[v0,v1,.slice (some ⟨gP,0,none⟩) P.length pc,v3,v4,.map (some gm)] 147)) #[.int .i64 (q:Int),.int .i64 (n:Int)] 212
  rwa [fb]at this
 have KZ:aj w2 by' #[.func (.yield l) #[] #[]] 310:=by rw[a];exact(N.alloc _).alloc _
 have ae:w2.heap.size=by'+3:=by rw[a];simp;omega
 rw[<-a,fb]at c;rw[<-a];rw[v]at c kA M;clear a E N v j kS m0 m1 m2 m3 m4 m5 s0 s1;have VR:J 0 (fun k=>False\/(by'<=k/\k<by'+3)) w2:=Jq c fun k=>by grind
 clear c;have aa:=L.out (by'+1) (by'+1+1);clear L;obtain⟨R,y,u,VT⟩:∃R:World->Prop,Oo by' (by'+3) R/\Hid (∀W,R W->aj W by' #[.func (.yield l) #[] #[]] 310/\aj W (by'+1) #[v0,v1,.slice (some ⟨gP,0,none⟩) P.length pc,v3,v4,.map (some gm)] 147/\aj W (by'+1+1) #[.int .i64 (q:Int),.int .i64 (n:Int)] 212)/\R w2 :=
  ⟨_,⟨by omega,fun A B h S=>⟨(h _ (by omega) (by omega)).trans S.1,(h _ (by omega) (by omega)).trans S.2.1,(h _ (by omega) (by omega)).trans S.2.2⟩⟩,fun _ h=>h,KZ,kA,M⟩
 clear KZ kA M;refine Iw (gf:=167) (lb:=#[.pointer (some ⟨by'+1,0,none⟩),.pointer (some ⟨by'+1+1,0,none⟩)]) rfl (enters_of func167 (by kernel_rfl) rfl) aa (fun _=>rfl)
  (xE J (fun i=>((xs.take i).filter (Es P)).length) by' (by'+3) R) (xE.vO o y)
  (fun i Z W h=>⟨⟨(u.out W h.2.2.2).2.1,(I _ _ _ h.1).1.keep,(I _ _ _ h.1).1.goes⟩,(u.out W h.2.2.2).2.2⟩) ⟨VR,fun k h=>h.elim,by omega,VT⟩
  (fun x T W=>∃t,by'+5<=t/\aj W t #[.int .i64 (x.1.1:Int),.int .i64 (x.1.2:Int)] 160/\T={ tmps:=#[.func (.yield l) #[] #[],.pointer (some ⟨bm,0,none⟩),.pointer (some ⟨bs,0,none⟩),.pointer (some ⟨by',0,none⟩),.pointer (some ⟨t,0,none⟩),.int .i64 (x.2:Int),.agg #[v0,v1,.slice (some ⟨gP,0,none⟩) P.length pc,v3,v4,.map (some gm)],.agg #[.int .i64 (q:Int),.int .i64 (n:Int)],.func (.func 167) #[] #[.pointer (some ⟨by'+1,0,none⟩),.pointer (some ⟨by'+1+1,0,none⟩)],bC x.1,.int .i64 (x.2:Int),undef,undef,undef,undef,undef,undef,undef,undef,undef,undef,undef,undef,undef,undef,undef,undef,undef,undef,undef,undef,undef],defers:=[] })
  ?hAx ?assign ?body ?done
 case hAx=>
  rintro x T A o'⟨t,h1,h2,rfl⟩;exact⟨t,h1,(World.putObj_heap_other (by omega)).trans h2,rfl⟩
 case assign=>
  rintro l' i⟨⟨k,d⟩,r⟩Z W K hsz C m;simp only[encS,bC]
  gi_wp2
  exact m _ _ (by simp) (fun k _ Y=>di _ _ _ Y) ((xE.vO o y).own _ _ _ _ none C (qh _ _ none) (fun r e=>by cases e)) ⟨W.heap.size,by omega,aj.new ..,rfl⟩
 case body=>
  rintro l' i⟨⟨k,d⟩,r⟩Z T W hx C⟨t,ac,kX,rfl⟩;have z:=C.1;have i4:=(u.out W C.2.2.2).1;obtain⟨j,-⟩:=I _ _ _ z;have m0:W.cell? ⟨bm,0,none⟩=some v0:=j.blk.cell 0;have m2:W.cell? ⟨bm,2,none⟩=some (.slice (some ⟨gP,0,none⟩) P.length pc):=j.blk.cell 2;have x0:W.cell? ⟨t,0,none⟩=some (.int .i64 (k:Int)):=kX.cell 0;have x1:W.cell? ⟨t,1,none⟩=some (.int .i64 (d:Int)):=kX.cell 1;have y0:W.cell? ⟨by',0,none⟩=some (.func (.yield l) #[] #[]):=i4.cell 0;obtain⟨Y,hd⟩:k<P.length/\d<=(cZ P k).length:=HM.out _ (cQ hx);obtain⟨p,hp⟩:∃p,P[k]?=some p:=⟨_,cF Y⟩;have X:cZ P k=p.right:=by simp[cZ,hp]
  rw[X]at hd;obtain⟨ra,rc,-,c1,-,ad,ab⟩:=(hP.move j.keep).row k p hp;have j1:(0:Int)<=(k:Int):=by omega
  have j2:(k:Int)<(P.length:Int):=by omega
  by_cases hdl:d=p.right.length
  ·have H:Es P ((k,d),r)=true:=by unfold Es;rw[X];exact fh hdl
   have e1:((d:Int) == (p.right.length:Int))=true:=by simp[hdl]
   gi_wp2
   refine Me 18 (by kernel_rfl) (by kernel_rfl) (by kernel_rfl) (by kernel_rfl) ?_
   dsimp only[List.take,List.drop,List.length]
   repeat (gi_big_quiet_step (fail))
   refine wpQuietIn_nil ?_;rintro _⟨Px,rfl⟩;obtain⟨fn,tmps,assign,body,hy,y⟩:=hY _ _ _ _ (ac9 hx H) (o.drew z Px);simp only[Ut,bC]at hy;refine wpAnyIn_ready (rs:=[18]) (by kernel_rfl) (by simp) (AllReadyIn.cons rfl (fun K m=>?_) AllReadyIn.nil)
   go_simp
   refine(IC y).mono ?_;rintro e W3⟨rfl,c,U⟩;refine m _ _ ?_;clear m K hy y;refine wpAnyIn_ready (rs:=[19]) (by kernel_rfl) (by simp) (AllReadyIn.cons rfl (fun K m=>?_) AllReadyIn.nil)
   go_simp
   refine m _ _ (wpAnyIn_ready (rs:=[20]) (by kernel_rfl) (by simp) (AllReadyIn.cons rfl (fun K2 G=>?_) AllReadyIn.nil))
   go_simp
   refine G _ _ (wpAnyIn_done (by kernel_rfl) ?_ _);clear m K G K2
   gi_wp2
   exact C.next y (by simp only[FC hx,H];simpa using c) U
  ·have H:Es P ((k,d),r)=false:=by unfold Es;rw[X];exact eV hdl
   have e1:((d:Int) == (p.right.length:Int))=false:=by simp;omega
   have e2:¬(d:Int)=(p.right.length:Int):=by omega
   gi_wp2
   refine Db (by kernel_rfl) (by kernel_rfl) (by kernel_rfl) ?_
   repeat (gi_big_quiet_step (fail))
   refine BigFrame.wpQuietIn_skip (fun _ _ _ _=>trivial) rfl ?_
   dsimp only[Act.put]
   simp only[iz,mv,ms]
   repeat (gi_big_quiet_step (fail))
   refine wpQuietIn_nil ?_;rintro _⟨nq,rfl⟩
   gi_wp2
   exact C.next y (by simp only[FC hx,H];simpa using o.drew z nq) (fun _ _ _=>rfl)
 case done=>
  rintro D Z W hD CB⟨z,-⟩m;simp only[ft]at z
  gi_wp2
  refine⟨by simp,.inl ⟨_,_,rfl,run_takeDeferred m,?_⟩⟩;exact⟨_,oY rfl _ _ _,⟨_,rfl⟩,_,o.put _ z (.inl CB)⟩
end
end Go.Proofs.YtagkodkijkpemaaGreatDoor

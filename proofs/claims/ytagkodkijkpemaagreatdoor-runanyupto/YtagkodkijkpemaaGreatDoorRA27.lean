import Derived.Test.YtagkodkijkpemaaGreatDoorRA26
set_option maxHeartbeats 8000000
set_option maxRecDepth 1000000
namespace Go.Proofs.YtagkodkijkpemaaGreatDoor
open Lx Go.Proofs.Tryz
open Go.RowKit Tr
structure bA where
 lb:Nat
 pm:Nat
 gm:Nat
 gP:Nat
 gE:Nat
 gF:Nat
 nT:Nat
 tc:Nat
 pc:Nat
 fc:Nat
 sz:Nat
 ta:Option Addr
 v1:Value
 v3:Value
 v4:Value
 P:List Lx.Pd
 f:Nat×Nat->Nat
 E:List Bool
 fg:List Nat
 fs:List (List Nat)
def bA.nw(c:bA):Nat:=Lx.nW c.nT
structure bL where
 vS:Value
 vA:Value
 vQ:Value
 vW:Value
 st:List (Nat×Nat)
 gs:List Nat
 ss:List (List Nat)
 wq:List Nat
 ws:List Bool
def bA.cells(c:bA)(S:bL):Array Value:=#[.slice c.ta c.nT c.tc,c.v1,.slice (some ⟨c.gP,0,none⟩) c.P.length c.pc,c.v3,c.v4,.map (some c.gm),.slice (some ⟨c.gE,0,none⟩) c.sz c.sz,.slice (some ⟨c.gF,0,none⟩) c.sz c.fc,.map (some c.pm),S.vS,S.vA,S.vQ,S.vW]
def zx(a:Nat×Nat):List Value:=[.int .i64 (a.1:Int),.int .i64 (a.2:Int)]
def gY(n g:Nat):Value:=.slice (some ⟨g,0,none⟩) n n
structure mU(c:bA)(w0:World)(F:Nat->Prop)(B:Nat):Prop where
 prods:qH w0 F c.gP c.P
 empty:aj w0 c.gE (bE c.E) 4
 anq:c.E.length=c.sz
 first:∀(i g:Nat),c.fg[i]?=some g->w0.cell? ⟨c.gF,i,none⟩=some (gY c.nw g)/\F g/\∃ws,c.fs[i]?=some ws/\TS w0 g ws/\ws.length=c.nw
 anr:c.fg.length=c.sz
 goes:dm bC (fun _=>True) w0 c.gm (fun a=>(c.f a:Int))
 fE:F c.gE
 fF:F c.gF
 fm:F c.gm
 low:∀k,F k->k<B/\k≠c.lb/\k≠c.pm
 lb:c.lb<B
 pm:c.pm<B
 pl:c.P.length<=200
 rl:∀k,(cZ c.P k).length<=2002
 nT:0<c.nT/\c.nT<=100000
structure cu(c:bA)(w0:World)(F:Nat->Prop)(B:Nat)(W:World)(S:bL)(mp:List (Nat×Nat)):Prop where
 keep:∀b,F b->W.heap[b]?=w0.heap[b]?
 blk:aj W c.lb (c.cells S) 153
 rS:W.ownsRow B 212 2 S.vS S.st.length (S.st.flatMap zx)
 rA:W.ownsRow B 214 1 S.vA S.gs.length (S.gs.map (gY c.nw))
 rQ:lK B W S.vQ S.wq
 rW:W.ownsRow B 4 1 S.vW S.ws.length (S.ws.map Value.bool)
 map:iD bC W c.pm mp
 sets:∀(i g:Nat),S.gs[i]?=some g->B<=g/\∃ws,S.ss[i]?=some ws/\TS W g ws/\ws.length=c.nw
 qd:S.gs.Nodup
 big:B<=W.heap.size
structure jP(c:bA)(w0:World)(F:Nat->Prop)(B:Nat)(W:World)(S:bL):Prop extends cu c w0 F B W S S.st where
 lg:S.gs.length=S.st.length
 ls:S.ss.length=S.st.length
 lw:S.ws.length=S.st.length
def bL.own(c:bA)(S:bL)(k:Nat):Prop:=k=c.lb\/k=c.pm\/S.vS.ownBlock=some k\/S.vA.ownBlock=some k\/S.vQ.ownBlock=some k\/S.vW.ownBlock=some k\/k∈S.gs
theorem TS.move{w w':World}{g:Nat}{ws:List Nat}(h:TS w g ws)(a:w'.heap[g]?=w.heap[g]?):TS w' g ws:=⟨a.trans h.blk,h.wd⟩
theorem cu.move{c:bA}{w0:World}{F:Nat->Prop}{B:Nat}{W W':World}{S:bL}{d:List (Nat×Nat)}(h:cu c w0 F B W S d)(a:∀k,S.own c k\/F k->W'.heap[k]?=W.heap[k]?)(j:W.heap.size<=W'.heap.size):cu c w0 F B W' S d where
 keep b hb:=(a b (.inr hb)).trans (h.keep b hb)
 blk:=(a _ (.inl (.inl rfl))).trans h.blk
 rS:=aC h.rS fun g hg=>a g (.inl (.inr (.inr (.inl hg))))
 rA:=aC h.rA fun g hg=>a g (.inl (.inr (.inr (.inr (.inl hg)))))
 rQ:=h.rQ.move fun g hg=>a g (.inl (.inr (.inr (.inr (.inr (.inl hg))))))
 rW:=aC h.rW fun g hg=>a g (.inl (.inr (.inr (.inr (.inr (.inr (.inl hg)))))))
 map:=h.map.move (a _ (.inl (.inr (.inl rfl))))
 sets i g hg:=by
  obtain⟨h1,f,h2,h3,h4⟩:=h.sets i g hg;exact⟨h1,f,h2,h3.move (a g (.inl (.inr (.inr (.inr (.inr (.inr (.inr (cQ hg))))))))),h4⟩
 qd:=h.qd
 big:=dg h.big j
theorem jP.move{c:bA}{w0:World}{F:Nat->Prop}{B:Nat}{W W':World}{S:bL}(h:jP c w0 F B W S)(a:∀k,S.own c k\/F k->W'.heap[k]?=W.heap[k]?)(b:W.heap.size<=W'.heap.size):jP c w0 F B W' S:=⟨h.tocu.move a b,h.lg,h.ls,h.lw⟩
def o7(W:World)(k t:Nat):Prop:=∃cur:Array Value,W.heap[k]?=some (.cells cur t)
theorem o7.ne{W:World}{k l t u:Nat}(h:o7 W k t)(c:o7 W l u)(a:t≠u):k≠l:=fun e=>by
 subst e;obtain⟨x,d⟩:=h;obtain⟨y,b⟩:=c;rw[d]at b;cases b;exact a rfl
section
variable {c:bA} {w0:World} {F:Nat -> Prop} {B:Nat} {W:World} {S:bL} {mp:List (Nat×Nat)}
theorem cu.kL(h:cu c w0 F B W S mp):o7 W c.lb 153:=⟨_,h.blk⟩
theorem cu.kS(h:cu c w0 F B W S mp){g:Nat}(a:S.vS.ownBlock=some g):o7 W g 212:=eU h.rS a
theorem cu.kA(h:cu c w0 F B W S mp){g:Nat}(a:S.vA.ownBlock=some g):o7 W g 214:=eU h.rA a
theorem cu.kQ(h:cu c w0 F B W S mp){g:Nat}(a:S.vQ.ownBlock=some g):o7 W g 3:=h.rQ.typ a
theorem cu.kW(h:cu c w0 F B W S mp){g:Nat}(a:S.vW.ownBlock=some g):o7 W g 4:=eU h.rW a
theorem cu.kG(h:cu c w0 F B W S mp){g:Nat}(a:g∈S.gs):o7 W g 277:=by
 obtain⟨i,b⟩:=eQ.1 a;obtain⟨-,d,-,h3,-⟩:=h.sets i g b;exact⟨_,h3.blk⟩
theorem cu.JV(h:cu c w0 F B W S mp){g t:Nat}(a:o7 W g t):g≠c.pm:=fun e=>by
 subst e;obtain⟨x,b⟩:=a;obtain⟨d,f,h1,-⟩:=h.map;rw[b]at h1;cases h1
theorem cu.yP(h:cu c w0 F B W S mp){k:Nat}(a:S.own c k):k<W.heap.size:=by
 rcases a with rfl|rfl|a|a|a|a|a
 ·exact h.blk.lt
 ·exact h.map.lt
 ·exact(h.rS.lt k a).2
 ·exact(h.rA.lt k a).2
 ·exact(h.rQ.lt k a).2
 ·exact(h.rW.lt k a).2
 ·obtain⟨x,b⟩:=h.kG a;exact(dv.1 b).1
end
structure Mx(w0:World)(B gO tO tI n N:Nat)(W:World)(gs:List Nat)(rs:List (List Value)):Prop where
 out:aj W gO (gs.map (gY n)++List.replicate (N-gs.length) (Value.slice none 0 0)).toArray tO
 len:rs.length=gs.length
 row:∀(i g:Nat)(r:List Value),gs[i]?=some g->rs[i]?=some r->aj W g r.toArray tI
 nd:gs.Nodup
 lo:∀g∈gs,B<=g
 no:B<=gO
 b:Below B w0 W
 ne:tO≠tI
 le:gs.length<=N
section
variable {w0 W W':World} {B gO tO tI n N:Nat} {gs:List Nat} {rs:List (List Value)}
theorem Mx.size(h:Mx w0 B gO tO tI n N W gs rs):B<=W.heap.size:=dg h.no (lh h.out.lt)
theorem Mx.rowAt(h:Mx w0 B gO tO tI n N W gs rs){i:Nat}{g:Nat}(a:gs[i]?=some g):∃r,rs[i]?=some r/\aj W g r.toArray tI:=by
 obtain⟨r,b⟩:∃r,rs[i]?=some r:=⟨_,cF (by rw[h.len];exact(cG.1 a).1)⟩;exact⟨r,b,h.row i g r a b⟩
theorem Mx.lt(h:Mx w0 B gO tO tI n N W gs rs){g:Nat}(a:g∈gs):g<W.heap.size:=by
 obtain⟨i,c⟩:=eQ.1 a;obtain⟨r,-,b⟩:=h.rowAt c;exact b.lt
theorem Mx.K6(h:Mx w0 B gO tO tI n N W gs rs){g:Nat}(c:g∈gs):g≠gO:=fun e=>by
 obtain⟨i,d⟩:=eQ.1 c;obtain⟨r,-,b⟩:=h.rowAt d;have a:=h.out;subst e;unfold aj at b a;rw[b]at a;cases a;exact h.ne rfl
theorem Mx.move(h:Mx w0 B gO tO tI n N W gs rs)(a:Below W.heap.size W W'):Mx w0 B gO tO tI n N W' gs rs :=
 ⟨(a.block gO h.out.lt).trans h.out,h.len,fun i g r hg c=>(a.block g (h.lt (cQ hg))).trans (h.row i g r hg c),h.nd,h.lo,h.no,h.b.trans (a.mono h.size),h.ne,h.le⟩
theorem Mx.keep(h:Mx w0 B gO tO tI n N W gs rs)(a:∀k,k=gO\/k∈gs->W'.heap[k]?=W.heap[k]?)(c:Below B w0 W'):Mx w0 B gO tO tI n N W' gs rs :=
 ⟨(a _ (.inl rfl)).trans h.out,h.len,fun i g r hg b=>(a g (.inr (cQ hg))).trans (h.row i g r hg b),h.nd,h.lo,h.no,c,h.ne,h.le⟩
theorem Mx.DX(h:Mx w0 B gO tO tI n N W gs rs){i g:Nat}(a:gs[i]?=some g):W.cell? ⟨gO,i,none⟩=some (.slice (some ⟨g,0,none⟩) n n):=by
 have b:=(cG.1 a).1;rw[h.out.cell,fR,eC (by rw[dt];exact b),dj,a];rfl
theorem Mx.Et(h:Mx w0 B gO tO tI n N W gs rs){i g k:Nat}{r:List Value}(a:gs[i]?=some g)(b:rs[i]?=some r):W.cell? ⟨g,k,none⟩=r[k]?:=by
 rw[(h.row i g r a b).cell,fR]
theorem Mx.push(h:Mx w0 B gO tO tI n N W gs rs)(q:gs.length<N)(r:List Value):Mx w0 B gO tO tI n N ((W.alloc (.cells r.toArray tI)).setCell ⟨gO,gs.length,none⟩ (.slice (some ⟨W.heap.size,0,none⟩) n n)) (gs++[W.heap.size]) (rs++[r]):=by
 have d:∀g,g∈gs->g≠W.heap.size:=fun g hg e=>by have:=h.lt hg;omega
 have m:gO≠W.heap.size:=fun e=>by have:=h.out.lt;omega
 refine⟨?_,by simp[h.len],fun i g l hg c=>?_,?_,?_,h.no,(h.b.alloc h.size _).setCell (p:=⟨gO,gs.length,none⟩) h.no _,h.ne,by simp;omega⟩
 ·have:=(h.out.alloc (.cells r.toArray tI)).set gs.length (.slice (some ⟨W.heap.size,0,none⟩) n n)
  rw[iz]at this;have e:(gs.map (gY n)++List.replicate (N-gs.length) (Value.slice none 0 0)).set gs.length (.slice (some ⟨W.heap.size,0,none⟩) n n)=(gs++[W.heap.size]).map (gY n)++List.replicate (N - (gs++[W.heap.size]).length) (Value.slice none 0 0):=by
   rw[mr _ _ (by simp),dt,ij,show N-gs.length=(N - (gs++[W.heap.size]).length)+1 by simp;omega,mT,ms,ei,dq];rfl
  rw[e]at this;exact this
 ·rw[jj]at hg c
  rw[h.len]at c
  split at hg
  ·rename_i j
   rw[de j]at c;have:=(h.row i g l hg c).alloc (.cells r.toArray tI);exact this.other (Ne.symm (h.K6 (cQ hg))) _
  ·rename_i j
   rw[dk j]at c;have f:i-gs.length=0:=by
    have:=(cG.1 hg).1;simp at this;omega
   rw[f]at hg c;cases hg;cases c;exact(aj.new W r.toArray tI).other m _
 ·rw[ik]
  exact⟨h.nd,by simp,fun a o b k=>by rw[cM]at k;rw[k];exact d a o⟩
 ·intro g hg
  rw[cY,cM]at hg;rcases hg with hg|rfl
  ·exact h.lo g hg
  ·exact h.size
theorem Mx.set(h:Mx w0 B gO tO tI n N W gs rs){i g k:Nat}{r:List Value}(hg:gs[i]?=some g)(l:rs[i]?=some r)(v:Value):Mx w0 B gO tO tI n N (W.setCell ⟨g,k,none⟩ v) gs (rs.set i (r.set k v)):=by
 have d:=cQ hg;refine⟨h.out.other (h.K6 d) _,by simp[h.len],fun j m s c a=>?_,h.nd,h.lo,h.no,h.b.setCell (p:=⟨g,k,none⟩) (h.lo g d) _,h.ne,h.le⟩;rw[fk]at a
 split at a
 ·rename_i e
  subst e;rw[hg]at c;cases c;have f:=(cG.1 l).1;rw[de f]at a;cases a;have:=(h.row i g r hg l).set k v;rw[iz]at this;exact this
 ·rename_i e
  refine(h.row j m s c a).other (fun q=>e ?_) _;subst q;obtain⟨h1,t⟩:=cG.1 hg;obtain⟨h2,o⟩:=cG.1 c;exact(lj h.nd).1 (t.trans o.symm)
theorem Mx.frozen(h:Mx w0 B gO tO tI n N W gs rs){i g:Nat}(b:gs[i]?=some g)(k:Nat):W.frozen? ⟨g,k,none⟩=false:=by
 obtain⟨r,-,a⟩:=h.rowAt b;exact a.frozen k
theorem Mx.rows{α:Type}{z:Nat}{Q:Nat->Nat->α->Prop}(h:Mx w0 B gO tO tI n N W gs rs)(m:gs.length=N){l:List (List α)}(d:l.length=N)(a:∀r∈l,r.length=n)(f:∀(i g:Nat)(r:List α)(k:Nat)(x:α),gs[i]?=some g->l[i]?=some r->r[k]?=some x->Q g (k*z) x):tK 1 (rQ W z Q) (.slice (some ⟨gO,0,none⟩) N N) l:=by
 refine⟨_,_,by rw[d],fun i r hr=>⟨gO,rfl,?_⟩⟩;have j:=(cG.1 hr).1;obtain⟨g,b⟩:∃g,gs[i]?=some g:=⟨_,cF (by omega)⟩;rw[jt];exact⟨_,h.DX b,some ⟨g,0,none⟩,n,by rw[a r (cQ hr)],fun k x c=>⟨g,rfl,f i g r k x b hr c⟩⟩
end
namespace Lx
def mD(E:List Bool):List Nat->Nat
 | []=>0
 |s::r=>if aJ E s=true then 1+mD E r else 0
theorem Rq(E:List Bool):∀r:List Nat,mD E r<=r.length
 | []=>zL0
 |s::r=>by
  have:=Rq E r;rw[mD]
  split
  ·rw[el];omega
  ·exact eR _
def Jz(E:List Bool)(p:Pd):List Bool:=if aJ E p.left=false/\mD E p.right=p.right.length then E.set p.left true else E
def jU(P:List Pd)(E:List Bool):List Bool:=P.foldl Jz E
def qZ{α:Type}(f:α->α):Nat->α->α
 |0,x=>x
 |k+1,x=>f (qZ f k x)
def ad4(n:Nat)(P:List Pd):Prop:=∀p∈P,p.left<n/\∀s∈p.right,s<n
end Lx
theorem Xd{w:World}{v:Value}{r:List Nat}{E:List Bool}{g:Nat}(m:IR 0 w v r)(y:aj w g (bE E) 4)(t:∀s∈r,s<E.length):Calls prog 130 #[v,.slice (some ⟨g,0,none⟩) E.length E.length] w fun e w'=>e=.returned (.int .i64 (mD E r:Int))/\w'=w:=by
 obtain⟨a,c,rfl,z⟩:=aB m;unfold maxLen at z;go_enter func130,ntmps130;go_wp2_with fail;have o:Hid (mD E r=0+mD E (r.drop 0)):=by show _=_;simp
 go_loopg [9] r.length (fun k i wr=>∃j:Nat,j+k=r.length/\i=.int .i64 j/\wr=w/\Hid (mD E r=j+mD E (r.drop j)))
 case atStart=>exact⟨0,by omega,rfl,rfl,o⟩
 case round=>
  obtain⟨j,B,rfl,q,f⟩:=hrel;subst q
  by_cases hlt:j<r.length
  ·obtain⟨A,p,u,-,x⟩:=m.at hlt
   cases u;have hd:=f.out;rw[eL hlt,mD]at hd;have d:=t r[j] (dy hlt);have l:=qM E d;generalize r[j]=s at x hd d l;have n:wr.cell? ⟨g,s,none⟩=some (.bool (aJ E s)):=(y.cell s).trans l;have D:(0:Int)<=(s:Int):=by omega
   have C:(s:Int)<(E.length:Int):=by omega
   cases hat:aJ E s with
   |true=>
    rw[hat]at n;rw[de hat]at hd;have b:Hid (mD E r=(j+1)+mD E (r.drop (j+1))):=by show _=_;omega
    clear hd f hat l;go_wp2_with fail;go_roundg (r.length - (j+1))
    case measure=>omega
    case rel=>exact⟨j+1,by omega,by go_num,rfl,b⟩
   |false=>
    rw[hat]at n;rw[dk (by rw[hat];decide)]at hd;have b:Hid (mD E r=j):=by show _=_;omega
    clear hd f hat l;go_wp2_with fail;go_ret;exact⟨by rw[b.out];rfl,rfl⟩
  ·have:j=r.length:=by omega
   subst this;have hd:=f.out;rw[g8]at hd;have b:Hid (mD E r=r.length):=hd;clear hd f;go_wp2_with fail;go_ret;exact⟨by rw[b.out];rfl,rfl⟩
theorem Yi{n:Nat}(g:n<=100000)(w:World):(Instr.makeSlice 142 (.int .i64 (n:Int)) (.int .i64 (n:Int))).run prog w=.ok (.slice (some ⟨w.heap.size,0,none⟩) n n) (w.alloc (.cells (bE (List.replicate n false)) 4)):=by
 obtain⟨d,f,b,a,c⟩:=fd Tryz.NK;have h:=pj (P:=prog) w 142 4 d _ (by kernel_rfl) f b .i64 .i64 (n:Int) (n:Int) (by omega) (nh _) (by rw[c];omega) (by omega);rw[h,gz,a];have e:Value.cells (.bool false)=#[.bool false]:=rfl;rw[e,QN]
structure FU(w:World)(ta:Option Addr)(nT tc:Nat)(na:Option Addr)(nN nc:Nat)(vP:Value)(P:List Lx.Pd):Prop where
 pp:PP (fun _=>True) w vP P
 ok:ad4 (nT+nN) P
 bd:nT+nN<=100000
theorem FU.below{w w':World}{ta:Option Addr}{nT tc:Nat}{na:Option Addr}{nN nc:Nat}{vP:Value}{P:List Lx.Pd}(h:FU w ta nT tc na nN nc vP P)(a:Below w.heap.size w w'):FU w' ta nT tc na nN nc vP P:=⟨h.pp.below a,h.ok,h.bd⟩
def acA(w:World)(n:Nat)(P:List Lx.Pd)(e:Ending)(w':World):Prop:=∃g E k,e=.returned (.slice (some ⟨g,0,none⟩) n n)/\w.heap.size<=g/\aj w' g (bE E) 4/\E.length=n/\E=qZ (jU P) k (List.replicate n false)/\jU P E=E/\Below w.heap.size w w'
theorem aeP{w:World}{ta:Option Addr}{nT tc:Nat}{na:Option Addr}{nN nc:Nat}{vP:Value}{P:List Lx.Pd}{ba ka:Option Addr}{nb bc nk kc:Nat}(h:FU w ta nT tc na nN nc vP P):Calls prog 90 #[.agg #[.slice ta nT tc,.slice na nN nc,vP,.slice ba nb bc,.slice ka nk kc]] w (acA w (nT+nN) P):=by
 obtain⟨hP,aa,R⟩:=h;obtain⟨pa,pc,rfl,ac⟩:∃a c,vP=.slice a P.length c/\P.length<=maxLen:=by obtain⟨ps,h1,h2,-⟩:=hP;exact aB h2
 unfold maxLen at ac;obtain⟨n,hn⟩:∃n,n=nT+nN:=⟨_,rfl⟩;have ah:IntKind.i64.wrap ((nT:Int)+(nN:Int))=(n:Int):=by rw[hn,<-pt];exact wrap64 (by omega)
 rw[<-hn]at aa R|-;clear hn;have ad:=fun w=>Yi R w
 unfold acA;go_enter func90,ntmps90;go_wp2_with fail;obtain⟨W,I⟩:∃W,W=(w.alloc (.cells #[.slice ta nT tc,.slice na nN nc,.slice pa P.length pc,.slice ba nb bc,.slice ka nk kc] 56)).alloc (.cells (bE (List.replicate n false)) 4):=⟨_,rfl⟩;rw[<-I];have p:Below w.heap.size w W:=by rw[I];exact((cV _ _).alloc (zL0) _).alloc (by simp) _
 have zk:W.heap.size=w.heap.size+2:=by rw[I];simp
 have kA:aj W w.heap.size #[.slice ta nT tc,.slice na nN nc,.slice pa P.length pc,.slice ba nb bc,.slice ka nk kc] 56:=by rw[I];exact(aj.new w _ 56).alloc _
 have kE:aj W (w.heap.size+1) (bE (List.replicate n false)) 4:=by
  rw[I];simpa using aj.new (w.alloc (.cells #[.slice ta nT tc,.slice na nN nc,.slice pa P.length pc,.slice ba nb bc,.slice ka nk kc] 56)) (bE (List.replicate n false)) 4
 clear I ad ah
 go_loopg [4] (n+1) (fun k v wr=>∃(b:Bool)(E:List Bool)(m:Nat),v=.bool b/\(b=true->n-bq E+1<=k)/\E.length=n/\aj wr (w.heap.size+1) (bE E) 4/\Kp (fun g=>g<W.heap.size/\g≠w.heap.size+1) W wr/\Hid (E=qZ (jU P) m (List.replicate n false))/\Hid (b=false->jU P E=E))
 case atStart=>exact⟨true,_,0,rfl,fun _=>by omega,by simp,kE,Kp.refl _ _,rfl,fun h=>by cases h⟩
 case round=>
  revert wr;intro wz hrel;obtain⟨b,E,m,rfl,G,Y,VU,q,HE,HF⟩:=hrel;have Cq:aj wz w.heap.size _ 56:=dW kA q ⟨by omega,by omega⟩;have hsz:=q.size;cases b with
  |true=>
   have d:=G rfl;have z2:wz.cell? ⟨w.heap.size,2,none⟩=some (.slice pa P.length pc):=Cq.cell 2;clear G HF;obtain⟨S,xU⟩:∃S,Hid (S=gk):=⟨gk,rfl⟩;have ax:n-bq E+1<=S:=by rw[xU.out];exact d
   clear d;go_wp2_with fail;have H0:Hid (jU P E=jU (P.drop 0) E):=rfl
   go_loopg [4,19] P.length (fun k v i wr=>∃(j:Nat)(b:Bool)(F:List Bool),j+k=P.length/\v=.bool b/\i=.int .i64 j/\F.length=n/\aj wr (w.heap.size+1) (bE F) 4/\Kp (fun g=>g<W.heap.size/\g≠w.heap.size+1) W wr/\Hid ((b=false->F=E)/\(b=true->bq E<bq F)/\bq E<=bq F)/\Hid (jU P E=jU (P.drop j) F))
   case atStart=>exact⟨0,false,E,by omega,rfl,rfl,Y,VU,q,⟨fun _=>rfl,(fun h=>by cases h),zL0⟩,H0⟩
   case round=>
    clear H0 VU q Cq z2;obtain⟨j,b,F,aq,rfl,rfl,z,kF,t,L,H⟩:=hrel;have av:=t.size;have ag:Below w.heap.size w wr:=⟨t.os.trans p.os,t.tape.trans p.tape,t.output.trans p.output,by omega,fun x M=>(t.block x ⟨by omega,by omega⟩).trans (p.block x M)⟩
    by_cases hlt:j<P.length
    ·obtain⟨g,ap,u,hv,hu,U,x1,N⟩:=(hP.below ag).at hlt
     cases hv;obtain⟨f,l⟩:=aa P[j] (dy hlt);have hd:=H.out;rw[eL hlt,show jU (P[j]::P.drop (j+1)) F=jU (P.drop (j+1)) (Jz F P[j]) from rfl]at hd;generalize P[j]=pd at hu U x1 N f l hd;obtain⟨pl,pr,J⟩:=pd;simp only at hu U x1 N f l;obtain⟨Q,O,rfl,-⟩:=aB hu;obtain⟨y,o⟩:∃y,y=wr.alloc (.cells #[.int .i64 (pl:Int),.slice Q pr.length O,.int .i64 J] 120):=⟨_,rfl⟩;have C:Below wr.heap.size wr y.drew:=by rw[o];exact((cV _ _).alloc (zL0) _).drew
     have ao:y.heap.size=wr.heap.size+1:=by rw[o];simp
     have kp:aj y wr.heap.size #[.int .i64 (pl:Int),.slice Q pr.length O,.int .i64 J] 120:=by rw[o];exact aj.new wr _ 120
     have lF:=kF.lt;have K:aj y.drew (w.heap.size+1) (bE F) 4:=(C.block _ lF).trans kF;have d:Kp (fun g=>g<W.heap.size/\g≠w.heap.size+1) W y.drew:=t.trans (Kp.below C (D:=fun g=>g<wr.heap.size) fun g hg=>hg) fun g hg=>by omega
     have p0:y.drew.cell? ⟨wr.heap.size,0,none⟩=some (.int .i64 (pl:Int)):=kp.drew.cell 0;have p1:y.drew.cell? ⟨wr.heap.size,1,none⟩=some (.slice Q pr.length O):=kp.drew.cell 1;have i1:(0:Int)<=(pl:Int):=by omega
     have i2:(pl:Int)<(n:Int):=by omega
     have cE:y.drew.cell? ⟨w.heap.size+1,pl,none⟩=some (.bool (aJ F pl)):=(K.cell pl).trans (qM F (by rw[z];exact f));cases hat:aJ F pl with
     |true=>
      have r:Jz F ⟨pl,pr,J⟩=F:=dk (by rw[show (⟨pl,pr,J⟩:Lx.Pd).left=pl from rfl,hat];simp);rw[r]at hd;have X:Hid (jU P E=jU (P.drop (j+1)) F):=hd;rw[hat]at cE;clear hd H r hat;go_wp2_with fail;rw[<-o];clear o U x1 N
      go_region
      all_goals
       go_wp2_with fail;go_roundg (P.length - (j+1))
       case measure=>omega
       case rel=>exact⟨j+1,b,F,by omega,rfl,by go_num,z,K,d,L,X⟩
     |false=>
      rw[hat]at cE;have ab:∀s∈pr,s<F.length:=fun s hs=>by rw[z];exact l s hs
      have V:=Xd (w:=y.drew) (own_below hu C) K ab;rw[z]at V;have JW:=Rq F pr
      by_cases hah:mD F pr=pr.length
      ·have r:Jz F ⟨pl,pr,J⟩=F.set pl true:=de ⟨hat,hah⟩
       rw[r]at hd;have X:Hid (jU P E=jU (P.drop (j+1)) (F.set pl true)):=hd;have al:=Ja (bs:=F) (i:=pl) (by rw[z];exact f) hat;have Z:Hid (bq E<bq (F.set pl true)):=by have:=L.out.2.2;show _<_;omega
       rw[hah]at V;obtain⟨W2,B⟩:∃W2,W2=(y.setCell ⟨w.heap.size+1,pl,none⟩ (.bool true)).drew:=⟨_,rfl⟩;have GJ:aj W2 (w.heap.size+1) (bE (F.set pl true)) 4:=by
        have:aj y (w.heap.size+1) (bE F) 4:=K;rw[B,<-Di];exact(this.set pl _).drew
       have ak:Kp (fun g=>g<W.heap.size/\g≠w.heap.size+1) W W2:=by
        rw[B];exact⟨d.os,d.tape,d.output,by simpa [World.setCell]using d.size,fun x M=>(zS0 M.2).trans (d.block x M)⟩
       have fE:∀i,y.drew.frozen? ⟨w.heap.size+1,i,none⟩=false:=K.frozen;clear hd H r hat JW al hah;go_wp2_with fail;rw[<-o];clear o U x1 N
       go_region_held3 (fun A=>A.cell? ⟨wr.heap.size,0,none⟩=some (.int .i64 (pl:Int))/\A.cell? ⟨wr.heap.size,1,none⟩=some (.slice Q pr.length O)/\A.cell? ⟨w.heap.size+1,pl,none⟩=some (.bool false)) (first | go_keep | assumption) ((go_at_call 130;refine V.mono ?_;rintro e w5⟨rfl,jh⟩;subst jh))
       all_goals
        go_wp2_with fail;rw[<-B];go_roundg (P.length - (j+1))
        case measure=>omega
        case rel=>exact⟨j+1,true,F.set pl true,by omega,rfl,by go_num,by rw[ib];exact z,GJ,ak,⟨(fun h=>by cases h),fun _=>Z.out,lh Z.out⟩,X⟩
      ·have r:Jz F ⟨pl,pr,J⟩=F:=dk fun h=>hah h.2
       rw[r]at hd;have X:Hid (jU P E=jU (P.drop (j+1)) F):=hd;obtain⟨an,T⟩:∃an,an=mD F pr:=⟨_,rfl⟩;rw[<-T]at V hah JW;have ar:((an:Int) == (pr.length:Int))=false:=zB0 (by omega);have am:¬(an:Int)=(pr.length:Int):=by omega
       have Uu:¬an=pr.length:=hah;clear hd H r hat JW hah T;go_wp2_with fail;rw[<-o];clear o U x1 N
       go_region_held3 (fun A=>A.cell? ⟨wr.heap.size,0,none⟩=some (.int .i64 (pl:Int))/\A.cell? ⟨wr.heap.size,1,none⟩=some (.slice Q pr.length O)/\A.cell? ⟨w.heap.size+1,pl,none⟩=some (.bool false)) (first | go_keep | assumption) ((go_at_call 130;refine V.mono ?_;rintro e w5⟨rfl,jh⟩;subst jh))
       all_goals
        go_wp2_with fail;go_roundg (P.length - (j+1))
        case measure=>omega
        case rel=>exact⟨j+1,b,F,by omega,rfl,by go_num,z,K,d,L,X⟩
    ·have:j=P.length:=by omega
     subst this;have hd:=H.out;rw[g8]at hd;have K7:Hid (jU P E=F):=hd;have aw:=Bw F;have ae:Hid (F=qZ (jU P) (m+1) (List.replicate n false)):=by
      show F=jU P (qZ (jU P) m (List.replicate n false));rw[<-HE.out];exact K7.out.symm
     have VW:Hid (b=false->jU P F=F):=fun hb=>by
      have h1:=L.out.1 hb;rw[h1];have:=K7.out;rw[h1]at this;exact this
     have VX:Hid (b=true->n-bq F+1<=S-1):=fun hb=>by
      have:=L.out.2.1 hb;omega
     clear L H hd;go_wp2_with fail;go_roundg (S-1)
     case measure=>have:=xU.out;omega
     case rel=>exact⟨b,F,m+1,rfl,VX.out,z,kF,t,ae,VW⟩
  |false=>
   have zi:=HF.out rfl;have ai:Hid (jU P E=E):=zi;clear HF zi G;have af:Below w.heap.size w wz:=⟨q.os.trans p.os,q.tape.trans p.tape,q.output.trans p.output,by omega,fun x M=>(q.block x ⟨by omega,by omega⟩).trans (p.block x M)⟩;go_wp2_with fail;go_ret;exact⟨_,E,m,rfl,by omega,VU,Y,HE.out,ai.out,af⟩
namespace Lx
def je(A B:List Bool)(i:Nat):List Bool:=(List.range A.length).map fun k=>aJ A k || (decide (k<i) && aJ B k)
def qg(A B:List Bool):List Bool:=je A B A.length
theorem wK(A B:List Bool)(i:Nat):(je A B i).length=A.length:=by simp[je]
theorem NQ{A:List Bool}{k:Nat}(h:k<A.length):aJ A k=A[k]:=by simp[aJ,h]
theorem FD(A B:List Bool)(i:Nat){k:Nat}(h:k<A.length):aJ (je A B i) k=(aJ A k || (decide (k<i) && aJ B k)):=by
 rw[NQ (by rw[wK];exact h)];simp[je]
theorem Rs(A B:List Bool):je A B 0=A:=by
 apply mi
 ·simp[je]
 ·intro k h1 h2
  simp[je,NQ h2]
theorem Tc{A B:List Bool}(a:A.length=B.length)(h:∀k,k<A.length->aJ A k=aJ B k):A=B:=by
 apply mi a;intro k h1 h2;have:=h k h1;rw[NQ h1,NQ h2]at this;exact this
theorem ajW{A B:List Bool}{i:Nat}(c:i<A.length)(b:aJ B i=true):je A B (i+1)=(je A B i).set i true:=by
 refine Tc (by simp[wK]) fun k a=>?_
 rw[wK]at a;rw[FD A B (i+1) a,at_set,FD A B i a,wK]
 by_cases e:i=k
 ·subst e;simp[b,c]
 ·rw[dk (by simp[e])]
  have:decide (k<i+1)=decide (k<i):=by simp;omega
  rw[this]
theorem Z6{A B:List Bool}{i:Nat}(h:aJ B i=false\/aJ (je A B i) i=true):je A B (i+1)=je A B i:=by
 refine Tc (by simp[wK]) fun k a=>?_
 rw[wK]at a;rw[FD A B (i+1) a,FD A B i a]
 by_cases e:k=i
 ·subst e
  rcases h with h|h
  ·simp[h]
  ·rw[FD A B k a]at h
   simp at h;simp[h]
 ·have:decide (k<i+1)=decide (k<i):=by simp;omega
  rw[this]
theorem ajX(A:List Bool):qg A A=A:=by
 refine Tc (by simp[qg,wK]) fun k a=>?_
 unfold qg at a|-;rw[wK]at a;rw[FD A A _ a];simp
def jE(A:List Bool):List Nat:=(List.range A.length).filter fun k=>aJ A k
end Lx
structure NR(w:World)(gi:Nat)(A C:List Bool)(w':World):Prop where
 blk:aj w' gi (bE C) 4
 aU:∀g,g≠gi->w'.heap[g]?=w.heap[g]?
 os:w'.os=w.os
 tape:w'.tape=w.tape
 output:w'.output=w.output
 size:w'.heap.size=w.heap.size
theorem ajY{w:World}{d gf n:Nat}{A B:List Bool}(r:d≠gf)(kA:aj w d (bE A) 4)(kB:aj w gf (bE B) 4)(C:A.length=n)(H:B.length=n)(F:n<=100000):Calls prog 132 #[.slice (some ⟨d,0,none⟩) n n,.slice (some ⟨gf,0,none⟩) n n] w fun e w'=>∃b:Bool,e=.returned (.bool b)/\(b=true->bq A<bq (qg A B))/\(b=false->qg A B=A)/\NR w d A (qg A B) w':=by
 go_enter func132,ntmps132;go_wp2_with fail
 go_loopg [5,10] n (fun k v i wr=>∃(j:Nat)(b:Bool),j+k=n/\v=.bool b/\i=.int .i64 j/\NR w d A (je A B j) wr/\Hid ((b=true->bq A<bq (je A B j))/\(b=false->je A B j=A)/\bq A<=bq (je A B j)))
 case atStart=>exact⟨0,false,by omega,rfl,rfl,⟨by rw[Rs];exact kA,fun _ _=>rfl,rfl,rfl,rfl,rfl⟩,⟨(fun h=>by cases h),fun _=>Rs A B,by rw[Rs];exact zL0⟩⟩
 case round=>
  obtain⟨j,b,G,rfl,rfl,⟨l,m,h1,h2,h3,h4⟩,f⟩:=hrel
  by_cases hlt:j<n
  ·have D:aj wr gf (bE B) 4:=(m gf (fun e=>r e.symm)).trans kB
   have t:wr.cell? ⟨gf,j,none⟩=some (.bool (aJ B j)):=(D.cell j).trans (qM B (by omega));have z:wr.cell? ⟨d,j,none⟩=some (.bool (aJ (je A B j) j)):=(l.cell j).trans (qM _ (by rw[wK];omega));have E:∀i,wr.frozen? ⟨d,i,none⟩=false:=l.frozen;have p:=l.set j (.bool true);rw[Di]at p;cases haB:aJ B j with
   |false=>
    have a:=Z6 (A:=A) (B:=B) (i:=j) (.inl haB);rw[haB]at t;have c:Hid (je A B (j+1)=je A B j):=a;clear a haB p;go_wp2_with fail;go_roundg (n - (j+1))
    case measure=>omega
    case rel=>exact⟨j+1,b,by omega,rfl,by go_num,by rw[c.out];exact⟨l,m,h1,h2,h3,h4⟩,by rw[c.out];exact f⟩
   |true=>
    rw[haB]at t;cases GK:aJ (je A B j) j with
    |true=>
     have a:=Z6 (A:=A) (B:=B) (i:=j) (.inr GK);rw[GK]at z;have c:Hid (je A B (j+1)=je A B j):=a;clear a haB GK p;go_wp2_with fail;go_roundg (n - (j+1))
     case measure=>omega
     case rel=>exact⟨j+1,b,by omega,rfl,by go_num,by rw[c.out];exact⟨l,m,h1,h2,h3,h4⟩,by rw[c.out];exact f⟩
    |false=>
     have o:=ajW (A:=A) (B:=B) (i:=j) (by omega) haB;have q:=Ja (bs:=je A B j) (i:=j) (by rw[wK];omega) GK;rw[GK]at z;have c:Hid (je A B (j+1)=(je A B j).set j true):=o;have y:Hid (bq A<bq ((je A B j).set j true)):=by have:=f.out.2.2;show _<_;omega
     clear o haB GK q;go_wp2_with fail;go_roundg (n - (j+1))
     case measure=>omega
     case rel=>exact⟨j+1,true,by omega,rfl,by go_num,by rw[c.out];exact⟨p,fun g u=>(zS0 u).trans (m g u),h1,h2,h3,by simpa [World.setCell]using h4⟩,by rw[c.out];exact⟨fun _=>y.out,(fun h=>by cases h),lh y.out⟩⟩
  ·have:j=n:=by omega
   subst this;have s:je A B j=qg A B:=by unfold qg;rw[C]
   rw[s]at l f;have x:Hid ((b=true->bq A<bq (qg A B))/\(b=false->qg A B=A)):=⟨f.out.1,f.out.2.1⟩;clear f s;go_wp2_with fail;go_ret;exact⟨b,rfl,x.out.1,x.out.2,l,m,h1,h2,h3,h4⟩
theorem join_self{w:World}{a n:Nat}{A:List Bool}(kA:aj w a (bE A) 4)(g:A.length=n)(d:n<=100000):Calls prog 132 #[.slice (some ⟨a,0,none⟩) n n,.slice (some ⟨a,0,none⟩) n n] w fun e w'=>e=.returned (.bool false)/\w'=w:=by
 go_enter func132,ntmps132;go_wp2_with fail
 go_loopg [5,10] n (fun k v i wr=>∃j:Nat,j+k=n/\v=.bool false/\i=.int .i64 j/\wr=w)
 case atStart=>exact⟨0,by omega,rfl,rfl,rfl⟩
 case round=>
  obtain⟨j,f,rfl,rfl,c⟩:=hrel;subst c
  by_cases hlt:j<n
  ·have b:wr.cell? ⟨a,j,none⟩=some (.bool (aJ A j)):=(kA.cell j).trans (qM A (by omega))
   cases hat:aJ A j with
   |true=>
    rw[hat]at b;clear hat;go_wp2_with fail;go_roundg (n - (j+1))
    case measure=>omega
    case rel=>exact⟨j+1,by omega,rfl,by go_num,rfl⟩
   |false=>
    rw[hat]at b;clear hat;go_wp2_with fail;go_roundg (n - (j+1))
    case measure=>omega
    case rel=>exact⟨j+1,by omega,rfl,by go_num,rfl⟩
  ·go_wp2_with fail
   go_ret;exact⟨rfl,rfl⟩
theorem agd{w:World}{g n:Nat}{A:List Bool}(kA:aj w g (bE A) 4)(B:A.length=n)(O:n<=100000):Calls prog 133 #[.slice (some ⟨g,0,none⟩) n n] w fun e w'=>∃u,e=.returned u/\IR w.heap.size w' u (jE A)/\Below w.heap.size w w':=by
 obtain⟨E,p,r,q,o⟩:=fd Tryz.info3;go_enter func133,ntmps133;go_wp2_with fail
 go_loopg [3,8] n (fun k v i wr=>∃(j:Nat)(a:List Nat),j+k=n/\i=.int .i64 j/\IR w.heap.size wr v a/\Below w.heap.size w wr/\a.length<=j/\Hid (a=(List.range j).filter fun k=>aJ A k))
 case atStart=>exact⟨0,[],by omega,rfl,eE _ _ _ _,cV _ _,by simp,rfl⟩
 case round=>
  obtain⟨j,a,x,rfl,f,l,H,m⟩:=hrel;obtain⟨D,I,rfl,-⟩:=aB f;have z:=l.size
  by_cases hlt:j<n
  ·have C:aj wr g (bE A) 4:=(l.block g kA.lt).trans kA
   have y:wr.cell? ⟨g,j,none⟩=some (.bool (aJ A j)):=(C.cell j).trans (qM A (by omega));have b:(List.range (j+1)).filter (fun k=>aJ A k)=(List.range j).filter (fun k=>aJ A k)++(if aJ A j=true then [j] else []):=by
    rw[List.range_succ,jx];simp[List.filter_cons]
   cases hat:aJ A j with
   |true=>
    rw[hat]at y b;have c:Hid (a++[j]=(List.range (j+1)).filter fun k=>aJ A k):=by show _=_;rw[b,<-m.out];rfl
    have G:=f.alloc (.cells #[.int .i64 (j:Int)] 3);clear hat b
    go_wp2_with (at_builtin;go_loud (refine ge _ rfl _ _ 22 rfl w.heap.size 3 E _ 1 8 underlying22 p r q o rfl (by decide) (.slice D a.length I) _ _ rfl G ⟨_,0,none⟩ 1 1 [.int .i64 (j:Int)] rfl rfl (dI (aj.new _ _ 3)) (by simp[Value.oneCell']) (by unfold maxLen;omega) (by omega) (by simp;omega) ?_;intro L J d F _ M;obtain⟨K,N,t,-⟩:=aB d;subst t))
    have s:Below w.heap.size w J:=(l.alloc z _).grown F (by simp;omega) (fun k x=>(f.lt k x).1);go_roundg (n - (j+1))
    case measure=>omega
    case rel=>exact⟨j+1,a++[j],by omega,by go_num,by unfold IR;rw[cH,EU];exact d,s,by simp;omega,c⟩
   |false=>
    rw[hat]at y b;have c:Hid (a=(List.range (j+1)).filter fun k=>aJ A k):=by show _=_;rw[b,<-m.out];simp
    clear hat b;go_wp2_with fail;go_roundg (n - (j+1))
    case measure=>omega
    case rel=>exact⟨j+1,a,by omega,by go_num,f,l,by omega,c⟩
  ·have:j=n:=by omega
   subst this;have c:Hid (a=jE A):=by show _=_;rw[m.out];unfold jE;rw[B]
   clear m;go_wp2_with fail;go_ret;exact⟨_,rfl,by rw[<-c.out];exact f,l⟩
def vA(l:List Value):Array Value:=l.toArray
theorem acB(l:List Value)(i:Nat)(v:Value):(vA l).setIfInBounds i v=vA (l.set i v):=by unfold vA;rw[iz]
theorem Td(l:List Value)(i:Nat):(vA l)[i]?=l[i]?:=by unfold vA;rw[fR]
def AL(n g:Nat):Value:=.slice (some ⟨g,0,none⟩) n n
theorem Tryz.ali:(prog.info? 142).map (fun i=>(i.zero,i.size,i.bytes))=some (some (.slice none 0 0),1,24):=by kernel_rfl
theorem aiv{n:Nat}(j:n<=100000)(w:World):(Instr.makeSlice 273 (.int .i64 (n:Int)) (.int .i64 (n:Int))).run prog w=.ok (.slice (some ⟨w.heap.size,0,none⟩) n n) (w.alloc (.cells (vA (List.replicate n (Value.slice none 0 0))) 142)):=by
 obtain⟨g,f,a,c,b⟩:=fd Tryz.ali;have h:=pj (P:=prog) w 273 142 g _ (by kernel_rfl) f a .i64 .i64 (n:Int) (n:Int) (by omega) (nh _) (by rw[b];omega) (by omega);rw[h,gz,c];have e:Value.cells (.slice none 0 0)=#[.slice none 0 0]:=rfl;have d:madeCells #[.slice none 0 0] (n*1)=(vA (List.replicate n (Value.slice none 0 0))):=by
  unfold madeCells vA;apply pN
  ·simp
  ·intro i h1 h2
   simp[Nat.mod_one]
 rw[e,d]
structure BB(w:World)(gO nT:Nat)(gs:List Nat)(B:List (List Bool)):Prop where
 outer:aj w gO (vA (gs.map (AL nT))) 142
 len:B.length=gs.length
 rows:∀i(hi:i<gs.length)(hi':i<B.length),aj w gs[i] (bE B[i]) 4
 rl:∀b∈B,b.length=nT
 nd:gs.Nodup
 no:gO∉gs
namespace Lx
def yK(nT i:Nat):List Bool:=if i<nT then (List.replicate nT false).set i true else List.replicate nT false
def alone(nT n:Nat):List (List Bool):=(List.range n).map (yK nT)
theorem afx(nT i:Nat):(yK nT i).length=nT:=by unfold yK;split <;> simp
end Lx
def acC(w:World)(nT n:Nat)(e:Ending)(w':World):Prop:=∃gO gs,e=.returned (.slice (some ⟨gO,0,none⟩) n n)/\w.heap.size<=gO/\(∀g∈gs,w.heap.size<=g)/\BB w' gO nT gs (Lx.alone nT n)/\Below w.heap.size w w'
theorem aeI{w:World}{ta:Option Addr}{nT tc:Nat}{na:Option Addr}{nN nc:Nat}{vP vB vK:Value}{pa ba ka:Option Addr}{J pc nb bc nk kc:Nat}(Ay:vP=.slice pa J pc)(L:vB=.slice ba nb bc)(K:vK=.slice ka nk kc)(F:nT+nN<=100000):Calls prog 131 #[.agg #[.slice ta nT tc,.slice na nN nc,vP,vB,vK]] w (acC w nT (nT+nN)):=by
 subst Ay L K;obtain⟨n,E⟩:∃n,n=nT+nN:=⟨_,rfl⟩;have N:IntKind.i64.wrap ((nT:Int)+(nN:Int))=(n:Int):=by rw[E,<-pt];exact wrap64 (by omega)
 have V:nT<=100000:=by omega
 rw[<-E]at F|-;clear E;have P:=fun w=>aiv F w
 unfold acC;go_enter func131,ntmps131;go_wp2_with fail;obtain⟨W,A⟩:∃W,W=(w.alloc (.cells #[.slice ta nT tc,.slice na nN nc,.slice pa J pc,.slice ba nb bc,.slice ka nk kc] 56)).alloc (.cells (vA (List.replicate n (Value.slice none 0 0))) 142):=⟨_,rfl⟩;rw[<-A];have s:Below w.heap.size w W:=by rw[A];exact((cV _ _).alloc (zL0) _).alloc (by simp) _
 have zk:W.heap.size=w.heap.size+2:=by rw[A];simp
 have kA:aj W w.heap.size #[.slice ta nT tc,.slice na nN nc,.slice pa J pc,.slice ba nb bc,.slice ka nk kc] 56:=by rw[A];exact(aj.new w _ 56).alloc _
 have kO:aj W (w.heap.size+1) (vA (List.replicate n (Value.slice none 0 0))) 142:=by
  rw[A];simpa using aj.new (w.alloc (.cells #[.slice ta nT tc,.slice na nN nc,.slice pa J pc,.slice ba nb bc,.slice ka nk kc] 56)) (vA (List.replicate n (Value.slice none 0 0))) 142
 clear A P N
 go_loopg [15] n (fun k i wr=>∃(j:Nat)(c:List Nat),j+k=n/\i=.int .i64 j/\c.length=j/\aj wr (w.heap.size+1) (vA (c.map (AL nT)++List.replicate (n-j) (Value.slice none 0 0))) 142/\(∀i(t:i<c.length),aj wr c[i] (bE (yK nT i)) 4)/\(∀g∈c,w.heap.size+2<=g)/\c.Nodup/\Kp (fun g=>g<W.heap.size/\g≠w.heap.size+1) W wr)
 case atStart=>exact⟨0,[],by omega,rfl,rfl,by simpa using kO,(fun i t=>absurd t (by simp)),(fun g l=>by cases l),mf,Kp.refl _ _⟩
 case round=>
  obtain⟨j,c,hk,rfl,p,v,f,o,r,d⟩:=hrel;have T:=d.size;have R:aj wr w.heap.size _ 56:=dW kA d ⟨by omega,by omega⟩
  by_cases hlt:j<n
  ·have a0:wr.cell? ⟨w.heap.size,0,none⟩=some (.slice ta nT tc):=R.cell 0
   have aa:=fun w=>Yi V w
   have lO:=v.lt;have lw:=R.lt;have cO:wr.cell? ⟨w.heap.size+1,j,none⟩=some (.slice none 0 0):=by
    rw[v.cell j,Td,eJ (by simp;omega),dt,p,ij,ju,de (by omega)]
   have fO:∀i,wr.frozen? ⟨w.heap.size+1,i,none⟩=false:=v.frozen;have G:∀g∈c,g<wr.heap.size:=fun g l=>by
    obtain⟨i,t,rfl⟩:=li l;exact(f i t).lt
   have y:(vA (c.map (AL nT)++List.replicate (n-j) (Value.slice none 0 0))).setIfInBounds j (AL nT wr.heap.size)=(vA ((c++[wr.heap.size]).map (AL nT)++List.replicate (n - (j+1)) (Value.slice none 0 0))):=by
    rw[acB,mr _ _ (by simp;omega),show n-j=n - (j+1)+1 by omega,mT];simp[p]
   have X:Hid _:=y;have u:∀{C:List Bool},C=yK nT j->∀B,B=(wr.setCell ⟨w.heap.size+1,j,none⟩ (AL nT wr.heap.size)).alloc (.cells (bE C) 4)->aj B (w.heap.size+1) (vA ((c++[wr.heap.size]).map (AL nT)++List.replicate (n - (j+1)) (Value.slice none 0 0))) 142/\(∀i(t:i<(c++[wr.heap.size]).length),aj B (c++[wr.heap.size])[i] (bE (yK nT i)) 4)/\(∀g∈c++[wr.heap.size],w.heap.size+2<=g)/\(c++[wr.heap.size]).Nodup/\Kp (fun g=>g<W.heap.size/\g≠w.heap.size+1) W B:=by
    intro C z B m;have I:∀g,g<wr.heap.size->g≠w.heap.size+1->B.heap[g]?=wr.heap[g]?:=fun g l E=>by
     rw[m,di _ _ _ (by simp[World.setCell];exact l),zS0 E]
    refine⟨?_,?_,?_,?_,?_⟩
    ·rw[m,<-X.out];exact(v.set j _).alloc _
    ·intro i t
     rw[cH,gx]at t
     by_cases hij:i<c.length
     ·rw[List.getElem_append_left hij]
      have h1:=o c[i] (dy hij);exact(I _ (G _ (dy hij)) (by omega)).trans (f i hij)
     ·have:i=c.length:=by omega
      subst this;rw[List.getElem_append_right (zL0)];simp only[ij,tB];rw[p,<-z,m];have:=aj.new (wr.setCell ⟨w.heap.size+1,j,none⟩ (AL nT wr.heap.size)) (bE C) 4;simpa [World.setCell]using this
    ·intro g l
     rcases cY.1 l with l|l
     ·exact o g l
     ·rw[cM.1 l];omega
    ·rw[ik]
     refine⟨r,by simp,fun a Z b Q e=>?_⟩;rw[cM.1 Q]at e;have:=G a Z;omega
    ·refine⟨by rw[m];exact d.os,by rw[m];exact d.tape,by rw[m];exact d.output,by rw[m];simp[World.setCell];omega,fun g l=>(I g (by omega) l.2).trans (d.block g l)⟩
   have H:Hid _:=@u;clear u y
   by_cases hjt:j<nT
   ·have S:(bE (List.replicate nT false))[j]?=some (.bool false):=by rw[qM _ (by simpa using hjt)];simp[aJ,hjt]
    have z:(List.replicate nT false).set j true=yK nT j:=(de hjt).symm;have O:Hid _:=z;clear z f v o r;go_wp2_with fail;rw[Di];have q:=H.out O.out _ rfl;go_roundg (n - (j+1))
    case measure=>omega
    case rel=>exact⟨j+1,c++[wr.heap.size],by omega,by go_num,by simp[p],q.1,q.2.1,q.2.2.1,q.2.2.2.1,q.2.2.2.2⟩
   ·have z:List.replicate nT false=yK nT j:=(dk hjt).symm
    have O:Hid _:=z;clear z f v o r;go_wp2_with fail;have q:=H.out O.out _ rfl;go_roundg (n - (j+1))
    case measure=>omega
    case rel=>exact⟨j+1,c++[wr.heap.size],by omega,by go_num,by simp[p],q.1,q.2.1,q.2.2.1,q.2.2.2.1,q.2.2.2.2⟩
  ·have:j=n:=by omega
   subst this;have M:Below w.heap.size w wr:=⟨d.os.trans s.os,d.tape.trans s.tape,d.output.trans s.output,by omega,fun x q=>(d.block x ⟨by omega,by omega⟩).trans (s.block x q)⟩;have D:BB wr (w.heap.size+1) nT c (Lx.alone nT j):=by
    refine⟨by simpa using v,by simp[Lx.alone,p],fun i t ab=>?_,?_,r,fun hm=>by have:=o _ hm;omega⟩
    ·have:(Lx.alone nT j)[i]=yK nT i:=by simp[Lx.alone]
     rw[this];exact f i t
    ·intro b Q
     obtain⟨i,-,rfl⟩:=ej.1 Q;exact afx nT i
   have Y:Hid _:=D;have U:Hid (∀g∈c,w.heap.size<=g):=fun g l=>by have:=o g l;omega
   clear D v f o;go_wp2_with fail;go_ret;exact⟨_,c,rfl,by omega,U.out,Y.out,M⟩
end Go.Proofs.YtagkodkijkpemaaGreatDoor

import Derived.Test.YtagkodkijkpemaaGreatDoorRA33
import Derived.OwnWalkIn
import Derived.Test.YtagkodkijkpemaaGreatDoorRA25
set_option maxHeartbeats 8000000
set_option maxRecDepth 1000000
namespace Go.Proofs.YtagkodkijkpemaaGreatDoor
open Lx Go.Proofs.Tryz
open Go.RowKit Tr
namespace Rn
structure Nd where
 sym:Int
 prod:Int
 kl:Nat
 fr:Nat
 wd:Int
end Rn
def yu(n:Rn.Nd×Value):List Value:=[.int .i64 n.1.sym,.int .i64 n.1.prod,n.2,.int .i64 (n.1.fr:Int),.int .i64 n.1.wd]
structure dD(W0:World)(B mb pb:Nat)(rv vL vN:Value)(W:World)(ps:Nat)(pile:List Nat)(nv:List (Rn.Nd×Value)):Prop where
 blk:aj W mb #[.pointer (some ⟨pb,0,none⟩),rv,.int .i64 (ps:Int),vL,vN] 131
 rL:W.ownsRow B 3 1 vL pile.length (pile.map bQ)
 rN:W.ownsRow B 69 5 vN nv.length (nv.flatMap yu)
 b:Below B W0 W
 hB:B=W0.heap.size
 lb:B<=mb
theorem aiD{W:World}{B e z m:Nat}{a:Option Addr}{n c:Nat}{f:List Value}(h:W.ownsRow B e z (.slice a n c) n f)(j:m<=n)(r:0<n):W.ownsRow B e z (.slice a m c) m (f.take (m*z)):=by
 have b:m*z<=n*z:=j9 z j;refine⟨by rw[fN,h.1];omega,?_⟩;rcases h.2 with ⟨i,q⟩|⟨g,l,d,i,h2,h3,h4,o,k,p⟩
 ·omega
 ·cases i
  refine .inr ⟨g,c,d,rfl,h2,h3,by omega,o,k,?_⟩;rw[<-p,List.take_take,sg b]
theorem Xm{P:Program}{w:World}{d:Array Oper}{n:Nat}{o:Oper}{a:Act}{K:Act->World->Prop}{Q:Exit->Act->World->Prop}{E:Prop}(b:o.guard=none)(s x:Operand)(t l:TypeId)(j:o.op=.call { callee:=.builtin .append,args:=#[s,x],argTypes:=#[t,l] })(g k:Value)(p:a.eval s=g)(q:a.eval x=k)(i:Value)(w':World)(m:(Builtin.append_ #[t,l] o.type #[g,k]).run P w=.ok i w')(h:K (a.put o.dst i) w'):if Region.wanted o (yielded d a.tmps)=true then Oper.wpIn Fence.wide n P o a w K Q else E:=by
 rw[de (by simp[Region.wanted,b])];refine⟨fun f r=>trivial,?_⟩;rw[Oper.semAt_plain _ _ _ (fun c e=>by rw[j]at e;cases e)];unfold execOp;simp only[j,resolve,invoke,builtin,Sem.run_bind,Sem.run_pure,Result.andThen_ok,List.map_toArray,jp,pH,p,q,m];exact h
section
variable {W0 W W':World} {B B' mb pb ps:Nat} {rv vL vN x:Value} {pile:List Nat} {nv:List (Rn.Nd×Value)} {v:fV} {p:Pk.T} {row:List Int}
theorem dD.km(h:dD W0 B mb pb rv vL vN W ps pile nv):Kd W mb 131:=⟨_,h.blk⟩
theorem dD.kL(h:dD W0 B mb pb rv vL vN W ps pile nv){g:Nat}(a:vL.ownBlock=some g):Kd W g 3:=eU h.rL a
theorem dD.kN(h:dD W0 B mb pb rv vL vN W ps pile nv){g:Nat}(a:vN.ownBlock=some g):Kd W g 69:=eU h.rN a
theorem dD.size(h:dD W0 B mb pb rv vL vN W ps pile nv):B<=W.heap.size:=dg h.lb (lh h.blk.lt)
theorem dD.move(h:dD W0 B mb pb rv vL vN W ps pile nv)(a:Below W.heap.size W W'):dD W0 B mb pb rv vL vN W' ps pile nv :=
 ⟨(a.block _ h.blk.lt).trans h.blk,aC h.rL fun g c=>a.block g (h.rL.lt g c).2,aC h.rN fun g c=>a.block g (h.rN.lt g c).2,⟨a.1.trans h.b.1,a.2.trans h.b.2,a.3.trans h.b.3,dg h.b.4 a.4,fun k d=>(a.block k (sr (dd d h.lb) h.blk.lt)).trans (h.b.block k d)⟩,h.hB,h.lb⟩
theorem dD.pk(h:dD W0 B mb pb rv vL vN W ps pile nv)(a:aO W0 B' pb v p):aO W B' pb v p:=a.move fun k c=>h.b.block k (by rw[h.hB];exact a.lt c)
theorem dD.rz(h:dD W0 B mb pb rv vL vN W ps pile nv)(a:oQ W0 rv row):oQ W rv row:=a.below (by rw[<-h.hB];exact h.b)
theorem dD.pass(h:dD W0 B mb pb rv vL vN W ps pile nv)(n:Nat):dD W0 B mb pb rv vL vN (W.setCell ⟨mb,2,none⟩ (.int .i64 (n:Int))) n pile nv :=
 ⟨h.blk.set 2 _,aC h.rL fun g e=>heap_set ((h.kL e).ne h.km (by decide)),aC h.rN fun g e=>heap_set ((h.kN e).ne h.km (by decide)),mq h.b h.lb,h.hB,h.lb⟩
theorem dD.JX(h:dD W0 B mb pb rv vL vN W ps pile nv){l:List Nat}(a:W.grownBy W' vL.ownBlock)(c:W'.ownsRow B 3 1 x l.length (l.map bQ)):dD W0 B mb pb rv x vN (W'.setCell ⟨mb,3,none⟩ x) ps l nv where
 blk:=by
  have:aj W' mb _ 131:=(a.block mb h.km.lt fun e=>h.km.ne (h.kL e.symm) (by decide) rfl).trans h.blk;exact this.set 3 x
 rL:=aC c fun g e=>heap_set ((show Kd W' g 3 from eU c e).ne (show Kd W' mb 131 from ⟨_,(a.block mb h.km.lt fun e=>h.km.ne (h.kL e.symm) (by decide) rfl).trans h.blk⟩) (by decide))
 rN:=aC h.rN fun g e=>(heap_set ((h.kN e).ne h.km (by decide))).trans (a.block g (h.kN e).lt fun d=>(h.kN e).ne (h.kL d.symm) (by decide) rfl)
 b:=mq (uK h.b h.size a fun k e=>(h.rL.lt k e).1) h.lb
 hB:=h.hB
 lb:=h.lb
theorem dD.anD(h:dD W0 B mb pb rv vL vN W ps pile nv){l:List (Rn.Nd×Value)}(a:W.grownBy W' vN.ownBlock)(c:W'.ownsRow B 69 5 x l.length (l.flatMap yu)):dD W0 B mb pb rv vL x (W'.setCell ⟨mb,4,none⟩ x) ps pile l where
 blk:=by
  have:aj W' mb _ 131:=(a.block mb h.km.lt fun e=>h.km.ne (h.kN e.symm) (by decide) rfl).trans h.blk;exact this.set 4 x
 rN:=aC c fun g e=>heap_set ((show Kd W' g 69 from eU c e).ne (show Kd W' mb 131 from ⟨_,(a.block mb h.km.lt fun e=>h.km.ne (h.kN e.symm) (by decide) rfl).trans h.blk⟩) (by decide))
 rL:=aC h.rL fun g e=>(heap_set ((h.kL e).ne h.km (by decide))).trans (a.block g (h.kL e).lt fun d=>(h.kL e).ne (h.kN d.symm) (by decide) rfl)
 b:=mq (uK h.b h.size a fun k e=>(h.rN.lt k e).1) h.lb
 hB:=h.hB
 lb:=h.lb
theorem aj7(h:dD W0 B mb pb rv vL vN W ps pile nv){n rest:Nat}(Y:0<n)(X:rest+n=pile.length)(hl:pile.length<=1000000000):Calls prog 88 #[.pointer (some ⟨mb,0,none⟩),.int .i64 (n:Int)] W fun e W'=>∃g cap ig,e=.returned (.slice (some ⟨g,0,none⟩) n cap)/\ig.ownBlock=vL.ownBlock/\W.heap.size<=g/\g<W'.heap.size/\(∀(i x:Nat),(pile.drop rest)[i]?=some x->W'.cell? ⟨g,i,none⟩=some (.int .i64 (x:Int)))/\(∀k,k<W.heap.size->k≠mb->W'.heap[k]?=W.heap[k]?)/\dD W0 B mb pb rv ig vN W' ps (pile.take rest) nv:=by
 obtain⟨L,E,I,D,F⟩:=fd Tryz.info3;obtain⟨x,q⟩:∃x,pile[0]?=some x:=⟨_,cF (by omega)⟩;obtain⟨a,b,N,-,-⟩:=Fz h.rL (p:=0) (u:=bQ x) (by rw[dj,q];rfl);subst N;have K:=Ni h.rL;have S:W.cell? ⟨mb,3,none⟩=some (.slice (some ⟨a,0,none⟩) pile.length b):=h.blk.cell 3;have e1:(pile.length:Int) - (n:Int)=(rest:Int):=by omega
 have r0:(0:Int)<=(rest:Int):=by omega
 have r1:(rest:Int)<=(pile.length:Int):=by omega
 have r2:(rest:Int)<=(b:Int):=by omega
 go_enter func88,ntmps88;go_upto_region 2 with fail
 refine(oX (n:=9)).1 ?_;refine mo 14 (by kernel_rfl) (by kernel_rfl) (by kernel_rfl) ?_
 dsimp only[List.take,List.drop,List.length]
 repeat (gi_big_quiet_step (fail))
 refine wpQuietIn_nil ?_;rintro _⟨o,rfl⟩;have h1:=h.move (W':=W.drewN o) ⟨rfl,rfl,rfl,zL0,fun _ _=>rfl⟩;have C:=h1.rL.cells (g:=a) rfl;have l:∀j,(⟨a,rest,none⟩:Addr).add j=⟨a,rest+j,none⟩:=fun j=>by unfold Addr.add;split <;> simp_all
 have z:∀j,(⟨a,0,none⟩:Addr).add j=⟨a,j,none⟩:=fun j=>by unfold Addr.add;split <;> simp_all
 have d:∀(j:Nat)u,((pile.drop rest).map bQ)[j]?=some u->(W.drewN o).cell? ((⟨a,rest,none⟩:Addr).add j)=some u:=fun j u J=>by
  rw[l,<-z];refine C _ _ ?_;rw[List.map_drop,sv]at J;exact J
 have s:((pile.drop rest).map bQ).length=n*L.size:=by rw[D,jt,dt,oe];omega
 have y:=run_append_grow (P:=prog) (W.drewN o) 22 22 3 L _ Tryz.NC E I ⟨a,0,none⟩ 0 0 [] (by simp) (by simp) ⟨a,rest,none⟩ n (b-rest) ((pile.drop rest).map bQ) s d (by omega) (by omega) (by rw[F,nextslicecap_zero (by omega)];omega);rw[fi]at y;generalize hcp:grownCap (W.drewN o) n 0 3=cap at y;obtain⟨w2,f⟩:∃V,V=(W.drewN o).drew.alloc (.cells (([]:List Value).toArray++((pile.drop rest).map bQ).toArray++Builtin.zeroCells (Value.cells (.int .i64 0)) (cap-n)) 3):=⟨_,rfl⟩;rw[<-f]at y;have r:Below W.heap.size W w2:=by
  rw[f];have:=(cV (W.drewN o).drew.heap.size (W.drewN o).drew).alloc (zL0) (.cells (([]:List Value).toArray++((pile.drop rest).map bQ).toArray++Builtin.zeroCells (Value.cells (.int .i64 0)) (cap-n)) 3);exact⟨this.1,this.2,this.3,this.4,this.5⟩
 have H:aj w2 W.heap.size (([]:List Value).toArray++((pile.drop rest).map bQ).toArray++Builtin.zeroCells (Value.cells (.int .i64 0)) (cap-n)) 3:=by rw[f];exact aj.new (W.drewN o).drew _ _
 have A:∀(i x:Nat),(pile.drop rest)[i]?=some x->w2.cell? ⟨W.heap.size,i,none⟩=some (.int .i64 (x:Int)):=fun i x q=>by
  rw[H.cell,ox (by simp;have:=(cG.1 q).1;simpa using this)];rw[sv]at q;simp[bQ];exact⟨x,q,rfl⟩
 have h2:=h.move r;have h3:dD W0 B mb pb rv (.slice (some ⟨a,0,none⟩) rest b) vN (w2.setCell ⟨mb,3,none⟩ (.slice (some ⟨a,0,none⟩) rest b)) ps (pile.take rest) nv:=by
  have M:w2.ownsRow B 3 1 (.slice (some ⟨a,0,none⟩) rest b) (pile.take rest).length ((pile.take rest).map bQ):=by
   have:=aiD h2.rL (m:=rest) (by omega) (by omega);rw[jt]at this;rw[List.map_take,fN,sg (by omega)];exact this
  exact h2.JX ⟨rfl,rfl,rfl,zL0,fun _ _ _=>rfl⟩ M
 have t:W.heap.size≠mb:=fun e=>by have:=h.blk.lt;omega
 have O:Hid (W.heap.size<=W.heap.size/\W.heap.size<(w2.setCell ⟨mb,3,none⟩ (.slice (some ⟨a,0,none⟩) rest b)).heap.size/\(∀(i x:Nat),(pile.drop rest)[i]?=some x->(w2.setCell ⟨mb,3,none⟩ (.slice (some ⟨a,0,none⟩) rest b)).cell? ⟨W.heap.size,i,none⟩=some (.int .i64 (x:Int)))/\(∀k,k<W.heap.size->k≠mb->(w2.setCell ⟨mb,3,none⟩ (.slice (some ⟨a,0,none⟩) rest b)).heap[k]?=W.heap[k]?)/\dD W0 B mb pb rv (.slice (some ⟨a,0,none⟩) rest b) vN (w2.setCell ⟨mb,3,none⟩ (.slice (some ⟨a,0,none⟩) rest b)) ps (pile.take rest) nv):=⟨zL0,by simpa using H.lt,fun i x q=>(cJ (w:=w2) (heap_set t)).trans (A i x q),fun k R Q=>(heap_set Q).trans (r.block k R),h3⟩;have d3:w2.cell? ⟨mb,3,none⟩=some (.slice (some ⟨a,0,none⟩) pile.length b):=h2.blk.cell 3;have Z:=h2.blk.frozen 3;have U:¬b=0:=by omega
 clear f h h1 h2 h3 r H A t C d l z s S;refine wpAnyIn_ready (rs:=[14]) (by kernel_rfl) (by simp) (AllReadyIn.cons rfl (fun G c=>?_) AllReadyIn.nil);refine Xm rfl (.tmp 21) (.tmp 27) 22 22 rfl _ _ rfl (by simp[Act.eval];omega) _ _ y ?_;refine c _ _ ?_;clear c G;refine wpAnyIn_ready (rs:=[15]) (by kernel_rfl) (by simp) (AllReadyIn.cons rfl (fun G c=>?_) AllReadyIn.nil)
 go_simp
 refine c _ _ (wpAnyIn_done (by kernel_rfl) ?_ _);clear c G;clear y;go_wp2_with fail;go_ret;exact⟨_,_,.slice (some ⟨a,0,none⟩) rest b,rfl,rfl,O.out⟩
end
namespace Rn
def leaf(row:List Int)(ps:Nat):Nd:=⟨row.getD ps 0,-1,0,ps,1⟩
def from'(p:Pk.T)(ps:Nat)(pile:List Nat)(ns:List Nd)(k:Int):Nat:=if 0<(Pk.gV p k).2 then (ns.getD (pile.getD (pile.length - (Pk.gV p k).2) 0) ⟨0,0,0,0,0⟩).fr else ps
def inner(p:Pk.T)(ps:Nat)(pile:List Nat)(ns:List Nd)(k:Int):Nd:=⟨((Pk.gV p k).1:Int),k,(Pk.gV p k).2,from' p ps pile ns k,(ps:Int) - (from' p ps pile ns k:Int)⟩
end Rn
theorem Sw:∀(l:List (Rn.Nd×Value))(i:Nat)(x:Rn.Nd×Value),l[i]?=some x->(l.flatMap yu)[i*5+3]?=some (.int .i64 (x.1.fr:Int))
 | [],i,x,h=>by simp at h
 |p::l,0,x,h=>by
  simp only[ir,lA]at h;subst h;rfl
 |p::l,i+1,x,h=>by
  have:=Sw l i x (by simpa using h);rw[du,show yu p=[.int .i64 p.1.sym,.int .i64 p.1.prod,p.2,.int .i64 (p.1.fr:Int),.int .i64 p.1.wd] from rfl,show (i+1)*5+3=i*5+3+5 by omega];exact this
section
variable {W0 W W':World} {B B' mb pb ps:Nat} {rv vL vN x:Value} {pile:List Nat} {nv:List (Rn.Nd×Value)} {v:fV} {p:Pk.T} {row:List Int}
theorem dD.aU(h:dD W0 B mb pb rv vL vN W ps pile nv){k i:Nat}{u:Value}(a:B<=k/\k≠mb/\vL.ownBlock≠some k/\vN.ownBlock≠some k):dD W0 B mb pb rv vL vN (W.setCell ⟨k,i,none⟩ u) ps pile nv :=
 ⟨h.blk.other a.2.1 _,aC h.rL fun _ e=>heap_set fun c=>a.2.2.1 (c▸e),aC h.rN fun _ e=>heap_set fun c=>a.2.2.2 (c▸e),mq h.b a.1,h.hB,h.lb⟩
theorem dD.free(h:dD W0 B mb pb rv vL vN W ps pile nv):B<=W.heap.size/\W.heap.size≠mb/\vL.ownBlock≠some W.heap.size/\vN.ownBlock≠some W.heap.size :=
 ⟨h.size,fun e=>by have:=h.blk.lt;omega,fun e=>p7 _ (h.rL.lt _ e).2,fun e=>p7 _ (h.rN.lt _ e).2⟩
def V7(W0:World)(B mb pb:Nat)(rv vN:Value)(nv:List (Rn.Nd×Value))(n:Rn.Nd)(ps:Nat)(pile:List Nat)(e:Ending)(W':World):Prop:=∃ka kc ig,e=.returned (.agg #[.int .i64 n.sym,.int .i64 n.prod,.slice ka n.kl kc,.int .i64 (n.fr:Int),.int .i64 n.wd])/\dD W0 B mb pb rv ig vN W' ps pile nv
theorem aj8(h:dD W0 B mb pb rv vL vN W ps pile nv)(C:oQ W0 rv row)(k:ps<row.length)(K:row.length<=1048576):Calls prog 56 #[.pointer (some ⟨mb,0,none⟩),.int .i64 (-1)] W (V7 W0 B mb pb rv vN nv (Rn.leaf row ps) (ps+1) pile):=by
 obtain⟨i,j⟩:∃r,W.heap.size=r:=⟨_,rfl⟩;obtain⟨w1,f⟩:∃V,V=W.alloc (.cells #[.int .i64 0,.int .i64 0,.slice none 0 0,.int .i64 0,.int .i64 0] 69):=⟨_,rfl⟩;have l:Below W.heap.size W w1:=by rw[f];exact(cV _ _).alloc (zL0) _
 have kR:aj w1 i #[.int .i64 0,.int .i64 0,.slice none 0 0,.int .i64 0,.int .i64 0] 69:=by rw[f,<-j];exact aj.new ..
 have h1:=h.move l;have q:mb≠i:=fun e=>by have:=h.blk.lt;omega
 have b:=h.free;rw[j]at b;have E:w1.cell? ⟨mb,2,none⟩=some (.int .i64 (ps:Int)):=h1.blk.cell 2;have H:=h1.blk.frozen 2;have h2:=h1.pass (ps+1);rw[show ((ps+1:Nat):Int)=(ps:Int)+1 from rfl]at h2;have c:aj (w1.setCell ⟨mb,2,none⟩ (.int .i64 ((ps:Int)+1))) i #[.int .i64 0,.int .i64 0,.slice none 0 0,.int .i64 0,.int .i64 0] 69:=kR.other q _;obtain⟨a,I,D,-,d⟩:=h2.rz C;obtain⟨g,o,G,U,z⟩:=d ps k;subst G;have u:row.getD ps 0=row[ps]:=by rw[ed,cF k];rfl
 unfold Rn.leaf;rw[u];generalize row[ps]=y at z;have F:(w1.setCell ⟨mb,2,none⟩ (.int .i64 ((ps:Int)+1))).cell? ⟨mb,1,none⟩=some (.slice (some ⟨g,o,none⟩) row.length I):=by rw[<-D];exact h2.blk.cell 1
 have A:(w1.setCell ⟨mb,2,none⟩ (.int .i64 ((ps:Int)+1))).cell? ⟨mb,2,none⟩=some (.int .i64 ((ps:Int)+1)):=h2.blk.cell 2;go_enter func56,ntmps56;go_upto_region 1 with fail
 rw[<-f];clear f;go_upto_region 3 with fail
 generalize w1.setCell ⟨mb,2,none⟩ (.int .i64 ((ps:Int)+1))=w2 at h2 c z F A|-;clear h h1 l kR d u E H;have Q:(0:Int)<=(ps:Int):=by omega
 have P:(ps:Int)<(row.length:Int):=by omega
 have s0:w2.cell? ⟨i,0,none⟩=some (.int .i64 0):=c.cell 0;have X:w2.cell? ⟨i,1,none⟩=some (.int .i64 0):=c.cell 1;have R:w2.cell? ⟨i,2,none⟩=some (.slice none 0 0):=c.cell 2;have O:w2.cell? ⟨i,3,none⟩=some (.int .i64 0):=c.cell 3;have L:w2.cell? ⟨i,4,none⟩=some (.int .i64 0):=c.cell 4;have N:=c.frozen 0;have S:=c.frozen 1;have Y:=c.frozen 2;have Z:=c.frozen 3;have M:=c.frozen 4;refine(oX (n:=9)).1 ?_;refine mo 17 (by kernel_rfl) (by kernel_rfl) (by kernel_rfl) ?_
 dsimp only[List.take,List.drop,List.length]
 repeat (gi_big_quiet_step (fail))
 refine wpQuietIn_nil ?_;rintro _⟨s,rfl⟩;refine wpAnyIn_ready (rs:=[17]) (by kernel_rfl) (by simp) (AllReadyIn.cons rfl (fun J m=>?_) AllReadyIn.nil)
 go_simp
 refine m _ _ (wpAnyIn_done (by kernel_rfl) ?_ _);clear m J;go_wp2_with fail;refine pz rfl rfl (cs:=#[.int .i64 y,.int .i64 (-1),.slice none 0 0,.int .i64 (ps:Int),.int .i64 1]) (t:=69) ?_ (by kernel_rfl) (by kernel_rfl) ⟨none,0,vL,rfl,?_⟩
 ·exact((((((show aj (w2.drewN s) i _ 69 from c).set 0 _).set 1 _).set 2 _).set 3 _).set 4 _)
 ·exact((((((h2.move (W':=w2.drewN s) ⟨rfl,rfl,rfl,zL0,fun _ _=>rfl⟩).aU b).aU b).aU b).aU b).aU b)
theorem aj9(h:dD W0 B mb pb rv vL vN W ps pile nv)(hp:aO W0 B' pb v p)(k:Nat)(hk:k<200)(hsz:(Pk.gV p (k:Int)).2<=pile.length)(ac:∀x∈pile,x<nv.length)(al:ps<=1048576)(ah:∀x∈nv,x.1.fr<=1048576)(hl:pile.length<=1000000000):Calls prog 56 #[.pointer (some ⟨mb,0,none⟩),.int .i64 (k:Int)] W (V7 W0 B mb pb rv vN nv (Rn.inner p ps pile (nv.map Prod.fst) (k:Int)) ps (pile.take (pile.length - (Pk.gV p (k:Int)).2))):=by
 obtain⟨d,R⟩:∃r,W.heap.size=r:=⟨_,rfl⟩;obtain⟨w1,H⟩:∃V,V=W.alloc (.cells #[.int .i64 0,.int .i64 0,.slice none 0 0,.int .i64 0,.int .i64 0] 69):=⟨_,rfl⟩;have ab:Below W.heap.size W w1:=by rw[H];exact(cV _ _).alloc (zL0) _
 have kR:aj w1 d #[.int .i64 0,.int .i64 0,.slice none 0 0,.int .i64 0,.int .i64 0] 69:=by rw[H,<-R];exact aj.new ..
 have h1:=h.move ab;have c:=h.free;rw[R]at c;have c0:w1.cell? ⟨mb,0,none⟩=some (.pointer (some ⟨pb,0,none⟩)):=h1.blk.cell 0;have AR:=RY (h1.pk hp) (k:Int);unfold Rn.inner Rn.from';obtain⟨y,hy⟩:∃y,Pk.gV p (k:Int)=y:=⟨_,rfl⟩;rw[hy]at AR hsz|-;have b1:((k:Int) == -1)=false:=zB0 (by omega);have H2:Hid (∀w2,Below w1.heap.size w1 w2->dD W0 B mb pb rv vL vN w2 ps pile nv/\aj w2 d #[.int .i64 0,.int .i64 0,.slice none 0 0,.int .i64 0,.int .i64 0] 69):=fun w2 hb=>⟨h1.move hb,(hb.block _ kR.lt).trans kR⟩
 obtain⟨fr,M⟩:∃f:Nat,(if 0<y.2 then ((nv.map Prod.fst).getD (pile.getD (pile.length-y.2) 0) ⟨0,0,0,0,0⟩).fr else ps)=f:=⟨_,rfl⟩;rw[M];have HF:Hid ((if 0<y.2 then ((nv.map Prod.fst).getD (pile.getD (pile.length-y.2) 0) ⟨0,0,0,0,0⟩).fr else ps)=fr):=M;clear h h1 ab kR hy M;go_enter func56,ntmps56;go_upto_region 1 with fail
 rw[<-H];clear H;go_upto_region 5 with (go_at_call 17;refine AR.mono ?_;rintro e w2⟨rfl,X⟩)
 obtain⟨h2,kR⟩:=H2.out w2 X;clear H2 X AR c0;have c2:w2.cell? ⟨mb,2,none⟩=some (.int .i64 (ps:Int)):=h2.blk.cell 2;obtain⟨a,S⟩:∃b,w2.heap.size=b:=⟨_,rfl⟩;obtain⟨o,G⟩:∃V,V=w2.alloc (.cells #[.int .i64 (y.1:Int),.int .i64 (k:Int),.slice none 0 0,.int .i64 (ps:Int),.int .i64 0] 69):=⟨_,rfl⟩;have L:Below w2.heap.size w2 o:=by rw[G];exact(cV _ _).alloc (zL0) _
 have kB:aj o a #[.int .i64 (y.1:Int),.int .i64 (k:Int),.slice none 0 0,.int .i64 (ps:Int),.int .i64 0] 69:=by rw[G,<-S];exact aj.new ..
 have h3:=h2.move L;have m:=h2.free;rw[S]at m;have K:aj o d #[.int .i64 0,.int .i64 0,.slice none 0 0,.int .i64 0,.int .i64 0] 69:=(L.block _ kR.lt).trans kR;have F:a≠d:=fun e=>by have:=kR.lt;omega
 clear h2 kR L;go_upto_region 6 with fail
 rw[<-G];clear G
 by_cases hy0:y.2=0
 ·have b2:¬(0:Int)<(y.2:Int):=by omega
  have b3:decide ((0:Int)<(y.2:Int))=false:=eV b2;have N:=HF.out;rw[dk (by omega)]at N;rw[show (.int .i64 (ps:Int):Value)=.int .i64 (fr:Int) by rw[N]]at kB;have ak:fr<=1048576:=by omega
  clear N HF;have d2:o.cell? ⟨mb,2,none⟩=some (.int .i64 (ps:Int)):=h3.blk.cell 2;have n3:o.cell? ⟨a,3,none⟩=some (.int .i64 (fr:Int)):=kB.cell 3;have n4:o.cell? ⟨a,4,none⟩=some (.int .i64 0):=kB.cell 4;have e4:=kB.frozen 4;have ew:IntKind.i64.wrap ((ps:Int) - (fr:Int))=(ps:Int) - (fr:Int):=by rw[gw];omega
  have H9:Hid (∀j,dD W0 B mb pb rv vL vN ((o.drewN j).setCell ⟨a,4,none⟩ (.int .i64 ((ps:Int) - (fr:Int)))) ps pile nv/\aj ((o.drewN j).setCell ⟨a,4,none⟩ (.int .i64 ((ps:Int) - (fr:Int)))) a #[.int .i64 (y.1:Int),.int .i64 (k:Int),.slice none 0 0,.int .i64 (fr:Int),.int .i64 ((ps:Int) - (fr:Int))] 69/\aj ((o.drewN j).setCell ⟨a,4,none⟩ (.int .i64 ((ps:Int) - (fr:Int)))) d #[.int .i64 0,.int .i64 0,.slice none 0 0,.int .i64 0,.int .i64 0] 69):=fun j=>⟨(h3.move (W':=o.drewN j) ⟨rfl,rfl,rfl,zL0,fun _ _=>rfl⟩).aU m,(show aj (o.drewN j) a _ 69 from kB).set 4 _,(show aj (o.drewN j) d _ 69 from K).other F _⟩
  clear h3 kB K;go_upto_region 9 with fail
  refine(oX (n:=9)).1 ?_;refine mo 8 (by kernel_rfl) (by kernel_rfl) (by kernel_rfl) ?_
  dsimp only[List.take,List.drop,List.length]
  repeat (gi_big_quiet_step (fail))
  refine wpQuietIn_nil ?_;rintro _⟨j,rfl⟩;refine wpAnyIn_ready (rs:=[8]) (by kernel_rfl) (by simp) (AllReadyIn.cons rfl (fun K2 z=>?_) AllReadyIn.nil)
  go_simp
  refine z _ _ (wpAnyIn_done (by kernel_rfl) ?_ _);clear z K2;obtain⟨h9,D,l⟩:=H9.out j;clear H9 d2 n3 n4 e4;generalize ((o.drewN j).setCell ⟨a,4,none⟩ (.int .i64 ((ps:Int) - (fr:Int))))=w9 at h9 D l|-;have m0:w9.cell? ⟨a,0,none⟩=some (.int .i64 (y.1:Int)):=D.cell 0;have m1:w9.cell? ⟨a,1,none⟩=some (.int .i64 (k:Int)):=D.cell 1;have m2:w9.cell? ⟨a,2,none⟩=some (.slice none 0 0):=D.cell 2;have m3:w9.cell? ⟨a,3,none⟩=some (.int .i64 (fr:Int)):=D.cell 3;have m4:w9.cell? ⟨a,4,none⟩=some (.int .i64 ((ps:Int) - (fr:Int))):=D.cell 4;have s0:w9.cell? ⟨d,0,none⟩=some (.int .i64 0):=l.cell 0;have s1:w9.cell? ⟨d,1,none⟩=some (.int .i64 0):=l.cell 1;have s2:w9.cell? ⟨d,2,none⟩=some (.slice none 0 0):=l.cell 2;have s3:w9.cell? ⟨d,3,none⟩=some (.int .i64 0):=l.cell 3;have s4:w9.cell? ⟨d,4,none⟩=some (.int .i64 0):=l.cell 4;have g0:=l.frozen 0;have g1:=l.frozen 1;have g2:=l.frozen 2;have g3:=l.frozen 3;have g4:=l.frozen 4;go_wp2_with fail;refine pz rfl rfl (cs:=#[.int .i64 (y.1:Int),.int .i64 (k:Int),.slice none 0 0,.int .i64 (fr:Int),.int .i64 ((ps:Int) - (fr:Int))]) (t:=69) (((((l.set 0 _).set 1 _).set 2 _).set 3 _).set 4 _) (by kernel_rfl) (by kernel_rfl) ⟨none,0,vL,rfl,?_⟩;have Y:=((((h9.aU (i:=0) (u:=.int .i64 (y.1:Int)) c).aU (i:=1) (u:=.int .i64 (k:Int)) c).aU (i:=2) (u:=.slice none 0 0) c).aU (i:=3) (u:=.int .i64 (fr:Int)) c).aU (i:=4) (u:=.int .i64 ((ps:Int) - (fr:Int))) c
  first
   | exact Y
   | (rw[Nat.sub_zero,ft];exact Y)
 ·have b2:(0:Int)<(y.2:Int):=by omega
  have b3:decide ((0:Int)<(y.2:Int))=true:=fh b2;obtain⟨O,hx0⟩:∃x,pile[pile.length-y.2]?=some x:=⟨_,cF (by omega)⟩;obtain⟨nd,hnd⟩:∃n,nv[O]?=some n:=⟨_,cF (ac O (cQ hx0))⟩;have N:nd.1.fr=fr:=by
   have:=HF.out;rw[de (by omega)]at this;simpa [hx0,hnd]using this
  have ak:fr<=1048576:=by rw[<-N];exact ah nd (cQ hnd)
  have aa:=aj7 h3 (n:=y.2) (rest:=pile.length-y.2) (by omega) (by omega) hl;have H4:Hid (aj o a #[.int .i64 (y.1:Int),.int .i64 (k:Int),.slice none 0 0,.int .i64 (ps:Int),.int .i64 0] 69/\aj o d #[.int .i64 0,.int .i64 0,.slice none 0 0,.int .i64 0,.int .i64 0] 69):=⟨kB,K⟩;have vX:a≠mb:=m.2.1;have af:d≠mb:=c.2.1;clear h3 kB K HF c2;have l3:a<o.heap.size/\d<o.heap.size:=⟨H4.out.1.lt,H4.out.2.lt⟩;go_upto_region 7 with fail
  have HX:Hid (∀q C E A,E.ownBlock=vL.ownBlock->o.heap.size<=q->(∀(i x:Nat),(pile.drop (pile.length-y.2))[i]?=some x->A.cell? ⟨q,i,none⟩=some (.int .i64 (x:Int)))->(∀k,k<o.heap.size->k≠mb->A.heap[k]?=o.heap[k]?)->dD W0 B mb pb rv E vN A ps (pile.take (pile.length-y.2)) nv->A.cell? ⟨a,2,none⟩=some (.slice none 0 0)/\A.frozen? ⟨a,2,none⟩=false/\dD W0 B mb pb rv E vN (A.setCell ⟨a,2,none⟩ (.slice (some ⟨q,0,none⟩) y.2 C)) ps (pile.take (pile.length-y.2)) nv/\aj (A.setCell ⟨a,2,none⟩ (.slice (some ⟨q,0,none⟩) y.2 C)) a #[.int .i64 (y.1:Int),.int .i64 (k:Int),.slice (some ⟨q,0,none⟩) y.2 C,.int .i64 (ps:Int),.int .i64 0] 69/\aj (A.setCell ⟨a,2,none⟩ (.slice (some ⟨q,0,none⟩) y.2 C)) d #[.int .i64 0,.int .i64 0,.slice none 0 0,.int .i64 0,.int .i64 0] 69/\(A.setCell ⟨a,2,none⟩ (.slice (some ⟨q,0,none⟩) y.2 C)).cell? ⟨q,0,none⟩=some (.int .i64 (O:Int))):=fun q C E A ho hg I s h4=>by
   obtain⟨kB,K⟩:=H4.out;have oV:aj A a _ 69:=(s a kB.lt vX).trans kB;have pW:aj A d _ 69:=(s d K.lt af).trans K;exact⟨oV.cell 2,oV.frozen 2,h4.aU ⟨m.1,m.2.1,by rw[ho];exact m.2.2.1,m.2.2.2⟩,oV.set 2 _,pW.other F _,(cJ (w:=A) (heap_set fun e=>by have e2:q=a:=e;have:=kB.lt;omega)).trans (I 0 O (by rw[sv];exact hx0))⟩
  go_upto_region 8 with (go_at_call 88;refine aa.mono ?_;rintro e A⟨q,C,E,rfl,rE,ad,am,I,s,h4⟩;obtain⟨p2,pf,U,Q,ug,ck⟩:=HX.out q C E A rE ad I s h4;clear h4 I s HX)
  have J:B<=a/\a≠mb/\E.ownBlock≠some a/\vN.ownBlock≠some a:=⟨m.1,m.2.1,by rw[rE];exact m.2.2.1,m.2.2.2⟩;have g:B<=d/\d≠mb/\E.ownBlock≠some d/\vN.ownBlock≠some d:=⟨c.1,c.2.1,by rw[rE];exact c.2.2.1,c.2.2.2⟩;clear p2 pf rE aa;generalize A.setCell ⟨a,2,none⟩ (.slice (some ⟨q,0,none⟩) y.2 C)=w5 at U Q ug ck|-;obtain⟨gN,cN,GR,Z⟩:=mZ U.rN (Sw _ _ _ hnd);have cf:=Z _ _ (Sw _ _ _ hnd);rw[N]at cf;have c4:w5.cell? ⟨mb,4,none⟩=some (.slice (some ⟨gN,0,none⟩) nv.length cN):=by rw[<-GR];exact U.blk.cell 4
  have ag:w5.cell? ⟨a,2,none⟩=some (.slice (some ⟨q,0,none⟩) y.2 C):=Q.cell 2;have ai:w5.cell? ⟨a,3,none⟩=some (.int .i64 (ps:Int)):=Q.cell 3;have ae:=Q.frozen 3;have i0:(0:Int)<=(O:Int):=by omega
  have i1:(O:Int)<(nv.length:Int):=by have:=(cG.1 hnd).1;omega
  have H6:Hid (∀j,dD W0 B mb pb rv E vN ((w5.drewN j).setCell ⟨a,3,none⟩ (.int .i64 (fr:Int))) ps (pile.take (pile.length-y.2)) nv/\aj ((w5.drewN j).setCell ⟨a,3,none⟩ (.int .i64 (fr:Int))) a #[.int .i64 (y.1:Int),.int .i64 (k:Int),.slice (some ⟨q,0,none⟩) y.2 C,.int .i64 (fr:Int),.int .i64 0] 69/\aj ((w5.drewN j).setCell ⟨a,3,none⟩ (.int .i64 (fr:Int))) d #[.int .i64 0,.int .i64 0,.slice none 0 0,.int .i64 0,.int .i64 0] 69):=fun j=>⟨(U.move (W':=w5.drewN j) ⟨rfl,rfl,rfl,zL0,fun _ _=>rfl⟩).aU J,(show aj (w5.drewN j) a _ 69 from Q).set 3 _,(show aj (w5.drewN j) d _ 69 from ug).other F _⟩
  clear U Q ug Z GR;refine(oX (n:=9)).1 ?_;refine mo 12 (by kernel_rfl) (by kernel_rfl) (by kernel_rfl) ?_
  dsimp only[List.take,List.drop,List.length]
  repeat (gi_big_quiet_step (fail))
  refine wpQuietIn_nil ?_;rintro _⟨rF,rfl⟩;refine wpAnyIn_ready (rs:=[12]) (by kernel_rfl) (by simp) (AllReadyIn.cons rfl (fun K2 z=>?_) AllReadyIn.nil)
  go_simp
  refine z _ _ (wpAnyIn_done (by kernel_rfl) ?_ _);clear z K2;obtain⟨h6,P,V8⟩:=H6.out rF;clear H6 cf c4 ag ai ae ck;generalize (w5.drewN rF).setCell ⟨a,3,none⟩ (.int .i64 (fr:Int))=w6 at h6 P V8|-;have d2:w6.cell? ⟨mb,2,none⟩=some (.int .i64 (ps:Int)):=h6.blk.cell 2;have n3:w6.cell? ⟨a,3,none⟩=some (.int .i64 (fr:Int)):=P.cell 3;have n4:w6.cell? ⟨a,4,none⟩=some (.int .i64 0):=P.cell 4;have e4:=P.frozen 4;have ew:IntKind.i64.wrap ((ps:Int) - (fr:Int))=(ps:Int) - (fr:Int):=by rw[gw];omega
  have H9:Hid (∀j,dD W0 B mb pb rv E vN ((w6.drewN j).setCell ⟨a,4,none⟩ (.int .i64 ((ps:Int) - (fr:Int)))) ps (pile.take (pile.length-y.2)) nv/\aj ((w6.drewN j).setCell ⟨a,4,none⟩ (.int .i64 ((ps:Int) - (fr:Int)))) a #[.int .i64 (y.1:Int),.int .i64 (k:Int),.slice (some ⟨q,0,none⟩) y.2 C,.int .i64 (fr:Int),.int .i64 ((ps:Int) - (fr:Int))] 69/\aj ((w6.drewN j).setCell ⟨a,4,none⟩ (.int .i64 ((ps:Int) - (fr:Int)))) d #[.int .i64 0,.int .i64 0,.slice none 0 0,.int .i64 0,.int .i64 0] 69):=fun j=>⟨(h6.move (W':=w6.drewN j) ⟨rfl,rfl,rfl,zL0,fun _ _=>rfl⟩).aU J,(show aj (w6.drewN j) a _ 69 from P).set 4 _,(show aj (w6.drewN j) d _ 69 from V8).other F _⟩
  clear h6 P V8;go_upto_region 9 with fail
  refine(oX (n:=9)).1 ?_;refine mo 8 (by kernel_rfl) (by kernel_rfl) (by kernel_rfl) ?_
  dsimp only[List.take,List.drop,List.length]
  repeat (gi_big_quiet_step (fail))
  refine wpQuietIn_nil ?_;rintro _⟨j,rfl⟩;refine wpAnyIn_ready (rs:=[8]) (by kernel_rfl) (by simp) (AllReadyIn.cons rfl (fun K2 z=>?_) AllReadyIn.nil)
  go_simp
  refine z _ _ (wpAnyIn_done (by kernel_rfl) ?_ _);clear z K2;obtain⟨h9,D,l⟩:=H9.out j;clear H9 d2 n3 n4 e4;generalize ((w6.drewN j).setCell ⟨a,4,none⟩ (.int .i64 ((ps:Int) - (fr:Int))))=w9 at h9 D l|-;have m0:w9.cell? ⟨a,0,none⟩=some (.int .i64 (y.1:Int)):=D.cell 0;have m1:w9.cell? ⟨a,1,none⟩=some (.int .i64 (k:Int)):=D.cell 1;have m2:w9.cell? ⟨a,2,none⟩=some (.slice (some ⟨q,0,none⟩) y.2 C):=D.cell 2;have m3:w9.cell? ⟨a,3,none⟩=some (.int .i64 (fr:Int)):=D.cell 3;have m4:w9.cell? ⟨a,4,none⟩=some (.int .i64 ((ps:Int) - (fr:Int))):=D.cell 4;have s0:w9.cell? ⟨d,0,none⟩=some (.int .i64 0):=l.cell 0;have s1:w9.cell? ⟨d,1,none⟩=some (.int .i64 0):=l.cell 1;have s2:w9.cell? ⟨d,2,none⟩=some (.slice none 0 0):=l.cell 2;have s3:w9.cell? ⟨d,3,none⟩=some (.int .i64 0):=l.cell 3;have s4:w9.cell? ⟨d,4,none⟩=some (.int .i64 0):=l.cell 4;have g0:=l.frozen 0;have g1:=l.frozen 1;have g2:=l.frozen 2;have g3:=l.frozen 3;have g4:=l.frozen 4;go_wp2_with fail;refine pz rfl rfl (cs:=#[.int .i64 (y.1:Int),.int .i64 (k:Int),.slice (some ⟨q,0,none⟩) y.2 C,.int .i64 (fr:Int),.int .i64 ((ps:Int) - (fr:Int))]) (t:=69) (((((l.set 0 _).set 1 _).set 2 _).set 3 _).set 4 _) (by kernel_rfl) (by kernel_rfl) ⟨some ⟨q,0,none⟩,C,E,rfl,?_⟩;exact((((h9.aU g).aU g).aU g).aU g).aU g
end
namespace Rn
structure Mk where
 ps:Nat
 pile:List Nat
 ns:List Nd
def mk1(p:Pk.T)(row:List Int)(m:Mk)(k:Int):Mk:=if k=-1 then ⟨m.ps+1,m.pile++[m.ns.length],m.ns++[leaf row m.ps]⟩ else ⟨m.ps,m.pile.take (m.pile.length - (Pk.gV p k).2)++[m.ns.length],m.ns++[inner p m.ps m.pile m.ns k]⟩
def nodes(p:Pk.T)(row:List Int)(l:List Int):List Nd:=(l.foldl (mk1 p row) ⟨0,[],[]⟩).ns
def ref(p:Pk.T)(n:Nat)(o:Option (Nat×Nat))(l:List Int):Option (Nat×Nat):=l.foldl (fun o k=>o.bind (yt p n k)) o
theorem RZ(p:Pk.T)(n:Nat):∀l,ref p n none l=none
 | []=>rfl
 |_::l=>RZ p n l
structure MI(p:Pk.T)(row:List Int)(m:Mk)(l:List Int):Prop where
 re:ref p row.length (some (m.ps,m.pile.length)) l≠none
 pi:∀x∈m.pile,x<m.ns.length
 ps:m.ps<=row.length
 fr:∀x∈m.ns,x.fr<=row.length
 pl:m.pile.length<=m.ns.length
theorem MI.leaf{p:Pk.T}{row:List Int}{m:Mk}{l:List Int}(h:MI p row m (-1::l)):m.ps<row.length/\MI p row (mk1 p row m (-1)) l:=by
 have b:=h.re;have e:ref p row.length (some (m.ps,m.pile.length)) (-1::l)=ref p row.length (yt p row.length (-1) (m.ps,m.pile.length)) l:=rfl;rw[e]at b;unfold yt at b;rw[de rfl]at b
 by_cases hl:m.ps<row.length
 ·rw[de hl]at b
  refine⟨hl,?_⟩;unfold mk1;rw[de rfl];refine⟨by simpa using b,fun x a=>?_,hl,fun x a=>?_,by have:=h.pl;simp;omega⟩
  ·rcases cY.1 a with a | a
   ·have:=h.pi x a;simp;omega
   ·rw[cM]at a;simp;omega
  ·rcases cY.1 a with a | a
   ·exact h.fr x a
   ·rw[cM]at a;rw[a];exact h.ps
 ·rw[dk hl]at b
  exact absurd (RZ p row.length l) b
theorem MI.inner{p:Pk.T}{row:List Int}{m:Mk}{l:List Int}{k:Int}(h:MI p row m (k::l))(c:k≠-1):0<=k/\(Pk.gV p k).2<=m.pile.length/\MI p row (mk1 p row m k) l:=by
 have b:=h.re;have e:ref p row.length (some (m.ps,m.pile.length)) (k::l)=ref p row.length (yt p row.length k (m.ps,m.pile.length)) l:=rfl;rw[e]at b;unfold yt at b;rw[dk c]at b
 by_cases hl:0<=k/\(Pk.gV p k).2<=m.pile.length
 ·rw[de hl]at b
  refine⟨hl.1,hl.2,?_⟩;unfold mk1;rw[dk c];refine⟨?_,fun x a=>?_,h.ps,fun x a=>?_,by have:=h.pl;simp;omega⟩
  ·rw[show (m.pile.take (m.pile.length - (Pk.gV p k).2)++[m.ns.length]).length=m.pile.length - (Pk.gV p k).2+1 by simp]
   exact b
  ·rcases cY.1 a with a | a
   ·have:=h.pi x (nz a);simp;omega
   ·rw[cM]at a;simp;omega
  ·rcases cY.1 a with a | a
   ·exact h.fr x a
   ·rw[cM]at a
    rw[a];unfold Rn.inner from';show (if _ then _ else _)<=_
    split
    ·rw[ed]
     cases e2:m.ns[m.pile.getD (m.pile.length - (Pk.gV p k).2) 0]? with
     |none=>exact eR _
     |some x=>exact h.fr x (cQ e2)
    ·exact h.ps
 ·rw[dk hl]at b
  exact absurd (RZ p row.length l) b
end Rn
theorem Tryz.acG:(prog.info? 69).map (fun i=>(i.zero,i.size,i.bytes))=some (some (.agg #[.int .i64 0,.int .i64 0,.slice none 0 0,.int .i64 0,.int .i64 0]),5,56):=by kernel_rfl
theorem Tryz.adg:prog.underlying 33=some (.slice 69):=by kernel_rfl
theorem ahf{n:Nat}(g:n<=300000000)(w:World):∃cs:Array Value,cs.size=n*5/\(Instr.makeSlice 33 (.int .i64 0) (.int .i64 (n:Int))).run prog w=.ok (.slice (some ⟨w.heap.size,0,none⟩) 0 n) (w.alloc (.cells cs 69)):=by
 obtain⟨d,f,a,c,b⟩:=fd Tryz.acG;have h:=pj (P:=prog) w 33 69 d _ Tryz.adg f a .i64 .i64 0 (n:Int) (by omega) (by omega) (by rw[b];omega) (by omega);rw[gz,c]at h;exact⟨_,by simp[madeCells],h⟩
section
variable {W:World} {B0 B' pb:Nat} {rv vS:Value} {v:fV} {p:Pk.T} {row l:List Int}
def V9(W:World)(p:Pk.T)(row l:List Int)(e:Ending)(W':World):Prop:=∃(vN:Value)(nv:List (Rn.Nd×Value)),e=.returned vN/\W'.ownsRow W.heap.size 69 5 vN nv.length (nv.flatMap yu)/\nv.map Prod.fst=Rn.nodes p row l/\(∀x∈nv,∃a c,x.2=.slice a x.1.kl c)/\Below W.heap.size W W'
theorem agi(hS:W.ownsRow B0 61 1 vS l.length (l.map Gc))(hp:aO W B' pb v p)(hr:oQ W rv row)(Q:row.length<=1048576)(hl:l.length<=300000000)(hk:∀k∈l,-1<=k/\k<200)(ao:Rn.ref p row.length (some (0,0)) l≠none):Calls prog 25 #[vS,.pointer (some ⟨pb,0,none⟩),rv] W (V9 W p row l):=by
 obtain⟨sa,sc,pq,-⟩:=aB hS;subst pq;obtain⟨ra,rc,yh,-⟩:=id hr;obtain⟨cs,ad,ak⟩:=ahf hl W;obtain⟨B,hB⟩:∃b,W.heap.size=b:=⟨_,rfl⟩;obtain⟨w2,y⟩:∃V,V=(W.alloc (.cells cs 69)).alloc (.cells #[.pointer (some ⟨pb,0,none⟩),rv,.int .i64 0,.slice none 0 0,.slice (some ⟨B,0,none⟩) 0 l.length] 131):=⟨_,rfl⟩;have ab:Below B W w2:=by rw[y,<-hB];exact((cV _ _).alloc (zL0) _).alloc (by simp) _
 have M0:dD W B (B+1) pb rv (.slice none 0 0) (.slice (some ⟨B,0,none⟩) 0 l.length) w2 0 [] []:=by
  refine⟨?_,eE ..,⟨rfl,.inr ⟨B,l.length,cs,rfl,zL0,?_,eR _,by unfold maxLen;omega,ad,rfl⟩⟩,ab,hB.symm,oR _⟩
  ·rw[y,<-hB]
   have:=aj.new (W.alloc (.cells cs 69)) #[.pointer (some ⟨pb,0,none⟩),rv,.int .i64 0,.slice none 0 0,.slice (some ⟨W.heap.size,0,none⟩) 0 l.length] 131
   rwa [fb]at this
  ·rw[y,<-hB]
   exact(aj.new W cs 69).alloc _
 have H0:Hid (∃m vL O d,dD W B (B+1) pb rv vL O w2 m.ps m.pile d/\d.map Prod.fst=m.ns/\(∀x∈d,∃a c,x.2=.slice a x.1.kl c)/\Rn.MI p row m (l.drop 0)/\Rn.nodes p row l=((l.drop 0).foldl (Rn.mk1 p row) m).ns/\d.length=0):=⟨⟨0,[],[]⟩,_,_,[],M0,rfl,by simp,⟨ao,by simp,eR _,by simp,zL0⟩,rfl,rfl⟩;have HS:Hid (∀wr,Below B W wr->∀j k,l[j]?=some k->∃g,sa=some ⟨g,0,none⟩/\wr.cell? ⟨g,j,none⟩=some (.int .i16 k)):=fun wr hb j k hj=>by
  obtain⟨g,c,e,hc⟩:=mZ hS (j:=j) (u:=Gc k) (by rw[dj,hj];rfl);cases e;refine⟨g,rfl,(cJ (w:=W) (hb.block g (by rw[<-hB];exact(hS.lt g rfl).2))).trans (hc _ _ (by rw[dj,hj];rfl))⟩
 clear M0 ab ad;rw[show V9 W p row l=fun e W'=>∃(O:Value)(d:List (Rn.Nd×Value)),e=.returned O/\W'.ownsRow B 69 5 O d.length (d.flatMap yu)/\d.map Prod.fst=Rn.nodes p row l/\(∀x∈d,∃a c,x.2=.slice a x.1.kl c)/\Below B W W' by unfold V9;rw[hB]];rw[yh]at y|-;go_enter func25,ntmps25;go_wp2_with fail;rw[<-y];clear y ak
 go_loopw [19] (fun i wr=>∃j:Nat,i=.int .i64 (j:Int)/\Hid (j<=l.length/\∃m vL O d,dD W B (B+1) pb rv vL O wr m.ps m.pile d/\d.map Prod.fst=m.ns/\(∀x∈d,∃a c,x.2=.slice a x.1.kl c)/\Rn.MI p row m (l.drop j)/\Rn.nodes p row l=((l.drop j).foldl (Rn.mk1 p row) m).ns/\d.length=j)) (fun i _=>l.length - (intOf i).toNat)
 case atStart=>exact⟨0,rfl,eR _,H0.out⟩
 case round=>
  clear H0;obtain⟨j,rfl,HI⟩:=hrel;obtain⟨hj,m,vL,O,d,I,r,H,G,hW,E⟩:=HI.out;clear HI
  by_cases hjn:j<l.length
  ·have j1:(j:Int)<(l.length:Int):=by omega
   have j0:(0:Int)<=(j:Int):=by omega
   obtain⟨k,hkj⟩:∃k,l[j]?=some k:=⟨_,cF hjn⟩;have aa:l.drop j=k::l.drop (j+1):=by
    rw[eL hjn];congr 1;exact gh ((cF hjn).symm.trans hkj)
   rw[aa]at G hW;obtain⟨az,a1⟩:=hk k (cQ hkj);obtain⟨gS,ah,cS⟩:=HS.out wr I.b j k hkj;subst ah;have ek:IntKind.i64.wrap k=k:=by rw[gw];omega
   have S:d.length=m.ns.length:=by rw[<-r,dt]
   have Ov:m.pile.length<=1000000000:=by have:=G.pl;omega
   obtain⟨f,q,o,ae,Uz,UA⟩:∃(f:Rn.Nd)(q:Nat)(o:List Nat),Calls prog 56 #[.pointer (some ⟨B+1,0,none⟩),.int .i64 k] wr (V7 W B (B+1) pb rv O d f q o)/\Rn.mk1 p row m k=⟨q,o++[m.ns.length],m.ns++[f]⟩/\Rn.MI p row (Rn.mk1 p row m k) (l.drop (j+1)):=by
    by_cases hk0:k=-1
    ·subst hk0
     obtain⟨av,X⟩:=G.leaf;exact⟨_,_,_,aj8 I hr av Q,by unfold Rn.mk1;rw[de rfl],X⟩
    ·obtain⟨a0,hsz,X⟩:=G.inner hk0
     obtain⟨k',rfl⟩:∃n:Nat,k=(n:Int):=⟨k.toNat,by omega⟩;refine⟨_,_,_,aj9 I hp k' (by omega) hsz (by rw[S];exact G.pi) (dg G.ps Q) (fun x N=>dg (G.fr x.1 (by rw[<-r];exact List.mem_map_of_mem N)) Q) Ov,?_,X⟩;unfold Rn.mk1;rw[dk hk0,r]
   have HW:Hid (Rn.nodes p row l=((l.drop (j+1)).foldl (Rn.mk1 p row) (Rn.mk1 p row m k)).ns):=hW;have HM:Hid (Rn.mk1 p row m k=⟨q,o++[m.ns.length],m.ns++[f]⟩/\Rn.MI p row (Rn.mk1 p row m k) (l.drop (j+1))/\d.map Prod.fst=m.ns/\(∀x∈d,∃a c,x.2=.slice a x.1.kl c)/\d.length=m.ns.length/\d.length=j/\o.length<=m.ns.length):=⟨Uz,UA,r,H,S,E,by have:=UA.pl;rw[Uz]at this;simpa using this⟩;clear hW Uz UA G r H S I aa E;go_upto_region 6 with (go_at_call 56;refine ae.mono ?_;rintro e w3⟨C,D,ig,rfl,h3⟩)
   clear ae cS;obtain⟨z,K⟩:∃V,V=w3.alloc (.cells #[.int .i64 f.sym,.int .i64 f.prod,.slice C f.kl D,.int .i64 (f.fr:Int),.int .i64 f.wd] 69):=⟨_,rfl⟩;obtain⟨M,ac⟩:∃b,w3.heap.size=b:=⟨_,rfl⟩;have af:Below w3.heap.size w3 z:=by rw[K];exact(cV _ _).alloc (zL0) _
   have kX:aj z M #[.int .i64 f.sym,.int .i64 f.prod,.slice C f.kl D,.int .i64 (f.fr:Int),.int .i64 f.wd] 69:=by rw[K,<-ac];exact aj.new ..
   have h4:=h3.move af;have P:=h3.free;rw[ac]at P|-;rw[<-K];clear K af h3;obtain⟨i3,ai,ar,al,aq⟩:=fd Tryz.info3;obtain⟨R,U,rfl,-⟩:=aB h4.rL;obtain⟨s,t,rfl,-⟩:=aB h4.rN;have aw:o.length<=300000000:=by have:=HM.out;omega
   have ax:d.length<=300000000:=by have:=HM.out;omega
   have c3:z.cell? ⟨B+1,3,none⟩=some (.slice R o.length U):=h4.blk.cell 3;have c4:z.cell? ⟨B+1,4,none⟩=some (.slice s d.length t):=h4.blk.cell 4;have o1:(z.alloc (.cells #[.int .i64 (d.length:Int)] 3)).ownsRow B 3 1 (.slice R o.length U) o.length (o.map bQ):=h4.rL.alloc _;have vU:aj (z.alloc (.cells #[.int .i64 (d.length:Int)] 3)) (B+1) #[.pointer (some ⟨pb,0,none⟩),rv,.int .i64 (q:Int),.slice R o.length U,.slice s d.length t] 131:=h4.blk.alloc _;have J:B<=(z.alloc (.cells #[.int .i64 (d.length:Int)] 3)).heap.size:=dg h4.size (aX z _ none).size;have L:(Value.slice R o.length U).ownBlock≠some (B+1):=fun e=>(h4.kL e).ne h4.km (by decide) rfl
   go_upto_region 7 with (at_builtin;refine ge _ rfl _ _ 22 rfl B 3 i3 _ 1 8 Tryz.NC ai ar al aq rfl (by decide) (.slice R o.length U) o.length (o.map bQ) rfl o1 ⟨z.heap.size,0,none⟩ 1 1 [.int .i64 (d.length:Int)] rfl rfl (dI (aj.new z #[.int .i64 (d.length:Int)] 3)) (by simp[Value.oneCell']) (by unfold maxLen;omega) (by omega) J ?_;intro v5 w5 qi Z _ F9;obtain⟨va,vc,rfl,-⟩:=aB qi;have vI:=vU.grown Z (fun e=>L e.symm);have d3:w5.cell? ⟨B+1,3,none⟩=some (.slice R o.length U):=vI.cell 3;have f3:=vI.frozen 3)
   have A:z.grownBy w5 (Value.slice R o.length U).ownBlock:=aL (aX z _ _) Z;have F:dD W B (B+1) pb rv (.slice va (o.length+1) vc) (.slice s d.length t) (w5.setCell ⟨B+1,3,none⟩ (.slice va (o.length+1) vc)) q (o++[d.length]) d:=h4.JX (l:=o++[d.length]) A (by rw[ei,cH];exact qi);have Y:aj (w5.setCell ⟨B+1,3,none⟩ (.slice va (o.length+1) vc)) M #[.int .i64 f.sym,.int .i64 f.prod,.slice C f.kl D,.int .i64 (f.fr:Int),.int .i64 f.wd] 69:=(heap_set P.2.1).trans ((A.block M kX.lt fun e=>P.2.2.1 e.symm).trans kX);clear A qi Z F9 vI d3 f3 vU o1 J L c3 c4 kX h4;generalize w5.setCell ⟨B+1,3,none⟩ (.slice va (o.length+1) vc)=w6 at F Y|-;generalize Value.slice va (o.length+1) vc=vL6 at F|-;obtain⟨i9,ag,ap,am,an⟩:=fd Tryz.acG;have m0:w6.cell? ⟨M,0,none⟩=some (.int .i64 f.sym):=Y.cell 0;have m1:w6.cell? ⟨M,1,none⟩=some (.int .i64 f.prod):=Y.cell 1;have m2:w6.cell? ⟨M,2,none⟩=some (.slice C f.kl D):=Y.cell 2;have m3:w6.cell? ⟨M,3,none⟩=some (.int .i64 (f.fr:Int)):=Y.cell 3;have m4:w6.cell? ⟨M,4,none⟩=some (.int .i64 f.wd):=Y.cell 4;have c4:w6.cell? ⟨B+1,4,none⟩=some (.slice s d.length t):=F.blk.cell 4;have o1:(w6.alloc (.cells #[.int .i64 f.sym,.int .i64 f.prod,.slice C f.kl D,.int .i64 (f.fr:Int),.int .i64 f.wd] 69)).ownsRow B 69 5 (.slice s d.length t) d.length (d.flatMap yu):=F.rN.alloc _;have vU:aj (w6.alloc (.cells #[.int .i64 f.sym,.int .i64 f.prod,.slice C f.kl D,.int .i64 (f.fr:Int),.int .i64 f.wd] 69)) (B+1) #[.pointer (some ⟨pb,0,none⟩),rv,.int .i64 (q:Int),vL6,.slice s d.length t] 131:=F.blk.alloc _
   have J:B<=(w6.alloc (.cells #[.int .i64 f.sym,.int .i64 f.prod,.slice C f.kl D,.int .i64 (f.fr:Int),.int .i64 f.wd] 69)).heap.size:=dg F.size (aX w6 _ none).size;have L:(Value.slice s d.length t).ownBlock≠some (B+1):=fun e=>(F.kN e).ne F.km (by decide) rfl
   have H6:Hid (dD W B (B+1) pb rv vL6 (.slice s d.length t) w6 q (o++[d.length]) d):=F;clear F Y
   go_wp2_with (at_builtin;refine ge _ rfl _ _ 33 rfl B 69 i9 _ 5 56 Tryz.adg ag ap am an rfl (by decide) (.slice s d.length t) d.length (d.flatMap yu) rfl o1 ⟨w6.heap.size,0,none⟩ 1 1 [.int .i64 f.sym,.int .i64 f.prod,.slice C f.kl D,.int .i64 (f.fr:Int),.int .i64 f.wd] rfl rfl (dI (aj.new w6 #[.int .i64 f.sym,.int .i64 f.prod,.slice C f.kl D,.int .i64 (f.fr:Int),.int .i64 f.wd] 69)) (by simp[Value.oneCell']) (by unfold maxLen;omega) (by omega) J ?_;intro v7 w7 sG jI _ F8;obtain⟨ua,uc,rfl,-⟩:=aB sG;have GU:=vU.grown jI (fun e=>L e.symm);have d4:w7.cell? ⟨B+1,4,none⟩=some (.slice s d.length t):=GU.cell 4;have f4:=GU.frozen 4)
   have Oy:w6.grownBy w7 (Value.slice s d.length t).ownBlock:=aL (aX w6 _ _) jI;have h8:=H6.out.anD (l:=d++[(f,.slice C f.kl D)]) Oy (by rw[fL,cH];exact sG);obtain⟨e1,e2,e3,e4,e5,e6,-⟩:=HM.out;refine⟨⟨j+1,by go_num,by omega,Rn.mk1 p row m k,_,_,d++[(f,.slice C f.kl D)],by rw[e1,<-e5];exact h8,by rw[e1,ei,e3];rfl,fun x N=>?_,e2,HW.out,by rw[cH,e6];rfl⟩,by simp[intOf];omega⟩;rcases cY.1 N with N|N
   ·exact e4 x N
   ·rw[cM]at N
    rw[N];exact⟨_,_,rfl⟩
  ·obtain rfl:j=l.length:=by omega
   rw[g8]at hW;obtain⟨s,t,GR,-⟩:=aB I.rN;have c4:wr.cell? ⟨B+1,4,none⟩=some (.slice s d.length t):=by rw[<-GR];exact I.blk.cell 4
   have HE:Hid (wr.ownsRow B 69 5 (.slice s d.length t) d.length (d.flatMap yu)/\d.map Prod.fst=Rn.nodes p row l/\(∀x∈d,∃a c,x.2=.slice a x.1.kl c)/\Below B W wr):=⟨by rw[<-GR];exact I.rN,by rw[r,hW];rfl,H,I.b⟩;clear I hW G r H E GR;go_wp2_with fail;go_ret;exact⟨_,d,rfl,HE.out⟩
end
namespace Rn
def s0:S:=⟨0,[0],[]⟩
def run(p:Pk.T)(row:List Int):(Nat×Nat)×S:=work p row (most row+1) s0
theorem I0(p:Pk.T)(row:List Int):I p row s0:=⟨by simp[s0],by simp[s0],eR _,eR _,zL0,rfl,by simp[s0]⟩
theorem I.ref{p:Pk.T}{row:List Int}{s:S}(h:I p row s):ref p row.length (some (0,0)) s.steps≠none:=by
 have:=h.re;unfold Rn.re at this;unfold Rn.ref;rw[this];simp
theorem aaR(p:Pk.T)(row:List Int):∀n s,s.passed<=row.length->(∀c,can p row s c=true->(step p s c).passed<=row.length)->(work p row n s).1=(0,0)\/(work p row n s).1=(12,0)\/(∃a,a<=row.length/\(work p row n s).1=(11,a))
 |0,_,_,_=>.inr (.inl rfl)
 |n+1,s,h,hs=>by
  rw[work]
  split
  ·exact .inl rfl
  ·split
   ·exact .inr (.inr ⟨_,h,rfl⟩)
   ·rename_i g
    split
    ·exact .inr (.inl rfl)
    ·have d:=Bool.not_eq_false _ |>.mp g
     refine aaR p row n _ (hs _ d) fun c b=>?_
     unfold can at b;unfold step
     split
     ·rename_i f
      rw[de f,ii]at b;exact b
     ·exact hs _ d
theorem run_end(p:Pk.T)(row:List Int):(run p row).1=(0,0)\/(run p row).1=(12,0)\/(∃a,a<=row.length/\(run p row).1=(11,a)):=by
 refine aaR p row _ _ (eR _) fun c b=>?_
 unfold can at b;unfold step
 split
 ·rename_i d
  rw[de d,ii]at b;exact b
 ·exact eR _
end Rn
def PS(W:World)(b:ByteArray)(row:List Int)(e:Ending)(W':World):Prop:=Below W.heap.size W W'/\((Pk.ok b=false/\e=.returned (.tuple #[.slice none 0 0,.int .i64 10,.int .i64 0]))\/(Pk.ok b=true/\(((Rn.run (Pk.pack b) row).1.1≠0/\e=.returned (.tuple #[.slice none 0 0,.int .i64 ((Rn.run (Pk.pack b) row).1.1:Int),.int .i64 ((Rn.run (Pk.pack b) row).1.2:Int)]))\/((Rn.run (Pk.pack b) row).1.1=0/\∃(vN:Value)(nv:List (Rn.Nd×Value))(B:Nat),e=.returned (.tuple #[vN,.int .i64 0,.int .i64 0])/\W'.ownsRow B 69 5 vN nv.length (nv.flatMap yu)/\nv.map Prod.fst=Rn.nodes (Pk.pack b) row (Rn.run (Pk.pack b) row).2.steps/\∀x∈nv,∃a c,x.2=.slice a x.1.kl c))))
theorem Mi{fn:Func}{a b c:Tmp}(h:fn.results=#[.tmp a,.tmp b,.tmp c])(tmps:Array Value)(P:Program)(w:World):(results fn tmps).run P w=.ok (.tuple #[tmps.getD a undef,tmps.getD b undef,tmps.getD c undef]) w:=by simp[results,h]
theorem Yl{W:World}{rv:Value}{row:List Int}{b:ByteArray}(Y:pF W)(T:0<W.heap.size)(A:b.size<=281474976710656)(U:oQ W rv row)(E:row.length<=1048576):Calls prog 10 #[.string b,rv] W (PS W b row):=by
 obtain⟨J,M,yh,-⟩:=id U;have G:=aaO W Y T b A;cases hok:Pk.ok b with
 |false=>
  have r:Calls prog 5 #[.string b] W fun e d=>e=.returned (.tuple #[.pointer none,.int .i64 10])/\Below W.heap.size W d:=G.mono fun e d h=>by
   rcases h with ⟨-,h⟩|⟨h,-⟩
   ·exact h
   ·rw[hok]at h;cases h
  go_enter func10,ntmps10
  go_wp2_with (go_at_call 5;refine r.mono ?_;rintro e w1⟨rfl,i⟩)
  refine fx (Mi rfl _ _ _) rfl ?_;exact⟨i,.inl ⟨hok,rfl⟩⟩
 |true=>
  have r:Calls prog 5 #[.string b] W fun e d=>∃m v,e=.returned (.tuple #[.pointer (some ⟨m,0,none⟩),.int .i64 0])/\Below W.heap.size W d/\aO d W.heap.size m v (Pk.pack b)/\W.heap.size<=m:=G.mono fun e d h=>by
   rcases h with ⟨h,-⟩|⟨-,h⟩
   ·rw[hok]at h;cases h
   ·exact h
  have Z:=Pk.good b;obtain⟨p,k⟩:∃p,Pk.pack b=p:=⟨_,rfl⟩;have X:Hid (PS W b row=fun e P=>Below W.heap.size W P/\(((Rn.run p row).1.1≠0/\e=.returned (.tuple #[.slice none 0 0,.int .i64 ((Rn.run p row).1.1:Int),.int .i64 ((Rn.run p row).1.2:Int)]))\/((Rn.run p row).1.1=0/\∃(F:Value)(n:List (Rn.Nd×Value))(B:Nat),e=.returned (.tuple #[F,.int .i64 0,.int .i64 0])/\P.ownsRow B 69 5 F n.length (n.flatMap yu)/\n.map Prod.fst=Rn.nodes p row (Rn.run p row).2.steps/\∀x∈n,∃a c,x.2=.slice a x.1.kl c))):=by
   show PS W b row=_;funext e P;unfold PS;rw[k,hok];simp
  rw[X.out];obtain⟨R,H⟩:∃R,Rn.run p row=R:=⟨_,rfl⟩;rw[H];have t:Hid (Rn.run p row=R):=H;clear H;rw[k]at r Z;clear G Y T A hok X k;subst yh;go_enter func10,ntmps10;go_upto_region 4 with (go_at_call 5;refine r.mono ?_;rintro e w1⟨m,v,rfl,i,s,hlp⟩)
  clear r;have o:=U.below i;obtain⟨B,y⟩:∃b,w1.heap.size=b:=⟨_,rfl⟩;obtain⟨w3,f⟩:∃V,V=(w1.alloc (.cells #[.int .i16 0] 61)).alloc (.cells #[.pointer (some ⟨m,0,none⟩),.slice J row.length M,.int .i64 0,.slice (some ⟨B,0,none⟩) 1 1,.slice none 0 0] 64):=⟨_,rfl⟩;have u:Below B w1 w3:=by rw[f,<-y];exact((cV _ _).alloc (zL0) _).alloc (by simp) _
  have h3:dF w1 B (B+1) m (.slice J row.length M) (.slice (some ⟨B,0,none⟩) 1 1) (.slice none 0 0) w3 Rn.s0:=by
   refine⟨?_,⟨rfl,.inr ⟨B,1,#[.int .i16 0],rfl,zL0,?_,zL0,by unfold maxLen;omega,rfl,rfl⟩⟩,eE ..,fun g e=>(by intro e2;cases e2),u,y.symm,oR _⟩
   ·rw[f,<-y]
    have:=aj.new (w1.alloc (.cells #[.int .i16 0] 61)) #[.pointer (some ⟨m,0,none⟩),.slice J row.length M,.int .i64 0,.slice (some ⟨w1.heap.size,0,none⟩) 1 1,.slice none 0 0] 64
    rwa [fb]at this
   ·rw[f,<-y]
    exact(aj.new w1 #[.int .i16 0] 61).alloc _
  have j:=aj6 h3 (Rn.I0 p row) s Z o E;rw[show Rn.most row+1-Rn.s0.steps.length=Rn.most row+1 from rfl,show Rn.work p row (Rn.most row+1) Rn.s0=Rn.run p row from rfl]at j;rw[t.out]at j;have z:∀d,Below B w1 d->Below W.heap.size W d:=fun d hb=>i.trans (hb.mono (by rw[<-y];exact i.size))
  have HB:Hid (∀d,Below B w1 d->Below W.heap.size W d):=z;clear h3 u z t;go_upto_region 5 with fail
  rw[<-f];clear f
  by_cases hR0:R.1.1=0
  ·have b1:((R.1.1:Int) != 0)=false:=by rw[hR0];rfl
   have b2:(R.1.1:Int)=0:=by omega
   go_upto_region 8 with (go_at_call 24;refine j.mono ?_;rintro e S⟨ig,rC,rfl,h4,D⟩)
   clear j;obtain⟨sa,sc,L,-⟩:=aB h4.rS;have c4:S.cell? ⟨B+1,4,none⟩=some (.slice sa R.2.steps.length sc):=by rw[<-L];exact h4.blk.cell 4
   have q:=D.st;unfold Rn.most at q;have C:=agi (l:=R.2.steps) h4.rS (h4.pk s) (h4.rz o) E (by omega) D.sk D.ref;rw[L]at C;have Q:=h4.b;have O:=h4.size;clear h4 D L q
   go_wp2_with (go_at_call 25;refine C.mono ?_;rintro e w5⟨F,n,rfl,ho,I,K,N⟩)
   refine fx (Mi rfl _ _ _) rfl ?_;exact⟨HB.out w5 (Q.trans (N.mono O)),.inr ⟨hR0,F,n,_,rfl,ho,I,K⟩⟩
  ·have b1:((R.1.1:Int) != 0)=true:=j8.2 (by omega)
   have b2:¬(R.1.1:Int)=0:=by omega
   go_wp2_with (go_at_call 24;refine j.mono ?_;rintro e S⟨ig,rC,rfl,h4,D⟩)
   refine fx (Mi rfl _ _ _) rfl ?_;exact⟨HB.out S h4.b,.inl ⟨hR0,rfl⟩⟩
theorem amJ(w:World):(binOp BinOp.eql 33 (.slice none 0 0) (.slice none 0 0)).run prog w=.ok (.bool true) w:=by kernel_rfl
theorem aaS{w:World}(x:Int):Calls prog 11 #[.int .i64 x] w fun e w'=>e=.returned (.int .i64 x)/\w'=w:=by
 go_enter func11,ntmps11;go_wp2_with fail;go_ret;exact⟨rfl,rfl⟩
theorem aiE{W:World}{Q:Value}{row:List Int}{b:ByteArray}(I:pF W)(H:0<W.heap.size)(u:b.size<=281474976710656)(z:oQ W Q row)(K:row.length<=1048576)(M:∀w',Below W.heap.size W w'->Calls prog 12 #[] w' fun e w''=>e=.returned (.bool true)/\Below w'.heap.size w' w''):Calls prog 4 #[.string b,Q] W fun e w'=>e=.returned (.bool true)/\Below W.heap.size W w':=by
 have G:=Yl (b:=b) I H u z K;have D:Hid (∀w1,Below W.heap.size W w1->Calls prog 5 #[.string b] w1 fun e w'=>(Pk.ok b=false/\e=.returned (.tuple #[.pointer none,.int .i64 10])/\Below w1.heap.size w1 w')\/(Pk.ok b=true/\∃k v,e=.returned (.tuple #[.pointer (some ⟨k,0,none⟩),.int .i64 0])/\Below w1.heap.size w1 w'/\aO w' w1.heap.size k v (Pk.pack b)/\w1.heap.size<=k)):=fun w1 f=>aaO w1 (I.move (f.block 0 H)) (dd H f.size) b u
 have r:Hid (∀w',Below W.heap.size W w'->Calls prog 12 #[] w' fun e w''=>e=.returned (.bool true)/\Below w'.heap.size w' w''):=M;have F:=fun w x=>aaS (w:=w) x
 obtain⟨O,P,V,-⟩:=id z;subst V;clear M I;cases hok:Pk.ok b with
 |false=>
  have C:Calls prog 10 #[.string b,.slice O row.length P] W fun e w'=>e=.returned (.tuple #[.slice none 0 0,.int .i64 10,.int .i64 0])/\Below W.heap.size W w':=G.mono fun e w' h=>by
   rcases h with ⟨f,⟨-,h⟩|⟨h,-⟩⟩
   ·exact⟨h,f⟩
   ·rw[hok]at h;cases h
  have l:Hid (∀w1,Below W.heap.size W w1->Calls prog 5 #[.string b] w1 fun e w'=>e=.returned (.tuple #[.pointer none,.int .i64 10])/\Below W.heap.size W w'):=fun w1 f=>(D.out w1 f).mono fun e w' h=>by
   rcases h with ⟨-,h⟩|⟨h,-⟩
   ·exact⟨h.1,f.trans (h.2.mono f.size)⟩
   ·rw[hok]at h;cases h
  clear D G z;have N:=amJ;go_enter func4,ntmps4;go_upto_region 2 with (go_at_call 10;refine C.mono ?_;rintro e w1⟨rfl,i⟩)
  have j:=l.out w1 i;clear l;go_upto_region 4 with (go_at_call 5;refine j.mono ?_;rintro e w2⟨rfl,d⟩)
  have s:=r.out w2 d;clear r j
  go_wp2_with (first
   | (go_at_call 11;refine(F _ _).mono ?_;rintro e w2⟨rfl,rfl⟩)
   | (go_at_call 12;refine s.mono ?_;rintro e J⟨rfl,g⟩))
  go_ret;exact⟨rfl,d.trans (g.mono d.size)⟩
 |true=>
  obtain⟨p,S⟩:∃p,Pk.pack b=p:=⟨_,rfl⟩;have C:∀R,Rn.run p row=R->Calls prog 10 #[.string b,.slice O row.length P] W fun e w'=>∃y A E,e=.returned (.tuple #[.slice y A E,.int .i64 (R.1.1:Int),.int .i64 (R.1.2:Int)])/\Below W.heap.size W w':=fun R o=>G.mono fun e w' h=>by
   rcases h with ⟨f,⟨h,-⟩|⟨-,h⟩⟩
   ·rw[hok]at h;cases h
   ·rw[S,o]at h
    rcases h with ⟨-,h⟩|⟨L,vN,nv,B,h,U,-⟩
    ·exact⟨none,0,0,h,f⟩
    ·obtain⟨a,c,X,-⟩:=aB U
     have h2:R.1.2=0:=by
      rcases Rn.run_end p row with m|m|⟨x,-,m⟩
      ·rw[o]at m;rw[m]
      ·rw[o]at m;rw[m]
      ·rw[o]at m;rw[m]at L;cases L
     exact⟨a,_,c,by rw[h,L,h2,X];rfl,f⟩
  have l:Hid (∀w1,Below W.heap.size W w1->Calls prog 5 #[.string b] w1 fun e w'=>∃k,e=.returned (.tuple #[.pointer (some ⟨k,0,none⟩),.int .i64 0])/\Below W.heap.size W w'):=fun w1 f=>(D.out w1 f).mono fun e w' h=>by
   rcases h with ⟨h,-⟩|⟨-,k,v,h,d,-⟩
   ·rw[hok]at h;cases h
   ·exact⟨k,h,f.trans (d.mono f.size)⟩
  obtain⟨R,o⟩:∃R,Rn.run p row=R:=⟨_,rfl⟩;have q:=C R o;have n:=Rn.run_end p row;rw[o]at n;clear D G z C o hok S;rcases n with t|t|⟨x,hx,t⟩
  ·rw[t]at q
   go_enter func4,ntmps4;go_upto_region 2 with (go_at_call 10;refine q.mono ?_;rintro e w1⟨y,A,E,rfl,i⟩)
   have j:=l.out w1 i;clear l;go_upto_region 5 with (go_at_call 5;refine j.mono ?_;rintro e w2⟨k,rfl,d⟩)
   have s:=r.out w2 d;clear r j
   go_wp2_with (first
    | (go_at_call 11;refine(F _ _).mono ?_;rintro e w2⟨rfl,rfl⟩)
    | (go_at_call 12;refine s.mono ?_;rintro e J⟨rfl,g⟩))
   go_ret;exact⟨rfl,d.trans (g.mono d.size)⟩
  ·rw[t]at q
   go_enter func4,ntmps4;go_upto_region 2 with (go_at_call 10;refine q.mono ?_;rintro e w1⟨y,A,E,rfl,i⟩)
   have j:=l.out w1 i;clear l;go_upto_region 5 with (go_at_call 5;refine j.mono ?_;rintro e w2⟨k,rfl,d⟩)
   have s:=r.out w2 d;clear r j
   go_wp2_with (first
    | (go_at_call 11;refine(F _ _).mono ?_;rintro e w2⟨rfl,rfl⟩)
    | (go_at_call 12;refine s.mono ?_;rintro e J⟨rfl,g⟩))
   go_ret;exact⟨rfl,d.trans (g.mono d.size)⟩
  ·rw[t]at q
   have Y:(0:Int)<=(x:Int):=by omega
   have T:(x:Int)<=(row.length:Int):=by omega
   have Z:decide ((0:Int)<=(x:Int))=true:=fh Y;have b1:decide ((x:Int)<=(row.length:Int))=true:=fh T;go_enter func4,ntmps4;go_upto_region 2 with (go_at_call 10;refine q.mono ?_;rintro e w1⟨y,A,E,rfl,i⟩)
   have j:=l.out w1 i;clear l;go_upto_region 5 with (go_at_call 5;refine j.mono ?_;rintro e w2⟨k,rfl,d⟩)
   have s:=r.out w2 d;clear r j
   go_wp2_with (first
    | (go_at_call 11;refine(F _ _).mono ?_;rintro e w2⟨rfl,rfl⟩)
    | (go_at_call 12;refine s.mono ?_;rintro e J⟨rfl,g⟩))
   go_ret;exact⟨rfl,d.trans (g.mono d.size)⟩
def vY:ByteArray:=⟨#[0,3,0,1,0,1,0,2,1,36,1,65,6,36,115,116,97,114,116,1,115,0,0,0,1,0,1,0,2,0,1,0,0,2,0,0,0,2,0,0,1,0,0,0,0,1,0,0,0,0,0,5,0,0,0,2,48,0,0,0,0,0,16,1,0,0,0,1,16,1,0,0,0,0,16,2,0,0,0,1,16,3,187,56,146,246]⟩
theorem amK:Pk.ok vY=true:=by decide +kernel
theorem acH:(Rn.run (Pk.pack vY) [1]).1=(0,0)/\(Rn.nodes (Pk.pack vY) [1] (Rn.run (Pk.pack vY) [1]).2.steps).map (fun n=>(n.prod,n.kl))=[(-1,0),(2,0),(1,2)]:=by decide +kernel
def iq:ByteArray:=⟨#[115,32,61,32,65,32,115,32,124,32,59]⟩
theorem aiF{W:World}(E:pF W)(m:0<W.heap.size)(o:Calls prog 8 #[.string iq] W fun e w'=>e=.returned (.tuple #[.string vY,.int .i64 0,.int .i64 0])/\Below W.heap.size W w'):Calls prog 12 #[] W fun e w'=>e=.returned (.bool true)/\Below W.heap.size W w':=by
 unfold iq at o;have L:=fun w x=>aaS (w:=w) x
 have F:Hid (∀w1,Below W.heap.size W w1->Calls prog 10 #[.string vY,.slice (some ⟨w1.heap.size,0,none⟩) 1 1] (w1.alloc (.cells #[.int .i64 1] 3)) fun e w'=>∃g k l d,e=.returned (.tuple #[.slice (some ⟨g,0,none⟩) 3 k,.int .i64 0,.int .i64 0])/\Below W.heap.size W w'/\w'.cell? ⟨g,11,none⟩=some (.int .i64 1)/\w'.cell? ⟨g,12,none⟩=some (.slice l 2 d)):=fun w1 D=>by
  have a:Below W.heap.size W (w1.alloc (.cells #[.int .i64 1] 3)):=D.alloc D.size _;have G:oQ (w1.alloc (.cells #[.int .i64 1] 3)) (.slice (some ⟨w1.heap.size,0,none⟩) 1 1) [1]:=⟨_,1,rfl,zL0,fun t J=>⟨w1.heap.size,0,rfl,by simp,by
   obtain rfl:t=0:=by have:t<1:=J;omega
   exact(aj.new w1 #[.int .i64 1] 3).cell 0⟩⟩
  refine(Yl (b:=vY) (E.move (a.block 0 m)) (dd m a.size) (by decide) G (by decide)).mono ?_;rintro e w'⟨n,⟨h,-⟩ | ⟨-,⟨h,-⟩ | ⟨-,M,s,B,rfl,H,z,p⟩⟩⟩
  ·rw[amK]at h
   cases h
  ·rw[acH.1]at h
   exact absurd rfl h
  ·have r:s.map (fun x=>(x.1.prod,x.1.kl))=[(-1,0),(2,0),(1,2)]:=by
    rw[<-acH.2,<-z,rh];rfl
   obtain⟨f,i,c,rfl⟩:∃f i c,s=[f,i,c]:=by
    match s,r with
    | [f,i,c],_=>exact⟨f,i,c,rfl⟩
    | [],h=>cases h
    | [_],h=>simp at h
    | [_,_],h=>simp at h
    |_::_::_::_::_,h=>simp at h
   simp only[jp,pH,List.cons.injEq,ip,and_true]at r;obtain⟨-,-,q,A⟩:=r;obtain⟨l,d,y⟩:=p c (by simp);obtain⟨g,k,rfl,C⟩:=mZ H (j:=0) rfl;refine⟨g,k,l,d,rfl,a.trans (n.mono a.size),?_,?_⟩
   ·rw[<-q]
    exact C 11 _ rfl
   ·rw[<-A,<-y]
    exact C 12 _ rfl
 go_enter func12,ntmps12;go_upto_region 2 with (go_at_call 8;refine o.mono ?_;rintro e w1⟨rfl,u⟩)
 have v:=F.out w1 u;clear F o E m;generalize vY=bb at v|-
 go_wp2_with (first
  | (go_at_call 10;refine v.mono ?_;rintro e w2⟨g,k,l,d,rfl,a,I,K⟩;clear v)
  | (go_at_call 11;refine(L _ _).mono ?_;rintro e w2⟨rfl,rfl⟩))
 go_ret;exact⟨rfl,a⟩
theorem Lx.abP{s:au}:∀r:List au,(Lx.ins s r).length=r.length+1
 | []=>rfl
 |x::r=>by
  rw[Lx.ins]
  split
  ·rfl
  ·simp only[el,abP r]
theorem akb{P:List Lx.Pd}{K l r:List au}{i:Nat}(h:tL P l i r):oZ P K l->oZ P K r:=by
 induction h with
 |done _=>exact id
 |step _ _ ih=>exact fun a=>ih (a.add _)
theorem Lx.alr(P:List Lx.Pd)(K:List au):(jD P K).length<=K.length+P.length:=(akb (Ta P K) (oZ.refl P K)).len
theorem Lx.akc{P:List Lx.Pd}{n:Nat}{o:List au}{s:au}:(yY P n o s).length<=o.length+1:=by
 unfold yY FR
 split
 ·split
  ·omega
  ·rw[abP];exact zL0
 ·omega
namespace Lx
def fu(s:ByteArray):Except (Nat×Nat) Gr :=
 match parse s with
 |.error e=>.error e
 |.ok g=>if (jY g).1=0 then (if 200<(bJ g).length then .error (8,0) else .ok g) else .error (jY g)
theorem Sy{s:ByteArray}{e:Nat×Nat}(h:parse s=.error e):fu s=.error e:=by unfold fu;rw[h]
theorem Sz{s:ByteArray}{g:Gr}(h:parse s=.ok g)(a:(jY g).1≠0):fu s=.error (jY g):=by unfold fu;rw[h];exact dk a
theorem R3{s:ByteArray}{g:Gr}(h:parse s=.ok g)(a:(jY g).1=0)(b:200<(bJ g).length):fu s=.error (8,0):=by unfold fu;rw[h];exact(de a).trans (de b)
theorem Tf{s:ByteArray}{g:Gr}(h:parse s=.ok g)(a:(jY g).1=0)(b:¬200<(bJ g).length):fu s=.ok g:=by unfold fu;rw[h];exact(de a).trans (dk b)
theorem aaT{g:Gr}(h:(jY g).1=0):zX g=none/\uS g=none:=by
 unfold jY at h;cases h1:zX g with
 |some p=>rw[h1]at h;exact absurd h (by simp[qD])
 |none=>
  rw[h1]at h;cases h2:uS g with
  |some p=>rw[h2]at h;exact absurd h (by simp[qD])
  |none=>exact⟨rfl,rfl⟩
theorem akd(aH:ByteArray)(b:Bool)(t:Tk)(a:ByteArray):(qU aH b t a).length<=1:=by
 unfold qU
 split
 ·simp
 ·split <;> simp
theorem acI:∀(ts:List Tk)(aH:ByteArray)(il:Bool),(wl aH il ts).length<=ts.length
 | [],_,_=>zL0
 |t::ts,aH,il=>by
  rw[wl,cH,el];have h1:=akd aH il t (hd ts);have h2:=acI ts t.1 (yO il t);omega
theorem ake{s:ByteArray}{g:Gr}(h:parse s=.ok g)(a:s.size<=2000):(iG g).length<=100000:=by
 rw[<-QM h];have h1:=acI (lex s) aT true;have h2:(lex s).length<=2001:=by have:=Mr s (iT s 0 false);unfold lex;omega
 omega
theorem ahg{s:ByteArray}{g:Gr}(h:parse s=.ok g):s.size<=2000:=by
 unfold parse at h
 split at h
 ·cases h
 ·omega
end Lx
end Go.Proofs.YtagkodkijkpemaaGreatDoor

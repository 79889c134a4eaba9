import Derived.Test.YtfpjphhnjegnjaaGreatDoorCL10
set_option maxHeartbeats 8000000
set_option maxRecDepth 1000000
namespace Go.Proofs.YtfpjphhnjegnjaaGreatDoor
open Lx Go.Proofs.Tryz
open Go.RowKit Tr
open Go.Value renaming slice→ς,int→ι,string→τ,pointer→π,bool→μ,agg→γ,tuple→θ
open Go.IntKind renaming i64→ξ
open Option renaming none→ν,some→ο
open Go.Ending renaming returned→δ
open Go.Obj renaming cells→ζ
open Bool renaming true→η,false→ε
open Go renaming World→ω,Value→υ,Calls→χ
open Go.RowKit renaming Below→φ
variable{W w:ω}{b s:ByteArray}{c i j m n t:Nat}{cs:Array υ}{f:ByteArray->Int}{fo:Nat->Bool}{k:Int}{l row:List Int}{v:υ}{xI:List Nat}
namespace Rk
structure Nd where
 sym:Int
 prod:Int
 ks:List Nat
 fr:Nat
 wd:Int
end Rk
def sH(n:Rk.Nd×υ):List υ:=[ι ξ n.1.sym,ι ξ n.1.prod,n.2,ι ξ (n.1.fr:Int),ι ξ n.1.wd]
def wM(W:ω)(x:Rk.Nd×υ):Prop:=∃a c,x.2=ς a x.1.ks.length c/\nG W a x.1.ks
theorem wM.move{W W':ω}{x:Rk.Nd×υ}(h:wM W x)(f:W.heap.size<=W'.heap.size)(d:∀g,x.2.ownBlock=ο g->W'.heap[g]?=W.heap[g]?):wM W' x:=by
 obtain⟨a,c,e,b⟩:=h;exact⟨a,c,e,b.move f fun g i _=>d g (by rw[e,i];rfl)⟩
structure dM(W0:ω)(B mb pb:Nat)(rv vL vN:υ)(W:ω)(ps:Nat)(pile:List Nat)(nv:List (Rk.Nd×υ)):Prop where
 blk:aj W mb #[π (ο ⟨pb,0,ν⟩),rv,ι ξ (ps:Int),vL,vN] 255
 rL:W.ownsRow B 3 1 vL pile.length (pile.map bA)
 rN:W.ownsRow B 257 5 vN nv.length (nv.flatMap sH)
 b:φ B W0 W
 hB:B=W0.heap.size
 lb:B<=mb
 kd:∀x∈nv,wM W x/\∀g,x.2.ownBlock=ο g->g<W.heap.size/\g≠mb/\vL.ownBlock≠ο g/\vN.ownBlock≠ο g
section
variable{W0 W W':ω}{B B' mb pb ps:Nat}{rv vL vN x:υ}{pile:List Nat}{nv:List (Rk.Nd×υ)}{v:cu}{p:Pk.T}{row:List Int}
theorem dM.km(h:dM W0 B mb pb rv vL vN W ps pile nv):Kd W mb 255:=⟨_,h.blk⟩
theorem dM.kL(h:dM W0 B mb pb rv vL vN W ps pile nv){g:Nat}(a:vL.ownBlock=ο g):Kd W g 3:=bJ h.rL a
theorem dM.kN(h:dM W0 B mb pb rv vL vN W ps pile nv){g:Nat}(a:vN.ownBlock=ο g):Kd W g 257:=bJ h.rN a
theorem dM.size(h:dM W0 B mb pb rv vL vN W ps pile nv):B<=W.heap.size:=cY h.lb (lA h.blk.lt)
theorem dM.move(h:dM W0 B mb pb rv vL vN W ps pile nv)(a:φ W.heap.size W W'):dM W0 B mb pb rv vL vN W' ps pile nv :=
 ⟨(a.block _ h.blk.lt).trans h.blk,ay h.rL fun g d=>a.block g (h.rL.lt g d).2,ay h.rN fun g d=>a.block g (h.rN.lt g d).2,⟨a.1.trans h.b.1,a.2.trans h.b.2,a.3.trans h.b.3,cY h.b.4 a.4,fun k f=>(a.block k (sY (dg f h.lb) h.blk.lt)).trans (h.b.block k f)⟩,h.hB,h.lb,fun x c=>⟨(h.kd x c).1.move a.size fun g e=>a.block g ((h.kd x c).2 g e).1,fun g e=>⟨dg ((h.kd x c).2 g e).1 a.size,((h.kd x c).2 g e).2⟩⟩⟩
theorem dM.pk(h:dM W0 B mb pb rv vL vN W ps pile nv)(hp:aQ W0 B' pb v p):aQ W B' pb v p:=hp.move fun k a=>h.b.block k (by rw[h.hB];exact hp.lt a)
theorem dM.rz(h:dM W0 B mb pb rv vL vN W ps pile nv)(a:qg W0 rv row):qg W rv row:=a.below (by rw[<-h.hB];exact h.b)
theorem dM.pass(h:dM W0 B mb pb rv vL vN W ps pile nv)(n:Nat):dM W0 B mb pb rv vL vN (W.setCell ⟨mb,2,ν⟩ (ι ξ (n:Int))) n pile nv :=
 ⟨h.blk.set 2 _,ay h.rL fun g e=>heap_set ((h.kL e).ne h.km (by decide)),ay h.rN fun g e=>heap_set ((h.kN e).ne h.km (by decide)),l6 h.b h.lb,h.hB,h.lb,fun x a=>⟨(h.kd x a).1.move (by simp) fun g e=>heap_set ((h.kd x a).2 g e).2.1,fun g e=>⟨by simpa using ((h.kd x a).2 g e).1,((h.kd x a).2 g e).2⟩⟩⟩
theorem dM.Ct(h:dM W0 B mb pb rv vL vN W ps pile nv){l:List Nat}(a:W.grownBy W' vL.ownBlock)(m:W'.ownsRow B 3 1 x l.length (l.map bA))(d:x.ownBlock=vL.ownBlock\/∃g,x.ownBlock=ο g/\W.heap.size<=g):dM W0 B mb pb rv x vN (W'.setCell ⟨mb,3,ν⟩ x) ps l nv where
 blk:=by
  have:aj W' mb _ 255:=(a.block mb h.km.lt fun e=>h.km.ne (h.kL e.symm) (by decide) rfl).trans h.blk;exact this.set 3 x
 rL:=ay m fun g e=>heap_set ((show Kd W' g 3 from bJ m e).ne (show Kd W' mb 255 from ⟨_,(a.block mb h.km.lt fun e=>h.km.ne (h.kL e.symm) (by decide) rfl).trans h.blk⟩) (by decide))
 rN:=ay h.rN fun g e=>(heap_set ((h.kN e).ne h.km (by decide))).trans (a.block g (h.kN e).lt fun i=>(h.kN e).ne (h.kL i.symm) (by decide) rfl)
 b:=l6 (uU h.b h.size a fun k e=>(h.rL.lt k e).1) h.lb
 hB:=h.hB
 lb:=h.lb
 kd:=fun y o=>by
  obtain⟨n,c⟩:=h.kd y o;refine⟨n.move (by simpa using a.size) fun g e=>(heap_set (c g e).2.1).trans (a.block g (c g e).1 fun i=>(c g e).2.2.1 i.symm),fun g e=>?_⟩;have k:=c g e;refine⟨by have:=a.size;simpa using (by omega:g<W'.heap.size),k.2.1,fun j=>?_,k.2.2.2⟩;rcases d with f|⟨q,f,h1⟩
  ·exact k.2.2.1 (f▸j)
  ·rw[f]at j
   have:=fL j;omega
theorem dM.an1(h:dM W0 B mb pb rv vL vN W ps pile nv){y:Rk.Nd×υ}(a:W.grownBy W' vN.ownBlock)(m:W'.ownsRow B 257 5 x (nv++[y]).length ((nv++[y]).flatMap sH))(f:x.ownBlock=vN.ownBlock\/∃g,x.ownBlock=ο g/\W.heap.size<=g)(o:wM W y/\∀g,y.2.ownBlock=ο g->g<W.heap.size/\g≠mb/\vL.ownBlock≠ο g/\vN.ownBlock≠ο g):dM W0 B mb pb rv vL x (W'.setCell ⟨mb,4,ν⟩ x) ps pile (nv++[y]) where
 blk:=by
  have:aj W' mb _ 255:=(a.block mb h.km.lt fun e=>h.km.ne (h.kN e.symm) (by decide) rfl).trans h.blk;exact this.set 4 x
 rN:=ay m fun g e=>heap_set ((show Kd W' g 257 from bJ m e).ne (show Kd W' mb 255 from ⟨_,(a.block mb h.km.lt fun e=>h.km.ne (h.kN e.symm) (by decide) rfl).trans h.blk⟩) (by decide))
 rL:=ay h.rL fun g e=>(heap_set ((h.kL e).ne h.km (by decide))).trans (a.block g (h.kL e).lt fun j=>(h.kL e).ne (h.kN j.symm) (by decide) rfl)
 b:=l6 (uU h.b h.size a fun k e=>(h.rN.lt k e).1) h.lb
 hB:=h.hB
 lb:=h.lb
 kd:=fun z c=>by
  obtain⟨n,d⟩:wM W z/\∀g,z.2.ownBlock=ο g->g<W.heap.size/\g≠mb/\vL.ownBlock≠ο g/\vN.ownBlock≠ο g:=by
   rcases dq.1 c with c|c
   ·exact h.kd z c
   ·rw[dd]at c
    rw[c];exact o
  refine⟨n.move (by simpa using a.size) fun g e=>(heap_set (d g e).2.1).trans (a.block g (d g e).1 fun j=>(d g e).2.2.2 j.symm),fun g e=>?_⟩;have k:=d g e;refine⟨by have:=a.size;simpa using (by omega:g<W'.heap.size),k.2.1,k.2.2.1,fun l=>?_⟩;rcases f with i|⟨q,i,h1⟩
  ·exact k.2.2.2 (i▸l)
  ·rw[i]at l
   have:=fL l;omega
theorem aiH(h:dM W0 B mb pb rv vL vN W ps pile nv){rest:Nat}(Z:0<n)(Y:rest+n=pile.length)(X:pile.length<=1000000000):χ prog 160 #[π (ο ⟨mb,0,ν⟩),ι ξ (n:Int)] W fun e W'=>∃g cap gu,e=δ (ς (ο ⟨g,0,ν⟩) n cap)/\gu.ownBlock=vL.ownBlock/\W.heap.size<=g/\g<W'.heap.size/\(∀(i x:Nat),(pile.drop rest)[i]?=ο x->W'.cell? ⟨g,i,ν⟩=ο (ι ξ (x:Int)))/\(∀k,k<W.heap.size->k≠mb->W'.heap[k]?=W.heap[k]?)/\dM W0 B mb pb rv gu vN W' ps (pile.take rest) nv:=by
 obtain⟨J,G,C,E,F⟩:=ft Tryz.info3;obtain⟨x,q⟩:∃x,pile[0]?=ο x:=⟨_,cG (by omega)⟩;obtain⟨a,b,Q,-,-⟩:=F3 h.rL (p:=0) (u:=bA x) (by rw[dj,q];rfl);subst Q;have I:=DK h.rL;have N:=h.blk.a3;have e1:(pile.length:Int) - (n:Int)=(rest:Int):=by omega
 have V:(0:Int)<=(rest:Int):=by omega
 have U:(rest:Int)<=(pile.length:Int):=by omega
 have r2:(rest:Int)<=(b:Int):=by omega
 go_enter func160,ntmps160;go_upto_region 2 with fail
 refine(pn (n:=9)).1 ?_;refine kV 14 (by kernel_rfl) (by kernel_rfl) (by kernel_rfl) ?_
 dsimp only[List.take,List.drop,List.length]
 repeat (gi_big_quiet_step (fail))
 refine wpQuietIn_nil ?_;rintro _⟨nq,rfl⟩;have h1:=h.move (W':=W.drewN nq) ⟨rfl,rfl,rfl,zL0,fun _ _=>rfl⟩;have y:=h1.rL.cells (g:=a) rfl;have l:∀j,(⟨a,rest,ν⟩:Addr).add j=⟨a,rest+j,ν⟩:=fun j=>by unfold Addr.add;split <;> simp_all
 have A:∀j,(⟨a,0,ν⟩:Addr).add j=⟨a,j,ν⟩:=fun j=>by unfold Addr.add;split <;> simp_all
 have d:∀(j:Nat)u,((pile.drop rest).map bA)[j]?=ο u->(W.drewN nq).cell? ((⟨a,rest,ν⟩:Addr).add j)=ο u:=fun j u K=>by
  rw[l,<-A];refine y _ _ ?_;rw[List.map_drop,t7]at K;exact K
 have z:((pile.drop rest).map bA).length=n*J.size:=by rw[E,j9,dk,m7];omega
 have t:=run_append_grow (P:=prog) (W.drewN nq) 47 47 3 J _ Tryz.Ow G C ⟨a,0,ν⟩ 0 0 [] (by simp) (by simp) ⟨a,rest,ν⟩ n (b-rest) ((pile.drop rest).map bA) z d (by omega) (by omega) (by rw[F,nextslicecap_zero (by omega)];omega);rw[fX]at t;generalize hcp:grownCap (W.drewN nq) n 0 3=cap at t;obtain⟨w2,f⟩:=aC ((W.drewN nq).drew.alloc (ζ (([]:List υ).toArray++((pile.drop rest).map bA).toArray++Builtin.zeroCells (Value.cells (ι ξ 0)) (cap-n)) 3));rw[<-f]at t;have o:φ W.heap.size W w2:=by
  rw[f];have:=(cV (W.drewN nq).drew.heap.size (W.drewN nq).drew).alloc (zL0) (ζ (([]:List υ).toArray++((pile.drop rest).map bA).toArray++Builtin.zeroCells (Value.cells (ι ξ 0)) (cap-n)) 3);exact⟨this.1,this.2,this.3,this.4,this.5⟩
 have H:aj w2 W.heap.size (([]:List υ).toArray++((pile.drop rest).map bA).toArray++Builtin.zeroCells (Value.cells (ι ξ 0)) (cap-n)) 3:=by rw[f];exact aj.new (W.drewN nq).drew _ _
 have s:∀(i x:Nat),(pile.drop rest)[i]?=ο x->w2.cell? ⟨W.heap.size,i,ν⟩=ο (ι ξ (x:Int)):=fun i x q=>by
  rw[H.cell,pP (by simp;have:=(cH.1 q).1;simpa using this)];rw[t7]at q;simp[bA];exact⟨x,q,rfl⟩
 have h2:=h.move o;have h3:dM W0 B mb pb rv (ς (ο ⟨a,0,ν⟩) rest b) vN (w2.setCell ⟨mb,3,ν⟩ (ς (ο ⟨a,0,ν⟩) rest b)) ps (pile.take rest) nv:=by
  have M:w2.ownsRow B 3 1 (ς (ο ⟨a,0,ν⟩) rest b) (pile.take rest).length ((pile.take rest).map bA):=by
   have:=Si h2.rL (m:=rest) (by omega) (by omega);rw[j9]at this;rw[uk,fR,qt (by omega)];exact this
  exact h2.Ct ⟨rfl,rfl,rfl,zL0,fun _ _ _=>rfl⟩ M (.inl rfl)
 have r:W.heap.size≠mb:=fun e=>by have:=h.blk.lt;omega
 have R:Hid (W.heap.size<=W.heap.size/\W.heap.size<(w2.setCell ⟨mb,3,ν⟩ (ς (ο ⟨a,0,ν⟩) rest b)).heap.size/\(∀(i x:Nat),(pile.drop rest)[i]?=ο x->(w2.setCell ⟨mb,3,ν⟩ (ς (ο ⟨a,0,ν⟩) rest b)).cell? ⟨W.heap.size,i,ν⟩=ο (ι ξ (x:Int)))/\(∀k,k<W.heap.size->k≠mb->(w2.setCell ⟨mb,3,ν⟩ (ς (ο ⟨a,0,ν⟩) rest b)).heap[k]?=W.heap[k]?)/\dM W0 B mb pb rv (ς (ο ⟨a,0,ν⟩) rest b) vN (w2.setCell ⟨mb,3,ν⟩ (ς (ο ⟨a,0,ν⟩) rest b)) ps (pile.take rest) nv):=⟨zL0,by simpa using H.lt,fun i x q=>(cQ (w:=w2) (heap_set r)).trans (s i x q),fun k L O=>(heap_set O).trans (o.block k L),h3⟩;have S:=h2.blk.a3;have f3:=h2.blk.frozen 3;have m2:¬b=0:=by omega
 clear f h h1 h2 h3 o H s r y d l A z N;refine wpAnyIn_ready (rs:=[14]) (by kernel_rfl) (by simp) (AllReadyIn.cons rfl (fun D c=>?_) AllReadyIn.nil);refine Na rfl (.tmp 21) (.tmp 27) 47 47 rfl _ _ rfl (by simp[Act.eval];omega) _ _ t ?_;refine c _ _ ?_;clear c D;refine wpAnyIn_ready (rs:=[15]) (by kernel_rfl) (by simp) (AllReadyIn.cons rfl (fun D c=>?_) AllReadyIn.nil)
 go_simp
 refine c _ _ (wpAnyIn_done (by kernel_rfl) ?_ _);clear c D;clear t;go_wp2_with fail;go_ret;exact⟨_,_,ς (ο ⟨a,0,ν⟩) rest b,rfl,rfl,R.out⟩
end
namespace Rk
def leaf(row:List Int)(ps:Nat):Nd:=⟨row.getD ps 0,-1,[],ps,1⟩
def from'(p:Pk.T)(ps:Nat)(pile:List Nat)(ns:List Nd)(k:Int):Nat:=if 0<(Pk.bH p k).2 then (ns.getD (pile.getD (pile.length - (Pk.bH p k).2) 0) ⟨0,0,[],0,0⟩).fr else ps
def inner(p:Pk.T)(ps:Nat)(pile:List Nat)(ns:List Nd)(k:Int):Nd:=⟨((Pk.bH p k).1:Int),k,pile.drop (pile.length - (Pk.bH p k).2),from' p ps pile ns k,(ps:Int) - (from' p ps pile ns k:Int)⟩
end Rk
theorem SN:∀(l:List (Rk.Nd×υ))(i:Nat)(x:Rk.Nd×υ),l[i]?=ο x->(l.flatMap sH)[i*5+3]?=ο (ι ξ (x.1.fr:Int))
  | [],i,x,h=>by simp at h
  |p::l,0,x,h=>by
    simp only[List.getElem?_cons_zero,Option.some.injEq]at h;subst h;rfl
  |p::l,i+1,x,h=>by
    have:=SN l i x (by simpa using h);rw[eS,show sH p=[ι ξ p.1.sym,ι ξ p.1.prod,p.2,ι ξ (p.1.fr:Int),ι ξ p.1.wd] from rfl,show (i+1)*5+3=i*5+3+5 by omega];exact this
section
variable{W0 W W':ω}{B B' mb pb ps:Nat}{rv vL vN x:υ}{pile:List Nat}{nv:List (Rk.Nd×υ)}{v:cu}{p:Pk.T}{row:List Int}
theorem dM.aK(h:dM W0 B mb pb rv vL vN W ps pile nv){k:Nat}{u:υ}(a:B<=k/\k≠mb/\vL.ownBlock≠ο k/\vN.ownBlock≠ο k/\∀y∈nv,y.2.ownBlock≠ο k):dM W0 B mb pb rv vL vN (W.setCell ⟨k,i,ν⟩ u) ps pile nv :=
  ⟨h.blk.other a.2.1 _,ay h.rL fun _ e=>heap_set fun c=>a.2.2.1 (c▸e),ay h.rN fun _ e=>heap_set fun c=>a.2.2.2.1 (c▸e),l6 h.b a.1,h.hB,h.lb,fun x d=>⟨(h.kd x d).1.move (by simp) fun g e=>heap_set fun c=>a.2.2.2.2 x d (c▸e),fun g e=>⟨by simpa using ((h.kd x d).2 g e).1,((h.kd x d).2 g e).2⟩⟩⟩
theorem dM.free(h:dM W0 B mb pb rv vL vN W ps pile nv):B<=W.heap.size/\W.heap.size≠mb/\vL.ownBlock≠ο W.heap.size/\vN.ownBlock≠ο W.heap.size/\∀y∈nv,y.2.ownBlock≠ο W.heap.size :=
  ⟨h.size,fun e=>by have:=h.blk.lt;omega,fun e=>qT _ (h.rL.lt _ e).2,fun e=>qT _ (h.rN.lt _ e).2,fun y a e=>qT _ ((h.kd y a).2 _ e).1⟩
def WW(W0:ω)(B mb pb:Nat)(rv vN:υ)(nv:List (Rk.Nd×υ))(n:Rk.Nd)(ps:Nat)(pile:List Nat)(e:Ending)(W':ω):Prop:=∃ka kc gu,e=δ (γ #[ι ξ n.sym,ι ξ n.prod,ς ka n.ks.length kc,ι ξ (n.fr:Int),ι ξ n.wd])/\dM W0 B mb pb rv gu vN W' ps pile nv/\nG W' ka n.ks/\∀g,(ς ka n.ks.length kc).ownBlock=ο g->g<W'.heap.size/\g≠mb/\gu.ownBlock≠ο g/\vN.ownBlock≠ο g
theorem aiI(h:dM W0 B mb pb rv vL vN W ps pile nv)(D:qg W0 rv row)(l:ps<row.length)(E:row.length<=1048576):χ prog 105 #[π (ο ⟨mb,0,ν⟩),ι ξ (-1)] W (WW W0 B mb pb rv vN nv (Rk.leaf row ps) (ps+1) pile):=by
  obtain⟨q,k⟩:=aF W.heap.size;obtain⟨w1,f⟩:=aC (W.alloc (ζ #[ι ξ 0,ι ξ 0,ς ν 0 0,ι ξ 0,ι ξ 0] 257));have m:φ W.heap.size W w1:=by rw[f];exact(cV _ _).alloc (zL0) _
  have kR:aj w1 q #[ι ξ 0,ι ξ 0,ς ν 0 0,ι ξ 0,ι ξ 0] 257:=by rw[f,<-k];exact aj.new ..
  have h1:=h.move m;have r:mb≠q:=fun e=>by have:=h.blk.lt;omega
  have b:=h.free;rw[k]at b;have C:=h1.blk.a2;have f2:=h1.blk.frozen 2;have h2:=h1.pass (ps+1);rw[show ((ps+1:Nat):Int)=(ps:Int)+1 from rfl]at h2;have c:aj (w1.setCell ⟨mb,2,ν⟩ (ι ξ ((ps:Int)+1))) q #[ι ξ 0,ι ξ 0,ς ν 0 0,ι ξ 0,ι ξ 0] 257:=kR.other r _;obtain⟨a,z,H,-,d⟩:=h2.rz D;obtain⟨g,o,G,K,u⟩:=d ps l;subst G;have s:row.getD ps 0=row[ps]:=by rw[di,cG l];rfl
  unfold Rk.leaf;rw[s];generalize row[ps]=y at u;have d1:(w1.setCell ⟨mb,2,ν⟩ (ι ξ ((ps:Int)+1))).cell? ⟨mb,1,ν⟩=ο (ς (ο ⟨g,o,ν⟩) row.length z):=by rw[<-H];exact h2.blk.cell 1
  have d2:(w1.setCell ⟨mb,2,ν⟩ (ι ξ ((ps:Int)+1))).cell? ⟨mb,2,ν⟩=ο (ι ξ ((ps:Int)+1)):=h2.blk.cell 2;go_enter func105,ntmps105;go_upto_region 1 with fail
  rw[<-f];clear f;go_upto_region 3 with fail
  generalize w1.setCell ⟨mb,2,ν⟩ (ι ξ ((ps:Int)+1))=w2 at h2 c u d1 d2|-;clear h h1 m kR d s C f2;have O:(0:Int)<=(ps:Int):=by omega
  have J:(ps:Int)<(row.length:Int):=by omega
  have s0:=c.a0;have s1:=c.a1;have s2:=c.a2;have N:=c.a3;have I:=c.a4;have L:=c.frozen 0;have g1:=c.frozen 1;have g2:=c.frozen 2;have P:=c.frozen 3;have M:=c.frozen 4;refine(pn (n:=9)).1 ?_;refine kV 17 (by kernel_rfl) (by kernel_rfl) (by kernel_rfl) ?_
  dsimp only[List.take,List.drop,List.length]
  repeat (gi_big_quiet_step (fail))
  refine wpQuietIn_nil ?_;rintro _⟨nq,rfl⟩;refine wpAnyIn_ready (rs:=[17]) (by kernel_rfl) (by simp) (AllReadyIn.cons rfl (fun A j=>?_) AllReadyIn.nil)
  go_simp
  refine j _ _ (wpAnyIn_done (by kernel_rfl) ?_ _);clear j A;go_wp2_with fail;refine oU rfl rfl (cs:=#[ι ξ y,ι ξ (-1),ς ν 0 0,ι ξ (ps:Int),ι ξ 1]) (t:=257) ?_ (by kernel_rfl) (by kernel_rfl) ⟨ν,0,vL,rfl,?_⟩
  · exact((((((show aj (w2.drewN nq) q _ 257 from c).set 0 _).set 1 _).set 2 _).set 3 _).set 4 _)
  · exact⟨((((((h2.move (W':=w2.drewN nq) ⟨rfl,rfl,rfl,zL0,fun _ _=>rfl⟩).aK b).aK b).aK b).aK b).aK b),fun i x F=>(by cases F),fun g e=>(by cases e)⟩
theorem aiJ(h:dM W0 B mb pb rv vL vN W ps pile nv)(hp:aQ W0 B' pb v p)(k:Nat)(hk:k<200)(hsz:(Pk.bH p (k:Int)).2<=pile.length)(al:∀x∈pile,x<nv.length)(aq:ps<=1048576)(am:∀x∈nv,x.1.fr<=1048576)(hl:pile.length<=1000000000):χ prog 105 #[π (ο ⟨mb,0,ν⟩),ι ξ (k:Int)] W (WW W0 B mb pb rv vN nv (Rk.inner p ps pile (nv.map Prod.fst) (k:Int)) ps (pile.take (pile.length - (Pk.bH p (k:Int)).2))):=by
  obtain⟨o,ad⟩:=aF W.heap.size;obtain⟨w1,H⟩:=aC (W.alloc (ζ #[ι ξ 0,ι ξ 0,ς ν 0 0,ι ξ 0,ι ξ 0] 257));have af:φ W.heap.size W w1:=by rw[H];exact(cV _ _).alloc (zL0) _
  have kR:aj w1 o #[ι ξ 0,ι ξ 0,ς ν 0 0,ι ξ 0,ι ξ 0] 257:=by rw[H,<-ad];exact aj.new ..
  have h1:=h.move af;have a:=h.free;rw[ad]at a;have c0:=h1.blk.a0;have AV:=SI (h1.pk hp) (k:Int);unfold Rk.inner Rk.from';obtain⟨y,hy⟩:=aF (Pk.bH p (k:Int));rw[hy]at AV hsz|-;have b1:((k:Int) == -1)=ε:=zB0 (by omega);have H2:Hid (∀w2,φ w1.heap.size w1 w2->dM W0 B mb pb rv vL vN w2 ps pile nv/\aj w2 o #[ι ξ 0,ι ξ 0,ς ν 0 0,ι ξ 0,ι ξ 0] 257):=fun w2 hb=>⟨h1.move hb,(hb.block _ kR.lt).trans kR⟩
  obtain⟨fr,P⟩:∃f:Nat,(if 0<y.2 then ((nv.map Prod.fst).getD (pile.getD (pile.length-y.2) 0) ⟨0,0,[],0,0⟩).fr else ps)=f:=⟨_,rfl⟩;rw[P];have HF:Hid _:=P;clear h h1 af kR hy P;go_enter func105,ntmps105;go_upto_region 1 with fail
  rw[<-H];clear H;go_upto_region 5 with (go_at_call 157;refine AV.mono ?_;rintro e w2⟨rfl,aa⟩)
  obtain⟨h2,kR⟩:=H2.out w2 aa;clear H2 aa AV c0;have c2:=h2.blk.a2;obtain⟨b,ae⟩:=aF w2.heap.size;obtain⟨r,I⟩:=aC (w2.alloc (ζ #[ι ξ (y.1:Int),ι ξ (k:Int),ς ν 0 0,ι ξ (ps:Int),ι ξ 0] 257));have M:φ w2.heap.size w2 r:=by rw[I];exact(cV _ _).alloc (zL0) _
  have kB:aj r b #[ι ξ (y.1:Int),ι ξ (k:Int),ς ν 0 0,ι ξ (ps:Int),ι ξ 0] 257:=by rw[I,<-ae];exact aj.new ..
  have h3:=h2.move M;have m:=h2.free;rw[ae]at m;have O:=kR.on M;have G:b≠o:=fun e=>by have:=kR.lt;omega
  clear h2 kR M;go_upto_region 6 with fail
  rw[<-I];clear I
  by_cases hy0:y.2=0
  · have b2:¬(0:Int)<(y.2:Int):=by omega
    have b3:=fx b2;have S:=HF.out;rw[dt (by omega)]at S;rw[show (ι ξ (ps:Int):υ)=ι ξ (fr:Int) by rw[S]]at kB;have ak:fr<=1048576:=by omega
    clear S HF;have d2:=h3.blk.a2;have n3:=kB.a3;have n4:=kB.a4;have e4:=kB.frozen 4;have ew:IntKind.i64.wrap ((ps:Int) - (fr:Int))=(ps:Int) - (fr:Int):=by rw[gx];omega
    have X:Hid (∀nq,dM W0 B mb pb rv vL vN ((r.drewN nq).setCell ⟨b,4,ν⟩ (ι ξ ((ps:Int) - (fr:Int)))) ps pile nv/\aj ((r.drewN nq).setCell ⟨b,4,ν⟩ (ι ξ ((ps:Int) - (fr:Int)))) b #[ι ξ (y.1:Int),ι ξ (k:Int),ς ν 0 0,ι ξ (fr:Int),ι ξ ((ps:Int) - (fr:Int))] 257/\aj ((r.drewN nq).setCell ⟨b,4,ν⟩ (ι ξ ((ps:Int) - (fr:Int)))) o #[ι ξ 0,ι ξ 0,ς ν 0 0,ι ξ 0,ι ξ 0] 257):=fun nq=>⟨(h3.move (W':=r.drewN nq) ⟨rfl,rfl,rfl,zL0,fun _ _=>rfl⟩).aK m,(show aj (r.drewN nq) b _ 257 from kB).set 4 _,(show aj (r.drewN nq) o _ 257 from O).other G _⟩
    clear h3 kB O;go_upto_region 9 with fail
    refine(pn (n:=9)).1 ?_;refine kV 8 (by kernel_rfl) (by kernel_rfl) (by kernel_rfl) ?_
    dsimp only[List.take,List.drop,List.length]
    repeat (gi_big_quiet_step (fail))
    refine wpQuietIn_nil ?_;rintro _⟨nq,rfl⟩;refine wpAnyIn_ready (rs:=[8]) (by kernel_rfl) (by simp) (AllReadyIn.cons rfl (fun K2 z=>?_) AllReadyIn.nil)
    go_simp
    refine z _ _ (wpAnyIn_done (by kernel_rfl) ?_ _);clear z K2;obtain⟨h9,D,l⟩:=X.out nq;clear X d2 n3 n4 e4;generalize ((r.drewN nq).setCell ⟨b,4,ν⟩ (ι ξ ((ps:Int) - (fr:Int))))=w9 at h9 D l|-;have m0:=D.a0;have m1:=D.a1;have m2:=D.a2;have m3:=D.a3;have m4:=D.a4;have s0:=l.a0;have s1:=l.a1;have s2:=l.a2;have s3:=l.a3;have s4:=l.a4;have g0:=l.frozen 0;have g1:=l.frozen 1;have g2:=l.frozen 2;have g3:=l.frozen 3;have g4:=l.frozen 4;go_wp2_with fail;refine oU rfl rfl (cs:=#[ι ξ (y.1:Int),ι ξ (k:Int),ς ν 0 0,ι ξ (fr:Int),ι ξ ((ps:Int) - (fr:Int))]) (t:=257) (((((l.set 0 _).set 1 _).set 2 _).set 3 _).set 4 _) (by kernel_rfl) (by kernel_rfl) ⟨ν,0,vL,rfl,?_⟩;have Z:=((((h9.aK (i:=0) (u:=ι ξ (y.1:Int)) a).aK (i:=1) (u:=ι ξ (k:Int)) a).aK (i:=2) (u:=ς ν 0 0) a).aK (i:=3) (u:=ι ξ (fr:Int)) a).aK (i:=4) (u:=ι ξ ((ps:Int) - (fr:Int))) a;refine⟨?_,fun i x Q=>?_,fun g e=>(by cases e)⟩
    · first
        | exact Z
        | (rw[sX,ff];exact Z)
    · exfalso
      first
        | (simp at Q;done)
        | (have e:pile.drop (pile.length-y.2)=[]:=pD (by omega)
           have ab:(pile.drop (pile.length-y.2))[i]?=ο x:=Q;rw[e]at ab;cases ab)
  · have b2:(0:Int)<(y.2:Int):=by omega
    have b3:=ge b2;obtain⟨R,hx0⟩:∃x,pile[pile.length-y.2]?=ο x:=⟨_,cG (by omega)⟩;obtain⟨nd,hnd⟩:∃n,nv[R]?=ο n:=⟨_,cG (al R (cM hx0))⟩;have S:nd.1.fr=fr:=by
      have:=HF.out;rw[du (by omega)]at this;simpa [hx0,hnd]using this
    have ak:fr<=1048576:=by rw[<-S];exact am nd (cM hnd)
    have Y:=aiH h3 (n:=y.2) (rest:=pile.length-y.2) (by omega) (by omega) hl;have H4:Hid (aj r b #[ι ξ (y.1:Int),ι ξ (k:Int),ς ν 0 0,ι ξ (ps:Int),ι ξ 0] 257/\aj r o #[ι ξ 0,ι ξ 0,ς ν 0 0,ι ξ 0,ι ξ 0] 257):=⟨kB,O⟩;have wN:=m.2.1;have ag:=a.2.1;have J:mb<r.heap.size/\(∀g,vL.ownBlock=ο g->g<r.heap.size)/\∀g,vN.ownBlock=ο g->g<r.heap.size:=⟨h3.blk.lt,fun g e=>(h3.rL.lt g e).2,fun g e=>(h3.rN.lt g e).2⟩;have WX:Hid _:=J;clear h3 kB O HF c2 J;have l3:b<r.heap.size/\o<r.heap.size:=⟨H4.out.1.lt,H4.out.2.lt⟩;go_upto_region 7 with fail
    have HX:Hid (∀c C E q,E.ownBlock=vL.ownBlock->r.heap.size<=c->c<q.heap.size->(∀(i x:Nat),(pile.drop (pile.length-y.2))[i]?=ο x->q.cell? ⟨c,i,ν⟩=ο (ι ξ (x:Int)))->(∀k,k<r.heap.size->k≠mb->q.heap[k]?=r.heap[k]?)->dM W0 B mb pb rv E vN q ps (pile.take (pile.length-y.2)) nv->q.cell? ⟨b,2,ν⟩=ο (ς ν 0 0)/\q.frozen? ⟨b,2,ν⟩=ε/\dM W0 B mb pb rv E vN (q.setCell ⟨b,2,ν⟩ (ς (ο ⟨c,0,ν⟩) y.2 C)) ps (pile.take (pile.length-y.2)) nv/\aj (q.setCell ⟨b,2,ν⟩ (ς (ο ⟨c,0,ν⟩) y.2 C)) b #[ι ξ (y.1:Int),ι ξ (k:Int),ς (ο ⟨c,0,ν⟩) y.2 C,ι ξ (ps:Int),ι ξ 0] 257/\aj (q.setCell ⟨b,2,ν⟩ (ς (ο ⟨c,0,ν⟩) y.2 C)) o #[ι ξ 0,ι ξ 0,ς ν 0 0,ι ξ 0,ι ξ 0] 257/\(q.setCell ⟨b,2,ν⟩ (ς (ο ⟨c,0,ν⟩) y.2 C)).cell? ⟨c,0,ν⟩=ο (ι ξ (R:Int))/\Hid ((∀(i x:Nat),(pile.drop (pile.length-y.2))[i]?=ο x->(q.setCell ⟨b,2,ν⟩ (ς (ο ⟨c,0,ν⟩) y.2 C)).cell? ⟨c,i,ν⟩=ο (ι ξ (x:Int)))/\c<(q.setCell ⟨b,2,ν⟩ (ς (ο ⟨c,0,ν⟩) y.2 C)).heap.size/\c≠b/\c≠o/\c≠mb/\E.ownBlock≠ο c/\vN.ownBlock≠ο c)):=fun c C E q ho hg N F s h4=>by
      obtain⟨kB,O⟩:=H4.out;have mE:aj q b _ 257:=(s b kB.lt wN).trans kB;have ql:aj q o _ 257:=(s o O.lt ag).trans O;refine⟨mE.cell 2,mE.frozen 2,h4.aK ⟨m.1,m.2.1,by rw[ho];exact m.2.2.1,m.2.2.2⟩,mE.set 2 _,ql.other G _,(cQ (w:=q) (heap_set fun e=>by have e2:c=b:=e;have:=kB.lt;omega)).trans (F 0 R (by rw[t7];exact hx0)),⟨fun i x Q=>(cQ (w:=q) (heap_set fun e=>by have e2:c=b:=e;have:=kB.lt;omega)).trans (F i x Q),by simpa using N,by omega,by omega,by have:=WX.out.1;omega,fun e=>?_,fun e=>by have:=WX.out.2.2 _ e;omega⟩⟩;rw[ho]at e;have:=WX.out.2.1 _ e;omega
    go_upto_region 8 with (go_at_call 160;refine Y.mono ?_;rintro e q⟨c,C,E,rfl,nJ,ai,N,F,s,h4⟩;obtain⟨p2,pf,h5,U,uo,ck,LX⟩:=HX.out c C E q nJ ai N F s h4;clear h4 F s HX)
    have K:B<=b/\b≠mb/\E.ownBlock≠ο b/\vN.ownBlock≠ο b/\(∀y∈nv,y.2.ownBlock≠ο b):=⟨m.1,m.2.1,by rw[nJ];exact m.2.2.1,m.2.2.2⟩;have d:B<=o/\o≠mb/\E.ownBlock≠ο o/\vN.ownBlock≠ο o/\(∀y∈nv,y.2.ownBlock≠ο o):=⟨a.1,a.2.1,by rw[nJ];exact a.2.2.1,a.2.2.2⟩;clear p2 pf nJ Y;generalize q.setCell ⟨b,2,ν⟩ (ς (ο ⟨c,0,ν⟩) y.2 C)=w5 at h5 U uo ck LX|-;obtain⟨gN,cN,Da,ac⟩:=jC h5.rN (SN _ _ _ hnd);have cf:=ac _ _ (SN _ _ _ hnd);rw[S]at cf;have c4:w5.cell? ⟨mb,4,ν⟩=ο (ς (ο ⟨gN,0,ν⟩) nv.length cN):=by rw[<-Da];exact h5.blk.cell 4
    have ah:=U.a2;have ao:=U.a3;have ap:=U.frozen 3;have i0:(0:Int)<=(R:Int):=by omega
    have i1:(R:Int)<(nv.length:Int):=by have:=(cH.1 hnd).1;omega
    have H6:Hid (∀nq,dM W0 B mb pb rv E vN ((w5.drewN nq).setCell ⟨b,3,ν⟩ (ι ξ (fr:Int))) ps (pile.take (pile.length-y.2)) nv/\aj ((w5.drewN nq).setCell ⟨b,3,ν⟩ (ι ξ (fr:Int))) b #[ι ξ (y.1:Int),ι ξ (k:Int),ς (ο ⟨c,0,ν⟩) y.2 C,ι ξ (fr:Int),ι ξ 0] 257/\aj ((w5.drewN nq).setCell ⟨b,3,ν⟩ (ι ξ (fr:Int))) o #[ι ξ 0,ι ξ 0,ς ν 0 0,ι ξ 0,ι ξ 0] 257/\((w5.drewN nq).setCell ⟨b,3,ν⟩ (ι ξ (fr:Int))).heap[c]?=w5.heap[c]?/\((w5.drewN nq).setCell ⟨b,3,ν⟩ (ι ξ (fr:Int))).heap.size=w5.heap.size):=fun nq=>⟨(h5.move (W':=w5.drewN nq) ⟨rfl,rfl,rfl,zL0,fun _ _=>rfl⟩).aK K,(show aj (w5.drewN nq) b _ 257 from U).set 3 _,(show aj (w5.drewN nq) o _ 257 from uo).other G _,heap_set LX.out.2.2.1,by simp⟩
    clear h5 U uo ac Da;refine(pn (n:=9)).1 ?_;refine kV 12 (by kernel_rfl) (by kernel_rfl) (by kernel_rfl) ?_
    dsimp only[List.take,List.drop,List.length]
    repeat (gi_big_quiet_step (fail))
    refine wpQuietIn_nil ?_;rintro _⟨qX,rfl⟩;refine wpAnyIn_ready (rs:=[12]) (by kernel_rfl) (by simp) (AllReadyIn.cons rfl (fun K2 z=>?_) AllReadyIn.nil)
    go_simp
    refine z _ _ (wpAnyIn_done (by kernel_rfl) ?_ _);clear z K2;obtain⟨h6,V,WY,tZ,L⟩:=H6.out qX;clear H6 cf c4 ah ao ap ck;generalize (w5.drewN qX).setCell ⟨b,3,ν⟩ (ι ξ (fr:Int))=w6 at h6 V WY tZ L|-;have d2:=h6.blk.a2;have n3:=V.a3;have n4:=V.a4;have e4:=V.frozen 4;have ew:IntKind.i64.wrap ((ps:Int) - (fr:Int))=(ps:Int) - (fr:Int):=by rw[gx];omega
    have X:Hid (∀nq,dM W0 B mb pb rv E vN ((w6.drewN nq).setCell ⟨b,4,ν⟩ (ι ξ ((ps:Int) - (fr:Int)))) ps (pile.take (pile.length-y.2)) nv/\aj ((w6.drewN nq).setCell ⟨b,4,ν⟩ (ι ξ ((ps:Int) - (fr:Int)))) b #[ι ξ (y.1:Int),ι ξ (k:Int),ς (ο ⟨c,0,ν⟩) y.2 C,ι ξ (fr:Int),ι ξ ((ps:Int) - (fr:Int))] 257/\aj ((w6.drewN nq).setCell ⟨b,4,ν⟩ (ι ξ ((ps:Int) - (fr:Int)))) o #[ι ξ 0,ι ξ 0,ς ν 0 0,ι ξ 0,ι ξ 0] 257/\((w6.drewN nq).setCell ⟨b,4,ν⟩ (ι ξ ((ps:Int) - (fr:Int)))).heap[c]?=w6.heap[c]?/\((w6.drewN nq).setCell ⟨b,4,ν⟩ (ι ξ ((ps:Int) - (fr:Int)))).heap.size=w6.heap.size):=fun nq=>⟨(h6.move (W':=w6.drewN nq) ⟨rfl,rfl,rfl,zL0,fun _ _=>rfl⟩).aK K,(show aj (w6.drewN nq) b _ 257 from V).set 4 _,(show aj (w6.drewN nq) o _ 257 from WY).other G _,heap_set LX.out.2.2.1,by simp⟩
    clear h6 V WY;go_upto_region 9 with fail
    refine(pn (n:=9)).1 ?_;refine kV 8 (by kernel_rfl) (by kernel_rfl) (by kernel_rfl) ?_
    dsimp only[List.take,List.drop,List.length]
    repeat (gi_big_quiet_step (fail))
    refine wpQuietIn_nil ?_;rintro _⟨nq,rfl⟩;refine wpAnyIn_ready (rs:=[8]) (by kernel_rfl) (by simp) (AllReadyIn.cons rfl (fun K2 z=>?_) AllReadyIn.nil)
    go_simp
    refine z _ _ (wpAnyIn_done (by kernel_rfl) ?_ _);clear z K2;obtain⟨h9,D,l,Qs,WZ⟩:=X.out nq;clear X d2 n3 n4 e4;generalize ((w6.drewN nq).setCell ⟨b,4,ν⟩ (ι ξ ((ps:Int) - (fr:Int))))=w9 at h9 D l Qs WZ|-;have Xa:Hid (w9.heap[c]?=w5.heap[c]?/\w9.heap.size=w5.heap.size):=⟨Qs.trans tZ,WZ.trans L⟩;clear Qs tZ WZ L;have m0:=D.a0;have m1:=D.a1;have m2:=D.a2;have m3:=D.a3;have m4:=D.a4;have s0:=l.a0;have s1:=l.a1;have s2:=l.a2;have s3:=l.a3;have s4:=l.a4;have g0:=l.frozen 0;have g1:=l.frozen 1;have g2:=l.frozen 2;have g3:=l.frozen 3;have g4:=l.frozen 4;go_wp2_with fail;refine oU rfl rfl (cs:=#[ι ξ (y.1:Int),ι ξ (k:Int),ς (ο ⟨c,0,ν⟩) y.2 C,ι ξ (fr:Int),ι ξ ((ps:Int) - (fr:Int))]) (t:=257) (((((l.set 0 _).set 1 _).set 2 _).set 3 _).set 4 _) (by kernel_rfl) (by kernel_rfl) ⟨ο ⟨c,0,ν⟩,C,E,?_,((((h9.aK d).aK d).aK d).aK d).aK d,fun i x Q=>?_,fun g e=>?_⟩
    · have an:(pile.drop (pile.length-y.2)).length=y.2:=by rw[m7];omega
      show _=Ending.returned (γ #[_,_,ς _ (pile.drop (pile.length-y.2)).length _,_,_]);rw[an]
    · obtain⟨k1,k2,k3,k4,k5,k6,k7⟩:=LX.out
      have hr:∀{A:ω}{j:Nat}{u:υ},(A.setCell ⟨o,j,ν⟩ u).heap[c]?=A.heap[c]?:=heap_set k4;exact⟨c,rfl,by simpa [Xa.out.2]using k2,(cQ (w:=w5) (hr.trans (hr.trans (hr.trans (hr.trans (hr.trans Xa.out.1)))))).trans (k1 i x Q)⟩
    · obtain⟨k1,k2,k3,k4,k5,k6,k7⟩:=LX.out
      obtain rfl:c=g:=fL e;exact⟨by simpa [Xa.out.2]using k2,k5,k6,k7⟩
end
section
open Go.RowKit
open Tr
namespace Rk
open Rn (wH ref NP)
structure Mk where
 ps:Nat
 pile:List Nat
 ns:List Nd
def mk1(p:Pk.T)(row:List Int)(m:Mk)(k:Int):Mk:=if k=-1 then ⟨m.ps+1,m.pile++[m.ns.length],m.ns++[leaf row m.ps]⟩ else ⟨m.ps,m.pile.take (m.pile.length - (Pk.bH p k).2)++[m.ns.length],m.ns++[inner p m.ps m.pile m.ns k]⟩
def nodes(p:Pk.T)(row:List Int)(l:List Int):List Nd:=(l.foldl (mk1 p row) ⟨0,[],[]⟩).ns
structure MI(p:Pk.T)(row:List Int)(m:Mk)(l:List Int):Prop where
 re:ref p row.length (ο (m.ps,m.pile.length)) l≠ν
 pi:∀x∈m.pile,x<m.ns.length
 ps:m.ps<=row.length
 fr:∀x∈m.ns,x.fr<=row.length
 pl:m.pile.length<=m.ns.length
theorem MI.leaf{p:Pk.T}{m:Mk}(h:MI p row m (-1::l)):m.ps<row.length/\MI p row (mk1 p row m (-1)) l:=by
 have b:=h.re;have e:ref p row.length (ο (m.ps,m.pile.length)) (-1::l)=ref p row.length (wH p row.length (-1) (m.ps,m.pile.length)) l:=rfl;rw[e]at b;unfold wH at b;rw[du rfl]at b
 by_cases hl:m.ps<row.length
 ·rw[du hl]at b
  refine⟨hl,?_⟩;unfold mk1;rw[du rfl];refine⟨by simpa using b,fun x a=>?_,hl,fun x a=>?_,by have:=h.pl;simp;omega⟩
  ·rcases dq.1 a with a | a
   ·have:=h.pi x a;simp;omega
   ·rw[dd]at a;simp;omega
  ·rcases dq.1 a with a | a
   ·exact h.fr x a
   ·rw[dd]at a;rw[a];exact h.ps
 ·rw[dt hl]at b
  exact absurd (NP p row.length l) b
theorem MI.inner{p:Pk.T}{row:List Int}{m:Mk}{l:List Int}{k:Int}(h:MI p row m (k::l))(c:k≠-1):0<=k/\(Pk.bH p k).2<=m.pile.length/\MI p row (mk1 p row m k) l:=by
 have b:=h.re;have e:ref p row.length (ο (m.ps,m.pile.length)) (k::l)=ref p row.length (wH p row.length k (m.ps,m.pile.length)) l:=rfl;rw[e]at b;unfold wH at b;rw[dt c]at b
 by_cases hl:0<=k/\(Pk.bH p k).2<=m.pile.length
 ·rw[du hl]at b
  refine⟨hl.1,hl.2,?_⟩;unfold mk1;rw[dt c];refine⟨?_,fun x a=>?_,h.ps,fun x a=>?_,by have:=h.pl;simp;omega⟩
  ·rw[show (m.pile.take (m.pile.length - (Pk.bH p k).2)++[m.ns.length]).length=m.pile.length - (Pk.bH p k).2+1 by simp]
   exact b
  ·rcases dq.1 a with a | a
   ·have:=h.pi x (mw a);simp;omega
   ·rw[dd]at a;simp;omega
  ·rcases dq.1 a with a | a
   ·exact h.fr x a
   ·rw[dd]at a
    rw[a];unfold Rk.inner from';show (if _ then _ else _)<=_
    split
    ·rw[di]
     cases e2:m.ns[m.pile.getD (m.pile.length - (Pk.bH p k).2) 0]? with
     |none=>exact fi _
     |some x=>exact h.fr x (cM e2)
    ·exact h.ps
 ·rw[dt hl]at b
  exact absurd (NP p row.length l) b
end Rk
section
variable{W:ω}{B0 B' pb:Nat}{rv vS:υ}{v:cu}{p:Pk.T}{row l:List Int}
def Xb(W:ω)(p:Pk.T)(row l:List Int)(e:Ending)(W':ω):Prop:=∃(vN:υ)(nv:List (Rk.Nd×υ)),e=δ vN/\W'.ownsRow W.heap.size 257 5 vN nv.length (nv.flatMap sH)/\nv.map Prod.fst=Rk.nodes p row l/\(∀x∈nv,wM W' x/\∀g,x.2.ownBlock=ο g->g<W'.heap.size)/\φ W.heap.size W W'
theorem ahw(hS:W.ownsRow B0 153 1 vS l.length (l.map GN))(hp:aQ W B' pb v p)(hr:qg W rv row)(S:row.length<=1048576)(hl:l.length<=300000000)(hk:∀k∈l,-1<=k/\k<200)(ax:Rn.ref p row.length (ο (0,0)) l≠ν):χ prog 50 #[vS,π (ο ⟨pb,0,ν⟩),rv] W (Xb W p row l):=by
 obtain⟨sa,sc,oG,-⟩:=aB hS;subst oG;obtain⟨ra,rc,AU,-⟩:=id hr;obtain⟨cs,ad,an⟩:=Zv hl W;obtain⟨B,hB⟩:=aF W.heap.size;obtain⟨w2,s⟩:=aC ((W.alloc (ζ cs 257)).alloc (ζ #[π (ο ⟨pb,0,ν⟩),rv,ι ξ 0,ς ν 0 0,ς (ο ⟨B,0,ν⟩) 0 l.length] 255));have ae:φ B W w2:=by rw[s,<-hB];exact((cV _ _).alloc (zL0) _).alloc (by simp) _
 have M0:dM W B (B+1) pb rv (ς ν 0 0) (ς (ο ⟨B,0,ν⟩) 0 l.length) w2 0 [] []:=by
  refine⟨?_,eV ..,⟨rfl,.inr ⟨B,l.length,cs,rfl,zL0,?_,fi _,by unfold maxLen;omega,ad,rfl⟩⟩,ae,hB.symm,nh _,fun x t=>(by cases t)⟩
  ·rw[s,<-hB]
   have:=aj.new (W.alloc (ζ cs 257)) #[π (ο ⟨pb,0,ν⟩),rv,ι ξ 0,ς ν 0 0,ς (ο ⟨W.heap.size,0,ν⟩) 0 l.length] 255
   rwa [eC]at this
  ·rw[s,<-hB]
   exact(aj.new W cs 257).alloc _
 have H0:Hid (∃m vL L d,dM W B (B+1) pb rv vL L w2 m.ps m.pile d/\d.map Prod.fst=m.ns/\(∀x∈d,∃a c,x.2=ς a x.1.ks.length c)/\Rk.MI p row m (l.drop 0)/\Rk.nodes p row l=((l.drop 0).foldl (Rk.mk1 p row) m).ns/\d.length=0):=⟨⟨0,[],[]⟩,_,_,[],M0,rfl,by simp,⟨ax,by simp,fi _,by simp,zL0⟩,rfl,rfl⟩;have HS:Hid (∀wr,φ B W wr->∀j k,l[j]?=ο k->∃g,sa=ο ⟨g,0,ν⟩/\wr.cell? ⟨g,j,ν⟩=ο (ι .i16 k)):=fun wr hb j k hj=>by
  obtain⟨g,c,e,hc⟩:=jC hS (j:=j) (u:=GN k) (by rw[dj,hj];rfl);cases e;refine⟨g,rfl,(cQ (w:=W) (hb.block g (by rw[<-hB];exact(hS.lt g rfl).2))).trans (hc _ _ (by rw[dj,hj];rfl))⟩
 clear M0 ae ad;rw[show Xb W p row l=fun e W'=>∃(L:υ)(d:List (Rk.Nd×υ)),e=δ L/\W'.ownsRow B 257 5 L d.length (d.flatMap sH)/\d.map Prod.fst=Rk.nodes p row l/\(∀x∈d,wM W' x/\∀g,x.2.ownBlock=ο g->g<W'.heap.size)/\φ B W W' by unfold Xb;rw[hB]];rw[AU]at s|-;go_enter func50,ntmps50;go_wp2_with fail;rw[<-s];clear s an
 go_loopw [19] (fun i wr=>∃j:Nat,i=ι ξ (j:Int)/\Hid (j<=l.length/\∃m vL L d,dM W B (B+1) pb rv vL L wr m.ps m.pile d/\d.map Prod.fst=m.ns/\(∀x∈d,∃a c,x.2=ς a x.1.ks.length c)/\Rk.MI p row m (l.drop j)/\Rk.nodes p row l=((l.drop j).foldl (Rk.mk1 p row) m).ns/\d.length=j)) (fun i _=>l.length - (intOf i).toNat)
 case atStart=>exact⟨0,rfl,fi _,H0.out⟩
 case round=>
  clear H0;obtain⟨j,rfl,HI⟩:=hrel;obtain⟨hj,m,vL,L,d,E,q,R,K,hW,C⟩:=HI.out;clear HI
  by_cases hjn:j<l.length
  ·have j1:(j:Int)<(l.length:Int):=by omega
   have j0:(0:Int)<=(j:Int):=by omega
   obtain⟨k,hkj⟩:∃k,l[j]?=ο k:=⟨_,cG hjn⟩;have ag:l.drop j=k::l.drop (j+1):=by
    rw[eN hjn];congr 1;exact fL ((cG hjn).symm.trans hkj)
   rw[ag]at K hW;obtain⟨aE,az⟩:=hk k (cM hkj);obtain⟨gS,ap,cS⟩:=HS.out wr E.b j k hkj;subst ap;have ek:IntKind.i64.wrap k=k:=by rw[gx];omega
   have X:d.length=m.ns.length:=by rw[<-q,dk]
   have O9:m.pile.length<=1000000000:=by have:=K.pl;omega
   obtain⟨nd,z,f,af,Vi,Vj⟩:∃(nd:Rk.Nd)(z:Nat)(f:List Nat),χ prog 105 #[π (ο ⟨B+1,0,ν⟩),ι ξ k] wr (WW W B (B+1) pb rv L d nd z f)/\Rk.mk1 p row m k=⟨z,f++[m.ns.length],m.ns++[nd]⟩/\Rk.MI p row (Rk.mk1 p row m k) (l.drop (j+1)):=by
    by_cases hk0:k=-1
    ·subst hk0
     obtain⟨ao,Y⟩:=K.leaf;exact⟨_,_,_,aiI E hr ao S,by unfold Rk.mk1;rw[du rfl],Y⟩
    ·obtain⟨aA,hsz,Y⟩:=K.inner hk0
     obtain⟨k',rfl⟩:∃n:Nat,k=(n:Int):=⟨k.toNat,by omega⟩;refine⟨_,_,_,aiJ E hp k' (by omega) hsz (by rw[X];exact K.pi) (cY K.ps S) (fun x t=>cY (K.fr x.1 (by rw[<-q];exact xn t)) S) O9,?_,Y⟩;unfold Rk.mk1;rw[dt hk0,q]
   have HW:Hid (Rk.nodes p row l=((l.drop (j+1)).foldl (Rk.mk1 p row) (Rk.mk1 p row m k)).ns):=hW;have HM:Hid (Rk.mk1 p row m k=⟨z,f++[m.ns.length],m.ns++[nd]⟩/\Rk.MI p row (Rk.mk1 p row m k) (l.drop (j+1))/\d.map Prod.fst=m.ns/\(∀x∈d,∃a c,x.2=ς a x.1.ks.length c)/\d.length=m.ns.length/\d.length=j/\f.length<=m.ns.length):=⟨Vi,Vj,q,R,X,C,by have:=Vj.pl;rw[Vi]at this;simpa using this⟩;clear hW Vi Vj K q R X E ag C;go_upto_region 6 with (go_at_call 105;refine af.mono ?_;rintro e w3⟨r,A,gu,rfl,h3,ah,Vk⟩)
   clear af cS;obtain⟨D,J⟩:=aC (w3.alloc (ζ #[ι ξ nd.sym,ι ξ nd.prod,ς r nd.ks.length A,ι ξ (nd.fr:Int),ι ξ nd.wd] 257));obtain⟨bx,ac⟩:=aF w3.heap.size;have F:φ w3.heap.size w3 D:=by rw[J];exact(cV _ _).alloc (zL0) _
   have kX:aj D bx #[ι ξ nd.sym,ι ξ nd.prod,ς r nd.ks.length A,ι ξ (nd.fr:Int),ι ξ nd.wd] 257:=by rw[J,<-ac];exact aj.new ..
   have h4:=h3.move F;have aa:=ah.move F.size fun g _ hg=>F.block g hg
   have Pn:∀g,(ς r nd.ks.length A).ownBlock=ο g->g<D.heap.size/\g≠B+1/\gu.ownBlock≠ο g/\L.ownBlock≠ο g:=fun g e=>⟨dg (Vk g e).1 F.size,(Vk g e).2⟩
   clear ah Vk;have U:=h3.free;rw[ac]at U|-;rw[<-J];clear J F h3;obtain⟨i3,aw,al,av,ai⟩:=ft Tryz.info3;obtain⟨la,lc,rfl,-⟩:=aB h4.rL;obtain⟨H,G,rfl,-⟩:=aB h4.rN;have a9:f.length<=300000000:=by have:=HM.out;omega
   have aH:d.length<=300000000:=by have:=HM.out;omega
   have c3:=h4.blk.a3;have c4:=h4.blk.a4;have o1:(D.alloc (ζ #[ι ξ (d.length:Int)] 3)).ownsRow B 3 1 (ς la f.length lc) f.length (f.map bA):=h4.rL.alloc _;have wF:aj (D.alloc (ζ #[ι ξ (d.length:Int)] 3)) (B+1) #[π (ο ⟨pb,0,ν⟩),rv,ι ξ (z:Int),ς la f.length lc,ς H d.length G] 255:=h4.blk.alloc _;have N:B<=(D.alloc (ζ #[ι ξ (d.length:Int)] 3)).heap.size:=cY h4.size (aM D _ ν).size;have M:(ς la f.length lc).ownBlock≠ο (B+1):=fun e=>(h4.kL e).ne h4.km (by decide) rfl
   go_upto_region 7 with (at_builtin;refine ii _ rfl _ _ 47 rfl B 3 i3 _ 1 8 Tryz.Ow aw al av ai rfl (by decide) (ς la f.length lc) f.length (f.map bA) rfl o1 ⟨D.heap.size,0,ν⟩ 1 1 [ι ξ (d.length:Int)] rfl rfl (bQ (aj.new D #[ι ξ (d.length:Int)] 3)) (by simp[Value.oneCell']) (by unfold maxLen;omega) (by omega) N ?_;intro v5 w5 kH Z _ Em;obtain⟨O,P,rfl,-⟩:=aB kH;have wO:=wF.grown Z (fun e=>M e.symm);have d3:w5.cell? ⟨B+1,3,ν⟩=ο (ς la f.length lc):=wO.cell 3;have f3:=wO.frozen 3)
   have o:=aI (aM D _ _) Z;have Vl:(ς O (f.length+1) P).ownBlock=(ς la f.length lc).ownBlock\/∃g,(ς O (f.length+1) P).ownBlock=ο g/\D.heap.size<=g:=Em.imp id fun e=>⟨_,e,by rw[eC];omega⟩
   have I:=h4.Ct (l:=f++[d.length]) o (by rw[ee,cJ];exact kH) Vl;have ab:nG (w5.setCell ⟨B+1,3,ν⟩ (ς O (f.length+1) P)) r nd.ks/\∀g,(ς r nd.ks.length A).ownBlock=ο g->g<(w5.setCell ⟨B+1,3,ν⟩ (ς O (f.length+1) P)).heap.size/\g≠B+1/\(ς O (f.length+1) P).ownBlock≠ο g/\(ς H d.length G).ownBlock≠ο g:=by
    refine⟨aa.move (by simpa using o.size) fun g e hg=>(heap_set (Pn g (by rw[e];rfl)).2.1).trans (o.block g hg fun V=>(Pn g (by rw[e];rfl)).2.2.1 V.symm),fun g e=>?_⟩;obtain⟨k1,k2,k3,k4⟩:=Pn g e;refine⟨by have:=o.size;simpa using (by omega:g<w5.heap.size),k2,fun V=>?_,k4⟩;rcases Vl with e3|⟨g',e3,e4⟩
    ·exact k3 (e3▸V)
    ·rw[e3]at V
     have:=fL V;omega
   have HY:Hid _:=ab;clear ab aa Pn Vl;have Q:aj (w5.setCell ⟨B+1,3,ν⟩ (ς O (f.length+1) P)) bx #[ι ξ nd.sym,ι ξ nd.prod,ς r nd.ks.length A,ι ξ (nd.fr:Int),ι ξ nd.wd] 257:=(heap_set U.2.1).trans ((o.block bx kX.lt fun e=>U.2.2.1 e.symm).trans kX);clear o kH Z Em wO d3 f3 wF o1 N M c3 c4 kX h4;generalize w5.setCell ⟨B+1,3,ν⟩ (ς O (f.length+1) P)=w6 at I Q HY|-;generalize ς O (f.length+1) P=vL6 at I HY|-;obtain⟨i9,aq,ar,ak,am⟩:=ft Tryz.Tx;have m0:=Q.a0;have m1:=Q.a1;have m2:=Q.a2;have m3:=Q.a3;have m4:=Q.a4;have c4:=I.blk.a4;have o1:(w6.alloc (ζ #[ι ξ nd.sym,ι ξ nd.prod,ς r nd.ks.length A,ι ξ (nd.fr:Int),ι ξ nd.wd] 257)).ownsRow B 257 5 (ς H d.length G) d.length (d.flatMap sH):=I.rN.alloc _;have wF:aj (w6.alloc (ζ #[ι ξ nd.sym,ι ξ nd.prod,ς r nd.ks.length A,ι ξ (nd.fr:Int),ι ξ nd.wd] 257)) (B+1) #[π (ο ⟨pb,0,ν⟩),rv,ι ξ (z:Int),vL6,ς H d.length G] 255:=I.blk.alloc _;have N:B<=(w6.alloc (ζ #[ι ξ nd.sym,ι ξ nd.prod,ς r nd.ks.length A,ι ξ (nd.fr:Int),ι ξ nd.wd] 257)).heap.size:=cY I.size (aM w6 _ ν).size;have M:(ς H d.length G).ownBlock≠ο (B+1):=fun e=>(I.kN e).ne I.km (by decide) rfl
   have H6:Hid _:=I;clear I Q
   go_wp2_with (at_builtin;refine ii _ rfl _ _ 77 rfl B 257 i9 _ 5 56 Tryz.Uw aq ar ak am rfl (by decide) (ς H d.length G) d.length (d.flatMap sH) rfl o1 ⟨w6.heap.size,0,ν⟩ 1 1 [ι ξ nd.sym,ι ξ nd.prod,ς r nd.ks.length A,ι ξ (nd.fr:Int),ι ξ nd.wd] rfl rfl (bQ (aj.new w6 #[ι ξ nd.sym,ι ξ nd.prod,ς r nd.ks.length A,ι ξ (nd.fr:Int),ι ξ nd.wd] 257)) (by simp[Value.oneCell']) (by unfold maxLen;omega) (by omega) N ?_;intro v7 w7 qo jf _ Eh;obtain⟨ua,uc,rfl,-⟩:=aB qo;have Ij:=wF.grown jf (fun e=>M e.symm);have d4:w7.cell? ⟨B+1,4,ν⟩=ο (ς H d.length G):=Ij.cell 4;have f4:=Ij.frozen 4)
   have Po:=aI (aM w6 _ _) jf;have h8:=H6.out.an1 (y:=(nd,ς r nd.ks.length A)) Po (by rw[ik,cJ];exact qo) (Eh.imp id fun e=>⟨_,e,by rw[eC];omega⟩) ⟨⟨r,A,rfl,HY.out.1⟩,fun g e=>HY.out.2 g e⟩;obtain⟨e1,V,e3,e4,e5,e6,-⟩:=HM.out;refine⟨⟨j+1,by go_num,by omega,Rk.mk1 p row m k,_,_,d++[(nd,ς r nd.ks.length A)],by rw[e1,<-e5];exact h8,by rw[e1,ee,e3];rfl,fun x t=>?_,V,HW.out,by rw[cJ,e6];rfl⟩,by simp[intOf];omega⟩;rcases dq.1 t with t|t
   ·exact e4 x t
   ·rw[dd]at t
    rw[t];exact⟨_,_,rfl⟩
  ·obtain rfl:j=l.length:=by omega
   rw[im]at hW;obtain⟨H,G,Da,-⟩:=aB E.rN;have c4:wr.cell? ⟨B+1,4,ν⟩=ο (ς H d.length G):=by rw[<-Da];exact E.blk.cell 4
   have HE:Hid (wr.ownsRow B 257 5 (ς H d.length G) d.length (d.flatMap sH)/\d.map Prod.fst=Rk.nodes p row l/\(∀x∈d,wM wr x/\∀g,x.2.ownBlock=ο g->g<wr.heap.size)/\φ B W wr):=⟨by rw[<-Da];exact E.rN,by rw[q,hW];rfl,fun x t=>⟨(E.kd x t).1,fun g e=>((E.kd x t).2 g e).1⟩,E.b⟩;clear E hW K q R C Da;go_wp2_with fail;go_ret;exact⟨_,d,rfl,HE.out⟩
end
end
def xQ(n:Rk.Nd):Cm.Nk:=⟨n.sym,n.prod,n.ks,(n.fr:Int),n.wd⟩
theorem aaQ:∀(l:List (Rk.Nd×υ))(i:Nat)(x:Rk.Nd×υ),l[i]?=ο x->∀j u,(sH x)[j]?=ο u->(l.flatMap sH)[i*5+j]?=ο u
 | [],i,x,h,_,_,_=>by simp at h
 |p::l,0,x,h,j,u,hu=>by
  simp only[List.getElem?_cons_zero,Option.some.injEq]at h;subst h;have a:=(cH.1 hu).1;rw[eS,rm,fX,eL a];exact hu
 |p::l,i+1,x,h,j,u,hu=>by
  have:=aaQ l i x (by simpa using h) j u hu;rw[eS,show (i+1)*5+j=i*5+j+5 by omega,eQ (by show 5<=_;omega)];exact this
theorem amw{a:Option Addr}{b:List (Rk.Nd×υ)}(h:W.ownsRow n 257 5 (ς a m c) b.length (b.flatMap sH))(s:∀x∈b,wM W x/\∀g,x.2.ownBlock=ο g->g<W.heap.size):mU W.heap.size W a ((b.map Prod.fst).map xQ):=fun i x l=>by
 rw[dj,dj]at l;cases e:b[i]? with
 |none=>rw[e]at l;cases l
 |some y=>
  rw[e]at l;cases l;have d:=aaQ b i y e;obtain⟨g,u,t,j⟩:=jC h (d 0 _ rfl);obtain⟨⟨r,q,f,p⟩,o⟩:=s y (cM e);cases t;exact⟨g,r,q,rfl,(h.lt g rfl).2,j _ _ (d 0 _ rfl),j _ _ (d 1 _ rfl),by show _=ο (ς r y.1.ks.length q);rw[<-f];exact j _ _ (d 2 _ rfl),j _ _ (d 3 _ rfl),j _ _ (d 4 _ rfl),p,fun k e=>o k (by rw[f,e];rfl)⟩
def LY(W:ω)(b:ByteArray)(row:List Int)(e:Ending)(W':ω):Prop:=φ W.heap.size W W'/\((Pk.ok b=ε/\e=δ (θ #[ς ν 0 0,ι ξ 10,ι ξ 0]))\/(Pk.ok b=η/\(((Rn.run (Pk.pack b) row).1.1≠0/\e=δ (θ #[ς ν 0 0,ι ξ ((Rn.run (Pk.pack b) row).1.1:Int),ι ξ ((Rn.run (Pk.pack b) row).1.2:Int)]))\/((Rn.run (Pk.pack b) row).1.1=0/\∃(vN:υ)(nv:List (Rk.Nd×υ))(B:Nat),e=δ (θ #[vN,ι ξ 0,ι ξ 0])/\W'.ownsRow B 257 5 vN nv.length (nv.flatMap sH)/\nv.map Prod.fst=Rk.nodes (Pk.pack b) row (Rn.run (Pk.pack b) row).2.steps/\∀x∈nv,wM W' x/\∀g,x.2.ownBlock=ο g->g<W'.heap.size))))
theorem agA{V:υ}(Z:kZ W)(S:0<W.heap.size)(o:b.size<=281474976710656)(j:Pk.ok b=η)(Y:pJ (Pk.pack b))(X:qg W V row)(u:row.length<=1048576):χ prog 24 #[τ b,V] W (LY W b row):=by
 obtain⟨F,O,AU,-⟩:=id X;have U:=aaM W Z S b o;have N:χ prog 20 #[τ b] W fun e d=>∃i v,e=δ (θ #[π (ο ⟨i,0,ν⟩),ι ξ 0])/\φ W.heap.size W d/\aQ d W.heap.size i v (Pk.pack b)/\W.heap.size<=i:=U.mono fun e d h=>by
  rcases h with ⟨h,-⟩|⟨-,h⟩
  ·rw[j]at h;cases h
  ·exact h
 obtain⟨p,f⟩:=aF (Pk.pack b);have HP:Hid (LY W b row=fun e C=>φ W.heap.size W C/\(((Rn.run p row).1.1≠0/\e=δ (θ #[ς ν 0 0,ι ξ ((Rn.run p row).1.1:Int),ι ξ ((Rn.run p row).1.2:Int)]))\/((Rn.run p row).1.1=0/\∃(D:υ)(m:List (Rk.Nd×υ))(B:Nat),e=δ (θ #[D,ι ξ 0,ι ξ 0])/\C.ownsRow B 257 5 D m.length (m.flatMap sH)/\m.map Prod.fst=Rk.nodes p row (Rn.run p row).2.steps/\∀x∈m,wM C x/\∀g,x.2.ownBlock=ο g->g<C.heap.size))):=by
  show LY W b row=_;funext e C;unfold LY;rw[f,j];simp
 rw[HP.out];obtain⟨R,M⟩:=aF (Rn.run p row);rw[M];have t:Hid (Rn.run p row=R):=M;clear M;rw[f]at N Y;clear U Z S o j HP f;subst AU;go_enter func24,ntmps24;go_upto_region 4 with (go_at_call 20;refine N.mono ?_;rintro e w1⟨i,v,rfl,k,n,hlp⟩)
 clear N;have y:=X.below k;obtain⟨B,z⟩:=aF w1.heap.size;obtain⟨Q,a⟩:=aC ((w1.alloc (ζ #[ι .i16 0] 153)).alloc (ζ #[π (ο ⟨i,0,ν⟩),ς F row.length O,ι ξ 0,ς (ο ⟨B,0,ν⟩) 1 1,ς ν 0 0] 156));have A:φ B w1 Q:=by rw[a,<-z];exact((cV _ _).alloc (zL0) _).alloc (by simp) _
 have h3:dV w1 B (B+1) i (ς F row.length O) (ς (ο ⟨B,0,ν⟩) 1 1) (ς ν 0 0) Q Rn.s0:=by
  refine⟨?_,⟨rfl,.inr ⟨B,1,#[ι .i16 0],rfl,zL0,?_,zL0,by unfold maxLen;omega,rfl,rfl⟩⟩,eV ..,fun g e=>(by intro e2;cases e2),A,z.symm,nh _⟩
  ·rw[a,<-z]
   have:=aj.new (w1.alloc (ζ #[ι .i16 0] 153)) #[π (ο ⟨i,0,ν⟩),ς F row.length O,ι ξ 0,ς (ο ⟨w1.heap.size,0,ν⟩) 1 1,ς ν 0 0] 156
   rwa [eC]at this
  ·rw[a,<-z]
   exact(aj.new w1 #[ι .i16 0] 153).alloc _
 have c:=ajK h3 (Rn.I0 p row) n Y y u;rw[show Rn.most row+1-Rn.s0.steps.length=Rn.most row+1 from rfl,show Rn.work p row (Rn.most row+1) Rn.s0=Rn.run p row from rfl]at c;rw[t.out]at c;have s:∀d,φ B w1 d->φ W.heap.size W d:=fun d hb=>k.trans (hb.mono (by rw[<-z];exact k.size))
 have T:Hid (∀d,φ B w1 d->φ W.heap.size W d):=s;clear h3 A s t;go_upto_region 5 with fail
 rw[<-a];clear a
 by_cases hR0:R.1.1=0
 ·have b1:((R.1.1:Int) != 0)=ε:=by rw[hR0];rfl
  have b2:(R.1.1:Int)=0:=by omega
  go_upto_region 8 with (go_at_call 49;refine c.mono ?_;rintro e E⟨gu,qV,rfl,h4,r⟩)
  clear c;obtain⟨sa,sc,I,-⟩:=aB h4.rS;have c4:E.cell? ⟨B+1,4,ν⟩=ο (ς sa R.2.steps.length sc):=by rw[<-I];exact h4.blk.cell 4
  have q:=r.st;unfold Rn.most at q;have P:=ahw (l:=R.2.steps) h4.rS (h4.pk n) (h4.rz y) u (by omega) r.sk r.ref;rw[I]at P;have L:=h4.b;have G:=h4.size;clear h4 r I q
  go_wp2_with (go_at_call 50;refine P.mono ?_;rintro e w5⟨D,m,rfl,ho,J,K,H⟩)
  refine iS (Np rfl _ _ _) rfl ?_;exact⟨T.out w5 (L.trans (H.mono G)),.inr ⟨hR0,D,m,_,rfl,ho,J,K⟩⟩
 ·have b1:((R.1.1:Int) != 0)=η:=nj.2 (by omega)
  have b2:¬(R.1.1:Int)=0:=by omega
  go_wp2_with (go_at_call 49;refine c.mono ?_;rintro e E⟨gu,qV,rfl,h4,r⟩)
  refine iS (Np rfl _ _ _) rfl ?_;exact⟨T.out E h4.b,.inl ⟨hR0,rfl⟩⟩
section
open Go.RowKit Go.Shelf
open Tr
structure Bh(n k:Nat)(v v':υ)(l:List υ)(x:υ)(W W2:ω):Prop where
 os:W2.os=W.os
 tape:W2.tape=W.tape
 out:W2.output=W.output
 bL:W.heap.size<=W2.heap.size
 aK:∀j,j<W.heap.size->j≠k->v.ownBlock≠ο j->W2.heap[j]?=W.heap[j]?
 blk:aj W2 k #[v'] 47
 own:W2.ownsRow n 3 1 v' (l.length+1) (l++[x])
 at':v'.ownBlock=v.ownBlock\/v'.ownBlock=ο (W.heap.size+1)
theorem Bh.of{k:Nat}{c:υ}{l:List υ}{x:υ}{W':ω}(i:aj W k #[v] 47)(q:W.ownsRow n 3 1 v l.length l)(d:W'.ownsRow n 3 1 c (l.length+1) (l++[x]))(t:(W.alloc (ζ #[x] 3)).grownBy W' v.ownBlock)(p:c.ownBlock=v.ownBlock\/c.ownBlock=ο (W.alloc (ζ #[x] 3)).heap.size):Bh n k v c l x W (W'.setCell ⟨k,0,ν⟩ c)/\W'.cell? ⟨k,0,ν⟩=ο v/\W'.frozen? ⟨k,0,ν⟩=ε:=by
 have a:=aI (aM W _ _) t;have b:aj W' k #[v] 47:=(a.block k i.lt fun e=>by
  obtain⟨m,f⟩:=bJ q e.symm;unfold aj at i;rw[i]at f;cases f).trans i
 refine⟨⟨a.os,a.tape,a.output,by simpa using a.size,fun j r o s=>(aY _ _ o).trans (a.block j r fun e=>s e.symm),b.set 0 _,ay d fun g e=>aY _ _ fun u=>?_,by simpa using p⟩,b.cell 0,b.frozen 0⟩;obtain⟨m,f⟩:=bJ d e;unfold aj at b;rw[u,b]at f;cases f
structure Db(w:ω)(n rb:Nat)(s:ByteArray)(xs:List (Nat×ByteArray))(f:ByteArray->Int)(i:Nat)(Z:Nat->Prop)(W:ω):Prop where
 b:φ n w W
 kb:aj W n #[π (ο ⟨rb,0,ν⟩)] 36
 kr:aj W (n+1) #[τ ⟨#[]⟩,ι ξ 0,ι ξ 0] 40
 kx:aj W (n+4) #[τ s] 9
 z:∀k,Z k->n+4<k/\k<W.heap.size
 m:∃v5 v6,aj W (n+2) #[v5] 47/\aj W (n+3) #[v6] 47/\W.ownsRow n 3 1 v5 ((xs.take i).map fun x=>dI (f x.2)).length ((xs.take i).map fun x=>dI (f x.2))/\W.ownsRow n 3 1 v6 ((xs.take i).map fun x=>dI (x.1:Int)).length ((xs.take i).map fun x=>dI (x.1:Int))/\(∀g,v5.ownBlock=ο g->¬Z g/\v6.ownBlock≠ο g)/\∀g,v6.ownBlock=ο g->¬Z g
section
variable{w:ω}{n rb:Nat}{s:ByteArray}{xs:List (Nat×ByteArray)}{f:ByteArray -> Int}
theorem Af{k:Nat}{l:List υ}(h:W.ownsRow n 3 1 v m l)(a:aj W k cs t)(d:t≠3):v.ownBlock≠ο k:=fun e=>by
 obtain⟨c,b⟩:=bJ h e;unfold aj at a;rw[a]at b;cases b;exact d rfl
theorem Db.oD:sF (Db w n rb s xs f) where
 own i Z A C row h hg hr:=by
  obtain⟨h1,h2,h3,h4,b,t,r,m1,m2,c,p,d,q⟩:=h;have a:∀k,k<=n+4->k<A.heap.size->C.heap[k]?=A.heap[k]?:=fun k a x=>hg.block k x fun e=>by have:=(b k (hr k e.symm)).1;omega
  refine⟨h1.grown hg (by have:=h2.lt;omega) fun k e=>by have:=(b k (hr k e)).1;omega,(a _ (by omega) h2.lt).trans h2,(a _ (by omega) h3.lt).trans h3,(a _ (by omega) h4.lt).trans h4,fun k a=>⟨(b k a).1,dg (b k a).2 hg.size⟩,t,r,(a _ (by omega) m1.lt).trans m1,(a _ (by omega) m2.lt).trans m2,ay c fun g e=>hg.block g (c.lt g e).2 fun u=>(d g e).1 (hr g u.symm),ay p fun g e=>hg.block g (p.lt g e).2 fun u=>q g e (hr g u.symm),d,q⟩
 new i Z A o h:=by
  obtain⟨h1,h2,h3,h4,b,t,r,m1,m2,c,p,d,q⟩:=h;have x:=h2.lt;have j:∀{v m l},A.ownsRow n 3 1 v m l->(∀g,v.ownBlock=ο g->¬Z g)->∀g,v.ownBlock=ο g->¬(Z g\/g=A.heap.size):=fun y z g e h=>by
   rcases h with h|rfl
   ·exact z g e h
   ·have:=(y.lt _ e).2
    omega
  refine⟨h1.alloc (by omega) o,h2.alloc o,h3.alloc o,h4.alloc o,fun k a=>?_,t,r,m1.alloc o,m2.alloc o,c.alloc o,p.alloc o,fun g e=>⟨j c (fun g e=>(d g e).1) g e,(d g e).2⟩,j p q⟩;rw[eC];rcases a with a|rfl
  ·have:=b k a
   omega
  ·have:=h4.lt
   omega
theorem Db.step{Z:Nat->Prop}{W1 W2:ω}{z m yI Dc:υ}{x:Nat×ByteArray}(h1:φ n w W)(h2:aj W n #[π (ο ⟨rb,0,ν⟩)] 36)(h3:aj W (n+1) #[τ ⟨#[]⟩,ι ξ 0,ι ξ 0] 40)(h4:aj W (n+4) #[τ s] 9)(u:∀k,Z k->n+4<k/\k<W.heap.size)(m1:aj W (n+2) #[z] 47)(m2:aj W (n+3) #[m] 47)(A:W.ownsRow n 3 1 z ((xs.take i).map fun x=>dI (f x.2)).length ((xs.take i).map fun x=>dI (f x.2)))(y:W.ownsRow n 3 1 m ((xs.take i).map fun x=>dI (x.1:Int)).length ((xs.take i).map fun x=>dI (x.1:Int)))(v:∀g,z.ownBlock=ο g->¬Z g/\m.ownBlock≠ο g)(F:∀g,m.ownBlock=ο g->¬Z g)(K:xs[i]?=ο x)(b:Bh n (n+2) z yI ((xs.take i).map fun x=>dI (f x.2)) (ι ξ (f x.2)) W W1)(c:Bh n (n+3) m Dc ((xs.take i).map fun x=>dI (x.1:Int)) (ι ξ (x.1:Int)) W1 W2)(a:Act):tq Z (Db w n rb s xs f (i+1) Z) W .normal a W2:=by
 have I:aj W1 (n+3) #[m] 47:=(b.aK _ m2.lt (by omega) (Af A m2 (by decide))).trans m2;have D:=ay y fun g e=>b.aK g (y.lt g e).2 (fun d=>Af y m1 (by decide) (d▸e)) (fun d=>(v g d).2 e)
 have l:∀j C t,aj W j C t->j≠n+2->j≠n+3->t≠3->aj W2 j C t:=fun j C t r a1 a2 a3=>by
  have h1:aj W1 j C t:=(b.aK j r.lt a1 (Af A r a3)).trans r;exact(c.aK j h1.lt a2 (Af D h1 a3)).trans h1
 have o:∀j,Z j->W2.heap[j]?=W.heap[j]?:=fun j r=>by
  have:=u j r;exact(c.aK j (dg this.2 b.bL) (by omega) (fun e=>F j e r)).trans (b.aK j this.2 (by omega) (fun e=>(v j e).1 r))
 have G:xs.take (i+1)=xs.take i++[x]:=by rw[ki,K];rfl
 have p:∀g,yI.ownBlock=ο g->z.ownBlock=ο g\/g=W.heap.size+1:=fun g e=>by
  rcases b.at' with h|h
  ·exact .inl (h▸e)
  ·rw[h]at e;cases e;exact .inr rfl
 have q:∀g,Dc.ownBlock=ο g->m.ownBlock=ο g\/g=W1.heap.size+1:=fun g e=>by
  rcases c.at' with h|h
  ·exact .inl (h▸e)
  ·rw[h]at e;cases e;exact .inr rfl
 have J:W2.ownsRow n 3 1 yI (((xs.take i).map fun x=>dI (f x.2)).length+1) (((xs.take i).map fun x=>dI (f x.2))++[ι ξ (f x.2)]):=ay b.own fun g e=>c.aK g (b.own.lt g e).2 (fun d=>Af b.own I (by decide) (d▸e)) (fun d=>by
  rcases p g e with h|rfl
  ·exact(v g h).2 d
  ·have:=(y.lt _ d).2
   omega)
 have s1:=b.bL;have s2:=c.bL;have H:aj W2 (n+2) #[yI] 47:=(c.aK _ b.blk.lt (by omega) (Af D b.blk (by decide))).trans b.blk;refine⟨⟨⟨c.os.trans (b.os.trans h1.os),c.tape.trans (b.tape.trans h1.tape),c.out.trans (b.out.trans h1.output),cY h1.size (cY s1 s2),fun k E=>?_⟩,l _ _ _ h2 (by omega) (by omega) (by decide),l _ _ _ h3 (by omega) (by omega) (by decide),l _ _ _ h4 (by omega) (by omega) (by decide),fun k l=>⟨(u k l).1,by have:=(u k l).2;omega⟩,yI,Dc,H,c.blk,by rw[G,ee,cJ];exact J,by rw[G,ee,cJ];exact c.own,fun g e=>⟨fun o=>?_,fun d=>?_⟩,fun g e o=>?_⟩,fun k l _=>o k l⟩
 ·have L:=h2.lt
  exact((c.aK k (by omega) (by omega) (fun e=>by have:=(D.lt _ e).1;omega)).trans (b.aK k (by omega) (by omega) (fun e=>by have:=(A.lt _ e).1;omega))).trans (h1.block k E)
 ·rcases p g e with h | rfl
  ·exact(v g h).1 o
  ·have:=(u _ o).2
   omega
 ·rcases p g e with h | rfl
  ·rcases q g d with B | rfl
   ·exact(v g h).2 B
   ·have:=(A.lt _ h).2
    omega
  ·rcases q _ d with B | B
   ·have:=(y.lt _ B).2
    omega
   ·have:=(b.own.lt _ e).2
    omega
 ·rcases q g e with h | rfl
  ·exact F g h o
  ·have:=(u _ o).2
   omega
end
end
section
open Go.RowKit Go.Shelf
open Tr
attribute [local go_sem] my
def RdE(w:ω)(s:ByteArray)(xs:List (Nat×ByteArray))(K:(Nat×Nat)×Rn.S)(T:List UInt8)(e:Ending)(w':ω):Prop:=φ w.heap.size w w'/\((K.1.1=0/\e=δ (γ #[τ ⟨T.toArray⟩,ι ξ 0,ι ξ 0]))\/(K.1.1=11/\∃q:Nat,(xs.map Prod.fst++[s.size])[K.1.2]?=ο q/\e=δ (γ #[τ ⟨#[]⟩,ι ξ 11,ι ξ (q:Int)])))
def En(p:Pk.T)(ns:List Cm.Nk)(T:List UInt8):Prop:=∀(w:ω)(rb pb B' nc:Nat)(na:Option Addr)(b:ByteArray)(mv:υ)(v:cu),qp w rb pb b mv B' v p->mU w.heap.size w na ns->χ prog 25 #[π (ο ⟨rb,0,ν⟩),ς na ns.length nc] w fun e w'=>e=δ (τ ⟨T.toArray⟩)/\φ w.heap.size w w'
theorem acM{P:Program}{fn:Func}{p:Tmp}{ty:TypeId}{R:Ending->ω->Prop}(h:fn.results=#[.cell p ty]){tmps:Array υ}{D g:Nat}(hp:tmps.getD p undef=.pointer (ο ⟨g,0,ν⟩))(f:aj W g cs t)(a:isStr P ty=η)(i:(P.info? ty).map (·.size)=ο cs.size)(j:W.heap[D]?=ο (.deferred (ο [])))(b:g≠D)(d:∀o,R (.returned (.agg cs)) (W.putObj D o)):bodyPostM Fence.wide 9 P fn R .ret { tmps,defers:=[{ target:=.collected D,args:=#[] }] } W:=by
 obtain⟨c,a⟩:∃c,P.underlying ty=ο (.struct c):=by
  unfold isStr at a
  split at a
  ·exact⟨_,by assumption⟩
  ·cases a
 refine⟨by simp,.inl ⟨_,_,rfl,run_takeDeferred j,?_⟩⟩;exact⟨_,results_cell_row h tmps _ g t cs (0,0) _ hp ((World.putObj_heap_other b).trans f) a rfl i,d _⟩
theorem qg.an2(h:W.ownsRow n 3 1 v l.length (l.map dI)):qg W v l:=by
 have d:∃a c,v=ς a l.length c/\l.length<=c:=by
  rcases h.2 with ⟨rfl,i⟩|⟨g,b,j,rfl,-,-,d,-⟩
  ·exact⟨ν,0,by rw[i],Nat.le_of_eq i⟩
  ·exact⟨_,b,rfl,d⟩
 obtain⟨a,c,rfl,d⟩:=d;refine⟨a,c,rfl,d,fun t m=>?_⟩;have e:(l.map dI)[t]?=ο (ι ξ l[t]):=by rw[dj,cG m];rfl
 obtain⟨g,b,k,f⟩:=jC h e;cases k;exact⟨g,0,rfl,(h.lt g rfl).2,by rw[fX];exact f _ _ e⟩
theorem aiK{rb pb mb B':Nat}{v:cu}{p:Pk.T}{T:List UInt8}(hp:Pk.pack b=p)(ac:Pk.ok b=η)(hG:pJ p)(hS:kZ w)(h0:0<w.heap.size)(aP:b.size<=281474976710656)(X:qp w rb pb b (.map (ο mb)) B' v p)(hM:SMap w mb f)(hs:s.size<=100000)(hf:∀x∈Cm.dm s,f x.2≠0)(hl:(Cm.dm s).length<=100000)(hK:((Rn.run p ((Cm.dm s).map fun x=>f x.2)).1.1=0/\En p ((Rk.nodes p ((Cm.dm s).map fun x=>f x.2) (Rn.run p ((Cm.dm s).map fun x=>f x.2)).2.steps).map xQ) T)\/((Rn.run p ((Cm.dm s).map fun x=>f x.2)).1.1=11/\(Rn.run p ((Cm.dm s).map fun x=>f x.2)).1.2<=(Cm.dm s).length)):χ prog 11 #[π (ο ⟨rb,0,ν⟩),τ s] w (RdE w s (Cm.dm s) (Rn.run p ((Cm.dm s).map fun x=>f x.2)) T):=by
 obtain⟨i0,an,ad,al,ai⟩:=ft Tryz.info3;have G:=aiB (bt:=w.heap.size+4) (s:=s) (by omega);generalize hxs:Cm.dm s=xs at *;obtain⟨row,ah⟩:=aF ((xs.map fun x=>f x.2));rw[ah]at hK|-;obtain⟨K,Xd⟩:=aF (Rn.run p row);rw[Xd]at hK|-;obtain⟨ns,am⟩:=aF ((Rk.nodes p row K.2.steps).map xQ);rw[am]at hK;have HN:Hid ((xs.map fun x=>f x.2)=row/\Rn.run p row=K/\(Rk.nodes p row K.2.steps).map xQ=ns):=⟨ah,Xd,am⟩;have HK:Hid _:=hK;clear ah Xd am hK;obtain⟨n,V⟩:=aF w.heap.size;obtain⟨w2,H⟩:=aC ((w.alloc (ζ #[π (ο ⟨rb,0,ν⟩)] 36)).alloc (ζ #[τ ⟨#[]⟩,ι ξ 0,ι ξ 0] 40));obtain⟨w4,z⟩:=aC ((w2.alloc (ζ #[ς ν 0 0] 47)).alloc (ζ #[ς ν 0 0] 47));obtain⟨w5,Y⟩:=aC (w4.alloc (ζ #[τ s] 9));have s2:w2.heap.size=n+2:=by rw[H];simp[V]
 have s4:w4.heap.size=n+4:=by rw[z];simp[s2]
 have ae:Db w n rb s xs f 0 (fun _=>False) w5:=by
  have b2:φ n w w2:=by rw[H,<-V];exact((cV _ _).alloc (zL0) _).alloc (by simp) _
  have b4:φ n w w4:=by rw[z];exact(b2.alloc (by omega) _).alloc (by simp;omega) _
  have b5:φ n w w5:=by rw[Y];exact b4.alloc (by omega) _
  have k0:aj w2 n #[π (ο ⟨rb,0,ν⟩)] 36:=by rw[H,<-V];exact(aj.new w _ 36).alloc _
  have R:aj w2 (n+1) #[τ ⟨#[]⟩,ι ξ 0,ι ξ 0] 40:=by
   rw[H];have:=aj.new (w.alloc (ζ #[π (ο ⟨rb,0,ν⟩)] 36)) #[τ ⟨#[]⟩,ι ξ 0,ι ξ 0] 40
   rwa [eC,V]at this
  have k2:aj w4 (n+2) #[ς ν 0 0] 47:=by rw[z,<-s2];exact(aj.new w2 _ 47).alloc _
  have k3:aj w4 (n+3) #[ς ν 0 0] 47:=by
   rw[z];have:=aj.new (w2.alloc (ζ #[ς ν 0 0] 47)) #[ς ν 0 0] 47
   rwa [eC,s2]at this
  have u4:∀k cs t,aj w2 k cs t->aj w5 k cs t:=fun k cs t h=>by rw[Y,z];exact((h.alloc _).alloc _).alloc _
  exact⟨b5,u4 _ _ _ k0,u4 _ _ _ R,by rw[Y,<-s4];exact aj.new ..,fun k hk=>hk.elim,_,_,by rw[Y];exact k2.alloc _,by rw[Y];exact k3.alloc _,eV _ _ _ _,eV _ _ _ _,(fun g e=>by cases e),(fun g e=>by cases e)⟩
 have Ik:=ahq (w:=w4) (s:=s);rw[s4,<-Y]at Ik;rw[V]at G;have HH:Hid (kZ w/\qp w rb pb b (.map (ο mb)) B' v p/\SMap w mb f):=⟨hS,X,hM⟩;have HL:Hid (∀W,φ n w W->W.cell? ⟨rb,3,ν⟩=ο (.map (ο mb))/\∀x∈xs,(Instr.lookup 69 (.map (ο mb)) (τ x.2) η).run prog W=.ok (θ #[ι ξ (f x.2),μ η]) W):=fun W l=>by
  rw[<-V]at l;exact⟨(X.move l).blk.cell 3,fun x hx=>SMap.hit (bZ.move hM (l.block mb (bZ.lt hM))) (hf x hx)⟩
 clear X hM hS hf hxs;refine gh.1 (callsIn_of_wp_marks (F:=Fence.wide) (n:=9) func11 rfl trivial ?_ rfl);simp only[ntmps11,List.size_toArray,List.length_cons,List.length_nil,Nat.reduceAdd,Nat.reduceSub,Array.replicate_succ,Array.replicate_zero,List.push_toArray,List.append_toArray,List.nil_append,List.cons_append]
 gi_upto_region 1 with fail
 rw[<-H];clear H
 gi_upto_region 2 with fail
 rw[<-z];clear z
 gi_wp2_with (refine⟨trivial,?_⟩;gi_at_call 23;refine(gh.2 Ik).mono ?_;rintro e w'⟨rfl,rfl⟩)
 rw[<-Y,show n+2+1=n+3 from rfl];clear Y Ik s4 s2;refine BF (gf:=47) (lb:=#[π (ο ⟨n+4,0,ν⟩)]) rfl (enters_of func47 (by kernel_rfl) rfl) G (fun _=>rfl) (Db w n rb s xs f) Db.oD (fun i Z W h=>h.kx) ae
  (fun x a' W=>a'={ tmps:=#[π (ο ⟨rb,0,ν⟩),τ s,π (ο ⟨n,0,ν⟩),undef,π (ο ⟨n+1,0,ν⟩),π (ο ⟨n+2,0,ν⟩),π (ο ⟨n+3,0,ν⟩),ι ξ (x.1:Int),τ x.2,undef,undef,undef,undef,undef,τ s,.func (.func 47) #[] #[π (ο ⟨n+4,0,ν⟩)],ι ξ (x.1:Int),τ x.2,undef,undef,undef,undef,undef,undef,undef,undef,undef,undef,undef,undef,undef,undef,undef,undef,undef,undef,undef,undef,undef,undef,undef,undef,undef,undef,undef,undef,undef,undef,undef,undef,undef,undef,undef,undef,undef,undef,undef,undef,undef,undef,undef,undef,undef,undef,undef,undef,undef,undef,undef,undef,undef],defers:=[] }) ?hAx ?assign ?body ?done
 case hAx=>exact fun _ _ _ _ h=>h
 case assign=>
  rintro l' i x Z W K hsz hi hK;simp only[Pg]
  gi_wp2
  exact hK _ _ (zL0) (fun _ _ _=>rfl) hi rfl
 case body=>
  rintro l' i x Z a' W hx⟨h1,h2,h3,h4,h5,v5,v6,m1,m2,I,E,m5,m6⟩rfl;obtain⟨va,vc,ag,-⟩:=aB I;obtain⟨xa,xc,N,-⟩:=aB E;subst ag N;obtain⟨c3,ap⟩:=HL.out W h1;have ap:=ap x (cM hx);have bg:=(cH.1 hx).1;have bb:((xs.take i).map fun x=>dI (f x.2)).length<=100000:=by rw[dk,fR];omega
  have aV:((xs.take i).map fun x=>dI (x.1:Int)).length<=100000:=by rw[dk,fR];omega
  have HF:=fun W1 W2 yI Dc j hQ(a:Act)=>Db.step (yI:=yI) (Dc:=Dc) (W1:=W1) (W2:=W2) h1 h2 h3 h4 h5 m1 m2 I E m5 m6 hx j hQ a
  have H6:Hid (∀W1 yI,Bh n (n+2) (ς va ((xs.take i).map fun x=>dI (f x.2)).length vc) yI ((xs.take i).map fun x=>dI (f x.2)) (ι ξ (f x.2)) W W1->aj W1 (n+3) #[ς xa ((xs.take i).map fun x=>dI (x.1:Int)).length xc] 47/\W1.ownsRow n 3 1 (ς xa ((xs.take i).map fun x=>dI (x.1:Int)).length xc) ((xs.take i).map fun x=>dI (x.1:Int)).length ((xs.take i).map fun x=>dI (x.1:Int))):=fun W1 yI j=>⟨(j.aK _ m2.lt (by omega) (Af I m2 (by decide))).trans m2,ay E fun g e=>j.aK g (E.lt g e).2 (fun e2=>Af E m1 (by decide) (e2▸e)) (fun e2=>(m5 g e2).2 e)⟩
  have c0:=h2.a0;have c5:=m1.a0;have hsz:=lA h2.lt;clear h1 h2 h3 h4 h5 m2 E m5 m6 ae G HK HN;generalize hL5:((xs.take i).map fun x=>dI (f x.2))=L5 at *;generalize hL6:((xs.take i).map fun x=>dI (x.1:Int))=L6 at *;clear hL5 hL6;generalize f x.2=y at *
  gi_upto_region 8 with fail
  gi_upto_region 9 with (gi_at_builtin;refine qS _ rfl _ _ 47 rfl n 3 i0 _ 1 8 Tryz.DV an ad al ai rfl (by decide) (ς va L5.length vc) _ _ rfl (I.alloc _) ⟨_,0,ν⟩ 1 1 [ι ξ y] rfl rfl (bQ (aj.new _ _ 3)) (by simp[Value.oneCell']) (by unfold maxLen;omega) (by omega) (by simp;omega) ?_;intro v7 w7 rM ze _ rY;obtain⟨ao,Xe,ak,-⟩:=aB rM;subst ak;obtain⟨j,c7,f7⟩:=Bh.of m1 I rM ze rY)
  obtain⟨k6,o6⟩:=H6.out _ _ j;have c6:=k6.cell 0;have bd:=cY hsz j.bL;have wu:=fun W2 Dc hQ a=>HF _ W2 _ Dc j hQ a
  clear HF H6 j rM ze rY m1 I c7 f7 c0 c5;generalize w7.setCell ⟨n+2,0,ν⟩ (ς ao (L5.length+1) Xe)=W1 at *;simp only[List.getElem?_toArray,List.getElem?_cons_zero]at c6
  gi_wp2_with (gi_at_builtin;refine qS _ rfl _ _ 47 rfl n 3 i0 _ 1 8 Tryz.DV an ad al ai rfl (by decide) (ς xa L6.length xc) _ _ rfl (o6.alloc _) ⟨_,0,ν⟩ 1 1 [ι ξ (x.1:Int)] rfl rfl (bQ (aj.new _ _ 3)) (by simp[Value.oneCell']) (by unfold maxLen;omega) (by omega) (by simp;omega) ?_;intro v9 M jE iC _ iY;obtain⟨bf,ba,LV,-⟩:=aB jE;subst LV;obtain⟨hQ,c9,f9⟩:=Bh.of k6 o6 jE iC iY)
  exact wu _ _ hQ _
 case done=>
  rintro D Z W hD oF⟨h1,h2,h3,h4,h5,v5,v6,m1,m2,I,E,m5,m6⟩EZ;rw[ff,dk]at I E;obtain⟨va,vc,ag,-⟩:=aB I;obtain⟨xa,xc,N,-⟩:=aB E;subst ag N;have Q:φ w.heap.size w W:=by rw[V];exact h1
  have X:=HH.out.2.1.move Q;have aa:=qg.an2 (by rw[pj,dk];exact I);have HQ:Hid (∀Wd,φ W.heap.size W Wd->χ prog 24 #[τ b,ς va xs.length vc] Wd fun e P=>∃(A:υ)(m r:Nat),e=δ (θ #[A,ι ξ (m:Int),ι ξ (r:Int)])/\Hid (φ W.heap.size W P/\((K.1.1=0/\m=0/\r=0/\∃U nc,A=ς U ns.length nc/\mU P.heap.size P U ns)\/(K.1.1=11/\A=ς ν 0 0/\m=11/\r=K.1.2)))):=fun Wd hd=>by
   have ar:=Q.trans (hd.mono Q.size);have ab:=agA (W:=Wd) (b:=b) (HH.out.1.move (ar.block 0 h0)) (dg h0 ar.size) aP ac (by rw[hp];exact hG) (aa.below hd) (by rw[dk];omega);unfold LY at ab;obtain⟨e1,e2,e3⟩:=HN.out;rw[hp,e1,e2]at ab;refine ab.mono fun e P hE=>?_
   obtain⟨L,hE⟩:=hE;have av:=hd.trans (L.mono hd.size);rcases hE with ⟨h,-⟩|⟨-,⟨h,rfl⟩|⟨h,vN,nv,B,rfl,ho,yE,a9⟩⟩
   ·rw[ac]at h;cases h
   ·rcases HK.out with ⟨h',-⟩ | ⟨h',-⟩
    ·exact absurd h' h
    ·exact⟨_,K.1.1,_,rfl,av,.inr ⟨h',rfl,h',rfl⟩⟩
   ·obtain⟨U,nc,Da,-⟩:=aB ho
    subst Da;have O:=amw ho a9;rw[yE,e3]at O;have aR:ns.length=nv.length:=by rw[<-e3,dk,<-yE,dk]
    exact⟨_,0,0,rfl,av,.inl ⟨h,rfl,rfl,U,nc,by rw[aR],O⟩⟩
  clear aa Q G ae HL hp ac hG HN;have c0:=h2.a0;have c5:=m1.a0;have r0:=X.blk.a0
  gi_upto_region 10 with fail
  gi_cut [11,12,13] from 71 (fun A aH ax wx=>∃m r:Nat,aH=ι ξ (m:Int)/\ax=ι ξ (r:Int)/\Hid (φ W.heap.size W wx/\((K.1.1=0/\m=0/\r=0/\∃U nc,A=ς U ns.length nc/\mU wx.heap.size wx U ns)\/(K.1.1=11/\A=ς ν 0 0/\m=11/\r=K.1.2))))
  case first=>
   rename_i J K' hJ aE;clear h1 h2 h3 h4 h5 m1 m2 I E m5 m6 X HH HK EZ;refine kV 5 (by kernel_rfl) (by kernel_rfl) (by kernel_rfl) ?_
   dsimp only[List.take,List.drop,List.length]
   repeat (gi_big_quiet_step (fail))
   refine wpQuietIn_nil ?_;rintro _⟨nq,rfl⟩;have q:=HQ.out (W.drewN nq) ⟨rfl,rfl,rfl,zL0,fun _ _=>rfl⟩;refine wpAnyIn_ready (rs:=[5]) (by kernel_rfl) (by simp) (AllReadyIn.cons rfl (fun d c=>?_) AllReadyIn.nil)
   go_simp
   refine⟨trivial,(gh.2 q).mono ?_⟩;rintro e P⟨A,m,r,rfl,h8⟩;refine c _ _ ?_;clear c d q
   repeat' (first
    | (refine wpAnyIn_done (by decide +kernel) ?_ _;refine aE _ _ (Met.intro (hJ _ _ ?_));(repeat apply B6);refine⟨⟨_,_,rfl,rfl,h8⟩,rfl⟩)
    | ((first
      | refine Gm 7 8 9 (by decide +kernel) rfl rfl rfl (fun d c=>?_) (fun d c=>?_) (fun d c=>?_)
      | refine Gm 8 9 10 (by decide +kernel) rfl rfl rfl (fun d c=>?_) (fun d c=>?_) (fun d c=>?_)
      | refine jQ 7 8 (by decide +kernel) rfl rfl (fun d c=>?_) (fun d c=>?_)
      | refine jQ 7 9 (by decide +kernel) rfl rfl (fun d c=>?_) (fun d c=>?_)
      | refine jQ 8 9 (by decide +kernel) rfl rfl (fun d c=>?_) (fun d c=>?_)
      | refine jQ 8 10 (by decide +kernel) rfl rfl (fun d c=>?_) (fun d c=>?_)
      | refine jQ 9 10 (by decide +kernel) rfl rfl (fun d c=>?_) (fun d c=>?_)
      | refine jQ 9 11 (by decide +kernel) rfl rfl (fun d c=>?_) (fun d c=>?_)
      | refine iW 6 (by decide +kernel) rfl (fun d c=>?_)
      | refine iW 7 (by decide +kernel) rfl (fun d c=>?_)
      | refine iW 8 (by decide +kernel) rfl (fun d c=>?_)
      | refine iW 9 (by decide +kernel) rfl (fun d c=>?_)
      | refine iW 10 (by decide +kernel) rfl (fun d c=>?_)
      | refine iW 11 (by decide +kernel) rfl (fun d c=>?_)
      | refine iW 12 (by decide +kernel) rfl (fun d c=>?_)) <;> (go_simp;refine c _ _ ?_;clear c d)))
  case rest=>
   revert wc;intro P aw;obtain⟨m,r,az,aA,H8⟩:=aw;subst az aA;obtain⟨L,hE⟩:=H8.out;have af:=(ei.1 EZ).1;have Pp:=(L.block D af).trans EZ;have R:=h3.on L;have k0:=h2.on L;have aX:=(h5 D oF).1;have u:=h1.trans (L.mono (by have:=h2.lt;omega));rcases hE with ⟨L8,rfl,rfl,U,nc,rfl,O⟩|⟨aq,rfl,rfl,rfl⟩
   ·have hT:En p ns T:=by
     rcases HK.out with ⟨-,h⟩|⟨h,-⟩
     ·exact h
     ·omega
    have Qu:=hT P rb pb B' nc U b (.map (ο mb)) v (X.move L) O;have c2:=k0.a0;have HZ:Hid (∀M,φ P.heap.size P M->aj M (n+1) #[τ ⟨#[]⟩,ι ξ 0,ι ξ 0] 40/\M.heap[D]?=ο (.deferred (ο []))/\φ n w M):=fun M l=>⟨(l.block _ R.lt).trans R,(l.block D (dg af L.size)).trans Pp,u.trans (l.mono (by have:=k0.lt;omega))⟩
    have HP:Hid _:=L8;clear h1 h2 h3 h4 h5 m1 m2 I E m5 m6 X HH HK EZ Pp O hT L H8 HQ c0 c5 r0 k0 R u L8
    gi_upto_region 13 with fail
    gi_wp2_with (refine⟨trivial,?_⟩;gi_at_call 25;refine(gh.2 Qu).mono ?_;rintro e M⟨rfl,Df⟩;obtain⟨C,Qv,Vm⟩:=HZ.out M Df;have d0:M.cell? ⟨n+1,0,ν⟩=ο (τ ⟨#[]⟩):=C.cell 0;have d1:M.cell? ⟨n+1,1,ν⟩=ο (ι ξ 0):=C.cell 1;have d2:M.cell? ⟨n+1,2,ν⟩=ο (ι ξ 0):=C.cell 2;have f0:=C.frozen 0;have f1:=C.frozen 1;have f2:=C.frozen 2)
    refine acM (g:=n+1) rfl rfl (((C.set 0 _).set 1 _).set 2 _) (by kernel_rfl) (by kernel_rfl) ?_ (by omega) fun o=>?_
    ·rw[aY _ _ (by omega),aY _ _ (by omega),aY _ _ (by omega)]
     exact Qv
    ·refine⟨?_,.inl ⟨HP.out,rfl⟩⟩
     rw[V];have l:=((Vm.setCell (p:=⟨n+1,0,ν⟩) (nh n) (τ ⟨T.toArray⟩)).setCell (p:=⟨n+1,1,ν⟩) (nh n) (ι ξ 0)).setCell (p:=⟨n+1,2,ν⟩) (nh n) (ι ξ 0);exact⟨l.os,l.tape,l.output,by simpa [World.putObj]using l.size,fun k hk=>(World.putObj_heap_other (by omega)).trans (l.block k hk)⟩
   ·have hj:K.1.2<=xs.length:=by
     rcases HK.out with ⟨h,-⟩|⟨-,h⟩
     ·omega
     ·exact h
    obtain⟨q,hq⟩:∃q,(xs.map Prod.fst++[s.size])[K.1.2]?=ο q:=⟨_,cG (by rw[cJ,dk,gw];omega)⟩;have k6:=m2.on L;have o6:=ay E fun g e=>L.block g (E.lt g e).2
    have Qw:Hid ((xs.map Prod.fst++[s.size])[K.1.2]?=ο q/\K.1.1=11/\((xs.map fun x=>dI (x.1:Int))++[ι ξ (s.size:Int)])[K.1.2]?=ο (ι ξ (q:Int))):=⟨hq,aq,by
     have:((xs.map fun x=>dI (x.1:Int))++[ι ξ (s.size:Int)])=(xs.map Prod.fst++[s.size]).map fun(q:Nat)=>ι ξ (q:Int):=by rw[ee,pj];rfl
     rw[this,dj,hq];rfl⟩
    have bc:n<=P.heap.size:=by have:=u.size;omega
    have c6:=k6.a0;have HZ:Hid (∀v7 W1,Bh n (n+3) (ς xa xs.length xc) v7 (xs.map fun x=>dI (x.1:Int)) (ι ξ (s.size:Int)) P W1->(∃g S,v7=ς (ο ⟨g,0,ν⟩) (xs.length+1) S/\W1.cell? ⟨g,K.1.2,ν⟩=ο (ι ξ (q:Int)))/\W1.cell? ⟨n+3,0,ν⟩=ο v7/\aj W1 (n+1) #[τ ⟨#[]⟩,ι ξ 0,ι ξ 0] 40/\W1.heap[D]?=ο (.deferred (ο []))/\φ n w W1):=fun v7 W1 j=>by
     have ho:=j.own;rw[dk]at ho;obtain⟨g,S,e,hc⟩:=jC ho Qw.out.2.2;have N:=m6;refine⟨⟨g,S,e,hc _ _ Qw.out.2.2⟩,j.blk.cell 0,(j.aK _ R.lt (by omega) (Af o6 R (by decide))).trans R,(j.aK D (dg af L.size) (by omega) (fun e=>N D e oF)).trans Pp,?_⟩;exact⟨j.os.trans u.os,j.tape.trans u.tape,j.out.trans u.output,cY u.size j.bL,fun k hk=>(j.aK k (by omega) (by omega) (fun e=>by have:=(o6.lt k e).1;omega)).trans (u.block k hk)⟩
    have j0:(0:Int)<=(K.1.2:Int):=by omega
    have j1:(K.1.2:Int)<((xs.length+1:Nat):Int):=by omega
    have j2:K.1.2<xs.length+1:=by omega
    clear h1 h2 h3 h4 h5 m1 m2 I E m5 m6 X HH HK EZ Pp L H8 HQ c0 c5 r0 k0 R u aq hq;generalize hjj:K.1.2=jj at *
    gi_upto_region 15 with fail
    gi_upto_region 16 with (gi_at_builtin;refine qS _ rfl _ _ 47 rfl n 3 i0 _ 1 8 Tryz.DV an ad al ai rfl (by decide) (ς xa xs.length xc) _ _ rfl (o6.alloc _) ⟨_,0,ν⟩ 1 1 [ι ξ (s.size:Int)] rfl rfl (bQ (aj.new _ _ 3)) (by simp[Value.oneCell']) (by unfold maxLen;omega) (by omega) (by simp;omega) ?_;intro v7 w7 rM ze _ rY;obtain⟨ao,Xe,ak,-⟩:=aB rM;subst ak;obtain⟨j,c7,f7⟩:=Bh.of k6 (by rw[dk];exact o6) (by rw[dk];exact rM) ze rY)
    obtain⟨⟨g,S,ev,cg⟩,c3,C,Qv,Vm⟩:=HZ.out _ _ j;cases ev;clear HZ j rM ze rY c7 f7 c6 o6 k6;generalize w7.setCell ⟨n+3,0,ν⟩ (ς (ο ⟨g,0,ν⟩) (xs.length+1) Xe)=M at *;have d0:=C.a0;have d1:=C.a1;have d2:=C.a2;have f0:=C.frozen 0;have f1:=C.frozen 1;have f2:=C.frozen 2
    gi_wp2
    refine acM (g:=n+1) rfl rfl (((C.set 0 _).set 1 _).set 2 _) (by kernel_rfl) (by kernel_rfl) ?_ (by omega) fun o=>?_
    ·rw[aY _ _ (by omega),aY _ _ (by omega),aY _ _ (by omega)]
     exact Qv
    ·refine⟨?_,.inr ⟨Qw.out.2.1,q,by rw[hjj];exact Qw.out.1,rfl⟩⟩
     rw[V];have l:=((Vm.setCell (p:=⟨n+1,0,ν⟩) (nh n) (τ ⟨#[]⟩)).setCell (p:=⟨n+1,1,ν⟩) (nh n) (ι ξ 11)).setCell (p:=⟨n+1,2,ν⟩) (nh n) (ι ξ (q:Int));exact⟨l.os,l.tape,l.output,by simpa [World.putObj]using l.size,fun k hk=>(World.putObj_heap_other (by omega)).trans (l.block k hk)⟩
end
namespace Cm
def cN(h:Nk->Bool)(l:List Nk)(i:Nat):Nat:=lD h (l.take i) 0
theorem Oc{h:Nk->Bool}{l:List Nk}{n:Nk}(a:l[i]?=ο n):cN h l (i+1)=if h n=η then cN h l i else cN h l i+1:=by
  unfold cN;rw[show l.take (i+1)=l.take i++[n] by rw[ki,a];rfl];exact(NN h n _ 0).2
theorem abM{h:Nk->Bool}{l:List Nk}{i:Nat}:∀{j:Nat},i<=j->j<=l.length->cN h l i<=cN h l j
  |0,hi,_=>by
   obtain rfl:i=0:=by omega
   exact zL0
  |j+1,hi,hj=>by
    by_cases e:i=j+1
    · rw[e];exact zL0
    · have:=abM (h:=h) (l:=l) (i:=i) (j:=j) (by omega) (by omega)
      rw[Oc (cG (show j<l.length by omega))]
      split <;> omega
theorem SQ(h:Nk->Bool):∀(l:List Nk)(k i:Nat)(n:Nk),l[i]?=ο n->(fP h l k)[i]?=ο (if h n=η then -1 else (lD h (l.take i) k:Int))
  | [],_,i,n,e=>by simp at e
  |m::l,k,0,n,e=>by
    cases e;rw[fP]
    by_cases hm:h m=η <;> simp[hm,lD]
  |m::l,k,i+1,n,e=>by
    rw[fP,List.take_succ_cons,lD];have e:l[i]?=ο n:=e
    by_cases hm:h m=η
    · rw[du hm,du hm,qe];exact SQ h l k i n e
    · rw[dt hm,dt hm,qe];exact SQ h l (k+1) i n e
section
variable{h:Nk -> Bool}{fin:List Nk}
theorem Uy{n:Nk}(a:fin[i]?=ο n):(fP h fin 0).getD i 0=if h n=η then -1 else (cN h fin i:Int):=by
  rw[di,SQ h fin 0 i n a];rfl
theorem Gn{n:Nk}(a:fin[i]?=ο n):bO (fP h fin 0) i=h n:=by
  unfold bO;rw[Uy a];cases e:h n with
  |true=>rfl
  |false=>
    rw[dt (by simp)];exact zB0 (by omega)
theorem Jg:∀j,j<=fin.length->(l8 fin (fP h fin 0) j).length=cN h fin j
  |0,_=>rfl
  |j+1,hj=>by
    have a:fin[j]?=ο fin[j]:=cG (by omega);rw[Nh,cJ,Jg j (by omega),Oc a,Gn a];cases e:h fin[j] <;> simp
theorem adF{i:Nat}{n:Nk}(b:fin[i]?=ο n)(a:h n=ε):∀{j:Nat},i<j->j<=fin.length->(l8 fin (fP h fin 0) j)[cN h fin i]?=ο (xH fin (fP h fin 0) i)
  |0,hi,_=>by omega
  |j+1,hi,hj=>by
    rw[Nh]
    by_cases e:i=j
    · subst e
      rw[Gn b,a,dt (by simp),eQ (by rw[Jg i (by omega)];exact zL0),Jg i (by omega),io];rfl
    · have:=adF b a (j:=j) (by omega) (by omega)
      rw[eL (cH.1 this).1];exact this
theorem amx(b:eX fin):∀i,∀k∈exp fin fo i,k<=i:=by
  intro i
  induction i using Nat.strongRecOn with
  |ind i ih=>
    intro k a;rw[BV b]at a
    split at a
    · obtain⟨j,c,a⟩:=li.1 a
      have:=b i j c;have:=ih j this k a;omega
    · rw[dd]at a
      omega
theorem amy(a:eX fin):∀i,(exp fin fo i).length<=wt fin fo i:=by
  intro i
  induction i using Nat.strongRecOn with
  |ind i ih=>
    rw[BV a,Uv a]
    split
    · have:∀l:List Nat,(∀k∈l,k<i)->(l.flatMap (exp fin fo)).length<=(l.map (wt fin fo)).sum:=fun l=>by
        induction l with
        |nil=>intro _;exact zL0
        |cons k l ihl=>
          intro b;have h1:=ih k (b k eE);have h2:=ihl fun x c=>b x (eR _ c)
          simp only[List.flatMap_cons,List.length_append,List.map_cons,List.sum_cons];omega
      have:=this _ (a i);omega
    · exact zL0
theorem alo(b:eX fin)(m:i<fin.length):∀x∈iL fin (fP h fin 0) (fin.getD i dJ).kids,x<cN h fin i:=fun x f=>by
  obtain⟨q,a,rfl⟩:=fk.1 f;obtain⟨k,d,a⟩:=li.1 a;have h1:=b i k d;have h2:=amx b k q a;have h3:=acI b k q a;have c:fin[q]?=ο fin[q]:=cG (by omega);rw[Gn c]at h3;rw[Uy c,h3,dt (by simp)];have h4:=Oc (h:=h) c;rw[h3,dt (by simp)]at h4;have g:=abM (h:=h) (l:=fin) (i:=q+1) (j:=i) (by omega) (by omega);show ((cN h fin q:Nat):Int).toNat<_;rw[ij];omega
theorem acN(b:eX fin):∀j,j<=fin.length->eX (l8 fin (fP h fin 0) j)
  |0,_=>fun i k a=>by cases a
  |j+1,hj=>fun i k a=>by
    have ih:=acN b j (by omega);have c:=Jg (h:=h) (fin:=fin) j (by omega);rw[Nh,di]at a
    by_cases hi:i<(l8 fin (fP h fin 0) j).length
    · rw[eL hi,<-di]at a
      exact ih i k a
    · rw[eQ (by omega)]at a
      split at a
      · cases a
      · cases e:i - (l8 fin (fP h fin 0) j).length with
        |zero=>
          rw[e]at a;have:=alo (h:=h) b (show j<fin.length by omega) k a;omega
        |succ m=>
          rw[e]at a;cases a
end
end Cm
namespace Rk
def rl(p:Pk.T)(k:Int):Nat:=if k=-1 then 0 else (Pk.bH p k).2
def nd(p:Pk.T)(row:List Int)(m:Mk)(k:Int):Nd:=if k=-1 then leaf row m.ps else inner p m.ps m.pile m.ns k
theorem DW(p:Pk.T)(row:List Int)(m:Mk)(k:Int):mk1 p row m k=⟨if k=-1 then m.ps+1 else m.ps,m.pile.take (m.pile.length-rl p k)++[m.ns.length],m.ns++[nd p row m k]⟩:=by
 unfold mk1 rl nd
 split
 ·rw[sX,ff]
 ·rfl
theorem am6(p:Pk.T)(row:List Int)(m:Mk)(k:Int):(nd p row m k).ks=m.pile.drop (m.pile.length-rl p k)/\(nd p row m k).prod=k:=by
 unfold nd rl
 split
 ·rename_i e
  rw[sX,im,e];exact⟨rfl,rfl⟩
 ·exact⟨rfl,rfl⟩
def M(p:Pk.T)(row l:List Int)(j:Nat):Mk:=(l.take j).foldl (mk1 p row) ⟨0,[],[]⟩
section
variable{p:Pk.T}{row l:List Int}
theorem Gf(h:l[j]?=ο k):M p row l (j+1)=mk1 p row (M p row l j) k:=by
 unfold M;rw[ki,h,pB];rfl
theorem Ch:∀{j:Nat},j<=l.length->(M p row l j).ns.length=j
 |0,_=>rfl
 |j+1,h=>by rw[Gf (cG (show j<l.length by omega)),DW,cJ,Ch (by omega)];rfl
theorem abN:∀{j:Nat},j<=l.length->∀x∈(M p row l j).pile,x<j
 |0,_,x,a=>by cases a
 |j+1,h,x,a=>by
  rw[Gf (cG (show j<l.length by omega)),DW,Ch (by omega)]at a;rcases dq.1 a with a|a
  ·have:=abN (show j<=l.length by omega) x (mw a)
   omega
  ·rw[dd]at a
   omega
theorem aaR:∀(l:List Int)(m:Mk),∃t,(l.foldl (mk1 p row) m).ns=m.ns++t
 | [],m=>⟨[],by simp⟩
 |k::l,m=>by
  obtain⟨t,a⟩:=aaR l (mk1 p row m k);exact⟨nd p row m k::t,by rw[si,a,DW,dy];rfl⟩
theorem ajV(h:l[j]?=ο k):(nodes p row l)[j]?=ο (nd p row (M p row l j) k):=by
 obtain⟨t,a⟩:=aaR (p:=p) (row:=row) (l.drop (j+1)) (M p row l (j+1));have e:nodes p row l=(M p row l (j+1)).ns++t:=by
  rw[<-a];unfold nodes M;rw[<-pB,lj]
 have b:=(cH.1 h).1;rw[e,Gf h,DW,dy,eQ (by rw[Ch (by omega)];exact zL0),Ch (by omega),io];rfl
theorem aiL:(nodes p row l).length=l.length:=by
 have:=Ch (p:=p) (row:=row) (l:=l) (zL0);unfold M at this;rw[ff]at this;exact this
def fin(p:Pk.T)(row l:List Int):List Cm.Nk:=(nodes p row l).map xQ
theorem fin_at(h:l[j]?=ο k):(fin p row l)[j]?=ο (xQ (nd p row (M p row l j) k)):=by
 unfold fin;rw[dj,ajV h];rfl
theorem DL:(fin p row l).length=l.length:=by unfold fin;rw[dk,aiL]
theorem DN(h:l[j]?=ο k):((fin p row l).getD j Cm.dJ).kids=(M p row l j).pile.drop ((M p row l j).pile.length-rl p k)/\((fin p row l).getD j Cm.dJ).prod=k/\((fin p row l).getD j Cm.dJ).sym=(nd p row (M p row l j) k).sym:=by
 rw[di,fin_at h];have:=am6 p row (M p row l j) k;exact⟨this.1,this.2,rfl⟩
theorem BQ:Cm.eX (fin p row l):=fun i k a=>by
 by_cases hi:i<l.length
 ·rw[(DN (cG hi)).1]at a
  exact abN (lA hi) k (xh a)
 ·rw[di,kf (by rw[DL];omega)]at a
  cases a
theorem SS{f:Nat->Nat}{c:Nat}(b:∀j k,l[j]?=ο k->f j<=c+(((fin p row l).getD j Cm.dJ).kids.map f).sum):∀j,j<=l.length->((M p row l j).pile.map f).sum<=c*j
 |0,_=>fi _
 |j+1,h=>by
  have a:=cG (show j<l.length by omega);have ih:=SS b j (by omega);have h1:=b j _ a;rw[(DN a).1]at h1;rw[Gf a,DW,Ch (by omega),ee,qu];have h2:((M p row l j).pile.map f).sum=(((M p row l j).pile.take ((M p row l j).pile.length-rl p l[j])).map f).sum+(((M p row l j).pile.drop ((M p row l j).pile.length-rl p l[j])).map f).sum:=by rw[<-qu,<-ee,lj]
  have h3:([j].map f).sum=f j:=by simp
  have h4:c*(j+1)=c*j+c:=by rw[Nat.mul_add,j9]
  show (_+([j].map f).sum)<=_;omega
theorem ajW{f:Nat->Nat}(b:∀j k,l[j]?=ο k->f j<=c+(((fin p row l).getD j Cm.dJ).kids.map f).sum)(a:j<l.length):(((fin p row l).getD j Cm.dJ).kids.map f).sum<=c*j:=by
 have h1:=SS b j (lA a);have h2:((M p row l j).pile.map f).sum=(((M p row l j).pile.take ((M p row l j).pile.length-rl p l[j])).map f).sum+(((M p row l j).pile.drop ((M p row l j).pile.length-rl p l[j])).map f).sum:=by rw[<-qu,<-ee,lj]
 rw[(DN (cG a)).1];omega
end
end Rk
namespace Rk
def hp(p:Pk.T)(k:Int):Bool:=hlp p ⟨((Pk.bH p k).1:Int),k,[],0,0⟩
def L9(p:Pk.T)(row:List Int)(x:Nat×List (List (List UInt8)))(k:Int):Nat×List (List (List UInt8)):=(if k=-1 then x.1+1 else x.1,x.2.take (x.2.length-rl p k)++[if k=-1 then [jK p (row.getD x.1 0)] else if hp p k=η then (x.2.drop (x.2.length-rl p k)).flatten else [40::(iN p ((Pk.bH p k).1:Int)++(x.2.drop (x.2.length-rl p k)).flatten.flatMap (32::·)++[41])]])
def sk(p:Pk.T)(row l:List Int):Nat×List (List (List UInt8)):=l.foldl (L9 p row) (0,[])
theorem Uc(p:Pk.T)(row l:List Int)(k:Int):sk p row (l++[k])=L9 p row (sk p row l) k:=by
 unfold sk;rw[pB];rfl
section
variable{p:Pk.T}{row l:List Int}
def gy(p:Pk.T)(row l:List Int):List Int:=fP (hlp p) (fin p row l) 0
def nL(p:Pk.T)(row l:List Int):List Cm.Nk:=l8 (fin p row l) (gy p row l) (fin p row l).length
def gX(p:Pk.T)(row l:List Int)(q:Nat):List UInt8:=Cm.tx (jK p) (iN p) (nL p row l) ((gy p row l).getD q 0).toNat
def FX(p:Pk.T)(row l:List Int)(i:Nat):List (List UInt8):=(Cm.exp (fin p row l) (bO (gy p row l)) i).map (gX p row l)
theorem amz(n a:Cm.Nk)(h1:n.sym=a.sym)(h2:n.prod=a.prod):hlp p n=hlp p a:=by
 unfold hlp;rw[h1,h2]
theorem acO(h:l[j]?=ο k):bO (gy p row l) j=if k=-1 then ε else hp p k:=by
 have:=Cm.Gn (h:=hlp p) (fin_at (p:=p) (row:=row) h);unfold gy;rw[this];unfold nd
 split
 ·rfl
 ·exact amz _ _ rfl rfl
theorem Ox(h:l[j]?=ο k)(a:bO (gy p row l) j=ε):(nL p row l).getD ((gy p row l).getD j 0).toNat Cm.dJ=xH (fin p row l) (gy p row l) j/\(gy p row l).getD j 0=(Cm.cN (hlp p) (fin p row l) j:Int):=by
 have b:=fin_at (p:=p) (row:=row) h;have d:=(cH.1 h).1;have e:=Cm.Gn (h:=hlp p) b;unfold gy at a;rw[e]at a;have c:(gy p row l).getD j 0=(Cm.cN (hlp p) (fin p row l) j:Int):=by
  unfold gy;rw[Cm.Uy b,a,dt (by simp)]
 refine⟨?_,c⟩;rw[c,ij,di];unfold nL gy;rw[Cm.adF b a (by rw[DL];exact d) (zL0)];rfl
theorem Oy:Cm.eX (nL p row l):=Cm.acN BQ _ (zL0)
theorem am7(d:∀k∈l,-1<=k)(h:l[j]?=ο k):FX p row l j=if k=-1 then [jK p (row.getD (M p row l j).ps 0)] else if hp p k=η then (((fin p row l).getD j Cm.dJ).kids.map (FX p row l)).flatten else [40::(iN p ((Pk.bH p k).1:Int)++(((fin p row l).getD j Cm.dJ).kids.map (FX p row l)).flatten.flatMap (32::·)++[41])]:=by
 obtain⟨g1,g2,g⟩:=DN (p:=p) (row:=row) h;have a:=acO (p:=p) (row:=row) h;have b:∀f:List Nat,(f.map (FX p row l)).flatten=(f.flatMap (Cm.exp (fin p row l) (bO (gy p row l)))).map (gX p row l):=fun f=>by
  rw[zg,List.flatMap_def];rfl
 have i:FX p row l j=(Cm.exp (fin p row l) (bO (gy p row l)) j).map (gX p row l):=rfl;rw[i,Cm.BV BQ];have m:=d k (cM h)
 by_cases e:k=-1
 ·rw[du e]at a|-
  rw[a,dt (by simp),n8];unfold gX;rw[Cm.Ux Oy,(Ox h a).1];unfold xH;simp only;rw[g2,du (by omega),g];unfold nd;rw[du e];rfl
 ·rw[dt e]at a|-
  by_cases e2:hp p k=η
  ·rw[e2]at a
   rw[du a,du e2,b]
  ·have c:bO (gy p row l) j=ε:=by rw[a];simpa using e2
   rw[c,dt (by simp),n8,dt e2,b];unfold gX;rw[Cm.Ux Oy,(Ox h c).1];unfold xH;simp only;rw[g2,dt (by omega),g];unfold nd;rw[dt e];unfold iL;rw[uB,uB];rfl
theorem aeF(a:∀k∈l,-1<=k):∀j,j<=l.length->sk p row (l.take j)=((M p row l j).ps,(M p row l j).pile.map (FX p row l))
 |0,_=>rfl
 |j+1,h=>by
  have b:=cG (show j<l.length by omega);rw[ki,b,Option.toList_some,Uc,aeF a j (by omega),Gf b,DW,Ch (by omega)];unfold L9;simp only[List.map_append,List.map_take,List.length_map];have:=am7 (p:=p) (row:=row) a b;rw[(DN b).1]at this;rw[n8,this,List.map_drop]
theorem abO{T:List UInt8}{l':List Int}{ps:Nat}(D:l=l'++[k])(hk:0<=k)(hh:hp p k=ε)(Q:∀k∈l,-1<=k)(hs:sk p row l=(ps,[[T]]))(N:l.length<=100000)(hT:T.length<=1000000)(H:∀x∈row,-1000000000<=x/\x<=1000000000)(X:∀x∈p.prods,x.1<=1000000000)(Z:p.toks.length<=100000)(J:∀x∈p.toks,x.size<=1000000)(R:∀x∈p.aT,x.size<=1000000):En p ((nodes p row l).map xQ) T:=by
 have E:l.length=l'.length+1:=by rw[D,cJ];rfl
 have d:l[l'.length]?=ο k:=by rw[D,eQ (zL0),io];rfl
 have o:bO (gy p row l) l'.length=ε:=by rw[acO d,dt (by omega)];exact hh
 obtain⟨m1,m2⟩:=Ox (p:=p) (row:=row) d o;have z:∀L:List ByteArray,(∀x∈L,x.size<=1000000)->∀s,(Pk.mh L s).size<=1000000:=fun L hL s=>by
  unfold Pk.mh
  split
  ·rw[di]
   cases e:L[s.toNat]? with
   |none=>exact fi _
   |some x=>exact hL x (cM e)
  ·exact fi _
 have aa:∀j k,l[j]?=ο k->-1000000000<=(nd p row (M p row l j) k).sym/\(nd p row (M p row l j) k).sym<=1000000000:=fun j k _=>by
  unfold nd
  split
  ·show -1000000000<=row.getD _ 0/\row.getD _ 0<=1000000000
   rw[di];cases e:row[(M p row l j).ps]? with
   |none=>exact⟨by decide,by decide⟩
   |some x=>exact H x (cM e)
  ·show -1000000000<=((Pk.bH p k).1:Int)/\((Pk.bH p k).1:Int)<=1000000000
   have:(Pk.bH p k).1<=1000000000:=by
    unfold Pk.bH
    split
    ·rw[di]
     cases e:p.prods[k.toNat]? with
     |none=>exact fi _
     |some x=>exact X x (cM e)
    ·exact fi _
   omega
 have A:∀j,j<l.length->-1000000000<=((fin p row l).getD j Cm.dJ).sym/\((fin p row l).getD j Cm.dJ).sym<=1000000000:=fun j g=>by
  rw[(DN (cG g)).2.2];exact aa j _ (cG g)
 have u:∀n∈fin p row l,∃j,j<l.length/\(fin p row l).getD j Cm.dJ=n:=fun n t=>by
  obtain⟨j,g⟩:=fb.1 t;exact⟨j,by rw[<-DL (p:=p) (row:=row)];exact(cH.1 g).1,by rw[di,g];rfl⟩
 have C:∀j,j<l.length->(((fin p row l).getD j Cm.dJ).kids.map (Cm.wt (fin p row l) (bO (gy p row l)))).sum<=l.length:=fun j g=>by
  have:=ajW (p:=p) (row:=row) (l:=l) (f:=Cm.wt (fin p row l) (bO (gy p row l))) (c:=1) (fun j k _=>by rw[Cm.Uv BQ];split <;> omega) g;omega
 have I:=SS (p:=p) (row:=row) (l:=l) (f:=fun i=>((Cm.exp (fin p row l) (bO (gy p row l)) i).map fun q=>Cm.rn (nL p row l) ((gy p row l).getD q 0).toNat).sum) (c:=2) (fun j k g=>by
  have U:∀m:List Nat,(m.map fun i=>((Cm.exp (fin p row l) (bO (gy p row l)) i).map fun q=>Cm.rn (nL p row l) ((gy p row l).getD q 0).toNat).sum).sum=((m.flatMap (Cm.exp (fin p row l) (bO (gy p row l)))).map fun q=>Cm.rn (nL p row l) ((gy p row l).getD q 0).toNat).sum:=fun m=>by
   induction m with
   |nil=>rfl
   |cons a m ih=>rw[n9,tA,ih,eS,ee,qu]
  rw[U,Cm.BV BQ]
  split
  ·omega
  ·rename_i S
   have S:bO (gy p row l) j=ε:=by simpa using S
   rw[n8,xy,Cm.adC Oy,(Ox g S).1]
   split
   ·omega
   ·have:(xH (fin p row l) (gy p row l) j).kids.map (Cm.rn (nL p row l))=(((fin p row l).getD j Cm.dJ).kids.flatMap (Cm.exp (fin p row l) (bO (gy p row l)))).map fun q=>Cm.rn (nL p row l) ((gy p row l).getD q 0).toNat:=by
     show (iL _ _ _).map _=_;unfold iL;rw[pj];rfl
    rw[this];exact zL0) l.length (zL0)
 have y:=aeF (p:=p) (row:=row) Q l.length (zL0);rw[ff,hs]at y;have G:(M p row l l.length).pile=[l'.length]/\FX p row l l'.length=[T]:=by
  have e:=(Prod.mk.inj y).2;rw[E,Gf d,DW,Ch (by omega)]at e|-;simp only[List.map_append,List.map_singleton]at e;have el:=fd List.length e;rw[cJ,dk]at el;simp only[List.length_singleton]at el;have B:(M p row l l'.length).pile.take ((M p row l l'.length).pile.length-rl p k)=[]:=so.1 (by omega);rw[B]at e|-;exact⟨rfl,(xv e).1.symm⟩
 have r:gX p row l l'.length=T:=by
  have:=G.2;unfold FX at this;rw[Cm.BV BQ,o,dt (by simp),n8]at this;exact(xv this).1
 rw[G.1,n8,xy,Cm.BV BQ,o,dt (by simp),n8,xy,m2,ij]at I;unfold gX at r;rw[m2,ij]at r;have Y:(nL p row l).length=Cm.cN (hlp p) (fin p row l) l'.length+1:=by
  have h1:=Cm.Jg (h:=hlp p) (fin:=fin p row l) _ (zL0);have h2:=Cm.Oc (h:=hlp p) (fin_at (p:=p) (row:=row) d);have h3:=Cm.Gn (h:=hlp p) (fin_at (p:=p) (row:=row) d);unfold gy at o;rw[o]at h3;rw[<-h3,dt (by simp)]at h2;unfold nL gy;rw[h1,DL,E,h2]
 have K:(nL p row l)[(nL p row l).length-1]?=ο (xH (fin p row l) (gy p row l) l'.length):=by
  rw[Y,Nat.add_sub_cancel];rw[m2,ij,di,cG (by omega)]at m1;rw[cG (by omega)];exact fd ο m1
 have ab:(nL p row l).length<=l.length:=by
  unfold nL l8;rw[dk];refine cY (ti _ _) ?_;rw[pA,DL];exact zL0
 have O:∀n∈nL p row l,(-1000000000<=n.sym/\n.sym<=1000000000)/\n.kids.length<=1000000:=fun n t=>by
  unfold nL l8 at t;obtain⟨i,F,rfl⟩:=fk.1 t;obtain⟨F,-⟩:=j'.1 F;rw[pN,DL]at F;refine⟨A i F,?_⟩;have h1:=C i F;have h2:∀m:List Nat,(m.flatMap (Cm.exp (fin p row l) (bO (gy p row l)))).length<=(m.map (Cm.wt (fin p row l) (bO (gy p row l)))).sum:=fun m=>by
   induction m with
   |nil=>exact zL0
   |cons a m ih=>
    have:=Cm.amy (BQ (p:=p) (row:=row) (l:=l)) (fo:=bO (gy p row l)) a;rw[eS,cJ,n9,tA];omega
  show (iL _ _ _).length<=_;unfold iL;rw[dk];have:=h2 ((fin p row l).getD i Cm.dJ).kids;omega
 intro w rb pb B' nc na b mv v hR hN;have V:((nL p row l).length-1)=Cm.cN (hlp p) (fin p row l) l'.length:=by omega
 have:=ajU (w0:=w) (w:=w) (N0:=w.heap.size) (nc:=nc) (na:=na) (ns:=fin p row l) (ms:=nL p row l) rfl (cV _ _) (fun W P=>hR.move P) (fun W P=>hN.move P) (by rw[DL];exact N) (fun n t=>by
  obtain⟨j,g,rfl⟩:=u n t;exact A j g) Z BQ (fun n t=>by
  obtain⟨j,g,rfl⟩:=u n t;have:=C j g;unfold gy at this;omega) (z _ J) (fun s=>z _ R _) rfl O Oy (by omega) K (by
  show 0<=((fin p row l).getD l'.length Cm.dJ).prod;rw[(DN d).2.1];exact hk) (by rw[V];omega) (by rw[V,r];exact hT)
 rw[V,r]at this;exact this
end
end Rk
namespace Rk
def hd:List Int->Int
 | []=>0
 |a::_=>a
def At(p:Pk.T)(row rem:List Int)(pile:List Nat)(st:List (List (List UInt8)))(c:Nat):Prop:=∃s:Rn.S,row.drop s.passed=rem/\s.passed<=row.length/\s.pile=pile/\sk p row s.steps=(s.passed,st)/\s.steps.length=c/\(∀k∈s.steps,-1<=k)/\Rn.run p row=Rn.work p row (Rn.most row+1-c) s
section
variable{p:Pk.T}{row rem:List Int}{pile:List Nat}{st:List (List (List UInt8))}{c:Nat}
theorem At.zero:At p row row [0] [] 0:=⟨Rn.s0,rfl,fi _,rfl,rfl,rfl,(fun k a=>by cases a),rfl⟩
theorem NQ(f:∀a∈row,a≠0){s:Rn.S}(h1:row.drop s.passed=rem)(h2:s.passed<=row.length):Rn.ahead row s=hd rem:=by
 unfold Rn.ahead
 by_cases e:s.passed=row.length
 ·rw[du e,<-h1,e,im]
  rfl
 ·have b:s.passed<row.length:=by omega
  have d:row.getD s.passed 0=row[s.passed]:=by rw[di,cG b];rfl
  rw[dt e,d,dt (f _ (eJ b)),<-h1,eN b];rfl
theorem abP{s:Rn.S}{x:Nat×Nat}{f:Nat}(h:Pk.act p (Rn.top s:Int) (Rn.ahead row s)=x)(h3:x.1≠3)(b:Rn.can p row s x=η)(a:s.steps.length≠Rn.most row):Rn.work p row (f+1) s=Rn.work p row f (Rn.step p s x):=by
 rw[Rn.work,h,dt h3,dt (by rw[b];simp),dt a]
theorem At.shift{a:Int}(o:∀a∈row,a≠0)(h:At p row (a::rem) pile st c)(t:Nat)(j:Pk.act p (pile.getD (pile.length-1) 0:Int) a=(1,t))(q:c<Rn.most row):At p row rem (pile++[t]) (st++[[jK p a]]) (c+1):=by
 obtain⟨s,h1,h2,rfl,h4,m,f,l⟩:=h;have d:s.passed<row.length:=by
  apply jt;intro r;rw[pD (by omega)]at h1;cases h1
 rw[eN d]at h1;obtain⟨g,n⟩:=xv h1;have i:=NQ o (rem:=a::rem) (s:=s) (by rw[eN d];exact h1) h2;refine⟨Rn.shift s t,n,d,rfl,?_,by show (s.steps++[-1]).length=_;rw[cJ,m];rfl,fun k b=>?_,?_⟩
 ·show sk p row (s.steps++[-1])=(s.passed+1,_)
  rw[Uc,h4];unfold L9 rl;simp only[if_true,Nat.sub_zero,List.take_length];rw[di,cG d,g];rfl
 ·rcases dq.1 b with b | b
  ·exact f k b
  ·rw[dd]at b
   omega
 ·rw[l,show Rn.most row+1-c=(Rn.most row-c)+1 by omega,abP (x:=(1,t)) (by rw[i];exact j) (by simp) (by unfold Rn.can;rw[du rfl];exact ge d) (by omega),show Rn.most row+1 - (c+1)=Rn.most row-c by omega]
  rfl
def uD(p:Pk.T)(st:List (List (List UInt8)))(k:Nat):List (List (List UInt8)):=st.take (st.length - (Pk.bH p (k:Int)).2)++[if hp p (k:Int)=η then (st.drop (st.length - (Pk.bH p (k:Int)).2)).flatten else [40::(iN p ((Pk.bH p (k:Int)).1:Int)++(st.drop (st.length - (Pk.bH p (k:Int)).2)).flatten.flatMap (32::·)++[41])]]
def Xf(p:Pk.T)(pile:List Nat)(k:Nat):List Nat:=pile.take (pile.length - (Pk.bH p (k:Int)).2)++[Pk.goto p ((pile.take (pile.length - (Pk.bH p (k:Int)).2)).getD ((pile.take (pile.length - (Pk.bH p (k:Int)).2)).length-1) 0:Int) (((Pk.bH p (k:Int)).1:Int) - (p.toks.length:Int))]
theorem At.reduce'(l:∀a∈row,a≠0)(h:At p row rem pile st c)(k:Nat)(f:Pk.act p (pile.getD (pile.length-1) 0:Int) (hd rem)=(2,k))(g:(Pk.bH p (k:Int)).2<pile.length)(m:c<Rn.most row):∃s l',row.drop s.passed=rem/\s.passed<=row.length/\s.pile=Xf p pile k/\sk p row s.steps=(s.passed,uD p st k)/\s.steps.length=c+1/\(∀k∈s.steps,-1<=k)/\Rn.run p row=Rn.work p row (Rn.most row+1 - (c+1)) s/\s.steps=l'++[(k:Int)]:=by
 obtain⟨s,h1,h2,rfl,h4,j,d,i⟩:=h;refine⟨Rn.reduce p s k,s.steps,h1,h2,rfl,?_,by show (s.steps++[(k:Int)]).length=_;rw[cJ,j];rfl,fun x b=>?_,?_,rfl⟩
 ·show sk p row (s.steps++[(k:Int)])=(s.passed,_)
  rw[Uc,h4];unfold L9 rl uD;simp only[show ¬(k:Int)=-1 by omega,if_false]
 ·rcases dq.1 b with b | b
  ·exact d x b
  ·rw[dd]at b
   omega
 ·rw[i,show Rn.most row+1-c=(Rn.most row-c)+1 by omega,abP (x:=(2,k)) (by rw[NQ l h1 h2];exact f) (by simp) (by unfold Rn.can;rw[dt (by simp),du rfl];exact ge g) (by omega),show Rn.most row+1 - (c+1)=Rn.most row-c by omega]
  rfl
theorem At.reduce(g:∀a∈row,a≠0)(h:At p row rem pile st c)(k:Nat)(f:Pk.act p (pile.getD (pile.length-1) 0:Int) (hd rem)=(2,k))(i:(Pk.bH p (k:Int)).2<pile.length)(j:c<Rn.most row)(d:Xf p pile k=xI){st2:List (List (List UInt8))}(b:uD p st k=st2):At p row rem xI st2 (c+1):=by
 obtain⟨s,l,a1,a2,a3,a4,a5,a6,a7,-⟩:=h.reduce' g k f i j;exact⟨s,a1,a2,a3.trans d,by rw[a4,b],a5,a6,a7⟩
theorem At.fin(n:∀a∈row,a≠0)(h:At p row [] pile st c)(k:Nat)(r:Pk.act p (pile.getD (pile.length-1) 0:Int) 0=(2,k))(q:(Pk.bH p (k:Int)).2<pile.length)(v:c<Rn.most row)(m:Xf p pile k=xI){T:List UInt8}(g:uD p st k=[[T]])(j:(Pk.act p (xI.getD (xI.length-1) 0:Int) 0).1=3)(u:c+1<=100000)(o:hp p (k:Int)=ε)(t:T.length<=1000000)(b:∀x∈row,-1000000000<=x/\x<=1000000000)(f:∀x∈p.prods,x.1<=1000000000)(l:p.toks.length<=100000)(d:∀x∈p.toks,x.size<=1000000)(i:∀x∈p.aT,x.size<=1000000):(Rn.run p row).1.1=0/\En p ((nodes p row (Rn.run p row).2.steps).map xQ) T:=by
 obtain⟨s,l',a1,a2,a3,a4,a5,a6,a7,a8⟩:=h.reduce' n k r q v;have e:Rn.run p row=((0,0),s):=by
  rw[a7,show Rn.most row+1 - (c+1)=(Rn.most row-c-1)+1 by omega,Rn.work,NQ n a1 a2];unfold Rn.top;rw[a3,m];exact du j
 rw[e];refine⟨rfl,abO (l':=l') (k:=(k:Int)) (ps:=s.passed) a8 (by omega) o a6 (by rw[a4,g]) (by show s.steps.length<=100000;omega) t b f l d i⟩
theorem At.err(f:∀a∈row,a≠0)(h:At p row rem pile st c)(b:Pk.act p (pile.getD (pile.length-1) 0:Int) (hd rem)=(0,0))(j:c<=Rn.most row):(Rn.run p row).1.1=11/\(Rn.run p row).1.2=row.length-rem.length:=by
 obtain⟨s,h1,h2,rfl,h4,i,g,d⟩:=h;have e:Rn.run p row=((11,s.passed),s):=by
  rw[d,show Rn.most row+1-c=(Rn.most row-c)+1 by omega,Rn.work,NQ f h1 h2,show Pk.act p (Rn.top s:Int) (hd rem)=(0,0) from b,dt (by decide),du (by unfold Rn.can;simp)]
 rw[e,<-h1,m7];exact⟨rfl,by show s.passed=_;omega⟩
end
end Rk
def RaE(w:ω)(s:ByteArray)(xs:List (Nat×ByteArray))(K:(Nat×Nat)×Rn.S)(T:List UInt8)(e:Ending)(w':ω):Prop:=φ w.heap.size w w'/\((K.1.1=0/\e=δ (θ #[τ ⟨T.toArray⟩,ι ξ 0,ι ξ 0]))\/(K.1.1=11/\∃q:Nat,(xs.map Prod.fst++[s.size])[K.1.2]?=ο q/\e=δ (θ #[τ ⟨#[]⟩,ι ξ 11,ι ξ (q:Int)])))
theorem Tf{p:Pk.T}{T:List UInt8}(hp:Pk.pack b=p)(k:Pk.ok b=η)(O:pJ p)(I:kZ w)(B:0<w.heap.size)(j:b.size<=281474976710656)(Q:p.toks.length<=100000)(G:1<=p.toks.length)(z:Cm.oH p.toks 1 (p.toks.length-1)=f)(N:s.size<=100000)(L:∀x∈Cm.dm s,f x.2≠0)(M:(Cm.dm s).length<=100000)(K:((Rn.run p ((Cm.dm s).map fun x=>f x.2)).1.1=0/\En p ((Rk.nodes p ((Cm.dm s).map fun x=>f x.2) (Rn.run p ((Cm.dm s).map fun x=>f x.2)).2.steps).map xQ) T)\/((Rn.run p ((Cm.dm s).map fun x=>f x.2)).1.1=11/\(Rn.run p ((Cm.dm s).map fun x=>f x.2)).1.2<=(Cm.dm s).length)):χ prog 7 #[τ b,τ s] w (RaE w s (Cm.dm s) (Rn.run p ((Cm.dm s).map fun x=>f x.2)) T):=by
 have F:=afy w I B b j k (by rw[hp];exact Q) (by rw[hp];exact G);rw[hp]at F;have J:Hid (∀(w1:ω)(u D r:Nat)(v:cu),φ w.heap.size w w1->qp w1 u D b (.map (ο r)) w.heap.size v p->SMap w1 r (Cm.oH p.toks 1 (p.toks.length-1))->χ prog 11 #[π (ο ⟨u,0,ν⟩),τ s] w1 fun e w2=>∃(t:ByteArray)(o c:Int),e=δ (γ #[τ t,ι ξ o,ι ξ c])/\Hid (∀i,φ w2.heap.size w2 i->RaE w s (Cm.dm s) (Rn.run p ((Cm.dm s).map fun x=>f x.2)) T (δ (θ #[τ t,ι ξ o,ι ξ c])) i)):=fun w1 u D r v l E m=>by
  rw[z]at m;refine(aiK (T:=T) hp k O (I.move (l.block 0 B)) (dg B l.size) j E m N L M K).mono ?_;rintro e w2⟨g,⟨h,rfl⟩ | ⟨h,q,P,rfl⟩⟩
  ·exact⟨_,_,_,rfl,fun i a=>⟨l.trans ((g.trans (a.mono g.size)).mono l.size),.inl ⟨h,rfl⟩⟩⟩
  ·exact⟨_,_,_,rfl,fun i a=>⟨l.trans ((g.trans (a.mono g.size)).mono l.size),.inr ⟨h,q,P,rfl⟩⟩⟩
 clear I B j K L N M k hp z O;go_enter func7,ntmps7;go_upto_region 4 with (go_at_call 10;refine F.mono ?_;rintro e w1⟨u,D,r,v,rfl,E,m,A⟩)
 have y:=J.out w1 u D r v A E m;clear F J E m A;go_upto_region 5 with (go_at_call 11;refine y.mono ?_;rintro e w2⟨t,o,c,rfl,R⟩)
 clear y;obtain⟨i,d⟩:=aC (w2.alloc (ζ #[τ t,ι ξ o,ι ξ c] 40));have C:aj i w2.heap.size #[τ t,ι ξ o,ι ξ c] 40:=by rw[d];exact aj.new ..
 have a:φ w2.heap.size w2 i:=by rw[d];exact(cV _ _).alloc (zL0) _
 obtain⟨n,H⟩:=aF w2.heap.size;rw[<-d,H];rw[H]at C;clear d H;have S:=C.a0;have U:=C.a1;have V:=C.a2
 go_quiet (fail)
 go_wp2_with fail;refine iS (Np rfl _ _ _) rfl ?_;exact R.out _ ⟨a.1,a.2,a.3,a.4,a.5⟩

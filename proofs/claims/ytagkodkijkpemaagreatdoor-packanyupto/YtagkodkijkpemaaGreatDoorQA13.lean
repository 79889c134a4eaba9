import Derived.Test.YtagkodkijkpemaaGreatDoorQA12
import Derived.Test.YtagkodkijkpemaaGreatDoorRows
import Derived.LaidMore
import Derived.LaidSub
set_option maxHeartbeats 8000000
set_option maxRecDepth 1000000
namespace Go.Proofs.YtagkodkijkpemaaGreatDoor
open Lx Go.Proofs.Tryz
open Go.RowKit Tr
end Go.Proofs.YtagkodkijkpemaaGreatDoor
namespace Go.Proofs.YtagkodkijkpemaaGreatDoor
open Lx Go.Proofs.Tryz
open Go.RowKit
open Tr
end Go.Proofs.YtagkodkijkpemaaGreatDoor
namespace Go.Proofs.YtagkodkijkpemaaGreatDoor
open Lx Go.Proofs.Tryz
open Go.RowKit Tr
theorem anB{P:List Lx.Pd}(h:P.map (fun p=>(p.left,p.right))=Kb):∃a b d,P=[⟨2,[3],a⟩,⟨3,[1,3],b⟩,⟨3,[],d⟩]:=by
 match P,h with
 | [⟨l0,r0,a⟩,⟨l1,r1,b⟩,⟨l2,r2,d⟩],h=>
  simp only[Kb,List.map_cons,List.map_nil,List.cons.injEq,Prod.mk.injEq,and_true]at h;obtain⟨⟨rfl,rfl⟩,⟨rfl,rfl⟩,rfl,rfl⟩:=h;exact⟨a,b,d,rfl⟩
theorem xO{w V:World}(h:Below w.heap.size w V)(o:Obj):Below w.heap.size w (V.alloc o):=h.alloc h.size o
theorem Kc{w V:World}(h:Below w.heap.size w V):Below w.heap.size w V.drew:=⟨h.1,h.2,h.3,h.4,h.5⟩
def mD(w:World):Prop:=w.cell? ⟨1,0,none⟩=some (.int .i64 2)/\w.cell? ⟨1,1,none⟩=some (.int .i64 1)/\w.cell? ⟨1,2,none⟩=some (.int .i64 4)
theorem mD.keep{w w':World}(a:Below w.heap.size w w')(h:mD w):mD w':=⟨aM a h.1,aM a h.2.1,aM a h.2.2⟩
def Tb.Vg(k:Nat):Nat:=if k=0 then 2 else if k=1 then 1 else 4
theorem mD.at{w:World}(h:mD w){k:Nat}(a:k<3):w.cell? ⟨1,k,none⟩=some (.int .i64 ((Tb.Vg k:Nat):Int)):=by
 match k,a with
 |0,_=>exact h.1
 |1,_=>exact h.2.1
 |2,_=>exact h.2.2
theorem ag9{w:World}{E:Nat}{P:List Lx.Pd}{bs ks:List Nat}{v0 v1 v5:Value}{st:Int}(h:l8 w E P bs ks v0 v1 v5 st)(hO:mD w){s:Nat}{v:Value}{p r t k:Nat}{x:Lx.Pd}(J:bQ w v [p])(hx:P[p]?=some x)(H:x.prec=(t:Int))(hq:t<bs.length)(N:r<bs.length)(R:ks[r]?=some k)(I:k<3):Calls prog 107 #[.pointer (some ⟨E,0,none⟩),.int .i64 (r:Int),.agg #[.int .i64 (s:Int),v]] w fun e w'=>∃y:Nat×Nat,e=.returned (.agg #[.int .i64 (y.1:Int),.int .i64 (y.2:Int)])/\(y=(1,s)\/y=(2,p)\/y=(4,0))/\Below w.heap.size w w':=by
 obtain⟨pa,c,rfl,hp⟩:=J;have J:bQ w (.slice pa ([p]:List Nat).length c) [p]:=⟨pa,c,rfl,hp⟩;have el:([p]:List Nat).length=1:=rfl;rw[el]at J|-;obtain⟨l,rfl,Q⟩:=hp 0 p rfl;unfold iQ at Q;rw[pZ]at Q;obtain⟨w2,n⟩:∃V,V=(w.alloc (.cells #[.int .i64 (s:Int),.slice (some ⟨l,0,none⟩) 1 c] 166)).alloc (.cells #[.int .i64 0,.int .i64 0] 42):=⟨_,rfl⟩;obtain⟨a,g⟩:∃b,w.heap.size=b:=⟨_,rfl⟩;have f:Below w.heap.size w w2:=by rw[n];exact((cV _ _).alloc (zL0) _).alloc (by simp) _
 have kC:aj w2 a #[.int .i64 (s:Int),.slice (some ⟨l,0,none⟩) 1 c] 166:=by rw[n,<-g];exact(aj.new ..).alloc _
 have kR:aj w2 (a+1) #[.int .i64 0,.int .i64 0] 42:=by
  rw[n,<-g];have:=aj.new (w.alloc (.cells #[.int .i64 (s:Int),.slice (some ⟨l,0,none⟩) 1 c] 166)) #[.int .i64 0,.int .i64 0] 42
  rwa [fd]at this
 have h2:=h.keep f;have B:Below w2.heap.size w2 w2.drew:=⟨rfl,rfl,rfl,zL0,fun _ _=>rfl⟩;have q:=abL (s:=s) (h2.keep B) (v:=.slice (some ⟨l,0,none⟩) 1 c) (p:=p) (tl:=[]) ((J.keep f).keep B) hx;rw[H]at q;obtain⟨gP,pc,ba,T,ka,kc,kD,-,hB,hK⟩:=h2.ex;obtain⟨_,_,e,C⟩:=hB;cases e;obtain⟨_,_,e,K⟩:=hK;cases e;obtain⟨Y,F⟩:∃y,bs[r]?=some y:=⟨_,cF N⟩;obtain⟨bq,M⟩:∃y,bs[t]?=some y:=⟨_,cF hq⟩;obtain⟨u,rfl,cT⟩:=C r Y F;obtain⟨_,e,O⟩:=C t bq M;cases e;obtain⟨gK,rfl,Z⟩:=K r k R;unfold iQ at cT O Z;rw[j9]at cT O Z;have k3:w2.cell? ⟨E,3,none⟩=some (.slice (some ⟨u,0,none⟩) bs.length T):=kD.cell 3;have k4:w2.cell? ⟨E,4,none⟩=some (.slice (some ⟨gK,0,none⟩) ks.length kc):=kD.cell 4;have x0:w2.cell? ⟨a,0,none⟩=some (.int .i64 (s:Int)):=kC.cell 0;have x1:w2.cell? ⟨a,1,none⟩=some (.slice (some ⟨l,0,none⟩) 1 c):=kC.cell 1;have cO:=(hO.keep f).at I;have L:=aM f Q;have aa:=(cG.1 R).1;have l0:(0:Int)<=(r:Int):=by omega
 have l1:(r:Int)<(bs.length:Int):=by omega
 have l2:(r:Int)<(ks.length:Int):=by omega
 have l3:(0:Int)<=(t:Int):=by omega
 have l4:(t:Int)<(bs.length:Int):=by omega
 have l5:(0:Int)<=(k:Int):=by omega
 have l6:(k:Int)<3:=by omega
 have HS:Hid (∀V,Below w2.heap.size w2 V->V.cell? ⟨E,3,none⟩=some (.slice (some ⟨u,0,none⟩) bs.length T)/\V.cell? ⟨u,t,none⟩=some (.int .i64 (bq:Int))/\V.cell? ⟨u,r,none⟩=some (.int .i64 (Y:Int))/\V.cell? ⟨a,0,none⟩=some (.int .i64 (s:Int))/\V.cell? ⟨a,1,none⟩=some (.slice (some ⟨l,0,none⟩) 1 c)):=fun V j=>⟨aM j k3,aM j O,aM j cT,aM j x0,aM j x1⟩
 have HR:Hid (∀V,Below w2.heap.size w2 V->V.cell? ⟨l,0,none⟩=some (.int .i64 (p:Int))/\aj V (a+1) #[.int .i64 0,.int .i64 0] 42/\Below w.heap.size w V):=fun V j=>⟨aM j L,(j.block _ kR.lt).trans kR,f.trans (j.mono f.size)⟩
 have S:Hid (w.heap.size=a):=g;have hz:a+1<w2.heap.size:=kR.lt;clear C K F M kD h2 h J hp kC f hx H N hq R hO Q kR B el;go_enter func107,ntmps107;go_upto_region 1 with fail
 rw[<-n];clear n g;go_upto_region 2 with fail
 clear k4 Z cO
 go_region_held3 (fun V=>V.cell? ⟨E,3,none⟩=some (.slice (some ⟨u,0,none⟩) bs.length T)/\V.cell? ⟨u,t,none⟩=some (.int .i64 (bq:Int))/\V.cell? ⟨u,r,none⟩=some (.int .i64 (Y:Int))/\V.cell? ⟨a,0,none⟩=some (.int .i64 (s:Int))/\V.cell? ⟨a,1,none⟩=some (.slice (some ⟨l,0,none⟩) 1 c)) ((refine HS.out _ ?_;first | with_reducible exact A | exact cV _ _ | exact(cV _ _).drew)) ((go_at_call 148;refine q.mono ?_;rintro e m⟨rfl,D⟩;have A:Below w2.heap.size w2 m:=⟨D.1,D.2,D.3,D.4,D.5⟩;clear q D))
 obtain⟨X,G,zk⟩:=HR.out m A;obtain⟨y3,y4,y5,z0,z1⟩:=HS.out m A;obtain⟨dv,z⟩:∃d,Tb.Vg k=d:=⟨_,rfl⟩;rw[z];have W:dv=1\/dv=2\/dv=4:=by
  rw[<-z];unfold Tb.Vg
  repeat' split
  all_goals omega
 have ab:a+1<m.heap.size:=G.lt;have AY:Hid (∀V,Below m.heap.size m V->V.cell? ⟨a,0,none⟩=some (.int .i64 (s:Int))/\V.cell? ⟨a,1,none⟩=some (.slice (some ⟨l,0,none⟩) 1 c)/\V.cell? ⟨l,0,none⟩=some (.int .i64 (p:Int))):=fun V j=>⟨aM j z0,aM j z1,aM j X⟩
 have e0:m.cell? ⟨a+1,0,none⟩=some (.int .i64 0):=G.cell 0;have e1:m.cell? ⟨a+1,1,none⟩=some (.int .i64 0):=G.cell 1;have ef:∀i,m.frozen? ⟨a+1,i,none⟩=false:=fun i=>G.frozen i
 have U:Hid (∀(y:Nat×Nat)(o:Obj)tmps,(y=(1,s)\/y=(2,p)\/y=(4,0))->tmps.getD 6 undef=.pointer (some ⟨a+1,0,none⟩)->bodyPost prog Tryz.f107 (fun e w'=>∃y:Nat×Nat,e=.returned (.agg #[.int .i64 (y.1:Int),.int .i64 (y.2:Int)])/\(y=(1,s)\/y=(2,p)\/y=(4,0))/\Below w.heap.size w w') .ret { tmps,defers:=[] } (((m.setCell ⟨a+1,0,none⟩ (.int .i64 (y.1:Int))).setCell ⟨a+1,1,none⟩ (.int .i64 (y.2:Int))).alloc o).drew):=fun y o tmps hy ht=>by
  have g:=S.out;have hs:Below w.heap.size w ((m.setCell ⟨a+1,0,none⟩ (.int .i64 (y.1:Int))).setCell ⟨a+1,1,none⟩ (.int .i64 (y.2:Int))):=(zk.setCell (p:=⟨a+1,0,none⟩) (by rw[g];show a<=a+1;omega) _).setCell (p:=⟨a+1,1,none⟩) (by rw[g];show a<=a+1;omega) _;exact pR rfl ht ((((G.set 0 _).set 1 _).alloc o).drew) (by kernel_rfl) (by kernel_rfl) ⟨y,rfl,hy,(hs.alloc hs.size o).drew⟩
 clear z cT O k3 x0 x1 L y3 y4 y5 HS HR I l5 l6 l0 l1 l2 l3 l4;go_wp2_with fail
 all_goals (rcases W with rfl | rfl | rfl)
 all_goals
  go_region_held3 (fun V=>V.cell? ⟨a,0,none⟩=some (.int .i64 (s:Int))/\V.cell? ⟨a,1,none⟩=some (.slice (some ⟨l,0,none⟩) 1 c)/\V.cell? ⟨l,0,none⟩=some (.int .i64 (p:Int))) ((refine AY.out _ ?_;repeat (first | with_reducible exact cV _ _ | with_reducible refine xO ?_ _ | with_reducible refine Kc ?_))) (fail)
  go_wp2_with fail
 all_goals first | exact U.out (1,s) _ _ (.inl rfl) rfl | exact U.out (2,p) _ _ (.inr (.inl rfl)) rfl | exact U.out (4,0) _ _ (.inr (.inr rfl)) rfl
section
open Go.ChangeShapes Go.WideShapes Go.RowKit
theorem MO : prog.globalNamed "comb/tabs.ofOneLevel" = some 1 := by kernel_rfl
theorem ak5{W:World}(h:laidMetH prog Rows.packAnyUptoRow.laid W):mD W:=by
 have h1 := (laidMetH_iff.1 (h.filter fun x => x.1 == "comb/tabs.ofOneLevel")).1
 have h2 : laidMet prog [("comb/tabs.ofOneLevel", Lib.tabData .i64 [2, 1, 4])] W := h1
 have h3:=Lib.tabIs_of_head (g:=1) (t:=296) (e:=3) (n:=3) MO (by kernel_rfl) (by kernel_rfl) (by kernel_rfl) (by kernel_rfl) (by kernel_rfl) h2;exact⟨h3.cell MO 0 (by decide),h3.cell MO 1 (by decide),h3.cell MO 2 (by decide)⟩
end
def Tb.can(s:Nat)(ps:List Nat)(y:Nat×Nat):Prop:=y=Tb.nQ (s,ps)\/Tb.lone (s,ps)=false/\∃p tl,ps=p::tl/\(y=(1,s)\/y=(2,p)\/y=(4,0))
def Tb.ln(x:Nat×List Nat):Nat:=match Tb.lone x with
 |true=>0
 |false=>1
structure iD(db:Nat)(vC:Value)(w w':World):Prop where
 os:w'.os=w.os
 tape:w'.tape=w.tape
 output:w'.output=w.output
 size:w.heap.size<=w'.heap.size
 block:∀k,k<w.heap.size->k≠db->vC.ownBlock≠some k->w'.heap[k]?=w.heap[k]?
theorem iD.below{b:Nat}{vC:Value}{w w':World}(h:Below w.heap.size w w'):iD b vC w w':=⟨h.1,h.2,h.3,h.4,fun k a _ _=>h.5 k a⟩
structure jV(w:World)(B db:Nat)(P:List Lx.Pd)(bs ks:List Nat)(v0 v1 vC:Value)(n st:Nat):Prop where
 r:l8 w db P bs ks v0 v1 vC (st:Int)
 own:∃cl,w.ownsRow B 243 4 vC n cl
 big:B<=w.heap.size
 no:db<B
def kU(w:World)(B db:Nat)(P:List Lx.Pd)(bs ks:List Nat)(v0 v1 vC:Value)(n st s:Nat)(ps:List Nat)(e:Ending)(w':World):Prop:=∃(y:Nat×Nat)(Xk:Value)(n' st':Nat),e=.returned (.agg #[.int .i64 (y.1:Int),.int .i64 (y.2:Int)])/\Tb.can s ps y/\jV w' B db P bs ks v0 v1 Xk n' st'/\n'<=n+Tb.ln (s,ps)/\st'<=st+1/\iD db vC w w'/\(Xk.ownBlock=vC.ownBlock\/∃g,Xk.ownBlock=some g/\w.heap.size<=g)
section
variable{w:World}{B db:Nat}{P:List Lx.Pd}{bs ks:List Nat}{v0 v1 vC:Value}{n st:Nat}
theorem jV.keep{w':World}(h:jV w B db P bs ks v0 v1 vC n st)(a:Below w.heap.size w w'):jV w' B db P bs ks v0 v1 vC n st:=by
 obtain⟨d,b⟩:=h.own;exact⟨h.r.keep a,⟨d,aD b fun k c=>a.block k (b.lt k c).2⟩,de h.big a.size,h.no⟩
theorem ajx(h:jV w B db P bs ks v0 v1 vC n st){d c:Int}{s:Nat}{v:Value}{a:List Nat}(f:bQ w v a)(g:Tb.lone (s,a)=true):Calls prog 67 #[.pointer (some ⟨db,0,none⟩),.int .i64 d,.int .i64 c,.agg #[.int .i64 (s:Int),v]] w (kU w B db P bs ks v0 v1 vC n st s a):=by
 refine(ahT f g).mono ?_;rintro e i⟨rfl,b⟩;exact⟨Tb.nQ (s,a),vC,n,st,rfl,.inl rfl,h.keep b,by omega,by omega,iD.below b,.inl rfl⟩
end
theorem Tryz.amy:(prog.info? 243).map (fun i=>(i.zero,i.size,i.bytes))=some (some (.agg #[.int .i64 0,.int .i64 0,.bool false,.slice none 0 0]),4,48):=by kernel_rfl
theorem Tryz.anC:prog.underlying 50=some (.slice 243):=by kernel_rfl
theorem bQ.off{w w':World}{v:Value}{l:List Nat}(h:bQ w v l)(i:∀g m c,v=.slice (some ⟨g,0,none⟩) m c->w'.heap[g]?=w.heap[g]?):bQ w' v l:=by
 obtain⟨a,c,rfl,b⟩:=h;refine⟨a,c,rfl,fun j x f=>?_⟩;obtain⟨g,rfl,d⟩:=b j x f;exact⟨g,rfl,(cM (w:=w) (i g _ _ rfl)).trans d⟩
theorem mD.off{w w':World}(h:mD w)(a:w'.heap[1]?=w.heap[1]?):mD w':=⟨(cM (w:=w) a).trans h.1,(cM (w:=w) a).trans h.2.1,(cM (w:=w) a).trans h.2.2⟩
theorem agj{w:World}{B f:Nat}{P:List Lx.Pd}{bs ks:List Nat}{v0 v1 vC:Value}{n st:Nat}(h:jV w B f P bs ks v0 v1 vC n st)(hO:mD w){si U:Nat}{s:Nat}{v:Value}{p k:Nat}{tl:List Nat}{x:Lx.Pd}(hi:bQ w v (p::tl))(hl:1<(p::tl).length\/((p::tl).length=1/\s≠0))(hx:P[p]?=some x)(E:x.prec<(bs.length:Int))(u:U<bs.length)(hk:ks[U]?=some k)(F:k<3)(hn:n<=1000000)(bf:st<=1000000000)(h1:1<f)(ak:∀g m c,v=.slice (some ⟨g,0,none⟩) m c->g≠f/\vC.ownBlock≠some g):Calls prog 67 #[.pointer (some ⟨f,0,none⟩),.int .i64 (si:Int),.int .i64 (U:Int),.agg #[.int .i64 (s:Int),v]] w (kU w B f P bs ks v0 v1 vC n st s (p::tl)):=by
 obtain⟨pa,pc,rfl,hp⟩:=hi;have hi:bQ w (.slice pa (p::tl).length pc) (p::tl):=⟨pa,pc,rfl,hp⟩;clear hp;obtain⟨w2,K⟩:∃V,V=(w.alloc (.cells #[.int .i64 (s:Int),.slice pa (p::tl).length pc] 166)).alloc (.cells #[.int .i64 0,.int .i64 0] 42):=⟨_,rfl⟩;obtain⟨a,L⟩:∃b,w.heap.size=b:=⟨_,rfl⟩;have aa:Below w.heap.size w w2:=by rw[K];exact((cV _ _).alloc (zL0) _).alloc (by simp) _
 have kC:aj w2 a #[.int .i64 (s:Int),.slice pa (p::tl).length pc] 166:=by rw[K,<-L];exact(aj.new ..).alloc _
 have kR:aj w2 (a+1) #[.int .i64 0,.int .i64 0] 42:=by
  rw[K,<-L];have:=aj.new (w.alloc (.cells #[.int .i64 (s:Int),.slice pa (p::tl).length pc] 166)) #[.int .i64 0,.int .i64 0] 42
  rwa [fd]at this
 have c0:w2.cell? ⟨a,0,none⟩=some (.int .i64 (s:Int)):=kC.cell 0;have c1:w2.cell? ⟨a,1,none⟩=some (.slice pa (p::tl).length pc):=kC.cell 1;have q1:=ag7 (w:=w2) (s:=s) (n:=(p::tl).length) (pa:=pa) (pc:=pc) hl;have H3:Hid (∀T,Below w2.heap.size w2 T->T.cell? ⟨a,0,none⟩=some (.int .i64 (s:Int))/\T.cell? ⟨a,1,none⟩=some (.slice pa (p::tl).length pc)/\aj T (a+1) #[.int .i64 0,.int .i64 0] 42/\bQ T (.slice pa (p::tl).length pc) (p::tl)/\Below w.heap.size w T):=fun T O=>⟨aM O c0,aM O c1,(O.block _ kR.lt).trans kR,(hi.keep aa).keep O,aa.trans (O.mono aa.size)⟩
 have al:Hid (w.heap.size=a):=L;have N:Hid (jV w B f P bs ks v0 v1 vC n st):=h;have HO:Hid (mD w):=hO;have HX:Hid (P[p]?=some x/\x.prec<(bs.length:Int)/\U<bs.length/\ks[U]?=some k/\k<3):=⟨hx,E,u,hk,F⟩;have HN:Hid (n<=1000000):=hn;have ar:Hid (Tb.lone (s,p::tl)=false):=by
  show _=_;rcases hl with hl|⟨h1,h2⟩
  ·unfold Tb.lone
   simp only;rw[eE (by omega),Bool.false_and]
  ·unfold Tb.lone
   simp only;rw[h1,eE h2];rfl
 have HE:Hid (∀g,pa=some ⟨g,0,none⟩->g≠f/\vC.ownBlock≠some g):=fun g e=>ak g _ _ (by rw[e])
 have ao:Hid (1<f/\f<a):=⟨h1,by rw[<-L];exact h.r.lt⟩;obtain⟨m,hm⟩:∃m,(p::tl).length=m:=⟨_,rfl⟩;have HM:Hid ((p::tl).length=m):=hm;rw[hm]at K c1 q1 H3|-;clear h hO hi hl hx E u hk F hn kC kR aa hm h1 ak;go_enter func67,ntmps67;go_upto_region 1 with fail
 rw[<-K];clear K L;go_upto_region 3 with (go_at_call 104;refine q1.mono ?_;rintro e T⟨rfl,S⟩)
 obtain⟨d0,d1,k3,ag,ab⟩:=H3.out T S;obtain⟨hx,E,u,hk,F⟩:=HX.out;have D3:=N.out.keep ab;have q2:=ag8 (s:=s) D3.r ag hx E u;have H4:Hid (∀d,Below T.heap.size T d->d.cell? ⟨a,0,none⟩=some (.int .i64 (s:Int))/\d.cell? ⟨a,1,none⟩=some (.slice pa m pc)/\aj d (a+1) #[.int .i64 0,.int .i64 0] 42/\bQ d (.slice pa m pc) (p::tl)/\Below w.heap.size w d):=fun d O=>⟨aM O d0,aM O d1,(O.block _ k3.lt).trans k3,ag.keep O,ab.trans (O.mono ab.size)⟩
 clear H3 S q1 c0 c1 k3 ag ab D3 hx E u hk F;go_upto_region 4 with (go_at_call 106;refine q2.mono ?_;rintro e d⟨b,rfl,am,ad⟩)
 ·obtain⟨rfl,ae⟩:=am (by assumption)
  obtain⟨q0,an⟩:=tP ae;obtain⟨e0,e1,k4,M,C⟩:=H4.out d ad;obtain⟨hx,E,u,hk,F⟩:=HX.out;have J:=N.out.keep C;have ai:=ao.out;have d6:d.cell? ⟨f,6,none⟩=some (.int .i64 (st:Int)):=by
   obtain⟨gP,pc,ba,bc,ka,kc,kD,-⟩:=J.r.ex;exact kD.cell 6
  have f6:d.frozen? ⟨f,6,none⟩=false:=by
   obtain⟨gP,pc,ba,bc,ka,kc,kD,-⟩:=J.r.ex;exact kD.frozen 6
  have aI:IntKind.i64.wrap ((st:Int)+1)=(st:Int)+1:=by rw[iz];omega
  obtain⟨A,fI⟩:∃V,V=d.setCell ⟨f,6,none⟩ (.int .i64 ((st:Int)+1)):=⟨_,rfl⟩;have D:∀g,g≠f->A.heap[g]?=d.heap[g]?:=fun g j=>by rw[fI];exact nA _ _ _ j
  have s5:A.heap.size=d.heap.size:=by rw[fI];simp
  have D5:l8 A f P bs ks v0 v1 vC ((st:Int)+1):=by rw[fI];exact J.r.aoS _
  have O5:mD A:=(HO.out.keep C).off (D 1 (by omega));have i5:bQ A (.slice pa m pc) [p]:=M.off fun g m' c' e=>D g (HE.out g (by cases e;rfl)).1
  have q3:=ag9 (s:=s) D5 O5 i5 hx an (by omega) u hk F;have k5:aj A (a+1) #[.int .i64 0,.int .i64 0] 42:=(D _ (by omega)).trans k4;have y0:A.cell? ⟨a,0,none⟩=some (.int .i64 (s:Int)):=(cM (w:=d) (D a (by omega))).trans e0;have y1:A.cell? ⟨a,1,none⟩=some (.slice pa m pc):=(cM (w:=d) (D a (by omega))).trans e1;have HF:Hid (∀l,Below A.heap.size A l->aj l (a+1) #[.int .i64 0,.int .i64 0] 42/\∀y:Nat×Nat,(y=(1,s)\/y=(2,p)\/y=(4,0))->kU w B f P bs ks v0 v1 vC n st s [p] (.returned (.agg #[.int .i64 (y.1:Int),.int .i64 (y.2:Int)])) ((l.setCell ⟨a+1,0,none⟩ (.int .i64 (y.1:Int))).setCell ⟨a+1,1,none⟩ (.int .i64 (y.2:Int)))):=fun l q=>by
   have Y:=(q.block _ k5.lt).trans k5;refine⟨Y,fun y hy=>?_⟩;obtain⟨o,G⟩:∃V,V=(l.setCell ⟨a+1,0,none⟩ (.int .i64 (y.1:Int))).setCell ⟨a+1,1,none⟩ (.int .i64 (y.2:Int)):=⟨_,rfl⟩;have o7:∀g,g≠a+1->o.heap[g]?=l.heap[g]?:=fun g j=>by rw[G,nA _ _ _ j,nA _ _ _ j]
   have s7:o.heap.size=l.heap.size:=by rw[G];simp
   have L:=al.out;have bb:=q.size;have bd:=C.size;have fr:o.os=w.os/\o.tape=w.tape/\o.output=w.output:=by
    rw[G];exact⟨q.os.trans (by rw[fI];exact C.os),q.tape.trans (by rw[fI];exact C.tape),q.output.trans (by rw[fI];exact C.output)⟩
   have X:iD f vC w o:=⟨fr.1,fr.2.1,fr.2.2,by omega,fun g j hn _=>by rw[o7 g (by omega),q.block g (by omega),D g hn,C.block g j]⟩;obtain⟨cl,ho⟩:=J.own;have a3:∀g,vC.ownBlock=some g->g<d.heap.size/\g≠f/\g≠a+1:=fun g j=>by
    have h1:=ho.lt g j;refine⟨h1.2,?_,?_⟩
    ·have:=N.out.no
     omega
    ·rintro rfl
     obtain⟨a5,af⟩:=N.out.own;have:=(af.lt _ j).2;omega
   rw[<-G];refine⟨y,vC,n,st+1,rfl,.inr ⟨ar.out,p,[],rfl,hy⟩,⟨?_,⟨cl,aD ho fun g j=>?_⟩,by have:=J.big;omega,N.out.no⟩,by omega,by omega,X,.inl rfl⟩
   ·have:=(D5.keep q).grow (w':=o) ⟨by rw[G];rfl,by rw[G];rfl,by rw[G];rfl,by omega,fun g j=>o7 g (by omega)⟩ (o7 f (by omega))
    exact this
   ·obtain⟨h1,h2,h3⟩:=a3 g j
    rw[o7 g h3,q.block g (by omega),D g h2]
  clear H4 HX J hx E u hk F M C k4 O5 D5 i5 D s5 ae an am N HO HE k5 ad e0 e1 ai;go_upto_region 5 with fail
  rw[<-fI];clear fI
  go_wp2_with (go_at_call 107;refine q3.mono ?_;rintro e l⟨y,rfl,hy,q⟩;obtain⟨Y,Q⟩:=HF.out l q;have z0:l.cell? ⟨a+1,0,none⟩=some (.int .i64 0):=Y.cell 0;have z1:l.cell? ⟨a+1,1,none⟩=some (.int .i64 0):=Y.cell 1;have zf:∀i,l.frozen? ⟨a+1,i,none⟩=false:=Y.frozen;clear q3)
  exact pR rfl rfl ((Y.set 0 _).set 1 _) (by kernel_rfl) (by kernel_rfl) (Q y hy)
 ·obtain⟨e0,e1,k4,M,C⟩:=H4.out d ad
  have J:=N.out.keep C;obtain⟨cl,ho⟩:=J.own;obtain⟨ca,cc,Xl,-⟩:=aC ho;subst Xl;have ai:=ao.out;have aH:=al.out;have aG:=HN.out;obtain⟨gP,pP,ba,bc,ka,kc,kD,-⟩:=J.r.ex;have d5:d.cell? ⟨f,5,none⟩=some (.slice ca n cc):=kD.cell 5;have a0:f<d.heap.size:=kD.lt;obtain⟨sb,aP⟩:∃b,((s:Int) != 0)=b:=⟨_,rfl⟩;obtain⟨i0,a8,az,aA,av⟩:=ft Tryz.amy;have o3:(d.alloc (.cells #[.int .i64 (si:Int),.int .i64 (U:Int),.bool sb,.slice pa m pc] 243)).drew.ownsRow B 243 4 (.slice ca n cc) n cl:=aD (ho.alloc (.cells #[.int .i64 (si:Int),.int .i64 (U:Int),.bool sb,.slice pa m pc] 243)) fun _ _=>rfl
  have iK:aj (d.alloc (.cells #[.int .i64 (si:Int),.int .i64 (U:Int),.bool sb,.slice pa m pc] 243)).drew f _ 97:=(kD.alloc _).drew;have aq:(Value.slice ca n cc).ownBlock≠some f:=fun e=>by have:=(ho.lt f e).1;have:=N.out.no;omega
  have S:B<=(d.alloc (.cells #[.int .i64 (si:Int),.int .i64 (U:Int),.bool sb,.slice pa m pc] 243)).drew.heap.size:=by have:=J.big;show _<=(d.alloc _).heap.size;simp;omega
  have l1:a<d.heap.size:=by have:=k4.lt;omega
  clear H4 ad
  go_region_law (refine step_append_lies _ rfl (.tmp 33) (.tmp 42) 50 rfl B 243 i0 _ 4 48 Tryz.anC a8 az aA av rfl (by decide) (.slice ca n cc) n cl (by simp[Act.eval]) o3 ⟨d.heap.size,0,none⟩ 1 1 [.int .i64 (si:Int),.int .i64 (U:Int),.bool sb,.slice pa m pc] (by simp[Act.eval]) rfl (eO (aj.new d _ 243).drew) (by simp[Value.oneCell']) (by decide) (by unfold maxLen;omega) (by omega) S _ rfl ?_;intro g5 ap A t W jc JO;have vZ:=iK.grown W (fun e=>aq e.symm);have aE:A.cell? ⟨f,5,none⟩=some (.slice ca n cc):=vZ.cell 5;have a9:=vZ.frozen 5)
  all_goals
   obtain⟨v5,ah⟩:∃v,v=Value.slice (some ⟨g5,0,none⟩) (n+1) ap:=⟨_,rfl⟩;have R:v5.ownBlock=some g5:=by
    rw[ah];rfl
   rw[<-ah]at t|-;obtain⟨l,vV⟩:∃V,V=A.setCell ⟨f,5,none⟩ v5:=⟨_,rfl⟩;rw[<-vV];obtain⟨H,hH⟩:∃H,H=(d.alloc (.cells #[.int .i64 (si:Int),.int .i64 (U:Int),.bool sb,.slice pa m pc] 243)).drew.heap.size:=⟨_,rfl⟩;have aw:H=d.heap.size+1:=by
    rw[hH];show (d.alloc _).heap.size=_;rw[fd]
   rw[<-hH]at jc;have o6:∀g,g≠f->l.heap[g]?=A.heap[g]?:=fun g j=>by rw[vV];exact nA _ _ _ j
   have s6:l.heap.size=A.heap.size:=by rw[vV];simp
   have D:∀g,g<d.heap.size->(Value.slice ca n cc).ownBlock≠some g->A.heap[g]?=d.heap[g]?:=fun g j hn=>by
    rw[W.block g (by omega) (fun e=>hn e.symm)];show (d.alloc _).heap[g]?=_;exact dg _ _ _ j
   have s5:H<=A.heap.size:=by rw[hH];exact W.size
   have a7:=N.out.no;have I:∀g,(Value.slice ca n cc).ownBlock=some g->B<=g/\g<a:=fun g j=>by
    obtain⟨a5,af⟩:=N.out.own;have:=af.lt g j;omega
   have a1:=C.size;have Qu:l.os=w.os/\l.tape=w.tape/\l.output=w.output:=by
    rw[vV];exact⟨W.os.trans C.os,W.tape.trans C.tape,W.output.trans C.output⟩
   have R6:l8 l f P bs ks v0 v1 v5 (st:Int):=by
    rw[vV];refine l8.aoR (v5:=.slice ca n cc) (J.r.grow ⟨W.os,W.tape,W.output,by omega,fun g j=>D g (by omega) fun e=>?_⟩ (D f a0 aq)) v5;have:=(I g e).1;omega
   have i6:bQ l (.slice pa m pc) (p::tl):=by
    refine M.off fun g m' c' e=>?_
    obtain⟨h1,h2⟩:=HE.out g (by cases e;rfl);rw[o6 g h1];cases e;obtain⟨_,_,e',a2⟩:=M;cases e';obtain⟨g',e',a6⟩:=a2 0 p rfl;cases e';exact D g (Jj a6) h2
   have nb:∀g,g=a\/g=a+1->l.heap[g]?=d.heap[g]?:=fun g j=>by
    rw[o6 g (by omega)];refine D g (by have:=k4.lt;omega) fun e=>?_
    have:=(I g e).2;omega
   have q7:=Yo (s:=s) i6;have Y:aj l (a+1) #[.int .i64 0,.int .i64 0] 42:=(nb _ (.inr rfl)).trans k4;have y0:l.cell? ⟨a,0,none⟩=some (.int .i64 (s:Int)):=(cM (w:=d) (nb a (.inl rfl))).trans e0;have y1:l.cell? ⟨a,1,none⟩=some (.slice pa m pc):=(cM (w:=d) (nb a (.inl rfl))).trans e1;obtain⟨z,hz⟩:∃z,Tb.nQ (s,p::tl)=z:=⟨_,rfl⟩;have HF:Hid (∀o,Below l.heap.size l o->aj o (a+1) #[.int .i64 0,.int .i64 0] 42/\kU w B f P bs ks v0 v1 (.slice ca n cc) n st s (p::tl) (.returned (.agg #[.int .i64 (z.1:Int),.int .i64 (z.2:Int)])) ((o.setCell ⟨a+1,0,none⟩ (.int .i64 (z.1:Int))).setCell ⟨a+1,1,none⟩ (.int .i64 (z.2:Int)))):=fun o Z=>by
    refine⟨(Z.block _ Y.lt).trans Y,?_⟩;obtain⟨w8,ac⟩:∃V,V=(o.setCell ⟨a+1,0,none⟩ (.int .i64 (z.1:Int))).setCell ⟨a+1,1,none⟩ (.int .i64 (z.2:Int)):=⟨_,rfl⟩;have o8:∀g,g≠a+1->w8.heap[g]?=o.heap[g]?:=fun g j=>by rw[ac,nA _ _ _ j,nA _ _ _ j]
    have s8:w8.heap.size=o.heap.size:=by rw[ac];simp
    have aF:=Z.size;have Ia:w8.os=o.os/\w8.tape=o.tape/\w8.output=o.output:=by rw[ac];exact⟨rfl,rfl,rfl⟩
    have a4:g5≠a+1:=by
     rcases jc with e|e
     ·have:=(I g5 e).2
      omega
     ·have:=k4.lt
      omega
    have aY:=t.lt g5 R;rw[<-ac];refine⟨z,v5,n+1,st,rfl,.inl hz.symm,⟨?_,⟨_,aD t fun g j=>?_⟩,by have:=J.big;omega,a7⟩,by unfold Tb.ln;rw[ar.out];exact zL0,by omega,⟨Ia.1.trans (Z.os.trans Qu.1),Ia.2.1.trans (Z.tape.trans Qu.2.1),Ia.2.2.trans (Z.output.trans Qu.2.2),by omega,fun g j hn ax=>?_⟩,?_⟩
    ·exact(R6.keep Z).grow (w':=w8) ⟨Ia.1,Ia.2.1,Ia.2.2,by omega,fun g j=>o8 g (by omega)⟩ (o8 f (by omega))
    ·obtain rfl:g5=g:=by rw[R]at j;cases j;rfl
     rw[o8 _ a4,Z.block _ (by omega),o6 _ (by omega)]
    ·rw[o8 g (by omega),Z.block g (by omega),o6 g hn,D g (by omega) ax,C.block g j]
    ·rcases jc with e | e
     ·exact .inl (R.trans e.symm)
     ·exact .inr ⟨g5,R,by omega⟩
   rw[hz]at q7;clear t W jc vV ah R vZ aE a9 R6 i6 nb o6 D s6 s5 Qu hH aw J ho o3 iK S kD d5 M C k4 I a1 e0 e1 N HO HE Y
   go_wp2_with (go_at_call 105;refine q7.mono ?_;rintro e o⟨rfl,Z⟩;obtain⟨k7,Q⟩:=HF.out o Z;have z0:o.cell? ⟨a+1,0,none⟩=some (.int .i64 0):=k7.cell 0;have z1:o.cell? ⟨a+1,1,none⟩=some (.int .i64 0):=k7.cell 1;have zf:∀i,o.frozen? ⟨a+1,i,none⟩=false:=k7.frozen;clear q7)
   exact pR rfl rfl ((k7.set 0 _).set 1 _) (by kernel_rfl) (by kernel_rfl) Q
theorem ak6{w:World}{B a:Nat}{P:List Lx.Pd}{bs ks:List Nat}{v0 v1 vC:Value}{n st:Nat}(h:jV w B a P bs ks v0 v1 vC n st)(z:mD w){A u:Nat}{s:Nat}{v:Value}{d:List Nat}(r:bQ w v d)(j:∀p∈d,p<P.length)(y:∀x∈P,x.prec<(bs.length:Int))(f:u<bs.length)(l:ks.length=bs.length)(o:∀k∈ks,k<3)(C:n<=1000000)(i:st<=1000000000)(h1:1<a)(q:∀g m c,v=.slice (some ⟨g,0,none⟩) m c->g≠a/\vC.ownBlock≠some g):Calls prog 67 #[.pointer (some ⟨a,0,none⟩),.int .i64 (A:Int),.int .i64 (u:Int),.agg #[.int .i64 (s:Int),v]] w (kU w B a P bs ks v0 v1 vC n st s d):=by
 cases hl:Tb.lone (s,d) with
 |true=>exact ajx h r hl
 |false=>
  cases d with
  |nil=>unfold Tb.lone at hl;simp at hl
  |cons p tl=>
   have t:=j p ed;refine agj h z r ?_ (cF t) (y _ (du t)) f (cF (by rw[l];exact f)) (o _ (du _)) C i h1 q
   by_cases hm:1<(p::tl).length
   ·exact .inl hm
   ·have b:(p::tl).length=1:=by rw[ev]at hm|-;omega
    refine .inr ⟨b,fun e=>?_⟩;unfold Tb.lone at hl;simp only at hl;rw[b,e]at hl;cases hl
section
variable{w W W':World}{B db:Nat}{P:List Lx.Pd}{bs ks:List Nat}{v0 v1 vC:Value}{n st:Nat}
theorem jV.kD(h:jV W B db P bs ks v0 v1 vC n st):Kd W db 97:=by
 obtain⟨g,f,b,d,a,c,kD,-⟩:=h.r.ex;exact⟨_,kD⟩
theorem jV.kC(h:jV W B db P bs ks v0 v1 vC n st){g:Nat}(a:vC.ownBlock=some g):Kd W g 243:=by
 obtain⟨c,b⟩:=h.own;exact gQ b a
theorem iD.kept(b:iD db vC W W')(h:jV W B db P bs ks v0 v1 vC n st){g t:Nat}(a:Kd W g t)(h1:t≠97)(h2:t≠243):W'.heap[g]?=W.heap[g]?:=by
 obtain⟨y,c⟩:=id a;exact b.block g (ek.1 c).1 (a.ne h.kD h1) fun e=>(a.ne (h.kC e) h2) rfl
theorem iD.mx{B' f c b m N:Nat}{gs:List Nat}{rs:List (List Value)}(k:iD db vC W W')(h:jV W B db P bs ks v0 v1 vC n st)(a:Mx W B' f c b m N W gs rs)(h1:c≠97/\c≠243)(h2:b≠97/\b≠243):Mx W' B' f c b m N W' gs rs :=
 ⟨(k.kept h ⟨_,a.out⟩ h1.1 h1.2).trans a.out,a.len,fun i g r j d=>(k.kept h ⟨_,a.row i g r j d⟩ h2.1 h2.2).trans (a.row i g r j d),a.nd,a.lo,a.no,cV _ _,a.ne,a.le⟩
theorem Mx.self{B' c d b m N:Nat}{gs:List Nat}{rs:List (List Value)}(a:Mx w B' c d b m N W gs rs):Mx W B' c d b m N W gs rs:=⟨a.out,a.len,a.row,a.nd,a.lo,a.no,cV _ _,a.ne,a.le⟩
theorem iD.trans{w1 w2:World}{c:Value}(h:iD db vC w w1)(a:iD db c w1 w2)(f:c.ownBlock=vC.ownBlock\/∃g,c.ownBlock=some g/\w.heap.size<=g):iD db vC w w2:=⟨a.os.trans h.os,a.tape.trans h.tape,a.output.trans h.output,de h.size a.size,fun k d h1 h2=>(a.block k (dd d h.size) h1 fun e=>by
 rcases f with b|⟨g,b,i⟩
 ·exact h2 (b▸e)
 ·rw[e]at b
  cases b;omega).trans (h.block k d h1 h2)⟩
theorem iD.TN(h:iD db vC w W){g k:Nat}(b:w.heap.size<=g)(v:Value):iD db vC w (W.setCell ⟨g,k,none⟩ v):=⟨h.os,h.tape,h.output,by rw[show (W.setCell ⟨g,k,none⟩ v).heap.size=W.heap.size by simp];exact h.size,fun j a h1 h2=>(nA _ _ _ (by show j≠g;omega)).trans (h.block j a h1 h2)⟩
theorem jV.set(h:jV W B db P bs ks v0 v1 vC n st){g t k:Nat}(a:Kd W g t)(h1:t≠97)(h2:t≠243)(hd:db<=g)(v:Value):jV (W.setCell ⟨g,k,none⟩ v) B db P bs ks v0 v1 vC n st:=by
 obtain⟨d,f⟩:=h.own;have c:(W.setCell ⟨g,k,none⟩ v).heap.size=W.heap.size:=by simp
 refine⟨h.r.grow ((cV _ _).setCell (p:=⟨g,k,none⟩) hd v) (nA _ _ _ (a.ne h.kD h1).symm),⟨d,aD f fun j b=>nA _ _ _ ((h.kC b).ne a (fun e=>h2 e.symm))⟩,by rw[c];exact h.big,h.no⟩
end
abbrev Cu(r:List (Nat×List Nat))(c:List (Nat×Nat)):Prop:=∀(k:Nat)(x:Nat×List Nat)(y:Nat×Nat),r[k]?=some x->c[k]?=some y->Tb.can x.1 x.2 y
def vJ(n:Nat)(dD:Tb.CH)(C:List (List (Nat×Nat))):Prop:=∀(i:Nat)(r:List (Nat×List Nat))(c:List (Nat×Nat)),dD[i]?=some r->C[i]?=some c->c.length=n/\Cu r c
def zW(w:World)(db gO n N:Nat)(P:List Lx.Pd)(bs ks:List Nat)(v0 v1:Value)(L:Prop)(c:Nat)(wr:World)(gs:List Nat)(rs:List (List Value)):Prop:=∃(vC:Value)(n' st':Nat),Mx wr gO gO 121 42 n N wr gs rs/\jV wr (db+1) db P bs ks v0 v1 vC n' st'/\n'<=c/\st'<=c/\(L->n'=0)/\iD db (.slice none 0 0) w wr/\(vC.ownBlock=none\/∃g,vC.ownBlock=some g/\w.heap.size<=g)
def Qv(w:World)(db:Nat)(P:List Lx.Pd)(bs ks:List Nat)(v0 v1:Value)(n:Nat)(dD:Tb.CH)(e:Ending)(w':World):Prop:=∃(v:Value)(C:List (List (Nat×Nat)))(vC:Value)(n' st':Nat),e=.returned v/\EF w' v C/\C.length=dD.length/\vJ n dD C/\jV w' (db+1) db P bs ks v0 v1 vC n' st'/\((∀r∈dD,∀x∈r,Tb.lone x=true)->n'=0)/\iD db (.slice none 0 0) w w'
theorem amz{r:List (Nat×List Nat)}{c:List (Nat×Nat)}{k:Nat}{x:Nat×List Nat}{y:Nat×Nat}(h:Cu r c)(d:c.length=k)(j:r[k]?=some x)(f:Tb.can x.1 x.2 y):Cu r (c++[y]):=fun i b g h1 h2=>by
 rw[ir]at h2
 split at h2
 ·exact h i b g h1 h2
 ·have a:=(cG.1 h2).1
  simp only[List.length_singleton]at a;obtain rfl:i=k:=by omega
  rw[j]at h1;rw[d,ib]at h2;cases h1;cases h2;exact f
theorem ak7{n:Nat}{b:Tb.CH}{C:List (List (Nat×Nat))}{j:Nat}{r:List (Nat×List Nat)}{c:List (Nat×Nat)}(h:vJ n b C)(l:C.length=j)(g:b[j]?=some r)(k:c.length=n)(a:Cu r c):vJ n b (C++[c]):=fun i m d h1 h2=>by
 rw[ir]at h2
 split at h2
 ·exact h i m d h1 h2
 ·have f:=(cG.1 h2).1
  simp only[List.length_singleton]at f;obtain rfl:i=j:=by omega
  rw[g]at h1;rw[l,ib]at h2;cases h1;cases h2;exact⟨k,a⟩
section
variable{w wz:World}{db gO n N:Nat}{P:List Lx.Pd}{bs ks:List Nat}{v0 v1:Value}{L:Prop}{c:Nat}{gs:List Nat}
theorem zW.cell{v b:World}{pr:List (List Value)}{cs:List (Nat×Nat)}{j k a:Nat}{s:Nat}{C:List Nat}{vC x:Value}{n1 n2 D z:Nat}{y:Nat×Nat}(hw:w.heap.size=gO)(aa:db<gO)(Q:Mx wz gO gO 121 42 n N wz gs (pr++[(cs++List.replicate (n-k) (0,0)).flatMap eX]))(hD:jV wz (db+1) db P bs ks v0 v1 vC n1 D)(hn:n1<=c)(hs:D<=c)(hL:L->n1=0)(U:iD db (.slice none 0 0) w wz)(M:vC.ownBlock=none\/∃g,vC.ownBlock=some g/\w.heap.size<=g)(l:Below wz.heap.size wz v)(F:jV b (db+1) db P bs ks v0 v1 x n2 z)(d:n2<=n1+Tb.ln (s,C))(W:z<=D+1)(q:iD db vC v b)(H:x.ownBlock=vC.ownBlock\/∃g,x.ownBlock=some g/\v.heap.size<=g)(X:L->Tb.lone (s,C)=true)(f:pr.length=j)(o:cs.length=k)(hk:k<n)(hgi:gs[j]?=some a):b.cell? ⟨gO,j,none⟩=some (.slice (some ⟨a,0,none⟩) n n)/\b.cell? ⟨a,k*2,none⟩=some (.int .i64 0)/\b.cell? ⟨a,k*2+1,none⟩=some (.int .i64 0)/\(∀i,b.frozen? ⟨a,i,none⟩=false)/\zW w db gO n N P bs ks v0 v1 L (c+1) ((b.setCell ⟨a,k*2,none⟩ (.int .i64 (y.1:Int))).setCell ⟨a,k*2+1,none⟩ (.int .i64 (y.2:Int))) gs (pr++[(cs++[y]++List.replicate (n - (k+1)) (0,0)).flatMap eX]):=by
 have G:=hD.keep l;have m:=q.mx G (Q.move l).self (by decide) (by decide);have J:(pr++[(cs++List.replicate (n-k) (0,0)).flatMap eX])[j]?=some ((cs++List.replicate (n-k) (0,0)).flatMap eX):=by
  rw[eN (by omega),f,ib];rfl
 have R:(cs++List.replicate (n-k) ((0,0):Nat×Nat))[k]?=some (0,0):=by
  rw[eN (by omega),o,ib,jn,dj (by omega)]
 obtain⟨f1,T⟩:=Ji _ _ _ R;have I:=cJ hgi;have V:=Q.lo a I;refine⟨m.Cm hgi,by rw[m.EH hgi J];exact f1,by rw[m.EH hgi J];exact T,fun i=>m.frozen hgi i,?_⟩;have O:=(m.set (k:=k*2) hgi J (.int .i64 (y.1:Int))).self;have E:((pr++[(cs++List.replicate (n-k) (0,0)).flatMap eX]).set j (((cs++List.replicate (n-k) (0,0)).flatMap eX).set (k*2) (.int .i64 (y.1:Int))))[j]?=some (((cs++List.replicate (n-k) (0,0)).flatMap eX).set (k*2) (.int .i64 (y.1:Int))):=by
  rw[fx,dj rfl,dj (by rw[cH,f];show j<j+1;omega)]
 have u:=(O.set (k:=k*2+1) hgi E (.int .i64 (y.2:Int))).self;rw[List.set_set]at u;have e:=YR (cs++List.replicate (n-k) (0,0)) k y;rw[e]at u;have S:(cs++List.replicate (n-k) ((0,0):Nat×Nat)).set k y=cs++[y]++List.replicate (n - (k+1)) (0,0):=by
  rw[mB _ _ (by omega),o,ib,show n-k=(n - (k+1))+1 by omega,nh,oe,dq];rfl
 rw[S,mB _ _ (by omega),f,ib,oe]at u;have A:Kd b a 42:=by
  obtain⟨Z,-,B⟩:=m.rowAt hgi;exact⟨_,B⟩
 have K:Kd (b.setCell ⟨a,k*2,none⟩ (.int .i64 (y.1:Int))) a 42:=by
  obtain⟨Z,-,B⟩:=O.rowAt hgi;exact⟨_,B⟩
 have p:db<=a:=by omega
 have t:iD db (.slice none 0 0) w v:=U.trans (iD.below (vC:=.slice none 0 0) l) (.inl rfl);have Y:iD db (.slice none 0 0) w b:=t.trans q (by
  rcases M with h|h
  ·exact .inl h
  ·exact .inr h)
 have hsz:=t.size;refine⟨x,n2,z,u,(F.set A (by decide) (by decide) p _).set K (by decide) (by decide) p _,?_,by omega,fun r=>?_,(Y.TN (by omega) _).TN (by omega) _,?_⟩
 ·have:Tb.ln (s,C)<=1:=by
   unfold Tb.ln
   split <;> omega
  omega
 ·have h0:=hL r
  have h2:=X r;unfold Tb.ln at d;rw[h2]at d;simp only at d;omega
 ·rcases H with h | ⟨g,h,hg⟩
  ·rw[h]
   exact M
  ·exact .inr ⟨g,h,by omega⟩
end
theorem ajy{w:World}{f:Nat}{P:List Lx.Pd}{bs ks:List Nat}{v0 v1 vc:Value}{a:Tb.CH}{n:Nat}(F:jV w (f+1) f P bs ks v0 v1 (.slice none 0 0) 0 0)(hO:mD w)(hc:LB (f+1) w.heap.size w vc a)(hn:∀r∈a,r.length=n)(aq:∀r∈a,∀x∈r,∀p∈x.2,p<P.length)(hP:∀x∈P,x.prec<(bs.length:Int))(a0:bs.length=n)(ar:ks.length=bs.length)(av:∀k∈ks,k<3)(hS:a.length<=100000)(hN:n<=100000)(vX:a.length*n<=1000000)(h1:1<f):Calls prog 38 #[.pointer (some ⟨f,0,none⟩),vc] w (Qv w f P bs ks v0 v1 n a):=by
 obtain⟨ca,cc,rfl,ao⟩:=hc;obtain⟨E,iC⟩:∃b,w.heap.size=b:=⟨_,rfl⟩;obtain⟨L,hL⟩:∃L,L=∀r∈a,∀x∈r,Tb.lone x=true:=⟨_,rfl⟩;obtain⟨w2,W⟩:∃V,V=w.alloc (.cells (vA (List.replicate a.length (Value.slice none 0 0))) 121):=⟨_,rfl⟩;have Y:Below w.heap.size w w2:=by rw[W];exact(cV _ _).alloc (zL0) _
 have an:Mx w2 E E 121 42 n a.length w2 [] []:=by rw[W,<-iC];exact(Mx.new w n a.length (by decide)).self
 have aa:=fun w=>afK (n:=a.length) hS w
 have ad:=fun w=>ahU (n:=n) hN w
 have HC:Hid (∀wr,iD f (.slice none 0 0) w wr->∀(j:Nat)r,a[j]?=some r->∃g xa xc,ca=some ⟨g,0,none⟩/\wr.cell? ⟨g,j,none⟩=some (.slice xa n xc)/\∀q,iD f (.slice none 0 0) w q->∀(k:Nat)x,r[k]?=some x->∃h v,xa=some ⟨h,0,none⟩/\q.cell? ⟨h,k*2,none⟩=some (.int .i64 (x.1:Int))/\q.cell? ⟨h,k*2+1,none⟩=some v/\bQ q v x.2/\∀g m c,v=.slice (some ⟨g,0,none⟩) m c->f+1<=g/\g<w.heap.size):=fun wr hx j r hr=>by
  have ha:∀{V},iD f (.slice none 0 0) w V->∀k,f+1<=k->k<w.heap.size->V.heap[k]?=w.heap[k]?:=fun h k h1 h2=>h.block k h2 (by omega) (fun e=>by cases e)
  obtain⟨g,xa,xc,h1,h2,h3⟩:=ao wr (ha hx) j r hr;rw[hn r (cJ hr)]at h2;exact⟨g,xa,xc,h1,h2,fun q hz=>h3 q (ha hz)⟩
 have HQ:Hid (∀(q:World)(vC:Value)(n' U si tk s:Nat)(v:Value)(R:List Nat),jV q (f+1) f P bs ks v0 v1 vC n' U->iD f (.slice none 0 0) w q->(vC.ownBlock=none\/∃g,vC.ownBlock=some g/\w.heap.size<=g)->bQ q v R->(∀p∈R,p<P.length)->tk<n->n'<=1000000->U<=1000000->(∀g m c,v=.slice (some ⟨g,0,none⟩) m c->f+1<=g/\g<w.heap.size)->∀N,Below q.heap.size q N->Calls prog 67 #[.pointer (some ⟨f,0,none⟩),.int .i64 (si:Int),.int .i64 (tk:Int),.agg #[.int .i64 (s:Int),v]] N (kU N (f+1) f P bs ks v0 v1 vC n' U s R)):=fun q vC n' U si tk s v R a6 H O S hp ht a4 a9 Q N hb=>by
  have h2:=F.r.lt;have a3:mD q:=hO.off (H.block 1 (by omega) (by omega) (fun e=>by cases e));refine ak6 (a6.keep hb) (a3.keep hb) (S.keep hb) hp hP (by omega) ar av a4 (by omega) h1 fun g m c e=>?_
  obtain⟨a1,a2⟩:=Q g m c e;refine⟨by omega,fun e2=>?_⟩;rcases O with h|⟨g',h,aE⟩
  ·rw[h]at e2
   cases e2
  ·rw[h]at e2
   cases e2;omega
 have H0:Hid (∃t B,t.length=0/\zW w f E n a.length P bs ks v0 v1 L (0*n) w2 t (B.map (List.flatMap eX))/\vJ n a B):=⟨[],[],rfl,⟨.slice none 0 0,0,0,an,F.keep Y,ff _,ff _,fun _=>rfl,iD.below Y,.inl rfl⟩,fun i r c _ h=>by simp at h⟩;have HG:Hid (w.heap.size=E/\f<E):=⟨iC,by rw[<-iC];exact F.r.lt⟩;have ah:Hid (L=∀r∈a,∀x∈r,Tb.lone x=true):=hL;have qP:Hid (a.length*n<=1000000):=vX;have Pm:Hid (∀r∈a,r.length=n/\∀x∈r,∀p∈x.2,p<P.length):=fun r hr=>⟨hn r hr,aq r hr⟩
 clear ao an F hO hn aq hP a0 ar av vX h1 hL Y;go_enter func38,ntmps38;go_upto_region 2 with (simp only[aa])
 rw[<-W];clear W iC;go_wp2_with fail
 go_loopw [15] (fun i wr=>∃j:Nat,j<=a.length/\i=.int .i64 (j:Int)/\Hid (∃t B,t.length=j/\zW w f E n a.length P bs ks v0 v1 L (j*n) wr t (B.map (List.flatMap eX))/\vJ n a B)) (fun i _=>a.length - (intOf i).toNat)
 case atStart=>exact⟨0,by omega,rfl,H0⟩
 case round=>
  clear H0;obtain⟨j,hj,rfl,HI⟩:=hrel;obtain⟨t,B,K,⟨vC,n1,s1,D,F,u,z,A,H,O⟩,d⟩:=HI.out;clear HI
  by_cases hjn:j<a.length
  ·have j1:(j:Int)<(a.length:Int):=by omega
   obtain⟨r,hr⟩:∃r,a[j]?=some r:=⟨_,cF hjn⟩;obtain⟨g,xa,xc,rfl,c1,ak⟩:=HC.out wr H j r hr;have ag:wr.cell? ⟨E,j,none⟩=some (.slice none 0 0):=by
    rw[D.out.cell,ge,eN (by rw[dk];omega),dk,K,ib,jn,dj (by omega)]
   have dO:∀o,(wr.alloc o).cell? ⟨E,j,none⟩=some (.slice none 0 0):=fun o=>(cM (w:=wr) (dg _ _ _ D.out.lt)).trans ag
   have fO:∀o,(wr.alloc o).frozen? ⟨E,j,none⟩=false:=fun o=>(D.out.alloc o).frozen j
   have hP:=(D.push (by omega) ((List.replicate n ((0,0):Nat×Nat)).flatMap eX)).self;rw[K]at hP;have I:B.length=j:=by
    have:=D.len;rw[dk]at this;omega
   obtain⟨J,hJ⟩:∃J,j*n=J:=⟨_,rfl⟩;have HJ:Hid (J+n<=1000000/\(j+1)*n=J+n):=by
    have h1:(j+1)*n<=a.length*n:=jj n (by omega);have h2:(j+1)*n=J+n:=by rw[mf,hJ]
    have h3:=qP.out;exact⟨by omega,h2⟩
   rw[hJ]at u z;have hg:=HG.out;have af:Below wr.heap.size wr (wr.alloc (.cells ((List.replicate n ((0,0):Nat×Nat)).flatMap eX).toArray 42)):=(cV _ _).alloc (zL0) _;have al:Kd (wr.alloc (.cells ((List.replicate n ((0,0):Nat×Nat)).flatMap eX).toArray 42)) E 121:=⟨_,D.out.alloc _⟩;have H1:Hid (∃t C,t.length=j+1/\C.length=0/\zW w f E n a.length P bs ks v0 v1 L (J+0) ((wr.alloc (.cells ((List.replicate n ((0,0):Nat×Nat)).flatMap eX).toArray 42)).setCell ⟨E,j,none⟩ (.slice (some ⟨wr.heap.size,0,none⟩) n n)) t (B.map (List.flatMap eX)++[(C++List.replicate (n-0) (0,0)).flatMap eX])/\Cu r C):=⟨t++[wr.heap.size],[],by rw[cH,K];rfl,rfl,⟨vC,n1,s1,hP,(F.keep af).set al (by decide) (by decide) (by omega) _,u,z,A,(H.trans (iD.below (vC:=.slice none 0 0) af) (.inl rfl)).TN (by omega) _,O⟩,fun k x y _ h=>by simp at h⟩;have HX:Hid (∀q,iD f (.slice none 0 0) w q->∀(k:Nat)x,r[k]?=some x->∃h v,xa=some ⟨h,0,none⟩/\q.cell? ⟨h,k*2,none⟩=some (.int .i64 (x.1:Int))/\q.cell? ⟨h,k*2+1,none⟩=some v/\bQ q v x.2/\∀g m c,v=.slice (some ⟨g,0,none⟩) m c->f+1<=g/\g<w.heap.size):=ak;have HR:Hid (r.length=n/\(∀x∈r,∀p∈x.2,p<P.length)/\∀x∈r,L->Tb.lone x=true):=⟨(Pm.out r (cJ hr)).1,(Pm.out r (cJ hr)).2,fun x hx l=>by rw[ah.out]at l;exact l r (cJ hr) x hx⟩;have LW:Hid (B.length=j/\vJ n a B/\a[j]?=some r):=⟨I,d,hr⟩;clear D hP I HC K ak aa F u z A H O d hJ hg af al hr
   go_wp2_with (simp only[ad])
   clear ad ag dO fO c1
   go_loopw [28] (fun i wr=>∃k:Nat,k<=n/\i=.int .i64 (k:Int)/\Hid (∃t C,t.length=j+1/\C.length=k/\zW w f E n a.length P bs ks v0 v1 L (J+k) wr t (B.map (List.flatMap eX)++[(C++List.replicate (n-k) (0,0)).flatMap eX])/\Cu r C)) (fun i _=>n - (intOf i).toNat)
   case atStart=>exact⟨0,by omega,rfl,H1⟩
   case round=>
    clear H1;revert wr;intro q hrel;obtain⟨k,hk,rfl,HI⟩:=hrel;obtain⟨ae,C,mq,M,⟨vC,n1,s1,D,F,u,z,A,H,O⟩,d⟩:=HI.out;clear HI
    by_cases hkn:k<n
    ·have k1:(k:Int)<(n:Int):=by omega
     obtain⟨x,hx⟩:∃x,r[k]?=some x:=⟨_,cF (by rw[HR.out.1];exact hkn)⟩;obtain⟨h,v,rfl,c1,c2,S,Q⟩:=HX.out q H k x hx;have ac:=HR.out.2.1 x (cJ hx);have ai:=HR.out.2.2 x (cJ hx);obtain⟨pa,pc,rfl,zu⟩:=S;have S:bQ q (.slice pa x.2.length pc) x.2:=⟨pa,pc,rfl,zu⟩;clear zu;obtain⟨s,R⟩:=x;simp only at c1 c2 S ac Q;obtain⟨N,aY⟩:∃V,V=q.alloc (.cells #[.int .i64 (s:Int),.slice pa R.length pc] 166):=⟨_,rfl⟩;obtain⟨bx,ap⟩:∃b,q.heap.size=b:=⟨_,rfl⟩;have kX:aj N bx #[.int .i64 (s:Int),.slice pa R.length pc] 166:=by rw[aY,<-ap];exact aj.new ..
     have G:Below q.heap.size q N:=by rw[aY];exact(cV _ _).alloc (zL0) _
     have Z:Below q.heap.size q N.drew:=⟨G.1,G.2,G.3,G.4,G.5⟩;obtain⟨X,ab⟩:∃g,ae[j]?=some g:=⟨_,cF (by omega)⟩;have o1:=(D.move G).Cm ab;have x1:N.cell? ⟨bx,0,none⟩=some (.int .i64 (s:Int)):=kX.cell 0;have x2:N.cell? ⟨bx,1,none⟩=some (.slice pa R.length pc):=kX.cell 1;have hJ:=HJ.out;have am:=HQ.out q vC n1 s1 j k s _ R F H O S ac hkn (by omega) (by omega) Q N.drew Z;have HM:Hid (∀e T,kU N.drew (f+1) f P bs ks v0 v1 vC n1 s1 s R e T->∃y1 y2:Nat,e=.returned (.agg #[.int .i64 (y1:Int),.int .i64 (y2:Int)])/\T.cell? ⟨E,j,none⟩=some (.slice (some ⟨X,0,none⟩) n n)/\T.cell? ⟨X,k*2,none⟩=some (.int .i64 0)/\T.cell? ⟨X,k*2+1,none⟩=some (.int .i64 0)/\(∀i,T.frozen? ⟨X,i,none⟩=false)/\∃t C,t.length=j+1/\C.length=k+1/\zW w f E n a.length P bs ks v0 v1 L (J+(k+1)) ((T.setCell ⟨X,k*2,none⟩ (.int .i64 (y1:Int))).setCell ⟨X,k*2+1,none⟩ (.int .i64 (y2:Int))) t (B.map (List.flatMap eX)++[(C++List.replicate (n - (k+1)) (0,0)).flatMap eX])/\Cu r C):=fun e T hE=>by
      obtain⟨y,vD,n2,s2,rfl,az,a8,aw,a7,ax,a5⟩:=hE;have hg:=HG.out;have hq:=zW.cell (y:=y) hg.1 hg.2 D F u z A H O Z a8 aw a7 ax a5 ai (by rw[dk];exact LW.out.1) M hkn ab;exact⟨y.1,y.2,rfl,hq.1,hq.2.1,hq.2.2.1,hq.2.2.2.1,ae,C++[y],mq,by rw[cH,M];rfl,hq.2.2.2.2,amz d M hx az⟩
     have d0:(0:Int)<=(j:Int):=by omega
     have d1:(0:Int)<=(k:Int):=by omega
     clear D G Z S kX ai ab mq HX HR hx F H O u z A d M ac Q hJ HQ;go_upto_region 9 with fail
     rw[<-aY];clear aY ap c1 c2
     go_region_law (refine jW rfl 67 #[.pointer (some ⟨f,0,none⟩),.int .i64 (j:Int),.int .i64 (k:Int),.agg #[.int .i64 (s:Int),.slice pa R.length pc]] (by go_simp) am ?_;intro e T hE;obtain⟨y1,y2,rfl,m1,m2,m3,m4,HN⟩:=HM.out e T hE;refine⟨_,rfl,?_⟩;clear am hE HM)
     all_goals
      have ED:Hid (∃t C,t.length=j+1/\C.length=k+1/\zW w f E n a.length P bs ks v0 v1 L (J+(k+1)) ((T.setCell ⟨X,k*2,none⟩ (.int .i64 (y1:Int))).setCell ⟨X,k*2+1,none⟩ (.int .i64 (y2:Int))) t (B.map (List.flatMap eX)++[(C++List.replicate (n - (k+1)) (0,0)).flatMap eX])/\Cu r C):=HN;clear HN;go_wp2_with fail;exact⟨⟨k+1,by omega,by go_num,ED⟩,by simp[intOf];omega⟩
    ·obtain rfl:k=n:=by omega
     have HE:Hid (∃t B,t.length=j+1/\zW w f E k a.length P bs ks v0 v1 L ((j+1)*k) q t (B.map (List.flatMap eX))/\vJ k a B):=by
      refine⟨ae,B++[C],mq,⟨vC,n1,s1,?_,F,by rw[HJ.out.2];exact u,by rw[HJ.out.2];exact z,A,H,O⟩,ak7 LW.out.2.1 LW.out.1 LW.out.2.2 M d⟩;rw[ib,sX,eV]at D;rw[eJ];exact D
     clear D mq HX HR HJ LW F H O u z A d M HQ;go_wp2_with fail;exact⟨⟨j+1,by omega,by go_num,HE⟩,by simp[intOf];omega⟩
  ·obtain rfl:j=a.length:=by omega
   have I:B.length=a.length:=by
    have:=D.len;rw[dk]at this;omega
   have HR:Hid (Qv w f P bs ks v0 v1 n a (.returned (.slice (some ⟨E,0,none⟩) a.length a.length)) wr):=⟨_,B,vC,n1,s1,rfl,D.rows K I (fun r hr=>by
    obtain⟨i,S⟩:=eS.1 hr;have aA:=(cG.1 S).1;exact(d i _ r (cF (by omega)) S).1) (fun i g r k x hg hr hx=>by
     obtain⟨f1,f2⟩:=Ji _ _ _ hx;have:=fun k=>D.EH (k:=k) hg (r:=r.flatMap eX) (by rw[di,hr];rfl)
     exact⟨(this _).trans f1,(this _).trans f2⟩),I,d,F,by rw[<-ah.out];exact A,H⟩
   clear D K HC aa ad F H O u z A d I HQ;go_wp2_with fail;go_ret;exact HR.out
def yI:Obj:=.cells #[.slice none 0 0,.slice none 0 0,.slice none 0 0,.slice none 0 0,.slice none 0 0,.map none,.slice none 0 0,.slice none 0 0,.map none,.slice none 0 0,.slice none 0 0,.slice none 0 0,.slice none 0 0] 153
def Ib:Obj:=.map #[] 0
theorem tC{V w':World}{b:Nat}{o:Obj}(a:Below V.heap.size V w')(k:V.heap[b]?=some o):w'.heap[b]?=some o:=(a.block b (ek.1 k).1).trans k
theorem Ic(w:World)(o:Obj):(w.alloc o).heap[w.heap.size]?=some o:=ot w o
theorem Qw{w:World}{b:Nat}{o:Obj}(a:Obj)(h:w.heap[b]?=some o):(w.alloc a).heap[b]?=some o:=tC ((cV _ w).alloc (zL0) a) h
theorem Qx(w:World)(o a:Obj):((w.alloc o).alloc a).heap[w.heap.size]?=some o:=Qw a (Ic w o)
theorem Qy(w:World)(o a:Obj):((w.alloc o).alloc a).heap[w.heap.size+1]?=some a:=by
 have:=Ic (w.alloc o) a
 rwa [show (w.alloc o).heap.size=w.heap.size+1 by simp]at this
theorem Xm{w:World}{b:Nat}{o:Obj}(h:w.heap[b]?=some o):w.drew.heap[b]?=some o:=h
theorem ad8{w:World}{b:Nat}(h:w.heap[b]?=some yI):(∀i,w.frozen? ⟨b,i,none⟩=false)/\w.cell? ⟨b,0,none⟩=some (.slice none 0 0)/\w.cell? ⟨b,1,none⟩=some (.slice none 0 0)/\w.cell? ⟨b,2,none⟩=some (.slice none 0 0)/\w.cell? ⟨b,3,none⟩=some (.slice none 0 0)/\w.cell? ⟨b,4,none⟩=some (.slice none 0 0)/\w.cell? ⟨b,5,none⟩=some (.map none)/\w.cell? ⟨b,6,none⟩=some (.slice none 0 0)/\w.cell? ⟨b,7,none⟩=some (.slice none 0 0)/\w.cell? ⟨b,8,none⟩=some (.map none)/\w.cell? ⟨b,9,none⟩=some (.slice none 0 0)/\w.cell? ⟨b,10,none⟩=some (.slice none 0 0)/\w.cell? ⟨b,11,none⟩=some (.slice none 0 0)/\w.cell? ⟨b,12,none⟩=some (.slice none 0 0):=by
 have k:aj w b _ 153:=h;exact⟨k.frozen,k.cell 0,k.cell 1,k.cell 2,k.cell 3,k.cell 4,k.cell 5,k.cell 6,k.cell 7,k.cell 8,k.cell 9,k.cell 10,k.cell 11,k.cell 12⟩
abbrev Gb(w:World)(r:Nat)(x0 x1 x2 x3 x4 x5 x6 x7 x8 x9 x10 zX wH:Value):World:=(((((((((((((w.setCell ⟨r,0,none⟩ x0).setCell ⟨r,1,none⟩ x1).setCell ⟨r,2,none⟩ x2).setCell ⟨r,3,none⟩ x3).setCell ⟨r,4,none⟩ x4).setCell ⟨r,5,none⟩ x5).setCell ⟨r,6,none⟩ x6).setCell ⟨r,7,none⟩ x7).setCell ⟨r,8,none⟩ x8).setCell ⟨r,9,none⟩ x9).setCell ⟨r,10,none⟩ x10).setCell ⟨r,11,none⟩ zX).setCell ⟨r,12,none⟩ wH)
section
variable{w a:World}{r B:Nat}(x0 x1 x2 x3 x4 x5 x6 x7 x8 x9 x10 zX wH:Value)
theorem aaR(h:w.heap[r]?=some yI):aj (Gb w r x0 x1 x2 x3 x4 x5 x6 x7 x8 x9 x10 zX wH) r #[x0,x1,x2,x3,x4,x5,x6,x7,x8,x9,x10,zX,wH] 153:=by
 have h:aj w r #[.slice none 0 0,.slice none 0 0,.slice none 0 0,.slice none 0 0,.slice none 0 0,.map none,.slice none 0 0,.slice none 0 0,.map none,.slice none 0 0,.slice none 0 0,.slice none 0 0,.slice none 0 0] 153:=h;have k:=((((((((((((h.set 0 x0).set 1 x1).set 2 x2).set 3 x3).set 4 x4).set 5 x5).set 6 x6).set 7 x7).set 8 x8).set 9 x9).set 10 x10).set 11 zX).set 12 wH;simp only[List.setIfInBounds_toArray,List.set_cons_zero,List.set_cons_succ]at k;exact k
theorem QZ(h:Below B a w)(b:B<=r):Below B a (Gb w r x0 x1 x2 x3 x4 x5 x6 x7 x8 x9 x10 zX wH):=((((((((((((h.setCell b x0).setCell b x1).setCell b x2).setCell b x3).setCell b x4).setCell b x5).setCell b x6).setCell b x7).setCell b x8).setCell b x9).setCell b x10).setCell b zX).setCell b wH
theorem Mj(g:Nat)(b:g≠r):(Gb w r x0 x1 x2 x3 x4 x5 x6 x7 x8 x9 x10 zX wH).heap[g]?=w.heap[g]?:=by
 unfold Gb
 repeat rw[nA _ _ _ b]
end
theorem ana{a V w:World}(h:Below a.heap.size a V)(b:Below V.heap.size V w):Below a.heap.size a w:=h.trans (b.mono h.size)
theorem kp1{w w':World}{o:Obj}(a:Below (w.alloc o).heap.size (w.alloc o) w'):w'.heap[w.heap.size]?=some o:=tC a (Ic w o)
theorem aoV{w w':World}{o:Obj}(a:Below (w.alloc o).drew.heap.size (w.alloc o).drew w'):w'.heap[w.heap.size]?=some o:=tC a (Xm (Ic w o))
theorem WW{w w':World}{o a:Obj}(b:Below ((w.alloc o).alloc a).heap.size ((w.alloc o).alloc a) w'):w'.heap[w.heap.size]?=some o/\w'.heap[w.heap.size+1]?=some a:=⟨tC b (Qx w o a),tC b (Qy w o a)⟩
theorem aoW{w w':World}{o a:Obj}(b:Below ((w.alloc o).alloc a).drew.heap.size ((w.alloc o).alloc a).drew w'):w'.heap[w.heap.size]?=some o/\w'.heap[w.heap.size+1]?=some a:=⟨tC b (Xm (Qx w o a)),tC b (Xm (Qy w o a))⟩
theorem Ie{w:World}{b:Nat}(h:w.heap[b]?=some yI):w.heap[b]?=some yI:=h
theorem Ig{w:World}{b:Nat}(h:w.heap[b]?=some Ib):w.heap[b]?=some Ib:=h
namespace Lx
theorem TQ{es:List (Nat×Nat×Nat)}{N:Nat}(b:0<N)(h:∀e∈es,e.2.2<N)(a:Nat×Nat):∀k,lG es k a<N
 |0=>b
 |k+1=>by
  unfold lG
  split
  ·rename_i e he
   split
   ·exact h e (cJ he)
   ·exact TQ b h a k
  ·exact TQ b h a k
theorem TR{f:Nat×Nat->Nat}{N:Nat}(b:∀a,f a<N):∀(l:List Nat)(q:Nat),q<N->uz f q l<N
 | [],_,hq=>hq
 |x::l,q,_=>TR b l (f (q,x)) (b _)
theorem ak8(t:Nat):bP [] t=false:=by
 unfold bP;simp
theorem acT{E:List Bool}{fs:List (List Nat)}{nT:Nat}(a:∀ws∈fs,∀t,bP ws t=true->t<nT):∀(r:List Nat)(t:Nat),Ga E fs (fun t=>t<nT) r t->t<nT
 | [],_,h=>h
 |s::r,t,h=>by
  rcases h with h|⟨-,h⟩
  ·rw[ej]at h
   cases e:fs[s]? with
   |none=>rw[e,Option.getD_none,ak8]at h;cases h
   |some ws=>rw[e,od]at h;exact a ws (cJ e) t h
  ·exact acT a r t h
theorem acU{x:Nat}(h:x≠0)(a:x<2 ^ 64):Lib.ctz 64 x<64/\x.testBit (Lib.ctz 64 x)=true:=by
 obtain⟨h1,h2⟩:=Lib.lowest_bit 64 x h a;refine⟨h2,?_⟩;have:(x &&& (2 ^ 64-x)).testBit (Lib.ctz 64 x)=true:=by rw[h1,Nat.testBit_two_pow_self]
 rw[sE,jp]at this;exact this.1
theorem ak9{x:Nat}(h:x≠0)(f:x<2 ^ 64):∀i,i<Lib.ctz 64 x+1->(x &&& (x-1)).testBit i=false:=fun i b=>by
 obtain⟨m,a,-⟩:=Lib.ctzFrom_spec 64 x (by omega) f;have e:Lib.ctz 64 x=Lib.ctzFrom 64 x:=dt h;rw[<-e]at a;generalize Lib.ctz 64 x=c at a b;have d:0<2 ^ c:=Nat.two_pow_pos c;rw[sE]
 by_cases hc:i=c
 ·subst hc
  have:(x-1).testBit i=false:=by
   rw[Nat.testBit_eq_decide_div_mod_eq];have g:(x-1) / 2 ^ i=2*m:=by
    rw[a,Nat.mul_add,j9];rw[show 2 ^ i*(2*m)+2 ^ i-1=(2 ^ i-1)+2 ^ i*(2*m) by omega,Nat.add_mul_div_left _ _ d,tB (by omega),fk]
   rw[g];exact eE (by omega)
  rw[this,Bool.and_false]
 ·have:x.testBit i=false:=by
   rw[a,Nat.testBit_two_pow_mul];rw[eE (by omega)];rfl
  rw[this,Bool.false_and]
theorem aaS:∀(n x j:Nat),x<=n->x<2 ^ 64->(∀i,i<j->x.testBit i=false)->(oz x).length<=64-j
 |n,x,j,hn,hx,hj=>by
  by_cases h:x=0
  ·subst h
   rw[NH];exact ff _
  ·obtain⟨f,b⟩:=acU h hx
   have d:j<=Lib.ctz 64 x:=Nat.le_of_not_lt fun a=>by rw[hj _ a]at b;cases b
   rw[Jk h,ev];have c:x &&& (x-1)<=x-1:=r6
   match n,hn with
   |0,hn=>omega
   |n+1,hn=>
    have:=aaS n _ (Lib.ctz 64 x+1) (by omega) (by omega) (ak9 h hx);omega
theorem adG{ws:List Nat}(a:jD ws)(n:Nat):ws.getD n 0<2 ^ 64:=by
 rw[ej];cases e:ws[n]? with
 |none=>rw[Option.getD_none];exact Nat.two_pow_pos 64
 |some x=>rw[od];exact a x (cJ e)
theorem Tp{ws:List Nat}(a:jD ws):∀(n:Nat),(jm ws n).length<=n*64
 |0=>zL0
 |n+1=>by
  have:=Tp a n;have:=aaS _ _ 0 (zL0) (adG a n) (fun i b=>absurd b (sL _));rw[jm,cH,dk];omega
theorem aaT:∀(n x:Nat),x<=n->x<2 ^ 64->∀y∈oz x,y<64/\x.testBit y=true
 |n,x,hn,hx,y,a=>by
  by_cases h:x=0
  ·subst h
   rw[NH]at a;cases a
  ·rw[Jk h]at a
   rcases eC.1 a with rfl|a
   ·exact acU h hx
   ·have d:x &&& (x-1)<=x-1:=r6
    match n,hn with
    |0,hn=>omega
    |n+1,hn=>
     obtain⟨c,b⟩:=aaT n _ (by omega) (by omega) y a;rw[sE,jp]at b;exact⟨c,b.1⟩
theorem acV{ws:List Nat}(a:jD ws):∀(n:Nat),∀t∈jm ws n,bP ws t=true
 |0,t,h=>by cases h
 |n+1,t,h=>by
  unfold jm at h;rcases cY.1 h with h|h
  ·exact acV a n t h
  ·obtain⟨y,b,rfl⟩:=ee.1 h
   obtain⟨d,c⟩:=aaT _ _ (zL0) (adG a n) y b;unfold bP;rw[show (n*64+y) / 64=n by omega,show (n*64+y) % 64=y by omega];exact c
end Lx
structure EY(c:aZ)(N:Nat):Prop where
 n0:0<N
 f:∀a,c.f a<N
 p0:0<c.P.length
 ok:J6 c.sz c.P
 lf:∀p∈c.P,c.nT<=p.left
 fs:∀ws∈c.fs,∀t,bP ws t=true->t<c.nT
 nT:0<c.nT
def LX(N nT sz:Nat)(s:Nat×Nat):Prop:=s.1<N/\nT<=s.2/\s.2<sz
section
variable{c:aZ}{N:Nat}{S:bL}
theorem EY.PZ(h:EY c N){k y:Nat}(a:y∈bM c.P k):y<c.sz:=by
 unfold bM at a;cases e:c.P[k]? with
 |none=>rw[e]at a;cases a
 |some p=>rw[e]at a;exact(h.ok p (cJ e)).2 y a
theorem EY.nm(h:EY c N){s:Nat×Nat}{x:au×Nat}(g:LX N c.nT c.sz s)(b:x∈c.rG s):LX N c.nT c.sz (c.inn x)/\∀y∈nU c.P x.1,y<c.sz:=by
 obtain⟨b,a⟩:=hU.1 b;obtain⟨d,r⟩:=x;obtain⟨h1,h2,h3,h4⟩:=(I4 _).1 b;refine⟨⟨?_,?_⟩,fun y i=>h.PZ (ui i)⟩
 ·show r<N
  rw[h4];exact TR h.f _ _ g.1
 ·show c.nT<=(dQ c.P d).getD 0/\(dQ c.P d).getD 0<c.sz
  unfold yA at a;simp only at a;cases e:dQ c.P d with
  |none=>rw[e]at a;cases a
  |some m=>
   rw[e]at a;exact⟨iS a,h.PZ (cJ e)⟩
theorem YW{α β:Type}{f:α->β}:∀{l:List α},(∀x∈l,∀y∈l,f x=f y->x=y)->l.Nodup->(l.map f).Nodup
 | [],_,_=>mj
 |a::l,h,hn=>by
  rw[ph]at hn;rw[j7,ph];refine⟨fun g=>?_,YW (fun x i y j=>h x (ei _ i) y (ei _ j)) hn.2⟩;obtain⟨b,d,e⟩:=ee.1 g;have:=h b (ei _ d) a ed e;subst this;exact hn.1 d
theorem ajz{l:List (Nat×Nat)}{a b n:Nat}(j:l.Nodup)(h:∀s∈l,LX a n b s):l.length<=a*(b-n):=by
 rw[<-dk (f:=fun s:Nat×Nat=>(s.1,s.2-n))];refine Mi (YW (fun x i y k e=>?_) j) fun s g=>?_
 ·obtain⟨-,q,m⟩:=h x i
  obtain⟨-,o,p⟩:=h y k;injection e with e1 e2
  exact qu e1 (by omega)
 ·obtain⟨t,d,rfl⟩:=ee.1 g
  obtain⟨h1,h2,h3⟩:=h t d;exact⟨h1,by show t.2-n<b-n;omega⟩
theorem EY.G(h:EY c N){st:Nat}(a:c.nT<=st/\st<c.sz):C8 c st (N*(c.sz-c.nT)) (LX N c.nT c.sz) (fun _ t=>t<c.nT) where
 r0:=⟨h.n0,a⟩
 r1 _ _ hs hx:=(h.nm hs hx).1
 rn _ hn hl:=ajz hn hl
 g0:=h.nT
 g1 _ _ t _ _ hp:=acT h.fs _ t hp
theorem acW{nw nP nT:Nat}{K:List (Nat×Nat)}{ss:List (List Nat)}{i:Nat}(h:∀ws∈ss,(jm ws nw).length<=nP/\∀t∈jm ws nw,t<nT)(g:K.length=ss.length):∀k,∀x∈fq nw K ss i k,x.1<k/\x.2.length<=nP/\∀t∈x.2,t<nT
 |0,x,d=>by cases d
 |k+1,x,d=>by
  rw[fq]at d;rcases cY.1 d with d|d
  ·obtain⟨a,b⟩:=acW h g k x d
   exact⟨by omega,b⟩
  ·cases e:vG K (i,k) with
   |none=>rw[e]at d;cases d
   |some p=>
    rw[e]at d;obtain rfl:=cN.1 d;unfold vG at e
    split at e
    ·rename_i j
     cases e;have f:K.idxOf (i,k)<ss.length:=by rw[<-g];exact xF.2 j
     refine⟨rL _,?_⟩;show (jm (ss.getD _ []) nw).length<=nP/\∀t∈jm (ss.getD _ []) nw,t<nT;rw[ej,cF f,od];exact h _ (du f)
    ·cases e
end
structure ny(s:ByteArray)(g:Lx.Gr)(S:bF):Prop where
 size:s.size<=maxLen
 gr:eY s=.ok g
 st:rU (aJ g) (fQ g)=some S
 fit:Lx.Fit g
 p0:0<(aJ g).length
 pl:(aJ g).length<=200
 k0:0<S.ks.length
 kl:S.ks.length<=300
 es:∀e∈S.es,e.1<S.ks.length/\e.2.1<fQ g/\0<e.2.2/\e.2.2<S.ks.length
 el:S.es.length<=10000000
theorem amA{s:ByteArray}{g:Lx.Gr}{S:bF}(h:ny s g S){W1:World}(i:dM W1):Calls prog 21 #[.string s] W1 fun e w'=>∃(ta na ba ka:Option Addr)(tc nc gP pc nb bc nk kc:Nat),e=.returned (.tuple #[.agg #[.slice ta (ay g).length tc,.slice na (aS g).length nc,.slice (some ⟨gP,0,none⟩) (aJ g).length pc,.slice ba nb bc,.slice ka nk kc],.int .i64 0,.int .i64 0])/\Below W1.heap.size W1 w'/\mX w' (fun k=>k<w'.heap.size) gP (aJ g):=by
 refine(Nh s W1 h.size i).mono ?_;rintro e w'⟨v,n,a,rfl,c,b,-⟩;obtain⟨rfl,rfl,m⟩:=b g h.gr;obtain⟨q,p,t,u,x,rfl,o,l,d,f,j,-⟩:=m;obtain⟨ta,tc,rfl,-⟩:=aC o;obtain⟨na,nc,rfl,-⟩:=aC l;obtain⟨ba,bc,rfl,-⟩:=aC f;obtain⟨ka,kc,rfl,-⟩:=aC j;obtain⟨r,pc,rfl,-⟩:=zD.of d;obtain⟨gP,rfl,hd⟩:=PP.pdc d h.p0;exact⟨ta,na,ba,ka,tc,nc,gP,pc,_,bc,_,kc,rfl,c,hd⟩
theorem acX{s:ByteArray}{g:Lx.Gr}{S:bF}(h:ny s g S){W1:World}(i:dM W1):Calls prog 37 #[.string s] W1 fun e w'=>∃la lc ea ec,e=.returned (.tuple #[.slice la S.ks.length lc,.slice ea S.es.length ec,.int .i64 0,.int .i64 0])/\Below W1.heap.size W1 w'/\lZ w' (.slice ea S.es.length ec) S.es:=by
 obtain⟨h1,h2⟩:=NZ (Jz h.gr h.st);refine(YV s W1 h.size i).mono ?_;rintro e w'⟨n,j,rfl,d,⟨⟨l,a,m,-⟩,f⟩,-⟩;rw[h1]at f a;have b:l.length=S.ks.length:=by rw[<-a,dk]
 obtain⟨la,lc,rfl,-⟩:=aC m;have c:lZ w' j S.es:=lZ.edg f;obtain⟨ea,ec,rfl,k⟩:=c;exact⟨la,lc,ea,ec,by rw[h2,b];rfl,d,⟨ea,ec,rfl,k⟩⟩
theorem amB{s:ByteArray}{g:Lx.Gr}{S:bF}(h:ny s g S){W1:World}(c:dM W1):Calls prog 60 #[.string s] W1 fun e w'=>∃gE E fa fc L,e=.returned (.tuple #[.slice (some ⟨gE,0,none⟩) (fQ g) (fQ g),.slice fa (fQ g) fc,.int .i64 0,.int .i64 0])/\Below W1.heap.size W1 w'/\aj w' gE (bG E) 4/\E.length=fQ g/\yw w' (.slice fa (fQ g) fc) L/\L.length=fQ g/\∀l∈L,l.length<=1000000/\∀t∈l,t<(ay g).length:=by
 refine(akH s W1 h.size c fun D d=>?_).mono ?_
 ·rw[h.gr]at d
  cases d;exact akI h.fit
 ·rintro e w'⟨v,-,b⟩
  obtain⟨gE,E,k,C,B,m,rfl,u,-,y,-,-,x,-,z⟩:=b g h.gr;obtain⟨f,i⟩:=Yp (nT:=(ay g).length) (n:=(ay g).length+(aS g).length) (P:=aJ g) (E:=E) m;rw[<-x]at f i;have o:=z.inr;have a:(B.map jF).length=fQ g:=by rw[dk,f];rfl
  obtain⟨fa,fc,rfl,p⟩:=o;have c:=h.fit.xE;refine⟨gE,E,fa,fc,B.map jF,by rw[a];rfl,v,u,y,⟨fa,fc,by rw[a],p⟩,a,fun l q=>?_⟩;obtain⟨r,j,rfl⟩:=ee.1 q;obtain⟨F,A⟩:=afR (i r j);exact⟨by omega,A⟩
namespace Lx
theorem abM{P:List Pd}{sz st:Nat}(a:nV P sz st):∀(f i:Nat)(S R:bF),tZ P sz f i S=some R->jf P i 0 S->S.ks.length<=300->∃j,jf P j 0 R/\R.ks.length<=300
 |0,_,_,_,h,_,_=>by cases h
 |f+1,i,S,R,h,hE,hl=>by
  unfold tZ at h
  split at h
  ·rename_i b
   split at h
   ·cases h
   ·rename_i c
    exact abM a f (i+1) _ R h (jf.all1 a hE (cF b)) (by omega)
  ·cases h
   exact⟨i,hE,hl⟩
end Lx
theorem ny.of{s:ByteArray}{g:Lx.Gr}{S:bF}(w:World)(v:s.size<=maxLen)(i:eY s=.ok g)(q:rU (aJ g) (fQ g)=some S):ny s g S:=by
 have f:=acQ w i;obtain⟨-,-,o⟩:=NQ i;have k:=adv f o;obtain⟨j,l,n⟩:=abM k _ _ _ _ q (jf.first _) (by simp);have u:0<S.ks.length:=(cG.1 l.zero).1;have c:∀e∈S.es,e.1<S.ks.length/\e.2.1<fQ g/\0<e.2.2/\e.2.2<S.ks.length:=fun e c=>by
  obtain⟨-,h1,K,h2,h3,h4⟩:=l.es e c;refine⟨(cG.1 h2).1,?_,h1,(cG.1 h3).1⟩;obtain⟨x,m⟩:=xx _ h4;obtain⟨t,-,ht,-⟩:=DK.1 m;have d:=cJ ht;unfold bM at d;cases e2:(aJ g)[t.1]? with
  |none=>rw[e2]at d;cases d
  |some p=>rw[e2]at d;exact(k.sym p (cJ e2) _ d).1
 refine⟨v,i,q,f,k.pos,o,u,n,c,?_⟩;have y:(S.es.map fun e=>(e.1,e.2.1)).Nodup:=by
  rw[List.nodup_iff_pairwise_ne,pC];refine l.pw.imp fun h e=>?_
  injection e with e1 e2
  omega
 have:=Mi (a:=S.ks.length) (b:=fQ g) y fun x m=>by
  obtain⟨e,h1,rfl⟩:=ee.1 m;exact⟨(c e h1).1,(c e h1).2.1⟩
 rw[dk]at this;have z:=f.xE;have A:=f.Cg;have r:fQ g<=4004:=by unfold fQ;omega
 exact de this (de (pH n r) (by decide))
def Qz(W0:World)(P:List Lx.Pd)(f:Nat×Nat->Nat)(nT N st:Nat)(R:Nat×Nat->Prop)(G:Nat×Nat->Nat->Prop)(v:Value)(w:World):Prop:=∃(c:aZ)(S:bL)(K:List (Nat×Nat))(ss:List (List Nat)),c.P=P/\c.f=f/\c.nT=nT/\jU c R G (fun _ _=>True) S/\S.wq=[]/\(0,st)∈S.st/\(∀ws∈S.ss,ws.length=c.nw)/\ng S (c.zS S) K ss/\(∀ws∈ss,ws.length=c.nw/\jD ws)/\qL w v ((List.range N).map fun i=>fq c.nw K ss i c.P.length)/\Below W0.heap.size W0 w
def OQ(Z:Value->World->Prop)(N lb:Nat)(W:World):Prop:=Calls prog 63 #[.pointer (some ⟨lb,0,none⟩)] W fun e W'=>e=.returned (.tuple #[])/\Calls prog 64 #[.pointer (some ⟨lb,0,none⟩),.int .i64 (N:Int)] W' fun e w=>∃a cp,e=.returned (.slice a N cp)/\Z (.slice a N cp) w
structure EZ(P:List Lx.Pd)(f:Nat×Nat->Nat)(nT sz N st NM:Nat)(R:Nat×Nat->Prop)(G:Nat×Nat->Nat->Prop):Prop where
 n0:0<N
 nl:N<=300
 fN:∀a,f a<N
 ok:J6 sz P
 p0:0<P.length
 pl:P.length<=200
 rl:∀p∈P,p.right.length<=2002
 t0:0<nT
 tl:nT<=60000
 rN:∀s,R s->s.1<N
 nm:NM<=900000
 s0:P[0]?.map Lx.Pd.left=some st
 g:∀c:aZ,c.P=P->c.f=f->c.nT=nT->c.sz=sz->(∀ws∈c.fs,∀t,bP ws t=true->t<nT)->C8 c st NM R G
theorem amC{D u W:World}{lb nT sz N st NM:Nat}{P:List Lx.Pd}{f:Nat×Nat->Nat}{R:Nat×Nat->Prop}{G:Nat×Nat->Nat->Prop}(E:Below D.heap.size D u)(C:Below u.heap.size u W)(U:∀W',Below D.heap.size D W'->TabAt 2 Lib.deBruijn64tab W')(d:EZ P f nT sz N st NM R G)(h:∃c F S,c.lb=lb/\c.P=P/\c.f=f/\c.nT=nT/\c.sz=sz/\(∀ws∈c.fs,∀t,bP ws t=true->t<nT)/\mY c W F W.heap.size/\jT c W F W.heap.size W S/\S.st=[]/\S.wq=[]/\∀k,k<u.heap.size->F k):OQ (Qz D P f nT N st R G) N lb W:=by
 obtain⟨c,F,S,rfl,rfl,rfl,rfl,rfl,J,Z,hM,h1,h2,A⟩:=h;have I:=d.g c rfl rfl rfl rfl J;have l:c.nw<=1000:=by
  have:=d.tl;unfold aZ.nw Lx.nW;omega
 have M:∀(k y:Nat),y∈bM c.P k->y<c.sz:=fun k y o=>by
  unfold bM at o;cases e:c.P[k]? with
  |none=>rw[e]at o;cases o
  |some p=>rw[e]at o;exact(d.ok p (cJ e)).2 y o
 have Q:=ah2 Z hM h1 h2 I d.s0 (de l (by decide)) d.nm (fun s x _ _ y o=>M _ y (ui o));refine Q.mono ?_;rintro e W'⟨rfl,H,j,V,hq,h0⟩;refine⟨rfl,?_⟩;have hl:∀ws∈H.ss,ws.length=c.nw:=fun ws L=>by
  obtain⟨i,hi⟩:=eS.1 L;obtain⟨g,I⟩:∃g,H.gs[i]?=some g:=⟨_,cF (by rw[j.m.lg,<-j.m.ls];exact(cG.1 hi).1)⟩;obtain⟨-,aa,k1,-,k2⟩:=j.m.sets i g I;rw[hi]at k1;cases k1;exact k2
 have hR:∀s∈H.st,R s:=fun s hs=>by
  obtain⟨p,d⟩:=eS.1 hs;exact(V.snd p s d).1
 have T:Below u.heap.size u W':=⟨j.x.fr.1.trans C.1,j.x.fr.2.1.trans C.2,j.x.fr.2.2.trans C.3,de C.size j.x.bX,fun k z=>(j.m.keep k (A k z)).trans (C.block k z)⟩;have q:=E.trans (T.mono E.size);have Qt:=ah7 Z j.m (de (I.rn H.st V.nd hR) d.nm) (de l (by decide)) (fun K hn hK=>de (Mi (a:=N) (b:=c.P.length) hn fun e he=>by
  obtain⟨i,s,x,hs,Y,rfl⟩:=hK e he;obtain⟨Y,-⟩:=hU.1 Y;obtain⟨sp,r⟩:=x;obtain⟨h1,h2,h3,h4⟩:=(I4 _).1 Y;refine⟨?_,h1⟩;show r<N;rw[h4];exact TR d.fN _ _ (d.rN s (hR s (cJ hs)))) (de (pH d.nl d.pl) (by decide)))
 have X:=aii (N:=N) j.m.blk Qt (U _ q) (de d.nl (by decide)) (de d.pl (by decide)) l (fun K ss _ hs ws hw=>de (Tp (hs ws hw).2 _) (de (jj 64 l) (by decide)));refine X.mono ?_;rintro e w⟨v,K,ss,rfl,O,hA,hs,B⟩;have n:=B;obtain⟨a,cp,rfl,-⟩:=B;rw[dk,pD]at n|-;exact⟨a,cp,rfl,c,H,K,ss,rfl,rfl,rfl,V,hq,h0,hl,hA,hs,n,q.trans (O.mono q.size)⟩
theorem ala{l W:World}{lb j gm gP B D tc pc nT sz N st NM:Nat}{ta:Option Addr}{v1 v3 v4:Value}{P:List Lx.Pd}{f:Nat×Nat->Nat}{E:List Bool}{gs:List Nat}{fs:List (List Nat)}{R:Nat×Nat->Prop}{G:Nat×Nat->Nat->Prop}(s:EZ P f nT sz N st NM R G)(z:Below l.heap.size l W)(O:mX l (fun k=>k<l.heap.size) gP P)(x:aj l B (bG E) 4)(Q:E.length=sz)(v:dF bE (fun _=>True) W gm (fun a=>(f a:Int)))(L:aj W D (gs.map (gX (Lx.nW nT))).toArray 214)(C:gs.length=sz)(M:∀(i g:Nat),gs[i]?=some g->∃ws,fs[i]?=some ws/\TS W g ws/\ws.length=Lx.nW nT)(A:∀ws∈fs,∀t,bP ws t=true->t<nT)(m:W.heap[j]?=some (.map #[] 0))(q:aj W lb #[.slice ta nT tc,v1,.slice (some ⟨gP,0,none⟩) P.length pc,v3,v4,.map (some gm),.slice (some ⟨B,0,none⟩) sz sz,.slice (some ⟨D,0,none⟩) sz sz,.map (some j),.slice none 0 0,.slice none 0 0,.slice none 0 0,.slice none 0 0] 153)(H:j≠gm)(V:l.heap.size<=lb)(Y:l.heap.size<=j):∃c F S,c.lb=lb/\c.P=P/\c.f=f/\c.nT=nT/\c.sz=sz/\(∀ws∈c.fs,∀t,bP ws t=true->t<nT)/\mY c W F W.heap.size/\jT c W F W.heap.size W S/\S.st=[]/\S.wq=[]/\∀k,k<l.heap.size->F k:=by
 have hlp:lb≠j:=by
  rintro rfl;rw[show W.heap[lb]?=_ from q]at m;cases m
 have d:∀k,k<l.heap.size->(k<W.heap.size/\k≠lb/\k≠j):=fun k u=>⟨dd u z.size,by omega,by omega⟩
 have y:lb<W.heap.size:=q.lt;have J:j<W.heap.size:=(ek.1 m).1;have o:∀(g t:Nat)(r:Array Value),W.heap[g]?=some (.cells r t)->t≠153->g<W.heap.size/\g≠lb/\g≠j:=fun g t r n T=>by
  refine⟨(ek.1 n).1,?_,?_⟩
  ·rintro rfl
   rw[show W.heap[g]?=_ from q]at n;cases n;exact T rfl
  ·rintro rfl
   rw[m]at n;cases n
 refine⟨⟨lb,j,gm,gP,B,D,nT,tc,pc,sz,sz,ta,v1,v3,v4,P,f,E,gs,fs⟩,fun k=>k<W.heap.size/\k≠lb/\k≠j,⟨.slice none 0 0,.slice none 0 0,.slice none 0 0,.slice none 0 0,[],[],[],[],[]⟩,rfl,rfl,rfl,rfl,rfl,A,?_,?_,rfl,rfl,d⟩
 ·refine⟨(O.move fun b I=>z.block b I).imp d,(z.block _ x.lt).trans x,Q,fun i g K=>?_,C,v,d _ x.lt,o _ _ _ L (by decide),⟨v.lt,?_,fun e=>H e.symm⟩,fun k u=>u,y,J,s.pl,fun k=>?_,⟨s.t0,de s.tl (by decide)⟩⟩
  ·obtain⟨ws,h1,h2,h3⟩:=M i g K
   refine⟨?_,o _ _ _ h2.blk (by decide),ws,h1,h2,h3⟩;rw[L.cell i,ge,di,K];rfl
  ·intro e
   obtain⟨U,X,k,-⟩:=v;rw[show gm=lb from e,show W.heap[lb]?=_ from q]at k;cases k
  ·unfold bM
   show ((P[k]?.map Lx.Pd.right).getD []).length<=2002;cases e:P[k]? with
   |none=>exact ff _
   |some p=>exact s.rl p (cJ e)
 ·refine⟨⟨fun _ _=>rfl,q,eQ _ _ _ _,eQ _ _ _ _,?_,eQ _ _ _ _,⟨#[],0,m,rfl,fun i e h=>(by simp at h)⟩,fun i g h=>(by simp at h),mj,zL0⟩,rfl,rfl,rfl⟩
  exact .inl ⟨rfl,rfl⟩
abbrev Ke(gm:Nat)(v0 v1 v2 v3 v4 v6 v7:Value)(pm:Nat):Array Value:=#[v0,v1,v2,v3,v4,.map (some gm),v6,v7,.map (some pm),.slice none 0 0,.slice none 0 0,.slice none 0 0,.slice none 0 0]
def Lg(Nx:Nat->World->Prop)(w5 w7:World)(gm:Nat)(v0 v1 v2 v3 v4 v6 v7:Value):Prop:=∀(W8:World)(lb pm:Nat),Below w5.heap.size w5 W8->(∀k,k<w7.heap.size->k≠lb->W8.heap[k]?=w7.heap[k]?)->(lb<w7.heap.size->w7.heap[lb]?=some yI)->W8.heap[pm]?=some Ib->aj W8 lb (Ke gm v0 v1 v2 v3 v4 v6 v7 pm) 153->pm≠gm->w5.heap.size<=lb->w5.heap.size<=pm->Nx lb W8
section
variable{Nx:Nat -> World -> Prop}{w5 w7:World}{gm l p:Nat}{v0 v1 v2 v3 v4 v6 v7:Value}
theorem Ih{w:World}{k:Nat}(h:k<w.heap.size)(o:Obj):(w.alloc o).heap[k]?=w.heap[k]?:=dg _ _ _ h
theorem anD(L:Lg Nx w5 w7 gm v0 v1 v2 v3 v4 v6 v7)(a:Below w5.heap.size w5 w7)(d:gm<w7.heap.size):Nx (w7.heap.size+1) ((w7.alloc (.map #[] 0)).alloc (.cells (Ke gm v0 v1 v2 v3 v4 v6 v7 w7.heap.size) 153)):=by
 have c:=a.size;refine L _ _ w7.heap.size (xO (xO a _) _) (fun k b _=>?_) (fun h=>by omega) (Qx _ _ _) (Qy _ _ _) (by omega) (by omega) c;rw[Ih (by rw[fd];omega),Ih b]
theorem anE(L:Lg Nx w5 w7 gm v0 v1 v2 v3 v4 v6 v7)(a:Below w5.heap.size w5 w7)(d:gm<w7.heap.size):Nx w7.heap.size ((w7.alloc (.cells (Ke gm v0 v1 v2 v3 v4 v6 v7 (w7.heap.size+1)) 153)).alloc (.map #[] 0)):=by
 have c:=a.size;refine L _ _ (w7.heap.size+1) (xO (xO a _) _) (fun k b _=>?_) (fun h=>by omega) (Qy _ _ _) (Qx _ _ _) (by omega) c (by omega);rw[Ih (by rw[fd];omega),Ih b]
theorem ad9(L:Lg Nx w5 w7 gm v0 v1 v2 v3 v4 v6 v7)(a:Below w5.heap.size w5 w7)(b:w7.heap[p]?=some Ib)(d:p≠gm)(f:w5.heap.size<=p):Nx w7.heap.size (w7.alloc (.cells (Ke gm v0 v1 v2 v3 v4 v6 v7 p) 153)) :=
 L _ _ p (xO a _) (fun _ c _=>Ih c _) (fun h=>by omega) (Qw _ b) (Ic _ _) d a.size f
theorem Gc(L:Lg Nx w5 w7 gm v0 v1 v2 v3 v4 v6 v7)(d:Below w5.heap.size w5 w7)(b:w7.heap[p]?=some Ib)(a:w7.heap[l]?=some yI)(f:p≠gm)(g:w5.heap.size<=p)(c:w5.heap.size<=l):Nx l (Gb w7 l v0 v1 v2 v3 v4 (.map (some gm)) v6 v7 (.map (some p)) (.slice none 0 0) (.slice none 0 0) (.slice none 0 0) (.slice none 0 0)):=by
 refine L _ _ p (QZ _ _ _ _ _ _ _ _ _ _ _ _ _ d c) (fun k _ i=>Mj _ _ _ _ _ _ _ _ _ _ _ _ _ k i) (fun _=>a) ?_ (aaR _ _ _ _ _ _ _ _ _ _ _ _ _ a) f c g;rw[Mj _ _ _ _ _ _ _ _ _ _ _ _ _ p (fun e=>by subst e;rw[b]at a;cases a)];exact b
theorem aea(L:Lg Nx w5 w7 gm v0 v1 v2 v3 v4 v6 v7)(b:Below w5.heap.size w5 w7)(i:gm<w7.heap.size)(a:w7.heap[l]?=some yI)(c:w5.heap.size<=l):Nx l (Gb (w7.alloc (.map #[] 0)) l v0 v1 v2 v3 v4 (.map (some gm)) v6 v7 (.map (some w7.heap.size)) (.slice none 0 0) (.slice none 0 0) (.slice none 0 0) (.slice none 0 0)):=by
 have g:=(ek.1 a).1;refine L _ _ w7.heap.size (QZ _ _ _ _ _ _ _ _ _ _ _ _ _ (xO b _) c) (fun k d f=>(Mj _ _ _ _ _ _ _ _ _ _ _ _ _ k f).trans (Ih d _)) (fun _=>a) ?_ (aaR _ _ _ _ _ _ _ _ _ _ _ _ _ (Qw _ a)) (by omega) c b.size;rw[Mj _ _ _ _ _ _ _ _ _ _ _ _ _ _ (by omega)];exact Ic _ _
end
theorem alb{W d r c j:World}{lb q gm gP C D tc pc nT sz N st NM:Nat}{ta:Option Addr}{v1 v3 v4:Value}{P:List Lx.Pd}{f:Nat×Nat->Nat}{E:List Bool}{gs:List Nat}{fs:List (List Nat)}{R:Nat×Nat->Prop}{G:Nat×Nat->Nat->Prop}(Q:Below W.heap.size W d)(v:∀W',Below W.heap.size W W'->TabAt 2 Lib.deBruijn64tab W')(A:EZ P f nT sz N st NM R G)(K:mX d (fun k=>k<d.heap.size) gP P)(L:aj d C (bG E) 4)(O:E.length=sz)(B:dF bE (fun _=>True) r gm (fun a=>(f a:Int)))(S:Below r.heap.size r c)(X:aj c D (gs.map (gX (Lx.nW nT))).toArray 214)(x:gs.length=sz)(I:∀(i g:Nat),gs[i]?=some g->∃ws:List Nat,fs[i]?=some ws/\TS c g ws/\ws.length=Lx.nW nT)(u:∀ws∈fs,∀t,bP ws t=true->t<nT)(z:Below d.heap.size d j)(F:∀k,k<c.heap.size->k≠lb->j.heap[k]?=c.heap[k]?)(l:lb<c.heap.size->c.heap[lb]?=some yI)(H:j.heap[q]?=some Ib)(U:aj j lb (Ke gm (.slice ta nT tc) v1 (.slice (some ⟨gP,0,none⟩) P.length pc) v3 v4 (.slice (some ⟨C,0,none⟩) sz sz) (.slice (some ⟨D,0,none⟩) sz sz) q) 153)(y:q≠gm)(T:d.heap.size<=lb)(V:d.heap.size<=q):OQ (Qz W P f nT N st R G) N lb j:=by
 have m:∀(k:Nat)(o:Obj),c.heap[k]?=some o->o≠yI->j.heap[k]?=some o:=fun k o n M=>by
  have b:=(ek.1 n).1;refine(F k b fun e=>?_).trans n;subst e;rw[l b]at n;cases n;exact M rfl
 have p:dF bE (fun _=>True) c gm (fun a=>(f a:Int)):=B.move (S.block _ B.lt);have s:dF bE (fun _=>True) j gm (fun a=>(f a:Int)):=p.move (F gm p.lt fun e=>by
  have b:=p.lt;obtain⟨Y,Z,k,-⟩:=p;rw[e]at b;rw[e,l b]at k;cases k)
 refine amC Q z v A (ala (fs:=fs) A z K L O s (m _ _ X fun e=>(by unfold yI at e;injection e with _ e2;exact absurd e2 (by decide))) x (fun i g J=>?_) u H U y T V);obtain⟨ws,h1,h2,h3⟩:=I i g J;exact⟨ws,h1,⟨m _ _ h2.blk fun e=>(by unfold yI at e;injection e with _ e2;exact absurd e2 (by decide)),h2.wd⟩,h3⟩

import Derived.Test.YtagkodkijkpemaaGreatDoorRA20
set_option maxHeartbeats 8000000
set_option maxRecDepth 1000000
namespace Go.Proofs.YtagkodkijkpemaaGreatDoor
open Lx Go.Proofs.Tryz
open Go.RowKit
open Tr
structure iY(w0 w:World)(b:ByteArray)(B rb pb:Nat)(r:Pk.Rd)(v:fV)(p:Pk.T):Prop where
 r:fI w rb b r
 p:aO w B pb v p
 b:Below B w0 w
 hB:B<=w.heap.size
 rb:B<=rb
 pb:B<=pb
section
variable {w0 w w':World} {b:ByteArray} {B rb pb:Nat} {r r':Pk.Rd} {v:fV} {p:Pk.T}
theorem iY.read(h:iY w0 w b B rb pb r v p)(T:jf w rb b w' r'):iY w0 w' b B rb pb r' v p:=⟨T.m,h.p.read h.r T,uK h.b h.hB T.g fun k e=>by cases e;exact h.rb,dg h.hB T.g.size,h.rb,h.pb⟩
theorem iY.below(h:iY w0 w b B rb pb r v p)(a:Below w.heap.size w w'):iY w0 w' b B rb pb r v p:=⟨h.r.move (a.block _ h.r.blk.lt),h.p.move fun k c=>a.block k (h.p.lt c),⟨a.1.trans h.b.1,a.2.trans h.b.2,a.3.trans h.b.3,dg h.b.4 a.4,fun k c=>(a.block k (dd c h.hB)).trans (h.b.block k c)⟩,dg h.hB a.size,h.rb,h.pb⟩
theorem iY.grow(h:iY w0 w b B rb pb r v p){u x:Value}{d:fV}{p':Pk.T}{i:Nat}(c:∀g,u.ownBlock=some g->v.own pb g/\B<=g)(a:w.grownBy w' u.ownBlock)(f:aO (w'.setCell ⟨pb,i,none⟩ x) B pb d p'):iY w0 (w'.setCell ⟨pb,i,none⟩ x) b B rb pb r d p' :=
 ⟨h.r.move ((fQ _ _ fun e=>h.p.Ej h.r (.inl e)).trans (a.block rb h.r.blk.lt fun e=>h.p.Ej h.r (c rb e.symm).1)),f,mq (uK h.b h.hB a fun k e=>(c k e).2) h.pb,by simpa using dg h.hB a.size,h.rb,h.pb⟩
theorem af7{t:ByteArray}(h:0<t.size):t.toList.isEmpty=false:=by
 rw[Lib.toList_data];cases e:t.data.toList with
 |nil=>
  have:t.data.toList.length=0:=by rw[e];rfl
  rw[kh]at this;have:t.size=0:=this;omega
 |cons a l=>rfl
theorem aij (w0:World) (hS:pF w0) (h0:0<w0.heap.size) (b:ByteArray) (a9:b.size<=281474976710656) {x1 x2 x3 x4:Nat×Pk.Rd} {y1 y2:List ByteArray×Pk.Rd} {z:List (Nat×Nat)×Pk.Rd} {s:List Nat×List Nat×Pk.Rd} {p0:Pk.T} {q:List (Nat×Nat×Nat)×Pk.Rd} {g:Nat×Pk.Rd}
  (e1:Pk.size b 300 ⟨0,false⟩=x1) (e2:Pk.size b 1000 x1.2=x2) (e3:Pk.size b 1000 x2.2=x3) (e4:Pk.size b 200 x3.2=x4) (e5:Pk.words b x2.1 x4.2=y1) (e6:Pk.words b x3.1 y1.2=y2) (e7:Pk.uL b x2.1 x3.1 x4.1 y2.2 []=z) (e8:Pk.qR b x4.1 x1.1 z.2 [] []=s)
  (e9:p0={ ay:=s.2.1,ak:=[],toks:=y1.1,aS:=y2.1,prods:=z.1,aI:=s.1 }) (ai:Pk.places b p0 s.2.2=q) (an:Pk.num b 4 q.2=g) (a6:Gv p0) :
  Calls prog 13 #[.string b] w0 fun e w'=>∃rb pb v,e=.returned (.tuple #[.pointer (some ⟨pb,0,none⟩),.bool (!g.2.bad && decide (g.1=Pk.sum b q.2.k) && decide (g.2.k=b.size))])/\iY w0 w' b w0.heap.size rb pb g.2 v { p0 with ak:=q.1 }:=by
 have a1:1<=x1.1/\x1.1<=300:=by rw[<-e1];exact Pk.Bz (by decide)
 have a2:1<=x2.1/\x2.1<=1000:=by rw[<-e2];exact Pk.Bz (by decide)
 have a3:1<=x3.1/\x3.1<=1000:=by rw[<-e3];exact Pk.Bz (by decide)
 have a4:1<=x4.1/\x4.1<=200:=by rw[<-e4];exact Pk.Bz (by decide)
 obtain⟨rb,ac⟩:∃b,w0.heap.size=b:=⟨_,rfl⟩;obtain⟨w1,U⟩:∃V,V=w0.alloc (.cells #[.string b,.bool false] 71):=⟨_,rfl⟩;have ag:Below rb w0 w1:=by rw[U,<-ac];exact(cV _ _).alloc (zL0) _
 have am:fI w1 rb b ⟨0,false⟩:=by
  refine⟨?_,eR _⟩;show aj w1 rb #[.string (b.extract 0 b.size),.bool false] 71;rw[ByteArray.extract_zero_size,U,<-ac];exact aj.new ..
 have I:w1.heap.size=rb+1:=by rw[U,<-ac];simp
 have q1:=MJ (m:=300) am (by decide) (by decide);rw[e1]at q1;have Q2:Hid (∀w2,jf w1 rb b w2 x1.2->Calls prog 26 #[.pointer (some ⟨rb,0,none⟩),.int .i64 1000] w2 fun e w'=>e=.returned (.int .i64 (x2.1:Int))/\jf w2 rb b w' x2.2):=fun w2 T=>by rw[<-e2];exact MJ (m:=1000) T.m (by decide) (by decide)
 have Q3:Hid (∀w2 w3,jf w2 rb b w3 x2.2->Calls prog 26 #[.pointer (some ⟨rb,0,none⟩),.int .i64 1000] w3 fun e w'=>e=.returned (.int .i64 (x3.1:Int))/\jf w3 rb b w' x3.2):=fun w2 w3 T=>by rw[<-e3];exact MJ (m:=1000) T.m (by decide) (by decide)
 have Q4:Hid (∀w3 w4,jf w3 rb b w4 x3.2->Calls prog 26 #[.pointer (some ⟨rb,0,none⟩),.int .i64 200] w4 fun e w'=>e=.returned (.int .i64 (x4.1:Int))/\jf w4 rb b w' x4.2):=fun w3 w4 T=>by rw[<-e4];exact MJ (m:=200) T.m (by decide) (by decide)
 have E5:Hid (Pk.words b x2.1 x4.2=y1):=e5;have E6:Hid (Pk.words b x3.1 y1.2=y2):=e6;have E7:Hid (Pk.uL b x2.1 x3.1 x4.1 y2.2 []=z):=e7;have E8:Hid (Pk.qR b x4.1 x1.1 z.2 [] []=s):=e8;have E9:Hid (p0={ ay:=s.2.1,ak:=[],toks:=y1.1,aS:=y2.1,prods:=z.1,aI:=s.1 }):=e9;have a5:Hid (Pk.places b p0 s.2.2=q):=ai;have a0:Hid (Pk.num b 4 q.2=g):=an;clear e1 e2 e3 e4 e5 e6 e7 e8 e9 ai an;obtain⟨o,ho⟩:∃o,(!g.2.bad && decide (g.1=Pk.sum b q.2.k) && decide (g.2.k=b.size))=o:=⟨_,rfl⟩;rw[ac,ho];have HO:Hid ((!g.2.bad && decide (g.1=Pk.sum b q.2.k) && decide (g.2.k=b.size))=o):=ho;clear ho;go_enter func13,ntmps13;go_upto_region 2 with fail
 rw[<-U];clear U am;go_upto_region 3 with (first
  | (go_at_call 26;refine q1.mono ?_;rintro e w2⟨rfl,T2⟩;clear q1;have q2:=Q2.out w2 T2;clear Q2)
  | (go_at_call 26;refine q2.mono ?_;rintro e w3⟨rfl,T3⟩;clear q2;have q3:=Q3.out w2 w3 T3;clear Q3)
  | (go_at_call 26;refine q3.mono ?_;rintro e w4⟨rfl,T4⟩;clear q3;have q4:=Q4.out w3 w4 T4;clear Q4)
  | (go_at_call 26;refine q4.mono ?_;rintro e w5⟨rfl,T5⟩;clear q4))
 have ao:Below rb w0 w5:=uK (uK (uK (uK ag (by omega) T2.g fun k e=>by cases e;exact zL0) (by rw[T2.bS];omega) T3.g fun k e=>by cases e;exact zL0) (by rw[T3.bS,T2.bS];omega) T4.g fun k e=>by cases e;exact zL0) (by rw[T4.bS,T3.bS,T2.bS];omega) T5.g fun k e=>by cases e;exact zL0
 have Vy:w5.heap.size=rb+1:=by rw[T5.bS,T4.bS,T3.bS,T2.bS,I]
 have KM:=T5.m;clear T2 T3 T4 T5 ag I;have q5:=Zn KM a2.2;rw[E5.out,Vy]at q5;have Q6:Hid (∀Y,fI Y rb b y1.2->Calls prog 27 #[.pointer (some ⟨rb,0,none⟩),.int .i64 (x3.1:Int)] Y fun e w'=>e=.returned (.slice (some ⟨Y.heap.size,0,none⟩) x3.1 x3.1)/\aj w' Y.heap.size (mI y2.1) 9/\fI w' rb b y2.2/\Y.grownBy w' (some rb)):=fun Y h=>by rw[<-E6.out];exact Zn h a3.2
 go_upto_region 4 with (first
  | (go_at_call 27;refine q5.mono ?_;rintro e Y⟨rfl,kT,av,Vz⟩;clear q5;have q6:=Q6.out Y av;clear Q6)
  | (go_at_call 27;refine q6.mono ?_;rintro e w7⟨rfl,kN,VA,Az⟩;clear q6))
 obtain⟨pb,ae⟩:∃b,w7.heap.size=b:=⟨_,rfl⟩;obtain⟨gn,X⟩:∃b,Y.heap.size=b:=⟨_,rfl⟩;obtain⟨w8,M⟩:∃V,V=w7.alloc (.cells #[.slice none 0 0,.slice none 0 0,.slice (some ⟨rb+1,0,none⟩) x2.1 x2.1,.slice (some ⟨gn,0,none⟩) x3.1 x3.1,.slice none 0 0,.slice none 0 0] 79):=⟨_,rfl⟩;rw[ae,X,<-M];have L1:y1.1.length=x2.1:=by rw[<-E5.out];exact Pk.IB ..
 have L2:y2.1.length=x3.1:=by rw[<-E6.out];exact Pk.IB ..
 have S0:iY w0 w8 b rb rb pb y2.2 { vB:=.slice none 0 0,vP:=.slice none 0 0,vT:=.slice (some ⟨rb+1,0,none⟩) x2.1 x2.1,vN:=.slice (some ⟨gn,0,none⟩) x3.1 x3.1,vR:=.slice none 0 0,vD:=.slice none 0 0 } { ay:=[],ak:=[],toks:=y1.1,aS:=y2.1,prods:=[],aI:=[] }:=by
  have k1:w5.heap.size<=Y.heap.size:=Vz.size;have k2:Y.heap.size<=w7.heap.size:=Az.size;have hA:∀k,k<w7.heap.size->w8.heap[k]?=w7.heap[k]?:=fun k hk=>by rw[M];exact di _ _ _ hk
  have a7:aj w8 (rb+1) (mI y1.1) 9:=((hA _ (dd kT.lt k2)).trans (Az.block _ kT.lt fun e=>by simp at e)).trans kT;have az:aj w8 gn (mI y2.1) 9:=(hA _ (by rw[<-X];exact kN.lt)).trans (by rw[<-X];exact kN);refine⟨VA.move (hA _ VA.blk.lt),⟨?_,eE ..,eE ..,⟨rb+1,by rw[L1],a7⟩,⟨gn,by rw[L2],az⟩,eE ..,eE ..,fun g e=>(by cases e),fun g e=>e.elim (fun e=>(by cases e;exact oR _)) fun e=>(by cases e;rw[<-X];exact dg (by rw[Vy];exact oR _) k1)⟩,?_,?_,zL0,by omega⟩
  ·rw[M,<-ae]
   exact aj.new ..
  ·rw[M]
   exact(uK (uK ao (by omega) Vz fun k e=>by cases e;exact zL0) (by omega) Az fun k e=>by cases e;exact zL0).alloc (by omega) _
  ·have:w8.heap.size=w7.heap.size+1:=by rw[M];simp
   omega
 have Gt:Hid (iY w0 w8 b rb rb pb y2.2 _ _):=S0;clear S0 M KM av VA Vz Az kT kN ao Vy L1 L2 ae X;go_upto_region 5 with fail
 obtain⟨i0,P,W,I,aa⟩:=fd Tryz.aci
 go_loopw [25] (fun i wr=>∃(j:Nat)(O:Pk.Rd)(l:List (Nat×Nat))(x:fV),i=.int .i64 (j:Int)/\Hid (j<=x4.1/\l.length=j/\iY w0 wr b rb rb pb O x { ay:=[],ak:=[],toks:=y1.1,aS:=y2.1,prods:=l,aI:=[] }/\z=Pk.uL b x2.1 x3.1 (x4.1-j) O l)) (fun i _=>x4.1 - (intOf i).toNat)
 case atStart=>exact⟨0,y2.2,[],_,rfl,eR _,rfl,Gt.out,E7.out.symm⟩
 case round=>
  clear Gt E7;obtain⟨j,O,l,x,rfl,HI⟩:=hrel;obtain⟨hj,hl,a,F⟩:=HI.out;clear HI
  by_cases hjn:j<x4.1
  ·have j1:(j:Int)<(x4.1:Int):=by omega
   obtain⟨n,hn⟩:∃n,x4.1-j=n+1:=⟨x4.1-j-1,by omega⟩;rw[hn,Pk.uL]at F;obtain⟨E,J⟩:∃u,Pk.below b x3.1 2 O=u:=⟨_,rfl⟩;rw[J]at F;obtain⟨y,H⟩:∃u,Pk.below b 1001 2 E.2=u:=⟨_,rfl⟩;rw[H]at F;have d1:E.1<1000:=by rw[<-J];exact dd (Pk.yI (by omega)) a3.2
   have d2:y.1<1001:=by rw[<-H];exact Pk.yI (by omega)
   obtain⟨C,A,D,-⟩:=aB a.p.rR
   dsimp only at D
   have Gg:l.length<=200:=by omega
   obtain⟨m1,aq⟩:∃m,x2.1+E.1=m:=⟨_,rfl⟩;have ew:IntKind.i64.wrap ((x2.1:Int)+(E.1:Int))=(m1:Int):=by rw[gw];omega
   rw[aq]at F;clear aq;have c4:wr.cell? ⟨pb,4,none⟩=some (.slice C l.length A):=by rw[<-D];exact a.p.blk.cell 4
   have R:=EQ (w:=wr.drew) (m:=x3.1) (a.r.move rfl) (show 2<=4 by decide);rw[J]at R;have HA:Hid (∀G,jf wr.drew rb b G E.2->G.cell? ⟨pb,4,none⟩=some (.slice C l.length A)/\iY w0 G b rb rb pb E.2 x { ay:=[],ak:=[],toks:=y1.1,aS:=y2.1,prods:=l,aI:=[] }/\Calls prog 28 #[.pointer (some ⟨rb,0,none⟩),.int .i64 1001,.int .i64 2] G fun e w'=>e=.returned (.int .i64 (y.1:Int))/\jf G rb b w' y.2):=fun G T=>by
    have El:iY w0 G b rb rb pb E.2 x { ay:=[],ak:=[],toks:=y1.1,aS:=y2.1,prods:=l,aI:=[] }:=(a.below (w':=wr.drew) ⟨rfl,rfl,rfl,zL0,fun _ _=>rfl⟩).read T;exact⟨by rw[<-D];exact El.p.blk.cell 4,El,by rw[<-H];exact EQ (m:=1001) T.m (show 2<=4 by decide)⟩
   have HB:Hid (∀G d o,iY w0 G b rb rb pb E.2 x { ay:=[],ak:=[],toks:=y1.1,aS:=y2.1,prods:=l,aI:=[] }->jf G rb b d y.2->d.cell? ⟨pb,4,none⟩=some (.slice C l.length A)/\(∀o,(d.alloc o).cell? ⟨pb,4,none⟩=some (.slice C l.length A))/\iY w0 d b rb rb pb y.2 x { ay:=[],ak:=[],toks:=y1.1,aS:=y2.1,prods:=l,aI:=[] }/\(d.alloc o).ownsRow rb 81 2 (.slice C l.length A) l.length (l.flatMap eX)/\aj (d.alloc o) pb x.cells 79/\rb<=(d.alloc o).heap.size):=fun G d o El T=>by
    have f:=El.read T;have c:d.cell? ⟨pb,4,none⟩=some (.slice C l.length A):=by rw[<-D];exact f.p.blk.cell 4
    refine⟨c,fun o=>(cJ (w:=d) (di _ _ _ f.p.kp.lt)).trans c,f,?_,f.p.blk.alloc _,dg f.hB (aX d _ none).size⟩;rw[<-D];exact f.p.rR.alloc _
   have K:(Value.slice C l.length A).ownBlock≠some pb:=fun e=>(a.p.kR (by rw[D];exact e)).ne a.p.kp (by decide) rfl
   have HV:Hid (x.vR=.slice C l.length A):=D;have HL:Hid (l.length=j):=hl;have HW:Hid (z=Pk.uL b x2.1 x3.1 n y.2 (l++[(m1,y.1)])):=F;clear a F J H D hl;go_upto_region 6 with fail
   go_region_law (first
    | (refine fP rfl 28 #[.pointer (some ⟨rb,0,none⟩),.int .i64 (x3.1:Int),.int .i64 2] (by go_simp) R ?_;rintro e G⟨rfl,TA⟩;refine⟨_,rfl,?_⟩;clear R;obtain⟨cA,El,q9⟩:=HA.out G TA;clear HA)
    | (refine fP rfl 28 #[.pointer (some ⟨rb,0,none⟩),.int .i64 1001,.int .i64 2] (by go_simp) q9 ?_;rintro e d⟨rfl,TB⟩;refine⟨_,rfl,?_⟩;clear q9;obtain⟨cB,dB,f,o3,jg,Z⟩:=HB.out G d (.cells #[.int .i64 (m1:Int),.int .i64 (y.1:Int)] 81) El TB;clear HB)
    | (refine step_append_lies _ rfl (.tmp 31) (.tmp 38) 77 rfl rb 81 i0 _ 2 16 Tryz.ac4 P W I aa rfl (by decide) (.slice C l.length A) l.length (l.flatMap eX) (by simp[Act.eval]) o3 ⟨d.heap.size,0,none⟩ 1 1 [.int .i64 (m1:Int),.int .i64 (y.1:Int)] (by simp[Act.eval]) rfl (dI (aj.new d _ 81)) (by simp[Value.oneCell']) (by decide) (by unfold maxLen;omega) (by omega) Z _ rfl ?_;intro N Q w9 ny jw lY F7;have jC:=jg.grown jw (fun e=>K e.symm);have c9:w9.cell? ⟨pb,4,none⟩=some x.vR:=jC.cell 4;have f9:=jC.frozen 4))
   all_goals
    have S:d.grownBy w9 x.vR.ownBlock:=by rw[HV.out];exact aL (aX d _ _) jw
    have nY:w9.ownsRow rb 81 2 (.slice (some ⟨N,0,none⟩) (l.length+1) Q) (l++[(m1,y.1)]).length ((l++[(m1,y.1)]).flatMap eX):=by
     rw[fL,cH];exact ny
    have HN:Hid (iY w0 (w9.setCell ⟨pb,4,none⟩ (.slice (some ⟨N,0,none⟩) (l.length+1) Q)) b rb rb pb y.2 { x with vR:=.slice (some ⟨N,0,none⟩) (l.length+1) Q } { ay:=[],ak:=[],toks:=y1.1,aS:=y2.1,prods:=l++[(m1,y.1)],aI:=[] }):=f.grow (fun g e=>⟨.inr (.inr (.inr (.inr (.inr (.inl e))))),(f.p.rR.lt g e).1⟩) S (f.p.anm S nY);clear S nY ny jw lY jC c9 f9 o3 jg cA cB dB El f;go_wp2_with fail;refine⟨⟨j+1,y.2,l++[(m1,y.1)],_,by go_num,by omega,by rw[cH,HL.out];rfl,HN.out,?_⟩,by simp[intOf];omega⟩;rw[show x4.1 - (j+1)=n by omega];exact HW.out
  ·obtain rfl:j=x4.1:=by omega
   rw[ij,Pk.uL]at F;rw[<-show z.1=l by rw[F]]at a;rw[<-show z.2=O by rw[F]]at a;have KP:Hid (iY w0 wr b rb rb pb z.2 x { ay:=[],ak:=[],toks:=y1.1,aS:=y2.1,prods:=z.1,aI:=[] }):=a;clear a F hl;go_upto_region 8 with fail
   clear P W I aa i0;obtain⟨i0,P,W,I,aa⟩:=fd Tryz.info3;go_upto_region 9 with fail
   go_loopw [44] (fun i wr=>∃(j:Nat)(O:Pk.Rd)(l m:List Nat)(x:fV),i=.int .i64 (j:Int)/\Hid (j<=x1.1/\l.length=j/\m.length=j/\iY w0 wr b rb rb pb O x { ay:=m,ak:=[],toks:=y1.1,aS:=y2.1,prods:=z.1,aI:=l }/\s=Pk.qR b x4.1 (x1.1-j) O l m)) (fun i _=>x1.1 - (intOf i).toNat)
   case atStart=>exact⟨0,z.2,[],[],x,rfl,eR _,rfl,rfl,KP.out,E8.out.symm⟩
   case round=>
    clear KP E8;clear x O l;obtain⟨j,O,l,m,x,rfl,HI⟩:=hrel;obtain⟨hj,hl,hm,a,F⟩:=HI.out;clear HI
    by_cases hjn:j<x1.1
    ·have j1:(j:Int)<(x1.1:Int):=by omega
     obtain⟨n,hn⟩:∃n,x1.1-j=n+1:=⟨x1.1-j-1,by omega⟩;rw[hn,Pk.qR]at F;obtain⟨E,J⟩:∃u,Pk.below b x4.1 1 O=u:=⟨_,rfl⟩;rw[J]at F;obtain⟨y,H⟩:∃u,Pk.num b 3 E.2=u:=⟨_,rfl⟩;rw[H]at F;have d2:y.1<16777216:=by rw[<-H];exact Pk.FJ b 3 _
     have Gg:l.length<=300:=by omega
     have aA:m.length<=300:=by omega
     obtain⟨C,A,D,-⟩:=aB a.p.rD
     dsimp only at D
     have c4:wr.cell? ⟨pb,5,none⟩=some (.slice C l.length A):=by rw[<-D];exact a.p.blk.cell 5
     have R:=EQ (w:=wr.drew) (m:=x4.1) (a.r.move rfl) (show 1<=4 by decide);rw[J]at R;have HB:Hid (∀d o,jf wr.drew rb b d E.2->d.cell? ⟨pb,5,none⟩=some (.slice C l.length A)/\(∀o,(d.alloc o).cell? ⟨pb,5,none⟩=some (.slice C l.length A))/\iY w0 d b rb rb pb E.2 x { ay:=m,ak:=[],toks:=y1.1,aS:=y2.1,prods:=z.1,aI:=l }/\(d.alloc o).ownsRow rb 3 1 (.slice C l.length A) l.length (l.map bQ)/\aj (d.alloc o) pb x.cells 79/\rb<=(d.alloc o).heap.size):=fun d o T=>by
      have f:=(a.below (w':=wr.drew) ⟨rfl,rfl,rfl,zL0,fun _ _=>rfl⟩).read T;have c:d.cell? ⟨pb,5,none⟩=some (.slice C l.length A):=by rw[<-D];exact f.p.blk.cell 5
      refine⟨c,fun o=>(cJ (w:=d) (di _ _ _ f.p.kp.lt)).trans c,f,?_,f.p.blk.alloc _,dg f.hB (aX d _ none).size⟩;rw[<-D];exact f.p.rD.alloc _
     have K:(Value.slice C l.length A).ownBlock≠some pb:=fun e=>(a.p.kD (by rw[D];exact e)).ne a.p.kp (by decide) rfl
     have HV:Hid (x.vD=.slice C l.length A):=D;have HL:Hid (l.length=j/\m.length=j):=⟨hl,hm⟩;have HW:Hid (s=Pk.qR b x4.1 n y.2 (l++[E.1]) (m++[y.1])):=F;have HU:Hid (Pk.num b 3 E.2=y):=H;clear a F J H D hl hm;go_upto_region 10 with fail
     go_region_law (first
      | (refine fP rfl 28 #[.pointer (some ⟨rb,0,none⟩),.int .i64 (x4.1:Int),.int .i64 1] (by go_simp) R ?_;rintro e d⟨rfl,TB⟩;refine⟨_,rfl,?_⟩;clear R;obtain⟨cB,dB,f,o3,jg,Z⟩:=HB.out d (.cells #[.int .i64 (E.1:Int)] 3) TB;clear HB)
      | (refine step_append_lies _ rfl (.tmp 50) (.tmp 53) 22 rfl rb 3 i0 _ 1 8 Tryz.NC P W I aa rfl (by decide) (.slice C l.length A) l.length (l.map bQ) (by simp[Act.eval]) o3 ⟨d.heap.size,0,none⟩ 1 1 [.int .i64 (E.1:Int)] (by simp[Act.eval]) rfl (dI (aj.new d _ 3)) (by simp[Value.oneCell']) (by decide) (by unfold maxLen;omega) (by omega) Z _ rfl ?_;intro N Q w9 ny jw lY F7;have jC:=jg.grown jw (fun e=>K e.symm);have c9:w9.cell? ⟨pb,5,none⟩=some x.vD:=jC.cell 5;have f9:=jC.frozen 5))
     all_goals
      have S:d.grownBy w9 x.vD.ownBlock:=by rw[HV.out];exact aL (aX d _ _) jw
      have nY:w9.ownsRow rb 3 1 (.slice (some ⟨N,0,none⟩) (l.length+1) Q) (l++[E.1]).length ((l++[E.1]).map bQ):=by
       rw[ei,cH];exact ny
      have Ca:(Value.slice (some ⟨N,0,none⟩) (l.length+1) Q).ownBlock=x.vD.ownBlock\/∃g,(Value.slice (some ⟨N,0,none⟩) (l.length+1) Q).ownBlock=some g/\d.heap.size<=g:=by
       rw[HV.out];rcases lY with e|e
       ·exact .inl e.symm
       ·exact .inr ⟨N,rfl,by rw[e];exact(aX d _ none).size⟩
      have AA:iY w0 (w9.setCell ⟨pb,5,none⟩ (.slice (some ⟨N,0,none⟩) (l.length+1) Q)) b rb rb pb E.2 { x with vD:=.slice (some ⟨N,0,none⟩) (l.length+1) Q } { ay:=m,ak:=[],toks:=y1.1,aS:=y2.1,prods:=z.1,aI:=l++[E.1] }:=f.grow (fun g e=>⟨.inr (.inr (.inr (.inr (.inr (.inr e))))),(f.p.rD.lt g e).1⟩) S (f.p.ann S nY Ca);clear S nY Ca ny jw lY jC c9 f9 o3 jg cB dB f K HV c4;generalize w9.setCell ⟨pb,5,none⟩ (.slice (some ⟨N,0,none⟩) (l.length+1) Q)=wr at AA|-;generalize ({ x with vD:=.slice (some ⟨N,0,none⟩) (l.length+1) Q }:fV)=x at AA;obtain⟨C,A,D,-⟩:=aB AA.p.rB
      dsimp only at D
      have c4:wr.cell? ⟨pb,0,none⟩=some (.slice C m.length A):=by rw[<-D];exact AA.p.blk.cell 0
      have R:=EZ (w:=wr.drew) (AA.r.move rfl) (show 3<=4 by decide);rw[HU.out]at R;have HB:Hid (∀d o,jf wr.drew rb b d y.2->d.cell? ⟨pb,0,none⟩=some (.slice C m.length A)/\(∀o,(d.alloc o).cell? ⟨pb,0,none⟩=some (.slice C m.length A))/\iY w0 d b rb rb pb y.2 x { ay:=m,ak:=[],toks:=y1.1,aS:=y2.1,prods:=z.1,aI:=l++[E.1] }/\(d.alloc o).ownsRow rb 3 1 (.slice C m.length A) m.length (m.map bQ)/\aj (d.alloc o) pb x.cells 79/\rb<=(d.alloc o).heap.size):=fun d o T=>by
       have f:=(AA.below (w':=wr.drew) ⟨rfl,rfl,rfl,zL0,fun _ _=>rfl⟩).read T;have c:d.cell? ⟨pb,0,none⟩=some (.slice C m.length A):=by rw[<-D];exact f.p.blk.cell 0
       refine⟨c,fun o=>(cJ (w:=d) (di _ _ _ f.p.kp.lt)).trans c,f,?_,f.p.blk.alloc _,dg f.hB (aX d _ none).size⟩;rw[<-D];exact f.p.rB.alloc _
      have K:(Value.slice C m.length A).ownBlock≠some pb:=fun e=>(AA.p.kB (by rw[D];exact e)).ne AA.p.kp (by decide) rfl
      have HV:Hid (x.vB=.slice C m.length A):=D;clear AA D;go_upto_region 11 with fail
      have ew:IntKind.i64.wrap (y.1:Int)=(y.1:Int):=by rw[gw];omega
      go_region_law (first
       | (refine fP rfl 29 #[.pointer (some ⟨rb,0,none⟩),.int .i64 3] (by go_simp) R ?_;rintro e wC⟨rfl,TB⟩;refine⟨_,rfl,?_⟩;clear R;obtain⟨cB,dB,f,o3,jg,Z⟩:=HB.out wC (.cells #[.int .i64 (y.1:Int)] 3) TB;clear HB)
       | (refine step_append_lies _ rfl (.tmp 62) (.tmp 65) 22 rfl rb 3 i0 _ 1 8 Tryz.NC P W I aa rfl (by decide) (.slice C m.length A) m.length (m.map bQ) (by simp[Act.eval]) o3 ⟨wC.heap.size,0,none⟩ 1 1 [.int .i64 (y.1:Int)] (by simp[Act.eval]) rfl (dI (aj.new wC _ 3)) (by simp[Value.oneCell']) (by decide) (by unfold maxLen;omega) (by omega) Z _ rfl ?_;intro gA JO G ap SQ ar aE;have VB:=jg.grown SQ (fun e=>K e.symm);have cA:G.cell? ⟨pb,0,none⟩=some x.vB:=VB.cell 0;have fA:=VB.frozen 0))
      all_goals
       have S:wC.grownBy G x.vB.ownBlock:=by rw[HV.out];exact aL (aX wC _ _) SQ
       have nY:G.ownsRow rb 3 1 (.slice (some ⟨gA,0,none⟩) (m.length+1) JO) (m++[y.1]).length ((m++[y.1]).map bQ):=by
        rw[ei,cH];exact ap
       have Ca:(Value.slice (some ⟨gA,0,none⟩) (m.length+1) JO).ownBlock=x.vB.ownBlock\/∃g,(Value.slice (some ⟨gA,0,none⟩) (m.length+1) JO).ownBlock=some g/\wC.heap.size<=g:=by
        rw[HV.out];rcases ar with e|e
        ·exact .inl e.symm
        ·exact .inr ⟨gA,rfl,by rw[e];exact(aX wC _ none).size⟩
       have HN:Hid (iY w0 (G.setCell ⟨pb,0,none⟩ (.slice (some ⟨gA,0,none⟩) (m.length+1) JO)) b rb rb pb y.2 { x with vB:=.slice (some ⟨gA,0,none⟩) (m.length+1) JO } { ay:=m++[y.1],ak:=[],toks:=y1.1,aS:=y2.1,prods:=z.1,aI:=l++[E.1] }):=f.grow (fun g e=>⟨.inr (.inl e),(f.p.rB.lt g e).1⟩) S (f.p.ano S nY Ca);clear S nY Ca ap SQ ar VB cA fA o3 jg cB dB f K HV c4;go_wp2_with fail;refine⟨⟨j+1,y.2,l++[E.1],m++[y.1],_,by go_num,by omega,by rw[cH,HL.out.1];rfl,by rw[cH,HL.out.2];rfl,HN.out,?_⟩,by simp[intOf];omega⟩;rw[show x1.1 - (j+1)=n by omega];exact HW.out
    ·obtain rfl:j=x1.1:=by omega
     rw[ij,Pk.qR]at F;rw[<-show s.1=l by rw[F],<-show s.2.1=m by rw[F],<-show s.2.2=O by rw[F]]at a;rw[<-E9.out]at a;have aw:p0.ak=[]:=by rw[E9.out]
     have VD:=ag3 a.r a.p aw a.hB a6;rw[a5.out]at VD;have KP:Hid (iY w0 wr b rb rb pb s.2.2 x p0):=a;clear a F hl hm;go_upto_region 14 with (go_at_call 30;refine VD.mono ?_;rintro e wP⟨rfl,v2,ab,ah,L⟩)
     have a:=KP.out;have ad:iY w0 wP b rb rb pb q.2 v2 { p0 with ak:=q.1 }:=⟨ab,ah,⟨L.fr.1.trans a.b.1,L.fr.2.1.trans a.b.2,L.fr.2.2.trans a.b.3,dg a.b.4 L.bS,fun k hk=>(L.aU k (dd hk a.hB) (by omega) fun e=>by have:=a.p.base a.pb e;omega).trans (a.b.block k hk)⟩,dg a.hB L.bS,a.rb,a.pb⟩;have hk:=ab.le;have Gx:=ak2 (hS.move (ad.b.block 0 (by omega))) (b.extract 0 q.2.k) (by simp;omega);rw[ak3 b hk]at Gx;have VE:=EZ ad.r (show 4<=4 by decide);rw[a0.out]at VE;obtain⟨t,ht⟩:∃t,t=b.extract q.2.k b.size:=⟨_,rfl⟩;have c0:wP.cell? ⟨rb,0,none⟩=some (.string t):=by rw[ht];exact ab.blk.cell 0
     have ax:(b.size:Int) - (t.size:Int)=(q.2.k:Int):=by
      have:t.size=b.size-q.2.k:=by rw[ht];simp
      omega
     have n0:(0:Int)<=(q.2.k:Int):=by omega
     have n1:(q.2.k:Int)<=(b.size:Int):=by omega
     have al:Hid (∀wG,jf wP rb b wG g.2->iY w0 wG b rb rb pb g.2 v2 { p0 with ak:=q.1 }):=fun wG T=>ad.read T
     clear a KP ab ah L ad VD hS ht;go_upto_region 15 with (go_at_call 31;refine Gx.mono ?_;rintro e wS⟨rfl,rfl⟩)
     go_upto_region 16 with (go_at_call 29;refine VE.mono ?_;rintro e wG⟨rfl,TG⟩)
     have KQ:=al.out wG TG;clear al TG c0 Gx VE ax n0 n1;have c1:wG.cell? ⟨rb,1,none⟩=some (.bool g.2.bad):=KQ.r.blk.cell 1;obtain⟨t2,af⟩:∃t,t=b.extract g.2.k b.size:=⟨_,rfl⟩;have c0:wG.cell? ⟨rb,0,none⟩=some (.string t2):=by rw[af];exact KQ.r.blk.cell 0
     have hsz:t2.size=b.size-g.2.k:=by rw[af];simp
     have a8:=KQ.r.le;have Em:Hid (∀nq,iY w0 (wG.drewN nq) b rb rb pb g.2 v2 { p0 with ak:=q.1 }):=fun nq=>KQ.below ⟨rfl,rfl,rfl,zL0,fun _ _=>rfl⟩
     clear KQ af;cases hbad:g.2.bad with
     |true=>
      rw[hbad]at c1;obtain rfl:o=false:=by rw[<-HO.out,hbad];rfl
      go_quiet (fail)
      go_wp2_with fail
      go_ret2
      exact⟨rb,pb,v2,rfl,Em.out _⟩
     |false=>
      rw[hbad]at c1
      by_cases hgs:g.1=Pk.sum b q.2.k
      ·have b1:((g.1:Int) == (Pk.sum b q.2.k:Int))=true:=by rw[hgs];exact s8 _
       by_cases hsk:g.2.k=b.size
       ·obtain rfl:t2=ByteArray.empty:=by
         apply ByteArray.ext;apply Array.eq_empty_of_size_eq_zero;show t2.size=0;omega
        obtain rfl:o=true:=by rw[<-HO.out,hbad,fh hgs,fh hsk];rfl
        clear hgs hsk hsz
        go_quiet (fail)
        go_wp2_with fail
        go_ret2
        exact⟨rb,pb,v2,rfl,Em.out _⟩
       ·have b2:t2.toList.isEmpty=false:=af7 (by omega)
        obtain rfl:o=false:=by rw[<-HO.out,hbad,fh hgs,eV hsk];rfl
        clear hgs hsk hsz
        go_quiet (fail)
        go_wp2_with fail
        go_ret2
        exact⟨rb,pb,v2,rfl,Em.out _⟩
      ·have b1:((g.1:Int) == (Pk.sum b q.2.k:Int))=false:=iS.2 fun e=>hgs (by omega)
       obtain rfl:o=false:=by rw[<-HO.out,hbad,eV hgs];rfl
       clear hgs
       go_quiet (fail)
       go_wp2_with fail
       go_ret2
       exact⟨rb,pb,v2,rfl,Em.out _⟩
theorem ajD(w0:World)(c:pF w0)(d:0<w0.heap.size)(b:ByteArray)(a:b.size<=281474976710656):Calls prog 13 #[.string b] w0 fun e w'=>∃rb pb v,e=.returned (.tuple #[.pointer (some ⟨pb,0,none⟩),.bool (Pk.ok b)])/\iY w0 w' b w0.heap.size rb pb (Pk.got b).2 v (Pk.pack b) :=
 aij w0 c d b a (x1:=Pk.h1 b) (x2:=Pk.h2 b) (x3:=Pk.h3 b) (x4:=Pk.h4 b) (y1:=Pk.w1 b) (y2:=Pk.w2 b) (z:=Pk.pr b) (s:=Pk.st b) (p0:=Pk.p0 b) (q:=Pk.pl b) (g:=Pk.got b) (by unfold Pk.h1;rfl) (by unfold Pk.h2;rfl) (by unfold Pk.h3;rfl) (by unfold Pk.h4;rfl) (by unfold Pk.w1;rfl) (by unfold Pk.w2;rfl) (by unfold Pk.pr;rfl) (by unfold Pk.st;rfl) (by unfold Pk.p0;rfl) (by unfold Pk.pl;rfl) (by unfold Pk.got;rfl) (Pk.ac5 b)
end
end Go.Proofs.YtagkodkijkpemaaGreatDoor

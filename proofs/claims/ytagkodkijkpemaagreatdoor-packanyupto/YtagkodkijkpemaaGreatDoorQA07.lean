import Derived.Test.YtagkodkijkpemaaGreatDoorQA06
set_option maxHeartbeats 8000000
set_option maxRecDepth 1000000
namespace Go.Proofs.YtagkodkijkpemaaGreatDoor
open Lx Go.Proofs.Tryz
open Go.RowKit Tr
structure iX(w0 w:World)(b:ByteArray)(B rb pb:Nat)(r:Pk.Rd)(v:gG)(p:Pk.T):Prop where
 r:fP w rb b r
 p:aT w B pb v p
 b:Below B w0 w
 hB:B<=w.heap.size
 rb:B<=rb
 pb:B<=pb
section
variable{w0 w w':World}{b:ByteArray}{B rb pb:Nat}{r r':Pk.Rd}{v:gG}{p:Pk.T}
theorem iX.read(h:iX w0 w b B rb pb r v p)(T:jg w rb b w' r'):iX w0 w' b B rb pb r' v p:=⟨T.m,h.p.read h.r T,BA h.b h.hB T.g fun k e=>by cases e;exact h.rb,de h.hB T.g.size,h.rb,h.pb⟩
theorem iX.below(h:iX w0 w b B rb pb r v p)(a:Below w.heap.size w w'):iX w0 w' b B rb pb r v p:=⟨h.r.move (a.block _ h.r.blk.lt),h.p.move fun k c=>a.block k (h.p.lt c),⟨a.1.trans h.b.1,a.2.trans h.b.2,a.3.trans h.b.3,de h.b.4 a.4,fun k c=>(a.block k (dd c h.hB)).trans (h.b.block k c)⟩,de h.hB a.size,h.rb,h.pb⟩
theorem iX.grow(h:iX w0 w b B rb pb r v p){u x:Value}{c:gG}{p':Pk.T}{i:Nat}(d:∀g,u.ownBlock=some g->v.own pb g/\B<=g)(a:w.grownBy w' u.ownBlock)(f:aT (w'.setCell ⟨pb,i,none⟩ x) B pb c p'):iX w0 (w'.setCell ⟨pb,i,none⟩ x) b B rb pb r c p' :=
 ⟨h.r.move ((fV _ _ fun e=>h.p.Ez h.r (.inl e)).trans (a.block rb h.r.blk.lt fun e=>h.p.Ez h.r (d rb e.symm).1)),f,Bv (BA h.b h.hB a fun k e=>(d k e).2) h.pb,by simpa using de h.hB a.size,h.rb,h.pb⟩
theorem agS{t:ByteArray}(h:0<t.size):t.toList.isEmpty=false:=by
 rw[Lib.toList_data];cases e:t.data.toList with
 |nil=>
  have:t.data.toList.length=0:=by rw[e];rfl
  rw[lj]at this;have:t.size=0:=this;omega
 |cons a l=>rfl
theorem ai4(w0:World)(hS:pE w0)(h0:0<w0.heap.size)(b:ByteArray)(a9:b.size<=281474976710656){x1 x2 x3 x4:Nat×Pk.Rd}{y1 y2:List ByteArray×Pk.Rd}{z:List (Nat×Nat)×Pk.Rd}{s:List Nat×List Nat×Pk.Rd}{p0:Pk.T}{q:List (Nat×Nat×Nat)×Pk.Rd}{g:Nat×Pk.Rd}
  (e1:Pk.size b 300 ⟨0,false⟩=x1) (e2:Pk.size b 1000 x1.2=x2) (e3:Pk.size b 1000 x2.2=x3) (e4:Pk.size b 200 x3.2=x4) (e5:Pk.words b x2.1 x4.2=y1) (e6:Pk.words b x3.1 y1.2=y2) (e7:Pk.uO b x2.1 x3.1 x4.1 y2.2 []=z) (e8:Pk.qW b x4.1 x1.1 z.2 [] []=s)
  (e9:p0={ aB:=s.2.1,ak:=[],toks:=y1.1,aN:=y2.1,prods:=z.1,aH:=s.1 }) (al:Pk.places b p0 s.2.2=q) (an:Pk.num b 4 q.2=g) (a0:GJ p0) :
  Calls prog 13 #[.string b] w0 fun e w'=>∃rb pb v,e=.returned (.tuple #[.pointer (some ⟨pb,0,none⟩),.bool (!g.2.bad && decide (g.1=Pk.sum b q.2.k) && decide (g.2.k=b.size))])/\iX w0 w' b w0.heap.size rb pb g.2 v { p0 with ak:=q.1 }:=by
 have a1:1<=x1.1/\x1.1<=300:=by rw[<-e1];exact Pk.BJ (by decide)
 have a2:1<=x2.1/\x2.1<=1000:=by rw[<-e2];exact Pk.BJ (by decide)
 have a3:1<=x3.1/\x3.1<=1000:=by rw[<-e3];exact Pk.BJ (by decide)
 have a4:1<=x4.1/\x4.1<=200:=by rw[<-e4];exact Pk.BJ (by decide)
 obtain⟨rb,ab⟩:∃b,w0.heap.size=b:=⟨_,rfl⟩;obtain⟨w1,X⟩:∃V,V=w0.alloc (.cells #[.string b,.bool false] 71):=⟨_,rfl⟩;have ar:Below rb w0 w1:=by rw[X,<-ab];exact(cV _ _).alloc (zL0) _
 have ao:fP w1 rb b ⟨0,false⟩:=by
  refine⟨?_,ff _⟩;show aj w1 rb #[.string (b.extract 0 b.size),.bool false] 71;rw[ByteArray.extract_zero_size,X,<-ab];exact aj.new ..
 have J:w1.heap.size=rb+1:=by rw[X,<-ab];simp
 have q1:=MR (m:=300) ao (by decide) (by decide);rw[e1]at q1;have Q2:Hid (∀w2,jg w1 rb b w2 x1.2->Calls prog 26 #[.pointer (some ⟨rb,0,none⟩),.int .i64 1000] w2 fun e w'=>e=.returned (.int .i64 (x2.1:Int))/\jg w2 rb b w' x2.2):=fun w2 T=>by rw[<-e2];exact MR (m:=1000) T.m (by decide) (by decide)
 have Q3:Hid (∀w2 w3,jg w2 rb b w3 x2.2->Calls prog 26 #[.pointer (some ⟨rb,0,none⟩),.int .i64 1000] w3 fun e w'=>e=.returned (.int .i64 (x3.1:Int))/\jg w3 rb b w' x3.2):=fun w2 w3 T=>by rw[<-e3];exact MR (m:=1000) T.m (by decide) (by decide)
 have Q4:Hid (∀w3 w4,jg w3 rb b w4 x3.2->Calls prog 26 #[.pointer (some ⟨rb,0,none⟩),.int .i64 200] w4 fun e w'=>e=.returned (.int .i64 (x4.1:Int))/\jg w4 rb b w' x4.2):=fun w3 w4 T=>by rw[<-e4];exact MR (m:=200) T.m (by decide) (by decide)
 have E5:Hid (Pk.words b x2.1 x4.2=y1):=e5;have E6:Hid (Pk.words b x3.1 y1.2=y2):=e6;have E7:Hid (Pk.uO b x2.1 x3.1 x4.1 y2.2 []=z):=e7;have E8:Hid (Pk.qW b x4.1 x1.1 z.2 [] []=s):=e8;have E9:Hid (p0={ aB:=s.2.1,ak:=[],toks:=y1.1,aN:=y2.1,prods:=z.1,aH:=s.1 }):=e9;have aw:Hid (Pk.places b p0 s.2.2=q):=al;have a6:Hid (Pk.num b 4 q.2=g):=an;clear e1 e2 e3 e4 e5 e6 e7 e8 e9 al an;obtain⟨o,ho⟩:∃o,(!g.2.bad && decide (g.1=Pk.sum b q.2.k) && decide (g.2.k=b.size))=o:=⟨_,rfl⟩;rw[ab,ho];have HO:Hid ((!g.2.bad && decide (g.1=Pk.sum b q.2.k) && decide (g.2.k=b.size))=o):=ho;clear ho;go_enter func13,ntmps13;go_upto_region 2 with fail
 rw[<-X];clear X ao;go_upto_region 3 with (first
  | (go_at_call 26;refine q1.mono ?_;rintro e w2⟨rfl,T2⟩;clear q1;have q2:=Q2.out w2 T2;clear Q2)
  | (go_at_call 26;refine q2.mono ?_;rintro e w3⟨rfl,T3⟩;clear q2;have q3:=Q3.out w2 w3 T3;clear Q3)
  | (go_at_call 26;refine q3.mono ?_;rintro e w4⟨rfl,T4⟩;clear q3;have q4:=Q4.out w3 w4 T4;clear Q4)
  | (go_at_call 26;refine q4.mono ?_;rintro e w5⟨rfl,T5⟩;clear q4))
 have ap:Below rb w0 w5:=BA (BA (BA (BA ar (by omega) T2.g fun k e=>by cases e;exact zL0) (by rw[T2.bX];omega) T3.g fun k e=>by cases e;exact zL0) (by rw[T3.bX,T2.bX];omega) T4.g fun k e=>by cases e;exact zL0) (by rw[T4.bX,T3.bX,T2.bX];omega) T5.g fun k e=>by cases e;exact zL0
 have VX:w5.heap.size=rb+1:=by rw[T5.bX,T4.bX,T3.bX,T2.bX,J]
 have KU:=T5.m;clear T2 T3 T4 T5 ar J;have q5:=Z0 KU a2.2;rw[E5.out,VX]at q5;have Q6:Hid (∀P,fP P rb b y1.2->Calls prog 27 #[.pointer (some ⟨rb,0,none⟩),.int .i64 (x3.1:Int)] P fun e w'=>e=.returned (.slice (some ⟨P.heap.size,0,none⟩) x3.1 x3.1)/\aj w' P.heap.size (lQ y2.1) 9/\fP w' rb b y2.2/\P.grownBy w' (some rb)):=fun P h=>by rw[<-E6.out];exact Z0 h a3.2
 go_upto_region 4 with (first
  | (go_at_call 27;refine q5.mono ?_;rintro e P⟨rfl,kT,ah,VY⟩;clear q5;have q6:=Q6.out P ah;clear Q6)
  | (go_at_call 27;refine q6.mono ?_;rintro e w7⟨rfl,kN,VZ,AX⟩;clear q6))
 obtain⟨pb,ae⟩:∃b,w7.heap.size=b:=⟨_,rfl⟩;obtain⟨gn,R⟩:∃b,P.heap.size=b:=⟨_,rfl⟩;obtain⟨w8,M⟩:∃V,V=w7.alloc (.cells #[.slice none 0 0,.slice none 0 0,.slice (some ⟨rb+1,0,none⟩) x2.1 x2.1,.slice (some ⟨gn,0,none⟩) x3.1 x3.1,.slice none 0 0,.slice none 0 0] 79):=⟨_,rfl⟩;rw[ae,R,<-M];have L1:y1.1.length=x2.1:=by rw[<-E5.out];exact Pk.II ..
 have L2:y2.1.length=x3.1:=by rw[<-E6.out];exact Pk.II ..
 have S0:iX w0 w8 b rb rb pb y2.2 { vB:=.slice none 0 0,vP:=.slice none 0 0,vT:=.slice (some ⟨rb+1,0,none⟩) x2.1 x2.1,vN:=.slice (some ⟨gn,0,none⟩) x3.1 x3.1,vR:=.slice none 0 0,vD:=.slice none 0 0 } { aB:=[],ak:=[],toks:=y1.1,aN:=y2.1,prods:=[],aH:=[] }:=by
  have k1:w5.heap.size<=P.heap.size:=VY.size;have k2:P.heap.size<=w7.heap.size:=AX.size;have hA:∀k,k<w7.heap.size->w8.heap[k]?=w7.heap[k]?:=fun k hk=>by rw[M];exact dg _ _ _ hk
  have a7:aj w8 (rb+1) (lQ y1.1) 9:=((hA _ (dd kT.lt k2)).trans (AX.block _ kT.lt fun e=>by simp at e)).trans kT;have a5:aj w8 gn (lQ y2.1) 9:=(hA _ (by rw[<-R];exact kN.lt)).trans (by rw[<-R];exact kN);refine⟨VZ.move (hA _ VZ.blk.lt),⟨?_,eQ ..,eQ ..,⟨rb+1,by rw[L1],a7⟩,⟨gn,by rw[L2],a5⟩,eQ ..,eQ ..,fun g e=>(by cases e),fun g e=>e.elim (fun e=>(by cases e;exact pL _)) fun e=>(by cases e;rw[<-R];exact de (by rw[VX];exact pL _) k1)⟩,?_,?_,zL0,by omega⟩
  ·rw[M,<-ae]
   exact aj.new ..
  ·rw[M]
   exact(BA (BA ap (by omega) VY fun k e=>by cases e;exact zL0) (by omega) AX fun k e=>by cases e;exact zL0).alloc (by omega) _
  ·have:w8.heap.size=w7.heap.size+1:=by rw[M];simp
   omega
 have GH:Hid (iX w0 w8 b rb rb pb y2.2 _ _):=S0;clear S0 M KU ah VZ VY AX kT kN ap VX L1 L2 ae R;go_upto_region 5 with fail
 obtain⟨i0,aa,W,J,Q⟩:=ft Tryz.adf
 go_loopw [25] (fun i wr=>∃(j:Nat)(N:Pk.Rd)(l:List (Nat×Nat))(x:gG),i=.int .i64 (j:Int)/\Hid (j<=x4.1/\l.length=j/\iX w0 wr b rb rb pb N x { aB:=[],ak:=[],toks:=y1.1,aN:=y2.1,prods:=l,aH:=[] }/\z=Pk.uO b x2.1 x3.1 (x4.1-j) N l)) (fun i _=>x4.1 - (intOf i).toNat)
 case atStart=>exact⟨0,y2.2,[],_,rfl,ff _,rfl,GH.out,E7.out.symm⟩
 case round=>
  clear GH E7;obtain⟨j,N,l,x,rfl,HI⟩:=hrel;obtain⟨hj,hl,a,F⟩:=HI.out;clear HI
  by_cases hjn:j<x4.1
  ·have j1:(j:Int)<(x4.1:Int):=by omega
   obtain⟨n,hn⟩:∃n,x4.1-j=n+1:=⟨x4.1-j-1,by omega⟩;rw[hn,Pk.uO]at F;obtain⟨E,I⟩:∃u,Pk.below b x3.1 2 N=u:=⟨_,rfl⟩;rw[I]at F;obtain⟨y,H⟩:∃u,Pk.below b 1001 2 E.2=u:=⟨_,rfl⟩;rw[H]at F;have d1:E.1<1000:=by rw[<-I];exact dd (Pk.yL (by omega)) a3.2
   have d2:y.1<1001:=by rw[<-H];exact Pk.yL (by omega)
   obtain⟨A,C,D,-⟩:=aC a.p.rR
   dsimp only at D
   have Gq:l.length<=200:=by omega
   obtain⟨m1,am⟩:∃m,x2.1+E.1=m:=⟨_,rfl⟩;have ew:IntKind.i64.wrap ((x2.1:Int)+(E.1:Int))=(m1:Int):=by rw[iz];omega
   rw[am]at F;clear am;have c4:wr.cell? ⟨pb,4,none⟩=some (.slice A l.length C):=by rw[<-D];exact a.p.blk.cell 4
   have Z:=Fp (w:=wr.drew) (m:=x3.1) (a.r.move rfl) (show 2<=4 by decide);rw[I]at Z;have HA:Hid (∀G,jg wr.drew rb b G E.2->G.cell? ⟨pb,4,none⟩=some (.slice A l.length C)/\iX w0 G b rb rb pb E.2 x { aB:=[],ak:=[],toks:=y1.1,aN:=y2.1,prods:=l,aH:=[] }/\Calls prog 28 #[.pointer (some ⟨rb,0,none⟩),.int .i64 1001,.int .i64 2] G fun e w'=>e=.returned (.int .i64 (y.1:Int))/\jg G rb b w' y.2):=fun G T=>by
    have EA:iX w0 G b rb rb pb E.2 x { aB:=[],ak:=[],toks:=y1.1,aN:=y2.1,prods:=l,aH:=[] }:=(a.below (w':=wr.drew) ⟨rfl,rfl,rfl,zL0,fun _ _=>rfl⟩).read T;exact⟨by rw[<-D];exact EA.p.blk.cell 4,EA,by rw[<-H];exact Fp (m:=1001) T.m (show 2<=4 by decide)⟩
   have HB:Hid (∀G d o,iX w0 G b rb rb pb E.2 x { aB:=[],ak:=[],toks:=y1.1,aN:=y2.1,prods:=l,aH:=[] }->jg G rb b d y.2->d.cell? ⟨pb,4,none⟩=some (.slice A l.length C)/\(∀o,(d.alloc o).cell? ⟨pb,4,none⟩=some (.slice A l.length C))/\iX w0 d b rb rb pb y.2 x { aB:=[],ak:=[],toks:=y1.1,aN:=y2.1,prods:=l,aH:=[] }/\(d.alloc o).ownsRow rb 81 2 (.slice A l.length C) l.length (l.flatMap eX)/\aj (d.alloc o) pb x.cells 79/\rb<=(d.alloc o).heap.size):=fun G d o EA T=>by
    have f:=EA.read T;have c:d.cell? ⟨pb,4,none⟩=some (.slice A l.length C):=by rw[<-D];exact f.p.blk.cell 4
    refine⟨c,fun o=>(cM (w:=d) (dg _ _ _ f.p.kp.lt)).trans c,f,?_,f.p.blk.alloc _,de f.hB (bJ d _ none).size⟩;rw[<-D];exact f.p.rR.alloc _
   have L:(Value.slice A l.length C).ownBlock≠some pb:=fun e=>(a.p.kR (by rw[D];exact e)).ne a.p.kp (by decide) rfl
   have HV:Hid (x.vR=.slice A l.length C):=D;have HL:Hid (l.length=j):=hl;have HW:Hid (z=Pk.uO b x2.1 x3.1 n y.2 (l++[(m1,y.1)])):=F;clear a F I H D hl;go_upto_region 6 with fail
   go_region_law (first
    | (refine jW rfl 28 #[.pointer (some ⟨rb,0,none⟩),.int .i64 (x3.1:Int),.int .i64 2] (by go_simp) Z ?_;rintro e G⟨rfl,TA⟩;refine⟨_,rfl,?_⟩;clear Z;obtain⟨cA,EA,q9⟩:=HA.out G TA;clear HA)
    | (refine jW rfl 28 #[.pointer (some ⟨rb,0,none⟩),.int .i64 1001,.int .i64 2] (by go_simp) q9 ?_;rintro e d⟨rfl,TB⟩;refine⟨_,rfl,?_⟩;clear q9;obtain⟨cB,dB,f,o3,iK,Y⟩:=HB.out G d (.cells #[.int .i64 (m1:Int),.int .i64 (y.1:Int)] 81) EA TB;clear HB)
    | (refine step_append_lies _ rfl (.tmp 31) (.tmp 38) 77 rfl rb 81 i0 _ 2 16 Tryz.adW aa W J Q rfl (by decide) (.slice A l.length C) l.length (l.flatMap eX) (by simp[Act.eval]) o3 ⟨d.heap.size,0,none⟩ 1 1 [.int .i64 (m1:Int),.int .i64 (y.1:Int)] (by simp[Act.eval]) rfl (eO (aj.new d _ 81)) (by simp[Value.oneCell']) (by decide) (by unfold maxLen;omega) (by omega) Y _ rfl ?_;intro O U w9 nL jw mh Gm;have jC:=iK.grown jw (fun e=>L e.symm);have c9:w9.cell? ⟨pb,4,none⟩=some x.vR:=jC.cell 4;have f9:=jC.frozen 4))
   all_goals
    have S:d.grownBy w9 x.vR.ownBlock:=by rw[HV.out];exact aR (bJ d _ _) jw
    have oG:w9.ownsRow rb 81 2 (.slice (some ⟨O,0,none⟩) (l.length+1) U) (l++[(m1,y.1)]).length ((l++[(m1,y.1)]).flatMap eX):=by
     rw[gw,cH];exact nL
    have HN:Hid (iX w0 (w9.setCell ⟨pb,4,none⟩ (.slice (some ⟨O,0,none⟩) (l.length+1) U)) b rb rb pb y.2 { x with vR:=.slice (some ⟨O,0,none⟩) (l.length+1) U } { aB:=[],ak:=[],toks:=y1.1,aN:=y2.1,prods:=l++[(m1,y.1)],aH:=[] }):=f.grow (fun g e=>⟨.inr (.inr (.inr (.inr (.inr (.inl e))))),(f.p.rR.lt g e).1⟩) S (f.p.an9 S oG);clear S oG nL jw mh jC c9 f9 o3 iK cA cB dB EA f;go_wp2_with fail;refine⟨⟨j+1,y.2,l++[(m1,y.1)],_,by go_num,by omega,by rw[cH,HL.out];rfl,HN.out,?_⟩,by simp[intOf];omega⟩;rw[show x4.1 - (j+1)=n by omega];exact HW.out
  ·obtain rfl:j=x4.1:=by omega
   rw[ib,Pk.uO]at F;rw[<-show z.1=l by rw[F]]at a;rw[<-show z.2=N by rw[F]]at a;have KX:Hid (iX w0 wr b rb rb pb z.2 x { aB:=[],ak:=[],toks:=y1.1,aN:=y2.1,prods:=z.1,aH:=[] }):=a;clear a F hl;go_upto_region 8 with fail
   clear aa W J Q i0;obtain⟨i0,aa,W,J,Q⟩:=ft Tryz.info3;go_upto_region 9 with fail
   go_loopw [44] (fun i wr=>∃(j:Nat)(N:Pk.Rd)(l m:List Nat)(x:gG),i=.int .i64 (j:Int)/\Hid (j<=x1.1/\l.length=j/\m.length=j/\iX w0 wr b rb rb pb N x { aB:=m,ak:=[],toks:=y1.1,aN:=y2.1,prods:=z.1,aH:=l }/\s=Pk.qW b x4.1 (x1.1-j) N l m)) (fun i _=>x1.1 - (intOf i).toNat)
   case atStart=>exact⟨0,z.2,[],[],x,rfl,ff _,rfl,rfl,KX.out,E8.out.symm⟩
   case round=>
    clear KX E8;clear x N l;obtain⟨j,N,l,m,x,rfl,HI⟩:=hrel;obtain⟨hj,hl,hm,a,F⟩:=HI.out;clear HI
    by_cases hjn:j<x1.1
    ·have j1:(j:Int)<(x1.1:Int):=by omega
     obtain⟨n,hn⟩:∃n,x1.1-j=n+1:=⟨x1.1-j-1,by omega⟩;rw[hn,Pk.qW]at F;obtain⟨E,I⟩:∃u,Pk.below b x4.1 1 N=u:=⟨_,rfl⟩;rw[I]at F;obtain⟨y,H⟩:∃u,Pk.num b 3 E.2=u:=⟨_,rfl⟩;rw[H]at F;have d2:y.1<16777216:=by rw[<-H];exact Pk.FX b 3 _
     have Gq:l.length<=300:=by omega
     have a8:m.length<=300:=by omega
     obtain⟨A,C,D,-⟩:=aC a.p.rD
     dsimp only at D
     have c4:wr.cell? ⟨pb,5,none⟩=some (.slice A l.length C):=by rw[<-D];exact a.p.blk.cell 5
     have Z:=Fp (w:=wr.drew) (m:=x4.1) (a.r.move rfl) (show 1<=4 by decide);rw[I]at Z;have HB:Hid (∀d o,jg wr.drew rb b d E.2->d.cell? ⟨pb,5,none⟩=some (.slice A l.length C)/\(∀o,(d.alloc o).cell? ⟨pb,5,none⟩=some (.slice A l.length C))/\iX w0 d b rb rb pb E.2 x { aB:=m,ak:=[],toks:=y1.1,aN:=y2.1,prods:=z.1,aH:=l }/\(d.alloc o).ownsRow rb 3 1 (.slice A l.length C) l.length (l.map fG)/\aj (d.alloc o) pb x.cells 79/\rb<=(d.alloc o).heap.size):=fun d o T=>by
      have f:=(a.below (w':=wr.drew) ⟨rfl,rfl,rfl,zL0,fun _ _=>rfl⟩).read T;have c:d.cell? ⟨pb,5,none⟩=some (.slice A l.length C):=by rw[<-D];exact f.p.blk.cell 5
      refine⟨c,fun o=>(cM (w:=d) (dg _ _ _ f.p.kp.lt)).trans c,f,?_,f.p.blk.alloc _,de f.hB (bJ d _ none).size⟩;rw[<-D];exact f.p.rD.alloc _
     have L:(Value.slice A l.length C).ownBlock≠some pb:=fun e=>(a.p.kD (by rw[D];exact e)).ne a.p.kp (by decide) rfl
     have HV:Hid (x.vD=.slice A l.length C):=D;have HL:Hid (l.length=j/\m.length=j):=⟨hl,hm⟩;have HW:Hid (s=Pk.qW b x4.1 n y.2 (l++[E.1]) (m++[y.1])):=F;have HU:Hid (Pk.num b 3 E.2=y):=H;clear a F I H D hl hm;go_upto_region 10 with fail
     go_region_law (first
      | (refine jW rfl 28 #[.pointer (some ⟨rb,0,none⟩),.int .i64 (x4.1:Int),.int .i64 1] (by go_simp) Z ?_;rintro e d⟨rfl,TB⟩;refine⟨_,rfl,?_⟩;clear Z;obtain⟨cB,dB,f,o3,iK,Y⟩:=HB.out d (.cells #[.int .i64 (E.1:Int)] 3) TB;clear HB)
      | (refine step_append_lies _ rfl (.tmp 50) (.tmp 53) 22 rfl rb 3 i0 _ 1 8 Tryz.adg aa W J Q rfl (by decide) (.slice A l.length C) l.length (l.map fG) (by simp[Act.eval]) o3 ⟨d.heap.size,0,none⟩ 1 1 [.int .i64 (E.1:Int)] (by simp[Act.eval]) rfl (eO (aj.new d _ 3)) (by simp[Value.oneCell']) (by decide) (by unfold maxLen;omega) (by omega) Y _ rfl ?_;intro O U w9 nL jw mh Gm;have jC:=iK.grown jw (fun e=>L e.symm);have c9:w9.cell? ⟨pb,5,none⟩=some x.vD:=jC.cell 5;have f9:=jC.frozen 5))
     all_goals
      have S:d.grownBy w9 x.vD.ownBlock:=by rw[HV.out];exact aR (bJ d _ _) jw
      have oG:w9.ownsRow rb 3 1 (.slice (some ⟨O,0,none⟩) (l.length+1) U) (l++[E.1]).length ((l++[E.1]).map fG):=by
       rw[eJ,cH];exact nL
      have Ci:(Value.slice (some ⟨O,0,none⟩) (l.length+1) U).ownBlock=x.vD.ownBlock\/∃g,(Value.slice (some ⟨O,0,none⟩) (l.length+1) U).ownBlock=some g/\d.heap.size<=g:=by
       rw[HV.out];rcases mh with e|e
       ·exact .inl e.symm
       ·exact .inr ⟨O,rfl,by rw[e];exact(bJ d _ none).size⟩
      have vX:iX w0 (w9.setCell ⟨pb,5,none⟩ (.slice (some ⟨O,0,none⟩) (l.length+1) U)) b rb rb pb E.2 { x with vD:=.slice (some ⟨O,0,none⟩) (l.length+1) U } { aB:=m,ak:=[],toks:=y1.1,aN:=y2.1,prods:=z.1,aH:=l++[E.1] }:=f.grow (fun g e=>⟨.inr (.inr (.inr (.inr (.inr (.inr e))))),(f.p.rD.lt g e).1⟩) S (f.p.aoa S oG Ci);clear S oG Ci nL jw mh jC c9 f9 o3 iK cB dB f L HV c4;generalize w9.setCell ⟨pb,5,none⟩ (.slice (some ⟨O,0,none⟩) (l.length+1) U)=wr at vX|-;generalize ({ x with vD:=.slice (some ⟨O,0,none⟩) (l.length+1) U }:gG)=x at vX;obtain⟨A,C,D,-⟩:=aC vX.p.rB
      dsimp only at D
      have c4:wr.cell? ⟨pb,0,none⟩=some (.slice A m.length C):=by rw[<-D];exact vX.p.blk.cell 0
      have Z:=Fz (w:=wr.drew) (vX.r.move rfl) (show 3<=4 by decide);rw[HU.out]at Z;have HB:Hid (∀d o,jg wr.drew rb b d y.2->d.cell? ⟨pb,0,none⟩=some (.slice A m.length C)/\(∀o,(d.alloc o).cell? ⟨pb,0,none⟩=some (.slice A m.length C))/\iX w0 d b rb rb pb y.2 x { aB:=m,ak:=[],toks:=y1.1,aN:=y2.1,prods:=z.1,aH:=l++[E.1] }/\(d.alloc o).ownsRow rb 3 1 (.slice A m.length C) m.length (m.map fG)/\aj (d.alloc o) pb x.cells 79/\rb<=(d.alloc o).heap.size):=fun d o T=>by
       have f:=(vX.below (w':=wr.drew) ⟨rfl,rfl,rfl,zL0,fun _ _=>rfl⟩).read T;have c:d.cell? ⟨pb,0,none⟩=some (.slice A m.length C):=by rw[<-D];exact f.p.blk.cell 0
       refine⟨c,fun o=>(cM (w:=d) (dg _ _ _ f.p.kp.lt)).trans c,f,?_,f.p.blk.alloc _,de f.hB (bJ d _ none).size⟩;rw[<-D];exact f.p.rB.alloc _
      have L:(Value.slice A m.length C).ownBlock≠some pb:=fun e=>(vX.p.kB (by rw[D];exact e)).ne vX.p.kp (by decide) rfl
      have HV:Hid (x.vB=.slice A m.length C):=D;clear vX D;go_upto_region 11 with fail
      have ew:IntKind.i64.wrap (y.1:Int)=(y.1:Int):=by rw[iz];omega
      go_region_law (first
       | (refine jW rfl 29 #[.pointer (some ⟨rb,0,none⟩),.int .i64 3] (by go_simp) Z ?_;rintro e wC⟨rfl,TB⟩;refine⟨_,rfl,?_⟩;clear Z;obtain⟨cB,dB,f,o3,iK,Y⟩:=HB.out wC (.cells #[.int .i64 (y.1:Int)] 3) TB;clear HB)
       | (refine step_append_lies _ rfl (.tmp 62) (.tmp 65) 22 rfl rb 3 i0 _ 1 8 Tryz.adg aa W J Q rfl (by decide) (.slice A m.length C) m.length (m.map fG) (by simp[Act.eval]) o3 ⟨wC.heap.size,0,none⟩ 1 1 [.int .i64 (y.1:Int)] (by simp[Act.eval]) rfl (eO (aj.new wC _ 3)) (by simp[Value.oneCell']) (by decide) (by unfold maxLen;omega) (by omega) Y _ rfl ?_;intro gA J2 G ai Tw av aA;have V3:=iK.grown Tw (fun e=>L e.symm);have cA:G.cell? ⟨pb,0,none⟩=some x.vB:=V3.cell 0;have fA:=V3.frozen 0))
      all_goals
       have S:wC.grownBy G x.vB.ownBlock:=by rw[HV.out];exact aR (bJ wC _ _) Tw
       have oG:G.ownsRow rb 3 1 (.slice (some ⟨gA,0,none⟩) (m.length+1) J2) (m++[y.1]).length ((m++[y.1]).map fG):=by
        rw[eJ,cH];exact ai
       have Ci:(Value.slice (some ⟨gA,0,none⟩) (m.length+1) J2).ownBlock=x.vB.ownBlock\/∃g,(Value.slice (some ⟨gA,0,none⟩) (m.length+1) J2).ownBlock=some g/\wC.heap.size<=g:=by
        rw[HV.out];rcases av with e|e
        ·exact .inl e.symm
        ·exact .inr ⟨gA,rfl,by rw[e];exact(bJ wC _ none).size⟩
       have HN:Hid (iX w0 (G.setCell ⟨pb,0,none⟩ (.slice (some ⟨gA,0,none⟩) (m.length+1) J2)) b rb rb pb y.2 { x with vB:=.slice (some ⟨gA,0,none⟩) (m.length+1) J2 } { aB:=m++[y.1],ak:=[],toks:=y1.1,aN:=y2.1,prods:=z.1,aH:=l++[E.1] }):=f.grow (fun g e=>⟨.inr (.inl e),(f.p.rB.lt g e).1⟩) S (f.p.aob S oG Ci);clear S oG Ci ai Tw av V3 cA fA o3 iK cB dB f L HV c4;go_wp2_with fail;refine⟨⟨j+1,y.2,l++[E.1],m++[y.1],_,by go_num,by omega,by rw[cH,HL.out.1];rfl,by rw[cH,HL.out.2];rfl,HN.out,?_⟩,by simp[intOf];omega⟩;rw[show x1.1 - (j+1)=n by omega];exact HW.out
    ·obtain rfl:j=x1.1:=by omega
     rw[ib,Pk.qW]at F;rw[<-show s.1=l by rw[F],<-show s.2.1=m by rw[F],<-show s.2.2=N by rw[F]]at a;rw[<-E9.out]at a;have az:p0.ak=[]:=by rw[E9.out]
     have V4:=ahN a.r a.p az a.hB a0;rw[aw.out]at V4;have KX:Hid (iX w0 wr b rb rb pb s.2.2 x p0):=a;clear a F hl hm;go_upto_region 14 with (go_at_call 30;refine V4.mono ?_;rintro e wP⟨rfl,v2,ad,ag,K⟩)
     have a:=KX.out;have ac:iX w0 wP b rb rb pb q.2 v2 { p0 with ak:=q.1 }:=⟨ad,ag,⟨K.fr.1.trans a.b.1,K.fr.2.1.trans a.b.2,K.fr.2.2.trans a.b.3,de a.b.4 K.bX,fun k hk=>(K.bK k (dd hk a.hB) (by omega) fun e=>by have:=a.p.base a.pb e;omega).trans (a.b.block k hk)⟩,de a.hB K.bX,a.rb,a.pb⟩;have hk:=ad.le;have zB:=alQ (hS.move (ac.b.block 0 (by omega))) (b.extract 0 q.2.k) (by simp;omega);rw[alR b hk]at zB;have yu:=Fz ac.r (show 4<=4 by decide);rw[a6.out]at yu;obtain⟨t,ht⟩:∃t,t=b.extract q.2.k b.size:=⟨_,rfl⟩;have c0:wP.cell? ⟨rb,0,none⟩=some (.string t):=by rw[ht];exact ad.blk.cell 0
     have ax:(b.size:Int) - (t.size:Int)=(q.2.k:Int):=by
      have:t.size=b.size-q.2.k:=by rw[ht];simp
      omega
     have n0:(0:Int)<=(q.2.k:Int):=by omega
     have n1:(q.2.k:Int)<=(b.size:Int):=by omega
     have aq:Hid (∀wG,jg wP rb b wG g.2->iX w0 wG b rb rb pb g.2 v2 { p0 with ak:=q.1 }):=fun wG T=>ac.read T
     clear a KX ad ag K ac V4 hS ht;go_upto_region 15 with (go_at_call 31;refine zB.mono ?_;rintro e wS⟨rfl,rfl⟩)
     go_upto_region 16 with (go_at_call 29;refine yu.mono ?_;rintro e wG⟨rfl,TG⟩)
     have KY:=aq.out wG TG;clear aq TG c0 zB yu ax n0 n1;have c1:wG.cell? ⟨rb,1,none⟩=some (.bool g.2.bad):=KY.r.blk.cell 1;obtain⟨t2,af⟩:∃t,t=b.extract g.2.k b.size:=⟨_,rfl⟩;have c0:wG.cell? ⟨rb,0,none⟩=some (.string t2):=by rw[af];exact KY.r.blk.cell 0
     have hsz:t2.size=b.size-g.2.k:=by rw[af];simp
     have aE:=KY.r.le;have AY:Hid (∀nq,iX w0 (wG.drewN nq) b rb rb pb g.2 v2 { p0 with ak:=q.1 }):=fun nq=>KY.below ⟨rfl,rfl,rfl,zL0,fun _ _=>rfl⟩
     clear KY af;cases hbad:g.2.bad with
     |true=>
      rw[hbad]at c1;obtain rfl:o=false:=by rw[<-HO.out,hbad];rfl
      go_quiet (fail)
      go_wp2_with fail
      go_ret2
      exact⟨rb,pb,v2,rfl,AY.out _⟩
     |false=>
      rw[hbad]at c1
      by_cases hgs:g.1=Pk.sum b q.2.k
      ·have b1:((g.1:Int) == (Pk.sum b q.2.k:Int))=true:=by rw[hgs];exact beq_self_eq_true _
       by_cases hsk:g.2.k=b.size
       ·obtain rfl:t2=ByteArray.empty:=by
         apply yd;apply Array.eq_empty_of_size_eq_zero;show t2.size=0;omega
        obtain rfl:o=true:=by rw[<-HO.out,hbad,fi hgs,fi hsk];rfl
        clear hgs hsk hsz
        go_quiet (fail)
        go_wp2_with fail
        go_ret2
        exact⟨rb,pb,v2,rfl,AY.out _⟩
       ·have b2:t2.toList.isEmpty=false:=agS (by omega)
        obtain rfl:o=false:=by rw[<-HO.out,hbad,fi hgs,eE hsk];rfl
        clear hgs hsk hsz
        go_quiet (fail)
        go_wp2_with fail
        go_ret2
        exact⟨rb,pb,v2,rfl,AY.out _⟩
      ·have b1:((g.1:Int) == (Pk.sum b q.2.k:Int))=false:=fY.2 fun e=>hgs (by omega)
       obtain rfl:o=false:=by rw[<-HO.out,hbad,eE hgs];rfl
       clear hgs
       go_quiet (fail)
       go_wp2_with fail
       go_ret2
       exact⟨rb,pb,v2,rfl,AY.out _⟩
theorem akg(w0:World)(d:pE w0)(c:0<w0.heap.size)(b:ByteArray)(a:b.size<=281474976710656):Calls prog 13 #[.string b] w0 fun e w'=>∃rb pb v,e=.returned (.tuple #[.pointer (some ⟨pb,0,none⟩),.bool (Pk.ok b)])/\iX w0 w' b w0.heap.size rb pb (Pk.got b).2 v (Pk.pack b) :=
 ai4 w0 d c b a (x1:=Pk.h1 b) (x2:=Pk.h2 b) (x3:=Pk.h3 b) (x4:=Pk.h4 b) (y1:=Pk.w1 b) (y2:=Pk.w2 b) (z:=Pk.pr b) (s:=Pk.st b) (p0:=Pk.p0 b) (q:=Pk.pl b) (g:=Pk.got b) (by unfold Pk.h1;rfl) (by unfold Pk.h2;rfl) (by unfold Pk.h3;rfl) (by unfold Pk.h4;rfl) (by unfold Pk.w1;rfl) (by unfold Pk.w2;rfl) (by unfold Pk.pr;rfl) (by unfold Pk.st;rfl) (by unfold Pk.p0;rfl) (by unfold Pk.pl;rfl) (by unfold Pk.got;rfl) (Pk.adX b)
end
theorem Jh:∀(l:List (Nat×Nat×Nat))(i:Nat)(x:Nat×Nat×Nat),l[i]?=some x->(l.flatMap bY)[i*3]?=some (.int .i64 (x.1:Int))/\(l.flatMap bY)[i*3+1]?=some (.int .i64 (x.2.1:Int))/\(l.flatMap bY)[i*3+2]?=some (.int .i64 (x.2.2:Int))
 | [],i,x,h=>by simp at h
 |p::l,0,x,h=>by
  simp only[List.getElem?_cons_zero,Option.some.injEq]at h;subst h;exact⟨rfl,rfl,rfl⟩
 |p::l,i+1,x,h=>by
  have:=Jh l i x (by simpa using h);rw[eh,show bY p=[.int .i64 (p.1:Int),.int .i64 (p.2.1:Int),.int .i64 (p.2.2:Int)] from rfl,show (i+1)*3=i*3+3 by omega];exact this
theorem Ji:∀(l:List (Nat×Nat))(i:Nat)(x:Nat×Nat),l[i]?=some x->(l.flatMap eX)[i*2]?=some (.int .i64 (x.1:Int))/\(l.flatMap eX)[i*2+1]?=some (.int .i64 (x.2:Int))
 | [],i,x,h=>by simp at h
 |p::l,0,x,h=>by
  simp only[List.getElem?_cons_zero,Option.some.injEq]at h;subst h;exact⟨rfl,rfl⟩
 |p::l,i+1,x,h=>by
  have:=Ji l i x (by simpa using h);rw[eh,show eX p=[.int .i64 (p.1:Int),.int .i64 (p.2:Int)] from rfl,show (i+1)*2=i*2+2 by omega];exact this
theorem pQ{W:World}{B e z:Nat}{v:Value}{n:Nat}{b:List Value}(h:W.ownsRow B e z v n b){j:Nat}{u:Value}(f:b[j]?=some u):∃g cap,v=.slice (some ⟨g,0,none⟩) n cap/\∀(i:Nat)u,b[i]?=some u->W.cell? ⟨g,i,none⟩=some u:=by
 have l:=(cG.1 f).1;rcases h.2 with ⟨rfl,c⟩|⟨g,cap,k,rfl,-⟩
 ·have:=h.1
  subst c;omega
 ·have a:∀p,(⟨g,0,none⟩:Addr).add p=⟨g,p,none⟩:=fun p=>by unfold Addr.add;split <;> simp_all
  exact⟨g,cap,rfl,fun i u d=>by rw[<-a];exact mz h (g:=g) rfl _ _ d⟩
theorem within_iff{i:Int}{n:Nat}:Pk.within i n=true↔0<=i/\i<(n:Int):=by
 unfold Pk.within;rw[jp,kh,kh]
namespace Pk
def BK(p:T)(i:Nat):Nat×Nat×Nat:=p.ak.getD i (0,0,0)
def cell(p:T)(q s:Nat):Nat×Nat:=if (BK p (p.aB.getD q 0+s)).2.2=q then ((BK p (p.aB.getD q 0+s)).1,(BK p (p.aB.getD q 0+s)).2.1) else (0,0)
def jR(p:T)(i:Int):Nat×Nat:=if within i p.prods.length=true then p.prods.getD i.toNat (0,0) else (0,0)
def act(p:T)(q n:Int):Nat×Nat:=if (within q p.aH.length && within n p.toks.length)=true then (if (cell p q.toNat n.toNat).1=0/\p.aH.getD q.toNat 0≠0 then (2,p.aH.getD q.toNat 0) else cell p q.toNat n.toNat) else (0,0)
def goto(p:T)(q n:Int):Nat:=if (within q p.aH.length && within n p.aN.length)=true then (cell p q.toNat (p.toks.length+n.toNat)).2 else 0
end Pk
section
variable{w:World}{B pb:Nat}{v:gG}{p:Pk.T}
def isStr(P:Program)(t:Nat):Bool:=match P.underlying t with
 | some (.struct _)=>true
 |_=>false
theorem pR{P:Program}{fn:Func}{p:Tmp}{ty:TypeId}{R:Ending->World->Prop}(h:fn.results=#[.cell p ty]){tmps:Array Value}{W:World}{g t:Nat}{cs:Array Value}(d:tmps.getD p undef=.pointer (some ⟨g,0,none⟩))(f:aj W g cs t)(a:isStr P ty=true)(c:(P.info? ty).map (·.size)=some cs.size)(i:R (.returned (.agg cs)) W):bodyPost P fn R .ret { tmps,defers:=[] } W:=by
 obtain⟨b,a⟩:∃b,P.underlying ty=some (.struct b):=by
  unfold isStr at a
  split at a
  ·exact⟨_,by assumption⟩
  ·cases a
 exact fy (results_cell_row h tmps W g t cs (0,0) _ d f a rfl c) rfl i
theorem YM{vP:Value}{ak:List (Nat×Nat×Nat)}(h:w.ownsRow B 138 3 vP ak.length (ak.flatMap bY))(i:Nat):Calls prog 59 #[vP,.int .i64 (i:Int)] w fun e w'=>e=.returned (.agg #[.int .i64 ((ak.getD i (0,0,0)).1:Int),.int .i64 ((ak.getD i (0,0,0)).2.1:Int),.int .i64 ((ak.getD i (0,0,0)).2.2:Int)])/\Below w.heap.size w w':=by
 obtain⟨a,c,y,-⟩:=aC h;have q:=fun w=>Aa (w:=w) (i:Int) ak.length
 have f:∀o,Below w.heap.size w (w.alloc o):=fun o=>(cV _ _).alloc (zL0) o
 cases hi:ak[i]? with
 |none=>
  have m:Pk.within (i:Int) ak.length=false:=by
   have:=List.getElem?_eq_none_iff.1 hi;rw[<-oY,within_iff];omega
  have l:ak.getD i (0,0,0)=(0,0,0):=by simp[hi]
  rw[y,l];simp only[m]at q;go_enter func59,ntmps59
  go_wp2_with (go_at_call 32;refine(q _).mono ?_;rintro e w1⟨rfl,rfl⟩)
  exact pR rfl rfl ((aj.new ..).alloc _) (by kernel_rfl) (by kernel_rfl) ⟨rfl,(f _).alloc (by simp) _⟩
 |some x=>
  obtain⟨n,t,s⟩:=Jh _ _ _ hi;obtain⟨g,A,b,k⟩:=pQ h n;have z:=(cG.1 hi).1;have m:Pk.within (i:Int) ak.length=true:=by
   rw[within_iff];omega
  have l:ak.getD i (0,0,0)=x:=by simp[hi]
  rw[b,l];simp only[m]at q;have r:g<w.heap.size:=(h.lt g (by rw[b];rfl)).2;have d:∀o(j:Nat)u,w.cell? ⟨g,j,none⟩=some u->(w.alloc o).cell? ⟨g,j,none⟩=some u:=fun o j u e=>(cM (w:=w) (dg _ _ _ r)).trans e
  have F:=fun o=>d o _ _ (k _ _ n)
  have D:=fun o=>d o _ _ (k _ _ t)
  have C:=fun o=>d o _ _ (k _ _ s)
  have E:(0:Int)<=(i:Int):=by omega
  have G:(i:Int)<(ak.length:Int):=by omega
  clear d k n t s y b hi m l;go_enter func59,ntmps59
  go_wp2_with (go_at_call 32;refine(q _).mono ?_;rintro e w1⟨rfl,rfl⟩)
  exact pR rfl rfl (aj.new ..) (by kernel_rfl) (by kernel_rfl) ⟨rfl,f _⟩
theorem ahO(h:aT w B pb v p)(i:Nat):Calls prog 59 #[v.vP,.int .i64 (i:Int)] w fun e w'=>e=.returned (.agg #[.int .i64 ((Pk.BK p i).1:Int),.int .i64 ((Pk.BK p i).2.1:Int),.int .i64 ((Pk.BK p i).2.2:Int)])/\Below w.heap.size w w':=YM h.rP i
theorem ai5(h:aT w B pb v p)(i:Int):Calls prog 34 #[v.vR,.int .i64 i] w fun e w'=>e=.returned (.agg #[.int .i64 ((Pk.jR p i).1:Int),.int .i64 ((Pk.jR p i).2:Int)])/\Below w.heap.size w w':=by
 obtain⟨a,c,y,-⟩:=aC h.rR;have q:=fun w=>Aa (w:=w) i p.prods.length
 have f:∀o,Below w.heap.size w (w.alloc o):=fun o=>(cV _ _).alloc (zL0) o
 by_cases hw:Pk.within i p.prods.length=true
 ·obtain⟨C,E⟩:=within_iff.1 hw
  obtain⟨n,rfl⟩:∃n:Nat,i=(n:Int):=⟨i.toNat,by omega⟩;obtain⟨x,s⟩:∃x,p.prods[n]?=some x:=⟨_,cF (by omega)⟩;have k:Pk.jR p (n:Int)=x:=by unfold Pk.jR;rw[dj hw];simp[s]
  obtain⟨m,t⟩:=Ji _ _ _ s;obtain⟨g,z,b,l⟩:=pQ h.rR m;rw[b,k];simp only[hw]at q;have r:g<w.heap.size:=(h.rR.lt g (by rw[b];rfl)).2;have d:∀o(j:Nat)u,w.cell? ⟨g,j,none⟩=some u->(w.alloc o).cell? ⟨g,j,none⟩=some u:=fun o j u e=>(cM (w:=w) (dg _ _ _ r)).trans e
  have D:=fun o=>d o _ _ (l _ _ m)
  have A:=fun o=>d o _ _ (l _ _ t)
  clear d l m t y b s hw k;go_enter func34,ntmps34
  go_wp2_with (go_at_call 32;refine(q _).mono ?_;rintro e w1⟨rfl,rfl⟩)
  exact pR rfl rfl (aj.new ..) (by kernel_rfl) (by kernel_rfl) ⟨rfl,f _⟩
 ·have k:Pk.jR p i=(0,0):=by unfold Pk.jR;rw[dt hw]
  rw[y,k];simp only[Bool.eq_false_iff.2 hw]at q;go_enter func34,ntmps34
  go_wp2_with (go_at_call 32;refine(q _).mono ?_;rintro e w1⟨rfl,rfl⟩)
  exact pR rfl rfl ((aj.new ..).alloc _) (by kernel_rfl) (by kernel_rfl) ⟨rfl,(f _).alloc (by simp) _⟩
end
theorem Jj{w:World}{g j:Nat}{u:Value}(h:w.cell? ⟨g,j,none⟩=some u):g<w.heap.size:=by
 apply kj;intro a;have e:w.heap[g]?=none:=rt (by omega);simp[World.cell?,e]at h
theorem aM{w w':World}(a:Below w.heap.size w w'){g j:Nat}{u:Value}(h:w.cell? ⟨g,j,none⟩=some u):w'.cell? ⟨g,j,none⟩=some u:=(a.cell (p:=⟨g,j,none⟩) (Jj h)).trans h
def tX{α:Type}(z:Nat)(Q:Nat->Nat->α->Prop)(v:Value)(l:List α):Prop:=∃a c,v=.slice a l.length c/\∀(i:Nat)(x:α),l[i]?=some x->∃g,a=some ⟨g,0,none⟩/\Q g (i*z) x
theorem tX.mono{α:Type}{z:Nat}{Q R:Nat->Nat->α->Prop}{v:Value}{l:List α}(h:tX z Q v l)(b:∀g o x,Q g o x->R g o x):tX z R v l:=by
 obtain⟨a,c,h1,h2⟩:=h;exact⟨a,c,h1,fun i x f=>by obtain⟨g,e,d⟩:=h2 i x f;exact⟨g,e,b g _ x d⟩⟩
def iQ(w:World)(g o:Nat)(x:Nat):Prop:=w.cell? ⟨g,o,none⟩=some (.int .i64 (x:Int))
def CR(w:World)(g o:Nat)(x:Nat×Nat):Prop:=w.cell? ⟨g,o,none⟩=some (.int .i64 (x.1:Int))/\w.cell? ⟨g,o+1,none⟩=some (.int .i64 (x.2:Int))
def EB(w:World)(g o:Nat)(x:Nat×Nat×Nat):Prop:=w.cell? ⟨g,o,none⟩=some (.int .i64 (x.1:Int))/\w.cell? ⟨g,o+1,none⟩=some (.int .i64 (x.2.1:Int))/\w.cell? ⟨g,o+2,none⟩=some (.int .i64 (x.2.2:Int))
def sQ(w:World)(g o:Nat)(x:ByteArray):Prop:=w.cell? ⟨g,o,none⟩=some (.string x)
def rQ{α:Type}(w:World)(z:Nat)(Q:Nat->Nat->α->Prop)(g o:Nat)(l:List α):Prop:=∃v,w.cell? ⟨g,o,none⟩=some v/\tX z Q v l
section
variable{w w':World}(hb:Below w.heap.size w w')
include hb
theorem iQ.keep{g o:Nat}{x:Nat}(h:iQ w g o x):iQ w' g o x:=aM hb h
theorem sQ.keep{g o:Nat}{x:ByteArray}(h:sQ w g o x):sQ w' g o x:=aM hb h
theorem CR.keep{g o:Nat}{x:Nat×Nat}(h:CR w g o x):CR w' g o x:=⟨aM hb h.1,aM hb h.2⟩
theorem EB.keep{g o:Nat}{x:Nat×Nat×Nat}(h:EB w g o x):EB w' g o x:=⟨aM hb h.1,aM hb h.2.1,aM hb h.2.2⟩
theorem rQ.keep{α:Type}{z:Nat}{Q R:Nat->Nat->α->Prop}{g o:Nat}{l:List α}(a:∀g o x,Q g o x->R g o x)(h:rQ w z Q g o l):rQ w' z R g o l:=by
 obtain⟨v,h1,h2⟩:=h;exact⟨v,aM hb h1,h2.mono a⟩
end
abbrev bQ(w:World):=tX 1 (iQ w)
abbrev vY(w:World):=tX 2 (CR w)
abbrev lZ(w:World):=tX 3 (EB w)
theorem bQ.keep{w w':World}{v:Value}{l:List Nat}(h:bQ w v l)(a:Below w.heap.size w w'):bQ w' v l:=h.mono fun _ _ _=>iQ.keep a
theorem vY.keep{w w':World}{v:Value}{l:List (Nat×Nat)}(h:vY w v l)(a:Below w.heap.size w w'):vY w' v l:=h.mono fun _ _ _=>CR.keep a
theorem lZ.keep{w w':World}{v:Value}{l:List (Nat×Nat×Nat)}(h:lZ w v l)(a:Below w.heap.size w w'):lZ w' v l:=h.mono fun _ _ _=>EB.keep a
abbrev zh(w:World):=tX 1 (sQ w)
theorem zh.keep{w w':World}{v:Value}{l:List ByteArray}(h:zh w v l)(a:Below w.heap.size w w'):zh w' v l:=h.mono fun _ _ _=>sQ.keep a
theorem zh.own{w:World}{B:Nat}{v:Value}{l:List ByteArray}(h:w.ownsRow B 9 1 v l.length (l.map Value.string)):zh w v l:=by
 obtain⟨a,c,rfl,-⟩:=aC h;refine⟨a,c,rfl,fun i x b=>?_⟩;obtain⟨g,d,h1,h2⟩:=pQ h (j:=i) (u:=.string x) (by rw[di,b];rfl);cases h1;exact⟨g,rfl,by rw[j9];exact h2 i _ (by rw[di,b];rfl)⟩
theorem bQ.own{w:World}{B:Nat}{v:Value}{l:List Nat}(h:w.ownsRow B 3 1 v l.length (l.map fG)):bQ w v l:=by
 obtain⟨a,c,rfl,-⟩:=aC h;refine⟨a,c,rfl,fun i x b=>?_⟩;obtain⟨g,d,h1,h2⟩:=pQ h (j:=i) (u:=fG x) (by rw[di,b];rfl);cases h1;exact⟨g,rfl,by rw[j9];exact h2 i _ (by rw[di,b];rfl)⟩
theorem vY.own{w:World}{B e:Nat}{v:Value}{l:List (Nat×Nat)}(h:w.ownsRow B e 2 v l.length (l.flatMap eX)):vY w v l:=by
 obtain⟨a,c,rfl,-⟩:=aC h;refine⟨a,c,rfl,fun i x f=>?_⟩;obtain⟨b,d⟩:=Ji _ _ _ f;obtain⟨g,j,h1,h2⟩:=pQ h b;cases h1;exact⟨g,rfl,h2 _ _ b,h2 _ _ d⟩
theorem lZ.own{w:World}{B e:Nat}{v:Value}{l:List (Nat×Nat×Nat)}(h:w.ownsRow B e 3 v l.length (l.flatMap bY)):lZ w v l:=by
 obtain⟨a,c,rfl,-⟩:=aC h;refine⟨a,c,rfl,fun i x j=>?_⟩;obtain⟨b,f,d⟩:=Jh _ _ _ j;obtain⟨g,k,h1,h2⟩:=pQ h b;cases h1;exact⟨g,rfl,h2 _ _ b,h2 _ _ f,h2 _ _ d⟩
namespace Pk
def be:Nat->Nat->List Nat
 |0,_=>[]
 |n+1,x=>x / 256 ^ n % 256::be n x
theorem nI(x:Nat):∀n,(be n x).length=n
 |0=>rfl
 |n+1=>by rw[be,ev,nI x n]
end Pk
def uq(n:Nat):Value:=.int .u8 (n:Int)
theorem Tryz.info5:(prog.info? 5).map (fun i=>(i.zero,i.size,i.bytes))=some (some (.int .u8 0),1,1):=by kernel_rfl
theorem Tryz.adh:prog.underlying 112=some (.slice 5):=by kernel_rfl
structure bI(W0:World)(B wb:Nat)(vB:Value)(W:World)(l:List Nat):Prop where
 blk:aj W wb #[vB] 114
 r:W.ownsRow B 5 1 vB l.length (l.map uq)
 b:Below B W0 W
 lb:B<=wb
section
variable{W0 W W':World}{B wb:Nat}{vB x:Value}{l:List Nat}
theorem bI.kw(h:bI W0 B wb vB W l):Kd W wb 114:=⟨_,h.blk⟩
theorem bI.kB(h:bI W0 B wb vB W l){g:Nat}(a:vB.ownBlock=some g):Kd W g 5:=gQ h.r a
theorem bI.size(h:bI W0 B wb vB W l):B<=W.heap.size:=de h.lb (mi h.blk.lt)
theorem bI.set(h:bI W0 B wb vB W l){m:List Nat}(a:W.grownBy W' vB.ownBlock)(d:W'.ownsRow B 5 1 x m.length (m.map uq)):bI W0 B wb x (W'.setCell ⟨wb,0,none⟩ x) m where
 blk:=by
  have:aj W' wb _ 114:=(a.block wb h.kw.lt fun e=>h.kw.ne (h.kB e.symm) (by decide) rfl).trans h.blk;exact this.set 0 x
 r:=aD d fun g e=>fV _ _ ((show Kd W' g 5 from gQ d e).ne (show Kd W' wb 114 from ⟨_,(a.block wb h.kw.lt fun e=>h.kw.ne (h.kB e.symm) (by decide) rfl).trans h.blk⟩) (by decide))
 b:=⟨a.1.trans h.b.1,a.2.trans h.b.2,a.3.trans h.b.3,by simpa using de h.b.4 a.size,fun k c=>(fV _ _ (by have:=h.lb;omega)).trans ((a.block k (dd c h.size) fun e=>by have:=(h.r.lt k e.symm).1;omega).trans (h.b.block k c))⟩
 lb:=h.lb
def ji(W W':World):Prop:=∀k t,Kd W k t->t≠114->t≠5->W'.heap[k]?=W.heap[k]?
theorem ji.refl(W:World):ji W W:=fun _ _ _ _ _=>rfl
theorem ji.trans{W W1 W2:World}(h:ji W W1)(k:ji W1 W2):ji W W2:=fun b t c h1 h2=>by
 have e:=h b t c h1 h2;obtain⟨a,d⟩:=c;exact(k b t ⟨a,e.trans d⟩ h1 h2).trans e
theorem ji.blk{W W':World}(h:ji W W'){b t:Nat}{cs:Array Value}(k:aj W b cs t)(h1:t≠114)(h2:t≠5):aj W' b cs t:=(h b t ⟨_,k⟩ h1 h2).trans k
theorem bI.bK(h:bI W0 B wb vB W l)(b:W.grownBy W' vB.ownBlock)(x:Value):ji W (W'.setCell ⟨wb,0,none⟩ x):=fun k _ a h1 h2=>
 (fV _ _ (a.ne h.kw h1)).trans (b.block k a.lt fun e=>a.ne (h.kB e.symm) h2 rfl)
theorem wO(h:bI W0 B wb vB W l){n k:Nat}(hn:n<=4)(hl:l.length<=1000000000):Calls prog 45 #[.pointer (some ⟨wb,0,none⟩),.int .i64 (n:Int),.int .i64 (k:Int)] W fun e W'=>e=.returned (.tuple #[])/\∃gY,bI W0 B wb gY W' (l++Pk.be n k)/\ji W W':=by
 obtain⟨T,C,H,I,z⟩:=ft Tryz.info5;have L:Hid (∃a p,bI W0 B wb p W a/\a++Pk.be n k=l++Pk.be n k/\a.length<=1000000000+(4-n)/\ji W W):=⟨l,vB,h,rfl,by omega,ji.refl _⟩;clear h hl;go_enter func45,ntmps45;go_wp2_with fail
 go_loopw [6] (fun i wr=>∃j:Nat,j<=n/\i=.int .i64 ((j:Int) - 1)/\Hid (∃a p,bI W0 B wb p wr a/\a++Pk.be j k=l++Pk.be n k/\a.length<=1000000000+(4-j)/\ji W wr)) (fun i _=>(intOf i+1).toNat)
 case atStart=>exact⟨n,zL0,rfl,L⟩
 case round=>
  clear L;obtain⟨j,hj,rfl,P⟩:=hrel;obtain⟨a,p,h1,c,aa,g⟩:=P.out;clear P
  by_cases hj0:j=0
  ·subst hj0
   rw[Pk.be,eV]at c;have U:Hid (bI W0 B wb p wr (l++Pk.be n k)/\ji W wr):=⟨by rw[<-c];exact h1,g⟩;clear h1 c g;go_wp2_with fail
   go_end0
   exact⟨rfl,p,U.out⟩
  ·obtain⟨m,rfl⟩:∃m,j=m+1:=⟨j-1,by omega⟩
   have e0:((m+1:Nat):Int) - 1=(m:Int):=by omega
   rw[e0];have m0:(0:Int)<=(m:Int):=by omega
   have bm:decide ((0:Int)<=(m:Int))=true:=fi m0;obtain⟨f,d,rfl,-⟩:=aC h1.r;have V:wr.cell? ⟨wb,0,none⟩=some (.slice f a.length d):=h1.blk.cell 0;obtain⟨q,v⟩:∃q,k / 256 ^ m=q:=⟨_,rfl⟩;obtain⟨y,F⟩:∃y,k / 256 ^ m % 256=y:=⟨_,rfl⟩;have ab:∀w:World,(Op.shift BinOp.shr IntKind.i64 (k:Int) IntKind.i64 (IntKind.i64.wrap (8*(m:Int)))).run prog w=.ok (.int .i64 (q:Int)) w:=fun w=>by
    have ew:IntKind.i64.wrap (8*(m:Int))=((8*m:Nat):Int):=by rw[iz];omega
    have e3:(2:Int) ^ (8*m)=((256 ^ m:Nat):Int):=by
     have m4:m<4:=by omega
     have:m=0\/m=1\/m=2\/m=3:=by omega
     rcases this with rfl|rfl|rfl|rfl <;> rfl
    have Y:(k:Int) / 2 ^ min ((8*m:Nat):Int).toNat IntKind.i64.bits=(q:Int):=by
     rw[im,Nat.min_eq_left (show 8*m<=IntKind.i64.bits by show 8*m<=64;omega),e3,<-v,Int.natCast_ediv]
    rw[ew,shift_shr_any _ _ _ _ (by omega),Y];rfl
   have eu:IntKind.u8.wrap (q:Int)=(y:Int):=by rw[IntKind.wrap_u8',<-F,v];omega
   have lp:=h1.blk.lt;have dA:∀o,(wr.alloc o).cell? ⟨wb,0,none⟩=some (.slice f a.length d):=fun o=>(cM (w:=wr) (dg _ _ _ lp)).trans V
   have Q:(wr.alloc (.cells #[.int .u8 (y:Int)] 5)).drew.ownsRow B 5 1 (.slice f a.length d) a.length (a.map uq):=aD (h1.r.alloc (.cells #[.int .u8 (y:Int)] 5)) fun _ _=>rfl
   have R:aj (wr.alloc (.cells #[.int .u8 (y:Int)] 5)).drew wb #[.slice f a.length d] 114:=(h1.blk.alloc _).drew;have K:(Value.slice f a.length d).ownBlock≠some wb:=fun e=>(h1.kB e).ne h1.kw (by decide) rfl
   have u:B<=(wr.alloc (.cells #[.int .u8 (y:Int)] 5)).drew.heap.size:=de h1.size (bJ wr _ none).size;have t:Hid (bI W0 B wb (.slice f a.length d) wr a/\ji W wr):=⟨h1,g⟩;have S:Hid (a++Pk.be (m+1) k=l++Pk.be n k):=c;have HY:Hid (k / 256 ^ m % 256=y):=F;clear h1 c F v g;go_upto_region 3 with fail
   go_region_law (refine step_append_lies _ rfl (.tmp 17) (.tmp 23) 112 rfl B 5 T _ 1 1 Tryz.adh C H I z rfl (by decide) (.slice f a.length d) a.length (a.map uq) (by simp[Act.eval]) Q ⟨wr.heap.size,0,none⟩ 1 1 [.int .u8 (y:Int)] (by simp[Act.eval]) rfl (eO (aj.new wr _ 5).drew) (by simp[Value.oneCell']) (by decide) (by unfold maxLen;omega) (by omega) u _ rfl ?_;intro D G s M J X Gm;have A:=R.grown J (fun e=>K e.symm);have c9:s.cell? ⟨wb,0,none⟩=some (.slice f a.length d):=A.cell 0;have Z:=A.frozen 0)
   all_goals
    have E:wr.grownBy s (Value.slice f a.length d).ownBlock:=aR (b:=(wr.alloc (.cells #[.int .u8 (y:Int)] 5)).drew) ⟨rfl,rfl,rfl,(bJ wr _ none).size,fun i hi _=>dg _ _ _ hi⟩ J;have N:=t.out.1.set (m:=a++[y]) E (by rw[eJ,cH];exact M);have O:Hid (bI W0 B wb (.slice (some ⟨D,0,none⟩) (a.length+1) G) (s.setCell ⟨wb,0,none⟩ (.slice (some ⟨D,0,none⟩) (a.length+1) G)) (a++[y])/\ji W (s.setCell ⟨wb,0,none⟩ (.slice (some ⟨D,0,none⟩) (a.length+1) G))):=⟨N,t.out.2.trans (t.out.1.bK E _)⟩;clear N E M J X A c9 Z Q R dA t;go_wp2_with fail;refine⟨⟨m,by omega,by go_num,a++[y],_,O.out.1,?_,by simp only[List.length_append,List.length_cons,List.length_nil];omega,O.out.2⟩,by simp[intOf]⟩;rw[<-S.out,Pk.be,HY.out,dq];rfl
end
def PG(b:ByteArray):List Value:=b.data.toList.map fun x=>uq x.toNat
theorem akh{w:World}{B:Nat}{v:Value}(q:pE w)(s:ByteArray)(m:w.ownsRow B 5 1 v s.size (PG s)):Calls prog 48 #[v] w fun e w'=>e=.returned (.int .u32 ((Pk.sum s s.size:Nat):Int))/\w'=w:=by
 obtain⟨A,P,rfl,k⟩:=aC m;have t:Hid (∀i,i<s.size->∃g,A=some ⟨g,0,none⟩/\w.cell? ⟨g,i,none⟩=some (.int .u8 ((Pk.mF s i:Nat):Int))):=fun i C=>by
  have x:i<s.data.size:=C;obtain⟨g,c,n,-,d⟩:=Nw m (p:=i) (u:=uq (Pk.mF s i)) (by
   unfold PG Pk.mF;rw[di,gh,kk x,mT,kk x];rfl)
  cases n;exact⟨g,rfl,d⟩
 have N:s.size<=9223372036854775807:=by unfold maxLen at k;omega
 clear m k;go_enter func48,ntmps48;go_wp2_with fail
 go_loop [3,7] (fun v i=>∃j:Nat,j<=s.size/\i=.int .i64 (j:Int)/\v=.int .u32 ((Pk.sumTo s j:Nat):Int)) (fun _ i=>s.size - (intOf i).toNat)
 case atStart=>exact⟨0,by omega,rfl,rfl⟩
 case round=>
  obtain⟨j,K,rfl,rfl⟩:=hrel
  by_cases hjn:j<s.size
  ·have M:(j:Int)<(s.size:Int):=by omega
   obtain⟨g,rfl,G⟩:=t.out j hjn;have b:=Pk.FE s j;have r:=Pk.Jp s j;obtain⟨a,l⟩:∃a,Pk.sumTo s j ^^^ Pk.mF s j=a:=⟨_,rfl⟩;have f:a<4294967296:=by rw[<-l];exact Pk.Js b (by omega)
   have E:bits BinOp.xor IntKind.u32 (Pk.sumTo s j:Int) (Pk.mF s j:Int)=(a:Int):=by rw[ur _ _ b (by omega),l]
   obtain⟨c,d⟩:∃c,Pk.Cj a=c:=⟨_,rfl⟩;have o:c<4294967296:=by rw[<-d];exact Pk.Ny f
   have y:Pk.sumTo s (j+1)=Pk.Cj c:=by rw[Pk.sumTo,l,d]
   obtain⟨F,H,O,D⟩:=Na q f;obtain⟨Q,J,L,z⟩:=Na q o;rw[d]at D;rw[<-y]at z;have I:(Pk.mF s j:Int) % 4294967296=(Pk.mF s j:Int):=by omega
   clear d l y b r q t;go_wp2_with fail;exact⟨⟨j+1,by omega,by go_num,rfl⟩,by simp[intOf];omega⟩
  ·obtain rfl:j=s.size:=by omega
   go_wp2_with fail;go_ret;exact⟨DC (ur 4294967295 _ (by decide) (Pk.FE ..)),rfl⟩
namespace Pk
def sH(t:ByteArray):List Nat:=t.data.toList.map UInt8.toNat
def wS(l:List ByteArray):List Nat:=l.flatMap fun t=>be 1 t.size++sH t
theorem SN(t:ByteArray):(sH t).length=t.size:=by rw[sH,dk,lj];rfl
end Pk
theorem amT(t:ByteArray):Lib.strCells t=(Pk.sH t).map uq:=by
 unfold Lib.strCells Pk.sH uq;rw[th];rfl
theorem Tryz.anr:prog.underlying 9=some .string:=by kernel_rfl
section
variable{W0 W W':World}{B wb:Nat}{vB x:Value}{l:List Nat}
theorem ZB(h:bI W0 W0.heap.size wb vB W l){V:Value}{ts:List ByteArray}(A:zh W0 V ts)(P:l.length+(Pk.wS ts).length<=1000000000):Calls prog 46 #[.pointer (some ⟨wb,0,none⟩),V] W fun e W'=>e=.returned (.tuple #[])/\∃gY,bI W0 W0.heap.size wb gY W' (l++Pk.wS ts):=by
 obtain⟨X,tc,rfl,A⟩:=A;obtain⟨B,L⟩:∃B,W0.heap.size=B:=⟨_,rfl⟩;have N:∀W,Below B W0 W->∀(j:Nat)t,ts[j]?=some t->∃g,X=some ⟨g,0,none⟩/\W.cell? ⟨g,j,none⟩=some (.string t):=fun W U j t f=>by
  obtain⟨g,e,o⟩:=A j t f;unfold sQ at o;rw[j9]at o;rw[<-L]at U;exact⟨g,e,aM U o⟩
 rw[L]at h|-;clear L A;obtain⟨i0,H,F,J,C⟩:=ft Tryz.info5;have O:Hid (∃a k,bI W0 B wb k W a/\a++Pk.wS (ts.drop 0)=l++Pk.wS ts):=⟨l,vB,h,rfl⟩;have HL:Hid (l.length+(Pk.wS ts).length<=1000000000):=P;have hn:ts.length<=1000000000:=by
  have:∀ts:List ByteArray,ts.length<=(Pk.wS ts).length:=fun ts=>by
   induction ts with
   |nil=>exact zL0
   |cons t ts ih=>
    have e:Pk.wS (t::ts)=(Pk.be 1 t.size++Pk.sH t)++Pk.wS ts:=rfl;rw[e,cH,cH,Pk.nI,ev];omega
  have:=this ts;omega
 have Y:Hid (∀(w:World)(a:List Nat)(v:Value),bI W0 B wb v w a->∀(j:Nat)t,ts[j]?=some t->∃g,X=some ⟨g,0,none⟩/\w.cell? ⟨g,j,none⟩=some (.string t)):=fun w a v hw j t f=>N w hw.b j t f
 clear h P N;go_enter func46,ntmps46;go_wp2_with fail
 go_loopw [8] (fun i wr=>∃j:Nat,j<=ts.length/\i=.int .i64 (j:Int)/\Hid (∃a k,bI W0 B wb k wr a/\a++Pk.wS (ts.drop j)=l++Pk.wS ts)) (fun i _=>ts.length - (intOf i).toNat)
 case atStart=>exact⟨0,by omega,rfl,O⟩
 case round=>
  clear O;obtain⟨j,hj,rfl,Q⟩:=hrel;obtain⟨a,k,h1,d⟩:=Q.out;clear Q
  by_cases hjn:j<ts.length
  ·have j1:(j:Int)<(ts.length:Int):=by omega
   obtain⟨t,f⟩:∃t,ts[j]?=some t:=⟨_,cF hjn⟩;have hd:ts.drop j=t::ts.drop (j+1):=by
    rw[eR hjn];congr 1;rw[cF hjn]at f;exact ie f
   have G:Pk.wS (ts.drop j)=(Pk.be 1 t.size++Pk.sH t)++Pk.wS (ts.drop (j+1)):=by rw[hd];rfl
   obtain⟨g,rfl,o⟩:=Y.out wr a k h1 j t f;have z:a.length+(1+t.size)<=1000000000:=by
    have:=fb List.length d;rw[G]at this;simp only[List.length_append,Pk.nI,Pk.SN]at this;have:=HL.out;omega
   rw[G]at d;have T:Hid (a++(Pk.be 1 t.size++Pk.sH t++Pk.wS (ts.drop (j+1)))=l++Pk.wS ts):=d;have R:Calls prog 45 #[.pointer (some ⟨wb,0,none⟩),.int .i64 1,.int .i64 (t.size:Int)] wr fun e W'=>e=.returned (.tuple #[])/\∃gY,bI W0 B wb gY W' (a++Pk.be 1 t.size)/\ji wr W':=wO (n:=1) h1 (by decide) (by omega)
   clear h1 d G hd Y f;go_upto_region 4 with (go_at_call 45;refine R.mono ?_;rintro e w2⟨rfl,Z,h2,-⟩)
   clear R o;have q:(a++Pk.be 1 t.size).length=a.length+1:=by rw[cH,Pk.nI]
   obtain⟨c,I⟩:∃c,a++Pk.be 1 t.size=c:=⟨_,rfl⟩;have D:Hid (c++(Pk.sH t++Pk.wS (ts.drop (j+1)))=l++Pk.wS ts):=by
    show c++(Pk.sH t++Pk.wS (ts.drop (j+1)))=l++Pk.wS ts;rw[<-T.out,<-I];simp only[List.append_assoc]
   rw[I]at h2 q;have aa:c.length+t.size<=1000000000:=by omega
   clear T q I z;obtain⟨y,p,rfl,-⟩:=aC h2.r;have c0:w2.cell? ⟨wb,0,none⟩=some (.slice y c.length p):=h2.blk.cell 0;have M:(Value.slice y c.length p).ownBlock≠some wb:=fun e=>(h2.kB e).ne h2.kw (by decide) rfl
   have K:=h2.blk;have o2:=h2.r;have E:=h2.size;have H9:Hid (bI W0 B wb (.slice y c.length p) w2 c):=h2;clear h2
   go_wp2_with (at_builtin;refine Lib.wpList_append_own_string _ rfl _ _ 112 9 rfl B 5 i0 Tryz.adh Tryz.anr H F J C (.slice y c.length p) c.length (c.map uq) rfl o2 t rfl (by unfold maxLen;omega) (by omega) E ?_;intro v3 w3 s u _;obtain⟨ua,uc,rfl,-⟩:=aC s;have S:=K.grown u (fun e=>M e.symm);have d3:w3.cell? ⟨wb,0,none⟩=some (.slice y c.length p):=S.cell 0;have f3:=S.frozen 0)
   refine⟨⟨j+1,by omega,by go_num,c++Pk.sH t,_,H9.out.set (m:=c++Pk.sH t) u (by rw[eJ,cH,Pk.SN,<-amT];exact s),?_⟩,by simp[intOf];omega⟩;rw[<-D.out,dq]
  ·obtain rfl:j=ts.length:=by omega
   rw[io,Pk.wS,p6,eV]at d;have HE:Hid (bI W0 B wb k wr (l++Pk.wS ts)):=by rw[<-d];exact h1
   clear h1 d;go_wp2_with fail
   go_end0
   exact⟨rfl,k,HE.out⟩
end
namespace Pk
def cnt(row:List (Nat×Nat))(k:Nat):Nat->Nat
 |0=>0
 |j+1=>cnt row k j+(if row[j]?=some (2,k) then 1 else 0)
theorem adi(row:List (Nat×Nat))(k:Nat):∀j,cnt row k j<=j
 |0=>zL0
 |j+1=>by
  have:=adi row k j;unfold cnt
  split <;> omega
def qK(row:List (Nat×Nat)):Nat->Nat
 |0=>0
 |j+1=>if cnt row (qK row j) row.length<cnt row j row.length then j else qK row j
theorem adj(row:List (Nat×Nat)):∀j,qK row j<j\/qK row j=0
 |0=>.inr rfl
 |j+1=>by
  have:=adj row j;unfold qK
  split <;> omega
def usual(row:List (Nat×Nat))(n:Nat):Nat:=qK row n
def jS(row:List (Nat×Nat))(u:Nat):Nat->List (Nat×Nat×Nat)
 |0=>[]
 |j+1=>jS row u j++(match row[j]? with
  |some c=>if c.1≠0/\c≠(2,u) then [(c.1,c.2,j)] else []
  |none=>[])
def lq(gt:List Nat)(o:Nat):Nat->List (Nat×Nat×Nat)
 |0=>[]
 |j+1=>lq gt o j++(match gt[j]? with
  |some t=>if t≠0 then [(1,t,o+j)] else []
  |none=>[])
def told(row:List (Nat×Nat))(gt:List Nat)(u:Nat):List (Nat×Nat×Nat):=jS row u row.length++lq gt row.length gt.length
def fits(ak:List (Nat×Nat×Nat))(row:List (Nat×Nat×Nat))(b:Nat):Bool:=row.all fun x=>(ak.getD (b+x.2.2) (0,0,0)).1 == 0
theorem aki(ak:List (Nat×Nat×Nat))(row:List (Nat×Nat×Nat)){b:Nat}(h:ak.length<=b):fits ak row b=true:=by
 unfold fits;rw[p7];intro x _;rw[ej,ju (by omega)];rfl
def vw(ak:List (Nat×Nat×Nat))(row:List (Nat×Nat×Nat)):Nat->Nat->Nat
 |0,b=>b
 |f+1,b=>if fits ak row b=true then b else vw ak row f (b+1)
theorem akj{ak:List (Nat×Nat×Nat)}{row:List (Nat×Nat×Nat)}{b:Nat}(h:fits ak row b=true):∀f,vw ak row f b=b
 |0=>rfl
 |f+1=>by rw[vw,dj h]
theorem alT{ak:List (Nat×Nat×Nat)}{row:List (Nat×Nat×Nat)}{b f:Nat}(h:fits ak row b=false):vw ak row (f+1) b=vw ak row f (b+1):=by
 rw[vw,h,dt (by decide)]
def fit(ak:List (Nat×Nat×Nat))(row:List (Nat×Nat×Nat)):Nat:=vw ak row ak.length 0
def r9(ak:List (Nat×Nat×Nat))(k:Nat)(x:Nat×Nat×Nat):List (Nat×Nat×Nat):=(ak++List.replicate (k+1-ak.length) (0,0,0)).set k x
theorem akk(ak:List (Nat×Nat×Nat))(k:Nat)(x:Nat×Nat×Nat):(r9 ak k x).length=max ak.length (k+1):=by
 unfold r9;rw[ii,cH,ik];omega
def jZ(b q:Nat):List (Nat×Nat×Nat)->List (Nat×Nat×Nat)->List (Nat×Nat×Nat)
 | [],ak=>ak
 |x::r,ak=>jZ b q r (r9 ak (b+x.2.2) (x.1,x.2.1,q))
structure Mk where
 aB:List Nat
 ak:List (Nat×Nat×Nat)
 aH:List Nat
def lay(m:Mk)(row:List (Nat×Nat×Nat)):Mk:={ m with aB:=m.aB++[fit m.ak row],ak:=jZ (fit m.ak row) m.aB.length row m.ak }
def one(nP:Nat)(m:Mk)(row:List (Nat×Nat))(gt:List Nat):Mk:=lay { m with aH:=m.aH++[usual row nP] } (told row gt (usual row nP))
def mk(nP:Nat)(cs:List (List (Nat×Nat)))(gs:List (List Nat)):Nat->Mk
 |0=>⟨[],[],[]⟩
 |k+1=>one nP (mk nP cs gs k) (cs.getD k []) (gs.getD k [])
def wP:Nat->List (Nat×Nat×Nat)->List Nat
 |_,[]=>[]
 |gap,x::r=>if x.1=0 then wP (gap+1) r else be 2 gap++be 2 x.2.2++be 2 (x.1*4096+x.2.1)++wP 0 r
def tJ(l:List (Nat×Nat×Nat)):Nat:=(l.filter fun x=>x.1 != 0).length
def lu(l:List (Nat×Nat×Nat)):List Nat:=be 3 (tJ l)++wP 0 l
def wR(nT:Nat)(l:List (Nat×Nat)):List Nat:=l.flatMap fun x=>be 2 (x.1-nT)++be 2 x.2
def wD(m:Mk):Nat->List Nat
 |0=>[]
 |k+1=>wD m k++(be 1 (m.aH.getD k 0)++be 3 (m.aB.getD k 0))
def pW(T N:List ByteArray)(P:List (Nat×Nat))(m:Mk):List Nat:=be 2 (m.aH.length-1)++be 2 (T.length-1)++be 2 (N.length-1)++be 2 (P.length-1)++wS T++wS N++wR T.length P++wD m m.aH.length++lu m.ak
def zC(l:List Nat):ByteArray:=⟨(l.map fun x=>UInt8.ofNat x).toArray⟩
def written(T N:List ByteArray)(P:List (Nat×Nat))(m:Mk):ByteArray:=zC (pW T N P m++be 4 (sum (zC (pW T N P m)) (pW T N P m).length))
end Pk
def Pk.pX(row:List (Nat×Nat))(n j:Nat):List Nat:=(List.range n).map fun k=>Pk.cnt row k j
theorem Pk.abp{row:List (Nat×Nat)}{n j k:Nat}(h:k<n):(Pk.pX row n j)[k]?=some (Pk.cnt row k j):=by simp[Pk.pX,h]
theorem Pk.Nb(row:List (Nat×Nat))(n j:Nat):(Pk.pX row n j).length=n:=by simp[Pk.pX]
theorem Pk.alU{row:List (Nat×Nat)}{n j:Nat}{x:Nat×Nat}(a:row[j]?=some x)(h:x.1≠2):Pk.pX row n (j+1)=Pk.pX row n j:=by
 unfold Pk.pX;refine ml fun k _=>?_
 rw[Pk.cnt,a,dt]
 ·rfl
 ·intro e
  cases e;exact h rfl
theorem Pk.akl{row:List (Nat×Nat)}{n j k:Nat}(a:row[j]?=some (2,k)):Pk.pX row n (j+1)=(Pk.pX row n j).set k (Pk.cnt row k j+1):=by
 apply ms
 ·rw[ii,Pk.Nb,Pk.Nb]
 ·intro i h1 h2
  rw[Pk.Nb]at h1;rw[tE];simp only[Pk.pX,List.getElem_map,List.getElem_range];rw[Pk.cnt,a]
  by_cases e:k=i
  ·subst e;simp
  ·rw[dt e,dt]
   ·rfl
   ·intro b
    cases b;exact e rfl
theorem Si{l:List Nat}{i x:Nat}(h:l[i]?=some x):(eU l)[i]?=some (.int .i64 (x:Int)):=by
 obtain⟨h1,rfl⟩:=cG.1 h;exact RG l h1
theorem agT{w:World}{v:Value}{row:List (Nat×Nat)}{n:Nat}(h:vY w v row)(B:∀x∈row,x.1=2->x.2<n)(h0:0<n)(S:n<=100000)(hr:row.length<=100000):Calls prog 49 #[v,.int .i64 (n:Int)] w fun e w'=>e=.returned (.int .i64 (Pk.usual row n:Int))/\Below w.heap.size w w':=by
 obtain⟨a,c,rfl,I⟩:=h;obtain⟨b,G⟩:∃g,w.heap.size=g:=⟨_,rfl⟩;have R:=fun w=>RH (n:=n) S w
 have H:Hid (Below b w (w.alloc (.cells (eU (List.replicate n 0)) 3))/\aj (w.alloc (.cells (eU (List.replicate n 0)) 3)) b (eU (Pk.pX row n 0)) 3):=by
  refine⟨by rw[<-G];exact(cV _ _).alloc (zL0) _,?_⟩;rw[<-G,show Pk.pX row n 0=List.replicate n 0 from by
   apply ms
   ·rw[Pk.Nb,ik]
   ·intro i h1 h2
    simp[Pk.pX,Pk.cnt]]
  exact aj.new ..
 have C:Hid (∀wr,Below b w wr->∀(j:Nat)x,row[j]?=some x->∃g,a=some ⟨g,0,none⟩/\wr.cell? ⟨g,j*2,none⟩=some (.int .i64 (x.1:Int))/\wr.cell? ⟨g,j*2+1,none⟩=some (.int .i64 (x.2:Int))):=fun wr f j x hx=>by
  rw[<-G]at f;obtain⟨g,e,h1,h2⟩:=I j x hx;exact⟨g,e,aM f h1,aM f h2⟩
 clear I;go_enter func49,ntmps49
 go_wp2_with (simp only[R])
 go_loopw [15] (fun i wr=>∃j:Nat,j<=row.length/\i=.int .i64 (j:Int)/\Hid (Below b w wr/\aj wr b (eU (Pk.pX row n j)) 3)) (fun i _=>row.length - (intOf i).toNat)
 case atStart=>exact⟨0,by omega,rfl,H⟩
 case round=>
  clear H;obtain⟨j,U,rfl,N⟩:=hrel;obtain⟨f,kC⟩:=N.out;clear N
  by_cases hjn:j<row.length
  ·have X:(j:Int)<(row.length:Int):=by omega
   obtain⟨x,hx⟩:∃x,row[j]?=some x:=⟨_,cF hjn⟩;obtain⟨g,rfl,Y,Z⟩:=C.out wr f j x hx;obtain⟨s,d⟩:=x;simp only at Y Z;obtain⟨l,r⟩:∃V,V=wr.alloc (.cells #[.int .i64 (s:Int),.int .i64 (d:Int)] 42):=⟨_,rfl⟩;have L:aj l wr.heap.size #[.int .i64 (s:Int),.int .i64 (d:Int)] 42:=by rw[r];exact aj.new ..
   have t:aj l b (eU (Pk.pX row n j)) 3:=by rw[r];exact kC.alloc _
   have m:Below b w l:=by rw[r];exact f.alloc (mi kC.lt) _
   have x1:l.cell? ⟨wr.heap.size,0,none⟩=some (.int .i64 (s:Int)):=L.cell 0;have x2:l.cell? ⟨wr.heap.size,1,none⟩=some (.int .i64 (d:Int)):=L.cell 1
   by_cases h2:s=2
   ·have D:((s:Int) == 2)=true:=by simp[h2]
    have T:d<n:=B _ (cJ hx) h2;rw[h2]at hx;have K:(0:Int)<=(d:Int):=by omega
    have E:(d:Int)<(n:Int):=by omega
    have W:l.cell? ⟨b,d,none⟩=some (.int .i64 (Pk.cnt row d j:Int)):=by rw[t.cell];exact Si (Pk.abp T)
    have F:=Pk.adi row d j;have fr:=t.frozen d;have A:Hid (Below b w (l.setCell ⟨b,d,none⟩ (.int .i64 ((Pk.cnt row d j+1:Nat):Int)))/\aj (l.setCell ⟨b,d,none⟩ (.int .i64 ((Pk.cnt row d j+1:Nat):Int))) b (eU (Pk.pX row n (j+1))) 3):=by
     refine⟨m.setCell (p:=⟨b,d,none⟩) (zL0) _,?_⟩;rw[Pk.akl hx,<-RF];exact t.set d _
    generalize Pk.cnt row d j=z at W F A;have y:((z+1:Nat):Int)=(z:Int)+1:=by omega
    rw[y]at A;clear f kC t m B C y h2;go_upto_region 6 with fail
    rw[<-r];clear r;go_wp2_with fail;exact⟨⟨j+1,by omega,by go_num,A⟩,by simp[intOf];omega⟩
   ·have D:((s:Int) == 2)=false:=zB0 (by omega)
    have A:Hid (Below b w l/\aj l b (eU (Pk.pX row n (j+1))) 3):=⟨m,by rw[Pk.alU hx h2];exact t⟩;clear f kC t m B C;go_upto_region 6 with fail
    rw[<-r];clear r;go_wp2_with fail;exact⟨⟨j+1,by omega,by go_num,A⟩,by simp[intOf];omega⟩
  ·obtain rfl:j=row.length:=by omega
   have J:Hid (∀k,k<n->wr.cell? ⟨b,k,none⟩=some (.int .i64 (Pk.cnt row k row.length:Int))):=fun k O=>by rw[kC.cell];exact Si (Pk.abp O)
   have P:Hid (Below b w wr):=f;clear f kC B C;go_wp2_with fail
   go_loop [6,32] (fun u i=>∃j:Nat,j<=n/\i=.int .i64 (j:Int)/\u=.int .i64 (Pk.qK row j:Int)) (fun _ i=>n - (intOf i).toNat)
   case atStart=>exact⟨0,by omega,rfl,rfl⟩
   case round=>
    obtain⟨j,U,rfl,rfl⟩:=hrel
    by_cases hjn:j<n
    ·have X:(j:Int)<(n:Int):=by omega
     have M:=Pk.adj row j;have K:=J.out j hjn;have E:=J.out (Pk.qK row j) (by omega);have y:Pk.qK row (j+1)=if Pk.cnt row (Pk.qK row j) row.length<Pk.cnt row j row.length then j else Pk.qK row j:=rfl
     have Q:Pk.qK row j<n:=by omega
     have o:Hid _:=y;clear y;generalize Pk.cnt row j row.length=z1 at K o;generalize Pk.cnt row (Pk.qK row j) row.length=z2 at E o;generalize Pk.qK row j=u at E Q o M;have u1:(0:Int)<=(u:Int):=by omega
     have u2:(u:Int)<(n:Int):=by omega
     clear M
     by_cases hz:z2<z1
     ·have D:decide ((z2:Int)<(z1:Int))=true:=fi (by omega)
      have q:Hid (Pk.qK row (j+1)=j):=o.out.trans (dj hz);clear o;go_wp2_with fail;exact⟨⟨j+1,by omega,by go_num,by rw[q.out]⟩,by simp[intOf];omega⟩
     ·have D:decide ((z2:Int)<(z1:Int))=false:=eE (by omega)
      have q:Hid (Pk.qK row (j+1)=u):=o.out.trans (dt hz);clear o;go_wp2_with fail;exact⟨⟨j+1,by omega,by go_num,by rw[q.out]⟩,by simp[intOf];omega⟩
    ·obtain rfl:j=n:=by omega
     go_wp2_with fail;go_ret;exact⟨rfl,P.out⟩
theorem Tryz.alV:(prog.info? 205).map (fun i=>(i.zero,i.size,i.bytes))=some (some (.agg #[.int .i64 0,.int .i64 0,.int .i64 0]),3,24):=by kernel_rfl
theorem Tryz.Tx:prog.underlying 124=some (.slice 205):=by kernel_rfl
def TdE(w:World)(l:List (Nat×Nat×Nat))(e:Ending)(w':World):Prop:=∃vo,e=.returned vo/\w'.ownsRow w.heap.size 205 3 vo l.length (l.flatMap bY)/\Below w.heap.size w w'
theorem Sj{w:World}{B e:Nat}{v:Value}{l:List (Nat×Nat×Nat)}{x:Nat×Nat×Nat}(h:w.ownsRow B e 3 v (l.length+1) (l.flatMap bY++[.int .i64 (x.1:Int),.int .i64 (x.2.1:Int),.int .i64 (x.2.2:Int)])):w.ownsRow B e 3 v (l++[x]).length ((l++[x]).flatMap bY):=by
 rw[cH,gw];simpa [bY]using h
theorem Pk.Nz(row:List (Nat×Nat))(u:Nat):∀j,(Pk.jS row u j).length<=j
 |0=>zL0
 |j+1=>by
  have:=Pk.Nz row u j;rw[Pk.jS,cH]
  split
  ·split <;> simp <;> omega
  ·simp;omega
theorem Pk.SQ(a:List Nat)(o:Nat):∀j,(Pk.lq a o j).length<=j
 |0=>zL0
 |j+1=>by
  have:=Pk.SQ a o j;rw[Pk.lq,cH]
  split
  ·split <;> simp <;> omega
  ·simp;omega
theorem ahP{w:World}{v vg:Value}{row:List (Nat×Nat)}{f:List Nat}(h:vY w v row)(hg:bQ w vg f)(hr:row.length<=100000)(aa:f.length<=100000)(u:Nat):Calls prog 51 #[v,vg,.int .i64 (u:Int)] w (TdE w (Pk.told row f u)):=by
 obtain⟨a,c,rfl,Q⟩:=h;obtain⟨ga,gc,rfl,O⟩:=hg;obtain⟨Z,H,F,J,E⟩:=ft Tryz.alV;have H0:Hid (Below w.heap.size w w/\w.ownsRow w.heap.size 205 3 (.slice none 0 0) (Pk.jS row u 0).length ((Pk.jS row u 0).flatMap bY)):=⟨cV _ _,eQ _ _ _ _⟩;have HC:Hid (∀wr,Below w.heap.size w wr->∀(j:Nat)x,row[j]?=some x->∃g,a=some ⟨g,0,none⟩/\wr.cell? ⟨g,j*2,none⟩=some (.int .i64 (x.1:Int))/\wr.cell? ⟨g,j*2+1,none⟩=some (.int .i64 (x.2:Int))):=fun wr n j x K=>by
  obtain⟨g,e,h1,h2⟩:=Q j x K;exact⟨g,e,aM n h1,aM n h2⟩
 have S:Hid (∀wr,Below w.heap.size w wr->∀(j:Nat)x,f[j]?=some x->∃g,ga=some ⟨g,0,none⟩/\wr.cell? ⟨g,j,none⟩=some (.int .i64 (x:Int))):=fun wr n j x K=>by
  obtain⟨g,e,h1⟩:=O j x K;rw[j9]at h1;exact⟨g,e,aM n h1⟩
 clear Q O;go_enter func51,ntmps51;go_wp2_with fail
 go_loopw [7,14] (fun vo i wr=>∃j:Nat,j<=row.length/\i=.int .i64 (j:Int)/\Hid (Below w.heap.size w wr/\wr.ownsRow w.heap.size 205 3 vo (Pk.jS row u j).length ((Pk.jS row u j).flatMap bY))) (fun _ i _=>row.length - (intOf i).toNat)
 case atStart=>exact⟨0,by omega,rfl,H0⟩
 case round=>
  clear H0;obtain⟨j,hj,rfl,P⟩:=hrel;obtain⟨n,q⟩:=P.out;clear P
  by_cases hjn:j<row.length
  ·have j1:(j:Int)<(row.length:Int):=by omega
   obtain⟨x,K⟩:∃x,row[j]?=some x:=⟨_,cF hjn⟩;obtain⟨g,rfl,c1,c2⟩:=HC.out wr n j x K;obtain⟨l,o⟩:=x;simp only at c1 c2;have X:=Pk.Nz row u j;have N:Pk.jS row u (j+1)=Pk.jS row u j++(if l≠0/\(l,o)≠(2,u) then [(l,o,j)] else []):=by rw[Pk.jS,K]
   have I:Hid _:=N;clear N;generalize Pk.jS row u j=tl at q X I;obtain⟨D,C,rfl,-⟩:=aC q;obtain⟨A,y⟩:∃V,V=wr.alloc (.cells #[.int .i64 (l:Int),.int .i64 (o:Int)] 42):=⟨_,rfl⟩;obtain⟨bx,s⟩:∃b,wr.heap.size=b:=⟨_,rfl⟩;have U:aj A bx #[.int .i64 (l:Int),.int .i64 (o:Int)] 42:=by rw[y,<-s];exact aj.new ..
   have p:A.ownsRow w.heap.size 205 3 (.slice D tl.length C) tl.length (tl.flatMap bY):=by rw[y];exact q.alloc _
   have m:Below w.heap.size w A:=by rw[y];exact n.alloc n.size _
   have x1:A.cell? ⟨bx,0,none⟩=some (.int .i64 (l:Int)):=U.cell 0;have x2:A.cell? ⟨bx,1,none⟩=some (.int .i64 (o:Int)):=U.cell 1;clear q n HC S U;have r:Hid (¬(l≠0/\(l,o)≠(2,u))->Pk.jS row u (j+1)=tl):=fun Q=>by show Pk.jS row u (j+1)=tl;rw[I.out,dt Q,eV]
   by_cases h0:l=0
   ·have b1:((l:Int) != 0)=false:=by simp[h0]
    have G:Hid (Below w.heap.size w A/\A.ownsRow w.heap.size 205 3 (.slice D tl.length C) (Pk.jS row u (j+1)).length ((Pk.jS row u (j+1)).flatMap bY)):=⟨m,by rw[r.out (fun h=>h.1 h0)];exact p⟩;clear I r m p h0;go_upto_region 5 with fail
    rw[<-y];clear y s;go_wp2_with fail;exact⟨⟨j+1,by omega,by go_num,G⟩,by simp[intOf];omega⟩
   ·have b1:((l:Int) != 0)=true:=by simp;omega
    by_cases h2:l=2/\o=u
    ·have G:Hid (Below w.heap.size w A/\A.ownsRow w.heap.size 205 3 (.slice D tl.length C) (Pk.jS row u (j+1)).length ((Pk.jS row u (j+1)).flatMap bY)):=⟨m,by rw[r.out (fun h=>h.2 (by rw[h2.1,h2.2]))];exact p⟩
     have R:Hid (l=2/\o=u):=h2;clear I r m p h0 h2;go_upto_region 5 with fail
     rw[<-y];clear y s;have e1:((l:Int) == 2)=true:=by simp[R.out.1]
     have e2:((o:Int) == (u:Int))=true:=by simp[R.out.2]
     have e3:(l:Int)=2:=by have:=R.out;omega
     have e4:(o:Int)=(u:Int):=by have:=R.out;omega
     go_wp2_with fail;exact⟨⟨j+1,by omega,by go_num,G⟩,by simp[intOf];omega⟩
    ·have B:Hid (Pk.jS row u (j+1)=tl++[(l,o,j)]):=by
      show _=_;rw[I.out,dj ⟨h0,fun e=>h2 (by cases e;exact⟨rfl,rfl⟩)⟩]
     by_cases h3:l=2
     ·have h4:¬o=u:=fun e=>h2 ⟨h3,e⟩
      have H3:Hid (l=2/\¬o=u):=⟨h3,h4⟩;clear h2 I r h0 h3 h4;go_upto_region 5 with fail
      rw[<-y];clear y s;have e1:((l:Int) == 2)=true:=by simp[H3.out.1]
      have e2:((o:Int) == (u:Int))=false:=fY.2 (by have:=H3.out;omega);have e4:¬(o:Int)=(u:Int):=by have:=H3.out;omega
      go_wp2_with (at_builtin;refine js _ rfl _ _ 124 rfl w.heap.size 205 Z _ 3 24 Tryz.Tx H F J E rfl (by decide) (.slice D tl.length C) _ _ rfl (p.alloc _) ⟨_,0,none⟩ 1 1 [.int .i64 (l:Int),.int .i64 (o:Int),.int .i64 (j:Int)] rfl rfl (eO (aj.new _ _ 205)) (by simp[Value.oneCell']) (by unfold maxLen;omega) (by omega) (by simp;have:=m.size;omega) ?_;intro v5 w5 d L _ jc;obtain⟨mG,mH,z,-⟩:=aC d;subst z)
      refine⟨⟨j+1,by omega,by go_num,(m.alloc m.size _).grown L (by simp;have:=m.size;omega) (fun k M=>(p.lt k M).1),?_⟩,by simp[intOf];omega⟩;rw[B.out];exact Sj (x:=(l,o,j)) d
     ·clear h2
      clear I r h0;go_upto_region 5 with fail
      rw[<-y];clear y s;have e1:((l:Int) == 2)=false:=zB0 (by omega);have e4:¬(l:Int)=2:=by omega
      clear h3
      go_wp2_with (at_builtin;refine js _ rfl _ _ 124 rfl w.heap.size 205 Z _ 3 24 Tryz.Tx H F J E rfl (by decide) (.slice D tl.length C) _ _ rfl (p.alloc _) ⟨_,0,none⟩ 1 1 [.int .i64 (l:Int),.int .i64 (o:Int),.int .i64 (j:Int)] rfl rfl (eO (aj.new _ _ 205)) (by simp[Value.oneCell']) (by unfold maxLen;omega) (by omega) (by simp;have:=m.size;omega) ?_;intro v5 w5 d L _ jc;obtain⟨mG,mH,z,-⟩:=aC d;subst z)
      refine⟨⟨j+1,by omega,by go_num,(m.alloc m.size _).grown L (by simp;have:=m.size;omega) (fun k M=>(p.lt k M).1),?_⟩,by simp[intOf];omega⟩;rw[B.out];exact Sj (x:=(l,o,j)) d
  ·obtain rfl:j=row.length:=by omega
   have HB:Hid (Below w.heap.size w wr):=n;have V6:Hid (Pk.jS row u row.length++Pk.lq f row.length f.length=Pk.told row f u):=rfl;have X:=Pk.Nz row u row.length;generalize Pk.jS row u row.length=tl at q V6 X;obtain⟨va,vc,Es,-⟩:=aC q;subst Es;have H1:Hid (Below w.heap.size w wr/\wr.ownsRow w.heap.size 205 3 (.slice va tl.length vc) (tl++Pk.lq f row.length 0).length ((tl++Pk.lq f row.length 0).flatMap bY)):=⟨n,by rw[Pk.lq,eV];exact q⟩;clear n q HC HB;go_wp2_with fail
   go_loopw [7,37] (fun vo i wr=>∃j:Nat,j<=f.length/\i=.int .i64 (j:Int)/\Hid (Below w.heap.size w wr/\wr.ownsRow w.heap.size 205 3 vo (tl++Pk.lq f row.length j).length ((tl++Pk.lq f row.length j).flatMap bY))) (fun _ i _=>f.length - (intOf i).toNat)
   case atStart=>exact⟨0,by omega,rfl,H1⟩
   case round=>
    clear H1;revert wr;intro Y hrel;obtain⟨j,hj,rfl,P⟩:=hrel;obtain⟨n,q⟩:=P.out;clear P
    by_cases hjn:j<f.length
    ·have j1:(j:Int)<(f.length:Int):=by omega
     obtain⟨t,ht⟩:∃t,f[j]?=some t:=⟨_,cF hjn⟩;obtain⟨g,rfl,c1⟩:=S.out Y n j t ht;have N:Pk.lq f row.length (j+1)=Pk.lq f row.length j++(if t≠0 then [(1,t,row.length+j)] else []):=by rw[Pk.lq,ht]
     have T:=Pk.SQ f row.length j;have B:Hid (tl++Pk.lq f row.length (j+1)=(tl++Pk.lq f row.length j)++(if t≠0 then [(1,t,row.length+j)] else [])):=by show _=_;rw[N,dq]
     have W:(tl++Pk.lq f row.length j).length<=200000:=by rw[cH];omega
     clear N T S;generalize tl++Pk.lq f row.length j=t2 at q B W;obtain⟨D,C,rfl,-⟩:=aC q
     by_cases h0:t=0
     ·have b1:((t:Int) != 0)=false:=by simp[h0]
      have G:Hid (Below w.heap.size w Y/\Y.ownsRow w.heap.size 205 3 (.slice D t2.length C) (tl++Pk.lq f row.length (j+1)).length ((tl++Pk.lq f row.length (j+1)).flatMap bY)):=⟨n,by rw[B.out,dt (fun h=>h h0),eV];exact q⟩;clear B n q h0;go_wp2_with fail;exact⟨⟨j+1,by omega,by go_num,G⟩,by simp[intOf];omega⟩
     ·have b1:((t:Int) != 0)=true:=by simp;omega
      have ew:IntKind.i64.wrap ((row.length:Int)+(j:Int))=(row.length:Int)+(j:Int):=by rw[iz];omega
      have G:Hid (tl++Pk.lq f row.length (j+1)=t2++[(1,t,row.length+j)]):=by show _=_;rw[B.out,dj h0]
      clear B h0
      go_wp2_with (at_builtin;refine js _ rfl _ _ 124 rfl w.heap.size 205 Z _ 3 24 Tryz.Tx H F J E rfl (by decide) (.slice D t2.length C) _ _ rfl (q.alloc _) ⟨_,0,none⟩ 1 1 [.int .i64 1,.int .i64 (t:Int),.int .i64 ((row.length:Int)+(j:Int))] rfl rfl (eO (aj.new _ _ 205)) (by simp[Value.oneCell']) (by unfold maxLen;omega) (by omega) (by simp;have:=n.size;omega) ?_;intro v5 w5 d L _ jc;obtain⟨mG,mH,z,-⟩:=aC d;subst z)
      refine⟨⟨j+1,by omega,by go_num,(n.alloc n.size _).grown L (by simp;have:=n.size;omega) (fun k M=>(q.lt k M).1),?_⟩,by simp[intOf];omega⟩;rw[G.out];refine Sj (x:=(1,t,row.length+j)) ?_;rw[show ((row.length+j:Nat):Int)=(row.length:Int)+(j:Int) by omega];exact d
    ·obtain rfl:j=f.length:=by omega
     rw[V6.out]at q;clear S V6;go_wp2_with fail;go_ret;exact⟨_,rfl,q,n⟩
theorem Pk.ai6{ak row:List (Nat×Nat×Nat)}{j b:Nat}{x:Nat×Nat×Nat}(a:row[j]?=some x):Pk.fits ak (row.drop j) b=((ak.getD (b+x.2.2) (0,0,0)).1 == 0 && Pk.fits ak (row.drop (j+1)) b):=by
 obtain⟨h,rfl⟩:=cG.1 a;rw[eR h];rfl
theorem akm{w:World}{B pb b:Nat}{vP L:Value}{ak row:List (Nat×Nat×Nat)}(K:w.cell? ⟨pb,1,none⟩=some vP)(D:w.ownsRow B 138 3 vP ak.length (ak.flatMap bY))(U:lZ w L row)(F:∀x∈row,b+x.2.2<=1000000000)(hl:row.length<=1000000):Calls prog 86 #[.pointer (some ⟨pb,0,none⟩),.int .i64 (b:Int),L] w fun e w'=>e=.returned (.bool (Pk.fits ak row b))/\Below w.heap.size w w':=by
 obtain⟨a,c,rfl,A⟩:=U;obtain⟨Q,N,rfl,-⟩:=aC D;have I:Hid (∀wr,Below w.heap.size w wr->wr.cell? ⟨pb,1,none⟩=some (.slice Q ak.length N)/\∀i:Nat,Calls prog 59 #[.slice Q ak.length N,.int .i64 (i:Int)] wr fun e w'=>e=.returned (.agg #[.int .i64 ((ak.getD i (0,0,0)).1:Int),.int .i64 ((ak.getD i (0,0,0)).2.1:Int),.int .i64 ((ak.getD i (0,0,0)).2.2:Int)])/\Below wr.heap.size wr w'):=fun wr l=>⟨aM l K,fun i=>YM (aD D fun g W=>l.block g (D.lt g W).2) i⟩
 have T:Hid (∀wr,Below w.heap.size w wr->∀(j:Nat)x,row[j]?=some x->∃g,a=some ⟨g,0,none⟩/\wr.cell? ⟨g,j*3,none⟩=some (.int .i64 (x.1:Int))/\wr.cell? ⟨g,j*3+1,none⟩=some (.int .i64 (x.2.1:Int))/\wr.cell? ⟨g,j*3+2,none⟩=some (.int .i64 (x.2.2:Int))):=fun wr l j x F=>by
  obtain⟨g,e,h1,h2,h3⟩:=A j x F;exact⟨g,e,aM l h1,aM l h2,aM l h3⟩
 have J:Hid (Below w.heap.size w w/\Pk.fits ak (row.drop 0) b=Pk.fits ak row b):=⟨cV _ _,rfl⟩;clear A D K;go_enter func86,ntmps86;go_wp2_with fail
 go_loopw [11] (fun i wr=>∃j:Nat,j<=row.length/\i=.int .i64 (j:Int)/\Hid (Below w.heap.size w wr/\Pk.fits ak (row.drop j) b=Pk.fits ak row b)) (fun i _=>row.length - (intOf i).toNat)
 case atStart=>exact⟨0,by omega,rfl,J⟩
 case round=>
  clear J;obtain⟨j,hj,rfl,R⟩:=hrel;obtain⟨l,r⟩:=R.out;clear R
  by_cases hjn:j<row.length
  ·have j1:(j:Int)<(row.length:Int):=by omega
   obtain⟨x,hxj⟩:∃x,row[j]?=some x:=⟨_,cF hjn⟩;obtain⟨g,rfl,c1,c2,Y⟩:=T.out wr l j x hxj;have H:=F x (cJ hxj);rw[Pk.ai6 hxj]at r;obtain⟨M,S,m⟩:=x;simp only at c1 c2 Y H r;obtain⟨o,E⟩:∃V,V=wr.alloc (.cells #[.int .i64 (M:Int),.int .i64 (S:Int),.int .i64 (m:Int)] 205):=⟨_,rfl⟩;obtain⟨O,v⟩:∃b,wr.heap.size=b:=⟨_,rfl⟩;have P:aj o O #[.int .i64 (M:Int),.int .i64 (S:Int),.int .i64 (m:Int)] 205:=by rw[E,<-v];exact aj.new ..
   have f:Below w.heap.size w o:=by rw[E];exact l.alloc l.size _
   have x3:o.cell? ⟨O,2,none⟩=some (.int .i64 (m:Int)):=P.cell 2;obtain⟨cP,-⟩:=I.out o f;have z:=fun t=>(I.out (o.drewN t) ⟨f.1,f.2,f.3,f.4,f.5⟩).2 (b+m)
   simp only[show ((b+m:Nat):Int)=(b:Int)+(m:Int) by omega]at z;have ew:IntKind.i64.wrap ((b:Int)+(m:Int))=(b:Int)+(m:Int):=by rw[iz];omega
   have y:Hid (∀t w2,Below (o.drewN t).heap.size (o.drewN t) w2->Below w.heap.size w w2):=fun t w2 h2=>by
    have:Below w.heap.size w (o.drewN t):=⟨f.1,f.2,f.3,f.4,f.5⟩;exact this.trans (h2.mono this.size)
   have s:Hid (((ak.getD (b+m) (0,0,0)).1 == 0 && Pk.fits ak (row.drop (j+1)) b)=Pk.fits ak row b):=r;clear l r f P F I T;generalize ak.getD (b+m) (0,0,0)=d at z s;obtain⟨G,d2,d3⟩:=d;simp only at z s;go_upto_region 4 with fail
   rw[<-E];clear E v;refine(sq (n:=9)).1 ?_;refine qp 8 (by kernel_rfl) (by kernel_rfl) (by kernel_rfl) ?_
   dsimp only[List.take,List.drop,List.length]
   repeat (gi_big_quiet_step (fail))
   refine wpQuietIn_nil ?_;rintro _⟨aa,rfl⟩;refine wpAnyIn_ready (rs:=[8]) (by kernel_rfl) (by simp) (AllReadyIn.cons rfl (fun q k=>?_) AllReadyIn.nil)
   go_simp
   refine⟨trivial,(ij.2 (z _)).mono ?_⟩;rintro e Z⟨rfl,C⟩;have p:=y.out _ _ C;clear z C y;refine k _ _ ?_;clear k q;refine wpAnyIn_ready (rs:=[9]) (by kernel_rfl) (by simp) (AllReadyIn.cons rfl (fun q k=>?_) AllReadyIn.nil)
   go_simp
   refine k _ _ ?_;clear k q;refine wpAnyIn_ready (rs:=[10]) (by kernel_rfl) (by simp) (AllReadyIn.cons rfl (fun q k=>?_) AllReadyIn.nil)
   go_simp
   refine k _ _ ?_;clear k q;refine wpAnyIn_ready (rs:=[11]) (by kernel_rfl) (by simp) (AllReadyIn.cons rfl (fun q k=>?_) AllReadyIn.nil)
   go_simp
   refine k _ _ (wpAnyIn_done (by kernel_rfl) ?_ _);clear k q
   by_cases hd:G=0
   ·have X:((G:Int) != 0)=false:=by simp[hd]
    have u:Hid (Below w.heap.size w Z/\Pk.fits ak (row.drop (j+1)) b=Pk.fits ak row b):=⟨p,by rw[<-s.out,hd];simp⟩;clear hd s p;go_wp2_with fail;exact⟨⟨j+1,by omega,by go_num,u⟩,by simp[intOf];omega⟩
   ·have X:((G:Int) != 0)=true:=by simp;omega
    have u:Hid (Pk.fits ak row b=false):=by
     show _=_;rw[<-s.out];simp[hd]
    clear s;go_wp2_with fail;go_ret;exact⟨iY u.out.symm,p⟩
  ·obtain rfl:j=row.length:=by omega
   rw[io]at r;have u:Hid (Pk.fits ak row b=true):=by rw[<-r];rfl
   clear r;go_wp2_with fail;go_ret;exact⟨iY u.out.symm,l⟩
def Sl(k:Nat):Prop:=k=0\/k=1\/k=4\/k=5
def EC:Nat->Nat
 |0=>3
 |1=>138
 |4=>81
 |_=>3
def V7:Nat->Nat
 |0=>1
 |1=>3
 |4=>2
 |_=>1
def uw(P:List (Nat×Nat))(m:Pk.Mk):Nat->Nat
 |0=>m.aB.length
 |1=>m.ak.length
 |4=>P.length
 |_=>m.aH.length
def CU(P:List (Nat×Nat))(m:Pk.Mk):Nat->List Value
 |0=>m.aB.map fG
 |1=>m.ak.flatMap bY
 |4=>P.flatMap eX
 |_=>m.aH.map fG
def OD(vs:Nat->Value)(k:Nat)(x:Value):Nat->Value:=fun j=>if j=k then x else vs j
def GK(vT vN:Value)(vs:Nat->Value):Array Value:=#[vs 0,vs 1,vT,vN,vs 4,vs 5]
structure cZ(W0:World)(B pb:Nat)(vT vN:Value)(vs:Nat->Value)(W:World)(P:List (Nat×Nat))(m:Pk.Mk):Prop where
 blk:aj W pb (GK vT vN vs) 79
 row:∀k,Sl k->W.ownsRow B (EC k) (V7 k) (vs k) (uw P m k) (CU P m k)
 ne:∀k l g,Sl k->Sl l->k≠l->(vs k).ownBlock=some g->(vs l).ownBlock≠some g
 b:Below B W0 W
 lb:B<=pb
section
variable{W0 W W':World}{B pb k:Nat}{vT vN x:Value}{vs:Nat -> Value}{P P':List (Nat×Nat)}{m m':Pk.Mk}
theorem adk(k:Nat):EC k≠79/\EC k≠205:=by
 unfold EC
 split <;> decide
theorem cZ.kp(h:cZ W0 B pb vT vN vs W P m):Kd W pb 79:=⟨_,h.blk⟩
theorem cZ.kr(h:cZ W0 B pb vT vN vs W P m)(b:Sl k){g:Nat}(a:(vs k).ownBlock=some g):Kd W g (EC k):=gQ (h.row k b) a
theorem cZ.size(h:cZ W0 B pb vT vN vs W P m):B<=W.heap.size:=de h.lb (mi h.kp.lt)
theorem cZ.CV(h:cZ W0 B pb vT vN vs W P m)(a:Sl k):(vs k).ownBlock≠some pb:=fun e=>(h.kr a e).ne h.kp (adk k).1 rfl
theorem cZ.move(h:cZ W0 B pb vT vN vs W P m)(a:Below W.heap.size W W'):cZ W0 B pb vT vN vs W' P m where
 blk:=(a.block pb h.kp.lt).trans h.blk
 row k hk:=aD (h.row k hk) fun g c=>a.block g (h.kr hk c).lt
 ne:=h.ne
 b:=h.b.trans (a.mono h.size)
 lb:=h.lb
theorem cZ.upd(h:cZ W0 B pb vT vN vs W P m)(o:Sl k)(d:W.grownBy W' (vs k).ownBlock)(D:W'.ownsRow B (EC k) (V7 k) x (uw P' m' k) (CU P' m' k))(q:x.ownBlock=(vs k).ownBlock\/∃g,x.ownBlock=some g/\W.heap.size<=g)(A:∀l,Sl l->l≠k->uw P' m' l=uw P m l/\CU P' m' l=CU P m l):cZ W0 B pb vT vN (OD vs k x) (W'.setCell ⟨pb,k,none⟩ x) P' m':=by
 have u:aj W' pb (GK vT vN vs) 79:=(d.block pb h.kp.lt fun e=>h.CV o e.symm).trans h.blk;have t:∀g,x.ownBlock=some g->g≠pb:=fun g e=>by
  rcases q with q|⟨E,f,a⟩
  ·rintro rfl
   exact h.CV o (q▸e)
  ·rw[e]at f
   cases f;have:=h.kp.lt;omega
 have s:∀l g,Sl l->l≠k->(vs l).ownBlock=some g->x.ownBlock≠some g:=fun l g a y e c=>by
  rcases q with q|⟨E,f,C⟩
  ·exact h.ne l k g a o y e (q▸c)
  ·rw[c]at f
   cases f;have:=(h.kr a e).lt;omega
 refine⟨?_,fun l a=>?_,fun l v g a r n e c=>?_,⟨d.1.trans h.b.1,d.2.trans h.b.2,d.3.trans h.b.3,by simpa using de h.b.4 d.size,fun j z=>(fV _ _ (by have:=h.lb;omega)).trans ((d.block j (dd z h.size) fun e=>by have:=((h.row k o).lt j e.symm).1;omega).trans (h.b.block j z))⟩,h.lb⟩
 ·have:=u.set k x
  rcases o with rfl|rfl|rfl|rfl <;> exact this
 ·unfold OD
  by_cases e:l=k
  ·subst e
   rw[dj rfl];exact aD D fun g d=>fV _ _ (t g d)
  ·rw[dt e,(A l a e).1,(A l a e).2]
   exact aD (h.row l a) fun g i=>(fV _ _ fun(f:g=pb)=>h.CV a (by rw[<-f];exact i)).trans (d.block g (h.kr a i).lt fun f=>h.ne l k g a o e i f.symm)
 ·unfold OD at e c
  by_cases e3:l=k
  ·subst e3
   rw[dj rfl]at e;rw[dt fun p=>n p.symm]at c;exact s v g r (fun p=>n p.symm) c e
  ·rw[dt e3]at e
   by_cases p:v=k
   ·subst p
    rw[dj rfl]at c;exact s l g a e3 e c
   ·rw[dt p]at c
    exact h.ne l v g a r n e c
theorem cZ.put(h:cZ W0 B pb vT vN vs W P m)(d:Sl k){g:Nat}(f:(vs k).ownBlock=some g)(a:W.grownBy W' (some g))(p:W'.ownsRow B (EC k) (V7 k) (vs k) (uw P' m' k) (CU P' m' k))(i:∀l,Sl l->l≠k->uw P' m' l=uw P m l/\CU P' m' l=CU P m l):cZ W0 B pb vT vN vs W' P' m' where
 blk:=(a.block pb h.kp.lt fun e=>by cases e;exact h.CV d f).trans h.blk
 row l hl:=by
  by_cases e:l=k
  ·subst e;exact p
  ·rw[(i l hl e).1,(i l hl e).2]
   exact aD (h.row l hl) fun n c=>a.block n (h.kr hl c).lt fun o=>by cases o;exact h.ne l k g hl d e c f
 ne:=h.ne
 b:=h.b.grown a h.size fun j e=>by cases e;exact((h.row k d).lt g f).1
 lb:=h.lb
theorem aaA{B':Nat}{b:Value}{row:List (Nat×Nat×Nat)}(h:cZ W0 B pb vT vN vs W P m)(a:W.ownsRow B' 205 3 b row.length (row.flatMap bY))(c:Sl k)(d:W.grownBy W' (vs k).ownBlock):W'.ownsRow B' 205 3 b row.length (row.flatMap bY) :=
 aD a fun g e=>d.block g (show Kd W g 205 from gQ a e).lt fun f=>(show Kd W g 205 from gQ a e).ne (h.kr c f.symm) (fun e=>(adk k).2 e.symm) rfl
theorem BD{B' j:Nat}{c u:Value}{row:List (Nat×Nat×Nat)}(a:W.ownsRow B' 205 3 c row.length (row.flatMap bY)){b t:Nat}(d:Kd W b t)(f:t≠205):(W.setCell ⟨b,j,none⟩ u).ownsRow B' 205 3 c row.length (row.flatMap bY) :=
 aD a fun g e=>fV _ _ ((show Kd W g 205 from gQ a e).ne d fun e=>f e.symm)
end
theorem YN:∀(l:List (Nat×Nat×Nat))(k:Nat)(x:Nat×Nat×Nat),(((l.flatMap bY).set (k*3) (.int .i64 (x.1:Int))).set (k*3+1) (.int .i64 (x.2.1:Int))).set (k*3+2) (.int .i64 (x.2.2:Int))=(l.set k x).flatMap bY
 | [],k,x=>rfl
 |y::l,0,x=>rfl
 |y::l,k+1,x=>by
  rw[oi,eh,eh,<-YN l k x,show (k+1)*3=k*3+1+1+1 by omega];rfl
theorem Kd.frozen{W:World}{k t:Nat}(h:Kd W k t)(i:Nat):W.frozen? ⟨k,i,none⟩=false:=by
 obtain⟨a,b⟩:=h;exact aj.frozen (cs:=a) (e:=t) b i
section
variable{W0 W W':World}{B pb k:Nat}{vT vN x:Value}{vs:Nat -> Value}{P P':List (Nat×Nat)}{m m':Pk.Mk}
theorem cZ.r9(h:cZ W0 B pb vT vN vs W P m){g k:Nat}(a:(vs 1).ownBlock=some g)(x:Nat×Nat×Nat):cZ W0 B pb vT vN vs (((W.setCell ⟨g,k*3,none⟩ (.int .i64 (x.1:Int))).setCell ⟨g,k*3+1,none⟩ (.int .i64 (x.2.1:Int))).setCell ⟨g,k*3+2,none⟩ (.int .i64 (x.2.2:Int))) P { m with ak:=m.ak.set k x }:=by
 have b:Sl 1:=.inr (.inl rfl);have c:=Jf (Jf (Jf (h.row 1 b) a (k*3) (.int .i64 (x.1:Int))) a (k*3+1) (.int .i64 (x.2.1:Int))) a (k*3+2) (.int .i64 (x.2.2:Int));refine h.put b a (aR (aR (iM ..) (iM ..)) (iM ..)) (P':=P) (m':={ m with ak:=m.ak.set k x }) ?_ ?_
 ·have e:CU P m 1=m.ak.flatMap bY:=rfl
  rw[e,YN]at c;have d:uw P { m with ak:=m.ak.set k x } 1=uw P m 1:=by show (m.ak.set k x).length=_;rw[ii];rfl
  rw[d];exact c
 ·rintro l(rfl | rfl | rfl | rfl)f
  ·exact⟨rfl,rfl⟩
  ·exact absurd rfl f
  ·exact⟨rfl,rfl⟩
  ·exact⟨rfl,rfl⟩
theorem alW(h:cZ W0 B pb vT vN vs W P m){B':Nat}{vr:Value}{row:List (Nat×Nat×Nat)}(hr:W.ownsRow B' 205 3 vr row.length (row.flatMap bY))(hp:m.ak.length<=2000000)(hb:m.aB.length<=1000000)(hx:∀x∈row,x.2.2<=1000000)(hl:row.length<=1000000):Calls prog 50 #[.pointer (some ⟨pb,0,none⟩),vr] W fun e W'=>e=.returned (.tuple #[])/\∃vs',cZ W0 B pb vT vN vs' W' P (Pk.lay m row):=by
 obtain⟨ra,M,rfl,-⟩:=aC hr;obtain⟨i3,am,Ed,Ee,ac⟩:=ft Tryz.info3';obtain⟨i8,V8,UK,UL,UM⟩:=ft Tryz.aci;have s0:Sl 0:=.inl rfl;have I:Sl 1:=.inr (.inl rfl);have HF:Hid (∀wr(b:Nat),Below W.heap.size W wr->b<=2000000->Calls prog 86 #[.pointer (some ⟨pb,0,none⟩),.int .i64 (b:Int),.slice ra row.length M] wr fun e w'=>e=.returned (.bool (Pk.fits m.ak row b))/\Below W.heap.size W w'):=fun wr b H a7=>by
  have h':=h.move H;refine(akm (show wr.cell? ⟨pb,1,none⟩=some (vs 1) from h'.blk.cell 1) (h'.row 1 I) (lZ.own (aD hr fun g hg=>H.block g (hr.lt g hg).2)) (fun x av=>by have:=hx x av;omega) (by omega)).mono ?_;rintro e w'⟨rfl,hw⟩;exact⟨rfl,H.trans (hw.mono H.size)⟩
 have HM:Hid (∀wr,Below W.heap.size W wr->cZ W0 B pb vT vN vs wr P m/\wr.ownsRow B' 205 3 (.slice ra row.length M) row.length (row.flatMap bY)):=fun wr H=>⟨h.move H,aD hr fun g hg=>H.block g (hr.lt g hg).2⟩
 have H0:Hid (0<=m.ak.length/\Below W.heap.size W W/\Pk.vw m.ak row (m.ak.length-0) 0=Pk.fit m.ak row):=⟨ff _,cV _ _,rfl⟩;clear h hr;go_enter func50,ntmps50;go_wp2_with fail
 go_loopw [4] (fun v wr=>∃b:Nat,v=.int .i64 (b:Int)/\Hid (b<=m.ak.length/\Below W.heap.size W wr/\Pk.vw m.ak row (m.ak.length-b) b=Pk.fit m.ak row)) (fun v _=>m.ak.length - (intOf v).toNat)
 case atStart=>exact⟨0,rfl,H0⟩
 case round=>
  clear H0;obtain⟨b,rfl,HI⟩:=hrel;obtain⟨a6,Y,hf⟩:=HI.out;clear HI;have q:=HF.out wr b Y (by omega);cases hfit:Pk.fits m.ak row b with
  |false=>
   have aA:b<m.ak.length:=by
    apply kj;intro hn;rw[Pk.aki _ _ (by omega)]at hfit;cases hfit
   rw[show m.ak.length-b=(m.ak.length - (b+1))+1 by omega,Pk.alT hfit]at hf;have HE:Hid (Pk.vw m.ak row (m.ak.length - (b+1)) (b+1)=Pk.fit m.ak row):=hf;rw[hfit]at q;clear hf hfit HF HM Y
   go_wp2_with (go_at_call 86;refine q.mono ?_;rintro e w2⟨rfl,Q⟩)
   exact⟨⟨b+1,by go_num,by omega,Q,HE.out⟩,by simp[intOf];omega⟩
  |true=>
   rw[Pk.akj hfit]at hf;rw[hfit]at q;have ag:Hid (b=Pk.fit m.ak row):=hf;clear hf hfit HF Y;go_upto_region 3 with (go_at_call 86;refine q.mono ?_;rintro e w2⟨rfl,Q⟩)
   obtain⟨h2,G⟩:=HM.out w2 Q;clear HM q Q;obtain⟨ba,bc,N,-⟩:∃a c,vs 0=.slice a m.aB.length c/\_:=aC (h2.row 0 s0);have o0:w2.ownsRow B 3 1 (.slice ba m.aB.length bc) m.aB.length (m.aB.map fG):=by rw[<-N];exact h2.row 0 s0
   have c0:w2.cell? ⟨pb,0,none⟩=some (.slice ba m.aB.length bc):=by rw[<-N];exact h2.blk.cell 0
   have af:(Value.slice ba m.aB.length bc).ownBlock≠some pb:=by rw[<-N];exact h2.CV s0
   have kL:=h2.blk;have hsz:=h2.size;have HV:Hid (vs 0=.slice ba m.aB.length bc):=N;have H2:Hid (cZ W0 B pb vT vN vs w2 P m/\w2.ownsRow B' 205 3 (.slice ra row.length M) row.length (row.flatMap bY)):=⟨h2,G⟩;clear h2 G N;go_upto_region 5 with (at_builtin;refine js _ rfl _ _ 22 rfl B 3 i3 _ 1 8 underlying22 am Ed Ee ac rfl (by decide) (.slice ba m.aB.length bc) _ _ rfl (o0.alloc _) ⟨_,0,none⟩ 1 1 [.int .i64 (b:Int)] rfl rfl (eO (aj.new _ _ 3)) (by simp[Value.oneCell']) (by unfold maxLen;omega) (by omega) (by simp;omega) ?_;intro v5 w5 E aX _ jc;obtain⟨mG,mH,aq,-⟩:=aC E;subst aq;have vZ:=(kL.alloc (.cells #[.int .i64 (b:Int)] 3)).grown aX (fun e=>af e.symm);have c5:w5.cell? ⟨pb,0,none⟩=some (vs 0):=vZ.cell 0;have f5:=vZ.frozen 0)
   have O:Hid (cZ W0 B pb vT vN (OD vs 0 (.slice mG (m.aB.length+1) mH)) (w5.setCell ⟨pb,0,none⟩ (.slice mG (m.aB.length+1) mH)) P { aB:=m.aB++[b],ak:=m.ak,aH:=m.aH }/\(w5.setCell ⟨pb,0,none⟩ (.slice mG (m.aB.length+1) mH)).ownsRow B' 205 3 (.slice ra row.length M) row.length (row.flatMap bY)):=by
    have ae:w2.grownBy w5 (vs 0).ownBlock:=by rw[HV.out];exact aR (bJ w2 _ _) aX
    refine⟨H2.out.1.upd (P':=P) (m':={ aB:=m.aB++[b],ak:=m.ak,aH:=m.aH }) s0 ae ?_ ?_ ?_,BD (aaA H2.out.1 H2.out.2 s0 ae) (show Kd w5 pb 79 from ⟨_,vZ⟩) (by decide)⟩
    ·show w5.ownsRow B 3 1 _ (m.aB++[b]).length ((m.aB++[b]).map fG)
     rw[cH,eJ];exact E
    ·rw[HV.out]
     exact jc.imp id fun e=>⟨_,e,by simp⟩
    ·rintro l(rfl | rfl | rfl | rfl)hl
     ·exact absurd rfl hl
     ·exact⟨rfl,rfl⟩
     ·exact⟨rfl,rfl⟩
     ·exact⟨rfl,rfl⟩
   clear H2 vZ c5 f5 E aX jc kL c0 o0 af HV;generalize w5.setCell ⟨pb,0,none⟩ (.slice mG (m.aB.length+1) mH)=w6 at O|-;have H6:Hid (∃o f,cZ W0 B pb vT vN o w6 P { aB:=m.aB++[b],ak:=f,aH:=m.aH }/\w6.ownsRow B' 205 3 (.slice ra row.length M) row.length (row.flatMap bY)/\Pk.jZ b m.aB.length (row.drop 0) f=Pk.jZ b m.aB.length row m.ak/\f.length<=4000000):=⟨_,_,O.out.1,O.out.2,rfl,by omega⟩;clear O;go_wp2_with fail
   go_loopw [34] (fun i wr=>∃j:Nat,j<=row.length/\i=.int .i64 (j:Int)/\Hid (∃o f,cZ W0 B pb vT vN o wr P { aB:=m.aB++[b],ak:=f,aH:=m.aH }/\wr.ownsRow B' 205 3 (.slice ra row.length M) row.length (row.flatMap bY)/\Pk.jZ b m.aB.length (row.drop j) f=Pk.jZ b m.aB.length row m.ak/\f.length<=4000000)) (fun i _=>row.length - (intOf i).toNat)
   case atStart=>exact⟨0,by omega,rfl,H6⟩
   case round=>
    clear H6;revert wr;intro wz hrel;obtain⟨j,hj,rfl,HI⟩:=hrel;obtain⟨o,f,h1,S,K,ah⟩:=HI.out;clear HI
    by_cases hjn:j<row.length
    ·have j1:(j:Int)<(row.length:Int):=by omega
     obtain⟨x,hxj⟩:∃x,row[j]?=some x:=⟨_,cF hjn⟩;obtain⟨_,_,e,A⟩:=lZ.own S;cases e;obtain⟨g,rfl,c1,c2,c3⟩:=A j x hxj;have ao:=hx x (cJ hxj);have hd:row.drop j=x::row.drop (j+1):=by
      obtain⟨hh,e⟩:=cG.1 hxj;rw[eR hh,e]
     rw[hd]at K;obtain⟨p,r,d⟩:=x;simp only at c1 c2 c3 ao;have xQ:Hid (Pk.jZ b m.aB.length (row.drop (j+1)) (Pk.r9 f (b+d) (p,r,m.aB.length))=Pk.jZ b m.aB.length row m.ak):=K;obtain⟨t,aY⟩:∃V,V=wz.alloc (.cells #[.int .i64 (p:Int),.int .i64 (r:Int),.int .i64 (d:Int)] 205):=⟨_,rfl⟩;obtain⟨R,ab⟩:∃b,wz.heap.size=b:=⟨_,rfl⟩;have T:aj t R #[.int .i64 (p:Int),.int .i64 (r:Int),.int .i64 (d:Int)] 205:=by rw[aY,<-ab];exact aj.new ..
     have Z:Below wz.heap.size wz t:=by rw[aY];exact(cV _ _).alloc (zL0) _
     have h2:=h1.move Z;have G:t.ownsRow B' 205 3 (.slice (some ⟨g,0,none⟩) row.length M) row.length (row.flatMap bY):=aD S fun g hg=>Z.block g (S.lt g hg).2
     have x3:t.cell? ⟨R,2,none⟩=some (.int .i64 (d:Int)):=T.cell 2;obtain⟨pa,pc,F,-⟩:∃a c,o 1=.slice a f.length c/\_:=aC (h2.row 1 I);have cp:t.cell? ⟨pb,1,none⟩=some (.slice pa f.length pc):=by rw[<-F];exact h2.blk.cell 1
     have HB:Hid (b<=2000000):=by show b<=_;omega
     have a9:IntKind.i64.wrap ((b:Int)+(d:Int))=(b:Int)+(d:Int):=by rw[iz];omega
     clear h1 S K hd Z A hx ag;have a0:=HB.out
     by_cases hs:f.length<b+d+1
     ·obtain⟨sh,ad⟩:∃s,b+d+1-f.length=s:=⟨_,rfl⟩
      have e9:(b:Int)+(d:Int)+1 - (f.length:Int)=(sh:Int):=by omega
      have b9:decide ((0:Int)<(sh:Int))=true:=fi (by omega);have o1:t.ownsRow B 138 3 (.slice pa f.length pc) f.length (f.flatMap bY):=by rw[<-F];exact h2.row 1 I
      obtain⟨vq,U,El,sG,lX,Ch⟩:=XW (P:=prog) t B 74 3 74 138 i8 _ 3 24 .i64 .i64 Tryz.Ua Tryz.aeK V8 UK UL UM rfl (by decide) (.slice pa f.length pc) f.length (f.flatMap bY) o1 sh (by rw[M8];exact ade _) (by unfold maxLen;omega) (by omega) h2.size;rw[M8,<-gw,show f.length+sh=(f++List.replicate sh ((0,0,0):Nat×Nat×Nat)).length by simp]at sG;obtain⟨C,ze⟩:∃l2,f++List.replicate sh ((0,0,0):Nat×Nat×Nat)=l2:=⟨_,rfl⟩;have qb:Hid (C.set (b+d) (p,r,m.aB.length)=Pk.r9 f (b+d) (p,r,m.aB.length)):=by
       show _=_;rw[Pk.r9,ad,ze]
      have ax:C.length=b+d+1:=by rw[<-ze,cH,ik];omega
      rw[ze]at sG;have aa:b+d<C.length:=by omega
      have ai:C.length<=4000000:=by omega
      obtain⟨qa,L,rfl,-⟩:=aC sG;have J3:t.grownBy U (o 1).ownBlock:=by rw[F];exact lX
      have CQ:aj U pb (GK vT vN o) 79:=(J3.block pb h2.kp.lt fun e=>h2.CV I e.symm).trans h2.blk;have c7:U.cell? ⟨pb,1,none⟩=some (.slice pa f.length pc):=by rw[<-F];exact CQ.cell 1
      have f7:=CQ.frozen 1;have H8:Hid (∃J,cZ W0 B pb vT vN J (U.setCell ⟨pb,1,none⟩ (.slice qa C.length L)) P { aB:=m.aB++[b],ak:=C,aH:=m.aH }/\(U.setCell ⟨pb,1,none⟩ (.slice qa C.length L)).ownsRow B' 205 3 (.slice (some ⟨g,0,none⟩) row.length M) row.length (row.flatMap bY)/\aj (U.setCell ⟨pb,1,none⟩ (.slice qa C.length L)) R #[.int .i64 (p:Int),.int .i64 (r:Int),.int .i64 (d:Int)] 205):=by
       refine⟨_,h2.upd (P':=P) (m':={ aB:=m.aB++[b],ak:=C,aH:=m.aH }) I J3 sG (by rw[F];exact Ch.imp id fun e=>⟨_,e,zL0⟩) ?_,BD (aaA h2 G I J3) (show Kd U pb 79 from ⟨_,CQ⟩) (by decide),?_⟩
       ·rintro l(rfl | rfl | rfl | rfl)hl
        ·exact⟨rfl,rfl⟩
        ·exact absurd rfl hl
        ·exact⟨rfl,rfl⟩
        ·exact⟨rfl,rfl⟩
       ·have kx:Kd t R 205:=⟨_,T⟩
        exact(fV _ _ (kx.ne h2.kp (by decide))).trans ((J3.block R T.lt fun e=>kx.ne (h2.kr I e.symm) (by decide) rfl).trans T)
      clear h2 G T lX J3 sG Ch CQ o1 ax ze ad;go_upto_region 8 with fail
      rw[<-aY];clear aY ab;go_upto_region 12 with (at_builtin;refine Lib.wpList_append_run _ rfl _ _ _ _ rfl _ _ rfl rfl _ _ El ?_)
      obtain⟨J,X,r8,k8⟩:=H8.out;clear H8;generalize U.setCell ⟨pb,1,none⟩ (.slice qa C.length L)=w8 at X r8 k8|-;clear El c7 f7 cp x3 F;have az:True:=trivial
      ·
       have o8:=X.row 1 I;obtain⟨n,L,z,uy,y,ar,aw,an⟩:∃n L z,J 1=.slice (some ⟨n,0,none⟩) C.length L/\(J 1).ownBlock=some n/\EB w8 n ((b+d)*3) z:=by
        obtain⟨z,hz⟩:∃z,C[b+d]?=some z:=⟨_,cF aa⟩;obtain⟨f1,f2,f3⟩:=Jh _ _ _ hz;obtain⟨g,cp,e,A⟩:=pQ o8 f1;exact⟨g,cp,z,e,by rw[e];rfl,A _ _ f1,A _ _ f2,A _ _ f3⟩
       have c8:w8.cell? ⟨pb,1,none⟩=some (.slice (some ⟨n,0,none⟩) C.length L):=by rw[<-uy];exact X.blk.cell 1
       have f8:=(X.kr I y).frozen;have x1:w8.cell? ⟨R,0,none⟩=some (.int .i64 (p:Int)):=k8.cell 0;have x2:w8.cell? ⟨R,1,none⟩=some (.int .i64 (r:Int)):=k8.cell 1;have O:Hid (∃o f,cZ W0 B pb vT vN o (((w8.setCell ⟨n,(b+d)*3,none⟩ (.int .i64 (p:Int))).setCell ⟨n,(b+d)*3+1,none⟩ (.int .i64 (r:Int))).setCell ⟨n,(b+d)*3+2,none⟩ (.int .i64 (m.aB.length:Int))) P { aB:=m.aB++[b],ak:=f,aH:=m.aH }/\(((w8.setCell ⟨n,(b+d)*3,none⟩ (.int .i64 (p:Int))).setCell ⟨n,(b+d)*3+1,none⟩ (.int .i64 (r:Int))).setCell ⟨n,(b+d)*3+2,none⟩ (.int .i64 (m.aB.length:Int))).ownsRow B' 205 3 (.slice (some ⟨g,0,none⟩) row.length M) row.length (row.flatMap bY)/\Pk.jZ b m.aB.length (row.drop (j+1)) f=Pk.jZ b m.aB.length row m.ak/\f.length<=4000000):=by
        have kq:=X.kr I y;refine⟨J,_,X.r9 y (k:=b+d) (p,r,m.aB.length),?_,?_,?_⟩
        ·have t1:=BD (j:=(b+d)*3) (u:=.int .i64 (p:Int)) r8 kq (by decide)
         have k1:Kd (w8.setCell ⟨n,(b+d)*3,none⟩ (.int .i64 (p:Int))) n 138:=by obtain⟨D,A⟩:=kq;exact⟨_,aj.set (cs:=D) A _ _⟩
         have t2:=BD (j:=(b+d)*3+1) (u:=.int .i64 (r:Int)) t1 k1 (by decide);have k2:Kd ((w8.setCell ⟨n,(b+d)*3,none⟩ (.int .i64 (p:Int))).setCell ⟨n,(b+d)*3+1,none⟩ (.int .i64 (r:Int))) n 138:=by obtain⟨D,A⟩:=k1;exact⟨_,aj.set (cs:=D) A _ _⟩
         exact BD t2 k2 (by decide)
        ·show Pk.jZ b m.aB.length (row.drop (j+1)) (C.set (b+d) (p,r,m.aB.length))=_
         rw[<-xQ.out,<-qb.out]
        ·show (C.set (b+d) (p,r,m.aB.length)).length<=_
         rw[ii];exact ai
       have ED:Hid (∃o f,cZ W0 B pb vT vN o (((w8.setCell ⟨n,(b+d)*3,none⟩ (.int .i64 (p:Int))).setCell ⟨n,(b+d)*3+1,none⟩ (.int .i64 (r:Int))).setCell ⟨n,(b+d)*3+2,none⟩ (.int .i64 (m.aB.length:Int))).drew P { aB:=m.aB++[b],ak:=f,aH:=m.aH }/\(((w8.setCell ⟨n,(b+d)*3,none⟩ (.int .i64 (p:Int))).setCell ⟨n,(b+d)*3+1,none⟩ (.int .i64 (r:Int))).setCell ⟨n,(b+d)*3+2,none⟩ (.int .i64 (m.aB.length:Int))).drew.ownsRow B' 205 3 (.slice (some ⟨g,0,none⟩) row.length M) row.length (row.flatMap bY)/\Pk.jZ b m.aB.length (row.drop (j+1)) f=Pk.jZ b m.aB.length row m.ak/\f.length<=4000000):=by
        obtain⟨v1,p1,a1,a2,a3,a4⟩:=O.out;exact⟨v1,p1,a1.move ⟨rfl,rfl,rfl,zL0,fun _ _=>rfl⟩,aD a2 fun _ _=>rfl,a3,a4⟩
       clear O;have k0:(0:Int)<=(b:Int)+(d:Int):=by omega
       have k1:(b:Int)+(d:Int)<(C.length:Int):=by omega
       have k2:((b:Int)+(d:Int)).toNat=b+d:=by omega
       clear X r8 k8 o8 uy y xQ qb
       go_region
       go_wp2_with fail;exact⟨⟨j+1,by omega,by go_num,ED⟩,by simp[intOf];omega⟩
     ·have b9:decide ((0:Int)<(b:Int)+(d:Int)+1 - (f.length:Int))=false:=eE (by omega)
      have qb:Hid (f.set (b+d) (p,r,m.aB.length)=Pk.r9 f (b+d) (p,r,m.aB.length)):=by
       show _=_;rw[Pk.r9,show b+d+1-f.length=0 by omega,sX,eV]
      have aa:b+d<f.length:=by omega
      go_upto_region 8 with fail
      rw[<-aY];clear aY ab;go_upto_region 12 with fail
      clear cp x3 F;obtain⟨J,al⟩:∃v,o=v:=⟨_,rfl⟩;obtain⟨C,ap⟩:∃v,f=v:=⟨_,rfl⟩;subst al ap
      ·
       have o2:=h2.row 1 I;obtain⟨n,L,z,uy,y,ar,aw,an⟩:∃n L z,o 1=.slice (some ⟨n,0,none⟩) f.length L/\(o 1).ownBlock=some n/\EB t n ((b+d)*3) z:=by
        obtain⟨z,hz⟩:∃z,f[b+d]?=some z:=⟨_,cF aa⟩;obtain⟨f1,f2,f3⟩:=Jh _ _ _ hz;obtain⟨g,cp,e,A⟩:=pQ o2 f1;exact⟨g,cp,z,e,by rw[e];rfl,A _ _ f1,A _ _ f2,A _ _ f3⟩
       have a5:t.cell? ⟨pb,1,none⟩=some (.slice (some ⟨n,0,none⟩) f.length L):=by rw[<-uy];exact h2.blk.cell 1
       have a8:=(h2.kr I y).frozen;have x1:t.cell? ⟨R,0,none⟩=some (.int .i64 (p:Int)):=T.cell 0;have x2:t.cell? ⟨R,1,none⟩=some (.int .i64 (r:Int)):=T.cell 1;have O:Hid (∃o f,cZ W0 B pb vT vN o (((t.setCell ⟨n,(b+d)*3,none⟩ (.int .i64 (p:Int))).setCell ⟨n,(b+d)*3+1,none⟩ (.int .i64 (r:Int))).setCell ⟨n,(b+d)*3+2,none⟩ (.int .i64 (m.aB.length:Int))) P { aB:=m.aB++[b],ak:=f,aH:=m.aH }/\(((t.setCell ⟨n,(b+d)*3,none⟩ (.int .i64 (p:Int))).setCell ⟨n,(b+d)*3+1,none⟩ (.int .i64 (r:Int))).setCell ⟨n,(b+d)*3+2,none⟩ (.int .i64 (m.aB.length:Int))).ownsRow B' 205 3 (.slice (some ⟨g,0,none⟩) row.length M) row.length (row.flatMap bY)/\Pk.jZ b m.aB.length (row.drop (j+1)) f=Pk.jZ b m.aB.length row m.ak/\f.length<=4000000):=by
        have kq:=h2.kr I y;refine⟨o,_,h2.r9 y (k:=b+d) (p,r,m.aB.length),?_,?_,?_⟩
        ·have t1:=BD (j:=(b+d)*3) (u:=.int .i64 (p:Int)) G kq (by decide)
         have k1:Kd (t.setCell ⟨n,(b+d)*3,none⟩ (.int .i64 (p:Int))) n 138:=by obtain⟨D,A⟩:=kq;exact⟨_,aj.set (cs:=D) A _ _⟩
         have t2:=BD (j:=(b+d)*3+1) (u:=.int .i64 (r:Int)) t1 k1 (by decide);have k2:Kd ((t.setCell ⟨n,(b+d)*3,none⟩ (.int .i64 (p:Int))).setCell ⟨n,(b+d)*3+1,none⟩ (.int .i64 (r:Int))) n 138:=by obtain⟨D,A⟩:=k1;exact⟨_,aj.set (cs:=D) A _ _⟩
         exact BD t2 k2 (by decide)
        ·show Pk.jZ b m.aB.length (row.drop (j+1)) (f.set (b+d) (p,r,m.aB.length))=_
         rw[<-xQ.out,<-qb.out]
        ·show (f.set (b+d) (p,r,m.aB.length)).length<=_
         rw[ii];exact ah
       have ED:Hid (∃o f,cZ W0 B pb vT vN o (((t.setCell ⟨n,(b+d)*3,none⟩ (.int .i64 (p:Int))).setCell ⟨n,(b+d)*3+1,none⟩ (.int .i64 (r:Int))).setCell ⟨n,(b+d)*3+2,none⟩ (.int .i64 (m.aB.length:Int))).drew P { aB:=m.aB++[b],ak:=f,aH:=m.aH }/\(((t.setCell ⟨n,(b+d)*3,none⟩ (.int .i64 (p:Int))).setCell ⟨n,(b+d)*3+1,none⟩ (.int .i64 (r:Int))).setCell ⟨n,(b+d)*3+2,none⟩ (.int .i64 (m.aB.length:Int))).drew.ownsRow B' 205 3 (.slice (some ⟨g,0,none⟩) row.length M) row.length (row.flatMap bY)/\Pk.jZ b m.aB.length (row.drop (j+1)) f=Pk.jZ b m.aB.length row m.ak/\f.length<=4000000):=by
        obtain⟨v1,p1,a1,a2,a3,a4⟩:=O.out;exact⟨v1,p1,a1.move ⟨rfl,rfl,rfl,zL0,fun _ _=>rfl⟩,aD a2 fun _ _=>rfl,a3,a4⟩
       clear O;have k0:(0:Int)<=(b:Int)+(d:Int):=by omega
       have k1:(b:Int)+(d:Int)<(f.length:Int):=by omega
       have k2:((b:Int)+(d:Int)).toNat=b+d:=by omega
       clear h2 G T o2 uy y xQ qb
       go_region
       go_wp2_with fail;exact⟨⟨j+1,by omega,by go_num,ED⟩,by simp[intOf];omega⟩
    ·obtain rfl:j=row.length:=by omega
     rw[io,Pk.jZ]at K;have HE:Hid (cZ W0 B pb vT vN o wz P (Pk.lay m row)):=by
      show cZ _ _ _ _ _ _ _ _ _;unfold Pk.lay;rw[<-ag.out,<-K];exact h1
     clear h1 K;go_wp2_with fail
     go_end0
     exact⟨rfl,o,HE.out⟩
end
theorem cell_below{w w':World}(h:Below w.heap.size w w'){a:Addr}{v:Value}(b:w.cell? a=some v):w'.cell? a=some v:=(cM (w:=w) (h.block a.block (oR w a b))).trans b
theorem PP.at{D:Nat->Prop}{w:World}{v:Value}{P:List Lx.Pd}(h:PP D w v P){j:Nat}(c:j<P.length):∃g cap u,v=.slice (some ⟨g,0,none⟩) P.length cap/\IR 0 w u P[j].right/\w.cell? ⟨g,j*3,none⟩=some (.int .i64 (P[j].left:Int))/\w.cell? ⟨g,j*3+1,none⟩=some u/\w.cell? ⟨g,j*3+2,none⟩=some (.int .i64 P[j].prec):=by
 obtain⟨f,h1,h2,h3,-⟩:=h;have i:Tr.Seq (fun _=>True) w 120 3 uj (fun u q=>IR 0 w u q.right) v P:=⟨f,h1,h2,fun _ _=>trivial,fun q d=>(h3 q d).1⟩;obtain⟨g,cap,u,k,-,b,a⟩:=Seq.at i (fun _=>rfl) c;exact⟨g,cap,u,k,b,a 0 (by decide),a 1 (by decide),a 2 (by decide)⟩
theorem PP.below{D:Nat->Prop}{w w':World}{v:Value}{P:List Lx.Pd}(h:PP D w v P)(a:Below w.heap.size w w'):PP D w' v P:=by
 obtain⟨c,h1,h2,h3,h4⟩:=h;exact⟨c,h1,own_below h2 a,fun q b=>⟨own_below (h3 q b).1 a,(h3 q b).2⟩,h4⟩
def prQ(w:World)(g o:Nat)(p:Lx.Pd):Prop:=w.cell? ⟨g,o,none⟩=some (.int .i64 (p.left:Int))/\∃ra rc,w.cell? ⟨g,o+1,none⟩=some (.slice ra p.right.length rc)/\w.cell? ⟨g,o+2,none⟩=some (.int .i64 p.prec)
abbrev zD(w:World):=tX 3 (prQ w)
theorem zD.keep{w w':World}{v:Value}{l:List Lx.Pd}(h:zD w v l)(a:Below w.heap.size w w'):zD w' v l:=h.mono fun _ _ _⟨h1,b,c,h2,h3⟩=>⟨aM a h1,b,c,aM a h2,aM a h3⟩
theorem zD.of{D:Nat->Prop}{w:World}{v:Value}{P:List Lx.Pd}(h:PP D w v P):zD w v P:=by
 obtain⟨a,c,rfl,-⟩:=aC h.choose_spec.2.1;refine⟨a,c,rfl,fun i x n=>?_⟩;obtain⟨b,rfl⟩:=cG.1 n;obtain⟨g,p,u,j,l,k,d,o⟩:=PP.at h b;cases j;obtain⟨m,f,rfl,-⟩:=aC l;exact⟨g,rfl,k,m,f,d,o⟩
abbrev EF(w:World):=tX 1 (rQ w 2 (CR w))
abbrev yw(w:World):=tX 1 (rQ w 1 (iQ w))
theorem EF.keep{w w':World}{v:Value}{l:List (List (Nat×Nat))}(h:EF w v l)(a:Below w.heap.size w w'):EF w' v l:=h.mono fun _ _ _=>rQ.keep a fun _ _ _=>CR.keep a
theorem yw.keep{w w':World}{v:Value}{l:List (List Nat)}(h:yw w v l)(a:Below w.heap.size w w'):yw w' v l:=h.mono fun _ _ _=>rQ.keep a fun _ _ _=>iQ.keep a
namespace Pk
theorem aco{row:List (Nat×Nat)}{u:Nat}:∀{j:Nat}{x:Nat×Nat×Nat},x∈jS row u j->x.2.2<j
 |0,x,h=>by cases h
 |j+1,x,h=>by
  rw[jS,cY]at h;rcases h with h|h
  ·have:=aco h
   omega
  ·split at h
   ·split at h
    ·rw[cN]at h
     rw[h];show j<j+1;omega
    ·cases h
   ·cases h
theorem acp{a:List Nat}{o:Nat}:∀{j:Nat}{x:Nat×Nat×Nat},x∈lq a o j->x.2.2<o+j
 |0,x,h=>by cases h
 |j+1,x,h=>by
  rw[lq,cY]at h;rcases h with h|h
  ·have:=acp h
   omega
  ·split at h
   ·split at h
    ·rw[cN]at h
     rw[h];show o+j<o+(j+1);omega
    ·cases h
   ·cases h
theorem abq{row:List (Nat×Nat)}{a:List Nat}{u:Nat}{x:Nat×Nat×Nat}(h:x∈told row a u):x.2.2<row.length+a.length:=by
 rw[told,cY]at h;rcases h with h|h
 ·have:=aco h
  omega
 ·exact acp h
theorem akn(row:List (Nat×Nat))(a:List Nat)(u:Nat):(told row a u).length<=row.length+a.length:=by
 have h1:=Nz row u row.length;have h2:=SQ a row.length a.length;rw[told,cH];omega
theorem Tz(nP:Nat)(cs:List (List (Nat×Nat)))(gs:List (List Nat)):∀k,(mk nP cs gs k).aB.length=k
 |0=>rfl
 |k+1=>by
  show ((mk nP cs gs k).aB++[_]).length=k+1;rw[cH,Tz nP cs gs k];rfl
theorem DN(nP:Nat)(cs:List (List (Nat×Nat)))(gs:List (List Nat)):∀k,(mk nP cs gs k).aH.length=k
 |0=>rfl
 |k+1=>by
  show ((mk nP cs gs k).aH++[_]).length=k+1;rw[cH,DN nP cs gs k];rfl
def dP(P:List Lx.Pd):List (Nat×Nat):=P.map fun p=>(p.left,p.right.length)
end Pk
def NpE(w:World)(vT vN:Value)(P:List Lx.Pd)(cs:List (List (Nat×Nat)))(gs:List (List Nat))(e:Ending)(w':World):Prop:=∃w1 pb vs,e=.returned (.pointer (some ⟨pb,0,none⟩))/\Below w.heap.size w w1/\w.heap.size<=w1.heap.size/\cZ w1 w1.heap.size pb vT vN vs w' (Pk.dP P) (Pk.mk P.length cs gs cs.length)
theorem agU{w:World}{ta na:Option Addr}{nT tc nN nc:Nat}{vP vB vK vc vg:Value}{P:List Lx.Pd}{cs:List (List (Nat×Nat))}{gs:List (List Nat)}(hP:zD w vP P)(hc:EF w vc cs)(hg:yw w vg gs)(hl:cs.length=gs.length)(h0:0<P.length)(hp:P.length<=100000)(T:∀r∈cs,r.length<=100000/\∀x∈r,x.1=2->x.2<P.length)(Y:∀r∈gs,r.length<=100000)(L:∀k,k<=cs.length->(Pk.mk P.length cs gs k).ak.length<=2000000)(aE:cs.length<=1000000):Calls prog 23 #[.agg #[.slice ta nT tc,.slice na nN nc,vP,vB,vK],vc,vg] w (NpE w (.slice ta nT tc) (.slice na nN nc) P cs gs):=by
 obtain⟨i3,a1,Ed,Ee,aa⟩:=ft Tryz.info3';obtain⟨i8,V8,UK,UL,UM⟩:=ft Tryz.adf;have s4:Sl 4:=.inr (.inr (.inl rfl));have s5:Sl 5:=.inr (.inr (.inr rfl));obtain⟨w1,E⟩:∃V,V=w.alloc (.cells #[.slice ta nT tc,.slice na nN nc,vP,vB,vK] 56):=⟨_,rfl⟩;have C:Below w.heap.size w w1:=by rw[E];exact(cV _ _).alloc (zL0) _
 obtain⟨b0,ah⟩:∃b,w.heap.size=b:=⟨_,rfl⟩;have GL:aj w1 b0 #[.slice ta nT tc,.slice na nN nc,vP,vB,vK] 56:=by rw[E,<-ah];exact aj.new ..
 have a8:=hP.keep C;have a5:=hc.keep C;have a3:=hg.keep C;clear hP hc hg;obtain⟨pa,pc,rfl,ar⟩:=a8;obtain⟨ca,cc,rfl,an⟩:=a5;obtain⟨ga,gc,rfl,ad⟩:=a3;obtain⟨w2,F⟩:∃V,V=w1.alloc (.cells #[.slice none 0 0,.slice none 0 0,.slice ta nT tc,.slice na nN nc,.slice none 0 0,.slice none 0 0] 79):=⟨_,rfl⟩;obtain⟨B,K⟩:∃B,w1.heap.size=B:=⟨_,rfl⟩;have k2:aj w2 B #[.slice none 0 0,.slice none 0 0,.slice ta nT tc,.slice na nN nc,.slice none 0 0,.slice none 0 0] 79:=by rw[F,<-K];exact aj.new ..
 have I:cZ w1 B B (.slice ta nT tc) (.slice na nN nc) (fun _=>.slice none 0 0) w2 [] ⟨[],[],[]⟩ :=
  ⟨k2,fun k Z=>by rcases Z with rfl | rfl | rfl | rfl <;> exact eQ _ _ _ _,fun _ _ _ _ _ _ e=>(by cases e),by rw[F,<-K];exact(cV _ _).alloc (zL0) _,zL0⟩
 have H0:Hid (∃d,cZ w1 B B (.slice ta nT tc) (.slice na nN nc) d w2 (Pk.dP (P.take 0)) ⟨[],[],[]⟩):=⟨_,I⟩;have HK:Hid (∀d wr Q m,cZ w1 B B (.slice ta nT tc) (.slice na nN nc) d wr Q m->wr.cell? ⟨b0,2,none⟩=some (.slice pa P.length pc)/\b0<wr.heap.size):=fun d wr Q m h=>by
  have:aj wr b0 _ 56:=(h.b.block b0 (by rw[<-K];exact GL.lt)).trans GL;exact⟨this.cell 2,this.lt⟩
 have HP:Hid (∀wr,Below B w1 wr->∀(j:Nat)p,P[j]?=some p->∃g,pa=some ⟨g,0,none⟩/\prQ wr g (j*3) p):=fun wr q j p hp=>by
  rw[<-K]at q;obtain⟨g,e,h1,ra,rc,h2,h3⟩:=ar j p hp;exact⟨g,e,aM q h1,ra,rc,aM q h2,aM q h3⟩
 have HC:Hid (∀wr,Below B w1 wr->∀(j:Nat)r,cs[j]?=some r->∃g v,ca=some ⟨g,0,none⟩/\wr.cell? ⟨g,j,none⟩=some v/\vY wr v r):=fun wr q j r T=>by
  rw[<-K]at q;obtain⟨g,e,h⟩:=an j r T;obtain⟨v,h1,h2⟩:=rQ.keep q (fun _ _ _=>CR.keep q) h;rw[j9]at h1;exact⟨g,v,e,h1,h2⟩
 have HG:Hid (∀wr,Below B w1 wr->∀(j:Nat)r,gs[j]?=some r->∃g v,ga=some ⟨g,0,none⟩/\wr.cell? ⟨g,j,none⟩=some v/\bQ wr v r):=fun wr q j r T=>by
  rw[<-K]at q;obtain⟨g,e,h⟩:=ad j r T;obtain⟨v,h1,h2⟩:=rQ.keep q (fun _ _ _=>iQ.keep q) h;rw[j9]at h1;exact⟨g,v,e,h1,h2⟩
 have S:Hid (Below w.heap.size w w1):=C;have V9:Hid (w1.heap.size=B):=K;have am:=GL.cell 0;have ae:=GL.cell 1;have aq:=GL.cell 2;simp only[List.getElem?_toArray,List.getElem?_cons_zero,List.getElem?_cons_succ]at am ae aq;have l2:b0<w2.heap.size:=(HK.out _ _ _ _ I).2;have M:=(HK.out _ _ _ _ I).1;have HL:Hid (cs.length=gs.length):=hl;clear ar an ad C I k2 hl;go_enter func23,ntmps23;go_upto_region 1 with fail
 rw[<-E];clear E ah;go_upto_region 2 with fail
 rw[<-F];clear F GL K;go_wp2_with fail
 go_loopw [22] (fun i wr=>∃j:Nat,j<=P.length/\i=.int .i64 (j:Int)/\Hid (∃d,cZ w1 B B (.slice ta nT tc) (.slice na nN nc) d wr (Pk.dP (P.take j)) ⟨[],[],[]⟩)) (fun i _=>P.length - (intOf i).toNat)
 case atStart=>exact⟨0,by omega,rfl,H0⟩
 case round=>
  clear H0 am ae aq M l2;obtain⟨j,hj,rfl,HI⟩:=hrel;obtain⟨d,h1⟩:=HI.out;clear HI
  by_cases hjn:j<P.length
  ·have j1:(j:Int)<(P.length:Int):=by omega
   obtain⟨p,K6⟩:∃p,P[j]?=some p:=⟨_,cF hjn⟩;obtain⟨g,rfl,c1,ra,rc,c2,c3⟩:=HP.out wr h1.b j p K6;have hQ:Pk.dP (P.take (j+1))=Pk.dP (P.take j)++[(p.left,p.right.length)]:=by
    unfold Pk.dP;rw[pi,K6,eJ];rfl
   have PI:(Pk.dP (P.take j)).length=j:=by
    unfold Pk.dP;rw[dk,j'];omega
   obtain⟨f,aY⟩:∃V,V=wr.alloc (.cells #[.int .i64 (p.left:Int),.slice ra p.right.length rc,.int .i64 p.prec] 120):=⟨_,rfl⟩;obtain⟨bx,ap⟩:∃b,wr.heap.size=b:=⟨_,rfl⟩;have kX:aj f bx #[.int .i64 (p.left:Int),.slice ra p.right.length rc,.int .i64 p.prec] 120:=by rw[aY,<-ap];exact aj.new ..
   have h2:cZ w1 B B (.slice ta nT tc) (.slice na nN nc) d f (Pk.dP (P.take j)) ⟨[],[],[]⟩:=h1.move (by rw[aY];exact(cV _ _).alloc (zL0) _);obtain⟨X,O,z,-⟩:∃a c,d 4=.slice a j c/\_:=by have:=aC (h2.row 4 s4);rw[show uw (Pk.dP (P.take j)) ⟨[],[],[]⟩ 4=j from PI]at this;exact this
   have o4:f.ownsRow B 81 2 (.slice X j O) j ((Pk.dP (P.take j)).flatMap eX):=by
    have:=h2.row 4 s4;rw[show uw (Pk.dP (P.take j)) ⟨[],[],[]⟩ 4=j from PI,z]at this;exact this
   have c4:f.cell? ⟨B,4,none⟩=some (.slice X j O):=by rw[<-z];exact h2.blk.cell 4
   have x1:f.cell? ⟨bx,0,none⟩=some (.int .i64 (p.left:Int)):=kX.cell 0;have x2:f.cell? ⟨bx,1,none⟩=some (.slice ra p.right.length rc):=kX.cell 1;have lp:=h2.kp.lt;have lx:=kX.lt;have d4:∀o,(f.alloc o).cell? ⟨B,4,none⟩=some (.slice X j O):=fun o=>(cM (w:=f) (dg _ _ _ lp)).trans c4
   have d1:∀o,(f.alloc o).cell? ⟨bx,0,none⟩=some (.int .i64 (p.left:Int)):=fun o=>(cM (w:=f) (dg _ _ _ lx)).trans x1
   have d2:∀o,(f.alloc o).cell? ⟨bx,1,none⟩=some (.slice ra p.right.length rc):=fun o=>(cM (w:=f) (dg _ _ _ lx)).trans x2
   have o3:(f.alloc (.cells #[.int .i64 (p.left:Int),.int .i64 (p.right.length:Int)] 81)).drew.ownsRow B 81 2 (.slice X j O) j ((Pk.dP (P.take j)).flatMap eX):=aD (o4.alloc (.cells #[.int .i64 (p.left:Int),.int .i64 (p.right.length:Int)] 81)) fun _ _=>rfl
   have iK:aj (f.alloc (.cells #[.int .i64 (p.left:Int),.int .i64 (p.right.length:Int)] 81)).drew B (GK (.slice ta nT tc) (.slice na nN nc) d) 79:=(h2.blk.alloc _).drew;have aA:(Value.slice X j O).ownBlock≠some B:=by rw[<-z];exact h2.CV s4
   have J:B<=(f.alloc (.cells #[.int .i64 (p.left:Int),.int .i64 (p.right.length:Int)] 81)).drew.heap.size:=de h2.size (bJ f _ none).size;have H9:Hid (cZ w1 B B (.slice ta nT tc) (.slice na nN nc) d f (Pk.dP (P.take j)) ⟨[],[],[]⟩):=h2;have N:Hid (d 4=.slice X j O):=z;have HQ:Hid (Pk.dP (P.take (j+1))=Pk.dP (P.take j)++[(p.left,p.right.length)]/\(Pk.dP (P.take j)).length=j):=⟨hQ,PI⟩;clear h1 h2 z hQ PI kX HP HC HG HK T Y L;generalize Pk.dP (P.take j)=qs at o4 o3 H9 HQ;go_upto_region 5 with fail
   rw[<-aY];clear aY ap
   go_region_law (refine step_append_lies _ rfl (.tmp 30) (.tmp 37) 77 rfl B 81 i8 _ 2 16 Tryz.adW V8 UK UL UM rfl (by decide) (.slice X j O) j (qs.flatMap eX) (by simp[Act.eval]) o3 ⟨f.heap.size,0,none⟩ 1 1 [.int .i64 (p.left:Int),.int .i64 (p.right.length:Int)] (by simp[Act.eval]) rfl (eO (aj.new f _ 81).drew) (by simp[Value.oneCell']) (by decide) (by unfold maxLen;omega) (by omega) J _ rfl ?_;intro g9 dI w9 nL jw mh Gm;have jC:=iK.grown jw (fun e=>aA e.symm);have c9:w9.cell? ⟨B,4,none⟩=some (d 4):=jC.cell 4;have f9:=jC.frozen 4)
   all_goals
    have lT:f.grownBy w9 (d 4).ownBlock:=by rw[N.out];exact aR (b:=(f.alloc (.cells #[.int .i64 (p.left:Int),.int .i64 (p.right.length:Int)] 81)).drew) ⟨rfl,rfl,rfl,(bJ f _ none).size,fun i hi _=>dg _ _ _ hi⟩ jw
    have HN:Hid (∃d,cZ w1 B B (.slice ta nT tc) (.slice na nN nc) d (w9.setCell ⟨B,4,none⟩ (.slice (some ⟨g9,0,none⟩) (j+1) dI)) (Pk.dP (P.take (j+1))) ⟨[],[],[]⟩):=by
     refine⟨_,H9.out.upd (P':=Pk.dP (P.take (j+1))) (m':=⟨[],[],[]⟩) s4 lT ?_ ?_ ?_⟩
     ·show w9.ownsRow B 81 2 _ (Pk.dP (P.take (j+1))).length ((Pk.dP (P.take (j+1))).flatMap eX)
      rw[HQ.out.1,cH,HQ.out.2,gw];exact nL
     ·rw[N.out]
      rcases mh with e|e
      ·exact .inl e.symm
      ·exact .inr ⟨g9,rfl,by rw[e];exact(bJ f _ none).size⟩
     ·rintro l(rfl | rfl | rfl | rfl)hl
      ·exact⟨rfl,rfl⟩
      ·exact⟨rfl,rfl⟩
      ·exact absurd rfl hl
      ·exact⟨rfl,rfl⟩
    clear lT nL jw mh jC c9 f9 o3 iK d4 d1 d2 H9 N HQ;go_wp2_with fail;exact⟨⟨j+1,by omega,by go_num,HN⟩,by simp[intOf];omega⟩
  ·obtain rfl:j=P.length:=by omega
   rw[fR]at h1;have H1:Hid (∃d,cZ w1 B B (.slice ta nT tc) (.slice na nN nc) d wr (Pk.dP P) (Pk.mk P.length cs gs 0)):=⟨d,h1⟩;clear h1 HP;go_wp2_with fail
   go_loopw [44] (fun i wr=>∃j:Nat,j<=cs.length/\i=.int .i64 (j:Int)/\Hid (∃d,cZ w1 B B (.slice ta nT tc) (.slice na nN nc) d wr (Pk.dP P) (Pk.mk P.length cs gs j))) (fun i _=>cs.length - (intOf i).toNat)
   case atStart=>exact⟨0,by omega,rfl,H1⟩
   case round=>
    clear H1;revert wr;intro R hrel;obtain⟨j,hj,rfl,HI⟩:=hrel;obtain⟨t,h1⟩:=HI.out;clear HI
    by_cases hjn:j<cs.length
    ·have j1:(j:Int)<(cs.length:Int):=by omega
     have j2:(j:Int)<(gs.length:Int):=by have:=HL.out;omega
     obtain⟨r,Gx⟩:∃r,cs[j]?=some r:=⟨_,cF hjn⟩;obtain⟨D,hgj⟩:∃r,gs[j]?=some r:=⟨_,cF (by have:=HL.out;omega)⟩;obtain⟨g,vr,rfl,c1,y⟩:=HC.out R h1.b j r Gx;obtain⟨gg,vt,rfl,c2,H⟩:=HG.out R h1.b j D hgj;obtain⟨xa,xc,az,hx⟩:=y;subst az;have y:vY R (.slice xa r.length xc) r:=⟨xa,xc,rfl,hx⟩;obtain⟨ya,yc,a0,hy⟩:=H;subst a0;have HX:Hid (∀G,Below B w1 G->G.cell? ⟨gg,j,none⟩=some (.slice ya D.length yc)/\vY G (.slice xa r.length xc) r/\bQ G (.slice ya D.length yc) D):=fun G q=>by
      obtain⟨g',v',e',k1,k2⟩:=HC.out G q j r Gx;obtain⟨g2,v2,e2,k3,k4⟩:=HG.out G q j D hgj;cases e';cases e2;obtain⟨g',v0,e',ag,-⟩:=HC.out w1 (cV _ _) j r Gx;obtain⟨g2,u0,e2,ai,-⟩:=HG.out w1 (cV _ _) j D hgj;cases e';cases e2;have Z:∀(W:World)(g i:Nat)(v x:Value),Below B w1 W->w1.cell? ⟨g,i,none⟩=some v->W.cell? ⟨g,i,none⟩=some x->v=x:=fun W g i v x hW h1 h2=>by
       rw[<-V9.out]at hW;rw[aM hW h1]at h2;exact ie h2
      obtain rfl:=Z R _ _ _ _ h1.b ag c1;obtain rfl:=Z R _ _ _ _ h1.b ai c2;obtain rfl:=Z G _ _ _ _ q ag k1;obtain rfl:=Z G _ _ _ _ q ai k3;exact⟨k3,k2,k4⟩
     have U:=T r (cJ Gx);have ax:=Y D (cJ hgj);have Wh:=agT (n:=P.length) y U.2 h0 hp U.1;obtain⟨M,a4⟩:=HK.out _ _ _ _ h1;have K6:=L j hj;have ab:=Pk.Tz P.length cs gs j;have al:=Pk.DN P.length cs gs j;have HS:Hid (Pk.mk P.length cs gs (j+1)=Pk.one P.length (Pk.mk P.length cs gs j) r D):=by
      show Pk.one P.length (Pk.mk P.length cs gs j) (cs.getD j []) (gs.getD j [])=_;rw[ej,ej,Gx,hgj];rfl
     have HD:Hid ((Pk.mk P.length cs gs j).ak.length<=2000000/\(Pk.mk P.length cs gs j).aB.length=j/\(Pk.mk P.length cs gs j).aH.length=j):=⟨K6,ab,al⟩;have H1:Hid (cZ w1 B B (.slice ta nT tc) (.slice na nN nc) t R (Pk.dP P) (Pk.mk P.length cs gs j)):=h1;clear K6 ab al h1 HC HG HK y hx hy T Y L S V9;generalize Pk.mk P.length cs gs j=m at H1 HD HS;obtain⟨u,hu⟩:∃u,Pk.usual r P.length=u:=⟨_,rfl⟩;rw[hu]at Wh;have HU:Hid (Pk.usual r P.length=u):=hu;clear hu;go_upto_region 11 with (go_at_call 49;refine Wh.mono ?_;rintro e w3⟨rfl,J⟩)
     have h3:=H1.out.move J;clear H1 Wh J M a4 c1 c2;obtain⟨da,dc,A,-⟩:∃a c,t 5=.slice a j c/\_:=by have:=aC (h3.row 5 s5);rw[show uw (Pk.dP P) m 5=j from HD.out.2.2]at this;exact this
     have o5:w3.ownsRow B 3 1 (.slice da j dc) j (m.aH.map fG):=by
      have:=h3.row 5 s5;rw[show uw (Pk.dP P) m 5=j from HD.out.2.2,A]at this;exact this
     have c5:w3.cell? ⟨B,5,none⟩=some (.slice da j dc):=by rw[<-A];exact h3.blk.cell 5
     have ao:(Value.slice da j dc).ownBlock≠some B:=by rw[<-A];exact h3.CV s5
     have kL:=h3.blk;have hsz:=h3.size;have N:Hid (t 5=.slice da j dc):=A;have H3:Hid (cZ w1 B B (.slice ta nT tc) (.slice na nN nc) t w3 (Pk.dP P) m):=h3;clear h3 A;go_upto_region 12 with (at_builtin;refine js _ rfl _ _ 22 rfl B 3 i3 _ 1 8 underlying22 a1 Ed Ee aa rfl (by decide) (.slice da j dc) _ _ rfl (o5.alloc _) ⟨_,0,none⟩ 1 1 [.int .i64 (u:Int)] rfl rfl (eO (aj.new _ _ 3)) (by simp[Value.oneCell']) (by unfold maxLen;omega) (by omega) (by simp;omega) ?_;intro v6 w6 s wX _ xB;obtain⟨av,ac,a7,-⟩:=aC s;subst a7;have AZ:=(kL.alloc (.cells #[.int .i64 (u:Int)] 3)).grown wX (fun e=>ao e.symm);have c6:w6.cell? ⟨B,5,none⟩=some (t 5):=AZ.cell 5;have f6:=AZ.frozen 5)
     have HN:Hid (∃d,cZ w1 B B (.slice ta nT tc) (.slice na nN nc) d (w6.setCell ⟨B,5,none⟩ (.slice av (j+1) ac)) (Pk.dP P) { m with aH:=m.aH++[u] }):=by
      have a6:w3.grownBy w6 (t 5).ownBlock:=by rw[N.out];exact aR (bJ w3 _ _) wX
      refine⟨_,H3.out.upd (P':=Pk.dP P) (m':={ m with aH:=m.aH++[u] }) s5 a6 ?_ ?_ ?_⟩
      ·show w6.ownsRow B 3 1 _ (m.aH++[u]).length ((m.aH++[u]).map fG)
       rw[cH,HD.out.2.2,eJ];exact s
      ·rw[N.out]
       exact xB.imp id fun e=>⟨_,e,by simp⟩
      ·rintro l(rfl | rfl | rfl | rfl)hl
       ·exact⟨rfl,rfl⟩
       ·exact⟨rfl,rfl⟩
       ·exact⟨rfl,rfl⟩
       ·exact absurd rfl hl
     clear H3 AZ c6 f6 s wX xB kL c5 o5 ao N;generalize w6.setCell ⟨B,5,none⟩ (.slice av (j+1) ac)=w7 at HN|-;obtain⟨a2,h7⟩:=HN.out;clear HN;obtain⟨c7,y,H⟩:=HX.out w7 h7.b;have aw:=ahP (w:=w7.drew) (y.keep ⟨rfl,rfl,rfl,zL0,fun _ _=>rfl⟩) (H.keep ⟨rfl,rfl,rfl,zL0,fun _ _=>rfl⟩) U.1 ax u;have H7:Hid (∀w8,Below w7.drew.heap.size w7.drew w8->cZ w1 B B (.slice ta nT tc) (.slice na nN nc) a2 w8 (Pk.dP P) { m with aH:=m.aH++[u] }):=fun w8 q=>(h7.move (W':=w7.drew) ⟨rfl,rfl,rfl,zL0,fun _ _=>rfl⟩).move q
     clear h7 HX y H
     go_region_law (first
      | (refine jW rfl 51 #[.slice xa r.length xc,.slice ya D.length yc,.int .i64 (u:Int)] (by go_simp) aw ?_;rintro e w8⟨vo,rfl,GN,l7⟩;refine⟨_,rfl,?_⟩;have af:=alW (H7.out _ l7) GN HD.out.1 (by show m.aB.length<=_;rw[HD.out.2.1];omega) (fun x hx=>by have:=Pk.abq hx;omega) (by have:=Pk.akn r D u;omega);clear aw l7 H7 GN)
      | (refine jW rfl 50 #[.pointer (some ⟨B,0,none⟩),vo] (by go_simp) af ?_;rintro e w9⟨rfl,a9,h9⟩;refine⟨_,rfl,?_⟩;clear af))
     all_goals
      have HE:Hid (∃d,cZ w1 B B (.slice ta nT tc) (.slice na nN nc) d w9 (Pk.dP P) (Pk.mk P.length cs gs (j+1))):=⟨a9,by rw[HS.out,Pk.one,HU.out];exact h9⟩;clear h9;go_wp2_with fail;exact⟨⟨j+1,by omega,by go_num,HE⟩,by simp[intOf];omega⟩
    ·obtain rfl:j=cs.length:=by omega
     have HE:Hid (NpE w (.slice ta nT tc) (.slice na nN nc) P cs gs (.returned (.pointer (some ⟨B,0,none⟩))) R):=⟨w1,B,t,rfl,S.out,S.out.size,by rw[V9.out];exact h1⟩;clear h1 HC HG HK;go_wp2_with fail;go_ret;exact HE.out
def pq(ws:List Nat):Array Value:=(ws.map fun x:Nat=>Value.int .u64 (x:Int)).toArray
theorem aaB(ws:List Nat)(i x:Nat):(pq ws).setIfInBounds i (.int .u64 (x:Int))=pq (ws.set i x):=by
 unfold pq;rw[kf,oj]
theorem IQ(ws:List Nat){i:Nat}(h:i<ws.length):(pq ws)[i]?=some (.int .u64 ((ws.getD i 0:Nat):Int)):=by
 unfold pq;simp[h]
namespace Lx
def nW(n:Nat):Nat:=(n+63) / 64
def bP(ws:List Nat)(t:Nat):Bool:=(ws.getD (t / 64) 0).testBit (t % 64)
def jD(ws:List Nat):Prop:=∀x∈ws,x<18446744073709551616
def xI(ws:List Nat)(t:Nat):List Nat:=ws.set (t / 64) (ws.getD (t / 64) 0 ||| 2 ^ (t % 64))
theorem jD.get{ws:List Nat}(h:jD ws)(i:Nat):ws.getD i 0<18446744073709551616:=by
 rw[ej];cases e:ws[i]? with
 |none=>simp
 |some x=>simpa using h x (cJ e)
theorem jD.set{ws:List Nat}(h:jD ws)(i:Nat){x:Nat}(a:x<18446744073709551616):jD (ws.set i x):=fun y b=>by
 rcases mw b with h1|rfl
 ·exact h y h1
 ·exact a
theorem adZ{a b:Nat}(d:a<18446744073709551616)(c:b<18446744073709551616):a ||| b<18446744073709551616:=Nat.or_lt_two_pow (n:=64) d c
theorem acr{ws:List Nat}(h:jD ws)(t:Nat):jD (xI ws t):=h.set _ (adZ (h.get _) (by have:2 ^ (t % 64)<2 ^ 64:=Nat.pow_lt_pow_right (by decide) (tU _ (by decide));exact this))
theorem abr(ws:List Nat)(t:Nat):(xI ws t).length=ws.length:=ii ..
theorem Sk{ws:List Nat}{i j x:Nat}(a:i<ws.length):(ws.set i x).getD j 0=if j=i then x else ws.getD j 0:=by
 simp only[List.getD_eq_getElem?_getD,List.getElem?_set]
 by_cases e:i=j
 ·subst e;simp[a]
 ·rw[dt e,dt fun h=>e h.symm]
theorem Sm{ws:List Nat}{t u:Nat}(a:t<ws.length*64):bP (xI ws t) u=(bP ws u || decide (u=t)):=by
 unfold bP xI;rw[Sk (by omega)]
 by_cases e:u / 64=t / 64
 ·rw[dj e,rh,e,Nat.testBit_two_pow]
  congr 1
  by_cases e2:u=t
  ·subst e2;simp
  ·simp only[e2,decide_false]
   exact eE (by omega)
 ·rw[dt e]
  have:u≠t:=fun h=>e (by rw[h])
  simp[this]
theorem alX{n i:Nat}{f:Nat->Nat}:((List.range n).map f).getD i 0=if i<n then f i else 0:=by
 simp only[List.getD_eq_getElem?_getD,List.getElem?_map]
 by_cases h:i<n
 ·simp[h]
 ·simp[h]
theorem Sn{ws:List Nat}{i:Nat}(h:¬i<ws.length):ws.getD i 0=0:=by simp[Nat.not_lt.1 h]
theorem FH{ws a:List Nat}(b:ws.length=a.length)(h:∀i,i<ws.length->ws.getD i 0=a.getD i 0):ws=a:=by
 apply ms b;intro i h1 h2;have:=h i h1;simpa [List.getD_eq_getElem?_getD,h1,h2]using this
def lC(ws vs:List Nat)(j:Nat):List Nat:=(List.range ws.length).map fun i=>if i<j then ws.getD i 0 ||| vs.getD i 0 else ws.getD i 0
def dL(ws vs:List Nat):List Nat:=lC ws vs ws.length
theorem yO(ws a:List Nat)(j:Nat):(lC ws a j).length=ws.length:=by simp[lC]
theorem BL(ws a:List Nat)(j i:Nat):(lC ws a j).getD i 0=if i<ws.length/\i<j then ws.getD i 0 ||| a.getD i 0 else ws.getD i 0:=by
 unfold lC;rw[alX]
 by_cases h:i<ws.length
 ·simp only[h,if_true,true_and]
 ·rw[dt h,dt (by omega),Sn h]
theorem abt(ws a:List Nat):lC ws a 0=ws:=FH (yO ..) fun i _=>by rw[BL,dt (by omega)]
theorem ako{ws b:List Nat}{j:Nat}(c:j<ws.length):lC ws b (j+1)=(lC ws b j).set j (ws.getD j 0 ||| b.getD j 0):=by
 refine FH (by rw[ii,yO,yO]) fun i a=>?_
 rw[Sk (by rw[yO];exact c),BL,BL];rw[yO]at a
 by_cases e:i=j
 ·subst e;rw[dj ⟨c,by omega⟩,dj rfl]
 ·rw[dt e]
  by_cases h3:i<j
  ·rw[dj ⟨a,by omega⟩,dj ⟨a,h3⟩]
  ·rw[dt (by omega),dt (by omega)]
theorem amU{ws a:List Nat}(b:jD ws)(d:jD a)(j:Nat):jD (lC ws a j):=fun x c=>by
 obtain⟨i,-,rfl⟩:=ee.1 c
 split
 ·exact adZ (b.get i) (d.get i)
 ·exact b.get i
theorem RL{ws a:List Nat}(h:a.length=ws.length)(t:Nat):bP (dL ws a) t=(bP ws t || bP a t):=by
 unfold bP dL;rw[BL]
 by_cases hi:t / 64<ws.length
 ·rw[dj ⟨hi,hi⟩,rh]
 ·rw[dt (by omega),Sn hi,Sn (by omega)];simp
end Lx
theorem Tryz.alY:(prog.info? 277).map (fun i=>(i.zero,i.size,i.bytes))=some (some (.int .u64 0),1,8):=by kernel_rfl
theorem ahQ(n:Nat):madeCells #[.int .u64 0] (n*1)=pq (List.replicate n 0):=by
 unfold madeCells pq;apply qe
 ·simp
 ·intro i h1 h2
  simp[Nat.mod_one]
theorem ahR{n:Nat}(g:n<=100000)(w:World):(Instr.makeSlice 214 (.int .i64 (n:Int)) (.int .i64 (n:Int))).run prog w=.ok (.slice (some ⟨w.heap.size,0,none⟩) n n) (w.alloc (.cells (pq (List.replicate n 0)) 277)):=by
 obtain⟨f,d,b,c,a⟩:=ft Tryz.alY;have h:=pA (P:=prog) w 214 277 f _ (by kernel_rfl) d b .i64 .i64 (n:Int) (n:Int) (by omega) (nF _) (by rw[a];omega) (by omega);rw[h,im,c];have e:Value.cells (.int .u64 0)=#[.int .u64 0]:=rfl;rw[e,ahQ]
structure TS(w:World)(g:Nat)(ws:List Nat):Prop where
 blk:aj w g (pq ws) 277
 wd:jD ws
theorem QI{w:World}{n:Nat}(a:n<=100000):Calls prog 92 #[.int .i64 (n:Int)] w fun e w'=>e=.returned (.slice (some ⟨w.heap.size,0,none⟩) (Lx.nW n) (Lx.nW n))/\w'=w.alloc (.cells (pq (List.replicate (Lx.nW n) 0)) 277):=by
 have h4:=fun w=>ahR (n:=Lx.nW n) (by unfold Lx.nW;omega) w
 rw[show ((Lx.nW n:Nat):Int)=((n:Int)+64-1) / 64 by unfold Lx.nW;omega]at h4;go_enter func92,ntmps92;go_wp2_with fail;go_ret;exact⟨rfl,rfl⟩
theorem or_bit{a t:Nat}(c:a<18446744073709551616):bits BinOp.or IntKind.u64 (a:Int) (IntKind.u64.wrap (2 ^ (t % 64)))=((a ||| 2 ^ (t % 64):Nat):Int):=by
 have b:2 ^ (t % 64)<18446744073709551616:=by
  have:2 ^ (t % 64)<2 ^ 64:=Nat.pow_lt_pow_right (by decide) (tU _ (by decide));exact this
 have e:IntKind.u64.wrap (2 ^ (t % 64))=((2 ^ (t % 64):Nat):Int):=by
  have d:(2:Int) ^ (t % 64)=((2 ^ (t % 64):Nat):Int):=by rw[Int.natCast_pow];rfl
  rw[IntKind.wrap_u64,d];generalize 2 ^ (t % 64)=x at b;omega
 rw[e,bits_or_u64_nat a _ c b]
theorem abu{w:World}{g t:Nat}{ws:List Nat}(h:TS w g ws)(d:t<ws.length*64)(j:ws.length<=100000):Calls prog 93 #[.slice (some ⟨g,0,none⟩) ws.length ws.length,.int .i64 (t:Int)] w fun e w'=>e=.returned (.tuple #[])/\TS w' g (xI ws t)/\w.grownBy w' (some g):=by
 have i:w.cell? ⟨g,t / 64,none⟩=some (.int .u64 ((ws.getD (t / 64) 0:Nat):Int)):=(h.blk.cell _).trans (IQ ws (by omega));have b:=h.blk.frozen (t / 64);have k:(0:Int)<=(t:Int) / 64:=by omega
 have c:(t:Int) / 64<(ws.length:Int):=by omega
 have f:((t:Int) / 64).toNat=t / 64:=by omega
 have a:=or_bit (t:=t) (h.wd.get (t / 64));rw[ej]at a;go_enter func93,ntmps93
 go_region
 go_end0
 refine⟨rfl,⟨?_,acr h.wd t⟩,?_⟩
 ·have:=(h.blk.set (t / 64) (.int .u64 ((ws[t / 64]?.getD 0 ||| 2 ^ (t % 64):Nat):Int))).drew
  rw[aaB]at this;rw[xI,ej];exact this
 ·have:=iM w g (t / 64) (.int .u64 ((ws[t / 64]?.getD 0 ||| 2 ^ (t % 64):Nat):Int))
  exact⟨this.1,this.2,this.3,this.4,this.5⟩
theorem agV{a b:Nat}(j:a<18446744073709551616)(g:b<18446744073709551616):bits .andNot .u64 (a:Int) (b:Int)=0↔b ||| a=b:=by
 have d:b<2 ^ 64:=g;have k:∀i,(2 ^ 64 - (b+1)).testBit i=(decide (i<64) && !b.testBit i):=fun i=>Nat.testBit_two_pow_sub_succ d i
 rw[u64_andNot_nat a b j g];have e:(18446744073709551615-b:Nat)=2 ^ 64 - (b+1):=by omega
 rw[e];have h1:((a &&& (2 ^ 64 - (b+1)):Nat):Int)=0↔a &&& (2 ^ 64 - (b+1))=0:=by omega
 rw[h1];constructor
 ·intro h
  apply ue;intro i;have c:=fb (Nat.testBit · i) h;simp only[Nat.testBit_and,k,Nat.zero_testBit]at c;rw[rh];cases ea:a.testBit i with
  |false=>simp
  |true=>
   rw[ea]at c;have f:i<64:=by
    apply kj;intro l;rw[yr (dd j (sf (n:=2) (by decide) (show 64<=i by omega)))]at ea;cases ea
   simpa [f]using c
 ·intro h
  apply ue;intro i;have c:=fb (Nat.testBit · i) h;simp only[Nat.testBit_or]at c;rw[sE,k,Nat.zero_testBit];revert c;cases a.testBit i <;> cases b.testBit i <;> simp
structure TP(w:World)(g:Nat)(ws:List Nat)(w':World):Prop where
 ts:TS w' g ws
 gr:w.grownBy w' (some g)
theorem MK{w:World}{g h nw:Nat}{ws a:List Nat}(u:TS w g ws)(r:TS w h a)(c:g=h->a=ws)(G:ws.length=nw)(T:a.length=nw)(P:nw<=100000):Calls prog 137 #[.slice (some ⟨g,0,none⟩) nw nw,.slice (some ⟨h,0,none⟩) nw nw] w fun e w'=>∃b:Bool,e=.returned (.bool b)/\TP w g (dL ws a) w'/\(b=true↔dL ws a≠ws):=by
 have B:Hid (TP w g (lC ws a 0) w):=⟨by rw[abt];exact u,⟨rfl,rfl,rfl,zL0,fun _ _ _=>rfl⟩⟩;have K:Hid (∀wr j,TP w g (lC ws a j) wr->j<nw->wr.cell? ⟨h,j,none⟩=some (.int .u64 ((a.getD j 0:Nat):Int))):=fun wr j F M=>by
  by_cases e:g=h
  ·have J:=c e
   subst e;have:=(F.ts.blk.cell j).trans (IQ _ (by rw[yO];omega));rw[BL,dt (by omega)]at this;rw[this,J]
  ·exact(cM (w:=w) (F.gr.block h r.blk.lt (fun N=>e (by cases N;rfl)))).trans ((r.blk.cell j).trans (IQ a (by omega)))
 have p:Hid (false=true↔lC ws a 0≠ws):=by show _↔_;rw[abt];simp
 have o:Hid (jD ws/\jD a):=⟨u.wd,r.wd⟩;have E:Hid (dL ws a=lC ws a nw):=by show _=_;rw[<-G];rfl
 have O:Hid (∀j,j<nw->lC ws a (j+1)=(lC ws a j).set j (ws.getD j 0 ||| a.getD j 0)):=fun j M=>ako (by omega)
 have C:Hid (∀j,(lC ws a j).getD j 0=ws.getD j 0):=fun j=>by show _=_;rw[BL,dt (by omega)]
 have D:Hid (∀j,(lC ws a j).length=nw):=fun j=>by show _=_;rw[yO,G]
 clear u r c;go_enter func137,ntmps137;go_wp2_with fail
 go_loopg [5,10] nw (fun k L i wr=>∃(j:Nat)(b:Bool),j+k=nw/\L=.bool b/\i=.int .i64 (j:Int)/\Hid (TP w g (lC ws a j) wr)/\Hid (b=true↔lC ws a j≠ws))
 case atStart=>exact⟨0,false,by omega,rfl,rfl,B,p⟩
 case round=>
  clear B p;obtain⟨j,b,t,rfl,rfl,n,A⟩:=hrel
  by_cases hlt:j<nw
  ·have cv:=K.out wr j n.out hlt
   have z:wr.cell? ⟨g,j,none⟩=some (.int .u64 ((ws.getD j 0:Nat):Int)):=by rw[<-C.out j];exact(n.out.ts.blk.cell j).trans (IQ _ (by rw[D.out];exact hlt))
   have H:=n.out.ts.blk.frozen j;have q:=agV (o.out.2.get j) (o.out.1.get j);have l:bits BinOp.or IntKind.u64 ((ws.getD j 0:Nat):Int) ((a.getD j 0:Nat):Int)=((ws.getD j 0 ||| a.getD j 0:Nat):Int):=bits_or_u64_nat _ _ (o.out.1.get j) (o.out.2.get j);have Q:(0:Int)<=(j:Int):=by omega
   have R:(j:Int)<(nw:Int):=by omega
   have f:=O.out j hlt;have d:=(n.out.ts.blk.set j (.int .u64 ((ws.getD j 0 ||| a.getD j 0:Nat):Int)));rw[aaB,<-f]at d
   by_cases hn:ws.getD j 0 ||| a.getD j 0=ws.getD j 0
   ·have m:bits BinOp.andNot IntKind.u64 ((a.getD j 0:Nat):Int) ((ws.getD j 0:Nat):Int)=0:=q.2 hn
    have s:Hid (lC ws a (j+1)=lC ws a j):=by
     show _=_;rw[f,hn];exact FH (by simp) fun i S=>by
      rw[Sk (by rw[D.out];exact hlt)]
      split
      ·rename_i e;subst e;exact(C.out _).symm
      ·rfl
    clear q l hn d f H;generalize ws.getD j 0=x at m z;generalize a.getD j 0=y at m cv;have I:(bits BinOp.andNot IntKind.u64 (y:Int) (x:Int) != 0)=false:=by simp[m]
    go_wp2_with fail;go_roundg (nw - (j+1))
    case measure=>omega
    case rel=>exact⟨j+1,b,by omega,rfl,by go_num,by show TP _ _ _ _;rw[s.out];exact n.out,by show _↔_;rw[s.out];exact A.out⟩
   ·have m:¬bits BinOp.andNot IntKind.u64 ((a.getD j 0:Nat):Int) ((ws.getD j 0:Nat):Int)=0:=fun e=>hn (q.1 e)
    have s:Hid (lC ws a (j+1)≠ws):=fun e=>hn (by
     have:(lC ws a (j+1)).getD j 0=ws.getD j 0:=by rw[e]
     rwa [BL,dj ⟨by omega,by omega⟩]at this)
    have v:Hid (TP w g (lC ws a (j+1)) (wr.setCell ⟨g,j,none⟩ (.int .u64 ((ws.getD j 0 ||| a.getD j 0:Nat):Int)))):=⟨⟨d,amU o.out.1 o.out.2 _⟩,by
     have h1:=n.out.gr;have h2:=iM wr g j (.int .u64 ((ws.getD j 0 ||| a.getD j 0:Nat):Int));exact⟨h2.1.trans h1.1,h2.2.trans h1.2,h2.3.trans h1.3,de h1.size h2.size,fun k t c=>(h2.block k (dd t h1.size) c).trans (h1.block k t c)⟩⟩
    clear q hn d f;generalize ws.getD j 0=x at m z l v;generalize a.getD j 0=y at m cv l v;have I:(bits BinOp.andNot IntKind.u64 (y:Int) (x:Int) != 0)=true:=by simp[m]
    go_wp2_with fail;go_roundg (nw - (j+1))
    case measure=>omega
    case rel=>exact⟨j+1,true,by omega,rfl,by go_num,v,by show _↔_;exact⟨fun _=>s.out,fun _=>rfl⟩⟩
  ·obtain rfl:j=nw:=by omega
   go_wp2_with fail;go_ret;exact⟨b,rfl,by rw[E.out];exact n.out,by rw[E.out];exact A.out⟩
def lU(B:Nat)(w:World)(v:Value)(xs:List Nat):Prop :=
 (v=.slice none 0 0/\xs=[])\/∃g o cap cur,v=.slice (some ⟨g,o,none⟩) xs.length cap/\B<=g/\w.heap[g]?=some (.cells cur 3 (0,0))/\xs.length<=cap/\cap<=maxLen/\o+cap<=cur.size/\∀(j x:Nat),xs[j]?=some x->cur[o+j]?=some (.int .i64 (x:Int))
theorem lU.lt{B:Nat}{w:World}{v:Value}{c:List Nat}(h:lU B w v c):∀g,v.ownBlock=some g->B<=g/\g<w.heap.size:=by
 intro g a;rcases h with ⟨rfl,-⟩|⟨j,o,i,d,rfl,b,f,-⟩
 ·cases a
 ·cases a
  exact⟨b,(ek.1 f).1⟩
theorem lU.move{B:Nat}{w w':World}{v:Value}{c:List Nat}(h:lU B w v c)(f:∀g,v.ownBlock=some g->w'.heap[g]?=w.heap[g]?):lU B w' v c:=by
 rcases h with h|⟨g,o,b,a,rfl,d,i,h1⟩
 ·exact .inl h
 ·exact .inr ⟨g,o,b,a,rfl,d,(f g rfl).trans i,h1⟩
theorem lU.typ{B:Nat}{w:World}{v:Value}{b:List Nat}(h:lU B w v b){g:Nat}(a:v.ownBlock=some g):∃cur,w.heap[g]?=some (.cells cur 3 (0,0)):=by
 rcases h with ⟨rfl,-⟩|⟨i,o,d,cur,rfl,f,c,h1⟩
 ·cases a
 ·cases a;exact⟨_,c⟩
theorem lU.form{B:Nat}{w:World}{v:Value}{b:List Nat}(h:lU B w v b):∃a cap,v=.slice a b.length cap:=by
 rcases h with ⟨rfl,rfl⟩|⟨g,o,cap,c,rfl,-⟩
 ·exact⟨_,_,rfl⟩
 ·exact⟨_,_,rfl⟩
theorem lU.front{B:Nat}{w:World}{v:Value}{x:Nat}{a:List Nat}(h:lU B w v (x::a)):∃g o cap,v=.slice (some ⟨g,o,none⟩) (a.length+1) cap/\a.length+1<=cap/\w.cell? ⟨g,o,none⟩=some (.int .i64 (x:Int))/\lU B w (.slice (if cap=1 then some ⟨g,o,none⟩ else some ⟨g,o+1,none⟩) a.length (cap-1)) a:=by
 rcases h with ⟨-,h⟩|⟨g,o,cap,b,rfl,d,c,h1,h2,h3,h4⟩
 ·cases h
 ·rw[ev]at h1
  refine⟨g,o,cap,rfl,h1,?_,?_⟩
  ·have:=h4 0 x rfl
   simpa [World.cell?,c]using this
  ·by_cases hc:cap=1
   ·rw[dj hc]
    have i:a=[]:=gz (by omega);subst i;exact .inr ⟨g,o,cap-1,b,rfl,d,c,ff _,by omega,by omega,fun j x h=>by cases h⟩
   ·rw[dt hc]
    exact .inr ⟨g,o+1,cap-1,b,rfl,d,c,by omega,by omega,by omega,fun j y f=>by rw[Nat.add_assoc,Nat.add_comm 1 j];exact h4 (j+1) y f⟩
theorem agd{P:Program}{w:World}{B t ty:Nat}{i:TypeInfo}(G:P.underlying t=some (.slice 3))(H:P.info? 3=some i)(I:i.zero=some (.int .i64 0))(q:i.size=1)(s:i.bytes=8){v:Value}{b:List Nat}(h:lU B w v b)(N:B<=w.heap.size)(a:Addr)(c x:Nat)(K:w.cell? (a.add 0)=some (.int .i64 (x:Int)))(O:b.length+1<=1000000):∃v' w',(Builtin.append_ #[t,t] ty #[v,.slice (some a) 1 c]).run P w=.ok v' w'/\lU B w' v' (b++[x])/\w.grownBy w' v.ownBlock/\(v'.ownBlock=v.ownBlock\/v'.ownBlock=some w.heap.size):=by
 have m:∀j u,([.int .i64 (x:Int)]:List Value)[j]?=some u->w.cell? (a.add j)=some u:=fun j u d=>by
  cases j with
  |zero=>cases d;exact K
  |succ j=>simp at d
 have D:∀(f:Nat)(row:Option Nat),lU B (w.drew.alloc (.cells ((b.map fun y:Nat=>Value.int .i64 (y:Int)).toArray++([.int .i64 (x:Int)]:List Value).toArray++Builtin.zeroCells (Value.int .i64 0).cells (grownCap w (b.length+1) f 3 - (b.length+1))) 3)) (.slice (some ⟨w.heap.size,0,none⟩) (b.length+1) (grownCap w (b.length+1) f 3)) (b++[x])/\w.grownBy (w.drew.alloc (.cells ((b.map fun y:Nat=>Value.int .i64 (y:Int)).toArray++([.int .i64 (x:Int)]:List Value).toArray++Builtin.zeroCells (Value.int .i64 0).cells (grownCap w (b.length+1) f 3 - (b.length+1))) 3)) row:=fun f row=>by
  have F:=grownCap_ge w (b.length+1) f 3;refine⟨.inr ⟨w.heap.size,0,grownCap w (b.length+1) f 3,_,by simp,N,ot w.drew _,by simpa using F,vu w _ f 3 (by unfold maxLen;omega),?_,fun j y d=>?_⟩,⟨rfl,rfl,rfl,by simp,fun k C _=>heap_alloc_old w.drew _ C⟩⟩
  ·simp[size_zeroCells,Value.cells];omega
  ·have p:=(cG.1 d).1
   rw[cH,gd]at p;rw[fk,pT (by simp;omega)];rw[ir]at d
   split at d
   ·rename_i z
    rw[pT (by simpa using z)];simp[d]
   ·rename_i z
    obtain rfl:j=b.length:=by omega
    simp at d;subst d;rw[Array.getElem?_append_right (by simp)];simp
 rcases h with ⟨rfl,rfl⟩|⟨g,o,l,n,rfl,L,E,h1,h2,h3,h4⟩
 ·have A:=run_append_nil (P:=P) w t ty 3 i _ G H I a 1 c [.int .i64 (x:Int)] (by simp[q]) m (by omega) (by omega) (by rw[s];omega)
  have:=D 0 none;simp only[List.length_nil,Nat.zero_add,List.map_nil,Array.empty_append]at this;exact⟨_,_,A,this.1,this.2,.inr rfl⟩
 ·by_cases hroom:b.length+1<=l
  ·have J:=run_firstCells_some (P:=P) w i.size 1 a 1 c [.int .i64 (x:Int)] (by simp[q]) m
   rw[q]at J;have r:=run_storeCells_at P g (o+b.length) 3 [.int .i64 (x:Int)] 0 n w E (by simp;omega) (by simp[Value.oneCell']);simp only[Nat.add_zero]at r;refine⟨.slice (some ⟨g,o,none⟩) (b.length+1) l,w.setRow g (n.toList.take (o+b.length)++.int .i64 (x:Int)::n.toList.drop (o+b.length+1)).toArray,by simp[Builtin.append_,run_underlying G,sizeOf,typeInfo,H,q,Builtin.lenOf,hroom,J,Addr.add_lit,r],?_,⟨rfl,rfl,rfl,by simp,fun k _ C=>setRow_other w g k _ (fun e=>C (by simp[Value.ownBlock,e]))⟩,.inl rfl⟩;refine .inr ⟨g,o,l,_,by simp,L,setRow_heap w g n _ 3 _ E,by simp;exact hroom,h2,by simp only[List.size_toArray,List.length_append,List.length_cons,List.length_take,List.length_drop,Array.length_toList];omega,fun j y d=>?_⟩;have p:=(cG.1 d).1;rw[cH,gd]at p;rw[ge];rw[ir]at d
   split at d
   ·rename_i z
    have:=h4 j y d;rw[eL (by simp;omega),xT (by omega)];simpa using this
   ·rename_i z
    obtain rfl:j=b.length:=by omega
    simp at d;subst d;rw[eN (by simp;omega)];simp[show min (o+b.length) n.size=o+b.length by omega]
  ·have A:=run_append_grow (P:=P) w t ty 3 i _ G H I ⟨g,o,none⟩ b.length l (b.map fun y:Nat=>Value.int .i64 (y:Int)) (by simp[q]) (fun j u d=>?_) a 1 c [.int .i64 (x:Int)] (by simp[q]) m (by omega) (by omega) (growslice_fits (by omega) (by rw[s];omega))
   ·exact⟨_,_,A,(D l none).1,(D l _).2,.inr rfl⟩
   ·rw[di]at d
    obtain⟨y,M,rfl⟩:=m8.1 d;have:=h4 j y M;rw[show (⟨g,o,none⟩:Addr).add j=⟨g,o+j,none⟩ by cases j <;> simp[Addr.add]];simpa [World.cell?,E]using this
theorem afo{P:Program}{w:World}{b:Array Oper}{rest:List Oper}{o:Oper}{a:Act}{Q:Exit->Act->World->Prop}(j:o.guard=none)(s x:Operand)(t:TypeId)(u:o.op=.call { callee:=.builtin .append,args:=#[s,x],argTypes:=#[t,t] }){B:Nat}{i:TypeInfo}(n:P.underlying t=some (.slice 3))(p:P.info? 3=some i)(r:i.zero=some (.int .i64 0))(g:i.size=1)(k:i.bytes=8)(v:Value)(d:List Nat)(A:a.eval s=v)(h:lU B w v d)(z:B<=w.heap.size)(f:Addr)(c y:Nat)(E:a.eval x=.slice (some f) 1 c)(q:w.cell? (f.add 0)=some (.int .i64 (y:Int)))(C:d.length+1<=1000000)
  (m:∀v' w',lU B w' v' (d++[y])->w.grownBy w' v.ownBlock->(v'.ownBlock=v.ownBlock\/v'.ownBlock=some w.heap.size)->wpList P b Q rest (a.put o.dst v') w'):wpList P b Q (o::rest) a w:=by
 refine wpList_plain j fun K D=>?_
 obtain⟨v',w',l,h2,h3,h4⟩:=agd (P:=P) (ty:=o.type) n p r g k h z f c y q C;unfold Oper.wp execOp;simp only[u,resolve,invoke,builtin,Sem.run_bind,Sem.run_pure,Result.andThen_ok,List.map_toArray,List.map_cons,List.map_nil,A,E,l];exact D _ _ (m v' w' h2 h3 h4)

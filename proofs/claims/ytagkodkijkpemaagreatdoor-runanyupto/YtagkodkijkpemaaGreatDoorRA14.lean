import Derived.Test.YtagkodkijkpemaaGreatDoorRA13
set_option maxHeartbeats 8000000
set_option maxRecDepth 1000000
namespace Go.Proofs.YtagkodkijkpemaaGreatDoor
open Lx Go.Proofs.Tryz
open Go.RowKit Tr
theorem sw.push{B:Nat}{w w2 m:World}{v l u:Value}{s:List (List Nat)}{r:List (Value×List Nat)}{y:List Nat}{o:Obj}(h:TR B w v s r)(F:B<=w.heap.size)(i:Below w.heap.size w w2)(k:IR w.heap.size w2 u y)(A:m.ownsRow B 22 1 l (s.length+1) (r.map Prod.fst++[u]))(x:(w2.alloc o).grownBy m v.ownBlock)(D:l.ownBlock=v.ownBlock\/l.ownBlock=some (w2.alloc o).heap.size):sw B m l (s++[y]):=by
 obtain⟨p,j,d,f⟩:=h;have E:=i.size;have t:∀g,l.ownBlock=some g->v.ownBlock=some g\/w2.heap.size<=g:=by
  intro g b;rcases D with c|c
  ·exact .inl (c▸b)
  ·rw[c]at b;simp at b;exact .inr (by omega)
 have z:∀g,g<w2.heap.size->v.ownBlock≠some g->m.heap[g]?=w2.heap[g]?:=fun g b C=>(x.block g (by simp;omega) (fun e=>C e.symm)).trans (di _ _ _ b)
 refine⟨r++[(u,y)],by rw[ei,p];rfl,?_,?_,?_⟩
 ·rw[cH,ei];exact A
 ·intro q a
  rcases cY.1 a with a|a
  ·refine aC (d q a) fun g b=>?_
   have n:=(d q a).lt g b;exact(z g (by omega) (f q a g b)).trans (i.block g n.2)
  ·rw[cM.1 a]
   refine aC (jc k F) fun g b=>z g (k.lt g b).2 fun e=>?_
   have:=(k.lt g b).1;have:=(j.lt g e).2;omega
 ·intro q a g b e
  rcases t g e with c|c
  ·rcases cY.1 a with a | a
   ·exact f q a g b c
   ·rw[cM.1 a]at b
    have:=(k.lt g b).1;have:=(j.lt g c).2;omega
  ·rcases cY.1 a with a | a
   ·have:=((d q a).lt g b).2;omega
   ·rw[cM.1 a]at b
    have:=(k.lt g b).2;omega
def Sm(w:World)(G:Nat->Prop)(fS:ByteArray->Int)(fH:Addr->Int)(g:Nat)(l:List Lx.Alt)(ps:List (List Nat)):Prop:=ps.length=l.length/\∀k(hk:k<l.length)(hk':k<ps.length),l[k].1.length<=10000/\ps[k].length=l[k].1.length/\∀vi,w.cell? ⟨g,k*2,none⟩=some vi->∀q(hq:q<l[k].1.length)(hq':q<ps[k].length),G (aQ vi)/\z8 fS fH (⟨aQ vi,q*4,none⟩,l[k].1[q])=(ps[k][q]:Int)
theorem agW{D F G:Nat->Prop}{w:World}{R S H:Nat}{ta:Option Addr}{nT tc:Nat}{vN vB vK:Value}{fS:ByteArray->Int}{fH:Addr->Int}{P:List Lx.Pd}(h:Mp D G w R S H ta nT tc vN vB vK fS fH P){n m d:Nat}{a:Lx.It}{va:Value}(hi:pE w n m a)(aw:w.cell? ⟨n,m*4+3,none⟩=some va)(hA:aM YP d F w va a.alts)(Z:∀b,F b->D b)(y:List (List Nat))(A:a.kind≠2->∃s:Nat,y=[[s]]/\fS a.name=(s:Int))(E:a.kind=2->Sm w G fS fH (aQ va) a.alts y)(hl:a.alts.length<=10000):
  Calls prog 165 #[.pointer (some ⟨R,0,none⟩),.pointer (some ⟨n,m*4,none⟩)] w fun e w'=>∃u,e=.returned u/\sw w.heap.size w' u y/\Below w.heap.size w w':=by
 obtain⟨i0,ap,af,ag,aa⟩:=fd Tryz.ace;obtain⟨sa,sc,rfl,-⟩:=aM.len hA;have ax:=hi.kind;have O:=hi.name;go_enter func165,ntmps165
 by_cases p:a.kind=2
 ·have ad:((a.kind:Int) != 2)=false:=by simp[p]
  obtain⟨ah,v⟩:=E p;have HK:Hid (a.kind=2):=p;clear p A E;go_wp2_with fail
  go_loopg [5,29] a.alts.length (fun k vo i wr=>∃(j:Nat)(f:List (List Nat)),j+k=a.alts.length/\i=.int .i64 j/\sw w.heap.size wr vo f/\Below w.heap.size w wr/\Hid (f=y.take j))
  case atStart=>exact⟨0,[],by omega,rfl,⟨[],rfl,eE _ _ _ _,fun q B=>(by cases B),fun q B=>(by cases B)⟩,cV _ _,rfl⟩
  case round=>
   revert wr;intro c hrel;obtain⟨j,f,p,rfl,ho,o,Ar⟩:=hrel;have hsz:=o.size;obtain⟨qs,Vi⟩:=ho;have C:=Vi.2.1;obtain⟨oa,oc,rfl,Kk⟩:=aB C;have a1:f.length<=10000:=by rw[Ar.out,fN];omega
   by_cases hlt:j<a.alts.length
   ·obtain⟨K,rfl⟩:∃K,d=K+1:=by
     cases d with
     |zero=>have:=hA.2;rw[this]at hlt;simp at hlt
     |succ K=>exact⟨K,rfl⟩
    have ab:aM YP (K+1) F c _ a.alts:=aM.move (fun b hb=>o.block b (h.lt b (Z b hb))) (fun _ h=>h) hA;obtain⟨I,az,V,hv,W,X,U⟩:=Seq.at ab (fun _=>rfl) hlt;cases hv;have L:j<y.length:=by omega
    obtain⟨M,l,N⟩:=v j hlt L;have T:w.cell? ⟨I,j*2,none⟩=some V:=by
     have:c.cell? ⟨I,j*2,none⟩=some V:=U 0 (by decide)
     rwa [cJ (w:=w) (o.block I (h.lt I (Z I W)))]at this
    have Oc:=N V T;have jZ:Hid (y.take (j+1)=f++[y[j]]):=by show _=_;rw[Ar.out,ff L]
    generalize a.alts[j]=x at X U M l Oc;generalize y[j]=rr at l Oc jZ;obtain⟨its,prec,pa⟩:=x;have ae:jG YP K F c V its:=X;obtain⟨ia,Y,rfl,a0⟩:=Seq.len X;have c0:c.cell? ⟨I,j*2,none⟩=some (.slice ia its.length Y):=U 0 (by decide);have c1:c.cell? ⟨I,j*2+1,none⟩=some (.string prec):=U 1 (by decide);obtain⟨z,t⟩:∃z,z=c.alloc (.cells #[.slice ia its.length Y,.string prec] 269):=⟨_,rfl⟩;have J:Below c.heap.size c z:=by rw[t];exact(cV _ _).alloc (zL0) _
    have ar:z.heap.size=c.heap.size+1:=by rw[t];simp
    have dY:Below w.heap.size w z:=o.trans (J.mono hsz);have q1:=YX (h.below dY) its _ (jG.move (fun b hb=>J.block b (dd (h.lt b (Z b hb)) hsz)) (fun _ h=>h) ae) Z rr l (fun k p=>Oc k p (by rw[l];exact p)) M prec;have kl:aj z c.heap.size #[.slice ia its.length Y,.string prec] 269:=by rw[t];exact aj.new c _ 269
    have l0:z.cell? ⟨c.heap.size,0,none⟩=some (.slice ia its.length Y):=kl.cell 0;have l1:z.cell? ⟨c.heap.size,1,none⟩=some (.string prec):=kl.cell 1;have aq:Hid (rr.length=(its,prec,pa).1.length):=l;clear U X N Oc v T l;go_wp2_with fail;rw[<-t];clear t c0 c1 l0 l1;refine q1.mono ?_;rintro e w2⟨u,rfl,hu,Q⟩;obtain⟨ua,uc,rfl,-⟩:=aB hu;have a2:=Q.size;have TU:Below c.heap.size c w2:=J.trans (Q.mono (by omega));have an:=own_below C TU;clear q1
    go_wp2_with (at_builtin;go_loud (refine ge _ rfl _ _ 49 rfl w.heap.size 22 i0 _ 1 24 Tryz.afk ap af ag aa rfl (by decide) (.slice oa f.length oc) _ _ rfl (an.alloc _) ⟨_,0,none⟩ 1 1 [.slice ua rr.length uc] rfl rfl (dI (aj.new _ _ 22)) (by simp[Value.oneCell']) (by unfold maxLen;omega) (by omega) (by simp;omega) ?_;intro v5 w5 r bF _ lG;obtain⟨l7,l8,ak,-⟩:=aB r;subst ak))
    have ac:Below w.heap.size w w5:=((o.trans (TU.mono hsz)).alloc (by omega) _).grown bF (by simp;omega) (fun k p=>(C.lt k p).1);have ai:=sw.push Vi hsz TU (jc hu (by omega)) r bF lG;go_roundg (a.alts.length - (j+1))
    case measure=>omega
    case rel=>exact⟨j+1,_,by omega,by go_num,ai,ac,jZ.out.symm⟩
   ·have:j=a.alts.length:=by omega
    subst this;have al:Hid (f=y):=by have:=Ar.out;rw[<-ah,ft]at this;exact this
    clear Ar;go_wp2_with fail;go_ret;refine⟨_,rfl,?_,o⟩;rw[<-al.out];exact⟨qs,Vi⟩
 ·have ad:((a.kind:Int) != 2)=true:=j8.2 (by omega)
  have av:¬(a.kind:Int)=2:=by omega
  obtain⟨s,v,hs⟩:=A p;have ao:Hid (y=[[s]]):=v;clear p A E v;have am:=SMap.look (w:=w.drew) (h.sm.move rfl) a.name;rw[hs]at am;have d5:w.drew.cell? ⟨R,5,none⟩=some (.map (some S)):=h.cells.2.1;have dn:w.drew.cell? ⟨n,m*4+1,none⟩=some (.string a.name):=O;clear hs;have m5:=h.cells.2.1;have n1:=World.new_ne w ⟨R,5,none⟩ m5;have n2:=World.new_ne w ⟨n,m*4+1,none⟩ O;go_wp2_with fail
  go_region_held3 (fun w'=>w'.cell? ⟨R,5,none⟩=some (.map (some S))/\w'.cell? ⟨n,m*4+1,none⟩=some (.string a.name)) (go_keep) (fail)
  go_wp2_with fail;go_ret;refine⟨_,rfl,?_,(((cV _ _).alloc (zL0) _).alloc (by simp) _).drew⟩;rw[ao.out];have ka:=((aj.new w #[.int .i64 (s:Int)] 3).alloc (.cells #[.slice (some ⟨w.heap.size,0,none⟩) 1 1] 22)).drew;have kb:aj ((w.alloc (.cells #[.int .i64 (s:Int)] 3)).alloc (.cells #[.slice (some ⟨w.heap.size,0,none⟩) 1 1] 22)).drew (w.heap.size+1) #[.slice (some ⟨w.heap.size,0,none⟩) 1 1] 22:=by simpa using (aj.new (w.alloc (.cells #[.int .i64 (s:Int)] 3)) #[.slice (some ⟨w.heap.size,0,none⟩) 1 1] 22).drew
  refine⟨[(.slice (some ⟨w.heap.size,0,none⟩) 1 1,[s])],rfl,?_,?_,?_⟩
  ·exact⟨rfl,.inr ⟨w.heap.size+1,1,_,rfl,by omega,kb,zL0,by decide,rfl,rfl⟩⟩
  ·intro q B
   rw[cM.1 B];exact⟨rfl,.inr ⟨w.heap.size,1,_,rfl,by omega,ka,zL0,by decide,rfl,rfl⟩⟩
  ·intro q B g W
   rw[cM.1 B]at W;simp[Value.ownBlock]at W|-;omega
theorem Mp.more{D G:Nat->Prop}{w w':World}{s S H:Nat}{ta:Option Addr}{nT tc:Nat}{p vB vK:Value}{m:ByteArray->Int}{n:Addr->Int}{P:List Lx.Pd}(h:Mp D G w s S H ta nT tc p vB vK m n P)(c:Below w.heap.size w w'):Mp (More D w w') G w' s S H ta nT tc p vB vK m n P:=by
 have lm:=h.lm;obtain⟨⟨z,h1,⟨v,x,r,l,u⟩,h3⟩,B,A,o,t,y,i,j⟩:=h;refine⟨⟨z,(c.block _ h1.lt).trans h1,⟨v,x,own_below r c,fun q k=>⟨own_below (l q k).1 c,fun g f=>⟨.inl ((l q k).2 g f).1,((l q k).2 g f).2⟩⟩,u⟩,fun g f=>⟨?_,(h3 g f).2⟩⟩,B.move (c.block _ (i _ o)),A.move (c.block _ (i _ t)),.inl o,.inl t,?_,?_,fun b d=>⟨.inl (j b d).1,(j b d).2.move (c.block b (i b (j b d).1))⟩⟩
 ·rintro(a | a)
  ·exact(h3 g f).1 a
  ·have:=(r.lt g f).2;omega
 ·rintro(a | a)
  ·exact y a
  ·omega
 ·rintro g(a | a)
  ·exact dd (i g a) c.size
  ·exact a.2
theorem aaD{B:Nat}{w:World}{u:Value}{s:Nat}{r:List Nat}(c:IR B w u r)(i:B<=w.heap.size):sw B ((w.alloc (.cells #[.int .i64 (s:Int)] 3)).alloc (.cells #[.slice (some ⟨w.heap.size,0,none⟩) 1 1,u] 22)) (.slice (some ⟨w.heap.size+1,0,none⟩) 2 2) [[s],r]:=by
 have f:=(aj.new w #[.int .i64 (s:Int)] 3).alloc (.cells #[.slice (some ⟨w.heap.size,0,none⟩) 1 1,u] 22);have d:aj ((w.alloc (.cells #[.int .i64 (s:Int)] 3)).alloc (.cells #[.slice (some ⟨w.heap.size,0,none⟩) 1 1,u] 22)) (w.heap.size+1) #[.slice (some ⟨w.heap.size,0,none⟩) 1 1,u] 22:=by simpa using aj.new (w.alloc (.cells #[.int .i64 (s:Int)] 3)) #[.slice (some ⟨w.heap.size,0,none⟩) 1 1,u] 22
 refine⟨[(.slice (some ⟨w.heap.size,0,none⟩) 1 1,[s]),(u,r)],rfl,?_,?_,?_⟩
 ·exact⟨rfl,.inr ⟨w.heap.size+1,2,_,rfl,by omega,d,zL0,by decide,rfl,rfl⟩⟩
 ·intro q a
  rcases ee.1 a with rfl|a
  ·exact⟨rfl,.inr ⟨w.heap.size,1,_,rfl,i,f,zL0,by decide,rfl,rfl⟩⟩
  ·rw[cM.1 a]
   exact(World.ownsRow.alloc c _).alloc _
 ·intro q a g b e
  have k:w.heap.size+1=g:=by simpa [Value.ownBlock]using e
  rcases ee.1 a with rfl|a
  ·have j:w.heap.size=g:=by simpa [Value.ownBlock]using b
   omega
  ·rw[cM.1 a]at b
   have:=(c.lt g b).2;omega
def uU(D G:Nat->Prop)(w:World)(mb S H:Nat)(ta:Option Addr)(nT tc:Nat)(vN vB vK:Value)(fS:ByteArray->Int)(fH:Addr->Int)(P:List Lx.Pd)(w':World):Prop:=∃D',(∀g,D g->D' g)/\Mp D' G w' mb S H ta nT tc vN vB vK fS fH P/\Kp D w w'
theorem uU.trans{D D' G:Nat->Prop}{w w' a:World}{f S H:Nat}{ta:Option Addr}{nT tc:Nat}{d vB vK:Value}{b:ByteArray->Int}{i:Addr->Int}{P:List Lx.Pd}(c:∀g,D g->D' g)(k:Kp D w w')(h:uU D' G w' f S H ta nT tc d vB vK b i P a):uU D G w f S H ta nT tc d vB vK b i P a:=by
 obtain⟨j,h1,h2,h3⟩:=h;exact⟨j,fun g l=>h1 g (c g l),h2,k.trans h3 c⟩
theorem aeL{D F G:Nat->Prop}{w:World}{O S H:Nat}{ta:Option Addr}{nT tc:Nat}{vN vB vK:Value}{V:ByteArray->Int}{N:Addr->Int}{P:List Lx.Pd}(h:Mp D G w O S H ta nT tc vN vB vK V N P){n m d:Nat}{l:Lx.It}{va:Value}(hi:pE w n m l)(ae:G n)(ao:w.cell? ⟨n,m*4+3,none⟩=some va)(hA:aM YP d F w va l.alts)(hF:∀b,F b->D b)(c:List (List Nat))(an:l.kind≠2->∃s:Nat,c=[[s]]/\V l.name=(s:Int))(ap:l.kind=2->Sm w G V N (aQ va) l.alts c)(Q:l.alts.length<=10000)(s:Nat)(hs:N ⟨n,m*4,none⟩=(s:Int))(a3:c.length<=10000)(U:∀r∈c,r.length<=10000)(hP:P.length<=500000000000):
  Calls prog 129 #[.pointer (some ⟨O,0,none⟩),.pointer (some ⟨n,m*4,none⟩)] w fun e w'=>e=.returned (.tuple #[])/\uU D G w O S H ta nT tc vN vB vK V N (P++nL nT s l.mark c) w':=by
 have J:=(h.gc n ae).1;have am:=tH.look (w:=w.drew) (f:=N) (h.pm.move rfl) (fun b hb=>(h.gc b hb).2.move (w':=w.drew) rfl) (a:=⟨n,m*4,none⟩) ae;rw[hs]at am;have hd:Mp D G w.drew O S H ta nT tc vN vB vK V N P:=h.below ((cV _ _).drew);have aw:aM YP d F w.drew va l.alts:=by
  refine aM.move (w:=w) ?_ (fun _ h=>h) hA;intro _ _;rfl
 have q1:=agW hd (hi.move rfl) ao aw hF c an (fun e=>ap e) Q;have d6:w.drew.cell? ⟨O,6,none⟩=some (.map (some H)):=hd.cells.2.2;go_enter func129,ntmps129;go_wp2_with fail
 go_region_held3 (fun w'=>w'.cell? ⟨O,6,none⟩=some (.map (some H))) (first | go_keep | assumption) ((go_at_call 165;refine q1.mono ?_;rintro e w1⟨u1,rfl,M,ac⟩;have h1:=hd.below ac;have S1:w1.cell? ⟨O,6,none⟩=some (.map (some H)):=h1.cells.2.2;have a1:=tH.look (w:=w1) (f:=N) h1.pm (fun b hb=>(h1.gc b hb).2) (a:=⟨n,m*4,none⟩) ae;rw[hs]at a1))
 all_goals
  obtain⟨ua,uc,rfl,-⟩:=M.len;have dY:Below w.heap.size w w1:=((cV w.heap.size w).drew).trans ac;have ab:=h.more dY;have yT:Kp D w w1:=Kp.below dY h.lt;have mk1:w1.cell? ⟨n,m*4+2,none⟩=some (.int .u8 (l.mark:Int)):=(cJ (w:=w) (dY.block n (h.lt n J))).trans hi.mark;have O4:Kp (More D w w1) w1 w1:=Kp.refl _ _;clear am q1 d6 h1 aw hd an ap hA ao Q
  by_cases Cr:l.mark=42
  ·skip
   have ah:((l.mark:Int) == 42)=true:=by simp[Cr]
   have ak:((l.mark:Int) != 42)=false:=by simp[Cr]
   have ag:((l.mark:Int) == 43)=false:=zB0 (by omega);have tY:((l.mark:Int) != 43)=true:=j8.2 (by omega);have ar:¬(l.mark:Int)=43:=(by omega);have al:((l.mark:Int) == 63)=false:=zB0 (by omega);have ad:((l.mark:Int) != 63)=true:=j8.2 (by omega);have av:¬(l.mark:Int)=63:=(by omega);have Eh:Hid (l.mark=42):=Cr;clear Cr;go_wp2_with fail;refine(zP ab s (.slice none 0 0) [] (eE _ _ _ _) (by simp) (by omega)).mono ?_;rintro e wA⟨rfl,DA,Kq,Vj,Ct⟩;have Kr:Kp (More D w w1) w1 wA:=O4.trans Ct fun g p=>p
   have TV:∀g,More D w w1 g->DA g:=fun g p=>Kq g (p)
   have a2:wA.cell? ⟨n,m*4+2,none⟩=some (.int .u8 (l.mark:Int)):=(cJ (w:=w1) (Kr.block n (.inl J))).trans mk1;clear Ct Kq;go_wp2_with fail
   go_loopg [64] c.length (fun k i wr=>∃(j:Nat)(E:Nat->Prop),j+k=c.length/\i=.int .i64 j/\(∀g,More D w w1 g->E g)/\Mp E G wr O S H ta nT tc vN vB vK V N ((P++[bM nT s []])++(c.take j).map (fun r=>bM nT s (s::r)))/\Kp (More D w w1) w1 wr)
   case atStart=>exact⟨0,_,by omega,rfl,TV,by simpa using Vj,Kr⟩
   case round=>
    obtain⟨j,E,A,rfl,t,v,o⟩:=hrel;have R:wr.cell? ⟨n,m*4+2,none⟩=some (.int .u8 (l.mark:Int)):=(cJ (w:=w1) (o.block n (.inl J))).trans mk1
    by_cases hlt:j<c.length
    ·have C:=M.move (w':=wr) fun g p Q=>o.block g (.inr ⟨p,Q⟩)
     obtain⟨gP,Od,u,Y,Z,aa,hc,y⟩:=C.at hlt;cases Y;have z:=U c[j] (dy hlt);have q:(c.take (j+1)).map (fun r=>bM nT s (s::r))=(c.take j).map (fun r=>bM nT s (s::r))++[bM nT s (s::c[j])]:=by rw[ff hlt,ei];rfl
     have L:Hid _:=q;have l9:((P++[bM nT s []])++(c.take j).map (fun r=>bM nT s (s::r))).length<=600000000000:=by simp;omega
     generalize c[j]=x at hc y z L;obtain⟨xa,xc,rfl,-⟩:=aB y;clear q R;have af:w.heap.size<=wr.heap.size:=dg ac.size o.size;have T:=aaD (s:=s) y (show w.drew.heap.size<=wr.heap.size from af);have B:([[s],x]:List (List Nat)).flatten=s::x:=by simp
     have K:=YZ T (by rw[B];simp) (by rw[B,el];omega);rw[B]at K;have dM:Below wr.heap.size wr ((wr.alloc (.cells #[.int .i64 (s:Int)] 3)).alloc (.cells #[.slice (some ⟨wr.heap.size,0,none⟩) 1 1,.slice xa x.length xc] 22)):=(((cV _ _).alloc (zL0) _).alloc (by simp) _);go_wp2_with fail;refine K.mono ?_;rintro e w4⟨u4,rfl,Eg,ai⟩;obtain⟨ya,yc,rfl,-⟩:=aB Eg;have pY:Below wr.heap.size wr w4:=dM.trans (ai.mono dM.size);have q3:=zP (v.below pY) s _ (s::x) (jc Eg (eR _)) (by rw[el];omega) (by omega);clear K T dM B;go_wp2_with fail;refine q3.mono ?_;rintro e w5⟨rfl,W,X,eP,I⟩;clear q3;go_wp2_with fail;go_roundg (c.length - (j+1))
     case measure=>omega
     case rel=>exact⟨j+1,W,by omega,by go_num,fun g p=>X g (t g p),by rw[L.out,<-dq];exact eP,(o.trans (Kp.below pY (D:=fun g=>g<wr.heap.size) fun g p=>p) fun g p=>v.lt g (t g p)).trans I t⟩
    ·have:j=c.length:=by omega
     subst this;rw[ft]at v;clear A hlt;go_wp2_with fail
     go_end0
     refine⟨rfl,uU.trans (fun g p=>.inl p) yT ⟨_,t,?_,o⟩⟩;have e9:P++nL nT s l.mark c=(P++[bM nT s []])++c.map (fun r=>bM nT s (s::r)):=by rw[Eh.out];simp[nL]
     rw[e9];exact v
  ·by_cases h63:l.mark=63
   ·skip
    have ah:((l.mark:Int) == 42)=false:=zB0 (by omega);have ak:((l.mark:Int) != 42)=true:=j8.2 (by omega);have aq:¬(l.mark:Int)=42:=(by omega);have ag:((l.mark:Int) == 43)=false:=zB0 (by omega);have tY:((l.mark:Int) != 43)=true:=j8.2 (by omega);have ar:¬(l.mark:Int)=43:=(by omega);have al:((l.mark:Int) == 63)=true:=by simp[h63]
    have ad:((l.mark:Int) != 63)=false:=by simp[h63]
    have Eh:Hid (l.mark=63):=h63;clear h63 Cr;go_wp2_with fail;refine(zP ab s (.slice none 0 0) [] (eE _ _ _ _) (by simp) (by omega)).mono ?_;rintro e wA⟨rfl,DA,Kq,Vj,Ct⟩;have Kr:Kp (More D w w1) w1 wA:=O4.trans Ct fun g p=>p
    have TV:∀g,More D w w1 g->DA g:=fun g p=>Kq g (p)
    have a2:wA.cell? ⟨n,m*4+2,none⟩=some (.int .u8 (l.mark:Int)):=(cJ (w:=w1) (Kr.block n (.inl J))).trans mk1;clear Ct Kq;go_wp2_with fail
    go_loopg [41] c.length (fun k i wr=>∃(j:Nat)(E:Nat->Prop),j+k=c.length/\i=.int .i64 j/\(∀g,More D w w1 g->E g)/\Mp E G wr O S H ta nT tc vN vB vK V N ((P++[bM nT s []])++(c.take j).map (bM nT s))/\Kp (More D w w1) w1 wr)
    case atStart=>exact⟨0,_,by omega,rfl,TV,by simpa using Vj,Kr⟩
    case round=>
     obtain⟨j,E,A,rfl,t,v,o⟩:=hrel;have R:wr.cell? ⟨n,m*4+2,none⟩=some (.int .u8 (l.mark:Int)):=(cJ (w:=w1) (o.block n (.inl J))).trans mk1
     by_cases hlt:j<c.length
     ·have C:=M.move (w':=wr) fun g p Q=>o.block g (.inr ⟨p,Q⟩)
      obtain⟨gP,Od,u,Y,Z,aa,hc,y⟩:=C.at hlt;cases Y;have z:=U c[j] (dy hlt);have q:(c.take (j+1)).map (bM nT s)=(c.take j).map (bM nT s)++[bM nT s c[j]]:=by rw[ff hlt,ei];rfl
      have L:Hid _:=q;have l9:((P++[bM nT s []])++(c.take j).map (bM nT s)).length<=600000000000:=by simp;omega
      generalize c[j]=x at hc y z L;obtain⟨xa,xc,rfl,-⟩:=aB y;clear q R;have K:=zP v s _ x (jc y (eR _)) (by omega) (by omega);go_wp2_with fail;refine K.mono ?_;rintro e w5⟨rfl,W,X,eP,I⟩;clear K;go_wp2_with fail;go_roundg (c.length - (j+1))
      case measure=>omega
      case rel=>exact⟨j+1,W,by omega,by go_num,fun g p=>X g (t g p),by rw[L.out,<-dq];exact eP,o.trans I t⟩
     ·have:j=c.length:=by omega
      subst this;rw[ft]at v;clear A hlt;go_wp2_with fail
      go_end0
      refine⟨rfl,uU.trans (fun g p=>.inl p) yT ⟨_,t,?_,o⟩⟩;have e9:P++nL nT s l.mark c=(P++[bM nT s []])++c.map (bM nT s):=by rw[Eh.out];simp[nL]
      rw[e9];exact v
   ·by_cases h43:l.mark=43
    ·skip
     have ah:((l.mark:Int) == 42)=false:=zB0 (by omega);have ak:((l.mark:Int) != 42)=true:=j8.2 (by omega);have aq:¬(l.mark:Int)=42:=(by omega);have ag:((l.mark:Int) == 43)=true:=by simp[h43]
     have tY:((l.mark:Int) != 43)=false:=by simp[h43]
     have al:((l.mark:Int) == 63)=false:=zB0 (by omega);have ad:((l.mark:Int) != 63)=true:=j8.2 (by omega);have av:¬(l.mark:Int)=63:=(by omega);have Eh:Hid (l.mark=43):=h43;clear h63 Cr h43;go_wp2_with fail
     go_loopg [41] c.length (fun k i wr=>∃(j:Nat)(E:Nat->Prop),j+k=c.length/\i=.int .i64 j/\(∀g,More D w w1 g->E g)/\Mp E G wr O S H ta nT tc vN vB vK V N (P++(c.take j).map (bM nT s))/\Kp (More D w w1) w1 wr)
     case atStart=>exact⟨0,_,by omega,rfl,fun g p=>p,by simpa using ab,O4⟩
     case round=>
      obtain⟨j,E,A,rfl,t,v,o⟩:=hrel;have R:wr.cell? ⟨n,m*4+2,none⟩=some (.int .u8 (l.mark:Int)):=(cJ (w:=w1) (o.block n (.inl J))).trans mk1
      by_cases hlt:j<c.length
      ·have C:=M.move (w':=wr) fun g p Q=>o.block g (.inr ⟨p,Q⟩)
       obtain⟨gP,Od,u,Y,Z,aa,hc,y⟩:=C.at hlt;cases Y;have z:=U c[j] (dy hlt);have q:(c.take (j+1)).map (bM nT s)=(c.take j).map (bM nT s)++[bM nT s c[j]]:=by rw[ff hlt,ei];rfl
       have L:Hid _:=q;have l9:(P++(c.take j).map (bM nT s)).length<=600000000000:=by simp;omega
       generalize c[j]=x at hc y z L;obtain⟨xa,xc,rfl,-⟩:=aB y;clear q R;have K:=zP v s _ x (jc y (eR _)) (by omega) (by omega);go_wp2_with fail;refine K.mono ?_;rintro e w5⟨rfl,W,X,eP,I⟩;clear K;go_wp2_with fail;go_roundg (c.length - (j+1))
       case measure=>omega
       case rel=>exact⟨j+1,W,by omega,by go_num,fun g p=>X g (t g p),by rw[L.out,<-dq];exact eP,o.trans I t⟩
      ·have:j=c.length:=by omega
       subst this;rw[ft]at v;clear A hlt;have a4:=R;have a0:=v;have az:=o;have ax:=t;clear R v o t;go_wp2_with fail
       go_loopg [64] c.length (fun k i wr=>∃(j:Nat)(E:Nat->Prop),j+k=c.length/\i=.int .i64 j/\(∀g,More D w w1 g->E g)/\Mp E G wr O S H ta nT tc vN vB vK V N ((P++c.map (bM nT s))++(c.take j).map (fun r=>bM nT s (s::r)))/\Kp (More D w w1) w1 wr)
       case atStart=>exact⟨0,_,by omega,rfl,ax,by simpa using a0,az⟩
       case round=>
        obtain⟨j,E,A,rfl,t,v,o⟩:=hrel;have R:wr.cell? ⟨n,m*4+2,none⟩=some (.int .u8 (l.mark:Int)):=(cJ (w:=w1) (o.block n (.inl J))).trans mk1
        by_cases hlt:j<c.length
        ·have C:=M.move (w':=wr) fun g p Q=>o.block g (.inr ⟨p,Q⟩)
         obtain⟨gP,Od,u,Y,Z,aa,hc,y⟩:=C.at hlt;cases Y;have z:=U c[j] (dy hlt);have q:(c.take (j+1)).map (fun r=>bM nT s (s::r))=(c.take j).map (fun r=>bM nT s (s::r))++[bM nT s (s::c[j])]:=by rw[ff hlt,ei];rfl
         have L:Hid _:=q;have l9:((P++c.map (bM nT s))++(c.take j).map (fun r=>bM nT s (s::r))).length<=600000000000:=by simp;omega
         generalize c[j]=x at hc y z L;obtain⟨xa,xc,rfl,-⟩:=aB y;clear q R;have af:w.heap.size<=wr.heap.size:=dg ac.size o.size;have T:=aaD (s:=s) y (show w.drew.heap.size<=wr.heap.size from af);have B:([[s],x]:List (List Nat)).flatten=s::x:=by simp
         have K:=YZ T (by rw[B];simp) (by rw[B,el];omega);rw[B]at K;have dM:Below wr.heap.size wr ((wr.alloc (.cells #[.int .i64 (s:Int)] 3)).alloc (.cells #[.slice (some ⟨wr.heap.size,0,none⟩) 1 1,.slice xa x.length xc] 22)):=(((cV _ _).alloc (zL0) _).alloc (by simp) _);go_wp2_with fail;refine K.mono ?_;rintro e w4⟨u4,rfl,Eg,ai⟩;obtain⟨ya,yc,rfl,-⟩:=aB Eg;have pY:Below wr.heap.size wr w4:=dM.trans (ai.mono dM.size);have q3:=zP (v.below pY) s _ (s::x) (jc Eg (eR _)) (by rw[el];omega) (by omega);clear K T dM B;go_wp2_with fail;refine q3.mono ?_;rintro e w5⟨rfl,W,X,eP,I⟩;clear q3;go_wp2_with fail;go_roundg (c.length - (j+1))
         case measure=>omega
         case rel=>exact⟨j+1,W,by omega,by go_num,fun g p=>X g (t g p),by rw[L.out,<-dq];exact eP,(o.trans (Kp.below pY (D:=fun g=>g<wr.heap.size) fun g p=>p) fun g p=>v.lt g (t g p)).trans I t⟩
        ·have:j=c.length:=by omega
         subst this;rw[ft]at v;clear A hlt;go_wp2_with fail
         go_end0
         refine⟨rfl,uU.trans (fun g p=>.inl p) yT ⟨_,t,?_,o⟩⟩;have e9:P++nL nT s l.mark c=(P++c.map (bM nT s))++c.map (fun r=>bM nT s (s::r)):=by rw[Eh.out];simp[nL]
         rw[e9];exact v
    ·skip
     have ah:((l.mark:Int) == 42)=false:=zB0 (by omega);have ak:((l.mark:Int) != 42)=true:=j8.2 (by omega);have aq:¬(l.mark:Int)=42:=(by omega);have ag:((l.mark:Int) == 43)=false:=zB0 (by omega);have tY:((l.mark:Int) != 43)=true:=j8.2 (by omega);have ar:¬(l.mark:Int)=43:=(by omega);have al:((l.mark:Int) == 63)=false:=zB0 (by omega);have ad:((l.mark:Int) != 63)=true:=j8.2 (by omega);have av:¬(l.mark:Int)=63:=(by omega);have Eh:Hid (nL nT s l.mark c=c.map (bM nT s)):=by show _=_;simp[nL,Cr,h63,h43]
     clear h63 Cr h43;go_wp2_with fail
     go_loopg [41] c.length (fun k i wr=>∃(j:Nat)(E:Nat->Prop),j+k=c.length/\i=.int .i64 j/\(∀g,More D w w1 g->E g)/\Mp E G wr O S H ta nT tc vN vB vK V N (P++(c.take j).map (bM nT s))/\Kp (More D w w1) w1 wr)
     case atStart=>exact⟨0,_,by omega,rfl,fun g p=>p,by simpa using ab,O4⟩
     case round=>
      obtain⟨j,E,A,rfl,t,v,o⟩:=hrel;have R:wr.cell? ⟨n,m*4+2,none⟩=some (.int .u8 (l.mark:Int)):=(cJ (w:=w1) (o.block n (.inl J))).trans mk1
      by_cases hlt:j<c.length
      ·have C:=M.move (w':=wr) fun g p Q=>o.block g (.inr ⟨p,Q⟩)
       obtain⟨gP,Od,u,Y,Z,aa,hc,y⟩:=C.at hlt;cases Y;have z:=U c[j] (dy hlt);have q:(c.take (j+1)).map (bM nT s)=(c.take j).map (bM nT s)++[bM nT s c[j]]:=by rw[ff hlt,ei];rfl
       have L:Hid _:=q;have l9:(P++(c.take j).map (bM nT s)).length<=600000000000:=by simp;omega
       generalize c[j]=x at hc y z L;obtain⟨xa,xc,rfl,-⟩:=aB y;clear q R;have K:=zP v s _ x (jc y (eR _)) (by omega) (by omega);go_wp2_with fail;refine K.mono ?_;rintro e w5⟨rfl,W,X,eP,I⟩;clear K;go_wp2_with fail;go_roundg (c.length - (j+1))
       case measure=>omega
       case rel=>exact⟨j+1,W,by omega,by go_num,fun g p=>X g (t g p),by rw[L.out,<-dq];exact eP,o.trans I t⟩
      ·have:j=c.length:=by omega
       subst this;rw[ft]at v;clear A hlt;go_wp2_with fail
       go_end0
       refine⟨rfl,uU.trans (fun g p=>.inl p) yT ⟨_,t,?_,o⟩⟩;rw[Eh.out];exact v
theorem I8{w:World}{B e z:Nat}{v:Value}{n:Nat}{o:List Value}(h:w.ownsRow B e z v n o){g:Nat}(b:v.ownBlock=some g)(i:Nat)(u:Value):(w.setCell ⟨g,i,none⟩ u).ownsRow B e z v n (o.set i u):=by
 refine⟨by rw[ib];exact h.1,?_⟩;rcases h.2 with q|⟨j,f,a,m,r,p,l,c,k,d⟩
 ·rw[q.1]at b;simp[Value.ownBlock]at b
 ·have:j=g:=by rw[m]at b;simpa [Value.ownBlock]using b
  subst this;have s:aj w j a e:=p;refine .inr ⟨j,f,a.setIfInBounds i u,m,r,s.set i u,l,c,by simpa using k,?_⟩;rw[Array.toList_setIfInBounds,List.take_set,d]
theorem Mp.akX{D G:Nat->Prop}{w:World}{r S H:Nat}{ta:Option Addr}{nT tc:Nat}{Q vB vK:Value}{F:ByteArray->Int}{K:Addr->Int}{P:List Lx.Pd}{q:Lx.Pd}(h:Mp D G w r S H ta nT tc Q vB vK F K (P++[q])):∃g c,w.cell? ⟨r,2,none⟩=some (.slice (some ⟨g,0,none⟩) (P.length+1) c)/\¬D g/\g≠r/\(∃o,w.cell? ⟨g,P.length*3+2,none⟩=some (.int .i64 o))/\(∀i,w.frozen? ⟨g,i,none⟩=false)/\∀v:Int,Mp D G (w.setCell ⟨g,P.length*3+2,none⟩ (.int .i64 v)) r S H ta nT tc Q vB vK F K (P++[⟨q.left,q.right,v⟩])/\Kp D w (w.setCell ⟨g,P.length*3+2,none⟩ (.int .i64 v)):=by
 obtain⟨⟨vP,h1,⟨L,z,u,N,B⟩,h3⟩,e1,X,O,R,V,Z,A⟩:=h;obtain⟨d,x,rfl⟩:∃d x,L=d++[x]:=by
  rcases List.eq_nil_or_concat L with rfl|⟨d,x,rfl⟩
  ·simp at z
  ·exact⟨d,x,by simp⟩
 rw[ei,jp,pH]at z;obtain⟨M,T⟩:=List.append_inj' z rfl;have m:x.2=q:=by simpa using T
 have t:d.length=P.length:=by rw[<-M,dt]
 obtain⟨g,c,rfl,-,Y⟩:=u.form (by simp);have j:=h3 g rfl;have s:(d++[x]).flatMap tX=d.flatMap tX++[.int .i64 (x.2.left:Int),x.1,.int .i64 x.2.prec]:=by rw[fL];simp[tX]
 have p:∀v:Int,((d++[x]).flatMap tX).set (P.length*3+2) (.int .i64 v)=(d++[(x.1,(⟨q.left,q.right,v⟩:Lx.Pd))]).flatMap tX:=fun v=>by
  rw[s,fL,mr _ _ (by rw[I5,t];omega),I5,t,show P.length*3+2-P.length*3=2 by omega];simp[tX,m]
 have k:w.cell? ⟨g,P.length*3+2,none⟩=some (.int .i64 x.2.prec):=by
  rw[u.cellAt (P.length*3+2) (by simp;omega),s,eJ (by rw[I5,t];omega),I5,t,show P.length*3+2-P.length*3=2 by omega];rfl
 have E:∀i,w.frozen? ⟨g,i,none⟩=false:=by
  rcases u.2 with U|⟨J,W,C,I,hB,hh,-⟩
  ·exact absurd U.2 (by simp)
  ·have:J=g:=by simp only[rm,lA,Addr.mk.injEq]at I;exact I.1.1.symm
   subst this;have f:aj w J C 120:=hh;exact f.frozen
 have bk:∀v:Int,∀b,b≠g->(w.setCell ⟨g,P.length*3+2,none⟩ (.int .i64 v)).heap[b]?=w.heap[b]?:=fun v b f=>zS0 f
 have l:∀v:Int,∀b,D b->(w.setCell ⟨g,P.length*3+2,none⟩ (.int .i64 v)).heap[b]?=w.heap[b]?:=fun v b f=>bk v b fun e=>j.1 (e▸f)
 refine⟨g,c,by have:=h1.cell 2;simpa using this,j.1,Nat.ne_of_gt j.2,⟨_,k⟩,E,fun v=>⟨⟨⟨_,(bk v r (fun e=>Nat.ne_of_gt j.2 e.symm)).trans h1,⟨d++[(x.1,(⟨q.left,q.right,v⟩:Lx.Pd))],?_,?_,?_,?_⟩,h3⟩,e1.move (l v S O),X.move (l v H R),O,R,V,fun b f=>by simpa [World.setCell]using Z b f,fun b f=>⟨(A b f).1,(A b f).2.move (l v b (A b f).1)⟩⟩,⟨rfl,rfl,rfl,by simp[World.setCell],l v⟩⟩⟩
 ·rw[ei,M];rfl
 ·have:=I8 u (g:=g) rfl (P.length*3+2) (.int .i64 v)
  rw[p]at this;simpa using this
 ·intro y n
  rcases cY.1 n with n|n
  ·have:=N y (rK _ n)
   exact⟨aC this.1 fun b f=>l v b (this.2 b f).1,this.2⟩
  ·rw[cM.1 n]
   have:=N x (by simp);rw[m]at this;exact⟨aC this.1 fun b f=>l v b (this.2 b f).1,this.2⟩
 ·rw[oS]at B|-
  exact⟨B.1,mw _ _,fun a ha b f=>by rw[cM.1 f];exact B.2.2 a ha x (by simp)⟩
namespace Lx
theorem XK(T N:List ByteArray)(b:Nat)(H:List It):∀(l:List It)(k:Nat)(x:It),oH T N b H k (l++[x])=oH T N b H k l++nL T.length (b+1+(k+l.length)) x.mark (partsOf T N b H x)
 | [],k,x=>by simp[oH]
 |y::l,k,x=>by
  rw[fX,oH,XK T N b H l (k+1) x,oH,dq,el,show k+1+l.length=k+(l.length+1) by omega]
end Lx
structure Cu(w:World)(F G:Nat->Prop)(fS:ByteArray->Int)(fH:Addr->Int)(T N:List ByteArray)(b:Nat)(Hs:List Lx.It)(p:AI):Prop where
 g:G p.1.block
 nm:p.2.kind≠2->fS p.2.name=(xq T N p.2:Int)
 len:p.2.alts.length<=10000
 lens:∀a∈p.2.alts,a.1.length<=10000
 sub:∃n m d va,p.1=⟨n,m*4,none⟩/\w.cell? ⟨n,m*4+3,none⟩=some va/\aM YP d F w va p.2.alts/\∀q∈aK d w va p.2.alts,G q.1.block/\z8 fS fH q=(yS T N b Hs q.2:Int)
theorem Cu.parts{w w':World}{F G:Nat->Prop}{p:ByteArray->Int}{y:Addr->Int}{T N:List ByteArray}{b:Nat}{i:List Lx.It}{n m:Nat}{c:Lx.It}(h:Cu w F G p y T N b i (⟨n,m*4,none⟩,c))(u:∀b,F b->w'.heap[b]?=w.heap[b]?)(J:F n):∃d va,w'.cell? ⟨n,m*4+3,none⟩=some va/\aM YP d F w' va c.alts/\(c.kind≠2->∃s:Nat,Lx.partsOf T N b i c=[[s]]/\p c.name=(s:Int))/\(c.kind=2->Sm w' G p y (aQ va) c.alts (Lx.partsOf T N b i c)):=by
 obtain⟨O,I,d,va,z,A,l,B⟩:=h.sub;have M:n=O:=by simpa using eS Addr.block z
 have E:m*4=I*4:=by simpa using eS Addr.off z
 subst M;rw[<-E]at A;refine⟨d,va,(cJ (w:=w) (u n J)).trans A,aM.move u (fun _ h=>h) l,fun h2=>⟨_,dk h2,h.nm h2⟩,fun h2=>?_⟩;have C:Lx.partsOf T N b i c=c.alts.map fun a=>ng T N b i a.1:=de h2
 rw[C];refine⟨by simp,fun k f K=>?_⟩;obtain⟨o,rfl⟩:∃o,d=o+1:=by
  cases d with
  |zero=>
   have v:c.alts=[]:=l.2;rw[v]at f;simp at f
  |succ o=>exact⟨o,rfl⟩
 obtain⟨x,P,L,j⟩:=abq l f;have t:F (aQ va):=(ET l f).1;refine⟨h.lens _ (dy f),by simp[ng],fun H g q r D=>?_⟩;have:H=x:=by
  have h3:w'.cell? ⟨aQ va,k*2,none⟩=some x:=(cJ (w:=w) (u _ t)).trans P;rw[h3]at g;exact(gh g).symm
 subst this;have:=B _ (j q r);refine⟨this.1,this.2.trans ?_⟩;simp[ng]
theorem ah6(a:Array Value)(w:World):(callFunc 129 a).run prog w=.ok (.enter 129 a) w:=by kernel_rfl
theorem agX{T N:List ByteArray}{b:Nat}{f:List Lx.It}{x:Lx.It}(h:∀a∈x.alts,a.1.length<=10000):∀r∈Lx.partsOf T N b f x,r.length<=10000:=by
 unfold Lx.partsOf
 split
 ·intro r c
  obtain⟨a,d,rfl⟩:=ej.1 c;unfold ng;rw[dt];exact h a d
 ·intro r c
  rw[cM.1 c];simp
theorem ae0{D F G:Nat->Prop}{w:World}{v S H:Nat}{ta:Option Addr}{tc:Nat}{O vB vK c:Value}{i:ByteArray->Int}{f:Addr->Int}{P:List Lx.Pd}{T N:List ByteArray}{b:Nat}{l:List Lx.Alt}(h:Mp D G w v S H ta T.length tc O vB vK i f P)(J:∀b,F b->D b)(V:aM YP 9 F w c l)(W:∀p∈aK 9 w c l,Cu w F G i f T N b (bB 9 l) p)(hH:∀k p,(hlA w c l)[k]?=some p->f p.1=((b+1+k:Nat):Int))(Z:(hlA w c l).length<=100000)(hP:P.length<=400000000000):
  Calls prog 118 #[c,.func (.func 124) #[] #[],.func (.func 129) #[.pointer (some ⟨v,0,none⟩)] #[]] w fun e w'=>e=.returned (.tuple #[])/\uU D G w v S H ta T.length tc O vB vK i f (P++oH T N b (bB 9 l) 0 (bB 9 l)) w':=by
 have u:∀p∈hlA w c l,p∈aK 9 w c l:=fun p r=>(ie.1 r).1
 have q:=RL 9 124 129 #[.pointer (some ⟨v,0,none⟩)] #[] Lx.hlp F w (fun L w'=>uU D G w v S H ta T.length tc O vB vK i f (P++oH T N b (bB 9 l) 0 (L.map Prod.snd)) w') (Cu w F G i f T N b (bB 9 l)) (hlA w c l) ZN ah6
  (fun w' n m A _ U=>Qt U)
  (fun w' L n m A I hn U aa j o=>by
   obtain⟨E,C,Y,z⟩:=I;obtain⟨R,o⟩:=o;have y:∀p∈L,p∈hlA w c l:=fun p r=>by rw[o];simp[r]
   have t:L.length<=100000:=by have:=Z;rw[o]at this;simp at this;omega
   have hs:=hH L.length (⟨n,m*4,none⟩,A) (by rw[o];simp);obtain⟨d,Co,K,Q,B,M⟩:=j.parts (w':=w') (fun b s=>z.block b (J b s)) hn;have X:(oH T N b (bB 9 l) 0 (L.map Prod.snd)).length<=100000*20001:=by
    refine dg (QE (n:=10000) (by omega) (L.map Prod.snd) 0 fun x hx=>?_) ?_
    ·obtain⟨p,r,rfl⟩:=ej.1 hx
     exact(W p (u p (y p r))).len
    ·rw[dt];exact j9 _ t
   refine(aeL Y U j.g K Q (fun b s=>C b (J b s)) (Lx.partsOf T N b (bB 9 l) A) B M j.len (b+1+L.length) hs (Yb j.len (by omega)) (agX j.lens) (by rw[cH];omega)).mono ?_;rintro e ab⟨rfl,a⟩;refine⟨rfl,?_⟩;rw[ei,jp,pH,XK,dt,fi,<-dq];exact uU.trans C z a)
  (fun L w' I b s=>by obtain⟨E,C,Y,z⟩:=I;exact z.block b (J b s))
  c l V W w [] ⟨D,fun _ h=>h,by simpa [oH]using h,Kp.refl _ _⟩ ⟨[],by simp[hlA]⟩
 refine q.mono ?_;rintro e w'⟨rfl,a⟩;refine⟨rfl,?_⟩;rw[go]at a;have e1:((aK 9 w c l).filter fun p=>Lx.hlp p.2).map Prod.snd=bB 9 l:=abp V;rw[e1]at a;exact a
end Go.Proofs.YtagkodkijkpemaaGreatDoor

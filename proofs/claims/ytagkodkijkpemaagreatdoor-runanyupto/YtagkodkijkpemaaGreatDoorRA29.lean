import Derived.Test.YtagkodkijkpemaaGreatDoorRA28
set_option maxHeartbeats 8000000
set_option maxRecDepth 1000000
namespace Go.Proofs.YtagkodkijkpemaaGreatDoor
open Lx Go.Proofs.Tryz
open Go.RowKit Tr
theorem ahb{w:World}{pd:Value}{st tk:Int}{s:Nat}{v:Value}{c:List Nat}(h:lD w v c)(q:Tb.lone (s,c)=true):Calls prog 67 #[pd,.int .i64 st,.int .i64 tk,.agg #[.int .i64 (s:Int),v]] w fun e w'=>e=.returned (.agg #[.int .i64 ((Tb.iK (s,c)).1:Int),.int .i64 ((Tb.iK (s,c)).2:Int)])/\Below w.heap.size w w':=by
 obtain⟨pa,pc,rfl,E⟩:=h;have h:lD w (.slice pa c.length pc) c:=⟨pa,pc,rfl,E⟩;clear E;unfold Tb.lone at q;simp only[j',oE,ii]at q;obtain⟨w2,d⟩:∃V,V=(w.alloc (.cells #[.int .i64 (s:Int),.slice pa c.length pc] 166)).alloc (.cells #[.int .i64 0,.int .i64 0] 42):=⟨_,rfl⟩;obtain⟨a,l⟩:∃b,w.heap.size=b:=⟨_,rfl⟩;have j:Below w.heap.size w w2:=by rw[d];exact((cV _ _).alloc (zL0) _).alloc (by simp) _
 have B:aj w2 a #[.int .i64 (s:Int),.slice pa c.length pc] 166:=by rw[d,<-l];exact(aj.new ..).alloc _
 have kR:aj w2 (a+1) #[.int .i64 0,.int .i64 0] 42:=by
  rw[d,<-l];have:=aj.new (w.alloc (.cells #[.int .i64 (s:Int),.slice pa c.length pc] 166)) #[.int .i64 0,.int .i64 0] 42
  rwa [fb]at this
 have G:w2.cell? ⟨a,0,none⟩=some (.int .i64 (s:Int)):=B.cell 0;have I:w2.cell? ⟨a,1,none⟩=some (.slice pa c.length pc):=B.cell 1;have F:=aha (w:=w2) (s:=s) (n:=c.length) (pa:=pa) (pc:=pc) q.1 q.2;have J:Hid (∀g,Below w2.heap.size w2 g->g.cell? ⟨a,0,none⟩=some (.int .i64 (s:Int))/\g.cell? ⟨a,1,none⟩=some (.slice pa c.length pc)/\aj g (a+1) #[.int .i64 0,.int .i64 0] 42/\lD g (.slice pa c.length pc) c/\Below w.heap.size w g):=fun g m=>⟨aV m G,aV m I,(m.block _ kR.lt).trans kR,(h.keep j).keep m,j.trans (m.mono j.size)⟩
 obtain⟨x,y,o⟩:∃x y,Tb.iK (s,c)=(x,y):=⟨_,_,rfl⟩;rw[o];have A:Hid (Tb.iK (s,c)=(x,y)):=o;have r:Hid (w.heap.size=a):=l;clear o h j B kR q;go_enter func67,ntmps67;go_upto_region 1 with fail
 rw[<-d];clear d l;go_upto_region 2 with (go_at_call 104;refine F.mono ?_;rintro e g⟨rfl,t⟩)
 obtain⟨O,P,C,u,f⟩:=J.out g t;have H:=afy (s:=s) u;rw[A.out]at H;have K:Hid (∀k,Below g.heap.size g k->aj k (a+1) #[.int .i64 0,.int .i64 0] 42/\Below w.heap.size w k):=fun k m=>⟨(m.block _ C.lt).trans C,f.trans (m.mono f.size)⟩
 clear J t F G I C u f
 go_wp2_with (go_at_call 105;refine H.mono ?_;rintro e k⟨rfl,D⟩;obtain⟨z,f⟩:=K.out k D;have M:k.cell? ⟨a+1,0,none⟩=some (.int .i64 0):=z.cell 0;have L:k.cell? ⟨a+1,1,none⟩=some (.int .i64 0):=z.cell 1;have N:∀i,k.frozen? ⟨a+1,i,none⟩=false:=z.frozen)
 exact pz rfl rfl ((z.set 0 _).set 1 _) (by kernel_rfl) (by kernel_rfl) ⟨rfl,(f.setCell (p:=⟨a+1,0,none⟩) (by rw[r.out];show a<=a+1;omega) _).setCell (p:=⟨a+1,1,none⟩) (by rw[r.out];show a<=a+1;omega) _⟩
theorem Tryz.alj:(prog.info? 121).map (fun i=>(i.zero,i.size,i.bytes))=some (some (.slice none 0 0),1,24):=by kernel_rfl
theorem Tryz.al7:(prog.info? 42).map (fun i=>(i.zero,i.size,i.bytes))=some (some (.agg #[.int .i64 0,.int .i64 0]),2,16):=by kernel_rfl
theorem Ru(n:Nat):madeCells #[.slice none 0 0] (n*1)=vA (List.replicate n (Value.slice none 0 0)):=by
 unfold madeCells vA;apply pN
 ·simp
 ·intro i h1 h2
  simp[Nat.mod_one]
theorem ajZ(n:Nat):(List.replicate n ((0,0):Nat×Nat)).flatMap eX=List.replicate (n*2) (.int .i64 0):=by
 induction n with
 |zero=>rfl
 |succ n ih=>
  rw[mT,du,ih,show (n+1)*2=n*2+1+1 by omega];rfl
theorem ae4{n:Nat}(g:n<=100000)(w:World):(Instr.makeSlice 48 (.int .i64 (n:Int)) (.int .i64 (n:Int))).run prog w=.ok (.slice (some ⟨w.heap.size,0,none⟩) n n) (w.alloc (.cells (vA (List.replicate n (Value.slice none 0 0))) 121)):=by
 obtain⟨d,f,b,a,c⟩:=fd Tryz.alj;have h:=pj (P:=prog) w 48 121 d _ (by kernel_rfl) f b .i64 .i64 (n:Int) (n:Int) (by omega) (nh _) (by rw[c];omega) (by omega);rw[h,gz,a];have e:Value.cells (.slice none 0 0)=#[.slice none 0 0]:=rfl;rw[e,Ru]
theorem ahc{n:Nat}(j:n<=100000)(w:World):(Instr.makeSlice 121 (.int .i64 (n:Int)) (.int .i64 (n:Int))).run prog w=.ok (.slice (some ⟨w.heap.size,0,none⟩) n n) (w.alloc (.cells ((List.replicate n ((0,0):Nat×Nat)).flatMap eX).toArray 42)):=by
 obtain⟨g,f,a,c,b⟩:=fd Tryz.al7;have h:=pj (P:=prog) w 121 42 g _ (by kernel_rfl) f a .i64 .i64 (n:Int) (n:Int) (by omega) (nh _) (by rw[b];omega) (by omega);rw[h,gz,c,ajZ];have e:Value.cells (.agg #[.int .i64 0,.int .i64 0])=#[.int .i64 0,.int .i64 0]:=rfl;rw[e];have d:madeCells #[.int .i64 0,.int .i64 0] (n*2)=(List.replicate (n*2) (Value.int .i64 0)).toArray:=by
  unfold madeCells;apply pN
  ·simp
  ·intro i h1 h2
   have:i % 2=0\/i % 2=1:=by omega
   rcases this with e|e <;> simp[e]
 rw[d]
theorem Yj:∀(l:List (Nat×Nat))(k:Nat)(x:Nat×Nat),((l.flatMap eX).set (k*2) (.int .i64 (x.1:Int))).set (k*2+1) (.int .i64 (x.2:Int))=(l.set k x).flatMap eX
 | [],k,x=>rfl
 |y::l,0,x=>rfl
 |y::l,k+1,x=>by
  rw[mv,du,du,<-Yj l k x,show (k+1)*2=k*2+1+1 by omega];rfl
abbrev ru(w:World):=tK 1 (rQ w 2 (La w))
theorem ru.keep{w w':World}{v:Value}{l:List (List (Nat×List Nat))}(h:ru w v l)(a:Below w.heap.size w w'):ru w' v l:=h.mono fun _ _ _=>rQ.keep a fun _ _ _=>La.keep a
namespace Tb
def nR(r:List (Nat×List Nat))(n k:Nat):List (Nat×Nat):=(r.take k).map iK++List.replicate (n-k) (0,0)
theorem aiy{r:List (Nat×List Nat)}{n k:Nat}{x:Nat×List Nat}(a:r[k]?=some x)(d:k<n):(nR r n k).set k (iK x)=nR r n (k+1):=by
 have c:=(cG.1 a).1;unfold nR;have b:((r.take k).map iK).length=k:=by rw[dt,fN];omega
 rw[mr _ _ (by omega),b,ij,show n-k=(n - (k+1))+1 by omega,mT,ms,mS,a,ei,dq];rfl
theorem aiz(r:List (Nat×List Nat)){n k:Nat}(a:r.length=n)(b:k<=n):(nR r n k).length=n:=by
 unfold nR;rw[cH,dt,fN,im];omega
end Tb
def V4(w:World)(C:List (List (Nat×Nat)))(e:Ending)(w':World):Prop:=∃v,e=.returned v/\Er w' v C/\Below w.heap.size w w'
theorem aiA{w:World}{d:Value}{vc:Value}{a:List (List (Nat×List Nat))}{n:Nat}(hc:ru w vc a)(hn:∀r∈a,r.length=n)(hl:∀r∈a,∀x∈r,Tb.lone x=true)(hS:a.length<=100000)(hN:n<=100000):Calls prog 38 #[d,vc] w (V4 w (a.map (List.map Tb.iK))):=by
 obtain⟨ca,cc,rfl,S⟩:=hc;obtain⟨c,iE⟩:∃b,w.heap.size=b:=⟨_,rfl⟩;obtain⟨w2,D⟩:∃V,V=w.alloc (.cells (vA (List.replicate a.length (Value.slice none 0 0))) 121):=⟨_,rfl⟩;have Z:Mx w c c 121 42 n a.length w2 [] []:=by rw[D,<-iE];exact Mx.new w n a.length (by decide)
 have E:=fun w=>ae4 (n:=a.length) hS w
 have F:=fun w=>ahc (n:=n) hN w
 have HC:Hid (∀wr,Below c w wr->∀(j:Nat)r,a[j]?=some r->∃g M xc,ca=some ⟨g,0,none⟩/\wr.cell? ⟨g,j,none⟩=some (.slice M n xc)/\∀l,Below c w l->∀(k:Nat)x,r[k]?=some x->∃h v,M=some ⟨h,0,none⟩/\l.cell? ⟨h,k*2,none⟩=some (.int .i64 (x.1:Int))/\l.cell? ⟨h,k*2+1,none⟩=some v/\lD l v x.2):=fun wr C j r hr=>by
  rw[<-iE]at C|-;obtain⟨g,e,v,h1,M,xc,h2,h3⟩:=S j r hr;rw[jt]at h1;rw[hn r (cQ hr)]at h2;subst h2;refine⟨g,M,xc,e,aV C h1,fun l J k x hx=>?_⟩;obtain⟨h,e2,h4,v,h5,h6⟩:=h3 k x hx;exact⟨h,v,e2,aV J h4,aV J h5,h6.keep J⟩
 have H0:Hid (∃f,f.length=0/\Mx w c c 121 42 n a.length w2 f (((a.take 0).map (List.map Tb.iK)).map (List.flatMap eX))):=⟨[],rfl,Z⟩;have HG:Hid (w.heap.size=c):=iE;clear S Z;go_enter func38,ntmps38;go_upto_region 2 with (simp only[E])
 rw[<-D];clear D iE;go_wp2_with fail
 go_loopw [15] (fun i wr=>∃j:Nat,j<=a.length/\i=.int .i64 (j:Int)/\Hid (∃f,f.length=j/\Mx w c c 121 42 n a.length wr f (((a.take j).map (List.map Tb.iK)).map (List.flatMap eX)))) (fun i _=>a.length - (intOf i).toNat)
 case atStart=>exact⟨0,by omega,rfl,H0⟩
 case round=>
  clear H0;obtain⟨j,hj,rfl,T⟩:=hrel;obtain⟨f,t,p⟩:=T.out;clear T
  by_cases hjn:j<a.length
  ·have j1:(j:Int)<(a.length:Int):=by omega
   obtain⟨r,hr⟩:∃r,a[j]?=some r:=⟨_,cF hjn⟩;obtain⟨g,M,xc,rfl,c1,hX⟩:=HC.out wr p.b j r hr;have O:=hn r (cQ hr);have P:=hl r (cQ hr);have aa:wr.cell? ⟨c,j,none⟩=some (.slice none 0 0):=by
    rw[p.out.cell,fR,eJ (by rw[dt];omega),dt,t,ij,ju,de (by omega)]
   have dO:∀o,(wr.alloc o).cell? ⟨c,j,none⟩=some (.slice none 0 0):=fun o=>(cJ (w:=wr) (di _ _ _ p.out.lt)).trans aa
   have fO:∀o,(wr.alloc o).frozen? ⟨c,j,none⟩=false:=fun o=>(p.out.alloc o).frozen j
   have hP:=p.push (by omega) ((List.replicate n ((0,0):Nat×Nat)).flatMap eX);rw[t]at hP;have HT:Hid (((a.take (j+1)).map (List.map Tb.iK)).map (List.flatMap eX)=((a.take j).map (List.map Tb.iK)).map (List.flatMap eX)++[(Tb.nR r n n).flatMap eX]):=by
    show _=_;rw[mS,hr,ei,ei];have:Tb.nR r n n=r.map Tb.iK:=by
     unfold Tb.nR;rw[ij,si,eN,tA (by omega)]
    rw[this];rfl
   have Y:(((a.take j).map (List.map Tb.iK)).map (List.flatMap eX)).length=j:=by
    rw[dt,dt,fN];omega
   have H:Hid ((((a.take j).map (List.map Tb.iK)).map (List.flatMap eX)).length=j):=Y;have H1:Hid (∃f,f.length=j+1/\Mx w c c 121 42 n a.length ((wr.alloc (.cells ((List.replicate n ((0,0):Nat×Nat)).flatMap eX).toArray 42)).setCell ⟨c,j,none⟩ (.slice (some ⟨wr.heap.size,0,none⟩) n n)) f (((a.take j).map (List.map Tb.iK)).map (List.flatMap eX)++[(Tb.nR r n 0).flatMap eX])):=⟨f++[wr.heap.size],by rw[cH,t];rfl,hP⟩;have HX:Hid (∀l,Below c w l->∀(k:Nat)x,r[k]?=some x->∃h v,M=some ⟨h,0,none⟩/\l.cell? ⟨h,k*2,none⟩=some (.int .i64 (x.1:Int))/\l.cell? ⟨h,k*2+1,none⟩=some v/\lD l v x.2):=hX;have W:Hid (r.length=n/\∀x∈r,Tb.lone x=true):=⟨O,P⟩;clear p hP Y HC t hn hl hX O P E;generalize ((a.take j).map (List.map Tb.iK)).map (List.flatMap eX)=pr at HT H H1
   go_wp2_with (simp only[F])
   clear F aa dO fO c1
   go_loopw [28] (fun i wr=>∃k:Nat,k<=n/\i=.int .i64 (k:Int)/\Hid (∃f,f.length=j+1/\Mx w c c 121 42 n a.length wr f (pr++[(Tb.nR r n k).flatMap eX]))) (fun i _=>n - (intOf i).toNat)
   case atStart=>exact⟨0,by omega,rfl,H1⟩
   case round=>
    clear H1;revert wr;intro l hrel;obtain⟨k,hk,rfl,T⟩:=hrel;obtain⟨I,mM,p⟩:=T.out;clear T
    by_cases hkn:k<n
    ·have k1:(k:Int)<(n:Int):=by omega
     obtain⟨x,hx⟩:∃x,r[k]?=some x:=⟨_,cF (by rw[W.out.1];exact hkn)⟩;obtain⟨h,v,rfl,c1,c2,hi⟩:=HX.out l p.b k x hx;have R:=W.out.2 x (cQ hx);obtain⟨N,L,rfl,zh⟩:=hi;have hi:lD l (.slice N x.2.length L) x.2:=⟨N,L,rfl,zh⟩;clear zh;obtain⟨s,Q⟩:=x;simp only at c1 c2 hi;obtain⟨B,aW⟩:∃V,V=l.alloc (.cells #[.int .i64 (s:Int),.slice N Q.length L] 166):=⟨_,rfl⟩;obtain⟨bx,X⟩:∃b,l.heap.size=b:=⟨_,rfl⟩;have kX:aj B bx #[.int .i64 (s:Int),.slice N Q.length L] 166:=by rw[aW,<-X];exact aj.new ..
     have q:Below l.heap.size l B:=by rw[aW];exact(cV _ _).alloc (zL0) _
     have G:=p.move q;obtain⟨y,m⟩:∃g,I[j]?=some g:=⟨_,cF (by omega)⟩;have zy:(pr++[(Tb.nR r n k).flatMap eX])[j]?=some ((Tb.nR r n k).flatMap eX):=by
      rw[eJ (by rw[H.out];exact zL0),H.out,ij];rfl
     have ad:=Tb.aiz r (k:=k) W.out.1 hk;obtain⟨z,J⟩:∃z,(Tb.nR r n k)[k]?=some z:=⟨_,cF (by omega)⟩;obtain⟨f1,f2⟩:=Jc _ _ _ J;have o1:=G.DX m;have x1:B.cell? ⟨bx,0,none⟩=some (.int .i64 (s:Int)):=kX.cell 0;have x2:B.cell? ⟨bx,1,none⟩=some (.slice N Q.length L):=kX.cell 1;have PE:=ahb (w:=B.drew) (pd:=d) (st:=(j:Int)) (tk:=(k:Int)) (s:=s) (hi.keep (w':=B.drew) ⟨q.1,q.2,q.3,q.4,q.5⟩) R;obtain⟨A,K,hy⟩:∃A K,Tb.iK (s,Q)=(A,K):=⟨_,_,rfl⟩;rw[hy]at PE;simp only at PE;have HM:Hid (∀u,Below B.drew.heap.size B.drew u->u.cell? ⟨c,j,none⟩=some (.slice (some ⟨y,0,none⟩) n n)/\u.cell? ⟨y,k*2,none⟩=some (.int .i64 (z.1:Int))/\u.cell? ⟨y,k*2+1,none⟩=some (.int .i64 (z.2:Int))/\(∀i,u.frozen? ⟨y,i,none⟩=false)/\∃f,f.length=j+1/\Mx w c c 121 42 n a.length ((u.setCell ⟨y,k*2,none⟩ (.int .i64 (A:Int))).setCell ⟨y,k*2+1,none⟩ (.int .i64 (K:Int))) f (pr++[(Tb.nR r n (k+1)).flatMap eX])):=fun u C=>by
      have U:=G.move (W':=u) ⟨C.1,C.2,C.3,C.4,C.5⟩;refine⟨U.DX m,by rw[U.Et m zy];exact f1,by rw[U.Et m zy];exact f2,fun i=>U.frozen m i,I,mM,?_⟩;have h6:=U.set (k:=k*2) m zy (.int .i64 (A:Int));have ac:((pr++[(Tb.nR r n k).flatMap eX]).set j (((Tb.nR r n k).flatMap eX).set (k*2) (.int .i64 (A:Int))))[j]?=some (((Tb.nR r n k).flatMap eX).set (k*2) (.int .i64 (A:Int))):=by
       rw[fk,de rfl,de (by rw[cH,H.out];show j<j+1;omega)]
      have h7:=h6.set (k:=k*2+1) m ac (.int .i64 (K:Int));rw[List.set_set]at h7;have e:=Yj (Tb.nR r n k) k (A,K);simp only at e;rw[e]at h7;have e2:=Tb.aiy hx hkn;rw[hy]at e2;rw[e2,mr _ _ (by rw[H.out];exact zL0),H.out,ij,ms]at h7;exact h7
     have d0:(0:Int)<=(j:Int):=by omega
     have d1:(0:Int)<=(k:Int):=by omega
     clear p G q hi kX R zy ad J f1 f2 m mM hy HX W hx;go_upto_region 9 with fail
     rw[<-aW];clear aW X c1 c2
     go_region_law (refine fP rfl 67 #[d,.int .i64 (j:Int),.int .i64 (k:Int),.agg #[.int .i64 (s:Int),.slice N Q.length L]] (by go_simp) PE ?_;rintro e u⟨rfl,ab⟩;refine⟨_,rfl,?_⟩;obtain⟨m1,m2,m3,m4,HN⟩:=HM.out u ab;clear PE ab HM)
     all_goals
      have Ep:Hid (∃f,f.length=j+1/\Mx w c c 121 42 n a.length ((u.setCell ⟨y,k*2,none⟩ (.int .i64 (A:Int))).setCell ⟨y,k*2+1,none⟩ (.int .i64 (K:Int))) f (pr++[(Tb.nR r n (k+1)).flatMap eX])):=HN;clear HN;go_wp2_with fail;exact⟨⟨k+1,by omega,by go_num,Ep⟩,by simp[intOf];omega⟩
    ·obtain rfl:k=n:=by omega
     have HE:Hid (∃f,f.length=j+1/\Mx w c c 121 42 k a.length l f (((a.take (j+1)).map (List.map Tb.iK)).map (List.flatMap eX))):=⟨I,mM,by rw[HT.out];exact p⟩;clear p mM HT HX W H;go_wp2_with fail;exact⟨⟨j+1,by omega,by go_num,HE⟩,by simp[intOf];omega⟩
  ·obtain rfl:j=a.length:=by omega
   rw[ft]at p;have HR:Hid (V4 w (a.map (List.map Tb.iK)) (.returned (.slice (some ⟨c,0,none⟩) a.length a.length)) wr):=⟨_,rfl,p.rows t (by rw[dt]) (fun r hr=>by
    obtain⟨r0,h0,rfl⟩:=ej.1 hr;rw[dt];exact hn r0 h0) (fun i g r k x hg hr hx=>by
     obtain⟨f1,f2⟩:=Jc _ _ _ hx;have:=fun k=>p.Et (k:=k) hg (r:=r.flatMap eX) (by rw[dj,hr];rfl)
     exact⟨(this _).trans f1,(this _).trans f2⟩),by rw[HG.out];exact p.b⟩
   clear p t HC hn hl E F;go_wp2_with fail;go_ret;exact HR.out
namespace Tb
def at2{α:Type}(R:List (List α))(i t:Nat):Option α:=match R[i]? with
 |some r=>r[t]?
 |none=>none
theorem Fq{α:Type}{R:List (List α)}{i t:Nat}{x:α}(h:at2 R i t=some x):∃r,R[i]?=some r/\r[t]?=some x:=by
 unfold at2 at h
 split at h
 ·exact⟨_,by assumption,h⟩
 ·cases h
theorem Te{α:Type}{R:List (List α)}{i t:Nat}{r:List α}{x:α}(h:R[i]?=some r)(a:r[t]?=some x):at2 R i t=some x:=by
 unfold at2;rw[h];exact a
theorem Jd{α:Type}{R:List (List α)}{i t a b:Nat}{x y:α}(h:at2 R i t=some y):at2 (setAt R i t x) a b=if a=i/\b=t then some x else at2 R a b:=by
 obtain⟨r,c,g⟩:=Fq h;have f:=(cG.1 c).1;have d:=(cG.1 g).1;unfold setAt at2;rw[c];simp only;rw[fk]
 by_cases e:i=a
 ·subst e
  rw[de rfl,de f,c];simp only;rw[fk]
  by_cases e2:t=b
  ·subst e2
   rw[de rfl,de d,de (by simp)]
  ·rw[dk e2,dk fun h=>e2 h.2.symm]
 ·rw[dk e,dk fun h=>e h.1.symm]
theorem abL{α β:Type}(f:α->β)(R:List (List α))(i t:Nat):at2 (R.map (List.map f)) i t=(at2 R i t).map f:=by
 unfold at2;rw[dj];cases R[i]? with
 |none=>rfl
 |some r=>exact dj
theorem Y7{α β:Type}(f:α->β)(R:List (List α))(i t:Nat)(x:α):(setAt R i t x).map (List.map f)=setAt (R.map (List.map f)) i t (f x):=by
 unfold setAt;rw[dj];cases R[i]? with
 |none=>rfl
 |some r=>
  show (R.set i (r.set t x)).map (List.map f)=(R.map (List.map f)).set i ((r.map f).set t (f x));rw[nt,nt]
end Tb
abbrev gG:=Nat×List Nat×Value
def mV(x:gG):List Value:=[.int .i64 (x.1:Int),x.2.2]
def iZ(x:gG):Nat×List Nat:=(x.1,x.2.1)
theorem Nt:∀(l:List gG)(i:Nat)(x:gG),l[i]?=some x->(l.flatMap mV)[i*2]?=some (.int .i64 (x.1:Int))/\(l.flatMap mV)[i*2+1]?=some x.2.2
 | [],_,_,h=>by simp at h
 |y::l,0,x,h=>by
  cases h;exact⟨rfl,rfl⟩
 |y::l,i+1,x,h=>by
  have:=Nt l i x (by simpa using h);rw[du,show (i+1)*2=i*2+1+1 by omega];exact this
theorem QG:∀(l:List gG)(k:Nat)(x:gG),l[k]?=some x->∀(s:Nat)(v:Value)(ps:List Nat),(l.flatMap mV).set (k*2) (.int .i64 (s:Int))=(l.set k (s,x.2.1,x.2.2)).flatMap mV/\(l.flatMap mV).set (k*2+1) v=(l.set k (x.1,ps,v)).flatMap mV
 | [],k,x,h=>by simp at h
 |y::l,0,x,h=>fun s v ps=>by
  cases h;exact⟨rfl,rfl⟩
 |y::l,k+1,x,h=>fun s v ps=>by
  obtain⟨h1,h2⟩:=QG l k x (by simpa using h) s v ps;rw[mv,mv,du,du,du,<-h1,<-h2,show (k+1)*2=k*2+1+1 by omega];exact⟨rfl,rfl⟩
structure dV(w0:World)(B gO n N:Nat)(W:World)(gs:List Nat)(D:List (List gG)):Prop where
 mx:Mx w0 B gO 164 166 n N W gs (D.map (List.flatMap mV))
 own:∀(i t:Nat)(x:gG),Tb.at2 D i t=some x->W.ownsRow B 3 1 x.2.2 x.2.1.length (x.2.1.map bQ)
 ne:∀(i t i' t':Nat)(x x':gG),Tb.at2 D i t=some x->Tb.at2 D i' t'=some x'->¬(i'=i/\t'=t)->∀g,x.2.2.ownBlock=some g->x'.2.2.ownBlock≠some g
 rl:∀r∈D,r.length=n
section
variable {w0 W W':World} {B gO n N:Nat} {gs:List Nat} {D:List (List gG)}
theorem dV.len(h:dV w0 B gO n N W gs D):D.length=gs.length:=by have:=h.mx.len;rwa [dt]at this
theorem dV.kg(h:dV w0 B gO n N W gs D){g:Nat}(a:g∈gs):Kd W g 166:=by
 obtain⟨i,c⟩:=eQ.1 a;obtain⟨r,-,b⟩:=h.mx.rowAt c;exact⟨_,b⟩
theorem dV.ko(h:dV w0 B gO n N W gs D):Kd W gO 164:=⟨_,h.mx.out⟩
theorem dV.kv(h:dV w0 B gO n N W gs D){i t g:Nat}{x:gG}(a:Tb.at2 D i t=some x)(b:x.2.2.ownBlock=some g):Kd W g 3:=eU (h.own i t x a) b
theorem dV.move(h:dV w0 B gO n N W gs D)(b:Below W.heap.size W W'):dV w0 B gO n N W' gs D :=
 ⟨h.mx.move b,fun i t x a=>aC (h.own i t x a) fun g c=>b.block g (h.kv a c).lt,h.ne,h.rl⟩
theorem dV.cells(h:dV w0 B gO n N W gs D){i t g:Nat}{x:gG}(c:gs[i]?=some g)(k:Tb.at2 D i t=some x):W.cell? ⟨g,t*2,none⟩=some (.int .i64 (x.1:Int))/\W.cell? ⟨g,t*2+1,none⟩=some x.2.2:=by
 obtain⟨r,j,b⟩:=Tb.Fq k;obtain⟨d,f⟩:=Nt r t x b;have a:(D.map (List.flatMap mV))[i]?=some (r.flatMap mV):=by rw[dj,j];rfl
 exact⟨(h.mx.Et c a).trans d,(h.mx.Et c a).trans f⟩
theorem Tb.abM{α:Type}{D:List (List α)}{r:List α}{i t:Nat}{x:α}(h:at2 (D++[r]) i t=some x):at2 D i t=some x\/(i=D.length/\r[t]?=some x):=by
 obtain⟨c,a,b⟩:=Fq h;rw[jj]at a
 split at a
 ·exact .inl (Te a b)
 ·rename_i d
  have:=(cG.1 a).1;simp at this;have e:i-D.length=0:=by omega
  rw[e]at a;cases a;exact .inr ⟨by omega,b⟩
theorem dV.push(h:dV w0 B gO n N W gs D)(m:gs.length<N):dV w0 B gO n N ((W.alloc (.cells ((List.replicate n ((0,[],.slice none 0 0):gG)).flatMap mV).toArray 166)).setCell ⟨gO,gs.length,none⟩ (.slice (some ⟨W.heap.size,0,none⟩) n n)) (gs++[W.heap.size]) (D++[List.replicate n ((0,[],.slice none 0 0):gG)]):=by
 have d:∀{i t:Nat}{x:gG},Tb.at2 (D++[List.replicate n ((0,[],.slice none 0 0):gG)]) i t=some x->Tb.at2 D i t=some x\/(x.2.1=[]/\x.2.2=.slice none 0 0):=fun hx=>by
  rcases Tb.abM hx with hx|⟨-,hx⟩
  ·exact .inl hx
  ·have:=kk (cQ hx)
   rw[this];exact .inr ⟨rfl,rfl⟩
 refine⟨?_,fun i t x hx=>?_,fun i t o j x k hx a f g b=>?_,fun r c=>?_⟩
 ·have:=h.mx.push m ((List.replicate n ((0,[],.slice none 0 0):gG)).flatMap mV)
  rw[ei];exact this
 ·rcases d hx with hx | ⟨l,p⟩
  ·exact aC (h.own i t x hx) fun g b=>(fQ _ _ ((h.kv hx b).ne h.ko (by decide))).trans (di _ _ _ (h.kv hx b).lt)
  ·rw[l,p]
   exact eE _ _ _ _
 ·rcases d hx with hx | ⟨-,e⟩
  ·rcases d a with a | ⟨-,e⟩
   ·exact h.ne i t o j x k hx a f g b
   ·rw[e]
    exact fun h=>by cases h
  ·rw[e]at b
   cases b
 ·rw[cY,cM]at c
  rcases c with c|rfl
  ·exact h.rl r c
  ·exact im ..
theorem dV.shift(h:dV w0 B gO n N W gs D){i t g:Nat}{x:gG}(hg:gs[i]?=some g)(c:Tb.at2 D i t=some x)(s:Nat):dV w0 B gO n N (W.setCell ⟨g,t*2,none⟩ (.int .i64 (s:Int))) gs (Tb.setAt D i t (s,x.2.1,x.2.2)):=by
 obtain⟨r,u,j⟩:=Tb.Fq c;have m:(D.map (List.flatMap mV))[i]?=some (r.flatMap mV):=by rw[dj,u];rfl
 refine⟨?_,fun q o P a=>?_,fun C A v z K H h1 h2 l p b=>?_,Tb.Rt h.rl⟩
 ·have:=h.mx.set (k:=t*2) hg m (.int .i64 (s:Int))
  rw[(QG r t x j s undef []).1]at this;unfold Tb.setAt;rw[u];simp only;rw[nt];exact this
 ·have d:∀{q o:Nat}{y:gG}(f:Tb.at2 D q o=some y),(W.setCell ⟨g,t*2,none⟩ (.int .i64 (s:Int))).ownsRow B 3 1 y.2.2 y.2.1.length (y.2.1.map bQ):=fun f=>aC (h.own _ _ _ f) fun p b=>fQ _ _ ((h.kv f b).ne (h.kg (cQ hg)) (by decide))
  rw[Tb.Jd c]at a
  split at a
  ·cases a
   have:=@d i t x c;exact this
  ·exact d a
 ·rw[Tb.Jd c]at h1 h2
  have O:∃y,Tb.at2 D C A=some y/\y.2.2=K.2.2:=by
   split at h1
   ·rename_i e
    cases h1;rw[e.1,e.2];exact⟨x,c,rfl⟩
   ·exact⟨_,h1,rfl⟩
  have J:∃y,Tb.at2 D v z=some y/\y.2.2=H.2.2:=by
   split at h2
   ·rename_i e
    cases h2;rw[e.1,e.2];exact⟨x,c,rfl⟩
   ·exact⟨_,h2,rfl⟩
  obtain⟨I,L,F⟩:=O;obtain⟨M,E,G⟩:=J;rw[<-G];rw[<-F]at b;exact h.ne C A v z I M L E l p b
theorem dV.app(h:dV w0 B gO n N W gs D){i t g:Nat}{x:gG}(hg:gs[i]?=some g)(o:Tb.at2 D i t=some x){p:Nat}{v:Value}(m:W.grownBy W' x.2.2.ownBlock)(L:W'.ownsRow B 3 1 v (x.2.1++[p]).length ((x.2.1++[p]).map bQ))(F:v.ownBlock=x.2.2.ownBlock\/∃k,v.ownBlock=some k/\W.heap.size<=k):dV w0 B gO n N (W'.setCell ⟨g,t*2+1,none⟩ v) gs (Tb.setAt D i t (x.1,x.2.1++[p],v)):=by
 obtain⟨r,K,G⟩:=Tb.Fq o;have P:=cQ hg;have I:(D.map (List.flatMap mV))[i]?=some (r.flatMap mV):=by rw[dj,K];rfl
 have A:Mx w0 B gO 164 166 n N W' gs (D.map (List.flatMap mV)):=h.mx.keep (fun k C=>by
  rcases C with rfl|C
  ·exact m.block k h.ko.lt fun e=>h.ko.ne (h.kv o e.symm) (by decide) rfl
  ·exact m.block k (h.kg C).lt fun e=>(h.kg C).ne (h.kv o e.symm) (by decide) rfl) (h.mx.b.grown m h.mx.size fun k e=>((h.own i t x o).lt k e).1)
 have z:Kd W' g 166:=by
  obtain⟨r',-,R⟩:=A.rowAt hg;exact⟨_,R⟩
 have E:∀{u s:Nat}{y:gG},Tb.at2 D u s=some y->¬(u=i/\s=t)->(W'.setCell ⟨g,t*2+1,none⟩ v).ownsRow B 3 1 y.2.2 y.2.1.length (y.2.1.map bQ):=fun q d=>aC (h.own _ _ _ q) fun f c=>by
  have j:W'.heap[f]?=W.heap[f]?:=m.block f (h.kv q c).lt fun e=>h.ne _ _ _ _ _ _ o q d f e.symm c
  have S:Kd W' f 3:=by obtain⟨H,Q⟩:=h.kv q c;exact⟨H,j.trans Q⟩
  exact(fQ _ _ (S.ne z (by decide))).trans j
 have M:∀{u s f:Nat}{y:gG},Tb.at2 D u s=some y->¬(u=i/\s=t)->y.2.2.ownBlock=some f->v.ownBlock≠some f:=fun q d c e=>by
  rcases F with F|⟨k,J,O⟩
  ·exact h.ne _ _ _ _ _ _ o q d _ (F▸e) c
  ·rw[e]at J
   cases J;have:=(h.kv q c).lt;omega
 refine⟨?_,fun u s Z l=>?_,fun Y X U V x1 T h1 h2 d f c=>?_,Tb.Rt h.rl⟩
 ·have:=A.set (k:=t*2+1) hg I v
  rw[(QG r t x G 0 v (x.2.1++[p])).2]at this;unfold Tb.setAt;rw[K];simp only;rw[nt];exact this
 ·rw[Tb.Jd o]at l
  split at l
  ·cases l
   exact aC L fun f c=>fQ _ _ ((show Kd W' f 3 from eU L c).ne z (by decide))
  ·rename_i d
   exact E l d
 ·rw[Tb.Jd o]at h1 h2
  split at h1
  ·rename_i j
   cases h1;rw[dk (by rintro⟨a,b⟩;exact d ⟨a.trans j.1.symm,b.trans j.2.symm⟩)]at h2;intro e;exact M h2 (by rintro⟨a,b⟩;exact d ⟨a.trans j.1.symm,b.trans j.2.symm⟩) e c
  ·rename_i j
   split at h2
   ·cases h2
    exact M h1 j c
   ·exact h.ne _ _ _ _ _ _ h1 h2 d f c
end
namespace Tb
abbrev CH:=List (List (Nat×List Nat))
def Oq(C:CH)(i t p:Nat):CH:=match at2 C i t with
 |some x=>setAt C i t (x.1,x.2++[p])
 |none=>C
def Gb(C:CH)(i t s:Nat):CH:=match at2 C i t with
 |some x=>setAt C i t (s,x.2)
 |none=>C
def yg(C:CH)(i p:Nat)(ts:List Nat):Nat->CH
 |0=>C
 |k+1=>match ts[k]? with
  |some t=>Oq (yg C i p ts k) i t p
  |none=>yg C i p ts k
def uy(C:CH)(i:Nat)(l:List (Nat×List Nat)):Nat->CH
 |0=>C
 |k+1=>match l[k]? with
  |some x=>yg (uy C i l k) i x.1 x.2 x.2.length
  |none=>uy C i l k
def sJ(A:CH)(n:Nat):Nat->CH
 |0=>[]
 |j+1=>match A[j]? with
  |some l=>uy (sJ A n j++[List.replicate n (0,[])]) j l l.length
  |none=>sJ A n j
def uz(C:CH)(es:List (Nat×Nat×Nat))(n:Nat):Nat->CH
 |0=>C
 |k+1=>match es[k]? with
  |some e=>if e.2.1<n then Gb (uz C es n k) e.1 e.2.1 e.2.2 else uz C es n k
  |none=>uz C es n k
def choices(A:CH)(es:List (Nat×Nat×Nat))(n:Nat):CH:=uz (sJ A n A.length) es n es.length
end Tb
theorem Tryz.alm:(prog.info? 164).map (fun i=>(i.zero,i.size,i.bytes))=some (some (.slice none 0 0),1,24):=by kernel_rfl
theorem Tryz.aln:(prog.info? 166).map (fun i=>(i.zero,i.size,i.bytes))=some (some (.agg #[.int .i64 0,.slice none 0 0]),2,32):=by kernel_rfl
theorem agh{n:Nat}(g:n<=100000)(w:World):(Instr.makeSlice 99 (.int .i64 (n:Int)) (.int .i64 (n:Int))).run prog w=.ok (.slice (some ⟨w.heap.size,0,none⟩) n n) (w.alloc (.cells (vA (List.replicate n (Value.slice none 0 0))) 164)):=by
 obtain⟨d,f,b,a,c⟩:=fd Tryz.alm;have h:=pj (P:=prog) w 99 164 d _ (by kernel_rfl) f b .i64 .i64 (n:Int) (n:Int) (by omega) (nh _) (by rw[c];omega) (by omega);rw[h,gz,a];have e:Value.cells (.slice none 0 0)=#[.slice none 0 0]:=rfl;rw[e,Ru]
def Eu(n:Nat):List Value:=(List.replicate n ((0,[],.slice none 0 0):gG)).flatMap mV
theorem alo(n:Nat):∀i,i<n*2->(Eu n)[i]?=some (if i % 2=0 then .int .i64 0 else .slice none 0 0):=fun i c=>by
 have h:(List.replicate n ((0,[],.slice none 0 0):gG))[i / 2]?=some (0,[],.slice none 0 0):=by rw[ju,de (by omega)]
 obtain⟨a,b⟩:=Nt _ _ _ h
 by_cases e:i % 2=0
 ·rw[de e,show i=i / 2*2 by omega]
  exact a
 ·rw[dk e,show i=i / 2*2+1 by omega]
  exact b
theorem Sv(n:Nat):(Eu n).length=n*2:=by
 unfold Eu
 induction n with
 |zero=>rfl
 |succ n ih=>
  rw[mT,du,cH,ih];show 2+n*2=_;omega
theorem aj0{n:Nat}(k:n<=100000)(w:World):(Instr.makeSlice 164 (.int .i64 (n:Int)) (.int .i64 (n:Int))).run prog w=.ok (.slice (some ⟨w.heap.size,0,none⟩) n n) (w.alloc (.cells (Eu n).toArray 166)):=by
 obtain⟨g,j,a,c,b⟩:=fd Tryz.aln;have h:=pj (P:=prog) w 164 166 g _ (by kernel_rfl) j a .i64 .i64 (n:Int) (n:Int) (by omega) (nh _) (by rw[b];omega) (by omega);rw[h,gz,c];have e:Value.cells (.agg #[.int .i64 0,.slice none 0 0])=#[.int .i64 0,.slice none 0 0]:=rfl;rw[e];have d:madeCells #[.int .i64 0,.slice none 0 0] (n*2)=(Eu n).toArray:=by
  unfold madeCells;apply pN
  ·simp[Sv]
  ·intro i h1 h2
   have h3:i<n*2:=by simpa [Sv]using h2
   have h4:=alo n i h3;have f:(Eu n).toArray[i]=if i % 2=0 then Value.int .i64 0 else .slice none 0 0:=by
    rw[cF (by rw[Sv];exact h3)]at h4;simpa using h4
   rw[f];have:i % 2=0\/i % 2=1:=by omega
   rcases this with e|e <;> simp[e]
 rw[d]
section
variable {w0 W W':World} {B gO n N:Nat} {gs:List Nat} {D:List (List gG)}
theorem dV.at(h:dV w0 B gO n N W gs D){i t:Nat}(b:i<gs.length)(c:t<n):∃x,Tb.at2 D i t=some x:=by
 obtain⟨r,hr⟩:∃r,D[i]?=some r:=⟨_,cF (by rw[h.len];exact b)⟩;have a:=h.rl r (cQ hr);exact⟨_,Tb.Te hr (cF (by omega))⟩
theorem Tb.aj1{i t p:Nat}{x:gG}{v:Value}(a:Tb.at2 D i t=some x):(Tb.setAt D i t (x.1,x.2.1++[p],v)).map (List.map iZ)=Tb.Oq (D.map (List.map iZ)) i t p:=by
 rw[Tb.Y7];unfold Tb.Oq;rw[Tb.abL,a];rfl
theorem Tb.aj2{i t s:Nat}{x:gG}(a:Tb.at2 D i t=some x):(Tb.setAt D i t (s,x.2.1,x.2.2)).map (List.map iZ)=Tb.Gb (D.map (List.map iZ)) i t s:=by
 rw[Tb.Y7];unfold Tb.Gb;rw[Tb.abL,a];rfl
theorem dV.rows(h:dV w0 B gO n N W gs D)(d:gs.length=N):ru W (.slice (some ⟨gO,0,none⟩) N N) (D.map (List.map iZ)) :=
 h.mx.rows d (by rw[dt,h.len,d]) (fun r a=>by
  obtain⟨c,j,rfl⟩:=ej.1 a;rw[dt];exact h.rl c j) fun i g r k x m a b=>by
  rw[dj]at a;cases hr0:D[i]? with
  |none=>rw[hr0]at a;cases a
  |some c=>
   rw[hr0]at a;cases a;rw[dj]at b;cases hx0:c[k]? with
   |none=>rw[hx0]at b;cases b
   |some x0=>
    rw[hx0]at b;cases b;have h2:=Tb.Te hr0 hx0;obtain⟨f,l⟩:=h.cells m h2;exact⟨f,_,l,lD.own (h.own i k x0 h2)⟩
end
def ChE(w:World)(C:Tb.CH)(e:Ending)(w':World):Prop:=∃v,e=.returned v/\ru w' v C/\Below w.heap.size w w'
theorem ae5{w:World}{va ve:Value}{A:Tb.CH}{y:List (Nat×Nat×Nat)}{n:Nat}(ha:ru w va A)(he:lQ w ve y)(hS:A.length<=100000)(hN:n<=100000)(hx:∀l∈A,l.length<=1000000/\∀x∈l,x.2.length<=1000000/\∀t∈x.2,t<n)(a3:y.length<=1000000000)(ak:∀e∈y,e.1<A.length):Calls prog 39 #[va,ve,.int .i64 (n:Int)] w (ChE w (Tb.choices A y n)):=by
 obtain⟨aa,ac,rfl,aq⟩:=ha;obtain⟨ea,ec,rfl,CK⟩:=he;obtain⟨i3,aw,DT,DU,ai⟩:=fd Tryz.info3';obtain⟨a,iE⟩:∃b,w.heap.size=b:=⟨_,rfl⟩;obtain⟨w2,ad⟩:∃V,V=w.alloc (.cells (vA (List.replicate A.length (Value.slice none 0 0))) 164):=⟨_,rfl⟩;have al:dV w a a n A.length w2 [] []:=⟨by rw[ad,<-iE];exact Mx.new w n A.length (by decide),fun i t x h=>by simp[Tb.at2]at h,fun i t i' t' x x' h=>by simp[Tb.at2]at h,fun r hr=>by cases hr⟩;have an:=fun w=>agh (n:=A.length) hS w
 have ae:=fun w=>aj0 (n:=n) hN w
 have HA:Hid (∀wr,Below a w wr->∀(j:Nat)l,A[j]?=some l->∃g xa xc,aa=some ⟨g,0,none⟩/\wr.cell? ⟨g,j,none⟩=some (.slice xa l.length xc)/\∀C,Below a w C->∀(k:Nat)x,l[k]?=some x->∃h K O,xa=some ⟨h,0,none⟩/\C.cell? ⟨h,k*2,none⟩=some (.int .i64 (x.1:Int))/\C.cell? ⟨h,k*2+1,none⟩=some (.slice K x.2.length O)/\∀f,Below a w f->∀(m:Nat)t,x.2[m]?=some t->∃b,K=some ⟨b,0,none⟩/\f.cell? ⟨b,m,none⟩=some (.int .i64 (t:Int))):=fun wr hb j l hl=>by
  rw[<-iE]at hb|-;obtain⟨g,e,v,h1,xa,xc,rfl,h3⟩:=aq j l hl;rw[jt]at h1;refine⟨g,xa,xc,e,aV hb h1,fun C hz k x hx=>?_⟩;obtain⟨h,e2,h4,v,h5,K,O,rfl,h6⟩:=h3 k x hx;refine⟨h,K,O,e2,aV hz h4,aV hz h5,fun f hy m t ht=>?_⟩;obtain⟨b,e3,h7⟩:=h6 m t ht;unfold iQ at h7;rw[jt]at h7;exact⟨b,e3,aV hy h7⟩
 have HE:Hid (∀wr,Below a w wr->∀(j:Nat)x,y[j]?=some x->∃g,ea=some ⟨g,0,none⟩/\wr.cell? ⟨g,j*3,none⟩=some (.int .i64 (x.1:Int))/\wr.cell? ⟨g,j*3+1,none⟩=some (.int .i64 (x.2.1:Int))/\wr.cell? ⟨g,j*3+2,none⟩=some (.int .i64 (x.2.2:Int))):=fun wr hb j x hx=>by
  rw[<-iE]at hb;obtain⟨g,e,h1,h2,h3⟩:=CK j x hx;exact⟨g,e,aV hb h1,aV hb h2,aV hb h3⟩
 have H0:Hid (∃c D,c.length=0/\dV w a a n A.length w2 c D/\D.map (List.map iZ)=Tb.sJ A n 0):=⟨[],[],rfl,al,rfl⟩;have HG:Hid (w.heap.size=a):=iE;obtain⟨X,ar⟩:∃M:Nat,M=1000000:=⟨_,rfl⟩;have ah:Hid (X=1000000):=ar;clear ar;clear aq CK al;go_enter func39,ntmps39;go_upto_region 2 with (simp only[an])
 rw[<-ad];clear ad iE an;go_wp2_with fail
 go_loopw [22] (fun i wr=>∃j:Nat,j<=A.length/\i=.int .i64 (j:Int)/\Hid (∃c D,c.length=j/\dV w a a n A.length wr c D/\D.map (List.map iZ)=Tb.sJ A n j)) (fun i _=>A.length - (intOf i).toNat)
 case atStart=>exact⟨0,by omega,rfl,H0⟩
 case round=>
  clear H0;obtain⟨j,hj,rfl,S⟩:=hrel;obtain⟨c,D,H,d,z⟩:=S.out;clear S
  by_cases hjn:j<A.length
  ·have j1:(j:Int)<(A.length:Int):=by omega
   obtain⟨l,hl⟩:∃l,A[j]?=some l:=⟨_,cF hjn⟩;obtain⟨g,xa,xc,rfl,c1,hX⟩:=HA.out wr d.mx.b j l hl;have ag:=hx l (cQ hl);have am:wr.cell? ⟨a,j,none⟩=some (.slice none 0 0):=by
    rw[d.mx.out.cell,fR,eJ (by rw[dt];omega),dt,H,ij,ju,de (by omega)]
   have dO:∀o,(wr.alloc o).cell? ⟨a,j,none⟩=some (.slice none 0 0):=fun o=>(cJ (w:=wr) (di _ _ _ d.mx.out.lt)).trans am
   have fO:∀o,(wr.alloc o).frozen? ⟨a,j,none⟩=false:=fun o=>(d.mx.out.alloc o).frozen j
   have hP:=d.push (by omega);rw[H]at hP;have hz:∀t x,Tb.at2 (D++[List.replicate n ((0,[],.slice none 0 0):gG)]) j t=some x->x.2.1.length<=0*X:=fun t x hx=>by
    rcases Tb.abM hx with hx|⟨-,hx⟩
    ·obtain⟨r,hr,-⟩:=Tb.Fq hx
     have:=(cG.1 hr).1;rw[d.len,H]at this;omega
    ·rw[kk (cQ hx)]
     exact eR _
   have HS:Hid (Tb.sJ A n (j+1)=Tb.uy (Tb.sJ A n j++[List.replicate n (0,[])]) j l l.length):=by
    show _=_;rw[Tb.sJ,hl]
   have H1:Hid (∃c D,c.length=j+1/\dV w a a n A.length ((wr.alloc (.cells (Eu n).toArray 166)).setCell ⟨a,j,none⟩ (.slice (some ⟨wr.heap.size,0,none⟩) n n)) c D/\D.map (List.map iZ)=Tb.uy (Tb.sJ A n j++[List.replicate n (0,[])]) j l 0/\∀t x,Tb.at2 D j t=some x->x.2.1.length<=0*X):=⟨c++[wr.heap.size],_,by rw[cH,H];rfl,hP,by rw[ei,z,Tb.uy,List.map_singleton,List.map_replicate];rfl,hz⟩;have HX:Hid (∀C,Below a w C->∀(k:Nat)x,l[k]?=some x->∃h K O,xa=some ⟨h,0,none⟩/\C.cell? ⟨h,k*2,none⟩=some (.int .i64 (x.1:Int))/\C.cell? ⟨h,k*2+1,none⟩=some (.slice K x.2.length O)/\∀f,Below a w f->∀(m:Nat)t,x.2[m]?=some t->∃b,K=some ⟨b,0,none⟩/\f.cell? ⟨b,m,none⟩=some (.int .i64 (t:Int))):=hX;clear d hP HA HE H hX hx z hl ak;generalize Tb.sJ A n j++[List.replicate n (0,[])]=C0 at HS H1
   go_wp2_with (simp only[ae])
   clear ae am dO fO c1
   go_loopw [34] (fun i wr=>∃k:Nat,k<=l.length/\i=.int .i64 (k:Int)/\Hid (∃c D,c.length=j+1/\dV w a a n A.length wr c D/\D.map (List.map iZ)=Tb.uy C0 j l k/\∀t x,Tb.at2 D j t=some x->x.2.1.length<=k*X)) (fun i _=>l.length - (intOf i).toNat)
   case atStart=>exact⟨0,by omega,rfl,H1⟩
   case round=>
    clear H1;revert wr;intro C hrel;obtain⟨k,hk,rfl,S⟩:=hrel;obtain⟨F,D2,T,d,z,Y⟩:=S.out;clear S
    by_cases hkn:k<l.length
    ·have k1:(k:Int)<(l.length:Int):=by omega
     obtain⟨x,hxk⟩:∃x,l[k]?=some x:=⟨_,cF hkn⟩;obtain⟨h,K,O,rfl,c1,c2,hT⟩:=HX.out C d.mx.b k x hxk;have ab:=ag.2 x (cQ hxk);have Q:Hid (Tb.uy C0 j l (k+1)=Tb.yg (Tb.uy C0 j l k) j x.1 x.2 x.2.length):=by
      show _=_;rw[Tb.uy,hxk]
     obtain⟨p,B⟩:=x;simp only at c1 c2 hT ab Q;obtain⟨L,U⟩:∃V,V=C.alloc (.cells #[.int .i64 (p:Int),.slice K B.length O] 170):=⟨_,rfl⟩;obtain⟨J,N⟩:∃b,C.heap.size=b:=⟨_,rfl⟩;have I:aj L J #[.int .i64 (p:Int),.slice K B.length O] 170:=by rw[U,<-N];exact aj.new ..
     have q:dV w a a n A.length L F D2:=d.move (by rw[U];exact(cV _ _).alloc (zL0) _);have x2:L.cell? ⟨J,1,none⟩=some (.slice K B.length O):=I.cell 1;have HT:Hid (∀f,Below a w f->∀(m:Nat)t,B[m]?=some t->∃b,K=some ⟨b,0,none⟩/\f.cell? ⟨b,m,none⟩=some (.int .i64 (t:Int))):=hT;have H2:Hid (∃c D,c.length=j+1/\dV w a a n A.length L c D/\D.map (List.map iZ)=Tb.yg (Tb.uy C0 j l k) j p B 0/\aj L J #[.int .i64 (p:Int),.slice K B.length O] 170/\∀t x,Tb.at2 D j t=some x->x.2.1.length<=k*X+0):=⟨F,D2,T,q,z,I,fun t x h=>by have:=Y t x h;omega⟩;clear d q hT I T z HX hxk Y;generalize Tb.uy C0 j l k=C1 at Q H2;go_upto_region 9 with fail
     rw[<-U];clear U N c1 c2;go_wp2_with fail;clear x2
     go_loopw [41] (fun i wr=>∃m:Nat,m<=B.length/\i=.int .i64 (m:Int)/\Hid (∃c D,c.length=j+1/\dV w a a n A.length wr c D/\D.map (List.map iZ)=Tb.yg C1 j p B m/\aj wr J #[.int .i64 (p:Int),.slice K B.length O] 170/\∀t x,Tb.at2 D j t=some x->x.2.1.length<=k*X+m)) (fun i _=>B.length - (intOf i).toNat)
     case atStart=>exact⟨0,by omega,rfl,H2⟩
     case round=>
      clear H2;revert wr;intro f hrel;obtain⟨m,hm,rfl,S⟩:=hrel;obtain⟨Ev,D3,Ot,d,z,I,Y⟩:=S.out;clear S
      by_cases hmn:m<B.length
      ·have m1:(m:Int)<(B.length:Int):=by omega
       obtain⟨t,ht⟩:∃t,B[m]?=some t:=⟨_,cF hmn⟩;obtain⟨b,rfl,c1⟩:=HT.out f d.mx.b m t ht;have az:=ab.2 t (cQ ht);obtain⟨x,hx⟩:=d.at (i:=j) (t:=t) (by omega) az;obtain⟨P,u⟩:∃g,Ev[j]?=some g:=⟨_,cF (by omega)⟩;obtain⟨rc,-,kG⟩:=d.mx.rowAt u;have o1:=d.mx.DX u;have ao:=Y t x hx;have ho:=d.own j t x hx;obtain⟨-,d1⟩:=d.cells u hx;have Em:Hid (Tb.yg C1 j p B (m+1)=Tb.Oq (Tb.yg C1 j p B m) j t p):=by
        show _=_;rw[Tb.yg,ht]
       obtain⟨s,E,v⟩:=x;simp only at d1 ho ao;obtain⟨oa,oc,rfl,-⟩:=aB ho;have lg:=kG.lt;have lx:=I.lt;have x1:f.cell? ⟨J,0,none⟩=some (.int .i64 (p:Int)):=I.cell 0;have dA:∀o,(f.alloc o).cell? ⟨P,t*2+1,none⟩=some (.slice oa E.length oc):=fun o=>(cJ (w:=f) (di _ _ _ lg)).trans d1
       have xA:∀o,(f.alloc o).cell? ⟨J,0,none⟩=some (.int .i64 (p:Int)):=fun o=>(cJ (w:=f) (di _ _ _ lx)).trans x1
       have o3:(f.alloc (.cells #[.int .i64 (p:Int)] 3)).drew.ownsRow a 3 1 (.slice oa E.length oc) E.length (E.map bQ):=aC (ho.alloc (.cells #[.int .i64 (p:Int)] 3)) fun _ _=>rfl
       have KG:aj (f.alloc (.cells #[.int .i64 (p:Int)] 3)).drew P rc.toArray 166:=(kG.alloc _).drew;have av:(Value.slice oa E.length oc).ownBlock≠some P:=fun e=>(d.kv hx e).ne (show Kd f P 166 from ⟨_,kG⟩) (by decide) rfl
       have ax:a<=(f.alloc (.cells #[.int .i64 (p:Int)] 3)).drew.heap.size:=dg d.mx.size (aX f _ none).size;have dG:rc[t*2+1]?=some (.slice oa E.length oc):=by rw[<-d1,kG.cell,fR]
       have H9:Hid (∀W v9,f.grownBy W (Value.slice oa E.length oc).ownBlock->W.ownsRow a 3 1 v9 (E++[p]).length ((E++[p]).map bQ)->(v9.ownBlock=(Value.slice oa E.length oc).ownBlock\/∃k,v9.ownBlock=some k/\f.heap.size<=k)->∃c D,c.length=j+1/\dV w a a n A.length (W.setCell ⟨P,t*2+1,none⟩ v9) c D/\D.map (List.map iZ)=Tb.yg C1 j p B (m+1)/\aj (W.setCell ⟨P,t*2+1,none⟩ v9) J #[.int .i64 (p:Int),.slice (some ⟨b,0,none⟩) B.length O] 170/\∀t x,Tb.at2 D j t=some x->x.2.1.length<=k*X+(m+1)):=fun W v9 ap nY a0=>by
        have hA:=d.app (p:=p) u hx ap nY a0;refine⟨Ev,_,Ot,hA,by rw[Em.out,<-z];exact Tb.aj1 hx,?_,fun t' x' Z=>?_⟩
        ·have kx:Kd f J 170:=⟨_,I⟩
         exact(fQ _ _ (kx.ne (show Kd f P 166 from ⟨_,kG⟩) (by decide))).trans ((ap.block J lx fun e=>kx.ne (d.kv hx e.symm) (by decide) rfl).trans I)
        ·rw[Tb.Jd hx]at Z
         split at Z
         ·cases Z
          show (E++[p]).length<=_;rw[cH,gx];omega
         ·have:=Y t' x' Z
          omega
       have d0:(0:Int)<=(j:Int):=by omega
       have d2:(0:Int)<=(t:Int):=by omega
       have d3:(t:Int)<(n:Int):=by omega
       have a2:=ag.1;have a1:E.length<=10000000000000:=by
        have h1:=ab.1;have h2:k*X<=1000000*1000000:=Nat.mul_le_mul (by omega) (by rw[ah.out];exact zL0);omega
       clear d z Ot Y ho hx u kG I Em HT ht ao ag HS Q;go_upto_region 13 with fail
       go_region_law (refine step_append_lies _ rfl (.tmp 55) (.tmp 58) 22 rfl a 3 i3 _ 1 8 underlying22 aw DT DU ai rfl (by decide) (.slice oa E.length oc) E.length (E.map bQ) (by simp[Act.eval]) o3 ⟨f.heap.size,0,none⟩ 1 1 [.int .i64 (p:Int)] (by simp[Act.eval]) rfl (dI (aj.new f _ 3).drew) (by simp[Value.oneCell']) (by decide) (by unfold maxLen;omega) (by omega) ax _ rfl ?_;intro g9 dw W ny jw lY F7;have jC:=KG.grown jw (fun e=>av e.symm);have c9:W.cell? ⟨P,t*2+1,none⟩=some (.slice oa E.length oc):=(by rw[jC.cell,fR];exact dG);have f9:=jC.frozen (t*2+1))
       all_goals
        have HN:Hid (∃c D,c.length=j+1/\dV w a a n A.length (W.setCell ⟨P,t*2+1,none⟩ (.slice (some ⟨g9,0,none⟩) (E.length+1) dw)) c D/\D.map (List.map iZ)=Tb.yg C1 j p B (m+1)/\aj (W.setCell ⟨P,t*2+1,none⟩ (.slice (some ⟨g9,0,none⟩) (E.length+1) dw)) J #[.int .i64 (p:Int),.slice (some ⟨b,0,none⟩) B.length O] 170/\∀t x,Tb.at2 D j t=some x->x.2.1.length<=k*X+(m+1)):=H9.out W _ (aL (b:=(f.alloc (.cells #[.int .i64 (p:Int)] 3)).drew) ⟨rfl,rfl,rfl,(aX f _ none).size,fun i hi _=>di _ _ _ hi⟩ jw) (by rw[cH,ei];exact ny) (by
         rcases lY with e|e
         ·exact .inl e.symm
         ·exact .inr ⟨g9,rfl,by rw[e];exact(aX f _ none).size⟩)
        clear ny jw lY jC c9 f9 o3 KG dA xA H9;go_wp2_with fail;exact⟨⟨m+1,by omega,by go_num,HN⟩,by simp[intOf];omega⟩
      ·obtain rfl:m=B.length:=by omega
       have HE:Hid (∃c D,c.length=j+1/\dV w a a n A.length f c D/\D.map (List.map iZ)=Tb.uy C0 j l (k+1)/\∀t x,Tb.at2 D j t=some x->x.2.1.length<=(k+1)*X):=⟨Ev,D3,Ot,d,by rw[Q.out];exact z,fun t x hx=>by have:=Y t x hx;have:=ab.1;have:=ah.out;rw[rI,sL];omega⟩;clear d Ot z I Q HT Y;go_wp2_with fail;exact⟨⟨k+1,by omega,by go_num,HE⟩,by simp[intOf];omega⟩
    ·obtain rfl:k=l.length:=by omega
     have HE:Hid (∃c D,c.length=j+1/\dV w a a n A.length C c D/\D.map (List.map iZ)=Tb.sJ A n (j+1)):=⟨F,D2,T,d,by rw[HS.out];exact z⟩;clear d T z HS HX Y;go_wp2_with fail;exact⟨⟨j+1,by omega,by go_num,HE⟩,by simp[intOf];omega⟩
  ·obtain rfl:j=A.length:=by omega
   have H1:Hid (∃c D,c.length=A.length/\dV w a a n A.length wr c D/\D.map (List.map iZ)=Tb.uz (Tb.sJ A n A.length) y n 0):=⟨c,D,H,d,z⟩;have HC:Hid (Tb.choices A y n=Tb.uz (Tb.sJ A n A.length) y n y.length):=rfl;clear d H z ae HA hx;generalize Tb.sJ A n A.length=C0 at H1 HC;go_wp2_with fail
   go_loopw [67] (fun i wr=>∃k:Nat,k<=y.length/\i=.int .i64 (k:Int)/\Hid (∃c D,c.length=A.length/\dV w a a n A.length wr c D/\D.map (List.map iZ)=Tb.uz C0 y n k)) (fun i _=>y.length - (intOf i).toNat)
   case atStart=>exact⟨0,by omega,rfl,H1⟩
   case round=>
    clear H1;revert wr;intro C hrel;obtain⟨k,hk,rfl,S⟩:=hrel;obtain⟨F,D2,T,d,z⟩:=S.out;clear S
    by_cases hkn:k<y.length
    ·have k1:(k:Int)<(y.length:Int):=by omega
     obtain⟨x,hxk⟩:∃x,y[k]?=some x:=⟨_,cF hkn⟩;obtain⟨g,rfl,c1,c2,c3⟩:=HE.out C d.mx.b k x hxk;have af:=ak x (cQ hxk);have G:Tb.uz C0 y n (k+1)=if x.2.1<n then Tb.Gb (Tb.uz C0 y n k) x.1 x.2.1 x.2.2 else Tb.uz C0 y n k:=by rw[Tb.uz,hxk]
     obtain⟨y1,R,y3⟩:=x;simp only at c1 c2 c3 af G;obtain⟨L,U⟩:∃V,V=C.alloc (.cells #[.int .i64 (y1:Int),.int .i64 (R:Int),.int .i64 (y3:Int)] 173):=⟨_,rfl⟩;obtain⟨J,N⟩:∃b,C.heap.size=b:=⟨_,rfl⟩;have I:aj L J #[.int .i64 (y1:Int),.int .i64 (R:Int),.int .i64 (y3:Int)] 173:=by rw[U,<-N];exact aj.new ..
     have q:dV w a a n A.length L F D2:=d.move (by rw[U];exact(cV _ _).alloc (zL0) _);have x1:L.cell? ⟨J,0,none⟩=some (.int .i64 (y1:Int)):=I.cell 0;have x2:L.cell? ⟨J,1,none⟩=some (.int .i64 (R:Int)):=I.cell 1;have x3:L.cell? ⟨J,2,none⟩=some (.int .i64 (y3:Int)):=I.cell 2;clear d I HE
     by_cases hn:R<n
     ·have b1:decide ((R:Int)<(n:Int))=true:=fh (by omega)
      rw[de hn]at G;obtain⟨P,u⟩:∃g,F[y1]?=some g:=⟨_,cF (by omega)⟩;obtain⟨x,hx⟩:=q.at (i:=y1) (t:=R) (by omega) hn;have o1:=q.mx.DX u;obtain⟨o2,-⟩:=q.cells u hx;have o3:=q.mx.frozen u (R*2);have HN:Hid (∃c D,c.length=A.length/\dV w a a n A.length (L.setCell ⟨P,R*2,none⟩ (.int .i64 (y3:Int))).drew c D/\D.map (List.map iZ)=Tb.uz C0 y n (k+1)):=⟨F,_,T,(q.shift u hx y3).move ⟨rfl,rfl,rfl,zL0,fun _ _=>rfl⟩,by rw[G,<-z];exact Tb.aj2 hx⟩;have d0:(0:Int)<=(y1:Int):=by omega
      have d1:(y1:Int)<(A.length:Int):=by omega
      have d2:(0:Int)<=(R:Int):=by omega
      have d3:(R:Int)<(n:Int):=by omega
      clear q T z G hx u af;go_upto_region 20 with fail
      rw[<-U];clear U N c1 c2 c3;go_upto_region 21 with fail
      go_region
      go_wp2_with fail;exact⟨⟨k+1,by omega,by go_num,HN⟩,by simp[intOf];omega⟩
     ·have b1:decide ((R:Int)<(n:Int))=false:=eV (by omega)
      rw[dk hn]at G;have HN:Hid (∃c D,c.length=A.length/\dV w a a n A.length L c D/\D.map (List.map iZ)=Tb.uz C0 y n (k+1)):=⟨F,D2,T,q,by rw[G];exact z⟩;clear q T z G af;go_upto_region 20 with fail
      rw[<-U];clear U N c1 c2 c3;go_wp2_with fail;exact⟨⟨k+1,by omega,by go_num,HN⟩,by simp[intOf];omega⟩
    ·obtain rfl:k=y.length:=by omega
     have HR:Hid (ChE w (Tb.choices A y n) (.returned (.slice (some ⟨a,0,none⟩) A.length A.length)) C):=⟨_,rfl,by rw[HC.out,<-z];exact d.rows T,by rw[HG.out];exact d.mx.b⟩;clear d T z HC HE;go_wp2_with fail;go_ret;exact HR.out
end Go.Proofs.YtagkodkijkpemaaGreatDoor

import Derived.Test.YtagkodkijkpemaaGreatDoorRA44
set_option maxHeartbeats 8000000
set_option maxRecDepth 1000000
namespace Go.Proofs.YtagkodkijkpemaaGreatDoor
open Lx Go.Proofs.Tryz
open Go.RowKit Go.Shelf
open Tr
attribute [local go_sem] px
section
variable {c:bA} {w0:World} {F:Nat -> Prop} {B0:Nat} {W:World} {S:bL}
theorem jo.Dr{W1:World}{B:Nat}{vA:Value}{K:List (Nat×Nat)}{f:List Nat}{i:List (List Nat)}(h:jo c W B W1 vA K f i){k:Nat}(b:vZ B vA f k)(g:Option (List Deferred)):W1.heap[k]?≠some (.deferred g):=fun e=>by
 have a:∀{t:Nat},Kd W1 k t->False:=fun⟨y,d⟩=>by rw[e]at d;cases d
 rcases b with ⟨h1,h2⟩|b|b
 ·have:k=B\/k=B+1\/k=B+2\/k=B+3:=by omega
  rcases this with rfl|rfl|rfl|rfl
  ·exact a ⟨_,h.k1⟩
  ·obtain⟨j,l,h3,-⟩:=h.kg
   rw[e]at h3;cases h3
  ·exact a ⟨_,h.k4⟩
  ·exact a ⟨_,h.k5⟩
 ·exact a (h.kA b)
 ·exact a (h.kG b)
theorem aiY {n:Nat} {P:Program} {id:Nat} {Q:Exit->Act->World->Prop} {a:Act} {w:World} {b:List Oper} (g:P.follows .mixedOrders=true) (f:Region.lexB .any b.toArray=true)
  (h:wpQuietIn Fence.wide n P b.toArray (fun w'=>∃n,w'=w.drewN n) (fun a'=>∀w',(∃n,w'=w.drewN n)->Q .normal a' w') b a):(Code.region id b.toArray true).wpIn Fence.wide n P Q a w:=by
 simp only[Region.lexB,j']at f;refine wpIn_region_any g (wpAnyIn_of_quiet (C:=fun w'=>∃n,w'=w.drewN n) (Q:=fun a'=>∀w',(∃n,w'=w.drewN n)->Q .normal a' w') rfl (fun _ w' d h=>h w' d) _ _ _ _ ⟨1,rfl⟩ ?_);have:=wpAnyQIn_lex (F:=Fence.wide) (n:=n) (P:=P) (C:=fun w'=>∃n,w'=w.drewN n) (md:=.any) f.1 b 0 (Array.replicate b.toArray.size false) a (by simp) (by simpa using f.2) h;simpa using this
def xH(c:bA)(W:World)(B:Nat)(S:bL)(j:Nat)(w7:World)(vA:Value)(gs:List Nat)(i:Nat)(Z:Nat->Prop)(W':World):Prop:=∃zK K' gs' ss',jo c W B W' zK K' gs' ss'/\mY S (c.qK S j i) K' ss'/\ou B w7 vA gs W' zK gs'/\∀k,Z k->w7.heap.size<=k/\k<W'.heap.size/\¬vZ B zK gs' k
theorem xH.vO{B j:Nat}{m:World}{vA:Value}{p:List Nat}(q:B+4<=m.heap.size):xJ (xH c W B S j m vA p) where
 own i Z A C row hs hg hr:=by
  obtain⟨v,K,g,s,M,I,X,z⟩:=hs;have ne:∀k,k<A.heap.size->¬Z k->C.heap[k]?=A.heap[k]?:=fun k a f=>hg.block k a fun e=>f (hr k e.symm)
  refine⟨v,K,g,s,M.move (fun k a n=>ne k a fun d=>(z k d).2.2 n) (M.b.grown hg (lh M.k1.lt) fun k e=>by have:=(z k (hr k e)).1;omega),I,⟨fun k a f=>(ne k (dd a X.bS) fun d=>by have:=(z k d).1;omega).trans (X.aU k a f),X.new,dg X.bS hg.size⟩,fun k a=>⟨(z k a).1,dd (z k a).2.1 hg.size,(z k a).2.2⟩⟩
 new i Z A o hs:=by
  obtain⟨v,K,g,s,M,I,X,z⟩:=hs;have l:Below A.heap.size A (A.alloc o):=(cV _ _).alloc (zL0) o;refine⟨v,K,g,s,M.below l,I,X.trans (ou.below l),fun k a=>?_⟩;rw[fb];rcases a with a|rfl
  ·exact⟨(z k a).1,by have:=(z k a).2.1;omega,(z k a).2.2⟩
  ·exact⟨X.bS,by omega,fun e=>by have:=M.lt e;omega⟩
theorem xH.next{B j i:Nat}{p W1 o:World}{vA q l:Value}{s b n:List Nat}{m:List (Nat×Nat)}{r:List (List Nat)}{Z:Nat->Prop}{a:Act}(v:ou B p vA s W1 q b)(g:∀k,Z k->p.heap.size<=k/\k<W1.heap.size/\¬vZ B q b k)(x:jo c W B o l m n r)(u:mY S (c.qK S j (i+1)) m r)(f:ou B W1 q b o l n):yN Z (xH c W B S j p vA s (i+1) Z) W1 .normal a o :=
 ⟨⟨l,m,n,r,x,u,v.trans f,fun k d=>⟨(g k d).1,dd (g k d).2.1 f.bS,fun e=>by
  have:=g k d;rcases f.new k e with e|e
  ·exact this.2.2 e
  ·omega⟩⟩,fun k d t=>f.aU k t (g k d).2.2⟩
theorem ahw(hF:mU c w0 F B0)(h:jP c w0 F B0 W S)(c0:S.st.length<=900000)(b3:c.nw<=100000)(Hz:∀K:List (Nat×Nat),K.Nodup->(∀e∈K,∃i,c.yD S i e)->K.length<=1000000000):Calls prog 99 #[.pointer (some ⟨c.lb,0,none⟩)] W (LK c W S):=by
 have hm:prog.follows .mixedOrders=true:=by kernel_rfl
 have cw:=@r7 prog;obtain⟨B,hB⟩:∃b,W.heap.size=b:=⟨_,rfl⟩;obtain⟨sa,sc,pq,-⟩:=aB h.rS;have d9:W.cell? ⟨c.lb,9,none⟩=some (.slice sa S.st.length sc):=by rw[<-pq];exact h.blk.cell 9
 have ll:=h.blk.lt;obtain⟨w4,ab⟩:∃V,V=(((W.alloc (.cells #[.pointer (some ⟨c.lb,0,none⟩)] 216)).alloc (.map #[] 0)).alloc (.cells #[.map (some (B+1))] 223)).alloc (.cells #[.slice none 0 0] 149):=⟨_,rfl⟩;have z1:(W.alloc (.cells #[.pointer (some ⟨c.lb,0,none⟩)] 216)).heap.size=B+1:=by rw[fb,hB]
 have z2:((W.alloc (.cells #[.pointer (some ⟨c.lb,0,none⟩)] 216)).alloc (.map #[] 0)).heap.size=B+2:=by rw[fb,z1]
 have z3:(((W.alloc (.cells #[.pointer (some ⟨c.lb,0,none⟩)] 216)).alloc (.map #[] 0)).alloc (.cells #[.map (some (B+1))] 223)).heap.size=B+3:=by rw[fb,z2]
 have ap:Below B W w4:=by
  rw[ab,<-hB];exact((((cV _ _).alloc (zL0) _).alloc (by simp) _).alloc (by simp;omega) _).alloc (by simp;omega) _
 have M4:jo c W B w4 (.slice none 0 0) [] [] []:=by
  refine⟨ap,?_,?_,?_,?_,eE _ _ _ _,(fun i g hg=>by simp at hg),mf,rfl,rfl⟩
  ·rw[ab,<-hB]
   exact(((aj.new ..).alloc _).alloc _).alloc _
  ·rw[ab,<-z1]
   exact((iD.made _ _).move (di _ _ _ (by simp))).move (di _ _ _ (by simp))
  ·rw[ab,<-z2]
   exact(aj.new ..).alloc _
  ·rw[ab,<-z3]
   exact aj.new ..
 have Ia:Hid (∀m,Below B W m->aj m c.lb (c.cells S) 153/\(∀b,F b->m.heap[b]?=w0.heap[b]?)/\(∀(j:Nat)s,S.st[j]?=some s->∃g,sa=some ⟨g,0,none⟩/\m.cell? ⟨g,j*2,none⟩=some (.int .i64 (s.1:Int))/\m.cell? ⟨g,j*2+1,none⟩=some (.int .i64 (s.2:Int))/\∃ga ca gj,S.vA=.slice (some ⟨ga,0,none⟩) S.gs.length ca/\m.cell? ⟨ga,j,none⟩=some (.slice (some ⟨gj,0,none⟩) c.nw c.nw)/\TS m gj (S.ss.getD j [])/\(S.ss.getD j []).length=c.nw/\gj<B/\j<S.gs.length)):=fun m hb=>by
  have lb:c.lb<B:=by rw[<-hB];exact ll
  refine⟨(hb.block _ lb).trans h.blk,fun b R=>(hb.block b (by rw[<-hB];exact dd (hF.low b R).1 h.big)).trans (h.keep b R),fun j s hs=>?_⟩;obtain⟨sx,sy⟩:=s;obtain⟨f1,f2⟩:=SI _ _ _ _ hs;obtain⟨g,cp,e,hc⟩:=mZ h.rS f1;rw[pq]at e;cases e;have bY:=iA hs;obtain⟨gj,a1⟩:∃g,S.gs[j]?=some g:=⟨_,cF (by rw[h.lg];exact bY)⟩;obtain⟨-,ws,aa,yE,ci⟩:=h.sets j gj a1;obtain⟨ga,ca,e2,cd⟩:=mZ h.rA (j:=j) (u:=gY c.nw gj) (by rw[dj,a1];rfl);have e3:S.ss.getD j []=ws:=Ny aa;rw[<-hB]at hb;rw[e3];exact⟨g,rfl,aV hb (hc _ _ f1),aV hb (hc _ _ f2),ga,ca,gj,e2,aV hb (cd j _ (by rw[dj,a1];rfl)),yE.move (hb.block _ yE.blk.lt),ci,by rw[<-hB];exact yE.blk.lt,iA a1⟩
 have dA:w4.cell? ⟨c.lb,9,none⟩=some (.slice sa S.st.length sc):=by
  rw[<-hB]at ap;exact aV ap d9
 have H0:Hid (jo c W B w4 (.slice none 0 0) [] [] []/\mY S (c.qK S 0 0) [] []/\oU w4 []/\∀D∈([]:List Nat),B+4<=D):=⟨M4,⟨mf,rfl,(fun e=>⟨fun h=>(by cases h),fun⟨i,h⟩=>(aky.1 h).elim⟩),(fun p e t hp=>by simp at hp)⟩,⟨by simp,by simp⟩,by simp⟩;have a4:Hid (∀m vA K gs ss,jo c W B m vA K gs ss->mY S (c.qK S S.st.length 0) K ss->LK c W S (.returned (.tuple #[.map (some (B+1)),vA])) m):=fun m vA K gs ss M I=>⟨B+1,vA,K,gs,ss,rfl,by rw[hB];exact M.b,M.kg,by rw[hB];exact jc M.row (by omega),fun i g hg=>(M.sets i g hg).2,M.lg,I.ext fun q f=>alS⟩
 have x1:w4.cell? ⟨B,0,none⟩=some (.pointer (some ⟨c.lb,0,none⟩)):=M4.k1.cell 0;clear z1 z2 z3 ap M4 d9 h pq;obtain⟨Q,hQ⟩:∃Q,Q=bodyPostM Fence.wide 9 prog Tryz.f99 (LK c W S):=⟨_,rfl⟩;refine hU.1 (callsIn_of_wp_marks (F:=Fence.wide) (n:=9) func99 rfl trivial ?_ rfl);rw[<-hQ];simp only[ntmps99,kf,el,iu,Nat.reduceAdd,Nat.reduceSub,mA,mz,n8,m7,go,fX]
 gi_upto_region 3 with fail
 rw[<-ab];clear ab cw hB
 gi_wp2
 clear x1 dA;refine wpIn_loop_ghost_k (fun n a w=>∃(u6 u7 u8 u9 zF Bd Bf bR bw bD b1 b7 bt bz b9 br aF bh bb aW bd a7 aI aG bj a6 Bg a8 Bh bc tY ba aP bg Bj aH a9 zG bi zH a2 yx ak yA yB av an ai Qm Qn aq ar Qo ao Qp:Value)(Ds:List Nat)(j:Nat)(vA:Value)(K:List (Nat×Nat))(gs:List Nat)(ss:List (List Nat)),n=S.st.length-j/\j<=S.st.length/\a={ tmps:=#[.pointer (some ⟨c.lb,0,none⟩),.pointer (some ⟨B,0,none⟩),.map none,.slice none 0 0,.pointer (some ⟨B+1+1,0,none⟩),.pointer (some ⟨B+1+1+1,0,none⟩),u6,u7,u8,u9,zF,.map (some (B+1)),.pointer (some ⟨c.lb,0,none⟩),.pointer (some ⟨c.lb,0,none⟩),.pointer (some ⟨c.lb,9,none⟩),.slice sa S.st.length sc,.int .i64 (S.st.length:Int),.int .i64 (j:Int),Bd,Bf,bR,bw,bD,b1,b7,bt,bz,b9,br,aF,bh,bb,aW,bd,a7,aI,aG,bj,a6,Bg,a8,Bh,bc,tY,ba,aP,bg,Bj,aH,a9,zG,bi,zH,a2,yx,ak,yA,yB,av,an,ai,Qm,Qn,aq,ar,Qo,ao,Qp],defers:=Qh Ds }/\Hid (jo c W B w vA K gs ss/\mY S (c.qK S j 0) K ss/\oU w Ds/\∀D∈Ds,B+4<=D)) (S.st.length-0) ⟨undef,undef,undef,undef,undef,undef,undef,undef,undef,undef,undef,undef,undef,undef,undef,undef,undef,undef,undef,undef,undef,undef,undef,undef,undef,undef,undef,undef,undef,undef,undef,undef,undef,undef,undef,undef,undef,undef,undef,undef,undef,undef,undef,undef,undef,undef,undef,undef,undef,undef,undef,undef,undef,undef,undef,[],0,.slice none 0 0,[],[],[],rfl,eR _,rfl,H0⟩ ?_;clear H0;rintro n a w⟨u6,u7,u8,u9,zF,Bd,Bf,bR,bw,bD,b1,b7,bt,bz,b9,br,aF,bh,bb,aW,bd,a7,aI,aG,bj,a6,Bg,a8,Bh,bc,tY,ba,aP,bg,Bj,aH,a9,zG,bi,zH,a2,yx,ak,yA,yB,av,an,ai,Qm,Qn,aq,ar,Qo,ao,Qp,Ds,j,vA,K,gs,ss,rfl,hj,rfl,H1⟩J K0 hJ hK
 obtain⟨M,I,hC,hD⟩:=H1.out;clear H1
 by_cases hjn:j<S.st.length
 ·have j1:(j:Int)<(S.st.length:Int):=by omega
  have j0:(0:Int)<=(j:Int):=by omega
  obtain⟨s,hs⟩:∃s,S.st[j]?=some s:=⟨_,cF hjn⟩;obtain⟨kb,-,ac⟩:=Ia.out w M.b;obtain⟨g,rfl,c1,c2,-⟩:=ac j s hs;obtain⟨s1,s2⟩:=s;simp only at c1 c2
  gi_upto_region 6 with fail
  obtain⟨N,jh⟩:∃V,V=(w.alloc (.cells #[.int .i64 (j:Int)] 3)).alloc (.cells #[.int .i64 (s1:Int),.int .i64 (s2:Int)] 212):=⟨_,rfl⟩;rw[<-jh];obtain⟨b6,bf⟩:∃b,w.heap.size=b:=⟨_,rfl⟩;have aE:Below w.heap.size w N:=by rw[jh];exact((cV _ _).alloc (zL0) _).alloc (by simp) _
  have k6:aj N b6 #[.int .i64 (j:Int)] 3:=by rw[jh,<-bf];exact(aj.new ..).alloc _
  have k7:aj N (b6+1) #[.int .i64 (s1:Int),.int .i64 (s2:Int)] 212:=by
   rw[jh,<-bf];have:=aj.new (w.alloc (.cells #[.int .i64 (j:Int)] 3)) #[.int .i64 (s1:Int),.int .i64 (s2:Int)] 212
   rwa [fb]at this
  have M5:=M.below aE;have C5:oU N Ds:=hC.move fun D al=>aE.block D (dv.1 (hC.at' D al)).1
  have n6:¬vZ B vA gs b6/\¬vZ B vA gs (b6+1):=⟨fun e=>by have:=M.lt e;omega,fun e=>by have:=M.lt e;omega⟩;rw[bf];clear jh aE c1 c2 kb ac M hC;obtain⟨kb,-,-⟩:=Ia.out N M5.b;have x1:N.cell? ⟨B,0,none⟩=some (.pointer (some ⟨c.lb,0,none⟩)):=M5.k1.cell 0;have m0:N.cell? ⟨c.lb,0,none⟩=some (.slice c.ta c.nT c.tc):=kb.cell 0;have m1:N.cell? ⟨c.lb,1,none⟩=some c.v1:=kb.cell 1;have m2:N.cell? ⟨c.lb,2,none⟩=some (.slice (some ⟨c.gP,0,none⟩) c.P.length c.pc):=kb.cell 2;have m3:N.cell? ⟨c.lb,3,none⟩=some c.v3:=kb.cell 3;have m4:N.cell? ⟨c.lb,4,none⟩=some c.v4:=kb.cell 4;have m5:N.cell? ⟨c.lb,5,none⟩=some (.map (some c.gm)):=kb.cell 5;have y1:N.cell? ⟨b6+1,0,none⟩=some (.int .i64 (s1:Int)):=k7.cell 0;have y2:N.cell? ⟨b6+1,1,none⟩=some (.int .i64 (s2:Int)):=k7.cell 1;refine mo 5 (by kernel_rfl) (by kernel_rfl) (by kernel_rfl) ?_
  dsimp only[List.take,List.drop,List.length]
  repeat (gi_big_quiet_step (fail))
  refine wpQuietIn_nil ?_;rintro _⟨rF,rfl⟩;refine wpAnyIn_ready (rs:=[5]) (by kernel_rfl) (by simp) (AllReadyIn.cons rfl (fun y l=>?_) AllReadyIn.nil)
  go_simp
  refine⟨trivial,(hU.2 ajU).mono ?_⟩;rintro e w7⟨rfl,Y⟩;refine l _ _ (wpAnyIn_done (by kernel_rfl) ?_ _);clear l y;have bU:Hid (w7=_):=Y;clear x1 m0 m1 m2 m3 m4 m5 y1 y2 kb Y
  gi_wp2
  have Y:=bU.out;clear bU;obtain⟨bm,vX⟩:∃b,N.heap.size=b:=⟨_,rfl⟩;have c5:w7.heap.size=bm+2:=by rw[Y];simp[vX]
  have gJ:Below N.heap.size N w7:=by rw[Y];exact((show Below N.heap.size N (N.drewN rF) from ⟨rfl,rfl,rfl,zL0,fun _ _=>rfl⟩).alloc (zL0) _).alloc (by rw[fb];exact oR _) _
  have kM:aj w7 bm #[.slice c.ta c.nT c.tc,c.v1,.slice (some ⟨c.gP,0,none⟩) c.P.length c.pc,c.v3,c.v4,.map (some c.gm)] 147:=by
   rw[Y,<-vX];exact(aj.new (N.drewN rF) _ _).alloc _
  have kS:aj w7 (bm+1) #[.int .i64 (s1:Int),.int .i64 (s2:Int)] 212:=by
   rw[Y,<-vX];have:=aj.new ((N.drewN rF).alloc (.cells #[.slice c.ta c.nT c.tc,c.v1,.slice (some ⟨c.gP,0,none⟩) c.P.length c.pc,c.v3,c.v4,.map (some c.gm)] 147)) #[.int .i64 (s1:Int),.int .i64 (s2:Int)] 212
   rwa [fb]at this
  have M7:=M5.below gJ;have WS:aj w7 b6 #[.int .i64 (j:Int)] 3:=(gJ.block _ k6.lt).trans k6;have C7:oU w7 Ds:=C5.move fun D al=>gJ.block D (dv.1 (C5.at' D al)).1
  have nM:¬vZ B vA gs bm/\¬vZ B vA gs (bm+1):=⟨fun e=>by have:=M5.lt e;omega,fun e=>by have:=M5.lt e;omega⟩;have zI:Hid (jo c W B w7 vA K gs ss/\oU w7 Ds/\mY S (c.qK S j 0) K ss):=⟨M7,C7,I⟩;have HK:Hid (∀{m zK gs'},ou B w7 vA gs m zK gs'->aj m b6 #[.int .i64 (j:Int)] 3):=fun X=>(X.aU b6 WS.lt n6.1).trans WS
  have HR:Hid (∀{m zK K' gs' ss'},jo c W B m zK K' gs' ss'->ou B w7 vA gs m zK gs'->KY w0 F m bm (.slice c.ta c.nT c.tc) c.v1 (.slice (some ⟨c.gP,0,none⟩) c.P.length c.pc) c.v3 c.v4 c.gm c.f/\aj m (bm+1) #[.int .i64 (s1:Int),.int .i64 (s2:Int)] 212):=fun M' X=>by
   obtain⟨-,kp,-⟩:=Ia.out _ M'.b;exact⟨⟨(X.aU bm kM.lt nM.1).trans kM,kp,hF.goes.move (kp _ hF.fm)⟩,(X.aU (bm+1) kS.lt nM.2).trans kS⟩
  have LH:B+4<=w7.heap.size:=M7.k5.lt;have ck:(N.drewN rF).heap.size=bm:=vX
  try simp only[ck]
  try rw[vX]
  clear Y gJ kM kS nM M7 C7 WS M5 C5 k6 k7 I;have a3:=ajV (w0:=w0) (F:=F) (bm:=bm) (bs:=bm+1) (gm:=c.gm) (gP:=c.gP) (pc:=c.pc) (q:=s1) (n:=s2) (v0:=.slice c.ta c.nT c.tc) (v1:=c.v1) (v3:=c.v3) (v4:=c.v4) (f:=c.f) hF.prods hF.pl hF.rl;refine Iw (gf:=168) (lb:=#[.pointer (some ⟨bm,0,none⟩),.pointer (some ⟨bm+1,0,none⟩)]) rfl (enters_of func168 (by kernel_rfl) rfl) a3 (fun _=>rfl) (xH c W B S j w7 vA gs) (xH.vO LH) (fun i Z m h=>by obtain⟨v',K',g',s',M',-,X',-⟩:=h;exact HR.out M' X') ⟨vA,K,gs,ss,zI.out.1,zI.out.2.2,ou.refl _ _ _ _,fun k h=>h.elim⟩
   (fun x a' m=>∃Bx,w7.heap.size+2<=Bx/\aj m Bx #[.int .i64 (x.2:Int),.int .i64 (x.1.1:Int)] 228/\a'={ tmps:=#[.pointer (some ⟨c.lb,0,none⟩),.pointer (some ⟨B,0,none⟩),.map none,.slice none 0 0,.pointer (some ⟨B+1+1,0,none⟩),.pointer (some ⟨B+1+1+1,0,none⟩),.pointer (some ⟨b6,0,none⟩),.pointer (some ⟨b6+1,0,none⟩),.pointer (some ⟨Bx,0,none⟩),u9,zF,.map (some (B+1)),.pointer (some ⟨c.lb,0,none⟩),.pointer (some ⟨c.lb,0,none⟩),.pointer (some ⟨c.lb,9,none⟩),.slice (some ⟨g,0,none⟩) S.st.length sc,.int .i64 (S.st.length:Int),.int .i64 (j:Int),.bool true,.int .i64 (j:Int),.pointer (some ⟨g,j*2,none⟩),.agg #[.int .i64 (s1:Int),.int .i64 (s2:Int)],.pointer (some ⟨c.lb,0,none⟩),.pointer (some ⟨c.lb,0,none⟩),.pointer (some ⟨c.lb,0,none⟩),.agg #[.slice c.ta c.nT c.tc,c.v1,.slice (some ⟨c.gP,0,none⟩) c.P.length c.pc,c.v3,c.v4,.map (some c.gm)],.agg #[.int .i64 (s1:Int),.int .i64 (s2:Int)],.func (.func 168) #[] #[.pointer (some ⟨bm,0,none⟩),.pointer (some ⟨bm+1,0,none⟩)],bC (bA.end x),aF,bh,bb,aW,bd,a7,aI,aG,bj,a6,Bg,a8,Bh,bc,tY,ba,aP,bg,Bj,aH,a9,zG,bi,zH,a2,yx,ak,yA,yB,av,an,ai,Qm,Qn,aq,ar,Qo,ao,Qp],defers:=[] })
   ?hAx ?assign ?body ?done
  case hAx=>
   rintro x a' A o'⟨Bx,h1,h2,rfl⟩;exact⟨Bx,h1,(World.putObj_heap_other (by omega)).trans h2,rfl⟩
  case assign=>
   rintro l' i⟨⟨k,d⟩,r⟩Z m K' hsz hi ch;simp only[Ut,bC]
   gi_wp2
   exact ch _ _ (by simp) (fun k _ hk=>di _ _ _ hk) ((xH.vO LH).own _ _ _ _ none hi (qh _ _ none) (fun r e=>by cases e)) ⟨m.heap.size,by omega,aj.new ..,rfl⟩
  case body=>
   clear a3 HR;rintro l' i⟨⟨k,d⟩,r⟩Z a' m hx⟨Bl,G,H,ag,C,I1,X1,z⟩⟨Bx,cD,kX,rfl⟩;have ax:(c.yC (s1,s2))[i]?=some ((k,d),r):=hx;obtain⟨kb,-,ac⟩:=Ia.out m C.b;obtain⟨-,-,-,-,ga,ca,gj,ED,cj,a5,az,c4,c3⟩:=ac j (s1,s2) hs;have bo:m.cell? ⟨c.lb,10,none⟩=some (.slice (some ⟨ga,0,none⟩) S.gs.length ca):=by rw[<-ED];exact kb.cell 10
   have k6:=HK.out X1;have x0:m.cell? ⟨Bx,0,none⟩=some (.int .i64 (r:Int)):=kX.cell 0;have x1:m.cell? ⟨Bx,1,none⟩=some (.int .i64 (k:Int)):=kX.cell 1;have x4:m.cell? ⟨B+1+1,0,none⟩=some (.map (some (B+1))):=C.k4.cell 0;have ah:=I1.nd
   by_cases hin:bA.end ((k,d),r)∈G
   ·obtain⟨p,hp⟩:=eQ.1 hin
    have ad:=iD.hit Tryz.JU Tryz.Jm C.kg ah hp;simp only[bC,bA.end]at ad;obtain⟨gp,wm⟩:∃g,H[p]?=some g:=⟨_,cF (by rw[C.lg];exact iA hp)⟩;obtain⟨cn,ws,aa,LM,hlp⟩:=C.sets p gp wm;obtain⟨gA,cA,LP,ae⟩:=mZ C.row (j:=p) (u:=gY c.nw gp) (by rw[dj,wm];rfl);have cp:m.cell? ⟨gA,p,none⟩=some (.slice (some ⟨gp,0,none⟩) c.nw c.nw):=ae p _ (by rw[dj,wm];rfl);have x5:m.cell? ⟨B+1+1+1,0,none⟩=some (.slice (some ⟨gA,0,none⟩) H.length cA):=by rw[<-LP];exact C.k5.cell 0
    have xb:m.cell? ⟨B,0,none⟩=some (.pointer (some ⟨c.lb,0,none⟩)):=C.k1.cell 0;have xj:m.cell? ⟨b6,0,none⟩=some (.int .i64 (j:Int)):=k6.cell 0;have J5:∀O,_:=fun O=>ME (w:=m.drewN O) (g:=gp) (h:=gj) (nw:=c.nw) (LM.move rfl) (a5.move rfl) (fun e=>by omega) hlp az b3
    have e1:ag.getD p []=ws:=Ny aa;have HN:Hid (∀O W9(a:Act),TP (m.drewN O) gp (dL ws (S.ss.getD j [])) W9->yN Z (xH c W B S j w7 vA gs (i+1) Z) m .normal a W9):=fun O W9 a EH=>by
     have R:Below m.heap.size m (m.drewN O):=⟨rfl,rfl,rfl,zL0,fun _ _=>rfl⟩;obtain⟨M9,X9⟩:=(C.below R).join (p:=p) wm (by rw[dL,yL];exact hlp) EH;have I9:=(I1.hit (j:=j) hp (by rw[az,e1,hlp])).ext (aa4 hs ax);rw[e1]at I9;exact xH.next X1 z M9 I9 ((ou.below R).trans X9)
    have d0:(0:Int)<=(p:Int):=by omega
    have d1:(p:Int)<(H.length:Int):=by have:=iA wm;omega
    have d2:(j:Int)<(S.gs.length:Int):=by omega
    clear C I1 X1 z hx ax kb ac a5 az LM hlp aa wm LP ae hin hp ah k6 kX e1 ED HK zI
    gi_upto_region 13 with fail
    refine Me 11 (by kernel_rfl) (by kernel_rfl) (by kernel_rfl) (by kernel_rfl) ?_
    dsimp only[List.take,List.drop,List.length]
    repeat (gi_big_quiet_step (fail))
    refine wpQuietIn_nil ?_;rintro _⟨cr,rfl⟩;refine wpAnyIn_ready (rs:=[11]) (by kernel_rfl) (by simp) (AllReadyIn.cons rfl (fun y l=>?_) AllReadyIn.nil)
    go_simp
    refine⟨trivial,(hU.2 (J5 _)).mono ?_⟩;rintro e W9⟨b,rfl,EH,-⟩;refine l _ _ (wpAnyIn_done (by kernel_rfl) ?_ _);clear l y
    gi_wp2
    exact HN.out _ _ _ EH
   ·have ad:=iD.miss Tryz.JU Tryz.Jm Tryz.FP C.kg hin
    simp only[bC,bA.end]at ad;obtain⟨W2,bl,aA,aw,cg⟩:=iD.put Tryz.JU Tryz.Jm C.kg hin;simp only[bC,bA.end]at bl;obtain⟨va,vc,rfl,-⟩:=aB C.row;have x5:m.cell? ⟨B+1+1+1,0,none⟩=some (.slice va G.length vc):=by rw[<-C.lg];exact C.k5.cell 0
    have lB:B+3<m.heap.size:=C.k5.lt;have e2:∀k,k<m.heap.size->k≠B+1->W2.heap[k]?=m.heap[k]?:=fun k hk hn=>aw.block k hk fun e=>hn (by cases e;rfl)
    have l2:=aw.size;have LQ:aj W2 c.lb (c.cells S) 153:=(e2 _ kb.lt fun e=>by have:=C.kg;rw[<-e]at this;obtain⟨es,cl,h3,-⟩:=this;have Hf:=kb;unfold aj at Hf;rw[h3]at Hf;cases Hf).trans kb;have LU:aj W2 (B+1+1+1) #[.slice va G.length vc] 149:=(e2 (B+3) lB (by omega)).trans (by rw[<-C.lg];exact C.k5);have b2:aj W2 B #[.pointer (some ⟨c.lb,0,none⟩)] 216:=(e2 B (by omega) (by omega)).trans C.k1;obtain⟨L,a0⟩:∃b,W2.heap.size=b:=⟨_,rfl⟩;obtain⟨i0,cb,cc,cs,b0⟩:=fd Tryz.SF;obtain⟨X3,Ib⟩:∃V,V=((W2.alloc (.cells (oL (List.replicate c.nw 0)) 277)).alloc (.cells #[.slice (some ⟨L,0,none⟩) c.nw c.nw] 214)).drew:=⟨_,rfl⟩;have bp:X3.heap.size=L+2:=by
     rw[Ib];show ((W2.alloc (.cells (oL (List.replicate c.nw 0)) 277)).alloc (.cells #[.slice (some ⟨L,0,none⟩) c.nw c.nw] 214)).heap.size=L+2;rw[fb,fb,a0]
    have af:Below W2.heap.size W2 X3:=by
     rw[Ib];exact(((cV _ _).alloc (zL0) _).alloc (by rw[fb];exact oR _) _).drew
    have rX:X3.ownsRow (B+4) 214 1 (.slice va H.length vc) H.length (H.map (gY c.nw)):=aC C.row fun k hk=>by
     have ct:=C.row.lt k hk;exact(af.block k (by omega)).trans (e2 k ct.2 (by omega))
    have nX:∀j u,[Value.slice (some ⟨L,0,none⟩) c.nw c.nw][j]?=some u->X3.cell? ((⟨L+1,0,none⟩:Addr).add j)=some u:=by
     have kN:aj X3 (L+1) #[.slice (some ⟨L,0,none⟩) c.nw c.nw] 214:=by
      rw[Ib];have:=aj.new (W2.alloc (.cells (oL (List.replicate c.nw 0)) 277)) #[.slice (some ⟨L,0,none⟩) c.nw c.nw] 214;rw[fb,a0]at this;exact this.drew
     exact dI kN
    have c7:G.length<=1000000000:=Hz G ah fun e he=>by
     obtain⟨q,hq⟩:=(I1.mem e).1 he;rcases hq with ⟨-,hq⟩|⟨rfl,s',x',cq,ce,rfl⟩
     ·exact⟨q,hq⟩
     ·exact⟨q,s',x',cq,nz ce,rfl⟩
    obtain⟨v9,w9,LV,nY,WT,-,lY⟩:=run_append_own_at (P:=prog) X3 (B+4) 149 149 214 i0 _ 1 24 Tryz.acP cb cc cs b0 rfl (by decide) (.slice va H.length vc) H.length (H.map (gY c.nw)) rX ⟨L+1,0,none⟩ 1 1 [.slice (some ⟨L,0,none⟩) c.nw c.nw] rfl nX (by simp[Value.oneCell']) (by rw[C.lg];unfold maxLen;omega) (by rw[C.lg];omega) (by rw[bp];omega);rw[C.lg]at LV nY rX;obtain⟨U,dw,rfl⟩:∃g c,v9=.slice (some ⟨g,0,none⟩) (G.length+1) c:=by
     obtain⟨g,cp,e,-⟩:=mZ nY (j:=0) (u:=(H.map (gY c.nw)++[Value.slice (some ⟨L,0,none⟩) c.nw c.nw])[0]) (cF _);exact⟨g,cp,e⟩
    obtain⟨T,am⟩:∃n,G.length+1=n:=⟨_,rfl⟩;rw[am]at LV nY lY;have cB:Hid (G.length+1=T):=am;have tN:TS X3 L (List.replicate c.nw 0):=by
     have h1:TS (W2.alloc (.cells (oL (List.replicate c.nw 0)) 277)) W2.heap.size (List.replicate c.nw 0):=TS.new ..;rw[a0]at h1;rw[Ib];exact(h1.move (di _ _ _ h1.blk.lt)).move rfl
    obtain⟨M9,X9⟩:=C.put (e:=bA.end ((k,d),r)) (g:=L) (v:=.slice (some ⟨U,0,none⟩) T dw) (w3:=w9) (W2:=X3) (aL aw (Ij af _)) (aA.move (af.block _ aA.lt)) (by omega) tN WT (by rw[cH,C.lg,ei];show w9.ownsRow _ _ _ _ (G.length+1) _;rw[am];exact nY) (lY.imp id fun e=>⟨_,e,zL0⟩);have f9:w9.frozen? ⟨B+1+1+1,0,none⟩=false/\w9.cell? ⟨B+1+1+1,0,none⟩=some (.slice va G.length vc):=by
     have kx:aj X3 (B+1+1+1) #[.slice va G.length vc] 149:=(af.block _ LU.lt).trans LU;have k9:=kx.grown WT fun e=>by have:=(C.row.lt _ e.symm).1;omega
     exact⟨k9.frozen 0,k9.cell 0⟩
    obtain⟨cz,c9⟩:=f9;have b4:=HK.out (X1.trans X9);obtain⟨bF,-,bO⟩:=Ia.out _ M9.b;obtain⟨-,-,-,-,bx,cy,b5,bG,bv,bu,UO,c6,cC⟩:=bO j (s1,s2) hs;have wm:(H++[L])[G.length]?=some L:=by rw[<-C.lg];simp
    obtain⟨cn,ws,aa,LM,hlp⟩:=M9.sets G.length L wm;obtain⟨gA,cA,LP,ae⟩:=mZ M9.row (j:=G.length) (u:=gY c.nw L) (by rw[dj,wm];rfl);have cf:U=gA:=by
     injection LP with e1 e2 e3
     cases e1;rfl
    subst cf;clear LP;have I9:=(I1.miss (j:=j) (nw:=c.nw) hin UO).ext (aa4 hs ax);have e1:(ag++[List.replicate c.nw 0]).getD G.length []=ws:=Ny aa;rw[e1]at I9;have HN:Hid (∀O W9(a:Act),TP ((w9.setCell ⟨B+1+1+1,0,none⟩ (.slice (some ⟨U,0,none⟩) T dw)).drewN O) L (dL ws (S.ss.getD j [])) W9->yN Z (xH c W B S j w7 vA gs (i+1) Z) m .normal a W9):=fun O W9 a EH=>by
     have R:Below (w9.setCell ⟨B+3,0,none⟩ (.slice (some ⟨U,0,none⟩) T dw)).heap.size (w9.setCell ⟨B+3,0,none⟩ (.slice (some ⟨U,0,none⟩) T dw)) ((w9.setCell ⟨B+3,0,none⟩ (.slice (some ⟨U,0,none⟩) T dw)).drewN O):=⟨rfl,rfl,rfl,zL0,fun _ _=>rfl⟩;obtain⟨MA,XA⟩:=(M9.below R).join (p:=G.length) wm (by rw[dL,yL];exact hlp) EH;exact xH.next X1 z MA I9 ((X9.trans (ou.below R)).trans XA)
    have J5:∀O,_:=fun O=>ME (w:=(w9.setCell ⟨B+1+1+1,0,none⟩ (.slice (some ⟨U,0,none⟩) T dw)).drewN O) (g:=L) (h:=b5) (nw:=c.nw) (LM.move rfl) (bu.move rfl) (fun e=>by omega) hlp UO b3
    have cp:(w9.setCell ⟨B+1+1+1,0,none⟩ (.slice (some ⟨U,0,none⟩) T dw)).cell? ⟨U,G.length,none⟩=some (.slice (some ⟨L,0,none⟩) c.nw c.nw):=ae G.length _ (by rw[dj,wm];rfl);have y5:(w9.setCell ⟨B+1+1+1,0,none⟩ (.slice (some ⟨U,0,none⟩) T dw)).cell? ⟨B+1+1+1,0,none⟩=some (.slice (some ⟨U,0,none⟩) T dw):=M9.k5.cell 0;have yb:(w9.setCell ⟨B+1+1+1,0,none⟩ (.slice (some ⟨U,0,none⟩) T dw)).cell? ⟨B,0,none⟩=some (.pointer (some ⟨c.lb,0,none⟩)):=M9.k1.cell 0;have yj:(w9.setCell ⟨B+1+1+1,0,none⟩ (.slice (some ⟨U,0,none⟩) T dw)).cell? ⟨b6,0,none⟩=some (.int .i64 (j:Int)):=b4.cell 0;have yk:(w9.setCell ⟨B+1+1+1,0,none⟩ (.slice (some ⟨U,0,none⟩) T dw)).cell? ⟨c.lb,10,none⟩=some (.slice (some ⟨bx,0,none⟩) S.gs.length cy):=by rw[<-bG];exact bF.cell 10
    have bT:(w9.setCell ⟨B+1+1+1,0,none⟩ (.slice (some ⟨U,0,none⟩) T dw)).cell? ⟨bx,j,none⟩=some (.slice (some ⟨b5,0,none⟩) c.nw c.nw):=bv;obtain⟨cx,UQ⟩:∃V,V=w9.setCell ⟨B+1+1+1,0,none⟩ (.slice (some ⟨U,0,none⟩) T dw):=⟨_,rfl⟩;rw[<-UQ]at HN J5 cp y5 yb yj yk bT;have mt:W2.cell? ⟨c.lb,0,none⟩=some (.slice c.ta c.nT c.tc):=LQ.cell 0;have lk:=LQ.lt;have l5:=LU.lt;have bn:W2.cell? ⟨B+1+1+1,0,none⟩=some (.slice va G.length vc):=LU.cell 0;have wo:W2.cell? ⟨B,0,none⟩=some (.pointer (some ⟨c.lb,0,none⟩)):=b2.cell 0;have bN:∀o,(W2.alloc o).cell? ⟨B+1+1+1,0,none⟩=some (.slice va G.length vc):=fun o=>(cJ (w:=W2) (di _ _ _ l5)).trans bn
    have cm:∀o o',((W2.alloc o).alloc o').cell? ⟨B+1+1+1,0,none⟩=some (.slice va G.length vc):=fun o o'=>(cJ (w:=W2.alloc o) (di _ _ _ (by rw[fb];exact Nat.lt_succ_of_lt l5))).trans (bN o)
    have EG:Calls prog 92 #[.int .i64 (c.nT:Int)] W2.drew fun e w'=>e=.returned (.slice (some ⟨W2.drew.heap.size,0,none⟩) c.nw c.nw)/\w'=W2.drew.alloc (.cells (oL (List.replicate c.nw 0)) 277):=Qv (w:=W2.drew) (n:=c.nT) hF.nT.2
    have c8:Hid (W2.heap.size=L):=a0;have d0:(0:Int)<=(G.length:Int):=by omega
    have d3:(G.length:Int)<(T:Int):=by omega
    have d2:(j:Int)<(S.gs.length:Int):=by omega
    clear C M9 X9 I1 I9 X1 z hx ax kb ac a5 az LM hlp aa wm ae hin ah k6 kX e1 ED HK zI bF bO bu UO bG b4 tN rX nX af nY WT lY aA aw LQ LU b2 bv e2 am cg bp
    gi_upto_region 12 with fail
    rename_i K5 uF;have b8:K5 { tmps:=#[.pointer (some ⟨c.lb,0,none⟩),.pointer (some ⟨B,0,none⟩),.map none,.slice none 0 0,.pointer (some ⟨B+1+1,0,none⟩),.pointer (some ⟨B+1+1+1,0,none⟩),.pointer (some ⟨b6,0,none⟩),.pointer (some ⟨b6+1,0,none⟩),.pointer (some ⟨Bx,0,none⟩),.int .i64 (G.length:Int),.bool false,.map (some (B+1)),.pointer (some ⟨c.lb,0,none⟩),.pointer (some ⟨c.lb,0,none⟩),.pointer (some ⟨c.lb,9,none⟩),.slice (some ⟨g,0,none⟩) S.st.length sc,.int .i64 (S.st.length:Int),.int .i64 (j:Int),.bool true,.int .i64 (j:Int),.pointer (some ⟨g,j*2,none⟩),.agg #[.int .i64 (s1:Int),.int .i64 (s2:Int)],.pointer (some ⟨c.lb,0,none⟩),.pointer (some ⟨c.lb,0,none⟩),.pointer (some ⟨c.lb,0,none⟩),.agg #[.slice c.ta c.nT c.tc,c.v1,.slice (some ⟨c.gP,0,none⟩) c.P.length c.pc,c.v3,c.v4,.map (some c.gm)],.agg #[.int .i64 (s1:Int),.int .i64 (s2:Int)],.func (.func 168) #[] #[.pointer (some ⟨bm,0,none⟩),.pointer (some ⟨bm+1,0,none⟩)],bC (bA.end ((k,d),r)),.tuple #[.int .i64 0,.bool false],.map (some (B+1)),.agg #[.int .i64 (r:Int),.int .i64 (k:Int)],.tuple #[.int .i64 0,.bool false],.int .i64 0,.bool false,.bool false,.bool true,.slice va G.length vc,.int .i64 (G.length:Int),.map (some (B+1)),.agg #[.int .i64 (r:Int),.int .i64 (k:Int)],.int .i64 (G.length:Int),.slice va G.length vc,.pointer (some ⟨c.lb,0,none⟩),.pointer (some ⟨c.lb,0,none⟩),.pointer (some ⟨c.lb,0,none⟩),.pointer (some ⟨c.lb,0,none⟩),.pointer (some ⟨c.lb,0,none⟩),.slice c.ta c.nT c.tc,.int .i64 (c.nT:Int),.slice (some ⟨L,0,none⟩) c.nw c.nw,.slice (some ⟨L+1,0,none⟩) 1 1,.slice (some ⟨U,0,none⟩) T dw,a2,yx,ak,yA,yB,av,an,ai,Qm,Qn,aq,ar,Qo,ao,Qp],defers:=[] } cx:=by
     refine uF _ _ ?_;clear uF K5 x0 x1 x4 x5 ad bl bo cj mt bn wo bN cm EG LV Ib UQ
     gi_wp2
     refine Me 11 (by kernel_rfl) (by kernel_rfl) (by kernel_rfl) (by kernel_rfl) ?_
     dsimp only[List.take,List.drop,List.length]
     repeat (gi_big_quiet_step (fail))
     refine wpQuietIn_nil ?_;rintro _⟨cr,rfl⟩;refine wpAnyIn_ready (rs:=[11]) (by kernel_rfl) (by simp) (AllReadyIn.cons rfl (fun y l=>?_) AllReadyIn.nil)
     go_simp
     refine⟨trivial,(hU.2 (J5 _)).mono ?_⟩;rintro e W9⟨b,rfl,EH,-⟩;refine l _ _ (wpAnyIn_done (by kernel_rfl) ?_ _);clear l y
     gi_wp2
     exact HN.out _ _ _ EH
    clear uF HN J5 cp y5 yb yj yk bT x0 x1 x4 x5 ad bl bo cj;rw[Ib]at LV;refine wpIn_region_any hm (L9 rfl (by kernel_rfl) l' _ _ _ _ ?_)
    change wpAnyIn _ _ _ _ _ _ _ _ _ (World.drew _)
    repeat' (first
     | (refine wpAnyIn_done (by decide +kernel) ?_ _;rw[<-UQ];exact b8)
     | (refine uR 10 (by decide +kernel) rfl fun y l=>?_;refine Xm rfl (.tmp 42) (.tmp 51) 149 149 rfl _ _ rfl rfl _ _ LV ?_;refine l _ _ ?_;clear l y)
     | ((first
      | refine uR 1 (by decide +kernel) rfl fun y l=>?_
      | refine uR 2 (by decide +kernel) rfl fun y l=>?_
      | refine uR 3 (by decide +kernel) rfl fun y l=>?_
      | refine uR 4 (by decide +kernel) rfl fun y l=>?_
      | refine uR 5 (by decide +kernel) rfl fun y l=>?_
      | refine uR 6 (by decide +kernel) rfl fun y l=>?_
      | refine uR 7 (by decide +kernel) rfl fun y l=>?_
      | refine uR 8 (by decide +kernel) rfl fun y l=>?_
      | refine uR 9 (by decide +kernel) rfl fun y l=>?_
      | refine uR 11 (by decide +kernel) rfl fun y l=>?_
      | refine uR 0 (by decide +kernel) rfl fun y l=>?_
      | refine zV 0 1 (by decide +kernel) rfl rfl (fun y l=>?_) fun y l=>?_
      | refine zV 0 2 (by decide +kernel) rfl rfl (fun y l=>?_) fun y l=>?_
      | refine zV 0 3 (by decide +kernel) rfl rfl (fun y l=>?_) fun y l=>?_
      | refine zV 0 4 (by decide +kernel) rfl rfl (fun y l=>?_) fun y l=>?_
      | refine zV 0 5 (by decide +kernel) rfl rfl (fun y l=>?_) fun y l=>?_
      | refine zV 0 6 (by decide +kernel) rfl rfl (fun y l=>?_) fun y l=>?_
      | refine zV 0 7 (by decide +kernel) rfl rfl (fun y l=>?_) fun y l=>?_
      | refine zV 0 8 (by decide +kernel) rfl rfl (fun y l=>?_) fun y l=>?_
      | refine zV 0 9 (by decide +kernel) rfl rfl (fun y l=>?_) fun y l=>?_) <;> (go_simp;(first | refine l _ _ ?_ | (refine⟨trivial,(hU.2 EG).mono ?_⟩;rintro e wq⟨rfl,co⟩;subst co;refine l _ _ ?_));clear l y)))
  case done=>
   rintro D Z m al CB⟨Bl,G,H,ag,C,I1,X1,z⟩WN;obtain⟨M7,C7,I7⟩:=zI.out
   gi_wp2
   refine⟨S.st.length - (j+1),by omega,hJ _ _ _ ⟨_,_,_,_,_,_,_,_,_,_,_,_,_,_,_,_,_,_,_,_,_,_,_,_,_,_,_,_,_,_,_,_,_,_,_,_,_,_,_,_,_,_,_,_,_,_,_,_,_,_,_,_,_,_,_,D::Ds,j+1,Bl,G,H,ag,rfl,by omega,rfl,C,I1.ext (akz hs),⟨qk.2 ⟨fun e=>?_,C7.nd⟩,fun E hE=>?_⟩,fun E hE=>?_⟩⟩
   ·have:=(dv.1 (C7.at' D e)).1
    omega
   ·rcases ee.1 hE with rfl | hE
    ·exact WN
    ·exact(X1.aU E (dv.1 (C7.at' E hE)).1 fun e=>M7.Dr e _ (C7.at' E hE)).trans (C7.at' E hE)
   ·rcases ee.1 hE with rfl | hE
    ·omega
    ·exact hD E hE
 ·obtain rfl:j=S.st.length:=by omega
  obtain⟨va,vc,rfl,-⟩:=aB M.row;have x4:w.cell? ⟨B+1+1,0,none⟩=some (.map (some (B+1))):=M.k4.cell 0;have x5:w.cell? ⟨B+1+1+1,0,none⟩=some (.slice va gs.length vc):=M.k5.cell 0;have HE:Hid (∀O w',UN Ds (w.drewN O) w'->LK c W S (.returned (.tuple #[.map (some (B+1)),.slice va gs.length vc])) w'):=fun O w' hw=>a4.out _ _ _ _ _ (M.move (fun k hk ho=>hw.heap k fun e=>M.Dr ho _ (hC.at' k e)) ⟨hw.fr.1.trans M.b.1,hw.fr.2.1.trans M.b.2,hw.fr.2.2.trans M.b.3,by rw[hw.bS];exact M.b.4,fun k hk=>(hw.heap k fun e=>by have:=hD k e;omega).trans (M.b.block k hk)⟩) I
  have HC:Hid (∀O,oU (w.drewN O) Ds):=fun O=>hC.move fun _ _=>rfl
  clear M I hC hD Ia a4
  gi_upto_region 15 with fail
  refine aiY hm (by kernel_rfl) ?_
  repeat (gi_big_quiet_step (fail))
  refine wpQuietIn_nil ?_;rintro _⟨rF,rfl⟩;rw[hQ]
  gi_wp2
  exact QI Ds _ (HC.out rF) fun w' hw=>⟨.tuple #[.map (some (B+1)),.slice va gs.length vc],results_tmp2 (fn:=Tryz.f99) (t:=2) (u:=3) rfl _ _ _,HE.out rF w' hw⟩
end
end Go.Proofs.YtagkodkijkpemaaGreatDoor

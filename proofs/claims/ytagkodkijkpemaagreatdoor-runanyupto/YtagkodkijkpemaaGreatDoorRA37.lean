import Derived.Test.YtagkodkijkpemaaGreatDoorRA36
set_option maxHeartbeats 8000000
set_option maxRecDepth 1000000
namespace Go.Proofs.YtagkodkijkpemaaGreatDoor
open Lx Go.Proofs.Tryz
open Go.RowKit
open Tr
theorem Tryz.alB:(prog.info? 238).map (fun i=>(i.zero,i.size,i.bytes))=some (some (.agg #[.int .i64 0,.int .i64 0,.int .i64 0]),3,24):=by kernel_rfl
theorem Tryz.aeQ:prog.underlying 235=some (.slice 238):=by kernel_rfl
namespace Lx
theorem alC{P:List Pd}{C:List au}{j n:Nat}(a:j<C.length)(h:eT P C[j]=some n):ku P (C.take (j+1))=ku P (C.take j)++[(n,(C[j].1,C[j].2+1))]:=by
 rw[ff a];unfold ku;rw[List.filterMap_append];simp[h]
theorem amf{P:List Pd}{C:List au}{j:Nat}(a:j<C.length)(h:eT P C[j]=none):ku P (C.take (j+1))=ku P (C.take j):=by
 rw[ff a];unfold ku;rw[List.filterMap_append];simp[h]
theorem abX(P:List Pd)(C:List au):(ku P C).length<=C.length:=List.length_filterMap_le _ _
theorem Nw(P:List Pd)(K:List au):oZ P K (jD P K):=by
 have:∀{l r:List au}{i:Nat},tL P l i r->oZ P K l->oZ P K r:=by
  intro l r i hd
  induction hd with
  |done _=>exact id
  |step _ _ ih=>exact fun a=>ih (a.add _)
 exact this (Ta P K) (oZ.refl P K)
theorem aiP{P:List Pd}{K:List au}(i:K.Nodup):(jD P K).Nodup:=by
 obtain⟨Z,d,g,hd⟩:=Nw P K;rw[d,ik];exact⟨i,g,fun a f b c e=>(hd b c).2.2 (e▸f)⟩
theorem aiQ{P:List Pd}{C:List au}(h:C.Nodup):(ku P C).Nodup:=by
 unfold ku;rw[List.Nodup,List.pairwise_filterMap];refine h.imp fun{a b}c x f y d e=>c ?_
 obtain⟨n,-,rfl⟩:=mL.1 f;obtain⟨m,-,rfl⟩:=mL.1 d;simp only[ip]at e;exact qS e.2.1 (by omega)
theorem ahn{K:List au}(h:K.Pairwise gX):K.Nodup:=h.imp fun{a b}c e=>by subst e;unfold gX at c;omega
end Lx
def amM(w:World)(P:List Lx.Pd)(K:List au)(e:Ending)(w':World):Prop:=∃v M,e=.returned v/\aN 238 3 fM w.heap.size w' v M/\Below w.heap.size w w'/\M.Perm (ku P (jD P K))/\M.Pairwise oP
theorem aho{D:Nat->Prop}{w:World}{f:Nat}{ta na:Option Addr}{nT tc nN nc i st:Nat}{vP vB vQ vm vk ve vK:Value}{P:List Lx.Pd}{K:List au}{B0:Nat}(kF:aj w f #[.slice ta nT tc,.slice na nN nc,vP,vB,vQ,vm,vk,ve] 157)(hP:PP D w vP P)(hp:om P (nT+nN) st)(hK:aN 160 2 iJ B0 w vK K)(B:sK P i K)(ah:K.length<=100000)(T:K.Pairwise gX):Calls prog 103 #[.pointer (some ⟨f,0,none⟩),vK] w (amM w P K):=by
 have q1:=afz kF hP hp hK B ah;obtain⟨pa,pc,rfl,-⟩:∃a c,vP=.slice a P.length c/\P.length<=maxLen:=by obtain⟨ps,h1,h2,-⟩:=hP;exact aB h2
 obtain⟨i1,ad,ai,ag,aq⟩:=fd Tryz.alB;have ar:=kF.lt;have U:=aiQ (P:=P) (aiP (P:=P) (ahn T));have a1:=(Nw P K).len;have ax:=hp.len;have o:∀s∈jD P K,s.1<P.length/\s.2<=(cZ P s.1).length:=by
  intro s E;obtain⟨Z,hz,-,hd⟩:=Nw P K;rw[hz]at E;rcases cY.1 E with E|E
  ·exact⟨(B.AZ s E).1,(B.AZ s E).2.1⟩
  ·exact⟨(hd s E).2.1,by rw[(hd s E).1];exact eR _⟩
 have HR:Hid (∀k,(cZ P k).length<=2002):=abU hp;generalize hC:jD P K=C at *;have HC:Hid (jD P K=C):=hC;have HP:Hid (∀s∈C,s.1<P.length/\s.2<=(cZ P s.1).length):=o;have GY:Hid ((ku P C).Nodup):=U;clear hC o U hK B T hp;go_enter func103,ntmps103;go_upto_region 3 with (go_at_call 143;refine q1.mono ?_;rintro e w1⟨v1,rfl,q,p⟩;obtain⟨ca,cc,ap,-⟩:=aB q;subst ap)
 clear q1;have an:=p.size
 go_loopg [5,13] C.length (fun m v iv wr=>∃j:Nat,j+m=C.length/\iv=.int .i64 (j:Int)/\aN 238 3 fM w.heap.size wr v (ku P (C.take j))/\aN 160 2 iJ w.heap.size wr (.slice ca C.length cc) C/\Below w.heap.size w wr)
 case atStart=>exact⟨0,by omega,rfl,eE _ _ _ _,q,p⟩
 case round=>
  clear q p an;revert wr;intro y hrel;obtain⟨j,a0,rfl,G,hL,H⟩:=hrel;have N:=abX P (C.take j);rw[fN]at N;have hsz:=H.size
  by_cases hlt:j<C.length
  ·obtain⟨gL,az,hv,-,aw,J⟩:=aN.at Cc hL hlt
   cases hv;have c0:=J 0 _ (by decide) rfl;have c1:=J 1 _ (by decide) rfl;have o:=HP.out C[j] (dy hlt);have HY:Hid (∀n,eT P C[j]=some n->ku P (C.take (j+1))=ku P (C.take j)++[(n,(C[j].1,C[j].2+1))]):=fun n h=>alC hlt h
   have Q:Hid (eT P C[j]=none->ku P (C.take (j+1))=ku P (C.take j)):=amf hlt;have l:eT P C[j]=(cZ P C[j].1)[C[j].2]?:=rfl;clear J;generalize C[j]=sp at c0 c1 o HY Q l;obtain⟨g,d⟩:=sp;simp only[lP]at c0 c1 o l;have z:g<P.length:=o.1;have ak:d<=P[g].right.length:=by have:=o.2;rw[Jk z]at this;exact this
   have ac:P[g].right.length<=2002:=by have:=HR.out g;rw[Jk z]at this;exact this
   rw[Jk z]at l;clear o;generalize hX:ku P (C.take j)=X at G N HY Q;clear hX;obtain⟨Y,S,rfl,-⟩:∃a c,_=Value.slice a X.length c/\X.length<=maxLen:=aB G;obtain⟨x,A⟩:∃V,V=y.alloc (.cells #[.int .i64 (g:Int),.int .i64 (d:Int)] 160):=⟨_,rfl⟩;have p:Below y.heap.size y x:=by rw[A];exact(cV _ _).alloc (zL0) _
   have GH:aj x y.heap.size #[.int .i64 (g:Int),.int .i64 (d:Int)] 160:=by rw[A];exact aj.new y _ 160
   have dY:Below w.heap.size w x:=H.trans (p.mono hsz);have s0:x.cell? ⟨y.heap.size,0,none⟩=some (.int .i64 (g:Int)):=GH.cell 0;have s1:x.cell? ⟨y.heap.size,1,none⟩=some (.int .i64 (d:Int)):=GH.cell 1;obtain⟨gP,av,u,am,hu,-,x1,-⟩:=(hP.below dY).at z;cases am;obtain⟨ua,uc,rfl,-⟩:∃a c,u=Value.slice a P[g].right.length c/\P[g].right.length<=maxLen:=aB hu;generalize P[g].right=r at hu x1 ak ac l;have Lm:aj x f _ 157:=(dY.block _ ar).trans kF;have d2:x.cell? ⟨f,2,none⟩=some (.slice (some ⟨gP,0,none⟩) P.length pc):=Lm.cell 2;have i2:(0:Int)<=(j:Int):=by omega
   have i3:(j:Int)<(C.length:Int):=by omega
   have i4:(0:Int)<=(g:Int):=by omega
   have i5:(g:Int)<(P.length:Int):=by omega
   have R:aN 238 3 fM w.heap.size x (.slice Y X.length S) X:=G.below p;have q:aN 160 2 iJ w.heap.size x (.slice (some ⟨gL,0,none⟩) C.length cc) C:=hL.below p;go_upto_region 5 with fail
   rw[<-A];clear A c0 c1 G hL Lm
   go_quiet (fail)
   obtain⟨t,F⟩:∃V,V=x.drewN nq:=⟨_,rfl⟩;have e0:t.cell? ⟨y.heap.size,0,none⟩=some (.int .i64 (g:Int)):=by rw[F];exact s0
   have e1:t.cell? ⟨y.heap.size,1,none⟩=some (.int .i64 (d:Int)):=by rw[F];exact s1
   have L:Below w.heap.size w t:=by rw[F];exact dY.trans ⟨rfl,rfl,rfl,zL0,fun _ _=>rfl⟩
   have xQ:aN 238 3 fM w.heap.size t (.slice Y X.length S) X:=by rw[F];exact R
   have EA:aN 160 2 iJ w.heap.size t (.slice (some ⟨gL,0,none⟩) C.length cc) C:=by rw[F];exact q
   have CV:IR 0 t (.slice ua r.length uc) r:=by rw[F];exact hu
   rw[<-F];clear F s0 s1 R q hu x1 d2 GH;have af:=L.size
   by_cases hd:d<r.length
   ·obtain⟨gU,a3,ae,-,cU⟩:=CV.at hd
    cases ae;have HE:Hid (ku P (C.take (j+1))=X++[(r[d],(g,d+1))]):=HY.out r[d] (by rw[l,cF hd]);generalize r[d]=n at cU HE;have i6:(d:Int)<(r.length:Int):=by omega
    have i7:(0:Int)<=(d:Int):=by omega
    have a2:IntKind.i64.wrap ((d:Int)+1)=(d:Int)+1:=by rw[gw];omega
    have PX:aN 238 3 fM w.heap.size (t.alloc (.cells #[.int .i64 (n:Int),.int .i64 (g:Int),.int .i64 ((d:Int)+1)] 238)).drew (.slice Y X.length S) X:=aN.below xQ (((cV _ _).alloc (zL0) _).drew);clear HY Q CV l;go_upto_region 7 with fail
    go_region_law (go_loud (refine step_append_lies _ rfl (.tmp 32) (.tmp 45) 235 rfl w.heap.size 238 i1 _ 3 24 Tryz.aeQ ad ai ag aq rfl (by decide) (.slice Y X.length S) X.length (X.flatMap fM) (by simp[Act.eval]) PX ⟨t.heap.size,0,none⟩ 1 1 [.int .i64 (n:Int),.int .i64 (g:Int),.int .i64 ((d:Int)+1)] (by simp[Act.eval]) rfl (dI (aj.new t _ 238).drew) (by simp[Value.oneCell']) (by decide) (by unfold maxLen;omega) (by omega) (by simp;omega) _ rfl ?_;intro g5 W w5 M O lG NY))
    all_goals
     have PX:aN 238 3 fM w.heap.size (t.alloc (.cells #[.int .i64 (n:Int),.int .i64 (g:Int),.int .i64 ((d:Int)+1)] 238)).drew (.slice Y X.length S) X:=aN.below xQ (((cV _ _).alloc (zL0) _).drew);have ab:aN 160 2 iJ w.heap.size w5 (.slice (some ⟨gL,0,none⟩) C.length cc) C:=EX (aN.below EA (((cV _ _).alloc (zL0) (.cells #[.int .i64 (n:Int),.int .i64 (g:Int),.int .i64 ((d:Int)+1)] 238)).drew)) PX (by decide) O;have aa:Below w.heap.size w w5:=L.trans ((((cV _ t).alloc af _).drew).trans ⟨O.os,O.tape,O.output,O.size,fun b hb=>O.block b (by simp;omega) (fun e=>absurd (p6 PX b e.symm).1 (by omega))⟩);have eP:aN 238 3 fM w.heap.size w5 (.slice (some ⟨g5,0,none⟩) (X.length+1) W) (X++[(n,(g,d+1))]):=by
      have e:(X++[(n,(g,d+1))]).flatMap fM=X.flatMap fM++[.int .i64 (n:Int),.int .i64 (g:Int),.int .i64 ((d:Int)+1)]:=by simp[fM]
      unfold aN;rw[e,cH];exact M
     go_wp2_with fail;go_roundg (C.length - (j+1))
     case measure=>omega
     case rel=>exact⟨j+1,by omega,by go_num,by rw[HE.out];exact eP,ab,aa⟩
   ·have HE:Hid (ku P (C.take (j+1))=X):=Q.out (by rw[l,ld (by omega)])
    have i6:¬(d:Int)<(r.length:Int):=by omega
    clear HY Q CV l;go_wp2_with fail;go_roundg (C.length - (j+1))
    case measure=>omega
    case rel=>exact⟨j+1,by omega,by go_num,by rw[HE.out];exact xQ,EA,L⟩
  ·obtain rfl:j=C.length:=by omega
   rw[ft]at G N;have q9:=akp G (by omega) GY.out;have i3:¬(C.length:Int)<(C.length:Int):=by omega
   clear G
   go_wp2_with (go_at_call 144;refine q9.mono ?_;rintro e w9⟨rfl,M',I,ao,al,GZ⟩)
   go_ret;exact⟨_,M',rfl,al,H.trans GZ,by rw[HC.out];exact I,ao⟩
end Go.Proofs.YtagkodkijkpemaaGreatDoor

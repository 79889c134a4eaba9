import Derived.Test.YtagkodkijkpemaaGreatDoorRA39
import Derived.Test.YtagkodkijkpemaaGreatDoorRA29
import Derived.Shelf.Spec.TrailingZeros
import Derived.Test.YtagkodkijkpemaaGreatDoorRows
import Derived.LaidMore
import Derived.LaidSub
import Derived.LaidHandle
set_option maxHeartbeats 8000000
set_option maxRecDepth 1000000
namespace Go.Proofs.YtagkodkijkpemaaGreatDoor
open Lx Go.Proofs.Tryz
open Go.RowKit Tr
theorem Lx.abZ{s:ByteArray}{g:Lx.Gr}(h:fu s=.ok g):Lx.parse s=.ok g/\(jY g).1=0/\(bJ g).length<=200:=by
 cases hp:Lx.parse s with
 |error e=>rw[Sy hp]at h;cases h
 |ok g' =>
  by_cases hc:(jY g').1=0
  ·by_cases hm:200<(bJ g').length
   ·rw[R3 hp hc hm]at h;cases h
   ·rw[Tf hp hc hm]at h;cases h;exact⟨rfl,hc,by omega⟩
  ·rw[Sz hp hc]at h;cases h
theorem alH{s:ByteArray}{g:Lx.Gr}(w:World)(h:fu s=.ok g):Lx.Fit g:=by
 obtain⟨a,n,-⟩:=abZ h;have p:s.size<=maxLen:=by
  by_cases hl:2000<s.size
  ·unfold Lx.parse at a
   rw[de hl]at a;cases a
  ·unfold maxLen
   omega
 obtain⟨e,w1,-,d,-⟩:=Zu s w p [];obtain⟨h1,h2,h3⟩:=Fb a;obtain⟨h4,j⟩:=QS a;have f:=aaT n;unfold wF at d;rw[a]at d;obtain⟨-,y,m,-,o⟩:=d;have k:lN (In w.heap.size w1.heap.size) w1 m g.rules:=⟨fun b l=>l.2,dQ.weak o.2 fun A v x c q=>eD.weak c q⟩;refine⟨h1,h2,h3,fun r t=>?_,h4,j,f.2,f.1⟩;obtain⟨i,u,rfl⟩:=pB.1 t;obtain⟨_,_,_,-,-,c,-⟩:=k.at u;exact Rf c
namespace Lx
def G7(g:Gr):Nat:=(aD g).length+(bI g).length
def qj(s:ByteArray):Except (Nat×Nat) bX :=
 match fu s with
 |.error x=>.error x
 |.ok g=>match zQ (bJ g) (G7 g) with
  |none=>.error (8,0)
  |some S=>.ok S
def EB(s:ByteArray):bX:=match qj s with
 |.ok S=>S
 |.error _=>⟨[],[]⟩
def CY(s:ByteArray):Nat×Nat:=match qj s with
 |.ok _=>(0,0)
 |.error x=>x
theorem alI{s:ByteArray}{x:Nat×Nat}(h:fu s=.error x):qj s=.error x:=by unfold qj;rw[h]
theorem aks{s:ByteArray}{g:Gr}(h:fu s=.ok g)(h2:zQ (bJ g) (G7 g)=none):qj s=.error (8,0):=by unfold qj;rw[h];simp only;rw[h2]
theorem amg{s:ByteArray}{g:Gr}{S:bX}(h:fu s=.ok g)(h2:zQ (bJ g) (G7 g)=some S):qj s=.ok S:=by unfold qj;rw[h];simp only;rw[h2]
theorem amh{s:ByteArray}{S:bX}(h:qj s=.ok S):EB s=S/\CY s=(0,0):=by unfold EB CY;rw[h];exact⟨rfl,rfl⟩
theorem alJ{s:ByteArray}{x:Nat×Nat}(h:qj s=.error x):EB s=⟨[],[]⟩/\CY s=x:=by unfold EB CY;rw[h];exact⟨rfl,rfl⟩
theorem sM.leave{P:List Pd}{sz st:Nat}(a:om P sz st){i:Nat}{K:List au}:∀(ns:List Nat)(S:bX),sM P S->S.ks[i]?=some K->sM P (leave P i K S ns)
 | [],_,h,_=>h
 |n::ns,S,h,hK=>sM.leave a ns (Lx.edge P i K S n) (h.edge a hK n) (abW hK)
theorem aaY{P:List Pd}{i:Nat}{K:List au}:∀(ns:List Nat)(S:bX),(leave P i K S ns).es.length<=S.es.length+ns.length
 | [],_=>zL0
 |n::ns,S=>by
  have h1:=aaY (P:=P) (i:=i) (K:=K) ns (edge P i K S n);have h2:=(akj (P:=P) (i:=i) (K:=K) (S:=S) (n:=n)).2;have:leave P i K S (n::ns)=leave P i K (edge P i K S n) ns:=rfl;rw[this,el];omega
theorem jW.all1{P:List Pd}{sz st:Nat}(b:om P sz st){i:Nat}{K:List au}{S:bX}(h:jW P i 0 S)(a:S.ks[i]?=some K):jW P (i+1) 0 (Lx.leave P i K S (List.range sz)):=by
 have h1:=(jW.leave (K:=K) sz 0 S h a).1;rw[fi,<-List.range_eq_range']at h1;exact h1.next b
end Lx
def JA(B:Nat)(w:World)(vl ve:Value)(S:bX):Prop:=jA 161 160 B w vl S.ks/\aN 173 3 uZ B w ve S.es
theorem JA.none(B:Nat)(w:World):JA B w (.slice none 0 0) (.slice none 0 0) ⟨[],[]⟩:=⟨⟨[],rfl,eE _ _ _ _,fun x a=>by cases a⟩,eE _ _ _ _⟩
def Cg(s:ByteArray)(w:World)(e:Ending)(w':World):Prop:=∃vl ve,e=.returned (.tuple #[vl,ve,.int .i64 ((CY s).1:Int),.int .i64 ((CY s).2:Int)])/\Below w.heap.size w w'/\JA w.heap.size w' vl ve (EB s)/\((CY s).1≠0->vl=.slice none 0 0/\ve=.slice none 0 0)
theorem Cg.err{s:ByteArray}{w:World}{w':World}{n a:Nat}(h:qj s=.error (n,a))(b:Below w.heap.size w w'):Cg s w (.returned (.tuple #[.slice none 0 0,.slice none 0 0,.int .i64 (n:Int),.int .i64 (a:Int)])) w':=by
 obtain⟨h1,h2⟩:=alJ h;exact⟨_,_,by rw[h2],b,by rw[h1];exact JA.none _ _,fun _=>⟨rfl,rfl⟩⟩
theorem Cg.ok{s:ByteArray}{w:World}{w':World}{S:bX}{b a:Value}(h:qj s=.ok S)(c:Below w.heap.size w w')(d:JA w.heap.size w' b a S):Cg s w (.returned (.tuple #[b,a,.int .i64 0,.int .i64 0])) w':=by
 obtain⟨h1,h2⟩:=amh h;exact⟨_,_,by rw[h2];rfl,c,by rw[h1];exact d,fun h=>by rw[h2]at h;exact absurd rfl h⟩
theorem Yo(s:ByteArray)(w:World)(F:s.size<=maxLen)(ht:fq w):Calls prog 37 #[.string s] w (Cg s w):=by
 cases o:fu s with
 |error x=>
  have Y:=abQ o;have V:Hid (qj s=.error (x.1,x.2)):=alI o;have i1:((x.1:Int) == 0)=false:=zB0 (by omega);have i2:((x.1:Int) != 0)=true:=by simp;omega
  have i3:¬(x.1:Int)=0:=by omega
  have i4:¬x.1=0:=Y;have J:Hid (fu s=.error x):=o;clear o Y;go_enter func37,ntmps37
  go_wp2_with (go_at_call 21;refine(R4 s w F ht).mono ?_;rintro e w1⟨v,n,a,rfl,l,-,ah⟩;obtain⟨rfl,rfl,rfl⟩:=ah x J.out;unfold wW;clear ah)
  exact fx (v:=.tuple #[.slice none 0 0,.slice none 0 0,.int .i64 (x.1:Int),.int .i64 (x.2:Int)]) (by simp[results,results37,go_sem]) rfl (Cg.err V.out (l.trans ((cV _ w1).alloc (by have:=l.size;omega) _)))
 |ok g=>
  have E:=alH w o;have k:=amb E (abZ o).2.2;have J:Hid (fu s=.ok g):=o;clear o;go_enter func37,ntmps37;go_upto_region 2 with (go_at_call 21;refine(R4 s w F ht).mono ?_;rintro e w1⟨v,n,a,rfl,l,Z,-⟩;obtain⟨rfl,rfl,vT,vN,vP,vB,vK,rfl,h1,h2,h3,h4,h5⟩:=Z g J.out;clear Z;obtain⟨z,r,rfl,-⟩:=aB h1;obtain⟨D,C,rfl,-⟩:=aB h2;obtain⟨q,p,rfl,-⟩:=aB h4;obtain⟨y,t,rfl,-⟩:=aB h5;obtain⟨B,A,rfl,-⟩:∃a c,vP=.slice a (bJ g).length c/\(bJ g).length<=maxLen:=by (obtain⟨ps,h1,h2,-⟩:=h3;exact aB h2))
  have a7:=l.size;obtain⟨b,P7⟩:∃W,W=w1.alloc (.cells #[.slice z (aD g).length r,.slice D (bI g).length C,.slice B (bJ g).length A,.slice q (aD g).length p,.slice y (aD g).length t] 56):=⟨_,rfl⟩;have af:Below w1.heap.size w1 b:=by rw[P7];exact(cV _ _).alloc (zL0) _
  have kA:aj b w1.heap.size #[.slice z (aD g).length r,.slice D (bI g).length C,.slice B (bJ g).length A,.slice q (aD g).length p,.slice y (aD g).length t] 56:=by rw[P7];exact aj.new w1 _ 56
  rw[<-P7];clear P7 h1 h2 h4 h5;have OC:Below w.heap.size w b:=l.trans (af.mono (by omega));have av:=OC.size;have Wj:=h3.below af;have X:fq b:=((Lib.tabBelow_of_tabIs ht).on OC).here;have a0:=kA.cell 0;have a1:=kA.cell 1;have a2:=kA.cell 2;have a3:=kA.cell 3;have a4:=kA.cell 4;simp only[fR,ir,tj]at a0 a1 a2 a3 a4;have ak:Hid (zQ (bJ g) (G7 g)=none->qj s=.error (8,0)):=aks J.out;have U:Hid (∀S,zQ (bJ g) (G7 g)=some S->qj s=.ok S):=fun S h=>amg J.out h
  have hsz:G7 g=(aD g).length+(bI g).length:=rfl;rw[hsz]at ak U;clear kA J E h3 hsz;generalize (aD g).length=nT at *;generalize (bI g).length=nN at *;generalize bJ g=P at *;have ar:=@r7 prog;obtain⟨L,j⟩:∃W,W=((b.alloc (.map #[] 0)).alloc (.cells #[.slice z nT r,.slice D nN C,.slice B P.length A,.slice q nT p,.slice y nT t,.map (some b.heap.size),.slice none 0 0,.slice none 0 0] 157)).alloc (.cells #[.int .i64 0,.int .i64 0] 160):=⟨_,rfl⟩;have ag:Below b.heap.size b L:=by rw[j];exact(((cV _ _).alloc (zL0) _).alloc (by simp) _).alloc (by simp;omega) _
  have zB:aj L (b.heap.size+1) #[.slice z nT r,.slice D nN C,.slice B P.length A,.slice q nT p,.slice y nT t,.map (some b.heap.size),.slice none 0 0,.slice none 0 0] 157:=by rw[j];simpa using (aj.new (b.alloc (.map #[] 0)) #[.slice z nT r,.slice D nN C,.slice B P.length A,.slice q nT p,.slice y nT t,.map (some b.heap.size),.slice none 0 0,.slice none 0 0] 157).alloc (.cells #[.int .i64 0,.int .i64 0] 160)
  have Pt:aj L (b.heap.size+1+1) #[.int .i64 0,.int .i64 0] 160:=by rw[j];simpa using aj.new ((b.alloc (.map #[] 0)).alloc (.cells #[.slice z nT r,.slice D nN C,.slice B P.length A,.slice q nT p,.slice y nT t,.map (some b.heap.size),.slice none 0 0,.slice none 0 0] 157)) #[.int .i64 0,.int .i64 0] 160
  have A9:lJ L b.heap.size []:=by
   have h0:=lJ.made b;have h1:=h0.move (w':=(b.alloc (.map #[] 0)).alloc (.cells #[.slice z nT r,.slice D nN C,.slice B P.length A,.slice q nT p,.slice y nT t,.map (some b.heap.size),.slice none 0 0,.slice none 0 0] 157)) (di _ _ _ h0.lt);rw[j];exact h1.move (di _ _ _ h1.lt)
  have O:nD b L (b.heap.size+1) b.heap.size (.slice z nT r) (.slice D nN C) (.slice B P.length A) (.slice q nT p) (.slice y nT t) (.slice none 0 0) ⟨[],[]⟩:=⟨_,zB,A9,⟨[],rfl,eE _ _ _ _,fun x hx=>by cases hx⟩,eE _ _ _ _,by omega,by omega,ag⟩;have aa:aN 160 2 iJ b.heap.size L (.slice (some ⟨b.heap.size+1+1,0,none⟩) 1 1) [(0,0)]:=alD Pt (by omega) rfl;have q5:=Ze O aa (by simp) (by simp) (fun s hs=>by rw[cM]at hs;subst hs;exact⟨by omega,by omega⟩) (by simp) (by simp) X;have ae:Hid (jW P 0 0 ⟨[[(0,0)]],[]⟩):=jW.first P;have ac:Hid (sM P ⟨[[(0,0)]],[]⟩):=sM.first k;have Lr:Hid (zQ P (nT+nN)=xC P (nT+nN) (302-0) 0 ⟨[[(0,0)]],[]⟩):=rfl;have G:(⟨vw [] [(0,0)],[]⟩:bX)=⟨[[(0,0)]],[]⟩:=rfl;clear Pt aa O A9 zB;go_upto_region 5 with fail
  go_upto_region 6 with (go_at_call 65;go_loud (rw[<-j];refine q5.mono ?_;rintro e w4⟨rfl,P8,-,an⟩))
  rw[G]at P8;clear j ag q5 G an ar a0 a1 a2 a3 a4;generalize hf:b.heap.size+1=f at *;generalize hmb:b.heap.size=mb at P8;clear hf hmb;go_wp2_with fail
  go_loopg [10] 301 (fun m iv wr=>∃(i:Nat)(S:bX)(ve:Value),i+m=301/\i<=300/\iv=.int .i64 (i:Int)/\nD b wr f mb (.slice z nT r) (.slice D nN C) (.slice B P.length A) (.slice q nT p) (.slice y nT t) ve S/\S.ks.length<=300/\S.es.length<=i*100000/\Hid (jW P i 0 S)/\Hid (sM P S)/\Hid (zQ P (nT+nN)=xC P (nT+nN) (302-i) i S))
  case atStart=>exact⟨0,_,_,by omega,by omega,rfl,P8,by simp,by simp,ae,ac,Lr⟩
  case round=>
   clear P8 ae ac Lr;revert wr;intro M hrel;obtain⟨i,S,ve,a5,aw,rfl,hf,ao,az,HI,HO,HA⟩:=hrel;obtain⟨vk,kF,o,hK,hE,PZ,ax,pY⟩:=id hf;obtain⟨va,vc,rfl,-⟩:=hK.len;have d6:M.cell? ⟨f,6,none⟩=some (.slice va S.ks.length vc):=kF.cell 6;have d7:M.cell? ⟨f,7,none⟩=some ve:=kF.cell 7;have Q:Below w.heap.size w M:=OC.trans (pY.mono (by omega))
   by_cases hlt:i<S.ks.length
   ·obtain⟨u,d⟩:∃K,S.ks[i]?=some K:=⟨_,cF hlt⟩
    have I:=HO.out i u d;have q9:=aiS hf Wj k d I (by have:=I.len;omega) (HI.out.rise i u d) HI.out.nd ao (by omega) X;have N:Hid (jW P (i+1) 0 (Lx.leave P i u S (List.range (nT+nN)))):=jW.all1 k HI.out d;have ab:Hid (sM P (Lx.leave P i u S (List.range (nT+nN)))):=sM.leave k _ S HO.out d;have ad:=aaY (P:=P) (i:=i) (K:=u) (List.range (nT+nN)) S;rw[sX]at ad;have UC:=k.szm;have T:Hid (zQ P (nT+nN)=if 300<(Lx.leave P i u S (List.range (nT+nN))).ks.length then none else xC P (nT+nN) (302 - (i+1)) (i+1) (Lx.leave P i u S (List.range (nT+nN)))):=by
     show _=_;rw[HA.out,aiJ (by omega) d]
    have ai:(Lx.leave P i u S (List.range (nT+nN))).es.length<=(i+1)*100000:=by omega
    have i1:(i:Int)<(S.ks.length:Int):=by omega
    clear HA HI HO I d kF o hK hE hf ad d7;generalize Lx.leave P i u S (List.range (nT+nN))=R at q9 N ab T ai;go_upto_region 10 with (go_at_call 66;go_loud (refine q9.mono ?_;rintro e w5⟨rfl,al,Ls⟩))
    obtain⟨a6,Ba,P6,uF,mP,-,-,aq⟩:=id Ls;obtain⟨am,ap,rfl,-⟩:=uF.len;have e6:w5.cell? ⟨f,6,none⟩=some (.slice am R.ks.length ap):=Ba.cell 6;have DW:Below w.heap.size w w5:=OC.trans (aq.mono (by omega));clear q9 d6 Ba P6 uF mP
    by_cases h3:300<R.ks.length
    ·have V:Hid (qj s=.error (8,0)):=ak.out (by rw[T.out,de h3])
     have j1:(300:Int)<(R.ks.length:Int):=by omega
     clear T;go_wp2_with fail;exact fx (v:=.tuple #[.slice none 0 0,.slice none 0 0,.int .i64 8,.int .i64 0]) (by simp[results,results37,go_sem]) rfl (Cg.err V.out DW)
    ·have Ep:Hid (zQ P (nT+nN)=xC P (nT+nN) (302 - (i+1)) (i+1) R):=by show _=_;rw[T.out,dk h3]
     have j1:¬(300:Int)<(R.ks.length:Int):=by omega
     clear T;go_wp2_with fail;go_roundg (301 - (i+1))
     case measure=>omega
     case rel=>exact⟨i+1,R,al,by omega,by omega,by go_num,Ls,by omega,ai,N,ab,Ep⟩
   ·have V:Hid (qj s=.ok S):=U.out S (by rw[HA.out,akk (by omega) (by omega)])
    have i1:¬(i:Int)<(S.ks.length:Int):=by omega
    clear HA HI HO;go_wp2_with fail
    go_quiet (fail)
    have H:Below M.heap.size M (M.drewN nq):=⟨rfl,rfl,rfl,zL0,fun _ _=>rfl⟩;go_wp2_with fail;exact fx (v:=.tuple #[.slice va S.ks.length vc,ve,.int .i64 0,.int .i64 0]) (by simp[results,results37,go_sem]) rfl (Cg.ok V.out (Q.trans (H.mono (by have:=Q.size;omega))) ⟨(hK.below H).le (by omega),jc (aN.below hE H) (by omega)⟩)
def rG:Tb.CH:=[[(2,[0])],[(2,[0])],[(0,[0])],[(1,[0])]]
def nG:List (Nat×Nat×Nat):=[(0,1,1),(0,3,2),(1,1,1),(1,3,3)]
def D5:List ByteArray:=[⟨#[36]⟩,⟨#[65]⟩]
def Gd:List ByteArray:=[⟨#[36,115,116,97,114,116]⟩,⟨#[115]⟩]
def Wp:List (Nat×Nat):=[(2,1),(3,2),(3,0)]
def EC:List (List (Nat×Nat)):=(Tb.choices rG nG 2).map (List.map Tb.iK)
def CZ:List (List Nat):=Tb.gotos 4 2 2 nG 4
theorem Ac:EC=[[(2,2),(1,1)],[(2,2),(1,1)],[(3,0),(0,0)],[(2,1),(0,0)]]:=by decide +kernel
theorem Ad:CZ=[[0,2],[0,3],[0,0],[0,0]]:=by decide +kernel
theorem alK:∀r∈Tb.choices rG nG 2,∀x∈r,Tb.lone x=true:=by decide +kernel
theorem an2:Pk.written D5 Gd Wp (Pk.mk 3 EC CZ 4)=vY:=by decide +kernel
theorem adh:(CY iq)=(0,0)/\(EB iq).ks.length=4/\(EB iq).es=nG:=by
 refine⟨by kernel_rfl,by kernel_rfl,by kernel_rfl⟩
def Gf:List (Nat×List Nat):=[(2,[3]),(3,[1,3]),(3,[])]
def aeo:Bool:=match fu iq with
 |.ok g=>decide (aD g=D5) && decide (bI g=Gd) && decide ((bJ g).map (fun p=>(p.left,p.right))=Gf)
 |.error _=>false
theorem ami:aeo=true:=by kernel_rfl
theorem NU:∃g,fu iq=.ok g/\aD g=D5/\bI g=Gd/\(bJ g).map (fun p=>(p.left,p.right))=Gf:=by
 have h:=ami;unfold aeo at h
 split at h
 ·rename_i g a
  simp only[j',ii]at h;exact⟨g,a,h.1.1,h.1.2,h.2⟩
 ·cases h
theorem acO{P:List Lx.Pd}(h:P.map (fun p=>(p.left,p.right))=Gf):Pk.gu P=Wp/\P.length=3:=by
 have b:Pk.gu P=(P.map (fun p=>(p.left,p.right))).map fun x=>(x.1,x.2.length):=by
  unfold Pk.gu;rw[rh];rfl
 have a:=eS List.length h;rw[dt]at a;exact⟨by rw[b,h];rfl,a⟩
def Wq(w:World)(e:Ending)(w':World):Prop:=∃vc vg,e=.returned (.tuple #[vc,vg,.slice none 0 0,.int .i64 0,.int .i64 0,.int .i64 0])/\Er w' vc EC/\xX w' vg CZ/\Below w.heap.size w w'
theorem akt{W:World}(hS:pF W)(h0:0<W.heap.size)(sF:∀W',Below W.heap.size W W'->fq W')(Ws:Calls prog 20 #[.string iq] W (Wq W)):Calls prog 8 #[.string iq] W fun e w'=>e=.returned (.tuple #[.string vY,.int .i64 0,.int .i64 0])/\Below W.heap.size W w':=by
 obtain⟨g,R,vE,L,Bb⟩:=NU;obtain⟨J,y⟩:=acO Bb;have r:iq.size<=maxLen:=by decide
 have X:Hid (∀E,Below W.heap.size W E->Calls prog 21 #[.string iq] E (DC iq E)):=fun E hb=>MZ iq E r (sF E hb)
 have HQ:Hid (∀w1 w2 Q S v,Below W.heap.size W w1->Er w1 Q EC->xX w1 S CZ->Below w1.heap.size w1 w2->uY w1.heap.size w2 v (aD g) (bI g) (bJ g) ((aD g).map fun t=>(rZ g t).1) ((aD g).map fun t=>(rZ g t).2)->∃(ta na j s o:Option Addr)(tc nc A i C p D l:Nat),v=.agg #[.slice ta 2 tc,.slice na 2 nc,.slice j A i,.slice s C p,.slice o D l]/\∀z,Below w2.heap.size w2 z->Calls prog 23 #[.agg #[.slice ta 2 tc,.slice na 2 nc,.slice j A i,.slice s C p,.slice o D l],Q,S] z fun e B=>∃H,e=.returned (.pointer (some ⟨H,0,none⟩))/\Below W.heap.size W B/\Calls prog 22 #[.pointer (some ⟨H,0,none⟩)] B fun e w5=>e=.returned (.string vY)/\Below W.heap.size W w5):=fun w1 w2 Q S v f V U d hp=>by
  rw[vE,L]at hp;obtain⟨vT,vN,vP,vB,vK,rfl,p1,p2,p3,p4,p5,-⟩:=hp;obtain⟨ta,tc,rfl,-⟩:=aB p1;obtain⟨na,nc,rfl,-⟩:=aB p2;obtain⟨s,p,rfl,-⟩:=aB p4;obtain⟨o,l,rfl,-⟩:=aB p5;have sT:=yV.own p1;have sN:=yV.own p2;have hP:=zu.of p3;obtain⟨j,i,rfl,Y⟩:=hP;have hP:zu w2 (.slice j (bJ g).length i) (bJ g):=⟨j,i,rfl,Y⟩;refine⟨ta,na,j,s,o,tc,nc,_,i,_,p,_,l,rfl,fun z c=>?_⟩;have ab:=d.trans (c.mono d.size);have G:Below W.heap.size W z:=f.trans (ab.mono f.size);have k:EC.length=4:=by rw[Ac];rfl
  have ae:CZ.length=4:=by rw[Ad];rfl
  refine(aga (ta:=ta) (na:=na) (nT:=2) (tc:=tc) (nN:=2) (nc:=nc) (hP.keep c) ((V.keep d).keep c) ((U.keep d).keep c) (by rw[k,ae]) (by rw[y];decide) (by rw[y];decide) (by rw[y,Ac];decide) (by rw[Ad];decide) (by rw[y,k,Ac,Ad];decide +kernel) (by rw[k];decide)).mono ?_;rintro e B⟨wx,H,vs,rfl,ad,ac,x⟩;have Z:Below z.heap.size z B:=ad.trans (x.b.mono ac);have I:Below W.heap.size W B:=G.trans (Z.mono G.size);rw[J,y,k]at x;refine⟨H,rfl,I,(agb (T:=D5) (N:=Gd) (P:=Wp) (m:=Pk.mk 3 EC CZ 4) (hS.move (I.block 0 h0)) (dd h0 I.size) x.blk ((sT.keep c).keep Z) ((sN.keep c).keep Z) (lD.own (x.row 0 (.inl rfl))) (lQ.own (x.row 1 (.inr (.inl rfl)))) (vG.own (x.row 4 (.inr (.inr (.inl rfl))))) (lD.own (x.row 5 (.inr (.inr (.inr rfl))))) (by rw[Ac,Ad];decide +kernel) (by rw[Ac,Ad];decide +kernel) (by decide) (by rw[Ac,Ad];decide +kernel) (by rw[Ac,Ad];decide +kernel) (by rw[Ac,Ad];decide +kernel) (by rw[Ac,Ad];decide +kernel)).mono ?_⟩;rintro e w5⟨rfl,u⟩;exact⟨by rw[an2],I.trans (u.mono I.size)⟩
 have HG:Hid (fu iq=.ok g):=R;clear R vE L Bb J y hS h0 sF r;generalize iq=tx at Ws X HG|-;generalize vY=bb at HQ|-;go_enter func8,ntmps8;go_upto_region 6 with (go_at_call 20;refine Ws.mono ?_;rintro e w1⟨Q,S,rfl,V,U,f⟩)
 have C8:=X.out w1 f;clear Ws X;go_upto_region 7 with (go_at_call 21;refine C8.mono ?_;rintro e w2⟨v,n,a,rfl,d,O,-⟩;obtain⟨rfl,rfl,M⟩:=O g HG.out;obtain⟨ta,na,j,s,o,tc,nc,A,i,C,p,D,l,rfl,K⟩:=HQ.out w1 w2 Q S v f V U d M)
 have c:Below w2.heap.size w2 (w2.alloc (.cells #[.slice ta 2 tc,.slice na 2 nc,.slice j A i,.slice s C p,.slice o D l] 56)):=(cV _ _).alloc (zL0) _;have q:=K _ c;have F:aj (w2.alloc (.cells #[.slice ta 2 tc,.slice na 2 nc,.slice j A i,.slice s C p,.slice o D l] 56)) w2.heap.size #[.slice ta 2 tc,.slice na 2 nc,.slice j A i,.slice s C p,.slice o D l] 56:=aj.new ..;clear K O M V U f d c HQ C8;have k0:=F.cell 0;have k1:=F.cell 1;have k2:=F.cell 2;have k4:=F.cell 3;have k5:=F.cell 4;simp only[fR,ir,tj]at k0 k1 k2 k4 k5
 go_wp2_with (first
  | (go_at_call 23;refine q.mono ?_;rintro e B⟨H,rfl,af,aa⟩;clear q)
  | (go_at_call 22;refine aa.mono ?_;rintro e w5⟨rfl,u⟩))
 exact fx (v:=.tuple #[.string bb,.int .i64 0,.int .i64 0]) (by simp[results,results8,go_sem]) rfl ⟨rfl,u⟩
def P9(w:World)(e:Ending)(w':World):Prop:=∃v,e=.returned (.tuple #[v,.int .i64 0,.int .i64 0])/\ru w' v rG/\Below w.heap.size w w'
theorem lQ.edg{w:World}{B e:Nat}{v:Value}{l:List (Nat×Nat×Nat)}(h:aN e 3 uZ B w v l):lQ w v l:=lQ.own (B:=B) (e:=e) h
theorem aiT{W:World}(sF:∀W',Below W.heap.size W W'->fq W')(LA:Calls prog 36 #[.string iq] W (P9 W)):Calls prog 20 #[.string iq] W (Wq W):=by
 obtain⟨gr,ad,vE,X,Bb⟩:=NU;have A:iq.size<=maxLen:=by decide
 obtain⟨OD,UI,OE⟩:=adh;have HM:Hid (∀s,Below W.heap.size W s->Calls prog 21 #[.string iq] s fun e I=>∃(g t q p k:Option Addr)(i r u m x l y j:Nat),e=.returned (.tuple #[.agg #[.slice g 2 i,.slice t 2 r,.slice q u m,.slice p x l,.slice k y j],.int .i64 0,.int .i64 0])/\Below W.heap.size W I/\Below s.heap.size s I):=fun s z=>(MZ iq s A (sF s z)).mono (by
  rintro e I⟨v,n,a,rfl,d,ai,-⟩;obtain⟨rfl,rfl,hp⟩:=ai gr ad;rw[vE,X]at hp;obtain⟨vT,vN,vP,vB,vK,rfl,p1,p2,p3,p4,p5,-⟩:=hp;obtain⟨g,i,rfl,-⟩:=aB p1;obtain⟨t,r,rfl,-⟩:=aB p2;obtain⟨p,l,rfl,-⟩:=aB p4;obtain⟨k,j,rfl,-⟩:=aB p5;obtain⟨q,m,rfl,-⟩:=zu.of p3;exact⟨g,t,q,p,k,i,r,_,m,_,l,_,j,rfl,z.trans (d.mono z.size),d⟩)
 have HS:Hid (∀s,Below W.heap.size W s->Calls prog 37 #[.string iq] s fun e I=>∃vl P,e=.returned (.tuple #[vl,P,.int .i64 0,.int .i64 0])/\Below s.heap.size s I/\lQ I P nG):=fun s z=>(Yo iq s A (sF s z)).mono (by
  rintro e I⟨vl,P,rfl,d,⟨-,G⟩,-⟩;rw[OE]at G;exact⟨vl,P,by rw[OD];rfl,d,lQ.edg G⟩)
 clear ad vE X Bb A sF OD UI OE;generalize iq=tx at LA HM HS|-;go_enter func20,ntmps20;go_upto_region 4 with (go_at_call 36;refine LA.mono ?_;rintro e w1⟨va,rfl,hA,ah⟩;obtain⟨aa,ac,al,af⟩:=hA;subst al;have hA:ru w1 (.slice aa rG.length ac) rG:=⟨aa,ac,rfl,af⟩;clear af)
 have C8:=HM.out w1 ah;clear LA HM;go_upto_region 5 with (go_at_call 21;refine C8.mono ?_;rintro e w2⟨g,t,q,p,k,i,r,u,m,x,l,y,j,rfl,d,qW⟩)
 obtain⟨c,UJ⟩:∃b,w2.heap.size=b:=⟨_,rfl⟩;obtain⟨Q,E⟩:∃V,V=w2.alloc (.cells #[.slice g 2 i,.slice t 2 r,.slice q u m,.slice p x l,.slice k y j] 56):=⟨_,rfl⟩;have k3:aj Q c #[.slice g 2 i,.slice t 2 r,.slice q u m,.slice p x l,.slice k y j] 56:=by rw[E,<-UJ];exact aj.new ..
 have Ch:Below w2.heap.size w2 Q:=by rw[E];exact(cV _ _).alloc (zL0) _
 have Ae:Below W.heap.size W Q:=d.trans (Ch.mono d.size);have O:ru Q (.slice aa rG.length ac) rG:=(hA.keep qW).keep Ch;rw[<-E];have G8:=HS.out Q Ae;rw[UJ];clear E UJ C8 qW Ch d ah hA HS;go_upto_region 6 with (go_at_call 37;refine G8.mono ?_;rintro e B⟨vl,P,rfl,D,G⟩;obtain⟨ea,ec,ak,R⟩:=G;subst ak;have G:lQ B (.slice ea nG.length ec) nG:=⟨ea,ec,rfl,R⟩;clear R)
 have UK:=Ae.trans (D.mono Ae.size);have ab:=O.keep D;have F:aj B c #[.slice g 2 i,.slice t 2 r,.slice q u m,.slice p x l,.slice k y j] 56:=(D.block _ k3.lt).trans k3;clear G8 D k3 Ae O;have c0:B.cell? ⟨c,0,none⟩=some (.slice g 2 i):=F.cell 0;have c1:B.cell? ⟨c,1,none⟩=some (.slice t 2 r):=F.cell 1;have c2:B.cell? ⟨c,2,none⟩=some (.slice q u m):=F.cell 2;have c3:B.cell? ⟨c,3,none⟩=some (.slice p x l):=F.cell 3;have c4:B.cell? ⟨c,4,none⟩=some (.slice k y j):=F.cell 4;obtain⟨o,S⟩:∃b,B.heap.size=b:=⟨_,rfl⟩;obtain⟨K,jh⟩:∃V,V=B.alloc (.cells #[.slice g 2 i,.slice t 2 r,.slice q u m,.slice p x l,.slice k y j,.slice none 0 0,.int .i64 0] 97):=⟨_,rfl⟩;have k5:aj K o #[.slice g 2 i,.slice t 2 r,.slice q u m,.slice p x l,.slice k y j,.slice none 0 0,.int .i64 0] 97:=by rw[jh,<-S];exact aj.new ..
 have U:Below B.heap.size B K:=by rw[jh];exact(cV _ _).alloc (zL0) _
 have Ci:=UK.trans (U.mono UK.size);have Qa:aj K c #[.slice g 2 i,.slice t 2 r,.slice q u m,.slice p x l,.slice k y j] 56:=(U.block _ F.lt).trans F;have Km:=ab.keep U;have mP:=G.keep U;go_upto_region 7 with fail
 rw[<-jh];clear jh S c0 c1 c2 c3 c4 U ab G F UK;have c0:K.cell? ⟨c,0,none⟩=some (.slice g 2 i):=Qa.cell 0;have ae:=ae5 (n:=2) Km mP (by decide) (by decide) (by decide) (by decide) (by decide);have H6:Hid (∀L LB,ru L LB (Tb.choices rG nG 2)->Calls prog 38 #[.pointer (some ⟨o,0,none⟩),LB] L (V4 L EC)):=fun L LB hc=>aiA (n:=2) hc (by decide +kernel) alK (by decide +kernel) (by decide)
 go_upto_region 8 with (first
  | (go_at_call 39;refine ae.mono ?_;rintro e L⟨LB,rfl,T,H⟩;have Y:=H6.out L LB T;clear ae)
  | (go_at_call 38;refine Y.mono ?_;rintro e f⟨vc,rfl,ag,gJ⟩))
 have N:Below K.heap.size K f:=H.trans (gJ.mono H.size);have UL:=Ci.trans (N.mono Ci.size);have Wu:aj f o _ 97:=(N.block _ k5.lt).trans k5;have M:aj f c #[.slice g 2 i,.slice t 2 r,.slice q u m,.slice p x l,.slice k y j] 56:=(N.block _ Qa.lt).trans Qa;have Z:=mP.keep N;clear Y H6 T H gJ c0 Km mP k5 Qa Ci N;have d0:f.cell? ⟨c,0,none⟩=some (.slice g 2 i):=M.cell 0;have d1:f.cell? ⟨c,1,none⟩=some (.slice t 2 r):=M.cell 1;have d2:f.cell? ⟨c,2,none⟩=some (.slice q u m):=M.cell 2;have d3:f.cell? ⟨c,3,none⟩=some (.slice p x l):=M.cell 3;have d4:f.cell? ⟨c,4,none⟩=some (.slice k y j):=M.cell 4;have e5:f.cell? ⟨o,5,none⟩=some (.slice none 0 0):=Wu.cell 5;have e6:f.cell? ⟨o,6,none⟩=some (.int .i64 0):=Wu.cell 6;have Qb:Calls prog 40 #[.int .i64 (rG.length:Int),.slice ea nG.length ec,.agg #[.slice g 2 i,.slice t 2 r,.slice q u m,.slice p x l,.slice k y j]] f.drew (V3 f.drew CZ):=agf (w:=f.drew) (nS:=4) (nT:=2) (nN:=2) (Z.keep ⟨rfl,rfl,rfl,zL0,fun _ _=>rfl⟩) (by decide) (by decide) (by decide) (by decide);have HN:Hid (∀J C,xX C J CZ->Below f.drew.heap.size f.drew C->C.cell? ⟨o,5,none⟩=some (.slice none 0 0)/\C.cell? ⟨o,6,none⟩=some (.int .i64 0)/\Wq W (.returned (.tuple #[vc,J,.slice none 0 0,.int .i64 0,.int .i64 0,.int .i64 0])) C):=fun J C hg z=>by
  have OG:Below f.heap.size f C:=⟨z.1,z.2,z.3,z.4,z.5⟩;exact⟨aV OG e5,aV OG e6,vc,J,rfl,ag.keep OG,hg,UL.trans (OG.mono UL.size)⟩
 generalize rG.length=nA at Qb|-;generalize nG.length=nE at Qb|-;clear ag UL Wu M Z
 go_region_law (refine fP rfl 40 #[.int .i64 (nA:Int),.slice ea nE ec,.agg #[.slice g 2 i,.slice t 2 r,.slice q u m,.slice p x l,.slice k y j]] (by go_simp) Qb ?_;rintro e C⟨J,rfl,hg,nZ⟩;refine⟨_,rfl,?_⟩;obtain⟨g5,g6,HF⟩:=HN.out J C hg nZ;clear Qb hg nZ)
 all_goals
  go_wp2_with fail;exact fx (v:=.tuple #[vc,J,.slice none 0 0,.int .i64 0,.int .i64 0,.int .i64 0]) (by simp[results,results20,go_sem]) rfl HF
theorem aiU{W:World}{l:Value}{row:List Int}{b:ByteArray}(k:pF W)(j:0<W.heap.size)(n:∀W',Below W.heap.size W W'->fq W')(g:b.size<=281474976710656)(o:oQ W l row)(i:row.length<=1048576)(m:∀W',Below W.heap.size W W'->Calls prog 36 #[.string iq] W' (P9 W')):Calls prog 4 #[.string b,l] W fun e w'=>e=.returned (.bool true)/\Below W.heap.size W w' :=
 aiE k j g o i fun w' a=>by
  have c:∀W',Below w'.heap.size w' W'->fq W':=fun W' h=>n W' (a.trans (h.mono a.size))
  have f:=k.move (a.block 0 j);have d:=dd j a.size;exact aiF f d (akt f d c (aiT c (m w' a)))
theorem alL{w:World}(x k a:Nat)(b:((x:Int) == 0)=false)(key:IntKind.u64.wrap (bits BinOp.and IntKind.u64 (x:Int) (IntKind.u64.wrap (-(x:Int)))*285870213051353865) / 288230376151711744=(a:Int))(f:a<64)(c:k<64)(d:w.cell? ⟨2,a,none⟩=some (.int .u8 (k:Int))):Calls prog 141 #[.int .u64 (x:Int)] w fun e w'=>e=.returned (.int .i64 (k:Int))/\w'=w:=by
 go_enter func141,ntmps141
 go_wp2_with (simp only[key])
 go_ret;exact⟨rfl,rfl⟩
theorem amj{w:World}(j:TabAt 2 Lib.deBruijn64tab w){x:Nat}(f:x<18446744073709551616)(a:x≠0):Calls prog 141 #[.int .u64 (x:Int)] w fun e w'=>e=.returned (.int .i64 ((Lib.ctz 64 x:Nat):Int))/\w'=w:=by
 obtain⟨b,d⟩:=Lib.lowest_bit 64 x a f;obtain⟨i,c⟩:=Lib.deBruijn64_at _ d;have g:=j _ i;rw[c]at g;exact alL x _ _ (by simp;omega) (tz64_key x _ f a b) i d g
section
open Go.ChangeShapes Go.WideShapes Go.RowKit
theorem aku{W:World}(h:laidMetH prog Rows.runAnyUptoRow.laid W):fq W:=by
 have h1 := (laidMetH_iff.1 (h.filter fun x => x.1 == "internal/strconv.uint64pow10")).1
 have h2 : laidMet prog [("internal/strconv.uint64pow10", Lib.tabData .u64 Lib.pow10Tab)] W := h1
 exact Lib.tabIs_of_head (g:=r9) (t:=343) (e:=277) (n:=20) IG (by kernel_rfl) (by kernel_rfl) (by kernel_rfl) (by kernel_rfl) (by kernel_rfl) h2
theorem aaZ : prog.globalNamed "math/bits.deBruijn64tab" = some 2 := by kernel_rfl
theorem ahq{W:World}(h:laidMetH prog Rows.runAnyUptoRow.laid W):TabAt 2 Lib.deBruijn64tab W:=by
 have h1 := (laidMetH_iff.1 (h.filter fun x => x.1 == "math/bits.deBruijn64tab")).1
 have h2 : laidMet prog [("math/bits.deBruijn64tab", Lib.tabData .u8 (Lib.deBruijn64tab.map fun (x : Nat) => (x : Int)))] W := h1
 have h3:=Lib.tabIs_of_head (g:=2) (t:=311) (e:=5) (n:=64) aaZ (by kernel_rfl) (by kernel_rfl) (by kernel_rfl) (by kernel_rfl) (by kernel_rfl) h2;intro j a;have:=h3.cell aaZ j (by rw[dt];exact a);rw[this];simp[List.getD,a]
theorem Zf : prog.globalNamed "comb/pack.sums" = some 0 := by kernel_rfl
theorem aiV{W:World}(h:laidMetH prog Rows.runAnyUptoRow.laid W):pF W:=by
 have h1 := (laidMetH_iff.1 (h.filter fun x => x.1 == "comb/pack.sums")).1
 have h2 : laidMet prog [("comb/pack.sums", Lib.tabData .u32 (Pk.Jv.map fun (x : Nat) => (x : Int)))] W := h1
 have h3:=Lib.tabIs_of_head (g:=0) (t:=139) (e:=82) (n:=16) Zf (by kernel_rfl) (by kernel_rfl) (by kernel_rfl) (by kernel_rfl) (by kernel_rfl) h2;intro j a;have:=h3.cell Zf j (by rw[dt];exact a);rw[this];have b:j<Pk.Jv.length:=a;simp[Pk.Dz,List.getD,b]
end
section
open Go.ChangeShapes Go.WideShapes Go.RowKit
def Qc:Prop:=∀W:World,(∀W',Below W.heap.size W W'->fq W')->(∀W',Below W.heap.size W W'->TabAt 2 Lib.deBruijn64tab W')->Calls prog 36 #[.string iq] W (P9 W)
theorem alM{W:World}(h:fq W):∀W',Below W.heap.size W W'->fq W':=fun W' b=>by
 have c:=h.cell IG 0 (by decide);have a:=Nl c;have e:=b.block _ a
 show W'.var? prog "internal/strconv.uint64pow10" = _
 rw [show W'.var? prog "internal/strconv.uint64pow10" = W.var? prog "internal/strconv.uint64pow10" by unfold World.var?; rw [IG]; simp only [Option.bind_some]; rw [e]]
 exact h
theorem aiW{W:World}(h:TabAt 2 Lib.deBruijn64tab W):∀W',Below W.heap.size W W'->TabAt 2 Lib.deBruijn64tab W':=fun _ b j a=>aV b (h j a)
theorem Zg(L:Qc)(s:ByteArray)(i:Value)(row:List Int)(W:World)(d:s.size<=281474976710656)(c:laidMetH prog Rows.runAnyUptoRow.laid W)(k:oQ W i row)(b:row.length<=1048576):Calls prog 4 #[.string s,i] W fun e w'=>e=.returned (.bool true)/\Below W.heap.size W w':=by
 have g:=aiV c;have l:0<W.heap.size:=Nl (g 0 (by decide));have f:=alM (aku c);have h2:=aiW (ahq c);exact aiU g l f d k b fun j a=>L j (fun V h=>f V (a.trans (h.mono a.size))) (fun V h=>h2 V (a.trans (h.mono a.size)))
end
structure ql(c:bA)(W:World)(S:bL)(W':World)(S':bL):Prop where
 aU:∀k,k<W.heap.size->¬S.own c k->W'.heap[k]?=W.heap[k]?
 new:∀k,S'.own c k->S.own c k\/W.heap.size<=k
 bS:W.heap.size<=W'.heap.size
 fr:W'.os=W.os/\W'.tape=W.tape/\W'.output=W.output
structure aY(c:bA)(w0:World)(F:Nat->Prop)(B:Nat)(W:World)(S:bL)(W':World)(S':bL):Prop where
 m:jP c w0 F B W' S'
 x:ql c W S W' S'
section
variable {c:bA} {w0:World} {F:Nat -> Prop} {B:Nat} {W W1 W2:World} {S S1 S2:bL} {mp:List (Nat×Nat)}
theorem ql.trans(h:ql c W S W1 S1)(k:ql c W1 S1 W2 S2):ql c W S W2 S2 where
 aU x hx hn:=by
  have h1:¬S1.own c x:=fun e=>by
   rcases h.new x e with e|e
   ·exact hn e
   ·omega
  exact(k.aU x (dd hx h.bS) h1).trans (h.aU x hx hn)
 new x hx:=by
  rcases k.new x hx with e|e
  ·exact h.new x e
  ·exact .inr (dg h.bS e)
 bS:=dg h.bS k.bS
 fr:=⟨k.fr.1.trans h.fr.1,k.fr.2.1.trans h.fr.2.1,k.fr.2.2.trans h.fr.2.2⟩
theorem aY.trans(h:aY c w0 F B W S W1 S1)(k:aY c w0 F B W1 S1 W2 S2):aY c w0 F B W S W2 S2:=⟨k.m,h.x.trans k.x⟩
theorem aY.refl(h:jP c w0 F B W S):aY c w0 F B W S W S:=⟨h,fun _ _ _=>rfl,fun _ e=>.inl e,zL0,rfl,rfl,rfl⟩
theorem wu(W:World){g k:Nat}(i:Nat)(u:Value)(h:k≠g):(W.setCell ⟨g,i,none⟩ u).heap[k]?=W.heap[k]?:=zS0 h
theorem aY.move(h:jP c w0 F B W S)(d:∀k,k<W.heap.size->W1.heap[k]?=W.heap[k]?)(f:mU c w0 F B)(b:W.heap.size<=W1.heap.size)(g:W1.os=W.os/\W1.tape=W.tape/\W1.output=W.output):aY c w0 F B W S W1 S :=
 ⟨h.move (fun k e=>d k (e.elim (fun e=>h.yP e) (fun e=>dd (f.low k e).1 h.big))) b,⟨fun k a _=>d k a,fun _ e=>.inl e,b,g⟩⟩
theorem jP.setW(d:mU c w0 F B)(h:jP c w0 F B W S){g:Nat}(a:S.vW.ownBlock=some g)(p:Nat)(b:Bool):aY c w0 F B W S (W.setCell ⟨g,p,none⟩ (.bool b)) { S with ws:=S.ws.set p b }:=by
 have kg:=h.kW a;have ne:∀{k t:Nat},o7 W k t->t≠4->(W.setCell ⟨g,p,none⟩ (.bool b)).heap[k]?=W.heap[k]?:=fun hk f=>wu W p _ (hk.ne kg f)
 have hsz:(W.setCell ⟨g,p,none⟩ (.bool b)).heap.size=W.heap.size:=by simp
 refine⟨⟨⟨fun k hk=>?_,(ne h.kL (by decide)).trans h.blk,aC h.rS fun k hk=>ne (h.kS hk) (by decide),aC h.rA fun k hk=>ne (h.kA hk) (by decide),h.rQ.move fun k hk=>ne (h.kQ hk) (by decide),?_,h.map.move (wu W p _ (h.JV kg).symm),fun i k hk=>?_,h.qd,by rw[hsz];exact h.big⟩,h.lg,h.ls,by simpa using h.lw⟩,fun k _ j=>wu W p _ (fun e=>j (e▸.inr (.inr (.inr (.inr (.inr (.inl a))))))),fun k e=>.inl e,by omega,rfl,rfl,rfl⟩
 ·exact(wu W p _ (fun e=>by have:=(d.low k hk).1;have:=(h.rW.lt g a).1;omega)).trans (h.keep k hk)
 ·have:=I8 h.rW a p (.bool b)
  rw[<-nt]at this;simpa using this
 ·obtain⟨h1,ws,h2,h3,h4⟩:=h.sets i k hk
  exact⟨h1,ws,h2,h3.move (ne (h.kG (cQ hk)) (by decide)),h4⟩
theorem cu.but(j:mU c w0 F B)(h:cu c w0 F B W S mp){v:Value}{t:Nat}(f:∀g,v.ownBlock=some g->o7 W g t/\B<=g)(m:W.grownBy W1 v.ownBlock):(∀b,F b->W1.heap[b]?=w0.heap[b]?)/\(∀{k u:Nat},o7 W k u->u≠t->W1.heap[k]?=W.heap[k]?)/\iD bC W1 c.pm mp:=by
 have i:∀k,k<W.heap.size->(∀g,v.ownBlock=some g->k≠g)->W1.heap[k]?=W.heap[k]?:=fun k a d=>m.block k a fun e=>d k e.symm rfl
 refine⟨fun k a=>?_,fun a o=>i _ (by obtain⟨y,l⟩:=a;exact(dv.1 l).1) fun g e=>a.ne (f g e).1 o,h.map.move (i _ h.map.lt fun g e=>(h.JV (f g e).1).symm)⟩;have n:=j.low k a;exact(i k (dd n.1 h.big) fun g e=>by have:=(f g e).2;omega).trans (h.keep k a)
theorem cu.stored (p:mU c w0 F B) {i:Nat} {u:Value} (kp:∀b,F b->W1.heap[b]?=w0.heap[b]?) (o:aj W1 c.lb (c.cells S) 153) (A:(c.cells S).setIfInBounds i u=c.cells S1)
  (C:W1.ownsRow B 212 2 S1.vS S1.st.length (S1.st.flatMap zx)) (t:W1.ownsRow B 214 1 S1.vA S1.gs.length (S1.gs.map (gY c.nw))) (r:lK B W1 S1.vQ S1.wq) (s:W1.ownsRow B 4 1 S1.vW S1.ws.length (S1.ws.map Value.bool)) (d:iD bC W1 c.pm mp) (D:∀(i g:Nat),S1.gs[i]?=some g->B<=g/\∃ws,S1.ss[i]?=some ws/\TS W1 g ws/\ws.length=c.nw) (y:S1.gs.Nodup) (x:B<=W1.heap.size):cu c w0 F B (W1.setCell ⟨c.lb,i,none⟩ u) S1 mp:=by
 have ne:∀{k:Nat},k≠c.lb->(W1.setCell ⟨c.lb,i,none⟩ u).heap[k]?=W1.heap[k]?:=fun a=>wu W1 i u a
 have l:∀{k:Nat},B<=k->k≠c.lb:=fun a e=>by have:=p.lb;omega
 have m:∀{e z n:Nat}{v:Value}{xs:List Value}(_:W1.ownsRow B e z v n xs),(W1.setCell ⟨c.lb,i,none⟩ u).ownsRow B e z v n xs:=fun q=>aC q fun g f=>ne (l (q.lt g f).1)
 refine⟨fun k a=>(ne (p.low k a).2.1).trans (kp k a),?_,m C,m t,r.move fun g f=>ne (l (r.lt g f).1),m s,d.move (ne fun e=>?_),fun j k a=>?_,y,by simpa using x⟩
 ·have:=o.set i u
  rwa [A]at this
 ·obtain⟨G,E,h1,-⟩:=d
  have:=o;unfold aj at this;rw[e]at h1;rw[h1]at this;cases this
 ·obtain⟨h1,ws,h2,h3,h4⟩:=D j k a
  exact⟨h1,ws,h2,h3.move (ne (l h1)),h4⟩
theorem ql.stored{v u:Value}{i:Nat}(f:∀g,v.ownBlock=some g->S.own c g)(b:W.grownBy W1 v.ownBlock)(d:∀k,S1.own c k->S.own c k\/W.heap.size<=k):ql c W S (W1.setCell ⟨c.lb,i,none⟩ u) S1 :=
 ⟨fun k j a=>(wu W1 i u (fun e=>a (.inl e))).trans (b.block k j fun e=>a (f k e.symm)),d,by simpa using b.size,b.1,b.2,b.3⟩
end
structure Waits(S:bL)(p:Nat)(S':bL):Prop where
 st:S'.st=S.st
 gs:S'.gs=S.gs
 ss:S'.ss=S.ss
 ws:S'.ws=S.ws.set p true
 wq:(S.ws[p]?=some true/\S'.wq=S.wq)\/(S.ws[p]?=some false/\S'.wq=S.wq++[p])
theorem IW{W:World}{B e:Nat}{v:Value}{n:Nat}{d:List Value}(h:W.ownsRow B e 1 v n d){p:Nat}{u:Value}(a:d[p]?=some u):∃g cap,v=.slice (some ⟨g,0,none⟩) n cap/\v.ownBlock=some g/\W.cell? ⟨g,p,none⟩=some u/\(∀i,W.frozen? ⟨g,i,none⟩=false)/\n<=maxLen:=by
 obtain⟨l,h⟩:=h;have f:=(cG.1 a).1;rcases h with ⟨-,k⟩|⟨g,cap,b,rfl,j,c,h1,h2,h3,h4⟩
 ·omega
 ·refine⟨g,cap,rfl,rfl,?_,fun i=>by simp[World.frozen?,c],by omega⟩
  have:b[p]?=some u:=by
   rw[<-h4,List.getElem?_take_of_lt (by omega)]at a;simpa using a
  simpa [World.cell?,c]using this
theorem aa0{c:bA}{w0:World}{F:Nat->Prop}{B:Nat}{W:World}{S:bL}(x:mU c w0 F B)(h:jP c w0 F B W S){p:Nat}(I:p<S.st.length)(U:S.wq.length+1<=1000000):Calls prog 98 #[.pointer (some ⟨c.lb,0,none⟩),.int .i64 (p:Int)] W fun e W'=>e=.returned (.tuple #[])/\∃S',aY c w0 F B W S W' S'/\Waits S p S':=by
 obtain⟨i0,hi,y,s,G⟩:=fd Tryz.info3;obtain⟨b,o⟩:∃b,S.ws[p]?=some b:=⟨_,cF (by rw[h.lw];exact I)⟩;obtain⟨n,A,O,K,cw,Q,P⟩:=IW h.rW (p:=p) (u:=.bool b) (by rw[dj,o];rfl);have Qd:W.cell? ⟨c.lb,12,none⟩=some (.slice (some ⟨n,0,none⟩) S.ws.length A):=by rw[<-O];exact h.blk.cell 12
 have fp:=Q p;have j1:(0:Int)<=(p:Int):=by omega
 have j2:(p:Int)<(S.ws.length:Int):=by rw[h.lw];omega
 have r:=h.setW x K p true;have HT:Hid (aY c w0 F B W S W S):=aY.refl h;cases b with
 |true=>
  have e:S.ws.set p true=S.ws:=by
   apply pA;intro i;rw[fk]
   split
   ·rename_i e;subst e;rw[o];simp[h.lw,I]
   ·rfl
  clear r;go_enter func98,ntmps98;go_wp2_with fail
  go_end0
  exact⟨rfl,S,HT.out,rfl,rfl,rfl,e.symm,.inl ⟨o,rfl⟩⟩
 |false=>
  have M:c.lb≠n:=h.kL.ne (h.kW K) (by decide);have Y:(W.setCell ⟨n,p,none⟩ (.bool true)).cell? ⟨c.lb,11,none⟩=some S.vQ:=r.m.blk.cell 11;have a:Hid (aY c w0 F B W S (W.setCell ⟨n,p,none⟩ (.bool true)) { S with ws:=S.ws.set p true }):=r;clear r;go_enter func98,ntmps98;go_upto_region 2 with fail
  generalize W.setCell ⟨n,p,none⟩ (.bool true)=W1 at Y a|-;have N:lK B (W1.alloc (.cells #[.int .i64 (p:Int)] 3)) S.vQ S.wq:=a.out.m.rQ.move fun g q=>di _ _ _ (a.out.m.rQ.lt g q).2
  have E:B<=(W1.alloc (.cells #[.int .i64 (p:Int)] 3)).heap.size:=by have:=a.out.m.big;simp;omega
  have j:(W1.alloc (.cells #[.int .i64 (p:Int)] 3)).cell? ((⟨W1.heap.size,0,none⟩:Addr).add 0)=some (.int .i64 (p:Int)):=by
   rw[Addr.add_lit];exact(aj.new W1 #[.int .i64 (p:Int)] 3).cell 0
  have J:aj (W1.alloc (.cells #[.int .i64 (p:Int)] 3)) c.lb (c.cells { S with ws:=S.ws.set p true }) 153:=a.out.m.blk.alloc _;have z:S.vQ.ownBlock≠some c.lb:=fun e=>(a.out.m.kQ e).ne a.out.m.kL (by decide) rfl
  go_wp2_with (at_builtin;refine aeH rfl _ _ 22 rfl underlying22 hi y s G _ S.wq rfl N E ⟨W1.heap.size,0,none⟩ 1 p rfl j U ?_;intro v' C D q l;obtain⟨R,Z,rfl⟩:=D.form;have H:aj C c.lb (c.cells { S with ws:=S.ws.set p true }) 153:=(q.block _ J.lt (fun e=>z e.symm)).trans J;have V:=H.frozen 11;have aa:C.cell? ⟨c.lb,11,none⟩=some S.vQ:=H.cell 11)
  go_end0
  refine⟨rfl,{ S with vQ:=.slice R (S.wq.length+1) Z,wq:=S.wq++[p],ws:=S.ws.set p true },a.out.trans ?_,rfl,rfl,rfl,rfl,.inr ⟨o,rfl⟩⟩;have d:=a.out.m;rw[cH,gx]at D l;have f:W1.grownBy C S.vQ.ownBlock:=aL (aX W1 _ _) q;obtain⟨kF,kp,km⟩:=d.tocu.but x (v:=S.vQ) (t:=3) (fun g e=>⟨d.kQ e,(d.rQ.lt g e).1⟩) f;refine⟨⟨cu.stored x kF ((kp d.kL (by decide)).trans d.blk) rfl (aC d.rS fun g e=>kp (d.kS e) (by decide)) (aC d.rA fun g e=>kp (d.kA e) (by decide)) D (aC d.rW fun g e=>kp (d.kW e) (by decide)) km (fun i g hi=>?_) d.qd (dg d.big f.size),d.lg,d.ls,d.lw⟩,ql.stored (v:=S.vQ) (fun g e=>.inr (.inr (.inr (.inr (.inl e))))) f fun k e=>?_⟩
  ·obtain⟨a1,ws,L,T,X⟩:=d.sets i g hi
   exact⟨a1,ws,L,T.move (kp (d.kG (cQ hi)) (by decide)),X⟩
  rcases e with e|e|e|e|e|e|e
  ·exact .inl (.inl e)
  ·exact .inl (.inr (.inl e))
  ·exact .inl (.inr (.inr (.inl e)))
  ·exact .inl (.inr (.inr (.inr (.inl e))))
  ·rcases l with h | h
   ·exact .inl (.inr (.inr (.inr (.inr (.inl (h.symm.trans e))))))
   ·refine .inr ?_
    have:=h.symm.trans e;simp at this;omega
  ·exact .inl (.inr (.inr (.inr (.inr (.inr (.inl e))))))
  ·exact .inl (.inr (.inr (.inr (.inr (.inr (.inr e))))))
namespace Lx
def lX(E:List Bool)(fs:List (List Nat))(xa:List Nat):List Nat->List Nat->List Nat
 | [],x=>dL x xa
 |s::r,x=>if aJ E s=true then lX E fs xa r (dL x (fs.getD s [])) else dL x (fs.getD s [])
def fT(x y:List Nat):Prop:=x.length=y.length/\∀i,x.getD i 0 ||| y.getD i 0=y.getD i 0
theorem fT.refl(x:List Nat):fT x x:=⟨rfl,fun _=>Nat.or_self _⟩
theorem Dk(x y:List Nat):(dL x y).length=x.length:=yL ..
theorem IJ(x y:List Nat)(i:Nat):(dL x y).getD i 0=if i<x.length then x.getD i 0 ||| y.getD i 0 else x.getD i 0:=by
 unfold dL;rw[BD];simp
theorem fT.join{x y:List Nat}(h:fT x y)(z:List Nat):fT x (dL y z):=by
 refine⟨by rw[Dk];exact h.1,fun i=>?_⟩;rw[IJ]
 split
 ·rw[<-tv,h.2 i]
 ·exact h.2 i
theorem fT.mid{x y z:List Nat}(h:fT x y)(k:fT y z)(e:x=z):y=x:=Fj h.1.symm fun i a=>by
 subst e;rw[<-h.2 i,Nat.or_comm,k.2 i]
theorem aad{x y:List Nat}(h:fT x y):dL y x=y:=Fj (Dk ..) fun i a=>by
 rw[IJ]
 split
 ·rw[Nat.or_comm,h.2 i]
 ·rfl
end Lx
section
variable {c:bA} {w0:World} {F:Nat -> Prop} {B:Nat} {W W1:World} {S:bL}
theorem jP.an3(v:mU c w0 F B)(h:jP c w0 F B W S){b g:Nat}(hb:S.gs[b]?=some g){x:List Nat}(o:x.length=c.nw)(f:TP W g x W1):aY c w0 F B W S W1 { S with ss:=S.ss.set b x }:=by
 have j:=cQ hb;have kg:=h.kG j;have D:=(h.sets b g hb).1;have l:∀k,k<W.heap.size->k≠g->W1.heap[k]?=W.heap[k]?:=fun k a d=>f.gr.block k a fun e=>d (by cases e;rfl)
 have ne:∀{k t:Nat},o7 W k t->t≠277->W1.heap[k]?=W.heap[k]?:=fun a q=>l _ (by obtain⟨y,z⟩:=a;exact(dv.1 z).1) (a.ne kg q)
 refine⟨⟨⟨fun k a=>?_,(ne h.kL (by decide)).trans h.blk,aC h.rS fun k a=>ne (h.kS a) (by decide),aC h.rA fun k a=>ne (h.kA a) (by decide),h.rQ.move fun k a=>ne (h.kQ a) (by decide),aC h.rW fun k a=>ne (h.kW a) (by decide),h.map.move (l _ h.map.lt (h.JV kg).symm),fun i k a=>?_,h.qd,dg h.big f.gr.size⟩,h.lg,by simpa using h.ls,h.lw⟩,fun k a r=>l k a fun e=>r (e▸.inr (.inr (.inr (.inr (.inr (.inr j)))))),fun k e=>.inl e,f.gr.size,f.gr.1,f.gr.2,f.gr.3⟩
 ·have:=(v.low k a).1
  exact(l k (dd this h.big) (by omega)).trans (h.keep k a)
 ·obtain⟨h1,u,h2,h3,h4⟩:=h.sets i k a
  by_cases e:i=b
  ·subst e
   rw[hb]at a;cases a;exact⟨h1,x,by rw[fk];simp[(List.getElem?_eq_some_iff.1 h2).1],f.ts,o⟩
  ·have d:k≠g:=fun m=>e (by
    obtain⟨A,p⟩:=cG.1 a;obtain⟨C,s⟩:=cG.1 hb;exact(lj h.qd).1 (p.trans (m.trans s.symm)))
   exact⟨h1,u,by rw[fk,dk fun n=>e n.symm];exact h2,h3.move (l k h3.blk.lt d),h4⟩
def TlR(w0:World)(F:Nat->Prop)(v:Value)(r:List Nat):Prop:=∃a cap,v=.slice a r.length cap/\r.length<=100000/\∀(j x:Nat),r[j]?=some x->∃b o,a=some ⟨b,o,none⟩/\F b/\w0.cell? ⟨b,o+j,none⟩=some (.int .i64 (x:Int))
structure Hands(c:bA)(S:bL)(a b:Nat)(r:List Nat)(g:Bool)(S':bL):Prop where
 st:S'.st=S.st
 gs:S'.gs=S.gs
 ws:S'.ws=S.ws
 wq:S'.wq=S.wq
 ss:S'.ss=S.ss.set b (lX c.E c.fs (S.ss.getD a []) r (S.ss.getD b []))
 grew:g=true↔lX c.E c.fs (S.ss.getD a []) r (S.ss.getD b [])≠S.ss.getD b []
theorem ahr(T:mU c w0 F B)(h:jP c w0 F B W S){a b:Nat}{v:Value}{r:List Nat}(ha:a<S.st.length)(hb:b<S.st.length)(hv:TlR w0 F v r)(hr:∀x∈r,x<c.sz)(ab:c.nw<=100000):Calls prog 97 #[.pointer (some ⟨c.lb,0,none⟩),.int .i64 (a:Int),.int .i64 (b:Int),v] W fun e W'=>∃g:Bool,e=.returned (.bool g)/\∃S',aY c w0 F B W S W' S'/\Hands c S a b r g S':=by
 obtain⟨ra,rc,rfl,av,X⟩:=hv;obtain⟨ga,H⟩:∃g,S.gs[a]?=some g:=⟨_,cF (by rw[h.lg];exact ha)⟩;obtain⟨G,l⟩:∃g,S.gs[b]?=some g:=⟨_,cF (by rw[h.lg];exact hb)⟩;obtain⟨-,P,N,am,aw⟩:=h.sets a ga H;obtain⟨-,f,z,an,aq⟩:=h.sets b G l;have ea:S.ss.getD a []=P:=by simp[N]
 have eb:S.ss.getD b []=f:=by simp[z]
 obtain⟨gA,cA,ED,LC,-,-,zC⟩:=IW h.rA (p:=b) (u:=gY c.nw G) (by rw[dj,l];rfl);have ac:Hid (aY c w0 F B W S W { S with ss:=S.ss.set b f }):=by
  have:S.ss.set b f=S.ss:=by
   apply pA;intro i;rw[fk]
   split
   ·rename_i e;subst e;rw[z,de (cG.1 z).1]
   ·rfl
  show aY ..;rw[this];exact aY.refl h
 have HC:Hid (∀(wr:World)(x:List Nat),aY c w0 F B W S wr { S with ss:=S.ss.set b x }->fT f x->wr.cell? ⟨c.lb,10,none⟩=some (.slice (some ⟨gA,0,none⟩) S.gs.length cA)/\wr.cell? ⟨gA,b,none⟩=some (gY c.nw G)/\wr.cell? ⟨gA,a,none⟩=some (gY c.nw ga)/\TS wr G x/\x.length=c.nw/\∃y,TS wr ga y/\y.length=c.nw/\(G=ga->y=x)/\dL x y=dL x P):=fun wr x D ae=>by
  have hm:=D.m;have o1:=IW hm.rA (p:=b) (u:=gY c.nw G) (by rw[dj];show Option.map _ S.gs[b]?=_;rw[l];rfl);have o2:=IW hm.rA (p:=a) (u:=gY c.nw ga) (by rw[dj];show Option.map _ S.gs[a]?=_;rw[H];rfl);obtain⟨g1,c1,e1,-,q1,-⟩:=o1;obtain⟨g2,c2,e2,-,q2,-⟩:=o2;have ah:S.vA=.slice (some ⟨g1,0,none⟩) S.gs.length c1:=e1;have ad:S.vA=.slice (some ⟨g2,0,none⟩) S.gs.length c2:=e2;rw[ED]at ah ad;cases ah;cases ad;obtain⟨-,x',al,Z,Y⟩:=hm.sets b G l;have:x'=x:=by
   have h1:(S.ss.set b x)[b]?=some x':=al;rw[List.getElem?_set_self (cG.1 z).1]at h1;cases h1;rfl
  subst this;refine⟨by rw[<-ED];exact hm.blk.cell 10,q1,q2,Z,Y,?_⟩;obtain⟨-,y,hy,ty,ly⟩:=hm.sets a ga H;refine⟨y,ty,ly,?_⟩;have M:(S.ss.set b x')[a]?=some y:=hy
  by_cases e:b=a
  ·subst e
   rw[l]at H;cases H;rw[List.getElem?_set_self (cG.1 z).1]at M;cases M;rw[z]at N;cases N;exact⟨fun _=>rfl,by rw[aad (fT.refl _),aad ae]⟩
  ·rw[List.getElem?_set_ne e]at M
   rw[N]at M;cases M;refine⟨fun e2=>absurd ?_ e,rfl⟩;obtain⟨l1,f1⟩:=cG.1 H;obtain⟨l2,f2⟩:=cG.1 l;exact(lj h.qd).1 (f2.trans (e2.trans f1.symm))
 have HG:Hid (∀(wr d:World)(x y:List Nat),aY c w0 F B W S wr { S with ss:=S.ss.set b x }->TP wr G y d->y.length=c.nw->aY c w0 F B W S d { S with ss:=S.ss.set b y }):=fun wr d x y D hP hy=>by
  have:=D.trans (D.m.an3 T (b:=b) l hy hP);simpa using this
 have HF:Hid (∀wr:World,(∀b,F b->wr.heap[b]?=w0.heap[b]?)->∀s,s<c.sz->∃g ws,wr.cell? ⟨c.gF,s,none⟩=some (gY c.nw g)/\TS wr g ws/\ws.length=c.nw/\g≠G/\c.fs.getD s []=ws/\wr.cell? ⟨c.gE,s,none⟩=some (.bool (aJ c.E s))):=fun wr hk s hs=>by
  obtain⟨g,hg⟩:∃g,c.fg[s]?=some g:=⟨_,cF (by rw[T.anr];exact hs)⟩;obtain⟨h1,h2,ws,h3,h4,h5⟩:=T.first s g hg;have:=(T.low g h2).1;have:=(h.sets b G l).1;exact⟨g,ws,(cJ (w:=w0) (hk _ T.fF)).trans h1,h4.move (hk g h2),h5,by omega,by simp[h3],(cJ (w:=w0) (hk _ T.fE)).trans ((T.empty.cell s).trans (qM c.E (by rw[T.anq];exact hs)))⟩
 have HK:Hid (∀wr S1,aY c w0 F B W S wr S1->∀b,F b->wr.heap[b]?=w0.heap[b]?):=fun wr S1 D=>D.m.keep
 have ag:Hid (fT f f/\(false=true↔f≠f)/\lX c.E c.fs P (r.drop 0) f=lX c.E c.fs P r f):=⟨fT.refl _,by simp,rfl⟩;have HE:Hid (∀(W':World)(g:Bool)(x:List Nat),aY c w0 F B W S W' { S with ss:=S.ss.set b x }->(g=true↔x≠f)->x=lX c.E c.fs P r f->∃S',aY c w0 F B W S W' S'/\Hands c S a b r g S'):=fun W' g x D hg hx=>⟨_,D,rfl,rfl,rfl,rfl,by rw[ea,eb,<-hx],by rw[ea,eb,<-hx];exact hg⟩
 have HB:Hid (∀wr S1,aY c w0 F B W S wr S1->wr.cell? ⟨c.lb,7,none⟩=some (.slice (some ⟨c.gF,0,none⟩) c.sz c.fc)/\wr.cell? ⟨c.lb,6,none⟩=some (.slice (some ⟨c.gE,0,none⟩) c.sz c.sz)):=fun wr S1 D=>⟨D.m.blk.cell 7,D.m.blk.cell 6⟩
 have ao:Hid (∀(j x:Nat),r[j]?=some x->∃b o,ra=some ⟨b,o,none⟩/\F b/\w0.cell? ⟨b,o+j,none⟩=some (.int .i64 (x:Int))):=X;have j3:(0:Int)<=(b:Int):=by omega
 have j4:(b:Int)<(S.gs.length:Int):=by rw[h.lg];omega
 have j5:(0:Int)<=(a:Int):=by omega
 have j6:(a:Int)<(S.gs.length:Int):=by rw[h.lg];omega
 clear X am an N z H l ea eb ED LC zC h;refine hU.1 (callsIn_of_wp (F:=Fence.wide) (n:=9) func97 rfl trivial ?_ rfl);simp only[ntmps97,kf,el,iu,Nat.reduceAdd,Nat.reduceSub,mA,mz,n8,m7,go,fX]
 gi_wp2
 gi_loopg [9,14] r.length (fun k gv i wr=>∃(j:Nat)(g:Bool)(x:List Nat),j+k=r.length/\gv=.bool g/\i=.int .i64 (j:Int)/\Hid (aY c w0 F B W S wr { S with ss:=S.ss.set b x })/\Hid (fT f x/\(g=true↔x≠f)/\lX c.E c.fs P (r.drop j) x=lX c.E c.fs P r f))
 case atStart=>exact⟨0,false,f,by omega,rfl,rfl,ac,ag⟩
 case round=>
  clear ac ag;obtain⟨j,g,x,hk,rfl,rfl,U,HI⟩:=hrel;obtain⟨Qe,dA,dB,Z,Y,y,ty,ly,aa,Wv⟩:=HC.out wr x U.out HI.out.1
  by_cases hlt:j<r.length
  ·obtain⟨s,hs⟩:∃s,r[j]?=some s:=⟨_,cF hlt⟩
   have hsz:=hr s (cQ hs);obtain⟨b',o',rfl,Ku,cs⟩:=ao.out j s hs;have cs:wr.cell? ⟨b',o'+j,none⟩=some (.int .i64 (s:Int)):=(cJ (w:=w0) (HK.out wr _ U.out b' Ku)).trans cs;obtain⟨gf,A,df,tf,lf,ak,af,dE⟩:=HF.out wr (HK.out wr _ U.out) s hsz;obtain⟨d7,d6⟩:=HB.out wr _ U.out;have q1:=fun J=>ME (w:=wr.drewN J) (g:=G) (h:=gf) ⟨Z.blk,Z.wd⟩ ⟨tf.blk,tf.wd⟩ (fun e=>absurd e.symm ak) Y lf ab
   have i1:(0:Int)<=(j:Int):=by omega
   have i2:(j:Int)<(r.length:Int):=by omega
   have i3:(0:Int)<=(s:Int):=by omega
   have i4:(s:Int)<(c.sz:Int):=by omega
   unfold gY at dA dB df;have ap:Hid (∀d,aY c w0 F B W S d { S with ss:=S.ss.set b (dL x A) }->d.cell? ⟨c.lb,10,none⟩=some (.slice (some ⟨gA,0,none⟩) S.gs.length cA)/\d.cell? ⟨gA,b,none⟩=some (.slice (some ⟨G,0,none⟩) c.nw c.nw)/\d.cell? ⟨c.lb,7,none⟩=some (.slice (some ⟨c.gF,0,none⟩) c.sz c.fc)/\d.cell? ⟨c.gF,s,none⟩=some (.slice (some ⟨gf,0,none⟩) c.nw c.nw)):=fun d D=>by
    obtain⟨a1,a2,-⟩:=HC.out d _ D (HI.out.1.join A);exact⟨a1,a2,(HB.out d _ D).1,(cJ (w:=wr) ((HK.out d _ D _ T.fF).trans (HK.out wr _ U.out _ T.fF).symm)).trans df⟩
   have Ww:(dL x A).length=c.nw:=by rw[Dk];exact Y
   obtain⟨I,q⟩:∃I:Bool,I=true↔dL x A≠x:=⟨decide (dL x A≠x),by simp⟩;have q2:=fun J=>(q1 J).mono (R':=fun e w'=>e=.returned (.bool I)/\TP (wr.drewN J) G (dL x A) w') fun e w'⟨b5,h1,h2,h3⟩=>⟨by rw[h1,show b5=I from Bool.eq_iff_iff.2 (h3.trans q.symm)],h2⟩
   have t:Hid (fT f (dL x A)/\((I || g)=true↔dL x A≠f)/\(aJ c.E s=true->lX c.E c.fs P (r.drop (j+1)) (dL x A)=lX c.E c.fs P r f)/\(aJ c.E s=false->dL x A=lX c.E c.fs P r f)):=by
    obtain⟨h1,h2,h3⟩:=HI.out;have hd:r.drop j=s::r.drop (j+1):=by
     obtain⟨h4,h5⟩:=cG.1 hs;rw[eL h4,h5]
    rw[hd]at h3;simp only[lX,af]at h3;refine⟨h1.join A,?_,fun e=>by rw[de e]at h3;exact h3,fun e=>by rw[dk (by rw[e];simp)]at h3;exact h3⟩;rw[oE,q,h2];constructor
    ·rintro(h | h)e
     ·exact h (by rw[e];exact(h1.mid ((fT.refl x).join A) e.symm).symm)
     ·exact h (h1.mid ((fT.refl x).join A) e.symm)
    ·intro h
     by_cases e:dL x A=x
     ·exact .inr (e▸h)
     ·exact .inl e
   clear Z tf ty aa Wv lf af Y q1 q
   gi_wp2
   refine mo 14 (by kernel_rfl) (by kernel_rfl) (by kernel_rfl) ?_
   dsimp only[List.take,List.drop,List.length]
   repeat (gi_big_quiet_step (fail))
   refine wpQuietIn_nil ?_;rintro _⟨J,rfl⟩;refine wpAnyIn_ready (rs:=[14]) (by kernel_rfl) (by simp) (AllReadyIn.cons rfl (fun K R=>?_) AllReadyIn.nil)
   go_simp
   refine⟨trivial,(hU.2 (q2 J)).mono ?_⟩;rintro e d⟨rfl,C⟩;have V:Hid (aY c w0 F B W S d { S with ss:=S.ss.set b (dL x A) }):=HG.out wr d x _ U.out ⟨C.ts,⟨C.gr.1,C.gr.2,C.gr.3,C.gr.4,C.gr.5⟩⟩ Ww;have ai:d.cell? ⟨c.gE,s,none⟩=some (.bool (aJ c.E s)):=(HF.out d (HK.out d _ V.out) s hsz).choose_spec.choose_spec.2.2.2.2.2;have ar:=(HB.out d _ V.out).2;refine R _ _ ?_;clear R K q2 C Qe dA dB df dE d7 d6 ap U cs;refine wpAnyIn_ready (rs:=[15]) (by kernel_rfl) (by simp) (AllReadyIn.cons rfl (fun K R=>?_) AllReadyIn.nil)
   go_simp
   refine R _ _ (wpAnyIn_ready (rs:=[16]) (by kernel_rfl) (by simp) (AllReadyIn.cons rfl (fun K2 L=>?_) AllReadyIn.nil));clear R K;cases I
   all_goals
    go_simp
    refine L _ _ (wpAnyIn_ready (rs:=[17]) (by kernel_rfl) (by simp) (AllReadyIn.cons rfl (fun K3 Q=>?_) AllReadyIn.nil));clear L K2
    go_simp
    refine Q _ _ (wpAnyIn_ready (rs:=[18]) (by kernel_rfl) (by simp) (AllReadyIn.cons rfl (fun K4 O=>?_) AllReadyIn.nil));clear Q K3
    go_simp
    refine O _ _ (wpAnyIn_done (by kernel_rfl) ?_ _);clear O K4;cases hE:aJ c.E s
    all_goals rw[hE]at ai
   ·gi_wp2
    go_ret;exact⟨g,rfl,HE.out _ _ _ V.out (by simpa using t.out.2.1) (t.out.2.2.2 hE)⟩
   ·gi_wp2
    gi_roundg (r.length - (j+1))
    case measure=>omega
    case rel=>exact⟨j+1,g,_,by omega,rfl,by go_num,V,⟨t.out.1,by simpa using t.out.2.1,t.out.2.2.1 hE⟩⟩
   ·gi_wp2
    go_ret;exact⟨true,rfl,HE.out _ _ _ V.out (by simpa using t.out.2.1) (t.out.2.2.2 hE)⟩
   ·gi_wp2
    gi_roundg (r.length - (j+1))
    case measure=>omega
    case rel=>exact⟨j+1,true,_,by omega,rfl,by go_num,V,⟨t.out.1,by simpa using t.out.2.1,t.out.2.2.1 hE⟩⟩
  ·have hj:j=r.length:=by omega
   have q1:=fun J=>ME (w:=wr.drewN J) (g:=G) (h:=ga) ⟨Z.blk,Z.wd⟩ ⟨ty.blk,ty.wd⟩ aa Y ly ab
   obtain⟨I,q⟩:∃I:Bool,I=true↔dL x y≠x:=⟨decide (dL x y≠x),by simp⟩;have q2:=fun J=>(q1 J).mono (R':=fun e w'=>e=.returned (.bool I)/\TP (wr.drewN J) G (dL x y) w') fun e w'⟨b5,h1,h2,h3⟩=>⟨by rw[h1,show b5=I from Bool.eq_iff_iff.2 (h3.trans q.symm)],h2⟩
   have t:Hid (((I || g)=true↔dL x y≠f)/\dL x y=lX c.E c.fs P r f):=by
    obtain⟨h1,h2,h3⟩:=HI.out;rw[hj,g8]at h3;refine⟨?_,Wv.trans h3⟩;rw[oE,q,h2];constructor
    ·rintro(h | h)e
     ·exact h (by rw[e];exact(h1.mid ((fT.refl x).join y) e.symm).symm)
     ·exact h (h1.mid ((fT.refl x).join y) e.symm)
    ·intro h
     by_cases e:dL x y=x
     ·exact .inr (e▸h)
     ·exact .inl e
   have Ww:(dL x y).length=c.nw:=by rw[Dk];exact Y
   unfold gY at dA dB;clear Z ty aa Wv ly Y q1 q
   gi_wp2
   refine mo 14 (by kernel_rfl) (by kernel_rfl) (by kernel_rfl) ?_
   dsimp only[List.take,List.drop,List.length]
   repeat (gi_big_quiet_step (fail))
   refine wpQuietIn_nil ?_;rintro _⟨J,rfl⟩;refine wpAnyIn_ready (rs:=[14]) (by kernel_rfl) (by simp) (AllReadyIn.cons rfl (fun K R=>?_) AllReadyIn.nil)
   go_simp
   refine⟨trivial,(hU.2 (q2 J)).mono ?_⟩;rintro e d⟨rfl,C⟩;have V:Hid (aY c w0 F B W S d { S with ss:=S.ss.set b (dL x y) }):=HG.out wr d x _ U.out ⟨C.ts,⟨C.gr.1,C.gr.2,C.gr.3,C.gr.4,C.gr.5⟩⟩ Ww;refine R _ _ ?_;clear R K q2 C Qe dA dB U;refine wpAnyIn_ready (rs:=[15]) (by kernel_rfl) (by simp) (AllReadyIn.cons rfl (fun K R=>?_) AllReadyIn.nil)
   go_simp
   refine R _ _ (wpAnyIn_ready (rs:=[16]) (by kernel_rfl) (by simp) (AllReadyIn.cons rfl (fun K2 L=>?_) AllReadyIn.nil));clear R K;cases I
   all_goals
    go_simp
    refine L _ _ (wpAnyIn_ready (rs:=[17]) (by kernel_rfl) (by simp) (AllReadyIn.cons rfl (fun K3 Q=>?_) AllReadyIn.nil));clear L K2
    go_simp
    refine Q _ _ (wpAnyIn_ready (rs:=[18]) (by kernel_rfl) (by simp) (AllReadyIn.cons rfl (fun K4 O=>?_) AllReadyIn.nil));clear Q K3
    go_simp
    refine O _ _ (wpAnyIn_done (by kernel_rfl) ?_ _);clear O K4
    gi_wp2
    go_ret
   ·exact⟨g,rfl,HE.out _ _ _ V.out (by simpa using t.out.1) t.out.2⟩
   ·exact⟨true,rfl,HE.out _ _ _ V.out (by simpa using t.out.1) t.out.2⟩
end
end Go.Proofs.YtagkodkijkpemaaGreatDoor

import Derived.Test.YtagkodkijkpemaaGreatDoorQA13
import Derived.Deep.DeepCutAuto
set_option maxHeartbeats 8000000
set_option maxRecDepth 1000000
namespace Go.Proofs.YtagkodkijkpemaaGreatDoor
open Lx Go.Proofs.Tryz
open Go.RowKit Tr
theorem Mw{fn:Func}{a b c:Tmp}(h:fn.results=#[.tmp a,.tmp b,.tmp c])(tmps:Array Value)(P:Program)(w:World):(results fn tmps).run P w=.ok (.tuple #[tmps.getD a undef,tmps.getD b undef,tmps.getD c undef]) w:=by simp[results,h]
theorem Tq{nT:Nat}{l:List Nat}(b:∀t∈l,t<nT):∀(k t:Nat),bP (iA (Lx.nW nT) l k) t=true->t<nT
 |0,t,h=>by
  unfold iA bP at h;rw[ej,jn]at h
  split at h <;> simp at h
 |k+1,t,h=>by
  unfold iA at h
  split at h
  ·rename_i u hu
   have a:=b u (cJ hu);rw[Sm (by rw[(NG _ _ _).1];unfold Lx.nW;omega),n7]at h;rcases h with h|h
   ·exact Tq b k t h
   ·obtain rfl:=iS h
    exact a
  ·exact Tq b k t h
theorem ZQ{W:World}{s:ByteArray}{g:Lx.Gr}{S:bF}{st NM:Nat}{R:Nat×Nat->Prop}{G:Nat×Nat->Nat->Prop}(hs:ny s g S)(hq:EZ (aJ g) (lG S.es S.es.length) (ay g).length (fQ g) S.ks.length st NM R G)(iB:∀W',Below W.heap.size W W'->dM W')(am:∀W',Below W.heap.size W W'->TabAt 2 Lib.deBruijn64tab W'):Calls prog 36 #[.string s] W fun e w'=>∃v,e=.returned (.tuple #[v,.int .i64 0,.int .i64 0])/\Qz W (aJ g) (lG S.es S.es.length) (ay g).length S.ks.length st R G v w':=by
 have Dj:=acX (W1:=W) hs (iB W (cV _ _));have HM:Hid (∀W1,Below W.heap.size W W1->dM W1):=iB;have H2:Hid (∀W',Below W.heap.size W W'->TabAt 2 Lib.deBruijn64tab W'):=am;have af:Hid (∀W1,dM W1->_):=fun W1 h=>amA (W1:=W1) hs h
 have ae:Hid (∀W1,dM W1->_):=fun W1 h=>amB (W1:=W1) hs h
 have HQ:Hid (EZ (aJ g) (lG S.es S.es.length) (ay g).length (fQ g) S.ks.length st NM R G):=hq;have HB:Hid (S.es.length<=1000000000/\(fQ g)<=100000/\(ay g).length<=100000):=by
  have h1:=hs.el;have h2:=hs.fit.xE;have h3:=hs.fit.Cg;exact⟨by omega,by unfold fQ;omega,by omega⟩
 clear iB am hq hs;generalize (ay g).length=nT at *;generalize (aS g).length=nN at *;generalize fQ g=sz at *;generalize aJ g=P at *;obtain⟨ks,es⟩:=S;simp only at *;generalize ks.length=N at *;generalize hne:es.length=ne at *;have OZ:Hid (es.length=ne):=hne;clear hne;go_enter func36,ntmps36;go_upto_region 4 with (go_at_call 37;refine Dj.mono ?_;rintro e w1⟨la,lc,ea,ec,rfl,F,hE⟩)
 have Dk:=af.out w1 (HM.out w1 F);clear Dj af;go_upto_region 5 with (go_at_call 21;refine Dk.mono ?_;rintro e w2⟨H,Q,Z,M,D,U,z,O,T,Y,K,J,rfl,aa,hP⟩)
 obtain⟨d,C9⟩:∃b,w2.heap.size=b:=⟨_,rfl⟩;obtain⟨w3,I⟩:∃V,V=w2.alloc (.cells #[.slice H nT D,.slice Q nN U,.slice (some ⟨z,0,none⟩) P.length O,.slice Z T Y,.slice M K J] 56):=⟨_,rfl⟩;have k3:aj w3 d #[.slice H nT D,.slice Q nN U,.slice (some ⟨z,0,none⟩) P.length O,.slice Z T Y,.slice M K J] 56:=by rw[I,<-C9];exact aj.new ..
 have zo:Below w2.heap.size w2 w3:=by rw[I];exact(cV _ _).alloc (zL0) _
 have tV:Below w1.heap.size w1 w3:=aa.trans (zo.mono aa.size);have sj:Below W.heap.size W w3:=F.trans (tV.mono F.size);have Hy:=hE.keep tV;have ah:mX w3 (fun k=>k<w3.heap.size) z P:=(hP.move fun b ac=>zo.block b ac).imp fun k hk=>dd hk zo.size
 rw[<-I];have ad:=ae.out w3 (HM.out w3 sj);rw[C9];clear I C9 Dk aa zo tV F hE HM ae hP;go_upto_region 6 with (go_at_call 60;refine ad.mono ?_;rintro e c⟨gE,E,fa,fc,L,rfl,p,kE,ar,hI,VO,Xn⟩)
 have Cv:=sj.trans (p.mono sj.size);have k5:aj c d _ 56:=(p.block _ k3.lt).trans k3;have nR:=Hy.keep p;have mW:mX c (fun k=>k<c.heap.size) z P:=(ah.move fun b ac=>p.block b ac).imp fun k hk=>dd hk p.size
 have o:Hid (L.length=sz):=VO;clear ad p k3 Hy ah sj VO;have c0:c.cell? ⟨d,0,none⟩=some (.slice H nT D):=k5.cell 0;have c1:c.cell? ⟨d,1,none⟩=some (.slice Q nN U):=k5.cell 1;have c2:c.cell? ⟨d,2,none⟩=some (.slice (some ⟨z,0,none⟩) P.length O):=k5.cell 2;have c3:c.cell? ⟨d,3,none⟩=some (.slice Z T Y):=k5.cell 3;have c4:c.cell? ⟨d,4,none⟩=some (.slice M K J):=k5.cell 4;have ag:Hid (∀V,Below c.heap.size c V->Calls prog 61 #[.agg #[.slice H nT D,.slice Q nN U,.slice (some ⟨z,0,none⟩) P.length O,.slice Z T Y,.slice M K J],.slice ea ne ec] V fun e w'=>∃r,e=.returned (.agg #[.slice H nT D,.slice Q nN U,.slice (some ⟨z,0,none⟩) P.length O,.slice Z T Y,.slice M K J,.map (some r)])/\V.heap.size<=r/\dF bE (fun _=>True) w' r (fun a=>(lG es ne a:Int))/\Below c.heap.size c w'/\Below V.heap.size V w'/\w'.cell? ⟨d,0,none⟩=some (.slice H nT D)):=fun V A=>(afw (nR.keep A) (by rw[OZ.out];exact HB.out.1)).mono (by
  rintro e w'⟨r,rfl,h1,h2,h3⟩;rw[OZ.out]at h2;exact⟨r,rfl,h1,h2,A.trans (h3.mono A.size),h3,aM (A.trans (h3.mono A.size)) c0⟩)
 have al:Hid (∀V,Below c.heap.size c V->Calls prog 62 #[.slice fa sz fc,.int .i64 (nT:Int)] V fun e w'=>∃(gF:Nat)(gs:List Nat)(fs:List (List Nat)),e=.returned (.slice (some ⟨gF,0,none⟩) sz sz)/\Below c.heap.size c w'/\Below V.heap.size V w'/\V.heap.size<=gF/\aj w' gF (gs.map (gX (Lx.nW nT))).toArray 214/\gs.length=sz/\(∀(i g:Nat),gs[i]?=some g->∃ws:List Nat,fs[i]?=some ws/\TS w' g ws/\ws.length=Lx.nW nT)/\∀ws∈fs,∀t,bP ws t=true->t<nT):=fun V A=>(ah3 (nT:=nT) (hI.keep A) (by rw[o.out];exact HB.out.2.1) HB.out.2.2 Xn).mono (by
  rintro e w'⟨gO,gs,rfl,h1,h2,h3⟩;refine⟨gO,gs,L.map fun ts=>iA (Lx.nW nT) ts ts.length,by rw[o.out],A.trans (h3.b.mono A.size),h3.b,h2,?_,h1.trans o.out,fun i g hg=>?_,fun ws a1 t ht=>?_⟩
  ·have:=h3.out
   rw[h1,ib,sX,eV]at this;exact this
  ·obtain⟨l,hl⟩:∃l,L[i]?=some l:=⟨_,cF (by rw[<-h1];exact(cG.1 hg).1)⟩
   have e1:(L.map fun ts=>iA (Lx.nW nT) ts ts.length)[i]?=some (iA (Lx.nW nT) l l.length):=by rw[di,hl];rfl
   obtain⟨s1,s2⟩:=NG (Lx.nW nT) l l.length;refine⟨_,e1,⟨?_,s2⟩,s1⟩;have:=h3.row i g (wL (iA (Lx.nW nT) l l.length)) hg (by rw[di];exact fb (Option.map wL) e1);exact this
  ·obtain⟨l,hl,rfl⟩:=ee.1 a1
   exact Tq (Xn l hl).2 _ t ht)
 clear nR hI Xn o k5;have hS:∀V,Below c.heap.size c V->V.cell? ⟨d,0,none⟩=some (.slice H nT D)/\V.cell? ⟨d,1,none⟩=some (.slice Q nN U)/\V.cell? ⟨d,2,none⟩=some (.slice (some ⟨z,0,none⟩) P.length O)/\V.cell? ⟨d,3,none⟩=some (.slice Z T Y)/\V.cell? ⟨d,4,none⟩=some (.slice M K J):=fun V hb=>⟨aM hb c0,aM hb c1,aM hb c2,aM hb c3,aM hb c4⟩
 have HS:Hid (∀V,Below c.heap.size c V->_):=hS;clear hS;have a0:=@sr prog
 go_region_held3 (fun V=>V.cell? ⟨d,0,none⟩=some (.slice H nT D)/\V.cell? ⟨d,1,none⟩=some (.slice Q nN U)/\V.cell? ⟨d,2,none⟩=some (.slice (some ⟨z,0,none⟩) P.length O)/\V.cell? ⟨d,3,none⟩=some (.slice Z T Y)/\V.cell? ⟨d,4,none⟩=some (.slice M K J)) ((refine HS.out _ ?_;repeat (first | with_reducible exact j | with_reducible exact x | with_reducible exact cV _ _ | with_reducible refine xO ?_ _ | with_reducible refine Kc ?_ | with_reducible refine QZ _ _ _ _ _ _ _ _ _ _ _ _ _ ?_ (by have:=x.size;first | omega | (have:=j.size;omega))))) (first
  | (go_at_call 61;refine(ag.out _ (by repeat (first | with_reducible exact cV _ _ | with_reducible refine xO ?_ _ | with_reducible refine Kc ?_))).mono ?_;rintro e w6⟨r,rfl,ab,hG,x,u,aw⟩;clear ag aw;have s6:c.heap.size<=w6.heap.size:=x.size;have EK:r<w6.heap.size:=hG.lt;(first | (have ak:c.heap.size+2<=r:=by simpa using ab) | (have ak:c.heap.size+1<=r:=by simpa using ab) | (have ak:c.heap.size<=r:=ab));(first | have y:=aoW u | have y:=apK u | have y:=aoV u | have y:=apL u | skip))
  | (go_at_call 62;refine(al.out _ (by repeat (first|with_reducible exact x|with_reducible refine xO ?_ _|with_reducible refine Kc ?_))).mono ?_;rintro e w7⟨gF,gs,fs,rfl,j,B,a2,kF,an,hr,ai⟩;clear al;have C:Below w6.heap.size w6 w7:=ana (by repeat (first|with_reducible exact cV _ _|with_reducible refine xO ?_ _|with_reducible refine Kc ?_)) B;(first|have X:=WW B|have X:=kp1 B|skip);(first|have n:=Ig X.1|have n:=Ig X.2|have n:=Ig X|have n:=Ig (tC C y.1)|have n:=Ig (tC C y.2)|have n:=Ig (tC C y)|skip);(first|have f:=Ie X.1|have f:=Ie X.2|have f:=Ie X|have f:=Ie (tC C y.1)|have f:=Ie (tC C y.2)|have f:=Ie (tC C y)|skip);(try (have kz:=ad8 f;obtain⟨yf,y0,y1,y2,y3,y4,y5,y6,y7,y8,y9,av,aq,ax⟩:=kz;have kz:=ad8 (Qw (.map #[] 0) f);obtain⟨xf,x0,x1,x2,x3,x4,x5,x6,x7,x8,x9,ao,zX,wH⟩:=kz));have lX:r<w7.heap.size:=dd EK C.size;have q:Hid (Lg (OQ (Qz W P (lG es ne) nT N st R G) N) c w7 r (.slice H nT D) (.slice Q nN U) (.slice (some ⟨z,0,none⟩) P.length O) (.slice Z T Y) (.slice M K J) (.slice (some ⟨gE,0,none⟩) sz sz) (.slice (some ⟨gF,0,none⟩) sz sz)):=fun W8 lb pm l7 hx az km kl ap hl hp=>alb Cv H2.out HQ.out mW kE ar hG C kF an hr ai l7 hx az km kl ap hl hp;clear hG kF an hr ai))
 have m:=anD q.out j lX
 rotate_left
 have m:=anE q.out j lX
 rotate_left
 have m:=ad9 q.out j n (by omega) (by omega)
 rotate_left
 have m:=Gc q.out j n f (by omega) (by omega) (by omega)
 rotate_left
 have m:=aea q.out j lX f (by omega)
 rotate_left
 have m:=Gc q.out j n f (by omega) (by omega) (by omega)
 rotate_left
 have m:=ad9 q.out j n (by omega) (by omega)
 rotate_left
 have m:=Gc q.out j n f (by omega) (by omega) (by omega)
 rotate_left
 have m:=Gc q.out j n f (by omega) (by omega) (by omega)
 rotate_left
 have m:=aea q.out j lX f (by omega)
 rotate_left
 have m:=Gc q.out j n f (by omega) (by omega) (by omega)
 rotate_left
 have m:=Gc q.out j n f (by omega) (by omega) (by omega)
 rotate_left
 all_goals
  unfold OQ at m
  try clear yf y0 y1 y2 y3 y4 y5 y6 y7 y8 y9 av aq ax xf x0 x1 x2 x3 x4 x5 x6 x7 x8 x9 ao zX wH
  clear q a0 HS c0 c1 c2 c3 c4 mW kE x j u B C Cv
  try clear y
  try clear X
  try clear n
  try clear f
  go_wp2_with (first | (go_at_call 63;refine m.mono ?_;rintro e w9⟨rfl,Df⟩;clear m) | (go_at_call 64;refine Df.mono ?_;rintro e wE⟨ra,rc,rfl,hZ⟩;clear Df))
  refine fy (Mw rfl _ _ _) rfl ?_;exact⟨_,rfl,hZ⟩
theorem acY{s:ByteArray}{g:Lx.Gr}{S:bF}(h:ny s g S):∃st,EZ (aJ g) (lG S.es S.es.length) (ay g).length (fQ g) S.ks.length st (S.ks.length*(fQ g - (ay g).length)) (LX S.ks.length (ay g).length (fQ g)) (fun _ t=>t<(ay g).length):=by
 have b:=FJ h.fit;have j:=h.p0;have z:(aJ g)[0]?=some (aJ g)[0]:=cF j;obtain⟨⟨A,q⟩,-,-⟩:=b _ (du j);have C:=h.fit.xE;have D:=h.fit.Cg;have n:0<(ay g).length:=by
  obtain⟨R,e⟩:=Ir jX (lM g++g.rules.flatMap fun r=>tH 9 r.alts) [];unfold ay;rw[e,ev];exact Nat.succ_pos _
 have u:fQ g - (ay g).length<=2002:=by unfold fQ;omega
 have o:∀a,lG S.es S.es.length a<S.ks.length:=fun a=>TQ h.k0 (fun e v=>(h.es e v).2.2.2) a _
 have f:J6 (fQ g) (aJ g):=fun p d=>⟨(b p d).1.2,(b p d).2.2⟩
 refine⟨(aJ g)[0].left,h.k0,h.kl,o,f,j,h.pl,fun p d=>(b p d).2.1,n,by omega,fun s B=>B.1,de (pH h.kl u) (by decide),by rw[z];rfl,?_⟩;rintro c l x i m k;have y:EY c S.ks.length:=⟨h.k0,fun a=>by rw[x];exact o a,by rw[l];exact j,by rw[l,m];exact f,fun p d=>by rw[l]at d;rw[i];exact(b p d).1.1,by rw[i];exact k,by rw[i];exact n⟩;have:=y.G (st:=(aJ g)[0].left) (by rw[i,m];exact⟨A,q⟩);rw[i,m]at this;exact this
structure zq(g:Lx.Gr)(S:bF)(A:Tb.CH):Prop where
 len:A.length=S.ks.length
 row:∀l∈A,l.length<=(aJ g).length/\∀x∈l,x.1<(aJ g).length/\x.2.length<=1000000/\∀t∈x.2,t<(ay g).length
def Xo(s:ByteArray)(W:World)(e:Ending)(w:World):Prop:=Below W.heap.size W w/\((∃n a:Nat,lK s=.error (n,a)/\n≠0/\e=.returned (.tuple #[.slice none 0 0,.int .i64 (n:Int),.int .i64 (a:Int)]))\/∃g S v A,ny s g S/\zq g S A/\e=.returned (.tuple #[v,.int .i64 0,.int .i64 0])/\qL w v A)
theorem look_ok{W:World}{s:ByteArray}{g:Lx.Gr}{S:bF}(h:ny s g S)(B:∀W',Below W.heap.size W W'->dM W')(j:∀W',Below W.heap.size W W'->TabAt 2 Lib.deBruijn64tab W'):Calls prog 36 #[.string s] W (Xo s W):=by
 obtain⟨st,z⟩:=acY h;refine(ZQ h z B j).mono ?_;rintro e w⟨v,rfl,c,Q,K,ss,y,H,I,F,-,-,-,d,q,m,C⟩;have G:=h.fit.xE;refine⟨C,.inr ⟨g,S,v,_,h,⟨by rw[dk,pD],fun l E=>?_⟩,rfl,m⟩⟩;obtain⟨i,-,rfl⟩:=ee.1 E;have r:=acW (nw:=c.nw) (nP:=1000000) (nT:=(ay g).length) (K:=K) (ss:=ss) (i:=i) (fun n k=>?_) d.len.symm c.P.length
 ·rw[y]at r|-
  exact⟨Sy ..,r⟩
 ·have b:c.nw<=1000:=by
   unfold aZ.nw Lx.nW;omega
  refine⟨de (Tp (q n k).2 _) (de (jj 64 b) (by decide)),fun t D=>?_⟩;have h1:=acV (q n k).2 _ t D;obtain⟨p,o,rfl⟩:=pN.1 k;have f:p<K.length:=by rw[<-d.len];exact o
  have u:ss.getD p []=ss[p]:=by rw[ej,cF o];rfl
  rw[<-u]at h1;obtain⟨i,⟨A,x,a,-,-⟩,h2⟩:=(d.has p K[p] t (cF f)).1 h1;exact(F.snd i A a).2 t h2
theorem Lx.Tt{s:ByteArray}{n a:Nat}(h:lK s=.error (n,a)):n≠0:=by
 unfold lK at h
 split at h
 ·rename_i x b
  cases h;exact Nat.pos_iff_ne_zero.1 (by have:=SY b;omega)
 ·split at h
  ·cases h
   decide
  ·cases h
theorem alc{W:World}{s:ByteArray}{n a:Nat}(k:s.size<=maxLen)(h:lK s=.error (n,a))(i:dM W):Calls prog 36 #[.string s] W (Xo s W):=by
 have f:=Tt h;have g:Calls prog 37 #[.string s] W fun e b=>e=.returned (.tuple #[.slice none 0 0,.slice none 0 0,.int .i64 (n:Int),.int .i64 (a:Int)])/\Below W.heap.size W b:=(YV s W k i).mono (by
  obtain⟨-,h2⟩:=NR h;rintro e b⟨o,p,rfl,c,-,j⟩;rw[h2]at j|-;obtain⟨rfl,rfl⟩:=j f;exact⟨rfl,c⟩)
 have m:((n:Int) != 0)=true:=by simp;omega
 have l:Hid (∀b,Below W.heap.size W b->Xo s W (.returned (.tuple #[.slice none 0 0,.int .i64 (n:Int),.int .i64 (a:Int)])) b):=fun b c=>⟨c,.inl ⟨n,a,h,f,rfl⟩⟩
 clear h f i k;go_enter func36,ntmps36
 go_wp2_with (go_at_call 37;refine g.mono ?_;rintro e w1⟨rfl,d⟩;clear g)
 refine fy (Mw rfl _ _ _) rfl ?_;exact l.out _ d
namespace Tb
theorem RZ{α:Type}{R:List (List α)}{i k:Nat}{y:α}{p:α->Prop}(c:p y)(h:∀r∈R,∀x∈r,p x):∀r∈setAt R i k y,∀x∈r,p x:=by
 unfold setAt
 split
 ·rename_i d hr0
  intro r b x a;rcases mw b with b|rfl
  ·exact h r b x a
  ·rcases mw a with a | rfl
   ·exact h _ (cJ hr0) x a
   ·exact c
 ·exact h
def mU(N n nS nP:Nat)(C:CH):Prop:=C.length=N/\(∀r∈C,r.length=n)/\∀r∈C,∀x∈r,x.1<nS/\∀p∈x.2,p<nP
section
variable{N n nS nP:Nat}{C:CH}
theorem mU.at(h:mU N n nS nP C){i t:Nat}{x:Nat×List Nat}(hx:at2 C i t=some x):x.1<nS/\∀p∈x.2,p<nP:=by
 obtain⟨r,hr,hx⟩:=Dz hx;exact h.2.2 r (cJ hr) x (cJ hx)
theorem mU.Cq(h:mU N n nS nP C){i t p:Nat}(c:p<nP):mU N n nS nP (Cq C i t p):=by
 unfold Tb.Cq
 split
 ·rename_i x b
  obtain⟨h1,h2⟩:=h.at b;exact⟨RP.trans h.1,IU h.2.1,RZ ⟨h1,fun q a=>by
   rw[cY,cN]at a;rcases a with a|rfl
   ·exact h2 q a
   ·exact c⟩ h.2.2⟩
 ·exact h
theorem mU.Cr(h:mU N n nS nP C){i t s:Nat}(b:s<nS):mU N n nS nP (Cr C i t s):=by
 unfold Tb.Cr
 split
 ·rename_i x a
  exact⟨RP.trans h.1,IU h.2.1,RZ ⟨b,(h.at a).2⟩ h.2.2⟩
 ·exact h
theorem mU.oH(h:mU N n nS nP C){i p:Nat}(a:p<nP)(ts:List Nat):∀k,mU N n nS nP (oH C i p ts k)
 |0=>h
 |k+1=>by
  unfold Tb.oH
  split
  ·exact(h.oH a ts k).Cq a
  ·exact h.oH a ts k
theorem mU.oI(h:mU N n nS nP C){i:Nat}{l:List (Nat×List Nat)}(a:∀x∈l,x.1<nP):∀k,mU N n nS nP (oI C i l k)
 |0=>h
 |k+1=>by
  unfold Tb.oI
  split
  ·rename_i x hx
   exact(h.oI a k).oH (a x (cJ hx)) _ _
  ·exact h.oI a k
theorem adH{A:CH}(d:∀l∈A,∀x∈l,x.1<nP)(b:0<nS):∀j,j<=A.length->mU j n nS nP (qM A n j)
 |0,_=>⟨rfl,fun r h=>(by cases h),fun r h=>(by cases h)⟩
 |j+1,hj=>by
  have ih:=adH d b j (by omega);unfold Tb.qM;rw[cF (show j<A.length by omega)];simp only;refine mU.oI ⟨by rw[cH,ih.1];rfl,fun r a=>?_,fun r a x c=>?_⟩ (d _ (du _)) _
  ·rw[cY,cN]at a
   rcases a with a|rfl
   ·exact ih.2.1 r a
   ·exact ik ..
  ·rw[cY,cN]at a
   rcases a with a|rfl
   ·exact ih.2.2 r a x c
   ·rw[iu c]
    exact⟨b,fun p f=>by cases f⟩
theorem mU.nY(h:mU N n nS nP C){es:List (Nat×Nat×Nat)}(a:∀e∈es,e.2.2<nS):∀k,mU N n nS nP (nY C es n k)
 |0=>h
 |k+1=>by
  unfold Tb.nY
  split
  ·rename_i e hx
   split
   ·exact(h.nY a k).Cr (a e (cJ hx))
   ·exact h.nY a k
  ·exact h.nY a k
theorem Rp{A:CH}{es:List (Nat×Nat×Nat)}(c:∀l∈A,∀x∈l,x.1<nP)(a:0<nS)(b:∀e∈es,e.2.2<nS):mU A.length n nS nP (choices A es n):=(adH c a _ (zL0)).nY b _
theorem anb{s:Nat}{b:List Nat}{y:Nat×Nat}(h:can s b y)(a:s<nS)(f:∀p∈b,p<nP)(i:nS<=4096)(g:nP<=4096):y.1<=4/\(y.1=2->y.2<nP)/\y.2<4096:=by
 have key:y=(0,0)\/y=(1,s)\/y=(3,0)\/y=(4,0)\/∃p∈b,y=(2,p):=by
  rcases h with h|⟨-,p,d,rfl,h|h|h⟩
  ·cases b with
   |nil=>
    have e:y=if s=0 then (0,0) else (1,s):=h
    by_cases a:s=0
    ·rw[dj a]at e
     exact .inl e
    ·rw[dt a]at e
     exact .inr (.inl e)
   |cons p d=>
    have e:y=if p=0 then (3,0) else if s=0 then (2,p) else (1,s):=h
    by_cases hq:p=0
    ·rw[dj hq]at e
     exact .inr (.inr (.inl e))
    ·rw[dt hq]at e
     by_cases a:s=0
     ·rw[dj a]at e
      exact .inr (.inr (.inr (.inr ⟨p,ed,e⟩)))
     ·rw[dt a]at e
      exact .inr (.inl e)
  ·exact .inr (.inl h)
  ·exact .inr (.inr (.inr (.inr ⟨p,ed,h⟩)))
  ·exact .inr (.inr (.inr (.inl h)))
 rcases key with rfl|rfl|rfl|rfl|⟨p,c,rfl⟩
 ·exact⟨by decide,fun h=>absurd h (by decide),by decide⟩
 ·exact⟨by show 1<=4;decide,fun h=>absurd h (by show ¬1=2;decide),by show s<4096;omega⟩
 ·exact⟨by decide,fun h=>absurd h (by decide),by decide⟩
 ·exact⟨by decide,fun h=>absurd h (by decide),by decide⟩
 ·have:=f p c
  exact⟨by show 2<=4;decide,fun _=>this,by show p<4096;omega⟩
def aoX(n nP:Nat)(cs:List (List (Nat×Nat))):Prop:=∀r∈cs,r.length=n/\∀x∈r,x.1<=4/\(x.1=2->x.2<nP)/\x.2<4096
theorem amD{cs:List (List (Nat×Nat))}(d:mU N n nS nP C)(h:vJ n C cs)(q:cs.length=C.length)(l:nS<=4096)(j:nP<=4096):aoX n nP cs:=fun r f=>by
 obtain⟨i,c⟩:=eS.1 f;have g:=(cG.1 c).1;have a:C[i]?=some C[i]:=cF (by omega);obtain⟨h1,h2⟩:=h i _ r a c;refine⟨h1,fun x p=>?_⟩;obtain⟨k,b⟩:=eS.1 p;have o:=(cG.1 b).1;have m:=d.2.1 _ (du (show i<C.length by omega));have hck:C[i][k]?=some C[i][k]:=cF (by omega);have h3:=d.2.2 _ (du (show i<C.length by omega)) _ (cJ hck);exact anb (h2 k _ x hck b) h3.1 h3.2 l j
theorem ajA{cs:List (List (Nat×Nat))}(g:∀r∈C,r.length=n)(h:vJ n C cs)(j:cs.length=C.length)(c:∀r∈C,∀x∈r,lone x=true):cs=C.map (List.map nQ):=by
 refine oy fun i=>?_
 rw[di]
 by_cases hi:i<C.length
 ·have a:C[i]?=some C[i]:=cF hi
  have b:cs[i]?=some cs[i]:=cF (by omega);obtain⟨h1,h2⟩:=h i _ _ a b;have f:=g _ (du hi);rw[a,b];show some cs[i]=some (C[i].map nQ);refine fb some (oy fun k=>?_);rw[di]
  by_cases hk:k<n
  ·have e1:C[i][k]?=some C[i][k]:=cF (by omega)
   have d:cs[i][k]?=some cs[i][k]:=cF (by omega);rw[e1,d];rcases h2 k _ _ e1 d with h|⟨h,-⟩
   ·exact fb some h
   ·rw[show (C[i][k].1,C[i][k].2)=C[i][k] from rfl,c _ (du hi) _ (cJ e1)]at h
    cases h
  ·rw[ju (by omega),ju (by omega)]
   rfl
 ·rw[ju (by omega),ju (by omega)]
  rfl
theorem Nl{nS nT nN:Nat}{es:List (Nat×Nat×Nat)}{m:Nat}(a:0<m)(b:∀e∈es,e.2.2<m):∀k,∀r∈gotos nS nT nN es k,∀x∈r,x<m
 |0=>fun r c x hx=>by
  unfold gotos at c;rw[iu c]at hx;rw[iu hx];exact a
 |k+1=>by
  unfold gotos
  split
  ·rename_i e hx
   split
   ·exact RZ (b e (cJ hx)) (Nl a b k)
   ·exact Nl a b k
  ·exact Nl a b k
end
end Tb
namespace Pk
theorem acZ{ak row:List (Nat×Nat×Nat)}:∀f b,vw ak row f b<=b+f
 |0,b=>zL0
 |f+1,b=>by
  unfold vw
  split
  ·omega
  ·have:=acZ (ak:=ak) (row:=row) f (b+1)
   omega
def LY(ak:List (Nat×Nat×Nat)):Prop:=∀x∈ak,x.1<=15/\x.2.1<4096
theorem amE{ak:List (Nat×Nat×Nat)}(h:LY ak){k:Nat}{x:Nat×Nat×Nat}(b:x.1<=15/\x.2.1<4096):LY (r9 ak k x):=fun y a=>by
 unfold r9 at a;rcases mw a with a|rfl
 ·rw[cY]at a
  rcases a with a|a
  ·exact h y a
  ·rw[iu a]
   exact⟨by decide,by decide⟩
 ·exact b
theorem aaU{b q M:Nat}:∀(row ak:List (Nat×Nat×Nat)),LY ak->(∀x∈row,x.1<=15/\x.2.1<4096/\x.2.2<M)->LY (jZ b q row ak)/\(jZ b q row ak).length<=max ak.length (b+M)
 | [],ak,h,_=>⟨h,by unfold jZ;omega⟩
 |x::row,ak,h,hr=>by
  obtain⟨a,d,c⟩:=hr x ed;obtain⟨h1,h2⟩:=aaU (b:=b) (q:=q) (M:=M) row (r9 ak (b+x.2.2) (x.1,x.2.1,q)) (amE h ⟨a,d⟩) fun y f=>hr y (ei _ f)
  refine⟨h1,?_⟩;rw[akk]at h2;unfold jZ;omega
theorem adI{row:List (Nat×Nat)}{u:Nat}(h:∀x∈row,x.1<=15/\x.2<4096):∀j,∀x∈jS row u j,x.1<=15/\x.2.1<4096
 |0,x,a=>by cases a
 |j+1,x,a=>by
  rw[jS,cY]at a;rcases a with a|a
  ·exact adI h j x a
  ·split at a
   ·rename_i c hc
    split at a
    ·rw[cN]at a
     rw[a];exact h c (cJ hc)
    ·cases a
   ·cases a
theorem adJ{b:List Nat}{o:Nat}(h:∀x∈b,x<4096):∀j,∀x∈lq b o j,x.1<=15/\x.2.1<4096
 |0,x,a=>by cases a
 |j+1,x,a=>by
  rw[lq,cY]at a;rcases a with a|a
  ·exact adJ h j x a
  ·split at a
   ·rename_i c hc
    split at a
    ·rw[cN]at a
     rw[a];exact⟨by show 1<=15;decide,h c (cJ hc)⟩
    ·cases a
   ·cases a
theorem aeb{nP n1 n2:Nat}{cs:List (List (Nat×Nat))}{gs:List (List Nat)}(d:∀r∈cs,r.length=n1/\∀x∈r,x.1<=15/\x.2<4096)(c:∀r∈gs,r.length=n2/\∀x∈r,x<4096):∀k,LY (mk nP cs gs k).ak/\(mk nP cs gs k).ak.length<=k*(n1+n2)
 |0=>⟨fun x a=>(by cases a),ff _⟩
 |k+1=>by
  obtain⟨h1,h2⟩:=aeb (nP:=nP) d c k;have i:(cs.getD k []).length<=n1/\∀x∈cs.getD k [],x.1<=15/\x.2<4096:=by
   rw[ej];cases e:cs[k]? with
   |none=>exact⟨ff _,fun x a=>by cases a⟩
   |some r=>exact⟨yW (d r (cJ e)).1,(d r (cJ e)).2⟩
  have g:(gs.getD k []).length<=n2/\∀x∈gs.getD k [],x<4096:=by
   rw[ej];cases e:gs[k]? with
   |none=>exact⟨ff _,fun x a=>by cases a⟩
   |some r=>exact⟨yW (c r (cJ e)).1,(c r (cJ e)).2⟩
  obtain⟨u,j⟩:∃u,usual (cs.getD k []) nP=u:=⟨_,rfl⟩;have e:(mk nP cs gs (k+1)).ak=jZ (fit (mk nP cs gs k).ak (told (cs.getD k []) (gs.getD k []) u)) (mk nP cs gs k).aB.length (told (cs.getD k []) (gs.getD k []) u) (mk nP cs gs k).ak:=by
   rw[<-j];rfl
  have f:=aaU (b:=fit (mk nP cs gs k).ak (told (cs.getD k []) (gs.getD k []) u)) (q:=(mk nP cs gs k).aB.length) (M:=n1+n2) (told (cs.getD k []) (gs.getD k []) u) _ h1 fun x a=>by
   have h3:=abq a;have h4:x.1<=15/\x.2.1<4096:=by
    rw[told,cY]at a;rcases a with a|a
    ·exact adI i.2 _ x a
    ·exact adJ g.2 _ x a
   exact⟨h4.1,h4.2,by have:=i.1;have:=g.1;omega⟩
  have m:fit (mk nP cs gs k).ak (told (cs.getD k []) (gs.getD k []) u)<=0+(mk nP cs gs k).ak.length:=acZ _ _;rw[e];refine⟨f.1,?_⟩;have l:=f.2;rw[mf];omega
theorem TT{M:Nat}:∀(l:List ByteArray),(∀t∈l,t.size<=M)->(wS l).length<=l.length*(1+M)
 | [],_=>ff _
 |t::l,h=>by
  have h1:=TT l fun x a=>h x (ei _ a)
  have h2:=h t ed;have e:wS (t::l)=be 1 t.size++sH t++wS l:=rfl;rw[e,cH,cH,nI,SN,ev,mf];omega
theorem adK(nT:Nat):∀l:List (Nat×Nat),(wR nT l).length=l.length*4
 | []=>rfl
 |x::l=>by
  have h1:=adK nT l;have e:wR nT (x::l)=be 2 (x.1-nT)++be 2 x.2++wR nT l:=rfl;rw[e,cH,cH,nI,nI,ev,mf];omega
theorem abN{T N:List ByteArray}{P:List (Nat×Nat)}{m:Mk}(a:∀t∈T,t.size<=3000)(b:∀t∈N,t.size<=3000)(h1:T.length<=2002)(h2:N.length<=2002)(h3:P.length<=200)(h4:m.aH.length<=300)(j:m.ak.length<=2000000):(pW T N P m).length<=100000000:=by
 have d:=TT T a;have i:=TT N b;have f:=adK T.length P;have k:=TM m m.aH.length;have l:=NW m.ak 0;have c:T.length*(1+3000)<=2002*(1+3000):=jj _ h1;have g:N.length*(1+3000)<=2002*(1+3000):=jj _ h2;unfold pW lu;simp only[List.length_append,nI];omega
end Pk
namespace Lx
theorem YX:∀(bs l:List ByteArray)(c:ByteArray),c∈fZ l bs->c∈l\/c∈bs
 | [],l,c,h=>.inl h
 |b::bs,l,c,h=>by
  rcases YX bs (jJ l b) c h with h|h
  ·unfold jJ at h
   split at h
   ·exact .inl h
   ·rw[cY,cN]at h
    rcases h with h|rfl
    ·exact .inl h
    ·exact .inr ed
  ·exact .inr (ei _ h)
theorem Fit.afi{g:Gr}(h:Fit g):∀t∈ay g,t.size<=3000:=fun t a=>by
 rcases YX _ _ _ a with a|a
 ·rw[cN]at a
  rw[a];decide
 ·have:isToken t=true:=by
   rw[cY]at a;rcases a with a|a
   ·obtain⟨wd,b,rfl⟩:=ee.1 a
    obtain⟨lv,f,b⟩:=fW.1 b;obtain⟨t,c,rfl⟩:=ee.1 b;exact h.lv lv f t c
   ·obtain⟨r,d,a⟩:=fW.1 a
    obtain⟨x,i,rfl⟩:=ee.1 a;obtain⟨h1,h2⟩:=hU.1 i;simp only[decide_eq_true_eq]at h2;rcases (h.rl r d).2.1 x h1 with k|k|k
    ·omega
    ·exact k.2.1
    ·omega
  have:=Zv this;omega
theorem Fit.afj{g:Gr}(h:Fit g):∀t∈aS g,t.size<=3000:=fun t a=>by
 unfold aS at a;rw[eC]at a;rcases a with rfl|a
 ·decide
 ·obtain⟨r,b,a⟩:=fW.1 a
  have h1:=RA (h.rl r b).1;unfold jQ at a;rw[eC]at a;rcases a with rfl|a
  ·omega
  ·obtain⟨k,c,rfl⟩:=ee.1 a
   have h2:=aar (k+1);have h3:=h.Uq b;rw[pM]at c;unfold hName;rw[rK,rK];have h4:TY.size=1:=rfl;omega
theorem Yq:∀(f:Nat)(ts:List Tk)(a x:List Lv)(ts':List Tk),jO f ts a=.ok (x,ts')->(∀l∈a,l.kind<3)->∀l∈x,l.kind<3
 |0,ts,a,x,ts',h,ha=>by cases h;exact ha
 |f+1,ts,a,x,ts',h,ha=>by
  unfold jO at h
  split at h
  ·split at h
   ·cases h
   ·rename_i z d b
    refine Yq f d _ x ts' h fun l c=>?_
    rcases cY.1 c with c|c
    ·exact ha l c
    ·rw[cN.1 c]
     unfold jY at b
     split at b
     ·cases b
     ·split at b
      ·cases b
      ·cases b
       show (iL (hd ts)).toNat<3;unfold iL
       split
       ·decide
       ·split
        ·decide
        ·split <;> decide
  ·cases h
   exact ha
theorem aij{s:ByteArray}{g:Gr}(h:parse s=.ok g):∀l∈g.levels,l.kind<3:=by
 unfold parse at h
 split at h
 ·cases h
 ·split at h
  ·cases h
  ·rename_i f b a
   cases h;unfold iZ at a
   split at a
   ·cases a
   ·rename_i c d h1
    split at a
    ·cases a
    ·split at a
     ·cases a
     ·cases a
      exact Yq _ _ _ _ _ h1 (fun _ h=>by cases h)
theorem ac0(t:ByteArray):∀(ls:List Lv)(i:Nat)(r:Nat×Nat),(∀l∈ls,l.kind<3)->r.2<3->(bk t i ls r).2<3
 | [],i,r,_,hr=>hr
 |l::ls,i,r,h,hr=>by
  unfold bk;refine ac0 t ls (i+1) _ (fun l a=>h l (ei _ a)) ?_
  split
  ·exact h l ed
  ·exact hr
end Lx
theorem ny.kinds{s:ByteArray}{g:Lx.Gr}{S:bF}(h:ny s g S):∀k∈(ay g).map fun t=>(qZ g t).2,k<3:=fun k a=>by
 obtain⟨t,-,rfl⟩:=ee.1 a;exact ac0 t _ _ _ (aij (NQ h.gr).1) (by decide)
theorem ny.prec{s:ByteArray}{g:Lx.Gr}{S:bF}(h:ny s g S):∀p∈aJ g,p.prec<((ay g).length:Int):=fun p a=>(aaM h.fit p a).2.2.2.1
def uJ(g:Lx.Gr):List Nat:=(ay g).map fun t=>(qZ g t).1
def uK(g:Lx.Gr):List Nat:=(ay g).map fun t=>(qZ g t).2
def Xp(W:World)(g:Lx.Gr)(S:bF)(Q:Tb.CH->Prop)(e:Ending)(w:World):Prop:=∃v A,e=.returned (.tuple #[v,.int .i64 0,.int .i64 0])/\zq g S A/\Q A/\qL w v A/\Below W.heap.size W w
def Xq(W:World)(g:Lx.Gr)(S:bF)(Q:Tb.CH->Prop)(e:Ending)(w':World):Prop:=∃(vc vg:Value)(ca:Option Addr)(nC cc st:Nat)(A:Tb.CH)(C:List (List (Nat×Nat))),e=.returned (.tuple #[vc,vg,.slice ca nC cc,.int .i64 (st:Int),.int .i64 0,.int .i64 0])/\zq g S A/\Q A/\EF w' vc C/\yw w' vg (Tb.gotos S.ks.length (ay g).length (aS g).length S.es S.es.length)/\C.length=S.ks.length/\vJ (ay g).length (Tb.choices A S.es (ay g).length) C/\((∀r∈Tb.choices A S.es (ay g).length,∀x∈r,Tb.lone x=true)->nC=0)/\Below W.heap.size W w'
theorem ald{s:ByteArray}{g:Lx.Gr}{S:bF}(h:ny s g S){W1:World}(j:dM W1):Calls prog 21 #[.string s] W1 fun e w'=>∃(ta na ba ka:Option Addr)(tc nc gP pc bc kc:Nat),e=.returned (.tuple #[.agg #[.slice ta (ay g).length tc,.slice na (aS g).length nc,.slice (some ⟨gP,0,none⟩) (aJ g).length pc,.slice ba (uJ g).length bc,.slice ka (uK g).length kc],.int .i64 0,.int .i64 0])/\Below W1.heap.size W1 w'/\mX w' (fun k=>k<w'.heap.size) gP (aJ g)/\bQ w' (.slice ba (uJ g).length bc) (uJ g)/\bQ w' (.slice ka (uK g).length kc) (uK g):=by
 refine(Nh s W1 h.size j).mono ?_;rintro e w'⟨v,n,a,rfl,c,b,-⟩;obtain⟨rfl,rfl,m⟩:=b g h.gr;obtain⟨q,p,t,u,x,rfl,o,l,i,d,f,-⟩:=m;obtain⟨ta,tc,rfl,-⟩:=aC o;obtain⟨na,nc,rfl,-⟩:=aC l;obtain⟨ba,bc,rfl,-⟩:=aC d;obtain⟨ka,kc,rfl,-⟩:=aC f;obtain⟨r,pc,rfl,-⟩:=zD.of i;obtain⟨gP,rfl,hd⟩:=PP.pdc i h.p0;exact⟨ta,na,ba,ka,tc,nc,gP,pc,bc,kc,rfl,c,hd,bQ.own (B:=0) d,bQ.own (B:=0) f⟩
theorem iD.bel{a:Nat}{w w':World}(h:iD a (.slice none 0 0) w w')(hd:a<=w.heap.size):Below a w w':=⟨h.os,h.tape,h.output,h.size,fun k b=>h.block k (by omega) (by omega) (fun e=>by cases e)⟩
theorem aaV{W:World}{s:ByteArray}{g:Lx.Gr}{S:bF}{Q:Tb.CH->Prop}(h:ny s g S)(hO:mD W)(h1:1<W.heap.size)(iB:∀W',Below W.heap.size W W'->dM W')(Bu:Calls prog 36 #[.string s] W (Xp W g S Q)):Calls prog 20 #[.string s] W (Xq W g S Q):=by
 have HM:=fun D(N:Below W.heap.size W D)=>ald h (iB D N)
 have HS:=fun D(N:Below W.heap.size W D)=>acX h (iB D N)
 have t1:=h.fit.xE;have t2:=h.fit.Cg;have k1:=h.kl;have Xr:Hid (∀(q:World)(va ve:Value)(A:Tb.CH),qL q va A->zq g S A->lZ q ve S.es->Calls prog 39 #[va,ve,.int .i64 ((ay g).length:Int)] q (WN q (Tb.choices A S.es (ay g).length))):=fun q va ve A hA L hE=>afM hA hE (by rw[L.len];omega) (by omega) (fun l X=>⟨by have:=(L.row l X).1;have:=h.pl;omega,fun x hx=>((L.row l X).2 x hx).2⟩) (by have:=h.el;omega) (fun e U=>by rw[L.len];exact(h.es e U).1)
 have ak:Hid (∀(p:World)(db:Nat)(v0 v1 vc:Value)(A:Tb.CH),zq g S A->jV p (db+1) db (aJ g) (uJ g) (uK g) v0 v1 (.slice none 0 0) 0 0->mD p->LB (db+1) p.heap.size p vc (Tb.choices A S.es (ay g).length)->1<db->Calls prog 38 #[.pointer (some ⟨db,0,none⟩),vc] p fun e T=>Qv p db (aJ g) (uJ g) (uK g) v0 v1 (ay g).length (Tb.choices A S.es (ay g).length) e T):=fun p db v0 v1 vc A L hD hO hc h1=>by
  have hC:=Tb.Rp (n:=(ay g).length) (nS:=S.ks.length) (nP:=(aJ g).length) (A:=A) (es:=S.es) (fun l X x hx=>((L.row l X).2 x hx).1) h.k0 (fun e U=>(h.es e U).2.2.2);have X:(uJ g).length=(ay g).length:=dk _;have a5:(uK g).length=(ay g).length:=dk _;have ar:=hC.1;rw[L.len]at ar;refine ajy hD hO hc hC.2.1 (fun r hr x hx=>(hC.2.2 r hr x hx).2) (by rw[X];exact h.prec) X (by rw[X,a5]) h.kinds (by omega) (by omega) ?_ h1;rw[ar];exact de (pH k1 t1) (by decide)
 have Xt:Hid (∀(H:World)(ve vP vB vK:Value)(j m:Option Addr)(i o:Nat),lZ H ve S.es->Calls prog 40 #[.int .i64 (S.ks.length:Int),ve,.agg #[.slice j (ay g).length i,.slice m (aS g).length o,vP,vB,vK]] H (Wq H (Tb.gotos S.ks.length (ay g).length (aS g).length S.es S.es.length))):=fun H ve vP vB vK j m i o U=>agX U (by omega) (by omega) (by have:=h.el;omega) (fun e U=>⟨(h.es e U).1,(h.es e U).2.1⟩)
 have HK:Hid (∀A,zq g S A->A.length=S.ks.length/\(Tb.choices A S.es (ay g).length).length=S.ks.length):=fun A L=>⟨L.len,by
  have hC:=Tb.Rp (n:=(ay g).length) (nS:=S.ks.length) (nP:=(aJ g).length) (A:=A) (es:=S.es) (fun l X x hx=>((L.row l X).2 x hx).1) h.k0 (fun e U=>(h.es e U).2.2.2);rw[hC.1,L.len]⟩
 have HH:Hid (mD W/\1<W.heap.size):=⟨hO,h1⟩;obtain⟨f,sJ⟩:∃n,(ay g).length=n:=⟨_,rfl⟩;obtain⟨G,QA⟩:∃n,(aS g).length=n:=⟨_,rfl⟩;obtain⟨nP,Xu⟩:∃n,(aJ g).length=n:=⟨_,rfl⟩;obtain⟨J,Xv⟩:∃n,(uJ g).length=n:=⟨_,rfl⟩;obtain⟨K,Xw⟩:∃n,(uK g).length=n:=⟨_,rfl⟩;obtain⟨nE,Db⟩:∃n,S.es.length=n:=⟨_,rfl⟩;obtain⟨nS,QB⟩:∃n,S.ks.length=n:=⟨_,rfl⟩;have y:Hid ((ay g).length=f/\(aS g).length=G/\(aJ g).length=nP/\(uJ g).length=J/\(uK g).length=K/\S.es.length=nE/\S.ks.length=nS):=⟨sJ,QA,Xu,Xv,Xw,Db,QB⟩;have a3:Hid (∀D,Below W.heap.size W D->Calls prog 21 #[.string s] D fun e T=>∃(j m F u:Option Addr)(i o z M B t:Nat),e=.returned (.tuple #[.agg #[.slice j f i,.slice m G o,.slice (some ⟨z,0,none⟩) nP M,.slice F J B,.slice u K t],.int .i64 0,.int .i64 0])/\Below D.heap.size D T/\mX T (fun k=>k<T.heap.size) z (aJ g)/\bQ T (.slice F J B) (uJ g)/\bQ T (.slice u K t) (uK g)):=by
  rw[<-sJ,<-QA,<-Xu,<-Xv,<-Xw];exact HM
 have a1:Hid (∀D,Below W.heap.size W D->Calls prog 37 #[.string s] D fun e T=>∃la lc ea ec,e=.returned (.tuple #[.slice la nS lc,.slice ea nE ec,.int .i64 0,.int .i64 0])/\Below D.heap.size D T/\lZ T (.slice ea nE ec) S.es):=by
  rw[<-QB,<-Db];exact HS
 rw[sJ]at Xr;rw[QB,sJ,QA]at Xt;clear HM HS h iB hO h1 sJ QA Xu Xv Xw Db QB t1 t2 k1;go_enter func20,ntmps20;go_upto_region 4 with (go_at_call 36;refine Bu.mono ?_;rintro e w1⟨va,A,rfl,ag,hQ,hA,ab⟩;obtain⟨aa,ac,a7,aw⟩:=hA;subst a7;have hA:qL w1 (.slice aa A.length ac) A:=⟨aa,ac,rfl,aw⟩;clear aw)
 have HA:Hid (zq g S A/\Q A):=⟨ag,hQ⟩;have ai:=(HK.out A ag).1;rw[y.out.2.2.2.2.2.2]at ai;rw[ai]at hA|-;have Dk:=a3.out w1 ab;clear Bu a3 ag hQ ai;go_upto_region 5 with (go_at_call 21;refine Dk.mono ?_;rintro e w2⟨j,m,F,u,i,o,z,M,B,t,rfl,qD,Dg,O,R⟩)
 have af:Below W.heap.size W w2:=ab.trans (qD.mono ab.size);obtain⟨a,Vh⟩:∃b,w2.heap.size=b:=⟨_,rfl⟩;obtain⟨w3,ad⟩:∃V,V=w2.alloc (.cells #[.slice j f i,.slice m G o,.slice (some ⟨z,0,none⟩) nP M,.slice F J B,.slice u K t] 56):=⟨_,rfl⟩;have k3:aj w3 a #[.slice j f i,.slice m G o,.slice (some ⟨z,0,none⟩) nP M,.slice F J B,.slice u K t] 56:=by rw[ad,<-Vh];exact aj.new ..
 have zo:Below w2.heap.size w2 w3:=by rw[ad];exact(cV _ _).alloc (zL0) _
 have sj:Below W.heap.size W w3:=af.trans (zo.mono af.size);have aq:qL w3 (.slice aa nS ac) A:=(hA.keep qD).keep zo;have H3:Hid (∀c,Below w3.heap.size w3 c->mX c (fun k=>k<c.heap.size) z (aJ g)/\bQ c (.slice F J B) (uJ g)/\bQ c (.slice u K t) (uK g)):=fun c N=>by
  have OT:Below w2.heap.size w2 c:=zo.trans (N.mono zo.size);exact⟨(Dg.move fun b a8=>OT.block b a8).imp fun k L=>dd L OT.size,O.keep OT,R.keep OT⟩
 rw[<-ad];have Dj:=a1.out w3 sj;rw[Vh];clear ad Vh Dk qD zo af ab hA a1 Dg O R;go_upto_region 6 with (go_at_call 37;refine Dj.mono ?_;rintro e c⟨la,lc,ea,ec,rfl,P,hE⟩)
 have xP:=sj.trans (P.mono sj.size);have a2:=aq.keep P;obtain⟨Dg,O,R⟩:=H3.out c P;have Y:aj c a #[.slice j f i,.slice m G o,.slice (some ⟨z,0,none⟩) nP M,.slice F J B,.slice u K t] 56:=(P.block _ k3.lt).trans k3;clear Dj P k3 sj aq H3;have c0:c.cell? ⟨a,0,none⟩=some (.slice j f i):=Y.cell 0;have c1:c.cell? ⟨a,1,none⟩=some (.slice m G o):=Y.cell 1;have c2:c.cell? ⟨a,2,none⟩=some (.slice (some ⟨z,0,none⟩) nP M):=Y.cell 2;have c3:c.cell? ⟨a,3,none⟩=some (.slice F J B):=Y.cell 3;have c4:c.cell? ⟨a,4,none⟩=some (.slice u K t):=Y.cell 4;obtain⟨d,Gp⟩:∃b,c.heap.size=b:=⟨_,rfl⟩;obtain⟨q,fI⟩:∃V,V=c.alloc (.cells #[.slice j f i,.slice m G o,.slice (some ⟨z,0,none⟩) nP M,.slice F J B,.slice u K t,.slice none 0 0,.int .i64 0] 97):=⟨_,rfl⟩;have Z:Hid (q.heap.size=d+1):=by
  show _=_;rw[fI,fd,Gp]
 have Ei:Below c.heap.size c q:=by rw[fI];exact(cV _ _).alloc (zL0) _
 have Cv:=xP.trans (Ei.mono xP.size);have D5:Hid (jV q (d+1) d (aJ g) (uJ g) (uK g) (.slice j f i) (.slice m G o) (.slice none 0 0) 0 0):=by
  refine⟨⟨c,z,M,F,B,u,t,Gp,by rw[<-Gp];exact Ei,?_,Dg,?_,?_⟩,⟨[],eQ _ _ _ _⟩,by rw[Z.out];exact zL0,rL _⟩
  ·rw[y.out.2.2.1,y.out.2.2.2.1,y.out.2.2.2.2.1,fI,<-Gp]
   exact aj.new ..
  ·rw[y.out.2.2.2.1]
   exact O
  ·rw[y.out.2.2.2.2.1]
   exact R
 have ao:aj q a #[.slice j f i,.slice m G o,.slice (some ⟨z,0,none⟩) nP M,.slice F J B,.slice u K t] 56:=(Ei.block _ Y.lt).trans Y;have Kw:=a2.keep Ei;have nR:=hE.keep Ei;have Xx:Hid (c.heap.size=d/\Below c.heap.size c q):=⟨Gp,Ei⟩;go_upto_region 7 with fail
 rw[<-fI];clear fI Gp c0 c1 c2 c3 c4 Ei a2 Dg O R;have c0:q.cell? ⟨a,0,none⟩=some (.slice j f i):=ao.cell 0;have az:=Xr.out q _ _ A Kw HA.out.1 nR;have H6:Hid (∀p Ii,Below q.heap.size q p->LB q.heap.size p.heap.size p Ii (Tb.choices A S.es f)->Calls prog 38 #[.pointer (some ⟨d,0,none⟩),Ii] p (Qv p d (aJ g) (uJ g) (uK g) (.slice j f i) (.slice m G o) f (Tb.choices A S.es f))):=fun p Ii E hc=>by
  have a6:=Cv.trans (E.mono Cv.size);have h2:=HH.out.2;have h3:=xP.size;have h4:=Xx.out.1;have:=ak.out p d (.slice j f i) (.slice m G o) Ii A HA.out.1 (D5.out.keep E) (HH.out.1.keep a6) (by rw[<-Z.out,y.out.1];exact hc) (by omega);rw[y.out.1]at this;exact this
 go_upto_region 8 with (first
  | (go_at_call 39;refine az.mono ?_;rintro e p⟨Ii,rfl,-,E,ap⟩;have an:=H6.out p Ii E ap;clear az)
  | (go_at_call 38;refine an.mono ?_;rintro e I⟨vc,C,vC,nC,st,rfl,al,ax,ae,ah,am,av⟩))
 have OU:Below c.heap.size c I:=by
  have h4:=Xx.out;have h5:=E.size;have h6:=Z.out;refine(h4.2.trans (E.mono (by omega))).trans ?_;rw[h4.1];exact av.bel (by omega)
 have Vi:=xP.trans (OU.mono xP.size);have Ij:aj I a #[.slice j f i,.slice m G o,.slice (some ⟨z,0,none⟩) nP M,.slice F J B,.slice u K t] 56:=(OU.block _ Y.lt).trans Y;have a4:=hE.keep OU;obtain⟨aE,sG⟩:=ah.own;obtain⟨ca,cc,Xl,-⟩:=aC sG;subst Xl;obtain⟨aF,a9,aA,aH,aG,aI,Xy,-⟩:=ah.r.ex;clear an H6 ap E c0 Kw nR ao Cv ak Xr D5 Z Xx av sG hE Y xP;have d0:I.cell? ⟨a,0,none⟩=some (.slice j f i):=Ij.cell 0;have d1:I.cell? ⟨a,1,none⟩=some (.slice m G o):=Ij.cell 1;have d2:I.cell? ⟨a,2,none⟩=some (.slice (some ⟨z,0,none⟩) nP M):=Ij.cell 2;have d3:I.cell? ⟨a,3,none⟩=some (.slice F J B):=Ij.cell 3;have d4:I.cell? ⟨a,4,none⟩=some (.slice u K t):=Ij.cell 4;have e5:I.cell? ⟨d,5,none⟩=some (.slice ca nC cc):=Xy.cell 5;have e6:I.cell? ⟨d,6,none⟩=some (.int .i64 (st:Int)):=Xy.cell 6;have a0:=Xt.out I.drew (.slice ea nE ec) (.slice (some ⟨z,0,none⟩) nP M) (.slice F J B) (.slice u K t) j m i o (a4.keep ⟨rfl,rfl,rfl,zL0,fun _ _=>rfl⟩);have HF:Hid (∀vg H,yw H vg (Tb.gotos nS f G S.es S.es.length)->Below I.drew.heap.size I.drew H->H.cell? ⟨d,5,none⟩=some (.slice ca nC cc)/\H.cell? ⟨d,6,none⟩=some (.int .i64 (st:Int))/\Xq W g S Q (.returned (.tuple #[vc,vg,.slice ca nC cc,.int .i64 (st:Int),.int .i64 0,.int .i64 0])) H):=fun vg H hg N=>by
  have OV:Below I.heap.size I H:=⟨N.1,N.2,N.3,N.4,N.5⟩;refine⟨aM OV e5,aM OV e6,vc,vg,ca,nC,cc,st,A,C,rfl,HA.out.1,HA.out.2,al.keep OV,?_,?_,?_,?_,Vi.trans (OV.mono Vi.size)⟩
  ·rw[y.out.1,y.out.2.1,y.out.2.2.2.2.2.2]
   exact hg
  ·have:=(HK.out A HA.out.1).2
   rw[y.out.1]at this;rw[ax,this]
  ·rw[y.out.1]
   exact ae
  ·rw[y.out.1]
   exact am
 clear al Vi ah Xy Ij a4 ax ae am Xt HK HA HH y OU
 go_region_law (refine jW rfl 40 #[.int .i64 (nS:Int),.slice ea nE ec,.agg #[.slice j f i,.slice m G o,.slice (some ⟨z,0,none⟩) nP M,.slice F J B,.slice u K t]] (by go_simp) a0 ?_;rintro e H⟨vg,rfl,hg,l7⟩;refine⟨_,rfl,?_⟩;obtain⟨g5,g6,HZ⟩:=HF.out vg H hg l7;clear a0 hg l7)
 all_goals
  go_wp2_with fail;exact fy (v:=.tuple #[vc,vg,.slice ca nC cc,.int .i64 (st:Int),.int .i64 0,.int .i64 0]) (by simp[results,results20,go_sem]) rfl HZ
def Fa(g:Lx.Gr)(S:bF)(C:List (List (Nat×Nat))):ByteArray:=Pk.written (ay g) (aS g) (Pk.dP (aJ g)) (Pk.mk (aJ g).length C (Tb.gotos S.ks.length (ay g).length (aS g).length S.es S.es.length) C.length)
def PmE(W:World)(g:Lx.Gr)(S:bF)(Q:Tb.CH->Prop)(e:Ending)(w':World):Prop:=∃(A:Tb.CH)(C:List (List (Nat×Nat)))(nC:Nat)(b:ByteArray)(n:Nat),zq g S A/\Q A/\C.length=S.ks.length/\vJ (ay g).length (Tb.choices A S.es (ay g).length) C/\((∀r∈Tb.choices A S.es (ay g).length,∀x∈r,Tb.lone x=true)->nC=0)/\e=.returned (.tuple #[.string b,.int .i64 (n:Int),.int .i64 0])/\b.size<=200000000/\(nC=0->n=0/\b=Fa g S C)/\Below W.heap.size W w'
theorem Pk.Yr(T N:List ByteArray)(P:List (Nat×Nat))(m:Pk.Mk):(Pk.written T N P m).size=(Pk.pW T N P m).length+4:=by
 unfold Pk.written;rw[Pk.Sz,cH,Pk.nI]
theorem ajB{W:World}{s:ByteArray}{g:Lx.Gr}{S:bF}(hS:pE W)(h0:0<W.heap.size)(h:ny s g S){A:Tb.CH}{C:List (List (Nat×Nat))}(Y:zq g S A)(q:C.length=S.ks.length)(D:vJ (ay g).length (Tb.choices A S.es (ay g).length) C){w1 w2:World}{vc vg v:Value}(B:Below W.heap.size W w1)(hc:EF w1 vc C)(Z:yw w1 vg (Tb.gotos S.ks.length (ay g).length (aS g).length S.es S.es.length))(j:Below w1.heap.size w1 w2)(X:uZ w1.heap.size w2 v (ay g) (aS g) (aJ g) (uJ g) (uK g)):∃(ta na pa ba ka:Option Addr)(nt tc nn nc np pc nb bc nk kc:Nat),v=.agg #[.slice ta nt tc,.slice na nn nc,.slice pa np pc,.slice ba nb bc,.slice ka nk kc]/\∀w3,Below w2.heap.size w2 w3->Calls prog 23 #[.agg #[.slice ta nt tc,.slice na nn nc,.slice pa np pc,.slice ba nb bc,.slice ka nk kc],vc,vg] w3 fun e w4=>∃pb,e=.returned (.pointer (some ⟨pb,0,none⟩))/\Below W.heap.size W w4/\Calls prog 22 #[.pointer (some ⟨pb,0,none⟩)] w4 fun e w5=>e=.returned (.string (Fa g S C))/\(Fa g S C).size<=200000000/\Below W.heap.size W w5:=by
 unfold Fa;have hC:=Tb.Rp (n:=(ay g).length) (nS:=S.ks.length) (nP:=(aJ g).length) (A:=A) (es:=S.es) (fun l hl x f=>((Y.row l hl).2 x f).1) h.k0 (fun e I=>(h.es e I).2.2.2);have t1:=h.fit.xE;have t2:=h.fit.Cg;have k1:=h.kl;have z:=h.pl;have d:=Tb.amD hC D (by rw[hC.1,Y.len,q]) (by omega) (by omega);have o:=Tb.Nc S.ks.length (ay g).length (aS g).length S.es S.es.length;have E:=Tb.Nl (nS:=S.ks.length) (nT:=(ay g).length) (nN:=(aS g).length) h.k0 (fun e I=>(h.es e I).2.2.2) S.es.length;obtain⟨vT,vN,vP,vB,vK,rfl,p1,p2,p3,p4,p5,-⟩:=X;obtain⟨ta,tc,rfl,-⟩:=aC p1;obtain⟨na,nc,rfl,-⟩:=aC p2;obtain⟨ba,bc,rfl,-⟩:=aC p4;obtain⟨ka,kc,rfl,-⟩:=aC p5;have sT:=zh.own p1;have sN:=zh.own p2;have H:=zD.of p3;obtain⟨pa,pc,rfl,O⟩:=H;have H:zD w2 (.slice pa (aJ g).length pc) (aJ g):=⟨pa,pc,rfl,O⟩;refine⟨ta,na,pa,ba,ka,_,tc,_,nc,_,pc,_,bc,_,kc,rfl,fun w3 a=>?_⟩;have J:=j.trans (a.mono j.size);have F:Below W.heap.size W w3:=B.trans (J.mono B.size);generalize hgd:Tb.gotos S.ks.length (ay g).length (aS g).length S.es S.es.length=G at Z o E|-;have y:=Pk.aeb (nP:=(aJ g).length) (n1:=(ay g).length) (n2:=(aS g).length) (cs:=C) (gs:=G) (fun r c=>⟨(d r c).1,fun x f=>⟨by have:=((d r c).2 x f).1;omega,((d r c).2 x f).2.2⟩⟩) (fun r c=>⟨o.2 r c,fun x f=>by have:=E r c x f;omega⟩);have i:∀k,k<=C.length->(Pk.mk (aJ g).length C G k).ak.length<=2000000:=fun k aa=>by
  have h1:=(y k).2;have h2:k*((ay g).length+(aS g).length)<=300*4004:=pH (by omega) (by omega);omega
 have hsz:(Pk.written (ay g) (aS g) (Pk.dP (aJ g)) (Pk.mk (aJ g).length C G C.length)).size<=200000000:=by
  have:=Pk.abN (P:=Pk.dP (aJ g)) (m:=Pk.mk (aJ g).length C G C.length) h.fit.afi h.fit.afj t1 t2 (by rw[Pk.dP,dk];exact z) (by rw[Pk.DN];omega) (i _ (zL0));rw[Pk.Yr];omega
 have R:=abB g;have U:0<(aS g).length:=by rw[Ni];omega
 have Q:=FJ h.fit;refine(agU (ta:=ta) (na:=na) (nT:=(ay g).length) (tc:=tc) (nN:=(aS g).length) (nc:=nc) (H.keep a) ((hc.keep j).keep a) ((Z.keep j).keep a) (by rw[q,o.1]) h.p0 (by omega) (fun r c=>⟨by rw[(d r c).1];omega,fun x f=>((d r c).2 x f).2.1⟩) (fun r c=>by rw[o.2 r c];omega) i (by omega)).mono ?_;rintro e w4⟨wx,pb,vs,rfl,M,V,t⟩;have K:Below w3.heap.size w3 w4:=M.trans (t.b.mono V);have u:Below W.heap.size W w4:=F.trans (K.mono F.size);refine⟨pb,rfl,u,(ag3 (T:=ay g) (N:=aS g) (P:=Pk.dP (aJ g)) (m:=Pk.mk (aJ g).length C G C.length) (hS.move (u.block 0 h0)) (dd h0 u.size) t.blk ((sT.keep a).keep K) ((sN.keep a).keep K) (bQ.own (t.row 0 (.inl rfl))) (lZ.own (t.row 1 (.inr (.inl rfl)))) (vY.own (t.row 4 (.inr (.inr (.inl rfl))))) (bQ.own (t.row 5 (.inr (.inr (.inr rfl))))) ⟨by rw[Pk.DN,q];exact h.k0,R,U,by rw[Pk.dP,dk];exact h.p0⟩ (by rw[Pk.DN,Pk.Tz]) (fun x f=>?_) (y _).1 ?_ (by have:=i _ (zL0);omega) ⟨by rw[Pk.DN];omega,by omega,by omega,by rw[Pk.dP,dk];omega⟩).mono ?_⟩
 ·obtain⟨p,X,rfl⟩:=ee.1 f
  have:=(Q p X).1;exact⟨this.1,by show p.left<=_;omega⟩
 ·rw[Pk.Yr]at hsz
  exact Pk.abN (P:=Pk.dP (aJ g)) (m:=Pk.mk (aJ g).length C G C.length) h.fit.afi h.fit.afj t1 t2 (by rw[Pk.dP,dk];exact z) (by rw[Pk.DN];omega) (i _ (zL0))
 ·rintro e w5⟨rfl,L⟩
  exact⟨rfl,hsz,u.trans (L.mono u.size)⟩
theorem abO{W:World}{s:ByteArray}{g:Lx.Gr}{S:bF}{Q:Tb.CH->Prop}(hS:pE W)(h0:0<W.heap.size)(h:ny s g S)(iB:∀W',Below W.heap.size W W'->dM W')(L6:Calls prog 20 #[.string s] W (Xq W g S Q)):Calls prog 8 #[.string s] W (PmE W g S Q):=by
 have V:Hid (∀j,Below W.heap.size W j->Calls prog 21 #[.string s] j (DZ s j)):=fun j U=>Nh s j h.size (iB j U)
 have y:Hid (pE W/\0<W.heap.size/\ny s g S):=⟨hS,h0,h⟩;have HG:Hid (eY s=.ok g):=h.gr;clear h hS h0 iB;go_enter func8,ntmps8;go_upto_region 4 with (go_at_call 20;refine L6.mono ?_;rintro e w1⟨vc,vg,ca,k,cc,st,A,C,rfl,z,hQ,D,B,i,c,r,f⟩)
 have L:Hid (∀b n p,Below W.heap.size W p->b.size<=200000000->(k=0->n=0/\b=Fa g S C)->PmE W g S Q (.returned (.tuple #[.string b,.int .i64 ((n:Nat):Int),.int .i64 0])) p):=fun b n p U hs o=>⟨A,C,k,b,n,z,hQ,i,c,r,rfl,hs,o,U⟩
 have T:=fun w2 v(d:Below w1.heap.size w1 w2)hp=>ajB (v:=v) y.out.1 y.out.2.1 y.out.2.2 z i c f D B d hp
 clear L6 z hQ i c r y
 by_cases o:k=0
 ·subst o
  have Dk:=V.out w1 f;clear V D B;go_upto_region 7 with (go_at_call 21;refine Dk.mono ?_;rintro e w2⟨v,n,a,rfl,d,t,-⟩;obtain⟨rfl,rfl,l⟩:=t g HG.out;obtain⟨ta,Z,J,R,P,M,I,Y,nc,O,X,nb,E,K,G,rfl,u⟩:=T w2 v d l)
  have m:Below w2.heap.size w2 (w2.alloc (.cells #[.slice ta M I,.slice Z Y nc,.slice J O X,.slice R nb E,.slice P K G] 56)):=(cV _ _).alloc (zL0) _;have q:=u _ m;have x:aj (w2.alloc (.cells #[.slice ta M I,.slice Z Y nc,.slice J O X,.slice R nb E,.slice P K G] 56)) w2.heap.size #[.slice ta M I,.slice Z Y nc,.slice J O X,.slice R nb E,.slice P K G] 56:=aj.new ..;clear u t l f d m T Dk;have k0:=x.cell 0;have k1:=x.cell 1;have k2:=x.cell 2;have k4:=x.cell 3;have k5:=x.cell 4;simp only[List.getElem?_toArray,List.getElem?_cons_zero,List.getElem?_cons_succ]at k0 k1 k2 k4 k5;generalize Fa g S C=bb at q L
  go_wp2_with (first
   | (go_at_call 23;refine q.mono ?_;rintro e w4⟨pb,rfl,aa,F⟩;clear q)
   | (go_at_call 22;refine F.mono ?_;rintro e p⟨rfl,H,N⟩))
  exact fy (v:=.tuple #[.string bb,.int .i64 0,.int .i64 0]) (by simp[results,results8,go_sem]) rfl (L.out bb 0 p N H fun _=>⟨rfl,rfl⟩)
 ·have b0:0<k:=by omega
  have b1:decide ((0:Int)<(k:Int))=true:=fi (by omega);have HZ:Hid (¬k=0):=o;clear o V T D B;go_wp2_with fail;refine fy (Mw rfl _ _ _) rfl ?_;exact L.out _ 9 _ f (Nat.le_of_ble_eq_true rfl) fun e=>absurd e HZ.out
namespace Pk
def uS(l:List ByteArray)(i:Int):ByteArray:=if within i l.length=true then l.getD i.toNat ByteArray.empty else ByteArray.empty
end Pk
section
variable{w:World}{B pb:Nat}{v:gG}{p:Pk.T}
theorem abP{g:Nat}{l:List ByteArray}(h:aj w g (lQ l) 9)(i:Int):Calls prog 35 #[.slice (some ⟨g,0,none⟩) l.length l.length,.int .i64 i] w fun e w'=>e=.returned (.string (Pk.uS l i))/\Below w.heap.size w w':=by
 have q:=fun w=>Aa (w:=w) i l.length
 have a:Below w.heap.size w w:=cV _ _
 by_cases hw:Pk.within i l.length=true
 ·obtain⟨d,j⟩:=within_iff.1 hw
  obtain⟨n,rfl⟩:∃n:Nat,i=(n:Int):=⟨i.toNat,by omega⟩;obtain⟨x,c⟩:∃x,l[n]?=some x:=⟨_,cF (by omega)⟩;have b:Pk.uS l (n:Int)=x:=by unfold Pk.uS;rw[dj hw];simp[c]
  have f:w.cell? ⟨g,n,none⟩=some (.string x):=by
   rw[h.cell];unfold lQ;simp[c]
  rw[b];simp only[hw]at q;clear c hw b h;go_enter func35,ntmps35
  go_wp2_with (go_at_call 32;refine(q _).mono ?_;rintro e w1⟨rfl,rfl⟩)
  go_ret;exact⟨rfl,a⟩
 ·have b:Pk.uS l i=ByteArray.empty:=by unfold Pk.uS;rw[dt hw]
  rw[b];simp only[Bool.eq_false_iff.2 hw]at q;clear h;go_enter func35,ntmps35
  go_wp2_with (go_at_call 32;refine(q _).mono ?_;rintro e w1⟨rfl,rfl⟩)
  go_ret;exact⟨rfl,a⟩
theorem aaW(h:aT w B pb v p)(i:Int):Calls prog 18 #[.pointer (some ⟨pb,0,none⟩),.int .i64 i] w fun e w'=>e=.returned (.string (Pk.uS p.toks i))/\Below w.heap.size w w':=by
 obtain⟨g,d,c⟩:=h.rT;have f:w.cell? ⟨pb,2,none⟩=some (.slice (some ⟨g,0,none⟩) p.toks.length p.toks.length):=by rw[<-d];exact h.blk.cell 2
 have b:=abP c i;generalize Pk.uS p.toks i=x at b|-;clear d h c;go_enter func18,ntmps18
 go_wp2_with (go_at_call 35;refine b.mono ?_;rintro e w1⟨rfl,a⟩)
 go_ret;exact⟨rfl,a⟩
theorem ale(h:aT w B pb v p)(i:Int):Calls prog 19 #[.pointer (some ⟨pb,0,none⟩),.int .i64 i] w fun e w'=>e=.returned (.string (Pk.uS p.aN i))/\Below w.heap.size w w':=by
 obtain⟨g,d,c⟩:=h.rN;have f:w.cell? ⟨pb,3,none⟩=some (.slice (some ⟨g,0,none⟩) p.aN.length p.aN.length):=by rw[<-d];exact h.blk.cell 3
 have b:=abP c i;generalize Pk.uS p.aN i=x at b|-;clear d h c;go_enter func19,ntmps19
 go_wp2_with (go_at_call 35;refine b.mono ?_;rintro e w1⟨rfl,a⟩)
 go_ret;exact⟨rfl,a⟩
theorem abQ{w:World}(x:Int):Calls prog 6 #[.int .i64 x] w fun e w'=>e=.returned (.int .i64 x)/\w'=w:=by
 go_enter func6,ntmps6;go_wp2_with fail;go_ret;exact⟨rfl,rfl⟩
end
namespace Pk
theorem ac1{p:T}(h:uI p)(q s:Nat):cell p q s=(0,0)\/yZ p (cell p q s).1 (cell p q s).2 (s:Int)=true:=by
 unfold cell
 split
 ·rename_i a
  unfold BK at a|-;rw[ej]at a|-;cases e:p.ak[p.aB.getD q 0+s]? with
  |none=>exact .inl rfl
  |some x=>
   rw[e]at a;simp only[Option.getD_some]at a|-;rcases h.pl _ x e with rfl|⟨-,h2⟩
   ·exact .inl rfl
   ·rw[a]at h2
    have b:((p.aB.getD q 0+s:Nat):Int) - (p.aB.getD q 0:Nat)=(s:Int):=by omega
    rw[b]at h2;exact .inr h2
 ·exact .inl rfl
def L8(nS nP:Nat)(x:Nat×Nat):Prop:=(x.1=0/\x.2=0)\/(x.1=1/\1<=x.2/\x.2<nS)\/(x.1=2/\1<=x.2/\x.2<nP)\/(x.1=3/\x.2=0)\/(x.1=4/\x.2=0)
theorem ac2{p:T}{d t:Nat}{s:Int}(h:yZ p d t s=true):L8 p.aB.length p.prods.length (d,t)/\(¬s<(p.toks.length:Int)->d=1):=by
 unfold yZ at h;simp only[Bool.and_eq_true,Bool.or_eq_true,decide_eq_true_eq]at h;obtain⟨⟨⟨h1,h2⟩,h3⟩,h4⟩:=h;refine⟨?_,fun a=>?_⟩
 ·unfold L8
  obtain rfl|rfl|rfl|rfl|rfl:d=0\/d=1\/d=2\/d=3\/d=4:=by omega
  ·exact absurd h3 (by show ¬t<0;omega)
  ·exact .inr (.inl ⟨rfl,h2,h3⟩)
  ·exact .inr (.inr (.inl ⟨rfl,h2,h3⟩))
  ·have h3:t<1:=h3
   exact .inr (.inr (.inr (.inl ⟨rfl,by show t=0;omega⟩)))
  ·have h3:t<1:=h3
   exact .inr (.inr (.inr (.inr ⟨rfl,by show t=0;omega⟩)))
 ·rcases h4 with h4 | h4
  ·exact absurd (within_iff.1 h4).2 a
  ·exact h4.2
theorem anc{p:T}(h:uI p)(q n:Int):L8 p.aH.length p.prods.length (act p q n):=by
 unfold act
 split
 ·split
  ·rename_i hd
   have a:p.aH.getD q.toNat 0<p.prods.length:=by
    rw[ej];cases e:p.aH[q.toNat]? with
    |none=>exact h.p0.1
    |some x=>exact h.df x (cJ e)
   exact .inr (.inr (.inl ⟨rfl,by show 1<=_;have:=hd.2;omega,a⟩))
  ·rcases ac1 h q.toNat n.toNat with e | e
   ·rw[e]
    exact .inl ⟨rfl,rfl⟩
   ·rw[h.dl]
    exact(ac2 e).1
 ·exact .inl ⟨rfl,rfl⟩
theorem amF{p:T}{q n:Int}(h:q<0\/(p.aH.length:Int)<=q\/n<0\/(p.toks.length:Int)<=n):act p q n=(0,0):=by
 unfold act;refine dt fun e=>?_
 rw[jp,within_iff,within_iff]at e;omega
theorem amG{p:T}(h:uI p)(q n:Int):goto p q n<p.aH.length:=by
 have a:0<p.aH.length:=by rw[h.dl];exact h.bd.s0
 unfold goto
 split
 ·rcases ac1 h q.toNat (p.toks.length+n.toNat) with e | e
  ·rw[e]
   exact a
  ·obtain⟨h1,h2⟩:=ac2 e
   have hd:=h2 (by omega);rcases h1 with h1|h1|h1|h1|h1
   ·rw[show (cell p q.toNat (p.toks.length+n.toNat)).2=0 from h1.2]
    exact a
   ·rw[h.dl]
    exact h1.2.2
   ·exact absurd (hd.symm.trans h1.1) (by decide)
   ·exact absurd (hd.symm.trans h1.1) (by decide)
   ·exact absurd (hd.symm.trans h1.1) (by decide)
 ·exact a
theorem alf{p:T}{q n:Int}(h:q<0\/(p.aH.length:Int)<=q\/n<0\/(p.aN.length:Int)<=n):goto p q n=0:=by
 unfold goto;refine dt fun e=>?_
 rw[jp,within_iff,within_iff]at e;omega
theorem alg{p:T}{q:Int}(h:q<0\/(p.prods.length:Int)<=q):jR p q=(0,0):=by
 unfold jR;refine dt fun e=>?_
 rw[within_iff]at e;omega
theorem amH{p:T}(h:uI p){q:Int}(a:0<=q)(h1:q<(p.prods.length:Int)):p.toks.length<=(jR p q).1/\(jR p q).1<p.toks.length+p.aN.length/\(jR p q).2<=1000:=by
 unfold jR;rw[dj (within_iff.2 ⟨a,h1⟩),ej,cF (by omega)];exact h.pr _ (du _)
theorem aaX{l:List ByteArray}{i:Int}(h:i<0\/(l.length:Int)<=i):uS l i=ByteArray.empty:=by
 unfold uS;refine dt fun e=>?_
 rw[within_iff]at e;omega
end Pk
theorem amI{W:World}(H:∀W',Below W.heap.size W W'->dM W')(q:∀W',Below W.heap.size W W'->TabAt 2 Lib.deBruijn64tab W'):Calls prog 36 #[.string Bp] W (LkE W):=by
 obtain⟨g,m,x,I,J⟩:=ad7;obtain⟨C,u,A⟩:=ad6;obtain⟨a,b,d,i⟩:=anB J;have T:(aJ g).length=3:=by rw[i];rfl
 have hsz:fQ g=4:=by unfold fQ;rw[x,I];rfl
 cases h2:rU (aJ g) (fQ g) with
 |none=>
  obtain⟨-,e⟩:=NR (Nk m h2);rw[e]at C;cases C
 |some S=>
  obtain⟨E,-⟩:=NZ (Jz m h2);rw[E]at u A;have k:=ny.of W (by decide) m h2;have D:lG S.es S.es.length=lG Hz 4:=by rw[A];rfl
  have f:EZ (aJ g) (lG S.es S.es.length) (ay g).length (fQ g) S.ks.length 2 8 Bt (fun _ t=>t=0):=by
   obtain⟨st,f⟩:=acY k;refine⟨f.n0,f.nl,f.fN,f.ok,f.p0,f.pl,f.rl,f.t0,f.tl,fun s k=>?_,by decide,by rw[i];rfl,fun c y z p _ _=>?_⟩
   ·rw[u]
    rcases k with rfl|rfl|rfl <;> decide
   ·exact jq.G ⟨⟨a,b,d,y.trans i⟩,z.trans D,p.trans (by rw[x];rfl)⟩
  refine(ZQ k f H q).mono ?_;rintro e w⟨v,rfl,c,Q,K,R,y,z,p,O,n,B,r,M,o,j,L⟩;have l:jq c:=⟨⟨a,b,d,y.trans i⟩,z.trans D,p.trans (by rw[x];rfl)⟩;have F:=l.all O n (fun N P=>(r N P).trans l.nw) B;rw[u,l.ans F B M o]at j;exact⟨v,rfl,j,L⟩
theorem aik{W:World}{s:ByteArray}{n a:Nat}(j:s.size<=maxLen)(h:lK s=.error (n,a))(c:dM W):Calls prog 20 #[.string s] W fun e w'=>e=.returned (.tuple #[.slice none 0 0,.slice none 0 0,.slice none 0 0,.int .i64 0,.int .i64 (n:Int),.int .i64 (a:Int)])/\Below W.heap.size W w':=by
 have l:=Tt h;have f:Calls prog 36 #[.string s] W fun e w'=>e=.returned (.tuple #[.slice none 0 0,.int .i64 (n:Int),.int .i64 (a:Int)])/\Below W.heap.size W w':=(alc j h c).mono (by
  rintro e w'⟨k,⟨m,p,i,-,rfl⟩|⟨g,S,v,A,d,-⟩⟩
  ·rw[h]at i
   cases i;exact⟨rfl,k⟩
  ·rw[Jz d.gr d.st]at h
   cases h)
 have o:((n:Int) != 0)=true:=by simp;omega
 clear h l c j;go_enter func20,ntmps20
 go_wp2_with (go_at_call 36;refine f.mono ?_;rintro e w1⟨rfl,b⟩;clear f)
 exact fy (v:=.tuple #[.slice none 0 0,.slice none 0 0,.slice none 0 0,.int .i64 0,.int .i64 (n:Int),.int .i64 (a:Int)]) (by simp[results,results20,go_sem]) rfl ⟨rfl,b⟩
def XB(W:World)(e:Ending)(w':World):Prop:=∃(b:ByteArray)(n a:Nat),e=.returned (.tuple #[.string b,.int .i64 (n:Int),.int .i64 (a:Int)])/\b.size<=200000000/\Below W.heap.size W w'
theorem ajC{W:World}{s:ByteArray}{n a:Nat}(g:s.size<=maxLen)(h:lK s=.error (n,a))(f:dM W):Calls prog 8 #[.string s] W (XB W):=by
 have m:=Tt h;have i:=aik g h f;have o:((n:Int) != 0)=true:=by simp;omega
 have l:Hid (∀(b:ByteArray)c,b.size=0->Below W.heap.size W c->XB W (.returned (.tuple #[.string b,.int .i64 (n:Int),.int .i64 (a:Int)])) c):=fun b c k j=>⟨b,n,a,rfl,by omega,j⟩
 clear h m f g;go_enter func8,ntmps8
 go_wp2_with (go_at_call 20;refine i.mono ?_;rintro e w1⟨rfl,d⟩;clear i)
 refine fy (Mw rfl _ _ _) rfl ?_;exact l.out _ _ rfl d
section
variable{W:World}(hS:pE W)(hO:mD W)(h1:1 < W.heap.size)(iB:∀W',Below W.heap.size W W' -> dM W')(ht2:∀W',Below W.heap.size W W' -> TabAt 2 Lib.deBruijn64tab W')
include hS hO h1 iB ht2
theorem ajD{s:ByteArray}(j:s.size<=maxLen):Calls prog 8 #[.string s] W (XB W):=by
 cases h:lK s with
 |error x=>exact ajC j h (iB W (cV _ _))
 |ok S=>
  cases hm:eY s with
  |error x=>rw[acR hm]at h;cases h
  |ok g=>
   cases h2:rU (aJ g) (fQ g) with
   |none=>rw[Nk hm h2]at h;cases h
   |some S' =>
    have c:=ny.of W j hm h2;have o:Calls prog 36 #[.string s] W (Xp W g S' fun _=>True):=(look_ok c iB ht2).mono (by
     rintro e m⟨d,⟨r,z,i,-,rfl⟩|⟨y,t,v,A,a,q,rfl,l⟩⟩
     ·rw[h]at i
      cases i
     ·have k:=hm.symm.trans a.gr
      cases k;have p:=h2.symm.trans a.st;cases p;exact⟨v,A,rfl,q,trivial,l,d⟩)
    refine(abO hS (by omega) c iB (aaV c hO h1 iB o)).mono ?_;rintro e m⟨A,C,u,b,n,-,-,-,-,-,rfl,d,-,f⟩;exact⟨b,n,0,rfl,d,f⟩
theorem ali:Calls prog 8 #[.string Bp] W fun e w'=>e=.returned (.tuple #[.string nZ,.int .i64 0,.int .i64 0])/\Below W.heap.size W w':=by
 obtain⟨g,i,o,y,z⟩:=ad7;obtain⟨r,f,j⟩:=ad6;obtain⟨k,q⟩:=am8 z;cases h2:rU (aJ g) (fQ g) with
 |none=>
  obtain⟨-,e⟩:=NR (Nk i h2);rw[e]at r;cases r
 |some S=>
  obtain⟨t,-⟩:=NZ (Jz i h2);rw[t]at f j;have s:=ny.of W (by decide) i h2;have D:zq g S Di:=⟨by rw[f];rfl,by rw[q,o];decide⟩;have x:Calls prog 36 #[.string Bp] W (Xp W g S (·=Di)):=(amI iB ht2).mono (by
   rintro e w'⟨v,rfl,u,l⟩;exact⟨v,Di,rfl,D,rfl,u,l⟩)
  refine(abO hS (by omega) s iB (aaV s hO h1 iB x)).mono ?_;rintro e w'⟨A,C,E,b,n,-,rfl,d,a,c,rfl,-,m,l⟩;unfold Fa at m;rw[o,y,k,q,f,j]at m;rw[o,j]at a c;obtain⟨rfl,rfl⟩:=m (c acS);have B:=Tb.ajA (n:=OP.length) (by decide +kernel) a (by rw[d,f];decide +kernel) acS;have p:C.length=4:=by rw[d,f]
  refine⟨?_,l⟩;rw[p,B];exact fb (fun b=>Ending.returned (.tuple #[.string b,.int .i64 0,.int .i64 0])) aoQ
end
end Go.Proofs.YtagkodkijkpemaaGreatDoor

import Derived.Test.YtjaalkocdbkdeaaGreatDoorSA37
import Derived.Test.YtjaalkocdbkdeaaGreatDoorSA33
import Derived.Laws.Cover3
set_option maxHeartbeats 8000000
set_option maxRecDepth 1000000
namespace Go.Proofs.YtjaalkocdbkdeaaGreatDoor
open Lx Go.Proofs.Tryz
open Go.RowKit Tr
namespace Lx
def DR(g:Gr):Nat:=(aD g).length+(bg g).length
def kY(s:ByteArray):Except (Nat×Nat) bK :=
 match eZ s with
 |.error x=>.error x
 |.ok g=>match jV (bI g) (DR g) with
  |none=>.error (8,0)
  |some S=>.ok S
def xZ(s:ByteArray):bK:=match kY s with
 |.ok S=>S
 |.error _=>⟨[],[]⟩
def uS(s:ByteArray):Nat×Nat:=match kY s with
 |.ok _=>(0,0)
 |.error x=>x
theorem YC{s:ByteArray}{x:Nat×Nat}(h:eZ s=.error x):kY s=.error x:=by unfold kY;rw[h]
theorem XK{s:ByteArray}{g:Gr}(h:eZ s=.ok g)(h2:jV (bI g) (DR g)=none):kY s=.error (8,0):=by unfold kY;rw[h];simp only;rw[h2]
theorem Zc{s:ByteArray}{g:Gr}{S:bK}(h:eZ s=.ok g)(h2:jV (bI g) (DR g)=some S):kY s=.ok S:=by unfold kY;rw[h];simp only;rw[h2]
theorem PG{s:ByteArray}{S:bK}(h:kY s=.ok S):xZ s=S/\uS s=(0,0):=by unfold xZ uS;rw[h];exact⟨rfl,rfl⟩
theorem YD{s:ByteArray}{x:Nat×Nat}(h:kY s=.error x):xZ s=⟨[],[]⟩/\uS s=x:=by unfold xZ uS;rw[h];exact⟨rfl,rfl⟩
end Lx
def yN(s:ByteArray)(w:World)(e:Ending)(w':World):Prop:=∃vl ve,e=.returned (.tuple #[vl,ve,.int .i64 ((uS s).1:Int),.int .i64 ((uS s).2:Int)])/\Below w.heap.size w w'/\oH w.heap.size w' vl ve (xZ s)/\((uS s).1≠0->vl=.slice none 0 0/\ve=.slice none 0 0)
theorem oH.none(B:Nat)(w:World):oH B w (.slice none 0 0) (.slice none 0 0) ⟨[],[]⟩:=⟨⟨[],rfl,World.ownsRow_nil _ _ _ _,fun x hx=>by cases hx⟩,World.ownsRow_nil _ _ _ _⟩
theorem yN.err{s:ByteArray}{w:World}{w':World}{n a:Nat}(h:kY s=.error (n,a))(hb:Below w.heap.size w w'):yN s w (.returned (.tuple #[.slice none 0 0,.slice none 0 0,.int .i64 (n:Int),.int .i64 (a:Int)])) w':=by
 obtain⟨h1,h2⟩:=YD h;exact⟨_,_,by rw[h2],hb,by rw[h1];exact oH.none _ _,fun _=>⟨rfl,rfl⟩⟩
theorem yN.ok{s:ByteArray}{w:World}{w':World}{S:bK}{vl ve:Value}(h:kY s=.ok S)(hb:Below w.heap.size w w')(hS:oH w.heap.size w' vl ve S):yN s w (.returned (.tuple #[vl,ve,.int .i64 0,.int .i64 0])) w':=by
 obtain⟨h1,h2⟩:=PG h;exact⟨_,_,by rw[h2];rfl,hb,by rw[h1];exact hS,fun h=>by rw[h2]at h;exact absurd rfl h⟩
theorem oH.le{B B':Nat}{w:World}{vl ve:Value}{S:bK}(h:oH B w vl ve S)(hb:B'<=B):oH B' w vl ve S:=⟨h.1.le hb,dm h.2 hb⟩
theorem wN.isNone{w:World}{P:List Lx.Pd}{sz:Nat}{e:Ending}{w':World}(h:wN w P sz e w')(hn:jV P sz=.none):e=.returned (.tuple #[.slice .none 0 0,.slice .none 0 0,.bool false])/\Below w.heap.size w w':=by
 obtain⟨hb,⟨-,he⟩|⟨S,vl,ve,hs,-⟩⟩:=h
 ·exact⟨he,hb⟩
 ·rw[hn]at hs;cases hs
theorem wN.isSome{w:World}{P:List Lx.Pd}{sz:Nat}{e:Ending}{w':World}{S:bK}(h:wN w P sz e w')(hn:jV P sz=.some S):∃vl ve,e=.returned (.tuple #[vl,ve,.bool true])/\Below w.heap.size w w'/\oH w.heap.size w' vl ve S:=by
 obtain⟨hb,⟨hs,-⟩|⟨S',vl,ve,hs,he,hS⟩⟩:=h
 ·rw[hn]at hs;cases hs
 ·rw[hn]at hs;cases hs;exact⟨vl,ve,he,hb,hS⟩
theorem ad2(s:ByteArray)(w:World):Calls prog 8 #[.string s] w (yN s w):=by
 cases hm:eZ s with
 |error x=>
  have hx0:=Yp hm;have HR:Hid (kY s=.error (x.1,x.2)):=YC hm;have i1:((x.1:Int) == 0)=false:=zB0 (by omega);have i2:((x.1:Int) != 0)=true:=by simp;omega
  have i3:¬(x.1:Int)=0:=by omega
  have i4:¬x.1=0:=hx0;have HM:Hid (eZ s=.error x):=hm;clear hm hx0;go_enter func8,ntmps8
  go_wp2_with (go_at_call 15;refine(UW s w).mono ?_;rintro e w1⟨v,n,a,rfl,hb1,-,sH⟩;obtain⟨rfl,rfl,rfl⟩:=sH x HM.out;clear sH)
  exact bodyPost_ret (v:=.tuple #[.slice none 0 0,.slice none 0 0,.int .i64 (x.1:Int),.int .i64 (x.2:Int)]) (by simp[results,results8,go_sem]) rfl (yN.err HR.out (hb1.trans ((Below.refl _ w1).alloc (by have:=hb1.size;omega) _)))
 |ok g=>
  have hfit:=YB w hm;have hps:=Y0 hfit (Pp hm).2.2;have HM:Hid (eZ s=.ok g):=hm;clear hm;go_enter func8,ntmps8;go_upto_region 2 with (go_at_call 15;refine(UW s w).mono ?_;rintro e w1⟨v,n,a,rfl,hb1,hok,-⟩;obtain⟨rfl,rfl,vT,vN,vP,vB,vK,rfl,h1,h2,h3,h4,h5⟩:=hok g HM.out;clear hok;obtain⟨ta,tc,rfl,-⟩:=aF h1;obtain⟨na,nc,rfl,-⟩:=aF h2;obtain⟨ba,bc,rfl,-⟩:=aF h4;obtain⟨ka,kc,rfl,-⟩:=aF h5;obtain⟨pa,pc,rfl,-⟩:∃a c,vP=.slice a (bI g).length c/\(bI g).length<=maxLen:=by (obtain⟨ps,h1,h2,-⟩:=h3;exact aF h2))
  have hs1:=hb1.size;obtain⟨W2,hW2⟩:∃W,W=w1.alloc (.cells #[.slice ta (aD g).length tc,.slice na (bg g).length nc,.slice pa (bI g).length pc,.slice ba (aD g).length bc,.slice ka (aD g).length kc] 54):=⟨_,rfl⟩;have hb2:Below w1.heap.size w1 W2:=by rw[hW2];exact(Below.refl _ _).alloc (zL0) _
  have kA:aj W2 w1.heap.size #[.slice ta (aD g).length tc,.slice na (bg g).length nc,.slice pa (bI g).length pc,.slice ba (aD g).length bc,.slice ka (aD g).length kc] 54:=by rw[hW2];exact aj.new w1 _ 54
  rw[<-hW2];clear hW2 h1 h2 h4 h5;have hbw2:Below w.heap.size w W2:=hb1.trans (hb2.mono (by omega));have hs2:=hbw2.size;have q2:=ajc (nT:=(aD g).length) (nN:=(bg g).length) (ta:=ta) (na:=na) (ba:=ba) (ka:=ka) (tc:=tc) (nc:=nc) (nb:=(aD g).length) (bc:=bc) (nk:=(aD g).length) (kc:=kc) (h3.yA hb2) hps;have a0:=kA.cell 0;have a1:=kA.cell 1;have a2:=kA.cell 2;have a3:=kA.cell 3;have a4:=kA.cell 4;simp only[List.getElem?_toArray,List.getElem?_cons_zero,List.getElem?_cons_succ]at a0 a1 a2 a3 a4;clear kA hps hfit h3;cases hst:jV (bI g) (DR g) with
  |none=>
   have HR:Hid (kY s=.error (8,0)):=XK HM.out hst;have HS:Hid (jV (bI g) ((aD g).length+(bg g).length)=none):=hst;clear hst HM
   go_wp2_with (go_at_call 19;refine q2.mono ?_;intro e w3 hE;obtain⟨rfl,hb3⟩:=hE.isNone HS.out;clear hE)
   exact bodyPost_ret (v:=.tuple #[.slice none 0 0,.slice none 0 0,.int .i64 8,.int .i64 0]) (by simp[results,results8,go_sem]) rfl (yN.err HR.out (hbw2.trans (hb3.mono (by omega))))
  |some S=>
   have HR:Hid (kY s=.ok S):=Zc HM.out hst;have HS:Hid (jV (bI g) ((aD g).length+(bg g).length)=some S):=hst;clear hst HM
   go_wp2_with (go_at_call 19;refine q2.mono ?_;intro e w3 hE;obtain⟨vl,ve,rfl,hb3,Nc⟩:=hE.isSome HS.out;clear hE)
   exact bodyPost_ret (v:=.tuple #[vl,ve,.int .i64 0,.int .i64 0]) (by simp[results,results8,go_sem]) rfl (yN.ok HR.out (hbw2.trans (hb3.mono (by omega))) (Nc.le (by omega)))
namespace Lx
theorem oh.leave{P:List Pd}{sz st:Nat}(hp:mR P sz st){i:Nat}{K:List av}:∀(ns:List Nat)(S:bK),oh P S->S.ks[i]?=some K->oh P (leave P i K S ns)
 | [],_,h,_=>h
 |n::ns,S,h,hK=>oh.leave hp ns (Lx.edge P i K S n) (h.edge hp hK n) (Pk hK)
theorem XL{P:List Pd}{i:Nat}{K:List av}:∀(ns:List Nat)(S:bK),(leave P i K S ns).es.length<=S.es.length+ns.length
 | [],_=>zL0
 |n::ns,S=>by
  have h1:=XL (P:=P) (i:=i) (K:=K) ns (edge P i K S n);have h2:=(ahS (P:=P) (i:=i) (K:=K) (S:=S) (n:=n)).2;have:leave P i K S (n::ns)=leave P i K (edge P i K S n) ns:=rfl;rw[this,List.length_cons];omega
theorem ko.all1{P:List Pd}{sz st:Nat}(hp:mR P sz st){i:Nat}{K:List av}{S:bK}(h:ko P i 0 S)(hK:S.ks[i]?=some K):ko P (i+1) 0 (Lx.leave P i K S (List.range sz)):=by
 have h1:=(ko.leave (K:=K) sz 0 S h hK).1;rw[Nat.zero_add,<-List.range_eq_range']at h1;exact h1.next hp
end Lx
def yE(B:Nat)(w:World)(vl ve:Value)(S:bK):Prop:=fD 34 36 B w vl S.ks/\aJ 38 3 nP B w ve S.es
theorem yE.below{B:Nat}{w w':World}{vl ve:Value}{S:bK}(h:yE B w vl ve S)(hb:Below w.heap.size w w'):yE B w' vl ve S:=⟨h.1.below hb,h.2.below hb⟩
theorem yE.none(B:Nat)(w:World):yE B w (.slice none 0 0) (.slice none 0 0) ⟨[],[]⟩:=⟨⟨[],rfl,World.ownsRow_nil _ _ _ _,fun x hx=>by cases hx⟩,World.ownsRow_nil _ _ _ _⟩
def vC(s:ByteArray)(w:World)(e:Ending)(w':World):Prop:=∃vl ve,e=.returned (.tuple #[vl,ve,.int .i64 ((uS s).1:Int),.int .i64 ((uS s).2:Int)])/\Below w.heap.size w w'/\yE w.heap.size w' vl ve (xZ s)/\((uS s).1≠0->vl=.slice none 0 0/\ve=.slice none 0 0)
theorem vC.err{s:ByteArray}{w:World}{w':World}{n a:Nat}(h:kY s=.error (n,a))(hb:Below w.heap.size w w'):vC s w (.returned (.tuple #[.slice none 0 0,.slice none 0 0,.int .i64 (n:Int),.int .i64 (a:Int)])) w':=by
 obtain⟨h1,h2⟩:=YD h;exact⟨_,_,by rw[h2],hb,by rw[h1];exact yE.none _ _,fun _=>⟨rfl,rfl⟩⟩
theorem vC.ok{s:ByteArray}{w:World}{w':World}{S:bK}{vl ve:Value}(h:kY s=.ok S)(hb:Below w.heap.size w w')(hS:yE w.heap.size w' vl ve S):vC s w (.returned (.tuple #[vl,ve,.int .i64 0,.int .i64 0])) w':=by
 obtain⟨h1,h2⟩:=PG h;exact⟨_,_,by rw[h2];rfl,hb,by rw[h1];exact hS,fun h=>by rw[h2]at h;exact absurd rfl h⟩
theorem NR(s:ByteArray)(w:World)(hmax:s.size<=maxLen)(ht:jd w):Calls prog 7 #[.string s] w (vC s w):=by
 cases hm:eZ s with
 |error x=>
  have hx0:=Yp hm;have HR:Hid (kY s=.error (x.1,x.2)):=YC hm;have i1:((x.1:Int) == 0)=false:=zB0 (by omega);have i2:((x.1:Int) != 0)=true:=by simp;omega
  have i3:¬(x.1:Int)=0:=by omega
  have i4:¬x.1=0:=hx0;have HM:Hid (eZ s=.error x):=hm;clear hm hx0;go_enter func7,ntmps7
  go_wp2_with (go_at_call 13;refine(XB s w hmax ht).mono ?_;rintro e w1⟨v,n,a,rfl,hb1,-,sH⟩;obtain⟨rfl,rfl,rfl⟩:=sH x HM.out;unfold wZ;clear sH)
  exact bodyPost_ret (v:=.tuple #[.slice none 0 0,.slice none 0 0,.int .i64 (x.1:Int),.int .i64 (x.2:Int)]) (by simp[results,results7,go_sem]) rfl (vC.err HR.out (hb1.trans ((Below.refl _ w1).alloc (by have:=hb1.size;omega) _)))
 |ok g=>
  have hfit:=YB w hm;have hps:=Y0 hfit (Pp hm).2.2;have HM:Hid (eZ s=.ok g):=hm;clear hm;go_enter func7,ntmps7;go_upto_region 2 with (go_at_call 13;refine(XB s w hmax ht).mono ?_;rintro e w1⟨v,n,a,rfl,hb1,hok,-⟩;obtain⟨rfl,rfl,vT,vN,vP,vB,vK,rfl,h1,h2,h3,h4,h5⟩:=hok g HM.out;clear hok;obtain⟨ta,tc,rfl,-⟩:=aF h1;obtain⟨na,nc,rfl,-⟩:=aF h2;obtain⟨ba,bc,rfl,-⟩:=aF h4;obtain⟨ka,kc,rfl,-⟩:=aF h5;obtain⟨pa,pc,rfl,-⟩:∃a c,vP=.slice a (bI g).length c/\(bI g).length<=maxLen:=by (obtain⟨ps,h1,h2,-⟩:=h3;exact aF h2))
  have hs1:=hb1.size;obtain⟨wB,Nu⟩:∃W,W=w1.alloc (.cells #[.slice ta (aD g).length tc,.slice na (bg g).length nc,.slice pa (bI g).length pc,.slice ba (aD g).length bc,.slice ka (aD g).length kc] 45):=⟨_,rfl⟩;have hb2:Below w1.heap.size w1 wB:=by rw[Nu];exact(Below.refl _ _).alloc (zL0) _
  have kA:aj wB w1.heap.size #[.slice ta (aD g).length tc,.slice na (bg g).length nc,.slice pa (bI g).length pc,.slice ba (aD g).length bc,.slice ka (aD g).length kc] 45:=by rw[Nu];exact aj.new w1 _ 45
  rw[<-Nu];clear Nu h1 h2 h4 h5;have Ma:Below w.heap.size w wB:=hb1.trans (hb2.mono (by omega));have hsB:=Ma.size;have Sv:=h3.below hb2;have htB:jd wB:=((Lib.tabBelow_of_tabIs ht).on Ma).here;have a0:=kA.cell 0;have a1:=kA.cell 1;have a2:=kA.cell 2;have a3:=kA.cell 3;have a4:=kA.cell 4;simp only[List.getElem?_toArray,List.getElem?_cons_zero,List.getElem?_cons_succ]at a0 a1 a2 a3 a4;have HR1:Hid (jV (bI g) (DR g)=none->kY s=.error (8,0)):=XK HM.out;have HR2:Hid (∀S,jV (bI g) (DR g)=some S->kY s=.ok S):=fun S h=>Zc HM.out h
  have hsz:DR g=(aD g).length+(bg g).length:=rfl;rw[hsz]at HR1 HR2;clear kA HM hfit h3 hsz;generalize (aD g).length=nT at *;generalize (bg g).length=nN at *;generalize bI g=P at *;have hmm:=@run_makeMap prog;obtain⟨W3,hW3⟩:∃W,W=((wB.alloc (.map #[] 0)).alloc (.cells #[.slice ta nT tc,.slice na nN nc,.slice pa P.length pc,.slice ba nT bc,.slice ka nT kc,.map (some wB.heap.size),.slice none 0 0,.slice none 0 0] 64)).alloc (.cells #[.int .i64 0,.int .i64 0] 36):=⟨_,rfl⟩;have hb3:Below wB.heap.size wB W3:=by rw[hW3];exact(((Below.refl _ _).alloc (zL0) _).alloc (by simp) _).alloc (by simp;omega) _
  have qW:aj W3 (wB.heap.size+1) #[.slice ta nT tc,.slice na nN nc,.slice pa P.length pc,.slice ba nT bc,.slice ka nT kc,.map (some wB.heap.size),.slice none 0 0,.slice none 0 0] 64:=by rw[hW3];simpa using (aj.new (wB.alloc (.map #[] 0)) #[.slice ta nT tc,.slice na nN nc,.slice pa P.length pc,.slice ba nT bc,.slice ka nT kc,.map (some wB.heap.size),.slice none 0 0,.slice none 0 0] 64).alloc (.cells #[.int .i64 0,.int .i64 0] 36)
  have Nb:aj W3 (wB.heap.size+1+1) #[.int .i64 0,.int .i64 0] 36:=by rw[hW3];simpa using aj.new ((wB.alloc (.map #[] 0)).alloc (.cells #[.slice ta nT tc,.slice na nN nc,.slice pa P.length pc,.slice ba nT bc,.slice ka nT kc,.map (some wB.heap.size),.slice none 0 0,.slice none 0 0] 64)) #[.int .i64 0,.int .i64 0] 36
  have Ay:lJ W3 wB.heap.size []:=by
   have h0:=lJ.made wB;have h1:=h0.move (w':=(wB.alloc (.map #[] 0)).alloc (.cells #[.slice ta nT tc,.slice na nN nc,.slice pa P.length pc,.slice ba nT bc,.slice ka nT kc,.map (some wB.heap.size),.slice none 0 0,.slice none 0 0] 64)) (Below.heap_alloc _ _ _ h0.lt);rw[hW3];exact h1.move (Below.heap_alloc _ _ _ h1.lt)
  have hf3:nD wB W3 (wB.heap.size+1) wB.heap.size (.slice ta nT tc) (.slice na nN nc) (.slice pa P.length pc) (.slice ba nT bc) (.slice ka nT kc) (.slice none 0 0) ⟨[],[]⟩:=⟨_,qW,Ay,⟨[],rfl,World.ownsRow_nil _ _ _ _,fun x hx=>by cases hx⟩,World.ownsRow_nil _ _ _ _,by omega,by omega,hb3⟩;have Jh:aJ 36 2 dI wB.heap.size W3 (.slice (some ⟨wB.heap.size+1+1,0,none⟩) 1 1) [(0,0)]:=Po Nb (by omega) rfl;have q5:=VP hf3 Jh (by simp) (by simp) (fun s hs=>by rw[List.mem_singleton]at hs;subst hs;exact⟨by omega,by omega⟩) (by simp) (by simp) htB;have HI0:Hid (ko P 0 0 ⟨[[(0,0)]],[]⟩):=ko.first P;have HO0:Hid (oh P ⟨[[(0,0)]],[]⟩):=oh.first hps;have Jo:Hid (jV P (nT+nN)=qG P (nT+nN) (302-0) 0 ⟨[[(0,0)]],[]⟩):=rfl;have hadd:(⟨uG [] [(0,0)],[]⟩:bK)=⟨[[(0,0)]],[]⟩:=rfl;clear Nb Jh hf3 Ay qW;go_upto_region 5 with fail
  go_upto_region 6 with (go_at_call 17;go_loud (rw[<-hW3];refine q5.mono ?_;rintro e w4⟨rfl,Az,-,hs4⟩))
  rw[hadd]at Az;clear hW3 hb3 q5 hadd hs4 hmm a0 a1 a2 a3 a4;generalize hf:wB.heap.size+1=f at *;generalize hmb:wB.heap.size=mb at Az;clear hf hmb;go_wp2_with fail
  go_loopg [10] 301 (fun m iv wr=>∃(i:Nat)(S:bK)(ve:Value),i+m=301/\i<=300/\iv=.int .i64 (i:Int)/\nD wB wr f mb (.slice ta nT tc) (.slice na nN nc) (.slice pa P.length pc) (.slice ba nT bc) (.slice ka nT kc) ve S/\S.ks.length<=300/\S.es.length<=i*100000/\Hid (ko P i 0 S)/\Hid (oh P S)/\Hid (jV P (nT+nN)=qG P (nT+nN) (302-i) i S))
  case atStart=>exact⟨0,_,_,by omega,by omega,rfl,Az,by simp,by simp,HI0,HO0,Jo⟩
  case round=>
   clear Az HI0 HO0 Jo;revert wr;intro wz hrel;obtain⟨i,S,ve,hkj,akc,rfl,hf,hkl,hel,HI,HO,HA⟩:=hrel;obtain⟨vk,kF,hm,hK,hE,Ng,hBm,pF⟩:=id hf;obtain⟨va,vc,rfl,-⟩:=hK.len;have d6:wz.cell? ⟨f,6,none⟩=some (.slice va S.ks.length vc):=kF.cell 6;have d7:wz.cell? ⟨f,7,none⟩=some ve:=kF.cell 7;have hbw:Below w.heap.size w wz:=Ma.trans (pF.mono (by omega))
   by_cases hlt:i<S.ks.length
   ·obtain⟨Kn,hKn⟩:∃K,S.ks[i]?=some K:=⟨_,List.getElem?_eq_getElem hlt⟩
    have hko:=HO.out i Kn hKn;have q9:=agQ hf Sv hps hKn hko (by have:=hko.len;omega) (HI.out.rise i Kn hKn) HI.out.nd hkl (by omega) htB;have HI2:Hid (ko P (i+1) 0 (Lx.leave P i Kn S (List.range (nT+nN)))):=ko.all1 hps HI.out hKn;have HO2:Hid (oh P (Lx.leave P i Kn S (List.range (nT+nN)))):=oh.leave hps _ S HO.out hKn;have LV:=XL (P:=P) (i:=i) (K:=Kn) (List.range (nT+nN)) S;rw[List.length_range]at LV;have Hu:=hps.M6;have HN:Hid (jV P (nT+nN)=if 300<(Lx.leave P i Kn S (List.range (nT+nN))).ks.length then none else qG P (nT+nN) (302 - (i+1)) (i+1) (Lx.leave P i Kn S (List.range (nT+nN)))):=by
     show _=_;rw[HA.out,WO (by omega) hKn]
    have adw:(Lx.leave P i Kn S (List.range (nT+nN))).es.length<=(i+1)*100000:=by omega
    have i1:(i:Int)<(S.ks.length:Int):=by omega
    clear HA HI HO hko hKn kF hm hK hE hf LV d7;generalize Lx.leave P i Kn S (List.range (nT+nN))=R at q9 HI2 HO2 HN adw;go_upto_region 10 with (go_at_call 18;go_loud (refine q9.mono ?_;rintro e w5⟨rfl,ve5,CV⟩))
    obtain⟨vk5,zA,EZ,wD,rR,-,-,alZ⟩:=id CV;obtain⟨va5,vc5,rfl,-⟩:=wD.len;have e6:w5.cell? ⟨f,6,none⟩=some (.slice va5 R.ks.length vc5):=zA.cell 6;have Cy:Below w.heap.size w w5:=Ma.trans (alZ.mono (by omega));clear q9 d6 zA EZ wD rR
    by_cases h3:300<R.ks.length
    ·have HR:Hid (kY s=.error (8,0)):=HR1.out (by rw[HN.out,if_pos h3])
     have j1:(300:Int)<(R.ks.length:Int):=by omega
     clear HN;go_wp2_with fail;exact bodyPost_ret (v:=.tuple #[.slice none 0 0,.slice none 0 0,.int .i64 8,.int .i64 0]) (by simp[results,results7,go_sem]) rfl (vC.err HR.out Cy)
    ·have zy:Hid (jV P (nT+nN)=qG P (nT+nN) (302 - (i+1)) (i+1) R):=by show _=_;rw[HN.out,if_neg h3]
     have j1:¬(300:Int)<(R.ks.length:Int):=by omega
     clear HN;go_wp2_with fail;go_roundg (301 - (i+1))
     case measure=>omega
     case rel=>exact⟨i+1,R,ve5,by omega,by omega,by go_num,CV,by omega,adw,HI2,HO2,zy⟩
   ·have HR:Hid (kY s=.ok S):=HR2.out S (by rw[HA.out,XF (by omega) (by omega)])
    have i1:¬(i:Int)<(S.ks.length:Int):=by omega
    clear HA HI HO;go_wp2_with fail
    go_quiet (fail)
    have hbd:Below wz.heap.size wz (wz.drewN nq):=⟨rfl,rfl,rfl,zL0,fun _ _=>rfl⟩;go_wp2_with fail;exact bodyPost_ret (v:=.tuple #[.slice va S.ks.length vc,ve,.int .i64 0,.int .i64 0]) (by simp[results,results7,go_sem]) rfl (vC.ok HR.out (hbw.trans (hbd.mono (by have:=hbw.size;omega))) ⟨(hK.below hbd).le (by omega),dm (aJ.below hE hbd) (by omega)⟩)
theorem ah8:kY ⟨#[97,32,61,32,65,59]⟩=.ok ⟨[[(0,0)],[(1,1)],[(0,1)]],[(0,1,1),(0,3,2)]⟩:=by kernel_rfl
theorem Pq(n:Int)(w:World):Calls prog 11 #[.int .i64 n] w fun e w'=>e=.returned (.int .i64 n)/\w'=w:=by
 go_enter func11,ntmps11;go_wp2_with fail;go_ret;exact⟨rfl,rfl⟩
theorem vC.at{s:ByteArray}{w:World}{e:Ending}{w':World}(h:vC s w e w'){S:bK}(hs:kY s=.ok S):∃vl ve,e=.returned (.tuple #[vl,ve,.int .i64 0,.int .i64 0])/\Below w.heap.size w w'/\yE w.heap.size w' vl ve S:=by
 obtain⟨vl,ve,h1,h2,h3,-⟩:=h;obtain⟨e1,e2⟩:=PG hs;rw[e2]at h1;rw[e1]at h3;exact⟨vl,ve,h1,h2,h3⟩
theorem agU(w:World)(ht:jd w):Calls prog 12 #[] w fun e w'=>e=.returned (.bool true)/\Below w.heap.size w w':=by
 have q1:=NR ⟨#[97,32,61,32,65,59]⟩ w (by decide) ht;go_enter func12,ntmps12;go_upto_region 2 with (go_at_call 7;refine q1.mono ?_;intro e w1 hE;obtain⟨vl,ve,rfl,hb1,hK,Tp⟩:=hE.at ah8;obtain⟨la,lc,rfl,-⟩:=hK.len;obtain⟨ea,ec,rfl,-⟩:=aF Tp)
 obtain⟨g,cap,hv,-,-,hcs⟩:=aJ.at Ht Tp (j:=0) (by decide);cases hv;have c0:w1.cell? ⟨g,0,none⟩=some (.int .i64 0):=hcs 0 _ (by decide) rfl;have c1:w1.cell? ⟨g,1,none⟩=some (.int .i64 1):=hcs 1 _ (by decide) rfl;have c2:w1.cell? ⟨g,2,none⟩=some (.int .i64 1):=hcs 2 _ (by decide) rfl;clear q1 hK Tp hcs
 go_wp2_with (go_at_call 11;refine(Pq _ _).mono ?_;rintro e w'⟨rfl,hw⟩;obtain rfl:=hw.symm)
 go_ret;exact⟨by simp,hb1⟩
end Go.Proofs.YtjaalkocdbkdeaaGreatDoor

import Derived.Test.YtjaalkocdbkdeaaGreatDoorSA37
import Derived.Test.YtjaalkocdbkdeaaGreatDoorSA33
import Derived.Laws.Cover3
set_option maxHeartbeats 8000000
set_option maxRecDepth 1000000
namespace Go.Proofs.YtjaalkocdbkdeaaGreatDoor
open Lx Go.Proofs.Tryz
open Go.RowKit Tr
namespace Lx
def DR (g:Gr):Nat:=(aD g).length+(bg g).length
def kY (s:ByteArray):Except (Nat × Nat) bK :=
 match eZ s with
 | .error x=>.error x
 | .ok g=>match jV (bI g) (DR g) with
  | none=>.error (8,0)
  | some S=>.ok S
def xZ (s:ByteArray):bK:=match kY s with
 | .ok S=>S
 | .error _=>⟨[],[]⟩
def uS (s:ByteArray):Nat × Nat:=match kY s with
 | .ok _=>(0,0)
 | .error x=>x
theorem YC {s:ByteArray}{x:Nat × Nat}(h:eZ s=.error x):kY s=.error x:=by unfold kY;rw[h]
theorem XK {s:ByteArray}{g:Gr}(h:eZ s=.ok g)(h2:jV (bI g) (DR g)=none):kY s=.error (8,0):=by unfold kY;rw[h];simp only;rw[h2]
theorem Zc {s:ByteArray}{g:Gr}{S:bK}(h:eZ s=.ok g)(h2:jV (bI g) (DR g)=some S):kY s=.ok S:=by unfold kY;rw[h];simp only;rw[h2]
theorem PG {s:ByteArray}{S:bK}(h:kY s=.ok S):xZ s=S/\uS s=(0,0):=by unfold xZ uS;rw[h];exact⟨rfl,rfl⟩
theorem YD {s:ByteArray}{x:Nat × Nat}(h:kY s=.error x):xZ s=⟨[],[]⟩/\uS s=x:=by unfold xZ uS;rw[h];exact⟨rfl,rfl⟩
end Lx
def yN (s:ByteArray)(w:World)(e:Ending)(w':World):Prop:=∃ vl ve,e=.returned (.tuple #[vl,ve,.int .i64 ((uS s).1:Int),.int .i64 ((uS s).2:Int)])/\Below w.heap.size w w'/\oH w.heap.size w' vl ve (xZ s)/\((uS s).1≠0->vl=.slice none 0 0/\ve=.slice none 0 0)
theorem oH.none (B:Nat)(w:World):oH B w (.slice none 0 0) (.slice none 0 0) ⟨[],[]⟩:=⟨⟨[],rfl,World.ownsRow_nil _ _ _ _,fun x hx=>by cases hx⟩,World.ownsRow_nil _ _ _ _⟩
theorem yN.err {s:ByteArray}{w:World}{w':World}{n a:Nat}(h:kY s=.error (n,a))(hb:Below w.heap.size w w'):yN s w (.returned (.tuple #[.slice none 0 0,.slice none 0 0,.int .i64 (n:Int),.int .i64 (a:Int)])) w':=by
 obtain⟨h1,h2⟩:=YD h;exact⟨_,_,by rw[h2],hb,by rw[h1];exact oH.none _ _,fun _=>⟨rfl,rfl⟩⟩
theorem yN.ok {s:ByteArray}{w:World}{w':World}{S:bK}{vl ve:Value}(h:kY s=.ok S)(hb:Below w.heap.size w w')(hS:oH w.heap.size w' vl ve S):yN s w (.returned (.tuple #[vl,ve,.int .i64 0,.int .i64 0])) w':=by
 obtain⟨h1,h2⟩:=PG h;exact⟨_,_,by rw[h2];rfl,hb,by rw[h1];exact hS,fun h=>by rw[h2]at h;exact absurd rfl h⟩
theorem oH.le {B B':Nat}{w:World}{vl ve:Value}{S:bK}(h:oH B w vl ve S)(hb:B'<=B):oH B' w vl ve S:=⟨h.1.le hb,dm h.2 hb⟩
theorem wN.isNone {w:World}{P:List Lx.Pd}{sz:Nat}{e:Ending}{w':World}(h:wN w P sz e w')(hn:jV P sz=.none):e=.returned (.tuple #[.slice .none 0 0,.slice .none 0 0,.bool false])/\Below w.heap.size w w':=by
 obtain⟨hb,⟨-,he⟩ | ⟨S,vl,ve,hs,-⟩⟩:=h
 ·exact⟨he,hb⟩
 ·rw[hn]at hs;cases hs
theorem wN.isSome {w:World}{P:List Lx.Pd}{sz:Nat}{e:Ending}{w':World}{S:bK}(h:wN w P sz e w')(hn:jV P sz=.some S):∃ vl ve,e=.returned (.tuple #[vl,ve,.bool true])/\Below w.heap.size w w'/\oH w.heap.size w' vl ve S:=by
 obtain⟨hb,⟨hs,-⟩ | ⟨S',vl,ve,hs,he,hS⟩⟩:=h
 ·rw[hn]at hs;cases hs
 ·rw[hn]at hs;cases hs;exact⟨vl,ve,he,hb,hS⟩
theorem ad2 (s:ByteArray)(w:World):Calls prog 8 #[.string s] w (yN s w):=by
 cases hm:eZ s with
 | error x =>
  have hx0:=Yp hm;have HR:Hid (kY s=.error (x.1,x.2)):=YC hm;have i1:((x.1:Int) == 0)=false:=zB0 (by omega);have i2:((x.1:Int) != 0)=true:=by simp;omega
  have i3:¬ (x.1:Int)=0:=by omega
  have i4:¬ x.1=0:=hx0;have HM:Hid (eZ s=.error x):=hm;clear hm hx0;go_enter func8,ntmps8
  go_wp2_with (go_at_call 15;refine (UW s w).mono ?_;rintro e w1 ⟨v,n,a,rfl,hb1,-,sH⟩;obtain⟨rfl,rfl,rfl⟩:=sH x HM.out;clear sH)
  exact bodyPost_ret (v:=.tuple #[.slice none 0 0,.slice none 0 0,.int .i64 (x.1:Int),.int .i64 (x.2:Int)]) (by simp[results,results8,go_sem]) rfl (yN.err HR.out (hb1.trans ((Below.refl _ w1).alloc (by have:=hb1.size;omega) _)))
 | ok g =>
  have hfit:=YB w hm;have hps:=Y0 hfit (Pp hm).2.2;have HM:Hid (eZ s=.ok g):=hm;clear hm;go_enter func8,ntmps8;go_upto_region 2 with (go_at_call 15;refine (UW s w).mono ?_;rintro e w1 ⟨v,n,a,rfl,hb1,hok,-⟩;obtain⟨rfl,rfl,vT,vN,vP,vB,vK,rfl,h1,h2,h3,h4,h5⟩:=hok g HM.out;clear hok;obtain⟨ta,tc,rfl,-⟩:=aF h1;obtain⟨na,nc,rfl,-⟩:=aF h2;obtain⟨ba,bc,rfl,-⟩:=aF h4;obtain⟨ka,kc,rfl,-⟩:=aF h5;obtain⟨pa,pc,rfl,-⟩:∃ a c,vP=.slice a (bI g).length c/\(bI g).length<=maxLen:=by (obtain⟨ps,h1,h2,-⟩:=h3;exact aF h2))
  have hs1:=hb1.size;obtain⟨W2,hW2⟩:∃ W,W=w1.alloc (.cells #[.slice ta (aD g).length tc,.slice na (bg g).length nc,.slice pa (bI g).length pc,.slice ba (aD g).length bc,.slice ka (aD g).length kc] 54):=⟨_,rfl⟩;have hb2:Below w1.heap.size w1 W2:=by rw[hW2];exact (Below.refl _ _).alloc (zL0) _
  have kA:aj W2 w1.heap.size #[.slice ta (aD g).length tc,.slice na (bg g).length nc,.slice pa (bI g).length pc,.slice ba (aD g).length bc,.slice ka (aD g).length kc] 54:=by rw[hW2];exact aj.new w1 _ 54
  rw[<-hW2];clear hW2 h1 h2 h4 h5;have hbw2:Below w.heap.size w W2:=hb1.trans (hb2.mono (by omega));have hs2:=hbw2.size;have q2:=ajc (nT:=(aD g).length) (nN:=(bg g).length) (ta:=ta) (na:=na) (ba:=ba) (ka:=ka) (tc:=tc) (nc:=nc) (nb:=(aD g).length) (bc:=bc) (nk:=(aD g).length) (kc:=kc) (h3.yA hb2) hps;have a0:=kA.cell 0;have a1:=kA.cell 1;have a2:=kA.cell 2;have a3:=kA.cell 3;have a4:=kA.cell 4;simp only[List.getElem?_toArray,List.getElem?_cons_zero,List.getElem?_cons_succ]at a0 a1 a2 a3 a4;clear kA hps hfit h3;cases hst:jV (bI g) (DR g) with
  | none =>
   have HR:Hid (kY s=.error (8,0)):=XK HM.out hst;have HS:Hid (jV (bI g) ((aD g).length+(bg g).length)=none):=hst;clear hst HM
   go_wp2_with (go_at_call 19;refine q2.mono ?_;intro e w3 hE;obtain⟨rfl,hb3⟩:=hE.isNone HS.out;clear hE)
   exact bodyPost_ret (v:=.tuple #[.slice none 0 0,.slice none 0 0,.int .i64 8,.int .i64 0]) (by simp[results,results8,go_sem]) rfl (yN.err HR.out (hbw2.trans (hb3.mono (by omega))))
  | some S =>
   have HR:Hid (kY s=.ok S):=Zc HM.out hst;have HS:Hid (jV (bI g) ((aD g).length+(bg g).length)=some S):=hst;clear hst HM
   go_wp2_with (go_at_call 19;refine q2.mono ?_;intro e w3 hE;obtain⟨vl,ve,rfl,hb3,Nc⟩:=hE.isSome HS.out;clear hE)
   exact bodyPost_ret (v:=.tuple #[vl,ve,.int .i64 0,.int .i64 0]) (by simp[results,results8,go_sem]) rfl (yN.ok HR.out (hbw2.trans (hb3.mono (by omega))) (Nc.le (by omega)))
namespace Lx
theorem oh.leave {P:List Pd} {sz st:Nat} (hp:mR P sz st) {i:Nat} {K:List av}:∀ (ns:List Nat) (S:bK),oh P S->S.ks[i]?=some K->oh P (leave P i K S ns)
 | [],_,h,_=>h
 | n::ns,S,h,hK=>oh.leave hp ns (Lx.edge P i K S n) (h.edge hp hK n) (Pk hK)
theorem XL {P:List Pd} {i:Nat} {K:List av}:∀ (ns:List Nat) (S:bK),(leave P i K S ns).es.length<=S.es.length+ns.length
 | [],_=>zL0
 | n::ns,S=>by
  have h1:=XL (P:=P) (i:=i) (K:=K) ns (edge P i K S n);have h2:=(ahS (P:=P) (i:=i) (K:=K) (S:=S) (n:=n)).2;have:leave P i K S (n::ns)=leave P i K (edge P i K S n) ns:=rfl;rw[this,List.length_cons];omega
theorem ko.all1 {P:List Pd}{sz st:Nat}(hp:mR P sz st){i:Nat}{K:List av}{S:bK}(h:ko P i 0 S)(hK:S.ks[i]?=some K):ko P (i+1) 0 (Lx.leave P i K S (List.range sz)):=by
 have h1:=(ko.leave (K:=K) sz 0 S h hK).1;rw[Nat.zero_add,<-List.range_eq_range']at h1;exact h1.next hp
end Lx
def yE (B:Nat)(w:World)(vl ve:Value)(S:bK):Prop:=fD 34 36 B w vl S.ks/\aJ 38 3 nP B w ve S.es
theorem yE.below {B:Nat}{w w':World}{vl ve:Value}{S:bK}(h:yE B w vl ve S)(hb:Below w.heap.size w w'):yE B w' vl ve S:=⟨h.1.below hb,h.2.below hb⟩
theorem yE.none (B:Nat)(w:World):yE B w (.slice none 0 0) (.slice none 0 0) ⟨[],[]⟩:=⟨⟨[],rfl,World.ownsRow_nil _ _ _ _,fun x hx=>by cases hx⟩,World.ownsRow_nil _ _ _ _⟩
def vC (s:ByteArray)(w:World)(e:Ending)(w':World):Prop:=∃ vl ve,e=.returned (.tuple #[vl,ve,.int .i64 ((uS s).1:Int),.int .i64 ((uS s).2:Int)])/\Below w.heap.size w w'/\yE w.heap.size w' vl ve (xZ s)/\((uS s).1≠0->vl=.slice none 0 0/\ve=.slice none 0 0)
theorem vC.err {s:ByteArray}{w:World}{w':World}{n a:Nat}(h:kY s=.error (n,a))(hb:Below w.heap.size w w'):vC s w (.returned (.tuple #[.slice none 0 0,.slice none 0 0,.int .i64 (n:Int),.int .i64 (a:Int)])) w':=by
 obtain⟨h1,h2⟩:=YD h;exact⟨_,_,by rw[h2],hb,by rw[h1];exact yE.none _ _,fun _=>⟨rfl,rfl⟩⟩
theorem vC.ok {s:ByteArray}{w:World}{w':World}{S:bK}{vl ve:Value}(h:kY s=.ok S)(hb:Below w.heap.size w w')(hS:yE w.heap.size w' vl ve S):vC s w (.returned (.tuple #[vl,ve,.int .i64 0,.int .i64 0])) w':=by
 obtain⟨h1,h2⟩:=PG h;exact⟨_,_,by rw[h2];rfl,hb,by rw[h1];exact hS,fun h=>by rw[h2]at h;exact absurd rfl h⟩
theorem NR (s:ByteArray)(w:World)(hmax:s.size<=maxLen)(ht:jd w):Calls prog 7 #[.string s] w (vC s w):=by
 cases hm:eZ s with
 | error x =>
  have hx0:=Yp hm;have HR:Hid (kY s=.error (x.1,x.2)):=YC hm;have i1:((x.1:Int) == 0)=false:=zB0 (by omega);have i2:((x.1:Int) != 0)=true:=by simp;omega
  have i3:¬ (x.1:Int)=0:=by omega
  have i4:¬ x.1=0:=hx0;have HM:Hid (eZ s=.error x):=hm;clear hm hx0;go_enter func7,ntmps7
  go_wp2_with (go_at_call 13;refine (XB s w hmax ht).mono ?_;rintro e w1 ⟨v,n,a,rfl,hb1,-,sH⟩;obtain⟨rfl,rfl,rfl⟩:=sH x HM.out;unfold wZ;clear sH)
  exact bodyPost_ret (v:=.tuple #[.slice none 0 0,.slice none 0 0,.int .i64 (x.1:Int),.int .i64 (x.2:Int)]) (by simp[results,results7,go_sem]) rfl (vC.err HR.out (hb1.trans ((Below.refl _ w1).alloc (by have:=hb1.size;omega) _)))
 | ok g =>
  have hfit:=YB w hm;have hps:=Y0 hfit (Pp hm).2.2;have HM:Hid (eZ s=.ok g):=hm;clear hm;go_enter func7,ntmps7;go_upto_region 2 with (go_at_call 13;refine (XB s w hmax ht).mono ?_;rintro e w1 ⟨v,n,a,rfl,hb1,hok,-⟩;obtain⟨rfl,rfl,vT,vN,vP,vB,vK,rfl,h1,h2,h3,h4,h5⟩:=hok g HM.out;clear hok;obtain⟨ta,tc,rfl,-⟩:=aF h1;obtain⟨na,nc,rfl,-⟩:=aF h2;obtain⟨ba,bc,rfl,-⟩:=aF h4;obtain⟨ka,kc,rfl,-⟩:=aF h5;obtain⟨pa,pc,rfl,-⟩:∃ a c,vP=.slice a (bI g).length c/\(bI g).length<=maxLen:=by (obtain⟨ps,h1,h2,-⟩:=h3;exact aF h2))
  have hs1:=hb1.size;obtain⟨wB,Nu⟩:∃ W,W=w1.alloc (.cells #[.slice ta (aD g).length tc,.slice na (bg g).length nc,.slice pa (bI g).length pc,.slice ba (aD g).length bc,.slice ka (aD g).length kc] 45):=⟨_,rfl⟩;have hb2:Below w1.heap.size w1 wB:=by rw[Nu];exact (Below.refl _ _).alloc (zL0) _
  have kA:aj wB w1.heap.size #[.slice ta (aD g).length tc,.slice na (bg g).length nc,.slice pa (bI g).length pc,.slice ba (aD g).length bc,.slice ka (aD g).length kc] 45:=by rw[Nu];exact aj.new w1 _ 45
  rw[<-Nu];clear Nu h1 h2 h4 h5;have Ma:Below w.heap.size w wB:=hb1.trans (hb2.mono (by omega));have hsB:=Ma.size;have Sv:=h3.below hb2;have htB:jd wB:=((Lib.tabBelow_of_tabIs ht).on Ma).here;have a0:=kA.cell 0;have a1:=kA.cell 1;have a2:=kA.cell 2;have a3:=kA.cell 3;have a4:=kA.cell 4;simp only[List.getElem?_toArray,List.getElem?_cons_zero,List.getElem?_cons_succ]at a0 a1 a2 a3 a4;have HR1:Hid (jV (bI g) (DR g)=none->kY s=.error (8,0)):=XK HM.out;have HR2:Hid (∀ S,jV (bI g) (DR g)=some S->kY s=.ok S):=fun S h=>Zc HM.out h
  have hsz:DR g=(aD g).length+(bg g).length:=rfl;rw[hsz]at HR1 HR2;clear kA HM hfit h3 hsz;generalize (aD g).length=nT at *;generalize (bg g).length=nN at *;generalize bI g=P at *;have hmm:=@run_makeMap prog;obtain⟨W3,hW3⟩:∃ W,W=((wB.alloc (.map #[] 0)).alloc (.cells #[.slice ta nT tc,.slice na nN nc,.slice pa P.length pc,.slice ba nT bc,.slice ka nT kc,.map (some wB.heap.size),.slice none 0 0,.slice none 0 0] 64)).alloc (.cells #[.int .i64 0,.int .i64 0] 36):=⟨_,rfl⟩;have hb3:Below wB.heap.size wB W3:=by rw[hW3];exact (((Below.refl _ _).alloc (zL0) _).alloc (by simp) _).alloc (by simp;omega) _
  have qW:aj W3 (wB.heap.size+1) #[.slice ta nT tc,.slice na nN nc,.slice pa P.length pc,.slice ba nT bc,.slice ka nT kc,.map (some wB.heap.size),.slice none 0 0,.slice none 0 0] 64:=by rw[hW3];simpa using (aj.new (wB.alloc (.map #[] 0)) #[.slice ta nT tc,.slice na nN nc,.slice pa P.length pc,.slice ba nT bc,.slice ka nT kc,.map (some wB.heap.size),.slice none 0 0,.slice none 0 0] 64).alloc (.cells #[.int .i64 0,.int .i64 0] 36)
  have Nb:aj W3 (wB.heap.size+1+1) #[.int .i64 0,.int .i64 0] 36:=by rw[hW3];simpa using aj.new ((wB.alloc (.map #[] 0)).alloc (.cells #[.slice ta nT tc,.slice na nN nc,.slice pa P.length pc,.slice ba nT bc,.slice ka nT kc,.map (some wB.heap.size),.slice none 0 0,.slice none 0 0] 64)) #[.int .i64 0,.int .i64 0] 36
  have Ay:lJ W3 wB.heap.size []:=by
   have h0:=lJ.made wB;have h1:=h0.move (w':=(wB.alloc (.map #[] 0)).alloc (.cells #[.slice ta nT tc,.slice na nN nc,.slice pa P.length pc,.slice ba nT bc,.slice ka nT kc,.map (some wB.heap.size),.slice none 0 0,.slice none 0 0] 64)) (Below.heap_alloc _ _ _ h0.lt);rw[hW3];exact h1.move (Below.heap_alloc _ _ _ h1.lt)
  have hf3:nD wB W3 (wB.heap.size+1) wB.heap.size (.slice ta nT tc) (.slice na nN nc) (.slice pa P.length pc) (.slice ba nT bc) (.slice ka nT kc) (.slice none 0 0) ⟨[],[]⟩:=⟨_,qW,Ay,⟨[],rfl,World.ownsRow_nil _ _ _ _,fun x hx=>by cases hx⟩,World.ownsRow_nil _ _ _ _,by omega,by omega,hb3⟩;have Jh:aJ 36 2 dI wB.heap.size W3 (.slice (some ⟨wB.heap.size+1+1,0,none⟩) 1 1) [(0,0)]:=Po Nb (by omega) rfl;have q5:=VP hf3 Jh (by simp) (by simp) (fun s hs=>by rw[List.mem_singleton]at hs;subst hs;exact⟨by omega,by omega⟩) (by simp) (by simp) htB;have HI0:Hid (ko P 0 0 ⟨[[(0,0)]],[]⟩):=ko.first P;have HO0:Hid (oh P ⟨[[(0,0)]],[]⟩):=oh.first hps;have Jo:Hid (jV P (nT+nN)=qG P (nT+nN) (302-0) 0 ⟨[[(0,0)]],[]⟩):=rfl;have hadd:(⟨uG [] [(0,0)],[]⟩:bK)=⟨[[(0,0)]],[]⟩:=rfl;clear Nb Jh hf3 Ay qW;go_upto_region 5 with fail
  go_upto_region 6 with (go_at_call 17;go_loud (rw[<-hW3];refine q5.mono ?_;rintro e w4 ⟨rfl,Az,-,hs4⟩))
  rw[hadd]at Az;clear hW3 hb3 q5 hadd hs4 hmm a0 a1 a2 a3 a4;generalize hf:wB.heap.size+1=f at *;generalize hmb:wB.heap.size=mb at Az;clear hf hmb;go_wp2_with fail
  go_loopg [10] 301 (fun m iv wr=>∃ (i:Nat) (S:bK) (ve:Value),i+m=301/\i<=300/\iv=.int .i64 (i:Int)/\nD wB wr f mb (.slice ta nT tc) (.slice na nN nc) (.slice pa P.length pc) (.slice ba nT bc) (.slice ka nT kc) ve S/\S.ks.length<=300/\S.es.length<=i*100000/\Hid (ko P i 0 S)/\Hid (oh P S)/\Hid (jV P (nT+nN)=qG P (nT+nN) (302-i) i S))
  case atStart=>exact⟨0,_,_,by omega,by omega,rfl,Az,by simp,by simp,HI0,HO0,Jo⟩
  case round =>
   clear Az HI0 HO0 Jo;revert wr;intro wz hrel;obtain⟨i,S,ve,hkj,akc,rfl,hf,hkl,hel,HI,HO,HA⟩:=hrel;obtain⟨vk,kF,hm,hK,hE,Ng,hBm,pF⟩:=id hf;obtain⟨va,vc,rfl,-⟩:=hK.len;have d6:wz.cell? ⟨f,6,none⟩=some (.slice va S.ks.length vc):=kF.cell 6;have d7:wz.cell? ⟨f,7,none⟩=some ve:=kF.cell 7;have hbw:Below w.heap.size w wz:=Ma.trans (pF.mono (by omega))
   by_cases hlt:i<S.ks.length
   ·obtain⟨Kn,hKn⟩:∃ K,S.ks[i]?=some K:=⟨_,List.getElem?_eq_getElem hlt⟩
    have hko:=HO.out i Kn hKn;have q9:=agQ hf Sv hps hKn hko (by have:=hko.len;omega) (HI.out.rise i Kn hKn) HI.out.nd hkl (by omega) htB;have HI2:Hid (ko P (i+1) 0 (Lx.leave P i Kn S (List.range (nT+nN)))):=ko.all1 hps HI.out hKn;have HO2:Hid (oh P (Lx.leave P i Kn S (List.range (nT+nN)))):=oh.leave hps _ S HO.out hKn;have LV:=XL (P:=P) (i:=i) (K:=Kn) (List.range (nT+nN)) S;rw[List.length_range]at LV;have Hu:=hps.M6;have HN:Hid (jV P (nT+nN)=if 300<(Lx.leave P i Kn S (List.range (nT+nN))).ks.length then none else qG P (nT+nN) (302 - (i+1)) (i+1) (Lx.leave P i Kn S (List.range (nT+nN)))):=by
     show _=_;rw[HA.out,WO (by omega) hKn]
    have adw:(Lx.leave P i Kn S (List.range (nT+nN))).es.length<=(i+1)*100000:=by omega
    have i1:(i:Int)<(S.ks.length:Int):=by omega
    clear HA HI HO hko hKn kF hm hK hE hf LV d7;generalize Lx.leave P i Kn S (List.range (nT+nN))=R at q9 HI2 HO2 HN adw;go_upto_region 10 with (go_at_call 18;go_loud (refine q9.mono ?_;rintro e w5 ⟨rfl,ve5,CV⟩))
    obtain⟨vk5,zA,EZ,wD,rR,-,-,alZ⟩:=id CV;obtain⟨va5,vc5,rfl,-⟩:=wD.len;have e6:w5.cell? ⟨f,6,none⟩=some (.slice va5 R.ks.length vc5):=zA.cell 6;have Cy:Below w.heap.size w w5:=Ma.trans (alZ.mono (by omega));clear q9 d6 zA EZ wD rR
    by_cases h3:300<R.ks.length
    ·have HR:Hid (kY s=.error (8,0)):=HR1.out (by rw[HN.out,if_pos h3])
     have j1:(300:Int)<(R.ks.length:Int):=by omega
     clear HN;go_wp2_with fail;exact bodyPost_ret (v:=.tuple #[.slice none 0 0,.slice none 0 0,.int .i64 8,.int .i64 0]) (by simp[results,results7,go_sem]) rfl (vC.err HR.out Cy)
    ·have zy:Hid (jV P (nT+nN)=qG P (nT+nN) (302 - (i+1)) (i+1) R):=by show _=_;rw[HN.out,if_neg h3]
     have j1:¬ (300:Int)<(R.ks.length:Int):=by omega
     clear HN;go_wp2_with fail;go_roundg (301 - (i+1))
     case measure=>omega
     case rel=>exact⟨i+1,R,ve5,by omega,by omega,by go_num,CV,by omega,adw,HI2,HO2,zy⟩
   ·have HR:Hid (kY s=.ok S):=HR2.out S (by rw[HA.out,XF (by omega) (by omega)])
    have i1:¬ (i:Int)<(S.ks.length:Int):=by omega
    clear HA HI HO;go_wp2_with fail
    go_quiet (fail)
    have hbd:Below wz.heap.size wz (wz.drewN nq):=⟨rfl,rfl,rfl,zL0,fun _ _=>rfl⟩;go_wp2_with fail;exact bodyPost_ret (v:=.tuple #[.slice va S.ks.length vc,ve,.int .i64 0,.int .i64 0]) (by simp[results,results7,go_sem]) rfl (vC.ok HR.out (hbw.trans (hbd.mono (by have:=hbw.size;omega))) ⟨(hK.below hbd).le (by omega),dm (aJ.below hE hbd) (by omega)⟩)
theorem ah8:kY ⟨#[97,32,61,32,65,59]⟩=.ok ⟨[[(0,0)],[(1,1)],[(0,1)]],[(0,1,1),(0,3,2)]⟩:=by kernel_rfl
theorem Pq (n:Int)(w:World):Calls prog 11 #[.int .i64 n] w fun e w'=>e=.returned (.int .i64 n)/\w'=w:=by
 go_enter func11,ntmps11;go_wp2_with fail;go_ret;exact⟨rfl,rfl⟩
theorem vC.at {s:ByteArray}{w:World}{e:Ending}{w':World}(h:vC s w e w'){S:bK}(hs:kY s=.ok S):∃ vl ve,e=.returned (.tuple #[vl,ve,.int .i64 0,.int .i64 0])/\Below w.heap.size w w'/\yE w.heap.size w' vl ve S:=by
 obtain⟨vl,ve,h1,h2,h3,-⟩:=h;obtain⟨e1,e2⟩:=PG hs;rw[e2]at h1;rw[e1]at h3;exact⟨vl,ve,h1,h2,h3⟩
theorem agU (w:World)(ht:jd w):Calls prog 12 #[] w fun e w'=>e=.returned (.bool true)/\Below w.heap.size w w':=by
 have q1:=NR ⟨#[97,32,61,32,65,59]⟩ w (by decide) ht;go_enter func12,ntmps12;go_upto_region 2 with (go_at_call 7;refine q1.mono ?_;intro e w1 hE;obtain⟨vl,ve,rfl,hb1,hK,Tp⟩:=hE.at ah8;obtain⟨la,lc,rfl,-⟩:=hK.len;obtain⟨ea,ec,rfl,-⟩:=aF Tp)
 obtain⟨g,cap,hv,-,-,hcs⟩:=aJ.at Ht Tp (j:=0) (by decide);cases hv;have c0:w1.cell? ⟨g,0,none⟩=some (.int .i64 0):=hcs 0 _ (by decide) rfl;have c1:w1.cell? ⟨g,1,none⟩=some (.int .i64 1):=hcs 1 _ (by decide) rfl;have c2:w1.cell? ⟨g,2,none⟩=some (.int .i64 1):=hcs 2 _ (by decide) rfl;clear q1 hK Tp hcs
 go_wp2_with (go_at_call 11;refine (Pq _ _).mono ?_;rintro e w' ⟨rfl,hw⟩;obtain rfl:=hw.symm)
 go_ret;exact⟨by simp,hb1⟩
theorem WT {B B':Nat}{w:World}{v u:Value}{es:List CU}(h:aJ 38 3 nP B w v es)(h':aJ 71 3 nP B' w u es):Calls prog 10 #[v,u] w fun e w'=>e=.returned (.bool true)/\Below w.heap.size w w':=by
 obtain⟨va,vc,rfl,hm⟩:∃ a c,v=Value.slice a es.length c/\es.length<=maxLen:=aF h;obtain⟨ua,uc,rfl,-⟩:∃ a c,u=Value.slice a es.length c/\es.length<=maxLen:=aF h';unfold maxLen at hm;go_enter func10,ntmps10;go_wp2_with fail
 go_loopg [5] es.length (fun m i wr=>∃ j:Nat,j+m=es.length/\i=.int .i64 (j:Int)/\Below w.heap.size w wr)
 case atStart=>exact⟨0,by omega,rfl,Below.refl _ _⟩
 case round =>
  revert wr;intro wz hrel;obtain⟨j,hkj,rfl,hbz⟩:=hrel;have hsz:=hbz.size
  by_cases hlt:j<es.length
  ·obtain⟨g,cap,hv,-,-,hcs⟩:=aJ.at Ht (aJ.below h hbz) hlt
   cases hv;obtain⟨g',cap',hv',-,-,hcs'⟩:=aJ.at Ht (aJ.below h' hbz) hlt;cases hv';have c0:=hcs 0 _ (by decide) rfl;have c1:=hcs 1 _ (by decide) rfl;have c2:=hcs 2 _ (by decide) rfl;have d0:=hcs' 0 _ (by decide) rfl;have d1:=hcs' 1 _ (by decide) rfl;have d2:=hcs' 2 _ (by decide) rfl;clear hcs hcs';generalize es[j]=x at c0 c1 c2 d0 d1 d2;obtain⟨x0,x1,x2⟩:=x;simp only[Nat.add_zero]at c0 c1 c2 d0 d1 d2;have i1:(0:Int)<=(j:Int):=by omega
   have i2:(j:Int)<(es.length:Int):=by omega
   have HZ:Hid (∀ nq,Below w.heap.size w (wz.drewN nq)):=fun nq=>hbz.trans ⟨rfl,rfl,rfl,zL0,fun _ _=>rfl⟩
   go_wp2_with fail
   go_quiet (fail)
   go_wp2_with fail;go_roundg (es.length - (j+1))
   case measure=>omega
   case rel=>exact⟨j+1,by omega,by go_num,HZ.out _⟩
  ·obtain rfl:j=es.length:=by omega
   go_wp2_with fail;go_ret;exact⟨rfl,hbz⟩
theorem UY {B B':Nat}{w:World}{v u:Value}{ks:List (List av)}(h:fD 34 36 B w v ks)(h':fD 69 70 B' w u ks):Calls prog 9 #[v,u] w fun e w'=>e=.returned (.bool true)/\Below w.heap.size w w':=by
 obtain⟨va,vc,rfl,hm⟩:=h.len;obtain⟨ua,uc,rfl,-⟩:=h'.len;unfold maxLen at hm;go_enter func9,ntmps9;go_wp2_with fail
 go_loopg [5] ks.length (fun m i wr=>∃ j:Nat,j+m=ks.length/\i=.int .i64 (j:Int)/\Below w.heap.size w wr)
 case atStart=>exact⟨0,by omega,rfl,Below.refl _ _⟩
 case round =>
  revert wr;intro wz hrel;obtain⟨j,hkj,rfl,hbz⟩:=hrel;have hsz:=hbz.size
  by_cases hlt:j<ks.length
  ·obtain⟨K,hK⟩:∃ K,ks[j]?=some K:=⟨_,List.getElem?_eq_getElem hlt⟩
   obtain⟨g,cap,a,c,hv,-,ck,rk⟩:=(h.below hbz).at hK;cases hv;obtain⟨g',cap',a',c',hv',-,ck',rk'⟩:=(h'.below hbz).at hK;cases hv';have hkm:K.length<=maxLen:=by obtain⟨_,_,-,h⟩:=aF rk;exact h
   unfold maxLen at hkm;have i1:(0:Int)<=(j:Int):=by omega
   have i2:(j:Int)<(ks.length:Int):=by omega
   go_wp2_with fail
   go_quiet (fail)
   obtain⟨wy,mq⟩:∃ V,V=wz.drewN nq:=⟨_,rfl⟩;have hby:Below wz.heap.size wz wy:=by rw[mq];exact⟨rfl,rfl,rfl,zL0,fun _ _=>rfl⟩
   rw[<-mq];clear mq;have hsy:=hby.size;go_wp2_with fail
   go_loopg [6] K.length (fun m i wr=>∃ p:Nat,p+m=K.length/\i=.int .i64 (p:Int)/\Below wz.heap.size wz wr)
   case atStart=>exact⟨0,by omega,rfl,hby⟩
   case round =>
    clear hby hsy;revert wr;intro wr hrel;obtain⟨p,hkp,rfl,hbr⟩:=hrel;have hsr:=hbr.size;have ek:=jS hbr ck;have ek':=jS hbr ck'
    by_cases He:p<K.length
    ·obtain⟨gx,amK,hvx,-,-,hcs⟩:=aJ.at qi (aJ.below rk hbr) He
     cases hvx;obtain⟨gx',al8,al0,-,-,hcs'⟩:=aJ.at qi (aJ.below rk' hbr) He;cases al0;have c0:=hcs 0 _ (by decide) rfl;have c1:=hcs 1 _ (by decide) rfl;have d0:=hcs' 0 _ (by decide) rfl;have d1:=hcs' 1 _ (by decide) rfl;clear hcs hcs';generalize K[p]=x at c0 c1 d0 d1;obtain⟨x0,x1⟩:=x;simp only[Nat.add_zero]at c0 c1 d0 d1;have j1:(0:Int)<=(p:Int):=by omega
     have j2:(p:Int)<(K.length:Int):=by omega
     have HZ:Hid (∀ nq,Below wz.heap.size wz (wr.drewN nq)):=fun nq=>hbr.trans ⟨rfl,rfl,rfl,zL0,fun _ _=>rfl⟩
     go_wp2_with fail
     go_quiet (fail)
     go_wp2_with fail;go_roundg (K.length - (p+1))
     case measure=>omega
     case rel=>exact⟨p+1,by omega,by go_num,HZ.out _⟩
    ·obtain rfl:p=K.length:=by omega
     go_wp2_with fail;go_roundg (ks.length - (j+1))
     case measure=>omega
     case rel=>exact⟨j+1,by omega,by go_num,hbz.trans (hbr.mono hsz)⟩
  ·obtain rfl:j=ks.length:=by omega
   go_wp2_with fail;go_ret;exact⟨rfl,hbz⟩
structure Wr (B:Nat) (w w':World):Prop where
 low:Below B w w'
 keep:∀ (g:Nat) (cs:Array Value) (T:Nat),T≠36->T≠38->aj w g cs T->aj w' g cs T
 shape:∀ (g:Nat) (cs:Array Value) (T:Nat),aj w g cs T->∃ cs',aj w' g cs' T/\cs'.size=cs.size
theorem Wr.refl (B:Nat)(w:World):Wr B w w:=⟨Below.refl _ _,fun _ _ _ _ _ h=>h,fun _ cs _ h=>⟨cs,h,rfl⟩⟩
theorem Wr.set {B:Nat}{w w':World}(h:Wr B w w'){b T i:Nat}{cs:Array Value}(hb:aj w' b cs T)(hT:T=36\/T=38)(hB:B<=b)(v:Value):Wr B w (w'.setCell ⟨b,i,none⟩ v):=by
 refine⟨h.low.setCell (p:=⟨b,i,none⟩) hB v,fun g cs' T' h1 h2 hg=>?_,fun g cs' T' hg=>?_⟩
 ·have hg':=h.keep g cs' T' h1 h2 hg
  refine hg'.other (fun e=>?_) v;subst e;unfold aj at hb hg';rw[hb]at hg';cases hg';rcases hT with rfl | rfl
  ·exact h1 rfl
  ·exact h2 rfl
 ·obtain⟨cs2,h1,h2⟩:=h.shape g cs' T' hg
  by_cases e:b=g
  ·subst e
   exact⟨_,h1.set i v,by simp[h2]⟩
  ·exact⟨cs2,h1.other e v,h2⟩
theorem Wr.row {B:Nat}{w w':World}(h:Wr B w w'){B' T z:Nat}{v:Value}{n:Nat}{xs:List Value}(hr:w.ownsRow B' T z v n xs)(h1:T≠36)(h2:T≠38):w'.ownsRow B' T z v n xs:=aC hr fun g hg=>by
 obtain⟨cur,hc⟩:=zN hr hg;exact (h.keep g cur T h1 h2 hc).trans hc.symm
theorem Wr.al1 {B:Nat}{w w':World}(h:Wr B w w'){B' S T:Nat}{v:Value}{ks:List (List av)}(hr:fD S T B' w v ks)(h1:S≠36)(h2:S≠38)(h3:T≠36)(h4:T≠38):fD S T B' w' v ks:=by
 obtain⟨xs,e,k1,k2⟩:=hr;exact⟨xs,e,h.row k1 h1 h2,fun x hx=>h.row (k2 x hx) h3 h4⟩
def N9 (w:World)(a:Addr):Prop:=w.cell? a=some (.int .i64 (-9))
theorem N9.set {w:World}{g k:Nat}(h:N9 w ⟨g,k,none⟩){b T i:Nat}{cs:Array Value}(hb:aj w b cs T):N9 (w.setCell ⟨b,i,none⟩ (.int .i64 (-9))) ⟨g,k,none⟩:=by
 unfold N9 at *
 by_cases e:g=b
 ·subst e
  rw[(hb.set i _).cell k];rw[hb.cell k]at h;rw[Array.getElem?_setIfInBounds]
  split
  ·rename_i e2
   subst e2;have:=(Array.getElem?_eq_some_iff.1 h).1;simp[this]
  ·exact h
 ·rw[World.cell?_of_block (w:=w) (zS0 e)]
  exact h
theorem N9.new {w:World}{b T i:Nat}{cs:Array Value}(hb:aj w b cs T)(hi:i<cs.size):N9 (w.setCell ⟨b,i,none⟩ (.int .i64 (-9))) ⟨b,i,none⟩:=by
 unfold N9;rw[(hb.set i _).cell i,Array.getElem?_setIfInBounds,if_pos rfl,if_pos hi]
def Done (xs:List ((Option Addr × Nat × Nat) × List av))(w:World)(i:Nat):Prop:=∀ (i':Nat) (x:(Option Addr × Nat × Nat) × List av) (g k:Nat),i'<i->xs[i']?=some x->x.1.1=some ⟨g,0,none⟩->k<x.2.length->N9 w ⟨g,k*2,none⟩
theorem Done.set {xs:List ((Option Addr × Nat × Nat) × List av)}{w:World}{i:Nat}(h:Done xs w i){b T j:Nat}{cs:Array Value}(hb:aj w b cs T):Done xs (w.setCell ⟨b,j,none⟩ (.int .i64 (-9))) i:=fun i' x g k h1 h2 h3 h4=>(h i' x g k h1 h2 h3 h4).set hb
theorem Done.below {xs:List ((Option Addr × Nat × Nat) × List av)}{w w':World}{i:Nat}(h:Done xs w i)(hb:Below w.heap.size w w'):Done xs w' i:=fun i' x g k h1 h2 h3 h4=>jS hb (h i' x g k h1 h2 h3 h4)
theorem Done.next {xs:List ((Option Addr × Nat × Nat) × List av)}{w:World}{i:Nat}(h:Done xs w i){x:(Option Addr × Nat × Nat) × List av}(hx:xs[i]?=some x)(hk:∀ g k,x.1.1=some ⟨g,0,none⟩->k<x.2.length->N9 w ⟨g,k*2,none⟩):Done xs w (i+1):=fun i' y g k h1 h2 h3 h4=>by
 by_cases e:i'=i
 ·subst e
  rw[hx]at h2;cases h2;exact hk g k h3 h4
 ·exact h i' y g k (by omega) h2 h3 h4
theorem Pt {S B n:Nat}{w:World}{v:Value}{xs:List ((Option Addr × Nat × Nat) × List av)}(h2:aJ S 1 Dx B w v xs)(hn:xs.length=n){j:Nat}{x:(Option Addr × Nat × Nat) × List av}(hx:xs[j]?=some x)(hxl:x.1.2.1=x.2.length):∃ g cap,v=.slice (some ⟨g,0,none⟩) n cap/\w.cell? ⟨g,j,none⟩=some (.slice x.1.1 x.2.length x.1.2.2):=by
 obtain⟨hlt,hxe⟩:=List.getElem?_eq_some_iff.1 hx;obtain⟨g,cap,hv,-,hl,hc⟩:=aJ.at KX h2 hlt;refine⟨g,cap,by rw[<-hn];exact hv,?_⟩;have:=hc 0 (uR x.1) (by decide) (by rw[hxe];rfl);rw[Nat.mul_one,Nat.add_zero]at this;rw[this];unfold uR;rw[hxl]
theorem YE {T B:Nat}{w:World}{x:(Option Addr × Nat × Nat) × List av}(h:aJ T 2 dI B w (uR x.1) x.2):x.1.2.1=x.2.length/\x.2.length<=maxLen:=by
 obtain⟨a,c,ha,hm⟩:=aF h;unfold uR at ha;injection ha with e1 e2 e3
 exact⟨e2,hm⟩
theorem aiU {B:Nat}{w:World}{v:Value}{es:List CU}(h:aJ 38 3 nP B w v es)(hp:0<es.length):∃ g c cs,v=.slice (some ⟨g,0,none⟩) es.length c/\B<=g/\aj w g cs 38/\es.length*3<=cs.size:=by
 rcases h.2 with ⟨-,h0⟩ | ⟨g,cap,cur,hv,hB,hg,hc,-,hs,-⟩
 ·omega
 ·exact⟨g,cap,cur,hv,hB,hg,by rw[hs];exact Nat.mul_le_mul_right 3 hc⟩
theorem YF {B:Nat}{w:World}{x:(Option Addr × Nat × Nat) × List av}(h:aJ 36 2 dI B w (uR x.1) x.2)(hp:0<x.2.length):∃ g cs,x.1.1=some ⟨g,0,none⟩/\B<=g/\aj w g cs 36/\x.2.length*2<=cs.size:=by
 rcases h.2 with ⟨-,h0⟩ | ⟨g,cap,cur,hv,hB,hg,hc,-,hs,-⟩
 ·omega
 ·unfold uR at hv
  injection hv with e1 e2 e3
  exact⟨g,cur,e1,hB,hg,by rw[hs];exact Nat.mul_le_mul_right 2 hc⟩
theorem jd.below {w w':World}(ht:jd w)(hb:Below w.heap.size w w'):jd w':=((Lib.tabBelow_of_tabIs ht).on hb).here
theorem aep (s:ByteArray)(w:World)(hmax:s.size<=maxLen)(ht:jd w):Calls prog 3 #[.string s] w fun e w'=>e=.returned (.bool true)/\Below w.heap.size w w':=by
 have HT:Hid (∀ w',Below w.heap.size w w'->jd w'):=fun w' hb=>ht.below hb
 have HP:Hid (∀ w',Below w.heap.size w w'->Calls prog 7 #[.string s] w' (vC s w')):=fun w' hb=>NR s w' hmax (HT.out w' hb)
 have HQ:Hid (∀ w',Calls prog 8 #[.string s] w' (yN s w')):=fun w'=>ad2 s w'
 have q1:=NR s w hmax ht;clear hmax ht;go_enter func3,ntmps3;go_upto_region 2 with (go_at_call 7;refine q1.mono ?_;rintro e w1 ⟨vl,ve,rfl,hb1,hP1,hz1⟩)
 clear q1;have q2:=HQ.out w1;go_upto_region 3 with (go_at_call 8;refine q2.mono ?_;rintro e w2 ⟨ml,me,rfl,hb2,hD2,-⟩)
 clear q2;have hs1:=hb1.size;have hs2:=hb2.size;have hP2:=hP1.below hb2;have q3:=UY hP2.1 hD2.1;go_upto_region 4 with (go_at_call 9;refine q3.mono ?_;rintro e w3 ⟨rfl,hb3⟩)
 have hs3:=hb3.size;have hP3:=hP2.below hb3;have hD3:=hD2.below hb3;have q4:=WT hP3.2 hD3.2;go_upto_region 5 with (go_at_call 10;refine q4.mono ?_;rintro e w4 ⟨rfl,hb4⟩)
 have hs4:=hb4.size;have eY:=hP3.below hb4;have hD4:=hD3.below hb4;have Cz:Below w.heap.size w w4:=hb1.trans ((hb2.mono hs1).trans ((hb3.mono (by omega)).trans (hb4.mono (by omega))));clear q3 q4 hP1 hP2 hP3 hD2 hD3;generalize (uS s).2=na at *;generalize (uS s).1=nn at *;obtain⟨la,lc,hvl,hlm⟩:=eY.1.len;obtain⟨ea,ec,hve,hem⟩:∃ a c,ve=Value.slice a (xZ s).es.length c/\(xZ s).es.length<=maxLen:=aF eY.2;subst hvl hve;unfold maxLen at hlm hem;rcases Nat.eq_zero_or_pos nn with hn | hn
 case' inl =>
  subst hn;clear hz1;go_upto_region 7 with (go_at_call 11;refine (Pq _ _).mono ?_;rintro e w' ⟨rfl,hw⟩;obtain rfl:=hw.symm)
 case' inr =>
  obtain⟨e1,e2⟩:=hz1 (by omega);injection e1 with e1 e3 e4
  injection e2 with e2 e5 e6
  have hla:la.isNone=true:=by rw[e1];rfl
  have hea:ea.isNone=true:=by rw[e2];rfl
  have i1:((nn:Int) == 0)=false:=zB0 (by omega);have i2:((nn:Int) != 0)=true:=by simp;omega
  have i3:¬ (nn:Int)=0:=by omega
  have i4:¬ nn=0:=by omega
  clear hz1 e1 e2 e3 e4 e5 e6;go_upto_region 7 with (go_at_call 11;refine (Pq _ _).mono ?_;rintro e w' ⟨rfl,hw⟩;obtain rfl:=hw.symm)
  clear hla hea i1 i2 i3 i4
 all_goals
  obtain⟨xs,hxs,hx2,hx3⟩:=eY.1;have I7:=eY.2;generalize hSg:xZ s=S at *;have HS:Hid (xZ s=S):=hSg;have hxl:xs.length=S.ks.length:=by rw[<-hxs,List.length_map]
  have wO:Hid (xs.length=S.ks.length):=hxl;have Tq:Hid (∀ x∈xs,aJ 36 2 dI w.heap.size w4 (uR x.1) x.2):=hx3;have HD4:Hid (oH w1.heap.size w4 ml me S):=hD4;have HD0:Hid (Done xs w4 0):=fun i' x g k h=>absurd h (Nat.not_lt_zero _)
  have hW0:Wr w.heap.size w4 w4:=Wr.refl _ _;clear eY hxs hx3 hSg hxl hD4;go_wp2_with fail
  go_loopg [13] S.ks.length (fun m i wr=>∃ j:Nat,j+m=S.ks.length/\i=.int .i64 (j:Int)/\Wr w.heap.size w4 wr/\Hid (Done xs wr j))
  case atStart=>exact⟨0,by omega,rfl,hW0,HD0⟩
  case round =>
   clear HD0 hW0;revert wr;intro wz hrel;obtain⟨j,hkj,rfl,Jw,Nv⟩:=hrel
   by_cases hlt:j<S.ks.length
   ·obtain⟨x,hx⟩:∃ x,xs[j]?=some x:=⟨_,List.getElem?_eq_getElem (by rw[wO.out];exact hlt)⟩
    have hx3:=Tq.out x (List.mem_of_getElem? hx);obtain⟨hxn,hxm⟩:=YE hx3;unfold maxLen at hxm;obtain⟨g,cap,hv,ck⟩:=Pt (Jw.row hx2 (by decide) (by decide)) wO.out hx hxn;cases hv;have HKc:Hid (∀ wr,Wr w.heap.size w4 wr->wr.cell? ⟨g,j,none⟩=some (.slice x.1.1 x.2.length x.1.2.2)):=fun wr hwr=>by
     obtain⟨g2,cap2,hv2,ck2⟩:=Pt (hwr.row hx2 (by decide) (by decide)) wO.out hx hxn;cases hv2;exact ck2
    have FI:Hid (∀ wr,Done xs wr j->(∀ gx k,x.1.1=some ⟨gx,0,none⟩->k<x.2.length->N9 wr ⟨gx,k*2,none⟩)->Done xs wr (j+1)):=fun wr h1 h2=>h1.next hx h2
    have FJ:Hid (0<x.2.length->∃ gx cs,x.1.1=some ⟨gx,0,none⟩/\w.heap.size<=gx/\aj w4 gx cs 36/\x.2.length*2<=cs.size):=fun h=>YF hx3 h
    have i1:(0:Int)<=(j:Int):=by omega
    have i2:(j:Int)<(S.ks.length:Int):=by omega
    have Tt:Hid (∀ gx k,x.1.1=some ⟨gx,0,none⟩->k<0->N9 wz ⟨gx,k*2,none⟩):=fun gx k _ h=>absurd h (Nat.not_lt_zero _)
    obtain⟨⟨xa,xn,xc⟩,xK⟩:=x;simp only at HKc FI FJ hxm hxn Tt;clear hx hx3 hxn ck;go_wp2_with fail
    go_loopg [14] xK.length (fun m i wr=>∃ k:Nat,k+m=xK.length/\i=.int .i64 (k:Int)/\Wr w.heap.size w4 wr/\Hid (Done xs wr j)/\Hid (∀ gx k',xa=some ⟨gx,0,none⟩->k'<k->N9 wr ⟨gx,k'*2,none⟩))
    case atStart=>exact⟨0,by omega,rfl,Jw,Nv,Tt⟩
    case round =>
     clear Tt Nv Jw;revert wr;intro wr hrel;obtain⟨k,hkk,rfl,uU,Bq,Tv⟩:=hrel;have ck:=HKc.out wr uU
     by_cases hltk:k<xK.length
     ·obtain⟨gx,cs,rfl,hBx,hkx,hxs⟩:=FJ.out (by omega)
      obtain⟨cs',hkr,hcs'⟩:=uU.shape gx cs 36 hkx;have hik:k*2<cs'.size:=by omega
      have c0:wr.cell? ⟨gx,k*2,none⟩=some cs'[k*2]:=by rw[hkr.cell (k*2)];exact Array.getElem?_eq_getElem hik
      have f0:wr.frozen? ⟨gx,k*2,none⟩=false:=hkr.frozen _;have Tw:Hid (Wr w.heap.size w4 (wr.setCell ⟨gx,k*2,none⟩ (.int .i64 (-9)))):=uU.set hkr (.inl rfl) hBx _;have HDn:Hid (Done xs (wr.setCell ⟨gx,k*2,none⟩ (.int .i64 (-9))) j):=Bq.out.set hkr;have HNn:Hid (∀ g' k',(some ⟨gx,0,none⟩:Option Addr)=some ⟨g',0,none⟩->k'<k+1->N9 (wr.setCell ⟨gx,k*2,none⟩ (.int .i64 (-9))) ⟨g',k'*2,none⟩):=fun g' k' h1 h2=>by
       injection h1 with h1
       injection h1 with h1
       subst h1
       by_cases e:k'=k
       ·subst e;exact N9.new hkr hik
       ·exact (Tv.out gx k' rfl (by omega)).set hkr
      generalize cs'[k*2]=cv at c0;have j1:(0:Int)<=(k:Int):=by omega
      have j2:(k:Int)<(xK.length:Int):=by omega
      clear Bq Tv FI FJ;go_wp2_with fail;go_roundg (xK.length - (k+1))
      case measure=>omega
      case rel=>exact⟨k+1,by omega,by go_num,Tw.out,HDn,HNn⟩
     ·obtain rfl:k=xK.length:=by omega
      have HDn:Hid (Done xs wr (j+1)):=FI.out wr Bq.out (fun gx k h1 h2=>Tv.out gx k h1 h2);go_wp2_with fail;go_roundg (S.ks.length - (j+1))
      case measure=>omega
      case rel=>exact⟨j+1,by omega,by go_num,uU,HDn⟩
   ·obtain rfl:j=S.ks.length:=by omega
    go_wp2_with fail
    go_loopg [15] S.es.length (fun m i wr=>∃ j:Nat,j+m=S.es.length/\i=.int .i64 (j:Int)/\Wr w.heap.size w4 wr/\Hid (Done xs wr S.ks.length))
    case atStart=>exact⟨0,by omega,rfl,Jw,Nv⟩
    case round =>
     clear Nv Jw;revert wr;intro wr hrel;obtain⟨j,amL,rfl,uU,Bq⟩:=hrel
     by_cases amM:j<S.es.length
     ·obtain⟨ge,ce,cs,hv,hBe,hke,hes⟩:=aiU I7 (by omega)
      cases hv;obtain⟨cs',hkr,hcs'⟩:=uU.shape ge cs 38 hke;have hik:j*3+2<cs'.size:=by omega
      have c0:wr.cell? ⟨ge,j*3+2,none⟩=some cs'[j*3+2]:=by rw[hkr.cell (j*3+2)];exact Array.getElem?_eq_getElem hik
      have f0:wr.frozen? ⟨ge,j*3+2,none⟩=false:=hkr.frozen _;have Tw:Hid (Wr w.heap.size w4 (wr.setCell ⟨ge,j*3+2,none⟩ (.int .i64 (-9)))):=uU.set hkr (.inr rfl) hBe _;have HDn:Hid (Done xs (wr.setCell ⟨ge,j*3+2,none⟩ (.int .i64 (-9))) S.ks.length):=Bq.out.set hkr;generalize cs'[j*3+2]=cv at c0;have j1:(0:Int)<=(j:Int):=by omega
      have j2:(j:Int)<(S.es.length:Int):=by omega
      clear Bq;go_wp2_with fail;go_roundg (S.es.length - (j+1))
      case measure=>omega
      case rel=>exact⟨j+1,by omega,by go_num,Tw.out,HDn⟩
     ·obtain rfl:j=S.es.length:=by omega
      have hbr:Below w.heap.size w wr:=Cz.trans uU.low;have q5:=HP.out wr hbr;go_upto_region 19 with (go_at_call 7;refine q5.mono ?_;rintro e w6 ⟨vo,vn,rfl,hb6,Tx,-⟩)
      clear q5;rw[HS.out]at Tx;have hs6:=hb6.size;have hsr:=hbr.size;have LU:Below w.heap.size w w6:=hbr.trans (hb6.mono hsr);have hx6:aJ 34 1 Dx w.heap.size w6 _ xs:=aJ.below (uU.row hx2 (by decide) (by decide)) hb6;have HD6:Hid (Done xs w6 S.ks.length):=Bq.out.below hb6;have nX:fD 69 70 w1.heap.size w6 ml S.ks:=(uU.al1 HD4.out.1 (by decide) (by decide) (by decide) (by decide)).below hb6;have kP:aJ 71 3 nP w1.heap.size w6 me S.es:=aJ.below (uU.row HD4.out.2 (by decide) (by decide)) hb6;clear Bq uU I7 hx2;go_wp2_with fail
      go_loopg [20] S.ks.length (fun m i wr=>∃ j:Nat,j+m=S.ks.length/\i=.int .i64 (j:Int)/\wr=w6)
      case atStart=>exact⟨0,by omega,rfl,rfl⟩
      case round =>
       revert wr;intro wr hrel;obtain⟨j,amN,rfl,tL⟩:=hrel;obtain rfl:=tL.symm
       by_cases Zv:j<S.ks.length
       ·obtain⟨x,hx⟩:∃ x,xs[j]?=some x:=⟨_,List.getElem?_eq_getElem (by rw[wO.out];exact Zv)⟩
        obtain⟨hxn,hxm⟩:=YE (Tq.out x (List.mem_of_getElem? hx));unfold maxLen at hxm;obtain⟨g,cap,hv,ck⟩:=Pt hx6 wO.out hx hxn;cases hv;have FI:Hid (∀ gx k,x.1.1=some ⟨gx,0,none⟩->k<x.2.length->N9 w6 ⟨gx,k*2,none⟩):=fun gx k h1 h2=>HD6.out j x gx k Zv hx h1 h2
        have FJ:Hid (0<x.2.length->∃ gx cs,x.1.1=some ⟨gx,0,none⟩/\w.heap.size<=gx/\aj w4 gx cs 36/\x.2.length*2<=cs.size):=fun h=>YF (Tq.out x (List.mem_of_getElem? hx)) h
        have i1:(0:Int)<=(j:Int):=by omega
        have i2:(j:Int)<(S.ks.length:Int):=by omega
        obtain⟨⟨xa,xn,xc⟩,xK⟩:=x;simp only at FI FJ hxm hxn ck;clear hx hxn;go_wp2_with fail
        go_loopg [21] xK.length (fun m i wr=>∃ k:Nat,k+m=xK.length/\i=.int .i64 (k:Int)/\wr=w6)
        case atStart=>exact⟨0,by omega,rfl,rfl⟩
        case round =>
         revert wr;intro wr hrel;obtain⟨k,hkk,rfl,tL⟩:=hrel;obtain rfl:=tL.symm
         by_cases hltk:k<xK.length
         ·obtain⟨gx,cs,rfl,-,-,-⟩:=FJ.out (by omega)
          have c0:w6.cell? ⟨gx,k*2,none⟩=some (.int .i64 (-9)):=FI.out gx k rfl hltk;have j1:(0:Int)<=(k:Int):=by omega
          have j2:(k:Int)<(xK.length:Int):=by omega
          go_wp2_with fail;go_roundg (xK.length - (k+1))
          case measure=>omega
          case rel=>exact⟨k+1,by omega,by go_num,rfl⟩
         ·obtain rfl:k=xK.length:=by omega
          go_wp2_with fail;go_roundg (S.ks.length - (j+1))
          case measure=>omega
          case rel=>exact⟨j+1,by omega,by go_num,rfl⟩
       ·obtain rfl:j=S.ks.length:=by omega
        have q7:=UY Tx.1 nX;go_upto_region 28 with (go_at_call 9;refine q7.mono ?_;rintro e w7 ⟨rfl,jc⟩)
        have hs7:=jc.size;have q8:=WT (aJ.below Tx.2 jc) (aJ.below kP jc);go_upto_region 29 with (go_at_call 10;refine q8.mono ?_;rintro e w8 ⟨rfl,jR⟩)
        have hs8:=jR.size;have amO:=LU.size;have QX:Below w.heap.size w w8:=LU.trans ((jc.mono (by omega)).trans (jR.mono (by omega)));have q9:=agU w8 (HT.out w8 QX);have al2:=QX.size;clear q7 q8
        go_wp2_with (go_at_call 12;refine q9.mono ?_;rintro e w9 ⟨rfl,zh⟩)
        go_ret;exact⟨rfl,QX.trans (zh.mono al2)⟩
end Go.Proofs.YtjaalkocdbkdeaaGreatDoor

import Derived.Test.YtagkodkijkpemaaGreatDoorRA37
set_option maxHeartbeats 8000000
set_option maxRecDepth 1000000
namespace Go.Proofs.YtagkodkijkpemaaGreatDoor
open Lx Go.Proofs.Tryz
open Go.RowKit Tr
theorem alD{w:World}{B g e k:Nat}{cs:Array Value}(h:aj w g cs e)(b:B<=g)(a:cs.size=k):w.ownsRow B e k (.slice (some ⟨g,0,none⟩) 1 1) 1 cs.toList:=by
 refine⟨by rw[sL,<-a];rfl,.inr ⟨g,1,cs,rfl,b,h,zL0,by unfold maxLen;omega,by omega,?_⟩⟩;rw[sL,<-a];exact ft
theorem jA.le{S T B B':Nat}{w:World}{v:Value}{ks:List (List au)}(h:jA S T B w v ks)(a:B'<=B):jA S T B' w v ks:=by
 obtain⟨c,h1,h2,h3⟩:=h;exact⟨c,h1,jc h2 a,fun x b=>jc (h3 x b) a⟩
theorem Tryz.alE:(prog.info? 161).map (fun i=>(i.zero,i.size,i.bytes))=some (some (.slice none 0 0),1,24):=by kernel_rfl
theorem Tryz.ae7:prog.underlying 92=some (.slice 161):=by kernel_rfl
theorem Tryz.alF:(prog.info? 173).map (fun i=>(i.zero,i.size,i.bytes))=some (some (.agg #[.int .i64 0,.int .i64 0,.int .i64 0]),3,24):=by kernel_rfl
theorem Tryz.ae8:prog.underlying 93=some (.slice 173):=by kernel_rfl
theorem FE{w w':World}{B e z:Nat}{v:Value}{n:Nat}{c:List Value}(h:w.ownsRow B e z v n c){b:Nat}(d:∀g,v.ownBlock=some g->g≠b)(f:∀g,g<w.heap.size->g≠b->w'.heap[g]?=w.heap[g]?):w'.ownsRow B e z v n c:=aC h fun g a=>f g (p6 h g a).2 (d g a)
theorem Jf{w:World}{B e z:Nat}{v:Value}{n:Nat}{l:List Value}(h:w.ownsRow B e z v n l){b:Nat}{f:Array MapEntry}{c:Nat}(d:w.heap[b]?=some (.map f c)):∀g,v.ownBlock=some g->g≠b:=by
 intro g k i;obtain⟨j,a⟩:=eU h k;rw[i,d]at a;cases a
theorem jA.but{S T B:Nat}{w w':World}{v:Value}{ks:List (List au)}(h:jA S T B w v ks){b:Nat}(a:∀(e:Nat)(z:Nat)(u:Value)(n:Nat)(xs:List Value),(e=S\/e=T)->w.ownsRow B e z u n xs->∀g,u.ownBlock=some g->g≠b)(d:∀g,g<w.heap.size->g≠b->w'.heap[g]?=w.heap[g]?):jA S T B w' v ks:=by
 obtain⟨xs,h1,h2,h3⟩:=h;exact⟨xs,h1,FE h2 (a S 1 v _ _ (.inl rfl) h2) d,fun x c=>FE (h3 x c) (a T 2 _ _ _ (.inr rfl) (h3 x c)) d⟩
def nD(wB w:World)(f mb:Nat)(vT vN vP vB vQ ve:Value)(S:bX):Prop:=∃vk,aj w f #[vT,vN,vP,vB,vQ,.map (some mb),vk,ve] 157/\lJ w mb (S.ks.map qb)/\jA 161 160 wB.heap.size w vk S.ks/\aN 173 3 uZ wB.heap.size w ve S.es/\wB.heap.size<=f/\wB.heap.size<=mb/\Below wB.heap.size wB w
theorem nD.below{k w w':World}{f i:Nat}{j b vP vB c d:Value}{S:bX}(h:nD k w f i j b vP vB c d S)(a:Below w.heap.size w w'):nD k w' f i j b vP vB c d S:=by
 obtain⟨m,h1,h2,h3,h4,l,n,g⟩:=h;exact⟨m,(a.block _ h1.lt).trans h1,h2.move (a.block _ h2.lt),h3.below a,h4.below a,l,n,g.trans (a.mono g.size)⟩
def kU(w w':World):Prop:=∀(g:Nat)(cs:Array Value),aj w g cs 238->aj w' g cs 238
theorem kU.trans{a b c:World}(h:kU a b)(k:kU b c):kU a c:=fun g d f=>k g d (h g d f)
theorem kU.below{w w':World}(b:Below w.heap.size w w'):kU w w':=fun g _ a=>(b.block g a.lt).trans a
theorem kU.but{w w':World}{b:Nat}(d:∀g,g<w.heap.size->g≠b->w'.heap[g]?=w.heap[g]?)(c:∀cs,¬aj w b cs 238):kU w w':=fun g cs a=>(d g a.lt (fun e=>c cs (e▸a))).trans a
theorem kU.row{w w':World}(h:kU w w'){B z:Nat}{v:Value}{n:Nat}{d:List Value}(b:w.ownsRow B 238 z v n d):w'.ownsRow B 238 z v n d:=aC b fun g f=>by
 obtain⟨a,c⟩:=eU b f;exact(h g a c).trans c.symm
theorem nD.put{a w:World}{f b:Nat}{s o vP vB m B i l:Value}{ks:List (List au)}{q:List KW}(c:aj w f #[s,o,vP,vB,m,.map (some b),B,l] 157)(k:lJ w b (ks.map qb))(y:jA 161 160 a.heap.size w i ks)(r:aN 173 3 uZ a.heap.size w l q)(h1:a.heap.size<=f)(h2:a.heap.size<=b)(v:Below a.heap.size a w):nD a (w.setCell ⟨f,6,none⟩ i) f b s o vP vB m l ⟨ks,q⟩:=by
 have j:∀g,g<w.heap.size->g≠f->(w.setCell ⟨f,6,none⟩ i).heap[g]?=w.heap[g]?:=fun g _ x=>zS0 x
 have A:b≠f:=fun e=>by
  obtain⟨t,D,d,-⟩:=k;unfold aj at c;rw[e,c]at d;cases d
 refine⟨i,c.set 6 _,k.move (j b k.lt A),y.but (fun e z u n E C h=>own_ne h c (by rcases C with rfl | rfl <;> decide)) j,FE r (own_ne r c (by decide)) j,h1,h2,v.setCell (p:=⟨f,6,none⟩) h1 _⟩
def Lx.vw(ks:List (List au))(F:List au):List (List au):=if jm ks F<ks.length then ks else ks++[F]
def anM(wB w:World)(f mb:Nat)(vT vN vP vB vQ ve:Value)(S:bX)(F:List au)(e:Ending)(w':World):Prop:=e=.returned (.int .i64 (jm S.ks F:Int))/\nD wB w' f mb vT vN vP vB vQ ve ⟨vw S.ks F,S.es⟩/\kU w w'/\w.heap.size<=w'.heap.size
theorem Lx.abY{ks:List (List au)}{F:List au}(h:F∈ks):jm ks F<ks.length:=by
 unfold jm;rw[List.findIdx_lt_length];exact⟨F,h,by simp⟩
theorem Lx.aaX{ks:List (List au)}{F:List au}(h:F∉ks):jm ks F=ks.length:=akl fun _ _ hx e=>h (e▸cQ hx)
theorem Lx.alG{ks:List (List au)}{F:List au}:qb F∈ks.map qb↔F∈ks:=by
 constructor
 ·intro h
  obtain⟨x,a,e⟩:=ej.1 h;rw[<-abD e];exact a
 ·exact fun h=>ej.2 ⟨F,h,rfl⟩
theorem Lx.aiR{ks:List (List au)}(h:ks.Nodup):(ks.map qb).Nodup:=by
 rw[List.Nodup,rd];exact h.imp fun{a b}c e=>c (abD e)
theorem Ze{k w:World}{f A:Nat}{vT vN vP vB vQ W vF:Value}{S:bX}{F:List au}(hf:nD k w f A vT vN vP vB vQ W S)(U:aN 160 2 iJ k.heap.size w vF F)(al:F≠[])(hl:F.length<=1000000)(hs:∀s∈F,s.1<=1000000/\s.2<=1000000)(ai:S.ks.Nodup)(a4:S.ks.length<=1000000)(ht:fq k):Calls prog 65 #[.pointer (some ⟨f,0,none⟩),vF] w (anM k w f A vT vN vP vB vQ W S F):=by
 obtain⟨vk,kF,hm,hk,hE,PZ,N,E⟩:=hf;have af:fq w:=((Lib.tabBelow_of_tabIs ht).on E).here;have q1:=ag7 U al hl hs af;obtain⟨V,T,rfl,-⟩:=hk.len;obtain⟨p,q,rfl,-⟩:∃a c,vF=.slice a F.length c/\F.length<=maxLen:=aB U;have o:F∈S.ks->∃i:Nat,jm S.ks F=i/\i<S.ks.length/\(S.ks.map qb)[i]?=some (qb F):=fun h=>⟨_,rfl,abY h,by rw[dj,acL (abY h)];rfl⟩
 have R:=alG (ks:=S.ks) (F:=F);have Wi:=aiR ai;generalize htx:qb F=t at q1 o R;have ac:Hid (qb F=t):=htx;clear htx;go_enter func65,ntmps65;go_upto_region 2 with (go_at_call 102;refine q1.mono ?_;rintro e w1⟨rfl,d⟩)
 clear q1;have aq:=d.size;have D:aj w1 f _ 157:=(d.block _ kF.lt).trans kF;have r:=hm.move (d.block _ hm.lt);have d5:w1.cell? ⟨f,5,none⟩=some (.map (some A)):=D.cell 5;have d6:w1.cell? ⟨f,6,none⟩=some (.slice V S.ks.length T):=D.cell 6
 by_cases hin:F∈S.ks
 ·obtain⟨i,C,av,H⟩:=o hin
  have ah:=r.hit Wi H;have HI:Hid (jm S.ks F=i):=C;have HA:Hid (vw S.ks F=S.ks):=de (by rw[C];exact av);clear o R Wi C H hin d6;go_wp2_with fail;go_ret;exact⟨by rw[HI.out];rfl,by rw[HA.out];exact nD.below ⟨_,kF,hm,hk,hE,PZ,N,E⟩ d,kU.below d,aq⟩
 ·have ah:=r.miss (fun h=>hin (R.1 h))
  obtain⟨w2,ax,P,l,aw⟩:=r.put (fun h=>hin (R.1 h));have HI:Hid (jm S.ks F=S.ks.length):=aaX hin;have HA:Hid (vw S.ks F=S.ks++[F]):=dk (by rw[aaX hin];omega);rw[dt]at ax;obtain⟨es,a0,m,-⟩:=id r;have j:∀g,g<w1.heap.size->g≠A->w2.heap[g]?=w1.heap[g]?:=fun g J hn=>l.block g J (fun e=>hn (by injection e))
  have ao:f≠A:=fun e=>by unfold aj at D;rw[e,m]at D;cases D
  have Y:aj w2 f _ 157:=(j f D.lt ao).trans D;have ab:jA 161 160 k.heap.size w2 (.slice V S.ks.length T) S.ks:=(hk.below d).but (fun e z u n K _ h=>Jf h m) j;have ad:aN 173 3 uZ k.heap.size w2 W S.es:=FE (hE.below d) (Jf (hE.below d) m) j;have ag:aN 160 2 iJ k.heap.size w2 (.slice p F.length q) F:=FE (aN.below U d) (Jf (aN.below U d) m) j;have ae:kU w w2:=(kU.below d).trans (kU.but j fun cs h=>by unfold aj at h;rw[m]at h;cases h);have Z:Below k.heap.size k w2:=E.trans ((d.mono E.size).trans ⟨l.os,l.tape,l.output,l.size,fun b hb=>j b (by have:=E.size;omega) (by omega)⟩);have a1:w2.cell? ⟨f,6,none⟩=some (.slice V S.ks.length T):=Y.cell 6;have a6:w2.frozen? ⟨f,6,none⟩=false:=Y.frozen 6;obtain⟨K,Q,B,am⟩:=ab;have O:K.length=S.ks.length:=by rw[<-Q,dt]
  have M:Hid (K.length=S.ks.length):=O;have az:=E.size;have a2:w1.heap.size<=w2.heap.size:=by omega
  clear o R Wi hin l O j aw;go_upto_region 6 with fail
  go_wp2_with (at_builtin;go_loud (refine MW Tryz.alE Tryz.ae7 rfl (by decide) acK rfl _ _ rfl k.heap.size (by simp;omega) _ K rfl (aN.below B ((cV _ _).alloc (zL0) _)) ((p,F.length,q),F) _ 1 rfl (dI (aj.new _ _ 161)) (by have:=M.out;unfold maxLen;omega) (by have:=M.out;omega) ?_;intro v8 v CW nZ G GD;have L:aj v f _ 157:=(Y.alloc (.cells #[.slice p F.length q] 161)).grown G (fun e=>own_ne (aN.below B ((cV _ _).alloc (zL0) (.cells #[.slice p F.length q] 161))) (Y.alloc _) (by decide) f e.symm rfl);have a3:v.cell? ⟨f,6,none⟩=some (.slice V S.ks.length T):=L.cell 6;have a7:v.frozen? ⟨f,6,none⟩=false:=L.frozen 6;obtain⟨ya,yc,I,-⟩:=aB CW;rw[cH,gx]at I;subst I))
  go_ret;have X:=aN.below B ((cV _ w2).alloc (zL0) (.cells #[.slice p F.length q] 161));have an:jA 161 160 k.heap.size v (.slice ya (K.length+1) yc) (S.ks++[F]):=by
   rw[<-Q];exact jA.push (x:=((p,F.length,q),F)) X (fun y hy=>aN.below (am y hy) ((cV _ _).alloc (zL0) _)) (aN.below ag ((cV _ _).alloc (zL0) _)) (by decide) G CW
  have ap:aN 173 3 uZ k.heap.size v W S.es:=EX (aN.below ad ((cV _ w2).alloc (zL0) (.cells #[.slice p F.length q] 161))) X (by decide) G;have zC:=P.move (w':=w2.alloc (.cells #[.slice p F.length q] 161)) (di _ _ _ P.lt);have ak:lJ v A ((S.ks++[F]).map qb):=by
   rw[ei,List.map_singleton,ac.out];obtain⟨a5,UD,UE,-⟩:=id zC;exact zC.move (G.block A zC.lt (fun e=>Jf X UE A e.symm rfl))
  have aa:kU w v:=ae.trans ((kU.below ((cV _ w2).alloc (zL0) (.cells #[.slice p F.length q] 161))).trans fun g cs J=>(G.block g J.lt (fun e=>own_ne X J (by decide) g e.symm rfl)).trans J);have ar:Below k.heap.size k v:=Z.trans (((cV _ w2).alloc (by omega) _).trans nZ);exact⟨by rw[HI.out];rfl,by rw[HA.out];exact nD.put L ak an ap PZ N ar,aa.trans (kU.but (b:=f) (fun g _ hn=>zS0 hn) (fun cs h=>by unfold aj at h L;rw[L]at h;cases h)),by have:=nZ.size;simp at this|-;omega⟩
namespace Lx
theorem acN{n:Nat}:∀{T D:List (Nat×au)},(∀m∈T,m.1=n)->(∀m,D.head?=some m->m.1≠n)->(T++D).takeWhile (fun m=>decide (m.1=n))=T/\(T++D).dropWhile (fun m=>decide (m.1=n))=D
 | [],[],_,_=>⟨rfl,rfl⟩
 | [],d::D,_,h2=>by
  have:=h2 d rfl;simp[this]
 |t::T,D,h1,h2=>by
  obtain⟨c,a⟩:=acN (T:=T) (D:=D) (fun m b=>h1 m (ev _ b)) h2;have h3:=h1 t eh;simp only[fX];rw[List.takeWhile_cons,List.dropWhile_cons];simp only[h3,decide_true,qe];rw[c,a];exact⟨rfl,rfl⟩
theorem sH.step{i:Nat}{M:List (Nat×au)}{j q n:Nat}{S R:bX}(f:j<q)(g:q<=M.length)(b:∀m∈(M.drop j).take (q-j),m.1=n)(hd:∀m,M[q]?=some m->m.1≠n)(h:sH i (M.drop q) (Jw i S n (((M.drop j).take (q-j)).map Prod.snd)) R):sH i (M.drop j) S R:=by
 have e:M.drop j=(M.drop j).take (q-j)++M.drop q:=by
  have:=mn (q-j) (M.drop j);rw[List.drop_drop,show j+(q-j)=q by omega]at this;exact this.symm
 cases hT:(M.drop j).take (q-j) with
 |nil=>
  have:=eS List.length hT;simp only[fN,oe,iu]at this;omega
 |cons t T=>
  rw[hT]at e b h;have h3:=b t eh;obtain⟨d,c⟩:=acN (n:=n) (T:=T) (D:=M.drop q) (fun m a=>b m (ev _ a)) (fun m a=>hd m (by rw[List.head?_drop]at a;exact a));obtain⟨l,k⟩:=t;simp only at h3;subst h3;rw[e];simp only[fX];refine .aF ?_;rw[d,c];exact h
theorem akq{i n:Nat}{S:bX}{F:List au}:Jw i S n F=⟨vw S.ks F,S.es++[(i,n,jm S.ks F)]⟩:=by
 unfold Jw vw
 by_cases h:jm S.ks F<S.ks.length
 ·rw[de h,de h]
 ·rw[dk h,dk h]
  have:jm S.ks F<=S.ks.length:=List.findIdx_le_length;have e:jm S.ks F=S.ks.length:=by omega
  rw[e]
theorem ahp{ks:List (List au)}{F:List au}(h:ks.Nodup):(vw ks F).Nodup:=by
 unfold vw
 split
 ·exact h
 ·rename_i d
  rw[ik];refine⟨h,by simp,fun a f b c e=>?_⟩;rw[cM]at c;subst c;exact acM d (e▸f)
theorem akr{ks:List (List au)}{F:List au}:(vw ks F).length<=ks.length+1:=by
 unfold vw
 split
 ·omega
 ·simp
end Lx
theorem nD.anR{b w:World}{f c:Nat}{s o vP vB m l C a:Value}{ks:List (List au)}{q:List KW}(d:aj w f #[s,o,vP,vB,m,.map (some c),l,C] 157)(k:lJ w c (ks.map qb))(y:jA 161 160 b.heap.size w l ks)(r:aN 173 3 uZ b.heap.size w a q)(h1:b.heap.size<=f)(h2:b.heap.size<=c)(v:Below b.heap.size b w):nD b (w.setCell ⟨f,7,none⟩ a) f c s o vP vB m a ⟨ks,q⟩:=by
 have j:∀g,g<w.heap.size->g≠f->(w.setCell ⟨f,7,none⟩ a).heap[g]?=w.heap[g]?:=fun g _ x=>zS0 x
 have A:c≠f:=fun e=>by
  obtain⟨t,D,i,-⟩:=k;unfold aj at d;rw[e,d]at i;cases i
 refine⟨l,d.set 7 _,k.move (j c k.lt A),y.but (fun e z u n E B h=>own_ne h d (by rcases B with rfl | rfl <;> decide)) j,FE r (own_ne r d (by decide)) j,h1,h2,v.setCell (p:=⟨f,7,none⟩) h1 _⟩
end Go.Proofs.YtagkodkijkpemaaGreatDoor

import Derived.Test.YtagkodkijkpemaaGreatDoorRA23
set_option maxHeartbeats 8000000
set_option maxRecDepth 1000000
namespace Go.Proofs.YtagkodkijkpemaaGreatDoor
open Lx Go.Proofs.Tryz
open Go.RowKit
open Tr
def prQ(w:World)(g o:Nat)(p:Lx.Pd):Prop:=w.cell? ⟨g,o,none⟩=some (.int .i64 (p.left:Int))/\∃ra rc,w.cell? ⟨g,o+1,none⟩=some (.slice ra p.right.length rc)/\w.cell? ⟨g,o+2,none⟩=some (.int .i64 p.prec)
abbrev zu(w:World):=tK 3 (prQ w)
theorem zu.keep{w w':World}{v:Value}{l:List Lx.Pd}(h:zu w v l)(a:Below w.heap.size w w'):zu w' v l:=h.mono fun _ _ _⟨h1,c,b,h2,h3⟩=>⟨aV a h1,c,b,aV a h2,aV a h3⟩
theorem zu.of{D:Nat->Prop}{w:World}{v:Value}{P:List Lx.Pd}(h:PP D w v P):zu w v P:=by
 obtain⟨a,c,rfl,-⟩:=aB h.choose_spec.2.1;refine⟨a,c,rfl,fun i x m=>?_⟩;obtain⟨p,rfl⟩:=cG.1 m;obtain⟨g,l,u,f,j,o,k,d⟩:=PP.at h p;cases f;obtain⟨n,b,rfl,-⟩:=aB j;exact⟨g,rfl,o,n,b,k,d⟩
abbrev Er(w:World):=tK 1 (rQ w 2 (Cx w))
abbrev xX(w:World):=tK 1 (rQ w 1 (iQ w))
theorem Er.keep{w w':World}{v:Value}{l:List (List (Nat×Nat))}(h:Er w v l)(a:Below w.heap.size w w'):Er w' v l:=h.mono fun _ _ _=>rQ.keep a fun _ _ _=>Cx.keep a
theorem xX.keep{w w':World}{v:Value}{l:List (List Nat)}(h:xX w v l)(a:Below w.heap.size w w'):xX w' v l:=h.mono fun _ _ _=>rQ.keep a fun _ _ _=>iQ.keep a
namespace Pk
theorem abA{row:List (Nat×Nat)}{u:Nat}:∀{j:Nat}{x:Nat×Nat×Nat},x∈lT row u j->x.2.2<j
 |0,x,h=>by cases h
 |j+1,x,h=>by
  rw[lT,cY]at h;rcases h with h|h
  ·have:=abA h
   omega
  ·split at h
   ·split at h
    ·rw[cM]at h
     rw[h];show j<j+1;omega
    ·cases h
   ·cases h
theorem abB{a:List Nat}{o:Nat}:∀{j:Nat}{x:Nat×Nat×Nat},x∈mg a o j->x.2.2<o+j
 |0,x,h=>by cases h
 |j+1,x,h=>by
  rw[mg,cY]at h;rcases h with h|h
  ·have:=abB h
   omega
  ·split at h
   ·split at h
    ·rw[cM]at h
     rw[h];show o+j<o+(j+1);omega
    ·cases h
   ·cases h
theorem ajJ{row:List (Nat×Nat)}{a:List Nat}{u:Nat}{x:Nat×Nat×Nat}(h:x∈told row a u):x.2.2<row.length+a.length:=by
 rw[told,cY]at h;rcases h with h|h
 ·have:=abA h
  omega
 ·exact abB h
theorem ajK(row:List (Nat×Nat))(a:List Nat)(u:Nat):(told row a u).length<=row.length+a.length:=by
 have h1:=Nn row u row.length;have h2:=Sq a row.length a.length;rw[told,cH];omega
theorem acp(a:Nat)(cs:List (List (Nat×Nat)))(b:List (List Nat)):∀k,(mk a cs b k).ay.length=k
 |0=>rfl
 |k+1=>by
  show ((mk a cs b k).ay++[_]).length=k+1;rw[cH,acp a cs b k];rfl
theorem acr(a:Nat)(cs:List (List (Nat×Nat)))(b:List (List Nat)):∀k,(mk a cs b k).aI.length=k
 |0=>rfl
 |k+1=>by
  show ((mk a cs b k).aI++[_]).length=k+1;rw[cH,acr a cs b k];rfl
def gu(P:List Lx.Pd):List (Nat×Nat):=P.map fun p=>(p.left,p.right.length)
end Pk
def NpE(w:World)(vT vN:Value)(P:List Lx.Pd)(cs:List (List (Nat×Nat)))(gs:List (List Nat))(e:Ending)(w':World):Prop:=∃w1 pb vs,e=.returned (.pointer (some ⟨pb,0,none⟩))/\Below w.heap.size w w1/\w.heap.size<=w1.heap.size/\bZ w1 w1.heap.size pb vT vN vs w' (Pk.gu P) (Pk.mk P.length cs gs cs.length)
theorem aga{w:World}{ta na:Option Addr}{nT tc nN nc:Nat}{vP vB vK vc vg:Value}{P:List Lx.Pd}{cs:List (List (Nat×Nat))}{f:List (List Nat)}(hP:zu w vP P)(hc:Er w vc cs)(hg:xX w vg f)(hl:cs.length=f.length)(h0:0<P.length)(hp:P.length<=100000)(O:∀r∈cs,r.length<=100000/\∀x∈r,x.1=2->x.2<P.length)(M:∀r∈f,r.length<=100000)(S:∀k,k<=cs.length->(Pk.mk P.length cs f k).ak.length<=1000000)(aE:cs.length<=1000000):Calls prog 23 #[.agg #[.slice ta nT tc,.slice na nN nc,vP,vB,vK],vc,vg] w (NpE w (.slice ta nT tc) (.slice na nN nc) P cs f):=by
 obtain⟨i3,a1,DT,DU,aw⟩:=fd Tryz.info3';obtain⟨i8,VJ,Un,Uo,Uq⟩:=fd Tryz.aci;have s4:Sl 4:=.inr (.inr (.inl rfl));have s5:Sl 5:=.inr (.inr (.inr rfl));obtain⟨w1,J⟩:∃V,V=w.alloc (.cells #[.slice ta nT tc,.slice na nN nc,vP,vB,vK] 56):=⟨_,rfl⟩;have A:Below w.heap.size w w1:=by rw[J];exact(cV _ _).alloc (zL0) _
 obtain⟨b0,ab⟩:∃b,w.heap.size=b:=⟨_,rfl⟩;have Gz:aj w1 b0 #[.slice ta nT tc,.slice na nN nc,vP,vB,vK] 56:=by rw[J,<-ab];exact aj.new ..
 have a7:=hP.keep A;have ax:=hc.keep A;have a4:=hg.keep A;clear hP hc hg;obtain⟨pa,pc,rfl,al⟩:=a7;obtain⟨ca,cc,rfl,am⟩:=ax;obtain⟨ga,gc,rfl,aa⟩:=a4;obtain⟨w2,G⟩:∃V,V=w1.alloc (.cells #[.slice none 0 0,.slice none 0 0,.slice ta nT tc,.slice na nN nc,.slice none 0 0,.slice none 0 0] 79):=⟨_,rfl⟩;obtain⟨B,L⟩:∃B,w1.heap.size=B:=⟨_,rfl⟩;have k2:aj w2 B #[.slice none 0 0,.slice none 0 0,.slice ta nT tc,.slice na nN nc,.slice none 0 0,.slice none 0 0] 79:=by rw[G,<-L];exact aj.new ..
 have H:bZ w1 B B (.slice ta nT tc) (.slice na nN nc) (fun _=>.slice none 0 0) w2 [] ⟨[],[],[]⟩ :=
  ⟨k2,fun k hk=>by rcases hk with rfl | rfl | rfl | rfl <;> exact eE _ _ _ _,fun _ _ _ _ _ _ e=>(by cases e),by rw[G,<-L];exact(cV _ _).alloc (zL0) _,zL0⟩
 have H0:Hid (∃d,bZ w1 B B (.slice ta nT tc) (.slice na nN nc) d w2 (Pk.gu (P.take 0)) ⟨[],[],[]⟩):=⟨_,H⟩;have HK:Hid (∀d wr Q m,bZ w1 B B (.slice ta nT tc) (.slice na nN nc) d wr Q m->wr.cell? ⟨b0,2,none⟩=some (.slice pa P.length pc)/\b0<wr.heap.size):=fun d wr Q m h=>by
  have:aj wr b0 _ 56:=(h.b.block b0 (by rw[<-L];exact Gz.lt)).trans Gz;exact⟨this.cell 2,this.lt⟩
 have HP:Hid (∀wr,Below B w1 wr->∀(j:Nat)p,P[j]?=some p->∃g,pa=some ⟨g,0,none⟩/\prQ wr g (j*3) p):=fun wr s j p hp=>by
  rw[<-L]at s;obtain⟨g,e,h1,ra,rc,h2,h3⟩:=al j p hp;exact⟨g,e,aV s h1,ra,rc,aV s h2,aV s h3⟩
 have HC:Hid (∀wr,Below B w1 wr->∀(j:Nat)r,cs[j]?=some r->∃g v,ca=some ⟨g,0,none⟩/\wr.cell? ⟨g,j,none⟩=some v/\vG wr v r):=fun wr s j r O=>by
  rw[<-L]at s;obtain⟨g,e,h⟩:=am j r O;obtain⟨v,h1,h2⟩:=rQ.keep s (fun _ _ _=>Cx.keep s) h;rw[jt]at h1;exact⟨g,v,e,h1,h2⟩
 have HG:Hid (∀wr,Below B w1 wr->∀(j:Nat)r,f[j]?=some r->∃g v,ga=some ⟨g,0,none⟩/\wr.cell? ⟨g,j,none⟩=some v/\lD wr v r):=fun wr s j r O=>by
  rw[<-L]at s;obtain⟨g,e,h⟩:=aa j r O;obtain⟨v,h1,h2⟩:=rQ.keep s (fun _ _ _=>iQ.keep s) h;rw[jt]at h1;exact⟨g,v,e,h1,h2⟩
 have T:Hid (Below w.heap.size w w1):=A;have VK:Hid (w1.heap.size=B):=L;have ah:=Gz.cell 0;have an:=Gz.cell 1;have ai:=Gz.cell 2;simp only[fR,ir,tj]at ah an ai;have l2:b0<w2.heap.size:=(HK.out _ _ _ _ H).2;have U:=(HK.out _ _ _ _ H).1;have HL:Hid (cs.length=f.length):=hl;clear al am aa A H k2 hl;go_enter func23,ntmps23;go_upto_region 1 with fail
 rw[<-J];clear J ab;go_upto_region 2 with fail
 rw[<-G];clear G Gz L;go_wp2_with fail
 go_loopw [22] (fun i wr=>∃j:Nat,j<=P.length/\i=.int .i64 (j:Int)/\Hid (∃d,bZ w1 B B (.slice ta nT tc) (.slice na nN nc) d wr (Pk.gu (P.take j)) ⟨[],[],[]⟩)) (fun i _=>P.length - (intOf i).toNat)
 case atStart=>exact⟨0,by omega,rfl,H0⟩
 case round=>
  clear H0 ah an ai U l2;obtain⟨j,hj,rfl,HI⟩:=hrel;obtain⟨d,h1⟩:=HI.out;clear HI
  by_cases hjn:j<P.length
  ·have j1:(j:Int)<(P.length:Int):=by omega
   obtain⟨p,KV⟩:∃p,P[j]?=some p:=⟨_,cF hjn⟩;obtain⟨g,rfl,c1,ra,rc,c2,c3⟩:=HP.out wr h1.b j p KV;have hQ:Pk.gu (P.take (j+1))=Pk.gu (P.take j)++[(p.left,p.right.length)]:=by
    unfold Pk.gu;rw[mS,KV,ei];rfl
   have Pn:(Pk.gu (P.take j)).length=j:=by
    unfold Pk.gu;rw[dt,fN];omega
   obtain⟨q,aW⟩:∃V,V=wr.alloc (.cells #[.int .i64 (p.left:Int),.slice ra p.right.length rc,.int .i64 p.prec] 120):=⟨_,rfl⟩;obtain⟨bx,ae⟩:∃b,wr.heap.size=b:=⟨_,rfl⟩;have kX:aj q bx #[.int .i64 (p.left:Int),.slice ra p.right.length rc,.int .i64 p.prec] 120:=by rw[aW,<-ae];exact aj.new ..
   have h2:bZ w1 B B (.slice ta nT tc) (.slice na nN nc) d q (Pk.gu (P.take j)) ⟨[],[],[]⟩:=h1.move (by rw[aW];exact(cV _ _).alloc (zL0) _);obtain⟨N,Y,D,-⟩:∃a c,d 4=.slice a j c/\_:=by have:=aB (h2.row 4 s4);rw[show uo (Pk.gu (P.take j)) ⟨[],[],[]⟩ 4=j from Pn]at this;exact this
   have o4:q.ownsRow B 81 2 (.slice N j Y) j ((Pk.gu (P.take j)).flatMap eX):=by
    have:=h2.row 4 s4;rw[show uo (Pk.gu (P.take j)) ⟨[],[],[]⟩ 4=j from Pn,D]at this;exact this
   have c4:q.cell? ⟨B,4,none⟩=some (.slice N j Y):=by rw[<-D];exact h2.blk.cell 4
   have x1:q.cell? ⟨bx,0,none⟩=some (.int .i64 (p.left:Int)):=kX.cell 0;have x2:q.cell? ⟨bx,1,none⟩=some (.slice ra p.right.length rc):=kX.cell 1;have lp:=h2.kp.lt;have lx:=kX.lt;have d4:∀o,(q.alloc o).cell? ⟨B,4,none⟩=some (.slice N j Y):=fun o=>(cJ (w:=q) (di _ _ _ lp)).trans c4
   have d1:∀o,(q.alloc o).cell? ⟨bx,0,none⟩=some (.int .i64 (p.left:Int)):=fun o=>(cJ (w:=q) (di _ _ _ lx)).trans x1
   have d2:∀o,(q.alloc o).cell? ⟨bx,1,none⟩=some (.slice ra p.right.length rc):=fun o=>(cJ (w:=q) (di _ _ _ lx)).trans x2
   have o3:(q.alloc (.cells #[.int .i64 (p.left:Int),.int .i64 (p.right.length:Int)] 81)).drew.ownsRow B 81 2 (.slice N j Y) j ((Pk.gu (P.take j)).flatMap eX):=aC (o4.alloc (.cells #[.int .i64 (p.left:Int),.int .i64 (p.right.length:Int)] 81)) fun _ _=>rfl
   have jg:aj (q.alloc (.cells #[.int .i64 (p.left:Int),.int .i64 (p.right.length:Int)] 81)).drew B (Gy (.slice ta nT tc) (.slice na nN nc) d) 79:=(h2.blk.alloc _).drew;have aA:(Value.slice N j Y).ownBlock≠some B:=by rw[<-D];exact h2.Cz s4
   have K:B<=(q.alloc (.cells #[.int .i64 (p.left:Int),.int .i64 (p.right.length:Int)] 81)).drew.heap.size:=dg h2.size (aX q _ none).size;have H9:Hid (bZ w1 B B (.slice ta nT tc) (.slice na nN nc) d q (Pk.gu (P.take j)) ⟨[],[],[]⟩):=h2;have R:Hid (d 4=.slice N j Y):=D;have HQ:Hid (Pk.gu (P.take (j+1))=Pk.gu (P.take j)++[(p.left,p.right.length)]/\(Pk.gu (P.take j)).length=j):=⟨hQ,Pn⟩;clear h1 h2 D hQ Pn kX HP HC HG HK O M S;generalize Pk.gu (P.take j)=qs at o4 o3 H9 HQ;go_upto_region 5 with fail
   rw[<-aW];clear aW ae
   go_region_law (refine step_append_lies _ rfl (.tmp 30) (.tmp 37) 77 rfl B 81 i8 _ 2 16 Tryz.ac4 VJ Un Uo Uq rfl (by decide) (.slice N j Y) j (qs.flatMap eX) (by simp[Act.eval]) o3 ⟨q.heap.size,0,none⟩ 1 1 [.int .i64 (p.left:Int),.int .i64 (p.right.length:Int)] (by simp[Act.eval]) rfl (dI (aj.new q _ 81).drew) (by simp[Value.oneCell']) (by decide) (by unfold maxLen;omega) (by omega) K _ rfl ?_;intro g9 dw w9 ny jw lY F7;have jC:=jg.grown jw (fun e=>aA e.symm);have c9:w9.cell? ⟨B,4,none⟩=some (d 4):=jC.cell 4;have f9:=jC.frozen 4)
   all_goals
    have lI:q.grownBy w9 (d 4).ownBlock:=by rw[R.out];exact aL (b:=(q.alloc (.cells #[.int .i64 (p.left:Int),.int .i64 (p.right.length:Int)] 81)).drew) ⟨rfl,rfl,rfl,(aX q _ none).size,fun i hi _=>di _ _ _ hi⟩ jw
    have HN:Hid (∃d,bZ w1 B B (.slice ta nT tc) (.slice na nN nc) d (w9.setCell ⟨B,4,none⟩ (.slice (some ⟨g9,0,none⟩) (j+1) dw)) (Pk.gu (P.take (j+1))) ⟨[],[],[]⟩):=by
     refine⟨_,H9.out.upd (P':=Pk.gu (P.take (j+1))) (m':=⟨[],[],[]⟩) s4 lI ?_ ?_ ?_⟩
     ·show w9.ownsRow B 81 2 _ (Pk.gu (P.take (j+1))).length ((Pk.gu (P.take (j+1))).flatMap eX)
      rw[HQ.out.1,cH,HQ.out.2,fL];exact ny
     ·rw[R.out]
      rcases lY with e|e
      ·exact .inl e.symm
      ·exact .inr ⟨g9,rfl,by rw[e];exact(aX q _ none).size⟩
     ·rintro l(rfl | rfl | rfl | rfl)hl
      ·exact⟨rfl,rfl⟩
      ·exact⟨rfl,rfl⟩
      ·exact absurd rfl hl
      ·exact⟨rfl,rfl⟩
    clear lI ny jw lY jC c9 f9 o3 jg d4 d1 d2 H9 R HQ;go_wp2_with fail;exact⟨⟨j+1,by omega,by go_num,HN⟩,by simp[intOf];omega⟩
  ·obtain rfl:j=P.length:=by omega
   rw[ft]at h1;have H1:Hid (∃d,bZ w1 B B (.slice ta nT tc) (.slice na nN nc) d wr (Pk.gu P) (Pk.mk P.length cs f 0)):=⟨d,h1⟩;clear h1 HP;go_wp2_with fail
   go_loopw [44] (fun i wr=>∃j:Nat,j<=cs.length/\i=.int .i64 (j:Int)/\Hid (∃d,bZ w1 B B (.slice ta nT tc) (.slice na nN nc) d wr (Pk.gu P) (Pk.mk P.length cs f j))) (fun i _=>cs.length - (intOf i).toNat)
   case atStart=>exact⟨0,by omega,rfl,H1⟩
   case round=>
    clear H1;revert wr;intro Z hrel;obtain⟨j,hj,rfl,HI⟩:=hrel;obtain⟨z,h1⟩:=HI.out;clear HI
    by_cases hjn:j<cs.length
    ·have j1:(j:Int)<(cs.length:Int):=by omega
     have j2:(j:Int)<(f.length:Int):=by have:=HL.out;omega
     obtain⟨r,Gl⟩:∃r,cs[j]?=some r:=⟨_,cF hjn⟩;obtain⟨E,hgj⟩:∃r,f[j]?=some r:=⟨_,cF (by have:=HL.out;omega)⟩;obtain⟨g,vr,rfl,c1,y⟩:=HC.out Z h1.b j r Gl;obtain⟨gg,vt,rfl,c2,I⟩:=HG.out Z h1.b j E hgj;obtain⟨xa,xc,a9,hx⟩:=y;subst a9;have y:vG Z (.slice xa r.length xc) r:=⟨xa,xc,rfl,hx⟩;obtain⟨ya,yc,a8,hy⟩:=I;subst a8;have HX:Hid (∀F,Below B w1 F->F.cell? ⟨gg,j,none⟩=some (.slice ya E.length yc)/\vG F (.slice xa r.length xc) r/\lD F (.slice ya E.length yc) E):=fun F s=>by
      obtain⟨g',v',e',k1,k2⟩:=HC.out F s j r Gl;obtain⟨g2,v2,e2,k3,k4⟩:=HG.out F s j E hgj;cases e';cases e2;obtain⟨g',v0,e',ad,-⟩:=HC.out w1 (cV _ _) j r Gl;obtain⟨g2,u0,e2,aq,-⟩:=HG.out w1 (cV _ _) j E hgj;cases e';cases e2;have hk:∀(W:World)(g i:Nat)(v x:Value),Below B w1 W->w1.cell? ⟨g,i,none⟩=some v->W.cell? ⟨g,i,none⟩=some x->v=x:=fun W g i v x hW h1 h2=>by
       rw[<-VK.out]at hW;rw[aV hW h1]at h2;exact gh h2
      obtain rfl:=hk Z _ _ _ _ h1.b ad c1;obtain rfl:=hk Z _ _ _ _ h1.b aq c2;obtain rfl:=hk F _ _ _ _ s ad k1;obtain rfl:=hk F _ _ _ _ s aq k3;exact⟨k3,k2,k4⟩
     have X:=O r (cQ Gl);have a5:=M E (cQ hgj);have VL:=af9 (n:=P.length) y X.2 h0 hp X.1;obtain⟨U,az⟩:=HK.out _ _ _ _ h1;have KV:=S j hj;have ag:=Pk.acp P.length cs f j;have ao:=Pk.acr P.length cs f j;have HS:Hid (Pk.mk P.length cs f (j+1)=Pk.one P.length (Pk.mk P.length cs f j) r E):=by
      show Pk.one P.length (Pk.mk P.length cs f j) (cs.getD j []) (f.getD j [])=_;rw[ed,ed,Gl,hgj];rfl
     have HD:Hid ((Pk.mk P.length cs f j).ak.length<=1000000/\(Pk.mk P.length cs f j).ay.length=j/\(Pk.mk P.length cs f j).aI.length=j):=⟨KV,ag,ao⟩;have H1:Hid (bZ w1 B B (.slice ta nT tc) (.slice na nN nc) z Z (Pk.gu P) (Pk.mk P.length cs f j)):=h1;clear KV ag ao h1 HC HG HK y hx hy O M S T VK;generalize Pk.mk P.length cs f j=m at H1 HD HS;obtain⟨u,hu⟩:∃u,Pk.usual r P.length=u:=⟨_,rfl⟩;rw[hu]at VL;have HU:Hid (Pk.usual r P.length=u):=hu;clear hu;go_upto_region 11 with (go_at_call 49;refine VL.mono ?_;rintro e w3⟨rfl,K⟩)
     have h3:=H1.out.move K;clear H1 VL K U az c1 c2;obtain⟨da,dc,C,-⟩:∃a c,z 5=.slice a j c/\_:=by have:=aB (h3.row 5 s5);rw[show uo (Pk.gu P) m 5=j from HD.out.2.2]at this;exact this
     have o5:w3.ownsRow B 3 1 (.slice da j dc) j (m.aI.map bQ):=by
      have:=h3.row 5 s5;rw[show uo (Pk.gu P) m 5=j from HD.out.2.2,C]at this;exact this
     have c5:w3.cell? ⟨B,5,none⟩=some (.slice da j dc):=by rw[<-C];exact h3.blk.cell 5
     have ar:(Value.slice da j dc).ownBlock≠some B:=by rw[<-C];exact h3.Cz s5
     have kL:=h3.blk;have hsz:=h3.size;have R:Hid (z 5=.slice da j dc):=C;have H3:Hid (bZ w1 B B (.slice ta nT tc) (.slice na nN nc) z w3 (Pk.gu P) m):=h3;clear h3 C;go_upto_region 12 with (at_builtin;refine ge _ rfl _ _ 22 rfl B 3 i3 _ 1 8 underlying22 a1 DT DU aw rfl (by decide) (.slice da j dc) _ _ rfl (o5.alloc _) ⟨_,0,none⟩ 1 1 [.int .i64 (u:Int)] rfl rfl (dI (aj.new _ _ 3)) (by simp[Value.oneCell']) (by unfold maxLen;omega) (by omega) (by simp;omega) ?_;intro v6 w6 t wT _ wY;obtain⟨af,ac,a6,-⟩:=aB t;subst a6;have AB:=(kL.alloc (.cells #[.int .i64 (u:Int)] 3)).grown wT (fun e=>ar e.symm);have c6:w6.cell? ⟨B,5,none⟩=some (z 5):=AB.cell 5;have f6:=AB.frozen 5)
     have HN:Hid (∃d,bZ w1 B B (.slice ta nT tc) (.slice na nN nc) d (w6.setCell ⟨B,5,none⟩ (.slice af (j+1) ac)) (Pk.gu P) { m with aI:=m.aI++[u] }):=by
      have a0:w3.grownBy w6 (z 5).ownBlock:=by rw[R.out];exact aL (aX w3 _ _) wT
      refine⟨_,H3.out.upd (P':=Pk.gu P) (m':={ m with aI:=m.aI++[u] }) s5 a0 ?_ ?_ ?_⟩
      ·show w6.ownsRow B 3 1 _ (m.aI++[u]).length ((m.aI++[u]).map bQ)
       rw[cH,HD.out.2.2,ei];exact t
      ·rw[R.out]
       exact wY.imp id fun e=>⟨_,e,by simp⟩
      ·rintro l(rfl | rfl | rfl | rfl)hl
       ·exact⟨rfl,rfl⟩
       ·exact⟨rfl,rfl⟩
       ·exact⟨rfl,rfl⟩
       ·exact absurd rfl hl
     clear H3 AB c6 f6 t wT wY kL c5 o5 ar R;generalize w6.setCell ⟨B,5,none⟩ (.slice af (j+1) ac)=w7 at HN|-;obtain⟨a2,h7⟩:=HN.out;clear HN;obtain⟨c7,y,I⟩:=HX.out w7 h7.b;have av:=ag6 (w:=w7.drew) (y.keep ⟨rfl,rfl,rfl,zL0,fun _ _=>rfl⟩) (I.keep ⟨rfl,rfl,rfl,zL0,fun _ _=>rfl⟩) X.1 a5 u;have H7:Hid (∀w8,Below w7.drew.heap.size w7.drew w8->bZ w1 B B (.slice ta nT tc) (.slice na nN nc) a2 w8 (Pk.gu P) { m with aI:=m.aI++[u] }):=fun w8 s=>(h7.move (W':=w7.drew) ⟨rfl,rfl,rfl,zL0,fun _ _=>rfl⟩).move s
     clear h7 HX y I
     go_region_law (first
      | (refine fP rfl 51 #[.slice xa r.length xc,.slice ya E.length yc,.int .i64 (u:Int)] (by go_simp) av ?_;rintro e w8⟨vo,rfl,GD,nZ⟩;refine⟨_,rfl,?_⟩;have ap:=ak9 (H7.out _ nZ) GD HD.out.1 (by show m.ay.length<=_;rw[HD.out.2.1];omega) (fun x hx=>by have:=Pk.ajJ hx;omega) (by have:=Pk.ajK r E u;omega);clear av nZ H7 GD)
      | (refine fP rfl 50 #[.pointer (some ⟨B,0,none⟩),vo] (by go_simp) ap ?_;rintro e w9⟨rfl,a3,h9⟩;refine⟨_,rfl,?_⟩;clear ap))
     all_goals
      have HE:Hid (∃d,bZ w1 B B (.slice ta nT tc) (.slice na nN nc) d w9 (Pk.gu P) (Pk.mk P.length cs f (j+1))):=⟨a3,by rw[HS.out,Pk.one,HU.out];exact h9⟩;clear h9;go_wp2_with fail;exact⟨⟨j+1,by omega,by go_num,HE⟩,by simp[intOf];omega⟩
    ·obtain rfl:j=cs.length:=by omega
     have HE:Hid (NpE w (.slice ta nT tc) (.slice na nN nc) P cs f (.returned (.pointer (some ⟨B,0,none⟩))) Z):=⟨w1,B,z,rfl,T.out,T.out.size,by rw[VK.out];exact h1⟩;clear h1 HC HG HK;go_wp2_with fail;go_ret;exact HE.out
end Go.Proofs.YtagkodkijkpemaaGreatDoor

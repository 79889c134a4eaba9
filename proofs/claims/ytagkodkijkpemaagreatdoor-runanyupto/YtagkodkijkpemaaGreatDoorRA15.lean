import Derived.Test.YtagkodkijkpemaaGreatDoorRA14
set_option maxHeartbeats 8000000
set_option maxRecDepth 1000000
namespace Go.Proofs.YtagkodkijkpemaaGreatDoor
open Lx Go.Proofs.Tryz
open Go.RowKit Tr
theorem Cu.move{w w':World}{F G:Nat->Prop}{f:ByteArray->Int}{i:Addr->Int}{T N:List ByteArray}{b:Nat}{k:List Lx.It}{p:AI}(h:Cu w F G f i T N b k p)(a:∀b,F b->w'.heap[b]?=w.heap[b]?)(g:F p.1.block):Cu w' F G f i T N b k p:=by
 obtain⟨h1,h2,h3,h4,n,m,d,r,l,s,j,t⟩:=h;have c:F n:=by rw[l]at g;exact g
 exact⟨h1,h2,h3,h4,n,m,d,r,l,(cJ (w:=w) (a n c)).trans s,aM.move a (fun _ h=>h) j,fun q o=>t q (by rw[<-IQ j a];exact o)⟩
namespace Lx
theorem XL(T N:List ByteArray):∀(l:List Rl)(b:Nat)(r:Rl),jN T N b (l++[r])=jN T N b l++sZ T N (b+(l.flatMap jS).length) r
 | [],b,r=>by simp[jN]
 |y::l,b,r=>by
  rw[fX,jN,XL T N l,jN,dq,du,cH,EO,show b+1+(bB 9 y.alts).length+(l.flatMap jS).length=b+(1+(bB 9 y.alts).length+(l.flatMap jS).length) by omega]
theorem afo(T N:List ByteArray)(n:Nat){rs:List Rl}{j:Nat}(a:j<rs.length):jN T N (n+1) (rs.take (j+1))=jN T N (n+1) (rs.take j)++sZ T N (n+(aS (rs.take j)).length) rs[j]:=by
 rw[ff a,XL];unfold aS;rw[el,show n+1+((rs.take j).flatMap jS).length=n+(((rs.take j).flatMap jS).length+1) by omega]
theorem pd0(n:Nat):bM n n [n+1]=⟨n,[n+1],-1⟩:=by
 unfold bM oJ;simp;omega
end Lx
structure ac1(w:World)(F G:Nat->Prop)(fS:ByteArray->Int)(fH:Addr->Int)(T N:List ByteArray)(va:Value)(r:Lx.Rl)(b:Nat):Prop where
 left:fS r.name=(b:Int)
 its:∀p∈aK 9 w va r.alts,F p.1.block/\Cu w F G fS fH T N b (bB 9 r.alts) p
 sym:∀p∈aK 9 w va r.alts,z8 fS fH p=(yS T N b (bB 9 r.alts) p.2:Int)
 hel:∀k p,(hlA w va r.alts)[k]?=some p->fH p.1=((b+1+k:Nat):Int)
 prec:∀a∈r.alts,a.2.1≠aT->fS a.2.1=(Lx.fix T a.2.1:Int)
 len:r.alts.length<=10000
 lens:∀a∈r.alts,a.1.length<=10000
 hl:(hlA w va r.alts).length<=100000
 pl:(sZ T N b r).length<=10000000
theorem afp{D F G:Nat->Prop}{w:World}{s S H:Nat}{ta:Option Addr}{tc:Nat}{vN vB vK vR:Value}{M:ByteArray->Int}{Z:Addr->Int}{T N:List ByteArray}{rs:List Lx.Rl}(h:Mp D G w s S H ta T.length tc vN vB vK M Z [])(Am:lN F w vR rs)(Y:∀b,F b->D b)(hQ:∀i(hi:i<rs.length),ac1 w F G M Z T N (cv w ⟨aQ vR,i*2+1,none⟩) rs[i] (T.length+(aS (rs.take i)).length))(an:0<rs.length)(b4:rs.length<=10000):
  Calls prog 85 #[.pointer (some ⟨s,0,none⟩),vR] w fun e w'=>e=.returned (.tuple #[])/\uU D G w s S H ta T.length tc vN vB vK M Z (⟨T.length,[T.length+1],-1⟩::jN T N (T.length+1) rs) w':=by
 obtain⟨a,c,rfl,hm⟩:=Am.len;unfold maxLen at hm;obtain⟨A,bz,b7,hv,af,-,r0,-⟩:=Am.at an;cases hv;have e0:M rs[0].name=((T.length+1:Nat):Int):=(hQ 0 an).left;obtain⟨n1,ah⟩:∃n1,n1=T.length+1:=⟨_,rfl⟩;rw[<-ah]at e0;have aP:Hid (n1=T.length+1):=ah;clear ah;have ao:=SMap.look (w:=w.drew) (h.sm.move rfl) rs[0].name;rw[e0]at ao;rw[sq]at r0;obtain⟨m0,m5,m6⟩:=h.cells;have bo:A<w.heap.size:=Am.lt A af;obtain⟨W,hW⟩:∃W,W=(w.alloc (.cells #[.int .i64 (n1:Int)] 3)).drew:=⟨_,rfl⟩;have ab:Below w.heap.size w W:=by rw[hW];exact((cV _ _).alloc (zL0) _).drew
 have a5:=h.below ab;have kW:aj W w.heap.size #[.int .i64 (n1:Int)] 3:=by rw[hW];exact(aj.new w _ 3).drew
 have oW:IR 0 W (.slice (some ⟨w.heap.size,0,none⟩) 1 1) [n1]:=⟨rfl,.inr ⟨w.heap.size,1,_,rfl,eR _,kW,zL0,by decide,rfl,rfl⟩⟩;have q0:=zP a5 T.length _ [n1] oW (by simp) (by simp);rw[hW]at q0;generalize rs[0].name=Vk at ao r0;have d0:w.drew.cell? ⟨s,0,none⟩=some (.slice ta T.length tc):=m0;have d5:w.drew.cell? ⟨s,5,none⟩=some (.map (some S)):=m5;have dr:w.drew.cell? ⟨A,0,none⟩=some (.string Vk):=r0;have x1:=World.new_ne w ⟨s,0,none⟩ m0;have x2:=World.new_ne w ⟨A,0,none⟩ r0;have x3:0<rs.length:=an;clear e0;go_enter func85,ntmps85;go_wp2_with fail
 go_region_held3 (fun w'=>w'.cell? ⟨s,0,none⟩=some (.slice ta T.length tc)/\w'.cell? ⟨s,5,none⟩=some (.map (some S))/\w'.cell? ⟨A,0,none⟩=some (.string Vk)) (first | go_keep | assumption) ((go_at_call 127;refine q0.mono ?_;rintro e w1⟨rfl,E1,a9,C,ap⟩;have S1:w1.cell? ⟨s,0,none⟩=some (.slice ta T.length tc)/\w1.cell? ⟨s,5,none⟩=some (.map (some S))/\w1.cell? ⟨A,0,none⟩=some (.string Vk):=⟨C.cells.1,C.cells.2.1,(cJ (w:=w) ((ap.block A (Y A af)).trans (by rw[<-hW];exact ab.block A bo))).trans r0⟩))
 have aE:Mp E1 G w1 s S H ta T.length tc vN vB vK M Z (⟨T.length,[T.length+1],-1⟩::jN T N (T.length+1) (rs.take 0)):=by
  have e:(⟨T.length,[T.length+1],-1⟩::jN T N (T.length+1) (rs.take 0):List Lx.Pd)=[]++[bM T.length T.length [n1]]:=by rw[aP.out,Lx.pd0];simp[jN]
  rw[e];exact C
 have yT:Kp D w w1:=(Kp.below ab h.lt).trans (by rw[hW];exact ap) fun g u=>u
 clear ao q0 oW kW a5 C ap hW ab d0 d5 dr x1 x2 r0 m0 m5 m6;clear W;go_wp2_with fail
 go_loopg [28] rs.length (fun k i wr=>∃(j:Nat)(E:Nat->Prop),j+k=rs.length/\i=.int .i64 j/\(∀g,D g->E g)/\Mp E G wr s S H ta T.length tc vN vB vK M Z (⟨T.length,[T.length+1],-1⟩::jN T N (T.length+1) (rs.take j))/\Kp D w wr/\(jN T N (T.length+1) (rs.take j)).length<=j*10000000)
 case atStart=>exact⟨0,E1,by omega,rfl,a9,aE,yT,by simp[jN]⟩
 case round=>
  clear aE yT a9;revert wr;intro m hrel;obtain⟨j,E,hk,rfl,hE,Gq,ai,l9⟩:=hrel
  by_cases hlt:j<rs.length
  ·obtain⟨bN,b6,va,hv,b8,hA,c0,c1⟩:=Am.at hlt
   cases hv;have xO:cv w ⟨A,j*2+1,none⟩=va:=by unfold cv;rw[c1];rfl
   have y:=hQ j hlt;rw[show aQ (.slice (some ⟨A,0,none⟩) rs.length c)=A from rfl,xO]at y;have aw:=ai.block A (Y A af);have z0:m.cell? ⟨A,j*2,none⟩=some (.string rs[j].name):=(cJ (w:=w) aw).trans c0;have z1:m.cell? ⟨A,j*2+1,none⟩=some va:=(cJ (w:=w) aw).trans c1;have Kt:Hid (jN T N (T.length+1) (rs.take (j+1))=jN T N (T.length+1) (rs.take j)++sZ T N (T.length+(aS (rs.take j)).length) rs[j]):=afo T N T.length hlt;generalize T.length+(aS (rs.take j)).length=b at y Kt;generalize rs[j]=r at y Kt z0 hA;generalize jN T N (T.length+1) (rs.take j)=PJ at Gq l9 Kt;obtain⟨nm,d,rp⟩:=r;simp only at hA z0;obtain⟨O,V,rfl,-⟩:=aM.len hA;obtain⟨z,Q⟩:∃z,z=m.alloc (.cells #[.string nm,.slice O d.length V] 254):=⟨_,rfl⟩;have a3:Below m.heap.size m z:=by rw[Q];exact(cV _ _).alloc (zL0) _
   have b0:z.heap.size=m.heap.size+1:=by rw[Q];simp
   have kR:aj z m.heap.size #[.string nm,.slice O d.length V] 254:=by rw[Q];exact aj.new m _ 254
   have C:=Gq.more a3;have dR:More E m z m.heap.size:=.inr ⟨zL0,by omega⟩;have bi:∀g,D g->More E m z g:=fun g u=>.inl (hE g u)
   have aW:Kp D w z:=ai.trans (Kp.below a3 (D:=fun g=>g<m.heap.size) fun g u=>u) fun g u=>Gq.lt g (hE g u)
   clear c0 c1 xO;go_wp2_with fail;rw[<-Q];clear Q z0 z1
   go_loopg [35] d.length (fun k i wr=>∃(q:Nat)(E2:Nat->Prop),q+k=d.length/\i=.int .i64 q/\(∀g,More E m z g->E2 g)/\Mp E2 G wr s S H ta T.length tc vN vB vK M Z ((⟨T.length,[T.length+1],-1⟩::PJ)++(d.take q).map (rY T N b (bB 9 d)))/\Kp (More E m z) z wr)
   case atStart=>exact⟨0,_,by omega,rfl,fun _ h=>h,by simpa using C,Kp.refl _ _⟩
   case round=>
    revert wr;intro f hrel;obtain⟨q,E2,b1,rfl,t,xQ,am⟩:=hrel;have F5:Kp D w f:=aW.trans am bi;have Vl:aj f m.heap.size #[.string nm,.slice O d.length V] 254:=dW kR am dR
    by_cases uV:q<d.length
    ·obtain⟨vi,a6,bw,ad⟩:=abq hA uV
     have Ku:F (aQ (.slice O d.length V)):=(ET hA uV).1;have Kv:aM YP 9 F f (.slice O d.length V) d:=aM.move (fun b J=>F5.block b (Y b J)) (fun _ h=>h) hA;obtain⟨gb,ak,Au,hv,u,hit,hc⟩:=Seq.at Kv (fun _=>rfl) uV;cases hv;have y0:f.cell? ⟨gb,q*2,none⟩=some Au:=hc 0 (by decide);have y1:f.cell? ⟨gb,q*2+1,none⟩=some (.string d[q].2.1):=hc 1 (by decide);have bs:Au=vi:=by
      have h3:f.cell? ⟨gb,q*2,none⟩=some vi:=(cJ (w:=w) (F5.block gb (Y gb u))).trans a6;rw[h3]at y0;exact(gh y0).symm
     subst bs;have L:=y.prec d[q] (dy uV);have aq:=y.lens d[q] (dy uV);have P:∀k(hk:k<d[q].1.length)(bd:k<(ng T N b (bB 9 d) d[q].1).length),G (aQ Au)/\z8 M Z (⟨aQ Au,k*4,none⟩,d[q].1[k])=((ng T N b (bB 9 d) d[q].1)[k]:Int):=fun k hk bd=>by
      have h4:=ad k hk;refine⟨(y.its _ h4).2.g,(y.sym _ h4).trans ?_⟩;simp[ng]
     have jZ:Hid ((d.take (q+1)).map (rY T N b (bB 9 d))=(d.take q).map (rY T N b (bB 9 d))++[rY T N b (bB 9 d) d[q]]):=by show _=_;rw[ff uV,ei];rfl
     have l:(ng T N b (bB 9 d) d[q].1).length=d[q].1.length:=by simp[ng]
     have X:jG YP 8 F f Au d[q].1:=hit;have b3:d.length<=10000:=y.len;clear ad a6 bw hit hc Kv;generalize d[q]=x at y1 L aq P jZ l X;obtain⟨its,prec,pa⟩:=x;simp only at y1 L aq P l X;have JJ:Hid (rY T N b (bB 9 d) (its,prec,pa)=⟨b,ng T N b (bB 9 d) its,if prec=aT then oJ T.length (ng T N b (bB 9 d) its) else (Lx.fix T prec:Int)⟩):=rfl;generalize ng T N b (bB 9 d) its=rr at P l JJ;obtain⟨ia,ic,rfl,bv⟩:∃a c,Au=.slice a its.length c/\its.length<=maxLen:=Seq.len (show Tr.Seq F f YP.eI YP.sI YP.cI (fun va it=>aM YP 8 F f va it.alts) Au its from X);obtain⟨I,R⟩:∃I,I=f.alloc (.cells #[.slice ia its.length ic,.string prec] 269):=⟨_,rfl⟩;have ac:Below f.heap.size f I.drew:=by rw[R];exact((cV _ _).alloc (zL0) _).drew
     have bD:I.heap.size=f.heap.size+1:=by rw[R];simp
     have kA:aj I f.heap.size #[.slice ia its.length ic,.string prec] 269:=by rw[R];exact aj.new f _ 269
     have B:=xQ.more ac;have dA:More E2 f I.drew f.heap.size:=.inr ⟨zL0,by show f.heap.size<I.heap.size;omega⟩;have Vm:More E2 f I.drew m.heap.size:=.inl (t _ dR);have bn:=Vl.lt;have qE:aj I.drew m.heap.size _ 254:=(ac.block _ bn).trans Vl;have bx:∀b,F b->More E2 f I.drew b:=fun b J=>.inl (t b (.inl (hE b (Y b J))))
     have q1:=YX B its _ (jG.move (fun b J=>ac.block b (xQ.lt b (t b (.inl (hE b (Y b J)))))) (fun _ h=>h) X) bx rr l (fun k hk=>P k hk (by rw[l];exact hk)) aq prec;have av:=SMap.look (w:=I.drew) B.sm nm;rw[show M nm=(b:Int) from y.left]at av;have s5:=B.cells.2.1;have sR:I.drew.cell? ⟨m.heap.size,0,none⟩=some (.string nm):=qE.cell 0;have bp:I.drew.cell? ⟨f.heap.size,0,none⟩=some (.slice ia its.length ic):=kA.drew.cell 0;have aI:I.drew.cell? ⟨f.heap.size,1,none⟩=some (.string prec):=kA.drew.cell 1;have bt:M nm=(b:Int):=y.left;have bl:(((⟨T.length,[T.length+1],-1⟩:Lx.Pd)::PJ)++(d.take q).map (rY T N b (bB 9 d))).length<=400000000000:=by
      simp only[cH,el,dt,fN];have h5:j*10000000<=10000*10000000:=j9 _ (by omega);omega
     have bb:Hid (rr.length=its.length):=l;clear l P X;generalize sD:(((⟨T.length,[T.length+1],-1⟩:Lx.Pd)::PJ)++(d.take q).map (rY T N b (bB 9 d)))=PQ at xQ B bl;have a2:Hid _:=sD;clear sD;unfold maxLen at bv;go_wp2_with fail;rw[<-R];clear R y0 y1
     go_region_held3 (fun w'=>w'.cell? ⟨s,5,none⟩=some (.map (some S))/\w'.cell? ⟨m.heap.size,0,none⟩=some (.string nm)/\w'.cell? ⟨f.heap.size,0,none⟩=some (.slice ia its.length ic)/\w'.cell? ⟨f.heap.size,1,none⟩=some (.string prec)) (first|go_keep|assumption) (first|(go_at_call 128;refine q1.mono ?_;rintro e w3⟨u3,rfl,ar,ag⟩;obtain⟨ua,uc,rfl,-⟩:=aB ar;have tZ:=B.below ag;have v:=Kp.below ag B.lt;have S3:w3.cell? ⟨s,5,none⟩=some (.map (some S))/\w3.cell? ⟨m.heap.size,0,none⟩=some (.string nm)/\w3.cell? ⟨f.heap.size,0,none⟩=some (.slice ia its.length ic)/\w3.cell? ⟨f.heap.size,1,none⟩=some (.string prec):=⟨tZ.cells.2.1,(dW qE v Vm).cell 0,(dW kA.drew v dA).cell 0,(dW kA.drew v dA).cell 1⟩;have aA:=SMap.look (w:=w3) tZ.sm nm;rw[bt]at aA;have q3:=zP tZ b _ rr (jc ar (eR _)) (by have:=bb.out;omega) (by omega))|(go_at_call 127;refine q3.mono ?_;rintro e K⟨rfl,E4,az,Gp,U⟩;have S4:K.cell? ⟨s,5,none⟩=some (.map (some S))/\K.cell? ⟨m.heap.size,0,none⟩=some (.string nm)/\K.cell? ⟨f.heap.size,0,none⟩=some (.slice ia its.length ic)/\K.cell? ⟨f.heap.size,1,none⟩=some (.string prec):=⟨Gp.cells.2.1,(dW (dW qE v Vm) U Vm).cell 0,(dW (dW kA.drew v dA) U dA).cell 0,(dW (dW kA.drew v dA) U dA).cell 1⟩))
     all_goals
      obtain⟨aG,b5,b9,bf⟩:=S4;have bh:Kp E2 f K:=(Kp.below ac xQ.lt).trans (v.trans U fun g h=>h) fun g u=>.inl u
      have a0:Kp (More E m z) z K:=am.trans bh t;have TW:∀g,More E m z g->E4 g:=fun g u=>az g (.inl (t g u))
      have bc:=az _ dA;clear S3 aA q3 q1 av s5 sR bp aI ar tZ B v U ag
      by_cases hpn:prec=aT
      ·have aa:Hid (rY T N b (bB 9 d) (its,prec,pa)=bM T.length b rr):=by rw[JJ.out,de hpn];rfl
       have bj:prec=⟨#[]⟩:=hpn;clear hpn L JJ;subst bj;go_wp2_with fail;go_roundg (d.length - (q+1))
       case measure=>omega
       case rel=>exact⟨q+1,E4,by omega,by go_num,TW,by rw[jZ.out,aa.out,<-dq,a2.out];exact Gp,a0⟩
      ·have aa:Hid (rY T N b (bB 9 d) (its,prec,pa)=⟨b,rr,(Lx.fix T prec:Int)⟩):=by show _=_;rw[JJ.out,dk hpn]
       have bG:(prec.toList == [])=false:=zR hpn;have a1:=L hpn;obtain⟨g,cg,a8,aH,bF,⟨o,a7⟩,fz,ae⟩:=Gp.akX;have hlp:=SMap.look (w:=K.drew) (Gp.sm.move rfl) prec;rw[a1]at hlp;have BN:=ae (Lx.fix T prec:Int);generalize (Lx.fix T prec:Int)=pv at hlp BN aa;have b2:g≠f.heap.size:=fun e=>aH (e▸bc)
       have t2:K.drew.cell? ⟨s,2,none⟩=some (.slice (some ⟨g,0,none⟩) (PQ.length+1) cg):=a8;have t5:K.drew.cell? ⟨s,5,none⟩=some (.map (some S)):=aG;have tp:K.drew.cell? ⟨f.heap.size,1,none⟩=some (.string prec):=bf;have tg:K.drew.cell? ⟨g,PQ.length*3+2,none⟩=some (.int .i64 o):=a7;have tz:∀i,K.drew.frozen? ⟨g,i,none⟩=false:=fz;obtain⟨w5,jh⟩:∃w5,w5=(K.setCell ⟨g,PQ.length*3+2,none⟩ (.int .i64 pv)).drew:=⟨_,rfl⟩;have eP:Mp E4 G w5 s S H ta T.length tc vN vB vK M Z (PQ++[⟨b,rr,pv⟩]):=by rw[jh];exact BN.1.below ((cV _ _).drew)
       have br:Kp (More E m z) z w5:=a0.trans (by rw[jh];exact⟨BN.2.os,BN.2.tape,BN.2.output,BN.2.size,BN.2.block⟩) TW;have i1:(0:Int)<=(PQ.length:Int):=by omega
       have i2:(PQ.length:Int)<(PQ.length:Int)+1:=by omega
       have i3:IntKind.i64.wrap (PQ.length:Int)=(PQ.length:Int):=wrap64 (by omega);have i4:IntKind.i64.wrap ((PQ.length:Int)+1)=(PQ.length:Int)+1:=by have:=wrap64 (n:=PQ.length+1) (by omega);simpa using this
       have i5:IntKind.i64.wrap ((PQ.length:Int)+1-1)=(PQ.length:Int):=by rw[Int.add_sub_cancel];exact i3
       clear ae BN L hpn JJ a1;go_wp2_with fail
       go_region_held3 (fun w'=>w'.cell? ⟨s,2,none⟩=some (.slice (some ⟨g,0,none⟩) (PQ.length+1) cg)/\w'.cell? ⟨s,5,none⟩=some (.map (some S))/\w'.cell? ⟨f.heap.size,1,none⟩=some (.string prec)) (go_keep) (fail)
       all_goals
        rw[<-jh];clear jh hlp t2 t5 tp tg tz a8 a7 fz;go_wp2_with fail;go_roundg (d.length - (q+1))
        case measure=>omega
        case rel=>exact⟨q+1,E4,by omega,by go_num,TW,by rw[jZ.out,aa.out,<-dq,a2.out];exact eP,br⟩
    ·have:q=d.length:=by omega
     subst this;rw[ft]at xQ;have Cm:∀(fn:Fn)(first ak:Array Value)(w:World),(Instr.makeFunc fn first ak).run prog w=.ok (.func fn first ak) w:=fun _ _ _ _=>rfl
     have Kv:aM YP 9 F f (.slice O d.length V) d:=aM.move (fun b J=>F5.block b (Y b J)) (fun _ h=>h) hA;have eA:aK 9 f (.slice O d.length V) d=aK 9 w (.slice O d.length V) d:=IQ hA fun b J=>F5.block b (Y b J)
     have eH:hlA f (.slice O d.length V) d=hlA w (.slice O d.length V) d:=by unfold hlA;rw[eA]
     have ax:(((⟨T.length,[T.length+1],-1⟩:Lx.Pd)::PJ)++d.map (rY T N b (bB 9 d))).length<=400000000000:=by
      have h9:d.length<=10000:=y.len;simp only[cH,el,dt];have h5:j*10000000<=10000*10000000:=j9 _ (by omega);omega
     have q5:=ae0 (T:=T) (N:=N) (b:=b) xQ (fun b J=>t b (.inl (hE b (Y b J)))) Kv (fun p hp=>((y.its p (by rw[<-eA];exact hp)).2).move (fun b J=>F5.block b (Y b J)) (y.its p (by rw[<-eA];exact hp)).1) (fun k p hp=>y.hel k p (by rw[<-eH];exact hp)) (by rw[eH];exact y.hl) ax;have y1:f.cell? ⟨m.heap.size,1,none⟩=some (.slice O d.length V):=Vl.cell 1;have L:=y.pl;have ba:Hid (sZ T N b ⟨nm,d,rp⟩=d.map (rY T N b (bB 9 d))++oH T N b (bB 9 d) 0 (bB 9 d)):=rfl;clear Kv eA eH ax y hA;go_wp2_with fail;refine q5.mono ?_;rintro e w6⟨rfl,E6,aF,O3,Ap⟩;clear q5 Cm y1;have a4:Mp E6 G w6 s S H ta T.length tc vN vB vK M Z (⟨T.length,[T.length+1],-1⟩::jN T N (T.length+1) (rs.take (j+1))):=by
      rw[Kt.out,ba.out];simpa [List.append_assoc]using O3
     have bg:Kp D w w6:=F5.trans Ap fun g u=>t g (.inl (hE g u))
     have bm:(jN T N (T.length+1) (rs.take (j+1))).length<=(j+1)*10000000:=by
      rw[Kt.out,cH,mN];omega
     have bu:Hid _:=a4;clear O3 a4 xQ C Gq;go_wp2_with fail;go_roundg (rs.length - (j+1))
     case measure=>omega
     case rel=>exact⟨j+1,E6,by omega,by go_num,fun g u=>aF g (t g (.inl (hE g u))),bu.out,bg,bm⟩
  ·have:j=rs.length:=by omega
   subst this;rw[ft]at Gq;go_wp2_with fail
   go_end0
   exact⟨rfl,E,hE,Gq,ai⟩
def Ei(va:Value)(it:Lx.It):Value:=.agg #[.int .i64 (it.kind:Int),.string it.name,.int .u8 (it.mark:Int),va]
def Kw(vi:Value)(a:Lx.Alt):Value:=.agg #[vi,.string a.2.1]
structure OkW(F:Nat->Prop)(w0:World)(Ok:World->Prop):Prop where
 fr:∀w,Ok w->∀b,F b->w.heap[b]?=w0.heap[b]?/\b<w.heap.size
 up:∀w w',Ok w->Below w.heap.size w w'->Ok w'
def uW(w:World)(b:Bool)(e:Ending)(w':World):Prop:=e=.returned (.bool b)/\Below w.heap.size w w'
theorem afY {F:Nat->Prop} {w0:World} {C:World->Prop} (D:OkW F w0 C) {B:Nat} {caps:Array Value} (P:∀(ar:Array Value)(w:World),(callFunc B ar).run prog w=.ok (.enter B ar) w) {d:Nat} {pr:Lx.It->Bool} {R:Lx.It->Prop}
  (S:∀(w':World)(va:Value)(it:Lx.It),C w'->aM YP d F w0 va it.alts->R it->Calls prog B (#[Ei va it]++caps) w' (uW w' (pr it)))
  {z:Value} {its:List Lx.It} (J:jG YP d F w0 z its) (X:∀it∈its,R it) {w:World} (N:C w) :
  Calls prog 178 #[z,.func (.func B) #[] caps] w fun e w'=>∃q:Int,e=.returned (.int .i64 q)/\(0<=q↔its.any pr=true)/\Below w.heap.size w w':=by
 obtain⟨ia,ic,qY,G⟩:∃a c,z=.slice a its.length c/\its.length<=maxLen:=Seq.len (show Tr.Seq F w0 YP.eI YP.sI YP.cI (fun va it=>aM YP d F w0 va it.alts) z its from J);subst qY;unfold maxLen at G;go_enter func178,ntmps178;go_wp2_with fail
 go_loopg [8] its.length (fun k i wr=>∃j:Nat,j+k=its.length/\i=.int .i64 j/\Below w.heap.size w wr/\Hid (∀m(r:m<its.length),m<j->pr its[m]=false))
 case atStart=>exact⟨0,by omega,rfl,cV _ _,fun m _ h=>by omega⟩
 case round=>
  obtain⟨j,hk,rfl,l,A⟩:=hrel;have g:=D.up _ _ N l
  by_cases hlt:j<its.length
  ·have o:=J
   unfold jG wO at o;obtain⟨n,DR,va,O,L,K,f⟩:=Seq.at o (fun _=>rfl) hlt;cases O;have E:=X its[j] (dy hlt);have t:=S wr va its[j] g K E;obtain⟨T,Y,H,-⟩:=aM.len K;subst H;have en:=(D.fr _ g n L).1;have ln:=(D.fr _ g n L).2;have Z:wr.cell? ⟨n,j*4,none⟩=some (.int .i64 (its[j].kind:Int)):=(cJ (w:=w0) en).trans (f 0 (by decide));have x1:wr.cell? ⟨n,j*4+1,none⟩=some (.string its[j].name):=(cJ (w:=w0) en).trans (f 1 (by decide));have Q:wr.cell? ⟨n,j*4+2,none⟩=some (.int .u8 (its[j].mark:Int)):=(cJ (w:=w0) en).trans (f 2 (by decide));have W:wr.cell? ⟨n,j*4+3,none⟩=some (.slice T its[j].alts.length Y):=(cJ (w:=w0) en).trans (f 3 (by decide));unfold Ei at t;have y:Hid (∀b,pr its[j]=b->(b=true->its.any pr=true)/\(b=false->∀m(r:m<its.length),m<j+1->pr its[m]=false)):=by
    intro b M;refine⟨fun h=>oj.2 ⟨its[j],dy hlt,by rw[M,h]⟩,fun h m r V=>?_⟩
    by_cases TY:m=j
    ·subst TY;rw[M,h]
    ·exact A.out m r (by omega)
   clear f o A;generalize hit:its[j]=it at t Z x1 Q W y;clear hit;go_wp2_with fail;refine t.mono ?_;rintro e w2⟨rfl,I⟩;have u:=l.trans (I.mono l.size);cases p:pr it with
   |true=>
    have s:=(y.out true p).1 rfl;have v:Hid (its.any pr=true):=s;clear y s p t;go_wp2_with fail;go_ret;exact⟨_,rfl,⟨fun _=>v.out,fun _=>by omega⟩,u⟩
   |false=>
    have v:Hid _:=(y.out false p).2 rfl;clear y p t;go_wp2_with fail;go_roundg (its.length - (j+1))
    case measure=>omega
    case rel=>exact⟨j+1,by omega,by go_num,u,v⟩
  ·have:j=its.length:=by omega
   subst this;have v:Hid (¬its.any pr=true):=by
    intro h;obtain⟨x,U,p⟩:=oj.1 h;obtain⟨m,r,rfl⟩:=pB.1 U;rw[A.out m r r]at p;cases p
   clear A;go_wp2_with fail;go_ret;exact⟨_,rfl,⟨fun h=>by omega,fun h=>absurd h v.out⟩,l⟩
end Go.Proofs.YtagkodkijkpemaaGreatDoor

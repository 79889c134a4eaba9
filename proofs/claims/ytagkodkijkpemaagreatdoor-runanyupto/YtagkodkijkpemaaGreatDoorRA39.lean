import Derived.Test.YtagkodkijkpemaaGreatDoorRA38
set_option maxHeartbeats 8000000
set_option maxRecDepth 1000000
namespace Go.Proofs.YtagkodkijkpemaaGreatDoor
open Lx Go.Proofs.Tryz
open Go.RowKit
open Tr
def LvE(wB:World)(f mb:Nat)(vT vN vP vB vQ:Value)(R:bX)(e:Ending)(w':World):Prop:=e=.returned (.tuple #[])/\∃ve,nD wB w' f mb vT vN vP vB vQ ve R
theorem aac{M:List (Nat×au)}{j q:Nat}(a:j<=q)(b:q<M.length):(M.drop j).take (q+1-j)=(M.drop j).take (q-j)++[M[q]]:=by
  rw[show q+1-j=(q-j)+1 by omega,ff (by rw[oe];omega)];congr 2;rw[List.getElem_drop];congr 1;omega
theorem aiS{D:Nat->Prop}{l w:World}{f G:Nat}{ta na:Option Addr}{nT tc nN nc i st:Nat}{vP vB vQ aw:Value}{P:List Lx.Pd}{K:List au}{S:bX}(C:nD l w f G (.slice ta nT tc) (.slice na nN nc) vP vB vQ aw S)(Wj:PP D l vP P)(u:om P (nT+nN) st)(hK:S.ks[i]?=some K)(a6:sK P i K)(bm:K.length<=100000)(ah:K.Pairwise gX)(z:S.ks.Nodup)(al:S.ks.length<=300)(av:S.es.length<=40000000)(ht:fq l):Calls prog 66 #[.pointer (some ⟨f,0,none⟩),.int .i64 (i:Int)] w (LvE l f G (.slice ta nT tc) (.slice na nN nc) vP vB vQ (Lx.leave P i K S (List.range (nT+nN)))):=by
  have bG:=(Nw P K).len;have bS:=abX P (jD P K);have b0:=u.len;have b4:i<S.ks.length:=(cG.1 hK).1;have Wl:Hid (∀m∈ku P (jD P K),m.1<nT+nN/\m.2.1<=1000000/\m.2.2<=1000000):=by
    intro m j;obtain⟨s,-,h1,h2⟩:=Nr.1 j;have h3:=Nu u h1;have h4:=Tg h1;have h5:=abU u s.1;rw[h2];exact⟨h3.1,by simp only;omega,by simp only;omega⟩
  obtain⟨vk,kF,j,hk,hE,PZ,b6,pY⟩:=id C;obtain⟨gk,bp,ka,kc,br,bN,ck,rk⟩:=hk.at hK;subst br;have q0:=aho kF (Wj.below pY) u rk a6 bm ah;have d6:w.cell? ⟨f,6,none⟩=some (.slice (some ⟨gk,0,none⟩) S.ks.length bp):=kF.cell 6;have i1:(0:Int)<=(i:Int):=by omega
  have i2:(i:Int)<(S.ks.length:Int):=by omega
  have Wm:Hid (∀(M:List (Nat×au))(R:bX),M.Perm (ku P (jD P K))->M.Pairwise oP->sH i M S R->R=Lx.leave P i K S (List.range (nT+nN))):=by
    intro M R h1 h2 h3;have:=h3.leave (P:=P) (K:=K) (sz:=nT+nN) 0 (eR _) h2 (fun m=>by rw[h1.mem_iff];simp) (fun m j=>(Wl.out m (h1.mem_iff.1 j)).1);rw[this,Nat.sub_zero,<-List.range_eq_range']
  generalize Lx.leave P i K S (List.range (nT+nN))=RR at Wm|-;clear kF j hk hE rk u a6 ah hK;go_enter func66,ntmps66;go_upto_region 1 with (go_at_call 103;refine q0.mono ?_;rintro e w1⟨v1,M,rfl,ac,aa,I,a4⟩)
  clear q0 d6 ck;have a3:nD l w1 f G _ _ _ _ _ _ S:=C.below aa;have aA:=pY.size;have bt:=aa.size;have H:aN 238 3 fM l.heap.size w1 v1 M:=jc ac aA;obtain⟨ma,mc,g,bn,X,aH⟩:∃ma mc g,v1=.slice ma M.length mc/\(0<M.length->ma=some ⟨g,0,none⟩)/\M.length<=mc:=by
    rcases H.2 with ⟨hv,h0⟩|⟨g,bo,b3,hv,-,-,hc,-⟩
    · exact⟨none,0,0,by rw[hv,h0],fun h=>by omega,by omega⟩
    · exact⟨_,bo,g,hv,fun _=>rfl,hc⟩
  subst bn;have b2:M.length<=200000:=by have:=I.length_eq;omega
  have a0:Hid (∀R,sH i M S R->R=RR):=fun R h=>Wm.out M R I a4 h
  have aP:Hid (∀m∈M,m.1<nT+nN/\m.2.1<=1000000/\m.2.2<=1000000):=fun m j=>Wl.out m (I.mem_iff.1 j)
  have ad:Hid (∀R,sH i (M.drop 0) S R->R=RR):=a0.out;clear Wm Wl I a4 ac C a0;have ar:0<M.length->ma=some ⟨g,0*3,none⟩:=by simpa using X
  generalize Wn:Value.slice ma M.length mc=vM at H|-;obtain⟨ao⟩:Nonempty (∃c,M.length<=c/\vM=.slice ma M.length c):=⟨⟨mc,aH,Wn.symm⟩⟩;have UF:0<M.length->∃c,vM=.slice (some ⟨g,0,none⟩) M.length c:=fun h=>⟨mc,by rw[<-Wn,X h]⟩
  have b1:Hid (0<M.length->∃c,vM=.slice (some ⟨g,0,none⟩) M.length c):=UF;have TD:Hid (∀(wx:World)(p:Nat)(u:p<M.length),aN 238 3 fM l.heap.size wx vM M->wx.cell? ⟨g,p*3,none⟩=some (.int .i64 (M[p].1:Int))/\wx.cell? ⟨g,p*3+1,none⟩=some (.int .i64 (M[p].2.1:Int))/\wx.cell? ⟨g,p*3+2,none⟩=some (.int .i64 (M[p].2.2:Int))):=by
    intro wx p u hx;obtain⟨c,hc⟩:=UF (by omega);obtain⟨g',bv,hv,-,-,W⟩:=aN.at GX hx u;rw[hc]at hv;cases hv;exact⟨W 0 _ (by decide) rfl,W 1 _ (by decide) rfl,W 2 _ (by decide) rfl⟩
  obtain⟨bg,bf,bb,aW,bd⟩:=fd Tryz.alF;clear Wn UF X
  go_loopg [4] M.length (fun m v wr=>∃(q L c:Nat)(a:Option Addr)(d:bX)(ve:Value),q+L=M.length/\L=m/\v=.slice a L c/\L<=c/\(0<L->a=some ⟨g,q*3,none⟩)/\nD l wr f G (.slice ta nT tc) (.slice na nN nc) vP vB vQ ve d/\aN 238 3 fM l.heap.size wr vM M/\d.ks.Nodup/\d.ks.length<=300+q/\d.es.length<=40000000+q/\Hid (∀R,sH i (M.drop q) d R->R=RR))
  case atStart=>
    obtain⟨c,hc,rfl⟩:=ao;exact⟨0,M.length,c,ma,S,aw,by omega,rfl,rfl,hc,ar,a3,H,z,by omega,by omega,ad⟩
  case round=>
    clear ao ar a3 H z al av ad aa bt;revert wr;intro N hrel;obtain⟨q,L,c,a,d,ve,b8,rfl,rfl,bc,ha,C,hM,z,al,av,HL⟩:=hrel
    by_cases hL0:0<L
    · obtain rfl:=ha hL0
      have hq:q<M.length:=by omega
      have V:=TD.out N q hq hM;obtain⟨n,hn⟩:∃n,n=M[q].1:=⟨_,rfl⟩;rw[<-hn]at V;have c0:=V.1;have i3:(0:Int)<(L:Int):=by omega
      have Lr:Hid (∀m∈(M.drop q).take (q-q),m.1=n):=fun m j=>by rw[ij,List.take_zero]at j;cases j
      have HN:Hid (n=M[q].1):=hn;have ae:aN 160 2 iJ N.heap.size N (.slice none 0 0) (((M.drop q).take (q-q)).map Prod.snd):=by rw[ij,List.take_zero];exact eE _ _ _ _
      clear V hn ha;go_wp2_with fail;clear c0
      go_loopg [4,6] L (fun m v kv k=>∃(p r c':Nat)(a':Option Addr),p+r=M.length/\r=m/\q<=p/\v=.slice a' r c'/\r<=c'/\(0<r->a'=some ⟨g,p*3,none⟩)/\aN 160 2 iJ N.heap.size k kv (((M.drop q).take (p-q)).map Prod.snd)/\Below N.heap.size N k/\Hid (∀m∈(M.drop q).take (p-q),m.1=n))
      case atStart=>exact⟨q,L,c,_,by omega,rfl,zL0,rfl,bc,fun _=>rfl,ae,cV _ _,Lr⟩
      case round=>
        clear Lr ae i3;revert wr;intro k hrel;obtain⟨p,r,c',a',ak,rfl,ai,rfl,ax,Y,y,x,HA⟩:=hrel;have P5:=x.size;have Wo:aN 238 3 fM l.heap.size k vM M:=hM.below x;obtain⟨F,hF⟩:∃F,F=((M.drop q).take (p-q)).map Prod.snd:=⟨_,rfl⟩;rw[<-hF]at y;have bx:F.length<=200000:=by rw[hF,dt,fN,oe];omega
        have HF:Hid (F=((M.drop q).take (p-q)).map Prod.snd):=hF;clear hF;obtain⟨fa,fc,rfl,-⟩:∃a c,_=Value.slice a F.length c/\F.length<=maxLen:=aB y
        by_cases hgo:∃h:p<M.length,M[p].1=n
        · obtain⟨u,T⟩:=hgo
          obtain rfl:=Y (by omega);obtain⟨c0,c1,c2⟩:=TD.out k p u Wo;have zi:Hid (((M.drop q).take (p+1-q)).map Prod.snd=F++[M[p].2]):=by show _=_;rw[aac ai u,ei,HF.out];rfl
          have aq:Hid (∀m∈(M.drop q).take (p+1-q),m.1=n):=fun m j=>by
            rw[aac ai u]at j;rcases cY.1 j with j|j
            · exact HA.out m j
            · rw[cM]at j;rw[j];exact T
          rw[T]at c0;generalize M[p].2=sp at c1 c2 zi;obtain⟨sk,sd⟩:=sp;simp only at c1 c2;have i3:(0:Int)<(r:Int):=by omega
          have i4:(1:Int)<=(r:Int):=by omega
          clear T HA HN HL C;rcases Classical.em (c'=1) with am|am
          · subst am
            go_wp2_with (at_builtin;go_loud (refine MW Tryz.Nv Tryz.Ik rfl (by decide) Cc rfl _ _ rfl N.heap.size (by simp;omega) _ F rfl (aN.below y ((cV _ _).alloc (zL0) _)) (sk,sd) _ 1 rfl (dI (aj.new _ _ 160)) (by unfold maxLen;omega) (by omega) ?_;intro v8 w8 CW nZ A8 GD))
            go_roundg (r - 1)
            case measure=>omega
            case rel=>exact⟨p+1,0,0,_,by omega,by omega,by omega,rfl,by omega,fun h=>by omega,by rw[zi.out];exact CW,x.trans (((cV _ k).alloc (by omega) _).trans nZ),aq⟩
          · go_wp2_with (at_builtin;go_loud (refine MW Tryz.Nv Tryz.Ik rfl (by decide) Cc rfl _ _ rfl N.heap.size (by simp;omega) _ F rfl (aN.below y ((cV _ _).alloc (zL0) _)) (sk,sd) _ 1 rfl (dI (aj.new _ _ 160)) (by unfold maxLen;omega) (by omega) ?_;intro v8 w8 CW nZ A8 GD))
            go_roundg (r - 1)
            case measure=>omega
            case rel=>exact⟨p+1,r - 1,_,_,by omega,rfl,by omega,rfl,by omega,fun _=>by simp[Nat.succ_mul],by rw[zi.out];exact CW,x.trans (((cV _ k).alloc (by omega) _).trans nZ),aq⟩
        · have bj:q<p:=by
            apply jz;intro bD;have e:p=q:=by omega
            subst e;exact hgo ⟨hq,HN.out.symm⟩
          have an:∀m,M[p]?=some m->m.1≠n:=fun m j e=>by
            obtain⟨h1,h2⟩:=cG.1 j;exact hgo ⟨h1,by rw[h2];exact e⟩
          have U:Hid (∀R,sH i (M.drop p) ⟨vw d.ks F,d.es++[(i,n,jm d.ks F)]⟩ R->R=RR):=fun R h=>HL.out R (sH.step bj (by omega) HA.out an (by rw[<-HF.out,akq];exact h))
          have az:F≠[]:=fun e=>by
            have:=eS List.length (e.symm.trans HF.out);simp only[iu,dt,fN,oe]at this;omega
          have Ea:∀s∈F,s.1<=1000000/\s.2<=1000000:=fun s hs=>by
            rw[HF.out]at hs;obtain⟨m,j,rfl⟩:=ej.1 hs;exact(aP.out m (List.mem_of_mem_drop (nz j))).2
          have ag:nD l k.drew f G (.slice ta nT tc) (.slice na nN nc) vP vB vQ ve d:=(C.below x).below (w':=k.drew) ⟨rfl,rfl,rfl,zL0,fun _ _=>rfl⟩;obtain⟨vk,a5,-,-,a2,aI,a8,b7⟩:=C.below x;obtain⟨ea,ec,rfl,-⟩:∃a c,ve=Value.slice a d.es.length c/\d.es.length<=maxLen:=aB a2;have qN:=Ze ag (jc (aN.below y (w':=k.drew) ⟨rfl,rfl,rfl,zL0,fun _ _=>rfl⟩) (by have:=C.choose_spec.2.2.2.2.2.2.size;omega)) az (by omega) Ea z (by omega) ht;have d7:k.cell? ⟨f,7,none⟩=some (.slice ea d.es.length ec):=a5.cell 7;have aG:kU k k.drew:=fun _ _ h=>h
          have UG:=ahp (F:=F) z;have bu:=akr (ks:=d.ks) (F:=F);have bs:jm d.ks F<=d.ks.length:=List.findIdx_le_length;clear HA HN HL C az Ea ag a5 a2 an;have UH:∀h:p<M.length,¬M[p].1=n:=fun h e=>hgo ⟨h,e⟩
          obtain⟨t,OA⟩:∃t,t=jm d.ks F:=⟨_,rfl⟩;obtain⟨o,OB⟩:∃o,o=vw d.ks F:=⟨_,rfl⟩;rw[<-OA,<-OB]at U;rw[<-OA]at bs;rw[<-OB]at UG bu;have bh:Calls prog 65 #[.pointer (some ⟨f,0,none⟩),.slice fa F.length fc] k.drew (fun e w'=>e=.returned (.int .i64 (t:Int))/\nD l w' f G (.slice ta nT tc) (.slice na nN nc) vP vB vQ (.slice ea d.es.length ec) ⟨o,d.es⟩/\kU k.drew w'/\k.drew.heap.size<=w'.heap.size):=by rw[OA,OB];exact qN
          clear qN OA OB hgo;rcases Nat.eq_zero_or_pos r with Z|Z
          case' inl=>
            subst Z;clear UH;go_upto_region 7 with fail
          case' inr=>
            obtain rfl:=Y Z;have u:p<M.length:=by omega
            have c0:=(TD.out k p u Wo).1;have a7:=UH u;clear UH;generalize M[p].1=n2 at c0 a7;have j1:((n2:Int) == (n:Int))=false:=zB0 (by omega);have j2:¬(n2:Int)=(n:Int):=by omega
            have j3:(0:Int)<(r:Int):=by omega
            go_upto_region 7 with fail
          all_goals
            go_region_law (first
              | (refine fP rfl 65 #[.pointer (some ⟨f,0,none⟩),.slice fa F.length fc] (by go_simp) bh ?_;rintro e J⟨rfl,aE,ba,b9⟩;obtain⟨aF,zB,A9,a1,G5,-,-,ab⟩:=aE;have b5:J.cell? ⟨f,7,none⟩=some (.slice ea d.es.length ec):=zB.cell 7;have O:=World.ownsRow.alloc G5 (.cells #[.int .i64 (i:Int),.int .i64 (n:Int),.int .i64 (t:Int)] 173);have bl:=ab.size;have bR:(J.alloc (.cells #[.int .i64 (i:Int),.int .i64 (n:Int),.int .i64 (t:Int)] 173)).cell? ⟨f,7,none⟩=some (.slice ea d.es.length ec):=(zB.alloc _).cell 7;refine⟨_,rfl,?_⟩)
              | (refine step_append_lies _ rfl (.tmp 47) (.tmp 54) 93 rfl l.heap.size 173 bg _ 3 24 Tryz.ae8 bf bb aW bd rfl (by decide) (.slice ea d.es.length ec) d.es.length (d.es.flatMap uZ) (by simp[Act.eval]) O ⟨J.heap.size,0,none⟩ 1 1 [.int .i64 (i:Int),.int .i64 (n:Int),.int .i64 (t:Int)] (by simp[Act.eval]) rfl (dI (aj.new J _ 173)) (by simp[Value.oneCell']) (by decide) (by unfold maxLen;omega) (by omega) (by simp;omega) _ rfl ?_;intro g5 Q E A B lG NY;have Ba:aj E f _ 157:=(zB.alloc (.cells #[.int .i64 (i:Int),.int .i64 (n:Int),.int .i64 (t:Int)] 173)).grown B (fun e=>own_ne O (zB.alloc _) (by decide) f e.symm rfl);have bz:E.cell? ⟨f,7,none⟩=some (.slice ea d.es.length ec):=Ba.cell 7;have bw:∀i,E.frozen? ⟨f,i,none⟩=false:=Ba.frozen))
            all_goals
              have O:=World.ownsRow.alloc G5 (.cells #[.int .i64 (i:Int),.int .i64 (n:Int),.int .i64 (t:Int)] 173);have dM:Below J.heap.size J (J.alloc (.cells #[.int .i64 (i:Int),.int .i64 (n:Int),.int .i64 (t:Int)] 173)):=(cV _ J).alloc (zL0) _;have mP:aN 173 3 uZ l.heap.size E (.slice (some ⟨g5,0,none⟩) (d.es.length+1) Q) (d.es++[(i,n,t)]):=by
                have e:(d.es++[(i,n,t)]).flatMap uZ=d.es.flatMap uZ++[.int .i64 (i:Int),.int .i64 (n:Int),.int .i64 (t:Int)]:=by simp[uZ]
                unfold aN;rw[e,cH];exact A
              have uF:jA 161 160 l.heap.size E aF o:=jA.grown (a1.below dM) O (by decide) (by decide) B;have zC:=A9.move (dM.block _ A9.lt);have P6:lJ E G (o.map qb):=by
                obtain⟨bO,UD,UE,-⟩:=id zC;exact zC.move (B.block G zC.lt (fun e=>Jf O UE G e.symm rfl))
              have a9:Below l.heap.size l E:=ab.trans ((dM.mono bl).trans ⟨B.os,B.tape,B.output,B.size,fun b hb=>B.block b (by simp;omega) (fun e=>absurd (p6 O b e.symm).1 (by omega))⟩);have Ls:=nD.anR Ba P6 uF mP aI a8 a9;have bi:kU k (E.setCell ⟨f,7,none⟩ (.slice (some ⟨g5,0,none⟩) (d.es.length+1) Q)):=(aG.trans ba).trans ((kU.below dM).trans (kU.trans (b:=E) (fun b cs X=>(B.block b X.lt (fun e=>own_ne O X (by decide) b e.symm rfl)).trans X) (kU.but (b:=f) (fun b _ hn=>zS0 hn) (fun cs h=>by unfold aj at h Ba;rw[Ba]at h;cases h))));have eP:=bi.row Wo;have af:(d.es++[(i,n,t)]).length<=40000000+p:=by rw[cH,gx];omega
              have ap:o.length<=300+p:=by omega
              clear Ba zB A9 a1 G5 zC P6 uF mP B A O;go_wp2_with fail
              first
                | (go_roundg r
                   case measure=>omega
                   case rel=>exact⟨p,r,c',some ⟨g,p*3,none⟩,⟨o,d.es++[(i,n,t)]⟩,_,ak,rfl,rfl,ax,fun _=>rfl,Ls,eP,UG,ap,af,U⟩)
                | (go_roundg 0
                   case measure=>omega
                   case rel=>exact⟨p,0,c',a',⟨o,d.es++[(i,n,t)]⟩,_,ak,rfl,rfl,ax,Y,Ls,eP,UG,ap,af,U⟩)
    · obtain rfl:L=0:=by omega
      have HR:Hid (d=RR):=HL.out d (by rw[show M.drop q=[] from tE (by omega)];exact .nil);clear HL ha;go_wp2_with fail
      go_end0
      exact⟨rfl,ve,by rw[<-HR.out];exact C⟩
end Go.Proofs.YtagkodkijkpemaaGreatDoor

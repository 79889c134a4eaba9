import Derived.Test.YtjaalkocdbkdeaaGreatDoorSA32
set_option maxHeartbeats 8000000
set_option maxRecDepth 1000000
namespace Go.Proofs.YtjaalkocdbkdeaaGreatDoor
open Lx Go.Proofs.Tryz
open Go.RowKit
open Tr
def LvE(wB:World)(f mb:Nat)(vT vN vP vB vQ:Value)(R:bK)(e:Ending)(w':World):Prop:=e=.returned (.tuple #[])/\∃ve,nD wB w' f mb vT vN vP vB vQ ve R
theorem WQ{M:List (Nat×av)}{j q:Nat}(hjq:j<=q)(hq:q<M.length):(M.drop j).take (q+1-j)=(M.drop j).take (q-j)++[M[q]]:=by
  rw[show q+1-j=(q-j)+1 by omega,List.take_succ_eq_append_getElem (by rw[List.length_drop];omega)];congr 2;rw[List.getElem_drop];congr 1;omega
theorem agQ{D:Nat->Prop}{wB w:World}{f mb:Nat}{ta na:Option Addr}{nT tc nN nc i st:Nat}{vP vB vQ ve0:Value}{P:List Lx.Pd}{K:List av}{S:bK}(hf:nD wB w f mb (.slice ta nT tc) (.slice na nN nc) vP vB vQ ve0 S)(Sv:PP D wB vP P)(hp:mR P (nT+nN) st)(hK:S.ks[i]?=some K)(hko:qw P i K)(hkm:K.length<=100000)(hkr:K.Pairwise dP)(hnd:S.ks.Nodup)(hkl:S.ks.length<=300)(hel:S.es.length<=40000000)(ht:jd wB):Calls prog 18 #[.pointer (some ⟨f,0,none⟩),.int .i64 (i:Int)] w (LvE wB f mb (.slice ta nT tc) (.slice na nN nc) vP vB vQ (Lx.leave P i K S (List.range (nT+nN)))):=by
  have hcl:=(KN P K).len;have hml:=Yv P (gM P K);have hpl:=hp.len;have hil:i<S.ks.length:=(List.getElem?_eq_some_iff.1 hK).1;have Sw:Hid (∀m∈kH P (gM P K),m.1<nT+nN/\m.2.1<=1000000/\m.2.2<=1000000):=by
    intro m hm;obtain⟨s,-,h1,h2⟩:=Ky.1 hm;have h3:=KM hp h1;have h4:=Pz h1;have h5:=Pj hp s.1;rw[h2];exact⟨h3.1,by simp only;omega,by simp only;omega⟩
  obtain⟨vk,kF,hm,hk,hE,Ng,hBm,pF⟩:=id hf;obtain⟨gk,akj,ka,kc,hvk,lgk,ck,rk⟩:=hk.at hK;subst hvk;have q0:=afG kF (Sv.below pF) hp rk hko hkm hkr;have d6:w.cell? ⟨f,6,none⟩=some (.slice (some ⟨gk,0,none⟩) S.ks.length akj):=kF.cell 6;have i1:(0:Int)<=(i:Int):=by omega
  have i2:(i:Int)<(S.ks.length:Int):=by omega
  have Sy:Hid (∀(M:List (Nat×av))(R:bK),M.Perm (kH P (gM P K))->M.Pairwise oF->rE i M S R->R=Lx.leave P i K S (List.range (nT+nN))):=by
    intro M R h1 h2 h3;have:=h3.leave (P:=P) (K:=K) (sz:=nT+nN) 0 (Nat.zero_le _) h2 (fun m=>by rw[h1.mem_iff];simp) (fun m hm=>(Sw.out m (h1.mem_iff.1 hm)).1);rw[this,Nat.sub_zero,<-List.range_eq_range']
  generalize Lx.leave P i K S (List.range (nT+nN))=RR at Sy|-;clear kF hm hk hE rk hp hko hkr hK;go_enter func18,ntmps18;go_upto_region 1 with (go_at_call 29;refine q0.mono ?_;rintro e w1⟨v1,M,rfl,hM1,hb1,hpm,hpw⟩)
  clear q0 d6 ck;have hf1:nD wB w1 f mb _ _ _ _ _ _ S:=hf.below hb1;have hsB:=pF.size;have hs1:=hb1.size;have hM0:aJ 101 3 gI wB.heap.size w1 v1 M:=dm hM1 hsB;obtain⟨ma,mc,g,hv1,hg,hmc⟩:∃ma mc g,v1=.slice ma M.length mc/\(0<M.length->ma=some ⟨g,0,none⟩)/\M.length<=mc:=by
    rcases hM0.2 with ⟨hv,h0⟩|⟨g,cap,cur,hv,-,-,hc,-⟩
    · exact⟨none,0,0,by rw[hv,h0],fun h=>by omega,by omega⟩
    · exact⟨_,cap,g,hv,fun _=>rfl,hc⟩
  subst hv1;have hMl:M.length<=200000:=by have:=hpm.length_eq;omega
  have HLr:Hid (∀R,rE i M S R->R=RR):=fun R h=>Sy.out M R hpm hpw h
  have HSm:Hid (∀m∈M,m.1<nT+nN/\m.2.1<=1000000/\m.2.2<=1000000):=fun m hm=>Sw.out m (hpm.mem_iff.1 hm)
  have Jm:Hid (∀R,rE i (M.drop 0) S R->R=RR):=HLr.out;clear Sy Sw hpm hpw hM1 hf HLr;have hg0:0<M.length->ma=some ⟨g,0*3,none⟩:=by simpa using hg
  generalize Sz:Value.slice ma M.length mc=vM at hM0|-;obtain⟨aan⟩:Nonempty (∃c,M.length<=c/\vM=.slice ma M.length c):=⟨⟨mc,hmc,Sz.symm⟩⟩;have QM:0<M.length->∃c,vM=.slice (some ⟨g,0,none⟩) M.length c:=fun h=>⟨mc,by rw[<-Sz,hg h]⟩
  have HvM:Hid (0<M.length->∃c,vM=.slice (some ⟨g,0,none⟩) M.length c):=QM;have PO:Hid (∀(wx:World)(p:Nat)(hp:p<M.length),aJ 101 3 gI wB.heap.size wx vM M->wx.cell? ⟨g,p*3,none⟩=some (.int .i64 (M[p].1:Int))/\wx.cell? ⟨g,p*3+1,none⟩=some (.int .i64 (M[p].2.1:Int))/\wx.cell? ⟨g,p*3+2,none⟩=some (.int .i64 (M[p].2.2:Int))):=by
    intro wx p hp hx;obtain⟨c,hc⟩:=QM (by omega);obtain⟨g',cap',hv,-,-,hcs⟩:=aJ.at Fq hx hp;rw[hc]at hv;cases hv;exact⟨hcs 0 _ (by decide) rfl,hcs 1 _ (by decide) rfl,hcs 2 _ (by decide) rfl⟩
  obtain⟨i38,akk,hz0,hz1,hz2⟩:=info_parts Tryz.aje;clear Sz QM hg
  go_loopg [4] M.length (fun m v wr=>∃(q L c:Nat)(a:Option Addr)(S':bK)(ve:Value),q+L=M.length/\L=m/\v=.slice a L c/\L<=c/\(0<L->a=some ⟨g,q*3,none⟩)/\nD wB wr f mb (.slice ta nT tc) (.slice na nN nc) vP vB vQ ve S'/\aJ 101 3 gI wB.heap.size wr vM M/\S'.ks.Nodup/\S'.ks.length<=300+q/\S'.es.length<=40000000+q/\Hid (∀R,rE i (M.drop q) S' R->R=RR))
  case atStart=>
    obtain⟨c,hc,rfl⟩:=aan;exact⟨0,M.length,c,ma,S,ve0,by omega,rfl,rfl,hc,hg0,hf1,hM0,hnd,by omega,by omega,Jm⟩
  case round=>
    clear aan hg0 hf1 hM0 hnd hkl hel Jm hb1 hs1;revert wr;intro wz hrel;obtain⟨q,L,c,a,S',ve,hqL,rfl,rfl,hLc,ha,hf,hM,hnd,hkl,hel,HL⟩:=hrel
    by_cases hL0:0<L
    · obtain rfl:=ha hL0
      have hq:q<M.length:=by omega
      have hcz:=PO.out wz q hq hM;obtain⟨n,hn⟩:∃n,n=M[q].1:=⟨_,rfl⟩;rw[<-hn]at hcz;have c0:=hcz.1;have i3:(0:Int)<(L:Int):=by omega
      have Jo:Hid (∀m∈(M.drop q).take (q-q),m.1=n):=fun m hm=>by rw[Nat.sub_self,List.take_zero]at hm;cases hm
      have HN:Hid (n=M[q].1):=hn;have ME:aJ 36 2 dI wz.heap.size wz (.slice none 0 0) (((M.drop q).take (q-q)).map Prod.snd):=by rw[Nat.sub_self,List.take_zero];exact World.ownsRow_nil _ _ _ _
      clear hcz hn ha;go_wp2_with fail;clear c0
      go_loopg [4,6] L (fun m v kv wq=>∃(p L' c':Nat)(a':Option Addr),p+L'=M.length/\L'=m/\q<=p/\v=.slice a' L' c'/\L'<=c'/\(0<L'->a'=some ⟨g,p*3,none⟩)/\aJ 36 2 dI wz.heap.size wq kv (((M.drop q).take (p-q)).map Prod.snd)/\Below wz.heap.size wz wq/\Hid (∀m∈(M.drop q).take (p-q),m.1=n))
      case atStart=>exact⟨q,L,c,_,by omega,rfl,zL0,rfl,hLc,fun _=>rfl,ME,Below.refl _ _,Jo⟩
      case round=>
        clear Jo ME i3;revert wr;intro wq hrel;obtain⟨p,L',c',a',hpL,rfl,hqp,rfl,aao,ha',hKr,hbq,HA⟩:=hrel;have hsq:=hbq.size;have SA:aJ 101 3 gI wB.heap.size wq vM M:=hM.below hbq;obtain⟨F,hF⟩:∃F,F=((M.drop q).take (p-q)).map Prod.snd:=⟨_,rfl⟩;rw[<-hF]at hKr;have hFl:F.length<=200000:=by rw[hF,List.length_map,List.length_take,List.length_drop];omega
        have HF:Hid (F=((M.drop q).take (p-q)).map Prod.snd):=hF;clear hF;obtain⟨fa,fc,rfl,-⟩:∃a c,_=Value.slice a F.length c/\F.length<=maxLen:=aF hKr
        by_cases hgo:∃h:p<M.length,M[p].1=n
        · obtain⟨hp,hpn⟩:=hgo
          obtain rfl:=ha' (by omega);obtain⟨c0,c1,c2⟩:=PO.out wq p hp SA;have zi:Hid (((M.drop q).take (p+1-q)).map Prod.snd=F++[M[p].2]):=by show _=_;rw[WQ hqp hp,List.map_append,HF.out];rfl
          have HA2:Hid (∀m∈(M.drop q).take (p+1-q),m.1=n):=fun m hm=>by
            rw[WQ hqp hp]at hm;rcases List.mem_append.1 hm with hm|hm
            · exact HA.out m hm
            · rw[List.mem_singleton]at hm;rw[hm];exact hpn
          rw[hpn]at c0;generalize M[p].2=sp at c1 c2 zi;obtain⟨sk,sd⟩:=sp;simp only at c1 c2;have i3:(0:Int)<(L':Int):=by omega
          have i4:(1:Int)<=(L':Int):=by omega
          clear hpn HA HN HL hf;rcases Classical.em (c'=1) with hc1|hc1
          · subst hc1
            go_wp2_with (at_builtin;go_loud (refine rY Tryz.KY Tryz.FN rfl (by decide) qi rfl _ _ rfl wz.heap.size (by simp;omega) _ F rfl (aJ.below hKr ((Below.refl _ _).alloc (zL0) _)) (sk,sd) _ 1 rfl (bC (aj.new _ _ 36)) (by unfold maxLen;omega) (by omega) ?_;intro v8 w8 mh jR qR Di))
            go_roundg (L' - 1)
            case measure=>omega
            case rel=>exact⟨p+1,0,0,_,by omega,by omega,by omega,rfl,by omega,fun h=>by omega,by rw[zi.out];exact mh,hbq.trans (((Below.refl _ wq).alloc (by omega) _).trans jR),HA2⟩
          · go_wp2_with (at_builtin;go_loud (refine rY Tryz.KY Tryz.FN rfl (by decide) qi rfl _ _ rfl wz.heap.size (by simp;omega) _ F rfl (aJ.below hKr ((Below.refl _ _).alloc (zL0) _)) (sk,sd) _ 1 rfl (bC (aj.new _ _ 36)) (by unfold maxLen;omega) (by omega) ?_;intro v8 w8 mh jR qR Di))
            go_roundg (L' - 1)
            case measure=>omega
            case rel=>exact⟨p+1,L' - 1,_,_,by omega,rfl,by omega,rfl,by omega,fun _=>by simp[Nat.succ_mul],by rw[zi.out];exact mh,hbq.trans (((Below.refl _ wq).alloc (by omega) _).trans jR),HA2⟩
        · have akl:q<p:=by
            apply Decidable.byContradiction;intro hn2;have e:p=q:=by omega
            subst e;exact hgo ⟨hq,HN.out.symm⟩
          have hpd:∀m,M[p]?=some m->m.1≠n:=fun m hm e=>by
            obtain⟨h1,h2⟩:=List.getElem?_eq_some_iff.1 hm;exact hgo ⟨h1,by rw[h2];exact e⟩
          have HL2:Hid (∀R,rE i (M.drop p) ⟨uG S'.ks F,S'.es++[(i,n,gN S'.ks F)]⟩ R->R=RR):=fun R h=>HL.out R (rE.step akl (by omega) HA.out hpd (by rw[<-HF.out,ah2];exact h))
          have hne:F≠[]:=fun e=>by
            have:=congrArg List.length (e.symm.trans HF.out);simp only[List.length_nil,List.length_map,List.length_take,List.length_drop]at this;omega
          have Dj:∀s∈F,s.1<=1000000/\s.2<=1000000:=fun s hs=>by
            rw[HF.out]at hs;obtain⟨m,hm,rfl⟩:=List.mem_map.1 hs;exact(HSm.out m (List.mem_of_mem_drop (List.mem_of_mem_take hm))).2
          have hfD:nD wB wq.drew f mb (.slice ta nT tc) (.slice na nN nc) vP vB vQ ve S':=(hf.below hbq).below (w':=wq.drew) ⟨rfl,rfl,rfl,zL0,fun _ _=>rfl⟩;obtain⟨vk,kFq,-,-,hEq,akm,akn,amA⟩:=hf.below hbq;obtain⟨ea,ec,rfl,-⟩:∃a c,ve=Value.slice a S'.es.length c/\S'.es.length<=maxLen:=aF hEq;have qN:=VP hfD (dm (aJ.below hKr (w':=wq.drew) ⟨rfl,rfl,rfl,zL0,fun _ _=>rfl⟩) (by have:=hf.choose_spec.2.2.2.2.2.2.size;omega)) hne (by omega) Dj hnd (by omega) ht;have d7:wq.cell? ⟨f,7,none⟩=some (.slice ea S'.es.length ec):=kFq.cell 7;have hKM:kU wq wq.drew:=fun _ _ h=>h
          have QN:=afI (F:=F) hnd;have ako:=ah3 (ks:=S'.ks) (F:=F);have hix:gN S'.ks F<=S'.ks.length:=List.findIdx_le_length;clear HA HN HL hf hne Dj hfD kFq hEq hpd;have QO:∀h:p<M.length,¬M[p].1=n:=fun h e=>hgo ⟨h,e⟩
          obtain⟨ix,LW⟩:∃ix,ix=gN S'.ks F:=⟨_,rfl⟩;obtain⟨ks',LX⟩:∃ks',ks'=uG S'.ks F:=⟨_,rfl⟩;rw[<-LW,<-LX]at HL2;rw[<-LW]at hix;rw[<-LX]at QN ako;have qN':Calls prog 17 #[.pointer (some ⟨f,0,none⟩),.slice fa F.length fc] wq.drew (fun e w'=>e=.returned (.int .i64 (ix:Int))/\nD wB w' f mb (.slice ta nT tc) (.slice na nN nc) vP vB vQ (.slice ea S'.es.length ec) ⟨ks',S'.es⟩/\kU wq.drew w'/\wq.drew.heap.size<=w'.heap.size):=by rw[LW,LX];exact qN
          clear qN LW LX hgo;rcases Nat.eq_zero_or_pos L' with hL2|hL2
          case' inl=>
            subst hL2;clear QO;go_upto_region 7 with fail
          case' inr=>
            obtain rfl:=ha' hL2;have hp:p<M.length:=by omega
            have c0:=(PO.out wq p hp SA).1;have hne2:=QO hp;clear QO;generalize M[p].1=n2 at c0 hne2;have j1:((n2:Int) == (n:Int))=false:=zB0 (by omega);have j2:¬(n2:Int)=(n:Int):=by omega
            have j3:(0:Int)<(L':Int):=by omega
            go_upto_region 7 with fail
          all_goals
            go_region_law (first
              | (refine jK rfl 17 #[.pointer (some ⟨f,0,none⟩),.slice fa F.length fc] (by go_simp) qN' ?_;rintro e w3⟨rfl,hf3,akp,hs3⟩;obtain⟨vk3,qW,Ay,hK3,SB,-,-,aap⟩:=hf3;have d73:w3.cell? ⟨f,7,none⟩=some (.slice ea S'.es.length ec):=qW.cell 7;have oA:=World.ownsRow.alloc SB (.cells #[.int .i64 (i:Int),.int .i64 (n:Int),.int .i64 (ix:Int)] 38);have akq:=aap.size;have amB:(w3.alloc (.cells #[.int .i64 (i:Int),.int .i64 (n:Int),.int .i64 (ix:Int)] 38)).cell? ⟨f,7,none⟩=some (.slice ea S'.es.length ec):=(qW.alloc _).cell 7;refine⟨_,rfl,?_⟩)
              | (refine step_append_lies _ rfl (.tmp 47) (.tmp 54) 23 rfl wB.heap.size 38 i38 _ 3 24 Tryz.ad1 akk hz0 hz1 hz2 rfl (by decide) (.slice ea S'.es.length ec) S'.es.length (S'.es.flatMap nP) (by simp[Act.eval]) oA ⟨w3.heap.size,0,none⟩ 1 1 [.int .i64 (i:Int),.int .i64 (n:Int),.int .i64 (ix:Int)] (by simp[Act.eval]) rfl (bC (aj.new w3 _ 38)) (by simp[Value.oneCell']) (by decide) (by unfold maxLen;omega) (by omega) (by simp;omega) _ rfl ?_;intro g5 cap5 w5 hown5 aU j6 Ew;have zA:aj w5 f _ 64:=(qW.alloc (.cells #[.int .i64 (i:Int),.int .i64 (n:Int),.int .i64 (ix:Int)] 38)).grown aU (fun e=>own_ne oA (qW.alloc _) (by decide) f e.symm rfl);have SC:w5.cell? ⟨f,7,none⟩=some (.slice ea S'.es.length ec):=zA.cell 7;have f57:∀i,w5.frozen? ⟨f,i,none⟩=false:=zA.frozen))
            all_goals
              have oA:=World.ownsRow.alloc SB (.cells #[.int .i64 (i:Int),.int .i64 (n:Int),.int .i64 (ix:Int)] 38);have jw:Below w3.heap.size w3 (w3.alloc (.cells #[.int .i64 (i:Int),.int .i64 (n:Int),.int .i64 (ix:Int)] 38)):=(Below.refl _ w3).alloc (zL0) _;have rR:aJ 38 3 nP wB.heap.size w5 (.slice (some ⟨g5,0,none⟩) (S'.es.length+1) cap5) (S'.es++[(i,n,ix)]):=by
                have e:(S'.es++[(i,n,ix)]).flatMap nP=S'.es.flatMap nP++[.int .i64 (i:Int),.int .i64 (n:Int),.int .i64 (ix:Int)]:=by simp[nP]
                unfold aJ;rw[e,List.length_append];exact hown5
              have wD:fD 34 36 wB.heap.size w5 vk3 ks':=fD.grown (hK3.below jw) oA (by decide) (by decide) aU;have Bj:=Ay.move (jw.block _ Ay.lt);have EZ:lJ w5 mb (ks'.map pI):=by
                obtain⟨es2,QL,GL,-⟩:=id Bj;exact Bj.move (aU.block mb Bj.lt (fun e=>Gm oA GL mb e.symm rfl))
              have hb5:Below wB.heap.size wB w5:=aap.trans ((jw.mono akq).trans ⟨aU.os,aU.tape,aU.output,aU.size,fun b hb=>aU.block b (by simp;omega) (fun e=>absurd (World.ownsRow.lt oA b e.symm).1 (by omega))⟩);have CV:=nD.aki zA EZ wD rR akm akn hb5;have akr:kU wq (w5.setCell ⟨f,7,none⟩ (.slice (some ⟨g5,0,none⟩) (S'.es.length+1) cap5)):=(hKM.trans akp).trans ((kU.below jw).trans (kU.trans (b:=w5) (fun b cs hg=>(aU.block b hg.lt (fun e=>own_ne oA hg (by decide) b e.symm rfl)).trans hg) (kU.but (b:=f) (fun b _ hn=>zS0 hn) (fun cs h=>by unfold aj at h zA;rw[zA]at h;cases h))));have fE:=akr.row SA;have aaq:(S'.es++[(i,n,ix)]).length<=40000000+p:=by rw[List.length_append,List.length_singleton];omega
              have aar:ks'.length<=300+p:=by omega
              clear zA qW Ay hK3 SB Bj EZ wD rR aU hown5 oA;go_wp2_with fail
              first
                | (go_roundg L'
                   case measure=>omega
                   case rel=>exact⟨p,L',c',some ⟨g,p*3,none⟩,⟨ks',S'.es++[(i,n,ix)]⟩,_,hpL,rfl,rfl,aao,fun _=>rfl,CV,fE,QN,aar,aaq,HL2⟩)
                | (go_roundg 0
                   case measure=>omega
                   case rel=>exact⟨p,0,c',a',⟨ks',S'.es++[(i,n,ix)]⟩,_,hpL,rfl,rfl,aao,ha',CV,fE,QN,aar,aaq,HL2⟩)
    · obtain rfl:L=0:=by omega
      have HR:Hid (S'=RR):=HL.out S' (by rw[show M.drop q=[] from List.drop_eq_nil_of_le (by omega)];exact .nil);clear HL ha;go_wp2_with fail
      go_end0
      exact⟨rfl,ve,by rw[<-HR.out];exact hf⟩
end Go.Proofs.YtjaalkocdbkdeaaGreatDoor

import Derived.Test.YtlcppnabbicmoaaGreatDoorMC49
import Derived.BigQuiet
import Derived.WalkSpells
import Derived.BigRegion
namespace Go.Proofs.YtlcppnabbicmoaaGreatDoor
open Go.RowKit
open Tr
structure WellP (nT nN:Nat) (P:List Lx.Pd):Prop where
 well:∀ p∈P,Lx.PdWell nT (nT+nN) p
 t0:0<nT
 n1:1<nN
 p1:1<P.length
 bd:nT+nN≤100000
 pl:P.length≤200
 fst:∃ R,P=⟨nT,[nT+1],-1⟩::R
 ris:P.Pairwise fun a b=>a.left≤b.left
 has:∀ s,nT≤s→s<nT+nN→∃ p∈P,p.left=s
 used:∀ s,nT<s→s<nT+nN→∃ p∈P,s∈p.right
 ends:∀ E0:List Bool,E0.length = nT + nN → (∀ s,s < nT → Lx.at? E0 s = true) → ∀ s,s < nT + nN → Lx.at? (Lx.itr (Lx.passE P) P.length E0) s = true
theorem wellP_of {s:ByteArray}{g:Lx.Gr}(w:World)(h:Lx.mkR s=.ok g):WellP (Lx.tokG g).length (Lx.namG g).length (Lx.prodG g):=by
 have hf:=fit_any w h
 obtain⟨hp,hc,hl⟩:=Lx.mkR_inv h
 have hne:=Lx.parse_ne hp
 have nd:=Lx.dup_rules hf.dup
 have hn1:1<(Lx.namG g).length:=by have:=Lx.namG_len g;have:=Lx.names_pos hf;omega
 refine⟨Lx.prod_well hf,Lx.tokG_pos g,hn1,?_,(setOk_of hf).2.1,hl,⟨_,rfl⟩,Lx.prod_left g,fun s h1 h2=>Lx.prod_has hf hne h1 h2,fun s h1 h2=>Lx.prod_used hf nd hc h1 h2,fun E0 h1 h2 s h3=>Lx.ends_rounds hf hne nd hc h1 h2 h3⟩
 obtain⟨p,hp2,e⟩:=Lx.prod_has hf hne (s:=(Lx.tokG g).length+1) (by omega) (by omega)
 rcases Nat.lt_or_ge 1 (Lx.prodG g).length with h' | h'
 ·exact h'
 ·have:Lx.prodG g=[⟨(Lx.tokG g).length,[(Lx.tokG g).length+1],-1⟩]:=by
   have e2:(Lx.prodG g).length=(Lx.rulesPd (Lx.tokG g) (Lx.namG g) ((Lx.tokG g).length+1) g.rules).length+1:=rfl
   have e3:Lx.rulesPd (Lx.tokG g) (Lx.namG g) ((Lx.tokG g).length+1) g.rules=[]:=List.eq_nil_of_length_eq_zero (by omega)
   unfold Lx.prodG
   rw [e3]
  rw [this,List.mem_singleton] at hp2
  rw [hp2] at e
  have:(Lx.tokG g).length=(Lx.tokG g).length+1:=e
  omega
set_option maxHeartbeats 8000000 in
set_option maxRecDepth 100000 in
theorem PlainWell_any (s:ByteArray)(w:World)(hmax:s.size≤maxLen)(ht:Tab w):Calls Tryz.prog 6 #[.string s] w fun e w'=>e=.returned (.bool true)∧Below w.heap.size w w':=by
 have q1:=make_any s w hmax ht
 have HWP:Hid (∀ g,Lx.mkR s=.ok g→WellP (Lx.tokG g).length (Lx.namG g).length (Lx.prodG g)):=fun g hg=>wellP_of w hg
 go_enter Tryz.func6,Tryz.ntmps6
 go_wp2_with fail
 refine q1.mono ?_
 rintro e w1 ⟨v,n,a,rfl,hb1,hok1,her1⟩
 clear q1
 have hs1:=hb1.size
 cases hr:Lx.mkR s with
 | error x =>
  obtain⟨rfl,rfl,rfl⟩:=her1 x hr
  have hp:=Lx.mkR_pos hr
  have HR:Hid (Lx.mkR s=.error x):=hr
  clear hr her1 hok1
  unfold none5
  obtain⟨W,hW⟩:∃ W,W=w1.alloc (.cells #[.slice none 0 0,.slice none 0 0,.slice none 0 0,.slice none 0 0,.slice none 0 0] 26):=⟨_,rfl⟩
  have hbW1:Below w1.heap.size w1 W:=by rw [hW];exact (Below.refl _ _).alloc (Nat.le_refl _) _
  have hbW:Below w.heap.size w W:=hb1.trans (hbW1.mono hs1)
  have kW:Blk W w1.heap.size #[.slice none 0 0,.slice none 0 0,.slice none 0 0,.slice none 0 0,.slice none 0 0] 26:=by rw [hW];exact blk5 _ _ _ _ _ _
  have q2:=docMake_any s W
  go_wp2_with fail
  rw [←hW]
  clear hW
  refine q2.mono ?_
  rintro e w2 ⟨v,n,a,rfl,hb2,-,her2⟩
  obtain⟨rfl,rfl,rfl⟩:=her2 x HR.out
  clear q2 her2
  obtain⟨W2,hW2⟩:∃ W2,W2=w2.alloc (.cells #[.slice none 0 0,.slice none 0 0,.slice none 0 0,.slice none 0 0,.slice none 0 0] 32):=⟨_,rfl⟩
  have hb2W:Below w2.heap.size w2 W2:=by rw [hW2];exact (Below.refl _ _).alloc (Nat.le_refl _) _
  have hbb:Below W.heap.size W W2:=hb2.trans (hb2W.mono hb2.size)
  have hbf:Below w.heap.size w W2:=hbW.trans (hbb.mono hbW.size)
  have kA:Blk W2 w1.heap.size _ 26:=(hbb.block _ kW.lt).trans kW
  have a1:W2.cell? ⟨w1.heap.size,1,none⟩=some (.slice none 0 0):=kA.cell 1
  have a2:W2.cell? ⟨w1.heap.size,2,none⟩=some (.slice none 0 0):=kA.cell 2
  have q4:=alive_any W2 (ht.move (hbf.block _ ht.lt))
  have hnb:((x.1:Int) != 0)=true:=bne_iff_ne.2 (by omega)
  have hnd:¬ (x.1:Int)=0:=by omega
  have hn23:=fun w=>run_eql_nil_slice (P:=Tryz.prog) w 23 58 none 0 0 0 0 Tryz.underlying23
  have hn22:=fun w=>run_eql_nil_slice (P:=Tryz.prog) w 22 9 none 0 0 0 0 Tryz.underlying22
  go_upto_region 3 with fail
  rw [←hW2]
  clear hW2 kW kA hp
  go_wp2_with (first | (go_at_call 12;refine (num_any _ _).mono ?_;rintro e w' ⟨rfl,hw'⟩;obtain rfl:=hw'.symm) | fail)
  go_at_call 13
  refine q4.mono ?_
  rintro e w5 ⟨rfl,hb5⟩
  go_wp2_with fail
  go_ret
  exact⟨rfl,hbf.trans (hb5.mono hbf.size)⟩
 | ok g =>
  obtain⟨rfl,rfl,hP⟩:=hok1 g hr
  have hWP:=HWP.out g hr
  have HR:Hid (Lx.mkR s=.ok g):=hr
  obtain⟨vT,vN,vP,vB,vK,rfl,hT,hN,hPP,hB,hK⟩:=hP
  obtain⟨ta,tc,rfl,-⟩:=own_len hT
  obtain⟨na,nc,rfl,-⟩:=own_len hN
  obtain⟨ps,p1,p2,-⟩:=id hPP
  obtain⟨pa,pc,rfl,-⟩:=own_len p2
  obtain⟨ba,bc,hvB,-⟩:=own_len hB
  obtain⟨ka,kc,hvK,-⟩:=own_len hK
  rw [List.length_map] at hvB hvK
  subst hvB hvK
  clear hr her1 hok1 hT hN hB hK p1 p2 HWP
  generalize (Lx.tokG g).length=nT at *
  generalize (Lx.namG g).length=nN at *
  generalize Lx.prodG g=P at *
  obtain⟨W,hW⟩:∃ W,W=w1.alloc (.cells #[.slice ta nT tc,.slice na nN nc,.slice pa P.length pc,.slice ba nT bc,.slice ka nT kc] 26):=⟨_,rfl⟩
  have kW:Blk W w1.heap.size #[.slice ta nT tc,.slice na nN nc,.slice pa P.length pc,.slice ba nT bc,.slice ka nT kc] 26:=by rw [hW];exact blk5 _ _ _ _ _ _
  have hbW1:Below w1.heap.size w1 W:=by rw [hW];exact (Below.refl _ _).alloc (Nat.le_refl _) _
  have hbW:Below w.heap.size w W:=hb1.trans (hbW1.mono hs1)
  have HPP:Hid (PP (fun _=>True) W (.slice pa P.length pc) P):=hPP.below hbW1
  have q2:=docMake_any s W
  clear hPP
  go_wp2_with fail
  rw [←hW]
  clear hW
  refine q2.mono ?_
  rintro e w2 ⟨v,n,a,rfl,hb2,hok2,-⟩
  obtain⟨rfl,rfl,hP2⟩:=hok2 g HR.out
  obtain⟨uT,uN,uP,uB,uK,rfl,hT,hN,⟨ps,p1,p2,-⟩,hB,hK⟩:=hP2
  obtain⟨ta',tc',rfl,-⟩:=own_len hT
  obtain⟨na',nc',rfl,-⟩:=own_len hN
  obtain⟨pa',pc',rfl,-⟩:=own_len p2
  obtain⟨ba',bc',rfl,-⟩:=own_len hB
  obtain⟨ka',kc',rfl,-⟩:=own_len hK
  clear q2 hok2 hT hN hB hK p1 p2
  generalize (Lx.tokG g).length=m1
  generalize (Lx.namG g).length=m2
  generalize (Lx.prodG g).length=m3
  generalize ((Lx.tokG g).map fun t=>(Lx.bkOf g t).1).length=m4
  generalize ((Lx.tokG g).map fun t=>(Lx.bkOf g t).2).length=m5
  obtain⟨W2,hW2⟩:∃ W2,W2=w2.alloc (.cells #[.slice ta' m1 tc',.slice na' m2 nc',.slice pa' m3 pc',.slice ba' m4 bc',.slice ka' m5 kc'] 32):=⟨_,rfl⟩
  have hb2W:Below w2.heap.size w2 W2:=by rw [hW2];exact (Below.refl _ _).alloc (Nat.le_refl _) _
  have hbb:Below W.heap.size W W2:=hb2.trans (hb2W.mono hb2.size)
  have hbf:Below w.heap.size w W2:=hbW.trans (hbb.mono hbW.size)
  have kA:Blk W2 w1.heap.size _ 26:=(hbb.block _ kW.lt).trans kW
  have a0:W2.cell? ⟨w1.heap.size,0,none⟩=some (.slice ta nT tc):=kA.cell 0
  have a1:W2.cell? ⟨w1.heap.size,1,none⟩=some (.slice na nN nc):=kA.cell 1
  have a2:W2.cell? ⟨w1.heap.size,2,none⟩=some (.slice pa P.length pc):=kA.cell 2
  have a3:W2.cell? ⟨w1.heap.size,3,none⟩=some (.slice ba nT bc):=kA.cell 3
  have a4:W2.cell? ⟨w1.heap.size,4,none⟩=some (.slice ka nT kc):=kA.cell 4
  have HP2:Hid (PP (fun _=>True) W2 (.slice pa P.length pc) P):=PP.below HPP.out hbb
  have q3:=shaped_any (ta:=ta) (tc:=tc) (na:=na) (nc:=nc) (ba:=ba) (bc:=bc) (ka:=ka) (kc:=kc) HP2.out hWP.well hWP.t0 hWP.n1 hWP.p1 hWP.bd
  have lW:=kW.lt
  have hW2':=hW2.symm
  clear hW2 kW HPP
  go_wp2_with (first | (go_at_call 12;refine (num_any _ _).mono ?_;rintro e w' ⟨rfl,hw'⟩;obtain rfl:=hw'.symm) | fail)
  go_at_call 18
  refine q3.mono ?_
  rintro e w3 ⟨rfl,hb3⟩
  clear q3 a0 a1 a2 a3 a4 hW2'
  have hs3:=hb3.size
  have hsb:=hbb.size
  have kA3:Blk w3 w1.heap.size _ 26:=(hb3.block _ (by omega)).trans kA
  have hbw3:Below w.heap.size w w3:=hbf.trans (hb3.mono hbf.size)
  have HP3:Hid (PP (fun _=>True) w3 (.slice pa P.length pc) P):=PP.below HP2.out hb3
  obtain⟨R,hR⟩:=hWP.fst
  have hp1:=hWP.p1
  obtain⟨gP,capP,u0,hvP,hu0,x0',x1',-⟩:=PP.at HP3.out (j:=0) (by omega)
  cases hvP
  have e0:P[0]=⟨nT,[nT+1],-1⟩:=by simp [hR]
  rw [e0] at hu0 x0'
  simp only at hu0 x0'
  obtain⟨gU,capU,hvU,-,cU'⟩:=IR.at hu0 (j:=0) (by simp)
  subst hvU
  have b0:w3.cell? ⟨w1.heap.size,0,none⟩=some (.slice ta nT tc):=kA3.cell 0
  have b1:w3.cell? ⟨w1.heap.size,1,none⟩=some (.slice na nN nc):=kA3.cell 1
  have b2:w3.cell? ⟨w1.heap.size,2,none⟩=some (.slice (some ⟨gP,0,none⟩) P.length pc):=kA3.cell 2
  have x0:w3.cell? ⟨gP,0,none⟩=some (.int .i64 (nT:Int)):=by simpa using x0'
  have x1:w3.cell? ⟨gP,1,none⟩=some (.slice (some ⟨gU,0,none⟩) 1 capU):=by simpa using x1'
  have cU:w3.cell? ⟨gU,0,none⟩=some (.int .i64 ((nT:Int)+1)):=by simpa using cU'
  have hPl:(0:Int)<(P.length:Int):=by omega
  have hbd:=hWP.bd
  have hwr:IntKind.i64.wrap ((nT:Int)+1)=(nT:Int)+1:=by
   rw [show ((nT:Int)+1)=((nT+1:Nat):Int) from by omega]
   exact wrap64 (by omega)
  have HWP:Hid (WellP nT nN P):=hWP
  clear x0' x1' cU' hu0 e0 hR hWP
  obtain⟨n,hn⟩:∃ n,n=nT+nN:=⟨_,rfl⟩
  have HNN:Hid (n=nT+nN):=hn
  have hw2:IntKind.i64.wrap ((nT:Int)+(nN:Int))=(n:Int):=by rw [hn,←Int.natCast_add];exact wrap64 (by omega)
  have hnn:(nT:Int)+(nN:Int)=(n:Int):=by omega
  rw [←hn] at hbd
  clear hn
  have hmk:=fun w=>make_boolsL hbd w
  go_wp2_with fail
  go_quiet (fail)
  obtain⟨W4,hW4⟩:∃ W4,W4=w3.drewN nq:=⟨_,rfl⟩
  have hb4:Below w3.heap.size w3 W4:=by rw [hW4];exact⟨rfl,rfl,rfl,by simp [World.drewN],fun _ _=>by simp [World.drewN]⟩
  rw [←hW4]
  clear hW4
  have hs4:=hb4.size
  have kA4:Blk W4 w1.heap.size _ 26:=(hb4.block _ kA3.lt).trans kA3
  have lA4:=kA3.lt
  have d0:W4.cell? ⟨w1.heap.size,0,none⟩=some (.slice ta nT tc):=kA4.cell 0
  have d1:W4.cell? ⟨w1.heap.size,1,none⟩=some (.slice na nN nc):=kA4.cell 1
  have hbw4:Below w.heap.size w W4:=hbw3.trans (hb4.mono hbw3.size)
  have HP4:Hid (PP (fun _=>True) W4 (.slice (some ⟨gP,0,none⟩) P.length pc) P):=PP.below HP3.out hb4
  clear HP3 HP2 b0 b1 b2 x0 x1 cU kA3 hbw3 hb4 hwr
  obtain⟨WA,hWA⟩:∃ WA,WA=((W4.alloc (.cells (boolsV (List.replicate n false)) 4)).alloc (.cells (boolsV (List.replicate n false)) 4)).alloc (.cells (boolsV (List.replicate n false)) 4):=⟨_,rfl⟩
  have hbA:Below W4.heap.size W4 WA:=by rw [hWA];exact (((Below.refl _ _).alloc (Nat.le_refl _) _).alloc (by simp) _).alloc (by simp;omega) _
  have hsA:WA.heap.size=W4.heap.size+3:=by rw [hWA];simp
  have kH:Blk WA W4.heap.size (boolsV (List.replicate n false)) 4:=by rw [hWA];exact ((Blk.new W4 _ 4).alloc _).alloc _
  have kU:Blk WA (W4.heap.size+1) (boolsV (List.replicate n false)) 4:=by
   rw [hWA]
   have:=(Blk.new (W4.alloc (.cells (boolsV (List.replicate n false)) 4)) (boolsV (List.replicate n false)) 4).alloc (.cells (boolsV (List.replicate n false)) 4)
   simpa using this
  have kE:Blk WA (W4.heap.size+1+1) (boolsV (List.replicate n false)) 4:=by
   rw [hWA]
   have:=Blk.new ((W4.alloc (.cells (boolsV (List.replicate n false)) 4)).alloc (.cells (boolsV (List.replicate n false)) 4)) (boolsV (List.replicate n false)) 4
   simpa using this
  go_wp2_with fail
  rw [←hWA]
  clear hWA hmk d0 d1 hnn hw2
  have hln:(List.replicate n false).length=n:=by simp
  have HLE:Hid ((List.replicate n false).length=n):=hln
  generalize List.replicate n false=E0 at kE HLE
  obtain⟨gH,hgH⟩:∃ gH,W4.heap.size=gH:=⟨_,rfl⟩
  rw [hgH] at hbA kH kU kE hsA ⊢
  have lAH:w1.heap.size<gH:=by omega
  have hPb:=HWP.out.pl
  clear hln
  go_loopg [14,15] P.length (fun k v i wr=>∃ (j lv:Nat) (A U:List Bool),j+k=P.length∧v=.int .i64 lv∧i=.int .i64 j∧Below gH W4 wr∧gH+3≤wr.heap.size∧Blk wr gH (boolsV A) 4∧Blk wr (gH+1) (boolsV U) 4∧Blk wr (gH+1+1) (boolsV E0) 4∧A.length=n∧U.length=n∧Hid (∀ i (h:i<P.length),j≤i→lv≤P[i].left)∧Hid (∀ i (h:i<P.length),i<j→Lx.at? A P[i].left=true∧∀ s∈P[i].right,Lx.at? U s=true))
  case atStart=>exact⟨0,0,_,_,by omega,rfl,rfl,hbA,by omega,kH,kU,kE,by simp,by simp,(fun i h _=>Nat.zero_le _),(fun i h hi=>absurd hi (by omega))⟩
  case round =>
   clear kH kU kE hbA hsA
   revert wr
   intro wz hrel
   obtain⟨j,lv,A,U,hkj,rfl,rfl,hbz,hsz,kHz,kUz,kEz,hlA,hlU,HLV,HAU⟩:=hrel
   have kAz:Blk wz w1.heap.size _ 26:=(hbz.block _ lAH).trans kA4
   have z0:wz.cell? ⟨w1.heap.size,0,none⟩=some (.slice ta nT tc):=kAz.cell 0
   have z2:wz.cell? ⟨w1.heap.size,2,none⟩=some (.slice (some ⟨gP,0,none⟩) P.length pc):=kAz.cell 2
   have HPz:Hid (PP (fun _=>True) wz (.slice (some ⟨gP,0,none⟩) P.length pc) P):=PP.below HP4.out (by rw [hgH];exact hbz)
   by_cases hlt:j<P.length
   ·obtain⟨g',cap',u,hv,hu,x0,x1,x2⟩:=PP.at HPz.out hlt
    cases hv
    obtain⟨⟨a1,a2⟩,a3,-,-,-⟩:=HWP.out.well P[j] (List.getElem_mem hlt)
    have hlv:=HLV.out j hlt (Nat.le_refl _)
    have HLV2:Hid (∀ i (h:i<P.length),j+1≤i→P[j].left≤P[i].left):=fun i h hi=>List.pairwise_iff_getElem.1 HWP.out.ris j i hlt h (by omega)
    have HAU2:Hid (∀ (A' U':List Bool),(∀ s,Lx.at? A s=true→Lx.at? A' s=true)→(∀ s,Lx.at? U s=true→Lx.at? U' s=true)→Lx.at? A' P[j].left=true→(∀ s∈P[j].right,Lx.at? U' s=true)→∀ i (h:i<P.length),i<j+1→Lx.at? A' P[i].left=true∧∀ s∈P[i].right,Lx.at? U' s=true):=fun A' U' g1 g2 g3 g4 i h hi=>by
     by_cases e:i=j
     ·subst e;exact⟨g3,g4⟩
     ·have:=HAU.out i h (by omega)
      exact⟨g1 _ this.1,fun s hs=>g2 s (this.2 s hs)⟩
    generalize P[j]=pd at hu x0 x1 x2 a1 a2 a3 hlv HLV2 HAU2
    obtain⟨pl,pr,pp⟩:=pd
    simp only at hu x0 x1 x2 a1 a2 a3 hlv HLV2 HAU2
    obtain⟨ua,uc,rfl,hul⟩:=own_len hu
    unfold maxLen at hul
    have HR3:Hid (∀ s∈pr,s<n):=fun s hs=>by have:=(a3 s hs).2.1;have:=HNN.out;omega
    have hpn:pl<n:=by have:=HNN.out;omega
    obtain⟨W5,hW5⟩:∃ W5,W5=wz.alloc (.cells #[.int .i64 (pl:Int),.slice ua pr.length uc,.int .i64 pp] 58):=⟨_,rfl⟩
    have hb5:Below wz.heap.size wz W5:=by rw [hW5];exact (Below.refl _ _).alloc (Nat.le_refl _) _
    have hs5:W5.heap.size=wz.heap.size+1:=by rw [hW5];simp
    have kp:Blk W5 wz.heap.size #[.int .i64 (pl:Int),.slice ua pr.length uc,.int .i64 pp] 58:=by rw [hW5];exact Blk.new wz _ 58
    have p0:W5.cell? ⟨wz.heap.size,0,none⟩=some (.int .i64 (pl:Int)):=kp.cell 0
    have hu5:IR 0 W5 (.slice ua pr.length uc) pr:=own_below hu hb5
    have kH5:Blk W5 gH (boolsV A) 4:=(hb5.block _ (by omega)).trans kHz
    have kU5:Blk W5 (gH+1) (boolsV U) 4:=(hb5.block _ (by omega)).trans kUz
    have kE5:Blk W5 (gH+1+1) (boolsV E0) 4:=(hb5.block _ (by omega)).trans kEz
    have cH:W5.cell? ⟨gH,pl,none⟩=some (.bool (Lx.at? A pl)):=(kH5.cell pl).trans (bools_get A (by omega))
    have fH:∀ i,W5.frozen? ⟨gH,i,none⟩=false:=kH5.frozen
    have i1:(0:Int)≤(j:Int):=by omega
    have i2:(j:Int)<(P.length:Int):=by omega
    have i3:(0:Int)≤(pl:Int):=by omega
    have i4:(pl:Int)<(n:Int):=by omega
    have c1:¬ (pl:Int)<(lv:Int):=by omega
    obtain⟨W6,hW6⟩:∃ W6,W6=W5.setCell ⟨gH,pl,none⟩ (.bool true):=⟨_,rfl⟩
    have hk6:∀ g,g≠gH→W6.heap[g]?=W5.heap[g]?:=fun g hg=>by rw [hW6];exact Below.heap_setCell _ _ _ _ hg
    have hs6:W6.heap.size=W5.heap.size:=by rw [hW6];simp [World.setCell]
    have ho6:W6.os=W5.os∧W6.tape=W5.tape∧W6.output=W5.output:=by rw [hW6];exact⟨rfl,rfl,rfl⟩
    have kH6:Blk W6 gH (boolsV (A.set pl true)) 4:=by rw [hW6,←bools_set];exact kH5.set pl _
    have kU6:Blk W6 (gH+1) (boolsV U) 4:=(hk6 _ (by omega)).trans kU5
    have kE6:Blk W6 (gH+1+1) (boolsV E0) 4:=(hk6 _ (by omega)).trans kE5
    have kp6:Blk W6 wz.heap.size _ 58:=(hk6 _ (by omega)).trans kp
    have hu6:IR 0 W6 (.slice ua pr.length uc) pr:=own_move hu5 fun g hg=>hk6 g (own_ne hu5 kH5 (by decide) g hg)
    have hlA2:(A.set pl true).length=n:=by rw [List.length_set];exact hlA
    have hgA:∀ s,Lx.at? A s=true→Lx.at? (A.set pl true) s=true:=(Lx.LeB.set A pl).2
    have hgA2:Lx.at? (A.set pl true) pl=true:=by rw [Lx.at_set,if_pos ⟨rfl,by omega⟩]
    have HGA:Hid _:=hgA
    have HGA2:Hid _:=hgA2
    have hb6:Below gH W4 W6:=⟨ho6.1.trans (hb5.os.trans hbz.os),ho6.2.1.trans (hb5.tape.trans hbz.tape),ho6.2.2.trans (hb5.output.trans hbz.output),by have:=hbz.size;omega,fun g hg=>(hk6 g (by omega)).trans ((hb5.block g (by omega)).trans (hbz.block g hg))⟩
    clear a1 a2 a3 hu hgA hgA2 hu5 kUz kEz kHz hlv
    go_upto_region 17 with fail
    rw [←hW5]
    clear hW5 x0 x1 x2 z0 z2
    go_upto_region 21 with fail
    rw [←hW6]
    clear hW6 cH fH p0
    go_wp2_with fail
    go_loopg [17] pr.length (fun k i wr=>∃ (q:Nat) (V:List Bool),q+k=pr.length∧i=.int .i64 q∧Blk wr (gH+1) (boolsV V) 4∧Kp (fun g=>g≠gH+1) W6 wr∧wr.heap.size=W6.heap.size∧V.length=n∧Hid ((∀ s,Lx.at? U s=true→Lx.at? V s=true)∧∀ s∈pr.take q,Lx.at? V s=true))
    case atStart=>exact⟨0,U,by omega,rfl,kU6,Kp.refl _ _,rfl,hlU,⟨fun _ h=>h,fun s hs=>by simp at hs⟩⟩
    case round =>
     obtain⟨q,V,hkq,rfl,kV,hkr,hsr,hlV,HV⟩:=hrel
     have kpr:Blk wr wz.heap.size _ 58:=kp_blk kp6 hkr (by show wz.heap.size≠gH+1;omega)
     have p1:wr.cell? ⟨wz.heap.size,1,none⟩=some (.slice ua pr.length uc):=kpr.cell 1
     by_cases hltq:q<pr.length
     ·have hur:IR 0 wr (.slice ua pr.length uc) pr:=own_move hu6 fun g hg=>hkr.block g (own_ne hu6 kU6 (by decide) g hg)
      obtain⟨gR,capR,hvR,-,cq⟩:=hur.at (j:=q) hltq
      cases hvR
      have hsn:=HR3.out pr[q] (List.getElem_mem hltq)
      have htk:=List.take_succ_eq_append_getElem hltq
      have HTK:Hid (pr.take (q+1)=pr.take q++[pr[q]]):=htk
      generalize pr[q]=sy at cq hsn HTK
      have cV:wr.cell? ⟨gH+1,sy,none⟩=some (.bool (Lx.at? V sy)):=(kV.cell sy).trans (bools_get V (by omega))
      have fV:∀ i,wr.frozen? ⟨gH+1,i,none⟩=false:=kV.frozen
      have j1:(0:Int)≤(q:Int):=by omega
      have j2:(q:Int)<(pr.length:Int):=by omega
      have j3:(0:Int)≤(sy:Int):=by omega
      have j4:(sy:Int)<(n:Int):=by omega
      have kV2:Blk (wr.setCell ⟨gH+1,sy,none⟩ (.bool true)) (gH+1) (boolsV (V.set sy true)) 4:=by rw [←bools_set];exact kV.set sy _
      have hk2:Kp (fun g=>g≠gH+1) W6 (wr.setCell ⟨gH+1,sy,none⟩ (.bool true)):=⟨hkr.os,hkr.tape,hkr.output,by simp [World.setCell];omega,fun x hx=>(Below.heap_setCell _ _ _ _ hx).trans (hkr.block x hx)⟩
      have hs2:(wr.setCell ⟨gH+1,sy,none⟩ (.bool true)).heap.size=W6.heap.size:=by simp [World.setCell];exact hsr
      have hl2:(V.set sy true).length=n:=by rw [List.length_set];exact hlV
      have HV2:Hid ((∀ s,Lx.at? U s=true→Lx.at? (V.set sy true) s=true)∧∀ s∈pr.take (q+1),Lx.at? (V.set sy true) s=true):=by
       have hle:=(Lx.LeB.set V sy).2
       refine⟨fun s hs=>hle s (HV.out.1 s hs),fun s hs=>?_⟩
       rw [HTK.out] at hs
       rcases List.mem_append.1 hs with hs | hs
       ·exact hle s (HV.out.2 s hs)
       ·rw [List.mem_singleton.1 hs,Lx.at_set,if_pos ⟨rfl,by omega⟩]
      clear htk HTK HV
      go_wp2_with fail
      go_roundg (pr.length - (q+1))
      case measure=>omega
      case rel=>exact⟨q+1,_,by omega,by go_num,kV2,hk2,hs2,hl2,HV2⟩
     ·have hq:q=pr.length:=by omega
      subst hq
      have HV2:Hid (∀ s∈pr,Lx.at? V s=true):=fun s hs=>HV.out.2 s (by rw [List.take_length];exact hs)
      have hbr:Below gH W4 wr:=⟨hkr.os.trans hb6.os,hkr.tape.trans hb6.tape,hkr.output.trans hb6.output,by have:=hb6.size;omega,fun g hg=>(hkr.block g (by show g≠gH+1;omega)).trans (hb6.block g hg)⟩
      have kHr:Blk wr gH _ 4:=kp_blk kH6 hkr (by show gH≠gH+1;omega)
      have kEr:Blk wr (gH+1+1) _ 4:=kp_blk kE6 hkr (by show gH+1+1≠gH+1;omega)
      have HFI:Hid _:=HAU2.out _ V HGA.out HV.out.1 HGA2.out HV2.out
      clear HV HV2 HAU2
      go_wp2_with fail
      go_roundg (P.length - (j+1))
      case measure=>omega
      case rel=>exact⟨j+1,pl,_,V,by omega,rfl,by go_num,hbr,by omega,kHr,kV,kEr,hlA2,hlV,HLV2,HFI.out⟩
   ·have hjn:j=P.length:=by omega
    subst hjn
    have HA:Hid (∀ s,nT≤s→s<n→Lx.at? A s=true):=fun s h1 h2=>by
     obtain⟨p,hp,e⟩:=HWP.out.has s h1 (by have:=HNN.out;omega)
     obtain⟨i,hi,rfl⟩:=List.getElem_of_mem hp
     rw [←e];exact (HAU.out i hi hi).1
    have HU:Hid (∀ s,nT<s→s<n→Lx.at? U s=true):=fun s h1 h2=>by
     obtain⟨p,hp,e⟩:=HWP.out.used s h1 (by have:=HNN.out;omega)
     obtain⟨i,hi,rfl⟩:=List.getElem_of_mem hp
     exact (HAU.out i hi hi).2 s e
    clear HAU HLV
    go_wp2_with fail
    go_loopg [18] nT (fun k i wr=>∃ (q:Nat) (E:List Bool),q+k=nT∧i=.int .i64 q∧Blk wr (gH+1+1) (boolsV E) 4∧Kp (fun g=>g≠gH+1+1) wz wr∧E.length=n∧Hid (∀ s,s<q→Lx.at? E s=true))
    case atStart=>exact⟨0,E0,by omega,rfl,kEz,Kp.refl _ _,HLE.out,fun s hs=>absurd hs (by omega)⟩
    case round =>
     obtain⟨q,E,hkq,rfl,kE,hkr,hlE,HE⟩:=hrel
     have kAr:Blk wr w1.heap.size _ 26:=kp_blk kAz hkr (by show w1.heap.size≠gH+1+1;omega)
     have y0:wr.cell? ⟨w1.heap.size,0,none⟩=some (.slice ta nT tc):=kAr.cell 0
     have hnTn:nT≤n:=by have:=HNN.out;omega
     by_cases hltq:q<nT
     ·have cV:wr.cell? ⟨gH+1+1,q,none⟩=some (.bool (Lx.at? E q)):=(kE.cell q).trans (bools_get E (by omega))
      have fV:∀ i,wr.frozen? ⟨gH+1+1,i,none⟩=false:=kE.frozen
      have j1:(0:Int)≤(q:Int):=by omega
      have j2:(q:Int)<(n:Int):=by omega
      have kV2:Blk (wr.setCell ⟨gH+1+1,q,none⟩ (.bool true)) (gH+1+1) (boolsV (E.set q true)) 4:=by rw [←bools_set];exact kE.set q _
      have hk2:Kp (fun g=>g≠gH+1+1) wz (wr.setCell ⟨gH+1+1,q,none⟩ (.bool true)):=⟨hkr.os,hkr.tape,hkr.output,by have:=hkr.size;simp [World.setCell];omega,fun x hx=>(Below.heap_setCell _ _ _ _ hx).trans (hkr.block x hx)⟩
      have hl2:(E.set q true).length=n:=by rw [List.length_set];exact hlE
      have HE2:Hid (∀ s,s<q+1→Lx.at? (E.set q true) s=true):=fun s hs=>by
       rw [Lx.at_set]
       split
       ·rfl
       ·rename_i hh
        exact HE.out s (by rcases Nat.lt_or_ge s q with h | h;exact h;exact absurd ⟨by omega,by omega⟩ hh)
      clear HE
      go_wp2_with fail
      go_roundg (nT - (q+1))
      case measure=>omega
      case rel=>exact⟨q+1,_,by omega,by go_num,kV2,hk2,hl2,HE2⟩
     ·have hq:q=nT:=by omega
      subst hq
      have hsr:=hkr.size
      have kHr:Blk wr gH _ 4:=kp_blk kHz hkr (by show gH≠gH+1+1;omega)
      have kUr:Blk wr (gH+1) _ 4:=kp_blk kUz hkr (by show gH+1≠gH+1+1;omega)
      have hbr:Below gH W4 wr:=⟨hkr.os.trans hbz.os,hkr.tape.trans hbz.tape,hkr.output.trans hbz.output,Nat.le_trans hbz.size hkr.size,fun g hg=>(hkr.block g (by show g≠gH+1+1;omega)).trans (hbz.block g hg)⟩
      have HEN:Hid (∀ s,s<n→Lx.at? (Lx.itr (Lx.passE P) P.length E) s=true):=fun s hs=>HWP.out.ends E (by rw [hlE];exact HNN.out) HE.out s (by have:=HNN.out;omega)
      have hok:Hid (∀ p∈P,p.left<n∧∀ s∈p.right,s<n):=fun p hp=>⟨by have:=(HWP.out.well p hp).1.2;have:=HNN.out;omega,fun s hs=>by have:=((HWP.out.well p hp).2.1 s hs).2.1;have:=HNN.out;omega⟩
      clear HE kHz kUz hbz kAz HPz hkr z0 z2 kEz y0
      obtain⟨wv,hwv⟩:∃ wv,wr=wv:=⟨_,rfl⟩
      rw [hwv] at kE kHr kUr hbr hsr kAr ⊢
      clear hwv
      have y0:wv.cell? ⟨w1.heap.size,0,none⟩=some (.slice ta q tc):=kAr.cell 0
      have y2:wv.cell? ⟨w1.heap.size,2,none⟩=some (.slice (some ⟨gP,0,none⟩) P.length pc):=kAr.cell 2
      go_wp2_with fail
      clear y0 y2
      go_loopg [19] P.length (fun k i wr=>∃ (r:Nat) (F:List Bool),r+k=P.length∧i=.int .i64 r∧Blk wr (gH+1+1) (boolsV F) 4∧Kp (fun g=>g≠gH+1+1) wv wr∧F.length=n∧Hid (F=Lx.itr (Lx.passE P) r E))
      case atStart=>exact⟨0,E,by omega,rfl,kE,Kp.refl _ _,hlE,rfl⟩
      case round =>
       clear kE
       revert wr
       intro wz hrel
       obtain⟨r,F,hkr1,rfl,kF,hkz,hlF,HF⟩:=hrel
       have kAz:Blk wz w1.heap.size _ 26:=kp_blk kAr hkz (by show w1.heap.size≠gH+1+1;omega)
       have z2:wz.cell? ⟨w1.heap.size,2,none⟩=some (.slice (some ⟨gP,0,none⟩) P.length pc):=kAz.cell 2
       have z0:wz.cell? ⟨w1.heap.size,0,none⟩=some (.slice ta q tc):=kAz.cell 0
       by_cases hltr:r<P.length
       ·have H0:Hid (Lx.passE P F=Lx.passE (P.drop 0) F):=rfl
        go_wp2_with fail
        go_loopg [20] P.length (fun k i wr=>∃ (j:Nat) (D:List Bool),j+k=P.length∧i=.int .i64 j∧Blk wr (gH+1+1) (boolsV D) 4∧Kp (fun g=>g≠gH+1+1) wv wr∧D.length=n∧Hid (Lx.passE P F=Lx.passE (P.drop j) D))
        case atStart=>exact⟨0,F,by omega,rfl,kF,hkz,hlF,H0⟩
        case round =>
         clear H0 kF hkz kAz z2 z0
         revert wr
         intro wy hrel
         obtain⟨j,D,hkj2,rfl,kD,hky,hlD,HD⟩:=hrel
         have kAy:Blk wy w1.heap.size _ 26:=kp_blk kAr hky (by show w1.heap.size≠gH+1+1;omega)
         have y2:wy.cell? ⟨w1.heap.size,2,none⟩=some (.slice (some ⟨gP,0,none⟩) P.length pc):=kAy.cell 2
         have hby:Below gH W4 wy:=⟨hky.os.trans hbr.os,hky.tape.trans hbr.tape,hky.output.trans hbr.output,Nat.le_trans hbr.size hky.size,fun g hg=>(hky.block g (by show g≠gH+1+1;omega)).trans (hbr.block g hg)⟩
         by_cases hltj:j<P.length
         ·obtain⟨g',cap',u,hv,hu,x0,x1,x2⟩:=PP.at (PP.below HP4.out (by rw [hgH];exact hby)) hltj
          cases hv
          obtain⟨hleft,hright⟩:=hok.out P[j] (List.getElem_mem hltj)
          have hd:=HD.out
          rw [List.drop_eq_getElem_cons hltj,show Lx.passE (P[j]::P.drop (j+1)) D=Lx.passE (P.drop (j+1)) (Lx.stepE D P[j]) from rfl] at hd
          generalize P[j]=pd at hu x0 x1 x2 hleft hright hd
          obtain⟨pl,pr,pp⟩:=pd
          simp only at hu x0 x1 x2 hleft hright
          obtain⟨ua,uc,rfl,hul⟩:=own_len hu
          unfold maxLen at hul
          have H1:Hid (pr.all (Lx.at? D)=(true && (pr.drop 0).all (Lx.at? D))):=by show _=_;simp
          have HRT:Hid (∀ s∈pr,s<n):=hright
          have i1:(0:Int)≤(j:Int):=by omega
          have i2:(j:Int)<(P.length:Int):=by omega
          clear hright
          go_wp2_with fail
          go_loopg [21,22] pr.length (fun k v i wr=>∃ (t:Nat) (b:Bool),t+k=pr.length∧v=.bool b∧i=.int .i64 t∧wr=wy∧Hid (pr.all (Lx.at? D)=(b && (pr.drop t).all (Lx.at? D))))
          case atStart=>exact⟨0,true,by omega,rfl,rfl,rfl,H1⟩
          case round =>
           clear H1
           obtain⟨t,b,hkt,rfl,rfl,hww,HQ⟩:=hrel
           subst hww
           by_cases hltt:t<pr.length
           ·obtain⟨gR,capR,hvR,-,cq⟩:=hu.at (j:=t) hltt
            cases hvR
            have hq:=HQ.out
            rw [List.drop_eq_getElem_cons hltt,List.all_cons] at hq
            have hsn:=HRT.out pr[t] (List.getElem_mem hltt)
            generalize pr[t]=sy at cq hq hsn
            have cb:wr.cell? ⟨gH+1+1,sy,none⟩=some (.bool (Lx.at? D sy)):=(kD.cell sy).trans (bools_get D (by omega))
            have j1:(0:Int)≤(sy:Int):=by omega
            have j2:(sy:Int)<(n:Int):=by omega
            have j3:(0:Int)≤(t:Int):=by omega
            have j4:(t:Int)<(pr.length:Int):=by omega
            cases b with
            | true =>
             have HQ2:Hid (pr.all (Lx.at? D)=(Lx.at? D sy && (pr.drop (t+1)).all (Lx.at? D))):=by show _=_;rw [hq,Bool.true_and]
             generalize Lx.at? D sy=bb at cb HQ2
             clear hq HQ
             go_wp2_with fail
             go_roundg (pr.length - (t+1))
             case measure=>omega
             case rel=>exact⟨t+1,bb,by omega,rfl,by go_num,rfl,HQ2⟩
            | false =>
             have HQ2:Hid (pr.all (Lx.at? D)=(false && (pr.drop (t+1)).all (Lx.at? D))):=by show _=_;rw [hq];rfl
             clear hq HQ
             go_wp2_with fail
             go_roundg (pr.length - (t+1))
             case measure=>omega
             case rel=>exact⟨t+1,false,by omega,rfl,by go_num,rfl,HQ2⟩
           ·have htt:t=pr.length:=by omega
            subst htt
            have hq:=HQ.out
            rw [List.drop_length,List.all_nil,Bool.and_true] at hq
            have j1:(0:Int)≤(pl:Int):=by omega
            have j2:(pl:Int)<(n:Int):=by omega
            have cb:wr.cell? ⟨gH+1+1,pl,none⟩=some (.bool (Lx.at? D pl)):=(kD.cell pl).trans (bools_get D (by omega))
            have fz:∀ i,wr.frozen? ⟨gH+1+1,i,none⟩=false:=kD.frozen
            cases b with
            | true =>
             rw [Lx.stepE_all hq] at hd
             have HD2:Hid (Lx.passE P F=Lx.passE (P.drop (j+1)) (D.set pl true)):=hd
             have hl2:(D.set pl true).length=n:=by rw [List.length_set];exact hlD
             clear hq hd HQ HD
             generalize Lx.at? D pl=eb at cb
             cases eb with
             | true =>
              have kD2:Blk ((wr.setCell ⟨gH+1+1,pl,none⟩ (.bool true)).drew) (gH+1+1) (boolsV (D.set pl true)) 4:=by rw [←bools_set];exact (kD.set pl _).drew
              have hk2:Kp (fun g=>g≠gH+1+1) wv ((wr.setCell ⟨gH+1+1,pl,none⟩ (.bool true)).drew):=⟨hky.os,hky.tape,hky.output,by have:=hky.size;simp [World.setCell];omega,fun x hx=>(Below.heap_setCell _ _ _ _ hx).trans (hky.block x hx)⟩
              go_wp2_with fail
              go_region
              all_goals
               go_wp2_with fail
               go_roundg (P.length - (j+1))
               case measure=>omega
               case rel=>exact⟨j+1,_,by omega,by go_num,kD2,hk2,hl2,HD2⟩
             | false =>
              have kD2:Blk ((wr.setCell ⟨gH+1+1,pl,none⟩ (.bool true)).drew) (gH+1+1) (boolsV (D.set pl true)) 4:=by rw [←bools_set];exact (kD.set pl _).drew
              have hk2:Kp (fun g=>g≠gH+1+1) wv ((wr.setCell ⟨gH+1+1,pl,none⟩ (.bool true)).drew):=⟨hky.os,hky.tape,hky.output,by have:=hky.size;simp [World.setCell];omega,fun x hx=>(Below.heap_setCell _ _ _ _ hx).trans (hky.block x hx)⟩
              go_wp2_with fail
              go_region
              all_goals
               go_wp2_with fail
               go_roundg (P.length - (j+1))
               case measure=>omega
               case rel=>exact⟨j+1,_,by omega,by go_num,kD2,hk2,hl2,HD2⟩
            | false =>
             rw [Lx.stepE_no hq] at hd
             have HD2:Hid (Lx.passE P F=Lx.passE (P.drop (j+1)) D):=hd
             have hl2:=hlD
             have HSD:Hid (D.set pl (Lx.at? D pl)=D):=by
              show _=_
              rw [Lx.at_lt (by omega)]
              exact List.set_getElem_self _
             clear hq hd HQ HD
             generalize Lx.at? D pl=eb at cb HSD
             cases eb with
             | true =>
              have kD2:Blk ((wr.setCell ⟨gH+1+1,pl,none⟩ (.bool true)).drew) (gH+1+1) (boolsV D) 4:=by have:=(kD.set pl (.bool true)).drew;rw [bools_set,HSD.out] at this;exact this
              have hk2:Kp (fun g=>g≠gH+1+1) wv ((wr.setCell ⟨gH+1+1,pl,none⟩ (.bool true)).drew):=⟨hky.os,hky.tape,hky.output,by have:=hky.size;simp [World.setCell];omega,fun x hx=>(Below.heap_setCell _ _ _ _ hx).trans (hky.block x hx)⟩
              go_wp2_with fail
              go_region
              all_goals
               go_wp2_with fail
               go_roundg (P.length - (j+1))
               case measure=>omega
               case rel=>exact⟨j+1,_,by omega,by go_num,kD2,hk2,hl2,HD2⟩
             | false =>
              have kD2:Blk ((wr.setCell ⟨gH+1+1,pl,none⟩ (.bool false)).drew) (gH+1+1) (boolsV D) 4:=by have:=(kD.set pl (.bool false)).drew;rw [bools_set,HSD.out] at this;exact this
              have hk2:Kp (fun g=>g≠gH+1+1) wv ((wr.setCell ⟨gH+1+1,pl,none⟩ (.bool false)).drew):=⟨hky.os,hky.tape,hky.output,by have:=hky.size;simp [World.setCell];omega,fun x hx=>(Below.heap_setCell _ _ _ _ hx).trans (hky.block x hx)⟩
              go_wp2_with fail
              go_region
              all_goals
               go_wp2_with fail
               go_roundg (P.length - (j+1))
               case measure=>omega
               case rel=>exact⟨j+1,_,by omega,by go_num,kD2,hk2,hl2,HD2⟩
         ·have hjj:j=P.length:=by omega
          subst hjj
          have hd:=HD.out
          rw [List.drop_length] at hd
          have HF2:Hid (D=Lx.itr (Lx.passE P) (r+1) E):=by
           show D=Lx.passE P (Lx.itr (Lx.passE P) r E)
           rw [←HF.out]
           exact hd.symm
          clear hd HD
          go_wp2_with fail
          go_roundg (P.length - (r+1))
          case measure=>omega
          case rel=>exact⟨r+1,D,by omega,by go_num,kD,hky,hlD,HF2⟩
       ·have hrr:r=P.length:=by omega
        subst hrr
        rw [←HF.out] at HEN
        have kHz:Blk wz gH _ 4:=kp_blk kHr hkz (by show gH≠gH+1+1;omega)
        have kUz:Blk wz (gH+1) _ 4:=kp_blk kUr hkz (by show gH+1≠gH+1+1;omega)
        have hbz:Below gH W4 wz:=⟨hkz.os.trans hbr.os,hkz.tape.trans hbr.tape,hkz.output.trans hbr.output,Nat.le_trans hbr.size hkz.size,fun g hg=>(hkz.block g (by show g≠gH+1+1;omega)).trans (hbr.block g hg)⟩
        have hbf:Below w.heap.size w wz:=hbw4.trans (hbz.mono (by have:=hbw4.size;omega))
        have q5:=alive_any wz (ht.move (hbf.block _ ht.lt))
        clear HF HP4
        go_wp2_with fail
        go_loopg [23] (n-q) (fun k i wr=>∃ s:Nat,s+k=n∧q≤s∧i=.int .i64 s∧wr=wz)
        case atStart=>exact⟨q,by omega,Nat.le_refl _,rfl,rfl⟩
        case round =>
         obtain⟨s,hks,hqs,rfl,hww⟩:=hrel
         subst hww
         by_cases hlts:s<n
         ·have cH:wr.cell? ⟨gH,s,none⟩=some (.bool true):=by rw [kHz.cell s,bools_get A (by omega),HA.out s hqs hlts]
          have cE:wr.cell? ⟨gH+1+1,s,none⟩=some (.bool true):=by rw [kF.cell s,bools_get F (by omega),HEN.out s hlts]
          have j1:(0:Int)≤(s:Int):=by omega
          have j2:(s:Int)<(n:Int):=by omega
          by_cases hsq:s=q
          ·subst hsq
           have c9:¬ (s:Int)<(s:Int):=by omega
           go_wp2_with fail
           go_roundg (n - (s+1))
           case measure=>omega
           case rel=>exact⟨s+1,by omega,by omega,by go_num,rfl⟩
          ·have cU:wr.cell? ⟨gH+1,s,none⟩=some (.bool true):=by rw [kUz.cell s,bools_get U (by omega),HU.out s (by omega) hlts]
           have c9:(q:Int)<(s:Int):=by omega
           go_wp2_with fail
           go_roundg (n - (s+1))
           case measure=>omega
           case rel=>exact⟨s+1,by omega,by omega,by go_num,rfl⟩
         ·go_wp2_with fail
          refine q5.mono ?_
          rintro e w9 ⟨rfl,hb9⟩
          go_wp2_with fail
          go_ret
          exact⟨rfl,hbf.trans (hb9.mono hbf.size)⟩
end Go.Proofs.YtlcppnabbicmoaaGreatDoor

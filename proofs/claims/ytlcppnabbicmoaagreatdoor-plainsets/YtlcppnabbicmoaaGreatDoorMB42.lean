import Derived.Test.YtlcppnabbicmoaaGreatDoorMB41
namespace Go.Proofs.YtlcppnabbicmoaaGreatDoor
section
open Go.RowKit
open Tr
theorem Lx.mkR_pos {s:ByteArray}{x:Nat × Nat}(h:Lx.mkR s=.error x):x.1≠0:=by
 cases hp:Lx.parse s with
 | error y =>
  obtain⟨n,a⟩:=y
  rw [Lx.mkR_err hp] at h
  cases h
  have:=Lx.parse_pos hp
  show n≠0
  omega
 | ok g =>
  by_cases hc:(Lx.chk g).1=0
  ·by_cases hm:200<(Lx.prodG g).length
   ·rw [Lx.mkR_many hp hc hm] at h;cases h;decide
   ·rw [Lx.mkR_ok hp hc hm] at h;cases h
  ·rw [Lx.mkR_chk hp hc] at h;cases h;exact hc
def SetOk (g:Lx.Gr):Prop:=Lx.PdOk ((Lx.tokG g).length+(Lx.namG g).length) (Lx.prodG g)∧(Lx.tokG g).length+(Lx.namG g).length≤100000∧∀ p∈Lx.prodG g,p.right.length≤100000
def SetsP (w w':World)(nT n:Nat)(P:List Lx.Pd)(e:Ending):Prop:=∃ gE E k vF B m,e=.returned (.tuple #[.slice (some ⟨gE,0,none⟩) n n,vF,.int .i64 0,.int .i64 0])∧Blk w' gE (boolsV E) 4∧w.heap.size≤gE∧E.length=n∧E=Lx.itr (Lx.passE P) k (List.replicate n false)∧Lx.passE P E=E∧B=Lx.itr (Lx.passF P E) m (Lx.alone nT n)∧Lx.passF P E B=B∧PtD w.heap.size w' vF (B.map Lx.membersL)
def SetsEnds (s:ByteArray)(w:World)(e:Ending)(w':World):Prop :=
 Below w.heap.size w w'∧(∀ x,Lx.mkR s=.error x→e=.returned (.tuple #[.slice none 0 0,.slice none 0 0,.int .i64 (x.1:Int),.int .i64 (x.2:Int)]))∧(∀ g,Lx.mkR s=.ok g→SetsP w w' (Lx.tokG g).length ((Lx.tokG g).length+(Lx.namG g).length) (Lx.prodG g) e)
theorem blk5 (w:World)(x0 x1 x2 x3 x4:Value):Blk (w.alloc (.cells #[x0,x1,x2,x3,x4] 26)) w.heap.size #[x0,x1,x2,x3,x4] 26:=Blk.new w _ 26
set_option maxHeartbeats 4000000 in
set_option maxRecDepth 100000 in
theorem sets_any (s:ByteArray)(w:World)(hmax:s.size≤maxLen)(ht:Tab w)(hok:∀ g,Lx.mkR s=.ok g→SetOk g):Calls Tryz.prog 14 #[.string s] w (SetsEnds s w):=by
 have q1:=make_any s w hmax ht
 go_enter Tryz.func14,Tryz.ntmps14
 go_wp2_with fail
 refine q1.mono ?_
 rintro e w1 ⟨v,n,a,rfl,hb1,hok1,her1⟩
 clear q1
 cases hr:Lx.mkR s with
 | error x =>
  obtain⟨rfl,rfl,rfl⟩:=her1 x hr
  have hp:=Lx.mkR_pos hr
  have HR:Hid (Lx.mkR s=.error x):=hr
  have hnb:((x.1:Int) != 0)=true:=bne_iff_ne.2 (by omega)
  have hnd:¬ (x.1:Int)=0:=by omega
  clear hr her1 hok1 hok hp
  unfold none5
  go_wp2_with fail
  refine bodyPost_ret (v:=.tuple #[.slice none 0 0,.slice none 0 0,.int .i64 (x.1:Int),.int .i64 (x.2:Int)]) (by simp [results,Tryz.results14,go_sem]) rfl ?_
  refine⟨hb1.alloc hb1.size _,fun y hy=>?_,fun g hg=>?_⟩
  ·rw [HR.out] at hy;cases hy;rfl
  ·rw [HR.out] at hg;cases hg
 | ok g =>
  obtain⟨rfl,rfl,hP⟩:=hok1 g hr
  obtain⟨o1,o2,o3⟩:=hok g hr
  obtain⟨vT,vN,vP,vB,vK,rfl,hT,hN,hPP,hB,hK⟩:=hP
  obtain⟨ta,tc,rfl,-⟩:=own_len hT
  obtain⟨na,nc,rfl,-⟩:=own_len hN
  obtain⟨ps,p1,p2,-⟩:=id hPP
  obtain⟨pa,pc,rfl,-⟩:=own_len p2
  obtain⟨ba,bc,rfl,-⟩:=own_len hB
  obtain⟨ka,kc,rfl,-⟩:=own_len hK
  have HR:Hid (Lx.mkR s=.ok g):=hr
  clear hr her1 hok1 hok hT hN hB hK p1 p2
  generalize hNT:(Lx.tokG g).length=nT at *
  generalize hNN:(Lx.namG g).length=nN at *
  have HNT:Hid _:=hNT
  have HNN:Hid _:=hNN
  clear hNT hNN
  generalize ((Lx.tokG g).map fun t=>(Lx.bkOf g t).1).length=nB at *
  generalize ((Lx.tokG g).map fun t=>(Lx.bkOf g t).2).length=nK at *
  obtain⟨W,hW⟩:∃ W,W=w1.alloc (.cells #[.slice ta nT tc,.slice na nN nc,.slice pa (Lx.prodG g).length pc,.slice ba nB bc,.slice ka nK kc] 26):=⟨_,rfl⟩
  have kW:Blk W w1.heap.size #[.slice ta nT tc,.slice na nN nc,.slice pa (Lx.prodG g).length pc,.slice ba nB bc,.slice ka nK kc] 26:=by rw [hW];exact blk5 _ _ _ _ _ _
  have hbW:Below w1.heap.size w1 W:=by rw [hW];exact (Below.refl _ _).alloc (Nat.le_refl _) _
  have hin:SetIn W ta nT tc na nN nc (.slice pa (Lx.prodG g).length pc) (Lx.prodG g):=⟨hPP.below hbW,o1,o2⟩
  have q2:=canBeEmpty_any (ba:=ba) (ka:=ka) (nb:=nB) (bc:=bc) (nk:=nK) (kc:=kc) hin
  have c0:W.cell? ⟨w1.heap.size,0,none⟩=some (.slice ta nT tc):=kW.cell 0
  have c1:W.cell? ⟨w1.heap.size,1,none⟩=some (.slice na nN nc):=kW.cell 1
  have c2:W.cell? ⟨w1.heap.size,2,none⟩=some (.slice pa (Lx.prodG g).length pc):=kW.cell 2
  have c3:W.cell? ⟨w1.heap.size,3,none⟩=some (.slice ba nB bc):=kW.cell 3
  have c4:W.cell? ⟨w1.heap.size,4,none⟩=some (.slice ka nK kc):=kW.cell 4
  go_wp2_with fail
  rw [←hW]
  clear hW
  go_wp2_with fail
  refine q2.mono ?_
  rintro e w2 ⟨gE,E,k,rfl,hgE,kE,hEl,hE,hEs,hb2⟩
  clear q2 c0 c1 c2 c3 c4
  have kW2:Blk w2 w1.heap.size _ 26:=(hb2.block _ kW.lt).trans kW
  have c0:w2.cell? ⟨w1.heap.size,0,none⟩=some (.slice ta nT tc):=kW2.cell 0
  have c1:w2.cell? ⟨w1.heap.size,1,none⟩=some (.slice na nN nc):=kW2.cell 1
  have c2:w2.cell? ⟨w1.heap.size,2,none⟩=some (.slice pa (Lx.prodG g).length pc):=kW2.cell 2
  have c3:w2.cell? ⟨w1.heap.size,3,none⟩=some (.slice ba nB bc):=kW2.cell 3
  have c4:w2.cell? ⟨w1.heap.size,4,none⟩=some (.slice ka nK kc):=kW2.cell 4
  have q3:=firstTokens_any (ba:=ba) (ka:=ka) (nb:=nB) (bc:=bc) (nk:=nK) (kc:=kc) (hin.below hb2) kE hEl o3
  have HE:Hid _:=hE
  have HES:Hid _:=hEs
  have HEL:Hid _:=hEl
  clear hE hEs hEl hin o1 o3 hPP
  go_wp2_with fail
  refine q3.mono ?_
  rintro e w3 ⟨vF,B,m,rfl,hB,hBs,hpt,hb3⟩
  clear q3
  have hs1:=hb1.size
  have hsW:=hbW.size
  have hs2:=hb2.size
  have hpt':PtD w.heap.size w3 vF (B.map Lx.membersL):=by
   obtain⟨qs,⟨r1,r2,r3,r4⟩,r5⟩:=hpt
   exact⟨qs,⟨r1,own_le r2 (by omega),fun q hq=>own_le (r3 q hq) (by omega),r4⟩,r5⟩
  obtain⟨fa,fc,rfl⟩:∃ fa fc,vF=.slice fa (B.map Lx.membersL).length fc:=by
   obtain⟨qs,⟨r1,r2,-⟩,-⟩:=hpt
   obtain⟨fa,fc,e,-⟩:=own_len r2
   exact⟨fa,fc,e⟩
  have HB:Hid _:=hB
  have HBS:Hid _:=hBs
  clear hB hBs
  go_wp2_with fail
  refine bodyPost_ret (v:=.tuple #[.slice (some ⟨gE,0,none⟩) (nT+nN) (nT+nN),.slice fa (B.map Lx.membersL).length fc,.int .i64 0,.int .i64 0]) (by simp [results,Tryz.results14,go_sem]) rfl ?_
  refine⟨hb1.trans ((hbW.trans ((hb2.mono hsW).trans (hb3.mono (by omega)))).mono (by omega)),fun y hy=>?_,fun g' hg=>?_⟩
  ·rw [HR.out] at hy;cases hy
  ·rw [HR.out] at hg
   cases hg
   rw [HNT.out,HNN.out]
   exact⟨gE,E,k,_,B,m,rfl,(hb3.block _ kE.lt).trans kE,by omega,HEL.out,HE.out,HES.out,HB.out,HBS.out,hpt'⟩
end
section
open Go.RowKit
open Tr
namespace Lx
theorem fix_lt {l:List ByteArray}{b:ByteArray}(h:0≤fnd l b):fix l b<l.length:=(fnd_fix h).2
theorem namG_len (g:Gr):(namG g).length=1+(g.rules.flatMap namesR).length:=by unfold namG;rw [List.length_cons];omega
theorem psym_lt {T N:List ByteArray}{x:It}(h:Plain1 T N x):psym T N x<T.length+N.length:=by
 unfold Plain1 at h
 unfold psym
 split
 ·rename_i hk;rw [if_pos hk] at h;have:=fix_lt h;omega
 ·rename_i hk;rw [if_neg hk] at h;have:=fix_lt h;omega
theorem symOf_lt {T N:List ByteArray}{b:Nat}{H:List It}{x:It}(h:SymOk T N H x)(hb:b+1+H.length≤T.length+N.length):symOf T N b H x<T.length+N.length:=by
 unfold SymOk at h
 unfold symOf
 split
 ·rename_i hk;rw [if_pos hk] at h;omega
 ·rename_i hk;rw [if_neg hk] at h;exact psym_lt h
theorem rightOf_lt {T N:List ByteArray}{b:Nat}{H:List It}{its:List It}(h:∀ x∈its,SymOk T N H x)(hb:b+1+H.length≤T.length+N.length):∀ s∈rightOf T N b H its,s<T.length+N.length:=by
 intro s hs
 obtain⟨x,hx,rfl⟩:=List.mem_map.1 hs
 exact symOf_lt (h x hx) hb
theorem helpPd_ok {n s m M L:Nat}{ps:List (List Nat)}(hs:s<M)(h:∀ r∈ps,r.length≤L∧∀ x∈r,x<M):∀ p∈helpPd n s m ps,p.left=s∧p.right.length≤L+1∧∀ x∈p.right,x<M:=by
 intro p hp
 unfold helpPd at hp
 rcases List.mem_append.1 hp with hp | hp
 ·split at hp
  ·rw [List.mem_singleton.1 hp];exact⟨rfl,Nat.zero_le _,fun x hx=>by cases hx⟩
  ·cases hp
 ·rcases List.mem_append.1 hp with hp | hp
  ·split at hp
   ·cases hp
   ·obtain⟨r,hr,rfl⟩:=List.mem_map.1 hp
    exact⟨rfl,Nat.le_succ_of_le (h r hr).1,(h r hr).2⟩
  ·split at hp
   ·obtain⟨r,hr,rfl⟩:=List.mem_map.1 hp
    refine⟨rfl,Nat.succ_le_succ (h r hr).1,fun x hx=>?_⟩
    rcases List.mem_cons.1 hx with rfl | hx
    ·exact hs
    ·exact (h r hr).2 x hx
   ·cases hp
theorem helpsPd_ok {T N:List ByteArray} {b M L:Nat} {H:List It}:∀ (l:List It) (k:Nat),b+1+k+l.length≤M→(∀ x∈l,∀ r∈partsOf T N b H x,r.length≤L∧∀ s∈r,s<M)→∀ p∈helpsPd T N b H k l,(b+1+k≤p.left∧p.left<b+1+k+l.length)∧p.right.length≤L+1∧∀ x∈p.right,x<M
 | [],_,_,_,p,hp=>by cases hp
 | x::l,k,hb,h,p,hp=>by
  rw [List.length_cons] at hb ⊢
  rcases List.mem_append.1 hp with hp | hp
  ·obtain⟨h1,h2⟩:=helpPd_ok (s:=b+1+k) (by omega) (h x List.mem_cons_self) p hp
   exact⟨by omega,h2⟩
  ·obtain⟨h1,h2⟩:=helpsPd_ok l (k+1) (by omega) (fun y hy=>h y (List.mem_cons_of_mem _ hy)) p hp
   exact⟨by omega,h2⟩
theorem mem_hlpA {d:Nat}{l:List Alt}{x:It}(h:x∈hlpA d l):x∈itsA d l:=(List.mem_filter.1 h).1
theorem partsOf_ok {g:Gr}(hf:Fit g){r:Rl}(hr:r∈g.rules){b:Nat}(hb:b+1+(hlpA 9 r.alts).length≤(tokG g).length+(namG g).length){x:It}(hx:x∈itsA 9 r.alts):∀ q∈partsOf (tokG g) (namG g) b (hlpA 9 r.alts) x,q.length≤2001∧∀ s∈q,s<(tokG g).length+(namG g).length:=by
 intro q hq
 unfold partsOf at hq
 split at hq
 ·obtain⟨a,ha,rfl⟩:=List.mem_map.1 hq
  refine⟨by unfold rightOf;rw [List.length_map];exact (hf.its hr hx).2 a ha,rightOf_lt (fun y hy=>hf.sym hr (its_sub (hf.dp r hr) hx ha hy)) hb⟩
 ·rename_i hk
  rw [List.mem_singleton.1 hq]
  refine⟨by simp,fun s hs=>?_⟩
  rw [List.mem_singleton.1 hs]
  exact psym_lt (hf.plain hr hx hk)
theorem alts_its {l:List Alt}{a:Alt}(ha:a∈l){x:It}(hx:x∈a.1)(d:Nat):x∈itsA (d+1) l:=mem_itsA.2 ⟨a,ha,x,hx,.inl rfl⟩
theorem rulePd_ok {g:Gr}(hf:Fit g){r:Rl}(hr:r∈g.rules){b:Nat}(hb:b+1+(hlpA 9 r.alts).length≤(tokG g).length+(namG g).length):∀ p∈rulePd (tokG g) (namG g) b r,(b≤p.left∧p.left<b+1+(hlpA 9 r.alts).length)∧p.right.length≤2002∧∀ s∈p.right,s<(tokG g).length+(namG g).length:=by
 intro p hp
 unfold rulePd at hp
 rcases List.mem_append.1 hp with hp | hp
 ·obtain⟨a,ha,rfl⟩:=List.mem_map.1 hp
  refine⟨⟨Nat.le_refl _,by show b<_;omega⟩,?_,rightOf_lt (fun y hy=>hf.sym hr (alts_its ha hy 8)) hb⟩
  show (rightOf _ _ _ _ _).length≤_
  unfold rightOf
  rw [List.length_map]
  have:=(hf.alts hr).2 a ha
  omega
 ·obtain⟨h1,h2⟩:=helpsPd_ok (M:=(tokG g).length+(namG g).length) (L:=2001) _ 0 (by omega) (fun x hx=>partsOf_ok hf hr hb (mem_hlpA hx)) p hp
  exact⟨by omega,h2⟩
theorem rulesPd_ok {g:Gr} (hf:Fit g):∀ (rs:List Rl) (b:Nat),(∀ r∈rs,r∈g.rules)→b+(rs.flatMap namesR).length≤(tokG g).length+(namG g).length→∀ p∈rulesPd (tokG g) (namG g) b rs,(b≤p.left∧p.left<b+(rs.flatMap namesR).length)∧p.right.length≤2002∧∀ s∈p.right,s<(tokG g).length+(namG g).length
 | [],_,_,_,p,hp=>by cases hp
 | r::rs,b,hin,hb,p,hp=>by
  have hl:=namesR_len r
  rw [List.flatMap_cons,List.length_append] at hb ⊢
  rcases List.mem_append.1 hp with hp | hp
  ·obtain⟨h1,h2⟩:=rulePd_ok hf (hin r List.mem_cons_self) (b:=b) (by omega) p hp
   exact⟨by omega,h2⟩
  ·obtain⟨h1,h2⟩:=rulesPd_ok hf rs (b+1+(hlpA 9 r.alts).length) (fun q hq=>hin q (List.mem_cons_of_mem _ hq)) (by omega) p hp
   exact⟨by omega,h2⟩
theorem names_pos {g:Gr}(hf:Fit g):1≤(g.rules.flatMap namesR).length:=by
 have:=hf.ne
 cases hr:g.rules with
 | nil=>rw [hr] at this;simp at this
 | cons r rs =>
  rw [List.flatMap_cons,List.length_append]
  have:=namesR_len r
  omega
theorem prodG_ok {g:Gr}(hf:Fit g):∀ p∈prodG g,((tokG g).length≤p.left∧p.left<(tokG g).length+(namG g).length)∧p.right.length≤2002∧∀ s∈p.right,s<(tokG g).length+(namG g).length:=by
 intro p hp
 have h1:=namG_len g
 have h2:=names_pos hf
 unfold prodG at hp
 rcases List.mem_cons.1 hp with rfl | hp
 ·refine⟨⟨Nat.le_refl _,by show (tokG g).length<_;omega⟩,by simp,fun s hs=>?_⟩
  rw [List.mem_singleton.1 hs];omega
 ·obtain⟨h3,h4⟩:=rulesPd_ok hf g.rules _ (fun r hr=>hr) (by omega) p hp
  exact⟨by omega,h4⟩
end Lx
theorem setOk_of {g:Lx.Gr}(hf:Lx.Fit g):SetOk g:=by
 have h:=Lx.prodG_ok hf
 exact⟨fun p hp=>⟨(h p hp).1.2,(h p hp).2.2⟩,by have:=hf.tokL;have:=hf.namL;omega,fun p hp=>by have:=(h p hp).2.1;omega⟩
end
end Go.Proofs.YtlcppnabbicmoaaGreatDoor

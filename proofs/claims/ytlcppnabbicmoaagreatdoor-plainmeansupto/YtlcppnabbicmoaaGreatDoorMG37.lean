import Derived.Test.YtlcppnabbicmoaaGreatDoorMG31
import Derived.Test.YtlcppnabbicmoaaGreatDoorMG36
set_option maxHeartbeats 8000000
set_option maxRecDepth 1000000
namespace Go.Proofs.YtlcppnabbicmoaaGreatDoor
open Lx Go.Proofs.Tryz
open Go.RowKit
open Tr
def uD (B:Nat)(w:World)(v:Value)(P:List Lx.Pd):Prop:=∃ ps:List (Value × Lx.Pd),ps.map Prod.snd=P/\w.ownsRow B 78 3 v P.length (ps.flatMap kH)/\∀ q,q∈ps->IR B w q.1 q.2.right
theorem ajs {w:World}{b1 b2 e1 e2 s1 s2 n1 n2:Nat}{v1 v2:Value}{x1 x2:List Value}(h1:w.ownsRow b1 e1 s1 v1 n1 x1)(h2:w.ownsRow b2 e2 s2 v2 n2 x2)(he:e1≠e2){g:Nat}(hg:v1.ownBlock=some g):v2.ownBlock≠some g:=by
 intro hg2;rcases h1.2 with ⟨rfl,_⟩ | ⟨g1,c1,anq,rfl,_,k1,_⟩
 ·cases hg
 ·rcases h2.2 with ⟨rfl,_⟩ | ⟨g2,c2,anr,rfl,_,k2,_⟩
  ·cases hg2
  ·cases hg;cases hg2
   rw[k1]at k2;cases k2;exact he rfl
theorem uD.up {B:Nat}{w w':World}{v:Value}{P:List Lx.Pd}(h:uD B w v P)(hk:∀ g,B<=g->g<w.heap.size->w'.heap[g]?=w.heap[g]?):uD B w' v P:=by
 obtain⟨ps,h1,h2,h3⟩:=h;exact⟨ps,h1,aD h2 fun g hg=>hk g (h2.lt g hg).1 (h2.lt g hg).2,fun q hq=>aD (h3 q hq) fun g hg=>hk g ((h3 q hq).lt g hg).1 ((h3 q hq).lt g hg).2⟩
theorem uD.pr {B:Nat}{w:World}{v:Value}{P:List Lx.Pd}(h:uD B w v P):PR (fun _=>True) w v P:=by
 obtain⟨ps,h1,h2,h3⟩:=h;exact⟨ps,h1,dO h2 (Nat.zero_le _),fun q hq=>⟨dO (h3 q hq) (Nat.zero_le _),fun _ _=>trivial⟩⟩
theorem uD.push {B:Nat}{w w2:World}{v v2 u:Value}{P:List Lx.Pd}{p:Lx.Pd}{ps:List (Value × Lx.Pd)}(h1:ps.map Prod.snd=P){n:Nat}(h2:w.ownsRow B 78 3 v n (ps.flatMap kH))(h3:∀ q,q∈ps->IR B w q.1 q.2.right)(hu:IR B w u p.right)(hw:∀ g,g<w.heap.size->v.ownBlock≠some g->w2.heap[g]?=w.heap[g]?)(ho:w2.ownsRow B 78 3 v2 (P.length+1) (ps.flatMap kH++kH (u,p))):uD B w2 v2 (P++[p]):=by
 have key:∀ {x:Value} {r:List Nat},IR B w x r->IR B w2 x r:=fun {x r} hx=>aD hx fun g hg=>hw g (hx.lt g hg).2 fun e=>ajs hx h2 (by decide) hg e
 refine⟨ps++[(u,p)],by rw[List.map_append,h1];rfl,?_,fun q hq=>?_⟩
 ·rw[List.length_append,List.flatMap_append,List.flatMap_cons,List.flatMap_nil,List.append_nil]
  exact ho
 ·rcases List.mem_append.1 hq with hq | hq
  ·exact key (h3 q hq)
  ·rw[List.mem_singleton.1 hq];exact key hu
theorem ahM {w:World}{ops:Array Oper}{rest:List Oper}{o:Oper}{a:Act}{Q:Exit->Act->World->Prop}(hgd:o.guard=none)(s x:Operand)(ho:o.op=.call { callee:=.builtin .append,args:=#[s,x],argTypes:=#[24,24] })(B:Nat)(hB:B<=w.heap.size)(u:Value)(r:List Nat)(hs:a.eval s=.slice none 0 0)(hu:IR 0 w u r)(hx:a.eval x=u)(hr:r.length<=100000)(h:∀ ra rc w',IR B w' (.slice ra r.length rc) r->Below w.heap.size w w'->wpList prog ops Q rest (a.put o.dst (.slice ra r.length rc)) w'):wpList prog ops Q (o::rest) a w:=by
 obtain⟨i3,hi3,xH,xI,hz32⟩:=info_parts Tryz.info3;have hu':=hu;unfold IR at hu';rcases hu'.2 with ⟨rfl,hzero⟩ | ⟨g4,cap4,Mq,rfl,hg4,Mr,hc4,AJ,-,-⟩
 ·obtain rfl:r=[]:=List.eq_nil_of_length_eq_zero hzero
  exact wpList_append_own_none hgd s x 24 ho B 3 i3 1 underlying24 hi3 (.slice none 0 0) 0 [] hs (World.ownsRow_nil _ _ _ _) hx (h none 0 w (World.ownsRow_nil _ _ _ _) (Below.refl _ _))
 ·refine wpList_append_own_at _ hgd s x 24 ho B 3 i3 _ 1 8 underlying24 hi3 xH xI hz32 rfl (by decide) (.slice none 0 0) 0 [] hs (World.ownsRow_nil _ _ _ _) ⟨g4,0,none⟩ r.length cap4 (gV r) hx (by rw[xg,Nat.mul_one]) (hu'.cells rfl) (KU _) (by unfold maxLen;omega) (by omega) hB fun v5 w5 hown5 bf _ _=>?_
  rw[Nat.zero_add]at hown5;obtain⟨dL,dM,rfl,-⟩:=aI hown5;exact h dL dM w5 hown5 ⟨bf.os,bf.tape,bf.output,bf.size,fun g hg=>bf.block g hg (by simp[Value.ownBlock])⟩
def aat (w:World)(nT nN:Nat)(P:List Lx.Pd)(e:Ending)(w':World):Prop:=∃ ta tc na nc uP,e=.returned (.agg #[.slice ta nT tc,.slice na nN nc,uP,.slice none 0 0,.slice none 0 0])/\PR (fun _=>True) w' uP P/\Below w.heap.size w w'
theorem aiW {w:World}{vT vN vP vB vK:Value}{T N:List ByteArray}{P:List Lx.Pd}(hT:w.ownsRow 0 9 1 vT T.length (T.map Value.string))(hN:w.ownsRow 0 9 1 vN N.length (N.map Value.string))(hP:PP (fun _=>True) w vP P)(hT0:0<T.length)(hN0:0<N.length)(hTb:T.length<=100000)(hNb:N.length<=100000)(hPb:P.length<=100000)(hPr:∀ p∈P,p.right.length<=100000):Calls prog 20 #[.agg #[vT,vN,vP,vB,vK]] w (aat w T.length N.length P):=by
 obtain⟨gT,tc,tF,-,lgT⟩:=hT.form hT0;obtain⟨gN,nc,Dn,-,lgN⟩:=hN.form hN0;obtain⟨pa,pc,rfl,-⟩:∃ a c,vP=.slice a P.length c/\P.length<=maxLen:=by obtain⟨ps,h1,h2,-⟩:=hP;exact aI h2
 subst tF Dn;obtain⟨W0,hW0⟩:∃ W,W=((w.alloc (.cells #[.slice (some ⟨gT,0,none⟩) T.length tc,.slice (some ⟨gN,0,none⟩) N.length nc,.slice pa P.length pc,vB,vK] 26)).alloc (.cells #[.slice none 0 0,.slice none 0 0,.slice none 0 0,.slice none 0 0,.slice none 0 0] 32)).alloc (.cells #[.slice none 0 0,.slice none 0 0,.slice none 0 0,.slice none 0 0,.slice none 0 0] 32):=⟨_,rfl⟩;have hb0:Below w.heap.size w W0:=by rw[hW0];exact (((Below.refl _ _).alloc (lr0) _).alloc (by simp) _).alloc (by simp;omega) _
 have hz9:W0.heap.size=w.heap.size+3:=by rw[hW0];simp
 obtain⟨pb,hpb⟩:∃ pb,w.heap.size+1+1=pb:=⟨_,rfl⟩;have r9:aj W0 w.heap.size #[.slice (some ⟨gT,0,none⟩) T.length tc,.slice (some ⟨gN,0,none⟩) N.length nc,.slice pa P.length pc,vB,vK] 26:=by rw[hW0];exact ((aj.new w _ 26).alloc _).alloc _
 have Ol:aj W0 pb #[.slice none 0 0,.slice none 0 0,.slice none 0 0,.slice none 0 0,.slice none 0 0] 32:=by
  rw[hW0,<-hpb];have:=aj.new ((w.alloc (.cells #[.slice (some ⟨gT,0,none⟩) T.length tc,.slice (some ⟨gN,0,none⟩) N.length nc,.slice pa P.length pc,vB,vK] 26)).alloc (.cells #[.slice none 0 0,.slice none 0 0,.slice none 0 0,.slice none 0 0,.slice none 0 0] 32)) #[.slice none 0 0,.slice none 0 0,.slice none 0 0,.slice none 0 0,.slice none 0 0] 32;simpa using this
 have kR0:aj W0 (w.heap.size+1) #[.slice none 0 0,.slice none 0 0,.slice none 0 0,.slice none 0 0,.slice none 0 0] 32:=by
  rw[hW0];have:=(aj.new (w.alloc (.cells #[.slice (some ⟨gT,0,none⟩) T.length tc,.slice (some ⟨gN,0,none⟩) N.length nc,.slice pa P.length pc,vB,vK] 26)) #[.slice none 0 0,.slice none 0 0,.slice none 0 0,.slice none 0 0,.slice none 0 0] 32).alloc (.cells #[.slice none 0 0,.slice none 0 0,.slice none 0 0,.slice none 0 0,.slice none 0 0] 32);simpa using this
 have a0:W0.cell? ⟨w.heap.size,0,none⟩=some (.slice (some ⟨gT,0,none⟩) T.length tc):=r9.cell 0;have p0:W0.cell? ⟨pb,0,none⟩=some (.slice none 0 0):=Ol.cell 0;have f0:∀ i,W0.frozen? ⟨pb,i,none⟩=false:=Ol.frozen;obtain⟨i9,hi9,hz90,hz91,hz92⟩:=info_parts Tryz.yL;obtain⟨i3,hi3,xH,xI,hz32⟩:=info_parts Tryz.info3;obtain⟨i78,amA,aj5,aj6,aj7⟩:=info_parts Tryz.ZQ;have hTc:∀ j u,(T.map Value.string)[j]?=some u->W0.cell? ((⟨gT,0,none⟩:Addr).add j)=some u:=(aD (w':=W0) hT fun g hg=>hb0.block g (hT.lt g hg).2).cells rfl;have hone:∀ (L:List ByteArray) (u:Value),u∈L.map Value.string->u.oneCell'=true:=fun L u hu=>by obtain⟨b,-,rfl⟩:=List.mem_map.1 hu;rfl
 unfold aat;go_enter func20,ntmps20;go_upto_region 2 with fail
 rw[<-hW0];clear hW0;go_upto_region 3 with (at_builtin;go_loud (refine wpList_append_own_at _ rfl _ _ 22 rfl (pb+1) 9 i9 _ 1 16 underlying22 hi9 hz90 hz91 hz92 rfl (by decide) (.slice none 0 0) _ _ rfl (World.ownsRow_nil _ _ _ _) ⟨gT,0,none⟩ T.length tc (T.map Value.string) rfl (by simp) hTc (hone T) (by unfold maxLen;omega) (by omega) (by omega) ?_;intro v1 w1 hown1 hgrow1 _ _;obtain⟨ta,BH,hv1,-⟩:=aI hown1;subst hv1;have Om:=Ol.grown hgrow1 (by simp[Value.ownBlock]);have c1:w1.cell? ⟨pb,0,none⟩=some (.slice none 0 0):=Om.cell 0;have f1:∀ i,w1.frozen? ⟨pb,i,none⟩=false:=Om.frozen))
 have hs1:W0.heap.size<=w1.heap.size:=hgrow1.size;have hb1:Below W0.heap.size W0 w1:=⟨hgrow1.os,hgrow1.tape,hgrow1.output,hgrow1.size,fun g hg=>hgrow1.block g hg (by simp[Value.ownBlock])⟩;obtain⟨W2,hW2⟩:∃ W,W=w1.setCell ⟨pb,0,none⟩ (.slice ta T.length BH):=⟨_,rfl⟩;have Oo:aj W2 pb #[.slice ta T.length BH,.slice none 0 0,.slice none 0 0,.slice none 0 0,.slice none 0 0] 32:=by rw[hW2];exact Om.set 0 _
 have hb2:Below pb W0 W2:=by
  have h':Below pb W0 w1:=hb1.mono (by omega);rw[hW2];exact h'.setCell (p:=⟨pb,0,none⟩) (lr0) _
 have hs2:pb+1<=W2.heap.size:=by rw[hW2];simp[World.setCell];omega
 have hbw2:Below w.heap.size w W2:=hb0.trans (hb2.mono (by omega));have kA2:aj W2 w.heap.size _ 26:=(hb2.block _ (by omega)).trans r9;rw[<-hW2];clear hW2 c1 f1 Om hown1 hgrow1 hTc a0 p0 f0 hb1 hs1 Ol;have a1:W2.cell? ⟨w.heap.size,1,none⟩=some (.slice (some ⟨gN,0,none⟩) N.length nc):=kA2.cell 1;have p1:W2.cell? ⟨pb,1,none⟩=some (.slice none 0 0):=Oo.cell 1;have f2:∀ i,W2.frozen? ⟨pb,i,none⟩=false:=Oo.frozen;have hNc:∀ j u,(N.map Value.string)[j]?=some u->W2.cell? ((⟨gN,0,none⟩:Addr).add j)=some u:=(aD (w':=W2) hN fun g hg=>hbw2.block g (hN.lt g hg).2).cells rfl;go_upto_region 4 with (at_builtin;go_loud (refine wpList_append_own_at _ rfl _ _ 22 rfl (pb+1) 9 i9 _ 1 16 underlying22 hi9 hz90 hz91 hz92 rfl (by decide) (.slice none 0 0) _ _ rfl (World.ownsRow_nil _ _ _ _) ⟨gN,0,none⟩ N.length nc (N.map Value.string) rfl (by simp) hNc (hone N) (by unfold maxLen;omega) (by omega) (by omega) ?_;intro v3 w3 hown3 hgrow3 _ _;obtain⟨na,Ei,hv3,-⟩:=aI hown3;subst hv3;have Oq:=Oo.grown hgrow3 (by simp[Value.ownBlock]);have c3:w3.cell? ⟨pb,1,none⟩=some (.slice none 0 0):=Oq.cell 1;have f3:∀ i,w3.frozen? ⟨pb,i,none⟩=false:=Oq.frozen))
 have hs3:W2.heap.size<=w3.heap.size:=hgrow3.size;have hb3:Below W2.heap.size W2 w3:=⟨hgrow3.os,hgrow3.tape,hgrow3.output,hgrow3.size,fun g hg=>hgrow3.block g hg (by simp[Value.ownBlock])⟩;obtain⟨W4,yg⟩:∃ W,W=w3.setCell ⟨pb,1,none⟩ (.slice na N.length Ei):=⟨_,rfl⟩;have kP4:aj W4 pb #[.slice ta T.length BH,.slice na N.length Ei,.slice none 0 0,.slice none 0 0,.slice none 0 0] 32:=by rw[yg];exact Oq.set 1 _
 have hb4:Below pb W0 W4:=by
  have h':Below pb W0 w3:=hb2.trans (hb3.mono (by omega));rw[yg];exact h'.setCell (p:=⟨pb,1,none⟩) (lr0) _
 have hs4:pb+1<=W4.heap.size:=by rw[yg];simp[World.setCell];omega
 rw[<-yg];clear yg c3 f3 Oq hown3 hgrow3 hNc a1 p1 f2 hb3 hs3 Oo hb2 hs2 hbw2 kA2 hone;go_wp2_with fail
 go_loopg [4] P.length (fun k i wr=>∃ (j:Nat) (uP:Value),j+k=P.length/\i=.int .i64 (j:Int)/\aj wr pb #[.slice ta T.length BH,.slice na N.length Ei,uP,.slice none 0 0,.slice none 0 0] 32/\uD (pb+1) wr uP (P.take j)/\Below pb W0 wr/\pb+1<=wr.heap.size)
 case atStart=>exact⟨0,.slice none 0 0,by omega,rfl,kP4,⟨[],rfl,World.ownsRow_nil _ _ _ _,fun q hq=>by cases hq⟩,hb4,hs4⟩
 case round =>
  clear kP4 hb4 hs4;revert wr;intro wz hrel;obtain⟨j,uP,hkj,rfl,Gh,hI,hbz,lz⟩:=hrel;have mF:Below w.heap.size w wz:=hb0.trans (hbz.mono (by omega));have dY:aj wz w.heap.size _ 26:=(hbz.block _ (by omega)).trans r9;have a2:wz.cell? ⟨w.heap.size,2,none⟩=some (.slice pa P.length pc):=dY.cell 2
  by_cases hlt:j<P.length
  ·obtain⟨gP,ak2,u,hvp,hu,x0,x1,x2⟩:=(hP.below mF).at hlt
   cases hvp;have hr:=hPr P[j] (List.getElem_mem hlt);have bH:Hid (P.take (j+1)=P.take j++[P[j]]):=List.take_succ_eq_append_getElem hlt;have hjl:(P.take j).length=j:=by rw[List.length_take];omega
   generalize P[j]=pd at hu x0 x1 x2 hr bH;obtain⟨pl,pr,pp⟩:=pd;simp only at hu x0 x1 x2 hr;obtain⟨ua,uc,rfl,-⟩:=aI hu;have lgP:gP<wz.heap.size:=by
    obtain⟨ps,h1,h2,-⟩:=hP.below mF;exact (h2.lt gP rfl).2
   have i1:(0:Int)<=(j:Int):=by omega
   have i2:(j:Int)<(P.length:Int):=by omega
   obtain⟨oa,oc,rfl,-⟩:∃ a c,uP=.slice a j c/\j<=maxLen:=by obtain⟨ps,-,h2,-⟩:=hI;rw[hjl]at h2;exact aI h2
   obtain⟨ps,hp1,hp2,hp3⟩:=hI;rw[hjl]at hp2;have Db:Hid (ps.map Prod.snd=P.take j):=hp1;have HJL:Hid ((P.take j).length=j):=hjl;clear hp1 hjl hT hN hT0 hN0 hTb hNb lgT lgN;go_upto_region 9 with (at_builtin;go_loud (refine ahM rfl _ _ rfl (pb+1) (by omega) _ pr rfl hu rfl (by omega) ?_;intro dL dM w5 amB hby))
   have hsy:=hby.size;have lpb:pb<w5.heap.size:=by omega
   have UJ:aj w5 pb #[.slice ta T.length BH,.slice na N.length Ei,.slice oa j oc,.slice none 0 0,.slice none 0 0] 32:=(hby.block _ (by omega)).trans Gh;have MX:w5.ownsRow (pb+1) 78 3 (.slice oa j oc) j (ps.flatMap kH):=aD hp2 fun g hg=>hby.block g (hp2.lt g hg).2
   have amC:∀ q,q∈ps->IR (pb+1) w5 q.1 q.2.right:=fun q hq=>aD (hp3 q hq) fun g hg=>hby.block g ((hp3 q hq).lt g hg).2
   have jU:Below pb W0 w5:=hbz.trans (hby.mono (by omega));have kAy:aj w5 w.heap.size _ 26:=(jU.block _ (by omega)).trans r9;have b2:w5.cell? ⟨w.heap.size,2,none⟩=some (.slice (some ⟨gP,0,none⟩) P.length pc):=kAy.cell 2;have p2:w5.cell? ⟨pb,2,none⟩=some (.slice oa j oc):=UJ.cell 2;have y0:w5.cell? ⟨gP,j*3,none⟩=some (.int .i64 (pl:Int)):=cell_below hby x0;have y2:w5.cell? ⟨gP,j*3+2,none⟩=some (.int .i64 pp):=cell_below hby x2;have Jo:=aD (w':=(w5.alloc (.cells #[.int .i64 (pl:Int),.slice dL pr.length dM,.int .i64 pp] 78)).drew) (MX.alloc (.cells #[.int .i64 (pl:Int),.slice dL pr.length dM,.int .i64 pp] 78)) fun _ _=>rfl
   have kP6:aj (w5.alloc (.cells #[.int .i64 (pl:Int),.slice dL pr.length dM,.int .i64 pp] 78)).drew pb _ 32:=(UJ.alloc _).drew;have hvs:(Value.slice oa j oc).ownBlock≠some pb:=fun e=>by have:=(MX.lt _ e).1;omega
   clear x0 x1 x2 a2 dY kAy hp2 hp3 UJ
   go_region_law (go_loud (refine step_append_lies _ rfl (.tmp 34) (.tmp 49) 30 rfl (pb+1) 78 i78 _ 3 40 Tryz.OC amA aj5 aj6 aj7 rfl (by decide) (.slice oa j oc) j (ps.flatMap kH) (by simp[Act.eval]) Jo ⟨w5.heap.size,0,none⟩ 1 1 [.int .i64 (pl:Int),.slice dL pr.length dM,.int .i64 pp] (by simp[Act.eval]) rfl (bP (aj.new w5 _ 78).drew) (by simp[Value.oneCell']) (by decide) (by unfold maxLen;omega) (by omega) (by simp;omega) _ rfl ?_);intro g2 cap2 w7 vI vE Sb aaC;have UK:=kP6.grown vE (fun e=>hvs e.symm);have c72:w7.cell? ⟨pb,2,none⟩=some (.slice oa j oc):=UK.cell 2;have f7:∀ i,w7.frozen? ⟨pb,i,none⟩=false:=UK.frozen)
   all_goals
    have hw7:∀ g,g<w5.heap.size->(Value.slice oa j oc).ownBlock≠some g->w7.heap[g]?=w5.heap[g]?:=fun g hg hv=>by
     rw[vE.block g (by simp;omega) (fun e=>hv e.symm)];exact Below.heap_alloc _ _ _ hg
    have hI7:uD (pb+1) w7 (.slice (some ⟨g2,0,none⟩) (j+1) cap2) (P.take (j+1)):=by
     rw[bH.out];refine uD.push Db.out MX amC amB hw7 ?_;rw[HJL.out];exact vI
    have hs7:w5.heap.size+1<=w7.heap.size:=by have:=vE.size;simp at this;omega
    have hI8:uD (pb+1) (w7.setCell ⟨pb,2,none⟩ (.slice (some ⟨g2,0,none⟩) (j+1) cap2)) (.slice (some ⟨g2,0,none⟩) (j+1) cap2) (P.take (j+1)):=hI7.up fun g hg _=>hs0 (by show g≠pb;omega)
    have kP8:=UK.set 2 (.slice (some ⟨g2,0,none⟩) (j+1) cap2);have UL:Below pb W0 (w7.setCell ⟨pb,2,none⟩ (.slice (some ⟨g2,0,none⟩) (j+1) cap2)):=by
     refine⟨vE.os.trans jU.os,vE.tape.trans jU.tape,vE.output.trans jU.output,by have:=jU.size;simp[World.setCell];omega,fun g hg=>?_⟩;rw[hs0 (by show g≠pb;omega),hw7 g (by omega) (fun e=>by have:=(MX.lt _ e).1;omega)];exact jU.block g hg
    go_wp2_with fail;go_roundg (P.length - (j+1))
    case measure=>omega
    case rel=>exact⟨j+1,_,by omega,by go_num,kP8,hI8,UL,by simp[World.setCell];omega⟩
  ·obtain rfl:j=P.length:=by omega
   rw[List.take_length]at hI;obtain⟨oa,oc,rfl,-⟩:∃ a c,uP=.slice a P.length c/\P.length<=maxLen:=by obtain⟨ps,-,h2,-⟩:=hI;exact aI h2
   have p0:wz.cell? ⟨pb,0,none⟩=some (.slice ta T.length BH):=Gh.cell 0;have p1:wz.cell? ⟨pb,1,none⟩=some (.slice na N.length Ei):=Gh.cell 1;have p2:wz.cell? ⟨pb,2,none⟩=some (.slice oa P.length oc):=Gh.cell 2;have p3:wz.cell? ⟨pb,3,none⟩=some (.slice none 0 0):=Gh.cell 3;have p4:wz.cell? ⟨pb,4,none⟩=some (.slice none 0 0):=Gh.cell 4;have oJ:aj wz (w.heap.size+1) _ 32:=(hbz.block _ (by omega)).trans kR0;have r0:wz.cell? ⟨w.heap.size+1,0,none⟩=some (.slice none 0 0):=oJ.cell 0;have r1:wz.cell? ⟨w.heap.size+1,1,none⟩=some (.slice none 0 0):=oJ.cell 1;have r2:wz.cell? ⟨w.heap.size+1,2,none⟩=some (.slice none 0 0):=oJ.cell 2;have r3:wz.cell? ⟨w.heap.size+1,3,none⟩=some (.slice none 0 0):=oJ.cell 3;have r4:wz.cell? ⟨w.heap.size+1,4,none⟩=some (.slice none 0 0):=oJ.cell 4;have fR:∀ i,wz.frozen? ⟨w.heap.size+1,i,none⟩=false:=oJ.frozen;go_wp2_with fail;refine bodyPost_ret (v:=.agg #[.slice ta T.length BH,.slice na N.length Ei,.slice oa P.length oc,.slice none 0 0,.slice none 0 0]) (by simp[results,results20,go_sem,r0,r1,r2,r3,r4]) rfl ⟨ta,BH,na,Ei,_,rfl,uD.pr (B:=pb+1) (hI.up fun g hg _=>?_),mF.II (Nat.le_succ _) _ _ _ _ _⟩;rw[hs0 (by show g≠w.heap.size+1;omega),hs0 (by show g≠w.heap.size+1;omega),hs0 (by show g≠w.heap.size+1;omega),hs0 (by show g≠w.heap.size+1;omega),hs0 (by show g≠w.heap.size+1;omega)]
end Go.Proofs.YtlcppnabbicmoaaGreatDoor

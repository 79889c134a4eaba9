import Derived.Test.YtagkodkijkpemaaGreatDoorRA41
set_option maxHeartbeats 8000000
set_option maxRecDepth 1000000
namespace Go.Proofs.YtagkodkijkpemaaGreatDoor
open Lx Go.Proofs.Tryz
open Go.RowKit
open Tr
structure Jp(c:bA)(st:Nat)(S:bL)(s:Nat×Nat)(p:Nat)(S':bL):Prop where
 at':S'.st[p]?=some s
 or:(S'.st=S.st/\S'.ss=S.ss/\S'.ws=S.ws/\S'.wq=S.wq)\/(s∉S.st/\S'.st=S.st++[s]/\S'.ss=S.ss++[uG st c.nT s]/\S'.ws=S.ws++[true]/\S'.wq=S.wq++[p])
theorem Tryz.alN:(prog.info? 212).map (fun i=>(i.zero,i.size,i.bytes))=some (some (.agg #[.int .i64 0,.int .i64 0]),2,16):=by kernel_rfl
theorem Tryz.SF:(prog.info? 214).map (fun i=>(i.zero,i.size,i.bytes))=some (some (.slice none 0 0),1,24):=by kernel_rfl
theorem Tryz.amk:prog.underlying 151=some (.slice 212):=by kernel_rfl
theorem Tryz.acP:prog.underlying 149=some (.slice 214):=by kernel_rfl
theorem Tryz.aml:prog.underlying 142=some (.slice 4):=by kernel_rfl
section
variable {c:bA} {w0:World} {F:Nat -> Prop} {B:Nat} {W W1:World} {S:bL} {mp:List (Nat×Nat)}
theorem cu.TF(Q:cu c w0 F B W S mp){t:Nat}(ht:t≠277)(kp:∀{k u:Nat},o7 W k u->u≠t->W1.heap[k]?=W.heap[k]?)(i g:Nat)(hi:S.gs[i]?=some g):B<=g/\∃ws,S.ss[i]?=some ws/\TS W1 g ws/\ws.length=c.nw:=by
 obtain⟨a1,ws,a2,a3,a4⟩:=Q.sets i g hi;exact⟨a1,ws,a2,a3.move (kp (Q.kG (cQ hi)) (Ne.symm ht)),a4⟩
theorem SG{k:Nat}{v v':Value}(hv:v'.ownBlock=some k)(ho:v.ownBlock=v'.ownBlock\/∃g,v'.ownBlock=some g/\W.heap.size<=g):v.ownBlock=some k\/W.heap.size<=k:=by
 rcases ho with h|⟨g,h,hg⟩
 ·exact .inl (h.trans hv)
 ·rw[h]at hv
  cases hv;exact .inr hg
theorem cu.amN(hF:mU c w0 F B)(Q:cu c w0 F B W S mp){v':Value}(s:Nat×Nat)(hg:W.grownBy W1 S.vS.ownBlock)(ho:W1.ownsRow B 212 2 v' (S.st.length+1) (S.st.flatMap zx++zx s))(rE:S.vS.ownBlock=v'.ownBlock\/∃g,v'.ownBlock=some g/\W.heap.size<=g):cu c w0 F B (W1.setCell ⟨c.lb,9,none⟩ v') { S with vS:=v',st:=S.st++[s] } mp/\ql c W S (W1.setCell ⟨c.lb,9,none⟩ v') { S with vS:=v',st:=S.st++[s] }:=by
 obtain⟨kF,kp,km⟩:=Q.but hF (v:=S.vS) (t:=212) (fun g e=>⟨Q.kS e,(Q.rS.lt g e).1⟩) hg;refine⟨cu.stored hF kF ((kp Q.kL (by decide)).trans Q.blk) rfl (by simpa using ho) (aC Q.rA fun g e=>kp (Q.kA e) (by decide)) (Q.rQ.move fun g e=>kp (Q.kQ e) (by decide)) (aC Q.rW fun g e=>kp (Q.kW e) (by decide)) km (Q.TF (by decide) kp) Q.qd (dg Q.big hg.size),ql.stored (v:=S.vS) (fun g e=>.inr (.inr (.inl e))) hg fun k e=>?_⟩;rcases e with e|e|e|e
 ·exact .inl (.inl e)
 ·exact .inl (.inr (.inl e))
 ·exact(SG e rE).imp (fun e=>.inr (.inr (.inl e))) id
 ·exact .inl (.inr (.inr (.inr e)))
theorem cu.amO(hF:mU c w0 F B)(Q:cu c w0 F B W S mp){v':Value}(b:Bool)(hg:W.grownBy W1 S.vW.ownBlock)(ho:W1.ownsRow B 4 1 v' (S.ws.length+1) (S.ws.map Value.bool++[.bool b]))(rE:S.vW.ownBlock=v'.ownBlock\/∃g,v'.ownBlock=some g/\W.heap.size<=g):cu c w0 F B (W1.setCell ⟨c.lb,12,none⟩ v') { S with vW:=v',ws:=S.ws++[b] } mp/\ql c W S (W1.setCell ⟨c.lb,12,none⟩ v') { S with vW:=v',ws:=S.ws++[b] }:=by
 obtain⟨kF,kp,km⟩:=Q.but hF (v:=S.vW) (t:=4) (fun g e=>⟨Q.kW e,(Q.rW.lt g e).1⟩) hg;refine⟨cu.stored hF kF ((kp Q.kL (by decide)).trans Q.blk) rfl (aC Q.rS fun g e=>kp (Q.kS e) (by decide)) (aC Q.rA fun g e=>kp (Q.kA e) (by decide)) (Q.rQ.move fun g e=>kp (Q.kQ e) (by decide)) (by simpa using ho) km (Q.TF (by decide) kp) Q.qd (dg Q.big hg.size),ql.stored (v:=S.vW) (fun g e=>.inr (.inr (.inr (.inr (.inr (.inl e)))))) hg fun k e=>?_⟩;rcases e with e|e|e|e|e|e|e
 ·exact .inl (.inl e)
 ·exact .inl (.inr (.inl e))
 ·exact .inl (.inr (.inr (.inl e)))
 ·exact .inl (.inr (.inr (.inr (.inl e))))
 ·exact .inl (.inr (.inr (.inr (.inr (.inl e)))))
 ·exact(SG e rE).imp (fun e=>.inr (.inr (.inr (.inr (.inr (.inl e)))))) id
 ·exact .inl (.inr (.inr (.inr (.inr (.inr (.inr e))))))
theorem cu.amP(hF:mU c w0 F B)(Q:cu c w0 F B W S mp){v':Value}{g:Nat}{x:List Nat}(hn:W.heap.size<=g)(hx:x.length=c.nw)(hls:S.ss.length=S.gs.length)(hg:W.grownBy W1 S.vA.ownBlock)(ht:TS W1 g x)(ho:W1.ownsRow B 214 1 v' (S.gs.length+1) (S.gs.map (gY c.nw)++[gY c.nw g]))(rE:S.vA.ownBlock=v'.ownBlock\/∃g,v'.ownBlock=some g/\W.heap.size<=g):cu c w0 F B (W1.setCell ⟨c.lb,10,none⟩ v') { S with vA:=v',gs:=S.gs++[g],ss:=S.ss++[x] } mp/\ql c W S (W1.setCell ⟨c.lb,10,none⟩ v') { S with vA:=v',gs:=S.gs++[g],ss:=S.ss++[x] }:=by
 obtain⟨kF,kp,km⟩:=Q.but hF (v:=S.vA) (t:=214) (fun g e=>⟨Q.kA e,(Q.rA.lt g e).1⟩) hg;refine⟨cu.stored hF kF ((kp Q.kL (by decide)).trans Q.blk) rfl (aC Q.rS fun g e=>kp (Q.kS e) (by decide)) (by simpa using ho) (Q.rQ.move fun g e=>kp (Q.kQ e) (by decide)) (aC Q.rW fun g e=>kp (Q.kW e) (by decide)) km (fun i k hk=>?_) ?_ (dg Q.big hg.size),ql.stored (v:=S.vA) (fun g e=>.inr (.inr (.inr (.inl e)))) hg fun k e=>?_⟩
 ·have hk':(S.gs++[g])[i]?=some k:=hk
  rw[jj]at hk'
  split at hk'
  ·rename_i hl
   obtain⟨a1,ws,a2,a3,a4⟩:=Q.TF (W1:=W1) (by decide) kp i k hk';exact⟨a1,ws,by show (S.ss++[x])[i]?=_;rw[eC (by omega)];exact a2,a3,a4⟩
  ·rename_i hl
   have hi:i-S.gs.length=0:=by
    have:=(cG.1 hk').1;simp at this;omega
   rw[hi]at hk';cases hk';exact⟨dg Q.big hn,x,by show (S.ss++[x])[i]?=_;rw[eJ (by omega),show i-S.ss.length=0 by omega];rfl,ht,hx⟩
 ·show (S.gs++[g]).Nodup
  rw[ik];exact⟨Q.qd,by simp,fun a ha b hb=>by
   rw[cM]at hb;subst hb;have:=Q.yP (k:=a) (.inr (.inr (.inr (.inr (.inr (.inr ha))))));omega⟩
 ·rcases e with e | e | e | e | e | e | e
  ·exact .inl (.inl e)
  ·exact .inl (.inr (.inl e))
  ·exact .inl (.inr (.inr (.inl e)))
  ·exact(SG e rE).imp (fun e=>.inr (.inr (.inr (.inl e)))) id
  ·exact .inl (.inr (.inr (.inr (.inr (.inl e)))))
  ·exact .inl (.inr (.inr (.inr (.inr (.inr (.inl e))))))
  ·rcases cY.1 (show k∈S.gs++[g] from e) with e | e
   ·exact .inl (.inr (.inr (.inr (.inr (.inr (.inr e))))))
   ·rw[cM]at e;exact .inr (by omega)
theorem aaf(hF:mU c w0 F B)(h:jP c w0 F B W S){st:Nat}(hs:c.st0 st)(hnd:S.st.Nodup)(s:Nat×Nat)(hm:S.st.length<=900000/\S.wq.length<=900000):Calls prog 94 #[.pointer (some ⟨c.lb,0,none⟩),.agg #[.int .i64 (s.1:Int),.int .i64 (s.2:Int)]] W fun e W'=>∃(p:Nat)(S':bL),e=.returned (.int .i64 (p:Int))/\aY c w0 F B W S W' S'/\Jp c st S s p S':=by
 obtain⟨W1,hW1⟩:∃V,V=W.alloc (.cells #[.int .i64 (s.1:Int),.int .i64 (s.2:Int)] 212):=⟨_,rfl⟩;have hb1:Below W.heap.size W W1:=by rw[hW1];exact(cV _ _).alloc (zL0) _
 have hz1:W1.heap.size=W.heap.size+1:=by rw[hW1];simp
 have kB:aj W1 W.heap.size #[.int .i64 (s.1:Int),.int .i64 (s.2:Int)] 212:=by rw[hW1];exact aj.new ..
 have T1:aY c w0 F B W S W1 S:=aY.move h (fun k hk=>hb1.block k hk) hF (by omega) ⟨hb1.1,hb1.2,hb1.3⟩;have x0:W1.cell? ⟨W.heap.size,0,none⟩=some (.int .i64 (s.1:Int)):=kB.cell 0;have x1:W1.cell? ⟨W.heap.size,1,none⟩=some (.int .i64 (s.2:Int)):=kB.cell 1;have d8:W1.cell? ⟨c.lb,8,none⟩=some (.map (some c.pm)):=T1.m.blk.cell 8;obtain⟨bs,hbs⟩:∃b,W.heap.size=b:=⟨_,rfl⟩;have hno:¬S.own c bs:=fun e=>by have:=h.yP e;omega
 rw[hbs]at x0 x1 kB
 by_cases hin:s∈S.st
 ·obtain⟨p,hp⟩:=eQ.1 hin
  have lk:∀nq,(Instr.lookup 145 (.map (some c.pm)) (.agg #[.int .i64 (s.1:Int),.int .i64 (s.2:Int)]) true).run prog (W1.drewN nq)=.ok (.tuple #[.int .i64 (p:Int),.bool true]) (W1.drewN nq):=fun nq=>iD.hit (w:=W1.drewN nq) Tryz.Jy Tryz.Jl (T1.m.map.move rfl) hnd hp
  have HT:Hid (∀nq,aY c w0 F B W S (W1.drewN nq) S):=fun nq=>T1.trans (aY.move T1.m (fun _ _=>rfl) hF (zL0) ⟨rfl,rfl,rfl⟩)
  have HP:Hid (Jp c st S s p S):=⟨hp,.inl ⟨rfl,rfl,rfl,rfl⟩⟩;clear T1 hb1 kB hz1 hin hp;go_enter func94,ntmps94;go_upto_region 1 with fail
  rw[<-hW1];clear hW1
  go_quiet (fail)
  go_wp2_with fail;go_ret;exact⟨p,S,rfl,HT.out _,HP.out⟩
 ·have lk:∀nq,(Instr.lookup 145 (.map (some c.pm)) (.agg #[.int .i64 (s.1:Int),.int .i64 (s.2:Int)]) true).run prog (W1.drewN nq)=.ok (.tuple #[.int .i64 0,.bool false]) (W1.drewN nq):=fun nq=>iD.miss (w:=W1.drewN nq) Tryz.Jy Tryz.Jl Tryz.FP (T1.m.map.move rfl) hin
  have HT:Hid (∀nq,aY c w0 F B W S (W1.drewN nq) S):=fun nq=>T1.trans (aY.move T1.m (fun _ _=>rfl) hF (zL0) ⟨rfl,rfl,rfl⟩)
  have HB:Hid (∀nq,aj (W1.drewN nq) bs #[.int .i64 (s.1:Int),.int .i64 (s.2:Int)] 212):=fun nq=>kB
  clear T1 hb1 kB hz1;go_enter func94,ntmps94;go_upto_region 1 with fail
  rw[<-hW1];clear hW1
  go_quiet (fail)
  have T2:=HT.out nq;have kB:=HB.out nq;clear HT HB lk x0 x1 d8;generalize W1.drewN nq=W2 at T2 kB|-;have hM:=T2.m;obtain⟨sa,sc,pq,hsm⟩:=aB hM.rS;have d9:W2.cell? ⟨c.lb,9,none⟩=some (.slice sa S.st.length sc):=by rw[<-pq];exact hM.blk.cell 9
  have x0:W2.cell? ⟨bs,0,none⟩=some (.int .i64 (s.1:Int)):=kB.cell 0;have x1:W2.cell? ⟨bs,1,none⟩=some (.int .i64 (s.2:Int)):=kB.cell 1;have d8:W2.cell? ⟨c.lb,8,none⟩=some (.map (some c.pm)):=hM.blk.cell 8;obtain⟨w3,hup,A9,hg3,hz3⟩:=iD.put (w:=W2.drew) Tryz.Jy Tryz.Jl (hM.map.move rfl) hin;unfold bC at hup;have hk3:∀k,k<W2.heap.size->k≠c.pm->w3.heap[k]?=W2.heap[k]?:=fun k hk hn=>hg3.block k hk fun e=>hn (by cases e;rfl)
  have Q3:cu c w0 F B w3 S (S.st++[s]):=by
   have hk:∀{k t:Nat},o7 W2 k t->w3.heap[k]?=W2.heap[k]?:=fun hk=>hk3 _ (by obtain⟨y,hy⟩:=hk;exact(dv.1 hy).1) (hM.JV hk)
   refine⟨fun k hk=>?_,(hk hM.kL).trans hM.blk,aC hM.rS fun g e=>hk (hM.kS e),aC hM.rA fun g e=>hk (hM.kA e),hM.rQ.move fun g e=>hk (hM.kQ e),aC hM.rW fun g e=>hk (hM.kW e),A9,fun i g hi=>?_,hM.qd,by rw[hz3];exact hM.big⟩
   ·have hl:=hF.low k hk
    exact(hk3 k (dd hl.1 hM.big) hl.2.2).trans (hM.keep k hk)
   ·obtain⟨a1,ws,a2,a3,a4⟩:=hM.sets i g hi
    exact⟨a1,ws,a2,a3.move (hk (hM.kG (cQ hi))),a4⟩
  have X3:ql c W S w3 S:=T2.x.trans ⟨fun k hk hno=>hk3 k hk fun e=>hno (e▸.inr (.inl rfl)),fun _ e=>.inl e,by rw[hz3];exact zL0,hg3.1,hg3.2,hg3.3⟩;have kB3:aj w3 bs #[.int .i64 (s.1:Int),.int .i64 (s.2:Int)] 212:=(hk3 _ kB.lt fun e=>hno (e▸.inr (.inl rfl))).trans kB;have S3:w3.cell? ⟨c.lb,8,none⟩=some (.map (some c.pm))/\w3.cell? ⟨bs,0,none⟩=some (.int .i64 (s.1:Int))/\w3.cell? ⟨bs,1,none⟩=some (.int .i64 (s.2:Int)):=⟨Q3.blk.cell 8,kB3.cell 0,kB3.cell 1⟩;have Wx:Hid (cu c w0 F B w3 S (S.st++[s])):=Q3;have HX3:Hid (ql c W S w3 S):=X3;have HV:Hid (S.vS=.slice sa S.st.length sc):=pq;clear A9 hg3 hz3 hk3 Q3 X3 T2 hM pq;go_upto_region 5 with fail
  go_region_held3 (fun w'=>w'.cell? ⟨c.lb,8,none⟩=some (.map (some c.pm))/\w'.cell? ⟨bs,0,none⟩=some (.int .i64 (s.1:Int))/\w'.cell? ⟨bs,1,none⟩=some (.int .i64 (s.2:Int))) (first | go_keep | assumption | exact S3) (fail)
  have Q3:=Wx.out;obtain⟨i0,hii,hz0,hz1,hz2⟩:=fd Tryz.alN;have d9:w3.cell? ⟨c.lb,9,none⟩=some (.slice sa S.st.length sc):=by rw[<-HV.out];exact Q3.blk.cell 9
  have x0:w3.cell? ⟨bs,0,none⟩=some (.int .i64 (s.1:Int)):=kB3.cell 0;have x1:w3.cell? ⟨bs,1,none⟩=some (.int .i64 (s.2:Int)):=kB3.cell 1;have l1:c.lb<w3.heap.size:=Q3.blk.lt;have l2:bs<w3.heap.size:=kB3.lt;have o3:(w3.alloc (.cells #[.int .i64 (s.1:Int),.int .i64 (s.2:Int)] 212)).drew.ownsRow B 212 2 (.slice sa S.st.length sc) S.st.length (S.st.flatMap zx):=by
   have:=Q3.rS;rw[HV.out]at this;exact aC (this.alloc (.cells #[.int .i64 (s.1:Int),.int .i64 (s.2:Int)] 212)) fun _ _=>rfl
  have jg:aj (w3.alloc (.cells #[.int .i64 (s.1:Int),.int .i64 (s.2:Int)] 212)).drew c.lb (c.cells S) 153:=(Q3.blk.alloc _).drew;have hvl:(Value.slice sa S.st.length sc).ownBlock≠some c.lb:=fun e=>(Q3.kS (HV.out▸e)).ne Q3.kL (by decide) rfl
  have hb3:B<=(w3.alloc (.cells #[.int .i64 (s.1:Int),.int .i64 (s.2:Int)] 212)).drew.heap.size:=by have:=Q3.big;show _<=(w3.alloc _).heap.size;simp;omega
  clear Q3 S3;go_wp2_with fail
  go_region_law (refine step_append_lies _ rfl (.tmp 33) (.tmp 35) 151 rfl B 212 i0 _ 2 16 Tryz.amk hii hz0 hz1 hz2 rfl (by decide) (.slice sa S.st.length sc) S.st.length (S.st.flatMap zx) (by simp[Act.eval]) o3 ⟨w3.heap.size,0,none⟩ 1 1 [.int .i64 (s.1:Int),.int .i64 (s.2:Int)] (by simp[Act.eval]) rfl (dI (aj.new w3 _ 212).drew) (by simp[Value.oneCell']) (by decide) (by unfold maxLen;omega) (by omega) hb3 _ rfl ?_;intro g4 cap4 w4 uM nJ DV FX;have AU:=jg.grown nJ (fun e=>hvl e.symm);have c49:w4.cell? ⟨c.lb,9,none⟩=some S.vS:=AU.cell 9;have f49:=AU.frozen 9)
  all_goals
   obtain⟨v4,hv4⟩:∃v,v=Value.slice (some ⟨g4,0,none⟩) (S.st.length+1) cap4:=⟨_,rfl⟩;rw[<-hv4]at uM|-;have JY:w3.grownBy w4 S.vS.ownBlock:=by
    rw[HV.out];exact aL (b:=(w3.alloc (.cells #[.int .i64 (s.1:Int),.int .i64 (s.2:Int)] 212)).drew) ⟨rfl,rfl,rfl,(aX w3 _ none).size,fun i hi _=>di _ _ _ hi⟩ nJ
   have Ou:S.vS.ownBlock=v4.ownBlock\/∃g,v4.ownBlock=some g/\w3.heap.size<=g:=by
    rw[hv4];rcases DV with e|e
    ·exact .inl (HV.out▸e)
    ·refine .inr ⟨g4,rfl,?_⟩
     rw[e];exact(aX w3 _ none).size
   obtain⟨Q4,X4⟩:=Wx.out.amN hF s JY uM Ou;have oV:aj (w4.setCell ⟨c.lb,9,none⟩ v4) bs #[.int .i64 (s.1:Int),.int .i64 (s.2:Int)] 212:=(wu _ _ _ fun e=>hno (.inl e)).trans ((JY.block _ l2 fun e=>hno (.inr (.inr (.inl e.symm)))).trans kB3);have Wy:=HX3.out.trans X4;clear hv4 uM JY Ou nJ DV FX AU c49 f49 jg hb3 hvl o3 l1 l2 d9 x0 x1 HX3 Wx HV kB3 X4;generalize w4.setCell ⟨c.lb,9,none⟩ v4=W4 at Q4 Wy oV|-;clear d9 x0 x1 d8 kB hz0 hz1 hz2 hii i0;obtain⟨j0,hj,hj0,hj1,hj2⟩:=fd Tryz.NK;have Qd:W4.cell? ⟨c.lb,12,none⟩=some S.vW:=Q4.blk.cell 12;have oW:(W4.alloc (.cells #[.bool false] 4)).ownsRow B 4 1 S.vW S.ws.length (S.ws.map Value.bool):=Q4.rW.alloc (.cells #[.bool false] 4);have AU:aj (W4.alloc (.cells #[.bool false] 4)) c.lb (c.cells { S with vS:=v4,st:=S.st++[s] }) 153:=Q4.blk.alloc _;have hwl:S.vW.ownBlock≠some c.lb:=fun e=>(Q4.kW e).ne Q4.kL (by decide) rfl
   have hb4:B<=(W4.alloc (.cells #[.bool false] 4)).heap.size:=dg Q4.big (aX W4 _ none).size;have hl4:S.ws.length+1<=900001:=by have:=h.lw;omega
   go_upto_region 8 with (at_builtin;refine ge _ rfl _ _ 142 rfl B 4 j0 _ 1 1 Tryz.aml hj hj0 hj1 hj2 rfl (by decide) S.vW S.ws.length (S.ws.map Value.bool) rfl oW ⟨W4.heap.size,0,none⟩ 1 1 [.bool false] rfl rfl (dI (aj.new W4 #[.bool false] 4)) (by simp[Value.oneCell']) (by unfold maxLen;omega) (by omega) hb4 ?_;intro v5 w5 qi hg5 _ F9;obtain⟨va,vc,rfl,-⟩:=aB qi;have vI:=AU.grown hg5 (fun e=>hwl e.symm);have c5:w5.cell? ⟨c.lb,12,none⟩=some S.vW:=vI.cell 12;have f5:=vI.frozen 12)
   have hgr5:W4.grownBy w5 S.vW.ownBlock:=aL (aX W4 _ _) hg5;have adi:S.vW.ownBlock=(Value.slice va (S.ws.length+1) vc).ownBlock\/∃g,(Value.slice va (S.ws.length+1) vc).ownBlock=some g/\W4.heap.size<=g:=F9.imp Eq.symm fun e=>⟨_,e,(aX W4 _ none).size⟩
   obtain⟨Q5,X5⟩:=Q4.amO hF false hgr5 qi adi;have pU:aj (w5.setCell ⟨c.lb,12,none⟩ (.slice va (S.ws.length+1) vc)) bs #[.int .i64 (s.1:Int),.int .i64 (s.2:Int)] 212:=(wu _ _ _ fun e=>hno (.inl e)).trans ((hgr5.block _ oV.lt fun e=>hno (.inr (.inr (.inr (.inr (.inr (.inl e.symm))))))).trans oV);have Qf:=Wy.trans X5;clear hgr5 adi X5 qi hg5 F9 vI c5 f5 Wy oV Q4 Qd oW AU hwl hb4 hj hj0 hj1 hj2 j0;generalize w5.setCell ⟨c.lb,12,none⟩ (.slice va (S.ws.length+1) vc)=W5 at Q5 Qf pU|-;generalize Value.slice va (S.ws.length+1) vc=v5 at Q5 Qf|-;obtain⟨i0,hii,hz0,hz1,hz2⟩:=fd Tryz.SF;have hq8:=agk hF (W:=W5.drew) (Q5.move (fun _ _=>rfl) (zL0)) hs s;have Qe:W5.cell? ⟨c.lb,10,none⟩=some S.vA:=Q5.blk.cell 10;have x0:W5.cell? ⟨bs,0,none⟩=some (.int .i64 (s.1:Int)):=pU.cell 0;have x1:W5.cell? ⟨bs,1,none⟩=some (.int .i64 (s.2:Int)):=pU.cell 1;have HS:Hid (∀(g6:Nat)(w6:World),W5.heap.size<=g6->Below W5.heap.size W5 w6->w6.cell? ⟨c.lb,10,none⟩=some S.vA/\w6.cell? ⟨bs,0,none⟩=some (.int .i64 (s.1:Int))/\w6.cell? ⟨bs,1,none⟩=some (.int .i64 (s.2:Int))/\(w6.alloc (.cells #[.slice (some ⟨g6,0,none⟩) c.nw c.nw] 214)).ownsRow B 214 1 S.vA S.gs.length (S.gs.map (gY c.nw))/\aj (w6.alloc (.cells #[.slice (some ⟨g6,0,none⟩) c.nw c.nw] 214)) c.lb (c.cells { S with vS:=v4,st:=S.st++[s],vW:=v5,ws:=S.ws++[false] }) 153/\B<=(w6.alloc (.cells #[.slice (some ⟨g6,0,none⟩) c.nw c.nw] 214)).heap.size):=fun g6 w6 EF hb6=>by
    have AB:aj w6 c.lb (c.cells { S with vS:=v4,st:=S.st++[s],vW:=v5,ws:=S.ws++[false] }) 153:=(hb6.block _ Q5.blk.lt).trans Q5.blk;have xL:aj w6 bs #[.int .i64 (s.1:Int),.int .i64 (s.2:Int)] 212:=(hb6.block _ pU.lt).trans pU;exact⟨AB.cell 10,xL.cell 0,xL.cell 1,(aC Q5.rA fun g e=>hb6.block g (Q5.rA.lt g e).2).alloc _,AB.alloc _,dg Q5.big (dg hb6.size (aX w6 _ none).size)⟩
   have hal:S.vA.ownBlock≠some c.lb:=fun e=>(Q5.kA e).ne Q5.kL (by decide) rfl
   have hl8:S.gs.length+1<=900001:=by have:=h.lg;omega
   go_wp2_with fail
   go_region_law (first
    | (refine fP rfl 134 #[.pointer (some ⟨c.lb,0,none⟩),.agg #[.int .i64 (s.1:Int),.int .i64 (s.2:Int)]] (by go_simp) hq8 ?_;rintro e w6⟨g6,rfl,EF,Qg,hb6⟩;unfold gY;refine⟨_,rfl,?_⟩;have yZ:Below W5.heap.size W5 w6:=⟨hb6.1,hb6.2,hb6.3,hb6.4,hb6.5⟩;obtain⟨z0,z1,z2,z3,z4,z5⟩:=HS.out g6 w6 EF yZ;have z6:(w6.alloc (.cells #[.slice (some ⟨g6,0,none⟩) c.nw c.nw] 214)).cell? ⟨c.lb,10,none⟩=some S.vA:=z4.cell 10)
    | (refine step_append_lies _ rfl (.tmp 52) (.tmp 56) 149 rfl B 214 i0 _ 1 24 Tryz.acP hii hz0 hz1 hz2 rfl (by decide) S.vA S.gs.length (S.gs.map (gY c.nw)) (by simp[Act.eval]) z3 ⟨w6.heap.size,0,none⟩ 1 1 [.slice (some ⟨g6,0,none⟩) c.nw c.nw] (by simp[Act.eval]) rfl (dI (aj.new w6 _ 214)) (by simp[Value.oneCell']) (by decide) (by unfold maxLen;omega) (by omega) z5 _ rfl ?_;intro g7 an5 w7 FM NE BZ adw;have GU:=z4.grown NE (fun e=>hal e.symm);have c7:w7.cell? ⟨c.lb,10,none⟩=some S.vA:=GU.cell 10;have f7:=GU.frozen 10))
   all_goals
    obtain⟨v7,hv7⟩:∃v,v=Value.slice (some ⟨g7,0,none⟩) (S.gs.length+1) an5:=⟨_,rfl⟩;rw[<-hv7]at FM|-;have UM:=(aX w6 (.cells #[.slice (some ⟨g6,0,none⟩) c.nw c.nw] 214) none).size;have Oy:W5.grownBy w7 S.vA.ownBlock:=aL ⟨yZ.1,yZ.2,yZ.3,yZ.size,fun i hi _=>yZ.block i hi⟩ (aL (aX w6 _ _) NE);have F8:S.vA.ownBlock=v7.ownBlock\/∃g,v7.ownBlock=some g/\W5.heap.size<=g:=by
     rw[hv7];rcases BZ with e|e
     ·exact .inl e
     ·exact .inr ⟨g7,rfl,by rw[e];exact dg yZ.size UM⟩
    have hT7:TS w7 g6 (uG st c.nT s):=(Qg.move (di _ _ _ Qg.blk.lt)).move (NE.block _ (dd Qg.blk.lt UM) fun e=>by
     have:=(Q5.rA.lt g6 e.symm).2;have:=show W5.heap.size<=g6 from EF
     omega)
    obtain⟨Q7,X7⟩:=Q5.amP hF EF (ab0 st c.nT s) (by rw[h.ls,h.lg]) Oy hT7 FM F8;have X7':=Qf.trans X7;clear X7 Qf Q5 hT7 F8 Oy UM hv7 FM NE BZ adw GU c7 f7 z0 z1 z2 z3 z4 z5 z6 hb6 yZ Qg EF HS hq8 hal hii hz0 hz1 hz2 i0 Qe x0 x1 pU;generalize w7.setCell ⟨c.lb,10,none⟩ v7=W7 at Q7 X7'|-;have M7:jP c w0 F B W7 { S with vS:=v4,st:=S.st++[s],vW:=v5,ws:=S.ws++[false],vA:=v7,gs:=S.gs++[g6],ss:=S.ss++[uG st c.nT s] }:=⟨Q7,by show (S.gs++[g6]).length=(S.st++[s]).length;simp[h.lg],by show (S.ss++[_]).length=(S.st++[s]).length;simp[h.ls],by show (S.ws++[false]).length=(S.st++[s]).length;simp[h.lw]⟩;have q9:=aa0 hF M7 (p:=S.st.length) (by show _<(S.st++[s]).length;simp) (by show S.wq.length+1<=_;omega)
    go_wp2_with (go_at_call 98;refine q9.mono ?_;rintro e w8⟨rfl,S8,T8,hw8⟩)
    go_ret;have e1:(S.ws++[false])[S.st.length]?=some false:=by rw[<-h.lw];simp
    have e2:(S.ws++[false]).set S.st.length true=S.ws++[true]:=by rw[<-h.lw];simp
    refine⟨S.st.length,S8,rfl,⟨T8.m,X7'.trans T8.x⟩,by rw[hw8.st];simp,.inr ⟨hin,hw8.st,hw8.ss,hw8.ws.trans e2,?_⟩⟩;rcases hw8.wq with ⟨k,-⟩|⟨-,k⟩
    ·have k':(S.ws++[false])[S.st.length]?=some true:=k
     rw[e1]at k';cases k'
    ·exact k
end
end Go.Proofs.YtagkodkijkpemaaGreatDoor

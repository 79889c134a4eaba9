import Derived.Test.YtagkodkijkpemaaGreatDoorRA13
set_option maxHeartbeats 8000000
set_option maxRecDepth 1000000
namespace Go.Proofs.YtagkodkijkpemaaGreatDoor
open Lx Go.Proofs.Tryz
open Go.RowKit Tr
namespace Lx
theorem ae1{x:Wd}{ws:List Wd}(h:x.1=1\/x.1=2):fD (x::ws)=fD ws:=by unfold fD;rw[qu];rcases h with h|h <;> simp[h]
theorem ag2{x:Wd}{ws:List Wd}(h1:¬x.1=1)(h2:¬x.1=2):fD (x::ws)=x.2.1::fD ws:=by unfold fD;rw[tm (by simp[h1,h2])];rfl
end Lx
structure anh(w:World)(mb S:Nat)(cs:Array Value)(T:List ByteArray)(w':World):Prop where
 ex:∃vT,aj w' mb (cs.setIfInBounds 0 vT) 198/\w'.ownsRow w.heap.size 9 1 vT T.length (T.map Value.string)
 sm:SMap w' S (jd T)
 kp:Kp (fun g=>g<w.heap.size/\g≠mb/\g≠S) w w'
theorem ae2{w:World}{mb S:Nat}{vH vW:Value}{ws:List Lx.Wd}(kM:aj w mb #[.slice none 0 0,.slice none 0 0,.slice none 0 0,.slice none 0 0,.slice none 0 0,.map (some S),vH] 198)(hS:SMap w S (fun _=>0))(xS:WR w vW ws)(hWb:∀g,vW.ownBlock=some g->g≠mb/\g≠S)(hsz:∀x∈ws,x.2.1.size<=2000)(hnd:∀x∈ws,¬x.1=1->¬x.1=2->x.2.1≠lq)(hl:ws.length<=100000):
  Calls prog 82 #[.pointer (some ⟨mb,0,none⟩),vW] w fun e w'=>e=.returned (.tuple #[])/\anh w mb S #[.slice none 0 0,.slice none 0 0,.slice none 0 0,.slice none 0 0,.slice none 0 0,.map (some S),vH] (gH [lq] (fD ws)) w':=by
 obtain⟨i9,hi9,hz90,hz91,hz92⟩:=fd Tryz.Ti;obtain⟨a,c,rfl,-⟩:=xS.len;have lm:=kM.lt;have lS:=hS.lt;have Ao:mb≠S:=fun e=>by
  obtain⟨es,clock,h1,-⟩:=hS;unfold aj at kM;rw[e,h1]at kM;cases kM
 have m0:w.cell? ⟨mb,0,none⟩=some (.slice none 0 0):=kM.cell 0;have f0:∀i,w.frozen? ⟨mb,i,none⟩=false:=kM.frozen;go_enter func82,ntmps82;go_wp2_with fail;obtain⟨W,hW⟩:∃W,W=(w.setCell ⟨mb,0,none⟩ (.slice (some ⟨w.heap.size,0,none⟩) 1 1)).alloc (.cells #[.string lq] 9):=⟨_,rfl⟩;have eW:(w.setCell ⟨mb,0,none⟩ (.slice (some ⟨w.heap.size,0,none⟩) 1 1)).alloc (.cells #[.string { data:=#[36] }] 9)=W:=hW.symm;rw[eW];clear eW;have kW:aj W mb #[.slice (some ⟨w.heap.size,0,none⟩) 1 1,.slice none 0 0,.slice none 0 0,.slice none 0 0,.slice none 0 0,.map (some S),vH] 198:=by rw[hW];exact(kM.set 0 _).alloc _
 have kN:aj W w.heap.size #[.string lq] 9:=by
  have:=aj.new (w.setCell ⟨mb,0,none⟩ (.slice (some ⟨w.heap.size,0,none⟩) 1 1)) #[.string lq] 9;rw[hW];simpa [World.setCell]using this
 have oW:W.ownsRow w.heap.size 9 1 (.slice (some ⟨w.heap.size,0,none⟩) 1 1) 1 [.string lq]:=⟨rfl,.inr ⟨w.heap.size,1,#[.string lq],rfl,zL0,kN,zL0,by decide,rfl,rfl⟩⟩;have hkW:Kp (fun g=>g<w.heap.size/\g≠mb) w W:=⟨by rw[hW];rfl,by rw[hW];rfl,by rw[hW];rfl,by rw[hW];simp[World.setCell],fun g hg=>by rw[hW,di _ _ _ (by simp[World.setCell];exact hg.1),zS0 hg.2]⟩;have hSW:SMap W S (jd [lq]):=by rw[ajv];exact hS.move (hkW.block S ⟨lS,fun e=>Ao e.symm⟩)
 have adQ:Kp (fun g=>g<w.heap.size/\g≠mb/\g≠S) w W:=⟨hkW.os,hkW.tape,hkW.output,hkW.size,fun g hg=>hkW.block g ⟨hg.1,hg.2.1⟩⟩;have H0:Hid (gH [lq] (fD ws)=gH [lq] (fD (ws.drop 0))):=rfl;clear hW hkW kN m0 f0
 go_loopg [13] ws.length (fun k i wr=>∃(j:Nat)(T:List ByteArray)(vT:Value),j+k=ws.length/\i=.int .i64 j/\T.length<=j+1/\(∃T',T=lq::T')/\aj wr mb #[vT,.slice none 0 0,.slice none 0 0,.slice none 0 0,.slice none 0 0,.map (some S),vH] 198/\wr.ownsRow w.heap.size 9 1 vT T.length (T.map Value.string)/\SMap wr S (jd T)/\Kp (fun g=>g<w.heap.size/\g≠mb/\g≠S) w wr/\Hid (gH [lq] (fD ws)=gH T (fD (ws.drop j))))
 case atStart=>exact⟨0,[lq],_,by omega,rfl,by simp,⟨[],rfl⟩,kW,oW,hSW,adQ,H0⟩
 case round=>
  clear H0 hSW adQ oW kW;obtain⟨j,T,vT,hk,rfl,O9,hT',kr,Vp,hM,hkr,HD⟩:=hrel;have hsr:=hkr.size;obtain⟨ta,tc,rfl,-⟩:=aB Vp
  by_cases hlt:j<ws.length
  ·have hwr:WR wr _ ws:=xS.move fun g hg=>hkr.block g ⟨(xS.lt g hg).2,hWb g hg⟩
   obtain⟨g,cap,hv,lg,c0,c1,c2⟩:=hwr.at hlt;cases hv;have hd:=HD.out;rw[eL hlt]at hd;have Uk:=hsz ws[j] (dy hlt);have F3:=hnd ws[j] (dy hlt);generalize ws[j]=x at c0 c1 c2 hd Uk F3;obtain⟨ro,tx,at_⟩:=x;simp only at c0 c1 c2 hd Uk F3;obtain⟨W1,hW1⟩:∃W1,W1=wr.alloc (.cells #[.int .i64 (ro:Int),.string tx,.int .i64 (at_:Int)] 190):=⟨_,rfl⟩;have hb1:Below wr.heap.size wr W1:=by rw[hW1];exact(cV _ _).alloc (zL0) _
   have hs1:W1.heap.size=wr.heap.size+1:=by rw[hW1];simp
   have kx:aj W1 wr.heap.size #[.int .i64 (ro:Int),.string tx,.int .i64 (at_:Int)] 190:=by rw[hW1];exact aj.new wr _ 190
   have lSr:=hM.lt;have lmr:=kr.lt;have hM1:SMap W1 S (jd T):=hM.move (hb1.block _ lSr);have k1:aj W1 mb _ 198:=(hb1.block _ lmr).trans kr;have o1:=own_below Vp hb1;have hk1:Kp (fun g=>g<w.heap.size/\g≠mb/\g≠S) w W1:=hkr.trans (Kp.below hb1 (D:=fun g=>g<wr.heap.size) fun g hg=>hg) fun g hg=>dd hg.1 hsr
   by_cases hro:ro=1\/ro=2
   ·rw[ae1 hro]at hd
    have HD2:Hid _:=hd;clear hd HD;rcases hro with hro|hro
    have hq1:((ro:Int) == 1)=true:=by simp[hro]
    clear hro
    rotate_left
    have hq1:((ro:Int) == 1)=false:=zB0 (by omega);have hq2:((ro:Int) == 2)=true:=by simp[hro]
    clear hro
    all_goals
     go_wp2_with fail;rw[<-hW1];go_roundg (ws.length - (j+1))
     case measure=>omega
     case rel=>exact⟨j+1,T,_,by omega,by go_num,by omega,hT',k1,o1,hM1,hk1,HD2⟩
   ·have hn1:¬ro=1:=fun e=>hro (.inl e)
    have hn2:¬ro=2:=fun e=>hro (.inr e)
    have hq1:((ro:Int) == 1)=false:=zB0 (by omega);have hq2:((ro:Int) == 2)=false:=zB0 (by omega);rw[ag2 hn1 hn2]at hd;have hnt:=F3 hn1 hn2;have Ul:SMap W1.drew S (jd T):=hM1.move rfl;have hl1:=Ul.look tx;have x1:W1.drew.cell? ⟨wr.heap.size,1,none⟩=some (.string tx):=kx.drew.cell 1;have m5:W1.drew.cell? ⟨mb,5,none⟩=some (.map (some S)):=k1.drew.cell 5;have adR:Kp (fun g=>g<w.heap.size/\g≠mb/\g≠S) w W1.drew:=⟨hk1.os,hk1.tape,hk1.output,hk1.size,hk1.block⟩;clear F3 hro hn1 hn2;obtain⟨T',hT'⟩:=hT'
    by_cases h0:jd T tx=0
    ·have hf:¬0<=bW T tx:=by
      rw[hT']at h0|-;exact(ZO hnt).1 h0
     have HD2:Hid (gH [lq] (fD ws)=gH (T++[tx]) (fD (ws.drop (j+1)))):=by
      rw[show gH T (tx::fD (ws.drop (j+1)))=gH (jR T tx) (fD (ws.drop (j+1))) from rfl,show jR T tx=T++[tx] from dk hf]at hd;exact hd
     rw[h0]at hl1;have adS:SMap W1.drew.drew S (jd T):=hM1.move rfl;obtain⟨w2,hu,hM2,hg2,hs2⟩:=adS.put tx (T.length:Int);rw[ajw hf]at hM2;have Vq:aj W1.drew.drew mb _ 198:=k1.drew.drew;have kxd:aj W1.drew.drew wr.heap.size _ 190:=kx.drew.drew;have d0:W1.drew.drew.cell? ⟨mb,0,none⟩=some (.slice ta T.length tc):=Vq.cell 0;have d5:W1.drew.drew.cell? ⟨mb,5,none⟩=some (.map (some S)):=Vq.cell 5;have dx:W1.drew.drew.cell? ⟨wr.heap.size,1,none⟩=some (.string tx):=kxd.cell 1;have k2:aj w2 mb _ 198:=Vq.grown hg2 (fun e=>Ao (gh e));have Gj:aj w2 wr.heap.size _ 190:=kxd.grown hg2 (fun e=>by have:=gh e;omega);have o2:w2.ownsRow w.heap.size 9 1 (.slice ta T.length tc) T.length (T.map Value.string):=aC (aC (w':=W1.drew.drew) o1 fun _ _=>rfl) fun g hg=>hg2.block g (o1.lt g hg).2 (fun e=>by have:=(o1.lt g hg).1;have:=gh e;omega)
     have hk2:Kp (fun g=>g<w.heap.size/\g≠mb/\g≠S) w w2:=⟨hg2.os.trans hk1.os,hg2.tape.trans hk1.tape,hg2.output.trans hk1.output,by rw[hs2];exact hk1.size,fun g hg=>(hg2.block g (dd hg.1 hk1.size) (fun e=>hg.2.2 (gh e))).trans (hk1.block g hg)⟩;have aoy:w2.heap.size=wr.heap.size+1:=hs2.trans hs1;have aoz:=hg2;have HT:Hid (∃T',T++[tx]=lq::T'):=⟨T'++[tx],by rw[hT'];rfl⟩;clear hd HD hf hnt h0 hM1 Ul adS hg2 hs2 adR hT';go_wp2_with fail;rw[<-hW1];clear hW1 c0 c1 c2
     go_region
     all_goals
      go_wp2_with fail
      go_region
     all_goals
      clear hl1 hu d0 d5 dx m5 x1;have qC:=Mt tx w2.drew Uk;have lm2:=k2.lt;have e0:w2.drew.cell? ⟨mb,0,none⟩=some (.slice ta T.length tc):=k2.drew.cell 0;have ex:w2.drew.cell? ⟨wr.heap.size,1,none⟩=some (.string tx):=Gj.drew.cell 1;go_wp2_with fail
      go_region_law (first | (refine fP rfl 57 #[.string tx] (by go_simp) qC ?_;rintro e w3⟨rfl,hb3⟩;have k3:aj w3 mb _ 198:=(hb3.block mb lm2).trans k2;have o3:=own_below (aC (w':=w2.drew) o2 fun _ _=>rfl) hb3;have oA:=o3.alloc (.cells #[.string tx] 9);have e3:w3.cell? ⟨mb,0,none⟩=some (.slice ta T.length tc):=k3.cell 0;have lm3:=k3.lt;have ls3:w.heap.size<=w3.heap.size:=dg hk2.size hb3.size;refine⟨_,rfl,?_⟩) | (refine step_append_lies _ rfl (.tmp 50) (.tmp 54) 53 rfl w.heap.size 9 i9 _ 1 16 underlying53 hi9 hz90 hz91 hz92 rfl (by decide) (.slice ta T.length tc) T.length (T.map Value.string) (by simp[Act.eval]) oA ⟨w3.heap.size,0,none⟩ 1 1 [.string tx] (by simp[Act.eval]) rfl (dI (aj.new w3 _ 9)) (by simp[Value.oneCell']) (by decide) (by unfold maxLen;omega) (by omega) (by simp;omega) _ rfl ?_;intro g4 cap4 w4 uM nJ DV FX;have k4:=(k3.alloc (.cells #[.string tx] 9)).grown nJ (fun e=>by have:=(o2.lt mb e.symm).1;omega);have c40:w4.cell? ⟨mb,0,none⟩=some (.slice ta T.length tc):=k4.cell 0;have f4:∀i,w4.frozen? ⟨mb,i,none⟩=false:=k4.frozen))
     all_goals
      have dM:∀g,g<w2.heap.size->g≠mb->g<w.heap.size->(w4.setCell ⟨mb,0,none⟩ (.slice (some ⟨g4,0,none⟩) (T.length+1) cap4)).heap[g]?=w2.heap[g]?:=fun g hg hm hlo=>by
       rw[zS0 hm,nJ.block g (by have:=hb3.size;have:g<w3.heap.size:=dd hg this;simp;omega) (fun e=>by have:=(o2.lt g e.symm).1;omega),di _ _ _ (dd hg hb3.size),hb3.block g hg];rfl
      have o5:(w4.setCell ⟨mb,0,none⟩ (.slice (some ⟨g4,0,none⟩) (T.length+1) cap4)).ownsRow w.heap.size 9 1 (.slice (some ⟨g4,0,none⟩) (T.length+1) cap4) (T++[tx]).length ((T++[tx]).map Value.string):=by
       rw[cH,ei];exact aC uM fun g hg=>zS0 (fun e=>by have:=(uM.lt g hg).1;have e':g=mb:=e;omega)
      have hs5:w2.heap.size<=(w4.setCell ⟨mb,0,none⟩ (.slice (some ⟨g4,0,none⟩) (T.length+1) cap4)).heap.size:=by
       have h1:=hb3.size;have h2:=nJ.size;simp[World.setCell]at h1 h2|-;omega
      have lS2:S<w2.heap.size:=by omega
      have eP:SMap (w4.setCell ⟨mb,0,none⟩ (.slice (some ⟨g4,0,none⟩) (T.length+1) cap4)) S (jd (T++[tx])):=hM2.move (dM S lS2 (fun e=>Ao e.symm) lS);have hk5:Kp (fun g=>g<w.heap.size/\g≠mb/\g≠S) w (w4.setCell ⟨mb,0,none⟩ (.slice (some ⟨g4,0,none⟩) (T.length+1) cap4)):=⟨nJ.os.trans (hb3.os.trans hk2.os),nJ.tape.trans (hb3.tape.trans hk2.tape),nJ.output.trans (hb3.output.trans hk2.output),dg hk2.size hs5,fun g hg=>(dM g (dd hg.1 hk2.size) hg.2.1 hg.1).trans (hk2.block g hg)⟩;have k5:=k4.set 0 (.slice (some ⟨g4,0,none⟩) (T.length+1) cap4);clear k4 c40 f4 nJ uM DV FX o3 oA e3 hb3 k3 qC e0 ex dM hs5;go_wp2_with fail;go_roundg (ws.length - (j+1))
      case measure=>omega
      case rel=>exact⟨j+1,T++[tx],_,by omega,by go_num,by simp;omega,HT.out,k5,o5,eP,hk5,HD2⟩
    ·have hf:0<=bW T tx:=by
      apply jz;intro hn;rw[hT']at h0 hn;exact h0 ((ZO hnt).2 hn)
     have HD2:Hid (gH [lq] (fD ws)=gH T (fD (ws.drop (j+1)))):=by
      rw[show gH T (tx::fD (ws.drop (j+1)))=gH (jR T tx) (fD (ws.drop (j+1))) from rfl,show jR T tx=T from de hf]at hd;exact hd
     clear hd HD hf hnt;generalize hn:jd T tx=n at hl1 h0;have hnb:(n == 0)=false:=iS.2 h0;go_wp2_with fail;rw[<-hW1];clear hW1 c0 c1 c2
     go_region
     all_goals
      go_wp2_with fail;go_roundg (ws.length - (j+1))
      case measure=>omega
      case rel=>exact⟨j+1,T,_,by omega,by go_num,by omega,⟨T',hT'⟩,k1.drew,aC o1 fun _ _=>rfl,Ul,adR,HD2⟩
  ·have:j=ws.length:=by omega
   subst this;have hd:=HD.out;rw[g8]at hd;have HD2:Hid (gH [lq] (fD ws)=T):=hd;clear hd HD;go_wp2_with fail
   go_end0
   refine⟨rfl,?_⟩;rw[HD2.out];exact⟨⟨_,kr,Vp⟩,hM,hkr⟩
def eO(r:List Nat):Array Value:=(dK r).toArray
theorem Rj(r:List Nat)(i:Nat)(s:Nat):(eO r).setIfInBounds i (.int .i64 (s:Int))=eO (r.set i s):=by
 unfold eO dK;rw[iz,nt]
theorem Rk(r:List Nat){i:Nat}(h:i<r.length):(eO r)[i]?=some (.int .i64 (r[i]:Int)):=by
 unfold eO dK;simp[h]
theorem aie(n:Nat):madeCells #[.int .i64 0] (n*1)=eO (List.replicate n 0):=by
 unfold madeCells eO dK;apply pN
 ·simp
 ·intro i h1 h2
  simp[Nat.mod_one]
theorem Tryz.info3':(prog.info? 3).map (fun i=>(i.zero,i.size,i.bytes))=some (some (.int .i64 0),1,8):=by kernel_rfl
theorem Rm{n:Nat}(hn:n<=100000)(w:World):(Instr.makeSlice 22 (.int .i64 (n:Int)) (.int .i64 (n:Int))).run prog w=.ok (.slice (some ⟨w.heap.size,0,none⟩) n n) (w.alloc (.cells (eO (List.replicate n 0)) 3)):=by
 obtain⟨i0,hi,hz0,hz1,hz2⟩:=fd Tryz.info3';have h:=pj (P:=prog) w 22 3 i0 _ (by kernel_rfl) hi hz0 .i64 .i64 (n:Int) (n:Int) (by omega) (nh _) (by rw[hz2];omega) (by omega);rw[h,gz,hz1];have e:Value.cells (.int .i64 0)=#[.int .i64 0]:=rfl;rw[e,aie]
theorem ZT{w:World}{g:Nat}{r:List Nat}(h:aj w g (eO r) 3){B:Nat}(hB:B<=g)(hr:r.length<=100000):IR B w (.slice (some ⟨g,0,none⟩) r.length r.length) r:=by
 refine⟨by rw[Dj];simp,.inr ⟨g,r.length,eO r,rfl,hB,h,zL0,by unfold maxLen;omega,by simp[eO,Dj],?_⟩⟩;unfold eO;rw[jt,<-Dj];exact ft
namespace Lx
theorem afu{l:List ByteArray}(h:l.Nodup)(b:ByteArray):(jR l b).Nodup:=by
 unfold jR
 split
 ·exact h
 ·rename_i hb
  rw[ik];refine⟨h,by simp,fun a ha c hc e=>?_⟩;rw[cM]at hc;exact hb (jH.2 (hc▸e▸ha))
theorem Xl:∀(bs l:List ByteArray),l.Nodup->(gH l bs).Nodup
 | [],_,h=>h
 |b::bs,l,h=>Xl bs (jR l b) (afu h b)
theorem abu{T:List ByteArray}(nd:T.Nodup){b:ByteArray}{i:Nat}(hi:T[i]?=some b)(f:ByteArray->Nat)(v:Nat):(T.map f).set i v=T.map fun t=>if t=b then v else f t:=by
 obtain⟨hi,rfl⟩:=cG.1 hi;apply mi
 ·simp
 ·intro j h1 h2
  simp only[ib,dt]at h1;rw[ti,oi,oi]
  by_cases hij:i=j
  ·subst hij;simp
  ·rw[dk hij,dk]
   intro e;exact hij ((lj nd).1 e).symm
theorem ak0{T:List ByteArray}{b:ByteArray}(h:0<=bW T b):T[fix T b]?=some b/\bW T b=(fix T b:Int):=by
 have h0:fix T b<T.length:=by
  unfold bW at h
  split at h
  ·assumption
  ·omega
 refine⟨?_,by unfold bW;rw[de h0]⟩;have:=pC (w:=h0);rw[cF h0];have h2:T[fix T b]=b:=js this;rw[h2]
def F6(p:Nat×Nat):List (ByteArray×Nat)->(ByteArray->Nat×Nat)->ByteArray->Nat×Nat
 | [],B=>B
 |t::ts,B=>F6 p ts fun c=>if c=t.1 then p else B c
theorem abv(p:Nat×Nat):∀(ts:List (ByteArray×Nat))(B:ByteArray->Nat×Nat)(t:ByteArray),F6 p ts B t=if 0<=bW (ts.map Prod.fst) t then p else B t
 | [],B,t=>by
  have:¬0<=bW ([]:List ByteArray) t:=fun h=>by have:=jH.1 h;cases this
  rw[pH,dk this];rfl
 |x::ts,B,t=>by
  rw[F6,abv p ts,jp]
  by_cases h1:0<=bW (ts.map Prod.fst) t
  ·rw[de h1,de (jH.2 (ev _ (jH.1 h1)))]
  ·rw[dk h1]
   by_cases h2:t=x.1
   ·rw[de h2,de (jH.2 (by rw[h2];exact eh))]
   ·rw[dk h2,dk]
    intro h;rcases ee.1 (jH.1 h) with h|h
    ·exact h2 h
    ·exact h1 (jH.2 h)
end Lx
structure ani(w:World)(mb:Nat)(cs:Array Value)(T:List ByteArray)(B:ByteArray->Nat×Nat)(w':World):Prop where
 ex:∃vB vK,aj w' mb ((cs.setIfInBounds 3 vB).setIfInBounds 4 vK) 198/\IR w.heap.size w' vB (T.map fun t=>(B t).1)/\IR w.heap.size w' vK (T.map fun t=>(B t).2)/\∀g,vB.ownBlock=some g->vK.ownBlock≠some g
 kp:Kp (fun g=>g<w.heap.size/\g≠mb) w w'
theorem ae3{F:Nat->Prop}{w:World}{mb S:Nat}{vT vN vP vH vL:Value}{T:List ByteArray}{ji:List Lx.Lv}(kM:aj w mb #[vT,vN,vP,.slice none 0 0,.slice none 0 0,.map (some S),vH] 198)(oT:w.ownsRow 0 9 1 vT T.length (T.map Value.string))(hS:SMap w S (jd T))(hV:Tr.Seq F w 250 2 cL (KL F w) vL ji)(hF:∀b,F b->b<w.heap.size/\b≠mb)(nd:T.Nodup)(hT:∀l∈ji,∀t∈l.tokens,0<=bW T t.1)(O9:T.length<=100000)(Vr:ji.length<=100000):
  Calls prog 83 #[.pointer (some ⟨mb,0,none⟩),vL] w fun e w'=>e=.returned (.tuple #[])/\ani w mb #[vT,vN,vP,.slice none 0 0,.slice none 0 0,.map (some S),vH] T (fun t=>Lx.bk t 0 ji (0,0)) w':=by
 obtain⟨la,lc,rfl,hlm⟩:=Seq.len hV;obtain⟨ta,tc,rfl,-⟩:=aB oT;have lm:=kM.lt;have lS:=hS.lt;have Ao:mb≠S:=fun e=>by
  obtain⟨es,clock,h1,-⟩:=hS;unfold aj at kM;rw[e,h1]at kM;cases kM
 have hmk:=fun w=>Rm O9 w
 have m0:w.cell? ⟨mb,0,none⟩=some (.slice ta T.length tc):=kM.cell 0;have m3:w.cell? ⟨mb,3,none⟩=some (.slice none 0 0):=kM.cell 3;have m4:w.cell? ⟨mb,4,none⟩=some (.slice none 0 0):=kM.cell 4;have f0:∀i,w.frozen? ⟨mb,i,none⟩=false:=kM.frozen;go_enter func83,ntmps83;go_wp2_with fail;obtain⟨W,hW⟩:∃W,W=(((w.setCell ⟨mb,3,none⟩ (.slice (some ⟨w.heap.size,0,none⟩) T.length T.length)).setCell ⟨mb,4,none⟩ (.slice (some ⟨w.heap.size+1,0,none⟩) T.length T.length)).alloc (.cells (eO (List.replicate T.length 0)) 3)).alloc (.cells (eO (List.replicate T.length 0)) 3):=⟨_,rfl⟩;rw[<-hW];have kW:aj W mb #[.slice ta T.length tc,vN,vP,.slice (some ⟨w.heap.size,0,none⟩) T.length T.length,.slice (some ⟨w.heap.size+1,0,none⟩) T.length T.length,.map (some S),vH] 198:=by rw[hW];exact(((kM.set 3 _).set 4 _).alloc _).alloc _
 have Vs:T.map (fun _:ByteArray=>0)=List.replicate T.length 0:=List.map_const' ..;have kB:aj W w.heap.size (eO (T.map fun t=>((fun _=>(0,0):ByteArray->Nat×Nat) t).1)) 3:=by
  have:=(aj.new ((w.setCell ⟨mb,3,none⟩ (.slice (some ⟨w.heap.size,0,none⟩) T.length T.length)).setCell ⟨mb,4,none⟩ (.slice (some ⟨w.heap.size+1,0,none⟩) T.length T.length)) (eO (List.replicate T.length 0)) 3).alloc (.cells (eO (List.replicate T.length 0)) 3);rw[hW];show aj _ _ (eO (T.map (fun _:ByteArray=>0))) 3;rw[Vs];simpa [World.setCell]using this
 have kK:aj W (w.heap.size+1) (eO (T.map fun t=>((fun _=>(0,0):ByteArray->Nat×Nat) t).2)) 3:=by
  have:=aj.new (((w.setCell ⟨mb,3,none⟩ (.slice (some ⟨w.heap.size,0,none⟩) T.length T.length)).setCell ⟨mb,4,none⟩ (.slice (some ⟨w.heap.size+1,0,none⟩) T.length T.length)).alloc (.cells (eO (List.replicate T.length 0)) 3)) (eO (List.replicate T.length 0)) 3;rw[hW];show aj _ _ (eO (T.map (fun _:ByteArray=>0))) 3;rw[Vs];simpa [World.setCell]using this
 have hkW:Kp (fun g=>g<w.heap.size/\g≠mb) w W:=⟨by rw[hW];rfl,by rw[hW];rfl,by rw[hW];rfl,by rw[hW];simp[World.setCell];omega,fun g hg=>by rw[hW,di _ _ _ (by simp[World.setCell];omega),di _ _ _ (by simp[World.setCell];exact hg.1),zS0 hg.2,zS0 hg.2]⟩;have H0:Hid (∀t,Lx.bk t 0 ji (0,0)=Lx.bk t 0 (ji.drop 0) ((fun _=>(0,0):ByteArray->Nat×Nat) t)):=fun _=>rfl
 clear hW Vs hmk m0 m3 m4 f0;obtain⟨CS,hCS⟩:∃CS:Array Value,CS=#[.slice ta T.length tc,vN,vP,.slice (some ⟨w.heap.size,0,none⟩) T.length T.length,.slice (some ⟨w.heap.size+1,0,none⟩) T.length T.length,.map (some S),vH]:=⟨_,rfl⟩;rw[<-hCS]at kW
 go_loopg [32] ji.length (fun k i wr=>∃(j:Nat)(B:ByteArray->Nat×Nat),j+k=ji.length/\i=.int .i64 j/\aj wr mb CS 198/\aj wr w.heap.size (eO (T.map fun t=>(B t).1)) 3/\aj wr (w.heap.size+1) (eO (T.map fun t=>(B t).2)) 3/\Kp (fun g=>g<w.heap.size/\g≠mb) w wr/\Hid (∀t,Lx.bk t 0 ji (0,0)=Lx.bk t j (ji.drop j) (B t)))
 case atStart=>exact⟨0,_,by omega,rfl,kW,kB,kK,hkW,H0⟩
 case round=>
  clear H0 hkW kK kB kW;revert wr;intro wz hrel;obtain⟨j,B,hk,rfl,kz,Pb,KE,hkz,HD⟩:=hrel
  by_cases hlt:j<ji.length
  ·have hVz:Tr.Seq F wz 250 2 cL (KL F w) _ ji:=Seq.move hV (fun b hb=>hkz.block b (hF b hb)) (fun _ h=>h) (fun _ _ h=>h)
   obtain⟨gL,JC,va,hv,hgL,Pf,Vt⟩:=Seq.at hVz (fun _=>rfl) hlt;cases hv;have hTj:=hT ji[j] (dy hlt);have hd:=HD.out;rw[eL hlt]at hd;have c0:wz.cell? ⟨gL,j*2,none⟩=some (.int .i64 (ji[j].kind:Int)):=Vt 0 (by decide);have c1:wz.cell? ⟨gL,j*2+1,none⟩=some va:=Vt 1 (by decide);generalize ji[j]=lv at hTj hd Pf c0 c1;obtain⟨kd,toks⟩:=lv;simp only at hTj Pf c0 c1;have adT:Tr.Seq F w 9 1 cT (fun _ _=>True) va toks:=Pf;obtain⟨xa,xc,rfl,sF⟩:=Seq.len adT;obtain⟨j1,hj1,HJ⟩:∃j1:Nat,IntKind.i64.wrap ((j:Int)+1)=(j1:Int)/\Hid (j1=j+1):=⟨j+1,by rw[show ((j:Int)+1)=((j+1:Nat):Int) from by omega];exact wrap64 (by omega),rfl⟩;have HE:Hid (∀t,Lx.bk t 0 ji (0,0)=Lx.bk t (j+1) (ji.drop (j+1)) (F6 (j1,kd) (toks.drop 0) B t)):=fun t=>by
    rw[hd t,Lx.bk,HJ.out,List.drop_zero,abv]
   clear hd HD Vt Pf;obtain⟨W1,hW1⟩:∃W1,W1=wz.alloc (.cells #[.int .i64 (kd:Int),.slice xa toks.length xc] 250):=⟨_,rfl⟩;have hb1:Below wz.heap.size wz W1:=by rw[hW1];exact(cV _ _).alloc (zL0) _
   have hs1:W1.heap.size=wz.heap.size+1:=by rw[hW1];simp
   have kl:aj W1 wz.heap.size #[.int .i64 (kd:Int),.slice xa toks.length xc] 250:=by rw[hW1];exact aj.new wz _ 250
   have lKz:=KE.lt;have k1:aj W1 mb CS 198:=(hb1.block _ kz.lt).trans kz;have kB1:=(hb1.block _ Pb.lt).trans Pb;have kK1:=(hb1.block _ KE.lt).trans KE;have hk1:Kp (fun g=>g<w.heap.size/\g≠mb) w W1:=hkz.trans (Kp.below hb1 (D:=fun g=>g<wz.heap.size) fun g hg=>hg) fun g hg=>dd hg.1 hkz.size
   unfold maxLen at sF;go_wp2_with fail;rw[<-hW1];clear hW1 c0 c1
   go_loopg [40] toks.length (fun k i wr=>∃(m:Nat)(B:ByteArray->Nat×Nat),m+k=toks.length/\i=.int .i64 m/\aj wr mb CS 198/\aj wr w.heap.size (eO (T.map fun t=>(B t).1)) 3/\aj wr (w.heap.size+1) (eO (T.map fun t=>(B t).2)) 3/\aj wr wz.heap.size #[.int .i64 (kd:Int),.slice xa toks.length xc] 250/\Kp (fun g=>g<w.heap.size/\g≠mb) w wr/\Hid (∀t,Lx.bk t 0 ji (0,0)=Lx.bk t (j+1) (ji.drop (j+1)) (F6 (j1,kd) (toks.drop m) B t)))
   case atStart=>exact⟨0,B,by omega,rfl,k1,kB1,kK1,kl,hk1,HE⟩
   case round=>
    clear HE hk1 kl kK1 kB1 k1 hb1 kz Pb KE hkz;clear B;obtain⟨m,B,hkm,rfl,kr,vz,Vu,klr,hkr,HE⟩:=hrel
    by_cases zZ:m<toks.length
    ·have hTr:Tr.Seq F wr 9 1 cT (fun _ _=>True) _ toks:=Seq.move adT (fun b hb=>hkr.block b (hF b hb)) (fun _ h=>h) (fun _ _ h=>h)
     obtain⟨gT,aoA,vk,hv,vE,-,hcT⟩:=Seq.at hTr (fun _=>rfl) zZ;cases hv;have t0:wr.cell? ⟨gT,m,none⟩=some (.string toks[m].1):=by
      have:=hcT 0 (by decide);rw[jt,lP]at this;exact this
     have hfm:=hTj toks[m] (dy zZ);have hd:=HE.out;rw[eL zZ]at hd;generalize toks[m]=tk at t0 hfm hd;obtain⟨tx,tp⟩:=tk;simp only at t0 hfm;obtain⟨hq1,hq2⟩:=ak0 hfm;have hq3:jd T tx=(Lx.fix T tx:Int):=by unfold jd;rw[de hfm];exact hq2
     have jJ:SMap wr S (jd T):=hS.move (hkr.block S ⟨lS,fun e=>Ao e.symm⟩);have eB:=abu nd hq1 (fun t=>(B t).1) j1;have eK:=abu nd hq1 (fun t=>(B t).2) kd;have mO:Lx.fix T tx<T.length:=(cG.1 hq1).1;have HE2:Hid (∀t,Lx.bk t 0 ji (0,0)=Lx.bk t (j+1) (ji.drop (j+1)) (F6 (j1,kd) (toks.drop (m+1)) (fun c=>if c=tx then (j1,kd) else B c) t)):=fun t=>by rw[hd t];rfl
     have eB':(T.map fun t=>((fun c=>if c=tx then (j1,kd) else B c) t).1)=T.map fun t=>if t=tx then j1 else (B t).1:=lz fun t _=>by show (if t=tx then (j1,kd) else B t).1=_;split <;> rfl
     have eK':(T.map fun t=>((fun c=>if c=tx then (j1,kd) else B c) t).2)=T.map fun t=>if t=tx then kd else (B t).2:=lz fun t _=>by show (if t=tx then (j1,kd) else B t).2=_;split <;> rfl
     have hl1:=SMap.look (w:=wr.drew) (jJ.move rfl) tx;rw[hq3]at hl1;have HB0:Hid (Lx.fix T tx<(T.map fun t=>(B t).1).length):=by show _<_;simpa using mO
     have xU:Hid (Lx.fix T tx<(T.map fun t=>(B t).2).length):=by show _<_;simpa using mO
     have Vv:=hq3;generalize Lx.fix T tx=q at hl1 eB eK mO HB0 xU Vv;have Vw:=vz.drew;have b0:wr.drew.cell? ⟨w.heap.size,q,none⟩=some (.int .i64 ((T.map fun t=>(B t).1)[q]'HB0.out:Int)):=by rw[Vw.cell q];exact Rk _ HB0.out
     generalize (T.map fun t=>(B t).1)[q]'HB0.out=ob at b0;have fB:∀i,wr.drew.frozen? ⟨w.heap.size,i,none⟩=false:=Vw.frozen;have Pg:=kr.drew;rw[hCS]at Pg;have m3:wr.drew.cell? ⟨mb,3,none⟩=some (.slice (some ⟨w.heap.size,0,none⟩) T.length T.length):=Pg.cell 3;have m5:wr.drew.cell? ⟨mb,5,none⟩=some (.map (some S)):=Pg.cell 5;obtain⟨W2,hW2⟩:∃W2,W2=(wr.setCell ⟨w.heap.size,q,none⟩ (.int .i64 (j1:Int))).drew:=⟨_,rfl⟩;have kB2:aj W2 w.heap.size (eO (T.map fun t=>if t=tx then j1 else (B t).1)) 3:=by
      have:=(vz.set q (.int .i64 (j1:Int))).drew;rw[Rj,eB]at this;rw[hW2];exact this
     have bk2:∀g,g≠w.heap.size->W2.heap[g]?=wr.heap[g]?:=fun g hg=>by rw[hW2];exact zS0 hg
     have k2:aj W2 mb CS 198:=(bk2 mb (by omega)).trans kr;have kK2:=(bk2 (w.heap.size+1) (by omega)).trans Vu;have kl2:=(bk2 wz.heap.size (by omega)).trans klr;have hk2:Kp (fun g=>g<w.heap.size/\g≠mb) w W2:=⟨by rw[hW2];exact hkr.os,by rw[hW2];exact hkr.tape,by rw[hW2];exact hkr.output,by rw[hW2];simpa [World.setCell]using hkr.size,fun g hg=>(bk2 g (by omega)).trans (hkr.block g hg)⟩;have hM2:SMap W2 S (jd T):=jJ.move (bk2 S (by omega));have hl2:=SMap.look (w:=W2.drew) (hM2.move rfl) tx;rw[Vv]at hl2;have Oi:aj W2 (w.heap.size+1) (eO (T.map fun t=>(B t).2)) 3:=kK2;have Um:aj W2 wz.heap.size #[.int .i64 (kd:Int),.slice (some ⟨gT,0,none⟩) toks.length xc] 250:=kl2;have a0:W2.drew.cell? ⟨w.heap.size+1,q,none⟩=some (.int .i64 ((T.map fun t=>(B t).2)[q]'xU.out:Int)):=by rw[Oi.drew.cell q];exact Rk _ xU.out
     generalize (T.map fun t=>(B t).2)[q]'xU.out=ok at a0;have fK:∀i,W2.drew.frozen? ⟨w.heap.size+1,i,none⟩=false:=Oi.drew.frozen;have Ph:=k2.drew;rw[hCS]at Ph;have n4:W2.drew.cell? ⟨mb,4,none⟩=some (.slice (some ⟨w.heap.size+1,0,none⟩) T.length T.length):=Ph.cell 4;have n5:W2.drew.cell? ⟨mb,5,none⟩=some (.map (some S)):=Ph.cell 5;have nl:W2.drew.cell? ⟨wz.heap.size,0,none⟩=some (.int .i64 (kd:Int)):=Um.drew.cell 0;obtain⟨W3,hW3⟩:∃W3,W3=(W2.setCell ⟨w.heap.size+1,q,none⟩ (.int .i64 (kd:Int))).drew:=⟨_,rfl⟩;have kK3:aj W3 (w.heap.size+1) (eO (T.map fun t=>if t=tx then kd else (B t).2)) 3:=by
      have:=(Oi.set q (.int .i64 (kd:Int))).drew;rw[Rj,eK]at this;rw[hW3];exact this
     have KF:∀g,g≠w.heap.size+1->W3.heap[g]?=W2.heap[g]?:=fun g hg=>by rw[hW3];exact zS0 hg
     have k3:aj W3 mb CS 198:=(KF mb (by omega)).trans k2;have kB3:aj W3 w.heap.size _ 3:=(KF w.heap.size (by omega)).trans kB2;have kl3:aj W3 wz.heap.size _ 250:=(KF wz.heap.size (by omega)).trans Um;have hk3:Kp (fun g=>g<w.heap.size/\g≠mb) w W3:=⟨by rw[hW3];exact hk2.os,by rw[hW3];exact hk2.tape,by rw[hW3];exact hk2.output,by rw[hW3];simpa [World.setCell]using hk2.size,fun g hg=>(KF g (by omega)).trans (hk2.block g hg)⟩;rw[<-eB']at kB3;rw[<-eK']at kK3;clear hd hq1 hq2 hq3 hcT hfm eB vz Vw eK eB' eK' kK2 Oi kl2 Um Ph Pg kB2 k2 hk2 hM2 Vv HB0 xU bk2 KF kr Vu klr jJ hkr hTr;go_wp2_with fail
     go_region
     all_goals
      rw[<-hW2];clear hW2;go_wp2_with fail
      go_region
     all_goals
      rw[<-hW3];clear hW3;go_wp2_with fail;go_roundg (toks.length - (m+1))
      case measure=>omega
      case rel=>exact⟨m+1,_,by omega,by go_num,k3,kB3,kK3,kl3,hk3,HE2⟩
    ·have:m=toks.length:=by omega
     subst this;have hd:=HE.out;rw[g8]at hd;have HD2:Hid (∀t,Lx.bk t 0 ji (0,0)=Lx.bk t (j+1) (ji.drop (j+1)) (B t)):=hd;clear hd HE;go_wp2_with fail;go_roundg (ji.length - (j+1))
     case measure=>omega
     case rel=>exact⟨j+1,B,by omega,by first | rfl | (rw[HJ.out];done) | (rw[HJ.out];go_num),kr,vz,Vu,hkr,HD2⟩
  ·have:j=ji.length:=by omega
   subst this;have hd:=HD.out;rw[g8]at hd;have HD2:Hid (∀t,Lx.bk t 0 ji (0,0)=B t):=hd;clear hd HD;go_wp2_with fail
   go_end0
   rw[hCS]at kz;refine⟨rfl,⟨_,_,kz,?_,?_,?_⟩,hkz⟩
   ·rw[show (T.map fun t=>(Lx.bk t 0 ji (0,0)).1)=T.map fun t=>(B t).1 from lz fun t _=>by rw[HD2.out t]]
    have:=ZT Pb (zL0) (by simpa using O9);simpa using this
   ·rw[show (T.map fun t=>(Lx.bk t 0 ji (0,0)).2)=T.map fun t=>(B t).2 from lz fun t _=>by rw[HD2.out t]]
    have:=ZT (B:=w.heap.size) KE (by omega) (by simpa using O9);simpa using this
   ·intro g hg e
    have h1:w.heap.size=g:=by simpa [Value.ownBlock]using hg
    have h2:w.heap.size+1=g:=by simpa [Value.ownBlock]using e
    omega
end Go.Proofs.YtagkodkijkpemaaGreatDoor

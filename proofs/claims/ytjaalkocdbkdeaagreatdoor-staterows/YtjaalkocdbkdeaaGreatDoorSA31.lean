import Derived.Test.YtjaalkocdbkdeaaGreatDoorSA30
set_option maxHeartbeats 8000000
set_option maxRecDepth 1000000
namespace Go.Proofs.YtjaalkocdbkdeaaGreatDoor
open Lx Go.Proofs.Tryz
open Go.RowKit
open Tr
theorem Tryz.aiM:(prog.info? 101).map (fun i=>(i.zero,i.size,i.bytes))=some (some (.agg #[.int .i64 0,.int .i64 0,.int .i64 0]),3,24):=by kernel_rfl
theorem Tryz.adX:prog.underlying 98=some (.slice 101):=by kernel_rfl
namespace Lx
theorem aiN{P:List Pd}{C:List av}{j n:Nat}(hj:j<C.length)(h:bE P C[j]=some n):kH P (C.take (j+1))=kH P (C.take j)++[(n,(C[j].1,C[j].2+1))]:=by
 rw[List.take_succ_eq_append_getElem hj];unfold kH;rw[List.filterMap_append];simp[h]
theorem aja{P:List Pd}{C:List av}{j:Nat}(hj:j<C.length)(h:bE P C[j]=none):kH P (C.take (j+1))=kH P (C.take j):=by
 rw[List.take_succ_eq_append_getElem hj];unfold kH;rw[List.filterMap_append];simp[h]
theorem Yv(P:List Pd)(C:List av):(kH P C).length<=C.length:=List.length_filterMap_le _ _
theorem KN(P:List Pd)(K:List av):l9 P K (gM P K):=by
 have:∀{l r:List av}{i:Nat},mZ P l i r->l9 P K l->l9 P K r:=by
  intro l r i hd
  induction hd with
  |done _=>exact id
  |step _ _ ih=>exact fun hz=>ih (hz.add _)
 exact this (KP P K) (l9.refl P K)
theorem agM{P:List Pd}{K:List av}(hK:K.Nodup):(gM P K).Nodup:=by
 obtain⟨Z,hz,hn,hd⟩:=KN P K;rw[hz,List.nodup_append];exact⟨hK,hn,fun a ha b hb e=>(hd b hb).2.2 (e▸ha)⟩
theorem agN{P:List Pd}{C:List av}(h:C.Nodup):(kH P C).Nodup:=by
 unfold kH;rw[List.Nodup,List.pairwise_filterMap];refine h.imp fun{a b}hab x hx y hy e=>hab ?_
 obtain⟨n,-,rfl⟩:=Option.map_eq_some_iff.1 hx;obtain⟨m,-,rfl⟩:=Option.map_eq_some_iff.1 hy;simp only[Prod.mk.injEq]at e;exact Prod.ext e.2.1 (by omega)
theorem afF{K:List av}(h:K.Pairwise dP):K.Nodup:=h.imp fun{a b}hab e=>by subst e;unfold dP at hab;omega
end Lx
def ajw(w:World)(P:List Lx.Pd)(K:List av)(e:Ending)(w':World):Prop:=∃v M,e=.returned v/\aJ 101 3 gI w.heap.size w' v M/\Below w.heap.size w w'/\M.Perm (kH P (gM P K))/\M.Pairwise oF
theorem afG{D:Nat->Prop}{w:World}{f:Nat}{ta na:Option Addr}{nT tc nN nc i st:Nat}{vP vB vQ vm vk ve vK:Value}{P:List Lx.Pd}{K:List av}{B0:Nat}(kF:aj w f #[.slice ta nT tc,.slice na nN nc,vP,vB,vQ,vm,vk,ve] 64)(hP:PP D w vP P)(hp:mR P (nT+nN) st)(hK:aJ 36 2 dI B0 w vK K)(hko:qw P i K)(hkm:K.length<=100000)(hkr:K.Pairwise dP):Calls prog 29 #[.pointer (some ⟨f,0,none⟩),vK] w (ajw w P K):=by
 have q1:=aem kF hP hp hK hko hkm;obtain⟨pa,pc,rfl,-⟩:∃a c,vP=.slice a P.length c/\P.length<=maxLen:=by obtain⟨ps,h1,h2,-⟩:=hP;exact aF h2
 obtain⟨i1,hi1,hz0,hz1,hz2⟩:=info_parts Tryz.aiM;have hfl:=kF.lt;have hnd:=agN (P:=P) (agM (P:=P) (afF hkr));have hcl:=(KN P K).len;have hpl:=hp.len;have hsp:∀s∈gM P K,s.1<P.length/\s.2<=(qD P s.1).length:=by
  intro s hs;obtain⟨Z,hz,-,hd⟩:=KN P K;rw[hz]at hs;rcases List.mem_append.1 hs with hs|hs
  ·exact⟨(hko.wK s hs).1,(hko.wK s hs).2.1⟩
  ·exact⟨(hd s hs).2.1,by rw[(hd s hs).1];exact Nat.zero_le _⟩
 have HR:Hid (∀k,(qD P k).length<=2002):=Pj hp;generalize hC:gM P K=C at *;have HC:Hid (gM P K=C):=hC;have HP:Hid (∀s∈C,s.1<P.length/\s.2<=(qD P s.1).length):=hsp;have HND:Hid ((kH P C).Nodup):=hnd;clear hC hsp hnd hK hko hkr hp;go_enter func29,ntmps29;go_upto_region 3 with (go_at_call 64;refine q1.mono ?_;rintro e w1⟨v1,rfl,hL1,hb1⟩;obtain⟨ca,cc,hcv,-⟩:=aF hL1;subst hcv)
 clear q1;have hs1:=hb1.size
 go_loopg [5,13] C.length (fun m v iv wr=>∃j:Nat,j+m=C.length/\iv=.int .i64 (j:Int)/\aJ 101 3 gI w.heap.size wr v (kH P (C.take j))/\aJ 36 2 dI w.heap.size wr (.slice ca C.length cc) C/\Below w.heap.size w wr)
 case atStart=>exact⟨0,by omega,rfl,World.ownsRow_nil _ _ _ _,hL1,hb1⟩
 case round=>
  clear hL1 hb1 hs1;revert wr;intro wz hrel;obtain⟨j,hkj,rfl,hM,hL,hbz⟩:=hrel;have hml:=Yv P (C.take j);rw[List.length_take]at hml;have hsz:=hbz.size
  by_cases hlt:j<C.length
  ·obtain⟨gL,QK,hv,-,lgL,hcs⟩:=aJ.at qi hL hlt
   cases hv;have c0:=hcs 0 _ (by decide) rfl;have c1:=hcs 1 _ (by decide) rfl;have hsp:=HP.out C[j] (List.getElem_mem hlt);have HY:Hid (∀n,bE P C[j]=some n->kH P (C.take (j+1))=kH P (C.take j)++[(n,(C[j].1,C[j].2+1))]):=fun n h=>aiN hlt h
   have HN:Hid (bE P C[j]=none->kH P (C.take (j+1))=kH P (C.take j)):=aja hlt;have hbe:bE P C[j]=(qD P C[j].1)[C[j].2]?:=rfl;clear hcs;generalize C[j]=sp at c0 c1 hsp HY HN hbe;obtain⟨sk,sd⟩:=sp;simp only[Nat.add_zero]at c0 c1 hsp hbe;have hk1:sk<P.length:=hsp.1;have hd1:sd<=P[sk].right.length:=by have:=hsp.2;rw[Ep hk1]at this;exact this
   have hd2:P[sk].right.length<=2002:=by have:=HR.out sk;rw[Ep hk1]at this;exact this
   rw[Ep hk1]at hbe;clear hsp;generalize hX:kH P (C.take j)=X at hM hml HY HN;clear hX;obtain⟨ma,mc,rfl,-⟩:∃a c,_=Value.slice a X.length c/\X.length<=maxLen:=aF hM;obtain⟨W1,hW1⟩:∃V,V=wz.alloc (.cells #[.int .i64 (sk:Int),.int .i64 (sd:Int)] 36):=⟨_,rfl⟩;have hb1:Below wz.heap.size wz W1:=by rw[hW1];exact(Below.refl _ _).alloc (zL0) _
   have Fu:aj W1 wz.heap.size #[.int .i64 (sk:Int),.int .i64 (sd:Int)] 36:=by rw[hW1];exact aj.new wz _ 36
   have fM:Below w.heap.size w W1:=hbz.trans (hb1.mono hsz);have s0:W1.cell? ⟨wz.heap.size,0,none⟩=some (.int .i64 (sk:Int)):=Fu.cell 0;have s1:W1.cell? ⟨wz.heap.size,1,none⟩=some (.int .i64 (sd:Int)):=Fu.cell 1;obtain⟨gP,Ao,u,hvp,hu,-,x1,-⟩:=(hP.below fM).at hk1;cases hvp;obtain⟨ua,uc,rfl,-⟩:∃a c,u=Value.slice a P[sk].right.length c/\P[sk].right.length<=maxLen:=aF hu;generalize P[sk].right=r at hu x1 hd1 hd2 hbe;have Jf:aj W1 f _ 64:=(fM.block _ hfl).trans kF;have d2:W1.cell? ⟨f,2,none⟩=some (.slice (some ⟨gP,0,none⟩) P.length pc):=Jf.cell 2;have i2:(0:Int)<=(j:Int):=by omega
   have i3:(j:Int)<(C.length:Int):=by omega
   have i4:(0:Int)<=(sk:Int):=by omega
   have i5:(sk:Int)<(P.length:Int):=by omega
   have hM1:aJ 101 3 gI w.heap.size W1 (.slice ma X.length mc) X:=hM.below hb1;have hL1:aJ 36 2 dI w.heap.size W1 (.slice (some ⟨gL,0,none⟩) C.length cc) C:=hL.below hb1;go_upto_region 5 with fail
   rw[<-hW1];clear hW1 c0 c1 hM hL Jf
   go_quiet (fail)
   obtain⟨wy,mq⟩:∃V,V=W1.drewN nq:=⟨_,rfl⟩;have e0:wy.cell? ⟨wz.heap.size,0,none⟩=some (.int .i64 (sk:Int)):=by rw[mq];exact s0
   have e1:wy.cell? ⟨wz.heap.size,1,none⟩=some (.int .i64 (sd:Int)):=by rw[mq];exact s1
   have hby:Below w.heap.size w wy:=by rw[mq];exact fM.trans ⟨rfl,rfl,rfl,zL0,fun _ _=>rfl⟩
   have nY:aJ 101 3 gI w.heap.size wy (.slice ma X.length mc) X:=by rw[mq];exact hM1
   have Dy:aJ 36 2 dI w.heap.size wy (.slice (some ⟨gL,0,none⟩) C.length cc) C:=by rw[mq];exact hL1
   have Bg:IR 0 wy (.slice ua r.length uc) r:=by rw[mq];exact hu
   rw[<-mq];clear mq s0 s1 hM1 hL1 hu x1 d2 Fu;have hsy:=hby.size
   by_cases hd:sd<r.length
   ·obtain⟨gU,ZJ,hvu,-,cU⟩:=Bg.at hd
    cases hvu;have HE:Hid (kH P (C.take (j+1))=X++[(r[sd],(sk,sd+1))]):=HY.out r[sd] (by rw[hbe,List.getElem?_eq_getElem hd]);generalize r[sd]=n at cU HE;have i6:(sd:Int)<(r.length:Int):=by omega
    have i7:(0:Int)<=(sd:Int):=by omega
    have hwr:IntKind.i64.wrap ((sd:Int)+1)=(sd:Int)+1:=by rw[IntKind.wrap_i64];omega
    have Na:aJ 101 3 gI w.heap.size (wy.alloc (.cells #[.int .i64 (n:Int),.int .i64 (sk:Int),.int .i64 ((sd:Int)+1)] 101)).drew (.slice ma X.length mc) X:=aJ.below nY (((Below.refl _ _).alloc (zL0) _).drew);clear HY HN Bg hbe;go_upto_region 7 with fail
    go_region_law (go_loud (refine step_append_lies _ rfl (.tmp 32) (.tmp 45) 98 rfl w.heap.size 101 i1 _ 3 24 Tryz.adX hi1 hz0 hz1 hz2 rfl (by decide) (.slice ma X.length mc) X.length (X.flatMap gI) (by simp[Act.eval]) Na ⟨wy.heap.size,0,none⟩ 1 1 [.int .i64 (n:Int),.int .i64 (sk:Int),.int .i64 ((sd:Int)+1)] (by simp[Act.eval]) rfl (bC (aj.new wy _ 101).drew) (by simp[Value.oneCell']) (by decide) (by unfold maxLen;omega) (by omega) (by simp;omega) _ rfl ?_;intro g5 cap5 w5 hown5 aU j6 Ew))
    all_goals
     have Na:aJ 101 3 gI w.heap.size (wy.alloc (.cells #[.int .i64 (n:Int),.int .i64 (sk:Int),.int .i64 ((sd:Int)+1)] 101)).drew (.slice ma X.length mc) X:=aJ.below nY (((Below.refl _ _).alloc (zL0) _).drew);have hL5:aJ 36 2 dI w.heap.size w5 (.slice (some ⟨gL,0,none⟩) C.length cc) C:=BH (aJ.below Dy (((Below.refl _ _).alloc (zL0) (.cells #[.int .i64 (n:Int),.int .i64 (sk:Int),.int .i64 ((sd:Int)+1)] 101)).drew)) Na (by decide) aU;have hb5:Below w.heap.size w w5:=hby.trans ((((Below.refl _ wy).alloc hsy _).drew).trans ⟨aU.os,aU.tape,aU.output,aU.size,fun b hb=>aU.block b (by simp;omega) (fun e=>absurd (World.ownsRow.lt Na b e.symm).1 (by omega))⟩);have fE:aJ 101 3 gI w.heap.size w5 (.slice (some ⟨g5,0,none⟩) (X.length+1) cap5) (X++[(n,(sk,sd+1))]):=by
      have e:(X++[(n,(sk,sd+1))]).flatMap gI=X.flatMap gI++[.int .i64 (n:Int),.int .i64 (sk:Int),.int .i64 ((sd:Int)+1)]:=by simp[gI]
      unfold aJ;rw[e,List.length_append];exact hown5
     go_wp2_with fail;go_roundg (C.length - (j+1))
     case measure=>omega
     case rel=>exact⟨j+1,by omega,by go_num,by rw[HE.out];exact fE,hL5,hb5⟩
   ·have HE:Hid (kH P (C.take (j+1))=X):=HN.out (by rw[hbe,List.getElem?_eq_none (by omega)])
    have i6:¬(sd:Int)<(r.length:Int):=by omega
    clear HY HN Bg hbe;go_wp2_with fail;go_roundg (C.length - (j+1))
    case measure=>omega
    case rel=>exact⟨j+1,by omega,by go_num,by rw[HE.out];exact nY,Dy,hby⟩
  ·obtain rfl:j=C.length:=by omega
   rw[List.take_length]at hM hml;have q9:=ahY hM (by omega) HND.out;have i3:¬(C.length:Int)<(C.length:Int):=by omega
   clear hM
   go_wp2_with (go_at_call 65;refine q9.mono ?_;rintro e w9⟨rfl,M',hperm,hpw,Jg,zh⟩)
   go_ret;exact⟨_,M',rfl,Jg,hbz.trans zh,by rw[HC.out];exact hperm,hpw⟩
end Go.Proofs.YtjaalkocdbkdeaaGreatDoor

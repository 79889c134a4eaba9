import Derived.Test.YtlcppnabbicmoaaGreatDoorME28
set_option maxHeartbeats 8000000
set_option maxRecDepth 1000000
namespace Go.Proofs.YtlcppnabbicmoaaGreatDoor
section
open Go.RowKit
open Tr
theorem hasHelper_item {w:World}{n m:Nat}{it:Lx.It}(h:ItemAt w n m it):Calls Tryz.prog 101 #[.pointer (some ⟨n,m*4,none⟩)] w fun e w'=>e=.returned (.bool (Lx.hlp it))/\w'=w:=by
 have h0:=h.kind;have h2:=h.mark;go_enter Tryz.func101,Tryz.ntmps101
 by_cases hk:it.kind=2
 ·have hkb:((it.kind:Int) == 2)=true:=by simp[hk]
  have hr:Lx.hlp it=true:=by simp[Lx.hlp,hk]
  rw[hr];clear hk hr;go_wp2_with fail;go_ret;exact⟨rfl,rfl⟩
 ·have hkb:((it.kind:Int) == 2)=false:=beq_eq_false_iff_ne.2 (by omega)
  by_cases hm:it.mark=0
  ·have hmb:((it.mark:Int) != 0)=false:=by simp[hm]
   have hr:Lx.hlp it=false:=by simp[Lx.hlp,hk,hm]
   rw[hr];clear hk hr hm;go_wp2_with fail;go_ret;exact⟨rfl,rfl⟩
  ·have hmb:((it.mark:Int) != 0)=true:=bne_iff_ne.2 (by omega)
   have hr:Lx.hlp it=true:=by simp[Lx.hlp,hk,hm]
   rw[hr];clear hk hr hm;go_wp2_with fail;go_ret;exact⟨rfl,rfl⟩
end
section
open Go.RowKit
open Tr
theorem Tryz.info78:(Tryz.prog.info? 78).map (fun i=>(i.zero,i.size,i.bytes))=some (some (.agg #[.int .i64 0,.slice none 0 0,.int .i64 0]),3,40):=by kernel_rfl
theorem Tryz.underlying30:Tryz.prog.underlying 30=some (.slice 78):=by kernel_rfl
def pdC (q:Value × Lx.Pd):List Value:=[.int .i64 (q.2.left:Int),q.1,.int .i64 q.2.prec]
theorem pdC_len:∀ ps:List (Value × Lx.Pd),(ps.flatMap pdC).length=ps.length*3
 | []=>rfl
 | p::ps=>by rw[List.flatMap_cons,List.length_append,pdC_len ps,List.length_cons,Nat.succ_mul];show 3+_=_;omega
def PR (D:Nat->Prop)(w:World)(v:Value)(P:List Lx.Pd):Prop:=∃ ps:List (Value × Lx.Pd),ps.map Prod.snd=P/\w.ownsRow 0 78 3 v P.length (ps.flatMap pdC)/\∀ q,q∈ps->IR 0 w q.1 q.2.right/\∀ g,q.1.ownBlock=some g->D g
structure Mk2 (D F:Nat->Prop) (w:World) (mb:Nat) (T N:List ByteArray) (b:Nat) (H:List Lx.It) (P:List Lx.Pd):Prop where
 ex:∃ vT vN vP vH vL,Blk w mb #[vT,vN,vP,.slice none 0 0,.slice none 0 0,vH,vL] 135/\w.ownsRow 0 9 1 vT T.length (T.map Value.string)/\w.ownsRow 0 9 1 vN N.length (N.map Value.string)/\HR 0 F w vH H/\IR 0 w vL (Lx.lsOf b H.length)/\PR (fun g=>D g/\mb<g) w vP P/\(∀ g,vT.ownBlock=some g->D g)/\(∀ g,vN.ownBlock=some g->D g)/\(∀ g,vH.ownBlock=some g->D g)/\(∀ g,vL.ownBlock=some g->D g)/\(∀ g,vP.ownBlock=some g->¬ D g/\g≠mb)
 nm:¬ D mb
 fd:∀ g,F g->D g
 lt:∀ g,D g->g<w.heap.size
 tn:T.length+N.length<=100000
 bn:b+H.length<=200000
 ris:(H.map Lx.It.place).Pairwise (·< ·)
theorem Mk2.rd {D F:Nat->Prop}{w:World}{mb:Nat}{T N:List ByteArray}{b:Nat}{H:List Lx.It}{P:List Lx.Pd}(h:Mk2 D F w mb T N b H P):Rd2 F w mb T N b H:=by
 obtain⟨vT,vN,vP,vH,vL,h1,h2,h3,h4,h5,-⟩:=h.ex;exact⟨⟨vT,vN,vP,_,_,vH,vL,h1,h2,h3,h4,h5⟩,fun g hg=>h.lt g (h.fd g hg),h.tn,h.bn,h.ris⟩
structure Kp (D:Nat->Prop) (w w':World):Prop where
 os:w'.os=w.os
 tape:w'.tape=w.tape
 output:w'.output=w.output
 size:w.heap.size<=w'.heap.size
 block:∀ g,D g->w'.heap[g]?=w.heap[g]?
theorem Kp.refl (D:Nat->Prop)(w:World):Kp D w w:=⟨rfl,rfl,rfl,Nat.le_refl _,fun _ _=>rfl⟩
theorem Kp.trans {D D':Nat->Prop}{w w' w'':World}(h:Kp D w w')(k:Kp D' w' w'')(hD:∀ g,D g->D' g):Kp D w w'':=⟨k.os.trans h.os,k.tape.trans h.tape,k.output.trans h.output,Nat.le_trans h.size k.size,fun g hg=>(k.block g (hD g hg)).trans (h.block g hg)⟩
theorem Kp.below {D:Nat->Prop}{w w':World}(h:Below w.heap.size w w')(hD:∀ g,D g->g<w.heap.size):Kp D w w':=⟨h.os,h.tape,h.output,h.size,fun g hg=>h.block g (hD g hg)⟩
def More (D:Nat->Prop)(w w':World):Nat->Prop:=fun g=>D g∨(w.heap.size<=g/\g<w'.heap.size)
theorem PR.move {D D':Nat->Prop}{w w':World}{v:Value}{P:List Lx.Pd}(h:PR D w v P)(hD:∀ g,D g->D' g)(hk:∀ g,D g->w'.heap[g]?=w.heap[g]?)(hv:∀ g,v.ownBlock=some g->w'.heap[g]?=w.heap[g]?):PR D' w' v P:=by
 obtain⟨ps,h1,h2,h3⟩:=h;exact⟨ps,h1,own_move h2 hv,fun q hq=>⟨own_move (h3 q hq).1 fun g hg=>hk g ((h3 q hq).2 g hg),fun g hg=>hD g ((h3 q hq).2 g hg)⟩⟩
theorem PR.blk {D:Nat->Prop}{w:World}{v:Value}{P:List Lx.Pd}(h:PR D w v P):∀ g,v.ownBlock=some g->g<w.heap.size:=by
 obtain⟨ps,h1,h2,h3⟩:=h;exact fun g hg=>(h2.lt g hg).2
theorem Mk2.more {D F:Nat->Prop}{w w':World}{mb:Nat}{T N:List ByteArray}{b:Nat}{H:List Lx.It}{P:List Lx.Pd}(h:Mk2 D F w mb T N b H P)(hb:Below w.heap.size w w'):Mk2 (More D w w') F w' mb T N b H P:=by
 obtain⟨⟨vT,vN,vP,vH,vL,h1,h2,h3,h4,h5,h6,k1,k2,k3,k4,k5⟩,e1,e2,e3,e4,e5,e6⟩:=h;have lmb:=h1.lt;refine⟨⟨vT,vN,vP,vH,vL,(hb.block _ lmb).trans h1,own_move h2 fun g hg=>hb.block g (h2.lt g hg).2,own_move h3 fun g hg=>hb.block g (h3.lt g hg).2,h4.move (fun g hg=>hb.block g (e3 g (e2 g hg))) (fun g hg=>hb.block g (h4.blk g hg)),own_move h5 fun g hg=>hb.block g (h5.lt g hg).2,h6.move (fun g hg=>⟨.inl hg.1,hg.2⟩) (fun g hg=>hb.block g (e3 g hg.1)) (fun g hg=>hb.block g (h6.blk g hg)),fun g hg=>.inl (k1 g hg),fun g hg=>.inl (k2 g hg),fun g hg=>.inl (k3 g hg),fun g hg=>.inl (k4 g hg),fun g hg=>⟨?_,(k5 g hg).2⟩⟩,?_,fun g hg=>.inl (e2 g hg),?_,e4,e5,e6⟩
 ·rintro (h' | h')
  ·exact (k5 g hg).1 h'
  ·have:=h6.blk g hg;omega
 ·rintro (h' | h')
  ·exact e1 h'
  ·omega
 ·rintro g (h' | h')
  ·exact Nat.lt_of_lt_of_le (e3 g h') hb.size
  ·exact h'.2
namespace Lx
def precP (T:List ByteArray)(prec:ByteArray)(r:List Nat):Int:=if prec=noText then precOf T.length r else (fix T prec:Int)
theorem precOf_snoc (n:Nat)(r:List Nat)(s:Nat):precOf n (r++[s])=if s<n then (s:Int) else precOf n r:=by unfold precOf;rw[List.foldl_append];rfl
theorem precOf_take {n:Nat}{r:List Nat}{m:Nat}(h:m<r.length):precOf n (r.take (m+1))=if r[m]<n then (r[m]:Int) else precOf n (r.take m):=by rw[List.take_succ_eq_append_getElem h,precOf_snoc]
end Lx
theorem put_any {D F:Nat->Prop} {w:World} {mb:Nat} {T N:List ByteArray} {b:Nat} {H:List Lx.It} {P:List Lx.Pd} (h:Mk2 D F w mb T N b H P) (left:Nat) (vR:Value) (r:List Nat) (hr:IR 0 w vR r) (hrD:∀ g,vR.ownBlock=some g->D g/\mb<g) (prec:ByteArray) (hp:prec≠Lx.noText->0<=Lx.fnd T prec) (hP:P.length<=1000000000000) :
  Calls Tryz.prog 67 #[.pointer (some ⟨mb,0,none⟩),.int .i64 (left:Int),vR,.string prec] w fun e w'=>e=.returned (.tuple #[])/\Mk2 D F w' mb T N b H (P++[⟨left,r,Lx.precP T prec r⟩])/\Kp D w w':=by
 obtain⟨i0,hii,hz0,hz1,hz2⟩:=info_parts Tryz.info78;obtain⟨⟨vT,vN,vP,vH,vL,h1,h2,h3,h4,h5,h6,k1,k2,k3,k4,k5⟩,e1,e2,e3,e4,e5,e6⟩:=h;obtain⟨ra,rc,hvR,hrm⟩:=own_len hr;subst hvR;obtain⟨ta,tc,hvT,-⟩:=own_len h2;subst hvT;unfold maxLen at hrm;have lmb:=h1.lt;go_enter Tryz.func67,Tryz.ntmps67;go_wp2_with fail;obtain⟨W,hW⟩:∃ W,W=w.alloc (.cells #[.int .i64 (left:Int),.slice ra r.length rc,.int .i64 (-1)] 78):=⟨_,rfl⟩;rw[<-hW];have hB:Below w.heap.size w W:=by rw[hW];exact (Below.refl _ _).alloc (Nat.le_refl _) _
 have hWs:W.heap.size=w.heap.size+1:=by rw[hW];simp
 have kp:Blk W w.heap.size #[.int .i64 (left:Int),.slice ra r.length rc,.int .i64 (-1)] 78:=by rw[hW];exact Blk.new w _ 78
 clear hW
 go_loopg [9] r.length (fun k i wr=>∃ (m:Nat) (pv:Int),m+k=r.length/\i=.int .i64 m/\Blk wr w.heap.size #[.int .i64 (left:Int),.slice ra r.length rc,.int .i64 pv] 78/\Below w.heap.size w wr/\Hid (pv=Lx.precOf T.length (r.take m)))
 case atStart=>exact⟨0,-1,by omega,rfl,kp,hB,rfl⟩
 case round =>
  clear kp hB;obtain⟨m,pv,hkm,rfl,kp,hbr,HPV⟩:=hrel;have hsr:w.heap.size<wr.heap.size:=kp.lt;have kmr:Blk wr mb _ 135:=(hbr.block _ lmb).trans h1;have m0:wr.cell? ⟨mb,0,none⟩=some (.slice ta T.length tc):=kmr.cell 0;have m2:wr.cell? ⟨mb,2,none⟩=some vP:=kmr.cell 2;have p0:wr.cell? ⟨w.heap.size,0,none⟩=some (.int .i64 (left:Int)):=kp.cell 0;have p1:wr.cell? ⟨w.heap.size,1,none⟩=some (.slice ra r.length rc):=kp.cell 1;have p2:wr.cell? ⟨w.heap.size,2,none⟩=some (.int .i64 pv):=kp.cell 2;have fp:∀ j,wr.frozen? ⟨w.heap.size,j,none⟩=false:=kp.frozen
  by_cases hlt:m<r.length
  ·have hrr:IR 0 wr (.slice ra r.length rc) r:=own_move hr fun g hg=>hbr.block g (hr.lt g hg).2
   obtain⟨gR,cR,hv,lR,hcR⟩:=hrr.at hlt;cases hv;have htk:=Lx.precOf_take (n:=T.length) hlt;rw[<-HPV.out]at htk;generalize r[m]=s at hcR htk
   by_cases hst:s<T.length
   ·have HP2:Hid ((s:Int)=Lx.precOf T.length (r.take (m+1))):=by rw[if_pos hst]at htk;exact htk.symm
    clear htk;go_wp2_with fail
    go_quiet (fail)
    have hb6:Below w.heap.size w (wr.drewN nq):=hbr.trans ⟨rfl,rfl,rfl,Nat.le_refl _,fun _ _=>rfl⟩;have kp6:Blk (wr.drewN nq) w.heap.size _ 78:=kp.drewN nq;have kp7:=kp6.set 2 (.int .i64 (s:Int));simp at kp7;go_wp2_with fail;go_roundg (r.length - (m+1))
    case measure=>omega
    case rel=>exact⟨m+1,_,by omega,by go_num,kp7,hb6.setCell (p:=⟨w.heap.size,2,none⟩) (Nat.le_refl _) _,HP2⟩
   ·have HP2:Hid (pv=Lx.precOf T.length (r.take (m+1))):=by rw[if_neg hst]at htk;exact htk.symm
    clear htk;go_wp2_with fail
    go_quiet (fail)
    have hb6:Below w.heap.size w (wr.drewN nq):=hbr.trans ⟨rfl,rfl,rfl,Nat.le_refl _,fun _ _=>rfl⟩;have kp6:Blk (wr.drewN nq) w.heap.size _ 78:=kp.drewN nq;go_wp2_with fail;go_roundg (r.length - (m+1))
    case measure=>omega
    case rel=>exact⟨m+1,pv,by omega,by go_num,kp6,hb6,HP2⟩
  ·have:m=r.length:=by omega
   subst this;have HP2:Hid (pv=Lx.precOf T.length r):=by have:=HPV.out;rw[List.take_length]at this;exact this
   clear HPV
   by_cases hpn:prec=Lx.noText
   ·have hpb:(prec.toList == [])=true:=by rw[hpn,ByteArray.toList_eq];rfl
    have HPF:Hid (Lx.precP T prec r=pv):=(if_pos hpn).trans HP2.out.symm;clear hpn hp;obtain⟨w3,hw3⟩:∃ w3,w3=wr:=⟨_,rfl⟩;have hb3:Below w.heap.size w w3:=hw3 ▸ hbr;obtain⟨pv3,hpv3⟩:∃ pv3,pv3=pv:=⟨_,rfl⟩;have kp3:Blk w3 w.heap.size #[.int .i64 (left:Int),.slice ra r.length rc,.int .i64 pv3] 78:=hw3 ▸ hpv3 ▸ kp;rw[<-hpv3]at HPF;go_wp2_with fail;rw[<-hw3];clear hw3 hpv3 p0 p1 p2 fp kp hbr kmr m0 m2 HP2;obtain⟨ps,hp1,hp2,hp3⟩:=h6;obtain⟨pa,pc,hvP,hPm⟩:=own_len hp2;subst hvP;unfold maxLen at hPm;have hs3:=hb3.size;have km3:Blk w3 mb _ 135:=(hb3.block _ lmb).trans h1;have m32:w3.cell? ⟨mb,2,none⟩=some (.slice pa P.length pc):=km3.cell 2;have p30:w3.cell? ⟨w.heap.size,0,none⟩=some (.int .i64 (left:Int)):=kp3.cell 0;have p31:w3.cell? ⟨w.heap.size,1,none⟩=some (.slice ra r.length rc):=kp3.cell 1;have p32:w3.cell? ⟨w.heap.size,2,none⟩=some (.int .i64 pv3):=kp3.cell 2;have lm3:mb<w3.heap.size:=by omega
    have lp3:w.heap.size<w3.heap.size:=kp3.lt;have hp23:w3.ownsRow 0 78 3 (.slice pa P.length pc) P.length (ps.flatMap pdC):=own_move hp2 fun g hg=>hb3.block g (hp2.lt g hg).2
    have oPD:=own_move (w':=(w3.alloc (.cells #[.int .i64 (left:Int),.slice ra r.length rc,.int .i64 pv3] 78)).drew) (hp23.alloc (.cells #[.int .i64 (left:Int),.slice ra r.length rc,.int .i64 pv3] 78)) fun _ _=>rfl
    have hvm:(Value.slice pa P.length pc).ownBlock≠some mb:=fun e=>(k5 mb e).2 rfl
    have km4:Blk (w3.alloc (.cells #[.int .i64 (left:Int),.slice ra r.length rc,.int .i64 pv3] 78)).drew mb _ 135:=(km3.alloc _).drew;go_wp2_with fail
    go_region_law (refine step_append_lies _ rfl (.tmp 46) (.tmp 48) 30 rfl 0 78 i0 _ 3 40 Tryz.underlying30 hii hz0 hz1 hz2 rfl (by decide) (.slice pa P.length pc) P.length (ps.flatMap pdC) (by simp[Act.eval]) oPD ⟨w3.heap.size,0,none⟩ 1 1 [.int .i64 (left:Int),.slice ra r.length rc,.int .i64 pv3] (by simp[Act.eval]) rfl (news_of (Blk.new w3 _ 78).drew) (by simp[Value.oneCell']) (by decide) (by unfold maxLen;omega) (by omega) (by simp) _ rfl ?_;intro g2 cap2 w5 hown5 hgrow5 hat5 hlt5;have km5:=km4.grown hgrow5 (fun e=>hvm e.symm);have c52:w5.cell? ⟨mb,2,none⟩=some (.slice pa P.length pc):=km5.cell 2;have f52:∀ i,w5.frozen? ⟨mb,i,none⟩=false:=km5.frozen)
    all_goals
     have bk:∀ g,g<w.heap.size->g≠mb->(Value.slice pa P.length pc).ownBlock≠some g->(w5.setCell ⟨mb,2,none⟩ (.slice (some ⟨g2,0,none⟩) (P.length+1) cap2)).heap[g]?=w.heap[g]?:=by
      intro g hg hm hv;have hg3:g<w3.heap.size:=by omega
      rw[Below.heap_setCell _ _ _ _ hm,hgrow5.block g (by simp;omega) (fun e=>hv e.symm)];exact (Below.heap_alloc _ _ _ hg3).trans (hb3.block g hg)
     have bD:∀ g,D g->(w5.setCell ⟨mb,2,none⟩ (.slice (some ⟨g2,0,none⟩) (P.length+1) cap2)).heap[g]?=w.heap[g]?:=fun g hg=>bk g (e3 g hg) (fun e=>e1 (e ▸ hg)) (fun e=>(k5 g e).1 hg)
     have hs5:w.heap.size<=w5.heap.size:=by have:=hgrow5.size;simp at this;omega
     have hse:(w5.setCell ⟨mb,2,none⟩ (.slice (some ⟨g2,0,none⟩) (P.length+1) cap2)).heap.size=w5.heap.size:=by simp[World.setCell]
     have hg2:¬ D g2/\g2≠mb:=by
      rcases hat5 with h' | h'
      ·exact k5 g2 h'
      ·have:g2=w3.heap.size+1:=by simpa using h'
       exact⟨fun hd=>by have:=e3 g2 hd;omega,by omega⟩
     go_wp2_with fail
     go_end0
     refine⟨rfl,⟨⟨_,vN,.slice (some ⟨g2,0,none⟩) (P.length+1) cap2,vH,vL,km5.set 2 _,own_move h2 fun g hg=>bD g (k1 g hg),own_move h3 fun g hg=>bD g (k2 g hg),h4.move (fun g hg=>bD g (e2 g hg)) (fun g hg=>bD g (k3 g hg)),own_move h5 fun g hg=>bD g (k4 g hg),?_,k1,k2,k3,k4,fun g hg=>?_⟩,e1,e2,fun g hg=>by rw[hse];exact Nat.lt_of_lt_of_le (e3 g hg) hs5,e4,e5,e6⟩,?_⟩
     ·refine⟨ps++[(.slice ra r.length rc,⟨left,r,pv3⟩)],by rw[List.map_append,hp1,HPF.out];rfl,?_,?_⟩
      ·have h9:=own_move (w':=w5.setCell ⟨mb,2,none⟩ (.slice (some ⟨g2,0,none⟩) (P.length+1) cap2)) hown5 (fun g hg=>Below.heap_setCell _ _ _ _ (fun e=>hg2.2 (by have e':g=mb:=e;have e'':g2=g:=(by simpa [Value.ownBlock]using hg);omega)))
       rw[List.length_append,List.flatMap_append];exact h9
      ·intro q hq
       rcases List.mem_append.1 hq with hq | hq
       ·exact⟨own_move (hp3 q hq).1 fun g hg=>bD g ((hp3 q hq).2 g hg).1,(hp3 q hq).2⟩
       ·rw[List.mem_singleton.1 hq]
        exact⟨own_move hr fun g hg=>bD g (hrD g hg).1,hrD⟩
     ·have:g2=g:=by simpa [Value.ownBlock]using hg
      exact this ▸ hg2
     ·refine⟨?_,?_,?_,by rw[hse];exact hs5,bD⟩
      ·exact hgrow5.os.trans hb3.os
      ·exact hgrow5.tape.trans hb3.tape
      ·exact hgrow5.output.trans hb3.output
   ·have hpb:(prec.toList == [])=false:=text_no (l:=[]) hpn
    have HPF0:Hid (Lx.precP T prec r=(Lx.fix T prec:Int)):=if_neg hpn;have hfp:=hp hpn;clear hpn hp;go_wp2_with fail;refine (token_has kmr (own_move h2 fun g hg=>hbr.block g (h2.lt g hg).2) prec hfp).mono ?_;rintro e w2 ⟨rfl,hb2⟩;have kp2:Blk w2 w.heap.size _ 78:=(hb2.block _ hsr).trans kp;have p22:w2.cell? ⟨w.heap.size,2,none⟩=some (.int .i64 pv):=kp2.cell 2;have fp2:∀ j,w2.frozen? ⟨w.heap.size,j,none⟩=false:=kp2.frozen;obtain⟨w3,hw3⟩:∃ w3,w3=w2.setCell ⟨w.heap.size,2,none⟩ (.int .i64 (Lx.fix T prec:Int)):=⟨_,rfl⟩;have hb3:Below w.heap.size w w3:=by rw[hw3];exact (hbr.trans (hb2.mono (Nat.le_of_lt hsr))).setCell (p:=⟨w.heap.size,2,none⟩) (Nat.le_refl _) _
    obtain⟨pv3,hpv3⟩:∃ pv3,pv3=(Lx.fix T prec:Int):=⟨_,rfl⟩;have kp3:Blk w3 w.heap.size #[.int .i64 (left:Int),.slice ra r.length rc,.int .i64 pv3] 78:=by
     rw[hw3,hpv3];have:=kp2.set 2 (.int .i64 (Lx.fix T prec:Int));simpa using this
    have HPF:Hid (Lx.precP T prec r=pv3):=HPF0.out.trans hpv3.symm;go_wp2_with fail;rw[<-hw3];clear hw3 hpv3 p0 p1 p2 fp kp hbr kmr m0 m2 HP2 HPF0 kp2 p22 fp2 hb2;obtain⟨ps,hp1,hp2,hp3⟩:=h6;obtain⟨pa,pc,hvP,hPm⟩:=own_len hp2;subst hvP;unfold maxLen at hPm;have hs3:=hb3.size;have km3:Blk w3 mb _ 135:=(hb3.block _ lmb).trans h1;have m32:w3.cell? ⟨mb,2,none⟩=some (.slice pa P.length pc):=km3.cell 2;have p30:w3.cell? ⟨w.heap.size,0,none⟩=some (.int .i64 (left:Int)):=kp3.cell 0;have p31:w3.cell? ⟨w.heap.size,1,none⟩=some (.slice ra r.length rc):=kp3.cell 1;have p32:w3.cell? ⟨w.heap.size,2,none⟩=some (.int .i64 pv3):=kp3.cell 2;have lm3:mb<w3.heap.size:=by omega
    have lp3:w.heap.size<w3.heap.size:=kp3.lt;have hp23:w3.ownsRow 0 78 3 (.slice pa P.length pc) P.length (ps.flatMap pdC):=own_move hp2 fun g hg=>hb3.block g (hp2.lt g hg).2
    have oPD:=own_move (w':=(w3.alloc (.cells #[.int .i64 (left:Int),.slice ra r.length rc,.int .i64 pv3] 78)).drew) (hp23.alloc (.cells #[.int .i64 (left:Int),.slice ra r.length rc,.int .i64 pv3] 78)) fun _ _=>rfl
    have hvm:(Value.slice pa P.length pc).ownBlock≠some mb:=fun e=>(k5 mb e).2 rfl
    have km4:Blk (w3.alloc (.cells #[.int .i64 (left:Int),.slice ra r.length rc,.int .i64 pv3] 78)).drew mb _ 135:=(km3.alloc _).drew;go_wp2_with fail
    go_region_law (refine step_append_lies _ rfl (.tmp 46) (.tmp 48) 30 rfl 0 78 i0 _ 3 40 Tryz.underlying30 hii hz0 hz1 hz2 rfl (by decide) (.slice pa P.length pc) P.length (ps.flatMap pdC) (by simp[Act.eval]) oPD ⟨w3.heap.size,0,none⟩ 1 1 [.int .i64 (left:Int),.slice ra r.length rc,.int .i64 pv3] (by simp[Act.eval]) rfl (news_of (Blk.new w3 _ 78).drew) (by simp[Value.oneCell']) (by decide) (by unfold maxLen;omega) (by omega) (by simp) _ rfl ?_;intro g2 cap2 w5 hown5 hgrow5 hat5 hlt5;have km5:=km4.grown hgrow5 (fun e=>hvm e.symm);have c52:w5.cell? ⟨mb,2,none⟩=some (.slice pa P.length pc):=km5.cell 2;have f52:∀ i,w5.frozen? ⟨mb,i,none⟩=false:=km5.frozen)
    all_goals
     have bk:∀ g,g<w.heap.size->g≠mb->(Value.slice pa P.length pc).ownBlock≠some g->(w5.setCell ⟨mb,2,none⟩ (.slice (some ⟨g2,0,none⟩) (P.length+1) cap2)).heap[g]?=w.heap[g]?:=by
      intro g hg hm hv;have hg3:g<w3.heap.size:=by omega
      rw[Below.heap_setCell _ _ _ _ hm,hgrow5.block g (by simp;omega) (fun e=>hv e.symm)];exact (Below.heap_alloc _ _ _ hg3).trans (hb3.block g hg)
     have bD:∀ g,D g->(w5.setCell ⟨mb,2,none⟩ (.slice (some ⟨g2,0,none⟩) (P.length+1) cap2)).heap[g]?=w.heap[g]?:=fun g hg=>bk g (e3 g hg) (fun e=>e1 (e ▸ hg)) (fun e=>(k5 g e).1 hg)
     have hs5:w.heap.size<=w5.heap.size:=by have:=hgrow5.size;simp at this;omega
     have hse:(w5.setCell ⟨mb,2,none⟩ (.slice (some ⟨g2,0,none⟩) (P.length+1) cap2)).heap.size=w5.heap.size:=by simp[World.setCell]
     have hg2:¬ D g2/\g2≠mb:=by
      rcases hat5 with h' | h'
      ·exact k5 g2 h'
      ·have:g2=w3.heap.size+1:=by simpa using h'
       exact⟨fun hd=>by have:=e3 g2 hd;omega,by omega⟩
     go_wp2_with fail
     go_end0
     refine⟨rfl,⟨⟨_,vN,.slice (some ⟨g2,0,none⟩) (P.length+1) cap2,vH,vL,km5.set 2 _,own_move h2 fun g hg=>bD g (k1 g hg),own_move h3 fun g hg=>bD g (k2 g hg),h4.move (fun g hg=>bD g (e2 g hg)) (fun g hg=>bD g (k3 g hg)),own_move h5 fun g hg=>bD g (k4 g hg),?_,k1,k2,k3,k4,fun g hg=>?_⟩,e1,e2,fun g hg=>by rw[hse];exact Nat.lt_of_lt_of_le (e3 g hg) hs5,e4,e5,e6⟩,?_⟩
     ·refine⟨ps++[(.slice ra r.length rc,⟨left,r,pv3⟩)],by rw[List.map_append,hp1,HPF.out];rfl,?_,?_⟩
      ·have h9:=own_move (w':=w5.setCell ⟨mb,2,none⟩ (.slice (some ⟨g2,0,none⟩) (P.length+1) cap2)) hown5 (fun g hg=>Below.heap_setCell _ _ _ _ (fun e=>hg2.2 (by have e':g=mb:=e;have e'':g2=g:=(by simpa [Value.ownBlock]using hg);omega)))
       rw[List.length_append,List.flatMap_append];exact h9
      ·intro q hq
       rcases List.mem_append.1 hq with hq | hq
       ·exact⟨own_move (hp3 q hq).1 fun g hg=>bD g ((hp3 q hq).2 g hg).1,(hp3 q hq).2⟩
       ·rw[List.mem_singleton.1 hq]
        exact⟨own_move hr fun g hg=>bD g (hrD g hg).1,hrD⟩
     ·have:g2=g:=by simpa [Value.ownBlock]using hg
      exact this ▸ hg2
     ·refine⟨?_,?_,?_,by rw[hse];exact hs5,bD⟩
      ·exact hgrow5.os.trans hb3.os
      ·exact hgrow5.tape.trans hb3.tape
      ·exact hgrow5.output.trans hb3.output
end
section
open Go.RowKit
open Tr
theorem Tryz.info24:(Tryz.prog.info? 24).map (fun i=>(i.zero,i.size,i.bytes))=some (some (.slice none 0 0),1,24):=by kernel_rfl
theorem Tryz.underlying40:Tryz.prog.underlying 40=some (.slice 24):=by kernel_rfl
def PtBy (B:Nat)(w:World)(v:Value)(ps:List (List Nat))(qs:List (Value × List Nat)):Prop:=qs.map Prod.snd=ps/\w.ownsRow B 24 1 v ps.length (qs.map Prod.fst)/\(∀ q,q∈qs->IR B w q.1 q.2)/\∀ q,q∈qs->∀ g,q.1.ownBlock=some g->v.ownBlock≠some g
def PtR (B:Nat)(w:World)(v:Value)(ps:List (List Nat)):Prop:=∃ qs,PtBy B w v ps qs
theorem PtR.move {B:Nat}{w w':World}{v:Value}{ps:List (List Nat)}(h:PtR B w v ps)(hb:∀ g,B<=g->g<w.heap.size->w'.heap[g]?=w.heap[g]?):PtR B w' v ps:=by
 obtain⟨qs,h1,h2,h3,h4⟩:=h;exact⟨qs,h1,own_move h2 fun g hg=>hb g (h2.lt g hg).1 (h2.lt g hg).2,fun q hq=>own_move (h3 q hq) fun g hg=>hb g ((h3 q hq).lt g hg).1 ((h3 q hq).lt g hg).2,h4⟩
theorem PtR.len {B:Nat}{w:World}{v:Value}{ps:List (List Nat)}(h:PtR B w v ps):∃ a c,v=.slice a ps.length c/\ps.length<=maxLen:=by
 obtain⟨qs,h1,h2,h3,h4⟩:=h;exact own_len h2
theorem PtR.at {B:Nat}{w:World}{v:Value}{ps:List (List Nat)}(h:PtR B w v ps){j:Nat}(hj:j<ps.length):∃ g cap u,v=.slice (some ⟨g,0,none⟩) ps.length cap/\B<=g/\g<w.heap.size/\w.cell? ⟨g,j,none⟩=some u/\IR B w u ps[j]:=by
 obtain⟨qs,h1,h2,h3,h4⟩:=h;obtain⟨g,cap,rfl,-,-⟩:=h2.form (by omega);have hl:qs.length=ps.length:=by rw[<-h1,List.length_map]
 have hq:qs[j]?=some qs[j]:=List.getElem?_eq_getElem (by omega);have h5:(qs[j]).2=ps[j]:=by
  have:(qs.map Prod.snd)[j]?=ps[j]?:=by rw[h1]
  rw[List.getElem?_map,hq,List.getElem?_eq_getElem hj]at this;simpa using this
 refine⟨g,cap,(qs[j]).1,rfl,(h2.lt g rfl).1,(h2.lt g rfl).2,?_,?_⟩
 ·rw[h2.cellAt j (by omega),List.getElem?_map,hq];rfl
 ·rw[<-h5];exact h3 _ (List.getElem_mem _)
theorem parts_any {F:Nat->Prop} {w:World} {mb:Nat} {T N:List ByteArray} {b:Nat} {H:List Lx.It} (h:Rd2 F w mb T N b H) (it:Lx.It) (va:Value) (ha:AltsIn YR 9 F w va it.alts) (hp:it.kind≠2->Lx.Plain1 T N it) (hs:it.kind=2->∀ a,a∈it.alts->a.1.length<=10000/\∀ x,x∈a.1->Lx.SymOk T N H x) (hl:it.alts.length<=10000) :
  Calls Tryz.prog 110 #[.pointer (some ⟨mb,0,none⟩),itV va it] w fun e w'=>∃ u,e=.returned u/\PtR w.heap.size w' u (Lx.partsOf T N b H it)/\Below w.heap.size w w':=by
 obtain⟨i0,hii,hz0,hz1,hz2⟩:=info_parts Tryz.info24;obtain⟨sa,sc,hva,-⟩:=AltsIn.len ha;subst hva;unfold itV;go_enter Tryz.func110,Tryz.ntmps110;obtain⟨W,hW⟩:∃ W,W=w.alloc (.cells #[.int .i64 (it.kind:Int),.string it.name,.int .u8 (it.mark:Int),.slice sa it.alts.length sc,.int .i64 (it.place:Int)] 148):=⟨_,rfl⟩;have hB:Below w.heap.size w W:=by rw[hW];exact (Below.refl _ _).alloc (Nat.le_refl _) _
 have hWs:W.heap.size=w.heap.size+1:=by rw[hW];simp
 have kx:Blk W w.heap.size #[.int .i64 (it.kind:Int),.string it.name,.int .u8 (it.mark:Int),.slice sa it.alts.length sc,.int .i64 (it.place:Int)] 148:=by rw[hW];exact Blk.new w _ 148
 by_cases hk:it.kind=2
 ·have HPT:Hid (Lx.partsOf T N b H it=it.alts.map fun a=>Lx.rightOf T N b H a.1):=if_pos hk
  have hkn:((it.kind:Int) != 2)=false:=by simp[hk]
  have hs2:=hs hk;have HK:Hid (it.kind=2):=hk;clear hk hp hs;go_wp2_with fail;rw[<-hW];clear hW
  go_loopg [6,7] it.alts.length (fun k vo i wr=>∃ (j:Nat) (ps:List (List Nat)),j+k=it.alts.length/\i=.int .i64 j/\PtR W.heap.size wr vo ps/\Below W.heap.size W wr/\Hid (ps=(it.alts.take j).map fun a=>Lx.rightOf T N b H a.1))
  case atStart=>exact⟨0,[],by omega,rfl,⟨[],rfl,World.ownsRow_nil _ _ _ _,fun q hq=>(by cases hq),fun q hq=>(by cases hq)⟩,Below.refl _ _,rfl⟩
  case round =>
   obtain⟨j,ps,hk,rfl,ho,hbr,HPS⟩:=hrel;have hsr:=hbr.size;have hbw:Below w.heap.size w wr:=hB.trans (hbr.mono (by omega));have kxr:Blk wr w.heap.size _ 148:=(hbr.block _ (by omega)).trans kx;have x3:wr.cell? ⟨w.heap.size,3,none⟩=some (.slice sa it.alts.length sc):=kxr.cell 3;obtain⟨qs,hq1,hq2,hq3,hq4⟩:=ho;obtain⟨oa,oc,hvo,hom⟩:=own_len hq2;subst hvo;unfold maxLen at hom;have hpl:ps.length<=10000:=by rw[HPS.out,List.length_map,List.length_take];omega
   by_cases hlt:j<it.alts.length
   ·have har:AltsIn YR 9 F wr _ it.alts:=AltsIn.move (fun g hg=>hbw.block g (h.lt g hg)) (fun _ h=>h) ha
    obtain⟨gb,cap,vi,hv,hg,hi,hc⟩:=Seq.at har (fun _=>rfl) hlt;cases hv;have hsj:=hs2 it.alts[j] (List.getElem_mem hlt);have htk:(it.alts.take (j+1)).map (fun a=>Lx.rightOf T N b H a.1)=ps++[Lx.rightOf T N b H it.alts[j].1]:=by rw[HPS.out,List.take_succ_eq_append_getElem hlt,List.map_append];rfl
    have HTK:Hid _:=htk;clear htk HPS har;generalize it.alts[j]=x at hi hc hsj HTK;obtain⟨its,prec,pa⟩:=x;have hi':ItemsIn YR 8 F wr vi its:=hi;obtain⟨ia,ic,hvi,him⟩:=Seq.len hi;subst hvi;have c0:wr.cell? ⟨gb,j*3,none⟩=some (.slice ia its.length ic):=hc 0 (by decide);have c1:wr.cell? ⟨gb,j*3+1,none⟩=some (.string prec):=hc 1 (by decide);have c2:wr.cell? ⟨gb,j*3+2,none⟩=some (.int .i64 (pa:Int)):=hc 2 (by decide);have lgb:gb<wr.heap.size:=by have:=h.lt gb hg;omega
    clear hc hi;go_wp2_with fail;refine (right_any (h.below hbw) its _ hi' hsj.1 prec pa hsj.2).mono ?_;rintro e w2 ⟨u,rfl,hu,hb2⟩;obtain⟨ua,uc,hvu,-⟩:=own_len hu;subst hvu;have hs2':=hb2.size;have own2:w2.ownsRow W.heap.size 24 1 (.slice oa ps.length oc) ps.length (qs.map Prod.fst):=own_move hq2 fun g hg=>hb2.block g (hq2.lt g hg).2
    generalize Lx.rightOf T N b H its=rr at hu HTK
    go_wp2_with (at_builtin;go_loud (refine wpList_append_own_at _ rfl _ _ 40 rfl W.heap.size 24 i0 _ 1 24 Tryz.underlying40 hii hz0 hz1 hz2 rfl (by decide) (.slice oa ps.length oc) _ _ rfl (own2.alloc _) ⟨_,0,none⟩ 1 1 [.slice ua rr.length uc] rfl rfl (news_of (Blk.new _ _ 24)) (by simp[Value.oneCell']) (by unfold maxLen;omega) (by omega) (by simp;omega) ?_;intro v5 w5 hown5 hgrow5 _ hat5;obtain⟨oa5,oc5,hv5,-⟩:=own_len hown5;subst hv5))
    have hb5:Below W.heap.size W w5:=((hbr.trans (hb2.mono hsr)).alloc (by omega) _).grown hgrow5 (by simp;omega) (fun k hk=>(hq2.lt k hk).1);have hat:∀ g,(Value.slice oa5 (ps.length+1) oc5).ownBlock=some g->(Value.slice oa ps.length oc).ownBlock=some g∨w2.heap.size<=g:=by
     intro g hg;rcases hat5 with h' | h'
     ·exact .inl (h' ▸ hg)
     ·rw[h']at hg;simp at hg;exact .inr (by omega)
    have bl:∀ g,g<w2.heap.size->(Value.slice oa ps.length oc).ownBlock≠some g->w5.heap[g]?=w2.heap[g]?:=fun g hg hn=>(hgrow5.block g (by simp;omega) (fun e=>hn e.symm)).trans (Below.heap_alloc _ _ _ hg)
    have hpt:PtR W.heap.size w5 (.slice oa5 (ps.length+1) oc5) (ps++[rr]):=by
     refine⟨qs++[(.slice ua rr.length uc,rr)],by rw[List.map_append,hq1];rfl,?_,?_,?_⟩
     ·rw[List.length_append,List.map_append];exact hown5
     ·intro q hq
      rcases List.mem_append.1 hq with hq | hq
      ·refine own_move (hq3 q hq) fun g hg=>?_
       have hlg:=(hq3 q hq).lt g hg;exact (bl g (by omega) (hq4 q hq g hg)).trans (hb2.block g hlg.2)
      ·rw[List.mem_singleton.1 hq]
       refine own_move (own_le hu hsr) fun g hg=>bl g (hu.lt g hg).2 fun e=>?_
       have:=(hu.lt g hg).1;have:=(hq2.lt g e).2;omega
     ·intro q hq g hg e
      rcases hat g e with h' | h'
      ·rcases List.mem_append.1 hq with hq | hq
       ·exact hq4 q hq g hg h'
       ·rw[List.mem_singleton.1 hq]at hg
        have:=(hu.lt g hg).1;have:=(hq2.lt g h').2;omega
      ·rcases List.mem_append.1 hq with hq | hq
       ·have:=((hq3 q hq).lt g hg).2;omega
       ·rw[List.mem_singleton.1 hq]at hg
        have:=(hu.lt g hg).2;omega
    go_roundg (it.alts.length - (j+1))
    case measure=>omega
    case rel=>exact⟨j+1,_,by omega,by go_num,hpt,hb5,HTK.out.symm⟩
   ·have:j=it.alts.length:=by omega
    subst this;go_wp2_with fail;go_ret;refine⟨_,rfl,?_,hbw⟩;have e9:ps=Lx.partsOf T N b H it:=by have:=HPS.out;rw[List.take_length]at this;rw[HPT.out,this]
    rw[<-e9];exact⟨qs,hq1,own_le hq2 (by omega),fun q hq=>own_le (hq3 q hq) (by omega),hq4⟩
 ·have HPT:Hid (Lx.partsOf T N b H it=[[Lx.psym T N it]]):=if_neg hk
  have hkn:((it.kind:Int) != 2)=true:=bne_iff_ne.2 (by omega);have hkd:¬ (it.kind:Int)=2:=by omega
  have hp1:=hp hk;have HK:Hid (¬ it.kind=2):=hk;clear hk hp hs;go_wp2_with fail;rw[<-hW];clear hW;refine (plainly_any (h.below hB) it sa it.alts.length sc hp1).mono ?_;rintro e w2 ⟨rfl,hb2⟩;have hs2:=hb2.size;go_wp2_with fail;go_ret;refine⟨_,rfl,?_,?_⟩
  ·rw[HPT.out]
   have ka:=(Blk.new w2 #[.int .i64 (Lx.psym T N it:Int)] 3).alloc (.cells #[.slice (some ⟨w2.heap.size,0,none⟩) 1 1] 24);have kb:Blk ((w2.alloc (.cells #[.int .i64 (Lx.psym T N it:Int)] 3)).alloc (.cells #[.slice (some ⟨w2.heap.size,0,none⟩) 1 1] 24)) (w2.heap.size+1) #[.slice (some ⟨w2.heap.size,0,none⟩) 1 1] 24:=by simpa using Blk.new (w2.alloc (.cells #[.int .i64 (Lx.psym T N it:Int)] 3)) #[.slice (some ⟨w2.heap.size,0,none⟩) 1 1] 24
   refine⟨[(.slice (some ⟨w2.heap.size,0,none⟩) 1 1,[Lx.psym T N it])],rfl,?_,?_,?_⟩
   ·exact⟨rfl,.inr ⟨w2.heap.size+1,1,_,rfl,by omega,kb,Nat.le_refl _,by decide,rfl,rfl⟩⟩
   ·intro q hq
    rw[List.mem_singleton.1 hq];exact⟨rfl,.inr ⟨w2.heap.size,1,_,rfl,by omega,ka,Nat.le_refl _,by decide,rfl,rfl⟩⟩
   ·intro q hq g hg
    rw[List.mem_singleton.1 hq]at hg;simp[Value.ownBlock]at hg ⊢;omega
  ·exact ((hB.trans (hb2.mono (by omega))).alloc (by omega) _).alloc (by simp;omega) _
end
end Go.Proofs.YtlcppnabbicmoaaGreatDoor

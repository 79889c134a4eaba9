import Derived.Test.YtagkodkijkpemaaGreatDoorRA06
set_option maxHeartbeats 8000000
set_option maxRecDepth 1000000
namespace Go.Proofs.YtagkodkijkpemaaGreatDoor
open Lx Go.Proofs.Tryz
open Go.RowKit
open Lx (Tk)
open Tr
theorem Tryz.Ti:(prog.info? 9).map (fun i=>(i.zero,i.size,i.bytes))=some (some (.string ⟨#[]⟩),1,16):=by kernel_rfl
def cT:Value×Tk->List Value:=fun q=>[.string q.2.1]
def KT:(Nat->Prop)->World->Value->Tk->Prop:=fun _ _ _ _=>True
theorem uI:sU KT:=fun _ _ _ _ _ _ _ _ _=>trivial
def alZ(lo:Nat)(w':World)(v:Value)(lv:Lx.Lv):Prop:=∃va,v=.agg #[.int .i64 (lv.kind:Int),va]/\Tr.Seq (In lo w'.heap.size) w' 9 1 cT (fun _ _=>True) va lv.tokens
theorem Qx{b:ByteArray}(h:0<=ja b):b≠aT:=by
 intro e;subst e;revert h;decide
def JF(k:Nat):aR (List Tk)->aR Lx.Lv
 |.error e=>.error e
 | .ok (l,ts)=>.ok (⟨k,l⟩,ts)
theorem Q8{ts a:List Tk}{b:ByteArray}(h:eG Lx.isToken ts.tail=.ok (b,a)):lu ts=JF (ja (Lx.hd ts)).toNat (jF a.length a [(b,Lx.pl ts.tail)]):=by
 unfold lu;rw[h];cases hr:jF a.length a [(b,Lx.pl ts.tail)] with
 |error e=>simp only[JF,hr]
 |ok y=>obtain⟨l,t⟩:=y;simp only[JF,hr]
theorem RF(sb S:Nat)(L:List Tk)(p:Nat)(w:World)(ts:List Tk)(h:Rd sb S L p w ts 0)(av:0<=ja (Lx.hd ts)):
  Calls prog 112 #[.pointer (some ⟨p,0,none⟩)] w (Ends sb S L p 0 (alZ w.heap.size) w (lu ts)):=by
 obtain⟨i0,hi,ak,ag,af⟩:=fd Tryz.Ti;have hp:=h.lt;have hs:=h.Ag;have a9:=h.lb;have a3:=h.len;have R:=Qx av;have ap:Hid _:=R;clear R;have h1:=h.alloc (.cells #[.int .i64 0,.slice none 0 0] 250);have h2:=h1.alloc (.cells #[.int .i64 (ja (Lx.hd ts)),.slice none 0 0] 250);have kB:=(aj.new w #[.int .i64 0,.slice none 0 0] 250).alloc (.cells #[.int .i64 (ja (Lx.hd ts)),.slice none 0 0] 250);have kC:=aj.new (w.alloc (.cells #[.int .i64 0,.slice none 0 0] 250)) #[.int .i64 (ja (Lx.hd ts)),.slice none 0 0] 250;rw[show (w.alloc (.cells #[.int .i64 0,.slice none 0 0] 250)).heap.size=w.heap.size+1 by simp]at kC;have G0:=aL (aX w (.cells #[.int .i64 0,.slice none 0 0] 250) (some p)) (aX _ (.cells #[.int .i64 (ja (Lx.hd ts)),.slice none 0 0] 250) (some p));go_enter func112,ntmps112
 go_wp2_with (first
  | (go_at_call 111;refine(oF h1).mono ?_;rintro e w'⟨rfl,T⟩;obtain rfl:=T.symm)
  | (go_at_call 110;refine(Il _ _).mono ?_;rintro e w'⟨rfl,T⟩;obtain rfl:=T.symm))
 refine(Dm h2 ap.out).mono ?_;rintro e w1⟨rfl,D,W⟩;have ai:=kB.grown D (by simp;omega);have iR:=kC.grown D (by simp;omega);have G1:=aL G0 D;have s1:=D.size;have sA:((w.alloc (.cells #[.int .i64 0,.slice none 0 0] 250)).alloc (.cells #[.int .i64 (ja (Lx.hd ts)),.slice none 0 0] 250)).heap.size=w.heap.size+2:=by simp
 have c0:w1.cell? ⟨w.heap.size+1,1,none⟩=some (.slice none 0 0):=iR.cell 1;have f0:∀i,w1.frozen? ⟨w.heap.size+1,i,none⟩=false:=iR.frozen;clear kB kC G0 h2 h1;have P:=W.drew;have O:=aL G1 (ow w1 (some p));have DJ:yM (w.heap.size+2) w1 9 1 cT KT (.slice none 0 0) [] [] (fun _=>False):=⟨rfl,eE _ _ _ _,fun q h=>by simp at h,fun b h=>h.elim,fun _ _ h=>h⟩;cases l:eG Lx.isToken ts.tail with
 |error x=>
  obtain⟨n,a⟩:=x;have N:Hid _:=l;have HE:Hid (lu ts=.error (n,a)):=by show _=_;unfold lu;rw[l]
  clear l;go_wp2_with fail;refine sf (by kernel_rfl) ?_;refine m8 (i:=0) (v:=.pointer (some ⟨w.heap.size+1,1,none⟩)) rfl (by kernel_rfl) (by kernel_rfl) (by kernel_rfl) (fun _ _ _ h=>h) (pS ⟨by rfl,fun w=>by go_simp⟩) ?_;refine m8 (i:=2) (v:=.pointer (some ⟨p,0,none⟩)) rfl (by kernel_rfl) (by kernel_rfl) (by kernel_rfl) (fun _ _ _ h=>h) (pS ⟨by rfl,fun w=>by go_simp⟩) ?_;refine m8 (i:=3) (v:=.pointer (some ⟨p,0,none⟩)) rfl (by kernel_rfl) (by kernel_rfl) (by kernel_rfl) (fun _ _ _ h=>h) (pS ⟨by rfl,fun w=>by go_simp⟩) ?_;refine m8 (i:=4) (v:=.pointer (some ⟨p,0,none⟩)) rfl (by kernel_rfl) (by kernel_rfl) (by kernel_rfl) (fun _ _ _ h=>h) (pS ⟨by rfl,fun w=>by go_simp⟩) ?_;refine ot (rs:=[1,5]) (by kernel_rfl) (by simp) ?_;refine ki rfl (fun K H=>?_) (ki rfl (fun K H=>?_) nF)
  ·change if _ then Oper.wp _ _ _ w1.drew _ _ else _
   go_simp
   refine H _ _ ?_;clear H K;refine ot (rs:=[5]) (by kernel_rfl) (by simp) ?_;refine ki rfl (fun K H=>?_) nF;exact uJ rfl 151 #[.pointer (some ⟨p,0,none⟩)] (by go_simp) (Bp P) fun e w2 y=>by obtain⟨rfl,d⟩:=y.err N.out;exact⟨_,rfl,rfl,Ends.no HE.out (aL O d)⟩
  ·change if _ then Oper.wp _ _ _ w1.drew _ _ else _
   exact uJ rfl 151 #[.pointer (some ⟨p,0,none⟩)] (by go_simp) (Bp P) fun e w2 y=>by obtain⟨rfl,d⟩:=y.err N.out;exact⟨_,rfl,rfl,Ends.no HE.out (aL O d)⟩
 |ok x=>
  obtain⟨b,bY⟩:=x;have pV:=Q8 l;have ab:Hid _:=pV;have ah:=(oC l).1;have ao:=W.wf.sS;have a6:=h.wf.sS;have aa:bY.length+1=ts.tail.length:=by rw[ah];exact ao
  have N:Hid _:=l;clear l pV ah;go_wp2_with fail
  go_region_law (first
   | (refine step_append_lies _ rfl (.tmp 15) (.tmp 20) 53 rfl (w.heap.size+2) 9 i0 _ 1 16 underlying53 hi ak ag af rfl (by decide) (.slice none 0 0) 0 [] (by simp[Act.eval]) (B.alloc _) ⟨w2.heap.size,0,none⟩ 1 1 (cT (.bool false,(b,Lx.pl ts.tail))) (by simp[Act.eval]) rfl (dI (aj.new w2 _ 9)) (by simp[cT,Value.oneCell']) (by decide) (by unfold maxLen;omega) (by omega) (by have:=d.size;simp at this;simp;omega) _ rfl ?_;intro g j Q A c al a8;have fU:=(iL.alloc _).grown c (by simp[Value.ownBlock]);have aq:Q.cell? ⟨w.heap.size+1,1,none⟩=some (.slice none 0 0):=fU.cell 1;have ar:∀i,Q.frozen? ⟨w.heap.size+1,i,none⟩=false:=fU.frozen)
   | (refine fP rfl 151 #[.pointer (some ⟨p,0,none⟩)] (by go_simp) (Bp P) ?_;intro e w2 y;obtain⟨vv,rfl,d,l,rfl⟩:=y.ok N.out;refine⟨_,rfl,?_⟩;have B:=((DJ.kept uI (ow w1 none) (by simp)).kept uI d (fun k z=>by cases z;omega)).2.1;have iL:=iR.drew.grown d (by simp;omega);have UZ:w2.cell? ⟨w.heap.size+1,1,none⟩=some (.slice none 0 0):=iL.cell 1;have aa:=iL.lt))
  all_goals
   have G3:=yM.push uI (DJ.kept uI (ow w1 none) (by simp)) (p:=p) (by omega) (by have:w1.drew.heap.size=w1.heap.size:=rfl;omega) d (.bool false,(b,Lx.pl ts.tail)) trivial (aX w2 _ none) A c al;have ac:=((ai.drew.grown d (by simp;omega)).alloc _).grown c (by simp[Value.ownBlock]);have ad:=(l.alloc _).grown c (by simp[Value.ownBlock]) (by simp[Value.ownBlock]);have OM:=C9 (aL O d) (aX w2 _ none) c (by simp[Value.ownBlock]);have aA:w2.heap.size+1<=Q.heap.size:=by have:=c.size;simpa using this
   have a7:w1.heap.size<=w2.heap.size:=d.size;clear A c al B iL UZ c0 f0;go_wp2_with fail;have ax:(Q.setCell ⟨w.heap.size+1,1,none⟩ (.slice (some ⟨g,0,none⟩) 1 j)).heap.size=Q.heap.size:=by simp[World.setCell]
   have Gs:Grow (w.heap.size+2) (Q.setCell ⟨w.heap.size+1,1,none⟩ (.slice (some ⟨g,0,none⟩) 1 j)) 9 1 cT KT (.slice (some ⟨g,0,none⟩) 1 j) [(b,Lx.pl ts.tail)]:=Grow.kept uI G3 (iM Q (w.heap.size+1) 1 _) (fun k z=>by cases z;omega);have J8:=ad.setOther (b:=w.heap.size+1) 1 (.slice (some ⟨g,0,none⟩) 1 j) (by omega) (by omega);have J9:=fU.set 1 (.slice (some ⟨g,0,none⟩) 1 j);have Ka:=ac.other (b':=w.heap.size+1) (i:=1) (by omega) (.slice (some ⟨g,0,none⟩) 1 j);have gS:=dZ OM (b:=w.heap.size+1) (by omega) 1 (.slice (some ⟨g,0,none⟩) 1 j);clear G3 fU ac ad OM aq ar
   go_loopg [] bY.length (fun k wr=>∃(s:List Tk)(r:List Tk)(v:Value)(f:Nat),s.length=k/\s.length<=f/\r.length+s.length<=ts.length/\w.heap.size+2<=wr.heap.size/\Rd sb S L p wr s 0/\aj wr (w.heap.size+1) #[.int .i64 (ja (Lx.hd ts)),v] 250/\aj wr w.heap.size #[.int .i64 0,.slice none 0 0] 250 /\
     Grow (w.heap.size+2) wr 9 1 cT KT v r/\w.grownBy wr (some p)/\Hid (lu ts=JF (ja (Lx.hd ts)).toNat (jF f s r)))
   case atStart=>exact⟨bY,[(b,Lx.pl ts.tail)],_,bY.length,rfl,zL0,by simp;omega,by omega,J8,J9,Ka,Gs,gS,ab⟩
   case round=>
    obtain⟨s,r,v,f,z,hf,a1,hsz,hr,xK,vz,V,hg,u⟩:=hrel;clear Gs J8 J9 Ka gS ax ab ai iR DJ P O W D d l y;have R:=hr.wf.ne;obtain⟨f',rfl⟩:∃f',f=f'+1:=⟨f-1,by omega⟩;obtain⟨ps,F,J⟩:=V;have m:=J.2.1;obtain⟨X,vk,Y,rfl⟩:=EY m;have c0:wr.cell? ⟨w.heap.size+1,1,none⟩=some (.slice X vk Y):=xK.cell 1;have ck:wr.cell? ⟨w.heap.size+1,0,none⟩=some (.int .i64 (ja (Lx.hd ts))):=xK.cell 0;have f0:∀i,wr.frozen? ⟨w.heap.size+1,i,none⟩=false:=xK.frozen
    by_cases G:Lx.hd s=mG
    ·have HP:Hid (lu ts=.ok (⟨(ja (Lx.hd ts)).toNat,r⟩,s.tail)):=by
      show _=_;rw[u.out];simp only[jF];rw[de G];rfl
     have Z:Hid (Lx.hd s=mG):=G;clear G u;go_wp2_with fail;refine(Md hr mG (by decide) Z.out).mono ?_;rintro e w4⟨rfl,M,o⟩;have OO:=xK.grown M (by simp;omega);have oV:=vz.grown M (by simp;omega);have d0:w4.cell? ⟨w.heap.size+1,0,none⟩=some (.int .i64 (ja (Lx.hd ts))):=OO.cell 0;have d1:w4.cell? ⟨w.heap.size+1,1,none⟩=some (.slice X vk Y):=OO.cell 1;have e0:w4.cell? ⟨w.heap.size,0,none⟩=some (.int .i64 0):=oV.cell 0;have e1:w4.cell? ⟨w.heap.size,1,none⟩=some (.slice none 0 0):=oV.cell 1;have f2:∀i,w4.frozen? ⟨w.heap.size,i,none⟩=false:=oV.frozen;have am:=Grow.seq uI (Grow.kept uI ⟨ps,F,J⟩ M (fun k z=>by cases z;omega));have an:(((ja (Lx.hd ts)).toNat:Nat):Int)=ja (Lx.hd ts):=by omega
     have az:Hid _:=an;clear an;go_wp2_with fail;refine fx (v:=.agg #[.int .i64 (ja (Lx.hd ts)),.slice X vk Y]) (by simp[results,results112,go_sem,e0,e1]) rfl ?_;refine Ends.yes HP.out (dZ (dZ (aL hg M) (zL0) _ _) (zL0) _ _) ((o.setOther _ _ (by omega) (by omega)).setOther _ _ (by omega) (by omega)) ⟨_,by rw[az.out],?_⟩;refine am.move (fun b G=>?_) (fun b G=>?_) (fun _ _ h=>h)
     ·have h1:=G.1
      rw[zS0 (fun e=>by have e':b=w.heap.size:=e;omega),zS0 (fun e=>by have e':b=w.heap.size:=e;omega)]
     ·have h1:=G.1
      have h2:=G.2;exact⟨by omega,by simpa [World.setCell]using h2⟩
    ·have Z:Hid (¬Lx.hd s=mG):=G
     clear G;have P:=hr.drew;have O:=aL hg (ow wr (some p));cases o:eG Lx.isToken s with
     |error x=>
      obtain⟨n,a⟩:=x;have HE:Hid (lu ts=.error (n,a)):=by
       show _=_;rw[u.out];simp only[jF];rw[dk Z.out,o];rfl
      have I:Hid _:=o;clear o u
      go_wp2_with (first
       | (go_at_call 152;refine(Iz hr mG Z.out).mono ?_;rintro e w'⟨rfl,T⟩;obtain rfl:=T.symm))
      refine sf (by kernel_rfl) ?_;refine m8 (i:=0) (v:=.pointer (some ⟨w.heap.size+1,1,none⟩)) rfl (by kernel_rfl) (by kernel_rfl) (by kernel_rfl) (fun _ _ _ h=>h) (pS ⟨by rfl,fun w=>by go_simp⟩) ?_;refine m8 (i:=2) (v:=.pointer (some ⟨p,0,none⟩)) rfl (by kernel_rfl) (by kernel_rfl) (by kernel_rfl) (fun _ _ _ h=>h) (pS ⟨by rfl,fun w=>by go_simp⟩) ?_;refine m8 (i:=3) (v:=.pointer (some ⟨p,0,none⟩)) rfl (by kernel_rfl) (by kernel_rfl) (by kernel_rfl) (fun _ _ _ h=>h) (pS ⟨by rfl,fun w=>by go_simp⟩) ?_;refine m8 (i:=4) (v:=.pointer (some ⟨p,0,none⟩)) rfl (by kernel_rfl) (by kernel_rfl) (by kernel_rfl) (fun _ _ _ h=>h) (pS ⟨by rfl,fun w=>by go_simp⟩) ?_;refine ot (rs:=[1,5]) (by kernel_rfl) (by simp) ?_;refine ki rfl (fun K H=>?_) (ki rfl (fun K H=>?_) nF)
      ·change if _ then Oper.wp _ _ _ wr.drew _ _ else _
       go_simp
       refine H _ _ ?_;clear H K;refine ot (rs:=[5]) (by kernel_rfl) (by simp) ?_;refine ki rfl (fun K H=>?_) nF;exact uJ rfl 151 #[.pointer (some ⟨p,0,none⟩)] (by go_simp) (Bp P) fun e w2 y=>by obtain⟨rfl,d⟩:=y.err I.out;exact⟨_,rfl,rfl,Ends.no HE.out (aL O d)⟩
      ·change if _ then Oper.wp _ _ _ wr.drew _ _ else _
       exact uJ rfl 151 #[.pointer (some ⟨p,0,none⟩)] (by go_simp) (Bp P) fun e w2 y=>by obtain⟨rfl,d⟩:=y.err I.out;exact⟨_,rfl,rfl,Ends.no HE.out (aL O d)⟩
     |ok x=>
      obtain⟨bb,nU⟩:=x;have ae:=(oC o).1;have Gg:=hr.wf.sS;have FX:nU.length+1=s.length:=by rw[ae];exact Gg
      have Cj:Hid (lu ts=JF (ja (Lx.hd ts)).toNat (jF f' nU (r++[(bb,Lx.pl s)]))):=by
       show _=_;rw[u.out];simp only[jF];rw[dk Z.out,o]
      have I:Hid _:=o;clear o u ae
      go_wp2_with (first
       | (go_at_call 152;refine(Iz hr mG Z.out).mono ?_;rintro e w'⟨rfl,T⟩;obtain rfl:=T.symm))
      go_region_law (first
       | (refine step_append_lies _ rfl (.tmp 29) (.tmp 34) 53 rfl (w.heap.size+2) 9 i0 _ 1 16 underlying53 hi ak ag af rfl (by decide) (.slice X vk Y) r.length (ps.flatMap cT) (by simp[Act.eval]) (C.alloc _) ⟨w5.heap.size,0,none⟩ 1 1 (cT (.bool false,(bb,Lx.pl s))) (by simp[Act.eval]) rfl (dI (aj.new w5 _ 9)) (by simp[cT,Value.oneCell']) (by decide) (by unfold maxLen;omega) (by omega) (by have:=t.size;simp at this;simp;omega) _ rfl ?_;intro g6 a2 w6 E U wY aE;have U1:=(nV.alloc _).grown U (fun e=>by have:=(m.lt _ e.symm).1;omega);have a5:w6.cell? ⟨w.heap.size+1,1,none⟩=some (.slice X vk Y):=U1.cell 1;have aF:∀i,w6.frozen? ⟨w.heap.size+1,i,none⟩=false:=U1.frozen)
       | (refine fP rfl 151 #[.pointer (some ⟨p,0,none⟩)] (by go_simp) (Bp P) ?_;intro e w5 y;obtain⟨vv,rfl,t,qX,rfl⟩:=y.ok I.out;refine⟨_,rfl,?_⟩;have C:=((J.kept uI (ow wr none) (by simp)).kept uI t (fun k z=>by cases z;omega)).2.1;have nV:=xK.drew.grown t (by simp;omega);have Kb:w5.cell? ⟨w.heap.size+1,1,none⟩=some (.slice X vk Y):=nV.cell 1;have NY:=nV.lt))
      all_goals
       have G6:=yM.push uI (J.kept uI (ow wr none) (by simp)) (p:=p) (by omega) (by have:wr.drew.heap.size=wr.heap.size:=rfl;omega) t (.bool false,(bb,Lx.pl s)) trivial (aX w5 _ none) E U wY;have xL:=((vz.drew.grown t (by simp;omega)).alloc _).grown U (fun e=>by have:=(m.lt _ e.symm).1;omega);have Ah:=(qX.alloc _).grown U (fun e=>by have:=(m.lt _ e.symm).1;omega) (fun e=>by have:=(m.lt _ e.symm).1;omega);have a0:=C9 (aL O t) (aX w5 _ none) U (fun k z=>by have:=(m.lt _ z).1;omega);have aw:=U.size;have aG:=t.size;have a4:wr.drew.heap.size=wr.heap.size:=rfl;clear E U wY C nV Kb c0 f0 y;go_wp2_with fail;go_roundg nU.length
       case measure=>omega
       case rel=>
        refine⟨nU,r++[(bb,Lx.pl s)],_,f',rfl,by omega,by simp;omega,?_,Ah.setOther _ _ (by omega) (by omega),U1.set 1 _,xL.other (by omega) _,?_,dZ a0 (by omega) _ _,Cj⟩
        ·simp only[World.setCell,sY];have:=aw;simp at this;omega
        ·exact Grow.kept uI G6 (iM w6 (w.heap.size+1) 1 _) (fun k z=>by cases z;omega)
end Go.Proofs.YtagkodkijkpemaaGreatDoor

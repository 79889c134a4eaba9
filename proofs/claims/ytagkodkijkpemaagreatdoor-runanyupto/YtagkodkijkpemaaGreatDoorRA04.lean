import Derived.Test.YtagkodkijkpemaaGreatDoorRA03
import Derived.Deep.RegionLaw
import Derived.Laws.BitsAllLaws
import Derived.Deep.Cut
import Derived.Deep.QuietTactic
import Derived.RegionTactic
import Derived.RangeFuncNested
import Derived.RangeFuncLeaves
import Derived.TacticsIn
import Derived.Sort.QuietIn
set_option maxHeartbeats 8000000
set_option maxRecDepth 1000000
namespace Go.Proofs.YtagkodkijkpemaaGreatDoor
open Lx Go.Proofs.Tryz
open Go.RowKit Tr
theorem zL0{n:Nat}:n<=n:=io _
theorem zB0{a b:Int}(h:a≠b):(a==b)=false:=iS.2 h
theorem zS0{w:World}{p:Addr}{v:Value}{g:Nat}(h:g≠p.block):(w.setCell p v).heap[g]?=w.heap[g]?:=Below.heap_setCell _ _ _ _ h
section
open Go.RowKit
open Lx (Tk)
open Tr
theorem Tryz.akH:(prog.info? 262).map (fun i=>(i.zero,i.size,i.bytes))=some (some (.agg #[.int .i64 0,.string ⟨#[]⟩,.int .u8 0,.slice none 0 0]),4,56):=by kernel_rfl
theorem Tryz.akI:(prog.info? 269).map (fun i=>(i.zero,i.size,i.bytes))=some (some (.agg #[.slice none 0 0,.string ⟨#[]⟩]),2,40):=by kernel_rfl
theorem ow(w:World)(r:Option Nat):w.grownBy w.drew r:=⟨rfl,rfl,rfl,zL0,fun _ _ _=>rfl⟩
theorem Rd.drew{sb cap:Nat}{L:List Tk}{p:Nat}{w:World}{ts:List Tk}{o:Int}(h:Rd sb cap L p w ts o):Rd sb cap L p w.drew ts o :=
 h.grown (ow w none) (by simp) (by simp)
theorem aj.drew{w:World}{b:Nat}{cs:Array Value}{e:Nat}(h:aj w b cs e):aj w.drew b cs e:=h
theorem fP {P:Program} {ops:Array Oper} {o:Oper} {a:Act} {w:World} {K:Act->World->Prop} {Q:Exit->Act->World->Prop} {E:Prop} (hgd:o.guard=none) (f:FuncId) (args:Array Value)
  (hrun:(execOp a.eval o).run P w=.ok (.enter f args) w) {R:Ending->World->Prop} (hc:Calls P f args w R) (h:∀e w',R e w'->∃v,e=.returned v/\K (a.put o.dst v) w') :
  if Region.wanted o (yielded ops a.tmps)=true then Oper.wp P o a w K Q else E:=by
 have hw:Region.wanted o (yielded ops a.tmps)=true:=by simp[Region.wanted,hgd]
 rw[de hw];unfold Oper.wp;rw[hrun,Oper.upon_enter];refine hc.mono ?_;intro e w' hr;obtain⟨v,rfl,hk⟩:=h e w' hr;exact hk
theorem uJ {P:Program} {ops:Array Oper} {o:Oper} {a:Act} {w:World} {K:Act->World->Prop} {Q:Exit->Act->World->Prop} {E:Prop} (hgd:o.guard=none) (f:FuncId) (args:Array Value)
  (hrun:(execOp a.eval o).run P w=.ok (.enter f args) w) {R:Ending->World->Prop} (hc:Calls P f args w R) (h:∀e w',R e w'->∃c,e=.panicked c/\Q (.panic c) a w') :
  if Region.wanted o (yielded ops a.tmps)=true then Oper.wp P o a w K Q else E:=by
 have hw:Region.wanted o (yielded ops a.tmps)=true:=by simp[Region.wanted,hgd]
 rw[de hw];unfold Oper.wp;rw[hrun,Oper.upon_enter];refine hc.mono ?_;intro e w' hr;obtain⟨v,rfl,hk⟩:=h e w' hr;exact hk
theorem dI{w:World}{g:Nat}{cs:Array Value}{e:Nat}(h:aj w g cs e):∀(j:Nat)(u:Value),cs.toList[j]?=some u->w.cell? ((⟨g,0,none⟩:Addr).add j)=some u:=by
 intro j u hu;have hadd:(⟨g,0,none⟩:Addr).add j=⟨g,j,none⟩:=by unfold Addr.add;split <;> simp_all
 rw[hadd,h.cell];simpa using hu
theorem C9{w u u2 u3:World}{r s:Option Nat}(h:w.grownBy u s)(h2:u.grownBy u2 none)(h3:u2.grownBy u3 r)(hr:∀k,r=some k->w.heap.size<=k):w.grownBy u3 s :=
 ⟨h3.os.trans (h2.os.trans h.os),h3.tape.trans (h2.tape.trans h.tape),h3.output.trans (h2.output.trans h.output),dg h.size (dg h2.size h3.size),fun k hk hn=>
  (h3.block k (dd hk (dg h.size h2.size)) (fun e=>by have:=hr k e.symm;omega)).trans ((h2.block k (dd hk h.size) (by simp)).trans (h.block k hk hn))⟩
abbrev KA(d:Nat):(Nat->Prop)->World->Value->Lx.It->Prop:=fun F w va it=>eD YP d F w va it.alts
theorem aa9{d:Nat}(HI:aak d):aa8 d:=by
 intro sb cap L p w ts o ho h;obtain⟨i0,hi,hz0,hz1,hz2⟩:=fd Tryz.akH;have hp:=h.lt;have hs:=h.Ag;have HO:Hid (o=8 - (d:Int)):=ho;have hlb:=h.lb;have hlen:=h.len;clear ho;have h2:=(h.alloc (.cells #[.slice none 0 0,.string ⟨#[]⟩] 269)).alloc (.cells #[.slice none 0 0,.string ⟨#[]⟩] 269);have kB:=(aj.new w #[.slice none 0 0,.string ⟨#[]⟩] 269).alloc (.cells #[.slice none 0 0,.string ⟨#[]⟩] 269);have kC:=aj.new (w.alloc (.cells #[.slice none 0 0,.string ⟨#[]⟩] 269)) #[.slice none 0 0,.string ⟨#[]⟩] 269;have G0:=aL (aX w (.cells #[.slice none 0 0,.string ⟨#[]⟩] 269) (some p)) (aX _ (.cells #[.slice none 0 0,.string ⟨#[]⟩] 269) (some p));rw[show (w.alloc (.cells #[.slice none 0 0,.string ⟨#[]⟩] 269)).heap.size=w.heap.size+1 by simp]at kC;go_enter func176,ntmps176;go_wp2_with fail
 go_loopg [] ts.length (fun k wr=>∃(bG:List Tk)(acc:List Lx.It)(v:Value)(f:Nat),bG.length=k/\bG.length<=f/\acc.length+bG.length<=ts.length/\w.heap.size+2<=wr.heap.size/\Rd sb cap L p wr bG o/\aj wr (w.heap.size+1) #[v,.string ⟨#[]⟩] 269/\aj wr w.heap.size #[.slice none 0 0,.string ⟨#[]⟩] 269 /\
   mH (w.heap.size+2) wr 262 4 YP.cI (KA d) v acc/\w.grownBy wr (some p)/\Hid (jr (iF d) f bG acc=jr (iF d) ts.length ts []))
 case atStart=>exact⟨ts,[],_,ts.length,rfl,zL0,by simp,by simp,h2,kC,kB,mH.nil _ _ _ _ _ _,G0,rfl⟩
 case round=>
  obtain⟨bG,acc,v,f,hk,hf,hacc,hsz,hr,iR,kB1,hgrow,hg,hpi⟩:=hrel;clear h2 kB kC G0;cases BQ:rO bG
  ·have HS:Hid _:=BQ
   clear BQ;have adp:jr (iF d) ts.length ts []=.ok (acc,bG):=by
    rw[<-hpi.out];have hne:=hr.wf.ne;obtain⟨f',rfl⟩:∃f',f=f'+1:=⟨f-1,by omega⟩;simp only[jr];rw[dk (by rw[HS.out];simp)]
   have xI:Hid (iH (iF d) (d == 8) ts=qz (d == 8) acc bG):=by
    show _=_;unfold iH;rw[adp]
   clear adp hpi;have hop:=hr.op;have hseq:=hgrow.seq;obtain⟨va,vk,vc,rfl⟩:=dQ.form hseq;have c0:wr.cell? ⟨w.heap.size+1,0,none⟩=some (.slice va vk vc):=iR.cell 0;have c1:wr.cell? ⟨w.heap.size+1,1,none⟩=some (.string ⟨#[]⟩):=iR.cell 1;have b0:wr.cell? ⟨w.heap.size,0,none⟩=some (.slice none 0 0):=kB1.cell 0;have b1:wr.cell? ⟨w.heap.size,1,none⟩=some (.string ⟨#[]⟩):=kB1.cell 1;have fB:∀i,wr.frozen? ⟨w.heap.size,i,none⟩=false:=kB1.frozen;have fC:∀i,wr.frozen? ⟨w.heap.size+1,i,none⟩=false:=iR.frozen
   by_cases h8:d=8
   ·have o0:(o == 0)=true:=tr.2 (by have:=HO.out;omega)
    by_cases hpr:Lx.hd bG=jT
    ·have hnx:Lx.hd bG≠aT:=by rw[hpr];decide
     have UY:Hid (Lx.hd bG=jT):=hpr;have H8:Hid (d=8):=h8;clear hpr h8
     go_wp2_with (first
      | (go_at_call 192;refine(Iq hr).mono ?_;rintro e w'⟨rfl,hw⟩;obtain rfl:=hw.symm;rw[HS.out]))
     refine(Md hr jT (by decide) UY.out).mono ?_;rintro e w1⟨rfl,hg1,hr1⟩;have iL:=iR.grown hg1 (by simp;omega);have kB2:=kB1.grown hg1 (by simp;omega);go_wp2_with fail;refine(Bp hr1).mono ?_;intro e w2 he;cases hpw:eG Lx.isToken bG.tail with
     |error x=>
      obtain⟨n,a⟩:=x;obtain⟨rfl,hg2⟩:=he.err hpw;exact⟨rfl,Ends.no (by rw[xI.out];unfold qz;rw[de ⟨by simp[H8.out],UY.out⟩,hpw]) (aL (aL hg hg1) hg2)⟩
     |ok x=>
      obtain⟨b,bY⟩:=x;obtain⟨v,rfl,hg2,hr2,rfl⟩:=he.ok hpw;have HP:Hid (iH (iF d) (d == 8) ts=.ok ((acc,b,Lx.pl bG.tail),bY)):=by
       show _=_;rw[xI.out];unfold qz;rw[de ⟨by simp[H8.out],UY.out⟩,hpw]
      clear hpw he;have fU:=iL.grown hg2 (by simp;omega);have kB3:=kB2.grown hg2 (by simp;omega);have d0:w2.cell? ⟨w.heap.size+1,0,none⟩=some (.slice va vk vc):=fU.cell 0;have d1:w2.cell? ⟨w.heap.size+1,1,none⟩=some (.string ⟨#[]⟩):=fU.cell 1;have e0:w2.cell? ⟨w.heap.size,0,none⟩=some (.slice none 0 0):=kB3.cell 0;have e1:w2.cell? ⟨w.heap.size,1,none⟩=some (.string ⟨#[]⟩):=kB3.cell 1;have fB2:∀i,w2.frozen? ⟨w.heap.size,i,none⟩=false:=kB3.frozen;have fC2:∀i,w2.frozen? ⟨w.heap.size+1,i,none⟩=false:=fU.frozen;go_wp2_with fail;refine fx (v:=.agg #[.slice va vk vc,.string b]) (by simp[results,results176,go_sem,e0,e1]) rfl ?_;refine Ends.yes HP.out (dZ (dZ (dZ (aL (aL hg hg1) hg2) (by omega) _ _) (zL0) _ _) (zL0) _ _) (((hr2.setOther _ _ (by omega) (by omega)).setOther _ _ (by omega) (by omega)).setOther _ _ (by omega) (by omega)) ⟨_,rfl,?_⟩;refine rU.move (F:=In (w.heap.size+2) wr.heap.size) (w:=wr) (fun b hb=>?_) (fun b hb=>?_) hseq
      ·have h1:=hb.1
       have h2:=hb.2;have g1:=hg1.size;rw[zS0 (fun e=>by have e':b=w.heap.size:=e;omega),zS0 (fun e=>by have e':b=w.heap.size:=e;omega),zS0 (fun e=>by have e':b=w.heap.size+1:=e;omega),hg2.block b (by omega) (by simp;omega),hg1.block b h2 (by simp;omega)]
      ·have h1:=hb.1
       have h2:=hb.2;have g1:=hg1.size;have g2:=hg2.size;exact⟨by omega,by simp[World.setCell];omega⟩
    ·have HP:Hid (iH (iF d) (d == 8) ts=.ok ((acc,aT,0),bG)):=by
      show _=_;rw[xI.out];unfold qz;rw[dk (fun hh=>hpr hh.2)]
     have HR:Hid _:=hpr;clear hpr h8 xI
     go_wp2_with (first
      | (go_at_call 192;refine(Iq hr).mono ?_;rintro e w'⟨rfl,hw⟩;obtain rfl:=hw.symm;rw[HS.out])
      | (go_at_call 152;refine(Iz hr jT HR.out).mono ?_;rintro e w'⟨rfl,hw⟩;obtain rfl:=hw.symm))
     refine fx (v:=.agg #[.slice va vk vc,.string ⟨#[]⟩]) (by simp[results,results176,go_sem,b0,b1]) rfl ?_;refine Ends.yes HP.out (dZ (dZ hg (zL0) _ _) (zL0) _ _) ((hr.setOther _ _ (by omega) (by omega)).setOther _ _ (by omega) (by omega)) ⟨_,rfl,?_⟩;refine rU.move (F:=In (w.heap.size+2) wr.heap.size) (w:=wr) (fun b hb=>?_) (fun b hb=>?_) hseq
     ·have h1:=hb.1
      rw[zS0 (fun e=>by have e':b=w.heap.size:=e;omega),zS0 (fun e=>by have e':b=w.heap.size:=e;omega)]
     ·have h1:=hb.1
      have h2:=hb.2;exact⟨by omega,by simpa [World.setCell]using h2⟩
   ·have o0:(o == 0)=false:=iS.2 (by have:=HO.out;omega)
    have HP:Hid (iH (iF d) (d == 8) ts=.ok ((acc,aT,0),bG)):=by
     show _=_;rw[xI.out];unfold qz;rw[dk (fun hh=>h8 (by simpa using hh.1))]
    clear h8 xI
    go_wp2_with (first
     | (go_at_call 192;refine(Iq hr).mono ?_;rintro e w'⟨rfl,hw⟩;obtain rfl:=hw.symm;rw[HS.out]))
    refine fx (v:=.agg #[.slice va vk vc,.string ⟨#[]⟩]) (by simp[results,results176,go_sem,b0,b1]) rfl ?_;refine Ends.yes HP.out (dZ (dZ hg (zL0) _ _) (zL0) _ _) ((hr.setOther _ _ (by omega) (by omega)).setOther _ _ (by omega) (by omega)) ⟨_,rfl,?_⟩;refine rU.move (F:=In (w.heap.size+2) wr.heap.size) (w:=wr) (fun b hb=>?_) (fun b hb=>?_) hseq
    ·have h1:=hb.1
     rw[zS0 (fun e=>by have e':b=w.heap.size:=e;omega),zS0 (fun e=>by have e':b=w.heap.size:=e;omega)]
    ·have h1:=hb.1
     have h2:=hb.2;exact⟨by omega,by simpa [World.setCell]using h2⟩
  ·have HS:Hid _:=BQ
   clear BQ;obtain⟨ps,F,hgb⟩:=hgrow;have hown:=hgb.2.1;obtain⟨va,vk,vc,rfl⟩:=EY hown;have c0:wr.cell? ⟨w.heap.size+1,0,none⟩=some (.slice va vk vc):=iR.cell 0;have f0:∀i,wr.frozen? ⟨w.heap.size+1,i,none⟩=false:=iR.frozen;have jB:=hr.drew;have jX:=aL hg (ow wr (some p));have hne:=hr.wf.ne;obtain⟨f',rfl⟩:∃f',f=f'+1:=⟨f-1,by omega⟩;cases hit:iB (iF d) bG with
   |error x=>
    obtain⟨n,a⟩:=x;have HE:Hid (iH (iF d) (d == 8) ts=.error (n,a)):=by
     show _=_;unfold iH;rw[<-hpi.out];simp only[jr];rw[de HS.out,hit]
    have HIT:Hid _:=hit;clear hit hpi
    go_wp2_with (first
     | (go_at_call 192;refine(Iq hr).mono ?_;rintro e w'⟨rfl,hw⟩;obtain rfl:=hw.symm;rw[HS.out]))
    refine sf (by kernel_rfl) ?_;refine m8 (i:=0) (v:=.pointer (some ⟨w.heap.size+1,0,none⟩)) rfl (by kernel_rfl) (by kernel_rfl) (by kernel_rfl) (fun _ _ _ h=>h) (pS ⟨by rfl,fun w=>by go_simp⟩) ?_;refine m8 (i:=2) (v:=.pointer (some ⟨p,0,none⟩)) rfl (by kernel_rfl) (by kernel_rfl) (by kernel_rfl) (fun _ _ _ h=>h) (pS ⟨by rfl,fun w=>by go_simp⟩) ?_;refine ot (rs:=[1,3]) (by kernel_rfl) (by simp) ?_;refine ki rfl (fun K hK=>?_) (ki rfl (fun K hK=>?_) nF)
    ·change if _ then Oper.wp _ _ _ wr.drew _ _ else _
     go_simp
     refine hK _ _ ?_;clear hK K;refine ot (rs:=[3]) (by kernel_rfl) (by simp) ?_;refine ki rfl (fun K hK=>?_) nF;exact uJ rfl 193 #[.pointer (some ⟨p,0,none⟩)] (by go_simp) (HI sb cap L p _ bG o HO.out jB HS.out) fun e w1 he=>by obtain⟨rfl,hg1⟩:=he.err HIT.out;exact⟨_,rfl,rfl,Ends.no HE.out (aL jX hg1)⟩
    ·change if _ then Oper.wp _ _ _ wr.drew _ _ else _
     exact uJ rfl 193 #[.pointer (some ⟨p,0,none⟩)] (by go_simp) (HI sb cap L p _ bG o HO.out jB HS.out) fun e w1 he=>by obtain⟨rfl,hg1⟩:=he.err HIT.out;exact⟨_,rfl,rfl,Ends.no HE.out (aL jX hg1)⟩
   |ok x=>
    obtain⟨it,aG⟩:=x;have hl1:=QZ (Qw d) hit;have hl2:=hr.wf.sS;have Cj:Hid (jr (iF d) f' aG (acc++[it])=jr (iF d) ts.length ts []):=by
     show _=_;rw[<-hpi.out];simp only[jr];rw[de HS.out,hit]
    have HIT:Hid _:=hit;clear hit hpi
    go_wp2_with (first
     | (go_at_call 192;refine(Iq hr).mono ?_;rintro e w'⟨rfl,hw⟩;obtain rfl:=hw.symm;rw[HS.out]))
    go_region_law (first
     | (refine step_append_lies _ rfl (.tmp 7) (.tmp 10) 267 rfl (w.heap.size+2) 262 i0 _ 4 56 underlying267 hi hz0 hz1 hz2 rfl (by decide) (.slice va vk vc) acc.length (ps.flatMap YP.cI) (by simp[Act.eval]) (hown1.alloc _) ⟨w1.heap.size,0,none⟩ 1 1 (YP.cI (.slice xa xk xc,it)) (by simp[Act.eval]) rfl (dI (aj.new w1 _ 262)) (by simp[YP,Value.oneCell']) (by decide) (by unfold maxLen;omega) (by omega) (by have:=hg1.size;simp at this;simp;omega) _ rfl ?_;intro g cap' w3 hown3 hgrow3 hat hlt;have fU:=(iL.alloc _).grown hgrow3 (fun e=>by have:=(hown.lt _ e.symm).1;omega);have c03:w3.cell? ⟨w.heap.size+1,0,none⟩=some (.slice va vk vc):=fU.cell 0;have f03:∀i,w3.frozen? ⟨w.heap.size+1,i,none⟩=false:=fU.frozen)
     | (refine fP rfl 193 #[.pointer (some ⟨p,0,none⟩)] (by go_simp) (HI sb cap L p _ bG o HO.out jB HS.out) ?_;intro e w1 he;obtain⟨vv,rfl,hg1,hr1,hv1⟩:=he.ok HIT.out;refine⟨_,rfl,?_⟩;obtain⟨vx,rfl,hax⟩:=hv1;obtain⟨xa,xk,xc,rfl⟩:=eD.form hax;have hown1:=((hgb.kept (Im YP d) (ow wr none) (by simp)).kept (Im YP d) hg1 (fun k hk=>by cases hk;omega)).2.1;have iL:=iR.drew.grown hg1 (by simp;omega);have UZ:w1.cell? ⟨w.heap.size+1,0,none⟩=some (.slice va vk vc):=iL.cell 0;have hlt2:=iL.lt))
    all_goals
     have G3:=wQ.push (Im YP d) (hgb.kept (Im YP d) (ow wr none) (by simp)) (p:=p) (by omega) (by simpa using hsz) hg1 (.slice xa xk xc,it) hax (aX w1 _ none) hown3 hgrow3 hat;have kB3:=((kB1.drew.grown hg1 (by simp;omega)).alloc _).grown hgrow3 (fun e=>by have:=(hown.lt _ e.symm).1;omega);have hr3:=(hr1.alloc _).grown hgrow3 (fun e=>by have:=(hown.lt _ e.symm).1;omega) (fun e=>by have:=(hown.lt _ e.symm).1;omega);have OM:=C9 (aL jX hg1) (aX w1 _ none) hgrow3 (fun k hk=>by have:=(hown.lt _ hk).1;omega);have hs3:=hgrow3.size;have hs1:=hg1.size;have hsD:wr.drew.heap.size=wr.heap.size:=rfl;have hsA:(w1.alloc (.cells (YP.cI (.slice xa xk xc,it)).toArray 262)).heap.size=w1.heap.size+1:=by simp
     clear hown3 hgrow3 hat hown1 iL UZ c0 f0 hax;go_wp2_with fail;go_roundg aG.length
     case measure=>omega
     case rel=>
      refine⟨aG,acc++[it],_,f',rfl,by omega,by simp;omega,?_,hr3.setOther _ _ (by omega) (by omega),fU.set 0 _,kB3.other (by omega) _,?_,dZ OM (by omega) _ _,Cj⟩
      ·simp only[World.setCell,sY];have:=hs3;simp at this;omega
      ·exact mH.kept (Im YP d) G3 (iM w3 (w.heap.size+1) 0 _) (fun k hk=>by cases hk;omega)
end
namespace Pk
def l6(b:ByteArray)(i:Nat):Nat:=(b.data.getD i 0).toNat
def BI(b:ByteArray)(k:Nat):Nat->Nat
 |0=>0
 |i+1=>BI b k i*256+l6 b (k+i)
structure Rd where
 k:Nat
 bad:Bool
def Rd.fail(r:Rd):Rd:={ r with bad:=true }
def num(b:ByteArray)(n:Nat)(r:Rd):Nat×Rd:=if b.size-r.k<n then (0,r.fail) else (BI b r.k n,{ r with k:=r.k+n })
def below(b:ByteArray)(m n:Nat)(r:Rd):Nat×Rd:=if m<=(num b n r).1 then (0,(num b n r).2.fail) else num b n r
def size(b:ByteArray)(m:Nat)(r:Rd):Nat×Rd:=((below b m 2 r).1+1,(below b m 2 r).2)
theorem Jg(b:ByteArray)(i:Nat):l6 b i<256:=(b.data.getD i 0).toNat_lt
theorem RA(b:ByteArray)(k:Nat):∀n,BI b k n<256 ^ n
 |0=>by simp[BI]
 |n+1=>by
  have h1:=RA b k n;have h2:=Jg b (k+n);rw[BI,Nat.pow_succ];omega
theorem FJ(b:ByteArray)(n:Nat)(r:Rd):(num b n r).1<256 ^ n:=by
 unfold num
 split
 ·exact Nat.pow_pos (by decide)
 ·exact RA b r.k n
theorem yI{b:ByteArray}{m n:Nat}{r:Rd}(h:0<m):(below b m n r).1<m:=by
 unfold below
 split
 ·exact h
 ·omega
end Pk
structure fI(w:World)(rb:Nat)(b:ByteArray)(r:Pk.Rd):Prop where
 blk:aj w rb #[.string (b.extract r.k b.size),.bool r.bad] 71
 le:r.k<=b.size
theorem fI.move{w w':World}{rb:Nat}{b:ByteArray}{r:Pk.Rd}(h:fI w rb b r)(hk:w'.heap[rb]?=w.heap[rb]?):fI w' rb b r:=⟨hk.trans h.blk,h.le⟩
structure jf(w:World)(rb:Nat)(b:ByteArray)(w':World)(r':Pk.Rd):Prop where
 m:fI w' rb b r'
 g:w.grownBy w' (some rb)
 bS:w'.heap.size=w.heap.size
theorem fI.fail{w:World}{rb:Nat}{b:ByteArray}{r:Pk.Rd}(h:fI w rb b r):jf w rb b (w.setCell ⟨rb,1,none⟩ (.bool true)) r.fail:=⟨⟨h.blk.set 1 _,h.le⟩,iM _ _ _ _,by simp⟩
theorem abb(b:ByteArray)(k n:Nat):(b.extract k b.size).extract n (b.extract k b.size).size=b.extract (k+n) b.size:=by
 rw[ByteArray.extract_extract];congr 1;simp;omega
theorem ext_get(b:ByteArray)(k i:Nat)(h:k+i<b.size)(h2:i<(b.extract k b.size).size):(((b.extract k b.size)[i]).toNat:Int)=((Pk.l6 b (k+i):Nat):Int):=by
 unfold Pk.l6;have e:(b.extract k b.size)[i]=b[k+i]:=ByteArray.getElem_extract ..;have h':k+i<b.data.size:=h;rw[e,mB,j7 h'];rfl
theorem alV(x y:Nat)(hx:x<16777216)(hy:y<256):bits BinOp.or IntKind.u32 ((x:Int)*256 % 4294967296) ((y:Int) % 4294967296)=((x*256+y:Nat):Int):=by
 have e1:(x:Int)*256 % 4294967296=((x*256:Nat):Int):=by omega
 have e2:(y:Int) % 4294967296=((y:Nat):Int):=by omega
 rw[e1,e2,u32_or_nat _ _ (by omega) (by omega),nat_join 8 (x*256) y (by omega) hy]
theorem EZ{w:World}{rb n:Nat}{b:ByteArray}{r:Pk.Rd}(h:fI w rb b r)(hn:n<=4):Calls prog 29 #[.pointer (some ⟨rb,0,none⟩),.int .i64 (n:Int)] w fun e w'=>e=.returned (.int .u32 ((Pk.num b n r).1:Int))/\jf w rb b w' (Pk.num b n r).2:=by
 obtain⟨s,hs⟩:∃s,s=b.extract r.k b.size:=⟨_,rfl⟩;have hsz:s.size=b.size-r.k:=by rw[hs];simp
 have c0:w.cell? ⟨rb,0,none⟩=some (.string s):=by rw[hs];exact h.blk.cell 0
 have c1:w.cell? ⟨rb,1,none⟩=some (.bool r.bad):=h.blk.cell 1;have f0:=h.blk.frozen 0;have f1:=h.blk.frozen 1;have HF:Hid (jf w rb b (w.setCell ⟨rb,1,none⟩ (.bool true)) r.fail):=h.fail
 by_cases hlt:s.size<n
 ·have en:Pk.num b n r=(0,r.fail):=by unfold Pk.num;rw[de (by omega)]
  rw[en];have e1:(s.size:Int)<(n:Int):=by omega
  clear hsz hs en;go_enter func29,ntmps29;go_wp2_with fail;go_ret;exact⟨rfl,HF.out⟩
 ·have en:Pk.num b n r=(Pk.BI b r.k n,{ r with k:=r.k+n }):=by unfold Pk.num;rw[dk (by omega)]
  rw[en];have e1:¬(s.size:Int)<(n:Int):=by omega
  have HB:Hid (∀i(hi:i<s.size),((s[i]).toNat:Int)=((Pk.l6 b (r.k+i):Nat):Int)):=by subst hs;exact fun i hi=>ext_get b r.k i (by omega) hi
  have HE:Hid (jf w rb b (w.setCell ⟨rb,0,none⟩ (.string (s.extract n s.size))) { r with k:=r.k+n }):=by
   subst hs;have hle:=h.le;refine⟨⟨?_,by show r.k+n<=b.size;omega⟩,iM _ _ _ _,by simp⟩;rw[abb];exact h.blk.set 0 _
  clear hsz hs en HF;go_enter func29,ntmps29;go_wp2_with fail
  go_loop [5,18] (fun v i=>∃j:Nat,j<=n/\i=.int .i64 (j:Int)/\v=.int .u32 ((Pk.BI b r.k j:Nat):Int)) (fun _ i=>n - (intOf i).toNat)
  case atStart=>exact⟨0,by omega,rfl,rfl⟩
  case round=>
   obtain⟨j,hj,rfl,rfl⟩:=hrel
   by_cases hjn:j<n
   ·have hjs:j<s.size:=by omega
    have j1:(j:Int)<(n:Int):=by omega
    have hb:=HB.out j hjs;go_wp2_with fail;refine⟨⟨j+1,by omega,by go_num,?_⟩,by simp[intOf];omega⟩;rw[Pk.BI,alV _ _ (dd (Pk.RA b r.k j) (ry (by decide) (show j<=3 by omega))) (Pk.Jg b _)]
   ·obtain rfl:j=n:=by omega
    have n1:(0:Int)<=(j:Int):=by omega
    go_wp2_with fail;go_ret;exact⟨rfl,HE.out⟩
theorem EQ{w:World}{rb m n:Nat}{b:ByteArray}{r:Pk.Rd}(h:fI w rb b r)(hn:n<=4):Calls prog 28 #[.pointer (some ⟨rb,0,none⟩),.int .i64 (m:Int),.int .i64 (n:Int)] w fun e w'=>e=.returned (.int .i64 ((Pk.below b m n r).1:Int))/\jf w rb b w' (Pk.below b m n r).2:=by
 have q1:=EZ h hn;have hx:(Pk.num b n r).1<4294967296:=dd (Pk.FJ b n r) (by have:256 ^ n<=256 ^ 4:=ry (by decide) hn;exact this);have HK:Hid (∀w',jf w rb b w' (Pk.num b n r).2->jf w rb b (w'.setCell ⟨rb,1,none⟩ (.bool true)) (Pk.num b n r).2.fail/\w'.cell? ⟨rb,1,none⟩=some (.bool (Pk.num b n r).2.bad)/\w'.frozen? ⟨rb,1,none⟩=false):=fun w' T=>⟨⟨T.m.fail.m,aL T.g T.m.fail.g,T.m.fail.bS.trans T.bS⟩,T.m.blk.cell 1,T.m.blk.frozen 1⟩
 unfold Pk.below;generalize Pk.num b n r=x at *
 by_cases hm:m<=x.1
 ·rw[de hm]
  have e1:(m:Int)<=(x.1:Int):=by omega
  go_enter func28,ntmps28;go_upto_region 2 with (go_at_call 29;refine q1.mono ?_;rintro e w1⟨rfl,T⟩)
  obtain⟨T2,c1,f1⟩:=HK.out _ T;go_wp2_with fail;go_ret;exact⟨rfl,T2⟩
 ·rw[dk hm]
  have e1:(x.1:Int)<(m:Int):=by omega
  go_enter func28,ntmps28
  go_wp2_with (go_at_call 29;refine q1.mono ?_;rintro e w1⟨rfl,T⟩)
  go_ret;exact⟨rfl,T⟩
theorem MJ{w:World}{rb m:Nat}{b:ByteArray}{r:Pk.Rd}(h:fI w rb b r)(h0:0<m)(hm:m<=100000):Calls prog 26 #[.pointer (some ⟨rb,0,none⟩),.int .i64 (m:Int)] w fun e w'=>e=.returned (.int .i64 ((Pk.size b m r).1:Int))/\jf w rb b w' (Pk.size b m r).2:=by
 have q1:=EQ (m:=m) h (show 2<=4 by decide);have hx:=Pk.yI (b:=b) (n:=2) (r:=r) h0;unfold Pk.size;generalize Pk.below b m 2 r=x at *;go_enter func26,ntmps26
 go_wp2_with (go_at_call 28;refine q1.mono ?_;rintro e w1⟨rfl,T⟩)
 go_ret;exact⟨Dl (by omega),T⟩
namespace Pk
def emp:ByteArray:=ByteArray.empty
def words(b:ByteArray):Nat->Rd->List ByteArray×Rd
 |0,r=>([],r)
 |n+1,r=>if b.size - (num b 1 r).2.k<(num b 1 r).1 then (List.replicate (n+1) emp,(num b 1 r).2.fail) else
  (b.extract (num b 1 r).2.k ((num b 1 r).2.k+(num b 1 r).1)::(words b n { (num b 1 r).2 with k:=(num b 1 r).2.k+(num b 1 r).1 }).1,(words b n { (num b 1 r).2 with k:=(num b 1 r).2.k+(num b 1 r).1 }).2)
theorem IB(b:ByteArray):∀n r,(words b n r).1.length=n
 |0,_=>rfl
 |n+1,r=>by
  rw[words]
  split
  ·simp
  ·simp[IB b n]
end Pk
def mI(l:List ByteArray):Array Value:=(l.map Value.string).toArray
theorem ai9(l:List ByteArray)(i:Nat)(s:ByteArray):(mI l).setIfInBounds i (.string s)=mI (l.set i s):=by
 unfold mI;rw[iz,nt]
theorem aja(l:List ByteArray){i:Nat}{s:ByteArray}(h:l[i]?=some s):(mI l)[i]?=some (.string s):=by
 unfold mI;simp[h]
theorem Tryz.alW:(prog.info? 9).map (fun i=>(i.zero,i.size,i.bytes))=some (some (.string Pk.emp),1,16):=by kernel_rfl
theorem ahG(n:Nat):madeCells #[.string Pk.emp] (n*1)=mI (List.replicate n Pk.emp):=by
 unfold madeCells mI;apply pN
 ·simp
 ·intro i h1 h2
  simp[qt]
theorem ahH{n:Nat}(hn:n<=100000)(w:World):(Instr.makeSlice 53 (.int .i64 (n:Int)) (.int .i64 (n:Int))).run prog w=.ok (.slice (some ⟨w.heap.size,0,none⟩) n n) (w.alloc (.cells (mI (List.replicate n Pk.emp)) 9)):=by
 obtain⟨i0,hi,hz0,hz1,hz2⟩:=fd Tryz.alW;have h:=pj (P:=prog) w 53 9 i0 _ (by kernel_rfl) hi hz0 .i64 .i64 (n:Int) (n:Int) (by omega) (nh _) (by rw[hz2];omega) (by omega);rw[h,gz,hz1];have e:Value.cells (.string Pk.emp)=#[.string Pk.emp]:=rfl;rw[e,ahG]
theorem alX(b:ByteArray)(k n:Nat)(hk:k<=b.size)(h:n<=b.size-k):(b.extract k b.size).extract 0 n=b.extract k (k+n):=by
 rw[ByteArray.extract_extract];congr 1;omega
theorem fQ(W:World){g k i:Nat}(u:Value)(h:k≠g):(W.setCell ⟨g,i,none⟩ u).heap[k]?=W.heap[k]?:=zS0 h
theorem Zn{w:World}{rb n:Nat}{b:ByteArray}{r:Pk.Rd}(h:fI w rb b r)(hn:n<=1000):Calls prog 27 #[.pointer (some ⟨rb,0,none⟩),.int .i64 (n:Int)] w fun e w'=>e=.returned (.slice (some ⟨w.heap.size,0,none⟩) n n)/\aj w' w.heap.size (mI (Pk.words b n r).1) 9/\fI w' rb b (Pk.words b n r).2/\w.grownBy w' (some rb):=by
 have hmk:=fun w=>ahH (n:=n) (by omega) w
 have hrl:=h.blk.lt;obtain⟨g,hg⟩:∃g,w.heap.size=g:=⟨_,rfl⟩;obtain⟨w1,hw1⟩:∃V,V=w.alloc (.cells (mI (List.replicate n Pk.emp)) 9):=⟨_,rfl⟩;have H1:Hid (fI w1 rb b r/\aj w1 w.heap.size (mI (List.replicate n Pk.emp)) 9/\w.grownBy w1 (some rb)):=by
  rw[hw1];exact⟨h.move (di _ _ _ hrl),aj.new ..,aX ..⟩
 clear h;rw[hg]at H1|-;go_enter func27,ntmps27;go_wp2_with fail;rw[<-hw1];clear hw1 hmk
 go_loopw [12] (fun i wr=>∃(j:Nat)(r1:Pk.Rd)(l:List ByteArray),i=.int .i64 (j:Int)/\Hid (j<=n/\l.length=j/\fI wr rb b r1/\aj wr g (mI (l++List.replicate (n-j) Pk.emp)) 9/\w.grownBy wr (some rb)/\Pk.words b n r=(l++(Pk.words b (n-j) r1).1,(Pk.words b (n-j) r1).2))) (fun i _=>n - (intOf i).toNat)
 case atStart=>exact⟨0,r,[],rfl,by omega,rfl,H1.out.1,H1.out.2.1,H1.out.2.2,rfl⟩
 case round=>
  clear H1;obtain⟨j,r1,l,rfl,HI⟩:=hrel;obtain⟨hj,hl,hR,hB,hG,hW⟩:=HI.out;clear HI
  by_cases hjn:j<n
  ·have j1:(j:Int)<(n:Int):=by omega
   have j0:(0:Int)<=(j:Int):=by omega
   have q1:=EZ hR (show 1<=4 by decide);have hx:=Pk.FJ b 1 r1;obtain⟨m,hm⟩:∃m,n-j=m+1:=⟨n-j-1,by omega⟩;rw[hm,Pk.words]at hW;obtain⟨x,hxe⟩:∃x,Pk.num b 1 r1=x:=⟨_,rfl⟩;rw[hxe]at q1 hx hW;have hrg:rb≠g:=by omega
   have HN:Hid (∀w2,jf wr rb b w2 x.2->fI w2 rb b x.2/\aj w2 g (mI (l++List.replicate (m+1) Pk.emp)) 9/\w.grownBy w2 (some rb)):=fun w2 T=>⟨T.m,by rw[<-hm];exact hB.grown T.g (by simp;omega),aL hG T.g⟩
   clear hxe hR hB hG;go_upto_region 6 with (go_at_call 29;refine q1.mono ?_;rintro e w2⟨rfl,T⟩)
   obtain⟨hR,hB,hG⟩:=HN.out _ T;clear HN q1 T;obtain⟨s,hs⟩:∃s,s=b.extract x.2.k b.size:=⟨_,rfl⟩;have hsz:s.size=b.size-x.2.k:=by rw[hs];simp
   have c0:w2.cell? ⟨rb,0,none⟩=some (.string s):=by rw[hs];exact hR.blk.cell 0
   have c1:w2.cell? ⟨rb,1,none⟩=some (.bool x.2.bad):=hR.blk.cell 1;have f0:=hR.blk.frozen 0;have f1:=hR.blk.frozen 1
   by_cases hlt:s.size<x.1
   ·rw[de (by omega)]at hW
    have e1:(s.size:Int)<(x.1:Int):=by omega
    have HE:Hid (aj (w2.setCell ⟨rb,1,none⟩ (.bool true)) g (mI (Pk.words b n r).1) 9/\fI (w2.setCell ⟨rb,1,none⟩ (.bool true)) rb b (Pk.words b n r).2/\w.grownBy (w2.setCell ⟨rb,1,none⟩ (.bool true)) (some rb)):=by
     rw[hW];exact⟨hB.other hrg _,hR.fail.m,aL hG hR.fail.g⟩
    clear hB hR hG hsz hs hW;go_wp2_with fail;go_ret;exact⟨rfl,HE.out⟩
   ·rw[dk (by omega)]at hW
    have e1:(x.1:Int)<=(s.size:Int):=by omega
    have cj:w2.cell? ⟨g,j,none⟩=some (.string Pk.emp):=(hB.cell j).trans (aja _ (by rw[eJ (by omega),hl,ij];rfl));have fj:=hB.frozen j;have HC:Hid (∀w3,Below w2.heap.size w2 w3->w3.cell? ⟨rb,0,none⟩=some (.string s)/\w3.frozen? ⟨rb,0,none⟩=false/\w3.cell? ⟨g,j,none⟩=some (.string Pk.emp)/\w3.frozen? ⟨g,j,none⟩=false/\fI ((w3.setCell ⟨g,j,none⟩ (.string (s.extract 0 x.1))).setCell ⟨rb,0,none⟩ (.string (s.extract x.1 s.size))) rb b { x.2 with k:=x.2.k+x.1 }/\aj ((w3.setCell ⟨g,j,none⟩ (.string (s.extract 0 x.1))).setCell ⟨rb,0,none⟩ (.string (s.extract x.1 s.size))) g (mI (l++[b.extract x.2.k (x.2.k+x.1)]++List.replicate m Pk.emp)) 9/\w.grownBy ((w3.setCell ⟨g,j,none⟩ (.string (s.extract 0 x.1))).setCell ⟨rb,0,none⟩ (.string (s.extract x.1 s.size))) (some rb)):=fun w3 hb=>by
     have D6:=hR.move (hb.block _ hR.blk.lt);have hB3:aj w3 g (mI (l++List.replicate (m+1) Pk.emp)) 9:=(hb.block _ hB.lt).trans hB;have hk:=hR.le;refine⟨by rw[hs];exact D6.blk.cell 0,D6.blk.frozen 0,(hB3.cell j).trans ((hB.cell j).symm.trans cj),hB3.frozen j,⟨?_,by show x.2.k+x.1<=b.size;omega⟩,?_,?_⟩
     ·subst hs
      have:=(D6.blk.other (b':=g) (i:=j) (fun e=>hrg e.symm) (.string ((b.extract x.2.k b.size).extract 0 x.1))).set 0 (.string ((b.extract x.2.k b.size).extract x.1 (b.extract x.2.k b.size).size));rw[abb]at this|-;exact this
     ·have:=(hB3.set j (.string (s.extract 0 x.1))).other (b':=rb) (i:=0) hrg (.string (s.extract x.1 s.size))
      rw[ai9,mr _ _ (by omega),hl,ij,mT,ms]at this;rw[dq,List.singleton_append,<-alX b x.2.k x.1 hk (by omega),<-hs];exact this
     ·refine aL (b:=w3.setCell ⟨g,j,none⟩ (.string (s.extract 0 x.1))) ⟨hb.1.trans hG.1,hb.2.trans hG.2,hb.3.trans hG.3,?_,fun k hk hn=>?_⟩ (iM _ _ _ _)
      ·simp only[World.size_setCell]
       exact dg hG.size hb.size
      ·rw[fQ _ _ (by omega),hb.block k (dd hk hG.size)]
       exact hG.block k hk hn
    have HW:Hid (Pk.words b n r=(l++[b.extract x.2.k (x.2.k+x.1)]++(Pk.words b m { x.2 with k:=x.2.k+x.1 }).1,(Pk.words b m { x.2 with k:=x.2.k+x.1 }).2)):=by
     rw[hW,dq];rfl
    clear hR hB hG hs hsz hW;have n0:(0:Int)<=(x.1:Int):=by omega
    go_upto_region 10 with (go_at_call 57;refine(Mt _ _ (by simp;omega)).mono ?_;rintro e w3⟨rfl,hb⟩;obtain⟨k1,k2,k3,k4,k5,k6,k7⟩:=HC.out _ hb)
    have k1':(w3.setCell ⟨g,j,none⟩ (.string (s.extract 0 x.1))).cell? ⟨rb,0,none⟩=some (.string s):=(cJ (w:=w3) (fQ _ _ hrg)).trans k1;have k2':(w3.setCell ⟨g,j,none⟩ (.string (s.extract 0 x.1))).frozen? ⟨rb,0,none⟩=false:=by
     unfold World.frozen? at k2|-;rw[fQ _ _ hrg];exact k2
    go_wp2_with fail;refine⟨⟨j+1,_,l++[b.extract x.2.k (x.2.k+x.1)],by go_num,by omega,by simp[hl],k5,?_,k7,?_⟩,by simp[intOf];omega⟩
    ·rw[show n - (j+1)=m by omega]
     exact k6
    ·rw[show n - (j+1)=m by omega]
     exact HW.out
  ·obtain rfl:j=n:=by omega
   rw[ij,Pk.words]at hW;rw[ij,si,<-show (Pk.words b j r).1=l++[] by rw[hW]]at hB;rw[<-show (Pk.words b j r).2=r1 by rw[hW]]at hR;clear hW;go_wp2_with fail;go_ret;exact⟨rfl,hB,hR,hG⟩
theorem aB{w:World}{base e size:Nat}{v:Value}{n:Nat}{xs:List Value}(h:w.ownsRow base e size v n xs):∃a c,v=.slice a n c/\n<=maxLen:=by
 rcases h.2 with ⟨rfl,rfl⟩|⟨g,cap,cur,rfl,_,_,h1,h2,_⟩
 ·exact⟨_,_,rfl,eR _⟩
 ·exact⟨_,_,rfl,dg h1 h2⟩
theorem own_below{w w':World}{base e size:Nat}{v:Value}{n:Nat}{xs:List Value}(h:w.ownsRow base e size v n xs)(hb:Below w.heap.size w w'):w'.ownsRow base e size v n xs :=
 aC h fun g hg=>hb.block g (h.lt g hg).2
theorem IC{n m:Nat}{P:Program}{l:Nat}{f:FuncId}{tmps:Array Value}{assign body:Code}{w:World}{R:Ending->World->Prop}(h:RoundIn Fence.wide n P l f tmps assign body w R):RoundIn Fence.wide m P l f tmps assign body w R:=⟨h.1,fun c cs _=>h.2 c cs (room_wide _)⟩
structure xJ(J:Nat->(Nat->Prop)->World->Prop):Prop where
 own:∀i Z A B row,J i Z A->A.grownBy B row->(∀r,row=some r->Z r)->J i Z B
 new:∀i Z A o,J i Z A->J i (fun k=>Z k\/k=A.heap.size) (A.alloc o)
theorem Jq{J:Nat->(Nat->Prop)->World->Prop}{i:Nat}{Z Z':Nat->Prop}{A:World}(h:J i Z A)(e:∀k,Z k↔Z' k):J i Z' A:=(show Z=Z' from funext fun k=>propext (e k))▸h
theorem xJ.put{J:Nat->(Nat->Prop)->World->Prop}(h:xJ J){i:Nat}{Z:Nat->Prop}{W:World}{l:Nat}(o':Obj)(hs:J i Z W)(hl:Z l):J i Z (W.putObj l o') :=
 h.own i Z W _ (some l) hs (grownBy_putObj' W l o') (fun r e=>by cases e;exact hl)
def zW(P:Program)(g:Nat)(lb:Array Value){α:Type}(encs:α->Array Value)(xs:List α)(Rd:World->Prop):Prop :=
 ∀(l:Nat)(J:Nat->(Nat->Prop)->World->Prop)(W:World),xJ J->(∀i Z W',J i Z W'->Rd W') ->
  (∀(i:Nat)(x:α)(Z:Nat->Prop)(W1:World),xs[i]?=some x->J i Z W1->YieldAt Fence.wide 9 P l (encs x) W1 fun e W'=>e=.returned (.bool true)/\J (i+1) Z W'/\∀k,Z k->k<W1.heap.size->W'.heap[k]?=W1.heap[k]?) ->
  J 0 (fun _=>False) W->Calls P g (#[.func (.yield l) #[] #[]]++lb) W fun e W'=>(∃v,e=.returned v)/\∃Z,J xs.length Z W'
def yN(Z:Nat->Prop)(I:World->Prop)(W:World):Exit->Act->World->Prop
 |.normal,_,W'=>I W'/\∀k,Z k->k<W.heap.size->W'.heap[k]?=W.heap[k]?
 |_,_,_=>False
theorem Iw {P:Program} {α:Type} {g:Operand} {ps:Array Tmp} {assign body:Code} {Q:Exit->Act->World->Prop} {a:Act} {w:World} {n:Nat}
  {gf:Nat} {lb:Array Value} (hg:a.eval g=.func (.func gf) #[] lb) (eg:∀args w,(callFunc gf args).run P w=.ok (.enter gf args) w)
  {encs:α->Array Value} {xs:List α} {Rd:World->Prop} (hseq:zW P gf lb encs xs Rd) (hps:∀x,(encs x).size=ps.size)
  (I:Nat->(Nat->Prop)->World->Prop) (hI:xJ I) (hR:∀i Z W,I i Z W->Rd W) (h0:I 0 (fun _=>False) w)
  (Ax:α->Act->World->Prop) (hAx:∀(x:α)(a':Act)(A:World)(o':Obj),Ax x a' A->Ax x a' (A.putObj (w.heap.size+1) o'))
  (hassign:∀(l i:Nat)(x:α)(Z:Nat->Prop)(W:World)(K:Act->World->Prop),w.heap.size+2<=W.heap.size->I i Z W->(∀a' W',W.heap.size<=W'.heap.size->(∀k,Z k->k<W.heap.size->W'.heap[k]?=W.heap[k]?)->I i Z W'->Ax x a' W'->K a' W')->assign.wpIn (Fence.wide.inRound l) 9 P (Exit.then K (fun _ _ _=>False)) { tmps:=(ps.zip (encs x)).foldl (fun t(p,v)=>t.setIfInBounds p v) a.tmps,defers:=[] } W)
  (hbody:∀(l i:Nat)(x:α)(Z:Nat->Prop)(a':Act)(W:World),xs[i]?=some x->I i Z W->Ax x a' W->body.wpIn (Fence.wide.inRound l) 9 P (yN Z (I (i+1) Z) W) a' W)
  (hdone:∀(D:Nat)(Z:Nat->Prop)(W:World),w.heap.size<=D->Z D->I xs.length Z W->W.heap[D]?=some (.deferred (some []))->Q .normal { a with defers:={ target:=.collected D,args:=#[] }::a.defers } W) :
  (Code.rangeFunc g ps assign body).wpIn Fence.wide n P Q a w:=by
 refine wpIn_rangeFunc ?_;intro fn hfn;have hd:Fence.wide.round=none:=rfl;rw[hd];obtain⟨rec,hrec⟩:∃rec:LoopState->Option Code->Loop,rec=fun st pe=>{ state:=st,pending:=pe,fn,tmps:=a.tmps,params:=ps,assign,body,defers:=w.heap.size }:=⟨_,rfl⟩
 obtain⟨W1,hW1⟩:∃W1,(w.alloc (.deferred (some []))).alloc (.loop (rec .ready none))=W1:=⟨_,rfl⟩;have hL1:W1.heap[w.heap.size+1]?=some (.loop (rec .ready none)):=by
  rw[<-hW1];have:=World.alloc_heap_new (w.alloc (.deferred (some []))) (.loop (rec .ready none));rwa [fb]at this
 have hK1:W1.heap[w.heap.size]?=some (.deferred (some [])):=by
  rw[<-hW1];exact(di _ _ _ (by simp)).trans (World.alloc_heap_new w _)
 have hI1:I 0 (fun k=>False\/k=w.heap.size\/k=w.heap.size+1) W1:=by
  have:=hI.new _ _ _ (.loop (rec .ready none)) (hI.new _ _ _ (.deferred (some [])) h0);rw[hW1,fb]at this;exact Jq this fun k=>or_assoc
 refine⟨w.heap.size+1,[{ target:=.collected w.heap.size,args:=#[] }],W1,{ target:=.fn (.func gf) lb,args:=#[.func (.yield (w.heap.size+1)) #[] #[]] },W1,gf,#[.func (.yield (w.heap.size+1)) #[] #[]]++lb,W1,?_,?_,fun _ _=>trivial,?_,fun h=>(by cases h),?_⟩
 ·rw[<-hW1,hrec];exact run_enterLoop_outer _ _ _ _ _
 ·simp only[resolve,hg]
  simp[go_sem]
 ·simp[invoke,go_sem,eg]
 ·refine hU.2 ((hseq (w.heap.size+1) (fun i Z W=>I i (fun k=>Z k\/k=w.heap.size\/k=w.heap.size+1) W/\W.heap[w.heap.size+1]?=some (.loop (rec .ready none))/\W.heap[w.heap.size]?=some (.deferred (some []))/\∀k,Z k->w.heap.size+2<=k) W1 ⟨fun s Z A B row hs hg' hr=>?_,fun s Z A o hs=>?_⟩ (fun i Z W h=>hR i _ W h.1) ?_ ⟨hI1,hL1,hK1,fun k h=>h.elim⟩).mono ?_)
  ·obtain⟨hs1,hs2,hs3,hs4⟩:=hs
   have l1:=(dv.1 hs2).1;have keep:∀k,k<w.heap.size+2->B.heap[k]?=A.heap[k]?:=fun k hk=>hg'.block k (by omega) (fun e=>by have:=hs4 k (hr k e.symm);omega)
   exact⟨hI.own s _ A B row hs1 hg' (fun r e=>.inl (hr r e)),(keep _ (by omega)).trans hs2,(keep _ (by omega)).trans hs3,hs4⟩
  ·obtain⟨hs1,hs2,hs3,hs4⟩:=hs
   have l1:=(dv.1 hs2).1;refine⟨?_,(di _ _ _ l1).trans hs2,(di _ _ _ (by omega)).trans hs3,fun k h=>?_⟩
   ·have:=hI.new s _ A o hs1
    exact Jq this fun k=>by grind
   ·rcases h with h | h
    ·exact hs4 k h
    ·omega
  ·rintro i x Z W hx⟨hi,hl,hk,hz⟩
   have hlt:w.heap.size+1<W.heap.size:=(dv.1 hl).1;have hy:=run_yield (P:=P) (args:=encs x) hl (by rw[hrec];exact hps x);rw[hrec]at hy;refine⟨fn,_,assign,body,hy,roundIn_of_wpIn hfn (hassign _ i x _ W _ (by omega) hi ?_)⟩;clear hy;intro a' Wa hsa hza hia hax;have hl2:=(hza _ (.inr (.inr rfl)) (by omega)).trans hl;have hk2:=(hza _ (.inr (.inl rfl)) (by omega)).trans hk;have hpz:∀o,(Wa.putObj (w.heap.size+1) o).heap.size=Wa.heap.size:=fun o=>by simp[World.putObj]
   refine⟨_,run_beginRound hl2 (by rw[hrec]),?_⟩;refine wpIn_mono (hbody _ i x _ a' _ hx (hI.put _ hia (.inr (.inr rfl))) (hAx x a' _ _ hax)) ?_;rintro e a3 W3 hp;cases e with
   |normal=>
    obtain⟨hi3,hz3⟩:=hp;have hl3:=(hz3 _ (.inr (.inr rfl)) (by rw[hpz];omega)).trans (World.putObj_heap_same (dv.1 hl2).1);have hr:=run_endRound (P:=P) none hl3;rw[hrec]at hr;refine⟨_,_,hr,rfl,⟨hI.put _ hi3 (.inr (.inr rfl)),?_,?_,hz⟩,fun k hkz hkl=>?_⟩
    ·rw[World.putObj_heap_same (dv.1 hl3).1,hrec]
     rfl
    ·rw[World.putObj_heap_other (by omega),hz3 _ (.inr (.inl rfl)) (by rw[hpz];omega),World.putObj_heap_other (by omega)]
     exact hk2
    ·have:=hz k hkz
     rw[World.putObj_heap_other (by omega),hz3 k (.inl hkz) (by rw[hpz];omega),World.putObj_heap_other (by omega),hza k (.inl hkz) hkl]
   |ret=>exact hp.elim
   |exit id=>exact hp.elim
   |goto t=>exact hp.elim
   |panic ch=>exact hp.elim
   |outgrown=>exact hp.elim
  ·rintro e W2⟨⟨v,rfl⟩,Z,hi,hl,hk,hz⟩
   exact⟨none,_,by have:=run_endLoop (P:=P) hl (by rw[hrec];simp);rw[hrec]at this;exact this,hdone _ _ _ (zL0) (.inr (.inl rfl)) (hI.put _ hi (.inr (.inr rfl))) ((World.putObj_heap_other (by omega)).trans hk)⟩
theorem xJ.drew{J:Nat->(Nat->Prop)->World->Prop}(h:xJ J){i:Nat}{Z:Nat->Prop}{W:World}(hs:J i Z W)(n:Nat):J i Z (W.drewN n):=h.own i Z W _ none hs ⟨rfl,rfl,rfl,zL0,fun _ _ _=>rfl⟩ fun r e=>(by cases e)
def M8(ops:Array Oper):Bool:=ops.toList.all fun o=>match o.op with
 |.defer _=>false
 |_=>true
theorem agy{ops:Array Oper}(h:M8 ops=true){i:Nat}{o:Oper}(ho:ops[i]?=some o):∀c,o.op≠.defer c:=fun c e=>by
 have:=pM.1 h o (by rw[Array.mem_toList_iff];exact Array.mem_of_getElem? ho);rw[e]at this;cases this
theorem L9{F:Fence}{n:Nat}{P:Program}{md:Region.Mode}{ops:Array Oper}{Q:Exit->Act->World->Prop}(hro:F.round=none)(hd:M8 ops=true)(l:Nat):∀(fuel:Nat)(listed:Array Bool)(a:Act)(w:World),wpAnyIn F n P md ops Q fuel listed a w->wpAnyIn (F.inRound l) n P md ops Q fuel listed a w
 |0,_,_,_,h=>h
 |fuel+1,listed,a,w,h=>by
  refine⟨h.1,fun i hi=>?_⟩;have h1:=h.2 i hi;have hK:∀a w,wpAnyIn F n P md ops Q fuel (listed.setIfInBounds i true) a w->wpAnyIn (F.inRound l) n P md ops Q fuel (listed.setIfInBounds i true) a w:=L9 hro hd l fuel _;have h2:=wpOpIn_mono hK h1;clear h1 hK;unfold wpOpIn at h2|-;cases ho:ops[i]? with
  |none=>rw[ho]at h2;exact h2
  |some o=>
   rw[ho]at h2;simp only at h2|-
   split
   ·rename_i hw
    rw[de hw]at h2;unfold Oper.wpIn at h2|-;refine⟨h2.1,?_⟩;have e:Oper.semAt (F.inRound l).round a.eval o=Oper.semAt F.round a.eval o:=by
     rw[hro,Fence.inRound_round,px l a.eval o (agy hd ho)];rfl
    rw[e];exact h2.2
   ·rename_i hw
    rw[dk hw]at h2;exact h2
theorem Db {n:Nat} {P:Program} {id l:Nat} {Q:Exit->Act->World->Prop} {a:Act} {w:World} {ops:List Oper} (hm:P.follows .mixedOrders=true) (hB:Region.lexB .any ops.toArray=true) (hd:M8 ops.toArray=true)
  (h:wpQuietIn Fence.wide n P ops.toArray (fun w'=>∃n,w'=w.drewN n) (fun a'=>∀w',(∃n,w'=w.drewN n)->Q .normal a' w') ops a):(Code.region id ops.toArray true).wpIn (Fence.wide.inRound l) n P Q a w:=by
 simp only[Region.lexB,j']at hB;refine wpIn_region_any hm (L9 rfl hd l _ _ _ _ (wpAnyIn_of_quiet (C:=fun w'=>∃n,w'=w.drewN n) (Q:=fun a'=>∀w',(∃n,w'=w.drewN n)->Q .normal a' w') rfl (fun _ w' hw' h=>h w' hw') _ _ _ _ ⟨1,rfl⟩ ?_));have:=wpAnyQIn_lex (F:=Fence.wide) (n:=n) (P:=P) (C:=fun w'=>∃n,w'=w.drewN n) (md:=.any) hB.1 ops 0 (Array.replicate ops.toArray.size false) a (by simp) (by simpa using hB.2) h;simpa using this
def oI(ops:List Oper)(i:Nat):List Nat:=match ops[i]? with
 |some o=>(o.after.toList.filter fun e=>Region.binds .any e).map (·.on)
 |none=>[]
theorem mem_ready{ops:List Oper}{L:Array Bool}{i:Nat}:i∈Region.ready .any ops.toArray L↔i<ops.length/\L.getD i true=false/\∀d∈oI ops i,L.getD d false=true:=by
 unfold Region.ready oI;rw[ie,rg,kf];refine and_congr_right fun hi=>?_
 simp only[fR,cF hi,Option.map_some,pD,j',Bool.not_eq_true',Array.all_eq_true_iff_forall_mem,oE,ej,ie,Array.mem_toList_iff];refine and_congr_right fun _=>⟨?_,?_⟩
 ·rintro h d⟨e,⟨he,hb⟩,rfl⟩
  rcases h e he with h1|h1
  ·rw[hb]at h1;cases h1
  ·exact h1
 ·intro h e he
  cases hb:Region.binds .any e with
  |false=>exact .inl rfl
  |true=>exact .inr (h _ ⟨e,⟨he,hb⟩,rfl⟩)
def Na(ops:List Oper):Nat->List Nat->List Nat
 |0,l=>l
 |f+1,l=>Na ops f ((l++l.flatMap (oI ops)).eraseDups)
theorem Xp{ops:List Oper}{L:Nat->Bool}{m:Nat}(hD:∀i,i<m->L i=true->∀d∈oI ops i,L d=true)(hdd:∀i,i<m->∀d∈oI ops i,d<m):∀(f:Nat)(l:List Nat),(∀i∈l,i<m/\L i=true)->∀i∈Na ops f l,i<m/\L i=true
 |0,_,h=>h
 |f+1,l,h=>Xp hD hdd f _ fun i hi=>by
  rw[List.mem_eraseDups,cY,gd]at hi;rcases hi with hi|⟨j,hj,hi⟩
  ·exact h i hi
  ·exact⟨hdd j (h j hj).1 i hi,hD j (h j hj).1 (h j hj).2 i hi⟩
def splitB(pre rest:List Oper):Bool :=
 (List.range pre.length).all (fun i=>(oI (pre++rest) i).all (fun d=>decide (d<i)) && (match ((pre++rest)[i]?).bind (·.guard) with
  | some (j,_)=>decide (j<pre.length)
  |none=>true)) &&
 (List.range pre.length).all (fun i=>(Na (pre++rest) pre.length (oI (pre++rest) pre.length)).contains i) && (oI (pre++rest) pre.length).all (fun d=>decide (d<pre.length)) &&
 (List.range rest.length).all (fun k=>k == 0 || (oI (pre++rest) (pre.length+k)).any (fun d=>decide (pre.length<=d)))
structure ab4(pre rest:List Oper):Prop where
 less:∀i,i<pre.length->∀d∈oI (pre++rest) i,d<i
 grd:∀i,i<pre.length->∀o,(pre++rest)[i]?=some o->∀j b,o.guard=some (j,b)->j<pre.length
 cov:∀i,i<pre.length->i∈Na (pre++rest) pre.length (oI (pre++rest) pre.length)
 fst:∀d∈oI (pre++rest) pre.length,d<pre.length
 aU:∀k,k<rest.length->k≠0->∃d∈oI (pre++rest) (pre.length+k),pre.length<=d
theorem afC{pre rest:List Oper}(h:splitB pre rest=true):ab4 pre rest:=by
 simp only[splitB,j',pM,rg,ii,List.contains_iff_mem,oE,tr,oj]at h;obtain⟨⟨⟨h1,h2⟩,h3⟩,h4⟩:=h;refine⟨fun i hi=>(h1 i hi).1,fun i hi o ho j b hg=>?_,h2,h3,fun k hk h0=>(h4 k hk).resolve_left h0⟩;have:=(h1 i hi).2;rw[ho]at this;simp only[Option.bind_some,hg,ii]at this;exact this
theorem RB{pre rest:List Oper}{i:Nat}(hi:i<pre.length):oI pre i=oI (pre++rest) i:=by
 unfold oI;rw[eC hi]
theorem ahI{F:Fence}{n:Nat}{P:Program}{o:Oper}{a:Act}{K:Act->World->Prop}{Q Q':Exit->Act->World->Prop}(hq:∀e a w,e≠.normal->Q' e a w->Q e a w)(r:Result Next)(h:o.uponIn F n P a K Q' r):o.uponIn F n P a K Q r:=by
 have hl:LetsOut Q'->LetsOut Q:=fun⟨a,w,h⟩=>⟨a,w,hq _ _ _ (by simp) h⟩
 cases r with
 |ok x w' =>
  cases x <;> simp only[Oper.uponIn]at h|- <;>
   first
    | exact h
    | exact⟨h.1,CallsIn.mono h.2 (fun e w'' he=>by cases e <;> first | exact he | exact hq _ _ _ (by simp) he | exact hl he)⟩
    | exact⟨h.1,RoundIn.mono h.2 (fun e w'' he=>by cases e <;> first | exact he | exact hq _ _ _ (by simp) he | exact hl he)⟩
    | exact hq _ _ _ (by simp) h
    | exact hl h
 |halt x w'=>cases x <;> simp only[Oper.uponIn]at h|- <;> first | exact h | exact hq _ _ _ (by simp) h | exact hl h
def JE(F:Fence)(n:Nat)(P:Program)(pre rest:List Oper)(Q:Exit->Act->World->Prop):Exit->Act->World->Prop
 |.normal,a,w=>wpAnyIn F n P .any (pre++rest).toArray Q rest.length (Array.replicate pre.length true++Array.replicate rest.length false) a w
 |e,a,w=>Q e a w
theorem Zo{F:Fence}{n:Nat}{P:Program}{pre rest:List Oper}{Q:Exit->Act->World->Prop}(hS:ab4 pre rest):∀(r:Nat)(L:Array Bool)(a:Act)(w:World),L.size=pre.length->(∀i,i<pre.length->L.getD i false=true->∀d∈oI (pre++rest) i,L.getD d false=true)->L.toList.countP (fun b=>!b)=r->wpAnyIn F n P .any pre.toArray (JE F n P pre rest Q) r L a w->wpAnyIn F n P .any (pre++rest).toArray Q (r+rest.length) (L++Array.replicate rest.length false) a w
 |0,L,a,w,hl,hD,hc,h=>by
  have e:L=Array.replicate pre.length true:=by
   apply pN (by simp[hl]);intro i h1 h2;have:=pZ.1 hc L[i] (by simp);simpa using this
  have:=h.2;rw[fi,e];exact this
 |r+1,L,a,w,hl,hD,hc,h=>by
  have NV:∀i b,i<pre.length->(L++Array.replicate rest.length false).getD i b=L.getD i b:=fun i b hi=>by
   simp[Array.getD,hl,hi,show i<pre.length+rest.length by omega,Array.getElem_append_left]
  have amT:∀i,pre.length<=i->(L++Array.replicate rest.length false).getD i false=false:=fun i hi=>by
   by_cases h2:i<pre.length+rest.length
   ·simp[Array.getD,hl,h2,Array.getElem_append_right,hi]
   ·simp[Array.getD,hl,h2]
  have some:∃i,i<pre.length/\L.getD i false=false:=by
   apply jz;intro hn;have:L.toList.countP (fun b=>!b)=0:=pZ.2 fun b hb=>by
    obtain⟨i,hi,rfl⟩:=li hb;have hi':i<pre.length:=by simpa [hl]using hi
    have:L.getD i false≠false:=fun e=>hn ⟨i,hi',e⟩
    simpa [Array.getD,hl,hi']using this
   omega
  have two:∀i,i<pre.length->L.getD i true=L.getD i false:=fun i hi=>by simp[Array.getD,hl,hi]
  have hrd:∃i,i∈Region.ready .any pre.toArray L:=by
   obtain⟨i,hi,hu⟩:=some
   induction i using Nat.strongRecOn with
   |_ i ih=>
    by_cases hall:∀d∈oI (pre++rest) i,L.getD d false=true
    ·exact⟨i,mem_ready.2 ⟨hi,by rw[two i hi];exact hu,by rw[RB (rest:=rest) hi];exact hall⟩⟩
    ·obtain⟨d,hd⟩:=Classical.not_forall.1 hall
     obtain⟨hd1,hd2⟩:=Classical.not_imp.1 hd;exact ih d (hS.less i hi d hd1) (by have:=hS.less i hi d hd1;omega) (by simpa using hd2)
  have hlow:∀i,i∈Region.ready .any (pre++rest).toArray (L++Array.replicate rest.length false)->i<pre.length:=fun i hi=>by
   obtain⟨h1,h2,h3⟩:=mem_ready.1 hi;apply jz;intro hn
   by_cases e:i=pre.length
   ·subst e
    obtain⟨j,hj,hu⟩:=some;have:=(Xp (L:=fun i=>L.getD i false) hD (fun i hi d hd=>by have:=hS.less i hi d hd;omega) pre.length _ (fun d hd=>⟨hS.fst d hd,by have:=h3 d hd;rwa [NV d false (hS.fst d hd)]at this⟩) j (hS.cov j hj)).2;simp only[hu]at this;cases this
   ·obtain⟨d,hd1,hd2⟩:=hS.aU (i-pre.length) (by rw[cH]at h1;omega) (by omega)
    rw[show pre.length+(i-pre.length)=i by omega]at hd1;have:=h3 d hd1;rw[amT d hd2]at this;cases this
  have hup:∀i,i<pre.length->(i∈Region.ready .any (pre++rest).toArray (L++Array.replicate rest.length false)↔i∈Region.ready .any pre.toArray L):=fun i hi=>by
   rw[mem_ready,mem_ready,NV i true hi,RB (rest:=rest) hi,cH];refine⟨fun⟨_,h2,h3⟩=>⟨hi,h2,fun d hd=>?_⟩,fun⟨_,h2,h3⟩=>⟨by omega,h2,fun d hd=>?_⟩⟩
   ·have:=h3 d hd;rwa [NV d false (by have:=hS.less i hi d hd;omega)]at this
   ·rw[NV d false (by have:=hS.less i hi d hd;omega)];exact h3 d hd
  rw[show r+1+rest.length=(r+rest.length)+1 by omega];refine⟨fun h0=>?_,fun i hi=>?_⟩
  ·obtain⟨i,hi⟩:=hrd
   have:=(hup i (mem_ready.1 hi).1).2 hi;rw[h0]at this;cases this
  ·have zh:=hlow i hi
   have hi':=(hup i zh).1 hi;have h1:=h.2 i hi';obtain⟨-,hu,hdp⟩:=mem_ready.1 hi';have hset:(L++Array.replicate rest.length false).setIfInBounds i true=L.setIfInBounds i true++Array.replicate rest.length false:=by
    rw[Array.setIfInBounds_append_left (by omega)]
   rw[hset];have hK:∀a w,wpAnyIn F n P .any pre.toArray (JE F n P pre rest Q) r (L.setIfInBounds i true) a w->wpAnyIn F n P .any (pre++rest).toArray Q (r+rest.length) (L.setIfInBounds i true++Array.replicate rest.length false) a w:=fun a w=>Zo hS r _ a w (by simp[hl]) (fun j hj hjl d hd=>?_) ?_
   ·have h2:=wpOpIn_mono hK h1
    have eo:pre.toArray[i]?=(pre++rest).toArray[i]?:=by simp[eC zh]
    unfold wpOpIn at h2|-;rw[eo]at h2;cases ho:(pre++rest).toArray[i]? with
    |none=>rw[ho]at h2;exact h2
    |some o=>
     rw[ho]at h2;simp only at h2|-;have ew:Region.wanted o (yielded pre.toArray a.tmps)=Region.wanted o (yielded (pre++rest).toArray a.tmps):=by
      unfold Region.wanted;cases hg:o.guard with
      |none=>rfl
      |some g=>
       obtain⟨j,b⟩:=g;have hj:=hS.grd i zh o (by simpa using ho) j b hg;have:yielded pre.toArray a.tmps j=yielded (pre++rest).toArray a.tmps j:=by
        unfold yielded;rw[show pre.toArray[j]?=(pre++rest).toArray[j]? by simp[eC hj]]
       simp only[this]
     rw[ew]at h2
     split
     ·rename_i hw
      rw[de hw]at h2;unfold Oper.wpIn at h2|-;exact⟨h2.1,ahI (fun e a w he h=>by cases e <;> first | exact absurd rfl he | exact h) _ h2.2⟩
     ·rename_i hw
      rw[dk hw]at h2;exact h2
   ·have gs:∀d,(L.setIfInBounds i true).getD d false=if d=i then true else L.getD d false:=fun d=>by
     by_cases e:d=i
     ·subst e;simp[Array.getD,hl,zh]
     ·have e':¬i=d:=fun h=>e h.symm
      by_cases h2:d<pre.length
      ·simp[Array.getD,hl,h2,e,e']
      ·simp[Array.getD,hl,h2,e]
    rw[gs]at hjl|-
    split
    ·rfl
    ·by_cases e:j=i
     ·subst e;rw[RB (rest:=rest) zh]at hdp;exact hdp d hd
     ·rw[dk e]at hjl
      exact hD j hj hjl d hd
   ·have hlt:i<L.toList.length:=by simp[hl,zh]
    have hv:L.toList[i]=false:=by simpa [Array.getD,hl,zh]using hu
    rw[Array.toList_setIfInBounds,List.countP_set hlt,hc,hv];simp
theorem Zp {n:Nat} {P:Program} {Q:Exit->Act->World->Prop} {a:Act} {w:World} {ops:List Oper} (m:Nat) (hB:Region.lexB .any (ops.take m).toArray=true) (hS:splitB (ops.take m) (ops.drop m)=true)
  (h:wpQuietIn Fence.wide n P (ops.take m).toArray (fun w'=>∃n,w'=w.drewN n) (fun a'=>∀w',(∃n,w'=w.drewN n)->wpAnyIn Fence.wide n P .any ops.toArray Q (ops.drop m).length (Array.replicate (ops.take m).length true++Array.replicate (ops.drop m).length false) a' w') (ops.take m) a):wpAnyIn Fence.wide n P .any ops.toArray Q ops.toArray.size (Array.replicate ops.toArray.size false) a { w with drawn:=w.drawn+1 }:=by
 have e:ops.take m++ops.drop m=ops:=mn m ops;have hs:ops.toArray.size=(ops.take m).length+(ops.drop m).length:=by rw[<-cH,e,kf]
 rw[hs,<-Array.replicate_append_replicate];have:=Zo (F:=Fence.wide) (n:=n) (P:=P) (Q:=Q) (afC hS) (ops.take m).length (Array.replicate (ops.take m).length false) a { w with drawn:=w.drawn+1 } (by simp) (fun i hi h=>by simp[Array.getD]at h) (by rw[Array.toList_replicate,List.countP_replicate];rfl) ?_
 ·rw[e]at this
  exact this
 ·simp only[Region.lexB,j']at hB
  refine wpAnyIn_of_quiet (C:=fun w'=>∃n,w'=w.drewN n) (Q:=fun a'=>∀w',(∃n,w'=w.drewN n)->JE Fence.wide n P (ops.take m) (ops.drop m) Q .normal a' w') rfl (fun _ w' hw' h=>h w' hw') _ _ _ _ ⟨1,rfl⟩ ?_;have:=wpAnyQIn_lex (F:=Fence.wide) (n:=n) (P:=P) (C:=fun w'=>∃n,w'=w.drewN n) (Q:=fun a'=>∀w',(∃n,w'=w.drewN n)->JE Fence.wide n P (ops.take m) (ops.drop m) Q .normal a' w') (md:=.any) hB.1 (ops.take m) 0 (Array.replicate (ops.take m).toArray.size false) a (by simp) (by simpa using hB.2) (by simp only[JE,e];exact h);simpa using this
theorem Me {n:Nat} {P:Program} {id l:Nat} {Q:Exit->Act->World->Prop} {a:Act} {w:World} {ops:List Oper} (m:Nat) (hm:P.follows .mixedOrders=true) (hB:Region.lexB .any (ops.take m).toArray=true) (hd:M8 ops.toArray=true) (hS:splitB (ops.take m) (ops.drop m)=true)
  (h:wpQuietIn Fence.wide n P (ops.take m).toArray (fun w'=>∃n,w'=w.drewN n) (fun a'=>∀w',(∃n,w'=w.drewN n)->wpAnyIn Fence.wide n P .any ops.toArray Q (ops.drop m).length (Array.replicate (ops.take m).length true++Array.replicate (ops.drop m).length false) a' w') (ops.take m) a):(Code.region id ops.toArray true).wpIn (Fence.wide.inRound l) n P Q a w :=
 wpIn_region_any hm (L9 rfl hd l _ _ _ _ (Zp m hB hS h))
theorem mo {n:Nat} {P:Program} {id:Nat} {Q:Exit->Act->World->Prop} {a:Act} {w:World} {ops:List Oper} (m:Nat) (hm:P.follows .mixedOrders=true) (hB:Region.lexB .any (ops.take m).toArray=true) (hS:splitB (ops.take m) (ops.drop m)=true)
  (h:wpQuietIn Fence.wide n P (ops.take m).toArray (fun w'=>∃n,w'=w.drewN n) (fun a'=>∀w',(∃n,w'=w.drewN n)->wpAnyIn Fence.wide n P .any ops.toArray Q (ops.drop m).length (Array.replicate (ops.take m).length true++Array.replicate (ops.drop m).length false) a' w') (ops.take m) a):(Code.region id ops.toArray true).wpIn Fence.wide n P Q a w :=
 wpIn_region_any hm (Zp m hB hS h)
end Go.Proofs.YtagkodkijkpemaaGreatDoor

import Derived.Test.YtfpjphhnjegnjaaGreatDoorCL01
import Derived.Recover
import Derived.Lib.Builder
import Derived.Lib.AppendStr
import Derived.Lib.UnsafeStr
import Derived.Laws.Externs
import Derived.BigQuiet
import Derived.Deep.QuietTactic
import Derived.Lib.ItoaNum
import Derived.Maps.AppendAt
import Derived.MapKept
import Derived.Carry
import Derived.LaidEqlPtr
import Derived.Deep.Cut
import Derived.Laws.AppendOwnNone
import Derived.Laws.BytesString
import Derived.Laws.BitsLemmas
set_option maxHeartbeats 8000000
set_option maxRecDepth 1000000
namespace Go.Proofs.YtfpjphhnjegnjaaGreatDoor
open Lx Go.Proofs.Tryz
open Go.RowKit Tr
open Go.Value renaming slice→ς,int→ι,string→τ,pointer→π,bool→μ,agg→γ,tuple→θ
open Go.IntKind renaming i64→ξ
open Option renaming none→ν,some→ο
open Go.Ending renaming returned→δ
open Go.Obj renaming cells→ζ
open Bool renaming true→η,false→ε
open Go renaming World→ω,Value→υ,Calls→χ
open Go.RowKit renaming Below→φ
open List renaming replicate→ψ
variable{B a c d i j m n p:Nat}{E:TypeId}{F:Nat->Prop}{G v:υ}{H:List It}{P:Program}{b s t:ByteArray}{bs:List Bool}{l:List ByteArray}{ps:List (List Nat)}{r:List Nat}{w w':ω}{x:It}
section
open Go.RowKit
open Lx (Tk)
open Tr
theorem Tryz.akW:(prog.info? 292).map (fun i=>(i.zero,i.size,i.bytes))=ο (ο (.agg #[.int ξ 0,.slice ν 0 0]),2,32):=by kernel_rfl
theorem Tryz.akX:(prog.info? 296).map (fun i=>(i.zero,i.size,i.bytes))=ο (ο (.agg #[.string ⟨#[]⟩,.slice ν 0 0]),2,40):=by kernel_rfl
def cL:υ×Lx.Lv->List υ:=fun q=>[ι ξ (q.2.kind:Int),q.1]
def KL:(Nat->Prop)->ω->υ->Lx.Lv->Prop:=fun F w va lv=>Tr.Seq F w 9 1 cT (fun _ _=>True) va lv.tokens
theorem Aa:sV KL:=fun _ _ _ _ _ _ a b h=>Seq.move h a b (fun _ _ h=>h)
def cR:υ×Lx.Rl->List υ:=fun q=>[τ q.2.name,q.1]
def KR:(Nat->Prop)->ω->υ->Lx.Rl->Prop:=fun F w va r=>fu YP 9 F w va r.alts
theorem rC:sV KR:=fun _ _ _ _ _ _ a b h=>fu.move a b h
def BU(F:Nat->Prop)(w:ω)(vl vr:υ)(g:Lx.Gr):Prop:=Tr.Seq F w 292 2 cL (KL F w) vl g.levels/\Tr.fD F w 296 2 cR KR vr g.rules
def amT(lo:Nat)(w':ω)(v:υ)(g:Lx.Gr):Prop:=∃vl vr,v=γ #[vl,vr]/\BU (In lo w'.heap.size) w' vl vr g
theorem BU.move{F d:Nat->Prop}{w w':ω}{i f:υ}{g:Lx.Gr}(h:BU F w i f g)(a:∀b,F b->w'.heap[b]?=w.heap[b]?)(c:∀b,F b->d b):BU d w' i f g :=
 ⟨h.1.move a c fun _ _ h=>Aa _ _ _ _ _ _ a c h,h.2.move a c fun _ _ _ k h=>rC _ _ _ _ _ _ (fun b j=>a b (k b j)) (fun _ h=>h) h⟩
theorem ag0(T m:Nat)(L:List Tk)(p:Nat)(w:ω)(D:List Tk)(h:Rd T m L p w D 0):
  χ prog 71 #[π (ο ⟨p,0,ν⟩)] w (Ends T m L p 0 (amT w.heap.size) w (qF D)):=by
 obtain⟨bo,bm,bb,bf,aE⟩:=ft Tryz.akW;obtain⟨ah,aq,az,a9,af⟩:=ft Tryz.akX;have hp:=h.lt;have hs:=h.Au;have bD:=h.lb;have bp:=h.len;have h2:=(h.alloc (ζ #[ς ν 0 0,ς ν 0 0] 97)).alloc (ζ #[ς ν 0 0,ς ν 0 0] 97);have kB:=(aj.new w #[ς ν 0 0,ς ν 0 0] 97).alloc (ζ #[ς ν 0 0,ς ν 0 0] 97);have kC:=aj.new (w.alloc (ζ #[ς ν 0 0,ς ν 0 0] 97)) #[ς ν 0 0,ς ν 0 0] 97;have G0:=aI (aM w (ζ #[ς ν 0 0,ς ν 0 0] 97) (ο p)) (aM _ (ζ #[ς ν 0 0,ς ν 0 0] 97) (ο p));rw[show (w.alloc (ζ #[ς ν 0 0,ς ν 0 0] 97)).heap.size=w.heap.size+1 by simp]at kC;have PW:Hid _:=aga D;go_enter func71,ntmps71;go_wp2_with fail
 go_loopg [] D.length (fun k c=>∃(G:List Tk)(o:List Lx.Lv)(v:υ)(f:Nat),G.length=k/\G.length<=f/\o.length+G.length<=D.length/\w.heap.size+2<=c.heap.size/\Rd T m L p c G 0/\aj c (w.heap.size+1) #[v,ς ν 0 0] 97/\aj c w.heap.size #[ς ν 0 0,ς ν 0 0] 97 /\
   Grow (w.heap.size+2) c 292 2 cL KL v o/\w.grownBy c (ο p)/\Hid (qF D=OQ (Ad f G o)))
 case atStart=>exact⟨D,[],_,D.length,rfl,dv _,by simp,by simp,h2,kC,kB,Grow.nil _ _ _ _ _ _,G0,PW⟩
 case round=>
  revert wr;intro c hrel;obtain⟨G,o,v,f,I,hf,br,hsz,hr,xZ,wm,ae,hg,R⟩:=hrel;clear h2 kB kC G0 PW;have bv:=hr.wf.ne;obtain⟨f',rfl⟩:∃f',f=f'+1:=⟨f-1,by omega⟩;obtain⟨ps,F,ac⟩:=ae;have B:=ac.2.1;obtain⟨Z,vk,vc,rfl⟩:=FL B;have c0:=xZ.a0;have c1:=xZ.a1;have f0:=xZ.frozen;have V:=hr.drew;have W:=aI hg (nU c (ο p))
  by_cases hlk:0<=lZ (Lx.hd G)
  ·cases hr4:sW G with
   |error x=>
    obtain⟨n,a⟩:=x;have HE:Hid (qF D=.error (n,a)):=by
     show _=_;rw[R.out];simp only[Ad];rw[du hlk,hr4];rfl
    have C:Hid _:=hr4;clear hr4 R
    go_wp2_with (first
     | (go_at_call 127;refine(nV hr).mono ?_;rintro e X⟨rfl,u⟩;obtain rfl:=u.symm)
     | (go_at_call 126;refine(Ja _ _).mono ?_;rintro e X⟨rfl,u⟩;obtain rfl:=u.symm))
    refine tG (by kernel_rfl) ?_;refine oS (i:=0) (v:=π (ο ⟨w.heap.size+1,0,ν⟩)) rfl (by kernel_rfl) (by kernel_rfl) (by kernel_rfl) (fun _ _ _ h=>h) (rg ⟨by rfl,fun w=>by go_simp⟩) ?_;refine oS (i:=2) (v:=π (ο ⟨p,0,ν⟩)) rfl (by kernel_rfl) (by kernel_rfl) (by kernel_rfl) (fun _ _ _ h=>h) (rg ⟨by rfl,fun w=>by go_simp⟩) ?_;refine pM (rs:=[1,3]) (by kernel_rfl) (by simp) ?_;refine mj rfl (fun K N=>?_) (mj rfl (fun K N=>?_) px)
    ·change if _ then Oper.wp _ _ _ c.drew _ _ else _
     go_simp
     refine N _ _ ?_;clear N K;refine pM (rs:=[3]) (by kernel_rfl) (by simp) ?_;refine mj rfl (fun K N=>?_) px;exact uS rfl 128 #[π (ο ⟨p,0,ν⟩)] (by go_simp) (SA T m L p _ G V hlk) fun e w2 z=>by obtain⟨rfl,t⟩:=z.err C.out;exact⟨_,rfl,rfl,Ends.no HE.out (aI W t)⟩
    ·change if _ then Oper.wp _ _ _ c.drew _ _ else _
     exact uS rfl 128 #[π (ο ⟨p,0,ν⟩)] (by go_simp) (SA T m L p _ G V hlk) fun e w2 z=>by obtain⟨rfl,t⟩:=z.err C.out;exact⟨_,rfl,rfl,Ends.no HE.out (aI W t)⟩
   |ok x=>
    obtain⟨lv,pz⟩:=x;have bn:=agZ hr4;have GV:=hr.wf.yU;have Cz:Hid (qF D=OQ (Ad f' pz (o++[lv]))):=by
     show _=_;rw[R.out];simp only[Ad];rw[du hlk,hr4]
    have C:Hid _:=hr4;clear hr4 R
    go_wp2_with (first
     | (go_at_call 127;refine(nV hr).mono ?_;rintro e X⟨rfl,u⟩;obtain rfl:=u.symm)
     | (go_at_call 126;refine(Ja _ _).mono ?_;rintro e X⟨rfl,u⟩;obtain rfl:=u.symm))
    go_region_law (first
     | (refine step_append_lies _ rfl (.tmp 11) (.tmp 14) 94 rfl (w.heap.size+2) 292 bo _ 2 32 underlying94 bm bb bf aE rfl (by decide) (.slice Z vk vc) o.length (ps.flatMap cL) (by simp[Act.eval]) (s.alloc _) ⟨M.heap.size,0,ν⟩ 1 1 (cL (.slice xa xk xc,lv)) (by simp[Act.eval]) rfl (bQ (aj.new M _ 292)) (by simp[cL,Value.oneCell']) (by decide) (by unfold maxLen;omega) (by omega) (by have:=d.size;have:c.drew.heap.size=c.heap.size:=rfl;simp;omega) _ rfl ?_;intro Y Ah P JE H JL bg;have Cj:=(nC.alloc _).grown H (fun e=>by have:=(B.lt _ e.symm).1;omega);have aw:P.cell? ⟨w.heap.size+1,0,ν⟩=ο (.slice Z vk vc):=Cj.cell 0;have al:∀i,P.frozen? ⟨w.heap.size+1,i,ν⟩=ε:=Cj.frozen)
     | (refine eZ rfl 128 #[π (ο ⟨p,0,ν⟩)] (by go_simp) (SA T m L p _ G V hlk) ?_;intro e M z;obtain⟨vv,rfl,d,qQ,ad⟩:=z.ok C.out;refine⟨_,rfl,?_⟩;obtain⟨vx,rfl,Q⟩:=ad;obtain⟨xa,xk,xc,rfl⟩:=Seq.form Q;have s:=((ac.kept Aa (nU c ν) (by simp)).kept Aa d (fun k I=>by cases I;omega)).2.1;have nC:=xZ.drew.grown d (by simp;omega);have KM:M.cell? ⟨w.heap.size+1,0,ν⟩=ο (ς Z vk vc):=nC.cell 0;have Gx:=nC.lt))
    all_goals
     have PX:=za.push Aa (ac.kept Aa (nU c ν) (by simp)) (p:=p) (by omega) (by have:c.drew.heap.size=c.heap.size:=rfl;omega) d (ς xa xk xc,lv) Q (aM M _ ν) JE H JL;have OT:=((wm.drew.grown d (by simp;omega)).alloc _).grown H (fun e=>by have:=(B.lt _ e.symm).1;omega);have OU:=(qQ.alloc _).grown H (fun e=>by have:=(B.lt _ e.symm).1;omega) (fun e=>by have:=(B.lt _ e.symm).1;omega);have OV:=Du (aI W d) (aM M _ ν) H (fun k I=>by have:=(B.lt _ I).1;omega);have ba:M.heap.size+1<=P.heap.size:=by have:=H.size;simpa using this
     have aX:c.heap.size<=M.heap.size:=d.size;clear JE H JL s nC KM c0 f0 z;go_wp2_with fail;go_roundg pz.length
     case measure=>omega
     case rel=>
      refine⟨pz,o++[lv],_,f',rfl,by omega,by simp;omega,?_,OU.setOther _ _ (by omega) (by omega),Cj.set 0 _,OT.other (by omega) _,?_,eG OV (by omega) _ _,Cz⟩
      ·simp only[World.setCell,Array.size_modify];omega
      ·exact Grow.kept Aa PX (iO P (w.heap.size+1) 0 _) (fun k I=>by cases I;omega)
  ·have PY:Hid (qF D=Jt o G):=by
    show _=_;rw[R.out];simp only[Ad];rw[dt hlk];rfl
   have av:=Grow.seq Aa ⟨ps,F,ac⟩;have D9:xw c.heap.size c 296 2 cR KR (ς ν 0 0) [] [] []:=⟨rfl,eV _ _ _ _,(fun j q A h=>by simp at h),(fun A h=>by cases h),(fun g h A hA=>by cases hA),pC,rfl⟩;clear R;cases hr4:qL G with
   |error x=>
    obtain⟨n,a⟩:=x;have HE:Hid (qF D=.error (n,a)):=by
     show _=_;rw[PY.out];unfold Jt;rw[hr4]
    have C:Hid _:=hr4;clear hr4 PY
    go_wp2_with (first
     | (go_at_call 127;refine(nV hr).mono ?_;rintro e X⟨rfl,u⟩;obtain rfl:=u.symm)
     | (go_at_call 126;refine(Ja _ _).mono ?_;rintro e X⟨rfl,u⟩;obtain rfl:=u.symm))
    refine tG (by kernel_rfl) ?_;refine oS (i:=0) (v:=π (ο ⟨w.heap.size+1,1,ν⟩)) rfl (by kernel_rfl) (by kernel_rfl) (by kernel_rfl) (fun _ _ _ h=>h) (rg ⟨by rfl,fun w=>by go_simp⟩) ?_;refine oS (i:=2) (v:=π (ο ⟨p,0,ν⟩)) rfl (by kernel_rfl) (by kernel_rfl) (by kernel_rfl) (fun _ _ _ h=>h) (rg ⟨by rfl,fun w=>by go_simp⟩) ?_;refine pM (rs:=[1,3]) (by kernel_rfl) (by simp) ?_;refine mj rfl (fun K N=>?_) (mj rfl (fun K N=>?_) px)
    ·change if _ then Oper.wp _ _ _ c.drew _ _ else _
     go_simp
     refine N _ _ ?_;clear N K;refine pM (rs:=[3]) (by kernel_rfl) (by simp) ?_;refine mj rfl (fun K N=>?_) px;exact uS rfl 129 #[π (ο ⟨p,0,ν⟩)] (by go_simp) (FY T m L p _ G V) fun e w2 z=>by obtain⟨rfl,t⟩:=z.err C.out;exact⟨_,rfl,rfl,Ends.no HE.out (aI W t)⟩
    ·change if _ then Oper.wp _ _ _ c.drew _ _ else _
     exact uS rfl 129 #[π (ο ⟨p,0,ν⟩)] (by go_simp) (FY T m L p _ G V) fun e w2 z=>by obtain⟨rfl,t⟩:=z.err C.out;exact⟨_,rfl,rfl,Ends.no HE.out (aI W t)⟩
   |ok x=>
    obtain⟨rl,pz⟩:=x;have bn:=ZM hr4;have GV:=hr.wf.yU;have Cz:Hid (qF D=NY o (yZ pz.length pz [rl])):=by
     show _=_;rw[PY.out];unfold Jt;rw[hr4]
    have C:Hid _:=hr4;clear hr4 PY
    go_wp2_with (first
     | (go_at_call 127;refine(nV hr).mono ?_;rintro e X⟨rfl,u⟩;obtain rfl:=u.symm)
     | (go_at_call 126;refine(Ja _ _).mono ?_;rintro e X⟨rfl,u⟩;obtain rfl:=u.symm))
    go_region_law (first
     | (refine step_append_lies _ rfl (.tmp 18) (.tmp 21) 95 rfl c.heap.size 296 ah _ 2 40 underlying95 aq az a9 af rfl (by decide) (.slice ν 0 0) 0 [] (by simp[Act.eval]) (s.alloc _) ⟨M.heap.size,0,ν⟩ 1 1 (cR (.slice xa xk xc,rl)) (by simp[Act.eval]) rfl (bQ (aj.new M _ 296)) (by simp[cR,Value.oneCell']) (by decide) (by unfold maxLen;omega) (by omega) (by have:=d.size;have:c.drew.heap.size=c.heap.size:=rfl;simp;omega) _ rfl ?_;intro Y Ah P JE H JL bg;have Cj:=(nC.alloc _).grown H (by simp[Value.ownBlock]);have aw:P.cell? ⟨w.heap.size+1,1,ν⟩=ο (.slice ν 0 0):=Cj.cell 1;have al:∀i,P.frozen? ⟨w.heap.size+1,i,ν⟩=ε:=Cj.frozen)
     | (refine eZ rfl 129 #[π (ο ⟨p,0,ν⟩)] (by go_simp) (FY T m L p _ G V) ?_;intro e M z;obtain⟨vv,rfl,d,qQ,ad⟩:=z.ok C.out;refine⟨_,rfl,?_⟩;obtain⟨vx,rfl,Q⟩:=ad;obtain⟨xa,xk,xc,rfl⟩:=fu.form Q;have s:=((D9.kept rC (nU c ν) (by simp)).kept rC d (fun k I=>by cases I;omega)).2.1;have nC:=xZ.drew.grown d (by simp;omega);have KM:M.cell? ⟨w.heap.size+1,1,ν⟩=ο (ς ν 0 0):=nC.cell 1;have Gx:=nC.lt))
    all_goals
     have PX:=xw.push rC (D9.kept rC (nU c ν) (by simp)) (p:=p) (by omega) (dv _) d (ς xa xk xc,rl) Q (aM M _ ν) JE H JL;have OT:=((wm.drew.grown d (by simp;omega)).alloc _).grown H (by simp[Value.ownBlock]);have OU:=(qQ.alloc _).grown H (by simp[Value.ownBlock]) (by simp[Value.ownBlock]);have OV:=Du (aI W d) (aM M _ ν) H (by simp[Value.ownBlock]);have ba:M.heap.size+1<=P.heap.size:=by have:=H.size;simpa using this
     have aX:c.heap.size<=M.heap.size:=d.size;have r:∀b,w.heap.size+2<=b->b<c.heap.size->(P.setCell ⟨w.heap.size+1,1,ν⟩ (ς (ο ⟨Y,0,ν⟩) 1 Ah)).heap[b]?=c.heap[b]?:=fun b h1 h2=>by
      rw[fy _ _ _ _ (fun e=>by have e':b=w.heap.size+1:=e;omega),H.block b (by simp;omega) (by simp[Value.ownBlock]),ed _ _ _ (by omega),d.block b h2 (by simp;omega)];rfl
     have HK:Hid _:=r;have GS:l9 c.heap.size (P.setCell ⟨w.heap.size+1,1,ν⟩ (ς (ο ⟨Y,0,ν⟩) 1 Ah)) 296 2 cR KR (ς (ο ⟨Y,0,ν⟩) 1 Ah) [rl]:=l9.kept rC PX (iO P (w.heap.size+1) 1 _) (fun k I=>by cases I;omega);have KG:=OU.setOther (b:=w.heap.size+1) 1 (ς (ο ⟨Y,0,ν⟩) 1 Ah) (by omega) (by omega);have KH:=Cj.set 1 (ς (ο ⟨Y,0,ν⟩) 1 Ah);have KJ:=OT.other (b':=w.heap.size+1) (i:=1) (by omega) (ς (ο ⟨Y,0,ν⟩) 1 Ah);have gS:=eG OV (b:=w.heap.size+1) (by omega) 1 (ς (ο ⟨Y,0,ν⟩) 1 Ah);have b5:(P.setCell ⟨w.heap.size+1,1,ν⟩ (ς (ο ⟨Y,0,ν⟩) 1 Ah)).heap.size=P.heap.size:=by simp[World.setCell]
     clear JE H JL s nC KM c0 c1 f0 z r PX OU OV OT;go_wp2_with fail
     go_loopg [] pz.length (fun k wr=>∃(S:List Tk)(E:List Lx.Rl)(v:υ)(f:Nat),S.length=k/\S.length<=f/\E.length+S.length<=D.length/\c.heap.size<=wr.heap.size/\Rd T m L p wr S 0/\aj wr (w.heap.size+1) #[ς Z vk vc,v] 97/\aj wr w.heap.size #[ς ν 0 0,ς ν 0 0] 97 /\
       l9 c.heap.size wr 296 2 cR KR v E/\w.grownBy wr (ο p)/\Hid (∀b,w.heap.size+2<=b->b<c.heap.size->wr.heap[b]?=c.heap[b]?)/\Hid (qF D=NY o (yZ f S E)))
     case atStart=>exact⟨pz,[rl],_,pz.length,rfl,dv _,by simp;omega,by omega,KG,KH,KJ,GS,gS,HK,Cz⟩
     case round=>
      obtain⟨S,E,v,f2,b1,b2,b3,bs,J,PZ,P5,ab,ag,r,y⟩:=hrel;clear KG KH KJ GS gS HK Cz Cj aw al V W D9 d qQ Q;have bt:=J.wf.ne;obtain⟨an,rfl⟩:∃f',f2=f'+1:=⟨f2-1,by omega⟩;obtain⟨am,F2,D8⟩:=ab;have l:=D8.2.1;obtain⟨CB,CF,CG,rfl⟩:=FL l;have q0:=PZ.a0;have q1:=PZ.a1;have qf:=PZ.frozen
      by_cases hend:Lx.hd S=bP
      ·have HP:Hid (qF D=.ok (⟨o,E⟩,S)):=by
        show _=_;rw[y.out];simp only[yZ];rw[du hend];rfl
       have GX:Hid _:=hend;clear hend y;have e0:=P5.a0;have e1:=P5.a1;have ef:=P5.frozen;have aP:=l9.seq ⟨am,F2,D8⟩
       go_wp2_with (first
        | (go_at_call 130;refine(xB J bP).mono ?_;rintro e X⟨rfl,u⟩;obtain rfl:=u.symm;rw[ge GX.out]))
       refine iS (v:=γ #[ς Z vk vc,ς CB CF CG]) (by simp[results,results71,go_sem,e0,e1]) rfl ?_;refine Ends.yes HP.out (eG (eG ag (dv _) _ _) (dv _) _ _) ((J.setOther _ _ (by omega) (by omega)).setOther _ _ (by omega) (by omega)) ⟨_,_,rfl,?_,?_⟩
       ·have U:∀b,In (w.heap.size+2) c.heap.size b->((wr.setCell ⟨w.heap.size,0,ν⟩ (ς Z vk vc)).setCell ⟨w.heap.size,1,ν⟩ (ς CB CF CG)).heap[b]?=c.heap[b]?:=fun b O=>by
         have h1:=O.1;rw[fy _ _ _ _ (fun e=>by have e':b=w.heap.size:=e;omega),fy _ _ _ _ (fun e=>by have e':b=w.heap.size:=e;omega)];exact r.out b O.1 O.2
        have aa:∀b,In (w.heap.size+2) c.heap.size b->In w.heap.size ((wr.setCell ⟨w.heap.size,0,ν⟩ (ς Z vk vc)).setCell ⟨w.heap.size,1,ν⟩ (ς CB CF CG)).heap.size b:=fun b O=>by
         have h1:=O.1;have h2:=O.2;exact⟨by omega,by simp[World.setCell];omega⟩
        exact av.move U aa fun _ _ h=>Aa _ _ _ _ _ _ U aa h
       ·have U:∀b,In c.heap.size wr.heap.size b->((wr.setCell ⟨w.heap.size,0,ν⟩ (ς Z vk vc)).setCell ⟨w.heap.size,1,ν⟩ (ς CB CF CG)).heap[b]?=wr.heap[b]?:=fun b O=>by
         have h1:=O.1;rw[fy _ _ _ _ (fun e=>by have e':b=w.heap.size:=e;omega),fy _ _ _ _ (fun e=>by have e':b=w.heap.size:=e;omega)]
        have aa:∀b,In c.heap.size wr.heap.size b->In w.heap.size ((wr.setCell ⟨w.heap.size,0,ν⟩ (ς Z vk vc)).setCell ⟨w.heap.size,1,ν⟩ (ς CB CF CG)).heap.size b:=fun b O=>by
         have h1:=O.1;have h2:=O.2;exact⟨by omega,by simp[World.setCell];omega⟩
        exact aP.move U aa fun _ _ _ hA h=>rC _ _ _ _ _ _ (fun b O=>U b (hA b O)) (fun _ h=>h) h
      ·have GX:Hid (¬Lx.hd S=bP):=hend
       clear hend;have V:=J.drew;have W:=aI ag (nU wr (ο p));cases Av:qL S with
       |error x=>
        obtain⟨n,a⟩:=x;have HE:Hid (qF D=.error (n,a)):=by
         show _=_;rw[y.out];simp only[yZ];rw[dt GX.out,Av];rfl
        have P6:Hid _:=Av;clear Av y
        go_wp2_with (first
         | (go_at_call 130;refine(xB J bP).mono ?_;rintro e X⟨rfl,u⟩;obtain rfl:=u.symm;rw[fx GX.out]))
        refine tG (by kernel_rfl) ?_;refine oS (i:=0) (v:=π (ο ⟨w.heap.size+1,1,ν⟩)) rfl (by kernel_rfl) (by kernel_rfl) (by kernel_rfl) (fun _ _ _ h=>h) (rg ⟨by rfl,fun w=>by go_simp⟩) ?_;refine oS (i:=2) (v:=π (ο ⟨p,0,ν⟩)) rfl (by kernel_rfl) (by kernel_rfl) (by kernel_rfl) (fun _ _ _ h=>h) (rg ⟨by rfl,fun w=>by go_simp⟩) ?_;refine pM (rs:=[1,3]) (by kernel_rfl) (by simp) ?_;refine mj rfl (fun K N=>?_) (mj rfl (fun K N=>?_) px)
        ·change if _ then Oper.wp _ _ _ wr.drew _ _ else _
         go_simp
         refine N _ _ ?_;clear N K;refine pM (rs:=[3]) (by kernel_rfl) (by simp) ?_;refine mj rfl (fun K N=>?_) px;exact uS rfl 129 #[π (ο ⟨p,0,ν⟩)] (by go_simp) (FY T m L p _ S V) fun e w2 z=>by obtain⟨rfl,t⟩:=z.err P6.out;exact⟨_,rfl,rfl,Ends.no HE.out (aI W t)⟩
        ·change if _ then Oper.wp _ _ _ wr.drew _ _ else _
         exact uS rfl 129 #[π (ο ⟨p,0,ν⟩)] (by go_simp) (FY T m L p _ S V) fun e w2 z=>by obtain⟨rfl,t⟩:=z.err P6.out;exact⟨_,rfl,rfl,Ends.no HE.out (aI W t)⟩
       |ok x=>
        obtain⟨rq,VZ⟩:=x;have b4:=ZM Av;have bw:=J.wf.yU;have aV:Hid (qF D=NY o (yZ an VZ (E++[rq]))):=by
         show _=_;rw[y.out];simp only[yZ];rw[dt GX.out,Av]
        have P6:Hid _:=Av;clear Av y
        go_wp2_with (first
         | (go_at_call 130;refine(xB J bP).mono ?_;rintro e X⟨rfl,u⟩;obtain rfl:=u.symm;rw[fx GX.out]))
        go_region_law (first
         | (refine step_append_lies _ rfl (.tmp 30) (.tmp 33) 95 rfl c.heap.size 296 ah _ 2 40 underlying95 aq az a9 af rfl (by decide) (.slice CB CF CG) E.length (am.flatMap cR) (by simp[Act.eval]) (rM.alloc _) ⟨w7.heap.size,0,ν⟩ 1 1 (cR (.slice ao ai ap,rq)) (by simp[Act.eval]) rfl (bQ (aj.new w7 _ 296)) (by simp[cR,Value.oneCell']) (by decide) (by unfold maxLen;omega) (by omega) (by have:=jf.size;have:wr.drew.heap.size=wr.heap.size:=rfl;simp;omega) _ rfl ?_;intro b8 bu KN ax BM aA b0;have UK:=(P7.alloc _).grown BM (fun e=>by have:=(l.lt _ e.symm).1;omega);have bz:KN.cell? ⟨w.heap.size+1,1,ν⟩=ο (.slice CB CF CG):=UK.cell 1;have bx:∀i,KN.frozen? ⟨w.heap.size+1,i,ν⟩=ε:=UK.frozen)
         | (refine eZ rfl 129 #[π (ο ⟨p,0,ν⟩)] (by go_simp) (FY T m L p _ S V) ?_;intro e w7 z;obtain⟨vv,rfl,jf,Es,bc⟩:=z.ok P6.out;refine⟨_,rfl,?_⟩;obtain⟨vx,rfl,ak⟩:=bc;obtain⟨ao,ai,ap,rfl⟩:=fu.form ak;have rM:=((D8.kept rC (nU wr ν) (by simp)).kept rC jf (fun k I=>by cases I;omega)).2.1;have P7:=PZ.drew.grown jf (by simp;omega);have bj:w7.cell? ⟨w.heap.size+1,1,ν⟩=ο (ς CB CF CG):=P7.cell 1;have b9:=P7.lt))
        all_goals
         have aH:=xw.push rC (D8.kept rC (nU wr ν) (by simp)) (p:=p) (by omega) (by have:wr.drew.heap.size=wr.heap.size:=rfl;omega) jf (ς ao ai ap,rq) ak (aM w7 _ ν) ax BM aA;have aR:=((P5.drew.grown jf (by simp;omega)).alloc _).grown BM (fun e=>by have:=(l.lt _ e.symm).1;omega);have bh:=(Es.alloc _).grown BM (fun e=>by have:=(l.lt _ e.symm).1;omega) (fun e=>by have:=(l.lt _ e.symm).1;omega);have bd:=Du (aI W jf) (aM w7 _ ν) BM (fun k I=>by have:=(l.lt _ I).1;omega);have b7:w7.heap.size+1<=KN.heap.size:=by have:=BM.size;simpa using this
         have b6:wr.heap.size<=w7.heap.size:=jf.size;have ar:∀b,w.heap.size+2<=b->b<c.heap.size->KN.heap[b]?=c.heap[b]?:=fun b h1 h2=>by
          rw[BM.block b (by simp;omega) (fun e=>by have:=(l.lt _ e.symm).1;omega),ed _ _ _ (by omega),jf.block b (by have:wr.drew.heap.size=wr.heap.size:=rfl;omega) (by simp;omega)];exact r.out b h1 h2
         have bi:Hid _:=ar;clear ax BM aA rM P7 bj q0 q1 qf z ar;go_wp2_with fail;go_roundg VZ.length
         case measure=>omega
         case rel=>
          refine⟨VZ,E++[rq],_,an,rfl,by omega,by simp;omega,?_,bh.setOther _ _ (by omega) (by omega),UK.set 1 _,aR.other (by omega) _,?_,eG bd (by omega) _ _,?_,aV⟩
          ·simp only[World.setCell,Array.size_modify];omega
          ·exact l9.kept rC aH (iO KN (w.heap.size+1) 1 _) (fun k I=>by cases I;omega)
          ·intro b h1 h2
           rw[fy _ _ _ _ (fun e=>by have e':b=w.heap.size+1:=e;omega)];exact bi.out b h1 h2
end
section
open Go.RowKit
open Lx (Tk)
open Tr
theorem ajn(n a:Int)(w:ω):(Instr.typeAssert (.iface 193 (γ #[ι ξ n,ι ξ a])) 20 193 η).run prog w=.ok (θ #[γ #[ι ξ n,ι ξ a],μ η]) w:=by
 simp[Instr.typeAssert,run_underlying underlying193,go_sem,Result.andThen]
theorem afL(n a:Int)(w:ω):
  χ prog 69 #[.iface 193 (γ #[ι ξ n,ι ξ a])] w fun e w'=>e=δ (γ #[ι ξ n,ι ξ a])/\φ w.heap.size w w':=by
 have b:=ajn;go_enter func69,ntmps69
 go_wp2
 refine iS (v:=γ #[ι ξ n,ι ξ a]) (by simp[results,results69,go_sem]) rfl ⟨rfl,?_⟩;exact((cV _ _).alloc (dv _) _).alloc (by simp) _
theorem agb(n a x y:Int){w1:ω}(c:φ w.heap.size w w1)(g:B+2<w.heap.size)(kg:aj w1 B #[ς ν 0 0,ς ν 0 0] 97)(f:aj w1 (B+1) #[ι ξ x] 24)(ka:aj w1 (B+2) #[ι ξ y] 3):
  φ B w (((((w1.setCell ⟨B,0,ν⟩ (ς ν 0 0)).setCell ⟨B,1,ν⟩ (ς ν 0 0)).setCell ⟨B+1,0,ν⟩ (ι ξ n)).setCell ⟨B+2,0,ν⟩ (ι ξ a)).alloc (ζ #[ι ξ n,ι ξ a] 193)).drew /\
  aj (((((w1.setCell ⟨B,0,ν⟩ (ς ν 0 0)).setCell ⟨B,1,ν⟩ (ς ν 0 0)).setCell ⟨B+1,0,ν⟩ (ι ξ n)).setCell ⟨B+2,0,ν⟩ (ι ξ a)).alloc (ζ #[ι ξ n,ι ξ a] 193)).drew B #[ς ν 0 0,ς ν 0 0] 97 /\
  aj (((((w1.setCell ⟨B,0,ν⟩ (ς ν 0 0)).setCell ⟨B,1,ν⟩ (ς ν 0 0)).setCell ⟨B+1,0,ν⟩ (ι ξ n)).setCell ⟨B+2,0,ν⟩ (ι ξ a)).alloc (ζ #[ι ξ n,ι ξ a] 193)).drew (B+1) #[ι ξ n] 24 /\
  aj (((((w1.setCell ⟨B,0,ν⟩ (ς ν 0 0)).setCell ⟨B,1,ν⟩ (ς ν 0 0)).setCell ⟨B+1,0,ν⟩ (ι ξ n)).setCell ⟨B+2,0,ν⟩ (ι ξ a)).alloc (ζ #[ι ξ n,ι ξ a] 193)).drew (B+2) #[ι ξ a] 3:=by
 have j:=c.size;have d:=c.mono (B':=B) (by omega);have b:=(((d.setCell (p:=⟨B,0,ν⟩) (dv _) (ς ν 0 0)).setCell (p:=⟨B,1,ν⟩) (dv _) (ς ν 0 0)).setCell (p:=⟨B+1,0,ν⟩) (by simp) (ι ξ n)).setCell (p:=⟨B+2,0,ν⟩) (by simp) (ι ξ a);refine⟨(b.alloc (by have:=b.size;omega) _).drew,?_,?_,?_⟩
 ·exact(((((kg.set 0 (ς ν 0 0)).set 1 (ς ν 0 0)).other (b':=B+1) (i:=0) (by omega) (ι ξ n)).other (b':=B+2) (i:=0) (by omega) (ι ξ a)).alloc (ζ #[ι ξ n,ι ξ a] 193)).drew
 ·exact(((((f.other (b':=B) (i:=0) (by omega) (ς ν 0 0)).other (b':=B) (i:=1) (by omega) (ς ν 0 0)).set 0 (ι ξ n)).other (b':=B+2) (i:=0) (by omega) (ι ξ a)).alloc (ζ #[ι ξ n,ι ξ a] 193)).drew
 ·exact(((((ka.other (b':=B) (i:=0) (by omega) (ς ν 0 0)).other (b':=B) (i:=1) (by omega) (ς ν 0 0)).other (b':=B+1) (i:=0) (by omega) (ι ξ n)).set 0 (ι ξ a)).alloc (ζ #[ι ξ n,ι ξ a] 193)).drew
theorem afc(B:Nat)(n a x y:Int)(b:List PanicEntry)(w:ω)(m:B+2<w.heap.size)(kg:aj w B #[ς ν 0 0,ς ν 0 0] 97)(i:aj w (B+1) #[ι ξ x] 24)(ka:aj w (B+2) #[ι ξ y] 3):
  CallsD prog 68 #[π (ο ⟨B,0,ν⟩),π (ο ⟨B+1,0,ν⟩),π (ο ⟨B+2,0,ν⟩)] (.panicking ({ v:=.iface 193 (γ #[ι ξ n,ι ξ a]),recovered:=ε }::b)) w fun e u' w'=>
   e=δ (θ #[])/\u'=.panicking ({ v:=.iface 193 (γ #[ι ξ n,ι ξ a]),recovered:=η }::b)/\φ B w w'/\aj w' B #[ς ν 0 0,ς ν 0 0] 97/\aj w' (B+1) #[ι ξ n] 24/\aj w' (B+2) #[ι ξ a] 3:=by
 refine callsD_of_wpS func68 rfl fun p z j=>?_
 apply wpS_seq;apply wpS_region;simp[wpOpsS,go_sem,recoverD,j,ntmps68,Exit.thenS];refine wpS_of_wp ?_
 go_wp2_with (go_at_call 69;refine(afL n a _).mono ?_;rintro e w1⟨rfl,d⟩)
 have G:=I4 d ν;have zC:=kg.grown G (by simp);have f:=i.grown G (by simp);have c:=ka.grown G (by simp);have t:=zC.a0;have g1:=zC.a1;have o:=f.a0;have a0:=c.a0;have q:=zC.frozen;have u:=f.frozen;have s:=c.frozen;have r:=d.size;have l:B<w1.heap.size:=by omega
 have g:B+1<w1.heap.size:=by omega
 have k:B+2<w1.heap.size:=by omega
 go_region
 all_goals
  exact⟨rfl,_,rfl,θ #[],po rfl _ _ _,rfl,rfl,agb n a x y d m zC f c⟩
theorem Zf(g e a:Addr)(w:ω):
  CallsD prog 68 #[π (ο g),π (ο e),π (ο a)] .returning w fun e u' w'=>e=δ (θ #[])/\u'=.returning/\w'=w:=by
 refine callsD_of_wpS func68 rfl fun c d b=>?_
 apply wpS_seq;apply wpS_region;simp[wpOpsS,go_sem,recoverD,b,ntmps68,Exit.thenS];refine wpS_of_wp ?_;go_wp2_with fail;cases c;simp only at b;subst b;refine⟨rfl,_,rfl,θ #[],po rfl _ _ _,rfl,rfl,rfl⟩
end
section
open Go.RowKit
open Lx (Tk)
open Tr
namespace Lx
theorem extract_size(s:ByteArray)(i j:Nat):(s.extract i j).size<=s.size:=by
 rw[B7];omega
theorem aaE(s:ByteArray):∀(f i:Nat)(t:Tk),t∈oZ s f i->t.1.size<=s.size
 |0,i,t,h=>by
  simp only[oZ,List.mem_singleton]at h;subst h;exact fi _
 |f+1,i,t,h=>by
  simp only[oZ]at h
  split at h
  ·rcases fh.1 h with rfl | h
   ·exact extract_size _ _ _
   ·exact aaE s f _ t h
  ·simp only[List.mem_singleton]at h;subst h;exact fi _
theorem acu(s:ByteArray)(t:Tk)(h:t∈lex s):t.1.size<=s.size:=aaE s _ _ t h
theorem akY(s:ByteArray):(lex s).length<=s.size+1:=ZG s _
end Lx
theorem Rd.start{w1:ω}(y:s.size<=2000)(h:w1.ownsRow B 203 2 v (Lx.lex s).length (pW (Lx.lex s))):
  ∃sb cap,v=ς (ο ⟨sb,0,ν⟩) (Lx.lex s).length cap/\B<=sb/\sb<w1.heap.size/\Rd sb cap (Lx.lex s) w1.heap.size (w1.alloc (ζ #[v,ι ξ 0] 200)) (Lx.lex s) 0:=by
 have d:=Lx.lex_wf s;have i:=d.ne;obtain⟨g,cap,l,x,b⟩:=h.form i;subst l;have f:(Lx.lex s).length<=cap:=by
  rcases h.2 with ⟨u,_⟩|⟨A,o,q,l,_,_,m,_⟩
  ·cases u
  ·cases l;exact m
 have kN:=aj.new w1 #[ς (ο ⟨g,0,ν⟩) (Lx.lex s).length cap,ι ξ 0] 200;refine⟨g,cap,rfl,x,b,?_⟩;refine⟨d,⟨[],rfl⟩,f,?_,kN.cell 1,kN.frozen 0,kN.frozen 1,?_,by omega,fun t r=>cY (acu s t r) y,by have:=akY s;omega⟩
 ·rw[show (Lx.lex s).length - (Lx.lex s).length=0 by omega];exact kN.cell 0
 ·intro j t z
  obtain⟨h1,h2⟩:=RA _ j t z;have p:=h.cells (g:=g) rfl (j*2) _ h1;have n:=h.cells (g:=g) rfl (j*2+1) _ h2;have c:∀k,(⟨g,0,ν⟩:Addr).add k=⟨g,k,ν⟩:=fun k=>by unfold Addr.add;split <;> simp_all
  rw[c]at p n;have a:∀k,(w1.alloc (ζ #[ς (ο ⟨g,0,ν⟩) (Lx.lex s).length cap,ι ξ 0] 200)).cell? ⟨g,k,ν⟩=w1.cell? ⟨g,k,ν⟩:=fun k=>cQ (w:=w1) (ed _ _ _ b)
  rw[a,a];exact⟨p,n⟩
def yR(w:ω)(s:ByteArray)(e:Ending)(w':ω):Prop :=
 φ w.heap.size w w' /\
  match Lx.parse s with
  |.ok g=>∃vl vr,e=δ (θ #[γ #[vl,vr],ι ξ 0,ι ξ 0])/\BU (In w.heap.size w'.heap.size) w' vl vr g
  | .error (n,a)=>e=δ (θ #[γ #[ς ν 0 0,ς ν 0 0],ι ξ (n:Int),ι ξ (a:Int)])
theorem yR.yes{g:Lx.Gr}{b a:υ}(f:Lx.parse s=.ok g)(c:φ w.heap.size w w')(d:BU (In w.heap.size w'.heap.size) w' b a g):
  yR w s (δ (θ #[γ #[b,a],ι ξ 0,ι ξ 0])) w':=by
 unfold yR;rw[f];exact⟨c,b,a,rfl,d⟩
theorem yR.no(c:Lx.parse s=.error (n,a))(b:φ w.heap.size w w'):
  yR w s (δ (θ #[γ #[ς ν 0 0,ς ν 0 0],ι ξ (n:Int),ι ξ (a:Int)])) w':=by
 unfold yR;rw[c];exact⟨b,rfl⟩
theorem ah4(s:ByteArray)(w:ω)(r:s.size<=maxLen):χ prog 31 #[τ s] w (yR w s):=by
 unfold maxLen at r;have CJ:∀(fn:Fn)(first c:Array υ)(w:ω),(Instr.makeFunc fn first c).run prog w=.ok (.func fn first c) w:=fun _ _ _ _=>rfl
 by_cases hlong:2000<s.size
 ·have o:Hid (Lx.parse s=.error (1,0)):=by show _=_;unfold Lx.parse;rw[du hlong]
  go_enter_defers func31,ntmps31
  go_wp2
  refine leaves_cons (f:=68) (args:=#[π (ο ⟨w.heap.size,0,ν⟩),π (ο ⟨w.heap.size+1,0,ν⟩),π (ο ⟨w.heap.size+2,0,ν⟩)]) (by simp) (by simp[go_sem]) ?_;refine(Zf _ _ _ _).mono ?_;rintro e O E⟨rfl,rfl,rfl⟩;refine⟨θ #[γ #[ς ν 0 0,ς ν 0 0],ι ξ 1,ι ξ 0],by simp[results,results31,go_sem],?_⟩;exact yR.no o.out ((((cV _ _).alloc (dv _) _).alloc (by simp) _).alloc (by simp;omega) _)
 ·have Q:s.size<=2000:=by omega
  have l:(((w.alloc (ζ #[ς ν 0 0,ς ν 0 0] 97)).alloc (ζ #[ι ξ 0] 24)).alloc (ζ #[ι ξ 0] 3)).heap.size=w.heap.size+3:=by simp
  have kg:=((aj.new w #[ς ν 0 0,ς ν 0 0] 97).alloc (ζ #[ι ξ 0] 24)).alloc (ζ #[ι ξ 0] 3);have G:=(aj.new (w.alloc (ζ #[ς ν 0 0,ς ν 0 0] 97)) #[ι ξ 0] 24).alloc (ζ #[ι ξ 0] 3);have A:=aj.new ((w.alloc (ζ #[ς ν 0 0,ς ν 0 0] 97)).alloc (ζ #[ι ξ 0] 24)) #[ι ξ 0] 3;rw[show (w.alloc (ζ #[ς ν 0 0,ς ν 0 0] 97)).heap.size=w.heap.size+1 by simp]at G;rw[show ((w.alloc (ζ #[ς ν 0 0,ς ν 0 0] 97)).alloc (ζ #[ι ξ 0] 24)).heap.size=w.heap.size+2 by simp]at A;have V:φ w.heap.size w (((w.alloc (ζ #[ς ν 0 0,ς ν 0 0] 97)).alloc (ζ #[ι ξ 0] 24)).alloc (ζ #[ι ξ 0] 3)):=(((cV _ _).alloc (dv _) _).alloc (by simp) _).alloc (by simp;omega) _
  go_enter_defers func31,ntmps31
  go_wp2_with fail;refine(abe s _ Q).mono ?_;rintro e w1⟨v,rfl,i,d⟩;rw[l]at i d;have S:=Rd.start Q i;obtain⟨M,c,rfl,X,T,p⟩:=S;have b1:=V.trans (d.mono (by omega));have zC:=kg.go d (by omega);have J:=G.go d (by omega);have H:=A.go d (by omega);have s1:w.heap.size+3<=w1.heap.size:=by omega
  clear kg G A i d l;go_wp2_with fail;refine(ag0 M c _ w1.heap.size _ _ p).mono ?_;intro e w2 z;have P:=b1.alloc (by omega) (ζ #[ς (ο ⟨M,0,ν⟩) (Lx.lex s).length c,ι ξ 0] 200);have hsz:(w1.alloc (ζ #[ς (ο ⟨M,0,ν⟩) (Lx.lex s).length c,ι ξ 0] 200)).heap.size=w1.heap.size+1:=by simp
  cases hpg:qF (Lx.lex s) with
  |error x=>
   obtain⟨n,a⟩:=x;obtain⟨rfl,j⟩:=z.err hpg;have o:Hid (Lx.parse s=.error (n,a)):=by show _=_;unfold Lx.parse;rw[dt hlong,hpg]
   have C:=P.grown j (by rw[hsz];omega) (fun k I=>by cases I;omega);have Ay:=(zC.alloc _).grown j (by simp;omega);have t:=(J.alloc _).grown j (by simp;omega);have q:=(H.alloc _).grown j (by simp;omega);have D:=j.size;rw[hsz]at D;clear hpg z;refine leaves_cons (f:=68) (args:=#[π (ο ⟨w.heap.size,0,ν⟩),π (ο ⟨w.heap.size+1,0,ν⟩),π (ο ⟨w.heap.size+2,0,ν⟩)]) (by simp) (by simp[go_sem]) ?_;refine(afc w.heap.size n a 0 0 [] w2 (by omega) Ay t q).mono ?_;rintro e O w3⟨rfl,rfl,N,m,F,u⟩;have K:=m.a0;have g1:=m.a1;have B:=F.a0;have a0:=u.a0;have W:w3.cell? ⟨w.heap.size+1+1,0,ν⟩=ο (ι ξ a):=u.cell 0;refine⟨θ #[γ #[ς ν 0 0,ς ν 0 0],ι ξ n,ι ξ a],by simp[results,results31,go_sem,K,g1,B,a0],?_⟩;exact yR.no o.out (C.trans N)
  |ok x=>
   obtain⟨g,U⟩:=x;obtain⟨v,rfl,j,J5,vl,vr,rfl,y⟩:=z.ok hpg;have o:Hid (Lx.parse s=.ok g):=by show _=_;unfold Lx.parse;rw[dt hlong,hpg]
   obtain⟨la,lk,R,rfl⟩:=Seq.form y.1;obtain⟨ra,Y,Z,rfl⟩:=fD.form y.2;have C:=P.grown j (by rw[hsz];omega) (fun k I=>by cases I;omega);have Ay:=(zC.alloc _).grown j (by simp;omega);have t:=(J.alloc _).grown j (by simp;omega);have q:=(H.alloc _).grown j (by simp;omega);have K:=Ay.a0;have g1:=Ay.a1;have B:=t.a0;have a0:=q.a0;have fg:=Ay.frozen;have fe:=t.frozen;have fa:=q.frozen;rw[hsz]at y;clear hpg z p J5 zC J H Ay t q;go_wp2_with fail;refine leaves_cons (f:=68) (args:=#[π (ο ⟨w.heap.size,0,ν⟩),π (ο ⟨w.heap.size+1,0,ν⟩),π (ο ⟨w.heap.size+2,0,ν⟩)]) (by simp) (by simp[go_sem]) ?_;refine(Zf _ _ _ _).mono ?_;rintro e O E⟨rfl,rfl,rfl⟩;refine⟨θ #[γ #[ς la lk R,ς ra Y Z],ι ξ 0,ι ξ 0],by simp[results,results31,go_sem,K,g1,B,a0],?_⟩;refine yR.yes o.out ((((C.setCell (dv _) _).setCell (dv _) _).setCell (by simp) _).setCell (by simp;omega) _) ?_;refine y.move (fun b d=>?_) (fun b d=>?_)
   ·have h1:=d.1
    rw[fy _ _ _ _ (fun e=>by have L:b=w.heap.size+1+1:=e;omega),fy _ _ _ _ (fun e=>by have L:b=w.heap.size+1:=e;omega),fy _ _ _ _ (fun e=>by have L:b=w.heap.size:=e;omega),fy _ _ _ _ (fun e=>by have L:b=w.heap.size:=e;omega)]
   ·have h1:=d.1
    have h2:=d.2;exact⟨by omega,by simpa [World.setCell]using h2⟩
end
section
open Go.RowKit
open Lx (Tk)
open Tr
end
section
open Go.RowKit
open Lx (Tk)
open Tr
end
namespace Lx
abbrev Wd:=Nat×ByteArray×Nat
def Ou(il:Bool)(t:Tk):Bool:=if isName t.1=η then ε else il
def J7(lK:ByteArray)(il:Bool)(t:Tk)(nx:ByteArray):List Wd :=
 if isName t.1=η then [(if nx=Er then 1 else 2,t.1,t.2)]
 else if isToken t.1=η then [(if il=η then 0 else if lK=DX then 4 else 3,t.1,t.2)]
 else []
def wl:ByteArray->Bool->List Tk->List Wd
 |_,_,[]=>[]
 |lK,il,t::ts=>J7 lK il t (hd ts)++wl t.1 (Ou il t) ts
def zi:Nat->List Alt->List Wd
 |0,_=>[]
 |d+1,l=>l.flatMap fun a=>(a.1.flatMap fun x=>(if x.kind=0 then [(2,x.name,x.place)] else if x.kind=1 then [(3,x.name,x.place)] else [])++zi d x.alts)++(if a.2.1=bP then [] else [(4,a.2.1,a.2.2)])
def JM(d:Nat)(x:It):List Wd:=(if x.kind=0 then [(2,x.name,x.place)] else if x.kind=1 then [(3,x.name,x.place)] else [])++zi d x.alts
def abk(d:Nat)(a:Alt):List Wd:=a.1.flatMap (JM d)++(if a.2.1=bP then [] else [(4,a.2.1,a.2.2)])
theorem Zg(d:Nat)(l:List Alt):zi (d+1) l=l.flatMap (abk d):=rfl
def qM(g:Gr):List Wd:=(g.levels.flatMap fun lv=>lv.tokens.map fun t=>(0,t.1,t.2))++g.rules.flatMap fun r=>(1,r.name,r.place)::zi 9 r.alts
theorem amZ{c:ByteArray}{a:Bool}(h1:isName t=ε)(h2:isToken t=ε):J7 b a (t,p) c=[]:=by
 unfold J7;simp only[h1,h2];rfl
theorem abl(h1:isName t=ε)(a:Bool):Ou a (t,p)=a:=by
 unfold Ou;simp only[h1];rfl
theorem akZ{k:ByteArray->Bool}(a:k bP=ε)(h:k t=η):t≠bP:=fun e=>by rw[e,a]at h;cases h
def told(ws:List Wd):List Wd:=ws.filter fun w=>decide (w.1=0\/w.1=1)
def Ck(b:ByteArray)(l:List ByteArray):Bool:=l.any fun x=>decide (x=b)
def uT:List ByteArray->List Wd->Option Nat
 |_,[]=>ν
 |seen,w::ws=>if Ck w.2.1 seen=η then ο w.2.2 else uT (w.2.1::seen) ws
def ag1(g:Gr):List Wd:=g.levels.flatMap fun lv=>lv.tokens.map fun t=>(0,t.1,t.2)
theorem RN:∀(d:Nat)(l:List Alt)(w:Wd),w∈zi d l->w.1=2\/w.1=3\/w.1=4
 |0,_,_,h=>by cases h
 |d+1,l,w,h=>by
  rw[Zg]at h;obtain⟨a,_,h⟩:=li.1 h;rcases dq.1 h with h|h
  ·obtain⟨x,_,h⟩:=li.1 h
   rcases dq.1 h with h|h
   ·split at h
    ·simp only[List.mem_singleton]at h;subst h;exact .inl rfl
    ·split at h
     ·simp only[List.mem_singleton]at h;subst h;exact .inr (.inl rfl)
     ·cases h
   ·exact RN d _ w h
  ·split at h
   ·cases h
   ·simp only[List.mem_singleton]at h;subst h;exact .inr (.inr rfl)
def iter{σ:Type}(R:σ->σ):Nat->σ->σ
 |0,s=>s
 |k+1,s=>iter R k (R s)
theorem YV{σ:Type}{R:σ->σ}{Inv Closed:σ->Prop}{cnt:σ->Nat}{N:Nat}(b:∀s,Inv s->Inv (R s))(c:∀s,Inv s->cnt s<=N)(hp:∀s,Inv s->¬Closed s->cnt s<cnt (R s))(a:∀s,Inv s->Closed s->R s=s):∀(k:Nat)(s:σ),Inv s->N+1<=k+cnt s->Closed (iter R k s)
 |0,s,hi,h=>by have:=c s hi;omega
 |k+1,s,hi,h=>by
  by_cases hc:Closed s
  ·have:∀k,iter R k s=s:=by
    intro k
    induction k with
    |zero=>rfl
    |succ k ih=>rw[iter,a s hi hc,ih]
   rw[this];exact hc
  ·have:=hp s hi hc
   exact YV b c hp a k (R s) (b s hi) (by omega)
def jP(ws:List Wd):List ByteArray:=ws.map fun w=>w.2.1
def yS(all:List ByteArray):List Wd->Option Nat
 | []=>ν
 |w::ws=>if (w.1=2\/w.1=4)/\Ck w.2.1 all=ε then ο w.2.2 else yS all ws
def bG(g:Gr):List ByteArray:=g.rules.map fun r=>r.name
def ZN(g:Gr):List ByteArray:=jP (ag1 g)
def aJ(bs:List Bool)(i:Nat):Bool:=bs[i]?.getD ε
def bX(a b:List Bool):Prop:=a.length=b.length/\∀i,aJ a i=η->aJ b i=η
theorem bX.refl(a:List Bool):bX a a:=⟨rfl,fun _ h=>h⟩
theorem bX.trans{a b c:List Bool}(h:bX a b)(k:bX b c):bX a c:=⟨h.1.trans k.1,fun i d=>k.2 i (h.2 i d)⟩
theorem at_set(bs:List Bool)(j i:Nat):aJ (bs.set j η) i=if j=i/\j<bs.length then η else aJ bs i:=by
 unfold aJ;rw[g8]
 by_cases h:j=i
 ·subst h
  by_cases hl:j<bs.length
  ·simp[hl]
  ·simp[hl]
 ·simp[h]
theorem bX.set(bs:List Bool)(j:Nat):bX bs (bs.set j η):=⟨by simp,fun i a=>by rw[at_set];split <;> simp_all⟩
theorem SB(h:j<bs.length->aJ bs j=η):bs.set j η=bs:=by
 apply pS;intro i;rw[g8]
 by_cases hj:j=i
 ·subst hj
  by_cases hl:j<bs.length
  ·have h1:=h hl
   unfold aJ at h1;rw[cG hl]at h1|-;simp only[Option.getD_some]at h1;simp[h1];exact hl
  ·simp[hl]
 ·simp[hj]
def aZ(bs:List Bool):Nat:=bs.countP id
theorem BN(bs:List Bool):aZ bs<=bs.length:=wi
theorem cnt_mono:∀{a b:List Bool},bX a b->aZ a<=aZ b
 | [],[],_=>dv _
 | [],_::_,h=>by have:=h.1;simp at this
 |_::_,[],h=>by have:=h.1;simp at this
 |x::a,y::b,h=>by
  have ih:=cnt_mono (a:=a) (b:=b) ⟨by have:=h.1;simpa using this,fun i c=>h.2 (i+1) c⟩;have d:x=η->y=η:=fun e=>by subst e;exact h.2 0 rfl
  unfold aZ at *;rw[oe,oe];cases x <;> cases y <;> simp_all <;> omega
theorem cnt_lt:∀{a b:List Bool}(i:Nat),bX a b->aJ a i=ε->aJ b i=η->aZ a<aZ b
 | [],[],i,_,_,hb=>by simp[aJ]at hb
 | [],_::_,_,h,_,_=>by have:=h.1;simp at this
 |_::_,[],_,h,_,_=>by have:=h.1;simp at this
 |x::a,y::b,0,h,ha,hb=>by
  have g:=cnt_mono (a:=a) (b:=b) ⟨by have:=h.1;simpa using this,fun i c=>h.2 (i+1) c⟩;have f:x=ε:=ha;have d:y=η:=hb;subst f d;unfold aZ at *;rw[oe,oe];simp only[id];simp;omega
 |x::a,y::b,i+1,h,ha,hb=>by
  have ih:=cnt_lt (a:=a) (b:=b) i ⟨by have:=h.1;simpa using this,fun i c=>h.2 (i+1) c⟩ ha hb;have j:x=η->y=η:=fun e=>by subst e;exact h.2 0 rfl
  unfold aZ at *;rw[oe,oe];cases x <;> cases y <;> simp_all <;> omega
def rH(step:Nat->List Bool->List Bool):Nat->Nat->List Bool->List Bool
 |0,_,bs=>bs
 |k+1,i,bs=>rH step k (i+1) (step i bs)
structure StepB(step:Nat->List Bool->List Bool)(Cl:Nat->List Bool->Prop):Prop where
 le:∀i bs,bX bs (step i bs)
 idle:∀i bs,Cl i bs->step i bs=bs
 more:∀i a bs,bX a bs->¬Cl i a->(∃j,aJ a j=ε/\aJ (step i bs) j=η)
theorem Jo{step:Nat->List Bool->List Bool}{a:Nat->List Bool->Prop}(h:StepB step a):∀(k i:Nat)(bs:List Bool),bX bs (rH step k i bs)
 |0,_,bs=>bX.refl bs
 |k+1,i,bs=>(h.le i bs).trans (Jo h k (i+1) (step i bs))
theorem Zh{step:Nat->List Bool->List Bool}{a:Nat->List Bool->Prop}(h:StepB step a):∀(k i:Nat)(bs:List Bool),(∀j,i<=j->j<i+k->a j bs)->rH step k i bs=bs
 |0,_,_,_=>rfl
 |k+1,i,bs,hc=>by
  rw[rH,h.idle i bs (hc i (dv _) (by omega))];exact Zh h k (i+1) bs fun j h1 h2=>hc j (by omega) (by omega)
theorem Zi{step:Nat->List Bool->List Bool}{d:Nat->List Bool->Prop}(h:StepB step d)(a:List Bool):∀(k i:Nat)(bs:List Bool),bX a bs->(∃j,i<=j/\j<i+k/\¬d j a)->∃j,aJ a j=ε/\aJ (rH step k i bs) j=η
 |0,i,_,_,⟨j,h1,h2,_⟩=>by omega
 |k+1,i,bs,hl,⟨j,h1,h2,h3⟩=>by
  by_cases hj:j=i
  ·subst hj
   obtain⟨m,b,c⟩:=h.more j a bs hl h3;exact⟨m,b,(Jo h k (j+1) (step j bs)).2 m c⟩
  ·exact Zi h a k (i+1) (step i bs) (hl.trans (h.le i bs)) ⟨j,by omega,by omega,h3⟩
theorem Yx{step:Nat->List Bool->List Bool}{a:Nat->List Bool->Prop}(h:StepB step a)(n k:Nat)(bs:List Bool)(f:bs.length=n)(g:n+1<=k):∀i,i<n->a i (iter (rH step n 0) k bs):=by
 have key:=YV (R:=rH step n 0) (Inv:=fun s=>s.length=n) (Closed:=fun s=>∀i,i<n->a i s) (cnt:=aZ) (N:=n)
  (fun s b=>by rw[<-b];exact(Jo h _ _ s).1.symm)
  (fun s b=>by rw[<-b];exact BN s)
  (fun s b d=>by
   have c:∃j,0<=j/\j<0+n/\¬a j s:=by
    by_cases hh:∃j,0<=j/\j<0+n/\¬a j s
    ·exact hh
    ·exfalso;apply d
     intro i l
     by_cases hci:a i s
     ·exact hci
     ·exact absurd ⟨i,fi _,by omega,hci⟩ hh
   obtain⟨j,h1,h2⟩:=Zi h s n 0 s (bX.refl s) c;exact cnt_lt j (Jo h n 0 s) h1 h2)
  (fun s b d=>Zh h n 0 s fun j _ h2=>d j (by omega))
 exact key k bs f (by omega)
theorem Ji{step:Nat->List Bool->List Bool}{a:Nat->List Bool->Prop}(h:StepB step a)(n:Nat):∀(k:Nat)(bs:List Bool),bX bs (iter (rH step n 0) k bs)
 |0,bs=>bX.refl bs
 |k+1,bs=>(Jo h n 0 bs).trans (Ji h n k _)
theorem YW{step:Nat->List Bool->List Bool}{I:List Bool->Prop}(a:∀i bs,I bs->I (step i bs))(n:Nat):∀(k:Nat)(bs:List Bool),I bs->I (iter (rH step n 0) k bs):=by
 have b:∀(m i:Nat)(bs:List Bool),I bs->I (rH step m i bs):=by
  intro m
  induction m with
  |zero=>intro i bs h;exact h
  |succ m ih=>intro i bs h;exact ih _ _ (a i bs h)
 intro k
 induction k with
 |zero=>intro bs h;exact h
 |succ k ih=>intro bs h;exact ih _ (b n 0 bs h)
def mR(ns:List ByteArray)(b:ByteArray):Nat:=ns.findIdx fun x=>decide (x=b)
def om(l:List Alt):List ByteArray:=jP ((zi 9 l).filter fun w=>decide (w.1=2))
def lQ(g:Gr)(i:Nat):List Alt:=(g.rules[i]?.map fun r=>r.alts).getD []
def zk(ns us:List ByteArray)(bs:List Bool):List Bool:=us.foldl (fun bs b=>bs.set (mR ns b) η) bs
theorem Ju(ns:List ByteArray):∀(us:List ByteArray)(bs:List Bool),bX bs (zk ns us bs)
 | [],bs=>bX.refl bs
 |b::us,bs=>(bX.set bs (mR ns b)).trans (Ju ns us _)
theorem ZO(ns:List ByteArray):∀(us:List ByteArray)(bs:List Bool),(∀b∈us,mR ns b<bs.length->aJ bs (mR ns b)=η)->zk ns us bs=bs
 | [],_,_=>rfl
 |b::us,bs,h=>by
  show zk ns us (bs.set (mR ns b) η)=bs;rw[SB (h b (by simp))];exact ZO ns us bs fun c a=>h c (by simp[a])
theorem SC(ns:List ByteArray):∀(us:List ByteArray)(bs:List Bool)(b:ByteArray),b∈us->mR ns b<bs.length->aJ (zk ns us bs) (mR ns b)=η
 | [],_,_,h,_=>by cases h
 |c::us,bs,b,h,hl=>by
  show aJ (zk ns us (bs.set (mR ns c) η)) _=η;rcases fh.1 h with rfl|h
  ·refine(Ju ns us _).2 _ ?_
   rw[at_set,du ⟨rfl,hl⟩]
  ·exact SC ns us _ b h (by simpa using hl)
theorem ZP(ns:List ByteArray)(T:List Bool):∀(us:List ByteArray)(bs:List Bool),bs.length=T.length->(∀b∈us,mR ns b<T.length->aJ T (mR ns b)=η)->bX bs T->bX (zk ns us bs) T
 | [],_,_,_,h=>h
 |b::us,bs,hl,hu,h=>by
  show bX (zk ns us (bs.set (mR ns b) η)) T;refine ZP ns T us _ (by simpa using hl) (fun c a=>hu c (by simp[a])) ⟨by simpa using hl,fun i d=>?_⟩;rw[at_set]at d
  split at d
  ·rename_i a
   rw[<-a.1];exact hu b (by simp) (by rw[<-hl];exact a.2)
  ·exact h.2 i d
def yV(g:Gr)(i:Nat)(bs:List Bool):List Bool:=if aJ bs i=η then zk (bG g) (om (lQ g i)) bs else bs
def CK(g:Gr)(i:Nat)(bs:List Bool):Prop:=aJ bs i=η->∀b∈om (lQ g i),mR (bG g) b<bs.length->aJ bs (mR (bG g) b)=η
theorem R8(g:Gr):StepB (yV g) (CK g) where
 le i bs:=by
  unfold yV
  split
  ·exact Ju _ _ bs
  ·exact bX.refl bs
 idle i bs h:=by
  unfold yV
  split
  ·rename_i k;exact ZO _ _ bs (h k)
  ·rfl
 more i a bs hl h:=by
  have k:aJ a i=η:=by
   cases hh:aJ a i
   ·exact absurd (fun l=>by rw[hh]at l;cases l) h
   ·rfl
  have j:∃b,b∈om (lQ g i)/\mR (bG g) b<a.length/\aJ a (mR (bG g) b)=ε:=by
   by_cases hh:∃b,b∈om (lQ g i)/\mR (bG g) b<a.length/\aJ a (mR (bG g) b)=ε
   ·exact hh
   ·exfalso
    apply h;intro _ b f c;cases d:aJ a (mR (bG g) b)
    ·exact absurd ⟨b,f,c,d⟩ hh
    ·rfl
  obtain⟨b,f,c,d⟩:=j;refine⟨_,d,?_⟩;unfold yV;rw[du (hl.2 i k)];exact SC _ _ bs b f (by rw[<-hl.1];exact c)
def oo(on:ByteArray->Bool):Nat->List Alt->Bool
 |0,_=>ε
 |d+1,l=>l.any fun a=>a.1.all fun x=>decide (x.kind=1) || decide (x.mark=42) || decide (x.mark=63) || (decide (x.kind=0) && on x.name) || (decide (x.kind=2) && oo on d x.alts)
theorem R9{on on':ByteArray->Bool}(h:∀b,on b=η->on' b=η):∀(d:Nat)(l:List Alt),oo on d l=η->oo on' d l=η
 |0,_,e=>by cases e
 |d+1,l,e=>by
  simp only[oo,List.any_eq_true,List.all_eq_true]at e|-;obtain⟨a,f,g⟩:=e;refine⟨a,f,fun x c=>?_⟩;have:=g x c;simp only[Bool.or_eq_true,Bool.and_eq_true]at this|-;rcases this with ((((t|t)|t)|t)|t)
  ·exact .inl (.inl (.inl (.inl t)))
  ·exact .inl (.inl (.inl (.inr t)))
  ·exact .inl (.inl (.inr t))
  ·exact .inl (.inr ⟨t.1,h _ t.2⟩)
  ·exact .inr ⟨t.1,R9 h d _ t.2⟩
def wo(g:Gr)(bs:List Bool)(b:ByteArray):Bool:=aJ bs (mR (bG g) b)
def uV(g:Gr)(i:Nat)(bs:List Bool):List Bool:=if oo (wo g bs) 9 (lQ g i)=η then bs.set i η else bs
def qj(g:Gr)(i:Nat)(bs:List Bool):Prop:=oo (wo g bs) 9 (lQ g i)=η->i<bs.length->aJ bs i=η
theorem NE(g:Gr):StepB (uV g) (qj g) where
 le i bs:=by
  unfold uV
  split
  ·exact bX.set bs i
  ·exact bX.refl bs
 idle i bs h:=by
  unfold uV
  split
  ·rename_i m;exact SB (h m)
  ·rfl
 more i a bs hl h:=by
  have j:oo (wo g a) 9 (lQ g i)=η:=by
   cases hh:oo (wo g a) 9 (lQ g i)
   ·exact absurd (fun d=>by rw[hh]at d;cases d) h
   ·rfl
  have c:i<a.length:=by
   rcases s7 i a.length with f|f
   ·exact f
   ·exact absurd (fun _ d=>by omega) h
  have k:aJ a i=ε:=by
   cases hh:aJ a i
   ·rfl
   ·exact absurd (fun _ _=>hh) h
  refine⟨i,k,?_⟩;unfold uV;rw[du (R9 (on':=wo g bs) (fun b l=>hl.2 _ l) 9 _ j),at_set,du ⟨rfl,by rw[<-hl.1];exact c⟩]
structure xD(Cl:Nat->List Bool->Prop)(n:Nat)(s bs:List Bool):Prop where
 len:bs.length=n
 has:bX s bs
 closed:∀i,i<n->Cl i bs
 least:∀T,T.length=n->bX s T->(∀i,i<n->Cl i T)->bX bs T
theorem ami{a b:List Bool}(h:a.length=b.length)(c:∀i,aJ a i=aJ b i):a=b:=by
 apply od h;intro i h1 h2;have:=c i;unfold aJ at this;rw[cG h1,cG h2]at this;simpa using this
theorem xD.unique{c:Nat->List Bool->Prop}{s a b:List Bool}(h:xD c n s a)(k:xD c n s b):a=b:=by
 have h1:=h.least b k.len k.has k.closed;have h2:=k.least a h.len h.has h.closed;refine ami h1.1 fun i=>?_
 cases ha:aJ a i
 ·cases hb:aJ b i
  ·rfl
  ·rw[h2.2 i hb]at ha;cases ha
 ·rw[h1.2 i ha]
theorem ZQ(g:Gr)(T:List Bool)(l:∀i,i<T.length->CK g i T)(i:Nat)(bs:List Bool)(h:bX bs T):bX (yV g i bs) T:=by
 unfold yV
 split
 ·rename_i k
  refine ZP _ T _ bs h.1 (fun b j c=>?_) h;have a:=h.2 i k;have f:i<T.length:=by
   rcases s7 i T.length with d|d
   ·exact d
   ·unfold aJ at a;rw[kf d]at a;cases a
  exact l i f a b j c
 ·exact h
theorem aaF(g:Gr)(T:List Bool)(l:∀i,i<T.length->qj g i T)(i:Nat)(bs:List Bool)(h:bX bs T):bX (uV g i bs) T:=by
 unfold uV
 split
 ·rename_i k
  refine⟨by simpa using h.1,fun j c=>?_⟩;rw[at_set]at c
  split at c
  ·rename_i d
   rw[<-d.1];have a:i<T.length:=by rw[<-h.1];exact d.2
   exact l i a (R9 (on':=wo g T) (fun b f=>h.2 _ f) 9 _ k) a
  ·exact h.2 j c
 ·exact h
theorem ag2(g:Gr)(n k:Nat)(s:List Bool)(b:s.length=n)(c:n+1<=k):xD (CK g) n s (iter (rH (yV g) n 0) k s) where
 len:=by rw[<-b];exact(Ji (R8 g) _ k s).1.symm
 has:=Ji (R8 g) n k s
 closed:=Yx (R8 g) n k s b c
 least T hT h1 h2:=YW (I:=fun a=>bX a T) (fun i a h=>ZQ g T (fun i d=>h2 i (by omega)) i a h) n k s h1
theorem ah5(g:Gr)(n k:Nat)(s:List Bool)(b:s.length=n)(c:n+1<=k):xD (qj g) n s (iter (rH (uV g) n 0) k s) where
 len:=by rw[<-b];exact(Ji (NE g) _ k s).1.symm
 has:=Ji (NE g) n k s
 closed:=Yx (NE g) n k s b c
 least T hT h1 h2:=YW (I:=fun a=>bX a T) (fun i a h=>aaF g T (fun i d=>h2 i (by omega)) i a h) n k s h1
def Uu(a:Alt):List Wd:=if a.2.1=bP then [] else [(4,a.2.1,a.2.2)]
theorem ag3(d:Nat)(a:Alt):abk d a=a.1.flatMap (JM d)++Uu a:=rfl
def DY(d:Nat)(l:List Alt):List ByteArray:=jP ((zi d l).filter fun w=>decide (w.1=2))
def JN(d:Nat)(x:It):List ByteArray:=(if x.kind=0 then [x.name] else [])++DY d x.alts
theorem Nf(a b:List Wd):jP (a++b)=jP a++jP b:=by unfold jP;rw[ee]
theorem ag4(d:Nat)(x:It):jP ((JM d x).filter fun w=>decide (w.1=2))=JN d x:=by
 unfold JM JN DY;rw[mT,Nf];congr 1
 split
 ·simp[jP]
 ·split
  ·simp[jP]
  ·rfl
theorem Zj(d:Nat):∀its:List It,jP ((its.flatMap (JM d)).filter fun w=>decide (w.1=2))=its.flatMap (JN d)
 | []=>rfl
 |x::its=>by rw[eS,mT,Nf,ag4,Zj d its,eS]
theorem Zk(d:Nat):∀l:List Alt,DY (d+1) l=l.flatMap fun a=>a.1.flatMap (JN d)
 | []=>rfl
 |a::l=>by
  have ih:=Zk d l;unfold DY at ih|-;rw[Zg]at ih|-;rw[eS,mT,Nf,ih,ag3,mT,Nf,Zj,eS];have:jP ((Uu a).filter fun w=>decide (w.1=2))=[]:=by
   unfold Uu;split
   ·rfl
   ·simp[jP]
  rw[this,fW]
end Lx
def bE(bs:List Bool):Array υ:=(bs.map μ).toArray
theorem Dz(bs:List Bool)(i:Nat)(b:Bool):(bE bs).setIfInBounds i (μ b)=bE (bs.set i b):=by
 unfold bE;rw[j8,oR]
theorem qE(bs:List Bool)(h:i<bs.length):(bE bs)[i]?=ο (μ (aJ bs i)):=by
 unfold bE aJ;simp[h]
theorem Ti(h:0<=fM l b):fM l b=(Lx.fix l b:Int)/\Lx.fix l b<l.length:=by
 unfold fM at h|-
 split
 ·rename_i h1;exact⟨rfl,h1⟩
 ·rename_i h1;rw[dt h1]at h;omega
namespace Lx
def uZ(on:ByteArray->Bool)(d:Nat)(x:It):Bool:=decide (x.kind=1) || decide (x.mark=42) || decide (x.mark=63) || (decide (x.kind=0) && on x.name) || (decide (x.kind=2) && oo on d x.alts)
theorem ag5(on:ByteArray->Bool)(d:Nat)(l:List Alt):oo on (d+1) l=l.any fun a=>a.1.all (uZ on d):=rfl
end Lx
theorem Tryz.OH:(prog.info? 4).map (fun i=>(i.zero,i.size,i.bytes))=ο (ο (.bool ε),1,1):=by kernel_rfl
theorem RO(n:Nat):madeCells #[μ ε] (n*1)=bE (ψ n ε):=by
 unfold madeCells bE;apply rK
 ·simp
 ·intro i h1 h2
  simp[Nat.mod_one]
theorem Zl(g:n<=2001)(w:ω):(Instr.makeSlice 81 (ι ξ (n:Int)) (ι ξ (n:Int))).run prog w=.ok (ς (ο ⟨w.heap.size,0,ν⟩) n n) (w.alloc (ζ (bE (ψ n ε)) 4)):=by
 obtain⟨d,f,b,c,a⟩:=ft Tryz.OH;have h:=qh (P:=prog) w 81 4 d _ (by kernel_rfl) f b ξ ξ (n:Int) (n:Int) (by omega) (oX _) (by rw[a];omega) (by omega);rw[h,ij,c];have e:Value.cells (μ ε)=#[μ ε]:=rfl;rw[e,RO]
namespace Lx
def FM:List Rl->List Bool->Option Nat
 |r::rs,b::bs=>if b=η then FM rs bs else ο r.place
 |_,_=>ν
def adr(g:Gr):List Bool:=iter (rH (yV g) g.rules.length 0) (g.rules.length+1) ((ψ g.rules.length ε).set 0 η)
def ad2(g:Gr):List Bool:=iter (rH (uV g) g.rules.length 0) (g.rules.length+1) (ψ g.rules.length ε)
theorem Sb{g:Gr}(a:i<g.rules.length):lQ g i=g.rules[i].alts:=by simp[lQ,a]
def lq:Nat->List Alt->List It
 |0,_=>[]
 |d+1,l=>l.flatMap fun a=>a.1.flatMap fun x=>x::lq d x.alts
def J8(d:Nat)(x:It):List It:=x::lq d x.alts
def Gy(d:Nat)(l:List It):List It:=l.flatMap (J8 d)
theorem ZR(d:Nat)(l:List Alt):lq (d+1) l=l.flatMap fun a=>Gy d a.1:=rfl
def hlp(x:It):Bool:=decide (x.kind=2) || decide (x.mark≠0)
def bS(d:Nat)(l:List Alt):List It:=(lq d l).filter hlp
theorem RB{α β:Type}(p:β->Bool)(f:α->List β):∀l:List α,(l.flatMap f).filter p=l.flatMap fun a=>(f a).filter p
 | []=>rfl
 |a::l=>by rw[eS,mT,RB p f l,eS]
def am0(d:Nat)(l:List Alt):List ByteArray:=((lq d l).filter fun x=>decide (x.kind=1)).map It.name
def l7:ByteArray:=⟨#[36]⟩
def Ov:ByteArray:=⟨#[36,115,116,97,114,116]⟩
def ads:ByteArray:=⟨#[39]⟩
def uX(l:List ByteArray)(b:ByteArray):List ByteArray:=if 0<=fM l b then l else l++[b]
def mZ(l bs:List ByteArray):List ByteArray:=bs.foldl uX l
def Gz(n:Nat):ByteArray:=⟨(Lib.decDigits n).toArray⟩
def hName(b:ByteArray)(k:Nat):ByteArray:=b++ads++Gz k
def qH(r:Rl):List ByteArray:=r.name::(List.range (bS 9 r.alts).length).map fun k=>hName r.name (k+1)
def aG(g:Gr):List ByteArray:=mZ [l7] (ZN g++g.rules.flatMap fun r=>am0 9 r.alts)
def gH(g:Gr):List ByteArray:=Ov::g.rules.flatMap qH
structure Pd where
 left:Nat
 right:List Nat
 prec:Int
def rJ(n:Nat)(r:List Nat):Int:=r.foldl (fun p s=>if s<n then (s:Int) else p) (-1)
def dh(n s:Nat)(r:List Nat):Pd:=⟨s,r,rJ n r⟩
def J9(T N:List ByteArray)(x:It):Nat:=if x.kind=1 then fix T x.name else T.length+fix N x.name
def Cn(H:List It)(p:Nat):Nat:=H.findIdx fun x=>decide (x.place=p)
def JO(T N:List ByteArray)(b:Nat)(H:List It)(x:It):Nat:=if hlp x=η then b+1+Cn H x.place else J9 T N x
def qG(T N:List ByteArray)(b:Nat)(H:List It)(its:List It):List Nat:=its.map (JO T N b H)
def vw(T N:List ByteArray)(b:Nat)(H:List It)(a:Alt):Pd:=⟨b,qG T N b H a.1,if a.2.1=bP then rJ T.length (qG T N b H a.1) else (fix T a.2.1:Int)⟩
def partsOf(T N:List ByteArray)(b:Nat)(H:List It)(x:It):List (List Nat):=if x.kind=2 then x.alts.map fun a=>qG T N b H a.1 else [[J9 T N x]]
def sZ(n s m:Nat)(ps:List (List Nat)):List Pd:=(if m=42\/m=63 then [dh n s []] else [])++((if m=42 then [] else ps.map (dh n s))++(if m=42\/m=43 then ps.map fun r=>dh n s (s::r) else []))
def rF(T N:List ByteArray)(b:Nat)(H:List It):Nat->List It->List Pd
 |_,[]=>[]
 |k,x::l=>sZ T.length (b+1+k) x.mark (partsOf T N b H x)++rF T N b H (k+1) l
def DU(T N:List ByteArray)(b:Nat)(r:Rl):List Pd:=r.alts.map (vw T N b (bS 9 r.alts))++rF T N b (bS 9 r.alts) 0 (bS 9 r.alts)
def ng(T N:List ByteArray):Nat->List Rl->List Pd
 |_,[]=>[]
 |b,r::rs=>DU T N b r++ng T N (b+1+(bS 9 r.alts).length) rs
def bY(g:Gr):List Pd:=⟨(aG g).length,[(aG g).length+1],-1⟩::ng (aG g) (gH g) ((aG g).length+1) g.rules
def bk(t:ByteArray):Nat->List Lv->Nat×Nat->Nat×Nat
 |_,[],r=>r
 |i,l::ls,r=>bk t (i+1) ls (if 0<=fM (l.tokens.map Prod.fst) t then (i+1,l.kind) else r)
def vC(g:Gr)(t:ByteArray):Nat×Nat:=bk t 0 g.levels (0,0)
end Lx
structure vE(P:Program)(kt:TypeId){κ:Type}(K:κ->υ)(G:ω->κ->Prop):Prop where
 inj:∀a b,K a=K b->a=b
 check:∀em w a,(Instr.checkKey em 10000 kt (K a)).run P w=.ok () w
 find:∀w a l,G w a->(∀x∈l,∃c,x.key=K c/\G w c)->((Instr.findKey kt (K a) l).run P w=.ok ν w/\∀(x:MapEntry),x∈l->x.key≠K a)\/∃(j:Nat)(e:MapEntry),(Instr.findKey kt (K a) l).run P w=.ok (ο (j,e.val)) w/\l[j]?=ο e/\e.key=K a
 stays:∀w a,(Instr.keyThatStays (K a) (K a)).run P w=.ok (K a) w
def bZ{κ:Type}(K:κ->υ)(G:κ->Prop)(w:ω)(B:Nat)(f:κ->Int):Prop :=
 ∃es clock,w.heap[B]?=ο (.map es clock)/\(∀(i:Nat)(e:MapEntry),es[i]?=ο e->∃a,e.key=K a/\G a/\e.val=ι ξ (f a))/\(∀(i j:Nat)(e e':MapEntry),es[i]?=ο e->es[j]?=ο e'->e.key=e'.key->i=j)/\(∀a,f a≠0->∃(i:Nat)(e:MapEntry),es[i]?=ο e/\e.key=K a)
section
variable{P:Program}{kt:TypeId}{κ:Type}{K:κ -> υ}{Gw:ω -> κ -> Prop}{w:ω}{B:Nat}{f:κ -> Int}
theorem bZ.lt{G:κ->Prop}(h:bZ K G w B f):B<w.heap.size:=by
 obtain⟨b,a,h1,-⟩:=h;exact(ei.1 h1).1
theorem bZ.move{G:κ->Prop}(h:bZ K G w B f)(c:w'.heap[B]?=w.heap[B]?):bZ K G w' B f:=by
 obtain⟨b,a,h1,h2⟩:=h;exact⟨b,a,c.trans h1,h2⟩
theorem bZ.made(G:κ->Prop)(w:ω):bZ K G (w.alloc (.map #[] 0)) w.heap.size (fun _=>0) :=
 ⟨#[],0,py w _,fun i e h=>by simp at h,fun i j e b h=>by simp at h,fun a h=>absurd rfl h⟩
theorem bZ.look(d:vE P kt K Gw){T:TypeId}(r:P.underlying T=ο (.map kt E))(F:∀w,(zeroValue E).run P w=.ok (.int ξ 0) w){G:κ->Prop}(q:∀a,G a->Gw w a)(h:bZ K G w B f){a:κ}(D:G a):(Instr.lookup T (.map (ο B)) (K a) ε).run P w=.ok (.int ξ (f a)) w:=by
 obtain⟨p,m,h1,h2,h3,h4⟩:=h;have s:∀x∈p.toList,∃c,x.key=K c/\Gw w c:=by
  intro x u;obtain⟨i,n⟩:=fb.1 u;obtain⟨c,o,t,-⟩:=h2 i x (by rw[<-gz];exact n);exact⟨c,o,q _ t⟩
 rcases d.find w a p.toList (q a D) s with ⟨b,v⟩|⟨j,e,b,C,y⟩
 ·have l:f a=0:=by
   apply jt;intro g;obtain⟨i,e,n,z⟩:=h4 a g;exact v e (fb.2 ⟨i,by rw[gz];exact n⟩) z
  rw[l];simp[Instr.lookup,run_underlying r,MapKept.run_getObj_map h1,d.check,b,F,Result.andThen]
 ·obtain⟨c,o,-,A⟩:=h2 j e (by rw[<-gz];exact C)
  have k:=d.inj _ _ (o.symm.trans y);subst k;rw[A]at b;simp[Instr.lookup,run_underlying r,MapKept.run_getObj_map h1,d.check,b,Result.andThen]
theorem bZ.put[DecidableEq κ](hK:vE P kt K Gw){T:TypeId}(hT:P.underlying T=ο (.map kt E)){G:κ->Prop}(hG:∀a,G a->Gw w a)(h:bZ K G w B f){a:κ}(ha:G a)(v:Int):∃w',(Instr.mapUpdate T (.map (ο B)) (K a) (.int ξ v)).run P w=.ok () w'/\bZ K G w' B (fun c=>if c=a then v else f c)/\w.grownBy w' (ο B)/\w'.heap.size=w.heap.size:=by
 obtain⟨p,d,h1,h2,h3,h4⟩:=h;have Q:∀x∈p.toList,∃c,x.key=K c/\Gw w c:=by
  intro x S;obtain⟨i,b⟩:=fb.1 S;obtain⟨c,n,A,-⟩:=h2 i x (by rw[<-gz];exact b);exact⟨c,n,hG _ A⟩
 have t:∀o:Obj,w.grownBy { w with heap:=w.heap.setIfInBounds B o } (ο B):=fun o=>⟨rfl,rfl,rfl,by simp,fun k _ z=>(qk h1).2 k (fun e=>z (by rw[e]))⟩
 rcases hK.find w a p.toList (hG a ha) Q with ⟨D,H⟩|⟨j,e,D,U,z⟩
 ·refine⟨{ w with heap:=w.heap.setIfInBounds B (.map (p.push { key:=K a,val:=ι ξ v,born:=d }) (d+1)) },?_,⟨p.push { key:=K a,val:=ι ξ v,born:=d },d+1,(qk h1).1,?_,?_,?_⟩,t _,by simp⟩
  ·simp[Instr.mapUpdate,run_underlying hT,MapKept.run_getObj_map h1,hK.check,D,MapKept.run_setObj_map _ h1,Result.andThen]
  ·intro i e b
   rw[p6]at b
   split at b
   ·cases b;exact⟨a,rfl,ha,by simp⟩
   ·obtain⟨c,n,A,J⟩:=h2 i e b
    have u:c≠a:=fun s=>H e (fb.2 ⟨i,by rw[gz];exact b⟩) (by rw[n,s])
    exact⟨c,n,A,by simp only[if_neg u];exact J⟩
  ·intro i C e s b g q
   rw[p6]at b g
   split at b <;> split at g
   ·omega
   ·cases b
    exact absurd q.symm (H s (fb.2 ⟨C,by rw[gz];exact g⟩))
   ·cases g
    exact absurd q (H e (fb.2 ⟨i,by rw[gz];exact b⟩))
   ·exact h3 i C e s b g q
  ·intro c n
   by_cases hca:c=a
   ·subst hca
    exact⟨p.size,_,by rw[p6,du rfl],rfl⟩
   ·simp only[if_neg hca]at n
    obtain⟨i,e,b,q⟩:=h4 c n;refine⟨i,e,?_,q⟩;have L:=(ei.1 b).1;rw[p6,dt (by omega)];exact b
 ·have m:p[j]?=ο e:=by rw[<-gz];exact U
  refine⟨{ w with heap:=w.heap.setIfInBounds B (.map (p.modify j fun e=>{ e with key:=K a,val:=ι ξ v }) d) },?_,⟨p.modify j fun e=>{ e with key:=K a,val:=ι ξ v },d,(qk h1).1,?_,?_,?_⟩,t _,by simp⟩
  ·simp[Instr.mapUpdate,run_underlying hT,MapKept.run_getObj_map h1,hK.check,D,m,z,hK.stays,MapKept.run_setObj_map _ h1,Result.andThen]
  ·intro i x b
   rw[pg]at b
   split at b
   ·rename_i l
    subst l;rw[m]at b;cases b;exact⟨a,rfl,ha,by simp⟩
   ·rename_i l
    obtain⟨c,n,A,J⟩:=h2 i x b;have u:c≠a:=fun s=>l (h3 j i e x m b (by rw[z,n,s]))
    exact⟨c,n,A,by simp only[if_neg u];exact J⟩
  ·intro i C x O b g q
   have r:∀(i:Nat)(x:MapEntry),(p.modify j fun e=>{ e with key:=K a,val:=ι ξ v })[i]?=ο x->∃y,p[i]?=ο y/\y.key=x.key:=by
    intro i x b;rw[pg]at b
    split at b
    ·rename_i l
     subst l;rw[m]at b;cases b;exact⟨e,m,z⟩
    ·exact⟨x,b,rfl⟩
   obtain⟨y,R,M⟩:=r i x b;obtain⟨N,F,I⟩:=r C O g;exact h3 i C y N R F (by rw[M,I,q])
  ·intro c n
   by_cases hca:c=a
   ·subst hca
    exact⟨j,_,by rw[pg,du rfl,m];rfl,rfl⟩
   ·simp only[if_neg hca]at n
    obtain⟨i,x,b,q⟩:=h4 c n;refine⟨i,x,?_,q⟩;have l:j≠i:=fun s=>hca (hK.inj _ _ (by rw[<-q,<-z];subst s;rw[m]at b;cases b;rfl))
    rw[pg,dt l];exact b
end
theorem ak0{i:TypeId}(g:P.underlying i=ο .string):vE P i τ (fun _ _=>True) where
 inj a b h:=by cases h;rfl
 check em w a:=MapKept.run_checkKey (d:=.string) (k:=.string a) g trivial em 9999
 find w a l _ hl:=by
  have f:∀x∈l,MapKept.IsKey .string x.key:=fun x n=>by obtain⟨c,m,-⟩:=hl x n;rw[m];trivial
  rcases MapKept.findNow_spec (d:=.string) (k:=.string a) trivial l 0 f with ⟨h1,h2⟩|⟨j,e,h1,h2,h3⟩
  ·exact .inl ⟨MapKept.run_findKey g h1,h2⟩
  ·rw[fX]at h1
   exact .inr ⟨j,e,MapKept.run_findKey g h1,h2,h3⟩
 stays w a:=MapKept.run_keyThatStays (d:=.string) (k:=.string a) trivial
def SMap(w:ω)(B:Nat)(f:ByteArray->Int):Prop:=bZ τ (fun _=>True) w B f
theorem Tryz.xO:vE prog 9 τ (fun _ _=>True):=ak0 (by kernel_rfl)
theorem Tryz.Gj:prog.underlying 69=ο (.map 9 3):=by kernel_rfl
theorem Tryz.Gl(w:ω):(zeroValue 3).run prog w=.ok (ι ξ 0) w:=by kernel_rfl
theorem SMap.look{w:ω}{B:Nat}{f:ByteArray->Int}(h:SMap w B f)(b:ByteArray):(Instr.lookup 69 (.map (ο B)) (τ b) ε).run prog w=.ok (ι ξ (f b)) w:=bZ.look Tryz.xO Tryz.Gj Tryz.Gl (fun _ _=>trivial) h trivial
theorem SMap.put{w:ω}{B:Nat}{f:ByteArray->Int}(h:SMap w B f)(b:ByteArray)(v:Int):∃w',(Instr.mapUpdate 69 (.map (ο B)) (τ b) (ι ξ v)).run prog w=.ok () w'/\SMap w' B (fun c=>if c=b then v else f c)/\w.grownBy w' (ο B)/\w'.heap.size=w.heap.size:=bZ.put Tryz.xO Tryz.Gj (fun _ _=>trivial) h trivial v
def tX(x:Lx.Wd):List υ:=[ι ξ (x.1:Int),τ x.2.1,ι ξ (x.2.2:Int)]
def WR(w:ω)(v:υ)(ws:List Lx.Wd):Prop:=w.ownsRow 0 208 3 v ws.length (ws.flatMap tX)
theorem WR.len{ws:List Lx.Wd}(h:WR w v ws):∃a c,v=ς a ws.length c/\ws.length<=maxLen:=aB h
theorem acv:∀(ws:List Lx.Wd)(j i:Nat)(x:Lx.Wd),ws[j]?=ο x->i<3->(ws.flatMap tX)[j*3+i]?=(tX x)[i]?
 | [],_,_,_,h,_=>by simp at h
 |p::ps,0,i,x,h,hi=>by
  simp at h;subst h;rw[eS,rm,fX,eL (by simp[tX];exact hi)]
 |p::ps,j+1,i,x,h,hi=>by
  have a:ps[j]?=ο x:=by simpa using h
  rw[eS,eQ (by simp[tX,Nat.succ_mul];omega),show (tX p).length=3 from rfl,show (j+1)*3+i-3=j*3+i by omega];exact acv ps j i x a hi
theorem WR.at{w:ω}{v:υ}{ws:List Lx.Wd}(h:WR w v ws){j:Nat}(c:j<ws.length):∃g cap,v=ς (ο ⟨g,0,ν⟩) ws.length cap/\g<w.heap.size/\w.cell? ⟨g,j*3,ν⟩=ο (ι ξ (ws[j].1:Int))/\w.cell? ⟨g,j*3+1,ν⟩=ο (τ ws[j].2.1)/\w.cell? ⟨g,j*3+2,ν⟩=ο (ι ξ (ws[j].2.2:Int)):=by
 unfold WR at h;obtain⟨g,cap,rfl,-,-⟩:=h.form (by omega);have b:=cG c;have a:∀i,i<3->w.cell? ⟨g,j*3+i,ν⟩=(tX ws[j])[i]?:=fun i d=>by
  rw[h.cellAt (j*3+i) (by omega),acv ws j i _ b d]
 exact⟨g,cap,rfl,(h.lt g rfl).2,a 0 (by decide),a 1 (by decide),a 2 (by decide)⟩
theorem WR.move{ws:List Lx.Wd}(h:WR w v ws)(a:∀g,v.ownBlock=ο g->w'.heap[g]?=w.heap[g]?):WR w' v ws:=ay h a
theorem WR.below{ws:List Lx.Wd}(h:WR w v ws)(b:φ w.heap.size w w'):WR w' v ws:=ay h fun g a=>b.block g (h.lt g a).2
def Ev:Option Nat->Int
 |none=>-1
 |some p=>p
namespace Lx
def Ca(s:List ByteArray)(b:ByteArray):Int:=if Ck b s=η then 1 else 0
theorem YF{x:Wd}{ws:List Wd}(h:¬(x.1=0\/x.1=1)):told (x::ws)=told ws:=by unfold told;rw[pL,dt (by simpa using h)]
theorem ZT{x:Wd}{ws:List Wd}(h:x.1=0\/x.1=1):told (x::ws)=x::told ws:=by unfold told;rw[pL,du (by simpa using h)]
theorem ah6(s:List ByteArray)(b:ByteArray):(fun c=>if c=b then (1:Int) else Ca s c)=Ca (b::s):=by
 funext c;unfold Ca Ck
 by_cases h:c=b
 ·subst h;simp
 ·rw[dt h]
  have:decide (b=c)=ε:=by simpa using fun e=>h e.symm
  rw[List.any_cons,this,A4]
end Lx
theorem ag6{ws:List Lx.Wd}(h:WR w v ws):
  χ prog 76 #[v] w fun e w'=>e=δ (ι ξ (Ev (uT [] (Lx.told ws))))/\φ w.heap.size w w':=by
 obtain⟨a,c,rfl,Z⟩:=h.len;unfold maxLen at Z;have K:=@sq prog;go_enter func76,ntmps76;go_wp2_with fail;clear K;obtain⟨W,E⟩:=aC (w.alloc (.map #[] 0));rw[<-E];have R:W.heap.size=w.heap.size+1:=by rw[E];simp
 have hB:φ w.heap.size w W:=by rw[E];exact(cV _ _).alloc (dv _) _
 have y:SMap W w.heap.size (Ca []):=by rw[E];exact bZ.made _ w
 clear E;have Q:Hid (uT [] (Lx.told ws)=uT [] (Lx.told (ws.drop 0))):=rfl
 go_loopg [9] ws.length (fun k i wr=>∃(j:Nat)(s:List ByteArray),j+k=ws.length/\i=ι ξ j/\φ w.heap.size w wr/\SMap wr w.heap.size (Ca s)/\Hid (uT [] (Lx.told ws)=uT s (Lx.told (ws.drop j))))
 case atStart=>exact⟨0,[],by omega,rfl,hB,y,Q⟩
 case round=>
  clear Q y;obtain⟨j,s,H,rfl,A,y,C⟩:=hrel;have L:=y.lt
  by_cases hlt:j<ws.length
  ·have P:=h.below A
   obtain⟨g,T,hv,lg,c0,U,V⟩:=P.at hlt;cases hv;have hd:=C.out;rw[eN hlt]at hd;have Y:=(h.lt g rfl).2;generalize ws[j]=x at c0 U V hd;obtain⟨f,tx,p⟩:=x;obtain⟨F,d⟩:=aC (wr.alloc (ζ #[ι ξ (f:Int),τ tx,ι ξ (p:Int)] 208));have u:φ wr.heap.size wr F:=by rw[d];exact(cV _ _).alloc (dv _) _
   have G:F.heap.size=wr.heap.size+1:=by rw[d];simp
   have J:aj F wr.heap.size #[ι ξ (f:Int),τ tx,ι ξ (p:Int)] 208:=by rw[d];exact aj.new wr _ 208
   have n:SMap F w.heap.size (Ca s):=y.move (u.block _ L);have M:=A.trans (u.mono (by omega))
   by_cases b:f=0\/f=1
   ·rw[ZT b,uT]at hd
    have t:=n.look tx;have q:∀{w2:ω},F.grownBy w2 (ο w.heap.size)->aj w2 wr.heap.size #[ι ξ (f:Int),τ tx,ι ξ (p:Int)] 208:=fun S=>J.grown S (fun e=>by have:=fL e;omega)
    cases hmb:Ck tx s with
    |true=>
     rw[du hmb]at hd;have l:Hid (uT [] (Lx.told ws)=ο p):=hd;rw[show Ca s tx=1 from du hmb]at t;obtain⟨w2,N,o,m,O⟩:=n.put tx 2;have z:=o.look tx;rw[du rfl]at z;have I:=q m;have x1:=I.a1;have x2:=I.a2;have B:=M.grown m (by omega) (fun k H=>by cases H;exact dv _);rw[d]at t N;clear hd C hmb n o y q J u G d m;rcases b with b|b
     have r:((f:Int) != 0)=ε:=by simp[b]
     clear b
     rotate_left
     have r:((f:Int) != 0)=η:=nj.2 (by omega);have D:((f:Int) != 1)=ε:=by simp[b]
     clear b
     all_goals
      go_wp2_with fail;go_ret;exact⟨by rw[l.out];rfl,B⟩
    |false=>
     rw[dt (by rw[hmb];decide)]at hd;have l:Hid (uT [] (Lx.told ws)=uT (tx::s) (Lx.told (ws.drop (j+1)))):=hd;rw[show Ca s tx=0 from dt (by rw[hmb];decide)]at t;obtain⟨w2,N,o,m,O⟩:=n.put tx 1;have z:=o.look tx;rw[du rfl]at z;rw[ah6]at o;have I:=q m;have x1:=I.a1;have B:=M.grown m (by omega) (fun k H=>by cases H;exact dv _);rw[d]at t N;clear hd C hmb n y q J u G d m;rcases b with b|b
     have r:((f:Int) != 0)=ε:=by simp[b]
     clear b
     rotate_left
     have r:((f:Int) != 0)=η:=nj.2 (by omega);have D:((f:Int) != 1)=ε:=by simp[b]
     clear b
     all_goals
      go_wp2_with fail;go_roundg (ws.length - (j+1))
      case measure=>omega
      case rel=>exact⟨j+1,tx::s,by omega,by go_num,B,o,l⟩
   ·rw[YF b]at hd
    have l:Hid _:=hd;have r:((f:Int) != 0)=η:=nj.2 (by omega);have D:((f:Int) != 1)=η:=nj.2 (by omega);have aa:¬(f:Int)=0:=by omega
    have X:¬(f:Int)=1:=by omega
    clear hd C b;go_wp2_with fail;rw[<-d];go_roundg (ws.length - (j+1))
    case measure=>omega
    case rel=>exact⟨j+1,s,by omega,by go_num,M,n,l⟩
  ·have:j=ws.length:=by omega
   subst this;have hd:=C.out;rw[im]at hd;have l:Hid (uT [] (Lx.told ws)=ν):=hd;clear hd C;go_wp2_with fail;go_ret;exact⟨by rw[l.out];rfl,A⟩
namespace Lx
def OW(l:List ByteArray)(b:ByteArray):Nat:=l.countP fun x=>decide (x=b)
def cntF(l:List ByteArray)(b:ByteArray):Int:=(OW l b:Int)
theorem ak1(l:List ByteArray)(b:ByteArray):OW l b<=l.length:=wi
theorem ajo(l:List ByteArray)(b:ByteArray):(fun c=>if c=b then cntF l b+1 else cntF l c)=cntF (l++[b]):=by
 funext c;unfold cntF OW;rw[xF]
 by_cases h:c=b
 ·subst h;simp
 ·have:(fun x=>decide (x=c)) b=ε:=by simpa using fun e=>h e.symm
  rw[dt h];simp[this]
theorem ZU:cntF l b=0↔Ck b l=ε:=by
 unfold cntF OW Ck;rw[List.any_eq_false];constructor
 ·intro h x a
  have c:List.countP (fun x=>decide (x=b)) l=0:=by omega
  intro e;have hp:0<List.countP (fun x=>decide (x=b)) l:=List.countP_pos_iff.2 ⟨x,a,e⟩;omega
 ·intro h
  have:List.countP (fun x=>decide (x=b)) l=0:=r7.2 fun x a=>h x a
  omega
theorem afM(w:Wd)(ws:List Wd):jP (w::ws)=w.2.1::jP ws:=rfl
end Lx
theorem afN{ws:List Lx.Wd}(h:WR w v ws):
  χ prog 77 #[v] w fun e w'=>e=δ (ι ξ (Ev (yS (jP (Lx.told ws)) ws)))/\φ w.heap.size w w':=by
 obtain⟨a,c,rfl,hm⟩:=h.len;unfold maxLen at hm;have V:=@sq prog;go_enter func77,ntmps77;go_wp2_with fail;clear V;obtain⟨W,I⟩:=aC (w.alloc (.map #[] 0));rw[<-I];have ae:W.heap.size=w.heap.size+1:=by rw[I];simp
 have hB:φ w.heap.size w W:=by rw[I];exact(cV _ _).alloc (dv _) _
 have t:SMap W w.heap.size (Lx.cntF []):=by rw[I];exact bZ.made _ w
 clear I;have H0:Hid (jP (Lx.told ws)=[]++jP (Lx.told (ws.drop 0))):=rfl
 go_loopg [11] ws.length (fun k i wr=>∃(j:Nat)(s:List ByteArray),j+k=ws.length/\i=ι ξ j/\φ w.heap.size w wr/\SMap wr w.heap.size (Lx.cntF s)/\s.length<=j/\Hid (jP (Lx.told ws)=s++jP (Lx.told (ws.drop j))))
 case atStart=>exact⟨0,[],by omega,rfl,hB,t,dv _,H0⟩
 case round=>
  clear H0 t;obtain⟨j,s,L,rfl,l,t,X,u⟩:=hrel;have B:=t.lt
  by_cases hlt:j<ws.length
  ·have E:=h.below l
   obtain⟨g,Y,R,lg,U,Z,N⟩:=E.at hlt;cases R;have hd:=u.out;rw[eN hlt]at hd;have Q:=(h.lt g rfl).2;generalize ws[j]=x at U Z N hd;obtain⟨d,tx,y⟩:=x;obtain⟨G,f⟩:=aC (wr.alloc (ζ #[ι ξ (d:Int),τ tx,ι ξ (y:Int)] 208));have r:φ wr.heap.size wr G:=by rw[f];exact(cV _ _).alloc (dv _) _
   have P:G.heap.size=wr.heap.size+1:=by rw[f];simp
   have m:SMap G w.heap.size (Lx.cntF s):=t.move (r.block _ B);have F:=l.trans (r.mono (by omega))
   by_cases b:d=0\/d=1
   ·rw[ZT b,afM]at hd
    have q:=m.look tx;have ab:=ak1 s tx;obtain⟨w2,hu,K,J,ad⟩:=m.put tx (Lx.cntF s tx+1);rw[ajo]at K;have aa:=F.grown J (by omega) (fun k L=>by cases L;exact dv _);have p:Hid (jP (Lx.told ws)=(s++[tx])++jP (Lx.told (ws.drop (j+1)))):=by
     show _=_;rw[hd];simp
    have H:(s++[tx]).length<=j+1:=by simp;omega
    rw[f]at q hu;have M:0<=Lx.cntF s tx:=by unfold Lx.cntF;omega
    have ac:Lx.cntF s tx+1<=9223372036854775807:=by unfold Lx.cntF;omega
    generalize Lx.cntF s tx=cn at q hu M ac;clear hd u m t r P f J ab;rcases b with b|b
    have o:((d:Int) == 0)=η:=by simp[b]
    clear b
    rotate_left
    have o:((d:Int) == 0)=ε:=ej.2 (by omega);have A:((d:Int) == 1)=η:=by simp[b]
    clear b
    all_goals
     go_wp2_with fail;go_roundg (ws.length - (j+1))
     case measure=>omega
     case rel=>exact⟨j+1,s++[tx],by omega,by go_num,aa,K,H,p⟩
   ·rw[YF b]at hd
    have p:Hid _:=hd;have o:((d:Int) == 0)=ε:=ej.2 (by omega);have A:((d:Int) == 1)=ε:=ej.2 (by omega);have S:¬(d:Int)=0:=by omega
    have O:¬(d:Int)=1:=by omega
    clear hd u b;go_wp2_with fail;rw[<-f];go_roundg (ws.length - (j+1))
    case measure=>omega
    case rel=>exact⟨j+1,s,by omega,by go_num,F,m,by omega,p⟩
  ·have:j=ws.length:=by omega
   subst this;have hd:=u.out;rw[im]at hd;have p:Hid (jP (Lx.told ws)=s):=by rw[show jP (Lx.told [])=[] from rfl,fW]at hd;exact hd
   clear hd u L X;go_wp2_with fail;obtain⟨wz,D⟩:=aC wr;rw[<-D]at l t B;rw[<-D];clear D;have H1:Hid (yS s ws=yS s (ws.drop 0)):=rfl
   go_loopg [31] ws.length (fun k i wr=>∃(j:Nat),j+k=ws.length/\i=ι ξ j/\φ w.heap.size w wr/\SMap wr w.heap.size (Lx.cntF s)/\Hid (yS s ws=yS s (ws.drop j)))
   case atStart=>exact⟨0,by omega,rfl,l,t,H1⟩
   case round=>
    clear H1 t l;obtain⟨j,L,rfl,l,t,u⟩:=hrel;have B:=t.lt
    by_cases hlt:j<ws.length
    ·have E:=h.below l
     obtain⟨g,Y,R,lg,U,Z,N⟩:=E.at hlt;cases R;have hd:=u.out;rw[eN hlt]at hd;have Q:=(h.lt g rfl).2;generalize ws[j]=x at U Z N hd;obtain⟨d,tx,y⟩:=x;obtain⟨G,f⟩:=aC (wr.alloc (ζ #[ι ξ (d:Int),τ tx,ι ξ (y:Int)] 208));have r:φ wr.heap.size wr G:=by rw[f];exact(cV _ _).alloc (dv _) _
     have m:SMap G w.heap.size (Lx.cntF s):=t.move (r.block _ B);have F:=l.trans (r.mono (by omega));have q:=m.look tx;rw[f]at q;rw[yS]at hd
     by_cases b:d=2\/d=4
     ·have z:(Lx.cntF s tx=0)\/(Lx.cntF s tx≠0):=Decidable.em _
      rcases z with z|z
      ·have n:=ZU.1 z
       rw[du ⟨b,n⟩]at hd;have C:Hid (yS s ws=ο y):=hd;rw[z]at q;clear hd u z n;rcases b with b|b
       have o:((d:Int) == 2)=η:=by simp[b]
       clear b
       rotate_left
       have o:((d:Int) == 2)=ε:=ej.2 (by omega);have A:((d:Int) == 4)=η:=by simp[b]
       clear b
       all_goals
        go_wp2_with fail;go_ret;exact⟨by rw[p.out,C.out];rfl,by rw[<-f];exact F⟩
      ·have n:¬Ck tx s=ε:=fun e=>z (ZU.2 e)
       rw[dt (fun e=>n e.2)]at hd;have C:Hid _:=hd;have T:=ej.2 z;clear hd u n;generalize Lx.cntF s tx=cn at q z T;rcases b with b|b
       have o:((d:Int) == 2)=η:=by simp[b]
       clear b
       rotate_left
       have o:((d:Int) == 2)=ε:=ej.2 (by omega);have A:((d:Int) == 4)=η:=by simp[b]
       clear b
       all_goals
        go_wp2_with fail;rw[<-f];go_roundg (ws.length - (j+1))
        case measure=>omega
        case rel=>exact⟨j+1,by omega,by go_num,F,m,C⟩
     ·rw[dt (fun e=>b e.1)]at hd
      have C:Hid _:=hd;have o:((d:Int) == 2)=ε:=ej.2 (by omega);have A:((d:Int) == 4)=ε:=ej.2 (by omega);have S:¬(d:Int)=2:=by omega
      have O:¬(d:Int)=4:=by omega
      clear hd u b;go_wp2_with fail;rw[<-f];go_roundg (ws.length - (j+1))
      case measure=>omega
      case rel=>exact⟨j+1,by omega,by go_num,F,m,C⟩
    ·have:j=ws.length:=by omega
     subst this;have hd:=u.out;rw[im]at hd;have C:Hid (yS s ws=ν):=hd;clear hd u;go_wp2_with fail;go_ret;exact⟨by rw[p.out,C.out];rfl,l⟩
namespace Lx
def fl:List Bool->List Wd->Option Nat
 |_,[]=>ν
 | [],w::ws=>if w.1=1 then ν else fl [] ws
 |b::bs,w::ws=>if w.1=1 then (if b=η then fl bs ws else ο w.2.2) else fl (b::bs) ws
def cnt1(ws:List Wd):Nat:=ws.countP fun w=>decide (w.1=1)
theorem abm{w:Wd}{ws:List Wd}(h:w.1≠1):fl bs (w::ws)=fl bs ws:=by
 cases bs with
 |nil=>rw[fl,dt h]
 |cons b bs=>rw[fl,dt h]
theorem abn{b:Bool}{w:Wd}{ws:List Wd}(h:w.1=1):fl (b::bs) (w::ws)=if b=η then fl bs ws else ο w.2.2:=by rw[fl,du h]
theorem Tj:∀(ws:List Wd)(bs:List Bool),(∀w∈ws,w.1≠1)->∀us,fl bs (ws++us)=fl bs us
 | [],_,_,_=>rfl
 |w::ws,bs,h,us=>by
  rw[ip,abm (h w eE)];exact Tj ws bs (fun x a=>h x (eR _ a)) us
theorem aaG:∀(rs:List Rl)(bs:List Bool),rs.length<=bs.length->fl bs (rs.flatMap fun r=>(1,r.name,r.place)::zi 9 r.alts)=FM rs bs
 | [],bs,_=>by cases bs <;> rfl
 |r::rs,[],h=>by simp at h
 |r::rs,b::bs,h=>by
  rw[eS,ip,abn rfl,FM]
  split
  ·rw[Tj _ _ (fun w a=>by rcases RN 9 _ w a with h | h | h <;> omega)]
   exact aaG rs bs (by simpa using h)
  ·rfl
theorem abo(g:Gr)(bs:List Bool)(h:g.rules.length<=bs.length):fl bs (qM g)=FM g.rules bs:=by
 unfold qM;rw[Tj _ _ (fun w a=>?_),aaG _ _ h];obtain⟨b,-,a⟩:=li.1 a;obtain⟨t,-,rfl⟩:=fk.1 a;show (0:Nat)≠1;decide
theorem Zm:∀(rs:List Rl),cnt1 (rs.flatMap fun r=>(1,r.name,r.place)::zi 9 r.alts)=rs.length
 | []=>rfl
 |r::rs=>by
  have a:cnt1 (zi 9 r.alts)=0:=r7.2 fun w b=>by
   rcases RN 9 _ w b with h|h|h <;> simp[h]
  have ih:=Zm rs;unfold cnt1 at a ih|-;rw[eS,xF,ih,oe,a,eh];simp;omega
theorem ZV(g:Gr):cnt1 (qM g)=g.rules.length:=by
 have c:cnt1 (g.levels.flatMap fun b=>b.tokens.map fun t=>(0,t.1,t.2))=0:=r7.2 fun w a=>by
  obtain⟨b,-,a⟩:=li.1 a;obtain⟨t,-,rfl⟩:=fk.1 a;simp
 have h1:=Zm g.rules;unfold qM;unfold cnt1 at c h1|-;rw[xF,c,h1,fX]
end Lx
theorem Yv{ws:List Lx.Wd}(h:WR w v ws){o:Nat}(A:aj w o (bE bs) 4)(F:bs.length=n)(K:Lx.cnt1 ws<=n):
  χ prog 79 #[ς (ο ⟨o,0,ν⟩) n n,v] w fun e w'=>e=δ (ι ξ (Ev (Lx.fl bs ws)))/\φ w.heap.size w w':=by
 obtain⟨a,c,rfl,Q⟩:=h.len;unfold maxLen at Q;have P:Hid _:=F;clear F;have S:Lx.cnt1 ws<=ws.length:=wi;go_enter func79,ntmps79;go_wp2_with fail;have C:Hid (Lx.fl bs ws=Lx.fl (bs.drop 0) (ws.drop 0)):=rfl;have p:0+Lx.cnt1 (ws.drop 0)<=n:=by rw[t8,fX];exact K
 go_loopg [5,10] ws.length (fun k L i wr=>∃(j r:Nat),j+k=ws.length/\i=ι ξ j/\L=ι ξ r/\φ w.heap.size w wr/\r+Lx.cnt1 (ws.drop j)<=n/\r<=j/\Hid (Lx.fl bs ws=Lx.fl (bs.drop r) (ws.drop j)))
 case atStart=>exact⟨0,0,by omega,rfl,rfl,cV _ _,p,dv _,C⟩
 case round=>
  clear C p;obtain⟨j,r,V,rfl,rfl,f,b,W,t⟩:=hrel;have u:=f.size
  by_cases hlt:j<ws.length
  ·have B:=h.below f
   obtain⟨g,J,R,U,T,M,N⟩:=B.at hlt;cases R;have hd:=t.out;rw[eN hlt]at hd b;generalize ws[j]=x at T M N hd b;obtain⟨q,tx,m⟩:=x;have z:φ wr.heap.size wr (wr.alloc (ζ #[ι ξ (q:Int),τ tx,ι ξ (m:Int)] 208)):=(cV _ _).alloc (dv _) _;have y:=f.trans (z.mono u)
   by_cases hro:q=1
   ·have s:r+(Lx.cnt1 (ws.drop (j+1))+1)<=n:=by unfold Lx.cnt1 at b|-;rw[oe]at b;simpa [hro]using b
    have l:r<bs.length:=by have:=P.out;omega
    have E:=(cQ (w:=w) (f.block o A.lt)).trans ((A.cell r).trans (qE bs l));have D:aJ bs r=bs[r]:=by simp[aJ,l]
    rw[eN l,abn hro,<-D]at hd;have I:((q:Int) != 1)=ε:=by simp[hro]
    have X:=A.lt;have H:o<wr.heap.size:=by omega
    have G:r<n:=by omega
    clear hro b l D t;cases hb:aJ bs r with
    |true=>
     rw[hb,du rfl]at hd;rw[hb]at E;have d:Hid _:=hd;clear hd hb;go_wp2_with fail;go_roundg (ws.length - (j+1))
     case measure=>omega
     case rel=>exact⟨j+1,r+1,by omega,by go_num,by go_num,y,by omega,by omega,d⟩
    |false=>
     rw[hb,dt (by decide)]at hd;rw[hb]at E;have d:Hid (Lx.fl bs ws=ο m):=hd;clear hd hb;go_wp2_with fail;go_ret;exact⟨by rw[d.out];rfl,y⟩
   ·rw[abm hro]at hd
    have s:r+Lx.cnt1 (ws.drop (j+1))<=n:=by unfold Lx.cnt1 at b|-;rw[oe]at b;simpa [hro]using b
    have I:((q:Int) != 1)=η:=nj.2 (by omega);have O:¬(q:Int)=1:=by omega
    have d:Hid _:=hd;clear hd t hro b;go_wp2_with fail;go_roundg (ws.length - (j+1))
    case measure=>omega
    case rel=>exact⟨j+1,r,by omega,by go_num,rfl,y,s,by omega,d⟩
  ·have:j=ws.length:=by omega
   subst this;have hd:=t.out;rw[im]at hd;have d:Hid (Lx.fl bs ws=ν):=by rw[hd];cases bs.drop r <;> rfl
   clear hd t;go_wp2_with fail;go_ret;exact⟨by rw[d.out];rfl,f⟩
structure lV(F:Nat->Prop)(w:ω)(vR:υ)(rs:List Lx.Rl):Prop where
 lt:∀b,F b->b<w.heap.size
 rl:Tr.Seq F w 296 2 cR (fun va r=>aN YP 9 F w va r.alts) vR rs
theorem lV.move{F:Nat->Prop}{w w':ω}{c:υ}{rs:List Lx.Rl}(h:lV F w c rs)(a:∀b,F b->w'.heap[b]?=w.heap[b]?)(g:w.heap.size<=w'.heap.size):lV F w' c rs :=
 ⟨fun b d=>dg (h.lt b d) g,Seq.move h.rl a (fun _ h=>h) fun _ _ f=>aN.move a (fun _ h=>h) f⟩
theorem lV.below{a:υ}{rs:List Lx.Rl}(h:lV F w a rs)(c:φ w.heap.size w w'):lV F w' a rs:=h.move (fun b d=>c.block b (h.lt b d)) c.size
theorem lV.len{F:Nat->Prop}{w:ω}{b:υ}{rs:List Lx.Rl}(h:lV F w b rs):∃a c,b=ς a rs.length c/\rs.length<=maxLen:=Seq.len h.rl
theorem lV.at{F:Nat->Prop}{w:ω}{a:υ}{rs:List Lx.Rl}(h:lV F w a rs){j:Nat}(c:j<rs.length):∃b cap va,a=ς (ο ⟨b,0,ν⟩) rs.length cap/\F b/\aN YP 9 F w va rs[j].alts/\w.cell? ⟨b,j*2,ν⟩=ο (τ rs[j].name)/\w.cell? ⟨b,j*2+1,ν⟩=ο va:=by
 obtain⟨b,cap,va,h1,h2,h3,h4⟩:=Seq.at h.rl (fun _=>rfl) c;exact⟨b,cap,va,h1,h2,h3,h4 0 (by decide),h4 1 (by decide)⟩
theorem afO{rs:List Lx.Rl}(h:lV F w G rs):
  χ prog 78 #[G] w fun e w'=>∃B f,e=δ (.map (ο B))/\w.heap.size<=B/\SMap w' B f/\(∀i(hi:i<rs.length),(∀k(hk:k<rs.length),i<k->rs[k].name≠rs[i].name)->f rs[i].name=(i:Int))/\φ w.heap.size w w':=by
 obtain⟨a,c,rfl,P⟩:=h.len;unfold maxLen at P;have t:=@sq prog;go_enter func78,ntmps78;go_wp2_with fail;clear t;obtain⟨W,n⟩:=aC (w.alloc (.map #[] 0));rw[<-n];have I:W.heap.size=w.heap.size+1:=by rw[n];simp
 have R:φ w.heap.size w W:=by rw[n];exact(cV _ _).alloc (dv _) _
 have g:SMap W w.heap.size (fun _=>0):=by rw[n];exact bZ.made _ w
 clear n
 go_loopg [9] rs.length (fun k i wr=>∃(j:Nat)(f:ByteArray->Int),j+k=rs.length/\i=ι ξ j/\φ w.heap.size w wr/\SMap wr w.heap.size f/\Hid (∀i(hi:i<rs.length),i<j->(∀k(hk:k<rs.length),i<k->k<j->rs[k].name≠rs[i].name)->f rs[i].name=(i:Int)))
 case atStart=>exact⟨0,_,by omega,rfl,R,g,fun i hi h=>by omega⟩
 case round=>
  clear g;obtain⟨j,f,hk,rfl,b,g,u⟩:=hrel;have v:=g.lt
  by_cases hlt:j<rs.length
  ·obtain⟨U,L,H,Q,S,-,T,M⟩:=(h.below b).at hlt
   cases Q;obtain⟨r,d⟩:=aC rs[j].name;rw[<-d]at T;obtain⟨z,l⟩:=aC (wr.alloc (ζ #[τ r,H] 296));have q:φ wr.heap.size wr z:=by rw[l];exact(cV _ _).alloc (dv _) _
   have p:SMap z w.heap.size f:=g.move (q.block _ v);have N:z.heap.size=wr.heap.size+1:=by rw[l];simp
   obtain⟨w2,m,C,y,O⟩:=p.put r (j:Int);have E:=(b.trans (q.mono (by omega))).grown y (by omega) (fun k hk=>by cases hk;exact dv _);have K:Hid (∀i(hi:i<rs.length),i<j+1->(∀k(hk:k<rs.length),i<k->k<j+1->rs[k].name≠rs[i].name)->(fun c=>if c=r then (j:Int) else f c) rs[i].name=(i:Int)):=by
    intro i hi J m
    by_cases he:i=j
    ·subst he;simp[d]
    ·have s:rs[i].name≠r:=fun e=>m j hlt (by omega) (by omega) (by rw[<-d,e])
     simp only[if_neg s];exact u.out i hi (by omega) fun k hk h1 h2=>m k hk h1 (by omega)
   rw[l]at m;obtain⟨Y,X,Z,A⟩:∃a k c,H=ς a k c:=by
    obtain⟨_,_,V,x,_,D,_,o⟩:=(h.below b).at hlt;cases x;rw[M]at o;cases o;exact aN.form D
   subst A;clear d u p g;go_wp2_with fail;go_roundg (rs.length - (j+1))
   case measure=>omega
   case rel=>exact⟨j+1,_,by omega,by go_num,E,C,K⟩
  ·have:j=rs.length:=by omega
   subst this;go_wp2_with fail;go_ret;exact⟨_,f,rfl,dv _,g,fun i hi m=>u.out i hi hi fun k hk h1 _=>m k hk h1,b⟩
namespace Lx
def UL(x:It):Prop:=(x.kind=0/\isName x.name=η/\x.alts=[])\/(x.kind=1/\isToken x.name=η/\x.alts=[])\/x.kind=2
def UM(a:Alt):Prop:=a.2.1=bP\/isToken a.2.1=η
def UN(r:Rl):Prop:=isName r.name=η/\(∀y∈lq 9 r.alts,UL y)/\∀y∈r.alts,UM y
end Lx
def aS:υ->Nat
 | ς (ο a) _ _=>a.block
 |_=>0
def cv(w:ω)(a:Addr):υ:=(w.cell? a).getD (ς ν 0 0)
abbrev AI:=Addr×Lx.It
def eO(sub:υ->List Lx.Alt->List AI)(w:ω)(g:Nat):Nat->List Lx.It->List AI
 |_,[]=>[]
 |i,x::xs=>((⟨g,i*4,ν⟩:Addr),x)::(sub (cv w ⟨g,i*4+3,ν⟩) x.alts++eO sub w g (i+1) xs)
def dW(sub:υ->List Lx.Alt->List AI)(w:ω)(g:Nat):Nat->List Lx.Alt->List AI
 |_,[]=>[]
 |j,a::l=>eO sub w (aS (cv w ⟨g,j*2,ν⟩)) 0 a.1++dW sub w g (j+1) l
def aL:Nat->ω->υ->List Lx.Alt->List AI
 |0,_,_,_=>[]
 |d+1,w,v,l=>dW (aL d w) w (aS v) 0 l
theorem YX{sub:υ->List Lx.Alt->List AI}{w:ω}{g d:Nat}:∀(its:List Lx.It)(i:Nat),(∀k x,its[k]?=ο x->(sub (cv w ⟨g,(i+k)*4+3,ν⟩) x.alts).map Prod.snd=lq d x.alts)->(eO sub w g i its).map Prod.snd=Gy d its
 | [],_,_=>rfl
 |x::xs,i,h=>by
  have a:=h 0 x rfl;have h1:=YX (sub:=sub) (w:=w) (g:=g) (d:=d) xs (i+1) fun k y b=>by
   have:=h (k+1) y (by simpa using b);rw[show i+(k+1)=i+1+k by omega]at this;exact this
  rw[eO,n9,ee,h1];simp only[Nat.add_zero]at a;rw[a];rfl
theorem Zn{sub:υ->List Lx.Alt->List AI}{w:ω}{g d:Nat}:∀(l:List Lx.Alt)(j:Nat),(∀k a,l[k]?=ο a->(eO sub w (aS (cv w ⟨g,(j+k)*2,ν⟩)) 0 a.1).map Prod.snd=Gy d a.1)->(dW sub w g j l).map Prod.snd=lq (d+1) l
 | [],_,_=>rfl
 |a::l,j,h=>by
  have b:=h 0 a rfl;have h1:=Zn (sub:=sub) (w:=w) (g:=g) (d:=d) l (j+1) fun k y c=>by
   have:=h (k+1) y (by simpa using c);rw[show j+(k+1)=j+1+k by omega]at this;exact this
  rw[dW,ee,h1];simp only[Nat.add_zero]at b;rw[b];rfl
theorem FE{l:List Lx.Alt}(h:aN YP (d+1) F w v l)(a:j<l.length):F (aS v)/\∃vi,w.cell? ⟨aS v,j*2,ν⟩=ο vi/\jO YP d F w vi l[j].1:=by
 obtain⟨b,c,vi,h1,h2,h3,h4⟩:=Seq.at h (fun _=>rfl) a;subst h1;exact⟨h2,vi,h4 0 (by decide),h3⟩
theorem Zo{l:List Lx.It}(h:jO YP d F w v l)(a:j<l.length):F (aS v)/\∃va,w.cell? ⟨aS v,j*4+3,ν⟩=ο va/\aN YP d F w va l[j].alts:=by
 unfold jO xu at h;obtain⟨b,c,f,h1,h2,h3,h4⟩:=Seq.at h (fun _=>rfl) a;subst h1;exact⟨h2,f,h4 3 (by decide),h3⟩
theorem FZ:∀{d:Nat}{F:Nat->Prop}{w:ω}{v:υ}{l:List Lx.Alt},aN YP d F w v l->(aL d w v l).map Prod.snd=lq d l
 |0,_,_,_,_,_=>rfl
 |d+1,F,w,v,l,h=>by
  refine Zn l 0 fun k a p=>?_
  obtain⟨n,rfl⟩:=cH.1 p;obtain⟨-,c,q,g⟩:=FE h n;have o:cv w ⟨aS v,(0+k)*2,ν⟩=c:=by unfold cv;rw[fX,q];rfl
  rw[o];refine YX _ 0 fun m x i=>?_
  obtain⟨j,rfl⟩:=cH.1 i;obtain⟨-,f,b,r⟩:=Zo g j;have s:cv w ⟨aS c,(0+m)*4+3,ν⟩=f:=by unfold cv;rw[fX,b];rfl
  rw[s];exact FZ r
theorem YG{sub sub':υ->List Lx.Alt->List AI}{w w':ω}{g:Nat}:∀(its:List Lx.It)(i:Nat),(∀k x,its[k]?=ο x->sub' (cv w' ⟨g,(i+k)*4+3,ν⟩) x.alts=sub (cv w ⟨g,(i+k)*4+3,ν⟩) x.alts)->eO sub' w' g i its=eO sub w g i its
 | [],_,_=>rfl
 |x::xs,i,h=>by
  have a:=h 0 x rfl;have h1:=YG (sub:=sub) (sub':=sub') (w:=w) (w':=w') (g:=g) xs (i+1) fun k y b=>by
   have:=h (k+1) y (by simpa using b);rw[show i+(k+1)=i+1+k by omega]at this;exact this
  simp only[Nat.add_zero]at a;rw[eO,eO,a,h1]
theorem YZ{sub sub':υ->List Lx.Alt->List AI}{w w':ω}{g:Nat}:∀(l:List Lx.Alt)(j:Nat),(∀k a,l[k]?=ο a->eO sub' w' (aS (cv w' ⟨g,(j+k)*2,ν⟩)) 0 a.1=eO sub w (aS (cv w ⟨g,(j+k)*2,ν⟩)) 0 a.1)->dW sub' w' g j l=dW sub w g j l
 | [],_,_=>rfl
 |a::l,j,h=>by
  have b:=h 0 a rfl;have h1:=YZ (sub:=sub) (sub':=sub') (w:=w) (w':=w') (g:=g) l (j+1) fun k y c=>by
   have:=h (k+1) y (by simpa using c);rw[show j+(k+1)=j+1+k by omega]at this;exact this
  simp only[Nat.add_zero]at b;rw[dW,dW,b,h1]
theorem Tn{a:Addr}(h:w'.heap[a.block]?=w.heap[a.block]?):cv w' a=cv w a:=by unfold cv;rw[cQ h]
theorem Jp:∀{d:Nat}{F:Nat->Prop}{w w':ω}{v:υ}{l:List Lx.Alt},aN YP d F w v l->(∀b,F b->w'.heap[b]?=w.heap[b]?)->aL d w' v l=aL d w v l
 |0,_,_,_,_,_,_,_=>rfl
 |d+1,F,w,w',v,l,h,hs=>by
  refine YZ l 0 fun k a r=>?_
  obtain⟨p,rfl⟩:=cH.1 r;obtain⟨y,g,s,j⟩:=FE h p;have q:cv w ⟨aS v,(0+k)*2,ν⟩=g:=by unfold cv;rw[fX,s];rfl
  rw[Tn (hs _ y),q];refine YG _ 0 fun m x n=>?_
  obtain⟨o,rfl⟩:=cH.1 n;obtain⟨f,i,c,t⟩:=Zo j o;have u:cv w ⟨aS g,(0+m)*4+3,ν⟩=i:=by unfold cv;rw[fX,c];rfl
  rw[Tn (hs _ f),u];exact Jp t hs
theorem YH{sub:υ->List Lx.Alt->List AI}{g:Nat}{a:List Lx.It}(b:m<a.length):eO sub w g m (a.drop m)=((⟨g,m*4,ν⟩:Addr),a[m])::(sub (cv w ⟨g,m*4+3,ν⟩) a[m].alts++eO sub w g (m+1) (a.drop (m+1))):=by
 rw[eN b,eO]
theorem Y0{sub:υ->List Lx.Alt->List AI}{g:Nat}{l:List Lx.Alt}(a:j<l.length):dW sub w g j (l.drop j)=eO sub w (aS (cv w ⟨g,j*2,ν⟩)) 0 l[j].1++dW sub w g (j+1) (l.drop (j+1)):=by
 rw[eN a,dW]
def iV(w:ω)(b:Nat):Prop:=∃(ca:Array υ)(ta:TypeId),w.heap[b]?=ο (ζ ca ta (0,0))
theorem iV.move{b:Nat}(h:iV w b)(d:w'.heap[b]?=w.heap[b]?):iV w' b:=by
 obtain⟨c,a,h⟩:=h;exact⟨c,a,d.trans h⟩
def Apart(F:Nat->Prop)(w:ω)(l:List AI):Prop:=(∀p∈l,F p.1.block/\iV w p.1.block)/\(l.map Prod.fst).Nodup
def UO(Fs:Nat->Nat->Prop):Prop:=∀k k',k<k'->∀b,Fs k b->Fs k' b->False
theorem Tr.fD.at{α:Type}{F:Nat->Prop}{w:ω}{e s:Nat}{c:υ×α->List υ}{K:(Nat->Prop)->ω->υ->α->Prop}{v:υ}{l:List α}(h:fD F w e s c K v l)(J:∀q,(c q).length=s):
  ∃Fs:Nat->Nat->Prop,UO Fs/\(∀k b,Fs k b->F b)/\(∀g,v.ownBlock=ο g->F g/\iV w g/\∀k,¬Fs k g) /\
   ∀j(hj:j<l.length),∃g cap vk,v=ς (ο ⟨g,0,ν⟩) l.length cap/\K (Fs j) w vk l[j]/\∀i,i<s->w.cell? ⟨g,j*s+i,ν⟩=(c (vk,l[j]))[i]?:=by
 obtain⟨f,Fs,h1,h2,h3,h4,C,M,B⟩:=h;have L:f.length=l.length:=by rw[<-h1];simp
 have o:∀k b,((Fs[k]?).getD fun _=>False) b->∃d:k<Fs.length,Fs[k] b:=by
  intro k b a
  by_cases d:k<Fs.length
  ·rw[cG d]at a;exact⟨d,a⟩
  ·rw[kf (by omega)]at a;exact a.elim
 refine⟨fun k=>(Fs[k]?).getD fun _=>False,?_,?_,?_,?_⟩
 ·intro k z r b a m
  obtain⟨d,a⟩:=o k b a;obtain⟨t,m⟩:=o z b m;exact mN.1 C k z d t r b a m
 ·intro k b a
  obtain⟨d,a⟩:=o k b a;exact h4 _ (eJ d) b a
 ·intro g n
  refine⟨(h3 g n).1,?_,fun k a=>?_⟩
  ·rcases h2.2 with A | ⟨D,cap,E,I,-,G,-⟩
   ·rw[A.1]at n;simp[Value.ownBlock]at n
   ·have:D=g:=by rw[I]at n;simpa [Value.ownBlock]using n
    subst this;exact⟨_,_,G⟩
  ·obtain⟨d,a⟩:=o k g a
   exact(h3 g n).2 _ (eJ d) a
 ·intro j hj
  obtain⟨g,cap,rfl,-,-⟩:=h2.form (by omega);have u:f[j]?=ο f[j]:=cG (by omega);have y:Fs[j]?=ο Fs[j]:=cG (by omega);have x:(f[j]).2=l[j]:=by
   have:(f.map Prod.snd)[j]?=l[j]?:=by rw[h1]
   rw[dj,u,cG hj]at this;simpa using this
  refine⟨g,cap,(f[j]).1,rfl,?_,?_⟩
  ·have:=B j _ _ u y
   rw[x]at this;show K ((Fs[j]?).getD fun _=>False) w _ _;rw[y];exact this
  ·intro i H
   have p:j*s+i<l.length*s:=by
    have:(j+1)*s<=l.length*s:=kj s hj;rw[oE]at this;omega
   rw[h2.cellAt (j*s+i) p,flat_get c s J f j i _ u H,<-x]
theorem Yy{sub:υ->List Lx.Alt->List AI}{w:ω}{g:Nat}{l:Nat->Nat->Prop}(r:UO l)(o:∀k,¬l k g)(t:iV w g):∀(its:List Lx.It)(i:Nat),(∀k x,its[k]?=ο x->Apart (l (i+k)) w (sub (cv w ⟨g,(i+k)*4+3,ν⟩) x.alts)) ->
  (∀p∈eO sub w g i its,iV w p.1.block/\((p.1.block=g/\∃m,i<=m/\p.1.off=m*4)\/∃k,i<=k/\l k p.1.block))/\((eO sub w g i its).map Prod.fst).Nodup
 | [],i,_=>⟨fun p h=>(by cases h),ot⟩
 |x::xs,i,h=>by
  have f:=h 0 x rfl;simp only[Nat.add_zero]at f;have h1:=Yy r o t xs (i+1) fun k y v=>by
   have:=h (k+1) y (by simpa using v);rw[show i+(k+1)=i+1+k by omega]at this;exact this
  rw[eO];refine⟨fun p hp=>?_,?_⟩
  ·rcases fh.1 hp with rfl | hp
   ·exact⟨t,.inl ⟨rfl,i,dv _,rfl⟩⟩
   ·rcases dq.1 hp with hp | hp
    ·exact⟨(f.1 p hp).2,.inr ⟨i,dv _,(f.1 p hp).1⟩⟩
    ·obtain⟨a,b⟩:=h1.1 p hp
     refine⟨a,?_⟩;rcases b with ⟨e,m,c,n⟩|⟨k,s,d⟩
     ·exact .inl ⟨e,m,by omega,n⟩
     ·exact .inr ⟨k,by omega,d⟩
  ·rw[n9,ee,tR,j7]
   refine⟨fun c=>?_,f.2,h1.2,fun a D b z e=>?_⟩
   ·rcases dq.1 c with c | c
    ·obtain⟨p,hp,e⟩:=fk.1 c
     have:=(f.1 p hp).1;rw[e]at this;exact o _ this
    ·obtain⟨p,hp,e⟩:=fk.1 c
     rcases (h1.1 p hp).2 with ⟨-,m,c,n⟩|⟨k,s,d⟩
     ·rw[e]at n
      have A:i*4=m*4:=n;omega
     ·rw[e]at d;exact o _ d
   ·subst e
    obtain⟨p,hp,C⟩:=fk.1 D;obtain⟨q,B,u⟩:=fk.1 z;have f1:=(f.1 p hp).1;rw[C]at f1;rcases (h1.1 q B).2 with ⟨j,-⟩|⟨k,s,d⟩
    ·rw[u]at j;rw[j]at f1;exact o _ f1
    ·rw[u]at d;exact r i k (by omega) _ f1 d
def p8{α:Type}(f:Nat->α->List AI):Nat->List α->List AI
 |_,[]=>[]
 |j,a::l=>f j a++p8 f (j+1) l
theorem Rz{α:Type}{f:Nat->α->List AI}{w:ω}{g:Nat->Nat->Prop}(i:UO g):∀(l:List α)(j:Nat),(∀k a,l[k]?=ο a->Apart (g (j+k)) w (f (j+k) a)) ->
  (∀p∈p8 f j l,iV w p.1.block/\∃k,j<=k/\g k p.1.block)/\((p8 f j l).map Prod.fst).Nodup
 | [],j,_=>⟨fun p h=>(by cases h),ot⟩
 |x::xs,j,h=>by
  have c:=h 0 x rfl;simp only[Nat.add_zero]at c;have h1:=Rz (f:=f) (w:=w) i xs (j+1) fun k y m=>by
   have:=h (k+1) y (by simpa using m);rw[show j+(k+1)=j+1+k by omega]at this;exact this
  rw[p8];refine⟨fun p hp=>?_,?_⟩
  ·rcases dq.1 hp with hp | hp
   ·exact⟨(c.1 p hp).2,j,dv _,(c.1 p hp).1⟩
   ·obtain⟨a,k,o,d⟩:=h1.1 p hp
    exact⟨a,k,by omega,d⟩
  ·rw[ee,j7]
   refine⟨c.2,h1.2,fun a t b n e=>?_⟩;subst e;obtain⟨p,hp,s⟩:=fk.1 t;obtain⟨q,r,u⟩:=fk.1 n;have f1:=(c.1 p hp).1;rw[s]at f1;obtain⟨-,k,o,d⟩:=h1.1 q r;rw[u]at d;exact i j k (by omega) _ f1 d
theorem ZW{sub:υ->List Lx.Alt->List AI}{w:ω}{g:Nat}:∀(l:List Lx.Alt)(j:Nat),dW sub w g j l=p8 (fun j a=>eO sub w (aS (cv w ⟨g,j*2,ν⟩)) 0 a.1) j l
 | [],_=>rfl
 |a::l,j=>by rw[dW,p8,ZW l (j+1)]
theorem ZX:∀{d:Nat}{F:Nat->Prop}{w:ω}{v:υ}{l:List Lx.Alt},fu YP d F w v l->Apart F w (aL d w v l)
 |0,_,_,_,_,_=>⟨fun p h=>(by cases h),ot⟩
 |d+1,F,w,v,l,h=>by
  obtain⟨W,h1,h2,h3,h4⟩:=fD.at h (fun _=>rfl);have G:aL (d+1) w v l=p8 (fun j a=>eO (aL d w) w (aS (cv w ⟨aS v,j*2,ν⟩)) 0 a.1) 0 l:=ZW l 0;have r:=Rz (f:=fun j(a:Lx.Alt)=>eO (aL d w) w (aS (cv w ⟨aS v,j*2,ν⟩)) 0 a.1) (w:=w) h1 l 0 fun k a U=>by
   obtain⟨J,rfl⟩:=cH.1 U;obtain⟨g,u,C,V,O,o⟩:=h4 k J;subst V;have t:w.cell? ⟨g,k*2,ν⟩=ο C:=o 0 (by decide);have T:cv w ⟨g,(0+k)*2,ν⟩=C:=by unfold cv;rw[fX,t];rfl
   rw[show aS (ς (ο ⟨g,0,ν⟩) l.length u)=g from rfl,T,fX];obtain⟨X,E,S,K,D⟩:=fD.at O (fun _=>rfl)
   by_cases hlen:0<l[k].1.length
   ·obtain⟨n,H,Y,i,-,-⟩:=D 0 hlen
    obtain⟨L,P,I⟩:=K n (by rw[i];rfl);have B:=Yy (sub:=aL d w) (w:=w) (g:=n) E I P l[k].1 0 fun m x r=>by
     obtain⟨Q,rfl⟩:=cH.1 r;obtain⟨s,R,A,q,M,c⟩:=D m Q;have:s=n:=by rw[i]at q;cases q;rfl
     subst this;have z:w.cell? ⟨s,m*4+3,ν⟩=ο A:=c 3 (by decide);have N:cv w ⟨s,(0+m)*4+3,ν⟩=A:=by unfold cv;rw[fX,z];rfl
     rw[N,fX];exact ZX M
    rw[i,show aS (ς (ο ⟨n,0,ν⟩) l[k].1.length H)=n from rfl];refine⟨fun p hp=>?_,B.2⟩;obtain⟨a,b⟩:=B.1 p hp;refine⟨?_,a⟩;rcases b with ⟨e,-⟩|⟨m,-,y⟩
    ·rw[e];exact L
    ·exact S m _ y
   ·have:l[k].1=[]:=ir (by omega)
    rw[this];exact⟨fun p h=>(by cases h),ot⟩
  rw[G];exact⟨fun p hp=>by obtain⟨a,k,-,y⟩:=r.1 p hp;exact⟨h2 k _ y,a⟩,r.2⟩
def Tp(w:ω)(g:Nat):Nat->List Lx.Rl->List AI:=p8 fun j r=>aL 9 w (cv w ⟨g,j*2+1,ν⟩) r.alts
theorem Yz{rs:List Lx.Rl}(h:Tr.fD F w 296 2 cR KR v rs):Apart F w (Tp w (aS v) 0 rs):=by
 obtain⟨u,h1,h2,h3,h4⟩:=fD.at h (fun _=>rfl);have l:=Rz (f:=fun j(r:Lx.Rl)=>aL 9 w (cv w ⟨aS v,j*2+1,ν⟩) r.alts) (w:=w) h1 rs 0 fun k a q=>by
  obtain⟨m,rfl⟩:=cH.1 q;obtain⟨g,d,i,o,s,b⟩:=h4 k m;subst o;have c:w.cell? ⟨g,k*2+1,ν⟩=ο i:=b 1 (by decide);have n:cv w ⟨g,(0+k)*2+1,ν⟩=i:=by unfold cv;rw[fX,c];rfl
  rw[show aS (ς (ο ⟨g,0,ν⟩) rs.length d)=g from rfl,n,fX];exact ZX s
 exact⟨fun p hp=>by obtain⟨a,k,-,t⟩:=l.1 p hp;exact⟨h2 k _ t,a⟩,l.2⟩
theorem afo{f k:TypeId}{j:TypeInfo}{a b:Addr}(hp:P.underlying f=ο (.pointer k))(c:P.info? k=ο j)(hsz:j.size≠0)(g:iV w a.block)(i:iV w b.block):
  (Op.equal f (π (ο a)) (π (ο b))).run P w=.ok (decide (a=b)) w:=by
 obtain⟨o,n,g⟩:=g;obtain⟨l,m,i⟩:=i
 by_cases hab:a=b
 ·subst hab
  have h:∀d:Nat,(Op.equalIn (d+1) f (π (ο a)) (π (ο a))).run P w=.ok η w:=fun d=>by
   simp[Op.equalIn,run_underlying hp,sizeOf,typeInfo,c,run_sameAddr_same]
  simp[Op.equal,Op.maxDepth,h 9999]
 ·have h:∀d:Nat,(Op.equalIn (d+1) f (π (ο a)) (π (ο b))).run P w=.ok ε w:=fun d=>by
   simp[Op.equalIn,run_underlying hp,sizeOf,typeInfo,c,hsz,run_sameAddr_other w hab g i]
  simp[Op.equal,Op.maxDepth,h 9999,hab]
def mD(a:Addr):υ:=π (ο a)
theorem aaH{P:Program}{w:ω}{f o:TypeId}{j:TypeInfo}{a:Addr}(hp:P.underlying f=ο (.pointer o))(g:P.info? o=ο j)(hsz:j.size≠0)(q:iV w a.block):∀(l:List MapEntry)(i:Nat),(∀x∈l,∃c,x.key=mD c/\iV w c.block) ->
  ((Instr.findAsking f (mD a) l i).run P w=.ok ν w/\∀(x:MapEntry),x∈l->x.key≠mD a)\/∃(k:Nat)(e:MapEntry),(Instr.findAsking f (mD a) l i).run P w=.ok (ο (i+k,e.val)) w/\l[k]?=ο e/\e.key=mD a
 | [],i,_=>.inl ⟨by simp[Instr.findAsking],fun x h=>(by cases h)⟩
 |x::l,i,h=>by
  obtain⟨c,m,n⟩:=h x eE;have p:=afo (w:=w) hp g hsz q n
  by_cases hac:a=c
  ·subst hac
   refine .inr ⟨0,x,?_,rfl,m⟩;have b:(Op.equal f (mD a) x.key).run P w=.ok η w:=by rw[m];simpa [mD]using p
   simp[Instr.findAsking,b,Result.andThen]
  ·have b:(Op.equal f (mD a) x.key).run P w=.ok ε w:=by rw[m];simpa [mD,hac]using p
   rcases aaH hp g hsz q l (i+1) (fun y d=>h y (eR _ d)) with ⟨h1,h2⟩|⟨k,e,h1,h2,h3⟩
   ·refine .inl ⟨?_,fun y d=>?_⟩
    ·simp[Instr.findAsking,b,h1,Result.andThen]
    ·rcases fh.1 d with rfl | d
     ·rw[m];intro e;unfold mD at e;cases e;exact hac rfl
     ·exact h2 y d
   ·refine .inr ⟨k+1,e,?_,by simpa using h2,h3⟩
    rw[show i+(k+1)=i+1+k by omega];simp[Instr.findAsking,b,h1,Result.andThen]
theorem ak2{c d:TypeId}{j:TypeInfo}(hp:P.underlying c=ο (.pointer d))(f:P.info? d=ο j)(hsz:j.size≠0):vE P c mD (fun w a=>iV w a.block) where
 inj a b h:=by unfold mD at h;cases h;rfl
 check em w a:=by
  have h:∀n:Nat,(Instr.checkKey em (n+1) c (mD a)).run P w=.ok () w:=fun n=>by
   simp[Instr.checkKey,run_underlying hp,mD]
  exact h 9999
 find w a l ha hl:=by
  cases l with
  |nil=>exact .inl ⟨by simp[Instr.findKey,Instr.findNow,run_underlying hp],fun x h=>(by cases h)⟩
  |cons x l=>
   have g:Instr.findNow (.pointer d) (mD a) (x::l) 0=ν:=by
    unfold Instr.findNow mD Instr.sameNow;rfl
   have h1:=aaH hp f hsz ha (x::l) 0 hl;have i:(Instr.findKey c (mD a) (x::l)).run P w=(Instr.findAsking c (mD a) (x::l) 0).run P w:=by
    simp[Instr.findKey,run_underlying hp,g]
   rw[i];rcases h1 with h1|⟨k,e,h1,h2,h3⟩
   ·exact .inl h1
   ·rw[fX]at h1
    exact .inr ⟨k,e,h1,h2,h3⟩
 stays w a:=by simp[Instr.keyThatStays,Instr.sameBits,mD]
theorem Tryz.ajp:prog.underlying 301=ο (.pointer 303):=by kernel_rfl
theorem Tryz.acw:prog.underlying 214=ο (.map 301 3):=by kernel_rfl
theorem Tryz.ajq:(prog.info? 303).map (fun i=>i.size)=ο 4:=by kernel_rfl
theorem Tryz.ad4:vE prog 301 mD (fun w a=>iV w a.block):=by
 have h:=Tryz.ajq;cases hi:prog.info? 303 with
 |none=>rw[hi]at h;cases h
 |some j=>
  rw[hi]at h;have b:j.size=4:=by simpa using h
  exact ak2 Tryz.ajp hi (by omega)
def tJ(G:Nat->Prop)(w:ω)(B:Nat)(f:Addr->Int):Prop:=bZ mD (fun a=>G a.block) w B f
theorem tJ.look{G:Nat->Prop}{w:ω}{B:Nat}{f:Addr->Int}(h:tJ G w B f)(d:∀b,G b->iV w b){a:Addr}(c:G a.block):(Instr.lookup 214 (.map (ο B)) (π (ο a)) ε).run prog w=.ok (ι ξ (f a)) w:=bZ.look Tryz.ad4 Tryz.acw Tryz.Gl (fun _ c=>d _ c) h c
theorem tJ.put{G:Nat->Prop}{w:ω}{B:Nat}{f:Addr->Int}(h:tJ G w B f)(g:∀b,G b->iV w b){a:Addr}(d:G a.block)(v:Int):∃w',(Instr.mapUpdate 214 (.map (ο B)) (π (ο a)) (ι ξ v)).run prog w=.ok () w'/\tJ G w' B (fun c=>if c=a then v else f c)/\w.grownBy w' (ο B)/\w'.heap.size=w.heap.size:=bZ.put Tryz.ad4 Tryz.acw (fun _ d=>g _ d) h d v
structure oV(w:ω)(n m:Nat)(it:Lx.It):Prop where
 kind:w.cell? ⟨n,m*4,ν⟩=ο (ι ξ (it.kind:Int))
 name:w.cell? ⟨n,m*4+1,ν⟩=ο (τ it.name)
 mark:w.cell? ⟨n,m*4+2,ν⟩=ο (ι .u8 (it.mark:Int))
def NG(d:Nat):Prop:=∀(nw nv:Nat)(caps:Array υ)(wd:Lx.It->Bool)(F:Nat->Prop)(w0:ω)(I:List AI->ω->Prop)(Q:AI->Prop),
 (∀(ar:Array υ)(w:ω),(callFunc nw ar).run prog w=.ok (.enter nw ar) w)->(∀(ar:Array υ)(w:ω),(callFunc nv ar).run prog w=.ok (.enter nv ar) w) ->
 (∀(w':ω)(n m:Nat)(it:Lx.It),F n->oV w' n m it->χ prog nw #[π (ο ⟨n,m*4,ν⟩)] w' fun e w''=>e=δ (μ (wd it))/\w''=w') ->
 (∀(w':ω)(L:List AI)(n m:Nat)(it:Lx.It),I L w'->F n->oV w' n m it->wd it=η->Q (⟨n,m*4,ν⟩,it)->χ prog nv (#[π (ο ⟨n,m*4,ν⟩)]++caps) w' fun e w''=>e=δ (θ #[])/\I (L++[(⟨n,m*4,ν⟩,it)]) w'') ->
 (∀(L:List AI)(w':ω),I L w'->∀b,F b->w'.heap[b]?=w0.heap[b]?) ->
 ∀(v:υ)(l:List Lx.Alt),aN YP d F w0 v l->(∀p∈aL d w0 v l,Q p)->∀(w:ω)(L:List AI),I L w ->
 χ prog 134 #[v,.func (.func nw) #[] #[],.func (.func nv) #[] caps] w fun e w'=>e=δ (θ #[])/\I (L++(aL d w0 v l).filter fun p=>wd p.2) w'
theorem ah7:NG 0:=by
 intro nw j a wd F d I Q f g m p n v l c o w L b;obtain⟨rfl,rfl⟩:=c;go_enter func134,ntmps134;go_wp2_with fail
 go_loopg [11] 0 (fun k i wr=>k=0/\i=ι ξ 0/\wr=w)
 case atStart=>exact⟨rfl,rfl,rfl⟩
 case round=>
  obtain⟨rfl,rfl,rfl⟩:=hrel;go_wp2_with fail
  go_end0
  refine⟨rfl,?_⟩;rw[show aL 0 d (ς ν 0 0) []=[] from rfl,wh,fW];exact b
theorem ah8(IH:NG d):NG (d+1):=by
 intro nw nv A wd F a I Q M P hw hv N v l hl hq w L hI;obtain⟨y,D,t,hm⟩:=aN.len hl;subst t;unfold maxLen at hm;obtain⟨T,hT⟩:=aC (L++(aL (d+1) a (ς y l.length D) l).filter (fun p=>wd p.2));rw[<-hT];go_enter func134,ntmps134;go_wp2_with fail;have e0:aL (d+1) a (ς y l.length D) l=dW (aL d a) a (aS (ς y l.length D)) 0 (l.drop 0):=rfl;have H0:Hid (T=L++(dW (aL d a) a (aS (ς y l.length D)) 0 (l.drop 0)).filter (fun p=>wd p.2)):=by show _=_;rw[hT,e0]
 rw[e0]at hq;clear e0;clear hT
 go_loopg [11] l.length (fun k i wr=>∃(j:Nat)(L':List AI),j+k=l.length/\i=ι ξ j/\I L' wr/\(∀p∈dW (aL d a) a (aS (ς y l.length D)) j (l.drop j),Q p)/\Hid (T=L'++(dW (aL d a) a (aS (ς y l.length D)) j (l.drop j)).filter (fun p=>wd p.2)))
 case atStart=>exact⟨0,L,by omega,rfl,hI,hq,H0⟩
 case round=>
  clear H0 hq hI;revert wr;intro wz hrel;obtain⟨j,L1,hk,rfl,S,u,X⟩:=hrel
  by_cases hlt:j<l.length
  ·obtain⟨q,ai,vi,t,hg,V,Y⟩:=Seq.at hl (fun _=>rfl) hlt
   cases t;have g:=X.out;have K:cv a ⟨q,j*2,ν⟩=vi:=by unfold cv;rw[show a.cell? ⟨q,j*2,ν⟩=ο vi from Y 0 (by decide)];rfl
   rw[Y0 hlt,show aS (ς (ο ⟨q,0,ν⟩) l.length D)=q from rfl,K]at g u;generalize l[j]=x at V Y g u;obtain⟨b,af,pa⟩:=x;have ab:jO YP d F a vi b:=V;obtain⟨O,E,qU,aa⟩:=Seq.len V;subst qU;unfold maxLen at aa;have c0:wz.cell? ⟨q,j*2,ν⟩=ο (ς O b.length E):=(cQ (w:=a) (N _ _ S q hg)).trans (Y 0 (by decide));have z:Hid (T=L1++(eO (aL d a) a (aS (ς O b.length E)) 0 (b.drop 0)++dW (aL d a) a q (j+1) (l.drop (j+1))).filter (fun p=>wd p.2)):=g;have Ka:∀p∈eO (aL d a) a (aS (ς O b.length E)) 0 (b.drop 0)++dW (aL d a) a q (j+1) (l.drop (j+1)),Q p:=u;clear Y g X u K V;go_wp2_with fail
   go_loopg [21] b.length (fun k i wr=>∃(m:Nat)(L':List AI),m+k=b.length/\i=ι ξ m/\I L' wr/\(∀p∈eO (aL d a) a (aS (ς O b.length E)) m (b.drop m)++dW (aL d a) a q (j+1) (l.drop (j+1)),Q p)/\Hid (T=L'++(eO (aL d a) a (aS (ς O b.length E)) m (b.drop m)++dW (aL d a) a q (j+1) (l.drop (j+1))).filter (fun p=>wd p.2)))
   case atStart=>exact⟨0,L1,by omega,rfl,S,Ka,z⟩
   case round=>
    clear z Ka S c0;obtain⟨m,L2,ah,rfl,hr,f,Z⟩:=hrel
    by_cases Ai:m<b.length
    ·have C:=ab
     unfold jO xu at C;obtain⟨n,Eb,y,t,hn,W,o⟩:=Seq.at C (fun _=>rfl) Ai;cases t;have c:=Z.out;have K:cv a ⟨n,m*4+3,ν⟩=y:=by unfold cv;rw[show a.cell? ⟨n,m*4+3,ν⟩=ο y from o 3 (by decide)];rfl
     rw[YH Ai,show aS (ς (ο ⟨n,0,ν⟩) b.length E)=n from rfl,K]at c f;generalize b[m]=it at W o c f;obtain⟨H,R,ac,-⟩:=aN.len W;subst ac;have U:=N _ _ hr n hn;have J:oV wr n m it:=⟨(cQ (w:=a) U).trans (o 0 (by decide)),(cQ (w:=a) U).trans (o 1 (by decide)),(cQ (w:=a) U).trans (o 2 (by decide))⟩;have V3:Q (⟨n,m*4,ν⟩,it):=f _ (by simp);have KQ:∀p∈aL d a (ς H it.alts.length R) it.alts,Q p:=fun p hp=>f p (by simp[hp])
     have KS:∀p∈eO (aL d a) a n (m+1) (b.drop (m+1))++dW (aL d a) a q (j+1) (l.drop (j+1)),Q p:=fun p hp=>f p (by
      rcases dq.1 hp with hp|hp
      ·simp[hp]
      ·simp[hp])
     clear f C Z K;go_wp2_with fail;refine(hw wr n m it hn J).mono ?_;rintro e w1⟨rfl,ad⟩;obtain rfl:=ad.symm;cases hwd:wd it with
     |true=>
      have ag:Hid _:=hwd;have s:T=(L2++[(⟨n,m*4,ν⟩,it)])++((aL d a (ς H it.alts.length R) it.alts).filter (fun p=>wd p.2)++(eO (aL d a) a n (m+1) (b.drop (m+1))++dW (aL d a) a q (j+1) (l.drop (j+1))).filter (fun p=>wd p.2)):=by
       rw[c];simp[hwd,List.append_assoc]
      have B:Hid _:=s;have q1:=hv wr L2 n m it hr hn J hwd V3;clear c s hwd;go_wp2_with fail;refine q1.mono ?_;rintro e w2⟨rfl,G⟩;have V4:=N _ _ G n hn;have y3:w2.cell? ⟨n,m*4+3,ν⟩=ο (ς H it.alts.length R):=(cQ (w:=a) V4).trans (o 3 (by decide));go_wp2_with fail;refine(IH nw nv A wd F a I Q M P hw hv N _ _ W KQ w2 _ G).mono ?_;rintro e w3⟨rfl,Ey⟩;have r:Hid _:=B.out;rw[<-dy]at r;go_wp2_with fail;go_roundg (b.length - (m+1))
      case measure=>omega
      case rel=>exact⟨m+1,_,by omega,by go_num,Ey,KS,r⟩
     |false=>
      have s:T=L2++((aL d a (ς H it.alts.length R) it.alts).filter (fun p=>wd p.2)++(eO (aL d a) a n (m+1) (b.drop (m+1))++dW (aL d a) a q (j+1) (l.drop (j+1))).filter (fun p=>wd p.2)):=by
       rw[c];simp[hwd,List.append_assoc]
      have B:Hid _:=s;clear c s hwd;have y3:wr.cell? ⟨n,m*4+3,ν⟩=ο (ς H it.alts.length R):=(cQ (w:=a) U).trans (o 3 (by decide));go_wp2_with fail;refine(IH nw nv A wd F a I Q M P hw hv N _ _ W KQ wr _ hr).mono ?_;rintro e w3⟨rfl,Ey⟩;have r:Hid _:=B.out;rw[<-dy]at r;go_wp2_with fail;go_roundg (b.length - (m+1))
      case measure=>omega
      case rel=>exact⟨m+1,_,by omega,by go_num,Ey,KS,r⟩
    ·have:m=b.length:=by omega
     subst this;have c:=Z.out;rw[im,eO,jn]at c f;have ae:Hid _:=c;clear c Z;go_wp2_with fail;go_roundg (l.length - (j+1))
     case measure=>omega
     case rel=>exact⟨j+1,L2,by omega,by go_num,hr,f,ae⟩
  ·have:j=l.length:=by omega
   subst this;have g:=X.out;rw[im,dW,wh,fW]at g;have z:Hid _:=g;clear g X;go_wp2_with fail
   go_end0
   refine⟨rfl,?_⟩;rw[z.out];exact S
theorem abp:∀d,NG d
 |0=>ah7
 |d+1=>ah8 (abp d)
def NZ(d:Nat):Prop:=∀(nw nv:Nat)(fst caps:Array υ)(wd:Lx.It->Bool)(F:Nat->Prop)(w0:ω)(I:List AI->ω->Prop)(Q:AI->Prop)(G5:List AI),
 (∀(ar:Array υ)(w:ω),(callFunc nw ar).run prog w=.ok (.enter nw ar) w)->(∀(ar:Array υ)(w:ω),(callFunc nv ar).run prog w=.ok (.enter nv ar) w) ->
 (∀(w':ω)(n m:Nat)(it:Lx.It),F n->oV w' n m it->χ prog nw #[π (ο ⟨n,m*4,ν⟩)] w' fun e w''=>e=δ (μ (wd it))/\w''=w') ->
 (∀(w':ω)(L:List AI)(n m:Nat)(it:Lx.It),I L w'->F n->oV w' n m it->wd it=η->Q (⟨n,m*4,ν⟩,it)->(∃R,G5=L++((⟨n,m*4,ν⟩,it)::R))->χ prog nv (fst++#[π (ο ⟨n,m*4,ν⟩)]++caps) w' fun e w''=>e=δ (θ #[])/\I (L++[(⟨n,m*4,ν⟩,it)]) w'') ->
 (∀(L:List AI)(w':ω),I L w'->∀b,F b->w'.heap[b]?=w0.heap[b]?) ->
 ∀(v:υ)(l:List Lx.Alt),aN YP d F w0 v l->(∀p∈aL d w0 v l,Q p)->∀(w:ω)(L:List AI),I L w->(∃R,G5=(L++(aL d w0 v l).filter fun p=>wd p.2)++R) ->
 χ prog 134 #[v,.func (.func nw) #[] #[],.func (.func nv) fst caps] w fun e w'=>e=δ (θ #[])/\I (L++(aL d w0 v l).filter fun p=>wd p.2) w'
theorem ag7:NZ 0:=by
 intro nw m g a wd F d I Q p f j n r o v l c q w L b s;obtain⟨rfl,rfl⟩:=c;go_enter func134,ntmps134;go_wp2_with fail
 go_loopg [11] 0 (fun k i wr=>k=0/\i=ι ξ 0/\wr=w)
 case atStart=>exact⟨rfl,rfl,rfl⟩
 case round=>
  obtain⟨rfl,rfl,rfl⟩:=hrel;go_wp2_with fail
  go_end0
  refine⟨rfl,?_⟩;rw[show aL 0 d (ς ν 0 0) []=[] from rfl,wh,fW];exact b
theorem ag8(IH:NZ d):NZ (d+1):=by
 intro nw nv R B wd F a I Q G5 O U hw hv P v l hl hq w L hI M;obtain⟨z,D,u,hm⟩:=aN.len hl;subst u;unfold maxLen at hm;obtain⟨T,hT⟩:=aC (L++(aL (d+1) a (ς z l.length D) l).filter (fun p=>wd p.2));rw[<-hT]at M|-;obtain⟨R0,M⟩:=M;have UQ:Hid _:=M;clear M;go_enter func134,ntmps134;go_wp2_with fail;have e0:aL (d+1) a (ς z l.length D) l=dW (aL d a) a (aS (ς z l.length D)) 0 (l.drop 0):=rfl;have H0:Hid (T=L++(dW (aL d a) a (aS (ς z l.length D)) 0 (l.drop 0)).filter (fun p=>wd p.2)):=by show _=_;rw[hT,e0]
 rw[e0]at hq;clear e0;clear hT
 go_loopg [11] l.length (fun k i wr=>∃(j:Nat)(L':List AI),j+k=l.length/\i=ι ξ j/\I L' wr/\(∀p∈dW (aL d a) a (aS (ς z l.length D)) j (l.drop j),Q p)/\Hid (T=L'++(dW (aL d a) a (aS (ς z l.length D)) j (l.drop j)).filter (fun p=>wd p.2)))
 case atStart=>exact⟨0,L,by omega,rfl,hI,hq,H0⟩
 case round=>
  clear H0 hq hI;revert wr;intro wz hrel;obtain⟨j,L1,hk,rfl,W,y,Z⟩:=hrel
  by_cases hlt:j<l.length
  ·obtain⟨q,ai,vi,u,hg,Y,hc⟩:=Seq.at hl (fun _=>rfl) hlt
   cases u;have g:=Z.out;have N:cv a ⟨q,j*2,ν⟩=vi:=by unfold cv;rw[show a.cell? ⟨q,j*2,ν⟩=ο vi from hc 0 (by decide)];rfl
   rw[Y0 hlt,show aS (ς (ο ⟨q,0,ν⟩) l.length D)=q from rfl,N]at g y;generalize l[j]=x at Y hc g y;obtain⟨b,af,pa⟩:=x;have ab:jO YP d F a vi b:=Y;obtain⟨S,E,qU,aa⟩:=Seq.len Y;subst qU;unfold maxLen at aa;have c0:wz.cell? ⟨q,j*2,ν⟩=ο (ς S b.length E):=(cQ (w:=a) (P _ _ W q hg)).trans (hc 0 (by decide));have A:Hid (T=L1++(eO (aL d a) a (aS (ς S b.length E)) 0 (b.drop 0)++dW (aL d a) a q (j+1) (l.drop (j+1))).filter (fun p=>wd p.2)):=g;have Ka:∀p∈eO (aL d a) a (aS (ς S b.length E)) 0 (b.drop 0)++dW (aL d a) a q (j+1) (l.drop (j+1)),Q p:=y;clear hc g Z y N Y;go_wp2_with fail
   go_loopg [21] b.length (fun k i wr=>∃(m:Nat)(L':List AI),m+k=b.length/\i=ι ξ m/\I L' wr/\(∀p∈eO (aL d a) a (aS (ς S b.length E)) m (b.drop m)++dW (aL d a) a q (j+1) (l.drop (j+1)),Q p)/\Hid (T=L'++(eO (aL d a) a (aS (ς S b.length E)) m (b.drop m)++dW (aL d a) a q (j+1) (l.drop (j+1))).filter (fun p=>wd p.2)))
   case atStart=>exact⟨0,L1,by omega,rfl,W,Ka,A⟩
   case round=>
    clear A Ka W c0;obtain⟨m,G,ah,rfl,hr,f,HR⟩:=hrel
    by_cases Ai:m<b.length
    ·have C:=ab
     unfold jO xu at C;obtain⟨n,Eb,z,u,hn,ha,o⟩:=Seq.at C (fun _=>rfl) Ai;cases u;have c:=HR.out;have N:cv a ⟨n,m*4+3,ν⟩=z:=by unfold cv;rw[show a.cell? ⟨n,m*4+3,ν⟩=ο z from o 3 (by decide)];rfl
     rw[YH Ai,show aS (ς (ο ⟨n,0,ν⟩) b.length E)=n from rfl,N]at c f;generalize b[m]=it at ha o c f;obtain⟨J,V,ac,-⟩:=aN.len ha;subst ac;have X:=P _ _ hr n hn;have K:oV wr n m it:=⟨(cQ (w:=a) X).trans (o 0 (by decide)),(cQ (w:=a) X).trans (o 1 (by decide)),(cQ (w:=a) X).trans (o 2 (by decide))⟩;have V3:Q (⟨n,m*4,ν⟩,it):=f _ (by simp);have KQ:∀p∈aL d a (ς J it.alts.length V) it.alts,Q p:=fun p hp=>f p (by simp[hp])
     have KS:∀p∈eO (aL d a) a n (m+1) (b.drop (m+1))++dW (aL d a) a q (j+1) (l.drop (j+1)),Q p:=fun p hp=>f p (by
      rcases dq.1 hp with hp|hp
      ·simp[hp]
      ·simp[hp])
     clear f C HR N;go_wp2_with fail;refine(hw wr n m it hn K).mono ?_;rintro e w1⟨rfl,ad⟩;obtain rfl:=ad.symm;cases hwd:wd it with
     |true=>
      have ag:Hid _:=hwd;have r:T=(G++[(⟨n,m*4,ν⟩,it)])++((aL d a (ς J it.alts.length V) it.alts).filter (fun p=>wd p.2)++(eO (aL d a) a n (m+1) (b.drop (m+1))++dW (aL d a) a q (j+1) (l.drop (j+1))).filter (fun p=>wd p.2)):=by
       rw[c];simp[hwd,List.append_assoc]
      have s:Hid _:=r;have q1:=hv wr G n m it hr hn K hwd V3 ⟨_,by rw[UQ.out,r,dy,dy];rfl⟩;clear c r hwd;go_wp2_with fail;refine q1.mono ?_;rintro e w2⟨rfl,H⟩;have V4:=P _ _ H n hn;have y3:w2.cell? ⟨n,m*4+3,ν⟩=ο (ς J it.alts.length V):=(cQ (w:=a) V4).trans (o 3 (by decide));go_wp2_with fail;refine(IH nw nv R B wd F a I Q G5 O U hw hv P _ _ ha KQ w2 _ H ⟨_,by rw[UQ.out,s.out,<-dy (G++_),dy (_++List.filter _ _)]⟩).mono ?_;rintro e w3⟨rfl,Ey⟩;have t:Hid _:=s.out;rw[<-dy]at t;go_wp2_with fail;go_roundg (b.length - (m+1))
      case measure=>omega
      case rel=>exact⟨m+1,_,by omega,by go_num,Ey,KS,t⟩
     |false=>
      have r:T=G++((aL d a (ς J it.alts.length V) it.alts).filter (fun p=>wd p.2)++(eO (aL d a) a n (m+1) (b.drop (m+1))++dW (aL d a) a q (j+1) (l.drop (j+1))).filter (fun p=>wd p.2)):=by
       rw[c];simp[hwd,List.append_assoc]
      have s:Hid _:=r;clear c r hwd;have y3:wr.cell? ⟨n,m*4+3,ν⟩=ο (ς J it.alts.length V):=(cQ (w:=a) X).trans (o 3 (by decide));go_wp2_with fail;refine(IH nw nv R B wd F a I Q G5 O U hw hv P _ _ ha KQ wr _ hr ⟨_,by rw[UQ.out,s.out,<-dy G,dy (_++List.filter _ _)]⟩).mono ?_;rintro e w3⟨rfl,Ey⟩;have t:Hid _:=s.out;rw[<-dy]at t;go_wp2_with fail;go_roundg (b.length - (m+1))
      case measure=>omega
      case rel=>exact⟨m+1,_,by omega,by go_num,Ey,KS,t⟩
    ·have:m=b.length:=by omega
     subst this;have c:=HR.out;rw[im,eO,jn]at c f;have ae:Hid _:=c;clear c HR;go_wp2_with fail;go_roundg (l.length - (j+1))
     case measure=>omega
     case rel=>exact⟨j+1,G,by omega,by go_num,hr,f,ae⟩
  ·have:j=l.length:=by omega
   subst this;have g:=Z.out;rw[im,dW,wh,fW]at g;have A:Hid _:=g;clear g Z;go_wp2_with fail
   go_end0
   refine⟨rfl,?_⟩;rw[A.out];exact W
theorem SE:∀d,NZ d
 |0=>ag7
 |d+1=>ag8 (SE d)
theorem aN.up{Y:Lay}{F:Nat->Prop}{w:ω}:∀{d:Nat}{v:υ}{l:List Lx.Alt},aN Y d F w v l->aN Y (d+1) F w v l
 |0,_,_,h=>by obtain⟨rfl,rfl⟩:=h;exact aN.nil _ _ _ _
 |d+1,_,_,h=>Seq.move (K:=fun g(a:Lx.Alt)=>xu Y (aN Y d F w) F w g a.1) h (fun _ _=>rfl) (fun _ h=>h) fun _ _ i=>Seq.move (K:=fun f(b:Lx.It)=>aN Y d F w f b.alts) i (fun _ _=>rfl) (fun _ h=>h) fun _ _ c=>aN.up c
theorem ah9(n:Nat):(Gz n).size<=n+1:=by
 show ((Lib.decDigits n).toArray).size<=n+1;rw[jz]
 induction n using Nat.strongRecOn with
 |_ n IH=>
  rw[Lib.decDigits]
  split
  ·simp
  ·have:=IH (n / 10) (by omega)
   rw[cJ,gw];omega
def dP(r:List Nat):List υ:=r.map fun(s:Nat)=>ι ξ (s:Int)
theorem DC(r:List Nat):(dP r).length=r.length:=by simp[dP]
theorem FH(a b:List Nat):dP (a++b)=dP a++dP b:=by simp[dP]
theorem aia(r:List Nat):∀u∈dP r,u.oneCell'=η:=by
 intro u a;obtain⟨s,-,rfl⟩:=fk.1 a;rfl
theorem aib(h:j<r.length):(dP r)[j]?=ο (ι ξ (r[j]:Int)):=by simp[dP,h]
def IR(B:Nat)(w:ω)(v:υ)(r:List Nat):Prop:=w.ownsRow B 3 1 v r.length (dP r)
section
open Go.RowKit
open Lx (Tk)
open Tr
theorem Tryz.info3:(prog.info? 3).map (fun i=>(i.zero,i.size,i.bytes))=ο (ο (.int ξ 0),1,8):=by kernel_rfl
end
theorem agc{a:Lx.It}(h:oV w n m a):χ prog 135 #[π (ο ⟨n,m*4,ν⟩)] w fun e w'=>e=δ (μ (decide (a.kind=0)))/\w'=w:=by
 have c:=h.kind;go_enter func135,ntmps135
 by_cases hk:a.kind=0
 ·have b:((a.kind:Int) == 0)=η:=by simp[hk]
  rw[ge hk];clear hk;go_wp2_with fail;go_ret;exact⟨rfl,rfl⟩
 ·have b:((a.kind:Int) == 0)=ε:=ej.2 (by omega)
  rw[fx hk];clear hk;go_wp2_with fail;go_ret;exact⟨rfl,rfl⟩
namespace Lx
def vis(names:List ByteArray)(s:List Bool×List Nat)(nm:ByteArray):List Bool×List Nat:=if aJ s.1 (fix names nm)=η then s else (s.1.set (fix names nm) η,s.2++[fix names nm])
end Lx
structure RS(lo n B:Nat)(num:ByteArray->Int)(w0 w:ω)(s:List Bool×List Nat):Prop where
 nb:aj w lo #[.map (ο B)] 69
 mp:SMap w B num
 bl:B<lo
 fo:aj w (lo+1) (bE s.1) 4
 fv:aj w (lo+2) #[ς (ο ⟨lo+1,0,ν⟩) n n] 81
 ov:∃vo,aj w (lo+4) #[vo] 47/\w.ownsRow 0 3 1 vo s.2.length (dP s.2)/\∀g,vo.ownBlock=ο g->g=lo+3\/lo+5<=g
 len:Hid (s.1.length=n)
 fr:φ lo w0 w
theorem agd{num:ByteArray->Int}{w0:ω}{s:List Bool×List Nat}(h:RS c n B num w0 w s){f:Lx.It}(hi:oV w a m f){b:List ByteArray}(hq:num f.name=(Lx.fix b f.name:Int))(hl:Lx.fix b f.name<n)(ac:s.2.length<=10000):
  χ prog 136 #[π (ο ⟨a,m*4,ν⟩),π (ο ⟨c,0,ν⟩),π (ο ⟨c+2,0,ν⟩),π (ο ⟨c+4,0,ν⟩)] w fun e w'=>e=δ (θ #[])/\RS c n B num w0 w' (Lx.vis b s f.name):=by
 obtain⟨i3,aa,Ec,Ed,G⟩:=ft Tryz.info3;obtain⟨h1,h2,h3,h4,h5,⟨N,h6,h7,y⟩,Z,F⟩:=h;have v:SMap w.drew B num:=h2.move rfl;have z:=v.look f.name;rw[hq]at z;have x1:=hi.name;have c0:=h1.a0;go_enter func136,ntmps136;go_wp2_with fail
 go_region
 all_goals
  have d:Lx.vis b s f.name=if aJ s.1 (Lx.fix b f.name)=η then s else (s.1.set (Lx.fix b f.name) η,s.2++[Lx.fix b f.name]):=rfl
  have J:Hid _:=d;have L:Lx.fix b f.name<s.1.length:=by have:=Z.out;omega
  clear d;obtain⟨wd,o⟩:=aC w.drew;rw[<-o];have t:wd.heap=w.heap:=by rw[o];rfl
  have C:φ c w0 wd:=by rw[o];exact F.drew
  have x:aj wd c #[.map (ο B)] 69:=by unfold aj;rw[t];exact h1
  have H:SMap wd B num:=h2.move (by rw[t]);have A:aj wd (c+1) (bE s.1) 4:=by unfold aj;rw[t];exact h4
  have I:aj wd (c+2) #[ς (ο ⟨c+1,0,ν⟩) n n] 81:=by unfold aj;rw[t];exact h5
  have M:aj wd (c+4) #[N] 47:=by unfold aj;rw[t];exact h6
  have U:wd.ownsRow 0 3 1 N s.2.length (dP s.2):=ay h7 fun g _=>by rw[t]
  have f0:=I.a0;have o1:=(A.cell _).trans (qE s.1 L);have of:=A.frozen;have l1:=A.lt;have l2:=I.lt;have l4:=M.lt;have ab:Hid _:=L;clear o t h1 h2 v h4 h5 h6 h7 F x1 c0 z hq hi L;generalize Lx.fix b f.name=q at *;cases hb:aJ s.1 q with
  |true=>
   have d:=J.out;rw[du hb]at d;have O:Hid _:=d;rw[hb]at o1;clear d J hb;go_wp2_with fail
   go_end0
   refine⟨rfl,?_⟩;rw[O.out];exact⟨x,H,h3,A,I,⟨N,M,U,y⟩,Z,C⟩
  |false=>
   have d:=J.out;rw[dt (by rw[hb];decide)]at d;have O:Hid _:=d;rw[hb]at o1;clear d J hb;obtain⟨u,r,yg,KV⟩:=aB U;subst yg;unfold maxLen at KV;have E:aj (wd.setCell ⟨c+1,q,ν⟩ (μ η)) (c+4) #[ς u s.2.length r] 47:=M.other (by omega) _;have ae:=E.a0;have S:(wd.setCell ⟨c+1,q,ν⟩ (μ η)).ownsRow 0 3 1 (ς u s.2.length r) s.2.length (dP s.2):=ay U fun g l=>fy _ _ _ _ (fun e=>by have e':g=c+1:=e;rcases y g l with h|h <;> omega)
   have W:aj (wd.setCell ⟨c+1,q,ν⟩ (μ η)) (c+1) (bE (s.1.set q η)) 4:=by rw[<-Dz];exact A.set q _
   have D:(wd.setCell ⟨c+1,q,ν⟩ (μ η)).heap.size=wd.heap.size:=by simp[World.setCell]
   have K:aj ((wd.setCell ⟨c+1,q,ν⟩ (μ η)).alloc (ζ #[ι ξ (q:Int)] 3)) wd.heap.size #[ι ξ (q:Int)] 3:=by rw[<-D];exact aj.new _ _ 3
   have Q:(ς u s.2.length r).ownBlock≠ο (c+4):=fun e=>by rcases y _ e with h | h <;> omega
   go_wp2_with (at_builtin;go_loud (refine ii _ rfl _ _ 47 rfl 0 3 i3 _ 1 8 underlying47 aa Ec Ed G rfl (by decide) (.slice u s.2.length r) _ _ rfl (S.alloc _) ⟨_,0,ν⟩ 1 1 [.int ξ (q:Int)] rfl rfl (bQ K) (by simp[Value.oneCell']) (by unfold maxLen;omega) (by omega) (by simp) ?_;intro v5 V j p _ jd;obtain⟨mG,mH,X,-⟩:=aB j;subst X;have P:=(E.alloc (.cells #[.int ξ (q:Int)] 3)).grown p (fun e=>Q e.symm);have ad:V.cell? ⟨c+4,0,ν⟩=ο (.slice u s.2.length r):=P.cell 0;have af:∀i,V.frozen? ⟨c+4,i,ν⟩=ε:=P.frozen))
   go_end0
   refine⟨rfl,?_⟩;rw[O.out];have bk:∀g,g<wd.heap.size->g≠c+4->g≠c+1->(ς u s.2.length r).ownBlock≠ο g->(V.setCell ⟨c+4,0,ν⟩ (ς mG (s.2.length+1) mH)).heap[g]?=wd.heap[g]?:=by
    intro g l R Y hn;rw[fy _ _ _ _ R,p.block g (by simp[World.setCell];omega) (fun e=>hn e.symm),ed _ _ _ (by rw[D];exact l),fy _ _ _ _ Y]
   have k:∀g,g<c+3->(ς u s.2.length r).ownBlock≠ο g:=fun g l e=>by rcases y _ e with h | h <;> omega
   have T:=p.size;simp only[World.size_alloc]at T;have xM:∀g,(ς mG (s.2.length+1) mH).ownBlock=ο g->g=c+3\/c+5<=g:=by
    intro g l;rcases jd with h|h
    ·exact y g (h▸l)
    ·rw[h]at l
     have e1:=fL l;have e2:g=wd.heap.size+1:=by rw[<-e1];simp[World.setCell]
     omega
   refine⟨?_,H.move (bk B (by omega) (by omega) (by omega) (k B (by omega))),h3,?_,?_,⟨_,P.set 0 _,?_,xM⟩,?_,?_⟩
   ·exact(bk c (by omega) (by omega) (by omega) (k c (by omega))).trans x
   ·have k5:=(W.alloc (ζ #[ι ξ (q:Int)] 3)).grown p (fun e=>k (c+1) (by omega) e.symm)
    exact k5.other (by omega) _
   ·exact(bk (c+2) (by omega) (by omega) (by omega) (k (c+2) (by omega))).trans I
   ·rw[cJ,FH]
    exact ay j fun g l=>fy _ _ _ _ (fun e=>by have e':g=c+4:=e;rcases xM g l with h|h <;> omega)
   ·show (s.1.set q η).length=n
    rw[jp];exact Z.out
   ·refine C.trans ⟨?_,?_,?_,?_,fun g l=>bk g (by omega) (by omega) (by omega) (k g (by omega))⟩
    ·exact p.os
    ·exact p.tape
    ·exact p.output
    ·have:=p.size;simp[World.setCell]at this|-;omega
namespace Lx
theorem ajr(c:(H.map It.place).Pairwise (·< ·)){k:Nat}(b:k<H.length)(a:Cn H p<H.length):H[k].place=p↔k=Cn H p:=by
 have h1:H[Cn H p].place=p:=by
  have:=ri (w:=a);exact mL this
 constructor
 ·intro h
  rcases Nat.lt_trichotomy k (Cn H p) with h2|h2|h2
  ·have:=List.not_of_lt_findIdx h2
   simp[h]at this
  ·exact h2
  ·exfalso
   have h3:=mN.1 c (Cn H p) k (by simpa using a) (by simpa using b) h2;simp[h1,h]at h3
 ·rintro rfl;exact h1
end Lx
theorem IR.at{B:Nat}{w:ω}{v:υ}{r:List Nat}(h:IR B w v r){j:Nat}(a:j<r.length):∃g cap,v=ς (ο ⟨g,0,ν⟩) r.length cap/\g<w.heap.size/\w.cell? ⟨g,j,ν⟩=ο (ι ξ (r[j]:Int)):=by
 unfold IR at h;obtain⟨g,cap,rfl,-,-⟩:=h.form (by omega);refine⟨g,cap,rfl,(h.lt g rfl).2,?_⟩;rw[h.cellAt j (by omega),aib a]
namespace Lx
theorem ag9(l:List ByteArray)(b:ByteArray):(∀c∈l,c∈uX l b)/\b∈uX l b:=by
 unfold uX
 split
 ·rename_i h;exact⟨fun _ h=>h,pX.1 h⟩
 ·exact⟨fun c h=>dq.2 (.inl h),dq.2 (.inr eE)⟩
theorem RD:∀(bs l:List ByteArray),(∀c∈l,c∈mZ l bs)/\∀b∈bs,b∈mZ l bs
 | [],l=>⟨fun _ h=>h,fun _ h=>by cases h⟩
 |b::bs,l=>by
  have h1:=ag9 l b;have h2:=RD bs (uX l b);refine⟨fun c a=>h2.1 c (h1.1 c a),fun c a=>?_⟩;rcases fh.1 a with rfl|a
  ·exact h2.1 _ h1.2
  ·exact h2.2 c a
theorem ak3{g:Gr}(h:b∈ZN g):0<=fM (aG g) b:=pX.2 ((RD _ _).2 b (dq.2 (.inl h)))
theorem ak4(h:x∈H):Cn H x.place<H.length:=yp ⟨x,h,by simp⟩
theorem aha(r:Rl):(qH r).length=1+(bS 9 r.alts).length:=by simp[qH];omega
theorem Y1{T N:List ByteArray}{b:Nat}(h:x.alts.length<=n)(a:1<=n):(partsOf T N b H x).length<=n:=by
 unfold partsOf;split
 ·rw[dk];exact h
 ·exact a
theorem ahb(n s m:Nat)(ps:List (List Nat)):(sZ n s m ps).length<=1+2*ps.length:=by
 unfold sZ;rw[cJ,cJ]
 split <;> split <;> split <;> simp <;> omega
theorem RF{T N:List ByteArray}{b:Nat}{H:List It}{n:Nat}(a:1<=n):∀(l:List It)(k:Nat),(∀x∈l,x.alts.length<=n)->(rF T N b H k l).length<=l.length*(1+2*n)
 | [],_,_=>fi _
 |x::l,k,h=>by
  rw[rF,cJ,eh,oE];have h1:=ahb T.length (b+1+k) x.mark (partsOf T N b H x);have h2:=Y1 (T:=T) (N:=N) (b:=b) (H:=H) (h x eE) a;have h3:=RF (T:=T) (N:=N) (b:=b) (H:=H) a l (k+1) fun y c=>h y (eR _ c)
  omega
end Lx
theorem Ru{a:Lx.It}(h:oV w n m a):χ prog 141 #[π (ο ⟨n,m*4,ν⟩)] w fun e w'=>e=δ (μ (Lx.hlp a))/\w'=w:=by
 have f:=h.kind;have h2:=h.mark;go_enter func141,ntmps141
 by_cases hk:a.kind=2
 ·have d:((a.kind:Int) == 2)=η:=by simp[hk]
  have b:Lx.hlp a=η:=by simp[Lx.hlp,hk]
  rw[b];clear hk b;go_wp2_with fail;go_ret;exact⟨rfl,rfl⟩
 ·have d:((a.kind:Int) == 2)=ε:=ej.2 (by omega)
  by_cases hm:a.mark=0
  ·have c:((a.mark:Int) != 0)=ε:=by simp[hm]
   have b:Lx.hlp a=ε:=by simp[Lx.hlp,hk,hm]
   rw[b];clear hk b hm;go_wp2_with fail;go_ret;exact⟨rfl,rfl⟩
  ·have c:((a.mark:Int) != 0)=η:=nj.2 (by omega)
   have b:Lx.hlp a=η:=by simp[Lx.hlp,hk,hm]
   rw[b];clear hk b hm;go_wp2_with fail;go_ret;exact⟨rfl,rfl⟩
def tY(q:υ×Lx.Pd):List υ:=[ι ξ (q.2.left:Int),q.1,ι ξ q.2.prec]
theorem Jv:∀ps:List (υ×Lx.Pd),(ps.flatMap tY).length=ps.length*3
 | []=>rfl
 |p::ps=>by rw[eS,cJ,Jv ps,eh,oE];show 3+_=_;omega
structure Kp(D:Nat->Prop)(w w':ω):Prop where
 os:w'.os=w.os
 tape:w'.tape=w.tape
 output:w'.output=w.output
 size:w.heap.size<=w'.heap.size
 block:∀g,D g->w'.heap[g]?=w.heap[g]?
theorem Kp.refl(D:Nat->Prop)(w:ω):Kp D w w:=⟨rfl,rfl,rfl,dv _,fun _ _=>rfl⟩
theorem Kp.trans{D D':Nat->Prop}{w w' a:ω}(h:Kp D w w')(k:Kp D' w' a)(c:∀g,D g->D' g):Kp D w a:=⟨k.os.trans h.os,k.tape.trans h.tape,k.output.trans h.output,cY h.size k.size,fun g b=>(k.block g (c g b)).trans (h.block g b)⟩
theorem Kp.below{D:Nat->Prop}(h:φ w.heap.size w w')(b:∀g,D g->g<w.heap.size):Kp D w w':=⟨h.os,h.tape,h.output,h.size,fun g a=>h.block g (b g a)⟩
def More(D:Nat->Prop)(w w':ω):Nat->Prop:=fun g=>D g\/(w.heap.size<=g/\g<w'.heap.size)
namespace Lx
theorem agf(n:Nat)(r:List Nat)(s:Nat):rJ n (r++[s])=if s<n then (s:Int) else rJ n r:=by unfold rJ;rw[pB];rfl
theorem agh(h:m<r.length):rJ n (r.take (m+1))=if r[m]<n then (r[m]:Int) else rJ n (r.take m):=by rw[fY h,agf]
end Lx
theorem Tryz.acy:(prog.info? 47).map (fun i=>(i.zero,i.size,i.bytes))=ο (ο (.slice ν 0 0),1,24):=by kernel_rfl
theorem Tryz.afP:prog.underlying 32=ο (.slice 47):=by kernel_rfl
def UR(B:Nat)(w:ω)(v:υ)(ps:List (List Nat))(qs:List (υ×List Nat)):Prop:=qs.map Prod.snd=ps/\w.ownsRow B 47 1 v ps.length (qs.map Prod.fst)/\(∀q,q∈qs->IR B w q.1 q.2)/\∀q,q∈qs->∀g,q.1.ownBlock=ο g->v.ownBlock≠ο g
def su(B:Nat)(w:ω)(v:υ)(ps:List (List Nat)):Prop:=∃qs,UR B w v ps qs
theorem su.move(h:su B w v ps)(c:∀g,B<=g->g<w.heap.size->w'.heap[g]?=w.heap[g]?):su B w' v ps:=by
 obtain⟨d,h1,h2,h3,h4⟩:=h;exact⟨d,h1,ay h2 fun g a=>c g (h2.lt g a).1 (h2.lt g a).2,fun q b=>ay (h3 q b) fun g a=>c g ((h3 q b).lt g a).1 ((h3 q b).lt g a).2,h4⟩
theorem su.len(h:su B w v ps):∃a c,v=ς a ps.length c/\ps.length<=maxLen:=by
 obtain⟨b,h1,h2,h3,h4⟩:=h;exact aB h2
theorem su.at{B:Nat}{w:ω}{v:υ}{ps:List (List Nat)}(h:su B w v ps){j:Nat}(c:j<ps.length):∃g cap u,v=ς (ο ⟨g,0,ν⟩) ps.length cap/\B<=g/\g<w.heap.size/\w.cell? ⟨g,j,ν⟩=ο u/\IR B w u ps[j]:=by
 obtain⟨a,h1,h2,h3,h4⟩:=h;obtain⟨g,cap,rfl,-,-⟩:=h2.form (by omega);have f:a.length=ps.length:=by rw[<-h1,dk]
 have b:a[j]?=ο a[j]:=cG (by omega);have d:(a[j]).2=ps[j]:=by
  have:(a.map Prod.snd)[j]?=ps[j]?:=by rw[h1]
  rw[dj,b,cG c]at this;simpa using this
 refine⟨g,cap,(a[j]).1,rfl,(h2.lt g rfl).1,(h2.lt g rfl).2,?_,?_⟩
 ·rw[h2.cellAt j (by omega),dj,b];rfl
 ·rw[<-d];exact h3 _ (eJ _)
structure Puts(bt et sz:Nat)(w:ω)(mb i:Nat)(v:υ)(n:Nat)(xs:List υ)(cs:Array υ)(v3:υ)(w4:ω):Prop where
 blk:aj w4 mb (cs.setIfInBounds i v3) bt
 row:w4.ownsRow 0 et sz v3 n xs
 keep:∀g,g<w.heap.size->g≠mb->v.ownBlock≠ο g->w4.heap[g]?=w.heap[g]?
 ne:v3.ownBlock≠ο mb
 at_:∀g,v3.ownBlock=ο g->v.ownBlock=ο g\/w.heap.size<=g
 os:w4.os=w.os
 tape:w4.tape=w.tape
 output:w4.output=w.output
 size:w.heap.size<=w4.heap.size
theorem puts{bt sz:Nat}{w1 w3:ω}{cs:Array υ}{o:List υ}{v3:υ}(h1:aj w a cs bt)(m:v.ownBlock≠ο a)(b:φ w.heap.size w w1)(q:w3.ownsRow 0 p sz v3 n o)(c:w1.grownBy w3 v.ownBlock)(f:v3.ownBlock=v.ownBlock\/∃g,v3.ownBlock=ο g/\w.heap.size<=g):Puts bt p sz w a i v n o cs v3 (w3.setCell ⟨a,i,ν⟩ v3):=by
 have x:=h1.lt;have r:=b.size;have s:=c.size;have d:v3.ownBlock≠ο a:=by
  rcases f with h|⟨g,h,k⟩
  ·rw[h];exact m
  ·rw[h];intro e;cases e;omega
 have y:aj w3 a cs bt:=by
  unfold aj at h1|-;rw[c.block a (by omega) (fun e=>m e.symm),b.block a x];exact h1
 refine⟨y.set i v3,?_,?_,d,?_,c.os.trans b.os,c.tape.trans b.tape,c.output.trans b.output,by simp[World.setCell];omega⟩
 ·exact ay q fun g j=>fy _ _ _ _ (fun e=>d (by have z:g=a:=e;rw[<-z];exact j))
 ·intro g l u t
  rw[fy _ _ _ _ u,c.block g (by omega) (fun e=>t e.symm),b.block g l]
 ·intro g j
  rcases f with h|⟨A,h,k⟩
  ·exact .inl (h▸j)
  ·rw[h]at j;cases j;exact .inr k
theorem Puts.drew{bt d sz:Nat}{w b:ω}{c i:Nat}{cs:Array υ}{v:υ}{n:Nat}{a:List υ}{v3:υ}(h:Puts bt d sz w c i v n a cs v3 b):Puts bt d sz w c i v n a cs v3 b.drew:=⟨h.blk.drew,ay h.row fun _ _=>rfl,h.keep,h.ne,h.at_,h.os,h.tape,h.output,h.size⟩
def adt(w:ω)(mb nT:Nat)(V:List ByteArray)(nm:ByteArray)(vN:υ)(cs:Array υ)(e:Ending)(w':ω):Prop:=e=δ (ι ξ ((nT+V.length:Nat):Int))/\∃v3,Puts 216 9 1 w mb 1 vN (V.length+1) ((V++[nm]).map τ) cs v3 w'
theorem agi{nT:Nat}{V:List ByteArray}{ta:Option Addr}{tc:Nat}{l vP vB vK J:υ}(p:aj w c #[ς ta nT tc,l,vP,vB,vK,G,J] 216)(z:w.ownsRow 0 9 1 l V.length (V.map τ))(j:l.ownBlock≠ο c)(M:nT<=100000)(P:V.length<=100000)(d:ByteArray):
  χ prog 140 #[π (ο ⟨c,0,ν⟩),τ d] w (adt w c nT V d l #[ς ta nT tc,l,vP,vB,vK,G,J]):=by
 obtain⟨K,F,m,f,k⟩:=ft Tryz.Ut;obtain⟨x,E,rfl,-⟩:=aB z;have lm:=p.lt;have m1:=p.a1;have o:φ w.heap.size w (w.alloc (ζ #[τ d] 9)):=(cV _ _).alloc (dv _) _;unfold adt;go_enter func140,ntmps140
 go_wp2_with (at_builtin;go_loud (refine ii _ rfl _ _ 45 rfl 0 9 K _ 1 16 underlying45 F m f k rfl (by decide) (.slice x V.length E) _ _ rfl (z.alloc _) ⟨_,0,ν⟩ 1 1 [.string d] rfl rfl (bQ (aj.new _ _ 9)) (by simp[Value.oneCell']) (by unfold maxLen;omega) (by omega) (by simp) ?_;intro O r a D _ I;obtain⟨t,q,A,-⟩:=aB a;subst A;have C:=(p.alloc (.cells #[.string d] 9)).grown D (fun e=>j e.symm);have B:r.cell? ⟨c,1,ν⟩=ο (.slice x V.length E):=C.cell 1;have v:∀i,r.frozen? ⟨c,i,ν⟩=ε:=C.frozen))
 have H:(ς t (V.length+1) q).ownBlock=(ς x V.length E).ownBlock\/∃g,(ς t (V.length+1) q).ownBlock=ο g/\w.heap.size<=g:=by
  rcases I with u|u
  ·exact .inl u
  ·exact .inr ⟨_,u,by simp⟩
 have b:r.ownsRow 0 9 1 (ς t (V.length+1) q) (V.length+1) ((V++[d]).map τ):=by rw[ee];exact a
 have s:=puts (i:=1) p j o b D H;clear I H a b D C B v m1;generalize r.setCell ⟨c,1,ν⟩ (ς t (V.length+1) q)=w6 at s;have n:=s.blk;have N:=n.drew.a0;have d1:=n.drew.a1;have y:=s.drew;have d2:=n.a0;have L:=n.a1;clear p z o n s
 go_region
 all_goals
  go_wp2_with fail;go_ret;exact⟨by go_num,_,y⟩

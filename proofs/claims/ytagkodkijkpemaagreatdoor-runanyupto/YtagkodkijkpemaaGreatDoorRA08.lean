import Derived.Test.YtagkodkijkpemaaGreatDoorRA07
set_option maxHeartbeats 8000000
set_option maxRecDepth 1000000
namespace Go.Proofs.YtagkodkijkpemaaGreatDoor
open Lx Go.Proofs.Tryz
open Go.RowKit
open Lx (Tk)
open Tr
theorem Tryz.akK:(prog.info? 250).map (fun i=>(i.zero,i.size,i.bytes))=some (some (.agg #[.int .i64 0,.slice none 0 0]),2,32):=by kernel_rfl
theorem Tryz.akL:(prog.info? 254).map (fun i=>(i.zero,i.size,i.bytes))=some (some (.agg #[.string ⟨#[]⟩,.slice none 0 0]),2,40):=by kernel_rfl
def cL:Value×Lx.Lv->List Value:=fun q=>[.int .i64 (q.2.kind:Int),q.1]
def KL:(Nat->Prop)->World->Value->Lx.Lv->Prop:=fun F w va lv=>Tr.Seq F w 9 1 cT (fun _ _=>True) va lv.tokens
theorem zN:sU KL:=fun _ _ _ _ _ _ b a h=>Seq.move h b a (fun _ _ h=>h)
def cR:Value×Lx.Rl->List Value:=fun q=>[.string q.2.name,q.1]
def KR:(Nat->Prop)->World->Value->Lx.Rl->Prop:=fun F w va r=>eD YP 9 F w va r.alts
theorem rM:sU KR:=fun _ _ _ _ _ _ b a h=>eD.move b a h
def BF(F:Nat->Prop)(w:World)(vl vr:Value)(g:Lx.Gr):Prop:=Tr.Seq F w 250 2 cL (KL F w) vl g.levels/\Tr.dQ F w 254 2 cR KR vr g.rules
def amx(lo:Nat)(w':World)(v:Value)(g:Lx.Gr):Prop:=∃vl vr,v=.agg #[vl,vr]/\BF (In lo w'.heap.size) w' vl vr g
theorem BF.move{F i:Nat->Prop}{w w':World}{d f:Value}{g:Lx.Gr}(h:BF F w d f g)(a:∀b,F b->w'.heap[b]?=w.heap[b]?)(c:∀b,F b->i b):BF i w' d f g :=
 ⟨h.1.move a c fun _ _ h=>zN _ _ _ _ _ _ a c h,h.2.move a c fun _ _ _ k h=>rM _ _ _ _ _ _ (fun b j=>a b (k b j)) (fun _ h=>h) h⟩
theorem agD(S m:Nat)(L:List Tk)(p:Nat)(w:World)(ts:List Tk)(h:Rd S m L p w ts 0):
  Calls prog 71 #[.pointer (some ⟨p,0,none⟩)] w (Ends S m L p 0 (amx w.heap.size) w (jq ts)):=by
 obtain⟨aI,aE,a3,a4,aA⟩:=fd Tryz.akK;obtain⟨ai,ap,az,a0,ag⟩:=fd Tryz.akL;have hp:=h.lt;have hs:=h.Ag;have bs:=h.lb;have bd:=h.len;have h2:=(h.alloc (.cells #[.slice none 0 0,.slice none 0 0] 105)).alloc (.cells #[.slice none 0 0,.slice none 0 0] 105);have kB:=(aj.new w #[.slice none 0 0,.slice none 0 0] 105).alloc (.cells #[.slice none 0 0,.slice none 0 0] 105);have kC:=aj.new (w.alloc (.cells #[.slice none 0 0,.slice none 0 0] 105)) #[.slice none 0 0,.slice none 0 0] 105;have G0:=aL (aX w (.cells #[.slice none 0 0,.slice none 0 0] 105) (some p)) (aX _ (.cells #[.slice none 0 0,.slice none 0 0] 105) (some p));rw[show (w.alloc (.cells #[.slice none 0 0,.slice none 0 0] 105)).heap.size=w.heap.size+1 by simp]at kC;have OP:Hid _:=afE ts;go_enter func71,ntmps71;go_wp2_with fail
 go_loopg [] ts.length (fun k c=>∃(E:List Tk)(o:List Lx.Lv)(v:Value)(f:Nat),E.length=k/\E.length<=f/\o.length+E.length<=ts.length/\w.heap.size+2<=c.heap.size/\Rd S m L p c E 0/\aj c (w.heap.size+1) #[v,.slice none 0 0] 105/\aj c w.heap.size #[.slice none 0 0,.slice none 0 0] 105 /\
   Grow (w.heap.size+2) c 250 2 cL KL v o/\w.grownBy c (some p)/\Hid (jq ts=NW (kZ f E o)))
 case atStart=>exact⟨ts,[],_,ts.length,rfl,zL0,by simp,by simp,h2,kC,kB,Grow.nil _ _ _ _ _ _,G0,OP⟩
 case round=>
  revert wr;intro c hrel;obtain⟨E,o,v,f,H,hf,bc,hsz,hr,xK,vz,ae,hg,O⟩:=hrel;clear h2 kB kC G0 OP;have bn:=hr.wf.ne;obtain⟨f',rfl⟩:∃f',f=f'+1:=⟨f-1,by omega⟩;obtain⟨ps,F,aa⟩:=ae;have z:=aa.2.1;obtain⟨T,W,U,rfl⟩:=EY z;have c0:c.cell? ⟨w.heap.size+1,0,none⟩=some (.slice T W U):=xK.cell 0;have c1:c.cell? ⟨w.heap.size+1,1,none⟩=some (.slice none 0 0):=xK.cell 1;have f0:∀i,c.frozen? ⟨w.heap.size+1,i,none⟩=false:=xK.frozen;have Y:=hr.drew;have X:=aL hg (ow c (some p))
  by_cases hlk:0<=ja (Lx.hd E)
  ·cases hr4:lu E with
   |error x=>
    obtain⟨n,a⟩:=x;have HE:Hid (jq ts=.error (n,a)):=by
     show _=_;rw[O.out];simp only[kZ];rw[de hlk,hr4];rfl
    have C:Hid _:=hr4;clear hr4 O
    go_wp2_with (first
     | (go_at_call 111;refine(oF hr).mono ?_;rintro e Z⟨rfl,u⟩;obtain rfl:=u.symm)
     | (go_at_call 110;refine(Il _ _).mono ?_;rintro e Z⟨rfl,u⟩;obtain rfl:=u.symm))
    refine sf (by kernel_rfl) ?_;refine m8 (i:=0) (v:=.pointer (some ⟨w.heap.size+1,0,none⟩)) rfl (by kernel_rfl) (by kernel_rfl) (by kernel_rfl) (fun _ _ _ h=>h) (pS ⟨by rfl,fun w=>by go_simp⟩) ?_;refine m8 (i:=2) (v:=.pointer (some ⟨p,0,none⟩)) rfl (by kernel_rfl) (by kernel_rfl) (by kernel_rfl) (fun _ _ _ h=>h) (pS ⟨by rfl,fun w=>by go_simp⟩) ?_;refine ot (rs:=[1,3]) (by kernel_rfl) (by simp) ?_;refine ki rfl (fun K N=>?_) (ki rfl (fun K N=>?_) nF)
    ·change if _ then Oper.wp _ _ _ c.drew _ _ else _
     go_simp
     refine N _ _ ?_;clear N K;refine ot (rs:=[3]) (by kernel_rfl) (by simp) ?_;refine ki rfl (fun K N=>?_) nF;exact uJ rfl 112 #[.pointer (some ⟨p,0,none⟩)] (by go_simp) (RF S m L p _ E Y hlk) fun e w2 B=>by obtain⟨rfl,r⟩:=B.err C.out;exact⟨_,rfl,rfl,Ends.no HE.out (aL X r)⟩
    ·change if _ then Oper.wp _ _ _ c.drew _ _ else _
     exact uJ rfl 112 #[.pointer (some ⟨p,0,none⟩)] (by go_simp) (RF S m L p _ E Y hlk) fun e w2 B=>by obtain⟨rfl,r⟩:=B.err C.out;exact⟨_,rfl,rfl,Ends.no HE.out (aL X r)⟩
   |ok x=>
    obtain⟨lv,nU⟩:=x;have a5:=agz hr4;have Gg:=hr.wf.sS;have Cj:Hid (jq ts=NW (kZ f' nU (o++[lv]))):=by
     show _=_;rw[O.out];simp only[kZ];rw[de hlk,hr4]
    have C:Hid _:=hr4;clear hr4 O
    go_wp2_with (first
     | (go_at_call 111;refine(oF hr).mono ?_;rintro e Z⟨rfl,u⟩;obtain rfl:=u.symm)
     | (go_at_call 110;refine(Il _ _).mono ?_;rintro e Z⟨rfl,u⟩;obtain rfl:=u.symm))
    go_region_law (first
     | (refine step_append_lies _ rfl (.tmp 11) (.tmp 14) 102 rfl (w.heap.size+2) 250 aI _ 2 32 underlying102 aE a3 a4 aA rfl (by decide) (.slice T W U) o.length (ps.flatMap cL) (by simp[Act.eval]) (s.alloc _) ⟨I.heap.size,0,none⟩ 1 1 (cL (.slice xa xk xc,lv)) (by simp[Act.eval]) rfl (dI (aj.new I _ 250)) (by simp[cL,Value.oneCell']) (by decide) (by unfold maxLen;omega) (by omega) (by have:=d.size;have:c.drew.heap.size=c.heap.size:=rfl;simp;omega) _ rfl ?_;intro Ai zU Q Jh G Jr aH;have BU:=(nV.alloc _).grown G (fun e=>by have:=(z.lt _ e.symm).1;omega);have ak:Q.cell? ⟨w.heap.size+1,0,none⟩=some (.slice T W U):=BU.cell 0;have a1:∀i,Q.frozen? ⟨w.heap.size+1,i,none⟩=false:=BU.frozen)
     | (refine fP rfl 112 #[.pointer (some ⟨p,0,none⟩)] (by go_simp) (RF S m L p _ E Y hlk) ?_;intro e I B;obtain⟨vv,rfl,d,qX,ad⟩:=B.ok C.out;refine⟨_,rfl,?_⟩;obtain⟨vx,rfl,R⟩:=ad;obtain⟨xa,xk,xc,rfl⟩:=Seq.form R;have s:=((aa.kept zN (ow c none) (by simp)).kept zN d (fun k H=>by cases H;omega)).2.1;have nV:=xK.drew.grown d (by simp;omega);have Kb:I.cell? ⟨w.heap.size+1,0,none⟩=some (.slice T W U):=nV.cell 0;have NY:=nV.lt))
    all_goals
     have OQ:=yM.push zN (aa.kept zN (ow c none) (by simp)) (p:=p) (by omega) (by have:c.drew.heap.size=c.heap.size:=rfl;omega) d (.slice xa xk xc,lv) R (aX I _ none) Jh G Jr;have NZ:=((vz.drew.grown d (by simp;omega)).alloc _).grown G (fun e=>by have:=(z.lt _ e.symm).1;omega);have N7:=(qX.alloc _).grown G (fun e=>by have:=(z.lt _ e.symm).1;omega) (fun e=>by have:=(z.lt _ e.symm).1;omega);have N8:=C9 (aL X d) (aX I _ none) G (fun k H=>by have:=(z.lt _ H).1;omega);have ba:I.heap.size+1<=Q.heap.size:=by have:=G.size;simpa using this
     have bb:c.heap.size<=I.heap.size:=d.size;clear Jh G Jr s nV Kb c0 f0 B;go_wp2_with fail;go_roundg nU.length
     case measure=>omega
     case rel=>
      refine⟨nU,o++[lv],_,f',rfl,by omega,by simp;omega,?_,N7.setOther _ _ (by omega) (by omega),BU.set 0 _,NZ.other (by omega) _,?_,dZ N8 (by omega) _ _,Cj⟩
      ·simp only[World.setCell,sY];omega
      ·exact Grow.kept zN OQ (iM Q (w.heap.size+1) 0 _) (fun k H=>by cases H;omega)
  ·have OT:Hid (jq ts=IX o E):=by
    show _=_;rw[O.out];simp only[kZ];rw[dk hlk];rfl
   have aw:=Grow.seq zN ⟨ps,F,aa⟩;have DJ:wQ c.heap.size c 254 2 cR KR (.slice none 0 0) [] [] []:=⟨rfl,eE _ _ _ _,(fun j q A h=>by simp at h),(fun A h=>by cases h),(fun g h A hA=>by cases hA),n9,rfl⟩;clear O;cases hr4:iC E with
   |error x=>
    obtain⟨n,a⟩:=x;have HE:Hid (jq ts=.error (n,a)):=by
     show _=_;rw[OT.out];unfold IX;rw[hr4]
    have C:Hid _:=hr4;clear hr4 OT
    go_wp2_with (first
     | (go_at_call 111;refine(oF hr).mono ?_;rintro e Z⟨rfl,u⟩;obtain rfl:=u.symm)
     | (go_at_call 110;refine(Il _ _).mono ?_;rintro e Z⟨rfl,u⟩;obtain rfl:=u.symm))
    refine sf (by kernel_rfl) ?_;refine m8 (i:=0) (v:=.pointer (some ⟨w.heap.size+1,1,none⟩)) rfl (by kernel_rfl) (by kernel_rfl) (by kernel_rfl) (fun _ _ _ h=>h) (pS ⟨by rfl,fun w=>by go_simp⟩) ?_;refine m8 (i:=2) (v:=.pointer (some ⟨p,0,none⟩)) rfl (by kernel_rfl) (by kernel_rfl) (by kernel_rfl) (fun _ _ _ h=>h) (pS ⟨by rfl,fun w=>by go_simp⟩) ?_;refine ot (rs:=[1,3]) (by kernel_rfl) (by simp) ?_;refine ki rfl (fun K N=>?_) (ki rfl (fun K N=>?_) nF)
    ·change if _ then Oper.wp _ _ _ c.drew _ _ else _
     go_simp
     refine N _ _ ?_;clear N K;refine ot (rs:=[3]) (by kernel_rfl) (by simp) ?_;refine ki rfl (fun K N=>?_) nF;exact uJ rfl 113 #[.pointer (some ⟨p,0,none⟩)] (by go_simp) (Fu S m L p _ E Y) fun e w2 B=>by obtain⟨rfl,r⟩:=B.err C.out;exact⟨_,rfl,rfl,Ends.no HE.out (aL X r)⟩
    ·change if _ then Oper.wp _ _ _ c.drew _ _ else _
     exact uJ rfl 113 #[.pointer (some ⟨p,0,none⟩)] (by go_simp) (Fu S m L p _ E Y) fun e w2 B=>by obtain⟨rfl,r⟩:=B.err C.out;exact⟨_,rfl,rfl,Ends.no HE.out (aL X r)⟩
   |ok x=>
    obtain⟨rl,nU⟩:=x;have a5:=Q0 hr4;have Gg:=hr.wf.sS;have Cj:Hid (jq ts=Nc o (jv nU.length nU [rl])):=by
     show _=_;rw[OT.out];unfold IX;rw[hr4]
    have C:Hid _:=hr4;clear hr4 OT
    go_wp2_with (first
     | (go_at_call 111;refine(oF hr).mono ?_;rintro e Z⟨rfl,u⟩;obtain rfl:=u.symm)
     | (go_at_call 110;refine(Il _ _).mono ?_;rintro e Z⟨rfl,u⟩;obtain rfl:=u.symm))
    go_region_law (first
     | (refine step_append_lies _ rfl (.tmp 18) (.tmp 21) 103 rfl c.heap.size 254 ai _ 2 40 underlying103 ap az a0 ag rfl (by decide) (.slice none 0 0) 0 [] (by simp[Act.eval]) (s.alloc _) ⟨I.heap.size,0,none⟩ 1 1 (cR (.slice xa xk xc,rl)) (by simp[Act.eval]) rfl (dI (aj.new I _ 254)) (by simp[cR,Value.oneCell']) (by decide) (by unfold maxLen;omega) (by omega) (by have:=d.size;have:c.drew.heap.size=c.heap.size:=rfl;simp;omega) _ rfl ?_;intro Ai zU Q Jh G Jr aH;have BU:=(nV.alloc _).grown G (by simp[Value.ownBlock]);have ak:Q.cell? ⟨w.heap.size+1,1,none⟩=some (.slice none 0 0):=BU.cell 1;have a1:∀i,Q.frozen? ⟨w.heap.size+1,i,none⟩=false:=BU.frozen)
     | (refine fP rfl 113 #[.pointer (some ⟨p,0,none⟩)] (by go_simp) (Fu S m L p _ E Y) ?_;intro e I B;obtain⟨vv,rfl,d,qX,ad⟩:=B.ok C.out;refine⟨_,rfl,?_⟩;obtain⟨vx,rfl,R⟩:=ad;obtain⟨xa,xk,xc,rfl⟩:=eD.form R;have s:=((DJ.kept rM (ow c none) (by simp)).kept rM d (fun k H=>by cases H;omega)).2.1;have nV:=xK.drew.grown d (by simp;omega);have Kb:I.cell? ⟨w.heap.size+1,1,none⟩=some (.slice none 0 0):=nV.cell 1;have NY:=nV.lt))
    all_goals
     have OQ:=wQ.push rM (DJ.kept rM (ow c none) (by simp)) (p:=p) (by omega) (zL0) d (.slice xa xk xc,rl) R (aX I _ none) Jh G Jr;have NZ:=((vz.drew.grown d (by simp;omega)).alloc _).grown G (by simp[Value.ownBlock]);have N7:=(qX.alloc _).grown G (by simp[Value.ownBlock]) (by simp[Value.ownBlock]);have N8:=C9 (aL X d) (aX I _ none) G (by simp[Value.ownBlock]);have ba:I.heap.size+1<=Q.heap.size:=by have:=G.size;simpa using this
     have bb:c.heap.size<=I.heap.size:=d.size;have t:∀b,w.heap.size+2<=b->b<c.heap.size->(Q.setCell ⟨w.heap.size+1,1,none⟩ (.slice (some ⟨Ai,0,none⟩) 1 zU)).heap[b]?=c.heap[b]?:=fun b h1 h2=>by
      rw[zS0 (fun e=>by have e':b=w.heap.size+1:=e;omega),G.block b (by simp;omega) (by simp[Value.ownBlock]),di _ _ _ (by omega),d.block b h2 (by simp;omega)];rfl
     have HK:Hid _:=t;have GS:mH c.heap.size (Q.setCell ⟨w.heap.size+1,1,none⟩ (.slice (some ⟨Ai,0,none⟩) 1 zU)) 254 2 cR KR (.slice (some ⟨Ai,0,none⟩) 1 zU) [rl]:=mH.kept rM OQ (iM Q (w.heap.size+1) 1 _) (fun k H=>by cases H;omega);have J8:=N7.setOther (b:=w.heap.size+1) 1 (.slice (some ⟨Ai,0,none⟩) 1 zU) (by omega) (by omega);have J9:=BU.set 1 (.slice (some ⟨Ai,0,none⟩) 1 zU);have Ka:=NZ.other (b':=w.heap.size+1) (i:=1) (by omega) (.slice (some ⟨Ai,0,none⟩) 1 zU);have gS:=dZ N8 (b:=w.heap.size+1) (by omega) 1 (.slice (some ⟨Ai,0,none⟩) 1 zU);have bw:(Q.setCell ⟨w.heap.size+1,1,none⟩ (.slice (some ⟨Ai,0,none⟩) 1 zU)).heap.size=Q.heap.size:=by simp[World.setCell]
     clear Jh G Jr s nV Kb c0 c1 f0 B t OQ N7 N8 NZ;go_wp2_with fail
     go_loopg [] nU.length (fun k wr=>∃(M:List Tk)(D:List Lx.Rl)(v:Value)(f:Nat),M.length=k/\M.length<=f/\D.length+M.length<=ts.length/\c.heap.size<=wr.heap.size/\Rd S m L p wr M 0/\aj wr (w.heap.size+1) #[.slice T W U,v] 105/\aj wr w.heap.size #[.slice none 0 0,.slice none 0 0] 105 /\
       mH c.heap.size wr 254 2 cR KR v D/\w.grownBy wr (some p)/\Hid (∀b,w.heap.size+2<=b->b<c.heap.size->wr.heap[b]?=c.heap[b]?)/\Hid (jq ts=Nc o (jv f M D)))
     case atStart=>exact⟨nU,[rl],_,nU.length,rfl,zL0,by simp;omega,by omega,J8,J9,Ka,GS,gS,HK,Cj⟩
     case round=>
      obtain⟨M,D,v,f2,bi,bm,bu,bg,J,OU,OV,ac,am,t,y⟩:=hrel;clear J8 J9 Ka GS gS HK Cj BU ak a1 Y X DJ d qX R;have bf:=J.wf.ne;obtain⟨al,rfl⟩:∃f',f2=f'+1:=⟨f2-1,by omega⟩;obtain⟨ao,F2,DI⟩:=ac;have l:=DI.2.1;obtain⟨Aj,Ak,Al,rfl⟩:=EY l;have q0:wr.cell? ⟨w.heap.size+1,0,none⟩=some (.slice T W U):=OU.cell 0;have q1:wr.cell? ⟨w.heap.size+1,1,none⟩=some (.slice Aj Ak Al):=OU.cell 1;have qf:∀i,wr.frozen? ⟨w.heap.size+1,i,none⟩=false:=OU.frozen
      by_cases hend:Lx.hd M=aT
      ·have HP:Hid (jq ts=.ok (⟨o,D⟩,M)):=by
        show _=_;rw[y.out];simp only[jv];rw[de hend];rfl
       have Gh:Hid (Lx.hd M=aT):=hend;clear hend y;have e0:wr.cell? ⟨w.heap.size,0,none⟩=some (.slice none 0 0):=OV.cell 0;have e1:wr.cell? ⟨w.heap.size,1,none⟩=some (.slice none 0 0):=OV.cell 1;have ef:∀i,wr.frozen? ⟨w.heap.size,i,none⟩=false:=OV.frozen;have a2:=mH.seq ⟨ao,F2,DI⟩
       go_wp2_with (first
        | (go_at_call 114;refine(wN J aT).mono ?_;rintro e Z⟨rfl,u⟩;obtain rfl:=u.symm;rw[fh Gh.out]))
       refine fx (v:=.agg #[.slice T W U,.slice Aj Ak Al]) (by simp[results,results71,go_sem,e0,e1]) rfl ?_;refine Ends.yes HP.out (dZ (dZ am (zL0) _ _) (zL0) _ _) ((J.setOther _ _ (by omega) (by omega)).setOther _ _ (by omega) (by omega)) ⟨_,_,rfl,?_,?_⟩
       ·have V:∀b,In (w.heap.size+2) c.heap.size b->((wr.setCell ⟨w.heap.size,0,none⟩ (.slice T W U)).setCell ⟨w.heap.size,1,none⟩ (.slice Aj Ak Al)).heap[b]?=c.heap[b]?:=fun b P=>by
         have h1:=P.1;rw[zS0 (fun e=>by have e':b=w.heap.size:=e;omega),zS0 (fun e=>by have e':b=w.heap.size:=e;omega)];exact t.out b P.1 P.2
        have ab:∀b,In (w.heap.size+2) c.heap.size b->In w.heap.size ((wr.setCell ⟨w.heap.size,0,none⟩ (.slice T W U)).setCell ⟨w.heap.size,1,none⟩ (.slice Aj Ak Al)).heap.size b:=fun b P=>by
         have h1:=P.1;have h2:=P.2;exact⟨by omega,by simp[World.setCell];omega⟩
        exact aw.move V ab fun _ _ h=>zN _ _ _ _ _ _ V ab h
       ·have V:∀b,In c.heap.size wr.heap.size b->((wr.setCell ⟨w.heap.size,0,none⟩ (.slice T W U)).setCell ⟨w.heap.size,1,none⟩ (.slice Aj Ak Al)).heap[b]?=wr.heap[b]?:=fun b P=>by
         have h1:=P.1;rw[zS0 (fun e=>by have e':b=w.heap.size:=e;omega),zS0 (fun e=>by have e':b=w.heap.size:=e;omega)]
        have ab:∀b,In c.heap.size wr.heap.size b->In w.heap.size ((wr.setCell ⟨w.heap.size,0,none⟩ (.slice T W U)).setCell ⟨w.heap.size,1,none⟩ (.slice Aj Ak Al)).heap.size b:=fun b P=>by
         have h1:=P.1;have h2:=P.2;exact⟨by omega,by simp[World.setCell];omega⟩
        exact a2.move V ab fun _ _ _ hA h=>rM _ _ _ _ _ _ (fun b P=>V b (hA b P)) (fun _ h=>h) h
      ·have Gh:Hid (¬Lx.hd M=aT):=hend
       clear hend;have Y:=J.drew;have X:=aL am (ow wr (some p));cases Ah:iC M with
       |error x=>
        obtain⟨n,a⟩:=x;have HE:Hid (jq ts=.error (n,a)):=by
         show _=_;rw[y.out];simp only[jv];rw[dk Gh.out,Ah];rfl
        have OW:Hid _:=Ah;clear Ah y
        go_wp2_with (first
         | (go_at_call 114;refine(wN J aT).mono ?_;rintro e Z⟨rfl,u⟩;obtain rfl:=u.symm;rw[eV Gh.out]))
        refine sf (by kernel_rfl) ?_;refine m8 (i:=0) (v:=.pointer (some ⟨w.heap.size+1,1,none⟩)) rfl (by kernel_rfl) (by kernel_rfl) (by kernel_rfl) (fun _ _ _ h=>h) (pS ⟨by rfl,fun w=>by go_simp⟩) ?_;refine m8 (i:=2) (v:=.pointer (some ⟨p,0,none⟩)) rfl (by kernel_rfl) (by kernel_rfl) (by kernel_rfl) (fun _ _ _ h=>h) (pS ⟨by rfl,fun w=>by go_simp⟩) ?_;refine ot (rs:=[1,3]) (by kernel_rfl) (by simp) ?_;refine ki rfl (fun K N=>?_) (ki rfl (fun K N=>?_) nF)
        ·change if _ then Oper.wp _ _ _ wr.drew _ _ else _
         go_simp
         refine N _ _ ?_;clear N K;refine ot (rs:=[3]) (by kernel_rfl) (by simp) ?_;refine ki rfl (fun K N=>?_) nF;exact uJ rfl 113 #[.pointer (some ⟨p,0,none⟩)] (by go_simp) (Fu S m L p _ M Y) fun e w2 B=>by obtain⟨rfl,r⟩:=B.err OW.out;exact⟨_,rfl,rfl,Ends.no HE.out (aL X r)⟩
        ·change if _ then Oper.wp _ _ _ wr.drew _ _ else _
         exact uJ rfl 113 #[.pointer (some ⟨p,0,none⟩)] (by go_simp) (Fu S m L p _ M Y) fun e w2 B=>by obtain⟨rfl,r⟩:=B.err OW.out;exact⟨_,rfl,rfl,Ends.no HE.out (aL X r)⟩
       |ok x=>
        obtain⟨rq,U2⟩:=x;have bx:=Q0 Ah;have bt:=J.wf.sS;have a8:Hid (jq ts=Nc o (jv al U2 (D++[rq]))):=by
         show _=_;rw[y.out];simp only[jv];rw[dk Gh.out,Ah]
        have OW:Hid _:=Ah;clear Ah y
        go_wp2_with (first
         | (go_at_call 114;refine(wN J aT).mono ?_;rintro e Z⟨rfl,u⟩;obtain rfl:=u.symm;rw[eV Gh.out]))
        go_region_law (first
         | (refine step_append_lies _ rfl (.tmp 30) (.tmp 33) 103 rfl c.heap.size 254 ai _ 2 40 underlying103 ap az a0 ag rfl (by decide) (.slice Aj Ak Al) D.length (ao.flatMap cR) (by simp[Act.eval]) (FM.alloc _) ⟨w7.heap.size,0,none⟩ 1 1 (cR (.slice af ar an,rq)) (by simp[Act.eval]) rfl (dI (aj.new w7 _ 254)) (by simp[cR,Value.oneCell']) (by decide) (by unfold maxLen;omega) (by omega) (by have:=jI.size;have:wr.drew.heap.size=wr.heap.size:=rfl;simp;omega) _ rfl ?_;intro bo bv Kc av Bt aq bl;have TK:=(OX.alloc _).grown Bt (fun e=>by have:=(l.lt _ e.symm).1;omega);have bp:Kc.cell? ⟨w.heap.size+1,1,none⟩=some (.slice Aj Ak Al):=TK.cell 1;have br:∀i,Kc.frozen? ⟨w.heap.size+1,i,none⟩=false:=TK.frozen)
         | (refine fP rfl 113 #[.pointer (some ⟨p,0,none⟩)] (by go_simp) (Fu S m L p _ M Y) ?_;intro e w7 B;obtain⟨vv,rfl,jI,D7,aF⟩:=B.ok OW.out;refine⟨_,rfl,?_⟩;obtain⟨vx,rfl,ah⟩:=aF;obtain⟨af,ar,an,rfl⟩:=eD.form ah;have FM:=((DI.kept rM (ow wr none) (by simp)).kept rM jI (fun k H=>by cases H;omega)).2.1;have OX:=OU.drew.grown jI (by simp;omega);have aG:w7.cell? ⟨w.heap.size+1,1,none⟩=some (.slice Aj Ak Al):=OX.cell 1;have bj:=OX.lt))
        all_goals
         have aP:=wQ.push rM (DI.kept rM (ow wr none) (by simp)) (p:=p) (by omega) (by have:wr.drew.heap.size=wr.heap.size:=rfl;omega) jI (.slice af ar an,rq) ah (aX w7 _ none) av Bt aq;have a6:=((OV.drew.grown jI (by simp;omega)).alloc _).grown Bt (fun e=>by have:=(l.lt _ e.symm).1;omega);have a7:=(D7.alloc _).grown Bt (fun e=>by have:=(l.lt _ e.symm).1;omega) (fun e=>by have:=(l.lt _ e.symm).1;omega);have a9:=C9 (aL X jI) (aX w7 _ none) Bt (fun k H=>by have:=(l.lt _ H).1;omega);have bh:w7.heap.size+1<=Kc.heap.size:=by have:=Bt.size;simpa using this
         have bz:wr.heap.size<=w7.heap.size:=jI.size;have ax:∀b,w.heap.size+2<=b->b<c.heap.size->Kc.heap[b]?=c.heap[b]?:=fun b h1 h2=>by
          rw[Bt.block b (by simp;omega) (fun e=>by have:=(l.lt _ e.symm).1;omega),di _ _ _ (by omega),jI.block b (by have:wr.drew.heap.size=wr.heap.size:=rfl;omega) (by simp;omega)];exact t.out b h1 h2
         have aW:Hid _:=ax;clear av Bt aq FM OX aG q0 q1 qf B ax;go_wp2_with fail;go_roundg U2.length
         case measure=>omega
         case rel=>
          refine⟨U2,D++[rq],_,al,rfl,by omega,by simp;omega,?_,a7.setOther _ _ (by omega) (by omega),TK.set 1 _,a6.other (by omega) _,?_,dZ a9 (by omega) _ _,?_,a8⟩
          ·simp only[World.setCell,sY];omega
          ·exact mH.kept rM aP (iM Kc (w.heap.size+1) 1 _) (fun k H=>by cases H;omega)
          ·intro b h1 h2
           rw[zS0 (fun e=>by have e':b=w.heap.size+1:=e;omega)];exact aW.out b h1 h2
end Go.Proofs.YtagkodkijkpemaaGreatDoor

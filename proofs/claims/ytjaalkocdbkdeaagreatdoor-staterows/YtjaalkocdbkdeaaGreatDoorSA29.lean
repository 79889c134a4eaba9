import Derived.Test.YtjaalkocdbkdeaaGreatDoorSA28
set_option maxHeartbeats 8000000
set_option maxRecDepth 1000000
namespace Go.Proofs.YtjaalkocdbkdeaaGreatDoor
open Lx Go.Proofs.Tryz
open Go.RowKit Tr
namespace Lx
def ja(names:List ByteArray)(s:List Bool×List Nat)(us:List ByteArray):List Bool×List Nat:=us.foldl (vis names) s
theorem Gc(names:List ByteArray):∀(us:List ByteArray)(s:List Bool×List Nat),(ja names s us).1=iQ names us s.1
 | [],_=>rfl
 |u::us,s=>by
  show (ja names (vis names s u) us).1=iQ names us (s.1.set (mY names u) true);rw[Gc names us];congr 1;unfold vis
  split
  ·rename_i h;exact(OM fun _=>h).symm
  ·rfl
theorem Pf:∀{bs:List Bool}{i:Nat},i<bs.length->aS bs i=false->dz (bs.set i true)=dz bs+1
 |b::bs,0,_,h=>by
  have hb:b=false:=h;subst hb;simp[dz]
 |b::bs,i+1,hl,h=>by
  have ih:=Pf (bs:=bs) (i:=i) (by simpa using hl) (by simpa [aS]using h);unfold dz at ih|-;rw[List.set_cons_succ,List.countP_cons,List.countP_cons,ih];omega
theorem KG(names:List ByteArray):∀(us:List ByteArray)(s:List Bool×List Nat),(∀u∈us,fix names u<s.1.length)->∃new,(ja names s us).2=s.2++new/\(∀i∈new,i<s.1.length/\aS (ja names s us).1 i=true)/\(∀i,aS (ja names s us).1 i=true->aS s.1 i=true\/i∈new)/\new.length+dz s.1=dz (ja names s us).1
 | [],s,_=>⟨[],by simp[ja],fun i h=>(by cases h),fun i h=>.inl h,by simp[ja]⟩
 |u::us,s,h=>by
  have hu:=h u List.mem_cons_self;cases hb:aS s.1 (fix names u) with
  |true=>
   have e:vis names s u=s:=if_pos hb;have e2:ja names s (u::us)=ja names s us:=by show ja names (vis names s u) us=_;rw[e]
   rw[e2];exact KG names us s fun x hx=>h x (List.mem_cons_of_mem _ hx)
  |false=>
   have e:vis names s u=(s.1.set (fix names u) true,s.2++[fix names u]):=if_neg (by rw[hb];decide);have e2:ja names s (u::us)=ja names (s.1.set (fix names u) true,s.2++[fix names u]) us:=by show ja names (vis names s u) us=_;rw[e]
   obtain⟨new,h1,h2,h3,h4⟩:=KG names us (s.1.set (fix names u) true,s.2++[fix names u]) fun x hx=>by
    rw[List.length_set];exact h x (List.mem_cons_of_mem _ hx)
   rw[e2];refine⟨fix names u::new,by rw[h1];simp,?_,?_,?_⟩
   ·intro i hi
    rcases List.mem_cons.1 hi with rfl|hi
    ·refine⟨hu,?_⟩
     rw[Gc];refine(Eh names us _).2 _ ?_;rw[at_set,if_pos ⟨rfl,hu⟩]
    ·have:=h2 i hi
     rw[List.length_set]at this;exact this
   ·intro i hi
    rcases h3 i hi with h'|h'
    ·have h'':aS (s.1.set (fix names u) true) i=true:=h'
     rw[at_set]at h''
     split at h''
     ·rename_i hc;exact .inr (by rw[hc.1];exact List.mem_cons_self)
     ·exact .inl h''
    ·exact .inr (List.mem_cons_of_mem _ h')
   ·have h4':new.length+dz (s.1.set (fix names u) true)=_:=h4
    rw[Pf hu hb]at h4';rw[List.length_cons];omega
structure RI(g:Gr)(s0:List Bool)(s:List Bool×List Nat):Prop where
 len:s.1.length=g.rules.length
 op:∀i∈s.2,i<g.rules.length/\aS s.1 i=true
 done:∀i,aS s.1 i=true->i∈s.2\/Av g i s.1
 has:cZ s0 s.1
 least:∀T,T.length=g.rules.length->cZ s0 T->(∀i,i<g.rules.length->Av g i T)->cZ s.1 T
theorem RI.step{g:Gr}{s0 bs:List Bool}{op:List Nat}{r:Nat}(h:RI g s0 (bs,op++[r]))(hu:∀u∈oC (lD g r),fix (aK g) u<bs.length):RI g s0 (ja (aK g) (bs,op) (oC (lD g r)))/\(ja (aK g) (bs,op) (oC (lD g r))).2.length+dz bs=op.length+dz (ja (aK g) (bs,op) (oC (lD g r))).1:=by
 obtain⟨h1,h2,h3,h4,h5⟩:=h;obtain⟨new,n1,n2,n3,n4⟩:=KG (aK g) (oC (lD g r)) (bs,op) hu;have hr:=h2 r (by simp);have hm:(ja (aK g) (bs,op) (oC (lD g r))).1=jL g r bs:=by
  rw[Gc,jL,if_pos hr.2]
 have hle:cZ bs (ja (aK g) (bs,op) (oC (lD g r))).1:=by rw[Gc];exact Eh _ _ _
 refine⟨⟨hle.1.symm.trans h1,?_,?_,h4.trans hle,?_⟩,?_⟩
 ·intro i hi
  rw[n1]at hi;rcases List.mem_append.1 hi with hi|hi
  ·have:=h2 i (by simp[hi])
   exact⟨this.1,hle.2 i this.2⟩
  ·have:=n2 i hi
   exact⟨by rw[<-h1];exact this.1,this.2⟩
 ·intro i hi
  rw[n1];rcases n3 i hi with h'|h'
  ·rcases h3 i h' with h'' | h''
   ·rcases List.mem_append.1 h'' with h'' | h''
    ·exact .inl (List.mem_append.2 (.inl h''))
    ·right
     rw[List.mem_singleton.1 h''];intro _ b hb hlt;rw[Gc];exact OO _ _ _ b hb (hu b hb)
   ·right
    intro _ b hb hlt;exact hle.2 _ (h'' h' b hb (by rw[hle.1];exact hlt))
  ·exact .inl (List.mem_append.2 (.inr h'))
 ·intro T hT h6 h7
  rw[hm];exact V8 g T (fun i hi=>h7 i (by omega)) r bs (h5 T hT h6 h7)
 ·rw[n1,List.length_append]
  have n4':new.length+dz bs=_:=n4;show op.length+new.length+dz bs=op.length+_;omega
theorem RI.end{g:Gr}{s0 bs:List Bool}(h:RI g s0 (bs,[])):u6 (Av g) g.rules.length s0 bs:=by
 refine⟨h.len,h.has,fun i hi=>?_,h.least⟩;intro ha;rcases h.done i ha with h'|h'
 ·cases h'
 ·exact h' ha
theorem RI.start{g:Gr}(hn:0<g.rules.length):RI g ((List.replicate g.rules.length false).set 0 true) ((List.replicate g.rules.length false).set 0 true,[0]):=by
 refine⟨by simp,?_,?_,cZ.refl _,fun T _ h _=>h⟩
 ·intro i hi
  rw[List.mem_singleton.1 hi];exact⟨hn,by rw[at_set,if_pos ⟨rfl,by simpa using hn⟩]⟩
 ·intro i hi
  rw[at_set]at hi
  split at hi
  ·rename_i hc;exact .inl (by rw[<-hc.1];simp)
  ·unfold aS at hi
   rw[List.getElem?_replicate]at hi
   split at hi <;> cases hi
theorem OX:∀(d:Nat)(l:List Alt),((cu d l).filter fun x=>decide (x.kind=0)).map It.name=qB d l
 |0,_=>rfl
 |d+1,l=>by
  rw[NV,tY,Bv,List.map_flatMap];congr 1;funext a;unfold pX;rw[Bv,List.map_flatMap];congr 1;funext x;have ih:=OX d x.alts;unfold sJ pR;rw[List.filter_cons,<-ih]
  by_cases h:x.kind=0
  ·simp[h]
  ·simp[h]
end Lx
theorem ahG(ar:Array Value)(w:World):(callFunc 83 ar).run prog w=.ok (.enter 83 ar) w:=by kernel_rfl
theorem ahH(ar:Array Value)(w:World):(callFunc 84 ar).run prog w=.ok (.enter 84 ar) w:=by kernel_rfl
theorem aiC{w:World}{B:Nat}{a:Option Addr}{c:Nat}{op:List Nat}{r:Nat}(h:w.ownsRow B 3 1 (.slice a (op++[r]).length c) (op++[r]).length (gK (op++[r]))):∃g,a=some ⟨g,0,none⟩/\op.length+1<=c/\c<=maxLen/\g<w.heap.size/\w.ownsRow B 3 1 (.slice (some ⟨g,0,none⟩) op.length c) op.length (gK op)/\w.cell? ⟨g,op.length,none⟩=some (.int .i64 (r:Int)):=by
 rcases h.2 with ⟨h1,h2⟩|⟨g,cap,cur,h1,h2,h3,h4,h5,h6,h7⟩
 ·simp at h2
 ·injection h1 with e1 e2 e3
  subst e1 e3;have hc:=h.cellAt op.length (by simp);simp at h4;refine⟨g,rfl,h4,h5,(Array.getElem?_eq_some_iff.1 h3).1,⟨by simp[gK],.inr ⟨g,c,cur,rfl,h2,h3,by omega,h5,h6,?_⟩⟩,?_⟩
  ·have h8:=congrArg (List.take op.length) h7
   rw[List.take_take]at h8;rw[zM]at h8;rw[Nat.mul_one];have e4:min op.length ((op++[r]).length*1)=op.length:=by simp
   rw[e4]at h8;rw[h8];have:op.length=(gK op).length:=(yj op).symm;rw[this,List.take_left]
  ·have e5:(gK (op++[r]))[op.length]?=some (.int .i64 (r:Int)):=by rw[zM,List.getElem?_append_right (by rw[yj];exact zL0),yj,Nat.sub_self];rfl
   rw[e5]at hc;exact hc
def aeQ(g:Lx.Gr)(w:World)(e:Ending)(w':World):Prop:=∃o bs,e=.returned (.slice (some ⟨o,0,none⟩) g.rules.length g.rules.length)/\w.heap.size<=o/\aj w' o (bF bs) 4/\u6 (Av g) g.rules.length ((List.replicate g.rules.length false).set 0 true) bs/\Below w.heap.size w w'
theorem aek{F:Nat->Prop}{w:World}{vR:Value}{g:Lx.Gr}(h:mo F w vR g.rules){B:Nat}{num:ByteArray->Int}(hM:SMap w B num)(Hg:∀b,b∈aK g->num b=(Lx.fix (aK g) b:Int))(hu:pW g=none)(hn:0<g.rules.length)(hrn:g.rules.length<=2001):
  Calls prog 44 #[vR,.map (some B)] w (aeQ g w):=by
 obtain⟨a,c,rfl,hm⟩:=h.len;have hlB:=hM.lt;have hmk:=fun w=>NW hrn w
 have hb0:(bF (List.replicate g.rules.length false))[0]?=some (.bool false):=by rw[qx _ (by simpa using hn)];simp[aS,hn]
 go_enter func44,ntmps44;go_wp2_with fail;have e4:w.heap.size+1+1+1+1=w.heap.size+4:=rfl;have e3:w.heap.size+1+1+1=w.heap.size+3:=rfl;have e2:w.heap.size+1+1=w.heap.size+2:=rfl;rw[e4,e3,e2];clear e4 e3 e2 hmk;obtain⟨W,hW⟩:∃W,W=((((w.alloc (.cells #[.map (some B)] 62)).alloc (.cells ((bF (List.replicate g.rules.length false)).setIfInBounds 0 (.bool true)) 4)).alloc (.cells #[.slice (some ⟨w.heap.size+1,0,none⟩) g.rules.length g.rules.length] 48)).alloc (.cells #[.int .i64 0] 3)).alloc (.cells #[.slice (some ⟨w.heap.size+3,0,none⟩) 1 1] 43):=⟨_,rfl⟩;rw[<-hW];have Qy:RS w.heap.size g.rules.length B num w W ((List.replicate g.rules.length false).set 0 true,[0]):=by
  have hb:Below w.heap.size w W:=by rw[hW];exact(((((Below.refl _ _).alloc (zL0) _).alloc (by simp) _).alloc (by simp;omega) _).alloc (by simp;omega) _).alloc (by simp;omega) _
  refine⟨?_,hM.move (hb.block B hlB),hlB,?_,?_,⟨.slice (some ⟨w.heap.size+3,0,none⟩) 1 1,?_,⟨rfl,.inr ⟨w.heap.size+3,1,#[.int .i64 0],rfl,Nat.zero_le _,?_,zL0,by decide,rfl,rfl⟩⟩,fun g hg=>.inl (Option.some.inj hg).symm⟩,by show _=_;simp,hb⟩
  ·rw[hW];exact((((aj.new w _ 62).alloc _).alloc _).alloc _).alloc _
  ·rw[hW,<-zL]
   have:=(((aj.new (w.alloc (.cells #[.map (some B)] 62)) ((bF (List.replicate g.rules.length false)).setIfInBounds 0 (.bool true)) 4).alloc (.cells #[.slice (some ⟨w.heap.size+1,0,none⟩) g.rules.length g.rules.length] 48)).alloc (.cells #[.int .i64 0] 3)).alloc (.cells #[.slice (some ⟨w.heap.size+3,0,none⟩) 1 1] 43);simpa using this
  ·rw[hW]
   have:=((aj.new ((w.alloc (.cells #[.map (some B)] 62)).alloc (.cells ((bF (List.replicate g.rules.length false)).setIfInBounds 0 (.bool true)) 4)) #[.slice (some ⟨w.heap.size+1,0,none⟩) g.rules.length g.rules.length] 48).alloc (.cells #[.int .i64 0] 3)).alloc (.cells #[.slice (some ⟨w.heap.size+3,0,none⟩) 1 1] 43);simpa using this
  ·rw[hW]
   have:=aj.new ((((w.alloc (.cells #[.map (some B)] 62)).alloc (.cells ((bF (List.replicate g.rules.length false)).setIfInBounds 0 (.bool true)) 4)).alloc (.cells #[.slice (some ⟨w.heap.size+1,0,none⟩) g.rules.length g.rules.length] 48)).alloc (.cells #[.int .i64 0] 3)) #[.slice (some ⟨w.heap.size+3,0,none⟩) 1 1] 43;simpa using this
  ·rw[hW]
   have k3:aj (((((w.alloc (.cells #[.map (some B)] 62)).alloc (.cells ((bF (List.replicate g.rules.length false)).setIfInBounds 0 (.bool true)) 4)).alloc (.cells #[.slice (some ⟨w.heap.size+1,0,none⟩) g.rules.length g.rules.length] 48)).alloc (.cells #[.int .i64 0] 3)).alloc (.cells #[.slice (some ⟨w.heap.size+3,0,none⟩) 1 1] 43)) (w.heap.size+3) #[.int .i64 0] 3:=by
    have:=(aj.new (((w.alloc (.cells #[.map (some B)] 62)).alloc (.cells ((bF (List.replicate g.rules.length false)).setIfInBounds 0 (.bool true)) 4)).alloc (.cells #[.slice (some ⟨w.heap.size+1,0,none⟩) g.rules.length g.rules.length] 48)) #[.int .i64 0] 3).alloc (.cells #[.slice (some ⟨w.heap.size+3,0,none⟩) 1 1] 43);simpa using this
   exact k3
 have Qz:=Lx.RI.start hn;clear hW;obtain⟨s0,hs0⟩:∃s0,s0=(List.replicate g.rules.length false).set 0 true:=⟨_,rfl⟩;have Fe:Hid (s0=(List.replicate g.rules.length false).set 0 true):=hs0;rw[<-hs0]at Qy Qz;clear hs0
 go_loopg [] (g.rules.length+1) (fun k wr=>∃s:List Bool×List Nat,s.2.length+(g.rules.length-dz s.1)<=k/\s.2.length+(g.rules.length-dz s.1)<=g.rules.length+1/\RS w.heap.size g.rules.length B num w wr s/\Lx.RI g s0 s)
 case atStart=>exact⟨(s0,[0]),by simp;omega,by simp;omega,Qy,Qz⟩
 case round=>
  clear Qy Qz;obtain⟨⟨bs,opx⟩,hk,hk2,hRS,MN⟩:=hrel;obtain⟨h1,h2,h3,h4,h5,⟨vo,h6,h7,h8⟩,h9,h10⟩:=id hRS;have hsr:w.heap.size+5<=wr.heap.size:=h6.lt;have hcb:=Eg bs;have hlb:Hid (bs.length=g.rules.length):=h9;rcases List.eq_nil_or_concat opx with hnil|⟨op,r,hop⟩
  ·subst hnil
   obtain⟨oa,oc,tC,-⟩:=aF h7;subst tC;have c4:wr.cell? ⟨w.heap.size+4,0,none⟩=some (.slice oa 0 oc):=h6.cell 0;have c2:wr.cell? ⟨w.heap.size+2,0,none⟩=some (.slice (some ⟨w.heap.size+1,0,none⟩) g.rules.length g.rules.length):=h5.cell 0;go_wp2_with fail;go_ret;exact⟨w.heap.size+1,bs,rfl,Nat.le_succ _,h4,Fe.out▸MN.end,h10⟩
  ·rw[List.concat_eq_append]at hop
   subst hop;obtain⟨oa,oc,tC,uO⟩:=aF h7;subst tC;obtain⟨og,rfl,hoc,aj1,log,how,amr⟩:=aiC h7;have hrr:=MN.op r (by simp);have c4:wr.cell? ⟨w.heap.size+4,0,none⟩=some (.slice (some ⟨og,0,none⟩) (op.length+1) oc):=by have:=h6.cell 0;simpa using this
   have f4:∀i,wr.frozen? ⟨w.heap.size+4,i,none⟩=false:=h6.frozen;unfold maxLen at aj1;have ams:op.length+1+(g.rules.length-dz bs)<=gk:=by simpa using hk
   have amt:op.length+1+(g.rules.length-dz bs)<=g.rules.length+1:=by simpa using hk2
   have QA:=hrr.1;obtain⟨gb,cap,va,hv,hFg,hA,d0,d1⟩:=h.at QA;cases hv;obtain⟨sa,sc,hva,-⟩:=ay.len hA;subst hva;have ny:gb<w.heap.size:=h.lt gb hFg;have Fg:wr.cell? ⟨gb,r*2+1,none⟩=some (.slice sa g.rules[r].alts.length sc):=(World.cell?_of_block (w:=w) (h10.block gb ny)).trans d1;have Hl:Lx.unk g (dw 9 g.rules[r].alts)=none:=Ga hu _ (List.getElem_mem QA);have halt:lD g r=g.rules[r].alts:=F7 QA;have hnm:∀it,it∈cu 9 g.rules[r].alts->it.kind=0->it.name∈aK g:=fun it hi hk=>iA.1 (Gj Hl hi hk)
   have hfl:∀b,b∈aK g->Lx.fix (aK g) b<g.rules.length:=fun b hb=>by
    have:=(zT (iA.2 hb)).2;simpa [aK]using this
   obtain⟨w1,hw1⟩:∃w1,w1=wr.setCell ⟨w.heap.size+4,0,none⟩ (.slice (some ⟨og,0,none⟩) op.length oc):=⟨_,rfl⟩;have hog:og=w.heap.size+3\/w.heap.size+5<=og:=h8 og rfl;have Z6:RS w.heap.size g.rules.length B num w w1 (bs,op):=by
    rw[hw1];refine⟨h1.other (by omega) _,h2.move (zS0 (by show B≠w.heap.size+4;omega)),h3,h4.other (by omega) _,h5.other (by omega) _,⟨_,h6.set 0 _,aC how fun g hg=>zS0 (fun e=>?_),fun g hg=>?_⟩,h9,h10.setCell (p:=⟨w.heap.size+4,0,none⟩) (by show w.heap.size<=w.heap.size+4;omega) _⟩
    ·have e':g=w.heap.size+4:=e
     have e'':og=g:=Option.some.inj hg;omega
    ·have e'':og=g:=Option.some.inj hg
     rw[<-e''];exact hog
   have HST:Hid (Lx.RI g s0 (ja (aK g) (bs,op) (oC (lD g r)))/\(ja (aK g) (bs,op) (oC (lD g r))).2.length+dz bs=op.length+dz (ja (aK g) (bs,op) (oC (lD g r))).1):=by
    refine Lx.RI.step MN fun u hu'=>?_
    rw[halt]at hu';have e:oC g.rules[r].alts=qB 9 g.rules[r].alts:=rfl;rw[e,<-OX]at hu';obtain⟨it,hit,rfl⟩:=List.mem_map.1 hu';obtain⟨hi1,hi2⟩:=List.mem_filter.1 hit;have:=hfl _ (hnm it hi1 (of_decide_eq_true hi2));rw[hlb.out];exact this
   have q1:=Yg 9 83 84 #[.pointer (some ⟨w.heap.size,0,none⟩),.pointer (some ⟨w.heap.size+2,0,none⟩),.pointer (some ⟨w.heap.size+4,0,none⟩)] (fun it=>decide (it.kind=0)) F w (fun L w'=>(∀p∈L,Lx.fix (aK g) p.2.name<bs.length)/\RS w.heap.size g.rules.length B num w w' (ja (aK g) (bs,op) (L.map fun p=>p.2.name))) (fun p=>p.2.kind=0->p.2.name∈aK g) ahG ahH
    (fun w' n m it _ hi=>aeJ hi)
    (fun w' L n m it hI _ hi hwd hq=>by
     have hk0:it.kind=0:=of_decide_eq_true hwd;have hmem:=hq hk0;have hlt:=hfl _ hmem;obtain⟨new,n1,-,-,n4⟩:=KG (aK g) (L.map fun p=>p.2.name) (bs,op) (fun u hu'=>by
      obtain⟨p,hp,rfl⟩:=List.mem_map.1 hu';exact hI.1 p hp)
     have hcl:=Eg (ja (aK g) (bs,op) (L.map fun p=>p.2.name)).1;have aj2:=hI.2.len.out;have n1':(ja (aK g) (bs,op) (L.map fun p=>p.2.name)).2.length=op.length+new.length:=by rw[n1,List.length_append]
     refine(aeK hI.2 hi (Hg _ hmem) hlt (by omega)).mono ?_;rintro e w''⟨rfl,hR⟩;refine⟨rfl,fun p hp=>?_,?_⟩
     ·rcases List.mem_append.1 hp with hp | hp
      ·exact hI.1 p hp
      ·rw[List.mem_singleton.1 hp,hlb.out];exact hlt
     ·have e:ja (aK g) (bs,op) ((L++[((⟨n,m*4,none⟩:Addr),it)]).map fun p=>p.2.name)=Lx.vis (aK g) (ja (aK g) (bs,op) (L.map fun p=>p.2.name)) it.name:=by
       unfold ja;rw[List.map_append,List.foldl_append];rfl
      rw[e];exact hR)
    (fun L w' hI b hb=>hI.2.fr.block b (h.lt b hb))
    _ _ hA (fun p hp hk0=>hnm p.2 (by rw[<-Em hA];exact List.mem_map.2 ⟨p,hp,rfl⟩) hk0) w1 [] ⟨fun p hp=>(by cases hp),Z6⟩
   have EW:((aT 9 w (.slice sa g.rules[r].alts.length sc) g.rules[r].alts).filter fun p=>decide (p.2.kind=0)).map (fun p=>p.2.name)=oC (lD g r):=by
    rw[halt];have e:oC g.rules[r].alts=qB 9 g.rules[r].alts:=rfl;rw[e,<-OX,<-Em hA,List.filter_map,List.map_map];rfl
   rw[List.nil_append,EW]at q1;clear hk hk2 uO h7 EW hnm hfl halt Hl hRS MN Z6 how h1 h2 h4 h5 h6 hA d0 hb0;generalize g.rules[r].alts=al at Fg q1;generalize ja (aK g) (bs,op) (oC (lD g r))=s2 at q1 HST;go_wp2_with fail;rw[<-hw1];refine q1.mono ?_;rintro e w2⟨rfl,-,hR2⟩;have hst:=HST.out;have aj2:=Eg s2.1;have hln:=hR2.len.out;have amu:=hlb.out;have hm1:s2.2.length+(g.rules.length-dz s2.1)<=op.length+(g.rules.length-dz bs):=by omega
   go_wp2_with fail;go_roundg (s2.2.length+(g.rules.length-dz s2.1))
   case measure=>omega
   case rel=>exact⟨s2,zL0,by omega,hR2,hst.1⟩
theorem ahI(ar:Array Value)(w:World):(callFunc 85 ar).run prog w=.ok (.enter 85 ar) w:=by kernel_rfl
structure ES(lo n B:Nat)(num:ByteArray->Int)(w0 w:World)(bs:List Bool):Prop where
 nb:aj w lo #[.map (some B)] 62
 mp:SMap w B num
 bl:B<lo
 fo:aj w (lo+1) (bF bs) 4
 fv:aj w (lo+2) #[.slice (some ⟨lo+1,0,none⟩) n n] 48
 len:Hid (bs.length=n)
 fr:Below lo w0 w
theorem ES.below{lo n B:Nat}{num:ByteArray->Int}{w0 w w':World}{bs:List Bool}(h:ES lo n B num w0 w bs)(hb:Below w.heap.size w w'):ES lo n B num w0 w' bs:=by
 have l2:=h.fv.lt;exact⟨(hb.block _ (by omega)).trans h.nb,h.mp.move (hb.block _ (by have:=h.bl;omega)),h.bl,(hb.block _ (by omega)).trans h.fo,(hb.block _ l2).trans h.fv,h.len,h.fr.trans (hb.mono (by omega))⟩
theorem aeR{lo n B:Nat}{num:ByteArray->Int}{w0 w:World}{bs:List Bool}(h:ES lo n B num w0 w bs){q:Nat}{b:ByteArray}(hq:num b=(q:Int))(hl:q<n):
  Calls prog 85 #[.string b,.pointer (some ⟨lo+2,0,none⟩),.pointer (some ⟨lo,0,none⟩)] w (uD w (aS bs q)):=by
 have hlk:=h.mp.look b;rw[hq]at hlk;have c0:w.cell? ⟨lo,0,none⟩=some (.map (some B)):=h.nb.cell 0;have c2:w.cell? ⟨lo+2,0,none⟩=some (.slice (some ⟨lo+1,0,none⟩) n n):=h.fv.cell 0;have o1:w.cell? ⟨lo+1,q,none⟩=some (.bool (aS bs q)):=(h.fo.cell q).trans (qx bs (by have:=h.len.out;omega));go_enter func85,ntmps85;go_wp2_with fail;go_ret;exact⟨rfl,Below.refl _ _⟩
namespace Lx
structure EI(g:Gr)(s0 bs:List Bool):Prop where
 len:bs.length=g.rules.length
 has:cZ s0 bs
 least:∀T,T.length=g.rules.length->cZ s0 T->(∀i,i<g.rules.length->ql g i T)->cZ bs T
theorem EI.step{g:Gr}{s0 bs:List Bool}(h:EI g s0 bs)(i:Nat):EI g s0 (l5 g i bs):=by
 have hle:=(Kj g).le i bs;exact⟨hle.1.symm.trans h.len,h.has.trans hle,fun T hT h1 h2=>Xf g T (fun i hi=>h2 i (by omega)) i bs (h.least T hT h1 h2)⟩
theorem aft{g:Gr}{i:Nat}{bs:List Bool}(hi:i<g.rules.length)(he:iw (dD g bs) 9 g.rules[i].alts=true):l5 g i bs=bs.set i true:=by
 rw[l5,F7 hi,if_pos he]
theorem aeS{g:Gr}{i:Nat}{bs:List Bool}(hi:i<g.rules.length)(h:aS bs i=true\/iw (dD g bs) 9 g.rules[i].alts=false):ql g i bs:=by
 intro he hl;rw[F7 hi]at he;rcases h with h|h
 ·exact h
 ·rw[h]at he;cases he
end Lx
def afu(g:Lx.Gr)(w:World)(e:Ending)(w':World):Prop:=∃o bs,e=.returned (.slice (some ⟨o,0,none⟩) g.rules.length g.rules.length)/\w.heap.size<=o/\aj w' o (bF bs) 4/\u6 (ql g) g.rules.length (List.replicate g.rules.length false) bs/\Below w.heap.size w w'
def zw(b:Bool):Nat:=if b=true then 1 else 0
theorem aeT{F:Nat->Prop}{w:World}{vR:Value}{g:Lx.Gr}(h:mo F w vR g.rules){B:Nat}{num:ByteArray->Int}(hM:SMap w B num)(Hg:∀b,b∈aK g->num b=(Lx.fix (aK g) b:Int))(hu:pW g=none)(hkd:∀r∈g.rules,∀it∈cu 9 r.alts,it.kind<=2)(hrn:g.rules.length<=2001):
  Calls prog 45 #[vR,.map (some B)] w (afu g w):=by
 obtain⟨a,c,rfl,hm⟩:=h.len;unfold maxLen at hm;have hlB:=hM.lt;have hmk:=fun w=>NW hrn w
 have hfl:∀b,b∈aK g->Lx.fix (aK g) b<g.rules.length:=fun b hb=>by
  have:=(zT (iA.2 hb)).2;simpa [aK]using this
 go_enter func45,ntmps45;go_wp2_with fail;rw[show w.heap.size+1+1=w.heap.size+2 from rfl];obtain⟨W,hW⟩:∃W,W=((w.alloc (.cells #[.map (some B)] 62)).alloc (.cells (bF (List.replicate g.rules.length false)) 4)).alloc (.cells #[.slice (some ⟨w.heap.size+1,0,none⟩) g.rules.length g.rules.length] 48):=⟨_,rfl⟩;rw[<-hW];have QB:ES w.heap.size g.rules.length B num w W (List.replicate g.rules.length false):=by
  have hb:Below w.heap.size w W:=by rw[hW];exact(((Below.refl _ _).alloc (zL0) _).alloc (by simp) _).alloc (by simp;omega) _
  refine⟨?_,hM.move (hb.block B hlB),hlB,?_,?_,by show _=_;simp,hb⟩
  ·rw[hW];exact((aj.new w _ 62).alloc _).alloc _
  ·rw[hW]
   have:=(aj.new (w.alloc (.cells #[.map (some B)] 62)) (bF (List.replicate g.rules.length false)) 4).alloc (.cells #[.slice (some ⟨w.heap.size+1,0,none⟩) g.rules.length g.rules.length] 48);simpa using this
  ·rw[hW]
   have:=aj.new ((w.alloc (.cells #[.map (some B)] 62)).alloc (.cells (bF (List.replicate g.rules.length false)) 4)) #[.slice (some ⟨w.heap.size+1,0,none⟩) g.rules.length g.rules.length] 48;simpa using this
 have QC:Lx.EI g (List.replicate g.rules.length false) (List.replicate g.rules.length false):=⟨by simp,cZ.refl _,fun T _ h _=>h⟩;obtain⟨s0,hs0⟩:∃s0,s0=List.replicate g.rules.length false:=⟨_,rfl⟩;have Fe:Hid (s0=List.replicate g.rules.length false):=hs0;rw[<-hs0]at QB QC;clear hs0 hW hmk
 go_loopg [7] (g.rules.length+1) (fun k gv wr=>∃(bs:List Bool)(gr:Bool),gv=.bool gr/\(g.rules.length-dz bs)+zw gr<=k/\ES w.heap.size g.rules.length B num w wr bs/\Lx.EI g s0 bs/\Hid (gr=false->∀i,i<g.rules.length->ql g i bs))
 case atStart=>exact⟨s0,true,rfl,by simp[zw],QB,QC,fun h=>by cases h⟩
 case round=>
  clear QB QC;revert wr;intro wz hrel;obtain⟨bs,gr,rfl,hk,pG,wG,HC⟩:=hrel;have hcb:=Eg bs;have LJ:=wG.len;cases gr with
  |false=>
   have c2:wz.cell? ⟨w.heap.size+2,0,none⟩=some (.slice (some ⟨w.heap.size+1,0,none⟩) g.rules.length g.rules.length):=pG.fv.cell 0;have hst:u6 (ql g) g.rules.length (List.replicate g.rules.length false) bs:=by rw[<-Fe.out];exact⟨wG.len,wG.has,HC.out rfl,wG.least⟩
   have I9:Hid _:=LJ;clear LJ;go_wp2_with fail;go_ret;exact⟨w.heap.size+1,bs,rfl,Nat.le_succ _,pG.fo,hst,pG.fr⟩
  |true=>
   clear HC;have hk2:g.rules.length-dz bs+1<=gk:=by simpa [zw]using hk
   have I9:Hid (bs.length=g.rules.length):=LJ;clear hk LJ;go_wp2_with fail;have H1:Hid ((false=false->bs=bs/\∀i,i<g.rules.length->i<0->ql g i bs)/\(false=true->dz bs<dz bs)/\cZ bs bs):=⟨fun _=>⟨rfl,fun i _ h=>(by omega)⟩,fun h=>(by cases h),cZ.refl _⟩
   go_loopg [7,17] g.rules.length (fun k gv i wr=>∃(j:Nat)(b2:List Bool)(gr:Bool),j+k=g.rules.length/\gv=.bool gr/\i=.int .i64 j/\ES w.heap.size g.rules.length B num w wr b2/\Lx.EI g s0 b2/\Hid ((gr=false->b2=bs/\∀i,i<g.rules.length->i<j->ql g i bs)/\(gr=true->dz bs<dz b2)/\cZ bs b2))
   case atStart=>exact⟨0,bs,false,by omega,rfl,rfl,pG,wG,H1⟩
   case round=>
    clear H1 pG wG;obtain⟨j,b2,gr,hkj,rfl,rfl,pG,wG,HJ⟩:=hrel;have hl2:=pG.fv.lt;have hl1:=pG.fo.lt
    by_cases hlt:j<g.rules.length
    ·obtain⟨gb,cap,va,hv,hFg,hA,d0,d1⟩:=h.at hlt
     cases hv;obtain⟨sa,sc,hva,-⟩:=ay.len hA;subst hva;have ny:gb<w.heap.size:=h.lt gb hFg;have dr0:wr.cell? ⟨gb,j*2,none⟩=some (.string g.rules[j].name):=(World.cell?_of_block (w:=w) (pG.fr.block gb ny)).trans d0;have Fg:wr.cell? ⟨gb,j*2+1,none⟩=some (.slice sa g.rules[j].alts.length sc):=(World.cell?_of_block (w:=w) (pG.fr.block gb ny)).trans d1;have Hl:Lx.unk g (dw 9 g.rules[j].alts)=none:=Ga hu _ (List.getElem_mem hlt);have hok:∀it∈cu 9 g.rules[j].alts,Ah (fun b=>b∈aK g) it:=fun it hi=>⟨hkd _ (List.getElem_mem hlt) it hi,fun hk=>iA.1 (Gj Hl hi hk)⟩
     obtain⟨W1,hW1⟩:∃W1,W1=wr.alloc (.cells #[.string g.rules[j].name,.slice sa g.rules[j].alts.length sc] 179):=⟨_,rfl⟩;have hb1:Below wr.heap.size wr W1:=by rw[hW1];exact(Below.refl _ _).alloc (zL0) _
     have LK:=pG.below hb1;have hOW:OkW F w (fun w'=>ES w.heap.size g.rules.length B num w w' b2):=⟨fun w' hw' b hb=>⟨hw'.fr.block b (h.lt b hb),by have:=hw'.fv.lt;have:=h.lt b hb;omega⟩,fun w' w'' hw' hb=>hw'.below hb⟩;have hNF:GH (fun w'=>ES w.heap.size g.rules.length B num w w' b2) 85 #[.pointer (some ⟨w.heap.size+2,0,none⟩),.pointer (some ⟨w.heap.size,0,none⟩)] (dD g b2) (fun b=>b∈aK g):=⟨ahI,fun w' b hw' hb=>aeR hw' (Hg b hb) (hfl b hb)⟩;have q1:=VD 9 F w _ hOW 85 _ _ _ hNF _ _ hA hok W1 LK;have QD:j<b2.length:=by have:=pG.len.out;omega
     have c2:wr.cell? ⟨w.heap.size+2,0,none⟩=some (.slice (some ⟨w.heap.size+1,0,none⟩) g.rules.length g.rules.length):=pG.fv.cell 0;have o1:wr.cell? ⟨w.heap.size+1,j,none⟩=some (.bool (aS b2 j)):=(pG.fo.cell j).trans (qx b2 QD);have HLJ:Hid (j<b2.length):=QD;have hon:iw (dD g b2) 9 g.rules[j].alts=true->l5 g j b2=b2.set j true:=aft hlt;have hoff:(aS b2 j=true\/iw (dD g b2) 9 g.rules[j].alts=false)->ql g j b2:=aeS hlt;have MO:Hid _:=hon;have Ja:Hid _:=hoff;have Z7:=wG.step j;clear hon hoff Hl hok hA d0 d1 QD;cases hb:aS b2 j with
     |true=>
      have HJ2:Hid ((gr=false->b2=bs/\∀i,i<g.rules.length->i<j+1->ql g i bs)/\(gr=true->dz bs<dz b2)/\cZ bs b2):=by
       refine⟨fun hg=>?_,HJ.out.2⟩;have h1:=HJ.out.1 hg;refine⟨h1.1,fun i hi hij=>?_⟩
       by_cases hij2:i=j
       ·rw[hij2,<-h1.1];exact Ja.out (.inl hb)
       ·exact h1.2 i hi (by omega)
      rw[hb]at o1;clear HJ MO Ja q1 hb;go_wp2_with fail;rw[<-hW1];go_roundg (g.rules.length - (j+1))
      case measure=>omega
      case rel=>exact⟨j+1,b2,gr,by omega,rfl,by go_num,LK,wG,HJ2⟩
     |false=>
      rw[hb]at o1;cases he:iw (dD g b2) 9 g.rules[j].alts with
      |true=>
       have HS:Hid (l5 g j b2=b2.set j true):=MO.out he;have HCN:Hid (dz (b2.set j true)=dz b2+1):=Pf HLJ.out hb;have HJ2:Hid ((true=false->b2.set j true=bs/\∀i,i<g.rules.length->i<j+1->ql g i bs)/\(true=true->dz bs<dz (b2.set j true))/\cZ bs (b2.set j true)):=by
        refine⟨fun h=>(by cases h),fun _=>?_,HJ.out.2.2.trans (cZ.set b2 j)⟩;have:=Lx.cnt_mono HJ.out.2.2;rw[HCN.out];omega
       rw[he]at q1;clear HJ MO Ja hb he;go_wp2_with fail;rw[<-hW1];refine q1.mono ?_;rintro e w2⟨rfl,hb2⟩;have uE:=LK.below hb2;have EU:w2.cell? ⟨w.heap.size+2,0,none⟩=some (.slice (some ⟨w.heap.size+1,0,none⟩) g.rules.length g.rules.length):=uE.fv.cell 0;have o2:w2.cell? ⟨w.heap.size+1,j,none⟩=some (.bool (aS b2 j)):=(uE.fo.cell j).trans (qx b2 HLJ.out);have of2:∀i,w2.frozen? ⟨w.heap.size+1,i,none⟩=false:=uE.fo.frozen;have aj3:ES w.heap.size g.rules.length B num w (w2.setCell ⟨w.heap.size+1,j,none⟩ (.bool true)) (b2.set j true):=by
        refine⟨uE.nb.other (by omega) _,uE.mp.move (zS0 (by show B≠w.heap.size+1;omega)),uE.bl,?_,uE.fv.other (by omega) _,?_,uE.fr.setCell (p:=⟨w.heap.size+1,j,none⟩) (by show w.heap.size<=w.heap.size+1;omega) _⟩
        ·rw[<-zL];exact uE.fo.set j _
        ·show (b2.set j true).length=_
         rw[List.length_set];exact uE.len.out
       rw[HS.out]at Z7;go_wp2_with fail;go_roundg (g.rules.length - (j+1))
       case measure=>omega
       case rel=>exact⟨j+1,b2.set j true,true,by omega,rfl,by go_num,aj3,Z7,⟨HJ2.out.1,fun _=>HJ2.out.2.1 trivial,HJ2.out.2.2⟩⟩
      |false=>
       have HJ2:Hid ((gr=false->b2=bs/\∀i,i<g.rules.length->i<j+1->ql g i bs)/\(gr=true->dz bs<dz b2)/\cZ bs b2):=by
        refine⟨fun hg=>?_,HJ.out.2⟩;have h1:=HJ.out.1 hg;refine⟨h1.1,fun i hi hij=>?_⟩
        by_cases hij2:i=j
        ·rw[hij2,<-h1.1];exact Ja.out (.inr he)
        ·exact h1.2 i hi (by omega)
       rw[he]at q1;clear HJ MO Ja hb he;go_wp2_with fail;rw[<-hW1];refine q1.mono ?_;rintro e w2⟨rfl,hb2⟩;have uE:=LK.below hb2;go_wp2_with fail;go_roundg (g.rules.length - (j+1))
       case measure=>omega
       case rel=>exact⟨j+1,b2,gr,by omega,rfl,by go_num,uE,wG,HJ2⟩
    ·have:j=g.rules.length:=by omega
     subst this;have hj:=HJ.out;clear HJ;have hlb:=I9.out;have amv:=Eg b2;have aj4:=pG.len.out;have HX:Hid (g.rules.length-dz b2+zw gr<=g.rules.length-dz bs+zw gr/\(gr=true->dz bs<dz b2)/\(gr=false->∀i,i<g.rules.length->ql g i b2)):=by
      have:=Lx.cnt_mono hj.2.2;refine⟨by omega,hj.2.1,fun hg i hi=>?_⟩;have h1:=hj.1 hg;rw[h1.1];exact h1.2 i hi hi
     clear hj hlb aj4;have HM:Hid (g.rules.length-dz b2+zw gr<g.rules.length-dz bs+1):=by
      have h1:=HX.out;have h2:=I9.out;have h3:=pG.len.out;show _<_;cases gr with
      |true=>have:=h1.2.1 rfl;simp[zw];omega
      |false=>have:=h1.1;simp[zw]at this|-;omega
     go_wp2_with fail;go_roundg (g.rules.length-dz b2+zw gr)
     case measure=>have:=HM.out;omega
     case rel=>exact⟨b2,gr,rfl,zL0,pG,wG,HX.out.2.2⟩
namespace Lx
theorem WH:∀(ws:List Wd)(s:List ByteArray),bQ s ws=none->(eP ws).Nodup/\∀b∈eP ws,b∉s
 | [],_,_=>⟨List.nodup_nil,fun b h=>by cases h⟩
 |w::ws,s,h=>by
  rw[bQ]at h
  split at h
  ·cases h
  ·rename_i hm
   obtain⟨h1,h2⟩:=WH ws _ h;rw[Uh];refine⟨List.nodup_cons.2 ⟨fun hw=>h2 _ hw List.mem_cons_self,h1⟩,fun b hb=>?_⟩;rcases List.mem_cons.1 hb with rfl|hb
   ·exact fun hs=>hm (wU.2 hs)
   ·exact fun hs=>h2 b hb (List.mem_cons_of_mem _ hs)
theorem NQ(g:Gr):eP (lu g)=aK g:=by unfold eP lu aK;rw[List.map_map];rfl
theorem OE{g:Gr}(h:oU g=none):(aK g).Nodup:=by
 unfold oU at h;cases h1:bQ [] (gY g) with
 |some p=>rw[h1]at h;cases h
 |none=>
  rw[h1]at h;have:=(WH _ _ h).1;rw[NQ]at this;exact this
theorem ahJ{s:ByteArray}{g:Gr}(h:parse s=.ok g):bQ [] (told (iE g))=oU g:=afW h
theorem VF{s:ByteArray}{g:Gr}(h:parse s=.ok g):oo (eP (told (iE g))) (iE g)=pW g:=by
 have hk:=DZ h;have e:eP (told (iE g))=gZ g++aK g:=by rw[J7,DV,NQ];rfl
 rw[e,TW ?_ ?_ _ hk,adK]
 ·rfl
 ·intro b hb
  obtain⟨r,hr,rfl⟩:=List.mem_map.1 hb;exact((BL h).2.1 r hr).1
 ·intro b hb
  rw[show gZ g=eP (gY g) from rfl]at hb;obtain⟨w,hw,rfl⟩:=List.mem_map.1 hb;obtain⟨lv,hl,hw⟩:=List.mem_flatMap.1 hw;obtain⟨t,ht,rfl⟩:=List.mem_map.1 hw;exact(BL h).1 lv hl t ht
theorem aiD{g:Gr}{bs:List Bool}(h:u6 (Av g) g.rules.length ((List.replicate g.rules.length false).set 0 true) bs):bs=BV g:=h.unique (afb g _ _ _ (by simp) (zL0))
theorem ai5{g:Gr}{bs:List Bool}(h:u6 (ql g) g.rules.length (List.replicate g.rules.length false) bs):bs=Ak g:=h.unique (afX g _ _ _ (by simp) (zL0))
end Lx
theorem adI{F:Nat->Prop}{w:World}{vR vW:Value}{s:ByteArray}{g:Lx.Gr}(hp:Lx.parse s=.ok g)(h:mo F w vR g.rules)(hW:WR w vW (iE g)):
  Calls prog 22 #[vR,vW] w fun e w'=>e=.returned (.tuple #[.int .i64 ((dK g).1:Int),.int .i64 ((dK g).2:Int)])/\Below w.heap.size w w':=by
 have hpi:=BL hp;have hsz:=(JU hp).1;have hrn:g.rules.length<=2001:=by
  have h1:g.rules.length<=uf g.rules:=zU (fun r:Lx.Rl=>1+iF 9 r.alts) fun _ _=>by omega
  omega
 have hkd:∀r∈g.rules,∀it∈cu 9 r.alts,it.kind<=2:=fun r hr it hi=>by rcases (hpi.2.1 r hr).2.1 it hi with h | h | h <;> omega
 have q1:=afh hW;rw[ahJ hp]at q1;obtain⟨wa,wc,rfl,-⟩:=hW.len;obtain⟨ra,rc,rfl,-⟩:=h.len;have HC:Hid (dK g=iT 4 (oU g) (iT 5 (pW g) (iT 6 (gB g.rules (BV g)) (iT 7 (gB g.rules (Ak g)) (0,0))))):=rfl;generalize hcr:dK g=cr at HC;clear hcr;go_enter func22,ntmps22;go_wp2_with fail;refine q1.mono ?_;rintro e w1⟨rfl,hb1⟩;cases hd:oU g with
 |some p=>
  have Bd:Hid (cr=(4,p)):=by have:=HC.out;rw[hd]at this;exact this
  have hn1:((p:Int) != -1)=true:=bne_iff_ne.2 (by omega);clear HC q1 hd;unfold vZ;go_wp2_with fail;refine bodyPost_ret (v:=.tuple #[.int .i64 4,.int .i64 (p:Int)]) (by simp[results,results22,go_sem]) rfl ⟨?_,hb1⟩;rw[Bd.out];rfl
 |none=>
  have q2:=aea (hW.below hb1);rw[VF hp]at q2;have hnd:=OE hd;have MP:Hid (cr=iT 5 (pW g) (iT 6 (gB g.rules (BV g)) (iT 7 (gB g.rules (Ak g)) (0,0)))):=by have:=HC.out;rw[hd]at this;exact this
  clear HC q1 hd;unfold vZ;go_wp2_with fail;refine q2.mono ?_;rintro e w2⟨rfl,hb2⟩;have l7:=hb1.trans (hb2.mono hb1.size);cases hu:pW g with
  |some p=>
   have Bd:Hid (cr=(5,p)):=by have:=MP.out;rw[hu]at this;exact this
   have hn1:((p:Int) != -1)=true:=bne_iff_ne.2 (by omega);clear MP q2 hu;unfold vZ;go_wp2_with fail;refine bodyPost_ret (v:=.tuple #[.int .i64 5,.int .i64 (p:Int)]) (by simp[results,results22,go_sem]) rfl ⟨?_,l7⟩;rw[Bd.out];rfl
  |none=>
   have Bd:Hid (cr=iT 6 (gB g.rules (BV g)) (iT 7 (gB g.rules (Ak g)) (0,0))):=by have:=MP.out;rw[hu]at this;exact this
   have q3:=aeb (h.below l7);have HU:Hid (pW g=none):=hu;clear MP q2 hu;unfold vZ;go_wp2_with fail;refine q3.mono ?_;rintro e w3⟨B,num,rfl,hB3,iU,Hg,hb3⟩;have uF:=l7.trans (hb3.mono l7.size);have Zq:∀b,b∈aK g->num b=(Lx.fix (aK g) b:Int):=by
    intro b hb;have hlt:=(zT (iA.2 hb)).2;have hlr:Lx.fix (aK g) b<g.rules.length:=by simpa [aK]using hlt
    have hat:(aK g)[Lx.fix (aK g) b]=b:=of_decide_eq_true (List.findIdx_getElem (w:=hlt));have xq:g.rules[Lx.fix (aK g) b].name=b:=by
     have:(aK g)[Lx.fix (aK g) b]=g.rules[Lx.fix (aK g) b].name:=by simp[aK]
     rw[<-this];exact hat
    have:=Hg _ hlr (fun k hk hik e=>by
     have hp:=List.pairwise_iff_getElem.1 hnd _ k hlt (by simpa [aK]using hk) hik;apply hp;simp only[aK,List.getElem_map];exact e.symm)
    rw[xq]at this;exact this
   have q4:=aek (h.below uF) iU Zq HU.out hpi.2.2 hrn;clear q3;go_wp2_with fail;refine q4.mono ?_;rintro e w4⟨o,bs,rfl,ho4,hk4,hls,hb4⟩;have QE:=uF.trans (hb4.mono uF.size);have hbs:=aiD hls;have q5:=TB (hW.below QE) hk4 hls.len (by rw[Wv];exact zL0);rw[Ye g bs (by rw[hls.len];exact zL0),hbs]at q5;clear q4;go_wp2_with fail;refine q5.mono ?_;rintro e w5⟨rfl,hb5⟩;have LM:=QE.trans (hb5.mono QE.size);cases hf:gB g.rules (BV g) with
   |some p=>
    have rT:Hid (cr=(6,p)):=by have:=Bd.out;rw[hf]at this;exact this
    have hn1:((p:Int) != -1)=true:=bne_iff_ne.2 (by omega);clear Bd q5 hf hbs hls;unfold vZ;go_wp2_with fail;refine bodyPost_ret (v:=.tuple #[.int .i64 6,.int .i64 (p:Int)]) (by simp[results,results22,go_sem]) rfl ⟨?_,LM⟩;rw[rT.out];rfl
   |none=>
    have rT:Hid (cr=iT 7 (gB g.rules (Ak g)) (0,0)):=by have:=Bd.out;rw[hf]at this;exact this
    have fE:SMap w5 B num:=iU.move ((hb5.block B (by have:=iU.lt;have:=hb4.size;omega)).trans (hb4.block B iU.lt));have q6:=aeT (h.below LM) fE Zq HU.out hkd hrn;clear Bd q5 hf hbs hls;unfold vZ;go_wp2_with fail;refine q6.mono ?_;rintro e w6⟨o6,bs6,rfl,ho6,Du,Ho,hb6⟩;have yH:=LM.trans (hb6.mono LM.size);have QF:=ai5 Ho;have q7:=TB (hW.below yH) Du Ho.len (by rw[Wv];exact zL0);rw[Ye g bs6 (by rw[Ho.len];exact zL0),QF]at q7;clear q6;go_wp2_with fail;refine q7.mono ?_;rintro e w7⟨rfl,jc⟩;have Z8:=yH.trans (jc.mono yH.size);cases hf:gB g.rules (Ak g) with
    |some p=>
     have R9:Hid (cr=(7,p)):=by have:=rT.out;rw[hf]at this;exact this
     have hn1:((p:Int) != -1)=true:=bne_iff_ne.2 (by omega);clear rT q7 hf QF Ho;unfold vZ;go_wp2_with fail;refine bodyPost_ret (v:=.tuple #[.int .i64 7,.int .i64 (p:Int)]) (by simp[results,results22,go_sem]) rfl ⟨?_,Z8⟩;rw[R9.out];rfl
    |none=>
     have R9:Hid (cr=(0,0)):=by have:=rT.out;rw[hf]at this;exact this
     clear rT q7 hf QF Ho;unfold vZ;go_wp2_with fail;refine bodyPost_ret (v:=.tuple #[.int .i64 0,.int .i64 0]) (by simp[results,results22,go_sem]) rfl ⟨?_,Z8⟩;rw[R9.out];rfl
namespace Lx
theorem TP:∀{ws:List Wd}{all:List ByteArray},oo all ws=none->∀x∈ws,(x.1=2\/x.1=4)->x.2.1∈all
 | [],_,_,x,hx,_=>by cases hx
 |w::ws,all,h,x,hx,hr=>by
  rw[oo]at h
  split at h
  ·cases h
  ·rename_i hn
   rcases List.mem_cons.1 hx with rfl|hx
   ·cases hm:iH x.2.1 all with
    |true=>exact wU.1 hm
    |false=>exact absurd ⟨hr,hm⟩ hn
   ·exact TP h x hx hr
theorem ahK{s:ByteArray}{g:Gr}(hp:parse s=.ok g)(hu:pW g=none):∀x∈iE g,x.1=4->x.2.1∈gZ g:=by
 intro x hx h4;have h1:=VF hp;rw[hu]at h1;have h2:=TP h1 x hx (.inr h4);have e:eP (told (iE g))=gZ g++aK g:=by rw[J7,DV,NQ];rfl
 rw[e]at h2;rcases List.mem_append.1 h2 with h2|h2
 ·exact h2
 ·exfalso
  obtain⟨r,hr,hn⟩:=List.mem_map.1 h2;have hn1:isName r.name=true:=((BL hp).2.1 r hr).1;rcases DZ hp x hx with ⟨h5,-⟩|⟨-,h5⟩
  ·omega
  ·have hn2:r.name=x.2.1:=hn
   rw[hn2,Um h5]at hn1;cases hn1
theorem afv{s:ByteArray}{g:Gr}(hp:parse s=.ok g):∀x∈iE g,x.2.1.size<=2000:=by
 intro x hx;rcases DZ hp x hx with ⟨-,h⟩|⟨-,h⟩
 ·have:=WC h;omega
 ·have:=afm h;omega
theorem aeU{s:ByteArray}{g:Gr}(hp:parse s=.ok g):∀x∈iE g,¬x.1=1->¬x.1=2->x.2.1≠iN:=by
 intro x hx h1 h2 e;rcases DZ hp x hx with ⟨h,-⟩|⟨-,h⟩
 ·rcases h with h | h
  ·exact h1 h
  ·exact h2 h
 ·rw[e]at h
  revert h;decide
end Lx
section
variable {g:Lx.Gr} {fS:ByteArray -> Int}
theorem Ym(hf:Lx.Fit g)(hs:vg (aD g).length g.rules g.rules.length (jk (aD g)) fS){c:ByteArray}(ht:Lx.isToken c=true)(h0:0<=bA (aD g) c):fS c=(Lx.fix (aD g) c:Int):=by
 rw[hs.tok c fun i hi _ e=>?_]
 ·unfold jk
  rw[if_pos h0];unfold bA at h0|-
  split at h0
  ·rename_i h1;rw[if_pos h1]
  ·omega
 ·have:=(hf.rl _ (List.getElem_mem hi)).1
  rw[e,Um ht]at this;cases this
theorem ahL(hf:Lx.Fit g)(hs:vg (aD g).length g.rules g.rules.length (jk (aD g)) fS){c:ByteArray}(hc:c∈aK g):fS c=(((aD g).length+Lx.fix (bg g) c:Nat):Int):=by
 obtain⟨r,hr,rfl⟩:=List.mem_map.1 hc;obtain⟨i,hi,rfl⟩:=List.getElem_of_mem hr;rw[hs.rule i hi hi];have:=aix (fun r hr=>(hf.rl r hr).1) (OE hf.dup) hi;have e:bg g=dY g.rules:=rfl;rw[e,this]
theorem WI(hf:Lx.Fit g)(hs:vg (aD g).length g.rules g.rules.length (jk (aD g)) fS){r:Lx.Rl}(hr:r∈g.rules){x:Lx.It}(hx:x∈cu 9 r.alts)(hk:x.kind≠2):fS x.name=(mK (aD g) (bg g) x:Int):=by
 have hp:=hf.plain hr hx hk;unfold qz at hp;unfold mK;rcases (hf.rl r hr).2.1 x hx with h2|h2|h2
 ·rw[if_neg (by omega)]
  exact ahL hf hs (iA.1 (Gj (hf.Qj hr) hx h2.1))
 ·rw[if_pos h2.1]at hp|-
  exact Ym hf hs h2.2.1 hp
 ·exact absurd h2 hk
end
theorem ahM{g:Lx.Gr}{F:Nat->Prop}{w:World}{vR:Value}{fS:ByteArray->Int}{fH:Addr->Int}(hf:Lx.Fit g)(zq:mo F w vR g.rules)(hap:Apart F w (O7 w (aY vR) 0 g.rules))(hs:vg (aD g).length g.rules g.rules.length (jk (aD g)) fS)(hh:vw w (aY vR) (aD g).length g.rules g.rules.length fH){G:Nat->Prop}(hG:∀b,F b->iW w b->G b):∀i(hi:i<g.rules.length),Zp w F G fS fH (aD g) (bg g) (cv w ⟨aY vR,i*2+1,none⟩) g.rules[i] ((aD g).length+(dY (g.rules.take i)).length):=by
 intro i hi;have hr:=List.getElem_mem hi;obtain⟨gR,cap,va,hv,hFg,hA,c0,c1⟩:=zq.at hi;subst hv;have RZ:aY (.slice (some ⟨gR,0,none⟩) g.rules.length cap)=gR:=rfl;rw[RZ]at hap hh|-;have wE:cv w ⟨gR,i*2+1,none⟩=va:=by unfold cv;rw[c1];rfl
 have hel:∀k p,(hlA w va g.rules[i].alts)[k]?=some p->fH p.1=(((aD g).length+(dY (g.rules.take i)).length+1+k:Nat):Int):=fun k p hp=>hh i hi hi k p (by rw[wE];exact hp)
 rw[wE];have hmem:∀p∈aT 9 w va g.rules[i].alts,p.2∈cu 9 g.rules[i].alts:=fun p hp=>by rw[<-Em hA];exact List.mem_map.2 ⟨p,hp,rfl⟩
 have Jb:∀p∈aT 9 w va g.rules[i].alts,F p.1.block/\iW w p.1.block:=fun p hp=>hap.1 p (Og g.rules 0 i (List.getElem?_eq_getElem hi) (by rw[Nat.zero_add,wE];exact hp))
 have Hr:∀p∈aT 9 w va g.rules[i].alts,yK fS fH p=(lI (aD g) (bg g) ((aD g).length+(dY (g.rules.take i)).length) (aR 9 g.rules[i].alts) p.2:Int):=by
  intro p hp;unfold yK lI
  by_cases hlp:Lx.hlp p.2=true
  ·rw[if_pos hlp,if_pos hlp]
   have hin:p∈hlA w va g.rules[i].alts:=List.mem_filter.2 ⟨hp,hlp⟩;obtain⟨k,hk,rfl⟩:=List.getElem_of_mem hin;rw[hel k _ (List.getElem?_eq_getElem hk)];have aj5:=Yj hA;have hk':k<(aR 9 g.rules[i].alts).length:=by rw[<-O8 hA];exact hk
   have hx:(aR 9 g.rules[i].alts)[k]=((hlA w va g.rules[i].alts)[k]).2:=by
    have h5:((hlA w va g.rules[i].alts).map Prod.snd)[k]?=(aR 9 g.rules[i].alts)[k]?:=by rw[aj5]
    rw[List.getElem?_map,List.getElem?_eq_getElem hk,List.getElem?_eq_getElem hk']at h5;simpa using h5.symm
   have hfx:sK (aR 9 g.rules[i].alts) ((hlA w va g.rules[i].alts)[k]).2.place<(aR 9 g.rules[i].alts).length:=Yi (by rw[<-hx];exact List.getElem_mem hk');have:=(Xm (hf.rise hr) hk' hfx).1 (by rw[hx]);rw[<-this]
  ·rw[if_neg hlp,if_neg hlp]
   refine WI hf hs hr (hmem p hp) fun h2=>hlp ?_
   simp[Lx.hlp,h2]
 refine⟨?_,fun p hp=>⟨(Jb p hp).1,hG _ (Jb p hp).1 (Jb p hp).2,fun h2=>WI hf hs hr (hmem p hp) h2,?_,?_,?_⟩,Hr,hel,?_,?_,?_,?_,hf.Zm hr _ _ _⟩
 ·exact hs.rule i hi hi
 ·have:=(hf.its hr (hmem p hp)).1;omega
 ·intro a ha
  have:=(hf.its hr (hmem p hp)).2 a ha;omega
 ·obtain⟨n,m,d',tF,h1,h2,h3,h4,h5,h6⟩:=Yl hA hp
  exact⟨n,m,d',tF,h1,h4,h5,fun q hq=>⟨hG _ (Jb q (h6 q hq)).1 (Jb q (h6 q hq)).2,Hr q (h6 q hq)⟩⟩
 ·intro a ha hn
  have h0:=hf.prec hr ha hn;rcases (hf.rl _ hr).2.2 a ha with h1|h1
  ·exact absurd h1 hn
  ·exact Ym hf hs h1 h0
 ·have:=(hf.alts hr).1;omega
 ·intro a ha
  have:=(hf.alts hr).2 a ha;omega
 ·rw[O8 hA]
  have:=hf.jH hr;omega
namespace Lx
theorem adT{x:Wd}{ws:List Wd}(h:x.1=1\/x.1=2):fU (x::ws)=fU ws:=by unfold fU;rw[List.filter_cons_of_neg];rcases h with h|h <;> simp[h]
theorem afw{x:Wd}{ws:List Wd}(h1:¬x.1=1)(h2:¬x.1=2):fU (x::ws)=x.2.1::fU ws:=by unfold fU;rw[List.filter_cons_of_pos (by simp[h1,h2])];rfl
end Lx
structure aj6(w:World)(mb S:Nat)(cs:Array Value)(T:List ByteArray)(w':World):Prop where
 ex:∃vT,aj w' mb (cs.setIfInBounds 0 vT) 127/\w'.ownsRow w.heap.size 9 1 vT T.length (T.map Value.string)
 sm:SMap w' S (jk T)
 kp:Kp (fun g=>g<w.heap.size/\g≠mb/\g≠S) w w'
theorem adU{w:World}{mb S:Nat}{vH vW:Value}{ws:List Lx.Wd}(kM:aj w mb #[.slice none 0 0,.slice none 0 0,.slice none 0 0,.slice none 0 0,.slice none 0 0,.map (some S),vH] 127)(hS:SMap w S (fun _=>0))(wH:WR w vW ws)(hWb:∀g,vW.ownBlock=some g->g≠mb/\g≠S)(hsz:∀x∈ws,x.2.1.size<=2000)(hnd:∀x∈ws,¬x.1=1->¬x.1=2->x.2.1≠iN)(hl:ws.length<=100000):
  Calls prog 46 #[.pointer (some ⟨mb,0,none⟩),vW] w fun e w'=>e=.returned (.tuple #[])/\aj6 w mb S #[.slice none 0 0,.slice none 0 0,.slice none 0 0,.slice none 0 0,.slice none 0 0,.map (some S),vH] (bP [iN] (fU ws)) w':=by
 obtain⟨i9,hi9,hz90,hz91,hz92⟩:=info_parts Tryz.BU;obtain⟨a,c,rfl,-⟩:=wH.len;have lm:=kM.lt;have lS:=hS.lt;have Dr:mb≠S:=fun e=>by
  obtain⟨es,clock,h1,-⟩:=hS;unfold aj at kM;rw[e,h1]at kM;cases kM
 have m0:w.cell? ⟨mb,0,none⟩=some (.slice none 0 0):=kM.cell 0;have f0:∀i,w.frozen? ⟨mb,i,none⟩=false:=kM.frozen;go_enter func46,ntmps46;go_wp2_with fail;obtain⟨W,hW⟩:∃W,W=(w.setCell ⟨mb,0,none⟩ (.slice (some ⟨w.heap.size,0,none⟩) 1 1)).alloc (.cells #[.string iN] 9):=⟨_,rfl⟩;have eW:(w.setCell ⟨mb,0,none⟩ (.slice (some ⟨w.heap.size,0,none⟩) 1 1)).alloc (.cells #[.string { data:=#[36] }] 9)=W:=hW.symm;rw[eW];clear eW;have kW:aj W mb #[.slice (some ⟨w.heap.size,0,none⟩) 1 1,.slice none 0 0,.slice none 0 0,.slice none 0 0,.slice none 0 0,.map (some S),vH] 127:=by rw[hW];exact(kM.set 0 _).alloc _
 have kN:aj W w.heap.size #[.string iN] 9:=by
  have:=aj.new (w.setCell ⟨mb,0,none⟩ (.slice (some ⟨w.heap.size,0,none⟩) 1 1)) #[.string iN] 9;rw[hW];simpa [World.setCell]using this
 have oW:W.ownsRow w.heap.size 9 1 (.slice (some ⟨w.heap.size,0,none⟩) 1 1) 1 [.string iN]:=⟨rfl,.inr ⟨w.heap.size,1,#[.string iN],rfl,zL0,kN,zL0,by decide,rfl,rfl⟩⟩;have hkW:Kp (fun g=>g<w.heap.size/\g≠mb) w W:=⟨by rw[hW];rfl,by rw[hW];rfl,by rw[hW];rfl,by rw[hW];simp[World.setCell],fun g hg=>by rw[hW,Below.heap_alloc _ _ _ (by simp[World.setCell];exact hg.1),zS0 hg.2]⟩;have hSW:SMap W S (jk [iN]):=by rw[ahC];exact hS.move (hkW.block S ⟨lS,fun e=>Dr e.symm⟩)
 have Z9:Kp (fun g=>g<w.heap.size/\g≠mb/\g≠S) w W:=⟨hkW.os,hkW.tape,hkW.output,hkW.size,fun g hg=>hkW.block g ⟨hg.1,hg.2.1⟩⟩;have H0:Hid (bP [iN] (fU ws)=bP [iN] (fU (ws.drop 0))):=rfl;clear hW hkW kN m0 f0
 go_loopg [13] ws.length (fun k i wr=>∃(j:Nat)(T:List ByteArray)(vT:Value),j+k=ws.length/\i=.int .i64 j/\T.length<=j+1/\(∃T',T=iN::T')/\aj wr mb #[vT,.slice none 0 0,.slice none 0 0,.slice none 0 0,.slice none 0 0,.map (some S),vH] 127/\wr.ownsRow w.heap.size 9 1 vT T.length (T.map Value.string)/\SMap wr S (jk T)/\Kp (fun g=>g<w.heap.size/\g≠mb/\g≠S) w wr/\Hid (bP [iN] (fU ws)=bP T (fU (ws.drop j))))
 case atStart=>exact⟨0,[iN],_,by omega,rfl,by simp,⟨[],rfl⟩,kW,oW,hSW,Z9,H0⟩
 case round=>
  clear H0 hSW Z9 oW kW;obtain⟨j,T,vT,hk,rfl,MQ,hT',kr,Sb,hM,hkr,HD⟩:=hrel;have hsr:=hkr.size;obtain⟨ta,tc,rfl,-⟩:=aF Sb
  by_cases hlt:j<ws.length
  ·have hwr:WR wr _ ws:=wH.move fun g hg=>hkr.block g ⟨(wH.lt g hg).2,hWb g hg⟩
   obtain⟨g,cap,hv,lg,c0,c1,c2⟩:=hwr.at hlt;cases hv;have hd:=HD.out;rw[List.drop_eq_getElem_cons hlt]at hd;have QG:=hsz ws[j] (List.getElem_mem hlt);have EG:=hnd ws[j] (List.getElem_mem hlt);generalize ws[j]=x at c0 c1 c2 hd QG EG;obtain⟨ro,tx,at_⟩:=x;simp only at c0 c1 c2 hd QG EG;obtain⟨W1,hW1⟩:∃W1,W1=wr.alloc (.cells #[.int .i64 (ro:Int),.string tx,.int .i64 (at_:Int)] 119):=⟨_,rfl⟩;have hb1:Below wr.heap.size wr W1:=by rw[hW1];exact(Below.refl _ _).alloc (zL0) _
   have hs1:W1.heap.size=wr.heap.size+1:=by rw[hW1];simp
   have kx:aj W1 wr.heap.size #[.int .i64 (ro:Int),.string tx,.int .i64 (at_:Int)] 119:=by rw[hW1];exact aj.new wr _ 119
   have lSr:=hM.lt;have jE:=kr.lt;have hM1:SMap W1 S (jk T):=hM.move (hb1.block _ lSr);have k1:aj W1 mb _ 127:=(hb1.block _ jE).trans kr;have o1:=own_below Sb hb1;have hk1:Kp (fun g=>g<w.heap.size/\g≠mb/\g≠S) w W1:=hkr.trans (Kp.below hb1 (D:=fun g=>g<wr.heap.size) fun g hg=>hg) fun g hg=>Nat.lt_of_lt_of_le hg.1 hsr
   by_cases hro:ro=1\/ro=2
   ·rw[adT hro]at hd
    have HD2:Hid _:=hd;clear hd HD;rcases hro with hro|hro
    have hq1:((ro:Int) == 1)=true:=by simp[hro]
    clear hro
    rotate_left
    have hq1:((ro:Int) == 1)=false:=zB0 (by omega);have hq2:((ro:Int) == 2)=true:=by simp[hro]
    clear hro
    all_goals
     go_wp2_with fail;rw[<-hW1];go_roundg (ws.length - (j+1))
     case measure=>omega
     case rel=>exact⟨j+1,T,_,by omega,by go_num,by omega,hT',k1,o1,hM1,hk1,HD2⟩
   ·have hn1:¬ro=1:=fun e=>hro (.inl e)
    have hn2:¬ro=2:=fun e=>hro (.inr e)
    have hq1:((ro:Int) == 1)=false:=zB0 (by omega);have hq2:((ro:Int) == 2)=false:=zB0 (by omega);rw[afw hn1 hn2]at hd;have hnt:=EG hn1 hn2;have QI:SMap W1.drew S (jk T):=hM1.move rfl;have hl1:=QI.look tx;have x1:W1.drew.cell? ⟨wr.heap.size,1,none⟩=some (.string tx):=kx.drew.cell 1;have m5:W1.drew.cell? ⟨mb,5,none⟩=some (.map (some S)):=k1.drew.cell 5;have aac:Kp (fun g=>g<w.heap.size/\g≠mb/\g≠S) w W1.drew:=⟨hk1.os,hk1.tape,hk1.output,hk1.size,hk1.block⟩;clear EG hro hn1 hn2;obtain⟨T',hT'⟩:=hT'
    by_cases h0:jk T tx=0
    ·have hf:¬0<=bA T tx:=by
      rw[hT']at h0|-;exact(WE hnt).1 h0
     have HD2:Hid (bP [iN] (fU ws)=bP (T++[tx]) (fU (ws.drop (j+1)))):=by
      rw[show bP T (tx::fU (ws.drop (j+1)))=bP (iD T tx) (fU (ws.drop (j+1))) from rfl,show iD T tx=T++[tx] from if_neg hf]at hd;exact hd
     rw[h0]at hl1;have aad:SMap W1.drew.drew S (jk T):=hM1.move rfl;obtain⟨w2,hu,hM2,hg2,hs2⟩:=aad.put tx (T.length:Int);rw[ahD hf]at hM2;have Sc:aj W1.drew.drew mb _ 127:=k1.drew.drew;have kxd:aj W1.drew.drew wr.heap.size _ 119:=kx.drew.drew;have d0:W1.drew.drew.cell? ⟨mb,0,none⟩=some (.slice ta T.length tc):=Sc.cell 0;have d5:W1.drew.drew.cell? ⟨mb,5,none⟩=some (.map (some S)):=Sc.cell 5;have dx:W1.drew.drew.cell? ⟨wr.heap.size,1,none⟩=some (.string tx):=kxd.cell 1;have k2:aj w2 mb _ 127:=Sc.grown hg2 (fun e=>Dr (Option.some.inj e));have iL:aj w2 wr.heap.size _ 119:=kxd.grown hg2 (fun e=>by have:=Option.some.inj e;omega);have o2:w2.ownsRow w.heap.size 9 1 (.slice ta T.length tc) T.length (T.map Value.string):=aC (aC (w':=W1.drew.drew) o1 fun _ _=>rfl) fun g hg=>hg2.block g (o1.lt g hg).2 (fun e=>by have:=(o1.lt g hg).1;have:=Option.some.inj e;omega)
     have hk2:Kp (fun g=>g<w.heap.size/\g≠mb/\g≠S) w w2:=⟨hg2.os.trans hk1.os,hg2.tape.trans hk1.tape,hg2.output.trans hk1.output,by rw[hs2];exact hk1.size,fun g hg=>(hg2.block g (Nat.lt_of_lt_of_le hg.1 hk1.size) (fun e=>hg.2.2 (Option.some.inj e))).trans (hk1.block g hg)⟩;have ajS:w2.heap.size=wr.heap.size+1:=hs2.trans hs1;have amw:=hg2;have HT:Hid (∃T',T++[tx]=iN::T'):=⟨T'++[tx],by rw[hT'];rfl⟩;clear hd HD hf hnt h0 hM1 QI aad hg2 hs2 aac hT';go_wp2_with fail;rw[<-hW1];clear hW1 c0 c1 c2
     go_region
     all_goals
      go_wp2_with fail
      go_region
     all_goals
      clear hl1 hu d0 d5 dx m5 x1;have qC:=Oj tx w2.drew QG;have lm2:=k2.lt;have e0:w2.drew.cell? ⟨mb,0,none⟩=some (.slice ta T.length tc):=k2.drew.cell 0;have ex:w2.drew.cell? ⟨wr.heap.size,1,none⟩=some (.string tx):=iL.drew.cell 1;go_wp2_with fail
      go_region_law (first | (refine jK rfl 87 #[.string tx] (by go_simp) qC ?_;rintro e w3⟨rfl,hb3⟩;have k3:aj w3 mb _ 127:=(hb3.block mb lm2).trans k2;have o3:=own_below (aC (w':=w2.drew) o2 fun _ _=>rfl) hb3;have oA:=o3.alloc (.cells #[.string tx] 9);have e3:w3.cell? ⟨mb,0,none⟩=some (.slice ta T.length tc):=k3.cell 0;have Rz:=k3.lt;have ls3:w.heap.size<=w3.heap.size:=Nat.le_trans hk2.size hb3.size;refine⟨_,rfl,?_⟩) | (refine step_append_lies _ rfl (.tmp 50) (.tmp 54) 41 rfl w.heap.size 9 i9 _ 1 16 underlying41 hi9 hz90 hz91 hz92 rfl (by decide) (.slice ta T.length tc) T.length (T.map Value.string) (by simp[Act.eval]) oA ⟨w3.heap.size,0,none⟩ 1 1 [.string tx] (by simp[Act.eval]) rfl (bC (aj.new w3 _ 9)) (by simp[Value.oneCell']) (by decide) (by unfold maxLen;omega) (by omega) (by simp;omega) _ rfl ?_;intro g4 cap4 w4 u7 bV ni xg;have k4:=(k3.alloc (.cells #[.string tx] 9)).grown bV (fun e=>by have:=(o2.lt mb e.symm).1;omega);have c40:w4.cell? ⟨mb,0,none⟩=some (.slice ta T.length tc):=k4.cell 0;have f4:∀i,w4.frozen? ⟨mb,i,none⟩=false:=k4.frozen))
     all_goals
      have jw:∀g,g<w2.heap.size->g≠mb->g<w.heap.size->(w4.setCell ⟨mb,0,none⟩ (.slice (some ⟨g4,0,none⟩) (T.length+1) cap4)).heap[g]?=w2.heap[g]?:=fun g hg hm hlo=>by
       rw[zS0 hm,bV.block g (by have:=hb3.size;have:g<w3.heap.size:=Nat.lt_of_lt_of_le hg this;simp;omega) (fun e=>by have:=(o2.lt g e.symm).1;omega),Below.heap_alloc _ _ _ (Nat.lt_of_lt_of_le hg hb3.size),hb3.block g hg];rfl
      have o5:(w4.setCell ⟨mb,0,none⟩ (.slice (some ⟨g4,0,none⟩) (T.length+1) cap4)).ownsRow w.heap.size 9 1 (.slice (some ⟨g4,0,none⟩) (T.length+1) cap4) (T++[tx]).length ((T++[tx]).map Value.string):=by
       rw[List.length_append,List.map_append];exact aC u7 fun g hg=>zS0 (fun e=>by have:=(u7.lt g hg).1;have e':g=mb:=e;omega)
      have hs5:w2.heap.size<=(w4.setCell ⟨mb,0,none⟩ (.slice (some ⟨g4,0,none⟩) (T.length+1) cap4)).heap.size:=by
       have h1:=hb3.size;have h2:=bV.size;simp[World.setCell]at h1 h2|-;omega
      have lS2:S<w2.heap.size:=by omega
      have fE:SMap (w4.setCell ⟨mb,0,none⟩ (.slice (some ⟨g4,0,none⟩) (T.length+1) cap4)) S (jk (T++[tx])):=hM2.move (jw S lS2 (fun e=>Dr e.symm) lS);have hk5:Kp (fun g=>g<w.heap.size/\g≠mb/\g≠S) w (w4.setCell ⟨mb,0,none⟩ (.slice (some ⟨g4,0,none⟩) (T.length+1) cap4)):=⟨bV.os.trans (hb3.os.trans hk2.os),bV.tape.trans (hb3.tape.trans hk2.tape),bV.output.trans (hb3.output.trans hk2.output),Nat.le_trans hk2.size hs5,fun g hg=>(jw g (Nat.lt_of_lt_of_le hg.1 hk2.size) hg.2.1 hg.1).trans (hk2.block g hg)⟩;have k5:=k4.set 0 (.slice (some ⟨g4,0,none⟩) (T.length+1) cap4);clear k4 c40 f4 bV u7 ni xg o3 oA e3 hb3 k3 qC e0 ex jw hs5;go_wp2_with fail;go_roundg (ws.length - (j+1))
      case measure=>omega
      case rel=>exact⟨j+1,T++[tx],_,by omega,by go_num,by simp;omega,HT.out,k5,o5,fE,hk5,HD2⟩
    ·have hf:0<=bA T tx:=by
      apply Decidable.byContradiction;intro hn;rw[hT']at h0 hn;exact h0 ((WE hnt).2 hn)
     have HD2:Hid (bP [iN] (fU ws)=bP T (fU (ws.drop (j+1)))):=by
      rw[show bP T (tx::fU (ws.drop (j+1)))=bP (iD T tx) (fU (ws.drop (j+1))) from rfl,show iD T tx=T from if_pos hf]at hd;exact hd
     clear hd HD hf hnt;generalize hn:jk T tx=n at hl1 h0;have hnb:(n == 0)=false:=beq_eq_false_iff_ne.2 h0;go_wp2_with fail;rw[<-hW1];clear hW1 c0 c1 c2
     go_region
     all_goals
      go_wp2_with fail;go_roundg (ws.length - (j+1))
      case measure=>omega
      case rel=>exact⟨j+1,T,_,by omega,by go_num,by omega,⟨T',hT'⟩,k1.drew,aC o1 fun _ _=>rfl,QI,aac,HD2⟩
  ·have:j=ws.length:=by omega
   subst this;have hd:=HD.out;rw[List.drop_length]at hd;have HD2:Hid (bP [iN] (fU ws)=T):=hd;clear hd HD;go_wp2_with fail
   go_end0
   refine⟨rfl,?_⟩;rw[HD2.out];exact⟨⟨_,kr,Sb⟩,hM,hkr⟩
def iY(r:List Nat):Array Value:=(gK r).toArray
theorem WJ(r:List Nat)(i:Nat)(s:Nat):(iY r).setIfInBounds i (.int .i64 (s:Int))=iY (r.set i s):=by
 unfold iY gK;rw[List.setIfInBounds_toArray,List.map_set]
theorem WK(r:List Nat){i:Nat}(h:i<r.length):(iY r)[i]?=some (.int .i64 (r[i]:Int)):=by
 unfold iY gK;simp[h]
theorem agC(n:Nat):madeCells #[.int .i64 0] (n*1)=iY (List.replicate n 0):=by
 unfold madeCells iY gK;apply Array.ext
 ·simp
 ·intro i h1 h2
  simp[Nat.mod_one]
theorem Tryz.info3':(prog.info? 3).map (fun i=>(i.zero,i.size,i.bytes))=some (some (.int .i64 0),1,8):=by kernel_rfl
theorem agD{n:Nat}(hn:n<=100000)(w:World):(Instr.makeSlice 43 (.int .i64 (n:Int)) (.int .i64 (n:Int))).run prog w=.ok (.slice (some ⟨w.heap.size,0,none⟩) n n) (w.alloc (.cells (iY (List.replicate n 0)) 3)):=by
 obtain⟨i0,hi,hz0,hz1,hz2⟩:=info_parts Tryz.info3';have h:=run_make (P:=prog) w 43 3 i0 _ (by kernel_rfl) hi hz0 .i64 .i64 (n:Int) (n:Int) (by omega) (Int.le_refl _) (by rw[hz2];omega) (by omega);rw[h,Int.toNat_natCast,hz1];have e:Value.cells (.int .i64 0)=#[.int .i64 0]:=rfl;rw[e,agC]
theorem WL{w:World}{g:Nat}{r:List Nat}(h:aj w g (iY r) 3){B:Nat}(hB:B<=g)(hr:r.length<=100000):IR B w (.slice (some ⟨g,0,none⟩) r.length r.length) r:=by
 refine⟨by rw[yj];simp,.inr ⟨g,r.length,iY r,rfl,hB,h,zL0,by unfold maxLen;omega,by simp[iY,yj],?_⟩⟩;unfold iY;rw[Nat.mul_one,<-yj];exact List.take_length
namespace Lx
theorem ael{l:List ByteArray}(h:l.Nodup)(b:ByteArray):(iD l b).Nodup:=by
 unfold iD
 split
 ·exact h
 ·rename_i hb
  rw[List.nodup_append];refine⟨h,by simp,fun a ha c hc e=>?_⟩;rw[List.mem_singleton]at hc;exact hb (iA.2 (hc▸e▸ha))
theorem TQ:∀(bs l:List ByteArray),l.Nodup->(bP l bs).Nodup
 | [],_,h=>h
 |b::bs,l,h=>TQ bs (iD l b) (ael h b)
theorem Yn{T:List ByteArray}(nd:T.Nodup){b:ByteArray}{i:Nat}(hi:T[i]?=some b)(f:ByteArray->Nat)(v:Nat):(T.map f).set i v=T.map fun t=>if t=b then v else f t:=by
 obtain⟨hi,rfl⟩:=List.getElem?_eq_some_iff.1 hi;apply List.ext_getElem
 ·simp
 ·intro j h1 h2
  simp only[List.length_set,List.length_map]at h1;rw[List.getElem_set,List.getElem_map,List.getElem_map]
  by_cases hij:i=j
  ·subst hij;simp
  ·rw[if_neg hij,if_neg]
   intro e;exact hij ((List.getElem_inj nd).1 e).symm
theorem aiE{T:List ByteArray}{b:ByteArray}(h:0<=bA T b):T[fix T b]?=some b/\bA T b=(fix T b:Int):=by
 have h0:fix T b<T.length:=by
  unfold bA at h
  split at h
  ·assumption
  ·omega
 refine⟨?_,by unfold bA;rw[if_pos h0]⟩;have:=List.findIdx_getElem (w:=h0);rw[List.getElem?_eq_getElem h0];have h2:T[fix T b]=b:=of_decide_eq_true this;rw[h2]
def EK(p:Nat×Nat):List (ByteArray×Nat)->(ByteArray->Nat×Nat)->ByteArray->Nat×Nat
 | [],B=>B
 |t::ts,B=>EK p ts fun c=>if c=t.1 then p else B c
theorem Yo(p:Nat×Nat):∀(ts:List (ByteArray×Nat))(B:ByteArray->Nat×Nat)(t:ByteArray),EK p ts B t=if 0<=bA (ts.map Prod.fst) t then p else B t
 | [],B,t=>by
  have:¬0<=bA ([]:List ByteArray) t:=fun h=>by have:=iA.1 h;cases this
  rw[List.map_nil,if_neg this];rfl
 |x::ts,B,t=>by
  rw[EK,Yo p ts,List.map_cons]
  by_cases h1:0<=bA (ts.map Prod.fst) t
  ·rw[if_pos h1,if_pos (iA.2 (List.mem_cons_of_mem _ (iA.1 h1)))]
  ·rw[if_neg h1]
   by_cases h2:t=x.1
   ·rw[if_pos h2,if_pos (iA.2 (by rw[h2];exact List.mem_cons_self))]
   ·rw[if_neg h2,if_neg]
    intro h;rcases List.mem_cons.1 (iA.1 h) with h|h
    ·exact h2 h
    ·exact h1 (iA.2 h)
end Lx
structure aj7(w:World)(mb:Nat)(cs:Array Value)(T:List ByteArray)(B:ByteArray->Nat×Nat)(w':World):Prop where
 ex:∃vB vK,aj w' mb ((cs.setIfInBounds 3 vB).setIfInBounds 4 vK) 127/\IR w.heap.size w' vB (T.map fun t=>(B t).1)/\IR w.heap.size w' vK (T.map fun t=>(B t).2)/\∀g,vB.ownBlock=some g->vK.ownBlock≠some g
 kp:Kp (fun g=>g<w.heap.size/\g≠mb) w w'
theorem adV{F:Nat->Prop}{w:World}{mb S:Nat}{vT vN vP vH vL:Value}{T:List ByteArray}{jo:List Lx.Lv}(kM:aj w mb #[vT,vN,vP,.slice none 0 0,.slice none 0 0,.map (some S),vH] 127)(oT:w.ownsRow 0 9 1 vT T.length (T.map Value.string))(hS:SMap w S (jk T))(hV:Tr.Seq F w 175 2 cL (KL F w) vL jo)(hF:∀b,F b->b<w.heap.size/\b≠mb)(nd:T.Nodup)(hT:∀l∈jo,∀t∈l.tokens,0<=bA T t.1)(MQ:T.length<=100000)(hLl:jo.length<=100000):
  Calls prog 47 #[.pointer (some ⟨mb,0,none⟩),vL] w fun e w'=>e=.returned (.tuple #[])/\aj7 w mb #[vT,vN,vP,.slice none 0 0,.slice none 0 0,.map (some S),vH] T (fun t=>Lx.bk t 0 jo (0,0)) w':=by
 obtain⟨la,lc,rfl,hlm⟩:=Seq.len hV;obtain⟨ta,tc,rfl,-⟩:=aF oT;have lm:=kM.lt;have lS:=hS.lt;have Dr:mb≠S:=fun e=>by
  obtain⟨es,clock,h1,-⟩:=hS;unfold aj at kM;rw[e,h1]at kM;cases kM
 have hmk:=fun w=>agD MQ w
 have m0:w.cell? ⟨mb,0,none⟩=some (.slice ta T.length tc):=kM.cell 0;have m3:w.cell? ⟨mb,3,none⟩=some (.slice none 0 0):=kM.cell 3;have m4:w.cell? ⟨mb,4,none⟩=some (.slice none 0 0):=kM.cell 4;have f0:∀i,w.frozen? ⟨mb,i,none⟩=false:=kM.frozen;go_enter func47,ntmps47;go_wp2_with fail;obtain⟨W,hW⟩:∃W,W=(((w.setCell ⟨mb,3,none⟩ (.slice (some ⟨w.heap.size,0,none⟩) T.length T.length)).setCell ⟨mb,4,none⟩ (.slice (some ⟨w.heap.size+1,0,none⟩) T.length T.length)).alloc (.cells (iY (List.replicate T.length 0)) 3)).alloc (.cells (iY (List.replicate T.length 0)) 3):=⟨_,rfl⟩;rw[<-hW];have kW:aj W mb #[.slice ta T.length tc,vN,vP,.slice (some ⟨w.heap.size,0,none⟩) T.length T.length,.slice (some ⟨w.heap.size+1,0,none⟩) T.length T.length,.map (some S),vH] 127:=by rw[hW];exact(((kM.set 3 _).set 4 _).alloc _).alloc _
 have Sd:T.map (fun _:ByteArray=>0)=List.replicate T.length 0:=List.map_const' ..;have kB:aj W w.heap.size (iY (T.map fun t=>((fun _=>(0,0):ByteArray->Nat×Nat) t).1)) 3:=by
  have:=(aj.new ((w.setCell ⟨mb,3,none⟩ (.slice (some ⟨w.heap.size,0,none⟩) T.length T.length)).setCell ⟨mb,4,none⟩ (.slice (some ⟨w.heap.size+1,0,none⟩) T.length T.length)) (iY (List.replicate T.length 0)) 3).alloc (.cells (iY (List.replicate T.length 0)) 3);rw[hW];show aj _ _ (iY (T.map (fun _:ByteArray=>0))) 3;rw[Sd];simpa [World.setCell]using this
 have kK:aj W (w.heap.size+1) (iY (T.map fun t=>((fun _=>(0,0):ByteArray->Nat×Nat) t).2)) 3:=by
  have:=aj.new (((w.setCell ⟨mb,3,none⟩ (.slice (some ⟨w.heap.size,0,none⟩) T.length T.length)).setCell ⟨mb,4,none⟩ (.slice (some ⟨w.heap.size+1,0,none⟩) T.length T.length)).alloc (.cells (iY (List.replicate T.length 0)) 3)) (iY (List.replicate T.length 0)) 3;rw[hW];show aj _ _ (iY (T.map (fun _:ByteArray=>0))) 3;rw[Sd];simpa [World.setCell]using this
 have hkW:Kp (fun g=>g<w.heap.size/\g≠mb) w W:=⟨by rw[hW];rfl,by rw[hW];rfl,by rw[hW];rfl,by rw[hW];simp[World.setCell];omega,fun g hg=>by rw[hW,Below.heap_alloc _ _ _ (by simp[World.setCell];omega),Below.heap_alloc _ _ _ (by simp[World.setCell];exact hg.1),zS0 hg.2,zS0 hg.2]⟩;have H0:Hid (∀t,Lx.bk t 0 jo (0,0)=Lx.bk t 0 (jo.drop 0) ((fun _=>(0,0):ByteArray->Nat×Nat) t)):=fun _=>rfl
 clear hW Sd hmk m0 m3 m4 f0;obtain⟨CS,hCS⟩:∃CS:Array Value,CS=#[.slice ta T.length tc,vN,vP,.slice (some ⟨w.heap.size,0,none⟩) T.length T.length,.slice (some ⟨w.heap.size+1,0,none⟩) T.length T.length,.map (some S),vH]:=⟨_,rfl⟩;rw[<-hCS]at kW
 go_loopg [32] jo.length (fun k i wr=>∃(j:Nat)(B:ByteArray->Nat×Nat),j+k=jo.length/\i=.int .i64 j/\aj wr mb CS 127/\aj wr w.heap.size (iY (T.map fun t=>(B t).1)) 3/\aj wr (w.heap.size+1) (iY (T.map fun t=>(B t).2)) 3/\Kp (fun g=>g<w.heap.size/\g≠mb) w wr/\Hid (∀t,Lx.bk t 0 jo (0,0)=Lx.bk t j (jo.drop j) (B t)))
 case atStart=>exact⟨0,_,by omega,rfl,kW,kB,kK,hkW,H0⟩
 case round=>
  clear H0 hkW kK kB kW;revert wr;intro wz hrel;obtain⟨j,B,hk,rfl,kz,nU,Jc,hkz,HD⟩:=hrel
  by_cases hlt:j<jo.length
  ·have hVz:Tr.Seq F wz 175 2 cL (KL F w) _ jo:=Seq.move hV (fun b hb=>hkz.block b (hF b hb)) (fun _ h=>h) (fun _ _ h=>h)
   obtain⟨gL,Cb,va,hv,hgL,MR,zf⟩:=Seq.at hVz (fun _=>rfl) hlt;cases hv;have hTj:=hT jo[j] (List.getElem_mem hlt);have hd:=HD.out;rw[List.drop_eq_getElem_cons hlt]at hd;have c0:wz.cell? ⟨gL,j*2,none⟩=some (.int .i64 (jo[j].kind:Int)):=zf 0 (by decide);have c1:wz.cell? ⟨gL,j*2+1,none⟩=some va:=zf 1 (by decide);generalize jo[j]=lv at hTj hd MR c0 c1;obtain⟨kd,toks⟩:=lv;simp only at hTj MR c0 c1;have aae:Tr.Seq F w 9 1 cT (fun _ _=>True) va toks:=MR;obtain⟨xa,xc,rfl,htm⟩:=Seq.len aae;obtain⟨j1,hj1,HJ⟩:∃j1:Nat,IntKind.i64.wrap ((j:Int)+1)=(j1:Int)/\Hid (j1=j+1):=⟨j+1,by rw[show ((j:Int)+1)=((j+1:Nat):Int) from by omega];exact wrap64 (by omega),rfl⟩;have HE:Hid (∀t,Lx.bk t 0 jo (0,0)=Lx.bk t (j+1) (jo.drop (j+1)) (EK (j1,kd) (toks.drop 0) B t)):=fun t=>by
    rw[hd t,Lx.bk,HJ.out,List.drop_zero,Yo]
   clear hd HD zf MR;obtain⟨W1,hW1⟩:∃W1,W1=wz.alloc (.cells #[.int .i64 (kd:Int),.slice xa toks.length xc] 175):=⟨_,rfl⟩;have hb1:Below wz.heap.size wz W1:=by rw[hW1];exact(Below.refl _ _).alloc (zL0) _
   have hs1:W1.heap.size=wz.heap.size+1:=by rw[hW1];simp
   have kl:aj W1 wz.heap.size #[.int .i64 (kd:Int),.slice xa toks.length xc] 175:=by rw[hW1];exact aj.new wz _ 175
   have lKz:=Jc.lt;have k1:aj W1 mb CS 127:=(hb1.block _ kz.lt).trans kz;have kB1:=(hb1.block _ nU.lt).trans nU;have kK1:=(hb1.block _ Jc.lt).trans Jc;have hk1:Kp (fun g=>g<w.heap.size/\g≠mb) w W1:=hkz.trans (Kp.below hb1 (D:=fun g=>g<wz.heap.size) fun g hg=>hg) fun g hg=>Nat.lt_of_lt_of_le hg.1 hkz.size
   unfold maxLen at htm;go_wp2_with fail;rw[<-hW1];clear hW1 c0 c1
   go_loopg [40] toks.length (fun k i wr=>∃(m:Nat)(B:ByteArray->Nat×Nat),m+k=toks.length/\i=.int .i64 m/\aj wr mb CS 127/\aj wr w.heap.size (iY (T.map fun t=>(B t).1)) 3/\aj wr (w.heap.size+1) (iY (T.map fun t=>(B t).2)) 3/\aj wr wz.heap.size #[.int .i64 (kd:Int),.slice xa toks.length xc] 175/\Kp (fun g=>g<w.heap.size/\g≠mb) w wr/\Hid (∀t,Lx.bk t 0 jo (0,0)=Lx.bk t (j+1) (jo.drop (j+1)) (EK (j1,kd) (toks.drop m) B t)))
   case atStart=>exact⟨0,B,by omega,rfl,k1,kB1,kK1,kl,hk1,HE⟩
   case round=>
    clear HE hk1 kl kK1 kB1 k1 hb1 kz nU Jc hkz;clear B;obtain⟨m,B,hkm,rfl,kr,jI,Sg,klr,hkr,HE⟩:=hrel
    by_cases bJ:m<toks.length
    ·have hTr:Tr.Seq F wr 9 1 cT (fun _ _=>True) _ toks:=Seq.move aae (fun b hb=>hkr.block b (hF b hb)) (fun _ h=>h) (fun _ _ h=>h)
     obtain⟨gT,amx,vk,hv,hgT,-,hcT⟩:=Seq.at hTr (fun _=>rfl) bJ;cases hv;have t0:wr.cell? ⟨gT,m,none⟩=some (.string toks[m].1):=by
      have:=hcT 0 (by decide);rw[Nat.mul_one,Nat.add_zero]at this;exact this
     have hfm:=hTj toks[m] (List.getElem_mem bJ);have hd:=HE.out;rw[List.drop_eq_getElem_cons bJ]at hd;generalize toks[m]=tk at t0 hfm hd;obtain⟨tx,tp⟩:=tk;simp only at t0 hfm;obtain⟨hq1,hq2⟩:=aiE hfm;have hq3:jk T tx=(Lx.fix T tx:Int):=by unfold jk;rw[if_pos hfm];exact hq2
     have aO:SMap wr S (jk T):=hS.move (hkr.block S ⟨lS,fun e=>Dr e.symm⟩);have eB:=Yn nd hq1 (fun t=>(B t).1) j1;have eK:=Yn nd hq1 (fun t=>(B t).2) kd;have Dm:Lx.fix T tx<T.length:=(List.getElem?_eq_some_iff.1 hq1).1;have HE2:Hid (∀t,Lx.bk t 0 jo (0,0)=Lx.bk t (j+1) (jo.drop (j+1)) (EK (j1,kd) (toks.drop (m+1)) (fun c=>if c=tx then (j1,kd) else B c) t)):=fun t=>by rw[hd t];rfl
     have eB':(T.map fun t=>((fun c=>if c=tx then (j1,kd) else B c) t).1)=T.map fun t=>if t=tx then j1 else (B t).1:=List.map_congr_left fun t _=>by show (if t=tx then (j1,kd) else B t).1=_;split <;> rfl
     have eK':(T.map fun t=>((fun c=>if c=tx then (j1,kd) else B c) t).2)=T.map fun t=>if t=tx then kd else (B t).2:=List.map_congr_left fun t _=>by show (if t=tx then (j1,kd) else B t).2=_;split <;> rfl
     have hl1:=SMap.look (w:=wr.drew) (aO.move rfl) tx;rw[hq3]at hl1;have HB0:Hid (Lx.fix T tx<(T.map fun t=>(B t).1).length):=by show _<_;simpa using Dm
     have qm:Hid (Lx.fix T tx<(T.map fun t=>(B t).2).length):=by show _<_;simpa using Dm
     have Si:=hq3;generalize Lx.fix T tx=q at hl1 eB eK Dm HB0 qm Si;have Sj:=jI.drew;have b0:wr.drew.cell? ⟨w.heap.size,q,none⟩=some (.int .i64 ((T.map fun t=>(B t).1)[q]'HB0.out:Int)):=by rw[Sj.cell q];exact WK _ HB0.out
     generalize (T.map fun t=>(B t).1)[q]'HB0.out=ob at b0;have fB:∀i,wr.drew.frozen? ⟨w.heap.size,i,none⟩=false:=Sj.frozen;have MS:=kr.drew;rw[hCS]at MS;have m3:wr.drew.cell? ⟨mb,3,none⟩=some (.slice (some ⟨w.heap.size,0,none⟩) T.length T.length):=MS.cell 3;have m5:wr.drew.cell? ⟨mb,5,none⟩=some (.map (some S)):=MS.cell 5;obtain⟨W2,hW2⟩:∃W2,W2=(wr.setCell ⟨w.heap.size,q,none⟩ (.int .i64 (j1:Int))).drew:=⟨_,rfl⟩;have kB2:aj W2 w.heap.size (iY (T.map fun t=>if t=tx then j1 else (B t).1)) 3:=by
      have:=(jI.set q (.int .i64 (j1:Int))).drew;rw[WJ,eB]at this;rw[hW2];exact this
     have bk2:∀g,g≠w.heap.size->W2.heap[g]?=wr.heap[g]?:=fun g hg=>by rw[hW2];exact zS0 hg
     have k2:aj W2 mb CS 127:=(bk2 mb (by omega)).trans kr;have kK2:=(bk2 (w.heap.size+1) (by omega)).trans Sg;have kl2:=(bk2 wz.heap.size (by omega)).trans klr;have hk2:Kp (fun g=>g<w.heap.size/\g≠mb) w W2:=⟨by rw[hW2];exact hkr.os,by rw[hW2];exact hkr.tape,by rw[hW2];exact hkr.output,by rw[hW2];simpa [World.setCell]using hkr.size,fun g hg=>(bk2 g (by omega)).trans (hkr.block g hg)⟩;have hM2:SMap W2 S (jk T):=aO.move (bk2 S (by omega));have hl2:=SMap.look (w:=W2.drew) (hM2.move rfl) tx;rw[Si]at hl2;have LP:aj W2 (w.heap.size+1) (iY (T.map fun t=>(B t).2)) 3:=kK2;have QJ:aj W2 wz.heap.size #[.int .i64 (kd:Int),.slice (some ⟨gT,0,none⟩) toks.length xc] 175:=kl2;have a0:W2.drew.cell? ⟨w.heap.size+1,q,none⟩=some (.int .i64 ((T.map fun t=>(B t).2)[q]'qm.out:Int)):=by rw[LP.drew.cell q];exact WK _ qm.out
     generalize (T.map fun t=>(B t).2)[q]'qm.out=ok at a0;have fK:∀i,W2.drew.frozen? ⟨w.heap.size+1,i,none⟩=false:=LP.drew.frozen;have MV:=k2.drew;rw[hCS]at MV;have n4:W2.drew.cell? ⟨mb,4,none⟩=some (.slice (some ⟨w.heap.size+1,0,none⟩) T.length T.length):=MV.cell 4;have n5:W2.drew.cell? ⟨mb,5,none⟩=some (.map (some S)):=MV.cell 5;have nl:W2.drew.cell? ⟨wz.heap.size,0,none⟩=some (.int .i64 (kd:Int)):=QJ.drew.cell 0;obtain⟨W3,hW3⟩:∃W3,W3=(W2.setCell ⟨w.heap.size+1,q,none⟩ (.int .i64 (kd:Int))).drew:=⟨_,rfl⟩;have kK3:aj W3 (w.heap.size+1) (iY (T.map fun t=>if t=tx then kd else (B t).2)) 3:=by
      have:=(LP.set q (.int .i64 (kd:Int))).drew;rw[WJ,eK]at this;rw[hW3];exact this
     have Jd:∀g,g≠w.heap.size+1->W3.heap[g]?=W2.heap[g]?:=fun g hg=>by rw[hW3];exact zS0 hg
     have k3:aj W3 mb CS 127:=(Jd mb (by omega)).trans k2;have kB3:aj W3 w.heap.size _ 3:=(Jd w.heap.size (by omega)).trans kB2;have kl3:aj W3 wz.heap.size _ 175:=(Jd wz.heap.size (by omega)).trans QJ;have hk3:Kp (fun g=>g<w.heap.size/\g≠mb) w W3:=⟨by rw[hW3];exact hk2.os,by rw[hW3];exact hk2.tape,by rw[hW3];exact hk2.output,by rw[hW3];simpa [World.setCell]using hk2.size,fun g hg=>(Jd g (by omega)).trans (hk2.block g hg)⟩;rw[<-eB']at kB3;rw[<-eK']at kK3;clear hd hq1 hq2 hq3 hcT hfm eB jI Sj eK eB' eK' kK2 LP kl2 QJ MV MS kB2 k2 hk2 hM2 Si HB0 qm bk2 Jd kr Sg klr aO hkr hTr;go_wp2_with fail
     go_region
     all_goals
      rw[<-hW2];clear hW2;go_wp2_with fail
      go_region
     all_goals
      rw[<-hW3];clear hW3;go_wp2_with fail;go_roundg (toks.length - (m+1))
      case measure=>omega
      case rel=>exact⟨m+1,_,by omega,by go_num,k3,kB3,kK3,kl3,hk3,HE2⟩
    ·have:m=toks.length:=by omega
     subst this;have hd:=HE.out;rw[List.drop_length]at hd;have HD2:Hid (∀t,Lx.bk t 0 jo (0,0)=Lx.bk t (j+1) (jo.drop (j+1)) (B t)):=hd;clear hd HE;go_wp2_with fail;go_roundg (jo.length - (j+1))
     case measure=>omega
     case rel=>exact⟨j+1,B,by omega,by first | rfl | (rw[HJ.out];done) | (rw[HJ.out];go_num),kr,jI,Sg,hkr,HD2⟩
  ·have:j=jo.length:=by omega
   subst this;have hd:=HD.out;rw[List.drop_length]at hd;have HD2:Hid (∀t,Lx.bk t 0 jo (0,0)=B t):=hd;clear hd HD;go_wp2_with fail
   go_end0
   rw[hCS]at kz;refine⟨rfl,⟨_,_,kz,?_,?_,?_⟩,hkz⟩
   ·rw[show (T.map fun t=>(Lx.bk t 0 jo (0,0)).1)=T.map fun t=>(B t).1 from List.map_congr_left fun t _=>by rw[HD2.out t]]
    have:=WL nU (zL0) (by simpa using MQ);simpa using this
   ·rw[show (T.map fun t=>(Lx.bk t 0 jo (0,0)).2)=T.map fun t=>(B t).2 from List.map_congr_left fun t _=>by rw[HD2.out t]]
    have:=WL (B:=w.heap.size) Jc (by omega) (by simpa using MQ);simpa using this
   ·intro g hg e
    have h1:w.heap.size=g:=by simpa [Value.ownBlock]using hg
    have h2:w.heap.size+1=g:=by simpa [Value.ownBlock]using e
    omega
def PlP(w:World)(v:Value)(T N:List ByteArray)(P:List Lx.Pd)(Bs Ks:List Nat):Prop:=∃vT vN vP vB vK,v=.agg #[vT,vN,vP,vB,vK]/\w.ownsRow 0 9 1 vT T.length (T.map Value.string)/\w.ownsRow 0 9 1 vN N.length (N.map Value.string)/\PP (fun _=>True) w vP P/\IR 0 w vB Bs/\IR 0 w vK Ks
def vz(B:Nat)(w:World)(v:Value)(T N:List ByteArray)(P:List Lx.Pd)(Bs Ks:List Nat):Prop:=∃vT vN vP vB vK,v=.agg #[vT,vN,vP,vB,vK]/\w.ownsRow 0 9 1 vT T.length (T.map Value.string)/\w.ownsRow 0 9 1 vN N.length (N.map Value.string)/\PP (fun g=>B<=g) w vP P/\IR 0 w vB Bs/\IR 0 w vK Ks/\∀g,vP.ownBlock=some g->B<=g
theorem vz.pl{B:Nat}{w:World}{v:Value}{T N:List ByteArray}{P:List Lx.Pd}{Bs Ks:List Nat}(h:vz B w v T N P Bs Ks):PlP w v T N P Bs Ks:=by
 obtain⟨vT,vN,vP,vB,vK,h0,h1,h2,⟨ps,p1,p2,p3,p4⟩,h4,h5,-⟩:=h;exact⟨vT,vN,vP,vB,vK,h0,h1,h2,⟨ps,p1,p2,fun q hq=>⟨(p3 q hq).1,fun _ _=>trivial⟩,p4⟩,h4,h5⟩
theorem PP.move{D D':Nat->Prop}{w w':World}{v:Value}{P:List Lx.Pd}(h:PP D w v P)(hD:∀g,D g->D' g)(hk:∀g,D g->w'.heap[g]?=w.heap[g]?)(hv:∀g,v.ownBlock=some g->w'.heap[g]?=w.heap[g]?):PP D' w' v P:=by
 obtain⟨ps,h1,h2,h3,h4⟩:=h;exact⟨ps,h1,aC h2 hv,fun q hq=>⟨aC (h3 q hq).1 fun g hg=>hk g ((h3 q hq).2 g hg),fun g hg=>hD g ((h3 q hq).2 g hg)⟩,h4⟩
theorem iJ.empty{κ:Type}{K:κ->Value}{G:κ->Prop}{w:World}{B:Nat}(h:w.heap[B]?=some (.map #[] 0)):iJ K G w B (fun _=>0) :=
 ⟨#[],0,h,fun i e h=>by simp at h,fun i j e e' h=>by simp at h,fun a h=>absurd rfl h⟩
theorem zN{w:World}{B e z:Nat}{v:Value}{n:Nat}{xs:List Value}(h:w.ownsRow B e z v n xs){g:Nat}(hg:v.ownBlock=some g):∃cur:Array Value,w.heap[g]?=some (.cells cur e):=by
 rcases h.2 with h0|⟨g',cap,cur,hv,-,hh,-⟩
 ·rw[h0.1]at hg;simp[Value.ownBlock]at hg
 ·have:g'=g:=by rw[hv]at hg;simpa [Value.ownBlock]using hg
  subst this;exact⟨cur,hh⟩
def Zr(g:Lx.Gr)(w:World)(e:Ending)(w':World):Prop:=∃v,e=.returned v/\vz w.heap.size w' v (aD g) (bg g) (bI g) ((aD g).map fun t=>(eT g t).1) ((aD g).map fun t=>(eT g t).2)/\Below w.heap.size w w'
theorem aeV{F:Nat->Prop}{w:World}{vl vr vW:Value}{g:Lx.Gr}{s:ByteArray}(hp:Lx.parse s=.ok g)(hf:Lx.Fit g)(hg:zX F w vl vr g)(hF:∀b,F b->b<w.heap.size)(wH:WR w vW (iE g))(ht:jd w)(hwl:(iE g).length<=100000):
  Calls prog 23 #[.agg #[vl,vr],vW] w (Zr g w):=by
 obtain⟨la,lc,rfl,-⟩:=Seq.len hg.1;obtain⟨ra,rc,rfl,-⟩:=(mo.len (F:=F) (w:=w) ⟨hF,dW.weak hg.2 fun A v x hA hk=>eO.weak hA hk⟩);obtain⟨wa,wc,rfl,-⟩:=wH.len;have hmm:=@run_makeMap prog;unfold Zr;go_enter func23,ntmps23;go_wp2_with fail;have e4:w.heap.size+1+1+1+1=w.heap.size+4:=rfl;have e3:w.heap.size+1+1+1=w.heap.size+3:=rfl;have e2:w.heap.size+1+1=w.heap.size+2:=rfl;rw[e4,e3,e2];clear e4 e3 e2 hmm;obtain⟨A1,hA1⟩:∃A1,A1=(w.alloc (.cells #[.slice la g.levels.length lc,.slice ra g.rules.length rc] 75)).alloc (.cells #[.slice none 0 0,.slice none 0 0,.slice none 0 0,.slice none 0 0,.slice none 0 0] 45):=⟨_,rfl⟩;have hsA:A1.heap.size=w.heap.size+2:=by rw[hA1];simp
 obtain⟨W,hW⟩:∃W,W=((A1.alloc (.map #[] 0)).alloc (.map #[] 0)).alloc (.cells #[.slice none 0 0,.slice none 0 0,.slice none 0 0,.slice none 0 0,.slice none 0 0,.map (some (w.heap.size+2)),.map (some (w.heap.size+3))] 127):=⟨_,rfl⟩;have jw:Below w.heap.size w A1:=by rw[hA1];exact((Below.refl _ _).alloc (zL0) _).alloc (by simp) _
 have LQ:Below A1.heap.size A1 W:=by rw[hW];exact(((Below.refl _ _).alloc (zL0) _).alloc (by simp) _).alloc (by simp;omega) _
 have hbW:Below w.heap.size w W:=jw.trans (LQ.mono (by omega));have IW:W.heap.size=w.heap.size+5:=by rw[hW];simp[hsA]
 have kG:aj W w.heap.size #[.slice la g.levels.length lc,.slice ra g.rules.length rc] 75:=by
  have:aj A1 w.heap.size #[.slice la g.levels.length lc,.slice ra g.rules.length rc] 75:=by rw[hA1];exact(aj.new w _ 75).alloc _
  exact(LQ.block _ (by omega)).trans this
 have kRs:aj W (w.heap.size+1) #[.slice none 0 0,.slice none 0 0,.slice none 0 0,.slice none 0 0,.slice none 0 0] 45:=by
  have:aj A1 (w.heap.size+1) #[.slice none 0 0,.slice none 0 0,.slice none 0 0,.slice none 0 0,.slice none 0 0] 45:=by rw[hA1];simpa using aj.new (w.alloc (.cells #[.slice la g.levels.length lc,.slice ra g.rules.length rc] 75)) #[.slice none 0 0,.slice none 0 0,.slice none 0 0,.slice none 0 0,.slice none 0 0] 45
  exact(LQ.block _ (by omega)).trans this
 have hSr:W.heap[w.heap.size+2]?=some (.map #[] 0):=by
  rw[hW,Below.heap_alloc _ _ _ (by simp;omega),Below.heap_alloc _ _ _ (by simp;omega),<-hsA];exact heap_alloc_new A1 _
 have hHr:W.heap[w.heap.size+3]?=some (.map #[] 0):=by
  rw[hW,Below.heap_alloc _ _ _ (by simp;omega),show w.heap.size+3=(A1.alloc (.map #[] 0)).heap.size by simp;omega];exact heap_alloc_new _ _
 have kM:aj W (w.heap.size+4) #[.slice none 0 0,.slice none 0 0,.slice none 0 0,.slice none 0 0,.slice none 0 0,.map (some (w.heap.size+2)),.map (some (w.heap.size+3))] 127:=by
  have:=aj.new ((A1.alloc (.map #[] 0)).alloc (.map #[] 0)) #[.slice none 0 0,.slice none 0 0,.slice none 0 0,.slice none 0 0,.slice none 0 0,.map (some (w.heap.size+2)),.map (some (w.heap.size+3))] 127;rw[hW];simpa [hsA]using this
 rw[hA1]at hW;rw[<-hW];clear hW hA1 jw LQ hsA;clear A1;have aaf:=wH.below hbW;have q1:=adU (S:=w.heap.size+2) kM (iJ.empty hSr) aaf (fun b hb=>by have:=(wH.lt b hb).2;omega) (afv hp) (aeU hp) hwl;rw[agy (ahK hp hf.unk)]at q1;refine q1.mono ?_;rintro e w2⟨rfl,⟨vT,kT,oT⟩,sT,Fh⟩;clear q1 aaf;obtain⟨ta,tc,rfl,-⟩:=aF oT;have kT':aj w2 (w.heap.size+4) #[.slice ta (aD g).length tc,.slice none 0 0,.slice none 0 0,.slice none 0 0,.slice none 0 0,.map (some (w.heap.size+2)),.map (some (w.heap.size+3))] 127:=kT;have hs2:=Fh.size;have b2:∀x,x<w.heap.size+2\/x=w.heap.size+3->w2.heap[x]?=W.heap[x]?:=fun x hx=>Fh.block x (by omega)
 have g2:∀x,x<w.heap.size->w2.heap[x]?=w.heap[x]?:=fun x hx=>(b2 x (by omega)).trans (hbW.block x hx)
 have tq:aj w2 w.heap.size _ 75:=(b2 _ (by omega)).trans kG;have gl:w2.cell? ⟨w.heap.size,0,none⟩=some (.slice la g.levels.length lc):=tq.cell 0;have hlv:g.levels.length<=100000:=by
  have h1:g.levels.length<=wY g.levels:=zU (fun l:Lx.Lv=>1+l.tokens.length) fun _ _=>by omega
  have:=hf.sz;omega
 have q2:=adV (S:=w.heap.size+2) kT' (dm oT (Nat.zero_le _)) sT (Seq.move hg.1 (fun b hb=>g2 b (hF b hb)) (fun _ h=>h) (fun v x h=>yh F F w w2 v x (fun b hb=>g2 b (hF b hb)) (fun _ h=>h) h)) (fun b hb=>by have:=hF b hb;omega) (TQ _ _ (by simp)) (fun l hl t ht=>Yh (List.mem_map.2 ⟨(0,t.1,t.2),List.mem_flatMap.2 ⟨l,hl,List.mem_map.2 ⟨t,ht,rfl⟩⟩,rfl⟩)) (by have:=hf.Lu;omega) hlv;go_wp2_with fail;refine q2.mono ?_;rintro e w3⟨rfl,⟨vB,vK,kL,oB,oK,hBK⟩,wI⟩;clear q2 gl;have hs3:=wI.size;have g3:∀x,x<w.heap.size->w3.heap[x]?=w.heap[x]?:=fun x hx=>(wI.block x (by omega)).trans (g2 x hx)
 have kL':aj w3 (w.heap.size+4) #[.slice ta (aD g).length tc,.slice none 0 0,.slice none 0 0,vB,vK,.map (some (w.heap.size+2)),.map (some (w.heap.size+3))] 127:=kL;have dB:aj w3 w.heap.size _ 75:=(wI.block w.heap.size (by omega)).trans tq;have gr:w3.cell? ⟨w.heap.size,1,none⟩=some (.slice ra g.rules.length rc):=dB.cell 1;have vU:SMap w3 (w.heap.size+2) (jk (aD g)):=sT.move (wI.block _ (by omega));have hH3:w3.heap[w.heap.size+3]?=some (.map #[] 0):=(wI.block _ (by omega)).trans ((b2 _ (.inr rfl)).trans hHr);have Sk:Tr.dW F w3 179 2 cR KR (.slice ra g.rules.length rc) g.rules:=dW.move hg.2 (fun b hb=>g3 b (hF b hb)) (fun _ h=>h) fun A v x hA hk=>qX A A w w3 v x (fun b hb=>g3 b (hF b (hA b hb))) (fun _ h=>h) hk
 have aj8:=ht.lt;have t3:jd w3:=ht.move (g3 rA aj8);have hnm:∀r∈g.rules,r.name.size<=2000:=fun r hr=>by have:=WC (hf.rl r hr).1;omega
 have hnl:(dY g.rules).length<=50000:=by have h1:(bg g).length<=2002:=hf.Qk;have h2:bg g=dY g.rules:=rfl;rw[<-h2];omega
 have q3:=aee (D:=fun x=>x<w3.heap.size/\x≠w.heap.size+4/\x≠w.heap.size+2/\x≠w.heap.size+3) kL' vU (iJ.empty hH3) Sk (fun b hb=>by have:=hF b hb;exact⟨by omega,by omega,by omega,by omega⟩) (fun b hb=>hb.1) (fun h=>h.2.1 rfl) (fun h=>h.2.2.1 rfl) (fun h=>h.2.2.2 rfl) (by omega) t3 ⟨by omega,by omega,by omega,by omega⟩ (OE hf.dup) hnm (by have:=hf.Lu;omega) hnl (by have:=hf.rules;omega);go_wp2_with fail;refine q3.mono ?_;rintro e w4⟨rfl,⟨fH,fS,n4,sm4,sy4,he4⟩,wJ⟩;clear q3 gr;rw[List.take_length]at n4;obtain⟨vN,k4,oN,dN⟩:=n4.ex;have hs4:=wJ.size;have g4:∀x,x<w.heap.size->w4.heap[x]?=w.heap[x]?:=fun x hx=>(wJ.block x ⟨by omega,by omega,by omega,by omega⟩).trans (g3 x hx)
 have lH4:w.heap.size+3<w4.heap.size:=iJ.lt n4.pm;have lS4:w.heap.size+2<w4.heap.size:=iJ.lt sm4;have lM4:=k4.lt;have hMp:Mp (fun x=>(x<w3.heap.size/\x≠w.heap.size+4/\x≠w.heap.size+2/\x≠w.heap.size+3)\/x=w.heap.size+2\/x=w.heap.size+3\/vN.ownBlock=some x) (fun b=>F b/\iW w3 b) w4 (w.heap.size+4) (w.heap.size+2) (w.heap.size+3) ta (aD g).length tc vN vB vK fS fH []:=by
  refine⟨⟨.slice none 0 0,k4,⟨[],rfl,World.ownsRow_nil _ _ _ _,fun q hq=>(by cases hq),List.Pairwise.nil⟩,fun x hx=>(by cases hx)⟩,sm4,n4.pm,.inr (.inl rfl),.inr (.inr (.inl rfl)),?_,?_,?_⟩
  ·rintro(h | h | h | h)
   ·exact h.2.1 rfl
   ·omega
   ·omega
   ·exact(dN _ h).2.1 rfl
  ·rintro x(h | h | h | h)
   ·omega
   ·omega
   ·omega
   ·exact(oN.lt x h).2
  ·intro b hb
   have hb':=hF b hb.1;exact⟨.inl ⟨by omega,by omega,by omega,by omega⟩,hb.2.move (wJ.block b ⟨by omega,by omega,by omega,by omega⟩)⟩
 have Je:∀b,F b->w4.heap[b]?=w3.heap[b]?:=fun b hb=>by
  have hb':=hF b hb;exact wJ.block b ⟨by omega,by omega,by omega,by omega⟩
 have hR4:Tr.dW F w4 179 2 cR KR (.slice ra g.rules.length rc) g.rules:=dW.move Sk Je (fun _ h=>h) fun A v x hA hk=>qX A A w3 w4 v x (fun b hb=>Je b (hA b hb)) (fun _ h=>h) hk
 have aj9:mo F w3 (.slice ra g.rules.length rc) g.rules:=⟨fun b hb=>by have:=hF b hb;omega,dW.weak Sk fun A v x hA hk=>eO.weak hA hk⟩;have aag:mo F w4 (.slice ra g.rules.length rc) g.rules:=⟨fun b hb=>by have:=hF b hb;omega,dW.weak hR4 fun A v x hA hk=>eO.weak hA hk⟩;have hcv:∀i(hi:i<g.rules.length),cv w4 ⟨aY (.slice ra g.rules.length rc),i*2+1,none⟩=cv w3 ⟨aY (.slice ra g.rules.length rc),i*2+1,none⟩/\aT 9 w4 (cv w4 ⟨aY (.slice ra g.rules.length rc),i*2+1,none⟩) g.rules[i].alts=aT 9 w3 (cv w3 ⟨aY (.slice ra g.rules.length rc),i*2+1,none⟩) g.rules[i].alts:=fun i hi=>by
  obtain⟨gR,cap,va,hv,hFg,hA,c0,c1⟩:=aj9.at hi;rw[hv];show cv w4 ⟨gR,i*2+1,none⟩=cv w3 ⟨gR,i*2+1,none⟩/\_;have e1:cv w4 ⟨gR,i*2+1,none⟩=cv w3 ⟨gR,i*2+1,none⟩:=O6 (Je gR hFg);refine⟨e1,?_⟩;show aT 9 w4 (cv w4 ⟨gR,i*2+1,none⟩) _=aT 9 w3 (cv w3 ⟨gR,i*2+1,none⟩) _;have e2:cv w3 ⟨gR,i*2+1,none⟩=va:=by unfold cv;rw[c1];rfl
  rw[e1,e2];exact Gb hA Je
 have aah:vw w4 (aY (.slice ra g.rules.length rc)) (aD g).length g.rules g.rules.length fH:=by
  intro i hi hlt k p hp;refine he4 i hi hlt k p ?_;unfold hlA at hp|-;rw[(hcv i hi).2]at hp;exact hp
 have hQ:=ahM hf aag (TL hR4) sy4 aah (G:=fun b=>F b/\iW w3 b) (fun b hb hc=>⟨hb,hc.move (Je b hb).symm⟩);have MW:aj w4 w.heap.size _ 75:=(wJ.block w.heap.size ⟨by omega,by omega,by omega,by omega⟩).trans dB;have gr4:w4.cell? ⟨w.heap.size,1,none⟩=some (.slice ra g.rules.length rc):=MW.cell 1;have q4:=aeg (T:=aD g) (N:=bg g) hMp aag (fun b hb=>by have hb':=hF b hb;exact .inl ⟨by omega,by omega,by omega,by omega⟩) hQ hf.ne (by have:=hf.rules;omega);go_wp2_with fail;refine q4.mono ?_;rintro e w5⟨rfl,E,hE,fE,Bf⟩;clear q4 gr4 hQ aah;obtain⟨vP,k5,xJ,Df⟩:=fE.ex;have hD4:∀x,x<w3.heap.size->x≠w.heap.size+4->x≠w.heap.size+2->x≠w.heap.size+3->w5.heap[x]?=w4.heap[x]?:=fun x h1 h2 h3 h4=>Bf.block x (.inl ⟨h1,h2,h3,h4⟩)
 have MX:∀x,x<w3.heap.size->x≠w.heap.size+4->x≠w.heap.size+2->x≠w.heap.size+3->w5.heap[x]?=w3.heap[x]?:=fun x h1 h2 h3 h4=>(hD4 x h1 h2 h3 h4).trans (wJ.block x ⟨h1,h2,h3,h4⟩)
 have qV:aj w5 (w.heap.size+1) #[.slice none 0 0,.slice none 0 0,.slice none 0 0,.slice none 0 0,.slice none 0 0] 45:=(MX _ (by omega) (by omega) (by omega) (by omega)).trans ((wI.block _ (by omega)).trans ((b2 _ (by omega)).trans kRs));have oT5:w5.ownsRow 0 9 1 (.slice ta (aD g).length tc) (aD g).length ((aD g).map Value.string):=dm (aC (aC oT fun x hx=>wI.block x (by have:=oT.lt x hx;omega)) fun x hx=>by have:=oT.lt x hx;exact MX x (by omega) (by omega) (by omega) (by omega)) (Nat.zero_le _);have nT1:(Value.slice ta (aD g).length tc).ownBlock≠some (w.heap.size+1):=fun e=>by have:=(oT.lt _ e).1;omega
 have oB5:=dm (aC (w':=w5) oB fun x hx=>by have:=oB.lt x hx;exact MX x (by omega) (by omega) (by omega) (by omega)) (Nat.zero_le _);have nB1:vB.ownBlock≠some (w.heap.size+1):=fun e=>by have:=(oB.lt _ e).1;omega
 have oK5:=dm (aC (w':=w5) oK fun x hx=>by have:=oK.lt x hx;exact MX x (by omega) (by omega) (by omega) (by omega)) (Nat.zero_le _);have nK1:vK.ownBlock≠some (w.heap.size+1):=fun e=>by have:=(oK.lt _ e).1;omega
 have oN5:=aC (w':=w5) oN fun x hx=>Bf.block x (.inr (.inr (.inr hx)))
 have nN1:vN.ownBlock≠some (w.heap.size+1):=fun e=>(dN _ e).1 (.inl ⟨by omega,by omega,by omega,by omega⟩)
 have nE1:E (w.heap.size+1):=hE _ (.inl ⟨by omega,by omega,by omega,by omega⟩);have nP1:vP.ownBlock≠some (w.heap.size+1):=fun e=>(Df _ e).1 nE1
 have eY:∀x,vP.ownBlock=some x->w.heap.size<=x:=fun x hx=>by have:=(Df x hx).2;omega
 have hnd:PP (fun x=>x≠w.heap.size+1/\w.heap.size<=x) w5 vP (bI g):=by
  obtain⟨ps,p1,p2,p3,p4⟩:=xJ;refine⟨ps,p1,p2,fun q hq=>⟨(p3 q hq).1,fun x hx=>⟨fun e=>?_,by have:=((p3 q hq).2 x hx).2;omega⟩⟩,p4⟩;obtain⟨cur,hc⟩:=zN (p3 q hq).1 hx;unfold aj at qV;rw[e,qV]at hc;cases hc
 have Cy:Below w.heap.size w w5:=⟨Bf.os.trans (wJ.os.trans (wI.os.trans (Fh.os.trans hbW.os))),Bf.tape.trans (wJ.tape.trans (wI.tape.trans (Fh.tape.trans hbW.tape))),Bf.output.trans (wJ.output.trans (wI.output.trans (Fh.output.trans hbW.output))),by have:=Bf.size;omega,fun x hx=>(hD4 x (by omega) (by omega) (by omega) (by omega)).trans (g4 x hx)⟩;obtain⟨na,nc,rfl,-⟩:=aF oN5;obtain⟨ps,hp1,hp2,hp3⟩:=id hnd;obtain⟨pa,pc,rfl,-⟩:=aF hp2;obtain⟨ba,bc,rfl,-⟩:=aF oB5;obtain⟨ka,kc,rfl,-⟩:=aF oK5;have m0:w5.cell? ⟨w.heap.size+4,0,none⟩=some (.slice ta (aD g).length tc):=k5.cell 0;have m1:w5.cell? ⟨w.heap.size+4,1,none⟩=some (.slice na (dY g.rules).length nc):=k5.cell 1;have m2:w5.cell? ⟨w.heap.size+4,2,none⟩=some (.slice pa (bI g).length pc):=k5.cell 2;have m3:=k5.cell 3;have m4:=k5.cell 4;have r0:w5.cell? ⟨w.heap.size+1,0,none⟩=some (.slice none 0 0):=qV.cell 0;have r1:w5.cell? ⟨w.heap.size+1,1,none⟩=some (.slice none 0 0):=qV.cell 1;have r2:w5.cell? ⟨w.heap.size+1,2,none⟩=some (.slice none 0 0):=qV.cell 2;have r3:w5.cell? ⟨w.heap.size+1,3,none⟩=some (.slice none 0 0):=qV.cell 3;have r4:w5.cell? ⟨w.heap.size+1,4,none⟩=some (.slice none 0 0):=qV.cell 4;have rf:∀i,w5.frozen? ⟨w.heap.size+1,i,none⟩=false:=qV.frozen;clear hp1 hp2 hp3;clear fE Bf wJ wI Fh xJ Df hE;simp at m3 m4;obtain⟨w6,tL⟩:∃w6,w6=((((w5.setCell ⟨w.heap.size+1,0,none⟩ (.slice ta (aD g).length tc)).setCell ⟨w.heap.size+1,1,none⟩ (.slice na (dY g.rules).length nc)).setCell ⟨w.heap.size+1,2,none⟩ (.slice pa (bI g).length pc)).setCell ⟨w.heap.size+1,3,none⟩ (.slice ba ((aD g).map fun t=>(Lx.bk t 0 g.levels (0,0)).1).length bc)).setCell ⟨w.heap.size+1,4,none⟩ (.slice ka ((aD g).map fun t=>(Lx.bk t 0 g.levels (0,0)).2).length kc):=⟨_,rfl⟩
 have k6:aj w6 (w.heap.size+1) #[.slice ta (aD g).length tc,.slice na (dY g.rules).length nc,.slice pa (bI g).length pc,.slice ba ((aD g).map fun t=>(Lx.bk t 0 g.levels (0,0)).1).length bc,.slice ka ((aD g).map fun t=>(Lx.bk t 0 g.levels (0,0)).2).length kc] 45:=by rw[tL];exact((((qV.set 0 _).set 1 _).set 2 _).set 3 _).set 4 _
 have b6:∀x,x≠w.heap.size+1->w6.heap[x]?=w5.heap[x]?:=fun x hx=>by rw[tL,zS0 hx,zS0 hx,zS0 hx,zS0 hx,zS0 hx]
 have LU:Below w.heap.size w w6:=by rw[tL];exact((((Cy.setCell (p:=⟨w.heap.size+1,0,none⟩) (by show w.heap.size<=w.heap.size+1;omega) _).setCell (p:=⟨w.heap.size+1,1,none⟩) (by show w.heap.size<=w.heap.size+1;omega) _).setCell (p:=⟨w.heap.size+1,2,none⟩) (by show w.heap.size<=w.heap.size+1;omega) _).setCell (p:=⟨w.heap.size+1,3,none⟩) (by show w.heap.size<=w.heap.size+1;omega) _).setCell (p:=⟨w.heap.size+1,4,none⟩) (by show w.heap.size<=w.heap.size+1;omega) _
 have hfin:vz w.heap.size w6 (.agg #[.slice ta (aD g).length tc,.slice na (dY g.rules).length nc,.slice pa (bI g).length pc,.slice ba ((aD g).map fun t=>(Lx.bk t 0 g.levels (0,0)).1).length bc,.slice ka ((aD g).map fun t=>(Lx.bk t 0 g.levels (0,0)).2).length kc]) (aD g) (bg g) (bI g) ((aD g).map fun t=>(eT g t).1) ((aD g).map fun t=>(eT g t).2) :=
  ⟨_,_,_,_,_,rfl,aC oT5 fun x hx=>b6 x fun e=>nT1 (e▸hx),aC oN5 fun x hx=>b6 x fun e=>nN1 (e▸hx),hnd.move (fun _ hx=>hx.2) (fun x hx=>b6 x hx.1) (fun x hx=>b6 x fun e=>nP1 (e▸hx)),aC oB5 fun x hx=>b6 x fun e=>nB1 (e▸hx),aC oK5 fun x hx=>b6 x fun e=>nK1 (e▸hx),eY⟩
 have s0:=k6.cell 0;have s1:=k6.cell 1;have s2:=k6.cell 2;have s3:=k6.cell 3;have s4:=k6.cell 4;simp at s0 s1 s2 s3 s4;have I9:Hid (((aD g).map fun t=>(Lx.bk t 0 g.levels (0,0)).1).length=(aD g).length):=by show _=_;simp
 have xM:Hid (((aD g).map fun t=>(Lx.bk t 0 g.levels (0,0)).2).length=(aD g).length):=by show _=_;simp
 rw[I9.out,xM.out]at tL hfin;go_wp2_with fail;rw[<-tL];exact bodyPost_ret (v:=.agg #[.slice ta (aD g).length tc,.slice na (dY g.rules).length nc,.slice pa (bI g).length pc,.slice ba (aD g).length bc,.slice ka (aD g).length kc]) (by simp[results,results23,go_sem,s0,s1,s2,s3,s4]) rfl ⟨_,rfl,hfin,LU⟩
theorem PP.at{D:Nat->Prop}{w:World}{v:Value}{P:List Lx.Pd}(h:PP D w v P){j:Nat}(hj:j<P.length):∃g cap u,v=.slice (some ⟨g,0,none⟩) P.length cap/\IR 0 w u P[j].right/\w.cell? ⟨g,j*3,none⟩=some (.int .i64 (P[j].left:Int))/\w.cell? ⟨g,j*3+1,none⟩=some u/\w.cell? ⟨g,j*3+2,none⟩=some (.int .i64 P[j].prec):=by
 obtain⟨ps,h1,h2,h3,-⟩:=h;have hs:Tr.Seq (fun _=>True) w 51 3 nV (fun u q=>IR 0 w u q.right) v P:=⟨ps,h1,h2,fun _ _=>trivial,fun q hq=>(h3 q hq).1⟩;obtain⟨g,cap,u,k1,-,k3,k4⟩:=Seq.at hs (fun _=>rfl) hj;exact⟨g,cap,u,k1,k3,k4 0 (by decide),k4 1 (by decide),k4 2 (by decide)⟩
theorem PP.below{D:Nat->Prop}{w w':World}{v:Value}{P:List Lx.Pd}(h:PP D w v P)(hb:Below w.heap.size w w'):PP D w' v P:=by
 obtain⟨ps,h1,h2,h3,h4⟩:=h;exact⟨ps,h1,own_below h2 hb,fun q hq=>⟨own_below (h3 q hq).1 hb,(h3 q hq).2⟩,h4⟩
end Go.Proofs.YtjaalkocdbkdeaaGreatDoor

import Derived.Shelf.Strconv.Itoa0
import Derived.Shelf.Strconv.Itoa1
import Derived.Shelf.Strconv.Itoa2
import Derived.Shelf.Strconv.Itoa3
import Derived.Shelf.Slices.Clone
import Derived.Test.YtfpjphhnjegnjaaGreatDoorProg
import Derived.Test.YtfpjphhnjegnjaaGreatDoorCL02
import Derived.Lib.AppendIntMem
import Derived.Deep.RegionWith
import Derived.Deep.CutRange
import Derived.Lib.AppendZeros
set_option maxHeartbeats 8000000
set_option maxRecDepth 1000000
namespace Go.Proofs.YtfpjphhnjegnjaaGreatDoor
open Lx Go.Proofs.Tryz
open Go.RowKit Tr
end Go.Proofs.YtfpjphhnjegnjaaGreatDoor
namespace Go.Proofs
open Go.Shelf
def Tryz.afQ:Go.Shelf.Ren:=⟨fun | 171=>143 | 243=>181 | 246=>198 | 283=>214 | 284=>215 | 285=>216 | 286=>217 | 129=>210 | 317=>229 | 318=>230 | 319=>231 | 320=>232 | 337=>236 | 338=>123 | n=>n,fun | 3=>3 | 9=>9 | 2=>2 | 4=>4 | 171=>368 | 0=>0 | 53=>275 | 37=>126 | 5=>5 | 173=>370 | 212=>381 | 51=>140 | 20=>20 | 213=>382 | 46=>234 | 232=>387 | 233=>335 | n=>n,fun | 17=>4 | 18=>5 | 19=>2 | n=>n⟩
theorem Tryz.ajs:Go.Proofs.LaysM.n171 prog Tryz.afQ:={
 mixed:=by kernel_rfl
 f129:=func210.trans (congrArg some (by kernel_rfl))
 f171:=func143.trans (congrArg some (by kernel_rfl))
 f243:=func181.trans (congrArg some (by kernel_rfl))
 f246:=func198.trans (congrArg some (by kernel_rfl))
 f283:=func214.trans (congrArg some (by kernel_rfl))
 f284:=func215.trans (congrArg some (by kernel_rfl))
 f285:=func216.trans (congrArg some (by kernel_rfl))
 f286:=func217.trans (congrArg some (by kernel_rfl))
 f317:=func229.trans (congrArg some (by kernel_rfl))
 f318:=func230.trans (congrArg some (by kernel_rfl))
 f319:=func231.trans (congrArg some (by kernel_rfl))
 f320:=func232.trans (congrArg some (by kernel_rfl))
 f337:=func236.trans (congrArg some (by kernel_rfl))
 f338:=func123.trans (congrArg some (by kernel_rfl))
 t0:=underlying0
 a0:=Tryz.isAgg0
 z0:=Tryz.sizeOf0
 v0:=Tryz.zeroValue0
 t2:=underlying2
 a2:=Tryz.isAgg2
 z2:=Tryz.sizeOf2
 v2:=Tryz.zeroValue2
 t3:=underlying3
 a3:=Tryz.isAgg3
 z3:=Tryz.sizeOf3
 v3:=Tryz.zeroValue3
 t4:=underlying4
 a4:=Tryz.isAgg4
 z4:=Tryz.sizeOf4
 v4:=Tryz.zeroValue4
 t5:=underlying5
 a5:=Tryz.isAgg5
 z5:=Tryz.sizeOf5
 v5:=Tryz.zeroValue5
 t9:=underlying9
 a9:=Tryz.isAgg9
 z9:=Tryz.sizeOf9
 v9:=Tryz.zeroValue9
 t20:=underlying20
 a20:=Tryz.isAgg20
 z20:=Tryz.sizeOf20
 v20:=Tryz.zeroValue20
 t37:=underlying126
 a37:=Tryz.isAgg126
 z37:=Tryz.sizeOf126
 v37:=Tryz.zeroValue126
 t46:=underlying234
 a46:=Tryz.isAgg234
 z46:=Tryz.sizeOf234
 v46:=Tryz.zeroValue234
 t51:=underlying140
 a51:=Tryz.isAgg140
 z51:=Tryz.sizeOf140
 v51:=Tryz.zeroValue140
 t53:=underlying275
 a53:=Tryz.isAgg275
 z53:=Tryz.sizeOf275
 v53:=Tryz.zeroValue275
 t171:=underlying368
 a171:=Tryz.isAgg368
 z171:=Tryz.sizeOf368
 v171:=Tryz.zeroValue368
 t173:=underlying370
 a173:=Tryz.isAgg370
 z173:=Tryz.sizeOf370
 v173:=Tryz.zeroValue370
 t212:=underlying381
 a212:=Tryz.isAgg381
 z212:=Tryz.sizeOf381
 v212:=Tryz.zeroValue381
 t213:=underlying382
 a213:=Tryz.isAgg382
 z213:=Tryz.sizeOf382
 t232:=underlying387
 a232:=Tryz.isAgg387
 z232:=Tryz.sizeOf387
 v232:=Tryz.zeroValue387
 t233:=underlying335
 a233:=Tryz.isAgg335
 z233:=Tryz.sizeOf335
 v233:=Tryz.zeroValue335
 g17:=by kernel_rfl
 g18:=by kernel_rfl
 g19:=by kernel_rfl
 i0:=by kernel_rfl
 i2:=by kernel_rfl
 i3:=by kernel_rfl
 i4:=by kernel_rfl
 i5:=by kernel_rfl
 i9:=by kernel_rfl
 i20:=by kernel_rfl
 i37:=by kernel_rfl
 i46:=by kernel_rfl
 i51:=by kernel_rfl
 i53:=by kernel_rfl
 i171:=by kernel_rfl
 i173:=by kernel_rfl
 i212:=by kernel_rfl
 i232:=by kernel_rfl
 i233:=by kernel_rfl
 m17:=by kernel_rfl
 m18:=by kernel_rfl
 m19:=by kernel_rfl }
open Go.RowKit Go.Sort Go.Lib in
theorem Tryz.strconv_Itoa (n : Int) (b : -9223372036854775808 ≤ n) (h1 : n ≤ 9223372036854775807) (w : World) (a : Lib.TabIs prog w "internal/strconv.uint64pow10" .u64 Lib.pow10Tab) :
  Calls prog 143 #[.int .i64 n] w fun e w'=>e=.returned (.string ⟨(Lib.itoa n).toArray⟩)/\∃k os,w'=grow (w.drewN k) os:=Any.strconv_Itoa Tryz.ajs n b h1 w a
def Tryz.afp:Go.Shelf.Ren:=⟨fun | 15=>182 | n=>n,fun | 22=>47 | 3=>3 | 4=>4 | n=>n,fun | n=>n⟩
theorem Tryz.ZY:Go.Proofs.Lays2.n15 prog Tryz.afp:={
 mixed:=by kernel_rfl
 f15:=func182.trans (congrArg some (by kernel_rfl))
 t3:=underlying3
 a3:=Tryz.isAgg3
 z3:=Tryz.sizeOf3
 v3:=Tryz.zeroValue3
 t4:=underlying4
 a4:=Tryz.isAgg4
 z4:=Tryz.sizeOf4
 v4:=Tryz.zeroValue4
 t22:=underlying47
 a22:=Tryz.isAgg47
 z22:=Tryz.sizeOf47
 v22:=Tryz.zeroValue47
 i3:=by kernel_rfl }
open Go.RowKit Go.Lib in
theorem Tryz.slices_Clone_int(b off n c:Nat)(a:List Int)(w:World)(g:n<=a.length)(d:n*8<=140737488355328)(f:∀j,j<a.length->w.cell? ⟨b,off+j,none⟩=some (.int .i64 (a.getD j 0))):
  Calls prog 182 #[.slice (some ⟨b,off,none⟩) n c] w fun e w'=>∃v',e=.returned v'/\w'.ownsRow w.heap.size 3 1 v' n ((a.take n).map (Value.int .i64))/\v'≠.slice none 0 0/\Below w.heap.size w w':=Any.slices_Clone_int Tryz.ZY b off n c a w g d f
open Go.RowKit Go.Lib in
theorem Tryz.slices_Clone_int_nil(n c:Nat)(w:World):
  Calls prog 182 #[.slice none n c] w fun e w'=>e=.returned (.slice none 0 0)/\w'=w:=Any.slices_Clone_int_nil Tryz.ZY n c w
end Go.Proofs
namespace Go.Proofs.YtfpjphhnjegnjaaGreatDoor
open Lx Go.Proofs.Tryz
open Go.RowKit Tr
open Go.Value renaming slice→ς,int→ι,string→τ,pointer→π,bool→μ,agg→γ,tuple→θ
open Go.IntKind renaming i64→ξ
open Option renaming none→ν,some→ο
open Go.Ending renaming returned→δ
open Go.Obj renaming cells→ζ
open Bool renaming true→η,false→ε
open Go renaming World→ω,Value→υ,Calls→χ
open Go.RowKit renaming Below→φ
variable{A u v vB vK vN vP vR va:υ}{B H cb d e i j k m n nT rb s t tc xb z:Nat}{D F G:Nat->Prop}{J f0 fS:ByteArray->Int}{N:List ByteArray}{P:ByteArray->Prop}{b c:ByteArray}{caps:Array υ}{f fH:Addr->Int}{o:ω->Prop}{on:ByteArray->Bool}{ps:List (List Nat)}{r:List Nat}{rs:List Rl}{ta:Option Addr}{w w' w0:ω}
def iy (w : World) : Prop := Lib.TabIs prog w "internal/strconv.uint64pow10" .u64 Lib.pow10Tab
def rU:Nat:=4
theorem Jj : prog.globalNamed "internal/strconv.uint64pow10" = some rU := by kernel_rfl
theorem iy.move(h:iy w)(a:w'.heap[rU]?=w.heap[rU]?):iy w':=by
 unfold iy Lib.TabIs World.var? at *;rw[Jj]at h|-;simp only[Option.bind_some]at h|-;rw[a];exact h
theorem iy.lt(h:iy w):rU<w.heap.size:=by
 unfold iy Lib.TabIs World.var? at h;rw[Jj]at h;simp only[Option.bind_some]at h;rcases s7 rU w.heap.size with a|a
 ·exact a
 ·rw[s8 a]at h;cases h
theorem ajt(h:iy w)(n:Nat)(a:n<=100000):χ prog 143 #[ι ξ (n:Int)] w fun e w'=>e=δ (τ (Gz n))/\φ w.heap.size w w':=by
 refine(Tryz.strconv_Itoa (n:Int) (by omega) (by omega) w h).mono ?_;rintro e w'⟨rfl,k,b,rfl⟩;refine⟨?_,Lib.below_grow _ _ (dv _) _ _⟩;have:Lib.itoa (n:Int)=Lib.decDigits n:=by unfold Lib.itoa;rw[dt (by omega),ij]
 rw[this];rfl
structure Nm(D:Nat->Prop)(w:ω)(mb H:Nat)(ta:Option Addr)(nT tc:Nat)(vP vB vK vS:υ)(N:List ByteArray)(G:Nat->Prop)(f:Addr->Int):Prop where
 ex:∃vN,aj w mb #[ς ta nT tc,vN,vP,vB,vK,vS,.map (ο H)] 216/\w.ownsRow 0 9 1 vN N.length (N.map τ)/\(∀g,vN.ownBlock=ο g->¬D g/\g≠mb/\g≠H)
 pm:tJ G w H f
 nm:¬D mb
 nH:¬D H
 ne:mb≠H
 lt:∀g,D g->g<w.heap.size
section
variable{D G:Nat -> Prop}{w w':ω}{mb H:Nat}{ta:Option Addr}{nT tc:Nat}{vP vB vK vS:υ}{N:List ByteArray}{f:Addr -> Int}
theorem Nm.lm(h:Nm D w mb H ta nT tc vP vB vK vS N G f):mb<w.heap.size:=by
 obtain⟨a,h1,-⟩:=h.ex;exact h1.lt
theorem Nm.other(h:Nm D w mb H ta nT tc vP vB vK vS N G f)(b:∀g,g<w.heap.size->¬D g->w'.heap[g]?=w.heap[g]?)(m:w.heap.size<=w'.heap.size):Nm D w' mb H ta nT tc vP vB vK vS N G f:=by
 obtain⟨⟨k,h1,h2,h3⟩,c,i,d,l,j⟩:=h;exact⟨⟨k,(b _ h1.lt i).trans h1,ay h2 fun g a=>b g (h2.lt g a).2 (h3 g a).1,h3⟩,c.move (b _ (bZ.lt c) d),i,d,l,fun g a=>dg (j g a) m⟩
theorem Nm.below(h:Nm D w mb H ta nT tc vP vB vK vS N G f)(a:φ w.heap.size w w'):Nm D w' mb H ta nT tc vP vB vK vS N G f/\Kp D w w':=⟨h.other (fun g b _=>a.block g b) a.size,Kp.below a h.lt⟩
theorem Nm.named{d:ByteArray}{b v3:υ}(h:Nm D w mb H ta nT tc vP vB vK vS N G f)(i:aj w mb #[ς ta nT tc,b,vP,vB,vK,vS,.map (ο H)] 216)(p:Puts 216 9 1 w mb 1 b (N.length+1) ((N++[d]).map τ) #[ς ta nT tc,b,vP,vB,vK,vS,.map (ο H)] v3 w'):Nm D w' mb H ta nT tc vP vB vK vS (N++[d]) G f/\Kp D w w':=by
 obtain⟨⟨r,h1,h2,h3⟩,k,m,q,l,c⟩:=h;unfold aj at i h1;rw[i]at h1;obtain⟨⟩:=h1;have n:=bZ.lt k;have o:b.ownBlock≠ο H:=fun e=>(h3 H e).2.2 rfl
 refine⟨⟨⟨v3,p.blk,by rw[cJ];exact p.row,fun g a=>?_⟩,k.move (p.keep H n (fun e=>l e.symm) o),m,q,l,fun g a=>dg (c g a) p.size⟩,⟨p.os,p.tape,p.output,p.size,fun g a=>p.keep g (c g a) (fun e=>m (e▸a)) (fun e=>(h3 g e).1 a)⟩⟩;rcases p.at_ g a with j|j
 ·exact h3 g j
 ·exact⟨fun hd=>by have:=c g hd;omega,fun e=>p.ne (e▸a),fun e=>by omega⟩
theorem Nm.anx{d:Addr->Int}(h:Nm D w mb H ta nT tc vP vB vK vS N G f)(n:tJ G w' H d)(a:w.grownBy w' (ο H)):Nm D w' mb H ta nT tc vP vB vK vS N G d/\Kp D w w':=by
 obtain⟨⟨l,h1,h2,h3⟩,p,o,i,j,c⟩:=h;have b:∀g,g<w.heap.size->g≠H->w'.heap[g]?=w.heap[g]?:=fun g k m=>a.block g k fun e=>m (fL e)
 exact⟨⟨⟨l,(b _ h1.lt j).trans h1,ay h2 fun g a=>b g (h2.lt g a).2 (h3 g a).2.2,h3⟩,n,o,i,j,fun g hd=>dg (c g hd) a.size⟩,⟨a.os,a.tape,a.output,a.size,fun g hd=>b g (c g hd) fun e=>i (e▸hd)⟩⟩
end
def hNames(nm:ByteArray)(n:Nat):List ByteArray:=(List.range n).map fun k=>Lx.hName nm (k+1)
theorem agj(a:ByteArray)(n:Nat):hNames a (n+1)=hNames a n++[Lx.hName a (n+1)]:=by unfold hNames;rw[wg,ee];rfl
theorem RP(a:ByteArray)(n:Nat):(hNames a n).length=n:=by simp[hNames]
def DZ(b:Nat)(L:List AI)(f f':Addr->Int):Prop:=(∀a,(∀p∈L,p.1≠a)->f' a=f a)/\∀k p,L[k]?=ο p->f' p.1=((b+k:Nat):Int)
theorem DZ.push{b:Nat}{L:List AI}{j:Addr->Int}(h:DZ b L f j){p:AI}(l:((L++[p]).map Prod.fst).Nodup):DZ b (L++[p]) f (fun c=>if c=p.1 then ((b+L.length:Nat):Int) else j c):=by
 rw[ee,j7]at l;have g:∀q∈L,q.1≠p.1:=fun q hq=>l.2.2 _ (fk.2 ⟨q,hq,rfl⟩) _ (by simp)
 refine⟨fun a i=>?_,fun k q hq=>?_⟩
 ·have h1:a≠p.1:=fun e=>i p (by simp) e.symm
  simp only[if_neg h1];exact h.1 a fun q hq=>i q (by simp[hq])
 ·rw[kh]at hq
  split at hq
  ·rename_i m
   simp only[if_neg (g q (List.mem_of_getElem? hq))];exact h.2 k q hq
  ·rename_i m
   obtain⟨d,rfl⟩:=cH.1 hq;simp only[List.length_singleton]at d;have:k=L.length:=by omega
   subst this;simp
namespace Lx
def JQ(nx:ByteArray):Nat:=if nx=Er then 1 else 2
def Cb(lK:ByteArray)(il:Bool):Nat:=if il=η then 0 else if lK=DX then 4 else 3
theorem WF.at:∀{l:List Tk},WF l->∀{j:Nat}(h:j<l.length),l[j].1≠bP->j+1<l.length
 | [],h,_,_,_=>h.elim
 | [t],h,0,_,hn=>absurd h hn
 | [t],_,j+1,h,_=>by simp at h
 |t::u::r,_,0,_,_=>by simp
 |t::u::r,h,j+1,hj,hn=>by
  have:=WF.at (l:=u::r) h.2 (j:=j) (by simpa using hj) (by simpa using hn);simp at this|-;omega
end Lx
theorem wrap64(h:n<=9223372036854775807):IntKind.i64.wrap (n:Int)=(n:Int):=by
 simp[IntKind.wrap,IntKind.bits,IntKind.signed];omega
theorem afR(a:ByteArray)(w:ω):χ prog 73 #[τ a] w fun e w'=>e=δ (ι ξ (JQ a:Int))/\w'=w:=by
 go_enter func73,ntmps73
 by_cases h:a=Er
 ·have b:JQ a=1:=du h
  rw[b];have c:a=⟨#[61]⟩:=h;clear h b;go_wp2_with fail;go_ret;exact⟨rfl,rfl⟩
 ·have b:JQ a=2:=dt h
  rw[b];have c:=Ae h;clear h b;go_wp2_with fail;go_ret;exact⟨rfl,rfl⟩
theorem afq(b:ByteArray)(c:Bool)(w:ω):χ prog 75 #[τ b,μ c] w fun e w'=>e=δ (ι ξ (Cb b c:Int))/\w'=w:=by
 go_enter func75,ntmps75;cases c with
 |true=>
  have a:Cb b η=0:=rfl;rw[a];clear a;go_wp2_with fail;go_ret;exact⟨rfl,rfl⟩
 |false=>
  by_cases h:b=DX
  ·have a:Cb b ε=4:=by unfold Cb;rw[dt (by decide),du h]
   rw[a];have d:b=⟨#[37,112,114,101,99]⟩:=h;clear h a;go_wp2_with fail;go_ret;exact⟨rfl,rfl⟩
  ·have a:Cb b ε=3:=by unfold Cb;rw[dt (by decide),dt h]
   rw[a];have d:=Ae h;clear h a;go_wp2_with fail;go_ret;exact⟨rfl,rfl⟩
theorem Tryz.ak5:(prog.info? 208).map (fun i=>(i.zero,i.size,i.bytes))=ο (ο (.agg #[.int ξ 0,.string ByteArray.empty,.int ξ 0]),3,32):=by kernel_rfl
theorem Tryz.YA:prog.underlying 100=ο (.slice 208):=by kernel_rfl
def acz(s:ByteArray)(w:ω)(e:Ending)(w':ω):Prop:=∃v,e=δ v/\w'.ownsRow w.heap.size 208 3 v (Lx.wl bP η (Lx.lex s)).length ((Lx.wl bP η (Lx.lex s)).flatMap tX)/\φ w.heap.size w w'
theorem agk(s:ByteArray)(w:ω)(hs:s.size<=2000):χ prog 32 #[τ s] w (acz s w):=by
 obtain⟨i0,hi,T,U,O⟩:=ft Tryz.ak5;have aa:=Lx.lex_wf s;have hsz:∀t∈Lx.lex s,t.1.size<=2000:=fun t Z=>cY (acu s t Z) hs
 have ag:(Lx.lex s).length<=2001:=by have:=ZG s (jD s 0 ε);unfold Lx.lex;omega
 have q0:=abe s w hs;unfold acz;generalize Lx.lex s=L at *;go_enter func32,ntmps32;go_wp2_with fail;refine q0.mono ?_;rintro e w1⟨v,rfl,hL,Y⟩;obtain⟨va,vc,rfl,-⟩:=aB hL;clear q0;have P:=Y.size;have H0:Hid (Lx.wl bP η L=[]++Lx.wl bP η (L.drop 0)):=rfl;go_wp2_with fail
 go_loopg [3,5,6,13] L.length (fun k v vb vl i wr=>∃(j:Nat)(ws:List Lx.Wd)(G:ByteArray)(m:Bool),j+k=L.length/\ws.length<=j/\vb=τ G/\vl=μ m/\i=ι ξ j/\wr.ownsRow w1.heap.size 208 3 v ws.length (ws.flatMap tX)/\φ w1.heap.size w1 wr/\Hid (Lx.wl bP η L=ws++Lx.wl G m (L.drop j)))
 case atStart=>exact⟨0,[],bP,η,by omega,by simp,rfl,rfl,rfl,eV _ _ _ _,cV _ _,H0⟩
 case round=>
  clear H0;obtain⟨j,ws,G,m,x,ak,rfl,rfl,rfl,D,r,HD⟩:=hrel;have ad:=r.size
  by_cases hlt:j<L.length
  ·have h1:=own_below hL r
   obtain⟨g,al,ab,-,hg⟩:=h1.form (by omega);cases ab;have ah:=(hL.lt g rfl).2;have Z:=cG hlt;obtain⟨e1,e2⟩:=RA L j _ Z;have c1:=(h1.cellAt (j*2) (by omega)).trans e1;have c2:=(h1.cellAt (j*2+1) (by omega)).trans e2;have q:=hsz L[j] (eJ hlt);have l:Lx.isName L[j].1=η->j+1<L.length/\(pW L)[(j+1)*2]?=ο (τ (Lx.hd (L.drop (j+1)))):=fun u=>by
    have B:=Lx.WF.at aa hlt (akZ (by decide) u);have:=(RA L (j+1) _ (cG B)).1;rw[this,eN B];exact⟨B,rfl⟩
   have X:=eN hlt;have hd:=HD.out;rw[X,Lx.wl]at hd;generalize L[j]=t at c1 c2 q l hd;clear e1 e2 Z X HD;obtain⟨a,c⟩:=t;simp only at c1 c2 q l hd;generalize Lx.hd (L.drop (j+1))=nx at l hd;obtain⟨d,n⟩:=aC (wr.alloc (ζ #[τ a,ι ξ (c:Int)] 203));have C:φ wr.heap.size wr d:=by rw[n];exact(cV _ _).alloc (dv _) _
   have zD:d.heap.size=wr.heap.size+1:=by rw[n];simp
   have kS:aj d wr.heap.size #[τ a,ι ξ (c:Int)] 203:=by rw[n];exact aj.new wr _ 203
   have q1:=Dy a d q;have q2:=Nc a d q;have s0:=kS.a0;have s1:=kS.a1;have p:=r.trans (C.mono ad);have G8:=own_below D C;obtain⟨J,K,rfl,-⟩:=aB D;go_wp2_with fail;rw[<-n];clear c1 c2 n;refine q1.mono ?_;rintro e w2⟨rfl,A⟩;obtain rfl:=A.symm;cases u:Lx.isName a with
   |true=>
     obtain⟨y,W⟩:=l u;have M:Hid (Lx.wl bP η L=(ws++[(JQ nx,a,c)])++Lx.wl a ε (L.drop (j+1))):=by
      rw[show Ou m (a,c)=ε from du u]at hd;show _=_;rw[hd,dy];unfold J7;rw[du (by exact u)];rfl
     have af:=C.block g hg;have cn:=(cQ (w:=wr) af).trans ((h1.cellAt ((j+1)*2) (by omega)).trans W);have N:=afR nx d.drew;obtain⟨I,ai,am,R⟩:∃I:Nat,IntKind.i64.wrap ((j:Int)+1)=(I:Int)/\I<L.length/\Hid (I=j+1):=⟨j+1,by rw[show ((j:Int)+1)=((j+1:Nat):Int) from by omega];exact wrap64 (by omega),y,rfl⟩;rw[<-R.out]at cn M;clear y;generalize JQ nx=ro at N M;clear W;have V8:=ay (w':=(d.alloc (ζ #[ι ξ (ro:Int),τ a,ι ξ (c:Int)] 208)).drew) (G8.alloc (ζ #[ι ξ (ro:Int),τ a,ι ξ (c:Int)] 208)) fun _ _=>rfl
     have V9:aj (d.alloc (ζ #[ι ξ (ro:Int),τ a,ι ξ (c:Int)] 208)).drew wr.heap.size #[τ a,ι ξ (c:Int)] 203:=(kS.alloc _).drew;have o:φ w1.heap.size w1 (d.alloc (ζ #[ι ξ (ro:Int),τ a,ι ξ (c:Int)] 208)).drew:=(p.alloc p.size _).drew;have E:(ς J ws.length K).ownBlock≠ο wr.heap.size:=fun e=>by have:=(D.lt _ e).2;omega
     have F:∀k,(ς J ws.length K).ownBlock=ο k->w1.heap.size<=k:=fun k x=>(D.lt _ x).1
     clear hd l q1 q2;go_wp2_with fail
     go_region_law (first | (refine eZ rfl 73 #[τ nx] (by go_simp) N ?_;rintro e S⟨rfl,rfl⟩;refine⟨_,rfl,?_⟩) | (refine step_append_lies _ rfl (.tmp 22) (.tmp 35) 100 rfl w1.heap.size 208 i0 _ 3 32 Tryz.YA hi T U O rfl (by decide) (ς J ws.length K) ws.length (ws.flatMap tX) (by simp[Act.eval]) V8 ⟨d.heap.size,0,ν⟩ 1 1 [ι ξ (ro:Int),τ a,ι ξ (c:Int)] (by simp[Act.eval]) rfl (bQ (aj.new d _ 208).drew) (by simp[Value.oneCell']) (by decide) (by unfold maxLen;omega) (by omega) (by simp;omega) _ rfl ?_;intro g2 V S f b ae Q;have Wh:=V9.grown b (fun e=>E e.symm);have ac:S.cell? ⟨wr.heap.size,0,ν⟩=ο (τ a):=Wh.cell 0))
     all_goals
      have H:=o.grown b o.size (fun k x=>F k x);go_wp2_with fail;go_roundg (L.length-I)
      case measure=>have:=R.out;omega
      case rel=>exact⟨I,ws++[(ro,a,c)],a,ε,by have:=R.out;omega,by have:=R.out;simp;omega,rfl,rfl,by first | rfl | (rw[R.out];go_num),by simpa [tX]using f,H,M⟩
   |false=>
    go_wp2_with fail;refine q2.mono ?_;rintro e w2⟨rfl,A⟩;obtain rfl:=A.symm;cases htk:Lx.isToken a with
    |true=>
     have M:Hid (Lx.wl bP η L=(ws++[(Cb G m,a,c)])++Lx.wl a m (L.drop (j+1))):=by
      rw[abl u]at hd;show _=_;rw[hd,dy];unfold J7;rw[dt (by simp[u]),du htk];rfl
     have N:=afq G m d.drew;generalize Cb G m=ro at N M;have V8:=ay (w':=(d.alloc (ζ #[ι ξ (ro:Int),τ a,ι ξ (c:Int)] 208)).drew) (G8.alloc (ζ #[ι ξ (ro:Int),τ a,ι ξ (c:Int)] 208)) fun _ _=>rfl
     have V9:aj (d.alloc (ζ #[ι ξ (ro:Int),τ a,ι ξ (c:Int)] 208)).drew wr.heap.size #[τ a,ι ξ (c:Int)] 203:=(kS.alloc _).drew;have o:φ w1.heap.size w1 (d.alloc (ζ #[ι ξ (ro:Int),τ a,ι ξ (c:Int)] 208)).drew:=(p.alloc p.size _).drew;have E:(ς J ws.length K).ownBlock≠ο wr.heap.size:=fun e=>by have:=(D.lt _ e).2;omega
     have F:∀k,(ς J ws.length K).ownBlock=ο k->w1.heap.size<=k:=fun k x=>(D.lt _ x).1
     clear hd l q1 q2;go_wp2_with fail
     go_region_law (first | (refine eZ rfl 75 #[τ G,μ m] (by go_simp) N ?_;rintro e S⟨rfl,rfl⟩;refine⟨_,rfl,?_⟩) | (refine step_append_lies _ rfl (.tmp 41) (.tmp 50) 100 rfl w1.heap.size 208 i0 _ 3 32 Tryz.YA hi T U O rfl (by decide) (ς J ws.length K) ws.length (ws.flatMap tX) (by simp[Act.eval]) V8 ⟨d.heap.size,0,ν⟩ 1 1 [ι ξ (ro:Int),τ a,ι ξ (c:Int)] (by simp[Act.eval]) rfl (bQ (aj.new d _ 208).drew) (by simp[Value.oneCell']) (by decide) (by unfold maxLen;omega) (by omega) (by simp;omega) _ rfl ?_;intro g2 V S f b ae Q;have Wh:=V9.grown b (fun e=>E e.symm);have ac:S.cell? ⟨wr.heap.size,0,ν⟩=ο (τ a):=Wh.cell 0))
     all_goals
      have H:=o.grown b o.size (fun k x=>F k x);go_wp2_with fail;go_roundg (L.length - (j+1))
      case measure=>omega
      case rel=>exact⟨j+1,ws++[(ro,a,c)],a,m,by omega,by simp;omega,rfl,rfl,by go_num,by simpa [tX]using f,H,M⟩
    |false=>
     have z:Hid (Lx.wl bP η L=ws++Lx.wl a m (L.drop (j+1))):=by
      rw[amZ u htk,abl u,jn]at hd;exact hd
     clear hd l q1 q2;go_wp2_with fail;go_roundg (L.length - (j+1))
     case measure=>omega
     case rel=>exact⟨j+1,ws,a,m,by omega,by omega,rfl,rfl,by go_num,G8,p,z⟩
  ·have:j=L.length:=by omega
   subst this;have hd:=HD.out;rw[im,Lx.wl,fW]at hd;have z:Hid _:=hd;clear hd;go_wp2_with fail;go_ret;exact⟨_,rfl,by rw[z.out];exact jb D P,Y.trans (r.mono P)⟩
section
variable{D G:Nat -> Prop}{w w':ω}{mb H:Nat}{ta:Option Addr}{nT tc:Nat}{vP vB vK vS:υ}{N:List ByteArray}{f:Addr -> Int}
theorem Nm.call(h:Nm D w mb H ta nT tc vP vB vK vS N G f)(a:nT<=100000)(b:N.length<=100000)(s:ByteArray):
  χ prog 140 #[π (ο ⟨mb,0,ν⟩),τ s] w fun e w'=>e=δ (ι ξ ((nT+N.length:Nat):Int))/\Nm D w' mb H ta nT tc vP vB vK vS (N++[s]) G f/\Kp D w w':=by
 obtain⟨c,h1,h2,h3⟩:=h.ex;refine(agi h1 h2 (fun e=>(h3 mb e).2.1 rfl) a b s).mono ?_;rintro e w'⟨rfl,d,hp⟩;exact⟨rfl,h.named h1 hp⟩
theorem Nm.D5(h:Nm D w mb H ta nT tc vP vB vK vS N G f):w.cell? ⟨mb,6,ν⟩=ο (.map (ο H))/\w.cell? ⟨mb,5,ν⟩=ο vS:=by
 obtain⟨a,h1,-⟩:=h.ex;exact⟨h1.cell 6,h1.cell 5⟩
end
theorem eD{g:Nat}{cs:Array υ}(h:aj w g cs t)(b:Kp D w w')(a:D g):aj w' g cs t:=(b.block g a).trans h
structure am1(D G:Nat->Prop)(w:ω)(mb H cb:Nat)(ta:Option Addr)(nT tc:Nat)(vP vB vK vS:υ)(N:List ByteArray)(f:Addr->Int)(k:Nat)(w':ω):Prop where
 nm:Nm D w' mb H ta nT tc vP vB vK vS N G f
 ct:aj w' cb #[ι ξ (k:Int)] 3
 kp:Kp (fun g=>D g/\g≠cb) w w'
theorem afr{P:υ}{l:ByteArray}(h:Nm D w m H ta nT tc vP vB vK P N G f)(B:aj w cb #[ι ξ (k:Int)] 3)(hX:aj w xb #[π (ο ⟨m,0,ν⟩)] 306)(hR:aj w rb #[τ l,va] 296)
  (o:D cb) (v:D xb) (u:D rb) (M:xb≠cb) (R:rb≠cb) (Z:iy w) (_:D rU) (U:rU≠cb) (I:∀b,G b->D b/\b≠cb/\iV w b) {a:Addr} (ha:G a.block) (bT:nT<=100000) (bN:N.length<=100000) (bk:k<=50000) (bs:l.size<=2000) :
  χ prog 142 #[π (ο a),π (ο ⟨cb,0,ν⟩),π (ο ⟨xb,0,ν⟩),π (ο ⟨rb,0,ν⟩)] w fun e w'=>e=δ (θ #[])/\am1 D G w m H cb ta nT tc vP vB vK P (N++[Lx.hName l (k+1)]) (fun c=>if c=a then ((nT+N.length:Nat):Int) else f c) (k+1) w':=by
 obtain⟨j,aa,F⟩:∃j:Nat,IntKind.i64.wrap ((k:Int)+1)=(j:Int)/\Hid (j=k+1):=⟨k+1,by rw[show ((k:Int)+1)=((k+1:Nat):Int) from by omega];exact wrap64 (by omega),rfl⟩;have c0:=B.a0;have f0:=B.frozen;obtain⟨W,r⟩:=aC (w.setCell ⟨cb,0,ν⟩ (ι ξ (j:Int)));have s:∀g,g≠cb->W.heap[g]?=w.heap[g]?:=fun g q=>by rw[r];exact fy _ _ _ _ q
 have zD:W.heap.size=w.heap.size:=by rw[r];simp[World.setCell]
 have p:Kp (fun g=>D g/\g≠cb) w W:=⟨by rw[r];rfl,by rw[r];rfl,by rw[r];rfl,by omega,fun g q=>s g q.2⟩;have nW:=h.other (fun g _ hd=>s g fun e=>hd (e▸o)) (by omega);have z:aj W cb #[ι ξ (j:Int)] 3:=by rw[r];exact B.set 0 _
 have E:aj W xb _ 306:=(s xb M).trans hX;have kR:aj W rb _ 296:=(s rb R).trans hR;have tW:=Z.move (s rU U);have L:∀b,G b->D b/\iV W b:=fun b t=>⟨(I b t).1,(I b t).2.2.move (s b (I b t).2.1)⟩
 have Y:=ajt (w:=W.drew) (tW.move rfl) j (by have:=F.out;omega);have d0:=z.drew.a0;have dx:=E.drew.a0;have dr:=kR.drew.a0;have y:Nm D W.drew m H ta nT tc vP vB vK P N G f:=nW.other (fun _ _ _=>rfl) (dv _);have d6:=y.D5.1;have K:(Gz j).size<=50002:=cY (ah9 j) (by have:=F.out;omega);have x:Hid (Lx.hName l (k+1)=l++⟨#[39]⟩++Gz j):=by rw[F.out];rfl
 generalize Gz j=db at x K Y;have ad:¬9223372036854775807<l.size+1:=by omega
 have ae:¬9223372036854775807<l.size+1+db.size:=by omega
 have ac:D xb/\D rb/\D cb:=⟨v,u,o⟩;clear h B hX hR Z I s nW tW;go_enter func142,ntmps142;go_wp2_with fail;rw[<-r];clear r c0 f0
 go_region_held3 (fun w'=>w'.cell? ⟨cb,0,ν⟩=ο (ι ξ (j:Int))/\w'.cell? ⟨xb,0,ν⟩=ο (π (ο ⟨m,0,ν⟩))/\w'.cell? ⟨rb,0,ν⟩=ο (τ l)/\w'.cell? ⟨m,6,ν⟩=ο (.map (ο H))) (first|go_keep|assumption) (first|(go_at_call 143;refine Y.mono ?_;rintro e C⟨rfl,T⟩;obtain⟨X,d⟩:=y.below T;have S3:C.cell? ⟨cb,0,ν⟩=ο (ι ξ (j:Int))/\C.cell? ⟨xb,0,ν⟩=ο (π (ο ⟨m,0,ν⟩))/\C.cell? ⟨rb,0,ν⟩=ο (τ l)/\C.cell? ⟨m,6,ν⟩=ο (.map (ο H)):=⟨(eD z.drew d o).cell 0,(eD E.drew d v).cell 0,(eD kR.drew d u).cell 0,X.D5.1⟩;have q3:=X.call bT bN (l++⟨#[39]⟩++db))|(go_at_call 140;refine q3.mono ?_;rintro e A⟨rfl,O,i⟩;have S4:A.cell? ⟨cb,0,ν⟩=ο (ι ξ (j:Int))/\A.cell? ⟨xb,0,ν⟩=ο (π (ο ⟨m,0,ν⟩))/\A.cell? ⟨rb,0,ν⟩=ο (τ l)/\A.cell? ⟨m,6,ν⟩=ο (.map (ο H)):=⟨(eD (eD z.drew d o) i o).cell 0,(eD (eD E.drew d v) i v).cell 0,(eD (eD kR.drew d u) i u).cell 0,O.D5.1⟩;obtain⟨J,ab,eU,S,af⟩:=tJ.put O.pm (fun b t=>((L b t).2.move (w':=W.drew) rfl).move ((i.block b (L b t).1).trans (d.block b (L b t).1))) ha ((nT:Int)+(N.length:Int));obtain⟨V,n⟩:=O.anx eU S;have S5:J.cell? ⟨cb,0,ν⟩=ο (ι ξ (j:Int))/\J.cell? ⟨xb,0,ν⟩=ο (π (ο ⟨m,0,ν⟩))/\J.cell? ⟨rb,0,ν⟩=ο (τ l)/\J.cell? ⟨m,6,ν⟩=ο (.map (ο H)):=⟨(eD (eD (eD z.drew d o) i o) n o).cell 0,(eD (eD (eD E.drew d v) i v) n v).cell 0,(eD (eD (eD kR.drew d u) i u) n u).cell 0,V.D5.1⟩))
 go_wp2_with fail
 go_end0
 rw[x.out,<-F.out];have en:((nT+N.length:Nat):Int)=(nT:Int)+(N.length:Int):=by omega
 rw[en];refine⟨rfl,V,eD (eD (eD z.drew d o) i o) n o,?_⟩;have Q:Kp (fun g=>D g/\g≠cb) w W.drew:=⟨p.os,p.tape,p.output,p.size,p.block⟩;exact((Q.trans d fun g q=>q.1).trans i fun g q=>q.1).trans n fun g q=>q.1
namespace Lx
theorem ak6{A R:List ByteArray}(h:b∉A):fix (A++b::R) b=A.length:=by
 refine acp (by simp) fun i a e=>h ?_
 rw[eL a]at e;exact cM e
def aT(rs:List Rl):List ByteArray:=Ov::rs.flatMap qH
theorem aju(a:j<rs.length):aT (rs.take (j+1))=aT (rs.take j)++qH rs[j]:=by
 unfold aT;rw[fY a,ik,ip];simp
theorem aic(a:j<rs.length):∃R,aT rs=aT (rs.take j)++rs[j].name::R:=by
 refine⟨(List.range (bS 9 rs[j].alts).length).map (fun k=>hName rs[j].name (k+1))++(rs.drop (j+1)).flatMap qH,?_⟩;have e:rs=rs.take j++rs[j]::rs.drop (j+1):=by rw[<-eN a,lj]
 unfold aT
 conv=>lhs;rw[e]
 rw[ik,eS];simp[qH]
theorem ajv(h:isName b=η):∀c∈b.data.toList,(small (c.toNat:Int) || digit (c.toNat:Int))=η:=by
 unfold isName isWord Gh at h;simp only[Bool.and_eq_true,List.all_eq_true]at h;exact h.2
theorem aie(h:isName b=η):b.size<=12:=by
 unfold isName isWord at h;simp only[Bool.and_eq_true,decide_eq_true_eq]at h;exact h.1.1.2
theorem ajw(h:isName c=η):hName b k≠c:=by
 intro e;have a:(39:UInt8)∈c.data.toList:=by
  rw[<-e];unfold hName ads;simp
 have:=ajv h 39 a;revert this;decide
theorem ajx(h:isName c=η):Ov≠c:=by
 intro e;rw[<-e]at h;revert h;decide
theorem afS(h:isToken b=η):isName b=ε:=by
 unfold isToken isName isWord at *;simp only[Bool.and_eq_true,decide_eq_true_eq]at h;have h1:=h.1.2;have:small (fV b 0)=ε:=by
  unfold capital at h1;unfold small;simp only[decide_eq_true_eq]at h1;simp only[decide_eq_false_iff_not];omega
 rw[this];simp
theorem ahc(g:∀r∈rs,isName r.name=η)(nd:(rs.map Rl.name).Nodup)(c:j<rs.length):rs[j].name∉aT (rs.take j):=by
 have b:=g rs[j] (eJ c);intro h;rcases fh.1 h with h|h
 ·exact ajx b h.symm
 ·obtain⟨r,d,h⟩:=li.1 h
  unfold qH at h;rcases fh.1 h with h|h
  ·obtain⟨i,f,rfl⟩:=mB d
   rw[fR]at f;rw[yo]at h;have a:=mN.1 nd i j (by simp;omega) (by simpa using c) (by omega);simp only[List.getElem_map]at a;exact a h.symm
  ·obtain⟨k,-,e⟩:=fk.1 h
   exact ajw b e
theorem ak7(b:∀r∈rs,isName r.name=η)(nd:(rs.map Rl.name).Nodup)(a:j<rs.length):fix (aT rs) rs[j].name=(aT (rs.take j)).length:=by
 obtain⟨R,e⟩:=aic a;rw[e];exact ak6 (ahc b nd a)
end Lx
theorem Z0(a:Array υ)(w:ω):(callFunc 141 a).run prog w=.ok (.enter 141 a) w:=by kernel_rfl
theorem aif(a:Array υ)(w:ω):(callFunc 142 a).run prog w=.ok (.enter 142 a) w:=by kernel_rfl
def hlA(w:ω)(v:υ)(l:List Lx.Alt):List AI:=(aL 9 w v l).filter fun p=>Lx.hlp p.2
theorem Tq{l:List Lx.Alt}(h:aN YP 9 F w v l):(hlA w v l).length=(bS 9 l).length:=by
 unfold hlA bS;rw[<-FZ h,AC,dk];rfl
theorem abq{l:List Lx.Alt}(h:aN YP 9 F w v l):(hlA w v l).map Prod.snd=bS 9 l:=by
 unfold hlA bS;rw[<-FZ h,AC];rfl
theorem afs{C c:υ}{r:ByteArray}{l:List Lx.Alt}(h:Nm D w z H ta nT tc vP vB vK C N G f)(T:aj w cb #[ι ξ 0] 3)(W:aj w xb #[π (ο ⟨z,0,ν⟩)] 306)(hR:aj w rb #[τ r,c] 296)
  (dC:D cb) (Q:D xb) (K:D rb) (s:xb≠cb) (x:rb≠cb) (V:iy w) (P:D rU) (y:rU≠cb) (u:∀b,G b->D b/\b≠cb/\iV w b) (hF:∀b,F b->D b/\b≠cb) (hA:aN YP 9 F w c l) (S:∀p∈aL 9 w c l,G p.1.block) (nd:((aL 9 w c l).map Prod.fst).Nodup) (bT:nT<=100000) (bN:N.length+(hlA w c l).length<=50000) (bs:r.size<=2000) :
  χ prog 134 #[c,.func (.func 141) #[] #[],.func (.func 142) #[] #[π (ο ⟨cb,0,ν⟩),π (ο ⟨xb,0,ν⟩),π (ο ⟨rb,0,ν⟩)]] w fun e w'=>e=δ (θ #[])/\∃f',Nm D w' z H ta nT tc vP vB vK C (N++hNames r (hlA w c l).length) G f'/\Kp (fun g=>D g/\g≠cb) w w'/\DZ (nT+N.length) (hlA w c l) f f':=by
 have I:((hlA w c l).map Prod.fst).Nodup:=nd.sublist (List.filter_sublist.map _);have q:=SE 9 141 142 #[] #[π (ο ⟨cb,0,ν⟩),π (ο ⟨xb,0,ν⟩),π (ο ⟨rb,0,ν⟩)] Lx.hlp F w (fun L w'=>∃f',Nm D w' z H ta nT tc vP vB vK C (N++hNames r L.length) G f'/\aj w' cb #[ι ξ (L.length:Int)] 3/\Kp (fun g=>D g/\g≠cb) w w'/\DZ (nT+N.length) L f f') (fun p=>G p.1.block) (hlA w c l) Z0 aif
  (fun w' n m A _ O=>Ru O)
  (fun w' L n m A E _ O ab Y d=>by
   obtain⟨f',v,B,i,t⟩:=E;obtain⟨R,d⟩:=d;have M:L.length+1<=(hlA w c l).length:=by rw[d];simp
   have o:((L++[((⟨n,m*4,ν⟩:Addr),A)]).map Prod.fst).Nodup:=by
    refine I.sublist (List.Sublist.map _ ?_);rw[d,show L++(((⟨n,m*4,ν⟩:Addr),A)::R)=(L++[((⟨n,m*4,ν⟩:Addr),A)])++R by simp];exact List.sublist_append_left _ _
   refine(afr (a:=⟨n,m*4,ν⟩) v B (eD W i ⟨Q,s⟩) (eD hR i ⟨K,x⟩) dC Q K s x (V.move (i.block _ ⟨P,y⟩)) P y (fun b j=>⟨(u b j).1,(u b j).2.1,(u b j).2.2.move (i.block b ⟨(u b j).1,(u b j).2.1⟩)⟩) Y bT (by rw[cJ,RP];omega) (by omega) bs).mono ?_;rintro e aa⟨rfl,J,Z,U⟩;refine⟨rfl,_,?_,?_,i.trans U fun g X=>X,t.push o⟩
   ·rw[cJ,gw,agj,<-dy]
    have e:((nT+(N++hNames r L.length).length:Nat):Int)=((nT+N.length+L.length:Nat):Int):=by rw[cJ,RP,AT]
    rw[e]at J;exact J
   ·rw[cJ,gw];exact Z)
  (fun L w' E b j=>by obtain⟨f',v,B,i,t⟩:=E;exact i.block b (hF b j))
  c l hA (fun p hp=>S p hp) w [] ⟨f,by simpa [hNames]using h,T,Kp.refl _ _,fun a _=>rfl,fun k p hp=>by simp at hp⟩ ⟨[],by simp[hlA]⟩
 refine q.mono ?_;rintro e w'⟨rfl,f',v,B,i,t⟩;rw[jn]at v t;exact⟨rfl,f',v,i,t⟩
namespace Lx
def je(T:List ByteArray)(b:ByteArray):Int:=if 0<=fM T b then fM T b else 0
theorem ajy(a:ByteArray):je [a]=fun _=>0:=by
 funext b;unfold je;have:=ah0 [a] b;simp only[List.length_singleton]at this
 split <;> omega
theorem ak8{T:List ByteArray}(h:0<=fM T b)(a:ByteArray):fM (T++[a]) b=fM T b:=by
 unfold fM fix at *;rw[List.findIdx_append]
 split at h
 ·rename_i h1
  rw[du h1,du (by rw[cJ];omega),du h1]
 ·omega
theorem ajz{T:List ByteArray}(h:¬0<=fM T b):(fun c=>if c=b then (T.length:Int) else je T c)=je (T++[b]):=by
 funext c
 by_cases hc:c=b
 ·rw[du hc,hc]
  have f:b∉T:=fun a=>h (pX.2 a)
  have:=amg (l:=T++[b]) (b:=b) (j:=T.length) (by simp) (fun i d e=>f (by rw[eL d]at e;exact cM e));unfold je;rw[this,du (by omega)]
 ·rw[dt hc]
  unfold je
  by_cases h0:0<=fM T c
  ·rw[ak8 h0]
  ·rw[dt h0,dt]
   intro h1;rcases dq.1 (pX.1 h1) with h2|h2
   ·exact h0 (pX.2 h2)
   ·exact hc (dd.1 h2)
theorem Z4{a:ByteArray}{T:List ByteArray}(h:b≠a):je (a::T) b=0↔¬0<=fM (a::T) b:=by
 unfold je;constructor
 ·intro c h1
  rw[du h1]at c;unfold fM fix at c;rw[List.findIdx_cons]at c;simp[Ne.symm h]at c
  split at c <;> omega
 ·intro h1
  rw[dt h1]
def mg(ws:List Wd):List ByteArray:=(ws.filter fun x=>decide (x.1≠1) && decide (x.1≠2)).map fun x=>x.2.1
end Lx
theorem Nm.weak{D':Nat->Prop}{c:Nat}{d:υ}(h:Nm D w c H ta nT tc vP vB vK d N G f)(b:∀g,D' g->D g):Nm D' w c H ta nT tc vP vB vK d N G f:=by
 obtain⟨⟨l,h1,h2,h3⟩,j,n,k,m,i⟩:=h;exact⟨⟨l,h1,h2,fun g a=>⟨fun hd=>(h3 g a).1 (b g hd),(h3 g a).2⟩⟩,j,fun hd=>n (b _ hd),fun hd=>k (b _ hd),m,fun g a=>i g (b g a)⟩
theorem Nm.new{d:υ}(h:Nm D w i H ta nT tc vP vB vK d N G f)(b:φ w.heap.size w w')(q:w.heap.size<w'.heap.size):Nm (fun g=>D g\/g=w.heap.size) w' i H ta nT tc vP vB vK d N G f/\Kp D w w':=by
 refine⟨?_,Kp.below b h.lt⟩;have lm:=h.lm;have o:=bZ.lt h.pm;obtain⟨⟨m,h1,h2,h3⟩,k,p,l,n,j⟩:=h;refine⟨⟨m,(b.block _ lm).trans h1,own_below h2 b,fun g c=>⟨?_,(h3 g c).2⟩⟩,k.move (b.block _ o),?_,?_,n,?_⟩
 ·rintro(a | a)
  ·exact(h3 g c).1 a
  ·have:=(h2.lt g c).2;omega
 ·rintro(a | a)
  ·exact p a
  ·omega
 ·rintro(a | a)
  ·exact l a
  ·omega
 ·rintro g(a | a)
  ·have:=j g a;omega
  ·omega
theorem Y2{α:Type}{f:Nat->α->List AI}:∀(l:List α)(j:Nat),((p8 f j l).map Prod.fst).Nodup->∀{i k:Nat}{a b:α},i<k->l[i]?=ο a->l[k]?=ο b->∀{p q:AI},p∈f (j+i) a->q∈f (j+k) b->p.1≠q.1
 | [],j,_,i,k,a,b,_,h,_,_,_,_,_=>by simp at h
 |x::xs,j,hn,i,k,a,b,hik,ha,hb,p,q,hp,n=>by
  rw[p8,ee,j7]at hn;obtain⟨c,rfl⟩:∃c,k=c+1:=⟨k-1,by omega⟩;have d:xs[c]?=ο b:=by simpa using hb
  have g:q∈f (j+1+c) b:=by rw[show j+1+c=j+(c+1) by omega];exact n
  cases i with
  |zero=>
   simp only[List.getElem?_cons_zero,Option.some.injEq]at ha;subst ha;refine hn.2.2 _ (fk.2 ⟨p,hp,rfl⟩) _ (fk.2 ⟨q,?_,rfl⟩);have:∀(l:List α)(j m:Nat),l[m]?=ο b->q∈f (j+m) b->q∈p8 f j l:=by
    intro l
    induction l with
    |nil=>intro j m h;simp at h
    |cons y l ih=>
     intro j m h n;rw[p8,dq];cases m with
     |zero=>simp only[List.getElem?_cons_zero,Option.some.injEq]at h;subst h;exact .inl n
     |succ m=>exact .inr (ih (j+1) m (by simpa using h) (by rw[show j+1+m=j+(m+1) by omega];exact n))
   exact this xs (j+1) c d g
  |succ i=>
   exact Y2 xs (j+1) hn.2.1 (i:=i) (k:=c) (by omega) (by simpa using ha) d (by rw[show j+1+i=j+(i+1) by omega];exact hp) g
theorem RQ{α:Type}{f:Nat->α->List AI}{b:α}{q:AI}:∀(l:List α)(j m:Nat),l[m]?=ο b->q∈f (j+m) b->q∈p8 f j l
 | [],j,m,h,_=>by simp at h
 |y::l,j,m,h,hq=>by
  rw[p8,dq];cases m with
  |zero=>simp only[List.getElem?_cons_zero,Option.some.injEq]at h;subst h;exact .inl hq
  |succ m=>exact .inr (RQ l (j+1) m (by simpa using h) (by rw[show j+1+m=j+(m+1) by omega];exact hq))
theorem YI{α:Type}{f:Nat->α->List AI}:∀(l:List α)(j m:Nat)(b:α),((p8 f j l).map Prod.fst).Nodup->l[m]?=ο b->((f (j+m) b).map Prod.fst).Nodup
 | [],j,m,b,_,h=>by simp at h
 |y::l,j,m,b,hn,h=>by
  rw[p8,ee,j7]at hn;cases m with
  |zero=>simp only[List.getElem?_cons_zero,Option.some.injEq]at h;subst h;exact hn.1
  |succ m=>
   have:=YI l (j+1) m b hn.2.1 (by simpa using h);rw[show j+1+m=j+(m+1) by omega]at this;exact this
structure zl(nT:Nat)(rs:List Lx.Rl)(j:Nat)(f0 f:ByteArray->Int):Prop where
 rule:∀i(hi:i<rs.length),i<j->f rs[i].name=((nT+(aT (rs.take i)).length:Nat):Int)
 tok:∀c,(∀i(hi:i<rs.length),i<j->rs[i].name≠c)->f c=f0 c
theorem zl.step{rs:List Lx.Rl}{f:ByteArray->Int}(h:zl nT rs j f0 f)(nd:(rs.map Lx.Rl.name).Nodup)(g:j<rs.length):zl nT rs (j+1) f0 (fun c=>if c=rs[j].name then ((nT+(aT (rs.take j)).length:Nat):Int) else f c):=by
 refine⟨fun i b d=>?_,fun c k=>?_⟩
 ·by_cases e:i=j
  ·subst e;simp
  ·have a:rs[i].name≠rs[j].name:=by
    have:=mN.1 nd i j (by simpa using b) (by simpa using g) (by omega);simpa using this
   simp only[if_neg a];exact h.rule i b (by omega)
 ·have a:c≠rs[j].name:=fun e=>k j g (by omega) e.symm
  simp only[if_neg a];exact h.tok c fun i b d=>k i b (by omega)
def Aj(w:ω)(gR nT:Nat)(rs:List Lx.Rl)(j:Nat)(f:Addr->Int):Prop:=∀i(hi:i<rs.length),i<j->∀k p,(hlA w (cv w ⟨gR,i*2+1,ν⟩) rs[i].alts)[k]?=ο p->f p.1=((nT+(aT (rs.take i)).length+1+k:Nat):Int)
theorem Aj.step{a:Nat}{rs:List Lx.Rl}{b:Addr->Int}(h:Aj w a nT rs j f)(m:j<rs.length)(nd:((Tp w a 0 rs).map Prod.fst).Nodup)(c:DZ (nT+(aT (rs.take j)).length+1) (hlA w (cv w ⟨a,j*2+1,ν⟩) rs[j].alts) f b):Aj w a nT rs (j+1) b:=by
 intro i d g k p hp
 by_cases e:i=j
 ·subst e
  exact c.2 k p hp
 ·rw[c.1 p.1 fun q l n=>?_]
  ·exact h i d (by omega) k p hp
  ·have h1:=(j'.1 (cM hp)).1
   have h2:=(j'.1 l).1;exact Y2 rs 0 nd (i:=i) (k:=j) (by omega) (cG d) (cG m) (by rw[fX];exact h1) (by rw[fX];exact h2) n.symm
structure anA(D G:Nat->Prop)(w:ω)(mb S H gR:Nat)(ta:Option Addr)(nT tc:Nat)(vP vB vK:υ)(rs:List Lx.Rl)(j:Nat)(f0:ByteArray->Int)(w':ω):Prop where
 ex:∃f fS,Nm (fun g=>D g\/g=S) w' mb H ta nT tc vP vB vK (.map (ο S)) (aT (rs.take j)) G f/\SMap w' S fS/\zl nT rs j f0 fS/\Aj w gR nT rs j f
 kp:Kp D w w'
theorem afT{S:Nat}{rs:List Lx.Rl}(J:aj w n #[ς ta nT tc,ς ν 0 0,vP,vB,vK,.map (ο S),.map (ο H)] 216)(hS:SMap w S f0)(hH:tJ (fun b=>F b/\iV w b) w H (fun _=>0))(hR:Tr.fD F w 296 2 cR KR vR rs)(G:∀b,F b->D b)(hD:∀b,D b->b<w.heap.size)(nM:¬D n)(nS:¬D S)(nH:¬D H)(ao:S≠H)(ht:iy w)(dT:D rU)(nd:(rs.map Lx.Rl.name).Nodup)(hn:∀r∈rs,r.name.size<=2000)(bT:nT<=100000)(bN:(aT rs).length<=50000)(bR:rs.length<=100000):
  χ prog 84 #[π (ο ⟨n,0,ν⟩),vR] w fun e w'=>e=δ (θ #[])/\anA D (fun b=>F b/\iV w b) w n S H (aS vR) ta nT tc vP vB vK rs rs.length f0 w':=by
 have Az:lV F w vR rs:=⟨fun b u=>hD b (G b u),fD.weak hR fun A v x X hk=>fu.weak X hk⟩;have B:=Yz hR;obtain⟨a,c,rfl,hm⟩:=Az.len;have lm:=J.lt;have lS:=hS.lt;have lH:=bZ.lt hH;have AA:n≠S:=fun e=>by
  obtain⟨es,M,h1,-⟩:=hS;unfold aj at J;rw[e,h1]at J;cases J
 have aR:n≠H:=fun e=>by
  obtain⟨es,M,h1,-⟩:=hH;unfold aj at J;rw[e,h1]at J;cases J
 unfold maxLen at hm;obtain⟨W,hW⟩:=aC (w.alloc (ζ #[π (ο ⟨n,0,ν⟩)] 306));have C:φ w.heap.size w W:=by rw[hW];exact(cV _ _).alloc (dv _) _
 have zD:W.heap.size=w.heap.size+1:=by rw[hW];simp
 have kX:aj W w.heap.size #[π (ο ⟨n,0,ν⟩)] 306:=by rw[hW];exact aj.new w _ 306
 have nW:Nm (fun g=>D g\/g=S\/g=w.heap.size) W n H ta nT tc vP vB vK (.map (ο S)) [] (fun b=>F b/\iV w b) (fun _=>0):=by
  refine⟨⟨ς ν 0 0,(C.block _ lm).trans J,eV _ _ _ _,fun g d=>(by cases d)⟩,hH.move (C.block _ lH),?_,?_,aR,?_⟩
  ·rintro(h | h | h)
   ·exact nM h
   ·exact AA h
   ·omega
  ·rintro(h | h | h)
   ·exact nH h
   ·exact ao h.symm
   ·omega
  ·rintro g(h | h | h)
   ·have:=hD g h;omega
   ·omega
   ·omega
 have q0:=nW.call bT (by simp) Ov;have x0:=kX.a0;go_enter func84,ntmps84;go_wp2_with fail;rw[<-hW];refine q0.mono ?_;rintro e w1⟨rfl,n1,m⟩;have U:=eD kX m (.inr (.inr rfl));have I:SMap w1 S f0:=(hS.move (C.block _ lS)).move (m.block S (.inr (.inl rfl)));have zo:=(Kp.below C hD).trans m fun g d=>.inl d
 have ai:zl nT rs 0 f0 f0:=⟨fun i hi h=>absurd h (by omega),fun _ _=>rfl⟩;have aa:Aj w (aS (ς a rs.length c)) nT rs 0 (fun _=>0):=fun i hi h=>absurd h (by omega)
 clear q0 x0 hW C zD kX nW m hS hH;go_wp2_with fail
 go_loopg [11] rs.length (fun k i wr=>∃(j:Nat)(f:Addr->Int)(fS:ByteArray->Int),j+k=rs.length/\i=ι ξ j/\Nm (fun g=>D g\/g=S\/g=w.heap.size) wr n H ta nT tc vP vB vK (.map (ο S)) (aT (rs.take j)) (fun b=>F b/\iV w b) f/\SMap wr S fS/\aj wr w.heap.size #[π (ο ⟨n,0,ν⟩)] 306/\Kp D w wr/\zl nT rs j f0 fS/\Aj w (aS (ς a rs.length c)) nT rs j f)
 case atStart=>exact⟨0,_,_,by omega,rfl,n1,I,U,zo,ai,aa⟩
 case round=>
  clear n1 I U zo ai aa;clear w1;obtain⟨j,f,fS,hk,rfl,nr,ak,ad,q,sy,he⟩:=hrel
  by_cases hlt:j<rs.length
  ·obtain⟨Z,bb,T,hv,aw,X,c0,c1⟩:=Az.at hlt
   cases hv;have Wl:aS (ς (ο ⟨Z,0,ν⟩) rs.length c)=Z:=rfl;rw[Wl]at he B;have yh:cv w ⟨Z,j*2+1,ν⟩=T:=by unfold cv;rw[c1];rfl
   have ab:=q.block Z (G Z aw);have d0:=(cQ (w:=w) ab).trans c0;have d1:=(cQ (w:=w) ab).trans c1;have aX:=hn rs[j] (eJ hlt);have af:=sy.step nd hlt;have s:(aT (rs.take (j+1))).length<=50000:=by
    obtain⟨R,e⟩:∃R,aT rs=aT (rs.take (j+1))++R:=by
     refine⟨(rs.drop (j+1)).flatMap qH,?_⟩;unfold aT
     conv=>lhs;rw[<-lj (j+1) rs]
     rw[ik,ip]
    rw[e,cJ]at bN;omega
   have O:=aju hlt;have L:qH rs[j]=rs[j].name::hNames rs[j].name (hlA w T rs[j].alts).length:=by rw[Tq X];rfl
   rw[O,L]at s;have Wj:∀p∈aL 9 w T rs[j].alts,F p.1.block/\iV w p.1.block:=fun p hp=>B.1 p (RQ rs 0 j (cG hlt) (by rw[fX,yh];exact hp))
   have GH:((aL 9 w T rs[j].alts).map Prod.fst).Nodup:=by
    have:=YI rs 0 j _ B.2 (cG hlt);rw[fX,yh]at this;exact this
   have y:∀f',DZ (nT+(aT (rs.take j)).length+1) (hlA w T rs[j].alts) f f'->Aj w Z nT rs (j+1) f':=fun f' av=>he.step hlt B.2 (by rw[yh];exact av)
   have an:Hid _:=y;have am:Hid (aT (rs.take (j+1))=aT (rs.take j)++rs[j].name::hNames rs[j].name (hlA w T rs[j].alts).length):=by show _=_;rw[O,L]
   clear y O L c0 c1 yh he B sy;have UU:=af;clear af;generalize rs[j].alts=al at *;generalize rs[j].name=nm at *;obtain⟨N,hN⟩:=aC (aT (rs.take j));rw[<-hN]at nr s an am UU;clear hN;obtain⟨sa,sc,rfl,-⟩:=aN.len X;obtain⟨W1,z⟩:=aC (wr.alloc (ζ #[τ nm,ς sa al.length sc] 296));have Q:φ wr.heap.size wr W1.drew:=by rw[z];exact((cV _ _).alloc (dv _) _).drew
   have bf:W1.heap.size=wr.heap.size+1:=by rw[z];simp
   have kR:aj W1 wr.heap.size #[τ nm,ς sa al.length sc] 296:=by rw[z];exact aj.new wr _ 296
   obtain⟨n1,m⟩:=nr.new Q (by show wr.heap.size<W1.heap.size;omega);have aP:=ad.lt;have U:=ad.go Q aP;have aE:=U.a0;have aV:=kR.drew.a0;have ap:=n1.D5.2;have bc:N.length<=50000:=by rw[cJ]at s;omega
   have q1:=n1.call bT (by omega) nm;have I:SMap W1.drew S fS:=ak.move (Q.block _ (nr.lt S (.inr (.inl rfl))));go_wp2_with fail;rw[<-z];clear z d0 d1
   go_region_held3 (fun w'=>w'.cell? ⟨w.heap.size,0,ν⟩=ο (π (ο ⟨n,0,ν⟩))/\w'.cell? ⟨wr.heap.size,0,ν⟩=ο (τ nm)/\w'.cell? ⟨n,5,ν⟩=ο (.map (ο S))) (first|go_keep|assumption) ((go_at_call 140;refine q1.mono ?_;rintro e w3⟨rfl,Y,l⟩;have S3:w3.cell? ⟨w.heap.size,0,ν⟩=ο (π (ο ⟨n,0,ν⟩))/\w3.cell? ⟨wr.heap.size,0,ν⟩=ο (τ nm)/\w3.cell? ⟨n,5,ν⟩=ο (.map (ο S)):=⟨(eD U l (.inl (.inr (.inr rfl)))).cell 0,(eD kR.drew l (.inr rfl)).cell 0,Y.D5.2⟩;obtain⟨t,EB,He,o,ag⟩:=SMap.put (w:=w3) (I.move (l.block S (.inl (.inr (.inl rfl))))) nm ((nT:Int)+(N.length:Int));have K:=Y.other (w':=t) (fun g d hd=>o.block g d fun e=>hd (.inl (.inr (.inl (fL e))))) (by omega);have Hf:aj t w.heap.size #[π (ο ⟨n,0,ν⟩)] 306:=(o.block _ (by have:=Y.lt w.heap.size (.inl (.inr (.inr rfl)));exact this) (fun e=>by have:=fL e;omega)).trans (eD U l (.inl (.inr (.inr rfl))));have ql:aj t wr.heap.size #[τ nm,ς sa al.length sc] 296:=(o.block _ (Y.lt _ (.inr rfl)) (fun e=>by have:=fL e;omega)).trans (eD kR.drew l (.inr rfl));have S4:t.cell? ⟨w.heap.size,0,ν⟩=ο (π (ο ⟨n,0,ν⟩))/\t.cell? ⟨wr.heap.size,0,ν⟩=ο (τ nm)/\t.cell? ⟨n,5,ν⟩=ο (.map (ο S)):=⟨Hf.cell 0,ql.cell 0,K.D5.2⟩))
   clear q1 EB S3 S4 aE aV ap;have CJ:∀(fn:Fn)(first cap:Array υ)(w:ω),(Instr.makeFunc fn first cap).run prog w=.ok (.func fn first cap) w:=fun _ _ _ _=>rfl
   have aA:=ql.a1;have aH:=ql.lt;have ac:=Hf.lt;have bd:Hid _:=ag;clear ag;obtain⟨W5,nD⟩:=aC (t.alloc (ζ #[ι ξ 0] 3));have E:φ t.heap.size t W5:=by rw[nD];exact(cV _ _).alloc (dv _) _
   have ba:W5.heap.size=t.heap.size+1:=by rw[nD];simp
   have nC:aj W5 t.heap.size #[ι ξ 0] 3:=by rw[nD];exact aj.new t _ 3
   obtain⟨n5,ae⟩:=K.new E (by omega);have aq:=K.lt S (.inl (.inr (.inl rfl)));have ah:Kp D w t:=⟨o.os.trans (l.os.trans (m.os.trans q.os)),o.tape.trans (l.tape.trans (m.tape.trans q.tape)),o.output.trans (l.output.trans (m.output.trans q.output)),cY q.size (cY m.size (cY l.size o.size)),fun g d=>(o.block g (Y.lt g (.inl (.inl d))) (fun e=>nS ((fL e)▸d))).trans ((l.block g (.inl (.inl d))).trans ((m.block g (.inl d)).trans (q.block g d)))⟩;have V:=ah.trans ae fun g d=>.inl (.inl d)
   have KX:=aN.move (fun b u=>V.block b (G b u)) (fun _ h=>h) X;have P9:=Jp X fun b u=>V.block b (G b u)
   have Wm:hlA W5 (ς sa al.length sc) al=hlA w (ς sa al.length sc) al:=by unfold hlA;rw[P9]
   have q5:=afs (cb:=t.heap.size) (xb:=w.heap.size) (rb:=wr.heap.size) n5 nC ((E.block _ ac).trans Hf) ((E.block _ aH).trans ql) (.inr rfl) (.inl (.inl (.inr (.inr rfl)))) (.inl (.inr rfl)) (by omega) (by omega) (ht.move (V.block _ dT)) (.inl (.inl (.inl dT))) (by have:=K.lt rU (.inl (.inl dT));omega) (fun b u=>⟨.inl (.inl (.inl (G b u.1))),by have:=K.lt b (.inl (.inl (G b u.1)));omega,u.2.move (V.block b (G b u.1))⟩) (fun b u=>⟨.inl (.inl (.inl (G b u))),by have:=K.lt b (.inl (.inl (G b u)));omega⟩) KX (fun p hp=>Wj p (by rw[<-P9];exact hp)) (by rw[P9];exact GH) bT (by rw[Wm];rw[cJ,eh,RP]at s;rw[cJ,gw];omega) aX;rw[Wm]at q5;go_wp2_with fail;rw[<-nD];refine q5.mono ?_;rintro e w6⟨rfl,f6,n6,tZ,ar⟩;have Qa:SMap w6 S _:=(He.move (E.block _ aq)).move (tZ.block S ⟨.inl (.inl (.inr (.inl rfl))),by omega⟩);have mI:aj w6 w.heap.size #[π (ο ⟨n,0,ν⟩)] 306:=(tZ.block _ ⟨.inl (.inl (.inr (.inr rfl))),by omega⟩).trans ((E.block _ ac).trans Hf);have ax:=V.trans tZ fun g d=>⟨.inl (.inl (.inl d)),by have:=K.lt g (.inl (.inl d));omega⟩
   have az:=an.out f6 (by rw[show nT+N.length+1=nT+(N++[nm]).length by rw[cJ,gw];omega];exact ar);have P:=n6.weak (D':=fun g=>D g\/g=S\/g=w.heap.size) fun g d=>.inl (.inl d)
   rw[dy,th,<-am.out]at P;have en:((nT+N.length:Nat):Int)=(nT:Int)+(N.length:Int):=by omega
   rw[en]at UU;have a9:Hid _:=P;clear q5 n6 P K n5 Y KX P9 Wm ae ah V CJ aA;go_wp2_with fail;go_roundg (rs.length - (j+1))
   case measure=>omega
   case rel=>exact⟨j+1,f6,_,by omega,by go_num,a9.out,Qa,mI,ax,UU,az⟩
  ·have:j=rs.length:=by omega
   subst this;go_wp2_with fail
   go_end0
   exact⟨rfl,⟨f,fS,nr.weak (fun g d=>by rcases d with d | d;exact .inl d;exact .inr (.inl d)),ak,sy,he⟩,q⟩
theorem Tryz.ak9:(prog.info? 143).map (fun i=>(i.zero,i.size,i.bytes))=ο (ο (.agg #[.int ξ 0,.slice ν 0 0,.int ξ 0]),3,40):=by kernel_rfl
theorem Tryz.aft:prog.underlying 46=ο (.slice 143):=by kernel_rfl
theorem ahd(h:IR 0 w v r)(x:r.length<=1000000):χ prog 182 #[v] w fun e w'=>∃v',e=δ v'/\IR w.heap.size w' v' r/\φ w.heap.size w w':=by
 have b:=h;unfold IR at b;rcases b.2 with i|⟨g,d,l,p,z,y,t,n,q,m⟩
 ·obtain⟨a,c,rfl,-⟩:=aB h
  have u:a=ν/\r=[]:=by
   have e:=i.1;have A:=i.2;simp only[Value.slice.injEq]at e;refine⟨e.1,ir ?_⟩;omega
  obtain⟨rfl,rfl⟩:=u;refine(Tryz.slices_Clone_int_nil _ _ w).mono ?_;rintro e w'⟨rfl,rfl⟩;exact⟨_,rfl,eV _ _ _ _,cV _ _⟩
 ·subst p
  refine(Tryz.slices_Clone_int g 0 r.length d (r.map fun(s:Nat)=>(s:Int)) w (by simp) (by omega) (fun j k=>?_)).mono ?_
  ·simp only[List.length_map]at k
   rw[fX,b.cellAt j (by omega)];unfold dP;simp[List.getD,k]
  ·rintro e w'⟨v',rfl,f,-,o⟩
   refine⟨v',rfl,?_,o⟩;unfold IR;have e:(List.take r.length (r.map fun(s:Nat)=>(s:Int))).map (ι ξ)=dP r:=by
    rw[vn (by simp),pj];rfl
   rw[e]at f;exact f
def PP(D:Nat->Prop)(w:ω)(v:υ)(P:List Lx.Pd):Prop:=∃ps:List (υ×Lx.Pd),ps.map Prod.snd=P/\w.ownsRow 0 143 3 v P.length (ps.flatMap tY)/\(∀q,q∈ps->IR 0 w q.1 q.2.right/\∀g,q.1.ownBlock=ο g->D g)/\ps.Pairwise fun a b=>∀g,a.1.ownBlock=ο g->b.1.ownBlock≠ο g
structure Mp(D G:Nat->Prop)(w:ω)(mb S H:Nat)(ta:Option Addr)(nT tc:Nat)(vN vB vK:υ)(fS:ByteArray->Int)(fH:Addr->Int)(P:List Lx.Pd):Prop where
 ex:∃vP,aj w mb #[ς ta nT tc,vN,vP,vB,vK,.map (ο S),.map (ο H)] 216/\PP (fun g=>D g/\mb<g) w vP P/\∀g,vP.ownBlock=ο g->¬D g/\mb<g
 sm:SMap w S fS
 pm:tJ G w H fH
 dS:D S
 dH:D H
 nm:¬D mb
 lt:∀g,D g->g<w.heap.size
 gc:∀b,G b->D b/\iV w b
section
variable{D G:Nat -> Prop}{w:ω}{mb S H:Nat}{ta:Option Addr}{nT tc:Nat}{vN vB vK:υ}{fS:ByteArray -> Int}{fH:Addr -> Int}{P:List Lx.Pd}
theorem Mp.lm(h:Mp D G w mb S H ta nT tc vN vB vK fS fH P):mb<w.heap.size:=by
 obtain⟨a,h1,-⟩:=h.ex;exact h1.lt
theorem Mp.below(h:Mp D G w mb S H ta nT tc vN vB vK fS fH P)(a:φ w.heap.size w w'):Mp D G w' mb S H ta nT tc vN vB vK fS fH P:=by
 obtain⟨⟨s,h1,⟨p,p1,p2,i,m⟩,h3⟩,r,t,k,l,n,d,f⟩:=h;exact⟨⟨s,(a.block _ h1.lt).trans h1,⟨p,p1,own_below p2 a,fun q j=>⟨own_below (i q j).1 a,(i q j).2⟩,m⟩,h3⟩,r.move (a.block _ (d _ k)),t.move (a.block _ (d _ l)),k,l,n,fun g o=>dg (d g o) a.size,fun b c=>⟨(f b c).1,(f b c).2.move (a.block b (d b (f b c).1))⟩⟩
end
theorem Mp.push{w3 m:ω}{o:Obj}{f S:Nat}{L:ByteArray->Int}{J:Addr->Int}{P:List Lx.Pd}{ps:List (υ×Lx.Pd)}{left:Nat}{K:Int}(h:Mp D G w f S H ta nT tc A vB vK L J P)(h1:aj w f #[ς ta nT tc,A,vP,vB,vK,.map (ο S),.map (ο H)] 216)(B:ps.map Prod.snd=P)(E:w.ownsRow 0 143 3 vP P.length (ps.flatMap tY))(l:∀q,q∈ps->IR 0 w q.1 q.2.right/\∀g,q.1.ownBlock=ο g->D g/\f<g)(O:ps.Pairwise fun a b=>∀g,a.1.ownBlock=ο g->b.1.ownBlock≠ο g)(h3:∀g,vP.ownBlock=ο g->¬D g/\f<g)
  (k:φ w.heap.size w w3) (v:IR w.heap.size w3 u r) (T:m.ownsRow 0 143 3 (ς (ο ⟨j,0,ν⟩) (P.length+1) d) (P.length+1) (ps.flatMap tY++[ι ξ (left:Int),u,ι ξ K])) (n:(w3.alloc o).grownBy m vP.ownBlock) (s:vP.ownBlock=ο j\/w3.heap.size<=j) (I:K=rJ nT r) :
  ∃D',(∀g,D g->D' g)/\Mp D' G (m.setCell ⟨f,2,ν⟩ (ς (ο ⟨j,0,ν⟩) (P.length+1) d)) f S H ta nT tc A vB vK L J (P++[dh nT left r])/\Kp D w (m.setCell ⟨f,2,ν⟩ (ς (ο ⟨j,0,ν⟩) (P.length+1) d)):=by
 have Y:=h1.lt;have N:=k.size;have R:w3.heap.size+1<=m.heap.size:=by have:=n.size;simpa using this
 have C:f<j:=by
  rcases s with e|e
  ·exact(h3 j e).2
  ·omega
 have bk:∀g,g<w3.heap.size->g≠f->vP.ownBlock≠ο g->(m.setCell ⟨f,2,ν⟩ (ς (ο ⟨j,0,ν⟩) (P.length+1) d)).heap[g]?=w3.heap[g]?:=fun g U X Z=>by
  rw[fy _ _ _ _ X,n.block g (by simp;omega) (fun e=>Z e.symm),ed _ _ _ U]
 have y:∀g,D g->(m.setCell ⟨f,2,ν⟩ (ς (ο ⟨j,0,ν⟩) (P.length+1) d)).heap[g]?=w.heap[g]?:=fun g hd=>by
  have:=h.lt g hd;rw[bk g (by omega) (fun e=>h.nm (e▸hd)) (fun e=>(h3 g e).1 hd),k.block g this]
 have i:∀g,u.ownBlock=ο g->w.heap.size<=g/\g<w3.heap.size:=fun g n=>v.lt g n
 have t:∀g,vP.ownBlock=ο g->g<w.heap.size:=fun g n=>(E.lt g n).2
 have W:∀g,u.ownBlock=ο g->(m.setCell ⟨f,2,ν⟩ (ς (ο ⟨j,0,ν⟩) (P.length+1) d)).heap[g]?=w3.heap[g]?:=fun g V=>by
  have Q:=i g V;exact bk g Q.2 (by omega) (fun e=>by have:=t g e;omega)
 have hsz:w.heap.size<=(m.setCell ⟨f,2,ν⟩ (ς (ο ⟨j,0,ν⟩) (P.length+1) d)).heap.size:=by simp[World.setCell];omega
 have k4:aj m f #[ς ta nT tc,A,vP,vB,vK,.map (ο S),.map (ο H)] 216:=by
  unfold aj;rw[n.block f (by simp;omega) (fun e=>qT _ (h3 f e.symm).2),ed _ _ _ (by omega),k.block f Y];exact h1
 refine⟨fun g=>D g\/u.ownBlock=ο g,fun g hd=>.inl hd,⟨⟨_,k4.set 2 _,⟨ps++[(u,dh nT left r)],?_,?_,?_,?_⟩,?_⟩,h.sm.move (y S h.dS),h.pm.move (y H h.dH),.inl h.dS,.inl h.dH,?_,?_,fun b x=>⟨.inl (h.gc b x).1,(h.gc b x).2.move (y b (h.gc b x).1)⟩⟩,⟨n.os.trans k.os,n.tape.trans k.tape,n.output.trans k.output,hsz,y⟩⟩
 ·rw[ee,B];rfl
 ·rw[ik,cJ]
  refine ay (by simpa [tY,dh,I]using T) fun g c=>fy _ _ _ _ (fun e=>?_)
  have M:j=g:=by simpa [Value.ownBlock]using c
  have e2:g=f:=e;omega
 ·intro q p
  rcases dq.1 p with p|p
  ·exact⟨ay (l q p).1 fun g c=>y g ((l q p).2 g c).1,fun g c=>⟨.inl ((l q p).2 g c).1,((l q p).2 g c).2⟩⟩
  ·rw[dd.1 p]
   exact⟨jb (ay v fun g c=>W g c) (fi _),fun g c=>⟨.inr c,by have:=i g c;omega⟩⟩
 ·rw[rh]
  refine⟨O,p7 _ _,fun a ha b x g F z=>?_⟩;rw[dd.1 x]at z;have:=h.lt g ((l a ha).2 g F).1;have:=i g z;omega
 ·intro g c
  have M:j=g:=by simpa [Value.ownBlock]using c
  subst M;refine⟨?_,C⟩;rintro(hd | hd)
  ·rcases s with e | e
   ·exact(h3 _ e).1 hd
   ·have:=h.lt _ hd;omega
  ·have:=i _ hd
   rcases s with e|e
   ·have:=t _ e;omega
   ·omega
 ·rintro(hd | hd)
  ·exact h.nm hd
  ·have:=i _ hd;omega
 ·rintro g(hd | hd)
  ·have:=h.lt g hd;omega
  ·have:=i g hd;simp[World.setCell];omega
theorem Ac{b S:Nat}{W:υ}{V:Addr->Int}{P:List Lx.Pd}(h:Mp D G w b S H ta nT tc W vB vK fS V P)(left:Nat)(Z:υ)(r:List Nat)(O:IR 0 w Z r)(Q:r.length<=1000000)(hP:P.length<=1000000000000):
  χ prog 144 #[π (ο ⟨b,0,ν⟩),ι ξ (left:Int),Z] w fun e w'=>e=δ (θ #[])/\∃D',(∀g,D g->D' g)/\Mp D' G w' b S H ta nT tc W vB vK fS V (P++[dh nT left r])/\Kp D w w':=by
 obtain⟨i0,R,K,M,B⟩:=ft Tryz.ak9;obtain⟨vP,h1,sw,h3⟩:=h.ex;obtain⟨ps,I,j,A,Wn⟩:=sw;obtain⟨t,v,rfl,C⟩:=aB j;obtain⟨ra,rc,rfl,ab⟩:=aB O;have KW:=h1.lt;have m0:=h1.a0;go_enter func144,ntmps144;go_wp2_with fail
 go_loopg [6,11] r.length (fun k p i wr=>∃(m:Nat)(d:Int),m+k=r.length/\p=ι ξ d/\i=ι ξ m/\wr=w/\Hid (d=rJ nT (r.take m)))
 case atStart=>exact⟨0,-1,by omega,rfl,rfl,rfl,rfl⟩
 case round=>
  obtain⟨m,d,ac,rfl,rfl,rfl,N⟩:=hrel
  by_cases hlt:m<r.length
  ·obtain⟨gR,cR,hv,lR,F⟩:=O.at hlt
   cases hv;have a:=agh (n:=nT) hlt;rw[<-N.out]at a;generalize r[m]=s at F a
   by_cases hst:s<nT
   ·have l:Hid ((s:Int)=rJ nT (r.take (m+1))):=by rw[du hst]at a;exact a.symm
    clear a;go_wp2_with fail;go_roundg (r.length - (m+1))
    case measure=>omega
    case rel=>exact⟨m+1,_,by omega,rfl,by go_num,rfl,l⟩
   ·have l:Hid (d=rJ nT (r.take (m+1))):=by rw[dt hst]at a;exact a.symm
    clear a;go_wp2_with fail;go_roundg (r.length - (m+1))
    case measure=>omega
    case rel=>exact⟨m+1,_,by omega,rfl,by go_num,rfl,l⟩
  ·have:m=r.length:=by omega
   subst this;have l:Hid (d=rJ nT r):=by have:=N.out;rw[ff]at this;exact this
   clear N;have jr:IR 0 wr.drew (ς ra r.length rc) r:=ay O fun _ _=>rfl
   have qC:=ahd jr Q;have m2:=h1.drew.a2;have L:(ς t P.length v).ownBlock≠ο b:=fun e=>qT _ (h3 b e).2
   unfold maxLen at C;go_wp2_with fail
   go_region_law (first|(refine eZ rfl 182 #[ς ra r.length rc] (by go_simp) qC ?_;rintro e u⟨u3,rfl,f,c⟩;have q:aj u b _ 216:=(c.block b KW).trans h1;obtain⟨x,y,rfl,-⟩:=aB f;have o3:=own_below (ay (w':=wr.drew) j fun _ _=>rfl) c;have T:=o3.alloc (ζ #[ι ξ (left:Int),ς x r.length y,ι ξ d] 143);have e3:u.cell? ⟨b,2,ν⟩=ο (ς t P.length v):=q.cell 2;have aa:=q.lt;refine⟨_,rfl,?_⟩)|(refine step_append_lies _ rfl (.tmp 30) (.tmp 36) 46 rfl 0 143 i0 _ 3 40 Tryz.aft R K M B rfl (by decide) (ς t P.length v) P.length (ps.flatMap tY) (by simp[Act.eval]) T ⟨u.heap.size,0,ν⟩ 1 1 [ι ξ (left:Int),ς x r.length y,ι ξ d] (by simp[Act.eval]) rfl (bQ (aj.new u _ 143)) (by simp[Value.oneCell']) (by decide) (by unfold maxLen;omega) (by omega) (by simp) _ rfl ?_;intro g4 X U uY z Y xL;have E:=(q.alloc (ζ #[ι ξ (left:Int),ς x r.length y,ι ξ d] 143)).grown z (fun e=>L e.symm);have J:U.cell? ⟨b,2,ν⟩=ο (ς t P.length v):=E.cell 2;have f4:∀i,U.frozen? ⟨b,i,ν⟩=ε:=E.frozen))
   all_goals
    have o:=Mp.push h h1 I j A Wn h3 (((cV wr.heap.size wr).drew).trans c) f uY z (Y.imp id fun e=>by rw[e];simp) l.out;clear E J f4 z uY Y xL o3 T e3 c q f qC m2 jr;go_wp2_with fail
    go_end0
    exact⟨rfl,o⟩
theorem Ng{sub:υ->List Lx.Alt->List AI}{w:ω}{g:Nat}{p:AI}:∀(its:List Lx.It)(i:Nat),p∈eO sub w g i its↔∃m x,its[m]?=ο x/\(p=((⟨g,(i+m)*4,ν⟩:Addr),x)\/p∈sub (cv w ⟨g,(i+m)*4+3,ν⟩) x.alts)
 | [],i=>by simp[eO]
 |x::xs,i=>by
  rw[eO,fh,dq,Ng xs (i+1)];constructor
  ·rintro(h | h | ⟨m,y,h1,h2⟩)
   ·exact⟨0,x,rfl,.inl h⟩
   ·exact⟨0,x,rfl,.inr h⟩
   ·exact⟨m+1,y,by simpa using h1,by rw[show i+(m+1)=i+1+m by omega];exact h2⟩
  ·rintro⟨m,y,h1,h2⟩
   cases m with
   |zero=>
    simp only[List.getElem?_cons_zero,Option.some.injEq]at h1;subst h1;rcases h2 with h2|h2
    ·exact .inl h2
    ·exact .inr (.inl h2)
   |succ m=>exact .inr (.inr ⟨m,y,by simpa using h1,by rw[show i+1+m=i+(m+1) by omega];exact h2⟩)
theorem Nl{sub:υ->List Lx.Alt->List AI}{w:ω}{g:Nat}{p:AI}:∀(l:List Lx.Alt)(j:Nat),p∈dW sub w g j l↔∃k a,l[k]?=ο a/\p∈eO sub w (aS (cv w ⟨g,(j+k)*2,ν⟩)) 0 a.1
 | [],j=>by simp[dW]
 |a::l,j=>by
  rw[dW,dq,Nl l (j+1)];constructor
  ·rintro(h | ⟨k,b,h1,h2⟩)
   ·exact⟨0,a,rfl,h⟩
   ·exact⟨k+1,b,by simpa using h1,by rw[show j+(k+1)=j+1+k by omega];exact h2⟩
  ·rintro⟨k,b,h1,h2⟩
   cases k with
   |zero=>
    simp only[List.getElem?_cons_zero,Option.some.injEq]at h1;subst h1;exact .inl h2
   |succ k=>exact .inr ⟨k,b,by simpa using h1,by rw[show j+1+k=j+(k+1) by omega];exact h2⟩
theorem abr{l:List Lx.Alt}(h:aN YP (d+1) F w v l)(a:k<l.length):∃vi,w.cell? ⟨aS v,k*2,ν⟩=ο vi/\jO YP d F w vi l[k].1/\∀m(hm:m<l[k].1.length),((⟨aS vi,m*4,ν⟩:Addr),l[k].1[m])∈aL (d+1) w v l:=by
 obtain⟨-,vi,b,f⟩:=FE h a;refine⟨vi,b,f,fun m hm=>?_⟩;show _∈dW (aL d w) w (aS v) 0 l;rw[Nl];refine⟨k,l[k],cG a,?_⟩;have c:cv w ⟨aS v,(0+k)*2,ν⟩=vi:=by unfold cv;rw[fX,b];rfl
 rw[c,Ng];exact⟨m,l[k].1[m],cG hm,.inl (by rw[fX])⟩
theorem abt:∀{d:Nat}{F:Nat->Prop}{w:ω}{v:υ}{l:List Lx.Alt},aN YP d F w v l->∀{p:AI},p∈aL d w v l->∃n m d' va,p.1=⟨n,m*4,ν⟩/\F n/\oV w n m p.2/\w.cell? ⟨n,m*4+3,ν⟩=ο va/\aN YP d' F w va p.2.alts/\∀q∈aL d' w va p.2.alts,q∈aL d w v l
 |0,_,_,_,_,_,p,hp=>by cases hp
 |d+1,F,w,v,l,h,p,hp=>by
  have f:p∈dW (aL d w) w (aS v) 0 l:=hp;rw[Nl]at f;obtain⟨k,a,B,i⟩:=f;obtain⟨D,rfl⟩:=cH.1 B;obtain⟨-,s,N,H⟩:=FE h D;have A:cv w ⟨aS v,(0+k)*2,ν⟩=s:=by unfold cv;rw[fX,N];rfl
  rw[A,Ng]at i;obtain⟨m,x,z,c⟩:=i;obtain⟨K,rfl⟩:=cH.1 z;have g:=H;unfold jO xu at g;obtain⟨n,O,va,M,I,t,b⟩:=Seq.at g (fun _=>rfl) K;have y:aS s=n:=by rw[M];rfl
  have o:w.cell? ⟨n,m*4+3,ν⟩=ο va:=b 3 (by decide);have u:cv w ⟨aS s,(0+m)*4+3,ν⟩=va:=by unfold cv;rw[fX,y,o];rfl
  have j:∀q,q∈aL d w va l[k].1[m].alts->q∈aL (d+1) w v l:=by
   intro q r;show _∈dW (aL d w) w (aS v) 0 l;rw[Nl];refine⟨k,l[k],B,?_⟩;rw[A,Ng];exact⟨m,_,z,.inr (by rw[u];exact r)⟩
  rw[u]at c;rcases c with rfl|c
  ·exact⟨n,m,d,va,by rw[y,fX],I,⟨b 0 (by decide),b 1 (by decide),b 2 (by decide)⟩,o,t,j⟩
  ·obtain⟨C,J,d',G,h1,h2,h3,h4,E,L⟩:=abt t c
   exact⟨C,J,d',G,h1,h2,h3,h4,E,fun q r=>j q (L q r)⟩
def Ak(fS:ByteArray->Int)(fH:Addr->Int)(p:AI):Int:=if Lx.hlp p.2=η then fH p.1 else fS p.2.name
section
variable{D G:Nat -> Prop}{w:ω}{mb S H:Nat}{ta:Option Addr}{nT tc:Nat}{vN vB vK:υ}{fS:ByteArray -> Int}{fH:Addr -> Int}{P:List Lx.Pd}
theorem Mp.cells(h:Mp D G w mb S H ta nT tc vN vB vK fS fH P):w.cell? ⟨mb,0,ν⟩=ο (ς ta nT tc)/\w.cell? ⟨mb,5,ν⟩=ο (.map (ο S))/\w.cell? ⟨mb,6,ν⟩=ο (.map (ο H)):=by
 obtain⟨a,h1,-⟩:=h.ex;exact⟨h1.cell 0,h1.cell 5,h1.cell 6⟩
end
theorem oV.move{b:Lx.It}(h:oV w n m b)(a:w'.heap[n]?=w.heap[n]?):oV w' n m b:=⟨(cQ (w:=w) a).trans h.kind,(cQ (w:=w) a).trans h.name,(cQ (w:=w) a).trans h.mark⟩
theorem ahe{l S:Nat}{x:υ}{t:ByteArray->Int}{q:Addr->Int}{P:List Lx.Pd}(h:Mp D G w l S H ta nT tc x vB vK t q P){f:Lx.It}(k:oV w n m f)(z:G n)(s:Nat)(c:Ak t q (⟨n,m*4,ν⟩,f)=(s:Int)):
  χ prog 183 #[π (ο ⟨l,0,ν⟩),π (ο ⟨n,m*4,ν⟩)] w fun e w'=>e=δ (ι ξ (s:Int))/\φ w.heap.size w w':=by
 have o:=Ru k;obtain⟨v,r,u⟩:=h.cells;have g:=k.name;unfold Ak at c;go_enter func183,ntmps183;go_wp2_with fail;refine o.mono ?_;rintro e w1⟨rfl,j⟩;obtain rfl:=j.symm;cases hh:Lx.hlp f with
 |true=>
  rw[du hh]at c;have i:=tJ.look h.pm (fun b y=>(h.gc b y).2) (a:=⟨n,m*4,ν⟩) z;rw[c]at i;clear o hh c;go_wp2_with fail;go_ret;exact⟨rfl,cV _ _⟩
 |false=>
  rw[dt (by rw[hh];decide)]at c;have i:=SMap.look (w:=w.drew) (h.sm.move rfl) f.name;have d:=c;rw[d]at i;have B:w.drew.cell? ⟨l,5,ν⟩=ο (.map (ο S)):=r;have A:w.drew.cell? ⟨n,m*4+1,ν⟩=ο (τ f.name):=g;have p:φ w.heap.size w w.drew:=(cV _ _).drew;clear o hh c d v r u g k;go_wp2_with fail
  go_region
  all_goals
   go_wp2_with fail;go_ret;exact⟨rfl,p⟩
theorem Zp{Y S:Nat}{X:Addr->Int}{P:List Lx.Pd}(h:Mp D G w Y S H ta nT tc vN vB vK fS X P)(f:List Lx.It)(x:υ)(hi:jO YP d F w x f)(hF:∀b,F b->D b)(r:List Nat)(R:r.length=f.length)(J:∀k(hk:k<f.length),G (aS x)/\Ak fS X (⟨aS x,k*4,ν⟩,f[k])=(r[k]:Int))(ad:f.length<=10000)(m:ByteArray):
  χ prog 145 #[π (ο ⟨Y,0,ν⟩),γ #[x,τ m]] w fun e w'=>∃u,e=δ u/\IR w.heap.size w' u r/\φ w.heap.size w w':=by
 obtain⟨i0,T,K,M,E⟩:=ft Tryz.info3;obtain⟨ia,ic,rfl,C⟩:∃a c,x=ς a f.length c/\f.length<=maxLen:=Seq.len (show Tr.Seq F w YP.eI YP.sI YP.cI (fun Z it=>aN YP d F w Z it.alts) x f from hi);unfold maxLen at C;go_enter func145,ntmps145;go_wp2_with fail;obtain⟨W,z⟩:=aC (w.alloc (ζ #[ς ia f.length ic,τ m] 311));rw[<-z];have hB:φ w.heap.size w W:=by rw[z];exact(cV _ _).alloc (dv _) _
 have ab:W.heap.size=w.heap.size+1:=by rw[z];simp
 have kA:aj W w.heap.size #[ς ia f.length ic,τ m] 311:=by rw[z];exact aj.new w _ 311
 clear z
 go_loopg [5,10] f.length (fun k vo i wr=>∃(j:Nat)(g:List Nat),j+k=f.length/\i=ι ξ j/\IR W.heap.size wr vo g/\φ W.heap.size W wr/\Hid (g=r.take j))
 case atStart=>exact⟨0,[],by omega,rfl,eV _ _ _ _,cV _ _,rfl⟩
 case round=>
  revert wr;intro wz hrel;obtain⟨j,g,hk,rfl,A,o,B⟩:=hrel;have ac:g.length<=10000:=by rw[B.out,fR];omega
  obtain⟨oa,oc,rfl,KV⟩:=aB A;have hsz:=o.size;have q:=hB.trans (o.mono (by omega));have CP:=kA.go o (by omega);have a0:=CP.a0
  by_cases hlt:j<f.length
  ·have hz:=h.below q
   have t:=jO.move (fun b hb=>q.block b (h.lt b (hF b hb))) (fun _ h=>h) hi;unfold jO xu at t;obtain⟨n,Eb,Z,hv,hn,ae,p⟩:=Seq.at t (fun _=>rfl) hlt;cases hv;obtain⟨Q,hs⟩:=J j hlt;have y:oV wz n j f[j]:=⟨p 0 (by decide),p 1 (by decide),p 2 (by decide)⟩;have L:=ahe hz y Q _ hs;have ku:Hid (r.take (j+1)=g++[r[j]]):=by show _=_;rw[B.out,fY (by omega)]
   generalize r[j]=s at L ku;clear hs p t y;go_wp2_with fail;refine L.mono ?_;rintro e w1⟨rfl,v⟩;have I:=own_below A v;have aa:=v.size;have O:=o.trans (v.mono hsz);have oA:=I.alloc (ζ #[ι ξ (s:Int)] 3);clear L
   go_wp2_with (at_builtin;go_loud (refine ii _ rfl _ _ 47 rfl W.heap.size 3 i0 _ 1 8 underlying47 T K M E rfl (by decide) (.slice oa g.length oc) _ _ rfl oA ⟨_,0,ν⟩ 1 1 [.int ξ (s:Int)] rfl rfl (bQ (aj.new _ _ 3)) (by simp[Value.oneCell']) (by unfold maxLen;omega) (by omega) (by simp;omega) ?_;intro v5 w5 l aX _ jd;obtain⟨mG,mH,U,-⟩:=aB l;subst U))
   have N:=(O.alloc (by omega) _).grown aX (by simp;omega) (fun k hk=>(A.lt k hk).1);go_roundg (f.length - (j+1))
   case measure=>omega
   case rel=>exact⟨j+1,g++[s],by omega,by go_num,by unfold IR;rw[cJ,FH];exact l,N,ku.out.symm⟩
  ·have:j=f.length:=by omega
   subst this;have V:Hid (g=r):=by have:=B.out;rw[<-R,ff]at this;exact this
   clear B;go_wp2_with fail;go_ret;exact⟨_,rfl,by rw[<-V.out];exact jb A (by omega),q⟩
theorem ajA(q:1<=n)(o:n<=1000000)(w:ω):χ prog 199 #[ς ν 0 0,ι ξ (n:Int)] w fun e w'=>∃v,e=δ v/\w'.ownsRow w.heap.size 3 1 v 0 []/\φ w.heap.size w w':=by
 obtain⟨i,m,g,l,d⟩:=ft Tryz.info3;have a:=Lib.run_append_nil_zeros (P:=prog) w 47 3 47 3 i (.int ξ 0) ξ ξ underlying47 (by kernel_rfl) m g n (by omega) (by omega) (by omega) (by rw[d];omega);generalize hcap:grownCap w n 0 3=cap2 at a;have c:n<=cap2:=by rw[<-hcap];exact grownCap_ge w _ 0 3
 have b:cap2<=maxLen:=by rw[<-hcap];exact yq w _ 0 3 (by unfold maxLen;omega)
 generalize hZ:(Builtin.zeroCells (ι ξ 0).cells n++Builtin.zeroCells (ι ξ 0).cells (cap2-n))=Z at a;have j:Z.size=cap2:=by rw[<-hZ];simp[size_zeroCells,Value.cells];omega
 clear hcap hZ;have p:¬(n:Int)<0:=by omega
 have g1:0<(n:Int):=by omega
 go_enter func199,ntmps199
 go_wp2_with (at_builtin;refine Lib.wpList_append_run _ rfl _ _ _ _ rfl _ _ rfl rfl _ _ a ?_)
 go_ret;have k:aj (w.drew.alloc (ζ Z 3)) w.heap.size Z 3:=aj.new w.drew Z 3;have f:φ w.heap.size w (w.drew.alloc (ζ Z 3)):=((cV _ _).drew).alloc (dv _) _;refine⟨_,rfl,⟨rfl,.inr ⟨w.heap.size,cap2,Z,rfl,dv _,k,fi _,b,by omega,by simp⟩⟩,f⟩
theorem agl{P:Program}{t e:TypeId}{i:TypeInfo}(c:P.underlying t=ο (.slice e))(d:P.info? e=ο i)(ty:TypeId)(base:Option Addr)(n a:Nat)(b:n<=a)(w:ω):(Builtin.append_ #[t,t] ty #[.slice base n a,.slice ν 0 0]).run P w=.ok (.slice base n a) w:=by
 cases base <;> simp[Builtin.append_,run_underlying c,sizeOf,typeInfo,d,Builtin.lenOf,Builtin.firstCells,storeCells,b]
theorem DK{a:Option Addr}{c:Nat}{f:List υ}(h:w.ownsRow B e z (ς a n c) n f):n<=c:=by
 rcases h.2 with ⟨j,l⟩|⟨g,d,b,i,-,-,k,-⟩
 ·omega
 ·simp only[Value.slice.injEq]at i;omega
theorem Sc(ps:List (List Nat))(a:j<ps.length):(ps.take (j+1)).flatten=(ps.take j).flatten++ps[j]:=by rw[fY a,List.flatten_append];simp
theorem Tt(ps:List (List Nat))(j:Nat):(ps.take j).flatten.length<=ps.flatten.length:=by
 conv=>rhs;rw[<-lj j ps,List.flatten_append,cJ]
 omega
theorem Zq(h:su B w v ps)(h1:1<=ps.flatten.length)(hl:ps.flatten.length<=1000000):χ prog 185 #[v] w fun e w'=>∃u,e=δ u/\IR w.heap.size w' u ps.flatten/\φ w.heap.size w w':=by
 obtain⟨i0,H,T,W,M⟩:=ft Tryz.info3;obtain⟨a,c,rfl,hm⟩:=h.len;unfold maxLen at hm;go_enter func185,ntmps185;go_wp2_with fail
 go_loopg [3,11] ps.length (fun k z i wr=>∃(j r:Nat),j+k=ps.length/\z=ι ξ (r:Int)/\i=ι ξ j/\wr=w/\Hid (r=(ps.take j).flatten.length))
 case atStart=>exact⟨0,0,by omega,rfl,rfl,rfl,by show _=_;simp⟩
 case round=>
  revert wr;intro F hrel;obtain⟨j,r,K,rfl,rfl,KY,J⟩:=hrel;subst KY
  by_cases hlt:j<ps.length
  ·obtain⟨g,V,u,Q,L,U,S,y⟩:=h.at hlt
   cases Q;obtain⟨ua,uc,rfl,-⟩:=aB y;have D:=Sc ps hlt;have o:=Tt ps (j+1);rw[D,cJ,<-J.out]at o;have d:Hid (r+ps[j].length=(ps.take (j+1)).flatten.length):=by show _=_;rw[D,cJ,<-J.out]
   generalize ps[j].length=m at S o d;have O:IntKind.i64.wrap ((r:Int)+(m:Int))=((r+m:Nat):Int):=by rw[<-qv];exact wrap64 (by omega)
   obtain⟨zm,E⟩:=aC (r+m);rw[<-E]at O d o;have aa:¬(zm:Int)<0:=by omega
   clear D E y;go_wp2_with fail;go_roundg (ps.length - (j+1))
   case measure=>omega
   case rel=>exact⟨j+1,zm,by omega,rfl,by go_num,rfl,d⟩
  ·have:j=ps.length:=by omega
   subst this;have d:Hid (r=ps.flatten.length):=by have:=J.out;rw[ff]at this;exact this
   clear J;have q1:=ajA (n:=r) (by rw[d.out];exact h1) (by rw[d.out];exact hl) F;go_wp2_with fail;refine q1.mono ?_;rintro e w1⟨u1,rfl,t,I⟩;obtain⟨ua,uc,rfl,-⟩:=aB t;clear q1;go_wp2_with fail
   go_loopg [6,27] ps.length (fun k vo i wr=>∃(j:Nat)(b:List Nat),j+k=ps.length/\i=ι ξ j/\IR F.heap.size wr vo b/\φ F.heap.size F wr/\Hid (b=(ps.take j).flatten))
   case atStart=>exact⟨0,[],by omega,rfl,t,I,by show _=_;simp⟩
   case round=>
    clear t I K hlt d;obtain⟨j,b,K,rfl,A,f,C⟩:=hrel;obtain⟨oa,Z,rfl,-⟩:=aB A;have ac:b.length<=1000000:=by rw[C.out];exact cY (Tt ps j) hl
    by_cases hlt:j<ps.length
    ·have D:=h.move (w':=wr) fun g _ U=>f.block g U
     obtain⟨g,V,u,Q,L,U,S,y⟩:=D.at hlt;cases Q;have o:=Tt ps (j+1);rw[Sc ps hlt,cJ,<-C.out]at o;have l:Hid (b++ps[j]=(ps.take (j+1)).flatten):=by show _=_;rw[Sc ps hlt,<-C.out]
     generalize ps[j]=x at S y o l;obtain⟨ua,uc,rfl,-⟩:=aB y;have q:=y;unfold IR at q;rcases q.2 with ⟨e1,e2⟩|⟨g3,ai,ae,N,-,ag,ah,ab,af,ad⟩
     ·have R:=ir e2
      subst R;have G:=agl (P:=prog) underlying47 H 47 oa b.length Z (DK A) wr;rw[fW]at l;simp only[Value.slice.injEq]at e1;obtain⟨rfl,-,rfl⟩:=e1;clear e2 y q
      go_wp2_with (at_builtin;refine Lib.wpList_append_run _ rfl _ _ _ _ rfl _ _ rfl rfl _ _ G ?_)
      go_roundg (ps.length - (j+1))
      case measure=>omega
      case rel=>exact⟨j+1,b,by omega,by go_num,A,f,l.out⟩
     ·cases N
      have s:=q.cells (g:=g3) rfl
      go_wp2_with (at_builtin;go_loud (refine ii _ rfl _ _ 47 rfl F.heap.size 3 i0 _ 1 8 underlying47 H T W M rfl (by decide) (.slice oa b.length Z) _ _ rfl A ⟨g3,0,ν⟩ x.length _ (dP x) rfl (by rw[DC,j9]) s (aia x) (by unfold maxLen;omega) (by omega) f.size ?_;intro v5 w5 p aX _ jd;obtain⟨mG,mH,Y,-⟩:=aB p;subst Y))
      have X:=f.grown aX f.size (fun k K=>(A.lt k K).1);go_roundg (ps.length - (j+1))
      case measure=>omega
      case rel=>exact⟨j+1,b++x,by omega,by go_num,by unfold IR;rw[cJ,FH];exact p,X,l.out⟩
    ·have:j=ps.length:=by omega
     subst this;have l:Hid (b=ps.flatten):=by have:=C.out;rw[ff]at this;exact this
     clear C;go_wp2_with fail;go_ret;exact⟨_,rfl,by rw[<-l.out];exact A,f⟩
theorem su.push{w2 m:ω}{i:υ}{p:List (υ×List Nat)}{x:List Nat}{o:Obj}(h:UR B w v ps p)(D:B<=w.heap.size)(j:φ w.heap.size w w2)(f:IR w.heap.size w2 u x)(z:m.ownsRow B 47 1 i (ps.length+1) (p.map Prod.fst++[u]))(s:(w2.alloc o).grownBy m v.ownBlock)(y:i.ownBlock=v.ownBlock\/i.ownBlock=ο (w2.alloc o).heap.size):su B m i (ps++[x]):=by
 obtain⟨n,k,d,l⟩:=h;have A:=j.size;have r:∀g,i.ownBlock=ο g->v.ownBlock=ο g\/w2.heap.size<=g:=by
  intro g a;rcases y with c|c
  ·exact .inl (c▸a)
  ·rw[c]at a;simp at a;exact .inr (by omega)
 have bl:∀g,g<w2.heap.size->v.ownBlock≠ο g->m.heap[g]?=w2.heap[g]?:=fun g a C=>(s.block g (by simp;omega) (fun e=>C e.symm)).trans (ed _ _ _ a)
 refine⟨p++[(u,x)],by rw[ee,n];rfl,?_,?_,?_⟩
 ·rw[cJ,ee];exact z
 ·intro q b
  rcases dq.1 b with b|b
  ·refine ay (d q b) fun g a=>?_
   have t:=(d q b).lt g a;exact(bl g (by omega) (l q b g a)).trans (j.block g t.2)
  ·rw[dd.1 b]
   refine ay (jb f D) fun g a=>bl g (f.lt g a).2 fun e=>?_
   have:=(f.lt g a).1;have:=(k.lt g e).2;omega
 ·intro q b g a e
  rcases r g e with c|c
  ·rcases dq.1 b with b | b
   ·exact l q b g a c
   ·rw[dd.1 b]at a
    have:=(f.lt g a).1;have:=(k.lt g c).2;omega
  ·rcases dq.1 b with b | b
   ·have:=((d q b).lt g a).2;omega
   ·rw[dd.1 b]at a
    have:=(f.lt g a).2;omega
def Tv(w:ω)(G:Nat->Prop)(fS:ByteArray->Int)(fH:Addr->Int)(g:Nat)(l:List Lx.Alt)(ps:List (List Nat)):Prop:=ps.length=l.length/\∀k(hk:k<l.length)(hk':k<ps.length),l[k].1.length<=10000/\ps[k].length=l[k].1.length/\∀vi,w.cell? ⟨g,k*2,ν⟩=ο vi->∀q(hq:q<l[k].1.length)(hq':q<ps[k].length),G (aS vi)/\Ak fS fH (⟨aS vi,q*4,ν⟩,l[k].1[q])=(ps[k][q]:Int)
theorem ahf{K S:Nat}{P:List Lx.Pd}(h:Mp D G w K S H ta nT tc vN vB vK fS fH P){a:Lx.It}(hi:oV w n m a)(av:w.cell? ⟨n,m*4+3,ν⟩=ο va)(hA:aN YP d F w va a.alts)(Y:∀b,F b->D b)(ps:List (List Nat))(B:a.kind≠2->∃s:Nat,ps=[[s]]/\fS a.name=(s:Int))(A:a.kind=2->Tv w G fS fH (aS va) a.alts ps)(hl:a.alts.length<=10000):
  χ prog 184 #[π (ο ⟨K,0,ν⟩),π (ο ⟨n,m*4,ν⟩)] w fun e w'=>∃u,e=δ u/\su w.heap.size w' u ps/\φ w.heap.size w w':=by
 obtain⟨i0,al,ah,ai,ae⟩:=ft Tryz.acy;obtain⟨sa,sc,rfl,-⟩:=aN.len hA;have a9:=hi.kind;have T:=hi.name;go_enter func184,ntmps184
 by_cases p:a.kind=2
 ·have aa:((a.kind:Int) != 2)=ε:=by simp[p]
  obtain⟨ac,y⟩:=A p;have HK:Hid _:=p;clear p B A;go_wp2_with fail
  go_loopg [5,29] a.alts.length (fun k vo i wr=>∃(j:Nat)(c:List (List Nat)),j+k=a.alts.length/\i=ι ξ j/\su w.heap.size wr vo c/\φ w.heap.size w wr/\Hid (c=ps.take j))
  case atStart=>exact⟨0,[],by omega,rfl,⟨[],rfl,eV _ _ _ _,fun q E=>(by cases E),fun q E=>(by cases E)⟩,cV _ _,rfl⟩
  case round=>
   revert wr;intro z hrel;obtain⟨j,c,p,rfl,ho,l,W⟩:=hrel;have hsz:=l.size;obtain⟨qs,Wq⟩:=ho;have J:=Wq.2.1;obtain⟨oa,oc,rfl,KV⟩:=aB J;have az:c.length<=10000:=by rw[W.out,fR];omega
   by_cases hlt:j<a.alts.length
   ·obtain⟨L,rfl⟩:∃L,d=L+1:=by
     cases d with
     |zero=>have:=hA.2;rw[this]at hlt;simp at hlt
     |succ L=>exact⟨L,rfl⟩
    have ap:=aN.move (fun b hb=>l.block b (h.lt b (Y b hb))) (fun _ h=>h) hA;obtain⟨C,aA,vi,hv,X,V,M⟩:=Seq.at ap (fun _=>rfl) hlt;cases hv;have Q:j<ps.length:=by omega
    obtain⟨N,o,U⟩:=y j hlt Q;have O:w.cell? ⟨C,j*2,ν⟩=ο vi:=by
     have:z.cell? ⟨C,j*2,ν⟩=ο vi:=M 0 (by decide)
     rwa [cQ (w:=w) (l.block C (h.lt C (Y C X)))]at this
    have Z:=U vi O;have ku:Hid (ps.take (j+1)=c++[ps[j]]):=by show _=_;rw[W.out,fY Q]
    generalize a.alts[j]=x at V M N o Z;generalize ps[j]=rr at o Z ku;obtain⟨v,f,pa⟩:=x;have ad:jO YP L F z vi v:=V;obtain⟨ia,ic,rfl,aq⟩:=Seq.len V;have c0:z.cell? ⟨C,j*2,ν⟩=ο (ς ia v.length ic):=M 0 (by decide);have c1:z.cell? ⟨C,j*2+1,ν⟩=ο (τ f):=M 1 (by decide);obtain⟨W1,r⟩:=aC (z.alloc (ζ #[ς ia v.length ic,τ f] 311));have I:φ z.heap.size z W1:=by rw[r];exact(cV _ _).alloc (dv _) _
    have aw:W1.heap.size=z.heap.size+1:=by rw[r];simp
    have eP:=l.trans (I.mono hsz);have q1:=Zp (h.below eP) v _ (jO.move (fun b hb=>I.block b (dg (h.lt b (Y b hb)) hsz)) (fun _ h=>h) ad) Y rr o (fun k p=>Z k p (by rw[o];exact p)) N f;have kl:aj W1 z.heap.size #[ς ia v.length ic,τ f] 311:=by rw[r];exact aj.new z _ 311
    have l0:=kl.a0;have l1:=kl.a1;have aE:Hid _:=o;clear M V U Z y O o;go_wp2_with fail;rw[<-r];clear r c0 c1 l0 l1;refine q1.mono ?_;rintro e w2⟨u,rfl,hu,R⟩;obtain⟨ua,uc,rfl,-⟩:=aB hu;have ax:=R.size;have UW:=I.trans (R.mono (by omega));have ag:=own_below J UW;clear q1
    go_wp2_with (at_builtin;go_loud (refine ii _ rfl _ _ 32 rfl w.heap.size 47 i0 _ 1 24 Tryz.afP al ah ai ae rfl (by decide) (ς oa c.length oc) _ _ rfl (ag.alloc _) ⟨_,0,ν⟩ 1 1 [ς ua rr.length uc] rfl rfl (bQ (aj.new _ _ 47)) (by simp[Value.oneCell']) (by unfold maxLen;omega) (by omega) (by simp;omega) ?_;intro v5 w5 t aX _ jd;obtain⟨mG,mH,am,-⟩:=aB t;subst am))
    have ak:=((l.trans (UW.mono hsz)).alloc (by omega) _).grown aX (by simp;omega) (fun k p=>(J.lt k p).1);have an:=su.push Wq hsz UW (jb hu (by omega)) t aX jd;go_roundg (a.alts.length - (j+1))
    case measure=>omega
    case rel=>exact⟨j+1,_,by omega,by go_num,an,ak,ku.out.symm⟩
   ·have:j=a.alts.length:=by omega
    subst this;have ao:Hid (c=ps):=by have:=W.out;rw[<-ac,ff]at this;exact this
    clear W;go_wp2_with fail;go_ret;refine⟨_,rfl,?_,l⟩;rw[<-ao.out];exact⟨qs,Wq⟩
 ·have aa:((a.kind:Int) != 2)=η:=nj.2 (by omega)
  have ar:¬(a.kind:Int)=2:=by omega
  obtain⟨s,y,hs⟩:=B p;have ab:Hid _:=y;clear p B A y;have af:=SMap.look (w:=w.drew) (h.sm.move rfl) a.name;rw[hs]at af;have d5:w.drew.cell? ⟨K,5,ν⟩=ο (.map (ο S)):=h.cells.2.1;have dn:w.drew.cell? ⟨n,m*4+1,ν⟩=ο (τ a.name):=T;clear hs;have m5:=h.cells.2.1;have n1:=World.new_ne w ⟨K,5,ν⟩ m5;have n2:=World.new_ne w ⟨n,m*4+1,ν⟩ T;go_wp2_with fail
  go_region_held3 (fun w'=>w'.cell? ⟨K,5,ν⟩=ο (.map (ο S))/\w'.cell? ⟨n,m*4+1,ν⟩=ο (τ a.name)) (go_keep) (fail)
  go_wp2_with fail;go_ret;refine⟨_,rfl,?_,(((cV _ _).alloc (dv _) _).alloc (by simp) _).drew⟩;rw[ab.out];have ka:=((aj.new w #[ι ξ (s:Int)] 3).alloc (ζ #[ς (ο ⟨w.heap.size,0,ν⟩) 1 1] 47)).drew;have kb:aj ((w.alloc (ζ #[ι ξ (s:Int)] 3)).alloc (ζ #[ς (ο ⟨w.heap.size,0,ν⟩) 1 1] 47)).drew (w.heap.size+1) #[ς (ο ⟨w.heap.size,0,ν⟩) 1 1] 47:=by simpa using (aj.new (w.alloc (ζ #[ι ξ (s:Int)] 3)) #[ς (ο ⟨w.heap.size,0,ν⟩) 1 1] 47).drew
  refine⟨[(ς (ο ⟨w.heap.size,0,ν⟩) 1 1,[s])],rfl,?_,?_,?_⟩
  ·exact⟨rfl,.inr ⟨w.heap.size+1,1,_,rfl,by omega,kb,dv _,by decide,rfl,rfl⟩⟩
  ·intro q E
   rw[dd.1 E];exact⟨rfl,.inr ⟨w.heap.size,1,_,rfl,by omega,ka,dv _,by decide,rfl,rfl⟩⟩
  ·intro q E g X
   rw[dd.1 E]at X;simp[Value.ownBlock]at X|-;omega
theorem Mp.more{S:Nat}{n:υ}{p:ByteArray->Int}{m:Addr->Int}{P:List Lx.Pd}(h:Mp D G w s S H ta nT tc n vB vK p m P)(c:φ w.heap.size w w'):Mp (More D w w') G w' s S H ta nT tc n vB vK p m P:=by
 have lm:=h.lm;obtain⟨⟨y,h1,⟨v,p1,p2,j,t⟩,h3⟩,x,z,o,r,u,i,k⟩:=h;refine⟨⟨y,(c.block _ h1.lt).trans h1,⟨v,p1,own_below p2 c,fun q l=>⟨own_below (j q l).1 c,fun g f=>⟨.inl ((j q l).2 g f).1,((j q l).2 g f).2⟩⟩,t⟩,fun g f=>⟨?_,(h3 g f).2⟩⟩,x.move (c.block _ (i _ o)),z.move (c.block _ (i _ r)),.inl o,.inl r,?_,?_,fun b d=>⟨.inl (k b d).1,(k b d).2.move (c.block b (i b (k b d).1))⟩⟩
 ·rintro(a | a)
  ·exact(h3 g f).1 a
  ·have:=(p2.lt g f).2;omega
 ·rintro(a | a)
  ·exact u a
  ·omega
 ·rintro g(a | a)
  ·exact dg (i g a) c.size
  ·exact a.2
theorem aaI(c:IR B w u r)(f:B<=w.heap.size):su B ((w.alloc (ζ #[ι ξ (s:Int)] 3)).alloc (ζ #[ς (ο ⟨w.heap.size,0,ν⟩) 1 1,u] 47)) (ς (ο ⟨w.heap.size+1,0,ν⟩) 2 2) [[s],r]:=by
 have d:=(aj.new w #[ι ξ (s:Int)] 3).alloc (ζ #[ς (ο ⟨w.heap.size,0,ν⟩) 1 1,u] 47);have i:aj ((w.alloc (ζ #[ι ξ (s:Int)] 3)).alloc (ζ #[ς (ο ⟨w.heap.size,0,ν⟩) 1 1,u] 47)) (w.heap.size+1) #[ς (ο ⟨w.heap.size,0,ν⟩) 1 1,u] 47:=by simpa using aj.new (w.alloc (ζ #[ι ξ (s:Int)] 3)) #[ς (ο ⟨w.heap.size,0,ν⟩) 1 1,u] 47
 refine⟨[(ς (ο ⟨w.heap.size,0,ν⟩) 1 1,[s]),(u,r)],rfl,?_,?_,?_⟩
 ·exact⟨rfl,.inr ⟨w.heap.size+1,2,_,rfl,by omega,i,dv _,by decide,rfl,rfl⟩⟩
 ·intro q a
  rcases fh.1 a with rfl|a
  ·exact⟨rfl,.inr ⟨w.heap.size,1,_,rfl,f,d,dv _,by decide,rfl,rfl⟩⟩
  ·rw[dd.1 a]
   exact(yd c _).alloc _
 ·intro q a g b e
  have j:w.heap.size+1=g:=by simpa [Value.ownBlock]using e
  rcases fh.1 a with rfl|a
  ·have k:w.heap.size=g:=by simpa [Value.ownBlock]using b
   omega
  ·rw[dd.1 a]at b
   have:=(c.lt g b).2;omega
def vG(D G:Nat->Prop)(w:ω)(mb S H:Nat)(ta:Option Addr)(nT tc:Nat)(vN vB vK:υ)(fS:ByteArray->Int)(fH:Addr->Int)(P:List Lx.Pd)(w':ω):Prop:=∃D',(∀g,D g->D' g)/\Mp D' G w' mb S H ta nT tc vN vB vK fS fH P/\Kp D w w'
theorem vG.trans{D D' G:Nat->Prop}{w w' a:ω}{c S H:Nat}{ta:Option Addr}{nT tc:Nat}{f vB vK:υ}{b:ByteArray->Int}{d:Addr->Int}{P:List Lx.Pd}(i:∀g,D g->D' g)(j:Kp D w w')(h:vG D' G w' c S H ta nT tc f vB vK b d P a):vG D G w c S H ta nT tc f vB vK b d P a:=by
 obtain⟨l,h1,h2,h3⟩:=h;exact⟨l,fun g k=>h1 g (i g k),h2,j.trans h3 i⟩
theorem afi{T S:Nat}{N:Addr->Int}{P:List Lx.Pd}(h:Mp D G w T S H ta nT tc vN vB vK fS N P){l:Lx.It}(hi:oV w n m l)(ag:G n)(am:w.cell? ⟨n,m*4+3,ν⟩=ο va)(hA:aN YP d F w va l.alts)(hF:∀b,F b->D b)(ps:List (List Nat))(ao:l.kind≠2->∃s:Nat,ps=[[s]]/\fS l.name=(s:Int))(an:l.kind=2->Tv w G fS N (aS va) l.alts ps)(M:l.alts.length<=10000)(s:Nat)(hs:N ⟨n,m*4,ν⟩=(s:Int))(aA:ps.length<=10000)(Q:∀r∈ps,r.length<=10000)(hP:P.length<=500000000000):
  χ prog 146 #[π (ο ⟨T,0,ν⟩),π (ο ⟨n,m*4,ν⟩)] w fun e w'=>e=δ (θ #[])/\vG D G w T S H ta nT tc vN vB vK fS N (P++sZ nT s l.mark ps) w':=by
 have I:=(h.gc n ag).1;have al:=tJ.look (w:=w.drew) (f:=N) (h.pm.move rfl) (fun b hb=>(h.gc b hb).2.move (w':=w.drew) rfl) (a:=⟨n,m*4,ν⟩) ag;rw[hs]at al;have hd:=h.below ((cV _ _).drew);have ar:aN YP d F w.drew va l.alts:=by
  refine aN.move (w:=w) ?_ (fun _ h=>h) hA;intro _ _;rfl
 have q1:=ahf hd (hi.move rfl) am ar hF ps ao (fun e=>an e) M;have d6:=hd.cells.2.2;go_enter func146,ntmps146;go_wp2_with fail
 go_region_held3 (fun w'=>w'.cell? ⟨T,6,ν⟩=ο (.map (ο H))) (first | go_keep | assumption) ((go_at_call 184;refine q1.mono ?_;rintro e w1⟨u1,rfl,L,aa⟩;have h1:=hd.below aa;have S1:w1.cell? ⟨T,6,ν⟩=ο (.map (ο H)):=h1.cells.2.2;have av:=tJ.look (w:=w1) (f:=N) h1.pm (fun b hb=>(h1.gc b hb).2) (a:=⟨n,m*4,ν⟩) ag;rw[hs]at av))
 all_goals
  obtain⟨ua,uc,rfl,-⟩:=L.len;have eP:=((cV w.heap.size w).drew).trans aa;have V:=h.more eP;have zo:=Kp.below eP h.lt;have mk1:=(cQ (w:=w) (eP.block n (h.lt n I))).trans hi.mark;have Qb:Kp (More D w w1) w1 w1:=Kp.refl _ _;clear al q1 d6 h1 ar hd ao an hA am M
  by_cases CQ:l.mark=42
  ·skip
   have ah:((l.mark:Int) == 42)=η:=by simp[CQ]
   have ad:((l.mark:Int) != 42)=ε:=by simp[CQ]
   have ae:((l.mark:Int) == 43)=ε:=ej.2 (by omega);have sD:((l.mark:Int) != 43)=η:=nj.2 (by omega);have aq:¬(l.mark:Int)=43:=(by omega);have ac:((l.mark:Int) == 63)=ε:=ej.2 (by omega);have af:((l.mark:Int) != 63)=η:=nj.2 (by omega);have ak:¬(l.mark:Int)=63:=(by omega);have EC:Hid _:=CQ;clear CQ;go_wp2_with fail;refine(Ac V s (ς ν 0 0) [] (eV _ _ _ _) (by simp) (by omega)).mono ?_;rintro e wA⟨rfl,DA,KZ,Ws,CR⟩;have K6:=Qb.trans CR fun g o=>o
   have UY:∀g,More D w w1 g->DA g:=fun g o=>KZ g (o)
   have a9:=(cQ (w:=w1) (K6.block n (.inl I))).trans mk1;clear CR KZ;go_wp2_with fail
   go_loopg [64] ps.length (fun k i wr=>∃(j:Nat)(E:Nat->Prop),j+k=ps.length/\i=ι ξ j/\(∀g,More D w w1 g->E g)/\Mp E G wr T S H ta nT tc vN vB vK fS N ((P++[dh nT s []])++(ps.take j).map (fun r=>dh nT s (s::r)))/\Kp (More D w w1) w1 wr)
   case atStart=>exact⟨0,_,by omega,rfl,UY,by simpa using Ws,K6⟩
   case round=>
    obtain⟨j,E,z,rfl,t,q,c⟩:=hrel;have O:=(cQ (w:=w1) (c.block n (.inl I))).trans mk1
    by_cases hlt:j<ps.length
    ·have y:=L.move (w':=wr) fun g o M=>c.block g (.inr ⟨o,M⟩)
     obtain⟨gP,OZ,u,Y,U,Z,hc,A⟩:=y.at hlt;cases Y;have C:=Q ps[j] (eJ hlt);have p:(ps.take (j+1)).map (fun r=>dh nT s (s::r))=(ps.take j).map (fun r=>dh nT s (s::r))++[dh nT s (s::ps[j])]:=by rw[fY hlt,ee];rfl
     have K:Hid _:=p;have uf:((P++[dh nT s []])++(ps.take j).map (fun r=>dh nT s (s::r))).length<=600000000000:=by simp;omega
     generalize ps[j]=x at hc A C K;obtain⟨xa,xc,rfl,-⟩:=aB A;clear p O;have ab:w.heap.size<=wr.heap.size:=cY aa.size c.size;have R:=aaI (s:=s) A (show w.drew.heap.size<=wr.heap.size from ab);have B:([[s],x]:List (List Nat)).flatten=s::x:=by simp
     have J:=Zq R (by rw[B];simp) (by rw[B,eh];omega);rw[B]at J;have dU:φ wr.heap.size wr ((wr.alloc (ζ #[ι ξ (s:Int)] 3)).alloc (ζ #[ς (ο ⟨wr.heap.size,0,ν⟩) 1 1,ς xa x.length xc] 47)):=(((cV _ _).alloc (dv _) _).alloc (by simp) _);go_wp2_with fail;refine J.mono ?_;rintro e w4⟨u4,rfl,EB,ai⟩;obtain⟨ya,yc,rfl,-⟩:=aB EB;have pG:=dU.trans (ai.mono dU.size);have q3:=Ac (q.below pG) s _ (s::x) (jb EB (fi _)) (by rw[eh];omega) (by omega);clear J R dU B;go_wp2_with fail;refine q3.mono ?_;rintro e w5⟨rfl,E5,X,W,v⟩;clear q3;go_wp2_with fail;go_roundg (ps.length - (j+1))
     case measure=>omega
     case rel=>exact⟨j+1,E5,by omega,by go_num,fun g o=>X g (t g o),by rw[K.out,<-dy];exact W,(c.trans (Kp.below pG (D:=fun g=>g<wr.heap.size) fun g o=>o) fun g o=>q.lt g (t g o)).trans v t⟩
    ·have:j=ps.length:=by omega
     subst this;rw[ff]at q;clear z hlt;go_wp2_with fail
     go_end0
     refine⟨rfl,vG.trans (fun g o=>.inl o) zo ⟨_,t,?_,c⟩⟩;have e9:P++sZ nT s l.mark ps=(P++[dh nT s []])++ps.map (fun r=>dh nT s (s::r)):=by rw[EC.out];simp[sZ]
     rw[e9];exact q
  ·by_cases h63:l.mark=63
   ·skip
    have ah:((l.mark:Int) == 42)=ε:=ej.2 (by omega);have ad:((l.mark:Int) != 42)=η:=nj.2 (by omega);have ap:¬(l.mark:Int)=42:=(by omega);have ae:((l.mark:Int) == 43)=ε:=ej.2 (by omega);have sD:((l.mark:Int) != 43)=η:=nj.2 (by omega);have aq:¬(l.mark:Int)=43:=(by omega);have ac:((l.mark:Int) == 63)=η:=by simp[h63]
    have af:((l.mark:Int) != 63)=ε:=by simp[h63]
    have EC:Hid _:=h63;clear h63 CQ;go_wp2_with fail;refine(Ac V s (ς ν 0 0) [] (eV _ _ _ _) (by simp) (by omega)).mono ?_;rintro e wA⟨rfl,DA,KZ,Ws,CR⟩;have K6:=Qb.trans CR fun g o=>o
    have UY:∀g,More D w w1 g->DA g:=fun g o=>KZ g (o)
    have a9:=(cQ (w:=w1) (K6.block n (.inl I))).trans mk1;clear CR KZ;go_wp2_with fail
    go_loopg [41] ps.length (fun k i wr=>∃(j:Nat)(E:Nat->Prop),j+k=ps.length/\i=ι ξ j/\(∀g,More D w w1 g->E g)/\Mp E G wr T S H ta nT tc vN vB vK fS N ((P++[dh nT s []])++(ps.take j).map (dh nT s))/\Kp (More D w w1) w1 wr)
    case atStart=>exact⟨0,_,by omega,rfl,UY,by simpa using Ws,K6⟩
    case round=>
     obtain⟨j,E,z,rfl,t,q,c⟩:=hrel;have O:=(cQ (w:=w1) (c.block n (.inl I))).trans mk1
     by_cases hlt:j<ps.length
     ·have y:=L.move (w':=wr) fun g o M=>c.block g (.inr ⟨o,M⟩)
      obtain⟨gP,OZ,u,Y,U,Z,hc,A⟩:=y.at hlt;cases Y;have C:=Q ps[j] (eJ hlt);have p:(ps.take (j+1)).map (dh nT s)=(ps.take j).map (dh nT s)++[dh nT s ps[j]]:=by rw[fY hlt,ee];rfl
      have K:Hid _:=p;have uf:((P++[dh nT s []])++(ps.take j).map (dh nT s)).length<=600000000000:=by simp;omega
      generalize ps[j]=x at hc A C K;obtain⟨xa,xc,rfl,-⟩:=aB A;clear p O;have J:=Ac q s _ x (jb A (fi _)) (by omega) (by omega);go_wp2_with fail;refine J.mono ?_;rintro e w5⟨rfl,E5,X,W,v⟩;clear J;go_wp2_with fail;go_roundg (ps.length - (j+1))
      case measure=>omega
      case rel=>exact⟨j+1,E5,by omega,by go_num,fun g o=>X g (t g o),by rw[K.out,<-dy];exact W,c.trans v t⟩
     ·have:j=ps.length:=by omega
      subst this;rw[ff]at q;clear z hlt;go_wp2_with fail
      go_end0
      refine⟨rfl,vG.trans (fun g o=>.inl o) zo ⟨_,t,?_,c⟩⟩;have e9:P++sZ nT s l.mark ps=(P++[dh nT s []])++ps.map (dh nT s):=by rw[EC.out];simp[sZ]
      rw[e9];exact q
   ·by_cases h43:l.mark=43
    ·skip
     have ah:((l.mark:Int) == 42)=ε:=ej.2 (by omega);have ad:((l.mark:Int) != 42)=η:=nj.2 (by omega);have ap:¬(l.mark:Int)=42:=(by omega);have ae:((l.mark:Int) == 43)=η:=by simp[h43]
     have sD:((l.mark:Int) != 43)=ε:=by simp[h43]
     have ac:((l.mark:Int) == 63)=ε:=ej.2 (by omega);have af:((l.mark:Int) != 63)=η:=nj.2 (by omega);have ak:¬(l.mark:Int)=63:=(by omega);have EC:Hid _:=h43;clear h63 CQ h43;go_wp2_with fail
     go_loopg [41] ps.length (fun k i wr=>∃(j:Nat)(E:Nat->Prop),j+k=ps.length/\i=ι ξ j/\(∀g,More D w w1 g->E g)/\Mp E G wr T S H ta nT tc vN vB vK fS N (P++(ps.take j).map (dh nT s))/\Kp (More D w w1) w1 wr)
     case atStart=>exact⟨0,_,by omega,rfl,fun g o=>o,by simpa using V,Qb⟩
     case round=>
      obtain⟨j,E,z,rfl,t,q,c⟩:=hrel;have O:=(cQ (w:=w1) (c.block n (.inl I))).trans mk1
      by_cases hlt:j<ps.length
      ·have y:=L.move (w':=wr) fun g o M=>c.block g (.inr ⟨o,M⟩)
       obtain⟨gP,OZ,u,Y,U,Z,hc,A⟩:=y.at hlt;cases Y;have C:=Q ps[j] (eJ hlt);have p:(ps.take (j+1)).map (dh nT s)=(ps.take j).map (dh nT s)++[dh nT s ps[j]]:=by rw[fY hlt,ee];rfl
       have K:Hid _:=p;have uf:(P++(ps.take j).map (dh nT s)).length<=600000000000:=by simp;omega
       generalize ps[j]=x at hc A C K;obtain⟨xa,xc,rfl,-⟩:=aB A;clear p O;have J:=Ac q s _ x (jb A (fi _)) (by omega) (by omega);go_wp2_with fail;refine J.mono ?_;rintro e w5⟨rfl,E5,X,W,v⟩;clear J;go_wp2_with fail;go_roundg (ps.length - (j+1))
       case measure=>omega
       case rel=>exact⟨j+1,E5,by omega,by go_num,fun g o=>X g (t g o),by rw[K.out,<-dy];exact W,c.trans v t⟩
      ·have:j=ps.length:=by omega
       subst this;rw[ff]at q;clear z hlt;have aE:=O;have ax:=q;have aw:=c;have az:=t;clear O q c t;go_wp2_with fail
       go_loopg [64] ps.length (fun k i wr=>∃(j:Nat)(E:Nat->Prop),j+k=ps.length/\i=ι ξ j/\(∀g,More D w w1 g->E g)/\Mp E G wr T S H ta nT tc vN vB vK fS N ((P++ps.map (dh nT s))++(ps.take j).map (fun r=>dh nT s (s::r)))/\Kp (More D w w1) w1 wr)
       case atStart=>exact⟨0,_,by omega,rfl,az,by simpa using ax,aw⟩
       case round=>
        obtain⟨j,E,z,rfl,t,q,c⟩:=hrel;have O:=(cQ (w:=w1) (c.block n (.inl I))).trans mk1
        by_cases hlt:j<ps.length
        ·have y:=L.move (w':=wr) fun g o M=>c.block g (.inr ⟨o,M⟩)
         obtain⟨gP,OZ,u,Y,U,Z,hc,A⟩:=y.at hlt;cases Y;have C:=Q ps[j] (eJ hlt);have p:(ps.take (j+1)).map (fun r=>dh nT s (s::r))=(ps.take j).map (fun r=>dh nT s (s::r))++[dh nT s (s::ps[j])]:=by rw[fY hlt,ee];rfl
         have K:Hid _:=p;have uf:((P++ps.map (dh nT s))++(ps.take j).map (fun r=>dh nT s (s::r))).length<=600000000000:=by simp;omega
         generalize ps[j]=x at hc A C K;obtain⟨xa,xc,rfl,-⟩:=aB A;clear p O;have ab:w.heap.size<=wr.heap.size:=cY aa.size c.size;have R:=aaI (s:=s) A (show w.drew.heap.size<=wr.heap.size from ab);have B:([[s],x]:List (List Nat)).flatten=s::x:=by simp
         have J:=Zq R (by rw[B];simp) (by rw[B,eh];omega);rw[B]at J;have dU:φ wr.heap.size wr ((wr.alloc (ζ #[ι ξ (s:Int)] 3)).alloc (ζ #[ς (ο ⟨wr.heap.size,0,ν⟩) 1 1,ς xa x.length xc] 47)):=(((cV _ _).alloc (dv _) _).alloc (by simp) _);go_wp2_with fail;refine J.mono ?_;rintro e w4⟨u4,rfl,EB,ai⟩;obtain⟨ya,yc,rfl,-⟩:=aB EB;have pG:=dU.trans (ai.mono dU.size);have q3:=Ac (q.below pG) s _ (s::x) (jb EB (fi _)) (by rw[eh];omega) (by omega);clear J R dU B;go_wp2_with fail;refine q3.mono ?_;rintro e w5⟨rfl,E5,X,W,v⟩;clear q3;go_wp2_with fail;go_roundg (ps.length - (j+1))
         case measure=>omega
         case rel=>exact⟨j+1,E5,by omega,by go_num,fun g o=>X g (t g o),by rw[K.out,<-dy];exact W,(c.trans (Kp.below pG (D:=fun g=>g<wr.heap.size) fun g o=>o) fun g o=>q.lt g (t g o)).trans v t⟩
        ·have:j=ps.length:=by omega
         subst this;rw[ff]at q;clear z hlt;go_wp2_with fail
         go_end0
         refine⟨rfl,vG.trans (fun g o=>.inl o) zo ⟨_,t,?_,c⟩⟩;have e9:P++sZ nT s l.mark ps=(P++ps.map (dh nT s))++ps.map (fun r=>dh nT s (s::r)):=by rw[EC.out];simp[sZ]
         rw[e9];exact q
    ·skip
     have ah:((l.mark:Int) == 42)=ε:=ej.2 (by omega);have ad:((l.mark:Int) != 42)=η:=nj.2 (by omega);have ap:¬(l.mark:Int)=42:=(by omega);have ae:((l.mark:Int) == 43)=ε:=ej.2 (by omega);have sD:((l.mark:Int) != 43)=η:=nj.2 (by omega);have aq:¬(l.mark:Int)=43:=(by omega);have ac:((l.mark:Int) == 63)=ε:=ej.2 (by omega);have af:((l.mark:Int) != 63)=η:=nj.2 (by omega);have ak:¬(l.mark:Int)=63:=(by omega);have EC:Hid (sZ nT s l.mark ps=ps.map (dh nT s)):=by show _=_;simp[sZ,CQ,h63,h43]
     clear h63 CQ h43;go_wp2_with fail
     go_loopg [41] ps.length (fun k i wr=>∃(j:Nat)(E:Nat->Prop),j+k=ps.length/\i=ι ξ j/\(∀g,More D w w1 g->E g)/\Mp E G wr T S H ta nT tc vN vB vK fS N (P++(ps.take j).map (dh nT s))/\Kp (More D w w1) w1 wr)
     case atStart=>exact⟨0,_,by omega,rfl,fun g o=>o,by simpa using V,Qb⟩
     case round=>
      obtain⟨j,E,z,rfl,t,q,c⟩:=hrel;have O:=(cQ (w:=w1) (c.block n (.inl I))).trans mk1
      by_cases hlt:j<ps.length
      ·have y:=L.move (w':=wr) fun g o M=>c.block g (.inr ⟨o,M⟩)
       obtain⟨gP,OZ,u,Y,U,Z,hc,A⟩:=y.at hlt;cases Y;have C:=Q ps[j] (eJ hlt);have p:(ps.take (j+1)).map (dh nT s)=(ps.take j).map (dh nT s)++[dh nT s ps[j]]:=by rw[fY hlt,ee];rfl
       have K:Hid _:=p;have uf:(P++(ps.take j).map (dh nT s)).length<=600000000000:=by simp;omega
       generalize ps[j]=x at hc A C K;obtain⟨xa,xc,rfl,-⟩:=aB A;clear p O;have J:=Ac q s _ x (jb A (fi _)) (by omega) (by omega);go_wp2_with fail;refine J.mono ?_;rintro e w5⟨rfl,E5,X,W,v⟩;clear J;go_wp2_with fail;go_roundg (ps.length - (j+1))
       case measure=>omega
       case rel=>exact⟨j+1,E5,by omega,by go_num,fun g o=>X g (t g o),by rw[K.out,<-dy];exact W,c.trans v t⟩
      ·have:j=ps.length:=by omega
       subst this;rw[ff]at q;clear z hlt;go_wp2_with fail
       go_end0
       refine⟨rfl,vG.trans (fun g o=>.inl o) zo ⟨_,t,?_,c⟩⟩;rw[EC.out];exact q
theorem Jw{o:List υ}(h:w.ownsRow B e z v n o){g:Nat}(b:v.ownBlock=ο g)(i:Nat)(u:υ):(w.setCell ⟨g,i,ν⟩ u).ownsRow B e z v n (o.set i u):=by
 refine⟨by rw[jp];exact h.1,?_⟩;rcases h.2 with r|⟨k,f,a,m,q,p,l,d,j,c⟩
 ·rw[r.1]at b;simp[Value.ownBlock]at b
 ·have:k=g:=by rw[m]at b;simpa [Value.ownBlock]using b
  subst this;have s:aj w k a e:=p;refine .inr ⟨k,f,a.setIfInBounds i u,m,q,s.set i u,l,d,by simpa using j,?_⟩;rw[AH,List.take_set,c]
theorem Mp.ala{S:Nat}{F:υ}{E:Addr->Int}{P:List Lx.Pd}{q:Lx.Pd}(h:Mp D G w n S H ta nT tc F vB vK J E (P++[q])):∃g c,w.cell? ⟨n,2,ν⟩=ο (ς (ο ⟨g,0,ν⟩) (P.length+1) c)/\¬D g/\g≠n/\(∃o,w.cell? ⟨g,P.length*3+2,ν⟩=ο (ι ξ o))/\(∀i,w.frozen? ⟨g,i,ν⟩=ε)/\∀v:Int,Mp D G (w.setCell ⟨g,P.length*3+2,ν⟩ (ι ξ v)) n S H ta nT tc F vB vK J E (P++[⟨q.left,q.right,v⟩])/\Kp D w (w.setCell ⟨g,P.length*3+2,ν⟩ (ι ξ v)):=by
 obtain⟨⟨vP,h1,⟨I,p1,p2,C,u⟩,h3⟩,Y,V,L,N,O,T,z⟩:=h;obtain⟨d,x,rfl⟩:∃d x,I=d++[x]:=by
  rcases Cs I with rfl|⟨d,x,rfl⟩
  ·simp at p1
  ·exact⟨d,x,by simp⟩
 rw[ee,n9,qr]at p1;obtain⟨hp,R⟩:=List.append_inj' p1 rfl;have s:x.2=q:=by simpa using R
 have t:d.length=P.length:=by rw[<-hp,dk]
 obtain⟨g,c,rfl,-,X⟩:=p2.form (by simp);have j:=h3 g rfl;have m:(d++[x]).flatMap tY=d.flatMap tY++[ι ξ (x.2.left:Int),x.1,ι ξ x.2.prec]:=by rw[ik];simp[tY]
 have r:∀v:Int,((d++[x]).flatMap tY).set (P.length*3+2) (ι ξ v)=(d++[(x.1,(⟨q.left,q.right,v⟩:Lx.Pd))]).flatMap tY:=fun v=>by
  rw[m,ik,nn _ _ (by rw[Jv,t];omega),Jv,t,show P.length*3+2-P.length*3=2 by omega];simp[tY,s]
 have k:w.cell? ⟨g,P.length*3+2,ν⟩=ο (ι ξ x.2.prec):=by
  rw[p2.cellAt (P.length*3+2) (by simp;omega),m,eQ (by rw[Jv,t];omega),Jv,t,show P.length*3+2-P.length*3=2 by omega];rfl
 have B:∀i,w.frozen? ⟨g,i,ν⟩=ε:=by
  rcases p2.2 with Q|⟨K,U,A,M,hB,W,-⟩
  ·exact absurd Q.2 (by simp)
  ·have:K=g:=by simp only[Value.slice.injEq,Option.some.injEq,Addr.mk.injEq]at M;exact M.1.1.symm
   subst this;have f:aj w K A 143:=W;exact f.frozen
 have bk:∀v:Int,∀b,b≠g->(w.setCell ⟨g,P.length*3+2,ν⟩ (ι ξ v)).heap[b]?=w.heap[b]?:=fun v b f=>fy _ _ _ _ f
 have l:∀v:Int,∀b,D b->(w.setCell ⟨g,P.length*3+2,ν⟩ (ι ξ v)).heap[b]?=w.heap[b]?:=fun v b f=>bk v b fun e=>j.1 (e▸f)
 refine⟨g,c,by have:=h1.cell 2;simpa using this,j.1,Nat.ne_of_gt j.2,⟨_,k⟩,B,fun v=>⟨⟨⟨_,(bk v n (fun e=>Nat.ne_of_gt j.2 e.symm)).trans h1,⟨d++[(x.1,(⟨q.left,q.right,v⟩:Lx.Pd))],?_,?_,?_,?_⟩,h3⟩,Y.move (l v S L),V.move (l v H N),L,N,O,fun b f=>by simpa [World.setCell]using T b f,fun b f=>⟨(z b f).1,(z b f).2.move (l v b (z b f).1)⟩⟩,⟨rfl,rfl,rfl,by simp[World.setCell],l v⟩⟩⟩
 ·rw[ee,hp];rfl
 ·have:=Jw p2 (g:=g) rfl (P.length*3+2) (ι ξ v)
  rw[r]at this;simpa using this
 ·intro y p
  rcases dq.1 p with p|p
  ·have:=C y (List.mem_append_left _ p)
   exact⟨ay this.1 fun b f=>l v b (this.2 b f).1,this.2⟩
  ·rw[dd.1 p]
   have:=C x (by simp);rw[s]at this;exact⟨ay this.1 fun b f=>l v b (this.2 b f).1,this.2⟩
 ·rw[rh]at u|-
  exact⟨u.1,p7 _ _,fun a Z b f=>by rw[dd.1 f];exact u.2.2 a Z x (by simp)⟩
namespace Lx
theorem YJ(T N:List ByteArray)(b:Nat)(H:List It):∀(l:List It)(k:Nat)(x:It),rF T N b H k (l++[x])=rF T N b H k l++sZ T.length (b+1+(k+l.length)) x.mark (partsOf T N b H x)
 | [],k,x=>by simp[rF]
 |y::l,k,x=>by
  rw[ip,rF,YJ T N b H l (k+1) x,rF,dy,eh,show k+1+l.length=k+(l.length+1) by omega]
end Lx
structure CU(w:ω)(F G:Nat->Prop)(fS:ByteArray->Int)(fH:Addr->Int)(T N:List ByteArray)(b:Nat)(Hs:List Lx.It)(p:AI):Prop where
 g:G p.1.block
 nm:p.2.kind≠2->fS p.2.name=(J9 T N p.2:Int)
 len:p.2.alts.length<=10000
 lens:∀a∈p.2.alts,a.1.length<=10000
 sub:∃n m d va,p.1=⟨n,m*4,ν⟩/\w.cell? ⟨n,m*4+3,ν⟩=ο va/\aN YP d F w va p.2.alts/\∀q∈aL d w va p.2.alts,G q.1.block/\Ak fS fH q=(JO T N b Hs q.2:Int)
theorem CU.parts{t:ByteArray->Int}{x:Addr->Int}{T:List ByteArray}{b:Nat}{i:List Lx.It}{f:Lx.It}(h:CU w F G t x T N b i (⟨n,m*4,ν⟩,f))(r:∀b,F b->w'.heap[b]?=w.heap[b]?)(J:F n):∃d va,w'.cell? ⟨n,m*4+3,ν⟩=ο va/\aN YP d F w' va f.alts/\(f.kind≠2->∃s:Nat,Lx.partsOf T N b i f=[[s]]/\t f.name=(s:Int))/\(f.kind=2->Tv w' G t x (aS va) f.alts (Lx.partsOf T N b i f)):=by
 obtain⟨z,I,d,va,hp,y,l,D⟩:=h.sub;have L:n=z:=by simpa using fd Addr.block hp
 have E:m*4=I*4:=by simpa using fd Addr.off hp
 subst L;rw[<-E]at y;refine⟨d,va,(cQ (w:=w) (r n J)).trans y,aN.move r (fun _ h=>h) l,fun h2=>⟨_,dt h2,h.nm h2⟩,fun h2=>?_⟩;have K:Lx.partsOf T N b i f=f.alts.map fun a=>qG T N b i a.1:=du h2
 rw[K];refine⟨by simp,fun k c A=>?_⟩;obtain⟨o,rfl⟩:∃o,d=o+1:=by
  cases d with
  |zero=>
   have u:f.alts=[]:=l.2;rw[u]at c;simp at c
  |succ o=>exact⟨o,rfl⟩
 obtain⟨M,C,H,j⟩:=abr l c;have v:=(FE l c).1;refine⟨h.lens _ (eJ c),by simp[qG],fun B g q p O=>?_⟩;have:B=M:=by
  have h3:=(cQ (w:=w) (r _ v)).trans C;rw[h3]at g;exact(fL g).symm
 subst this;have:=D _ (j q p);refine⟨this.1,this.2.trans ?_⟩;simp[qG]
theorem aii(a:Array υ)(w:ω):(callFunc 146 a).run prog w=.ok (.enter 146 a) w:=by kernel_rfl
theorem ahg{T:List ByteArray}{b:Nat}{d:List Lx.It}{x:Lx.It}(h:∀a∈x.alts,a.1.length<=10000):∀r∈Lx.partsOf T N b d x,r.length<=10000:=by
 unfold Lx.partsOf
 split
 ·intro r c
  obtain⟨a,f,rfl⟩:=fk.1 c;unfold qG;rw[dk];exact h a f
 ·intro r c
  rw[dd.1 c];simp
theorem afu{r S:Nat}{c:υ}{o:ByteArray->Int}{P:List Lx.Pd}{T:List ByteArray}{b:Nat}{l:List Lx.Alt}(h:Mp D G w r S H ta T.length tc A vB vK o f P)(I:∀b,F b->D b)(W:aN YP 9 F w c l)(V:∀p∈aL 9 w c l,CU w F G o f T N b (bS 9 l) p)(Z:∀k p,(hlA w c l)[k]?=ο p->f p.1=((b+1+k:Nat):Int))(Y:(hlA w c l).length<=100000)(hP:P.length<=400000000000):
  χ prog 134 #[c,.func (.func 141) #[] #[],.func (.func 146) #[π (ο ⟨r,0,ν⟩)] #[]] w fun e w'=>e=δ (θ #[])/\vG D G w r S H ta T.length tc A vB vK o f (P++rF T N b (bS 9 l) 0 (bS 9 l)) w':=by
 have t:∀p∈hlA w c l,p∈aL 9 w c l:=fun p hp=>(j'.1 hp).1
 have q:=SE 9 141 146 #[π (ο ⟨r,0,ν⟩)] #[] Lx.hlp F w (fun L w'=>vG D G w r S H ta T.length tc A vB vK o f (P++rF T N b (bS 9 l) 0 (L.map Prod.snd)) w') (CU w F G o f T N b (bS 9 l)) (hlA w c l) Z0 aii
  (fun w' n m Q _ O=>Ru O)
  (fun w' L n m Q K hn O ab j v=>by
   obtain⟨E,J,U,y⟩:=K;obtain⟨R,v⟩:=v;have u:∀p∈L,p∈hlA w c l:=fun p hp=>by rw[v];simp[hp]
   have s:L.length<=100000:=by have:=Y;rw[v]at this;simp at this;omega
   have hs:=Z L.length (⟨n,m*4,ν⟩,Q) (by rw[v];simp);obtain⟨d,CO,B,M,z,C⟩:=j.parts (w':=w') (fun b i=>y.block b (I b i)) hn;have X:(rF T N b (bS 9 l) 0 (L.map Prod.snd)).length<=100000*20001:=by
    refine cY (RF (n:=10000) (by omega) (L.map Prod.snd) 0 fun x hx=>?_) ?_
    ·obtain⟨p,hp,rfl⟩:=fk.1 hx
     exact(V p (t p (u p hp))).len
    ·rw[dk];exact kj _ s
   refine(afi U O j.g B M (fun b i=>J b (I b i)) (Lx.partsOf T N b (bS 9 l) Q) z C j.len (b+1+L.length) hs (Y1 j.len (by omega)) (ahg j.lens) (by rw[cJ];omega)).mono ?_;rintro e aa⟨rfl,a⟩;refine⟨rfl,?_⟩;rw[ee,n9,qr,YJ,dk,fX,<-dy];exact vG.trans J y a)
  (fun L w' K b i=>by obtain⟨E,J,U,y⟩:=K;exact y.block b (I b i))
  c l W V w [] ⟨D,fun _ h=>h,by simpa [rF]using h,Kp.refl _ _⟩ ⟨[],by simp[hlA]⟩
 refine q.mono ?_;rintro e w'⟨rfl,a⟩;refine⟨rfl,?_⟩;rw[jn]at a;have e1:((aL 9 w c l).filter fun p=>Lx.hlp p.2).map Prod.snd=bS 9 l:=abq W;rw[e1]at a;exact a
theorem CU.move{w w':ω}{F G:Nat->Prop}{l:ByteArray->Int}{f:Addr->Int}{T N:List ByteArray}{b:Nat}{g:List Lx.It}{p:AI}(h:CU w F G l f T N b g p)(c:∀b,F b->w'.heap[b]?=w.heap[b]?)(i:F p.1.block):CU w' F G l f T N b g p:=by
 obtain⟨h1,h2,h3,h4,n,m,d,o,j,t,k,s⟩:=h;have a:F n:=by rw[j]at i;exact i
 exact⟨h1,h2,h3,h4,n,m,d,o,j,(cQ (w:=w) (c n a)).trans t,aN.move c (fun _ h=>h) k,fun q r=>s q (by rw[<-Jp k c];exact r)⟩
namespace Lx
theorem YK(T N:List ByteArray):∀(l:List Rl)(b:Nat)(r:Rl),ng T N b (l++[r])=ng T N b l++DU T N (b+(l.flatMap qH).length) r
 | [],b,r=>by simp[ng]
 |y::l,b,r=>by
  rw[ip,ng,YK T N l,ng,dy,eS,cJ,aha,show b+1+(bS 9 y.alts).length+(l.flatMap qH).length=b+(1+(bS 9 y.alts).length+(l.flatMap qH).length) by omega]
theorem afU(T N:List ByteArray)(n:Nat)(a:j<rs.length):ng T N (n+1) (rs.take (j+1))=ng T N (n+1) (rs.take j)++DU T N (n+(aT (rs.take j)).length) rs[j]:=by
 rw[fY a,YK];unfold aT;rw[eh,show n+1+((rs.take j).flatMap qH).length=n+(((rs.take j).flatMap qH).length+1) by omega]
theorem pd0(n:Nat):dh n n [n+1]=⟨n,[n+1],-1⟩:=by
 unfold dh rJ;simp;omega
end Lx
structure adv(w:ω)(F G:Nat->Prop)(fS:ByteArray->Int)(fH:Addr->Int)(T N:List ByteArray)(va:υ)(r:Lx.Rl)(b:Nat):Prop where
 left:fS r.name=(b:Int)
 its:∀p∈aL 9 w va r.alts,F p.1.block/\CU w F G fS fH T N b (bS 9 r.alts) p
 sym:∀p∈aL 9 w va r.alts,Ak fS fH p=(JO T N b (bS 9 r.alts) p.2:Int)
 hel:∀k p,(hlA w va r.alts)[k]?=ο p->fH p.1=((b+1+k:Nat):Int)
 prec:∀a∈r.alts,a.2.1≠bP->fS a.2.1=(Lx.fix T a.2.1:Int)
 len:r.alts.length<=10000
 lens:∀a∈r.alts,a.1.length<=10000
 hl:(hlA w va r.alts).length<=100000
 pl:(DU T N b r).length<=10000000
theorem afV{S:Nat}{T:List ByteArray}{rs:List Lx.Rl}(h:Mp D G w m S H ta T.length tc vN vB vK J fH [])(Az:lV F w vR rs)(V:∀b,F b->D b)(hQ:∀i(hi:i<rs.length),adv w F G J fH T N (cv w ⟨aS vR,i*2+1,ν⟩) rs[i] (T.length+(aT (rs.take i)).length))(ad:0<rs.length)(bR:rs.length<=10000):
  χ prog 85 #[π (ο ⟨m,0,ν⟩),vR] w fun e w'=>e=δ (θ #[])/\vG D G w m S H ta T.length tc vN vB vK J fH (⟨T.length,[T.length+1],-1⟩::ng T N (T.length+1) rs) w':=by
 obtain⟨a,c,rfl,hm⟩:=Az.len;unfold maxLen at hm;obtain⟨C,cd,bF,hv,ai,-,r0,-⟩:=Az.at ad;cases hv;have e0:J rs[0].name=((T.length+1:Nat):Int):=(hQ 0 ad).left;obtain⟨n1,ag⟩:=aC (T.length+1);rw[<-ag]at e0;have bo:Hid _:=ag;clear ag;have ae:=SMap.look (w:=w.drew) (h.sm.move rfl) rs[0].name;rw[e0]at ae;rw[rm]at r0;obtain⟨m0,m5,m6⟩:=h.cells;have bp:=Az.lt C ai;obtain⟨W,hW⟩:=aC ((w.alloc (ζ #[ι ξ (n1:Int)] 3)).drew);have aa:φ w.heap.size w W:=by rw[hW];exact((cV _ _).alloc (dv _) _).drew
 have aP:=h.below aa;have kW:aj W w.heap.size #[ι ξ (n1:Int)] 3:=by rw[hW];exact(aj.new w _ 3).drew
 have oW:IR 0 W (ς (ο ⟨w.heap.size,0,ν⟩) 1 1) [n1]:=⟨rfl,.inr ⟨w.heap.size,1,_,rfl,fi _,kW,dv _,by decide,rfl,rfl⟩⟩;have q0:=Ac aP T.length _ [n1] oW (by simp) (by simp);rw[hW]at q0;generalize rs[0].name=Wt at ae r0;have d0:w.drew.cell? ⟨m,0,ν⟩=ο (ς ta T.length tc):=m0;have d5:w.drew.cell? ⟨m,5,ν⟩=ο (.map (ο S)):=m5;have dr:w.drew.cell? ⟨C,0,ν⟩=ο (τ Wt):=r0;have x1:=World.new_ne w ⟨m,0,ν⟩ m0;have x2:=World.new_ne w ⟨C,0,ν⟩ r0;have x3:=ad;clear e0;go_enter func85,ntmps85;go_wp2_with fail
 go_region_held3 (fun w'=>w'.cell? ⟨m,0,ν⟩=ο (ς ta T.length tc)/\w'.cell? ⟨m,5,ν⟩=ο (.map (ο S))/\w'.cell? ⟨C,0,ν⟩=ο (τ Wt)) (first | go_keep | assumption) ((go_at_call 144;refine q0.mono ?_;rintro e w1⟨rfl,E1,az,z,an⟩;have S1:w1.cell? ⟨m,0,ν⟩=ο (ς ta T.length tc)/\w1.cell? ⟨m,5,ν⟩=ο (.map (ο S))/\w1.cell? ⟨C,0,ν⟩=ο (τ Wt):=⟨z.cells.1,z.cells.2.1,(cQ (w:=w) ((an.block C (V C ai)).trans (by rw[<-hW];exact aa.block C bp))).trans r0⟩))
 have aX:Mp E1 G w1 m S H ta T.length tc vN vB vK J fH (⟨T.length,[T.length+1],-1⟩::ng T N (T.length+1) (rs.take 0)):=by
  have e:(⟨T.length,[T.length+1],-1⟩::ng T N (T.length+1) (rs.take 0):List Lx.Pd)=[]++[dh T.length T.length [n1]]:=by rw[bo.out,Lx.pd0];simp[ng]
  rw[e];exact z
 have zo:=(Kp.below aa h.lt).trans (by rw[hW];exact an) fun g t=>t
 clear ae q0 oW kW aP z an hW aa d0 d5 dr x1 x2 r0 m0 m5 m6;clear W;go_wp2_with fail
 go_loopg [28] rs.length (fun k i wr=>∃(j:Nat)(E:Nat->Prop),j+k=rs.length/\i=ι ξ j/\(∀g,D g->E g)/\Mp E G wr m S H ta T.length tc vN vB vK J fH (⟨T.length,[T.length+1],-1⟩::ng T N (T.length+1) (rs.take j))/\Kp D w wr/\(ng T N (T.length+1) (rs.take j)).length<=j*10000000)
 case atStart=>exact⟨0,E1,by omega,rfl,az,aX,zo,by simp[ng]⟩
 case round=>
  clear aX zo az;revert wr;intro s hrel;obtain⟨j,E,hk,rfl,hE,Hg,ap,uf⟩:=hrel
  by_cases hlt:j<rs.length
  ·obtain⟨b9,ca,va,hv,bL,X,c0,c1⟩:=Az.at hlt
   cases hv;have yh:cv w ⟨C,j*2+1,ν⟩=va:=by unfold cv;rw[c1];rfl
   have y:=hQ j hlt;rw[show aS (ς (ο ⟨C,0,ν⟩) rs.length c)=C from rfl,yh]at y;have ax:=ap.block C (V C ai);have z0:=(cQ (w:=w) ax).trans c0;have z1:=(cQ (w:=w) ax).trans c1;have K7:Hid _:=afU T N T.length hlt;generalize T.length+(aT (rs.take j)).length=b at y K7;generalize rs[j]=r at y K7 z0 X;generalize ng T N (T.length+1) (rs.take j)=PJ at Hg uf K7;obtain⟨U,d,rp⟩:=r;simp only at X z0;obtain⟨sa,sc,rfl,-⟩:=aN.len X;obtain⟨Q,P⟩:=aC (s.alloc (ζ #[τ U,ς sa d.length sc] 296));have bb:φ s.heap.size s Q:=by rw[P];exact(cV _ _).alloc (dv _) _
   have bT:Q.heap.size=s.heap.size+1:=by rw[P];simp
   have kR:aj Q s.heap.size #[τ U,ς sa d.length sc] 296:=by rw[P];exact aj.new s _ 296
   have z:=Hg.more bb;have dR:More E s Q s.heap.size:=.inr ⟨dv _,by omega⟩;have b3:∀g,D g->More E s Q g:=fun g t=>.inl (hE g t)
   have b2:=ap.trans (Kp.below bb (D:=fun g=>g<s.heap.size) fun g t=>t) fun g t=>Hg.lt g (hE g t)
   clear c0 c1 yh;go_wp2_with fail;rw[<-P];clear P z0 z1
   go_loopg [35] d.length (fun k i wr=>∃(q:Nat)(E2:Nat->Prop),q+k=d.length/\i=ι ξ q/\(∀g,More E s Q g->E2 g)/\Mp E2 G wr m S H ta T.length tc vN vB vK J fH ((⟨T.length,[T.length+1],-1⟩::PJ)++(d.take q).map (vw T N b (bS 9 d)))/\Kp (More E s Q) Q wr)
   case atStart=>exact⟨0,_,by omega,rfl,fun _ h=>h,by simpa using z,Kp.refl _ _⟩
   case round=>
    revert wr;intro l hrel;obtain⟨q,E2,bU,rfl,u,yu,af⟩:=hrel;have GJ:=b2.trans af b3;have Wu:=eD kR af dR
    by_cases vI:q<d.length
    ·obtain⟨vi,aA,b5,ac⟩:=abr X vI
     have K8:=(FE X vI).1;have K9:=aN.move (fun b B=>GJ.block b (V b B)) (fun _ h=>h) X;obtain⟨gb,ao,AJ,hv,t,hit,hc⟩:=Seq.at K9 (fun _=>rfl) vI;cases hv;have y0:l.cell? ⟨gb,q*2,ν⟩=ο AJ:=hc 0 (by decide);have y1:l.cell? ⟨gb,q*2+1,ν⟩=ο (τ d[q].2.1):=hc 1 (by decide);have br:AJ=vi:=by
      have h3:l.cell? ⟨gb,q*2,ν⟩=ο vi:=(cQ (w:=w) (GJ.block gb (V gb t))).trans aA;rw[h3]at y0;exact(fL y0).symm
     subst br;have I:=y.prec d[q] (eJ vI);have ah:=y.lens d[q] (eJ vI);have L:∀k(hk:k<d[q].1.length)(bf:k<(qG T N b (bS 9 d) d[q].1).length),G (aS AJ)/\Ak J fH (⟨aS AJ,k*4,ν⟩,d[q].1[k])=((qG T N b (bS 9 d) d[q].1)[k]:Int):=fun k hk bf=>by
      have h4:=ac k hk;refine⟨(y.its _ h4).2.g,(y.sym _ h4).trans ?_⟩;simp[qG]
     have ku:Hid ((d.take (q+1)).map (vw T N b (bS 9 d))=(d.take q).map (vw T N b (bS 9 d))++[vw T N b (bS 9 d) d[q]]):=by show _=_;rw[fY vI,ee];rfl
     have f:(qG T N b (bS 9 d) d[q].1).length=d[q].1.length:=by simp[qG]
     have K:jO YP 8 F l AJ d[q].1:=hit;have bN:d.length<=10000:=y.len;clear ac aA b5 hit hc K9;generalize d[q]=x at y1 I ah L ku f K;obtain⟨its,prec,pa⟩:=x;simp only at y1 I ah L f K;have Kb:Hid (vw T N b (bS 9 d) (its,prec,pa)=⟨b,qG T N b (bS 9 d) its,if prec=bP then rJ T.length (qG T N b (bS 9 d) its) else (Lx.fix T prec:Int)⟩):=rfl;generalize qG T N b (bS 9 d) its=rr at L f Kb;obtain⟨ia,ic,rfl,bz⟩:∃a c,AJ=ς a its.length c/\its.length<=maxLen:=Seq.len (show Tr.Seq F l YP.eI YP.sI YP.cI (fun va it=>aN YP 8 F l va it.alts) AJ its from K);obtain⟨W2,O⟩:=aC (l.alloc (ζ #[ς ia its.length ic,τ prec] 311));have Y:φ l.heap.size l W2.drew:=by rw[O];exact((cV _ _).alloc (dv _) _).drew
     have bM:W2.heap.size=l.heap.size+1:=by rw[O];simp
     have kA:aj W2 l.heap.size #[ς ia its.length ic,τ prec] 311:=by rw[O];exact aj.new l _ 311
     have A:=yu.more Y;have dA:More E2 l W2.drew l.heap.size:=.inr ⟨dv _,by show l.heap.size<W2.heap.size;omega⟩;have Wv:More E2 l W2.drew s.heap.size:=.inl (u _ dR);have bs:=Wu.lt;have qm:=Wu.go Y bs;have b6:∀b,F b->More E2 l W2.drew b:=fun b B=>.inl (u b (.inl (hE b (V b B))))
     have q1:=Zp A its _ (jO.move (fun b B=>Y.block b (yu.lt b (u b (.inl (hE b (V b B)))))) (fun _ h=>h) K) b6 rr f (fun k hk=>L k hk (by rw[f];exact hk)) ah prec;have av:=SMap.look (w:=W2.drew) A.sm U;rw[show J U=(b:Int) from y.left]at av;have s5:=A.cells.2.1;have sR:=qm.a0;have bj:=kA.drew.a0;have bv:=kA.drew.a1;have bt:J U=(b:Int):=y.left;have bx:(((⟨T.length,[T.length+1],-1⟩:Lx.Pd)::PJ)++(d.take q).map (vw T N b (bS 9 d))).length<=400000000000:=by
      simp only[List.length_append,List.length_cons,List.length_map,List.length_take];have h5:j*10000000<=10000*10000000:=kj _ (by omega);omega
     have bn:Hid _:=f;clear f L K;generalize sw:(((⟨T.length,[T.length+1],-1⟩:Lx.Pd)::PJ)++(d.take q).map (vw T N b (bS 9 d)))=PQ at yu A bx;have aR:Hid _:=sw;clear sw;unfold maxLen at bz;go_wp2_with fail;rw[<-O];clear O y0 y1
     go_region_held3 (fun w'=>w'.cell? ⟨m,5,ν⟩=ο (.map (ο S))/\w'.cell? ⟨s.heap.size,0,ν⟩=ο (τ U)/\w'.cell? ⟨l.heap.size,0,ν⟩=ο (ς ia its.length ic)/\w'.cell? ⟨l.heap.size,1,ν⟩=ο (τ prec)) (first|go_keep|assumption) (first|(go_at_call 145;refine q1.mono ?_;rintro e w3⟨u3,rfl,am,ak⟩;obtain⟨ua,uc,rfl,-⟩:=aB am;have ug:=A.below ak;have v:=Kp.below ak A.lt;have S3:w3.cell? ⟨m,5,ν⟩=ο (.map (ο S))/\w3.cell? ⟨s.heap.size,0,ν⟩=ο (τ U)/\w3.cell? ⟨l.heap.size,0,ν⟩=ο (ς ia its.length ic)/\w3.cell? ⟨l.heap.size,1,ν⟩=ο (τ prec):=⟨ug.cells.2.1,(eD qm v Wv).cell 0,(eD kA.drew v dA).cell 0,(eD kA.drew v dA).cell 1⟩;have aw:=SMap.look (w:=w3) ug.sm U;rw[bt]at aw;have q3:=Ac ug b _ rr (jb am (fi _)) (by have:=bn.out;omega) (by omega))|(go_at_call 144;refine q3.mono ?_;rintro e M⟨rfl,E4,aV,He,R⟩;have S4:M.cell? ⟨m,5,ν⟩=ο (.map (ο S))/\M.cell? ⟨s.heap.size,0,ν⟩=ο (τ U)/\M.cell? ⟨l.heap.size,0,ν⟩=ο (ς ia its.length ic)/\M.cell? ⟨l.heap.size,1,ν⟩=ο (τ prec):=⟨He.cells.2.1,(eD (eD qm v Wv) R Wv).cell 0,(eD (eD kA.drew v dA) R dA).cell 0,(eD (eD kA.drew v dA) R dA).cell 1⟩))
     all_goals
      obtain⟨bi,bD,cb,bh⟩:=S4;have bg:=(Kp.below Y yu.lt).trans (v.trans R fun g h=>h) fun g t=>.inl t
      have aE:=af.trans bg u;have UZ:∀g,More E s Q g->E4 g:=fun g t=>aV g (.inl (u g t))
      have b7:=aV _ dA;clear S3 aw q3 q1 av s5 sR bj bv am ug A v R ak
      by_cases hpn:prec=bP
      ·have Z:Hid (vw T N b (bS 9 d) (its,prec,pa)=dh T.length b rr):=by rw[Kb.out,du hpn];rfl
       have b4:prec=⟨#[]⟩:=hpn;clear hpn I Kb;subst b4;go_wp2_with fail;go_roundg (d.length - (q+1))
       case measure=>omega
       case rel=>exact⟨q+1,E4,by omega,by go_num,UZ,by rw[ku.out,Z.out,<-dy,aR.out];exact He,aE⟩
      ·have Z:Hid (vw T N b (bS 9 d) (its,prec,pa)=⟨b,rr,(Lx.fix T prec:Int)⟩):=by show _=_;rw[Kb.out,dt hpn]
       have b8:=Ae hpn;have aH:=I hpn;obtain⟨g,cg,ba,bd,bV,⟨o,a9⟩,fz,ab⟩:=He.ala;have hlp:=SMap.look (w:=M.drew) (He.sm.move rfl) prec;rw[aH]at hlp;have Cc:=ab (Lx.fix T prec:Int);generalize (Lx.fix T prec:Int)=pv at hlp Cc Z;have cc:g≠l.heap.size:=fun e=>bd (e▸b7)
       have t2:M.drew.cell? ⟨m,2,ν⟩=ο (ς (ο ⟨g,0,ν⟩) (PQ.length+1) cg):=ba;have t5:M.drew.cell? ⟨m,5,ν⟩=ο (.map (ο S)):=bi;have tp:M.drew.cell? ⟨l.heap.size,1,ν⟩=ο (τ prec):=bh;have tg:M.drew.cell? ⟨g,PQ.length*3+2,ν⟩=ο (ι ξ o):=a9;have tz:∀i,M.drew.frozen? ⟨g,i,ν⟩=ε:=fz;obtain⟨w5,fQ⟩:=aC ((M.setCell ⟨g,PQ.length*3+2,ν⟩ (ι ξ pv)).drew);have eU:Mp E4 G w5 m S H ta T.length tc vN vB vK J fH (PQ++[⟨b,rr,pv⟩]):=by rw[fQ];exact Cc.1.below ((cV _ _).drew)
       have bm:Kp (More E s Q) Q w5:=aE.trans (by rw[fQ];exact⟨Cc.2.os,Cc.2.tape,Cc.2.output,Cc.2.size,Cc.2.block⟩) UZ;have i1:(0:Int)<=(PQ.length:Int):=by omega
       have i2:(PQ.length:Int)<(PQ.length:Int)+1:=by omega
       have i3:IntKind.i64.wrap (PQ.length:Int)=(PQ.length:Int):=wrap64 (by omega);have i4:IntKind.i64.wrap ((PQ.length:Int)+1)=(PQ.length:Int)+1:=by have:=wrap64 (n:=PQ.length+1) (by omega);simpa using this
       have i5:IntKind.i64.wrap ((PQ.length:Int)+1-1)=(PQ.length:Int):=by rw[Int.add_sub_cancel];exact i3
       clear ab Cc I hpn Kb aH;go_wp2_with fail
       go_region_held3 (fun w'=>w'.cell? ⟨m,2,ν⟩=ο (ς (ο ⟨g,0,ν⟩) (PQ.length+1) cg)/\w'.cell? ⟨m,5,ν⟩=ο (.map (ο S))/\w'.cell? ⟨l.heap.size,1,ν⟩=ο (τ prec)) (go_keep) (fail)
       all_goals
        rw[<-fQ];clear fQ hlp t2 t5 tp tg tz ba a9 fz;go_wp2_with fail;go_roundg (d.length - (q+1))
        case measure=>omega
        case rel=>exact⟨q+1,E4,by omega,by go_num,UZ,by rw[ku.out,Z.out,<-dy,aR.out];exact eU,bm⟩
    ·have:q=d.length:=by omega
     subst this;rw[ff]at yu;have CJ:∀(fn:Fn)(first ao:Array υ)(w:ω),(Instr.makeFunc fn first ao).run prog w=.ok (.func fn first ao) w:=fun _ _ _ _=>rfl
     have K9:=aN.move (fun b B=>GJ.block b (V b B)) (fun _ h=>h) X;have eA:=Jp X fun b B=>GJ.block b (V b B)
     have eH:hlA l (ς sa d.length sc) d=hlA w (ς sa d.length sc) d:=by unfold hlA;rw[eA]
     have aq:(((⟨T.length,[T.length+1],-1⟩:Lx.Pd)::PJ)++d.map (vw T N b (bS 9 d))).length<=400000000000:=by
      have h9:d.length<=10000:=y.len;simp only[List.length_append,List.length_cons,List.length_map];have h5:j*10000000<=10000*10000000:=kj _ (by omega);omega
     have q5:=afu (T:=T) (N:=N) (b:=b) yu (fun b B=>u b (.inl (hE b (V b B)))) K9 (fun p hp=>((y.its p (by rw[<-eA];exact hp)).2).move (fun b B=>GJ.block b (V b B)) (y.its p (by rw[<-eA];exact hp)).1) (fun k p hp=>y.hel k p (by rw[<-eH];exact hp)) (by rw[eH];exact y.hl) aq;have y1:=Wu.a1;have I:=y.pl;have bw:Hid (DU T N b ⟨U,d,rp⟩=d.map (vw T N b (bS 9 d))++rF T N b (bS 9 d) 0 (bS 9 d)):=rfl;clear K9 eA eH aq y X;go_wp2_with fail;refine q5.mono ?_;rintro e w6⟨rfl,E6,bc,Qa,tZ⟩;clear q5 CJ y1;have ar:Mp E6 G w6 m S H ta T.length tc vN vB vK J fH (⟨T.length,[T.length+1],-1⟩::ng T N (T.length+1) (rs.take (j+1))):=by
      rw[K7.out,bw.out];simpa [List.append_assoc]using Qa
     have b0:=GJ.trans tZ fun g t=>u g (.inl (hE g t))
     have bu:(ng T N (T.length+1) (rs.take (j+1))).length<=(j+1)*10000000:=by
      rw[K7.out,cJ,oE];omega
     have b1:Hid _:=ar;clear Qa ar yu z Hg;go_wp2_with fail;go_roundg (rs.length - (j+1))
     case measure=>omega
     case rel=>exact⟨j+1,E6,by omega,by go_num,fun g t=>bc g (u g (.inl (hE g t))),b1.out,b0,bu⟩
  ·have:j=rs.length:=by omega
   subst this;rw[ff]at Hg;go_wp2_with fail
   go_end0
   exact⟨rfl,E,hE,Hg,ap⟩
def ED(va:υ)(it:Lx.It):υ:=γ #[ι ξ (it.kind:Int),τ it.name,ι .u8 (it.mark:Int),va]
def La(vi:υ)(a:Lx.Alt):υ:=γ #[vi,τ a.2.1]
structure OkW(F:Nat->Prop)(w0:ω)(Ok:ω->Prop):Prop where
 fr:∀w,Ok w->∀b,F b->w.heap[b]?=w0.heap[b]?/\b<w.heap.size
 up:∀w w',Ok w->φ w.heap.size w w'->Ok w'
def vJ(w:ω)(b:Bool)(e:Ending)(w':ω):Prop:=e=δ (μ b)/\φ w.heap.size w w'
theorem agm{J:ω->Prop}(E:OkW F w0 J){C:Nat}(aa:∀(ar:Array υ)(w:ω),(callFunc C ar).run prog w=.ok (.enter C ar) w){pr:Lx.It->Bool}{R:Lx.It->Prop}
  (U:∀(w':ω)(va:υ)(it:Lx.It),J w'->aN YP d F w0 va it.alts->R it->χ prog C (#[ED va it]++caps) w' (vJ w' (pr it)))
  {B:υ} {f:List Lx.It} (M:jO YP d F w0 B f) (Y:∀it∈f,R it) {w:ω} (T:J w) :
  χ prog 197 #[B,.func (.func C) #[] caps] w fun e w'=>∃q:Int,e=δ (ι ξ q)/\(0<=q↔f.any pr=η)/\φ w.heap.size w w':=by
 obtain⟨ia,ic,S,D⟩:∃a c,B=ς a f.length c/\f.length<=maxLen:=Seq.len (show Tr.Seq F w0 YP.eI YP.sI YP.cI (fun va it=>aN YP d F w0 va it.alts) B f from M);subst S;unfold maxLen at D;go_enter func197,ntmps197;go_wp2_with fail
 go_loopg [8] f.length (fun k i wr=>∃j:Nat,j+k=f.length/\i=ι ξ j/\φ w.heap.size w wr/\Hid (∀m(r:m<f.length),m<j->pr f[m]=ε))
 case atStart=>exact⟨0,by omega,rfl,cV _ _,fun m _ h=>by omega⟩
 case round=>
  obtain⟨j,hk,rfl,o,z⟩:=hrel;have g:=E.up _ _ T o
  by_cases hlt:j<f.length
  ·have p:=M
   unfold jO xu at p;obtain⟨n,Eb,va,X,L,N,l⟩:=Seq.at p (fun _=>rfl) hlt;cases X;have H:=Y f[j] (eJ hlt);have t:=U wr va f[j] g N H;obtain⟨W,Z,G,-⟩:=aN.len N;subst G;have A:=(E.fr _ g n L).1;have ln:=(E.fr _ g n L).2;have O:wr.cell? ⟨n,j*4,ν⟩=ο (ι ξ (f[j].kind:Int)):=(cQ (w:=w0) A).trans (l 0 (by decide));have x1:wr.cell? ⟨n,j*4+1,ν⟩=ο (τ f[j].name):=(cQ (w:=w0) A).trans (l 1 (by decide));have x2:wr.cell? ⟨n,j*4+2,ν⟩=ο (ι .u8 (f[j].mark:Int)):=(cQ (w:=w0) A).trans (l 2 (by decide));have Q:wr.cell? ⟨n,j*4+3,ν⟩=ο (ς W f[j].alts.length Z):=(cQ (w:=w0) A).trans (l 3 (by decide));unfold ED at t;have s:Hid (∀b,pr f[j]=b->(b=η->f.any pr=η)/\(b=ε->∀m(r:m<f.length),m<j+1->pr f[m]=ε)):=by
    intro b K;refine⟨fun h=>rx.2 ⟨f[j],eJ hlt,by rw[K,h]⟩,fun h m r P=>?_⟩
    by_cases U0:m=j
    ·subst U0;rw[K,h]
    ·exact z.out m r (by omega)
   clear l p z;generalize hit:f[j]=it at t O x1 x2 Q s;clear hit;go_wp2_with fail;refine t.mono ?_;rintro e w2⟨rfl,I⟩;have y:=o.trans (I.mono o.size);cases hp:pr it with
   |true=>
    have v:=(s.out η hp).1 rfl;have u:Hid _:=v;clear s v hp t;go_wp2_with fail;go_ret;exact⟨_,rfl,⟨fun _=>u.out,fun _=>by omega⟩,y⟩
   |false=>
    have u:Hid _:=(s.out ε hp).2 rfl;clear s hp t;go_wp2_with fail;go_roundg (f.length - (j+1))
    case measure=>omega
    case rel=>exact⟨j+1,by omega,by go_num,y,u⟩
  ·have:j=f.length:=by omega
   subst this;have u:Hid (¬f.any pr=η):=by
    intro h;obtain⟨x,V,hp⟩:=rx.1 h;obtain⟨m,r,rfl⟩:=List.mem_iff_getElem.1 V;rw[z.out m r r]at hp;cases hp
   clear z;go_wp2_with fail;go_ret;exact⟨_,rfl,⟨fun h=>by omega,fun h=>absurd h u.out⟩,o⟩
theorem ahh{H:ω->Prop}(C:OkW F w0 H){A:Nat}(Z:∀(ar:Array υ)(w:ω),(callFunc A ar).run prog w=.ok (.enter A ar) w){pr:Lx.Alt->Bool}{R:Lx.Alt->Prop}
  (T:∀(w':ω)(va:υ)(it:Lx.Alt),H w'->jO YP d F w0 va it.1->R it->χ prog A (#[La va it]++caps) w' (vJ w' (pr it)))
  {I:υ} {f:List Lx.Alt} (L:aN YP (d+1) F w0 I f) (X:∀it∈f,R it) {w:ω} (S:H w) :
  χ prog 196 #[I,.func (.func A) #[] caps] w fun e w'=>∃q:Int,e=δ (ι ξ q)/\(0<=q↔f.any pr=η)/\φ w.heap.size w w':=by
 obtain⟨ia,ic,Q,B⟩:∃a c,I=ς a f.length c/\f.length<=maxLen:=aN.len L;subst Q;unfold maxLen at B;go_enter func196,ntmps196;go_wp2_with fail
 go_loopg [8] f.length (fun k i wr=>∃j:Nat,j+k=f.length/\i=ι ξ j/\φ w.heap.size w wr/\Hid (∀m(p:m<f.length),m<j->pr f[m]=ε))
 case atStart=>exact⟨0,by omega,rfl,cV _ _,fun m _ h=>by omega⟩
 case round=>
  obtain⟨j,hk,rfl,l,z⟩:=hrel;have g:=C.up _ _ S l
  by_cases hlt:j<f.length
  ·have v:=L
   obtain⟨n,Eb,va,W,M,N,o⟩:=Seq.at v (fun _=>rfl) hlt;cases W;have E:=X f[j] (eJ hlt);have s:=T wr va f[j] g N E;obtain⟨V,Y,D,-⟩:∃a c,va=ς a f[j].1.length c/\f[j].1.length<=maxLen:=Seq.len (show Tr.Seq F w0 YP.eI YP.sI YP.cI (fun va it=>aN YP d F w0 va it.alts) va f[j].1 from N);subst D;have K:=(C.fr _ g n M).1;have ln:=(C.fr _ g n M).2;have O:wr.cell? ⟨n,j*2,ν⟩=ο (ς V f[j].1.length Y):=(cQ (w:=w0) K).trans (o 0 (by decide));have x1:wr.cell? ⟨n,j*2+1,ν⟩=ο (τ f[j].2.1):=(cQ (w:=w0) K).trans (o 1 (by decide));unfold La at s;have r:Hid (∀b,pr f[j]=b->(b=η->f.any pr=η)/\(b=ε->∀m(p:m<f.length),m<j+1->pr f[m]=ε)):=by
    intro b J;refine⟨fun h=>rx.2 ⟨f[j],eJ hlt,by rw[J,h]⟩,fun h m p P=>?_⟩
    by_cases U0:m=j
    ·subst U0;rw[J,h]
    ·exact z.out m p (by omega)
   clear o v z;generalize hit:f[j]=it at s O x1 r;clear hit;go_wp2_with fail;refine s.mono ?_;rintro e w2⟨rfl,G⟩;have y:=l.trans (G.mono l.size);cases hp:pr it with
   |true=>
    have u:=(r.out η hp).1 rfl;have t:Hid _:=u;clear r u hp s;go_wp2_with fail;go_ret;exact⟨_,rfl,⟨fun _=>t.out,fun _=>by omega⟩,y⟩
   |false=>
    have t:Hid _:=(r.out ε hp).2 rfl;clear r hp s;go_wp2_with fail;go_roundg (f.length - (j+1))
    case measure=>omega
    case rel=>exact⟨j+1,by omega,by go_num,y,t⟩
  ·have:j=f.length:=by omega
   subst this;have t:Hid (¬f.any pr=η):=by
    intro h;obtain⟨x,U,hp⟩:=rx.1 h;obtain⟨m,p,rfl⟩:=List.mem_iff_getElem.1 U;rw[z.out m p p]at hp;cases hp
   clear z;go_wp2_with fail;go_ret;exact⟨_,rfl,⟨fun h=>by omega,fun h=>absurd h t.out⟩,l⟩
theorem afj{j:ω->Prop}(p:OkW F w0 j){g:Nat}(k:∀(ar:Array υ)(w:ω),(callFunc g ar).run prog w=.ok (.enter g ar) w){pr:Lx.It->Bool}{R:Lx.It->Prop}
  (o:∀(w':ω)(va:υ)(it:Lx.It),j w'->aN YP d F w0 va it.alts->R it->χ prog g (#[ED va it]++caps) w' (vJ w' (pr it)))
  {i:υ} {b:List Lx.It} (l:jO YP d F w0 i b) (u:∀it∈b,R it) {w:ω} (n:j w) :
  χ prog 177 #[i,.func (.func g) #[] caps] w (vJ w (b.any pr)):=by
 have m:=agm p k o l u n;obtain⟨v,x,t,-⟩:∃a c,i=ς a b.length c/\b.length<=maxLen:=Seq.len (show Tr.Seq F w0 YP.eI YP.sI YP.cI (fun va it=>aN YP d F w0 va it.alts) i b from l);subst t;go_enter func177,ntmps177;go_wp2_with fail;refine m.mono ?_;rintro e w2⟨q,rfl,f,r⟩;have s:Hid (decide (0<=q)=b.any pr):=by
  show _=_;cases ha:b.any pr with
  |true=>exact ge (f.2 ha)
  |false=>exact fx fun h=>by rw[f.1 h]at ha;cases ha
 clear f m;go_wp2_with fail;go_ret;refine⟨?_,r⟩;rw[<-s.out];rfl
theorem YB{i:ω->Prop}(p:OkW F w0 i){g:Nat}(k:∀(ar:Array υ)(w:ω),(callFunc g ar).run prog w=.ok (.enter g ar) w){pr:Lx.Alt->Bool}{R:Lx.Alt->Prop}
  (o:∀(w':ω)(va:υ)(it:Lx.Alt),i w'->jO YP d F w0 va it.1->R it->χ prog g (#[La va it]++caps) w' (vJ w' (pr it)))
  {j:υ} {b:List Lx.Alt} (l:aN YP (d+1) F w0 j b) (u:∀it∈b,R it) {w:ω} (n:i w) :
  χ prog 175 #[j,.func (.func g) #[] caps] w (vJ w (b.any pr)):=by
 have m:=ahh p k o l u n;obtain⟨v,x,t,-⟩:∃a c,j=ς a b.length c/\b.length<=maxLen:=aN.len l;subst t;go_enter func175,ntmps175;go_wp2_with fail;refine m.mono ?_;rintro e w2⟨q,rfl,f,r⟩;have s:Hid (decide (0<=q)=b.any pr):=by
  show _=_;cases ha:b.any pr with
  |true=>exact ge (f.2 ha)
  |false=>exact fx fun h=>by rw[f.1 h]at ha;cases ha
 clear f m;go_wp2_with fail;go_ret;refine⟨?_,r⟩;rw[<-s.out];rfl
theorem Z5(a:Array υ)(w:ω):(callFunc 176 a).run prog w=.ok (.enter 176 a) w:=by kernel_rfl
theorem aij(a:Array υ)(w:ω):(callFunc 178 a).run prog w=.ok (.enter 178 a) w:=by kernel_rfl
def Ce(P:ByteArray->Prop)(it:Lx.It):Prop:=it.kind<=2/\(it.kind=0->P it.name)
structure JR(Ok:ω->Prop)(nf:Nat)(caps:Array υ)(on:ByteArray->Bool)(P:ByteArray->Prop):Prop where
 cf:∀(ar:Array υ)(w:ω),(callFunc nf ar).run prog w=.ok (.enter nf ar) w
 says:∀(w':ω)(b:ByteArray),Ok w'->P b->χ prog nf (#[τ b]++caps) w' (vJ w' (on b))
def Dw(d:Nat):Prop:=∀(F:Nat->Prop)(w0:ω)(Ok:ω->Prop),OkW F w0 Ok->∀(nf:Nat)(caps:Array υ)(on:ByteArray->Bool)(P:ByteArray->Prop),JR Ok nf caps on P ->
 ∀(v:υ)(l:List Lx.Alt),aN YP d F w0 v l->(∀it∈lq d l,Ce P it)->∀w,Ok w->χ prog 138 #[v,.func (.func nf) #[] caps] w (vJ w (oo on d l))
theorem afW(G:Dw d)(u:OkW F w0 o)(s:JR o t caps on P)
  {v:υ} {a:Lx.It} (A:aN YP d F w0 v a.alts) (z:∀x∈J8 d a,Ce P x) {w:ω} (D:o w) :
  χ prog 179 #[ED v a,.func (.func t) #[] caps] w (vJ w (uZ on d a)):=by
 obtain⟨I,J,q,-⟩:=aN.len A;subst q;have hit:=z a eE;have l:∀x∈lq d a.alts,Ce P x:=fun x H=>z x (eR _ H)
 unfold ED;obtain⟨W,i⟩:=aC (w.alloc (ζ #[ι ξ (a.kind:Int),τ a.name,ι .u8 (a.mark:Int),ς I a.alts.length J] 303));have b:φ w.heap.size w W:=by rw[i];exact(cV _ _).alloc (dv _) _
 have y:=u.up _ _ D b;have K:=s.cf;have m:Hid (uZ on d a=(decide (a.kind=1) || decide (a.mark=42) || decide (a.mark=63) || (decide (a.kind=0) && on a.name) || (decide (a.kind=2) && oo on d a.alts))):=rfl;go_enter func179,ntmps179
 by_cases h1:a.mark=42\/a.mark=63\/a.kind=1
 ·have g:Hid (uZ on d a=η):=by
   show _=_;rw[m.out];rcases h1 with h|h|h <;> simp[h]
  have c:(a.mark=42)\/(a.mark≠42/\a.mark=63)\/(a.mark≠42/\a.mark≠63/\a.kind=1):=by
   rcases h1 with h|h|h
   ·exact .inl h
   ·exact .inr (.inl ⟨by omega,h⟩)
   ·by_cases h2:a.mark=42
    ·exact .inl h2
    ·by_cases h3:a.mark=63
     ·exact .inr (.inl ⟨h2,h3⟩)
     ·exact .inr (.inr ⟨h2,h3,h⟩)
  clear h1;rcases c with h|⟨h,n⟩|⟨h,n,k⟩
  ·have p:((a.mark:Int) == 42)=η:=by simp[h]
   clear h;go_wp2_with fail;go_ret;exact⟨by rw[g.out];rfl,i▸b⟩
  ·have p:((a.mark:Int) == 42)=ε:=ej.2 (by omega)
   have B:((a.mark:Int) == 63)=η:=by simp[n]
   clear h n;go_wp2_with fail;go_ret;exact⟨by rw[g.out];rfl,i▸b⟩
  ·have p:((a.mark:Int) == 42)=ε:=ej.2 (by omega)
   have B:((a.mark:Int) == 63)=ε:=ej.2 (by omega);have C:((a.kind:Int) == 1)=η:=by simp[k]
   clear h n k;go_wp2_with fail;go_ret;exact⟨by rw[g.out];rfl,i▸b⟩
 ·have h2:a.mark≠42/\a.mark≠63/\a.kind≠1:=⟨fun e=>h1 (.inl e),fun e=>h1 (.inr (.inl e)),fun e=>h1 (.inr (.inr e))⟩
  have p:((a.mark:Int) == 42)=ε:=ej.2 (by omega);have B:((a.mark:Int) == 63)=ε:=ej.2 (by omega);have C:((a.kind:Int) == 1)=ε:=ej.2 (by omega);clear h1
  by_cases h0:a.kind=0
  ·have g:Hid (uZ on d a=on a.name):=by
    show _=_;rw[m.out];simp[h0,h2.1,h2.2.1]
   have E:((a.kind:Int) == 0)=η:=by simp[h0]
   have r:=s.says W a.name y (hit.2 h0);clear h0 h2 m hit;go_wp2_with fail;rw[<-i];refine r.mono ?_;rintro e w2⟨rfl,f⟩;go_wp2_with fail;go_ret;exact⟨by rw[g.out];rfl,b.trans (f.mono b.size)⟩
  ·have j:a.kind=2:=by have:=hit.1;omega
   have g:Hid (uZ on d a=oo on d a.alts):=by
    show _=_;rw[m.out];simp[j,h2.1,h2.2.1]
   have E:((a.kind:Int) == 0)=ε:=ej.2 (by omega);have r:=G F w0 o u t caps on P s _ _ A l W y;clear h0 h2 m hit j;go_wp2_with fail;rw[<-i];refine r.mono ?_;rintro e w2⟨rfl,f⟩;go_wp2_with fail;go_ret;exact⟨by rw[g.out];rfl,b.trans (f.mono b.size)⟩
theorem OkW.box{f:ω->Prop}(h:OkW F w0 f)(d:Nat)(v:υ):OkW F w0 (fun w=>f w/\aj w d #[v] 204) :=
 ⟨fun w a b c=>h.fr w a.1 b c,fun w g a c=>⟨h.up w g a.1 c,(c.block d a.2.lt).trans a.2⟩⟩
theorem aik(r:Dw d){c:ω->Prop}(k:OkW F w0 c){o:Nat}(u:JR c o caps on P)
  {j:υ} {a:Lx.It} (n:aN YP d F w0 j a.alts) (t:∀x∈J8 d a,Ce P x) {w:ω} (p:c w) (m:aj w i #[.func (.func o) #[] caps] 204) :
  χ prog 178 #[ED j a,π (ο ⟨i,0,ν⟩)] w (vJ w (!uZ on d a)):=by
 obtain⟨v,y,g,-⟩:=aN.len n;subst g;obtain⟨W,l⟩:=aC (w.alloc (ζ #[ι ξ (a.kind:Int),τ a.name,ι .u8 (a.mark:Int),ς v a.alts.length y] 303));have f:φ w.heap.size w W:=by rw[l];exact(cV _ _).alloc (dv _) _
 have s:=k.up _ _ p f;have q:=afW r k u n t s;have z:=m.a0;have le:=m.lt;unfold ED at q|-;go_enter func178,ntmps178;go_wp2_with fail;rw[<-l];refine q.mono ?_;rintro e w2⟨rfl,b⟩;go_wp2_with fail;go_ret;exact⟨rfl,f.trans (b.mono f.size)⟩
theorem ail(y:Dw d)(k:OkW F w0 o)(D:JR o m caps on P)
  {g:υ} {a:Lx.Alt} (t:jO YP d F w0 g a.1) (B:∀x∈Gy d a.1,Ce P x) {w:ω} (u:o w) (G:aj w j #[.func (.func m) #[] caps] 204) :
  χ prog 176 #[La g a,π (ο ⟨j,0,ν⟩)] w (vJ w (a.1.all (uZ on d))):=by
 obtain⟨A,I,E,-⟩:∃x c,g=ς x a.1.length c/\a.1.length<=maxLen:=Seq.len (show Tr.Seq F w0 YP.eI YP.sI YP.cI (fun r b=>aN YP d F w0 r b.alts) g a.1 from t);subst E;obtain⟨W,s⟩:=aC (w.alloc (ζ #[ς A a.1.length I,τ a.2.1] 311));have i:φ w.heap.size w W:=by rw[s];exact(cV _ _).alloc (dv _) _
 have z:=k.up _ _ u i;have l:=G.on i;have q:=afj (k.box j (.func (.func m) #[] caps)) aij (caps:=#[π (ο ⟨j,0,ν⟩)]) (pr:=fun b=>!uZ on d b) (R:=fun b=>∀x∈J8 d b,Ce P x)
  (fun J r b f p v=>aik y k D p v f.1 f.2) t (fun b hit x C=>B x (li.2 ⟨b,hit,C⟩)) ⟨z,l⟩
 have H:Hid (a.1.all (uZ on d)=!(a.1.any fun b=>!uZ on d b)):=by
  show _=_;rw[List.not_any_eq_all_not];congr 1;funext x;simp
 unfold La;go_enter func176,ntmps176;go_wp2_with fail;rw[<-s];refine q.mono ?_;rintro e w2⟨rfl,n⟩;go_wp2_with fail;go_ret;exact⟨by rw[H.out];rfl,i.trans (n.mono i.size)⟩
theorem afX:Dw 0:=by
 intro F k m f j caps on P hN v l hl hi w hw;have b:=aN.up hl;obtain⟨rfl,rfl⟩:=hl;obtain⟨W,d⟩:=aC (w.alloc (ζ #[.func (.func j) #[] caps] 204));have c:φ w.heap.size w W:=by rw[d];exact(cV _ _).alloc (dv _) _
 have i:=f.up _ _ hw c;have q:=YB f Z5 (caps:=#[π (ο ⟨w.heap.size,0,ν⟩)]) (pr:=fun _=>ε) (R:=fun _=>False) (fun _ _ _ _ _ g=>g.elim) b (fun n hit=>by cases hit) i;go_enter func138,ntmps138;go_wp2_with fail;rw[<-d];refine q.mono ?_;rintro e w2⟨rfl,a⟩;go_wp2_with fail;go_ret;exact⟨rfl,c.trans (a.mono c.size)⟩
theorem afY(n:Dw d):Dw (d+1):=by
 intro F z A i k caps on P hN v l hl hi w hw;obtain⟨y,B,s,-⟩:=aN.len hl;subst s;obtain⟨W,f⟩:=aC (w.alloc (ζ #[.func (.func k) #[] caps] 204));have g:φ w.heap.size w W:=by rw[f];exact(cV _ _).alloc (dv _) _
 have o:=i.up _ _ hw g;have r:aj W w.heap.size #[.func (.func k) #[] caps] 204:=by rw[f];exact aj.new w _ 204
 have q:=YB (i.box w.heap.size (.func (.func k) #[] caps)) Z5 (caps:=#[π (ο ⟨w.heap.size,0,ν⟩)]) (pr:=fun a=>a.1.all (uZ on d)) (R:=fun a=>∀x∈Gy d a.1,Ce P x)
  (fun u C a b j m=>ail n i hN j m b.1 b.2) hl (fun a t x p=>hi x (by rw[ZR];exact li.2 ⟨a,t,p⟩)) ⟨o,r⟩
 rw[ag5];go_enter func138,ntmps138;go_wp2_with fail;rw[<-f];refine q.mono ?_;rintro e w2⟨rfl,c⟩;go_wp2_with fail;go_ret;exact⟨rfl,g.trans (c.mono g.size)⟩
theorem Zr:∀d,Dw d
 |0=>afX
 |d+1=>afY (Zr d)

import Derived.Shelf.Strconv.Itoa3
import Derived.Shelf.Slices.Clone
import Derived.Test.YtagkodkijkpemaaGreatDoorQA04
import Derived.Lib.AppendIntMem
import Derived.Deep.CutRange
set_option maxHeartbeats 8000000
set_option maxRecDepth 1000000
namespace Go.Proofs.YtagkodkijkpemaaGreatDoor
open Lx Go.Proofs.Tryz
open Go.RowKit Tr
end Go.Proofs.YtagkodkijkpemaaGreatDoor
namespace Go.Proofs
open Go.Shelf
def Tryz.af3:Go.Shelf.Ren:=⟨fun | 171=>126 | 243=>162 | 246=>179 | 283=>194 | 284=>195 | 285=>196 | 286=>197 | 129=>191 | 317=>205 | 318=>206 | 319=>207 | 320=>208 | 337=>210 | 338=>141 | n=>n,fun | 3=>3 | 9=>9 | 2=>2 | 4=>4 | 171=>331 | 0=>0 | 53=>277 | 37=>112 | 5=>5 | 173=>333 | 212=>343 | 51=>82 | 20=>20 | 213=>344 | 46=>135 | 232=>347 | 233=>311 | n=>n,fun | 17=>3 | 18=>4 | 19=>2 | n=>n⟩
theorem Tryz.aj3:Go.Proofs.LaysM.n171 prog Tryz.af3:={
 mixed:=by kernel_rfl
 f129:=func191.trans (congrArg some (by kernel_rfl))
 f171:=func126.trans (congrArg some (by kernel_rfl))
 f243:=func162.trans (congrArg some (by kernel_rfl))
 f246:=func179.trans (congrArg some (by kernel_rfl))
 f283:=func194.trans (congrArg some (by kernel_rfl))
 f284:=func195.trans (congrArg some (by kernel_rfl))
 f285:=func196.trans (congrArg some (by kernel_rfl))
 f286:=func197.trans (congrArg some (by kernel_rfl))
 f317:=func205.trans (congrArg some (by kernel_rfl))
 f318:=func206.trans (congrArg some (by kernel_rfl))
 f319:=func207.trans (congrArg some (by kernel_rfl))
 f320:=func208.trans (congrArg some (by kernel_rfl))
 f337:=func210.trans (congrArg some (by kernel_rfl))
 f338:=func141.trans (congrArg some (by kernel_rfl))
 t0:=underlying0
 a0:=Tryz.isAgg0
 z0:=Tryz.sizeOf0
 v0:=Tryz.zeroValue0
 t2:=underlying2
 a2:=Tryz.isAgg2
 z2:=Tryz.sizeOf2
 v2:=Tryz.zeroValue2
 t3:=underlying3
 a3:=Tryz.isAgg3
 z3:=Tryz.sizeOf3
 v3:=Tryz.zeroValue3
 t4:=underlying4
 a4:=Tryz.isAgg4
 z4:=Tryz.sizeOf4
 v4:=Tryz.zeroValue4
 t5:=underlying5
 a5:=Tryz.isAgg5
 z5:=Tryz.sizeOf5
 v5:=Tryz.zeroValue5
 t9:=underlying9
 a9:=Tryz.isAgg9
 z9:=Tryz.sizeOf9
 v9:=Tryz.zeroValue9
 t20:=underlying20
 a20:=Tryz.isAgg20
 z20:=Tryz.sizeOf20
 v20:=Tryz.zeroValue20
 t37:=underlying112
 a37:=Tryz.isAgg112
 z37:=Tryz.sizeOf112
 v37:=Tryz.zeroValue112
 t46:=underlying135
 a46:=Tryz.isAgg135
 z46:=Tryz.sizeOf135
 v46:=Tryz.zeroValue135
 t51:=underlying82
 a51:=Tryz.isAgg82
 z51:=Tryz.sizeOf82
 v51:=Tryz.zeroValue82
 t53:=underlying277
 a53:=Tryz.isAgg277
 z53:=Tryz.sizeOf277
 v53:=Tryz.zeroValue277
 t171:=underlying331
 a171:=Tryz.isAgg331
 z171:=Tryz.sizeOf331
 v171:=Tryz.zeroValue331
 t173:=underlying333
 a173:=Tryz.isAgg333
 z173:=Tryz.sizeOf333
 v173:=Tryz.zeroValue333
 t212:=underlying343
 a212:=Tryz.isAgg343
 z212:=Tryz.sizeOf343
 v212:=Tryz.zeroValue343
 t213:=underlying344
 a213:=Tryz.isAgg344
 z213:=Tryz.sizeOf344
 t232:=underlying347
 a232:=Tryz.isAgg347
 z232:=Tryz.sizeOf347
 v232:=Tryz.zeroValue347
 t233:=underlying311
 a233:=Tryz.isAgg311
 z233:=Tryz.sizeOf311
 v233:=Tryz.zeroValue311
 g17:=by kernel_rfl
 g18:=by kernel_rfl
 g19:=by kernel_rfl
 i0:=by kernel_rfl
 i2:=by kernel_rfl
 i3:=by kernel_rfl
 i4:=by kernel_rfl
 i5:=by kernel_rfl
 i9:=by kernel_rfl
 i20:=by kernel_rfl
 i37:=by kernel_rfl
 i46:=by kernel_rfl
 i51:=by kernel_rfl
 i53:=by kernel_rfl
 i171:=by kernel_rfl
 i173:=by kernel_rfl
 i212:=by kernel_rfl
 i232:=by kernel_rfl
 i233:=by kernel_rfl
 m17:=by kernel_rfl
 m18:=by kernel_rfl
 m19:=by kernel_rfl }
open Go.RowKit Go.Sort Go.Lib in
theorem Tryz.strconv_Itoa (n : Int) (b : -9223372036854775808 ≤ n) (h1 : n ≤ 9223372036854775807) (w : World) (a : Lib.TabIs prog w "internal/strconv.uint64pow10" .u64 Lib.pow10Tab) :
  Calls prog 126 #[.int .i64 n] w fun e w'=>e=.returned (.string ⟨(Lib.itoa n).toArray⟩)/\∃k os,w'=grow (w.drewN k) os:=Any.strconv_Itoa Tryz.aj3 n b h1 w a
def Tryz.afB:Go.Shelf.Ren:=⟨fun | 15=>163 | n=>n,fun | 22=>22 | 3=>3 | 4=>4 | n=>n,fun | n=>n⟩
theorem Tryz.aas:Go.Proofs.Lays2.n15 prog Tryz.afB:={
 mixed:=by kernel_rfl
 f15:=func163.trans (congrArg some (by kernel_rfl))
 t3:=underlying3
 a3:=Tryz.isAgg3
 z3:=Tryz.sizeOf3
 v3:=Tryz.zeroValue3
 t4:=underlying4
 a4:=Tryz.isAgg4
 z4:=Tryz.sizeOf4
 v4:=Tryz.zeroValue4
 t22:=underlying22
 a22:=Tryz.isAgg22
 z22:=Tryz.sizeOf22
 v22:=Tryz.zeroValue22
 i3:=by kernel_rfl }
open Go.RowKit Go.Lib in
theorem Tryz.slices_Clone_int(b off n c:Nat)(d:List Int)(w:World)(f:n<=d.length)(a:n*8<=140737488355328)(g:∀j,j<d.length->w.cell? ⟨b,off+j,none⟩=some (.int .i64 (d.getD j 0))):
  Calls prog 163 #[.slice (some ⟨b,off,none⟩) n c] w fun e w'=>∃v',e=.returned v'/\w'.ownsRow w.heap.size 3 1 v' n ((d.take n).map (Value.int .i64))/\v'≠.slice none 0 0/\Below w.heap.size w w':=Any.slices_Clone_int Tryz.aas b off n c d w f a g
open Go.RowKit Go.Lib in
theorem Tryz.slices_Clone_int_nil(n c:Nat)(w:World):
  Calls prog 163 #[.slice none n c] w fun e w'=>e=.returned (.slice none 0 0)/\w'=w:=Any.slices_Clone_int_nil Tryz.aas n c w
end Go.Proofs
namespace Go.Proofs.YtagkodkijkpemaaGreatDoor
open Lx Go.Proofs.Tryz
open Go.RowKit Tr
def dM (w : World) : Prop := Lib.TabIs prog w "internal/strconv.uint64pow10" .u64 Lib.pow10Tab
def rZ:Nat:=3
theorem IL : prog.globalNamed "internal/strconv.uint64pow10" = some rZ := by kernel_rfl
theorem dM.move{w w':World}(h:dM w)(a:w'.heap[rZ]?=w.heap[rZ]?):dM w':=by
 unfold dM Lib.TabIs World.var? at *;rw[IL]at h|-;simp only[Option.bind_some]at h|-;rw[a];exact h
theorem dM.lt{w:World}(h:dM w):rZ<w.heap.size:=by
 unfold dM Lib.TabIs World.var? at h;rw[IL]at h;simp only[Option.bind_some]at h;rcases pt rZ w.heap.size with a|a
 ·exact a
 ·rw[rt a]at h;cases h
theorem aj4{w:World}(h:dM w)(n:Nat)(a:n<=100000):Calls prog 126 #[.int .i64 (n:Int)] w fun e w'=>e=.returned (.string (Gf n))/\Below w.heap.size w w':=by
 refine(Tryz.strconv_Itoa (n:Int) (by omega) (by omega) w h).mono ?_;rintro e w'⟨rfl,k,b,rfl⟩;refine⟨?_,Lib.below_grow _ _ (zL0) _ _⟩;have:Lib.itoa (n:Int)=Lib.decDigits n:=by unfold Lib.itoa;rw[dt (by omega),im]
 rw[this];rfl
structure Nm(D:Nat->Prop)(w:World)(mb H:Nat)(ta:Option Addr)(nT tc:Nat)(vP vB vK vS:Value)(N:List ByteArray)(G:Nat->Prop)(f:Addr->Int):Prop where
 ex:∃vN,aj w mb #[.slice ta nT tc,vN,vP,vB,vK,vS,.map (some H)] 198/\w.ownsRow 0 9 1 vN N.length (N.map Value.string)/\(∀g,vN.ownBlock=some g->¬D g/\g≠mb/\g≠H)
 pm:tQ G w H f
 nm:¬D mb
 nH:¬D H
 ne:mb≠H
 lt:∀g,D g->g<w.heap.size
section
variable{D G:Nat -> Prop}{w w':World}{mb H:Nat}{ta:Option Addr}{nT tc:Nat}{vP vB vK vS:Value}{N:List ByteArray}{f:Addr -> Int}
theorem Nm.lm(h:Nm D w mb H ta nT tc vP vB vK vS N G f):mb<w.heap.size:=by
 obtain⟨a,h1,-⟩:=h.ex;exact h1.lt
theorem Nm.other(h:Nm D w mb H ta nT tc vP vB vK vS N G f)(b:∀g,g<w.heap.size->¬D g->w'.heap[g]?=w.heap[g]?)(m:w.heap.size<=w'.heap.size):Nm D w' mb H ta nT tc vP vB vK vS N G f:=by
 obtain⟨⟨j,h1,h2,h3⟩,c,i,d,l,k⟩:=h;exact⟨⟨j,(b _ h1.lt i).trans h1,aD h2 fun g a=>b g (h2.lt g a).2 (h3 g a).1,h3⟩,c.move (b _ (dF.lt c) d),i,d,l,fun g a=>dd (k g a) m⟩
theorem Nm.below(h:Nm D w mb H ta nT tc vP vB vK vS N G f)(a:Below w.heap.size w w'):Nm D w' mb H ta nT tc vP vB vK vS N G f/\Kp D w w':=⟨h.other (fun g b _=>a.block g b) a.size,Kp.below a h.lt⟩
theorem Nm.named{nm:ByteArray}{b v3:Value}(h:Nm D w mb H ta nT tc vP vB vK vS N G f)(k:aj w mb #[.slice ta nT tc,b,vP,vB,vK,vS,.map (some H)] 198)(p:Puts 198 9 1 w mb 1 b (N.length+1) ((N++[nm]).map Value.string) #[.slice ta nT tc,b,vP,vB,vK,vS,.map (some H)] v3 w'):Nm D w' mb H ta nT tc vP vB vK vS (N++[nm]) G f/\Kp D w w':=by
 obtain⟨⟨q,h1,h2,h3⟩,d,j,n,i,c⟩:=h;unfold aj at k h1;rw[k]at h1;obtain⟨⟩:=h1;have m:H<w.heap.size:=dF.lt d;have o:b.ownBlock≠some H:=fun e=>(h3 H e).2.2 rfl
 refine⟨⟨⟨v3,p.blk,by rw[cH];exact p.row,fun g a=>?_⟩,d.move (p.keep H m (fun e=>i e.symm) o),j,n,i,fun g a=>dd (c g a) p.size⟩,⟨p.os,p.tape,p.output,p.size,fun g a=>p.keep g (c g a) (fun e=>j (e▸a)) (fun e=>(h3 g e).1 a)⟩⟩;rcases p.at_ g a with l|l
 ·exact h3 g l
 ·exact⟨fun hd=>by have:=c g hd;omega,fun e=>p.ne (e▸a),fun e=>by omega⟩
theorem Nm.anP{j:Addr->Int}(h:Nm D w mb H ta nT tc vP vB vK vS N G f)(n:tQ G w' H j)(a:w.grownBy w' (some H)):Nm D w' mb H ta nT tc vP vB vK vS N G j/\Kp D w w':=by
 obtain⟨⟨k,h1,h2,h3⟩,p,m,d,i,c⟩:=h;have b:∀g,g<w.heap.size->g≠H->w'.heap[g]?=w.heap[g]?:=fun g l o=>a.block g l fun e=>o (ie e)
 exact⟨⟨⟨k,(b _ h1.lt i).trans h1,aD h2 fun g a=>b g (h2.lt g a).2 (h3 g a).2.2,h3⟩,n,m,d,i,fun g hd=>dd (c g hd) a.size⟩,⟨a.os,a.tape,a.output,a.size,fun g hd=>b g (c g hd) fun e=>d (e▸hd)⟩⟩
end
def hNames(nm:ByteArray)(n:Nat):List ByteArray:=(List.range n).map fun k=>Lx.hName nm (k+1)
theorem agH(nm:ByteArray)(n:Nat):hNames nm (n+1)=hNames nm n++[Lx.hName nm (n+1)]:=by unfold hNames;rw[List.range_succ,eJ];rfl
theorem Ri(nm:ByteArray)(n:Nat):(hNames nm n).length=n:=by simp[hNames]
def BU(b:Nat)(L:List AI)(f f':Addr->Int):Prop:=(∀a,(∀p∈L,p.1≠a)->f' a=f a)/\∀k p,L[k]?=some p->f' p.1=((b+k:Nat):Int)
theorem BU.push{b:Nat}{L:List AI}{f j:Addr->Int}(h:BU b L f j){p:AI}(l:((L++[p]).map Prod.fst).Nodup):BU b (L++[p]) f (fun c=>if c=p.1 then ((b+L.length:Nat):Int) else j c):=by
 rw[eJ,ip]at l;have g:∀q∈L,q.1≠p.1:=fun q hq=>l.2.2 _ (ee.2 ⟨q,hq,rfl⟩) _ (by simp)
 refine⟨fun a i=>?_,fun k q hq=>?_⟩
 ·have h1:a≠p.1:=fun e=>i p (by simp) e.symm
  simp only[if_neg h1];exact h.1 a fun q hq=>i q (by simp[hq])
 ·rw[ir]at hq
  split at hq
  ·rename_i m
   simp only[if_neg (g q (List.mem_of_getElem? hq))];exact h.2 k q hq
  ·rename_i m
   obtain⟨d,rfl⟩:=cG.1 hq;simp only[List.length_singleton]at d;have:k=L.length:=by omega
   subst this;simp
namespace Lx
def JD(nx:ByteArray):Nat:=if nx=mE then 1 else 2
def BV(aI:ByteArray)(il:Bool):Nat:=if il=true then 0 else if aI=ku then 4 else 3
theorem WF.at:∀{l:List Tk},WF l->∀{j:Nat}(h:j<l.length),l[j].1≠aW->j+1<l.length
 | [],h,_,_,_=>h.elim
 | [t],h,0,_,hn=>absurd h hn
 | [t],_,j+1,h,_=>by simp at h
 |t::u::r,_,0,_,_=>by simp
 |t::u::r,h,j+1,hj,hn=>by
  have:=WF.at (l:=u::r) h.2 (j:=j) (by simpa using hj) (by simpa using hn);simp at this|-;omega
end Lx
theorem wrap64{n:Nat}(h:n<=9223372036854775807):IntKind.i64.wrap (n:Int)=(n:Int):=by
 simp[IntKind.wrap,IntKind.bits,IntKind.signed];omega
theorem af4(a:ByteArray)(w:World):Calls prog 73 #[.string a] w fun e w'=>e=.returned (.int .i64 (JD a:Int))/\w'=w:=by
 go_enter func73,ntmps73
 by_cases h:a=mE
 ·have b:JD a=1:=dj h
  rw[b];have c:a=⟨#[61]⟩:=h;clear h b;go_wp2_with fail;go_ret;exact⟨rfl,rfl⟩
 ·have b:JD a=2:=dt h
  rw[b];have c:(a.toList == [61])=false:=Ad h;clear h b;go_wp2_with fail;go_ret;exact⟨rfl,rfl⟩
theorem afC(aI:ByteArray)(b:Bool)(w:World):Calls prog 75 #[.string aI,.bool b] w fun e w'=>e=.returned (.int .i64 (BV aI b:Int))/\w'=w:=by
 go_enter func75,ntmps75;cases b with
 |true=>
  have a:BV aI true=0:=rfl;rw[a];clear a;go_wp2_with fail;go_ret;exact⟨rfl,rfl⟩
 |false=>
  by_cases h:aI=ku
  ·have a:BV aI false=4:=by unfold BV;rw[dt (by decide),dj h]
   rw[a];have c:aI=⟨#[37,112,114,101,99]⟩:=h;clear h a;go_wp2_with fail;go_ret;exact⟨rfl,rfl⟩
  ·have a:BV aI false=3:=by unfold BV;rw[dt (by decide),dt h]
   rw[a];have c:(aI.toList == [37,112,114,101,99])=false:=Ad h;clear h a;go_wp2_with fail;go_ret;exact⟨rfl,rfl⟩
theorem Tryz.alE:(prog.info? 190).map (fun i=>(i.zero,i.size,i.bytes))=some (some (.agg #[.int .i64 0,.string ByteArray.empty,.int .i64 0]),3,32):=by kernel_rfl
theorem Tryz.XO:prog.underlying 108=some (.slice 190):=by kernel_rfl
def adb(s:ByteArray)(w:World)(e:Ending)(w':World):Prop:=∃v,e=.returned v/\w'.ownsRow w.heap.size 190 3 v (Lx.wl aW true (Lx.lex s)).length ((Lx.wl aW true (Lx.lex s)).flatMap ug)/\Below w.heap.size w w'
theorem agI(s:ByteArray)(w:World)(hs:s.size<=2000):Calls prog 42 #[.string s] w (adb s w):=by
 obtain⟨i0,hi,S,Z,Q⟩:=ft Tryz.alE;have ab:=Lx.lex_wf s;have hsz:∀t∈Lx.lex s,t.1.size<=2000:=fun t ht=>de (ac7 s t ht) hs
 have al:(Lx.lex s).length<=2001:=by have:=ME s (iT s 0 false);unfold Lx.lex;omega
 have q0:=abT s w hs;unfold adb;generalize Lx.lex s=L at *;go_enter func42,ntmps42;go_wp2_with fail;refine q0.mono ?_;rintro e w1⟨v,rfl,hL,W⟩;obtain⟨va,vc,rfl,-⟩:=aC hL;clear q0;have V:=W.size;have H0:Hid (Lx.wl aW true L=[]++Lx.wl aW true (L.drop 0)):=rfl;go_wp2_with fail
 go_loopg [3,5,6,13] L.length (fun k v vb vl i wr=>∃(j:Nat)(d:List Lx.Wd)(I:ByteArray)(n:Bool),j+k=L.length/\d.length<=j/\vb=.string I/\vl=.bool n/\i=.int .i64 j/\wr.ownsRow w1.heap.size 190 3 v d.length (d.flatMap ug)/\Below w1.heap.size w1 wr/\Hid (Lx.wl aW true L=d++Lx.wl I n (L.drop j)))
 case atStart=>exact⟨0,[],aW,true,by omega,by simp,rfl,rfl,rfl,eQ _ _ _ _,cV _ _,H0⟩
 case round=>
  clear H0;obtain⟨j,d,I,n,y,am,rfl,rfl,rfl,B,u,HD⟩:=hrel;have ad:=u.size
  by_cases hlt:j<L.length
  ·have h1:=own_below hL u
   obtain⟨g,ag,ac,-,hg⟩:=h1.form (by omega);cases ac;have ak:g<w1.heap.size:=(hL.lt g rfl).2;have ht:L[j]?=some L[j]:=cF hlt;obtain⟨e1,e2⟩:=QN L j _ ht;have c1:wr.cell? ⟨g,j*2,none⟩=some (.string L[j].1):=(h1.cellAt (j*2) (by omega)).trans e1;have c2:wr.cell? ⟨g,j*2+1,none⟩=some (.int .i64 (L[j].2:Int)):=(h1.cellAt (j*2+1) (by omega)).trans e2;have r:=hsz L[j] (du hlt);have l:Lx.isName L[j].1=true->j+1<L.length/\(qw L)[(j+1)*2]?=some (.string (Lx.hd (L.drop (j+1)))):=fun x=>by
    have A:=Lx.WF.at ab hlt (BH (by decide) x);have:=(QN L (j+1) _ (cF A)).1;rw[this,eR A];exact⟨A,rfl⟩
   have X:L.drop j=L[j]::L.drop (j+1):=eR hlt;have hd:=HD.out;rw[X,Lx.wl]at hd;generalize L[j]=t at c1 c2 r l hd;clear e1 e2 ht X HD;obtain⟨a,f⟩:=t;simp only at c1 c2 r l hd;generalize Lx.hd (L.drop (j+1))=nx at l hd;obtain⟨c,q⟩:∃c,c=wr.alloc (.cells #[.string a,.int .i64 (f:Int)] 185):=⟨_,rfl⟩;have E:Below wr.heap.size wr c:=by rw[q];exact(cV _ _).alloc (zL0) _
   have zx:c.heap.size=wr.heap.size+1:=by rw[q];simp
   have kS:aj c wr.heap.size #[.string a,.int .i64 (f:Int)] 185:=by rw[q];exact aj.new wr _ 185
   have q1:=Dt a c r;have q2:=Mf a c r;have s0:c.cell? ⟨wr.heap.size,0,none⟩=some (.string a):=kS.cell 0;have s1:c.cell? ⟨wr.heap.size,1,none⟩=some (.int .i64 (f:Int)):=kS.cell 1;have o:Below w1.heap.size w1 c:=u.trans (E.mono ad);have Gy:=own_below B E;obtain⟨O,M,rfl,-⟩:=aC B;go_wp2_with fail;rw[<-q];clear c1 c2 q;refine q1.mono ?_;rintro e w2⟨rfl,J⟩;obtain rfl:=J.symm;cases x:Lx.isName a with
   |true=>
     obtain⟨z,U⟩:=l x;have K:Hid (Lx.wl aW true L=(d++[(JD nx,a,f)])++Lx.wl a false (L.drop (j+1))):=by
      rw[show yS n (a,f)=false from dj x]at hd;show _=_;rw[hd,dq];unfold qX;rw[dj (by exact x)];rfl
     have aa:c.heap[g]?=wr.heap[g]?:=E.block g hg;have cn:c.cell? ⟨g,(j+1)*2,none⟩=some (.string nx):=(cM (w:=wr) aa).trans ((h1.cellAt ((j+1)*2) (by omega)).trans U);have Y:=af4 nx c.drew;obtain⟨N,ah,ai,R⟩:∃N:Nat,IntKind.i64.wrap ((j:Int)+1)=(N:Int)/\N<L.length/\Hid (N=j+1):=⟨j+1,by rw[show ((j:Int)+1)=((j+1:Nat):Int) from by omega];exact wrap64 (by omega),z,rfl⟩;rw[<-R.out]at cn K;clear z;generalize JD nx=ro at Y K;clear U;have Vu:=aD (w':=(c.alloc (.cells #[.int .i64 (ro:Int),.string a,.int .i64 (f:Int)] 190)).drew) (Gy.alloc (.cells #[.int .i64 (ro:Int),.string a,.int .i64 (f:Int)] 190)) fun _ _=>rfl
     have Vv:aj (c.alloc (.cells #[.int .i64 (ro:Int),.string a,.int .i64 (f:Int)] 190)).drew wr.heap.size #[.string a,.int .i64 (f:Int)] 185:=(kS.alloc _).drew;have p:Below w1.heap.size w1 (c.alloc (.cells #[.int .i64 (ro:Int),.string a,.int .i64 (f:Int)] 190)).drew:=(o.alloc o.size _).drew;have F:(Value.slice O d.length M).ownBlock≠some wr.heap.size:=fun e=>by have:=(B.lt _ e).2;omega
     have C:∀k,(Value.slice O d.length M).ownBlock=some k->w1.heap.size<=k:=fun k y=>(B.lt _ y).1
     clear hd l q1 q2;go_wp2_with fail
     go_region_law (first | (refine jW rfl 73 #[.string nx] (by go_simp) Y ?_;rintro e H⟨rfl,rfl⟩;refine⟨_,rfl,?_⟩) | (refine step_append_lies _ rfl (.tmp 22) (.tmp 35) 108 rfl w1.heap.size 190 i0 _ 3 32 Tryz.XO hi S Z Q rfl (by decide) (.slice O d.length M) d.length (d.flatMap ug) (by simp[Act.eval]) Vu ⟨c.heap.size,0,none⟩ 1 1 [.int .i64 (ro:Int),.string a,.int .i64 (f:Int)] (by simp[Act.eval]) rfl (eO (aj.new c _ 190).drew) (by simp[Value.oneCell']) (by decide) (by unfold maxLen;omega) (by omega) (by simp;omega) _ rfl ?_;intro g2 P H m b af T;have Vw:=Vv.grown b (fun e=>F e.symm);have ae:H.cell? ⟨wr.heap.size,0,none⟩=some (.string a):=Vw.cell 0))
     all_goals
      have G:Below w1.heap.size w1 H:=p.grown b p.size (fun k y=>C k y);go_wp2_with fail;go_roundg (L.length-N)
      case measure=>have:=R.out;omega
      case rel=>exact⟨N,d++[(ro,a,f)],a,false,by have:=R.out;omega,by have:=R.out;simp;omega,rfl,rfl,by first | rfl | (rw[R.out];go_num),by simpa [ug]using m,G,K⟩
   |false=>
    go_wp2_with fail;refine q2.mono ?_;rintro e w2⟨rfl,J⟩;obtain rfl:=J.symm;cases htk:Lx.isToken a with
    |true=>
     have K:Hid (Lx.wl aW true L=(d++[(BV I n,a,f)])++Lx.wl a n (L.drop (j+1))):=by
      rw[DJ x]at hd;show _=_;rw[hd,dq];unfold qX;rw[dt (by simp[x]),dj htk];rfl
     have Y:=afC I n c.drew;generalize BV I n=ro at Y K;have Vu:=aD (w':=(c.alloc (.cells #[.int .i64 (ro:Int),.string a,.int .i64 (f:Int)] 190)).drew) (Gy.alloc (.cells #[.int .i64 (ro:Int),.string a,.int .i64 (f:Int)] 190)) fun _ _=>rfl
     have Vv:aj (c.alloc (.cells #[.int .i64 (ro:Int),.string a,.int .i64 (f:Int)] 190)).drew wr.heap.size #[.string a,.int .i64 (f:Int)] 185:=(kS.alloc _).drew;have p:Below w1.heap.size w1 (c.alloc (.cells #[.int .i64 (ro:Int),.string a,.int .i64 (f:Int)] 190)).drew:=(o.alloc o.size _).drew;have F:(Value.slice O d.length M).ownBlock≠some wr.heap.size:=fun e=>by have:=(B.lt _ e).2;omega
     have C:∀k,(Value.slice O d.length M).ownBlock=some k->w1.heap.size<=k:=fun k y=>(B.lt _ y).1
     clear hd l q1 q2;go_wp2_with fail
     go_region_law (first | (refine jW rfl 75 #[.string I,.bool n] (by go_simp) Y ?_;rintro e H⟨rfl,rfl⟩;refine⟨_,rfl,?_⟩) | (refine step_append_lies _ rfl (.tmp 41) (.tmp 50) 108 rfl w1.heap.size 190 i0 _ 3 32 Tryz.XO hi S Z Q rfl (by decide) (.slice O d.length M) d.length (d.flatMap ug) (by simp[Act.eval]) Vu ⟨c.heap.size,0,none⟩ 1 1 [.int .i64 (ro:Int),.string a,.int .i64 (f:Int)] (by simp[Act.eval]) rfl (eO (aj.new c _ 190).drew) (by simp[Value.oneCell']) (by decide) (by unfold maxLen;omega) (by omega) (by simp;omega) _ rfl ?_;intro g2 P H m b af T;have Vw:=Vv.grown b (fun e=>F e.symm);have ae:H.cell? ⟨wr.heap.size,0,none⟩=some (.string a):=Vw.cell 0))
     all_goals
      have G:Below w1.heap.size w1 H:=p.grown b p.size (fun k y=>C k y);go_wp2_with fail;go_roundg (L.length - (j+1))
      case measure=>omega
      case rel=>exact⟨j+1,d++[(ro,a,f)],a,n,by omega,by simp;omega,rfl,rfl,by go_num,by simpa [ug]using m,G,K⟩
    |false=>
     have D:Hid (Lx.wl aW true L=d++Lx.wl a n (L.drop (j+1))):=by
      rw[TV x htk,DJ x,g8]at hd;exact hd
     clear hd l q1 q2;go_wp2_with fail;go_roundg (L.length - (j+1))
     case measure=>omega
     case rel=>exact⟨j+1,d,a,n,by omega,by omega,rfl,rfl,by go_num,Gy,o,D⟩
  ·have:j=L.length:=by omega
   subst this;have hd:=HD.out;rw[io,Lx.wl,eV]at hd;have D:Hid _:=hd;clear hd;go_wp2_with fail;go_ret;exact⟨_,rfl,by rw[D.out];exact jb B V,W.trans (u.mono V)⟩
section
variable{D G:Nat -> Prop}{w w':World}{mb H:Nat}{ta:Option Addr}{nT tc:Nat}{vP vB vK vS:Value}{N:List ByteArray}{f:Addr -> Int}
theorem Nm.call(h:Nm D w mb H ta nT tc vP vB vK vS N G f)(b:nT<=100000)(c:N.length<=100000)(s:ByteArray):
  Calls prog 123 #[.pointer (some ⟨mb,0,none⟩),.string s] w fun e w'=>e=.returned (.int .i64 ((nT+N.length:Nat):Int))/\Nm D w' mb H ta nT tc vP vB vK vS (N++[s]) G f/\Kp D w w':=by
 obtain⟨d,h1,h2,h3⟩:=h.ex;refine(agG h1 h2 (fun e=>(h3 mb e).2.1 rfl) b c s).mono ?_;rintro e w'⟨rfl,g,a⟩;exact⟨rfl,h.named h1 a⟩
theorem Nm.DX(h:Nm D w mb H ta nT tc vP vB vK vS N G f):w.cell? ⟨mb,6,none⟩=some (.map (some H))/\w.cell? ⟨mb,5,none⟩=some vS:=by
 obtain⟨a,h1,-⟩:=h.ex;exact⟨h1.cell 6,h1.cell 5⟩
end
theorem dW{D:Nat->Prop}{w w':World}{g:Nat}{cs:Array Value}{t:Nat}(h:aj w g cs t)(b:Kp D w w')(a:D g):aj w' g cs t:=(b.block g a).trans h
structure anp(D G:Nat->Prop)(w:World)(mb H cb:Nat)(ta:Option Addr)(nT tc:Nat)(vP vB vK vS:Value)(N:List ByteArray)(f:Addr->Int)(k:Nat)(w':World):Prop where
 nm:Nm D w' mb H ta nT tc vP vB vK vS N G f
 ct:aj w' cb #[.int .i64 (k:Int)] 3
 kp:Kp (fun g=>D g/\g≠cb) w w'
theorem afD{D G:Nat->Prop}{w:World}{m H cb xb rb:Nat}{ta:Option Addr}{nT tc:Nat}{vP vB vK J va:Value}{N:List ByteArray}{f:Addr->Int}{k:Nat}{nm:ByteArray}(h:Nm D w m H ta nT tc vP vB vK J N G f)(I:aj w cb #[.int .i64 (k:Int)] 3)(V:aj w xb #[.pointer (some ⟨m,0,none⟩)] 265)(U:aj w rb #[.string nm,va] 254)
  (p:D cb) (u:D xb) (t:D rb) (S:xb≠cb) (Q:rb≠cb) (Y:dM w) (_:D rZ) (O:rZ≠cb) (C:∀b,G b->D b/\b≠cb/\iU w b) {a:Addr} (ha:G a.block) (bT:nT<=100000) (bN:N.length<=100000) (bk:k<=50000) (bs:nm.size<=2000) :
  Calls prog 125 #[.pointer (some a),.pointer (some ⟨cb,0,none⟩),.pointer (some ⟨xb,0,none⟩),.pointer (some ⟨rb,0,none⟩)] w fun e w'=>e=.returned (.tuple #[])/\anp D G w m H cb ta nT tc vP vB vK J (N++[Lx.hName nm (k+1)]) (fun c=>if c=a then ((nT+N.length:Nat):Int) else f c) (k+1) w':=by
 obtain⟨l,ad,E⟩:∃l:Nat,IntKind.i64.wrap ((k:Int)+1)=(l:Int)/\Hid (l=k+1):=⟨k+1,by rw[show ((k:Int)+1)=((k+1:Nat):Int) from by omega];exact wrap64 (by omega),rfl⟩;have c0:w.cell? ⟨cb,0,none⟩=some (.int .i64 (k:Int)):=I.cell 0;have f0:∀i,w.frozen? ⟨cb,i,none⟩=false:=I.frozen;obtain⟨W,r⟩:∃W,W=w.setCell ⟨cb,0,none⟩ (.int .i64 (l:Int)):=⟨_,rfl⟩;have v:∀g,g≠cb->W.heap[g]?=w.heap[g]?:=fun g q=>by rw[r];exact zS0 q
 have zx:W.heap.size=w.heap.size:=by rw[r];simp[World.setCell]
 have n:Kp (fun g=>D g/\g≠cb) w W:=⟨by rw[r];rfl,by rw[r];rfl,by rw[r];rfl,by omega,fun g q=>v g q.2⟩;have nW:Nm D W m H ta nT tc vP vB vK J N G f:=h.other (fun g _ hd=>v g fun e=>hd (e▸p)) (by omega);have kC:aj W cb #[.int .i64 (l:Int)] 3:=by rw[r];exact I.set 0 _
 have A:aj W xb _ 265:=(v xb S).trans V;have kR:aj W rb _ 254:=(v rb Q).trans U;have tW:dM W:=Y.move (v rZ O);have P:∀b,G b->D b/\iU W b:=fun b s=>⟨(C b s).1,(C b s).2.2.move (v b (C b s).2.1)⟩
 have qI:=aj4 (w:=W.drew) (tW.move rfl) l (by have:=E.out;omega);have d0:W.drew.cell? ⟨cb,0,none⟩=some (.int .i64 (l:Int)):=kC.drew.cell 0;have dx:W.drew.cell? ⟨xb,0,none⟩=some (.pointer (some ⟨m,0,none⟩)):=A.drew.cell 0;have dr:W.drew.cell? ⟨rb,0,none⟩=some (.string nm):=kR.drew.cell 0;have y:Nm D W.drew m H ta nT tc vP vB vK J N G f:=nW.other (fun _ _ _=>rfl) (zL0);have d6:=y.DX.1;have L:(Gf l).size<=50002:=de (aar l) (by have:=E.out;omega);have x:Hid (Lx.hName nm (k+1)=nm++⟨#[39]⟩++Gf l):=by rw[E.out];rfl
 generalize Gf l=db at x L qI;have ae:¬9223372036854775807<nm.size+1:=by omega
 have ab:¬9223372036854775807<nm.size+1+db.size:=by omega
 have aa:D xb/\D rb/\D cb:=⟨u,t,p⟩;clear h I V U Y C v nW tW;go_enter func125,ntmps125;go_wp2_with fail;rw[<-r];clear r c0 f0
 go_region_held3 (fun w'=>w'.cell? ⟨cb,0,none⟩=some (.int .i64 (l:Int))/\w'.cell? ⟨xb,0,none⟩=some (.pointer (some ⟨m,0,none⟩))/\w'.cell? ⟨rb,0,none⟩=some (.string nm)/\w'.cell? ⟨m,6,none⟩=some (.map (some H))) (first|go_keep|assumption) (first|(go_at_call 126;refine qI.mono ?_;rintro e z⟨rfl,M⟩;obtain⟨Z,d⟩:=y.below M;have S3:z.cell? ⟨cb,0,none⟩=some (.int .i64 (l:Int))/\z.cell? ⟨xb,0,none⟩=some (.pointer (some ⟨m,0,none⟩))/\z.cell? ⟨rb,0,none⟩=some (.string nm)/\z.cell? ⟨m,6,none⟩=some (.map (some H)):=⟨(dW kC.drew d p).cell 0,(dW A.drew d u).cell 0,(dW kR.drew d t).cell 0,Z.DX.1⟩;have q3:=Z.call bT bN (nm++⟨#[39]⟩++db))|(go_at_call 123;refine q3.mono ?_;rintro e F⟨rfl,K,j⟩;have S4:F.cell? ⟨cb,0,none⟩=some (.int .i64 (l:Int))/\F.cell? ⟨xb,0,none⟩=some (.pointer (some ⟨m,0,none⟩))/\F.cell? ⟨rb,0,none⟩=some (.string nm)/\F.cell? ⟨m,6,none⟩=some (.map (some H)):=⟨(dW (dW kC.drew d p) j p).cell 0,(dW (dW A.drew d u) j u).cell 0,(dW (dW kR.drew d t) j t).cell 0,K.DX.1⟩;obtain⟨B,af,dZ,R,ac⟩:=tQ.put K.pm (fun b s=>((P b s).2.move (w':=W.drew) rfl).move ((j.block b (P b s).1).trans (d.block b (P b s).1))) ha ((nT:Int)+(N.length:Int));obtain⟨X,o⟩:=K.anP dZ R;have S5:B.cell? ⟨cb,0,none⟩=some (.int .i64 (l:Int))/\B.cell? ⟨xb,0,none⟩=some (.pointer (some ⟨m,0,none⟩))/\B.cell? ⟨rb,0,none⟩=some (.string nm)/\B.cell? ⟨m,6,none⟩=some (.map (some H)):=⟨(dW (dW (dW kC.drew d p) j p) o p).cell 0,(dW (dW (dW A.drew d u) j u) o u).cell 0,(dW (dW (dW kR.drew d t) j t) o t).cell 0,X.DX.1⟩))
 go_wp2_with fail
 go_end0
 rw[x.out,<-E.out];have en:((nT+N.length:Nat):Int)=(nT:Int)+(N.length:Int):=by omega
 rw[en];refine⟨rfl,X,dW (dW (dW kC.drew d p) j p) o p,?_⟩;have T:Kp (fun g=>D g/\g≠cb) w W.drew:=⟨n.os,n.tape,n.output,n.size,n.block⟩;exact((T.trans d fun g q=>q.1).trans j fun g q=>q.1).trans o fun g q=>q.1
namespace Lx
theorem alF{A R:List ByteArray}{b:ByteArray}(h:b∉A):fix (A++b::R) b=A.length:=by
 refine ac4 (by simp) fun i a e=>h ?_
 rw[eL a]at e;exact cJ e
def aN(rs:List Rl):List ByteArray:=NT::rs.flatMap jQ
theorem aj5{rs:List Rl}{j:Nat}(a:j<rs.length):aN (rs.take (j+1))=aN (rs.take j)++jQ rs[j]:=by
 unfold aN;rw[fh a,gw,gx];simp
theorem aiQ{rs:List Rl}{j:Nat}(a:j<rs.length):∃R,aN rs=aN (rs.take j)++rs[j].name::R:=by
 refine⟨(List.range (bC 9 rs[j].alts).length).map (fun k=>hName rs[j].name (k+1))++(rs.drop (j+1)).flatMap jQ,?_⟩;have e:rs=rs.take j++rs[j]::rs.drop (j+1):=by rw[<-eR a,mA]
 unfold aN
 conv=>lhs;rw[e]
 rw[gw,eh];simp[jQ]
theorem aj6{b:ByteArray}(h:isName b=true):∀c∈b.data.toList,(small (c.toNat:Int) || digit (c.toNat:Int))=true:=by
 unfold isName isWord FZ at h;simp only[Bool.and_eq_true,List.all_eq_true]at h;exact h.2
theorem RA{b:ByteArray}(h:isName b=true):b.size<=12:=by
 unfold isName isWord at h;simp only[Bool.and_eq_true,decide_eq_true_eq]at h;exact h.1.1.2
theorem Zv{b:ByteArray}(h:isToken b=true):b.size<=12:=by
 unfold isToken isWord at h;simp only[Bool.and_eq_true,decide_eq_true_eq]at h;exact h.1.1.2
theorem aj7{b c:ByteArray}{k:Nat}(h:isName c=true):hName b k≠c:=by
 intro e;have a:(39:UInt8)∈c.data.toList:=by
  rw[<-e];unfold hName TY;simp
 have:=aj6 h 39 a;revert this;decide
theorem abm{c:ByteArray}(h:isName c=true):NT≠c:=by
 intro e;rw[<-e]at h;revert h;decide
theorem Yj{b:ByteArray}(h:isToken b=true):isName b=false:=by
 unfold isToken isName isWord at *;simp only[Bool.and_eq_true,decide_eq_true_eq]at h;have h1:=h.1.2;have:small (gZ b 0)=false:=by
  unfold capital at h1;unfold small;simp only[decide_eq_true_eq]at h1;simp only[decide_eq_false_iff_not];omega
 rw[this];simp
theorem ahD{rs:List Rl}(l:∀r∈rs,isName r.name=true)(g:(rs.map Rl.name).Nodup){j:Nat}(c:j<rs.length):rs[j].name∉aN (rs.take j):=by
 have b:=l rs[j] (du c);intro h;rcases eC.1 h with h|h
 ·exact abm b h.symm
 ·obtain⟨r,d,h⟩:=fW.1 h
  unfold jQ at h;rcases eC.1 h with h|h
  ·obtain⟨i,f,rfl⟩:=lA d
   rw[j']at f;rw[vn]at h;have a:=me.1 g i j (by simp;omega) (by simpa using c) (by omega);simp only[List.getElem_map]at a;exact a h.symm
  ·obtain⟨k,-,e⟩:=ee.1 h
   exact aj7 b e
theorem alG{rs:List Rl}(c:∀r∈rs,isName r.name=true)(b:(rs.map Rl.name).Nodup){j:Nat}(a:j<rs.length):fix (aN rs) rs[j].name=(aN (rs.take j)).length:=by
 obtain⟨R,e⟩:=aiQ a;rw[e];exact alF (ahD c b a)
end Lx
theorem aat(a:Array Value)(w:World):(callFunc 124 a).run prog w=.ok (.enter 124 a) w:=by kernel_rfl
theorem aiR(a:Array Value)(w:World):(callFunc 125 a).run prog w=.ok (.enter 125 a) w:=by kernel_rfl
def hlA(w:World)(v:Value)(l:List Lx.Alt):List AI:=(aL 9 w v l).filter fun p=>Lx.hlp p.2
theorem SH{F:Nat->Prop}{w:World}{v:Value}{l:List Lx.Alt}(h:aO YP 9 F w v l):(hlA w v l).length=(bC 9 l).length:=by
 unfold hlA bC;rw[<-FQ h,xl,dk];rfl
theorem ab8{F:Nat->Prop}{w:World}{v:Value}{l:List Lx.Alt}(h:aO YP 9 F w v l):(hlA w v l).map Prod.snd=bC 9 l:=by
 unfold hlA bC;rw[<-FQ h,xl];rfl
theorem afE{D F G:Nat->Prop}{w:World}{y H cb xb rb:Nat}{ta:Option Addr}{nT tc:Nat}{vP vB vK I c:Value}{N:List ByteArray}{f:Addr->Int}{nm:ByteArray}{l:List Lx.Alt}(h:Nm D w y H ta nT tc vP vB vK I N G f)(hC:aj w cb #[.int .i64 0] 3)(hX:aj w xb #[.pointer (some ⟨y,0,none⟩)] 265)(X:aj w rb #[.string nm,c] 254)
  (dC:D cb) (Q:D xb) (K:D rb) (x:xb≠cb) (u:rb≠cb) (ht:dM w) (P:D rZ) (r:rZ≠cb) (v:∀b,G b->D b/\b≠cb/\iU w b) (W:∀b,F b->D b/\b≠cb) (hA:aO YP 9 F w c l) (V:∀p∈aL 9 w c l,G p.1.block) (nd:((aL 9 w c l).map Prod.fst).Nodup) (bT:nT<=100000) (bN:N.length+(hlA w c l).length<=50000) (bs:nm.size<=2000) :
  Calls prog 118 #[c,.func (.func 124) #[] #[],.func (.func 125) #[] #[.pointer (some ⟨cb,0,none⟩),.pointer (some ⟨xb,0,none⟩),.pointer (some ⟨rb,0,none⟩)]] w fun e w'=>e=.returned (.tuple #[])/\∃f',Nm D w' y H ta nT tc vP vB vK I (N++hNames nm (hlA w c l).length) G f'/\Kp (fun g=>D g/\g≠cb) w w'/\BU (nT+N.length) (hlA w c l) f f':=by
 have A:((hlA w c l).map Prod.fst).Nodup:=nd.sublist (List.filter_sublist.map _);have q:=Sd 9 124 125 #[] #[.pointer (some ⟨cb,0,none⟩),.pointer (some ⟨xb,0,none⟩),.pointer (some ⟨rb,0,none⟩)] Lx.hlp F w (fun L w'=>∃f',Nm D w' y H ta nT tc vP vB vK I (N++hNames nm L.length) G f'/\aj w' cb #[.int .i64 (L.length:Int)] 3/\Kp (fun g=>D g/\g≠cb) w w'/\BU (nT+N.length) L f f') (fun p=>G p.1.block) (hlA w c l) aat aiR
  (fun w' n m z _ J=>QF J)
  (fun w' L n m z C _ J U T d=>by
   obtain⟨f',s,B,i,t⟩:=C;obtain⟨R,d⟩:=d;have M:L.length+1<=(hlA w c l).length:=by rw[d];simp
   have o:((L++[((⟨n,m*4,none⟩:Addr),z)]).map Prod.fst).Nodup:=by
    refine A.sublist (List.Sublist.map _ ?_);rw[d,show L++(((⟨n,m*4,none⟩:Addr),z)::R)=(L++[((⟨n,m*4,none⟩:Addr),z)])++R by simp];exact xz _ _
   refine(afD (a:=⟨n,m*4,none⟩) s B (dW hX i ⟨Q,x⟩) (dW X i ⟨K,u⟩) dC Q K x u (ht.move (i.block _ ⟨P,r⟩)) P r (fun b j=>⟨(v b j).1,(v b j).2.1,(v b j).2.2.move (i.block b ⟨(v b j).1,(v b j).2.1⟩)⟩) T bT (by rw[cH,Ri];omega) (by omega) bs).mono ?_;rintro e aa⟨rfl,O,Z,Y⟩;refine⟨rfl,_,?_,?_,i.trans Y fun g S=>S,t.push o⟩
   ·rw[cH,gd,agH,<-dq]
    have e:((nT+(N++hNames nm L.length).length:Nat):Int)=((nT+N.length+L.length:Nat):Int):=by rw[cH,Ri,Nat.add_assoc]
    rw[e]at O;exact O
   ·rw[cH,gd];exact Z)
  (fun L w' C b j=>by obtain⟨f',s,B,i,t⟩:=C;exact i.block b (W b j))
  c l hA (fun p E=>V p E) w [] ⟨f,by simpa [hNames]using h,hC,Kp.refl _ _,fun a _=>rfl,fun k p E=>by simp at E⟩ ⟨[],by simp[hlA]⟩
 refine q.mono ?_;rintro e w'⟨rfl,f',s,B,i,t⟩;rw[g8]at s t;exact⟨rfl,f',s,i,t⟩
namespace Lx
def jd(T:List ByteArray)(b:ByteArray):Int:=if 0<=bZ T b then bZ T b else 0
theorem aj8(a:ByteArray):jd [a]=fun _=>0:=by
 funext b;unfold jd;have:=aiy [a] b;simp only[List.length_singleton]at this
 split <;> omega
theorem alH{T:List ByteArray}{b:ByteArray}(h:0<=bZ T b)(a:ByteArray):bZ (T++[a]) b=bZ T b:=by
 unfold bZ fix at *;rw[List.findIdx_append]
 split at h
 ·rename_i h1
  rw[dj h1,dj (by rw[cH];omega),dj h1]
 ·omega
theorem aj9{T:List ByteArray}{b:ByteArray}(h:¬0<=bZ T b):(fun c=>if c=b then (T.length:Int) else jd T c)=jd (T++[b]):=by
 funext c
 by_cases hc:c=b
 ·rw[dj hc,hc]
  have f:b∉T:=fun a=>h (jI.2 a)
  have:=amP (l:=T++[b]) (b:=b) (j:=T.length) (by simp) (fun i d e=>f (by rw[eL d]at e;exact cJ e));unfold jd;rw[this,dj (by omega)]
 ·rw[dt hc]
  unfold jd
  by_cases h0:0<=bZ T c
  ·rw[alH h0]
  ·rw[dt h0,dt]
   intro h1;rcases cY.1 (jI.1 h1) with h2|h2
   ·exact h0 (jI.2 h2)
   ·exact hc (cN.1 h2)
theorem aau{a b:ByteArray}{T:List ByteArray}(h:b≠a):jd (a::T) b=0↔¬0<=bZ (a::T) b:=by
 unfold jd;constructor
 ·intro c h1
  rw[dj h1]at c;unfold bZ fix at c;rw[List.findIdx_cons]at c;simp[Ne.symm h]at c
  split at c <;> omega
 ·intro h1
  rw[dt h1]
def fJ(ws:List Wd):List ByteArray:=(ws.filter fun x=>decide (x.1≠1) && decide (x.1≠2)).map fun x=>x.2.1
theorem aiS(a b:List Wd):fJ (a++b)=fJ a++fJ b:=by unfold fJ;rw[ki,eJ]
def ow(ws:List Wd):List ByteArray:=(ws.filter fun x=>decide (x.1≠1) && decide (x.1≠2) && decide (x.1≠4)).map fun x=>x.2.1
theorem MJ(a b:List Wd):ow (a++b)=ow a++ow b:=by unfold ow;rw[ki,eJ]
theorem Ms{α:Type}(f:α->List Wd):∀l:List α,ow (l.flatMap f)=l.flatMap fun a=>ow (f a)
 | []=>rfl
 |a::l=>by rw[eh,MJ,Ms f l,eh]
theorem Zw{l:List ByteArray}{b c:ByteArray}(h:c∈l):c∈jJ l b:=by
 unfold jJ;split
 ·exact h
 ·exact so _ h
theorem Yk:∀(ws:List Wd)(L:List ByteArray),(∀x∈ws,x.1=4->x.2.1∈L)->fZ L (fJ ws)=fZ L (ow ws)
 | [],_,_=>rfl
 |x::ws,L,h=>by
  have f:∀a,(∀c,c∈L->c∈a)->fZ a (fJ ws)=fZ a (ow ws):=fun a k=>Yk ws a fun y l e=>k _ (h y (ei _ l) e)
  by_cases h12:x.1=1\/x.1=2
  ·have d:fJ (x::ws)=fJ ws:=by unfold fJ;rw[re];rcases h12 with h|h <;> simp[h]
   have b:ow (x::ws)=ow ws:=by unfold ow;rw[re];rcases h12 with h|h <;> simp[h]
   rw[d,b];exact f L fun _ h=>h
  ·have i:x.1≠1:=fun e=>h12 (.inl e)
   have g:x.1≠2:=fun e=>h12 (.inr e)
   have d:fJ (x::ws)=x.2.1::fJ ws:=by unfold fJ;rw[tM (by simp[i,g])];rfl
   by_cases h4:x.1=4
   ·have b:ow (x::ws)=ow ws:=by unfold ow;rw[re];simp[h4]
    have j:jJ L x.2.1=L:=dj (jI.2 (h x (ed ..) h4));rw[d,b,show fZ L (x.2.1::fJ ws)=fZ (jJ L x.2.1) (fJ ws) from rfl,j];exact f L fun _ h=>h
   ·have b:ow (x::ws)=x.2.1::ow ws:=by unfold ow;rw[tM (by simp[i,g,h4])];rfl
    rw[d,b];exact f _ fun _ h=>Zw h
theorem YJ:∀(d:Nat)(l:List Alt),ow (eZ d l)=tH d l
 |0,l=>rfl
 |d+1,l=>by
  rw[IE,Ms,ahv];congr 1;funext a;unfold DI;have b:ow (if a.2.1=aW then [] else [(4,a.2.1,a.2.2)])=[]:=by split <;> rfl
  rw[MJ,b,eV,Ms];congr 1;funext x;unfold mQ TW;rw[MJ,YJ d];congr 1
  split
  ·rename_i h;rw[dt (by omega)];rfl
  ·split
   ·rfl
   ·rfl
theorem aiT{g:Gr}(h:∀x∈iF g,x.1=4->x.2.1∈lM g):fZ [jX] (fJ (iF g))=ay g:=by
 have f:iF g=om g++g.rules.flatMap fun r=>(1,r.name,r.place)::eZ 9 r.alts:=rfl
 have j:fJ (om g)=lM g:=by
  unfold fJ lM fD;congr 1;refine td.2 fun x a=>?_
  unfold om at a;obtain⟨m,-,a⟩:=fW.1 a;obtain⟨t,-,rfl⟩:=ee.1 a;rfl
 have k:∀(d l:List ByteArray)(c:ByteArray),c∈l\/c∈d->c∈fZ l d:=by
  intro d
  induction d with
  |nil=>
   intro l c h;rcases h with h|h
   ·exact h
   ·cases h
  |cons b d ih=>
   intro l c h;refine ih (jJ l b) c ?_;rcases h with h|h
   ·exact .inl (Zw h)
   ·rcases eC.1 h with h | h
    ·subst h
     refine .inl ?_;unfold jJ;split
     ·rename_i i;exact jI.1 i
     ·simp
    ·exact .inr h
 rw[f,aiS,YE,j,Yk _ _ fun x a e=>k _ _ _ (.inr (h x (by rw[f];exact ub _ a) e)),Ms];unfold ay;rw[YE];congr 1;congr 1;funext r;rw[show (1,r.name,r.place)::eZ 9 r.alts=[(1,r.name,r.place)]++eZ 9 r.alts from rfl,MJ,YJ];rfl
end Lx
theorem Nm.weak{D D' G:Nat->Prop}{w:World}{c H:Nat}{ta:Option Addr}{nT tc:Nat}{vP vB vK d:Value}{N:List ByteArray}{f:Addr->Int}(h:Nm D w c H ta nT tc vP vB vK d N G f)(b:∀g,D' g->D g):Nm D' w c H ta nT tc vP vB vK d N G f:=by
 obtain⟨⟨i,h1,h2,h3⟩,j,n,k,m,l⟩:=h;exact⟨⟨i,h1,h2,fun g a=>⟨fun hd=>(h3 g a).1 (b g hd),(h3 g a).2⟩⟩,j,fun hd=>n (b _ hd),fun hd=>k (b _ hd),m,fun g a=>l g (b g a)⟩
theorem Nm.new{D G:Nat->Prop}{w:World}{d H:Nat}{ta:Option Addr}{nT tc:Nat}{vP vB vK i:Value}{N:List ByteArray}{f:Addr->Int}(h:Nm D w d H ta nT tc vP vB vK i N G f){w':World}(b:Below w.heap.size w w')(q:w.heap.size<w'.heap.size):Nm (fun g=>D g\/g=w.heap.size) w' d H ta nT tc vP vB vK i N G f/\Kp D w w':=by
 refine⟨?_,Kp.below b h.lt⟩;have lm:=h.lm;have l:H<w.heap.size:=dF.lt h.pm;obtain⟨⟨j,h1,h2,h3⟩,k,p,m,o,n⟩:=h;refine⟨⟨j,(b.block _ lm).trans h1,own_below h2 b,fun g c=>⟨?_,(h3 g c).2⟩⟩,k.move (b.block _ l),?_,?_,o,?_⟩
 ·rintro(a | a)
  ·exact(h3 g c).1 a
  ·have:=(h2.lt g c).2;omega
 ·rintro(a | a)
  ·exact p a
  ·omega
 ·rintro(a | a)
  ·exact m a
  ·omega
 ·rintro g(a | a)
  ·have:=n g a;omega
  ·omega
theorem YK{α:Type}{f:Nat->α->List AI}:∀(l:List α)(j:Nat),((qA f j l).map Prod.fst).Nodup->∀{i k:Nat}{a b:α},i<k->l[i]?=some a->l[k]?=some b->∀{p q:AI},p∈f (j+i) a->q∈f (j+k) b->p.1≠q.1
 | [],j,_,i,k,a,b,_,h,_,_,_,_,_=>by simp at h
 |x::xs,j,hn,i,k,a,b,hik,ha,hb,p,q,hp,n=>by
  rw[qA,eJ,ip]at hn;obtain⟨c,rfl⟩:∃c,k=c+1:=⟨k-1,by omega⟩;have d:xs[c]?=some b:=by simpa using hb
  have g:q∈f (j+1+c) b:=by rw[show j+1+c=j+(c+1) by omega];exact n
  cases i with
  |zero=>
   simp only[List.getElem?_cons_zero,Option.some.injEq]at ha;subst ha;refine hn.2.2 _ (ee.2 ⟨p,hp,rfl⟩) _ (ee.2 ⟨q,?_,rfl⟩);have:∀(l:List α)(j m:Nat),l[m]?=some b->q∈f (j+m) b->q∈qA f j l:=by
    intro l
    induction l with
    |nil=>intro j m h;simp at h
    |cons y l ih=>
     intro j m h n;rw[qA,cY];cases m with
     |zero=>simp only[List.getElem?_cons_zero,Option.some.injEq]at h;subst h;exact .inl n
     |succ m=>exact .inr (ih (j+1) m (by simpa using h) (by rw[show j+1+m=j+(m+1) by omega];exact n))
   exact this xs (j+1) c d g
  |succ i=>
   exact YK xs (j+1) hn.2.1 (i:=i) (k:=c) (by omega) (by simpa using ha) d (by rw[show j+1+i=j+(i+1) by omega];exact hp) g
theorem Rj{α:Type}{f:Nat->α->List AI}{b:α}{q:AI}:∀(l:List α)(j m:Nat),l[m]?=some b->q∈f (j+m) b->q∈qA f j l
 | [],j,m,h,_=>by simp at h
 |y::l,j,m,h,hq=>by
  rw[qA,cY];cases m with
  |zero=>simp only[List.getElem?_cons_zero,Option.some.injEq]at h;subst h;exact .inl hq
  |succ m=>exact .inr (Rj l (j+1) m (by simpa using h) (by rw[show j+1+m=j+(m+1) by omega];exact hq))
theorem Yl{α:Type}{f:Nat->α->List AI}:∀(l:List α)(j m:Nat)(b:α),((qA f j l).map Prod.fst).Nodup->l[m]?=some b->((f (j+m) b).map Prod.fst).Nodup
 | [],j,m,b,_,h=>by simp at h
 |y::l,j,m,b,hn,h=>by
  rw[qA,eJ,ip]at hn;cases m with
  |zero=>simp only[List.getElem?_cons_zero,Option.some.injEq]at h;subst h;exact hn.1
  |succ m=>
   have:=Yl l (j+1) m b hn.2.1 (by simpa using h);rw[show j+1+m=j+(m+1) by omega]at this;exact this
structure xG(nT:Nat)(rs:List Lx.Rl)(j:Nat)(f0 f:ByteArray->Int):Prop where
 rule:∀i(hi:i<rs.length),i<j->f rs[i].name=((nT+(aN (rs.take i)).length:Nat):Int)
 tok:∀c,(∀i(hi:i<rs.length),i<j->rs[i].name≠c)->f c=f0 c
theorem xG.step{nT:Nat}{rs:List Lx.Rl}{j:Nat}{f0 f:ByteArray->Int}(h:xG nT rs j f0 f)(l:(rs.map Lx.Rl.name).Nodup)(g:j<rs.length):xG nT rs (j+1) f0 (fun c=>if c=rs[j].name then ((nT+(aN (rs.take j)).length:Nat):Int) else f c):=by
 refine⟨fun i b d=>?_,fun c k=>?_⟩
 ·by_cases e:i=j
  ·subst e;simp
  ·have a:rs[i].name≠rs[j].name:=by
    have:=me.1 l i j (by simpa using b) (by simpa using g) (by omega);simpa using this
   simp only[if_neg a];exact h.rule i b (by omega)
 ·have a:c≠rs[j].name:=fun e=>k j g (by omega) e.symm
  simp only[if_neg a];exact h.tok c fun i b d=>k i b (by omega)
def xH(w:World)(gR nT:Nat)(rs:List Lx.Rl)(j:Nat)(f:Addr->Int):Prop:=∀i(hi:i<rs.length),i<j->∀k p,(hlA w (cv w ⟨gR,i*2+1,none⟩) rs[i].alts)[k]?=some p->f p.1=((nT+(aN (rs.take i)).length+1+k:Nat):Int)
theorem xH.step{w:World}{a nT:Nat}{rs:List Lx.Rl}{j:Nat}{f d:Addr->Int}(h:xH w a nT rs j f)(l:j<rs.length)(g:((SG w a 0 rs).map Prod.fst).Nodup)(c:BU (nT+(aN (rs.take j)).length+1) (hlA w (cv w ⟨a,j*2+1,none⟩) rs[j].alts) f d):xH w a nT rs (j+1) d:=by
 intro i b o k p hp
 by_cases e:i=j
 ·subst e
  exact c.2 k p hp
 ·rw[c.1 p.1 fun q m n=>?_]
  ·exact h i b (by omega) k p hp
  ·have h1:p∈aL 9 w (cv w ⟨a,i*2+1,none⟩) rs[i].alts:=(hU.1 (cJ hp)).1
   have h2:q∈aL 9 w (cv w ⟨a,j*2+1,none⟩) rs[j].alts:=(hU.1 m).1;exact YK rs 0 g (i:=i) (k:=j) (by omega) (cF b) (cF l) (by rw[fk];exact h1) (by rw[fk];exact h2) n.symm
structure anR(D G:Nat->Prop)(w:World)(mb S H gR:Nat)(ta:Option Addr)(nT tc:Nat)(vP vB vK:Value)(rs:List Lx.Rl)(j:Nat)(f0:ByteArray->Int)(w':World):Prop where
 ex:∃f fS,Nm (fun g=>D g\/g=S) w' mb H ta nT tc vP vB vK (.map (some S)) (aN (rs.take j)) G f/\SMap w' S fS/\xG nT rs j f0 fS/\xH w gR nT rs j f
 kp:Kp D w w'
theorem af5{D F:Nat->Prop}{w:World}{m S H:Nat}{ta:Option Addr}{nT tc:Nat}{vP vB vK vR:Value}{rs:List Lx.Rl}{f0:ByteArray->Int}(Q:aj w m #[.slice ta nT tc,.slice none 0 0,vP,vB,vK,.map (some S),.map (some H)] 198)(hS:SMap w S f0)(hH:tQ (fun b=>F b/\iU w b) w H (fun _=>0))(hR:Tr.dV F w 254 2 cR KR vR rs)(J:∀b,F b->D b)(hD:∀b,D b->b<w.heap.size)(nM:¬D m)(nS:¬D S)(nH:¬D H)(a8:S≠H)(ht:dM w)(dT:D rZ)(nd:(rs.map Lx.Rl.name).Nodup)(hn:∀r∈rs,r.name.size<=2000)(bT:nT<=100000)(bN:(aN rs).length<=50000)(bR:rs.length<=100000):
  Calls prog 84 #[.pointer (some ⟨m,0,none⟩),vR] w fun e w'=>e=.returned (.tuple #[])/\anR D (fun b=>F b/\iU w b) w m S H (aU vR) ta nT tc vP vB vK rs rs.length f0 w':=by
 have Az:lY F w vR rs:=⟨fun b u=>hD b (J b u),dV.weak hR fun A v x hA hk=>eG.weak hA hk⟩;have E:=XM hR;obtain⟨a,c,rfl,hm⟩:=Az.len;have lm:=Q.lt;have lS:=hS.lt;have lH:H<w.heap.size:=dF.lt hH;have AA:m≠S:=fun e=>by
  obtain⟨es,X,h1,-⟩:=hS;unfold aj at Q;rw[e,h1]at Q;cases Q
 have a3:m≠H:=fun e=>by
  obtain⟨es,X,h1,-⟩:=hH;unfold aj at Q;rw[e,h1]at Q;cases Q
 unfold maxLen at hm;obtain⟨W,hW⟩:∃W,W=w.alloc (.cells #[.pointer (some ⟨m,0,none⟩)] 265):=⟨_,rfl⟩;have z:Below w.heap.size w W:=by rw[hW];exact(cV _ _).alloc (zL0) _
 have zx:W.heap.size=w.heap.size+1:=by rw[hW];simp
 have kX:aj W w.heap.size #[.pointer (some ⟨m,0,none⟩)] 265:=by rw[hW];exact aj.new w _ 265
 have nW:Nm (fun g=>D g\/g=S\/g=w.heap.size) W m H ta nT tc vP vB vK (.map (some S)) [] (fun b=>F b/\iU w b) (fun _=>0):=by
  refine⟨⟨.slice none 0 0,(z.block _ lm).trans Q,eQ _ _ _ _,fun g d=>(by cases d)⟩,hH.move (z.block _ lH),?_,?_,a3,?_⟩
  ·rintro(h | h | h)
   ·exact nM h
   ·exact AA h
   ·omega
  ·rintro(h | h | h)
   ·exact nH h
   ·exact a8 h.symm
   ·omega
  ·rintro g(h | h | h)
   ·have:=hD g h;omega
   ·omega
   ·omega
 have q0:=nW.call bT (by simp) NT;have x0:W.cell? ⟨w.heap.size,0,none⟩=some (.pointer (some ⟨m,0,none⟩)):=kX.cell 0;go_enter func84,ntmps84;go_wp2_with fail;rw[<-hW];refine q0.mono ?_;rintro e w1⟨rfl,n1,l⟩;have Gz:aj w1 w.heap.size _ 265:=dW kX l (.inr (.inr rfl));have M:SMap w1 S f0:=(hS.move (z.block _ lS)).move (l.block S (.inr (.inl rfl)));have za:Kp D w w1:=(Kp.below z hD).trans l fun g d=>.inl d
 have ai:xG nT rs 0 f0 f0:=⟨fun i hi h=>absurd h (by omega),fun _ _=>rfl⟩;have aa:xH w (aU (.slice a rs.length c)) nT rs 0 (fun _=>0):=fun i hi h=>absurd h (by omega)
 clear q0 x0 hW z zx kX nW l hS hH;go_wp2_with fail
 go_loopg [11] rs.length (fun k i wr=>∃(j:Nat)(f:Addr->Int)(fS:ByteArray->Int),j+k=rs.length/\i=.int .i64 j/\Nm (fun g=>D g\/g=S\/g=w.heap.size) wr m H ta nT tc vP vB vK (.map (some S)) (aN (rs.take j)) (fun b=>F b/\iU w b) f/\SMap wr S fS/\aj wr w.heap.size #[.pointer (some ⟨m,0,none⟩)] 265/\Kp D w wr/\xG nT rs j f0 fS/\xH w (aU (.slice a rs.length c)) nT rs j f)
 case atStart=>exact⟨0,_,_,by omega,rfl,n1,M,Gz,za,ai,aa⟩
 case round=>
  clear n1 M Gz za ai aa;clear w1;obtain⟨j,f,fS,hk,rfl,nr,ag,an,s,sy,he⟩:=hrel
  by_cases hlt:j<rs.length
  ·obtain⟨G,aF,T,hv,ax,hA,c0,c1⟩:=Az.at hlt
   cases hv;have Vz:aU (.slice (some ⟨G,0,none⟩) rs.length c)=G:=rfl;rw[Vz]at he E;have xV:cv w ⟨G,j*2+1,none⟩=T:=by unfold cv;rw[c1];rfl
   have ae:=s.block G (J G ax);have d0:wr.cell? ⟨G,j*2,none⟩=some (.string rs[j].name):=(cM (w:=w) ae).trans c0;have d1:wr.cell? ⟨G,j*2+1,none⟩=some T:=(cM (w:=w) ae).trans c1;have a4:=hn rs[j] (du hlt);have ad:=sy.step nd hlt;have t:(aN (rs.take (j+1))).length<=50000:=by
    obtain⟨R,e⟩:∃R,aN rs=aN (rs.take (j+1))++R:=by
     refine⟨(rs.drop (j+1)).flatMap jQ,?_⟩;unfold aN
     conv=>lhs;rw[<-mA (j+1) rs]
     rw[gw,gx]
    rw[e,cH]at bN;omega
   have Z:=aj5 hlt;have V:jQ rs[j]=rs[j].name::hNames rs[j].name (hlA w T rs[j].alts).length:=by rw[SH hA];rfl
   rw[Z,V]at t;have Vy:∀p∈aL 9 w T rs[j].alts,F p.1.block/\iU w p.1.block:=fun p hp=>E.1 p (Rj rs 0 j (cF hlt) (by rw[fk,xV];exact hp))
   have Gh:((aL 9 w T rs[j].alts).map Prod.fst).Nodup:=by
    have:=Yl rs 0 j _ E.2 (cF hlt);rw[fk,xV]at this;exact this
   have y:∀f',BU (nT+(aN (rs.take j)).length+1) (hlA w T rs[j].alts) f f'->xH w G nT rs (j+1) f':=fun f' a6=>he.step hlt E.2 (by rw[xV];exact a6)
   have am:Hid (∀f',BU (nT+(aN (rs.take j)).length+1) (hlA w T rs[j].alts) f f'->xH w G nT rs (j+1) f'):=y;have ak:Hid (aN (rs.take (j+1))=aN (rs.take j)++rs[j].name::hNames rs[j].name (hlA w T rs[j].alts).length):=by show _=_;rw[Z,V]
   clear y Z V c0 c1 xV he E sy;have Us:xG nT rs (j+1) f0 fun c=>if c=rs[j].name then ((nT+(aN (rs.take j)).length:Nat):Int) else fS c:=ad
   clear ad;generalize rs[j].alts=al at *;generalize rs[j].name=nm at *;obtain⟨N,hN⟩:∃N,N=aN (rs.take j):=⟨_,rfl⟩;rw[<-hN]at nr t am ak Us;clear hN;obtain⟨O,K,rfl,-⟩:=aO.len hA;obtain⟨I,B⟩:∃I,I=wr.alloc (.cells #[.string nm,.slice O al.length K] 254):=⟨_,rfl⟩;have Y:Below wr.heap.size wr I.drew:=by rw[B];exact((cV _ _).alloc (zL0) _).drew
   have aG:I.heap.size=wr.heap.size+1:=by rw[B];simp
   have kR:aj I wr.heap.size #[.string nm,.slice O al.length K] 254:=by rw[B];exact aj.new wr _ 254
   obtain⟨n1,l⟩:=nr.new Y (by show wr.heap.size<I.heap.size;omega);have ao:=an.lt;have Gz:aj I.drew w.heap.size _ 265:=(Y.block _ ao).trans an;have aw:I.drew.cell? ⟨w.heap.size,0,none⟩=some (.pointer (some ⟨m,0,none⟩)):=Gz.cell 0;have aq:I.drew.cell? ⟨wr.heap.size,0,none⟩=some (.string nm):=kR.drew.cell 0;have a0:=n1.DX.2;have a9:N.length<=50000:=by rw[cH]at t;omega
   have q1:=n1.call bT (by omega) nm;have M:SMap I.drew S fS:=ag.move (Y.block _ (nr.lt S (.inr (.inl rfl))));go_wp2_with fail;rw[<-B];clear B d0 d1
   go_region_held3 (fun w'=>w'.cell? ⟨w.heap.size,0,none⟩=some (.pointer (some ⟨m,0,none⟩))/\w'.cell? ⟨wr.heap.size,0,none⟩=some (.string nm)/\w'.cell? ⟨m,5,none⟩=some (.map (some S))) (first|go_keep|assumption) ((go_at_call 123;refine q1.mono ?_;rintro e w3⟨rfl,n3,n⟩;have S3:w3.cell? ⟨w.heap.size,0,none⟩=some (.pointer (some ⟨m,0,none⟩))/\w3.cell? ⟨wr.heap.size,0,none⟩=some (.string nm)/\w3.cell? ⟨m,5,none⟩=some (.map (some S)):=⟨(dW Gz n (.inl (.inr (.inr rfl)))).cell 0,(dW kR.drew n (.inr rfl)).cell 0,n3.DX.2⟩;obtain⟨o,Ev,AB,q,af⟩:=SMap.put (w:=w3) (M.move (n.block S (.inl (.inr (.inl rfl))))) nm ((nT:Int)+(N.length:Int));have P:=n3.other (w':=o) (fun g d hd=>q.block g d fun e=>hd (.inl (.inr (.inl (ie e))))) (by omega);have Pg:aj o w.heap.size #[.pointer (some ⟨m,0,none⟩)] 265:=(q.block _ (by have:=n3.lt w.heap.size (.inl (.inr (.inr rfl)));exact this) (fun e=>by have:=ie e;omega)).trans (dW Gz n (.inl (.inr (.inr rfl))));have rC:aj o wr.heap.size #[.string nm,.slice O al.length K] 254:=(q.block _ (n3.lt _ (.inr rfl)) (fun e=>by have:=ie e;omega)).trans (dW kR.drew n (.inr rfl));have S4:o.cell? ⟨w.heap.size,0,none⟩=some (.pointer (some ⟨m,0,none⟩))/\o.cell? ⟨wr.heap.size,0,none⟩=some (.string nm)/\o.cell? ⟨m,5,none⟩=some (.map (some S)):=⟨Pg.cell 0,rC.cell 0,P.DX.2⟩))
   clear q1 Ev S3 S4 aw aq a0;have Cy:∀(fn:Fn)(first cap:Array Value)(w:World),(Instr.makeFunc fn first cap).run prog w=.ok (.func fn first cap) w:=fun _ _ _ _=>rfl
   have a2:o.cell? ⟨wr.heap.size,1,none⟩=some (.slice O al.length K):=rC.cell 1;have ap:=rC.lt;have ac:=Pg.lt;have aE:Hid (o.heap.size=w3.heap.size):=af;clear af;obtain⟨L,zy⟩:∃L,L=o.alloc (.cells #[.int .i64 0] 3):=⟨_,rfl⟩;have C:Below o.heap.size o L:=by rw[zy];exact(cV _ _).alloc (zL0) _
   have aA:L.heap.size=o.heap.size+1:=by rw[zy];simp
   have oF:aj L o.heap.size #[.int .i64 0] 3:=by rw[zy];exact aj.new o _ 3
   obtain⟨n5,ab⟩:=P.new C (by omega);have av:S<o.heap.size:=P.lt S (.inl (.inr (.inl rfl)));have ah:Kp D w o:=⟨q.os.trans (n.os.trans (l.os.trans s.os)),q.tape.trans (n.tape.trans (l.tape.trans s.tape)),q.output.trans (n.output.trans (l.output.trans s.output)),de s.size (de l.size (de n.size q.size)),fun g d=>(q.block g (n3.lt g (.inl (.inl d))) (fun e=>nS ((ie e)▸d))).trans ((n.block g (.inl (.inl d))).trans ((l.block g (.inl d)).trans (s.block g d)))⟩;have Gi:Kp D w L:=ah.trans ab fun g d=>.inl (.inl d)
   have Kw:aO YP 9 F L (.slice O al.length K) al:=aO.move (fun b u=>Gi.block b (J b u)) (fun _ h=>h) hA;have Ph:aL 9 L (.slice O al.length K) al=aL 9 w (.slice O al.length K) al:=IY hA fun b u=>Gi.block b (J b u)
   have VA:hlA L (.slice O al.length K) al=hlA w (.slice O al.length K) al:=by unfold hlA;rw[Ph]
   have q5:=afE (cb:=o.heap.size) (xb:=w.heap.size) (rb:=wr.heap.size) n5 oF ((C.block _ ac).trans Pg) ((C.block _ ap).trans rC) (.inr rfl) (.inl (.inl (.inr (.inr rfl)))) (.inl (.inr rfl)) (by omega) (by omega) (ht.move (Gi.block _ dT)) (.inl (.inl (.inl dT))) (by have:=P.lt rZ (.inl (.inl dT));omega) (fun b u=>⟨.inl (.inl (.inl (J b u.1))),by have:=P.lt b (.inl (.inl (J b u.1)));omega,u.2.move (Gi.block b (J b u.1))⟩) (fun b u=>⟨.inl (.inl (.inl (J b u))),by have:=P.lt b (.inl (.inl (J b u)));omega⟩) Kw (fun p hp=>Vy p (by rw[<-Ph];exact hp)) (by rw[Ph];exact Gh) bT (by rw[VA];rw[cH,ev,Ri]at t;rw[cH,gd];omega) a4;rw[VA]at q5;go_wp2_with fail;rw[<-zy];refine q5.mono ?_;rintro e w6⟨rfl,f6,n6,AJ,a5⟩;have Pj:SMap w6 S _:=(AB.move (C.block _ av)).move (AJ.block S ⟨.inl (.inl (.inr (.inl rfl))),by omega⟩);have a7:aj w6 w.heap.size #[.pointer (some ⟨m,0,none⟩)] 265:=(AJ.block _ ⟨.inl (.inl (.inr (.inr rfl))),by omega⟩).trans ((C.block _ ac).trans Pg);have ar:Kp D w w6:=Gi.trans AJ fun g d=>⟨.inl (.inl (.inl d)),by have:=P.lt g (.inl (.inl d));omega⟩
   have a1:xH w G nT rs (j+1) f6:=am.out f6 (by rw[show nT+N.length+1=nT+(N++[nm]).length by rw[cH,gd];omega];exact a5);have U:=n6.weak (D':=fun g=>D g\/g=S\/g=w.heap.size) fun g d=>.inl (.inl d)
   rw[dq,zt,<-ak.out]at U;have en:((nT+N.length:Nat):Int)=(nT:Int)+(N.length:Int):=by omega
   rw[en]at Us;have az:Hid _:=U;clear q5 n6 U P n5 n3 Kw Ph VA ab ah Gi Cy a2;go_wp2_with fail;go_roundg (rs.length - (j+1))
   case measure=>omega
   case rel=>exact⟨j+1,f6,_,by omega,by go_num,az.out,Pj,a7,ar,Us,a1⟩
  ·have:j=rs.length:=by omega
   subst this;go_wp2_with fail
   go_end0
   exact⟨rfl,⟨f,fS,nr.weak (fun g d=>by rcases d with d | d;exact .inl d;exact .inr (.inl d)),ag,sy,he⟩,s⟩
theorem Tryz.alI:(prog.info? 120).map (fun i=>(i.zero,i.size,i.bytes))=some (some (.agg #[.int .i64 0,.slice none 0 0,.int .i64 0]),3,40):=by kernel_rfl
theorem Tryz.afF:prog.underlying 54=some (.slice 120):=by kernel_rfl
theorem ahE{w:World}{v:Value}{r:List Nat}(h:IR 0 w v r)(y:r.length<=1000000):Calls prog 163 #[v] w fun e w'=>∃v',e=.returned v'/\IR w.heap.size w' v' r/\Below w.heap.size w w':=by
 have d:=h;unfold IR at d;rcases d.2 with k|⟨g,b,q,p,x,z,m,o,t,u⟩
 ·obtain⟨a,c,rfl,-⟩:=aC h
  have l:a=none/\r=[]:=by
   have e:=k.1;have A:=k.2;simp only[Value.slice.injEq]at e;refine⟨e.1,gz ?_⟩;omega
  obtain⟨rfl,rfl⟩:=l;refine(Tryz.slices_Clone_int_nil _ _ w).mono ?_;rintro e w'⟨rfl,rfl⟩;exact⟨_,rfl,eQ _ _ _ _,cV _ _⟩
 ·subst p
  refine(Tryz.slices_Clone_int g 0 r.length b (r.map fun(s:Nat)=>(s:Int)) w (by simp) (by omega) (fun j f=>?_)).mono ?_
  ·simp only[List.length_map]at f
   rw[fk,d.cellAt j (by omega)];unfold dK;simp[List.getD,f]
  ·rintro e w'⟨v',rfl,i,-,n⟩
   refine⟨v',rfl,?_,n⟩;unfold IR;have e:(List.take r.length (r.map fun(s:Nat)=>(s:Int))).map (Value.int .i64)=dK r:=by
    rw[zb (by simp),th];rfl
   rw[e]at i;exact i
def PP(D:Nat->Prop)(w:World)(v:Value)(P:List Lx.Pd):Prop:=∃ps:List (Value×Lx.Pd),ps.map Prod.snd=P/\w.ownsRow 0 120 3 v P.length (ps.flatMap uj)/\(∀q,q∈ps->IR 0 w q.1 q.2.right/\∀g,q.1.ownBlock=some g->D g)/\ps.Pairwise fun a b=>∀g,a.1.ownBlock=some g->b.1.ownBlock≠some g
structure Mp(D G:Nat->Prop)(w:World)(mb S H:Nat)(ta:Option Addr)(nT tc:Nat)(vN vB vK:Value)(fS:ByteArray->Int)(fH:Addr->Int)(P:List Lx.Pd):Prop where
 ex:∃vP,aj w mb #[.slice ta nT tc,vN,vP,vB,vK,.map (some S),.map (some H)] 198/\PP (fun g=>D g/\mb<g) w vP P/\∀g,vP.ownBlock=some g->¬D g/\mb<g
 sm:SMap w S fS
 pm:tQ G w H fH
 dS:D S
 dH:D H
 nm:¬D mb
 lt:∀g,D g->g<w.heap.size
 gc:∀b,G b->D b/\iU w b
section
variable{D G:Nat -> Prop}{w:World}{mb S H:Nat}{ta:Option Addr}{nT tc:Nat}{vN vB vK:Value}{fS:ByteArray -> Int}{fH:Addr -> Int}{P:List Lx.Pd}
theorem Mp.lm(h:Mp D G w mb S H ta nT tc vN vB vK fS fH P):mb<w.heap.size:=by
 obtain⟨a,h1,-⟩:=h.ex;exact h1.lt
theorem Mp.below{w':World}(h:Mp D G w mb S H ta nT tc vN vB vK fS fH P)(a:Below w.heap.size w w'):Mp D G w' mb S H ta nT tc vN vB vK fS fH P:=by
 obtain⟨⟨r,h1,⟨v,u,t,l,m⟩,h3⟩,o,s,i,k,n,d,f⟩:=h;exact⟨⟨r,(a.block _ h1.lt).trans h1,⟨v,u,own_below t a,fun q j=>⟨own_below (l q j).1 a,(l q j).2⟩,m⟩,h3⟩,o.move (a.block _ (d _ i)),s.move (a.block _ (d _ k)),i,k,n,fun g p=>dd (d g p) a.size,fun b c=>⟨(f b c).1,(f b c).2.move (a.block b (d b (f b c).1))⟩⟩
end
theorem Mp.push{D G:Nat->Prop}{w w3 n:World}{o:Obj}{f S H:Nat}{ta:Option Addr}{nT tc:Nat}{B vP vB vK u:Value}{N:ByteArray->Int}{M:Addr->Int}{P:List Lx.Pd}{t:List (Value×Lx.Pd)}{left:Nat}{r:List Nat}{K:Int}{j d:Nat}(h:Mp D G w f S H ta nT tc B vB vK N M P)(h1:aj w f #[.slice ta nT tc,B,vP,vB,vK,.map (some S),.map (some H)] 198)(J:t.map Prod.snd=P)(I:w.ownsRow 0 120 3 vP P.length (t.flatMap uj))(l:∀q,q∈t->IR 0 w q.1 q.2.right/\∀g,q.1.ownBlock=some g->D g/\f<g)(Y:t.Pairwise fun a b=>∀g,a.1.ownBlock=some g->b.1.ownBlock≠some g)(h3:∀g,vP.ownBlock=some g->¬D g/\f<g)
  (i:Below w.heap.size w w3) (z:IR w.heap.size w3 u r) (U:n.ownsRow 0 120 3 (.slice (some ⟨j,0,none⟩) (P.length+1) d) (P.length+1) (t.flatMap uj++[.int .i64 (left:Int),u,.int .i64 K])) (m:(w3.alloc o).grownBy n vP.ownBlock) (s:vP.ownBlock=some j\/w3.heap.size<=j) (C:K=o9 nT r) :
  ∃D',(∀g,D g->D' g)/\Mp D' G (n.setCell ⟨f,2,none⟩ (.slice (some ⟨j,0,none⟩) (P.length+1) d)) f S H ta nT tc B vB vK N M (P++[bS nT left r])/\Kp D w (n.setCell ⟨f,2,none⟩ (.slice (some ⟨j,0,none⟩) (P.length+1) d)):=by
 have O:=h1.lt;have aa:=i.size;have ab:w3.heap.size+1<=n.heap.size:=by have:=m.size;simpa using this
 have F:f<j:=by
  rcases s with e|e
  ·exact(h3 j e).2
  ·omega
 have bk:∀g,g<w3.heap.size->g≠f->vP.ownBlock≠some g->(n.setCell ⟨f,2,none⟩ (.slice (some ⟨j,0,none⟩) (P.length+1) d)).heap[g]?=w3.heap[g]?:=fun g hl X W=>by
  rw[zS0 X,m.block g (by simp;omega) (fun e=>W e.symm),dg _ _ _ hl]
 have y:∀g,D g->(n.setCell ⟨f,2,none⟩ (.slice (some ⟨j,0,none⟩) (P.length+1) d)).heap[g]?=w.heap[g]?:=fun g hd=>by
  have:=h.lt g hd;rw[bk g (by omega) (fun e=>h.nm (e▸hd)) (fun e=>(h3 g e).1 hd),i.block g this]
 have k:∀g,u.ownBlock=some g->w.heap.size<=g/\g<w3.heap.size:=fun g m=>z.lt g m
 have v:∀g,vP.ownBlock=some g->g<w.heap.size:=fun g m=>(I.lt g m).2
 have T:∀g,u.ownBlock=some g->(n.setCell ⟨f,2,none⟩ (.slice (some ⟨j,0,none⟩) (P.length+1) d)).heap[g]?=w3.heap[g]?:=fun g Z=>by
  have V:=k g Z;exact bk g V.2 (by omega) (fun e=>by have:=v g e;omega)
 have hsz:w.heap.size<=(n.setCell ⟨f,2,none⟩ (.slice (some ⟨j,0,none⟩) (P.length+1) d)).heap.size:=by simp[World.setCell];omega
 have R:aj n f #[.slice ta nT tc,B,vP,vB,vK,.map (some S),.map (some H)] 198:=by
  unfold aj;rw[m.block f (by simp;omega) (fun e=>tr _ (h3 f e.symm).2),dg _ _ _ (by omega),i.block f O];exact h1
 refine⟨fun g=>D g\/u.ownBlock=some g,fun g hd=>.inl hd,⟨⟨_,R.set 2 _,⟨t++[(u,bS nT left r)],?_,?_,?_,?_⟩,?_⟩,h.sm.move (y S h.dS),h.pm.move (y H h.dH),.inl h.dS,.inl h.dH,?_,?_,fun b x=>⟨.inl (h.gc b x).1,(h.gc b x).2.move (y b (h.gc b x).1)⟩⟩,⟨m.os.trans i.os,m.tape.trans i.tape,m.output.trans i.output,hsz,y⟩⟩
 ·rw[eJ,J];rfl
 ·rw[gw,cH]
  refine aD (by simpa [uj,bS,C]using U) fun g c=>zS0 (fun e=>?_)
  have L:j=g:=by simpa [Value.ownBlock]using c
  have e2:g=f:=e;omega
 ·intro q p
  rcases cY.1 p with p|p
  ·exact⟨aD (l q p).1 fun g c=>y g ((l q p).2 g c).1,fun g c=>⟨.inl ((l q p).2 g c).1,((l q p).2 g c).2⟩⟩
  ·rw[cN.1 p]
   exact⟨jb (aD z fun g c=>T g c) (ff _),fun g c=>⟨.inr c,by have:=k g c;omega⟩⟩
 ·rw[pj]
  refine⟨Y,mC _ _,fun a Q b x g E A=>?_⟩;rw[cN.1 x]at A;have:=h.lt g ((l a Q).2 g E).1;have:=k g A;omega
 ·intro g c
  have L:j=g:=by simpa [Value.ownBlock]using c
  subst L;refine⟨?_,F⟩;rintro(hd | hd)
  ·rcases s with e | e
   ·exact(h3 _ e).1 hd
   ·have:=h.lt _ hd;omega
  ·have:=k _ hd
   rcases s with e|e
   ·have:=v _ e;omega
   ·omega
 ·rintro(hd | hd)
  ·exact h.nm hd
  ·have:=k _ hd;omega
 ·rintro g(hd | hd)
  ·have:=h.lt g hd;omega
  ·have:=k g hd;simp[World.setCell];omega
theorem Ac{D G:Nat->Prop}{w:World}{b S H:Nat}{ta:Option Addr}{nT tc:Nat}{W vB vK:Value}{fS:ByteArray->Int}{V:Addr->Int}{P:List Lx.Pd}(h:Mp D G w b S H ta nT tc W vB vK fS V P)(left:Nat)(vR:Value)(r:List Nat)(x:IR 0 w vR r)(K:r.length<=1000000)(hP:P.length<=1000000000000):
  Calls prog 127 #[.pointer (some ⟨b,0,none⟩),.int .i64 (left:Int),vR] w fun e w'=>e=.returned (.tuple #[])/\∃D',(∀g,D g->D' g)/\Mp D' G w' b S H ta nT tc W vB vK fS V (P++[bS nT left r])/\Kp D w w':=by
 obtain⟨i0,L,C,M,y⟩:=ft Tryz.alI;obtain⟨vP,h1,sF,h3⟩:=h.ex;obtain⟨ps,N,j,R,VB⟩:=sF;obtain⟨l,q,rfl,z⟩:=aC j;obtain⟨ra,rc,rfl,ac⟩:=aC x;have Kv:=h1.lt;have m0:w.cell? ⟨b,0,none⟩=some (.slice ta nT tc):=h1.cell 0;go_enter func127,ntmps127;go_wp2_with fail
 go_loopg [6,11] r.length (fun k p i wr=>∃(m:Nat)(d:Int),m+k=r.length/\p=.int .i64 d/\i=.int .i64 m/\wr=w/\Hid (d=o9 nT (r.take m)))
 case atStart=>exact⟨0,-1,by omega,rfl,rfl,rfl,rfl⟩
 case round=>
  obtain⟨m,d,aa,rfl,rfl,rfl,I⟩:=hrel
  by_cases hlt:m<r.length
  ·obtain⟨gR,cR,hv,lR,Q⟩:=x.at hlt
   cases hv;have a:=agF (n:=nT) hlt;rw[<-I.out]at a;generalize r[m]=s at Q a
   by_cases hst:s<nT
   ·have o:Hid ((s:Int)=o9 nT (r.take (m+1))):=by rw[dj hst]at a;exact a.symm
    clear a;go_wp2_with fail;go_roundg (r.length - (m+1))
    case measure=>omega
    case rel=>exact⟨m+1,_,by omega,rfl,by go_num,rfl,o⟩
   ·have o:Hid (d=o9 nT (r.take (m+1))):=by rw[dt hst]at a;exact a.symm
    clear a;go_wp2_with fail;go_roundg (r.length - (m+1))
    case measure=>omega
    case rel=>exact⟨m+1,_,by omega,rfl,by go_num,rfl,o⟩
  ·have:m=r.length:=by omega
   subst this;have o:Hid (d=o9 nT r):=by have:=I.out;rw[fR]at this;exact this
   clear I;have U:IR 0 wr.drew (.slice ra r.length rc) r:=aD x fun _ _=>rfl
   have qC:=ahE U K;have m2:wr.drew.cell? ⟨b,2,none⟩=some (.slice l P.length q):=h1.drew.cell 2;have F:(Value.slice l P.length q).ownBlock≠some b:=fun e=>tr _ (h3 b e).2
   unfold maxLen at z;go_wp2_with fail
   go_region_law (first|(refine jW rfl 163 #[.slice ra r.length rc] (by go_simp) qC ?_;rintro e u⟨u3,rfl,f,c⟩;have v:aj u b _ 198:=(c.block b Kv).trans h1;obtain⟨E,A,rfl,-⟩:=aC f;have Y:=own_below (aD (w':=wr.drew) j fun _ _=>rfl) c;have oA:=Y.alloc (.cells #[.int .i64 (left:Int),.slice E r.length A,.int .i64 d] 120);have e3:u.cell? ⟨b,2,none⟩=some (.slice l P.length q):=v.cell 2;have ab:=v.lt;refine⟨_,rfl,?_⟩)|(refine step_append_lies _ rfl (.tmp 30) (.tmp 36) 54 rfl 0 120 i0 _ 3 40 Tryz.afF L C M y rfl (by decide) (.slice l P.length q) P.length (ps.flatMap uj) (by simp[Act.eval]) oA ⟨u.heap.size,0,none⟩ 1 1 [.int .i64 (left:Int),.slice E r.length A,.int .i64 d] (by simp[Act.eval]) rfl (eO (aj.new u _ 120)) (by simp[Value.oneCell']) (by decide) (by unfold maxLen;omega) (by omega) (by simp) _ rfl ?_;intro g4 T Z X B Ef Gd;have J:=(v.alloc (.cells #[.int .i64 (left:Int),.slice E r.length A,.int .i64 d] 120)).grown B (fun e=>F e.symm);have O:Z.cell? ⟨b,2,none⟩=some (.slice l P.length q):=J.cell 2;have f4:∀i,Z.frozen? ⟨b,i,none⟩=false:=J.frozen))
   all_goals
    have t:=Mp.push h h1 N j R VB h3 (((cV wr.heap.size wr).drew).trans c) f X B (Ef.imp id fun e=>by rw[e];simp) o.out;clear J O f4 B X Ef Gd Y oA e3 c v f qC m2 U;go_wp2_with fail
    go_end0
    exact⟨rfl,t⟩
theorem Mh{sub:Value->List Lx.Alt->List AI}{w:World}{g:Nat}{p:AI}:∀(its:List Lx.It)(i:Nat),p∈eP sub w g i its↔∃m x,its[m]?=some x/\(p=((⟨g,(i+m)*4,none⟩:Addr),x)\/p∈sub (cv w ⟨g,(i+m)*4+3,none⟩) x.alts)
 | [],i=>by simp[eP]
 |x::xs,i=>by
  rw[eP,eC,cY,Mh xs (i+1)];constructor
  ·rintro(h | h | ⟨m,y,h1,h2⟩)
   ·exact⟨0,x,rfl,.inl h⟩
   ·exact⟨0,x,rfl,.inr h⟩
   ·exact⟨m+1,y,by simpa using h1,by rw[show i+(m+1)=i+1+m by omega];exact h2⟩
  ·rintro⟨m,y,h1,h2⟩
   cases m with
   |zero=>
    simp only[List.getElem?_cons_zero,Option.some.injEq]at h1;subst h1;rcases h2 with h2|h2
    ·exact .inl h2
    ·exact .inr (.inl h2)
   |succ m=>exact .inr (.inr ⟨m,y,by simpa using h1,by rw[show i+1+m=i+(m+1) by omega];exact h2⟩)
theorem Mt{sub:Value->List Lx.Alt->List AI}{w:World}{g:Nat}{p:AI}:∀(l:List Lx.Alt)(j:Nat),p∈dU sub w g j l↔∃k a,l[k]?=some a/\p∈eP sub w (aU (cv w ⟨g,(j+k)*2,none⟩)) 0 a.1
 | [],j=>by simp[dU]
 |a::l,j=>by
  rw[dU,cY,Mt l (j+1)];constructor
  ·rintro(h | ⟨k,b,h1,h2⟩)
   ·exact⟨0,a,rfl,h⟩
   ·exact⟨k+1,b,by simpa using h1,by rw[show j+(k+1)=j+1+k by omega];exact h2⟩
  ·rintro⟨k,b,h1,h2⟩
   cases k with
   |zero=>
    simp only[List.getElem?_cons_zero,Option.some.injEq]at h1;subst h1;exact .inl h2
   |succ k=>exact .inr ⟨k,b,by simpa using h1,by rw[show j+1+k=j+(k+1) by omega];exact h2⟩
theorem ab9{d:Nat}{F:Nat->Prop}{w:World}{v:Value}{l:List Lx.Alt}(h:aO YP (d+1) F w v l){k:Nat}(a:k<l.length):∃vi,w.cell? ⟨aU v,k*2,none⟩=some vi/\jH YP d F w vi l[k].1/\∀m(hm:m<l[k].1.length),((⟨aU vi,m*4,none⟩:Addr),l[k].1[m])∈aL (d+1) w v l:=by
 obtain⟨-,vi,b,c⟩:=Fu h a;refine⟨vi,b,c,fun m hm=>?_⟩;show _∈dU (aL d w) w (aU v) 0 l;rw[Mt];refine⟨k,l[k],cF a,?_⟩;have f:cv w ⟨aU v,(0+k)*2,none⟩=vi:=by unfold cv;rw[fk,b];rfl
 rw[f,Mh];exact⟨m,l[k].1[m],cF hm,.inl (by rw[fk])⟩
theorem acd:∀{d:Nat}{F:Nat->Prop}{w:World}{v:Value}{l:List Lx.Alt},aO YP d F w v l->∀{p:AI},p∈aL d w v l->∃n m d' va,p.1=⟨n,m*4,none⟩/\F n/\pU w n m p.2/\w.cell? ⟨n,m*4+3,none⟩=some va/\aO YP d' F w va p.2.alts/\∀q∈aL d' w va p.2.alts,q∈aL d w v l
 |0,_,_,_,_,_,p,hp=>by cases hp
 |d+1,F,w,v,l,h,p,hp=>by
  have o:p∈dU (aL d w) w (aU v) 0 l:=hp;rw[Mt]at o;obtain⟨k,a,u,i⟩:=o;obtain⟨C,rfl⟩:=cG.1 u;obtain⟨-,s,D,N⟩:=Fu h C;have t:cv w ⟨aU v,(0+k)*2,none⟩=s:=by unfold cv;rw[fk,D];rfl
  rw[t,Mh]at i;obtain⟨m,x,B,c⟩:=i;obtain⟨J,rfl⟩:=cG.1 B;have f:=N;unfold jH wV at f;obtain⟨n,O,va,H,K,A,b⟩:=Seq.at f (fun _=>rfl) J;have z:aU s=n:=by rw[H];rfl
  have j:w.cell? ⟨n,m*4+3,none⟩=some va:=b 3 (by decide);have y:cv w ⟨aU s,(0+m)*4+3,none⟩=va:=by unfold cv;rw[fk,z,j];rfl
  have g:∀q,q∈aL d w va l[k].1[m].alts->q∈aL (d+1) w v l:=by
   intro q r;show _∈dU (aL d w) w (aU v) 0 l;rw[Mt];refine⟨k,l[k],u,?_⟩;rw[t,Mh];exact⟨m,_,B,.inr (by rw[y];exact r)⟩
  rw[y]at c;rcases c with rfl|c
  ·exact⟨n,m,d,va,by rw[z,fk],K,⟨b 0 (by decide),b 1 (by decide),b 2 (by decide)⟩,j,A,g⟩
  ·obtain⟨E,L,d',G,h1,h2,h3,h4,I,M⟩:=acd A c
   exact⟨E,L,d',G,h1,h2,h3,h4,I,fun q r=>g q (M q r)⟩
def Al(fS:ByteArray->Int)(fH:Addr->Int)(p:AI):Int:=if Lx.hlp p.2=true then fH p.1 else fS p.2.name
section
variable{D G:Nat -> Prop}{w:World}{mb S H:Nat}{ta:Option Addr}{nT tc:Nat}{vN vB vK:Value}{fS:ByteArray -> Int}{fH:Addr -> Int}{P:List Lx.Pd}
theorem Mp.cells(h:Mp D G w mb S H ta nT tc vN vB vK fS fH P):w.cell? ⟨mb,0,none⟩=some (.slice ta nT tc)/\w.cell? ⟨mb,5,none⟩=some (.map (some S))/\w.cell? ⟨mb,6,none⟩=some (.map (some H)):=by
 obtain⟨a,h1,-⟩:=h.ex;exact⟨h1.cell 0,h1.cell 5,h1.cell 6⟩
end
theorem pU.move{w w':World}{n m:Nat}{b:Lx.It}(h:pU w n m b)(a:w'.heap[n]?=w.heap[n]?):pU w' n m b:=⟨(cM (w:=w) a).trans h.kind,(cM (w:=w) a).trans h.name,(cM (w:=w) a).trans h.mark⟩
theorem ahF{D G:Nat->Prop}{w:World}{k S H:Nat}{ta:Option Addr}{nT tc:Nat}{u vB vK:Value}{p:ByteArray->Int}{t:Addr->Int}{P:List Lx.Pd}(h:Mp D G w k S H ta nT tc u vB vK p t P){n m:Nat}{d:Lx.It}(j:pU w n m d)(x:G n)(s:Nat)(c:Al p t (⟨n,m*4,none⟩,d)=(s:Int)):
  Calls prog 164 #[.pointer (some ⟨k,0,none⟩),.pointer (some ⟨n,m*4,none⟩)] w fun e w'=>e=.returned (.int .i64 (s:Int))/\Below w.heap.size w w':=by
 have i:=QF j;obtain⟨v,r,z⟩:=h.cells;have f:=j.name;unfold Al at c;go_enter func164,ntmps164;go_wp2_with fail;refine i.mono ?_;rintro e w1⟨rfl,q⟩;obtain rfl:=q.symm;cases hh:Lx.hlp d with
 |true=>
  rw[dj hh]at c;have l:=tQ.look h.pm (fun b y=>(h.gc b y).2) (a:=⟨n,m*4,none⟩) x;rw[c]at l;clear i hh c;go_wp2_with fail;go_ret;exact⟨rfl,cV _ _⟩
 |false=>
  rw[dt (by rw[hh];decide)]at c;have l:=SMap.look (w:=w.drew) (h.sm.move rfl) d.name;have g:p d.name=(s:Int):=c;rw[g]at l;have A:w.drew.cell? ⟨k,5,none⟩=some (.map (some S)):=r;have B:w.drew.cell? ⟨n,m*4+1,none⟩=some (.string d.name):=f;have o:Below w.heap.size w w.drew:=(cV _ _).drew;clear i hh c g v r z f j;go_wp2_with fail
  go_region
  all_goals
   go_wp2_with fail;go_ret;exact⟨rfl,o⟩
theorem Zx{D F G:Nat->Prop}{w:World}{mb S H:Nat}{ta:Option Addr}{nT tc:Nat}{vN vB vK:Value}{fS:ByteArray->Int}{Y:Addr->Int}{P:List Lx.Pd}(h:Mp D G w mb S H ta nT tc vN vB vK fS Y P){d:Nat}(its:List Lx.It)(t:Value)(hi:jH YP d F w t its)(hF:∀b,F b->D b)(r:List Nat)(M:r.length=its.length)(X:∀k(hk:k<its.length),G (aU t)/\Al fS Y (⟨aU t,k*4,none⟩,its[k])=(r[k]:Int))(aa:its.length<=10000)(prec:ByteArray):
  Calls prog 128 #[.pointer (some ⟨mb,0,none⟩),.agg #[t,.string prec]] w fun e w'=>∃u,e=.returned u/\IR w.heap.size w' u r/\Below w.heap.size w w':=by
 obtain⟨i0,N,K,T,E⟩:=ft Tryz.info3;obtain⟨C,R,rfl,O⟩:∃a c,t=.slice a its.length c/\its.length<=maxLen:=Seq.len (show Tr.Seq F w YP.eI YP.sI YP.cI (fun Z it=>aO YP d F w Z it.alts) t its from hi);unfold maxLen at O;go_enter func128,ntmps128;go_wp2_with fail;obtain⟨W,x⟩:∃W,W=w.alloc (.cells #[.slice C its.length R,.string prec] 269):=⟨_,rfl⟩;rw[<-x];have hB:Below w.heap.size w W:=by rw[x];exact(cV _ _).alloc (zL0) _
 have ac:W.heap.size=w.heap.size+1:=by rw[x];simp
 have kA:aj W w.heap.size #[.slice C its.length R,.string prec] 269:=by rw[x];exact aj.new w _ 269
 clear x
 go_loopg [5,10] its.length (fun k vo i wr=>∃(j:Nat)(f:List Nat),j+k=its.length/\i=.int .i64 j/\IR W.heap.size wr vo f/\Below W.heap.size W wr/\Hid (f=r.take j))
 case atStart=>exact⟨0,[],by omega,rfl,eQ _ _ _ _,cV _ _,rfl⟩
 case round=>
  revert wr;intro v hrel;obtain⟨j,f,hk,rfl,A,m,z⟩:=hrel;have ad:f.length<=10000:=by rw[z.out,j'];omega
  obtain⟨oa,oc,rfl,Ku⟩:=aC A;have hsz:=m.size;have p:Below w.heap.size w v:=hB.trans (m.mono (by omega));have CG:aj v w.heap.size _ 269:=(m.block _ (by omega)).trans kA;have a0:v.cell? ⟨w.heap.size,0,none⟩=some (.slice C its.length R):=CG.cell 0
  by_cases hlt:j<its.length
  ·have hz:=h.below p
   have o:jH YP d F v _ its:=jH.move (fun b hb=>p.block b (h.lt b (hF b hb))) (fun _ h=>h) hi;unfold jH wV at o;obtain⟨n,Ec,Z,hv,hn,ae,l⟩:=Seq.at o (fun _=>rfl) hlt;cases hv;obtain⟨I,hs⟩:=X j hlt;have y:pU v n j its[j]:=⟨l 0 (by decide),l 1 (by decide),l 2 (by decide)⟩;have B:=ahF hz y I _ hs;have kZ:Hid (r.take (j+1)=f++[r[j]]):=by show _=_;rw[z.out,fh (by omega)]
   generalize r[j]=s at B kZ;clear hs l o y;go_wp2_with fail;refine B.mono ?_;rintro e w1⟨rfl,q⟩;have U:=own_below A q;have ab:=q.size;have J:Below W.heap.size W w1:=m.trans (q.mono hsz);have oA:=U.alloc (.cells #[.int .i64 (s:Int)] 3);clear B
   go_wp2_with (at_builtin;go_loud (refine js _ rfl _ _ 22 rfl W.heap.size 3 i0 _ 1 8 underlying22 N K T E rfl (by decide) (.slice oa f.length oc) _ _ rfl oA ⟨_,0,none⟩ 1 1 [.int .i64 (s:Int)] rfl rfl (eO (aj.new _ _ 3)) (by simp[Value.oneCell']) (by unfold maxLen;omega) (by omega) (by simp;omega) ?_;intro v5 w5 g aX _ jc;obtain⟨mG,mH,V,-⟩:=aC g;subst V))
   have L:Below W.heap.size W w5:=(J.alloc (by omega) _).grown aX (by simp;omega) (fun k hk=>(A.lt k hk).1);go_roundg (its.length - (j+1))
   case measure=>omega
   case rel=>exact⟨j+1,f++[s],by omega,by go_num,by unfold IR;rw[cH,Fv];exact g,L,kZ.out.symm⟩
  ·have:j=its.length:=by omega
   subst this;have Q:Hid (f=r):=by have:=z.out;rw[<-M,fR]at this;exact this
   clear z;go_wp2_with fail;go_ret;exact⟨_,rfl,by rw[<-Q.out];exact jb A (by omega),p⟩
theorem akb{n:Nat}(r:1<=n)(o:n<=1000000)(w:World):Calls prog 180 #[.slice none 0 0,.int .i64 (n:Int)] w fun e w'=>∃v,e=.returned v/\w'.ownsRow w.heap.size 3 1 v 0 []/\Below w.heap.size w w':=by
 obtain⟨k,j,g,m,f⟩:=ft Tryz.info3;have a:=Lib.run_append_nil_zeros (P:=prog) w 22 3 22 3 k (.int .i64 0) .i64 .i64 underlying22 (by kernel_rfl) j g n (by omega) (by omega) (by omega) (by rw[f];omega);generalize hcap:grownCap w n 0 3=cap2 at a;have c:n<=cap2:=by rw[<-hcap];exact grownCap_ge w _ 0 3
 have b:cap2<=maxLen:=by rw[<-hcap];exact vu w _ 0 3 (by unfold maxLen;omega)
 generalize hZ:(Builtin.zeroCells (Value.int .i64 0).cells n++Builtin.zeroCells (Value.int .i64 0).cells (cap2-n))=Z at a;have l:Z.size=cap2:=by rw[<-hZ];simp[size_zeroCells,Value.cells];omega
 clear hcap hZ;have q:¬(n:Int)<0:=by omega
 have p:0<(n:Int):=by omega
 go_enter func180,ntmps180
 go_wp2_with (at_builtin;refine Lib.wpList_append_run _ rfl _ _ _ _ rfl _ _ rfl rfl _ _ a ?_)
 go_ret;have i:aj (w.drew.alloc (.cells Z 3)) w.heap.size Z 3:=aj.new w.drew Z 3;have d:Below w.heap.size w (w.drew.alloc (.cells Z 3)):=((cV _ _).drew).alloc (zL0) _;refine⟨_,rfl,⟨rfl,.inr ⟨w.heap.size,cap2,Z,rfl,zL0,i,ff _,b,by omega,by simp⟩⟩,d⟩
theorem agJ{P:Program}{t e:TypeId}{i:TypeInfo}(d:P.underlying t=some (.slice e))(c:P.info? e=some i)(ty:TypeId)(base:Option Addr)(n a:Nat)(b:n<=a)(w:World):(Builtin.append_ #[t,t] ty #[.slice base n a,.slice none 0 0]).run P w=.ok (.slice base n a) w:=by
 cases base <;> simp[Builtin.append_,run_underlying d,sizeOf,typeInfo,c,Builtin.lenOf,Builtin.firstCells,storeCells,b]
theorem ace{w:World}{B e z:Nat}{a:Option Addr}{n c:Nat}{d:List Value}(h:w.ownsRow B e z (.slice a n c) n d):n<=c:=by
 rcases h.2 with ⟨k,l⟩|⟨g,i,b,f,-,-,j,-⟩
 ·omega
 ·simp only[Value.slice.injEq]at f;omega
theorem RB(a:List (List Nat)){j:Nat}(b:j<a.length):(a.take (j+1)).flatten=(a.take j).flatten++a[j]:=by rw[fh b,List.flatten_append];simp
theorem SI(a:List (List Nat))(j:Nat):(a.take j).flatten.length<=a.flatten.length:=by
 conv=>rhs;rw[<-mA j a,List.flatten_append,cH]
 omega
theorem Zy{B:Nat}{w:World}{v:Value}{b:List (List Nat)}(h:sD B w v b)(h1:1<=b.flatten.length)(hl:b.flatten.length<=1000000):Calls prog 166 #[v] w fun e w'=>∃u,e=.returned u/\IR w.heap.size w' u b.flatten/\Below w.heap.size w w':=by
 obtain⟨i0,I,V,ab,R⟩:=ft Tryz.info3;obtain⟨a,c,rfl,hm⟩:=h.len;unfold maxLen at hm;go_enter func166,ntmps166;go_wp2_with fail
 go_loopg [3,11] b.length (fun k z i wr=>∃(j r:Nat),j+k=b.length/\z=.int .i64 (r:Int)/\i=.int .i64 j/\wr=w/\Hid (r=(b.take j).flatten.length))
 case atStart=>exact⟨0,0,by omega,rfl,rfl,rfl,by show _=_;simp⟩
 case round=>
  revert wr;intro A hrel;obtain⟨j,r,L,rfl,rfl,Ky,M⟩:=hrel;subst Ky
  by_cases hlt:j<b.length
  ·obtain⟨g,X,u,T,Z,O,Q,t⟩:=h.at hlt
   cases T;obtain⟨ua,uc,rfl,-⟩:=aC t;have F:=RB b hlt;have p:=SI b (j+1);rw[F,cH,<-M.out]at p;have f:Hid (r+b[j].length=(b.take (j+1)).flatten.length):=by show _=_;rw[F,cH,<-M.out]
   generalize b[j].length=m at Q p f;have aa:IntKind.i64.wrap ((r:Int)+(m:Int))=((r+m:Nat):Int):=by rw[<-px];exact wrap64 (by omega)
   obtain⟨N,K⟩:∃N,N=r+m:=⟨_,rfl⟩;rw[<-K]at aa f p;have ad:¬(N:Int)<0:=by omega
   clear F K t;go_wp2_with fail;go_roundg (b.length - (j+1))
   case measure=>omega
   case rel=>exact⟨j+1,N,by omega,rfl,by go_num,rfl,f⟩
  ·have:j=b.length:=by omega
   subst this;have f:Hid (r=b.flatten.length):=by have:=M.out;rw[fR]at this;exact this
   clear M;have q1:=akb (n:=r) (by rw[f.out];exact h1) (by rw[f.out];exact hl) A;go_wp2_with fail;refine q1.mono ?_;rintro e w1⟨u1,rfl,D,H⟩;obtain⟨ua,uc,rfl,-⟩:=aC D;clear q1;go_wp2_with fail
   go_loopg [6,27] b.length (fun k vo i wr=>∃(j:Nat)(d:List Nat),j+k=b.length/\i=.int .i64 j/\IR A.heap.size wr vo d/\Below A.heap.size A wr/\Hid (d=(b.take j).flatten))
   case atStart=>exact⟨0,[],by omega,rfl,D,H,by show _=_;simp⟩
   case round=>
    clear D H L hlt f;obtain⟨j,d,L,rfl,E,l,G⟩:=hrel;obtain⟨oa,oc,rfl,-⟩:=aC E;have ae:d.length<=1000000:=by rw[G.out];exact de (SI b j) hl
    by_cases hlt:j<b.length
    ·have F:=h.move (w':=wr) fun g _ O=>l.block g O
     obtain⟨g,X,u,T,Z,O,Q,t⟩:=F.at hlt;cases T;have p:=SI b (j+1);rw[RB b hlt,cH,<-G.out]at p;have o:Hid (d++b[j]=(b.take (j+1)).flatten):=by show _=_;rw[RB b hlt,<-G.out]
     generalize b[j]=x at Q t p o;obtain⟨ua,uc,rfl,-⟩:=aC t;have s:=t;unfold IR at s;rcases s.2 with ⟨e1,e2⟩|⟨S,ah,ai,U,-,al,ak,af,ag,am⟩
     ·have W:x=[]:=gz e2
      subst W;have J:=agJ (P:=prog) underlying22 I 22 oa d.length oc (ace E) wr;rw[eV]at o;simp only[Value.slice.injEq]at e1;obtain⟨rfl,-,rfl⟩:=e1;clear e2 t s
      go_wp2_with (at_builtin;refine Lib.wpList_append_run _ rfl _ _ _ _ rfl _ _ rfl rfl _ _ J ?_)
      go_roundg (b.length - (j+1))
      case measure=>omega
      case rel=>exact⟨j+1,d,by omega,by go_num,E,l,o.out⟩
     ·cases U
      have C:∀i y,(dK x)[i]?=some y->wr.cell? ((⟨S,0,none⟩:Addr).add i)=some y:=s.cells (g:=S) rfl
      go_wp2_with (at_builtin;go_loud (refine js _ rfl _ _ 22 rfl A.heap.size 3 i0 _ 1 8 underlying22 I V ab R rfl (by decide) (.slice oa d.length oc) _ _ rfl E ⟨S,0,none⟩ x.length _ (dK x) rfl (by rw[Dx,j9]) C (aiM x) (by unfold maxLen;omega) (by omega) l.size ?_;intro v5 w5 q aX _ jc;obtain⟨mG,mH,ac,-⟩:=aC q;subst ac))
      have Y:Below A.heap.size A w5:=l.grown aX l.size (fun k L=>(E.lt k L).1);go_roundg (b.length - (j+1))
      case measure=>omega
      case rel=>exact⟨j+1,d++x,by omega,by go_num,by unfold IR;rw[cH,Fv];exact q,Y,o.out⟩
    ·have:j=b.length:=by omega
     subst this;have o:Hid (d=b.flatten):=by have:=G.out;rw[fR]at this;exact this
     clear G;go_wp2_with fail;go_ret;exact⟨_,rfl,by rw[<-o.out];exact E,l⟩
theorem sD.push{B:Nat}{w w2 l:World}{v v5 u:Value}{t:List (List Nat)}{r:List (Value×List Nat)}{p:List Nat}{o:Obj}(h:Ur B w v t r)(C:B<=w.heap.size)(j:Below w.heap.size w w2)(k:IR w.heap.size w2 u p)(A:l.ownsRow B 22 1 v5 (t.length+1) (r.map Prod.fst++[u]))(m:(w2.alloc o).grownBy l v.ownBlock)(D:v5.ownBlock=v.ownBlock\/v5.ownBlock=some (w2.alloc o).heap.size):sD B l v5 (t++[p]):=by
 obtain⟨n,i,c,f⟩:=h;have z:=j.size;have x:∀g,v5.ownBlock=some g->v.ownBlock=some g\/w2.heap.size<=g:=by
  intro g a;rcases D with d|d
  ·exact .inl (d▸a)
  ·rw[d]at a;simp at a;exact .inr (by omega)
 have y:∀g,g<w2.heap.size->v.ownBlock≠some g->l.heap[g]?=w2.heap[g]?:=fun g a E=>(m.block g (by simp;omega) (fun e=>E e.symm)).trans (dg _ _ _ a)
 refine⟨r++[(u,p)],by rw[eJ,n];rfl,?_,?_,?_⟩
 ·rw[cH,eJ];exact A
 ·intro q b
  rcases cY.1 b with b|b
  ·refine aD (c q b) fun g a=>?_
   have s:=(c q b).lt g a;exact(y g (by omega) (f q b g a)).trans (j.block g s.2)
  ·rw[cN.1 b]
   refine aD (jb k C) fun g a=>y g (k.lt g a).2 fun e=>?_
   have:=(k.lt g a).1;have:=(i.lt g e).2;omega
 ·intro q b g a e
  rcases x g e with d|d
  ·rcases cY.1 b with b | b
   ·exact f q b g a d
   ·rw[cN.1 b]at a
    have:=(k.lt g a).1;have:=(i.lt g d).2;omega
  ·rcases cY.1 b with b | b
   ·have:=((c q b).lt g a).2;omega
   ·rw[cN.1 b]at a
    have:=(k.lt g a).2;omega
def SK(w:World)(G:Nat->Prop)(fS:ByteArray->Int)(fH:Addr->Int)(g:Nat)(l:List Lx.Alt)(ps:List (List Nat)):Prop:=ps.length=l.length/\∀k(hk:k<l.length)(hk':k<ps.length),l[k].1.length<=10000/\ps[k].length=l[k].1.length/\∀vi,w.cell? ⟨g,k*2,none⟩=some vi->∀q(hq:q<l[k].1.length)(hq':q<ps[k].length),G (aU vi)/\Al fS fH (⟨aU vi,q*4,none⟩,l[k].1[q])=(ps[k][q]:Int)
theorem ahG{D F G:Nat->Prop}{w:World}{O S H:Nat}{ta:Option Addr}{nT tc:Nat}{vN vB vK:Value}{fS:ByteArray->Int}{fH:Addr->Int}{P:List Lx.Pd}(h:Mp D G w O S H ta nT tc vN vB vK fS fH P){n m d:Nat}{a:Lx.It}{va:Value}(hi:pU w n m a)(aq:w.cell? ⟨n,m*4+3,none⟩=some va)(hA:aO YP d F w va a.alts)(Y:∀b,F b->D b)(y:List (List Nat))(J:a.kind≠2->∃s:Nat,y=[[s]]/\fS a.name=(s:Int))(I:a.kind=2->SK w G fS fH (aU va) a.alts y)(hl:a.alts.length<=10000):
  Calls prog 165 #[.pointer (some ⟨O,0,none⟩),.pointer (some ⟨n,m*4,none⟩)] w fun e w'=>∃u,e=.returned u/\sD w.heap.size w' u y/\Below w.heap.size w w':=by
 obtain⟨i0,ah,ac,an,aa⟩:=ft Tryz.ada;obtain⟨sa,sc,rfl,-⟩:=aO.len hA;have a1:=hi.kind;have T:=hi.name;go_enter func165,ntmps165
 by_cases p:a.kind=2
 ·have ag:((a.kind:Int) != 2)=false:=by simp[p]
  obtain⟨ab,v⟩:=I p;have HK:Hid (a.kind=2):=p;clear p J I;go_wp2_with fail
  go_loopg [5,29] a.alts.length (fun k vo i wr=>∃(j:Nat)(f:List (List Nat)),j+k=a.alts.length/\i=.int .i64 j/\sD w.heap.size wr vo f/\Below w.heap.size w wr/\Hid (f=y.take j))
  case atStart=>exact⟨0,[],by omega,rfl,⟨[],rfl,eQ _ _ _ _,fun q B=>(by cases B),fun q B=>(by cases B)⟩,cV _ _,rfl⟩
  case round=>
   revert wr;intro c hrel;obtain⟨j,f,p,rfl,ho,o,W⟩:=hrel;have hsz:=o.size;obtain⟨qs,VE⟩:=ho;have E:=VE.2.1;obtain⟨oa,oc,rfl,Ku⟩:=aC E;have a0:f.length<=10000:=by rw[W.out,j'];omega
   by_cases hlt:j<a.alts.length
   ·obtain⟨K,rfl⟩:∃K,d=K+1:=by
     cases d with
     |zero=>have:=hA.2;rw[this]at hlt;simp at hlt
     |succ K=>exact⟨K,rfl⟩
    have am:aO YP (K+1) F c _ a.alts:=aO.move (fun b hb=>o.block b (h.lt b (Y b hb))) (fun _ h=>h) hA;obtain⟨A,av,Z,hv,X,Ov,L⟩:=Seq.at am (fun _=>rfl) hlt;cases hv;have U:j<y.length:=by omega
    obtain⟨R,l,N⟩:=v j hlt U;have Q:w.cell? ⟨A,j*2,none⟩=some Z:=by
     have:c.cell? ⟨A,j*2,none⟩=some Z:=L 0 (by decide)
     rwa [cM (w:=w) (o.block A (h.lt A (Y A X)))]at this
    have Ow:=N Z Q;have kZ:Hid (y.take (j+1)=f++[y[j]]):=by show _=_;rw[W.out,fh U]
    generalize a.alts[j]=x at Ov L R l Ow;generalize y[j]=rr at l Ow kZ;obtain⟨its,prec,pa⟩:=x;have al:jH YP K F c Z its:=Ov;obtain⟨V,ic,rfl,ax⟩:=Seq.len Ov;have c0:c.cell? ⟨A,j*2,none⟩=some (.slice V its.length ic):=L 0 (by decide);have c1:c.cell? ⟨A,j*2+1,none⟩=some (.string prec):=L 1 (by decide);obtain⟨z,t⟩:∃z,z=c.alloc (.cells #[.slice V its.length ic,.string prec] 269):=⟨_,rfl⟩;have C:Below c.heap.size c z:=by rw[t];exact(cV _ _).alloc (zL0) _
    have aw:z.heap.size=c.heap.size+1:=by rw[t];simp
    have dY:Below w.heap.size w z:=o.trans (C.mono hsz);have q1:=Zx (h.below dY) its _ (jH.move (fun b hb=>C.block b (dd (h.lt b (Y b hb)) hsz)) (fun _ h=>h) al) Y rr l (fun k p=>Ow k p (by rw[l];exact p)) R prec;have kl:aj z c.heap.size #[.slice V its.length ic,.string prec] 269:=by rw[t];exact aj.new c _ 269
    have l0:z.cell? ⟨c.heap.size,0,none⟩=some (.slice V its.length ic):=kl.cell 0;have l1:z.cell? ⟨c.heap.size,1,none⟩=some (.string prec):=kl.cell 1;have ap:Hid (rr.length=(its,prec,pa).1.length):=l;clear L Ov N Ow v Q l;go_wp2_with fail;rw[<-t];clear t c0 c1 l0 l1;refine q1.mono ?_;rintro e w2⟨u,rfl,hu,M⟩;obtain⟨ua,uc,rfl,-⟩:=aC hu;have az:=M.size;have Ut:Below c.heap.size c w2:=C.trans (M.mono (by omega));have ad:=own_below E Ut;clear q1
    go_wp2_with (at_builtin;go_loud (refine js _ rfl _ _ 49 rfl w.heap.size 22 i0 _ 1 24 Tryz.af2 ah ac an aa rfl (by decide) (.slice oa f.length oc) _ _ rfl (ad.alloc _) ⟨_,0,none⟩ 1 1 [.slice ua rr.length uc] rfl rfl (eO (aj.new _ _ 22)) (by simp[Value.oneCell']) (by unfold maxLen;omega) (by omega) (by simp;omega) ?_;intro v5 w5 r aX _ jc;obtain⟨mG,mH,ao,-⟩:=aC r;subst ao))
    have af:Below w.heap.size w w5:=((o.trans (Ut.mono hsz)).alloc (by omega) _).grown aX (by simp;omega) (fun k p=>(E.lt k p).1);have ak:=sD.push VE hsz Ut (jb hu (by omega)) r aX jc;go_roundg (a.alts.length - (j+1))
    case measure=>omega
    case rel=>exact⟨j+1,_,by omega,by go_num,ak,af,kZ.out.symm⟩
   ·have:j=a.alts.length:=by omega
    subst this;have ai:Hid (f=y):=by have:=W.out;rw[<-ab,fR]at this;exact this
    clear W;go_wp2_with fail;go_ret;refine⟨_,rfl,?_,o⟩;rw[<-ai.out];exact⟨qs,VE⟩
 ·have ag:((a.kind:Int) != 2)=true:=lh.2 (by omega)
  have ar:¬(a.kind:Int)=2:=by omega
  obtain⟨s,v,hs⟩:=J p;have Pm:Hid (y=[[s]]):=v;clear p J I v;have ae:=SMap.look (w:=w.drew) (h.sm.move rfl) a.name;rw[hs]at ae;have d5:w.drew.cell? ⟨O,5,none⟩=some (.map (some S)):=h.cells.2.1;have dn:w.drew.cell? ⟨n,m*4+1,none⟩=some (.string a.name):=T;clear hs;have m5:=h.cells.2.1;have n1:=World.new_ne w ⟨O,5,none⟩ m5;have n2:=World.new_ne w ⟨n,m*4+1,none⟩ T;go_wp2_with fail
  go_region_held3 (fun w'=>w'.cell? ⟨O,5,none⟩=some (.map (some S))/\w'.cell? ⟨n,m*4+1,none⟩=some (.string a.name)) (go_keep) (fail)
  go_wp2_with fail;go_ret;refine⟨_,rfl,?_,(((cV _ _).alloc (zL0) _).alloc (by simp) _).drew⟩;rw[Pm.out];have ka:=((aj.new w #[.int .i64 (s:Int)] 3).alloc (.cells #[.slice (some ⟨w.heap.size,0,none⟩) 1 1] 22)).drew;have kb:aj ((w.alloc (.cells #[.int .i64 (s:Int)] 3)).alloc (.cells #[.slice (some ⟨w.heap.size,0,none⟩) 1 1] 22)).drew (w.heap.size+1) #[.slice (some ⟨w.heap.size,0,none⟩) 1 1] 22:=by simpa using (aj.new (w.alloc (.cells #[.int .i64 (s:Int)] 3)) #[.slice (some ⟨w.heap.size,0,none⟩) 1 1] 22).drew
  refine⟨[(.slice (some ⟨w.heap.size,0,none⟩) 1 1,[s])],rfl,?_,?_,?_⟩
  ·exact⟨rfl,.inr ⟨w.heap.size+1,1,_,rfl,by omega,kb,zL0,by decide,rfl,rfl⟩⟩
  ·intro q B
   rw[cN.1 B];exact⟨rfl,.inr ⟨w.heap.size,1,_,rfl,by omega,ka,zL0,by decide,rfl,rfl⟩⟩
  ·intro q B g X
   rw[cN.1 B]at X;simp[Value.ownBlock]at X|-;omega
theorem Mp.more{D G:Nat->Prop}{w w':World}{o S H:Nat}{ta:Option Addr}{nT tc:Nat}{m vB vK:Value}{t:ByteArray->Int}{s:Addr->Int}{P:List Lx.Pd}(h:Mp D G w o S H ta nT tc m vB vK t s P)(c:Below w.heap.size w w'):Mp (More D w w') G w' o S H ta nT tc m vB vK t s P:=by
 have lm:=h.lm;obtain⟨⟨y,h1,⟨B,A,r,k,u⟩,h3⟩,x,z,n,p,v,i,l⟩:=h;refine⟨⟨y,(c.block _ h1.lt).trans h1,⟨B,A,own_below r c,fun q j=>⟨own_below (k q j).1 c,fun g f=>⟨.inl ((k q j).2 g f).1,((k q j).2 g f).2⟩⟩,u⟩,fun g f=>⟨?_,(h3 g f).2⟩⟩,x.move (c.block _ (i _ n)),z.move (c.block _ (i _ p)),.inl n,.inl p,?_,?_,fun b d=>⟨.inl (l b d).1,(l b d).2.move (c.block b (i b (l b d).1))⟩⟩
 ·rintro(a | a)
  ·exact(h3 g f).1 a
  ·have:=(r.lt g f).2;omega
 ·rintro(a | a)
  ·exact v a
  ·omega
 ·rintro g(a | a)
  ·exact dd (i g a) c.size
  ·exact a.2
theorem abn{B:Nat}{w:World}{u:Value}{s:Nat}{r:List Nat}(c:IR B w u r)(d:B<=w.heap.size):sD B ((w.alloc (.cells #[.int .i64 (s:Int)] 3)).alloc (.cells #[.slice (some ⟨w.heap.size,0,none⟩) 1 1,u] 22)) (.slice (some ⟨w.heap.size+1,0,none⟩) 2 2) [[s],r]:=by
 have i:=(aj.new w #[.int .i64 (s:Int)] 3).alloc (.cells #[.slice (some ⟨w.heap.size,0,none⟩) 1 1,u] 22);have f:aj ((w.alloc (.cells #[.int .i64 (s:Int)] 3)).alloc (.cells #[.slice (some ⟨w.heap.size,0,none⟩) 1 1,u] 22)) (w.heap.size+1) #[.slice (some ⟨w.heap.size,0,none⟩) 1 1,u] 22:=by simpa using aj.new (w.alloc (.cells #[.int .i64 (s:Int)] 3)) #[.slice (some ⟨w.heap.size,0,none⟩) 1 1,u] 22
 refine⟨[(.slice (some ⟨w.heap.size,0,none⟩) 1 1,[s]),(u,r)],rfl,?_,?_,?_⟩
 ·exact⟨rfl,.inr ⟨w.heap.size+1,2,_,rfl,by omega,f,zL0,by decide,rfl,rfl⟩⟩
 ·intro q a
  rcases eC.1 a with rfl|a
  ·exact⟨rfl,.inr ⟨w.heap.size,1,_,rfl,d,i,zL0,by decide,rfl,rfl⟩⟩
  ·rw[cN.1 a]
   exact(uB c _).alloc _
 ·intro q a g b e
  have j:w.heap.size+1=g:=by simpa [Value.ownBlock]using e
  rcases eC.1 a with rfl|a
  ·have k:w.heap.size=g:=by simpa [Value.ownBlock]using b
   omega
  ·rw[cN.1 a]at b
   have:=(c.lt g b).2;omega
def uV(D G:Nat->Prop)(w:World)(mb S H:Nat)(ta:Option Addr)(nT tc:Nat)(vN vB vK:Value)(fS:ByteArray->Int)(fH:Addr->Int)(P:List Lx.Pd)(w':World):Prop:=∃D',(∀g,D g->D' g)/\Mp D' G w' mb S H ta nT tc vN vB vK fS fH P/\Kp D w w'
theorem uV.trans{D D' G:Nat->Prop}{w w' a:World}{c S H:Nat}{ta:Option Addr}{nT tc:Nat}{b vB vK:Value}{i:ByteArray->Int}{d:Addr->Int}{P:List Lx.Pd}(f:∀g,D g->D' g)(k:Kp D w w')(h:uV D' G w' c S H ta nT tc b vB vK i d P a):uV D G w c S H ta nT tc b vB vK i d P a:=by
 obtain⟨j,h1,h2,h3⟩:=h;exact⟨j,fun g l=>h1 g (f g l),h2,k.trans h3 f⟩
theorem afs{D F G:Nat->Prop}{w:World}{Q S H:Nat}{ta:Option Addr}{nT tc:Nat}{vN vB vK:Value}{W:ByteArray->Int}{O:Addr->Int}{P:List Lx.Pd}(h:Mp D G w Q S H ta nT tc vN vB vK W O P){n m d:Nat}{l:Lx.It}{va:Value}(hi:pU w n m l)(ag:G n)(ao:w.cell? ⟨n,m*4+3,none⟩=some va)(hA:aO YP d F w va l.alts)(hF:∀b,F b->D b)(c:List (List Nat))(ax:l.kind≠2->∃s:Nat,c=[[s]]/\W l.name=(s:Int))(av:l.kind=2->SK w G W O (aU va) l.alts c)(R:l.alts.length<=10000)(s:Nat)(hs:O ⟨n,m*4,none⟩=(s:Int))(a5:c.length<=10000)(U:∀r∈c,r.length<=10000)(hP:P.length<=500000000000):
  Calls prog 129 #[.pointer (some ⟨Q,0,none⟩),.pointer (some ⟨n,m*4,none⟩)] w fun e w'=>e=.returned (.tuple #[])/\uV D G w Q S H ta nT tc vN vB vK W O (P++ou nT s l.mark c) w':=by
 have J:=(h.gc n ag).1;have aq:=tQ.look (w:=w.drew) (f:=O) (h.pm.move rfl) (fun b hb=>(h.gc b hb).2.move (w':=w.drew) rfl) (a:=⟨n,m*4,none⟩) ag;rw[hs]at aq;have hd:Mp D G w.drew Q S H ta nT tc vN vB vK W O P:=h.below ((cV _ _).drew);have ar:aO YP d F w.drew va l.alts:=by
  refine aO.move (w:=w) ?_ (fun _ h=>h) hA;intro _ _;rfl
 have q1:=ahG hd (hi.move rfl) ao ar hF c ax (fun e=>av e) R;have d6:w.drew.cell? ⟨Q,6,none⟩=some (.map (some H)):=hd.cells.2.2;go_enter func129,ntmps129;go_wp2_with fail
 go_region_held3 (fun w'=>w'.cell? ⟨Q,6,none⟩=some (.map (some H))) (first | go_keep | assumption) ((go_at_call 165;refine q1.mono ?_;rintro e w1⟨u1,rfl,N,ab⟩;have h1:=hd.below ab;have S1:w1.cell? ⟨Q,6,none⟩=some (.map (some H)):=h1.cells.2.2;have a0:=tQ.look (w:=w1) (f:=O) h1.pm (fun b hb=>(h1.gc b hb).2) (a:=⟨n,m*4,none⟩) ag;rw[hs]at a0))
 all_goals
  obtain⟨ua,uc,rfl,-⟩:=N.len;have dY:Below w.heap.size w w1:=((cV w.heap.size w).drew).trans ab;have ac:=h.more dY;have za:Kp D w w1:=Kp.below dY h.lt;have L:w1.cell? ⟨n,m*4+2,none⟩=some (.int .u8 (l.mark:Int)):=(cM (w:=w) (dY.block n (h.lt n J))).trans hi.mark;have Pn:Kp (More D w w1) w1 w1:=Kp.refl _ _;clear aq q1 d6 h1 ar hd ax av hA ao R
  by_cases CJ:l.mark=42
  ·skip
   have ai:((l.mark:Int) == 42)=true:=by simp[CJ]
   have ae:((l.mark:Int) != 42)=false:=by simp[CJ]
   have af:((l.mark:Int) == 43)=false:=zB0 (by omega);have uo:((l.mark:Int) != 43)=true:=lh.2 (by omega);have ap:¬(l.mark:Int)=43:=(by omega);have ak:((l.mark:Int) == 63)=false:=zB0 (by omega);have am:((l.mark:Int) != 63)=true:=lh.2 (by omega);have aw:¬(l.mark:Int)=63:=(by omega);have Ew:Hid (l.mark=42):=CJ;clear CJ;go_wp2_with fail;refine(Ac ac s (.slice none 0 0) [] (eQ _ _ _ _) (by simp) (by omega)).mono ?_;rintro e wA⟨rfl,DA,Kz,VF,CK⟩;have KC:Kp (More D w w1) w1 wA:=Pn.trans CK fun g p=>p
   have Uu:∀g,More D w w1 g->DA g:=fun g p=>Kz g (p)
   have a3:wA.cell? ⟨n,m*4+2,none⟩=some (.int .u8 (l.mark:Int)):=(cM (w:=w1) (KC.block n (.inl J))).trans L;clear CK Kz;go_wp2_with fail
   go_loopg [64] c.length (fun k i wr=>∃(j:Nat)(E:Nat->Prop),j+k=c.length/\i=.int .i64 j/\(∀g,More D w w1 g->E g)/\Mp E G wr Q S H ta nT tc vN vB vK W O ((P++[bS nT s []])++(c.take j).map (fun r=>bS nT s (s::r)))/\Kp (More D w w1) w1 wr)
   case atStart=>exact⟨0,_,by omega,rfl,Uu,by simpa using VF,KC⟩
   case round=>
    obtain⟨j,E,y,rfl,v,t,o⟩:=hrel;have T:wr.cell? ⟨n,m*4+2,none⟩=some (.int .u8 (l.mark:Int)):=(cM (w:=w1) (o.block n (.inl J))).trans L
    by_cases hlt:j<c.length
    ·have C:=N.move (w':=wr) fun g p R=>o.block g (.inr ⟨p,R⟩)
     obtain⟨gP,Ox,u,Z,aa,ad,Y,z⟩:=C.at hlt;cases Z;have I:=U c[j] (du hlt);have q:(c.take (j+1)).map (fun r=>bS nT s (s::r))=(c.take j).map (fun r=>bS nT s (s::r))++[bS nT s (s::c[j])]:=by rw[fh hlt,eJ];rfl
     have M:Hid _:=q;have qG:((P++[bS nT s []])++(c.take j).map (fun r=>bS nT s (s::r))).length<=600000000000:=by simp;omega
     generalize c[j]=x at Y z I M;obtain⟨xa,xc,rfl,-⟩:=aC z;clear q T;have al:w.heap.size<=wr.heap.size:=de ab.size o.size;have V:=abn (s:=s) z (show w.drew.heap.size<=wr.heap.size from al);have A:([[s],x]:List (List Nat)).flatten=s::x:=by simp
     have K:=Zy V (by rw[A];simp) (by rw[A,ev];omega);rw[A]at K;have fu:Below wr.heap.size wr ((wr.alloc (.cells #[.int .i64 (s:Int)] 3)).alloc (.cells #[.slice (some ⟨wr.heap.size,0,none⟩) 1 1,.slice xa x.length xc] 22)):=(((cV _ _).alloc (zL0) _).alloc (by simp) _);go_wp2_with fail;refine K.mono ?_;rintro e w4⟨u4,rfl,Ev,ah⟩;obtain⟨ya,yc,rfl,-⟩:=aC Ev;have qd:Below wr.heap.size wr w4:=fu.trans (ah.mono fu.size);have q3:=Ac (t.below qd) s _ (s::x) (jb Ev (ff _)) (by rw[ev];omega) (by omega);clear K V fu A;go_wp2_with fail;refine q3.mono ?_;rintro e w5⟨rfl,E5,nR,X,B⟩;clear q3;go_wp2_with fail;go_roundg (c.length - (j+1))
     case measure=>omega
     case rel=>exact⟨j+1,E5,by omega,by go_num,fun g p=>nR g (v g p),by rw[M.out,<-dq];exact X,(o.trans (Kp.below qd (D:=fun g=>g<wr.heap.size) fun g p=>p) fun g p=>t.lt g (v g p)).trans B v⟩
    ·have:j=c.length:=by omega
     subst this;rw[fR]at t;clear y hlt;go_wp2_with fail
     go_end0
     refine⟨rfl,uV.trans (fun g p=>.inl p) za ⟨_,v,?_,o⟩⟩;have e9:P++ou nT s l.mark c=(P++[bS nT s []])++c.map (fun r=>bS nT s (s::r)):=by rw[Ew.out];simp[ou]
     rw[e9];exact t
  ·by_cases h63:l.mark=63
   ·skip
    have ai:((l.mark:Int) == 42)=false:=zB0 (by omega);have ae:((l.mark:Int) != 42)=true:=lh.2 (by omega);have an:¬(l.mark:Int)=42:=(by omega);have af:((l.mark:Int) == 43)=false:=zB0 (by omega);have uo:((l.mark:Int) != 43)=true:=lh.2 (by omega);have ap:¬(l.mark:Int)=43:=(by omega);have ak:((l.mark:Int) == 63)=true:=by simp[h63]
    have am:((l.mark:Int) != 63)=false:=by simp[h63]
    have Ew:Hid (l.mark=63):=h63;clear h63 CJ;go_wp2_with fail;refine(Ac ac s (.slice none 0 0) [] (eQ _ _ _ _) (by simp) (by omega)).mono ?_;rintro e wA⟨rfl,DA,Kz,VF,CK⟩;have KC:Kp (More D w w1) w1 wA:=Pn.trans CK fun g p=>p
    have Uu:∀g,More D w w1 g->DA g:=fun g p=>Kz g (p)
    have a3:wA.cell? ⟨n,m*4+2,none⟩=some (.int .u8 (l.mark:Int)):=(cM (w:=w1) (KC.block n (.inl J))).trans L;clear CK Kz;go_wp2_with fail
    go_loopg [41] c.length (fun k i wr=>∃(j:Nat)(E:Nat->Prop),j+k=c.length/\i=.int .i64 j/\(∀g,More D w w1 g->E g)/\Mp E G wr Q S H ta nT tc vN vB vK W O ((P++[bS nT s []])++(c.take j).map (bS nT s))/\Kp (More D w w1) w1 wr)
    case atStart=>exact⟨0,_,by omega,rfl,Uu,by simpa using VF,KC⟩
    case round=>
     obtain⟨j,E,y,rfl,v,t,o⟩:=hrel;have T:wr.cell? ⟨n,m*4+2,none⟩=some (.int .u8 (l.mark:Int)):=(cM (w:=w1) (o.block n (.inl J))).trans L
     by_cases hlt:j<c.length
     ·have C:=N.move (w':=wr) fun g p R=>o.block g (.inr ⟨p,R⟩)
      obtain⟨gP,Ox,u,Z,aa,ad,Y,z⟩:=C.at hlt;cases Z;have I:=U c[j] (du hlt);have q:(c.take (j+1)).map (bS nT s)=(c.take j).map (bS nT s)++[bS nT s c[j]]:=by rw[fh hlt,eJ];rfl
      have M:Hid _:=q;have qG:((P++[bS nT s []])++(c.take j).map (bS nT s)).length<=600000000000:=by simp;omega
      generalize c[j]=x at Y z I M;obtain⟨xa,xc,rfl,-⟩:=aC z;clear q T;have K:=Ac t s _ x (jb z (ff _)) (by omega) (by omega);go_wp2_with fail;refine K.mono ?_;rintro e w5⟨rfl,E5,nR,X,B⟩;clear K;go_wp2_with fail;go_roundg (c.length - (j+1))
      case measure=>omega
      case rel=>exact⟨j+1,E5,by omega,by go_num,fun g p=>nR g (v g p),by rw[M.out,<-dq];exact X,o.trans B v⟩
     ·have:j=c.length:=by omega
      subst this;rw[fR]at t;clear y hlt;go_wp2_with fail
      go_end0
      refine⟨rfl,uV.trans (fun g p=>.inl p) za ⟨_,v,?_,o⟩⟩;have e9:P++ou nT s l.mark c=(P++[bS nT s []])++c.map (bS nT s):=by rw[Ew.out];simp[ou]
      rw[e9];exact t
   ·by_cases h43:l.mark=43
    ·skip
     have ai:((l.mark:Int) == 42)=false:=zB0 (by omega);have ae:((l.mark:Int) != 42)=true:=lh.2 (by omega);have an:¬(l.mark:Int)=42:=(by omega);have af:((l.mark:Int) == 43)=true:=by simp[h43]
     have uo:((l.mark:Int) != 43)=false:=by simp[h43]
     have ak:((l.mark:Int) == 63)=false:=zB0 (by omega);have am:((l.mark:Int) != 63)=true:=lh.2 (by omega);have aw:¬(l.mark:Int)=63:=(by omega);have Ew:Hid (l.mark=43):=h43;clear h63 CJ h43;go_wp2_with fail
     go_loopg [41] c.length (fun k i wr=>∃(j:Nat)(E:Nat->Prop),j+k=c.length/\i=.int .i64 j/\(∀g,More D w w1 g->E g)/\Mp E G wr Q S H ta nT tc vN vB vK W O (P++(c.take j).map (bS nT s))/\Kp (More D w w1) w1 wr)
     case atStart=>exact⟨0,_,by omega,rfl,fun g p=>p,by simpa using ac,Pn⟩
     case round=>
      obtain⟨j,E,y,rfl,v,t,o⟩:=hrel;have T:wr.cell? ⟨n,m*4+2,none⟩=some (.int .u8 (l.mark:Int)):=(cM (w:=w1) (o.block n (.inl J))).trans L
      by_cases hlt:j<c.length
      ·have C:=N.move (w':=wr) fun g p R=>o.block g (.inr ⟨p,R⟩)
       obtain⟨gP,Ox,u,Z,aa,ad,Y,z⟩:=C.at hlt;cases Z;have I:=U c[j] (du hlt);have q:(c.take (j+1)).map (bS nT s)=(c.take j).map (bS nT s)++[bS nT s c[j]]:=by rw[fh hlt,eJ];rfl
       have M:Hid _:=q;have qG:(P++(c.take j).map (bS nT s)).length<=600000000000:=by simp;omega
       generalize c[j]=x at Y z I M;obtain⟨xa,xc,rfl,-⟩:=aC z;clear q T;have K:=Ac t s _ x (jb z (ff _)) (by omega) (by omega);go_wp2_with fail;refine K.mono ?_;rintro e w5⟨rfl,E5,nR,X,B⟩;clear K;go_wp2_with fail;go_roundg (c.length - (j+1))
       case measure=>omega
       case rel=>exact⟨j+1,E5,by omega,by go_num,fun g p=>nR g (v g p),by rw[M.out,<-dq];exact X,o.trans B v⟩
      ·have:j=c.length:=by omega
       subst this;rw[fR]at t;clear y hlt;have a4:=T;have az:=t;have a2:=o;have a1:=v;clear T t o v;go_wp2_with fail
       go_loopg [64] c.length (fun k i wr=>∃(j:Nat)(E:Nat->Prop),j+k=c.length/\i=.int .i64 j/\(∀g,More D w w1 g->E g)/\Mp E G wr Q S H ta nT tc vN vB vK W O ((P++c.map (bS nT s))++(c.take j).map (fun r=>bS nT s (s::r)))/\Kp (More D w w1) w1 wr)
       case atStart=>exact⟨0,_,by omega,rfl,a1,by simpa using az,a2⟩
       case round=>
        obtain⟨j,E,y,rfl,v,t,o⟩:=hrel;have T:wr.cell? ⟨n,m*4+2,none⟩=some (.int .u8 (l.mark:Int)):=(cM (w:=w1) (o.block n (.inl J))).trans L
        by_cases hlt:j<c.length
        ·have C:=N.move (w':=wr) fun g p R=>o.block g (.inr ⟨p,R⟩)
         obtain⟨gP,Ox,u,Z,aa,ad,Y,z⟩:=C.at hlt;cases Z;have I:=U c[j] (du hlt);have q:(c.take (j+1)).map (fun r=>bS nT s (s::r))=(c.take j).map (fun r=>bS nT s (s::r))++[bS nT s (s::c[j])]:=by rw[fh hlt,eJ];rfl
         have M:Hid _:=q;have qG:((P++c.map (bS nT s))++(c.take j).map (fun r=>bS nT s (s::r))).length<=600000000000:=by simp;omega
         generalize c[j]=x at Y z I M;obtain⟨xa,xc,rfl,-⟩:=aC z;clear q T;have al:w.heap.size<=wr.heap.size:=de ab.size o.size;have V:=abn (s:=s) z (show w.drew.heap.size<=wr.heap.size from al);have A:([[s],x]:List (List Nat)).flatten=s::x:=by simp
         have K:=Zy V (by rw[A];simp) (by rw[A,ev];omega);rw[A]at K;have fu:Below wr.heap.size wr ((wr.alloc (.cells #[.int .i64 (s:Int)] 3)).alloc (.cells #[.slice (some ⟨wr.heap.size,0,none⟩) 1 1,.slice xa x.length xc] 22)):=(((cV _ _).alloc (zL0) _).alloc (by simp) _);go_wp2_with fail;refine K.mono ?_;rintro e w4⟨u4,rfl,Ev,ah⟩;obtain⟨ya,yc,rfl,-⟩:=aC Ev;have qd:Below wr.heap.size wr w4:=fu.trans (ah.mono fu.size);have q3:=Ac (t.below qd) s _ (s::x) (jb Ev (ff _)) (by rw[ev];omega) (by omega);clear K V fu A;go_wp2_with fail;refine q3.mono ?_;rintro e w5⟨rfl,E5,nR,X,B⟩;clear q3;go_wp2_with fail;go_roundg (c.length - (j+1))
         case measure=>omega
         case rel=>exact⟨j+1,E5,by omega,by go_num,fun g p=>nR g (v g p),by rw[M.out,<-dq];exact X,(o.trans (Kp.below qd (D:=fun g=>g<wr.heap.size) fun g p=>p) fun g p=>t.lt g (v g p)).trans B v⟩
        ·have:j=c.length:=by omega
         subst this;rw[fR]at t;clear y hlt;go_wp2_with fail
         go_end0
         refine⟨rfl,uV.trans (fun g p=>.inl p) za ⟨_,v,?_,o⟩⟩;have e9:P++ou nT s l.mark c=(P++c.map (bS nT s))++c.map (fun r=>bS nT s (s::r)):=by rw[Ew.out];simp[ou]
         rw[e9];exact t
    ·skip
     have ai:((l.mark:Int) == 42)=false:=zB0 (by omega);have ae:((l.mark:Int) != 42)=true:=lh.2 (by omega);have an:¬(l.mark:Int)=42:=(by omega);have af:((l.mark:Int) == 43)=false:=zB0 (by omega);have uo:((l.mark:Int) != 43)=true:=lh.2 (by omega);have ap:¬(l.mark:Int)=43:=(by omega);have ak:((l.mark:Int) == 63)=false:=zB0 (by omega);have am:((l.mark:Int) != 63)=true:=lh.2 (by omega);have aw:¬(l.mark:Int)=63:=(by omega);have Ew:Hid (ou nT s l.mark c=c.map (bS nT s)):=by show _=_;simp[ou,CJ,h63,h43]
     clear h63 CJ h43;go_wp2_with fail
     go_loopg [41] c.length (fun k i wr=>∃(j:Nat)(E:Nat->Prop),j+k=c.length/\i=.int .i64 j/\(∀g,More D w w1 g->E g)/\Mp E G wr Q S H ta nT tc vN vB vK W O (P++(c.take j).map (bS nT s))/\Kp (More D w w1) w1 wr)
     case atStart=>exact⟨0,_,by omega,rfl,fun g p=>p,by simpa using ac,Pn⟩
     case round=>
      obtain⟨j,E,y,rfl,v,t,o⟩:=hrel;have T:wr.cell? ⟨n,m*4+2,none⟩=some (.int .u8 (l.mark:Int)):=(cM (w:=w1) (o.block n (.inl J))).trans L
      by_cases hlt:j<c.length
      ·have C:=N.move (w':=wr) fun g p R=>o.block g (.inr ⟨p,R⟩)
       obtain⟨gP,Ox,u,Z,aa,ad,Y,z⟩:=C.at hlt;cases Z;have I:=U c[j] (du hlt);have q:(c.take (j+1)).map (bS nT s)=(c.take j).map (bS nT s)++[bS nT s c[j]]:=by rw[fh hlt,eJ];rfl
       have M:Hid _:=q;have qG:(P++(c.take j).map (bS nT s)).length<=600000000000:=by simp;omega
       generalize c[j]=x at Y z I M;obtain⟨xa,xc,rfl,-⟩:=aC z;clear q T;have K:=Ac t s _ x (jb z (ff _)) (by omega) (by omega);go_wp2_with fail;refine K.mono ?_;rintro e w5⟨rfl,E5,nR,X,B⟩;clear K;go_wp2_with fail;go_roundg (c.length - (j+1))
       case measure=>omega
       case rel=>exact⟨j+1,E5,by omega,by go_num,fun g p=>nR g (v g p),by rw[M.out,<-dq];exact X,o.trans B v⟩
      ·have:j=c.length:=by omega
       subst this;rw[fR]at t;clear y hlt;go_wp2_with fail
       go_end0
       refine⟨rfl,uV.trans (fun g p=>.inl p) za ⟨_,v,?_,o⟩⟩;rw[Ew.out];exact t
theorem Jf{w:World}{B e z:Nat}{v:Value}{n:Nat}{m:List Value}(h:w.ownsRow B e z v n m){g:Nat}(b:v.ownBlock=some g)(i:Nat)(u:Value):(w.setCell ⟨g,i,none⟩ u).ownsRow B e z v n (m.set i u):=by
 refine⟨by rw[ii];exact h.1,?_⟩;rcases h.2 with q|⟨f,l,a,o,r,s,k,c,d,j⟩
 ·rw[q.1]at b;simp[Value.ownBlock]at b
 ·have:f=g:=by rw[o]at b;simpa [Value.ownBlock]using b
  subst this;have p:aj w f a e:=s;refine .inr ⟨f,l,a.setIfInBounds i u,o,r,p.set i u,k,c,by simpa using d,?_⟩;rw[xt,List.take_set,j]
theorem Mp.alJ{D G:Nat->Prop}{w:World}{r S H:Nat}{ta:Option Addr}{nT tc:Nat}{N vB vK:Value}{L:ByteArray->Int}{K:Addr->Int}{P:List Lx.Pd}{q:Lx.Pd}(h:Mp D G w r S H ta nT tc N vB vK L K (P++[q])):∃g c,w.cell? ⟨r,2,none⟩=some (.slice (some ⟨g,0,none⟩) (P.length+1) c)/\¬D g/\g≠r/\(∃o,w.cell? ⟨g,P.length*3+2,none⟩=some (.int .i64 o))/\(∀i,w.frozen? ⟨g,i,none⟩=false)/\∀v:Int,Mp D G (w.setCell ⟨g,P.length*3+2,none⟩ (.int .i64 v)) r S H ta nT tc N vB vK L K (P++[⟨q.left,q.right,v⟩])/\Kp D w (w.setCell ⟨g,P.length*3+2,none⟩ (.int .i64 v)):=by
 obtain⟨⟨vP,h1,⟨J,A,u,R,B⟩,h3⟩,T,W,O,F,e5,Y,E⟩:=h;obtain⟨d,x,rfl⟩:∃d x,J=d++[x]:=by
  rcases zE J with rfl|⟨d,x,rfl⟩
  ·simp at A
  ·exact⟨d,x,by simp⟩
 rw[eJ,j7,ri]at A;obtain⟨Q,V⟩:=List.append_inj' A rfl;have m:x.2=q:=by simpa using V
 have t:d.length=P.length:=by rw[<-Q,dk]
 obtain⟨g,c,rfl,-,aa⟩:=u.form (by simp);have j:=h3 g rfl;have s:(d++[x]).flatMap uj=d.flatMap uj++[.int .i64 (x.2.left:Int),x.1,.int .i64 x.2.prec]:=by rw[gw];simp[uj]
 have p:∀v:Int,((d++[x]).flatMap uj).set (P.length*3+2) (.int .i64 v)=(d++[(x.1,(⟨q.left,q.right,v⟩:Lx.Pd))]).flatMap uj:=fun v=>by
  rw[s,gw,mB _ _ (by rw[Je,t];omega),Je,t,show P.length*3+2-P.length*3=2 by omega];simp[uj,m]
 have k:w.cell? ⟨g,P.length*3+2,none⟩=some (.int .i64 x.2.prec):=by
  rw[u.cellAt (P.length*3+2) (by simp;omega),s,eN (by rw[Je,t];omega),Je,t,show P.length*3+2-P.length*3=2 by omega];rfl
 have z:∀i,w.frozen? ⟨g,i,none⟩=false:=by
  rcases u.2 with X|⟨M,ab,C,I,hB,Z,-⟩
  ·exact absurd X.2 (by simp)
  ·have:M=g:=by simp only[Value.slice.injEq,Option.some.injEq,Addr.mk.injEq]at I;exact I.1.1.symm
   subst this;have f:aj w M C 120:=Z;exact f.frozen
 have bk:∀v:Int,∀b,b≠g->(w.setCell ⟨g,P.length*3+2,none⟩ (.int .i64 v)).heap[b]?=w.heap[b]?:=fun v b f=>zS0 f
 have l:∀v:Int,∀b,D b->(w.setCell ⟨g,P.length*3+2,none⟩ (.int .i64 v)).heap[b]?=w.heap[b]?:=fun v b f=>bk v b fun e=>j.1 (e▸f)
 refine⟨g,c,by have:=h1.cell 2;simpa using this,j.1,Nat.ne_of_gt j.2,⟨_,k⟩,z,fun v=>⟨⟨⟨_,(bk v r (fun e=>Nat.ne_of_gt j.2 e.symm)).trans h1,⟨d++[(x.1,(⟨q.left,q.right,v⟩:Lx.Pd))],?_,?_,?_,?_⟩,h3⟩,T.move (l v S O),W.move (l v H F),O,F,e5,fun b f=>by simpa [World.setCell]using Y b f,fun b f=>⟨(E b f).1,(E b f).2.move (l v b (E b f).1)⟩⟩,⟨rfl,rfl,rfl,by simp[World.setCell],l v⟩⟩⟩
 ·rw[eJ,Q];rfl
 ·have:=Jf u (g:=g) rfl (P.length*3+2) (.int .i64 v)
  rw[p]at this;simpa using this
 ·intro y n
  rcases cY.1 n with n|n
  ·have:=R y (so _ n)
   exact⟨aD this.1 fun b f=>l v b (this.2 b f).1,this.2⟩
  ·rw[cN.1 n]
   have:=R x (by simp);rw[m]at this;exact⟨aD this.1 fun b f=>l v b (this.2 b f).1,this.2⟩
 ·rw[pj]at B|-
  exact⟨B.1,mC _ _,fun a U b f=>by rw[cN.1 f];exact B.2.2 a U x (by simp)⟩
namespace Lx
theorem Ym(T N:List ByteArray)(b:Nat)(H:List It):∀(l:List It)(k:Nat)(x:It),oV T N b H k (l++[x])=oV T N b H k l++ou T.length (b+1+(k+l.length)) x.mark (partsOf T N b H x)
 | [],k,x=>by simp[oV]
 |y::l,k,x=>by
  rw[gx,oV,Ym T N b H l (k+1) x,oV,dq,ev,show k+1+l.length=k+(l.length+1) by omega]
end Lx
structure CO(w:World)(F G:Nat->Prop)(fS:ByteArray->Int)(fH:Addr->Int)(T N:List ByteArray)(b:Nat)(Hs:List Lx.It)(p:AI):Prop where
 g:G p.1.block
 nm:p.2.kind≠2->fS p.2.name=(xD T N p.2:Int)
 len:p.2.alts.length<=10000
 lens:∀a∈p.2.alts,a.1.length<=10000
 sub:∃n m d va,p.1=⟨n,m*4,none⟩/\w.cell? ⟨n,m*4+3,none⟩=some va/\aO YP d F w va p.2.alts/\∀q∈aL d w va p.2.alts,G q.1.block/\Al fS fH q=(yY T N b Hs q.2:Int)
theorem CO.parts{w w':World}{F G:Nat->Prop}{u:ByteArray->Int}{y:Addr->Int}{T N:List ByteArray}{b:Nat}{j:List Lx.It}{n m:Nat}{f:Lx.It}(h:CO w F G u y T N b j (⟨n,m*4,none⟩,f))(p:∀b,F b->w'.heap[b]?=w.heap[b]?)(M:F n):∃d va,w'.cell? ⟨n,m*4+3,none⟩=some va/\aO YP d F w' va f.alts/\(f.kind≠2->∃s:Nat,Lx.partsOf T N b j f=[[s]]/\u f.name=(s:Int))/\(f.kind=2->SK w' G u y (aU va) f.alts (Lx.partsOf T N b j f)):=by
 obtain⟨D,L,d,va,z,x,l,C⟩:=h.sub;have B:n=D:=by simpa using fb Addr.block z
 have H:m*4=L*4:=by simpa using fb Addr.off z
 subst B;rw[<-H]at x;refine⟨d,va,(cM (w:=w) (p n M)).trans x,aO.move p (fun _ h=>h) l,fun h2=>⟨_,dt h2,h.nm h2⟩,fun h2=>?_⟩;have O:Lx.partsOf T N b j f=f.alts.map fun a=>nD T N b j a.1:=dj h2
 rw[O];refine⟨by simp,fun k c K=>?_⟩;obtain⟨o,rfl⟩:∃o,d=o+1:=by
  cases d with
  |zero=>
   have v:f.alts=[]:=l.2;rw[v]at c;simp at c
  |succ o=>exact⟨o,rfl⟩
 obtain⟨A,P,J,g⟩:=ab9 l c;have r:F (aU va):=(Fu l c).1;refine⟨h.lens _ (du c),by simp[nD],fun E i q t I=>?_⟩;have:E=A:=by
  have h3:w'.cell? ⟨aU va,k*2,none⟩=some A:=(cM (w:=w) (p _ r)).trans P;rw[h3]at i;exact(ie i).symm
 subst this;have:=C _ (g q t);refine⟨this.1,this.2.trans ?_⟩;simp[nD]
theorem aiU(a:Array Value)(w:World):(callFunc 129 a).run prog w=.ok (.enter 129 a) w:=by kernel_rfl
theorem ahH{T N:List ByteArray}{b:Nat}{d:List Lx.It}{x:Lx.It}(h:∀a∈x.alts,a.1.length<=10000):∀r∈Lx.partsOf T N b d x,r.length<=10000:=by
 unfold Lx.partsOf
 split
 ·intro r c
  obtain⟨a,f,rfl⟩:=ee.1 c;unfold nD;rw[dk];exact h a f
 ·intro r c
  rw[cN.1 c];simp
theorem afG{D F G:Nat->Prop}{w:World}{t S H:Nat}{ta:Option Addr}{tc:Nat}{K vB vK c:Value}{s:ByteArray->Int}{f:Addr->Int}{P:List Lx.Pd}{T N:List ByteArray}{b:Nat}{l:List Lx.Alt}(h:Mp D G w t S H ta T.length tc K vB vK s f P)(I:∀b,F b->D b)(W:aO YP 9 F w c l)(V:∀p∈aL 9 w c l,CO w F G s f T N b (bC 9 l) p)(hH:∀k p,(hlA w c l)[k]?=some p->f p.1=((b+1+k:Nat):Int))(hl:(hlA w c l).length<=100000)(hP:P.length<=400000000000):
  Calls prog 118 #[c,.func (.func 124) #[] #[],.func (.func 129) #[.pointer (some ⟨t,0,none⟩)] #[]] w fun e w'=>e=.returned (.tuple #[])/\uV D G w t S H ta T.length tc K vB vK s f (P++oV T N b (bC 9 l) 0 (bC 9 l)) w':=by
 have y:∀p∈hlA w c l,p∈aL 9 w c l:=fun p v=>(hU.1 v).1
 have q:=Sd 9 124 129 #[.pointer (some ⟨t,0,none⟩)] #[] Lx.hlp F w (fun L w'=>uV D G w t S H ta T.length tc K vB vK s f (P++oV T N b (bC 9 l) 0 (L.map Prod.snd)) w') (CO w F G s f T N b (bC 9 l)) (hlA w c l) aat aiU
  (fun w' n m U _ J=>QF J)
  (fun w' L n m U Q hn J aa i r=>by
   obtain⟨E,B,Y,z⟩:=Q;obtain⟨R,r⟩:=r;have j:∀p∈L,p∈hlA w c l:=fun p v=>by rw[r];simp[v]
   have u:L.length<=100000:=by have:=hl;rw[r]at this;simp at this;omega
   have hs:=hH L.length (⟨n,m*4,none⟩,U) (by rw[r];simp);obtain⟨d,CB,C,A,O,M⟩:=i.parts (w':=w') (fun b o=>z.block b (I b o)) hn;have X:(oV T N b (bC 9 l) 0 (L.map Prod.snd)).length<=100000*20001:=by
    refine de (QU (n:=10000) (by omega) (L.map Prod.snd) 0 fun x hx=>?_) ?_
    ·obtain⟨p,v,rfl⟩:=ee.1 hx
     exact(V p (y p (j p v))).len
    ·rw[dk];exact jj _ u
   refine(afs Y J i.g C A (fun b o=>B b (I b o)) (Lx.partsOf T N b (bC 9 l) U) O M i.len (b+1+L.length) hs (YI i.len (by omega)) (ahH i.lens) (by rw[cH];omega)).mono ?_;rintro e ab⟨rfl,a⟩;refine⟨rfl,?_⟩;rw[eJ,j7,ri,Ym,dk,fk,<-dq];exact uV.trans B z a)
  (fun L w' Q b o=>by obtain⟨E,B,Y,z⟩:=Q;exact z.block b (I b o))
  c l W V w [] ⟨D,fun _ h=>h,by simpa [oV]using h,Kp.refl _ _⟩ ⟨[],by simp[hlA]⟩
 refine q.mono ?_;rintro e w'⟨rfl,a⟩;refine⟨rfl,?_⟩;rw[g8]at a;have Z:((aL 9 w c l).filter fun p=>Lx.hlp p.2).map Prod.snd=bC 9 l:=ab8 W;rw[Z]at a;exact a
theorem CO.move{w w':World}{F G:Nat->Prop}{k:ByteArray->Int}{j:Addr->Int}{T N:List ByteArray}{b:Nat}{i:List Lx.It}{p:AI}(h:CO w F G k j T N b i p)(a:∀b,F b->w'.heap[b]?=w.heap[b]?)(l:F p.1.block):CO w' F G k j T N b i p:=by
 obtain⟨h1,h2,h3,h4,n,m,d,t,f,s,g,r⟩:=h;have c:F n:=by rw[f]at l;exact l
 exact⟨h1,h2,h3,h4,n,m,d,t,f,(cM (w:=w) (a n c)).trans s,aO.move a (fun _ h=>h) g,fun q o=>r q (by rw[<-IY g a];exact o)⟩
namespace Lx
theorem Yn(T N:List ByteArray):∀(l:List Rl)(b:Nat)(r:Rl),jP T N b (l++[r])=jP T N b l++tu T N (b+(l.flatMap jQ).length) r
 | [],b,r=>by simp[jP]
 |y::l,b,r=>by
  rw[gx,jP,Yn T N l,jP,dq,eh,cH,Fj,show b+1+(bC 9 y.alts).length+(l.flatMap jQ).length=b+(1+(bC 9 y.alts).length+(l.flatMap jQ).length) by omega]
theorem af6(T N:List ByteArray)(n:Nat){rs:List Rl}{j:Nat}(a:j<rs.length):jP T N (n+1) (rs.take (j+1))=jP T N (n+1) (rs.take j)++tu T N (n+(aN (rs.take j)).length) rs[j]:=by
 rw[fh a,Yn];unfold aN;rw[ev,show n+1+((rs.take j).flatMap jQ).length=n+(((rs.take j).flatMap jQ).length+1) by omega]
theorem pd0(n:Nat):bS n n [n+1]=⟨n,[n+1],-1⟩:=by
 unfold bS o9;simp;omega
end Lx
structure adT(w:World)(F G:Nat->Prop)(fS:ByteArray->Int)(fH:Addr->Int)(T N:List ByteArray)(va:Value)(r:Lx.Rl)(b:Nat):Prop where
 left:fS r.name=(b:Int)
 its:∀p∈aL 9 w va r.alts,F p.1.block/\CO w F G fS fH T N b (bC 9 r.alts) p
 sym:∀p∈aL 9 w va r.alts,Al fS fH p=(yY T N b (bC 9 r.alts) p.2:Int)
 hel:∀k p,(hlA w va r.alts)[k]?=some p->fH p.1=((b+1+k:Nat):Int)
 prec:∀a∈r.alts,a.2.1≠aW->fS a.2.1=(Lx.fix T a.2.1:Int)
 len:r.alts.length<=10000
 lens:∀a∈r.alts,a.1.length<=10000
 hl:(hlA w va r.alts).length<=100000
 pl:(tu T N b r).length<=10000000
theorem af7{D F G:Nat->Prop}{w:World}{s S H:Nat}{ta:Option Addr}{tc:Nat}{vN vB vK vR:Value}{M:ByteArray->Int}{fH:Addr->Int}{T N:List ByteArray}{rs:List Lx.Rl}(h:Mp D G w s S H ta T.length tc vN vB vK M fH [])(Az:lY F w vR rs)(Y:∀b,F b->D b)(hQ:∀i(hi:i<rs.length),adT w F G M fH T N (cv w ⟨aU vR,i*2+1,none⟩) rs[i] (T.length+(aN (rs.take i)).length))(aq:0<rs.length)(b5:rs.length<=10000):
  Calls prog 85 #[.pointer (some ⟨s,0,none⟩),vR] w fun e w'=>e=.returned (.tuple #[])/\uV D G w s S H ta T.length tc vN vB vK M fH (⟨T.length,[T.length+1],-1⟩::jP T N (T.length+1) rs) w':=by
 obtain⟨a,c,rfl,hm⟩:=Az.len;unfold maxLen at hm;obtain⟨z,b4,bz,hv,ag,-,r0,-⟩:=Az.at aq;cases hv;have e0:M rs[0].name=((T.length+1:Nat):Int):=(hQ 0 aq).left;obtain⟨n1,ah⟩:∃n1,n1=T.length+1:=⟨_,rfl⟩;rw[<-ah]at e0;have aX:Hid (n1=T.length+1):=ah;clear ah;have ak:=SMap.look (w:=w.drew) (h.sm.move rfl) rs[0].name;rw[e0]at ak;rw[pZ]at r0;obtain⟨m0,m5,m6⟩:=h.cells;have br:z<w.heap.size:=Az.lt z ag;obtain⟨W,hW⟩:∃W,W=(w.alloc (.cells #[.int .i64 (n1:Int)] 3)).drew:=⟨_,rfl⟩;have aa:Below w.heap.size w W:=by rw[hW];exact((cV _ _).alloc (zL0) _).drew
 have aA:=h.below aa;have kW:aj W w.heap.size #[.int .i64 (n1:Int)] 3:=by rw[hW];exact(aj.new w _ 3).drew
 have oW:IR 0 W (.slice (some ⟨w.heap.size,0,none⟩) 1 1) [n1]:=⟨rfl,.inr ⟨w.heap.size,1,_,rfl,ff _,kW,zL0,by decide,rfl,rfl⟩⟩;have q0:=Ac aA T.length _ [n1] oW (by simp) (by simp);rw[hW]at q0;generalize rs[0].name=VG at ak r0;have d0:w.drew.cell? ⟨s,0,none⟩=some (.slice ta T.length tc):=m0;have d5:w.drew.cell? ⟨s,5,none⟩=some (.map (some S)):=m5;have dr:w.drew.cell? ⟨z,0,none⟩=some (.string VG):=r0;have x1:=World.new_ne w ⟨s,0,none⟩ m0;have x2:=World.new_ne w ⟨z,0,none⟩ r0;have x3:0<rs.length:=aq;clear e0;go_enter func85,ntmps85;go_wp2_with fail
 go_region_held3 (fun w'=>w'.cell? ⟨s,0,none⟩=some (.slice ta T.length tc)/\w'.cell? ⟨s,5,none⟩=some (.map (some S))/\w'.cell? ⟨z,0,none⟩=some (.string VG)) (first | go_keep | assumption) ((go_at_call 127;refine q0.mono ?_;rintro e w1⟨rfl,E1,ax,C,ae⟩;have S1:w1.cell? ⟨s,0,none⟩=some (.slice ta T.length tc)/\w1.cell? ⟨s,5,none⟩=some (.map (some S))/\w1.cell? ⟨z,0,none⟩=some (.string VG):=⟨C.cells.1,C.cells.2.1,(cM (w:=w) ((ae.block z (Y z ag)).trans (by rw[<-hW];exact aa.block z br))).trans r0⟩))
 have a7:Mp E1 G w1 s S H ta T.length tc vN vB vK M fH (⟨T.length,[T.length+1],-1⟩::jP T N (T.length+1) (rs.take 0)):=by
  have e:(⟨T.length,[T.length+1],-1⟩::jP T N (T.length+1) (rs.take 0):List Lx.Pd)=[]++[bS T.length T.length [n1]]:=by rw[aX.out,Lx.pd0];simp[jP]
  rw[e];exact C
 have za:Kp D w w1:=(Kp.below aa h.lt).trans (by rw[hW];exact ae) fun g v=>v
 clear ak q0 oW kW aA C ae hW aa d0 d5 dr x1 x2 r0 m0 m5 m6;clear W;go_wp2_with fail
 go_loopg [28] rs.length (fun k i wr=>∃(j:Nat)(E:Nat->Prop),j+k=rs.length/\i=.int .i64 j/\(∀g,D g->E g)/\Mp E G wr s S H ta T.length tc vN vB vK M fH (⟨T.length,[T.length+1],-1⟩::jP T N (T.length+1) (rs.take j))/\Kp D w wr/\(jP T N (T.length+1) (rs.take j)).length<=j*10000000)
 case atStart=>exact⟨0,E1,by omega,rfl,ax,a7,za,by simp[jP]⟩
 case round=>
  clear a7 za ax;revert wr;intro m hrel;obtain⟨j,E,hk,rfl,hE,GD,af,qG⟩:=hrel
  by_cases hlt:j<rs.length
  ·obtain⟨b9,b7,va,hv,b1,hA,c0,c1⟩:=Az.at hlt
   cases hv;have xV:cv w ⟨z,j*2+1,none⟩=va:=by unfold cv;rw[c1];rfl
   have t:=hQ j hlt;rw[show aU (.slice (some ⟨z,0,none⟩) rs.length c)=z from rfl,xV]at t;have aw:=af.block z (Y z ag);have z0:m.cell? ⟨z,j*2,none⟩=some (.string rs[j].name):=(cM (w:=w) aw).trans c0;have z1:m.cell? ⟨z,j*2+1,none⟩=some va:=(cM (w:=w) aw).trans c1;have KD:Hid (jP T N (T.length+1) (rs.take (j+1))=jP T N (T.length+1) (rs.take j)++tu T N (T.length+(aN (rs.take j)).length) rs[j]):=af6 T N T.length hlt;generalize T.length+(aN (rs.take j)).length=b at t KD;generalize rs[j]=r at t KD z0 hA;generalize jP T N (T.length+1) (rs.take j)=PJ at GD qG KD;obtain⟨nm,d,rp⟩:=r;simp only at hA z0;obtain⟨X,Q,rfl,-⟩:=aO.len hA;obtain⟨A,U⟩:∃A,A=m.alloc (.cells #[.string nm,.slice X d.length Q] 254):=⟨_,rfl⟩;have a9:Below m.heap.size m A:=by rw[U];exact(cV _ _).alloc (zL0) _
   have b6:A.heap.size=m.heap.size+1:=by rw[U];simp
   have kR:aj A m.heap.size #[.string nm,.slice X d.length Q] 254:=by rw[U];exact aj.new m _ 254
   have C:=GD.more a9;have dR:More E m A m.heap.size:=.inr ⟨zL0,by omega⟩;have bj:∀g,D g->More E m A g:=fun g v=>.inl (hE g v)
   have bh:Kp D w A:=af.trans (Kp.below a9 (D:=fun g=>g<m.heap.size) fun g v=>v) fun g v=>GD.lt g (hE g v)
   clear c0 c1 xV;go_wp2_with fail;rw[<-U];clear U z0 z1
   go_loopg [35] d.length (fun k i wr=>∃(q:Nat)(E2:Nat->Prop),q+k=d.length/\i=.int .i64 q/\(∀g,More E m A g->E2 g)/\Mp E2 G wr s S H ta T.length tc vN vB vK M fH ((⟨T.length,[T.length+1],-1⟩::PJ)++(d.take q).map (rY T N b (bC 9 d)))/\Kp (More E m A) A wr)
   case atStart=>exact⟨0,_,by omega,rfl,fun _ h=>h,by simpa using C,Kp.refl _ _⟩
   case round=>
    revert wr;intro f hrel;obtain⟨q,E2,b3,rfl,u,xX,ap⟩:=hrel;have Gj:Kp D w f:=bh.trans ap bj;have VH:aj f m.heap.size #[.string nm,.slice X d.length Q] 254:=dW kR ap dR
    by_cases uW:q<d.length
    ·obtain⟨vi,a5,bo,ad⟩:=ab9 hA uW
     have KE:F (aU (.slice X d.length Q)):=(Fu hA uW).1;have KF:aO YP 9 F f (.slice X d.length Q) d:=aO.move (fun b K=>Gj.block b (Y b K)) (fun _ h=>h) hA;obtain⟨gb,am,AO,hv,v,hit,hc⟩:=Seq.at KF (fun _=>rfl) uW;cases hv;have y0:f.cell? ⟨gb,q*2,none⟩=some AO:=hc 0 (by decide);have y1:f.cell? ⟨gb,q*2+1,none⟩=some (.string d[q].2.1):=hc 1 (by decide);have aY:AO=vi:=by
      have h3:f.cell? ⟨gb,q*2,none⟩=some vi:=(cM (w:=w) (Gj.block gb (Y gb v))).trans a5;rw[h3]at y0;exact(ie y0).symm
     subst aY;have L:=t.prec d[q] (du uW);have ao:=t.lens d[q] (du uW);have V:∀k(hk:k<d[q].1.length)(aE:k<(nD T N b (bC 9 d) d[q].1).length),G (aU AO)/\Al M fH (⟨aU AO,k*4,none⟩,d[q].1[k])=((nD T N b (bC 9 d) d[q].1)[k]:Int):=fun k hk aE=>by
      have h4:=ad k hk;refine⟨(t.its _ h4).2.g,(t.sym _ h4).trans ?_⟩;simp[nD]
     have kZ:Hid ((d.take (q+1)).map (rY T N b (bC 9 d))=(d.take q).map (rY T N b (bC 9 d))++[rY T N b (bC 9 d) d[q]]):=by show _=_;rw[fh uW,eJ];rfl
     have l:(nD T N b (bC 9 d) d[q].1).length=d[q].1.length:=by simp[nD]
     have R:jH YP 8 F f AO d[q].1:=hit;have b8:d.length<=10000:=t.len;clear ad a5 bo hit hc KF;generalize d[q]=x at y1 L ao V kZ l R;obtain⟨its,prec,pa⟩:=x;simp only at y1 L ao V l R;have JU:Hid (rY T N b (bC 9 d) (its,prec,pa)=⟨b,nD T N b (bC 9 d) its,if prec=aW then o9 T.length (nD T N b (bC 9 d) its) else (Lx.fix T prec:Int)⟩):=rfl;generalize nD T N b (bC 9 d) its=rr at V l JU;obtain⟨ia,ic,rfl,bt⟩:∃a c,AO=.slice a its.length c/\its.length<=maxLen:=Seq.len (show Tr.Seq F f YP.eI YP.sI YP.cI (fun va it=>aO YP 8 F f va it.alts) AO its from R);obtain⟨I,O⟩:∃I,I=f.alloc (.cells #[.slice ia its.length ic,.string prec] 269):=⟨_,rfl⟩;have Z:Below f.heap.size f I.drew:=by rw[O];exact((cV _ _).alloc (zL0) _).drew
     have bD:I.heap.size=f.heap.size+1:=by rw[O];simp
     have kA:aj I f.heap.size #[.slice ia its.length ic,.string prec] 269:=by rw[O];exact aj.new f _ 269
     have B:=xX.more Z;have dA:More E2 f I.drew f.heap.size:=.inr ⟨zL0,by show f.heap.size<I.heap.size;omega⟩;have VI:More E2 f I.drew m.heap.size:=.inl (u _ dR);have bf:=VH.lt;have VJ:aj I.drew m.heap.size _ 254:=(Z.block _ bf).trans VH;have bg:∀b,F b->More E2 f I.drew b:=fun b K=>.inl (u b (.inl (hE b (Y b K))))
     have q1:=Zx B its _ (jH.move (fun b K=>Z.block b (xX.lt b (u b (.inl (hE b (Y b K)))))) (fun _ h=>h) R) bg rr l (fun k hk=>V k hk (by rw[l];exact hk)) ao prec;have ar:=SMap.look (w:=I.drew) B.sm nm;rw[show M nm=(b:Int) from t.left]at ar;have s5:=B.cells.2.1;have sR:I.drew.cell? ⟨m.heap.size,0,none⟩=some (.string nm):=VJ.cell 0;have bc:I.drew.cell? ⟨f.heap.size,0,none⟩=some (.slice ia its.length ic):=kA.drew.cell 0;have aI:I.drew.cell? ⟨f.heap.size,1,none⟩=some (.string prec):=kA.drew.cell 1;have aG:M nm=(b:Int):=t.left;have ba:(((⟨T.length,[T.length+1],-1⟩:Lx.Pd)::PJ)++(d.take q).map (rY T N b (bC 9 d))).length<=400000000000:=by
      simp only[List.length_append,List.length_cons,List.length_map,List.length_take];have h5:j*10000000<=10000*10000000:=jj _ (by omega);omega
     have bq:Hid (rr.length=its.length):=l;clear l V R;generalize sF:(((⟨T.length,[T.length+1],-1⟩:Lx.Pd)::PJ)++(d.take q).map (rY T N b (bC 9 d)))=PQ at xX B ba;have a4:Hid _:=sF;clear sF;unfold maxLen at bt;go_wp2_with fail;rw[<-O];clear O y0 y1
     go_region_held3 (fun w'=>w'.cell? ⟨s,5,none⟩=some (.map (some S))/\w'.cell? ⟨m.heap.size,0,none⟩=some (.string nm)/\w'.cell? ⟨f.heap.size,0,none⟩=some (.slice ia its.length ic)/\w'.cell? ⟨f.heap.size,1,none⟩=some (.string prec)) (first|go_keep|assumption) (first|(go_at_call 128;refine q1.mono ?_;rintro e w3⟨u3,rfl,ai,an⟩;obtain⟨ua,uc,rfl,-⟩:=aC ai;have qH:=B.below an;have y:=Kp.below an B.lt;have S3:w3.cell? ⟨s,5,none⟩=some (.map (some S))/\w3.cell? ⟨m.heap.size,0,none⟩=some (.string nm)/\w3.cell? ⟨f.heap.size,0,none⟩=some (.slice ia its.length ic)/\w3.cell? ⟨f.heap.size,1,none⟩=some (.string prec):=⟨qH.cells.2.1,(dW VJ y VI).cell 0,(dW kA.drew y dA).cell 0,(dW kA.drew y dA).cell 1⟩;have az:=SMap.look (w:=w3) qH.sm nm;rw[aG]at az;have q3:=Ac qH b _ rr (jb ai (ff _)) (by have:=bq.out;omega) (by omega))|(go_at_call 127;refine q3.mono ?_;rintro e J⟨rfl,E4,a8,AB,P⟩;have S4:J.cell? ⟨s,5,none⟩=some (.map (some S))/\J.cell? ⟨m.heap.size,0,none⟩=some (.string nm)/\J.cell? ⟨f.heap.size,0,none⟩=some (.slice ia its.length ic)/\J.cell? ⟨f.heap.size,1,none⟩=some (.string prec):=⟨AB.cells.2.1,(dW (dW VJ y VI) P VI).cell 0,(dW (dW kA.drew y dA) P dA).cell 0,(dW (dW kA.drew y dA) P dA).cell 1⟩))
     all_goals
      obtain⟨aF,b2,bw,bp⟩:=S4;have aH:Kp E2 f J:=(Kp.below Z xX.lt).trans (y.trans P fun g h=>h) fun g v=>.inl v
      have av:Kp (More E m A) A J:=ap.trans aH u;have Uv:∀g,More E m A g->E4 g:=fun g v=>a8 g (.inl (u g v))
      have bm:=a8 _ dA;clear S3 az q3 q1 ar s5 sR bc aI ai qH B y P an
      by_cases hpn:prec=aW
      ·have ab:Hid (rY T N b (bC 9 d) (its,prec,pa)=bS T.length b rr):=by rw[JU.out,dj hpn];rfl
       have aP:prec=⟨#[]⟩:=hpn;clear hpn L JU;subst aP;go_wp2_with fail;go_roundg (d.length - (q+1))
       case measure=>omega
       case rel=>exact⟨q+1,E4,by omega,by go_num,Uv,by rw[kZ.out,ab.out,<-dq,a4.out];exact AB,av⟩
      ·have ab:Hid (rY T N b (bC 9 d) (its,prec,pa)=⟨b,rr,(Lx.fix T prec:Int)⟩):=by show _=_;rw[JU.out,dt hpn]
       have bx:(prec.toList == [])=false:=Ad hpn;have a0:=L hpn;obtain⟨g,cg,a1,bu,bH,⟨o,a6⟩,fz,ac⟩:=AB.alJ;have hlp:=SMap.look (w:=J.drew) (AB.sm.move rfl) prec;rw[a0]at hlp;have BX:=ac (Lx.fix T prec:Int);generalize (Lx.fix T prec:Int)=pv at hlp BX ab;have b0:g≠f.heap.size:=fun e=>bu (e▸bm)
       have t2:J.drew.cell? ⟨s,2,none⟩=some (.slice (some ⟨g,0,none⟩) (PQ.length+1) cg):=a1;have t5:J.drew.cell? ⟨s,5,none⟩=some (.map (some S)):=aF;have tp:J.drew.cell? ⟨f.heap.size,1,none⟩=some (.string prec):=bp;have tg:J.drew.cell? ⟨g,PQ.length*3+2,none⟩=some (.int .i64 o):=a6;have tz:∀i,J.drew.frozen? ⟨g,i,none⟩=false:=fz;obtain⟨w5,fI⟩:∃w5,w5=(J.setCell ⟨g,PQ.length*3+2,none⟩ (.int .i64 pv)).drew:=⟨_,rfl⟩;have dZ:Mp E4 G w5 s S H ta T.length tc vN vB vK M fH (PQ++[⟨b,rr,pv⟩]):=by rw[fI];exact BX.1.below ((cV _ _).drew)
       have bs:Kp (More E m A) A w5:=av.trans (by rw[fI];exact⟨BX.2.os,BX.2.tape,BX.2.output,BX.2.size,BX.2.block⟩) Uv;have i1:(0:Int)<=(PQ.length:Int):=by omega
       have i2:(PQ.length:Int)<(PQ.length:Int)+1:=by omega
       have i3:IntKind.i64.wrap (PQ.length:Int)=(PQ.length:Int):=wrap64 (by omega);have i4:IntKind.i64.wrap ((PQ.length:Int)+1)=(PQ.length:Int)+1:=by have:=wrap64 (n:=PQ.length+1) (by omega);simpa using this
       have i5:IntKind.i64.wrap ((PQ.length:Int)+1-1)=(PQ.length:Int):=by rw[Int.add_sub_cancel];exact i3
       clear ac BX L hpn JU a0;go_wp2_with fail
       go_region_held3 (fun w'=>w'.cell? ⟨s,2,none⟩=some (.slice (some ⟨g,0,none⟩) (PQ.length+1) cg)/\w'.cell? ⟨s,5,none⟩=some (.map (some S))/\w'.cell? ⟨f.heap.size,1,none⟩=some (.string prec)) (go_keep) (fail)
       all_goals
        rw[<-fI];clear fI hlp t2 t5 tp tg tz a1 a6 fz;go_wp2_with fail;go_roundg (d.length - (q+1))
        case measure=>omega
        case rel=>exact⟨q+1,E4,by omega,by go_num,Uv,by rw[kZ.out,ab.out,<-dq,a4.out];exact dZ,bs⟩
    ·have:q=d.length:=by omega
     subst this;rw[fR]at xX;have Cy:∀(fn:Fn)(first am:Array Value)(w:World),(Instr.makeFunc fn first am).run prog w=.ok (.func fn first am) w:=fun _ _ _ _=>rfl
     have KF:aO YP 9 F f (.slice X d.length Q) d:=aO.move (fun b K=>Gj.block b (Y b K)) (fun _ h=>h) hA;have eA:aL 9 f (.slice X d.length Q) d=aL 9 w (.slice X d.length Q) d:=IY hA fun b K=>Gj.block b (Y b K)
     have eH:hlA f (.slice X d.length Q) d=hlA w (.slice X d.length Q) d:=by unfold hlA;rw[eA]
     have a2:(((⟨T.length,[T.length+1],-1⟩:Lx.Pd)::PJ)++d.map (rY T N b (bC 9 d))).length<=400000000000:=by
      have h9:d.length<=10000:=t.len;simp only[List.length_append,List.length_cons,List.length_map];have h5:j*10000000<=10000*10000000:=jj _ (by omega);omega
     have q5:=afG (T:=T) (N:=N) (b:=b) xX (fun b K=>u b (.inl (hE b (Y b K)))) KF (fun p hp=>((t.its p (by rw[<-eA];exact hp)).2).move (fun b K=>Gj.block b (Y b K)) (t.its p (by rw[<-eA];exact hp)).1) (fun k p hp=>t.hel k p (by rw[<-eH];exact hp)) (by rw[eH];exact t.hl) a2;have y1:f.cell? ⟨m.heap.size,1,none⟩=some (.slice X d.length Q):=VH.cell 1;have L:=t.pl;have bv:Hid (tu T N b ⟨nm,d,rp⟩=d.map (rY T N b (bC 9 d))++oV T N b (bC 9 d) 0 (bC 9 d)):=rfl;clear KF eA eH a2 t hA;go_wp2_with fail;refine q5.mono ?_;rintro e w6⟨rfl,E6,bb,Pj,AJ⟩;clear q5 Cy y1;have a3:Mp E6 G w6 s S H ta T.length tc vN vB vK M fH (⟨T.length,[T.length+1],-1⟩::jP T N (T.length+1) (rs.take (j+1))):=by
      rw[KD.out,bv.out];simpa [List.append_assoc]using Pj
     have bi:Kp D w w6:=Gj.trans AJ fun g v=>u g (.inl (hE g v))
     have bl:(jP T N (T.length+1) (rs.take (j+1))).length<=(j+1)*10000000:=by
      rw[KD.out,cH,mf];omega
     have bd:Hid _:=a3;clear Pj a3 xX C GD;go_wp2_with fail;go_roundg (rs.length - (j+1))
     case measure=>omega
     case rel=>exact⟨j+1,E6,by omega,by go_num,fun g v=>bb g (u g (.inl (hE g v))),bd.out,bi,bl⟩
  ·have:j=rs.length:=by omega
   subst this;rw[fR]at GD;go_wp2_with fail
   go_end0
   exact⟨rfl,E,hE,GD,af⟩

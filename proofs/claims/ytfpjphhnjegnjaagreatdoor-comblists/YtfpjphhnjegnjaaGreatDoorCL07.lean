import Derived.Laws.Bits64b
import Derived.Laws.BitsAllLaws
import Derived.Laws.AppendOwn
import Derived.Test.YtfpjphhnjegnjaaGreatDoorCL04
import Derived.Test.YtfpjphhnjegnjaaGreatDoorProg
import Derived.RangeFuncBound
import Derived.RangeFuncCalls
import Derived.Shelf.Abstract
import Derived.Shelf.RegionOpen
import Derived.OwnWalkIn
import Derived.TacticsInMore
import Derived.Sort.LoopGhostIn
import Derived.Sort.CutIn
import Derived.BigRegion
set_option maxHeartbeats 8000000
set_option maxRecDepth 1000000
namespace Go.Proofs.YtfpjphhnjegnjaaGreatDoor
open Lx Go.Proofs.Tryz
open Go.RowKit Tr
open Go.Value renaming slice→ς,int→ι,pointer→π,bool→μ,agg→γ,tuple→θ
open Go.IntKind renaming i64→ξ
open Option renaming none→ν,some→ο
open Go.Ending renaming returned→δ
open Go.Obj renaming cells→ζ
open Bool renaming true→η,false→ε
open Go renaming World→ω,Value→υ,Calls→χ
open Go.RowKit renaming Below→φ
open List renaming replicate→ψ
variable{A:List Bool}{B a b bm bs d gP gm i j k n nT p pc q t tc:Nat}{E r vs x:List Nat}{F:Nat->Prop}{J:Nat->(Nat->Prop)->ω->Prop}{P:List Pd}{Q:Exit->Act->ω->Prop}{R:ω->Prop}{W w w' w0:ω}{c:Nat->Nat}{f:Nat×Nat->Nat}{ta:Option Addr}{u v v0 v1 v3 v4:υ}{y:Int}
def oh(ws:List Nat):Array υ:=(ws.map fun x:Nat=>ι .u64 (x:Int)).toArray
theorem aak(ws:List Nat)(i x:Nat):(oh ws).setIfInBounds i (ι .u64 (x:Int))=oh (ws.set i x):=by
 unfold oh;rw[j8,oR]
theorem Jl(ws:List Nat)(h:i<ws.length):(oh ws)[i]?=ο (ι .u64 ((ws.getD i 0:Nat):Int)):=by
 unfold oh;simp[h]
namespace Lx
def nW(n:Nat):Nat:=(n+63) / 64
def dL(ws:List Nat)(t:Nat):Bool:=(ws.getD (t / 64) 0).testBit (t % 64)
def jU(ws:List Nat):Prop:=∀x∈ws,x<18446744073709551616
def xR(ws:List Nat)(t:Nat):List Nat:=ws.set (t / 64) (ws.getD (t / 64) 0 ||| 2 ^ (t % 64))
theorem jU.get{ws:List Nat}(h:jU ws)(i:Nat):ws.getD i 0<18446744073709551616:=by
 rw[di];cases e:ws[i]? with
 |none=>simp
 |some x=>simpa using h x (cM e)
theorem jU.set{ws:List Nat}(h:jU ws)(i:Nat){x:Nat}(b:x<18446744073709551616):jU (ws.set i x):=fun y a=>by
 rcases r6 a with h1|rfl
 ·exact h y h1
 ·exact b
theorem adH(c:a<18446744073709551616)(d:b<18446744073709551616):a ||| b<18446744073709551616:=Nat.or_lt_two_pow (n:=64) c d
theorem abQ{ws:List Nat}(h:jU ws)(t:Nat):jU (xR ws t):=h.set _ (adH (h.get _) (by have:2 ^ (t % 64)<2 ^ 64:=Nat.pow_lt_pow_right (by decide) (vj _ (by decide));exact this))
theorem aaS(ws:List Nat)(t:Nat):(xR ws t).length=ws.length:=jp ..
theorem SV{ws:List Nat}{x:Nat}(a:i<ws.length):(ws.set i x).getD j 0=if j=i then x else ws.getD j 0:=by
 simp only[List.getD_eq_getElem?_getD,List.getElem?_set]
 by_cases e:i=j
 ·subst e;simp[a]
 ·rw[dt e,dt fun h=>e h.symm]
theorem aaT{ws:List Nat}{u:Nat}(a:t<ws.length*64):dL (xR ws t) u=(dL ws u || decide (u=t)):=by
 unfold dL xR;rw[SV (by omega)]
 by_cases e:u / 64=t / 64
 ·rw[du e,sL,e,Nat.testBit_two_pow]
  congr 1
  by_cases e2:u=t
  ·subst e2;simp
  ·simp only[e2,decide_false]
   exact fx (by omega)
 ·rw[dt e]
  have:u≠t:=fun h=>e (by rw[h])
  simp[this]
theorem alp{f:Nat->Nat}:((List.range n).map f).getD i 0=if i<n then f i else 0:=by
 simp only[List.getD_eq_getElem?_getD,List.getElem?_map]
 by_cases h:i<n
 ·simp[h]
 ·simp[h]
theorem SX{ws:List Nat}(h:¬i<ws.length):ws.getD i 0=0:=by simp[Nat.not_lt.1 h]
theorem FT{ws:List Nat}(a:ws.length=vs.length)(h:∀i,i<ws.length->ws.getD i 0=vs.getD i 0):ws=vs:=by
 apply od a;intro i h1 h2;have:=h i h1;simpa [List.getD_eq_getElem?_getD,h1,h2]using this
def kJ(ws vs:List Nat)(j:Nat):List Nat:=(List.range ws.length).map fun i=>if i<j then ws.getD i 0 ||| vs.getD i 0 else ws.getD i 0
def dZ(ws vs:List Nat):List Nat:=kJ ws vs ws.length
theorem yY(ws vs:List Nat)(j:Nat):(kJ ws vs j).length=ws.length:=by simp[kJ]
theorem BS(ws vs:List Nat)(j i:Nat):(kJ ws vs j).getD i 0=if i<ws.length/\i<j then ws.getD i 0 ||| vs.getD i 0 else ws.getD i 0:=by
 unfold kJ;rw[alp]
 by_cases h:i<ws.length
 ·simp only[h,if_true,true_and]
 ·rw[dt h,dt (by omega),SX h]
theorem aaU(ws vs:List Nat):kJ ws vs 0=ws:=FT (yY ..) fun i _=>by rw[BS,dt (by omega)]
theorem ajX{ws:List Nat}(b:j<ws.length):kJ ws vs (j+1)=(kJ ws vs j).set j (ws.getD j 0 ||| vs.getD j 0):=by
 refine FT (by rw[jp,yY,yY]) fun i a=>?_
 rw[SV (by rw[yY];exact b),BS,BS];rw[yY]at a
 by_cases e:i=j
 ·subst e;rw[du ⟨b,by omega⟩,du rfl]
 ·rw[dt e]
  by_cases h3:i<j
  ·rw[du ⟨a,by omega⟩,du ⟨a,h3⟩]
  ·rw[dt (by omega),dt (by omega)]
theorem amA{ws:List Nat}(a:jU ws)(b:jU vs)(j:Nat):jU (kJ ws vs j):=fun x c=>by
 obtain⟨i,-,rfl⟩:=fk.1 c
 split
 ·exact adH (a.get i) (b.get i)
 ·exact a.get i
theorem Nu{ws:List Nat}(h:vs.length=ws.length)(t:Nat):dL (dZ ws vs) t=(dL ws t || dL vs t):=by
 unfold dL dZ;rw[BS]
 by_cases hi:t / 64<ws.length
 ·rw[du ⟨hi,hi⟩,sL]
 ·rw[dt (by omega),SX hi,SX (by omega)];simp
end Lx
theorem Tryz.alq:(prog.info? 275).map (fun i=>(i.zero,i.size,i.bytes))=ο (ο (.int .u64 0),1,8):=by kernel_rfl
theorem ahx(n:Nat):madeCells #[ι .u64 0] (n*1)=oh (ψ n 0):=by
 unfold madeCells oh;apply rK
 ·simp
 ·intro i h1 h2
  simp[Nat.mod_one]
theorem ahy(g:n<=100000)(w:ω):(Instr.makeSlice 174 (ι ξ (n:Int)) (ι ξ (n:Int))).run prog w=.ok (ς (ο ⟨w.heap.size,0,ν⟩) n n) (w.alloc (ζ (oh (ψ n 0)) 275)):=by
 obtain⟨d,f,b,c,a⟩:=ft Tryz.alq;have h:=qh (P:=prog) w 174 275 d _ (by kernel_rfl) f b ξ ξ (n:Int) (n:Int) (by omega) (oX _) (by rw[a];omega) (by omega);rw[h,ij,c];have e:Value.cells (ι .u64 0)=#[ι .u64 0]:=rfl;rw[e,ahx]
structure TS(w:ω)(g:Nat)(ws:List Nat):Prop where
 blk:aj w g (oh ws) 275
 wd:jU ws
theorem Rx(a:n<=100000):χ prog 58 #[ι ξ (n:Int)] w fun e w'=>e=δ (ς (ο ⟨w.heap.size,0,ν⟩) (Lx.nW n) (Lx.nW n))/\w'=w.alloc (ζ (oh (ψ (Lx.nW n) 0)) 275):=by
 have h4:=fun w=>ahy (n:=Lx.nW n) (by unfold Lx.nW;omega) w
 rw[show ((Lx.nW n:Nat):Int)=((n:Int)+64-1) / 64 by unfold Lx.nW;omega]at h4;go_enter func58,ntmps58;go_wp2_with fail;go_ret;exact⟨rfl,rfl⟩
theorem or_bit(b:a<18446744073709551616):bits BinOp.or IntKind.u64 (a:Int) (IntKind.u64.wrap (2 ^ (t % 64)))=((a ||| 2 ^ (t % 64):Nat):Int):=by
 have hp:2 ^ (t % 64)<18446744073709551616:=by
  have:2 ^ (t % 64)<2 ^ 64:=Nat.pow_lt_pow_right (by decide) (vj _ (by decide));exact this
 have e:IntKind.u64.wrap (2 ^ (t % 64))=((2 ^ (t % 64):Nat):Int):=by
  have c:(2:Int) ^ (t % 64)=((2 ^ (t % 64):Nat):Int):=by rw[Int.natCast_pow];rfl
  rw[IntKind.wrap_u64,c];generalize 2 ^ (t % 64)=x at hp;omega
 rw[e,bits_or_u64_nat a _ b hp]
theorem aaV{g:Nat}{ws:List Nat}(h:TS w g ws)(d:t<ws.length*64)(i:ws.length<=100000):χ prog 59 #[ς (ο ⟨g,0,ν⟩) ws.length ws.length,ι ξ (t:Int)] w fun e w'=>e=δ (θ #[])/\TS w' g (xR ws t)/\w.grownBy w' (ο g):=by
 have f:w.cell? ⟨g,t / 64,ν⟩=ο (ι .u64 ((ws.getD (t / 64) 0:Nat):Int)):=(h.blk.cell _).trans (Jl ws (by omega));have k:=h.blk.frozen (t / 64);have b:(0:Int)<=(t:Int) / 64:=by omega
 have c:(t:Int) / 64<(ws.length:Int):=by omega
 have j:((t:Int) / 64).toNat=t / 64:=by omega
 have a:=or_bit (t:=t) (h.wd.get (t / 64));rw[di]at a;go_enter func59,ntmps59
 go_region
 go_end0
 refine⟨rfl,⟨?_,abQ h.wd t⟩,?_⟩
 ·have:=(h.blk.set (t / 64) (ι .u64 ((ws[t / 64]?.getD 0 ||| 2 ^ (t % 64):Nat):Int))).drew
  rw[aak]at this;rw[xR,di];exact this
 ·have:=iO w g (t / 64) (ι .u64 ((ws[t / 64]?.getD 0 ||| 2 ^ (t % 64):Nat):Int))
  exact⟨this.1,this.2,this.3,this.4,this.5⟩
theorem agB(j:a<18446744073709551616)(k:b<18446744073709551616):bits .andNot .u64 (a:Int) (b:Int)=0↔b ||| a=b:=by
 have f:b<2 ^ 64:=k;have g:∀i,(2 ^ 64 - (b+1)).testBit i=(decide (i<64) && !b.testBit i):=fun i=>Nat.testBit_two_pow_sub_succ f i
 rw[u64_andNot_nat a b j k];have e:(18446744073709551615-b:Nat)=2 ^ 64 - (b+1):=by omega
 rw[e];have h1:((a &&& (2 ^ 64 - (b+1)):Nat):Int)=0↔a &&& (2 ^ 64 - (b+1))=0:=by omega
 rw[h1];constructor
 ·intro h
  apply ww;intro i;have c:=fd (Nat.testBit · i) h;simp only[Nat.testBit_and,g,Nat.zero_testBit]at c;rw[sL];cases ea:a.testBit i with
  |false=>simp
  |true=>
   rw[ea]at c;have d:i<64:=by
    apply jt;intro l;rw[vf (dg j (tB (n:=2) (by decide) (show 64<=i by omega)))]at ea;cases ea
   simpa [d]using c
 ·intro h
  apply ww;intro i;have c:=fd (Nat.testBit · i) h;simp only[Nat.testBit_or]at c;rw[we,g,Nat.zero_testBit];revert c;cases a.testBit i <;> cases b.testBit i <;> simp
structure TP(w:ω)(g:Nat)(ws:List Nat)(w':ω):Prop where
 ts:TS w' g ws
 gr:w.grownBy w' (ο g)
theorem Nv{g h nw:Nat}{ws:List Nat}(s:TS w g ws)(q:TS w h vs)(a:g=h->vs=ws)(C:ws.length=nw)(O:vs.length=nw)(R:nw<=100000):χ prog 119 #[ς (ο ⟨g,0,ν⟩) nw nw,ς (ο ⟨h,0,ν⟩) nw nw] w fun e w'=>∃b:Bool,e=δ (μ b)/\TP w g (dZ ws vs) w'/\(b=η↔dZ ws vs≠ws):=by
 have v:Hid (TP w g (kJ ws vs 0) w):=⟨by rw[aaU];exact s,⟨rfl,rfl,rfl,zL0,fun _ _ _=>rfl⟩⟩;have I:Hid (∀wr j,TP w g (kJ ws vs j) wr->j<nw->wr.cell? ⟨h,j,ν⟩=ο (ι .u64 ((vs.getD j 0:Nat):Int))):=fun wr j hp L=>by
  by_cases e:g=h
  ·have G:=a e
   subst e;have:=(hp.ts.blk.cell j).trans (Jl _ (by rw[yY];omega));rw[BS,dt (by omega)]at this;rw[this,G]
  ·exact(cQ (w:=w) (hp.gr.block h q.blk.lt (fun F=>e (by cases F;rfl)))).trans ((q.blk.cell j).trans (Jl vs (by omega)))
 have o:Hid (ε=η↔kJ ws vs 0≠ws):=by show _↔_;rw[aaU];simp
 have n:Hid (jU ws/\jU vs):=⟨s.wd,q.wd⟩;have z:Hid (dZ ws vs=kJ ws vs nw):=by show _=_;rw[<-C];rfl
 have J:Hid (∀j,j<nw->kJ ws vs (j+1)=(kJ ws vs j).set j (ws.getD j 0 ||| vs.getD j 0)):=fun j L=>ajX (by omega)
 have A:Hid (∀j,(kJ ws vs j).getD j 0=ws.getD j 0):=fun j=>by show _=_;rw[BS,dt (by omega)]
 have D:Hid (∀j,(kJ ws vs j).length=nw):=fun j=>by show _=_;rw[yY,C]
 clear s q a;go_enter func119,ntmps119;go_wp2_with fail
 go_loopg [5,10] nw (fun k M i wr=>∃(j:Nat)(b:Bool),j+k=nw/\M=μ b/\i=ι ξ (j:Int)/\Hid (TP w g (kJ ws vs j) wr)/\Hid (b=η↔kJ ws vs j≠ws))
 case atStart=>exact⟨0,ε,by omega,rfl,rfl,v,o⟩
 case round=>
  clear v o;obtain⟨j,b,t,rfl,rfl,m,B⟩:=hrel
  by_cases hlt:j<nw
  ·have cv:=I.out wr j m.out hlt
   have E:wr.cell? ⟨g,j,ν⟩=ο (ι .u64 ((ws.getD j 0:Nat):Int)):=by rw[<-A.out j];exact(m.out.ts.blk.cell j).trans (Jl _ (by rw[D.out];exact hlt))
   have H:=m.out.ts.blk.frozen j;have p:=agB (n.out.2.get j) (n.out.1.get j);have l:=bits_or_u64_nat _ _ (n.out.1.get j) (n.out.2.get j);have Q:(0:Int)<=(j:Int):=by omega
   have N:(j:Int)<(nw:Int):=by omega
   have d:=J.out j hlt;have c:=(m.out.ts.blk.set j (ι .u64 ((ws.getD j 0 ||| vs.getD j 0:Nat):Int)));rw[aak,<-d]at c
   by_cases hn:ws.getD j 0 ||| vs.getD j 0=ws.getD j 0
   ·have f:=p.2 hn
    have r:Hid (kJ ws vs (j+1)=kJ ws vs j):=by
     show _=_;rw[d,hn];exact FT (by simp) fun i P=>by
      rw[SV (by rw[D.out];exact hlt)]
      split
      ·rename_i e;subst e;exact(A.out _).symm
      ·rfl
    clear p l hn c d H;generalize ws.getD j 0=x at f E;generalize vs.getD j 0=y at f cv;have K:(bits BinOp.andNot IntKind.u64 (y:Int) (x:Int) != 0)=ε:=by simp[f]
    go_wp2_with fail;go_roundg (nw - (j+1))
    case measure=>omega
    case rel=>exact⟨j+1,b,by omega,rfl,by go_num,by show TP _ _ _ _;rw[r.out];exact m.out,by show _↔_;rw[r.out];exact B.out⟩
   ·have f:¬bits BinOp.andNot IntKind.u64 ((vs.getD j 0:Nat):Int) ((ws.getD j 0:Nat):Int)=0:=fun e=>hn (p.1 e)
    have r:Hid (kJ ws vs (j+1)≠ws):=fun e=>hn (by
     have:(kJ ws vs (j+1)).getD j 0=ws.getD j 0:=by rw[e]
     rwa [BS,du ⟨by omega,by omega⟩]at this)
    have u:Hid (TP w g (kJ ws vs (j+1)) (wr.setCell ⟨g,j,ν⟩ (ι .u64 ((ws.getD j 0 ||| vs.getD j 0:Nat):Int)))):=⟨⟨c,amA n.out.1 n.out.2 _⟩,by
     have h1:=m.out.gr;have h2:=iO wr g j (ι .u64 ((ws.getD j 0 ||| vs.getD j 0:Nat):Int));exact⟨h2.1.trans h1.1,h2.2.trans h1.2,h2.3.trans h1.3,cY h1.size h2.size,fun k t a=>(h2.block k (dg t h1.size) a).trans (h1.block k t a)⟩⟩
    clear p hn c d;generalize ws.getD j 0=x at f E l u;generalize vs.getD j 0=y at f cv l u;have K:(bits BinOp.andNot IntKind.u64 (y:Int) (x:Int) != 0)=η:=by simp[f]
    go_wp2_with fail;go_roundg (nw - (j+1))
    case measure=>omega
    case rel=>exact⟨j+1,η,by omega,rfl,by go_num,u,by show _↔_;exact⟨fun _=>r.out,fun _=>rfl⟩⟩
  ·obtain rfl:j=nw:=by omega
   go_wp2_with fail;go_ret;exact⟨b,rfl,by rw[z.out];exact m.out,by rw[z.out];exact B.out⟩
def lG(B:Nat)(w:ω)(v:υ)(xs:List Nat):Prop :=
 (v=ς ν 0 0/\xs=[])\/∃g o cap cur,v=ς (ο ⟨g,o,ν⟩) xs.length cap/\B<=g/\w.heap[g]?=ο (ζ cur 3 (0,0))/\xs.length<=cap/\cap<=maxLen/\o+cap<=cur.size/\∀(j x:Nat),xs[j]?=ο x->cur[o+j]?=ο (ι ξ (x:Int))
theorem lG.lt{f:List Nat}(h:lG B w v f):∀g,v.ownBlock=ο g->B<=g/\g<w.heap.size:=by
 intro g a;rcases h with ⟨rfl,-⟩|⟨j,o,d,b,rfl,i,c,-⟩
 ·cases a
 ·cases a
  exact⟨i,(ei.1 c).1⟩
theorem lG.move{c:List Nat}(h:lG B w v c)(d:∀g,v.ownBlock=ο g->w'.heap[g]?=w.heap[g]?):lG B w' v c:=by
 rcases h with h|⟨g,o,b,a,rfl,i,f,h1⟩
 ·exact .inl h
 ·exact .inr ⟨g,o,b,a,rfl,i,(d g rfl).trans f,h1⟩
theorem lG.typ{d:List Nat}(h:lG B w v d){g:Nat}(a:v.ownBlock=ο g):∃cur,w.heap[g]?=ο (ζ cur 3 (0,0)):=by
 rcases h with ⟨rfl,-⟩|⟨i,o,c,cur,rfl,f,b,h1⟩
 ·cases a
 ·cases a;exact⟨_,b⟩
theorem lG.form{b:List Nat}(h:lG B w v b):∃a cap,v=ς a b.length cap:=by
 rcases h with ⟨rfl,rfl⟩|⟨g,o,cap,c,rfl,-⟩
 ·exact⟨_,_,rfl⟩
 ·exact⟨_,_,rfl⟩
theorem lG.front{x:Nat}{a:List Nat}(h:lG B w v (x::a)):∃g o cap,v=ς (ο ⟨g,o,ν⟩) (a.length+1) cap/\a.length+1<=cap/\w.cell? ⟨g,o,ν⟩=ο (ι ξ (x:Int))/\lG B w (ς (if cap=1 then ο ⟨g,o,ν⟩ else ο ⟨g,o+1,ν⟩) a.length (cap-1)) a:=by
 rcases h with ⟨-,h⟩|⟨g,o,cap,b,rfl,d,c,h1,h2,h3,h4⟩
 ·cases h
 ·rw[eh]at h1
  refine⟨g,o,cap,rfl,h1,?_,?_⟩
  ·have:=h4 0 x rfl
   simpa [World.cell?,c]using this
  ·by_cases hc:cap=1
   ·rw[du hc]
    have f:a=[]:=ir (by omega);subst f;exact .inr ⟨g,o,cap-1,b,rfl,d,c,fi _,by omega,by omega,fun j x h=>by cases h⟩
   ·rw[dt hc]
    exact .inr ⟨g,o+1,cap-1,b,rfl,d,c,by omega,by omega,by omega,fun j y i=>by rw[AT,BT 1 j];exact h4 (j+1) y i⟩
theorem af3{P:Program}{ty:Nat}{i:TypeInfo}(C:P.underlying t=ο (.slice 3))(G:P.info? 3=ο i)(H:i.zero=ο (.int ξ 0))(q:i.size=1)(s:i.bytes=8){b:List Nat}(h:lG B w v b)(M:B<=w.heap.size)(a:Addr)(c x:Nat)(L:w.cell? (a.add 0)=ο (.int ξ (x:Int)))(N:b.length+1<=1000000):∃v' w',(Builtin.append_ #[t,t] ty #[v,.slice (ο a) 1 c]).run P w=.ok v' w'/\lG B w' v' (b++[x])/\w.grownBy w' v.ownBlock/\(v'.ownBlock=v.ownBlock\/v'.ownBlock=ο w.heap.size):=by
 have m:∀j u,([ι ξ (x:Int)]:List υ)[j]?=ο u->w.cell? (a.add j)=ο u:=fun j u d=>by
  cases j with
  |zero=>cases d;exact L
  |succ j=>simp at d
 have gr:∀(f:Nat)(row:Option Nat),lG B (w.drew.alloc (ζ ((b.map fun y:Nat=>ι ξ (y:Int)).toArray++([ι ξ (x:Int)]:List υ).toArray++Builtin.zeroCells (ι ξ 0).cells (grownCap w (b.length+1) f 3 - (b.length+1))) 3)) (ς (ο ⟨w.heap.size,0,ν⟩) (b.length+1) (grownCap w (b.length+1) f 3)) (b++[x])/\w.grownBy (w.drew.alloc (ζ ((b.map fun y:Nat=>ι ξ (y:Int)).toArray++([ι ξ (x:Int)]:List υ).toArray++Builtin.zeroCells (ι ξ 0).cells (grownCap w (b.length+1) f 3 - (b.length+1))) 3)) row:=fun f row=>by
  have A:=grownCap_ge w (b.length+1) f 3;refine⟨.inr ⟨w.heap.size,0,grownCap w (b.length+1) f 3,_,by simp,M,py w.drew _,by simpa using A,yq w _ f 3 (by unfold maxLen;omega),?_,fun j y d=>?_⟩,⟨rfl,rfl,rfl,by simp,fun k D _=>heap_alloc_old w.drew _ D⟩⟩
  ·simp[size_zeroCells,Value.cells];omega
  ·have p:=(cH.1 d).1
   rw[cJ,gw]at p;rw[fX,pP (by simp;omega)];rw[kh]at d
   split at d
   ·rename_i z
    rw[pP (by simpa using z)];simp[d]
   ·rename_i z
    obtain rfl:j=b.length:=by omega
    simp at d;subst d;rw[Array.getElem?_append_right (by simp)];simp
 rcases h with ⟨rfl,rfl⟩|⟨g,o,l,n,rfl,J,E,h1,h2,h3,h4⟩
 ·have F:=run_append_nil (P:=P) w t ty 3 i _ C G H a 1 c [ι ξ (x:Int)] (by simp[q]) m (by omega) (by omega) (by rw[s];omega)
  have:=gr 0 ν;simp only[List.length_nil,Nat.zero_add,List.map_nil,Array.empty_append]at this;exact⟨_,_,F,this.1,this.2,.inr rfl⟩
 ·by_cases hroom:b.length+1<=l
  ·have I:=run_firstCells_some (P:=P) w i.size 1 a 1 c [ι ξ (x:Int)] (by simp[q]) m
   rw[q]at I;have r:=run_storeCells_at P g (o+b.length) 3 [.int ξ (x:Int)] 0 n w E (by simp;omega) (by simp[Value.oneCell']);simp only[Nat.add_zero]at r;refine⟨.slice (ο ⟨g,o,ν⟩) (b.length+1) l,w.setRow g (n.toList.take (o+b.length)++.int ξ (x:Int)::n.toList.drop (o+b.length+1)).toArray,by simp[Builtin.append_,run_underlying C,sizeOf,typeInfo,G,q,Builtin.lenOf,hroom,I,Addr.add_lit,r],?_,⟨rfl,rfl,rfl,by simp,fun k _ D=>setRow_other w g k _ (fun e=>D (by simp[Value.ownBlock,e]))⟩,.inl rfl⟩;refine .inr ⟨g,o,l,_,by simp,J,setRow_heap w g n _ 3 _ E,by simp;exact hroom,h2,by simp only[List.size_toArray,List.length_append,List.length_cons,List.length_take,List.length_drop,Array.length_toList];omega,fun j y d=>?_⟩;have p:=(cH.1 d).1;rw[cJ,gw]at p;rw[ie];rw[kh]at d
   split at d
   ·rename_i z
    have:=h4 j y d;rw[eL (by simp;omega),A0 (by omega)];simpa using this
   ·rename_i z
    obtain rfl:j=b.length:=by omega
    simp at d;subst d;rw[eQ (by simp;omega)];simp[show min (o+b.length) n.size=o+b.length by omega]
  ·have F:=run_append_grow (P:=P) w t ty 3 i _ C G H ⟨g,o,ν⟩ b.length l (b.map fun y:Nat=>ι ξ (y:Int)) (by simp[q]) (fun j u d=>?_) a 1 c [ι ξ (x:Int)] (by simp[q]) m (by omega) (by omega) (growslice_fits (by omega) (by rw[s];omega))
   ·exact⟨_,_,F,(gr l ν).1,(gr l _).2,.inr rfl⟩
   ·rw[dj]at d
    obtain⟨y,K,rfl⟩:=mS.1 d;have:=h4 j y K;rw[show (⟨g,o,ν⟩:Addr).add j=⟨g,o+j,ν⟩ by cases j <;> simp[Addr.add]];simpa [World.cell?,E]using this
theorem afd{P:Program}{b:Array Oper}{rest:List Oper}{o:Oper}{a:Act}(d:o.guard=ν)(s x:Operand)(t:TypeId)(l:o.op=.call { callee:=.builtin .append,args:=#[s,x],argTypes:=#[t,t] }){i:TypeInfo}(n:P.underlying t=ο (.slice 3))(q:P.info? 3=ο i)(E:i.zero=ο (.int ξ 0))(g:i.size=1)(f:i.bytes=8)(v:υ)(j:List Nat)(p:a.eval s=v)(h:lG B w v j)(D:B<=w.heap.size)(k:Addr)(c y:Nat)(r:a.eval x=.slice (ο k) 1 c)(A:w.cell? (k.add 0)=ο (.int ξ (y:Int)))(u:j.length+1<=1000000)
  (z:∀v' w',lG B w' v' (j++[y])->w.grownBy w' v.ownBlock->(v'.ownBlock=v.ownBlock\/v'.ownBlock=ο w.heap.size)->wpList P b Q rest (a.put o.dst v') w'):wpList P b Q (o::rest) a w:=by
 refine wpList_plain d fun K C=>?_
 obtain⟨v',w',m,h2,h3,h4⟩:=af3 (P:=P) (ty:=o.type) n q E g f h D k c y A u;unfold Oper.wp execOp;simp only[l,resolve,invoke,builtin,Sem.run_bind,Sem.run_pure,Result.andThen_ok,List.map_toArray,List.map_cons,List.map_nil,p,r,m];exact C _ _ (z v' w' h2 h3 h4)
theorem cell_below(h:φ w.heap.size w w'){a:Addr}(b:w.cell? a=ο v):w'.cell? a=ο v:=(cQ (w:=w) (h.block a.block (vy w a b))).trans b
theorem PP.at{D:Nat->Prop}{w:ω}{v:υ}{P:List Lx.Pd}(h:PP D w v P){j:Nat}(i:j<P.length):∃g cap u,v=ς (ο ⟨g,0,ν⟩) P.length cap/\IR 0 w u P[j].right/\w.cell? ⟨g,j*3,ν⟩=ο (ι ξ (P[j].left:Int))/\w.cell? ⟨g,j*3+1,ν⟩=ο u/\w.cell? ⟨g,j*3+2,ν⟩=ο (ι ξ P[j].prec):=by
 obtain⟨c,h1,h2,h3,-⟩:=h;have k:Tr.Seq (fun _=>True) w 143 3 tY (fun u q=>IR 0 w u q.right) v P:=⟨c,h1,h2,fun _ _=>trivial,fun q d=>(h3 q d).1⟩;obtain⟨g,cap,u,b,-,f,a⟩:=Seq.at k (fun _=>rfl) i;exact⟨g,cap,u,b,f,a 0 (by decide),a 1 (by decide),a 2 (by decide)⟩
theorem PP.below{D:Nat->Prop}{P:List Lx.Pd}(h:PP D w v P)(a:φ w.heap.size w w'):PP D w' v P:=by
 obtain⟨c,h1,h2,h3,h4⟩:=h;exact⟨c,h1,own_below h2 a,fun q b=>⟨own_below (h3 q b).1 a,(h3 q b).2⟩,h4⟩
namespace Lx
abbrev au:=Nat×Nat
def bW(P:List Pd)(k:Nat):List Nat:=(P[k]?.map Pd.right).getD []
def eF(P:List Pd)(s:au):Option Nat:=(bW P s.1)[s.2]?
def iK(P:List Pd)(n:Nat):Nat->List au
 |0=>[]
 |k+1=>iK P n k++(if (P[k]?.map Pd.left)=ο n then [(k,0)] else [])
theorem FJ{P:List Pd}{n:Nat}{s:au}:∀{k:Nat},s∈iK P n k↔s.2=0/\s.1<k/\P[s.1]?.map Pd.left=ο n
 |0=>by simp[iK]
 |k+1=>by
  rw[iK,dq,FJ];constructor
  ·rintro(⟨h1,h2,h3⟩ | h)
   ·exact⟨h1,by omega,h3⟩
   ·split at h
    ·rename_i a
     rw[dd]at h;subst h;exact⟨rfl,by simp,a⟩
    ·cases h
  ·rintro⟨h1,h2,h3⟩
   by_cases e:s.1=k
   ·right
    rw[du (e▸h3),dd];exact sE e h1
   ·exact .inl ⟨h1,by omega,h3⟩
theorem Y4{P:List Pd}{n:Nat}:∀k:Nat,(iK P n k).Nodup
 |0=>ot
 |k+1=>by
  rw[iK,j7];refine⟨Y4 k,?_,fun a d b c=>?_⟩
  ·split <;> simp
  ·split at c
   ·rw[dd]at c
    subst c;have:=(FJ.1 d).2.1;intro e;rw[e]at this;exact absurd this (qT _)
   ·cases c
def xS(P:List Pd)(n:Option Nat)(l:List au):Nat->List au
 |0=>l
 |k+1=>if (P[k]?.map Pd.left)=n/\n≠ν/\(k,0)∉l then xS P n l k++[(k,0)] else xS P n l k
theorem Od{P:List Pd}{n:Nat}{l:List au}:∀k:Nat,xS P (ο n) l k=l++(iK P n k).filter fun s=>decide (s∉l)
 |0=>by simp[xS,iK]
 |k+1=>by
  rw[xS,iK,mT,Od k]
  by_cases h1:P[k]?.map Pd.left=ο n
  ·rw[du h1]
   by_cases h2:(k,0)∈l
   ·rw[dt (fun h=>h.2.2 h2)]
    simp[h2]
   ·rw[du ⟨h1,by simp,h2⟩]
    simp[h2,List.append_assoc]
  ·rw[dt (fun h=>h1 h.1),dt h1]
   simp
theorem Nw{P:List Pd}{l:List au}:∀k:Nat,xS P ν l k=l
 |0=>rfl
 |k+1=>by rw[xS,dt (fun h=>h.2.1 rfl),Nw k]
inductive tK (P:List Pd):List au->Nat->List au->Prop
 | done {l:List au} {i:Nat} (h:l.length<=i):tK P l i l
 | step {l r:List au} {i:Nat} (h:i<l.length) (k:tK P (xS P (eF P l[i]) l P.length) (i+1) r):tK P l i r
def qi(P:List Pd)(n:Option Nat)(l:List au)(E:List Nat):List au×List Nat :=
 match n with
 |none=>(l,E)
 |some n=>if n∈E then (l,E) else (l++iK P n P.length,n::E)
inductive Cu (P:List Pd):List au->List Nat->Nat->List au->Prop
 | done {l:List au} {E:List Nat} {i:Nat} (h:l.length<=i):Cu P l E i l
 | step {l r:List au} {E:List Nat} {i:Nat} (h:i<l.length) (k:Cu P (qi P (eF P l[i]) l E).1 (qi P (eF P l[i]) l E).2 (i+1) r):Cu P l E i r
structure Am(P:List Pd)(st:Nat)(l:List au)(E:List Nat):Prop where
 opn:∀n∈E,∀s∈iK P n P.length,s∈l
 fst:∀k,(k,0)∈l->∀n,P[k]?.map Pd.left=ο n->n∈E\/n=st
def Pq(P:List Pd)(st:Nat):Prop:=∀s n,eF P s=ο n->n≠st
theorem Am.same{st:Nat}{l:List au}(g:Pq P st)(h:Am P st l E)(s:au):xS P (eF P s) l P.length=(qi P (eF P s) l E).1/\Am P st (qi P (eF P s) l E).1 (qi P (eF P s) l E).2:=by
 cases hn:eF P s with
 |none=>exact⟨Nw _,h⟩
 |some n=>
  rw[Od];unfold qi
  by_cases hE:n∈E
  ·simp only[if_pos hE]
   refine⟨?_,h⟩;have:(iK P n P.length).filter (fun s=>decide (s∉l))=[]:=B5.2 fun x a=>by simpa using h.opn n hE x a
   rw[this,fW]
  ·simp only[if_neg hE]
   have d:∀x∈iK P n P.length,x∉l:=fun x a f=>by
    obtain⟨h1,h2,h3⟩:=FJ.1 a;have:x=(x.1,0):=sE rfl h1;rw[this]at f;rcases h.fst _ f n h3 with h4|h4
    ·exact hE h4
    ·exact g s n hn h4
   refine⟨?_,fun m b x a=>?_,fun k c m b=>?_⟩
   ·rw[List.filter_eq_self.2 fun x a=>by simpa using d x a]
   ·rcases fh.1 b with rfl | b
    ·exact dq.2 (.inr a)
    ·exact dq.2 (.inl (h.opn m b x a))
   ·rcases dq.1 c with c | c
    ·rcases h.fst k c m b with h4 | h4
     ·exact .inl (eR _ h4)
     ·exact .inr h4
    ·have:=(FJ.1 c).2.2
     rw[b]at this;cases this;exact .inl eE
theorem ajY{st:Nat}(c:Pq P st){l r:List au}(h:Cu P l E i r):Am P st l E->tK P l i r:=by
 induction h with
 |done h=>exact fun _=>.done h
 |step h _ ih=>
  intro b;obtain⟨e,a⟩:=b.same c _;refine .step h ?_;rw[e];exact ih a
theorem tK.det{l r r':List au}(h:tK P l i r):tK P l i r'->r=r':=by
 induction h with
 |done h=>
  intro a;cases a with
  |done _=>rfl
  |step h2 _=>omega
 |step h _ ih=>
  intro a;cases a with
  |done h2=>omega
  |step _ k=>exact ih k
theorem Am.kernel{st:Nat}{K:List au}(h:∀s∈K,s.2=0->P[s.1]?.map Pd.left=ο st):Am P st K [] :=
 ⟨fun n a=>(by cases a),fun k b n a=>.inr (by have:=h _ b rfl;rw[a]at this;exact fL this)⟩
theorem aal{P:List Pd}{n:Nat}:∀k:Nat,(iK P n k).length<=k
 |0=>zL0
 |k+1=>by
  rw[iK,cJ];have:=aal (P:=P) (n:=n) k
  split <;> simp <;> omega
def qy(P:List Pd)(s:au):List Nat:=(bW P s.1).drop (s.2+1)
def uE(f:Nat×Nat->Nat)(q:Nat)(l:List Nat):Nat:=l.foldl (fun a x=>f (a,x)) q
def Gp(P:List Pd)(f:Nat×Nat->Nat)(q n k:Nat):List (au×Nat):=if P[k]?.map Pd.left=ο n then (List.range ((bW P k).length+1)).map fun d=>((k,d),uE f q ((bW P k).take d)) else []
def iE(P:List Pd)(f:Nat×Nat->Nat)(q n:Nat):Nat->List (au×Nat)
  |0=>[]
  |k+1=>iE P f q n k++Gp P f q n k
theorem aaW{P:List Pd}{f:Nat×Nat->Nat}{q n k:Nat}:∀{m:Nat},k<=m->∃R,iE P f q n m=iE P f q n k++R
  |0,h=>by
    obtain rfl:k=0:=by omega
    exact⟨[],by simp⟩
  |m+1,h=>by
    by_cases hk:k=m+1
    · subst hk;exact⟨[],by simp⟩
    · obtain⟨R,a⟩:=aaW (P:=P) (f:=f) (q:=q) (n:=n) (m:=m) (show k<=m by omega)
      exact⟨R++Gp P f q n m,by rw[iE,a,dy]⟩
theorem ajZ(h:P[k]?.map Pd.left≠ο n):iE P f q n (k+1)=iE P f q n k:=by
  rw[iE,Gp,dt h,fW]
theorem aam(h:P[k]?.map Pd.left=ο n):(iE P f q n (k+1)).length=(iE P f q n k).length+((bW P k).length+1):=by
  rw[iE,Gp,du h,cJ,dk,pA]
theorem alr(b:k<P.length)(h:P[k]?.map Pd.left=ο n)(hd:d<=(bW P k).length):(iE P f q n P.length)[(iE P f q n k).length+d]?=ο ((k,d),uE f q ((bW P k).take d)):=by
  obtain⟨R,a⟩:=aaW (P:=P) (f:=f) (q:=q) (n:=n) (show k+1<=P.length by omega);rw[a,eL (by rw[aam h];omega),iE,eQ (by omega),uv,Gp,du h,dj,pT (by omega)];rfl
theorem aj0{x:Nat}(h:(bW P k)[d]?=ο x):uE f q ((bW P k).take (d+1))=f (uE f q ((bW P k).take d),x):=by
  rw[ki,h];simp[uE]
theorem NR{P:List Pd}{f:Nat×Nat->Nat}{q n:Nat}{s:au}{r:Nat}:∀m,(s,r)∈iE P f q n m↔s.1<m/\P[s.1]?.map Pd.left=ο n/\s.2<=(bW P s.1).length/\r=uE f q ((bW P s.1).take s.2)
  |0=>by simp[iE]
  |m+1=>by
    rw[iE,dq,NR m];unfold Gp;constructor
    · rintro(⟨h1,h2⟩ | h)
      · exact⟨by omega,h2⟩
      · split at h
        · rename_i a
          obtain⟨d,h1,h2⟩:=fk.1 h;cases h2;exact⟨tr _,a,Nat.le_of_lt_succ (pN.1 h1),rfl⟩
        · cases h
    · rintro⟨h1,h2,h3,h4⟩
      by_cases hk:s.1<m
      · exact .inl ⟨hk,h2,h3,h4⟩
      · obtain rfl:m=s.1:=by omega
        refine .inr ?_;rw[du h2];exact fk.2 ⟨s.2,pN.2 (by omega),by rw[h4]⟩
end Lx
def bq(a:Nat×Nat):υ:=γ #[ι ξ (a.1:Int),ι ξ (a.2:Int)]
theorem abR(a b:Nat×Nat)(h:bq a=bq b):a=b:=by
 simp only[bq,Value.agg.injEq,Array.mk.injEq,List.cons.injEq,Value.int.injEq,true_and,and_true]at h;exact sE (by omega) (by omega)
theorem OI(x y:Int)(w:ω):(part 3 #[ι ξ x,ι ξ y] 0).run prog w=.ok (ι ξ x) w:=by kernel_rfl
theorem Uz(x y:Int)(w:ω):(part 3 #[ι ξ x,ι ξ y] 1).run prog w=.ok (ι ξ y) w:=by kernel_rfl
structure uF(kt:TypeId)(f0 f1:Field):Prop where
 hu:prog.underlying kt=ο (.struct #[f0,f1])
 h0 : f0.type = 3 ∧ f0.offset = 0 ∧ f0.name ≠ "_"
 h1 : f1.type = 3 ∧ f1.offset = 1 ∧ f1.name ≠ "_"
 hs:prog.stoodInHeld kt=ε
theorem UA(d:Nat)(x y:Int)(w:ω):(Op.equalIn (d+1) 3 (ι ξ x) (ι ξ y)).run prog w=.ok (x == y) w:=by
 have a:prog.underlying 3=ο (.int ξ):=by kernel_rfl
 simp[Op.equalIn,run_underlying a,Result.andThen]
theorem uF.eq{f:TypeId}{f0 f1:Field}(h:uF f f0 f1)(a b:Nat×Nat)(w:ω):(Op.equal f (bq a) (bq b)).run prog w=.ok (decide (a=b)) w:=by
 unfold bq Op.equal Op.maxDepth;rw[Op.equalIn];obtain⟨a1,a2⟩:=a;obtain⟨d,c⟩:=b
 by_cases e:a1=d
 ·subst e
  by_cases e2:a2=c
  ·subst e2;simp[run_underlying h.hu,h.hs,h.h0,h.h1,Result.andThen,OI,Uz,UA 9998]
  ·have:¬(a2:Int)=c:=by omega
   simp[run_underlying h.hu,h.hs,h.h0,h.h1,Result.andThen,OI,Uz,UA 9998,e2,this]
 ·have:¬(a1:Int)=d:=by omega
  simp[run_underlying h.hu,h.hs,h.h0,h.h1,Result.andThen,OI,UA 9998,this,e]
theorem uF.check{c:TypeId}{f0 f1:Field}(h:uF c f0 f1)(b:Bool)(w:ω)(a:Nat×Nat):(Instr.checkKey b 10000 c (bq a)).run prog w=.ok () w:=by
 have g:prog.underlying 3=ο (.int ξ):=by kernel_rfl
 have f:∀(d:Nat)(x:Int)(w:ω),(Instr.checkKey b (d+1) 3 (.int ξ x)).run prog w=.ok () w:=fun d x w=>by simp[Instr.checkKey,run_underlying g,Result.andThen]
 unfold bq;rw[Instr.checkKey];simp[run_underlying h.hu,h.h0,h.h1,Result.andThen,OI,Uz,f 9998]
theorem als(w:ω)(a:Nat×Nat):(Instr.keyThatStays (bq a) (bq a)).run prog w=.ok (bq a) w:=by
 have:Instr.sameBits 10000 (bq a) (bq a)=η:=by unfold bq;simp[Instr.sameBits]
 simp[Instr.keyThatStays,this]
theorem uF.find{f:TypeId}{f0 f1:Field}(h:uF f f0 f1)(a:Nat×Nat)(w:ω):∀(l:List MapEntry)(i:Nat),(∀x∈l,∃c,x.key=bq c)->((Instr.findAsking f (bq a) l i).run prog w=.ok ν w/\∀(x:MapEntry),x∈l->x.key≠bq a)\/∃(j:Nat)(e:MapEntry),(Instr.findAsking f (bq a) l i).run prog w=.ok (ο (i+j,e.val)) w/\l[j]?=ο e/\e.key=bq a
 | [],i,_=>.inl ⟨by simp[Instr.findAsking],fun x m=>by cases m⟩
 |x::l,i,hl=>by
  obtain⟨c,d⟩:=hl x (eE ..)
  by_cases e:a=c
  ·subst e
   exact .inr ⟨0,x,by simp[Instr.findAsking,d,h.eq,Result.andThen],rfl,d⟩
  ·have g:x.key≠bq a:=fun k=>e (abR _ _ (k.symm.trans d))
   rcases uF.find h a w l (i+1) (fun y b=>hl y (eR _ b)) with ⟨h1,h2⟩|⟨j,y,h1,h2,h3⟩
   ·refine .inl ⟨by simp[Instr.findAsking,d,h.eq,e,Result.andThen,h1],fun y b=>?_⟩
    rcases fh.1 b with rfl|b
    ·exact g
    ·exact h2 y b
   ·exact .inr ⟨j+1,y,by simp[Instr.findAsking,d,h.eq,e,Result.andThen,h1];omega,h2,h3⟩
theorem uF.findKey{b:TypeId}{f0 f1:Field}(h:uF b f0 f1)(a:Nat×Nat)(w:ω)(l:List MapEntry)(d:∀x∈l,∃c,x.key=bq c):((Instr.findKey b (bq a) l).run prog w=.ok ν w/\∀(x:MapEntry),x∈l->x.key≠bq a)\/∃(j:Nat)(e:MapEntry),(Instr.findKey b (bq a) l).run prog w=.ok (ο (j,e.val)) w/\l[j]?=ο e/\e.key=bq a:=by
 cases l with
 |nil=>exact .inl ⟨by simp[Instr.findKey,run_underlying h.hu,Instr.findNow,Result.andThen],fun x f=>by cases f⟩
 |cons x l=>
  have g:Instr.findNow (.struct #[f0,f1]) (bq a) (x::l) 0=ν:=by
   simp[Instr.findNow,Instr.sameNow]
  have:=h.find a w (x::l) 0 d;simp only[Nat.zero_add]at this;simpa [Instr.findKey,run_underlying h.hu,g,Result.andThen]using this
def iF{κ:Type}(K:κ->υ)(w:ω)(B:Nat)(ts:List κ):Prop:=∃es clock,w.heap[B]?=ο (.map es clock)/\es.size=ts.length/\∀(i:Nat)(e:MapEntry),es[i]?=ο e->∃t,ts[i]?=ο t/\e.key=K t/\e.val=ι ξ (i:Int)
section
variable{P:Program}{kt T E:TypeId}{κ:Type}{K:κ -> υ}{w:ω}{B:Nat}{ts:List κ}
theorem iF.lt(h:iF K w B ts):B<w.heap.size:=by
 obtain⟨b,a,h1,-⟩:=h;exact(ei.1 h1).1
theorem iF.move(h:iF K w B ts)(c:w'.heap[B]?=w.heap[B]?):iF K w' B ts:=by
 obtain⟨b,a,h1,h2⟩:=h;exact⟨b,a,c.trans h1,h2⟩
theorem iF.made(K:κ->υ)(w:ω):iF K (w.alloc (.map #[] 0)) w.heap.size []:=⟨#[],0,py w _,rfl,fun i e h=>by simp at h⟩
theorem iF.keys(h:iF K w B ts):∃es clock,w.heap[B]?=ο (.map es clock)/\es.size=ts.length/\(∀(i:Nat)(e:MapEntry),es[i]?=ο e->∃t,ts[i]?=ο t/\e.key=K t/\e.val=ι ξ (i:Int))/\∀x∈es.toList,∃c,x.key=K c/\True:=by
 obtain⟨es,clock,h1,h2,h3⟩:=h;refine⟨es,clock,h1,h2,h3,fun x d=>?_⟩;obtain⟨i,b⟩:=fb.1 d;obtain⟨t,-,a,-⟩:=h3 i x (by rw[<-gz];exact b);exact⟨t,a,trivial⟩
theorem iF.miss(a:vE P kt K (fun _ _=>True))(k:P.underlying T=ο (.map kt E))(n:∀w,(zeroValue E).run P w=.ok (.int ξ 0) w)(h:iF K w B ts){b:κ}(m:b∉ts):(Instr.lookup T (.map (ο B)) (K b) η).run P w=.ok (.tuple #[.int ξ 0,.bool ε]) w:=by
 obtain⟨l,c,h1,h2,h3,h4⟩:=h.keys;rcases a.find w b l.toList trivial h4 with ⟨f,-⟩|⟨j,e,-,i,g⟩
 ·simp[Instr.lookup,run_underlying k,MapKept.run_getObj_map h1,a.check,f,n,Result.andThen]
 ·obtain⟨t,ht,d,-⟩:=h3 j e (by rw[<-gz];exact i)
  exact absurd (a.inj _ _ (g.symm.trans d)▸cM ht) m
theorem iF.hit(p:vE P kt K (fun _ _=>True))(y:P.underlying T=ο (.map kt E))(h:iF K w B ts)(r:ts.Nodup){b:κ}(n:ts[i]?=ο b):(Instr.lookup T (.map (ο B)) (K b) η).run P w=.ok (.tuple #[.int ξ (i:Int),.bool η]) w:=by
 obtain⟨c,l,h1,h2,h3,h4⟩:=h.keys;rcases p.find w b c.toList trivial h4 with ⟨g,f⟩|⟨j,e,g,x,s⟩
 ·obtain⟨q,-⟩:=cH.1 n
  have o:c[i]?=ο c[i]:=lr (by omega);obtain⟨t,d,a,-⟩:=h3 i _ o;rw[n]at d;cases d;exact absurd a (f _ (by simp))
 ·have k:c[j]?=ο e:=by rw[<-gz];exact x
  obtain⟨t,d,a,v⟩:=h3 j e k;have:=p.inj _ _ (s.symm.trans a);subst this;have m:j=i:=by
   obtain⟨A,u⟩:=cH.1 d;obtain⟨C,z⟩:=cH.1 n;exact(mC r).1 (u.trans z.symm)
  subst m;rw[v]at g;simp[Instr.lookup,run_underlying y,MapKept.run_getObj_map h1,p.check,g,Result.andThen]
theorem iF.put(m:vE P kt K (fun _ _=>True))(u:P.underlying T=ο (.map kt E))(h:iF K w B ts){b:κ}(q:b∉ts):∃w',(Instr.mapUpdate T (.map (ο B)) (K b) (.int ξ (ts.length:Int))).run P w=.ok () w'/\iF K w' B (ts++[b])/\w.grownBy w' (ο B)/\w'.heap.size=w.heap.size:=by
 obtain⟨n,a,h1,h2,h3,h4⟩:=h.keys;have d:∀o:Obj,w.grownBy { w with heap:=w.heap.setIfInBounds B o } (ο B):=fun o=>⟨rfl,rfl,rfl,by simp,fun k _ l=>(qk h1).2 k (fun e=>l (by rw[e]))⟩
 rcases m.find w b n.toList trivial h4 with ⟨p,-⟩|⟨j,e,-,s,l⟩
 ·refine⟨{ w with heap:=w.heap.setIfInBounds B (.map (n.push { key:=K b,val:=ι ξ (ts.length:Int),born:=a }) (a+1)) },?_,⟨_,a+1,(qk h1).1,by simp[h2],?_⟩,d _,by simp⟩
  ·simp[Instr.mapUpdate,run_underlying u,MapKept.run_getObj_map h1,m.check,p,MapKept.run_setObj_map _ h1,Result.andThen]
  ·intro i e g
   rw[p6]at g
   split at g
   ·rename_i f
    cases g;refine⟨b,?_,rfl,by rw[f,h2]⟩;rw[f,h2];simp
   ·obtain⟨t,ht,c,r⟩:=h3 i e g
    refine⟨t,?_,c,r⟩;rw[eL (cH.1 ht).1];exact ht
 ·obtain⟨t,ht,c,-⟩:=h3 j e (by rw[<-gz];exact s)
  exact absurd (m.inj _ _ (l.symm.trans c)▸cM ht) q
end
theorem uF.key{b:TypeId}{f0 f1:Field}(h:uF b f0 f1):vE prog b bq (fun _ _=>True) where
 inj:=abR
 check em w a:=h.check em w a
 find w a l _ hl:=h.findKey a w l fun x f=>by obtain⟨c,d,-⟩:=hl x f;exact⟨c,d⟩
 stays w a:=als w a
theorem Tryz.JV : vE prog 172 bq (fun _ _ => True) := uF.key (f0 := ⟨ "state", 3, 0, false, "", "comb/look", 0⟩) (f1 := ⟨ "symbol", 3, 1, false, "", "comb/look", 8⟩) ⟨by kernel_rfl, ⟨rfl, rfl, by decide⟩, ⟨rfl, rfl, by decide⟩, by kernel_rfl⟩
theorem Tryz.Ko : vE prog 187 bq (fun _ _ => True) := uF.key (f0 := ⟨ "state", 3, 0, false, "", "comb/look", 0⟩) (f1 := ⟨ "prod", 3, 1, false, "", "comb/look", 8⟩) ⟨by kernel_rfl, ⟨rfl, rfl, by decide⟩, ⟨rfl, rfl, by decide⟩, by kernel_rfl⟩
theorem Tryz.JW:prog.underlying 84=ο (.map 172 3):=by kernel_rfl
theorem Tryz.JH:prog.underlying 183=ο (.map 187 3):=by kernel_rfl
section
open Go.RowKit Go.Shelf
open Tr
attribute [local go_sem] my
structure sJ(w:ω)(F:Nat->Prop)(g:Nat)(P:List Lx.Pd):Prop where
 own:F g
 row:∀(k:Nat)(p:Lx.Pd),P[k]?=ο p->∃ra rc,w.cell? ⟨g,k*3,ν⟩=ο (ι ξ (p.left:Int))/\w.cell? ⟨g,k*3+1,ν⟩=ο (ς ra p.right.length rc)/\w.cell? ⟨g,k*3+2,ν⟩=ο (ι ξ p.prec)/\p.right.length<=rc/\((ra=ν/\p.right=[]/\rc=0)\/∃b,ra=ο ⟨b,0,ν⟩/\F b/\∀(j x:Nat),p.right[j]?=ο x->w.cell? ⟨b,j,ν⟩=ο (ι ξ (x:Int)))
theorem sJ.move{g:Nat}{P:List Lx.Pd}(h:sJ w F g P)(f:∀b,F b->w'.heap[b]?=w.heap[b]?):sJ w' F g P:=by
 refine⟨h.own,fun k p hp=>?_⟩;obtain⟨i,m,h1,h2,h3,h4,c⟩:=h.row k p hp;have a:=f g h.own;refine⟨i,m,(cQ (w:=w) a).trans h1,(cQ (w:=w) a).trans h2,(cQ (w:=w) a).trans h3,h4,?_⟩;rcases c with c|⟨b,e,d,n⟩
 ·exact .inl c
 ·exact .inr ⟨b,e,d,fun j x l=>(cQ (w:=w) (f b d)).trans (n j x l)⟩
structure Ma(w0:ω)(F:Nat->Prop)(W:ω)(bm:Nat)(v0 v1 vP v3 v4:υ)(gm:Nat)(f:Nat×Nat->Nat):Prop where
 blk:aj W bm #[v0,v1,vP,v3,v4,.map (ο gm)] 86
 keep:∀b,F b->W.heap[b]?=w0.heap[b]?
 goes:bZ bq (fun _=>True) W gm (fun a=>(f a:Int))
def encS(x:au×Nat):Array υ:=#[bq x.1,ι ξ (x.2:Int)]
theorem aan{P:List Lx.Pd}(hP:sJ w0 F gP P)(aa:P.length<=200)(T:∀k,(bW P k).length<=2002):xP prog 165 #[π (ο ⟨bm,0,ν⟩),π (ο ⟨bs,0,ν⟩)] encS (iE P f q n P.length) (fun W=>Ma w0 F W bm v0 v1 (ς (ο ⟨gP,0,ν⟩) P.length pc) v3 v4 gm f/\aj W bs #[ι ξ (q:Int),ι ξ (n:Int)] 172):=by
 intro l J W hJ z hY R;refine gh.1 (uC (F:=Fence.wide) (n:=9) func165 rfl trivial ?_ rfl);simp only[ntmps165,List.size_toArray,List.length_cons,List.length_nil,Nat.reduceAdd,Nat.reduceSub,Array.replicate_succ,Array.replicate_zero,List.push_toArray,List.append_toArray,List.nil_append,List.cons_append];have m2:=(z _ _ _ R).1.blk.a2
 gi_wp2
 gi_loopg [13] P.length (fun m i wr=>∃(k:Nat)(Z:Nat->Prop),k+m=P.length/\i=ι ξ (k:Int)/\J (iE P f q n k).length Z wr)
 case atStart=>exact⟨0,_,by omega,rfl,R⟩
 case round=>
  clear R m2;obtain⟨k,Z,hk,rfl,E⟩:=hrel
  by_cases hlt:k<P.length
  ·obtain⟨p,t⟩:∃p,P[k]?=ο p:=⟨_,cG hlt⟩
   obtain⟨L,K,c0,c1,c2,-,u⟩:=(hP.move (z _ _ _ E).1.keep).row k p t;have y:bW P k=p.right:=by simp[bW,t]
   have ab:=y▸T k;have HB:Hid (∀(j x:Nat),p.right[j]?=ο x->∃b,L=ο ⟨b,0,ν⟩/\F b/\w0.cell? ⟨b,j,ν⟩=ο (ι ξ (x:Int))):=fun j x A=>by
    rcases u with ⟨-,h,-⟩|⟨b,e,U,hc⟩
    ·rw[h]at A;cases A
    ·exact⟨b,e,U,(cQ (w:=wr) ((z _ _ _ E).1.keep b U).symm).trans (hc j x A)⟩
   clear u;have j1:(0:Int)<=(k:Int):=by omega
   have j2:(k:Int)<(P.length:Int):=by omega
   gi_upto_region 3 with fail
   obtain⟨Y,g⟩:=aC (wr.alloc (ζ #[ι ξ (p.left:Int),ς L p.right.length K,ι ξ p.prec] 143));rw[<-g];obtain⟨G,c,v⟩:∃G:Nat->Prop,J (iE P f q n k).length G Y/\G wr.heap.size:=⟨fun x=>Z x\/x=wr.heap.size,by rw[g];exact hJ.new _ _ _ _ E,.inr rfl⟩;have kB:aj Y wr.heap.size #[ι ξ (p.left:Int),ς L p.right.length K,ι ξ p.prec] 143:=by rw[g];exact aj.new ..
   generalize wr.heap.size=bp at c kB v|-;clear g E c0 c1 c2;have kS:=(z _ _ _ c).2;have b0:=kB.a0;have Q:=kB.a1;have s0:=kS.a0;have s1:=kS.a1
   by_cases hl:p.left=n
   ·have o:P[k]?.map Lx.Pd.left=ο n:=by rw[t,<-hl];rfl
    have e1:((p.left:Int) != (n:Int))=ε:=by simp[hl]
    have e2:¬(p.left:Int)≠(n:Int):=by simp[hl]
    clear hl
    gi_wp2
    gi_loopg [6,28] p.right.length (fun m av i I=>∃(d:Nat)(B:Nat->Prop),d+m=p.right.length/\i=ι ξ (d:Int)/\av=ι ξ (uE f q (p.right.take d):Int)/\J ((iE P f q n k).length+d) B I/\B bp/\aj I bp #[ι ξ (p.left:Int),ς L p.right.length K,ι ξ p.prec] 143)
    case atStart=>exact⟨0,G,by omega,rfl,rfl,c,v,kB⟩
    case round=>
     clear kS b0 Q s0 s1 c v kB;revert wr;intro I hrel;obtain⟨d,B,hd,rfl,rfl,r,C,kB⟩:=hrel;obtain⟨fn,tmps,assign,body,H,M⟩:=hY _ _ B I (alr hlt o (show d<=_ by rw[y];omega)) r;rw[y]at H;simp only[encS,bq]at H
     by_cases hdl:d<p.right.length
     ·obtain⟨x,A⟩:∃x,p.right[d]?=ο x:=⟨_,cG hdl⟩
      obtain⟨b,rfl,K8,N⟩:=HB.out d x A;have N:=(cQ (w:=w0) ((z _ _ _ r).1.keep b K8)).trans N;have j3:(0:Int)<=(d:Int):=by omega
      have j4:(d:Int)<(p.right.length:Int):=by omega
      gi_wp2
      refine(BH M).mono ?_;rintro e X⟨rfl,s,D⟩;have S:aj X bp #[ι ξ (p.left:Int),ς (ο ⟨b,0,ν⟩) p.right.length K,ι ξ p.prec] 143:=(D bp C kB.lt).trans kB;have O:=(z _ _ _ s).1;have m5:=O.blk.a5;have lk:=bZ.look Tryz.JV Tryz.JW Tryz.Gl (fun _ _=>trivial) O.goes (a:=(uE f q (p.right.take d),x)) trivial;simp only[bq]at lk;have V:f (uE f q (p.right.take d),x)=uE f q (p.right.take (d+1)):=by
       have:=aj0 (P:=P) (f:=f) (q:=q) (k:=k) (d:=d) (x:=x) (by rw[y];exact A);rw[y]at this;exact this.symm
      have HE:Hid (f (uE f q (p.right.take d),x)=uE f q (p.right.take (d+1))):=V;clear V D O H M kB r N
      gi_wp2
      gi_roundg (p.right.length - (d+1))
      case measure=>omega
      case rel=>exact⟨d+1,B,by omega,by go_num,by rw[HE.out],s,C,S⟩
     ·obtain rfl:d=p.right.length:=by omega
      rw[ff]at H;have Q:=kB.a1
      gi_wp2
      refine(BH M).mono ?_;rintro e X⟨rfl,s,-⟩;clear H M kB r Q
      gi_wp2
      gi_roundg (P.length - (k+1))
      case measure=>omega
      case rel=>exact⟨k+1,B,by omega,by go_num,by rw[aam o,y];exact s⟩
   ·have o:P[k]?.map Lx.Pd.left≠ο n:=fun e=>hl (by rw[t]at e;simpa using e)
    have e1:((p.left:Int) != (n:Int))=η:=by simp;omega
    have e2:(p.left:Int)≠(n:Int):=by omega
    clear kB kS
    gi_wp2
    gi_roundg (P.length - (k+1))
    case measure=>omega
    case rel=>exact⟨k+1,G,by omega,by go_num,by rw[ajZ o];exact c⟩
  ·gi_wp2
   go_end0
   exact⟨⟨_,rfl⟩,Z,by rw[show P.length=k by omega];exact E⟩
end
section
open Go.RowKit Go.Shelf
open Tr
attribute [local go_sem] my
theorem aao{a b:υ}{x:Int}:χ prog 118 #[γ #[v0,v1,a,v3,v4,b],γ #[ι ξ x,ι ξ y]] w fun e w'=>e=δ (.func (.func 165) #[] #[π (ο ⟨w.heap.size,0,ν⟩),π (ο ⟨w.heap.size+1,0,ν⟩)])/\w'=(w.alloc (ζ #[v0,v1,a,v3,v4,b] 86)).alloc (ζ #[ι ξ x,ι ξ y] 172):=by
 go_enter func118,ntmps118;go_wp2_with fail;go_ret;exact⟨rfl,rfl⟩
theorem aiM{a b:υ}{x:Int}:χ prog 62 #[γ #[v0,v1,a,v3,v4,b],γ #[ι ξ x,ι ξ y]] w fun e w'=>e=δ (.func (.func 117) #[] #[π (ο ⟨w.heap.size,0,ν⟩),π (ο ⟨w.heap.size+1,0,ν⟩)])/\w'=(w.alloc (ζ #[v0,v1,a,v3,v4,b] 86)).alloc (ζ #[ι ξ x,ι ξ y] 172):=by
 go_enter func62,ntmps62;go_wp2_with fail;go_ret;exact⟨rfl,rfl⟩
theorem aj1{a b:υ}{x:Int}:χ prog 120 #[γ #[v0,v1,a,v3,v4,b],γ #[ι ξ x,ι ξ y]] w fun e w'=>e=δ (.func (.func 166) #[] #[π (ο ⟨w.heap.size,0,ν⟩),π (ο ⟨w.heap.size+1,0,ν⟩)])/\w'=(w.alloc (ζ #[v0,v1,a,v3,v4,b] 86)).alloc (ζ #[ι ξ x,ι ξ y] 172):=by
 go_enter func120,ntmps120;go_wp2_with fail;go_ret;exact⟨rfl,rfl⟩
namespace Lx
def iN(P:List Pd)(nT:Nat)(x:au×Nat):Bool:=match eF P x.1 with
 |some m=>decide (nT<=m)
 |none=>ε
def Dg(P:List Pd)(x:au×Nat):Bool:=decide (x.1.2=(bW P x.1.1).length)
theorem F5{α:Type}{g:α->Bool}{a:List α}{x:α}(h:a[i]?=ο x):(a.take (i+1)).filter g=(a.take i).filter g++(if g x then [x] else []):=by
 rw[ki,h,mT];cases hg:g x <;> simp[hg]
theorem adI{α:Type}{g:α->Bool}{a:List α}{x:α}(h:a[i]?=ο x)(b:g x=η):(a.filter g)[((a.take i).filter g).length]?=ο x:=by
 have e:a.filter g=(a.take (i+1)).filter g++(a.drop (i+1)).filter g:=by rw[<-mT,lj]
 rw[e,F5 h,b,dy,eQ (zL0),io];rfl
end Lx
def tailV:υ->Nat->υ
 | ς (ο ⟨b,o,s⟩) n c,i=>ς (if c-i=1 then ο ⟨b,o+i,s⟩ else ο ⟨b,o+i+1,s⟩) (n-i-1) (c-i-1)
 |v,_=>v
def GU(w:ω)(g k:Nat):υ:=(w.cell? ⟨g,k*3+1,ν⟩).getD undef
def Vn(w0:ω)(gP:Nat)(P:List Lx.Pd)(x:au×Nat):Array υ:=#[bq (x.2,(eF P x.1).getD 0),tailV (GU w0 gP x.1.1) x.1.2]
def xU(J:Nat->(Nat->Prop)->ω->Prop)(c:Nat->Nat)(n0 n:Nat)(R:ω->Prop)(i:Nat)(Z:Nat->Prop)(W:ω):Prop:=J (c i) (fun k=>Z k\/(n0<=k/\k<n)) W/\(∀k,Z k->n<=k)/\n<=W.heap.size/\R W
def Pt(n0 n:Nat)(R:ω->Prop):Prop:=n0<n/\∀A B:ω,(∀k,n0<=k->k<n->B.heap[k]?=A.heap[k]?)->R A->R B
theorem xU.oD(d:sF J){f:Nat}(b:Pt f n R):sF (xU J c f n R) where
 own i Z A B row hs hg hr:=by
  obtain⟨h1,h2,h3,h4⟩:=hs;refine⟨d.own _ _ A B row h1 hg fun r e=>.inl (hr r e),h2,cY h3 hg.size,b.2 A B (fun k _ a=>hg.block k (by omega) fun e=>?_) h4⟩;have:=h2 k (hr k e.symm);omega
 new i Z A o hs:=by
  obtain⟨h1,h2,h3,h4⟩:=hs;refine⟨JS (d.new _ _ A o h1) fun k=>by grind,fun k a=>?_,by rw[eC];omega,b.2 A _ (fun k _ a=>ed _ _ _ (by omega)) h4⟩;rcases a with a|a
  ·exact h2 k a
  ·omega
theorem xU.next{Z:Nat->Prop}{d:ω}{a:Act}(h:xU J c b n R i Z W)(g:Pt b n R)(h3:J (c (i+1)) (fun k=>Z k\/(b<=k/\k<n)) d)(f:∀k,(Z k\/(b<=k/\k<n))->k<W.heap.size->d.heap[k]?=W.heap[k]?):tq Z (xU J c b n R (i+1) Z) W .normal a d:=by
 obtain⟨h1,h2,h4,o⟩:=h;have:=g.1;refine⟨⟨h3,h2,?_,g.2 W d (fun k l p=>f k (.inr ⟨l,p⟩) (by omega)) o⟩,fun k j m=>f k (.inl j) m⟩;have e:=f (n-1) (.inr ⟨by omega,by omega⟩) (by omega);apply jt;intro q;rw[s8 (by omega),lr (by omega)]at e;cases e
theorem aiN{P:List Lx.Pd}(hP:sJ w0 F gP P)(ab:P.length<=200)(ad:∀k,(bW P k).length<=2002):xP prog 117 #[π (ο ⟨bm,0,ν⟩),π (ο ⟨bs,0,ν⟩)] (Vn w0 gP P) ((iE P f q n P.length).filter (iN P nT)) (fun W=>Ma w0 F W bm (ς ta nT tc) v1 (ς (ο ⟨gP,0,ν⟩) P.length pc) v3 v4 gm f/\aj W bs #[ι ξ (q:Int),ι ξ (n:Int)] 172):=by
 have HS:Hid (∀bm bs,xP prog 165 #[π (ο ⟨bm,0,ν⟩),π (ο ⟨bs,0,ν⟩)] encS (iE P f q n P.length) _):=fun bm bs=>aan (w0:=w0) (F:=F) (bm:=bm) (bs:=bs) (gm:=gm) (gP:=gP) (pc:=pc) (q:=q) (n:=n) (v0:=ς ta nT tc) (v1:=v1) (v3:=v3) (v4:=v4) (f:=f) hP ab ad
 have HM:Hid (∀x∈iE P f q n P.length,x.1.1<P.length/\x.1.2<=(bW P x.1.1).length):=fun x hx=>by
  have:=(NR (s:=x.1) (r:=x.2) P.length).1 hx;exact⟨this.1,this.2.2.1⟩
 generalize iE P f q n P.length=xs at HS HM|-;intro l J W t T hY h0;refine gh.1 (callsIn_of_wp_marks (F:=Fence.wide) (n:=9) func117 rfl trivial ?_ rfl);simp only[ntmps117,List.size_toArray,List.length_cons,List.length_nil,Nat.reduceAdd,Nat.reduceSub,Array.replicate_succ,Array.replicate_zero,List.push_toArray,List.append_toArray,List.nil_append,List.cons_append]
 gi_upto_region 1 with fail
 obtain⟨S,o⟩:=aC (W.alloc (ζ #[.func (.yield l) #[] #[]] 277));rw[<-o];have Q:=t.new _ _ _ (ζ #[.func (.yield l) #[] #[]] 277) h0;rw[<-o]at Q;have kY:aj S W.heap.size #[.func (.yield l) #[] #[]] 277:=by rw[o];exact aj.new ..
 have G:S.heap.size=W.heap.size+1:=by rw[o];simp
 clear o h0;generalize W.heap.size=by' at Q kY G|-;obtain⟨m,kS⟩:=T _ _ _ Q;have m0:=m.blk.a0;have m1:=m.blk.a1;have m2:=m.blk.a2;have m3:=m.blk.a3;have m4:=m.blk.a4;have m5:=m.blk.a5;have s0:=kS.a0;have s1:=kS.a1
 gi_wp2_with (refine⟨trivial,?_⟩;gi_at_call 118;refine(gh.2 aao).mono ?_;rintro e w2⟨rfl,c⟩)
 have j:=t.new _ _ _ (ζ #[ι ξ (q:Int),ι ξ (n:Int)] 172) (t.new _ _ _ (ζ #[ς ta nT tc,v1,ς (ο ⟨gP,0,ν⟩) P.length pc,v3,v4,.map (ο gm)] 86) Q);have kA:aj w2 S.heap.size #[ς ta nT tc,v1,ς (ο ⟨gP,0,ν⟩) P.length pc,v3,v4,.map (ο gm)] 86:=by rw[c];exact(aj.new ..).alloc _
 have kC:aj w2 (S.heap.size+1) #[ι ξ (q:Int),ι ξ (n:Int)] 172:=by
  rw[c];have:=aj.new (S.alloc (ζ #[ς ta nT tc,v1,ς (ο ⟨gP,0,ν⟩) P.length pc,v3,v4,.map (ο gm)] 86)) #[ι ξ (q:Int),ι ξ (n:Int)] 172
  rwa [eC]at this
 have Mc:aj w2 by' #[.func (.yield l) #[] #[]] 277:=by rw[c];exact(kY.alloc _).alloc _
 have af:w2.heap.size=by'+3:=by rw[c];simp;omega
 rw[<-c,eC]at j;rw[<-c];rw[G]at j kA kC;clear c Q kY G m kS m0 m1 m2 m3 m4 m5 s0 s1;have Xg:J 0 (fun k=>False\/(by'<=k/\k<by'+3)) w2:=JS j fun k=>by grind
 clear j;have ac:=HS.out (by'+1) (by'+1+1);clear HS;obtain⟨R,E,M,Xh⟩:∃R:ω->Prop,Pt by' (by'+3) R/\Hid (∀W,R W->aj W by' #[.func (.yield l) #[] #[]] 277/\aj W (by'+1) #[ς ta nT tc,v1,ς (ο ⟨gP,0,ν⟩) P.length pc,v3,v4,.map (ο gm)] 86/\aj W (by'+1+1) #[ι ξ (q:Int),ι ξ (n:Int)] 172)/\R w2 :=
  ⟨_,⟨by omega,fun A B h Y=>⟨(h _ (by omega) (by omega)).trans Y.1,(h _ (by omega) (by omega)).trans Y.2.1,(h _ (by omega) (by omega)).trans Y.2.2⟩⟩,fun _ h=>h,Mc,kA,kC⟩
 clear Mc kA kC;refine BF (gf:=165) (lb:=#[π (ο ⟨by'+1,0,ν⟩),π (ο ⟨by'+1+1,0,ν⟩)]) rfl (enters_of func165 (by kernel_rfl) rfl) ac (fun _=>rfl)
  (xU J (fun i=>((xs.take i).filter (iN P nT)).length) by' (by'+3) R) (xU.oD t E)
  (fun i Z W h=>⟨⟨(M.out W h.2.2.2).2.1,(T _ _ _ h.1).1.keep,(T _ _ _ h.1).1.goes⟩,(M.out W h.2.2.2).2.2⟩) ⟨Xg,fun k h=>h.elim,by omega,Xh⟩
  (fun x a' W=>∃C,by'+5<=C/\aj W C #[ι ξ (x.1.1:Int),ι ξ (x.1.2:Int)] 109/\a'={ tmps:=#[.func (.yield l) #[] #[],π (ο ⟨bm,0,ν⟩),π (ο ⟨bs,0,ν⟩),π (ο ⟨by',0,ν⟩),π (ο ⟨C,0,ν⟩),ι ξ (x.2:Int),undef,γ #[ς ta nT tc,v1,ς (ο ⟨gP,0,ν⟩) P.length pc,v3,v4,.map (ο gm)],γ #[ι ξ (q:Int),ι ξ (n:Int)],.func (.func 165) #[] #[π (ο ⟨by'+1,0,ν⟩),π (ο ⟨by'+1+1,0,ν⟩)],bq x.1,ι ξ (x.2:Int),undef,undef,undef,undef,undef,undef,undef,undef,undef,undef,undef,undef,undef,undef,undef,undef,undef,undef,undef,undef,undef,undef,undef,undef,undef,undef,undef,undef,undef,undef,undef,undef,undef,undef],defers:=[] })
  ?hAx ?assign ?body ?done
 case hAx=>
  rintro x a' A o'⟨C,h1,h2,rfl⟩;exact⟨C,h1,(World.putObj_heap_other (by omega)).trans h2,rfl⟩
 case assign=>
  rintro l' i⟨⟨k,d⟩,r⟩Z W K hsz H y;simp only[encS,bq]
  gi_wp2
  exact y _ _ (by simp) (fun k _ hk=>ed _ _ _ hk) ((xU.oD t E).own _ _ _ _ ν H (sg _ _ ν) (fun r e=>by cases e)) ⟨W.heap.size,by omega,aj.new ..,rfl⟩
 case body=>
  rintro l' i⟨⟨k,d⟩,r⟩Z a' W hx H⟨C,ag,kX,rfl⟩;have I:=H.1;have i4:=(M.out W H.2.2.2).1;obtain⟨m,-⟩:=T _ _ _ I;have m0:=m.blk.a0;have m2:=m.blk.a2;have x0:W.cell? ⟨C,0,ν⟩=ο (ι ξ (k:Int)):=kX.cell 0;have x1:W.cell? ⟨C,1,ν⟩=ο (ι ξ (d:Int)):=kX.cell 1;have y0:=i4.a0;obtain⟨hk,hd⟩:k<P.length/\d<=(bW P k).length:=HM.out _ (cM hx);obtain⟨p,hp⟩:∃p,P[k]?=ο p:=⟨_,cG hk⟩;have X:bW P k=p.right:=by simp[bW,hp]
  rw[X]at hd;obtain⟨ra,rc,-,c1,-,ae,u⟩:=(hP.move m.keep).row k p hp;have j1:(0:Int)<=(k:Int):=by omega
  have j2:(k:Int)<(P.length:Int):=by omega
  by_cases hdl:d<p.right.length
  ·obtain⟨x,U⟩:∃x,p.right[d]?=ο x:=⟨_,cG hdl⟩
   obtain⟨b,rfl,K8,hc⟩:=u.resolve_left (fun h=>by rw[h.2.1]at U;cases U);have cx:=hc d x U;clear hc u
   gi_wp2
   refine Dx (by kernel_rfl) (by kernel_rfl) (by kernel_rfl) ?_
   repeat (gi_big_quiet_step (fail))
   refine wpQuietIn_nil ?_;rintro _⟨z,rfl⟩;have e1:(((p.right.length-d:Nat):Int) == 0)=ε:=zB0 (by omega);have e2:¬((p.right.length-d:Nat):Int)=0:=by omega
   have e3:(0:Int)<((p.right.length-d:Nat):Int):=by omega
   have e4:¬p.right.length-d=0:=by omega
   gi_wp2
   refine Dx (by kernel_rfl) (by kernel_rfl) (by kernel_rfl) ?_
   repeat (gi_big_quiet_step (fail))
   refine wpQuietIn_nil ?_;rintro _⟨v,rfl⟩;have L:eF P (k,d)=ο x:=by show (bW P k)[d]?=_;rw[X];exact U
   by_cases hn:x<nT
   ·have n1:=ge hn
    have N:iN P nT ((k,d),r)=ε:=by unfold iN;simp only[L];exact fx (by omega)
    gi_wp2
    exact H.next E (by simp only[F5 hx,N];simpa using t.drew (t.drew I _) _) (fun k _ _=>rfl)
   ·have n1:=fx hn
    have N:iN P nT ((k,d),r)=η:=by unfold iN;simp only[L];exact ge (by omega)
    gi_wp2
    refine Nn 8 (by kernel_rfl) (by kernel_rfl) (by kernel_rfl) (by kernel_rfl) ?_
    dsimp only[List.take,List.drop,List.length]
    repeat (gi_big_quiet_step (fail))
    refine wpQuietIn_nil ?_;rintro _⟨Qn,rfl⟩;obtain⟨fn,tmps,assign,body,hy,E⟩:=hY _ _ _ _ (adI hx N) (t.drew I (z+v+Qn));have cw:=(cQ (w:=W) (m.keep gP hP.own).symm).trans c1;simp only[Vn,bq,L,Option.getD_some,GU,cw,tailV,Nat.zero_add]at hy;refine wpAnyIn_ready (rs:=[8]) (by kernel_rfl) (by simp) (AllReadyIn.cons rfl (fun K y=>?_) AllReadyIn.nil)
    go_simp
    refine(BH E).mono ?_;rintro e W3⟨rfl,j,aa⟩;refine y _ _ ?_;clear y K hy E;refine wpAnyIn_ready (rs:=[9]) (by kernel_rfl) (by simp) (AllReadyIn.cons rfl (fun K y=>?_) AllReadyIn.nil)
    go_simp
    refine y _ _ (wpAnyIn_done (by kernel_rfl) ?_ _);clear y K;have g:∀a,tq Z _ W .normal a W3:=fun a=>H.next E (by simp only[F5 hx,N];simpa using j) aa
    gi_wp2
    all_goals exact g _
  ·have V:d=p.right.length:=by omega
   subst V;have N:iN P nT ((k,p.right.length),r)=ε:=by
    have:eF P (k,p.right.length)=ν:=by show (bW P k)[p.right.length]?=_;rw[X];simp
    unfold iN;simp only[this]
   have g:∀z v a,tq Z _ W .normal a ((W.drewN z).drewN v):=fun z v a=>H.next E (by simp only[F5 hx,N];simpa using t.drew (t.drew I z) v) (fun _ _ _=>rfl)
   generalize hpr:p.right.length=d at *;rcases u with ⟨rfl,O,rfl⟩|⟨b,rfl,-,-⟩
   ·obtain rfl:d=0:=by rw[O]at hpr;exact hpr.symm
    clear hpr
    gi_wp2
    refine Dx (by kernel_rfl) (by kernel_rfl) (by kernel_rfl) ?_
    repeat (gi_big_quiet_step (fail))
    refine wpQuietIn_nil ?_;rintro _⟨z,rfl⟩
    gi_wp2
    refine Dx (by kernel_rfl) (by kernel_rfl) (by kernel_rfl) ?_
    repeat (gi_big_quiet_step (fail))
    refine wpQuietIn_nil ?_;rintro _⟨v,rfl⟩
    gi_wp2
    exact g z v _
   ·have e1:(((d-d:Nat):Int) == 0)=η:=by simp
    have e2:d-d=0:=by simp
    by_cases hrd:rc-d=0
    all_goals
     gi_wp2
     refine Dx (by kernel_rfl) (by kernel_rfl) (by kernel_rfl) ?_
     repeat (gi_big_quiet_step (fail))
     refine wpQuietIn_nil ?_;rintro _⟨z,rfl⟩
     gi_wp2
     refine Dx (by kernel_rfl) (by kernel_rfl) (by kernel_rfl) ?_
     repeat (gi_big_quiet_step (fail))
     refine wpQuietIn_nil ?_;rintro _⟨v,rfl⟩
     gi_wp2
     exact g z v _
 case done=>
  rintro D Z W hD oF⟨I,-⟩y;simp only[List.take_length]at I
  gi_wp2
  refine⟨by simp,.inl ⟨_,_,rfl,run_takeDeferred y,?_⟩⟩;exact⟨_,po rfl _ _ _,⟨_,rfl⟩,_,t.put _ I (.inl oF)⟩
end
section
open Go.RowKit Go.Shelf
open Tr
attribute [local go_sem] my
def Vo(x:au×Nat):Array υ:=#[bq (x.2,x.1.1)]
theorem aj2{P:List Lx.Pd}(hP:sJ w0 F gP P)(N:P.length<=200)(X:∀k,(bW P k).length<=2002):xP prog 166 #[π (ο ⟨bm,0,ν⟩),π (ο ⟨bs,0,ν⟩)] Vo ((iE P f q n P.length).filter (Dg P)) (fun W=>Ma w0 F W bm (v0) v1 (ς (ο ⟨gP,0,ν⟩) P.length pc) v3 v4 gm f/\aj W bs #[ι ξ (q:Int),ι ξ (n:Int)] 172):=by
 have Y:Hid (∀bm bs,xP prog 165 #[π (ο ⟨bm,0,ν⟩),π (ο ⟨bs,0,ν⟩)] encS (iE P f q n P.length) _):=fun bm bs=>aan (w0:=w0) (F:=F) (bm:=bm) (bs:=bs) (gm:=gm) (gP:=gP) (pc:=pc) (q:=q) (n:=n) (v0:=v0) (v1:=v1) (v3:=v3) (v4:=v4) (f:=f) hP N X
 have HM:Hid (∀x∈iE P f q n P.length,x.1.1<P.length/\x.1.2<=(bW P x.1.1).length):=fun x hx=>by
  have:=(NR (s:=x.1) (r:=x.2) P.length).1 hx;exact⟨this.1,this.2.2.1⟩
 generalize iE P f q n P.length=xs at Y HM|-;intro l J W m H hY h0;refine gh.1 (callsIn_of_wp_marks (F:=Fence.wide) (n:=9) func166 rfl trivial ?_ rfl);simp only[ntmps166,List.size_toArray,List.length_cons,List.length_nil,Nat.reduceAdd,Nat.reduceSub,Array.replicate_succ,Array.replicate_zero,List.push_toArray,List.append_toArray,List.nil_append,List.cons_append]
 gi_upto_region 1 with fail
 obtain⟨G,c⟩:=aC (W.alloc (ζ #[.func (.yield l) #[] #[]] 334));rw[<-c];have C:=m.new _ _ _ (ζ #[.func (.yield l) #[] #[]] 334) h0;rw[<-c]at C;have U:aj G W.heap.size #[.func (.yield l) #[] #[]] 334:=by rw[c];exact aj.new ..
 have t:G.heap.size=W.heap.size+1:=by rw[c];simp
 clear c h0;generalize W.heap.size=by' at C U t|-;obtain⟨g,kS⟩:=H _ _ _ C;have m0:=g.blk.a0;have m1:=g.blk.a1;have m2:=g.blk.a2;have m3:=g.blk.a3;have m4:=g.blk.a4;have m5:=g.blk.a5;have s0:=kS.a0;have s1:=kS.a1
 gi_wp2_with (refine⟨trivial,?_⟩;gi_at_call 118;refine(gh.2 aao).mono ?_;rintro e w2⟨rfl,a⟩)
 have b:=m.new _ _ _ (ζ #[ι ξ (q:Int),ι ξ (n:Int)] 172) (m.new _ _ _ (ζ #[v0,v1,ς (ο ⟨gP,0,ν⟩) P.length pc,v3,v4,.map (ο gm)] 86) C);have kA:aj w2 G.heap.size #[v0,v1,ς (ο ⟨gP,0,ν⟩) P.length pc,v3,v4,.map (ο gm)] 86:=by rw[a];exact(aj.new ..).alloc _
 have O:aj w2 (G.heap.size+1) #[ι ξ (q:Int),ι ξ (n:Int)] 172:=by
  rw[a];have:=aj.new (G.alloc (ζ #[v0,v1,ς (ο ⟨gP,0,ν⟩) P.length pc,v3,v4,.map (ο gm)] 86)) #[ι ξ (q:Int),ι ξ (n:Int)] 172
  rwa [eC]at this
 have Mc:aj w2 by' #[.func (.yield l) #[] #[]] 334:=by rw[a];exact(U.alloc _).alloc _
 have ac:w2.heap.size=by'+3:=by rw[a];simp;omega
 rw[<-a,eC]at b;rw[<-a];rw[t]at b kA O;clear a C U t g kS m0 m1 m2 m3 m4 m5 s0 s1;have Xg:J 0 (fun k=>False\/(by'<=k/\k<by'+3)) w2:=JS b fun k=>by grind
 clear b;have T:=Y.out (by'+1) (by'+1+1);clear Y;obtain⟨R,v,u,Xh⟩:∃R:ω->Prop,Pt by' (by'+3) R/\Hid (∀W,R W->aj W by' #[.func (.yield l) #[] #[]] 334/\aj W (by'+1) #[v0,v1,ς (ο ⟨gP,0,ν⟩) P.length pc,v3,v4,.map (ο gm)] 86/\aj W (by'+1+1) #[ι ξ (q:Int),ι ξ (n:Int)] 172)/\R w2 :=
  ⟨_,⟨by omega,fun A B h M=>⟨(h _ (by omega) (by omega)).trans M.1,(h _ (by omega) (by omega)).trans M.2.1,(h _ (by omega) (by omega)).trans M.2.2⟩⟩,fun _ h=>h,Mc,kA,O⟩
 clear Mc kA O;refine BF (gf:=165) (lb:=#[π (ο ⟨by'+1,0,ν⟩),π (ο ⟨by'+1+1,0,ν⟩)]) rfl (enters_of func165 (by kernel_rfl) rfl) T (fun _=>rfl)
  (xU J (fun i=>((xs.take i).filter (Dg P)).length) by' (by'+3) R) (xU.oD m v)
  (fun i Z W h=>⟨⟨(u.out W h.2.2.2).2.1,(H _ _ _ h.1).1.keep,(H _ _ _ h.1).1.goes⟩,(u.out W h.2.2.2).2.2⟩) ⟨Xg,fun k h=>h.elim,by omega,Xh⟩
  (fun x Q W=>∃o,by'+5<=o/\aj W o #[ι ξ (x.1.1:Int),ι ξ (x.1.2:Int)] 109/\Q={ tmps:=#[.func (.yield l) #[] #[],π (ο ⟨bm,0,ν⟩),π (ο ⟨bs,0,ν⟩),π (ο ⟨by',0,ν⟩),π (ο ⟨o,0,ν⟩),ι ξ (x.2:Int),γ #[v0,v1,ς (ο ⟨gP,0,ν⟩) P.length pc,v3,v4,.map (ο gm)],γ #[ι ξ (q:Int),ι ξ (n:Int)],.func (.func 165) #[] #[π (ο ⟨by'+1,0,ν⟩),π (ο ⟨by'+1+1,0,ν⟩)],bq x.1,ι ξ (x.2:Int),undef,undef,undef,undef,undef,undef,undef,undef,undef,undef,undef,undef,undef,undef,undef,undef,undef,undef,undef,undef,undef],defers:=[] })
  ?hAx ?assign ?body ?done
 case hAx=>
  rintro x Q A o'⟨o,h1,h2,rfl⟩;exact⟨o,h1,(World.putObj_heap_other (by omega)).trans h2,rfl⟩
 case assign=>
  rintro l' i⟨⟨k,d⟩,r⟩Z W K hsz y j;simp only[encS,bq]
  gi_wp2
  exact j _ _ (by simp) (fun k _ V=>ed _ _ _ V) ((xU.oD m v).own _ _ _ _ ν y (sg _ _ ν) (fun r e=>by cases e)) ⟨W.heap.size,by omega,aj.new ..,rfl⟩
 case body=>
  rintro l' i⟨⟨k,d⟩,r⟩Z Q W hx y⟨o,ad,kX,rfl⟩;have z:=y.1;have i4:=(u.out W y.2.2.2).1;obtain⟨g,-⟩:=H _ _ _ z;have m0:=g.blk.a0;have m2:=g.blk.a2;have x0:W.cell? ⟨o,0,ν⟩=ο (ι ξ (k:Int)):=kX.cell 0;have x1:W.cell? ⟨o,1,ν⟩=ο (ι ξ (d:Int)):=kX.cell 1;have y0:=i4.a0;obtain⟨V,hd⟩:k<P.length/\d<=(bW P k).length:=HM.out _ (cM hx);obtain⟨p,hp⟩:∃p,P[k]?=ο p:=⟨_,cG V⟩;have L:bW P k=p.right:=by simp[bW,hp]
  rw[L]at hd;obtain⟨ra,rc,-,c1,-,ab,aa⟩:=(hP.move g.keep).row k p hp;have j1:(0:Int)<=(k:Int):=by omega
  have j2:(k:Int)<(P.length:Int):=by omega
  by_cases hdl:d=p.right.length
  ·have I:Dg P ((k,d),r)=η:=by unfold Dg;rw[L];exact ge hdl
   have e1:((d:Int) == (p.right.length:Int))=η:=by simp[hdl]
   gi_wp2
   refine Nn 18 (by kernel_rfl) (by kernel_rfl) (by kernel_rfl) (by kernel_rfl) ?_
   dsimp only[List.take,List.drop,List.length]
   repeat (gi_big_quiet_step (fail))
   refine wpQuietIn_nil ?_;rintro _⟨Qn,rfl⟩;obtain⟨fn,tmps,assign,body,hy,v⟩:=hY _ _ _ _ (adI hx I) (m.drew z Qn);simp only[Vo,bq]at hy;refine wpAnyIn_ready (rs:=[18]) (by kernel_rfl) (by simp) (AllReadyIn.cons rfl (fun K j=>?_) AllReadyIn.nil)
   go_simp
   refine(BH v).mono ?_;rintro e W3⟨rfl,b,S⟩;refine j _ _ ?_;clear j K hy v;refine wpAnyIn_ready (rs:=[19]) (by kernel_rfl) (by simp) (AllReadyIn.cons rfl (fun K j=>?_) AllReadyIn.nil)
   go_simp
   refine j _ _ (wpAnyIn_ready (rs:=[20]) (by kernel_rfl) (by simp) (AllReadyIn.cons rfl (fun K2 E=>?_) AllReadyIn.nil))
   go_simp
   refine E _ _ (wpAnyIn_done (by kernel_rfl) ?_ _);clear j K E K2
   gi_wp2
   exact y.next v (by simp only[F5 hx,I];simpa using b) S
  ·have I:Dg P ((k,d),r)=ε:=by unfold Dg;rw[L];exact fx hdl
   have e1:((d:Int) == (p.right.length:Int))=ε:=by simp;omega
   have e2:¬(d:Int)=(p.right.length:Int):=by omega
   gi_wp2
   refine Dx (by kernel_rfl) (by kernel_rfl) (by kernel_rfl) ?_
   repeat (gi_big_quiet_step (fail))
   refine BigFrame.wpQuietIn_skip (fun _ _ _ _=>trivial) rfl ?_
   dsimp only[Act.put]
   simp only[List.setIfInBounds_toArray,List.set_cons_succ,List.set_cons_zero]
   repeat (gi_big_quiet_step (fail))
   refine wpQuietIn_nil ?_;rintro _⟨nq,rfl⟩
   gi_wp2
   exact y.next v (by simp only[F5 hx,I];simpa using m.drew z nq) (fun _ _ _=>rfl)
 case done=>
  rintro D Z W hD oF⟨z,-⟩j;simp only[List.take_length]at z
  gi_wp2
  refine⟨by simp,.inl ⟨_,_,rfl,run_takeDeferred j,?_⟩⟩;exact⟨_,po rfl _ _ _,⟨_,rfl⟩,_,m.put _ z (.inl oF)⟩
end
structure aW where
 lb:Nat
 pm:Nat
 gm:Nat
 gP:Nat
 gE:Nat
 gF:Nat
 nT:Nat
 tc:Nat
 pc:Nat
 fc:Nat
 sz:Nat
 ta:Option Addr
 v1:υ
 v3:υ
 v4:υ
 P:List Lx.Pd
 f:Nat×Nat->Nat
 E:List Bool
 fg:List Nat
 fs:List (List Nat)
def aW.nw(c:aW):Nat:=Lx.nW c.nT
structure bK where
 vS:υ
 vA:υ
 vQ:υ
 vW:υ
 st:List (Nat×Nat)
 gs:List Nat
 ss:List (List Nat)
 wq:List Nat
 ws:List Bool
def aW.cells(c:aW)(S:bK):Array υ:=#[ς c.ta c.nT c.tc,c.v1,ς (ο ⟨c.gP,0,ν⟩) c.P.length c.pc,c.v3,c.v4,.map (ο c.gm),ς (ο ⟨c.gE,0,ν⟩) c.sz c.sz,ς (ο ⟨c.gF,0,ν⟩) c.sz c.fc,.map (ο c.pm),S.vS,S.vA,S.vQ,S.vW]
def zR(a:Nat×Nat):List υ:=[ι ξ (a.1:Int),ι ξ (a.2:Int)]
def iw(n g:Nat):υ:=ς (ο ⟨g,0,ν⟩) n n
structure mK(c:aW)(w0:ω)(F:Nat->Prop)(B:Nat):Prop where
 prods:sJ w0 F c.gP c.P
 empty:aj w0 c.gE (bE c.E) 4
 an6:c.E.length=c.sz
 first:∀(i g:Nat),c.fg[i]?=ο g->w0.cell? ⟨c.gF,i,ν⟩=ο (iw c.nw g)/\F g/\∃ws,c.fs[i]?=ο ws/\TS w0 g ws/\ws.length=c.nw
 an7:c.fg.length=c.sz
 goes:bZ bq (fun _=>True) w0 c.gm (fun a=>(c.f a:Int))
 fE:F c.gE
 fF:F c.gF
 fm:F c.gm
 low:∀k,F k->k<B/\k≠c.lb/\k≠c.pm
 lb:c.lb<B
 pm:c.pm<B
 pl:c.P.length<=200
 rl:∀k,(bW c.P k).length<=2002
 nT:0<c.nT/\c.nT<=100000
structure dD(c:aW)(w0:ω)(F:Nat->Prop)(B:Nat)(W:ω)(S:bK)(mp:List (Nat×Nat)):Prop where
 keep:∀b,F b->W.heap[b]?=w0.heap[b]?
 blk:aj W c.lb (c.cells S) 92
 rS:W.ownsRow B 172 2 S.vS S.st.length (S.st.flatMap zR)
 rA:W.ownsRow B 174 1 S.vA S.gs.length (S.gs.map (iw c.nw))
 rQ:lG B W S.vQ S.wq
 rW:W.ownsRow B 4 1 S.vW S.ws.length (S.ws.map μ)
 map:iF bq W c.pm mp
 sets:∀(i g:Nat),S.gs[i]?=ο g->B<=g/\∃ws,S.ss[i]?=ο ws/\TS W g ws/\ws.length=c.nw
 pQ:S.gs.Nodup
 big:B<=W.heap.size
structure jV(c:aW)(w0:ω)(F:Nat->Prop)(B:Nat)(W:ω)(S:bK):Prop extends dD c w0 F B W S S.st where
 lg:S.gs.length=S.st.length
 ls:S.ss.length=S.st.length
 lw:S.ws.length=S.st.length
def bK.own(c:aW)(S:bK)(k:Nat):Prop:=k=c.lb\/k=c.pm\/S.vS.ownBlock=ο k\/S.vA.ownBlock=ο k\/S.vQ.ownBlock=ο k\/S.vW.ownBlock=ο k\/k∈S.gs
theorem TS.move{g:Nat}{ws:List Nat}(h:TS w g ws)(a:w'.heap[g]?=w.heap[g]?):TS w' g ws:=⟨a.trans h.blk,h.wd⟩
theorem dD.move{c:aW}{w0:ω}{F:Nat->Prop}{B:Nat}{W W':ω}{S:bK}{d:List (Nat×Nat)}(h:dD c w0 F B W S d)(a:∀k,S.own c k\/F k->W'.heap[k]?=W.heap[k]?)(f:W.heap.size<=W'.heap.size):dD c w0 F B W' S d where
 keep b hb:=(a b (.inr hb)).trans (h.keep b hb)
 blk:=(a _ (.inl (.inl rfl))).trans h.blk
 rS:=ay h.rS fun g hg=>a g (.inl (.inr (.inr (.inl hg))))
 rA:=ay h.rA fun g hg=>a g (.inl (.inr (.inr (.inr (.inl hg)))))
 rQ:=h.rQ.move fun g hg=>a g (.inl (.inr (.inr (.inr (.inr (.inl hg))))))
 rW:=ay h.rW fun g hg=>a g (.inl (.inr (.inr (.inr (.inr (.inr (.inl hg)))))))
 map:=h.map.move (a _ (.inl (.inr (.inl rfl))))
 sets i g hg:=by
  obtain⟨h1,ws,h2,h3,h4⟩:=h.sets i g hg;exact⟨h1,ws,h2,h3.move (a g (.inl (.inr (.inr (.inr (.inr (.inr (.inr (cM hg))))))))),h4⟩
 pQ:=h.pQ
 big:=cY h.big f
theorem jV.move{c:aW}{w0:ω}{F:Nat->Prop}{B:Nat}{W W':ω}{S:bK}(h:jV c w0 F B W S)(b:∀k,S.own c k\/F k->W'.heap[k]?=W.heap[k]?)(a:W.heap.size<=W'.heap.size):jV c w0 F B W' S:=⟨h.todD.move b a,h.lg,h.ls,h.lw⟩
def oJ(W:ω)(k t:Nat):Prop:=∃cur:Array υ,W.heap[k]?=ο (ζ cur t)
theorem oJ.ne{l u:Nat}(h:oJ W k t)(c:oJ W l u)(a:t≠u):k≠l:=fun e=>by
 subst e;obtain⟨x,d⟩:=h;obtain⟨y,b⟩:=c;rw[d]at b;cases b;exact a rfl
section
variable{c:aW}{w0:ω}{F:Nat -> Prop}{B:Nat}{W:ω}{S:bK}{mp:List (Nat×Nat)}
theorem dD.kL(h:dD c w0 F B W S mp):oJ W c.lb 92:=⟨_,h.blk⟩
theorem dD.kS(h:dD c w0 F B W S mp){g:Nat}(a:S.vS.ownBlock=ο g):oJ W g 172:=bJ h.rS a
theorem dD.kA(h:dD c w0 F B W S mp){g:Nat}(a:S.vA.ownBlock=ο g):oJ W g 174:=bJ h.rA a
theorem dD.kQ(h:dD c w0 F B W S mp){g:Nat}(a:S.vQ.ownBlock=ο g):oJ W g 3:=h.rQ.typ a
theorem dD.kW(h:dD c w0 F B W S mp){g:Nat}(a:S.vW.ownBlock=ο g):oJ W g 4:=bJ h.rW a
theorem dD.kG(h:dD c w0 F B W S mp){g:Nat}(a:g∈S.gs):oJ W g 275:=by
 obtain⟨i,b⟩:=fb.1 a;obtain⟨-,ws,-,h3,-⟩:=h.sets i g b;exact⟨_,h3.blk⟩
theorem dD.Kq(h:dD c w0 F B W S mp){g:Nat}(a:oJ W g t):g≠c.pm:=fun e=>by
 subst e;obtain⟨x,b⟩:=a;obtain⟨d,f,h1,-⟩:=h.map;rw[b]at h1;cases h1
theorem dD.zf(h:dD c w0 F B W S mp)(a:S.own c k):k<W.heap.size:=by
 rcases a with rfl|rfl|a|a|a|a|a
 ·exact h.blk.lt
 ·exact h.map.lt
 ·exact(h.rS.lt k a).2
 ·exact(h.rA.lt k a).2
 ·exact(h.rQ.lt k a).2
 ·exact(h.rW.lt k a).2
 ·obtain⟨x,b⟩:=h.kG a;exact(ei.1 b).1
end
structure qY(c:aW)(W:ω)(S:bK)(W':ω)(S':bK):Prop where
 aK:∀k,k<W.heap.size->¬S.own c k->W'.heap[k]?=W.heap[k]?
 new:∀k,S'.own c k->S.own c k\/W.heap.size<=k
 bL:W.heap.size<=W'.heap.size
 fr:W'.os=W.os/\W'.tape=W.tape/\W'.output=W.output
structure bB(c:aW)(w0:ω)(F:Nat->Prop)(B:Nat)(W:ω)(S:bK)(W':ω)(S':bK):Prop where
 m:jV c w0 F B W' S'
 x:qY c W S W' S'
section
variable{c:aW}{w0:ω}{F:Nat -> Prop}{B:Nat}{W W1 W2:ω}{S S1 S2:bK}{mp:List (Nat×Nat)}
theorem qY.trans(h:qY c W S W1 S1)(k:qY c W1 S1 W2 S2):qY c W S W2 S2 where
 aK x hx hn:=by
  have h1:¬S1.own c x:=fun e=>by
   rcases h.new x e with e|e
   ·exact hn e
   ·omega
  exact(k.aK x (dg hx h.bL) h1).trans (h.aK x hx hn)
 new x hx:=by
  rcases k.new x hx with e|e
  ·exact h.new x e
  ·exact .inr (cY h.bL e)
 bL:=cY h.bL k.bL
 fr:=⟨k.fr.1.trans h.fr.1,k.fr.2.1.trans h.fr.2.1,k.fr.2.2.trans h.fr.2.2⟩
theorem bB.trans(h:bB c w0 F B W S W1 S1)(k:bB c w0 F B W1 S1 W2 S2):bB c w0 F B W S W2 S2:=⟨k.m,h.x.trans k.x⟩
theorem bB.refl(h:jV c w0 F B W S):bB c w0 F B W S W S:=⟨h,fun _ _ _=>rfl,fun _ e=>.inl e,zL0,rfl,rfl,rfl⟩
theorem wW(W:ω){g:Nat}(i:Nat)(u:υ)(h:k≠g):(W.setCell ⟨g,i,ν⟩ u).heap[k]?=W.heap[k]?:=zS0 h
theorem bB.move(h:jV c w0 F B W S)(b:∀k,k<W.heap.size->W1.heap[k]?=W.heap[k]?)(f:mK c w0 F B)(d:W.heap.size<=W1.heap.size)(g:W1.os=W.os/\W1.tape=W.tape/\W1.output=W.output):bB c w0 F B W S W1 S :=
 ⟨h.move (fun k e=>b k (e.elim (fun e=>h.zf e) (fun e=>dg (f.low k e).1 h.big))) d,⟨fun k a _=>b k a,fun _ e=>.inl e,d,g⟩⟩
theorem jV.setW(j:mK c w0 F B)(h:jV c w0 F B W S){g:Nat}(a:S.vW.ownBlock=ο g)(p:Nat)(b:Bool):bB c w0 F B W S (W.setCell ⟨g,p,ν⟩ (μ b)) { S with ws:=S.ws.set p b }:=by
 have kg:=h.kW a;have ne:∀{k t:Nat},oJ W k t->t≠4->(W.setCell ⟨g,p,ν⟩ (μ b)).heap[k]?=W.heap[k]?:=fun hk d=>wW W p _ (hk.ne kg d)
 have hsz:(W.setCell ⟨g,p,ν⟩ (μ b)).heap.size=W.heap.size:=by simp
 refine⟨⟨⟨fun k hk=>?_,(ne h.kL (by decide)).trans h.blk,ay h.rS fun k hk=>ne (h.kS hk) (by decide),ay h.rA fun k hk=>ne (h.kA hk) (by decide),h.rQ.move fun k hk=>ne (h.kQ hk) (by decide),?_,h.map.move (wW W p _ (h.Kq kg).symm),fun i k hk=>?_,h.pQ,by rw[hsz];exact h.big⟩,h.lg,h.ls,by simpa using h.lw⟩,fun k _ f=>wW W p _ (fun e=>f (e▸.inr (.inr (.inr (.inr (.inr (.inl a))))))),fun k e=>.inl e,by omega,rfl,rfl,rfl⟩
 ·exact(wW W p _ (fun e=>by have:=(j.low k hk).1;have:=(h.rW.lt g a).1;omega)).trans (h.keep k hk)
 ·have:=Jw h.rW a p (μ b)
  rw[<-oR]at this;simpa using this
 ·obtain⟨h1,ws,h2,h3,h4⟩:=h.sets i k hk
  exact⟨h1,ws,h2,h3.move (ne (h.kG (cM hk)) (by decide)),h4⟩
theorem dD.but(o:mK c w0 F B)(h:dD c w0 F B W S mp)(i:∀g,v.ownBlock=ο g->oJ W g t/\B<=g)(m:W.grownBy W1 v.ownBlock):(∀b,F b->W1.heap[b]?=w0.heap[b]?)/\(∀{k u:Nat},oJ W k u->u≠t->W1.heap[k]?=W.heap[k]?)/\iF bq W1 c.pm mp:=by
 have d:∀k,k<W.heap.size->(∀g,v.ownBlock=ο g->k≠g)->W1.heap[k]?=W.heap[k]?:=fun k a f=>m.block k a fun e=>f k e.symm rfl
 refine⟨fun k a=>?_,fun a n=>d _ (by obtain⟨y,l⟩:=a;exact(ei.1 l).1) fun g e=>a.ne (i g e).1 n,h.map.move (d _ h.map.lt fun g e=>(h.Kq (i g e).1).symm)⟩;have j:=o.low k a;exact(d k (dg j.1 h.big) fun g e=>by have:=(i g e).2;omega).trans (h.keep k a)
theorem dD.stored(r:mK c w0 F B)(kp:∀b,F b->W1.heap[b]?=w0.heap[b]?)(q:aj W1 c.lb (c.cells S) 92)(C:(c.cells S).setIfInBounds i u=c.cells S1)
  (t:W1.ownsRow B 172 2 S1.vS S1.st.length (S1.st.flatMap zR)) (y:W1.ownsRow B 174 1 S1.vA S1.gs.length (S1.gs.map (iw c.nw))) (o:lG B W1 S1.vQ S1.wq) (A:W1.ownsRow B 4 1 S1.vW S1.ws.length (S1.ws.map μ)) (d:iF bq W1 c.pm mp) (x:∀(i g:Nat),S1.gs[i]?=ο g->B<=g/\∃ws,S1.ss[i]?=ο ws/\TS W1 g ws/\ws.length=c.nw) (nd:S1.gs.Nodup) (s:B<=W1.heap.size):dD c w0 F B (W1.setCell ⟨c.lb,i,ν⟩ u) S1 mp:=by
 have ne:∀{k:Nat},k≠c.lb->(W1.setCell ⟨c.lb,i,ν⟩ u).heap[k]?=W1.heap[k]?:=fun a=>wW W1 i u a
 have m:∀{k:Nat},B<=k->k≠c.lb:=fun a e=>by have:=r.lb;omega
 have l:∀{e z n:Nat}{v:υ}{xs:List υ}(_:W1.ownsRow B e z v n xs),(W1.setCell ⟨c.lb,i,ν⟩ u).ownsRow B e z v n xs:=fun p=>ay p fun g f=>ne (m (p.lt g f).1)
 refine⟨fun k a=>(ne (r.low k a).2.1).trans (kp k a),?_,l t,l y,o.move fun g f=>ne (m (o.lt g f).1),l A,d.move (ne fun e=>?_),fun j k a=>?_,nd,by simpa using s⟩
 ·have:=q.set i u
  rwa [C]at this
 ·obtain⟨D,E,h1,-⟩:=d
  have:=q;unfold aj at this;rw[e]at h1;rw[h1]at this;cases this
 ·obtain⟨h1,ws,h2,h3,h4⟩:=x j k a
  exact⟨h1,ws,h2,h3.move (ne (m h1)),h4⟩
theorem qY.stored(j:∀g,v.ownBlock=ο g->S.own c g)(b:W.grownBy W1 v.ownBlock)(d:∀k,S1.own c k->S.own c k\/W.heap.size<=k):qY c W S (W1.setCell ⟨c.lb,i,ν⟩ u) S1 :=
 ⟨fun k f a=>(wW W1 i u (fun e=>a (.inl e))).trans (b.block k f fun e=>a (j k e.symm)),d,by simpa using b.size,b.1,b.2,b.3⟩
end
structure Waits(S:bK)(p:Nat)(S':bK):Prop where
 st:S'.st=S.st
 gs:S'.gs=S.gs
 ss:S'.ss=S.ss
 ws:S'.ws=S.ws.set p η
 wq:(S.ws[p]?=ο η/\S'.wq=S.wq)\/(S.ws[p]?=ο ε/\S'.wq=S.wq++[p])
theorem Jr{e:Nat}{c:List υ}(h:W.ownsRow B e 1 v n c)(hp:c[p]?=ο u):∃g cap,v=ς (ο ⟨g,0,ν⟩) n cap/\v.ownBlock=ο g/\W.cell? ⟨g,p,ν⟩=ο u/\(∀i,W.frozen? ⟨g,i,ν⟩=ε)/\n<=maxLen:=by
 obtain⟨f,h⟩:=h;have d:=(cH.1 hp).1;rcases h with ⟨-,j⟩|⟨g,cap,a,rfl,k,b,h1,h2,h3,h4⟩
 ·omega
 ·refine⟨g,cap,rfl,rfl,?_,fun i=>by simp[World.frozen?,b],by omega⟩
  have:a[p]?=ο u:=by
   rw[<-h4,A0 (by omega)]at hp;simpa using hp
  simpa [World.cell?,b]using this
theorem aaX{c:aW}{S:bK}(D:mK c w0 F B)(h:jV c w0 F B W S)(hp:p<S.st.length)(Q:S.wq.length+1<=1000000):χ prog 64 #[π (ο ⟨c.lb,0,ν⟩),ι ξ (p:Int)] W fun e W'=>e=δ (θ #[])/\∃S',bB c w0 F B W S W' S'/\Waits S p S':=by
 obtain⟨i0,hi,y,C,E⟩:=ft Tryz.info3;obtain⟨b,n⟩:∃b,S.ws[p]?=ο b:=⟨_,cG (by rw[h.lw];exact hp)⟩;obtain⟨q,A,T,H,cw,U,M⟩:=Jr h.rW (p:=p) (u:=μ b) (by rw[dj,n];rfl);have Qy:W.cell? ⟨c.lb,12,ν⟩=ο (ς (ο ⟨q,0,ν⟩) S.ws.length A):=by rw[<-T];exact h.blk.cell 12
 have fp:=U p;have Z:(0:Int)<=(p:Int):=by omega
 have j2:(p:Int)<(S.ws.length:Int):=by rw[h.lw];omega
 have T1:=h.setW D H p η;have X:Hid _:=bB.refl h;cases b with
 |true=>
  have e:S.ws.set p η=S.ws:=by
   apply pS;intro i;rw[g8]
   split
   ·rename_i e;subst e;rw[n];simp[h.lw,hp]
   ·rfl
  clear T1;go_enter func64,ntmps64;go_wp2_with fail
  go_end0
  exact⟨rfl,S,X.out,rfl,rfl,rfl,e.symm,.inl ⟨n,rfl⟩⟩
 |false=>
  have J:=h.kL.ne (h.kW H) (by decide);have V:(W.setCell ⟨q,p,ν⟩ (μ η)).cell? ⟨c.lb,11,ν⟩=ο S.vQ:=T1.m.blk.cell 11;have a:Hid _:=T1;clear T1;go_enter func64,ntmps64;go_upto_region 2 with fail
  generalize W.setCell ⟨q,p,ν⟩ (μ η)=W1 at V a|-;have K:lG B (W1.alloc (ζ #[ι ξ (p:Int)] 3)) S.vQ S.wq:=a.out.m.rQ.move fun g o=>ed _ _ _ (a.out.m.rQ.lt g o).2
  have s:B<=(W1.alloc (ζ #[ι ξ (p:Int)] 3)).heap.size:=by have:=a.out.m.big;simp;omega
  have f:(W1.alloc (ζ #[ι ξ (p:Int)] 3)).cell? ((⟨W1.heap.size,0,ν⟩:Addr).add 0)=ο (ι ξ (p:Int)):=by
   rw[zv];exact(aj.new W1 #[ι ξ (p:Int)] 3).cell 0
  have G:aj (W1.alloc (ζ #[ι ξ (p:Int)] 3)) c.lb (c.cells { S with ws:=S.ws.set p η }) 92:=a.out.m.blk.alloc _;have x:S.vQ.ownBlock≠ο c.lb:=fun e=>(a.out.m.kQ e).ne a.out.m.kL (by decide) rfl
  go_wp2_with (at_builtin;refine afd rfl _ _ 47 rfl underlying47 hi y C E _ S.wq rfl K s ⟨W1.heap.size,0,ν⟩ 1 p rfl f Q ?_;intro Y r z o l;obtain⟨O,R,rfl⟩:=z.form;have I:aj r c.lb (c.cells { S with ws:=S.ws.set p η }) 92:=(o.block _ G.lt (fun e=>x e.symm)).trans G;have P:=I.frozen 11;have L:r.cell? ⟨c.lb,11,ν⟩=ο S.vQ:=I.cell 11)
  go_end0
  refine⟨rfl,{ S with vQ:=ς O (S.wq.length+1) R,wq:=S.wq++[p],ws:=S.ws.set p η },a.out.trans ?_,rfl,rfl,rfl,rfl,.inr ⟨n,rfl⟩⟩;have d:=a.out.m;rw[cJ,gw]at z l;have j:W1.grownBy r S.vQ.ownBlock:=aI (aM W1 _ _) o;obtain⟨N,kp,km⟩:=d.todD.but D (v:=S.vQ) (t:=3) (fun g e=>⟨d.kQ e,(d.rQ.lt g e).1⟩) j;refine⟨⟨dD.stored D N ((kp d.kL (by decide)).trans d.blk) rfl (ay d.rS fun g e=>kp (d.kS e) (by decide)) (ay d.rA fun g e=>kp (d.kA e) (by decide)) z (ay d.rW fun g e=>kp (d.kW e) (by decide)) km (fun i g hi=>?_) d.pQ (cY d.big j.size),d.lg,d.ls,d.lw⟩,qY.stored (v:=S.vQ) (fun g e=>.inr (.inr (.inr (.inr (.inl e))))) j fun k e=>?_⟩
  ·obtain⟨a1,ws,a2,a3,a4⟩:=d.sets i g hi
   exact⟨a1,ws,a2,a3.move (kp (d.kG (cM hi)) (by decide)),a4⟩
  rcases e with e|e|e|e|e|e|e
  ·exact .inl (.inl e)
  ·exact .inl (.inr (.inl e))
  ·exact .inl (.inr (.inr (.inl e)))
  ·exact .inl (.inr (.inr (.inr (.inl e))))
  ·rcases l with h | h
   ·exact .inl (.inr (.inr (.inr (.inr (.inl (h.symm.trans e))))))
   ·refine .inr ?_
    have:=h.symm.trans e;simp at this;omega
  ·exact .inl (.inr (.inr (.inr (.inr (.inr (.inl e))))))
  ·exact .inl (.inr (.inr (.inr (.inr (.inr (.inr e))))))
namespace Lx
def mQ(E:List Bool):List Nat->Nat
 | []=>0
 |s::r=>if aJ E s=η then 1+mQ E r else 0
theorem Sk(E:List Bool):∀r:List Nat,mQ E r<=r.length
 | []=>zL0
 |s::r=>by
  have:=Sk E r;rw[mQ]
  split
  ·rw[eh];omega
  ·exact fi _
def JX(E:List Bool)(p:Pd):List Bool:=if aJ E p.left=ε/\mQ E p.right=p.right.length then E.set p.left η else E
def mq(P:List Pd)(E:List Bool):List Bool:=P.foldl JX E
def iT{α:Type}(f:α->α):Nat->α->α
 |0,x=>x
 |k+1,x=>f (iT f k x)
def Vp(n:Nat)(P:List Pd):Prop:=∀p∈P,p.left<n/\∀s∈p.right,s<n
end Lx
theorem Yw{E:List Bool}{g:Nat}(n:IR 0 w v r)(o:aj w g (bE E) 4)(q:∀s∈r,s<E.length):χ prog 112 #[v,ς (ο ⟨g,0,ν⟩) E.length E.length] w fun e w'=>e=δ (ι ξ (mQ E r:Int))/\w'=w:=by
 obtain⟨a,c,rfl,t⟩:=aB n;unfold maxLen at t;go_enter func112,ntmps112;go_wp2_with fail;have p:Hid (mQ E r=0+mQ E (r.drop 0)):=by show _=_;simp
 go_loopg [9] r.length (fun k i wr=>∃j:Nat,j+k=r.length/\i=ι ξ j/\wr=w/\Hid (mQ E r=j+mQ E (r.drop j)))
 case atStart=>exact⟨0,by omega,rfl,rfl,p⟩
 case round=>
  obtain⟨j,C,rfl,x,d⟩:=hrel;subst x
  by_cases hlt:j<r.length
  ·obtain⟨D,y,u,-,z⟩:=n.at hlt
   cases u;have hd:=d.out;rw[eN hlt,mQ]at hd;have f:=q r[j] (eJ hlt);have l:=qE E f;generalize r[j]=s at z hd f l;have m:=(o.cell s).trans l;have B:(0:Int)<=(s:Int):=by omega
   have A:(s:Int)<(E.length:Int):=by omega
   cases hat:aJ E s with
   |true=>
    rw[hat]at m;rw[du hat]at hd;have b:Hid (mQ E r=(j+1)+mQ E (r.drop (j+1))):=by show _=_;omega
    clear hd d hat l;go_wp2_with fail;go_roundg (r.length - (j+1))
    case measure=>omega
    case rel=>exact⟨j+1,by omega,by go_num,rfl,b⟩
   |false=>
    rw[hat]at m;rw[dt (by rw[hat];decide)]at hd;have b:Hid (mQ E r=j):=by show _=_;omega
    clear hd d hat l;go_wp2_with fail;go_ret;exact⟨by rw[b.out];rfl,rfl⟩
  ·have:j=r.length:=by omega
   subst this;have hd:=d.out;rw[im]at hd;have b:Hid (mQ E r=r.length):=hd;clear hd d;go_wp2_with fail;go_ret;exact⟨by rw[b.out];rfl,rfl⟩
theorem Y5(g:n<=100000)(w:ω):(Instr.makeSlice 81 (ι ξ (n:Int)) (ι ξ (n:Int))).run prog w=.ok (ς (ο ⟨w.heap.size,0,ν⟩) n n) (w.alloc (ζ (bE (ψ n ε)) 4)):=by
 obtain⟨d,f,b,c,a⟩:=ft Tryz.OH;have h:=qh (P:=prog) w 81 4 d _ (by kernel_rfl) f b ξ ξ (n:Int) (n:Int) (by omega) (oX _) (by rw[a];omega) (by omega);rw[h,ij,c];have e:Value.cells (μ ε)=#[μ ε]:=rfl;rw[e,RO]
structure Gq(w:ω)(ta:Option Addr)(nT tc:Nat)(na:Option Addr)(nN nc:Nat)(vP:υ)(P:List Lx.Pd):Prop where
 pp:PP (fun _=>True) w vP P
 ok:Vp (nT+nN) P
 bd:nT+nN<=100000
theorem Gq.below{w w':ω}{ta:Option Addr}{nT tc:Nat}{na:Option Addr}{nN nc:Nat}{vP:υ}{P:List Lx.Pd}(h:Gq w ta nT tc na nN nc vP P)(a:φ w.heap.size w w'):Gq w' ta nT tc na nN nc vP P:=⟨h.pp.below a,h.ok,h.bd⟩
def acP(w:ω)(n:Nat)(P:List Lx.Pd)(e:Ending)(w':ω):Prop:=∃g E k,e=δ (ς (ο ⟨g,0,ν⟩) n n)/\w.heap.size<=g/\aj w' g (bE E) 4/\E.length=n/\E=iT (mq P) k (ψ n ε)/\mq P E=E/\φ w.heap.size w w'
theorem afl{na:Option Addr}{nN nc:Nat}{vP:υ}{P:List Lx.Pd}{ba ka:Option Addr}{nb bc nk kc:Nat}(h:Gq w ta nT tc na nN nc vP P):χ prog 56 #[γ #[ς ta nT tc,ς na nN nc,vP,ς ba nb bc,ς ka nk kc]] w (acP w (nT+nN) P):=by
 obtain⟨hP,R,S⟩:=h;obtain⟨pa,pc,rfl,ab⟩:∃a c,vP=ς a P.length c/\P.length<=maxLen:=by obtain⟨ps,h1,h2,-⟩:=hP;exact aB h2
 unfold maxLen at ab;obtain⟨n,hn⟩:=aC (nT+nN);have ac:IntKind.i64.wrap ((nT:Int)+(nN:Int))=(n:Int):=by rw[hn,<-qv];exact wrap64 (by omega)
 rw[<-hn]at R S|-;clear hn;have ai:=fun w=>Y5 S w
 unfold acP;go_enter func56,ntmps56;go_wp2_with fail;obtain⟨W,K⟩:=aC ((w.alloc (ζ #[ς ta nT tc,ς na nN nc,ς pa P.length pc,ς ba nb bc,ς ka nk kc] 49)).alloc (ζ (bE (ψ n ε)) 4));rw[<-K];have q:φ w.heap.size w W:=by rw[K];exact((cV _ _).alloc (zL0) _).alloc (by simp) _
 have zD:W.heap.size=w.heap.size+2:=by rw[K];simp
 have kA:aj W w.heap.size #[ς ta nT tc,ς na nN nc,ς pa P.length pc,ς ba nb bc,ς ka nk kc] 49:=by rw[K];exact(aj.new w _ 49).alloc _
 have kE:aj W (w.heap.size+1) (bE (ψ n ε)) 4:=by
  rw[K];simpa using aj.new (w.alloc (ζ #[ς ta nT tc,ς na nN nc,ς pa P.length pc,ς ba nb bc,ς ka nk kc] 49)) (bE (ψ n ε)) 4
 clear K ai ac
 go_loopg [4] (n+1) (fun k v wr=>∃(b:Bool)(E:List Bool)(m:Nat),v=μ b/\(b=η->n-aZ E+1<=k)/\E.length=n/\aj wr (w.heap.size+1) (bE E) 4/\Kp (fun g=>g<W.heap.size/\g≠w.heap.size+1) W wr/\Hid (E=iT (mq P) m (ψ n ε))/\Hid (b=ε->mq P E=E))
 case atStart=>exact⟨η,_,0,rfl,fun _=>by omega,by simp,kE,Kp.refl _ _,rfl,fun h=>by cases h⟩
 case round=>
  revert wr;intro wz hrel;obtain⟨b,E,m,rfl,C,U,Xi,r,HE,HF⟩:=hrel;have CP:=eD kA r ⟨by omega,by omega⟩;have hsz:=r.size;cases b with
  |true=>
   have d:=C rfl;have z2:=CP.a2;clear C HF;obtain⟨Q,yA⟩:∃Q,Hid (Q=gk):=⟨gk,rfl⟩;have ar:n-aZ E+1<=Q:=by rw[yA.out];exact d
   clear d;go_wp2_with fail;have H0:Hid (mq P E=mq (P.drop 0) E):=rfl
   go_loopg [4,19] P.length (fun k v i wr=>∃(j:Nat)(b:Bool)(F:List Bool),j+k=P.length/\v=μ b/\i=ι ξ j/\F.length=n/\aj wr (w.heap.size+1) (bE F) 4/\Kp (fun g=>g<W.heap.size/\g≠w.heap.size+1) W wr/\Hid ((b=ε->F=E)/\(b=η->aZ E<aZ F)/\aZ E<=aZ F)/\Hid (mq P E=mq (P.drop j) F))
   case atStart=>exact⟨0,ε,E,by omega,rfl,rfl,U,Xi,r,⟨fun _=>rfl,(fun h=>by cases h),zL0⟩,H0⟩
   case round=>
    clear H0 Xi r CP z2;obtain⟨j,b,F,aq,rfl,rfl,y,kF,t,L,M⟩:=hrel;have av:=t.size;have ae:φ w.heap.size w wr:=⟨t.os.trans q.os,t.tape.trans q.tape,t.output.trans q.output,by omega,fun x I=>(t.block x ⟨by omega,by omega⟩).trans (q.block x I)⟩
    by_cases hlt:j<P.length
    ·obtain⟨g,aw,u,hv,hu,T,x1,x2⟩:=(hP.below ae).at hlt
     cases hv;obtain⟨l,o⟩:=R P[j] (eJ hlt);have hd:=M.out;rw[eN hlt,show mq (P[j]::P.drop (j+1)) F=mq (P.drop (j+1)) (JX F P[j]) from rfl]at hd;generalize P[j]=pd at hu T x1 x2 l o hd;obtain⟨pl,pr,J⟩:=pd;simp only at hu T x1 x2 l o;obtain⟨Y,Z,rfl,-⟩:=aB hu;obtain⟨B,f⟩:=aC (wr.alloc (ζ #[ι ξ (pl:Int),ς Y pr.length Z,ι ξ J] 143));have G:φ wr.heap.size wr B.drew:=by rw[f];exact((cV _ _).alloc (zL0) _).drew
     have ap:B.heap.size=wr.heap.size+1:=by rw[f];simp
     have kp:aj B wr.heap.size #[ι ξ (pl:Int),ς Y pr.length Z,ι ξ J] 143:=by rw[f];exact aj.new wr _ 143
     have lF:=kF.lt;have H:=kF.go G lF;have d:Kp (fun g=>g<W.heap.size/\g≠w.heap.size+1) W B.drew:=t.trans (Kp.below G (D:=fun g=>g<wr.heap.size) fun g hg=>hg) fun g hg=>by omega
     have p0:=kp.drew.a0;have p1:=kp.drew.a1;have i1:(0:Int)<=(pl:Int):=by omega
     have i2:(pl:Int)<(n:Int):=by omega
     have cE:=(H.cell pl).trans (qE F (by rw[y];exact l));cases hat:aJ F pl with
     |true=>
      have p:JX F ⟨pl,pr,J⟩=F:=dt (by rw[show (⟨pl,pr,J⟩:Lx.Pd).left=pl from rfl,hat];simp);rw[p]at hd;have N:Hid _:=hd;rw[hat]at cE;clear hd M p hat;go_wp2_with fail;rw[<-f];clear f T x1 x2
      go_region
      all_goals
       go_wp2_with fail;go_roundg (P.length - (j+1))
       case measure=>omega
       case rel=>exact⟨j+1,b,F,by omega,rfl,by go_num,y,H,d,L,N⟩
     |false=>
      rw[hat]at cE;have ah:∀s∈pr,s<F.length:=fun s hs=>by rw[y];exact o s hs
      have V:=Yw (w:=B.drew) (own_below hu G) H ah;rw[y]at V;have Kr:=Sk F pr
      by_cases hah:mQ F pr=pr.length
      ·have p:JX F ⟨pl,pr,J⟩=F.set pl η:=du ⟨hat,hah⟩
       rw[p]at hd;have N:Hid _:=hd;have ak:=Jy (bs:=F) (i:=pl) (by rw[y];exact l) hat;have X:Hid (aZ E<aZ (F.set pl η)):=by have:=L.out.2.2;show _<_;omega
       rw[hah]at V;obtain⟨W2,z⟩:=aC ((B.setCell ⟨w.heap.size+1,pl,ν⟩ (μ η)).drew);have A8:aj W2 (w.heap.size+1) (bE (F.set pl η)) 4:=by
        have:aj B (w.heap.size+1) (bE F) 4:=H;rw[z,<-Dz];exact(this.set pl _).drew
       have ad:Kp (fun g=>g<W.heap.size/\g≠w.heap.size+1) W W2:=by
        rw[z];exact⟨d.os,d.tape,d.output,by simpa [World.setCell]using d.size,fun x I=>(zS0 I.2).trans (d.block x I)⟩
       have fE:=H.frozen;clear hd M p hat Kr ak hah;go_wp2_with fail;rw[<-f];clear f T x1 x2
       go_region_held3 (fun A=>A.cell? ⟨wr.heap.size,0,ν⟩=ο (ι ξ (pl:Int))/\A.cell? ⟨wr.heap.size,1,ν⟩=ο (ς Y pr.length Z)/\A.cell? ⟨w.heap.size+1,pl,ν⟩=ο (μ ε)) (first | go_keep | assumption) ((go_at_call 112;refine V.mono ?_;rintro e w5⟨rfl,fQ⟩;subst fQ))
       all_goals
        go_wp2_with fail;rw[<-z];go_roundg (P.length - (j+1))
        case measure=>omega
        case rel=>exact⟨j+1,η,F.set pl η,by omega,rfl,by go_num,by rw[jp];exact y,A8,ad,⟨(fun h=>by cases h),fun _=>X.out,lA X.out⟩,N⟩
      ·have p:JX F ⟨pl,pr,J⟩=F:=dt fun h=>hah h.2
       rw[p]at hd;have N:Hid _:=hd;obtain⟨an,O⟩:=aC (mQ F pr);rw[<-O]at V hah Kr;have am:((an:Int) == (pr.length:Int))=ε:=zB0 (by omega);have al:¬(an:Int)=(pr.length:Int):=by omega
       have Vq:=hah;clear hd M p hat Kr hah O;go_wp2_with fail;rw[<-f];clear f T x1 x2
       go_region_held3 (fun A=>A.cell? ⟨wr.heap.size,0,ν⟩=ο (ι ξ (pl:Int))/\A.cell? ⟨wr.heap.size,1,ν⟩=ο (ς Y pr.length Z)/\A.cell? ⟨w.heap.size+1,pl,ν⟩=ο (μ ε)) (first | go_keep | assumption) ((go_at_call 112;refine V.mono ?_;rintro e w5⟨rfl,fQ⟩;subst fQ))
       all_goals
        go_wp2_with fail;go_roundg (P.length - (j+1))
        case measure=>omega
        case rel=>exact⟨j+1,b,F,by omega,rfl,by go_num,y,H,d,L,N⟩
    ·have:j=P.length:=by omega
     subst this;have hd:=M.out;rw[im]at hd;have Md:Hid (mq P E=F):=hd;have ao:=BN F;have af:Hid (F=iT (mq P) (m+1) (ψ n ε)):=by
      show F=mq P (iT (mq P) m (ψ n ε));rw[<-HE.out];exact Md.out.symm
     have Xj:Hid (b=ε->mq P F=F):=fun hb=>by
      have h1:=L.out.1 hb;rw[h1];have:=Md.out;rw[h1]at this;exact this
     have Xk:Hid (b=η->n-aZ F+1<=Q-1):=fun hb=>by
      have:=L.out.2.1 hb;omega
     clear L M hd;go_wp2_with fail;go_roundg (Q-1)
     case measure=>have:=yA.out;omega
     case rel=>exact⟨b,F,m+1,rfl,Xk.out,y,kF,t,af,Xj⟩
  |false=>
   have wu:=HF.out rfl;have ag:Hid _:=wu;clear HF wu C;have aa:φ w.heap.size w wz:=⟨r.os.trans q.os,r.tape.trans q.tape,r.output.trans q.output,by omega,fun x I=>(r.block x ⟨by omega,by omega⟩).trans (q.block x I)⟩;go_wp2_with fail;go_ret;exact⟨_,E,m,rfl,by omega,Xi,U,HE.out,ag.out,aa⟩
namespace Lx
def jo(A B:List Bool)(i:Nat):List Bool:=(List.range A.length).map fun k=>aJ A k || (decide (k<i) && aJ B k)
def pR(A B:List Bool):List Bool:=jo A B A.length
theorem wY(A B:List Bool)(i:Nat):(jo A B i).length=A.length:=by simp[jo]
theorem OJ(h:k<A.length):aJ A k=A[k]:=by simp[aJ,h]
theorem F6(A B:List Bool)(i:Nat)(h:k<A.length):aJ (jo A B i) k=(aJ A k || (decide (k<i) && aJ B k)):=by
 rw[OJ (by rw[wY];exact h)];simp[jo]
theorem Sm(A B:List Bool):jo A B 0=A:=by
 apply od
 ·simp[jo]
 ·intro k h1 h2
  simp[jo,OJ h2]
theorem Ue{B:List Bool}(a:A.length=B.length)(h:∀k,k<A.length->aJ A k=aJ B k):A=B:=by
 apply od a;intro k h1 h2;have:=h k h1;rw[OJ h1,OJ h2]at this;exact this
theorem aj3{B:List Bool}(b:i<A.length)(c:aJ B i=η):jo A B (i+1)=(jo A B i).set i η:=by
 refine Ue (by simp[wY]) fun k a=>?_
 rw[wY]at a;rw[F6 A B (i+1) a,at_set,F6 A B i a,wY]
 by_cases e:i=k
 ·subst e;simp[c,b]
 ·rw[dt (by simp[e])]
  have:decide (k<i+1)=decide (k<i):=by simp;omega
  rw[this]
theorem aap{B:List Bool}(h:aJ B i=ε\/aJ (jo A B i) i=η):jo A B (i+1)=jo A B i:=by
 refine Ue (by simp[wY]) fun k a=>?_
 rw[wY]at a;rw[F6 A B (i+1) a,F6 A B i a]
 by_cases e:k=i
 ·subst e
  rcases h with h|h
  ·simp[h]
  ·rw[F6 A B k a]at h
   simp at h;simp[h]
 ·have:decide (k<i+1)=decide (k<i):=by simp;omega
  rw[this]
theorem aj4(A:List Bool):pR A A=A:=by
 refine Ue (by simp[pR,wY]) fun k a=>?_
 unfold pR at a|-;rw[wY]at a;rw[F6 A A _ a];simp
def fq(A:List Bool):List Nat:=(List.range A.length).filter fun k=>aJ A k
end Lx
structure OL(w:ω)(gi:Nat)(A C:List Bool)(w':ω):Prop where
 blk:aj w' gi (bE C) 4
 aK:∀g,g≠gi->w'.heap[g]?=w.heap[g]?
 os:w'.os=w.os
 tape:w'.tape=w.tape
 output:w'.output=w.output
 size:w'.heap.size=w.heap.size
theorem aj5{o gf:Nat}{B:List Bool}(q:o≠gf)(kA:aj w o (bE A) 4)(kB:aj w gf (bE B) 4)(C:A.length=n)(H:B.length=n)(G:n<=100000):χ prog 114 #[ς (ο ⟨o,0,ν⟩) n n,ς (ο ⟨gf,0,ν⟩) n n] w fun e w'=>∃b:Bool,e=δ (μ b)/\(b=η->aZ A<aZ (pR A B))/\(b=ε->pR A B=A)/\OL w o A (pR A B) w':=by
 go_enter func114,ntmps114;go_wp2_with fail
 go_loopg [5,10] n (fun k v i wr=>∃(j:Nat)(b:Bool),j+k=n/\v=μ b/\i=ι ξ j/\OL w o A (jo A B j) wr/\Hid ((b=η->aZ A<aZ (jo A B j))/\(b=ε->jo A B j=A)/\aZ A<=aZ (jo A B j)))
 case atStart=>exact⟨0,ε,by omega,rfl,rfl,⟨by rw[Sm];exact kA,fun _ _=>rfl,rfl,rfl,rfl,rfl⟩,⟨(fun h=>by cases h),fun _=>Sm A B,by rw[Sm];exact zL0⟩⟩
 case round=>
  obtain⟨j,b,F,rfl,rfl,⟨d,l,h1,h2,h3,h4⟩,f⟩:=hrel
  by_cases hlt:j<n
  ·have D:aj wr gf (bE B) 4:=(l gf (fun e=>q e.symm)).trans kB
   have s:=(D.cell j).trans (qE B (by omega));have x:=(d.cell j).trans (qE _ (by rw[wY];omega));have E:=d.frozen;have p:=d.set j (μ η);rw[Dz]at p;cases haB:aJ B j with
   |false=>
    have a:=aap (A:=A) (B:=B) (i:=j) (.inl haB);rw[haB]at s;have c:Hid (jo A B (j+1)=jo A B j):=a;clear a haB p;go_wp2_with fail;go_roundg (n - (j+1))
    case measure=>omega
    case rel=>exact⟨j+1,b,by omega,rfl,by go_num,by rw[c.out];exact⟨d,l,h1,h2,h3,h4⟩,by rw[c.out];exact f⟩
   |true=>
    rw[haB]at s;cases Io:aJ (jo A B j) j with
    |true=>
     have a:=aap (A:=A) (B:=B) (i:=j) (.inr Io);rw[Io]at x;have c:Hid (jo A B (j+1)=jo A B j):=a;clear a haB Io p;go_wp2_with fail;go_roundg (n - (j+1))
     case measure=>omega
     case rel=>exact⟨j+1,b,by omega,rfl,by go_num,by rw[c.out];exact⟨d,l,h1,h2,h3,h4⟩,by rw[c.out];exact f⟩
    |false=>
     have m:=aj3 (A:=A) (B:=B) (i:=j) (by omega) haB;have r:=Jy (bs:=jo A B j) (i:=j) (by rw[wY];omega) Io;rw[Io]at x;have c:Hid (jo A B (j+1)=(jo A B j).set j η):=m;have y:Hid (aZ A<aZ ((jo A B j).set j η)):=by have:=f.out.2.2;show _<_;omega
     clear m haB Io r;go_wp2_with fail;go_roundg (n - (j+1))
     case measure=>omega
     case rel=>exact⟨j+1,η,by omega,rfl,by go_num,by rw[c.out];exact⟨p,fun g t=>(zS0 t).trans (l g t),h1,h2,h3,by simpa [World.setCell]using h4⟩,by rw[c.out];exact⟨fun _=>y.out,(fun h=>by cases h),lA y.out⟩⟩
  ·have:j=n:=by omega
   subst this;have z:jo A B j=pR A B:=by unfold pR;rw[C]
   rw[z]at d f;have u:Hid ((b=η->aZ A<aZ (pR A B))/\(b=ε->pR A B=A)):=⟨f.out.1,f.out.2.1⟩;clear f z;go_wp2_with fail;go_ret;exact⟨b,rfl,u.out.1,u.out.2,d,l,h1,h2,h3,h4⟩
theorem join_self(kA:aj w a (bE A) 4)(f:A.length=n)(g:n<=100000):χ prog 114 #[ς (ο ⟨a,0,ν⟩) n n,ς (ο ⟨a,0,ν⟩) n n] w fun e w'=>e=δ (μ ε)/\w'=w:=by
 go_enter func114,ntmps114;go_wp2_with fail
 go_loopg [5,10] n (fun k v i wr=>∃j:Nat,j+k=n/\v=μ ε/\i=ι ξ j/\wr=w)
 case atStart=>exact⟨0,by omega,rfl,rfl,rfl⟩
 case round=>
  obtain⟨j,d,rfl,rfl,c⟩:=hrel;subst c
  by_cases hlt:j<n
  ·have b:=(kA.cell j).trans (qE A (by omega))
   cases hat:aJ A j with
   |true=>
    rw[hat]at b;clear hat;go_wp2_with fail;go_roundg (n - (j+1))
    case measure=>omega
    case rel=>exact⟨j+1,by omega,rfl,by go_num,rfl⟩
   |false=>
    rw[hat]at b;clear hat;go_wp2_with fail;go_roundg (n - (j+1))
    case measure=>omega
    case rel=>exact⟨j+1,by omega,rfl,by go_num,rfl⟩
  ·go_wp2_with fail
   go_ret;exact⟨rfl,rfl⟩
theorem agC{g:Nat}(kA:aj w g (bE A) 4)(D:A.length=n)(M:n<=100000):χ prog 115 #[ς (ο ⟨g,0,ν⟩) n n] w fun e w'=>∃u,e=δ u/\IR w.heap.size w' u (fq A)/\φ w.heap.size w w':=by
 obtain⟨E,s,o,p,r⟩:=ft Tryz.info3;go_enter func115,ntmps115;go_wp2_with fail
 go_loopg [3,8] n (fun k v i wr=>∃(j:Nat)(a:List Nat),j+k=n/\i=ι ξ j/\IR w.heap.size wr v a/\φ w.heap.size w wr/\a.length<=j/\Hid (a=(List.range j).filter fun k=>aJ A k))
 case atStart=>exact⟨0,[],by omega,rfl,eV _ _ _ _,cV _ _,by simp,rfl⟩
 case round=>
  obtain⟨j,a,x,rfl,l,f,I,m⟩:=hrel;obtain⟨G,C,rfl,-⟩:=aB l;have F:=f.size
  by_cases hlt:j<n
  ·have B:=kA.on f
   have y:=(B.cell j).trans (qE A (by omega));have b:(List.range (j+1)).filter (fun k=>aJ A k)=(List.range j).filter (fun k=>aJ A k)++(if aJ A j=η then [j] else []):=by
    rw[wg,mT];simp[List.filter_cons]
   cases hat:aJ A j with
   |true=>
    rw[hat]at y b;have d:Hid (a++[j]=(List.range (j+1)).filter fun k=>aJ A k):=by show _=_;rw[b,<-m.out];rfl
    have z:=l.alloc (ζ #[ι ξ (j:Int)] 3);clear hat b
    go_wp2_with (at_builtin;go_loud (refine ii _ rfl _ _ 47 rfl w.heap.size 3 E _ 1 8 underlying47 s o p r rfl (by decide) (.slice G a.length C) _ _ rfl z ⟨_,0,ν⟩ 1 1 [.int ξ (j:Int)] rfl rfl (bQ (aj.new _ _ 3)) (by simp[Value.oneCell']) (by unfold maxLen;omega) (by omega) (by simp;omega) ?_;intro O K c H _ L;obtain⟨N,J,t,-⟩:=aB c;subst t))
    have q:=(f.alloc F _).grown H (by simp;omega) (fun k x=>(l.lt k x).1);go_roundg (n - (j+1))
    case measure=>omega
    case rel=>exact⟨j+1,a++[j],by omega,by go_num,by unfold IR;rw[cJ,FH];exact c,q,by simp;omega,d⟩
   |false=>
    rw[hat]at y b;have d:Hid (a=(List.range (j+1)).filter fun k=>aJ A k):=by show _=_;rw[b,<-m.out];simp
    clear hat b;go_wp2_with fail;go_roundg (n - (j+1))
    case measure=>omega
    case rel=>exact⟨j+1,a,by omega,by go_num,l,f,by omega,d⟩
  ·have:j=n:=by omega
   subst this;have d:Hid (a=fq A):=by show _=_;rw[m.out];unfold fq;rw[D]
   clear m;go_wp2_with fail;go_ret;exact⟨_,rfl,by rw[<-d.out];exact l,f⟩
namespace Lx
def jR(E:List Bool)(fs:List (List Nat))(xa:List Nat):List Nat->List Nat->List Nat
 | [],x=>dZ x xa
 |s::r,x=>if aJ E s=η then jR E fs xa r (dZ x (fs.getD s [])) else dZ x (fs.getD s [])
def gI(x y:List Nat):Prop:=x.length=y.length/\∀i,x.getD i 0 ||| y.getD i 0=y.getD i 0
theorem gI.refl(x:List Nat):gI x x:=⟨rfl,fun _=>Nat.or_self _⟩
theorem yT(x y:List Nat):(dZ x y).length=x.length:=yY ..
theorem Jm(x y:List Nat)(i:Nat):(dZ x y).getD i 0=if i<x.length then x.getD i 0 ||| y.getD i 0 else x.getD i 0:=by
 unfold dZ;rw[BS];simp
theorem gI.join{y:List Nat}(h:gI x y)(z:List Nat):gI x (dZ y z):=by
 refine⟨by rw[yT];exact h.1,fun i=>?_⟩;rw[Jm]
 split
 ·rw[<-vh,h.2 i]
 ·exact h.2 i
theorem gI.mid{y z:List Nat}(h:gI x y)(k:gI y z)(e:x=z):y=x:=FT h.1.symm fun i a=>by
 subst e;rw[<-h.2 i,Nat.or_comm,k.2 i]
theorem aaq{y:List Nat}(h:gI x y):dZ y x=y:=FT (yT ..) fun i a=>by
 rw[Jm]
 split
 ·rw[Nat.or_comm,h.2 i]
 ·rfl
end Lx
section
variable{c:aW}{w0:ω}{F:Nat -> Prop}{B:Nat}{W W1:ω}{S:bK}
theorem jV.an9(u:mK c w0 F B)(h:jV c w0 F B W S){g:Nat}(hb:S.gs[b]?=ο g)(n:x.length=c.nw)(hp:TP W g x W1):bB c w0 F B W S W1 { S with ss:=S.ss.set b x }:=by
 have j:=cM hb;have kg:=h.kG j;have A:=(h.sets b g hb).1;have f:∀k,k<W.heap.size->k≠g->W1.heap[k]?=W.heap[k]?:=fun k a d=>hp.gr.block k a fun e=>d (by cases e;rfl)
 have ne:∀{k t:Nat},oJ W k t->t≠275->W1.heap[k]?=W.heap[k]?:=fun a m=>f _ (by obtain⟨y,l⟩:=a;exact(ei.1 l).1) (a.ne kg m)
 refine⟨⟨⟨fun k a=>?_,(ne h.kL (by decide)).trans h.blk,ay h.rS fun k a=>ne (h.kS a) (by decide),ay h.rA fun k a=>ne (h.kA a) (by decide),h.rQ.move fun k a=>ne (h.kQ a) (by decide),ay h.rW fun k a=>ne (h.kW a) (by decide),h.map.move (f _ h.map.lt (h.Kq kg).symm),fun i k a=>?_,h.pQ,cY h.big hp.gr.size⟩,h.lg,by simpa using h.ls,h.lw⟩,fun k a o=>f k a fun e=>o (e▸.inr (.inr (.inr (.inr (.inr (.inr j)))))),fun k e=>.inl e,hp.gr.size,hp.gr.1,hp.gr.2,hp.gr.3⟩
 ·have:=(u.low k a).1
  exact(f k (dg this h.big) (by omega)).trans (h.keep k a)
 ·obtain⟨h1,ws,h2,h3,h4⟩:=h.sets i k a
  by_cases e:i=b
  ·subst e
   rw[hb]at a;cases a;exact⟨h1,x,by rw[g8];simp[(List.getElem?_eq_some_iff.1 h2).1],hp.ts,n⟩
  ·have d:k≠g:=fun s=>e (by
    obtain⟨v,p⟩:=cH.1 a;obtain⟨z,q⟩:=cH.1 hb;exact(mC h.pQ).1 (p.trans (s.trans q.symm)))
   exact⟨h1,ws,by rw[g8,dt fun r=>e r.symm];exact h2,h3.move (f k h3.blk.lt d),h4⟩
def TlR(w0:ω)(F:Nat->Prop)(v:υ)(r:List Nat):Prop:=∃a cap,v=ς a r.length cap/\r.length<=100000/\∀(j x:Nat),r[j]?=ο x->∃b o,a=ο ⟨b,o,ν⟩/\F b/\w0.cell? ⟨b,o+j,ν⟩=ο (ι ξ (x:Int))
structure Hands(c:aW)(S:bK)(a b:Nat)(r:List Nat)(g:Bool)(S':bK):Prop where
 st:S'.st=S.st
 gs:S'.gs=S.gs
 ws:S'.ws=S.ws
 wq:S'.wq=S.wq
 ss:S'.ss=S.ss.set b (jR c.E c.fs (S.ss.getD a []) r (S.ss.getD b []))
 grew:g=η↔jR c.E c.fs (S.ss.getD a []) r (S.ss.getD b [])≠S.ss.getD b []
theorem ahz(R:mK c w0 F B)(h:jV c w0 F B W S)(ha:a<S.st.length)(hb:b<S.st.length)(hv:TlR w0 F v r)(hr:∀x∈r,x<c.sz)(ac:c.nw<=100000):χ prog 63 #[π (ο ⟨c.lb,0,ν⟩),ι ξ (a:Int),ι ξ (b:Int),v] W fun e W'=>∃g:Bool,e=δ (μ g)/\∃S',bB c w0 F B W S W' S'/\Hands c S a b r g S':=by
 obtain⟨ra,rc,rfl,aq,X⟩:=hv;obtain⟨Y,z⟩:∃g,S.gs[a]?=ο g:=⟨_,cG (by rw[h.lg];exact ha)⟩;obtain⟨q,l⟩:∃g,S.gs[b]?=ο g:=⟨_,cG (by rw[h.lg];exact hb)⟩;obtain⟨-,N,L,al,ar⟩:=h.sets a Y z;obtain⟨-,d,C,ah,av⟩:=h.sets b q l;have ea:S.ss.getD a []=N:=by simp[L]
 have eb:S.ss.getD b []=d:=by simp[C]
 obtain⟨gA,cA,Fa,Me,-,-,zS⟩:=Jr h.rA (p:=b) (u:=iw c.nw q) (by rw[dj,l];rfl);have ad:Hid (bB c w0 F B W S W { S with ss:=S.ss.set b d }):=by
  have:S.ss.set b d=S.ss:=by
   apply pS;intro i;rw[g8]
   split
   ·rename_i e;subst e;rw[C,du (cH.1 C).1]
   ·rfl
  show bB ..;rw[this];exact bB.refl h
 have HC:Hid (∀(wr:ω)(x:List Nat),bB c w0 F B W S wr { S with ss:=S.ss.set b x }->gI d x->wr.cell? ⟨c.lb,10,ν⟩=ο (ς (ο ⟨gA,0,ν⟩) S.gs.length cA)/\wr.cell? ⟨gA,b,ν⟩=ο (iw c.nw q)/\wr.cell? ⟨gA,a,ν⟩=ο (iw c.nw Y)/\TS wr q x/\x.length=c.nw/\∃y,TS wr Y y/\y.length=c.nw/\(q=Y->y=x)/\dZ x y=dZ x N):=fun wr x t ae=>by
  have hm:=t.m;have o1:=Jr hm.rA (p:=b) (u:=iw c.nw q) (by rw[dj];show Option.map _ S.gs[b]?=_;rw[l];rfl);have o2:=Jr hm.rA (p:=a) (u:=iw c.nw Y) (by rw[dj];show Option.map _ S.gs[a]?=_;rw[z];rfl);obtain⟨g1,c1,e1,-,q1,-⟩:=o1;obtain⟨g2,c2,e2,-,q2,-⟩:=o2;have af:S.vA=ς (ο ⟨g1,0,ν⟩) S.gs.length c1:=e1;have aa:S.vA=ς (ο ⟨g2,0,ν⟩) S.gs.length c2:=e2;rw[Fa]at af aa;cases af;cases aa;obtain⟨-,x',an,tx,V⟩:=hm.sets b q l;have:x'=x:=by
   have h1:(S.ss.set b x)[b]?=ο x':=an;rw[BY (cH.1 C).1]at h1;cases h1;rfl
  subst this;refine⟨by rw[<-Fa];exact hm.blk.cell 10,q1,q2,tx,V,?_⟩;obtain⟨-,y,hy,ty,ly⟩:=hm.sets a Y z;refine⟨y,ty,ly,?_⟩;have Q:(S.ss.set b x')[a]?=ο y:=hy
  by_cases e:b=a
  ·subst e
   rw[l]at z;cases z;rw[BY (cH.1 C).1]at Q;cases Q;rw[C]at L;cases L;exact⟨fun _=>rfl,by rw[aaq (gI.refl _),aaq ae]⟩
  ·rw[List.getElem?_set_ne e]at Q
   rw[L]at Q;cases Q;refine⟨fun e2=>absurd ?_ e,rfl⟩;obtain⟨l1,f1⟩:=cH.1 z;obtain⟨l2,f2⟩:=cH.1 l;exact(mC h.pQ).1 (f2.trans (e2.trans f1.symm))
 have HG:Hid (∀(wr f:ω)(x y:List Nat),bB c w0 F B W S wr { S with ss:=S.ss.set b x }->TP wr q y f->y.length=c.nw->bB c w0 F B W S f { S with ss:=S.ss.set b y }):=fun wr f x y t hP hy=>by
  have:=t.trans (t.m.an9 R (b:=b) l hy hP);simpa using this
 have HF:Hid (∀wr:ω,(∀b,F b->wr.heap[b]?=w0.heap[b]?)->∀s,s<c.sz->∃g ws,wr.cell? ⟨c.gF,s,ν⟩=ο (iw c.nw g)/\TS wr g ws/\ws.length=c.nw/\g≠q/\c.fs.getD s []=ws/\wr.cell? ⟨c.gE,s,ν⟩=ο (μ (aJ c.E s))):=fun wr hk s hs=>by
  obtain⟨g,hg⟩:∃g,c.fg[s]?=ο g:=⟨_,cG (by rw[R.an7];exact hs)⟩;obtain⟨h1,h2,ws,h3,h4,h5⟩:=R.first s g hg;have:=(R.low g h2).1;have:=(h.sets b q l).1;exact⟨g,ws,(cQ (w:=w0) (hk _ R.fF)).trans h1,h4.move (hk g h2),h5,by omega,by simp[h3],(cQ (w:=w0) (hk _ R.fE)).trans ((R.empty.cell s).trans (qE c.E (by rw[R.an6];exact hs)))⟩
 have HK:Hid (∀wr S1,bB c w0 F B W S wr S1->∀b,F b->wr.heap[b]?=w0.heap[b]?):=fun wr S1 t=>t.m.keep
 have ag:Hid (gI d d/\(ε=η↔d≠d)/\jR c.E c.fs N (r.drop 0) d=jR c.E c.fs N r d):=⟨gI.refl _,by simp,rfl⟩;have HE:Hid (∀(W':ω)(g:Bool)(x:List Nat),bB c w0 F B W S W' { S with ss:=S.ss.set b x }->(g=η↔x≠d)->x=jR c.E c.fs N r d->∃S',bB c w0 F B W S W' S'/\Hands c S a b r g S'):=fun W' g x t hg hx=>⟨_,t,rfl,rfl,rfl,rfl,by rw[ea,eb,<-hx],by rw[ea,eb,<-hx];exact hg⟩
 have HB:Hid (∀wr S1,bB c w0 F B W S wr S1->wr.cell? ⟨c.lb,7,ν⟩=ο (ς (ο ⟨c.gF,0,ν⟩) c.sz c.fc)/\wr.cell? ⟨c.lb,6,ν⟩=ο (ς (ο ⟨c.gE,0,ν⟩) c.sz c.sz)):=fun wr S1 t=>⟨t.m.blk.cell 7,t.m.blk.cell 6⟩
 have am:Hid _:=X;have j3:(0:Int)<=(b:Int):=by omega
 have j4:(b:Int)<(S.gs.length:Int):=by rw[h.lg];omega
 have j5:(0:Int)<=(a:Int):=by omega
 have j6:(a:Int)<(S.gs.length:Int):=by rw[h.lg];omega
 clear X al ah L C z l ea eb Fa Me zS h;refine gh.1 (uC (F:=Fence.wide) (n:=9) func63 rfl trivial ?_ rfl);simp only[ntmps63,List.size_toArray,List.length_cons,List.length_nil,Nat.reduceAdd,Nat.reduceSub,Array.replicate_succ,Array.replicate_zero,List.push_toArray,List.append_toArray,List.nil_append,List.cons_append]
 gi_wp2
 gi_loopg [9,14] r.length (fun k gv i wr=>∃(j:Nat)(g:Bool)(x:List Nat),j+k=r.length/\gv=μ g/\i=ι ξ (j:Int)/\Hid (bB c w0 F B W S wr { S with ss:=S.ss.set b x })/\Hid (gI d x/\(g=η↔x≠d)/\jR c.E c.fs N (r.drop j) x=jR c.E c.fs N r d))
 case atStart=>exact⟨0,ε,d,by omega,rfl,rfl,ad,ag⟩
 case round=>
  clear ad ag;obtain⟨j,g,x,hk,rfl,rfl,U,HI⟩:=hrel;obtain⟨QA,dA,dB,tx,V,y,ty,ly,Z,Xl⟩:=HC.out wr x U.out HI.out.1
  by_cases hlt:j<r.length
  ·obtain⟨s,hs⟩:∃s,r[j]?=ο s:=⟨_,cG hlt⟩
   have hsz:=hr s (cM hs);obtain⟨b',o',rfl,K8,cs⟩:=am.out j s hs;have cs:=(cQ (w:=w0) (HK.out wr _ U.out b' K8)).trans cs;obtain⟨gf,G,df,tf,lf,ao,ab,dE⟩:=HF.out wr (HK.out wr _ U.out) s hsz;obtain⟨d7,d6⟩:=HB.out wr _ U.out;have q1:=fun I=>Nv (w:=wr.drewN I) (g:=q) (h:=gf) ⟨tx.blk,tx.wd⟩ ⟨tf.blk,tf.wd⟩ (fun e=>absurd e.symm ao) V lf ac
   have i1:(0:Int)<=(j:Int):=by omega
   have i2:(j:Int)<(r.length:Int):=by omega
   have i3:(0:Int)<=(s:Int):=by omega
   have i4:(s:Int)<(c.sz:Int):=by omega
   unfold iw at dA dB df;have ak:Hid (∀f,bB c w0 F B W S f { S with ss:=S.ss.set b (dZ x G) }->f.cell? ⟨c.lb,10,ν⟩=ο (ς (ο ⟨gA,0,ν⟩) S.gs.length cA)/\f.cell? ⟨gA,b,ν⟩=ο (ς (ο ⟨q,0,ν⟩) c.nw c.nw)/\f.cell? ⟨c.lb,7,ν⟩=ο (ς (ο ⟨c.gF,0,ν⟩) c.sz c.fc)/\f.cell? ⟨c.gF,s,ν⟩=ο (ς (ο ⟨gf,0,ν⟩) c.nw c.nw)):=fun f t=>by
    obtain⟨a1,a2,-⟩:=HC.out f _ t (HI.out.1.join G);exact⟨a1,a2,(HB.out f _ t).1,(cQ (w:=wr) ((HK.out f _ t _ R.fF).trans (HK.out wr _ U.out _ R.fF).symm)).trans df⟩
   have Xm:(dZ x G).length=c.nw:=by rw[yT];exact V
   obtain⟨H,D⟩:∃H:Bool,H=η↔dZ x G≠x:=⟨decide (dZ x G≠x),by simp⟩;have q2:=fun I=>(q1 I).mono (R':=fun e w'=>e=δ (μ H)/\TP (wr.drewN I) q (dZ x G) w') fun e w'⟨b5,h1,h2,h3⟩=>⟨by rw[h1,show b5=H from Bool.eq_iff_iff.2 (h3.trans D.symm)],h2⟩
   have A:Hid (gI d (dZ x G)/\((H || g)=η↔dZ x G≠d)/\(aJ c.E s=η->jR c.E c.fs N (r.drop (j+1)) (dZ x G)=jR c.E c.fs N r d)/\(aJ c.E s=ε->dZ x G=jR c.E c.fs N r d)):=by
    obtain⟨h1,h2,h3⟩:=HI.out;have hd:r.drop j=s::r.drop (j+1):=by
     obtain⟨h4,h5⟩:=cH.1 hs;rw[eN h4,h5]
    rw[hd]at h3;simp only[jR,ab]at h3;refine⟨h1.join G,?_,fun e=>by rw[du e]at h3;exact h3,fun e=>by rw[dt (by rw[e];simp)]at h3;exact h3⟩;rw[oY,D,h2];constructor
    ·rintro(h | h)e
     ·exact h (by rw[e];exact(h1.mid ((gI.refl x).join G) e.symm).symm)
     ·exact h (h1.mid ((gI.refl x).join G) e.symm)
    ·intro h
     by_cases e:dZ x G=x
     ·exact .inr (e▸h)
     ·exact .inl e
   clear tx tf ty Z Xl lf ab V q1 D
   gi_wp2
   refine kV 14 (by kernel_rfl) (by kernel_rfl) (by kernel_rfl) ?_
   dsimp only[List.take,List.drop,List.length]
   repeat (gi_big_quiet_step (fail))
   refine wpQuietIn_nil ?_;rintro _⟨I,rfl⟩;refine wpAnyIn_ready (rs:=[14]) (by kernel_rfl) (by simp) (AllReadyIn.cons rfl (fun K O=>?_) AllReadyIn.nil)
   go_simp
   refine⟨trivial,(gh.2 (q2 I)).mono ?_⟩;rintro e f⟨rfl,o⟩;have T:Hid _:=HG.out wr f x _ U.out ⟨o.ts,⟨o.gr.1,o.gr.2,o.gr.3,o.gr.4,o.gr.5⟩⟩ Xm;have ai:=(HF.out f (HK.out f _ T.out) s hsz).choose_spec.choose_spec.2.2.2.2.2;have ap:=(HB.out f _ T.out).2;refine O _ _ ?_;clear O K q2 o QA dA dB df dE d7 d6 ak U cs;refine wpAnyIn_ready (rs:=[15]) (by kernel_rfl) (by simp) (AllReadyIn.cons rfl (fun K O=>?_) AllReadyIn.nil)
   go_simp
   refine O _ _ (wpAnyIn_ready (rs:=[16]) (by kernel_rfl) (by simp) (AllReadyIn.cons rfl (fun K2 P=>?_) AllReadyIn.nil));clear O K;cases H
   all_goals
    go_simp
    refine P _ _ (wpAnyIn_ready (rs:=[17]) (by kernel_rfl) (by simp) (AllReadyIn.cons rfl (fun K3 M=>?_) AllReadyIn.nil));clear P K2
    go_simp
    refine M _ _ (wpAnyIn_ready (rs:=[18]) (by kernel_rfl) (by simp) (AllReadyIn.cons rfl (fun K4 J=>?_) AllReadyIn.nil));clear M K3
    go_simp
    refine J _ _ (wpAnyIn_done (by kernel_rfl) ?_ _);clear J K4;cases hE:aJ c.E s
    all_goals rw[hE]at ai
   ·gi_wp2
    go_ret;exact⟨g,rfl,HE.out _ _ _ T.out (by simpa using A.out.2.1) (A.out.2.2.2 hE)⟩
   ·gi_wp2
    gi_roundg (r.length - (j+1))
    case measure=>omega
    case rel=>exact⟨j+1,g,_,by omega,rfl,by go_num,T,⟨A.out.1,by simpa using A.out.2.1,A.out.2.2.1 hE⟩⟩
   ·gi_wp2
    go_ret;exact⟨η,rfl,HE.out _ _ _ T.out (by simpa using A.out.2.1) (A.out.2.2.2 hE)⟩
   ·gi_wp2
    gi_roundg (r.length - (j+1))
    case measure=>omega
    case rel=>exact⟨j+1,η,_,by omega,rfl,by go_num,T,⟨A.out.1,by simpa using A.out.2.1,A.out.2.2.1 hE⟩⟩
  ·have hj:j=r.length:=by omega
   have q1:=fun I=>Nv (w:=wr.drewN I) (g:=q) (h:=Y) ⟨tx.blk,tx.wd⟩ ⟨ty.blk,ty.wd⟩ Z V ly ac
   obtain⟨H,D⟩:∃H:Bool,H=η↔dZ x y≠x:=⟨decide (dZ x y≠x),by simp⟩;have q2:=fun I=>(q1 I).mono (R':=fun e w'=>e=δ (μ H)/\TP (wr.drewN I) q (dZ x y) w') fun e w'⟨b5,h1,h2,h3⟩=>⟨by rw[h1,show b5=H from Bool.eq_iff_iff.2 (h3.trans D.symm)],h2⟩
   have A:Hid (((H || g)=η↔dZ x y≠d)/\dZ x y=jR c.E c.fs N r d):=by
    obtain⟨h1,h2,h3⟩:=HI.out;rw[hj,im]at h3;refine⟨?_,Xl.trans h3⟩;rw[oY,D,h2];constructor
    ·rintro(h | h)e
     ·exact h (by rw[e];exact(h1.mid ((gI.refl x).join y) e.symm).symm)
     ·exact h (h1.mid ((gI.refl x).join y) e.symm)
    ·intro h
     by_cases e:dZ x y=x
     ·exact .inr (e▸h)
     ·exact .inl e
   have Xm:(dZ x y).length=c.nw:=by rw[yT];exact V
   unfold iw at dA dB;clear tx ty Z Xl ly V q1 D
   gi_wp2
   refine kV 14 (by kernel_rfl) (by kernel_rfl) (by kernel_rfl) ?_
   dsimp only[List.take,List.drop,List.length]
   repeat (gi_big_quiet_step (fail))
   refine wpQuietIn_nil ?_;rintro _⟨I,rfl⟩;refine wpAnyIn_ready (rs:=[14]) (by kernel_rfl) (by simp) (AllReadyIn.cons rfl (fun K O=>?_) AllReadyIn.nil)
   go_simp
   refine⟨trivial,(gh.2 (q2 I)).mono ?_⟩;rintro e f⟨rfl,o⟩;have T:Hid _:=HG.out wr f x _ U.out ⟨o.ts,⟨o.gr.1,o.gr.2,o.gr.3,o.gr.4,o.gr.5⟩⟩ Xm;refine O _ _ ?_;clear O K q2 o QA dA dB U;refine wpAnyIn_ready (rs:=[15]) (by kernel_rfl) (by simp) (AllReadyIn.cons rfl (fun K O=>?_) AllReadyIn.nil)
   go_simp
   refine O _ _ (wpAnyIn_ready (rs:=[16]) (by kernel_rfl) (by simp) (AllReadyIn.cons rfl (fun K2 P=>?_) AllReadyIn.nil));clear O K;cases H
   all_goals
    go_simp
    refine P _ _ (wpAnyIn_ready (rs:=[17]) (by kernel_rfl) (by simp) (AllReadyIn.cons rfl (fun K3 M=>?_) AllReadyIn.nil));clear P K2
    go_simp
    refine M _ _ (wpAnyIn_ready (rs:=[18]) (by kernel_rfl) (by simp) (AllReadyIn.cons rfl (fun K4 J=>?_) AllReadyIn.nil));clear M K3
    go_simp
    refine J _ _ (wpAnyIn_done (by kernel_rfl) ?_ _);clear J K4
    gi_wp2
    go_ret
   ·exact⟨g,rfl,HE.out _ _ _ T.out (by simpa using A.out.1) A.out.2⟩
   ·exact⟨η,rfl,HE.out _ _ _ T.out (by simpa using A.out.1) A.out.2⟩
end
section
variable{c:aW}{w0:ω}{F:Nat -> Prop}{B:Nat}{W:ω}{S:bK}{mp:List (Nat×Nat)}
def aW.st0(c:aW)(st:Nat):Prop:=c.P[0]?.map Lx.Pd.left=ο st
theorem aar(a:mK c w0 F B)(h:dD c w0 F B W S mp){st:Nat}(f:c.st0 st):χ prog 61 #[π (ο ⟨c.lb,0,ν⟩)] W fun e W'=>e=δ (γ #[ι ξ 0,ι ξ (st:Int)])/\φ W.heap.size W W':=by
 obtain⟨p,hp,rfl⟩:=mS.1 f;obtain⟨l,m,j,-⟩:=(a.prods.move h.keep).row 0 p hp;have g:=(cH.1 hp).1;have d2:=h.blk.a2;have i:=dg (a.low _ a.prods.own).1 h.big;have b:=h.blk.lt;have d:φ W.heap.size W (W.alloc (ζ #[ι ξ 0,ι ξ 0] 172)):=(cV _ _).alloc (zL0) _;rw[rm]at j;have k:(0:Int)<(c.P.length:Int):=by omega
 go_enter func61,ntmps61;go_wp2_with fail;exact iS (v:=γ #[ι ξ 0,ι ξ (p.left:Int)]) (by simp[results,results61,go_sem]) rfl ⟨rfl,(cV _ _).alloc (zL0) _⟩
def Lx.uG(st nT:Nat)(s:Nat×Nat):List Nat:=if s=(0,st) then xR (ψ (Lx.nW nT) 0) 0 else ψ (Lx.nW nT) 0
theorem TS.new(w:ω)(n:Nat):TS (w.alloc (ζ (oh (ψ n 0)) 275)) w.heap.size (ψ n 0):=⟨aj.new ..,fun x a=>by rw[mA a];decide⟩
theorem Lx.abS(st nT:Nat)(s:Nat×Nat):(uG st nT s).length=Lx.nW nT:=by
 unfold uG
 split
 ·rw[aaS,js]
 ·rw[js]
theorem agD(D:mK c w0 F B)(h:dD c w0 F B W S mp){st:Nat}(U:c.st0 st)(s:Nat×Nat):χ prog 116 #[π (ο ⟨c.lb,0,ν⟩),γ #[ι ξ (s.1:Int),ι ξ (s.2:Int)]] W fun e W'=>∃g,e=δ (iw c.nw g)/\W.heap.size<=g/\TS W' g (uG st c.nT s)/\φ W.heap.size W W':=by
 obtain⟨q,n⟩:=s;have R:=D.nT;obtain⟨r,j⟩:=aC (W.alloc (ζ #[ι ξ (q:Int),ι ξ (n:Int)] 172));have v:φ W.heap.size W r:=by rw[j];exact(cV _ _).alloc (zL0) _
 have u:r.heap.size=W.heap.size+1:=by rw[j];simp
 have kB:aj r W.heap.size #[ι ξ (q:Int),ι ξ (n:Int)] 172:=by rw[j];exact aj.new ..
 have h1:=h.move (fun k e=>v.block k (e.elim (fun e=>h.zf e) (fun e=>dg (D.low k e).1 h.big))) (by omega);have d0:=h1.blk.a0;have K:=Rx (w:=r) (n:=c.nT) R.2;obtain⟨o,f⟩:=aC (r.alloc (ζ (oh (ψ (Lx.nW c.nT) 0)) 275));have m:φ r.heap.size r o:=by rw[f];exact(cV _ _).alloc (zL0) _
 have C:o.heap.size=W.heap.size+2:=by rw[f];simp;omega
 have N:TS o (W.heap.size+1) (ψ (Lx.nW c.nT) 0):=by rw[<-u,f];exact TS.new ..
 have l:=kB.go m (by omega);have h2:dD c w0 F B o.drew S mp:=h1.move (fun k e=>m.block k (e.elim (fun e=>h1.zf e) (fun e=>dg (D.low k e).1 h1.big))) (by show r.heap.size<=o.heap.size;omega);have G:=aar D h2 U;have Q:=l.a0;have x1:=l.a1;rw[<-f]at K;have T:Hid (φ W.heap.size W o):=v.trans (m.mono (by omega));have HT:Hid (TS o (W.heap.size+1) (ψ (Lx.nW c.nT) 0)):=N;have V:Hid (aj o W.heap.size #[ι ξ (q:Int),ι ξ (n:Int)] 172):=l;have Z:Hid (o.heap.size=W.heap.size+2):=C;clear f m C N l h2 kB h1;go_enter func116,ntmps116;go_upto_region 1 with fail
 rw[<-j];clear j v;rw[u]at K;clear u;go_upto_region 2 with (go_at_call 58;refine K.mono ?_;rintro e w2⟨rfl,I⟩;obtain rfl:=I)
 have L:Hid (∀d,φ w2.heap.size w2 d->d.cell? ⟨W.heap.size,0,ν⟩=ο (ι ξ (q:Int))/\d.cell? ⟨W.heap.size,1,ν⟩=ο (ι ξ (n:Int))/\TS d (W.heap.size+1) (ψ (Lx.nW c.nT) 0)/\φ W.heap.size W d):=fun d H=>by
  have hz:=Z.out;have O:=V.out.go H (by omega);exact⟨O.cell 0,O.cell 1,HT.out.move (H.block _ (by omega)),T.out.trans (H.mono (by omega))⟩
 by_cases e:q=0/\n=st
 ·obtain⟨rfl,rfl⟩:=e
  have E:Hid (uG n c.nT (0,n)=xR (ψ (Lx.nW c.nT) 0) 0):=du rfl
  go_region_held3 (fun p=>p.cell? ⟨W.heap.size,0,ν⟩=ο (ι ξ (0:Int))/\p.cell? ⟨W.heap.size,1,ν⟩=ο (ι ξ (n:Int))) (first|go_keep|assumption) ((go_at_call 61;refine G.mono ?_;rintro e d⟨rfl,a⟩;have A:φ w2.heap.size w2 d:=⟨a.1,a.2,a.3,a.4,a.5⟩;obtain⟨y,x,z,i⟩:=L.out d A;have M:d.cell? ⟨W.heap.size,0,ν⟩=ο (ι ξ (0:Int))/\d.cell? ⟨W.heap.size,1,ν⟩=ο (ι ξ (n:Int)):=⟨y,x⟩))
  have hW:0<Lx.nW c.nT:=by unfold Lx.nW;omega
  have f:Lx.nW c.nT<=100000:=by unfold Lx.nW;omega
  have P:=aaV (t:=0) z (by rw[js];omega) (by rw[js];exact f);rw[js]at P;clear M G Q x1 y x
  go_wp2_with (go_at_call 59;refine P.mono ?_;rintro e w4⟨rfl,Mg,J⟩)
  go_ret;exact⟨W.heap.size+1,rfl,by omega,by rw[E.out];exact Mg,i.grown J i.size (fun k e=>by cases e;omega)⟩
 ·have E:Hid (uG st c.nT (q,n)=ψ (Lx.nW c.nT) 0):=dt fun h=>e (by cases h;exact⟨rfl,rfl⟩)
  by_cases hq:(q:Int)=0
  ·have X:¬(n:Int)=(st:Int):=fun b=>e ⟨by omega,by omega⟩
   have e2:=ej.2 X;have Y:((q:Int) == 0)=η:=by rw[hq];rfl
   have HQ:Hid ((q:Int)=0):=hq;clear hq
   go_region_held3 (fun p=>p.cell? ⟨W.heap.size,0,ν⟩=ο (ι ξ (q:Int))/\p.cell? ⟨W.heap.size,1,ν⟩=ο (ι ξ (n:Int))) (first|go_keep|assumption) ((go_at_call 61;refine G.mono ?_;rintro e d⟨rfl,a⟩;have A:φ w2.heap.size w2 d:=⟨a.1,a.2,a.3,a.4,a.5⟩;obtain⟨y,x,z,i⟩:=L.out d A;have M:d.cell? ⟨W.heap.size,0,ν⟩=ο (ι ξ (q:Int))/\d.cell? ⟨W.heap.size,1,ν⟩=ο (ι ξ (n:Int)):=⟨y,x⟩))
   go_wp2_with fail;go_ret;exact⟨W.heap.size+1,rfl,by omega,by rw[E.out];exact z,i⟩
  ·have Y:=ej.2 hq
   go_region_held3 (fun p=>p.cell? ⟨W.heap.size,0,ν⟩=ο (ι ξ (q:Int))/\p.cell? ⟨W.heap.size,1,ν⟩=ο (ι ξ (n:Int))) (first|go_keep|assumption) ((go_at_call 61;refine G.mono ?_;rintro e d⟨rfl,a⟩;have A:φ w2.heap.size w2 d:=⟨a.1,a.2,a.3,a.4,a.5⟩;obtain⟨y,x,z,i⟩:=L.out d A;have M:d.cell? ⟨W.heap.size,0,ν⟩=ο (ι ξ (q:Int))/\d.cell? ⟨W.heap.size,1,ν⟩=ο (ι ξ (n:Int)):=⟨y,x⟩))
   go_wp2_with fail;go_ret;exact⟨W.heap.size+1,rfl,by omega,by rw[E.out];exact z,i⟩
end
namespace Lx
theorem aas{α:Type}{R:α->α->Prop}(d:∀a b,R a b->¬R b a):∀{l m:List α},l.Pairwise R->m.Pairwise R->(∀x,x∈l↔x∈m)->l=m
 | [],[],_,_,_=>rfl
 | [],b::m,_,_,h=>absurd ((h b).2 eE) (by simp)
 |a::l,[],_,_,h=>absurd ((h a).1 eE) (by simp)
 |a::l,b::m,hl,hm,h=>by
  rw[oy]at hl hm;have e:a=b:=by
   rcases fh.1 ((h a).1 eE) with e|h1
   ·exact e
   ·rcases fh.1 ((h b).2 eE) with e | h2
    ·exact e.symm
    ·exact absurd (hl.1 b h2) (d _ _ (hm.1 a h1))
  subst e;have key:∀x,x∈l↔x∈m:=fun x=>by
   constructor
   ·intro c
    rcases fh.1 ((h x).1 (eR _ c)) with e|h1
    ·subst e;exact absurd (hl.1 x c) (d _ _ (hl.1 x c))
    ·exact h1
   ·intro c
    rcases fh.1 ((h x).2 (eR _ c)) with e|h1
    ·subst e;exact absurd (hm.1 x c) (d _ _ (hm.1 x c))
    ·exact h1
  rw[aas d hl.2 hm.2 key]
def ig(a b:au):Prop:=a.1<b.1\/(a.1=b.1/\a.2<b.2)
instance (a b:au):Decidable (ig a b):=by unfold ig;infer_instance
theorem aj6(a b:au)(h:ig a b):¬ig b a:=by unfold ig at *;omega
theorem aj7{a b c:au}(h:ig a b)(k:ig b c):ig a c:=by unfold ig at *;omega
theorem aiO{a b:au}(h:¬ig a b)(c:a≠b):ig b a:=by
 have:¬(a.1=b.1/\a.2=b.2):=fun e=>c (sE e.1 e.2)
 unfold ig at *;omega
def ins(s:au):List au->List au
 | []=>[s]
 |x::l=>if ig s x then s::x::l else x::ins s l
theorem TH{s x:au}:∀{l:List au},x∈ins s l↔x=s\/x∈l
 | []=>by simp[ins]
 |y::l=>by
  rw[ins]
  split
  ·simp
  ·rw[fh,TH,fh]
   constructor
   ·rintro(h | h | h)
    ·exact .inr (.inl h)
    ·exact .inl h
    ·exact .inr (.inr h)
   ·rintro(h | h | h)
    ·exact .inr (.inl h)
    ·exact .inl h
    ·exact .inr (.inr h)
theorem acQ{s:au}:∀{l:List au},l.Pairwise ig->s∉l->(ins s l).Pairwise ig
 | [],_,_=>by simp[ins]
 |y::l,h,hn=>by
  rw[oy]at h;rw[ins]
  split
  ·rename_i h1
   refine oy.2 ⟨fun z a=>?_,oy.2 h⟩;rcases fh.1 a with rfl|a
   ·exact h1
   ·exact aj7 h1 (h.1 z a)
  ·rename_i h1
   refine oy.2 ⟨fun z a=>?_,acQ h.2 fun a=>hn (eR _ a)⟩;rcases TH.1 a with rfl|a
   ·exact aiO h1 fun e=>hn (e▸eE)
   ·exact h.1 z a
def Gt(l:List au)(s:au):List au:=if s∈l then l else ins s l
theorem aj8{l:List au}{s:au}(h:l.Pairwise ig):(Gt l s).Pairwise ig:=by
 unfold Gt
 split
 ·exact h
 ·rename_i a;exact acQ h a
theorem aiP{l:List au}{s x:au}:x∈Gt l s↔x=s\/x∈l:=by
 unfold Gt
 split
 ·rename_i h
  exact⟨.inr,fun a=>a.elim (fun e=>e▸h) id⟩
 ·exact TH
def zx(P:List Pd)(n:Nat)(out:List au)(s:au):List au:=if eF P s=ο n then Gt out (s.1,s.2+1) else out
def QC(P:List Pd)(C:List au)(n:Nat):List au:=C.foldl (zx P n) []
theorem Uf{P:List Pd}{n:Nat}:∀(C out:List au),out.Pairwise ig->(C.foldl (zx P n) out).Pairwise ig/\∀x,x∈C.foldl (zx P n) out↔x∈out\/∃s∈C,eF P s=ο n/\x=(s.1,s.2+1)
 | [],out,h=>⟨h,fun x=>by simp⟩
 |s::C,out,h=>by
  rw[si];have h1:(zx P n out s).Pairwise ig:=by
   unfold zx
   split
   ·exact aj8 h
   ·exact h
  obtain⟨h2,h3⟩:=Uf C _ h1;refine⟨h2,fun x=>?_⟩;rw[h3 x];unfold zx
  split
  ·rename_i b
   rw[aiP];constructor
   ·rintro((h | h) | ⟨t,a,h⟩)
    ·exact .inr ⟨s,eE,b,h⟩
    ·exact .inl h
    ·exact .inr ⟨t,eR _ a,h⟩
   ·rintro(h | ⟨t,a,g1,g2⟩)
    ·exact .inl (.inr h)
    ·rcases fh.1 a with rfl | a
     ·exact .inl (.inl g2)
     ·exact .inr ⟨t,a,g1,g2⟩
  ·rename_i b
   constructor
   ·rintro(h | ⟨t,a,h⟩)
    ·exact .inl h
    ·exact .inr ⟨t,eR _ a,h⟩
   ·rintro(h | ⟨t,a,g1,g2⟩)
    ·exact .inl h
    ·rcases fh.1 a with rfl | a
     ·exact absurd g1 b
     ·exact .inr ⟨t,a,g1,g2⟩
theorem acR(P:List Pd)(C:List au)(n:Nat):(QC P C n).Pairwise ig:=(Uf C [] pC).1
theorem F7{C:List au}{x:au}:x∈QC P C n↔∃s∈C,eF P s=ο n/\x=(s.1,s.2+1):=by
 have:=(Uf (P:=P) (n:=n) C [] pC).2 x;simpa [QC]using this
def kU(P:List Pd)(C:List au):List (Nat×au):=C.filterMap fun s=>(eF P s).map fun n=>(n,(s.1,s.2+1))
theorem Oe{C:List au}{m:Nat×au}:m∈kU P C↔∃s∈C,eF P s=ο m.1/\m.2=(s.1,s.2+1):=by
 unfold kU;rw[List.mem_filterMap];constructor
 ·rintro⟨s,a,h⟩
  obtain⟨n,b,rfl⟩:=mS.1 h;exact⟨s,a,b,rfl⟩
 ·rintro⟨s,a,h1,h2⟩
  exact⟨s,a,by rw[h1];exact fd ο (sE rfl h2.symm)⟩
def ou(a b:Nat×au):Prop:=a.1<b.1\/(a.1=b.1/\ig a.2 b.2)
theorem Js:∀(n:Nat)(l:List Nat),l.Nodup->(∀x∈l,x<n)->l.length<=n
 |0,[],_,_=>zL0
 |0,x::_,_,h=>absurd (h x eE) (tM _)
 |n+1,l,hn,h=>by
  by_cases hm:n∈l
  ·have h1:=Js n (l.erase n) (hn.erase n) fun x a=>by
    have h2:=hn.mem_erase_iff.1 a;have:=h x h2.2;have:=h2.1;omega
   rw[List.length_erase_of_mem hm]at h1;omega
  ·have:=Js n l hn fun x a=>by
    have:=h x a;have:x≠n:=fun e=>hm (e▸a)
    omega
   omega
def oM(P:List Pd)(K l:List au):Prop:=∃Z,l=K++Z/\Z.Nodup/\∀z∈Z,z.2=0/\z.1<P.length/\z∉K
theorem oM.len{K l:List au}(h:oM P K l):l.length<=K.length+P.length:=by
 obtain⟨Z,rfl,j,f⟩:=h;rw[cJ];have h1:(Z.map Prod.fst).Nodup:=by
  rw[List.Nodup,ue];refine j.imp_of_mem fun{a b}k g c e=>c ?_
  exact sE e ((f a k).1.trans (f b g).1.symm)
 have h2:=Js P.length _ h1 fun x i=>by
  obtain⟨z,d,rfl⟩:=fk.1 i;exact(f z d).2.1
 rw[dk]at h2;omega
theorem oM.add{K l:List au}(h:oM P K l)(n:Option Nat):oM P K (xS P n l P.length):=by
 cases n with
 |none=>rw[Nw];exact h
 |some n=>
  obtain⟨Z,rfl,f,k⟩:=h;rw[Od];refine⟨Z++(iK P n P.length).filter (fun s=>decide (s∉K++Z)),by rw[dy],?_,fun z c=>?_⟩
  ·rw[j7]
   refine⟨f,(Y4 _).filter _,fun a i b d e=>?_⟩;have:=mL (j'.1 d).2;exact this (dq.2 (.inr (e▸i)))
  ·rcases dq.1 c with h1 | h1
   ·exact k z h1
   ·obtain⟨h2,h3⟩:=j'.1 h1
    obtain⟨h4,j,-⟩:=FJ.1 h2;exact⟨h4,j,fun g=>mL h3 (dq.2 (.inl g))⟩
theorem oM.refl(P:List Pd)(K:List au):oM P K K:=⟨[],by simp,ot,fun z a=>by cases a⟩
def QD(P:List Pd):Nat->List au->Nat->List au
 |0,l,_=>l
 |f+1,l,i=>if h:i<l.length then QD P f (xS P (eF P l[i]) l P.length) (i+1) else l
def jL(P:List Pd)(K:List au):List au:=QD P (K.length+P.length+1) K 0
theorem abT{P:List Pd}{K:List au}:∀(f i:Nat)(l:List au),oM P K l->K.length+P.length+1<=f+i->tK P l i (QD P f l i)
 |0,i,l,h,hf=>.done (by have:=h.len;omega)
 |f+1,i,l,h,hf=>by
  rw[QD]
  split
  ·rename_i a
   exact .step a (abT f (i+1) _ (h.add _) (by omega))
  ·exact .done (by omega)
theorem Ug(P:List Pd)(K:List au):tK P K 0 (jL P K):=abT _ 0 K (oM.refl P K) (by omega)
theorem tK.jL{P:List Pd}{K r:List au}(h:tK P K 0 r):r=jL P K:=h.det (Ug P K)
theorem Cu.jL{P:List Pd}{st:Nat}(b:Pq P st){K r:List au}(a:∀s∈K,s.2=0->P[s.1]?.map Pd.left=ο st)(h:Cu P K [] 0 r):r=jL P K:=(ajY b h (Am.kernel a)).jL
def jh(P:List Pd)(K:List au)(n:Nat):List au:=QC P (jL P K) n
abbrev Mh:=Nat×Nat×Nat
structure bI where
 ks:List (List au)
 es:List Mh
def ji(l:List (List au))(k:List au):Nat:=l.findIdx fun x=>decide (x=k)
def edge(P:List Pd)(i:Nat)(K:List au)(S:bI)(n:Nat):bI :=
 if jh P K n=[] then S else if ji S.ks (jh P K n)<S.ks.length then ⟨S.ks,S.es++[(i,n,ji S.ks (jh P K n))]⟩ else ⟨S.ks++[jh P K n],S.es++[(i,n,S.ks.length)]⟩
def leave(P:List Pd)(i:Nat)(K:List au)(S:bI)(ns:List Nat):bI:=ns.foldl (edge P i K) S
theorem aiQ{K:List au}{S:bI}(h:jh P K n=[]):edge P i K S n=S:=du h
def xV(P:List Pd)(sz:Nat):Nat->Nat->bI->Option bI
 |0,_,_=>ν
 |f+1,i,S=>if h:i<S.ks.length then (if 300<(leave P i S.ks[i] S (List.range sz)).ks.length then ν else xV P sz f (i+1) (leave P i S.ks[i] S (List.range sz))) else ο S
def BK(P:List Pd)(sz:Nat):Option bI:=xV P sz 302 0 ⟨[[(0,0)]],[]⟩
theorem aiR{K:List au}{S:bI}:∃a,(edge P i K S n).ks=S.ks++a:=by
 unfold edge
 split
 ·exact⟨[],by simp⟩
 ·split
  ·exact⟨[],by simp⟩
  ·exact⟨_,rfl⟩
theorem take_same{n:Nat}:∀{M:List (Nat×au)},M.Pairwise ou->(∀m∈M,n<=m.1)->M.takeWhile (fun m=>decide (m.1=n))=M.filter (fun m=>decide (m.1=n))/\M.dropWhile (fun m=>decide (m.1=n))=M.filter (fun m=>decide (m.1≠n))
 | [],_,_=>⟨rfl,rfl⟩
 |m::M,h,hn=>by
  rw[oy]at h
  by_cases e:m.1=n
  ·obtain⟨h1,h2⟩:=take_same h.2 fun x b=>hn x (eR _ b)
   constructor
   ·rw[xm,pL];simp only[e,decide_true,if_true];rw[h1]
   ·rw[xp,pL];simp only[e,decide_true,if_true,ne_eq,not_true_eq_false,decide_false,Bool.false_eq_true,if_false];rw[h2]
  ·have c:=hn m eE
   have a:∀x∈M,x.1≠n:=fun x b=>by
    have:=h.1 x b;unfold ou at this;omega
   constructor
   ·rw[xm,pL]
    simp only[e,decide_false,Bool.false_eq_true,if_false];exact(B5.2 fun x b=>by simpa using a x b).symm
   ·rw[xp,pL]
    simp only[e,decide_false,Bool.false_eq_true,if_false,ne_eq,not_false_eq_true,decide_true,if_true];rw[List.filter_eq_self.2 fun x b=>by simpa using a x b]
def JY(i:Nat)(S:bI)(n:Nat)(k:List au):bI:=if ji S.ks k<S.ks.length then ⟨S.ks,S.es++[(i,n,ji S.ks k)]⟩ else ⟨S.ks++[k],S.es++[(i,n,S.ks.length)]⟩
theorem aiS{K:List au}{S:bI}(h:jh P K n≠[]):edge P i K S n=JY i S n (jh P K n):=dt h
inductive sK (i:Nat):List (Nat×au)->bI->bI->Prop
 | nil {S:bI}:sK i [] S S
 | fZ {n:Nat} {x:au} {M:List (Nat×au)} {S R:bI} (h:sK i (M.dropWhile fun m=>decide (m.1=n)) (JY i S n (x::(M.takeWhile fun m=>decide (m.1=n)).map Prod.snd)) R):sK i ((n,x)::M) S R
theorem RU{P:List Pd}{i:Nat}{K:List au}:∀(ns:List Nat)(S:bI),(∀n∈ns,jh P K n=[])->leave P i K S ns=S
 | [],S,_=>rfl
 |n::ns,S,h=>by
  have:leave P i K S (n::ns)=leave P i K (edge P i K S n) ns:=rfl;rw[this,aiQ (h n eE)];exact RU ns S fun m a=>h m (eR _ a)
theorem aiT{K:List au}(a b:List Nat)(S:bI):leave P i K S (a++b)=leave P i K (leave P i K S a) b:=pB
theorem sK.leave{P:List Pd}{i:Nat}{K:List au}{sz:Nat}{M:List (Nat×au)}{S R:bI}(h:sK i M S R):∀a,a<=sz->M.Pairwise ou->(∀m,m∈M↔m∈kU P (jL P K)/\a<=m.1)->(∀m∈M,m.1<sz)->R=leave P i K S (List.range' a (sz-a)):=by
 induction h with
 | @nil S=>
  intro a _ _ f _;refine(RU _ _ fun n k=>?_).symm;rw[List.mem_range'_1]at k;refine zp.2 fun x D=>?_
  obtain⟨s,o,h1,h2⟩:=F7.1 D;have:=(f (n,x)).2 ⟨Oe.2 ⟨s,o,h1,h2⟩,k.1⟩;cases this
 | @fZ n x M S R _ ih=>
  intro a G hp f A;have k:a<=n:=((f (n,x)).1 eE).2;have E:n<sz:=A (n,x) eE;have d:∀m∈M,n<=m.1:=fun m b=>by
   have:=(oy.1 hp).1 m b;unfold ou at this;omega
  obtain⟨t1,t2⟩:=take_same (oy.1 hp).2 d;have c:List.range' a (sz-a)=List.range' a (n-a)++(n::List.range' (n+1) (sz - (n+1))):=by
   have p:sz-a=(n-a)+(1+(sz - (n+1))):=by omega
   rw[p,<-List.range'_append_1,show a+(n-a)=n by omega,BT 1,List.range'_succ]
  have r:jh P K n=x::(M.takeWhile fun m=>decide (m.1=n)).map Prod.snd:=by
   refine aas aj6 (acR _ _ _) ?_ fun y=>?_
   ·have h1:((n,x)::M.takeWhile fun m=>decide (m.1=n)).Pairwise ou:=by
     refine hp.sublist (List.Sublist.cons_cons _ (List.takeWhile_sublist _))
    have h2:(((n,x)::M.takeWhile fun m=>decide (m.1=n)).map Prod.snd).Pairwise ig:=by
     rw[ue];refine h1.imp_of_mem fun{u v}C F g=>?_
     have e:∀w∈(n,x)::M.takeWhile (fun m=>decide (m.1=n)),w.1=n:=fun w j=>by
      rcases fh.1 j with rfl|j
      ·rfl
      ·rw[t1]at j
       exact mL (j'.1 j).2
     have:=e u C;have:=e v F;unfold ou at g;rcases g with t|t
     ·omega
     ·exact t.2
    exact h2
   ·have e:∀y,(y∈x::(M.takeWhile fun m=>decide (m.1=n)).map Prod.snd)↔(n,y)∈(n,x)::M:=fun y=>by
     rw[t1];constructor
     ·intro h
      rcases fh.1 h with rfl|h
      ·exact eE
      ·obtain⟨m,l,rfl⟩:=fk.1 h
       obtain⟨h1,h2⟩:=j'.1 l;have h3:=mL h2;exact eR _ (by rw[<-h3];exact h1)
     ·intro h
      rcases fh.1 h with h|h
      ·cases h;exact eE
      ·exact eR _ (fk.2 ⟨(n,y),j'.2 ⟨h,by simp⟩,rfl⟩)
    rw[e y,f (n,y),Oe];unfold jh;rw[F7];exact⟨fun h=>⟨h,k⟩,fun h=>h.1⟩
  rw[c,aiT,RU (List.range' a (n-a)) S fun q z=>?_]
  ·have p:Lx.leave P i K S (n::List.range' (n+1) (sz - (n+1)))=Lx.leave P i K (edge P i K S n) (List.range' (n+1) (sz - (n+1))):=rfl
   rw[p,aiS (by rw[r];simp),r];refine ih (n+1) (by omega) ?_ (fun m=>?_) fun m b=>?_
   ·exact(oy.1 hp).2.sublist (List.dropWhile_sublist _)
   ·rw[t2,j']
    constructor
    ·rintro⟨h1,h2⟩
     have h3:=mL h2;have h4:=(f m).1 (eR _ h1);have:=d m h1;exact⟨h4.1,by omega⟩
    ·rintro⟨h1,h2⟩
     have h3:=(f m).2 ⟨h1,by omega⟩;rcases fh.1 h3 with h4|h4
     ·rw[h4]at h2;exact absurd h2 (by show ¬n+1<=n;omega)
     ·exact⟨h4,by simp;omega⟩
   ·rw[t2]at b
    exact A m (eR _ (j'.1 b).1)
  ·rw[List.mem_range'_1]at z
   refine zp.2 fun y B=>?_
   obtain⟨s,o,h1,h2⟩:=F7.1 B;have h3:=(f (q,y)).2 ⟨Oe.2 ⟨s,o,h1,h2⟩,z.1⟩;rcases fh.1 h3 with h4|h4
   ·cases h4;omega
   ·have:=d _ h4
    have:n<=q:=this;omega
end Lx
def jq(s:au):List υ:=[ι ξ (s.1:Int),ι ξ (s.2:Int)]
theorem JI{P:List Lx.Pd}(h:k<P.length):bW P k=P[k].right:=by simp[bW,h]
abbrev aO(T k:Nat){α:Type}(enc:α->List υ)(B:Nat)(w:ω)(v:υ)(l:List α):Prop:=w.ownsRow B T k v l.length (l.flatMap enc)
structure vz{α:Type}(enc:α->List υ)(k:Nat):Prop where
 len:∀x,(enc x).length=k
 one:∀x,∀u∈enc x,u.oneCell'=η
theorem vz.Kt{α:Type}{enc:α->List υ}{k:Nat}(h:vz enc k):∀l:List α,(l.flatMap enc).length=l.length*k
 | []=>by simp
 |x::l=>by rw[eS,cJ,h.Kt l,h.len,eh,oE];omega
theorem vz.aob{α:Type}{enc:α->List υ}(h:vz enc k)(l:List α):∀u∈l.flatMap enc,u.oneCell'=η:=by
 intro u b;obtain⟨s,-,a⟩:=li.1 b;exact h.one s u a
theorem vz.Vr{α:Type}{enc:α->List υ}{k:Nat}(h:vz enc k):∀{l:List α}{j i:Nat}(hj:j<l.length),i<k->(l.flatMap enc)[j*k+i]?=(enc l[j])[i]?
 | [],j,i,hj,_=>absurd hj (tM _)
 |x::l,0,i,_,hi=>by rw[eS,rm,fX,eL (by rw[h.len];exact hi)];rfl
 |x::l,j+1,i,hj,hi=>by
  rw[eS,eQ (by rw[h.len,oE];omega),h.len,show (j+1)*k+i-k=j*k+i by rw[oE];omega,h.Vr (by simpa using hj) hi];rfl
theorem aO.at{T k B:Nat}{α:Type}{enc:α->List υ}{w:ω}{v:υ}{l:List α}(b:vz enc k)(h:aO T k enc B w v l){j:Nat}(c:j<l.length):∃g cap,v=ς (ο ⟨g,0,ν⟩) l.length cap/\B<=g/\g<w.heap.size/\∀i u,i<k->(enc l[j])[i]?=ο u->w.cell? ⟨g,j*k+i,ν⟩=ο u:=by
 obtain⟨g,cap,e,a,d⟩:=World.ownsRow.form h (by omega);subst e;have m:=oj h (g:=g) rfl;refine⟨g,cap,rfl,a,d,fun i u n f=>?_⟩;have:=m (j*k+i) u (by rw[b.Vr c n];exact f);rw[show (⟨g,0,ν⟩:Addr).add (j*k+i)=⟨g,j*k+i,ν⟩ by unfold Addr.add;split <;> simp_all]at this;exact this
theorem aO.below{T:Nat}{α:Type}{enc:α->List υ}{l:List α}(h:aO T k enc B w v l)(a:φ w.heap.size w w'):aO T k enc B w' v l:=own_below h a
theorem NS{T S f:Nat}{z:υ}{α:Type}{enc:α->List υ}(G:(prog.info? T).map (fun i=>(i.zero,i.size,i.bytes))=ο (ο z,k,f))(P:prog.underlying S=ο (.slice T))(V:z.cells.size=k)(O:0<k)(D:vz enc k){n:Array Oper}{rest:List Oper}{o:Oper}{a:Act}(q:o.guard=ν)(s x:Operand)(H:o.op=.call { callee:=.builtin .append,args:=#[s,x],argTypes:=#[S,S] })(B:Nat)(U:B<=w.heap.size)(v:υ)(l:List α)(J:a.eval s=v)(E:aO T k enc B w v l)(y:α)(g c:Nat)(L:a.eval x=.slice (ο ⟨g,0,ν⟩) 1 c)(M:∀(j:Nat)(u:υ),(enc y)[j]?=ο u->w.cell? ((⟨g,0,ν⟩:Addr).add j)=ο u)(N:l.length+1<=maxLen)(r:(l.length+1)*f<=140737488355328)(h:∀v' w',aO T k enc B w' v' (l++[y])->φ B w w'->w.grownBy w' v.ownBlock->(v'.ownBlock=v.ownBlock\/v'.ownBlock=ο w.heap.size)->wpList prog n Q rest (a.put o.dst v') w'):wpList prog n Q (o::rest) a w:=by
 obtain⟨F,C,t,A,p⟩:=ft G;refine ii _ q s x S H B T F _ k f P C t A p V O v l.length (l.flatMap enc) J E ⟨g,0,ν⟩ 1 c (enc y) L (by rw[D.len,ud]) M (D.one y) N r U fun I R d m _ K=>?_
 refine h I R ?_ ?_ m K
 ·have e:(l++[y]).flatMap enc=l.flatMap enc++enc y:=by simp
  unfold aO;rw[e,cJ];exact d
 ·exact⟨m.os,m.tape,m.output,m.size,fun b W=>m.block b (by omega) fun e=>absurd (sf E b e.symm).1 (by omega)⟩
theorem Cv:vz jq 2:=⟨fun _=>rfl,fun s u a=>by simp only[jq,List.mem_cons,List.not_mem_nil,or_false]at a;rcases a with rfl|rfl <;> rfl⟩
theorem Lx.abU{s:au}:∀r:List au,(Lx.ins s r).length=r.length+1
 | []=>rfl
 |x::r=>by
  rw[Lx.ins]
  split
  ·rfl
  ·simp only[List.length_cons,abU r]
theorem aj9{P:List Lx.Pd}{K l r:List au}(h:tK P l i r):oM P K l->oM P K r:=by
 induction h with
 |done _=>exact id
 |step _ _ ih=>exact fun a=>ih (a.add _)
theorem Lx.alu(P:List Lx.Pd)(K:List au):(jL P K).length<=K.length+P.length:=(aj9 (Ug P K) (oM.refl P K)).len
theorem Lx.akb{P:List Lx.Pd}{o:List au}{s:au}:(zx P n o s).length<=o.length+1:=by
 unfold zx Gt
 split
 ·split
  ·omega
  ·rw[abU];exact zL0
 ·omega

import Derived.Test.YtagkodkijkpemaaGreatDoorRA11
import Derived.Test.YtagkodkijkpemaaGreatDoorRA12
import Derived.Lib.AppendZeros
set_option maxHeartbeats 8000000
set_option maxRecDepth 1000000
namespace Go.Proofs.YtagkodkijkpemaaGreatDoor
open Lx Go.Proofs.Tryz
open Go.RowKit Tr
section
variable {D G:Nat -> Prop} {w w':World} {mb H:Nat} {ta:Option Addr} {nT tc:Nat} {vP vB vK vS:Value} {N:List ByteArray} {f:Addr -> Int}
theorem Nm.call(h:Nm D w mb H ta nT tc vP vB vK vS N G f)(a:nT<=100000)(c:N.length<=100000)(s:ByteArray):
  Calls prog 123 #[.pointer (some ⟨mb,0,none⟩),.string s] w fun e w'=>e=.returned (.int .i64 ((nT+N.length:Nat):Int))/\Nm D w' mb H ta nT tc vP vB vK vS (N++[s]) G f/\Kp D w w':=by
 obtain⟨g,h1,h2,h3⟩:=h.ex;refine(afU h1 h2 (fun e=>(h3 mb e).2.1 rfl) a c s).mono ?_;rintro e w'⟨rfl,d,b⟩;exact⟨rfl,h.named h1 b⟩
theorem Nm.Dy(h:Nm D w mb H ta nT tc vP vB vK vS N G f):w.cell? ⟨mb,6,none⟩=some (.map (some H))/\w.cell? ⟨mb,5,none⟩=some vS:=by
 obtain⟨a,h1,-⟩:=h.ex;exact⟨h1.cell 6,h1.cell 5⟩
end
theorem dW{D:Nat->Prop}{w w':World}{g:Nat}{cs:Array Value}{t:Nat}(h:aj w g cs t)(a:Kp D w w')(b:D g):aj w' g cs t:=(a.block g b).trans h
structure amE(D G:Nat->Prop)(w:World)(mb H cb:Nat)(ta:Option Addr)(nT tc:Nat)(vP vB vK vS:Value)(N:List ByteArray)(f:Addr->Int)(k:Nat)(w':World):Prop where
 nm:Nm D w' mb H ta nT tc vP vB vK vS N G f
 ct:aj w' cb #[.int .i64 (k:Int)] 3
 kp:Kp (fun g=>D g/\g≠cb) w w'
theorem aeX {D G:Nat->Prop} {w:World} {m H cb xb rb:Nat} {ta:Option Addr} {nT tc:Nat} {vP vB vK C va:Value} {N:List ByteArray} {f:Addr->Int} {k:Nat} {nm:ByteArray} (h:Nm D w m H ta nT tc vP vB vK C N G f) (I:aj w cb #[.int .i64 (k:Int)] 3) (hX:aj w xb #[.pointer (some ⟨m,0,none⟩)] 265) (Z:aj w rb #[.string nm,va] 254)
  (p:D cb) (u:D xb) (s:D rb) (L:xb≠cb) (O:rb≠cb) (X:fq w) (_:D r9) (T:r9≠cb) (B:∀b,G b->D b/\b≠cb/\iU w b) {a:Addr} (ha:G a.block) (bT:nT<=100000) (bN:N.length<=100000) (bk:k<=50000) (bs:nm.size<=2000) :
  Calls prog 125 #[.pointer (some a),.pointer (some ⟨cb,0,none⟩),.pointer (some ⟨xb,0,none⟩),.pointer (some ⟨rb,0,none⟩)] w fun e w'=>e=.returned (.tuple #[])/\amE D G w m H cb ta nT tc vP vB vK C (N++[Lx.hName nm (k+1)]) (fun c=>if c=a then ((nT+N.length:Nat):Int) else f c) (k+1) w':=by
 obtain⟨l,ac,A⟩:∃l:Nat,IntKind.i64.wrap ((k:Int)+1)=(l:Int)/\Hid (l=k+1):=⟨k+1,by rw[show ((k:Int)+1)=((k+1:Nat):Int) from by omega];exact wrap64 (by omega),rfl⟩;have c0:w.cell? ⟨cb,0,none⟩=some (.int .i64 (k:Int)):=I.cell 0;have f0:∀i,w.frozen? ⟨cb,i,none⟩=false:=I.frozen;obtain⟨W,r⟩:∃W,W=w.setCell ⟨cb,0,none⟩ (.int .i64 (l:Int)):=⟨_,rfl⟩;have t:∀g,g≠cb->W.heap[g]?=w.heap[g]?:=fun g q=>by rw[r];exact zS0 q
 have zk:W.heap.size=w.heap.size:=by rw[r];simp[World.setCell]
 have n:Kp (fun g=>D g/\g≠cb) w W:=⟨by rw[r];rfl,by rw[r];rfl,by rw[r];rfl,by omega,fun g q=>t g q.2⟩;have nW:Nm D W m H ta nT tc vP vB vK C N G f:=h.other (fun g _ hd=>t g fun e=>hd (e▸p)) (by omega);have z:aj W cb #[.int .i64 (l:Int)] 3:=by rw[r];exact I.set 0 _
 have F:aj W xb _ 265:=(t xb L).trans hX;have kR:aj W rb _ 254:=(t rb O).trans Z;have tW:fq W:=X.move (t r9 T);have P:∀b,G b->D b/\iU W b:=fun b v=>⟨(B b v).1,(B b v).2.2.move (t b (B b v).2.1)⟩
 have V:=ajr (w:=W.drew) (tW.move rfl) l (by have:=A.out;omega);have d0:W.drew.cell? ⟨cb,0,none⟩=some (.int .i64 (l:Int)):=z.drew.cell 0;have dx:W.drew.cell? ⟨xb,0,none⟩=some (.pointer (some ⟨m,0,none⟩)):=F.drew.cell 0;have dr:W.drew.cell? ⟨rb,0,none⟩=some (.string nm):=kR.drew.cell 0;have x:Nm D W.drew m H ta nT tc vP vB vK C N G f:=nW.other (fun _ _ _=>rfl) (zL0);have d6:=x.Dy.1;have S:(FY l).size<=50002:=dg (ahX l) (by have:=A.out;omega);have y:Hid (Lx.hName nm (k+1)=nm++⟨#[39]⟩++FY l):=by rw[A.out];rfl
 generalize FY l=db at y S V;have af:¬9223372036854775807<nm.size+1:=by omega
 have ab:¬9223372036854775807<nm.size+1+db.size:=by omega
 have ae:D xb/\D rb/\D cb:=⟨u,s,p⟩;clear h I hX Z X B t nW tW;go_enter func125,ntmps125;go_wp2_with fail;rw[<-r];clear r c0 f0
 go_region_held3 (fun w'=>w'.cell? ⟨cb,0,none⟩=some (.int .i64 (l:Int))/\w'.cell? ⟨xb,0,none⟩=some (.pointer (some ⟨m,0,none⟩))/\w'.cell? ⟨rb,0,none⟩=some (.string nm)/\w'.cell? ⟨m,6,none⟩=some (.map (some H))) (first|go_keep|assumption) (first|(go_at_call 126;refine V.mono ?_;rintro e E⟨rfl,R⟩;obtain⟨Y,d⟩:=x.below R;have S3:E.cell? ⟨cb,0,none⟩=some (.int .i64 (l:Int))/\E.cell? ⟨xb,0,none⟩=some (.pointer (some ⟨m,0,none⟩))/\E.cell? ⟨rb,0,none⟩=some (.string nm)/\E.cell? ⟨m,6,none⟩=some (.map (some H)):=⟨(dW z.drew d p).cell 0,(dW F.drew d u).cell 0,(dW kR.drew d s).cell 0,Y.Dy.1⟩;have q3:=Y.call bT bN (nm++⟨#[39]⟩++db))|(go_at_call 123;refine q3.mono ?_;rintro e J⟨rfl,U,j⟩;have S4:J.cell? ⟨cb,0,none⟩=some (.int .i64 (l:Int))/\J.cell? ⟨xb,0,none⟩=some (.pointer (some ⟨m,0,none⟩))/\J.cell? ⟨rb,0,none⟩=some (.string nm)/\J.cell? ⟨m,6,none⟩=some (.map (some H)):=⟨(dW (dW z.drew d p) j p).cell 0,(dW (dW F.drew d u) j u).cell 0,(dW (dW kR.drew d s) j s).cell 0,U.Dy.1⟩;obtain⟨K,ad,eP,M,aa⟩:=tH.put U.pm (fun b v=>((P b v).2.move (w':=W.drew) rfl).move ((j.block b (P b v).1).trans (d.block b (P b v).1))) ha ((nT:Int)+(N.length:Int));obtain⟨n5,o⟩:=U.am1 eP M;have S5:K.cell? ⟨cb,0,none⟩=some (.int .i64 (l:Int))/\K.cell? ⟨xb,0,none⟩=some (.pointer (some ⟨m,0,none⟩))/\K.cell? ⟨rb,0,none⟩=some (.string nm)/\K.cell? ⟨m,6,none⟩=some (.map (some H)):=⟨(dW (dW (dW z.drew d p) j p) o p).cell 0,(dW (dW (dW F.drew d u) j u) o u).cell 0,(dW (dW (dW kR.drew d s) j s) o s).cell 0,n5.Dy.1⟩))
 go_wp2_with fail
 go_end0
 rw[y.out,<-A.out];have en:((nT+N.length:Nat):Int)=(nT:Int)+(N.length:Int):=by omega
 rw[en];refine⟨rfl,n5,dW (dW (dW z.drew d p) j p) o p,?_⟩;have Q:Kp (fun g=>D g/\g≠cb) w W.drew:=⟨n.os,n.tape,n.output,n.size,n.block⟩;exact((Q.trans d fun g q=>q.1).trans j fun g q=>q.1).trans o fun g q=>q.1
namespace Lx
theorem akT{A R:List ByteArray}{b:ByteArray}(h:b∉A):fix (A++b::R) b=A.length:=by
 refine ab5 (by simp) fun i a e=>h ?_
 rw[eC a]at e;exact cQ e
def aS(rs:List Rl):List ByteArray:=NA::rs.flatMap jS
theorem ajs{rs:List Rl}{j:Nat}(a:j<rs.length):aS (rs.take (j+1))=aS (rs.take j)++jS rs[j]:=by
 unfold aS;rw[ff a,fL,fX];simp
theorem ah2{rs:List Rl}{j:Nat}(a:j<rs.length):∃R,aS rs=aS (rs.take j)++rs[j].name::R:=by
 refine⟨(List.range (bB 9 rs[j].alts).length).map (fun k=>hName rs[j].name (k+1))++(rs.drop (j+1)).flatMap jS,?_⟩;have e:rs=rs.take j++rs[j]::rs.drop (j+1):=by rw[<-eL a,mn]
 unfold aS
 conv=>lhs;rw[e]
 rw[fL,du];simp[jS]
theorem ajt{b:ByteArray}(h:isName b=true):∀c∈b.data.toList,(small (c.toNat:Int) || digit (c.toNat:Int))=true:=by
 unfold isName isWord FL at h;simp only[j',pM]at h;exact h.2
theorem ZM{b:ByteArray}(h:isName b=true):b.size<=12:=by
 unfold isName isWord at h;simp only[j',ii]at h;exact h.1.1.2
theorem agS{b:ByteArray}(h:isToken b=true):b.size<=12:=by
 unfold isToken isWord at h;simp only[j',ii]at h;exact h.1.1.2
theorem aju{b c:ByteArray}{k:Nat}(h:isName c=true):hName b k≠c:=by
 intro e;have a:(39:UInt8)∈c.data.toList:=by
  rw[<-e];unfold hName acY;simp
 have:=ajt h 39 a;revert this;decide
theorem aaC{c:ByteArray}(h:isName c=true):NA≠c:=by
 intro e;rw[<-e]at h;revert h;decide
theorem XH{b:ByteArray}(h:isToken b=true):isName b=false:=by
 unfold isToken isName isWord at *;simp only[j',ii]at h;have h1:=h.1.2;have:small (iy b 0)=false:=by
  unfold capital at h1;unfold small;simp only[ii]at h1;simp only[s7];omega
 rw[this];simp
theorem agT{rs:List Rl}(g:∀r∈rs,isName r.name=true)(d:(rs.map Rl.name).Nodup){j:Nat}(c:j<rs.length):rs[j].name∉aS (rs.take j):=by
 have b:=g rs[j] (dy c);intro h;rcases ee.1 h with h|h
 ·exact aaC b h.symm
 ·obtain⟨r,f,h⟩:=gd.1 h
  unfold jS at h;rcases ee.1 h with h|h
  ·obtain⟨i,l,rfl⟩:=li f
   rw[fN]at l;rw[List.getElem_take]at h;have a:=lr.1 d i j (by simp;omega) (by simpa using c) (by omega);simp only[oi]at a;exact a h.symm
  ·obtain⟨k,-,e⟩:=ej.1 h
   exact aju b e
theorem akU{rs:List Rl}(b:∀r∈rs,isName r.name=true)(c:(rs.map Rl.name).Nodup){j:Nat}(a:j<rs.length):fix (aS rs) rs[j].name=(aS (rs.take j)).length:=by
 obtain⟨R,e⟩:=ah2 a;rw[e];exact akT (agT b c a)
end Lx
theorem ZN(a:Array Value)(w:World):(callFunc 124 a).run prog w=.ok (.enter 124 a) w:=by kernel_rfl
theorem ah3(a:Array Value)(w:World):(callFunc 125 a).run prog w=.ok (.enter 125 a) w:=by kernel_rfl
def hlA(w:World)(v:Value)(l:List Lx.Alt):List AI:=(aK 9 w v l).filter fun p=>Lx.hlp p.2
theorem Sj{F:Nat->Prop}{w:World}{v:Value}{l:List Lx.Alt}(h:aM YP 9 F w v l):(hlA w v l).length=(bB 9 l).length:=by
 unfold hlA bB;rw[<-Fy h,List.filter_map,dt];rfl
theorem abp{F:Nat->Prop}{w:World}{v:Value}{l:List Lx.Alt}(h:aM YP 9 F w v l):(hlA w v l).map Prod.snd=bB 9 l:=by
 unfold hlA bB;rw[<-Fy h,List.filter_map];rfl
theorem aeY {D F G:Nat->Prop} {w:World} {z H cb xb rb:Nat} {ta:Option Addr} {nT tc:Nat} {vP vB vK E c:Value} {N:List ByteArray} {f:Addr->Int} {nm:ByteArray} {l:List Lx.Alt} (h:Nm D w z H ta nT tc vP vB vK E N G f) (Y:aj w cb #[.int .i64 0] 3) (hX:aj w xb #[.pointer (some ⟨z,0,none⟩)] 265) (Z:aj w rb #[.string nm,c] 254)
  (dC:D cb) (K:D xb) (J:D rb) (r:xb≠cb) (u:rb≠cb) (W:fq w) (M:D r9) (v:r9≠cb) (s:∀b,G b->D b/\b≠cb/\iU w b) (X:∀b,F b->D b/\b≠cb) (V:aM YP 9 F w c l) (Vd:∀p∈aK 9 w c l,G p.1.block) (S:((aK 9 w c l).map Prod.fst).Nodup) (bT:nT<=100000) (bN:N.length+(hlA w c l).length<=50000) (bs:nm.size<=2000) :
  Calls prog 118 #[c,.func (.func 124) #[] #[],.func (.func 125) #[] #[.pointer (some ⟨cb,0,none⟩),.pointer (some ⟨xb,0,none⟩),.pointer (some ⟨rb,0,none⟩)]] w fun e w'=>e=.returned (.tuple #[])/\∃f',Nm D w' z H ta nT tc vP vB vK E (N++hNames nm (hlA w c l).length) G f'/\Kp (fun g=>D g/\g≠cb) w w'/\BL (nT+N.length) (hlA w c l) f f':=by
 have B:((hlA w c l).map Prod.fst).Nodup:=S.sublist (List.filter_sublist.map _);have q:=RL 9 124 125 #[] #[.pointer (some ⟨cb,0,none⟩),.pointer (some ⟨xb,0,none⟩),.pointer (some ⟨rb,0,none⟩)] Lx.hlp F w (fun L w'=>∃f',Nm D w' z H ta nT tc vP vB vK E (N++hNames nm L.length) G f'/\aj w' cb #[.int .i64 (L.length:Int)] 3/\Kp (fun g=>D g/\g≠cb) w w'/\BL (nT+N.length) L f f') (fun p=>G p.1.block) (hlA w c l) ZN ah3
  (fun w' n m y _ Q=>Qt Q)
  (fun w' L n m y C _ Q aa T d=>by
   obtain⟨f',x,A,i,o⟩:=C;obtain⟨R,d⟩:=d;have P:L.length+1<=(hlA w c l).length:=by rw[d];simp
   have t:((L++[((⟨n,m*4,none⟩:Addr),y)]).map Prod.fst).Nodup:=by
    refine B.sublist (List.Sublist.map _ ?_);rw[d,show L++(((⟨n,m*4,none⟩:Addr),y)::R)=(L++[((⟨n,m*4,none⟩:Addr),y)])++R by simp];exact List.sublist_append_left _ _
   refine(aeX (a:=⟨n,m*4,none⟩) x A (dW hX i ⟨K,r⟩) (dW Z i ⟨J,u⟩) dC K J r u (W.move (i.block _ ⟨M,v⟩)) M v (fun b j=>⟨(s b j).1,(s b j).2.1,(s b j).2.2.move (i.block b ⟨(s b j).1,(s b j).2.1⟩)⟩) T bT (by rw[cH,QT];omega) (by omega) bs).mono ?_;rintro e ab⟨rfl,O,U,j3⟩;refine⟨rfl,_,?_,?_,i.trans j3 fun g hg=>hg,o.push t⟩
   ·rw[cH,gx,afV,<-dq]
    have e:((nT+(N++hNames nm L.length).length:Nat):Int)=((nT+N.length+L.length:Nat):Int):=by rw[cH,QT,Nat.add_assoc]
    rw[e]at O;exact O
   ·rw[cH,gx];exact U)
  (fun L w' C b j=>by obtain⟨f',x,A,i,o⟩:=C;exact i.block b (X b j))
  c l V (fun p I=>Vd p I) w [] ⟨f,by simpa [hNames]using h,Y,Kp.refl _ _,fun a _=>rfl,fun k p I=>by simp at I⟩ ⟨[],by simp[hlA]⟩
 refine q.mono ?_;rintro e w'⟨rfl,f',x,A,i,o⟩;rw[go]at x o;exact⟨rfl,f',x,i,o⟩
namespace Lx
def jd(T:List ByteArray)(b:ByteArray):Int:=if 0<=bW T b then bW T b else 0
theorem ajv(a:ByteArray):jd [a]=fun _=>0:=by
 funext b;unfold jd;have:=ahJ [a] b;simp only[gx]at this
 split <;> omega
theorem akV{T:List ByteArray}{b:ByteArray}(h:0<=bW T b)(a:ByteArray):bW (T++[a]) b=bW T b:=by
 unfold bW fix at *;rw[List.findIdx_append]
 split at h
 ·rename_i h1
  rw[de h1,de (by rw[cH];omega),de h1]
 ·omega
theorem ajw{T:List ByteArray}{b:ByteArray}(h:¬0<=bW T b):(fun c=>if c=b then (T.length:Int) else jd T c)=jd (T++[b]):=by
 funext c
 by_cases hc:c=b
 ·rw[de hc,hc]
  have a:b∉T:=fun f=>h (jH.2 f)
  have:=alY (l:=T++[b]) (b:=b) (j:=T.length) (by simp) (fun i d e=>a (by rw[eC d]at e;exact cQ e));unfold jd;rw[this,de (by omega)]
 ·rw[dk hc]
  unfold jd
  by_cases h0:0<=bW T c
  ·rw[akV h0]
  ·rw[dk h0,dk]
   intro h1;rcases cY.1 (jH.1 h1) with h2|h2
   ·exact h0 (jH.2 h2)
   ·exact hc (cM.1 h2)
theorem ZO{a b:ByteArray}{T:List ByteArray}(h:b≠a):jd (a::T) b=0↔¬0<=bW (a::T) b:=by
 unfold jd;constructor
 ·intro c h1
  rw[de h1]at c;unfold bW fix at c;rw[List.findIdx_cons]at c;simp[Ne.symm h]at c
  split at c <;> omega
 ·intro h1
  rw[dk h1]
def fD(ws:List Wd):List ByteArray:=(ws.filter fun x=>decide (x.1≠1) && decide (x.1≠2)).map fun x=>x.2.1
theorem ah4(a b:List Wd):fD (a++b)=fD a++fD b:=by unfold fD;rw[jx,ei]
def nQ(ws:List Wd):List ByteArray:=(ws.filter fun x=>decide (x.1≠1) && decide (x.1≠2) && decide (x.1≠4)).map fun x=>x.2.1
theorem MB(a b:List Wd):nQ (a++b)=nQ a++nQ b:=by unfold nQ;rw[jx,ei]
theorem Mg{α:Type}(f:α->List Wd):∀l:List α,nQ (l.flatMap f)=l.flatMap fun a=>nQ (f a)
 | []=>rfl
 |a::l=>by rw[du,MB,Mg f l,du]
theorem YW{l:List ByteArray}{b c:ByteArray}(h:c∈l):c∈jR l b:=by
 unfold jR;split
 ·exact h
 ·exact rK _ h
theorem XI:∀(ws:List Wd)(L:List ByteArray),(∀x∈ws,x.1=4->x.2.1∈L)->gH L (fD ws)=gH L (nQ ws)
 | [],_,_=>rfl
 |x::ws,L,h=>by
  have f:∀a,(∀c,c∈L->c∈a)->gH a (fD ws)=gH a (nQ ws):=fun a j=>XI ws a fun y k e=>j _ (h y (ev _ k) e)
  by_cases h12:x.1=1\/x.1=2
  ·have d:fD (x::ws)=fD ws:=by unfold fD;rw[qu];rcases h12 with h|h <;> simp[h]
   have b:nQ (x::ws)=nQ ws:=by unfold nQ;rw[qu];rcases h12 with h|h <;> simp[h]
   rw[d,b];exact f L fun _ h=>h
  ·have g:x.1≠1:=fun e=>h12 (.inl e)
   have i:x.1≠2:=fun e=>h12 (.inr e)
   have d:fD (x::ws)=x.2.1::fD ws:=by unfold fD;rw[tm (by simp[g,i])];rfl
   by_cases h4:x.1=4
   ·have b:nQ (x::ws)=nQ ws:=by unfold nQ;rw[qu];simp[h4]
    have l:jR L x.2.1=L:=de (jH.2 (h x (eh ..) h4));rw[d,b,show gH L (x.2.1::fD ws)=gH (jR L x.2.1) (fD ws) from rfl,l];exact f L fun _ h=>h
   ·have b:nQ (x::ws)=x.2.1::nQ ws:=by unfold nQ;rw[tm (by simp[g,i,h4])];rfl
    rw[d,b];exact f _ fun _ h=>YW h
theorem Yc:∀(d:Nat)(l:List Alt),nQ (eY d l)=uP d l
 |0,l=>rfl
 |d+1,l=>by
  rw[Iy,Mg,agK];congr 1;funext a;unfold Dn;have b:nQ (if a.2.1=aT then [] else [(4,a.2.1,a.2.2)])=[]:=by split <;> rfl
  rw[MB,b,eN,Mg];congr 1;funext x;unfold mJ Tn;rw[MB,Yc d];congr 1
  split
  ·rename_i h;rw[dk (by omega)];rfl
  ·split
   ·rfl
   ·rfl
theorem ah5{g:Gr}(h:∀x∈iG g,x.1=4->x.2.1∈lV g):gH [lq] (fD (iG g))=aD g:=by
 have f:iG g=nI g++g.rules.flatMap fun r=>(1,r.name,r.place)::eY 9 r.alts:=rfl
 have j:fD (nI g)=lV g:=by
  unfold fD lV eZ;congr 1;refine so.2 fun x a=>?_
  unfold nI at a;obtain⟨m,-,a⟩:=gd.1 a;obtain⟨t,-,rfl⟩:=ej.1 a;rfl
 have k:∀(d l:List ByteArray)(c:ByteArray),c∈l\/c∈d->c∈gH l d:=by
  intro d
  induction d with
  |nil=>
   intro l c h;rcases h with h|h
   ·exact h
   ·cases h
  |cons b d ih=>
   intro l c h;refine ih (jR l b) c ?_;rcases h with h|h
   ·exact .inl (YW h)
   ·rcases ee.1 h with h | h
    ·subst h
     refine .inl ?_;unfold jR;split
     ·rename_i i;exact jH.1 i
     ·simp
    ·exact .inr h
 rw[f,ah4,X0,j,XI _ _ fun x a e=>k _ _ _ (.inr (h x (by rw[f];exact List.mem_append_right _ a) e)),Mg];unfold aD;rw[X0];congr 1;congr 1;funext r;rw[show (1,r.name,r.place)::eY 9 r.alts=[(1,r.name,r.place)]++eY 9 r.alts from rfl,MB,Yc];rfl
end Lx
theorem Nm.weak{D D' G:Nat->Prop}{w:World}{d H:Nat}{ta:Option Addr}{nT tc:Nat}{vP vB vK c:Value}{N:List ByteArray}{f:Addr->Int}(h:Nm D w d H ta nT tc vP vB vK c N G f)(a:∀g,D' g->D g):Nm D' w d H ta nT tc vP vB vK c N G f:=by
 obtain⟨⟨j,h1,h2,h3⟩,m,k,n,l,i⟩:=h;exact⟨⟨j,h1,h2,fun g b=>⟨fun hd=>(h3 g b).1 (a g hd),(h3 g b).2⟩⟩,m,fun hd=>k (a _ hd),fun hd=>n (a _ hd),l,fun g b=>i g (a g b)⟩
theorem Nm.new{D G:Nat->Prop}{w:World}{i H:Nat}{ta:Option Addr}{nT tc:Nat}{vP vB vK d:Value}{N:List ByteArray}{f:Addr->Int}(h:Nm D w i H ta nT tc vP vB vK d N G f){w':World}(b:Below w.heap.size w w')(q:w.heap.size<w'.heap.size):Nm (fun g=>D g\/g=w.heap.size) w' i H ta nT tc vP vB vK d N G f/\Kp D w w':=by
 refine⟨?_,Kp.below b h.lt⟩;have lm:=h.lm;have j:H<w.heap.size:=dm.lt h.pm;obtain⟨⟨l,h1,h2,h3⟩,o,m,p,n,k⟩:=h;refine⟨⟨l,(b.block _ lm).trans h1,own_below h2 b,fun g c=>⟨?_,(h3 g c).2⟩⟩,o.move (b.block _ j),?_,?_,n,?_⟩
 ·rintro(a | a)
  ·exact(h3 g c).1 a
  ·have:=(h2.lt g c).2;omega
 ·rintro(a | a)
  ·exact m a
  ·omega
 ·rintro(a | a)
  ·exact p a
  ·omega
 ·rintro g(a | a)
  ·have:=k g a;omega
  ·omega
theorem Yd{α:Type}{f:Nat->α->List AI}:∀(l:List α)(j:Nat),((qx f j l).map Prod.fst).Nodup->∀{i k:Nat}{a b:α},i<k->l[i]?=some a->l[k]?=some b->∀{p q:AI},p∈f (j+i) a->q∈f (j+k) b->p.1≠q.1
 | [],j,_,i,k,a,b,_,h,_,_,_,_,_=>by simp at h
 |x::xs,j,hn,i,k,a,b,hik,ha,hb,p,q,hp,n=>by
  rw[qx,ei,ik]at hn;obtain⟨c,rfl⟩:∃c,k=c+1:=⟨k-1,by omega⟩;have g:xs[c]?=some b:=by simpa using hb
  have d:q∈f (j+1+c) b:=by rw[show j+1+c=j+(c+1) by omega];exact n
  cases i with
  |zero=>
   simp only[ir,lA]at ha;subst ha;refine hn.2.2 _ (ej.2 ⟨p,hp,rfl⟩) _ (ej.2 ⟨q,?_,rfl⟩);have:∀(l:List α)(j m:Nat),l[m]?=some b->q∈f (j+m) b->q∈qx f j l:=by
    intro l
    induction l with
    |nil=>intro j m h;simp at h
    |cons y l ih=>
     intro j m h n;rw[qx,cY];cases m with
     |zero=>simp only[ir,lA]at h;subst h;exact .inl n
     |succ m=>exact .inr (ih (j+1) m (by simpa using h) (by rw[show j+1+m=j+(m+1) by omega];exact n))
   exact this xs (j+1) c g d
  |succ i=>
   exact Yd xs (j+1) hn.2.1 (i:=i) (k:=c) (by omega) (by simpa using ha) g (by rw[show j+1+i=j+(i+1) by omega];exact hp) d
theorem QU{α:Type}{f:Nat->α->List AI}{b:α}{q:AI}:∀(l:List α)(j m:Nat),l[m]?=some b->q∈f (j+m) b->q∈qx f j l
 | [],j,m,h,_=>by simp at h
 |y::l,j,m,h,hq=>by
  rw[qx,cY];cases m with
  |zero=>simp only[ir,lA]at h;subst h;exact .inl hq
  |succ m=>exact .inr (QU l (j+1) m (by simpa using h) (by rw[show j+1+m=j+(m+1) by omega];exact hq))
theorem XJ{α:Type}{f:Nat->α->List AI}:∀(l:List α)(j m:Nat)(b:α),((qx f j l).map Prod.fst).Nodup->l[m]?=some b->((f (j+m) b).map Prod.fst).Nodup
 | [],j,m,b,_,h=>by simp at h
 |y::l,j,m,b,hn,h=>by
  rw[qx,ei,ik]at hn;cases m with
  |zero=>simp only[ir,lA]at h;subst h;exact hn.1
  |succ m=>
   have:=XJ l (j+1) m b hn.2.1 (by simpa using h);rw[show j+1+m=j+(m+1) by omega]at this;exact this
structure xu(nT:Nat)(rs:List Lx.Rl)(j:Nat)(f0 f:ByteArray->Int):Prop where
 rule:∀i(hi:i<rs.length),i<j->f rs[i].name=((nT+(aS (rs.take i)).length:Nat):Int)
 tok:∀c,(∀i(hi:i<rs.length),i<j->rs[i].name≠c)->f c=f0 c
theorem xu.step{nT:Nat}{rs:List Lx.Rl}{j:Nat}{f0 f:ByteArray->Int}(h:xu nT rs j f0 f)(l:(rs.map Lx.Rl.name).Nodup)(g:j<rs.length):xu nT rs (j+1) f0 (fun c=>if c=rs[j].name then ((nT+(aS (rs.take j)).length:Nat):Int) else f c):=by
 refine⟨fun i b d=>?_,fun c k=>?_⟩
 ·by_cases e:i=j
  ·subst e;simp
  ·have a:rs[i].name≠rs[j].name:=by
    have:=lr.1 l i j (by simpa using b) (by simpa using g) (by omega);simpa using this
   simp only[dk a];exact h.rule i b (by omega)
 ·have a:c≠rs[j].name:=fun e=>k j g (by omega) e.symm
  simp only[dk a];exact h.tok c fun i b d=>k i b (by omega)
def xw(w:World)(gR nT:Nat)(rs:List Lx.Rl)(j:Nat)(f:Addr->Int):Prop:=∀i(hi:i<rs.length),i<j->∀k p,(hlA w (cv w ⟨gR,i*2+1,none⟩) rs[i].alts)[k]?=some p->f p.1=((nT+(aS (rs.take i)).length+1+k:Nat):Int)
theorem xw.step{w:World}{a nT:Nat}{rs:List Lx.Rl}{j:Nat}{f b:Addr->Int}(h:xw w a nT rs j f)(g:j<rs.length)(l:((Si w a 0 rs).map Prod.fst).Nodup)(c:BL (nT+(aS (rs.take j)).length+1) (hlA w (cv w ⟨a,j*2+1,none⟩) rs[j].alts) f b):xw w a nT rs (j+1) b:=by
 intro i d o k p hp
 by_cases e:i=j
 ·subst e
  exact c.2 k p hp
 ·rw[c.1 p.1 fun q n m=>?_]
  ·exact h i d (by omega) k p hp
  ·have h1:p∈aK 9 w (cv w ⟨a,i*2+1,none⟩) rs[i].alts:=(ie.1 (cQ hp)).1
   have h2:q∈aK 9 w (cv w ⟨a,j*2+1,none⟩) rs[j].alts:=(ie.1 n).1;exact Yd rs 0 l (i:=i) (k:=j) (by omega) (cF d) (cF g) (by rw[fi];exact h1) (by rw[fi];exact h2) m.symm
structure am3(D G:Nat->Prop)(w:World)(mb S H gR:Nat)(ta:Option Addr)(nT tc:Nat)(vP vB vK:Value)(rs:List Lx.Rl)(j:Nat)(f0:ByteArray->Int)(w':World):Prop where
 ex:∃f fS,Nm (fun g=>D g\/g=S) w' mb H ta nT tc vP vB vK (.map (some S)) (aS (rs.take j)) G f/\SMap w' S fS/\xu nT rs j f0 fS/\xw w gR nT rs j f
 kp:Kp D w w'
theorem afn{D F:Nat->Prop}{w:World}{l S H:Nat}{ta:Option Addr}{nT tc:Nat}{vP vB vK vR:Value}{rs:List Lx.Rl}{f0:ByteArray->Int}(P:aj w l #[.slice ta nT tc,.slice none 0 0,vP,vB,vK,.map (some S),.map (some H)] 198)(hS:SMap w S f0)(hH:tH (fun b=>F b/\iU w b) w H (fun _=>0))(hR:Tr.dQ F w 254 2 cR KR vR rs)(L:∀b,F b->D b)(hD:∀b,D b->b<w.heap.size)(nM:¬D l)(nS:¬D S)(nH:¬D H)(a7:S≠H)(ht:fq w)(dT:D r9)(nd:(rs.map Lx.Rl.name).Nodup)(hn:∀r∈rs,r.name.size<=2000)(bT:nT<=100000)(bN:(aS rs).length<=50000)(bR:rs.length<=100000):
  Calls prog 84 #[.pointer (some ⟨l,0,none⟩),vR] w fun e w'=>e=.returned (.tuple #[])/\am3 D (fun b=>F b/\iU w b) w l S H (aQ vR) ta nT tc vP vB vK rs rs.length f0 w':=by
 have Am:lN F w vR rs:=⟨fun b u=>hD b (L b u),dQ.weak hR fun A v x hA hk=>eD.weak hA hk⟩;have B:=Xh hR;obtain⟨a,c,rfl,hm⟩:=Am.len;have lm:=P.lt;have lS:=hS.lt;have lH:H<w.heap.size:=dm.lt hH;have Ao:l≠S:=fun e=>by
  obtain⟨es,U,h1,-⟩:=hS;unfold aj at P;rw[e,h1]at P;cases P
 have a4:l≠H:=fun e=>by
  obtain⟨es,U,h1,-⟩:=hH;unfold aj at P;rw[e,h1]at P;cases P
 unfold maxLen at hm;obtain⟨W,hW⟩:∃W,W=w.alloc (.cells #[.pointer (some ⟨l,0,none⟩)] 265):=⟨_,rfl⟩;have z:Below w.heap.size w W:=by rw[hW];exact(cV _ _).alloc (zL0) _
 have zk:W.heap.size=w.heap.size+1:=by rw[hW];simp
 have kX:aj W w.heap.size #[.pointer (some ⟨l,0,none⟩)] 265:=by rw[hW];exact aj.new w _ 265
 have nW:Nm (fun g=>D g\/g=S\/g=w.heap.size) W l H ta nT tc vP vB vK (.map (some S)) [] (fun b=>F b/\iU w b) (fun _=>0):=by
  refine⟨⟨.slice none 0 0,(z.block _ lm).trans P,eE _ _ _ _,fun g d=>(by cases d)⟩,hH.move (z.block _ lH),?_,?_,a4,?_⟩
  ·rintro(h | h | h)
   ·exact nM h
   ·exact Ao h
   ·omega
  ·rintro(h | h | h)
   ·exact nH h
   ·exact a7 h.symm
   ·omega
  ·rintro g(h | h | h)
   ·have:=hD g h;omega
   ·omega
   ·omega
 have q0:=nW.call bT (by simp) NA;have x0:W.cell? ⟨w.heap.size,0,none⟩=some (.pointer (some ⟨l,0,none⟩)):=kX.cell 0;go_enter func84,ntmps84;go_wp2_with fail;rw[<-hW];refine q0.mono ?_;rintro e w1⟨rfl,n1,n⟩;have Gn:aj w1 w.heap.size _ 265:=dW kX n (.inr (.inr rfl));have J:SMap w1 S f0:=(hS.move (z.block _ lS)).move (n.block S (.inr (.inl rfl)));have yT:Kp D w w1:=(Kp.below z hD).trans n fun g d=>.inl d
 have ad:xu nT rs 0 f0 f0:=⟨fun i hi h=>absurd h (by omega),fun _ _=>rfl⟩;have ak:xw w (aQ (.slice a rs.length c)) nT rs 0 (fun _=>0):=fun i hi h=>absurd h (by omega)
 clear q0 x0 hW z zk kX nW n hS hH;go_wp2_with fail
 go_loopg [11] rs.length (fun k i wr=>∃(j:Nat)(f:Addr->Int)(fS:ByteArray->Int),j+k=rs.length/\i=.int .i64 j/\Nm (fun g=>D g\/g=S\/g=w.heap.size) wr l H ta nT tc vP vB vK (.map (some S)) (aS (rs.take j)) (fun b=>F b/\iU w b) f/\SMap wr S fS/\aj wr w.heap.size #[.pointer (some ⟨l,0,none⟩)] 265/\Kp D w wr/\xu nT rs j f0 fS/\xw w (aQ (.slice a rs.length c)) nT rs j f)
 case atStart=>exact⟨0,_,_,by omega,rfl,n1,J,Gn,yT,ad,ak⟩
 case round=>
  clear n1 J Gn yT ad ak;clear w1;obtain⟨j,f,fS,hk,rfl,nr,an,aa,s,sy,he⟩:=hrel
  by_cases hlt:j<rs.length
  ·obtain⟨I,a8,Q,hv,ao,hA,c0,c1⟩:=Am.at hlt
   cases hv;have Ve:aQ (.slice (some ⟨I,0,none⟩) rs.length c)=I:=rfl;rw[Ve]at he B;have xO:cv w ⟨I,j*2+1,none⟩=Q:=by unfold cv;rw[c1];rfl
   have am:=s.block I (L I ao);have d0:wr.cell? ⟨I,j*2,none⟩=some (.string rs[j].name):=(cJ (w:=w) am).trans c0;have d1:wr.cell? ⟨I,j*2+1,none⟩=some Q:=(cJ (w:=w) am).trans c1;have av:=hn rs[j] (dy hlt);have ab:=sy.step nd hlt;have t:(aS (rs.take (j+1))).length<=50000:=by
    obtain⟨R,e⟩:∃R,aS rs=aS (rs.take (j+1))++R:=by
     refine⟨(rs.drop (j+1)).flatMap jS,?_⟩;unfold aS
     conv=>lhs;rw[<-mn (j+1) rs]
     rw[fL,fX]
    rw[e,cH]at bN;omega
   have Y:=ajs hlt;have V:jS rs[j]=rs[j].name::hNames rs[j].name (hlA w Q rs[j].alts).length:=by rw[Sj hA];rfl
   rw[Y,V]at t;have Vd:∀p∈aK 9 w Q rs[j].alts,F p.1.block/\iU w p.1.block:=fun p hp=>B.1 p (QU rs 0 j (cF hlt) (by rw[fi,xO];exact hp))
   have F3:((aK 9 w Q rs[j].alts).map Prod.fst).Nodup:=by
    have:=XJ rs 0 j _ B.2 (cF hlt);rw[fi,xO]at this;exact this
   have E:∀f',BL (nT+(aS (rs.take j)).length+1) (hlA w Q rs[j].alts) f f'->xw w I nT rs (j+1) f':=fun f' az=>he.step hlt B.2 (by rw[xO];exact az)
   have ag:Hid (∀f',BL (nT+(aS (rs.take j)).length+1) (hlA w Q rs[j].alts) f f'->xw w I nT rs (j+1) f'):=E;have af:Hid (aS (rs.take (j+1))=aS (rs.take j)++rs[j].name::hNames rs[j].name (hlA w Q rs[j].alts).length):=by show _=_;rw[Y,V]
   clear E Y V c0 c1 xO he B sy;have TT:xu nT rs (j+1) f0 fun c=>if c=rs[j].name then ((nT+(aS (rs.take j)).length:Nat):Int) else fS c:=ab
   clear ab;generalize rs[j].alts=al at *;generalize rs[j].name=nm at *;obtain⟨N,hN⟩:∃N,N=aS (rs.take j):=⟨_,rfl⟩;rw[<-hN]at nr t ag af TT;clear hN;obtain⟨K,O,rfl,-⟩:=aM.len hA;obtain⟨G,C⟩:∃G,G=wr.alloc (.cells #[.string nm,.slice K al.length O] 254):=⟨_,rfl⟩;have X:Below wr.heap.size wr G.drew:=by rw[C];exact((cV _ _).alloc (zL0) _).drew
   have aA:G.heap.size=wr.heap.size+1:=by rw[C];simp
   have kR:aj G wr.heap.size #[.string nm,.slice K al.length O] 254:=by rw[C];exact aj.new wr _ 254
   obtain⟨n1,n⟩:=nr.new X (by show wr.heap.size<G.heap.size;omega);have a6:=aa.lt;have Gn:aj G.drew w.heap.size _ 265:=(X.block _ a6).trans aa;have a2:G.drew.cell? ⟨w.heap.size,0,none⟩=some (.pointer (some ⟨l,0,none⟩)):=Gn.cell 0;have a5:G.drew.cell? ⟨wr.heap.size,0,none⟩=some (.string nm):=kR.drew.cell 0;have ax:=n1.Dy.2;have a9:N.length<=50000:=by rw[cH]at t;omega
   have q1:=n1.call bT (by omega) nm;have J:SMap G.drew S fS:=an.move (X.block _ (nr.lt S (.inr (.inl rfl))));go_wp2_with fail;rw[<-C];clear C d0 d1
   go_region_held3 (fun w'=>w'.cell? ⟨w.heap.size,0,none⟩=some (.pointer (some ⟨l,0,none⟩))/\w'.cell? ⟨wr.heap.size,0,none⟩=some (.string nm)/\w'.cell? ⟨l,5,none⟩=some (.map (some S))) (first|go_keep|assumption) ((go_at_call 123;refine q1.mono ?_;rintro e w3⟨rfl,n3,m⟩;have S3:w3.cell? ⟨w.heap.size,0,none⟩=some (.pointer (some ⟨l,0,none⟩))/\w3.cell? ⟨wr.heap.size,0,none⟩=some (.string nm)/\w3.cell? ⟨l,5,none⟩=some (.map (some S)):=⟨(dW Gn m (.inl (.inr (.inr rfl)))).cell 0,(dW kR.drew m (.inr rfl)).cell 0,n3.Dy.2⟩;obtain⟨o,Eg,Gp,q,ae⟩:=SMap.put (w:=w3) (J.move (m.block S (.inl (.inr (.inl rfl))))) nm ((nT:Int)+(N.length:Int));have T:=n3.other (w':=o) (fun g d hd=>q.block g d fun e=>hd (.inl (.inr (.inl (gh e))))) (by omega);have O0:aj o w.heap.size #[.pointer (some ⟨l,0,none⟩)] 265:=(q.block _ (by have:=n3.lt w.heap.size (.inl (.inr (.inr rfl)));exact this) (fun e=>by have:=gh e;omega)).trans (dW Gn m (.inl (.inr (.inr rfl))));have pW:aj o wr.heap.size #[.string nm,.slice K al.length O] 254:=(q.block _ (n3.lt _ (.inr rfl)) (fun e=>by have:=gh e;omega)).trans (dW kR.drew m (.inr rfl));have S4:o.cell? ⟨w.heap.size,0,none⟩=some (.pointer (some ⟨l,0,none⟩))/\o.cell? ⟨wr.heap.size,0,none⟩=some (.string nm)/\o.cell? ⟨l,5,none⟩=some (.map (some S)):=⟨O0.cell 0,pW.cell 0,T.Dy.2⟩))
   clear q1 Eg S3 S4 a2 a5 ax;have Cm:∀(fn:Fn)(first cap:Array Value)(w:World),(Instr.makeFunc fn first cap).run prog w=.ok (.func fn first cap) w:=fun _ _ _ _=>rfl
   have aq:o.cell? ⟨wr.heap.size,1,none⟩=some (.slice K al.length O):=pW.cell 1;have ap:=pW.lt;have ac:=O0.lt;have aF:Hid (o.heap.size=w3.heap.size):=ae;clear ae;obtain⟨M,zl⟩:∃M,M=o.alloc (.cells #[.int .i64 0] 3):=⟨_,rfl⟩;have y:Below o.heap.size o M:=by rw[zl];exact(cV _ _).alloc (zL0) _
   have aE:M.heap.size=o.heap.size+1:=by rw[zl];simp
   have nV:aj M o.heap.size #[.int .i64 0] 3:=by rw[zl];exact aj.new o _ 3
   obtain⟨n5,ah⟩:=T.new y (by omega);have a0:S<o.heap.size:=T.lt S (.inl (.inr (.inl rfl)));have ai:Kp D w o:=⟨q.os.trans (m.os.trans (n.os.trans s.os)),q.tape.trans (m.tape.trans (n.tape.trans s.tape)),q.output.trans (m.output.trans (n.output.trans s.output)),dg s.size (dg n.size (dg m.size q.size)),fun g d=>(q.block g (n3.lt g (.inl (.inl d))) (fun e=>nS ((gh e)▸d))).trans ((m.block g (.inl (.inl d))).trans ((n.block g (.inl d)).trans (s.block g d)))⟩;have F4:Kp D w M:=ai.trans ah fun g d=>.inl (.inl d)
   have Km:aM YP 9 F M (.slice K al.length O) al:=aM.move (fun b u=>F4.block b (L b u)) (fun _ h=>h) hA;have O1:aK 9 M (.slice K al.length O) al=aK 9 w (.slice K al.length O) al:=IQ hA fun b u=>F4.block b (L b u)
   have Vf:hlA M (.slice K al.length O) al=hlA w (.slice K al.length O) al:=by unfold hlA;rw[O1]
   have q5:=aeY (cb:=o.heap.size) (xb:=w.heap.size) (rb:=wr.heap.size) n5 nV ((y.block _ ac).trans O0) ((y.block _ ap).trans pW) (.inr rfl) (.inl (.inl (.inr (.inr rfl)))) (.inl (.inr rfl)) (by omega) (by omega) (ht.move (F4.block _ dT)) (.inl (.inl (.inl dT))) (by have:=T.lt r9 (.inl (.inl dT));omega) (fun b u=>⟨.inl (.inl (.inl (L b u.1))),by have:=T.lt b (.inl (.inl (L b u.1)));omega,u.2.move (F4.block b (L b u.1))⟩) (fun b u=>⟨.inl (.inl (.inl (L b u))),by have:=T.lt b (.inl (.inl (L b u)));omega⟩) Km (fun p hp=>Vd p (by rw[<-O1];exact hp)) (by rw[O1];exact F3) bT (by rw[Vf];rw[cH,el,QT]at t;rw[cH,gx];omega) av;rw[Vf]at q5;go_wp2_with fail;rw[<-zl];refine q5.mono ?_;rintro e w6⟨rfl,f6,n6,Ap,ar⟩;have O3:SMap w6 S _:=(Gp.move (y.block _ a0)).move (Ap.block S ⟨.inl (.inl (.inr (.inl rfl))),by omega⟩);have Aq:aj w6 w.heap.size #[.pointer (some ⟨l,0,none⟩)] 265:=(Ap.block _ ⟨.inl (.inl (.inr (.inr rfl))),by omega⟩).trans ((y.block _ ac).trans O0);have aw:Kp D w w6:=F4.trans Ap fun g d=>⟨.inl (.inl (.inl d)),by have:=T.lt g (.inl (.inl d));omega⟩
   have a3:xw w I nT rs (j+1) f6:=ag.out f6 (by rw[show nT+N.length+1=nT+(N++[nm]).length by rw[cH,gx];omega];exact ar);have Z:=n6.weak (D':=fun g=>D g\/g=S\/g=w.heap.size) fun g d=>.inl (.inl d)
   rw[dq,List.singleton_append,<-af.out]at Z;have en:((nT+N.length:Nat):Int)=(nT:Int)+(N.length:Int):=by omega
   rw[en]at TT;have a1:Hid _:=Z;clear q5 n6 Z T n5 n3 Km O1 Vf ah ai F4 Cm aq;go_wp2_with fail;go_roundg (rs.length - (j+1))
   case measure=>omega
   case rel=>exact⟨j+1,f6,_,by omega,by go_num,a1.out,O3,Aq,aw,TT,a3⟩
  ·have:j=rs.length:=by omega
   subst this;go_wp2_with fail
   go_end0
   exact⟨rfl,⟨f,fS,nr.weak (fun g d=>by rcases d with d | d;exact .inl d;exact .inr (.inl d)),an,sy,he⟩,s⟩
theorem Tryz.akW:(prog.info? 120).map (fun i=>(i.zero,i.size,i.bytes))=some (some (.agg #[.int .i64 0,.slice none 0 0,.int .i64 0]),3,40):=by kernel_rfl
theorem Tryz.aeZ:prog.underlying 54=some (.slice 120):=by kernel_rfl
theorem agU{w:World}{v:Value}{r:List Nat}(h:IR 0 w v r)(z:r.length<=1000000):Calls prog 163 #[v] w fun e w'=>∃v',e=.returned v'/\IR w.heap.size w' v' r/\Below w.heap.size w w':=by
 have b:=h;unfold IR at b;rcases b.2 with i|⟨g,d,q,n,y,A,o,m,t,u⟩
 ·obtain⟨a,c,rfl,-⟩:=aB h
  have l:a=none/\r=[]:=by
   have e:=i.1;have x:=i.2;simp only[rm]at e;refine⟨e.1,fY ?_⟩;omega
  obtain⟨rfl,rfl⟩:=l;refine(Tryz.slices_Clone_int_nil _ _ w).mono ?_;rintro e w'⟨rfl,rfl⟩;exact⟨_,rfl,eE _ _ _ _,cV _ _⟩
 ·subst n
  refine(Tryz.slices_Clone_int g 0 r.length d (r.map fun(s:Nat)=>(s:Int)) w (by simp) (by omega) (fun j k=>?_)).mono ?_
  ·simp only[dt]at k
   rw[fi,b.cellAt j (by omega)];unfold dK;simp[List.getD,k]
  ·rintro e w'⟨v',rfl,f,-,p⟩
   refine⟨v',rfl,?_,p⟩;unfold IR;have e:(List.take r.length (r.map fun(s:Nat)=>(s:Int))).map (Value.int .i64)=dK r:=by
    rw[tA (by simp),rh];rfl
   rw[e]at f;exact f
def PP(D:Nat->Prop)(w:World)(v:Value)(P:List Lx.Pd):Prop:=∃ps:List (Value×Lx.Pd),ps.map Prod.snd=P/\w.ownsRow 0 120 3 v P.length (ps.flatMap tX)/\(∀q,q∈ps->IR 0 w q.1 q.2.right/\∀g,q.1.ownBlock=some g->D g)/\ps.Pairwise fun a b=>∀g,a.1.ownBlock=some g->b.1.ownBlock≠some g
structure Mp(D G:Nat->Prop)(w:World)(mb S H:Nat)(ta:Option Addr)(nT tc:Nat)(vN vB vK:Value)(fS:ByteArray->Int)(fH:Addr->Int)(P:List Lx.Pd):Prop where
 ex:∃vP,aj w mb #[.slice ta nT tc,vN,vP,vB,vK,.map (some S),.map (some H)] 198/\PP (fun g=>D g/\mb<g) w vP P/\∀g,vP.ownBlock=some g->¬D g/\mb<g
 sm:SMap w S fS
 pm:tH G w H fH
 dS:D S
 dH:D H
 nm:¬D mb
 lt:∀g,D g->g<w.heap.size
 gc:∀b,G b->D b/\iU w b
section
variable {D G:Nat -> Prop} {w:World} {mb S H:Nat} {ta:Option Addr} {nT tc:Nat} {vN vB vK:Value} {fS:ByteArray -> Int} {fH:Addr -> Int} {P:List Lx.Pd}
theorem Mp.lm(h:Mp D G w mb S H ta nT tc vN vB vK fS fH P):mb<w.heap.size:=by
 obtain⟨a,h1,-⟩:=h.ex;exact h1.lt
theorem Mp.below{w':World}(h:Mp D G w mb S H ta nT tc vN vB vK fS fH P)(a:Below w.heap.size w w'):Mp D G w' mb S H ta nT tc vN vB vK fS fH P:=by
 obtain⟨⟨s,h1,⟨n,p,v,k,m⟩,h3⟩,u,t,j,l,r,d,f⟩:=h;exact⟨⟨s,(a.block _ h1.lt).trans h1,⟨n,p,own_below v a,fun q i=>⟨own_below (k q i).1 a,(k q i).2⟩,m⟩,h3⟩,u.move (a.block _ (d _ j)),t.move (a.block _ (d _ l)),j,l,r,fun g o=>dd (d g o) a.size,fun b c=>⟨(f b c).1,(f b c).2.move (a.block b (d b (f b c).1))⟩⟩
end
theorem Mp.push {D G:Nat->Prop} {w w3 m:World} {o:Obj} {f S H:Nat} {ta:Option Addr} {nT tc:Nat} {B vP vB vK u:Value} {K:ByteArray->Int} {M:Addr->Int} {P:List Lx.Pd} {t:List (Value×Lx.Pd)} {left:Nat} {r:List Nat} {L:Int} {k d:Nat} (h:Mp D G w f S H ta nT tc B vB vK K M P) (h1:aj w f #[.slice ta nT tc,B,vP,vB,vK,.map (some S),.map (some H)] 198) (C:t.map Prod.snd=P) (F:w.ownsRow 0 120 3 vP P.length (t.flatMap tX)) (l:∀q,q∈t->IR 0 w q.1 q.2.right/\∀g,q.1.ownBlock=some g->D g/\f<g) (Q:t.Pairwise fun a b=>∀g,a.1.ownBlock=some g->b.1.ownBlock≠some g) (h3:∀g,vP.ownBlock=some g->¬D g/\f<g)
  (i:Below w.heap.size w w3) (A:IR w.heap.size w3 u r) (W:m.ownsRow 0 120 3 (.slice (some ⟨k,0,none⟩) (P.length+1) d) (P.length+1) (t.flatMap tX++[.int .i64 (left:Int),u,.int .i64 L])) (n:(w3.alloc o).grownBy m vP.ownBlock) (s:vP.ownBlock=some k\/w3.heap.size<=k) (I:L=oJ nT r) :
  ∃D',(∀g,D g->D' g)/\Mp D' G (m.setCell ⟨f,2,none⟩ (.slice (some ⟨k,0,none⟩) (P.length+1) d)) f S H ta nT tc B vB vK K M (P++[bM nT left r])/\Kp D w (m.setCell ⟨f,2,none⟩ (.slice (some ⟨k,0,none⟩) (P.length+1) d)):=by
 have V:=h1.lt;have Y:=i.size;have aa:w3.heap.size+1<=m.heap.size:=by have:=n.size;simpa using this
 have J:f<k:=by
  rcases s with e|e
  ·exact(h3 k e).2
  ·omega
 have bk:∀g,g<w3.heap.size->g≠f->vP.ownBlock≠some g->(m.setCell ⟨f,2,none⟩ (.slice (some ⟨k,0,none⟩) (P.length+1) d)).heap[g]?=w3.heap[g]?:=fun g R hm O=>by
  rw[zS0 hm,n.block g (by simp;omega) (fun e=>O e.symm),di _ _ _ R]
 have y:∀g,D g->(m.setCell ⟨f,2,none⟩ (.slice (some ⟨k,0,none⟩) (P.length+1) d)).heap[g]?=w.heap[g]?:=fun g hd=>by
  have:=h.lt g hd;rw[bk g (by omega) (fun e=>h.nm (e▸hd)) (fun e=>(h3 g e).1 hd),i.block g this]
 have j:∀g,u.ownBlock=some g->w.heap.size<=g/\g<w3.heap.size:=fun g n=>A.lt g n
 have v:∀g,vP.ownBlock=some g->g<w.heap.size:=fun g n=>(F.lt g n).2
 have T:∀g,u.ownBlock=some g->(m.setCell ⟨f,2,none⟩ (.slice (some ⟨k,0,none⟩) (P.length+1) d)).heap[g]?=w3.heap[g]?:=fun g U=>by
  have h5:=j g U;exact bk g h5.2 (by omega) (fun e=>by have:=v g e;omega)
 have hsz:w.heap.size<=(m.setCell ⟨f,2,none⟩ (.slice (some ⟨k,0,none⟩) (P.length+1) d)).heap.size:=by simp[World.setCell];omega
 have X:aj m f #[.slice ta nT tc,B,vP,vB,vK,.map (some S),.map (some H)] 198:=by
  unfold aj;rw[n.block f (by simp;omega) (fun e=>p7 _ (h3 f e.symm).2),di _ _ _ (by omega),i.block f V];exact h1
 refine⟨fun g=>D g\/u.ownBlock=some g,fun g hd=>.inl hd,⟨⟨_,X.set 2 _,⟨t++[(u,bM nT left r)],?_,?_,?_,?_⟩,?_⟩,h.sm.move (y S h.dS),h.pm.move (y H h.dH),.inl h.dS,.inl h.dH,?_,?_,fun b z=>⟨.inl (h.gc b z).1,(h.gc b z).2.move (y b (h.gc b z).1)⟩⟩,⟨n.os.trans i.os,n.tape.trans i.tape,n.output.trans i.output,hsz,y⟩⟩
 ·rw[ei,C];rfl
 ·rw[fL,cH]
  refine aC (by simpa [tX,bM,I]using W) fun g c=>zS0 (fun e=>?_)
  have N:k=g:=by simpa [Value.ownBlock]using c
  have e2:g=f:=e;omega
 ·intro q p
  rcases cY.1 p with p|p
  ·exact⟨aC (l q p).1 fun g c=>y g ((l q p).2 g c).1,fun g c=>⟨.inl ((l q p).2 g c).1,((l q p).2 g c).2⟩⟩
  ·rw[cM.1 p]
   exact⟨jc (aC A fun g c=>T g c) (eR _),fun g c=>⟨.inr c,by have:=j g c;omega⟩⟩
 ·rw[oS]
  refine⟨Q,mw _ _,fun a Z b z g E x=>?_⟩;rw[cM.1 z]at x;have:=h.lt g ((l a Z).2 g E).1;have:=j g x;omega
 ·intro g c
  have N:k=g:=by simpa [Value.ownBlock]using c
  subst N;refine⟨?_,J⟩;rintro(hd | hd)
  ·rcases s with e | e
   ·exact(h3 _ e).1 hd
   ·have:=h.lt _ hd;omega
  ·have:=j _ hd
   rcases s with e|e
   ·have:=v _ e;omega
   ·omega
 ·rintro(hd | hd)
  ·exact h.nm hd
  ·have:=j _ hd;omega
 ·rintro g(hd | hd)
  ·have:=h.lt g hd;omega
  ·have:=j g hd;simp[World.setCell];omega
theorem zP{D G:Nat->Prop}{w:World}{b S H:Nat}{ta:Option Addr}{nT tc:Nat}{vN vB vK:Value}{T:ByteArray->Int}{V:Addr->Int}{P:List Lx.Pd}(h:Mp D G w b S H ta nT tc vN vB vK T V P)(left:Nat)(U:Value)(r:List Nat)(x:IR 0 w U r)(J:r.length<=1000000)(hP:P.length<=1000000000000):
  Calls prog 127 #[.pointer (some ⟨b,0,none⟩),.int .i64 (left:Int),U] w fun e w'=>e=.returned (.tuple #[])/\∃D',(∀g,D g->D' g)/\Mp D' G w' b S H ta nT tc vN vB vK T V (P++[bM nT left r])/\Kp D w w':=by
 obtain⟨i0,Q,K,O,y⟩:=fd Tryz.akW;obtain⟨vP,h1,sD,h3⟩:=h.ex;obtain⟨ps,z,f,E,Vg⟩:=sD;obtain⟨t,l,rfl,B⟩:=aB f;obtain⟨ra,rc,rfl,ab⟩:=aB x;have Kl:=h1.lt;have m0:w.cell? ⟨b,0,none⟩=some (.slice ta nT tc):=h1.cell 0;go_enter func127,ntmps127;go_wp2_with fail
 go_loopg [6,11] r.length (fun k p i wr=>∃(m:Nat)(d:Int),m+k=r.length/\p=.int .i64 d/\i=.int .i64 m/\wr=w/\Hid (d=oJ nT (r.take m)))
 case atStart=>exact⟨0,-1,by omega,rfl,rfl,rfl,rfl⟩
 case round=>
  obtain⟨m,d,ad,rfl,rfl,rfl,R⟩:=hrel
  by_cases hlt:m<r.length
  ·obtain⟨gR,cR,hv,lR,M⟩:=x.at hlt
   cases hv;have a:=afT (n:=nT) hlt;rw[<-R.out]at a;generalize r[m]=s at M a
   by_cases hst:s<nT
   ·have q:Hid ((s:Int)=oJ nT (r.take (m+1))):=by rw[de hst]at a;exact a.symm
    clear a;go_wp2_with fail;go_roundg (r.length - (m+1))
    case measure=>omega
    case rel=>exact⟨m+1,_,by omega,rfl,by go_num,rfl,q⟩
   ·have q:Hid (d=oJ nT (r.take (m+1))):=by rw[dk hst]at a;exact a.symm
    clear a;go_wp2_with fail;go_roundg (r.length - (m+1))
    case measure=>omega
    case rel=>exact⟨m+1,_,by omega,rfl,by go_num,rfl,q⟩
  ·have:m=r.length:=by omega
   subst this;have q:Hid (d=oJ nT r):=by have:=R.out;rw[ft]at this;exact this
   clear R;have W:IR 0 wr.drew (.slice ra r.length rc) r:=aC x fun _ _=>rfl
   have qC:=agU W J;have m2:wr.drew.cell? ⟨b,2,none⟩=some (.slice t P.length l):=h1.drew.cell 2;have F:(Value.slice t P.length l).ownBlock≠some b:=fun e=>p7 _ (h3 b e).2
   unfold maxLen at B;go_wp2_with fail
   go_region_law (first|(refine fP rfl 163 #[.slice ra r.length rc] (by go_simp) qC ?_;rintro e u⟨u3,rfl,j,c⟩;have v:aj u b _ 198:=(c.block b Kl).trans h1;obtain⟨A,C,rfl,-⟩:=aB j;have o3:=own_below (aC (w':=wr.drew) f fun _ _=>rfl) c;have oA:=o3.alloc (.cells #[.int .i64 (left:Int),.slice A r.length C,.int .i64 d] 120);have e3:u.cell? ⟨b,2,none⟩=some (.slice t P.length l):=v.cell 2;have ac:=v.lt;refine⟨_,rfl,?_⟩)|(refine step_append_lies _ rfl (.tmp 30) (.tmp 36) 54 rfl 0 120 i0 _ 3 40 Tryz.aeZ Q K O y rfl (by decide) (.slice t P.length l) P.length (ps.flatMap tX) (by simp[Act.eval]) oA ⟨u.heap.size,0,none⟩ 1 1 [.int .i64 (left:Int),.slice A r.length C,.int .i64 d] (by simp[Act.eval]) rfl (dI (aj.new u _ 120)) (by simp[Value.oneCell']) (by decide) (by unfold maxLen;omega) (by omega) (by simp) _ rfl ?_;intro g4 aa Z Y I X FX;have L:=(v.alloc (.cells #[.int .i64 (left:Int),.slice A r.length C,.int .i64 d] 120)).grown I (fun e=>F e.symm);have N:Z.cell? ⟨b,2,none⟩=some (.slice t P.length l):=L.cell 2;have f4:∀i,Z.frozen? ⟨b,i,none⟩=false:=L.frozen))
   all_goals
    have o:=Mp.push h h1 z f E Vg h3 (((cV wr.heap.size wr).drew).trans c) j Y I (X.imp id fun e=>by rw[e];simp) q.out;clear L N f4 I Y X FX o3 oA e3 c v j qC m2 W;go_wp2_with fail
    go_end0
    exact⟨rfl,o⟩
theorem Ma{sub:Value->List Lx.Alt->List AI}{w:World}{g:Nat}{p:AI}:∀(its:List Lx.It)(i:Nat),p∈eF sub w g i its↔∃m x,its[m]?=some x/\(p=((⟨g,(i+m)*4,none⟩:Addr),x)\/p∈sub (cv w ⟨g,(i+m)*4+3,none⟩) x.alts)
 | [],i=>by simp[eF]
 |x::xs,i=>by
  rw[eF,ee,cY,Ma xs (i+1)];constructor
  ·rintro(h | h | ⟨m,y,h1,h2⟩)
   ·exact⟨0,x,rfl,.inl h⟩
   ·exact⟨0,x,rfl,.inr h⟩
   ·exact⟨m+1,y,by simpa using h1,by rw[show i+(m+1)=i+1+m by omega];exact h2⟩
  ·rintro⟨m,y,h1,h2⟩
   cases m with
   |zero=>
    simp only[ir,lA]at h1;subst h1;rcases h2 with h2|h2
    ·exact .inl h2
    ·exact .inr (.inl h2)
   |succ m=>exact .inr (.inr ⟨m,y,by simpa using h1,by rw[show i+1+m=i+(m+1) by omega];exact h2⟩)
theorem Mh{sub:Value->List Lx.Alt->List AI}{w:World}{g:Nat}{p:AI}:∀(l:List Lx.Alt)(j:Nat),p∈dP sub w g j l↔∃k a,l[k]?=some a/\p∈eF sub w (aQ (cv w ⟨g,(j+k)*2,none⟩)) 0 a.1
 | [],j=>by simp[dP]
 |a::l,j=>by
  rw[dP,cY,Mh l (j+1)];constructor
  ·rintro(h | ⟨k,b,h1,h2⟩)
   ·exact⟨0,a,rfl,h⟩
   ·exact⟨k+1,b,by simpa using h1,by rw[show j+(k+1)=j+1+k by omega];exact h2⟩
  ·rintro⟨k,b,h1,h2⟩
   cases k with
   |zero=>
    simp only[ir,lA]at h1;subst h1;exact .inl h2
   |succ k=>exact .inr ⟨k,b,by simpa using h1,by rw[show j+1+k=j+(k+1) by omega];exact h2⟩
theorem abq{d:Nat}{F:Nat->Prop}{w:World}{v:Value}{l:List Lx.Alt}(h:aM YP (d+1) F w v l){k:Nat}(b:k<l.length):∃vi,w.cell? ⟨aQ v,k*2,none⟩=some vi/\jG YP d F w vi l[k].1/\∀m(hm:m<l[k].1.length),((⟨aQ vi,m*4,none⟩:Addr),l[k].1[m])∈aK (d+1) w v l:=by
 obtain⟨-,vi,a,f⟩:=ET h b;refine⟨vi,a,f,fun m hm=>?_⟩;show _∈dP (aK d w) w (aQ v) 0 l;rw[Mh];refine⟨k,l[k],cF b,?_⟩;have c:cv w ⟨aQ v,(0+k)*2,none⟩=vi:=by unfold cv;rw[fi,a];rfl
 rw[c,Ma];exact⟨m,l[k].1[m],cF hm,.inl (by rw[fi])⟩
theorem abr:∀{d:Nat}{F:Nat->Prop}{w:World}{v:Value}{l:List Lx.Alt},aM YP d F w v l->∀{p:AI},p∈aK d w v l->∃n m d' va,p.1=⟨n,m*4,none⟩/\F n/\pE w n m p.2/\w.cell? ⟨n,m*4+3,none⟩=some va/\aM YP d' F w va p.2.alts/\∀q∈aK d' w va p.2.alts,q∈aK d w v l
 |0,_,_,_,_,_,p,hp=>by cases hp
 |d+1,F,w,v,l,h,p,hp=>by
  have o:p∈dP (aK d w) w (aQ v) 0 l:=hp;rw[Mh]at o;obtain⟨k,a,B,i⟩:=o;obtain⟨J,rfl⟩:=cG.1 B;obtain⟨-,r,I,L⟩:=ET h J;have A:cv w ⟨aQ v,(0+k)*2,none⟩=r:=by unfold cv;rw[fi,I];rfl
  rw[A,Ma]at i;obtain⟨m,x,u,c⟩:=i;obtain⟨M,rfl⟩:=cG.1 u;have g:=L;unfold jG wO at g;obtain⟨n,O,va,C,H,t,b⟩:=Seq.at g (fun _=>rfl) M;have y:aQ r=n:=by rw[C];rfl
  have j:w.cell? ⟨n,m*4+3,none⟩=some va:=b 3 (by decide);have z:cv w ⟨aQ r,(0+m)*4+3,none⟩=va:=by unfold cv;rw[fi,y,j];rfl
  have f:∀q,q∈aK d w va l[k].1[m].alts->q∈aK (d+1) w v l:=by
   intro q s;show _∈dP (aK d w) w (aQ v) 0 l;rw[Mh];refine⟨k,l[k],B,?_⟩;rw[A,Ma];exact⟨m,_,u,.inr (by rw[z];exact s)⟩
  rw[z]at c;rcases c with rfl|c
  ·exact⟨n,m,d,va,by rw[y,fi],H,⟨b 0 (by decide),b 1 (by decide),b 2 (by decide)⟩,j,t,f⟩
  ·obtain⟨K,G,d',D,h1,h2,h3,h4,N,E⟩:=abr t c
   exact⟨K,G,d',D,h1,h2,h3,h4,N,fun q s=>f q (E q s)⟩
def z8(fS:ByteArray->Int)(fH:Addr->Int)(p:AI):Int:=if Lx.hlp p.2=true then fH p.1 else fS p.2.name
section
variable {D G:Nat -> Prop} {w:World} {mb S H:Nat} {ta:Option Addr} {nT tc:Nat} {vN vB vK:Value} {fS:ByteArray -> Int} {fH:Addr -> Int} {P:List Lx.Pd}
theorem Mp.cells(h:Mp D G w mb S H ta nT tc vN vB vK fS fH P):w.cell? ⟨mb,0,none⟩=some (.slice ta nT tc)/\w.cell? ⟨mb,5,none⟩=some (.map (some S))/\w.cell? ⟨mb,6,none⟩=some (.map (some H)):=by
 obtain⟨a,h1,-⟩:=h.ex;exact⟨h1.cell 0,h1.cell 5,h1.cell 6⟩
end
theorem pE.move{w w':World}{n m:Nat}{b:Lx.It}(h:pE w n m b)(a:w'.heap[n]?=w.heap[n]?):pE w' n m b:=⟨(cJ (w:=w) a).trans h.kind,(cJ (w:=w) a).trans h.name,(cJ (w:=w) a).trans h.mark⟩
theorem agV{D G:Nat->Prop}{w:World}{p S H:Nat}{ta:Option Addr}{nT tc:Nat}{z vB vK:Value}{i:ByteArray->Int}{r:Addr->Int}{P:List Lx.Pd}(h:Mp D G w p S H ta nT tc z vB vK i r P){n m:Nat}{d:Lx.It}(q:pE w n m d)(y:G n)(s:Nat)(c:z8 i r (⟨n,m*4,none⟩,d)=(s:Int)):
  Calls prog 164 #[.pointer (some ⟨p,0,none⟩),.pointer (some ⟨n,m*4,none⟩)] w fun e w'=>e=.returned (.int .i64 (s:Int))/\Below w.heap.size w w':=by
 have l:=Qt q;obtain⟨u,t,x⟩:=h.cells;have g:=q.name;unfold z8 at c;go_enter func164,ntmps164;go_wp2_with fail;refine l.mono ?_;rintro e w1⟨rfl,j⟩;obtain rfl:=j.symm;cases hh:Lx.hlp d with
 |true=>
  rw[de hh]at c;have o:=tH.look h.pm (fun b v=>(h.gc b v).2) (a:=⟨n,m*4,none⟩) y;rw[c]at o;clear l hh c;go_wp2_with fail;go_ret;exact⟨rfl,cV _ _⟩
 |false=>
  rw[dk (by rw[hh];decide)]at c;have o:=SMap.look (w:=w.drew) (h.sm.move rfl) d.name;have f:i d.name=(s:Int):=c;rw[f]at o;have B:w.drew.cell? ⟨p,5,none⟩=some (.map (some S)):=t;have A:w.drew.cell? ⟨n,m*4+1,none⟩=some (.string d.name):=g;have k:Below w.heap.size w w.drew:=(cV _ _).drew;clear l hh c f u t x g q;go_wp2_with fail
  go_region
  all_goals
   go_wp2_with fail;go_ret;exact⟨rfl,k⟩
theorem YX{D F G:Nat->Prop}{w:World}{mb S H:Nat}{ta:Option Addr}{nT tc:Nat}{vN vB vK:Value}{Y:ByteArray->Int}{Z:Addr->Int}{P:List Lx.Pd}(h:Mp D G w mb S H ta nT tc vN vB vK Y Z P){d:Nat}(its:List Lx.It)(t:Value)(hi:jG YP d F w t its)(hF:∀b,F b->D b)(r:List Nat)(E:r.length=its.length)(V:∀k(hk:k<its.length),G (aQ t)/\z8 Y Z (⟨aQ t,k*4,none⟩,its[k])=(r[k]:Int))(ac:its.length<=10000)(prec:ByteArray):
  Calls prog 128 #[.pointer (some ⟨mb,0,none⟩),.agg #[t,.string prec]] w fun e w'=>∃u,e=.returned u/\IR w.heap.size w' u r/\Below w.heap.size w w':=by
 obtain⟨i0,U,J,K,B⟩:=fd Tryz.info3;obtain⟨Q,L,rfl,R⟩:∃a c,t=.slice a its.length c/\its.length<=maxLen:=Seq.len (show Tr.Seq F w YP.eI YP.sI YP.cI (fun va it=>aM YP d F w va it.alts) t its from hi);unfold maxLen at R;go_enter func128,ntmps128;go_wp2_with fail;obtain⟨W,v⟩:∃W,W=w.alloc (.cells #[.slice Q its.length L,.string prec] 269):=⟨_,rfl⟩;rw[<-v];have hB:Below w.heap.size w W:=by rw[v];exact(cV _ _).alloc (zL0) _
 have ab:W.heap.size=w.heap.size+1:=by rw[v];simp
 have kA:aj W w.heap.size #[.slice Q its.length L,.string prec] 269:=by rw[v];exact aj.new w _ 269
 clear v
 go_loopg [5,10] its.length (fun k vo i wr=>∃(j:Nat)(f:List Nat),j+k=its.length/\i=.int .i64 j/\IR W.heap.size wr vo f/\Below W.heap.size W wr/\Hid (f=r.take j))
 case atStart=>exact⟨0,[],by omega,rfl,eE _ _ _ _,cV _ _,rfl⟩
 case round=>
  revert wr;intro y hrel;obtain⟨j,f,hk,rfl,z,m,A⟩:=hrel;have ae:f.length<=10000:=by rw[A.out,fN];omega
  obtain⟨oa,oc,rfl,Kk⟩:=aB z;have hsz:=m.size;have p:Below w.heap.size w y:=hB.trans (m.mono (by omega));have Cq:aj y w.heap.size _ 269:=(m.block _ (by omega)).trans kA;have a0:y.cell? ⟨w.heap.size,0,none⟩=some (.slice Q its.length L):=Cq.cell 0
  by_cases hlt:j<its.length
  ·have hz:=h.below p
   have o:jG YP d F y _ its:=jG.move (fun b hb=>p.block b (h.lt b (hF b hb))) (fun _ h=>h) hi;unfold jG wO at o;obtain⟨n,DR,va,hv,hn,ad,l⟩:=Seq.at o (fun _=>rfl) hlt;cases hv;obtain⟨I,hs⟩:=V j hlt;have x:pE y n j its[j]:=⟨l 0 (by decide),l 1 (by decide),l 2 (by decide)⟩;have N:=agV hz x I _ hs;have jZ:Hid (r.take (j+1)=f++[r[j]]):=by show _=_;rw[A.out,ff (by omega)]
   generalize r[j]=s at N jZ;clear hs l o x;go_wp2_with fail;refine N.mono ?_;rintro e w1⟨rfl,q⟩;have T:=own_below z q;have aa:=q.size;have X:Below W.heap.size W w1:=m.trans (q.mono hsz);have oA:=T.alloc (.cells #[.int .i64 (s:Int)] 3);clear N
   go_wp2_with (at_builtin;go_loud (refine ge _ rfl _ _ 22 rfl W.heap.size 3 i0 _ 1 8 underlying22 U J K B rfl (by decide) (.slice oa f.length oc) _ _ rfl oA ⟨_,0,none⟩ 1 1 [.int .i64 (s:Int)] rfl rfl (dI (aj.new _ _ 3)) (by simp[Value.oneCell']) (by unfold maxLen;omega) (by omega) (by simp;omega) ?_;intro v5 w5 g bF _ lG;obtain⟨l7,l8,M,-⟩:=aB g;subst M))
   have C:Below W.heap.size W w5:=(X.alloc (by omega) _).grown bF (by simp;omega) (fun k hk=>(z.lt k hk).1);go_roundg (its.length - (j+1))
   case measure=>omega
   case rel=>exact⟨j+1,f++[s],by omega,by go_num,by unfold IR;rw[cH,EU];exact g,C,jZ.out.symm⟩
  ·have:j=its.length:=by omega
   subst this;have O:Hid (f=r):=by have:=A.out;rw[<-E,ft]at this;exact this
   clear A;go_wp2_with fail;go_ret;exact⟨_,rfl,by rw[<-O.out];exact jc z (by omega),p⟩
theorem ajx{n:Nat}(q:1<=n)(o:n<=1000000)(w:World):Calls prog 180 #[.slice none 0 0,.int .i64 (n:Int)] w fun e w'=>∃v,e=.returned v/\w'.ownsRow w.heap.size 3 1 v 0 []/\Below w.heap.size w w':=by
 obtain⟨j,l,g,i,d⟩:=fd Tryz.info3;have a:=Lib.run_append_nil_zeros (P:=prog) w 22 3 22 3 j (.int .i64 0) .i64 .i64 underlying22 (by kernel_rfl) l g n (by omega) (by omega) (by omega) (by rw[d];omega);generalize hcap:grownCap w n 0 3=cap2 at a;have c:n<=cap2:=by rw[<-hcap];exact grownCap_ge w _ 0 3
 have b:cap2<=maxLen:=by rw[<-hcap];exact grownCap_le_maxLen w _ 0 3 (by unfold maxLen;omega)
 generalize hZ:(Builtin.zeroCells (Value.int .i64 0).cells n++Builtin.zeroCells (Value.int .i64 0).cells (cap2-n))=Z at a;have m:Z.size=cap2:=by rw[<-hZ];simp[size_zeroCells,Value.cells];omega
 clear hcap hZ;have p:¬(n:Int)<0:=by omega
 have r:0<(n:Int):=by omega
 go_enter func180,ntmps180
 go_wp2_with (at_builtin;refine Lib.wpList_append_run _ rfl _ _ _ _ rfl _ _ rfl rfl _ _ a ?_)
 go_ret;have k:aj (w.drew.alloc (.cells Z 3)) w.heap.size Z 3:=aj.new w.drew Z 3;have f:Below w.heap.size w (w.drew.alloc (.cells Z 3)):=((cV _ _).drew).alloc (zL0) _;refine⟨_,rfl,⟨rfl,.inr ⟨w.heap.size,cap2,Z,rfl,zL0,k,eR _,b,by omega,by simp⟩⟩,f⟩
theorem afX{P:Program}{t e:TypeId}{i:TypeInfo}(c:P.underlying t=some (.slice e))(d:P.info? e=some i)(ty:TypeId)(base:Option Addr)(n a:Nat)(b:n<=a)(w:World):(Builtin.append_ #[t,t] ty #[.slice base n a,.slice none 0 0]).run P w=.ok (.slice base n a) w:=by
 cases base <;> simp[Builtin.append_,run_underlying c,sizeOf,typeInfo,d,Builtin.lenOf,Builtin.firstCells,storeCells,b]
theorem Ni{w:World}{B e z:Nat}{a:Option Addr}{n c:Nat}{f:List Value}(h:w.ownsRow B e z (.slice a n c) n f):n<=c:=by
 rcases h.2 with ⟨k,j⟩|⟨g,i,b,d,-,-,l,-⟩
 ·omega
 ·simp only[rm]at d;omega
theorem Rh(a:List (List Nat)){j:Nat}(b:j<a.length):(a.take (j+1)).flatten=(a.take j).flatten++a[j]:=by rw[ff b,List.flatten_append];simp
theorem Sk(a:List (List Nat))(j:Nat):(a.take j).flatten.length<=a.flatten.length:=by
 conv=>rhs;rw[<-mn j a,List.flatten_append,cH]
 omega
theorem YZ{B:Nat}{w:World}{v:Value}{b:List (List Nat)}(h:sw B w v b)(h1:1<=b.flatten.length)(hl:b.flatten.length<=1000000):Calls prog 166 #[v] w fun e w'=>∃u,e=.returned u/\IR w.heap.size w' u b.flatten/\Below w.heap.size w w':=by
 obtain⟨i0,J,S,V,Q⟩:=fd Tryz.info3;obtain⟨a,c,rfl,hm⟩:=h.len;unfold maxLen at hm;go_enter func166,ntmps166;go_wp2_with fail
 go_loopg [3,11] b.length (fun k z i wr=>∃(j r:Nat),j+k=b.length/\z=.int .i64 (r:Int)/\i=.int .i64 j/\wr=w/\Hid (r=(b.take j).flatten.length))
 case atStart=>exact⟨0,0,by omega,rfl,rfl,rfl,by show _=_;simp⟩
 case round=>
  revert wr;intro C hrel;obtain⟨j,r,M,rfl,rfl,Ko,N⟩:=hrel;subst Ko
  by_cases hlt:j<b.length
  ·obtain⟨g,Z,u,W,Y,T,hc,t⟩:=h.at hlt
   cases W;obtain⟨ua,uc,rfl,-⟩:=aB t;have G:=Rh b hlt;have l:=Sk b (j+1);rw[G,cH,<-N.out]at l;have f:Hid (r+b[j].length=(b.take (j+1)).flatten.length):=by show _=_;rw[G,cH,<-N.out]
   generalize b[j].length=m at hc l f;have O:IntKind.i64.wrap ((r:Int)+(m:Int))=((r+m:Nat):Int):=by rw[<-pt];exact wrap64 (by omega)
   obtain⟨L,K⟩:∃L,L=r+m:=⟨_,rfl⟩;rw[<-K]at O f l;have ac:¬(L:Int)<0:=by omega
   clear G K t;go_wp2_with fail;go_roundg (b.length - (j+1))
   case measure=>omega
   case rel=>exact⟨j+1,L,by omega,rfl,by go_num,rfl,f⟩
  ·have:j=b.length:=by omega
   subst this;have f:Hid (r=b.flatten.length):=by have:=N.out;rw[ft]at this;exact this
   clear N;have q1:=ajx (n:=r) (by rw[f.out];exact h1) (by rw[f.out];exact hl) C;go_wp2_with fail;refine q1.mono ?_;rintro e w1⟨u1,rfl,D,I⟩;obtain⟨ua,uc,rfl,-⟩:=aB D;clear q1;go_wp2_with fail
   go_loopg [6,27] b.length (fun k vo i wr=>∃(j:Nat)(d:List Nat),j+k=b.length/\i=.int .i64 j/\IR C.heap.size wr vo d/\Below C.heap.size C wr/\Hid (d=(b.take j).flatten))
   case atStart=>exact⟨0,[],by omega,rfl,D,I,by show _=_;simp⟩
   case round=>
    clear D I M hlt f;obtain⟨j,d,M,rfl,E,p,F⟩:=hrel;obtain⟨oa,oc,rfl,-⟩:=aB E;have al:d.length<=1000000:=by rw[F.out];exact dg (Sk b j) hl
    by_cases hlt:j<b.length
    ·have G:=h.move (w':=wr) fun g _ T=>p.block g T
     obtain⟨g,Z,u,W,Y,T,hc,t⟩:=G.at hlt;cases W;have l:=Sk b (j+1);rw[Rh b hlt,cH,<-F.out]at l;have o:Hid (d++b[j]=(b.take (j+1)).flatten):=by show _=_;rw[Rh b hlt,<-F.out]
     generalize b[j]=x at hc t l o;obtain⟨ua,uc,rfl,-⟩:=aB t;have s:=t;unfold IR at s;rcases s.2 with ⟨e1,e2⟩|⟨U,ak,af,aa,-,ae,ah,ag,ai,ad⟩
     ·have ab:x=[]:=fY e2
      subst ab;have H:=afX (P:=prog) underlying22 J 22 oa d.length oc (Ni E) wr;rw[eN]at o;simp only[rm]at e1;obtain⟨rfl,-,rfl⟩:=e1;clear e2 t s
      go_wp2_with (at_builtin;refine Lib.wpList_append_run _ rfl _ _ _ _ rfl _ _ rfl rfl _ _ H ?_)
      go_roundg (b.length - (j+1))
      case measure=>omega
      case rel=>exact⟨j+1,d,by omega,by go_num,E,p,o.out⟩
     ·cases aa
      have A:∀i y,(dK x)[i]?=some y->wr.cell? ((⟨U,0,none⟩:Addr).add i)=some y:=s.cells (g:=U) rfl
      go_wp2_with (at_builtin;go_loud (refine ge _ rfl _ _ 22 rfl C.heap.size 3 i0 _ 1 8 underlying22 J S V Q rfl (by decide) (.slice oa d.length oc) _ _ rfl E ⟨U,0,none⟩ x.length _ (dK x) rfl (by rw[Dj,jt]) A (ahY x) (by unfold maxLen;omega) (by omega) p.size ?_;intro v5 w5 q bF _ lG;obtain⟨l7,l8,X,-⟩:=aB q;subst X))
      have R:Below C.heap.size C w5:=p.grown bF p.size (fun k M=>(E.lt k M).1);go_roundg (b.length - (j+1))
      case measure=>omega
      case rel=>exact⟨j+1,d++x,by omega,by go_num,by unfold IR;rw[cH,EU];exact q,R,o.out⟩
    ·have:j=b.length:=by omega
     subst this;have o:Hid (d=b.flatten):=by have:=F.out;rw[ft]at this;exact this
     clear F;go_wp2_with fail;go_ret;exact⟨_,rfl,by rw[<-o.out];exact E,p⟩
end Go.Proofs.YtagkodkijkpemaaGreatDoor

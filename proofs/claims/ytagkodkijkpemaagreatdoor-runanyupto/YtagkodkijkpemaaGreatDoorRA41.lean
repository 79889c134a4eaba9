import Derived.Test.YtagkodkijkpemaaGreatDoorRA40
set_option maxHeartbeats 8000000
set_option maxRecDepth 1000000
namespace Go.Proofs.YtagkodkijkpemaaGreatDoor
open Lx Go.Proofs.Tryz
open Go.RowKit
open Tr
section
variable {c:bA} {w0:World} {F:Nat -> Prop} {B:Nat} {W:World} {S:bL} {mp:List (Nat×Nat)}
def bA.st0(c:bA)(st:Nat):Prop:=c.P[0]?.map Lx.Pd.left=some st
theorem aae(a:mU c w0 F B)(h:cu c w0 F B W S mp){st:Nat}(d:c.st0 st):Calls prog 95 #[.pointer (some ⟨c.lb,0,none⟩)] W fun e W'=>e=.returned (.agg #[.int .i64 0,.int .i64 (st:Int)])/\Below W.heap.size W W':=by
 obtain⟨p,b,rfl⟩:=mL.1 d;obtain⟨m,n,i,-⟩:=(a.prods.move h.keep).row 0 p b;have j:0<c.P.length:=(cG.1 b).1;have o:W.cell? ⟨c.lb,2,none⟩=some (.slice (some ⟨c.gP,0,none⟩) c.P.length c.pc):=h.blk.cell 2;have g:c.gP<W.heap.size:=dd (a.low _ a.prods.own).1 h.big;have f:=h.blk.lt;have k:Below W.heap.size W (W.alloc (.cells #[.int .i64 0,.int .i64 0] 212)):=(cV _ _).alloc (zL0) _;rw[sq]at i;have l:(0:Int)<(c.P.length:Int):=by omega
 go_enter func95,ntmps95;go_wp2_with fail;exact fx (v:=.agg #[.int .i64 0,.int .i64 (p.left:Int)]) (by simp[results,results95,go_sem]) rfl ⟨rfl,(cV _ _).alloc (zL0) _⟩
def Lx.uG(st nT:Nat)(s:Nat×Nat):List Nat:=if s=(0,st) then xD (List.replicate (Lx.nW nT) 0) 0 else List.replicate (Lx.nW nT) 0
theorem TS.new(w:World)(n:Nat):TS (w.alloc (.cells (oL (List.replicate n 0)) 277)) w.heap.size (List.replicate n 0):=⟨aj.new ..,fun x a=>by rw[kk a];decide⟩
theorem Lx.ab0(st nT:Nat)(s:Nat×Nat):(uG st nT s).length=Lx.nW nT:=by
 unfold uG
 split
 ·rw[aaI,im]
 ·rw[im]
theorem agk(D:mU c w0 F B)(h:cu c w0 F B W S mp){st:Nat}(T:c.st0 st)(s:Nat×Nat):Calls prog 134 #[.pointer (some ⟨c.lb,0,none⟩),.agg #[.int .i64 (s.1:Int),.int .i64 (s.2:Int)]] W fun e W'=>∃g,e=.returned (gY c.nw g)/\W.heap.size<=g/\TS W' g (uG st c.nT s)/\Below W.heap.size W W':=by
 obtain⟨q,n⟩:=s;have U:=D.nT;obtain⟨m,l⟩:∃V,V=W.alloc (.cells #[.int .i64 (q:Int),.int .i64 (n:Int)] 212):=⟨_,rfl⟩;have v:Below W.heap.size W m:=by rw[l];exact(cV _ _).alloc (zL0) _
 have u:m.heap.size=W.heap.size+1:=by rw[l];simp
 have kB:aj m W.heap.size #[.int .i64 (q:Int),.int .i64 (n:Int)] 212:=by rw[l];exact aj.new ..
 have h1:cu c w0 F B m S mp:=h.move (fun k e=>v.block k (e.elim (fun e=>h.yP e) (fun e=>dd (D.low k e).1 h.big))) (by omega);have d0:m.cell? ⟨c.lb,0,none⟩=some (.slice c.ta c.nT c.tc):=h1.blk.cell 0;have K:=Qv (w:=m) (n:=c.nT) U.2;obtain⟨j,f⟩:∃V,V=m.alloc (.cells (oL (List.replicate (Lx.nW c.nT) 0)) 277):=⟨_,rfl⟩;have o:Below m.heap.size m j:=by rw[f];exact(cV _ _).alloc (zL0) _
 have C:j.heap.size=W.heap.size+2:=by rw[f];simp;omega
 have O:TS j (W.heap.size+1) (List.replicate (Lx.nW c.nT) 0):=by rw[<-u,f];exact TS.new ..
 have p:aj j W.heap.size #[.int .i64 (q:Int),.int .i64 (n:Int)] 212:=(o.block _ (by omega)).trans kB;have h2:cu c w0 F B j.drew S mp:=h1.move (fun k e=>o.block k (e.elim (fun e=>h1.yP e) (fun e=>dd (D.low k e).1 h1.big))) (by show m.heap.size<=j.heap.size;omega);have E:=aae D h2 T;have Z:j.cell? ⟨W.heap.size,0,none⟩=some (.int .i64 (q:Int)):=p.cell 0;have x1:j.cell? ⟨W.heap.size,1,none⟩=some (.int .i64 (n:Int)):=p.cell 1;rw[<-f]at K;have Y:Hid (Below W.heap.size W j):=v.trans (o.mono (by omega));have HT:Hid (TS j (W.heap.size+1) (List.replicate (Lx.nW c.nT) 0)):=O;have HK:Hid (aj j W.heap.size #[.int .i64 (q:Int),.int .i64 (n:Int)] 212):=p;have HZ:Hid (j.heap.size=W.heap.size+2):=C;clear f o C O p h2 kB h1;go_enter func134,ntmps134;go_upto_region 1 with fail
 rw[<-l];clear l v;rw[u]at K;clear u;go_upto_region 2 with (go_at_call 92;refine K.mono ?_;rintro e w2⟨rfl,L⟩;obtain rfl:=L)
 have J:Hid (∀d,Below w2.heap.size w2 d->d.cell? ⟨W.heap.size,0,none⟩=some (.int .i64 (q:Int))/\d.cell? ⟨W.heap.size,1,none⟩=some (.int .i64 (n:Int))/\TS d (W.heap.size+1) (List.replicate (Lx.nW c.nT) 0)/\Below W.heap.size W d):=fun d H=>by
  have hz:=HZ.out;have N:aj d W.heap.size #[.int .i64 (q:Int),.int .i64 (n:Int)] 212:=(H.block _ (by omega)).trans HK.out;exact⟨N.cell 0,N.cell 1,HT.out.move (H.block _ (by omega)),Y.out.trans (H.mono (by omega))⟩
 by_cases e:q=0/\n=st
 ·obtain⟨rfl,rfl⟩:=e
  have G:Hid (uG n c.nT (0,n)=xD (List.replicate (Lx.nW c.nT) 0) 0):=de rfl
  go_region_held3 (fun r=>r.cell? ⟨W.heap.size,0,none⟩=some (.int .i64 (0:Int))/\r.cell? ⟨W.heap.size,1,none⟩=some (.int .i64 (n:Int))) (first|go_keep|assumption) ((go_at_call 95;refine E.mono ?_;rintro e d⟨rfl,a⟩;have A:Below w2.heap.size w2 d:=⟨a.1,a.2,a.3,a.4,a.5⟩;obtain⟨y,x,z,i⟩:=J.out d A;have M:d.cell? ⟨W.heap.size,0,none⟩=some (.int .i64 (0:Int))/\d.cell? ⟨W.heap.size,1,none⟩=some (.int .i64 (n:Int)):=⟨y,x⟩))
  have hW:0<Lx.nW c.nT:=by unfold Lx.nW;omega
  have f:Lx.nW c.nT<=100000:=by unfold Lx.nW;omega
  have P:=aaL (t:=0) z (by rw[im];omega) (by rw[im];exact f);rw[im]at P;clear M E Z x1 y x
  go_wp2_with (go_at_call 93;refine P.mono ?_;rintro e w4⟨rfl,X,I⟩)
  go_ret;exact⟨W.heap.size+1,rfl,by omega,by rw[G.out];exact X,i.grown I i.size (fun k e=>by cases e;omega)⟩
 ·have G:Hid (uG st c.nT (q,n)=List.replicate (Lx.nW c.nT) 0):=dk fun h=>e (by cases h;exact⟨rfl,rfl⟩)
  by_cases hq:(q:Int)=0
  ·have Q:¬(n:Int)=(st:Int):=fun b=>e ⟨by omega,by omega⟩
   have e2:((n:Int) == (st:Int))=false:=iS.2 Q;have R:((q:Int) == 0)=true:=by rw[hq];rfl
   have HQ:Hid ((q:Int)=0):=hq;clear hq
   go_region_held3 (fun r=>r.cell? ⟨W.heap.size,0,none⟩=some (.int .i64 (q:Int))/\r.cell? ⟨W.heap.size,1,none⟩=some (.int .i64 (n:Int))) (first|go_keep|assumption) ((go_at_call 95;refine E.mono ?_;rintro e d⟨rfl,a⟩;have A:Below w2.heap.size w2 d:=⟨a.1,a.2,a.3,a.4,a.5⟩;obtain⟨y,x,z,i⟩:=J.out d A;have M:d.cell? ⟨W.heap.size,0,none⟩=some (.int .i64 (q:Int))/\d.cell? ⟨W.heap.size,1,none⟩=some (.int .i64 (n:Int)):=⟨y,x⟩))
   go_wp2_with fail;go_ret;exact⟨W.heap.size+1,rfl,by omega,by rw[G.out];exact z,i⟩
  ·have R:((q:Int) == 0)=false:=iS.2 hq
   go_region_held3 (fun r=>r.cell? ⟨W.heap.size,0,none⟩=some (.int .i64 (q:Int))/\r.cell? ⟨W.heap.size,1,none⟩=some (.int .i64 (n:Int))) (first|go_keep|assumption) ((go_at_call 95;refine E.mono ?_;rintro e d⟨rfl,a⟩;have A:Below w2.heap.size w2 d:=⟨a.1,a.2,a.3,a.4,a.5⟩;obtain⟨y,x,z,i⟩:=J.out d A;have M:d.cell? ⟨W.heap.size,0,none⟩=some (.int .i64 (q:Int))/\d.cell? ⟨W.heap.size,1,none⟩=some (.int .i64 (n:Int)):=⟨y,x⟩))
   go_wp2_with fail;go_ret;exact⟨W.heap.size+1,rfl,by omega,by rw[G.out];exact z,i⟩
end
end Go.Proofs.YtagkodkijkpemaaGreatDoor

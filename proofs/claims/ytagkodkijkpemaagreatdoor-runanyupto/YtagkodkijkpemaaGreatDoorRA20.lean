import Derived.Test.YtagkodkijkpemaaGreatDoorRA19
set_option maxHeartbeats 8000000
set_option maxRecDepth 1000000
namespace Go.Proofs.YtagkodkijkpemaaGreatDoor
open Lx Go.Proofs.Tryz
open Go.RowKit
open Tr
namespace Pk
def uL(b:ByteArray)(nT nN:Nat):Nat->Rd->List (Nat×Nat)->List (Nat×Nat)×Rd
 |0,r,l=>(l,r)
 |n+1,r,l=>uL b nT nN n (below b 1001 2 (below b nN 2 r).2).2 (l++[(nT+(below b nN 2 r).1,(below b 1001 2 (below b nN 2 r).2).1)])
def qR(b:ByteArray)(nP:Nat):Nat->Rd->List Nat->List Nat->List Nat×List Nat×Rd
 |0,r,l,m=>(l,m,r)
 |n+1,r,l,m=>qR b nP n (num b 3 (below b nP 1 r).2).2 (l++[(below b nP 1 r).1]) (m++[(num b 3 (below b nP 1 r).2).1])
theorem Ye(b:ByteArray)(nT nN:Nat):∀n r l,(uL b nT nN n r l).1.length=l.length+n
 |0,_,_=>rfl
 |n+1,r,l=>by rw[uL,Ye b nT nN n];simp;omega
theorem Ro(b:ByteArray)(a:Nat):∀n r l m,(qR b a n r l m).1.length=l.length+n/\(qR b a n r l m).2.1.length=m.length+n
 |0,_,_,_=>⟨rfl,rfl⟩
 |n+1,r,l,m=>by
  rw[qR];obtain⟨h1,h2⟩:=Ro b a n (num b 3 (below b a 1 r).2).2 (l++[(below b a 1 r).1]) (m++[(num b 3 (below b a 1 r).2).1]);rw[h1,h2];simp;omega
theorem aaE(b:ByteArray)(c:Nat):∀n r l m,(∀x∈m,x<16777216)->∀x∈(qR b c n r l m).2.1,x<16777216
 |0,_,_,_,h=>h
 |n+1,r,l,m,h=>by
  rw[qR];refine aaE b c n _ _ _ fun x a=>?_
  rcases cY.1 a with a|a
  ·exact h x a
  ·rw[cM]at a
   subst a;exact FJ b 3 _
end Pk
theorem Tryz.aci:(prog.info? 81).map (fun i=>(i.zero,i.size,i.bytes))=some (some (.agg #[.int .i64 0,.int .i64 0]),2,16):=by kernel_rfl
theorem Tryz.ac4:prog.underlying 77=some (.slice 81):=by kernel_rfl
theorem Tryz.NC:prog.underlying 22=some (.slice 3):=by kernel_rfl
theorem uK{B:Nat}{w0 w w':World}{row:Option Nat}(h:Below B w0 w)(d:B<=w.heap.size)(a:w.grownBy w' row)(c:∀k,row=some k->B<=k):Below B w0 w' :=
 ⟨a.1.trans h.1,a.2.trans h.2,a.3.trans h.3,dg h.4 a.size,fun k b=>(a.block k (by omega) fun e=>by have:=c k e.symm;omega).trans (h.block k b)⟩
theorem mq{B:Nat}{w0 w:World}(h:Below B w0 w){pb i:Nat}{x:Value}(b:B<=pb):Below B w0 (w.setCell ⟨pb,i,none⟩ x) :=
 ⟨h.1,h.2,h.3,by simpa using h.4,fun k a=>(fQ _ _ (by omega)).trans (h.block k a)⟩
namespace Pk
def h1(b:ByteArray):Nat×Rd:=size b 300 ⟨0,false⟩
def h2(b:ByteArray):Nat×Rd:=size b 1000 (h1 b).2
def h3(b:ByteArray):Nat×Rd:=size b 1000 (h2 b).2
def h4(b:ByteArray):Nat×Rd:=size b 200 (h3 b).2
def w1(b:ByteArray):List ByteArray×Rd:=words b (h2 b).1 (h4 b).2
def w2(b:ByteArray):List ByteArray×Rd:=words b (h3 b).1 (w1 b).2
def pr(b:ByteArray):List (Nat×Nat)×Rd:=uL b (h2 b).1 (h3 b).1 (h4 b).1 (w2 b).2 []
def st(b:ByteArray):List Nat×List Nat×Rd:=qR b (h4 b).1 (h1 b).1 (pr b).2 [] []
def p0(b:ByteArray):T:={ ay:=(st b).2.1,ak:=[],toks:=(w1 b).1,aS:=(w2 b).1,prods:=(pr b).1,aI:=(st b).1 }
def pl(b:ByteArray):List (Nat×Nat×Nat)×Rd:=places b (p0 b) (st b).2.2
def got(b:ByteArray):Nat×Rd:=num b 4 (pl b).2
def pack(b:ByteArray):T:={ p0 b with ak:=(pl b).1 }
def ok(b:ByteArray):Bool:=!(got b).2.bad && decide ((got b).1=sum b (pl b).2.k) && decide ((got b).2.k=b.size)
theorem Bz{b:ByteArray}{m:Nat}{r:Rd}(h:0<m):1<=(size b m r).1/\(size b m r).1<=m:=by
 have:=yI (b:=b) (n:=2) (r:=r) h;unfold size;exact⟨by show 1<=_+1;omega,by show _+1<=m;omega⟩
theorem adY(b:ByteArray):(1<=(h1 b).1/\(h1 b).1<=300)/\(1<=(h2 b).1/\(h2 b).1<=1000)/\(1<=(h3 b).1/\(h3 b).1<=1000)/\(1<=(h4 b).1/\(h4 b).1<=200):=by
 unfold h4 h3 h2 h1;exact⟨Bz (by decide),Bz (by decide),Bz (by decide),Bz (by decide)⟩
theorem Sn(b:ByteArray):(p0 b).ay.length=(h1 b).1:=by
 unfold p0 st;rw[(Ro ..).2];exact fi _
theorem ak4(b:ByteArray):(p0 b).aI.length=(h1 b).1:=by
 unfold p0 st;rw[(Ro ..).1];exact fi _
theorem MR(b:ByteArray):(p0 b).toks.length=(h2 b).1:=by
 unfold p0 w1
 dsimp only
 rw[IB]
theorem aby(b:ByteArray):(p0 b).aS.length=(h3 b).1:=by
 unfold p0 w2
 dsimp only
 rw[IB]
theorem aii(b:ByteArray):(p0 b).prods.length=(h4 b).1:=by
 unfold p0 pr;rw[Ye];exact fi _
theorem ac5(b:ByteArray):Gv (p0 b):=by
 obtain⟨a,c,d,-⟩:=adY b;refine⟨by rw[Sn];exact a.1,by rw[Sn];exact a.2,by rw[MR];exact c.2,by rw[aby];exact d.2,?_⟩;unfold p0 st;exact aaE _ _ _ _ _ _ (by simp)
end Pk
end Go.Proofs.YtagkodkijkpemaaGreatDoor

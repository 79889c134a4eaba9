import Derived.Test.YtlcppnabbicmoaaGreatDoorMG38
set_option maxHeartbeats 8000000
set_option maxRecDepth 1000000
namespace Go.Proofs.YtlcppnabbicmoaaGreatDoor
open Lx Go.Proofs.Tryz
open Go.RowKit
open Tr
structure aau (nT nN:Nat) (P:List Lx.Pd):Prop where
 well:∀ p∈P,LU nT (nT+nN) p
 t0:0<nT
 n1:1<nN
 p1:1<P.length
 bd:nT+nN<=100000
 pl:P.length<=200
 fst:∃ R,P=⟨nT,[nT+1],-1⟩::R
 FK:P.Pairwise fun a b=>a.left<=b.left
 has:∀ s,nT<=s->s<nT+nN->∃ p∈P,p.left=s
 used:∀ s,nT<s->s<nT+nN->∃ p∈P,s∈p.right
 ends:∀ E0:List Bool,E0.length = nT + nN -> (∀ s,s < nT -> au E0 s = true) -> ∀ s,s < nT + nN -> au (gq (bW P) P.length E0) s = true
theorem aiX {s:ByteArray}{g:Lx.Gr}(w:World)(h:dw s=.ok g):aau (aA g).length (aN g).length (aU g):=by
 have hf:=Hg w h;obtain⟨hp,hc,hl⟩:=LG h;have hne:=YT hp;have nd:=Ev hf.dup;have hn1:1<(aN g).length:=by have:=G5 g;have:=Py hf;omega
 refine⟨ahy hf,YU g,hn1,?_,(Qa hf).2.1,hl,⟨_,rfl⟩,ahz g,fun s h1 h2=>Qc hf hne h1 h2,fun s h1 h2=>ahA hf nd hc h1 h2,fun E0 h1 h2 s h3=>afQ hf hne nd hc h1 h2 h3⟩;obtain⟨p,hp2,e⟩:=Qc hf hne (s:=(aA g).length+1) (by omega) (by omega);rcases Nat.lt_or_ge 1 (aU g).length with h' | h'
 ·exact h'
 ·have:aU g=[⟨(aA g).length,[(aA g).length+1],-1⟩]:=by
   have e2:(aU g).length=(gQ (aA g) (aN g) ((aA g).length+1) g.rules).length+1:=rfl;have e3:gQ (aA g) (aN g) ((aA g).length+1) g.rules=[]:=List.eq_nil_of_length_eq_zero (by omega);unfold aU;rw[e3]
  rw[this,List.mem_singleton]at hp2;rw[hp2]at e;have:(aA g).length=(aA g).length+1:=e;omega
end Go.Proofs.YtlcppnabbicmoaaGreatDoor

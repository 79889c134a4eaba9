import Derived.Test.YtlcppnabbicmoaaGreatDoorMC38
import Derived.BigQuiet
import Derived.Deep.RegionHeld3
namespace Go.Proofs.YtlcppnabbicmoaaGreatDoor
open Go.RowKit
open Tr
theorem cell_below {w w':World}(h:Below w.heap.size w w'){a:Addr}{v:Value}(hc:w.cell? a=some v):w'.cell? a=some v:=(World.cell?_of_block (w:=w) (h.block a.block (World.block_lt_of_cell? w a hc))).trans hc
theorem PP.at {D:Nat→Prop}{w:World}{v:Value}{P:List Lx.Pd}(h:PP D w v P){j:Nat}(hj:j<P.length):∃ g cap u,v=.slice (some ⟨g,0,none⟩) P.length cap∧IR 0 w u P[j].right∧w.cell? ⟨g,j*3,none⟩=some (.int .i64 (P[j].left:Int))∧w.cell? ⟨g,j*3+1,none⟩=some u∧w.cell? ⟨g,j*3+2,none⟩=some (.int .i64 P[j].prec):=by
 obtain⟨ps,h1,h2,h3,-⟩:=h
 have hs:Tr.Seq (fun _=>True) w 58 3 pdC (fun u q=>IR 0 w u q.right) v P:=⟨ps,h1,h2,fun _ _=>trivial,fun q hq=>(h3 q hq).1⟩
 obtain⟨g,cap,u,k1,-,k3,k4⟩:=Seq.at hs (fun _=>rfl) hj
 exact⟨g,cap,u,k1,k3,k4 0 (by decide),k4 1 (by decide),k4 2 (by decide)⟩
theorem PP.below {D:Nat→Prop}{w w':World}{v:Value}{P:List Lx.Pd}(h:PP D w v P)(hb:Below w.heap.size w w'):PP D w' v P:=by
 obtain⟨ps,h1,h2,h3,h4⟩:=h
 exact⟨ps,h1,own_below h2 hb,fun q hq=>⟨own_below (h3 q hq).1 hb,(h3 q hq).2⟩,h4⟩
end Go.Proofs.YtlcppnabbicmoaaGreatDoor

import Derived.Test.YtlcppnabbicmoaaGreatDoorMD38
import Derived.BigQuiet
import Derived.Deep.RegionHeld3
set_option maxHeartbeats 8000000
set_option maxRecDepth 1000000
namespace Go.Proofs.YtlcppnabbicmoaaGreatDoor
open Go.RowKit
open Tr
theorem cell_below {w w':World}(h:Below w.heap.size w w'){a:Addr}{v:Value}(hc:w.cell? a=some v):w'.cell? a=some v:=(World.cell?_of_block (w:=w) (h.block a.block (World.block_lt_of_cell? w a hc))).trans hc
theorem ints_same (l:List Nat) (v v':Value) (w:World) (h:IR 0 w v l) (h':IR 0 w v' l) :
  Calls Tryz.prog 16 #[v,v'] w fun e w'=>e=.returned (.bool true)/\Below w.heap.size w w':=by
 obtain⟨a,c,rfl,hm⟩:=own_len h;obtain⟨a',c',rfl,-⟩:=own_len h';unfold maxLen at hm;go_enter Tryz.func16,Tryz.ntmps16;go_wp2_with fail
 go_loopg [5] l.length (fun k i wr=>∃ j:Nat,j+k=l.length/\i=.int .i64 j/\Below w.heap.size w wr)
 case atStart=>exact⟨0,by omega,rfl,Below.refl _ _⟩
 case round =>
  obtain⟨j,hk,rfl,hb⟩:=hrel
  by_cases hlt:j<l.length
  ·have h1:IR 0 wr _ l:=own_below h hb
   have h2:IR 0 wr _ l:=own_below h' hb;obtain⟨g,cap,hv,-,c1⟩:=h1.at hlt;obtain⟨g',cap',hv',-,c2⟩:=h2.at hlt;cases hv;cases hv';generalize l[j]=x at c1 c2;go_wp2_with fail
   go_region
   all_goals
    go_wp2_with fail;go_roundg (l.length - (j+1))
    case measure=>omega
    case rel=>exact⟨j+1,by omega,by go_num,hb.drew⟩
  ·go_wp2_with fail
   go_ret;exact⟨rfl,hb⟩
theorem PP.at {D:Nat->Prop}{w:World}{v:Value}{P:List Lx.Pd}(h:PP D w v P){j:Nat}(hj:j<P.length):∃ g cap u,v=.slice (some ⟨g,0,none⟩) P.length cap/\IR 0 w u P[j].right/\w.cell? ⟨g,j*3,none⟩=some (.int .i64 (P[j].left:Int))/\w.cell? ⟨g,j*3+1,none⟩=some u/\w.cell? ⟨g,j*3+2,none⟩=some (.int .i64 P[j].prec):=by
 obtain⟨ps,h1,h2,h3,-⟩:=h;have hs:Tr.Seq (fun _=>True) w 58 3 pdC (fun u q=>IR 0 w u q.right) v P:=⟨ps,h1,h2,fun _ _=>trivial,fun q hq=>(h3 q hq).1⟩;obtain⟨g,cap,u,k1,-,k3,k4⟩:=Seq.at hs (fun _=>rfl) hj;exact⟨g,cap,u,k1,k3,k4 0 (by decide),k4 1 (by decide),k4 2 (by decide)⟩
theorem PP.below {D:Nat->Prop}{w w':World}{v:Value}{P:List Lx.Pd}(h:PP D w v P)(hb:Below w.heap.size w w'):PP D w' v P:=by
 obtain⟨ps,h1,h2,h3,h4⟩:=h;exact⟨ps,h1,own_below h2 hb,fun q hq=>⟨own_below (h3 q hq).1 hb,(h3 q hq).2⟩,h4⟩
end Go.Proofs.YtlcppnabbicmoaaGreatDoor

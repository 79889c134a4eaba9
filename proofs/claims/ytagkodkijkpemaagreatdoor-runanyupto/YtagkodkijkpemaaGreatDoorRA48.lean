import Derived.Test.YtagkodkijkpemaaGreatDoorRA00
import Derived.Test.YtagkodkijkpemaaGreatDoorRows
import Derived.ProofKit
import Derived.LaidMore
import Derived.LaidSub
import Derived.LaidHandle
import Derived.Lay
set_option maxHeartbeats 8000000
set_option maxRecDepth 1000000
namespace Go.Proofs.YtagkodkijkpemaaGreatDoor
open Lx Go.Proofs.Tryz
open Go.ChangeShapes Go.WideShapes Go.ChangeAt Go.RowKit
theorem ahz:(Rows.runAnyUptoRow.laid.filter fun x=>x.snd.handleName?.isNone)=Rows.runAnyUptoRow.laid:=by kernel_rfl
theorem akC(os:Os)(args:Array Value):laidMetH prog Rows.runAnyUptoRow.laid ((World.laidAll prog os Rows.runAnyUptoRow.laid).forCall (fun _ _=>0) ⟨#[],args,[]⟩).memory :=
 laidMetH_of_parts (by rw[ahz];exact laidMet_laidAll args (by kernel_rfl) (by kernel_rfl)) (by kernel_rfl)
end Go.Proofs.YtagkodkijkpemaaGreatDoor

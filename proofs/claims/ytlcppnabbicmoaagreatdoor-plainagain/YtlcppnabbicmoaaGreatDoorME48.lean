import Derived.Test.YtlcppnabbicmoaaGreatDoorME47
set_option maxHeartbeats 8000000
set_option maxRecDepth 1000000
namespace Go.Proofs.YtlcppnabbicmoaaGreatDoor
open Go.RowKit
open Tr
section
variable {B0:Nat} {w w':World} {v:Value} {nT:Nat} {gs:List Nat} {B:List (List Bool)}
end
end Go.Proofs.YtlcppnabbicmoaaGreatDoor

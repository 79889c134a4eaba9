import Derived.Test.YtlcppnabbicmoaaGreatDoorME50
set_option maxHeartbeats 8000000
set_option maxRecDepth 1000000
namespace Go.Proofs.YtlcppnabbicmoaaGreatDoor
open Go.RowKit
open Tr
end Go.Proofs.YtlcppnabbicmoaaGreatDoor

import Derived.Test.YtlcppnabbicmoaaGreatDoorME48
set_option maxHeartbeats 8000000
set_option maxRecDepth 1000000
namespace Go.Proofs.YtlcppnabbicmoaaGreatDoor
section
open Go.RowKit
open Tr
end
section
open Go Go.RowKit
end
end Go.Proofs.YtlcppnabbicmoaaGreatDoor

import Derived.Test.YtnakejhohdbfdaaGreatDoorXQaD
namespace Go.Proofs.YtnakejhohdbfdaaGreatDoor
open Go.RowKit Lev Lay Bnd
end Go.Proofs.YtnakejhohdbfdaaGreatDoor

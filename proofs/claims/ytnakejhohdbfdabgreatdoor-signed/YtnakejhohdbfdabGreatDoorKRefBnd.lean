import Derived.Test.YtnakejhohdbfdabGreatDoorKDecLaw
import Derived.Test.YtnakejhohdbfdabGreatDoorKKin
namespace Go.Proofs.YtnakejhohdbfdabGreatDoor.Cls
open Go.RowKit Dec Kin Bnd
end Go.Proofs.YtnakejhohdbfdabGreatDoor.Cls

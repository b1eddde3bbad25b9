import Derived.Test.YtnakejhohdbfdacGreatDoorKDecLaw
import Derived.Test.YtnakejhohdbfdacGreatDoorKKin
import Derived.Test.YtnakejhohdbfdacGreatDoorKSearchK
namespace Go.Proofs.YtnakejhohdbfdacGreatDoor.Cls
open Go.RowKit Dec Kin Bnd
theorem owns_shape_pos {w:World}{base:Nat}{e:TypeId}{size:Nat}{v:Value}{n:Nat}{xs:List Value}(hn:0<n)(h:w.ownsRow base e size v n xs):∃g cap,v=.slice (some ⟨g,0,none⟩) n cap:=by
 rcases h.2 with⟨_,h1⟩ | ⟨g,cap,cur,hv,_⟩
 ·omega
 ·exact⟨g,cap,hv⟩
end Go.Proofs.YtnakejhohdbfdacGreatDoor.Cls

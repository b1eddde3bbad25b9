import Derived.Test.YtnakejhohdbfdacGreatDoorMap
import Derived.Deep.RegionHeld
namespace Go.Proofs.YtnakejhohdbfdacGreatDoor
open Go.RowKit j9
theorem E5.oN {w w':World}{B:Nat}{v:Value}{rs:List (List Nat)}(h:E5 w B v rs)(hf:Fr [] w w'):E5 w' B v rs :=
 ⟨h.1,h.2.1,fun o cap hv j hj=>by
  obtain⟨g,c,a1,a2,a3⟩:=h.2.2 o cap hv j hj
  exact⟨g,c,hf.cell a1 aj,a2,iM a3 hf⟩⟩
def small (L:List Int):Prop:=∀i,0<=nth L i/\nth L i<=1000
theorem GJ {w:World}{B g n cap size:Nat}{e:TypeId}{xs:List Value}(h:w.ownsRow B e size (.slice (some ⟨g,0,none⟩) n cap) n xs):n<=cap:=by
 rcases h.2 with⟨h0,_⟩ | ⟨g',cap',cur,hv,hg,hh,hn,_⟩
 ·cases h0
 ·cases hv;exact hn
end Go.Proofs.YtnakejhohdbfdacGreatDoor

import Derived.Test.YtnakejhohdbfdacGreatDoorKPlE
namespace Go.Proofs.YtnakejhohdbfdacGreatDoor
open Go.RowKit Lev Lay
def sl0 (w:World)(B:Nat)(v:Value)(l:List Int):Prop:=∃a c,v=.slice a l.length c∧(l.length=0∨∃g,a=some ⟨g,0,none⟩∧B≤g∧rowAt w g l.length l)
theorem sl0.fr {S:List Nat}{w w':World}{B:Nat}{v:Value}{l:List Int}(h:sl0 w B v l)(hf:Fr S w w')(hS:∀k∈S,k<B):sl0 w' B v l:=by
 obtain⟨a,c,h1,h2⟩:=h;refine⟨a,c,h1,h2.imp id ?_⟩;rintro ⟨g,h3,h4,h5⟩;exact⟨g,h3,h4,h5.fr hf (fun hm=>by have:=hS g hm;omega)⟩
theorem sl0.row {w:World}{B:Nat}{v:Value}{l:List Int}(h:sl0 w B v l)(h0:0<l.length):∃g c,v=.slice (some ⟨g,0,none⟩) l.length c∧B≤g∧rowAt w g l.length l:=by
 obtain⟨a,c,h1,h2⟩:=h
 rcases h2 with h3 | ⟨g,rfl,h4,h5⟩
 ·omega
 ·exact⟨g,c,h1,h4,h5⟩
end Go.Proofs.YtnakejhohdbfdacGreatDoor

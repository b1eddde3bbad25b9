import Derived.Test.YtnakejhohdbfdacGreatDoorMba
import Derived.Test.YtnakejhohdbfdacGreatDoorMat
namespace Go.Proofs.YtnakejhohdbfdacGreatDoor
open Go.RowKit j9
def Rl (s:ByteArray)(n:Nat):List Int:=(List.range n).map (Dec.rune s)
def Kl (s:ByteArray)(n:Nat):List Int:=(List.range n).map (fun i=>jg.look jg.iY (Dec.rune s i))
theorem oG (s:ByteArray)(n:Nat):(Kl s n).length=n:=by simp[Kl]
theorem Qm (s:ByteArray){n i:Nat}(h:i<n):nth (Rl s n) i=Dec.rune s i:=by simp[nth,Rl,h]
def rowP (w:World)(g n:Nat)(P:Nat->Nat):Prop:=∀i,i<n->w.cell? ⟨g,i * 3+1,none⟩=some (.int .i64 (P i:Nat))
theorem rowP.fr {S:List Nat}{w w':World}{g n:Nat}{P:Nat->Nat}(h:rowP w g n P)(hf:Fr S w w')(hg:g ∉ S):rowP w' g n P:=fun i hi=>hf.cell (h i hi) hg
end Go.Proofs.YtnakejhohdbfdacGreatDoor

import Derived.Test.YtnakejhohdbfdabGreatDoorKRsD
import Derived.Test.YtnakejhohdbfdabGreatDoorKRsK
import Derived.Test.YtnakejhohdbfdabGreatDoorKMa
import Derived.Test.YtnakejhohdbfdabGreatDoorKMc
import Derived.Test.YtnakejhohdbfdabGreatDoorKMb
import Derived.Deep.RegionLawGrows
namespace Go.Proofs.YtnakejhohdbfdabGreatDoor
open Go.RowKit Lev
def Rl (s:ByteArray)(n:Nat):List Int:=(List.range n).map (Dec.rune s)
def Kl (s:ByteArray)(n:Nat):List Int:=(List.range n).map (fun i=>Tabs.look Tabs.classTab (Dec.rune s i))
theorem Kl_len (s:ByteArray)(n:Nat):(Kl s n).length=n:=by simp[Kl]
theorem Rl_at (s:ByteArray){n i:Nat}(h:i<n):nth (Rl s n) i=Dec.rune s i:=by simp[nth,Rl,h]
def intsZ (l:List Int):List Value:=l.map (Value.int .i64)
theorem intsZ_at {l:List Int}{j:Nat}(h:j<l.length):(intsZ l)[j]?=some (.int .i64 (nth l j)):=by
 rw[intsZ,List.getElem?_map,List.getElem?_eq_getElem h];simp[nth,List.getElem?_eq_getElem h]
theorem owns_rowAt {w:World}{B:Nat}{n g cap:Nat}{l:List Int}(h:w.ownsRow B 3 1 (.slice (some ⟨g,0,none⟩) n cap) n (intsZ l))(hl:l.length=n):rowAt w g n l:=by
 intro i hi;rw[h.cellAt i (by omega),intsZ_at (by omega)]
def pobj (w:World)(p:Nat)(cs:Array Value):Prop:=w.heap[p]?=some (.cells cs 133 (0,0))
theorem pobj.cell {w:World}{p:Nat}{cs:Array Value}(h:pobj w p cs){i:Nat}{v:Value}(hv:cs[i]?=some v):w.cell? ⟨p,i,none⟩=some v:=by
 rw[cell_of_row w p i cs 133 (0,0) h];exact hv
theorem pobj.froz {w:World}{p:Nat}{cs:Array Value}(h:pobj w p cs)(i:Nat):w.frozen? ⟨p,i,none⟩=false:=frozen_of_row w p i cs 133 h
theorem pobj.fr {S:List Nat}{w w':World}{p:Nat}{cs:Array Value}(h:pobj w p cs)(hf:Fr S w w')(hp:p ∉ S):pobj w' p cs:=(hf.block p (Array.getElem?_eq_some_iff.1 h).1 hp).trans h
theorem pobj.grown {w w':World}{row:Option Nat}{p:Nat}{cs:Array Value}(h:pobj w p cs)(hg:w.grownBy w' row)(hp:some p≠row):pobj w' p cs:=(hg.block p (Array.getElem?_eq_some_iff.1 h).1 hp).trans h
theorem pobj.set {w:World}{p:Nat}{cs:Array Value}(h:pobj w p cs)(i:Nat)(v:Value):pobj (w.setCell ⟨p,i,none⟩ v) p (cs.setIfInBounds i v):=heap_setCell_same w p i cs 133 v h
theorem pobj.lt {w:World}{p:Nat}{cs:Array Value}(h:pobj w p cs):p<w.heap.size:=(Array.getElem?_eq_some_iff.1 h).1
theorem made_at (w:World)(b n:Nat)(z:Value)(e:TypeId)(h:w.heap[b]?=some (.cells (madeCells #[z] n) e (0,0))){i:Nat}(hi:i<n):w.cell? ⟨b,i,none⟩=some z∧w.frozen? ⟨b,i,none⟩=false:=by
 refine⟨?_,frozen_of_row w b i _ e h⟩;rw[cell_of_row w b i _ e (0,0) h,←Array.getElem?_toList,toList_madeCells_one];simp[hi]
theorem PS.make {w:World}{p bR bF bC bL bM bG cR cF cC cM n B:Nat}{R K M:List Int}{base:Int}(hp:pobj w p #[.slice (some ⟨bR,0,none⟩) n cR,.slice (some ⟨bF,0,none⟩) n cF,.slice (some ⟨bC,0,none⟩) n cC,.slice (some ⟨bL,0,none⟩) n n,.slice (some ⟨bM,0,none⟩) n cM,.slice (some ⟨bG,0,none⟩) n n,.int .i64 base])
 (hR:rowR w bR n R) (hF:rowAt w bF n K) (hC:w.ownsRow B 3 1 (.slice (some ⟨bC,0,none⟩) n cC) n (intsZ K)) (hM:rowAt w bM n M) (hL:w.heap[bL]?=some (.cells (madeCells #[.int .i64 0] n) 3 (0,0))) (hG:w.heap[bG]?=some (.cells (madeCells #[.bool false] n) 4 (0,0))) (hK:K.length=n)
 (neC:bC≠p∧bC≠bR∧bC≠bF∧bC≠bM) (neL:bL≠p∧bL≠bR∧bL≠bF∧bL≠bM) (neG:bG≠p∧bG≠bR∧bG≠bF∧bG≠bM) (neX:bC≠bL∧bC≠bG∧bL≠bG) :
 PS w ⟨p,bR,bF,bC,bL,bM,bG,cR,cF,cC,n,cM,n,n,R,K,M,base⟩ K (List.replicate K.length 0) (gAt K 0) where
 c0:=hp.cell (i:=0) rfl
 c1:=hp.cell (i:=1) rfl
 c2:=hp.cell (i:=2) rfl
 c3:=hp.cell (i:=3) rfl
 c4:=hp.cell (i:=4) rfl
 c5:=hp.cell (i:=5) rfl
 c6:=hp.cell (i:=6) rfl
 rR:=hR
 rF:=hF
 rM:=hM
 rC:=owns_rowAt hC hK
 rL:=fun i hi=>by
  rw[(made_at w bL n _ 3 hL hi).1];have:nth (List.replicate K.length 0) i=0:=by
   have h:i<K.length:=by rw[hK];exact hi
   simp[nth,h]
  rw[this]
 rG:=fun i hi=>by
  rw[(made_at w bG n _ 4 hG hi).1];have h:i<K.length:=by rw[hK];exact hi
  simp[gAt,h]
 sC:=fun i _=>hC.frozenAt i
 sL:=fun i hi=>(made_at w bL n _ 3 hL hi).2
 sG:=fun i hi=>(made_at w bG n _ 4 hG hi).2
 lC:=hK
 lL:=by rw[List.length_replicate];exact hK
 lG:=by rw[gAt_len];exact hK
 neC:=neC
 neL:=neL
 neG:=neG
 neX:=neX
def rowP (w:World)(g n:Nat)(P:Nat→Nat):Prop:=∀i,i<n→w.cell? ⟨g,i * 3+1,none⟩=some (.int .i64 (P i:Nat))
theorem rowP.fr {S:List Nat}{w w':World}{g n:Nat}{P:Nat→Nat}(h:rowP w g n P)(hf:Fr S w w')(hg:g ∉ S):rowP w' g n P:=fun i hi=>hf.cell (h i hi) hg
end Go.Proofs.YtnakejhohdbfdabGreatDoor

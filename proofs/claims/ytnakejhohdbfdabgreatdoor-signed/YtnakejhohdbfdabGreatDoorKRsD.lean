import Derived.Test.YtnakejhohdbfdabGreatDoorKMd
import Derived.Test.YtnakejhohdbfdabGreatDoorKRsL
import Derived.Test.YtnakejhohdbfdabGreatDoorKMa
import Derived.Deep.RegionHeld
namespace Go.Proofs.YtnakejhohdbfdabGreatDoor
open Go.RowKit Lev
theorem rowsAt.fr0 {w w':World}{B:Nat}{v:Value}{rs:List (List Nat)}(h:rowsAt w B v rs)(hf:Fr [] w w'):rowsAt w' B v rs :=
 ⟨h.1,h.2.1,fun o cap hv j hj=>by
  obtain⟨g,c,a1,a2,a3⟩:=h.2.2 o cap hv j hj
  exact⟨g,c,hf.cell a1 List.not_mem_nil,a2,owns_fr0 a3 hf⟩⟩
def small (L:List Int):Prop:=∀i,0≤nth L i∧nth L i≤1000
def pcells:List (Nat × Nat)→List Value
 | []=>[]
 | p :: l=>.int .i64 (p.1:Nat) :: .int .i64 (p.2:Nat) :: pcells l
theorem owns_cap {w:World}{B g n cap size:Nat}{e:TypeId}{xs:List Value}(h:w.ownsRow B e size (.slice (some ⟨g,0,none⟩) n cap) n xs):n≤cap:=by
 rcases h.2 with⟨h0,_⟩ | ⟨g',cap',cur,hv,hg,hh,hn,_⟩
 ·cases h0
 ·cases hv;exact hn
structure PW (W wr:World)(vst vout:Value)(st:List Nat)(out:List (Nat × Nat)):Prop where
 fr:Fr [] W wr
 os:wr.ownsRow W.heap.size 3 1 vst st.length (intsN st)
 oo:wr.ownsRow W.heap.size 287 2 vout out.length (pcells out)
 nl:out.length=0→vout=.slice none 0 0
theorem PW.fr0 {W wr w':World}{vst vout:Value}{st:List Nat}{out:List (Nat × Nat)}(h:PW W wr vst vout st out)(hf:Fr [] wr w'):PW W w' vst vout st out :=
 ⟨h.fr.trans hf,owns_fr0 h.os hf,owns_fr0 h.oo hf,h.nl⟩
theorem PW.push {W wr w1 w':World}{vst vout v':Value}{st:List Nat}{out:List (Nat × Nat)}{k:Nat}(h:PW W wr vst vout st out)(hf:Fr [] wr w1)(ho:w'.ownsRow W.heap.size 3 1 v' (st.length+1) (intsN st++[.int .i64 (k:Nat)]))(hg:w1.grownBy w' vst.ownBlock):PW W w' v' vout (st++[k]) out:=by
 have h1:=h.fr0 hf;refine⟨h1.fr.grown hg (fun x hx=>(h1.os.lt x hx).1),?_,owns_grown h1.oo hg (fun g hg' e=>?_),h.nl⟩
 ·rw[←intsN_snoc,List.length_append];exact ho
 ·exact owns_apart h1.oo h1.os (by decide) hg' e.symm rfl
theorem loose_facts (I:List Nat)(C:List Int)(k:Nat):((cl I C k=4∨cl I C k=5∨cl I C k=7)→looseStep I C k=put I C k 13)∧(¬(cl I C k=4∨cl I C k=5∨cl I C k=7)→looseStep I C k=C) :=
 ⟨fun h=>by rw[looseStep,if_pos h],fun h=>by rw[looseStep,if_neg h]⟩
end Go.Proofs.YtnakejhohdbfdabGreatDoor

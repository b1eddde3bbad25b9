import Derived.Test.YtnakejhohdbfdabGreatDoorKQdG
import Derived.Test.YtnakejhohdbfdabGreatDoorKQcI
namespace Go.Proofs.YtnakejhohdbfdabGreatDoor
open Go.RowKit Lev Lay Bnd
def mvP (Bd V:List Int)(z r:Int)(Ls:List Ln)(d off goal:Int)(back:Bool):Int × Bool :=
 let p:=placeL Bd z off back
 let g:=gapL Bd V z Ls off back
 if d=0 then(if 0<g.2 then normP Bd V Ls (g.1:Nat) ((g.2:Int) - 1)else if 0≤(g.1:Int) - r∧(g.1:Int) - r<(Ls.length:Int)then normP Bd V Ls ((g.1:Int) - r) ((lnN Ls ((g.1:Int) - r).toNat).o.length:Nat)else p)
 else if d=1 then(if g.2<(lnN Ls g.1).o.length then normP Bd V Ls (g.1:Nat) ((g.2:Int)+1)else if 0≤(g.1:Int)+r∧(g.1:Int)+r<(Ls.length:Int)then normP Bd V Ls ((g.1:Int)+r) 0 else p)
 else if d=2 then placeL Bd z (nth Bd (near ((cidx Bd p.1:Int)+1) ((Bd.length:Int) - 1)).toNat) true
 else if d=3 then placeL Bd z (nth Bd (near ((cidx Bd p.1:Int) - 1) ((Bd.length:Int) - 1)).toNat) false
 else if d=4 then placeL Bd z (lnN Ls g.1).f false
 else if d=5 then placeL Bd z (lnN Ls g.1).t true
 else if d=6 then(if 0≤(g.1:Int)+-1∧(g.1:Int)+-1<(Ls.length:Int)then hitP Bd V Ls ((g.1:Int)+-1) goal else p)
 else if d=7 then(if 0≤(g.1:Int)+1∧(g.1:Int)+1<(Ls.length:Int)then hitP Bd V Ls ((g.1:Int)+1) goal else p)
 else p
theorem Fine.gap_in {Bd V:List Int}{z:Int}{Ls:List Ln}(F:Fine Bd V z Ls)(hK0:0<Ls.length)(off:Int)(back:Bool):(gapL Bd V z Ls off back).1<Ls.length∧(gapL Bd V z Ls off back).2≤(lnN Ls (gapL Bd V z Ls off back).1).o.length:=by
 by_cases hV:V.length=0
 ·have h1:gapL Bd V z Ls off back=(0,0):=by unfold gapL;rw[if_pos hV]
  rw[h1];exact⟨hK0,Nat.zero_le _⟩
 ·obtain⟨c,i,k,_,e1,_,hi,hk⟩:=F.gap (by omega) off back
  rw[gapL_eq (by omega) e1 hi hk];refine⟨hi.1,?_⟩;have:=hk.1;dsimp only;split <;> omega
theorem moveP_any (B P:Nat)(Bd V X:List Int)(r z:Int)(Ls:List Ln)(v0 v1 v2 vL:Value)(hs:List Value)(d off goal:Int)(back:Bool)(w:World)(h:LP w B P Bd V X r Ls v0 v1 v2 vL hs)(F:Fine Bd V z Ls)(hz:0≤z)(T:Tame Bd V Ls)(hr:-1≤r∧r≤1)(hv4:V.length≤400)(hK0:0<Ls.length)(hK:Ls.length≤400)(hlo:∀l∈Ls,l.o.length≤1000)(R:Int × Bool)(hR:R=mvP Bd V z r Ls d off goal back) :
 Calls Tryz.prog 85 #[.pointer (some ⟨P,0,none⟩),.int .i64 d,.agg #[.int .i64 off,.bool back],.int .i64 goal] w fun e w'=>e=.returned (.tuple #[.agg #[.int .i64 R.1,.bool R.2],.bool (!(decide (R.1=(placeL Bd z off back).1∧R.2=(placeL Bd z off back).2)))])∧Fr [] w w':=by
 have hbd:=F.bd;have hBl:Bd.length≤1000:=by omega
 have hfr:∀ {Y},Fr [] w Y→LP Y B P Bd V X r Ls v0 v1 v2 vL hs:=fun hf=>h.fr hf (fun _ h=>absurd h List.not_mem_nil)
 refine move65_any P d off goal (placeL Bd z off back).1 R.1 back (placeL Bd z off back).2 R.2 _ w rfl (fun Y hf=>placeP_any B P Bd V X r z Ls v0 v1 v2 vL hs off back Y (hfr hf) F.rs hz hBl) (fun Y hf=>?_);have hY:=hfr hf;have hfr':∀ {Y'},Fr [] Y Y'→LP Y' B P Bd V X r Ls v0 v1 v2 vL hs:=fun hf=>hY.fr hf (fun _ h=>absurd h List.not_mem_nil)
 obtain⟨hi,hk⟩:=F.gap_in hK0 off back;have hgp:=gap_place (V:=V) (Ls:=Ls) F.rs off back;have hg:∀Y',Fr [] Y Y'→Calls Tryz.prog 84 #[.pointer (some ⟨P,0,none⟩),.agg #[.int .i64 (placeL Bd z off back).1,.bool (placeL Bd z off back).2]] Y' fun e w'=>e=.returned (.agg #[.int .i64 ((gapL Bd V z Ls off back).1:Nat),.int .i64 ((gapL Bd V z Ls off back).2:Nat)])∧Fr [] Y' w':=fun Y' hf'=>by
  have h1:=gapP_all B P Bd V X r z Ls v0 v1 v2 vL hs (placeL Bd z off back).1 (placeL Bd z off back).2 Y' (hfr' hf') F hz T hv4 hK hlo;rw[hgp]at h1;exact h1
 have hp:∀o b Y',Fr [] Y Y'→Calls Tryz.prog 87 #[.pointer (some ⟨P,0,none⟩),.agg #[.int .i64 o,.bool b]] Y' fun e w'=>e=.returned (.agg #[.int .i64 (placeL Bd z o b).1,.bool (placeL Bd z o b).2])∧Fr [] Y' w':=fun o b Y' hf'=>placeP_any B P Bd V X r z Ls v0 v1 v2 vL hs o b Y' (hfr' hf') F.rs hz hBl
 have hn:∀line gap Y',Fr [] Y Y'→Calls Tryz.prog 83 #[.pointer (some ⟨P,0,none⟩),.agg #[.int .i64 line,.int .i64 gap]] Y' fun e w'=>e=.returned (.agg #[.int .i64 (normP Bd V Ls line gap).1,.bool (normP Bd V Ls line gap).2])∧Fr [] Y' w':=fun line gap Y' hf'=>normP_any B P Bd V X r Ls v0 v1 v2 vL hs line gap Y' (hfr' hf') T hbd hv4 hK0 hK hlo
 have hh:∀line Y',Fr [] Y Y'→Calls Tryz.prog 88 #[.pointer (some ⟨P,0,none⟩),.int .i64 line,.int .i64 goal] Y' fun e w'=>e=.returned (.agg #[.int .i64 (hitP Bd V Ls line goal).1,.bool (hitP Bd V Ls line goal).2])∧Fr [] Y' w':=fun line Y' hf'=>hitP_any B P Bd V X r Ls v0 v1 v2 vL hs line goal Y' (hfr' hf') T hbd hv4 hK0 hK hlo
 have hcn:cidx Bd (placeL Bd z off back).1≤1000:=by
  obtain⟨c,hc,e1,_⟩:=place_at F.rs off back;rw[e1,cidx_of F.rs hc];omega
 obtain⟨gB,cB,hvB,_,HRB⟩:=hY.b.row (by omega);have ho:=hY.o;unfold mvP at hR;dsimp only at hR;by_cases h0:d=0
 ·subst h0
  rw[if_pos rfl]at hR;exact targ0_any P _ goal _ _ _ Y (fun Y' hf'=>left170_any B P Bd V X r Ls v0 v1 v2 vL hs _ _ _ _ Y' (hfr' hf') hr hi hk hK hlo (fun Y2 hf2=>hg Y2 (hf'.trans hf2)) (fun l g Y2 hf2=>hn l g Y2 (hf'.trans hf2)) R hR)
 rw[if_neg h0]at hR;by_cases h1:d=1
 ·subst h1
  rw[if_pos rfl]at hR;exact targ1_any P _ goal _ _ _ Y (fun Y' hf'=>right_any B P Bd V X r Ls v0 v1 v2 vL hs _ _ _ _ Y' (hfr' hf') hr hi hk hK hlo (fun Y2 hf2=>hg Y2 (hf'.trans hf2)) (fun l g Y2 hf2=>hn l g Y2 (hf'.trans hf2)) R hR)
 rw[if_neg h1]at hR;by_cases h2:d=2
 ·subst h2
  rw[if_pos rfl]at hR;subst hR;subst hvB;have hnr:=near_in (x:=(cidx Bd (placeL Bd z off back).1:Int)+1) (hi:=(Bd.length:Int) - 1) (by omega);exact targ2_any P gB cB Bd.length _ goal _ _ _ _ (cidx Bd (placeL Bd z off back).1) v1 v2 vL r Y ho hcn (fun Y' hf'=>at_any Bd z F.rs _ gB cB Bd.length v1 v2 Y' rfl hBl (HRB.fr hf' List.not_mem_nil)) (fun Y' hf'=>bd_any Bd gB cB Bd.length v1 v2 _ (near ((cidx Bd (placeL Bd z off back).1:Int)+1) ((Bd.length:Int) - 1)).toNat Y' (by omega) hBl (HRB.fr hf' List.not_mem_nil) (by omega) (by omega)) (fun Y' hf'=>hp _ _ Y' hf')
 rw[if_neg h2]at hR;by_cases h3:d=3
 ·subst h3
  rw[if_pos rfl]at hR;subst hR;subst hvB;have hnr:=near_in (x:=(cidx Bd (placeL Bd z off back).1:Int) - 1) (hi:=(Bd.length:Int) - 1) (by omega);exact targ3_any P gB cB Bd.length _ goal _ _ _ _ (cidx Bd (placeL Bd z off back).1) v1 v2 vL r Y ho hcn (fun Y' hf'=>at_any Bd z F.rs _ gB cB Bd.length v1 v2 Y' rfl hBl (HRB.fr hf' List.not_mem_nil)) (fun Y' hf'=>bd_any Bd gB cB Bd.length v1 v2 _ (near ((cidx Bd (placeL Bd z off back).1:Int) - 1) ((Bd.length:Int) - 1)).toNat Y' (by omega) hBl (HRB.fr hf' List.not_mem_nil) (by omega) (by omega)) (fun Y' hf'=>hp _ _ Y' hf')
 rw[if_neg h3]at hR;by_cases h4:d=4
 ·subst h4
  rw[if_pos rfl]at hR;subst hR;exact targ4_any P _ goal _ _ _ _ _ Y (fun Y' hf'=>lineOf_any B P Bd V X r Ls v0 v1 v2 vL hs _ _ _ _ Y' (hfr' hf') hi (fun Y2 hf2=>hg Y2 (hf'.trans hf2))) (fun Y' hf'=>hp _ _ Y' hf')
 rw[if_neg h4]at hR;by_cases h5:d=5
 ·subst h5
  rw[if_pos rfl]at hR;subst hR;exact targ5_any P _ goal _ _ _ _ _ Y (fun Y' hf'=>lineOf_any B P Bd V X r Ls v0 v1 v2 vL hs _ _ _ _ Y' (hfr' hf') hi (fun Y2 hf2=>hg Y2 (hf'.trans hf2))) (fun Y' hf'=>hp _ _ Y' hf')
 rw[if_neg h5]at hR;by_cases h6:d=6
 ·subst h6
  rw[if_pos rfl]at hR;exact targ6_any P _ goal _ _ _ Y (fun Y' hf'=>across_any B P Bd V X r Ls v0 v1 v2 vL hs _ (-1) goal _ _ _ Y' (hfr' hf') (by omega) hi hK (fun Y2 hf2=>hg Y2 (hf'.trans hf2)) (fun l Y2 hf2=>hh l Y2 (hf'.trans hf2)) R hR)
 rw[if_neg h6]at hR;by_cases h7:d=7
 ·subst h7
  rw[if_pos rfl]at hR;exact targ7_any P _ goal _ _ _ Y (fun Y' hf'=>across_any B P Bd V X r Ls v0 v1 v2 vL hs _ 1 goal _ _ _ Y' (hfr' hf') (by omega) hi hK (fun Y2 hf2=>hg Y2 (hf'.trans hf2)) (fun l Y2 hf2=>hh l Y2 (hf'.trans hf2)) R hR)
 rw[if_neg h7]at hR;subst hR;exact targ_else P d _ goal _ Y (by omega)
end Go.Proofs.YtnakejhohdbfdabGreatDoor

import Derived.Test.YtnakejhohdbfdacGreatDoorMbn
import Derived.Laws.Rows
import Derived.Deep.Upon
import Derived.Laws.IdiomCopy
set_option maxHeartbeats 4000000
set_option maxRecDepth 10000
namespace Go.Proofs.YtnakejhohdbfdacGreatDoor
open Go.RowKit j9 Lay pS Go.Proofs.Tryz
def Wu (Bd V:List Int)(z r:Int)(Ls:List Ln)(d off goal:Int)(back:Bool):Int × Bool :=
 let p:=iR Bd z off back
 let g:=oJ Bd V z Ls off back
 if d=0 then(if 0<g.2 then ko Bd V Ls (g.1:Nat) ((g.2:Int) - 1)else if 0<=(g.1:Int) - r/\(g.1:Int) - r<(Ls.length:Int)then ko Bd V Ls ((g.1:Int) - r) ((kF Ls ((g.1:Int) - r).toNat).o.length:Nat)else p)
 else if d=1 then(if g.2<(kF Ls g.1).o.length then ko Bd V Ls (g.1:Nat) ((g.2:Int)+1)else if 0<=(g.1:Int)+r/\(g.1:Int)+r<(Ls.length:Int)then ko Bd V Ls ((g.1:Int)+r) 0 else p)
 else if d=2 then iR Bd z (nth Bd (near ((cidx Bd p.1:Int)+1) ((Bd.length:Int) - 1)).toNat) true
 else if d=3 then iR Bd z (nth Bd (near ((cidx Bd p.1:Int) - 1) ((Bd.length:Int) - 1)).toNat) false
 else if d=4 then iR Bd z (kF Ls g.1).f false
 else if d=5 then iR Bd z (kF Ls g.1).t true
 else if d=6 then(if 0<=(g.1:Int)+-1/\(g.1:Int)+-1<(Ls.length:Int)then vC Bd V Ls ((g.1:Int)+-1) goal else p)
 else if d=7 then(if 0<=(g.1:Int)+1/\(g.1:Int)+1<(Ls.length:Int)then vC Bd V Ls ((g.1:Int)+1) goal else p)
 else p
theorem Nt (B P:Nat)(Bd V X:List Int)(r z:Int)(Ls:List Ln)(v0 v1 v2 vL:Value)(hs:List Value)(d off goal:Int)(back:Bool)(w:World)(h:LP w B P Bd V X r Ls v0 v1 v2 vL hs)(F:vA Bd V z Ls)(hz:0<=z)(T:DG Bd V Ls)(hr:-1<=r/\r<=1)(hv4:V.length<=400)(Dr:0<Ls.length)(hK:Ls.length<=400)(hlo:∀l∈Ls,l.o.length<=1000)(R:Int × Bool)(hR:R=Wu Bd V z r Ls d off goal back) :
 Calls prog 95 #[.pointer (some ⟨P,0,none⟩),.int .i64 d,.agg #[.int .i64 off,.bool back],.int .i64 goal] w fun e w'=>e=.returned (.tuple #[.agg #[.int .i64 R.1,.bool R.2],.bool (!(decide (R.1=(iR Bd z off back).1/\R.2=(iR Bd z off back).2)))])/\Fr [] w w':=by
 have hbd:=F.bd;have hBl:Bd.length<=1000:=by omega
 have hfr:∀ {Y},Fr [] w Y->LP Y B P Bd V X r Ls v0 v1 v2 vL hs:=fun hf=>h.fr hf (fun _ h=>absurd h aj)
 refine JN P d off goal (iR Bd z off back).1 R.1 back (iR Bd z off back).2 R.2 _ w rfl (fun Y hf=>qo B P Bd V X r z Ls v0 v1 v2 vL hs off back Y (hfr hf) F.rs hz hBl) (fun Y hf=>?_);have hY:=hfr hf;have DI:∀ {Y'},Fr [] Y Y'->LP Y' B P Bd V X r Ls v0 v1 v2 vL hs:=fun hf=>hY.fr hf (fun _ h=>absurd h aj)
 obtain⟨hi,hk⟩:=F.JH Dr off back;have I3:=M_ (V:=V) (Ls:=Ls) F.rs off back;have hg:∀Y',Fr [] Y Y'->Calls prog 62 #[.pointer (some ⟨P,0,none⟩),.agg #[.int .i64 (iR Bd z off back).1,.bool (iR Bd z off back).2]] Y' fun e w'=>e=.returned (.agg #[.int .i64 ((oJ Bd V z Ls off back).1:Nat),.int .i64 ((oJ Bd V z Ls off back).2:Nat)])/\Fr [] Y' w':=fun Y' hf'=>by
  have h1:=uh B P Bd V X r z Ls v0 v1 v2 vL hs (iR Bd z off back).1 (iR Bd z off back).2 Y' (DI hf') F hz T hv4 hK hlo;rw[I3]at h1;exact h1
 have hp:∀o b Y',Fr [] Y Y'->Calls prog 97 #[.pointer (some ⟨P,0,none⟩),.agg #[.int .i64 o,.bool b]] Y' fun e w'=>e=.returned (.agg #[.int .i64 (iR Bd z o b).1,.bool (iR Bd z o b).2])/\Fr [] Y' w':=fun o b Y' hf'=>qo B P Bd V X r z Ls v0 v1 v2 vL hs o b Y' (DI hf') F.rs hz hBl
 have hn:∀line gap Y',Fr [] Y Y'->Calls prog 128 #[.pointer (some ⟨P,0,none⟩),.agg #[.int .i64 line,.int .i64 gap]] Y' fun e w'=>e=.returned (.agg #[.int .i64 (ko Bd V Ls line gap).1,.bool (ko Bd V Ls line gap).2])/\Fr [] Y' w':=fun line gap Y' hf'=>Ej B P Bd V X r Ls v0 v1 v2 vL hs line gap Y' (DI hf') T hbd hv4 Dr hK hlo
 have hh:∀line Y',Fr [] Y Y'->Calls prog 96 #[.pointer (some ⟨P,0,none⟩),.int .i64 line,.int .i64 goal] Y' fun e w'=>e=.returned (.agg #[.int .i64 (vC Bd V Ls line goal).1,.bool (vC Bd V Ls line goal).2])/\Fr [] Y' w':=fun line Y' hf'=>G5 B P Bd V X r Ls v0 v1 v2 vL hs line goal Y' (DI hf') T hbd hv4 Dr hK hlo
 have hcn:cidx Bd (iR Bd z off back).1<=1000:=by
  obtain⟨c,hc,e1,_⟩:=Rw F.rs off back;rw[e1,Bg F.rs hc];omega
 obtain⟨gB,cB,hvB,_,wR⟩:=hY.b.row (by omega);have ho:=hY.o;unfold Wu at hR;dsimp only at hR;by_cases h0:d=0
 ·subst h0
  rw[aE rfl]at hR;exact Ng P _ goal _ _ _ Y (fun Y' hf'=>G8 B P Bd V X r Ls v0 v1 v2 vL hs _ _ _ _ Y' (DI hf') hr hi hk hK hlo (fun Y2 hf2=>hg Y2 (hf'.trans hf2)) (fun l g Y2 hf2=>hn l g Y2 (hf'.trans hf2)) R hR)
 rw[ay h0]at hR;by_cases h1:d=1
 ·subst h1
  rw[aE rfl]at hR;exact Nh P _ goal _ _ _ Y (fun Y' hf'=>Nd B P Bd V X r Ls v0 v1 v2 vL hs _ _ _ _ Y' (DI hf') hr hi hk hK hlo (fun Y2 hf2=>hg Y2 (hf'.trans hf2)) (fun l g Y2 hf2=>hn l g Y2 (hf'.trans hf2)) R hR)
 rw[ay h1]at hR;by_cases h2:d=2
 ·subst h2
  rw[aE rfl]at hR;subst hR;subst hvB;have hnr:=Bh (x:=(cidx Bd (iR Bd z off back).1:Int)+1) (hi:=(Bd.length:Int) - 1) (by omega);exact Np P gB cB Bd.length _ goal _ _ _ _ (cidx Bd (iR Bd z off back).1) v1 v2 vL r Y ho hcn (fun Y' hf'=>wO Bd z F.rs _ gB cB Bd.length v1 v2 Y' rfl hBl (wR.fr hf' aj)) (fun Y' hf'=>Rq Bd gB cB Bd.length v1 v2 _ (near ((cidx Bd (iR Bd z off back).1:Int)+1) ((Bd.length:Int) - 1)).toNat Y' (by omega) hBl (wR.fr hf' aj) (by omega) (by omega)) (fun Y' hf'=>hp _ _ Y' hf')
 rw[ay h2]at hR;by_cases h3:d=3
 ·subst h3
  rw[aE rfl]at hR;subst hR;subst hvB;have hnr:=Bh (x:=(cidx Bd (iR Bd z off back).1:Int) - 1) (hi:=(Bd.length:Int) - 1) (by omega);exact Nq P gB cB Bd.length _ goal _ _ _ _ (cidx Bd (iR Bd z off back).1) v1 v2 vL r Y ho hcn (fun Y' hf'=>wO Bd z F.rs _ gB cB Bd.length v1 v2 Y' rfl hBl (wR.fr hf' aj)) (fun Y' hf'=>Rq Bd gB cB Bd.length v1 v2 _ (near ((cidx Bd (iR Bd z off back).1:Int) - 1) ((Bd.length:Int) - 1)).toNat Y' (by omega) hBl (wR.fr hf' aj) (by omega) (by omega)) (fun Y' hf'=>hp _ _ Y' hf')
 rw[ay h3]at hR;by_cases h4:d=4
 ·subst h4
  rw[aE rfl]at hR;subst hR;exact Nl P _ goal _ _ _ _ _ Y (fun Y' hf'=>Da B P Bd V X r Ls v0 v1 v2 vL hs _ _ _ _ Y' (DI hf') hi (fun Y2 hf2=>hg Y2 (hf'.trans hf2))) (fun Y' hf'=>hp _ _ Y' hf')
 rw[ay h4]at hR;by_cases h5:d=5
 ·subst h5
  rw[aE rfl]at hR;subst hR;exact Nn P _ goal _ _ _ _ _ Y (fun Y' hf'=>Da B P Bd V X r Ls v0 v1 v2 vL hs _ _ _ _ Y' (DI hf') hi (fun Y2 hf2=>hg Y2 (hf'.trans hf2))) (fun Y' hf'=>hp _ _ Y' hf')
 rw[ay h5]at hR;by_cases h6:d=6
 ·subst h6
  rw[aE rfl]at hR;exact Ni P _ goal _ _ _ Y (fun Y' hf'=>C_ B P Bd V X r Ls v0 v1 v2 vL hs _ (-1) goal _ _ _ Y' (DI hf') (by omega) hi hK (fun Y2 hf2=>hg Y2 (hf'.trans hf2)) (fun l Y2 hf2=>hh l Y2 (hf'.trans hf2)) R hR)
 rw[ay h6]at hR;by_cases h7:d=7
 ·subst h7
  rw[aE rfl]at hR;exact Nj P _ goal _ _ _ Y (fun Y' hf'=>C_ B P Bd V X r Ls v0 v1 v2 vL hs _ 1 goal _ _ _ Y' (DI hf') (by omega) hi hK (fun Y2 hf2=>hg Y2 (hf'.trans hf2)) (fun l Y2 hf2=>hh l Y2 (hf'.trans hf2)) R hR)
 rw[ay h7]at hR;subst hR;exact Nk P d _ goal _ Y (by omega)
def NV (Bd:List Int)(z:Int)(p:Int × Bool):Prop:=iR Bd z p.1 p.2=p
theorem rY {Bd:List Int}{z:Int}(h:jN Bd z)(off:Int)(back:Bool):NV Bd z (iR Bd z off back):=Av h off back
theorem De {Bd:List Int}{z:Int}(h:jN Bd z)(hz:0<=z):iR Bd z 0 false=(0,false):=by
 have e:min (max (0:Int) 0) z=0:=by omega
 obtain⟨k,hk⟩:=kO (0:Int) Bd h.sorted;have hc:Bd.contains 0=true:=by
  have:=h.head;rw[dU];exact eW this
 have hb:best Bd 0 Bd.length=0:=by
  rw[zC h hk (by omega)];have hkk:k=cidx Bd 0:=(mP hk).symm;unfold mY;rw[hc,hkk];exact(A_ h hc).2
 unfold iR;rw[e,hb];rfl
theorem G9 {Bd V:List Int}{z:Int}{Ls:List Ln}(F:vA Bd V z Ls)(hz:0<=z)(hK:0<Ls.length)(line gap:Int):NV Bd z (ko Bd V Ls line gap):=by
 obtain⟨i,hi,hiK⟩:=um (x:=line) (m:=Ls.length - 1);have hi':near line ((Ls.length:Int) - 1)=(i:Int):=by rw[<-hi];congr 1;omega
 have hiL:i<Ls.length:=by omega
 obtain⟨k,hk,hkK⟩:=um (x:=gap) (m:=(kF Ls i).o.length);have e:ko Bd V Ls line gap=ko Bd V Ls (i:Nat) (k:Nat):=by
  have n1:near (i:Int) ((Ls.length:Int) - 1)=(i:Int):=by unfold near;split <;> (try split) <;> omega
  have n2:near (k:Int) ((kF Ls i).o.length:Int)=(k:Int):=by unfold near;split <;> (try split) <;> omega
  unfold ko;rw[hi',n1];dsimp only[Int.toNat_natCast];rw[hk,n2]
 rw[e];by_cases h0:0<V.length
 ·exact(Ro F h0 hiL hkK).1
 ·have ho:(kF Ls i).o.length=0:=by
   rcases bO (kF Ls i).o.length with h | h
   ·exact h
   ·have:=(F.on i hiL (iP (kF Ls i).o 0) (G6 h)).1
    omega
  have n1:near (i:Int) ((Ls.length:Int) - 1)=(i:Int):=by unfold near;split <;> (try split) <;> omega
  have e2:ko Bd V Ls (i:Nat) (k:Nat)=(0,false):=by
   unfold ko;rw[n1];dsimp only[Int.toNat_natCast];rw[aE ho]
  rw[e2];exact De F.rs hz
theorem KT {Bd V:List Int}{z:Int}{Ls:List Ln}(F:vA Bd V z Ls)(hz:0<=z)(hK:0<Ls.length)(line x:Int):NV Bd z (vC Bd V Ls line x):=G9 F hz hK _ _
theorem Rx {Bd V:List Int}{z r:Int}{Ls:List Ln}(F:vA Bd V z Ls)(hz:0<=z)(hK:0<Ls.length)(d off goal:Int)(back:Bool):NV Bd z (Wu Bd V z r Ls d off goal back):=by
 have p:=rY F.rs off back;have n:=G9 F hz hK;have h:=KT F hz hK;have q:=fun o b=>rY F.rs o b
 unfold Wu;dsimp only
 repeat' split
 all_goals first | with_reducible exact p | with_reducible exact n _ _ | with_reducible exact h _ _ | with_reducible exact q _ _
structure Lyt (w0:World)(P:Nat)(Bd V:List Int)(z r:Int)(Ls:List Ln):Prop where
 ans:Wt w0 P (fun o b=>((oJ Bd V z Ls o b).1:Nat)) (fun o b=>((oJ Bd V z Ls o b).2:Nat)) (fun o b=>nth (kF Ls (oJ Bd V z Ls o b).1).x (oJ Bd V z Ls o b).2) (fun a o=>sQ Ls (G1 Bd z a o) Ls.length)
 mv:∀d off goal back Y,Fr [] w0 Y->Calls prog 95 #[.pointer (some ⟨P,0,none⟩),.int .i64 d,.agg #[.int .i64 off,.bool back],.int .i64 goal] Y fun e w'=>e=.returned (.tuple #[.agg #[.int .i64 (Wu Bd V z r Ls d off goal back).1,.bool (Wu Bd V z r Ls d off goal back).2],.bool (!(decide ((Wu Bd V z r Ls d off goal back).1=(iR Bd z off back).1/\(Wu Bd V z r Ls d off goal back).2=(iR Bd z off back).2)))])/\Fr [] Y w'
 hit:∀l x Y,Fr [] w0 Y->Calls prog 96 #[.pointer (some ⟨P,0,none⟩),.int .i64 l,.int .i64 x] Y fun e w'=>e=.returned (.agg #[.int .i64 (vC Bd V Ls l x).1,.bool (vC Bd V Ls l x).2])/\Fr [] Y w'
 pl:∀off back Y,Fr [] w0 Y->Calls prog 97 #[.pointer (some ⟨P,0,none⟩),.agg #[.int .i64 off,.bool back]] Y fun e w'=>e=.returned (.agg #[.int .i64 (iR Bd z off back).1,.bool (iR Bd z off back).2])/\Fr [] Y w'
theorem Lyt.of {B P:Nat}{w:World}{Bd V X:List Int}{r z:Int}{Ls:List Ln}{v0 v1 v2 vL:Value}{hs:List Value}(h:LP w B P Bd V X r Ls v0 v1 v2 vL hs)(F:vA Bd V z Ls)(hz:0<=z)(T:DG Bd V Ls)(hr:-1<=r/\r<=1)(hbd:Bd.length=V.length+1)(hv4:V.length<=400)(Dr:0<Ls.length)(hK:Ls.length<=400)(hll:∀l∈Ls,l.o.length<=1000/\l.x.length<=1001):Lyt w P Bd V z r Ls:=by
 have hfr:∀ {Y},Fr [] w Y->LP Y B P Bd V X r Ls v0 v1 v2 vL hs:=fun hf=>h.fr hf (fun _ h=>absurd h aj)
 have hlo:∀l∈Ls,l.o.length<=1000:=fun l hl=>(hll l hl).1
 refine⟨⟨fun o b Y hf=>uh B P Bd V X r z Ls v0 v1 v2 vL hs o b Y (hfr hf) F hz T hv4 hK hlo,fun o b Y hf=>?_,fun a o Y hf=>?_⟩,fun d off goal back Y hf=>?_,fun l x Y hf=>?_,fun off back Y hf=>?_⟩
 ·obtain⟨h1,h2⟩:=F.JH Dr o b
  have hx:=T.xl _ (ny h1);exact Q8 B P Bd V X r Ls v0 v1 v2 vL hs o b _ _ Y (hfr hf) h1 (by omega) hK (hll _ (ny h1)).2 (fun Y' hf'=>uh B P Bd V X r z Ls v0 v1 v2 vL hs o b Y' (hfr (hf.trans hf')) F hz T hv4 hK hlo)
 ·exact C4 B P Bd V X r z Ls v0 v1 v2 vL hs a o Y (hfr hf) F.rs hz (by omega) Dr hK (fun l hl=>⟨(hll l hl).1,T.xl l hl⟩)
 ·exact Nt B P Bd V X r z Ls v0 v1 v2 vL hs d off goal back Y (hfr hf) F hz T hr hv4 Dr hK hlo _ rfl
 ·exact G5 B P Bd V X r Ls v0 v1 v2 vL hs l x Y (hfr hf) T hbd hv4 Dr hK hlo
 ·exact qo B P Bd V X r z Ls v0 v1 v2 vL hs off back Y (hfr hf) F.rs hz (by omega)
def Left (P Z:Nat)(Bd:List Int)(z:Int)(Ls:List Ln)(w:World)(ao:Int)(ab:Bool)(e:Ending)(w':World):Prop :=
 ∃lR mg mV mX Ry goal' a1 a2 x1 b1 b2 c1 c2 v m,e=.returned (.agg (SL lR mg mV mX a1 a2 x1 b1 b2 c1 c2 v m))/\w'.ownsRow w.heap.size 251 5 v (sQ Ls (G1 Bd z lR mV) Ls.length).length (jH (sQ Ls (G1 Bd z lR mV) Ls.length))/\w'.heap[Z]?=some (.cells (kL P lR mg mV mX Ry goal') 134 (0,0))/\Fr [Z] w w' /\
  NV Bd z (mV,mX)/\((lR=ao/\mg=ab)\/(lR=mV/\mg=mX))
theorem YL {w0:World}{P:Nat}{Bd V:List Int}{z r:Int}{Ls:List Ln}(L:Lyt w0 P Bd V z r Ls)(F:vA Bd V z Ls)(hz:0<=z)(hK:0<Ls.length)(Z:Nat)(ao fo goal d a x:Int)(ab fb aim ext bk:Bool)(t:ByteArray)(w:World)(hw:Fr [] w0 w)(Ij:w0.heap.size<=Z)(hZ:w.heap[Z]?=some (.cells (kL P ao ab fo fb aim goal) 134 (0,0)))(hp:NV Bd z (fo,fb)) :
 Calls prog 27 #[.pointer (some ⟨Z,0,none⟩),Rp d ext a x bk t] w (Left P Z Bd z Ls w ao ab):=by
 by_cases h0:d<0\/9<d
 ·refine(UP L.ans Z ao fo goal d a x ab fb aim ext bk t w hw hZ h0).mono ?_
  rintro e w' ⟨v,h1,h2,h3,h4⟩;exact⟨ao,ab,fo,fb,aim,goal,_,_,_,_,_,_,_,v,_,h1,h2,h3,h4,hp,.inl ⟨rfl,rfl⟩⟩
 ·have hfin:∀(ta:Int) (tb:Bool),((if ext=true then ao else ta)=ao/\(if ext=true then ab else tb)=ab)\/((if ext=true then ao else ta)=ta/\(if ext=true then ab else tb)=tb):=fun ta tb=>by
   cases ext <;> simp
  by_cases h1:d=0\/d=1\/d=2\/d=3\/d=4\/d=5
  ·refine(UQ L.ans Z ao fo goal d a x _ ab fb aim ext bk _ _ t w hw Ij hZ h1 (fun Y hf=>L.mv d fo 0 fb Y hf)).mono ?_
   rintro e w' ⟨v,h1,h2,h3,h4⟩;exact⟨_,_,_,_,_,_,_,_,_,_,_,_,_,v,_,h1,h2,h3,h4,Rx F hz hK d fo 0 fb,hfin _ _⟩
  ·by_cases h2:d=6\/d=7
   ·obtain⟨ng,B5⟩:∃ng,ng=(if true && !aim then nth (kF Ls (oJ Bd V z Ls fo fb).1).x (oJ Bd V z Ls fo fb).2 else goal):=⟨_,rfl⟩
    refine(Ru L.ans Z ao fo goal d a x _ ab fb aim ext bk _ _ t w hw Ij hZ h2 (fun ng' Y hf e=>by rw[show ng'=ng from e.trans B5.symm];exact L.mv d fo ng fb Y hf)).mono ?_;rintro e w' ⟨v,h1,h2,h3,h4⟩;exact⟨_,_,_,_,_,_,_,_,_,_,_,_,_,v,_,h1,h2,h3,h4,Rx F hz hK d fo ng fb,hfin _ _⟩
   ·by_cases h3:d=8
    ·subst h3
     refine(Rv L.ans Z ao fo goal a x _ ab fb aim ext bk _ t w hw Ij hZ (fun Y hf=>L.hit a x Y hf)).mono ?_;rintro e w' ⟨v,h1,h2,h3,h4⟩;exact⟨_,_,_,_,_,_,_,_,_,_,_,_,_,v,_,h1,h2,h3,h4,KT F hz hK a x,hfin _ _⟩
    ·obtain rfl:d=9:=by omega
     refine(UR L.ans Z ao fo goal a x _ ab fb aim ext bk _ t w hw Ij hZ (fun Y hf=>L.pl a bk Y hf)).mono ?_;rintro e w' ⟨v,h1,h2,h3,h4⟩;exact⟨_,_,_,_,_,_,_,_,_,_,_,_,_,v,_,h1,h2,h3,h4,rY F.rs a bk,hfin _ _⟩
end Go.Proofs.YtnakejhohdbfdacGreatDoor
namespace Go.Proofs.YtnakejhohdbfdacGreatDoor.Cls.Dc
open Go.RowKit Dec BA pS Lay j9 Go.Proofs.Tryz
theorem KU {B:List Int}{z:Int}{Br:List Int}:∀k,(∀j,j<k->(if j=0 then 0 else nth Br (j - 1))<nth Br j/\nth Br j<z/\B.contains (nth Br j)=true)->Lay.nX B z Br k=true
 | 0,_=>rfl
 | k+1,h=>by
   obtain⟨h1,h2,h3⟩:=h k (bP _);rw[Lay.nX,KU k (fun j hj=>h j (by omega)),bQ h1,bQ h2,h3];rfl
theorem KV (s:ByteArray)(n:Nat)(ls:List Nat){k:Nat}(h:k<ls.length):nth (Wr.LW s n ls) k=((pos s (iP (jd s n) (iP ls k)):Nat):Int):=by simp[Wr.LW,nth,iP,h]
theorem YM {s:ByteArray}{n:Nat}(hend:Dec.Ends s n)(W:List Int)(R:Int):Lay.nX (bnd s n) (s.size:Nat) (Wr.Gd s n W R) (Wr.Gd s n W R).length=true:=by
 obtain⟨ls,hls⟩:∃ls,ls=Wr.brk (Wr.IP (Wr.blk s n) (Wr.cw s n W) R (cn s n)) (cn s n) 0:=⟨_,rfl⟩;have hw:Wr.Gd s n W R=Wr.LW s n ls:=by rw[hls];rfl
 have hl:(Wr.LW s n ls).length=ls.length:=by simp[Wr.LW]
 rw[hw,hl];have ho:∀f,f<cn s n->0<Wr.IP (Wr.blk s n) (Wr.cw s n W) R (cn s n) f/\f+Wr.IP (Wr.blk s n) (Wr.cw s n W) R (cn s n) f<=cn s n:=fun f hf=>Wr.O8 hf
 have hlt:∀a b,a<b->b<=cn s n->pos s (iP (jd s n) a)<pos s (iP (jd s n) b):=fun a b hab hb=>kR s _ _ (qN (lI s n) hab (by unfold cn at hb;have:=(jA s n).2.1;omega))
 have ab5:pos s (iP (jd s n) (cn s n))=s.size:=by
  have h:=lE s n;rw[<-hend.1];exact congrArg (pos s) h
 refine KU _ (fun j hj=>?_);have h:=(Wr.O_ ho (cn s n) 0 (by omega) (aN _) j (by rw[<-hls];omega)).1 (by rw[<-hls];exact hj);rw[<-hls]at h;obtain⟨h1,h2,h3⟩:=h;have h4:=(ho _ h1).1;have hpj:=KV s n ls hj;rw[hpj];refine⟨?_,?_,?_⟩
 ·cases j with
  | zero =>
    rw[aE rfl];have h5:=hlt 0 (iP ls 0) (by omega) (by omega);omega
  | succ i =>
    rw[ay (by omega),dx,KV s n ls (by omega)];have e:iP (0 :: ls) (i+1)=iP ls i:=rfl;rw[e]at h1 h2 h4;have h5:=hlt (iP ls i) (iP ls (i+1)) (by omega) (by omega);omega
 ·have h5:=hlt _ _ h3 (au _)
  rw[ab5]at h5;omega
 ·have h5:=Wr.xM hend (i:=iP ls j) (by omega)
  have h6:=Wr.mO hend;rw[dU,<-h5];simp[List.getD,show iP ls j<(bnd s n).length by omega]
theorem En {K:List Int}:∀k,(∀j,j<k->nth K j≠10)->Me K k=false
 | 0,_=>rfl
 | k+1,h=>by
   rw[Me,En k (fun j hj=>h j (by omega)),Bool.false_or];have:=h k (bP _);simpa using this
theorem UT {s:ByteArray}{n:Nat}(hend:Dec.Ends s n)(hs:s.size<=400){b:Int}(hb:b=0\/b=1\/b=2){na wi:Int}(hna:0<=na/\na<=1073741824)(hwi:0<=wi/\wi<=1073741824)(R:Int)(hB:∀k,k<n->jg.look jg.iY (rune s k)≠10) :
 Tm s n (zY s n) b (Aq s na wi n) (Wr.Gd s n (Aq s na wi n) R)=0:=by
 have h2:=Ah hend;rw[PI hend hs hb,ay,ay,ay]
 ·rw[En _ (fun j hj=>?_)]
  ·exact aG
  ·have:=hB j (by omega)
   simpa[zY,nth,show j<n by omega] using this
 ·rw[YM hend];exact fun h=>by cases h
 ·unfold okW
  rw[Fb,bQ rfl,Lay.Tn (fun i hi=>?_)]
  ·exact fun h=>by cases h
  ·have e:nth (Aq s na wi n) i=GX (rune s i) na wi:=by simp[nth,Aq,hi]
   rw[e];unfold GX;split
   ·exact⟨by decide,by decide⟩
   ·split
    ·exact hwi
    ·exact hna
structure Lyd (w0:World)(P:Nat)(Bd V:List Int)(z:Int)(Ls:List Ln):Prop where
 rs:jN Bd z
 gap:∀o b Y,Fr [] w0 Y->Calls prog 62 #[.pointer (some ⟨P,0,none⟩),.agg #[.int .i64 o,.bool b]] Y fun e w'=>e=.returned (.agg #[.int .i64 ((oJ Bd V z Ls o b).1:Nat),.int .i64 ((oJ Bd V z Ls o b).2:Nat)])/\Fr [] Y w'
 x:∀o b Y,Fr [] w0 Y->Calls prog 63 #[.pointer (some ⟨P,0,none⟩),.agg #[.int .i64 o,.bool b]] Y fun e w'=>e=.returned (.int .i64 (nth (kF Ls (oJ Bd V z Ls o b).1).x (oJ Bd V z Ls o b).2))/\Fr [] Y w'
 sel:∀a o Y,Fr [] w0 Y->Calls prog 64 #[.pointer (some ⟨P,0,none⟩),.int .i64 a,.int .i64 o] Y fun e w'=>∃v,e=.returned v/\w'.ownsRow Y.heap.size 251 5 v (sQ Ls (G1 Bd z a o) Ls.length).length (jH (sQ Ls (G1 Bd z a o) Ls.length))/\Fr [] Y w'
 pl:∀off back Y,Fr [] w0 Y->Calls prog 97 #[.pointer (some ⟨P,0,none⟩),.agg #[.int .i64 off,.bool back]] Y fun e w'=>e=.returned (.agg #[.int .i64 (iR Bd z off back).1,.bool (iR Bd z off back).2])/\Fr [] Y w'
structure Laid (w:World)(B P:Nat)(Bd V:List Int)(z:Int)(Ls:List Ln):Prop where
 lp:∃X r v0 v1 v2 vL hs,LP w B P Bd V X r Ls v0 v1 v2 vL hs/\-1<=r/\r<=1
 f:vA Bd V z Ls
 t:DG Bd V Ls
 z0:0<=z
 bd:Bd.length=V.length+1
 v4:V.length<=400
 k0:0<Ls.length
 k4:Ls.length<=400
 ll:∀l∈Ls,l.o.length<=1000/\l.x.length<=1001
theorem Laid.fr {S:List Nat}{w w':World}{B P:Nat}{Bd V:List Int}{z:Int}{Ls:List Ln}(h:Laid w B P Bd V z Ls)(hf:Fr S w w')(hS:∀k∈S,k<B):Laid w' B P Bd V z Ls:=by
 obtain⟨X,r,v0,v1,v2,vL,hs,l,hr⟩:=h.lp;exact⟨⟨X,r,v0,v1,v2,vL,hs,l.fr hf hS,hr⟩,h.f,h.t,h.z0,h.bd,h.v4,h.k0,h.k4,h.ll⟩
theorem Laid.lyd {w:World}{B P:Nat}{Bd V:List Int}{z:Int}{Ls:List Ln}(h:Laid w B P Bd V z Ls):Lyd w P Bd V z Ls:=by
 obtain⟨X,r,v0,v1,v2,vL,hs,l,_⟩:=h.lp;have hfr:∀ {Y},Fr [] w Y->LP Y B P Bd V X r Ls v0 v1 v2 vL hs:=fun hf=>l.fr hf (fun _ h=>absurd h aj)
 have hlo:∀l∈Ls,l.o.length<=1000:=fun l hl=>(h.ll l hl).1
 have hz:=h.z0;have hbd:=h.bd;have hv4:=h.v4;refine⟨h.f.rs,fun o b Y hf=>uh B P Bd V X r z Ls v0 v1 v2 vL hs o b Y (hfr hf) h.f hz h.t hv4 h.k4 hlo,fun o b Y hf=>?_,fun a o Y hf=>?_,fun off back Y hf=>?_⟩
 ·obtain⟨h1,h2⟩:=h.f.JH h.k0 o b
  have hx:=h.t.xl _ (ny h1);exact Q8 B P Bd V X r Ls v0 v1 v2 vL hs o b _ _ Y (hfr hf) h1 (by omega) h.k4 (h.ll _ (ny h1)).2 (fun Y' hf'=>uh B P Bd V X r z Ls v0 v1 v2 vL hs o b Y' (hfr (hf.trans hf')) h.f hz h.t hv4 h.k4 hlo)
 ·exact C4 B P Bd V X r z Ls v0 v1 v2 vL hs a o Y (hfr hf) h.f.rs hz (by omega) h.k0 h.k4 (fun l hl=>⟨(h.ll l hl).1,h.t.xl l hl⟩)
 ·exact qo B P Bd V X r z Ls v0 v1 v2 vL hs off back Y (hfr hf) h.f.rs hz (by omega)
theorem Laid.lyt {w:World}{B P:Nat}{Bd V:List Int}{z:Int}{Ls:List Ln}(h:Laid w B P Bd V z Ls):∃r,Lyt w P Bd V z r Ls:=by
 obtain⟨X,r,v0,v1,v2,vL,hs,l,hr⟩:=h.lp;exact⟨r,Lyt.of l h.f h.z0 h.t hr h.bd h.v4 h.k0 h.k4 h.ll⟩
def yj (w:World)(Z:Nat):World:={ w with heap:=w.heap.extract 0 Z }
theorem nN {w:World}{Z:Nat}(h:Z<=w.heap.size):(yj w Z).heap.size=Z:=by
 simp[yj];omega
theorem yt {w:World}{Z k:Nat}(h:k<Z):(yj w Z).heap[k]?=w.heap[k]?:=by
 simp only[yj,Array.getElem?_extract];by_cases h1:k<w.heap.size
 ·rw[aE (by omega),dL]
 ·rw[ay (by omega),Array.getElem?_eq_none (by omega)]
theorem KW {w:World}{Z:Nat}(h:Z<=w.heap.size):Fr [] (yj w Z) w :=
 ⟨rfl,rfl,rfl,by rw[nN h];exact h,fun k hk _=>by rw[nN h]at hk;exact(yt hk).symm⟩
theorem UU {S:List Nat}{w w':World}{Z:Nat}(hf:Fr S w w')(h:w.heap.size<=Z)(hZ:Z<=w'.heap.size):Fr S w (yj w' Z) :=
 ⟨hf.os,hf.tape,hf.output,by rw[nN hZ];exact h,fun k hk hn=>(yt (aM hk h)).trans (hf.block k hk hn)⟩
theorem Eo {S:List Nat}{w w':World}{Z:Nat}(hf:Fr S w w')(h:Z<=w.heap.size):Fr S (yj w Z) (yj w' Z) :=
 ⟨hf.os,hf.tape,hf.output,by rw[nN h,nN (aK h hf.size)];exact au _,fun k hk hn=>by
  rw[nN h]at hk
  rw[yt hk,yt hk]
  exact hf.block k (by omega) hn⟩
theorem UW {s:ByteArray}{n:Nat}(hend:Dec.Ends s n)(hs:s.size<=400){b:Int}(hb:b=0\/b=1\/b=2){na wi:Int}(hna:0<=na/\na<=1073741824)(hwi:0<=wi/\wi<=1073741824)(R:Int)(hB:∀k,k<n->jg.look jg.iY (rune s k)≠10) :
 ∃Bd V Ls,Bd=bnd s n/\∀(w:World) (vW vB:Value),Floor w->F8 w vW (Aq s na wi n)->zy w vB (Wr.Gd s n (Aq s na wi n) R)->Calls prog 66 #[.agg #[.string s,.int .i64 b,vW,vB]] w fun e w'=>∃P,e=.returned (.pointer (some ⟨P,0,none⟩))/\Laid w' w.heap.size P Bd V (s.size:Nat) Ls/\Fr [] w w':=by
 have hck:=UT hend hs hb hna hwi R hB;have hBl:(Wr.Gd s n (Aq s na wi n) R).length<=5000:=by
  have h1:=Wr.EQ (Wr.IP (Wr.blk s n) (Wr.cw s n (Aq s na wi n)) R (cn s n)) (cn s n) (cn s n) 0 (by omega);have h2:cn s n<=n:=by have:=(jA s n).1;unfold cn;omega
  have h3:=lV s n;have h4:=hend.1;show(List.map _ _).length<=_;rw[cP];omega
 obtain⟨Bd,V,X,r,bs,Cs,Ls,T,TT,F,_,_,hbd,hr⟩:=Rj s b _ _ n hend hBl hck;refine⟨Bd,V,Ls,hbd,fun w vW vB hF hW hBv=>?_⟩;refine(T.p w vW vB hF hW hBv).mono ?_;rintro e w' ⟨P,v0,v1,v2,vL,hs',rfl,hLP,hf⟩;exact⟨P,rfl,⟨⟨X,r,v0,v1,v2,vL,hs',hLP,hr⟩,F,TT,by omega,T.bd,T.vl,T.l0,T.l1,T.ll⟩,hf⟩
theorem Ep {l:List Int}{z:Int}(h:jN l z):0<l.length/\l.getD (l.length - 1) 0=z:=by
 refine⟨h.len,?_⟩;rw[List.getD,h.last];rfl
theorem Rz {l:List Int}{z:Int}(h:jN l z){i:Nat}(hi:i<l.length):0<=l.getD i 0/\l.getD i 0<=z:=by
 have h0:=h.Oq;obtain⟨hl,he⟩:=Ep h;constructor
 ·rcases bO i with h1 | h1
  ·rw[h1,h0];exact eD _
  ·have:=uH h.sorted h1 hi
   omega
 ·rcases aH (show i<=l.length - 1 by omega)with h1 | h1
  ·have:=uH h.sorted h1 (by omega)
   omega
  ·rw[h1,he];exact eD _
theorem KX {l:List Int}{z:Int}(h:jN l z)(hz:0<=z)(x:Int):∀k,k<=l.length->0<=best l x k/\best l x k<=z
 | 0,_=>⟨eD _,hz⟩
 | k+1,hk=>by
   rw[best];split
   ·exact Rz h hk
   ·exact KX h hz x k (by omega)
theorem G_ {Bd:List Int}{z:Int}(hr:jN Bd z)(hz:0<=z)(off:Int)(back:Bool):0<=(iR Bd z off back).1/\(iR Bd z off back).1<=z :=
 KX hr hz _ _ (au _)
theorem He {P:Program}{fn:Func}{p q:Tmp}{ty:TypeId}(h:fn.results=#[.cell p ty,.cell q ty])(tmps:Array Value)(w:World)(g g2:Nat)(t:TypeId)(cs ds:Array Value)(d:TypeDesc)
 (hp:tmps.getD p undef=.pointer (some ⟨g,0,none⟩)) (hq:tmps.getD q undef=.pointer (some ⟨g2,0,none⟩)) (hg:w.heap[g]?=some (.cells cs t (0,0))) (hg2:w.heap[g2]?=some (.cells ds t (0,0)))
 (hu:P.underlying ty=some d) (hd:(match d with | .struct _ | .array _ _=>true | _=>false)=true) (hi:(P.info? ty).map (·.size)=some cs.size) (hi2:(P.info? ty).map (·.size)=some ds.size) :
 (results fn tmps).run P w=.ok (.tuple #[.agg cs,.agg ds]) w:=by
 have hp':tmps[p]?.getD undef=.pointer (some ⟨g,0,none⟩):=by simpa using hp
 have hq':tmps[q]?.getD undef=.pointer (some ⟨g2,0,none⟩):=by simpa using hq
 simp[results,h,hp',hq',asAddr,run_loadVar_row w g t ty cs (0,0) d hg hu hd hi,run_loadVar_row w g2 t ty ds (0,0) d hg2 hu hd hi2]
theorem t_ (Z P:Nat)(ao fo goal:Int)(ab fb aim:Bool)(w:World)(hZ:w.heap[Z]?=some (.cells (kL P ao ab fo fb aim goal) 134 (0,0))) :
 Calls prog 92 #[.pointer (some ⟨Z,0,none⟩)] w fun e w'=>e=.returned (.tuple #[.agg #[.int .i64 ao,.bool ab],.agg #[.int .i64 fo,.bool fb]])/\Fr [] w w':=by
 obtain⟨wb,hwb⟩:∃wb,wb=(w.alloc (.cells #[.int .i64 0,.bool false] 26)).alloc (.cells #[.int .i64 0,.bool false] 26):=⟨_,rfl⟩;have j8:=hid (show Fr [] w wb by rw[hwb];exact((Fr.refl [] w).alloc _).alloc _);have HR1:=hid (show wb.heap[w.heap.size]?=some (.cells #[.int .i64 0,.bool false] 26 (0,0)) by rw[hwb];exact iJ (iL w _) ((Fr.refl [] _).alloc _) aj)
 have HR2:=hid (show wb.heap[w.heap.size+1]?=some (.cells #[.int .i64 0,.bool false] 26 (0,0)) by
  have h:=iL (w.alloc (.cells #[.int .i64 0,.bool false] 26)) (.cells #[.int .i64 0,.bool false] 26)
  rw[<-hwb]at h;simpa using h)
 have RA:=hid (iJ hZ j8.out aj);have Mp:=iO hZ;have z1:=iG RA.out (i:=1) (v:=.int .i64 ao) rfl;have z2:=iG RA.out (i:=2) (v:=.bool ab) rfl;have z3:=iG RA.out (i:=3) (v:=.int .i64 fo) rfl;have z4:=iG RA.out (i:=4) (v:=.bool fb) rfl;have r0:=iG HR1.out (i:=0) (v:=.int .i64 0) rfl;have r1:=iG HR1.out (i:=1) (v:=.bool false) rfl;have r2:=iG HR2.out (i:=0) (v:=.int .i64 0) rfl;have r3:=iG HR2.out (i:=1) (v:=.bool false) rfl;have f0:=iH HR1.out 0;have f1:=iH HR1.out 1;have f2:=iH HR2.out 0;have f3:=iH HR2.out 1;clear hZ;go_enter func92,ntmps92;go_wp2_with fail;rw[<-hwb];clear hwb;go_region;go_wp2;have hA:((((wb.setCell ⟨w.heap.size,0,none⟩ (.int .i64 ao)).setCell ⟨w.heap.size,1,none⟩ (.bool ab)).setCell ⟨w.heap.size+1,0,none⟩ (.int .i64 fo)).setCell ⟨w.heap.size+1,1,none⟩ (.bool fb)).heap[w.heap.size]?=some (.cells #[.int .i64 ao,.bool ab] 26 (0,0)) :=
  (fP _ _ _ _ (by show w.heap.size≠w.heap.size+1;omega)).trans ((fP _ _ _ _ (by show w.heap.size≠w.heap.size+1;omega)).trans (iI (iI HR1.out 0 _) 1 _))
 have hB:((((wb.setCell ⟨w.heap.size,0,none⟩ (.int .i64 ao)).setCell ⟨w.heap.size,1,none⟩ (.bool ab)).setCell ⟨w.heap.size+1,0,none⟩ (.int .i64 fo)).setCell ⟨w.heap.size+1,1,none⟩ (.bool fb)).heap[w.heap.size+1]?=some (.cells #[.int .i64 fo,.bool fb] 26 (0,0)) :=
  iI (iI (show((wb.setCell ⟨w.heap.size,0,none⟩ (.int .i64 ao)).setCell ⟨w.heap.size,1,none⟩ (.bool ab)).heap[w.heap.size+1]?=some (.cells #[.int .i64 0,.bool false] 26 (0,0))from(fP _ _ _ _ (by show w.heap.size+1≠w.heap.size;omega)).trans ((fP _ _ _ _ (by show w.heap.size+1≠w.heap.size;omega)).trans HR2.out)) 0 _) 1 _
 refine fE (He rfl _ _ w.heap.size (w.heap.size+1) 26 _ _ _ rfl rfl hA hB underlying26 rfl (by kernel_rfl) (by kernel_rfl)) rfl ?_;exact⟨rfl,(Fr.iK (Fr.iK (Fr.iK (Fr.iK j8.out (by omega)) (by omega)) (by omega)) (by omega)).drew⟩
abbrev zH (b na wi R:Int)(t:ByteArray)(vB:Value)(Z:Nat)(vU vR:Value):Array Value:=#[.int .i64 b,.int .i64 na,.int .i64 wi,.int .i64 R,.string t,vB,.pointer (some ⟨Z,0,none⟩),vU,vR]
theorem oH (D Z P:Nat)(b na wi R ao fo goal:Int)(t:ByteArray)(vB vU vR:Value)(ab fb aim:Bool)(w:World)(hD:w.heap[D]?=some (.cells (zH b na wi R t vB Z vU vR) 85 (0,0)))(hZ:w.heap[Z]?=some (.cells (kL P ao ab fo fb aim goal) 134 (0,0))) :
 Calls prog 93 #[.pointer (some ⟨D,0,none⟩)] w fun e w'=>e=.returned (.tuple #[.int .i64 (min ao fo),.int .i64 (max ao fo)])/\Fr [] w w':=by
 have Wv:=hid (t_ Z P ao fo goal ab fb aim w hZ);have d6:=iG hD (i:=6) (v:=.pointer (some ⟨Z,0,none⟩)) rfl;clear hD hZ;go_enter func93,ntmps93;go_wp2_with fail;refine Wv.out.mono ?_;rintro e w1 ⟨rfl,hf1⟩;have jc:=hid hf1;clear hf1 Wv d6;go_wp2_with fail;obtain⟨w2,hw2⟩:∃w2,w2=(w1.alloc (.cells #[.int .i64 ao,.bool ab] 26)).alloc (.cells #[.int .i64 fo,.bool fb] 26):=⟨_,rfl⟩;have i_:=hid (show Fr [] w w2 by rw[hw2];exact(jc.out.alloc _).alloc _);have HA:=hid (show w2.heap[w1.heap.size]?=some (.cells #[.int .i64 ao,.bool ab] 26 (0,0)) by rw[hw2];exact iJ (iL w1 _) ((Fr.refl [] _).alloc _) aj)
 have HB:=hid (show w2.heap[w1.heap.size+1]?=some (.cells #[.int .i64 fo,.bool fb] 26 (0,0)) by
  have h:=iL (w1.alloc (.cells #[.int .i64 ao,.bool ab] 26)) (.cells #[.int .i64 fo,.bool fb] 26)
  rw[<-hw2]at h;simpa using h)
 have a0:=iG HA.out (i:=0) (v:=.int .i64 ao) rfl;have b0:=iG HB.out (i:=0) (v:=.int .i64 fo) rfl;rw[<-hw2];clear hw2;go_quiet (fail);go_wp2;refine fE (results_tmp2 rfl _ _ _) rfl ?_;exact⟨rfl,i_.out.drewN _⟩
theorem yu (D Z P:Nat)(b na wi R ao fo goal:Int)(t:ByteArray)(vB vU vR:Value)(ab fb aim:Bool)(w:World)(hD:w.heap[D]?=some (.cells (zH b na wi R t vB Z vU vR) 85 (0,0)))(hZ:w.heap[Z]?=some (.cells (kL P ao ab fo fb aim goal) 134 (0,0))) :
 Calls prog 59 #[.pointer (some ⟨D,0,none⟩)] w fun e w'=>e=.returned (.agg #[.string t,.int .i64 ao,.bool ab,.int .i64 fo,.bool fb])/\Fr [] w w':=by
 obtain⟨wb,hwb⟩:∃wb,wb=w.alloc (.cells #[.string ⟨#[]⟩,.int .i64 0,.bool false,.int .i64 0,.bool false] 116):=⟨_,rfl⟩;have j8:=hid (show Fr [] w wb by rw[hwb];exact(Fr.refl [] w).alloc _);have yF:=hid (show wb.heap[w.heap.size]?=some (.cells #[.string ⟨#[]⟩,.int .i64 0,.bool false,.int .i64 0,.bool false] 116 (0,0)) by rw[hwb];exact iL w _);have uz:=hid (iJ hD j8.out aj);have Wv:=hid (t_ Z P ao fo goal ab fb aim wb (iJ hZ j8.out aj));have d6:(w.alloc (.cells #[.string ⟨#[]⟩,.int .i64 0,.bool false,.int .i64 0,.bool false] 116)).cell? ⟨D,6,none⟩=some (.pointer (some ⟨Z,0,none⟩)):=by rw[<-hwb];exact iG uz.out rfl
 clear hD hZ;go_enter func59,ntmps59;go_wp2_with fail;rw[<-hwb];clear hwb;refine Wv.out.mono ?_;rintro e w1 ⟨rfl,hf1⟩;have jc:=hid (j8.out.trans hf1);have HR1:=hid (iJ yF.out hf1 aj);have HD1:=hid (iJ uz.out hf1 aj);clear hf1 Wv d6;go_wp2_with fail;obtain⟨w2,hw2⟩:∃w2,w2=(w1.alloc (.cells #[.int .i64 ao,.bool ab] 26)).alloc (.cells #[.int .i64 fo,.bool fb] 26):=⟨_,rfl⟩;have HG2:=hid (show Fr [] w1 w2 by rw[hw2];exact((Fr.refl [] w1).alloc _).alloc _);have HA:=hid (show w2.heap[w1.heap.size]?=some (.cells #[.int .i64 ao,.bool ab] 26 (0,0)) by rw[hw2];exact iJ (iL w1 _) ((Fr.refl [] _).alloc _) aj)
 have HB:=hid (show w2.heap[w1.heap.size+1]?=some (.cells #[.int .i64 fo,.bool fb] 26 (0,0)) by
  have h:=iL (w1.alloc (.cells #[.int .i64 ao,.bool ab] 26)) (.cells #[.int .i64 fo,.bool fb] 26)
  rw[<-hw2]at h;simpa using h)
 have HR2:=hid (iJ HR1.out HG2.out aj);have HD2:=hid (iJ HD1.out HG2.out aj);have i_:=hid (jc.out.trans HG2.out);have a0:=iG HA.out (i:=0) (v:=.int .i64 ao) rfl;have a1:=iG HA.out (i:=1) (v:=.bool ab) rfl;have b0:=iG HB.out (i:=0) (v:=.int .i64 fo) rfl;have b1:=iG HB.out (i:=1) (v:=.bool fb) rfl;have d4:=iG HD2.out (i:=4) (v:=.string t) rfl;have r0:=iG HR2.out (i:=0) (v:=.string ⟨#[]⟩) rfl;have r1:=iG HR2.out (i:=1) (v:=.int .i64 0) rfl;have r2:=iG HR2.out (i:=2) (v:=.bool false) rfl;have r3:=iG HR2.out (i:=3) (v:=.int .i64 0) rfl;have r4:=iG HR2.out (i:=4) (v:=.bool false) rfl;have f0:=iH HR2.out 0;have f1:=iH HR2.out 1;have f2:=iH HR2.out 2;have f3:=iH HR2.out 3;have f4:=iH HR2.out 4;rw[<-hw2];clear hw2;go_region;go_wp2;refine fE (fH (t:=116) (fr:=(0,0)) rfl _ _ w.heap.size _ _ rfl (iI (iI (iI (iI (iI HR2.out 0 _) 1 _) 2 _) 3 _) 4 _) underlying116 rfl (by kernel_rfl)) rfl ?_;exact⟨by simp,(Fr.iK (Fr.iK (Fr.iK (Fr.iK (Fr.iK i_.out (by omega)) (by omega)) (by omega)) (by omega)) (by omega)).drew⟩
theorem JQ (P:Nat)(Bd V:List Int)(z:Int)(Ls:List Ln)(ao fo:Int)(ab fb:Bool)(w:World)(L:Lyd w P Bd V z Ls) :
 Calls prog 86 #[.pointer (some ⟨P,0,none⟩),.agg #[.int .i64 ao,.bool ab],.agg #[.int .i64 fo,.bool fb]] w fun e w'=>∃Z,e=.returned (.pointer (some ⟨Z,0,none⟩))/\w.heap.size<=Z/\w'.heap[Z]?=some (.cells (kL P (iR Bd z ao ab).1 (iR Bd z ao ab).2 (iR Bd z fo fb).1 (iR Bd z fo fb).2 false 0) 134 (0,0))/\Fr [] w w':=by
 obtain⟨wb,hwb⟩:∃wb,wb=(w.alloc (.cells #[.int .i64 ao,.bool ab] 26)).alloc (.cells #[.int .i64 fo,.bool fb] 26):=⟨_,rfl⟩;have j8:=hid (show Fr [] w wb by rw[hwb];exact((Fr.refl [] w).alloc _).alloc _);have HA:=hid (show wb.heap[w.heap.size]?=some (.cells #[.int .i64 ao,.bool ab] 26 (0,0)) by rw[hwb];exact iJ (iL w _) ((Fr.refl [] _).alloc _) aj)
 have HB:=hid (show wb.heap[w.heap.size+1]?=some (.cells #[.int .i64 fo,.bool fb] 26 (0,0)) by
  have h:=iL (w.alloc (.cells #[.int .i64 ao,.bool ab] 26)) (.cells #[.int .i64 fo,.bool fb] 26)
  rw[<-hwb]at h;simpa using h)
 have DQ:=hid (fun(Y:World) (hf:Fr [] w Y)=>L.pl ao ab Y hf);have HPB:=hid (fun(Y:World) (hf:Fr [] w Y)=>L.pl fo fb Y hf);generalize (iR Bd z ao ab).1=p1 at *;generalize (iR Bd z ao ab).2=p2 at *;generalize (iR Bd z fo fb).1=q1 at *;generalize (iR Bd z fo fb).2=q2 at *
 have HK:=hid (fun(wz:World) (hf:Fr [] wb wz)=>show wz.cell? ⟨w.heap.size,0,none⟩=some (.int .i64 ao)/\wz.cell? ⟨w.heap.size,1,none⟩=some (.bool ab)/\wz.cell? ⟨w.heap.size+1,0,none⟩=some (.int .i64 fo)/\wz.cell? ⟨w.heap.size+1,1,none⟩=some (.bool fb)from
  ⟨iG (iJ HA.out hf aj) rfl,iG (iJ HA.out hf aj) rfl,iG (iJ HB.out hf aj) rfl,iG (iJ HB.out hf aj) rfl⟩)
 obtain⟨a0,a1,b0,b1⟩:=HK.out wb (Fr.refl [] wb);clear L;go_enter func86,ntmps86;go_wp2_with fail;rw[<-hwb];clear hwb;go_region_held (fun wz=>wz.cell? ⟨w.heap.size,0,none⟩=some (.int .i64 ao)/\wz.cell? ⟨w.heap.size,1,none⟩=some (.bool ab)/\wz.cell? ⟨w.heap.size+1,0,none⟩=some (.int .i64 fo)/\wz.cell? ⟨w.heap.size+1,1,none⟩=some (.bool fb)) (first | with_reducible exact l9 | go_keep)
  (first
    | (go_at_call 97;have hq:=JG;clear hq;refine(HPB.out _ ?fa).mono ?_;(case fa=>exact j8.out.trans JG.out);rintro e w3 ⟨rfl,hf⟩;have Ri:=hid (show Fr [] wb w3 from JG.out.trans hf);have l9:=HK.out _ Ri.out;clear hf)
    | (go_at_call 97;refine(DQ.out _ ?fa).mono ?_;(case fa=>exact j8.out.drew);rintro e w2 ⟨rfl,hf⟩;have JG:=hid (show Fr [] wb w2 from Fr.trans (Fr.refl [] wb).drew hf);have l9:=HK.out _ JG.out;clear hf))
 have oI:=hid (show(w3.alloc (.cells (kL P p1 p2 q1 q2 false 0) 134)).heap[w3.heap.size]?=some (.cells (kL P p1 p2 q1 q2 false 0) 134 (0,0))from iL w3 _);have jI:=hid (show Fr [] w (w3.alloc (.cells (kL P p1 p2 q1 q2 false 0) 134))from(j8.out.trans Ri.out).alloc _);have hle:w.heap.size<=w3.heap.size:=(j8.out.trans Ri.out).size;go_wp2;go_ret;exact⟨_,rfl,hle,oI.out,jI.out⟩
def DJ (cs:Array Value):Nat->List Value->Array Value
 | _,[]=>cs
 | o,v :: r=>DJ (cs.setIfInBounds o v) (o+1) r
theorem pX:∀(vs:List Value) (o:Nat) (cs:Array Value),(DJ cs o vs).size=cs.size
 | [],_,_=>rfl
 | v :: r,o,cs=>by rw[DJ,pX r];simp
theorem Bj:∀(vs:List Value) (o:Nat) (cs:Array Value),o+vs.length<=cs.size->∀i,(DJ cs o vs)[i]?=if o<=i/\i<o+vs.length then vs[i - o]? else cs[i]?
 | [],o,cs,_,i=>by rw[DJ,ay (by simp)]
 | v :: r,o,cs,h,i=>by
   rw[bg]at h;rw[DJ,Bj r (o+1) _ (by simp;omega) i,bg];by_cases h1:o+1<=i/\i<o+1+r.length
   ·rw[aE h1,aE (by omega),show i - o=(i - (o+1))+1 by omega,List.getElem?_cons_succ]
   ·rw[ay h1]
    by_cases h2:i=o
    ·subst h2
     rw[aE (by omega),dm,Array.getElem?_setIfInBounds,aE rfl,aE (by omega)];rfl
    ·rw[ay (by omega),Array.getElem?_setIfInBounds,ay (by omega)]
theorem heap_put:∀(vs:List Value) (o:Nat) (w:World) (g:Nat) (cs:Array Value) (t:TypeId),w.heap[g]?=some (.cells cs t (0,0))->(w.setCells g o vs).heap[g]?=some (.cells (DJ cs o vs) t (0,0))
 | [],_,_,_,_,_,h=>h
 | v :: r,o,w,g,cs,t,h=>by
   rw[World.setCells,DJ];exact heap_put r (o+1) _ g _ t (iI h o v)
theorem Fi:∀(vs:List Value) (o:Nat) (w:World) (g:Nat),Fr [g] w (w.setCells g o vs)
 | [],_,w,_=>Fr.refl _ w
 | v :: r,o,w,g=>by
   rw[World.setCells];exact((Fr.refl [g] w).set (ak.2 rfl) v).trans (Fi r (o+1) _ g)
abbrev zM:List Value:=[.string ⟨#[]⟩,.int .i64 0,.bool false,.int .i64 0,.bool false]
theorem RB (b o c:Nat)(ty:TypeId)(w:World)(hc:∀j,j<5->(w.cell? ⟨b,o+j,none⟩).isSome=true)(hf:∀j,j<5->w.frozen? ⟨b,o+j,none⟩=false) :
 (Builtin.clear_ #[81] ty #[.slice (some ⟨b,o,none⟩) 1 c]).run prog w=.ok (.tuple #[]) (w.setCells b o zM):=by
 have hst:=run_storeCells_cells (P:=prog) b o zM 0 w (by simpa using hc) (by simpa using hf) (by
  intro v hv
  simp only[zM,bA,aj,fB]at hv
  rcases hv with rfl | rfl | rfl | rfl | rfl <;> rfl)
 simp only[dM]at hst;have hzc:(Builtin.zeroCells (Value.agg #[.string ⟨#[]⟩,.int .i64 0,.bool false,.int .i64 0,.bool false]).cells 1).toList=zM:=by kernel_rfl
 simp[Builtin.clear_,run_underlying underlying81,zeroValue116,hzc,hst]
theorem UX:(Tryz.prog.info? 116).map (fun i=>(i.zero,i.size,i.bytes))=some (some (.agg #[.string ⟨#[]⟩,.int .i64 0,.bool false,.int .i64 0,.bool false]),5,48):=by kernel_rfl
theorem oV:∃i,Tryz.prog.info? 116=some i/\i.zero=some (.agg #[.string ⟨#[]⟩,.int .i64 0,.bool false,.int .i64 0,.bool false])/\i.size=5/\i.bytes=48:=by
 have h:=UX;cases e:Tryz.prog.info? 116 with
 | none=>rw[e]at h;cases h
 | some i =>
   rw[e]at h;simp at h;exact⟨i,rfl,h.1,h.2.1,h.2.2⟩
theorem UY (a:Addr)(n c:Nat)(w:World)(hc:n<=c):Calls prog 98 #[.slice (some a) n c,.int .i64 0,.int .i64 0] w fun e w'=>e=.returned (.slice (some a) n c)/\w'=w:=by
 go_enter func98,ntmps98;go_wp2
 all_goals (
  go_ret
  exact⟨rfl,rfl⟩)
theorem UZ (g cap B:Nat)(xs:List Value)(w:World)(hown:w.ownsRow B 116 5 (.slice (some ⟨g,0,none⟩) 7 cap) 7 xs)(h1:∀u∈xs,u.oneCell'=true) :
 Calls prog 98 #[.slice (some ⟨g,0,none⟩) 7 cap,.int .i64 0,.int .i64 1] w fun e w'=>e=.returned (.slice (some ⟨g,0,none⟩) 6 cap)/\w'.ownsRow B 116 5 (.slice (some ⟨g,0,none⟩) 6 cap) 6 (xs.drop 5)/\Fr [g] w w':=by
 obtain⟨i0,hi,hz0,hz1,hz2⟩:=oV;obtain⟨cur,hB,hh,h7,hml,hsz,htk⟩:∃cur,B<=g/\w.heap[g]?=some (.cells cur 116 (0,0))/\7<=cap/\cap<=maxLen/\cur.size=cap * 5/\cur.toList.take (7 * 5)=xs:=by
  rcases hown.2 with⟨h,_⟩ | ⟨g',cap',cur,hv,q1,q2,q3,q4,q5,q6⟩
  ·cases h
  ·cases hv
   exact⟨cur,q1,q2,q3,q4,q5,q6⟩
 have hxl:=hown.1;obtain⟨news,hnews⟩:∃news,news=xs.drop 5:=⟨_,rfl⟩;have hnl:news.length=6 * 5:=by rw[hnews,cJ,hxl]
 have hcell:∀j,j<35->w.cell? ⟨g,j,none⟩=xs[j]?:=fun j hj=>by
  rw[<-htk,dA (by omega),dS];simp[World.cell?,hh]
 have hfz:∀j,w.frozen? ⟨g,j,none⟩=false:=fun j=>iH hh j
 obtain⟨W1,hW1⟩:∃W1,W1=(w.drew.setCells g 0 news):=⟨_,rfl⟩;have Ib:W1.heap[g]?=some (.cells (DJ cur 0 news) 116 (0,0)):=by rw[hW1];exact heap_put news 0 w.drew g cur 116 hh
 have hcl:=RB g 30 (cap - 6) 0 W1 (fun j hj=>by
  have hlt:30+j<(DJ cur 0 news).size:=by rw[pX,hsz];omega
  simp[World.cell?,Ib,hlt]) (fun j _=>iH Ib _)
 have HC:=hid (show ∀j u,news[j]?=some u->w.drew.cell? ((⟨g,5,none⟩:Addr).add j)=some u from fun j u hu=>by
  have hj:j<30:=by have:=(aY.1 hu).1;omega
  rw[Addr.add_lit]
  rw[hnews,dG]at hu
  exact(hcell (5+j) (by omega)).trans hu)
 have H1:=hid (show ∀u∈news,u.oneCell'=true from fun u hu=>h1 u (by rw[hnews]at hu;exact List.mem_of_mem_drop hu))
 have Fu:=hid (show ∀j,j<news.length->(w.drew.cell? ⟨g,0+0 * 5+j,none⟩).isSome=true/\w.drew.frozen? ⟨g,0+0 * 5+j,none⟩=false from fun j hj=>by
  refine⟨?_,hfz _⟩
  have h:=hcell (0+0 * 5+j) (by omega)
  show(w.cell? _).isSome=true
  rw[h,aA (by omega)]
  rfl)
 have Hf:=hid (show(W1.setCells g 30 zM).ownsRow B 116 5 (.slice (some ⟨g,0,none⟩) 6 cap) 6 news/\Fr [g] w (W1.setCells g 30 zM)from by
  refine⟨⟨hnl,.inr ⟨g,cap,_,rfl,hB,heap_put zM 30 W1 g _ 116 Ib,by omega,hml,by rw[pX,pX,hsz],?_⟩⟩,?_⟩
  ·apply eE
   intro i
   rw[d_]
   split
   ·rename_i hi'
    rw[dS,Bj _ _ _ (by rw[pX,hsz];simp;omega),ay (by omega),Bj _ _ _ (by rw[hsz];omega),aE (by omega),e_]
   ·rename_i hi'
    rw[bN (by omega)]
  ·rw[hW1]
   exact((Fr.refl [g] w).drew.trans (Fi news 0 _ g)).trans (Fi zM 30 _ g))
 have HW1:=hid hW1;have Fq:=hid hnews;have hc1:¬cap=1:=by omega
 have hc0:¬cap=0:=by omega
 have hc6:¬cap=6:=by omega
 have hcI:(1:Int)<=(cap:Int):=by omega
 have hcm:cap<=9223372036854775807:=by unfold maxLen at hml;omega
 clear hcell hfz hh Ib hown hW1 hnews htk hsz;go_enter func98,ntmps98;go_wp2_with fail;have hmx:Tryz.prog.follows .mixedOrders=true:=by kernel_rfl
 go_region_law_o (refine step_append_room rfl (.tmp 22) (.tmp 25) 81 rfl 116 i0 5 underlying81 hi hz1 g 0 0 cap (by simp[Act.eval,Act.put]) ⟨g,5,none⟩ 6 (cap - 1) news (by simp[Act.eval,Act.put]) hnl HC.out H1.out (by omega) Fu.out ?_;rw[show 0+0 * 5=0 from rfl,<-HW1.out]);go_wp2;go_ret;rw[Fq.out]at Hf;exact⟨rfl,Hf.out.1,Hf.out.2⟩
abbrev Df (t:ByteArray)(ao:Int)(ab:Bool)(fo:Int)(fb:Bool):List Value:=[.string t,.int .i64 ao,.bool ab,.int .i64 fo,.bool fb]
theorem Bk (t:ByteArray)(ao:Int)(ab:Bool)(fo:Int)(fb:Bool):∀u∈Df t ao ab fo fb,u.oneCell'=true:=by
 intro u hu;simp only[Df,bA,aj,fB]at hu
 rcases hu with rfl | rfl | rfl | rfl | rfl <;> rfl
def JR (n:Nat):Nat:=if n=6 then 6 else n+1
def Nu (n:Nat)(xs:List Value)(m:List Value):List Value:=if n=6 then(xs++m).drop 5 else xs++m
theorem ni {T:List Nat}{w w1 w2:World}{g:Nat}(h:Fr T w w1)(k:Fr [g] w1 w2)(hg:g∈T\/w.heap.size<=g):Fr T w w2 :=
 ⟨k.os.trans h.os,k.tape.trans h.tape,k.output.trans h.output,aK h.size k.size,fun x hx hs=>(k.block x (aM hx h.size) (fun hm=>by
  have:=ak.1 hm
  subst this
  rcases hg with hg | hg
  ·exact hs hg
  ·omega)).trans (h.block x hx hs)⟩
theorem nA {w:World}{B:Nat}{e:TypeId}{size n D i:Nat}{v u:Value}{xs:List Value}(h:w.ownsRow B e size v n xs)(hne:v.ownBlock≠some D):(w.setCell ⟨D,i,none⟩ u).ownsRow B e size v n xs :=
 Wr.jU h (fun g hg=>fP _ _ _ _ (fun e=>hne (by rw[hg,e])))
theorem JS (D Z B n:Nat)(b na wi R ao fo:Int)(t mt:ByteArray)(vB vU vR:Value)(ab fb:Bool)(xs:List Value)(w:World)(hD:w.heap[D]?=some (.cells (zH b na wi R t vB Z vU vR) 85 (0,0)))(hU:w.ownsRow B 116 5 vU n xs)(hn:n<=6)(h1:∀u∈xs,u.oneCell'=true)(hB:B<=w.heap.size) :
 Calls prog 58 #[.pointer (some ⟨D,7,none⟩),.agg #[.string mt,.int .i64 ao,.bool ab,.int .i64 fo,.bool fb]] w fun e w'=>e=.returned (.tuple #[])/\∃RC,w'.heap[D]?=some (.cells (zH b na wi R t vB Z RC (.slice none 0 0)) 85 (0,0))/\w'.ownsRow B 116 5 RC (JR n) (Nu n xs (Df mt ao ab fo fb))/\(RC.ownBlock=vU.ownBlock\/∃g,RC.ownBlock=some g/\w.heap.size<=g)/\Fr (D :: vU.ownBlock.toList) w w':=by
 obtain⟨i0,hi,hz0,hz1,hz2⟩:=oV;obtain⟨wb,hwb⟩:∃wb,wb=w.alloc (.cells #[.string mt,.int .i64 ao,.bool ab,.int .i64 fo,.bool fb] 116):=⟨_,rfl⟩;have j8:=hid (show Fr [] w wb by rw[hwb];exact(Fr.refl [] w).alloc _);have hsb:wb.heap.size=w.heap.size+1:=by rw[hwb,fD]
 have nD:=hid (show wb.heap[w.heap.size]?=some (.cells #[.string mt,.int .i64 ao,.bool ab,.int .i64 fo,.bool fb] 116 (0,0)) by rw[hwb];exact iL w _);have uz:=hid (iJ hD j8.out aj);have hDl:=iO hD;have d7:=iG uz.out (i:=7) (v:=vU) rfl;have m0:=iG nD.out (i:=0) (v:=.string mt) rfl;have m1:=iG nD.out (i:=1) (v:=.int .i64 ao) rfl;have m2:=iG nD.out (i:=2) (v:=.bool ab) rfl;have m3:=iG nD.out (i:=3) (v:=.int .i64 fo) rfl;have m4:=iG nD.out (i:=4) (v:=.bool fb) rfl;have Ww:=hid (iM hU j8.out);have HU:=hid hU;have H1:=hid h1;have SM:D<wb.heap.size:=by omega
 have hw0:w.heap.size<wb.heap.size:=by omega
 have Gt:=hid hsb;clear hD hU h1 hsb;go_enter func58,ntmps58;go_wp2_with fail;rw[<-hwb];clear hwb;go_region_law (refine oD rfl (.tmp 8) (.tmp 10) 81 rfl B 116 i0 _ 5 48 underlying81 hi hz0 hz1 hz2 rfl (by decide) vU n xs ?q1 ?q2 ⟨wb.heap.size,0,none⟩ 1 1 (Df mt ao ab fo fb) ?q3 rfl ?q4 (Bk _ _ _ _ _) (by unfold maxLen;omega) (by omega) ?q5 ?_;(case q1=>simp[Act.eval]);(case q2=>exact iM Ww.out (((Fr.refl [] wb).drew).alloc _));(case q3=>simp[Act.eval]);(case q4=>exact kM _ _ _ _ (by simp));(case q5=>simp;have:=Gt.out;omega);intro v' w1 hown hgrow hor;have KE:=hid hown;have vI:=hid hgrow;have Cz:=hid hor;clear hown hgrow hor)
 all_goals (
  have Fq:=hid (own_ne Ww.out uz.out (fun c f h=>by cases h))
  have HD1:=hid (show w1.heap[D]?=some (.cells (zH b na wi R t vB Z vU vR) 85 (0,0))from(vI.out.block D (by simp;omega) Fq.out).trans ((gC _ _ _ SM).trans uz.out))
  have jc:=hid (show Fr vU.ownBlock.toList w w1 from Fr.Ja (show Fr vU.ownBlock.toList w (wb.alloc (.cells #[.string mt,.int .i64 ao,.bool ab,.int .i64 fo,.bool fb] 116)).drew from((j8.out.mono (fun k hk=>absurd hk aj)).alloc _).drew) ⟨vI.out.os,vI.out.tape,vI.out.output,vI.out.size,vI.out.block⟩ (fun k hk=>.inl (by rw[hk];exact ak.2 rfl)))
  have wY:=hid (show v'.ownBlock=vU.ownBlock\/∃g,v'.ownBlock=some g/\w.heap.size<=g from Cz.out.imp id (fun h=>⟨_,h,by simp;omega⟩))
  obtain⟨g',c',hv'⟩:=jl (by omega) KE.out
  subst hv'
  have hnc:=Wr.jo KE.out
  have hcap:n+1<=c':=by
   obtain⟨a,c,e,h⟩:=hnc
   cases e
   exact h
  have YN:g'≠D:=fun e=>own_ne KE.out HD1.out (fun c f h=>by cases h) (by rw[e];rfl)
  have HXO:=hid (show ∀u∈xs++Df mt ao ab fo fb,u.oneCell'=true from fun u hu=>by
   rcases a_.1 hu with h | h
   ·exact H1.out u h
   ·exact Bk _ _ _ _ _ u h)
  clear d7 m0 m1 m2 m3 m4 hnc
  by_cases h6:n=6
  ·subst h6
   have Wx:=hid (UZ g' c' B _ w1 KE.out HXO.out)
   go_wp2_with fail
   refine Wx.out.mono ?_
   rintro e w2 ⟨rfl,jR,hf2⟩
   have HD2:=hid (iJ HD1.out hf2 (fun h=>YN (ak.1 h).symm))
   have jO:=hid jR
   have i_:=hid hf2
   have e7:=iG HD2.out (i:=7) (v:=vU) rfl
   have e8:=iG HD2.out (i:=8) (v:=vR) rfl
   have f7:=iH HD2.out 7
   have f8:=iH HD2.out 8
   clear jR hf2 Wx
   have DB:=hid (show Fr (D :: vU.ownBlock.toList) w w2 from ni (jc.out.mono (fun k hk _=>dH _ hk)) i_.out (by
    rcases wY.out with h | ⟨g,h,hl⟩
    ·exact .inl (dH _ (by rw[<-h];exact ak.2 rfl))
    ·cases h
     exact .inr hl))
   go_wp2
   go_end0
   exact⟨rfl,_,iI (iI HD2.out 7 _) 8 _,nA (nA jO.out (fun e=>YN (aZ e))) (fun e=>YN (aZ e)),wY.out,(DB.out.set bX _).set bX _⟩
  ·have hm1:max ((n:Int)+1 - 6) 0=0:=by omega
   have Wx:=hid (UY ⟨g',0,none⟩ (n+1) c' w1 hcap)
   have e7:=iG HD1.out (i:=7) (v:=vU) rfl
   have e8:=iG HD1.out (i:=8) (v:=vR) rfl
   have f7:=iH HD1.out 7
   have f8:=iH HD1.out 8
   go_wp2_with fail
   refine Wx.out.mono ?_
   rintro e w2 ⟨rfl,rfl⟩
   have HRL:=hid (show JR n=n+1/\Nu n xs (Df mt ao ab fo fb)=xs++Df mt ao ab fo fb by unfold JR Nu;rw[ay h6,ay h6];exact⟨rfl,rfl⟩)
   go_wp2
   go_end0
   refine⟨rfl,_,iI (iI HD1.out 7 _) 8 _,?_,wY.out,((jc.out.mono (fun k hk _=>dH _ hk)).set bX _).set bX _⟩
   rw[HRL.out.1,HRL.out.2]
   exact nA (nA KE.out (fun e=>YN (aZ e))) (fun e=>YN (aZ e)))
theorem Hg (g cap B k:Nat)(xs:List Value)(w:World)(hk:k<=6)(hown:w.ownsRow B 116 5 (.slice (some ⟨g,0,none⟩) (k+1) cap) (k+1) xs) :
 Calls prog 98 #[.slice (some ⟨g,0,none⟩) (k+1) cap,.int .i64 k,.int .i64 ((k:Int)+1)] w fun e w'=>e=.returned (.slice (some ⟨g,0,none⟩) k cap)/\w'.ownsRow B 116 5 (.slice (some ⟨g,0,none⟩) k cap) k (xs.take (k * 5))/\Fr [g] w w':=by
 obtain⟨i0,hi,hz0,hz1,hz2⟩:=oV;obtain⟨cur,hB,hh,h7,hml,hsz,htk⟩:∃cur,B<=g/\w.heap[g]?=some (.cells cur 116 (0,0))/\k+1<=cap/\cap<=maxLen/\cur.size=cap * 5/\cur.toList.take ((k+1) * 5)=xs:=by
  rcases hown.2 with⟨h,_⟩ | ⟨g',cap',cur,hv,q1,q2,q3,q4,q5,q6⟩
  ·cases h
  ·cases hv
   exact⟨cur,q1,q2,q3,q4,q5,q6⟩
 have hxl:=hown.1;have hfz:∀j,w.frozen? ⟨g,j,none⟩=false:=fun j=>iH hh j
 obtain⟨W1,hW1⟩:∃W1,W1=w.drew:=⟨_,rfl⟩;have Ib:W1.heap[g]?=some (.cells cur 116 (0,0)):=by rw[hW1];exact hh
 have hcl:=RB g (k * 5) (cap - k) 0 W1 (fun j hj=>by
  have hlt:k * 5+j<cur.size:=by rw[hsz];omega
  simp[World.cell?,Ib,hlt]) (fun j _=>iH Ib _)
 have Hf:=hid (show(W1.setCells g (k * 5) zM).ownsRow B 116 5 (.slice (some ⟨g,0,none⟩) k cap) k (xs.take (k * 5))/\Fr [g] w (W1.setCells g (k * 5) zM)from by
  refine⟨⟨by rw[bH,hxl];omega,.inr ⟨g,cap,_,rfl,hB,heap_put zM (k * 5) W1 g _ 116 Ib,by omega,hml,by rw[pX,hsz],?_⟩⟩,?_⟩
  ·rw[<-htk,fq,show min (k * 5) ((k+1) * 5)=k * 5 by omega]
   apply eE
   intro i
   rw[d_,d_]
   split
   ·rename_i hi'
    rw[dS,dS,Bj _ _ _ (by rw[hsz];simp;omega),ay (by omega)]
   ·rfl
  ·rw[hW1]
   exact((Fr.refl [g] w).drew.trans (Fi zM (k * 5) _ g)))
 have HW1:=hid hW1;have wX:(k:Int)<(k:Int)+1:=by omega
 have hne:¬(k:Int)=(k:Int)+1:=by omega
 have hneb:((k:Int) == (k:Int)+1)=false:=by simp;omega
 have hcI:(k:Int)+1<=(cap:Int):=by omega
 have hcm:cap<=9223372036854775807:=by unfold maxLen at hml;omega
 have hkc:¬cap=k:=by omega
 have hkl:k<=cap:=by omega
 have hk0:0<=(k:Int)+1:=by omega
 have aj4:(k:Int)<=(cap:Int):=by omega
 clear hfz hh Ib hown hW1 htk hsz hxl;go_enter func98,ntmps98;go_wp2_with fail;have hmx:Tryz.prog.follows .mixedOrders=true:=by kernel_rfl
 have Fu:=hid (show ∀j,j<([]:List Value).length->(w.drew.cell? ⟨g,0+k * 5+j,none⟩).isSome=true/\w.drew.frozen? ⟨g,0+k * 5+j,none⟩=false from fun j hj=>absurd hj (cu _));by_cases hck:cap=k+1
 ·subst hck
  rw[show k+1 - k=1 by omega]at hcl;have hk1:(k:Int)<=(k:Int)+1:=by omega
  have hk2:k<=k+1:=by omega
  go_region_law_o (refine step_append_room rfl (.tmp 22) (.tmp 25) 81 rfl 116 i0 5 underlying81 hi hz1 g 0 k (k+1) (by simp[Act.eval,Act.put]) ⟨g,0,none⟩ 0 0 [] (by simp[Act.eval,Act.put]) rfl (fun j u hu=>by cases hu) (fun u hu=>by cases hu) (by omega) Fu.out ?_;rw[show w.drew.setCells g (0+k * 5) []=w.drew from rfl,<-HW1.out]);go_wp2;go_ret;exact⟨rfl,Hf.out.1,Hf.out.2⟩
 ·go_region_law_o (refine step_append_room rfl (.tmp 22) (.tmp 25) 81 rfl 116 i0 5 underlying81 hi hz1 g 0 k cap (by simp[Act.eval,Act.put]) ⟨g,(k+1) * 5,none⟩ 0 (cap - (k+1)) [] (by simp[Act.eval,Act.put]) rfl (fun j u hu=>by cases hu) (fun u hu=>by cases hu) (by omega) Fu.out ?_;rw[show w.drew.setCells g (0+k * 5) []=w.drew from rfl,<-HW1.out])
  go_wp2;go_ret;exact⟨rfl,Hf.out.1,Hf.out.2⟩
end Go.Proofs.YtnakejhohdbfdacGreatDoor.Cls.Dc

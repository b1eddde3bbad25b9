import Derived.Test.YtnakejhohdbfdaaGreatDoorVbs
import Derived.Test.YtnakejhohdbfdaaGreatDoorVbt
import Derived.Test.YtnakejhohdbfdaaGreatDoorVbr
set_option maxHeartbeats 4000000
set_option maxRecDepth 10000
namespace Go.Proofs.YtnakejhohdbfdaaGreatDoor
open Go.RowKit jN Lay uS Go.Proofs.Tryz
theorem SX (B P:Nat)(Bd V X:List Int)(r:Int)(Ls:List Ln)(v0 v1 v2 vL:Value)(hs:List Value)(off:Int)(back:Bool)(w:World)(h:LP w B P Bd V X r Ls v0 v1 v2 vL hs)(hV:V.length=0) :
 Calls prog 59 #[.pointer (some ⟨P,0,none⟩),.agg #[.int .i64 off,.bool back]] w fun e w'=>e=.returned (.agg #[.int .i64 0,.int .i64 0])/\Fr [] w w':=by
 obtain⟨a,c,hv,_⟩:=h.v;rw[hV]at hv;subst hv;have p1:=fN h.o (i:=1) (v:=.slice a 0 c) rfl;have rW:P<w.heap.size:=eS _ _ p1;obtain⟨w2,hw2⟩:∃w2,w2=(w.alloc (.cells #[.int .i64 off,.bool back] 55)).alloc (.cells #[.int .i64 0,.int .i64 0] 58):=⟨_,rfl⟩;have f_:=hid (show Fr [] w w2 by rw[hw2];exact((Fr.refl _ _).alloc _).alloc _)
 have HR2:=hid (show w2.heap[w.heap.size+1]?=some (.cells #[.int .i64 0,.int .i64 0] 58 (0,0)) by
  have hs:(w.alloc (.cells #[.int .i64 off,.bool back] 55)).heap.size=w.heap.size+1:=by simp
  have h0:=fU (w.alloc (.cells #[.int .i64 off,.bool back] 55)) (.cells #[.int .i64 0,.int .i64 0] 58)
  rw[hs]at h0
  rw[hw2];exact h0)
 have HW2:=hid hw2;clear h hV hw2;go_enter func59,ntmps59;go_wp2;rw[<-HW2.out];refine eU (eW (t:=58) (fr:=(0,0)) rfl _ _ (w.heap.size+1) _ _ rfl HR2.out underlying58 rfl (by kernel_rfl)) rfl ?_;exact⟨rfl,f_.out⟩
theorem SY (WB:World)(U lb:Nat)(s:ByteArray)(bs:Int)(vC vM:Value)(Cs:List (Int × Int × Int × Int))(Ls:List Ln)(hm:List Value)(n:Nat)(off:Int)(back:Bool)(w:World)(h:LD WB w U lb s bs vC vM Cs Ls hm)(hs:s.size<=1000000)(hT:Floor w)(hend:gJ.Ends s n)(yu:0<Ls.length)(hK:Ls.length<=400)(hz:∀i,i<Ls.length->(ji Ls i).o.length=0) :
 Calls prog 20 #[.pointer (some ⟨lb,0,none⟩),.agg #[.int .i64 off,.bool back]] w fun e w'=>e=.returned (.agg #[.int .i64 0,.int .i64 0])/\Fr [] w w':=by
 have zN:=hid (fun(Y:World) (hf:Fr [] w Y)=>xA WB U lb s bs vC vM Cs Ls hm n off back Y (h.iS hf) hs (hT.fr hf) hend);have sZ:=hid (fun(i:Nat) (hi:i<Ls.length)=>h.Du i _ (mL hi));have Ir:=hid h.qa;have HZ:=hid hz;obtain⟨gL,cL,qw⟩:=fR (by omega) h.qa;subst qw;have Is:=hid h.obj;have rW:=h_ h.obj;obtain⟨o,bk,hp⟩:∃o bk,fY (bnd s n) (s.size:Nat) off back=(o,bk):=⟨_,_,rfl⟩;rw[hp]at zN;generalize Ls.length=K at *;obtain⟨w2,hw2⟩:∃w2,w2=(w.alloc (.cells #[.int .i64 off,.bool back] 55)).alloc (.cells #[.int .i64 0,.int .i64 0] 58):=⟨_,rfl⟩;have f_:=hid (show Fr [] w w2 by rw[hw2];exact((Fr.refl _ _).alloc _).alloc _);have iG:=hid (show w2.heap[w.heap.size]?=some (.cells #[.int .i64 off,.bool back] 55 (0,0)) by rw[hw2];exact fO (fU w _) ((Fr.refl [] _).alloc _) af)
 have HR2:=hid (show w2.heap[w.heap.size+1]?=some (.cells #[.int .i64 0,.int .i64 0] 58 (0,0)) by
  have hs:(w.alloc (.cells #[.int .i64 off,.bool back] 55)).heap.size=w.heap.size+1:=by simp
  have h0:=fU (w.alloc (.cells #[.int .i64 off,.bool back] 55)) (.cells #[.int .i64 0,.int .i64 0] 58)
  rw[hs]at h0
  rw[hw2];exact h0)
 clear h hT hend hp hz hs;go_enter func20,ntmps20;have HW2:=hid hw2;clear hw2;go_wp2_with fail;rw[<-HW2.out];refine(zN.out _ f_.out).mono ?_;rintro e w3 ⟨rfl,hf3⟩;have k9:=hid (fO iG.out hf3 af);have HR3:=hid (fO HR2.out hf3 af);have iO:=hid (f_.out.trans hf3);have z0:=fN k9.out (i:=0) (v:=.int .i64 off) rfl;have z1:=fN k9.out (i:=1) (v:=.bool back) rfl;have f0:=fT k9.out 0;have f1:=fT k9.out 1;clear hf3;go_wp2_with fail;obtain⟨w4,hw4⟩:∃w4,w4=(w3.setCell ⟨w.heap.size,0,none⟩ (.int .i64 o)).setCell ⟨w.heap.size,1,none⟩ (.bool bk):=⟨_,rfl⟩;have HR4:=hid (show w4.heap[w.heap.size+1]?=some (.cells #[.int .i64 0,.int .i64 0] 58 (0,0)) by rw[hw4];exact fO HR3.out (show Fr [w.heap.size] w3 _ by(repeat(first | refine Fr.set ?_ (aj.2 rfl) _ | refine Fr.drewN ?_ _ | refine Fr.drew ?_ | with_reducible exact Fr.refl _ _ | refine Fr.alloc ?_ _))) (by simp));have gP:=hid (show Fr [] w w4 by rw[hw4];exact Fr.fQ (Fr.fQ iO.out (by omega)) (by omega));rw[<-hw4];clear hw4 z0 z1 f0 f1;go_loopw [5] (fun vi wr=>∃i:Nat,vi=.int .i64 i/\i<=K/\wr=w4) (fun vi _=>K - (intOf vi).toNat)
 case atStart=>exact⟨0,rfl,aH _,rfl⟩
 case round =>
  obtain⟨i,rfl,hiK,hwr⟩:=hrel;obtain rfl:w4=wr:=hwr.symm;have m3:=fN (fO Is.out gP.out af) (i:=3) (v:=.slice (some ⟨gL,0,none⟩) K cL) rfl;by_cases hlt:i<K
  ·have ac4:(i:Int)<(K:Int):=by omega
   obtain⟨vO,vX,_,_,a3,_,a5,_⟩:=sZ.out i hlt;rw[HZ.out i hlt]at a5;obtain⟨aO,cO,Dd⟩:=gA a5;subst Dd;have c3:=gP.out.cell (show w.cell? ⟨gL,i * 4+2,none⟩=some (.slice aO 0 cO) by rw[Ir.out.cellAt _ (by omega)];exact a3) af;clear a3 a5;go_wp2_with fail;go_loopw [6] (fun vk wr2=>vk=.int .i64 0/\wr2=w4) (fun _ _=>0)
   case atStart=>exact⟨rfl,rfl⟩
   case round =>
    obtain⟨rfl,hwr2⟩:=hrel;obtain rfl:w4=wr:=hwr2.symm;go_wp2;go_roundw
    case rel=>exact⟨i+1,by go_num,by omega,trivial⟩
    case measure=>simp[intOf];omega
  ·have ac4:¬(i:Int)<(K:Int):=by omega
   have r0:=fN HR4.out (i:=0) (v:=.int .i64 0) rfl;have r1:=fN HR4.out (i:=1) (v:=.int .i64 0) rfl;have g0:=fT HR4.out 0;have g1:=fT HR4.out 1;go_wp2;refine eU (eW (t:=58) (fr:=(0,0)) rfl _ _ (w.heap.size+1) _ _ rfl (fP (fP HR4.out 0 _) 1 _) underlying58 rfl (by kernel_rfl)) rfl ?_;exact⟨rfl,Fr.fQ (Fr.fQ gP.out (by omega)) (by omega)⟩
theorem SZ (B P:Nat)(Bd V X:List Int)(r z:Int)(Ls:List Ln)(v0 v1 v2 vL:Value)(hs:List Value)(off:Int)(back:Bool)(w:World)(h:LP w B P Bd V X r Ls v0 v1 v2 vL hs)(F:vK Bd V z Ls)(hz:0<=z)(T:xy Bd V Ls)(hv4:V.length<=400)(hK:Ls.length<=400)(hlo:∀l∈Ls,l.o.length<=1000) :
 Calls prog 59 #[.pointer (some ⟨P,0,none⟩),.agg #[.int .i64 off,.bool back]] w fun e w'=>e=.returned (.agg #[.int .i64 ((mY Bd V z Ls off back).1:Nat),.int .i64 ((mY Bd V z Ls off back).2:Nat)])/\Fr [] w w':=by
 by_cases hV:V.length=0
 ·rw[show mY Bd V z Ls off back=(0,0) by unfold mY;rw[ay hV]]
  exact SX B P Bd V X r Ls v0 v1 v2 vL hs off back w h hV
 ·obtain⟨c,i,k,hc,e1,e2,hi,hk⟩:=F.gap (by omega) off back
  rw[Bg (by omega) e1 hi hk];exact SV B P Bd V X r z Ls v0 v1 v2 vL hs off _ back _ c i k w h F.rs hz T F.bd hv4 hK hlo rfl hc e1 hi hk
theorem S4 (WB:World)(U lb:Nat)(s:ByteArray)(bs:Int)(vC vM:Value)(Bd V X:List Int)(Ls:List Ln)(hm:List Value)(n:Nat)(off:Int)(back:Bool)(w:World)(h:LD WB w U lb s bs vC vM (NF Bd V X V.length) Ls hm)(hs:s.size<=1000000)(hT:Floor w)(hend:gJ.Ends s n)(hB:Bd=bnd s n)(F:vK Bd V (s.size:Nat) Ls)(T:xy Bd V Ls)(hv4:V.length<=400)(yu:0<Ls.length)(hK:Ls.length<=400)(hlo:∀l∈Ls,l.o.length<=1000) :
 Calls prog 20 #[.pointer (some ⟨lb,0,none⟩),.agg #[.int .i64 off,.bool back]] w fun e w'=>e=.returned (.agg #[.int .i64 ((mY Bd V (s.size:Nat) Ls off back).1:Nat),.int .i64 ((mY Bd V (s.size:Nat) Ls off back).2:Nat)])/\Fr [] w w':=by
 by_cases hV:V.length=0
 ·rw[show mY Bd V (s.size:Nat) Ls off back=(0,0) by unfold mY;rw[ay hV]]
  refine SY WB U lb s bs vC vM _ Ls hm n off back w h hs hT hend yu hK (fun i hi=>?_)
  rcases aS (ji Ls i).o.length with h0 | h0
  ·exact h0
  ·have:=T.ob _ (kE hi) _ (kK h0);omega
 ·obtain⟨c,i,k,hc,e1,e2,hi,hk⟩:=F.gap (by omega) off back
  rw[Bg (by omega) e1 hi hk];have hbd:=F.bd;have hkc:=hk.yes;have hg:=SW WB U lb s bs vC vM Bd V X Ls hm n off _ back _ i k w h hs hT hend T hv4 hK hlo (by rw[<-hB]) hi.lt hk.lt (by rw[hkc];exact e2) (fun i' k' hi' hk' hor he=>?_)
  ·rw[hkc]at hg;exact hg
  ·have hm':fX (ji Ls i').o k'∈(ji Ls i').o:=Ie hk'
   obtain⟨hcv,hH⟩:=F.on i' hi' _ hm';have hcc:fX (ji Ls i').o k'=c:=by
    rw[<-e2]at he;by_cases hb:(fY Bd (s.size:Nat) off back).2=true
    ·rw[ay hb,ay hb]at he
     have:=lR F.rs (by omega) (by omega) he;omega
    ·rw[au hb,au hb]at he
     exact lR F.rs (by omega) (by omega) he
   rw[hcc]at hH;obtain rfl:i'=i:=by rw[<-zM hH,zM hi]
   rcases hor with h1 | h1
   ·omega
   ·exact hk.no k' h1.2 hcc
def Ob (Bd V:List Int)(z r:Int)(Ls:List Ln)(d off goal:Int)(back:Bool):Int × Bool :=
 let p:=fY Bd z off back
 let g:=mY Bd V z Ls off back
 if d=0 then(if 0<g.2 then iM Bd V Ls (g.1:Nat) ((g.2:Int) - 1)else if 0<=(g.1:Int) - r/\(g.1:Int) - r<(Ls.length:Int)then iM Bd V Ls ((g.1:Int) - r) ((ji Ls ((g.1:Int) - r).toNat).o.length:Nat)else p)
 else if d=1 then(if g.2<(ji Ls g.1).o.length then iM Bd V Ls (g.1:Nat) ((g.2:Int)+1)else if 0<=(g.1:Int)+r/\(g.1:Int)+r<(Ls.length:Int)then iM Bd V Ls ((g.1:Int)+r) 0 else p)
 else if d=2 then fY Bd z (nth Bd (near ((cidx Bd p.1:Int)+1) ((Bd.length:Int) - 1)).toNat) true
 else if d=3 then fY Bd z (nth Bd (near ((cidx Bd p.1:Int) - 1) ((Bd.length:Int) - 1)).toNat) false
 else if d=4 then fY Bd z (ji Ls g.1).f false
 else if d=5 then fY Bd z (ji Ls g.1).t true
 else if d=6 then(if 0<=(g.1:Int)+-1/\(g.1:Int)+-1<(Ls.length:Int)then qE Bd V Ls ((g.1:Int)+-1) goal else p)
 else if d=7 then(if 0<=(g.1:Int)+1/\(g.1:Int)+1<(Ls.length:Int)then qE Bd V Ls ((g.1:Int)+1) goal else p)
 else p
theorem vK.S5 {Bd V:List Int}{z:Int}{Ls:List Ln}(F:vK Bd V z Ls)(yu:0<Ls.length)(off:Int)(back:Bool):(mY Bd V z Ls off back).1<Ls.length/\(mY Bd V z Ls off back).2<=(ji Ls (mY Bd V z Ls off back).1).o.length:=by
 by_cases hV:V.length=0
 ·have h1:mY Bd V z Ls off back=(0,0):=by unfold mY;rw[ay hV]
  rw[h1];exact⟨yu,aH _⟩
 ·obtain⟨c,i,k,_,e1,_,hi,hk⟩:=F.gap (by omega) off back
  rw[Bg (by omega) e1 hi hk];refine⟨hi.1,?_⟩;have:=hk.1;dsimp only;split <;> omega
theorem Oc (B P:Nat)(Bd V X:List Int)(r z:Int)(Ls:List Ln)(v0 v1 v2 vL:Value)(hs:List Value)(d off goal:Int)(back:Bool)(w:World)(h:LP w B P Bd V X r Ls v0 v1 v2 vL hs)(F:vK Bd V z Ls)(hz:0<=z)(T:xy Bd V Ls)(hr:-1<=r/\r<=1)(hv4:V.length<=400)(yu:0<Ls.length)(hK:Ls.length<=400)(hlo:∀l∈Ls,l.o.length<=1000)(R:Int × Bool)(hR:R=Ob Bd V z r Ls d off goal back) :
 Calls prog 65 #[.pointer (some ⟨P,0,none⟩),.int .i64 d,.agg #[.int .i64 off,.bool back],.int .i64 goal] w fun e w'=>e=.returned (.tuple #[.agg #[.int .i64 R.1,.bool R.2],.bool (!(decide (R.1=(fY Bd z off back).1/\R.2=(fY Bd z off back).2)))])/\Fr [] w w':=by
 have hbd:=F.bd;have hBl:Bd.length<=1000:=by omega
 have hfr:∀ {Y},Fr [] w Y->LP Y B P Bd V X r Ls v0 v1 v2 vL hs:=fun hf=>h.fr hf (fun _ h=>absurd h af)
 refine Kh P d off goal (fY Bd z off back).1 R.1 back (fY Bd z off back).2 R.2 _ w rfl (fun Y hf=>xz B P Bd V X r z Ls v0 v1 v2 vL hs off back Y (hfr hf) F.rs hz hBl) (fun Y hf=>?_);have hY:=hfr hf;have D2:∀ {Y'},Fr [] Y Y'->LP Y' B P Bd V X r Ls v0 v1 v2 vL hs:=fun hf=>hY.fr hf (fun _ h=>absurd h af)
 obtain⟨hi,hk⟩:=F.S5 yu off back;have tK:=EX (V:=V) (Ls:=Ls) F.rs off back;have hg:∀Y',Fr [] Y Y'->Calls prog 59 #[.pointer (some ⟨P,0,none⟩),.agg #[.int .i64 (fY Bd z off back).1,.bool (fY Bd z off back).2]] Y' fun e w'=>e=.returned (.agg #[.int .i64 ((mY Bd V z Ls off back).1:Nat),.int .i64 ((mY Bd V z Ls off back).2:Nat)])/\Fr [] Y' w':=fun Y' hf'=>by
  have h1:=SZ B P Bd V X r z Ls v0 v1 v2 vL hs (fY Bd z off back).1 (fY Bd z off back).2 Y' (D2 hf') F hz T hv4 hK hlo;rw[tK]at h1;exact h1
 have hp:∀o b Y',Fr [] Y Y'->Calls prog 57 #[.pointer (some ⟨P,0,none⟩),.agg #[.int .i64 o,.bool b]] Y' fun e w'=>e=.returned (.agg #[.int .i64 (fY Bd z o b).1,.bool (fY Bd z o b).2])/\Fr [] Y' w':=fun o b Y' hf'=>xz B P Bd V X r z Ls v0 v1 v2 vL hs o b Y' (D2 hf') F.rs hz hBl
 have hn:∀line gap Y',Fr [] Y Y'->Calls prog 61 #[.pointer (some ⟨P,0,none⟩),.agg #[.int .i64 line,.int .i64 gap]] Y' fun e w'=>e=.returned (.agg #[.int .i64 (iM Bd V Ls line gap).1,.bool (iM Bd V Ls line gap).2])/\Fr [] Y' w':=fun line gap Y' hf'=>ET B P Bd V X r Ls v0 v1 v2 vL hs line gap Y' (D2 hf') T hbd hv4 yu hK hlo
 have hh:∀line Y',Fr [] Y Y'->Calls prog 63 #[.pointer (some ⟨P,0,none⟩),.int .i64 line,.int .i64 goal] Y' fun e w'=>e=.returned (.agg #[.int .i64 (qE Bd V Ls line goal).1,.bool (qE Bd V Ls line goal).2])/\Fr [] Y' w':=fun line Y' hf'=>SE B P Bd V X r Ls v0 v1 v2 vL hs line goal Y' (D2 hf') T hbd hv4 yu hK hlo
 have hcn:cidx Bd (fY Bd z off back).1<=1000:=by
  obtain⟨c,hc,e1,_⟩:=Ds F.rs off back;rw[e1,vG F.rs hc];omega
 obtain⟨gB,cB,hvB,_,wV⟩:=hY.b.row (by omega);have ho:=hY.o;unfold Ob at hR;dsimp only at hR;by_cases h0:d=0
 ·subst h0
  rw[ay rfl]at hR;exact NY P _ goal _ _ _ Y (fun Y' hf'=>Ij B P Bd V X r Ls v0 v1 v2 vL hs _ _ _ _ Y' (D2 hf') hr hi hk hK hlo (fun Y2 hf2=>hg Y2 (hf'.trans hf2)) (fun l g Y2 hf2=>hn l g Y2 (hf'.trans hf2)) R hR)
 rw[au h0]at hR;by_cases h1:d=1
 ·subst h1
  rw[ay rfl]at hR;exact NZ P _ goal _ _ _ Y (fun Y' hf'=>NW B P Bd V X r Ls v0 v1 v2 vL hs _ _ _ _ Y' (D2 hf') hr hi hk hK hlo (fun Y2 hf2=>hg Y2 (hf'.trans hf2)) (fun l g Y2 hf2=>hn l g Y2 (hf'.trans hf2)) R hR)
 rw[au h1]at hR;by_cases h2:d=2
 ·subst h2
  rw[ay rfl]at hR;subst hR;subst hvB;have hnr:=Be (x:=(cidx Bd (fY Bd z off back).1:Int)+1) (hi:=(Bd.length:Int) - 1) (by omega);exact N6 P gB cB Bd.length _ goal _ _ _ _ (cidx Bd (fY Bd z off back).1) v1 v2 vL r Y ho hcn (fun Y' hf'=>Cx Bd z F.rs _ gB cB Bd.length v1 v2 Y' rfl hBl (wV.fr hf' af)) (fun Y' hf'=>SP Bd gB cB Bd.length v1 v2 _ (near ((cidx Bd (fY Bd z off back).1:Int)+1) ((Bd.length:Int) - 1)).toNat Y' (by omega) hBl (wV.fr hf' af) (by omega) (by omega)) (fun Y' hf'=>hp _ _ Y' hf')
 rw[au h2]at hR;by_cases h3:d=3
 ·subst h3
  rw[ay rfl]at hR;subst hR;subst hvB;have hnr:=Be (x:=(cidx Bd (fY Bd z off back).1:Int) - 1) (hi:=(Bd.length:Int) - 1) (by omega);exact N7 P gB cB Bd.length _ goal _ _ _ _ (cidx Bd (fY Bd z off back).1) v1 v2 vL r Y ho hcn (fun Y' hf'=>Cx Bd z F.rs _ gB cB Bd.length v1 v2 Y' rfl hBl (wV.fr hf' af)) (fun Y' hf'=>SP Bd gB cB Bd.length v1 v2 _ (near ((cidx Bd (fY Bd z off back).1:Int) - 1) ((Bd.length:Int) - 1)).toNat Y' (by omega) hBl (wV.fr hf' af) (by omega) (by omega)) (fun Y' hf'=>hp _ _ Y' hf')
 rw[au h3]at hR;by_cases h4:d=4
 ·subst h4
  rw[ay rfl]at hR;subst hR;exact N4 P _ goal _ _ _ _ _ Y (fun Y' hf'=>Dp B P Bd V X r Ls v0 v1 v2 vL hs _ _ _ _ Y' (D2 hf') hi (fun Y2 hf2=>hg Y2 (hf'.trans hf2))) (fun Y' hf'=>hp _ _ Y' hf')
 rw[au h4]at hR;by_cases h5:d=5
 ·subst h5
  rw[ay rfl]at hR;subst hR;exact N5 P _ goal _ _ _ _ _ Y (fun Y' hf'=>Dp B P Bd V X r Ls v0 v1 v2 vL hs _ _ _ _ Y' (D2 hf') hi (fun Y2 hf2=>hg Y2 (hf'.trans hf2))) (fun Y' hf'=>hp _ _ Y' hf')
 rw[au h5]at hR;by_cases h6:d=6
 ·subst h6
  rw[ay rfl]at hR;exact N0 P _ goal _ _ _ Y (fun Y' hf'=>Dn B P Bd V X r Ls v0 v1 v2 vL hs _ (-1) goal _ _ _ Y' (D2 hf') (by omega) hi hK (fun Y2 hf2=>hg Y2 (hf'.trans hf2)) (fun l Y2 hf2=>hh l Y2 (hf'.trans hf2)) R hR)
 rw[au h6]at hR;by_cases h7:d=7
 ·subst h7
  rw[ay rfl]at hR;exact N1 P _ goal _ _ _ Y (fun Y' hf'=>Dn B P Bd V X r Ls v0 v1 v2 vL hs _ 1 goal _ _ _ Y' (D2 hf') (by omega) hi hK (fun Y2 hf2=>hg Y2 (hf'.trans hf2)) (fun l Y2 hf2=>hh l Y2 (hf'.trans hf2)) R hR)
 rw[au h7]at hR;subst hR;exact N3 P d _ goal _ Y (by omega)
end Go.Proofs.YtnakejhohdbfdaaGreatDoor

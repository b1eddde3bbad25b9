import Derived.Test.YtnakejhohdbfdaaGreatDoorVbm
import Derived.Laws.ResultCell
set_option maxHeartbeats 4000000
set_option maxRecDepth 10000
namespace Go.Proofs.YtnakejhohdbfdaaGreatDoor
open Go.RowKit jN Lay uS Go.Proofs.Tryz
theorem NY (P:Nat)(off goal ra:Int)(back rb:Bool)(w:World)(h:oP 170 P off back (.agg #[.int .i64 ra,.bool rb]) w) :
 Calls prog 110 #[.pointer (some ⟨P,0,none⟩),.int .i64 0,.agg #[.int .i64 off,.bool back],.int .i64 goal] w fun e w'=>e=.returned (.agg #[.int .i64 ra,.bool rb])/\Fr [] w w':=by
 obtain⟨w2,hw2,f_,iG,HR2⟩:=jW w off back;have HC:=hid h;clear h;go_enter func110,ntmps110;have HW2:=hid hw2;clear hw2;go_wp2_with (first | (go_at_call 170;rw[<-HW2.out];refine(HC.out _ f_.out).mono ?_;rintro e w6 ⟨rfl,jo⟩;have jv:=hid jo;clear jo;have jd:=hid (fO HR2.out jv.out af);have r0:=fN jd.out (i:=0) (v:=.int .i64 0) rfl;have r1:=fN jd.out (i:=1) (v:=.bool false) rfl;have k0:=fT jd.out 0;have k1:=fT jd.out 1));refine eU (eW (t:=55) (fr:=(0,0)) rfl _ _ (w.heap.size+1) _ _ rfl (fP (fP jd.out 0 _) 1 _) underlying55 rfl (by kernel_rfl)) rfl ?_;exact⟨rfl,Fr.fQ (Fr.fQ (f_.out.trans jv.out) (by omega)) (by omega)⟩
theorem NZ (P:Nat)(off goal ra:Int)(back rb:Bool)(w:World)(h:oP 171 P off back (.agg #[.int .i64 ra,.bool rb]) w) :
 Calls prog 110 #[.pointer (some ⟨P,0,none⟩),.int .i64 1,.agg #[.int .i64 off,.bool back],.int .i64 goal] w fun e w'=>e=.returned (.agg #[.int .i64 ra,.bool rb])/\Fr [] w w':=by
 obtain⟨w2,hw2,f_,iG,HR2⟩:=jW w off back;have HC:=hid h;clear h;go_enter func110,ntmps110;have HW2:=hid hw2;clear hw2;go_wp2_with (first | (go_at_call 171;rw[<-HW2.out];refine(HC.out _ f_.out).mono ?_;rintro e w6 ⟨rfl,jo⟩;have jv:=hid jo;clear jo;have jd:=hid (fO HR2.out jv.out af);have r0:=fN jd.out (i:=0) (v:=.int .i64 0) rfl;have r1:=fN jd.out (i:=1) (v:=.bool false) rfl;have k0:=fT jd.out 0;have k1:=fT jd.out 1));refine eU (eW (t:=55) (fr:=(0,0)) rfl _ _ (w.heap.size+1) _ _ rfl (fP (fP jd.out 0 _) 1 _) underlying55 rfl (by kernel_rfl)) rfl ?_;exact⟨rfl,Fr.fQ (Fr.fQ (f_.out.trans jv.out) (by omega)) (by omega)⟩
theorem N0 (P:Nat)(off goal ra:Int)(back rb:Bool)(w:World)(h:FZ 174 #[.pointer (some ⟨P,0,none⟩),.agg #[.int .i64 off,.bool back],.int .i64 (-1),.int .i64 goal] (.agg #[.int .i64 ra,.bool rb]) w) :
 Calls prog 110 #[.pointer (some ⟨P,0,none⟩),.int .i64 6,.agg #[.int .i64 off,.bool back],.int .i64 goal] w fun e w'=>e=.returned (.agg #[.int .i64 ra,.bool rb])/\Fr [] w w':=by
 obtain⟨w2,hw2,f_,iG,HR2⟩:=jW w off back;have HC:=hid h;clear h;go_enter func110,ntmps110;have HW2:=hid hw2;clear hw2;go_wp2_with (first | (go_at_call 174;rw[<-HW2.out];refine(HC.out _ f_.out).mono ?_;rintro e w6 ⟨rfl,jo⟩;have jv:=hid jo;clear jo;have jd:=hid (fO HR2.out jv.out af);have r0:=fN jd.out (i:=0) (v:=.int .i64 0) rfl;have r1:=fN jd.out (i:=1) (v:=.bool false) rfl;have k0:=fT jd.out 0;have k1:=fT jd.out 1));refine eU (eW (t:=55) (fr:=(0,0)) rfl _ _ (w.heap.size+1) _ _ rfl (fP (fP jd.out 0 _) 1 _) underlying55 rfl (by kernel_rfl)) rfl ?_;exact⟨rfl,Fr.fQ (Fr.fQ (f_.out.trans jv.out) (by omega)) (by omega)⟩
theorem N1 (P:Nat)(off goal ra:Int)(back rb:Bool)(w:World)(h:FZ 174 #[.pointer (some ⟨P,0,none⟩),.agg #[.int .i64 off,.bool back],.int .i64 1,.int .i64 goal] (.agg #[.int .i64 ra,.bool rb]) w) :
 Calls prog 110 #[.pointer (some ⟨P,0,none⟩),.int .i64 7,.agg #[.int .i64 off,.bool back],.int .i64 goal] w fun e w'=>e=.returned (.agg #[.int .i64 ra,.bool rb])/\Fr [] w w':=by
 obtain⟨w2,hw2,f_,iG,HR2⟩:=jW w off back;have HC:=hid h;clear h;go_enter func110,ntmps110;have HW2:=hid hw2;clear hw2;go_wp2_with (first | (go_at_call 174;rw[<-HW2.out];refine(HC.out _ f_.out).mono ?_;rintro e w6 ⟨rfl,jo⟩;have jv:=hid jo;clear jo;have jd:=hid (fO HR2.out jv.out af);have r0:=fN jd.out (i:=0) (v:=.int .i64 0) rfl;have r1:=fN jd.out (i:=1) (v:=.bool false) rfl;have k0:=fT jd.out 0;have k1:=fT jd.out 1));refine eU (eW (t:=55) (fr:=(0,0)) rfl _ _ (w.heap.size+1) _ _ rfl (fP (fP jd.out 0 _) 1 _) underlying55 rfl (by kernel_rfl)) rfl ?_;exact⟨rfl,Fr.fQ (Fr.fQ (f_.out.trans jv.out) (by omega)) (by omega)⟩
theorem N3 (P:Nat)(d off goal:Int)(back:Bool)(w:World)(h:d<0\/7<d) :
 Calls prog 110 #[.pointer (some ⟨P,0,none⟩),.int .i64 d,.agg #[.int .i64 off,.bool back],.int .i64 goal] w fun e w'=>e=.returned (.agg #[.int .i64 off,.bool back])/\Fr [] w w':=by
 obtain⟨w2,hw2,f_,iG,HR2⟩:=jW w off back;have n0:(d == 0)=false:=by simp;omega
 have n1:(d == 1)=false:=by simp;omega
 have n2:(d == 2)=false:=by simp;omega
 have n3:(d == 3)=false:=by simp;omega
 have n4:(d == 4)=false:=by simp;omega
 have n5:(d == 5)=false:=by simp;omega
 have n6:(d == 6)=false:=by simp;omega
 have n7:(d == 7)=false:=by simp;omega
 clear h;go_enter func110,ntmps110;have HW2:=hid hw2;clear hw2;go_wp2_with fail;have HE:((w.alloc (.cells #[.int .i64 off,.bool back] 55)).alloc (.cells #[.int .i64 off,.bool back] 55)).heap[w.heap.size+1]?=some (.cells #[.int .i64 off,.bool back] 55 (0,0)):=by
  have hs:(w.alloc (.cells #[.int .i64 off,.bool back] 55)).heap.size=w.heap.size+1:=by simp
  have h0:=fU (w.alloc (.cells #[.int .i64 off,.bool back] 55)) (.cells #[.int .i64 off,.bool back] 55);rw[hs]at h0;exact h0
 refine eU (eW (t:=55) (fr:=(0,0)) rfl _ _ (w.heap.size+1) _ _ rfl HE underlying55 rfl (by kernel_rfl)) rfl ?_;exact⟨rfl,by(repeat(first | refine Fr.fQ ?_ (by omega) | refine Fr.drewN ?_ _ | refine Fr.drew ?_ | with_reducible exact Fr.refl _ _ | refine Fr.alloc ?_ _))⟩
theorem N4 (P:Nat)(off goal x y ra:Int)(back rb:Bool)(w:World)(hl:∀Y,Fr [] w Y->Calls prog 173 #[.pointer (some ⟨P,0,none⟩),.agg #[.int .i64 off,.bool back]] Y fun e w'=>∃vO vX,e=.returned (.agg #[.int .i64 x,.int .i64 y,vO,vX])/\Fr [] Y w')
 (hp:oP 57 P x false (.agg #[.int .i64 ra,.bool rb]) w) :
 Calls prog 110 #[.pointer (some ⟨P,0,none⟩),.int .i64 4,.agg #[.int .i64 off,.bool back],.int .i64 goal] w fun e w'=>e=.returned (.agg #[.int .i64 ra,.bool rb])/\Fr [] w w':=by
 obtain⟨w2,hw2,f_,iG,HR2⟩:=jW w off back;have HL:=hid hl;have HP:=hid hp;clear hl hp;go_enter func110,ntmps110;have HW2:=hid hw2;clear hw2;go_wp2_with (first | (go_at_call 173;rw[<-HW2.out];refine(HL.out _ f_.out).mono ?_;rintro e w3 ⟨vO,vX,rfl,hf3⟩;have tA:=hid hf3;have Rr:=VZ x y vO vX;clear hf3) | (go_at_call 57;refine(HP.out _ (f_.out.trans tA.out)).mono ?_;rintro e w6 ⟨rfl,jo⟩;have jv:=hid (tA.out.trans jo);clear jo;have jd:=hid (fO HR2.out jv.out af);have r0:=fN jd.out (i:=0) (v:=.int .i64 0) rfl;have r1:=fN jd.out (i:=1) (v:=.bool false) rfl;have k0:=fT jd.out 0;have k1:=fT jd.out 1));refine eU (eW (t:=55) (fr:=(0,0)) rfl _ _ (w.heap.size+1) _ _ rfl (fP (fP jd.out 0 _) 1 _) underlying55 rfl (by kernel_rfl)) rfl ?_;exact⟨rfl,Fr.fQ (Fr.fQ (f_.out.trans jv.out) (by omega)) (by omega)⟩
theorem N5 (P:Nat)(off goal x y ra:Int)(back rb:Bool)(w:World)(hl:∀Y,Fr [] w Y->Calls prog 173 #[.pointer (some ⟨P,0,none⟩),.agg #[.int .i64 off,.bool back]] Y fun e w'=>∃vO vX,e=.returned (.agg #[.int .i64 x,.int .i64 y,vO,vX])/\Fr [] Y w')
 (hp:oP 57 P y true (.agg #[.int .i64 ra,.bool rb]) w) :
 Calls prog 110 #[.pointer (some ⟨P,0,none⟩),.int .i64 5,.agg #[.int .i64 off,.bool back],.int .i64 goal] w fun e w'=>e=.returned (.agg #[.int .i64 ra,.bool rb])/\Fr [] w w':=by
 obtain⟨w2,hw2,f_,iG,HR2⟩:=jW w off back;have HL:=hid hl;have HP:=hid hp;clear hl hp;go_enter func110,ntmps110;have HW2:=hid hw2;clear hw2;go_wp2_with (first | (go_at_call 173;rw[<-HW2.out];refine(HL.out _ f_.out).mono ?_;rintro e w3 ⟨vO,vX,rfl,hf3⟩;have tA:=hid hf3;have Rr:=V2 x y vO vX;clear hf3) | (go_at_call 57;refine(HP.out _ (f_.out.trans tA.out)).mono ?_;rintro e w6 ⟨rfl,jo⟩;have jv:=hid (tA.out.trans jo);clear jo;have jd:=hid (fO HR2.out jv.out af);have r0:=fN jd.out (i:=0) (v:=.int .i64 0) rfl;have r1:=fN jd.out (i:=1) (v:=.bool false) rfl;have k0:=fT jd.out 0;have k1:=fT jd.out 1));refine eU (eW (t:=55) (fr:=(0,0)) rfl _ _ (w.heap.size+1) _ _ rfl (fP (fP jd.out 0 _) 1 _) underlying55 rfl (by kernel_rfl)) rfl ?_;exact⟨rfl,Fr.fQ (Fr.fQ (f_.out.trans jv.out) (by omega)) (by omega)⟩
theorem N6 (P gB cB nB:Nat)(off goal y ra:Int)(back rb:Bool)(c:Nat)(v1 v2 vL:Value)(r:Int)(w:World)(ho:w.heap[P]?=some (.cells #[.slice (some ⟨gB,0,none⟩) nB cB,v1,v2,vL,.int .i64 r] 166 (0,0)))(hc:c<=1000)
 (ha:FZ 102 #[.agg #[.slice (some ⟨gB,0,none⟩) nB cB,v1,v2],.int .i64 off] (.int .i64 (c:Nat)) w)
 (hb:FZ 172 #[.agg #[.slice (some ⟨gB,0,none⟩) nB cB,v1,v2],.int .i64 ((c:Int)+1)] (.int .i64 y) w)
 (hp:oP 57 P y true (.agg #[.int .i64 ra,.bool rb]) w) :
 Calls prog 110 #[.pointer (some ⟨P,0,none⟩),.int .i64 2,.agg #[.int .i64 off,.bool back],.int .i64 goal] w fun e w'=>e=.returned (.agg #[.int .i64 ra,.bool rb])/\Fr [] w w':=by
 obtain⟨w2,hw2,f_,iG,HR2⟩:=jW w off back;have j9:=hid ho;have rW:=h_ ho;have HA:=hid ha;have HB:=hid hb;have HP:=hid hp;have hwc:IntKind.i64.wrap ((c:Int)+1)=(c:Int)+1:=by rw[eT];omega
 clear ho ha hb hp;go_enter func110,ntmps110;have HW2:=hid hw2;clear hw2;go_wp2_with fail;rw[<-HW2.out];have Kg:=hid (fO j9.out f_.out af);have p0:=fN Kg.out (i:=0) (v:=.slice (some ⟨gB,0,none⟩) nB cB) rfl;have p1:=fN Kg.out (i:=1) (v:=v1) rfl;have p2:=fN Kg.out (i:=2) (v:=v2) rfl;have s0:=fN iG.out (i:=0) (v:=.int .i64 off) rfl;have XL:=hid (And.intro p0 (And.intro p1 (And.intro p2 s0)));obtain⟨wa,oC,HSA,FU⟩:∃wa,Hid (Fr [] wa w2)/\Hid (wa.heap.size=w.heap.size+1)/\Hid (wa.cell? ⟨P,0,none⟩=some (.slice (some ⟨gB,0,none⟩) nB cB)/\wa.cell? ⟨P,1,none⟩=some v1/\wa.cell? ⟨P,2,none⟩=some v2/\wa.cell? ⟨w.heap.size,0,none⟩=some (.int .i64 off)) :=
  ⟨w.alloc (.cells #[.int .i64 off,.bool back] 55),hid (by rw[HW2.out];exact(Fr.refl [] _).alloc _),hid (by simp),hid ⟨((Fr.refl [] w).alloc _).cell (fN j9.out (i:=0) rfl) af,((Fr.refl [] w).alloc _).cell (fN j9.out (i:=1) rfl) af,((Fr.refl [] w).alloc _).cell (fN j9.out (i:=2) rfl) af,fN (fU w _) (i:=0) rfl⟩⟩
 go_region_held (fun wz=>wz.cell? ⟨P,0,none⟩=some (.slice (some ⟨gB,0,none⟩) nB cB)/\wz.cell? ⟨P,1,none⟩=some v1/\wz.cell? ⟨P,2,none⟩=some v2/\wz.cell? ⟨w.heap.size,0,none⟩=some (.int .i64 off))
  (first | exact uj | exact XL.out | exact⟨HKK.out.cell FU.out.1 af,HKK.out.cell FU.out.2.1 af,HKK.out.cell FU.out.2.2.1 af,HKK.out.cell FU.out.2.2.2 af⟩ | go_keep)
  (first
    | (go_at_call 102;refine(HA.out _ ?fa).mono ?_;(case fa=>exact f_.out.trans (iD _ _ _ rfl rfl rfl rfl));rintro e w3 ⟨rfl,hf3⟩;have tA:=hid (show Fr [] w2 w3 from⟨hf3.os,hf3.tape,hf3.output,hf3.size,hf3.block⟩);have iO:=hid (f_.out.trans tA.out);have uj:=And.intro (tA.out.cell p0 af) (And.intro (tA.out.cell p1 af) (And.intro (tA.out.cell p2 af) (tA.out.cell s0 af)));clear hf3)
    | (go_at_call 172;refine(HB.out _ ?fb).mono ?_;(case fb=>exact iO.out.trans (iD _ _ _ rfl rfl rfl rfl));rintro e w4 ⟨rfl,jl⟩;have jF:=hid (show Fr [] w2 w4 from tA.out.trans ⟨jl.os,jl.tape,jl.output,jl.size,jl.block⟩);have gP:=hid (f_.out.trans jF.out);have uj:=And.intro (jF.out.cell p0 af) (And.intro (jF.out.cell p1 af) (And.intro (jF.out.cell p2 af) (jF.out.cell s0 af)));clear jl)
    | (go_at_call 57;refine(HP.out _ ?fc).mono ?_;(case fc=>exact gP.out.trans (iD _ _ _ rfl rfl rfl rfl));rintro e w6 ⟨rfl,jo⟩;have jv:=hid (show Fr [] w2 w6 from jF.out.trans ⟨jo.os,jo.tape,jo.output,jo.size,jo.block⟩);have uj:=And.intro (jv.out.cell p0 af) (And.intro (jv.out.cell p1 af) (And.intro (jv.out.cell p2 af) (jv.out.cell s0 af)));clear jo;have jd:=hid (fO HR2.out jv.out af);have r0:=fN jd.out (i:=0) (v:=.int .i64 0) rfl;have r1:=fN jd.out (i:=1) (v:=.bool false) rfl;have k0:=fT jd.out 0;have k1:=fT jd.out 1;have HKK:=hid (Fr.fQ (b:=w.heap.size+1) (i:=1) (v:=.bool rb) (Fr.fQ (b:=w.heap.size+1) (i:=0) (v:=.int .i64 ra) (oC.out.trans jv.out) (Nat.le_of_eq HSA.out)) (Nat.le_of_eq HSA.out))))
 all_goals (
  go_wp2
  refine eU (eW (t:=55) (fr:=(0,0)) rfl _ _ (w.heap.size+1) _ _ rfl (fP (fP jd.out 0 _) 1 _) underlying55 rfl (by kernel_rfl)) rfl ?_
  exact⟨rfl,Fr.fQ (Fr.fQ (f_.out.trans jv.out) (by omega)) (by omega)⟩)
theorem N7 (P gB cB nB:Nat)(off goal y ra:Int)(back rb:Bool)(c:Nat)(v1 v2 vL:Value)(r:Int)(w:World)(ho:w.heap[P]?=some (.cells #[.slice (some ⟨gB,0,none⟩) nB cB,v1,v2,vL,.int .i64 r] 166 (0,0)))(hc:c<=1000)
 (ha:FZ 102 #[.agg #[.slice (some ⟨gB,0,none⟩) nB cB,v1,v2],.int .i64 off] (.int .i64 (c:Nat)) w)
 (hb:FZ 172 #[.agg #[.slice (some ⟨gB,0,none⟩) nB cB,v1,v2],.int .i64 ((c:Int) - 1)] (.int .i64 y) w)
 (hp:oP 57 P y false (.agg #[.int .i64 ra,.bool rb]) w) :
 Calls prog 110 #[.pointer (some ⟨P,0,none⟩),.int .i64 3,.agg #[.int .i64 off,.bool back],.int .i64 goal] w fun e w'=>e=.returned (.agg #[.int .i64 ra,.bool rb])/\Fr [] w w':=by
 obtain⟨w2,hw2,f_,iG,HR2⟩:=jW w off back;have j9:=hid ho;have rW:=h_ ho;have HA:=hid ha;have HB:=hid hb;have HP:=hid hp;have hwc:IntKind.i64.wrap ((c:Int) - 1)=(c:Int) - 1:=by rw[eT];omega
 clear ho ha hb hp;go_enter func110,ntmps110;have HW2:=hid hw2;clear hw2;go_wp2_with fail;rw[<-HW2.out];have Kg:=hid (fO j9.out f_.out af);have p0:=fN Kg.out (i:=0) (v:=.slice (some ⟨gB,0,none⟩) nB cB) rfl;have p1:=fN Kg.out (i:=1) (v:=v1) rfl;have p2:=fN Kg.out (i:=2) (v:=v2) rfl;have s0:=fN iG.out (i:=0) (v:=.int .i64 off) rfl;have XL:=hid (And.intro p0 (And.intro p1 (And.intro p2 s0)));obtain⟨wa,oC,HSA,FU⟩:∃wa,Hid (Fr [] wa w2)/\Hid (wa.heap.size=w.heap.size+1)/\Hid (wa.cell? ⟨P,0,none⟩=some (.slice (some ⟨gB,0,none⟩) nB cB)/\wa.cell? ⟨P,1,none⟩=some v1/\wa.cell? ⟨P,2,none⟩=some v2/\wa.cell? ⟨w.heap.size,0,none⟩=some (.int .i64 off)) :=
  ⟨w.alloc (.cells #[.int .i64 off,.bool back] 55),hid (by rw[HW2.out];exact(Fr.refl [] _).alloc _),hid (by simp),hid ⟨((Fr.refl [] w).alloc _).cell (fN j9.out (i:=0) rfl) af,((Fr.refl [] w).alloc _).cell (fN j9.out (i:=1) rfl) af,((Fr.refl [] w).alloc _).cell (fN j9.out (i:=2) rfl) af,fN (fU w _) (i:=0) rfl⟩⟩
 go_region_held (fun wz=>wz.cell? ⟨P,0,none⟩=some (.slice (some ⟨gB,0,none⟩) nB cB)/\wz.cell? ⟨P,1,none⟩=some v1/\wz.cell? ⟨P,2,none⟩=some v2/\wz.cell? ⟨w.heap.size,0,none⟩=some (.int .i64 off))
  (first | exact uj | exact XL.out | exact⟨HKK.out.cell FU.out.1 af,HKK.out.cell FU.out.2.1 af,HKK.out.cell FU.out.2.2.1 af,HKK.out.cell FU.out.2.2.2 af⟩ | go_keep)
  (first
    | (go_at_call 102;refine(HA.out _ ?fa).mono ?_;(case fa=>exact f_.out.trans (iD _ _ _ rfl rfl rfl rfl));rintro e w3 ⟨rfl,hf3⟩;have tA:=hid (show Fr [] w2 w3 from⟨hf3.os,hf3.tape,hf3.output,hf3.size,hf3.block⟩);have iO:=hid (f_.out.trans tA.out);have uj:=And.intro (tA.out.cell p0 af) (And.intro (tA.out.cell p1 af) (And.intro (tA.out.cell p2 af) (tA.out.cell s0 af)));clear hf3)
    | (go_at_call 172;refine(HB.out _ ?fb).mono ?_;(case fb=>exact iO.out.trans (iD _ _ _ rfl rfl rfl rfl));rintro e w4 ⟨rfl,jl⟩;have jF:=hid (show Fr [] w2 w4 from tA.out.trans ⟨jl.os,jl.tape,jl.output,jl.size,jl.block⟩);have gP:=hid (f_.out.trans jF.out);have uj:=And.intro (jF.out.cell p0 af) (And.intro (jF.out.cell p1 af) (And.intro (jF.out.cell p2 af) (jF.out.cell s0 af)));clear jl)
    | (go_at_call 57;refine(HP.out _ ?fc).mono ?_;(case fc=>exact gP.out.trans (iD _ _ _ rfl rfl rfl rfl));rintro e w6 ⟨rfl,jo⟩;have jv:=hid (show Fr [] w2 w6 from jF.out.trans ⟨jo.os,jo.tape,jo.output,jo.size,jo.block⟩);have uj:=And.intro (jv.out.cell p0 af) (And.intro (jv.out.cell p1 af) (And.intro (jv.out.cell p2 af) (jv.out.cell s0 af)));clear jo;have jd:=hid (fO HR2.out jv.out af);have r0:=fN jd.out (i:=0) (v:=.int .i64 0) rfl;have r1:=fN jd.out (i:=1) (v:=.bool false) rfl;have k0:=fT jd.out 0;have k1:=fT jd.out 1;have HKK:=hid (Fr.fQ (b:=w.heap.size+1) (i:=1) (v:=.bool rb) (Fr.fQ (b:=w.heap.size+1) (i:=0) (v:=.int .i64 ra) (oC.out.trans jv.out) (Nat.le_of_eq HSA.out)) (Nat.le_of_eq HSA.out))))
 all_goals (
  go_wp2
  refine eU (eW (t:=55) (fr:=(0,0)) rfl _ _ (w.heap.size+1) _ _ rfl (fP (fP jd.out 0 _) 1 _) underlying55 rfl (by kernel_rfl)) rfl ?_
  exact⟨rfl,Fr.fQ (Fr.fQ (f_.out.trans jv.out) (by omega)) (by omega)⟩)
theorem fW {P:Program}{fn:Func}{p u:Tmp}{ty:TypeId}(h:fn.results=#[.cell p ty,.tmp u])(tmps:Array Value)(w:World)(g:Nat)(t:TypeId)(cs:Array Value)(fr:Nat × Nat)(d:TypeDesc)
 (hp:tmps.getD p undef=.pointer (some ⟨g,0,none⟩)) (hg:w.heap[g]?=some (.cells cs t fr))
 (hu:P.underlying ty=some d) (hd:(match d with | .struct _ | .array _ _=>true | _=>false)=true) (hi:(P.info? ty).map (·.size)=some cs.size) :
 (results fn tmps).run P w=.ok (.tuple #[.agg cs,tmps.getD u undef]) w:=by
 rw[results_cell_tmp h,hp];simp[asAddr,run_loadVar_row w g t ty cs fr d hg hu hd hi,Result.andThen]
theorem Kh (P:Nat)(d off goal fo ta:Int)(back fb tb m:Bool)(w:World)(hm:m=!(decide (ta=fo/\tb=fb)))
 (hp:oP 57 P off back (.agg #[.int .i64 fo,.bool fb]) w)
 (ht:FZ 110 #[.pointer (some ⟨P,0,none⟩),.int .i64 d,.agg #[.int .i64 fo,.bool fb],.int .i64 goal] (.agg #[.int .i64 ta,.bool tb]) w) :
 Calls prog 65 #[.pointer (some ⟨P,0,none⟩),.int .i64 d,.agg #[.int .i64 off,.bool back],.int .i64 goal] w fun e w'=>e=.returned (.tuple #[.agg #[.int .i64 ta,.bool tb],.bool m])/\Fr [] w w':=by
 have H57:=hid hp;have ag_:=hid ht;have HM:=hid hm;obtain⟨w2,hw2,f_,-,HR2⟩:=jW w off back;have hs2:w2.heap.size=w.heap.size+2:=by rw[hw2];simp
 clear hp ht hm;go_enter func65,ntmps65;have HW2:=hid hw2;clear hw2;go_wp2_with fail;rw[<-HW2.out];refine(H57.out _ f_.out).mono ?_;rintro e w3 ⟨rfl,hf3⟩;obtain⟨w4,hw4,jF,jD⟩:=jE hf3 #[.int .i64 fo,.bool fb] 55;have gP:=hid (f_.out.trans jF.out);have hz3:=hf3.size;have hq3:¬w3.heap.size=w.heap.size+1:=by omega
 have Ki:¬w.heap.size+1=w3.heap.size:=by omega
 have AM:w3.heap.size<=w4.heap.size:=by rw[hw4];simp
 have oQ:=hid hw4;clear hf3 hw4;go_wp2_with fail;rw[<-oQ.out];refine(ag_.out _ gP.out).mono ?_;rintro e w5 ⟨rfl,jC⟩;obtain⟨w6,nu⟩:∃w6,w6=w5.alloc (.cells #[.int .i64 ta,.bool tb] 55):=⟨_,rfl⟩;have jv:=hid (show Fr [] w4 w6 by rw[nu];exact jC.alloc _);have Ts:=hid (show w6.heap[w5.heap.size]?=some (.cells #[.int .i64 ta,.bool tb] 55 (0,0)) by rw[nu];exact fU w5 _);have Dq:=jC.size;have hq5:¬w5.heap.size=w.heap.size+1:=by omega
 have SR:¬w.heap.size+1=w5.heap.size:=by omega
 clear hs2 hz3 AM Dq;have AX:=hid nu;clear jC nu;go_wp2_with fail;rw[<-AX.out];have f0:=fN (fO jD.out jv.out af) (i:=0) (v:=.int .i64 fo) rfl;have f1:=fN (fO jD.out jv.out af) (i:=1) (v:=.bool fb) rfl;have t0:=fN Ts.out (i:=0) (v:=.int .i64 ta) rfl;have t1:=fN Ts.out (i:=1) (v:=.bool tb) rfl;have jd:=hid (fO HR2.out (jF.out.trans jv.out) af);obtain⟨r0,r1,k0,k1⟩:=jM jd.out;have HFz:=hid (gP.out.trans jv.out);by_cases ho:ta=fo
 ·by_cases hb:tb=fb
  ·obtain rfl:m=false:=by rw[HM.out];simp[ho,hb]
   subst ho;subst hb;go_region
   all_goals (
    go_wp2
    refine eU (fW (t:=55) (fr:=(0,0)) rfl _ _ (w.heap.size+1) _ _ rfl (fP (fP jd.out 0 _) 1 _) underlying55 rfl (by kernel_rfl)) rfl ?_
    exact⟨rfl,(Fr.fQ (b:=w.heap.size+1) (i:=1) (v:=.bool tb) (Fr.fQ (b:=w.heap.size+1) (i:=0) (v:=.int .i64 ta) HFz.out (by omega)) (by omega)).trans (iD _ _ _ rfl rfl rfl rfl)⟩)
  ·obtain rfl:m=true:=by rw[HM.out];simp[hb]
   subst ho;go_region
   all_goals (
    go_wp2
    refine eU (fW (t:=55) (fr:=(0,0)) rfl _ _ (w.heap.size+1) _ _ rfl (fP (fP jd.out 0 _) 1 _) underlying55 rfl (by kernel_rfl)) rfl ?_
    exact⟨rfl,(Fr.fQ (b:=w.heap.size+1) (i:=1) (v:=.bool tb) (Fr.fQ (b:=w.heap.size+1) (i:=0) (v:=.int .i64 ta) HFz.out (by omega)) (by omega)).trans (iD _ _ _ rfl rfl rfl rfl)⟩)
 ·obtain rfl:m=true:=by rw[HM.out];simp[ho]
  go_region
  all_goals (
   go_wp2
   refine eU (fW (t:=55) (fr:=(0,0)) rfl _ _ (w.heap.size+1) _ _ rfl (fP (fP jd.out 0 _) 1 _) underlying55 rfl (by kernel_rfl)) rfl ?_
   exact⟨rfl,(Fr.fQ (b:=w.heap.size+1) (i:=1) (v:=.bool tb) (Fr.fQ (b:=w.heap.size+1) (i:=0) (v:=.int .i64 ta) HFz.out (by omega)) (by omega)).trans (iD _ _ _ rfl rfl rfl rfl)⟩)
theorem N8 (Q P:Nat)(d off goal ta:Int)(back tb m:Bool)(w:World)(hq:w.cell? ⟨Q,0,none⟩=some (.pointer (some ⟨P,0,none⟩)))
 (h:FZ 65 #[.pointer (some ⟨P,0,none⟩),.int .i64 d,.agg #[.int .i64 off,.bool back],.int .i64 goal] (.tuple #[.agg #[.int .i64 ta,.bool tb],.bool m]) w) :
 Calls prog 27 #[.pointer (some ⟨Q,0,none⟩),.int .i64 d,.agg #[.int .i64 off,.bool back],.int .i64 goal] w fun e w'=>e=.returned (.tuple #[.agg #[.int .i64 ta,.bool tb],.bool m])/\Fr [] w w':=by
 obtain⟨w2,hw2⟩:∃w2,w2=(w.alloc (.cells #[.int .i64 off,.bool back] 55)).alloc (.cells #[.int .i64 0,.bool false] 55):=⟨_,rfl⟩;have f_:=hid (show Fr [] w w2 by rw[hw2];exact((Fr.refl _ _).alloc _).alloc _);have IK:=hid (f_.out.cell hq af);have iG:=hid (show w2.heap[w.heap.size]?=some (.cells #[.int .i64 off,.bool back] 55 (0,0)) by rw[hw2];exact fO (fU w _) ((Fr.refl [] _).alloc _) af)
 have HR2:=hid (show w2.heap[w.heap.size+1]?=some (.cells #[.int .i64 0,.bool false] 55 (0,0)) by
  have hs:(w.alloc (.cells #[.int .i64 off,.bool back] 55)).heap.size=w.heap.size+1:=by simp
  have h0:=fU (w.alloc (.cells #[.int .i64 off,.bool back] 55)) (.cells #[.int .i64 0,.bool false] 55)
  rw[hs]at h0
  rw[hw2];exact h0)
 have YL:=hid h;have hQl:Q<w.heap.size:=eS _ _ hq;clear h;go_enter func27,ntmps27;have HW2:=hid hw2;clear hw2;go_wp2_with fail;rw[<-HW2.out];have q0:=IK.out;have c0:=fN iG.out (i:=0) (v:=.int .i64 off) rfl;have c1:=fN iG.out (i:=1) (v:=.bool back) rfl
 go_region_with (first
  | (go_at_call 65;refine(YL.out _ ?fa).mono ?_;(case fa=>exact⟨f_.out.os,f_.out.tape,f_.out.output,f_.out.size,f_.out.block⟩);rintro e w4 ⟨rfl,jl⟩;have gP:=hid (show Fr [] w2 w4 from⟨jl.os,jl.tape,jl.output,jl.size,jl.block⟩);have HR4:=hid (fO HR2.out gP.out af);have r0:=fN HR4.out (i:=0) (v:=.int .i64 0) rfl;have r1:=fN HR4.out (i:=1) (v:=.bool false) rfl;have g0:=fT HR4.out 0;have g1:=fT HR4.out 1;clear jl))
 all_goals (
  go_wp2
  refine eU (fW (t:=55) (fr:=(0,0)) rfl _ _ (w.heap.size+1) _ _ rfl (fP (fP HR4.out 0 _) 1 _) underlying55 rfl (by kernel_rfl)) rfl ?_
  exact⟨rfl,Fr.fQ (Fr.fQ (f_.out.trans gP.out) (by omega)) (by omega)⟩)
end Go.Proofs.YtnakejhohdbfdaaGreatDoor

import Derived.Test.YtnakejhohdbfdacGreatDoorMbl
set_option maxHeartbeats 4000000
set_option maxRecDepth 10000
namespace Go.Proofs.YtnakejhohdbfdacGreatDoor
open Go.RowKit j9 Lay pS Go.Proofs.Tryz
theorem Ws (d:Int)(w:World):(Instr.typeAssert (.iface 197 (.int .i64 d)) 128 197 true).run prog w=.ok (.tuple #[.int .i64 d,.bool true]) w:=by kernel_rfl
theorem ZQ (d:Int)(w:World):(Instr.typeAssert (.iface 198 (.int .i64 d)) 128 197 true).run prog w=.ok (.tuple #[.int .i64 0,.bool false]) w:=by kernel_rfl
theorem ta3 (d:Int)(w:World):(Instr.typeAssert (.iface 198 (.int .i64 d)) 128 198 true).run prog w=.ok (.tuple #[.int .i64 d,.bool true]) w:=by kernel_rfl
theorem ta4 (v:Value)(w:World):(Instr.typeAssert (.iface 200 v) 128 197 true).run prog w=.ok (.tuple #[.int .i64 0,.bool false]) w:=by kernel_rfl
theorem ta5 (v:Value)(w:World):(Instr.typeAssert (.iface 200 v) 128 198 true).run prog w=.ok (.tuple #[.int .i64 0,.bool false]) w:=by kernel_rfl
theorem ta6 (v:Value)(w:World):(Instr.typeAssert (.iface 200 v) 128 200 true).run prog w=.ok (.tuple #[v,.bool true]) w:=by kernel_rfl
theorem ta7 (v:Value)(w:World):(Instr.typeAssert (.iface 201 v) 128 197 true).run prog w=.ok (.tuple #[.int .i64 0,.bool false]) w:=by kernel_rfl
theorem ta8 (v:Value)(w:World):(Instr.typeAssert (.iface 201 v) 128 198 true).run prog w=.ok (.tuple #[.int .i64 0,.bool false]) w:=by kernel_rfl
theorem ta9 (v:Value)(w:World):(Instr.typeAssert (.iface 201 v) 128 200 true).run prog w=.ok (.tuple #[.agg #[.int .i64 0,.int .i64 0],.bool false]) w:=by kernel_rfl
theorem afH (v:Value)(w:World):(Instr.typeAssert (.iface 201 v) 128 201 true).run prog w=.ok (.tuple #[v,.bool true]) w:=by kernel_rfl
theorem Nr (Z P:Nat)(ao fo goal d ta:Int)(ab fb aim tb m:Bool)(w:World)(hZ:w.heap[Z]?=some (.cells (kL P ao ab fo fb aim goal) 134 (0,0)))
 (hM:∀Y,Fr [] w Y->Calls prog 95 #[.pointer (some ⟨P,0,none⟩),.int .i64 d,.agg #[.int .i64 fo,.bool fb],.int .i64 0] Y fun e w'=>e=.returned (.tuple #[.agg #[.int .i64 ta,.bool tb],.bool m])/\Fr [] Y w') :
 Calls prog 57 #[.pointer (some ⟨Z,0,none⟩),.iface 197 (.int .i64 d)] w fun e w'=>e=.returned (.tuple #[.agg #[.int .i64 ta,.bool tb],.bool m])/\Fr [] w w':=by
 have HZ:=hid hZ;have HM:=hid hM;have Mp:=iO hZ;obtain⟨w2,hw2⟩:∃w2,w2=(w.alloc (.cells #[.int .i64 0,.bool false] 26)).alloc (.cells #[.int .i64 fo,.bool fb] 26):=⟨_,rfl⟩;have i_:=hid (show Fr [] w w2 by rw[hw2];exact((Fr.refl [] w).alloc _).alloc _);have HR2:=hid (show w2.heap[w.heap.size]?=some (.cells #[.int .i64 0,.bool false] 26 (0,0)) by rw[hw2];exact iJ (iL w _) ((Fr.refl [] _).alloc _) aj)
 have HT2:=hid (show w2.heap[w.heap.size+1]?=some (.cells #[.int .i64 fo,.bool fb] 26 (0,0)) by
  have hs:(w.alloc (.cells #[.int .i64 0,.bool false] 26)).heap.size=w.heap.size+1:=by simp
  have h0:=iL (w.alloc (.cells #[.int .i64 0,.bool false] 26)) (.cells #[.int .i64 fo,.bool fb] 26)
  rw[hs]at h0
  rw[hw2];exact h0)
 have z0:=iG hZ (i:=0) (v:=.pointer (some ⟨P,0,none⟩)) rfl;have z3:=iG hZ (i:=3) (v:=.int .i64 fo) rfl;have z4:=iG hZ (i:=4) (v:=.bool fb) rfl;have t1:=Ws d;clear hZ hM;go_enter func57,ntmps57;go_wp2_with fail;rw[<-hw2];clear hw2;have y0:=i_.out.cell z0 aj;have y3:=i_.out.cell z3 aj;have y4:=i_.out.cell z4 aj;go_region_held (fun wz=>wz.cell? ⟨Z,0,none⟩=some (.pointer (some ⟨P,0,none⟩))/\wz.cell? ⟨Z,3,none⟩=some (.int .i64 fo)/\wz.cell? ⟨Z,4,none⟩=some (.bool fb)) (first | with_reducible exact l9 | with_reducible exact HS2 | go_keep)
  (first
    | (go_at_call 95;refine(HM.out _ ?fa).mono ?_;(case fa=>exact i_.out.drew);rintro e w4 ⟨rfl,jG⟩;have jI:=hid (show Fr [] w2 w4 from Fr.trans (Fr.refl [] w2).drew jG);have og:=hid (i_.out.trans jI.out);have HR4:=hid (iJ HR2.out jI.out aj);have r0:=iG HR4.out (i:=0) (v:=.int .i64 0) rfl;have r1:=iG HR4.out (i:=1) (v:=.bool false) rfl;have g0:=iH HR4.out 0;have g1:=iH HR4.out 1;have l9:=And.intro (og.out.cell z0 aj) (And.intro (og.out.cell z3 aj) (og.out.cell z4 aj));have HKK:=hid (Fr.iK (b:=w.heap.size) (i:=1) (v:=.bool tb) (Fr.iK (b:=w.heap.size) (i:=0) (v:=.int .i64 ta) og.out (au _)) (au _));have HS2:=And.intro (HKK.out.cell z0 aj) (And.intro (HKK.out.cell z3 aj) (HKK.out.cell z4 aj));clear jG))
 all_goals (
  go_wp2
  refine fE (iX (t:=26) (fr:=(0,0)) rfl _ _ w.heap.size _ _ rfl (iI (iI HR4.out 0 _) 1 _) underlying26 rfl (by kernel_rfl)) rfl ?_
  exact⟨rfl,HKK.out⟩)
theorem JO (Z P:Nat)(ao fo goal d ta:Int)(ab fb aim tb m:Bool)(w:World)(hZ:w.heap[Z]?=some (.cells (kL P ao ab fo fb aim goal) 134 (0,0)))
 (hM:∀Y,Fr [] w Y->Calls prog 95 #[.pointer (some ⟨P,0,none⟩),.int .i64 d,.agg #[.int .i64 fo,.bool fb],.int .i64 goal] Y fun e w'=>e=.returned (.tuple #[.agg #[.int .i64 ta,.bool tb],.bool m])/\Fr [] Y w') :
 Calls prog 57 #[.pointer (some ⟨Z,0,none⟩),.iface 198 (.int .i64 d)] w fun e w'=>e=.returned (.tuple #[.agg #[.int .i64 ta,.bool tb],.bool m])/\Fr [] w w':=by
 have HZ:=hid hZ;have HM:=hid hM;have Mp:=iO hZ;obtain⟨w2,hw2⟩:∃w2,w2=(w.alloc (.cells #[.int .i64 0,.bool false] 26)).alloc (.cells #[.int .i64 fo,.bool fb] 26):=⟨_,rfl⟩;have i_:=hid (show Fr [] w w2 by rw[hw2];exact((Fr.refl [] w).alloc _).alloc _);have HR2:=hid (show w2.heap[w.heap.size]?=some (.cells #[.int .i64 0,.bool false] 26 (0,0)) by rw[hw2];exact iJ (iL w _) ((Fr.refl [] _).alloc _) aj)
 have HT2:=hid (show w2.heap[w.heap.size+1]?=some (.cells #[.int .i64 fo,.bool fb] 26 (0,0)) by
  have hs:(w.alloc (.cells #[.int .i64 0,.bool false] 26)).heap.size=w.heap.size+1:=by simp
  have h0:=iL (w.alloc (.cells #[.int .i64 0,.bool false] 26)) (.cells #[.int .i64 fo,.bool fb] 26)
  rw[hs]at h0
  rw[hw2];exact h0)
 have z0:=iG hZ (i:=0) (v:=.pointer (some ⟨P,0,none⟩)) rfl;have z3:=iG hZ (i:=3) (v:=.int .i64 fo) rfl;have z4:=iG hZ (i:=4) (v:=.bool fb) rfl;have z6:=iG hZ (i:=6) (v:=.int .i64 goal) rfl;have t2:=ZQ d;have t3:=ta3 d;clear hZ hM;go_enter func57,ntmps57;go_wp2_with fail;rw[<-hw2];clear hw2;have y0:=i_.out.cell z0 aj;have y3:=i_.out.cell z3 aj;have y4:=i_.out.cell z4 aj;have y6:=i_.out.cell z6 aj;go_region_held (fun wz=>wz.cell? ⟨Z,0,none⟩=some (.pointer (some ⟨P,0,none⟩))/\wz.cell? ⟨Z,3,none⟩=some (.int .i64 fo)/\wz.cell? ⟨Z,4,none⟩=some (.bool fb)/\wz.cell? ⟨Z,6,none⟩=some (.int .i64 goal)) (first | with_reducible exact l9 | with_reducible exact HS2 | go_keep)
  (first
    | (go_at_call 95;refine(HM.out _ ?fa).mono ?_;(case fa=>exact i_.out.drew);rintro e w4 ⟨rfl,jG⟩;have jI:=hid (show Fr [] w2 w4 from Fr.trans (Fr.refl [] w2).drew jG);have og:=hid (i_.out.trans jI.out);have HR4:=hid (iJ HR2.out jI.out aj);have r0:=iG HR4.out (i:=0) (v:=.int .i64 0) rfl;have r1:=iG HR4.out (i:=1) (v:=.bool false) rfl;have g0:=iH HR4.out 0;have g1:=iH HR4.out 1;have l9:=And.intro (og.out.cell z0 aj) (And.intro (og.out.cell z3 aj) (And.intro (og.out.cell z4 aj) (og.out.cell z6 aj)));have HKK:=hid (Fr.iK (b:=w.heap.size) (i:=1) (v:=.bool tb) (Fr.iK (b:=w.heap.size) (i:=0) (v:=.int .i64 ta) og.out (au _)) (au _));have HS2:=And.intro (HKK.out.cell z0 aj) (And.intro (HKK.out.cell z3 aj) (And.intro (HKK.out.cell z4 aj) (HKK.out.cell z6 aj)));clear jG))
 all_goals (
  go_wp2
  refine fE (iX (t:=26) (fr:=(0,0)) rfl _ _ w.heap.size _ _ rfl (iI (iI HR4.out 0 _) 1 _) underlying26 rfl (by kernel_rfl)) rfl ?_
  exact⟨rfl,HKK.out⟩)
theorem JP (Z P:Nat)(ao fo goal a x ra:Int)(ab fb aim rb:Bool)(w:World)(hZ:w.heap[Z]?=some (.cells (kL P ao ab fo fb aim goal) 134 (0,0)))
 (hM:∀Y,Fr [] w Y->Calls prog 96 #[.pointer (some ⟨P,0,none⟩),.int .i64 a,.int .i64 x] Y fun e w'=>e=.returned (.agg #[.int .i64 ra,.bool rb])/\Fr [] Y w') :
 Calls prog 57 #[.pointer (some ⟨Z,0,none⟩),.iface 200 (.agg #[.int .i64 a,.int .i64 x])] w fun e w'=>e=.returned (.tuple #[.agg #[.int .i64 ra,.bool rb],.bool (!(decide (ra=fo) && rb == fb))])/\Fr [] w w':=by
 have HZ:=hid hZ;have HM:=hid hM;have Mp:=iO hZ;obtain⟨w2,hw2⟩:∃w2,w2=((w.alloc (.cells #[.int .i64 0,.bool false] 26)).alloc (.cells #[.int .i64 fo,.bool fb] 26)).alloc (.cells #[.int .i64 a,.int .i64 x] 200):=⟨_,rfl⟩;have i_:=hid (show Fr [] w w2 by rw[hw2];exact(((Fr.refl [] w).alloc _).alloc _).alloc _);have HR2:=hid (show w2.heap[w.heap.size]?=some (.cells #[.int .i64 0,.bool false] 26 (0,0)) by rw[hw2];exact iJ (iL w _) (((Fr.refl [] _).alloc _).alloc _) aj)
 have HT2:=hid (show w2.heap[w.heap.size+1]?=some (.cells #[.int .i64 fo,.bool fb] 26 (0,0)) by
  have hs:(w.alloc (.cells #[.int .i64 0,.bool false] 26)).heap.size=w.heap.size+1:=by simp
  have h0:=iL (w.alloc (.cells #[.int .i64 0,.bool false] 26)) (.cells #[.int .i64 fo,.bool fb] 26)
  rw[hs]at h0
  rw[hw2];exact iJ h0 ((Fr.refl [] _).alloc _) aj)
 have Ab:=hid (show w2.heap[w.heap.size+1+1]?=some (.cells #[.int .i64 a,.int .i64 x] 200 (0,0)) by
  have hs:((w.alloc (.cells #[.int .i64 0,.bool false] 26)).alloc (.cells #[.int .i64 fo,.bool fb] 26)).heap.size=w.heap.size+1+1:=by simp
  have h0:=iL ((w.alloc (.cells #[.int .i64 0,.bool false] 26)).alloc (.cells #[.int .i64 fo,.bool fb] 26)) (.cells #[.int .i64 a,.int .i64 x] 200)
  rw[hs]at h0
  rw[hw2];exact h0)
 have z0:=iG hZ (i:=0) (v:=.pointer (some ⟨P,0,none⟩)) rfl;have z3:=iG hZ (i:=3) (v:=.int .i64 fo) rfl;have z4:=iG hZ (i:=4) (v:=.bool fb) rfl;have t4:=ta4 (.agg #[.int .i64 a,.int .i64 x]);have t5:=ta5 (.agg #[.int .i64 a,.int .i64 x]);have t6:=ta6 (.agg #[.int .i64 a,.int .i64 x]);clear hZ hM;go_enter func57,ntmps57;go_wp2_with fail;rw[<-hw2];clear hw2;have y0:=i_.out.cell z0 aj;have y3:=i_.out.cell z3 aj;have y4:=i_.out.cell z4 aj;have y8:=iG Ab.out (i:=0) (v:=.int .i64 a) rfl;have y9:=iG Ab.out (i:=1) (v:=.int .i64 x) rfl;have HV8:=hid (And.intro y8 y9);go_region_held (fun wz=>wz.cell? ⟨Z,0,none⟩=some (.pointer (some ⟨P,0,none⟩))/\wz.cell? ⟨w.heap.size+1+1,0,none⟩=some (.int .i64 a)/\wz.cell? ⟨w.heap.size+1+1,1,none⟩=some (.int .i64 x)) (first | with_reducible exact l9 | with_reducible exact HS2 | go_keep)
  (first
    | (go_at_call 96;refine(HM.out _ ?fa).mono ?_;(case fa=>exact i_.out.drew);rintro e w4 ⟨rfl,jG⟩;have jI:=hid (show Fr [] w2 w4 from Fr.trans (Fr.refl [] w2).drew jG);have og:=hid (i_.out.trans jI.out);have A8:=hid (iJ HT2.out jI.out aj);have r0:=iG A8.out (i:=0) (v:=.int .i64 fo) rfl;have r1:=iG A8.out (i:=1) (v:=.bool fb) rfl;have g0:=iH A8.out 0;have g1:=iH A8.out 1;have l9:=And.intro (jI.out.cell y0 (by first | (simp;done) | (simp;omega))) (And.intro (jI.out.cell y8 (by first | (simp;done) | (simp;omega))) (jI.out.cell y9 (by first | (simp;done) | (simp;omega))));have UO:=hid (Fr.set (b:=w.heap.size+1) (i:=1) (Fr.set (b:=w.heap.size+1) (i:=0) (jI.out.mono (fun _ h _=>absurd h aj):Fr [w.heap.size+1] w2 w4) (ak.2 rfl) (.int .i64 ra)) (ak.2 rfl) (.bool rb));have HKK:=hid (Fr.iK (b:=w.heap.size+1) (i:=1) (v:=.bool rb) (Fr.iK (b:=w.heap.size+1) (i:=0) (v:=.int .i64 ra) og.out (aF _)) (aF _));have HS2:=And.intro (UO.out.cell y0 (by first | (simp;done) | (simp;omega))) (And.intro (UO.out.cell y8 (by first | (simp;done) | (simp;omega))) (UO.out.cell y9 (by first | (simp;done) | (simp;omega))));clear jG))
 all_goals (
  obtain⟨w5,nK⟩:∃w5,w5=(w4.setCell ⟨w.heap.size+1,0,none⟩ (.int .i64 ra)).setCell ⟨w.heap.size+1,1,none⟩ (.bool rb):=⟨_,rfl⟩
  have TY:=hid (show w5.heap[w.heap.size+1]?=some (.cells #[.int .i64 ra,.bool rb] 26 (0,0)) by rw[nK];exact iI (iI A8.out 0 _) 1 _)
  have kD:=hid (show Fr [] w w5 by rw[nK];exact HKK.out)
  have je:=hid (show w5.heap[w.heap.size]?=some (.cells #[.int .i64 0,.bool false] 26 (0,0)) by rw[nK];exact iJ HR2.out UO.out (by simp))
  rw[<-nK]
  clear nK
  have x0:=iG TY.out (i:=0) (v:=.int .i64 ra) rfl
  have x1:=iG TY.out (i:=1) (v:=.bool rb) rfl
  have x3:=kD.out.cell z3 aj
  have x4:=kD.out.cell z4 aj
  have u0:=iG je.out (i:=0) (v:=.int .i64 0) rfl
  have u1:=iG je.out (i:=1) (v:=.bool false) rfl
  have l0:=iH je.out 0
  have l1:=iH je.out 1
  have Ff:=hid (Fr.set (b:=w.heap.size) (i:=1) (Fr.set (b:=w.heap.size) (i:=0) (Fr.refl [w.heap.size] w5) (ak.2 rfl) (.int .i64 ra)) (ak.2 rfl) (.bool rb)).drew
  have Rt:=And.intro (Ff.out.cell x0 (by simp)) (And.intro (Ff.out.cell x1 (by simp)) (And.intro (Ff.out.cell x3 (by simp;omega)) (Ff.out.cell x4 (by simp;omega))))
  have vJ:=hid (Fr.iK (b:=w.heap.size) (i:=1) (v:=.bool rb) (Fr.iK (b:=w.heap.size) (i:=0) (v:=.int .i64 ra) kD.out (au _)) (au _)).drew
  by_cases hro:ra=fo
  ·subst hro
   cases rb
   ·cases fb
    ·go_wp2_with fail
     go_region_held (fun wz=>wz.cell? ⟨w.heap.size+1,0,none⟩=some (.int .i64 ra)/\wz.cell? ⟨w.heap.size+1,1,none⟩=some (.bool false)/\wz.cell? ⟨Z,3,none⟩=some (.int .i64 ra)/\wz.cell? ⟨Z,4,none⟩=some (.bool false)) (first | with_reducible exact Rt | go_keep) (fail)
     all_goals (
      go_wp2
      refine fE (iX (t:=26) (fr:=(0,0)) rfl _ _ w.heap.size _ _ rfl (iI (iI je.out 0 _) 1 _) underlying26 rfl (by kernel_rfl)) rfl ?_
      exact⟨by simp,vJ.out⟩)
    ·go_wp2_with fail
     go_region_held (fun wz=>wz.cell? ⟨w.heap.size+1,0,none⟩=some (.int .i64 ra)/\wz.cell? ⟨w.heap.size+1,1,none⟩=some (.bool false)/\wz.cell? ⟨Z,3,none⟩=some (.int .i64 ra)/\wz.cell? ⟨Z,4,none⟩=some (.bool true)) (first | with_reducible exact Rt | go_keep) (fail)
     all_goals (
      go_wp2
      refine fE (iX (t:=26) (fr:=(0,0)) rfl _ _ w.heap.size _ _ rfl (iI (iI je.out 0 _) 1 _) underlying26 rfl (by kernel_rfl)) rfl ?_
      exact⟨by simp,vJ.out⟩)
   ·cases fb
    ·go_wp2_with fail
     go_region_held (fun wz=>wz.cell? ⟨w.heap.size+1,0,none⟩=some (.int .i64 ra)/\wz.cell? ⟨w.heap.size+1,1,none⟩=some (.bool true)/\wz.cell? ⟨Z,3,none⟩=some (.int .i64 ra)/\wz.cell? ⟨Z,4,none⟩=some (.bool false)) (first | with_reducible exact Rt | go_keep) (fail)
     all_goals (
      go_wp2
      refine fE (iX (t:=26) (fr:=(0,0)) rfl _ _ w.heap.size _ _ rfl (iI (iI je.out 0 _) 1 _) underlying26 rfl (by kernel_rfl)) rfl ?_
      exact⟨by simp,vJ.out⟩)
    ·go_wp2_with fail
     go_region_held (fun wz=>wz.cell? ⟨w.heap.size+1,0,none⟩=some (.int .i64 ra)/\wz.cell? ⟨w.heap.size+1,1,none⟩=some (.bool true)/\wz.cell? ⟨Z,3,none⟩=some (.int .i64 ra)/\wz.cell? ⟨Z,4,none⟩=some (.bool true)) (first | with_reducible exact Rt | go_keep) (fail)
     all_goals (
      go_wp2
      refine fE (iX (t:=26) (fr:=(0,0)) rfl _ _ w.heap.size _ _ rfl (iI (iI je.out 0 _) 1 _) underlying26 rfl (by kernel_rfl)) rfl ?_
      exact⟨by simp,vJ.out⟩)
  ·have hrb:(ra == fo)=false:=by simpa using hro
   go_wp2_with fail
   go_region_held (fun wz=>wz.cell? ⟨w.heap.size+1,0,none⟩=some (.int .i64 ra)/\wz.cell? ⟨w.heap.size+1,1,none⟩=some (.bool rb)/\wz.cell? ⟨Z,3,none⟩=some (.int .i64 fo)/\wz.cell? ⟨Z,4,none⟩=some (.bool fb)) (first | with_reducible exact Rt | go_keep) (fail)
   all_goals (
    go_wp2
    refine fE (iX (t:=26) (fr:=(0,0)) rfl _ _ w.heap.size _ _ rfl (iI (iI je.out 0 _) 1 _) underlying26 rfl (by kernel_rfl)) rfl ?_
    exact⟨by simp[hro],vJ.out⟩))
theorem Ns (Z P:Nat)(ao fo goal a ra:Int)(ab fb aim bk rb:Bool)(w:World)(hZ:w.heap[Z]?=some (.cells (kL P ao ab fo fb aim goal) 134 (0,0)))
 (hM:∀Y,Fr [] w Y->Calls prog 97 #[.pointer (some ⟨P,0,none⟩),.agg #[.int .i64 a,.bool bk]] Y fun e w'=>e=.returned (.agg #[.int .i64 ra,.bool rb])/\Fr [] Y w') :
 Calls prog 57 #[.pointer (some ⟨Z,0,none⟩),.iface 201 (.agg #[.int .i64 a,.bool bk])] w fun e w'=>e=.returned (.tuple #[.agg #[.int .i64 ra,.bool rb],.bool (!(decide (ra=fo) && rb == fb))])/\Fr [] w w':=by
 have HZ:=hid hZ;have HM:=hid hM;have Mp:=iO hZ;obtain⟨w2,hw2⟩:∃w2,w2=((w.alloc (.cells #[.int .i64 0,.bool false] 26)).alloc (.cells #[.int .i64 fo,.bool fb] 26)).alloc (.cells #[.int .i64 a,.bool bk] 201):=⟨_,rfl⟩;have i_:=hid (show Fr [] w w2 by rw[hw2];exact(((Fr.refl [] w).alloc _).alloc _).alloc _);have HR2:=hid (show w2.heap[w.heap.size]?=some (.cells #[.int .i64 0,.bool false] 26 (0,0)) by rw[hw2];exact iJ (iL w _) (((Fr.refl [] _).alloc _).alloc _) aj)
 have HT2:=hid (show w2.heap[w.heap.size+1]?=some (.cells #[.int .i64 fo,.bool fb] 26 (0,0)) by
  have hs:(w.alloc (.cells #[.int .i64 0,.bool false] 26)).heap.size=w.heap.size+1:=by simp
  have h0:=iL (w.alloc (.cells #[.int .i64 0,.bool false] 26)) (.cells #[.int .i64 fo,.bool fb] 26)
  rw[hs]at h0
  rw[hw2];exact iJ h0 ((Fr.refl [] _).alloc _) aj)
 have Ab:=hid (show w2.heap[w.heap.size+1+1]?=some (.cells #[.int .i64 a,.bool bk] 201 (0,0)) by
  have hs:((w.alloc (.cells #[.int .i64 0,.bool false] 26)).alloc (.cells #[.int .i64 fo,.bool fb] 26)).heap.size=w.heap.size+1+1:=by simp
  have h0:=iL ((w.alloc (.cells #[.int .i64 0,.bool false] 26)).alloc (.cells #[.int .i64 fo,.bool fb] 26)) (.cells #[.int .i64 a,.bool bk] 201)
  rw[hs]at h0
  rw[hw2];exact h0)
 have z0:=iG hZ (i:=0) (v:=.pointer (some ⟨P,0,none⟩)) rfl;have z3:=iG hZ (i:=3) (v:=.int .i64 fo) rfl;have z4:=iG hZ (i:=4) (v:=.bool fb) rfl;have t7:=ta7 (.agg #[.int .i64 a,.bool bk]);have t8:=ta8 (.agg #[.int .i64 a,.bool bk]);have t9:=ta9 (.agg #[.int .i64 a,.bool bk]);have t10:=afH (.agg #[.int .i64 a,.bool bk]);clear hZ hM;go_enter func57,ntmps57;go_wp2_with fail;rw[<-hw2];clear hw2;have y0:=i_.out.cell z0 aj;have y3:=i_.out.cell z3 aj;have y4:=i_.out.cell z4 aj;have y8:=iG Ab.out (i:=0) (v:=.int .i64 a) rfl;have y9:=iG Ab.out (i:=1) (v:=.bool bk) rfl;have HV8:=hid (And.intro y8 y9);go_region_held (fun wz=>wz.cell? ⟨Z,0,none⟩=some (.pointer (some ⟨P,0,none⟩))/\wz.cell? ⟨w.heap.size+1+1,0,none⟩=some (.int .i64 a)/\wz.cell? ⟨w.heap.size+1+1,1,none⟩=some (.bool bk)) (first | with_reducible exact l9 | with_reducible exact HS2 | go_keep)
  (first
    | (go_at_call 97;refine(HM.out _ ?fa).mono ?_;(case fa=>exact i_.out.drew);rintro e w4 ⟨rfl,jG⟩;have jI:=hid (show Fr [] w2 w4 from Fr.trans (Fr.refl [] w2).drew jG);have og:=hid (i_.out.trans jI.out);have A8:=hid (iJ HT2.out jI.out aj);have r0:=iG A8.out (i:=0) (v:=.int .i64 fo) rfl;have r1:=iG A8.out (i:=1) (v:=.bool fb) rfl;have g0:=iH A8.out 0;have g1:=iH A8.out 1;have l9:=And.intro (jI.out.cell y0 (by first | (simp;done) | (simp;omega))) (And.intro (jI.out.cell y8 (by first | (simp;done) | (simp;omega))) (jI.out.cell y9 (by first | (simp;done) | (simp;omega))));have UO:=hid (Fr.set (b:=w.heap.size+1) (i:=1) (Fr.set (b:=w.heap.size+1) (i:=0) (jI.out.mono (fun _ h _=>absurd h aj):Fr [w.heap.size+1] w2 w4) (ak.2 rfl) (.int .i64 ra)) (ak.2 rfl) (.bool rb));have HKK:=hid (Fr.iK (b:=w.heap.size+1) (i:=1) (v:=.bool rb) (Fr.iK (b:=w.heap.size+1) (i:=0) (v:=.int .i64 ra) og.out (aF _)) (aF _));have HS2:=And.intro (UO.out.cell y0 (by first | (simp;done) | (simp;omega))) (And.intro (UO.out.cell y8 (by first | (simp;done) | (simp;omega))) (UO.out.cell y9 (by first | (simp;done) | (simp;omega))));clear jG))
 all_goals (
  obtain⟨w5,nK⟩:∃w5,w5=(w4.setCell ⟨w.heap.size+1,0,none⟩ (.int .i64 ra)).setCell ⟨w.heap.size+1,1,none⟩ (.bool rb):=⟨_,rfl⟩
  have TY:=hid (show w5.heap[w.heap.size+1]?=some (.cells #[.int .i64 ra,.bool rb] 26 (0,0)) by rw[nK];exact iI (iI A8.out 0 _) 1 _)
  have kD:=hid (show Fr [] w w5 by rw[nK];exact HKK.out)
  have je:=hid (show w5.heap[w.heap.size]?=some (.cells #[.int .i64 0,.bool false] 26 (0,0)) by rw[nK];exact iJ HR2.out UO.out (by simp))
  rw[<-nK]
  clear nK
  have x0:=iG TY.out (i:=0) (v:=.int .i64 ra) rfl
  have x1:=iG TY.out (i:=1) (v:=.bool rb) rfl
  have x3:=kD.out.cell z3 aj
  have x4:=kD.out.cell z4 aj
  have u0:=iG je.out (i:=0) (v:=.int .i64 0) rfl
  have u1:=iG je.out (i:=1) (v:=.bool false) rfl
  have l0:=iH je.out 0
  have l1:=iH je.out 1
  have Ff:=hid (Fr.set (b:=w.heap.size) (i:=1) (Fr.set (b:=w.heap.size) (i:=0) (Fr.refl [w.heap.size] w5) (ak.2 rfl) (.int .i64 ra)) (ak.2 rfl) (.bool rb)).drew
  have Rt:=And.intro (Ff.out.cell x0 (by simp)) (And.intro (Ff.out.cell x1 (by simp)) (And.intro (Ff.out.cell x3 (by simp;omega)) (Ff.out.cell x4 (by simp;omega))))
  have vJ:=hid (Fr.iK (b:=w.heap.size) (i:=1) (v:=.bool rb) (Fr.iK (b:=w.heap.size) (i:=0) (v:=.int .i64 ra) kD.out (au _)) (au _)).drew
  by_cases hro:ra=fo
  ·subst hro
   cases rb
   ·cases fb
    ·go_wp2_with fail
     go_region_held (fun wz=>wz.cell? ⟨w.heap.size+1,0,none⟩=some (.int .i64 ra)/\wz.cell? ⟨w.heap.size+1,1,none⟩=some (.bool false)/\wz.cell? ⟨Z,3,none⟩=some (.int .i64 ra)/\wz.cell? ⟨Z,4,none⟩=some (.bool false)) (first | with_reducible exact Rt | go_keep) (fail)
     all_goals (
      go_wp2
      refine fE (iX (t:=26) (fr:=(0,0)) rfl _ _ w.heap.size _ _ rfl (iI (iI je.out 0 _) 1 _) underlying26 rfl (by kernel_rfl)) rfl ?_
      exact⟨by simp,vJ.out⟩)
    ·go_wp2_with fail
     go_region_held (fun wz=>wz.cell? ⟨w.heap.size+1,0,none⟩=some (.int .i64 ra)/\wz.cell? ⟨w.heap.size+1,1,none⟩=some (.bool false)/\wz.cell? ⟨Z,3,none⟩=some (.int .i64 ra)/\wz.cell? ⟨Z,4,none⟩=some (.bool true)) (first | with_reducible exact Rt | go_keep) (fail)
     all_goals (
      go_wp2
      refine fE (iX (t:=26) (fr:=(0,0)) rfl _ _ w.heap.size _ _ rfl (iI (iI je.out 0 _) 1 _) underlying26 rfl (by kernel_rfl)) rfl ?_
      exact⟨by simp,vJ.out⟩)
   ·cases fb
    ·go_wp2_with fail
     go_region_held (fun wz=>wz.cell? ⟨w.heap.size+1,0,none⟩=some (.int .i64 ra)/\wz.cell? ⟨w.heap.size+1,1,none⟩=some (.bool true)/\wz.cell? ⟨Z,3,none⟩=some (.int .i64 ra)/\wz.cell? ⟨Z,4,none⟩=some (.bool false)) (first | with_reducible exact Rt | go_keep) (fail)
     all_goals (
      go_wp2
      refine fE (iX (t:=26) (fr:=(0,0)) rfl _ _ w.heap.size _ _ rfl (iI (iI je.out 0 _) 1 _) underlying26 rfl (by kernel_rfl)) rfl ?_
      exact⟨by simp,vJ.out⟩)
    ·go_wp2_with fail
     go_region_held (fun wz=>wz.cell? ⟨w.heap.size+1,0,none⟩=some (.int .i64 ra)/\wz.cell? ⟨w.heap.size+1,1,none⟩=some (.bool true)/\wz.cell? ⟨Z,3,none⟩=some (.int .i64 ra)/\wz.cell? ⟨Z,4,none⟩=some (.bool true)) (first | with_reducible exact Rt | go_keep) (fail)
     all_goals (
      go_wp2
      refine fE (iX (t:=26) (fr:=(0,0)) rfl _ _ w.heap.size _ _ rfl (iI (iI je.out 0 _) 1 _) underlying26 rfl (by kernel_rfl)) rfl ?_
      exact⟨by simp,vJ.out⟩)
  ·have hrb:(ra == fo)=false:=by simpa using hro
   go_wp2_with fail
   go_region_held (fun wz=>wz.cell? ⟨w.heap.size+1,0,none⟩=some (.int .i64 ra)/\wz.cell? ⟨w.heap.size+1,1,none⟩=some (.bool rb)/\wz.cell? ⟨Z,3,none⟩=some (.int .i64 fo)/\wz.cell? ⟨Z,4,none⟩=some (.bool fb)) (first | with_reducible exact Rt | go_keep) (fail)
   all_goals (
    go_wp2
    refine fE (iX (t:=26) (fr:=(0,0)) rfl _ _ w.heap.size _ _ rfl (iI (iI je.out 0 _) 1 _) underlying26 rfl (by kernel_rfl)) rfl ?_
    exact⟨by simp[hro],vJ.out⟩))
structure Wt (w0:World)(P:Nat)(g1 g2:Int->Bool->Int)(gx:Int->Bool->Int)(uo:Int->Int->List MV):Prop where
 gap:∀o b Y,Fr [] w0 Y->Calls prog 62 #[.pointer (some ⟨P,0,none⟩),.agg #[.int .i64 o,.bool b]] Y fun e w'=>e=.returned (.agg #[.int .i64 (g1 o b),.int .i64 (g2 o b)])/\Fr [] Y w'
 x:∀o b Y,Fr [] w0 Y->Calls prog 63 #[.pointer (some ⟨P,0,none⟩),.agg #[.int .i64 o,.bool b]] Y fun e w'=>e=.returned (.int .i64 (gx o b))/\Fr [] Y w'
 sel:∀a o Y,Fr [] w0 Y->Calls prog 64 #[.pointer (some ⟨P,0,none⟩),.int .i64 a,.int .i64 o] Y fun e w'=>∃v,e=.returned v/\w'.ownsRow Y.heap.size 251 5 v (uo a o).length (jH (uo a o))/\Fr [] Y w'
theorem me1 (d : Int) (w : World) : (method 389 197 (.int .i64 d) "caret/sessions.aims").run prog w = .ok (270, .int .i64 d) w := by kernel_rfl
theorem me2 (d : Int) (w : World) : (method 389 198 (.int .i64 d) "caret/sessions.aims").run prog w = .ok (271, .int .i64 d) w := by kernel_rfl
theorem me3 (v : Value) (w : World) : (method 389 200 v "caret/sessions.aims").run prog w = .ok (272, v) w := by kernel_rfl
theorem me4 (v : Value) (w : World) : (method 389 201 v "caret/sessions.aims").run prog w = .ok (273, v) w := by kernel_rfl
theorem uq {w0 w Y:World}{Z:Nat}(h:Fr [] w0 w)(hf:Fr [Z] w Y)(hZ:w0.heap.size<=Z):Fr [] w0 Y :=
 ((h.mono (fun _ h _=>absurd h aj):Fr [Z] w0 w).trans hf).mono (fun x hx hlt=>by have:=ak.1 hx;omega)
theorem Wt.state {w0:World}{P:Nat}{g1 g2 gx:Int->Bool->Int}{uo:Int->Int->List MV}(A:Wt w0 P g1 g2 gx uo)(Z:Nat)(ao fo goal:Int)(ab fb aim moved:Bool)(w:World)(hw:Fr [] w0 w)(hZ:w.heap[Z]?=some (.cells (kL P ao ab fo fb aim goal) 134 (0,0))) :
 Calls prog 31 #[.pointer (some ⟨Z,0,none⟩),.bool moved] w fun e w'=>∃v,e=.returned (.agg (SL ao ab fo fb (g1 fo fb) (g2 fo fb) (gx fo fb) (g1 fo true) (g2 fo true) (g1 fo false) (g2 fo false) v moved))/\w'.ownsRow w.heap.size 251 5 v (uo ao fo).length (jH (uo ao fo))/\Fr [] w w' :=
 M6 Z P ao fo goal _ _ _ _ _ _ _ ab fb aim moved _ w hZ (fun Y hf=>A.gap fo fb Y (hw.trans hf)) (fun Y hf=>A.x fo fb Y (hw.trans hf)) (fun Y hf=>A.gap fo true Y (hw.trans hf)) (fun Y hf=>A.gap fo false Y (hw.trans hf)) (fun Y hf=>A.sel ao fo Y (hw.trans hf))
theorem UP {w0:World}{P:Nat}{g1 g2 gx:Int->Bool->Int}{uo:Int->Int->List MV}(A:Wt w0 P g1 g2 gx uo)(Z:Nat)(ao fo goal d a x:Int)(ab fb aim ext bk:Bool)(t:ByteArray)(w:World)(hw:Fr [] w0 w)(hZ:w.heap[Z]?=some (.cells (kL P ao ab fo fb aim goal) 134 (0,0)))(hd:d<0\/9<d) :
 Calls prog 27 #[.pointer (some ⟨Z,0,none⟩),Rp d ext a x bk t] w fun e w'=>∃v,e=.returned (.agg (SL ao ab fo fb (g1 fo fb) (g2 fo fb) (gx fo fb) (g1 fo true) (g2 fo true) (g1 fo false) (g2 fo false) v false))/\w'.ownsRow w.heap.size 251 5 v (uo ao fo).length (jH (uo ao fo))/\w'.heap[Z]?=some (.cells (kL P ao ab fo fb aim goal) 134 (0,0))/\Fr [Z] w w':=by
 have HZ:=hid hZ;have HD:=hid (fun Y=>Nc d a x ext bk t Y hd);have HST:=hid (fun(Y:World) (hf:Fr [] w Y)=>A.state Z ao fo goal ab fb aim false Y (hw.trans hf) (iJ hZ hf aj));generalize g1 fo fb=a1 at *;generalize g2 fo fb=a2 at *;generalize gx fo fb=x1 at *;generalize g1 fo true=b1 at *;generalize g2 fo true=b2 at *;generalize g1 fo false=c1 at *;generalize g2 fo false=c2 at *;generalize uo ao fo=M at *;obtain⟨w2,hw2⟩:∃w2,w2=(w.alloc (.cells #[.int .i64 d,.bool ext,.int .i64 a,.int .i64 x,.bool bk,.string t] 37)).alloc (.cells #[.int .i64 0,.bool false,.int .i64 0,.bool false,.int .i64 0,.int .i64 0,.int .i64 0,.int .i64 0,.int .i64 0,.int .i64 0,.int .i64 0,.slice none 0 0,.bool false] 31):=⟨_,rfl⟩;have i_:=hid (show Fr [] w w2 by rw[hw2];exact((Fr.refl [] w).alloc _).alloc _);have jO:=hid (show w2.heap[w.heap.size]?=some (.cells #[.int .i64 d,.bool ext,.int .i64 a,.int .i64 x,.bool bk,.string t] 37 (0,0)) by rw[hw2];exact iJ (iL w _) ((Fr.refl [] _).alloc _) aj)
 have HR2:=hid (show w2.heap[w.heap.size+1]?=some (.cells #[.int .i64 0,.bool false,.int .i64 0,.bool false,.int .i64 0,.int .i64 0,.int .i64 0,.int .i64 0,.int .i64 0,.int .i64 0,.int .i64 0,.slice none 0 0,.bool false] 31 (0,0)) by
  have hs:(w.alloc (.cells #[.int .i64 d,.bool ext,.int .i64 a,.int .i64 x,.bool bk,.string t] 37)).heap.size=w.heap.size+1:=by simp
  have h0:=iL (w.alloc (.cells #[.int .i64 d,.bool ext,.int .i64 a,.int .i64 x,.bool bk,.string t] 37)) (.cells #[.int .i64 0,.bool false,.int .i64 0,.bool false,.int .i64 0,.int .i64 0,.int .i64 0,.int .i64 0,.int .i64 0,.int .i64 0,.int .i64 0,.slice none 0 0,.bool false] 31)
  rw[hs]at h0
  rw[hw2];exact h0)
 have Mp:=iO HZ.out;clear A hw hZ hd;go_enter func27,ntmps27;go_wp2_with fail;rw[<-hw2];clear hw2;refine(HD.out w2).mono ?_;rintro e w3 ⟨rfl,hf3⟩;have jQ:=hid (i_.out.trans hf3);have HR3:=hid (iJ HR2.out hf3 aj);clear hf3;go_wp2_with fail;refine(HST.out w3 jQ.out).mono ?_;rintro e w4 ⟨vS,rfl,sZ,jG⟩;obtain⟨aS,cS,AH⟩:=iW sZ;subst AH;have sj:=hid sZ;have iZ:=hid (iJ HR3.out jG aj);have AN:=hid (show Fr [Z] w w4 from(jQ.out.trans jG).mono (fun _ h _=>absurd h aj));have CC:=hid (iJ HZ.out (jQ.out.trans jG) aj);have hlow:=iO HR3.out;have uw:=hid (show w.heap.size<=w3.heap.size by omega);obtain⟨nS,uy⟩:∃nS,nS=M.length:=⟨_,rfl⟩;have nZ:=hid uy;rw[<-uy]at sj ⊢;clear sZ jG HST HD uy;have r0:=iG iZ.out (i:=0) (v:=.int .i64 0) rfl;have k0:=iH iZ.out 0;have r1:=iG iZ.out (i:=1) (v:=.bool false) rfl;have k1:=iH iZ.out 1;have r2:=iG iZ.out (i:=2) (v:=.int .i64 0) rfl;have k2:=iH iZ.out 2;have r3:=iG iZ.out (i:=3) (v:=.bool false) rfl;have k3:=iH iZ.out 3;have r4:=iG iZ.out (i:=4) (v:=.int .i64 0) rfl;have k4:=iH iZ.out 4;have r5:=iG iZ.out (i:=5) (v:=.int .i64 0) rfl;have k5:=iH iZ.out 5;have r6:=iG iZ.out (i:=6) (v:=.int .i64 0) rfl;have k6:=iH iZ.out 6;have r7:=iG iZ.out (i:=7) (v:=.int .i64 0) rfl;have k7:=iH iZ.out 7;have r8:=iG iZ.out (i:=8) (v:=.int .i64 0) rfl;have k8:=iH iZ.out 8;have r9:=iG iZ.out (i:=9) (v:=.int .i64 0) rfl;have k9:=iH iZ.out 9;have Ig:=iG iZ.out (i:=10) (v:=.int .i64 0) rfl;have k10:=iH iZ.out 10;have Ih:=iG iZ.out (i:=11) (v:=.slice none 0 0) rfl;have k11:=iH iZ.out 11;have Ii:=iG iZ.out (i:=12) (v:=.bool false) rfl;have k12:=iH iZ.out 12;have HKK:=hid (Fr.iK (b:=w.heap.size+1) (i:=12) (v:=.bool false) (Fr.iK (b:=w.heap.size+1) (i:=11) (v:=.slice aS nS cS) (Fr.iK (b:=w.heap.size+1) (i:=10) (v:=.int .i64 c2) (Fr.iK (b:=w.heap.size+1) (i:=9) (v:=.int .i64 c1) (Fr.iK (b:=w.heap.size+1) (i:=8) (v:=.int .i64 b2) (Fr.iK (b:=w.heap.size+1) (i:=7) (v:=.int .i64 b1) (Fr.iK (b:=w.heap.size+1) (i:=6) (v:=.int .i64 x1) (Fr.iK (b:=w.heap.size+1) (i:=5) (v:=.int .i64 a2) (Fr.iK (b:=w.heap.size+1) (i:=4) (v:=.int .i64 a1) (Fr.iK (b:=w.heap.size+1) (i:=3) (v:=.bool fb) (Fr.iK (b:=w.heap.size+1) (i:=2) (v:=.int .i64 fo) (Fr.iK (b:=w.heap.size+1) (i:=1) (v:=.bool ab) (Fr.iK (b:=w.heap.size+1) (i:=0) (v:=.int .i64 ao) AN.out (aF _)) (aF _)) (aF _)) (aF _)) (aF _)) (aF _)) (aF _)) (aF _)) (aF _)) (aF _)) (aF _)) (aF _)) (aF _));have yG:=hid (Fr.set (b:=w.heap.size+1) (i:=12) (Fr.set (b:=w.heap.size+1) (i:=11) (Fr.set (b:=w.heap.size+1) (i:=10) (Fr.set (b:=w.heap.size+1) (i:=9) (Fr.set (b:=w.heap.size+1) (i:=8) (Fr.set (b:=w.heap.size+1) (i:=7) (Fr.set (b:=w.heap.size+1) (i:=6) (Fr.set (b:=w.heap.size+1) (i:=5) (Fr.set (b:=w.heap.size+1) (i:=4) (Fr.set (b:=w.heap.size+1) (i:=3) (Fr.set (b:=w.heap.size+1) (i:=2) (Fr.set (b:=w.heap.size+1) (i:=1) (Fr.set (b:=w.heap.size+1) (i:=0) (Fr.refl [w.heap.size+1] w4) (ak.2 rfl) (.int .i64 ao)) (ak.2 rfl) (.bool ab)) (ak.2 rfl) (.int .i64 fo)) (ak.2 rfl) (.bool fb)) (ak.2 rfl) (.int .i64 a1)) (ak.2 rfl) (.int .i64 a2)) (ak.2 rfl) (.int .i64 x1)) (ak.2 rfl) (.int .i64 b1)) (ak.2 rfl) (.int .i64 b2)) (ak.2 rfl) (.int .i64 c1)) (ak.2 rfl) (.int .i64 c2)) (ak.2 rfl) (.slice aS nS cS)) (ak.2 rfl) (.bool false));have vg:=hid (iU (kC sj.out yG.out (fun g hg hm=>by have h2:=ak.1 hm;have h3:=(sj.out.lt g hg).1;omega)) uw.out);have rX:=hid (iJ CC.out yG.out (fun hm=>by have h2:=ak.1 hm;omega));go_wp2;refine fE (fH (t:=31) (fr:=(0,0)) rfl _ _ (w.heap.size+1) _ _ rfl (iI (iI (iI (iI (iI (iI (iI (iI (iI (iI (iI (iI (iI iZ.out 0 _) 1 _) 2 _) 3 _) 4 _) 5 _) 6 _) 7 _) 8 _) 9 _) 10 _) 11 _) 12 _) underlying31 rfl (by kernel_rfl)) rfl ?_;exact⟨.slice aS nS cS,by simp,by rw[<-nZ.out];exact vg.out,rX.out,HKK.out⟩
theorem UQ {w0:World}{P:Nat}{g1 g2 gx:Int->Bool->Int}{uo:Int->Int->List MV}(A:Wt w0 P g1 g2 gx uo)(Z:Nat)(ao fo goal d a x ta:Int)(ab fb aim ext bk tb m:Bool)(t:ByteArray)(w:World)(hw:Fr [] w0 w)(Ij:w0.heap.size<=Z)(hZ:w.heap[Z]?=some (.cells (kL P ao ab fo fb aim goal) 134 (0,0)))(hd:d=0\/d=1\/d=2\/d=3\/d=4\/d=5)
 (hT:∀Y,Fr [] w0 Y->Calls prog 95 #[.pointer (some ⟨P,0,none⟩),.int .i64 d,.agg #[.int .i64 fo,.bool fb],.int .i64 0] Y fun e w'=>e=.returned (.tuple #[.agg #[.int .i64 ta,.bool tb],.bool m])/\Fr [] Y w') :
 Calls prog 27 #[.pointer (some ⟨Z,0,none⟩),Rp d ext a x bk t] w fun e w'=>∃v,e=.returned (.agg (SL (if ext then ao else ta) (if ext then ab else tb) ta tb (g1 ta tb) (g2 ta tb) (gx ta tb) (g1 ta true) (g2 ta true) (g1 ta false) (g2 ta false) v m))/\w'.ownsRow w.heap.size 251 5 v (uo (if ext then ao else ta) ta).length (jH (uo (if ext then ao else ta) ta))/\w'.heap[Z]?=some (.cells (kL P (if ext then ao else ta) (if ext then ab else tb) ta tb false (if false && !aim then gx fo fb else goal)) 134 (0,0))/\Fr [Z] w w':=by
 obtain⟨ng,B5⟩:∃ng,ng=(if false && !aim then gx fo fb else goal):=⟨_,rfl⟩;rw[<-B5];have HZ:=hid hZ;have HD:=hid (fun Y=>Na d a x ext bk t Y hd)
 have xq:=hid (fun(Y:World) (hf:Fr [] w Y)=>show Calls prog 56 #[.pointer (some ⟨Z,0,none⟩),.bool false] Y fun e w'=>e=.returned (.tuple #[])/\w'.heap[Z]?=some (.cells (kL P ao ab fo fb false ng) 134 (0,0))/\Fr [Z] Y w' by
  rw[B5]
  exact Bi Z P ao fo goal (gx fo fb) ab fb aim false Y (iJ hZ hf aj) (fun Y' hf'=>A.x fo fb Y' (hw.trans (hf.trans hf'))))
 have DA:=hid (fun(Y:World) (hf:Fr [Z] w Y) (hz:Y.heap[Z]?=some (.cells (kL P ao ab fo fb false ng) 134 (0,0)))=>Nr Z P ao fo ng d ta ab fb false tb m Y hz (fun Y' hf'=>hT Y' ((uq hw hf Ij).trans hf')));have HST:=hid (fun(lR:Int) (mg:Bool) (Y:World) (hf:Fr [Z] w Y) (hz:Y.heap[Z]?=some (.cells (kL P lR mg ta tb false ng) 134 (0,0)))=>A.state Z lR ta ng mg tb false m Y (uq hw hf Ij) hz);generalize g1 ta tb=a1 at *;generalize g2 ta tb=a2 at *;generalize gx ta tb=x1 at *;generalize g1 ta true=b1 at *;generalize g2 ta true=b2 at *;generalize g1 ta false=c1 at *;generalize g2 ta false=c2 at *;obtain⟨w2,hw2⟩:∃w2,w2=(w.alloc (.cells #[.int .i64 d,.bool ext,.int .i64 a,.int .i64 x,.bool bk,.string t] 37)).alloc (.cells #[.int .i64 0,.bool false,.int .i64 0,.bool false,.int .i64 0,.int .i64 0,.int .i64 0,.int .i64 0,.int .i64 0,.int .i64 0,.int .i64 0,.slice none 0 0,.bool false] 31):=⟨_,rfl⟩;have i_:=hid (show Fr [] w w2 by rw[hw2];exact((Fr.refl [] w).alloc _).alloc _);have jO:=hid (show w2.heap[w.heap.size]?=some (.cells #[.int .i64 d,.bool ext,.int .i64 a,.int .i64 x,.bool bk,.string t] 37 (0,0)) by rw[hw2];exact iJ (iL w _) ((Fr.refl [] _).alloc _) aj)
 have HR2:=hid (show w2.heap[w.heap.size+1]?=some (.cells #[.int .i64 0,.bool false,.int .i64 0,.bool false,.int .i64 0,.int .i64 0,.int .i64 0,.int .i64 0,.int .i64 0,.int .i64 0,.int .i64 0,.slice none 0 0,.bool false] 31 (0,0)) by
  have hs:(w.alloc (.cells #[.int .i64 d,.bool ext,.int .i64 a,.int .i64 x,.bool bk,.string t] 37)).heap.size=w.heap.size+1:=by simp
  have h0:=iL (w.alloc (.cells #[.int .i64 d,.bool ext,.int .i64 a,.int .i64 x,.bool bk,.string t] 37)) (.cells #[.int .i64 0,.bool false,.int .i64 0,.bool false,.int .i64 0,.int .i64 0,.int .i64 0,.int .i64 0,.int .i64 0,.int .i64 0,.int .i64 0,.slice none 0 0,.bool false] 31)
  rw[hs]at h0
  rw[hw2];exact h0)
 have Mp:=iO HZ.out;clear A hw hZ hT B5 hd;cases ext
 ·simp only[dV,↓reduceIte]
  go_enter func27,ntmps27;go_wp2_with fail;rw[<-hw2];clear hw2;refine(HD.out w2).mono ?_;rintro e w3 ⟨rfl,hf3⟩;have jQ:=hid (i_.out.trans hf3);have HR3:=hid (iJ HR2.out hf3 aj);have E8:=hid (iJ jO.out hf3 aj);have hme:=me1 d;clear hf3 HD;go_wp2_with fail;refine(Ek d w3).mono ?_;rintro e w4 ⟨rfl,jG⟩;have jI:=hid (jQ.out.trans jG);have HR4:=hid (iJ HR3.out jG aj);have GS:=hid (iJ E8.out jG aj);clear jG hme;go_wp2_with fail;refine(xq.out w4 jI.out).mono ?_;rintro e w5 ⟨rfl,AU,kK⟩;have Db:=hid AU;have kD:=hid (show Fr [Z] w w5 from(jI.out.mono (fun _ h _=>absurd h aj):Fr [Z] w w4).trans kK);have je:=hid (iJ HR4.out kK (fun hm=>by have h2:=ak.1 hm;omega));have G2:=hid (iJ GS.out kK (fun hm=>by have h2:=ak.1 hm;omega));clear AU kK xq;go_wp2_with fail;refine(DA.out w5 kD.out Db.out).mono ?_;rintro e w6 ⟨rfl,jJ⟩;have lg:=hid (iJ Db.out jJ aj);have lu:=hid (kD.out.trans (jJ.mono (fun _ h _=>absurd h aj):Fr [Z] w5 w6));have ql:=hid (iJ je.out jJ aj);have Dd:=hid (iJ G2.out jJ aj);clear jJ DA;have y1:=iG lg.out (i:=1) (v:=.int .i64 ao) rfl;have y2:=iG lg.out (i:=2) (v:=.bool ab) rfl;have y3:=iG lg.out (i:=3) (v:=.int .i64 fo) rfl;have y4:=iG lg.out (i:=4) (v:=.bool fb) rfl;have f1:=iH lg.out 1;have f2:=iH lg.out 2;have f3:=iH lg.out 3;have f4:=iH lg.out 4;have p1:=iG Dd.out (i:=1) (v:=.bool false) rfl;have YJ:=iO lg.out;have YK:=iO Dd.out;go_wp2_with fail;obtain⟨w7,hw7⟩:∃w7,w7=((((w6.setCell ⟨Z,3,none⟩ (.int .i64 ta)).setCell ⟨Z,4,none⟩ (.bool tb)).setCell ⟨Z,1,none⟩ (.int .i64 ta)).setCell ⟨Z,2,none⟩ (.bool tb)).alloc (.cells #[.int .i64 ta,.bool tb] 26):=⟨_,rfl⟩;rw[<-hw7];have rX:=hid (show w7.heap[Z]?=some (.cells (kL P ta tb ta tb false ng) 134 (0,0)) by rw[hw7];exact iJ (iI (iI (iI (iI lg.out 3 _) 4 _) 1 _) 2 _) ((Fr.refl [] _).alloc _) aj);have tA:=hid (show Fr [Z] w w7 by rw[hw7];exact((((lu.out.set (i:=3) (ak.2 rfl) (.int .i64 ta)).set (i:=4) (ak.2 rfl) (.bool tb)).set (i:=1) (ak.2 rfl) (.int .i64 ta)).set (i:=2) (ak.2 rfl) (.bool tb)).alloc _);have AR:=hid (show Fr [Z] w6 w7 by rw[hw7];exact(((((Fr.refl [Z] w6).set (i:=3) (ak.2 rfl) (.int .i64 ta)).set (i:=4) (ak.2 rfl) (.bool tb)).set (i:=1) (ak.2 rfl) (.int .i64 ta)).set (i:=2) (ak.2 rfl) (.bool tb)).alloc _);have wZ:=hid (iJ ql.out AR.out (fun hm=>by have h2:=ak.1 hm;omega));clear hw7 y1 y2 y3 y4 f1 f2 f3 f4 p1;refine(HST.out ta tb w7 tA.out rX.out).mono ?_;rintro e w8 ⟨vS,rfl,l_,oL⟩;obtain⟨aS,cS,AH⟩:=iW l_;subst AH;have sj:=hid l_;have iZ:=hid (iJ wZ.out oL aj);have AN:=hid (show Fr [Z] w w8 from tA.out.trans (oL.mono (fun _ h _=>absurd h aj):Fr [Z] w7 w8));have CC:=hid (iJ rX.out oL aj);have hlow:=iO wZ.out;have uw:=hid (show w.heap.size<=w7.heap.size by omega);obtain⟨nS,uy⟩:∃nS,nS=(uo ta ta).length:=⟨_,rfl⟩;have nZ:=hid uy;rw[<-uy]at sj ⊢;clear l_ oL HST uy;have r0:=iG iZ.out (i:=0) (v:=.int .i64 0) rfl;have k0:=iH iZ.out 0;have r1:=iG iZ.out (i:=1) (v:=.bool false) rfl;have k1:=iH iZ.out 1;have r2:=iG iZ.out (i:=2) (v:=.int .i64 0) rfl;have k2:=iH iZ.out 2;have r3:=iG iZ.out (i:=3) (v:=.bool false) rfl;have k3:=iH iZ.out 3;have r4:=iG iZ.out (i:=4) (v:=.int .i64 0) rfl;have k4:=iH iZ.out 4;have r5:=iG iZ.out (i:=5) (v:=.int .i64 0) rfl;have k5:=iH iZ.out 5;have r6:=iG iZ.out (i:=6) (v:=.int .i64 0) rfl;have k6:=iH iZ.out 6;have r7:=iG iZ.out (i:=7) (v:=.int .i64 0) rfl;have k7:=iH iZ.out 7;have r8:=iG iZ.out (i:=8) (v:=.int .i64 0) rfl;have k8:=iH iZ.out 8;have r9:=iG iZ.out (i:=9) (v:=.int .i64 0) rfl;have k9:=iH iZ.out 9;have Ig:=iG iZ.out (i:=10) (v:=.int .i64 0) rfl;have k10:=iH iZ.out 10;have Ih:=iG iZ.out (i:=11) (v:=.slice none 0 0) rfl;have k11:=iH iZ.out 11;have Ii:=iG iZ.out (i:=12) (v:=.bool false) rfl;have k12:=iH iZ.out 12;have HKK:=hid (Fr.iK (b:=w.heap.size+1) (i:=12) (v:=.bool m) (Fr.iK (b:=w.heap.size+1) (i:=11) (v:=.slice aS nS cS) (Fr.iK (b:=w.heap.size+1) (i:=10) (v:=.int .i64 c2) (Fr.iK (b:=w.heap.size+1) (i:=9) (v:=.int .i64 c1) (Fr.iK (b:=w.heap.size+1) (i:=8) (v:=.int .i64 b2) (Fr.iK (b:=w.heap.size+1) (i:=7) (v:=.int .i64 b1) (Fr.iK (b:=w.heap.size+1) (i:=6) (v:=.int .i64 x1) (Fr.iK (b:=w.heap.size+1) (i:=5) (v:=.int .i64 a2) (Fr.iK (b:=w.heap.size+1) (i:=4) (v:=.int .i64 a1) (Fr.iK (b:=w.heap.size+1) (i:=3) (v:=.bool tb) (Fr.iK (b:=w.heap.size+1) (i:=2) (v:=.int .i64 ta) (Fr.iK (b:=w.heap.size+1) (i:=1) (v:=.bool tb) (Fr.iK (b:=w.heap.size+1) (i:=0) (v:=.int .i64 ta) AN.out (aF _)) (aF _)) (aF _)) (aF _)) (aF _)) (aF _)) (aF _)) (aF _)) (aF _)) (aF _)) (aF _)) (aF _)) (aF _));have yG:=hid (Fr.set (b:=w.heap.size+1) (i:=12) (Fr.set (b:=w.heap.size+1) (i:=11) (Fr.set (b:=w.heap.size+1) (i:=10) (Fr.set (b:=w.heap.size+1) (i:=9) (Fr.set (b:=w.heap.size+1) (i:=8) (Fr.set (b:=w.heap.size+1) (i:=7) (Fr.set (b:=w.heap.size+1) (i:=6) (Fr.set (b:=w.heap.size+1) (i:=5) (Fr.set (b:=w.heap.size+1) (i:=4) (Fr.set (b:=w.heap.size+1) (i:=3) (Fr.set (b:=w.heap.size+1) (i:=2) (Fr.set (b:=w.heap.size+1) (i:=1) (Fr.set (b:=w.heap.size+1) (i:=0) (Fr.refl [w.heap.size+1] w8) (ak.2 rfl) (.int .i64 ta)) (ak.2 rfl) (.bool tb)) (ak.2 rfl) (.int .i64 ta)) (ak.2 rfl) (.bool tb)) (ak.2 rfl) (.int .i64 a1)) (ak.2 rfl) (.int .i64 a2)) (ak.2 rfl) (.int .i64 x1)) (ak.2 rfl) (.int .i64 b1)) (ak.2 rfl) (.int .i64 b2)) (ak.2 rfl) (.int .i64 c1)) (ak.2 rfl) (.int .i64 c2)) (ak.2 rfl) (.slice aS nS cS)) (ak.2 rfl) (.bool m));have vg:=hid (iU (kC sj.out yG.out (fun g hg hm=>by have h2:=ak.1 hm;have h3:=(sj.out.lt g hg).1;omega)) uw.out);have rX:=hid (iJ CC.out yG.out (fun hm=>by have h2:=ak.1 hm;omega));go_wp2;refine fE (fH (t:=31) (fr:=(0,0)) rfl _ _ (w.heap.size+1) _ _ rfl (iI (iI (iI (iI (iI (iI (iI (iI (iI (iI (iI (iI (iI iZ.out 0 _) 1 _) 2 _) 3 _) 4 _) 5 _) 6 _) 7 _) 8 _) 9 _) 10 _) 11 _) 12 _) underlying31 rfl (by kernel_rfl)) rfl ?_;exact⟨.slice aS nS cS,by simp,by rw[<-nZ.out];exact vg.out,rX.out,HKK.out⟩
 ·simp only[↓reduceIte]
  go_enter func27,ntmps27;go_wp2_with fail;rw[<-hw2];clear hw2;refine(HD.out w2).mono ?_;rintro e w3 ⟨rfl,hf3⟩;have jQ:=hid (i_.out.trans hf3);have HR3:=hid (iJ HR2.out hf3 aj);have E8:=hid (iJ jO.out hf3 aj);have hme:=me1 d;clear hf3 HD;go_wp2_with fail;refine(Ek d w3).mono ?_;rintro e w4 ⟨rfl,jG⟩;have jI:=hid (jQ.out.trans jG);have HR4:=hid (iJ HR3.out jG aj);have GS:=hid (iJ E8.out jG aj);clear jG hme;go_wp2_with fail;refine(xq.out w4 jI.out).mono ?_;rintro e w5 ⟨rfl,AU,kK⟩;have Db:=hid AU;have kD:=hid (show Fr [Z] w w5 from(jI.out.mono (fun _ h _=>absurd h aj):Fr [Z] w w4).trans kK);have je:=hid (iJ HR4.out kK (fun hm=>by have h2:=ak.1 hm;omega));have G2:=hid (iJ GS.out kK (fun hm=>by have h2:=ak.1 hm;omega));clear AU kK xq;go_wp2_with fail;refine(DA.out w5 kD.out Db.out).mono ?_;rintro e w6 ⟨rfl,jJ⟩;have lg:=hid (iJ Db.out jJ aj);have lu:=hid (kD.out.trans (jJ.mono (fun _ h _=>absurd h aj):Fr [Z] w5 w6));have ql:=hid (iJ je.out jJ aj);have Dd:=hid (iJ G2.out jJ aj);clear jJ DA;have y1:=iG lg.out (i:=1) (v:=.int .i64 ao) rfl;have y2:=iG lg.out (i:=2) (v:=.bool ab) rfl;have y3:=iG lg.out (i:=3) (v:=.int .i64 fo) rfl;have y4:=iG lg.out (i:=4) (v:=.bool fb) rfl;have f1:=iH lg.out 1;have f2:=iH lg.out 2;have f3:=iH lg.out 3;have f4:=iH lg.out 4;have p1:=iG Dd.out (i:=1) (v:=.bool true) rfl;have YJ:=iO lg.out;have YK:=iO Dd.out;go_wp2_with fail;obtain⟨w7,hw7⟩:∃w7,w7=((w6.setCell ⟨Z,3,none⟩ (.int .i64 ta)).setCell ⟨Z,4,none⟩ (.bool tb)).alloc (.cells #[.int .i64 ta,.bool tb] 26):=⟨_,rfl⟩;rw[<-hw7];have rX:=hid (show w7.heap[Z]?=some (.cells (kL P ao ab ta tb false ng) 134 (0,0)) by rw[hw7];exact iJ (iI (iI lg.out 3 _) 4 _) ((Fr.refl [] _).alloc _) aj);have tA:=hid (show Fr [Z] w w7 by rw[hw7];exact((lu.out.set (i:=3) (ak.2 rfl) (.int .i64 ta)).set (i:=4) (ak.2 rfl) (.bool tb)).alloc _);have AR:=hid (show Fr [Z] w6 w7 by rw[hw7];exact(((Fr.refl [Z] w6).set (i:=3) (ak.2 rfl) (.int .i64 ta)).set (i:=4) (ak.2 rfl) (.bool tb)).alloc _);have wZ:=hid (iJ ql.out AR.out (fun hm=>by have h2:=ak.1 hm;omega));clear hw7 y1 y2 y3 y4 f1 f2 f3 f4 p1;refine(HST.out ao ab w7 tA.out rX.out).mono ?_;rintro e w8 ⟨vS,rfl,l_,oL⟩;obtain⟨aS,cS,AH⟩:=iW l_;subst AH;have sj:=hid l_;have iZ:=hid (iJ wZ.out oL aj);have AN:=hid (show Fr [Z] w w8 from tA.out.trans (oL.mono (fun _ h _=>absurd h aj):Fr [Z] w7 w8));have CC:=hid (iJ rX.out oL aj);have hlow:=iO wZ.out;have uw:=hid (show w.heap.size<=w7.heap.size by omega);obtain⟨nS,uy⟩:∃nS,nS=(uo ao ta).length:=⟨_,rfl⟩;have nZ:=hid uy;rw[<-uy]at sj ⊢;clear l_ oL HST uy;have r0:=iG iZ.out (i:=0) (v:=.int .i64 0) rfl;have k0:=iH iZ.out 0;have r1:=iG iZ.out (i:=1) (v:=.bool false) rfl;have k1:=iH iZ.out 1;have r2:=iG iZ.out (i:=2) (v:=.int .i64 0) rfl;have k2:=iH iZ.out 2;have r3:=iG iZ.out (i:=3) (v:=.bool false) rfl;have k3:=iH iZ.out 3;have r4:=iG iZ.out (i:=4) (v:=.int .i64 0) rfl;have k4:=iH iZ.out 4;have r5:=iG iZ.out (i:=5) (v:=.int .i64 0) rfl;have k5:=iH iZ.out 5;have r6:=iG iZ.out (i:=6) (v:=.int .i64 0) rfl;have k6:=iH iZ.out 6;have r7:=iG iZ.out (i:=7) (v:=.int .i64 0) rfl;have k7:=iH iZ.out 7;have r8:=iG iZ.out (i:=8) (v:=.int .i64 0) rfl;have k8:=iH iZ.out 8;have r9:=iG iZ.out (i:=9) (v:=.int .i64 0) rfl;have k9:=iH iZ.out 9;have Ig:=iG iZ.out (i:=10) (v:=.int .i64 0) rfl;have k10:=iH iZ.out 10;have Ih:=iG iZ.out (i:=11) (v:=.slice none 0 0) rfl;have k11:=iH iZ.out 11;have Ii:=iG iZ.out (i:=12) (v:=.bool false) rfl;have k12:=iH iZ.out 12;have HKK:=hid (Fr.iK (b:=w.heap.size+1) (i:=12) (v:=.bool m) (Fr.iK (b:=w.heap.size+1) (i:=11) (v:=.slice aS nS cS) (Fr.iK (b:=w.heap.size+1) (i:=10) (v:=.int .i64 c2) (Fr.iK (b:=w.heap.size+1) (i:=9) (v:=.int .i64 c1) (Fr.iK (b:=w.heap.size+1) (i:=8) (v:=.int .i64 b2) (Fr.iK (b:=w.heap.size+1) (i:=7) (v:=.int .i64 b1) (Fr.iK (b:=w.heap.size+1) (i:=6) (v:=.int .i64 x1) (Fr.iK (b:=w.heap.size+1) (i:=5) (v:=.int .i64 a2) (Fr.iK (b:=w.heap.size+1) (i:=4) (v:=.int .i64 a1) (Fr.iK (b:=w.heap.size+1) (i:=3) (v:=.bool tb) (Fr.iK (b:=w.heap.size+1) (i:=2) (v:=.int .i64 ta) (Fr.iK (b:=w.heap.size+1) (i:=1) (v:=.bool ab) (Fr.iK (b:=w.heap.size+1) (i:=0) (v:=.int .i64 ao) AN.out (aF _)) (aF _)) (aF _)) (aF _)) (aF _)) (aF _)) (aF _)) (aF _)) (aF _)) (aF _)) (aF _)) (aF _)) (aF _));have yG:=hid (Fr.set (b:=w.heap.size+1) (i:=12) (Fr.set (b:=w.heap.size+1) (i:=11) (Fr.set (b:=w.heap.size+1) (i:=10) (Fr.set (b:=w.heap.size+1) (i:=9) (Fr.set (b:=w.heap.size+1) (i:=8) (Fr.set (b:=w.heap.size+1) (i:=7) (Fr.set (b:=w.heap.size+1) (i:=6) (Fr.set (b:=w.heap.size+1) (i:=5) (Fr.set (b:=w.heap.size+1) (i:=4) (Fr.set (b:=w.heap.size+1) (i:=3) (Fr.set (b:=w.heap.size+1) (i:=2) (Fr.set (b:=w.heap.size+1) (i:=1) (Fr.set (b:=w.heap.size+1) (i:=0) (Fr.refl [w.heap.size+1] w8) (ak.2 rfl) (.int .i64 ao)) (ak.2 rfl) (.bool ab)) (ak.2 rfl) (.int .i64 ta)) (ak.2 rfl) (.bool tb)) (ak.2 rfl) (.int .i64 a1)) (ak.2 rfl) (.int .i64 a2)) (ak.2 rfl) (.int .i64 x1)) (ak.2 rfl) (.int .i64 b1)) (ak.2 rfl) (.int .i64 b2)) (ak.2 rfl) (.int .i64 c1)) (ak.2 rfl) (.int .i64 c2)) (ak.2 rfl) (.slice aS nS cS)) (ak.2 rfl) (.bool m));have vg:=hid (iU (kC sj.out yG.out (fun g hg hm=>by have h2:=ak.1 hm;have h3:=(sj.out.lt g hg).1;omega)) uw.out);have rX:=hid (iJ CC.out yG.out (fun hm=>by have h2:=ak.1 hm;omega));go_wp2;refine fE (fH (t:=31) (fr:=(0,0)) rfl _ _ (w.heap.size+1) _ _ rfl (iI (iI (iI (iI (iI (iI (iI (iI (iI (iI (iI (iI (iI iZ.out 0 _) 1 _) 2 _) 3 _) 4 _) 5 _) 6 _) 7 _) 8 _) 9 _) 10 _) 11 _) 12 _) underlying31 rfl (by kernel_rfl)) rfl ?_;exact⟨.slice aS nS cS,by simp,by rw[<-nZ.out];exact vg.out,rX.out,HKK.out⟩
end Go.Proofs.YtnakejhohdbfdacGreatDoor

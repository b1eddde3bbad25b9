import Derived.Test.YtnakejhohdbfdacGreatDoorKQcE
import Derived.Test.YtnakejhohdbfdacGreatDoorKDcA
import Derived.Test.YtnakejhohdbfdacGreatDoorKSpC
import Derived.Laws.Rows
import Derived.Deep.RegionLaw
import Derived.Deep.Upon
import Derived.Laws.IdiomCopy
namespace Go.Proofs.YtnakejhohdbfdacGreatDoor
open Go.RowKit Lev Lay Bnd
abbrev sesC (P:Nat)(ao:Int)(ab:Bool)(fo:Int)(fb aim:Bool)(goal:Int):Array Value:=#[.pointer (some ⟨P,0,none⟩),.int .i64 ao,.bool ab,.int .i64 fo,.bool fb,.bool aim,.int .i64 goal]
abbrev stC (ao:Int)(ab:Bool)(fo:Int)(fb:Bool)(a1 a2 gx b1 b2 c1 c2:Int)(v:Value)(moved:Bool):Array Value:=#[.int .i64 ao,.bool ab,.int .i64 fo,.bool fb,.int .i64 a1,.int .i64 a2,.int .i64 gx,.int .i64 b1,.int .i64 b2,.int .i64 c1,.int .i64 c2,v,.bool moved]
set_option maxRecDepth 10000 in
set_option maxHeartbeats 4000000 in
theorem state_any (Z P:Nat)(ao fo goal a1 a2 gx b1 b2 c1 c2:Int)(ab fb aim moved:Bool)(M:List Spn)(w:World)(hZ:w.heap[Z]?=some (.cells (sesC P ao ab fo fb aim goal) 134 (0,0)))
 (hG:∀Y,Fr [] w Y→Calls Tryz.prog 62 #[.pointer (some ⟨P,0,none⟩),.agg #[.int .i64 fo,.bool fb]] Y fun e w'=>e=.returned (.agg #[.int .i64 a1,.int .i64 a2])∧Fr [] Y w')
 (hX:∀Y,Fr [] w Y→Calls Tryz.prog 63 #[.pointer (some ⟨P,0,none⟩),.agg #[.int .i64 fo,.bool fb]] Y fun e w'=>e=.returned (.int .i64 gx)∧Fr [] Y w')
 (hB:∀Y,Fr [] w Y→Calls Tryz.prog 62 #[.pointer (some ⟨P,0,none⟩),.agg #[.int .i64 fo,.bool true]] Y fun e w'=>e=.returned (.agg #[.int .i64 b1,.int .i64 b2])∧Fr [] Y w')
 (hC:∀Y,Fr [] w Y→Calls Tryz.prog 62 #[.pointer (some ⟨P,0,none⟩),.agg #[.int .i64 fo,.bool false]] Y fun e w'=>e=.returned (.agg #[.int .i64 c1,.int .i64 c2])∧Fr [] Y w')
 (hS:∀Y,Fr [] w Y→Calls Tryz.prog 64 #[.pointer (some ⟨P,0,none⟩),.int .i64 ao,.int .i64 fo] Y fun e w'=>∃v,e=.returned v∧w'.ownsRow Y.heap.size 251 5 v M.length (spCells M)∧Fr [] Y w') :
 Calls Tryz.prog 31 #[.pointer (some ⟨Z,0,none⟩),.bool moved] w fun e w'=>∃v,e=.returned (.agg (stC ao ab fo fb a1 a2 gx b1 b2 c1 c2 v moved))∧w'.ownsRow w.heap.size 251 5 v M.length (spCells M)∧Fr [] w w':=by
 have HZ:=hid hZ;have HG:=hid hG;have HX:=hid hX;have HB:=hid hB;have HC:=hid hC;have HS:=hid hS;have z0:=obj_cell hZ (i:=0) (v:=.pointer (some ⟨P,0,none⟩)) rfl;have z1:=obj_cell hZ (i:=1) (v:=.int .i64 ao) rfl;have z2:=obj_cell hZ (i:=2) (v:=.bool ab) rfl;have z3:=obj_cell hZ (i:=3) (v:=.int .i64 fo) rfl;have z4:=obj_cell hZ (i:=4) (v:=.bool fb) rfl;have hZl:=obj_lt hZ;clear hZ hG hX hB hC hS;obtain⟨wb,hwb⟩:∃wb,wb=w.alloc (.cells #[.int .i64 0,.bool false,.int .i64 0,.bool false,.int .i64 0,.int .i64 0,.int .i64 0,.int .i64 0,.int .i64 0,.int .i64 0,.int .i64 0,.slice none 0 0,.bool false] 31):=⟨_,rfl⟩;have HFb:=hid (show Fr [] w wb by rw[hwb];exact(Fr.refl [] w).alloc _);have HRb:=hid (show wb.heap[w.heap.size]?=some (.cells #[.int .i64 0,.bool false,.int .i64 0,.bool false,.int .i64 0,.int .i64 0,.int .i64 0,.int .i64 0,.int .i64 0,.int .i64 0,.int .i64 0,.slice none 0 0,.bool false] 31 (0,0)) by rw[hwb];exact obj_new w _);have HWB:=hid hwb;clear hwb;go_enter Tryz.func31,Tryz.ntmps31;go_wp2_with fail;rw[←HWB.out];have y0:=HFb.out.cell z0 List.not_mem_nil;have y3:=HFb.out.cell z3 List.not_mem_nil;go_quiet (fail);obtain⟨w1,hw1⟩:∃w1,w1=wb.drewN nq:=⟨_,rfl⟩;have HF1:=hid (show Fr [] wb w1 by rw[hw1];exact fr_drewN _ _);rw[←hw1];clear hw1 y0 y3;have HG1:=hid (HFb.out.trans HF1.out);have x0:=HG1.out.cell z0 List.not_mem_nil;have x1:=HG1.out.cell z1 List.not_mem_nil;have x2:=HG1.out.cell z2 List.not_mem_nil;have x3:=HG1.out.cell z3 List.not_mem_nil;have x4:=HG1.out.cell z4 List.not_mem_nil;clear z0 z1 z2 z3 z4;go_wp2_with fail;have HKF:=hid (fun(wz:World) (hf:Fr [] w1 wz)=>show wz.cell? ⟨Z,0,none⟩=some (.pointer (some ⟨P,0,none⟩))∧wz.cell? ⟨Z,1,none⟩=some (.int .i64 ao)∧wz.cell? ⟨Z,2,none⟩=some (.bool ab)∧wz.cell? ⟨Z,3,none⟩=some (.int .i64 fo)∧wz.cell? ⟨Z,4,none⟩=some (.bool fb)from⟨hf.cell x0 List.not_mem_nil,hf.cell x1 List.not_mem_nil,hf.cell x2 List.not_mem_nil,hf.cell x3 List.not_mem_nil,hf.cell x4 List.not_mem_nil⟩);have HZ1:=hid (obj_fr HZ.out HG1.out List.not_mem_nil)
 have HKZ:=hid (fun(wz:World) (hf:Fr [] w wz)=>show wz.cell? ⟨Z,0,none⟩=some (.pointer (some ⟨P,0,none⟩))∧wz.cell? ⟨Z,1,none⟩=some (.int .i64 ao)∧wz.cell? ⟨Z,2,none⟩=some (.bool ab)∧wz.cell? ⟨Z,3,none⟩=some (.int .i64 fo)∧wz.cell? ⟨Z,4,none⟩=some (.bool fb)from
  have hz:=obj_fr HZ.out hf List.not_mem_nil
  ⟨obj_cell hz (i:=0) rfl,obj_cell hz (i:=1) rfl,obj_cell hz (i:=2) rfl,obj_cell hz (i:=3) rfl,obj_cell hz (i:=4) rfl⟩)
 go_region_held (fun wz=>wz.cell? ⟨Z,0,none⟩=some (.pointer (some ⟨P,0,none⟩))∧wz.cell? ⟨Z,1,none⟩=some (.int .i64 ao)∧wz.cell? ⟨Z,2,none⟩=some (.bool ab)∧wz.cell? ⟨Z,3,none⟩=some (.int .i64 fo)∧wz.cell? ⟨Z,4,none⟩=some (.bool fb)) (first | with_reducible exact HS1 | with_reducible exact HKZ.out _ HKK.out | go_keep)
  (first
    | (go_at_call 62;have hq:=Hw4;clear hq;refine(HC.out _ ?fa).mono ?_;(case fa=>exact HG1.out.trans Hw4.out);rintro e w5 ⟨rfl,hf⟩;have Hw5:=hid (show Fr [] w1 w5 from Hw4.out.trans hf);have HS1:=HKF.out _ Hw5.out;clear hf)
    | (go_at_call 62;have hq:=Hw3;clear hq;refine(HB.out _ ?fa).mono ?_;(case fa=>exact HG1.out.trans Hw3.out);rintro e w4 ⟨rfl,hf⟩;have Hw4:=hid (show Fr [] w1 w4 from Hw3.out.trans hf);have HS1:=HKF.out _ Hw4.out;clear hf)
    | (go_at_call 62;refine(HG.out _ ?fa).mono ?_;(case fa=>exact HG1.out.drew);rintro e w2 ⟨rfl,hf⟩;have Hw2:=hid (show Fr [] w1 w2 from Fr.trans (Fr.refl [] w1).drew hf);have HS1:=HKF.out _ Hw2.out;clear hf)
    | (go_at_call 63;refine(HX.out _ ?fa).mono ?_;(case fa=>exact HG1.out.trans Hw2.out);rintro e w3 ⟨rfl,hf⟩;have Hw3:=hid (show Fr [] w1 w3 from Hw2.out.trans hf);have HS1:=HKF.out _ Hw3.out;clear hf)
    | (go_at_call 64;refine(HS.out _ ?fa).mono ?_;(case fa=>exact HG1.out.trans Hw5.out);rintro e w6 ⟨vS,rfl,own6,hf⟩;obtain⟨aS,cS,hvS⟩:=owns_slice own6;subst hvS;have HW6:=hid (show Fr [] w1 w6 from Hw5.out.trans hf);have HG6:=hid (HG1.out.trans HW6.out);have HO6:=hid own6;have HS1:=HKF.out _ HW6.out;have HR6:=hid (obj_fr HRb.out (HF1.out.trans HW6.out) List.not_mem_nil);have r0:=obj_cell HR6.out (i:=0) (v:=.int .i64 0) rfl;have k0:=obj_froz HR6.out 0;have r1:=obj_cell HR6.out (i:=1) (v:=.bool false) rfl;have k1:=obj_froz HR6.out 1;have r2:=obj_cell HR6.out (i:=2) (v:=.int .i64 0) rfl;have k2:=obj_froz HR6.out 2;have r3:=obj_cell HR6.out (i:=3) (v:=.bool false) rfl;have k3:=obj_froz HR6.out 3;have r4:=obj_cell HR6.out (i:=4) (v:=.int .i64 0) rfl;have k4:=obj_froz HR6.out 4;have r5:=obj_cell HR6.out (i:=5) (v:=.int .i64 0) rfl;have k5:=obj_froz HR6.out 5;have r6:=obj_cell HR6.out (i:=6) (v:=.int .i64 0) rfl;have k6:=obj_froz HR6.out 6;have r7:=obj_cell HR6.out (i:=7) (v:=.int .i64 0) rfl;have k7:=obj_froz HR6.out 7;have r8:=obj_cell HR6.out (i:=8) (v:=.int .i64 0) rfl;have k8:=obj_froz HR6.out 8;have r9:=obj_cell HR6.out (i:=9) (v:=.int .i64 0) rfl;have k9:=obj_froz HR6.out 9;have r10:=obj_cell HR6.out (i:=10) (v:=.int .i64 0) rfl;have k10:=obj_froz HR6.out 10;have r11:=obj_cell HR6.out (i:=11) (v:=.slice none 0 0) rfl;have k11:=obj_froz HR6.out 11;have r12:=obj_cell HR6.out (i:=12) (v:=.bool false) rfl;have k12:=obj_froz HR6.out 12;have HKK:=hid (Fr.set_new (b:=w.heap.size) (i:=12) (v:=.bool moved) (Fr.set_new (b:=w.heap.size) (i:=11) (v:=.slice aS M.length cS) (Fr.set_new (b:=w.heap.size) (i:=10) (v:=.int .i64 c2) (Fr.set_new (b:=w.heap.size) (i:=9) (v:=.int .i64 c1) (Fr.set_new (b:=w.heap.size) (i:=8) (v:=.int .i64 b2) (Fr.set_new (b:=w.heap.size) (i:=7) (v:=.int .i64 b1) (Fr.set_new (b:=w.heap.size) (i:=6) (v:=.int .i64 gx) (Fr.set_new (b:=w.heap.size) (i:=5) (v:=.int .i64 a2) (Fr.set_new (b:=w.heap.size) (i:=4) (v:=.int .i64 a1) (Fr.set_new (b:=w.heap.size) (i:=3) (v:=.bool fb) (Fr.set_new (b:=w.heap.size) (i:=2) (v:=.int .i64 fo) (Fr.set_new (b:=w.heap.size) (i:=1) (v:=.bool ab) (Fr.set_new (b:=w.heap.size) (i:=0) (v:=.int .i64 ao) HG6.out (Nat.le_refl _)) (Nat.le_refl _)) (Nat.le_refl _)) (Nat.le_refl _)) (Nat.le_refl _)) (Nat.le_refl _)) (Nat.le_refl _)) (Nat.le_refl _)) (Nat.le_refl _)) (Nat.le_refl _)) (Nat.le_refl _)) (Nat.le_refl _)) (Nat.le_refl _));have HSF:=hid (Fr.set (b:=w.heap.size) (i:=12) (Fr.set (b:=w.heap.size) (i:=11) (Fr.set (b:=w.heap.size) (i:=10) (Fr.set (b:=w.heap.size) (i:=9) (Fr.set (b:=w.heap.size) (i:=8) (Fr.set (b:=w.heap.size) (i:=7) (Fr.set (b:=w.heap.size) (i:=6) (Fr.set (b:=w.heap.size) (i:=5) (Fr.set (b:=w.heap.size) (i:=4) (Fr.set (b:=w.heap.size) (i:=3) (Fr.set (b:=w.heap.size) (i:=2) (Fr.set (b:=w.heap.size) (i:=1) (Fr.set (b:=w.heap.size) (i:=0) (Fr.refl [w.heap.size] w6) (List.mem_singleton.2 rfl) (.int .i64 ao)) (List.mem_singleton.2 rfl) (.bool ab)) (List.mem_singleton.2 rfl) (.int .i64 fo)) (List.mem_singleton.2 rfl) (.bool fb)) (List.mem_singleton.2 rfl) (.int .i64 a1)) (List.mem_singleton.2 rfl) (.int .i64 a2)) (List.mem_singleton.2 rfl) (.int .i64 gx)) (List.mem_singleton.2 rfl) (.int .i64 b1)) (List.mem_singleton.2 rfl) (.int .i64 b2)) (List.mem_singleton.2 rfl) (.int .i64 c1)) (List.mem_singleton.2 rfl) (.int .i64 c2)) (List.mem_singleton.2 rfl) (.slice aS M.length cS)) (List.mem_singleton.2 rfl) (.bool moved));have hlow:=obj_lt (obj_fr HRb.out (HF1.out.trans Hw5.out) List.not_mem_nil);have HO7:=hid (owns_low (owns_fr HO6.out HSF.out (fun g hg hm=>by have h2:=List.mem_singleton.1 hm;have h3:=(HO6.out.lt g hg).1;omega)) (Nat.le_of_lt hlow));clear hf own6 hlow))
 all_goals (
  go_wp2
  refine bodyPost_ret (results_cell_row (t:=31) (fr:=(0,0)) rfl _ _ w.heap.size _ _ rfl (obj_set (obj_set (obj_set (obj_set (obj_set (obj_set (obj_set (obj_set (obj_set (obj_set (obj_set (obj_set (obj_set HR6.out 0 _) 1 _) 2 _) 3 _) 4 _) 5 _) 6 _) 7 _) 8 _) 9 _) 10 _) 11 _) 12 _) Tryz.underlying31 rfl (by kernel_rfl)) rfl ?_
  refine⟨.slice aS M.length cS,by simp,HO7.out,HKK.out⟩)
theorem Fine.gap_in {Bd V:List Int}{z:Int}{Ls:List Ln}(F:Fine Bd V z Ls)(hK0:0<Ls.length)(off:Int)(back:Bool):(gapL Bd V z Ls off back).1<Ls.length∧(gapL Bd V z Ls off back).2≤(lnN Ls (gapL Bd V z Ls off back).1).o.length:=by
 by_cases hV:V.length=0
 ·have h1:gapL Bd V z Ls off back=(0,0):=by unfold gapL;rw[if_pos hV]
  rw[h1];exact⟨hK0,Nat.zero_le _⟩
 ·obtain⟨c,i,k,_,e1,_,hi,hk⟩:=F.gap (by omega) off back
  rw[gapL_eq (by omega) e1 hi hk];refine⟨hi.1,?_⟩;have:=hk.1;dsimp only;split <;> omega
end Go.Proofs.YtnakejhohdbfdacGreatDoor
namespace Go.Proofs.YtnakejhohdbfdacGreatDoor.Cls.Dc
open Go.RowKit Dec Kin Bnd Lay Lev
theorem brTo_of {B:List Int}{z:Int}{Br:List Int}:∀k,(∀j,j<k→(if j=0 then 0 else nth Br (j - 1))<nth Br j∧nth Br j<z∧B.contains (nth Br j)=true)→Lay.brTo B z Br k=true
 | 0,_=>rfl
 | k+1,h=>by
   obtain⟨h1,h2,h3⟩:=h k (Nat.lt_succ_self _);rw[Lay.brTo,brTo_of k (fun j hj=>h j (by omega)),decide_eq_true h1,decide_eq_true h2,h3];rfl
theorem bps_nth (s:ByteArray)(n:Nat)(ls:List Nat){k:Nat}(h:k<ls.length):nth (Wr.bps s n ls) k=((pos s (nix (bix s n) (nix ls k)):Nat):Int):=by simp[Wr.bps,nth,nix,h]
theorem wrp_ok {s:ByteArray}{n:Nat}(hend:Dec.Ends s n)(W:List Int)(R:Int):Lay.brTo (bnd s n) (s.size:Nat) (Wr.wrp s n W R) (Wr.wrp s n W R).length=true:=by
 obtain⟨ls,hls⟩:∃ls,ls=Wr.brk (Wr.ln1 (Wr.blk s n) (Wr.cw s n W) R (cn s n)) (cn s n) 0:=⟨_,rfl⟩;have hw:Wr.wrp s n W R=Wr.bps s n ls:=by rw[hls];rfl
 have hl:(Wr.bps s n ls).length=ls.length:=by simp[Wr.bps]
 rw[hw,hl];have ho:∀f,f<cn s n→0<Wr.ln1 (Wr.blk s n) (Wr.cw s n W) R (cn s n) f∧f+Wr.ln1 (Wr.blk s n) (Wr.cw s n W) R (cn s n) f≤cn s n:=fun f hf=>Wr.ln1_in hf
 have hlt:∀a b,a<b→b≤cn s n→pos s (nix (bix s n) a)<pos s (nix (bix s n) b):=fun a b hab hb=>pos_mono s _ _ (nix_lt (bix_sorted s n) hab (by unfold cn at hb;have:=(bix_len s n).2.1;omega))
 have hend2:pos s (nix (bix s n) (cn s n))=s.size:=by
  have h:=bix_last s n;rw[←hend.1];exact congrArg (pos s) h
 refine brTo_of _ (fun j hj=>?_);have h:=(Wr.brk_at ho (cn s n) 0 (by omega) (Nat.zero_le _) j (by rw[←hls];omega)).1 (by rw[←hls];exact hj);rw[←hls]at h;obtain⟨h1,h2,h3⟩:=h;have h4:=(ho _ h1).1;have hpj:=bps_nth s n ls hj;rw[hpj];refine⟨?_,?_,?_⟩
 ·cases j with
  | zero =>
    rw[if_pos rfl];have h5:=hlt 0 (nix ls 0) (by omega) (by omega);omega
  | succ i =>
    rw[if_neg (by omega),Nat.add_sub_cancel,bps_nth s n ls (by omega)];have e:nix (0 :: ls) (i+1)=nix ls i:=rfl;rw[e]at h1 h2 h4;have h5:=hlt (nix ls i) (nix ls (i+1)) (by omega) (by omega);omega
 ·have h5:=hlt _ _ h3 (Nat.le_refl _)
  rw[hend2]at h5;omega
 ·have h5:=Wr.bnd_get hend (i:=nix ls j) (by omega)
  have h6:=Wr.bnd_len hend;rw[List.contains_iff_mem,←h5];simp[List.getD,show nix ls j<(bnd s n).length by omega]
theorem anyB_none {K:List Int}:∀k,(∀j,j<k→nth K j≠10)→anyB K k=false
 | 0,_=>rfl
 | k+1,h=>by
   rw[anyB,anyB_none k (fun j hj=>h j (by omega)),Bool.false_or];have:=h k (Nat.lt_succ_self _);simpa using this
theorem chk_doc {s:ByteArray}{n:Nat}(hend:Dec.Ends s n)(hs:s.size≤400){b:Int}(hb:b=0∨b=1∨b=2){na wi:Int}(hna:0≤na∧na≤1073741824)(hwi:0≤wi∧wi≤1073741824)(R:Int)(hB:∀k,k<n→Tabs.look Tabs.classTab (rune s k)≠10) :
 chk s n (clsOf s n) b (wdL s na wi n) (Wr.wrp s n (wdL s na wi n) R)=0:=by
 have h2:=second_last hend;rw[chk_in hend hs hb,if_neg,if_neg,if_neg]
 ·rw[anyB_none _ (fun j hj=>?_)]
  ·exact Bool.false_ne_true
  ·have:=hB j (by omega)
   simpa[clsOf,nth,show j<n by omega] using this
 ·rw[wrp_ok hend];exact fun h=>by cases h
 ·unfold okW
  rw[wdL_len,decide_eq_true rfl,Lay.wOk_all (fun i hi=>?_)]
  ·exact fun h=>by cases h
  ·have e:nth (wdL s na wi n) i=wdOf (rune s i) na wi:=by simp[nth,wdL,hi]
   rw[e];unfold wdOf;split
   ·exact⟨by decide,by decide⟩
   ·split
    ·exact hwi
    ·exact hna
structure Lyd (w0:World)(P:Nat)(Bd V:List Int)(z:Int)(Ls:List Ln):Prop where
 rs:Rises Bd z
 gap:∀o b Y,Fr [] w0 Y→Calls Tryz.prog 62 #[.pointer (some ⟨P,0,none⟩),.agg #[.int .i64 o,.bool b]] Y fun e w'=>e=.returned (.agg #[.int .i64 ((gapL Bd V z Ls o b).1:Nat),.int .i64 ((gapL Bd V z Ls o b).2:Nat)])∧Fr [] Y w'
 x:∀o b Y,Fr [] w0 Y→Calls Tryz.prog 63 #[.pointer (some ⟨P,0,none⟩),.agg #[.int .i64 o,.bool b]] Y fun e w'=>e=.returned (.int .i64 (nth (lnN Ls (gapL Bd V z Ls o b).1).x (gapL Bd V z Ls o b).2))∧Fr [] Y w'
 sel:∀a o Y,Fr [] w0 Y→Calls Tryz.prog 64 #[.pointer (some ⟨P,0,none⟩),.int .i64 a,.int .i64 o] Y fun e w'=>∃v,e=.returned v∧w'.ownsRow Y.heap.size 251 5 v (selL Ls (askd Bd z a o) Ls.length).length (spCells (selL Ls (askd Bd z a o) Ls.length))∧Fr [] Y w'
 pl:∀off back Y,Fr [] w0 Y→Calls Tryz.prog 97 #[.pointer (some ⟨P,0,none⟩),.agg #[.int .i64 off,.bool back]] Y fun e w'=>e=.returned (.agg #[.int .i64 (placeL Bd z off back).1,.bool (placeL Bd z off back).2])∧Fr [] Y w'
structure Laid (w:World)(B P:Nat)(Bd V:List Int)(z:Int)(Ls:List Ln):Prop where
 lp:∃X r v0 v1 v2 vL hs,LP w B P Bd V X r Ls v0 v1 v2 vL hs
 f:Fine Bd V z Ls
 t:Tame Bd V Ls
 z0:0≤z
 bd:Bd.length=V.length+1
 v4:V.length≤400
 k0:0<Ls.length
 k4:Ls.length≤400
 ll:∀l∈Ls,l.o.length≤1000∧l.x.length≤1001
theorem Laid.fr {S:List Nat}{w w':World}{B P:Nat}{Bd V:List Int}{z:Int}{Ls:List Ln}(h:Laid w B P Bd V z Ls)(hf:Fr S w w')(hS:∀k∈S,k<B):Laid w' B P Bd V z Ls:=by
 obtain⟨X,r,v0,v1,v2,vL,hs,l⟩:=h.lp;exact⟨⟨X,r,v0,v1,v2,vL,hs,l.fr hf hS⟩,h.f,h.t,h.z0,h.bd,h.v4,h.k0,h.k4,h.ll⟩
theorem Laid.lyd {w:World}{B P:Nat}{Bd V:List Int}{z:Int}{Ls:List Ln}(h:Laid w B P Bd V z Ls):Lyd w P Bd V z Ls:=by
 obtain⟨X,r,v0,v1,v2,vL,hs,l⟩:=h.lp;have hfr:∀ {Y},Fr [] w Y→LP Y B P Bd V X r Ls v0 v1 v2 vL hs:=fun hf=>l.fr hf (fun _ h=>absurd h List.not_mem_nil)
 have hlo:∀l∈Ls,l.o.length≤1000:=fun l hl=>(h.ll l hl).1
 have hz:=h.z0;have hbd:=h.bd;have hv4:=h.v4;refine⟨h.f.rs,fun o b Y hf=>gapP_all B P Bd V X r z Ls v0 v1 v2 vL hs o b Y (hfr hf) h.f hz h.t hv4 h.k4 hlo,fun o b Y hf=>?_,fun a o Y hf=>?_,fun off back Y hf=>?_⟩
 ·obtain⟨h1,h2⟩:=h.f.gap_in h.k0 o b
  have hx:=h.t.xl _ (lnN_mem h1);exact xP_any B P Bd V X r Ls v0 v1 v2 vL hs o b _ _ Y (hfr hf) h1 (by omega) h.k4 (h.ll _ (lnN_mem h1)).2 (fun Y' hf'=>gapP_all B P Bd V X r z Ls v0 v1 v2 vL hs o b Y' (hfr (hf.trans hf')) h.f hz h.t hv4 h.k4 hlo)
 ·exact select_any B P Bd V X r z Ls v0 v1 v2 vL hs a o Y (hfr hf) h.f.rs hz (by omega) h.k0 h.k4 (fun l hl=>⟨(h.ll l hl).1,h.t.xl l hl⟩)
 ·exact placeP_any B P Bd V X r z Ls v0 v1 v2 vL hs off back Y (hfr hf) h.f.rs hz (by omega)
theorem lay_doc {s:ByteArray}{n:Nat}(hend:Dec.Ends s n)(hs:s.size≤400){b:Int}(hb:b=0∨b=1∨b=2){na wi:Int}(hna:0≤na∧na≤1073741824)(hwi:0≤wi∧wi≤1073741824)(R:Int)(hB:∀k,k<n→Tabs.look Tabs.classTab (rune s k)≠10) :
 ∃Bd V Ls,∀(w:World) (vW vB:Value),Floor w→slAt w vW (wdL s na wi n)→slAd w vB (Wr.wrp s n (wdL s na wi n) R)→Calls Tryz.prog 66 #[.agg #[.string s,.int .i64 b,vW,vB]] w fun e w'=>∃P,e=.returned (.pointer (some ⟨P,0,none⟩))∧Laid w' w.heap.size P Bd V (s.size:Nat) Ls∧Fr [] w w':=by
 have hck:=chk_doc hend hs hb hna hwi R hB;have hBl:(Wr.wrp s n (wdL s na wi n) R).length≤5000:=by
  have h1:=Wr.brk_len (Wr.ln1 (Wr.blk s n) (Wr.cw s n (wdL s na wi n)) R (cn s n)) (cn s n) (cn s n) 0 (by omega);have h2:cn s n≤n:=by have:=(bix_len s n).1;unfold cn;omega
  have h3:=le_pos s n;have h4:=hend.1;show(List.map _ _).length≤_;rw[List.length_map];omega
 obtain⟨Bd,V,X,r,bs,Cs,Ls,T,TT,F,_⟩:=keep_all s b _ _ n hend hBl hck;refine⟨Bd,V,Ls,fun w vW vB hF hW hBv=>?_⟩;refine(T.p w vW vB hF hW hBv).mono ?_;rintro e w' ⟨P,v0,v1,v2,vL,hs',rfl,hLP,hf⟩;exact⟨P,rfl,⟨⟨X,r,v0,v1,v2,vL,hs',hLP⟩,F,TT,by omega,T.bd,T.vl,T.l0,T.l1,T.ll⟩,hf⟩
theorem rises_end {l:List Int}{z:Int}(h:Rises l z):0<l.length∧l.getD (l.length - 1) 0=z:=by
 refine⟨h.len,?_⟩;rw[List.getD,h.last];rfl
theorem rises_in {l:List Int}{z:Int}(h:Rises l z){i:Nat}(hi:i<l.length):0≤l.getD i 0∧l.getD i 0≤z:=by
 have h0:=h.head0;obtain⟨hl,he⟩:=rises_end h;constructor
 ·rcases Nat.eq_zero_or_pos i with h1 | h1
  ·rw[h1,h0];exact Int.le_refl _
  ·have:=sorted_lt h.sorted h1 hi
   omega
 ·rcases Nat.lt_or_eq_of_le (show i≤l.length - 1 by omega)with h1 | h1
  ·have:=sorted_lt h.sorted h1 (by omega)
   omega
  ·rw[h1,he];exact Int.le_refl _
theorem best_in {l:List Int}{z:Int}(h:Rises l z)(hz:0≤z)(x:Int):∀k,k≤l.length→0≤best l x k∧best l x k≤z
 | 0,_=>⟨Int.le_refl _,hz⟩
 | k+1,hk=>by
   rw[best];split
   ·exact rises_in h hk
   ·exact best_in h hz x k (by omega)
theorem place_in {Bd:List Int}{z:Int}(hr:Rises Bd z)(hz:0≤z)(off:Int)(back:Bool):0≤(placeL Bd z off back).1∧(placeL Bd z off back).1≤z :=
 best_in hr hz _ _ (Nat.le_refl _)
theorem place_end {Bd:List Int}{z:Int}(hr:Rises Bd z)(hz:0≤z):placeL Bd z z true=(z,decide (z≠0)):=by
 obtain⟨hl,he⟩:=rises_end hr;have h:=best_found hr.sorted (x:=z) (k:=Bd.length - 1) (by omega) he;unfold placeL;rw[show min (max z 0) z=z by omega,h];by_cases h0:z=0
 ·simp[h0]
 ·simp[h0]
theorem results_two {P:Program}{fn:Func}{p q:Tmp}{ty:TypeId}(h:fn.results=#[.cell p ty,.cell q ty])(tmps:Array Value)(w:World)(g g2:Nat)(t:TypeId)(cs ds:Array Value)(d:TypeDesc)
 (hp:tmps.getD p undef=.pointer (some ⟨g,0,none⟩)) (hq:tmps.getD q undef=.pointer (some ⟨g2,0,none⟩)) (hg:w.heap[g]?=some (.cells cs t (0,0))) (hg2:w.heap[g2]?=some (.cells ds t (0,0)))
 (hu:P.underlying ty=some d) (hd:(match d with | .struct _ | .array _ _=>true | _=>false)=true) (hi:(P.info? ty).map (·.size)=some cs.size) (hi2:(P.info? ty).map (·.size)=some ds.size) :
 (results fn tmps).run P w=.ok (.tuple #[.agg cs,.agg ds]) w:=by
 have hp':tmps[p]?.getD undef=.pointer (some ⟨g,0,none⟩):=by simpa using hp
 have hq':tmps[q]?.getD undef=.pointer (some ⟨g2,0,none⟩):=by simpa using hq
 simp[results,h,hp',hq',asAddr,run_loadVar_row w g t ty cs (0,0) d hg hu hd hi,run_loadVar_row w g2 t ty ds (0,0) d hg2 hu hd hi2]
set_option maxRecDepth 10000 in
set_option maxHeartbeats 2000000 in
theorem ends_any (Z P:Nat)(ao fo goal:Int)(ab fb aim:Bool)(w:World)(hZ:w.heap[Z]?=some (.cells (sesC P ao ab fo fb aim goal) 134 (0,0))) :
 Calls Tryz.prog 92 #[.pointer (some ⟨Z,0,none⟩)] w fun e w'=>e=.returned (.tuple #[.agg #[.int .i64 ao,.bool ab],.agg #[.int .i64 fo,.bool fb]])∧Fr [] w w':=by
 obtain⟨wb,hwb⟩:∃wb,wb=(w.alloc (.cells #[.int .i64 0,.bool false] 26)).alloc (.cells #[.int .i64 0,.bool false] 26):=⟨_,rfl⟩;have HFb:=hid (show Fr [] w wb by rw[hwb];exact((Fr.refl [] w).alloc _).alloc _);have HR1:=hid (show wb.heap[w.heap.size]?=some (.cells #[.int .i64 0,.bool false] 26 (0,0)) by rw[hwb];exact obj_fr (obj_new w _) ((Fr.refl [] _).alloc _) List.not_mem_nil)
 have HR2:=hid (show wb.heap[w.heap.size+1]?=some (.cells #[.int .i64 0,.bool false] 26 (0,0)) by
  have h:=obj_new (w.alloc (.cells #[.int .i64 0,.bool false] 26)) (.cells #[.int .i64 0,.bool false] 26)
  rw[←hwb]at h;simpa using h)
 have HZb:=hid (obj_fr hZ HFb.out List.not_mem_nil);have hZl:=obj_lt hZ;have z1:=obj_cell HZb.out (i:=1) (v:=.int .i64 ao) rfl;have z2:=obj_cell HZb.out (i:=2) (v:=.bool ab) rfl;have z3:=obj_cell HZb.out (i:=3) (v:=.int .i64 fo) rfl;have z4:=obj_cell HZb.out (i:=4) (v:=.bool fb) rfl;have r0:=obj_cell HR1.out (i:=0) (v:=.int .i64 0) rfl;have r1:=obj_cell HR1.out (i:=1) (v:=.bool false) rfl;have r2:=obj_cell HR2.out (i:=0) (v:=.int .i64 0) rfl;have r3:=obj_cell HR2.out (i:=1) (v:=.bool false) rfl;have f0:=obj_froz HR1.out 0;have f1:=obj_froz HR1.out 1;have f2:=obj_froz HR2.out 0;have f3:=obj_froz HR2.out 1;clear hZ;go_enter Tryz.func92,Tryz.ntmps92;go_wp2_with fail;rw[←hwb];clear hwb;go_region;go_wp2;have hA:((((wb.setCell ⟨w.heap.size,0,none⟩ (.int .i64 ao)).setCell ⟨w.heap.size,1,none⟩ (.bool ab)).setCell ⟨w.heap.size+1,0,none⟩ (.int .i64 fo)).setCell ⟨w.heap.size+1,1,none⟩ (.bool fb)).heap[w.heap.size]?=some (.cells #[.int .i64 ao,.bool ab] 26 (0,0)) :=
  (Below.heap_setCell _ _ _ _ (by show w.heap.size≠w.heap.size+1;omega)).trans ((Below.heap_setCell _ _ _ _ (by show w.heap.size≠w.heap.size+1;omega)).trans (obj_set (obj_set HR1.out 0 _) 1 _))
 have hB:((((wb.setCell ⟨w.heap.size,0,none⟩ (.int .i64 ao)).setCell ⟨w.heap.size,1,none⟩ (.bool ab)).setCell ⟨w.heap.size+1,0,none⟩ (.int .i64 fo)).setCell ⟨w.heap.size+1,1,none⟩ (.bool fb)).heap[w.heap.size+1]?=some (.cells #[.int .i64 fo,.bool fb] 26 (0,0)) :=
  obj_set (obj_set (show((wb.setCell ⟨w.heap.size,0,none⟩ (.int .i64 ao)).setCell ⟨w.heap.size,1,none⟩ (.bool ab)).heap[w.heap.size+1]?=some (.cells #[.int .i64 0,.bool false] 26 (0,0))from(Below.heap_setCell _ _ _ _ (by show w.heap.size+1≠w.heap.size;omega)).trans ((Below.heap_setCell _ _ _ _ (by show w.heap.size+1≠w.heap.size;omega)).trans HR2.out)) 0 _) 1 _
 refine bodyPost_ret (results_two rfl _ _ w.heap.size (w.heap.size+1) 26 _ _ _ rfl rfl hA hB Tryz.underlying26 rfl (by kernel_rfl) (by kernel_rfl)) rfl ?_;exact⟨rfl,(Fr.set_new (Fr.set_new (Fr.set_new (Fr.set_new HFb.out (by omega)) (by omega)) (by omega)) (by omega)).drew⟩
abbrev docC (b na wi R:Int)(t:ByteArray)(vB:Value)(Z:Nat)(vU vR:Value):Array Value:=#[.int .i64 b,.int .i64 na,.int .i64 wi,.int .i64 R,.string t,vB,.pointer (some ⟨Z,0,none⟩),vU,vR]
set_option maxRecDepth 10000 in
set_option maxHeartbeats 2000000 in
theorem selected_any (D Z P:Nat)(b na wi R ao fo goal:Int)(t:ByteArray)(vB vU vR:Value)(ab fb aim:Bool)(w:World)(hD:w.heap[D]?=some (.cells (docC b na wi R t vB Z vU vR) 85 (0,0)))(hZ:w.heap[Z]?=some (.cells (sesC P ao ab fo fb aim goal) 134 (0,0))) :
 Calls Tryz.prog 93 #[.pointer (some ⟨D,0,none⟩)] w fun e w'=>e=.returned (.tuple #[.int .i64 (min ao fo),.int .i64 (max ao fo)])∧Fr [] w w':=by
 have H92:=hid (ends_any Z P ao fo goal ab fb aim w hZ);have d6:=obj_cell hD (i:=6) (v:=.pointer (some ⟨Z,0,none⟩)) rfl;clear hD hZ;go_enter Tryz.func93,Tryz.ntmps93;go_wp2_with fail;refine H92.out.mono ?_;rintro e w1 ⟨rfl,hf1⟩;have HF1:=hid hf1;clear hf1 H92 d6;go_wp2_with fail;obtain⟨w2,hw2⟩:∃w2,w2=(w1.alloc (.cells #[.int .i64 ao,.bool ab] 26)).alloc (.cells #[.int .i64 fo,.bool fb] 26):=⟨_,rfl⟩;have HF2:=hid (show Fr [] w w2 by rw[hw2];exact(HF1.out.alloc _).alloc _);have HA:=hid (show w2.heap[w1.heap.size]?=some (.cells #[.int .i64 ao,.bool ab] 26 (0,0)) by rw[hw2];exact obj_fr (obj_new w1 _) ((Fr.refl [] _).alloc _) List.not_mem_nil)
 have HB:=hid (show w2.heap[w1.heap.size+1]?=some (.cells #[.int .i64 fo,.bool fb] 26 (0,0)) by
  have h:=obj_new (w1.alloc (.cells #[.int .i64 ao,.bool ab] 26)) (.cells #[.int .i64 fo,.bool fb] 26)
  rw[←hw2]at h;simpa using h)
 have a0:=obj_cell HA.out (i:=0) (v:=.int .i64 ao) rfl;have b0:=obj_cell HB.out (i:=0) (v:=.int .i64 fo) rfl;rw[←hw2];clear hw2;go_quiet (fail);go_wp2;refine bodyPost_ret (results_tmp2 rfl _ _ _) rfl ?_;exact⟨rfl,HF2.out.drewN _⟩
set_option maxRecDepth 10000 in
set_option maxHeartbeats 2000000 in
theorem now_any (D Z P:Nat)(b na wi R ao fo goal:Int)(t:ByteArray)(vB vU vR:Value)(ab fb aim:Bool)(w:World)(hD:w.heap[D]?=some (.cells (docC b na wi R t vB Z vU vR) 85 (0,0)))(hZ:w.heap[Z]?=some (.cells (sesC P ao ab fo fb aim goal) 134 (0,0))) :
 Calls Tryz.prog 59 #[.pointer (some ⟨D,0,none⟩)] w fun e w'=>e=.returned (.agg #[.string t,.int .i64 ao,.bool ab,.int .i64 fo,.bool fb])∧Fr [] w w':=by
 obtain⟨wb,hwb⟩:∃wb,wb=w.alloc (.cells #[.string ⟨#[]⟩,.int .i64 0,.bool false,.int .i64 0,.bool false] 116):=⟨_,rfl⟩;have HFb:=hid (show Fr [] w wb by rw[hwb];exact(Fr.refl [] w).alloc _);have HRb:=hid (show wb.heap[w.heap.size]?=some (.cells #[.string ⟨#[]⟩,.int .i64 0,.bool false,.int .i64 0,.bool false] 116 (0,0)) by rw[hwb];exact obj_new w _);have HDb:=hid (obj_fr hD HFb.out List.not_mem_nil);have H92:=hid (ends_any Z P ao fo goal ab fb aim wb (obj_fr hZ HFb.out List.not_mem_nil));have d6:(w.alloc (.cells #[.string ⟨#[]⟩,.int .i64 0,.bool false,.int .i64 0,.bool false] 116)).cell? ⟨D,6,none⟩=some (.pointer (some ⟨Z,0,none⟩)):=by rw[←hwb];exact obj_cell HDb.out rfl
 clear hD hZ;go_enter Tryz.func59,Tryz.ntmps59;go_wp2_with fail;rw[←hwb];clear hwb;refine H92.out.mono ?_;rintro e w1 ⟨rfl,hf1⟩;have HF1:=hid (HFb.out.trans hf1);have HR1:=hid (obj_fr HRb.out hf1 List.not_mem_nil);have HD1:=hid (obj_fr HDb.out hf1 List.not_mem_nil);clear hf1 H92 d6;go_wp2_with fail;obtain⟨w2,hw2⟩:∃w2,w2=(w1.alloc (.cells #[.int .i64 ao,.bool ab] 26)).alloc (.cells #[.int .i64 fo,.bool fb] 26):=⟨_,rfl⟩;have HG2:=hid (show Fr [] w1 w2 by rw[hw2];exact((Fr.refl [] w1).alloc _).alloc _);have HA:=hid (show w2.heap[w1.heap.size]?=some (.cells #[.int .i64 ao,.bool ab] 26 (0,0)) by rw[hw2];exact obj_fr (obj_new w1 _) ((Fr.refl [] _).alloc _) List.not_mem_nil)
 have HB:=hid (show w2.heap[w1.heap.size+1]?=some (.cells #[.int .i64 fo,.bool fb] 26 (0,0)) by
  have h:=obj_new (w1.alloc (.cells #[.int .i64 ao,.bool ab] 26)) (.cells #[.int .i64 fo,.bool fb] 26)
  rw[←hw2]at h;simpa using h)
 have HR2:=hid (obj_fr HR1.out HG2.out List.not_mem_nil);have HD2:=hid (obj_fr HD1.out HG2.out List.not_mem_nil);have HF2:=hid (HF1.out.trans HG2.out);have a0:=obj_cell HA.out (i:=0) (v:=.int .i64 ao) rfl;have a1:=obj_cell HA.out (i:=1) (v:=.bool ab) rfl;have b0:=obj_cell HB.out (i:=0) (v:=.int .i64 fo) rfl;have b1:=obj_cell HB.out (i:=1) (v:=.bool fb) rfl;have d4:=obj_cell HD2.out (i:=4) (v:=.string t) rfl;have r0:=obj_cell HR2.out (i:=0) (v:=.string ⟨#[]⟩) rfl;have r1:=obj_cell HR2.out (i:=1) (v:=.int .i64 0) rfl;have r2:=obj_cell HR2.out (i:=2) (v:=.bool false) rfl;have r3:=obj_cell HR2.out (i:=3) (v:=.int .i64 0) rfl;have r4:=obj_cell HR2.out (i:=4) (v:=.bool false) rfl;have f0:=obj_froz HR2.out 0;have f1:=obj_froz HR2.out 1;have f2:=obj_froz HR2.out 2;have f3:=obj_froz HR2.out 3;have f4:=obj_froz HR2.out 4;rw[←hw2];clear hw2;go_region;go_wp2;refine bodyPost_ret (results_cell_row (t:=116) (fr:=(0,0)) rfl _ _ w.heap.size _ _ rfl (obj_set (obj_set (obj_set (obj_set (obj_set HR2.out 0 _) 1 _) 2 _) 3 _) 4 _) Tryz.underlying116 rfl (by kernel_rfl)) rfl ?_;exact⟨by simp,(Fr.set_new (Fr.set_new (Fr.set_new (Fr.set_new (Fr.set_new HF2.out (by omega)) (by omega)) (by omega)) (by omega)) (by omega)).drew⟩
set_option maxRecDepth 10000 in
set_option maxHeartbeats 2000000 in
theorem resume_any (P:Nat)(Bd V:List Int)(z:Int)(Ls:List Ln)(ao fo:Int)(ab fb:Bool)(w:World)(L:Lyd w P Bd V z Ls) :
 Calls Tryz.prog 86 #[.pointer (some ⟨P,0,none⟩),.agg #[.int .i64 ao,.bool ab],.agg #[.int .i64 fo,.bool fb]] w fun e w'=>∃Z,e=.returned (.pointer (some ⟨Z,0,none⟩))∧w.heap.size≤Z∧w'.heap[Z]?=some (.cells (sesC P (placeL Bd z ao ab).1 (placeL Bd z ao ab).2 (placeL Bd z fo fb).1 (placeL Bd z fo fb).2 false 0) 134 (0,0))∧Fr [] w w':=by
 obtain⟨wb,hwb⟩:∃wb,wb=(w.alloc (.cells #[.int .i64 ao,.bool ab] 26)).alloc (.cells #[.int .i64 fo,.bool fb] 26):=⟨_,rfl⟩;have HFb:=hid (show Fr [] w wb by rw[hwb];exact((Fr.refl [] w).alloc _).alloc _);have HA:=hid (show wb.heap[w.heap.size]?=some (.cells #[.int .i64 ao,.bool ab] 26 (0,0)) by rw[hwb];exact obj_fr (obj_new w _) ((Fr.refl [] _).alloc _) List.not_mem_nil)
 have HB:=hid (show wb.heap[w.heap.size+1]?=some (.cells #[.int .i64 fo,.bool fb] 26 (0,0)) by
  have h:=obj_new (w.alloc (.cells #[.int .i64 ao,.bool ab] 26)) (.cells #[.int .i64 fo,.bool fb] 26)
  rw[←hwb]at h;simpa using h)
 have HPA:=hid (fun(Y:World) (hf:Fr [] w Y)=>L.pl ao ab Y hf);have HPB:=hid (fun(Y:World) (hf:Fr [] w Y)=>L.pl fo fb Y hf);generalize (placeL Bd z ao ab).1=p1 at *;generalize (placeL Bd z ao ab).2=p2 at *;generalize (placeL Bd z fo fb).1=q1 at *;generalize (placeL Bd z fo fb).2=q2 at *
 have HK:=hid (fun(wz:World) (hf:Fr [] wb wz)=>show wz.cell? ⟨w.heap.size,0,none⟩=some (.int .i64 ao)∧wz.cell? ⟨w.heap.size,1,none⟩=some (.bool ab)∧wz.cell? ⟨w.heap.size+1,0,none⟩=some (.int .i64 fo)∧wz.cell? ⟨w.heap.size+1,1,none⟩=some (.bool fb)from
  ⟨obj_cell (obj_fr HA.out hf List.not_mem_nil) rfl,obj_cell (obj_fr HA.out hf List.not_mem_nil) rfl,obj_cell (obj_fr HB.out hf List.not_mem_nil) rfl,obj_cell (obj_fr HB.out hf List.not_mem_nil) rfl⟩)
 obtain⟨a0,a1,b0,b1⟩:=HK.out wb (Fr.refl [] wb);clear L;go_enter Tryz.func86,Tryz.ntmps86;go_wp2_with fail;rw[←hwb];clear hwb;go_region_held (fun wz=>wz.cell? ⟨w.heap.size,0,none⟩=some (.int .i64 ao)∧wz.cell? ⟨w.heap.size,1,none⟩=some (.bool ab)∧wz.cell? ⟨w.heap.size+1,0,none⟩=some (.int .i64 fo)∧wz.cell? ⟨w.heap.size+1,1,none⟩=some (.bool fb)) (first | with_reducible exact HS1 | go_keep)
  (first
    | (go_at_call 97;have hq:=Hw2;clear hq;refine(HPB.out _ ?fa).mono ?_;(case fa=>exact HFb.out.trans Hw2.out);rintro e w3 ⟨rfl,hf⟩;have Hw3:=hid (show Fr [] wb w3 from Hw2.out.trans hf);have HS1:=HK.out _ Hw3.out;clear hf)
    | (go_at_call 97;refine(HPA.out _ ?fa).mono ?_;(case fa=>exact HFb.out.drew);rintro e w2 ⟨rfl,hf⟩;have Hw2:=hid (show Fr [] wb w2 from Fr.trans (Fr.refl [] wb).drew hf);have HS1:=HK.out _ Hw2.out;clear hf))
 have HO4:=hid (show(w3.alloc (.cells (sesC P p1 p2 q1 q2 false 0) 134)).heap[w3.heap.size]?=some (.cells (sesC P p1 p2 q1 q2 false 0) 134 (0,0))from obj_new w3 _);have HF4:=hid (show Fr [] w (w3.alloc (.cells (sesC P p1 p2 q1 q2 false 0) 134))from(HFb.out.trans Hw3.out).alloc _);have hle:w.heap.size≤w3.heap.size:=(HFb.out.trans Hw3.out).size;go_wp2;go_ret;exact⟨_,rfl,hle,HO4.out,HF4.out⟩
def put5 (cs:Array Value):Nat→List Value→Array Value
 | _,[]=>cs
 | o,v :: r=>put5 (cs.setIfInBounds o v) (o+1) r
theorem put5_size:∀(vs:List Value) (o:Nat) (cs:Array Value),(put5 cs o vs).size=cs.size
 | [],_,_=>rfl
 | v :: r,o,cs=>by rw[put5,put5_size r];simp
theorem put5_at:∀(vs:List Value) (o:Nat) (cs:Array Value),o+vs.length≤cs.size→∀i,(put5 cs o vs)[i]?=if o≤i∧i<o+vs.length then vs[i - o]? else cs[i]?
 | [],o,cs,_,i=>by rw[put5,if_neg (by simp)]
 | v :: r,o,cs,h,i=>by
   rw[List.length_cons]at h;rw[put5,put5_at r (o+1) _ (by simp;omega) i,List.length_cons];by_cases h1:o+1≤i∧i<o+1+r.length
   ·rw[if_pos h1,if_pos (by omega),show i - o=(i - (o+1))+1 by omega,List.getElem?_cons_succ]
   ·rw[if_neg h1]
    by_cases h2:i=o
    ·subst h2
     rw[if_pos (by omega),Nat.sub_self,Array.getElem?_setIfInBounds,if_pos rfl,if_pos (by omega)];rfl
    ·rw[if_neg (by omega),Array.getElem?_setIfInBounds,if_neg (by omega)]
theorem heap_put:∀(vs:List Value) (o:Nat) (w:World) (g:Nat) (cs:Array Value) (t:TypeId),w.heap[g]?=some (.cells cs t (0,0))→(w.setCells g o vs).heap[g]?=some (.cells (put5 cs o vs) t (0,0))
 | [],_,_,_,_,_,h=>h
 | v :: r,o,w,g,cs,t,h=>by
   rw[World.setCells,put5];exact heap_put r (o+1) _ g _ t (obj_set h o v)
theorem fr_put:∀(vs:List Value) (o:Nat) (w:World) (g:Nat),Fr [g] w (w.setCells g o vs)
 | [],_,w,_=>Fr.refl _ w
 | v :: r,o,w,g=>by
   rw[World.setCells];exact((Fr.refl [g] w).set (List.mem_singleton.2 rfl) v).trans (fr_put r (o+1) _ g)
abbrev zM:List Value:=[.string ⟨#[]⟩,.int .i64 0,.bool false,.int .i64 0,.bool false]
theorem clear1 (b o c:Nat)(ty:TypeId)(w:World)(hc:∀j,j<5→(w.cell? ⟨b,o+j,none⟩).isSome=true)(hf:∀j,j<5→w.frozen? ⟨b,o+j,none⟩=false) :
 (Builtin.clear_ #[81] ty #[.slice (some ⟨b,o,none⟩) 1 c]).run Tryz.prog w=.ok (.tuple #[]) (w.setCells b o zM):=by
 have hst:=run_storeCells_cells (P:=Tryz.prog) b o zM 0 w (by simpa using hc) (by simpa using hf) (by
  intro v hv
  simp only[zM,List.mem_cons,List.not_mem_nil,or_false]at hv
  rcases hv with rfl | rfl | rfl | rfl | rfl <;> rfl)
 simp only[Nat.add_zero]at hst;have hzc:(Builtin.zeroCells (Value.agg #[.string ⟨#[]⟩,.int .i64 0,.bool false,.int .i64 0,.bool false]).cells 1).toList=zM:=by kernel_rfl
 simp[Builtin.clear_,run_underlying Tryz.underlying81,Tryz.zeroValue116,hzc,hst]
theorem info116:(Tryz.prog.info? 116).map (fun i=>(i.zero,i.size,i.bytes))=some (some (.agg #[.string ⟨#[]⟩,.int .i64 0,.bool false,.int .i64 0,.bool false]),5,48):=by kernel_rfl
theorem info116_parts:∃i,Tryz.prog.info? 116=some i∧i.zero=some (.agg #[.string ⟨#[]⟩,.int .i64 0,.bool false,.int .i64 0,.bool false])∧i.size=5∧i.bytes=48:=by
 have h:=info116;cases e:Tryz.prog.info? 116 with
 | none=>rw[e]at h;cases h
 | some i =>
   rw[e]at h;simp at h;exact⟨i,rfl,h.1,h.2.1,h.2.2⟩
theorem delete0 (a:Addr)(n c:Nat)(w:World)(hc:n≤c):Calls Tryz.prog 98 #[.slice (some a) n c,.int .i64 0,.int .i64 0] w fun e w'=>e=.returned (.slice (some a) n c)∧w'=w:=by
 go_enter Tryz.func98,Tryz.ntmps98;go_wp2
 all_goals (
  go_ret
  exact⟨rfl,rfl⟩)
set_option maxRecDepth 10000 in
set_option maxHeartbeats 2000000 in
theorem delete1 (g cap B:Nat)(xs:List Value)(w:World)(hown:w.ownsRow B 116 5 (.slice (some ⟨g,0,none⟩) 7 cap) 7 xs)(h1:∀u∈xs,u.oneCell'=true) :
 Calls Tryz.prog 98 #[.slice (some ⟨g,0,none⟩) 7 cap,.int .i64 0,.int .i64 1] w fun e w'=>e=.returned (.slice (some ⟨g,0,none⟩) 6 cap)∧w'.ownsRow B 116 5 (.slice (some ⟨g,0,none⟩) 6 cap) 6 (xs.drop 5)∧Fr [g] w w':=by
 obtain⟨i0,hi,hz0,hz1,hz2⟩:=info116_parts;obtain⟨cur,hB,hh,h7,hml,hsz,htk⟩:∃cur,B≤g∧w.heap[g]?=some (.cells cur 116 (0,0))∧7≤cap∧cap≤maxLen∧cur.size=cap * 5∧cur.toList.take (7 * 5)=xs:=by
  rcases hown.2 with⟨h,_⟩ | ⟨g',cap',cur,hv,q1,q2,q3,q4,q5,q6⟩
  ·cases h
  ·cases hv
   exact⟨cur,q1,q2,q3,q4,q5,q6⟩
 have hxl:=hown.1;obtain⟨news,hnews⟩:∃news,news=xs.drop 5:=⟨_,rfl⟩;have hnl:news.length=6 * 5:=by rw[hnews,List.length_drop,hxl]
 have hcell:∀j,j<35→w.cell? ⟨g,j,none⟩=xs[j]?:=fun j hj=>by
  rw[←htk,List.getElem?_take_of_lt (by omega),Array.getElem?_toList];simp[World.cell?,hh]
 have hfz:∀j,w.frozen? ⟨g,j,none⟩=false:=fun j=>obj_froz hh j
 obtain⟨W1,hW1⟩:∃W1,W1=(w.drew.setCells g 0 news):=⟨_,rfl⟩;have hh1:W1.heap[g]?=some (.cells (put5 cur 0 news) 116 (0,0)):=by rw[hW1];exact heap_put news 0 w.drew g cur 116 hh
 have hcl:=clear1 g 30 (cap - 6) 0 W1 (fun j hj=>by
  have hlt:30+j<(put5 cur 0 news).size:=by rw[put5_size,hsz];omega
  simp[World.cell?,hh1,hlt]) (fun j _=>obj_froz hh1 _)
 have HC:=hid (show ∀j u,news[j]?=some u→w.drew.cell? ((⟨g,5,none⟩:Addr).add j)=some u from fun j u hu=>by
  have hj:j<30:=by have:=(List.getElem?_eq_some_iff.1 hu).1;omega
  rw[Addr.add_lit]
  rw[hnews,List.getElem?_drop]at hu
  exact(hcell (5+j) (by omega)).trans hu)
 have H1:=hid (show ∀u∈news,u.oneCell'=true from fun u hu=>h1 u (by rw[hnews]at hu;exact List.mem_of_mem_drop hu))
 have HSP:=hid (show ∀j,j<news.length→(w.drew.cell? ⟨g,0+0 * 5+j,none⟩).isSome=true∧w.drew.frozen? ⟨g,0+0 * 5+j,none⟩=false from fun j hj=>by
  refine⟨?_,hfz _⟩
  have h:=hcell (0+0 * 5+j) (by omega)
  show(w.cell? _).isSome=true
  rw[h,List.getElem?_eq_getElem (by omega)]
  rfl)
 have HFIN:=hid (show(W1.setCells g 30 zM).ownsRow B 116 5 (.slice (some ⟨g,0,none⟩) 6 cap) 6 news∧Fr [g] w (W1.setCells g 30 zM)from by
  refine⟨⟨hnl,.inr ⟨g,cap,_,rfl,hB,heap_put zM 30 W1 g _ 116 hh1,by omega,hml,by rw[put5_size,put5_size,hsz],?_⟩⟩,?_⟩
  ·apply List.ext_getElem?
   intro i
   rw[List.getElem?_take]
   split
   ·rename_i hi'
    rw[Array.getElem?_toList,put5_at _ _ _ (by rw[put5_size,hsz];simp;omega),if_neg (by omega),put5_at _ _ _ (by rw[hsz];omega),if_pos (by omega),Nat.sub_zero]
   ·rename_i hi'
    rw[List.getElem?_eq_none (by omega)]
  ·rw[hW1]
   exact((Fr.refl [g] w).drew.trans (fr_put news 0 _ g)).trans (fr_put zM 30 _ g))
 have HW1:=hid hW1;have HNE:=hid hnews;have hc1:¬cap=1:=by omega
 have hc0:¬cap=0:=by omega
 have hc6:¬cap=6:=by omega
 have hcI:(1:Int)≤(cap:Int):=by omega
 have hcm:cap≤9223372036854775807:=by unfold maxLen at hml;omega
 clear hcell hfz hh hh1 hown hW1 hnews htk hsz;go_enter Tryz.func98,Tryz.ntmps98;go_wp2_with fail;have hmx:Tryz.prog.follows .mixedOrders=true:=by kernel_rfl
 go_region_law_o (refine step_append_room rfl (.tmp 22) (.tmp 25) 81 rfl 116 i0 5 Tryz.underlying81 hi hz1 g 0 0 cap (by simp[Act.eval,Act.put]) ⟨g,5,none⟩ 6 (cap - 1) news (by simp[Act.eval,Act.put]) hnl HC.out H1.out (by omega) HSP.out ?_;rw[show 0+0 * 5=0 from rfl,←HW1.out]);go_wp2;go_ret;rw[HNE.out]at HFIN;exact⟨rfl,HFIN.out.1,HFIN.out.2⟩
abbrev momL (t:ByteArray)(ao:Int)(ab:Bool)(fo:Int)(fb:Bool):List Value:=[.string t,.int .i64 ao,.bool ab,.int .i64 fo,.bool fb]
theorem mom_one (t:ByteArray)(ao:Int)(ab:Bool)(fo:Int)(fb:Bool):∀u∈momL t ao ab fo fb,u.oneCell'=true:=by
 intro u hu;simp only[momL,List.mem_cons,List.not_mem_nil,or_false]at hu
 rcases hu with rfl | rfl | rfl | rfl | rfl <;> rfl
def recN (n:Nat):Nat:=if n=6 then 6 else n+1
def recL (n:Nat)(xs:List Value)(m:List Value):List Value:=if n=6 then(xs++m).drop 5 else xs++m
theorem fr_chain {T:List Nat}{w w1 w2:World}{g:Nat}(h:Fr T w w1)(k:Fr [g] w1 w2)(hg:g∈T∨w.heap.size≤g):Fr T w w2 :=
 ⟨k.os.trans h.os,k.tape.trans h.tape,k.output.trans h.output,Nat.le_trans h.size k.size,fun x hx hs=>(k.block x (Nat.lt_of_lt_of_le hx h.size) (fun hm=>by
  have:=List.mem_singleton.1 hm
  subst this
  rcases hg with hg | hg
  ·exact hs hg
  ·omega)).trans (h.block x hx hs)⟩
theorem own_set {w:World}{B:Nat}{e:TypeId}{size n D i:Nat}{v u:Value}{xs:List Value}(h:w.ownsRow B e size v n xs)(hne:v.ownBlock≠some D):(w.setCell ⟨D,i,none⟩ u).ownsRow B e size v n xs :=
 Wr.own_blk h (fun g hg=>Below.heap_setCell _ _ _ _ (fun e=>hne (by rw[hg,e])))
set_option maxRecDepth 10000 in
set_option maxHeartbeats 4000000 in
theorem record_any (D Z B n:Nat)(b na wi R ao fo:Int)(t mt:ByteArray)(vB vU vR:Value)(ab fb:Bool)(xs:List Value)(w:World)(hD:w.heap[D]?=some (.cells (docC b na wi R t vB Z vU vR) 85 (0,0)))(hU:w.ownsRow B 116 5 vU n xs)(hn:n≤6)(h1:∀u∈xs,u.oneCell'=true)(hB:B≤w.heap.size) :
 Calls Tryz.prog 58 #[.pointer (some ⟨D,7,none⟩),.agg #[.string mt,.int .i64 ao,.bool ab,.int .i64 fo,.bool fb]] w fun e w'=>e=.returned (.tuple #[])∧∃vU',w'.heap[D]?=some (.cells (docC b na wi R t vB Z vU' (.slice none 0 0)) 85 (0,0))∧w'.ownsRow B 116 5 vU' (recN n) (recL n xs (momL mt ao ab fo fb))∧(vU'.ownBlock=vU.ownBlock∨∃g,vU'.ownBlock=some g∧w.heap.size≤g)∧Fr (D :: vU.ownBlock.toList) w w':=by
 obtain⟨i0,hi,hz0,hz1,hz2⟩:=info116_parts;obtain⟨wb,hwb⟩:∃wb,wb=w.alloc (.cells #[.string mt,.int .i64 ao,.bool ab,.int .i64 fo,.bool fb] 116):=⟨_,rfl⟩;have HFb:=hid (show Fr [] w wb by rw[hwb];exact(Fr.refl [] w).alloc _);have hsb:wb.heap.size=w.heap.size+1:=by rw[hwb,World.size_alloc]
 have HOb:=hid (show wb.heap[w.heap.size]?=some (.cells #[.string mt,.int .i64 ao,.bool ab,.int .i64 fo,.bool fb] 116 (0,0)) by rw[hwb];exact obj_new w _);have HDb:=hid (obj_fr hD HFb.out List.not_mem_nil);have hDl:=obj_lt hD;have d7:=obj_cell HDb.out (i:=7) (v:=vU) rfl;have m0:=obj_cell HOb.out (i:=0) (v:=.string mt) rfl;have m1:=obj_cell HOb.out (i:=1) (v:=.int .i64 ao) rfl;have m2:=obj_cell HOb.out (i:=2) (v:=.bool ab) rfl;have m3:=obj_cell HOb.out (i:=3) (v:=.int .i64 fo) rfl;have m4:=obj_cell HOb.out (i:=4) (v:=.bool fb) rfl;have HUb:=hid (owns_fr0 hU HFb.out);have HU:=hid hU;have H1:=hid h1;have hDw:D<wb.heap.size:=by omega
 have hw0:w.heap.size<wb.heap.size:=by omega
 have HSB:=hid hsb;clear hD hU h1 hsb;go_enter Tryz.func58,Tryz.ntmps58;go_wp2_with fail;rw[←hwb];clear hwb;go_region_law (refine step_append_at rfl (.tmp 8) (.tmp 10) 81 rfl B 116 i0 _ 5 48 Tryz.underlying81 hi hz0 hz1 hz2 rfl (by decide) vU n xs ?q1 ?q2 ⟨wb.heap.size,0,none⟩ 1 1 (momL mt ao ab fo fb) ?q3 rfl ?q4 (mom_one _ _ _ _ _) (by unfold maxLen;omega) (by omega) ?q5 ?_;(case q1=>simp[Act.eval]);(case q2=>exact owns_fr0 HUb.out (((Fr.refl [] wb).drew).alloc _));(case q3=>simp[Act.eval]);(case q4=>exact news_at _ _ _ _ (by simp));(case q5=>simp;have:=HSB.out;omega);intro v' w1 hown hgrow hor;have HX1:=hid hown;have HX2:=hid hgrow;have HX3:=hid hor;clear hown hgrow hor)
 all_goals (
  have HNE:=hid (own_ne HUb.out HDb.out (fun c f h=>by cases h))
  have HD1:=hid (show w1.heap[D]?=some (.cells (docC b na wi R t vB Z vU vR) 85 (0,0))from(HX2.out.block D (by simp;omega) HNE.out).trans ((Lib.alloc_old _ _ _ hDw).trans HDb.out))
  have HF1:=hid (show Fr vU.ownBlock.toList w w1 from Fr.grownT (show Fr vU.ownBlock.toList w (wb.alloc (.cells #[.string mt,.int .i64 ao,.bool ab,.int .i64 fo,.bool fb] 116)).drew from((HFb.out.mono (fun k hk=>absurd hk List.not_mem_nil)).alloc _).drew) ⟨HX2.out.os,HX2.out.tape,HX2.out.output,HX2.out.size,HX2.out.block⟩ (fun k hk=>.inl (by rw[hk];exact List.mem_singleton.2 rfl)))
  have HOR:=hid (show v'.ownBlock=vU.ownBlock∨∃g,v'.ownBlock=some g∧w.heap.size≤g from HX3.out.imp id (fun h=>⟨_,h,by simp;omega⟩))
  obtain⟨g',c',hv'⟩:=owns_shape_pos (by omega) HX1.out
  subst hv'
  have hnc:=Wr.owns_any HX1.out
  have hcap:n+1≤c':=by
   obtain⟨a,c,e,h⟩:=hnc
   cases e
   exact h
  have hgD:g'≠D:=fun e=>own_ne HX1.out HD1.out (fun c f h=>by cases h) (by rw[e];rfl)
  have HXO:=hid (show ∀u∈xs++momL mt ao ab fo fb,u.oneCell'=true from fun u hu=>by
   rcases List.mem_append.1 hu with h | h
   ·exact H1.out u h
   ·exact mom_one _ _ _ _ _ u h)
  clear d7 m0 m1 m2 m3 m4 hnc
  by_cases h6:n=6
  ·subst h6
   have C98:=hid (delete1 g' c' B _ w1 HX1.out HXO.out)
   go_wp2_with fail
   refine C98.out.mono ?_
   rintro e w2 ⟨rfl,own2,hf2⟩
   have HD2:=hid (obj_fr HD1.out hf2 (fun h=>hgD (List.mem_singleton.1 h).symm))
   have HO2:=hid own2
   have HF2:=hid hf2
   have e7:=obj_cell HD2.out (i:=7) (v:=vU) rfl
   have e8:=obj_cell HD2.out (i:=8) (v:=vR) rfl
   have f7:=obj_froz HD2.out 7
   have f8:=obj_froz HD2.out 8
   clear own2 hf2 C98
   have HFF:=hid (show Fr (D :: vU.ownBlock.toList) w w2 from fr_chain (HF1.out.mono (fun k hk _=>List.mem_cons_of_mem _ hk)) HF2.out (by
    rcases HOR.out with h | ⟨g,h,hl⟩
    ·exact .inl (List.mem_cons_of_mem _ (by rw[←h];exact List.mem_singleton.2 rfl))
    ·cases h
     exact .inr hl))
   go_wp2
   go_end0
   exact⟨rfl,_,obj_set (obj_set HD2.out 7 _) 8 _,own_set (own_set HO2.out (fun e=>hgD (Option.some.inj e))) (fun e=>hgD (Option.some.inj e)),HOR.out,(HFF.out.set List.mem_cons_self _).set List.mem_cons_self _⟩
  ·have hm1:max ((n:Int)+1 - 6) 0=0:=by omega
   have C98:=hid (delete0 ⟨g',0,none⟩ (n+1) c' w1 hcap)
   have e7:=obj_cell HD1.out (i:=7) (v:=vU) rfl
   have e8:=obj_cell HD1.out (i:=8) (v:=vR) rfl
   have f7:=obj_froz HD1.out 7
   have f8:=obj_froz HD1.out 8
   go_wp2_with fail
   refine C98.out.mono ?_
   rintro e w2 ⟨rfl,rfl⟩
   have HRL:=hid (show recN n=n+1∧recL n xs (momL mt ao ab fo fb)=xs++momL mt ao ab fo fb by unfold recN recL;rw[if_neg h6,if_neg h6];exact⟨rfl,rfl⟩)
   go_wp2
   go_end0
   refine⟨rfl,_,obj_set (obj_set HD1.out 7 _) 8 _,?_,HOR.out,((HF1.out.mono (fun k hk _=>List.mem_cons_of_mem _ hk)).set List.mem_cons_self _).set List.mem_cons_self _⟩
   rw[HRL.out.1,HRL.out.2]
   exact own_set (own_set HX1.out (fun e=>hgD (Option.some.inj e))) (fun e=>hgD (Option.some.inj e)))
end Go.Proofs.YtnakejhohdbfdacGreatDoor.Cls.Dc

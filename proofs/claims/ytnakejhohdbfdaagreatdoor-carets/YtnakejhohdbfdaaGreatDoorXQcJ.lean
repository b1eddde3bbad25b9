import Derived.Test.YtnakejhohdbfdaaGreatDoorXQcH
import Derived.Test.YtnakejhohdbfdaaGreatDoorXQcI
namespace Go.Proofs.YtnakejhohdbfdaaGreatDoor
open Go.RowKit Lev Lay Bnd
set_option maxRecDepth 10000 in
theorem gapP_nil (B P:Nat)(Bd V X:List Int)(r:Int)(Ls:List Ln)(v0 v1 v2 vL:Value)(hs:List Value)(off:Int)(back:Bool)(w:World)(h:LP w B P Bd V X r Ls v0 v1 v2 vL hs)(hV:V.length=0) :
 Calls Tryz.prog 59 #[.pointer (some ⟨P,0,none⟩),.agg #[.int .i64 off,.bool back]] w fun e w'=>e=.returned (.agg #[.int .i64 0,.int .i64 0])∧Fr [] w w':=by
 obtain⟨a,c,hv,_⟩:=h.v;rw[hV]at hv;subst hv;have p1:=obj_cell h.o (i:=1) (v:=.slice a 0 c) rfl;have hPl:P<w.heap.size:=World.block_lt_of_cell? _ _ p1;obtain⟨w2,hw2⟩:∃w2,w2=(w.alloc (.cells #[.int .i64 off,.bool back] 55)).alloc (.cells #[.int .i64 0,.int .i64 0] 58):=⟨_,rfl⟩;have HF2:=hid (show Fr [] w w2 by rw[hw2];(repeat(first | refine Fr.set_new ?_ (by omega) | refine Fr.drewN ?_ _ | refine Fr.drew ?_ | with_reducible exact Fr.refl _ _ | refine Fr.alloc ?_ _)))
 have HR2:=hid (show w2.heap[w.heap.size+1]?=some (.cells #[.int .i64 0,.int .i64 0] 58 (0,0)) by
  have hs:(w.alloc (.cells #[.int .i64 off,.bool back] 55)).heap.size=w.heap.size+1:=by simp
  have h0:=obj_new (w.alloc (.cells #[.int .i64 off,.bool back] 55)) (.cells #[.int .i64 0,.int .i64 0] 58)
  rw[hs]at h0
  rw[hw2];exact h0)
 have HW2:=hid hw2;clear h hV hw2;go_enter Tryz.func59,Tryz.ntmps59;go_wp2;rw[←HW2.out];refine bodyPost_ret (results_cell_row (t:=58) (fr:=(0,0)) rfl _ _ (w.heap.size+1) _ _ rfl HR2.out Tryz.underlying58 rfl (by kernel_rfl)) rfl ?_;exact⟨rfl,HF2.out⟩
set_option maxRecDepth 10000 in
set_option maxHeartbeats 4000000 in
theorem gapD_nil (WB:World)(U lb:Nat)(s:ByteArray)(bs:Int)(vC vM:Value)(Cs:List (Int × Int × Int × Int))(Ls:List Ln)(hm:List Value)(n:Nat)(off:Int)(back:Bool)(w:World)(h:LD WB w U lb s bs vC vM Cs Ls hm)(hs:s.size≤1000000)(hT:Floor w)(hend:Dec.Ends s n)(hK0:0<Ls.length)(hK:Ls.length≤400)(hz:∀i,i<Ls.length→(lnN Ls i).o.length=0) :
 Calls Tryz.prog 20 #[.pointer (some ⟨lb,0,none⟩),.agg #[.int .i64 off,.bool back]] w fun e w'=>e=.returned (.agg #[.int .i64 0,.int .i64 0])∧Fr [] w w':=by
 have H18:=hid (fun(Y:World) (hf:Fr [] w Y)=>placeD_any WB U lb s bs vC vM Cs Ls hm n off back Y (h.fr0 hf) hs (hT.fr hf) hend);have HLN:=hid (fun(i:Nat) (hi:i<Ls.length)=>h.inn i _ (lnN_get hi));have HOL:=hid h.ownL;have HZ:=hid hz;obtain⟨gL,cL,hvL⟩:=owns_shape (by omega) h.ownL;subst hvL;have HLB:=hid h.obj;have hPl:=obj_lt h.obj;obtain⟨o,bk,hp⟩:∃o bk,placeL (bnd s n) (s.size:Nat) off back=(o,bk):=⟨_,_,rfl⟩;rw[hp]at H18;generalize Ls.length=K at *;obtain⟨w2,hw2⟩:∃w2,w2=(w.alloc (.cells #[.int .i64 off,.bool back] 55)).alloc (.cells #[.int .i64 0,.int .i64 0] 58):=⟨_,rfl⟩;have HF2:=hid (show Fr [] w w2 by rw[hw2];(repeat(first | refine Fr.set_new ?_ (by omega) | refine Fr.drewN ?_ _ | refine Fr.drew ?_ | with_reducible exact Fr.refl _ _ | refine Fr.alloc ?_ _)));have HO2:=hid (show w2.heap[w.heap.size]?=some (.cells #[.int .i64 off,.bool back] 55 (0,0)) by rw[hw2];exact obj_fr (obj_new w _) ((Fr.refl [] _).alloc _) List.not_mem_nil)
 have HR2:=hid (show w2.heap[w.heap.size+1]?=some (.cells #[.int .i64 0,.int .i64 0] 58 (0,0)) by
  have hs:(w.alloc (.cells #[.int .i64 off,.bool back] 55)).heap.size=w.heap.size+1:=by simp
  have h0:=obj_new (w.alloc (.cells #[.int .i64 off,.bool back] 55)) (.cells #[.int .i64 0,.int .i64 0] 58)
  rw[hs]at h0
  rw[hw2];exact h0)
 clear h hT hend hp hz hs;go_enter Tryz.func20,Tryz.ntmps20;have HW2:=hid hw2;clear hw2;go_wp2_with fail;rw[←HW2.out];refine(H18.out _ HF2.out).mono ?_;rintro e w3 ⟨rfl,hf3⟩;have HO3:=hid (obj_fr HO2.out hf3 List.not_mem_nil);have HR3:=hid (obj_fr HR2.out hf3 List.not_mem_nil);have HF3:=hid (HF2.out.trans hf3);have z0:=obj_cell HO3.out (i:=0) (v:=.int .i64 off) rfl;have z1:=obj_cell HO3.out (i:=1) (v:=.bool back) rfl;have f0:=obj_froz HO3.out 0;have f1:=obj_froz HO3.out 1;clear hf3;go_wp2_with fail;obtain⟨w4,hw4⟩:∃w4,w4=(w3.setCell ⟨w.heap.size,0,none⟩ (.int .i64 o)).setCell ⟨w.heap.size,1,none⟩ (.bool bk):=⟨_,rfl⟩;have HR4:=hid (show w4.heap[w.heap.size+1]?=some (.cells #[.int .i64 0,.int .i64 0] 58 (0,0)) by rw[hw4];exact obj_fr HR3.out (show Fr [w.heap.size] w3 _ by(repeat(first | refine Fr.set ?_ (List.mem_singleton.2 rfl) _ | refine Fr.drewN ?_ _ | refine Fr.drew ?_ | with_reducible exact Fr.refl _ _ | refine Fr.alloc ?_ _))) (by simp));have HF4:=hid (show Fr [] w w4 by rw[hw4];exact Fr.set_new (Fr.set_new HF3.out (by omega)) (by omega));rw[←hw4];clear hw4 z0 z1 f0 f1;go_loopw [5] (fun vi wr=>∃i:Nat,vi=.int .i64 i∧i≤K∧wr=w4) (fun vi _=>K - (intOf vi).toNat)
 case atStart=>exact⟨0,rfl,Nat.zero_le _,rfl⟩
 case round =>
  obtain⟨i,rfl,hiK,hwr⟩:=hrel;obtain rfl:w4=wr:=hwr.symm;have m3:=obj_cell (obj_fr HLB.out HF4.out List.not_mem_nil) (i:=3) (v:=.slice (some ⟨gL,0,none⟩) K cL) rfl;by_cases hlt:i<K
  ·have hiKI:(i:Int)<(K:Int):=by omega
   obtain⟨vO,vX,_,_,a3,_,a5,_⟩:=HLN.out i hlt;rw[HZ.out i hlt]at a5;obtain⟨aO,cO,hvO⟩:=owns_slice a5;subst hvO;have c3:=HF4.out.cell (show w.cell? ⟨gL,i * 4+2,none⟩=some (.slice aO 0 cO) by rw[HOL.out.cellAt _ (by omega)];exact a3) List.not_mem_nil;clear a3 a5;go_wp2_with fail;go_loopw [6] (fun vk wr2=>vk=.int .i64 0∧wr2=w4) (fun _ _=>0)
   case atStart=>exact⟨rfl,rfl⟩
   case round =>
    obtain⟨rfl,hwr2⟩:=hrel;obtain rfl:w4=wr:=hwr2.symm;go_wp2;go_roundw
    case rel=>exact⟨i+1,by go_num,by omega,trivial⟩
    case measure=>simp[intOf];omega
  ·have hiKI:¬(i:Int)<(K:Int):=by omega
   have r0:=obj_cell HR4.out (i:=0) (v:=.int .i64 0) rfl;have r1:=obj_cell HR4.out (i:=1) (v:=.int .i64 0) rfl;have g0:=obj_froz HR4.out 0;have g1:=obj_froz HR4.out 1;go_wp2;refine bodyPost_ret (results_cell_row (t:=58) (fr:=(0,0)) rfl _ _ (w.heap.size+1) _ _ rfl (obj_set (obj_set HR4.out 0 _) 1 _) Tryz.underlying58 rfl (by kernel_rfl)) rfl ?_;exact⟨rfl,Fr.set_new (Fr.set_new HF4.out (by omega)) (by omega)⟩
theorem gapP_all (B P:Nat)(Bd V X:List Int)(r z:Int)(Ls:List Ln)(v0 v1 v2 vL:Value)(hs:List Value)(off:Int)(back:Bool)(w:World)(h:LP w B P Bd V X r Ls v0 v1 v2 vL hs)(F:Fine Bd V z Ls)(hz:0≤z)(T:Tame Bd V Ls)(hv4:V.length≤400)(hK:Ls.length≤400)(hlo:∀l∈Ls,l.o.length≤1000) :
 Calls Tryz.prog 59 #[.pointer (some ⟨P,0,none⟩),.agg #[.int .i64 off,.bool back]] w fun e w'=>e=.returned (.agg #[.int .i64 ((gapL Bd V z Ls off back).1:Nat),.int .i64 ((gapL Bd V z Ls off back).2:Nat)])∧Fr [] w w':=by
 by_cases hV:V.length=0
 ·rw[show gapL Bd V z Ls off back=(0,0) by unfold gapL;rw[if_pos hV]]
  exact gapP_nil B P Bd V X r Ls v0 v1 v2 vL hs off back w h hV
 ·obtain⟨c,i,k,hc,e1,e2,hi,hk⟩:=F.gap (by omega) off back
  rw[gapL_eq (by omega) e1 hi hk];exact gapP_any B P Bd V X r z Ls v0 v1 v2 vL hs off _ back _ c i k w h F.rs hz T F.bd hv4 hK hlo rfl hc e1 hi hk
theorem gapD_all (WB:World)(U lb:Nat)(s:ByteArray)(bs:Int)(vC vM:Value)(Bd V X:List Int)(Ls:List Ln)(hm:List Value)(n:Nat)(off:Int)(back:Bool)(w:World)(h:LD WB w U lb s bs vC vM (clP Bd V X V.length) Ls hm)(hs:s.size≤1000000)(hT:Floor w)(hend:Dec.Ends s n)(hB:Bd=bnd s n)(F:Fine Bd V (s.size:Nat) Ls)(T:Tame Bd V Ls)(hv4:V.length≤400)(hK0:0<Ls.length)(hK:Ls.length≤400)(hlo:∀l∈Ls,l.o.length≤1000) :
 Calls Tryz.prog 20 #[.pointer (some ⟨lb,0,none⟩),.agg #[.int .i64 off,.bool back]] w fun e w'=>e=.returned (.agg #[.int .i64 ((gapL Bd V (s.size:Nat) Ls off back).1:Nat),.int .i64 ((gapL Bd V (s.size:Nat) Ls off back).2:Nat)])∧Fr [] w w':=by
 by_cases hV:V.length=0
 ·rw[show gapL Bd V (s.size:Nat) Ls off back=(0,0) by unfold gapL;rw[if_pos hV]]
  refine gapD_nil WB U lb s bs vC vM _ Ls hm n off back w h hs hT hend hK0 hK (fun i hi=>?_)
  rcases Nat.eq_zero_or_pos (lnN Ls i).o.length with h0 | h0
  ·exact h0
  ·have:=T.ob _ (lnN_mem hi) _ (nix_mem h0);omega
 ·obtain⟨c,i,k,hc,e1,e2,hi,hk⟩:=F.gap (by omega) off back
  rw[gapL_eq (by omega) e1 hi hk];have hbd:=F.bd;have hkc:=hk.yes;have hg:=gapD_any WB U lb s bs vC vM Bd V X Ls hm n off _ back _ i k w h hs hT hend T hv4 hK hlo (by rw[←hB]) hi.lt hk.lt (by rw[hkc];exact e2) (fun i' k' hi' hk' hor he=>?_)
  ·rw[hkc]at hg;exact hg
  ·have hm':nix (lnN Ls i').o k'∈(lnN Ls i').o:=nix_mem' hk'
   obtain⟨hcv,hH⟩:=F.on i' hi' _ hm';have hcc:nix (lnN Ls i').o k'=c:=by
    rw[←e2]at he;by_cases hb:(placeL Bd (s.size:Nat) off back).2=true
    ·rw[if_pos hb,if_pos hb]at he
     have:=rises_inj F.rs (by omega) (by omega) he;omega
    ·rw[if_neg hb,if_neg hb]at he
     exact rises_inj F.rs (by omega) (by omega) he
   rw[hcc]at hH;obtain rfl:i'=i:=by rw[←holds_idx hH,holds_idx hi]
   rcases hor with h1 | h1
   ·omega
   ·exact hk.no k' h1.2 hcc
end Go.Proofs.YtnakejhohdbfdaaGreatDoor

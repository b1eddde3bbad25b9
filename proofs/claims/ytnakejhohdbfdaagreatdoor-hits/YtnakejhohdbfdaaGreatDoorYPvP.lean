import Derived.Test.YtnakejhohdbfdaaGreatDoorZPvK
import Derived.Test.YtnakejhohdbfdaaGreatDoorZShK
import Derived.Test.YtnakejhohdbfdaaGreatDoorZLdB
import Derived.Test.YtnakejhohdbfdaaGreatDoorZMm
import Derived.Test.YtnakejhohdbfdaaGreatDoorZRsO
import Derived.Test.YtnakejhohdbfdaaGreatDoorZMg
import Derived.Test.YtnakejhohdbfdaaGreatDoorZMd
namespace Go.Proofs.YtnakejhohdbfdaaGreatDoor
open Go.RowKit Lev Lay Bnd Go.Shelf
attribute [local go_sem] Oper.semAt_some
set_option maxRecDepth 100000 in
set_option maxHeartbeats 4000000 in
theorem ends_any (gT n cT:Nat) (R:List Int) (p:Nat→Nat) (gL cL ge m ce:Nat) (bs z:Int) (Ed K LV:List Int) (ed:Nat→Bool) (w:World) (hn0:0 < n) (hn:n ≤ 1000) (hK:K.length=n) (hLV:LV.length=n) (hm0:0 < m) (hm:m=Ed.length) (hm1:m ≤ 1000) (hr:Rises Ed z)
 (hT:rnAt w gT n R p) (hL:rowAt w gL n LV) (hLf:soft w gL n) (hE:rowAt w ge m Ed) (hgE:ge ≠ gL) (hgT:gT ≠ gL)
 (H113:∀ x,x < n→∀ X:World,Fr [gL] w X→Calls Tryz.prog 124 #[.int .i32 (nth R x)] X fun e w'=>e=.returned (.int .i64 (nth K x))∧Fr [] X w')
 (hed:∀ x,x < n→Ed.contains ((p (x + 1):Nat):Int)=ed (x + 1)) (hed0:endAt K ed n=false) :
 Calls Tryz.prog 206 #[.slice (some ⟨gT,0,none⟩) n cT,.slice (some ⟨gL,0,none⟩) n cL,.int .i64 bs,.slice (some ⟨ge,0,none⟩) m ce] w fun e w'=>e=.returned (.tuple #[])∧rowAt w' gL n (mixL K LV bs ed 0)∧Fr [gL] w w':=by
 have hTw:gT < w.heap.size:=World.block_lt_of_cell? _ _ (hT 0 hn0).1
 have hLw:gL < w.heap.size:=World.block_lt_of_cell? _ _ (hL 0 hn0)
 have hEw:ge < w.heap.size:=World.block_lt_of_cell? _ _ (hE 0 hm0)
 have HST:=hid (fun w=>fn198_any gT n cT w)
 have H159:=hid (fun (y:Int) (X:World) (h:rowAt X ge m Ed)=>by have h5:=search_l Ed z hr y ge ce X (by omega) (by rw [← hm];exact h);rw [← hm] at h5;exact h5)
 have HC:=hid H113
 have HED:=hid hed
 have HKL:=hid hK
 have HT:=hid hT
 have HL:=hid (show rowAt w gL n (mixL K LV bs ed n) by rw [← hLV,mixL_start,hLV];exact hL)
 have HLF:=hid hLf
 have HE:=hid hE
 have HE0:=hid hed0
 have HLV:=hid hLV
 clear hT hL hLf hE H113 hed hr hed0 hm hK hLV
 refine (callsIn_wide (n:=3)).1 ?_
 refine callsIn_of_wp_marks Tryz.func206 rfl trivial ?_ rfl
 simp only [Tryz.ntmps206,List.size_toArray,List.length_cons,List.length_nil,Nat.reduceAdd,Nat.reduceSub,Array.replicate_succ,Array.replicate_zero,List.push_toArray,List.append_toArray,List.nil_append,List.cons_append]
 gi_wp2_with (refine ⟨trivial,?_⟩;gi_at_call 227;refine (callsIn_wide.2 (HST.out _)).mono ?_;rintro e w' ⟨rfl,rfl⟩)
 obtain ⟨W0,hW0⟩:∃ W0,((((w.alloc (.cells #[.slice (some ⟨gL,0,none⟩) n cL] 22)).alloc (.cells #[.int .i64 bs] 3)).alloc (.cells #[.slice (some ⟨ge,0,none⟩) m ce] 22)).alloc (.cells #[.bool false] 4)).alloc (.cells #[.slice (some ⟨gT,0,none⟩) n cT] 29)=W0:=⟨_,rfl⟩
 have hsz:W0.heap.size=w.heap.size + 5:=by rw [← hW0];simp
 have hV0:VE w W0.heap.size gT n cT R p gL cL bs ge m ce Ed K LV ed n W0:=by
  have hf:Fr [] w W0:=by rw [← hW0];exact (((((Fr.refl [] w).alloc _).alloc _).alloc _).alloc _).alloc _
  have k0:W0.heap[w.heap.size]?=some (.cells #[.slice (some ⟨gL,0,none⟩) n cL] 22 (0,0)):=by
   rw [← hW0];exact obj_fr (obj_new w _) (((((Fr.refl [] _).alloc _).alloc _).alloc _).alloc _) List.not_mem_nil
  have k1:W0.heap[w.heap.size + 1]?=some (.cells #[.int .i64 bs] 3 (0,0)):=by
   have h:=obj_fr (obj_new (w.alloc (.cells #[.slice (some ⟨gL,0,none⟩) n cL] 22)) (.cells #[.int .i64 bs] 3)) ((((Fr.refl [] _).alloc (.cells #[.slice (some ⟨ge,0,none⟩) m ce] 22)).alloc (.cells #[.bool false] 4)).alloc (.cells #[.slice (some ⟨gT,0,none⟩) n cT] 29)) List.not_mem_nil
   rw [hW0] at h;simpa using h
  have k2:W0.heap[w.heap.size + 2]?=some (.cells #[.slice (some ⟨ge,0,none⟩) m ce] 22 (0,0)):=by
   have h:=obj_fr (obj_new ((w.alloc (.cells #[.slice (some ⟨gL,0,none⟩) n cL] 22)).alloc (.cells #[.int .i64 bs] 3)) (.cells #[.slice (some ⟨ge,0,none⟩) m ce] 22)) (((Fr.refl [] _).alloc (.cells #[.bool false] 4)).alloc (.cells #[.slice (some ⟨gT,0,none⟩) n cT] 29)) List.not_mem_nil
   rw [hW0] at h;simpa using h
  have k3:W0.heap[w.heap.size + 3]?=some (.cells #[.bool false] 4 (0,0)):=by
   have h:=obj_fr (obj_new (((w.alloc (.cells #[.slice (some ⟨gL,0,none⟩) n cL] 22)).alloc (.cells #[.int .i64 bs] 3)).alloc (.cells #[.slice (some ⟨ge,0,none⟩) m ce] 22)) (.cells #[.bool false] 4)) ((Fr.refl [] _).alloc (.cells #[.slice (some ⟨gT,0,none⟩) n cT] 29)) List.not_mem_nil
   rw [hW0] at h;simpa using h
  have k4:W0.heap[w.heap.size + 4]?=some (.cells #[.slice (some ⟨gT,0,none⟩) n cT] 29 (0,0)):=by
   have h:=obj_new ((((w.alloc (.cells #[.slice (some ⟨gL,0,none⟩) n cL] 22)).alloc (.cells #[.int .i64 bs] 3)).alloc (.cells #[.slice (some ⟨ge,0,none⟩) m ce] 22)).alloc (.cells #[.bool false] 4)) (.cells #[.slice (some ⟨gT,0,none⟩) n cT] 29)
   rw [hW0] at h;simpa using h
  exact ⟨⟨HT.out.fr hf List.not_mem_nil,obj_cell k4 (i:=0) rfl⟩,obj_cell k0 (i:=0) rfl,obj_cell k1 (i:=0) rfl,obj_cell k2 (i:=0) rfl,by rw [HE0.out];exact obj_cell k3 (i:=0) rfl,obj_froz k3 0,HE.out.fr hf List.not_mem_nil,HL.out.fr hf List.not_mem_nil,fun i hi=>hf.froz (HL.out i hi) List.not_mem_nil (HLF.out i hi),hf.mono (fun _ h _=>absurd h List.not_mem_nil),Nat.le_refl _⟩
 rw [hW0]
 refine wpIn_range_al rfl (by omega) (gf:=248) (lb:=#[.pointer (some ⟨w.heap.size + 4,0,none⟩)]) rfl trivial (enters_of Tryz.func248 (by kernel_rfl) rfl)
  (encs:=fun x:Nat=>#[.int .i64 x,.agg #[.int .i32 (nth R x),.int .i64 (p x:Nat),.int .i64 (p (x + 1):Nat)]]) (fun _=>rfl)
  (VE w W0.heap.size gT n cT R p gL cL bs ge m ce Ed K LV ed) (fun _ _ h=>h.n) (fun _ _ _ h hb=>h.below hsz hTw hLw hEw hb)
  (fun j x=>j=x + 1∧x < n) (fun _ x=>x) n 0
  (fun l V' W h1 h2 h3 h4=>back_rn gT n cT R p _ (by omega) _ l V' (fun C A h=>(h1 C A h).v) h3 W h4)
  (fun x=>.cells #[.int .i32 (nth R x),.int .i64 (p x:Nat),.int .i64 (p (x + 1):Nat)] 94)
  (fun x b=>{ tmps:=#[.slice (some ⟨gT,0,none⟩) n cT,.slice (some ⟨gL,0,none⟩) n cL,.int .i64 bs,.slice (some ⟨ge,0,none⟩) m ce,undef,.pointer (some ⟨w.heap.size,0,none⟩),.pointer (some ⟨w.heap.size + 1,0,none⟩),.pointer (some ⟨w.heap.size + 2,0,none⟩),.pointer (some ⟨w.heap.size + 3,0,none⟩),.int .i64 x,.pointer (some ⟨b,0,none⟩),undef,undef,undef,.slice (some ⟨gT,0,none⟩) n cT,.func (.func 248) #[] #[.pointer (some ⟨w.heap.size + 4,0,none⟩)],.int .i64 x,.agg #[.int .i32 (nth R x),.int .i64 (p x:Nat),.int .i64 (p (x + 1):Nat)],undef,undef,undef,undef,undef,undef,undef,undef,undef,undef,undef,undef,undef,undef,undef,undef,undef,undef,undef,undef,undef,undef,undef,undef,undef,undef,undef,undef,undef,undef,undef],defers:=[] })
  hV0 ?assign ?body ?done
 case assign =>
  intro l x W K hK
  gi_wp2
  exact hK
 case body =>
  rintro l j x A b hV ⟨rfl,hx⟩ hob hb
  have r0:=obj_cell hob (i:=0) rfl
  have HOB:=hid hob
  have HV:=hid hV
  have H1:=hid (HC.out x hx A hV.f)
  have HS2:=hid (endAt_step K ed (i:=x) (by rw [HKL.out];exact hx))
  have HDD:=hid (HED.out x hx)
  have hxI:(x:Int) < (n:Int):=by omega
  have HTR:=hid (fun X:World=>trails_any (nth K x) X)
  generalize nth K x=c at *
  clear hV0 hW0 HST hob
  have R2:=hid (obj_cell HOB.out (i:=2) rfl)
  have B0:=hid HV.out.b0
  have B1:=hid HV.out.b1
  have B2:=hid HV.out.b2
  have B3:=hid HV.out.b3
  have F3:=hid HV.out.f3
  have L0:=hid (HV.out.l x hx)
  have L1:=hid (HV.out.lf x hx)
  clear hV
  have H2:=hid (fun (X:World) (h:rowAt X ge m Ed)=>by have h5:=H159.out ((p (x + 1):Nat):Int) X h;rw [HDD.out] at h5;exact h5)
  generalize cidx Ed ((p (x + 1):Nat):Int)=ci at *
  have HYES:=hid (fun (B:World) (he:endAt K ed x=true) (hG:Fr [] A B)=>HV.out.yes hx HLV.out hsz hTw hLw hEw hgE hgT he hG)
  have HNO:=hid (fun (B:World) (he:endAt K ed x=false) (hG:Fr [] A B)=>HV.out.no hsz hTw hLw hEw he hG)
  by_cases h11:c=11
  ·subst h11
   have HEE:=hid (show endAt K ed x=true by rw [HS2.out];simp [stops])
   generalize ed (x + 1)=dd at *
   generalize endAt K ed (x + 1)=e1 at *
   gi_wp2_with (first | (refine ⟨trivial,?_⟩;gi_at_call 124;refine (CallsIn.inRound l (callsIn_wide.2 H1.out)).mono ?_;rintro e w1 ⟨rfl,hf1⟩;have HF1:=hid hf1;have r2:=hf1.cell R2.out List.not_mem_nil;have d2:=hf1.cell B2.out List.not_mem_nil;have d3:=hf1.cell B3.out List.not_mem_nil;have d4:=hf1.froz B3.out List.not_mem_nil F3.out;have d0:=hf1.cell B0.out List.not_mem_nil;have d1:=hf1.cell B1.out List.not_mem_nil;have l0:=hf1.cell L0.out List.not_mem_nil;have l1:=hf1.froz L0.out List.not_mem_nil L1.out;have HE1:=hid (HV.out.e.fr hf1 List.not_mem_nil);clear hf1) | (refine ⟨trivial,?_⟩;gi_at_call 166;refine (CallsIn.inRound l (callsIn_wide.2 (H2.out _ HE1.out))).mono ?_;rintro e w2 ⟨rfl,q,rfl⟩) | (refine ⟨trivial,?_⟩;gi_at_call 228;refine (CallsIn.inRound l (callsIn_wide.2 (HTR.out _))).mono ?_;rintro e w3 ⟨rfl,rfl⟩) | (refine ⟨trivial,?_⟩))
   exact HYES.out _ HEE.out (HF1.out.trans (fr_drewN _ _))
  ·by_cases h10:c=10
   ·subst h10
    have HEE:=hid (show endAt K ed x=true by rw [HS2.out];simp [stops])
    generalize ed (x + 1)=dd at *
    generalize endAt K ed (x + 1)=e1 at *
    gi_wp2_with (first | (refine ⟨trivial,?_⟩;gi_at_call 124;refine (CallsIn.inRound l (callsIn_wide.2 H1.out)).mono ?_;rintro e w1 ⟨rfl,hf1⟩;have HF1:=hid hf1;have r2:=hf1.cell R2.out List.not_mem_nil;have d2:=hf1.cell B2.out List.not_mem_nil;have d3:=hf1.cell B3.out List.not_mem_nil;have d4:=hf1.froz B3.out List.not_mem_nil F3.out;have d0:=hf1.cell B0.out List.not_mem_nil;have d1:=hf1.cell B1.out List.not_mem_nil;have l0:=hf1.cell L0.out List.not_mem_nil;have l1:=hf1.froz L0.out List.not_mem_nil L1.out;have HE1:=hid (HV.out.e.fr hf1 List.not_mem_nil);clear hf1) | (refine ⟨trivial,?_⟩;gi_at_call 166;refine (CallsIn.inRound l (callsIn_wide.2 (H2.out _ HE1.out))).mono ?_;rintro e w2 ⟨rfl,q,rfl⟩) | (refine ⟨trivial,?_⟩;gi_at_call 228;refine (CallsIn.inRound l (callsIn_wide.2 (HTR.out _))).mono ?_;rintro e w3 ⟨rfl,rfl⟩) | (refine ⟨trivial,?_⟩))
    exact HYES.out _ HEE.out (HF1.out.trans (fr_drewN _ _))
   ·have hb11:(c == 11)=false:=by simp [h11]
    have hb10:(c == 10)=false:=by simp [h10]
    have HEE:=hid (show endAt K ed x=(trail c && (endAt K ed (x + 1) || ed (x + 1))) by rw [HS2.out];simp [stops,h11,h10])
    generalize ed (x + 1)=dd at *
    generalize endAt K ed (x + 1)=e1 at *
    generalize trail c=tr at *
    cases tr
    ·gi_wp2_with (first | (refine ⟨trivial,?_⟩;gi_at_call 124;refine (CallsIn.inRound l (callsIn_wide.2 H1.out)).mono ?_;rintro e w1 ⟨rfl,hf1⟩;have HF1:=hid hf1;have r2:=hf1.cell R2.out List.not_mem_nil;have d2:=hf1.cell B2.out List.not_mem_nil;have d3:=hf1.cell B3.out List.not_mem_nil;have d4:=hf1.froz B3.out List.not_mem_nil F3.out;have d0:=hf1.cell B0.out List.not_mem_nil;have d1:=hf1.cell B1.out List.not_mem_nil;have l0:=hf1.cell L0.out List.not_mem_nil;have l1:=hf1.froz L0.out List.not_mem_nil L1.out;have HE1:=hid (HV.out.e.fr hf1 List.not_mem_nil);clear hf1) | (refine ⟨trivial,?_⟩;gi_at_call 166;refine (CallsIn.inRound l (callsIn_wide.2 (H2.out _ HE1.out))).mono ?_;rintro e w2 ⟨rfl,q,rfl⟩) | (refine ⟨trivial,?_⟩;gi_at_call 228;refine (CallsIn.inRound l (callsIn_wide.2 (HTR.out _))).mono ?_;rintro e w3 ⟨rfl,rfl⟩) | (refine ⟨trivial,?_⟩))
     exact HNO.out _ (by rw [HEE.out];rfl) (HF1.out.trans (fr_drewN _ _))
    ·cases e1
     ·cases dd
      ·gi_wp2_with (first | (refine ⟨trivial,?_⟩;gi_at_call 124;refine (CallsIn.inRound l (callsIn_wide.2 H1.out)).mono ?_;rintro e w1 ⟨rfl,hf1⟩;have HF1:=hid hf1;have r2:=hf1.cell R2.out List.not_mem_nil;have d2:=hf1.cell B2.out List.not_mem_nil;have d3:=hf1.cell B3.out List.not_mem_nil;have d4:=hf1.froz B3.out List.not_mem_nil F3.out;have d0:=hf1.cell B0.out List.not_mem_nil;have d1:=hf1.cell B1.out List.not_mem_nil;have l0:=hf1.cell L0.out List.not_mem_nil;have l1:=hf1.froz L0.out List.not_mem_nil L1.out;have HE1:=hid (HV.out.e.fr hf1 List.not_mem_nil);clear hf1) | (refine ⟨trivial,?_⟩;gi_at_call 166;refine (CallsIn.inRound l (callsIn_wide.2 (H2.out _ HE1.out))).mono ?_;rintro e w2 ⟨rfl,q,rfl⟩) | (refine ⟨trivial,?_⟩;gi_at_call 228;refine (CallsIn.inRound l (callsIn_wide.2 (HTR.out _))).mono ?_;rintro e w3 ⟨rfl,rfl⟩) | (refine ⟨trivial,?_⟩))
       exact HNO.out _ (by rw [HEE.out];rfl) (HF1.out.trans (fr_drewN _ _))
      ·gi_wp2_with (first | (refine ⟨trivial,?_⟩;gi_at_call 124;refine (CallsIn.inRound l (callsIn_wide.2 H1.out)).mono ?_;rintro e w1 ⟨rfl,hf1⟩;have HF1:=hid hf1;have r2:=hf1.cell R2.out List.not_mem_nil;have d2:=hf1.cell B2.out List.not_mem_nil;have d3:=hf1.cell B3.out List.not_mem_nil;have d4:=hf1.froz B3.out List.not_mem_nil F3.out;have d0:=hf1.cell B0.out List.not_mem_nil;have d1:=hf1.cell B1.out List.not_mem_nil;have l0:=hf1.cell L0.out List.not_mem_nil;have l1:=hf1.froz L0.out List.not_mem_nil L1.out;have HE1:=hid (HV.out.e.fr hf1 List.not_mem_nil);clear hf1) | (refine ⟨trivial,?_⟩;gi_at_call 166;refine (CallsIn.inRound l (callsIn_wide.2 (H2.out _ HE1.out))).mono ?_;rintro e w2 ⟨rfl,q,rfl⟩) | (refine ⟨trivial,?_⟩;gi_at_call 228;refine (CallsIn.inRound l (callsIn_wide.2 (HTR.out _))).mono ?_;rintro e w3 ⟨rfl,rfl⟩) | (refine ⟨trivial,?_⟩))
       exact HYES.out _ (by rw [HEE.out];rfl) (HF1.out.trans (fr_drewN _ _))
     ·gi_wp2_with (first | (refine ⟨trivial,?_⟩;gi_at_call 124;refine (CallsIn.inRound l (callsIn_wide.2 H1.out)).mono ?_;rintro e w1 ⟨rfl,hf1⟩;have HF1:=hid hf1;have r2:=hf1.cell R2.out List.not_mem_nil;have d2:=hf1.cell B2.out List.not_mem_nil;have d3:=hf1.cell B3.out List.not_mem_nil;have d4:=hf1.froz B3.out List.not_mem_nil F3.out;have d0:=hf1.cell B0.out List.not_mem_nil;have d1:=hf1.cell B1.out List.not_mem_nil;have l0:=hf1.cell L0.out List.not_mem_nil;have l1:=hf1.froz L0.out List.not_mem_nil L1.out;have HE1:=hid (HV.out.e.fr hf1 List.not_mem_nil);clear hf1) | (refine ⟨trivial,?_⟩;gi_at_call 166;refine (CallsIn.inRound l (callsIn_wide.2 (H2.out _ HE1.out))).mono ?_;rintro e w2 ⟨rfl,q,rfl⟩) | (refine ⟨trivial,?_⟩;gi_at_call 228;refine (CallsIn.inRound l (callsIn_wide.2 (HTR.out _))).mono ?_;rintro e w3 ⟨rfl,rfl⟩) | (refine ⟨trivial,?_⟩))
      exact HYES.out _ (by rw [HEE.out];rfl) (HF1.out.trans (fr_drewN _ _))
 case done =>
  rintro D A hV hD hKd
  have HV:=hid hV
  clear hV hV0 hW0
  gi_wp2
  refine ⟨by simp,.inl ⟨_,_,rfl,run_takeDeferred hKd,?_⟩⟩
  refine ⟨_,results_none rfl _ _ _,rfl,?_,?_⟩
  ·exact (HV.out.below hsz hTw hLw hEw (below_put hD _)).l
  ·exact (HV.out.below hsz hTw hLw hEw (below_put hD _)).f
end Go.Proofs.YtnakejhohdbfdaaGreatDoor
namespace Go.Proofs
open Go.Shelf
namespace YtnakejhohdbfdaaGreatDoor
open Go.RowKit
end YtnakejhohdbfdaaGreatDoor
end Go.Proofs
namespace Go.Proofs.YtnakejhohdbfdaaGreatDoor
open Go.RowKit Lev Lay
def sl0 (w:World) (B:Nat) (v:Value) (l:List Int):Prop:=∃ a c,v=.slice a l.length c∧(l.length=0∨∃ g,a=some ⟨g,0,none⟩∧B ≤ g∧rowAt w g l.length l)
theorem sl0.fr {S:List Nat} {w w':World} {B:Nat} {v:Value} {l:List Int} (h:sl0 w B v l) (hf:Fr S w w') (hS:∀ k ∈ S,k < B):sl0 w' B v l:=by
 obtain ⟨a,c,h1,h2⟩:=h
 refine ⟨a,c,h1,h2.imp id ?_⟩
 rintro ⟨g,h3,h4,h5⟩
 exact ⟨g,h3,h4,h5.fr hf (fun hm=>by have:=hS g hm;omega)⟩
def clP (B V X:List Int) (c:Nat):List (Int × Int × Int × Int):=(List.range c).map fun i=>(nth B i,nth B (i + 1),nth V i,nth X i)
theorem clP_len (B V X:List Int) (c:Nat):(clP B V X c).length=c:=by simp [clP]
theorem clP_at (B V X:List Int) {c i:Nat} (h:i < c):(clP B V X c)[i]?=some (nth B i,nth B (i + 1),nth V i,nth X i):=by simp [clP,h]
theorem sl0.row {w:World} {B:Nat} {v:Value} {l:List Int} (h:sl0 w B v l) (h0:0 < l.length):∃ g c,v=.slice (some ⟨g,0,none⟩) l.length c∧B ≤ g∧rowAt w g l.length l:=by
 obtain ⟨a,c,h1,h2⟩:=h
 rcases h2 with h3 | ⟨g,rfl,h4,h5⟩
 ·omega
 ·exact ⟨g,c,h1,h4,h5⟩
end Go.Proofs.YtnakejhohdbfdaaGreatDoor
namespace Go.Proofs.YtnakejhohdbfdaaGreatDoor
open Go.RowKit Lev
theorem look_in (P:Int→Prop) (h0:P 0):∀ (l:List (Int × Int × Int)) (r:Int),(∀ x ∈ l,P x.2.2)→P (Tabs.look l r)
 | [],_,_=>h0
 | x :: l,r,h=>by
   rw [Tabs.look]
   split
   ·exact h x List.mem_cons_self
   ·exact look_in P h0 l r (fun y hy=>h y (List.mem_cons_of_mem _ hy))
theorem class_in (r:Int):0 ≤ Tabs.look Tabs.classTab r∧Tabs.look Tabs.classTab r ≤ 22 :=
 look_in (fun c=>0 ≤ c∧c ≤ 22) (by decide) Tabs.classTab r (by decide)
theorem Kl_in (s:ByteArray) (n:Nat):∀ i,0 ≤ nth (Kl s n) i∧nth (Kl s n) i ≤ 22:=fun i=>by
 by_cases h:i < n
 ·have e:nth (Kl s n) i=Tabs.look Tabs.classTab (Dec.rune s i):=by simp [nth,Kl,h]
  rw [e];exact class_in _
 ·have e:nth (Kl s n) i=0:=by simp [nth,Kl,h]
  rw [e];decide
structure Ground (w:World):Prop where
 u:Lib.Utf8Tabs 1 2 w
 t3:Cls.TabAt w 3 Tabs.lowTab
 t4:Cls.TabAt w 4 Tabs.highTab
 e:w.cell? ⟨0,0,none⟩=some (As.rty 86)
end Go.Proofs.YtnakejhohdbfdaaGreatDoor

import Derived.Test.YtnakejhohdbfdaaGreatDoorZPvK
import Derived.Test.YtnakejhohdbfdaaGreatDoorZShK
import Derived.Test.YtnakejhohdbfdaaGreatDoorZLdB
import Derived.Test.YtnakejhohdbfdaaGreatDoorZMm
import Derived.Test.YtnakejhohdbfdaaGreatDoorZRsO
import Derived.Test.YtnakejhohdbfdaaGreatDoorZMg
import Derived.Test.YtnakejhohdbfdaaGreatDoorZMd
namespace Go.Proofs.YtnakejhohdbfdaaGreatDoor
open Go.RowKit Lev Lay Bnd Go.Shelf
attribute [local go_sem] Oper.semAt_some
set_option maxRecDepth 100000 in
set_option maxHeartbeats 4000000 in
theorem ends_any (gT n cT:Nat) (R:List Int) (p:Nat→Nat) (gL cL ge m ce:Nat) (bs z:Int) (Ed K LV:List Int) (ed:Nat→Bool) (w:World) (hn0:0 < n) (hn:n ≤ 1000) (hK:K.length=n) (hLV:LV.length=n) (hm0:0 < m) (hm:m=Ed.length) (hm1:m ≤ 1000) (hr:Rises Ed z)
 (hT:rnAt w gT n R p) (hL:rowAt w gL n LV) (hLf:soft w gL n) (hE:rowAt w ge m Ed) (hgE:ge ≠ gL) (hgT:gT ≠ gL)
 (H113:∀ x,x < n→∀ X:World,Fr [gL] w X→Calls Tryz.prog 124 #[.int .i32 (nth R x)] X fun e w'=>e=.returned (.int .i64 (nth K x))∧Fr [] X w')
 (hed:∀ x,x < n→Ed.contains ((p (x + 1):Nat):Int)=ed (x + 1)) (hed0:endAt K ed n=false) :
 Calls Tryz.prog 206 #[.slice (some ⟨gT,0,none⟩) n cT,.slice (some ⟨gL,0,none⟩) n cL,.int .i64 bs,.slice (some ⟨ge,0,none⟩) m ce] w fun e w'=>e=.returned (.tuple #[])∧rowAt w' gL n (mixL K LV bs ed 0)∧Fr [gL] w w':=by
 have hTw:gT < w.heap.size:=World.block_lt_of_cell? _ _ (hT 0 hn0).1
 have hLw:gL < w.heap.size:=World.block_lt_of_cell? _ _ (hL 0 hn0)
 have hEw:ge < w.heap.size:=World.block_lt_of_cell? _ _ (hE 0 hm0)
 have HST:=hid (fun w=>fn198_any gT n cT w)
 have H159:=hid (fun (y:Int) (X:World) (h:rowAt X ge m Ed)=>by have h5:=search_l Ed z hr y ge ce X (by omega) (by rw [← hm];exact h);rw [← hm] at h5;exact h5)
 have HC:=hid H113
 have HED:=hid hed
 have HKL:=hid hK
 have HT:=hid hT
 have HL:=hid (show rowAt w gL n (mixL K LV bs ed n) by rw [← hLV,mixL_start,hLV];exact hL)
 have HLF:=hid hLf
 have HE:=hid hE
 have HE0:=hid hed0
 have HLV:=hid hLV
 clear hT hL hLf hE H113 hed hr hed0 hm hK hLV
 refine (callsIn_wide (n:=3)).1 ?_
 refine callsIn_of_wp_marks Tryz.func206 rfl trivial ?_ rfl
 simp only [Tryz.ntmps206,List.size_toArray,List.length_cons,List.length_nil,Nat.reduceAdd,Nat.reduceSub,Array.replicate_succ,Array.replicate_zero,List.push_toArray,List.append_toArray,List.nil_append,List.cons_append]
 gi_wp2_with (refine ⟨trivial,?_⟩;gi_at_call 227;refine (callsIn_wide.2 (HST.out _)).mono ?_;rintro e w' ⟨rfl,rfl⟩)
 obtain ⟨W0,hW0⟩:∃ W0,((((w.alloc (.cells #[.slice (some ⟨gL,0,none⟩) n cL] 22)).alloc (.cells #[.int .i64 bs] 3)).alloc (.cells #[.slice (some ⟨ge,0,none⟩) m ce] 22)).alloc (.cells #[.bool false] 4)).alloc (.cells #[.slice (some ⟨gT,0,none⟩) n cT] 29)=W0:=⟨_,rfl⟩
 have hsz:W0.heap.size=w.heap.size + 5:=by rw [← hW0];simp
 have hV0:VE w W0.heap.size gT n cT R p gL cL bs ge m ce Ed K LV ed n W0:=by
  have hf:Fr [] w W0:=by rw [← hW0];exact (((((Fr.refl [] w).alloc _).alloc _).alloc _).alloc _).alloc _
  have k0:W0.heap[w.heap.size]?=some (.cells #[.slice (some ⟨gL,0,none⟩) n cL] 22 (0,0)):=by
   rw [← hW0];exact obj_fr (obj_new w _) (((((Fr.refl [] _).alloc _).alloc _).alloc _).alloc _) List.not_mem_nil
  have k1:W0.heap[w.heap.size + 1]?=some (.cells #[.int .i64 bs] 3 (0,0)):=by
   have h:=obj_fr (obj_new (w.alloc (.cells #[.slice (some ⟨gL,0,none⟩) n cL] 22)) (.cells #[.int .i64 bs] 3)) ((((Fr.refl [] _).alloc (.cells #[.slice (some ⟨ge,0,none⟩) m ce] 22)).alloc (.cells #[.bool false] 4)).alloc (.cells #[.slice (some ⟨gT,0,none⟩) n cT] 29)) List.not_mem_nil
   rw [hW0] at h;simpa using h
  have k2:W0.heap[w.heap.size + 2]?=some (.cells #[.slice (some ⟨ge,0,none⟩) m ce] 22 (0,0)):=by
   have h:=obj_fr (obj_new ((w.alloc (.cells #[.slice (some ⟨gL,0,none⟩) n cL] 22)).alloc (.cells #[.int .i64 bs] 3)) (.cells #[.slice (some ⟨ge,0,none⟩) m ce] 22)) (((Fr.refl [] _).alloc (.cells #[.bool false] 4)).alloc (.cells #[.slice (some ⟨gT,0,none⟩) n cT] 29)) List.not_mem_nil
   rw [hW0] at h;simpa using h
  have k3:W0.heap[w.heap.size + 3]?=some (.cells #[.bool false] 4 (0,0)):=by
   have h:=obj_fr (obj_new (((w.alloc (.cells #[.slice (some ⟨gL,0,none⟩) n cL] 22)).alloc (.cells #[.int .i64 bs] 3)).alloc (.cells #[.slice (some ⟨ge,0,none⟩) m ce] 22)) (.cells #[.bool false] 4)) ((Fr.refl [] _).alloc (.cells #[.slice (some ⟨gT,0,none⟩) n cT] 29)) List.not_mem_nil
   rw [hW0] at h;simpa using h
  have k4:W0.heap[w.heap.size + 4]?=some (.cells #[.slice (some ⟨gT,0,none⟩) n cT] 29 (0,0)):=by
   have h:=obj_new ((((w.alloc (.cells #[.slice (some ⟨gL,0,none⟩) n cL] 22)).alloc (.cells #[.int .i64 bs] 3)).alloc (.cells #[.slice (some ⟨ge,0,none⟩) m ce] 22)).alloc (.cells #[.bool false] 4)) (.cells #[.slice (some ⟨gT,0,none⟩) n cT] 29)
   rw [hW0] at h;simpa using h
  exact ⟨⟨HT.out.fr hf List.not_mem_nil,obj_cell k4 (i:=0) rfl⟩,obj_cell k0 (i:=0) rfl,obj_cell k1 (i:=0) rfl,obj_cell k2 (i:=0) rfl,by rw [HE0.out];exact obj_cell k3 (i:=0) rfl,obj_froz k3 0,HE.out.fr hf List.not_mem_nil,HL.out.fr hf List.not_mem_nil,fun i hi=>hf.froz (HL.out i hi) List.not_mem_nil (HLF.out i hi),hf.mono (fun _ h _=>absurd h List.not_mem_nil),Nat.le_refl _⟩
 rw [hW0]
 refine wpIn_range_al rfl (by omega) (gf:=248) (lb:=#[.pointer (some ⟨w.heap.size + 4,0,none⟩)]) rfl trivial (enters_of Tryz.func248 (by kernel_rfl) rfl)
  (encs:=fun x:Nat=>#[.int .i64 x,.agg #[.int .i32 (nth R x),.int .i64 (p x:Nat),.int .i64 (p (x + 1):Nat)]]) (fun _=>rfl)
  (VE w W0.heap.size gT n cT R p gL cL bs ge m ce Ed K LV ed) (fun _ _ h=>h.n) (fun _ _ _ h hb=>h.below hsz hTw hLw hEw hb)
  (fun j x=>j=x + 1∧x < n) (fun _ x=>x) n 0
  (fun l V' W h1 h2 h3 h4=>back_rn gT n cT R p _ (by omega) _ l V' (fun C A h=>(h1 C A h).v) h3 W h4)
  (fun x=>.cells #[.int .i32 (nth R x),.int .i64 (p x:Nat),.int .i64 (p (x + 1):Nat)] 94)
  (fun x b=>{ tmps:=#[.slice (some ⟨gT,0,none⟩) n cT,.slice (some ⟨gL,0,none⟩) n cL,.int .i64 bs,.slice (some ⟨ge,0,none⟩) m ce,undef,.pointer (some ⟨w.heap.size,0,none⟩),.pointer (some ⟨w.heap.size + 1,0,none⟩),.pointer (some ⟨w.heap.size + 2,0,none⟩),.pointer (some ⟨w.heap.size + 3,0,none⟩),.int .i64 x,.pointer (some ⟨b,0,none⟩),undef,undef,undef,.slice (some ⟨gT,0,none⟩) n cT,.func (.func 248) #[] #[.pointer (some ⟨w.heap.size + 4,0,none⟩)],.int .i64 x,.agg #[.int .i32 (nth R x),.int .i64 (p x:Nat),.int .i64 (p (x + 1):Nat)],undef,undef,undef,undef,undef,undef,undef,undef,undef,undef,undef,undef,undef,undef,undef,undef,undef,undef,undef,undef,undef,undef,undef,undef,undef,undef,undef,undef,undef,undef,undef],defers:=[] })
  hV0 ?assign ?body ?done
 case assign =>
  intro l x W K hK
  gi_wp2
  exact hK
 case body =>
  rintro l j x A b hV ⟨rfl,hx⟩ hob hb
  have r0:=obj_cell hob (i:=0) rfl
  have HOB:=hid hob
  have HV:=hid hV
  have H1:=hid (HC.out x hx A hV.f)
  have HS2:=hid (endAt_step K ed (i:=x) (by rw [HKL.out];exact hx))
  have HDD:=hid (HED.out x hx)
  have hxI:(x:Int) < (n:Int):=by omega
  have HTR:=hid (fun X:World=>trails_any (nth K x) X)
  generalize nth K x=c at *
  clear hV0 hW0 HST hob
  have R2:=hid (obj_cell HOB.out (i:=2) rfl)
  have B0:=hid HV.out.b0
  have B1:=hid HV.out.b1
  have B2:=hid HV.out.b2
  have B3:=hid HV.out.b3
  have F3:=hid HV.out.f3
  have L0:=hid (HV.out.l x hx)
  have L1:=hid (HV.out.lf x hx)
  clear hV
  have H2:=hid (fun (X:World) (h:rowAt X ge m Ed)=>by have h5:=H159.out ((p (x + 1):Nat):Int) X h;rw [HDD.out] at h5;exact h5)
  generalize cidx Ed ((p (x + 1):Nat):Int)=ci at *
  have HYES:=hid (fun (B:World) (he:endAt K ed x=true) (hG:Fr [] A B)=>HV.out.yes hx HLV.out hsz hTw hLw hEw hgE hgT he hG)
  have HNO:=hid (fun (B:World) (he:endAt K ed x=false) (hG:Fr [] A B)=>HV.out.no hsz hTw hLw hEw he hG)
  by_cases h11:c=11
  ·subst h11
   have HEE:=hid (show endAt K ed x=true by rw [HS2.out];simp [stops])
   generalize ed (x + 1)=dd at *
   generalize endAt K ed (x + 1)=e1 at *
   gi_wp2_with (first | (refine ⟨trivial,?_⟩;gi_at_call 124;refine (CallsIn.inRound l (callsIn_wide.2 H1.out)).mono ?_;rintro e w1 ⟨rfl,hf1⟩;have HF1:=hid hf1;have r2:=hf1.cell R2.out List.not_mem_nil;have d2:=hf1.cell B2.out List.not_mem_nil;have d3:=hf1.cell B3.out List.not_mem_nil;have d4:=hf1.froz B3.out List.not_mem_nil F3.out;have d0:=hf1.cell B0.out List.not_mem_nil;have d1:=hf1.cell B1.out List.not_mem_nil;have l0:=hf1.cell L0.out List.not_mem_nil;have l1:=hf1.froz L0.out List.not_mem_nil L1.out;have HE1:=hid (HV.out.e.fr hf1 List.not_mem_nil);clear hf1) | (refine ⟨trivial,?_⟩;gi_at_call 166;refine (CallsIn.inRound l (callsIn_wide.2 (H2.out _ HE1.out))).mono ?_;rintro e w2 ⟨rfl,q,rfl⟩) | (refine ⟨trivial,?_⟩;gi_at_call 228;refine (CallsIn.inRound l (callsIn_wide.2 (HTR.out _))).mono ?_;rintro e w3 ⟨rfl,rfl⟩) | (refine ⟨trivial,?_⟩))
   exact HYES.out _ HEE.out (HF1.out.trans (fr_drewN _ _))
  ·by_cases h10:c=10
   ·subst h10
    have HEE:=hid (show endAt K ed x=true by rw [HS2.out];simp [stops])
    generalize ed (x + 1)=dd at *
    generalize endAt K ed (x + 1)=e1 at *
    gi_wp2_with (first | (refine ⟨trivial,?_⟩;gi_at_call 124;refine (CallsIn.inRound l (callsIn_wide.2 H1.out)).mono ?_;rintro e w1 ⟨rfl,hf1⟩;have HF1:=hid hf1;have r2:=hf1.cell R2.out List.not_mem_nil;have d2:=hf1.cell B2.out List.not_mem_nil;have d3:=hf1.cell B3.out List.not_mem_nil;have d4:=hf1.froz B3.out List.not_mem_nil F3.out;have d0:=hf1.cell B0.out List.not_mem_nil;have d1:=hf1.cell B1.out List.not_mem_nil;have l0:=hf1.cell L0.out List.not_mem_nil;have l1:=hf1.froz L0.out List.not_mem_nil L1.out;have HE1:=hid (HV.out.e.fr hf1 List.not_mem_nil);clear hf1) | (refine ⟨trivial,?_⟩;gi_at_call 166;refine (CallsIn.inRound l (callsIn_wide.2 (H2.out _ HE1.out))).mono ?_;rintro e w2 ⟨rfl,q,rfl⟩) | (refine ⟨trivial,?_⟩;gi_at_call 228;refine (CallsIn.inRound l (callsIn_wide.2 (HTR.out _))).mono ?_;rintro e w3 ⟨rfl,rfl⟩) | (refine ⟨trivial,?_⟩))
    exact HYES.out _ HEE.out (HF1.out.trans (fr_drewN _ _))
   ·have hb11:(c == 11)=false:=by simp [h11]
    have hb10:(c == 10)=false:=by simp [h10]
    have HEE:=hid (show endAt K ed x=(trail c && (endAt K ed (x + 1) || ed (x + 1))) by rw [HS2.out];simp [stops,h11,h10])
    generalize ed (x + 1)=dd at *
    generalize endAt K ed (x + 1)=e1 at *
    generalize trail c=tr at *
    cases tr
    ·gi_wp2_with (first | (refine ⟨trivial,?_⟩;gi_at_call 124;refine (CallsIn.inRound l (callsIn_wide.2 H1.out)).mono ?_;rintro e w1 ⟨rfl,hf1⟩;have HF1:=hid hf1;have r2:=hf1.cell R2.out List.not_mem_nil;have d2:=hf1.cell B2.out List.not_mem_nil;have d3:=hf1.cell B3.out List.not_mem_nil;have d4:=hf1.froz B3.out List.not_mem_nil F3.out;have d0:=hf1.cell B0.out List.not_mem_nil;have d1:=hf1.cell B1.out List.not_mem_nil;have l0:=hf1.cell L0.out List.not_mem_nil;have l1:=hf1.froz L0.out List.not_mem_nil L1.out;have HE1:=hid (HV.out.e.fr hf1 List.not_mem_nil);clear hf1) | (refine ⟨trivial,?_⟩;gi_at_call 166;refine (CallsIn.inRound l (callsIn_wide.2 (H2.out _ HE1.out))).mono ?_;rintro e w2 ⟨rfl,q,rfl⟩) | (refine ⟨trivial,?_⟩;gi_at_call 228;refine (CallsIn.inRound l (callsIn_wide.2 (HTR.out _))).mono ?_;rintro e w3 ⟨rfl,rfl⟩) | (refine ⟨trivial,?_⟩))
     exact HNO.out _ (by rw [HEE.out];rfl) (HF1.out.trans (fr_drewN _ _))
    ·cases e1
     ·cases dd
      ·gi_wp2_with (first | (refine ⟨trivial,?_⟩;gi_at_call 124;refine (CallsIn.inRound l (callsIn_wide.2 H1.out)).mono ?_;rintro e w1 ⟨rfl,hf1⟩;have HF1:=hid hf1;have r2:=hf1.cell R2.out List.not_mem_nil;have d2:=hf1.cell B2.out List.not_mem_nil;have d3:=hf1.cell B3.out List.not_mem_nil;have d4:=hf1.froz B3.out List.not_mem_nil F3.out;have d0:=hf1.cell B0.out List.not_mem_nil;have d1:=hf1.cell B1.out List.not_mem_nil;have l0:=hf1.cell L0.out List.not_mem_nil;have l1:=hf1.froz L0.out List.not_mem_nil L1.out;have HE1:=hid (HV.out.e.fr hf1 List.not_mem_nil);clear hf1) | (refine ⟨trivial,?_⟩;gi_at_call 166;refine (CallsIn.inRound l (callsIn_wide.2 (H2.out _ HE1.out))).mono ?_;rintro e w2 ⟨rfl,q,rfl⟩) | (refine ⟨trivial,?_⟩;gi_at_call 228;refine (CallsIn.inRound l (callsIn_wide.2 (HTR.out _))).mono ?_;rintro e w3 ⟨rfl,rfl⟩) | (refine ⟨trivial,?_⟩))
       exact HNO.out _ (by rw [HEE.out];rfl) (HF1.out.trans (fr_drewN _ _))
      ·gi_wp2_with (first | (refine ⟨trivial,?_⟩;gi_at_call 124;refine (CallsIn.inRound l (callsIn_wide.2 H1.out)).mono ?_;rintro e w1 ⟨rfl,hf1⟩;have HF1:=hid hf1;have r2:=hf1.cell R2.out List.not_mem_nil;have d2:=hf1.cell B2.out List.not_mem_nil;have d3:=hf1.cell B3.out List.not_mem_nil;have d4:=hf1.froz B3.out List.not_mem_nil F3.out;have d0:=hf1.cell B0.out List.not_mem_nil;have d1:=hf1.cell B1.out List.not_mem_nil;have l0:=hf1.cell L0.out List.not_mem_nil;have l1:=hf1.froz L0.out List.not_mem_nil L1.out;have HE1:=hid (HV.out.e.fr hf1 List.not_mem_nil);clear hf1) | (refine ⟨trivial,?_⟩;gi_at_call 166;refine (CallsIn.inRound l (callsIn_wide.2 (H2.out _ HE1.out))).mono ?_;rintro e w2 ⟨rfl,q,rfl⟩) | (refine ⟨trivial,?_⟩;gi_at_call 228;refine (CallsIn.inRound l (callsIn_wide.2 (HTR.out _))).mono ?_;rintro e w3 ⟨rfl,rfl⟩) | (refine ⟨trivial,?_⟩))
       exact HYES.out _ (by rw [HEE.out];rfl) (HF1.out.trans (fr_drewN _ _))
     ·gi_wp2_with (first | (refine ⟨trivial,?_⟩;gi_at_call 124;refine (CallsIn.inRound l (callsIn_wide.2 H1.out)).mono ?_;rintro e w1 ⟨rfl,hf1⟩;have HF1:=hid hf1;have r2:=hf1.cell R2.out List.not_mem_nil;have d2:=hf1.cell B2.out List.not_mem_nil;have d3:=hf1.cell B3.out List.not_mem_nil;have d4:=hf1.froz B3.out List.not_mem_nil F3.out;have d0:=hf1.cell B0.out List.not_mem_nil;have d1:=hf1.cell B1.out List.not_mem_nil;have l0:=hf1.cell L0.out List.not_mem_nil;have l1:=hf1.froz L0.out List.not_mem_nil L1.out;have HE1:=hid (HV.out.e.fr hf1 List.not_mem_nil);clear hf1) | (refine ⟨trivial,?_⟩;gi_at_call 166;refine (CallsIn.inRound l (callsIn_wide.2 (H2.out _ HE1.out))).mono ?_;rintro e w2 ⟨rfl,q,rfl⟩) | (refine ⟨trivial,?_⟩;gi_at_call 228;refine (CallsIn.inRound l (callsIn_wide.2 (HTR.out _))).mono ?_;rintro e w3 ⟨rfl,rfl⟩) | (refine ⟨trivial,?_⟩))
      exact HYES.out _ (by rw [HEE.out];rfl) (HF1.out.trans (fr_drewN _ _))
 case done =>
  rintro D A hV hD hKd
  have HV:=hid hV
  clear hV hV0 hW0
  gi_wp2
  refine ⟨by simp,.inl ⟨_,_,rfl,run_takeDeferred hKd,?_⟩⟩
  refine ⟨_,results_none rfl _ _ _,rfl,?_,?_⟩
  ·exact (HV.out.below hsz hTw hLw hEw (below_put hD _)).l
  ·exact (HV.out.below hsz hTw hLw hEw (below_put hD _)).f
end Go.Proofs.YtnakejhohdbfdaaGreatDoor
namespace Go.Proofs
open Go.Shelf
def Tryz.laysSlE041_f90_ren:Go.Shelf.Ren:=⟨fun | 41=>97 | n=>n,fun | 22=>164 | 23=>51 | 4=>4 | n=>n,fun | n=>n⟩
theorem Tryz.laysSlE041_f90:Go.Proofs.SlLaysE0.n41 Tryz.prog Tryz.laysSlE041_f90_ren:={
 mixed:=by kernel_rfl
 f41:=⟨Tryz.f97.name,by decide,Tryz.func97.trans (congrArg some (by kernel_rfl))⟩
 t4:=Tryz.underlying4
 a4:=Tryz.isAgg4
 z4:=Tryz.sizeOf4
 v4:=Tryz.zeroValue4
 t22:=Tryz.underlying164
 a22:=Tryz.isAgg164
 z22:=Tryz.sizeOf164
 v22:=Tryz.zeroValue164 }
namespace YtnakejhohdbfdaaGreatDoor
open Go.RowKit
theorem size2 (w:World):(Go.sizeOf 2).run Tryz.prog w=.ok 1 w:=Tryz.sizeOf2 w
theorem size3 (w:World):(Go.sizeOf 3).run Tryz.prog w=.ok 1 w:=Tryz.sizeOf3 w
theorem size51 (w:World):(Go.sizeOf 51).run Tryz.prog w=.ok 4 w:=Tryz.sizeOf51 w
theorem owns_cells {w:World} {B e size n g cap:Nat} {xs:List Value} (h:w.ownsRow B e size (.slice (some ⟨g,0,none⟩) n cap) n xs):∀ j u,xs[j]?=some u→w.cell? ⟨g,0 + j,none⟩=some u:=fun j u hj=>by
 have hl:j < xs.length:=(List.getElem?_eq_some_iff.1 hj).1
 rw [Nat.zero_add,h.cellAt j (by have:=h.1;omega)];exact hj
theorem clone_i (w:World) (B n:Nat) (v:Value) (xs:List Value) (h:w.ownsRow B 3 1 v n xs) (hn:n ≤ 100000) (h1:∀ u ∈ xs,u.oneCell'=true) :
 Calls Tryz.prog 98 #[v] w fun e w'=>∃ v',e=.returned v'∧w'.ownsRow w.heap.size 3 1 v' n xs∧Fr [] w w':=by
 obtain ⟨i3,hi3,hz30,hz31,hz32⟩:=info_parts info3
 rcases h.2 with ⟨rfl,rfl⟩ | ⟨g,cap,cur,rfl,_⟩
 ·refine (Tryz.slices_Clone_nil_f91 0 0 w).mono ?_
  rintro e w' ⟨rfl,rfl⟩
  exact ⟨_,rfl,⟨h.1,.inl ⟨rfl,rfl⟩⟩,Fr.refl _ _⟩
 ·refine (Tryz.slices_Clone_f91 i3 _ 1 8 hi3 hz30 hz31 hz32 rfl (by decide) size3 g 0 n cap xs w h.1 (by unfold maxLen;omega) (by omega) (owns_cells h) h1).mono ?_
  rintro e w' ⟨v',rfl,h2,_,h4⟩
  exact ⟨v',rfl,h2,Fr.of_below h4⟩
theorem clone_x (w:World) (B n:Nat) (v:Value) (xs:List Value) (h:w.ownsRow B 2 1 v n xs) (hn:n ≤ 100000) (h1:∀ u ∈ xs,u.oneCell'=true) :
 Calls Tryz.prog 99 #[v] w fun e w'=>∃ v',e=.returned v'∧w'.ownsRow w.heap.size 2 1 v' n xs∧Fr [] w w':=by
 obtain ⟨i2,hi2,hz20,hz21,hz22⟩:=info_parts info2
 rcases h.2 with ⟨rfl,rfl⟩ | ⟨g,cap,cur,rfl,_⟩
 ·refine (Tryz.slices_Clone_nil_f92 0 0 w).mono ?_
  rintro e w' ⟨rfl,rfl⟩
  exact ⟨_,rfl,⟨h.1,.inl ⟨rfl,rfl⟩⟩,Fr.refl _ _⟩
 ·refine (Tryz.slices_Clone_f92 i2 _ 1 8 hi2 hz20 hz21 hz22 rfl (by decide) size2 g 0 n cap xs w h.1 (by unfold maxLen;omega) (by omega) (owns_cells h) h1).mono ?_
  rintro e w' ⟨v',rfl,h2,_,h4⟩
  exact ⟨v',rfl,h2,Fr.of_below h4⟩
theorem clone_l (w:World) (B n:Nat) (v:Value) (xs:List Value) (h:w.ownsRow B 51 4 v n xs) (hn:n ≤ 100000) (h1:∀ u ∈ xs,u.oneCell'=true) :
 Calls Tryz.prog 97 #[v] w fun e w'=>∃ v',e=.returned v'∧w'.ownsRow w.heap.size 51 4 v' n xs∧Fr [] w w':=by
 obtain ⟨i51,hi51,hx0,hx1,hx2⟩:=info_parts info51
 rcases h.2 with ⟨rfl,rfl⟩ | ⟨g,cap,cur,rfl,_⟩
 ·refine (AnyE.slices_Clone_nil Tryz.laysSlE041_f90 0 0 w).mono ?_
  rintro e w' ⟨rfl,rfl⟩
  exact ⟨_,rfl,⟨h.1,.inl ⟨rfl,rfl⟩⟩,Fr.refl _ _⟩
 ·refine (AnyE.slices_Clone Tryz.laysSlE041_f90 i51 _ 4 64 hi51 hx0 hx1 hx2 rfl (by decide) size51 g 0 n cap xs w h.1 (by unfold maxLen;omega) (by omega) (owns_cells h) h1).mono ?_
  rintro e w' ⟨v',rfl,h2,_,h4⟩
  exact ⟨v',rfl,h2,Fr.of_below h4⟩
end YtnakejhohdbfdaaGreatDoor
end Go.Proofs
namespace Go.Proofs.YtnakejhohdbfdaaGreatDoor
open Go.RowKit Lev Lay
def sl0 (w:World) (B:Nat) (v:Value) (l:List Int):Prop:=∃ a c,v=.slice a l.length c∧(l.length=0∨∃ g,a=some ⟨g,0,none⟩∧B ≤ g∧rowAt w g l.length l)
theorem sl0.fr {S:List Nat} {w w':World} {B:Nat} {v:Value} {l:List Int} (h:sl0 w B v l) (hf:Fr S w w') (hS:∀ k ∈ S,k < B):sl0 w' B v l:=by
 obtain ⟨a,c,h1,h2⟩:=h
 refine ⟨a,c,h1,h2.imp id ?_⟩
 rintro ⟨g,h3,h4,h5⟩
 exact ⟨g,h3,h4,h5.fr hf (fun hm=>by have:=hS g hm;omega)⟩
def clP (B V X:List Int) (c:Nat):List (Int × Int × Int × Int):=(List.range c).map fun i=>(nth B i,nth B (i + 1),nth V i,nth X i)
theorem clP_len (B V X:List Int) (c:Nat):(clP B V X c).length=c:=by simp [clP]
theorem clP_at (B V X:List Int) {c i:Nat} (h:i < c):(clP B V X c)[i]?=some (nth B i,nth B (i + 1),nth V i,nth X i):=by simp [clP,h]
theorem sl0.row {w:World} {B:Nat} {v:Value} {l:List Int} (h:sl0 w B v l) (h0:0 < l.length):∃ g c,v=.slice (some ⟨g,0,none⟩) l.length c∧B ≤ g∧rowAt w g l.length l:=by
 obtain ⟨a,c,h1,h2⟩:=h
 rcases h2 with h3 | ⟨g,rfl,h4,h5⟩
 ·omega
 ·exact ⟨g,c,h1,h4,h5⟩
set_option maxRecDepth 10000 in
set_option maxHeartbeats 4000000 in
theorem clusters_any (P c Bs:Nat) (v0 v1 v2 vL vr:Value) (B V X:List Int) (w:World) (ho:w.heap[P]?=some (.cells #[v0,v1,v2,vL,vr] 166 (0,0))) (hB:sl0 w Bs v0 B) (hV:sl0 w Bs v1 V) (hX:sl0 w Bs v2 X) (hVl:V.length=c) (hXl:X.length=c) (hBl:B.length=c + 1) (hc1:c ≤ 1000) :
 Calls Tryz.prog 55 #[.pointer (some ⟨P,0,none⟩)] w fun e w'=>∃ v,e=.returned v∧w'.ownsRow w.heap.size 48 4 v c (clCells (clP B V X c))∧Fr [] w w':=by
 obtain ⟨i48,hi48,hx0,hx1,hx2⟩:=info_parts info48
 obtain ⟨aV,cV,rfl,hV2⟩:=hV
 rw [hVl] at hV2 ho
 obtain ⟨ZL,hZL⟩:∃ ZL,ZL=madeCells (Value.agg #[.int .i64 0,.int .i64 0,.int .i64 0,.int .i64 0]).cells (c * 4):=⟨_,rfl⟩
 have hmk1:∀ X:World,(Instr.makeSlice 41 (.int .i64 c) (.int .i64 c)).run Tryz.prog X=.ok (.slice (some ⟨X.heap.size,0,none⟩) c c) (X.alloc (.cells ZL 48)):=fun X=>by
  have:=run_make (P:=Tryz.prog) X 41 48 i48 _ Tryz.underlying41 hi48 hx0 .i64 .i64 c c (by omega) (Int.le_refl _) (by rw [hx2];omega) (by omega)
  rw [hx1] at this
  rw [hZL];exact this
 have HZL:=hid hZL
 have HO0:=hid (show (w.alloc (.cells ZL 48)).ownsRow w.heap.size 48 4 (.slice (some ⟨w.heap.size,0,none⟩) c c) c ZL.toList from World.ownsRow_lit (base:=w.heap.size) (e:=48) (size:=4) w ZL c (Nat.le_refl _) (by unfold maxLen;omega) (by rw [hZL,size_madeCells]))
 have HOP:=hid ho
 have hPl:=obj_lt ho
 have p1:=obj_cell ho (i:=1) (v:=.slice aV c cV) rfl
 have HB:=hid hB
 have HXX:=hid hX
 have HV2:=hid hV2
 clear hZL hB hX hV2 ho
 go_enter Tryz.func55,Tryz.ntmps55
 go_wp2
 go_loopw [14] (fun a wr=>∃ (i:Nat) (xs:List Value),a=.int .i64 i∧i ≤ c∧Hid (Fr [] w wr)∧Hid (wr.ownsRow w.heap.size 48 4 (.slice (some ⟨w.heap.size,0,none⟩) c c) c xs)∧Hid (∀ j,j < i * 4→xs[j]?=(clCells (clP B V X c))[j]?)) (fun a _=>c - (intOf a).toNat)
 case atStart=>exact ⟨0,_,rfl,Nat.zero_le _,hid ((Fr.refl _ _).alloc _),HO0,hid (fun j hj=>absurd hj (by omega))⟩
 case round =>
  obtain ⟨i,xs,rfl,hin,HF,HO,HX⟩:=hrel
  by_cases hlt:i < c
  ·obtain ⟨gB,cB,rfl,hgB,rB⟩:=HB.out.row (by omega)
   obtain ⟨gX,cX,rfl,hgX,rX⟩:=HXX.out.row (by omega)
   obtain ⟨gV,rfl,hgV,rV⟩:=HV2.out.resolve_left (by omega)
   have ho:=obj_fr HOP.out HF.out List.not_mem_nil
   have d0:=obj_cell ho (i:=0) (v:=.slice (some ⟨gB,0,none⟩) B.length cB) rfl
   have d1:=obj_cell ho (i:=1) (v:=.slice (some ⟨gV,0,none⟩) c cV) rfl
   have d2:=obj_cell ho (i:=2) (v:=.slice (some ⟨gX,0,none⟩) X.length cX) rfl
   rw [hBl] at d0
   rw [hXl] at d2
   have e0:=HF.out.cell (rB i (by omega)) List.not_mem_nil
   have e1:=HF.out.cell (rB (i + 1) (by omega)) List.not_mem_nil
   have e2:=HF.out.cell (rV i (by omega)) List.not_mem_nil
   have e3:=HF.out.cell (rX i (by omega)) List.not_mem_nil
   have HCA:=hid (clCells_at (clP B V X c) i _ (clP_at B V X hlt))
   have hxl:xs.length=c * 4:=HO.out.1
   have hf:∀ j,wr.frozen? ⟨w.heap.size,j,none⟩=false:=fun j=>HO.out.frozenAt j
   have hcx:∀ j,j < c * 4→∃ u,wr.cell? ⟨w.heap.size,j,none⟩=some u:=fun j hj=>by
    rw [HO.out.cellAt j (by omega),List.getElem?_eq_getElem (by omega)];exact ⟨_,rfl⟩
   obtain ⟨y0,f0⟩:=hcx (i * 4) (by omega)
   obtain ⟨y1,f1⟩:=hcx (i * 4 + 1) (by omega)
   obtain ⟨y2,f2⟩:=hcx (i * 4 + 2) (by omega)
   obtain ⟨y3,f3⟩:=hcx (i * 4 + 3) (by omega)
   have g0:=hf (i * 4)
   have g1:=hf (i * 4 + 1)
   have g2:=hf (i * 4 + 2)
   have g3:=hf (i * 4 + 3)
   have hiI:(i:Int) < (c:Int):=by omega
   have hiI2:(i:Int) + 1 < (c:Int) + 1:=by omega
   generalize nth B i=b0 at *
   generalize nth B (i + 1)=b1 at *
   generalize nth V i=b2 at *
   generalize nth X i=b3 at *
   have HS1:=hid (HO.out.stored (i * 4) (.int .i64 b0))
   have HS2:=hid (HS1.out.1.stored (i * 4 + 1) (.int .i64 b1))
   have HS3:=hid (HS2.out.1.stored (i * 4 + 2) (.int .i64 b2))
   have HS4:=hid (HS3.out.1.stored (i * 4 + 3) (.int .i64 b3))
   have HG4:=hid (show Fr [] w ((((wr.setCell ⟨w.heap.size,i * 4,none⟩ (.int .i64 b0)).setCell ⟨w.heap.size,i * 4 + 1,none⟩ (.int .i64 b1)).setCell ⟨w.heap.size,i * 4 + 2,none⟩ (.int .i64 b2)).setCell ⟨w.heap.size,i * 4 + 3,none⟩ (.int .i64 b3)).drew from
    ((((HF.out.grown HS1.out.2 (fun k hk=>by cases hk;exact Nat.le_refl _)).grown HS2.out.2 (fun k hk=>by cases hk;exact Nat.le_refl _)).grown HS3.out.2 (fun k hk=>by cases hk;exact Nat.le_refl _)).grown HS4.out.2 (fun k hk=>by cases hk;exact Nat.le_refl _)).drew)
   have HO4:=hid (show ((((wr.setCell ⟨w.heap.size,i * 4,none⟩ (.int .i64 b0)).setCell ⟨w.heap.size,i * 4 + 1,none⟩ (.int .i64 b1)).setCell ⟨w.heap.size,i * 4 + 2,none⟩ (.int .i64 b2)).setCell ⟨w.heap.size,i * 4 + 3,none⟩ (.int .i64 b3)).drew.ownsRow w.heap.size 48 4 (.slice (some ⟨w.heap.size,0,none⟩) c c) c ((((xs.set (i * 4) (.int .i64 b0)).set (i * 4 + 1) (.int .i64 b1)).set (i * 4 + 2) (.int .i64 b2)).set (i * 4 + 3) (.int .i64 b3)) from owns_fr0 HS4.out.1 ((Fr.refl [] _).drew))
   have HX4:=hid (show ∀ j,j < (i + 1) * 4→((((xs.set (i * 4) (.int .i64 b0)).set (i * 4 + 1) (.int .i64 b1)).set (i * 4 + 2) (.int .i64 b2)).set (i * 4 + 3) (.int .i64 b3))[j]?=(clCells (clP B V X c))[j]? from fun j hj=>by
    obtain ⟨q0,q1,q2,q3⟩:=HCA.out
    by_cases h3:j=i * 4 + 3
    ·subst h3;rw [List.getElem?_set_self (by simp;omega),q3]
    ·rw [List.getElem?_set_ne (by omega)]
     by_cases h2:j=i * 4 + 2
     ·subst h2;rw [List.getElem?_set_self (by simp;omega),q2]
     ·rw [List.getElem?_set_ne (by omega)]
      by_cases h1:j=i * 4 + 1
      ·subst h1;rw [List.getElem?_set_self (by simp;omega),q1]
      ·rw [List.getElem?_set_ne (by omega)]
       by_cases h0:j=i * 4
       ·subst h0;rw [List.getElem?_set_self (by omega),q0]
       ·rw [List.getElem?_set_ne (by omega)];exact HX.out j (by omega))
   clear rB rX rV ho hf hcx p1
   go_wp2
   go_region
   go_wp2
   go_roundw
   case rel=>exact ⟨i + 1,_,by go_num,by omega,HG4,HO4,HX4⟩
   case measure=>simp [intOf];omega
  ·obtain rfl:i=c:=by omega
   have hiI:¬ (i:Int) < (i:Int):=by omega
   have HXE:=hid (show xs=clCells (clP B V X i) from List.ext_getElem? (fun j=>by
    by_cases hj:j < i * 4
    ·exact HX.out j hj
    ·rw [List.getElem?_eq_none (by have:=HO.out.1;omega),List.getElem?_eq_none (by rw [clCells_len,clP_len];omega)]))
   have HOE:=hid (show wr.ownsRow w.heap.size 48 4 (.slice (some ⟨w.heap.size,0,none⟩) i i) i (clCells (clP B V X i)) by rw [← HXE.out];exact HO.out)
   go_wp2
   go_ret
   exact ⟨_,rfl,HOE.out,HF.out⟩
end Go.Proofs.YtnakejhohdbfdaaGreatDoor
namespace Go.Proofs.YtnakejhohdbfdaaGreatDoor
open Go.RowKit Lev
theorem look_in (P:Int→Prop) (h0:P 0):∀ (l:List (Int × Int × Int)) (r:Int),(∀ x ∈ l,P x.2.2)→P (Tabs.look l r)
 | [],_,_=>h0
 | x :: l,r,h=>by
   rw [Tabs.look]
   split
   ·exact h x List.mem_cons_self
   ·exact look_in P h0 l r (fun y hy=>h y (List.mem_cons_of_mem _ hy))
theorem class_in (r:Int):0 ≤ Tabs.look Tabs.classTab r∧Tabs.look Tabs.classTab r ≤ 22 :=
 look_in (fun c=>0 ≤ c∧c ≤ 22) (by decide) Tabs.classTab r (by decide)
theorem Kl_in (s:ByteArray) (n:Nat):∀ i,0 ≤ nth (Kl s n) i∧nth (Kl s n) i ≤ 22:=fun i=>by
 by_cases h:i < n
 ·have e:nth (Kl s n) i=Tabs.look Tabs.classTab (Dec.rune s i):=by simp [nth,Kl,h]
  rw [e];exact class_in _
 ·have e:nth (Kl s n) i=0:=by simp [nth,Kl,h]
  rw [e];decide
structure Ground (w:World):Prop where
 u:Lib.Utf8Tabs 1 2 w
 t3:Cls.TabAt w 3 Tabs.lowTab
 t4:Cls.TabAt w 4 Tabs.highTab
 e:w.cell? ⟨0,0,none⟩=some (As.rty 86)
end Go.Proofs.YtnakejhohdbfdaaGreatDoor

import Derived.Test.YtnakejhohdbfdacGreatDoorKPrU
import Derived.Test.YtnakejhohdbfdacGreatDoorKMk
import Derived.Shelf.SlIterI.Nil
import Derived.Shelf.SortM.Plain
import Derived.Shelf.SortM.SortNone
import Derived.Test.YtnakejhohdbfdacGreatDoorProg
namespace Go.Proofs.YtnakejhohdbfdacGreatDoor
open Go.RowKit Lev Go.Shelf
attribute [local go_sem] Oper.semAt_some
theorem fr_of_below {n:Nat}{A B:World}(h:Below n A B):Fr ((List.range A.heap.size).filter (fun k=>decide (n≤k))) A B :=
 ⟨h.os,h.tape,h.output,h.size,fun k hk hn=>h.block k (Nat.lt_of_not_le (fun hle=>hn (List.mem_filter.2 ⟨List.mem_range.2 hk,decide_eq_true hle⟩)))⟩
theorem not_late {n k:Nat}{A:World}(h:k<n):k ∉ (List.range A.heap.size).filter (fun k=>decide (n≤k)):=fun hm=>by
 have:=of_decide_eq_true (List.mem_filter.1 hm).2;omega
theorem Fr.of_drewN {T:List Nat}{w w':World}{n:Nat}(h:Fr T (w.drewN n) w'):Fr T w w':=⟨h.os,h.tape,h.output,h.size,h.block⟩
structure VS (w:World)(n:Nat)(q:UH)(L:List Int)(S Q cQ:Nat)(s:Sq)(lv:Int)(ff:Nat)(C:List Int)(A:World):Prop where
 v:VP q L S Q cQ s lv (w.heap.size+1) (w.heap.size+2) ff C A
 b0:A.cell? ⟨w.heap.size,0,none⟩=some (.pointer (some ⟨S,0,none⟩))
 f:Fr [q.U] w A
 n:n≤A.heap.size
theorem VS.below {w:World}{n:Nat}{q:UH}{L:List Int}{S Q cQ:Nat}{s:Sq}{lv:Int}{ff:Nat}{C:List Int}{A B:World}(h:VS w n q L S Q cQ s lv ff C A)(hn:n=w.heap.size+3)(hU:q.U<w.heap.size)(hS:S<w.heap.size)(hQ:0<s.I.length→Q<w.heap.size)(hb:Below n A B):VS w n q L S Q cQ s lv ff C B:=by
 have hf:=fr_of_below hb;have z:∀ {k},k<w.heap.size→k ∉ (List.range A.heap.size).filter (fun k=>decide (n≤k)):=fun hk=>not_late (by omega)
 refine⟨⟨h.v.u.fr hf (z hU),⟨hf.cell h.v.s.c0 (z hS),hf.cell h.v.s.c1 (z hS),hf.cell h.v.s.c2 (z hS),hf.cell h.v.s.c3 (z hS),fun k hk=>hf.cell (h.v.s.p k hk) (z (hQ (by omega))),h.v.s.lt,h.v.s.ne,h.v.s.sm,h.v.s.cp⟩,hf.cell h.v.b1 (not_late (by omega)),hf.cell h.v.b2 (not_late (by omega))⟩,hf.cell h.b0 (not_late (by omega)),?_,by have:=h.n;have:=hb.size;omega⟩;exact⟨hb.os.trans h.f.os,hb.tape.trans h.f.tape,hb.output.trans h.f.output,Nat.le_trans h.f.size hb.size,fun k hk hm=>(hb.block k (by omega)).trans (h.f.block k hk hm)⟩
theorem VS.next {w:World}{n:Nat}{q:UH}{L:List Int}{S Q cQ:Nat}{s:Sq}{lv:Int}{ff:Nat}{C C':List Int}{A B:World}(h:VS w n q L S Q cQ s lv ff C A)(hU:q.U<w.heap.size)(hu:US B q C' L)(hf:Fr [q.U] A B):VS w n q L S Q cQ s lv ff C' B:=by
 have z:∀ {k},k≠q.U→k ∉ [q.U]:=fun hk hm=>hk (List.mem_singleton.1 hm)
 exact⟨⟨hu,h.v.s.fr hf (z h.v.s.ne.1) (z h.v.s.ne.2),hf.cell h.v.b1 (z (by omega)),hf.cell h.v.b2 (z (by omega))⟩,hf.cell h.b0 (z (by omega)),h.f.trans hf,Nat.le_trans h.n hf.size⟩
theorem VS.late {n:Nat}{q:UH}{A B:World}(hU:q.U<n)(hf:Fr [q.U] A B):∀k,n≤k→k<A.heap.size→B.heap[k]?=A.heap[k]?:=fun k h1 h2=>hf.block k h2 (fun hm=>by have:=List.mem_singleton.1 hm;omega)
theorem fn126_any (S ff:Nat)(w:World):Calls Tryz.prog 191 #[.pointer (some ⟨S,0,none⟩),.func (.func ff) #[] #[]] w fun e w' =>
 e=.returned (.func (.func 219) #[] #[.pointer (some ⟨w.heap.size,0,none⟩),.pointer (some ⟨w.heap.size+1,0,none⟩)])∧w'=(w.alloc (.cells #[.pointer (some ⟨S,0,none⟩)] 263)).alloc (.cells #[.func (.func ff) #[] #[]] 268):=by
 go_enter Tryz.func191,Tryz.ntmps191;go_wp2;go_ret;exact⟨by simp,rfl⟩
set_option maxRecDepth 100000 in
set_option maxHeartbeats 4000000 in
theorem term_any (q:UH)(C L:List Int)(S Q cQ:Nat)(s:Sq)(lv:Int)(w:World)(hu:US w q C L)(hs:SS w q S Q cQ s lv)(h0:0<s.I.length) :
 Calls Tryz.prog 182 #[.pointer (some ⟨S,0,none⟩)] w fun e w'=>e=.returned (.tuple #[])∧US w' q (scan s.I isET (etAct s) C) L∧Fr [q.U] w w':=by
 have hUw:q.U<w.heap.size:=World.block_lt_of_cell? _ _ (hu.r _ (hs.lt 0 h0));have hSw:S<w.heap.size:=World.block_lt_of_cell? _ _ hs.c0;have hQw:Q<w.heap.size:=World.block_lt_of_cell? _ _ (hs.p 0 h0);have HU:=hid hu;have HS:=hid hs;have HST:=hid (fun w=>fn126_any S 209 w);have HFI:=hid fn90_any;obtain⟨Z,hZ⟩:∃Z,Z=scan s.I isET (etAct s) C:=⟨_,rfl⟩;rw[←hZ];have HZ:=hid hZ;clear hu hs hZ;refine(callsIn_wide (n:=3)).1 ?_;refine callsIn_of_wp_marks Tryz.func182 rfl trivial ?_ rfl;simp only[Tryz.ntmps182,List.size_toArray,List.length_cons,List.length_nil,Nat.reduceAdd,Nat.reduceSub,Array.replicate_succ,Array.replicate_zero,List.push_toArray,List.append_toArray,List.nil_append,List.cons_append];gi_wp2_with (refine⟨trivial,?_⟩;gi_at_call 191;refine(callsIn_wide.2 (HST.out _)).mono ?_;rintro e w' ⟨rfl,rfl⟩);obtain⟨W0,hW0⟩:∃W0,((w.alloc (.cells #[.pointer (some ⟨S,0,none⟩)] 263)).alloc (.cells #[.pointer (some ⟨S,0,none⟩)] 263)).alloc (.cells #[.func (.func 209) #[] #[]] 268)=W0:=⟨_,rfl⟩;have hsz:W0.heap.size=w.heap.size+3:=by rw[←hW0];simp
 have hV0:VS w W0.heap.size q L S Q cQ s lv 209 C W0:=by
  have hf:Fr [] w W0:=by rw[←hW0];exact(((Fr.refl [] w).alloc _).alloc _).alloc _
  refine⟨⟨HU.out.fr hf List.not_mem_nil,HS.out.fr hf List.not_mem_nil List.not_mem_nil,?_,?_⟩,?_,⟨hf.os,hf.tape,hf.output,hf.size,fun k hk _=>hf.block k hk List.not_mem_nil⟩,Nat.le_refl _⟩
  ·rw[←hW0,World.cell?_alloc_past (hn:=by simp),World.cell?_alloc_at (hn:=by simp)];rfl
  ·rw[←hW0,World.cell?_alloc_at (hn:=by simp)];rfl
  ·rw[←hW0,World.cell?_alloc_past (hn:=by simp;omega),World.cell?_alloc_past (hn:=by simp),World.cell?_alloc_at (hn:=by simp)];rfl
 rw[hW0];refine wpIn_range_st rfl (by omega) (gf:=219) (lb:=#[.pointer (some ⟨w.heap.size+1,0,none⟩),.pointer (some ⟨w.heap.size+1+1,0,none⟩)]) rfl trivial (enters_of Tryz.func219 (by kernel_rfl) rfl)
  (encs:=fun x:Nat × Nat=>#[.int .i64 x.1,.int .i64 x.2]) (fun _=>rfl)
  (VS w W0.heap.size q L S Q cQ s lv 209) (fun _ _ h=>h.n) (fun _ _ _ h hb=>h.below hsz hUw hSw (fun _=>hQw) hb)
  (fun _ x=>x.1<x.2∧x.2≤s.I.length) (fun C x=>etAct s x.1 x.2 C) C Z
  (fun l V' W h1 h2 h3 h4=>by rw[HZ.out];exact stretch_in q L S Q cQ s lv _ _ isET (etAct s) 209 (.inl rfl) HFI.out _ l V' (fun C A h=>(h1 C A h).v) h2 h3 C W h4)
  (fun x=>{ tmps:=#[.pointer (some ⟨S,0,none⟩),.pointer (some ⟨w.heap.size,0,none⟩),.int .i64 x.1,.int .i64 x.2,.pointer (some ⟨S,0,none⟩),.func (.func 219) #[] #[.pointer (some ⟨w.heap.size+1,0,none⟩),.pointer (some ⟨w.heap.size+1+1,0,none⟩)],.int .i64 x.1,.int .i64 x.2,undef,undef,undef,undef,undef,undef,undef,undef,undef,undef,undef,undef,undef,undef],defers:=[] })
  hV0 ?assign ?body ?done
 case assign =>
  intro l x W K hK;gi_wp2;exact hK
 case body =>
  rintro l C1 ⟨a,b⟩ A hV ⟨hab,hbm⟩;dsimp only at hab hbm ⊢;have HV:=hid hV;have b0:=hV.b0;have H144:=hid (fun B (hf:Fr [] A B)=>fn73_any q C1 L S Q cQ s lv a B (HV.out.v.u.fr hf List.not_mem_nil) (HV.out.v.s.fr hf List.not_mem_nil List.not_mem_nil) (by omega));have H145:=hid (fun B (hf:Fr [] A B)=>fn74_any q C1 L S Q cQ s lv b B (HV.out.v.u.fr hf List.not_mem_nil) (HV.out.v.s.fr hf List.not_mem_nil List.not_mem_nil) hbm);have H146:=hid (fun B (hf:Fr [] A B)=>fn75_any q C1 L S Q cQ s lv a b 3 B (HV.out.v.u.fr hf List.not_mem_nil) (HV.out.v.s.fr hf List.not_mem_nil List.not_mem_nil) hab hbm);have HE:=hid (show etAct s a b C1=if ah s C1 a=3∨att s C1 b=3 then fillTo s.I a 3 (b - a) C1 else C1 from rfl);generalize etAct s a b C1=E at *;generalize ah s C1 a=y1 at *;generalize att s C1 b=y2 at *;clear hV hV0 hW0 HFI HST;by_cases e1:y1=3
  ·have HE2:=hid (show E=fillTo s.I a 3 (b - a) C1 by rw[HE.out,if_pos (.inl e1)])
   subst e1;gi_wp2_with (refine⟨trivial,?_⟩;first | (gi_at_call 193;refine(CallsIn.inRound l (callsIn_wide.2 (H144.out _ (Fr.refl _ _)))).mono ?_;rintro e w' ⟨rfl,rfl⟩) | (gi_at_call 194;refine(CallsIn.inRound l (callsIn_wide.2 (H145.out _ (Fr.refl _ _)))).mono ?_;rintro e w' ⟨rfl,rfl⟩) | (gi_at_call 195;refine(CallsIn.inRound l (callsIn_wide.2 (H146.out _ (Fr.refl _ _)))).mono ?_;rintro e w' ⟨rfl,hu',hf'⟩;have HU2:=hid hu';have HF2:=hid hf';clear hu' hf') | skip);exact⟨VS.late (by omega) HF2.out,HV.out.next hUw (by rw[HE2.out];exact HU2.out) HF2.out⟩
  ·have e1':(y1 == 3)=false:=by simp[e1]
   by_cases e2:y2=3
   ·have HE2:=hid (show E=fillTo s.I a 3 (b - a) C1 by rw[HE.out,if_pos (.inr e2)])
    subst e2;gi_wp2_with (refine⟨trivial,?_⟩;first | (gi_at_call 193;refine(CallsIn.inRound l (callsIn_wide.2 (H144.out _ (Fr.refl _ _)))).mono ?_;rintro e w' ⟨rfl,rfl⟩) | (gi_at_call 194;refine(CallsIn.inRound l (callsIn_wide.2 (H145.out _ (Fr.refl _ _)))).mono ?_;rintro e w' ⟨rfl,rfl⟩) | (gi_at_call 195;refine(CallsIn.inRound l (callsIn_wide.2 (H146.out _ (Fr.refl _ _)))).mono ?_;rintro e w' ⟨rfl,hu',hf'⟩;have HU2:=hid hu';have HF2:=hid hf';clear hu' hf') | skip);exact⟨VS.late (by omega) HF2.out,HV.out.next hUw (by rw[HE2.out];exact HU2.out) HF2.out⟩
   ·have HE2:=hid (show E=C1 by rw[HE.out,if_neg (by omega)])
    have e2':(y2 == 3)=false:=by simp[e2]
    gi_wp2_with (refine⟨trivial,?_⟩;first | (gi_at_call 193;refine(CallsIn.inRound l (callsIn_wide.2 (H144.out _ (Fr.refl _ _)))).mono ?_;rintro e w' ⟨rfl,rfl⟩) | (gi_at_call 194;refine(CallsIn.inRound l (callsIn_wide.2 (H145.out _ (Fr.refl _ _)))).mono ?_;rintro e w' ⟨rfl,rfl⟩) | (gi_at_call 195;refine(CallsIn.inRound l (callsIn_wide.2 (H146.out _ (Fr.refl _ _)))).mono ?_;rintro e w' ⟨rfl,hu',hf'⟩;have HU2:=hid hu';have HF2:=hid hf';clear hu' hf') | skip);exact⟨fun _ _ _=>rfl,by rw[HE2.out];exact HV.out⟩
 case done =>
  rintro D A hV hD hK;have HV:=hid hV;clear hV;gi_wp2;refine⟨by simp,.inl ⟨_,_,rfl,run_takeDeferred hK,?_⟩⟩;refine⟨_,results_none rfl _ _ _,rfl,?_,?_⟩
  ·exact((HV.out.below hsz hUw hSw (fun _=>hQw) (below_put hD _)).v).u
  ·exact(HV.out.below hsz hUw hSw (fun _=>hQw) (below_put hD _)).f
set_option maxRecDepth 100000 in
set_option maxHeartbeats 4000000 in
theorem neut_any (q:UH)(C L:List Int)(S Q cQ:Nat)(s:Sq)(lv:Int)(w:World)(hu:US w q C L)(hs:SS w q S Q cQ s lv)(h0:0<s.I.length)(hl:0≤lv)(ho:s.own=way lv) :
 Calls Tryz.prog 141 #[.pointer (some ⟨S,0,none⟩)] w fun e w'=>e=.returned (.tuple #[])∧US w' q (scan s.I isNd (neAct s) C) L∧Fr [q.U] w w':=by
 have hUw:q.U<w.heap.size:=World.block_lt_of_cell? _ _ (hu.r _ (hs.lt 0 h0));have hSw:S<w.heap.size:=World.block_lt_of_cell? _ _ hs.c0;have hQw:Q<w.heap.size:=World.block_lt_of_cell? _ _ (hs.p 0 h0);have HU:=hid hu;have HS:=hid hs;have HST:=hid (fun w=>fn126_any S 192 w);have HFI:=hid fn72_any;have HO:=hid ho;obtain⟨Z,hZ⟩:∃Z,Z=scan s.I isNd (neAct s) C:=⟨_,rfl⟩;rw[←hZ];have HZ:=hid hZ;clear hu hs hZ ho;refine(callsIn_wide (n:=3)).1 ?_;refine callsIn_of_wp_marks Tryz.func141 rfl trivial ?_ rfl;simp only[Tryz.ntmps141,List.size_toArray,List.length_cons,List.length_nil,Nat.reduceAdd,Nat.reduceSub,Array.replicate_succ,Array.replicate_zero,List.push_toArray,List.append_toArray,List.nil_append,List.cons_append];gi_wp2_with (refine⟨trivial,?_⟩;gi_at_call 191;refine(callsIn_wide.2 (HST.out _)).mono ?_;rintro e w' ⟨rfl,rfl⟩);obtain⟨W0,hW0⟩:∃W0,((w.alloc (.cells #[.pointer (some ⟨S,0,none⟩)] 263)).alloc (.cells #[.pointer (some ⟨S,0,none⟩)] 263)).alloc (.cells #[.func (.func 192) #[] #[]] 268)=W0:=⟨_,rfl⟩;have hsz:W0.heap.size=w.heap.size+3:=by rw[←hW0];simp
 have hV0:VS w W0.heap.size q L S Q cQ s lv 192 C W0:=by
  have hf:Fr [] w W0:=by rw[←hW0];exact(((Fr.refl [] w).alloc _).alloc _).alloc _
  refine⟨⟨HU.out.fr hf List.not_mem_nil,HS.out.fr hf List.not_mem_nil List.not_mem_nil,?_,?_⟩,?_,⟨hf.os,hf.tape,hf.output,hf.size,fun k hk _=>hf.block k hk List.not_mem_nil⟩,Nat.le_refl _⟩
  ·rw[←hW0,World.cell?_alloc_past (hn:=by simp),World.cell?_alloc_at (hn:=by simp)];rfl
  ·rw[←hW0,World.cell?_alloc_at (hn:=by simp)];rfl
  ·rw[←hW0,World.cell?_alloc_past (hn:=by simp;omega),World.cell?_alloc_past (hn:=by simp),World.cell?_alloc_at (hn:=by simp)];rfl
 rw[hW0];refine wpIn_range_st rfl (by omega) (gf:=219) (lb:=#[.pointer (some ⟨w.heap.size+1,0,none⟩),.pointer (some ⟨w.heap.size+1+1,0,none⟩)]) rfl trivial (enters_of Tryz.func219 (by kernel_rfl) rfl)
  (encs:=fun x:Nat × Nat=>#[.int .i64 x.1,.int .i64 x.2]) (fun _=>rfl)
  (VS w W0.heap.size q L S Q cQ s lv 192) (fun _ _ h=>h.n) (fun _ _ _ h hb=>h.below hsz hUw hSw (fun _=>hQw) hb)
  (fun _ x=>x.1<x.2∧x.2≤s.I.length) (fun C x=>neAct s x.1 x.2 C) C Z
  (fun l V' W h1 h2 h3 h4=>by rw[HZ.out];exact stretch_in q L S Q cQ s lv _ _ isNd (neAct s) 192 (.inr rfl) HFI.out _ l V' (fun C A h=>(h1 C A h).v) h2 h3 C W h4)
  (fun x=>{ tmps:=#[.pointer (some ⟨S,0,none⟩),.pointer (some ⟨w.heap.size,0,none⟩),.int .i64 x.1,.int .i64 x.2,undef,.pointer (some ⟨S,0,none⟩),.func (.func 219) #[] #[.pointer (some ⟨w.heap.size+1,0,none⟩),.pointer (some ⟨w.heap.size+1+1,0,none⟩)],.int .i64 x.1,.int .i64 x.2,undef,undef,undef,undef,undef,undef,undef,undef,undef,undef,undef,undef,undef,undef,undef,undef,undef],defers:=[] })
  hV0 ?assign ?body ?done
 case assign =>
  intro l x W K hK;gi_wp2;exact hK
 case body =>
  rintro l C1 ⟨a,b⟩ A hV ⟨hab,hbm⟩;dsimp only at hab hbm ⊢;have HV:=hid hV;have b0:=hV.b0;have H144:=hid (fun B (hf:Fr [] A B)=>fn73_any q C1 L S Q cQ s lv a B (HV.out.v.u.fr hf List.not_mem_nil) (HV.out.v.s.fr hf List.not_mem_nil List.not_mem_nil) (by omega));have H145:=hid (fun B (hf:Fr [] A B)=>fn74_any q C1 L S Q cQ s lv b B (HV.out.v.u.fr hf List.not_mem_nil) (HV.out.v.s.fr hf List.not_mem_nil List.not_mem_nil) hbm);have H146:=hid (fun v B (hf:Fr [] A B)=>fn75_any q C1 L S Q cQ s lv a b v B (HV.out.v.u.fr hf List.not_mem_nil) (HV.out.v.s.fr hf List.not_mem_nil List.not_mem_nil) hab hbm);have H139:=hid (fun B (hf:Fr [] A B)=>fn68_any q S Q cQ s lv B (HV.out.v.s.fr hf List.not_mem_nil List.not_mem_nil) hl);have HE:=hid (show neAct s a b C1=fillTo s.I a (if side (ah s C1 a)=side (att s C1 b)then side (ah s C1 a)else way lv) (b - a) C1 by rw[neAct,HO.out]);have HS1:=hid (fn67_any (ah s C1 a));have HS2:=hid (fn67_any (att s C1 b));generalize neAct s a b C1=E at *;generalize ah s C1 a=y1 at *;generalize att s C1 b=y2 at *;generalize side y1=z1 at *;generalize side y2=z2 at *;generalize way lv=z3 at *;clear hV hV0 hW0 HFI HST;by_cases e1:z1=z2
  ·have HE2:=hid (show E=fillTo s.I a z1 (b - a) C1 by rw[HE.out,if_pos e1])
   subst e1;gi_wp2_with (refine⟨trivial,?_⟩;first | (gi_at_call 193;refine(CallsIn.inRound l (callsIn_wide.2 (H144.out _ (Fr.refl _ _)))).mono ?_;rintro e w' ⟨rfl,rfl⟩) | (gi_at_call 194;refine(CallsIn.inRound l (callsIn_wide.2 (H145.out _ (Fr.refl _ _)))).mono ?_;rintro e w' ⟨rfl,rfl⟩) | (gi_at_call 187;refine(CallsIn.inRound l (callsIn_wide.2 (HS1.out _))).mono ?_;clear HS1;rintro e w' ⟨rfl,rfl⟩) | (gi_at_call 187;refine(CallsIn.inRound l (callsIn_wide.2 (HS2.out _))).mono ?_;clear HS2;rintro e w' ⟨rfl,rfl⟩) | (gi_at_call 195;refine(CallsIn.inRound l (callsIn_wide.2 (H146.out _ _ (Fr.refl _ _)))).mono ?_;rintro e w' ⟨rfl,hu',hf'⟩;have HU2:=hid hu';have HF2:=hid hf';clear hu' hf'));exact⟨VS.late (by omega) HF2.out,HV.out.next hUw (by rw[HE2.out];exact HU2.out) HF2.out⟩
  ·have HE2:=hid (show E=fillTo s.I a z3 (b - a) C1 by rw[HE.out,if_neg e1])
   have e1':(z1 == z2)=false:=by simp[e1]
   gi_wp2_with (refine⟨trivial,?_⟩;first | (gi_at_call 193;refine(CallsIn.inRound l (callsIn_wide.2 (H144.out _ (Fr.refl _ _)))).mono ?_;rintro e w' ⟨rfl,rfl⟩) | (gi_at_call 194;refine(CallsIn.inRound l (callsIn_wide.2 (H145.out _ (Fr.refl _ _)))).mono ?_;rintro e w' ⟨rfl,rfl⟩) | (gi_at_call 187;refine(CallsIn.inRound l (callsIn_wide.2 (HS1.out _))).mono ?_;clear HS1;rintro e w' ⟨rfl,rfl⟩) | (gi_at_call 187;refine(CallsIn.inRound l (callsIn_wide.2 (HS2.out _))).mono ?_;clear HS2;rintro e w' ⟨rfl,rfl⟩) | (gi_at_call 188;refine(CallsIn.inRound l (callsIn_wide.2 (H139.out _ (Fr.refl _ _)))).mono ?_;rintro e w' ⟨rfl,mm,rfl⟩) | (gi_at_call 195;refine(CallsIn.inRound l (callsIn_wide.2 (H146.out _ _ ((Fr.refl [] _).drewN _)))).mono ?_;rintro e w' ⟨rfl,hu',hf'⟩;have HU2:=hid hu';have HF2:=hid hf'.of_drewN;clear hu' hf'));exact⟨VS.late (by omega) HF2.out,HV.out.next hUw (by rw[HE2.out];exact HU2.out) HF2.out⟩
 case done =>
  rintro D A hV hD hK;have HV:=hid hV;clear hV;gi_wp2;refine⟨by simp,.inl ⟨_,_,rfl,run_takeDeferred hK,?_⟩⟩;refine⟨_,results_none rfl _ _ _,rfl,?_,?_⟩
  ·exact((HV.out.below hsz hUw hSw (fun _=>hQw) (below_put hD _)).v).u
  ·exact(HV.out.below hsz hUw hSw (fun _=>hQw) (below_put hD _)).f
end Go.Proofs.YtnakejhohdbfdacGreatDoor
namespace Go.Proofs.YtnakejhohdbfdacGreatDoor
open Go.RowKit Lev Go.Shelf
attribute [local go_sem] Oper.semAt_some
theorem Fr.behind {T T':List Nat}{w w1 w2:World}(h:Fr T w w1)(k:Fr T' w1 w2)(hT:∀b∈T',w.heap.size≤b):Fr T w w2 :=
 ⟨k.os.trans h.os,k.tape.trans h.tape,k.output.trans h.output,Nat.le_trans h.size k.size,fun b hb hs=>(k.block b (Nat.lt_of_lt_of_le hb h.size) (fun hm=>by have:=hT b hm;omega)).trans (h.block b hb hs)⟩
structure VB (q:UH)(C L:List Int)(S Q cQ:Nat)(s:Sq)(lv:Int)(bx i:Nat)(W:World):Prop where
 u:US W q C L
 s:SS W q S Q cQ s lv
 b:W.cell? ⟨bx,0,none⟩=some (.slice (some ⟨Q,0,none⟩) i cQ)
theorem ahead_none {s:Sq}{C:List Int}{k:Nat}(h:side (cl s.I C k)=-1):aheadTo s C (k+1)=aheadTo s C k:=by
 rw[aheadTo,if_neg (by omega)]
theorem ahead_some {s:Sq}{C:List Int}{k:Nat}(h:side (cl s.I C k)≠-1):aheadTo s C (k+1)=side (cl s.I C k):=by
 have:=side_cases (cl s.I C k);rw[aheadTo,if_pos (by omega)]
set_option maxRecDepth 100000 in
set_option maxHeartbeats 4000000 in
theorem back_in (q:UH)(C L:List Int)(S Q cQ:Nat)(s:Sq)(lv:Int)(bx i:Nat)(hi:i≤s.I.length)(n l:Nat)(V':Nat→World→Prop)(Vx':World→Prop)(hVB:∀j A,V' j A→VB q C L S Q cQ s lv bx i A)(_:∀C A B,V' C A→Fr [] A B→V' C B)
 (hY:∀j (x:Nat) A,V' j A→(j=x+1∧x<i)→YieldAt Fence.wide (n - 1) Tryz.prog l #[.int .i64 x,.pointer (some ⟨q.U,nix s.I x * 4,none⟩)] A fun e B=>(e=.returned (.bool true)∧V' x B)∨(e=.returned (.bool false)∧Vx' B)) (W:World) (h0:V' i W) :
 CallsIn Fence.wide n Tryz.prog 225 (#[.func (.yield l) #[] #[]]++#[.pointer (some ⟨bx,0,none⟩)]) W fun e B=>(∃v,e=.returned v)∧(V' 0 B∨Vx' B):=by
 have b:=(hVB _ _ h0).b;have sm:=(hVB _ _ h0).s.sm;have HVB:=hid hVB;have HY:=hid hY;have H0:=hid h0;have hib:i≤1000000:=by omega
 clear hVB hY h0;refine callsIn_of_wp Tryz.func225 rfl trivial ?_ rfl;simp only[Tryz.ntmps225,List.size_toArray,List.length_cons,List.length_nil,Nat.reduceAdd,Nat.reduceSub,Array.replicate_succ,Array.replicate_zero,List.push_toArray,List.append_toArray,List.nil_append,List.cons_append];have hw0:IntKind.i64.wrap ((i:Int) - 1)=(i:Int) - 1:=by rw[IntKind.wrap_i64];omega
 gi_wp2;clear b hw0;gi_loopw [3] (fun a wr=>∃(j:Nat),a=.int .i64 ((j:Int) - 1)∧j≤i∧Hid (V' j wr)) (fun a _=>(intOf a+1).toNat)
 case atStart=>exact⟨i,rfl,Nat.le_refl _,H0⟩
 case round =>
  obtain⟨j,rfl,hj,HV⟩:=hrel
  rcases Nat.eq_zero_or_pos j with hj0 | hj0
  ·subst hj0
   gi_wp2;go_end0;exact⟨⟨_,rfl⟩,.inl HV.out⟩
  ·obtain⟨x,rfl⟩:∃x,j=x+1:=⟨j - 1,by omega⟩
   have hx:((x+1:Nat):Int) - 1=(x:Int):=by omega
   rw[hx];have b:=(HVB.out _ _ HV.out).b;have p:=(HVB.out _ _ HV.out).s.p x (by omega);have hxi:(x:Int)<(i:Int):=by omega
   have hx0:(0:Int)≤(x:Int):=by omega
   have hw0:IntKind.i64.wrap ((x:Int) - 1)=(x:Int) - 1:=by rw[IntKind.wrap_i64];omega
   obtain⟨fn,tmps,assign,body,hyy,hR⟩:=HY.out (x+1) x wr HV.out ⟨rfl,by omega⟩;generalize nix s.I x=y at *;clear HVB HY hx;gi_wp2;refine⟨fun hd=>absurd hd (by decide),hR.mono ?_⟩;rintro e W3 (⟨rfl,hV3⟩ | ⟨rfl,hx3⟩)
   ·have HV3:=hid hV3
    clear hV3;gi_wp2;go_roundw
    case rel=>exact⟨x,by simp,by omega,HV3⟩
    case measure=>simp[intOf]
   ·have HX3:=hid hx3
    clear hx3;gi_wp2;refine bodyPost_ret (results_none rfl _ _ _) rfl ?_;exact⟨⟨_,rfl⟩,.inr HX3.out⟩
theorem fn171_any (Q i c:Nat)(w:World):Calls Tryz.prog 218 #[.slice (some ⟨Q,0,none⟩) i c] w fun e w' =>
 e=.returned (.func (.func 225) #[] #[.pointer (some ⟨w.heap.size,0,none⟩)])∧w'=w.alloc (.cells #[.slice (some ⟨Q,0,none⟩) i c] 297):=by
 go_enter Tryz.func218,Tryz.ntmps218;go_wp2;go_ret;exact⟨by simp,rfl⟩
structure VA (w:World)(n:Nat)(q:UH)(C L:List Int)(S Q cQ:Nat)(s:Sq)(lv:Int)(i j:Nat)(A:World):Prop where
 v:VB q C L S Q cQ s lv (w.heap.size+1) i A
 r:A.cell? ⟨w.heap.size,0,none⟩=some (.int .i64 0)
 rf:A.frozen? ⟨w.heap.size,0,none⟩=false
 f:Fr [] w A
 n:n≤A.heap.size
 e:aheadTo s C i=aheadTo s C j
theorem VA.below {w:World}{n:Nat}{q:UH}{C L:List Int}{S Q cQ:Nat}{s:Sq}{lv:Int}{i j:Nat}{A B:World}(h:VA w n q C L S Q cQ s lv i j A)(hn:n=w.heap.size+2)(hU:q.U<w.heap.size)(hS:S<w.heap.size)(hQ:0<s.I.length→Q<w.heap.size)(hb:Below n A B):VA w n q C L S Q cQ s lv i j B:=by
 have hf:=fr_of_below hb;have z:∀ {k},k<w.heap.size→k ∉ (List.range A.heap.size).filter (fun k=>decide (n≤k)):=fun hk=>not_late (by omega)
 refine⟨⟨h.v.u.fr hf (z hU),⟨hf.cell h.v.s.c0 (z hS),hf.cell h.v.s.c1 (z hS),hf.cell h.v.s.c2 (z hS),hf.cell h.v.s.c3 (z hS),fun k hk=>hf.cell (h.v.s.p k hk) (z (hQ (by omega))),h.v.s.lt,h.v.s.ne,h.v.s.sm,h.v.s.cp⟩,hf.cell h.v.b (not_late (by omega))⟩,hf.cell h.r (not_late (by omega)),hf.froz h.r (not_late (by omega)) h.rf,?_,by have:=h.n;have:=hb.size;omega,h.e⟩;exact⟨hb.os.trans h.f.os,hb.tape.trans h.f.tape,hb.output.trans h.f.output,Nat.le_trans h.f.size hb.size,fun k hk hm=>(hb.block k (by omega)).trans (h.f.block k hk hm)⟩
theorem fr_below_late {w A B:World}{n:Nat}(h:Fr [] w A)(hb:Below n A B)(hn:w.heap.size≤n):Fr [] w B :=
 ⟨hb.os.trans h.os,hb.tape.trans h.tape,hb.output.trans h.output,Nat.le_trans h.size hb.size,fun k hk hm=>(hb.block k (by omega)).trans (h.block k hk hm)⟩
set_option maxRecDepth 100000 in
set_option maxHeartbeats 4000000 in
theorem ahd_any (q:UH)(C L:List Int)(S Q cQ:Nat)(s:Sq)(lv:Int)(i:Nat)(w:World)(hu:US w q C L)(hs:SS w q S Q cQ s lv)(hi:i<s.I.length)(hb:s.bef=0∨s.bef=1) :
 Calls Tryz.prog 190 #[.pointer (some ⟨S,0,none⟩),.int .i64 i] w fun e w'=>e=.returned (.int .i64 (aheadTo s C i))∧Fr [] w w':=by
 have hUw:q.U<w.heap.size:=World.block_lt_of_cell? _ _ (hu.r _ (hs.lt 0 (by omega)));have hSw:S<w.heap.size:=World.block_lt_of_cell? _ _ hs.c0;have hQw:Q<w.heap.size:=World.block_lt_of_cell? _ _ (hs.p 0 (by omega));have HU:=hid hu;have HS:=hid hs;have c0:=hs.c0;have cp:=hs.cp;have sm:=hs.sm;have HST:=hid (fun w=>fn171_any Q i cQ w);have HB:=hid (show aheadTo s C 0=s.bef by rw[aheadTo];rcases hb with e | e <;> rw[e] <;> rfl);obtain⟨Z,hZ⟩:∃Z,Z=aheadTo s C i:=⟨_,rfl⟩;rw[←hZ];have HZ:=hid hZ;obtain⟨m,hm⟩:∃m,m=s.I.length:=⟨_,rfl⟩;have HM:=hid hm;rw[←hm]at c0 sm hi cp;have hi1:(i:Int)≤(cQ:Int):=by omega
 have hi2:(0:Int)≤(i:Int):=by omega
 clear hu hs hZ hb hm;refine(callsIn_wide (n:=3)).1 ?_;refine callsIn_of_wp_marks Tryz.func190 rfl trivial ?_ rfl;simp only[Tryz.ntmps190,List.size_toArray,List.length_cons,List.length_nil,Nat.reduceAdd,Nat.reduceSub,Array.replicate_succ,Array.replicate_zero,List.push_toArray,List.append_toArray,List.nil_append,List.cons_append];gi_wp2_with (refine⟨trivial,?_⟩;gi_at_call 218;refine(callsIn_wide.2 (HST.out _)).mono ?_;rintro e w' ⟨rfl,rfl⟩);obtain⟨W0,hW0⟩:∃W0,(w.alloc (.cells #[.int .i64 0] 49)).alloc (.cells #[.slice (some ⟨Q,0,none⟩) i cQ] 297)=W0:=⟨_,rfl⟩;have hsz:W0.heap.size=w.heap.size+2:=by rw[←hW0];simp
 have hV0:VA w W0.heap.size q C L S Q cQ s lv i i W0:=by
  have hf:Fr [] w W0:=by rw[←hW0];exact((Fr.refl [] w).alloc _).alloc _
  have k1:(w.alloc (.cells #[.int .i64 0] 49)).cell? ⟨w.heap.size,0,none⟩=some (.int .i64 0):=by rw[World.cell?_alloc_at (hn:=rfl)];rfl
  refine⟨⟨HU.out.fr hf List.not_mem_nil,HS.out.fr hf List.not_mem_nil List.not_mem_nil,?_⟩,?_,?_,hf,Nat.le_refl _,rfl⟩
  ·rw[←hW0,World.cell?_alloc_at (hn:=by simp)];rfl
  ·rw[←hW0,World.cell?_alloc_past (hn:=by simp)];exact k1
  ·rw[←hW0];exact((Fr.refl [] (w.alloc (.cells #[.int .i64 0] 49))).alloc _).froz k1 List.not_mem_nil (by simp)
 rw[hW0];refine wpIn_range_rt rfl (by omega) (gf:=225) (lb:=#[.pointer (some ⟨w.heap.size+1,0,none⟩)]) rfl trivial (enters_of Tryz.func225 (by kernel_rfl) rfl)
  (encs:=fun x:Nat=>#[.int .i64 x,.pointer (some ⟨q.U,nix s.I x * 4,none⟩)]) (fun _=>rfl)
  (VA w W0.heap.size q C L S Q cQ s lv i) (fun A=>A.cell? ⟨w.heap.size,0,none⟩=some (.int .i64 Z)∧Fr [] w A) (fun _ _ h=>h.n) (fun _ _ _ h hb=>h.below hsz hUw hSw (fun _=>hQw) hb)
  (fun A B h hb=>⟨(fr_of_below hb).cell h.1 (not_late (by omega)),fr_below_late h.2 hb (by omega)⟩)
  (fun j x=>j=x+1∧x<i) (fun _ x=>x) i 0
  (fun l V' Vx' W h1 h2 h3 h4=>back_in q C L S Q cQ s lv _ i (by rw[←HM.out];omega) _ l V' Vx' (fun C A h=>(h1 C A h).v) h2 h3 W h4)
  (fun x=>{ tmps:=#[.pointer (some ⟨S,0,none⟩),.int .i64 i,undef,undef,.pointer (some ⟨w.heap.size,0,none⟩),undef,.pointer (some ⟨q.U,nix s.I x * 4,none⟩),undef,.pointer (some ⟨S,0,none⟩),.pointer (some ⟨S,0,none⟩),.pointer (some ⟨S,0,none⟩),.slice (some ⟨Q,0,none⟩) m cQ,.int .i64 i,.slice (some ⟨Q,0,none⟩) i cQ,.func (.func 225) #[] #[.pointer (some ⟨w.heap.size+1,0,none⟩)],.int .i64 x,.pointer (some ⟨q.U,nix s.I x * 4,none⟩),undef,undef,undef,undef,undef,undef,undef,undef,undef,undef,undef,undef],defers:=[] })
  hV0 ?assign ?body ?done ?stop
 case assign =>
  intro l x W K hK;gi_wp2;exact hK
 case body =>
  rintro l j x A hV ⟨rfl,hx⟩;have HV:=hid hV;have p2:=hV.v.u.c _ (hV.v.s.lt x (by rw[←HM.out];omega));have r0:=hV.r;have rf:=hV.rf;have HS1:=hid (fn67_any (cl s.I C x));have HE0:=hid (fun h=>ahead_none (s:=s) (C:=C) (k:=x) h);have HE1:=hid (fun h=>ahead_some (s:=s) (C:=C) (k:=x) h);have HEE:=hid (HZ.out.trans hV.e);dsimp only[cl]at *;generalize nix s.I x=y at *;generalize nth C y=c at *;generalize hz:side c=z at *;clear hz hV hV0 hW0 HST c0;by_cases e1:z=-1
  ·have HE2:=hid (HE0.out e1)
   subst e1;gi_wp2_with (refine⟨trivial,?_⟩;gi_at_call 187;refine(CallsIn.inRound l (callsIn_wide.2 (HS1.out _))).mono ?_;rintro e w' ⟨rfl,rfl⟩);exact⟨fun _ _ _=>rfl,⟨HV.out.v,HV.out.r,HV.out.rf,HV.out.f,HV.out.n,HV.out.e.trans HE2.out⟩⟩
  ·have HE2:=hid (HEE.out.trans (HE1.out e1))
   have e1':(z == -1)=false:=by simp[e1]
   gi_wp2_with (refine⟨trivial,?_⟩;gi_at_call 187;refine(CallsIn.inRound l (callsIn_wide.2 (HS1.out _))).mono ?_;rintro e w' ⟨rfl,rfl⟩);refine⟨fun k hk hk2=>Below.heap_setCell _ _ _ _ (by dsimp only;omega),?_,?_⟩
   ·rw[HE2.out];exact World.cell?_setCell_same' _ _ _ (by rw[r0];rfl)
   ·exact HV.out.f.behind (fr_set1 _ _ _ _) (fun b hb=>by rw[List.mem_singleton.1 hb];exact Nat.le_refl _)
 case done =>
  rintro D A hV hD hK;have HV:=hid hV;have c2:=hV.v.s.c2;have r0:=hV.r;have rf:=hV.rf;have hZb:s.bef=Z:=by rw[HZ.out,hV.e,HB.out]
  rw[hZb]at c2;clear hV hV0 hW0 hZb;gi_wp2;have hK':(A.setCell ⟨w.heap.size,0,none⟩ (.int .i64 Z)).heap[D]?=some (.deferred (some [])):=(Below.heap_setCell _ _ _ _ (by dsimp only;omega)).trans hK;refine⟨by simp,.inl ⟨_,_,rfl,run_takeDeferred hK',?_⟩⟩;have hc5:((A.setCell ⟨w.heap.size,0,none⟩ (.int .i64 Z)).putObj D (.deferred none)).cell? ⟨w.heap.size,0,none⟩=some (.int .i64 Z):=(fr_of_below (below_put (B:=W0.heap.size) hD (.deferred none))).cell (World.cell?_setCell_same' _ _ _ (by rw[r0];rfl)) (not_late (by omega));refine⟨.int .i64 Z,?_,rfl,fr_below_late (HV.out.f.behind (fr_set1 _ _ _ _) (fun b hb=>by rw[List.mem_singleton.1 hb];exact Nat.le_refl _)) (below_put (B:=W0.heap.size) hD (.deferred none)) (by omega)⟩;simp[results,Tryz.f190,go_sem,hc5]
 case stop =>
  rintro D A ⟨hc,hf⟩ hD hK;clear hV0 hW0;gi_wp2;refine⟨by simp,.inl ⟨_,_,rfl,run_takeDeferred hK,?_⟩⟩;have hc5:(A.putObj D (.deferred none)).cell? ⟨w.heap.size,0,none⟩=some (.int .i64 Z):=(fr_of_below (below_put (B:=W0.heap.size) hD (.deferred none))).cell hc (not_late (by omega));refine⟨.int .i64 Z,?_,rfl,fr_below_late hf (below_put (B:=W0.heap.size) hD (.deferred none)) (by omega)⟩;simp[results,Tryz.f190,go_sem,hc5]
end Go.Proofs.YtnakejhohdbfdacGreatDoor
namespace Go.Proofs
open Go.Shelf
def Tryz.keysA_ren:Go.Shelf.Ren:=⟨fun | 7=>186 | 10=>216 | n=>n,fun | 23=>258 | 26=>3 | 3=>3 | 28=>305 | 0=>0 | 27=>304 | 33=>159 | 4=>4 | n=>n,fun | n=>n⟩
theorem Tryz.keysA:Go.Proofs.SlLaysZI.n7 Tryz.prog Tryz.keysA_ren:={
 mixed:=by kernel_rfl
 f7:=⟨Tryz.f186.name,by decide,Tryz.func186.trans (congrArg some (by kernel_rfl))⟩
 f10:=⟨Tryz.f216.name,by decide,Tryz.func216.trans (congrArg some (by kernel_rfl))⟩
 t0:=Tryz.underlying0
 a0:=Tryz.isAgg0
 z0:=Tryz.sizeOf0
 v0:=Tryz.zeroValue0
 t4:=Tryz.underlying4
 a4:=Tryz.isAgg4
 z4:=Tryz.sizeOf4
 v4:=Tryz.zeroValue4
 t23:=Tryz.underlying258
 a23:=Tryz.isAgg258
 z23:=Tryz.sizeOf258
 v23:=Tryz.zeroValue258
 t26:=Tryz.underlying3
 a26:=Tryz.isAgg3
 z26:=Tryz.sizeOf3
 v26:=Tryz.zeroValue3
 t27:=Tryz.underlying304
 a27:=Tryz.isAgg304
 z27:=Tryz.sizeOf304
 v27:=Tryz.zeroValue304
 t28:=Tryz.underlying305
 a28:=Tryz.isAgg305
 z28:=Tryz.sizeOf305
 v28:=Tryz.zeroValue305
 t33:=Tryz.underlying159
 a33:=Tryz.isAgg159
 z33:=Tryz.sizeOf159
 v33:=Tryz.zeroValue159 }
def Tryz.sortedA_ren:Go.Shelf.Ren:=⟨fun | 6=>185 | 8=>214 | 9=>215 | 11=>222 | 13=>224 | 12=>223 | 23=>234 | 24=>235 | 14=>226 | 15=>227 | 16=>228 | 17=>229 | 18=>230 | 19=>231 | 20=>117 | 21=>232 | 22=>233 | 25=>236 | 26=>237 | 27=>238 | 28=>239 | 29=>240 | 30=>150 | 31=>241 | n=>n,fun | 26=>3 | 28=>305 | 24=>32 | 0=>0 | 3=>3 | 37=>224 | 48=>272 | 50=>346 | 4=>4 | 40=>339 | 39=>338 | 45=>163 | 5=>5 | 9=>9 | 51=>347 | 55=>351 | 57=>353 | 58=>194 | 33=>159 | n=>n,fun | n=>n⟩
theorem Tryz.sortedA:Go.Proofs.SlLaysZI.n6 Tryz.prog Tryz.sortedA_ren:={
 mixed:=by kernel_rfl
 f6:=⟨Tryz.f185.name,by decide,Tryz.func185.trans (congrArg some (by kernel_rfl))⟩
 f8:=⟨Tryz.f214.name,by decide,Tryz.func214.trans (congrArg some (by kernel_rfl))⟩
 f11:=⟨Tryz.f222.name,by decide,Tryz.func222.trans (congrArg some (by kernel_rfl))⟩
 t0:=Tryz.underlying0
 a0:=Tryz.isAgg0
 z0:=Tryz.sizeOf0
 v0:=Tryz.zeroValue0
 t24:=Tryz.underlying32
 a24:=Tryz.isAgg32
 z24:=Tryz.sizeOf32
 v24:=Tryz.zeroValue32
 t26:=Tryz.underlying3
 a26:=Tryz.isAgg3
 z26:=Tryz.sizeOf3
 v26:=Tryz.zeroValue3
 t28:=Tryz.underlying305
 a28:=Tryz.isAgg305
 z28:=Tryz.sizeOf305
 v28:=Tryz.zeroValue305
 i26:=by kernel_rfl }
def Tryz.sortA_ren:Go.Shelf.Ren:=⟨fun | 5=>215 | 8=>224 | 7=>223 | 19=>234 | 20=>235 | 10=>226 | 11=>227 | 12=>228 | 13=>229 | 14=>230 | 15=>231 | 16=>117 | 17=>232 | 18=>233 | 30=>236 | 31=>237 | 32=>238 | 33=>239 | 34=>240 | 35=>150 | 40=>241 | n=>n,fun | 23=>32 | 25=>3 | 3=>3 | 32=>224 | 22=>32 | 0=>0 | 44=>272 | 46=>346 | 4=>4 | 36=>339 | 35=>338 | 41=>163 | 5=>5 | 9=>9 | 53=>347 | 57=>351 | 63=>353 | 64=>194 | n=>n,fun | n=>n⟩
theorem Tryz.sortA:Go.Proofs.SlLaysM.n5 Tryz.prog Tryz.sortA_ren:={
 mixed:=by kernel_rfl
 f5:=⟨Tryz.f215.name,by decide,Tryz.func215.trans (congrArg some (by kernel_rfl))⟩
 f7:=⟨Tryz.f223.name,by decide,Tryz.func223.trans (congrArg some (by kernel_rfl))⟩
 f8:=Tryz.func224.trans (congrArg some (by kernel_rfl))
 f10:=⟨Tryz.f226.name,by decide,Tryz.func226.trans (congrArg some (by kernel_rfl))⟩
 f11:=⟨Tryz.f227.name,by decide,Tryz.func227.trans (congrArg some (by kernel_rfl))⟩
 f12:=⟨Tryz.f228.name,by decide,Tryz.func228.trans (congrArg some (by kernel_rfl))⟩
 f13:=⟨Tryz.f229.name,by decide,Tryz.func229.trans (congrArg some (by kernel_rfl))⟩
 f14:=⟨Tryz.f230.name,by decide,Tryz.func230.trans (congrArg some (by kernel_rfl))⟩
 f15:=⟨Tryz.f231.name,by decide,Tryz.func231.trans (congrArg some (by kernel_rfl))⟩
 f16:=⟨Tryz.f117.name,by decide,Tryz.func117.trans (congrArg some (by kernel_rfl))⟩
 f17:=⟨Tryz.f232.name,by decide,Tryz.func232.trans (congrArg some (by kernel_rfl))⟩
 f18:=⟨Tryz.f233.name,by decide,Tryz.func233.trans (congrArg some (by kernel_rfl))⟩
 f19:=Tryz.func234.trans (congrArg some (by kernel_rfl))
 f20:=Tryz.func235.trans (congrArg some (by kernel_rfl))
 f30:=⟨Tryz.f236.name,by decide,Tryz.func236.trans (congrArg some (by kernel_rfl))⟩
 f31:=Tryz.func237.trans (congrArg some (by kernel_rfl))
 f32:=Tryz.func238.trans (congrArg some (by kernel_rfl))
 f33:=⟨Tryz.f239.name,by decide,Tryz.func239.trans (congrArg some (by kernel_rfl))⟩
 f34:=⟨Tryz.f240.name,by decide,Tryz.func240.trans (congrArg some (by kernel_rfl))⟩
 f35:=⟨Tryz.f150.name,by decide,Tryz.func150.trans (congrArg some (by kernel_rfl))⟩
 f40:=⟨Tryz.f241.name,by decide,Tryz.func241.trans (congrArg some (by kernel_rfl))⟩
 t0:=Tryz.underlying0
 a0:=Tryz.isAgg0
 z0:=Tryz.sizeOf0
 v0:=Tryz.zeroValue0
 t3:=Tryz.underlying3
 a3:=Tryz.isAgg3
 z3:=Tryz.sizeOf3
 v3:=Tryz.zeroValue3
 t4:=Tryz.underlying4
 a4:=Tryz.isAgg4
 z4:=Tryz.sizeOf4
 v4:=Tryz.zeroValue4
 t5:=Tryz.underlying5
 a5:=Tryz.isAgg5
 z5:=Tryz.sizeOf5
 v5:=Tryz.zeroValue5
 t9:=Tryz.underlying9
 a9:=Tryz.isAgg9
 z9:=Tryz.sizeOf9
 v9:=Tryz.zeroValue9
 t22:=Tryz.underlying32
 a22:=Tryz.isAgg32
 z22:=Tryz.sizeOf32
 v22:=Tryz.zeroValue32
 t23:=Tryz.underlying32
 a23:=Tryz.isAgg32
 z23:=Tryz.sizeOf32
 v23:=Tryz.zeroValue32
 t25:=Tryz.underlying3
 a25:=Tryz.isAgg3
 z25:=Tryz.sizeOf3
 v25:=Tryz.zeroValue3
 t32:=Tryz.underlying224
 a32:=Tryz.isAgg224
 z32:=Tryz.sizeOf224
 v32:=Tryz.zeroValue224
 t35:=Tryz.underlying338
 a35:=Tryz.isAgg338
 z35:=Tryz.sizeOf338
 v35:=Tryz.zeroValue338
 t36:=Tryz.underlying339
 a36:=Tryz.isAgg339
 z36:=Tryz.sizeOf339
 v36:=Tryz.zeroValue339
 t41:=Tryz.underlying163
 a41:=Tryz.isAgg163
 z41:=Tryz.sizeOf163
 v41:=Tryz.zeroValue163
 t44:=Tryz.underlying272
 a44:=Tryz.isAgg272
 z44:=Tryz.sizeOf272
 v44:=Tryz.zeroValue272
 t46:=Tryz.underlying346
 a46:=Tryz.isAgg346
 z46:=Tryz.sizeOf346
 v46:=Tryz.zeroValue346
 t53:=Tryz.underlying347
 a53:=Tryz.isAgg347
 z53:=Tryz.sizeOf347
 v53:=Tryz.zeroValue347
 t57:=Tryz.underlying351
 a57:=Tryz.isAgg351
 z57:=Tryz.sizeOf351
 v57:=Tryz.zeroValue351
 t63:=Tryz.underlying353
 a63:=Tryz.isAgg353
 z63:=Tryz.sizeOf353
 v63:=Tryz.zeroValue353
 t64:=Tryz.underlying194
 a64:=Tryz.isAgg194
 z64:=Tryz.sizeOf194
 v64:=Tryz.zeroValue194 }
end Go.Proofs

import Derived.Test.YtnakejhohdbfdaaGreatDoorZPwQ
import Derived.Test.YtnakejhohdbfdaaGreatDoorZMb
namespace Go.Proofs.YtnakejhohdbfdaaGreatDoor
open Go.RowKit Lev Lay Bnd
set_option maxRecDepth 10000 in
theorem laid_out (s:ByteArray) (b:Int) (aW aB:Option Addr) (nW cW nB cB:Nat) (w:World) (h:¬ (s.size ≤ 4096∧nW ≤ 4096∧nB ≤ 4096)) :
 Calls Tryz.prog 4 #[.agg #[.string s,.int .i64 b,.slice aW nW cW,.slice aB nB cB]] w fun e w'=>e=.returned (.bool true)∧Fr [] w w':=by
 have HFb:=hid (show Fr [] w (w.alloc (.cells #[.string s,.int .i64 b,.slice aW nW cW,.slice aB nB cB] 35)) from (Fr.refl [] w).alloc _)
 have H13:=hid (fit_no s b aW aB nW cW nB cB (w.alloc (.cells #[.string s,.int .i64 b,.slice aW nW cW,.slice aB nB cB] 35)) h)
 clear h
 go_enter Tryz.func4,Tryz.ntmps4
 go_wp2_with fail
 refine H13.out.mono ?_
 rintro e w1 ⟨rfl,hf1⟩
 have HF1:=hid (HFb.out.trans hf1)
 clear hf1 H13
 go_wp2_with fail
 go_ret
 exact ⟨rfl,HF1.out⟩
set_option maxRecDepth 10000 in
theorem laid_bad (s:ByteArray) (b:Int) (vW vB:Value) (W Br:List Int) (n:Nat) (w:World) (hF:Floor w) (hend:Dec.Ends s n) (hW:slAd w vW W) (hB:slAd w vB Br) (hs:s.size ≤ 4096) (hWl:W.length ≤ 4096) (hBl:Br.length ≤ 4096) (hck:chk s n (clsOf s n) b W Br ≠ 0) :
 Calls Tryz.prog 4 #[.agg #[.string s,.int .i64 b,vW,vB]] w fun e w'=>e=.returned (.bool true)∧Fr [] w w':=by
 obtain ⟨aW,cW0,rfl,_⟩:=id hW
 obtain ⟨aB,cB0,rfl,_⟩:=id hB
 obtain ⟨wb,hwb⟩:∃ wb,wb=w.alloc (.cells #[.string s,.int .i64 b,.slice aW W.length cW0,.slice aB Br.length cB0] 35):=⟨_,rfl⟩
 have HFb:=hid (show Fr [] w wb by rw [hwb];exact (Fr.refl [] w).alloc _)
 have HOb:=hid (show wb.heap[w.heap.size]?=some (.cells #[.string s,.int .i64 b,.slice aW W.length cW0,.slice aB Br.length cB0] 35 (0,0)) by rw [hwb];exact obj_new w _)
 have H13:=hid (fit_yes s b aW aB W.length cW0 Br.length cB0 wb hs hWl hBl)
 have H14:=hid (fun (Y:World) (hf:Fr [] w Y)=>made_bad s b _ _ W Br n Y (hF.fr hf) hend (hW.fr hf) (hB.fr hf) (by omega) (by omega) hck)
 generalize W.length=nW at *
 generalize Br.length=nB at *
 clear hW hB hF hend hck
 go_enter Tryz.func4,Tryz.ntmps4
 go_wp2_with fail
 rw [← hwb]
 clear hwb
 refine H13.out.mono ?_
 rintro e w1 ⟨rfl,hf1⟩
 have HF1:=hid (HFb.out.trans hf1)
 have HO1:=hid (obj_fr HOb.out hf1 List.not_mem_nil)
 have l0:=obj_cell HO1.out (i:=0) (v:=.string s) rfl
 have l1:=obj_cell HO1.out (i:=1) (v:=.int .i64 b) rfl
 have l2:=obj_cell HO1.out (i:=2) (v:=.slice aW nW cW0) rfl
 have l3:=obj_cell HO1.out (i:=3) (v:=.slice aB nB cB0) rfl
 have H14b:=hid (H14.out w1 HF1.out)
 clear hf1 H13 H14
 go_wp2_with fail
 refine H14b.out.mono ?_
 rintro e w2 ⟨rfl,hf2⟩
 have HF2:=hid (HF1.out.trans hf2)
 clear hf2 H14b
 go_wp2_with fail
 go_ret
 exact ⟨rfl,HF2.out⟩
theorem laid_any (s:ByteArray) (b:Int) (vW vB:Value) (W Br:List Int) (w:World) (hF:Floor w) (hW:slAd w vW W) (hB:slAd w vB Br) :
 Calls Tryz.prog 4 #[.agg #[.string s,.int .i64 b,vW,vB]] w fun e w'=>e=.returned (.bool true)∧Fr [] w w':=by
 by_cases h:s.size ≤ 4096∧W.length ≤ 4096∧Br.length ≤ 4096
 ·obtain ⟨n,hend⟩:=Cls.runs s
  by_cases hck:chk s n (clsOf s n) b W Br=0
  ·exact laid_good s b vW vB W Br n w hF hend hW hB h.1 h.2.1 h.2.2 hck
  ·exact laid_bad s b vW vB W Br n w hF hend hW hB h.1 h.2.1 h.2.2 hck
 ·obtain ⟨aW,cW,rfl,_⟩:=hW
  obtain ⟨aB,cB,rfl,_⟩:=hB
  exact laid_out s b aW aB _ cW _ cB w h
end Go.Proofs.YtnakejhohdbfdaaGreatDoor
namespace Go.Proofs.YtnakejhohdbfdaaGreatDoor.Cls
open Go.RowKit Tabs
theorem tKinds:(Tryz.prog.globals[9]?).map (·.type)=some 329:=by kernel_rfl
theorem cells48:Tryz.prog.cellsOf 328=3:=by kernel_rfl
theorem cells30:Tryz.prog.cellsOf 305=1:=by kernel_rfl
theorem dataKinds:(Rows.laid_caret_runes_kinds:DataW Unit)=.agg (kindTab.map rowData):=by kernel_rfl
theorem kinds_of_head {W:World} {n:String} {rest:List (String × DataW Unit)} (h:laidMet Tryz.prog ((n,Rows.laid_caret_runes_kinds) :: rest) W) (hn:Tryz.prog.globalNamed n=some 9):TabAt W 9 kindTab:=by
 rw [dataKinds] at h
 exact tabAt_of_head hn tKinds Tryz.underlying329 Tryz.underlying328 cells48 rfl rfl rfl Tryz.underlying21 Tryz.underlying21 Tryz.underlying305 cells21 cells21 cells30 len_kind.symm h
end Go.Proofs.YtnakejhohdbfdaaGreatDoor.Cls

/- Covers: the law. -/
import Derived.Test.YtnakejhohdbfdabGreatDoorSpF
import Derived.Test.YtnakejhohdbfdabGreatDoorSpG
namespace Go.Proofs.YtnakejhohdbfdabGreatDoor
open Go.RowKit Lev Lay Bnd

set_option maxRecDepth 10000 in
set_option maxHeartbeats 4000000 in
theorem covers_none (s : ByteArray) (b : Int) (aW aB : Option Addr) (nW cW nB cB : Nat) (qa qb : Int) (w : World) (hF : Floor w)
    (hL : ∀ Z, Fr [] w Z → Calls Tryz.prog 30 #[.agg #[.string s, .int .i64 b, .slice aW nW cW, .slice aB nB cB]] Z fun e w' => e = .returned (.pointer none) ∧ Fr [] Z w') :
    Calls Tryz.prog 9 #[.agg #[.string s, .int .i64 b, .slice aW nW cW, .slice aB nB cB], .int .i64 qa, .int .i64 qb] w fun e w' => e = .returned (.bool true) ∧ Fr [] w w' := by
  obtain ⟨wb, hwb⟩ : ∃ wb, wb = w.alloc (.cells #[.string s, .int .i64 b, .slice aW nW cW, .slice aB nB cB] 48) := ⟨_, rfl⟩
  have HFb := hid (show Fr [] w wb by rw [hwb]; exact (Fr.refl [] w).alloc _)
  have HOb := hid (show wb.heap[w.heap.size]? = some (.cells #[.string s, .int .i64 b, .slice aW nW cW, .slice aB nB cB] 48 (0, 0)) by rw [hwb]; exact obj_new w _)
  have HA := hid (fun (Z : World) (hf : Fr [] w Z) => alive_any Z (hF.fr hf))
  have HL := hid hL
  clear hF hL
  go_enter Tryz.func9, Tryz.ntmps9
  go_wp2_with fail
  rw [← hwb]
  clear hwb
  refine (HA.out wb HFb.out).mono ?_
  rintro e w1 ⟨rfl, hf1⟩
  have HF1 := hid (HFb.out.trans hf1)
  have HO1 := hid (obj_fr HOb.out hf1 List.not_mem_nil)
  have c0 := obj_cell HO1.out (i := 0) (v := .string s) rfl
  have c1 := obj_cell HO1.out (i := 1) (v := .int .i64 b) rfl
  have c2 := obj_cell HO1.out (i := 2) (v := .slice aW nW cW) rfl
  have c3 := obj_cell HO1.out (i := 3) (v := .slice aB nB cB) rfl
  clear hf1 HA
  go_wp2_with fail
  refine (HL.out w1 HF1.out).mono ?_
  rintro e w2 ⟨rfl, hf2⟩
  have HF2 := hid (HF1.out.trans hf2)
  clear hf2 c0 c1 c2 c3 HL
  go_wp2
  go_ret
  exact ⟨rfl, HF2.out⟩
theorem covers_any (s : ByteArray) (b : Int) (vW vB : Value) (W Br : List Int) (qa qb : Int) (w : World) (hF : Floor w) (hW : slAd w vW W) (hB : slAd w vB Br) :
    Calls Tryz.prog 9 #[.agg #[.string s, .int .i64 b, vW, vB], .int .i64 qa, .int .i64 qb] w fun e w' => e = .returned (.bool true) ∧ Fr [] w w' := by
  obtain ⟨aW, cW, rfl, _⟩ := id hW
  obtain ⟨aB, cB, rfl, _⟩ := id hB
  by_cases h : ∃ n, Dec.Ends s n ∧ (s.size ≤ 4096 ∧ W.length ≤ 4096 ∧ Br.length ≤ 4096) ∧ chk s n (clsOf s n) b W Br = 0
  · obtain ⟨n, hend, hf, hck⟩ := h
    by_cases hab : qb < qa
    · exact covers_lt s b _ _ W Br n qa qb hab w hF hend hW hB hf.1 hf.2.1 hf.2.2 hck
    · exact covers_ge s b _ _ W Br n qa qb hab w hF hend hW hB hf.1 hf.2.1 hf.2.2 hck
  · refine covers_none s b aW aB W.length cW Br.length cB qa qb w hF (fun Z hf => laid_none s b aW aB cW cB W Br Z (hF.fr hf) (hW.fr hf) (hB.fr hf) (fun n hend hl hck => h ⟨n, hend, hl, hck⟩))
end Go.Proofs.YtnakejhohdbfdabGreatDoor

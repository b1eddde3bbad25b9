/- Words: the program's letters and its list, walked. -/
import Derived.Test.YtnakejhohdbfdabDoorWdE
namespace Go.Proofs.YtnakejhohdbfdabDoor
open Go.RowKit Dec Kin Bnd Lay Go.Shelf
attribute [local go_sem] Oper.semAt_some

theorem fn51_any (t : ByteArray) (w : World) (hT : Lib.Utf8Tabs 0 1 w) (h3 : TabAt w 3 Tabs.lowTab) (h4 : TabAt w 4 Tabs.highTab) :
    Calls Tryd.prog 22 #[.string t] w fun e w' => e = .returned (.int .i64 (Tabs.look Tabs.classTab ((Lib.decodeGo t).1 : Nat))) ∧ Below w.heap.size w w' := by
  have H23 := hid (Tryd.decode20 t w hT)
  have hl3 := h3.lt (by decide)
  have hl4 := h4.lt (by decide)
  have H25 := hid (fun (Y : World) (hb : Below w.heap.size w Y) => fn22_any ((Lib.decodeGo t).1 : Nat) Y (h3.below hl3 hb) (h4.below hl4 hb))
  generalize ((Lib.decodeGo t).1 : Nat) = r at *
  generalize (Lib.decodeGo t).2 = m at *
  generalize Tabs.look Tabs.classTab (r : Int) = c at *
  clear hT h3 h4
  go_enter Tryd.func22, Tryd.ntmps22
  go_wp2_with fail
  refine H23.out.mono ?_
  rintro e w1 ⟨rfl, hb1⟩
  have H25b := hid (H25.out w1 hb1)
  have HB1 := hid hb1
  clear hb1 H23 H25
  go_wp2_with fail
  refine H25b.out.mono ?_
  rintro e w2 ⟨rfl, hb2⟩
  have HB2 := hid (HB1.out.trans (hb2.mono HB1.out.size))
  clear hb2 H25b
  go_wp2
  go_ret
  exact ⟨rfl, HB2.out⟩
end Go.Proofs.YtnakejhohdbfdabDoor

/- Covers, plainly; Snap and Select, called. -/
import Derived.Test.YtnakejhohdbfdabGreatDoorSpC
import Derived.Test.YtnakejhohdbfdabGreatDoorKpX
namespace Go.Proofs.YtnakejhohdbfdabGreatDoor
open Go.RowKit Lev Lay Bnd

theorem snp_at {Bd : List Int} {z : Int} (hr : Rises Bd z) (off : Int) (up : Bool) : ∃ i, i < Bd.length ∧ snp Bd z off up = nth Bd i := by
  obtain ⟨k, hk⟩ := cut_exists (min (max off 0) z) Bd hr.sorted
  have hlt := hr.cut_lt hk (by omega)
  have e : cidx Bd (min (max off 0) z) = k := cut_count hk
  unfold snp snapL
  rw [e]
  split
  · exact ⟨k, hlt, rfl⟩
  · exact ⟨k - 1, by omega, rfl⟩
theorem askd_iff {Bd : List Int} {z : Int} (hr : Rises Bd z) (a b : Int) {c : Nat} (hc : c + 1 < Bd.length) :
    askd Bd z a b c = (decide (snp Bd z (min a b) false ≤ nth Bd c) && decide (nth Bd (c + 1) ≤ snp Bd z (max a b) true)) := by
  obtain ⟨i, hi, e1⟩ := snp_at hr (min a b) false
  obtain ⟨j, hj, e2⟩ := snp_at hr (max a b) true
  have m : ∀ u v, u < v → v < Bd.length → nth Bd u < nth Bd v := fun u v h1 h2 => rises_lt hr h1 h2
  unfold askd
  rw [e1, e2, cidx_of hr hi, cidx_of hr hj]
  congr 1
  · rw [decide_eq_decide]
    constructor
    · intro h
      rcases Nat.lt_or_eq_of_le h with h | h
      · have := m i c h (by omega); omega
      · rw [h]; exact Int.le_refl _
    · intro h
      by_cases h2 : i ≤ c
      · exact h2
      · have := m c i (by omega) hi; omega
  · rw [decide_eq_decide]
    constructor
    · intro h
      rcases Nat.lt_or_eq_of_le (show c + 1 ≤ j from h) with h | h
      · have := m (c + 1) j h hj; omega
      · rw [h]; exact Int.le_refl _
    · intro h
      by_cases h2 : c < j
      · exact h2
      · have := m j (c + 1) (by omega) hc; omega
theorem rises_zero {l : List Int} (h : Rises l 0) : l = [0] := by
  have h1 := h.len
  have h0 := h.head
  by_cases h2 : 1 < l.length
  · have h3 := rises_lt h (i := 0) (j := l.length - 1) (by omega) (by omega)
    rw [rises_first h, rises_last h] at h3
    omega
  · obtain ⟨x, rfl⟩ := List.length_eq_one_iff.1 (show l.length = 1 by omega)
    simp at h0
    rw [h0]
theorem bd_bnd {s : ByteArray} {n : Nat} {Bd V : List Int} {Ls : List Ln} (F : Fine Bd V (s.size : Nat) Ls) (hend : Dec.Ends s n) (h : 0 < V.length → Bd = bnd s n) : Bd = bnd s n := by
  by_cases h0 : 0 < V.length
  · exact h h0
  · have hl := F.bd
    have e := rises_last F.rs
    have e0 := rises_first F.rs
    rw [show Bd.length - 1 = 0 by omega, e0] at e
    have r1 := F.rs
    have r2 := rises_bnd hend
    rw [← e] at r1 r2
    rw [rises_zero r1, rises_zero r2]
/-- Whether one of the first j spans holds gap k of line i. -/
def inSp (M : List Spn) (i k j : Nat) : Bool := (M.take j).any fun s => decide (s.l = i) && (decide (s.f ≤ k) && decide (k < s.t))
theorem inSp_step {M : List Spn} {i k j : Nat} {s : Spn} (h : M[j]? = some s) : inSp M i k (j + 1) = (inSp M i k j || (decide (s.l = i) && (decide (s.f ≤ k) && decide (k < s.t)))) := by
  unfold inSp
  rw [List.take_add_one, h, List.any_append]
  simp
theorem inSp_all {Ls : List Ln} {f : Nat → Bool} {n : Nat} {M : List Spn} (h : SelOk Ls f n M) {i k : Nat} (hi : i < n) (hk : k < (lnN Ls i).o.length) : inSp M i k M.length = f (nix (lnN Ls i).o k) := by
  have e := h.has i k hi hk
  unfold inSp
  rw [List.take_length, Bool.eq_iff_iff, ← e, List.any_eq_true]
  constructor
  · rintro ⟨s, h1, h2⟩
    simp only [Bool.and_eq_true, decide_eq_true_eq] at h2
    exact ⟨s, h1, h2⟩
  · rintro ⟨s, h1, h2⟩
    exact ⟨s, h1, by simpa only [Bool.and_eq_true, decide_eq_true_eq] using h2⟩
theorem lay_select (Q P : Nat) (a b : Int) (w : World) (hq : w.cell? ⟨Q, 0, none⟩ = some (.pointer (some ⟨P, 0, none⟩))) (R : Value → World → Prop) (h : Calls Tryz.prog 90 #[.pointer (some ⟨P, 0, none⟩), .int .i64 a, .int .i64 b] w fun e w' => ∃ v, e = .returned v ∧ R v w') :
    Calls Tryz.prog 43 #[.pointer (some ⟨Q, 0, none⟩), .int .i64 a, .int .i64 b] w fun e w' => ∃ v, e = .returned v ∧ R v w' := by
  have H := hid h
  clear h
  go_enter Tryz.func43, Tryz.ntmps43
  go_wp2_with fail
  refine H.out.mono ?_
  rintro e w1 ⟨v, rfl, hr⟩
  have HR := hid hr
  clear hr
  go_wp2
  go_ret
  exact ⟨_, rfl, HR.out⟩
theorem snap91 (s : ByteArray) (n : Nat) (off : Int) (up : Bool) (w : World) (hend : Dec.Ends s n) (hs : s.size ≤ 100000) (ht : Cls.TabAt w 1 Tabs.kindTab) :
    Calls Tryz.prog 91 #[.string s, .int .i64 off, .bool up] w fun e w' => e = .returned (.int .i64 (snp (bnd s n) (s.size : Nat) off up)) ∧ Fr [] w w' := by
  have H86 := hid (Cls.fn25_any s w (by omega) ht)
  have HE := hid hend
  have HSN := hid (fun (Y : World) (g cap : Nat) (hc : ∀ j, j < (bnd s n).length → Y.cell? ⟨g, j, none⟩ = some (.int .i64 ((bnd s n).getD j 0))) => show Calls Tryz.prog 157 #[.slice (some ⟨g, 0, none⟩) (bnd s n).length cap, .int .i64 off, .bool up] Y fun e w' => e = .returned (.int .i64 (snp (bnd s n) (s.size : Nat) off up)) ∧ ∃ q, w' = Y.drewN q by
    have hr := rises_bnd HE.out
    obtain ⟨k, hk⟩ := cut_exists (min (max off 0) ((s.size : Nat) : Int)) (bnd s n) hr.sorted
    have h1 := Cls.fn35_any (bnd s n) _ hr off up k g cap Y (by omega) hk (by rw [bnd_length HE.out]; have := (bix_len s n).1; have := Dec.le_pos s n; have := HE.out.1; omega) hc
    rw [show k = cidx (bnd s n) (min (max off 0) ((s.size : Nat) : Int)) from (cut_count hk).symm] at h1
    exact h1)
  have HL := hid (rises_bnd hend).len
  generalize snp (bnd s n) (s.size : Nat) off up = sn at *
  clear ht hend
  go_enter Tryz.func91, Tryz.ntmps91
  go_wp2_with fail
  refine H86.out.mono ?_
  rintro e w1 ⟨n', v, he', rfl, own1, hb⟩
  have e := Dec.ends_unique he' HE.out
  subst e
  obtain ⟨g, cap, hv⟩ := owns_shape HL.out own1
  subst hv
  have HC := hid (HSN.out w1 g cap (fun j hj => by rw [own1.cellAt _ (by omega)]; exact ints64_at hj))
  have HF := hid (Fr.of_below (S := []) hb)
  clear own1 hb he' H86 HSN HL
  generalize (bnd s n').length = l at *
  go_wp2_with fail
  refine HC.out.mono ?_
  rintro e w2 ⟨rfl, q, rfl⟩
  go_wp2
  go_ret
  exact ⟨rfl, HF.out.drewN _⟩
theorem snap44 (s : ByteArray) (n : Nat) (off : Int) (up : Bool) (w : World) (hend : Dec.Ends s n) (hs : s.size ≤ 100000) (ht : Cls.TabAt w 1 Tabs.kindTab) :
    Calls Tryz.prog 44 #[.string s, .int .i64 off, .bool up] w fun e w' => e = .returned (.int .i64 (snp (bnd s n) (s.size : Nat) off up)) ∧ Fr [] w w' := by
  have H := hid (snap91 s n off up w hend hs ht)
  generalize snp (bnd s n) (s.size : Nat) off up = sn at *
  clear ht hend
  go_enter Tryz.func44, Tryz.ntmps44
  go_wp2_with fail
  refine H.out.mono ?_
  rintro e w1 ⟨rfl, hf⟩
  have HF := hid hf
  clear hf
  go_wp2
  go_ret
  exact ⟨rfl, HF.out⟩
end Go.Proofs.YtnakejhohdbfdabGreatDoor

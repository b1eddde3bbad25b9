import Derived.Test.YtnakejhohdbfdabGreatDoorKKpT
import Derived.Test.YtnakejhohdbfdabGreatDoorDrA
import Derived.Test.YtnakejhohdbfdabGreatDoorKQdO
import Derived.Test.YtnakejhohdbfdabGreatDoorDrC
namespace Go.Proofs.YtnakejhohdbfdabGreatDoor
open Go.RowKit Lev Lay Bnd

/-- What Whole asks of the lists that New lays. -/
structure WholeOk (Bd V X : List Int) (z : Int) (Ls : List Ln) : Prop where
  lv : ∀ i, 0 ≤ nth V i ∧ nth V i ≤ 11
  wd : ∀ i, 0 ≤ nth X i
  f0 : (lnN Ls 0).f = 0
  ft : ∀ j, j + 1 < Ls.length → (lnN Ls j).t = (lnN Ls (j + 1)).f
  tN : (lnN Ls (Ls.length - 1)).t = z
  x0 : ∀ j, j < Ls.length → nth (lnN Ls j).x 0 = 0
  xd : ∀ j, j < Ls.length → ∀ k, k < (lnN Ls j).o.length → nth (lnN Ls j).x (k + 1) - nth (lnN Ls j).x k = nth X (nix (lnN Ls j).o k)
  on : ∀ j, j < Ls.length → ∀ c ∈ (lnN Ls j).o, c < V.length ∧ (lnN Ls j).f ≤ nth Bd c ∧ nth Bd (c + 1) ≤ (lnN Ls j).t
  ap : ∀ j j', j < j' → j' < Ls.length → ∀ c ∈ (lnN Ls j').o, c ∉ (lnN Ls j).o
theorem wsum_nonneg {W : List Int} (hW : ∀ i, 0 ≤ nth W i) : ∀ d a, 0 ≤ wsum W a d
  | 0, _ => by simp [wsum]
  | d + 1, a => by have h1 := wsum_nonneg hW d; have h2 := hW a; unfold wsum; first | (have := h1 (a + 1); omega) | (have := h1 a; have := hW (a + d); omega)
theorem whole_pos {s : ByteArray} {n : Nat} (hend : Dec.Ends s n) (hn : 0 < n) {bs : Int} (hb : bs = 0 ∨ bs = 1) {W Br : List Int} (hW : ∀ i, 0 ≤ nth W i) (E : Edges s n Br) : WholeOk (bnd s n) (lvE s n bs Br) (wl s W n) (s.size : Nat) (lns s n bs W Br (Br.length + 1)) := by
  have hr := rises_bnd hend
  have hvl : (lvE s n bs Br).length = cn s n := by rw [lvE, lvs_len, ← cn_begs hn]
  have hxl : (wl s W n).length = cn s n := by rw [wl_len, ← cn_begs hn]
  have hbl : (bnd s n).length = cn s n + 1 := by have := (bix_len s n).2.1; rw [bnd_length hend]; unfold cn; omega
  have hle : ∀ j, j ≤ Br.length + 1 → eiOf s n Br j ≤ cn s n := E.le
  have hmo : ∀ i j, i < j → j ≤ Br.length + 1 → eiOf s n Br i < eiOf s n Br j := E.mono
  have hf : ∀ j, j < Br.length + 1 → (lnN (lns s n bs W Br (Br.length + 1)) j).f = nth (bnd s n) (eiOf s n Br j) := fun j hj => by
    have := hle j (by omega)
    rw [lns_at hj, bnd_nth hend (by rw [← bnd_length hend, hbl]; omega)]; rfl
  have ht : ∀ j, j < Br.length + 1 → (lnN (lns s n bs W Br (Br.length + 1)) j).t = nth (bnd s n) (eiOf s n Br (j + 1)) := fun j hj => by
    have := hle (j + 1) (by omega)
    rw [lns_at hj, bnd_nth hend (by rw [← bnd_length hend, hbl]; omega)]; rfl
  have hwx : ∀ k, k < cn s n → nth (wl s W n) k = wid W (nix (bix s n) k) (nix (bix s n) (k + 1)) := fun k hk => by
    have e : (clP (bnd s n) (lvE s n bs Br) (wl s W n) (cn s n))[k]? = (clst (Dec.pos s) (nix (bix s n)) (evOf s n bs Br) W (cn s n))[k]? := by rw [cls_same hend hn hb W Br]
    rw [clP_at _ _ _ hk, clst_at _ _ _ _ hk] at e
    exact congrArg (fun p => p.2.2.2) (Option.some.inj e)
  have hmono : ∀ a c, a ≤ c → c < (bnd s n).length → nth (bnd s n) a ≤ nth (bnd s n) c := fun a c h1 h2 => by
    rcases Nat.lt_or_eq_of_le h1 with h | h
    · have := rises_lt hr h h2; omega
    · rw [h]; omega
  refine ⟨fun i => ?_, fun i => ?_, ?_, fun j hj => ?_, ?_, fun j hj => ?_, fun j hj k hk => ?_, fun j hj c hc => ?_, fun j j' h1 h2 c hc hc' => ?_⟩
  · by_cases hi : i < cn s n
    · rw [lvE_ev hend hn hb W Br hi]
      exact elv_bound _ _ _ hb _ _
    · rw [nth_over (by omega)]; decide
  · by_cases hi : i < cn s n
    · rw [hwx i hi]; exact wsum_nonneg hW _ _
    · rw [nth_over (by omega)]; decide
  · rw [hf 0 (by omega), show eiOf s n Br 0 = 0 from E.e0]; exact rises_first hr
  · rw [lns_len] at hj
    rw [ht j (by omega), hf (j + 1) hj]
  · rw [lns_len, Nat.add_sub_cancel, ht _ (by omega), show eiOf s n Br (Br.length + 1) = cn s n from E.eN]
    have := rises_last hr
    rw [hbl, Nat.add_sub_cancel] at this
    exact this
  · rw [lns_len] at hj
    rw [lns_at hj]
    show nth (xs _ _ _) 0 = 0
    rw [xs_at _ _ (Nat.zero_le _)]; rfl
  · rw [lns_len] at hj
    have hm : nix (lnN (lns s n bs W Br (Br.length + 1)) j).o k < cn s n := by
      have h1 := nix_mem' hk
      rw [lns_at hj] at h1
      have h2 := lnOf_mem.1 h1
      have h3 := hle (j + 1) (by omega)
      rw [lns_at hj]
      omega
    rw [hwx _ hm]
    rw [lns_at hj] at hk ⊢
    have hol : (lnOf (Dec.pos s) (nix (bix s n)) (evOf s n bs Br) W (eiOf s n Br j) (eiOf s n Br (j + 1))).o.length = eiOf s n Br (j + 1) - eiOf s n Br j := by
      show ((ordD _ _).map _).length = _
      rw [List.length_map, ordD_len]
    rw [hol] at hk
    show nth (xs _ _ _) (k + 1) - nth (xs _ _ _) k = _
    rw [xs_at _ _ (show k + 1 ≤ _ from hk), xs_at _ _ (Nat.le_of_lt hk), xsum]
    have h : ∀ a c : Int, a + c - a = c := fun a c => by omega
    exact h _ _
  · rw [lns_len] at hj
    rw [lns_at hj] at hc
    have h2 := lnOf_mem.1 hc
    have h3 := hle (j + 1) (by omega)
    rw [hf j hj, ht j hj]
    exact ⟨by omega, hmono _ _ h2.1 (by omega), hmono _ _ h2.2 (by omega)⟩
  · rw [lns_len] at h2
    rw [lns_at h2] at hc
    rw [lns_at (by omega)] at hc'
    have a1 := lnOf_mem.1 hc
    have a2 := lnOf_mem.1 hc'
    rcases Nat.lt_or_eq_of_le (show j + 1 ≤ j' from h1) with h | h
    · have := hmo (j + 1) j' h (by omega); omega
    · rw [h] at a2; omega
theorem whole_nil : WholeOk [0] [] [] 0 [ln0] := by
  refine ⟨fun i => ?_, fun i => ?_, rfl, fun j hj => ?_, rfl, fun j hj => ?_, fun j hj k hk => ?_, fun j hj c hc => ?_, fun j j' h1 h2 => ?_⟩
  · rw [nth_over (by simp)]; decide
  · rw [nth_over (by simp)]; decide
  · simp at hj
  · obtain rfl : j = 0 := by simpa using hj
    rfl
  · obtain rfl : j = 0 := by simpa using hj
    exact absurd hk (Nat.not_lt_zero _)
  · obtain rfl : j = 0 := by simpa using hj
    exact absurd hc List.not_mem_nil
  · simp at h2; omega
/-- Whether a cluster has been seen: on a line ahead, or among the first k of line i. -/
def sn (Ls : List Ln) (i k c : Nat) : Bool := (List.range i).any (fun j => (lnN Ls j).o.contains c) || ((lnN Ls i).o.take k).contains c
def snL (Ls : List Ln) (n i k : Nat) : List Int := (List.range n).map (fun c => if sn Ls i k c then 1 else 0)
theorem snL_len (Ls : List Ln) (n i k : Nat) : (snL Ls n i k).length = n := by simp [snL]
theorem snL_at (Ls : List Ln) {n i k c : Nat} (h : c < n) : nth (snL Ls n i k) c = if sn Ls i k c then 1 else 0 := by simp [nth, snL, h]
theorem snL_zero (Ls : List Ln) (n : Nat) : snL Ls n 0 0 = List.replicate n 0 := by
  apply List.ext_getElem?
  intro c
  by_cases h : c < n
  · simp [snL, sn, h]
  · simp [snL, h]
theorem snL_next (Ls : List Ln) (n i : Nat) : snL Ls n i (lnN Ls i).o.length = snL Ls n (i + 1) 0 := by
  unfold snL
  congr 1
  funext c
  have e : sn Ls i (lnN Ls i).o.length c = sn Ls (i + 1) 0 c := by
    unfold sn
    rw [List.range_succ, List.any_append, List.take_length, List.take_zero]
    simp
  rw [e]
theorem snL_step {Bd V X : List Int} {z : Int} {Ls : List Ln} (O : WholeOk Bd V X z Ls) (hnd : ∀ i, i < Ls.length → (lnN Ls i).o.Nodup) {n i k : Nat} (hi : i < Ls.length) (hk : k < (lnN Ls i).o.length) (hn : nix (lnN Ls i).o k < n) :
    nth (snL Ls n i k) (nix (lnN Ls i).o k) = 0 ∧ snL Ls n i (k + 1) = (snL Ls n i k).set (nix (lnN Ls i).o k) 1 := by
  have hm := nix_mem' hk
  have hnot : sn Ls i k (nix (lnN Ls i).o k) = false := by
    unfold sn
    rw [Bool.or_eq_false_iff]
    constructor
    · rw [List.any_eq_false]
      intro j hj hc
      rw [List.mem_range] at hj
      exact O.ap j i hj hi _ hm (by simpa using hc)
    · rw [← Bool.not_eq_true]
      intro hc
      have hc2 : nix (lnN Ls i).o k ∈ (lnN Ls i).o.take k := by simpa using hc
      obtain ⟨t, ht, e⟩ := List.getElem_of_mem hc2
      rw [List.length_take] at ht
      rw [List.getElem_take] at e
      have hst := stands_nd (hnd i hi) hk
      exact hst.no t (by omega) (by rw [nix_eq (show t < (lnN Ls i).o.length by omega)]; exact e)
  refine ⟨by rw [snL_at Ls hn, hnot]; rfl, ?_⟩
  apply List.ext_getElem?
  intro c
  by_cases hc : c < n
  · rw [List.getElem?_set]
    by_cases he : nix (lnN Ls i).o k = c
    · rw [if_pos he, if_pos (by rw [snL_len]; omega)]
      have : sn Ls i (k + 1) c = true := by
        unfold sn
        rw [Bool.or_eq_true]
        right
        rw [List.contains_iff_mem, List.take_succ_eq_append_getElem hk, List.mem_append]
        right
        rw [← he, nix_eq hk]
        simp
      simp [snL, hc, this]
    · rw [if_neg he]
      have : sn Ls i (k + 1) c = sn Ls i k c := by
        unfold sn
        congr 1
        rw [nix_eq hk] at he
        rw [Bool.eq_iff_iff, List.contains_iff_mem, List.contains_iff_mem, List.take_succ_eq_append_getElem hk, List.mem_append]
        exact ⟨fun h => h.elim id (fun h => absurd (List.mem_singleton.1 h).symm he), .inl⟩
      simp [snL, hc, this]
  · rw [List.getElem?_eq_none (by rw [snL_len]; omega), List.getElem?_eq_none (by rw [List.length_set, snL_len]; omega)]
theorem snL_all {Bd V : List Int} {z : Int} {Ls : List Ln} (F : Fine Bd V z Ls) {c : Nat} (hc : c < V.length) : nth (snL Ls V.length Ls.length 0) c = 1 := by
  obtain ⟨i, hi, hm⟩ := F.has c hc
  have : sn Ls Ls.length 0 c = true := by
    unfold sn
    rw [Bool.or_eq_true]
    left
    rw [List.any_eq_true]
    exact ⟨i, List.mem_range.2 hi, by simpa using hm⟩
  rw [snL_at Ls hc, this]; rfl
theorem keep_four (s : ByteArray) (b : Int) (W Br : List Int) (n : Nat) (hend : Dec.Ends s n) (hBl : Br.length ≤ 5000) (hck : chk s n (clsOf s n) b W Br = 0) : ∃ Bd V X r bs Cs Ls, Twin s b W Br Bd V X r bs Cs Ls ∧ Tame Bd V Ls ∧ Fine Bd V (s.size : Nat) Ls ∧ (0 < V.length → Edges s n Br ∧ 0 < n ∧ (bs = 0 ∨ bs = 1) ∧ Bd = bnd s n ∧ V = lvE s n bs Br ∧ Ls = lns s n bs W Br (Br.length + 1)) ∧ (-1 ≤ r ∧ r ≤ 1) ∧ (V.length = 0 → Ls.length = 1) ∧ bs = baseOf (Kl s n) b ∧ r = 1 - 2 * bs ∧ (bs = 0 ∨ bs = 1) ∧ WholeOk Bd V X (s.size : Nat) Ls ∧ Ls.length = Br.length + 1 := by
  obtain ⟨hs, hb⟩ := chk_zero' hck
  obtain ⟨hWl, hw, hbr⟩ := chk_zero hend hs hb hck
  by_cases hn : 0 < n
  · have hE := edges_ok hend hn Br hbr
    have hn4 : n ≤ 400 := by have := Dec.le_pos s n; have := hend.1; omega
    have hcn : cn s n ≤ 400 := by have := bix_len s n; unfold cn; omega
    have hB4 : Br.length + 1 ≤ 400 := by
      have h1 := ei_ge hE (Br.length + 1) (Nat.le_refl _)
      have h2 := hE.le (Br.length + 1) (Nat.le_refl _)
      unfold eiOf at h1
      omega
    have hvl : (lvE s n (baseOf (Kl s n) b) Br).length = cn s n := by rw [lvE, lvs_len, ← cn_begs hn]
    have hc0 : 0 < cn s n := by
      have h1 := ei_ge hE (Br.length + 1) (Nat.le_refl _)
      have h2 := hE.le (Br.length + 1) (Nat.le_refl _)
      unfold eiOf at h1
      omega
    have hWB : ∀ i, 0 ≤ nth W i ∧ nth W i ≤ 1073741824 := fun i => by
      by_cases hi : i < n
      · exact wOk_at hw hi
      · rw [nth_over (by omega)]; decide
    refine ⟨bnd s n, lvE s n (baseOf (Kl s n) b) Br, wl s W n, 1 - 2 * baseOf (Kl s n) b, baseOf (Kl s n) b, clst (Dec.pos s) (nix (bix s n)) (evOf s n (baseOf (Kl s n) b) Br) W (cn s n), lns s n (baseOf (Kl s n) b) W Br (Br.length + 1), ?_, tame_pos hn hn4 (base_01 hb) hWB hE hcn, fine_pos hend hn hE, fun _ => ⟨hE, hn, base_01 hb, rfl, rfl, rfl⟩, by rcases base_01 (K := Kl s n) hb with h | h <;> rw [h] <;> decide, fun h => by rw [hvl] at h; omega, rfl, rfl, base_01 hb, whole_pos hend hn (base_01 hb) (fun i => (hWB i).1) hE, lns_len ..⟩
    exact {
      vx := by rw [hvl, wl_len, ← cn_begs hn]
      bd := by have := (bix_len s n).2.1; rw [hvl, bnd_length hend]; unfold cn; omega
      vl := by rw [hvl]; exact hcn
      cs := by rw [hvl]; exact cls_same hend hn (base_01 hb) W Br
      l0 := by rw [lns_len]; omega
      l1 := by rw [lns_len]; exact hB4
      ll := lns_small hE hcn _ W
      p := fun w vW vB hF h1 h2 => newP_pos s b vW vB W Br n w hs hb hF hend hn h1 h2 hBl hck }
  · obtain rfl : n = 0 := by omega
    have hs0 : s.size = 0 := hend.1.symm
    have hbr0 := br_nil hs0 hbr
    subst hbr0
    refine ⟨[0], [], [], 1 - 2 * baseOf [] b, baseOf [] b, [], [ln0], ?_, tame_nil, by rw [hs0]; exact fine_nil, fun h => absurd h (by decide), by rcases base_01 (K := []) hb with h | h <;> rw [h] <;> decide, fun _ => rfl, rfl, rfl, base_01 hb, by rw [hs0]; exact whole_nil, rfl⟩
    exact {
      vx := rfl
      bd := rfl
      vl := by decide
      cs := rfl
      l0 := by decide
      l1 := by decide
      ll := fun l hl => by rw [List.mem_singleton.1 hl]; decide
      p := fun w vW vB hF h1 h2 => newP_nil s b vW vB W [] w hs0 hb hF h1 h2 hck }
theorem cl_cell4 {w : World} {B c g cap : Nat} {Bd V X : List Int} (h : w.ownsRow B 67 4 (.slice (some ⟨g, 0, none⟩) c cap) c (clCells (clP Bd V X c))) {i : Nat} (hi : i < c) :
    w.cell? ⟨g, i * 4, none⟩ = some (.int .i64 (nth Bd i)) ∧ w.cell? ⟨g, i * 4 + 1, none⟩ = some (.int .i64 (nth Bd (i + 1))) ∧ w.cell? ⟨g, i * 4 + 2, none⟩ = some (.int .i64 (nth V i)) ∧ w.cell? ⟨g, i * 4 + 3, none⟩ = some (.int .i64 (nth X i)) := by
  have hl := h.1
  obtain ⟨a1, a2, a3, a4⟩ := clCells_at _ i _ (clP_at Bd V X hi)
  exact ⟨by rw [h.cellAt _ (by omega)]; exact a1, by rw [h.cellAt _ (by omega)]; exact a2, by rw [h.cellAt _ (by omega)]; exact a3, by rw [h.cellAt _ (by omega)]; exact a4⟩
/-- A line's cells, in the row of lines that is handed out, wherever the block gS alone was written. -/
theorem ln_cells {w4 w5 : World} {B U gN cN K gS : Nat} {hs : List Value} {Ls : List Ln} (h : w4.ownsRow B 72 4 (.slice (some ⟨gN, 0, none⟩) K cN) K hs) (hl : lnsAt w4 B U hs Ls) (hK : Ls.length = K) (hf5 : Fr [] w4 w5) (hgS : gS = w4.heap.size) (hx : ∀ j, j < K → 0 < (lnN Ls j).x.length) {j : Nat} (hj : j < K) :
    ∃ aO cO gX cX, (∀ Y, Fr [gS] w5 Y → Y.cell? ⟨gN, j * 4, none⟩ = some (.int .i64 (lnN Ls j).f) ∧ Y.cell? ⟨gN, j * 4 + 1, none⟩ = some (.int .i64 (lnN Ls j).t) ∧ Y.cell? ⟨gN, j * 4 + 2, none⟩ = some (.slice aO (lnN Ls j).o.length cO) ∧ Y.cell? ⟨gN, j * 4 + 3, none⟩ = some (.slice (some ⟨gX, 0, none⟩) (lnN Ls j).x.length cX) ∧ ∀ t, t < (lnN Ls j).x.length → Y.cell? ⟨gX, t, none⟩ = some (.int .i64 (nth (lnN Ls j).x t))) ∧
      (0 < (lnN Ls j).o.length → ∃ gO, aO = some ⟨gO, 0, none⟩ ∧ ∀ Y, Fr [gS] w5 Y → ∀ t, t < (lnN Ls j).o.length → Y.cell? ⟨gO, t, none⟩ = some (.int .i64 (nix (lnN Ls j).o t : Nat))) := by
  obtain ⟨vO, vX, a1, a2, a3, a4, a5, a6, _⟩ := hl j _ (lnN_get' (by omega))
  obtain ⟨aO, cO, rfl⟩ := owns_slice a5
  obtain ⟨gX, cX, rfl⟩ := owns_shape (hx j hj) a6
  have h1 := h.1
  have nS : ∀ {b : Nat}, b < w4.heap.size → b ∉ [gS] := fun hb hm => by have := List.mem_singleton.1 hm; omega
  have hN := (owns_at h).2
  have hX := (owns_at a6).2
  refine ⟨aO, cO, gX, cX, fun Y hf => ⟨?_, ?_, ?_, ?_, fun t ht => ?_⟩, fun ho => ?_⟩
  · exact hf.cell (hf5.cell (by rw [h.cellAt _ (by omega)]; exact a1) List.not_mem_nil) (nS hN)
  · exact hf.cell (hf5.cell (by rw [h.cellAt _ (by omega)]; exact a2) List.not_mem_nil) (nS hN)
  · exact hf.cell (hf5.cell (by rw [h.cellAt _ (by omega)]; exact a3) List.not_mem_nil) (nS hN)
  · exact hf.cell (hf5.cell (by rw [h.cellAt _ (by omega)]; exact a4) List.not_mem_nil) (nS hN)
  · exact hf.cell (hf5.cell (by rw [a6.cellAt _ (by omega)]; exact ints64_at ht) List.not_mem_nil) (nS hX)
  · obtain ⟨gO, cO', hv⟩ := owns_shape ho a5
    cases hv
    have hO := (owns_at a5).2
    exact ⟨gO, rfl, fun Y hf t ht => hf.cell (hf5.cell (owns_rowN a5 rfl t ht) List.not_mem_nil) (nS hO)⟩
end Go.Proofs.YtnakejhohdbfdabGreatDoor
namespace Go.Proofs.YtnakejhohdbfdabGreatDoor
open Go.RowKit Lev Lay Bnd

theorem snp_at {Bd : List Int} {z : Int} (hr : Rises Bd z) (off : Int) (up : Bool) : ∃ i, i < Bd.length ∧ snp Bd z off up = nth Bd i := by
  obtain ⟨k, hk⟩ := cut_exists (min (max off 0) z) Bd hr.sorted
  have hlt := hr.cut_lt hk (by omega)
  have e : cidx Bd (min (max off 0) z) = k := cut_count hk
  unfold snp snapL
  rw [e]
  split
  · exact ⟨k, hlt, rfl⟩
  · exact ⟨k - 1, by omega, rfl⟩
theorem askd_iff {Bd : List Int} {z : Int} (hr : Rises Bd z) (a b : Int) {c : Nat} (hc : c + 1 < Bd.length) :
    askd Bd z a b c = (decide (snp Bd z (min a b) false ≤ nth Bd c) && decide (nth Bd (c + 1) ≤ snp Bd z (max a b) true)) := by
  obtain ⟨i, hi, e1⟩ := snp_at hr (min a b) false
  obtain ⟨j, hj, e2⟩ := snp_at hr (max a b) true
  have m : ∀ u v, u < v → v < Bd.length → nth Bd u < nth Bd v := fun u v h1 h2 => rises_lt hr h1 h2
  unfold askd
  rw [e1, e2, cidx_of hr hi, cidx_of hr hj]
  congr 1
  · rw [decide_eq_decide]
    constructor
    · intro h
      rcases Nat.lt_or_eq_of_le h with h | h
      · have := m i c h (by omega); omega
      · rw [h]; exact Int.le_refl _
    · intro h
      by_cases h2 : i ≤ c
      · exact h2
      · have := m c i (by omega) hi; omega
  · rw [decide_eq_decide]
    constructor
    · intro h
      rcases Nat.lt_or_eq_of_le (show c + 1 ≤ j from h) with h | h
      · have := m (c + 1) j h hj; omega
      · rw [h]; exact Int.le_refl _
    · intro h
      by_cases h2 : c < j
      · exact h2
      · have := m j (c + 1) (by omega) hc; omega
theorem rises_zero {l : List Int} (h : Rises l 0) : l = [0] := by
  have h1 := h.len
  have h0 := h.head
  by_cases h2 : 1 < l.length
  · have h3 := rises_lt h (i := 0) (j := l.length - 1) (by omega) (by omega)
    rw [rises_first h, rises_last h] at h3
    omega
  · obtain ⟨x, rfl⟩ := List.length_eq_one_iff.1 (show l.length = 1 by omega)
    simp at h0
    rw [h0]
theorem bd_bnd {s : ByteArray} {n : Nat} {Bd V : List Int} {Ls : List Ln} (F : Fine Bd V (s.size : Nat) Ls) (hend : Dec.Ends s n) (h : 0 < V.length → Bd = bnd s n) : Bd = bnd s n := by
  by_cases h0 : 0 < V.length
  · exact h h0
  · have hl := F.bd
    have e := rises_last F.rs
    have e0 := rises_first F.rs
    rw [show Bd.length - 1 = 0 by omega, e0] at e
    have r1 := F.rs
    have r2 := rises_bnd hend
    rw [← e] at r1 r2
    rw [rises_zero r1, rises_zero r2]
/-- Whether one of the first j spans holds gap k of line i. -/
def inSp (M : List Spn) (i k j : Nat) : Bool := (M.take j).any fun s => decide (s.l = i) && (decide (s.f ≤ k) && decide (k < s.t))
theorem inSp_step {M : List Spn} {i k j : Nat} {s : Spn} (h : M[j]? = some s) : inSp M i k (j + 1) = (inSp M i k j || (decide (s.l = i) && (decide (s.f ≤ k) && decide (k < s.t)))) := by
  unfold inSp
  rw [List.take_add_one, h, List.any_append]
  simp
theorem inSp_all {Ls : List Ln} {f : Nat → Bool} {n : Nat} {M : List Spn} (h : SelOk Ls f n M) {i k : Nat} (hi : i < n) (hk : k < (lnN Ls i).o.length) : inSp M i k M.length = f (nix (lnN Ls i).o k) := by
  have e := h.has i k hi hk
  unfold inSp
  rw [List.take_length, Bool.eq_iff_iff, ← e, List.any_eq_true]
  constructor
  · rintro ⟨s, h1, h2⟩
    simp only [Bool.and_eq_true, decide_eq_true_eq] at h2
    exact ⟨s, h1, h2⟩
  · rintro ⟨s, h1, h2⟩
    exact ⟨s, h1, by simpa only [Bool.and_eq_true, decide_eq_true_eq] using h2⟩
theorem lay_select (Q P : Nat) (a b : Int) (w : World) (hq : w.cell? ⟨Q, 0, none⟩ = some (.pointer (some ⟨P, 0, none⟩))) (R : Value → World → Prop) (h : Calls Tryz.prog 90 #[.pointer (some ⟨P, 0, none⟩), .int .i64 a, .int .i64 b] w fun e w' => ∃ v, e = .returned v ∧ R v w') :
    Calls Tryz.prog 43 #[.pointer (some ⟨Q, 0, none⟩), .int .i64 a, .int .i64 b] w fun e w' => ∃ v, e = .returned v ∧ R v w' := by
  have H := hid h
  clear h
  go_enter Tryz.func43, Tryz.ntmps43
  go_wp2_with fail
  refine H.out.mono ?_
  rintro e w1 ⟨v, rfl, hr⟩
  have HR := hid hr
  clear hr
  go_wp2
  go_ret
  exact ⟨_, rfl, HR.out⟩
theorem snap91 (s : ByteArray) (n : Nat) (off : Int) (up : Bool) (w : World) (hend : Dec.Ends s n) (hs : s.size ≤ 100000) (ht : Cls.TabAt w 1 Tabs.kindTab) :
    Calls Tryz.prog 91 #[.string s, .int .i64 off, .bool up] w fun e w' => e = .returned (.int .i64 (snp (bnd s n) (s.size : Nat) off up)) ∧ Fr [] w w' := by
  have H86 := hid (Cls.fn25_any s w (by omega) ht)
  have HE := hid hend
  have HSN := hid (fun (Y : World) (g cap : Nat) (hc : ∀ j, j < (bnd s n).length → Y.cell? ⟨g, j, none⟩ = some (.int .i64 ((bnd s n).getD j 0))) => show Calls Tryz.prog 157 #[.slice (some ⟨g, 0, none⟩) (bnd s n).length cap, .int .i64 off, .bool up] Y fun e w' => e = .returned (.int .i64 (snp (bnd s n) (s.size : Nat) off up)) ∧ ∃ q, w' = Y.drewN q by
    have hr := rises_bnd HE.out
    obtain ⟨k, hk⟩ := cut_exists (min (max off 0) ((s.size : Nat) : Int)) (bnd s n) hr.sorted
    have h1 := Cls.fn35_any (bnd s n) _ hr off up k g cap Y (by omega) hk (by rw [bnd_length HE.out]; have := (bix_len s n).1; have := Dec.le_pos s n; have := HE.out.1; omega) hc
    rw [show k = cidx (bnd s n) (min (max off 0) ((s.size : Nat) : Int)) from (cut_count hk).symm] at h1
    exact h1)
  have HL := hid (rises_bnd hend).len
  generalize snp (bnd s n) (s.size : Nat) off up = sn at *
  clear ht hend
  go_enter Tryz.func91, Tryz.ntmps91
  go_wp2_with fail
  refine H86.out.mono ?_
  rintro e w1 ⟨n', v, he', rfl, own1, hb⟩
  have e := Dec.ends_unique he' HE.out
  subst e
  obtain ⟨g, cap, hv⟩ := owns_shape HL.out own1
  subst hv
  have HC := hid (HSN.out w1 g cap (fun j hj => by rw [own1.cellAt _ (by omega)]; exact ints64_at hj))
  have HF := hid (Fr.of_below (S := []) hb)
  clear own1 hb he' H86 HSN HL
  generalize (bnd s n').length = l at *
  go_wp2_with fail
  refine HC.out.mono ?_
  rintro e w2 ⟨rfl, q, rfl⟩
  go_wp2
  go_ret
  exact ⟨rfl, HF.out.drewN _⟩
theorem snap44 (s : ByteArray) (n : Nat) (off : Int) (up : Bool) (w : World) (hend : Dec.Ends s n) (hs : s.size ≤ 100000) (ht : Cls.TabAt w 1 Tabs.kindTab) :
    Calls Tryz.prog 44 #[.string s, .int .i64 off, .bool up] w fun e w' => e = .returned (.int .i64 (snp (bnd s n) (s.size : Nat) off up)) ∧ Fr [] w w' := by
  have H := hid (snap91 s n off up w hend hs ht)
  generalize snp (bnd s n) (s.size : Nat) off up = sn at *
  clear ht hend
  go_enter Tryz.func44, Tryz.ntmps44
  go_wp2_with fail
  refine H.out.mono ?_
  rintro e w1 ⟨rfl, hf⟩
  have HF := hid hf
  clear hf
  go_wp2
  go_ret
  exact ⟨rfl, HF.out⟩
end Go.Proofs.YtnakejhohdbfdabGreatDoor
namespace Go.Proofs.YtnakejhohdbfdabGreatDoor
open Go.RowKit Lev Lay Bnd

/-- A caret as it should be. -/
def Plc (Bd : List Int) (z : Int) (p : Int × Bool) : Prop := placeL Bd z p.1 p.2 = p
theorem plc_place {Bd : List Int} {z : Int} (h : Rises Bd z) (off : Int) (back : Bool) : Plc Bd z (placeL Bd z off back) := place_place h off back
theorem place_zero {Bd : List Int} {z : Int} (h : Rises Bd z) (hz : 0 ≤ z) : placeL Bd z 0 false = (0, false) := by
  have e : min (max (0 : Int) 0) z = 0 := by omega
  obtain ⟨k, hk⟩ := cut_exists (0 : Int) Bd h.sorted
  have hc : Bd.contains 0 = true := by
    have := h.head
    rw [List.contains_iff_mem]
    exact List.mem_of_getElem? this
  have hb : best Bd 0 Bd.length = 0 := by
    rw [snap_down h hk (by omega)]
    have hkk : k = cidx Bd 0 := (cut_count hk).symm
    unfold snapL
    rw [hc, hkk]
    exact (cidx_at h hc).2
  unfold placeL
  rw [e, hb]
  rfl
theorem norm_plc {Bd V : List Int} {z : Int} {Ls : List Ln} (F : Fine Bd V z Ls) (hz : 0 ≤ z) (hK : 0 < Ls.length) (line gap : Int) : Plc Bd z (normP Bd V Ls line gap) := by
  obtain ⟨i, hi, hiK⟩ := near_nat (x := line) (m := Ls.length - 1)
  have hi' : near line ((Ls.length : Int) - 1) = (i : Int) := by rw [← hi]; congr 1; omega
  have hiL : i < Ls.length := by omega
  obtain ⟨k, hk, hkK⟩ := near_nat (x := gap) (m := (lnN Ls i).o.length)
  have e : normP Bd V Ls line gap = normP Bd V Ls (i : Nat) (k : Nat) := by
    have n1 : near (i : Int) ((Ls.length : Int) - 1) = (i : Int) := by unfold near; split <;> (try split) <;> omega
    have n2 : near (k : Int) ((lnN Ls i).o.length : Int) = (k : Int) := by unfold near; split <;> (try split) <;> omega
    unfold normP
    rw [hi', n1]
    dsimp only [Int.toNat_natCast]
    rw [hk, n2]
  rw [e]
  by_cases h0 : 0 < V.length
  · exact (gap_norm F h0 hiL hkK).1
  · have ho : (lnN Ls i).o.length = 0 := by
      rcases Nat.eq_zero_or_pos (lnN Ls i).o.length with h | h
      · exact h
      · have := (F.on i hiL (nix (lnN Ls i).o 0) (nix_mem' h)).1
        omega
    have n1 : near (i : Int) ((Ls.length : Int) - 1) = (i : Int) := by unfold near; split <;> (try split) <;> omega
    have e2 : normP Bd V Ls (i : Nat) (k : Nat) = (0, false) := by
      unfold normP
      rw [n1]
      dsimp only [Int.toNat_natCast]
      rw [if_pos ho]
    rw [e2]
    exact place_zero F.rs hz
theorem hit_plc {Bd V : List Int} {z : Int} {Ls : List Ln} (F : Fine Bd V z Ls) (hz : 0 ≤ z) (hK : 0 < Ls.length) (line x : Int) : Plc Bd z (hitP Bd V Ls line x) := norm_plc F hz hK _ _
theorem mv_plc {Bd V : List Int} {z r : Int} {Ls : List Ln} (F : Fine Bd V z Ls) (hz : 0 ≤ z) (hK : 0 < Ls.length) (d off goal : Int) (back : Bool) : Plc Bd z (mvP Bd V z r Ls d off goal back) := by
  have p := plc_place F.rs off back
  have n := norm_plc F hz hK
  have h := hit_plc F hz hK
  have q := fun o b => plc_place F.rs o b
  unfold mvP
  dsimp only
  repeat' split
  all_goals first | with_reducible exact p | with_reducible exact n _ _ | with_reducible exact h _ _ | with_reducible exact q _ _
theorem plc_at {Bd : List Int} {z : Int} (h : Rises Bd z) {p : Int × Bool} (hp : Plc Bd z p) : ∃ j, j < Bd.length ∧ p.1 = nth Bd j := by
  obtain ⟨j, hj, e⟩ := best_mem h (min (max p.1 0) z) Bd.length (Nat.le_refl _)
  exact ⟨j, hj, by rw [e]; exact (congrArg Prod.fst hp).symm⟩
theorem snp_on {Bd : List Int} {z : Int} (h : Rises Bd z) {j : Nat} (hj : j < Bd.length) (up : Bool) : snp Bd z (nth Bd j) up = nth Bd j := by
  have h0 := rises_first h
  have h1 := rises_last h
  have hlo : 0 ≤ nth Bd j := by
    rcases Nat.eq_zero_or_pos j with e | e
    · rw [e, h0]; omega
    · have := rises_lt h e hj; omega
  have hhi : nth Bd j ≤ z := by
    rcases Nat.lt_or_eq_of_le (Nat.le_sub_one_of_lt hj) with e | e
    · have := rises_lt h e (by omega); omega
    · rw [e, h1]; omega
  have hc : Bd.contains (nth Bd j) = true := by
    rw [List.contains_iff_mem]
    unfold nth
    rw [List.getElem?_eq_getElem hj]
    exact List.getElem_mem _
  unfold snp snapL
  rw [show min (max (nth Bd j) 0) z = nth Bd j by omega, hc, Bool.true_or, if_pos rfl]
  exact (cidx_at h hc).2
theorem askd_none {Bd : List Int} {z : Int} (h : Rises Bd z) {j : Nat} (hj : j < Bd.length) (c : Nat) : askd Bd z (nth Bd j) (nth Bd j) c = false := by
  unfold askd
  rw [show min (nth Bd j) (nth Bd j) = nth Bd j by omega, show max (nth Bd j) (nth Bd j) = nth Bd j by omega, snp_on h hj, snp_on h hj, cidx_of h hj]
  by_cases hc : j ≤ c
  · rw [show decide (c < j) = false by simp; omega, Bool.and_false]
  · rw [show decide (j ≤ c) = false by simp; omega, Bool.false_and]
theorem parts_none {f : Nat → Bool} (hf : ∀ c, f c = false) (o : List Nat) : ∀ g, (partsTo f o g).1 = [] ∧ (partsTo f o g).2 = g
  | 0 => ⟨rfl, rfl⟩
  | g + 1 => by
    have ih := parts_none hf o g
    rw [partsTo_step, if_neg (fun h => by rw [hf] at h; exact absurd h.2 (by decide)), ih.1, ih.2]
    simp
theorem sel_none {f : Nat → Bool} (hf : ∀ c, f c = false) (Ls : List Ln) : ∀ n, selL Ls f n = []
  | 0 => rfl
  | n + 1 => by
    rw [selL, sel_none hf Ls n, show Lay.parts f (lnN Ls n).o = [] from (parts_none hf _ _).1]
    rfl
theorem sel_same {Bd V : List Int} {z : Int} {Ls : List Ln} (F : Fine Bd V z Ls) {p : Int × Bool} (hp : Plc Bd z p) (n : Nat) : selL Ls (askd Bd z p.1 p.1) n = [] := by
  obtain ⟨j, hj, e⟩ := plc_at F.rs hp
  exact sel_none (fun c => by rw [e]; exact askd_none F.rs hj c) Ls n
end Go.Proofs.YtnakejhohdbfdabGreatDoor
namespace Go.Proofs.YtnakejhohdbfdabGreatDoor
open Go.RowKit Lev Lay Bnd
theorem near_up {i L:Nat}(h:i+1<L):(near ((i:Int)+1) ((L:Int) - 1)).toNat=i+1:=by unfold near;split <;> (try split) <;> omega
theorem near_top {L:Nat}(h:0<L):(near (((L - 1:Nat):Int)+1) ((L:Int) - 1)).toNat=L - 1:=by unfold near;split <;> (try split) <;> omega
theorem near_down {i L:Nat}(h:i+1<L):(near (((i+1:Nat):Int) - 1) ((L:Int) - 1)).toNat=i:=by unfold near;split <;> (try split) <;> omega
theorem st_next {Bd V:List Int}{z r:Int}{Ls:List Ln}(h:Rises Bd z){i:Nat}(hi:i+1<Bd.length)(bk:Bool):mvP Bd V z r Ls 2 (nth Bd i) 0 bk=(nth Bd (i+1),true):=by
 have e:mvP Bd V z r Ls 2 (nth Bd i) 0 bk=placeL Bd z (nth Bd (near ((cidx Bd (placeL Bd z (nth Bd i) bk).1:Int)+1) ((Bd.length:Int) - 1)).toNat) true:=by simp[mvP]
 rw[e,place_bd h (by omega) bk];rw[cidx_of h (by omega),near_up hi,place_bd h hi true,if_neg (by omega)];by_cases h1:i+1=Bd.length - 1
 ·rw[if_pos h1]
 ·rw[if_neg h1]
theorem st_last {Bd V:List Int}{z r:Int}{Ls:List Ln}(h:Rises Bd z)(h0:0<Bd.length)(bk:Bool):mvP Bd V z r Ls 2 (nth Bd (Bd.length - 1)) 0 bk=placeL Bd z (nth Bd (Bd.length - 1)) bk:=by
 have e:mvP Bd V z r Ls 2 (nth Bd (Bd.length - 1)) 0 bk=placeL Bd z (nth Bd (near ((cidx Bd (placeL Bd z (nth Bd (Bd.length - 1)) bk).1:Int)+1) ((Bd.length:Int) - 1)).toNat) true:=by simp[mvP]
 rw[e,place_bd h (by omega) bk];rw[cidx_of h (by omega),near_top h0,place_bd h (by omega) true,if_pos rfl,if_pos rfl]
theorem st_prev {Bd V:List Int}{z r:Int}{Ls:List Ln}(h:Rises Bd z){i:Nat}(hi:i+1<Bd.length)(bk:Bool):(mvP Bd V z r Ls 3 (nth Bd (i+1)) 0 bk).1=nth Bd i:=by
 have e:mvP Bd V z r Ls 3 (nth Bd (i+1)) 0 bk=placeL Bd z (nth Bd (near ((cidx Bd (placeL Bd z (nth Bd (i+1)) bk).1:Int) - 1) ((Bd.length:Int) - 1)).toNat) false:=by simp[mvP]
 rw[e,place_bd h (by omega) bk];rw[cidx_of h hi,near_down hi,place_bd h (by omega) false]
theorem st_ends {s:ByteArray}{n:Nat}(hend:Dec.Ends s n){bs:Int}{W Br:List Int}(E:Edges s n Br){k:Nat}(hk:k<Br.length+1) :
 (∃a,a<(bnd s n).length∧(lnN (lns s n bs W Br (Br.length+1)) k).f=nth (bnd s n) a)∧(∃a,a<(bnd s n).length∧(lnN (lns s n bs W Br (Br.length+1)) k).t=nth (bnd s n) a):=by
 have hbl:(bnd s n).length=cn s n+1:=by have:=(bix_len s n).2.1;rw[bnd_length hend];unfold cn;omega
 have h1:eiOf s n Br k≤cn s n:=E.le k (by omega);have h2:eiOf s n Br (k+1)≤cn s n:=E.le (k+1) (by omega);refine⟨⟨eiOf s n Br k,by omega,?_⟩,⟨eiOf s n Br (k+1),by omega,?_⟩⟩
 ·rw[lns_at hk,bnd_nth hend (by rw[←bnd_length hend,hbl];omega)];rfl
 ·rw[lns_at hk,bnd_nth hend (by rw[←bnd_length hend,hbl];omega)];rfl
theorem st_home {Bd V:List Int}{z r:Int}{Ls:List Ln}(h:Rises Bd z)(off:Int)(bk:Bool){a:Nat}(ha:a<Bd.length)(e:(lnN Ls (gapL Bd V z Ls off bk).1).f=nth Bd a):(mvP Bd V z r Ls 4 off 0 bk).1=(lnN Ls (gapL Bd V z Ls off bk).1).f:=by
 have e1:mvP Bd V z r Ls 4 off 0 bk=placeL Bd z (lnN Ls (gapL Bd V z Ls off bk).1).f false:=by simp[mvP]
 rw[e1,e,place_bd h ha]
theorem st_end {Bd V:List Int}{z r:Int}{Ls:List Ln}(h:Rises Bd z)(off:Int)(bk:Bool){a:Nat}(ha:a<Bd.length)(e:(lnN Ls (gapL Bd V z Ls off bk).1).t=nth Bd a):(mvP Bd V z r Ls 5 off 0 bk).1=(lnN Ls (gapL Bd V z Ls off bk).1).t:=by
 have e1:mvP Bd V z r Ls 5 off 0 bk=placeL Bd z (lnN Ls (gapL Bd V z Ls off bk).1).t true:=by simp[mvP]
 rw[e1,e,place_bd h ha]
theorem keep_two (s:ByteArray)(b:Int)(W Br:List Int)(n:Nat)(hend:Dec.Ends s n)(hBl:Br.length≤5000)(hck:chk s n (clsOf s n) b W Br=0):∃Bd V X r bs Cs Ls,Twin s b W Br Bd V X r bs Cs Ls∧Tame Bd V Ls∧Fine Bd V (s.size:Nat) Ls∧(0<V.length→Edges s n Br∧0<n∧(bs=0∨bs=1)∧Bd=bnd s n∧V=lvE s n bs Br∧Ls=lns s n bs W Br (Br.length+1))∧Bd=bnd s n∧(-1≤r∧r≤1):=by
 obtain⟨hs,hb⟩:=chk_zero' hck;obtain⟨hWl,hw,hbr⟩:=chk_zero hend hs hb hck;by_cases hn:0<n
 ·have hE:=edges_ok hend hn Br hbr
  have hn4:n≤400:=by have:=Dec.le_pos s n;have:=hend.1;omega
  have hcn:cn s n≤400:=by have:=bix_len s n;unfold cn;omega
  have hB4:Br.length+1≤400:=by
   have h1:=ei_ge hE (Br.length+1) (Nat.le_refl _);have h2:=hE.le (Br.length+1) (Nat.le_refl _);unfold eiOf at h1;omega
  have hvl:(lvE s n (baseOf (Kl s n) b) Br).length=cn s n:=by rw[lvE,lvs_len,←cn_begs hn]
  have hWB:∀i,0≤nth W i∧nth W i≤1073741824:=fun i=>by
   by_cases hi:i<n
   ·exact wOk_at hw hi
   ·rw[nth_over (by omega)];decide
  refine⟨bnd s n,lvE s n (baseOf (Kl s n) b) Br,wl s W n,1 - 2 * baseOf (Kl s n) b,baseOf (Kl s n) b,clst (Dec.pos s) (nix (bix s n)) (evOf s n (baseOf (Kl s n) b) Br) W (cn s n),lns s n (baseOf (Kl s n) b) W Br (Br.length+1),?_,tame_pos hn hn4 (base_01 hb) hWB hE hcn,fine_pos hend hn hE,fun _=>⟨hE,hn,base_01 hb,rfl,rfl,rfl⟩,rfl,by rcases base_01 (K:=Kl s n) hb with h | h <;> rw[h] <;> decide⟩
  exact {
   vx:=by rw[hvl,wl_len,←cn_begs hn]
   bd:=by have:=(bix_len s n).2.1;rw[hvl,bnd_length hend];unfold cn;omega
   vl:=by rw[hvl];exact hcn
   cs:=by rw[hvl];exact cls_same hend hn (base_01 hb) W Br
   l0:=by rw[lns_len];omega
   l1:=by rw[lns_len];exact hB4
   ll:=lns_small hE hcn _ W
   p:=fun w vW vB hF h1 h2=>newP_pos s b vW vB W Br n w hs hb hF hend hn h1 h2 hBl hck }
 ·obtain rfl:n=0:=by omega
  have hs0:s.size=0:=hend.1.symm;have hbr0:=br_nil hs0 hbr;subst hbr0;refine⟨[0],[],[],1 - 2 * baseOf [] b,baseOf [] b,[],[ln0],?_,tame_nil,by rw[hs0];exact fine_nil,fun h=>absurd h (by decide),by simp[bnd,hs0,bndTo],by rcases base_01 (K:=[]) hb with h | h <;> rw[h] <;> decide⟩
  exact {
   vx:=rfl
   bd:=rfl
   vl:=by decide
   cs:=rfl
   l0:=by decide
   l1:=by decide
   ll:=fun l hl=>by rw[List.mem_singleton.1 hl];decide
   p:=fun w vW vB hF h1 h2=>newP_nil s b vW vB W [] w hs0 hb hF h1 h2 hck }
structure KM (Q:Nat)(w:World)(Bd V:List Int)(z r:Int)(Ls:List Ln):Prop where
 place:∀Y,Fr [] w Y→∀off back,Calls Tryz.prog 39 #[.pointer (some ⟨Q,0,none⟩),.agg #[.int .i64 off,.bool back]] Y fun e w'=>e=.returned (.agg #[.int .i64 (placeL Bd z off back).1,.bool (placeL Bd z off back).2])∧Fr [] Y w'
 norm:∀Y,Fr [] w Y→∀line gap,Calls Tryz.prog 35 #[.pointer (some ⟨Q,0,none⟩),.agg #[.int .i64 line,.int .i64 gap]] Y fun e w'=>e=.returned (.agg #[.int .i64 (normP Bd V Ls line gap).1,.bool (normP Bd V Ls line gap).2])∧Fr [] Y w'
 move:∀Y,Fr [] w Y→∀d off back R,R=mvP Bd V z r Ls d off 0 back→Calls Tryz.prog 37 #[.pointer (some ⟨Q,0,none⟩),.int .i64 d,.agg #[.int .i64 off,.bool back],.int .i64 0] Y fun e w'=>e=.returned (.tuple #[.agg #[.int .i64 R.1,.bool R.2],.bool (!(decide (R.1=(placeL Bd z off back).1∧R.2=(placeL Bd z off back).2)))])∧Fr [] Y w'
theorem KM.of {Q P B:Nat}{w:World}{Bd V X:List Int}{r z:Int}{Ls:List Ln}{v0 v1 v2 vL:Value}{hs:List Value}(hQ:w.heap[Q]?=some (.cells #[.pointer (some ⟨P,0,none⟩)] 143 (0,0)))(h:LP w B P Bd V X r Ls v0 v1 v2 vL hs)(F:Fine Bd V z Ls)(hz:0≤z)(T:Tame Bd V Ls)(hr:-1≤r∧r≤1)(hbd:Bd.length=V.length+1)(hv4:V.length≤400)(hK0:0<Ls.length)(hK:Ls.length≤400)(hll:∀l∈Ls,l.o.length≤1000∧l.x.length≤1001):KM Q w Bd V z r Ls:=by
 have hlo:∀l∈Ls,l.o.length≤1000:=fun l hl=>(hll l hl).1
 have hq:∀Y,Fr [] w Y→Y.cell? ⟨Q,0,none⟩=some (.pointer (some ⟨P,0,none⟩)):=fun Y hf=>obj_cell (obj_fr hQ hf List.not_mem_nil) rfl
 have hl:∀Y,Fr [] w Y→LP Y B P Bd V X r Ls v0 v1 v2 vL hs:=fun Y hf=>h.fr hf (fun k hk=>absurd hk List.not_mem_nil)
 refine⟨fun Y hf off back=>?_,fun Y hf line gap=>?_,fun Y hf d off back R hR=>?_⟩
 ·exact placeC_any Q P off _ back _ Y (hq Y hf) (fun Z hZ=>placeP_any B P Bd V X r z Ls v0 v1 v2 vL hs off back Z (hl Z (hf.trans hZ)) F.rs hz (by omega))
 ·exact normC_any Q P line gap _ _ Y (hq Y hf) (fun Z hZ=>normP_any B P Bd V X r Ls v0 v1 v2 vL hs line gap Z (hl Z (hf.trans hZ)) T hbd hv4 hK0 hK hlo)
 ·exact moveC_any Q P d off 0 _ back _ _ Y (hq Y hf) (fun Z hZ=>moveP_any B P Bd V X r z Ls v0 v1 v2 vL hs d off 0 back Z (hl Z (hf.trans hZ)) F hz T hr hv4 hK0 hK hlo R hR)
theorem clusters38 (s:ByteArray)(n:Nat)(w:World)(hend:Dec.Ends s n)(hs:s.size≤1000000)(ht:Cls.TabAt w 1 Tabs.kindTab) :
 Calls Tryz.prog 38 #[.string s] w fun e w'=>∃v,e=.returned v∧w'.ownsRow w.heap.size 3 1 v (bnd s n).length (ints64 (bnd s n))∧Fr [] w w':=by
 have H86:=hid (Cls.fn25_any s w hs ht);have HE:=hid hend;clear ht hend;go_enter Tryz.func38,Tryz.ntmps38;go_wp2_with fail;refine H86.out.mono ?_;rintro e w1 ⟨n',v,he',rfl,own1,hb⟩;have e:=Dec.ends_unique he' HE.out;subst e;have HO:=hid own1;have HF:=hid (Fr.of_below (S:=[]) hb);clear own1 hb he' H86;go_wp2;go_ret;exact⟨_,rfl,HO.out,HF.out⟩
end Go.Proofs.YtnakejhohdbfdabGreatDoor
namespace Go.Proofs.YtnakejhohdbfdabGreatDoor
open Go.RowKit Lev Lay Bnd

/-- The layout's answers at a caret, in whatever world. -/
structure Ans (w0 : World) (P : Nat) (g1 g2 : Int → Bool → Int) (gx : Int → Bool → Int) (Sel : Int → Int → List Spn) : Prop where
  gap : ∀ o b Y, Fr [] w0 Y → Calls Tryz.prog 84 #[.pointer (some ⟨P, 0, none⟩), .agg #[.int .i64 o, .bool b]] Y fun e w' => e = .returned (.agg #[.int .i64 (g1 o b), .int .i64 (g2 o b)]) ∧ Fr [] Y w'
  x : ∀ o b Y, Fr [] w0 Y → Calls Tryz.prog 89 #[.pointer (some ⟨P, 0, none⟩), .agg #[.int .i64 o, .bool b]] Y fun e w' => e = .returned (.int .i64 (gx o b)) ∧ Fr [] Y w'
  sel : ∀ a o Y, Fr [] w0 Y → Calls Tryz.prog 90 #[.pointer (some ⟨P, 0, none⟩), .int .i64 a, .int .i64 o] Y fun e w' => ∃ v, e = .returned v ∧ w'.ownsRow Y.heap.size 90 5 v (Sel a o).length (spCells (Sel a o)) ∧ Fr [] Y w'
theorem me1 (d : Int) (w : World) : (method 572 345 (.int .i64 d) "caret/sessions.aims").run Tryz.prog w = .ok (375, .int .i64 d) w := by kernel_rfl
theorem me2 (d : Int) (w : World) : (method 572 346 (.int .i64 d) "caret/sessions.aims").run Tryz.prog w = .ok (376, .int .i64 d) w := by kernel_rfl
theorem me3 (v : Value) (w : World) : (method 572 348 v "caret/sessions.aims").run Tryz.prog w = .ok (377, v) w := by kernel_rfl
theorem me4 (v : Value) (w : World) : (method 572 349 v "caret/sessions.aims").run Tryz.prog w = .ok (378, v) w := by kernel_rfl
theorem fr_ses {w0 w Y : World} {Z : Nat} (h : Fr [] w0 w) (hf : Fr [Z] w Y) (hZ : w0.heap.size ≤ Z) : Fr [] w0 Y :=
  ((h.mono (fun _ h _ => absurd h List.not_mem_nil) : Fr [Z] w0 w).trans hf).mono (fun x hx hlt => by have := List.mem_singleton.1 hx; omega)
theorem Ans.state {w0 : World} {P : Nat} {g1 g2 gx : Int → Bool → Int} {Sel : Int → Int → List Spn} (A : Ans w0 P g1 g2 gx Sel) (Z : Nat) (ao fo goal : Int) (ab fb aim moved : Bool) (w : World) (hw : Fr [] w0 w) (hZ : w.heap[Z]? = some (.cells (sesC P ao ab fo fb aim goal) 240 (0, 0))) :
    Calls Tryz.prog 108 #[.pointer (some ⟨Z, 0, none⟩), .bool moved] w fun e w' => ∃ v, e = .returned (.agg (stC ao ab fo fb (g1 fo fb) (g2 fo fb) (gx fo fb) (g1 fo true) (g2 fo true) (g1 fo false) (g2 fo false) v moved)) ∧ w'.ownsRow w.heap.size 90 5 v (Sel ao fo).length (spCells (Sel ao fo)) ∧ Fr [] w w' :=
  state_any Z P ao fo goal _ _ _ _ _ _ _ ab fb aim moved _ w hZ (fun Y hf => A.gap fo fb Y (hw.trans hf)) (fun Y hf => A.x fo fb Y (hw.trans hf)) (fun Y hf => A.gap fo true Y (hw.trans hf)) (fun Y hf => A.gap fo false Y (hw.trans hf)) (fun Y hf => A.sel ao fo Y (hw.trans hf))
set_option maxRecDepth 10000 in
set_option maxHeartbeats 4000000 in
theorem do_none {w0 : World} {P : Nat} {g1 g2 gx : Int → Bool → Int} {Sel : Int → Int → List Spn} (A : Ans w0 P g1 g2 gx Sel) (Z : Nat) (ao fo goal d a x : Int) (ab fb aim ext bk : Bool) (t : ByteArray) (w : World) (hw : Fr [] w0 w) (hZ : w.heap[Z]? = some (.cells (sesC P ao ab fo fb aim goal) 240 (0, 0))) (hd : d < 0 ∨ 9 < d) :
    Calls Tryz.prog 95 #[.pointer (some ⟨Z, 0, none⟩), opV d ext a x bk t] w fun e w' => ∃ v, e = .returned (.agg (stC ao ab fo fb (g1 fo fb) (g2 fo fb) (gx fo fb) (g1 fo true) (g2 fo true) (g1 fo false) (g2 fo false) v false)) ∧ w'.ownsRow w.heap.size 90 5 v (Sel ao fo).length (spCells (Sel ao fo)) ∧ w'.heap[Z]? = some (.cells (sesC P ao ab fo fb aim goal) 240 (0, 0)) ∧ Fr [Z] w w' := by
  have HZ := hid hZ
  have HD := hid (fun Y => deed_none d a x ext bk t Y hd)
  have HST := hid (fun (Y : World) (hf : Fr [] w Y) => A.state Z ao fo goal ab fb aim false Y (hw.trans hf) (obj_fr hZ hf List.not_mem_nil))
  generalize g1 fo fb = a1 at *
  generalize g2 fo fb = a2 at *
  generalize gx fo fb = x1 at *
  generalize g1 fo true = b1 at *
  generalize g2 fo true = b2 at *
  generalize g1 fo false = c1 at *
  generalize g2 fo false = c2 at *
  generalize Sel ao fo = M at *
  obtain ⟨w2, hw2⟩ : ∃ w2, w2 = (w.alloc (.cells #[.int .i64 d, .bool ext, .int .i64 a, .int .i64 x, .bool bk, .string t] 33)).alloc (.cells #[.int .i64 0, .bool false, .int .i64 0, .bool false, .int .i64 0, .int .i64 0, .int .i64 0, .int .i64 0, .int .i64 0, .int .i64 0, .int .i64 0, .slice none 0 0, .bool false] 40) := ⟨_, rfl⟩
  have HF2 := hid (show Fr [] w w2 by rw [hw2]; exact ((Fr.refl [] w).alloc _).alloc _)
  have HO2 := hid (show w2.heap[w.heap.size]? = some (.cells #[.int .i64 d, .bool ext, .int .i64 a, .int .i64 x, .bool bk, .string t] 33 (0, 0)) by rw [hw2]; exact obj_fr (obj_new w _) ((Fr.refl [] _).alloc _) List.not_mem_nil)
  have HR2 := hid (show w2.heap[w.heap.size + 1]? = some (.cells #[.int .i64 0, .bool false, .int .i64 0, .bool false, .int .i64 0, .int .i64 0, .int .i64 0, .int .i64 0, .int .i64 0, .int .i64 0, .int .i64 0, .slice none 0 0, .bool false] 40 (0, 0)) by
    have hs : (w.alloc (.cells #[.int .i64 d, .bool ext, .int .i64 a, .int .i64 x, .bool bk, .string t] 33)).heap.size = w.heap.size + 1 := by simp
    have h0 := obj_new (w.alloc (.cells #[.int .i64 d, .bool ext, .int .i64 a, .int .i64 x, .bool bk, .string t] 33)) (.cells #[.int .i64 0, .bool false, .int .i64 0, .bool false, .int .i64 0, .int .i64 0, .int .i64 0, .int .i64 0, .int .i64 0, .int .i64 0, .int .i64 0, .slice none 0 0, .bool false] 40)
    rw [hs] at h0
    rw [hw2]; exact h0)
  have hZl := obj_lt HZ.out
  clear A hw hZ hd
  go_enter Tryz.func95, Tryz.ntmps95
  go_wp2_with fail
  rw [← hw2]
  clear hw2
  refine (HD.out w2).mono ?_
  rintro e w3 ⟨rfl, hf3⟩
  have HF3 := hid (HF2.out.trans hf3)
  have HR3 := hid (obj_fr HR2.out hf3 List.not_mem_nil)
  clear hf3
  go_wp2_with fail
  refine (HST.out w3 HF3.out).mono ?_
  rintro e w4 ⟨vS, rfl, own4, hf4⟩
  obtain ⟨aS, cS, hvS⟩ := owns_slice own4
  subst hvS
  have HON := hid own4
  have HRN := hid (obj_fr HR3.out hf4 List.not_mem_nil)
  have HGN := hid (show Fr [Z] w w4 from (HF3.out.trans hf4).mono (fun _ h _ => absurd h List.not_mem_nil))
  have HZN := hid (obj_fr HZ.out (HF3.out.trans hf4) List.not_mem_nil)
  have hlow := obj_lt HR3.out
  have HLOW := hid (show w.heap.size ≤ w3.heap.size by omega)
  obtain ⟨nS, hnS⟩ : ∃ nS, nS = M.length := ⟨_, rfl⟩
  have HNS := hid hnS
  rw [← hnS] at HON ⊢
  clear own4 hf4 HST HD hnS
  have r0 := obj_cell HRN.out (i := 0) (v := .int .i64 0) rfl
  have k0 := obj_froz HRN.out 0
  have r1 := obj_cell HRN.out (i := 1) (v := .bool false) rfl
  have k1 := obj_froz HRN.out 1
  have r2 := obj_cell HRN.out (i := 2) (v := .int .i64 0) rfl
  have k2 := obj_froz HRN.out 2
  have r3 := obj_cell HRN.out (i := 3) (v := .bool false) rfl
  have k3 := obj_froz HRN.out 3
  have r4 := obj_cell HRN.out (i := 4) (v := .int .i64 0) rfl
  have k4 := obj_froz HRN.out 4
  have r5 := obj_cell HRN.out (i := 5) (v := .int .i64 0) rfl
  have k5 := obj_froz HRN.out 5
  have r6 := obj_cell HRN.out (i := 6) (v := .int .i64 0) rfl
  have k6 := obj_froz HRN.out 6
  have r7 := obj_cell HRN.out (i := 7) (v := .int .i64 0) rfl
  have k7 := obj_froz HRN.out 7
  have r8 := obj_cell HRN.out (i := 8) (v := .int .i64 0) rfl
  have k8 := obj_froz HRN.out 8
  have r9 := obj_cell HRN.out (i := 9) (v := .int .i64 0) rfl
  have k9 := obj_froz HRN.out 9
  have r10 := obj_cell HRN.out (i := 10) (v := .int .i64 0) rfl
  have k10 := obj_froz HRN.out 10
  have r11 := obj_cell HRN.out (i := 11) (v := .slice none 0 0) rfl
  have k11 := obj_froz HRN.out 11
  have r12 := obj_cell HRN.out (i := 12) (v := .bool false) rfl
  have k12 := obj_froz HRN.out 12
  have HKK := hid (Fr.set_new (b := w.heap.size + 1) (i := 12) (v := .bool false) (Fr.set_new (b := w.heap.size + 1) (i := 11) (v := .slice aS nS cS) (Fr.set_new (b := w.heap.size + 1) (i := 10) (v := .int .i64 c2) (Fr.set_new (b := w.heap.size + 1) (i := 9) (v := .int .i64 c1) (Fr.set_new (b := w.heap.size + 1) (i := 8) (v := .int .i64 b2) (Fr.set_new (b := w.heap.size + 1) (i := 7) (v := .int .i64 b1) (Fr.set_new (b := w.heap.size + 1) (i := 6) (v := .int .i64 x1) (Fr.set_new (b := w.heap.size + 1) (i := 5) (v := .int .i64 a2) (Fr.set_new (b := w.heap.size + 1) (i := 4) (v := .int .i64 a1) (Fr.set_new (b := w.heap.size + 1) (i := 3) (v := .bool fb) (Fr.set_new (b := w.heap.size + 1) (i := 2) (v := .int .i64 fo) (Fr.set_new (b := w.heap.size + 1) (i := 1) (v := .bool ab) (Fr.set_new (b := w.heap.size + 1) (i := 0) (v := .int .i64 ao) HGN.out (Nat.le_succ _)) (Nat.le_succ _)) (Nat.le_succ _)) (Nat.le_succ _)) (Nat.le_succ _)) (Nat.le_succ _)) (Nat.le_succ _)) (Nat.le_succ _)) (Nat.le_succ _)) (Nat.le_succ _)) (Nat.le_succ _)) (Nat.le_succ _)) (Nat.le_succ _))
  have HSF := hid (Fr.set (b := w.heap.size + 1) (i := 12) (Fr.set (b := w.heap.size + 1) (i := 11) (Fr.set (b := w.heap.size + 1) (i := 10) (Fr.set (b := w.heap.size + 1) (i := 9) (Fr.set (b := w.heap.size + 1) (i := 8) (Fr.set (b := w.heap.size + 1) (i := 7) (Fr.set (b := w.heap.size + 1) (i := 6) (Fr.set (b := w.heap.size + 1) (i := 5) (Fr.set (b := w.heap.size + 1) (i := 4) (Fr.set (b := w.heap.size + 1) (i := 3) (Fr.set (b := w.heap.size + 1) (i := 2) (Fr.set (b := w.heap.size + 1) (i := 1) (Fr.set (b := w.heap.size + 1) (i := 0) (Fr.refl [w.heap.size + 1] w4) (List.mem_singleton.2 rfl) (.int .i64 ao)) (List.mem_singleton.2 rfl) (.bool ab)) (List.mem_singleton.2 rfl) (.int .i64 fo)) (List.mem_singleton.2 rfl) (.bool fb)) (List.mem_singleton.2 rfl) (.int .i64 a1)) (List.mem_singleton.2 rfl) (.int .i64 a2)) (List.mem_singleton.2 rfl) (.int .i64 x1)) (List.mem_singleton.2 rfl) (.int .i64 b1)) (List.mem_singleton.2 rfl) (.int .i64 b2)) (List.mem_singleton.2 rfl) (.int .i64 c1)) (List.mem_singleton.2 rfl) (.int .i64 c2)) (List.mem_singleton.2 rfl) (.slice aS nS cS)) (List.mem_singleton.2 rfl) (.bool false))
  have HO7 := hid (owns_low (owns_fr HON.out HSF.out (fun g hg hm => by have h2 := List.mem_singleton.1 hm; have h3 := (HON.out.lt g hg).1; omega)) HLOW.out)
  have HZ7 := hid (obj_fr HZN.out HSF.out (fun hm => by have h2 := List.mem_singleton.1 hm; omega))
  go_wp2
  refine bodyPost_ret (results_cell_row (t := 40) (fr := (0, 0)) rfl _ _ (w.heap.size + 1) _ _ rfl (obj_set (obj_set (obj_set (obj_set (obj_set (obj_set (obj_set (obj_set (obj_set (obj_set (obj_set (obj_set (obj_set HRN.out 0 _) 1 _) 2 _) 3 _) 4 _) 5 _) 6 _) 7 _) 8 _) 9 _) 10 _) 11 _) 12 _) Tryz.underlying40 rfl (by kernel_rfl)) rfl ?_
  exact ⟨.slice aS nS cS, by simp, by rw [← HNS.out]; exact HO7.out, HZ7.out, HKK.out⟩
set_option maxRecDepth 10000 in
set_option maxHeartbeats 4000000 in
theorem do_step {w0 : World} {P : Nat} {g1 g2 gx : Int → Bool → Int} {Sel : Int → Int → List Spn} (A : Ans w0 P g1 g2 gx Sel) (Z : Nat) (ao fo goal d a x ta : Int) (ab fb aim ext bk tb m : Bool) (t : ByteArray) (w : World) (hw : Fr [] w0 w) (hZ0 : w0.heap.size ≤ Z) (hZ : w.heap[Z]? = some (.cells (sesC P ao ab fo fb aim goal) 240 (0, 0))) (hd : d = 0 ∨ d = 1 ∨ d = 2 ∨ d = 3 ∨ d = 4 ∨ d = 5)
    (hT : ∀ Y, Fr [] w0 Y → Calls Tryz.prog 85 #[.pointer (some ⟨P, 0, none⟩), .int .i64 d, .agg #[.int .i64 fo, .bool fb], .int .i64 0] Y fun e w' => e = .returned (.tuple #[.agg #[.int .i64 ta, .bool tb], .bool m]) ∧ Fr [] Y w') :
    Calls Tryz.prog 95 #[.pointer (some ⟨Z, 0, none⟩), opV d ext a x bk t] w fun e w' => ∃ v, e = .returned (.agg (stC (if ext then ao else ta) (if ext then ab else tb) ta tb (g1 ta tb) (g2 ta tb) (gx ta tb) (g1 ta true) (g2 ta true) (g1 ta false) (g2 ta false) v m)) ∧ w'.ownsRow w.heap.size 90 5 v (Sel (if ext then ao else ta) ta).length (spCells (Sel (if ext then ao else ta) ta)) ∧ w'.heap[Z]? = some (.cells (sesC P (if ext then ao else ta) (if ext then ab else tb) ta tb false (if false && !aim then gx fo fb else goal)) 240 (0, 0)) ∧ Fr [Z] w w' := by
  obtain ⟨ng, hng⟩ : ∃ ng, ng = (if false && !aim then gx fo fb else goal) := ⟨_, rfl⟩
  rw [← hng]
  have HZ := hid hZ
  have HD := hid (fun Y => deed_step d a x ext bk t Y hd)
  have HAI := hid (fun (Y : World) (hf : Fr [] w Y) => show Calls Tryz.prog 166 #[.pointer (some ⟨Z, 0, none⟩), .bool false] Y fun e w' => e = .returned (.tuple #[]) ∧ w'.heap[Z]? = some (.cells (sesC P ao ab fo fb false ng) 240 (0, 0)) ∧ Fr [Z] Y w' by
    rw [hng]
    exact aim_any Z P ao fo goal (gx fo fb) ab fb aim false Y (obj_fr hZ hf List.not_mem_nil) (fun Y' hf' => A.x fo fb Y' (hw.trans (hf.trans hf'))))
  have HTA := hid (fun (Y : World) (hf : Fr [Z] w Y) (hz : Y.heap[Z]? = some (.cells (sesC P ao ab fo fb false ng) 240 (0, 0))) => targ_step Z P ao fo ng d ta ab fb false tb m Y hz (fun Y' hf' => hT Y' ((fr_ses hw hf hZ0).trans hf')))
  have HST := hid (fun (ao' : Int) (ab' : Bool) (Y : World) (hf : Fr [Z] w Y) (hz : Y.heap[Z]? = some (.cells (sesC P ao' ab' ta tb false ng) 240 (0, 0))) => A.state Z ao' ta ng ab' tb false m Y (fr_ses hw hf hZ0) hz)
  generalize g1 ta tb = a1 at *
  generalize g2 ta tb = a2 at *
  generalize gx ta tb = x1 at *
  generalize g1 ta true = b1 at *
  generalize g2 ta true = b2 at *
  generalize g1 ta false = c1 at *
  generalize g2 ta false = c2 at *
  obtain ⟨w2, hw2⟩ : ∃ w2, w2 = (w.alloc (.cells #[.int .i64 d, .bool ext, .int .i64 a, .int .i64 x, .bool bk, .string t] 33)).alloc (.cells #[.int .i64 0, .bool false, .int .i64 0, .bool false, .int .i64 0, .int .i64 0, .int .i64 0, .int .i64 0, .int .i64 0, .int .i64 0, .int .i64 0, .slice none 0 0, .bool false] 40) := ⟨_, rfl⟩
  have HF2 := hid (show Fr [] w w2 by rw [hw2]; exact ((Fr.refl [] w).alloc _).alloc _)
  have HO2 := hid (show w2.heap[w.heap.size]? = some (.cells #[.int .i64 d, .bool ext, .int .i64 a, .int .i64 x, .bool bk, .string t] 33 (0, 0)) by rw [hw2]; exact obj_fr (obj_new w _) ((Fr.refl [] _).alloc _) List.not_mem_nil)
  have HR2 := hid (show w2.heap[w.heap.size + 1]? = some (.cells #[.int .i64 0, .bool false, .int .i64 0, .bool false, .int .i64 0, .int .i64 0, .int .i64 0, .int .i64 0, .int .i64 0, .int .i64 0, .int .i64 0, .slice none 0 0, .bool false] 40 (0, 0)) by
    have hs : (w.alloc (.cells #[.int .i64 d, .bool ext, .int .i64 a, .int .i64 x, .bool bk, .string t] 33)).heap.size = w.heap.size + 1 := by simp
    have h0 := obj_new (w.alloc (.cells #[.int .i64 d, .bool ext, .int .i64 a, .int .i64 x, .bool bk, .string t] 33)) (.cells #[.int .i64 0, .bool false, .int .i64 0, .bool false, .int .i64 0, .int .i64 0, .int .i64 0, .int .i64 0, .int .i64 0, .int .i64 0, .int .i64 0, .slice none 0 0, .bool false] 40)
    rw [hs] at h0
    rw [hw2]; exact h0)
  have hZl := obj_lt HZ.out
  clear A hw hZ hT hng hd
  cases ext
  · simp only [Bool.false_eq_true, ↓reduceIte]
    go_enter Tryz.func95, Tryz.ntmps95
    go_wp2_with fail
    rw [← hw2]
    clear hw2
    refine (HD.out w2).mono ?_
    rintro e w3 ⟨rfl, hf3⟩
    have HF3 := hid (HF2.out.trans hf3)
    have HR3 := hid (obj_fr HR2.out hf3 List.not_mem_nil)
    have HP3 := hid (obj_fr HO2.out hf3 List.not_mem_nil)
    have hme := me1 d
    clear hf3 HD
    go_wp2_with fail
    refine (aims_step d w3).mono ?_
    rintro e w4 ⟨rfl, hf4⟩
    have HF4 := hid (HF3.out.trans hf4)
    have HR4 := hid (obj_fr HR3.out hf4 List.not_mem_nil)
    have HP4 := hid (obj_fr HP3.out hf4 List.not_mem_nil)
    clear hf4 hme
    go_wp2_with fail
    refine (HAI.out w4 HF4.out).mono ?_
    rintro e w5 ⟨rfl, hz5, hf5⟩
    have HZ5 := hid hz5
    have HG5 := hid (show Fr [Z] w w5 from (HF4.out.mono (fun _ h _ => absurd h List.not_mem_nil) : Fr [Z] w w4).trans hf5)
    have HR5 := hid (obj_fr HR4.out hf5 (fun hm => by have h2 := List.mem_singleton.1 hm; omega))
    have HP5 := hid (obj_fr HP4.out hf5 (fun hm => by have h2 := List.mem_singleton.1 hm; omega))
    clear hz5 hf5 HAI
    go_wp2_with fail
    refine (HTA.out w5 HG5.out HZ5.out).mono ?_
    rintro e w6 ⟨rfl, hf6⟩
    have HZ6 := hid (obj_fr HZ5.out hf6 List.not_mem_nil)
    have HG6 := hid (HG5.out.trans (hf6.mono (fun _ h _ => absurd h List.not_mem_nil) : Fr [Z] w5 w6))
    have HR6 := hid (obj_fr HR5.out hf6 List.not_mem_nil)
    have HP6 := hid (obj_fr HP5.out hf6 List.not_mem_nil)
    clear hf6 HTA
    have y1 := obj_cell HZ6.out (i := 1) (v := .int .i64 ao) rfl
    have y2 := obj_cell HZ6.out (i := 2) (v := .bool ab) rfl
    have y3 := obj_cell HZ6.out (i := 3) (v := .int .i64 fo) rfl
    have y4 := obj_cell HZ6.out (i := 4) (v := .bool fb) rfl
    have f1 := obj_froz HZ6.out 1
    have f2 := obj_froz HZ6.out 2
    have f3 := obj_froz HZ6.out 3
    have f4 := obj_froz HZ6.out 4
    have p1 := obj_cell HP6.out (i := 1) (v := .bool false) rfl
    have hZ6 := obj_lt HZ6.out
    have hP6 := obj_lt HP6.out
    go_wp2_with fail
    obtain ⟨w7, hw7⟩ : ∃ w7, w7 = ((((w6.setCell ⟨Z, 3, none⟩ (.int .i64 ta)).setCell ⟨Z, 4, none⟩ (.bool tb)).setCell ⟨Z, 1, none⟩ (.int .i64 ta)).setCell ⟨Z, 2, none⟩ (.bool tb)).alloc (.cells #[.int .i64 ta, .bool tb] 35) := ⟨_, rfl⟩
    rw [← hw7]
    have HZ7 := hid (show w7.heap[Z]? = some (.cells (sesC P ta tb ta tb false ng) 240 (0, 0)) by rw [hw7]; exact obj_fr (obj_set (obj_set (obj_set (obj_set HZ6.out 3 _) 4 _) 1 _) 2 _) ((Fr.refl [] _).alloc _) List.not_mem_nil)
    have HG7 := hid (show Fr [Z] w w7 by rw [hw7]; exact ((((HG6.out.set (i := 3) (List.mem_singleton.2 rfl) (.int .i64 ta)).set (i := 4) (List.mem_singleton.2 rfl) (.bool tb)).set (i := 1) (List.mem_singleton.2 rfl) (.int .i64 ta)).set (i := 2) (List.mem_singleton.2 rfl) (.bool tb)).alloc _)
    have HK7 := hid (show Fr [Z] w6 w7 by rw [hw7]; exact (((((Fr.refl [Z] w6).set (i := 3) (List.mem_singleton.2 rfl) (.int .i64 ta)).set (i := 4) (List.mem_singleton.2 rfl) (.bool tb)).set (i := 1) (List.mem_singleton.2 rfl) (.int .i64 ta)).set (i := 2) (List.mem_singleton.2 rfl) (.bool tb)).alloc _)
    have HR7 := hid (obj_fr HR6.out HK7.out (fun hm => by have h2 := List.mem_singleton.1 hm; omega))
    clear hw7 y1 y2 y3 y4 f1 f2 f3 f4 p1
    refine (HST.out ta tb w7 HG7.out HZ7.out).mono ?_
    rintro e w8 ⟨vS, rfl, own8, hf8⟩
    obtain ⟨aS, cS, hvS⟩ := owns_slice own8
    subst hvS
    have HON := hid own8
    have HRN := hid (obj_fr HR7.out hf8 List.not_mem_nil)
    have HGN := hid (show Fr [Z] w w8 from HG7.out.trans (hf8.mono (fun _ h _ => absurd h List.not_mem_nil) : Fr [Z] w7 w8))
    have HZN := hid (obj_fr HZ7.out hf8 List.not_mem_nil)
    have hlow := obj_lt HR7.out
    have HLOW := hid (show w.heap.size ≤ w7.heap.size by omega)
    obtain ⟨nS, hnS⟩ : ∃ nS, nS = (Sel ta ta).length := ⟨_, rfl⟩
    have HNS := hid hnS
    rw [← hnS] at HON ⊢
    clear own8 hf8 HST hnS
    have r0 := obj_cell HRN.out (i := 0) (v := .int .i64 0) rfl
    have k0 := obj_froz HRN.out 0
    have r1 := obj_cell HRN.out (i := 1) (v := .bool false) rfl
    have k1 := obj_froz HRN.out 1
    have r2 := obj_cell HRN.out (i := 2) (v := .int .i64 0) rfl
    have k2 := obj_froz HRN.out 2
    have r3 := obj_cell HRN.out (i := 3) (v := .bool false) rfl
    have k3 := obj_froz HRN.out 3
    have r4 := obj_cell HRN.out (i := 4) (v := .int .i64 0) rfl
    have k4 := obj_froz HRN.out 4
    have r5 := obj_cell HRN.out (i := 5) (v := .int .i64 0) rfl
    have k5 := obj_froz HRN.out 5
    have r6 := obj_cell HRN.out (i := 6) (v := .int .i64 0) rfl
    have k6 := obj_froz HRN.out 6
    have r7 := obj_cell HRN.out (i := 7) (v := .int .i64 0) rfl
    have k7 := obj_froz HRN.out 7
    have r8 := obj_cell HRN.out (i := 8) (v := .int .i64 0) rfl
    have k8 := obj_froz HRN.out 8
    have r9 := obj_cell HRN.out (i := 9) (v := .int .i64 0) rfl
    have k9 := obj_froz HRN.out 9
    have r10 := obj_cell HRN.out (i := 10) (v := .int .i64 0) rfl
    have k10 := obj_froz HRN.out 10
    have r11 := obj_cell HRN.out (i := 11) (v := .slice none 0 0) rfl
    have k11 := obj_froz HRN.out 11
    have r12 := obj_cell HRN.out (i := 12) (v := .bool false) rfl
    have k12 := obj_froz HRN.out 12
    have HKK := hid (Fr.set_new (b := w.heap.size + 1) (i := 12) (v := .bool m) (Fr.set_new (b := w.heap.size + 1) (i := 11) (v := .slice aS nS cS) (Fr.set_new (b := w.heap.size + 1) (i := 10) (v := .int .i64 c2) (Fr.set_new (b := w.heap.size + 1) (i := 9) (v := .int .i64 c1) (Fr.set_new (b := w.heap.size + 1) (i := 8) (v := .int .i64 b2) (Fr.set_new (b := w.heap.size + 1) (i := 7) (v := .int .i64 b1) (Fr.set_new (b := w.heap.size + 1) (i := 6) (v := .int .i64 x1) (Fr.set_new (b := w.heap.size + 1) (i := 5) (v := .int .i64 a2) (Fr.set_new (b := w.heap.size + 1) (i := 4) (v := .int .i64 a1) (Fr.set_new (b := w.heap.size + 1) (i := 3) (v := .bool tb) (Fr.set_new (b := w.heap.size + 1) (i := 2) (v := .int .i64 ta) (Fr.set_new (b := w.heap.size + 1) (i := 1) (v := .bool tb) (Fr.set_new (b := w.heap.size + 1) (i := 0) (v := .int .i64 ta) HGN.out (Nat.le_succ _)) (Nat.le_succ _)) (Nat.le_succ _)) (Nat.le_succ _)) (Nat.le_succ _)) (Nat.le_succ _)) (Nat.le_succ _)) (Nat.le_succ _)) (Nat.le_succ _)) (Nat.le_succ _)) (Nat.le_succ _)) (Nat.le_succ _)) (Nat.le_succ _))
    have HSF := hid (Fr.set (b := w.heap.size + 1) (i := 12) (Fr.set (b := w.heap.size + 1) (i := 11) (Fr.set (b := w.heap.size + 1) (i := 10) (Fr.set (b := w.heap.size + 1) (i := 9) (Fr.set (b := w.heap.size + 1) (i := 8) (Fr.set (b := w.heap.size + 1) (i := 7) (Fr.set (b := w.heap.size + 1) (i := 6) (Fr.set (b := w.heap.size + 1) (i := 5) (Fr.set (b := w.heap.size + 1) (i := 4) (Fr.set (b := w.heap.size + 1) (i := 3) (Fr.set (b := w.heap.size + 1) (i := 2) (Fr.set (b := w.heap.size + 1) (i := 1) (Fr.set (b := w.heap.size + 1) (i := 0) (Fr.refl [w.heap.size + 1] w8) (List.mem_singleton.2 rfl) (.int .i64 ta)) (List.mem_singleton.2 rfl) (.bool tb)) (List.mem_singleton.2 rfl) (.int .i64 ta)) (List.mem_singleton.2 rfl) (.bool tb)) (List.mem_singleton.2 rfl) (.int .i64 a1)) (List.mem_singleton.2 rfl) (.int .i64 a2)) (List.mem_singleton.2 rfl) (.int .i64 x1)) (List.mem_singleton.2 rfl) (.int .i64 b1)) (List.mem_singleton.2 rfl) (.int .i64 b2)) (List.mem_singleton.2 rfl) (.int .i64 c1)) (List.mem_singleton.2 rfl) (.int .i64 c2)) (List.mem_singleton.2 rfl) (.slice aS nS cS)) (List.mem_singleton.2 rfl) (.bool m))
    have HO7 := hid (owns_low (owns_fr HON.out HSF.out (fun g hg hm => by have h2 := List.mem_singleton.1 hm; have h3 := (HON.out.lt g hg).1; omega)) HLOW.out)
    have HZ7 := hid (obj_fr HZN.out HSF.out (fun hm => by have h2 := List.mem_singleton.1 hm; omega))
    go_wp2
    refine bodyPost_ret (results_cell_row (t := 40) (fr := (0, 0)) rfl _ _ (w.heap.size + 1) _ _ rfl (obj_set (obj_set (obj_set (obj_set (obj_set (obj_set (obj_set (obj_set (obj_set (obj_set (obj_set (obj_set (obj_set HRN.out 0 _) 1 _) 2 _) 3 _) 4 _) 5 _) 6 _) 7 _) 8 _) 9 _) 10 _) 11 _) 12 _) Tryz.underlying40 rfl (by kernel_rfl)) rfl ?_
    exact ⟨.slice aS nS cS, by simp, by rw [← HNS.out]; exact HO7.out, HZ7.out, HKK.out⟩
  · simp only [↓reduceIte]
    go_enter Tryz.func95, Tryz.ntmps95
    go_wp2_with fail
    rw [← hw2]
    clear hw2
    refine (HD.out w2).mono ?_
    rintro e w3 ⟨rfl, hf3⟩
    have HF3 := hid (HF2.out.trans hf3)
    have HR3 := hid (obj_fr HR2.out hf3 List.not_mem_nil)
    have HP3 := hid (obj_fr HO2.out hf3 List.not_mem_nil)
    have hme := me1 d
    clear hf3 HD
    go_wp2_with fail
    refine (aims_step d w3).mono ?_
    rintro e w4 ⟨rfl, hf4⟩
    have HF4 := hid (HF3.out.trans hf4)
    have HR4 := hid (obj_fr HR3.out hf4 List.not_mem_nil)
    have HP4 := hid (obj_fr HP3.out hf4 List.not_mem_nil)
    clear hf4 hme
    go_wp2_with fail
    refine (HAI.out w4 HF4.out).mono ?_
    rintro e w5 ⟨rfl, hz5, hf5⟩
    have HZ5 := hid hz5
    have HG5 := hid (show Fr [Z] w w5 from (HF4.out.mono (fun _ h _ => absurd h List.not_mem_nil) : Fr [Z] w w4).trans hf5)
    have HR5 := hid (obj_fr HR4.out hf5 (fun hm => by have h2 := List.mem_singleton.1 hm; omega))
    have HP5 := hid (obj_fr HP4.out hf5 (fun hm => by have h2 := List.mem_singleton.1 hm; omega))
    clear hz5 hf5 HAI
    go_wp2_with fail
    refine (HTA.out w5 HG5.out HZ5.out).mono ?_
    rintro e w6 ⟨rfl, hf6⟩
    have HZ6 := hid (obj_fr HZ5.out hf6 List.not_mem_nil)
    have HG6 := hid (HG5.out.trans (hf6.mono (fun _ h _ => absurd h List.not_mem_nil) : Fr [Z] w5 w6))
    have HR6 := hid (obj_fr HR5.out hf6 List.not_mem_nil)
    have HP6 := hid (obj_fr HP5.out hf6 List.not_mem_nil)
    clear hf6 HTA
    have y1 := obj_cell HZ6.out (i := 1) (v := .int .i64 ao) rfl
    have y2 := obj_cell HZ6.out (i := 2) (v := .bool ab) rfl
    have y3 := obj_cell HZ6.out (i := 3) (v := .int .i64 fo) rfl
    have y4 := obj_cell HZ6.out (i := 4) (v := .bool fb) rfl
    have f1 := obj_froz HZ6.out 1
    have f2 := obj_froz HZ6.out 2
    have f3 := obj_froz HZ6.out 3
    have f4 := obj_froz HZ6.out 4
    have p1 := obj_cell HP6.out (i := 1) (v := .bool true) rfl
    have hZ6 := obj_lt HZ6.out
    have hP6 := obj_lt HP6.out
    go_wp2_with fail
    obtain ⟨w7, hw7⟩ : ∃ w7, w7 = ((w6.setCell ⟨Z, 3, none⟩ (.int .i64 ta)).setCell ⟨Z, 4, none⟩ (.bool tb)).alloc (.cells #[.int .i64 ta, .bool tb] 35) := ⟨_, rfl⟩
    rw [← hw7]
    have HZ7 := hid (show w7.heap[Z]? = some (.cells (sesC P ao ab ta tb false ng) 240 (0, 0)) by rw [hw7]; exact obj_fr (obj_set (obj_set HZ6.out 3 _) 4 _) ((Fr.refl [] _).alloc _) List.not_mem_nil)
    have HG7 := hid (show Fr [Z] w w7 by rw [hw7]; exact ((HG6.out.set (i := 3) (List.mem_singleton.2 rfl) (.int .i64 ta)).set (i := 4) (List.mem_singleton.2 rfl) (.bool tb)).alloc _)
    have HK7 := hid (show Fr [Z] w6 w7 by rw [hw7]; exact (((Fr.refl [Z] w6).set (i := 3) (List.mem_singleton.2 rfl) (.int .i64 ta)).set (i := 4) (List.mem_singleton.2 rfl) (.bool tb)).alloc _)
    have HR7 := hid (obj_fr HR6.out HK7.out (fun hm => by have h2 := List.mem_singleton.1 hm; omega))
    clear hw7 y1 y2 y3 y4 f1 f2 f3 f4 p1
    refine (HST.out ao ab w7 HG7.out HZ7.out).mono ?_
    rintro e w8 ⟨vS, rfl, own8, hf8⟩
    obtain ⟨aS, cS, hvS⟩ := owns_slice own8
    subst hvS
    have HON := hid own8
    have HRN := hid (obj_fr HR7.out hf8 List.not_mem_nil)
    have HGN := hid (show Fr [Z] w w8 from HG7.out.trans (hf8.mono (fun _ h _ => absurd h List.not_mem_nil) : Fr [Z] w7 w8))
    have HZN := hid (obj_fr HZ7.out hf8 List.not_mem_nil)
    have hlow := obj_lt HR7.out
    have HLOW := hid (show w.heap.size ≤ w7.heap.size by omega)
    obtain ⟨nS, hnS⟩ : ∃ nS, nS = (Sel ao ta).length := ⟨_, rfl⟩
    have HNS := hid hnS
    rw [← hnS] at HON ⊢
    clear own8 hf8 HST hnS
    have r0 := obj_cell HRN.out (i := 0) (v := .int .i64 0) rfl
    have k0 := obj_froz HRN.out 0
    have r1 := obj_cell HRN.out (i := 1) (v := .bool false) rfl
    have k1 := obj_froz HRN.out 1
    have r2 := obj_cell HRN.out (i := 2) (v := .int .i64 0) rfl
    have k2 := obj_froz HRN.out 2
    have r3 := obj_cell HRN.out (i := 3) (v := .bool false) rfl
    have k3 := obj_froz HRN.out 3
    have r4 := obj_cell HRN.out (i := 4) (v := .int .i64 0) rfl
    have k4 := obj_froz HRN.out 4
    have r5 := obj_cell HRN.out (i := 5) (v := .int .i64 0) rfl
    have k5 := obj_froz HRN.out 5
    have r6 := obj_cell HRN.out (i := 6) (v := .int .i64 0) rfl
    have k6 := obj_froz HRN.out 6
    have r7 := obj_cell HRN.out (i := 7) (v := .int .i64 0) rfl
    have k7 := obj_froz HRN.out 7
    have r8 := obj_cell HRN.out (i := 8) (v := .int .i64 0) rfl
    have k8 := obj_froz HRN.out 8
    have r9 := obj_cell HRN.out (i := 9) (v := .int .i64 0) rfl
    have k9 := obj_froz HRN.out 9
    have r10 := obj_cell HRN.out (i := 10) (v := .int .i64 0) rfl
    have k10 := obj_froz HRN.out 10
    have r11 := obj_cell HRN.out (i := 11) (v := .slice none 0 0) rfl
    have k11 := obj_froz HRN.out 11
    have r12 := obj_cell HRN.out (i := 12) (v := .bool false) rfl
    have k12 := obj_froz HRN.out 12
    have HKK := hid (Fr.set_new (b := w.heap.size + 1) (i := 12) (v := .bool m) (Fr.set_new (b := w.heap.size + 1) (i := 11) (v := .slice aS nS cS) (Fr.set_new (b := w.heap.size + 1) (i := 10) (v := .int .i64 c2) (Fr.set_new (b := w.heap.size + 1) (i := 9) (v := .int .i64 c1) (Fr.set_new (b := w.heap.size + 1) (i := 8) (v := .int .i64 b2) (Fr.set_new (b := w.heap.size + 1) (i := 7) (v := .int .i64 b1) (Fr.set_new (b := w.heap.size + 1) (i := 6) (v := .int .i64 x1) (Fr.set_new (b := w.heap.size + 1) (i := 5) (v := .int .i64 a2) (Fr.set_new (b := w.heap.size + 1) (i := 4) (v := .int .i64 a1) (Fr.set_new (b := w.heap.size + 1) (i := 3) (v := .bool tb) (Fr.set_new (b := w.heap.size + 1) (i := 2) (v := .int .i64 ta) (Fr.set_new (b := w.heap.size + 1) (i := 1) (v := .bool ab) (Fr.set_new (b := w.heap.size + 1) (i := 0) (v := .int .i64 ao) HGN.out (Nat.le_succ _)) (Nat.le_succ _)) (Nat.le_succ _)) (Nat.le_succ _)) (Nat.le_succ _)) (Nat.le_succ _)) (Nat.le_succ _)) (Nat.le_succ _)) (Nat.le_succ _)) (Nat.le_succ _)) (Nat.le_succ _)) (Nat.le_succ _)) (Nat.le_succ _))
    have HSF := hid (Fr.set (b := w.heap.size + 1) (i := 12) (Fr.set (b := w.heap.size + 1) (i := 11) (Fr.set (b := w.heap.size + 1) (i := 10) (Fr.set (b := w.heap.size + 1) (i := 9) (Fr.set (b := w.heap.size + 1) (i := 8) (Fr.set (b := w.heap.size + 1) (i := 7) (Fr.set (b := w.heap.size + 1) (i := 6) (Fr.set (b := w.heap.size + 1) (i := 5) (Fr.set (b := w.heap.size + 1) (i := 4) (Fr.set (b := w.heap.size + 1) (i := 3) (Fr.set (b := w.heap.size + 1) (i := 2) (Fr.set (b := w.heap.size + 1) (i := 1) (Fr.set (b := w.heap.size + 1) (i := 0) (Fr.refl [w.heap.size + 1] w8) (List.mem_singleton.2 rfl) (.int .i64 ao)) (List.mem_singleton.2 rfl) (.bool ab)) (List.mem_singleton.2 rfl) (.int .i64 ta)) (List.mem_singleton.2 rfl) (.bool tb)) (List.mem_singleton.2 rfl) (.int .i64 a1)) (List.mem_singleton.2 rfl) (.int .i64 a2)) (List.mem_singleton.2 rfl) (.int .i64 x1)) (List.mem_singleton.2 rfl) (.int .i64 b1)) (List.mem_singleton.2 rfl) (.int .i64 b2)) (List.mem_singleton.2 rfl) (.int .i64 c1)) (List.mem_singleton.2 rfl) (.int .i64 c2)) (List.mem_singleton.2 rfl) (.slice aS nS cS)) (List.mem_singleton.2 rfl) (.bool m))
    have HO7 := hid (owns_low (owns_fr HON.out HSF.out (fun g hg hm => by have h2 := List.mem_singleton.1 hm; have h3 := (HON.out.lt g hg).1; omega)) HLOW.out)
    have HZ7 := hid (obj_fr HZN.out HSF.out (fun hm => by have h2 := List.mem_singleton.1 hm; omega))
    go_wp2
    refine bodyPost_ret (results_cell_row (t := 40) (fr := (0, 0)) rfl _ _ (w.heap.size + 1) _ _ rfl (obj_set (obj_set (obj_set (obj_set (obj_set (obj_set (obj_set (obj_set (obj_set (obj_set (obj_set (obj_set (obj_set HRN.out 0 _) 1 _) 2 _) 3 _) 4 _) 5 _) 6 _) 7 _) 8 _) 9 _) 10 _) 11 _) 12 _) Tryz.underlying40 rfl (by kernel_rfl)) rfl ?_
    exact ⟨.slice aS nS cS, by simp, by rw [← HNS.out]; exact HO7.out, HZ7.out, HKK.out⟩
end Go.Proofs.YtnakejhohdbfdabGreatDoor
namespace Go.Proofs.YtnakejhohdbfdabGreatDoor
open Go.RowKit Lev Lay Bnd

set_option maxRecDepth 10000 in
set_option maxHeartbeats 4000000 in
theorem do_cross {w0 : World} {P : Nat} {g1 g2 gx : Int → Bool → Int} {Sel : Int → Int → List Spn} (A : Ans w0 P g1 g2 gx Sel) (Z : Nat) (ao fo goal d a x ta : Int) (ab fb aim ext bk tb m : Bool) (t : ByteArray) (w : World) (hw : Fr [] w0 w) (hZ0 : w0.heap.size ≤ Z) (hZ : w.heap[Z]? = some (.cells (sesC P ao ab fo fb aim goal) 240 (0, 0))) (hd : d = 6 ∨ d = 7)
    (hT : ∀ ng Y, Fr [] w0 Y → ng = (if true && !aim then gx fo fb else goal) → Calls Tryz.prog 85 #[.pointer (some ⟨P, 0, none⟩), .int .i64 d, .agg #[.int .i64 fo, .bool fb], .int .i64 ng] Y fun e w' => e = .returned (.tuple #[.agg #[.int .i64 ta, .bool tb], .bool m]) ∧ Fr [] Y w') :
    Calls Tryz.prog 95 #[.pointer (some ⟨Z, 0, none⟩), opV d ext a x bk t] w fun e w' => ∃ v, e = .returned (.agg (stC (if ext then ao else ta) (if ext then ab else tb) ta tb (g1 ta tb) (g2 ta tb) (gx ta tb) (g1 ta true) (g2 ta true) (g1 ta false) (g2 ta false) v m)) ∧ w'.ownsRow w.heap.size 90 5 v (Sel (if ext then ao else ta) ta).length (spCells (Sel (if ext then ao else ta) ta)) ∧ w'.heap[Z]? = some (.cells (sesC P (if ext then ao else ta) (if ext then ab else tb) ta tb true (if true && !aim then gx fo fb else goal)) 240 (0, 0)) ∧ Fr [Z] w w' := by
  obtain ⟨ng, hng⟩ : ∃ ng, ng = (if true && !aim then gx fo fb else goal) := ⟨_, rfl⟩
  rw [← hng]
  have HZ := hid hZ
  have HD := hid (fun Y => deed_cross d a x ext bk t Y hd)
  have HAI := hid (fun (Y : World) (hf : Fr [] w Y) => show Calls Tryz.prog 166 #[.pointer (some ⟨Z, 0, none⟩), .bool true] Y fun e w' => e = .returned (.tuple #[]) ∧ w'.heap[Z]? = some (.cells (sesC P ao ab fo fb true ng) 240 (0, 0)) ∧ Fr [Z] Y w' by
    rw [hng]
    exact aim_any Z P ao fo goal (gx fo fb) ab fb aim true Y (obj_fr hZ hf List.not_mem_nil) (fun Y' hf' => A.x fo fb Y' (hw.trans (hf.trans hf'))))
  have HTA := hid (fun (Y : World) (hf : Fr [Z] w Y) (hz : Y.heap[Z]? = some (.cells (sesC P ao ab fo fb true ng) 240 (0, 0))) => targ_cross Z P ao fo ng d ta ab fb true tb m Y hz (fun Y' hf' => hT ng Y' ((fr_ses hw hf hZ0).trans hf') hng))
  have HST := hid (fun (ao' : Int) (ab' : Bool) (Y : World) (hf : Fr [Z] w Y) (hz : Y.heap[Z]? = some (.cells (sesC P ao' ab' ta tb true ng) 240 (0, 0))) => A.state Z ao' ta ng ab' tb true m Y (fr_ses hw hf hZ0) hz)
  generalize g1 ta tb = a1 at *
  generalize g2 ta tb = a2 at *
  generalize gx ta tb = x1 at *
  generalize g1 ta true = b1 at *
  generalize g2 ta true = b2 at *
  generalize g1 ta false = c1 at *
  generalize g2 ta false = c2 at *
  obtain ⟨w2, hw2⟩ : ∃ w2, w2 = (w.alloc (.cells #[.int .i64 d, .bool ext, .int .i64 a, .int .i64 x, .bool bk, .string t] 33)).alloc (.cells #[.int .i64 0, .bool false, .int .i64 0, .bool false, .int .i64 0, .int .i64 0, .int .i64 0, .int .i64 0, .int .i64 0, .int .i64 0, .int .i64 0, .slice none 0 0, .bool false] 40) := ⟨_, rfl⟩
  have HF2 := hid (show Fr [] w w2 by rw [hw2]; exact ((Fr.refl [] w).alloc _).alloc _)
  have HO2 := hid (show w2.heap[w.heap.size]? = some (.cells #[.int .i64 d, .bool ext, .int .i64 a, .int .i64 x, .bool bk, .string t] 33 (0, 0)) by rw [hw2]; exact obj_fr (obj_new w _) ((Fr.refl [] _).alloc _) List.not_mem_nil)
  have HR2 := hid (show w2.heap[w.heap.size + 1]? = some (.cells #[.int .i64 0, .bool false, .int .i64 0, .bool false, .int .i64 0, .int .i64 0, .int .i64 0, .int .i64 0, .int .i64 0, .int .i64 0, .int .i64 0, .slice none 0 0, .bool false] 40 (0, 0)) by
    have hs : (w.alloc (.cells #[.int .i64 d, .bool ext, .int .i64 a, .int .i64 x, .bool bk, .string t] 33)).heap.size = w.heap.size + 1 := by simp
    have h0 := obj_new (w.alloc (.cells #[.int .i64 d, .bool ext, .int .i64 a, .int .i64 x, .bool bk, .string t] 33)) (.cells #[.int .i64 0, .bool false, .int .i64 0, .bool false, .int .i64 0, .int .i64 0, .int .i64 0, .int .i64 0, .int .i64 0, .int .i64 0, .int .i64 0, .slice none 0 0, .bool false] 40)
    rw [hs] at h0
    rw [hw2]; exact h0)
  have hZl := obj_lt HZ.out
  clear A hw hZ hT hng hd
  cases ext
  · simp only [Bool.false_eq_true, ↓reduceIte]
    go_enter Tryz.func95, Tryz.ntmps95
    go_wp2_with fail
    rw [← hw2]
    clear hw2
    refine (HD.out w2).mono ?_
    rintro e w3 ⟨rfl, hf3⟩
    have HF3 := hid (HF2.out.trans hf3)
    have HR3 := hid (obj_fr HR2.out hf3 List.not_mem_nil)
    have HP3 := hid (obj_fr HO2.out hf3 List.not_mem_nil)
    have hme := me2 d
    clear hf3 HD
    go_wp2_with fail
    refine (aims_cross d w3).mono ?_
    rintro e w4 ⟨rfl, hf4⟩
    have HF4 := hid (HF3.out.trans hf4)
    have HR4 := hid (obj_fr HR3.out hf4 List.not_mem_nil)
    have HP4 := hid (obj_fr HP3.out hf4 List.not_mem_nil)
    clear hf4 hme
    go_wp2_with fail
    refine (HAI.out w4 HF4.out).mono ?_
    rintro e w5 ⟨rfl, hz5, hf5⟩
    have HZ5 := hid hz5
    have HG5 := hid (show Fr [Z] w w5 from (HF4.out.mono (fun _ h _ => absurd h List.not_mem_nil) : Fr [Z] w w4).trans hf5)
    have HR5 := hid (obj_fr HR4.out hf5 (fun hm => by have h2 := List.mem_singleton.1 hm; omega))
    have HP5 := hid (obj_fr HP4.out hf5 (fun hm => by have h2 := List.mem_singleton.1 hm; omega))
    clear hz5 hf5 HAI
    go_wp2_with fail
    refine (HTA.out w5 HG5.out HZ5.out).mono ?_
    rintro e w6 ⟨rfl, hf6⟩
    have HZ6 := hid (obj_fr HZ5.out hf6 List.not_mem_nil)
    have HG6 := hid (HG5.out.trans (hf6.mono (fun _ h _ => absurd h List.not_mem_nil) : Fr [Z] w5 w6))
    have HR6 := hid (obj_fr HR5.out hf6 List.not_mem_nil)
    have HP6 := hid (obj_fr HP5.out hf6 List.not_mem_nil)
    clear hf6 HTA
    have y1 := obj_cell HZ6.out (i := 1) (v := .int .i64 ao) rfl
    have y2 := obj_cell HZ6.out (i := 2) (v := .bool ab) rfl
    have y3 := obj_cell HZ6.out (i := 3) (v := .int .i64 fo) rfl
    have y4 := obj_cell HZ6.out (i := 4) (v := .bool fb) rfl
    have f1 := obj_froz HZ6.out 1
    have f2 := obj_froz HZ6.out 2
    have f3 := obj_froz HZ6.out 3
    have f4 := obj_froz HZ6.out 4
    have p1 := obj_cell HP6.out (i := 1) (v := .bool false) rfl
    have hZ6 := obj_lt HZ6.out
    have hP6 := obj_lt HP6.out
    go_wp2_with fail
    obtain ⟨w7, hw7⟩ : ∃ w7, w7 = ((((w6.setCell ⟨Z, 3, none⟩ (.int .i64 ta)).setCell ⟨Z, 4, none⟩ (.bool tb)).setCell ⟨Z, 1, none⟩ (.int .i64 ta)).setCell ⟨Z, 2, none⟩ (.bool tb)).alloc (.cells #[.int .i64 ta, .bool tb] 35) := ⟨_, rfl⟩
    rw [← hw7]
    have HZ7 := hid (show w7.heap[Z]? = some (.cells (sesC P ta tb ta tb true ng) 240 (0, 0)) by rw [hw7]; exact obj_fr (obj_set (obj_set (obj_set (obj_set HZ6.out 3 _) 4 _) 1 _) 2 _) ((Fr.refl [] _).alloc _) List.not_mem_nil)
    have HG7 := hid (show Fr [Z] w w7 by rw [hw7]; exact ((((HG6.out.set (i := 3) (List.mem_singleton.2 rfl) (.int .i64 ta)).set (i := 4) (List.mem_singleton.2 rfl) (.bool tb)).set (i := 1) (List.mem_singleton.2 rfl) (.int .i64 ta)).set (i := 2) (List.mem_singleton.2 rfl) (.bool tb)).alloc _)
    have HK7 := hid (show Fr [Z] w6 w7 by rw [hw7]; exact (((((Fr.refl [Z] w6).set (i := 3) (List.mem_singleton.2 rfl) (.int .i64 ta)).set (i := 4) (List.mem_singleton.2 rfl) (.bool tb)).set (i := 1) (List.mem_singleton.2 rfl) (.int .i64 ta)).set (i := 2) (List.mem_singleton.2 rfl) (.bool tb)).alloc _)
    have HR7 := hid (obj_fr HR6.out HK7.out (fun hm => by have h2 := List.mem_singleton.1 hm; omega))
    clear hw7 y1 y2 y3 y4 f1 f2 f3 f4 p1
    refine (HST.out ta tb w7 HG7.out HZ7.out).mono ?_
    rintro e w8 ⟨vS, rfl, own8, hf8⟩
    obtain ⟨aS, cS, hvS⟩ := owns_slice own8
    subst hvS
    have HON := hid own8
    have HRN := hid (obj_fr HR7.out hf8 List.not_mem_nil)
    have HGN := hid (show Fr [Z] w w8 from HG7.out.trans (hf8.mono (fun _ h _ => absurd h List.not_mem_nil) : Fr [Z] w7 w8))
    have HZN := hid (obj_fr HZ7.out hf8 List.not_mem_nil)
    have hlow := obj_lt HR7.out
    have HLOW := hid (show w.heap.size ≤ w7.heap.size by omega)
    obtain ⟨nS, hnS⟩ : ∃ nS, nS = (Sel ta ta).length := ⟨_, rfl⟩
    have HNS := hid hnS
    rw [← hnS] at HON ⊢
    clear own8 hf8 HST hnS
    have r0 := obj_cell HRN.out (i := 0) (v := .int .i64 0) rfl
    have k0 := obj_froz HRN.out 0
    have r1 := obj_cell HRN.out (i := 1) (v := .bool false) rfl
    have k1 := obj_froz HRN.out 1
    have r2 := obj_cell HRN.out (i := 2) (v := .int .i64 0) rfl
    have k2 := obj_froz HRN.out 2
    have r3 := obj_cell HRN.out (i := 3) (v := .bool false) rfl
    have k3 := obj_froz HRN.out 3
    have r4 := obj_cell HRN.out (i := 4) (v := .int .i64 0) rfl
    have k4 := obj_froz HRN.out 4
    have r5 := obj_cell HRN.out (i := 5) (v := .int .i64 0) rfl
    have k5 := obj_froz HRN.out 5
    have r6 := obj_cell HRN.out (i := 6) (v := .int .i64 0) rfl
    have k6 := obj_froz HRN.out 6
    have r7 := obj_cell HRN.out (i := 7) (v := .int .i64 0) rfl
    have k7 := obj_froz HRN.out 7
    have r8 := obj_cell HRN.out (i := 8) (v := .int .i64 0) rfl
    have k8 := obj_froz HRN.out 8
    have r9 := obj_cell HRN.out (i := 9) (v := .int .i64 0) rfl
    have k9 := obj_froz HRN.out 9
    have r10 := obj_cell HRN.out (i := 10) (v := .int .i64 0) rfl
    have k10 := obj_froz HRN.out 10
    have r11 := obj_cell HRN.out (i := 11) (v := .slice none 0 0) rfl
    have k11 := obj_froz HRN.out 11
    have r12 := obj_cell HRN.out (i := 12) (v := .bool false) rfl
    have k12 := obj_froz HRN.out 12
    have HKK := hid (Fr.set_new (b := w.heap.size + 1) (i := 12) (v := .bool m) (Fr.set_new (b := w.heap.size + 1) (i := 11) (v := .slice aS nS cS) (Fr.set_new (b := w.heap.size + 1) (i := 10) (v := .int .i64 c2) (Fr.set_new (b := w.heap.size + 1) (i := 9) (v := .int .i64 c1) (Fr.set_new (b := w.heap.size + 1) (i := 8) (v := .int .i64 b2) (Fr.set_new (b := w.heap.size + 1) (i := 7) (v := .int .i64 b1) (Fr.set_new (b := w.heap.size + 1) (i := 6) (v := .int .i64 x1) (Fr.set_new (b := w.heap.size + 1) (i := 5) (v := .int .i64 a2) (Fr.set_new (b := w.heap.size + 1) (i := 4) (v := .int .i64 a1) (Fr.set_new (b := w.heap.size + 1) (i := 3) (v := .bool tb) (Fr.set_new (b := w.heap.size + 1) (i := 2) (v := .int .i64 ta) (Fr.set_new (b := w.heap.size + 1) (i := 1) (v := .bool tb) (Fr.set_new (b := w.heap.size + 1) (i := 0) (v := .int .i64 ta) HGN.out (Nat.le_succ _)) (Nat.le_succ _)) (Nat.le_succ _)) (Nat.le_succ _)) (Nat.le_succ _)) (Nat.le_succ _)) (Nat.le_succ _)) (Nat.le_succ _)) (Nat.le_succ _)) (Nat.le_succ _)) (Nat.le_succ _)) (Nat.le_succ _)) (Nat.le_succ _))
    have HSF := hid (Fr.set (b := w.heap.size + 1) (i := 12) (Fr.set (b := w.heap.size + 1) (i := 11) (Fr.set (b := w.heap.size + 1) (i := 10) (Fr.set (b := w.heap.size + 1) (i := 9) (Fr.set (b := w.heap.size + 1) (i := 8) (Fr.set (b := w.heap.size + 1) (i := 7) (Fr.set (b := w.heap.size + 1) (i := 6) (Fr.set (b := w.heap.size + 1) (i := 5) (Fr.set (b := w.heap.size + 1) (i := 4) (Fr.set (b := w.heap.size + 1) (i := 3) (Fr.set (b := w.heap.size + 1) (i := 2) (Fr.set (b := w.heap.size + 1) (i := 1) (Fr.set (b := w.heap.size + 1) (i := 0) (Fr.refl [w.heap.size + 1] w8) (List.mem_singleton.2 rfl) (.int .i64 ta)) (List.mem_singleton.2 rfl) (.bool tb)) (List.mem_singleton.2 rfl) (.int .i64 ta)) (List.mem_singleton.2 rfl) (.bool tb)) (List.mem_singleton.2 rfl) (.int .i64 a1)) (List.mem_singleton.2 rfl) (.int .i64 a2)) (List.mem_singleton.2 rfl) (.int .i64 x1)) (List.mem_singleton.2 rfl) (.int .i64 b1)) (List.mem_singleton.2 rfl) (.int .i64 b2)) (List.mem_singleton.2 rfl) (.int .i64 c1)) (List.mem_singleton.2 rfl) (.int .i64 c2)) (List.mem_singleton.2 rfl) (.slice aS nS cS)) (List.mem_singleton.2 rfl) (.bool m))
    have HO7 := hid (owns_low (owns_fr HON.out HSF.out (fun g hg hm => by have h2 := List.mem_singleton.1 hm; have h3 := (HON.out.lt g hg).1; omega)) HLOW.out)
    have HZ7 := hid (obj_fr HZN.out HSF.out (fun hm => by have h2 := List.mem_singleton.1 hm; omega))
    go_wp2
    refine bodyPost_ret (results_cell_row (t := 40) (fr := (0, 0)) rfl _ _ (w.heap.size + 1) _ _ rfl (obj_set (obj_set (obj_set (obj_set (obj_set (obj_set (obj_set (obj_set (obj_set (obj_set (obj_set (obj_set (obj_set HRN.out 0 _) 1 _) 2 _) 3 _) 4 _) 5 _) 6 _) 7 _) 8 _) 9 _) 10 _) 11 _) 12 _) Tryz.underlying40 rfl (by kernel_rfl)) rfl ?_
    exact ⟨.slice aS nS cS, by simp, by rw [← HNS.out]; exact HO7.out, HZ7.out, HKK.out⟩
  · simp only [↓reduceIte]
    go_enter Tryz.func95, Tryz.ntmps95
    go_wp2_with fail
    rw [← hw2]
    clear hw2
    refine (HD.out w2).mono ?_
    rintro e w3 ⟨rfl, hf3⟩
    have HF3 := hid (HF2.out.trans hf3)
    have HR3 := hid (obj_fr HR2.out hf3 List.not_mem_nil)
    have HP3 := hid (obj_fr HO2.out hf3 List.not_mem_nil)
    have hme := me2 d
    clear hf3 HD
    go_wp2_with fail
    refine (aims_cross d w3).mono ?_
    rintro e w4 ⟨rfl, hf4⟩
    have HF4 := hid (HF3.out.trans hf4)
    have HR4 := hid (obj_fr HR3.out hf4 List.not_mem_nil)
    have HP4 := hid (obj_fr HP3.out hf4 List.not_mem_nil)
    clear hf4 hme
    go_wp2_with fail
    refine (HAI.out w4 HF4.out).mono ?_
    rintro e w5 ⟨rfl, hz5, hf5⟩
    have HZ5 := hid hz5
    have HG5 := hid (show Fr [Z] w w5 from (HF4.out.mono (fun _ h _ => absurd h List.not_mem_nil) : Fr [Z] w w4).trans hf5)
    have HR5 := hid (obj_fr HR4.out hf5 (fun hm => by have h2 := List.mem_singleton.1 hm; omega))
    have HP5 := hid (obj_fr HP4.out hf5 (fun hm => by have h2 := List.mem_singleton.1 hm; omega))
    clear hz5 hf5 HAI
    go_wp2_with fail
    refine (HTA.out w5 HG5.out HZ5.out).mono ?_
    rintro e w6 ⟨rfl, hf6⟩
    have HZ6 := hid (obj_fr HZ5.out hf6 List.not_mem_nil)
    have HG6 := hid (HG5.out.trans (hf6.mono (fun _ h _ => absurd h List.not_mem_nil) : Fr [Z] w5 w6))
    have HR6 := hid (obj_fr HR5.out hf6 List.not_mem_nil)
    have HP6 := hid (obj_fr HP5.out hf6 List.not_mem_nil)
    clear hf6 HTA
    have y1 := obj_cell HZ6.out (i := 1) (v := .int .i64 ao) rfl
    have y2 := obj_cell HZ6.out (i := 2) (v := .bool ab) rfl
    have y3 := obj_cell HZ6.out (i := 3) (v := .int .i64 fo) rfl
    have y4 := obj_cell HZ6.out (i := 4) (v := .bool fb) rfl
    have f1 := obj_froz HZ6.out 1
    have f2 := obj_froz HZ6.out 2
    have f3 := obj_froz HZ6.out 3
    have f4 := obj_froz HZ6.out 4
    have p1 := obj_cell HP6.out (i := 1) (v := .bool true) rfl
    have hZ6 := obj_lt HZ6.out
    have hP6 := obj_lt HP6.out
    go_wp2_with fail
    obtain ⟨w7, hw7⟩ : ∃ w7, w7 = ((w6.setCell ⟨Z, 3, none⟩ (.int .i64 ta)).setCell ⟨Z, 4, none⟩ (.bool tb)).alloc (.cells #[.int .i64 ta, .bool tb] 35) := ⟨_, rfl⟩
    rw [← hw7]
    have HZ7 := hid (show w7.heap[Z]? = some (.cells (sesC P ao ab ta tb true ng) 240 (0, 0)) by rw [hw7]; exact obj_fr (obj_set (obj_set HZ6.out 3 _) 4 _) ((Fr.refl [] _).alloc _) List.not_mem_nil)
    have HG7 := hid (show Fr [Z] w w7 by rw [hw7]; exact ((HG6.out.set (i := 3) (List.mem_singleton.2 rfl) (.int .i64 ta)).set (i := 4) (List.mem_singleton.2 rfl) (.bool tb)).alloc _)
    have HK7 := hid (show Fr [Z] w6 w7 by rw [hw7]; exact (((Fr.refl [Z] w6).set (i := 3) (List.mem_singleton.2 rfl) (.int .i64 ta)).set (i := 4) (List.mem_singleton.2 rfl) (.bool tb)).alloc _)
    have HR7 := hid (obj_fr HR6.out HK7.out (fun hm => by have h2 := List.mem_singleton.1 hm; omega))
    clear hw7 y1 y2 y3 y4 f1 f2 f3 f4 p1
    refine (HST.out ao ab w7 HG7.out HZ7.out).mono ?_
    rintro e w8 ⟨vS, rfl, own8, hf8⟩
    obtain ⟨aS, cS, hvS⟩ := owns_slice own8
    subst hvS
    have HON := hid own8
    have HRN := hid (obj_fr HR7.out hf8 List.not_mem_nil)
    have HGN := hid (show Fr [Z] w w8 from HG7.out.trans (hf8.mono (fun _ h _ => absurd h List.not_mem_nil) : Fr [Z] w7 w8))
    have HZN := hid (obj_fr HZ7.out hf8 List.not_mem_nil)
    have hlow := obj_lt HR7.out
    have HLOW := hid (show w.heap.size ≤ w7.heap.size by omega)
    obtain ⟨nS, hnS⟩ : ∃ nS, nS = (Sel ao ta).length := ⟨_, rfl⟩
    have HNS := hid hnS
    rw [← hnS] at HON ⊢
    clear own8 hf8 HST hnS
    have r0 := obj_cell HRN.out (i := 0) (v := .int .i64 0) rfl
    have k0 := obj_froz HRN.out 0
    have r1 := obj_cell HRN.out (i := 1) (v := .bool false) rfl
    have k1 := obj_froz HRN.out 1
    have r2 := obj_cell HRN.out (i := 2) (v := .int .i64 0) rfl
    have k2 := obj_froz HRN.out 2
    have r3 := obj_cell HRN.out (i := 3) (v := .bool false) rfl
    have k3 := obj_froz HRN.out 3
    have r4 := obj_cell HRN.out (i := 4) (v := .int .i64 0) rfl
    have k4 := obj_froz HRN.out 4
    have r5 := obj_cell HRN.out (i := 5) (v := .int .i64 0) rfl
    have k5 := obj_froz HRN.out 5
    have r6 := obj_cell HRN.out (i := 6) (v := .int .i64 0) rfl
    have k6 := obj_froz HRN.out 6
    have r7 := obj_cell HRN.out (i := 7) (v := .int .i64 0) rfl
    have k7 := obj_froz HRN.out 7
    have r8 := obj_cell HRN.out (i := 8) (v := .int .i64 0) rfl
    have k8 := obj_froz HRN.out 8
    have r9 := obj_cell HRN.out (i := 9) (v := .int .i64 0) rfl
    have k9 := obj_froz HRN.out 9
    have r10 := obj_cell HRN.out (i := 10) (v := .int .i64 0) rfl
    have k10 := obj_froz HRN.out 10
    have r11 := obj_cell HRN.out (i := 11) (v := .slice none 0 0) rfl
    have k11 := obj_froz HRN.out 11
    have r12 := obj_cell HRN.out (i := 12) (v := .bool false) rfl
    have k12 := obj_froz HRN.out 12
    have HKK := hid (Fr.set_new (b := w.heap.size + 1) (i := 12) (v := .bool m) (Fr.set_new (b := w.heap.size + 1) (i := 11) (v := .slice aS nS cS) (Fr.set_new (b := w.heap.size + 1) (i := 10) (v := .int .i64 c2) (Fr.set_new (b := w.heap.size + 1) (i := 9) (v := .int .i64 c1) (Fr.set_new (b := w.heap.size + 1) (i := 8) (v := .int .i64 b2) (Fr.set_new (b := w.heap.size + 1) (i := 7) (v := .int .i64 b1) (Fr.set_new (b := w.heap.size + 1) (i := 6) (v := .int .i64 x1) (Fr.set_new (b := w.heap.size + 1) (i := 5) (v := .int .i64 a2) (Fr.set_new (b := w.heap.size + 1) (i := 4) (v := .int .i64 a1) (Fr.set_new (b := w.heap.size + 1) (i := 3) (v := .bool tb) (Fr.set_new (b := w.heap.size + 1) (i := 2) (v := .int .i64 ta) (Fr.set_new (b := w.heap.size + 1) (i := 1) (v := .bool ab) (Fr.set_new (b := w.heap.size + 1) (i := 0) (v := .int .i64 ao) HGN.out (Nat.le_succ _)) (Nat.le_succ _)) (Nat.le_succ _)) (Nat.le_succ _)) (Nat.le_succ _)) (Nat.le_succ _)) (Nat.le_succ _)) (Nat.le_succ _)) (Nat.le_succ _)) (Nat.le_succ _)) (Nat.le_succ _)) (Nat.le_succ _)) (Nat.le_succ _))
    have HSF := hid (Fr.set (b := w.heap.size + 1) (i := 12) (Fr.set (b := w.heap.size + 1) (i := 11) (Fr.set (b := w.heap.size + 1) (i := 10) (Fr.set (b := w.heap.size + 1) (i := 9) (Fr.set (b := w.heap.size + 1) (i := 8) (Fr.set (b := w.heap.size + 1) (i := 7) (Fr.set (b := w.heap.size + 1) (i := 6) (Fr.set (b := w.heap.size + 1) (i := 5) (Fr.set (b := w.heap.size + 1) (i := 4) (Fr.set (b := w.heap.size + 1) (i := 3) (Fr.set (b := w.heap.size + 1) (i := 2) (Fr.set (b := w.heap.size + 1) (i := 1) (Fr.set (b := w.heap.size + 1) (i := 0) (Fr.refl [w.heap.size + 1] w8) (List.mem_singleton.2 rfl) (.int .i64 ao)) (List.mem_singleton.2 rfl) (.bool ab)) (List.mem_singleton.2 rfl) (.int .i64 ta)) (List.mem_singleton.2 rfl) (.bool tb)) (List.mem_singleton.2 rfl) (.int .i64 a1)) (List.mem_singleton.2 rfl) (.int .i64 a2)) (List.mem_singleton.2 rfl) (.int .i64 x1)) (List.mem_singleton.2 rfl) (.int .i64 b1)) (List.mem_singleton.2 rfl) (.int .i64 b2)) (List.mem_singleton.2 rfl) (.int .i64 c1)) (List.mem_singleton.2 rfl) (.int .i64 c2)) (List.mem_singleton.2 rfl) (.slice aS nS cS)) (List.mem_singleton.2 rfl) (.bool m))
    have HO7 := hid (owns_low (owns_fr HON.out HSF.out (fun g hg hm => by have h2 := List.mem_singleton.1 hm; have h3 := (HON.out.lt g hg).1; omega)) HLOW.out)
    have HZ7 := hid (obj_fr HZN.out HSF.out (fun hm => by have h2 := List.mem_singleton.1 hm; omega))
    go_wp2
    refine bodyPost_ret (results_cell_row (t := 40) (fr := (0, 0)) rfl _ _ (w.heap.size + 1) _ _ rfl (obj_set (obj_set (obj_set (obj_set (obj_set (obj_set (obj_set (obj_set (obj_set (obj_set (obj_set (obj_set (obj_set HRN.out 0 _) 1 _) 2 _) 3 _) 4 _) 5 _) 6 _) 7 _) 8 _) 9 _) 10 _) 11 _) 12 _) Tryz.underlying40 rfl (by kernel_rfl)) rfl ?_
    exact ⟨.slice aS nS cS, by simp, by rw [← HNS.out]; exact HO7.out, HZ7.out, HKK.out⟩
set_option maxRecDepth 10000 in
set_option maxHeartbeats 4000000 in
theorem do_click {w0 : World} {P : Nat} {g1 g2 gx : Int → Bool → Int} {Sel : Int → Int → List Spn} (A : Ans w0 P g1 g2 gx Sel) (Z : Nat) (ao fo goal a x ta : Int) (ab fb aim ext bk tb : Bool) (t : ByteArray) (w : World) (hw : Fr [] w0 w) (hZ0 : w0.heap.size ≤ Z) (hZ : w.heap[Z]? = some (.cells (sesC P ao ab fo fb aim goal) 240 (0, 0)))
    (hT : ∀ Y, Fr [] w0 Y → Calls Tryz.prog 88 #[.pointer (some ⟨P, 0, none⟩), .int .i64 a, .int .i64 x] Y fun e w' => e = .returned (.agg #[.int .i64 ta, .bool tb]) ∧ Fr [] Y w') :
    Calls Tryz.prog 95 #[.pointer (some ⟨Z, 0, none⟩), opV 8 ext a x bk t] w fun e w' => ∃ v, e = .returned (.agg (stC (if ext then ao else ta) (if ext then ab else tb) ta tb (g1 ta tb) (g2 ta tb) (gx ta tb) (g1 ta true) (g2 ta true) (g1 ta false) (g2 ta false) v (!(decide (ta = fo) && tb == fb)))) ∧ w'.ownsRow w.heap.size 90 5 v (Sel (if ext then ao else ta) ta).length (spCells (Sel (if ext then ao else ta) ta)) ∧ w'.heap[Z]? = some (.cells (sesC P (if ext then ao else ta) (if ext then ab else tb) ta tb false (if false && !aim then gx fo fb else goal)) 240 (0, 0)) ∧ Fr [Z] w w' := by
  obtain ⟨m, hm⟩ : ∃ m, m = (!(decide (ta = fo) && tb == fb)) := ⟨_, rfl⟩
  rw [← hm]
  obtain ⟨ng, hng⟩ : ∃ ng, ng = (if false && !aim then gx fo fb else goal) := ⟨_, rfl⟩
  rw [← hng]
  have HZ := hid hZ
  have HD := hid (fun Y => deed_click a x ext bk t Y)
  have HAI := hid (fun (Y : World) (hf : Fr [] w Y) => show Calls Tryz.prog 166 #[.pointer (some ⟨Z, 0, none⟩), .bool false] Y fun e w' => e = .returned (.tuple #[]) ∧ w'.heap[Z]? = some (.cells (sesC P ao ab fo fb false ng) 240 (0, 0)) ∧ Fr [Z] Y w' by
    rw [hng]
    exact aim_any Z P ao fo goal (gx fo fb) ab fb aim false Y (obj_fr hZ hf List.not_mem_nil) (fun Y' hf' => A.x fo fb Y' (hw.trans (hf.trans hf'))))
  have HTA := hid (fun (Y : World) (hf : Fr [Z] w Y) (hz : Y.heap[Z]? = some (.cells (sesC P ao ab fo fb false ng) 240 (0, 0))) => show Calls Tryz.prog 167 #[.pointer (some ⟨Z, 0, none⟩), .iface 348 (.agg #[.int .i64 a, .int .i64 x])] Y fun e w' => e = .returned (.tuple #[.agg #[.int .i64 ta, .bool tb], .bool m]) ∧ Fr [] Y w' by rw [hm]; exact targ_click Z P ao fo ng a x ta ab fb false tb Y hz (fun Y' hf' => hT Y' ((fr_ses hw hf hZ0).trans hf')))
  have HST := hid (fun (ao' : Int) (ab' : Bool) (Y : World) (hf : Fr [Z] w Y) (hz : Y.heap[Z]? = some (.cells (sesC P ao' ab' ta tb false ng) 240 (0, 0))) => A.state Z ao' ta ng ab' tb false m Y (fr_ses hw hf hZ0) hz)
  generalize g1 ta tb = a1 at *
  generalize g2 ta tb = a2 at *
  generalize gx ta tb = x1 at *
  generalize g1 ta true = b1 at *
  generalize g2 ta true = b2 at *
  generalize g1 ta false = c1 at *
  generalize g2 ta false = c2 at *
  obtain ⟨w2, hw2⟩ : ∃ w2, w2 = (w.alloc (.cells #[.int .i64 8, .bool ext, .int .i64 a, .int .i64 x, .bool bk, .string t] 33)).alloc (.cells #[.int .i64 0, .bool false, .int .i64 0, .bool false, .int .i64 0, .int .i64 0, .int .i64 0, .int .i64 0, .int .i64 0, .int .i64 0, .int .i64 0, .slice none 0 0, .bool false] 40) := ⟨_, rfl⟩
  have HF2 := hid (show Fr [] w w2 by rw [hw2]; exact ((Fr.refl [] w).alloc _).alloc _)
  have HO2 := hid (show w2.heap[w.heap.size]? = some (.cells #[.int .i64 8, .bool ext, .int .i64 a, .int .i64 x, .bool bk, .string t] 33 (0, 0)) by rw [hw2]; exact obj_fr (obj_new w _) ((Fr.refl [] _).alloc _) List.not_mem_nil)
  have HR2 := hid (show w2.heap[w.heap.size + 1]? = some (.cells #[.int .i64 0, .bool false, .int .i64 0, .bool false, .int .i64 0, .int .i64 0, .int .i64 0, .int .i64 0, .int .i64 0, .int .i64 0, .int .i64 0, .slice none 0 0, .bool false] 40 (0, 0)) by
    have hs : (w.alloc (.cells #[.int .i64 8, .bool ext, .int .i64 a, .int .i64 x, .bool bk, .string t] 33)).heap.size = w.heap.size + 1 := by simp
    have h0 := obj_new (w.alloc (.cells #[.int .i64 8, .bool ext, .int .i64 a, .int .i64 x, .bool bk, .string t] 33)) (.cells #[.int .i64 0, .bool false, .int .i64 0, .bool false, .int .i64 0, .int .i64 0, .int .i64 0, .int .i64 0, .int .i64 0, .int .i64 0, .int .i64 0, .slice none 0 0, .bool false] 40)
    rw [hs] at h0
    rw [hw2]; exact h0)
  have hZl := obj_lt HZ.out
  clear A hw hZ hT hng hm
  cases ext
  · simp only [Bool.false_eq_true, ↓reduceIte]
    go_enter Tryz.func95, Tryz.ntmps95
    go_wp2_with fail
    rw [← hw2]
    clear hw2
    refine (HD.out w2).mono ?_
    rintro e w3 ⟨rfl, hf3⟩
    have HF3 := hid (HF2.out.trans hf3)
    have HR3 := hid (obj_fr HR2.out hf3 List.not_mem_nil)
    have HP3 := hid (obj_fr HO2.out hf3 List.not_mem_nil)
    have hme := me3 (.agg #[.int .i64 a, .int .i64 x])
    clear hf3 HD
    go_wp2_with fail
    refine (aims_click a x w3).mono ?_
    rintro e w4 ⟨rfl, hf4⟩
    have HF4 := hid (HF3.out.trans hf4)
    have HR4 := hid (obj_fr HR3.out hf4 List.not_mem_nil)
    have HP4 := hid (obj_fr HP3.out hf4 List.not_mem_nil)
    clear hf4 hme
    go_wp2_with fail
    refine (HAI.out w4 HF4.out).mono ?_
    rintro e w5 ⟨rfl, hz5, hf5⟩
    have HZ5 := hid hz5
    have HG5 := hid (show Fr [Z] w w5 from (HF4.out.mono (fun _ h _ => absurd h List.not_mem_nil) : Fr [Z] w w4).trans hf5)
    have HR5 := hid (obj_fr HR4.out hf5 (fun hm => by have h2 := List.mem_singleton.1 hm; omega))
    have HP5 := hid (obj_fr HP4.out hf5 (fun hm => by have h2 := List.mem_singleton.1 hm; omega))
    clear hz5 hf5 HAI
    go_wp2_with fail
    refine (HTA.out w5 HG5.out HZ5.out).mono ?_
    rintro e w6 ⟨rfl, hf6⟩
    have HZ6 := hid (obj_fr HZ5.out hf6 List.not_mem_nil)
    have HG6 := hid (HG5.out.trans (hf6.mono (fun _ h _ => absurd h List.not_mem_nil) : Fr [Z] w5 w6))
    have HR6 := hid (obj_fr HR5.out hf6 List.not_mem_nil)
    have HP6 := hid (obj_fr HP5.out hf6 List.not_mem_nil)
    clear hf6 HTA
    have y1 := obj_cell HZ6.out (i := 1) (v := .int .i64 ao) rfl
    have y2 := obj_cell HZ6.out (i := 2) (v := .bool ab) rfl
    have y3 := obj_cell HZ6.out (i := 3) (v := .int .i64 fo) rfl
    have y4 := obj_cell HZ6.out (i := 4) (v := .bool fb) rfl
    have f1 := obj_froz HZ6.out 1
    have f2 := obj_froz HZ6.out 2
    have f3 := obj_froz HZ6.out 3
    have f4 := obj_froz HZ6.out 4
    have p1 := obj_cell HP6.out (i := 1) (v := .bool false) rfl
    have hZ6 := obj_lt HZ6.out
    have hP6 := obj_lt HP6.out
    go_wp2_with fail
    obtain ⟨w7, hw7⟩ : ∃ w7, w7 = ((((w6.setCell ⟨Z, 3, none⟩ (.int .i64 ta)).setCell ⟨Z, 4, none⟩ (.bool tb)).setCell ⟨Z, 1, none⟩ (.int .i64 ta)).setCell ⟨Z, 2, none⟩ (.bool tb)).alloc (.cells #[.int .i64 ta, .bool tb] 35) := ⟨_, rfl⟩
    rw [← hw7]
    have HZ7 := hid (show w7.heap[Z]? = some (.cells (sesC P ta tb ta tb false ng) 240 (0, 0)) by rw [hw7]; exact obj_fr (obj_set (obj_set (obj_set (obj_set HZ6.out 3 _) 4 _) 1 _) 2 _) ((Fr.refl [] _).alloc _) List.not_mem_nil)
    have HG7 := hid (show Fr [Z] w w7 by rw [hw7]; exact ((((HG6.out.set (i := 3) (List.mem_singleton.2 rfl) (.int .i64 ta)).set (i := 4) (List.mem_singleton.2 rfl) (.bool tb)).set (i := 1) (List.mem_singleton.2 rfl) (.int .i64 ta)).set (i := 2) (List.mem_singleton.2 rfl) (.bool tb)).alloc _)
    have HK7 := hid (show Fr [Z] w6 w7 by rw [hw7]; exact (((((Fr.refl [Z] w6).set (i := 3) (List.mem_singleton.2 rfl) (.int .i64 ta)).set (i := 4) (List.mem_singleton.2 rfl) (.bool tb)).set (i := 1) (List.mem_singleton.2 rfl) (.int .i64 ta)).set (i := 2) (List.mem_singleton.2 rfl) (.bool tb)).alloc _)
    have HR7 := hid (obj_fr HR6.out HK7.out (fun hm => by have h2 := List.mem_singleton.1 hm; omega))
    clear hw7 y1 y2 y3 y4 f1 f2 f3 f4 p1
    refine (HST.out ta tb w7 HG7.out HZ7.out).mono ?_
    rintro e w8 ⟨vS, rfl, own8, hf8⟩
    obtain ⟨aS, cS, hvS⟩ := owns_slice own8
    subst hvS
    have HON := hid own8
    have HRN := hid (obj_fr HR7.out hf8 List.not_mem_nil)
    have HGN := hid (show Fr [Z] w w8 from HG7.out.trans (hf8.mono (fun _ h _ => absurd h List.not_mem_nil) : Fr [Z] w7 w8))
    have HZN := hid (obj_fr HZ7.out hf8 List.not_mem_nil)
    have hlow := obj_lt HR7.out
    have HLOW := hid (show w.heap.size ≤ w7.heap.size by omega)
    obtain ⟨nS, hnS⟩ : ∃ nS, nS = (Sel ta ta).length := ⟨_, rfl⟩
    have HNS := hid hnS
    rw [← hnS] at HON ⊢
    clear own8 hf8 HST hnS
    have r0 := obj_cell HRN.out (i := 0) (v := .int .i64 0) rfl
    have k0 := obj_froz HRN.out 0
    have r1 := obj_cell HRN.out (i := 1) (v := .bool false) rfl
    have k1 := obj_froz HRN.out 1
    have r2 := obj_cell HRN.out (i := 2) (v := .int .i64 0) rfl
    have k2 := obj_froz HRN.out 2
    have r3 := obj_cell HRN.out (i := 3) (v := .bool false) rfl
    have k3 := obj_froz HRN.out 3
    have r4 := obj_cell HRN.out (i := 4) (v := .int .i64 0) rfl
    have k4 := obj_froz HRN.out 4
    have r5 := obj_cell HRN.out (i := 5) (v := .int .i64 0) rfl
    have k5 := obj_froz HRN.out 5
    have r6 := obj_cell HRN.out (i := 6) (v := .int .i64 0) rfl
    have k6 := obj_froz HRN.out 6
    have r7 := obj_cell HRN.out (i := 7) (v := .int .i64 0) rfl
    have k7 := obj_froz HRN.out 7
    have r8 := obj_cell HRN.out (i := 8) (v := .int .i64 0) rfl
    have k8 := obj_froz HRN.out 8
    have r9 := obj_cell HRN.out (i := 9) (v := .int .i64 0) rfl
    have k9 := obj_froz HRN.out 9
    have r10 := obj_cell HRN.out (i := 10) (v := .int .i64 0) rfl
    have k10 := obj_froz HRN.out 10
    have r11 := obj_cell HRN.out (i := 11) (v := .slice none 0 0) rfl
    have k11 := obj_froz HRN.out 11
    have r12 := obj_cell HRN.out (i := 12) (v := .bool false) rfl
    have k12 := obj_froz HRN.out 12
    have HKK := hid (Fr.set_new (b := w.heap.size + 1) (i := 12) (v := .bool m) (Fr.set_new (b := w.heap.size + 1) (i := 11) (v := .slice aS nS cS) (Fr.set_new (b := w.heap.size + 1) (i := 10) (v := .int .i64 c2) (Fr.set_new (b := w.heap.size + 1) (i := 9) (v := .int .i64 c1) (Fr.set_new (b := w.heap.size + 1) (i := 8) (v := .int .i64 b2) (Fr.set_new (b := w.heap.size + 1) (i := 7) (v := .int .i64 b1) (Fr.set_new (b := w.heap.size + 1) (i := 6) (v := .int .i64 x1) (Fr.set_new (b := w.heap.size + 1) (i := 5) (v := .int .i64 a2) (Fr.set_new (b := w.heap.size + 1) (i := 4) (v := .int .i64 a1) (Fr.set_new (b := w.heap.size + 1) (i := 3) (v := .bool tb) (Fr.set_new (b := w.heap.size + 1) (i := 2) (v := .int .i64 ta) (Fr.set_new (b := w.heap.size + 1) (i := 1) (v := .bool tb) (Fr.set_new (b := w.heap.size + 1) (i := 0) (v := .int .i64 ta) HGN.out (Nat.le_succ _)) (Nat.le_succ _)) (Nat.le_succ _)) (Nat.le_succ _)) (Nat.le_succ _)) (Nat.le_succ _)) (Nat.le_succ _)) (Nat.le_succ _)) (Nat.le_succ _)) (Nat.le_succ _)) (Nat.le_succ _)) (Nat.le_succ _)) (Nat.le_succ _))
    have HSF := hid (Fr.set (b := w.heap.size + 1) (i := 12) (Fr.set (b := w.heap.size + 1) (i := 11) (Fr.set (b := w.heap.size + 1) (i := 10) (Fr.set (b := w.heap.size + 1) (i := 9) (Fr.set (b := w.heap.size + 1) (i := 8) (Fr.set (b := w.heap.size + 1) (i := 7) (Fr.set (b := w.heap.size + 1) (i := 6) (Fr.set (b := w.heap.size + 1) (i := 5) (Fr.set (b := w.heap.size + 1) (i := 4) (Fr.set (b := w.heap.size + 1) (i := 3) (Fr.set (b := w.heap.size + 1) (i := 2) (Fr.set (b := w.heap.size + 1) (i := 1) (Fr.set (b := w.heap.size + 1) (i := 0) (Fr.refl [w.heap.size + 1] w8) (List.mem_singleton.2 rfl) (.int .i64 ta)) (List.mem_singleton.2 rfl) (.bool tb)) (List.mem_singleton.2 rfl) (.int .i64 ta)) (List.mem_singleton.2 rfl) (.bool tb)) (List.mem_singleton.2 rfl) (.int .i64 a1)) (List.mem_singleton.2 rfl) (.int .i64 a2)) (List.mem_singleton.2 rfl) (.int .i64 x1)) (List.mem_singleton.2 rfl) (.int .i64 b1)) (List.mem_singleton.2 rfl) (.int .i64 b2)) (List.mem_singleton.2 rfl) (.int .i64 c1)) (List.mem_singleton.2 rfl) (.int .i64 c2)) (List.mem_singleton.2 rfl) (.slice aS nS cS)) (List.mem_singleton.2 rfl) (.bool m))
    have HO7 := hid (owns_low (owns_fr HON.out HSF.out (fun g hg hm => by have h2 := List.mem_singleton.1 hm; have h3 := (HON.out.lt g hg).1; omega)) HLOW.out)
    have HZ7 := hid (obj_fr HZN.out HSF.out (fun hm => by have h2 := List.mem_singleton.1 hm; omega))
    go_wp2
    refine bodyPost_ret (results_cell_row (t := 40) (fr := (0, 0)) rfl _ _ (w.heap.size + 1) _ _ rfl (obj_set (obj_set (obj_set (obj_set (obj_set (obj_set (obj_set (obj_set (obj_set (obj_set (obj_set (obj_set (obj_set HRN.out 0 _) 1 _) 2 _) 3 _) 4 _) 5 _) 6 _) 7 _) 8 _) 9 _) 10 _) 11 _) 12 _) Tryz.underlying40 rfl (by kernel_rfl)) rfl ?_
    exact ⟨.slice aS nS cS, by simp, by rw [← HNS.out]; exact HO7.out, HZ7.out, HKK.out⟩
  · simp only [↓reduceIte]
    go_enter Tryz.func95, Tryz.ntmps95
    go_wp2_with fail
    rw [← hw2]
    clear hw2
    refine (HD.out w2).mono ?_
    rintro e w3 ⟨rfl, hf3⟩
    have HF3 := hid (HF2.out.trans hf3)
    have HR3 := hid (obj_fr HR2.out hf3 List.not_mem_nil)
    have HP3 := hid (obj_fr HO2.out hf3 List.not_mem_nil)
    have hme := me3 (.agg #[.int .i64 a, .int .i64 x])
    clear hf3 HD
    go_wp2_with fail
    refine (aims_click a x w3).mono ?_
    rintro e w4 ⟨rfl, hf4⟩
    have HF4 := hid (HF3.out.trans hf4)
    have HR4 := hid (obj_fr HR3.out hf4 List.not_mem_nil)
    have HP4 := hid (obj_fr HP3.out hf4 List.not_mem_nil)
    clear hf4 hme
    go_wp2_with fail
    refine (HAI.out w4 HF4.out).mono ?_
    rintro e w5 ⟨rfl, hz5, hf5⟩
    have HZ5 := hid hz5
    have HG5 := hid (show Fr [Z] w w5 from (HF4.out.mono (fun _ h _ => absurd h List.not_mem_nil) : Fr [Z] w w4).trans hf5)
    have HR5 := hid (obj_fr HR4.out hf5 (fun hm => by have h2 := List.mem_singleton.1 hm; omega))
    have HP5 := hid (obj_fr HP4.out hf5 (fun hm => by have h2 := List.mem_singleton.1 hm; omega))
    clear hz5 hf5 HAI
    go_wp2_with fail
    refine (HTA.out w5 HG5.out HZ5.out).mono ?_
    rintro e w6 ⟨rfl, hf6⟩
    have HZ6 := hid (obj_fr HZ5.out hf6 List.not_mem_nil)
    have HG6 := hid (HG5.out.trans (hf6.mono (fun _ h _ => absurd h List.not_mem_nil) : Fr [Z] w5 w6))
    have HR6 := hid (obj_fr HR5.out hf6 List.not_mem_nil)
    have HP6 := hid (obj_fr HP5.out hf6 List.not_mem_nil)
    clear hf6 HTA
    have y1 := obj_cell HZ6.out (i := 1) (v := .int .i64 ao) rfl
    have y2 := obj_cell HZ6.out (i := 2) (v := .bool ab) rfl
    have y3 := obj_cell HZ6.out (i := 3) (v := .int .i64 fo) rfl
    have y4 := obj_cell HZ6.out (i := 4) (v := .bool fb) rfl
    have f1 := obj_froz HZ6.out 1
    have f2 := obj_froz HZ6.out 2
    have f3 := obj_froz HZ6.out 3
    have f4 := obj_froz HZ6.out 4
    have p1 := obj_cell HP6.out (i := 1) (v := .bool true) rfl
    have hZ6 := obj_lt HZ6.out
    have hP6 := obj_lt HP6.out
    go_wp2_with fail
    obtain ⟨w7, hw7⟩ : ∃ w7, w7 = ((w6.setCell ⟨Z, 3, none⟩ (.int .i64 ta)).setCell ⟨Z, 4, none⟩ (.bool tb)).alloc (.cells #[.int .i64 ta, .bool tb] 35) := ⟨_, rfl⟩
    rw [← hw7]
    have HZ7 := hid (show w7.heap[Z]? = some (.cells (sesC P ao ab ta tb false ng) 240 (0, 0)) by rw [hw7]; exact obj_fr (obj_set (obj_set HZ6.out 3 _) 4 _) ((Fr.refl [] _).alloc _) List.not_mem_nil)
    have HG7 := hid (show Fr [Z] w w7 by rw [hw7]; exact ((HG6.out.set (i := 3) (List.mem_singleton.2 rfl) (.int .i64 ta)).set (i := 4) (List.mem_singleton.2 rfl) (.bool tb)).alloc _)
    have HK7 := hid (show Fr [Z] w6 w7 by rw [hw7]; exact (((Fr.refl [Z] w6).set (i := 3) (List.mem_singleton.2 rfl) (.int .i64 ta)).set (i := 4) (List.mem_singleton.2 rfl) (.bool tb)).alloc _)
    have HR7 := hid (obj_fr HR6.out HK7.out (fun hm => by have h2 := List.mem_singleton.1 hm; omega))
    clear hw7 y1 y2 y3 y4 f1 f2 f3 f4 p1
    refine (HST.out ao ab w7 HG7.out HZ7.out).mono ?_
    rintro e w8 ⟨vS, rfl, own8, hf8⟩
    obtain ⟨aS, cS, hvS⟩ := owns_slice own8
    subst hvS
    have HON := hid own8
    have HRN := hid (obj_fr HR7.out hf8 List.not_mem_nil)
    have HGN := hid (show Fr [Z] w w8 from HG7.out.trans (hf8.mono (fun _ h _ => absurd h List.not_mem_nil) : Fr [Z] w7 w8))
    have HZN := hid (obj_fr HZ7.out hf8 List.not_mem_nil)
    have hlow := obj_lt HR7.out
    have HLOW := hid (show w.heap.size ≤ w7.heap.size by omega)
    obtain ⟨nS, hnS⟩ : ∃ nS, nS = (Sel ao ta).length := ⟨_, rfl⟩
    have HNS := hid hnS
    rw [← hnS] at HON ⊢
    clear own8 hf8 HST hnS
    have r0 := obj_cell HRN.out (i := 0) (v := .int .i64 0) rfl
    have k0 := obj_froz HRN.out 0
    have r1 := obj_cell HRN.out (i := 1) (v := .bool false) rfl
    have k1 := obj_froz HRN.out 1
    have r2 := obj_cell HRN.out (i := 2) (v := .int .i64 0) rfl
    have k2 := obj_froz HRN.out 2
    have r3 := obj_cell HRN.out (i := 3) (v := .bool false) rfl
    have k3 := obj_froz HRN.out 3
    have r4 := obj_cell HRN.out (i := 4) (v := .int .i64 0) rfl
    have k4 := obj_froz HRN.out 4
    have r5 := obj_cell HRN.out (i := 5) (v := .int .i64 0) rfl
    have k5 := obj_froz HRN.out 5
    have r6 := obj_cell HRN.out (i := 6) (v := .int .i64 0) rfl
    have k6 := obj_froz HRN.out 6
    have r7 := obj_cell HRN.out (i := 7) (v := .int .i64 0) rfl
    have k7 := obj_froz HRN.out 7
    have r8 := obj_cell HRN.out (i := 8) (v := .int .i64 0) rfl
    have k8 := obj_froz HRN.out 8
    have r9 := obj_cell HRN.out (i := 9) (v := .int .i64 0) rfl
    have k9 := obj_froz HRN.out 9
    have r10 := obj_cell HRN.out (i := 10) (v := .int .i64 0) rfl
    have k10 := obj_froz HRN.out 10
    have r11 := obj_cell HRN.out (i := 11) (v := .slice none 0 0) rfl
    have k11 := obj_froz HRN.out 11
    have r12 := obj_cell HRN.out (i := 12) (v := .bool false) rfl
    have k12 := obj_froz HRN.out 12
    have HKK := hid (Fr.set_new (b := w.heap.size + 1) (i := 12) (v := .bool m) (Fr.set_new (b := w.heap.size + 1) (i := 11) (v := .slice aS nS cS) (Fr.set_new (b := w.heap.size + 1) (i := 10) (v := .int .i64 c2) (Fr.set_new (b := w.heap.size + 1) (i := 9) (v := .int .i64 c1) (Fr.set_new (b := w.heap.size + 1) (i := 8) (v := .int .i64 b2) (Fr.set_new (b := w.heap.size + 1) (i := 7) (v := .int .i64 b1) (Fr.set_new (b := w.heap.size + 1) (i := 6) (v := .int .i64 x1) (Fr.set_new (b := w.heap.size + 1) (i := 5) (v := .int .i64 a2) (Fr.set_new (b := w.heap.size + 1) (i := 4) (v := .int .i64 a1) (Fr.set_new (b := w.heap.size + 1) (i := 3) (v := .bool tb) (Fr.set_new (b := w.heap.size + 1) (i := 2) (v := .int .i64 ta) (Fr.set_new (b := w.heap.size + 1) (i := 1) (v := .bool ab) (Fr.set_new (b := w.heap.size + 1) (i := 0) (v := .int .i64 ao) HGN.out (Nat.le_succ _)) (Nat.le_succ _)) (Nat.le_succ _)) (Nat.le_succ _)) (Nat.le_succ _)) (Nat.le_succ _)) (Nat.le_succ _)) (Nat.le_succ _)) (Nat.le_succ _)) (Nat.le_succ _)) (Nat.le_succ _)) (Nat.le_succ _)) (Nat.le_succ _))
    have HSF := hid (Fr.set (b := w.heap.size + 1) (i := 12) (Fr.set (b := w.heap.size + 1) (i := 11) (Fr.set (b := w.heap.size + 1) (i := 10) (Fr.set (b := w.heap.size + 1) (i := 9) (Fr.set (b := w.heap.size + 1) (i := 8) (Fr.set (b := w.heap.size + 1) (i := 7) (Fr.set (b := w.heap.size + 1) (i := 6) (Fr.set (b := w.heap.size + 1) (i := 5) (Fr.set (b := w.heap.size + 1) (i := 4) (Fr.set (b := w.heap.size + 1) (i := 3) (Fr.set (b := w.heap.size + 1) (i := 2) (Fr.set (b := w.heap.size + 1) (i := 1) (Fr.set (b := w.heap.size + 1) (i := 0) (Fr.refl [w.heap.size + 1] w8) (List.mem_singleton.2 rfl) (.int .i64 ao)) (List.mem_singleton.2 rfl) (.bool ab)) (List.mem_singleton.2 rfl) (.int .i64 ta)) (List.mem_singleton.2 rfl) (.bool tb)) (List.mem_singleton.2 rfl) (.int .i64 a1)) (List.mem_singleton.2 rfl) (.int .i64 a2)) (List.mem_singleton.2 rfl) (.int .i64 x1)) (List.mem_singleton.2 rfl) (.int .i64 b1)) (List.mem_singleton.2 rfl) (.int .i64 b2)) (List.mem_singleton.2 rfl) (.int .i64 c1)) (List.mem_singleton.2 rfl) (.int .i64 c2)) (List.mem_singleton.2 rfl) (.slice aS nS cS)) (List.mem_singleton.2 rfl) (.bool m))
    have HO7 := hid (owns_low (owns_fr HON.out HSF.out (fun g hg hm => by have h2 := List.mem_singleton.1 hm; have h3 := (HON.out.lt g hg).1; omega)) HLOW.out)
    have HZ7 := hid (obj_fr HZN.out HSF.out (fun hm => by have h2 := List.mem_singleton.1 hm; omega))
    go_wp2
    refine bodyPost_ret (results_cell_row (t := 40) (fr := (0, 0)) rfl _ _ (w.heap.size + 1) _ _ rfl (obj_set (obj_set (obj_set (obj_set (obj_set (obj_set (obj_set (obj_set (obj_set (obj_set (obj_set (obj_set (obj_set HRN.out 0 _) 1 _) 2 _) 3 _) 4 _) 5 _) 6 _) 7 _) 8 _) 9 _) 10 _) 11 _) 12 _) Tryz.underlying40 rfl (by kernel_rfl)) rfl ?_
    exact ⟨.slice aS nS cS, by simp, by rw [← HNS.out]; exact HO7.out, HZ7.out, HKK.out⟩
set_option maxRecDepth 10000 in
set_option maxHeartbeats 4000000 in
theorem do_jump {w0 : World} {P : Nat} {g1 g2 gx : Int → Bool → Int} {Sel : Int → Int → List Spn} (A : Ans w0 P g1 g2 gx Sel) (Z : Nat) (ao fo goal a x ta : Int) (ab fb aim ext bk tb : Bool) (t : ByteArray) (w : World) (hw : Fr [] w0 w) (hZ0 : w0.heap.size ≤ Z) (hZ : w.heap[Z]? = some (.cells (sesC P ao ab fo fb aim goal) 240 (0, 0)))
    (hT : ∀ Y, Fr [] w0 Y → Calls Tryz.prog 87 #[.pointer (some ⟨P, 0, none⟩), .agg #[.int .i64 a, .bool bk]] Y fun e w' => e = .returned (.agg #[.int .i64 ta, .bool tb]) ∧ Fr [] Y w') :
    Calls Tryz.prog 95 #[.pointer (some ⟨Z, 0, none⟩), opV 9 ext a x bk t] w fun e w' => ∃ v, e = .returned (.agg (stC (if ext then ao else ta) (if ext then ab else tb) ta tb (g1 ta tb) (g2 ta tb) (gx ta tb) (g1 ta true) (g2 ta true) (g1 ta false) (g2 ta false) v (!(decide (ta = fo) && tb == fb)))) ∧ w'.ownsRow w.heap.size 90 5 v (Sel (if ext then ao else ta) ta).length (spCells (Sel (if ext then ao else ta) ta)) ∧ w'.heap[Z]? = some (.cells (sesC P (if ext then ao else ta) (if ext then ab else tb) ta tb false (if false && !aim then gx fo fb else goal)) 240 (0, 0)) ∧ Fr [Z] w w' := by
  obtain ⟨m, hm⟩ : ∃ m, m = (!(decide (ta = fo) && tb == fb)) := ⟨_, rfl⟩
  rw [← hm]
  obtain ⟨ng, hng⟩ : ∃ ng, ng = (if false && !aim then gx fo fb else goal) := ⟨_, rfl⟩
  rw [← hng]
  have HZ := hid hZ
  have HD := hid (fun Y => deed_jump a x ext bk t Y)
  have HAI := hid (fun (Y : World) (hf : Fr [] w Y) => show Calls Tryz.prog 166 #[.pointer (some ⟨Z, 0, none⟩), .bool false] Y fun e w' => e = .returned (.tuple #[]) ∧ w'.heap[Z]? = some (.cells (sesC P ao ab fo fb false ng) 240 (0, 0)) ∧ Fr [Z] Y w' by
    rw [hng]
    exact aim_any Z P ao fo goal (gx fo fb) ab fb aim false Y (obj_fr hZ hf List.not_mem_nil) (fun Y' hf' => A.x fo fb Y' (hw.trans (hf.trans hf'))))
  have HTA := hid (fun (Y : World) (hf : Fr [Z] w Y) (hz : Y.heap[Z]? = some (.cells (sesC P ao ab fo fb false ng) 240 (0, 0))) => show Calls Tryz.prog 167 #[.pointer (some ⟨Z, 0, none⟩), .iface 349 (.agg #[.int .i64 a, .bool bk])] Y fun e w' => e = .returned (.tuple #[.agg #[.int .i64 ta, .bool tb], .bool m]) ∧ Fr [] Y w' by rw [hm]; exact targ_jump Z P ao fo ng a ta ab fb false bk tb Y hz (fun Y' hf' => hT Y' ((fr_ses hw hf hZ0).trans hf')))
  have HST := hid (fun (ao' : Int) (ab' : Bool) (Y : World) (hf : Fr [Z] w Y) (hz : Y.heap[Z]? = some (.cells (sesC P ao' ab' ta tb false ng) 240 (0, 0))) => A.state Z ao' ta ng ab' tb false m Y (fr_ses hw hf hZ0) hz)
  generalize g1 ta tb = a1 at *
  generalize g2 ta tb = a2 at *
  generalize gx ta tb = x1 at *
  generalize g1 ta true = b1 at *
  generalize g2 ta true = b2 at *
  generalize g1 ta false = c1 at *
  generalize g2 ta false = c2 at *
  obtain ⟨w2, hw2⟩ : ∃ w2, w2 = (w.alloc (.cells #[.int .i64 9, .bool ext, .int .i64 a, .int .i64 x, .bool bk, .string t] 33)).alloc (.cells #[.int .i64 0, .bool false, .int .i64 0, .bool false, .int .i64 0, .int .i64 0, .int .i64 0, .int .i64 0, .int .i64 0, .int .i64 0, .int .i64 0, .slice none 0 0, .bool false] 40) := ⟨_, rfl⟩
  have HF2 := hid (show Fr [] w w2 by rw [hw2]; exact ((Fr.refl [] w).alloc _).alloc _)
  have HO2 := hid (show w2.heap[w.heap.size]? = some (.cells #[.int .i64 9, .bool ext, .int .i64 a, .int .i64 x, .bool bk, .string t] 33 (0, 0)) by rw [hw2]; exact obj_fr (obj_new w _) ((Fr.refl [] _).alloc _) List.not_mem_nil)
  have HR2 := hid (show w2.heap[w.heap.size + 1]? = some (.cells #[.int .i64 0, .bool false, .int .i64 0, .bool false, .int .i64 0, .int .i64 0, .int .i64 0, .int .i64 0, .int .i64 0, .int .i64 0, .int .i64 0, .slice none 0 0, .bool false] 40 (0, 0)) by
    have hs : (w.alloc (.cells #[.int .i64 9, .bool ext, .int .i64 a, .int .i64 x, .bool bk, .string t] 33)).heap.size = w.heap.size + 1 := by simp
    have h0 := obj_new (w.alloc (.cells #[.int .i64 9, .bool ext, .int .i64 a, .int .i64 x, .bool bk, .string t] 33)) (.cells #[.int .i64 0, .bool false, .int .i64 0, .bool false, .int .i64 0, .int .i64 0, .int .i64 0, .int .i64 0, .int .i64 0, .int .i64 0, .int .i64 0, .slice none 0 0, .bool false] 40)
    rw [hs] at h0
    rw [hw2]; exact h0)
  have hZl := obj_lt HZ.out
  clear A hw hZ hT hng hm
  cases ext
  · simp only [Bool.false_eq_true, ↓reduceIte]
    go_enter Tryz.func95, Tryz.ntmps95
    go_wp2_with fail
    rw [← hw2]
    clear hw2
    refine (HD.out w2).mono ?_
    rintro e w3 ⟨rfl, hf3⟩
    have HF3 := hid (HF2.out.trans hf3)
    have HR3 := hid (obj_fr HR2.out hf3 List.not_mem_nil)
    have HP3 := hid (obj_fr HO2.out hf3 List.not_mem_nil)
    have hme := me4 (.agg #[.int .i64 a, .bool bk])
    clear hf3 HD
    go_wp2_with fail
    refine (aims_jump a bk w3).mono ?_
    rintro e w4 ⟨rfl, hf4⟩
    have HF4 := hid (HF3.out.trans hf4)
    have HR4 := hid (obj_fr HR3.out hf4 List.not_mem_nil)
    have HP4 := hid (obj_fr HP3.out hf4 List.not_mem_nil)
    clear hf4 hme
    go_wp2_with fail
    refine (HAI.out w4 HF4.out).mono ?_
    rintro e w5 ⟨rfl, hz5, hf5⟩
    have HZ5 := hid hz5
    have HG5 := hid (show Fr [Z] w w5 from (HF4.out.mono (fun _ h _ => absurd h List.not_mem_nil) : Fr [Z] w w4).trans hf5)
    have HR5 := hid (obj_fr HR4.out hf5 (fun hm => by have h2 := List.mem_singleton.1 hm; omega))
    have HP5 := hid (obj_fr HP4.out hf5 (fun hm => by have h2 := List.mem_singleton.1 hm; omega))
    clear hz5 hf5 HAI
    go_wp2_with fail
    refine (HTA.out w5 HG5.out HZ5.out).mono ?_
    rintro e w6 ⟨rfl, hf6⟩
    have HZ6 := hid (obj_fr HZ5.out hf6 List.not_mem_nil)
    have HG6 := hid (HG5.out.trans (hf6.mono (fun _ h _ => absurd h List.not_mem_nil) : Fr [Z] w5 w6))
    have HR6 := hid (obj_fr HR5.out hf6 List.not_mem_nil)
    have HP6 := hid (obj_fr HP5.out hf6 List.not_mem_nil)
    clear hf6 HTA
    have y1 := obj_cell HZ6.out (i := 1) (v := .int .i64 ao) rfl
    have y2 := obj_cell HZ6.out (i := 2) (v := .bool ab) rfl
    have y3 := obj_cell HZ6.out (i := 3) (v := .int .i64 fo) rfl
    have y4 := obj_cell HZ6.out (i := 4) (v := .bool fb) rfl
    have f1 := obj_froz HZ6.out 1
    have f2 := obj_froz HZ6.out 2
    have f3 := obj_froz HZ6.out 3
    have f4 := obj_froz HZ6.out 4
    have p1 := obj_cell HP6.out (i := 1) (v := .bool false) rfl
    have hZ6 := obj_lt HZ6.out
    have hP6 := obj_lt HP6.out
    go_wp2_with fail
    obtain ⟨w7, hw7⟩ : ∃ w7, w7 = ((((w6.setCell ⟨Z, 3, none⟩ (.int .i64 ta)).setCell ⟨Z, 4, none⟩ (.bool tb)).setCell ⟨Z, 1, none⟩ (.int .i64 ta)).setCell ⟨Z, 2, none⟩ (.bool tb)).alloc (.cells #[.int .i64 ta, .bool tb] 35) := ⟨_, rfl⟩
    rw [← hw7]
    have HZ7 := hid (show w7.heap[Z]? = some (.cells (sesC P ta tb ta tb false ng) 240 (0, 0)) by rw [hw7]; exact obj_fr (obj_set (obj_set (obj_set (obj_set HZ6.out 3 _) 4 _) 1 _) 2 _) ((Fr.refl [] _).alloc _) List.not_mem_nil)
    have HG7 := hid (show Fr [Z] w w7 by rw [hw7]; exact ((((HG6.out.set (i := 3) (List.mem_singleton.2 rfl) (.int .i64 ta)).set (i := 4) (List.mem_singleton.2 rfl) (.bool tb)).set (i := 1) (List.mem_singleton.2 rfl) (.int .i64 ta)).set (i := 2) (List.mem_singleton.2 rfl) (.bool tb)).alloc _)
    have HK7 := hid (show Fr [Z] w6 w7 by rw [hw7]; exact (((((Fr.refl [Z] w6).set (i := 3) (List.mem_singleton.2 rfl) (.int .i64 ta)).set (i := 4) (List.mem_singleton.2 rfl) (.bool tb)).set (i := 1) (List.mem_singleton.2 rfl) (.int .i64 ta)).set (i := 2) (List.mem_singleton.2 rfl) (.bool tb)).alloc _)
    have HR7 := hid (obj_fr HR6.out HK7.out (fun hm => by have h2 := List.mem_singleton.1 hm; omega))
    clear hw7 y1 y2 y3 y4 f1 f2 f3 f4 p1
    refine (HST.out ta tb w7 HG7.out HZ7.out).mono ?_
    rintro e w8 ⟨vS, rfl, own8, hf8⟩
    obtain ⟨aS, cS, hvS⟩ := owns_slice own8
    subst hvS
    have HON := hid own8
    have HRN := hid (obj_fr HR7.out hf8 List.not_mem_nil)
    have HGN := hid (show Fr [Z] w w8 from HG7.out.trans (hf8.mono (fun _ h _ => absurd h List.not_mem_nil) : Fr [Z] w7 w8))
    have HZN := hid (obj_fr HZ7.out hf8 List.not_mem_nil)
    have hlow := obj_lt HR7.out
    have HLOW := hid (show w.heap.size ≤ w7.heap.size by omega)
    obtain ⟨nS, hnS⟩ : ∃ nS, nS = (Sel ta ta).length := ⟨_, rfl⟩
    have HNS := hid hnS
    rw [← hnS] at HON ⊢
    clear own8 hf8 HST hnS
    have r0 := obj_cell HRN.out (i := 0) (v := .int .i64 0) rfl
    have k0 := obj_froz HRN.out 0
    have r1 := obj_cell HRN.out (i := 1) (v := .bool false) rfl
    have k1 := obj_froz HRN.out 1
    have r2 := obj_cell HRN.out (i := 2) (v := .int .i64 0) rfl
    have k2 := obj_froz HRN.out 2
    have r3 := obj_cell HRN.out (i := 3) (v := .bool false) rfl
    have k3 := obj_froz HRN.out 3
    have r4 := obj_cell HRN.out (i := 4) (v := .int .i64 0) rfl
    have k4 := obj_froz HRN.out 4
    have r5 := obj_cell HRN.out (i := 5) (v := .int .i64 0) rfl
    have k5 := obj_froz HRN.out 5
    have r6 := obj_cell HRN.out (i := 6) (v := .int .i64 0) rfl
    have k6 := obj_froz HRN.out 6
    have r7 := obj_cell HRN.out (i := 7) (v := .int .i64 0) rfl
    have k7 := obj_froz HRN.out 7
    have r8 := obj_cell HRN.out (i := 8) (v := .int .i64 0) rfl
    have k8 := obj_froz HRN.out 8
    have r9 := obj_cell HRN.out (i := 9) (v := .int .i64 0) rfl
    have k9 := obj_froz HRN.out 9
    have r10 := obj_cell HRN.out (i := 10) (v := .int .i64 0) rfl
    have k10 := obj_froz HRN.out 10
    have r11 := obj_cell HRN.out (i := 11) (v := .slice none 0 0) rfl
    have k11 := obj_froz HRN.out 11
    have r12 := obj_cell HRN.out (i := 12) (v := .bool false) rfl
    have k12 := obj_froz HRN.out 12
    have HKK := hid (Fr.set_new (b := w.heap.size + 1) (i := 12) (v := .bool m) (Fr.set_new (b := w.heap.size + 1) (i := 11) (v := .slice aS nS cS) (Fr.set_new (b := w.heap.size + 1) (i := 10) (v := .int .i64 c2) (Fr.set_new (b := w.heap.size + 1) (i := 9) (v := .int .i64 c1) (Fr.set_new (b := w.heap.size + 1) (i := 8) (v := .int .i64 b2) (Fr.set_new (b := w.heap.size + 1) (i := 7) (v := .int .i64 b1) (Fr.set_new (b := w.heap.size + 1) (i := 6) (v := .int .i64 x1) (Fr.set_new (b := w.heap.size + 1) (i := 5) (v := .int .i64 a2) (Fr.set_new (b := w.heap.size + 1) (i := 4) (v := .int .i64 a1) (Fr.set_new (b := w.heap.size + 1) (i := 3) (v := .bool tb) (Fr.set_new (b := w.heap.size + 1) (i := 2) (v := .int .i64 ta) (Fr.set_new (b := w.heap.size + 1) (i := 1) (v := .bool tb) (Fr.set_new (b := w.heap.size + 1) (i := 0) (v := .int .i64 ta) HGN.out (Nat.le_succ _)) (Nat.le_succ _)) (Nat.le_succ _)) (Nat.le_succ _)) (Nat.le_succ _)) (Nat.le_succ _)) (Nat.le_succ _)) (Nat.le_succ _)) (Nat.le_succ _)) (Nat.le_succ _)) (Nat.le_succ _)) (Nat.le_succ _)) (Nat.le_succ _))
    have HSF := hid (Fr.set (b := w.heap.size + 1) (i := 12) (Fr.set (b := w.heap.size + 1) (i := 11) (Fr.set (b := w.heap.size + 1) (i := 10) (Fr.set (b := w.heap.size + 1) (i := 9) (Fr.set (b := w.heap.size + 1) (i := 8) (Fr.set (b := w.heap.size + 1) (i := 7) (Fr.set (b := w.heap.size + 1) (i := 6) (Fr.set (b := w.heap.size + 1) (i := 5) (Fr.set (b := w.heap.size + 1) (i := 4) (Fr.set (b := w.heap.size + 1) (i := 3) (Fr.set (b := w.heap.size + 1) (i := 2) (Fr.set (b := w.heap.size + 1) (i := 1) (Fr.set (b := w.heap.size + 1) (i := 0) (Fr.refl [w.heap.size + 1] w8) (List.mem_singleton.2 rfl) (.int .i64 ta)) (List.mem_singleton.2 rfl) (.bool tb)) (List.mem_singleton.2 rfl) (.int .i64 ta)) (List.mem_singleton.2 rfl) (.bool tb)) (List.mem_singleton.2 rfl) (.int .i64 a1)) (List.mem_singleton.2 rfl) (.int .i64 a2)) (List.mem_singleton.2 rfl) (.int .i64 x1)) (List.mem_singleton.2 rfl) (.int .i64 b1)) (List.mem_singleton.2 rfl) (.int .i64 b2)) (List.mem_singleton.2 rfl) (.int .i64 c1)) (List.mem_singleton.2 rfl) (.int .i64 c2)) (List.mem_singleton.2 rfl) (.slice aS nS cS)) (List.mem_singleton.2 rfl) (.bool m))
    have HO7 := hid (owns_low (owns_fr HON.out HSF.out (fun g hg hm => by have h2 := List.mem_singleton.1 hm; have h3 := (HON.out.lt g hg).1; omega)) HLOW.out)
    have HZ7 := hid (obj_fr HZN.out HSF.out (fun hm => by have h2 := List.mem_singleton.1 hm; omega))
    go_wp2
    refine bodyPost_ret (results_cell_row (t := 40) (fr := (0, 0)) rfl _ _ (w.heap.size + 1) _ _ rfl (obj_set (obj_set (obj_set (obj_set (obj_set (obj_set (obj_set (obj_set (obj_set (obj_set (obj_set (obj_set (obj_set HRN.out 0 _) 1 _) 2 _) 3 _) 4 _) 5 _) 6 _) 7 _) 8 _) 9 _) 10 _) 11 _) 12 _) Tryz.underlying40 rfl (by kernel_rfl)) rfl ?_
    exact ⟨.slice aS nS cS, by simp, by rw [← HNS.out]; exact HO7.out, HZ7.out, HKK.out⟩
  · simp only [↓reduceIte]
    go_enter Tryz.func95, Tryz.ntmps95
    go_wp2_with fail
    rw [← hw2]
    clear hw2
    refine (HD.out w2).mono ?_
    rintro e w3 ⟨rfl, hf3⟩
    have HF3 := hid (HF2.out.trans hf3)
    have HR3 := hid (obj_fr HR2.out hf3 List.not_mem_nil)
    have HP3 := hid (obj_fr HO2.out hf3 List.not_mem_nil)
    have hme := me4 (.agg #[.int .i64 a, .bool bk])
    clear hf3 HD
    go_wp2_with fail
    refine (aims_jump a bk w3).mono ?_
    rintro e w4 ⟨rfl, hf4⟩
    have HF4 := hid (HF3.out.trans hf4)
    have HR4 := hid (obj_fr HR3.out hf4 List.not_mem_nil)
    have HP4 := hid (obj_fr HP3.out hf4 List.not_mem_nil)
    clear hf4 hme
    go_wp2_with fail
    refine (HAI.out w4 HF4.out).mono ?_
    rintro e w5 ⟨rfl, hz5, hf5⟩
    have HZ5 := hid hz5
    have HG5 := hid (show Fr [Z] w w5 from (HF4.out.mono (fun _ h _ => absurd h List.not_mem_nil) : Fr [Z] w w4).trans hf5)
    have HR5 := hid (obj_fr HR4.out hf5 (fun hm => by have h2 := List.mem_singleton.1 hm; omega))
    have HP5 := hid (obj_fr HP4.out hf5 (fun hm => by have h2 := List.mem_singleton.1 hm; omega))
    clear hz5 hf5 HAI
    go_wp2_with fail
    refine (HTA.out w5 HG5.out HZ5.out).mono ?_
    rintro e w6 ⟨rfl, hf6⟩
    have HZ6 := hid (obj_fr HZ5.out hf6 List.not_mem_nil)
    have HG6 := hid (HG5.out.trans (hf6.mono (fun _ h _ => absurd h List.not_mem_nil) : Fr [Z] w5 w6))
    have HR6 := hid (obj_fr HR5.out hf6 List.not_mem_nil)
    have HP6 := hid (obj_fr HP5.out hf6 List.not_mem_nil)
    clear hf6 HTA
    have y1 := obj_cell HZ6.out (i := 1) (v := .int .i64 ao) rfl
    have y2 := obj_cell HZ6.out (i := 2) (v := .bool ab) rfl
    have y3 := obj_cell HZ6.out (i := 3) (v := .int .i64 fo) rfl
    have y4 := obj_cell HZ6.out (i := 4) (v := .bool fb) rfl
    have f1 := obj_froz HZ6.out 1
    have f2 := obj_froz HZ6.out 2
    have f3 := obj_froz HZ6.out 3
    have f4 := obj_froz HZ6.out 4
    have p1 := obj_cell HP6.out (i := 1) (v := .bool true) rfl
    have hZ6 := obj_lt HZ6.out
    have hP6 := obj_lt HP6.out
    go_wp2_with fail
    obtain ⟨w7, hw7⟩ : ∃ w7, w7 = ((w6.setCell ⟨Z, 3, none⟩ (.int .i64 ta)).setCell ⟨Z, 4, none⟩ (.bool tb)).alloc (.cells #[.int .i64 ta, .bool tb] 35) := ⟨_, rfl⟩
    rw [← hw7]
    have HZ7 := hid (show w7.heap[Z]? = some (.cells (sesC P ao ab ta tb false ng) 240 (0, 0)) by rw [hw7]; exact obj_fr (obj_set (obj_set HZ6.out 3 _) 4 _) ((Fr.refl [] _).alloc _) List.not_mem_nil)
    have HG7 := hid (show Fr [Z] w w7 by rw [hw7]; exact ((HG6.out.set (i := 3) (List.mem_singleton.2 rfl) (.int .i64 ta)).set (i := 4) (List.mem_singleton.2 rfl) (.bool tb)).alloc _)
    have HK7 := hid (show Fr [Z] w6 w7 by rw [hw7]; exact (((Fr.refl [Z] w6).set (i := 3) (List.mem_singleton.2 rfl) (.int .i64 ta)).set (i := 4) (List.mem_singleton.2 rfl) (.bool tb)).alloc _)
    have HR7 := hid (obj_fr HR6.out HK7.out (fun hm => by have h2 := List.mem_singleton.1 hm; omega))
    clear hw7 y1 y2 y3 y4 f1 f2 f3 f4 p1
    refine (HST.out ao ab w7 HG7.out HZ7.out).mono ?_
    rintro e w8 ⟨vS, rfl, own8, hf8⟩
    obtain ⟨aS, cS, hvS⟩ := owns_slice own8
    subst hvS
    have HON := hid own8
    have HRN := hid (obj_fr HR7.out hf8 List.not_mem_nil)
    have HGN := hid (show Fr [Z] w w8 from HG7.out.trans (hf8.mono (fun _ h _ => absurd h List.not_mem_nil) : Fr [Z] w7 w8))
    have HZN := hid (obj_fr HZ7.out hf8 List.not_mem_nil)
    have hlow := obj_lt HR7.out
    have HLOW := hid (show w.heap.size ≤ w7.heap.size by omega)
    obtain ⟨nS, hnS⟩ : ∃ nS, nS = (Sel ao ta).length := ⟨_, rfl⟩
    have HNS := hid hnS
    rw [← hnS] at HON ⊢
    clear own8 hf8 HST hnS
    have r0 := obj_cell HRN.out (i := 0) (v := .int .i64 0) rfl
    have k0 := obj_froz HRN.out 0
    have r1 := obj_cell HRN.out (i := 1) (v := .bool false) rfl
    have k1 := obj_froz HRN.out 1
    have r2 := obj_cell HRN.out (i := 2) (v := .int .i64 0) rfl
    have k2 := obj_froz HRN.out 2
    have r3 := obj_cell HRN.out (i := 3) (v := .bool false) rfl
    have k3 := obj_froz HRN.out 3
    have r4 := obj_cell HRN.out (i := 4) (v := .int .i64 0) rfl
    have k4 := obj_froz HRN.out 4
    have r5 := obj_cell HRN.out (i := 5) (v := .int .i64 0) rfl
    have k5 := obj_froz HRN.out 5
    have r6 := obj_cell HRN.out (i := 6) (v := .int .i64 0) rfl
    have k6 := obj_froz HRN.out 6
    have r7 := obj_cell HRN.out (i := 7) (v := .int .i64 0) rfl
    have k7 := obj_froz HRN.out 7
    have r8 := obj_cell HRN.out (i := 8) (v := .int .i64 0) rfl
    have k8 := obj_froz HRN.out 8
    have r9 := obj_cell HRN.out (i := 9) (v := .int .i64 0) rfl
    have k9 := obj_froz HRN.out 9
    have r10 := obj_cell HRN.out (i := 10) (v := .int .i64 0) rfl
    have k10 := obj_froz HRN.out 10
    have r11 := obj_cell HRN.out (i := 11) (v := .slice none 0 0) rfl
    have k11 := obj_froz HRN.out 11
    have r12 := obj_cell HRN.out (i := 12) (v := .bool false) rfl
    have k12 := obj_froz HRN.out 12
    have HKK := hid (Fr.set_new (b := w.heap.size + 1) (i := 12) (v := .bool m) (Fr.set_new (b := w.heap.size + 1) (i := 11) (v := .slice aS nS cS) (Fr.set_new (b := w.heap.size + 1) (i := 10) (v := .int .i64 c2) (Fr.set_new (b := w.heap.size + 1) (i := 9) (v := .int .i64 c1) (Fr.set_new (b := w.heap.size + 1) (i := 8) (v := .int .i64 b2) (Fr.set_new (b := w.heap.size + 1) (i := 7) (v := .int .i64 b1) (Fr.set_new (b := w.heap.size + 1) (i := 6) (v := .int .i64 x1) (Fr.set_new (b := w.heap.size + 1) (i := 5) (v := .int .i64 a2) (Fr.set_new (b := w.heap.size + 1) (i := 4) (v := .int .i64 a1) (Fr.set_new (b := w.heap.size + 1) (i := 3) (v := .bool tb) (Fr.set_new (b := w.heap.size + 1) (i := 2) (v := .int .i64 ta) (Fr.set_new (b := w.heap.size + 1) (i := 1) (v := .bool ab) (Fr.set_new (b := w.heap.size + 1) (i := 0) (v := .int .i64 ao) HGN.out (Nat.le_succ _)) (Nat.le_succ _)) (Nat.le_succ _)) (Nat.le_succ _)) (Nat.le_succ _)) (Nat.le_succ _)) (Nat.le_succ _)) (Nat.le_succ _)) (Nat.le_succ _)) (Nat.le_succ _)) (Nat.le_succ _)) (Nat.le_succ _)) (Nat.le_succ _))
    have HSF := hid (Fr.set (b := w.heap.size + 1) (i := 12) (Fr.set (b := w.heap.size + 1) (i := 11) (Fr.set (b := w.heap.size + 1) (i := 10) (Fr.set (b := w.heap.size + 1) (i := 9) (Fr.set (b := w.heap.size + 1) (i := 8) (Fr.set (b := w.heap.size + 1) (i := 7) (Fr.set (b := w.heap.size + 1) (i := 6) (Fr.set (b := w.heap.size + 1) (i := 5) (Fr.set (b := w.heap.size + 1) (i := 4) (Fr.set (b := w.heap.size + 1) (i := 3) (Fr.set (b := w.heap.size + 1) (i := 2) (Fr.set (b := w.heap.size + 1) (i := 1) (Fr.set (b := w.heap.size + 1) (i := 0) (Fr.refl [w.heap.size + 1] w8) (List.mem_singleton.2 rfl) (.int .i64 ao)) (List.mem_singleton.2 rfl) (.bool ab)) (List.mem_singleton.2 rfl) (.int .i64 ta)) (List.mem_singleton.2 rfl) (.bool tb)) (List.mem_singleton.2 rfl) (.int .i64 a1)) (List.mem_singleton.2 rfl) (.int .i64 a2)) (List.mem_singleton.2 rfl) (.int .i64 x1)) (List.mem_singleton.2 rfl) (.int .i64 b1)) (List.mem_singleton.2 rfl) (.int .i64 b2)) (List.mem_singleton.2 rfl) (.int .i64 c1)) (List.mem_singleton.2 rfl) (.int .i64 c2)) (List.mem_singleton.2 rfl) (.slice aS nS cS)) (List.mem_singleton.2 rfl) (.bool m))
    have HO7 := hid (owns_low (owns_fr HON.out HSF.out (fun g hg hm => by have h2 := List.mem_singleton.1 hm; have h3 := (HON.out.lt g hg).1; omega)) HLOW.out)
    have HZ7 := hid (obj_fr HZN.out HSF.out (fun hm => by have h2 := List.mem_singleton.1 hm; omega))
    go_wp2
    refine bodyPost_ret (results_cell_row (t := 40) (fr := (0, 0)) rfl _ _ (w.heap.size + 1) _ _ rfl (obj_set (obj_set (obj_set (obj_set (obj_set (obj_set (obj_set (obj_set (obj_set (obj_set (obj_set (obj_set (obj_set HRN.out 0 _) 1 _) 2 _) 3 _) 4 _) 5 _) 6 _) 7 _) 8 _) 9 _) 10 _) 11 _) 12 _) Tryz.underlying40 rfl (by kernel_rfl)) rfl ?_
    exact ⟨.slice aS nS cS, by simp, by rw [← HNS.out]; exact HO7.out, HZ7.out, HKK.out⟩
theorem begin_any (P : Nat) (w : World) : Calls Tryz.prog 94 #[.pointer (some ⟨P, 0, none⟩)] w fun e w' => e = .returned (.pointer (some ⟨w.heap.size, 0, none⟩)) ∧ w' = w.alloc (.cells (sesC P 0 false 0 false false 0) 240) := by
  go_enter Tryz.func94, Tryz.ntmps94
  go_wp2
  go_ret
  exact ⟨rfl, rfl⟩
end Go.Proofs.YtnakejhohdbfdabGreatDoor
namespace Go.Proofs.YtnakejhohdbfdabGreatDoor
open Go.RowKit Lev Lay Bnd

/-- A layout, as it lies in w0 and whatever comes behind. -/
structure Lyt (w0 : World) (P : Nat) (Bd V : List Int) (z r : Int) (Ls : List Ln) : Prop where
  ans : Ans w0 P (fun o b => ((gapL Bd V z Ls o b).1 : Nat)) (fun o b => ((gapL Bd V z Ls o b).2 : Nat)) (fun o b => nth (lnN Ls (gapL Bd V z Ls o b).1).x (gapL Bd V z Ls o b).2) (fun a o => selL Ls (askd Bd z a o) Ls.length)
  mv : ∀ d off goal back Y, Fr [] w0 Y → Calls Tryz.prog 85 #[.pointer (some ⟨P, 0, none⟩), .int .i64 d, .agg #[.int .i64 off, .bool back], .int .i64 goal] Y fun e w' => e = .returned (.tuple #[.agg #[.int .i64 (mvP Bd V z r Ls d off goal back).1, .bool (mvP Bd V z r Ls d off goal back).2], .bool (!(decide ((mvP Bd V z r Ls d off goal back).1 = (placeL Bd z off back).1 ∧ (mvP Bd V z r Ls d off goal back).2 = (placeL Bd z off back).2)))]) ∧ Fr [] Y w'
  hit : ∀ l x Y, Fr [] w0 Y → Calls Tryz.prog 88 #[.pointer (some ⟨P, 0, none⟩), .int .i64 l, .int .i64 x] Y fun e w' => e = .returned (.agg #[.int .i64 (hitP Bd V Ls l x).1, .bool (hitP Bd V Ls l x).2]) ∧ Fr [] Y w'
  pl : ∀ off back Y, Fr [] w0 Y → Calls Tryz.prog 87 #[.pointer (some ⟨P, 0, none⟩), .agg #[.int .i64 off, .bool back]] Y fun e w' => e = .returned (.agg #[.int .i64 (placeL Bd z off back).1, .bool (placeL Bd z off back).2]) ∧ Fr [] Y w'
theorem Lyt.of {B P : Nat} {w : World} {Bd V X : List Int} {r z : Int} {Ls : List Ln} {v0 v1 v2 vL : Value} {hs : List Value} (h : LP w B P Bd V X r Ls v0 v1 v2 vL hs) (F : Fine Bd V z Ls) (hz : 0 ≤ z) (T : Tame Bd V Ls) (hr : -1 ≤ r ∧ r ≤ 1) (hbd : Bd.length = V.length + 1) (hv4 : V.length ≤ 400) (hK0 : 0 < Ls.length) (hK : Ls.length ≤ 400) (hll : ∀ l ∈ Ls, l.o.length ≤ 1000 ∧ l.x.length ≤ 1001) : Lyt w P Bd V z r Ls := by
  have hfr : ∀ {Y}, Fr [] w Y → LP Y B P Bd V X r Ls v0 v1 v2 vL hs := fun hf => h.fr hf (fun _ h => absurd h List.not_mem_nil)
  have hlo : ∀ l ∈ Ls, l.o.length ≤ 1000 := fun l hl => (hll l hl).1
  refine ⟨⟨fun o b Y hf => gapP_all B P Bd V X r z Ls v0 v1 v2 vL hs o b Y (hfr hf) F hz T hv4 hK hlo, fun o b Y hf => ?_, fun a o Y hf => ?_⟩, fun d off goal back Y hf => ?_, fun l x Y hf => ?_, fun off back Y hf => ?_⟩
  · obtain ⟨h1, h2⟩ := F.gap_in hK0 o b
    have hx := T.xl _ (lnN_mem h1)
    exact xP_any B P Bd V X r Ls v0 v1 v2 vL hs o b _ _ Y (hfr hf) h1 (by omega) hK (hll _ (lnN_mem h1)).2 (fun Y' hf' => gapP_all B P Bd V X r z Ls v0 v1 v2 vL hs o b Y' (hfr (hf.trans hf')) F hz T hv4 hK hlo)
  · exact select_any B P Bd V X r z Ls v0 v1 v2 vL hs a o Y (hfr hf) F.rs hz (by omega) hK0 hK (fun l hl => ⟨(hll l hl).1, T.xl l hl⟩)
  · exact moveP_any B P Bd V X r z Ls v0 v1 v2 vL hs d off goal back Y (hfr hf) F hz T hr hv4 hK0 hK hlo _ rfl
  · exact hitP_any B P Bd V X r Ls v0 v1 v2 vL hs l x Y (hfr hf) T hbd hv4 hK0 hK hlo
  · exact placeP_any B P Bd V X r z Ls v0 v1 v2 vL hs off back Y (hfr hf) F.rs hz (by omega)
/-- What a deed leaves. -/
def Left (P Z : Nat) (Bd : List Int) (z : Int) (Ls : List Ln) (w : World) (ao : Int) (ab : Bool) (d : Int) (ext : Bool) (e : Ending) (w' : World) : Prop :=
  ∃ ao' ab' fo' fb' aim' goal' a1 a2 x1 b1 b2 c1 c2 v m, e = .returned (.agg (stC ao' ab' fo' fb' a1 a2 x1 b1 b2 c1 c2 v m)) ∧ w'.ownsRow w.heap.size 90 5 v (selL Ls (askd Bd z ao' fo') Ls.length).length (spCells (selL Ls (askd Bd z ao' fo') Ls.length)) ∧ w'.heap[Z]? = some (.cells (sesC P ao' ab' fo' fb' aim' goal') 240 (0, 0)) ∧ Fr [Z] w w' ∧
    Plc Bd z (fo', fb') ∧ (ext = true → ao' = ao ∧ ab' = ab) ∧ (ext = false → 0 ≤ d → d ≤ 9 → ao' = fo' ∧ ab' = fb')
theorem do_all {w0 : World} {P : Nat} {Bd V : List Int} {z r : Int} {Ls : List Ln} (L : Lyt w0 P Bd V z r Ls) (F : Fine Bd V z Ls) (hz : 0 ≤ z) (hK : 0 < Ls.length) (Z : Nat) (ao fo goal d a x : Int) (ab fb aim ext bk : Bool) (t : ByteArray) (w : World) (hw : Fr [] w0 w) (hZ0 : w0.heap.size ≤ Z) (hZ : w.heap[Z]? = some (.cells (sesC P ao ab fo fb aim goal) 240 (0, 0))) (hp : Plc Bd z (fo, fb)) :
    Calls Tryz.prog 95 #[.pointer (some ⟨Z, 0, none⟩), opV d ext a x bk t] w (Left P Z Bd z Ls w ao ab d ext) := by
  by_cases h0 : d < 0 ∨ 9 < d
  · refine (do_none L.ans Z ao fo goal d a x ab fb aim ext bk t w hw hZ h0).mono ?_
    rintro e w' ⟨v, h1, h2, h3, h4⟩
    exact ⟨ao, ab, fo, fb, aim, goal, _, _, _, _, _, _, _, v, _, h1, h2, h3, h4, hp, fun _ => ⟨rfl, rfl⟩, fun _ _ _ => by omega⟩
  · have hfin : ∀ (ta : Int) (tb : Bool), (ext = true → (if ext = true then ao else ta) = ao ∧ (if ext = true then ab else tb) = ab) ∧ (ext = false → 0 ≤ d → d ≤ 9 → (if ext = true then ao else ta) = ta ∧ (if ext = true then ab else tb) = tb) := fun ta tb => by
      cases ext <;> simp
    by_cases h1 : d = 0 ∨ d = 1 ∨ d = 2 ∨ d = 3 ∨ d = 4 ∨ d = 5
    · refine (do_step L.ans Z ao fo goal d a x _ ab fb aim ext bk _ _ t w hw hZ0 hZ h1 (fun Y hf => L.mv d fo 0 fb Y hf)).mono ?_
      rintro e w' ⟨v, h1, h2, h3, h4⟩
      exact ⟨_, _, _, _, _, _, _, _, _, _, _, _, _, v, _, h1, h2, h3, h4, mv_plc F hz hK d fo 0 fb, (hfin _ _).1, (hfin _ _).2⟩
    · by_cases h2 : d = 6 ∨ d = 7
      · obtain ⟨ng, hng⟩ : ∃ ng, ng = (if true && !aim then nth (lnN Ls (gapL Bd V z Ls fo fb).1).x (gapL Bd V z Ls fo fb).2 else goal) := ⟨_, rfl⟩
        refine (do_cross L.ans Z ao fo goal d a x _ ab fb aim ext bk _ _ t w hw hZ0 hZ h2 (fun ng' Y hf e => by rw [show ng' = ng from e.trans hng.symm]; exact L.mv d fo ng fb Y hf)).mono ?_
        rintro e w' ⟨v, h1, h2, h3, h4⟩
        exact ⟨_, _, _, _, _, _, _, _, _, _, _, _, _, v, _, h1, h2, h3, h4, mv_plc F hz hK d fo ng fb, (hfin _ _).1, (hfin _ _).2⟩
      · by_cases h3 : d = 8
        · subst h3
          refine (do_click L.ans Z ao fo goal a x _ ab fb aim ext bk _ t w hw hZ0 hZ (fun Y hf => L.hit a x Y hf)).mono ?_
          rintro e w' ⟨v, h1, h2, h3, h4⟩
          exact ⟨_, _, _, _, _, _, _, _, _, _, _, _, _, v, _, h1, h2, h3, h4, hit_plc F hz hK a x, (hfin _ _).1, (hfin _ _).2⟩
        · obtain rfl : d = 9 := by omega
          refine (do_jump L.ans Z ao fo goal a x _ ab fb aim ext bk _ t w hw hZ0 hZ (fun Y hf => L.pl a bk Y hf)).mono ?_
          rintro e w' ⟨v, h1, h2, h3, h4⟩
          exact ⟨_, _, _, _, _, _, _, _, _, _, _, _, _, v, _, h1, h2, h3, h4, plc_place F.rs a bk, (hfin _ _).1, (hfin _ _).2⟩
end Go.Proofs.YtnakejhohdbfdabGreatDoor
namespace Go.Proofs.YtnakejhohdbfdabGreatDoor
open Go.RowKit Lev Lay Bnd

theorem edit_any (Q P : Nat) (w : World) (hq : w.cell? ⟨Q, 0, none⟩ = some (.pointer (some ⟨P, 0, none⟩))) :
    Calls Tryz.prog 48 #[.pointer (some ⟨Q, 0, none⟩)] w fun e w' => ∃ Z E, w.heap.size ≤ Z ∧ Z < w'.heap.size ∧ E ≠ Z ∧ e = .returned (.pointer (some ⟨E, 0, none⟩)) ∧ w'.heap[Z]? = some (.cells (sesC P 0 false 0 false false 0) 240 (0, 0)) ∧ w'.cell? ⟨E, 0, none⟩ = some (.pointer (some ⟨Z, 0, none⟩)) ∧ Fr [] w w' := by
  have HB := hid (fun Y => begin_any P Y)
  obtain ⟨w2, hw2⟩ : ∃ w2, w2 = (w.alloc (.cells (sesC P 0 false 0 false false 0) 240)).alloc (.cells #[.pointer (some ⟨w.heap.size, 0, none⟩)] 152) := ⟨_, rfl⟩
  have hs : (w.alloc (.cells (sesC P 0 false 0 false false 0) 240)).heap.size = w.heap.size + 1 := by simp
  have HZ := hid (show w2.heap[w.heap.size]? = some (.cells (sesC P 0 false 0 false false 0) 240 (0, 0)) by rw [hw2]; exact obj_fr (obj_new w _) ((Fr.refl [] _).alloc _) List.not_mem_nil)
  have HE := hid (show w2.heap[w.heap.size + 1]? = some (.cells #[.pointer (some ⟨w.heap.size, 0, none⟩)] 152 (0, 0)) by
    have h0 := obj_new (w.alloc (.cells (sesC P 0 false 0 false false 0) 240)) (.cells #[.pointer (some ⟨w.heap.size, 0, none⟩)] 152)
    rw [hs] at h0
    rw [hw2]; exact h0)
  have HF := hid (show Fr [] w w2 by rw [hw2]; exact ((Fr.refl [] w).alloc _).alloc _)
  go_enter Tryz.func48, Tryz.ntmps48
  go_wp2_with fail
  refine (HB.out w).mono ?_
  rintro e w1 ⟨rfl, rfl⟩
  go_wp2_with fail
  rw [← hw2]
  go_ret
  exact ⟨w.heap.size, w.heap.size + 1, Nat.le_refl _, obj_lt HZ.out, by omega, rfl, HZ.out, obj_cell HE.out (i := 0) rfl, HF.out⟩
set_option maxRecDepth 10000 in
set_option maxHeartbeats 4000000 in
theorem edo_any (E Z P : Nat) (Bd : List Int) (z : Int) (Ls : List Ln) (ao d a x : Int) (ab ext bk : Bool) (t : ByteArray) (w : World) (hE : w.cell? ⟨E, 0, none⟩ = some (.pointer (some ⟨Z, 0, none⟩))) (hEZ : E ≠ Z) (hZl : Z < w.heap.size)
    (h : ∀ Y, Fr [] w Y → Calls Tryz.prog 95 #[.pointer (some ⟨Z, 0, none⟩), opV d ext a x bk t] Y (Left P Z Bd z Ls Y ao ab d ext)) :
    Calls Tryz.prog 49 #[.pointer (some ⟨E, 0, none⟩), opV d ext a x bk t] w (Left P Z Bd z Ls w ao ab d ext) := by
  have H := hid h
  have hEl := World.block_lt_of_cell? _ _ hE
  dsimp only at hEl
  obtain ⟨w2, hw2⟩ : ∃ w2, w2 = (w.alloc (.cells #[.int .i64 d, .bool ext, .int .i64 a, .int .i64 x, .bool bk, .string t] 33)).alloc (.cells #[.int .i64 0, .bool false, .int .i64 0, .bool false, .int .i64 0, .int .i64 0, .int .i64 0, .int .i64 0, .int .i64 0, .int .i64 0, .int .i64 0, .slice none 0 0, .bool false] 40) := ⟨_, rfl⟩
  have HF2 := hid (show Fr [] w w2 by rw [hw2]; exact ((Fr.refl [] w).alloc _).alloc _)
  have HO2 := hid (show w2.heap[w.heap.size]? = some (.cells #[.int .i64 d, .bool ext, .int .i64 a, .int .i64 x, .bool bk, .string t] 33 (0, 0)) by rw [hw2]; exact obj_fr (obj_new w _) ((Fr.refl [] _).alloc _) List.not_mem_nil)
  have HR2 := hid (show w2.heap[w.heap.size + 1]? = some (.cells #[.int .i64 0, .bool false, .int .i64 0, .bool false, .int .i64 0, .int .i64 0, .int .i64 0, .int .i64 0, .int .i64 0, .int .i64 0, .int .i64 0, .slice none 0 0, .bool false] 40 (0, 0)) by
    have hs : (w.alloc (.cells #[.int .i64 d, .bool ext, .int .i64 a, .int .i64 x, .bool bk, .string t] 33)).heap.size = w.heap.size + 1 := by simp
    have h0 := obj_new (w.alloc (.cells #[.int .i64 d, .bool ext, .int .i64 a, .int .i64 x, .bool bk, .string t] 33)) (.cells #[.int .i64 0, .bool false, .int .i64 0, .bool false, .int .i64 0, .int .i64 0, .int .i64 0, .int .i64 0, .int .i64 0, .int .i64 0, .int .i64 0, .slice none 0 0, .bool false] 40)
    rw [hs] at h0
    rw [hw2]; exact h0)
  have hR2l := obj_lt HR2.out
  have HLOW := hid (show w.heap.size + 1 < w2.drew.heap.size from hR2l)
  have HLO2 := hid (show w.heap.size ≤ w2.drew.heap.size from Nat.le_of_lt (Nat.lt_of_succ_lt hR2l))
  have e2 := HF2.out.cell hE List.not_mem_nil
  have o0 := obj_cell HO2.out (i := 0) (v := .int .i64 d) rfl
  have o1 := obj_cell HO2.out (i := 1) (v := .bool ext) rfl
  have o2 := obj_cell HO2.out (i := 2) (v := .int .i64 a) rfl
  have o3 := obj_cell HO2.out (i := 3) (v := .int .i64 x) rfl
  have o4 := obj_cell HO2.out (i := 4) (v := .bool bk) rfl
  have o5 := obj_cell HO2.out (i := 5) (v := .string t) rfl
  clear h hE
  go_enter Tryz.func49, Tryz.ntmps49
  go_wp2_with fail
  rw [← hw2]
  clear hw2
  go_region_held (fun wz => wz.cell? ⟨E, 0, none⟩ = some (.pointer (some ⟨Z, 0, none⟩)) ∧ wz.cell? ⟨w.heap.size, 0, none⟩ = some (.int .i64 d) ∧ wz.cell? ⟨w.heap.size, 1, none⟩ = some (.bool ext) ∧ wz.cell? ⟨w.heap.size, 2, none⟩ = some (.int .i64 a) ∧ wz.cell? ⟨w.heap.size, 3, none⟩ = some (.int .i64 x) ∧ wz.cell? ⟨w.heap.size, 4, none⟩ = some (.bool bk) ∧ wz.cell? ⟨w.heap.size, 5, none⟩ = some (.string t)) (first | with_reducible exact HS1 | with_reducible exact HS2 | go_keep)
    (first | (go_at_call 95; refine (H.out _ ?fa).mono ?_; (case fa => exact HF2.out.drew); rintro e w4 ⟨ao1, ab1, fo1, fb1, aim1, goal1, a1, a2, x1, b1, b2, c1, c2, v, m, rfl, own4, hz4, hf4, hp4, hx4, hy4⟩; obtain ⟨nS, hnS⟩ : ∃ nS, nS = (selL Ls (askd Bd z ao1 fo1) Ls.length).length := ⟨_, rfl⟩; have HNS := hid hnS; rw [← hnS] at own4; obtain ⟨aS, cS, hvS⟩ := owns_slice own4; subst hvS; have HON := hid own4; have HZN := hid hz4; have HF4 := hid (show Fr [Z] w2 w4 from Fr.trans (Fr.refl [Z] w2).drew hf4); have HGN := hid (show Fr [Z] w w4 from (HF2.out.mono (fun _ h _ => absurd h List.not_mem_nil) : Fr [Z] w w2).trans HF4.out); have HPP := hid (And.intro hp4 (And.intro hx4 hy4)); have HRN := hid (obj_fr HR2.out HF4.out (fun hm => by have h2 := List.mem_singleton.1 hm; omega)); have HPN := hid (obj_fr HO2.out HF4.out (fun hm => by have h2 := List.mem_singleton.1 hm; omega)); have HEN := hid (HF4.out.cell e2 (by simp; omega)); have r0 := obj_cell HRN.out (i := 0) (v := .int .i64 0) rfl; have k0 := obj_froz HRN.out 0; have r1 := obj_cell HRN.out (i := 1) (v := .bool false) rfl; have k1 := obj_froz HRN.out 1; have r2 := obj_cell HRN.out (i := 2) (v := .int .i64 0) rfl; have k2 := obj_froz HRN.out 2; have r3 := obj_cell HRN.out (i := 3) (v := .bool false) rfl; have k3 := obj_froz HRN.out 3; have r4 := obj_cell HRN.out (i := 4) (v := .int .i64 0) rfl; have k4 := obj_froz HRN.out 4; have r5 := obj_cell HRN.out (i := 5) (v := .int .i64 0) rfl; have k5 := obj_froz HRN.out 5; have r6 := obj_cell HRN.out (i := 6) (v := .int .i64 0) rfl; have k6 := obj_froz HRN.out 6; have r7 := obj_cell HRN.out (i := 7) (v := .int .i64 0) rfl; have k7 := obj_froz HRN.out 7; have r8 := obj_cell HRN.out (i := 8) (v := .int .i64 0) rfl; have k8 := obj_froz HRN.out 8; have r9 := obj_cell HRN.out (i := 9) (v := .int .i64 0) rfl; have k9 := obj_froz HRN.out 9; have r10 := obj_cell HRN.out (i := 10) (v := .int .i64 0) rfl; have k10 := obj_froz HRN.out 10; have r11 := obj_cell HRN.out (i := 11) (v := .slice none 0 0) rfl; have k11 := obj_froz HRN.out 11; have r12 := obj_cell HRN.out (i := 12) (v := .bool false) rfl; have k12 := obj_froz HRN.out 12; have HS1 := And.intro (HEN.out) (And.intro (obj_cell HPN.out (i := 0) (v := .int .i64 d) rfl) (And.intro (obj_cell HPN.out (i := 1) (v := .bool ext) rfl) (And.intro (obj_cell HPN.out (i := 2) (v := .int .i64 a) rfl) (And.intro (obj_cell HPN.out (i := 3) (v := .int .i64 x) rfl) (And.intro (obj_cell HPN.out (i := 4) (v := .bool bk) rfl) (obj_cell HPN.out (i := 5) (v := .string t) rfl)))))); have HKK := hid (Fr.set_new (b := w.heap.size + 1) (i := 12) (v := .bool m) (Fr.set_new (b := w.heap.size + 1) (i := 11) (v := .slice aS nS cS) (Fr.set_new (b := w.heap.size + 1) (i := 10) (v := .int .i64 c2) (Fr.set_new (b := w.heap.size + 1) (i := 9) (v := .int .i64 c1) (Fr.set_new (b := w.heap.size + 1) (i := 8) (v := .int .i64 b2) (Fr.set_new (b := w.heap.size + 1) (i := 7) (v := .int .i64 b1) (Fr.set_new (b := w.heap.size + 1) (i := 6) (v := .int .i64 x1) (Fr.set_new (b := w.heap.size + 1) (i := 5) (v := .int .i64 a2) (Fr.set_new (b := w.heap.size + 1) (i := 4) (v := .int .i64 a1) (Fr.set_new (b := w.heap.size + 1) (i := 3) (v := .bool fb1) (Fr.set_new (b := w.heap.size + 1) (i := 2) (v := .int .i64 fo1) (Fr.set_new (b := w.heap.size + 1) (i := 1) (v := .bool ab1) (Fr.set_new (b := w.heap.size + 1) (i := 0) (v := .int .i64 ao1) HGN.out (Nat.le_succ _)) (Nat.le_succ _)) (Nat.le_succ _)) (Nat.le_succ _)) (Nat.le_succ _)) (Nat.le_succ _)) (Nat.le_succ _)) (Nat.le_succ _)) (Nat.le_succ _)) (Nat.le_succ _)) (Nat.le_succ _)) (Nat.le_succ _)) (Nat.le_succ _)); have HSF := hid (Fr.set (b := w.heap.size + 1) (i := 12) (Fr.set (b := w.heap.size + 1) (i := 11) (Fr.set (b := w.heap.size + 1) (i := 10) (Fr.set (b := w.heap.size + 1) (i := 9) (Fr.set (b := w.heap.size + 1) (i := 8) (Fr.set (b := w.heap.size + 1) (i := 7) (Fr.set (b := w.heap.size + 1) (i := 6) (Fr.set (b := w.heap.size + 1) (i := 5) (Fr.set (b := w.heap.size + 1) (i := 4) (Fr.set (b := w.heap.size + 1) (i := 3) (Fr.set (b := w.heap.size + 1) (i := 2) (Fr.set (b := w.heap.size + 1) (i := 1) (Fr.set (b := w.heap.size + 1) (i := 0) (Fr.refl [w.heap.size + 1] w4) (List.mem_singleton.2 rfl) (.int .i64 ao1)) (List.mem_singleton.2 rfl) (.bool ab1)) (List.mem_singleton.2 rfl) (.int .i64 fo1)) (List.mem_singleton.2 rfl) (.bool fb1)) (List.mem_singleton.2 rfl) (.int .i64 a1)) (List.mem_singleton.2 rfl) (.int .i64 a2)) (List.mem_singleton.2 rfl) (.int .i64 x1)) (List.mem_singleton.2 rfl) (.int .i64 b1)) (List.mem_singleton.2 rfl) (.int .i64 b2)) (List.mem_singleton.2 rfl) (.int .i64 c1)) (List.mem_singleton.2 rfl) (.int .i64 c2)) (List.mem_singleton.2 rfl) (.slice aS nS cS)) (List.mem_singleton.2 rfl) (.bool m)); have HP7 := hid (obj_fr HPN.out HSF.out (fun hm => by have h2 := List.mem_singleton.1 hm; omega)); have HS2 := And.intro (HSF.out.cell HEN.out (by simp; omega)) (And.intro (obj_cell HP7.out (i := 0) (v := .int .i64 d) rfl) (And.intro (obj_cell HP7.out (i := 1) (v := .bool ext) rfl) (And.intro (obj_cell HP7.out (i := 2) (v := .int .i64 a) rfl) (And.intro (obj_cell HP7.out (i := 3) (v := .int .i64 x) rfl) (And.intro (obj_cell HP7.out (i := 4) (v := .bool bk) rfl) (obj_cell HP7.out (i := 5) (v := .string t) rfl)))))); have HO7 := hid (owns_low (owns_fr HON.out HSF.out (fun g hg hm => by have h2 := List.mem_singleton.1 hm; have h3 := (HON.out.lt g hg).1; have h4 := HLOW.out; omega)) HLO2.out); have HZ7 := hid (obj_fr HZN.out HSF.out (fun hm => by have h2 := List.mem_singleton.1 hm; omega)); clear own4 hz4 hf4 hp4 hx4 hy4 hnS))
  all_goals (
    go_wp2
    refine bodyPost_ret (results_cell_row (t := 40) (fr := (0, 0)) rfl _ _ (w.heap.size + 1) _ _ rfl (obj_set (obj_set (obj_set (obj_set (obj_set (obj_set (obj_set (obj_set (obj_set (obj_set (obj_set (obj_set (obj_set HRN.out 0 _) 1 _) 2 _) 3 _) 4 _) 5 _) 6 _) 7 _) 8 _) 9 _) 10 _) 11 _) 12 _) Tryz.underlying40 rfl (by kernel_rfl)) rfl ?_
    exact ⟨ao1, ab1, fo1, fb1, aim1, goal1, a1, a2, x1, b1, b2, c1, c2, .slice aS nS cS, m, by simp, by rw [← HNS.out]; exact HO7.out, HZ7.out, HKK.out, HPP.out.1, HPP.out.2.1, HPP.out.2.2⟩)
end Go.Proofs.YtnakejhohdbfdabGreatDoor
namespace Go.Proofs.YtnakejhohdbfdabGreatDoor
open Go.RowKit Lev Lay Bnd

/-- A script in memory. -/
def scrAt (w : World) (v : Value) (n : Nat) : Prop := ∃ a c, v = .slice a n c ∧ (n = 0 ∨ ∃ ad, a = some ad ∧ ∀ i, i < n → ∃ d ext x1 x2 bk t, w.cell? (ad.add (i * 6)) = some (.int .i64 d) ∧ w.cell? (ad.add (i * 6 + 1)) = some (.bool ext) ∧ w.cell? (ad.add (i * 6 + 2)) = some (.int .i64 x1) ∧ w.cell? (ad.add (i * 6 + 3)) = some (.int .i64 x2) ∧ w.cell? (ad.add (i * 6 + 4)) = some (.bool bk) ∧ w.cell? (ad.add (i * 6 + 5)) = some (.string t))
theorem add_cell (ad : Addr) (j k : Nat) (hk : 0 < k) : (⟨(ad.add j).block, (ad.add j).off + k, none⟩ : Addr) = ad.add (j + k) := by
  rcases Nat.eq_zero_or_pos j with h | h
  · subst h; simp [Addr.add, show ¬ k = 0 by omega]
  · simp [Addr.add, show ¬ j = 0 by omega, Nat.add_assoc]
theorem scr_cells {w Y : World} {ad : Addr} {j : Nat} {d x1 x2 : Int} {ext bk : Bool} {t : ByteArray} (hf : Fr [] w Y) (h : w.cell? (ad.add j) = some (.int .i64 d) ∧ w.cell? (ad.add (j + 1)) = some (.bool ext) ∧ w.cell? (ad.add (j + 2)) = some (.int .i64 x1) ∧ w.cell? (ad.add (j + 3)) = some (.int .i64 x2) ∧ w.cell? (ad.add (j + 4)) = some (.bool bk) ∧ w.cell? (ad.add (j + 5)) = some (.string t)) :
    Y.cell? (ad.add j) = some (.int .i64 d) ∧ Y.cell? ⟨(ad.add j).block, (ad.add j).off + 1, none⟩ = some (.bool ext) ∧ Y.cell? ⟨(ad.add j).block, (ad.add j).off + 2, none⟩ = some (.int .i64 x1) ∧ Y.cell? ⟨(ad.add j).block, (ad.add j).off + 3, none⟩ = some (.int .i64 x2) ∧ Y.cell? ⟨(ad.add j).block, (ad.add j).off + 4, none⟩ = some (.bool bk) ∧ Y.cell? ⟨(ad.add j).block, (ad.add j).off + 5, none⟩ = some (.string t) := by
  obtain ⟨h0, h1, h2, h3, h4, h5⟩ := h
  rw [add_cell ad j 1 (by decide), add_cell ad j 2 (by decide), add_cell ad j 3 (by decide), add_cell ad j 4 (by decide), add_cell ad j 5 (by decide)]
  exact ⟨fr_cell' hf h0, fr_cell' hf h1, fr_cell' hf h2, fr_cell' hf h3, fr_cell' hf h4, fr_cell' hf h5⟩
set_option maxRecDepth 10000 in
set_option maxHeartbeats 4000000 in
theorem drags_good (s : ByteArray) (b : Int) (vW vB : Value) (W Br : List Int) (n : Nat) (vS : Value) (nS : Nat) (w : World) (hF : Floor w) (hend : Dec.Ends s n) (hW : slAd w vW W) (hB : slAd w vB Br) (hSc : scrAt w vS nS) (hs : s.size ≤ 4096) (hWl : W.length ≤ 4096) (hBl : Br.length ≤ 4096) (hnS : nS ≤ 4096) (hck : chk s n (clsOf s n) b W Br = 0) :
    Calls Tryz.prog 13 #[.agg #[.string s, .int .i64 b, vW, vB], vS] w fun e w' => e = .returned (.bool true) ∧ Fr [] w w' := by
  obtain ⟨Bd, V, X, r, bs, Cs, Ls, T, TT, F, _, hrb, _, _, _, _, _, _⟩ := keep_four s b W Br n hend (by omega) hck
  obtain ⟨aW, cW, rfl, _⟩ := id hW
  obtain ⟨aB, cB, rfl, _⟩ := id hB
  obtain ⟨aS, cS, rfl, hSc⟩ := hSc
  have HSC := hid hSc
  obtain ⟨wb, hwb⟩ : ∃ wb, wb = w.alloc (.cells #[.string s, .int .i64 b, .slice aW W.length cW, .slice aB Br.length cB] 48) := ⟨_, rfl⟩
  have HFb := hid (show Fr [] w wb by rw [hwb]; exact (Fr.refl [] w).alloc _)
  have HOb := hid (show wb.heap[w.heap.size]? = some (.cells #[.string s, .int .i64 b, .slice aW W.length cW, .slice aB Br.length cB] 48 (0, 0)) by rw [hwb]; exact obj_new w _)
  have HA := hid (fun (Z : World) (hf : Fr [] w Z) => alive_any Z (hF.fr hf))
  have HL := hid (fun (Z : World) (hf : Fr [] w Z) => laid_good s b _ _ W Br Z (hF.fr hf) (hW.fr hf) (hB.fr hf) hs hWl hBl Bd V X r bs Cs Ls T)
  have HT := hid T
  have HTT := hid TT
  have HFF := hid F
  have HRB := hid hrb
  generalize W.length = nW at *
  generalize Br.length = nB at *
  have hn1 : decide ((4096 : Int) < (nS : Int)) = false := by simp; omega
  clear hF hW hB T TT F hend hck hSc hrb
  go_enter Tryz.func13, Tryz.ntmps13
  go_wp2_with fail
  rw [← hwb]
  clear hwb
  refine (HA.out wb HFb.out).mono ?_
  rintro e w1 ⟨rfl, hf1⟩
  have HF1 := hid (HFb.out.trans hf1)
  have HO1 := hid (obj_fr HOb.out hf1 List.not_mem_nil)
  have c0 := obj_cell HO1.out (i := 0) (v := .string s) rfl
  have c1 := obj_cell HO1.out (i := 1) (v := .int .i64 b) rfl
  have c2 := obj_cell HO1.out (i := 2) (v := .slice aW nW cW) rfl
  have c3 := obj_cell HO1.out (i := 3) (v := .slice aB nB cB) rfl
  clear hf1 HA
  go_wp2_with fail
  refine (HL.out w1 HF1.out).mono ?_
  rintro e w2 ⟨Q, P, v0, v1, v2, vL, hs2, rfl, hQ, _, ⟨B, _, hLP⟩, hf2⟩
  have HF2 := hid (HF1.out.trans hf2)
  have q0 := obj_cell hQ (i := 0) (v := .pointer (some ⟨P, 0, none⟩)) rfl
  have HKM := hid (KM.of hQ hLP HFF.out (by omega) HTT.out HRB.out HT.out.bd HT.out.vl HT.out.l0 HT.out.l1 HT.out.ll)
  have HLY := hid (Lyt.of hLP HFF.out (by omega) HTT.out HRB.out HT.out.bd HT.out.vl HT.out.l0 HT.out.l1 HT.out.ll)
  have H48 := hid (edit_any Q P w2 q0)
  clear hQ hLP hf2 HL c0 c1 c2 c3 q0
  go_wp2_with fail
  refine H48.out.mono ?_
  rintro e w3 ⟨Z, E, hZ0, hZl, hEZ, rfl, hz3, he3, hf3⟩
  have HZ3 := hid hz3
  have HE3 := hid he3
  have HF3 := hid hf3
  clear hz3 he3 hf3 H48
  have HPL := hid (HKM.out.place w3 HF3.out 0 false)
  rw [place_zero HFF.out.rs (by omega)] at HPL
  go_wp2_with fail
  refine HPL.out.mono ?_
  rintro e w4 ⟨rfl, hf4⟩
  have HZ4 := hid (obj_fr HZ3.out hf4 List.not_mem_nil)
  have HE4 := hid (hf4.cell HE3.out List.not_mem_nil)
  have HF4 := hid (HF3.out.trans hf4)
  have hZ4 := Nat.lt_of_lt_of_le hZl hf4.size
  clear hf4 HPL
  go_wp2_with fail
  obtain ⟨w5, hw5⟩ : ∃ w5, w5 = w4.alloc (.cells #[.int .i64 0, .bool false] 35) := ⟨_, rfl⟩
  obtain ⟨gF, hgF⟩ : ∃ gF, gF = w4.heap.size := ⟨_, rfl⟩
  have HK5 := hid (show Fr [] w4 w5 by rw [hw5]; exact (Fr.refl [] w4).alloc _)
  have HI5 := hid (show w5.heap[gF]? = some (.cells #[.int .i64 0, .bool false] 35 (0, 0)) by rw [hw5, hgF]; exact obj_new w4 _)
  have HF5 := hid (HF4.out.trans HK5.out)
  have HZ5 := hid (obj_fr HZ4.out HK5.out List.not_mem_nil)
  have HE5 := hid (HK5.out.cell HE4.out List.not_mem_nil)
  have hZF : Z < gF := by rw [hgF]; exact hZ4
  have HEl := hid (show E < w5.heap.size from World.block_lt_of_cell? _ _ HE5.out)
  rw [← hw5, ← hgF]
  have HZ0w := hid (show w.heap.size ≤ Z from Nat.le_trans HF2.out.size hZ0)
  clear hw5 hgF HZ4 HE4 HZ3 HE3 HF3
  go_loopw [9] (fun iv wr => ∃ (i : Nat) (fo goal : Int) (fb aim : Bool), iv = .int .i64 i ∧ i ≤ nS ∧ Hid (Fr [Z] w5 wr) ∧ Hid (wr.heap[Z]? = some (.cells (sesC P 0 false fo fb aim goal) 240 (0, 0))) ∧ Hid (Plc Bd (s.size : Nat) (fo, fb))) (fun iv _ => nS - (intOf iv).toNat)
  case atStart => exact ⟨0, 0, 0, false, false, rfl, Nat.zero_le _, hid (Fr.refl _ _), hid HZ5.out, hid (place_zero HFF.out.rs (by omega))⟩
  case round =>
    obtain ⟨i, fo, goal, fb, aim, rfl, hin, HR, HZr, HPr⟩ := hrel
    by_cases hi : i < nS
    · have hiI : (i : Int) < (nS : Int) := by omega
      have HIi := hid hi
      have HWr := hid (show Fr [] w wr from fr_ses (HF2.out.trans HF5.out) HR.out HZ0w.out)
      rcases HSC.out with h0 | ⟨ad, had, hcs⟩
      · omega
      subst had
      obtain ⟨d, ext, x1, x2, bk, tt, hm⟩ := hcs i hi
      obtain ⟨s0, s1, s2, s3, s4, s5⟩ := scr_cells HWr.out hm
      clear hm hcs
      go_wp2_with fail
      obtain ⟨w6, hw6⟩ : ∃ w6, w6 = wr.alloc (.cells #[.int .i64 d, .bool true, .int .i64 x1, .int .i64 x2, .bool bk, .string tt] 33) := ⟨_, rfl⟩
      have HK6 := hid (show Fr [] wr w6 by rw [hw6]; exact (Fr.refl [] wr).alloc _)
      have HP6 := hid (show w6.heap[wr.heap.size]? = some (.cells #[.int .i64 d, .bool true, .int .i64 x1, .int .i64 x2, .bool bk, .string tt] 33 (0, 0)) by rw [hw6]; exact obj_new wr _)
      have HG6 := hid (show Fr [Z] w5 w6 from HR.out.trans (HK6.out.mono (fun _ h _ => absurd h List.not_mem_nil) : Fr [Z] wr w6))
      have HZ6 := hid (obj_fr HZr.out HK6.out List.not_mem_nil)
      have HE6 := hid (HG6.out.cell HE5.out (by simp; omega))
      have HDO := hid (edo_any E Z P Bd (s.size : Nat) Ls 0 d x1 x2 false true bk tt w6 HE6.out hEZ (obj_lt HZ6.out) (fun Y hf => do_all HLY.out HFF.out (by omega) HT.out.l0 Z 0 fo goal d x1 x2 false fb aim true bk tt Y (fr_ses HF5.out (HG6.out.trans (hf.mono (fun _ h _ => absurd h List.not_mem_nil) : Fr [Z] w6 Y)) hZ0) hZ0 (obj_fr HZ6.out hf List.not_mem_nil) HPr.out))
      rw [← hw6]
      clear hw6 s0 s1 s2 s3 s4 s5
      refine HDO.out.mono ?_
      rintro e w7 ⟨ao1, ab1, fo1, fb1, aim1, goal1, a1, a2, y1, b1, b2, c1, c2, vM, m, rfl, own7, hz7, hf7, hp7, hx7, hy7⟩
      obtain ⟨rfl, rfl⟩ := hx7 rfl
      obtain ⟨nM, hnM⟩ : ∃ nM, nM = (selL Ls (askd Bd (s.size : Nat) 0 fo1) Ls.length).length := ⟨_, rfl⟩
      rw [← hnM] at own7
      obtain ⟨aM, cM, hvM⟩ := owns_slice own7
      subst hvM
      have HNM := hid hnM
      have HP7 := hid hp7
      have HZ7 := hid hz7
      have HG7 := hid (HG6.out.trans hf7)
      have hnM0 : fo1 = 0 → nM = 0 := fun e => by rw [hnM, e, show selL Ls (askd Bd (s.size : Nat) 0 0) Ls.length = [] from sel_same HFF.out (p := (0, fb1)) (by rw [← e]; exact hp7) _]; rfl
      have HNZ := hid hnM0
      clear own7 hnM hz7 hf7 hp7 hx7 hy7 hnM0 HDO
      obtain ⟨w8, hw8⟩ : ∃ w8, w8 = w7.alloc (.cells (stC 0 false fo1 fb1 a1 a2 y1 b1 b2 c1 c2 (.slice aM nM cM) m) 40) := ⟨_, rfl⟩
      have HK8 := hid (show Fr [] w7 w8 by rw [hw8]; exact (Fr.refl [] w7).alloc _)
      have HX8 := hid (show w8.heap[w7.heap.size]? = some (.cells (stC 0 false fo1 fb1 a1 a2 y1 b1 b2 c1 c2 (.slice aM nM cM) m) 40 (0, 0)) by rw [hw8]; exact obj_new w7 _)
      have HG8 := hid (show Fr [Z] w5 w8 from HG7.out.trans (HK8.out.mono (fun _ h _ => absurd h List.not_mem_nil) : Fr [Z] w7 w8))
      have HI7 := hid (obj_fr HI5.out HG7.out (by simp; omega))
      have u0 := obj_cell HI7.out (i := 0) (v := .int .i64 0) rfl
      have u1 := obj_cell HI7.out (i := 1) (v := .bool false) rfl
      have hgF7 := obj_lt HI7.out
      have HPL := hid (HKM.out.place w8 (fr_ses HF5.out HG8.out hZ0) fo1 fb1)
      rw [show placeL Bd (s.size : Nat) fo1 fb1 = (fo1, fb1) from HP7.out] at HPL
      go_wp2_with fail
      rw [← hw8]
      clear hw8 u0 u1 hgF7
      refine HPL.out.mono ?_
      rintro e w9 ⟨rfl, hf9⟩
      have HX9 := hid (obj_fr HX8.out hf9 List.not_mem_nil)
      have HG9 := hid (show Fr [Z] w5 w9 from HG8.out.trans (hf9.mono (fun _ h _ => absurd h List.not_mem_nil) : Fr [Z] w8 w9))
      have HZ9 := hid (obj_fr HZ7.out (HK8.out.trans hf9) List.not_mem_nil)
      clear hf9 HPL
      have v2 := obj_cell HX9.out (i := 2) (v := .int .i64 fo1) rfl
      have v3 := obj_cell HX9.out (i := 3) (v := .bool fb1) rfl
      have v11 := obj_cell HX9.out (i := 11) (v := .slice aM nM cM) rfl
      have hx9 := obj_lt HX9.out
      generalize w7.heap.size = gX at *
      by_cases h0 : fo1 = 0
      · have hn0 := HNZ.out h0
        subst hn0
        subst h0
        have hd0 : decide ((0 : Int) < ((0 : Nat) : Int)) = false := by simp
        go_wp2
        exact ⟨⟨i + 1, 0, goal1, fb1, aim1, by go_num, HIi.out, hid (HG9.out.alloc _), hid (obj_fr HZ9.out ((Fr.refl [] _).alloc _) List.not_mem_nil), hid HP7.out⟩, by simp [intOf]; have := HIi.out; omega⟩
      · have hd0 : (fo1 == 0) = false := by simpa using h0
        go_wp2
        exact ⟨⟨i + 1, fo1, goal1, fb1, aim1, by go_num, HIi.out, hid (HG9.out.alloc _), hid (obj_fr HZ9.out ((Fr.refl [] _).alloc _) List.not_mem_nil), hid HP7.out⟩, by simp [intOf]; have := HIi.out; omega⟩
    · obtain rfl : i = nS := by omega
      have hiI : decide ((i : Int) < (i : Int)) = false := by simp
      obtain ⟨wa, hwa⟩ : ∃ wa, wa = wr := ⟨_, rfl⟩
      rw [← hwa] at HR HZr ⊢
      have HRa := hid HR.out
      have HZa := hid HZr.out
      clear hwa HR HZr
      go_wp2_with fail
      go_loopw [13] (fun jv wr => ∃ (j : Nat) (ao fo goal : Int) (ab fb aim : Bool), jv = .int .i64 j ∧ j ≤ i ∧ Hid (Fr [Z] w5 wr) ∧ Hid (wr.heap[Z]? = some (.cells (sesC P ao ab fo fb aim goal) 240 (0, 0))) ∧ Hid (Plc Bd (s.size : Nat) (fo, fb))) (fun jv _ => i - (intOf jv).toNat)
      case atStart => exact ⟨0, 0, fo, goal, false, fb, aim, rfl, Nat.zero_le _, hid HRa.out, hid HZa.out, hid HPr.out⟩
      case round =>
        clear HPr HRa HZa hiI
        obtain ⟨j, ao, fo, goal, ab, fb, aim, rfl, hjn, HR, HZr, HPr⟩ := hrel
        by_cases hj : j < i
        · have hjI : (j : Int) < (i : Int) := by omega
          have HJj := hid hj
          have HWr := hid (show Fr [] w wr from fr_ses (HF2.out.trans HF5.out) HR.out HZ0w.out)
          rcases HSC.out with h0 | ⟨ad, had, hcs⟩
          · omega
          subst had
          obtain ⟨d, ext, x1, x2, bk, tt, hm⟩ := hcs j hj
          obtain ⟨s0, s1, s2, s3, s4, s5⟩ := scr_cells HWr.out hm
          clear hm hcs
          go_wp2_with fail
          obtain ⟨w6, hw6⟩ : ∃ w6, w6 = wr.alloc (.cells #[.int .i64 d, .bool false, .int .i64 x1, .int .i64 x2, .bool bk, .string tt] 33) := ⟨_, rfl⟩
          have HK6 := hid (show Fr [] wr w6 by rw [hw6]; exact (Fr.refl [] wr).alloc _)
          have HP6 := hid (show w6.heap[wr.heap.size]? = some (.cells #[.int .i64 d, .bool false, .int .i64 x1, .int .i64 x2, .bool bk, .string tt] 33 (0, 0)) by rw [hw6]; exact obj_new wr _)
          have HG6 := hid (show Fr [Z] w5 w6 from HR.out.trans (HK6.out.mono (fun _ h _ => absurd h List.not_mem_nil) : Fr [Z] wr w6))
          have HZ6 := hid (obj_fr HZr.out HK6.out List.not_mem_nil)
          have HE6 := hid (HG6.out.cell HE5.out (by simp; omega))
          have HDO := hid (edo_any E Z P Bd (s.size : Nat) Ls ao d x1 x2 ab false bk tt w6 HE6.out hEZ (obj_lt HZ6.out) (fun Y hf => do_all HLY.out HFF.out (by omega) HT.out.l0 Z ao fo goal d x1 x2 ab fb aim false bk tt Y (fr_ses HF5.out (HG6.out.trans (hf.mono (fun _ h _ => absurd h List.not_mem_nil) : Fr [Z] w6 Y)) hZ0) hZ0 (obj_fr HZ6.out hf List.not_mem_nil) HPr.out))
          rw [← hw6]
          clear hw6 s0 s1 s2 s3 s4 s5
          refine HDO.out.mono ?_
          rintro e w7 ⟨ao1, ab1, fo1, fb1, aim1, goal1, a1, a2, y1, b1, b2, c1, c2, vM, m, rfl, own7, hz7, hf7, hp7, hx7, hy7⟩
          obtain ⟨nM, hnM⟩ : ∃ nM, nM = (selL Ls (askd Bd (s.size : Nat) ao1 fo1) Ls.length).length := ⟨_, rfl⟩
          rw [← hnM] at own7
          obtain ⟨aM, cM, hvM⟩ := owns_slice own7
          subst hvM
          have HP7 := hid hp7
          have HZ7 := hid hz7
          have HG7 := hid (HG6.out.trans hf7)
          have HO7 := hid (obj_fr HP6.out hf7 (by have := HG6.out.size; have := HR.out.size; have := obj_lt HI5.out; simp; omega))
          have HY7 := hid (show 0 ≤ d → d ≤ 9 → ao1 = fo1 ∧ ab1 = fb1 ∧ nM = 0 from fun h1 h2 => by
            obtain ⟨e1, e2⟩ := hy7 rfl h1 h2
            exact ⟨e1, e2, by rw [hnM, e1, show selL Ls (askd Bd (s.size : Nat) fo1 fo1) Ls.length = [] from sel_same HFF.out (p := (fo1, fb1)) hp7 _]; rfl⟩)
          have o0 := obj_cell HO7.out (i := 0) (v := .int .i64 d) rfl
          have ho7 := obj_lt HO7.out
          have hw7 := HG7.out.size
          have HKA := hid (fun (ob : Obj) => show Fr [Z] w5 (w7.alloc ob) ∧ (w7.alloc ob).heap[Z]? = some (.cells (sesC P ao1 ab1 fo1 fb1 aim1 goal1) 240 (0, 0)) from ⟨HG7.out.alloc _, obj_fr HZ7.out ((Fr.refl [] _).alloc _) List.not_mem_nil⟩)
          clear own7 hnM hz7 hf7 hp7 hx7 hy7 HDO
          by_cases h1 : 0 ≤ d
          · by_cases h2 : d ≤ 9
            · obtain ⟨e1, e2, e3⟩ := HY7.out h1 h2
              subst e1 e2 e3
              have hd0 : decide ((0 : Int) < ((0 : Nat) : Int)) = false := by simp
              go_wp2
              exact ⟨⟨j + 1, _, _, _, _, _, _, by go_num, HJj.out, hid (HKA.out _).1, hid (HKA.out _).2, hid HP7.out⟩, by simp [intOf]; have := HJj.out; omega⟩
            · have hd2 : decide (d ≤ 9) = false := by simpa using h2
              go_wp2
              exact ⟨⟨j + 1, _, _, _, _, _, _, by go_num, HJj.out, hid (HKA.out _).1, hid (HKA.out _).2, hid HP7.out⟩, by simp [intOf]; have := HJj.out; omega⟩
          · have hd1 : decide (0 ≤ d) = false := by simpa using h1
            go_wp2
            exact ⟨⟨j + 1, _, _, _, _, _, _, by go_num, HJj.out, hid (HKA.out _).1, hid (HKA.out _).2, hid HP7.out⟩, by simp [intOf]; have := HJj.out; omega⟩
        · obtain rfl : j = i := by omega
          have hjI : decide ((j : Int) < (j : Int)) = false := by simp
          have HWr := hid (show Fr [] w wr from fr_ses (HF2.out.trans HF5.out) HR.out HZ0w.out)
          go_wp2
          go_ret
          exact ⟨rfl, HWr.out⟩
end Go.Proofs.YtnakejhohdbfdabGreatDoor
namespace Go.Proofs.YtnakejhohdbfdabGreatDoor
open Go.RowKit Lev Lay Bnd

set_option maxRecDepth 10000 in
set_option maxHeartbeats 4000000 in
theorem drags_long (s : ByteArray) (b : Int) (vW vB : Value) (W Br : List Int) (n : Nat) (vS : Value) (nS : Nat) (w : World) (hF : Floor w) (hend : Dec.Ends s n) (hW : slAd w vW W) (hB : slAd w vB Br) (hSc : scrAt w vS nS) (hs : s.size ≤ 4096) (hWl : W.length ≤ 4096) (hBl : Br.length ≤ 4096) (hnS : 4096 < nS) (hck : chk s n (clsOf s n) b W Br = 0) :
    Calls Tryz.prog 13 #[.agg #[.string s, .int .i64 b, vW, vB], vS] w fun e w' => e = .returned (.bool true) ∧ Fr [] w w' := by
  obtain ⟨Bd, V, X, r, bs, Cs, Ls, T, TT, F, _, hrb, _, _, _, _, _, _⟩ := keep_four s b W Br n hend (by omega) hck
  obtain ⟨aW, cW, rfl, _⟩ := id hW
  obtain ⟨aB, cB, rfl, _⟩ := id hB
  obtain ⟨aS, cS, rfl, hSc⟩ := hSc
  have HSC := hid hSc
  obtain ⟨wb, hwb⟩ : ∃ wb, wb = w.alloc (.cells #[.string s, .int .i64 b, .slice aW W.length cW, .slice aB Br.length cB] 48) := ⟨_, rfl⟩
  have HFb := hid (show Fr [] w wb by rw [hwb]; exact (Fr.refl [] w).alloc _)
  have HOb := hid (show wb.heap[w.heap.size]? = some (.cells #[.string s, .int .i64 b, .slice aW W.length cW, .slice aB Br.length cB] 48 (0, 0)) by rw [hwb]; exact obj_new w _)
  have HA := hid (fun (Z : World) (hf : Fr [] w Z) => alive_any Z (hF.fr hf))
  have HL := hid (fun (Z : World) (hf : Fr [] w Z) => laid_good s b _ _ W Br Z (hF.fr hf) (hW.fr hf) (hB.fr hf) hs hWl hBl Bd V X r bs Cs Ls T)
  have HT := hid T
  have HTT := hid TT
  have HFF := hid F
  have HRB := hid hrb
  generalize W.length = nW at *
  generalize Br.length = nB at *
  have hn1 : (4096 : Int) < (nS : Int) := by omega
  clear hF hW hB T TT F hend hck hSc hrb
  go_enter Tryz.func13, Tryz.ntmps13
  go_wp2_with fail
  rw [← hwb]
  clear hwb
  refine (HA.out wb HFb.out).mono ?_
  rintro e w1 ⟨rfl, hf1⟩
  have HF1 := hid (HFb.out.trans hf1)
  have HO1 := hid (obj_fr HOb.out hf1 List.not_mem_nil)
  have c0 := obj_cell HO1.out (i := 0) (v := .string s) rfl
  have c1 := obj_cell HO1.out (i := 1) (v := .int .i64 b) rfl
  have c2 := obj_cell HO1.out (i := 2) (v := .slice aW nW cW) rfl
  have c3 := obj_cell HO1.out (i := 3) (v := .slice aB nB cB) rfl
  clear hf1 HA
  go_wp2_with fail
  refine (HL.out w1 HF1.out).mono ?_
  rintro e w2 ⟨Q, P, v0, v1, v2, vL, hs2, rfl, _, _, _, hf2⟩
  have HF2 := hid (HF1.out.trans hf2)
  clear hf2 HL c0 c1 c2 c3
  go_wp2
  go_ret
  exact ⟨rfl, HF2.out⟩
set_option maxRecDepth 10000 in
set_option maxHeartbeats 4000000 in
theorem drags_none (s : ByteArray) (b : Int) (aW aB : Option Addr) (nW cW nB cB : Nat) (aS : Option Addr) (nS cS : Nat) (w : World) (hF : Floor w)
    (hL : ∀ Z, Fr [] w Z → Calls Tryz.prog 30 #[.agg #[.string s, .int .i64 b, .slice aW nW cW, .slice aB nB cB]] Z fun e w' => e = .returned (.pointer none) ∧ Fr [] Z w') :
    Calls Tryz.prog 13 #[.agg #[.string s, .int .i64 b, .slice aW nW cW, .slice aB nB cB], .slice aS nS cS] w fun e w' => e = .returned (.bool true) ∧ Fr [] w w' := by
  obtain ⟨wb, hwb⟩ : ∃ wb, wb = w.alloc (.cells #[.string s, .int .i64 b, .slice aW nW cW, .slice aB nB cB] 48) := ⟨_, rfl⟩
  have HFb := hid (show Fr [] w wb by rw [hwb]; exact (Fr.refl [] w).alloc _)
  have HOb := hid (show wb.heap[w.heap.size]? = some (.cells #[.string s, .int .i64 b, .slice aW nW cW, .slice aB nB cB] 48 (0, 0)) by rw [hwb]; exact obj_new w _)
  have HA := hid (fun (Z : World) (hf : Fr [] w Z) => alive_any Z (hF.fr hf))
  have HL := hid hL
  clear hF hL
  go_enter Tryz.func13, Tryz.ntmps13
  go_wp2_with fail
  rw [← hwb]
  clear hwb
  refine (HA.out wb HFb.out).mono ?_
  rintro e w1 ⟨rfl, hf1⟩
  have HF1 := hid (HFb.out.trans hf1)
  have HO1 := hid (obj_fr HOb.out hf1 List.not_mem_nil)
  have c0 := obj_cell HO1.out (i := 0) (v := .string s) rfl
  have c1 := obj_cell HO1.out (i := 1) (v := .int .i64 b) rfl
  have c2 := obj_cell HO1.out (i := 2) (v := .slice aW nW cW) rfl
  have c3 := obj_cell HO1.out (i := 3) (v := .slice aB nB cB) rfl
  clear hf1 HA
  go_wp2_with fail
  refine (HL.out w1 HF1.out).mono ?_
  rintro e w2 ⟨rfl, hf2⟩
  have HF2 := hid (HF1.out.trans hf2)
  clear hf2 c0 c1 c2 c3 HL
  go_wp2
  go_ret
  exact ⟨rfl, HF2.out⟩
theorem drags_any (s : ByteArray) (b : Int) (vW vB : Value) (W Br : List Int) (vS : Value) (nS : Nat) (w : World) (hF : Floor w) (hW : slAd w vW W) (hB : slAd w vB Br) (hSc : scrAt w vS nS) :
    Calls Tryz.prog 13 #[.agg #[.string s, .int .i64 b, vW, vB], vS] w fun e w' => e = .returned (.bool true) ∧ Fr [] w w' := by
  obtain ⟨aW, cW, rfl, _⟩ := id hW
  obtain ⟨aB, cB, rfl, _⟩ := id hB
  by_cases h : ∃ n, Dec.Ends s n ∧ (s.size ≤ 4096 ∧ W.length ≤ 4096 ∧ Br.length ≤ 4096) ∧ chk s n (clsOf s n) b W Br = 0
  · obtain ⟨n, hend, hf, hck⟩ := h
    by_cases hl : nS ≤ 4096
    · exact drags_good s b _ _ W Br n vS nS w hF hend hW hB hSc hf.1 hf.2.1 hf.2.2 hl hck
    · exact drags_long s b _ _ W Br n vS nS w hF hend hW hB hSc hf.1 hf.2.1 hf.2.2 (by omega) hck
  · obtain ⟨aS, cS, rfl, _⟩ := hSc
    exact drags_none s b aW aB W.length cW Br.length cB aS nS cS w hF (fun Z hf => laid_none s b aW aB cW cB W Br Z (hF.fr hf) (hW.fr hf) (hB.fr hf) (fun n hend hl hck => h ⟨n, hend, hl, hck⟩))
end Go.Proofs.YtnakejhohdbfdabGreatDoor

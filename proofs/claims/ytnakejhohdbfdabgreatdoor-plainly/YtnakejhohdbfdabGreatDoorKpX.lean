/- Whole, plainly. -/
import Derived.Test.YtnakejhohdbfdabGreatDoorKKpT
namespace Go.Proofs.YtnakejhohdbfdabGreatDoor
open Go.RowKit Lev Lay Bnd

/-- What Whole asks of the lists that New lays. -/
structure WholeOk (Bd V X : List Int) (z : Int) (Ls : List Ln) : Prop where
  lv : ∀ i, 0 ≤ nth V i ∧ nth V i ≤ 11
  wd : ∀ i, 0 ≤ nth X i
  f0 : (lnN Ls 0).f = 0
  ft : ∀ j, j + 1 < Ls.length → (lnN Ls j).t = (lnN Ls (j + 1)).f
  tN : (lnN Ls (Ls.length - 1)).t = z
  x0 : ∀ j, j < Ls.length → nth (lnN Ls j).x 0 = 0
  xd : ∀ j, j < Ls.length → ∀ k, k < (lnN Ls j).o.length → nth (lnN Ls j).x (k + 1) - nth (lnN Ls j).x k = nth X (nix (lnN Ls j).o k)
  on : ∀ j, j < Ls.length → ∀ c ∈ (lnN Ls j).o, c < V.length ∧ (lnN Ls j).f ≤ nth Bd c ∧ nth Bd (c + 1) ≤ (lnN Ls j).t
  ap : ∀ j j', j < j' → j' < Ls.length → ∀ c ∈ (lnN Ls j').o, c ∉ (lnN Ls j).o
theorem wsum_nonneg {W : List Int} (hW : ∀ i, 0 ≤ nth W i) : ∀ d a, 0 ≤ wsum W a d
  | 0, _ => by simp [wsum]
  | d + 1, a => by have h1 := wsum_nonneg hW d; have h2 := hW a; unfold wsum; first | (have := h1 (a + 1); omega) | (have := h1 a; have := hW (a + d); omega)
theorem whole_pos {s : ByteArray} {n : Nat} (hend : Dec.Ends s n) (hn : 0 < n) {bs : Int} (hb : bs = 0 ∨ bs = 1) {W Br : List Int} (hW : ∀ i, 0 ≤ nth W i) (E : Edges s n Br) : WholeOk (bnd s n) (lvE s n bs Br) (wl s W n) (s.size : Nat) (lns s n bs W Br (Br.length + 1)) := by
  have hr := rises_bnd hend
  have hvl : (lvE s n bs Br).length = cn s n := by rw [lvE, lvs_len, ← cn_begs hn]
  have hxl : (wl s W n).length = cn s n := by rw [wl_len, ← cn_begs hn]
  have hbl : (bnd s n).length = cn s n + 1 := by have := (bix_len s n).2.1; rw [bnd_length hend]; unfold cn; omega
  have hle : ∀ j, j ≤ Br.length + 1 → eiOf s n Br j ≤ cn s n := E.le
  have hmo : ∀ i j, i < j → j ≤ Br.length + 1 → eiOf s n Br i < eiOf s n Br j := E.mono
  have hf : ∀ j, j < Br.length + 1 → (lnN (lns s n bs W Br (Br.length + 1)) j).f = nth (bnd s n) (eiOf s n Br j) := fun j hj => by
    have := hle j (by omega)
    rw [lns_at hj, bnd_nth hend (by rw [← bnd_length hend, hbl]; omega)]; rfl
  have ht : ∀ j, j < Br.length + 1 → (lnN (lns s n bs W Br (Br.length + 1)) j).t = nth (bnd s n) (eiOf s n Br (j + 1)) := fun j hj => by
    have := hle (j + 1) (by omega)
    rw [lns_at hj, bnd_nth hend (by rw [← bnd_length hend, hbl]; omega)]; rfl
  have hwx : ∀ k, k < cn s n → nth (wl s W n) k = wid W (nix (bix s n) k) (nix (bix s n) (k + 1)) := fun k hk => by
    have e : (clP (bnd s n) (lvE s n bs Br) (wl s W n) (cn s n))[k]? = (clst (Dec.pos s) (nix (bix s n)) (evOf s n bs Br) W (cn s n))[k]? := by rw [cls_same hend hn hb W Br]
    rw [clP_at _ _ _ hk, clst_at _ _ _ _ hk] at e
    exact congrArg (fun p => p.2.2.2) (Option.some.inj e)
  have hmono : ∀ a c, a ≤ c → c < (bnd s n).length → nth (bnd s n) a ≤ nth (bnd s n) c := fun a c h1 h2 => by
    rcases Nat.lt_or_eq_of_le h1 with h | h
    · have := rises_lt hr h h2; omega
    · rw [h]; omega
  refine ⟨fun i => ?_, fun i => ?_, ?_, fun j hj => ?_, ?_, fun j hj => ?_, fun j hj k hk => ?_, fun j hj c hc => ?_, fun j j' h1 h2 c hc hc' => ?_⟩
  · by_cases hi : i < cn s n
    · rw [lvE_ev hend hn hb W Br hi]
      exact elv_bound _ _ _ hb _ _
    · rw [nth_over (by omega)]; decide
  · by_cases hi : i < cn s n
    · rw [hwx i hi]; exact wsum_nonneg hW _ _
    · rw [nth_over (by omega)]; decide
  · rw [hf 0 (by omega), show eiOf s n Br 0 = 0 from E.e0]; exact rises_first hr
  · rw [lns_len] at hj
    rw [ht j (by omega), hf (j + 1) hj]
  · rw [lns_len, Nat.add_sub_cancel, ht _ (by omega), show eiOf s n Br (Br.length + 1) = cn s n from E.eN]
    have := rises_last hr
    rw [hbl, Nat.add_sub_cancel] at this
    exact this
  · rw [lns_len] at hj
    rw [lns_at hj]
    show nth (xs _ _ _) 0 = 0
    rw [xs_at _ _ (Nat.zero_le _)]; rfl
  · rw [lns_len] at hj
    have hm : nix (lnN (lns s n bs W Br (Br.length + 1)) j).o k < cn s n := by
      have h1 := nix_mem' hk
      rw [lns_at hj] at h1
      have h2 := lnOf_mem.1 h1
      have h3 := hle (j + 1) (by omega)
      rw [lns_at hj]
      omega
    rw [hwx _ hm]
    rw [lns_at hj] at hk ⊢
    have hol : (lnOf (Dec.pos s) (nix (bix s n)) (evOf s n bs Br) W (eiOf s n Br j) (eiOf s n Br (j + 1))).o.length = eiOf s n Br (j + 1) - eiOf s n Br j := by
      show ((ordD _ _).map _).length = _
      rw [List.length_map, ordD_len]
    rw [hol] at hk
    show nth (xs _ _ _) (k + 1) - nth (xs _ _ _) k = _
    rw [xs_at _ _ (show k + 1 ≤ _ from hk), xs_at _ _ (Nat.le_of_lt hk), xsum]
    have h : ∀ a c : Int, a + c - a = c := fun a c => by omega
    exact h _ _
  · rw [lns_len] at hj
    rw [lns_at hj] at hc
    have h2 := lnOf_mem.1 hc
    have h3 := hle (j + 1) (by omega)
    rw [hf j hj, ht j hj]
    exact ⟨by omega, hmono _ _ h2.1 (by omega), hmono _ _ h2.2 (by omega)⟩
  · rw [lns_len] at h2
    rw [lns_at h2] at hc
    rw [lns_at (by omega)] at hc'
    have a1 := lnOf_mem.1 hc
    have a2 := lnOf_mem.1 hc'
    rcases Nat.lt_or_eq_of_le (show j + 1 ≤ j' from h1) with h | h
    · have := hmo (j + 1) j' h (by omega); omega
    · rw [h] at a2; omega
theorem whole_nil : WholeOk [0] [] [] 0 [ln0] := by
  refine ⟨fun i => ?_, fun i => ?_, rfl, fun j hj => ?_, rfl, fun j hj => ?_, fun j hj k hk => ?_, fun j hj c hc => ?_, fun j j' h1 h2 => ?_⟩
  · rw [nth_over (by simp)]; decide
  · rw [nth_over (by simp)]; decide
  · simp at hj
  · obtain rfl : j = 0 := by simpa using hj
    rfl
  · obtain rfl : j = 0 := by simpa using hj
    exact absurd hk (Nat.not_lt_zero _)
  · obtain rfl : j = 0 := by simpa using hj
    exact absurd hc List.not_mem_nil
  · simp at h2; omega
/-- Whether a cluster has been seen: on a line ahead, or among the first k of line i. -/
def sn (Ls : List Ln) (i k c : Nat) : Bool := (List.range i).any (fun j => (lnN Ls j).o.contains c) || ((lnN Ls i).o.take k).contains c
def snL (Ls : List Ln) (n i k : Nat) : List Int := (List.range n).map (fun c => if sn Ls i k c then 1 else 0)
theorem snL_len (Ls : List Ln) (n i k : Nat) : (snL Ls n i k).length = n := by simp [snL]
theorem snL_at (Ls : List Ln) {n i k c : Nat} (h : c < n) : nth (snL Ls n i k) c = if sn Ls i k c then 1 else 0 := by simp [nth, snL, h]
theorem snL_zero (Ls : List Ln) (n : Nat) : snL Ls n 0 0 = List.replicate n 0 := by
  apply List.ext_getElem?
  intro c
  by_cases h : c < n
  · simp [snL, sn, h]
  · simp [snL, h]
theorem snL_next (Ls : List Ln) (n i : Nat) : snL Ls n i (lnN Ls i).o.length = snL Ls n (i + 1) 0 := by
  unfold snL
  congr 1
  funext c
  have e : sn Ls i (lnN Ls i).o.length c = sn Ls (i + 1) 0 c := by
    unfold sn
    rw [List.range_succ, List.any_append, List.take_length, List.take_zero]
    simp
  rw [e]
theorem snL_step {Bd V X : List Int} {z : Int} {Ls : List Ln} (O : WholeOk Bd V X z Ls) (hnd : ∀ i, i < Ls.length → (lnN Ls i).o.Nodup) {n i k : Nat} (hi : i < Ls.length) (hk : k < (lnN Ls i).o.length) (hn : nix (lnN Ls i).o k < n) :
    nth (snL Ls n i k) (nix (lnN Ls i).o k) = 0 ∧ snL Ls n i (k + 1) = (snL Ls n i k).set (nix (lnN Ls i).o k) 1 := by
  have hm := nix_mem' hk
  have hnot : sn Ls i k (nix (lnN Ls i).o k) = false := by
    unfold sn
    rw [Bool.or_eq_false_iff]
    constructor
    · rw [List.any_eq_false]
      intro j hj hc
      rw [List.mem_range] at hj
      exact O.ap j i hj hi _ hm (by simpa using hc)
    · rw [← Bool.not_eq_true]
      intro hc
      have hc2 : nix (lnN Ls i).o k ∈ (lnN Ls i).o.take k := by simpa using hc
      obtain ⟨t, ht, e⟩ := List.getElem_of_mem hc2
      rw [List.length_take] at ht
      rw [List.getElem_take] at e
      have hst := stands_nd (hnd i hi) hk
      exact hst.no t (by omega) (by rw [nix_eq (show t < (lnN Ls i).o.length by omega)]; exact e)
  refine ⟨by rw [snL_at Ls hn, hnot]; rfl, ?_⟩
  apply List.ext_getElem?
  intro c
  by_cases hc : c < n
  · rw [List.getElem?_set]
    by_cases he : nix (lnN Ls i).o k = c
    · rw [if_pos he, if_pos (by rw [snL_len]; omega)]
      have : sn Ls i (k + 1) c = true := by
        unfold sn
        rw [Bool.or_eq_true]
        right
        rw [List.contains_iff_mem, List.take_succ_eq_append_getElem hk, List.mem_append]
        right
        rw [← he, nix_eq hk]
        simp
      simp [snL, hc, this]
    · rw [if_neg he]
      have : sn Ls i (k + 1) c = sn Ls i k c := by
        unfold sn
        congr 1
        rw [nix_eq hk] at he
        rw [Bool.eq_iff_iff, List.contains_iff_mem, List.contains_iff_mem, List.take_succ_eq_append_getElem hk, List.mem_append]
        exact ⟨fun h => h.elim id (fun h => absurd (List.mem_singleton.1 h).symm he), .inl⟩
      simp [snL, hc, this]
  · rw [List.getElem?_eq_none (by rw [snL_len]; omega), List.getElem?_eq_none (by rw [List.length_set, snL_len]; omega)]
theorem snL_all {Bd V : List Int} {z : Int} {Ls : List Ln} (F : Fine Bd V z Ls) {c : Nat} (hc : c < V.length) : nth (snL Ls V.length Ls.length 0) c = 1 := by
  obtain ⟨i, hi, hm⟩ := F.has c hc
  have : sn Ls Ls.length 0 c = true := by
    unfold sn
    rw [Bool.or_eq_true]
    left
    rw [List.any_eq_true]
    exact ⟨i, List.mem_range.2 hi, by simpa using hm⟩
  rw [snL_at Ls hc, this]; rfl
theorem keep_four (s : ByteArray) (b : Int) (W Br : List Int) (n : Nat) (hend : Dec.Ends s n) (hBl : Br.length ≤ 5000) (hck : chk s n (clsOf s n) b W Br = 0) : ∃ Bd V X r bs Cs Ls, Twin s b W Br Bd V X r bs Cs Ls ∧ Tame Bd V Ls ∧ Fine Bd V (s.size : Nat) Ls ∧ (0 < V.length → Edges s n Br ∧ 0 < n ∧ (bs = 0 ∨ bs = 1) ∧ Bd = bnd s n ∧ V = lvE s n bs Br ∧ Ls = lns s n bs W Br (Br.length + 1)) ∧ (-1 ≤ r ∧ r ≤ 1) ∧ (V.length = 0 → Ls.length = 1) ∧ bs = baseOf (Kl s n) b ∧ r = 1 - 2 * bs ∧ (bs = 0 ∨ bs = 1) ∧ WholeOk Bd V X (s.size : Nat) Ls ∧ Ls.length = Br.length + 1 := by
  obtain ⟨hs, hb⟩ := chk_zero' hck
  obtain ⟨hWl, hw, hbr⟩ := chk_zero hend hs hb hck
  by_cases hn : 0 < n
  · have hE := edges_ok hend hn Br hbr
    have hn4 : n ≤ 400 := by have := Dec.le_pos s n; have := hend.1; omega
    have hcn : cn s n ≤ 400 := by have := bix_len s n; unfold cn; omega
    have hB4 : Br.length + 1 ≤ 400 := by
      have h1 := ei_ge hE (Br.length + 1) (Nat.le_refl _)
      have h2 := hE.le (Br.length + 1) (Nat.le_refl _)
      unfold eiOf at h1
      omega
    have hvl : (lvE s n (baseOf (Kl s n) b) Br).length = cn s n := by rw [lvE, lvs_len, ← cn_begs hn]
    have hc0 : 0 < cn s n := by
      have h1 := ei_ge hE (Br.length + 1) (Nat.le_refl _)
      have h2 := hE.le (Br.length + 1) (Nat.le_refl _)
      unfold eiOf at h1
      omega
    have hWB : ∀ i, 0 ≤ nth W i ∧ nth W i ≤ 1073741824 := fun i => by
      by_cases hi : i < n
      · exact wOk_at hw hi
      · rw [nth_over (by omega)]; decide
    refine ⟨bnd s n, lvE s n (baseOf (Kl s n) b) Br, wl s W n, 1 - 2 * baseOf (Kl s n) b, baseOf (Kl s n) b, clst (Dec.pos s) (nix (bix s n)) (evOf s n (baseOf (Kl s n) b) Br) W (cn s n), lns s n (baseOf (Kl s n) b) W Br (Br.length + 1), ?_, tame_pos hn hn4 (base_01 hb) hWB hE hcn, fine_pos hend hn hE, fun _ => ⟨hE, hn, base_01 hb, rfl, rfl, rfl⟩, by rcases base_01 (K := Kl s n) hb with h | h <;> rw [h] <;> decide, fun h => by rw [hvl] at h; omega, rfl, rfl, base_01 hb, whole_pos hend hn (base_01 hb) (fun i => (hWB i).1) hE, lns_len ..⟩
    exact {
      vx := by rw [hvl, wl_len, ← cn_begs hn]
      bd := by have := (bix_len s n).2.1; rw [hvl, bnd_length hend]; unfold cn; omega
      vl := by rw [hvl]; exact hcn
      cs := by rw [hvl]; exact cls_same hend hn (base_01 hb) W Br
      l0 := by rw [lns_len]; omega
      l1 := by rw [lns_len]; exact hB4
      ll := lns_small hE hcn _ W
      p := fun w vW vB hF h1 h2 => newP_pos s b vW vB W Br n w hs hb hF hend hn h1 h2 hBl hck }
  · obtain rfl : n = 0 := by omega
    have hs0 : s.size = 0 := hend.1.symm
    have hbr0 := br_nil hs0 hbr
    subst hbr0
    refine ⟨[0], [], [], 1 - 2 * baseOf [] b, baseOf [] b, [], [ln0], ?_, tame_nil, by rw [hs0]; exact fine_nil, fun h => absurd h (by decide), by rcases base_01 (K := []) hb with h | h <;> rw [h] <;> decide, fun _ => rfl, rfl, rfl, base_01 hb, by rw [hs0]; exact whole_nil, rfl⟩
    exact {
      vx := rfl
      bd := rfl
      vl := by decide
      cs := rfl
      l0 := by decide
      l1 := by decide
      ll := fun l hl => by rw [List.mem_singleton.1 hl]; decide
      p := fun w vW vB hF h1 h2 => newP_nil s b vW vB W [] w hs0 hb hF h1 h2 hck }
theorem cl_cell4 {w : World} {B c g cap : Nat} {Bd V X : List Int} (h : w.ownsRow B 67 4 (.slice (some ⟨g, 0, none⟩) c cap) c (clCells (clP Bd V X c))) {i : Nat} (hi : i < c) :
    w.cell? ⟨g, i * 4, none⟩ = some (.int .i64 (nth Bd i)) ∧ w.cell? ⟨g, i * 4 + 1, none⟩ = some (.int .i64 (nth Bd (i + 1))) ∧ w.cell? ⟨g, i * 4 + 2, none⟩ = some (.int .i64 (nth V i)) ∧ w.cell? ⟨g, i * 4 + 3, none⟩ = some (.int .i64 (nth X i)) := by
  have hl := h.1
  obtain ⟨a1, a2, a3, a4⟩ := clCells_at _ i _ (clP_at Bd V X hi)
  exact ⟨by rw [h.cellAt _ (by omega)]; exact a1, by rw [h.cellAt _ (by omega)]; exact a2, by rw [h.cellAt _ (by omega)]; exact a3, by rw [h.cellAt _ (by omega)]; exact a4⟩
/-- A line's cells, in the row of lines that is handed out, wherever the block gS alone was written. -/
theorem ln_cells {w4 w5 : World} {B U gN cN K gS : Nat} {hs : List Value} {Ls : List Ln} (h : w4.ownsRow B 72 4 (.slice (some ⟨gN, 0, none⟩) K cN) K hs) (hl : lnsAt w4 B U hs Ls) (hK : Ls.length = K) (hf5 : Fr [] w4 w5) (hgS : gS = w4.heap.size) (hx : ∀ j, j < K → 0 < (lnN Ls j).x.length) {j : Nat} (hj : j < K) :
    ∃ aO cO gX cX, (∀ Y, Fr [gS] w5 Y → Y.cell? ⟨gN, j * 4, none⟩ = some (.int .i64 (lnN Ls j).f) ∧ Y.cell? ⟨gN, j * 4 + 1, none⟩ = some (.int .i64 (lnN Ls j).t) ∧ Y.cell? ⟨gN, j * 4 + 2, none⟩ = some (.slice aO (lnN Ls j).o.length cO) ∧ Y.cell? ⟨gN, j * 4 + 3, none⟩ = some (.slice (some ⟨gX, 0, none⟩) (lnN Ls j).x.length cX) ∧ ∀ t, t < (lnN Ls j).x.length → Y.cell? ⟨gX, t, none⟩ = some (.int .i64 (nth (lnN Ls j).x t))) ∧
      (0 < (lnN Ls j).o.length → ∃ gO, aO = some ⟨gO, 0, none⟩ ∧ ∀ Y, Fr [gS] w5 Y → ∀ t, t < (lnN Ls j).o.length → Y.cell? ⟨gO, t, none⟩ = some (.int .i64 (nix (lnN Ls j).o t : Nat))) := by
  obtain ⟨vO, vX, a1, a2, a3, a4, a5, a6, _⟩ := hl j _ (lnN_get' (by omega))
  obtain ⟨aO, cO, rfl⟩ := owns_slice a5
  obtain ⟨gX, cX, rfl⟩ := owns_shape (hx j hj) a6
  have h1 := h.1
  have nS : ∀ {b : Nat}, b < w4.heap.size → b ∉ [gS] := fun hb hm => by have := List.mem_singleton.1 hm; omega
  have hN := (owns_at h).2
  have hX := (owns_at a6).2
  refine ⟨aO, cO, gX, cX, fun Y hf => ⟨?_, ?_, ?_, ?_, fun t ht => ?_⟩, fun ho => ?_⟩
  · exact hf.cell (hf5.cell (by rw [h.cellAt _ (by omega)]; exact a1) List.not_mem_nil) (nS hN)
  · exact hf.cell (hf5.cell (by rw [h.cellAt _ (by omega)]; exact a2) List.not_mem_nil) (nS hN)
  · exact hf.cell (hf5.cell (by rw [h.cellAt _ (by omega)]; exact a3) List.not_mem_nil) (nS hN)
  · exact hf.cell (hf5.cell (by rw [h.cellAt _ (by omega)]; exact a4) List.not_mem_nil) (nS hN)
  · exact hf.cell (hf5.cell (by rw [a6.cellAt _ (by omega)]; exact ints64_at ht) List.not_mem_nil) (nS hX)
  · obtain ⟨gO, cO', hv⟩ := owns_shape ho a5
    cases hv
    have hO := (owns_at a5).2
    exact ⟨gO, rfl, fun Y hf t ht => hf.cell (hf5.cell (owns_rowN a5 rfl t ht) List.not_mem_nil) (nS hO)⟩
end Go.Proofs.YtnakejhohdbfdabGreatDoor

/- Signed: its texts, plainly. -/
import Derived.Test.YtnakejhohdbfdabGreatDoorKPwK
namespace Go.Proofs.YtnakejhohdbfdabGreatDoor
open Go.RowKit Lev Lay Bnd

/-- A letter and k blanks. -/
def sgS (odd : Bool) : Nat → ByteArray
  | 0 => if odd then ⟨#[215, 144]⟩ else ⟨#[97]⟩
  | k + 1 => sgS odd k ++ ⟨#[32]⟩
theorem sgS_size (odd : Bool) : ∀ k, (sgS odd k).size = (if odd then 2 else 1) + k
  | 0 => by cases odd <;> rfl
  | k + 1 => by
    rw [sgS, ByteArray.size_append, sgS_size odd k]
    rfl
abbrev sgT (odd : Bool) (k : Nat) : ByteArray := sgS odd k ++ ⟨#[9]⟩ ++ sgS odd k
def sgL (odd : Bool) (bs : Int) : Int := if odd then 1 else if bs = 1 then 2 else 0
def sgV (odd : Bool) (k : Nat) (bs : Int) : List Int := (List.range (2 * k + 3)).map fun i => if i = 0 ∨ i = k + 2 then sgL odd bs else bs
def ones (n : Nat) : List Int := List.replicate n 1
theorem ones_len (n : Nat) : (ones n).length = n := by simp [ones]
theorem ones_snoc (n : Nat) : ones (n + 1) = ones n ++ [1] := by simp [ones, List.replicate_succ']
def sgEnds (s : ByteArray) (n : Nat) : Bool := decide (Dec.pos s n = s.size) && (List.range n).all (fun j => decide (Dec.pos s j < s.size))
def sgOk (odd : Bool) (b : Int) (k : Nat) : Bool :=
  sgEnds (sgT odd k) (2 * k + 3) && decide (chk (sgT odd k) (2 * k + 3) (clsOf (sgT odd k) (2 * k + 3)) b (ones (2 * k + 3)) [] = 0)
    && decide (baseOf (Kl (sgT odd k) (2 * k + 3)) b = b) && decide (lvE (sgT odd k) (2 * k + 3) b [] = sgV odd k b) && decide ((bnd (sgT odd k) (2 * k + 3)).length = 2 * k + 4)
    && decide ((wl (sgT odd k) (ones (2 * k + 3)) (2 * k + 3)).length = 2 * k + 3)
def sgAll (odd : Bool) (b : Int) : Bool := (List.range 10).all (sgOk odd b)
theorem sg_f0 : sgAll false 0 = true := by kernel_rfl
theorem sg_f1 : sgAll false 1 = true := by kernel_rfl
theorem sg_t0 : sgAll true 0 = true := by kernel_rfl
theorem sg_t1 : sgAll true 1 = true := by kernel_rfl
theorem ends_of {s : ByteArray} {n : Nat} (h : sgEnds s n = true) : Dec.Ends s n := by
  unfold sgEnds at h
  rw [Bool.and_eq_true] at h
  exact ⟨of_decide_eq_true h.1, fun j hj => of_decide_eq_true (List.all_eq_true.1 h.2 j (List.mem_range.2 hj))⟩
theorem sg_ok {odd : Bool} {b : Int} (hb : b = 0 ∨ b = 1) {k : Nat} (hk : k < 10) : Dec.Ends (sgT odd k) (2 * k + 3) ∧ chk (sgT odd k) (2 * k + 3) (clsOf (sgT odd k) (2 * k + 3)) b (ones (2 * k + 3)) [] = 0
    ∧ baseOf (Kl (sgT odd k) (2 * k + 3)) b = b ∧ lvE (sgT odd k) (2 * k + 3) b [] = sgV odd k b ∧ (bnd (sgT odd k) (2 * k + 3)).length = 2 * k + 4 ∧ (wl (sgT odd k) (ones (2 * k + 3)) (2 * k + 3)).length = 2 * k + 3 := by
  have h : sgAll odd b = true := by
    rcases hb with rfl | rfl <;> cases odd
    · exact sg_f0
    · exact sg_t0
    · exact sg_f1
    · exact sg_t1
  have h1 := List.all_eq_true.1 h k (List.mem_range.2 hk)
  unfold sgOk at h1
  simp only [Bool.and_eq_true] at h1
  obtain ⟨⟨⟨⟨⟨a, b⟩, c⟩, d⟩, e⟩, f⟩ := h1
  exact ⟨ends_of a, of_decide_eq_true b, of_decide_eq_true c, of_decide_eq_true d, of_decide_eq_true e, of_decide_eq_true f⟩
theorem sgV_at {odd : Bool} {k : Nat} {bs : Int} {i : Nat} (hi : i < 2 * k + 3) : nth (sgV odd k bs) i = if i = 0 ∨ i = k + 2 then sgL odd bs else bs := by simp [nth, sgV, hi]
abbrev sgP : ByteArray := ⟨#[226, 128, 142, 33, 215, 144]⟩
abbrev sgQ : ByteArray := ⟨#[33, 226, 128, 143, 97]⟩
theorem sgP_ends : Dec.Ends sgP 3 := ends_of (by kernel_rfl)
theorem sgQ_ends : Dec.Ends sgQ 3 := ends_of (by kernel_rfl)
theorem sgP_base : baseOf (Kl sgP 3) 2 = 0 := by kernel_rfl
theorem sgQ_base : baseOf (Kl sgQ 3) 2 = 1 := by kernel_rfl
theorem sg_cell {w : World} {B c g cap : Nat} {Bd V X : List Int} (h : w.ownsRow B 67 4 (.slice (some ⟨g, 0, none⟩) c cap) c (clCells (clP Bd V X c))) {i : Nat} (hi : i < c) :
    w.cell? ⟨g, i * 4 + 2, none⟩ = some (.int .i64 (nth V i)) := by
  have hl := h.1
  obtain ⟨a1, a2, a3, a4⟩ := clCells_at _ i _ (clP_at Bd V X hi)
  rw [h.cellAt _ (by omega)]; exact a3
theorem sg_slAd {w : World} {B : Nat} {a : Option Addr} {n c : Nat} {l : List Int} (h : w.ownsRow B 3 1 (.slice a n c) n (ints64 l)) (hl : l.length = n) : slAd w (.slice a n c) l := by
  rcases h.2 with ⟨hv, h0⟩ | ⟨g, cap, cur, hv, _⟩
  · cases hv
    exact ⟨none, 0, by rw [hl], .inl ⟨rfl, rfl, by rw [hl]⟩⟩
  · cases hv
    refine ⟨some ⟨g, 0, none⟩, c, by rw [hl], .inr ⟨⟨g, 0, none⟩, rfl, fun i hi => ?_⟩⟩
    have e := h.cellAt i (by omega)
    rw [ints64_at hi] at e
    rcases Nat.eq_zero_or_pos i with h9 | h9
    · subst h9; exact e
    · simpa [Addr.add, show ¬ i = 0 by omega] using e
theorem sg_lev (s : ByteArray) (b : Int) (n : Nat) (w : World) (hF : Floor w) (hend : Dec.Ends s n) (hs : s.size ≤ 400) (hn : 0 < n) (hn4 : n ≤ 400) (hb : b = 0 ∨ b = 1 ∨ b = 2) :
    Calls Tryz.prog 34 #[.string s, .int .i64 b] w fun e w' => ∃ g l c, e = .returned (.tuple #[.slice g l c, .int .i64 (baseOf (Kl s n) b), .int .i64 0]) ∧ Fr [] w w' := by
  refine (levels_good s b w hs hb (fun _ _ _ p w' => p = baseOf (Kl s n) b ∧ Fr [] w w') ?_).mono ?_
  · refine (of_any s b w (by omega) hb hF.t3 hF.t4 n hend hn (by omega) (Kl_in s n)).mono ?_
    rintro e w' ⟨g, rfl, _, hf, _⟩
    exact ⟨_, _, _, _, rfl, rfl, hf⟩
  · rintro e w' ⟨g, l, c, p, rfl, rfl, hf⟩
    exact ⟨g, l, c, rfl, hf⟩
end Go.Proofs.YtnakejhohdbfdabGreatDoor

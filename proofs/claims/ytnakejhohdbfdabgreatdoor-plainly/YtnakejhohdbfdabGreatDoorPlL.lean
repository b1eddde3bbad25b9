/- The text of letters, built: walked. -/
import Derived.Test.YtnakejhohdbfdabGreatDoorTxU
namespace Go.Proofs.YtnakejhohdbfdabGreatDoor
open Go.RowKit Lev Lay Bnd

theorem LTx.nil (odd : Bool) (q : Nat → Nat) : LTx ByteArray.empty odd 0 q :=
  ⟨fun k h => absurd h (Nat.not_lt_zero _), by cases odd <;> rfl, fun _ k h => absurd h (Nat.not_lt_zero _), fun _ k h => absurd h (Nat.not_lt_zero _)⟩
theorem get_app_left {a b : ByteArray} {i : Nat} (h : i < a.size) : (a ++ b).get! i = a.get! i := by
  have h2 : i < (a ++ b).size := by rw [ByteArray.size_append]; omega
  have e : (a ++ b)[i] = a[i] := ByteArray.getElem_append_left h
  rw [show (a ++ b).get! i = (a ++ b)[i] from getElem!_pos (a ++ b).data i (by simpa using h2), show a.get! i = a[i] from getElem!_pos a.data i (by simpa using h)]
  exact e
theorem get_app_right {a b : ByteArray} {i : Nat} (h : i < b.size) : (a ++ b).get! (a.size + i) = b.get! i := by
  have h2 : a.size + i < (a ++ b).size := by rw [ByteArray.size_append]; omega
  have e : (a ++ b)[a.size + i] = b[i] := by rw [ByteArray.getElem_append_right (Nat.le_add_right _ _)]; congr 1; omega
  rw [show (a ++ b).get! (a.size + i) = (a ++ b)[a.size + i] from getElem!_pos (a ++ b).data _ (by simpa using h2), show b.get! i = b[i] from getElem!_pos b.data i (by simpa using h)]
  exact e
theorem enc_lat {r : Nat} (h : r < 26) : (Utf8.encode ((97 + r : Nat) : Int)).size = 1 ∧ ((Utf8.encode ((97 + r : Nat) : Int)).get! 0).toNat = 97 + r := by
  revert r; decide
theorem enc_heb {r : Nat} (h : r < 27) : (Utf8.encode ((1488 + r : Nat) : Int)).size = 2 ∧ ((Utf8.encode ((1488 + r : Nat) : Int)).get! 0).toNat = 215 ∧ ((Utf8.encode ((1488 + r : Nat) : Int)).get! 1).toNat = 144 + r := by
  revert r; decide
theorem LTx.snoc {s : ByteArray} {odd : Bool} {n r : Nat} {q : Nat → Nat} (h : LTx s odd n q) (hr : r < if odd then 27 else 26) : LTx (s ++ Utf8.encode ((if odd then 1488 + r else 97 + r : Nat) : Int)) odd (n + 1) (fun k => if k = n then r else q k) := by
  have hs := h.sz
  cases odd
  · simp only [Bool.false_eq_true, if_false] at *
    obtain ⟨e1, e2⟩ := enc_lat hr
    refine ⟨fun k hk => ?_, by rw [ByteArray.size_append, hs, e1]; rfl, fun _ k hk => ?_, (fun e => by cases e)⟩
    · have := h.lt k
      simp only [Bool.false_eq_true, if_false] at *
      split
      · exact hr
      · exact this (by omega)
    · by_cases hkn : k = n
      · subst hkn
        rw [if_pos rfl, show k = s.size + 0 by omega, get_app_right (by omega)]
        exact e2
      · rw [if_neg hkn, get_app_left (by omega)]
        exact h.lat rfl k (by omega)
  · simp only [if_true] at *
    obtain ⟨e1, e2, e3⟩ := enc_heb hr
    refine ⟨fun k hk => ?_, by rw [ByteArray.size_append, hs, e1]; simp only [if_true]; omega, (fun e => by cases e), fun _ k hk => ?_⟩
    · have := h.lt k
      simp only [if_true] at *
      split
      · exact hr
      · exact this (by omega)
    · by_cases hkn : k = n
      · subst hkn
        rw [if_pos rfl, show k * 2 = s.size + 0 by omega, show s.size + 0 + 1 = s.size + 1 from rfl, get_app_right (by omega), get_app_right (by omega)]
        exact ⟨e2, e3⟩
      · rw [if_neg hkn, get_app_left (by omega), get_app_left (by omega)]
        exact h.heb rfl k (by omega)
theorem enc4 (r : Int) : (Utf8.encode r).size ≤ 4 := by
  unfold Utf8.encode
  dsimp only
  generalize (if Utf8.valid r = true then r.toNat else Utf8.runeError) = c
  repeat' split
  all_goals simp [ByteArray.size]
theorem wr_lat (b : Nat) (hb : b < 256) : wrap32 (wrap64 (97 + (wrap64 (b : Int)).tmod 26)) = ((97 + b % 26 : Nat) : Int) := by
  have e : wrap64 (b : Int) = (b : Int) := by unfold wrap64; omega
  rw [e, Int.tmod_eq_emod_of_nonneg (by omega)]
  unfold wrap64 wrap32
  omega
theorem wr_heb (b : Nat) (hb : b < 256) : wrap32 (wrap64 (1488 + (wrap64 (b : Int)).tmod 27)) = ((1488 + b % 27 : Nat) : Int) := by
  have e : wrap64 (b : Int) = (b : Int) := by unfold wrap64; omega
  rw [e, Int.tmod_eq_emod_of_nonneg (by omega)]
  unfold wrap64 wrap32
  omega
set_option maxRecDepth 10000 in
set_option maxHeartbeats 2000000 in
theorem letters_any (t : ByteArray) (odd : Bool) (w : World) :
    Calls Tryz.prog 45 #[.string t, .bool odd] w fun e w' => ∃ s n q, e = .returned (.string s) ∧ n ≤ 20 ∧ LTx s odd n q ∧ w' = w := by
  go_enter Tryz.func45, Tryz.ntmps45
  go_wp2_with fail
  go_loopw [5, 6] (fun sv iv wr => ∃ (s : ByteArray) (i : Nat) (q : Nat → Nat), sv = .string s ∧ iv = .int .i64 i ∧ i ≤ 20 ∧ Hid (LTx s odd i q) ∧ wr = w) (fun _ iv _ => 20 - (intOf iv).toNat)
  case atStart => exact ⟨ByteArray.empty, 0, fun _ => 0, rfl, rfl, Nat.zero_le _, hid (LTx.nil _ _), rfl⟩
  case round =>
    obtain ⟨s, i, q, rfl, rfl, hi20, HT, rfl⟩ := hrel
    by_cases hi : i < t.size ∧ i < 20
    · obtain ⟨h1, h2⟩ := hi
      have h1I : (i : Int) < (t.size : Int) := by omega
      have h2I : (i : Int) < 20 := by omega
      have hsz := HT.out.sz
      have hb : (t[i]'h1).toNat < 256 := (t[i]'h1).toNat_lt
      have HB := hid hb
      cases odd
      · simp only [Bool.false_eq_true, if_false] at hsz
        have hns : ¬ (9223372036854775807 < s.size + (Utf8.encode (wrap32 (wrap64 (97 + (wrap64 ((t[i]'h1).toNat : Int)).tmod 26)))).size) := by have := enc4 (wrap32 (wrap64 (97 + (wrap64 ((t[i]'h1).toNat : Int)).tmod 26))); omega
        clear hsz hb
        go_wp2
        exact ⟨⟨_, i + 1, _, rfl, by go_num, by omega, hid (by rw [wr_lat _ HB.out]; exact HT.out.snoc (odd := false) (Nat.mod_lt _ (by decide))), trivial⟩, by simp [intOf]; omega⟩
      · simp only [if_true] at hsz
        have hns : ¬ (9223372036854775807 < s.size + (Utf8.encode (wrap32 (wrap64 (1488 + (wrap64 ((t[i]'h1).toNat : Int)).tmod 27)))).size) := by have := enc4 (wrap32 (wrap64 (1488 + (wrap64 ((t[i]'h1).toNat : Int)).tmod 27))); omega
        clear hsz hb
        go_wp2
        exact ⟨⟨_, i + 1, _, rfl, by go_num, by omega, hid (by rw [wr_heb _ HB.out]; exact HT.out.snoc (odd := true) (Nat.mod_lt _ (by decide))), trivial⟩, by simp [intOf]; omega⟩
    · have HFin := hid HT.out
      by_cases h1 : i < t.size
      · have h1I : (i : Int) < (t.size : Int) := by omega
        have h2I : decide ((i : Int) < 20) = false := by simp; omega
        go_wp2
        go_ret
        exact ⟨s, i, q, rfl, hi20, HFin.out, rfl⟩
      · have h1I : decide ((i : Int) < (t.size : Int)) = false := by simp; omega
        go_wp2
        go_ret
        exact ⟨s, i, q, rfl, hi20, HFin.out, rfl⟩
end Go.Proofs.YtnakejhohdbfdabGreatDoor

/- The program's iterator over clusters, walked. -/
import Derived.Shelf.Abstract
import Derived.Shelf.RegionOpen
import Derived.WalkKit
import Derived.OwnWalkIn
import Derived.TacticsInMore
import Derived.LoopNIn
import Derived.LoopIn
import Derived.Test.YtnakejhohdbfdabDoorWdD
namespace Go.Proofs.YtnakejhohdbfdabDoor
open Go.RowKit Dec Kin Bnd Lay Go.Shelf
attribute [local go_sem] Oper.semAt_some

theorem owns_cap' {w : World} {B g n cap size : Nat} {e : TypeId} {xs : List Value} (h : w.ownsRow B e size (.slice (some ⟨g, 0, none⟩) n cap) n xs) : n ≤ cap := by
  rcases h.2 with ⟨h0, _⟩ | ⟨g', cap', cur, hv, hg, hh, hn, _⟩
  · cases h0
  · cases hv; exact hn
/-- What is handed on of cluster i. -/
def clEnc (s : ByteArray) (n i : Nat) : Array Value := #[.int .i64 ((pos s (nix (bix s n) i) : Nat) : Int), .string (s.extract (pos s (nix (bix s n) i)) (pos s (nix (bix s n) (i + 1))))]
set_option maxRecDepth 100000 in
set_option maxHeartbeats 4000000 in
theorem all1_in (s : ByteArray) (n bt : Nat) (hs : s.size ≤ 1000000) (hend : Dec.Ends s n) (Fg : World → Nat → Prop) (m l : Nat) (V' : Nat → World → Prop)
    (hc : ∀ i A, V' i A → A.cell? ⟨bt, 0, none⟩ = some (.string s) ∧ TabAt A 2 Tabs.kindTab) (hnew : ∀ i A B k, V' i A → Below A.heap.size A B → A.heap.size ≤ k → Fg B k) (hfr : ∀ i A B, V' i A → Below A.heap.size A B → V' i B) (hfd : ∀ i A k, V' i A → Fg A k → Fg A.drew k)
    (hY : ∀ i A, V' i A → i < cn s n → YieldAt Fence.wide (m - 1) Tryd.prog l (clEnc s n i) A fun e B => e = .returned (.bool true) ∧ V' (i + 1) B ∧ ∀ k, k < A.heap.size → Fg A k → B.heap[k]? = A.heap[k]? ∧ Fg B k) (W : World) (h0 : V' 0 W) :
    CallsIn Fence.wide m Tryd.prog 26 (#[.func (.yield l) #[] #[]] ++ #[.pointer (some ⟨bt, 0, none⟩)]) W fun e B => (∃ v, e = .returned v) ∧ V' (cn s n) B := by
  have H28 := hid (fn25_any s W hs (hc _ _ h0).2)
  have b0 := (hc _ _ h0).1
  have HC := hid hc
  have HNW := hid hnew
  have HFR := hid hfr
  have HFR2 := hid hfd
  have HY := hid hY
  have H0 := hid h0
  have HE := hid hend
  obtain ⟨c, hcc⟩ : ∃ c, c = cn s n := ⟨_, rfl⟩
  have hcs : c ≤ 1000000 := by
    have h1 := (bix_len s n).1
    have h2 := le_pos s n
    have h3 := hend.1
    rw [hcc]; unfold cn; omega
  rw [← hcc] at HY ⊢
  have HCC := hid hcc
  clear hc hnew hfr hfd hY h0 hend hcc
  refine callsIn_of_wp Tryd.func26 rfl trivial ?_ rfl
  simp only [Tryd.ntmps26, List.size_toArray, List.length_cons, List.length_nil, Nat.reduceAdd, Nat.reduceSub, Array.replicate_succ, Array.replicate_zero, List.push_toArray, List.append_toArray, List.nil_append, List.cons_append]
  gi_wp2
  refine ⟨trivial, fun hd => absurd hd (by decide), ?_⟩
  refine (callsIn_wide.2 H28.out).mono ?_
  rintro e w1 ⟨n1, v, hn1, rfl, own1, hb1⟩
  obtain rfl := ends_unique HE.out hn1
  rw [bnd_len HE.out, ← HCC.out] at own1
  obtain ⟨gb, cb, hvb⟩ := owns_shape_pos (by omega) own1
  subst hvb
  have HO1 := hid own1
  have HB1 := hid hb1
  clear own1 hb1 hn1 H28
  have hgb := owns_at HO1.out
  have HF1 := hid (HNW.out 0 W w1 gb H0.out HB1.out hgb.1)
  have HV1 := hid (HFR.out 0 W w1 H0.out HB1.out)
  have HCE : Hid (∀ A : World, A.heap[gb]? = w1.heap[gb]? → ∀ j, j ≤ c → A.cell? ⟨gb, j, none⟩ = some (.int .i64 ((pos s (nix (bix s n) j) : Nat) : Int))) := fun A hA j hj => by
    have h := (HO1.out.cellAt j (by omega)).trans (bnd_cells HE.out (by rw [← HCC.out]; exact hj))
    rw [← h]
    unfold World.cell?
    rw [hA]
  clear b0
  have hcap := owns_cap' HO1.out
  by_cases hcb : cb = 1
  · obtain rfl : c = 0 := by omega
    gi_wp2
    gi_loopw [11] (fun a wr => a = .int .i64 0 ∧ wr = w1) (fun _ _ => 0)
    case atStart => exact ⟨rfl, rfl⟩
    case round =>
      obtain ⟨rfl, rfl⟩ := hrel
      gi_wp2
      go_end0
      exact ⟨⟨_, rfl⟩, HV1.out⟩
  gi_wp2
  gi_loopw [11] (fun a wr => ∃ k : Nat, a = .int .i64 k ∧ k ≤ c ∧ Hid (V' k wr) ∧ Hid (wr.heap[gb]? = w1.heap[gb]?) ∧ Hid (Fg wr gb) ∧ gb < wr.heap.size) (fun a _ => c - (intOf a).toNat)
  case atStart => exact ⟨0, rfl, Nat.zero_le _, HV1, hid rfl, HF1, hgb.2⟩
  case round =>
    obtain ⟨k, rfl, hk, HV, HG, HF, hgl⟩ := hrel
    by_cases hlt : k < c
    · have hkI : (k : Int) < (c : Int) := by omega
      have c0 := HCE.out wr HG.out k hk
      have c1 := HCE.out wr HG.out (1 + k) (by omega)
      have b0 := (HC.out _ _ HV.out).1
      have HVD := hid (HFR.out _ _ wr.drew HV.out ⟨rfl, rfl, rfl, Nat.le_refl _, fun _ _ => rfl⟩)
      have HFD := hid (HFR2.out k wr gb HV.out HF.out)
      have hmx : Tryd.prog.follows .mixedOrders = true := by kernel_rfl
      obtain ⟨fn, tmps, assign, body, hyy, hR⟩ := HY.out k wr.drew HVD.out hlt
      unfold clEnc at hyy
      have hp1 := ri_lt (s := s) (n := n) (i := k) (by rw [← HCC.out]; exact hlt)
      have hp2 := ri_le (s := s) (n := n) (i := k + 1) (by rw [← HCC.out]; exact hlt)
      have hp3 := pos_le s (Nat.le_of_lt hp1)
      have hp4 := pos_le s hp2
      have hp5 := HE.out.1
      rw [Nat.add_comm 1 k] at c1
      generalize pos s (nix (bix s n) k) = p0 at *
      generalize pos s (nix (bix s n) (k + 1)) = p1 at *
      rw [Nat.add_comm k 1] at c1
      have hp6 : p1 ≤ s.size := by omega
      clear hp1 hp2 hp4 hp5
      gi_wp2
      gi_region_with_o (refine ⟨fun hd => absurd hd (by decide), hR.mono ?_⟩; rintro e W3 ⟨rfl, hV3, hk3⟩; have HV3 := hid hV3; have HK3 := hid (hk3 gb hgl HFD.out); clear hV3 hk3)
      all_goals (
        gi_wp2
        go_roundw)
      all_goals first
        | exact ⟨k + 1, by go_num, by omega, HV3, hid (HK3.out.1.trans HG.out), hid HK3.out.2, by have h := HK3.out.1; have := (Array.getElem?_eq_some_iff.1 (h.trans (Array.getElem?_eq_getElem hgl))).1; exact this⟩
        | (simp [intOf]; omega)
    · have hkI : ¬ (k : Int) < (c : Int) := by omega
      obtain rfl : c = k := by omega
      gi_wp2
      go_end0
      exact ⟨⟨_, rfl⟩, HV.out⟩
end Go.Proofs.YtnakejhohdbfdabDoor

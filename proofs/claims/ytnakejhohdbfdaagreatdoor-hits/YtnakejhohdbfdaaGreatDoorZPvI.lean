import Derived.Test.YtnakejhohdbfdaaGreatDoorZSnap
import Derived.Test.YtnakejhohdbfdaaGreatDoorZMg
import Derived.Test.YtnakejhohdbfdaaGreatDoorZMm
namespace Go.Proofs.YtnakejhohdbfdaaGreatDoor
open Go.RowKit Lev Lay Bnd
def lvs (s:ByteArray) (Lv:List Int) (i:Nat):List Int:=(begs s i).map (nth Lv)
theorem lvs_yes {s:ByteArray} {Lv:List Int} {i:Nat} (h:beg s i=true):lvs s Lv (i + 1)=lvs s Lv i ++ [nth Lv i]:=by rw [lvs,begs_yes h,List.map_append];rfl
theorem lvs_no {s:ByteArray} {Lv:List Int} {i:Nat} (h:beg s i=false):lvs s Lv (i + 1)=lvs s Lv i:=by rw [lvs,begs_no h];rfl
theorem lvs_len (s:ByteArray) (Lv:List Int) (i:Nat):(lvs s Lv i).length=(begs s i).length:=by simp [lvs]
theorem lvs_at {s:ByteArray} {Lv:List Int} {i k:Nat} (h:k < (begs s i).length):nth (lvs s Lv i) k=nth Lv (nix (begs s i) k):=by simp [nth,lvs,nix,h]
theorem wl_yes {s:ByteArray} {W:List Int} {i:Nat} (h:beg s i=true):wl s W (i + 1)=(wl s W i ++ [0]).set (wl s W i).length (0 + nth W i):=by
 rw [wl,if_pos h,List.set_append_right _ _ (Nat.le_refl _),Nat.sub_self,List.set_cons_zero,Int.zero_add]
theorem wl_no {s:ByteArray} {W:List Int} {i:Nat} (h:beg s i=false):wl s W (i + 1)=(wl s W i).set ((wl s W i).length - 1) (nth (wl s W i) ((wl s W i).length - 1) + nth W i):=by
 rw [wl,if_neg (by rw [h];exact Bool.false_ne_true)]
theorem begs_lt_bix {s:ByteArray} {n i:Nat} (hi:i ≤ n) (hn:0 < n):(begs s i).length < (bix s n).length:=by
 obtain ⟨d,rfl⟩:∃ d,n=i + d:=⟨n - i,by omega⟩
 have h:=(begs_prefix s i d).length_le
 rw [bix,if_neg (by omega),List.length_append]
 simp only [List.length_cons,List.length_nil]
 omega
theorem beg_pos {s:ByteArray} {i:Nat} (h:beg s i=false):0 < i:=by
 rcases Nat.eq_zero_or_pos i with h0 | h0
 ·rw [h0] at h;exact absurd h (by simp [beg])
 ·exact h0
theorem begs_some (s:ByteArray) {i:Nat} (h:0 < i):0 < (begs s i).length:=(begs_len s i).2 h
theorem beg_look {s:ByteArray} {n i:Nat} (h:Dec.Ends s n) (hn:0 < n) (hi:i < n):(((Dec.pos s i:Nat):Int) == nth (bnd s n) (begs s i).length)=beg s i:=by
 have hl:=begs_lt_bix (s:=s) (Nat.le_of_lt hi) hn
 rw [bnd_nth h hl]
 cases hb:beg s i
 ·have h2:=(bix_next (s:=s) hi).2 hb
  have h3:nix (bix s n) (begs s i).length ≤ n:=by
   rcases Nat.lt_or_eq_of_le (show (begs s i).length ≤ cn s n by unfold cn;omega) with h4 | h4
   ·have:=nix_lt (bix_sorted s n) h4 (by unfold cn;omega);rw [bix_last] at this;omega
   ·rw [h4,bix_last];exact Nat.le_refl _
  have h5:=Dec.pos_mono s _ _ h2
  simp;omega
 ·rw [(bix_next (s:=s) hi).1 hb];simp
end Go.Proofs.YtnakejhohdbfdaaGreatDoor

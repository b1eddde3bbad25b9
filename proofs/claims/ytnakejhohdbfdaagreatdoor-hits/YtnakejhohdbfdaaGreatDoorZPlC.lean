import Derived.Test.YtnakejhohdbfdaaGreatDoorZSnap
namespace Go.Proofs.YtnakejhohdbfdaaGreatDoor
open Go.RowKit Lev Lay Bnd
def anyB (K:List Int):Nat→Bool
 | 0=>false
 | k + 1=>anyB K k || nth K k == 10
theorem early_anyB {K:List Int} {P:Nat→Nat} {m:Nat} (hP:∀ i j,i < j→P i < P j):∀ k,Lay.early K P ((P m:Nat):Int) k=anyB K (min k m)
 | 0=>by rw [Nat.zero_min];rfl
 | k + 1=>by
   rw [Lay.early,early_anyB hP k]
   by_cases h:k < m
   ·rw [show min (k + 1) m=min k m + 1 by omega,anyB,show min k m=k by omega,decide_eq_true (by have:=hP k m h;omega),Bool.and_true]
   ·have h1:¬ ((P k:Nat):Int) < ((P m:Nat):Int):=by
     rcases Nat.lt_or_eq_of_le (Nat.le_of_not_lt h) with h2 | h2
     ·have:=hP m k h2;omega
     ·rw [h2];omega
    rw [show min (k + 1) m=min k m by omega,decide_eq_false h1,Bool.and_false,Bool.or_false]
theorem anyB_mono {K:List Int}:∀ {k j:Nat},k ≤ j→anyB K k=true→anyB K j=true
 | k,0,h,hf=>by obtain rfl:k=0:=by omega
                exact hf
 | k,j + 1,h,hf=>by
   rcases Nat.lt_or_eq_of_le h with h1 | h1
   ·rw [anyB,anyB_mono (by omega) hf,Bool.true_or]
   ·rw [← h1];exact hf
theorem tab_fr {w w':World} {g:Nat} {l:List (Int × Int × Int)} (h:Cls.TabAt w g l) (hf:Fr [] w w'):Cls.TabAt w' g l:=fun i hi =>
 ⟨hf.cell (h i hi).1 List.not_mem_nil,hf.cell (h i hi).2.1 List.not_mem_nil,hf.cell (h i hi).2.2 List.not_mem_nil⟩
set_option maxRecDepth 10000 in
set_option maxHeartbeats 4000000 in
theorem early_any (s:ByteArray) (n m:Nat) (B:List Int) (gB cB:Nat) (w:World) (hs:s.size ≤ 400) (hend:Dec.Ends s n) (hm:m ≤ n) (hl:B.length ≤ 1000) (hB0:1 ≤ B.length) (hrow:rowAt w gB B.length B) (hB:nth B (B.length - 2)=((Dec.pos s m:Nat):Int)) (h3:Cls.TabAt w 3 Tabs.lowTab) (h4:Cls.TabAt w 4 Tabs.highTab) :
 Calls Tryz.prog 203 #[.string s,.slice (some ⟨gB,0,none⟩) B.length cB] w fun e w'=>e=.returned (.bool (anyB (clsOf s n) m))∧Fr [] w w':=by
 have HE:=hid (ends_head hend hm)
 have HRU:=hid (fun k (hk:k < m)=>rune_head hend hm hk)
 have HK:=hid (fun k (hk:k < m)=>clsOf_at s (n:=n) (show k < n by omega))
 have e0:=hrow (B.length - 2) (by omega)
 rw [hB] at e0
 have hq:Dec.pos s m ≤ s.size:=by
  rcases Nat.lt_or_eq_of_le hm with h1 | h1
  ·exact Nat.le_of_lt (hend.2 m h1)
  ·rw [h1,hend.1];exact Nat.le_refl _
 obtain ⟨q,hqq⟩:∃ q,q=Dec.pos s m:=⟨_,rfl⟩
 rw [← hqq] at HE HRU e0 hq
 obtain ⟨nb,hnb⟩:∃ nb,nb=B.length:=⟨_,rfl⟩
 rw [← hnb] at hl hB0 e0 ⊢
 obtain ⟨R,hR⟩:∃ R,R=anyB (clsOf s n) m:=⟨_,rfl⟩
 rw [← hR]
 have HR:=hid hR
 have HMO:=hid (fun k (hk:k ≤ m) h=>anyB_mono (K:=clsOf s n) (k:=k) (j:=m) hk h)
 have HT:=hid (fun (w':World) (hf:Fr [] w w')=>(⟨tab_fr h3 hf,tab_fr h4 hf⟩:Cls.TabAt w' 3 Tabs.lowTab∧Cls.TabAt w' 4 Tabs.highTab))
 obtain ⟨st,hst⟩:∃ st,st=s.extract 0 q:=⟨_,rfl⟩
 rw [← hst] at HE HRU
 have hstz:st.size=q:=by rw [hst];exact size_head s q hq
 have HSTZ:=hid hstz
 have hmq:m ≤ q:=by rw [hqq];exact Dec.le_pos s m
 have hwr:IntKind.i64.wrap ((nb:Int) - 2)=(nb:Int) - 2:=by rw [IntKind.wrap_i64];omega
 have hmx:max ((nb:Int) - 2) 0=((nb - 2:Nat):Int):=by omega
 have hnbL:((nb - 2:Nat):Int) < (nb:Int):=by omega
 have hq4:q ≤ 400:=by omega
 have HST:=hid hst
 clear hR hnb hend hrow hB h3 h4 hstz hst hqq
 go_enter Tryz.func203,Tryz.ntmps203
 go_wp2_with fail
 rw [← HST.out]
 go_loopw [] (fun wr=>∃ k p:Nat,p ≤ st.size∧k ≤ m∧wr.heap[w.heap.size]?=some (.stringIter st p)∧Hid (p=Dec.pos st k)∧Hid (Fr [] w wr)∧Hid (anyB (clsOf s n) k=false)) (fun wr=>st.size - wr.iterPos w.heap.size)
 case atStart=>exact ⟨0,0,Nat.zero_le _,Nat.zero_le _,World.iter_heap _ _ _,hid rfl,hid (fr_iter _ _ _),hid rfl⟩
 case round =>
  obtain ⟨k,p,hp,hkm,hit,HP,HF,HA⟩:=hrel
  by_cases hlt:p < st.size
  ·have hkm2:k < m:=by
    rcases Nat.lt_or_eq_of_le hkm with h | h
    ·exact h
    ·have h1:=HE.out.1;rw [← h,← HP.out] at h1;omega
   have hw2:=Dec.width_le st p hlt
   have hw1:=Dec.width_pos st p
   have hnx:=fun ty=>Lib.run_next_any_at (P:=Tryz.prog) wr w.heap.size st p ty hit hlt
   have HQ:=hid (show p + (Utf8.decode st p).2=Dec.pos st (k + 1) by rw [HP.out];rfl)
   have HRV:=hid (show (((Utf8.decode st p).1:Nat):Int)=Dec.rune s k by rw [← HRU.out k hkm2,HP.out];rfl)
   have HS:=hid (show anyB (clsOf s n) (k + 1)=(Tabs.look Tabs.classTab (Dec.rune s k) == 10) by rw [anyB,HA.out,Bool.false_or,HK.out k hkm2])
   rw [← HRV.out] at HS
   have HM:=hid (HMO.out (k + 1) hkm2)
   generalize (Utf8.decode st p).1=r at *
   generalize (Utf8.decode st p).2=d at *
   have HI:=hid (Lib.iterAt_heap wr w.heap.size st p (p + d) hit)
   have HFI:=hid (show Fr [] w (wr.iterAt w.heap.size st (p + d)) from Fr.of_below (Lib.below_iterAt (HF.out.below (Nat.le_refl _) (fun _ h=>absurd h List.not_mem_nil)) (Nat.le_refl _) st (p + d)))
   have HIT:=hid hit
   generalize wr.iterAt w.heap.size st (p + d)=wi at *
   have HC:=hid (Cls.fn22_any (r:Int) wi (HT.out wi HFI.out).1 (HT.out wi HFI.out).2)
   generalize Tabs.look Tabs.classTab (r:Int)=c at *
   clear hit
   go_wp2_with fail
   refine HC.out.mono ?_
   rintro e w1 ⟨rfl,hb1⟩
   have HF1:=hid (HFI.out.trans (Fr.of_below (S:=[]) hb1))
   have HI1:=hid (show w1.heap[w.heap.size]?=some (.stringIter st (p + d)) by rw [hb1.block _ (obj_lt HI.out)];exact HI.out)
   clear hb1 HC HI HFI hnx
   by_cases hc:c=10
   ·have HRv:=hid (show R=true by rw [HR.out];exact HM.out (by rw [HS.out,hc];rfl))
    subst hc
    go_wp2
    go_ret
    exact ⟨retB HRv.out.symm,HF1.out⟩
   ·have hc':(c == 10)=false:=by simp [hc]
    have HA2:=hid (HS.out.trans hc')
    go_wp2
    go_roundw
    case rel=>exact ⟨k + 1,p + d,by omega,hkm2,HI1.out,HQ,HF1,HA2⟩
    case measure=>rw [iterPos_of HI1.out,iterPos_of HIT.out];omega
  ·have hnx:=fun ty=>Lib.run_next_end_at (P:=Tryz.prog) wr w.heap.size st p ty hit hlt
   have hkm2:k=m:=by
    rcases Nat.lt_or_eq_of_le hkm with h | h
    ·have h1:=HE.out.2 k h;rw [← HP.out] at h1;omega
    ·exact h
   have HRv:=hid (show R=false by rw [HR.out,← hkm2];exact HA.out)
   clear hkm2
   go_wp2
   go_ret
   exact ⟨retB HRv.out.symm,HF.out⟩
end Go.Proofs.YtnakejhohdbfdaaGreatDoor

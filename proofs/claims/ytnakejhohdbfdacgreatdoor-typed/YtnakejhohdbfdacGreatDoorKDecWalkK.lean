import Derived.Test.YtnakejhohdbfdacGreatDoorKSearchK
namespace Go.Proofs.YtnakejhohdbfdacGreatDoor.Cls
open Go.RowKit Dec
set_option maxHeartbeats 4000000 in
theorem fn21_any (s:ByteArray)(w:World)(hs:s.size≤1000000) :
 Calls Tryz.prog 16 #[.string s] w fun e w'=>∃n v,Dec.Ends s n∧e=.returned v∧w'.ownsRow w.heap.size 48 3 v n (Dec.cells (lst s n))∧Below w.heap.size w w'∧(n=0→v=.slice none 0 0):=by
 obtain⟨i0,hi,hz0,hz1,hz2⟩:=info_parts info75;go_enter Tryz.func16,Tryz.ntmps16;go_wp2;go_loopw [3] (fun v wr=>∃k p:Nat,p≤s.size∧k≤p∧wr.heap[w.heap.size]?=some (.stringIter s p)∧Hid (p=pos s k)∧Hid (∀j,j<k→pos s j<s.size)∧Hid (wr.ownsRow (w.heap.size+1) 48 3 v k (Dec.cells (lstL s k)))∧Hid (Below w.heap.size w wr)∧Hid (k=0→v=.slice none 0 0)) (fun _ wr=>s.size - wr.iterPos w.heap.size)
 case atStart=>exact⟨0,0,Nat.zero_le _,Nat.le_refl _,World.iter_heap _ _ _,hid rfl,hid (fun j hj=>absurd hj (Nat.not_lt_zero _)),hid (World.ownsRow_nil _ _ _ _),hid ((Below.refl _ _).alloc (Nat.le_refl _) _),hid (fun _=>rfl)⟩
 case round =>
  obtain⟨k,p,hp,hkp,hit,HP,HJ,HO,HB,HN⟩:=hrel;by_cases hlt:p<s.size
  ·have hw1:=width_pos s p
   have hw2:=width_le s p hlt;have hnx:=fun ty=>Lib.run_next_any_at (P:=Tryz.prog) wr w.heap.size s p ty hit hlt
   have HR:Hid (((Utf8.decode s p).1:Nat)=rune s k):=by rw[HP.out];rfl
   have HQ:Hid (p+(Utf8.decode s p).2=pos s (k+1)):=by rw[HP.out];rfl
   generalize (Utf8.decode s p).1=r at hnx HR;generalize (Utf8.decode s p).2=n at hnx HQ hw1 hw2;have hJ2:Hid (∀j,j<k+1→pos s j<s.size):=by
    intro j hj
    rcases Nat.lt_or_eq_of_le (Nat.le_of_lt_succ hj)with h1 | h1
    ·exact HJ.out j h1
    ·rw[h1,←HP.out];exact hlt
   have HI:=hid (Lib.iterAt_heap wr w.heap.size s p (p+n) hit);have HBI:=hid (Lib.below_iterAt HB.out (Nat.le_refl _) s (p+n));have HOI:=hid (ownsRow_iterAt HO.out (Nat.lt_succ_self _) s (p+n));have HIT:=hid hit;generalize wr.iterAt w.heap.size s (p+n)=wi at hnx HI HBI HOI;have hwi:w.heap.size<wi.heap.size:=(Array.getElem?_eq_some_iff.1 HI.out).1;cases k with
   | zero =>
     have hv:=HN.out rfl;rw[hv]at HOI;subst hv;clear hit HN HO;have HO1:=hid (HOI.out.alloc (.cells #[.int .i32 r,.int .i64 p,.int .i64 s.size] 48));go_wp2_with (at_builtin;refine wpList_append_own _ rfl _ _ 40 rfl (w.heap.size+1) 48 i0 _ 3 24 Tryz.underlying40 hi hz0 hz1 hz2 rfl (by decide) _ _ _ rfl HO1.out ⟨wi.heap.size,0,none⟩ 1 1 [.int .i32 r,.int .i64 p,.int .i64 s.size] rfl rfl (new3_cells _ _ _ _ _) (new3_one _ _ _) (by decide) (by decide) (by simp;omega) ?_);intro v' w2 own2 hgrow hnil;have HO2:Hid (w2.ownsRow (w.heap.size+1) 48 3 v' (0+1) (Dec.cells (lstL s (0+1)))):=by
      rw[←cells_snocL,←HR.out,←HP.out];exact hid (by simpa[lst,lstL,Dec.cells] using own2)
     have HB2:Hid (Below w.heap.size w w2):=(HBI.out.alloc (by omega) _).grown hgrow (by simp;omega) (by intro g hg;simp[Value.ownBlock]at hg);have HI2:Hid (w2.heap[w.heap.size]?=some (.stringIter s (p+n))):=by
      rw[hgrow.block _ (by simp;omega) (by simp[Value.ownBlock])];exact(Lib.alloc_old _ _ _ hwi).trans HI.out
     clear own2 hgrow hnil HO1;go_wp2;go_roundw
     case rel=>exact⟨0+1,p+n,by omega,by omega,HI2.out,HQ,hJ2,HO2,HB2,hid (fun h=>by omega)⟩
     case measure=>rw[iterPos_of HI2.out,iterPos_of HIT.out];omega
   | succ k =>
     obtain⟨g,cap,hv⟩:=owns_shape HOI.out;have hge:=owns_at (hv ▸ HOI.out);rw[hv]at HOI;subst hv;clear hit HN HO;have hcell:=(HOI.out.cellAt (k * 3+2) (by omega)).trans (cells_at _ _ _ (lstL_last s k)).2.2;have hfro:=HOI.out.frozenAt (k * 3+2);have HST:=hid (HOI.out.stored (k * 3+2) (.int .i64 p));have HO1:=hid (HST.out.1.alloc (.cells #[.int .i32 r,.int .i64 p,.int .i64 s.size] 48));have HI1:=hid (iter_setCell (j:=k * 3+2) (v:=.int .i64 p) HI.out (show g≠w.heap.size by omega));have HB1:=hid (HBI.out.grown HST.out.2 (by omega) (by intro x hx;cases hx;omega));have hsz1:(wi.setCell ⟨g,k * 3+2,none⟩ (.int .i64 p)).heap.size=wi.heap.size:=by simp
     have HSZ:=hid hsz1;clear hsz1;go_wp2_with (at_builtin;refine wpList_append_own _ rfl _ _ 40 rfl (w.heap.size+1) 48 i0 _ 3 24 Tryz.underlying40 hi hz0 hz1 hz2 rfl (by decide) _ _ _ rfl HO1.out ⟨wi.heap.size,0,none⟩ 1 1 [.int .i32 r,.int .i64 p,.int .i64 s.size] rfl rfl (new3_cells_at _ _ HSZ.out _ _ _ _) (new3_one _ _ _) (by unfold maxLen;omega) (by omega) (by simp;omega) ?_);intro v' w2 own2 hgrow hnil;have HO2:Hid (w2.ownsRow (w.heap.size+1) 48 3 v' (k+1+1) (Dec.cells (lstL s (k+1+1)))):=by
      rw[←cells_snocL,←cells_set,←HR.out,←HP.out];exact hid (by simpa using own2)
     have HB2:Hid (Below w.heap.size w w2):=(HB1.out.alloc (by rw[HSZ.out];omega) _).grown hgrow (by simp;omega) (by intro x hx;simp[Value.ownBlock]at hx;omega);have HI2:Hid (w2.heap[w.heap.size]?=some (.stringIter s (p+n))):=by
      rw[hgrow.block _ (by simp;omega) (by simp[Value.ownBlock];omega)];exact(Lib.alloc_old _ _ _ (by rw[HSZ.out];omega)).trans HI1.out
     clear own2 hgrow hnil HO1 hcell hfro HST HI1 HB1;go_wp2;go_roundw
     case rel=>exact⟨k+1+1,p+n,by omega,by omega,HI2.out,HQ,hJ2,HO2,HB2,hid (fun h=>by omega)⟩
     case measure=>rw[iterPos_of HI2.out,iterPos_of HIT.out];omega
  ·have hnx:=fun ty=>Lib.run_next_end_at (P:=Tryz.prog) wr w.heap.size s p ty hit hlt
   have HE:Hid (Dec.Ends s k):=⟨by rw[←HP.out];omega,HJ.out⟩;have HO2:Hid (wr.ownsRow w.heap.size 48 3 u3 k (Dec.cells (lst s k))):=by
    have h:=HO.out;rw[lstL_end HE.out]at h;exact owns_low h (by omega)
   clear hit;go_wp2;go_ret;exact⟨k,_,HE.out,rfl,HO2.out,HB.out,HN.out⟩
end Go.Proofs.YtnakejhohdbfdacGreatDoor.Cls

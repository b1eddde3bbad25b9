import Derived.Test.YtnakejhohdbfdaaGreatDoorVaf
set_option maxHeartbeats 4000000
namespace Go.Proofs.YtnakejhohdbfdaaGreatDoor.mE
open Go.RowKit gJ Go.Proofs.Tryz
theorem ym (s:ByteArray)(w:World)(hs:s.size<=1000000) :
 Calls prog 204 #[.string s] w fun e w'=>∃n v,gJ.Ends s n/\e=.returned v/\w'.ownsRow w.heap.size 94 3 v n (gJ.cells (B5 s n))/\Below w.heap.size w w'/\(n=0->v=.slice none 0 0):=by
 obtain⟨i0,hi,hz0,hz1,hz2⟩:=e_ Pn;go_enter func204,ntmps204;go_wp2;go_loopw [3] (fun v wr=>∃k p:Nat,p<=s.size/\k<=p/\wr.heap[w.heap.size]?=some (.stringIter s p)/\Hid (p=pos s k)/\Hid (∀j,j<k->pos s j<s.size)/\Hid (wr.ownsRow (w.heap.size+1) 94 3 v k (gJ.cells (Az s k)))/\Hid (Below w.heap.size w wr)/\Hid (k=0->v=.slice none 0 0)) (fun _ wr=>s.size - wr.iterPos w.heap.size)
 case atStart=>exact⟨0,0,aH _,ak _,World.iter_heap _ _ _,hid rfl,hid (fun j hj=>absurd hj (bE _)),hid (eY _ _ _ _),hid ((fq _ _).alloc (ak _) _),hid (fun _=>rfl)⟩
 case round =>
  obtain⟨k,p,hp,hkp,hit,HP,HJ,HO,HB,HN⟩:=hrel;by_cases hlt:p<s.size
  ·have hw1:=width_pos s p
   have hw2:=width_le s p hlt;have hnx:=fun ty=>Lib.run_next_any_at (P:=prog) wr w.heap.size s p ty hit hlt
   have HR:Hid (((Utf8.decode s p).1:Nat)=rune s k):=by rw[HP.out];rfl
   have HQ:Hid (p+(Utf8.decode s p).2=pos s (k+1)):=by rw[HP.out];rfl
   generalize (Utf8.decode s p).1=r at hnx HR;generalize (Utf8.decode s p).2=n at hnx HQ hw1 hw2;have hJ2:Hid (∀j,j<k+1->pos s j<s.size):=by
    intro j hj
    rcases aA (aM hj)with h1 | h1
    ·exact HJ.out j h1
    ·rw[h1,<-HP.out];exact hlt
   have HI:=hid (Lib.iterAt_heap wr w.heap.size s p (p+n) hit);have It:=hid (Lib.below_iterAt HB.out (ak _) s (p+n));have GP:=hid (ownsRow_iterAt HO.out (bJ _) s (p+n));have HIT:=hid hit;generalize wr.iterAt w.heap.size s (p+n)=wi at hnx HI It GP;have hwi:w.heap.size<wi.heap.size:=(aD.1 HI.out).1;cases k with
   | zero =>
     have hv:=HN.out rfl;rw[hv]at GP;subst hv;clear hit HN HO;have kT:=hid (GP.out.alloc (.cells #[.int .i32 r,.int .i64 p,.int .i64 s.size] 94));go_wp2_with (at_builtin;refine eV _ rfl _ _ 29 rfl (w.heap.size+1) 94 i0 _ 3 24 underlying29 hi hz0 hz1 hz2 rfl (by decide) _ _ _ rfl kT.out ⟨wi.heap.size,0,none⟩ 1 1 [.int .i32 r,.int .i64 p,.int .i64 s.size] rfl rfl (wR _ _ _ _ _) (B6 _ _ _) (by decide) (by decide) (by simp;omega) ?_);intro v' w2 mM hgrow hnil;have iG:Hid (w2.ownsRow (w.heap.size+1) 94 3 v' (0+1) (gJ.cells (Az s (0+1)))):=by
      rw[<-z7,<-HR.out,<-HP.out];exact hid (by simpa[B5,Az,gJ.cells] using mM)
     have HB2:Hid (Below w.heap.size w w2):=(It.out.alloc (by omega) _).grown hgrow (by simp;omega) (by intro g hg;simp[Value.ownBlock]at hg);have HI2:Hid (w2.heap[w.heap.size]?=some (.stringIter s (p+n))):=by
      rw[hgrow.block _ (by simp;omega) (by simp[Value.ownBlock])];exact(Lib.alloc_old _ _ _ hwi).trans HI.out
     clear mM hgrow hnil kT;go_wp2;go_roundw
     case rel=>exact⟨0+1,p+n,by omega,by omega,HI2.out,HQ,hJ2,iG,HB2,hid (fun h=>by omega)⟩
     case measure=>rw[iterPos_of HI2.out,iterPos_of HIT.out];omega
   | succ k =>
     obtain⟨g,cap,hv⟩:=fR GP.out;have hge:=fZ (hv ▸ GP.out);rw[hv]at GP;subst hv;clear hit HN HO;have hcell:=(GP.out.cellAt (k * 3+2) (by omega)).trans (p7 _ _ _ (L2 s k)).2.2;have hfro:=GP.out.frozenAt (k * 3+2);have HST:=hid (GP.out.stored (k * 3+2) (.int .i64 p));have kT:=hid (HST.out.1.alloc (.cells #[.int .i32 r,.int .i64 p,.int .i64 s.size] 94));have HI1:=hid (Fh (j:=k * 3+2) (v:=.int .i64 p) HI.out (show g≠w.heap.size by omega));have HB1:=hid (It.out.grown HST.out.2 (by omega) (by intro x hx;cases hx;omega));have hsz1:(wi.setCell ⟨g,k * 3+2,none⟩ (.int .i64 p)).heap.size=wi.heap.size:=by simp
     have GQ:=hid hsz1;clear hsz1;go_wp2_with (at_builtin;refine eV _ rfl _ _ 29 rfl (w.heap.size+1) 94 i0 _ 3 24 underlying29 hi hz0 hz1 hz2 rfl (by decide) _ _ _ rfl kT.out ⟨wi.heap.size,0,none⟩ 1 1 [.int .i32 r,.int .i64 p,.int .i64 s.size] rfl rfl (DK _ _ GQ.out _ _ _ _) (B6 _ _ _) (by unfold maxLen;omega) (by omega) (by simp;omega) ?_);intro v' w2 mM hgrow hnil;have iG:Hid (w2.ownsRow (w.heap.size+1) 94 3 v' (k+1+1) (gJ.cells (Az s (k+1+1)))):=by
      rw[<-z7,<-L3,<-HR.out,<-HP.out];exact hid (by simpa using mM)
     have HB2:Hid (Below w.heap.size w w2):=(HB1.out.alloc (by rw[GQ.out];omega) _).grown hgrow (by simp;omega) (by intro x hx;simp[Value.ownBlock]at hx;omega);have HI2:Hid (w2.heap[w.heap.size]?=some (.stringIter s (p+n))):=by
      rw[hgrow.block _ (by simp;omega) (by simp[Value.ownBlock];omega)];exact(Lib.alloc_old _ _ _ (by rw[GQ.out];omega)).trans HI1.out
     clear mM hgrow hnil kT hcell hfro HST HI1 HB1;go_wp2;go_roundw
     case rel=>exact⟨k+1+1,p+n,by omega,by omega,HI2.out,HQ,hJ2,iG,HB2,hid (fun h=>by omega)⟩
     case measure=>rw[iterPos_of HI2.out,iterPos_of HIT.out];omega
  ·have hnx:=fun ty=>Lib.run_next_end_at (P:=prog) wr w.heap.size s p ty hit hlt
   have HE:Hid (gJ.Ends s k):=⟨by rw[<-HP.out];omega,HJ.out⟩;have iG:Hid (wr.ownsRow w.heap.size 94 3 u3 k (gJ.cells (B5 s k))):=by
    have h:=HO.out;rw[Pm HE.out]at h;exact gY h (by omega)
   clear hit;go_wp2;go_ret;exact⟨k,_,HE.out,rfl,iG.out,HB.out,HN.out⟩
end Go.Proofs.YtnakejhohdbfdaaGreatDoor.mE

import Derived.Test.YtnakejhohdbfdacGreatDoorMac
set_option maxHeartbeats 4000000
namespace Go.Proofs.YtnakejhohdbfdacGreatDoor.Cls
open Go.RowKit Dec Go.Proofs.Tryz
theorem xJ (s:ByteArray)(w:World)(hs:s.size<=1000000) :
 Calls prog 16 #[.string s] w fun e w'=>∃n v,Dec.Ends s n/\e=.returned v/\w'.ownsRow w.heap.size 48 3 v n (Dec.cells (FH s n))/\Below w.heap.size w w'/\(n=0->v=.slice none 0 0):=by
 obtain⟨i0,hi,hz0,hz1,hz2⟩:=fY W6;go_enter func16,ntmps16;go_wp2;go_loopw [3] (fun v wr=>∃k p:Nat,p<=s.size/\k<=p/\wr.heap[w.heap.size]?=some (.stringIter s p)/\Hid (p=pos s k)/\Hid (∀j,j<k->pos s j<s.size)/\Hid (wr.ownsRow (w.heap.size+1) 48 3 v k (Dec.cells (AA s k)))/\Hid (Below w.heap.size w wr)/\Hid (k=0->v=.slice none 0 0)) (fun _ wr=>s.size - wr.iterPos w.heap.size)
 case atStart=>exact⟨0,0,aN _,au _,ig _ _ _,hid rfl,hid (fun j hj=>absurd hj (cu _)),hid (fQ _ _ _ _),hid ((fN _ _).alloc (au _) _),hid (fun _=>rfl)⟩
 case round =>
  obtain⟨k,p,hp,hkp,hit,HP,HJ,HO,HB,HN⟩:=hrel;by_cases hlt:p<s.size
  ·have hw1:=width_pos s p
   have hw2:=width_le s p hlt;have hnx:=fun ty=>gZ (P:=prog) wr w.heap.size s p ty hit hlt
   have HR:Hid (((Utf8.decode s p).1:Nat)=rune s k):=by rw[HP.out];rfl
   have HQ:Hid (p+(Utf8.decode s p).2=pos s (k+1)):=by rw[HP.out];rfl
   generalize (Utf8.decode s p).1=r at hnx HR;generalize (Utf8.decode s p).2=n at hnx HQ hw1 hw2;have hJ2:Hid (∀j,j<k+1->pos s j<s.size):=by
    intro j hj
    rcases aH (aP hj)with h1 | h1
    ·exact HJ.out j h1
    ·rw[h1,<-HP.out];exact hlt
   have HI:=hid (iD wr w.heap.size s p (p+n) hit);have yI:=hid (iB HB.out (au _) s (p+n));have DN:=hid (ownsRow_iterAt HO.out (bP _) s (p+n));have HIT:=hid hit;generalize wr.iterAt w.heap.size s (p+n)=wi at hnx HI yI DN;have hwi:w.heap.size<wi.heap.size:=(aC.1 HI.out).1;cases k with
   | zero =>
     have hv:=HN.out rfl;rw[hv]at DN;subst hv;clear hit HN HO;have lT:=hid (DN.out.alloc (.cells #[.int .i32 r,.int .i64 p,.int .i64 s.size] 48));go_wp2_with (at_builtin;refine fV _ rfl _ _ 40 rfl (w.heap.size+1) 48 i0 _ 3 24 underlying40 hi hz0 hz1 hz2 rfl (by decide) _ _ _ rfl lT.out ⟨wi.heap.size,0,none⟩ 1 1 [.int .i32 r,.int .i64 p,.int .i64 s.size] rfl rfl (wA _ _ _ _ _) (FI _ _ _) (by decide) (by decide) (by simp;omega) ?_);intro v' w2 jR hgrow hnil;have jO:Hid (w2.ownsRow (w.heap.size+1) 48 3 v' (0+1) (Dec.cells (AA s (0+1)))):=by
      rw[<-zQ,<-HR.out,<-HP.out];exact hid (by simpa[FH,AA,Dec.cells] using jR)
     have HB2:Hid (Below w.heap.size w w2):=(yI.out.alloc (by omega) _).grown hgrow (by simp;omega) (by intro g hg;simp[Value.ownBlock]at hg);have HI2:Hid (w2.heap[w.heap.size]?=some (.stringIter s (p+n))):=by
      rw[hgrow.block _ (by simp;omega) (by simp[Value.ownBlock])];exact(gC _ _ _ hwi).trans HI.out
     clear jR hgrow hnil lT;go_wp2;go_roundw
     case rel=>exact⟨0+1,p+n,by omega,by omega,HI2.out,HQ,hJ2,jO,HB2,hid (fun h=>by omega)⟩
     case measure=>rw[gJ HI2.out,gJ HIT.out];omega
   | succ k =>
     obtain⟨g,cap,hv⟩:=iQ DN.out;have hge:=ji (hv ▸ DN.out);rw[hv]at DN;subst hv;clear hit HN HO;have hcell:=(DN.out.cellAt (k * 3+2) (by omega)).trans (BE _ _ _ (Lw s k)).2.2;have hfro:=DN.out.frozenAt (k * 3+2);have HST:=hid (DN.out.stored (k * 3+2) (.int .i64 p));have lT:=hid (HST.out.1.alloc (.cells #[.int .i32 r,.int .i64 p,.int .i64 s.size] 48));have HI1:=hid (EC (j:=k * 3+2) (v:=.int .i64 p) HI.out (show g≠w.heap.size by omega));have HB1:=hid (yI.out.grown HST.out.2 (by omega) (by intro x hx;cases hx;omega));have hsz1:(wi.setCell ⟨g,k * 3+2,none⟩ (.int .i64 p)).heap.size=wi.heap.size:=by simp
     have NO:=hid hsz1;clear hsz1;go_wp2_with (at_builtin;refine fV _ rfl _ _ 40 rfl (w.heap.size+1) 48 i0 _ 3 24 underlying40 hi hz0 hz1 hz2 rfl (by decide) _ _ _ rfl lT.out ⟨wi.heap.size,0,none⟩ 1 1 [.int .i32 r,.int .i64 p,.int .i64 s.size] rfl rfl (Dt _ _ NO.out _ _ _ _) (FI _ _ _) (by unfold maxLen;omega) (by omega) (by simp;omega) ?_);intro v' w2 jR hgrow hnil;have jO:Hid (w2.ownsRow (w.heap.size+1) 48 3 v' (k+1+1) (Dec.cells (AA s (k+1+1)))):=by
      rw[<-zQ,<-Lx,<-HR.out,<-HP.out];exact hid (by simpa using jR)
     have HB2:Hid (Below w.heap.size w w2):=(HB1.out.alloc (by rw[NO.out];omega) _).grown hgrow (by simp;omega) (by intro x hx;simp[Value.ownBlock]at hx;omega);have HI2:Hid (w2.heap[w.heap.size]?=some (.stringIter s (p+n))):=by
      rw[hgrow.block _ (by simp;omega) (by simp[Value.ownBlock];omega)];exact(gC _ _ _ (by rw[NO.out];omega)).trans HI1.out
     clear jR hgrow hnil lT hcell hfro HST HI1 HB1;go_wp2;go_roundw
     case rel=>exact⟨k+1+1,p+n,by omega,by omega,HI2.out,HQ,hJ2,jO,HB2,hid (fun h=>by omega)⟩
     case measure=>rw[gJ HI2.out,gJ HIT.out];omega
  ·have hnx:=fun ty=>gN (P:=prog) wr w.heap.size s p ty hit hlt
   have HE:Hid (Dec.Ends s k):=⟨by rw[<-HP.out];omega,HJ.out⟩;have jO:Hid (wr.ownsRow w.heap.size 48 3 u3 k (Dec.cells (FH s k))):=by
    have h:=HO.out;rw[Oj HE.out]at h;exact iU h (by omega)
   clear hit;go_wp2;go_ret;exact⟨k,_,HE.out,rfl,jO.out,HB.out,HN.out⟩
end Go.Proofs.YtnakejhohdbfdacGreatDoor.Cls

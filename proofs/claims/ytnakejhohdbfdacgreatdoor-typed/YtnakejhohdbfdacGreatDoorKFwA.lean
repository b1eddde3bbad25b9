import Derived.Lib.RuneCountTail
import Derived.Test.YtnakejhohdbfdacGreatDoorKSearchK
import Derived.Test.YtnakejhohdbfdacGreatDoorKLayB
import Derived.Test.YtnakejhohdbfdacGreatDoorKLdG
import Derived.Test.YtnakejhohdbfdacGreatDoorKRefBnd
namespace Go.Proofs.YtnakejhohdbfdacGreatDoor.Cls.Wr
open Go.RowKit Dec Kin Bnd Lay Lev Go.Shelf
attribute [local go_sem] Oper.semAt_some
set_option maxRecDepth 100000 in
set_option maxHeartbeats 4000000 in
theorem decodeN_cut (m n b0 b1 b2 b3 c1 c2 c3:Nat)(h1:1≤m)(hmn:m≤n)(hw:(Lib.decodeN n b0 b1 b2 b3).2≤m)(e1:1<m→c1=b1)(e2:2<m→c2=b2)(e3:3<m→c3=b3) :
 Lib.decodeN m b0 c1 c2 c3=Lib.decodeN n b0 b1 b2 b3:=by
 rcases(show m=1∨m=2∨m=3∨4≤m by omega)with rfl | rfl | rfl | h4
 ·clear e1 e2 e3
  revert hw;unfold Lib.decodeN
  repeat' split
  all_goals (intro hw;first | rfl | (exfalso;omega) | (simp at hw) | omega)
 ·obtain rfl:=e1 (by omega)
  clear e1 e2 e3;revert hw;unfold Lib.decodeN
  repeat' split
  all_goals (intro hw;first | rfl | (exfalso;omega) | (simp at hw) | omega)
 ·obtain rfl:=e1 (by omega)
  obtain rfl:=e2 (by omega);clear e1 e2 e3;revert hw;unfold Lib.decodeN
  repeat' split
  all_goals (intro hw;first | rfl | (exfalso;omega) | (simp at hw) | omega)
 ·obtain rfl:=e1 (by omega)
  obtain rfl:=e2 (by omega);obtain rfl:=e3 (by omega);clear e1 e2 e3 hw;unfold Lib.decodeN
  repeat' split
  all_goals first | rfl | (exfalso;omega) | omega
theorem cut_size (s:ByteArray)(p q:Nat)(hq:q≤s.size):(s.extract p q).size=q - p:=by
 rw[ByteArray.size_extract];omega
theorem cut_get (s:ByteArray)(p q j:Nat)(hj:p+j<q):(s.extract p q).get! j=s.get! (p+j):=by
 rw[←Lib.getD_get!',←Lib.getD_get!',Lib.extract_data];simp only[List.getD,List.getElem?_take,List.getElem?_drop];rw[if_pos (by omega)]
theorem cut_decode (s:ByteArray)(p q:Nat)(hp:p<q)(hq:q≤s.size)(hw:p+(Utf8.decode s p).2≤q):Utf8.decode (s.extract p q) 0=Utf8.decode s p:=by
 rw[Lib.decode_at]at hw ⊢;rw[Lib.decode_at s p,cut_size s p q hq,cut_get s p q 0 (by omega),Nat.add_zero,Nat.zero_add,Nat.zero_add,Nat.zero_add,Nat.sub_zero];refine decodeN_cut (q - p) (s.size - p) _ _ _ _ _ _ _ (by omega) (by omega) (by omega) (fun h=>?_) (fun h=>?_) (fun h=>?_)
 ·rw[cut_get s p q 1 (by omega)]
 ·rw[cut_get s p q 2 (by omega)]
 ·rw[cut_get s p q 3 (by omega)]
def kc (s:ByteArray)(n i:Nat):Int:=Tabs.look Tabs.classTab (rune s (nix (bix s n) i))
theorem bnd_len {s:ByteArray}{n:Nat}(h:Dec.Ends s n):(bnd s n).length=cn s n+1:=by
 have:=(bix_len s n).2.1;rw[bnd_bix h,List.length_map];unfold cn;omega
theorem bnd_get {s:ByteArray}{n i:Nat}(h:Dec.Ends s n)(hi:i≤cn s n):(bnd s n).getD i 0=((pos s (nix (bix s n) i):Nat):Int):=by
 have hl:=(bix_len s n).2.1;have hk:i<(bix s n).length:=by unfold cn at hi;omega
 rw[bnd_bix h,List.getD,List.getElem?_map,nix,List.getElem?_eq_getElem hk];rfl
theorem ri_lt {s:ByteArray}{n i:Nat}(hi:i<cn s n):nix (bix s n) i<nix (bix s n) (i+1):=nix_lt (bix_sorted s n) (Nat.lt_succ_self _) (by unfold cn at hi;omega)
theorem ri_le {s:ByteArray}{n i:Nat}(hi:i≤cn s n):nix (bix s n) i≤n:=by
 rcases Nat.lt_or_eq_of_le hi with h | h
 ·have:=nix_lt (bix_sorted s n) h (by have:=(bix_len s n).2.1;unfold cn;omega)
  rw[bix_last]at this;omega
 ·rw[h,bix_last];exact Nat.le_refl _
theorem ri_in {s:ByteArray}{n i:Nat}(hi:i<cn s n):nix (bix s n) i<n:=by
 have:=ri_lt hi;have:=ri_le (s:=s) (n:=n) (i:=i+1) hi;omega
theorem pos_le (s:ByteArray){a b:Nat}(h:a≤b):pos s a≤pos s b:=by
 rcases Nat.lt_or_eq_of_le h with h1 | h1
 ·exact Nat.le_of_lt (pos_mono s a b h1)
 ·rw[h1];exact Nat.le_refl _
theorem cluster_first {s:ByteArray}{n i:Nat}(h:Dec.Ends s n)(hi:i<cn s n):Lib.decodeGo (s.extract (pos s (nix (bix s n) i)) (pos s (nix (bix s n) (i+1))))=Utf8.decode s (pos s (nix (bix s n) i)):=by
 have h1:=ri_lt hi;have h2:=ri_le (s:=s) (n:=n) (i:=i+1) hi;have h3:=pos_le s h2;have h4:=pos_le s (show nix (bix s n) i+1≤nix (bix s n) (i+1)from h1);have h5:=pos_lt_succ s (nix (bix s n) i);have h0:=h.1;have hw:pos s (nix (bix s n) i)+(Utf8.decode s (pos s (nix (bix s n) i))).2=pos s (nix (bix s n) i+1):=rfl;unfold Lib.decodeGo;rw[if_neg (by rw[cut_size _ _ _ (by omega)];omega),cut_decode s _ _ (by omega) (by omega) (by omega)]
theorem pos_inj (s:ByteArray){a b:Nat}(h:pos s a=pos s b):a=b:=by
 rcases Nat.lt_trichotomy a b with h1 | h1 | h1
 ·have:=pos_mono s _ _ h1;omega
 ·exact h1
 ·have:=pos_mono s _ _ h1;omega
theorem bnd_cells {s:ByteArray}{n i:Nat}(h:Dec.Ends s n)(hi:i≤cn s n):(ints64 (bnd s n))[i]?=some (.int .i64 ((pos s (nix (bix s n) i):Nat):Int)):=by
 rw[←bnd_get h hi,ints64,List.getElem?_map,List.getD,List.getElem?_eq_getElem (show i<(bnd s n).length by rw[bnd_len h];omega)];rfl
theorem cut_decode_at (s:ByteArray)(p q j:Nat)(hp:p+j<q)(hq:q≤s.size)(hw:p+j+(Utf8.decode s (p+j)).2≤q):Utf8.decode (s.extract p q) j=Utf8.decode s (p+j):=by
 rw[Lib.decode_at]at hw ⊢;rw[Lib.decode_at s (p+j),cut_size s p q hq,cut_get s p q j (by omega)];refine decodeN_cut (q - p - j) (s.size - (p+j)) _ _ _ _ _ _ _ (by omega) (by omega) (by omega) (fun h=>?_) (fun h=>?_) (fun h=>?_)
 ·rw[cut_get s p q (j+1) (by omega),Nat.add_assoc]
 ·rw[cut_get s p q (j+2) (by omega),Nat.add_assoc]
 ·rw[cut_get s p q (j+3) (by omega),Nat.add_assoc]
theorem cut_pos (s:ByteArray){a b:Nat}(hb:pos s b≤s.size):∀j,a+j≤b→pos (s.extract (pos s a) (pos s b)) j+pos s a=pos s (a+j)
 | 0,_=>by simp[pos]
 | j+1,h=>by
   have ih:=cut_pos s (a:=a) hb j (by omega);have h1:=pos_le s (show a+j+1≤b by omega);have h2:=pos_lt_succ s (a+j);have hw:pos s (a+j)+(Utf8.decode s (pos s (a+j))).2=pos s (a+j+1):=rfl;rw[show pos (s.extract (pos s a) (pos s b)) (j+1)=pos (s.extract (pos s a) (pos s b)) j+(Utf8.decode (s.extract (pos s a) (pos s b)) (pos (s.extract (pos s a) (pos s b)) j)).2 from rfl];rw[cut_decode_at s _ _ _ (by omega) hb (by rw[Nat.add_comm (pos s a),ih];omega),Nat.add_comm (pos s a),ih];rw[show a+(j+1)=a+j+1 from rfl,←hw];omega
theorem cut_count {s:ByteArray}{n a b:Nat}(h:Dec.Ends s n)(hab:a≤b)(hb:b≤n):Lib.runeCount (s.extract (pos s a) (pos s b))=b - a:=by
 have hq:pos s b≤s.size:=by rw[←h.1];exact pos_le s hb
 refine count_ends ⟨?_,fun j hj=>?_⟩
 ·have:=cut_pos s (a:=a) hq (b - a) (by omega)
  rw[cut_size _ _ _ hq,show a+(b - a)=b by omega]at *;omega
 ·have h1:=cut_pos s (a:=a) hq j (by omega)
  have h2:=pos_mono s (a+j) b (by omega);rw[cut_size _ _ _ hq];omega
def bw (x:Int):Int:=if x<0 then 0 else if 1073741824<x then 1073741824 else x
theorem bw_in (x:Int):0≤bw x∧bw x≤1073741824:=by unfold bw;split <;> (try split) <;> omega
def sw (W:List Int)(a:Nat):Nat→Int
 | 0=>0
 | m+1=>sw W a m+bw (nth W (a+m))
theorem sw_in (W:List Int)(a:Nat):∀m,0≤sw W a m∧sw W a m≤(m:Int) * 1073741824
 | 0=>by simp[sw]
 | m+1=>by
   have ih:=sw_in W a m;have:=bw_in (nth W (a+m));rw[sw];omega
theorem sw_mono (W:List Int)(a m:Nat):∀d,sw W a m≤sw W a (m+d)
 | 0=>Int.le_refl _
 | d+1=>by
   have ih:=sw_mono W a m d;have:=bw_in (nth W (a+(m+d)));rw[←Nat.add_assoc,sw];omega
def cw (s:ByteArray)(n:Nat)(W:List Int)(i:Nat):Int:=sw W (nix (bix s n) i) (nix (bix s n) (i+1) - nix (bix s n) i)
def sm (X:Nat→Int)(f:Nat):Nat→Int
 | 0=>0
 | d+1=>sm X f d+X (f+d)
def lft (R x:Int):Int:=if R<x then -1 else R - x
theorem lft_lft {R x y:Int}(hy:0≤y):lft (lft R x) y=lft R (x+y):=by
 unfold lft;split <;> split <;> (try split) <;> omega
def lb (B:Nat→Bool)(f:Nat):Nat→Nat
 | 0=>0
 | d+1=>if B (f+d)then d+1 else lb B f d
theorem lb_le (B:Nat→Bool)(f:Nat):∀d,lb B f d≤d
 | 0=>Nat.le_refl _
 | d+1=>by
   have:=lb_le B f d;rw[lb];split <;> omega
def stp (B:Nat→Bool)(X:Nat→Int)(R:Int)(f d:Nat):Bool:=decide (0<d) && !B (f+d) && decide (R<sm X f (d+1))
def lnF (B:Nat→Bool)(X:Nat→Int)(R:Int)(c f:Nat):Nat→Nat→Nat
 | 0,d=>d
 | k+1,d=>if f+d<c then(if stp B X R f d then(if 0<lb B f d then lb B f d else d)else lnF B X R c f k (d+1))else d
def ln1 (B:Nat→Bool)(X:Nat→Int)(R:Int)(c f:Nat):Nat:=lnF B X R c f (c - f) 0
theorem lnF_step {B:Nat→Bool}{X:Nat→Int}{R:Int}{c f d:Nat}(h:f+d<c)(hs:stp B X R f d=false):lnF B X R c f (c - f - d) d=lnF B X R c f (c - f - (d+1)) (d+1):=by
 rw[show c - f - d=(c - f - (d+1))+1 by omega,lnF,if_pos h,if_neg (by rw[hs];exact Bool.false_ne_true)]
theorem lnF_stop {B:Nat→Bool}{X:Nat→Int}{R:Int}{c f d:Nat}(h:f+d<c)(hs:stp B X R f d=true):lnF B X R c f (c - f - d) d=if 0<lb B f d then lb B f d else d:=by
 rw[show c - f - d=(c - f - (d+1))+1 by omega,lnF,if_pos h,if_pos hs]
theorem lnF_end {B:Nat→Bool}{X:Nat→Int}{R:Int}{c f d:Nat}(h:f+d=c):lnF B X R c f (c - f - d) d=d:=by
 rw[show c - f - d=0 by omega,lnF]
theorem lnF_in {B:Nat→Bool}{X:Nat→Int}{R:Int}{c f:Nat}:∀k d,k=c - f - d→f+d≤c→0<d→0<lnF B X R c f k d∧f+lnF B X R c f k d≤c
 | 0,d,_,h,h0=>by rw[lnF];omega
 | k+1,d,hk,h,h0=>by
   have hl:=lb_le B f d;rw[lnF];split
   ·split
    ·split <;> omega
    ·exact lnF_in k (d+1) (by omega) (by omega) (by omega)
   ·omega
theorem ln1_in {B:Nat→Bool}{X:Nat→Int}{R:Int}{c f:Nat}(h:f<c):0<ln1 B X R c f∧f+ln1 B X R c f≤c:=by
 unfold ln1;have hs:stp B X R f 0=false:=by simp[stp]
 have e:=lnF_step (B:=B) (X:=X) (R:=R) (c:=c) (f:=f) (d:=0) (by omega) hs;rw[Nat.sub_zero]at e;rw[e];exact lnF_in _ _ rfl (by omega) (by omega)
def brk (o:Nat→Nat)(c f:Nat):List Nat:=if _h:f<c∧0<o f∧f+o f<c then(f+o f) :: brk o c (f+o f)else []
termination_by c - f
decreasing_by omega
theorem brk_more {o:Nat→Nat}{c f:Nat}(h:0<o f)(h2:f+o f<c):brk o c f=(f+o f) :: brk o c (f+o f):=by
 rw[brk,dif_pos ⟨by omega,h,h2⟩]
theorem brk_none {o:Nat→Nat}{c f:Nat}(h:c≤f+o f):brk o c f=[]:=by
 rw[brk,dif_neg (fun h'=>by omega)]
theorem brk_len (o:Nat→Nat)(c:Nat):∀k f,c - f≤k→(brk o c f).length≤k
 | 0,f,h=>by rw[brk,dif_neg (fun h'=>by omega)];exact Nat.le_refl _
 | k+1,f,h=>by
   rw[brk];split
   ·rename_i h'
    have:=brk_len o c k (f+o f) (by omega);rw[List.length_cons];omega
   ·exact Nat.zero_le _
def blk (s:ByteArray)(n i:Nat):Bool:=kc s n i == 12
def wrp (s:ByteArray)(n:Nat)(W:List Int)(R:Int):List Int:=(brk (ln1 (blk s n) (cw s n W) R (cn s n)) (cn s n) 0).map fun i=>((pos s (nix (bix s n) i):Nat):Int)
theorem sm_in {X:Nat→Int}{b:Int}(hX:∀i,0≤X i∧X i≤b)(f:Nat):∀d,0≤sm X f d∧sm X f d≤(d:Int) * b
 | 0=>by simp[sm]
 | d+1=>by
   have ih:=sm_in hX f d;have:=hX (f+d);rw[sm];refine⟨by omega,?_⟩;have e:((d+1:Nat):Int) * b=(d:Int) * b+b:=by rw[Int.natCast_add,Int.add_mul];simp
   rw[e];omega
theorem cw_in {s:ByteArray}{n:Nat}{W:List Int}(hn:n≤4096)(i:Nat)(hi:i<cn s n):0≤cw s n W i∧cw s n W i≤4398046511104:=by
 have h1:=sw_in W (nix (bix s n) i) (nix (bix s n) (i+1) - nix (bix s n) i);have h2:=ri_le (s:=s) (n:=n) (i:=i+1) hi;unfold cw;omega
theorem sm_bd {X:Nat→Int}{c:Nat}(hX:∀i,i<c→0≤X i∧X i≤4398046511104)(f:Nat):∀d,f+d≤c→0≤sm X f d∧sm X f d≤(d:Int) * 4398046511104
 | 0,_=>by simp[sm]
 | d+1,h=>by
   have ih:=sm_bd hX f d (by omega);have:=hX (f+d) (by omega);rw[sm];omega
def bps (s:ByteArray)(n:Nat)(l:List Nat):List Int:=l.map fun i=>((pos s (nix (bix s n) i):Nat):Int)
theorem bps_snoc (s:ByteArray)(n:Nat)(l:List Nat)(t:Nat):bps s n (l++[t])=bps s n l++[((pos s (nix (bix s n) t):Nat):Int)]:=by simp[bps]
end Go.Proofs.YtnakejhohdbfdacGreatDoor.Cls.Wr

import Derived.Test.YtnakejhohdbfdacGreatDoorKFwA
namespace Go.Proofs.YtnakejhohdbfdacGreatDoor.Cls.Wr
open Go.RowKit Dec Kin Bnd Lay Lev
def lnb (B:Nat→Bool)(f:Nat):Nat→Nat
 | 0=>0
 | d+1=>if B (f+d)then lnb B f d else d+1
theorem lnb_le (B:Nat→Bool)(f:Nat):∀d,lnb B f d≤d
 | 0=>Nat.le_refl _
 | d+1=>by
   have:=lnb_le B f d;rw[lnb];split <;> omega
theorem lnb_blank (B:Nat→Bool)(f:Nat):∀d x,lnb B f d≤x→x<d→B (f+x)=true
 | 0,x,_,h=>absurd h (Nat.not_lt_zero _)
 | d+1,x,h,hx=>by
   rw[lnb]at h;split at h
   ·rename_i hb
    rcases Nat.lt_or_eq_of_le (Nat.le_of_lt_succ hx)with h1 | h1
    ·exact lnb_blank B f d x h h1
    ·rw[h1];exact hb
   ·omega
theorem lnb_last (B:Nat→Bool)(f:Nat):∀d y,lnb B f d=y+1→B (f+y)=false
 | 0,y,h=>by cases h
 | d+1,y,h=>by
   rw[lnb]at h;split at h
   ·exact lnb_last B f d y h
   ·rename_i hb
    obtain rfl:d=y:=by omega
    simpa using hb
theorem lnF_fit {B:Nat→Bool}{X:Nat→Int}{R:Int}{c f:Nat}:∀k d,k=c - f - d→f+d≤c→(∀x,0<x→x<d→B (f+x)=false→sm X f (x+1)≤R)→∀x,0<x→x<lnF B X R c f k d→B (f+x)=false→sm X f (x+1)≤R
 | 0,d,_,_,hh,x,h0,hx,hb=>hh x h0 (by rw[lnF]at hx;exact hx) hb
 | k+1,d,hk,hd,hh,x,h0,hx,hb=>by
   have hl:=lb_le B f d;rw[lnF]at hx;split at hx
   ·cases hs:stp B X R f d
    ·rw[hs,if_neg Bool.false_ne_true]at hx
     refine lnF_fit k (d+1) (by omega) (by omega) (fun y hy0 hy hyb=>?_) x h0 hx hb
     rcases Nat.lt_or_eq_of_le (Nat.le_of_lt_succ hy)with h1 | h1
     ·exact hh y hy0 h1 hyb
     ·subst h1
      unfold stp at hs;rw[hyb]at hs;simp only[hy0,decide_true,Bool.not_false,Bool.true_and,decide_eq_false_iff_not]at hs;omega
    ·rw[hs,if_pos rfl]at hx
     refine hh x h0 ?_ hb;split at hx <;> omega
   ·exact hh x h0 hx hb
theorem ln1_fit {B:Nat→Bool}{X:Nat→Int}{R:Int}{c f:Nat}(hf:f≤c):∀x,0<x→x<ln1 B X R c f→B (f+x)=false→sm X f (x+1)≤R:=by
 unfold ln1;exact lnF_fit (c - f) 0 rfl (by omega) (fun x h0 hx=>absurd hx (Nat.not_lt_zero _))
theorem line_fits {B:Nat→Bool}{X:Nat→Int}{R:Int}{c f:Nat}(hf:f≤c):lnb B f (ln1 B X R c f)≤1∨sm X f (lnb B f (ln1 B X R c f))≤R:=by
 have hl:=lnb_le B f (ln1 B X R c f);cases h:lnb B f (ln1 B X R c f)with
 | zero=>exact .inl (by omega)
 | succ y =>
   rcases Nat.eq_zero_or_pos y with h0 | h0
   ·subst h0;exact .inl (Nat.le_refl _)
   ·exact .inr (ln1_fit hf y h0 (by omega) (lnb_last B f _ y h))
def lF (ls:List Nat)(k:Nat):Nat:=nix (0 :: ls) k
def lT (ls:List Nat)(c k:Nat):Nat:=if k<ls.length then nix ls k else c
theorem brk_at {o:Nat→Nat}{c:Nat}(ho:∀f,f<c→0<o f∧f+o f≤c):∀(N f:Nat),c - f≤N→f≤c→∀k,k≤(brk o c f).length→(k<(brk o c f).length→nix (f :: brk o c f) k<c∧nix (brk o c f) k=nix (f :: brk o c f) k+o (nix (f :: brk o c f) k)∧nix (brk o c f) k<c)∧(k=(brk o c f).length→nix (f :: brk o c f) k≤c∧(nix (f :: brk o c f) k<c→nix (f :: brk o c f) k+o (nix (f :: brk o c f) k)=c))
 | 0,f,hN,hf,k,hk=>by
   obtain rfl:f=c:=by omega
   rw[brk_none (by omega)]at hk ⊢;obtain rfl:k=0:=by simpa using hk
   exact⟨fun h=>by simp at h,fun _=>⟨Nat.le_refl _,fun h=>absurd h (Nat.lt_irrefl _)⟩⟩
 | N+1,f,hN,hf,k,hk=>by
   by_cases h1:f<c
   ·obtain⟨q1,q2⟩:=ho f h1
    by_cases h2:f+o f<c
    ·have ih:=brk_at ho N (f+o f) (by omega) (by omega)
     rw[brk_more q1 h2]at hk ⊢;cases k with
     | zero=>exact⟨fun _=>⟨h1,rfl,h2⟩,fun h=>by simp at h⟩
     | succ k =>
       have h3:=ih k (by simpa using hk);refine⟨fun h=>?_,fun h=>?_⟩
       ·exact h3.1 (by simpa using h)
       ·exact h3.2 (by simpa using h)
    ·rw[brk_none (by omega)]at hk ⊢
     obtain rfl:k=0:=by simpa using hk
     exact⟨fun h=>by simp at h,fun _=>⟨hf,fun _=>show f+o f=c by omega⟩⟩
   ·obtain rfl:f=c:=by omega
    rw[brk_none (by omega)]at hk ⊢;obtain rfl:k=0:=by simpa using hk
    exact⟨fun h=>by simp at h,fun _=>⟨Nat.le_refl _,fun h=>absurd h (Nat.lt_irrefl _)⟩⟩
theorem lF_next (ls:List Nat)(c:Nat){k:Nat}(h:k<ls.length):lF ls (k+1)=lT ls c k:=by
 unfold lF lT;rw[if_pos h];rfl
theorem sw_one {n:Nat}{W:List Int}(hW:∀i,i<n→nth W i=1)(a:Nat):∀m,a+m≤n→sw W a m=m
 | 0,_=>rfl
 | m+1,h=>by
   rw[sw,sw_one hW a m (by omega),hW _ (by omega)];unfold bw;rw[if_neg (by decide),if_neg (by decide)];omega
theorem sm_one {s:ByteArray}{n:Nat}{W:List Int}(hW:∀i,i<n→nth W i=1)(f:Nat):∀d,f+d≤cn s n→sm (cw s n W) f d=(nix (bix s n) (f+d):Int) - (nix (bix s n) f:Int)
 | 0,_=>by simp[sm]
 | d+1,h=>by
   have h1:=ri_lt (s:=s) (n:=n) (i:=f+d) (by omega);have h2:=ri_le (s:=s) (n:=n) (i:=f+d+1) (by omega);rw[sm,sm_one hW f d (by omega)];unfold cw;rw[sw_one hW _ _ (by omega)];rw[show f+(d+1)=f+d+1 from rfl];omega
theorem ix_mono {s:ByteArray}{n a b:Nat}(hab:a≤b)(hb:b≤cn s n):nix (bix s n) a≤nix (bix s n) b:=by
 rcases Nat.lt_or_eq_of_le hab with h | h
 ·exact Nat.le_of_lt (nix_lt (bix_sorted s n) h (by unfold cn at hb;have:=(bix_len s n).2.1;omega))
 ·rw[h];exact Nat.le_refl _
structure LineOk (s:ByteArray)(n:Nat)(R:Int)(F T m:Nat):Prop where
 ft:F≤T
 tc:T≤cn s n
 mt:F+m≤T
 bl:∀i,F+m≤i→i<T→blk s n i=true
 nb:∀y,F+m=y+1→F<F+m→blk s n y=false
 ok:m≤1∨((nix (bix s n) (F+m) - nix (bix s n) F:Nat):Int)≤R
theorem line_ok {s:ByteArray}{n:Nat}{W:List Int}(hW:∀i,i<n→nth W i=1)(R:Int)(ls:List Nat)(hls:ls=brk (ln1 (blk s n) (cw s n W) R (cn s n)) (cn s n) 0)(k:Nat)(hk:k≤ls.length) :
 (∃m,LineOk s n R (lF ls k) (lT ls (cn s n) k) m)∧(k<ls.length→lF ls k<lT ls (cn s n) k∧lT ls (cn s n) k<cn s n):=by
 have ho:∀f,f<cn s n→0<ln1 (blk s n) (cw s n W) R (cn s n) f∧f+ln1 (blk s n) (cw s n W) R (cn s n) f≤cn s n:=fun f hf=>ln1_in hf
 have h:=brk_at ho (cn s n) 0 (by omega) (Nat.zero_le _) k (by rw[←hls];exact hk);rw[←hls]at h;have hF:lF ls k=nix (0 :: ls) k:=rfl;rw[←hF]at h;have key:∀T,lF ls k≤cn s n→T≤cn s n→T=lF ls k+ln1 (blk s n) (cw s n W) R (cn s n) (lF ls k)→∃m,LineOk s n R (lF ls k) T m:=fun T hFc hTc hT=>by
  have h1:=lnb_le (blk s n) (lF ls k) (ln1 (blk s n) (cw s n W) R (cn s n) (lF ls k));refine⟨lnb (blk s n) (lF ls k) (ln1 (blk s n) (cw s n W) R (cn s n) (lF ls k)),by omega,hTc,by omega,fun i hi hi2=>?_,fun y hy hlt=>?_,?_⟩
  ·have:=lnb_blank (blk s n) (lF ls k) _ (i - lF ls k) (by omega) (by omega:i - lF ls k<ln1 (blk s n) (cw s n W) R (cn s n) (lF ls k))
   rwa [show lF ls k+(i - lF ls k)=i by omega]at this
  ·have:=lnb_last (blk s n) (lF ls k) (ln1 (blk s n) (cw s n W) R (cn s n) (lF ls k)) (y - lF ls k) (by omega)
   rwa [show lF ls k+(y - lF ls k)=y by omega]at this
  ·rcases line_fits (B:=blk s n) (X:=cw s n W) (R:=R) hFc with h2 | h2
   ·exact .inl h2
   ·rw[sm_one hW _ _ (by omega)]at h2
    have h3:=ix_mono (s:=s) (n:=n) (a:=lF ls k) (b:=lF ls k+lnb (blk s n) (lF ls k) (ln1 (blk s n) (cw s n W) R (cn s n) (lF ls k))) (by omega) (by omega);exact .inr (by omega)
 by_cases hlt:k<ls.length
 ·have h1:=h.1 hlt
  have hT:lT ls (cn s n) k=nix ls k:=by unfold lT;rw[if_pos hlt]
  rw[hT];have:=ho (lF ls k) h1.1;exact⟨key _ (by omega) (by omega) h1.2.1,fun _=>⟨by omega,h1.2.2⟩⟩
 ·have h1:=h.2 (by omega)
  have hT:lT ls (cn s n) k=cn s n:=by unfold lT;rw[if_neg hlt]
  rw[hT];refine⟨?_,fun h=>absurd h hlt⟩;by_cases hc:lF ls k<cn s n
  ·exact key _ h1.1 (Nat.le_refl _) (h1.2 hc).symm
  ·have e:lF ls k=cn s n:=by omega
   rw[e];exact⟨0,Nat.le_refl _,Nat.le_refl _,Nat.le_refl _,fun i h1 h2=>by omega,fun y hy h1=>by omega,.inl (Nat.zero_le _)⟩
def cnt (s:ByteArray)(n F m j:Nat):Nat:=nix (bix s n) (F+m) - nix (bix s n) (max j F)
def som (F m j:Nat):Nat:=F+m - max j F
def hng (F m j:Nat):Bool:=decide (F+m≤max j F)
theorem cnt_out {s:ByteArray}{n F m j:Nat}(h:j<F):cnt s n F m j=cnt s n F m (j+1)∧som F m j=som F m (j+1)∧hng F m j=hng F m (j+1):=by
 unfold cnt som hng;rw[show max j F=max (j+1) F by omega];exact⟨rfl,rfl,rfl⟩
theorem cnt_top {s:ByteArray}{n F m j:Nat}(h:F+m≤j)(hj:j≤cn s n):cnt s n F m j=0∧som F m j=0∧hng F m j=true:=by
 unfold cnt som hng;have h1:=ix_mono (s:=s) (n:=n) (a:=F+m) (b:=max j F) (by omega) (by omega);exact⟨by omega,by omega,by simp;omega⟩
theorem cnt_in {s:ByteArray}{n:Nat}{R:Int}{F T m j:Nat}(h:LineOk s n R F T m)(h1:F≤j)(h2:j<T) :
 hng F m j=(hng F m (j+1) && blk s n j)∧(hng F m j=true→cnt s n F m j=cnt s n F m (j+1)∧som F m j=som F m (j+1))∧(hng F m j=false→cnt s n F m j=cnt s n F m (j+1)+(nix (bix s n) (j+1) - nix (bix s n) j)∧som F m j=som F m (j+1)+1):=by
 have hc:=h.tc;have hm:=h.mt;have a1:=ri_lt (s:=s) (n:=n) (i:=j) (by omega);by_cases q:F+m≤j
 ·have t1:=cnt_top (s:=s) (n:=n) q (by omega)
  have t2:=cnt_top (s:=s) (n:=n) (F:=F) (m:=m) (j:=j+1) (by omega) (by omega);rw[t1.1,t1.2.1,t1.2.2,t2.1,t2.2.1,t2.2.2,h.bl j q h2];exact⟨rfl,fun _=>⟨rfl,rfl⟩,fun h=>by cases h⟩
 ·have hg:hng F m j=false:=by unfold hng;simp;omega
  rw[hg];refine⟨?_,(fun h=>by cases h),fun _=>?_⟩
  ·by_cases q2:F+m≤j+1
   ·rw[h.nb j (by omega) (by omega),Bool.and_false]
   ·have:hng F m (j+1)=false:=by unfold hng;simp;omega
    rw[this,Bool.false_and]
  ·unfold cnt som
   rw[show max j F=j by omega,show max (j+1) F=j+1 by omega];have a2:=ix_mono (s:=s) (n:=n) (a:=j+1) (b:=F+m) (by omega) (by omega);omega
def szt (a b j:Nat):Nat:=min j b - a
theorem szt_in {a b j:Nat}(h1:a≤j)(h2:j<b):szt a b (j+1)=szt a b j+1:=by unfold szt;omega
theorem szt_out {a b j:Nat}(h:j<a∨b≤j):szt a b (j+1)=szt a b j:=by unfold szt;omega
end Go.Proofs.YtnakejhohdbfdacGreatDoor.Cls.Wr

import Derived.Test.YtnakejhohdbfdacGreatDoorKSearchK
import Derived.Test.YtnakejhohdbfdacGreatDoorKMa
namespace Go.Proofs.YtnakejhohdbfdacGreatDoor.Lay
open Go Dec Bnd Lev
def beg (s:ByteArray):Nat→Bool
 | 0=>true
 | k+1=>!jn s (k+1)
def begs (s:ByteArray):Nat→List Nat
 | 0=>[]
 | k+1=>if beg s k then begs s k++[k]else begs s k
def bix (s:ByteArray)(n:Nat):List Nat:=if n=0 then [0]else begs s n++[n]
theorem begs_yes {s:ByteArray}{k:Nat}(h:beg s k=true):begs s (k+1)=begs s k++[k]:=by rw[begs,if_pos h]
theorem begs_no {s:ByteArray}{k:Nat}(h:beg s k=false):begs s (k+1)=begs s k:=by rw[begs,if_neg (by rw[h];exact Bool.false_ne_true)]
theorem begs_one (s:ByteArray):begs s 1=[0]:=rfl
theorem begs_lt (s:ByteArray):∀k,∀x∈begs s k,x<k
 | 0,x,h=>by cases h
 | k+1,x,h=>by
   cases hb:beg s k
   ·rw[begs_no hb]at h;have:=begs_lt s k x h;omega
   ·rw[begs_yes hb,List.mem_append,List.mem_singleton]at h
    rcases h with h | h
    ·have:=begs_lt s k x h;omega
    ·omega
theorem begs_len (s:ByteArray):∀k,(begs s k).length≤k∧(0<k→0<(begs s k).length)
 | 0=>⟨Nat.le_refl _,fun h=>absurd h (Nat.lt_irrefl _)⟩
 | k+1=>by
   have ih:=begs_len s k;cases hb:beg s k
   ·rw[begs_no hb];refine⟨by omega,fun _=>ih.2 ?_⟩;cases k with
    | zero=>cases hb
    | succ k=>omega
   ·rw[begs_yes hb,List.length_append,List.length_singleton];omega
theorem begs_sorted (s:ByteArray):∀k,(begs s k).Pairwise (· < ·)
 | 0=>List.Pairwise.nil
 | k+1=>by
   cases hb:beg s k
   ·rw[begs_no hb];exact begs_sorted s k
   ·rw[begs_yes hb,List.pairwise_append]
    exact⟨begs_sorted s k,by simp,fun a ha b hb=>by rw[List.mem_singleton]at hb;rw[hb];exact begs_lt s k a ha⟩
theorem begs_prefix (s:ByteArray)(k:Nat):∀d,begs s k <+: begs s (k+d)
 | 0=>List.prefix_refl _
 | d+1=>by
   refine(begs_prefix s k d).trans ?_;rw[←Nat.add_assoc,begs];split
   ·exact List.prefix_append _ _
   ·exact List.prefix_refl _
theorem bnd_begs (s:ByteArray):∀k,bndTo s (k+1)=(begs s (k+1)).map (fun j=>((pos s j:Nat):Int))
 | 0=>by rw[bndTo_yes (k:=0) rfl];rfl
 | k+1=>by
   cases h:jn s (k+1)
   ·rw[bndTo_no h,begs_yes (by rw[beg,h];rfl),bnd_begs s k,List.map_append];rfl
   ·rw[bndTo_yes h,begs_no (by rw[beg,h];rfl),bnd_begs s k]
theorem bnd_bix {s:ByteArray}{n:Nat}(h:Dec.Ends s n):bnd s n=(bix s n).map (fun j=>((pos s j:Nat):Int)):=by
 unfold bnd bix;cases n with
 | zero =>
   have h0:=h.1;simp only[pos]at h0;rw[if_neg (by omega),if_pos rfl];rfl
 | succ m =>
   have:=h.2 0 (Nat.succ_pos _);rw[if_pos (by omega),if_neg (Nat.succ_ne_zero _),bnd_begs,List.map_append,←h.1];rfl
theorem bix_len (s:ByteArray)(n:Nat):(bix s n).length≤n+1∧0<(bix s n).length∧(0<n→1<(bix s n).length):=by
 have h:=begs_len s n;unfold bix;split
 ·rename_i e;subst e;simp
 ·rw[List.length_append,List.length_singleton];omega
theorem bix_sorted (s:ByteArray)(n:Nat):(bix s n).Pairwise (· < ·):=by
 unfold bix;split
 ·simp
 ·rw[List.pairwise_append]
  exact⟨begs_sorted s n,by simp,fun a ha b hb=>by rw[List.mem_singleton]at hb;rw[hb];exact begs_lt s n a ha⟩
theorem nix_lt {l:List Nat}(h:l.Pairwise (· < ·)){i j:Nat}(hij:i<j)(hj:j<l.length):nix l i<nix l j:=by
 rw[List.pairwise_iff_getElem]at h;have:=h i j (by omega) hj hij;simpa[nix,hj,show i<l.length by omega] using this
def cn (s:ByteArray)(n:Nat):Nat:=(bix s n).length - 1
theorem bix_zero (s:ByteArray)(n:Nat):nix (bix s n) 0=0:=by
 unfold bix;split
 ·rfl
 ·rename_i hn
  obtain⟨m,rfl⟩:=Nat.exists_eq_succ_of_ne_zero hn;have hp:=begs_prefix s 1 m;rw[begs_one,Nat.add_comm 1 m]at hp;obtain⟨t,ht⟩:=hp;show nix (begs s (m+1)++[m+1]) 0=0;rw[←ht];rfl
theorem bix_last (s:ByteArray)(n:Nat):nix (bix s n) (cn s n)=n:=by
 unfold cn bix;split
 ·rename_i e;subst e;rfl
 ·rw[List.length_append,List.length_singleton,Nat.add_sub_cancel,nix,List.getElem?_append_right (Nat.le_refl _)];simp
theorem bix_at {s:ByteArray}{n i:Nat}(hn:0<n)(hi:i<(begs s n).length):nix (bix s n) i=nix (begs s n) i:=by
 unfold bix;rw[if_neg (by omega),nix,nix,List.getElem?_append_left hi]
theorem cn_begs {s:ByteArray}{n:Nat}(hn:0<n):cn s n=(begs s n).length:=by
 unfold cn bix;rw[if_neg (by omega),List.length_append,List.length_singleton,Nat.add_sub_cancel]
theorem nix_prefix {a b:List Nat}(h:a <+: b){i:Nat}(hi:i<a.length):nix b i=nix a i:=by
 obtain⟨t,rfl⟩:=h;rw[nix,nix,List.getElem?_append_left hi]
theorem bix_next {s:ByteArray}{n i:Nat}(hi:i<n):(beg s i=true→nix (bix s n) (begs s i).length=i)∧(beg s i=false→i<nix (bix s n) (begs s i).length):=by
 have hn:0<n:=by omega
 constructor
 ·intro hb
  have hp:=begs_prefix s (i+1) (n - (i+1));rw[show i+1+(n - (i+1))=n by omega]at hp;have hl:(begs s i).length<(begs s (i+1)).length:=by rw[begs_yes hb,List.length_append,List.length_singleton];omega
  rw[bix_at hn (Nat.lt_of_lt_of_le hl hp.length_le),nix_prefix hp hl,begs_yes hb,nix,List.getElem?_append_right (Nat.le_refl _)];simp
 ·intro hb
  have hp:=begs_prefix s (i+1) (n - (i+1));rw[show i+1+(n - (i+1))=n by omega,begs_no hb]at hp;obtain⟨t,ht⟩:=hp;have h1:bix s n=begs s i++(t++[n]):=by rw[bix,if_neg (by omega),←ht,List.append_assoc]
  have hs:=begs_sorted s n;rw[h1,nix,List.getElem?_append_right (Nat.le_refl _),Nat.sub_self];cases t with
  | nil=>exact hi
  | cons y t =>
    show i<y;have hy:y∈begs s n:=by rw[←ht];simp
    have hyi:¬y<i+1:=by
     intro hlt
     -- what is below i + 1 lies in the prefix
     have:∀d,∀z∈begs s (i+1+d),z∈begs s (i+1)∨i+1≤z:=by
      intro d
      induction d with
      | zero=>intro z hz;exact .inl hz
      | succ d ih =>
        intro z hz;rw[←Nat.add_assoc,begs]at hz;split at hz
        ·rw[List.mem_append,List.mem_singleton]at hz
         rcases hz with hz | hz
         ·exact ih z hz
         ·omega
        ·exact ih z hz
     have h2:=this (n - (i+1)) y (by rw[show i+1+(n - (i+1))=n by omega];exact hy)
     rcases h2 with h2 | h2
     ·rw[begs_no hb]at h2
      rw[←ht,List.pairwise_append]at hs;have:=hs.2.2 y h2 y (by simp);omega
     ·omega
    omega
def wsum (W:List Int)(a:Nat):Nat→Int
 | 0=>0
 | d+1=>wsum W a d+nth W (a+d)
def wid (W:List Int)(a b:Nat):Int:=wsum W a (b - a)
theorem wid_self (W:List Int)(a:Nat):wid W a a=0:=by rw[wid,Nat.sub_self];rfl
theorem wid_succ (W:List Int){a b:Nat}(h:a≤b):wid W a (b+1)=wid W a b+nth W b:=by
 rw[wid,wid,show b+1 - a=(b - a)+1 by omega,wsum,show a+(b - a)=b by omega]
theorem wid_bound (W:List Int)(M:Int)(h:∀i,0≤nth W i∧nth W i≤M)(a:Nat):∀d,0≤wsum W a d∧wsum W a d≤d * M
 | 0=>by simp[wsum]
 | d+1=>by
   have ih:=wid_bound W M h a d;have:=h (a+d);rw[wsum];refine⟨by omega,?_⟩;have e:((d+1:Nat):Int) * M=d * M+M:=by rw[Int.natCast_add,Int.add_mul];simp
   omega
def wl (s:ByteArray)(W:List Int):Nat→List Int
 | 0=>[]
 | k+1=>if beg s k then wl s W k++[nth W k]else(wl s W k).set ((wl s W k).length - 1) (nth (wl s W k) ((wl s W k).length - 1)+nth W k)
theorem wl_len (s:ByteArray)(W:List Int):∀k,(wl s W k).length=(begs s k).length
 | 0=>rfl
 | k+1=>by
   cases hb:beg s k
   ·rw[wl,if_neg (by rw[hb];exact Bool.false_ne_true),List.length_set,wl_len s W k,begs_no hb]
   ·rw[wl,if_pos hb,List.length_append,wl_len s W k,begs_yes hb];simp
theorem wl_at (s:ByteArray)(W:List Int):∀k,∀j,j<(begs s k).length→nth (wl s W k) j=if j+1<(begs s k).length then wid W (nix (begs s k) j) (nix (begs s k) (j+1))else wid W (nix (begs s k) j) k
 | 0,j,h=>by cases h
 | k+1,j,h=>by
   have hl:=wl_len s W k;cases hb:beg s k
   ·rw[begs_no hb]at h ⊢
    have ih:=wl_at s W k j h;rw[wl,if_neg (by rw[hb];exact Bool.false_ne_true)];by_cases e:j+1<(begs s k).length
    ·rw[if_pos e]at ih ⊢
     rw[←ih,nth,List.getElem?_set_ne (by omega)]
    ·rw[if_neg e]at ih ⊢
     have hj:(wl s W k).length - 1=j:=by omega
     rw[hj,nth,List.getElem?_set_self (by omega),ih,Option.getD_some];have hx:nix (begs s k) j<k:=begs_lt s k _ (by rw[nix,List.getElem?_eq_getElem h];exact List.getElem_mem _);rw[wid_succ W (by omega)]
   ·rw[wl,if_pos hb]
    rw[begs_yes hb]at h ⊢;rw[List.length_append,List.length_singleton]at h ⊢;by_cases e:j<(begs s k).length
    ·have ih:=wl_at s W k j e
     rw[nth,List.getElem?_append_left (by omega),if_pos (by omega),show nix (begs s k++[k]) j=nix (begs s k) j by rw[nix,nix,List.getElem?_append_left e]];rw[nth]at ih;rw[ih];split
     ·rename_i e2;rw[show nix (begs s k++[k]) (j+1)=nix (begs s k) (j+1) by rw[nix,nix,List.getElem?_append_left e2]]
     ·rw[show nix (begs s k++[k]) (j+1)=k by rw[nix,List.getElem?_append_right (by omega),show j+1 - (begs s k).length=0 by omega];rfl]
    ·have hj:j=(begs s k).length:=by omega
     subst hj;rw[nth,List.getElem?_append_right (by omega),hl,Nat.sub_self,if_neg (by omega),show nix (begs s k++[k]) (begs s k).length=k by rw[nix,List.getElem?_append_right (Nat.le_refl _),Nat.sub_self];rfl,wid_succ W (Nat.le_refl _),wid_self];simp
def cw (s:ByteArray)(n:Nat)(W:List Int)(k:Nat):Int:=wid W (nix (bix s n) k) (nix (bix s n) (k+1))
theorem wl_cw {s:ByteArray}{n:Nat}(hn:0<n)(W:List Int){j:Nat}(hj:j<cn s n):nth (wl s W n) j=cw s n W j:=by
 rw[cn_begs hn]at hj;rw[wl_at s W n j hj,cw,bix_at hn hj];split
 ·rename_i e;rw[bix_at hn e]
 ·have e:j+1=cn s n:=by rw[cn_begs hn];omega
  rw[e,bix_last]
def trail (c:Int):Bool:=c == 12 || ini c || c == 22 || gone c
def stops (c:Int):Bool:=c == 11 || c == 10
def endF (K:List Int)(ed:Nat→Bool):Nat→Nat→Bool
 | 0,_=>false
 | f+1,i=>stops (nth K i) || trail (nth K i) && (endF K ed f (i+1) || ed (i+1))
def endAt (K:List Int)(ed:Nat→Bool)(i:Nat):Bool:=endF K ed (K.length - i) i
theorem endAt_step (K:List Int)(ed:Nat→Bool){i:Nat}(h:i<K.length):endAt K ed i=(stops (nth K i) || trail (nth K i) && (endAt K ed (i+1) || ed (i+1))):=by
 rw[endAt,endAt,show K.length - i=(K.length - (i+1))+1 by omega,endF]
theorem endAt_end (K:List Int)(ed:Nat→Bool):endAt K ed K.length=false:=by rw[endAt,Nat.sub_self];rfl
def elv (K LV:List Int)(base:Int)(ed:Nat→Bool)(i:Nat):Int:=if endAt K ed i then base else nth LV i
def scanJ (K:List Int)(tq:Nat):Nat→Nat→Nat
 | 0,j=>j
 | f+1,j=>if j<tq∧trail (nth K j)=true then scanJ K tq f (j+1)else j
def scan (K:List Int)(tq i:Nat):Nat:=scanJ K tq (tq - i) i
end Go.Proofs.YtnakejhohdbfdacGreatDoor.Lay

import Derived.Shelf.Unicode.DecodeAny
import Derived.Shelf.Slices.SearchI
import Derived.Test.YtnakejhohdbfdabGreatDoorProg
import Derived.Test.YtnakejhohdbfdabGreatDoorRows
import Derived.ProofKit
import Derived.Lib.LaidU8
import Derived.Lib.TrimU
import Derived.Lib.RuneCountTail
import Derived.Lib.QuoteLoop
import Derived.WalkKit
import Derived.WalkSpells
import Derived.WalkSmall
import Derived.Lib.OthersKept
import Derived.RegionTactic
import Derived.Deep.QuietTactic
import Derived.BigQuiet
import Derived.Test.YtnakejhohdbfdabGreatDoorKMb
import Derived.Test.YtnakejhohdbfdabGreatDoorKKin
namespace Go.Proofs
open Go.Shelf
end Go.Proofs
namespace Go.Proofs.YtnakejhohdbfdabGreatDoor.Cls
open Go.Lib
end Go.Proofs.YtnakejhohdbfdabGreatDoor.Cls
namespace Go.Proofs.YtnakejhohdbfdabGreatDoor.Dec
open Go
def pos (s:ByteArray):Nat→Nat
 | 0=>0
 | k+1=>pos s k+(Utf8.decode s (pos s k)).2
def rune (s:ByteArray)(k:Nat):Int:=((Utf8.decode s (pos s k)).1:Nat)
def row (s:ByteArray)(k:Nat):Int × Int × Int:=(rune s k,(pos s k:Nat),(pos s (k+1):Nat))
def lst (s:ByteArray):Nat→List (Int × Int × Int)
 | 0=>[]
 | k+1=>lst s k++[row s k]
def lstL (s:ByteArray):Nat→List (Int × Int × Int)
 | 0=>[]
 | k+1=>lst s k++[((rune s k,(pos s k:Nat),(s.size:Nat)):Int × Int × Int)]
def Ends (s:ByteArray)(n:Nat):Prop:=pos s n=s.size∧∀j,j<n→pos s j<s.size
theorem width_pos (s:ByteArray)(p:Nat):1≤(Utf8.decode s p).2:=Lib.width_pos s p
theorem width_le (s:ByteArray)(p:Nat)(h:p<s.size):p+(Utf8.decode s p).2≤s.size:=by
 have:(Utf8.decode s p).2≤s.size - p:=by rw[Lib.decode_at];exact Lib.decodeN_width_le _ _ _ _ _ (by omega)
 omega
theorem pos_lt_succ (s:ByteArray)(k:Nat):pos s k<pos s (k+1):=by
 have:=width_pos s (pos s k);show pos s k<pos s k+_;omega
theorem pos_mono (s:ByteArray):∀(a b:Nat),a<b→pos s a<pos s b
 | a,0,h=>by omega
 | a,b+1,h=>by
   have:=pos_lt_succ s b
   rcases Nat.lt_or_eq_of_le (Nat.le_of_lt_succ h)with h1 | h1
   ·have:=pos_mono s a b h1;omega
   ·subst h1;exact this
theorem le_pos (s:ByteArray):∀k,k≤pos s k
 | 0=>Nat.zero_le _
 | k+1=>by have:=le_pos s k;have:=pos_lt_succ s k;omega
theorem ends_unique {s:ByteArray}{n m:Nat}(h:Ends s n)(k:Ends s m):n=m:=by
 rcases Nat.lt_trichotomy n m with h1 | h1 | h1
 ·have:=k.2 n h1;have:=h.1;omega
 ·exact h1
 ·have:=h.2 m h1;have:=k.1;omega
theorem lst_length (s:ByteArray):∀k,(lst s k).length=k
 | 0=>rfl
 | k+1=>by simp[lst,lst_length s k]
theorem lst_at (s:ByteArray):∀(n k:Nat),k<n→(lst s n)[k]?=some (row s k)
 | 0,k,h=>by omega
 | n+1,k,h=>by
   rw[lst]
   rcases Nat.lt_or_eq_of_le (Nat.le_of_lt_succ h)with h1 | h1
   ·rw[List.getElem?_append_left (by rw[lst_length];exact h1)];exact lst_at s n k h1
   ·subst h1;rw[List.getElem?_append_right (by rw[lst_length];exact Nat.le_refl _),lst_length];simp
theorem lstL_last (s:ByteArray)(k:Nat):(lstL s (k+1))[k]?=some (rune s k,((pos s k:Nat):Int),((s.size:Nat):Int)):=by
 rw[lstL,List.getElem?_append_right (by rw[lst_length];exact Nat.le_refl _),lst_length];simp
theorem lstL_end {s:ByteArray}{n:Nat}(h:Ends s n):lstL s n=lst s n:=by
 cases n with
 | zero=>rfl
 | succ n=>rw[lst,lstL,row,h.1]
def cells:List (Int × Int × Int)→List Value
 | []=>[]
 | x :: l=>.int .i32 x.1 :: .int .i64 x.2.1 :: .int .i64 x.2.2 :: cells l
theorem cells_length:∀l:List (Int × Int × Int),(cells l).length=l.length * 3
 | []=>rfl
 | x :: l=>by have:=cells_length l;simp only[cells,List.length_cons,this];omega
theorem cells_append:∀l m:List (Int × Int × Int),cells l++cells m=cells (l++m)
 | [],_=>rfl
 | x :: l,m=>by simp only[cells,List.cons_append,cells_append l m]
theorem cells_at:∀(l:List (Int × Int × Int)) (i:Nat) (x:Int × Int × Int),l[i]?=some x →
 (cells l)[i * 3]?=some (.int .i32 x.1)∧(cells l)[i * 3+1]?=some (.int .i64 x.2.1)∧(cells l)[i * 3+2]?=some (.int .i64 x.2.2)
 | [],i,x,h=>by simp at h
 | y :: l,0,x,h=>by
   simp at h;subst h;exact⟨rfl,rfl,rfl⟩
 | y :: l,i+1,x,h=>by
   have ih:=cells_at l i x (by simpa using h);rw[show(i+1) * 3=i * 3+1+1+1 by omega];exact ih
theorem cells_snocL (s:ByteArray)(k:Nat):cells (lst s k)++[.int .i32 (rune s k),.int .i64 (pos s k:Nat),.int .i64 (s.size:Nat)]=cells (lstL s (k+1)):=by
 rw[lstL,←cells_append];rfl
theorem cells_set (s:ByteArray)(k:Nat):(cells (lstL s (k+1))).set (k * 3+2) (.int .i64 (pos s (k+1):Nat))=cells (lst s (k+1)):=by
 rw[lst,lstL,←cells_append,←cells_append,List.set_append_right _ _ (by rw[cells_length,lst_length];omega),cells_length,lst_length];have:k * 3+2 - k * 3=2:=by omega
 rw[this];rfl
theorem cells_one:∀(l:List (Int × Int × Int)),∀u∈cells l,u.oneCell'=true
 | [],u,hu=>by cases hu
 | x :: l,u,hu=>by
   simp only[cells,List.mem_cons]at hu
   rcases hu with rfl | rfl | rfl | hu
   ·rfl
   ·rfl
   ·rfl
   ·exact cells_one l u hu
theorem owns_below {w w':World}{base:Nat}{e:TypeId}{size:Nat}{v:Value}{n:Nat}{xs:List Value}(h:w.ownsRow base e size v n xs)(hb:RowKit.Below w.heap.size w w'):w'.ownsRow base e size v n xs:=by
 refine⟨h.1,?_⟩
 rcases h.2 with h1 | ⟨g,cap,cur,hv,hg,hh,r⟩
 ·exact .inl h1
 ·refine .inr ⟨g,cap,cur,hv,hg,?_,r⟩
  rw[hb.block g (Array.getElem?_eq_some_iff.1 hh).1];exact hh
theorem owns_low {w:World}{base base':Nat}{e:TypeId}{size:Nat}{v:Value}{n:Nat}{xs:List Value}(h:w.ownsRow base e size v n xs)(hb:base'≤base):w.ownsRow base' e size v n xs:=by
 refine⟨h.1,?_⟩
 rcases h.2 with h1 | ⟨g,cap,cur,hv,hg,r⟩
 ·exact .inl h1
 ·exact .inr ⟨g,cap,cur,hv,by omega,r⟩
theorem owns_shape {w:World}{base:Nat}{e:TypeId}{size:Nat}{v:Value}{n:Nat}{xs:List Value}(h:w.ownsRow base e size v (n+1) xs):∃g cap,v=.slice (some ⟨g,0,none⟩) (n+1) cap:=by
 rcases h.2 with⟨_,h1⟩ | ⟨g,cap,cur,hv,_⟩
 ·omega
 ·exact⟨g,cap,hv⟩
theorem owns_at {w:World}{base:Nat}{e:TypeId}{size:Nat}{n g cap:Nat}{xs:List Value}(h:w.ownsRow base e size (.slice (some ⟨g,0,none⟩) n cap) n xs):base≤g∧g<w.heap.size:=h.lt g rfl
end Go.Proofs.YtnakejhohdbfdabGreatDoor.Dec
namespace Go.Proofs.YtnakejhohdbfdabGreatDoor.Cls
open Go.RowKit Dec
theorem hid {p:Prop}(h:p):Hid p:=h
theorem info75:(Tryz.prog.info? 123).map (fun i=>(i.zero,i.size,i.bytes))=some (some (.agg #[.int .i32 0,.int .i64 0,.int .i64 0]),3,24):=by kernel_rfl
theorem new3_cells (w:World)(a b c:Value)(t:TypeId):∀j u,[a,b,c][j]?=some u→(w.alloc (.cells #[a,b,c] t)).cell? ((⟨w.heap.size,0,none⟩:Addr).add j)=some u:=by
 intro j u hj;rw[Addr.add_lit,Nat.zero_add,World.cell?_alloc_at _ _ _ _ rfl];simpa using hj
theorem new3_one (r a b:Int):∀u∈[Value.int .i32 r,.int .i64 a,.int .i64 b],u.oneCell'=true:=by
 intro u hu;simp only[List.mem_cons,List.not_mem_nil,or_false]at hu
 rcases hu with rfl | rfl | rfl <;> rfl
theorem new3_cells_at (w:World)(n:Nat)(h:w.heap.size=n)(a b c:Value)(t:TypeId):∀j u,[a,b,c][j]?=some u→(w.alloc (.cells #[a,b,c] t)).cell? ((⟨n,0,none⟩:Addr).add j)=some u:=by
 subst h;exact new3_cells w a b c t
theorem iter_setCell {w:World}{it g j:Nat}{s:ByteArray}{p:Nat}{v:Value}(h:w.heap[it]?=some (.stringIter s p))(hne:g≠it):(w.setCell ⟨g,j,none⟩ v).heap[it]?=some (.stringIter s p):=by
 rw[Below.heap_setCell _ _ _ _ (fun e=>hne e.symm)];exact h
end Go.Proofs.YtnakejhohdbfdabGreatDoor.Cls
namespace Go.Proofs.YtnakejhohdbfdabGreatDoor.Bnd
open Go Dec Kin
def kf (s:ByteArray)(k:Nat):Int:=Tabs.kindOf (rune s k)
def jn (s:ByteArray):Nat→Bool
 | 0=>true
 | m+1=>joinB (kf s m) (pref (kf s) m) (kf s (m+1))
def bndTo (s:ByteArray):Nat→List Int
 | 0=>[0]
 | k+1=>if jn s k then bndTo s k else bndTo s k++[((pos s k:Nat):Int)]
def bnd (s:ByteArray)(n:Nat):List Int:=if 0<s.size then bndTo s n++[((s.size:Nat):Int)]else bndTo s n
def kl (s:ByteArray):Nat→List Int
 | 0=>[]
 | k+1=>kl s k++[kf s k]
theorem bndTo_yes {s:ByteArray}{k:Nat}(h:jn s k=true):bndTo s (k+1)=bndTo s k:=by rw[bndTo,if_pos h]
theorem bndTo_no {s:ByteArray}{k:Nat}(h:jn s k=false):bndTo s (k+1)=bndTo s k++[((pos s k:Nat):Int)]:=by rw[bndTo,if_neg (by rw[h];exact Bool.false_ne_true)]
theorem parts_jn (s:ByteArray)(m:Nat):partsB (lastOf (pref (kf s) (m+1))) (pictOf (pref (kf s) (m+1))) (oddOf (pref (kf s) (m+1))) (kf s (m+1))=!jn s (m+1) :=
 parts_joined (kf s m) (pref (kf s) m) (kf s (m+1))
theorem kl_length (s:ByteArray):∀k,(kl s k).length=k
 | 0=>rfl
 | k+1=>by simp[kl,kl_length s k]
theorem kl_at (s:ByteArray):∀(n k:Nat),k<n→(kl s n)[k]?=some (kf s k)
 | 0,k,h=>by omega
 | n+1,k,h=>by
   rw[kl]
   rcases Nat.lt_or_eq_of_le (Nat.le_of_lt_succ h)with h1 | h1
   ·rw[List.getElem?_append_left (by rw[kl_length];exact h1)];exact kl_at s n k h1
   ·subst h1;rw[List.getElem?_append_right (by rw[kl_length];exact Nat.le_refl _),kl_length];simp
theorem bndTo_len (s:ByteArray):∀k,1≤(bndTo s k).length∧(bndTo s k).length≤k+1
 | 0=>⟨Nat.le_refl _,Nat.le_refl _⟩
 | k+1=>by
   have ih:=bndTo_len s k;cases h:jn s k
   ·rw[bndTo_no h,List.length_append,List.length_singleton];omega
   ·rw[bndTo_yes h];omega
theorem bnd_len (s:ByteArray)(n:Nat):1≤(bnd s n).length∧(bnd s n).length≤n+2:=by
 have h:=bndTo_len s n;unfold bnd;split
 ·rw[List.length_append,List.length_singleton];omega
 ·omega
theorem bndTo_head (s:ByteArray):∀k,(bndTo s k)[0]?=some 0
 | 0=>rfl
 | k+1=>by
   have ih:=bndTo_head s k;have hl:=(bndTo_len s k).1;cases h:jn s k
   ·rw[bndTo_no h,List.getElem?_append_left (by omega)];exact ih
   ·rw[bndTo_yes h];exact ih
theorem bnd_head (s:ByteArray)(n:Nat):(bnd s n)[0]?=some 0:=by
 have hl:=(bndTo_len s n).1;unfold bnd;split
 ·rw[List.getElem?_append_left (by omega)];exact bndTo_head s n
 ·exact bndTo_head s n
theorem bndTo_lt (s:ByteArray):∀k,∀x∈bndTo s (k+1),x<((pos s (k+1):Nat):Int)
 | 0,x,hx=>by
   rw[bndTo_yes (k:=0) rfl]at hx;simp only[bndTo,List.mem_singleton]at hx;have:=pos_lt_succ s 0;rw[hx];omega
 | k+1,x,hx=>by
   have h1:=pos_lt_succ s (k+1);cases h:jn s (k+1)
   ·rw[bndTo_no h,List.mem_append,List.mem_singleton]at hx
    rcases hx with hx | hx
    ·have:=bndTo_lt s k x hx;omega
    ·rw[hx];omega
   ·rw[bndTo_yes h]at hx
    have:=bndTo_lt s k x hx;omega
theorem bndTo_sorted (s:ByteArray):∀k,(bndTo s k).Pairwise (· < ·)
 | 0=>by simp[bndTo]
 | k+1=>by
   have ih:=bndTo_sorted s k;cases h:jn s k
   ·rw[bndTo_no h,List.pairwise_append]
    refine⟨ih,by simp,fun a ha b hb=>?_⟩;rw[List.mem_singleton]at hb;subst hb;cases k with
    | zero=>cases h
    | succ m=>exact bndTo_lt s m a ha
   ·rw[bndTo_yes h];exact ih
theorem bnd_sorted {s:ByteArray}{n:Nat}(h:Dec.Ends s n):(bnd s n).Pairwise (· < ·):=by
 unfold bnd;split
 ·rename_i hs
  rw[List.pairwise_append];refine⟨bndTo_sorted s n,by simp,fun a ha b hb=>?_⟩;rw[List.mem_singleton]at hb;subst hb;cases n with
  | zero=>have h1:=h.1;simp only[pos]at h1;omega
  | succ m=>have:=bndTo_lt s m a ha;rw[h.1]at this;exact this
 ·exact bndTo_sorted s n
theorem bnd_last {s:ByteArray}{n:Nat}(h:Dec.Ends s n):(bnd s n)[(bnd s n).length - 1]?=some ((s.size:Nat):Int):=by
 unfold bnd;split
 ·rw[List.length_append,List.length_singleton,Nat.add_sub_cancel,List.getElem?_append_right (Nat.le_refl _)];simp
 ·rename_i hs
  have hn:n=0:=by
   cases n with
   | zero=>rfl
   | succ m=>have:=h.2 0 (Nat.succ_pos _);omega
  subst hn;have:s.size=0:=by omega
  rw[this];rfl
def best (l:List Int)(x:Int):Nat→Int
 | 0=>0
 | i+1=>if l.getD i 0≤x then l.getD i 0 else best l x i
def Cut (l:List Int)(x:Int)(k:Nat):Prop:=k≤l.length∧(∀i,i<k→l.getD i 0<x)∧(∀i,k≤i→i<l.length→x≤l.getD i 0)
theorem cut_cons {y:Int}{l:List Int}{x:Int}{k:Nat}(h:Cut l x k)(hy:y<x):Cut (y :: l) x (k+1):=by
 refine⟨by have:=h.1;simp;omega,fun i hi=>?_,fun i h1 h2=>?_⟩
 ·cases i with
  | zero=>exact hy
  | succ i=>exact h.2.1 i (by omega)
 ·cases i with
  | zero=>omega
  | succ i=>exact h.2.2 i (by omega) (by simpa using h2)
theorem cut_exists (x:Int):∀l:List Int,l.Pairwise (· < ·)→∃k,Cut l x k
 | [],_=>⟨0,Nat.le_refl _,fun i h=>by omega,fun i _ h=>by simp at h⟩
 | y :: l,h=>by
   rw[List.pairwise_cons]at h;by_cases hy:y<x
   ·obtain⟨k,hk⟩:=cut_exists x l h.2
    exact⟨k+1,cut_cons hk hy⟩
   ·refine⟨0,Nat.zero_le _,fun i hi=>by omega,fun i _ h2=>?_⟩
    cases i with
    | zero=>show x≤y;omega
    | succ i =>
      have hi:i<l.length:=by simpa using h2
      have:l.getD i 0∈l:=by simp[List.getD,hi]
      have:=h.1 _ this;show x≤l.getD i 0;omega
theorem cut_count:∀ {l:List Int} {x:Int} {k:Nat},Cut l x k→l.countP (fun y=>decide (y<x))=k
 | [],x,k,h=>by have:=h.1;simp at this;simp[this]
 | y :: l,x,k,h=>by
   cases k with
   | zero =>
     rw[List.countP_eq_zero];intro z hz;obtain⟨i,hi,rfl⟩:=List.getElem_of_mem hz;have:=h.2.2 i (Nat.zero_le _) hi;rw[List.getD,List.getElem?_eq_getElem hi]at this;simp only[Option.getD_some]at this;simp;omega
   | succ k =>
     have hy:y<x:=h.2.1 0 (Nat.succ_pos _);have hc:Cut l x k:=⟨by have:=h.1;simp at this;omega,fun i hi=>h.2.1 (i+1) (by omega),fun i h1 h2=>h.2.2 (i+1) (by omega) (by simpa using h2)⟩;rw[List.countP_cons,cut_count hc];simp[hy]
theorem sorted_lt {l:List Int}(h:l.Pairwise (· < ·)){i j:Nat}(hij:i<j)(hj:j<l.length):l.getD i 0<l.getD j 0:=by
 rw[List.pairwise_iff_getElem]at h;have:=h i j (by omega) hj hij;simpa[List.getD,hj,show i<l.length by omega] using this
theorem contains_iff {l:List Int}(hs:l.Pairwise (· < ·)){x:Int}{k:Nat}(h:Cut l x k):l.contains x=true ↔ k<l.length∧l.getD k 0=x:=by
 rw[List.contains_iff_mem];constructor
 ·intro hm
  obtain⟨i,hi,e⟩:=List.getElem_of_mem hm;have e2:l.getD i 0=x:=by simp[List.getD,hi,e]
  rcases Nat.lt_trichotomy i k with h1 | h1 | h1
  ·have:=h.2.1 i h1;omega
  ·subst h1;exact⟨hi,e2⟩
  ·have:=sorted_lt hs h1 hi
   have:=h.2.2 k (Nat.le_refl _) (by omega);omega
 ·rintro ⟨h1,h2⟩
  rw[←h2];simp[List.getD,h1]
theorem best_low {l:List Int}{x:Int}:∀ {k:Nat},(∀i,i<k→l.getD i 0≤x)→best l x (k+1 - 1)=if k=0 then 0 else l.getD (k - 1) 0
 | 0,_=>rfl
 | k+1,h=>by
   show best l x (k+1)=_;rw[best,if_pos (h k (Nat.lt_succ_self _))];simp
theorem best_stay {l:List Int}{x:Int}{k:Nat}:∀d,(∀i,k≤i→i<k+d→x<l.getD i 0)→best l x (k+d)=best l x k
 | 0,_=>rfl
 | d+1,h=>by
   rw[show k+(d+1)=(k+d)+1 from rfl,best,if_neg (by have:=h (k+d) (by omega) (by omega);omega)];exact best_stay d fun i h1 h2=>h i h1 (by omega)
theorem best_found {l:List Int}(hs:l.Pairwise (· < ·)){x:Int}{k:Nat}(hk:k<l.length)(e:l.getD k 0=x):best l x l.length=x:=by
 have h1:best l x (k+1)=x:=by rw[best,if_pos (by omega),e]
 have h2:=best_stay (l:=l) (x:=x) (k:=k+1) (l.length - (k+1)) (fun i h3 h4=>by
  have:=sorted_lt hs (show k<i by omega) (by omega);omega)
 rw[show k+1+(l.length - (k+1))=l.length by omega]at h2;rw[h2,h1]
theorem best_below {l:List Int}{x:Int}{k:Nat}(h:Cut l x k)(hne:∀i,k≤i→i<l.length→l.getD i 0≠x):best l x l.length=if k=0 then 0 else l.getD (k - 1) 0:=by
 have h2:=best_stay (l:=l) (x:=x) (k:=k) (l.length - k) (fun i h3 h4=>by
  have:=h.2.2 i h3 (by omega)
  have:=hne i h3 (by omega)
  omega)
 rw[show k+(l.length - k)=l.length by have:=h.1;omega]at h2;rw[h2];exact best_low (k:=k) fun i hi=>by have:=h.2.1 i hi;omega
def snapL (l:List Int)(x:Int)(up:Bool)(k:Nat):Int:=if l.contains x || up then l.getD k 0 else l.getD (k - 1) 0
structure Rises (l:List Int)(z:Int):Prop where
 sorted:l.Pairwise (· < ·)
 head:l[0]?=some 0
 last:l[l.length - 1]?=some z
theorem rises_bnd {s:ByteArray}{n:Nat}(h:Dec.Ends s n):Rises (bnd s n) ((s.size:Nat):Int):=⟨bnd_sorted h,bnd_head s n,bnd_last h⟩
theorem Rises.head0 {l:List Int}{z:Int}(h:Rises l z):l.getD 0 0=0:=by rw[List.getD,h.head];rfl
theorem Rises.len {l:List Int}{z:Int}(h:Rises l z):0<l.length:=by
 have:=h.head;cases l with
 | nil=>cases this
 | cons _ _=>exact Nat.succ_pos _
theorem Rises.cut_lt {l:List Int}{z x:Int}{k:Nat}(h:Rises l z)(hc:Cut l x k)(hx:x≤z):k<l.length:=by
 rcases Nat.lt_or_eq_of_le hc.1 with h1 | h1
 ·exact h1
 ·have h0:=h.len
  have h2:=hc.2.1 (l.length - 1) (by omega);rw[List.getD,h.last]at h2;simp only[Option.getD_some]at h2;omega
theorem Rises.cut_pos {l:List Int}{z x:Int}{k:Nat}(h:Rises l z)(hc:Cut l x k)(hx:0≤x)(hn:l.contains x=false):0<k:=by
 rcases Nat.eq_zero_or_pos k with h1 | h1
 ·subst h1
  have h2:=hc.2.2 0 (Nat.le_refl _) h.len;have h3:=h.head0;have:l.contains x=true:=(contains_iff h.sorted hc).2 ⟨h.len,by omega⟩;rw[hn]at this;cases this
 ·exact h1
theorem not_there {l:List Int}{x:Int}{k:Nat}(hn:l.contains x=false):∀i,k≤i→i<l.length→l.getD i 0≠x:=fun i _ h2 e=>by
 have:l.contains x=true:=by
  rw[List.contains_iff_mem,←e];simp[List.getD,h2]
 rw[hn]at this;cases this
theorem snap_down {l:List Int}{z x:Int}{k:Nat}(h:Rises l z)(hc:Cut l x k)(hx:0≤x):best l x l.length=snapL l x false k:=by
 unfold snapL;rw[Bool.or_false];cases hn:l.contains x
 ·rw[best_below hc (not_there hn),if_neg (by have:=h.cut_pos hc hx hn;omega)]
  rfl
 ·obtain⟨h1,h2⟩:=(contains_iff h.sorted hc).1 hn
  rw[best_found h.sorted h1 h2,if_pos rfl,h2]
theorem snap_up {l:List Int}{x:Int}{k:Nat}:snapL l x true k=l.getD k 0:=by
 unfold snapL;rw[Bool.or_true,if_pos rfl]
end Go.Proofs.YtnakejhohdbfdabGreatDoor.Bnd

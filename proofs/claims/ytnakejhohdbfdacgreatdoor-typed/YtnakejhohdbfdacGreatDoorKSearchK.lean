import Derived.Test.YtnakejhohdbfdacGreatDoorKMb
import Derived.Shelf.Unicode.DecodeAny
import Derived.Shelf.Slices.SearchI
import Derived.Test.YtnakejhohdbfdacGreatDoorProg
import Derived.Test.YtnakejhohdbfdacGreatDoorRows
import Derived.ProofKit
import Derived.Lib.LaidU8
import Derived.Lib.TrimU
import Derived.Lib.RuneCountTail
import Derived.Lib.QuoteLoop
import Derived.WalkKit
import Derived.WalkSpells
import Derived.WalkSmall
import Derived.Lib.OthersKept
import Derived.RegionTactic
import Derived.Deep.QuietTactic
import Derived.BigQuiet
import Derived.Test.YtnakejhohdbfdacGreatDoorKKin
import Derived.Lib.Builder
namespace Go.Proofs.YtnakejhohdbfdacGreatDoor.Cls
open Go.RowKit Tabs
set_option maxHeartbeats 400000 in
theorem closure32 (i:Nat)(hi:i<33)(r z:Int)(b:Nat)(w:World)(hr:w.cell? ⟨b,0,none⟩=some (.int .i32 r))(hz:w.cell? ⟨0,i * 3+1,none⟩=some (.int .i32 z)) :
 Calls Tryz.prog 74 (#[.int .i64 i]++#[.pointer (some ⟨b,0,none⟩)]) w fun e w'=>e=.returned (.bool (decide (r≤z)))∧∃q,w'=w.drewN q:=by
 have hi1:(i:Int)<33:=by omega
 go_enter Tryz.func74,Tryz.ntmps74;go_wp2;go_quiet (fail);go_wp2;go_ret;exact⟨rfl,_,rfl⟩
theorem enters32 (args:Array Value)(w:World):(callFunc 74 args).run Tryz.prog w=.ok (.enter 74 args) w:=by kernel_rfl
theorem found23 (r:Int)(b:Nat)(w:World)(ht:TabAt w 0 kindTab)(hr:w.cell? ⟨b,0,none⟩=some (.int .i32 r)) :
 Calls Tryz.prog 73 #[.int .i64 33,.func (.func 74) #[] #[.pointer (some ⟨b,0,none⟩)]] w fun e w'=>∃k:Nat,k≤33∧(∀t,t<k→decide (r≤til kindTab t)=false)∧(∀t,k≤t→t<33→decide (r≤til kindTab t)=true)∧e=.returned (.int .i64 k)∧∃q,w'=w.drewN q :=
 search_any 74 #[.pointer (some ⟨b,0,none⟩)] 33 (fun i=>decide (r≤til kindTab i)) w enters32 (by decide)
  (fun m i hi=>closure32 i hi r (til kindTab i) b (w.drewN m) (by simpa using hr) (by simpa using (ht i (by rw[len_kind];exact hi)).2.1))
  (fun x y hxy hy h=>til_mono kindTab (-1) rise_kind r x y hxy (by rw[len_kind];exact hy) h)
set_option maxHeartbeats 400000 in
theorem fn30_any (r:Int)(w:World)(h1:44032≤r)(h2:r≤55203) :
 Calls Tryz.prog 72 #[.int .i32 r] w fun e w'=>e=.returned (.int .i64 (kindOf r))∧w'=w:=by
 cases hs:sylB r
 ·rw[kind_no h1 h2 hs]
  have hq:=syl_no hs;clear hs;go_enter Tryz.func72,Tryz.ntmps72;go_wp2;go_ret;exact⟨rfl,rfl⟩
 ·rw[kind_yes h1 h2 hs]
  have hq:=syl_yes hs;clear hs;go_enter Tryz.func72,Tryz.ntmps72;go_wp2;go_ret;exact⟨rfl,rfl⟩
set_option maxHeartbeats 400000 in
theorem fn23_syl (r:Int)(w:World)(h1:44032≤r)(h2:r≤55203) :
 Calls Tryz.prog 37 #[.int .i32 r] w fun e w'=>e=.returned (.int .i64 (kindOf r))∧Below w.heap.size w w':=by
 have hc:=fun w=>fn30_any r w h1 h2
 generalize kindOf r=v at hc ⊢;go_enter Tryz.func37,Tryz.ntmps37;go_wp2_with (go_at_call 72;refine(hc _).mono ?_;rintro e w' ⟨rfl,rfl⟩);go_ret;exact⟨rfl,(Below.refl _ _).alloc (Nat.le_refl _) _⟩
set_option maxHeartbeats 1000000 in
theorem fn23_tab (r:Int)(w:World)(ht:TabAt w 0 kindTab)(hns:¬(44032≤r∧r≤55203)) :
 Calls Tryz.prog 37 #[.int .i32 r] w fun e w'=>e=.returned (.int .i64 (Tabs.look kindTab r))∧Below w.heap.size w w':=by
 have hg:=ht.lt (by rw[len_kind];decide);have hb1:Below w.heap.size w (w.alloc (.cells #[.int .i32 r] 21)):=(Below.refl _ _).alloc (Nat.le_refl _) _;have hs:=found23 r w.heap.size (w.alloc (.cells #[.int .i32 r] 21)) (ht.below hg hb1) (by simp);have HT:Hid (TabAt w 0 kindTab):=ht;clear ht;generalize hv:Tabs.look kindTab r=v;have HV:Hid (Tabs.look kindTab r=v):=hv;clear hv;by_cases hs1:44032≤r
 all_goals
  first
  | (have hs2:¬r≤55203:=fun h=>hns ⟨hs1,h⟩)
  | (have hs1':decide (44032≤r)=false:=by simpa using hs1)
  clear hns;go_enter Tryz.func37,Tryz.ntmps37;go_wp2_with (go_at_call 73;refine hs.mono ?_;rintro e w' ⟨k,hk,hlo,hhi,rfl,q,rfl⟩);have LO:Hid _:=hlo;clear hs hlo;by_cases hkn:k<33
  ·obtain⟨c0,c1,c2⟩:=(HT.out.below hg hb1) k (by rw[len_kind];exact hkn)
   clear c1;have hr2:=hhi k (Nat.le_refl _) hkn;clear hhi hb1;have hkn1:(k:Int)<33:=by omega
   have hd:decide ((k:Int)<33)=true:=by simpa using hkn1
   by_cases hfr:frm kindTab k≤r
   ·have E:wht kindTab k=v:=(look_yes kindTab (-1) rise_kind r k (by rw[len_kind];exact hkn) hfr hr2).symm.trans HV.out
    rw[E]at c2;clear E;generalize frm kindTab k=z at c0 hfr;clear hr2;go_quiet (fail);go_wp2;go_ret;exact⟨rfl,((Below.refl _ _).alloc (Nat.le_refl _) _).trans (below_drewN _ _ _)⟩
   ·have E:(0:Int)=v:=(look_no kindTab (-1) rise_kind r k LO.out (fun _=>by omega)).symm.trans HV.out
    have hfr2:decide (frm kindTab k≤r)=false:=by simpa using hfr
    subst E;generalize frm kindTab k=z at c0 hfr hfr2;clear hr2;go_quiet (fail);go_wp2;go_ret;exact⟨rfl,((Below.refl _ _).alloc (Nat.le_refl _) _).trans (below_drewN _ _ _)⟩
  ·have E:(0:Int)=v:=(look_no kindTab (-1) rise_kind r k LO.out (fun h=>by rw[len_kind]at h;omega)).symm.trans HV.out
   subst E;have hkn1:¬(k:Int)<33:=by omega
   have hd:decide ((k:Int)<33)=false:=by simpa using hkn1
   clear hhi hb1;go_quiet (fail);go_wp2;go_ret;exact⟨rfl,((Below.refl _ _).alloc (Nat.le_refl _) _).trans (below_drewN _ _ _)⟩
theorem fn23_any (r:Int)(w:World)(ht:TabAt w 0 kindTab) :
 Calls Tryz.prog 37 #[.int .i32 r] w fun e w'=>e=.returned (.int .i64 (kindOf r))∧Below w.heap.size w w':=by
 by_cases h:44032≤r∧r≤55203
 ·exact fn23_syl r w h.1 h.2
 ·rw[kind_tab h];exact fn23_tab r w ht h
end Go.Proofs.YtnakejhohdbfdacGreatDoor.Cls
namespace Go.Proofs
open Go.Shelf
def Tryz.lays260_ren:Go.Shelf.Ren:=⟨fun | 260=>149 | n=>n,fun | 9=>9 | 21=>21 | 3=>3 | 4=>4 | 5=>5 | 119=>316 | 0=>0 | 46=>224 | 139=>319 | 138=>318 | n=>n,fun | 3=>8 | 4=>9 | n=>n⟩
def Tryz.lays197_ren:Go.Shelf.Ren:=⟨fun | 197=>116 | 260=>149 | n=>n,fun | 9=>9 | 21=>21 | 3=>3 | 4=>4 | 5=>5 | 105=>222 | 119=>316 | 0=>0 | 46=>224 | 139=>319 | 138=>318 | n=>n,fun | 3=>8 | 4=>9 | n=>n⟩
theorem Tryz.lays197:Go.Proofs.Lays.n197 Tryz.prog Tryz.lays197_ren:={
 mixed:=by kernel_rfl
 f197:=Tryz.func116.trans (congrArg some (by kernel_rfl))
 f260:=Tryz.func149.trans (congrArg some (by kernel_rfl))
 t0:=Tryz.underlying0
 a0:=Tryz.isAgg0
 z0:=Tryz.sizeOf0
 v0:=Tryz.zeroValue0
 t3:=Tryz.underlying3
 a3:=Tryz.isAgg3
 z3:=Tryz.sizeOf3
 v3:=Tryz.zeroValue3
 t4:=Tryz.underlying4
 a4:=Tryz.isAgg4
 z4:=Tryz.sizeOf4
 v4:=Tryz.zeroValue4
 t5:=Tryz.underlying5
 a5:=Tryz.isAgg5
 z5:=Tryz.sizeOf5
 v5:=Tryz.zeroValue5
 t9:=Tryz.underlying9
 a9:=Tryz.isAgg9
 z9:=Tryz.sizeOf9
 v9:=Tryz.zeroValue9
 t21:=Tryz.underlying21
 a21:=Tryz.isAgg21
 z21:=Tryz.sizeOf21
 v21:=Tryz.zeroValue21
 t46:=Tryz.underlying224
 a46:=Tryz.isAgg224
 z46:=Tryz.sizeOf224
 v46:=Tryz.zeroValue224
 t105:=Tryz.underlying222
 a105:=Tryz.isAgg222
 z105:=Tryz.sizeOf222
 v105:=Tryz.zeroValue222
 t119:=Tryz.underlying316
 a119:=Tryz.isAgg316
 z119:=Tryz.sizeOf316
 t138:=Tryz.underlying318
 a138:=Tryz.isAgg318
 z138:=Tryz.sizeOf318
 v138:=Tryz.zeroValue318
 t139:=Tryz.underlying319
 a139:=Tryz.isAgg319
 z139:=Tryz.sizeOf319
 v139:=Tryz.zeroValue319
 g3:=by kernel_rfl
 g4:=by kernel_rfl }
open Go.RowKit in
theorem Tryz.decode20 (s:ByteArray)(w:World)(hT:Lib.Utf8Tabs 8 9 w):Calls Tryz.prog 116 #[.string s] w fun e w'=>e=.returned (.tuple #[.int .i32 (Lib.decodeGo s).1,.int .i64 (Lib.decodeGo s).2])∧Below w.heap.size w w' :=
 Any.utf8_DecodeRuneInString Tryz.lays197 s w hT
end Go.Proofs
namespace Go.Proofs.YtnakejhohdbfdacGreatDoor.Cls
open Go.Lib
theorem extra:U8Extra Tryz.prog Tryz.lays260_ren:=⟨by kernel_rfl,by kernel_rfl,by kernel_rfl,by kernel_rfl,by kernel_rfl,by kernel_rfl,by kernel_rfl⟩
theorem dataFirst:(Rows.laid_unicode_utf8_first:DataW Unit)=firstData:=by kernel_rfl
theorem dataAccept:(Rows.laid_unicode_utf8_acceptRanges:DataW Unit)=acceptData:=by kernel_rfl
def utfFirst:Array Value:=((List.range 256).map fun c=>Value.int .u8 (firstT c)).toArray
def utfAccept:Array Value:=((List.range 16).flatMap fun i=>[Value.int .u8 (accLo i),Value.int .u8 (accHi i)]).toArray
end Go.Proofs.YtnakejhohdbfdacGreatDoor.Cls
namespace Go.Proofs.YtnakejhohdbfdacGreatDoor.Dec
open Go
def pos (s:ByteArray):Nat→Nat
 | 0=>0
 | k+1=>pos s k+(Utf8.decode s (pos s k)).2
def rune (s:ByteArray)(k:Nat):Int:=((Utf8.decode s (pos s k)).1:Nat)
def row (s:ByteArray)(k:Nat):Int × Int × Int:=(rune s k,(pos s k:Nat),(pos s (k+1):Nat))
def lst (s:ByteArray):Nat→List (Int × Int × Int)
 | 0=>[]
 | k+1=>lst s k++[row s k]
def lstL (s:ByteArray):Nat→List (Int × Int × Int)
 | 0=>[]
 | k+1=>lst s k++[((rune s k,(pos s k:Nat),(s.size:Nat)):Int × Int × Int)]
def Ends (s:ByteArray)(n:Nat):Prop:=pos s n=s.size∧∀j,j<n→pos s j<s.size
theorem width_pos (s:ByteArray)(p:Nat):1≤(Utf8.decode s p).2:=Lib.width_pos s p
theorem width_le (s:ByteArray)(p:Nat)(h:p<s.size):p+(Utf8.decode s p).2≤s.size:=by
 have:(Utf8.decode s p).2≤s.size - p:=by rw[Lib.decode_at];exact Lib.decodeN_width_le _ _ _ _ _ (by omega)
 omega
theorem pos_lt_succ (s:ByteArray)(k:Nat):pos s k<pos s (k+1):=by
 have:=width_pos s (pos s k);show pos s k<pos s k+_;omega
theorem pos_mono (s:ByteArray):∀(a b:Nat),a<b→pos s a<pos s b
 | a,0,h=>by omega
 | a,b+1,h=>by
   have:=pos_lt_succ s b
   rcases Nat.lt_or_eq_of_le (Nat.le_of_lt_succ h)with h1 | h1
   ·have:=pos_mono s a b h1;omega
   ·subst h1;exact this
theorem le_pos (s:ByteArray):∀k,k≤pos s k
 | 0=>Nat.zero_le _
 | k+1=>by have:=le_pos s k;have:=pos_lt_succ s k;omega
theorem ends_unique {s:ByteArray}{n m:Nat}(h:Ends s n)(k:Ends s m):n=m:=by
 rcases Nat.lt_trichotomy n m with h1 | h1 | h1
 ·have:=k.2 n h1;have:=h.1;omega
 ·exact h1
 ·have:=h.2 m h1;have:=k.1;omega
theorem lst_length (s:ByteArray):∀k,(lst s k).length=k
 | 0=>rfl
 | k+1=>by simp[lst,lst_length s k]
theorem lst_at (s:ByteArray):∀(n k:Nat),k<n→(lst s n)[k]?=some (row s k)
 | 0,k,h=>by omega
 | n+1,k,h=>by
   rw[lst]
   rcases Nat.lt_or_eq_of_le (Nat.le_of_lt_succ h)with h1 | h1
   ·rw[List.getElem?_append_left (by rw[lst_length];exact h1)];exact lst_at s n k h1
   ·subst h1;rw[List.getElem?_append_right (by rw[lst_length];exact Nat.le_refl _),lst_length];simp
theorem lstL_last (s:ByteArray)(k:Nat):(lstL s (k+1))[k]?=some (rune s k,((pos s k:Nat):Int),((s.size:Nat):Int)):=by
 rw[lstL,List.getElem?_append_right (by rw[lst_length];exact Nat.le_refl _),lst_length];simp
theorem lstL_end {s:ByteArray}{n:Nat}(h:Ends s n):lstL s n=lst s n:=by
 cases n with
 | zero=>rfl
 | succ n=>rw[lst,lstL,row,h.1]
def cells:List (Int × Int × Int)→List Value
 | []=>[]
 | x :: l=>.int .i32 x.1 :: .int .i64 x.2.1 :: .int .i64 x.2.2 :: cells l
theorem cells_length:∀l:List (Int × Int × Int),(cells l).length=l.length * 3
 | []=>rfl
 | x :: l=>by have:=cells_length l;simp only[cells,List.length_cons,this];omega
theorem cells_append:∀l m:List (Int × Int × Int),cells l++cells m=cells (l++m)
 | [],_=>rfl
 | x :: l,m=>by simp only[cells,List.cons_append,cells_append l m]
theorem cells_at:∀(l:List (Int × Int × Int)) (i:Nat) (x:Int × Int × Int),l[i]?=some x →
 (cells l)[i * 3]?=some (.int .i32 x.1)∧(cells l)[i * 3+1]?=some (.int .i64 x.2.1)∧(cells l)[i * 3+2]?=some (.int .i64 x.2.2)
 | [],i,x,h=>by simp at h
 | y :: l,0,x,h=>by
   simp at h;subst h;exact⟨rfl,rfl,rfl⟩
 | y :: l,i+1,x,h=>by
   have ih:=cells_at l i x (by simpa using h);rw[show(i+1) * 3=i * 3+1+1+1 by omega];exact ih
theorem cells_snocL (s:ByteArray)(k:Nat):cells (lst s k)++[.int .i32 (rune s k),.int .i64 (pos s k:Nat),.int .i64 (s.size:Nat)]=cells (lstL s (k+1)):=by
 rw[lstL,←cells_append];rfl
theorem cells_set (s:ByteArray)(k:Nat):(cells (lstL s (k+1))).set (k * 3+2) (.int .i64 (pos s (k+1):Nat))=cells (lst s (k+1)):=by
 rw[lst,lstL,←cells_append,←cells_append,List.set_append_right _ _ (by rw[cells_length,lst_length];omega),cells_length,lst_length];have:k * 3+2 - k * 3=2:=by omega
 rw[this];rfl
theorem owns_below {w w':World}{base:Nat}{e:TypeId}{size:Nat}{v:Value}{n:Nat}{xs:List Value}(h:w.ownsRow base e size v n xs)(hb:RowKit.Below w.heap.size w w'):w'.ownsRow base e size v n xs:=by
 refine⟨h.1,?_⟩
 rcases h.2 with h1 | ⟨g,cap,cur,hv,hg,hh,r⟩
 ·exact .inl h1
 ·refine .inr ⟨g,cap,cur,hv,hg,?_,r⟩
  rw[hb.block g (Array.getElem?_eq_some_iff.1 hh).1];exact hh
theorem owns_low {w:World}{base base':Nat}{e:TypeId}{size:Nat}{v:Value}{n:Nat}{xs:List Value}(h:w.ownsRow base e size v n xs)(hb:base'≤base):w.ownsRow base' e size v n xs:=by
 refine⟨h.1,?_⟩
 rcases h.2 with h1 | ⟨g,cap,cur,hv,hg,r⟩
 ·exact .inl h1
 ·exact .inr ⟨g,cap,cur,hv,by omega,r⟩
theorem owns_shape {w:World}{base:Nat}{e:TypeId}{size:Nat}{v:Value}{n:Nat}{xs:List Value}(h:w.ownsRow base e size v (n+1) xs):∃g cap,v=.slice (some ⟨g,0,none⟩) (n+1) cap:=by
 rcases h.2 with⟨_,h1⟩ | ⟨g,cap,cur,hv,_⟩
 ·omega
 ·exact⟨g,cap,hv⟩
theorem owns_at {w:World}{base:Nat}{e:TypeId}{size:Nat}{n g cap:Nat}{xs:List Value}(h:w.ownsRow base e size (.slice (some ⟨g,0,none⟩) n cap) n xs):base≤g∧g<w.heap.size:=h.lt g rfl
end Go.Proofs.YtnakejhohdbfdacGreatDoor.Dec
namespace Go.Proofs.YtnakejhohdbfdacGreatDoor.Cls
open Go.RowKit Dec
theorem hid {p:Prop}(h:p):Hid p:=h
theorem tabs_below {g3 g4:Nat}{w w':World}(h:Lib.Utf8Tabs g3 g4 w)(hb:Below w.heap.size w w'):Lib.Utf8Tabs g3 g4 w':=by
 refine⟨fun c hc=>?_,fun i hi=>?_⟩
 ·have h1:=h.1 c hc
  exact(hb.cell (p:=⟨g3,c,none⟩) (World.block_lt_of_cell? _ _ h1)).trans h1
 ·have h1:=h.2 i hi
  exact⟨(hb.cell (p:=⟨g4,2 * i,none⟩) (World.block_lt_of_cell? _ _ h1.1)).trans h1.1,(hb.cell (p:=⟨g4,2 * i+1,none⟩) (World.block_lt_of_cell? _ _ h1.2)).trans h1.2⟩
theorem info75:(Tryz.prog.info? 48).map (fun i=>(i.zero,i.size,i.bytes))=some (some (.agg #[.int .i32 0,.int .i64 0,.int .i64 0]),3,24):=by kernel_rfl
theorem new3_cells (w:World)(a b c:Value)(t:TypeId):∀j u,[a,b,c][j]?=some u→(w.alloc (.cells #[a,b,c] t)).cell? ((⟨w.heap.size,0,none⟩:Addr).add j)=some u:=by
 intro j u hj;rw[Addr.add_lit,Nat.zero_add,World.cell?_alloc_at _ _ _ _ rfl];simpa using hj
theorem new3_one (r a b:Int):∀u∈[Value.int .i32 r,.int .i64 a,.int .i64 b],u.oneCell'=true:=by
 intro u hu;simp only[List.mem_cons,List.not_mem_nil,or_false]at hu
 rcases hu with rfl | rfl | rfl <;> rfl
theorem new3_cells_at (w:World)(n:Nat)(h:w.heap.size=n)(a b c:Value)(t:TypeId):∀j u,[a,b,c][j]?=some u→(w.alloc (.cells #[a,b,c] t)).cell? ((⟨n,0,none⟩:Addr).add j)=some u:=by
 subst h;exact new3_cells w a b c t
theorem iter_setCell {w:World}{it g j:Nat}{s:ByteArray}{p:Nat}{v:Value}(h:w.heap[it]?=some (.stringIter s p))(hne:g≠it):(w.setCell ⟨g,j,none⟩ v).heap[it]?=some (.stringIter s p):=by
 rw[Below.heap_setCell _ _ _ _ (fun e=>hne e.symm)];exact h
end Go.Proofs.YtnakejhohdbfdacGreatDoor.Cls
namespace Go.Proofs.YtnakejhohdbfdacGreatDoor.Bnd
open Go Dec Kin
def kf (s:ByteArray)(k:Nat):Int:=Tabs.kindOf (rune s k)
def jn (s:ByteArray):Nat→Bool
 | 0=>true
 | m+1=>joinB (kf s m) (pref (kf s) m) (kf s (m+1))
def bndTo (s:ByteArray):Nat→List Int
 | 0=>[0]
 | k+1=>if jn s k then bndTo s k else bndTo s k++[((pos s k:Nat):Int)]
def bnd (s:ByteArray)(n:Nat):List Int:=if 0<s.size then bndTo s n++[((s.size:Nat):Int)]else bndTo s n
def kl (s:ByteArray):Nat→List Int
 | 0=>[]
 | k+1=>kl s k++[kf s k]
theorem bndTo_yes {s:ByteArray}{k:Nat}(h:jn s k=true):bndTo s (k+1)=bndTo s k:=by rw[bndTo,if_pos h]
theorem bndTo_no {s:ByteArray}{k:Nat}(h:jn s k=false):bndTo s (k+1)=bndTo s k++[((pos s k:Nat):Int)]:=by rw[bndTo,if_neg (by rw[h];exact Bool.false_ne_true)]
theorem parts_jn (s:ByteArray)(m:Nat):partsB (lastOf (pref (kf s) (m+1))) (pictOf (pref (kf s) (m+1))) (oddOf (pref (kf s) (m+1))) (kf s (m+1))=!jn s (m+1) :=
 parts_joined (kf s m) (pref (kf s) m) (kf s (m+1))
theorem bndTo_len (s:ByteArray):∀k,1≤(bndTo s k).length∧(bndTo s k).length≤k+1
 | 0=>⟨Nat.le_refl _,Nat.le_refl _⟩
 | k+1=>by
   have ih:=bndTo_len s k;cases h:jn s k
   ·rw[bndTo_no h,List.length_append,List.length_singleton];omega
   ·rw[bndTo_yes h];omega
theorem bnd_len (s:ByteArray)(n:Nat):1≤(bnd s n).length∧(bnd s n).length≤n+2:=by
 have h:=bndTo_len s n;unfold bnd;split
 ·rw[List.length_append,List.length_singleton];omega
 ·omega
theorem bndTo_head (s:ByteArray):∀k,(bndTo s k)[0]?=some 0
 | 0=>rfl
 | k+1=>by
   have ih:=bndTo_head s k;have hl:=(bndTo_len s k).1;cases h:jn s k
   ·rw[bndTo_no h,List.getElem?_append_left (by omega)];exact ih
   ·rw[bndTo_yes h];exact ih
theorem bnd_head (s:ByteArray)(n:Nat):(bnd s n)[0]?=some 0:=by
 have hl:=(bndTo_len s n).1;unfold bnd;split
 ·rw[List.getElem?_append_left (by omega)];exact bndTo_head s n
 ·exact bndTo_head s n
theorem bndTo_lt (s:ByteArray):∀k,∀x∈bndTo s (k+1),x<((pos s (k+1):Nat):Int)
 | 0,x,hx=>by
   rw[bndTo_yes (k:=0) rfl]at hx;simp only[bndTo,List.mem_singleton]at hx;have:=pos_lt_succ s 0;rw[hx];omega
 | k+1,x,hx=>by
   have h1:=pos_lt_succ s (k+1);cases h:jn s (k+1)
   ·rw[bndTo_no h,List.mem_append,List.mem_singleton]at hx
    rcases hx with hx | hx
    ·have:=bndTo_lt s k x hx;omega
    ·rw[hx];omega
   ·rw[bndTo_yes h]at hx
    have:=bndTo_lt s k x hx;omega
theorem bndTo_sorted (s:ByteArray):∀k,(bndTo s k).Pairwise (· < ·)
 | 0=>by simp[bndTo]
 | k+1=>by
   have ih:=bndTo_sorted s k;cases h:jn s k
   ·rw[bndTo_no h,List.pairwise_append]
    refine⟨ih,by simp,fun a ha b hb=>?_⟩;rw[List.mem_singleton]at hb;subst hb;cases k with
    | zero=>cases h
    | succ m=>exact bndTo_lt s m a ha
   ·rw[bndTo_yes h];exact ih
theorem bnd_sorted {s:ByteArray}{n:Nat}(h:Dec.Ends s n):(bnd s n).Pairwise (· < ·):=by
 unfold bnd;split
 ·rename_i hs
  rw[List.pairwise_append];refine⟨bndTo_sorted s n,by simp,fun a ha b hb=>?_⟩;rw[List.mem_singleton]at hb;subst hb;cases n with
  | zero=>have h1:=h.1;simp only[pos]at h1;omega
  | succ m=>have:=bndTo_lt s m a ha;rw[h.1]at this;exact this
 ·exact bndTo_sorted s n
theorem bnd_last {s:ByteArray}{n:Nat}(h:Dec.Ends s n):(bnd s n)[(bnd s n).length - 1]?=some ((s.size:Nat):Int):=by
 unfold bnd;split
 ·rw[List.length_append,List.length_singleton,Nat.add_sub_cancel,List.getElem?_append_right (Nat.le_refl _)];simp
 ·rename_i hs
  have hn:n=0:=by
   cases n with
   | zero=>rfl
   | succ m=>have:=h.2 0 (Nat.succ_pos _);omega
  subst hn;have:s.size=0:=by omega
  rw[this];rfl
def Cut (l:List Int)(x:Int)(k:Nat):Prop:=k≤l.length∧(∀i,i<k→l.getD i 0<x)∧(∀i,k≤i→i<l.length→x≤l.getD i 0)
theorem cut_cons {y:Int}{l:List Int}{x:Int}{k:Nat}(h:Cut l x k)(hy:y<x):Cut (y :: l) x (k+1):=by
 refine⟨by have:=h.1;simp;omega,fun i hi=>?_,fun i h1 h2=>?_⟩
 ·cases i with
  | zero=>exact hy
  | succ i=>exact h.2.1 i (by omega)
 ·cases i with
  | zero=>omega
  | succ i=>exact h.2.2 i (by omega) (by simpa using h2)
theorem cut_exists (x:Int):∀l:List Int,l.Pairwise (· < ·)→∃k,Cut l x k
 | [],_=>⟨0,Nat.le_refl _,fun i h=>by omega,fun i _ h=>by simp at h⟩
 | y :: l,h=>by
   rw[List.pairwise_cons]at h;by_cases hy:y<x
   ·obtain⟨k,hk⟩:=cut_exists x l h.2
    exact⟨k+1,cut_cons hk hy⟩
   ·refine⟨0,Nat.zero_le _,fun i hi=>by omega,fun i _ h2=>?_⟩
    cases i with
    | zero=>show x≤y;omega
    | succ i =>
      have hi:i<l.length:=by simpa using h2
      have:l.getD i 0∈l:=by simp[List.getD,hi]
      have:=h.1 _ this;show x≤l.getD i 0;omega
theorem cut_count:∀ {l:List Int} {x:Int} {k:Nat},Cut l x k→l.countP (fun y=>decide (y<x))=k
 | [],x,k,h=>by have:=h.1;simp at this;simp[this]
 | y :: l,x,k,h=>by
   cases k with
   | zero =>
     rw[List.countP_eq_zero];intro z hz;obtain⟨i,hi,rfl⟩:=List.getElem_of_mem hz;have:=h.2.2 i (Nat.zero_le _) hi;rw[List.getD,List.getElem?_eq_getElem hi]at this;simp only[Option.getD_some]at this;simp;omega
   | succ k =>
     have hy:y<x:=h.2.1 0 (Nat.succ_pos _);have hc:Cut l x k:=⟨by have:=h.1;simp at this;omega,fun i hi=>h.2.1 (i+1) (by omega),fun i h1 h2=>h.2.2 (i+1) (by omega) (by simpa using h2)⟩;rw[List.countP_cons,cut_count hc];simp[hy]
theorem sorted_lt {l:List Int}(h:l.Pairwise (· < ·)){i j:Nat}(hij:i<j)(hj:j<l.length):l.getD i 0<l.getD j 0:=by
 rw[List.pairwise_iff_getElem]at h;have:=h i j (by omega) hj hij;simpa[List.getD,hj,show i<l.length by omega] using this
theorem contains_iff {l:List Int}(hs:l.Pairwise (· < ·)){x:Int}{k:Nat}(h:Cut l x k):l.contains x=true ↔ k<l.length∧l.getD k 0=x:=by
 rw[List.contains_iff_mem];constructor
 ·intro hm
  obtain⟨i,hi,e⟩:=List.getElem_of_mem hm;have e2:l.getD i 0=x:=by simp[List.getD,hi,e]
  rcases Nat.lt_trichotomy i k with h1 | h1 | h1
  ·have:=h.2.1 i h1;omega
  ·subst h1;exact⟨hi,e2⟩
  ·have:=sorted_lt hs h1 hi
   have:=h.2.2 k (Nat.le_refl _) (by omega);omega
 ·rintro ⟨h1,h2⟩
  rw[←h2];simp[List.getD,h1]
def snapL (l:List Int)(x:Int)(up:Bool)(k:Nat):Int:=if l.contains x || up then l.getD k 0 else l.getD (k - 1) 0
structure Rises (l:List Int)(z:Int):Prop where
 sorted:l.Pairwise (· < ·)
 head:l[0]?=some 0
 last:l[l.length - 1]?=some z
theorem rises_bnd {s:ByteArray}{n:Nat}(h:Dec.Ends s n):Rises (bnd s n) ((s.size:Nat):Int):=⟨bnd_sorted h,bnd_head s n,bnd_last h⟩
theorem Rises.head0 {l:List Int}{z:Int}(h:Rises l z):l.getD 0 0=0:=by rw[List.getD,h.head];rfl
theorem Rises.len {l:List Int}{z:Int}(h:Rises l z):0<l.length:=by
 have:=h.head;cases l with
 | nil=>cases this
 | cons _ _=>exact Nat.succ_pos _
theorem Rises.cut_lt {l:List Int}{z x:Int}{k:Nat}(h:Rises l z)(hc:Cut l x k)(hx:x≤z):k<l.length:=by
 rcases Nat.lt_or_eq_of_le hc.1 with h1 | h1
 ·exact h1
 ·have h0:=h.len
  have h2:=hc.2.1 (l.length - 1) (by omega);rw[List.getD,h.last]at h2;simp only[Option.getD_some]at h2;omega
theorem Rises.cut_pos {l:List Int}{z x:Int}{k:Nat}(h:Rises l z)(hc:Cut l x k)(hx:0≤x)(hn:l.contains x=false):0<k:=by
 rcases Nat.eq_zero_or_pos k with h1 | h1
 ·subst h1
  have h2:=hc.2.2 0 (Nat.le_refl _) h.len;have h3:=h.head0;have:l.contains x=true:=(contains_iff h.sorted hc).2 ⟨h.len,by omega⟩;rw[hn]at this;cases this
 ·exact h1
theorem snap_up {l:List Int}{x:Int}{k:Nat}:snapL l x true k=l.getD k 0:=by
 unfold snapL;rw[Bool.or_true,if_pos rfl]
end Go.Proofs.YtnakejhohdbfdacGreatDoor.Bnd
namespace Go.Proofs.YtnakejhohdbfdacGreatDoor.Cls
open Go.RowKit Dec Kin Bnd
abbrev ints64 (l:List Int):List Value:=l.map (Value.int .i64)
theorem info3:(Tryz.prog.info? 3).map (fun i=>(i.zero,i.size,i.bytes))=some (some (.int .i64 0),1,8):=by kernel_rfl
theorem one_cell (x:Int):∀u∈[Value.int .i64 x],u.oneCell'=true:=by
 intro u hu;rw[List.mem_singleton]at hu;subst hu;rfl
theorem own_ne {w:World}{base:Nat}{e:TypeId}{size:Nat}{v:Value}{n:Nat}{xs:List Value}(h:w.ownsRow base e size v n xs){k:Nat}{o:Obj}(hk:w.heap[k]?=some o)(ho:∀c f,o≠.cells c e f):some k≠v.ownBlock:=by
 intro e1
 rcases h.2 with⟨h1,_⟩ | ⟨g,cap,cur,h1,_,hg,_⟩
 ·rw[h1]at e1;cases e1
 ·rw[h1]at e1
  simp only[Value.ownBlock,Option.some.injEq]at e1;subst e1;rw[hk]at hg;exact ho _ _ (Option.some.inj hg)
theorem own_iter {w:World}{base:Nat}{e:TypeId}{size:Nat}{v:Value}{n:Nat}{xs:List Value}(h:w.ownsRow base e size v n xs){k:Nat}{s:ByteArray}{p:Nat}(hk:w.heap[k]?=some (.stringIter s p))(q:Nat):(w.iterAt k s q).ownsRow base e size v n xs:=by
 refine⟨h.1,?_⟩
 rcases h.2 with h1 | ⟨g,cap,cur,hv,hg,hh,r⟩
 ·exact .inl h1
 ·refine .inr ⟨g,cap,cur,hv,hg,?_,r⟩
  rw[Lib.iterAt_other w k g s q (fun e=>by rw[e,hk]at hh;cases hh)];exact hh
theorem own_kept {w w':World}{base:Nat}{e:TypeId}{size:Nat}{v:Value}{n:Nat}{xs:List Value}(h:w.ownsRow base e size v n xs){k:Nat}(hg:w.grownBy w' (some k))(hk:some k≠v.ownBlock):w'.ownsRow base e size v n xs :=
 h.kept hg (.inr (fun e=>hk e.symm))
theorem start_iter (w:World)(o1 o2:Obj)(s:ByteArray):(((w.alloc o1).alloc o2).iter s 0).heap[w.heap.size+1+1]?=some (.stringIter s 0):=by
 have e:((w.alloc o1).alloc o2).heap.size=w.heap.size+1+1:=by simp
 rw[←e];exact World.iter_heap _ _ _
theorem start_ahead (w:World)(o1 o2:Obj)(s:ByteArray):(((w.alloc o1).alloc o2).iter s 0).heap[w.heap.size+1]?=some o2:=by
 have e:(w.alloc o1).heap.size=w.heap.size+1:=by simp
 refine(Lib.alloc_old _ _ _ (by simp)).trans ?_;rw[←e];exact heap_alloc_new _ _
theorem start_own (w:World)(o2:Obj)(s:ByteArray):(((w.alloc (.cells #[.int .i64 0] 3)).alloc o2).iter s 0).ownsRow w.heap.size 3 1 (.slice (some ⟨w.heap.size,0,none⟩) 1 1) 1 [.int .i64 0] :=
 ((World.ownsRow_lit (base:=w.heap.size) (e:=3) (size:=1) w #[.int .i64 0] 1 (Nat.le_refl _) (by decide) rfl).alloc o2).alloc _
theorem start_below (w:World)(o1 o2:Obj)(s:ByteArray):Below w.heap.size w (((w.alloc o1).alloc o2).iter s 0) :=
 (((Below.refl _ _).alloc (Nat.le_refl _) o1).alloc (by simp) o2).alloc (by simp;omega) _
theorem ints_snoc (l:List Int)(x:Int):ints64 l++[.int .i64 x]=ints64 (l++[x]):=by simp[ints64]
theorem len_snoc (l:List Int)(x:Int):(l++[x]).length=l.length+1:=by simp
set_option maxRecDepth 10000 in
set_option maxHeartbeats 4000000 in
theorem fn25_any (s:ByteArray)(w:World)(hs:s.size≤1000000)(ht:TabAt w 0 Tabs.kindTab) :
 Calls Tryz.prog 20 #[.string s] w fun e w'=>∃n v,Dec.Ends s n∧e=.returned v∧w'.ownsRow w.heap.size 3 1 v (bnd s n).length (ints64 (bnd s n))∧Below w.heap.size w w':=by
 obtain⟨i0,hi,hz0,hz1,hz2⟩:=info_parts info3;have HT:=hide ht;have h0:=ht.lt (by rw[Tabs.len_kind];decide);clear ht;go_enter Tryz.func20,Tryz.ntmps20;go_wp2_with fail
 go_loopw [3] (fun v wr=>∃k p:Nat,p≤s.size∧k≤p∧wr.heap[w.heap.size+1+1]?=some (.stringIter s p)∧Hid (p=pos s k)∧Hid (∀j,j<k→pos s j<s.size) ∧
  Hid (wr.heap[w.heap.size+1]?=some (.cells #[.int .i64 (lastOf (pref (kf s) k)),.int .i64 (pictOf (pref (kf s) k)),.bool (oddOf (pref (kf s) k))] 107 (0,0))) ∧
  Hid (wr.ownsRow w.heap.size 3 1 v (bndTo s k).length (ints64 (bndTo s k)))∧Hid (Below w.heap.size w wr)) (fun _ wr=>s.size - wr.iterPos (w.heap.size+1+1))
 case atStart=>exact⟨0,0,Nat.zero_le _,Nat.le_refl _,start_iter _ _ _ _,hide rfl,hide (fun j hj=>absurd hj (Nat.not_lt_zero _)),hide (start_ahead _ _ _ _),hide (start_own _ _ _),hide (start_below _ _ _ _)⟩
 case round =>
  obtain⟨k,p,hp,hkp,hit,HP,HJ,HA,HO,HB⟩:=hrel;have hlen:=bndTo_len s k;by_cases hlt:p<s.size
  ·have hw1:=width_pos s p
   have hw2:=width_le s p hlt;have hnx:=fun ty=>Lib.run_next_any_at (P:=Tryz.prog) wr (w.heap.size+1+1) s p ty hit hlt
   have HQ:Hid (p+(Utf8.decode s p).2=pos s (k+1)):=by rw[HP.out];rfl
   have HK:Hid (Tabs.kindOf ((Utf8.decode s p).1:Nat)=kf s k):=by rw[HP.out];rfl
   generalize (Utf8.decode s p).1=r at hnx HK;generalize (Utf8.decode s p).2=n at hnx HQ hw1 hw2;have hJ2:Hid (∀j,j<k+1→pos s j<s.size):=by
    intro j hj
    rcases Nat.lt_or_eq_of_le (Nat.le_of_lt_succ hj)with h1 | h1
    ·exact HJ.out j h1
    ·rw[h1,←HP.out];exact hlt
   have HI:=hide (Lib.iterAt_heap wr (w.heap.size+1+1) s p (p+n) hit);have HBI:=hide (Lib.below_iterAt HB.out (show w.heap.size≤w.heap.size+1+1 by omega) s (p+n));have HAI:=hide ((Lib.iterAt_other wr (w.heap.size+1+1) (w.heap.size+1) s (p+n) (by omega)).trans HA.out);have HOI:Hid ((wr.iterAt (w.heap.size+1+1) s (p+n)).ownsRow w.heap.size 3 1 u3 (bndTo s k).length (ints64 (bndTo s k))):=own_iter HO.out hit _;have HIT:=hide hit;generalize wr.iterAt (w.heap.size+1+1) s (p+n)=wi at hnx HI HBI HAI HOI;have HC:=hide (fn23_any r wi (HT.out.below h0 HBI.out));have HK2:=hide HK.out.symm;rw[HK.out]at HC;generalize hkd:kf s k=kd at HC;have HKD:=hide hkd;clear hkd hit HK HK2 HO HA;go_wp2_with fail;refine HC.out.mono ?_;rintro e w1 ⟨rfl,hb1⟩;have HI1:Hid (w1.heap[w.heap.size+1+1]?=some (.stringIter s (p+n))):=by
    rw[hb1.block _ (Array.getElem?_eq_some_iff.1 HI.out).1];exact HI
   have hA1:=hb1.block (w.heap.size+1) (Array.getElem?_eq_some_iff.1 HAI.out).1;rw[HAI.out]at hA1;have HA1:=hide hA1;have HO1:=hide (owns_below HOI.out hb1);have HB1:=hide (HBI.out.trans (hb1.mono HBI.out.size));clear hA1 hb1 HC HI HBI HAI HOI;cases k with
   | zero =>
     have hp0:p=0:=HP.out;have hpz:¬(0:Int)<(p:Int):=by omega
     have hpd:decide ((0:Int)<(p:Int))=false:=by simpa using hpz
     have HPA:=hide (fn34_any (w.heap.size+1) _ _ _ kd w1 HA1.out);have HNE:=hide (own_ne HO1.out HA1.out (by intro c f e;cases e));have hsz1:=HB1.out.size;have HH0:=hide hp0;clear hp0;go_wp2_with fail;refine HPA.out.mono ?_;rintro e w3 ⟨rfl,hA3,hg3⟩;have HO3:=hide (own_kept HO1.out hg3 HNE.out);have HB3:=hide (HB1.out.grown hg3 (by omega) (by intro x hx;cases hx;omega));have HI3:Hid (w3.heap[w.heap.size+1+1]?=some (.stringIter s (p+n))):=by
      rw[hg3.block _ (Array.getElem?_eq_some_iff.1 HI1.out).1 (by simp)];exact HI1.out
     have HA3:Hid (w3.heap[w.heap.size+1]?=some (.cells #[.int .i64 (lastOf (pref (kf s) (0+1))),.int .i64 (pictOf (pref (kf s) (0+1))),.bool (oddOf (pref (kf s) (0+1)))] 107 (0,0))):=by
      rw[pref,HKD.out];exact hide hA3
     clear hA3 hg3 HPA;go_wp2;go_roundw
     case rel=>exact⟨0+1,p+n,by omega,by omega,HI3.out,HQ,hJ2,HA3,hide (by rw[bndTo_yes rfl];exact HO3.out),HB3⟩
     case measure=>rw[iterPos_of HI3.out,iterPos_of HIT.out];omega
   | succ m =>
     have hpz:(0:Int)<(p:Int):=by omega
     have CP:=fn33_any (w.heap.size+1) _ _ _ kd w1 (cell_of_row w1 _ 0 _ _ _ HA1.out) (cell_of_row w1 _ 1 _ _ _ HA1.out) (cell_of_row w1 _ 2 _ _ _ HA1.out);rw[←HKD.out,parts_jn]at CP;have HNE:=hide (own_ne HO1.out HA1.out (by intro c f e;cases e));have HNI:=hide (own_ne HO1.out HI1.out (by intro c f e;cases e));have hsz1:=HB1.out.size;cases hjn:jn s (m+1)
     ·rw[hjn]at CP
      have HJN:=hide hjn;have HCP:=hide CP;clear hjn CP;rw[HKD.out]at HCP;have HO2:=hide (HO1.out.alloc (.cells #[.int .i64 p] 3));go_wp2_with fail;refine HCP.out.mono ?_;rintro e w1' ⟨rfl,rfl⟩;go_wp2_with (at_builtin;refine wpList_append_own _ rfl _ _ 32 rfl w.heap.size 3 i0 _ 1 8 Tryz.underlying32 hi hz0 hz1 hz2 rfl (by decide) _ _ _ rfl HO2.out ⟨w1'.heap.size,0,none⟩ 1 1 [.int .i64 p] rfl rfl (cell_one_new _ _ _) (one_cell _) (by unfold maxLen;omega) (by omega) (by simp;omega) ?_);intro v' w2 own2 hgrow hnil;have HO4:Hid (w2.ownsRow w.heap.size 3 1 v' (bndTo s (m+1+1)).length (ints64 (bndTo s (m+1+1)))):=by
       rw[bndTo_no HJN.out,len_snoc,←ints_snoc,←HP.out];exact hide own2
      have HB4:=hide ((HB1.out.alloc (by omega) (.cells #[.int .i64 p] 3)).grown hgrow (by simp;omega) (by intro x hx;exact(HO1.out.lt x hx).1));have HI4:Hid (w2.heap[w.heap.size+1+1]?=some (.stringIter s (p+n))):=by
       rw[hgrow.block _ (by have:=(Array.getElem?_eq_some_iff.1 HI1.out).1;simp;omega) HNI.out];exact(Lib.alloc_old _ _ _ (Array.getElem?_eq_some_iff.1 HI1.out).1).trans HI1.out
      have hA4:=hgrow.block (w.heap.size+1) (by have:=(Array.getElem?_eq_some_iff.1 HA1.out).1;simp;omega) HNE.out;rw[Lib.alloc_old _ _ _ (Array.getElem?_eq_some_iff.1 HA1.out).1,HA1.out]at hA4;have HPA:=hide (fn34_any (w.heap.size+1) _ _ _ kd w2 hA4);have HNE2:=hide (own_ne HO4.out hA4 (by intro c f e;cases e));have hsz2:=HB4.out.size;clear own2 hgrow hnil hA4 HO2 HNE HNI HO1;go_wp2_with fail;refine HPA.out.mono ?_;rintro e w3 ⟨rfl,hA3,hg3⟩;have HO3:=hide (own_kept HO4.out hg3 HNE2.out);have HB3:=hide (HB4.out.grown hg3 (by omega) (by intro x hx;cases hx;omega));have HI3:Hid (w3.heap[w.heap.size+1+1]?=some (.stringIter s (p+n))):=by
       rw[hg3.block _ (Array.getElem?_eq_some_iff.1 HI4.out).1 (by simp)];exact HI4.out
      have HA3:Hid (w3.heap[w.heap.size+1]?=some (.cells #[.int .i64 (lastOf (pref (kf s) (m+1+1))),.int .i64 (pictOf (pref (kf s) (m+1+1))),.bool (oddOf (pref (kf s) (m+1+1)))] 107 (0,0))):=by
       rw[pref,HKD.out];exact hide hA3
      clear hA3 hg3 HPA;go_wp2;go_roundw
      case rel=>exact⟨m+1+1,p+n,by omega,by omega,HI3.out,HQ,hJ2,HA3,hide (by rw[show bndTo s (m+1+1)=bndTo s (m+1+1)from rfl];exact HO3.out),HB3⟩
      case measure=>rw[iterPos_of HI3.out,iterPos_of HIT.out];omega
     ·rw[hjn]at CP
      have HJN:=hide hjn;have HCP:=hide CP;clear hjn CP;rw[HKD.out]at HCP;have HPA:=hide (fn34_any (w.heap.size+1) _ _ _ kd w1 HA1.out);go_wp2_with fail;refine HCP.out.mono ?_;rintro e w1' ⟨rfl,rfl⟩;go_wp2_with fail;refine HPA.out.mono ?_;rintro e w3 ⟨rfl,hA3,hg3⟩;have HO3:=hide (own_kept HO1.out hg3 HNE.out);have HB3:=hide (HB1.out.grown hg3 (by omega) (by intro x hx;cases hx;omega));have HI3:Hid (w3.heap[w.heap.size+1+1]?=some (.stringIter s (p+n))):=by
       rw[hg3.block _ (Array.getElem?_eq_some_iff.1 HI1.out).1 (by simp)];exact HI1.out
      have HA3:Hid (w3.heap[w.heap.size+1]?=some (.cells #[.int .i64 (lastOf (pref (kf s) (m+1+1))),.int .i64 (pictOf (pref (kf s) (m+1+1))),.bool (oddOf (pref (kf s) (m+1+1)))] 107 (0,0))):=by
       rw[pref,HKD.out];exact hide hA3
      clear hA3 hg3 HPA;go_wp2;go_roundw
      case rel=>exact⟨m+1+1,p+n,by omega,by omega,HI3.out,HQ,hJ2,HA3,hide (by rw[bndTo_yes HJN.out];exact HO3.out),HB3⟩
      case measure=>rw[iterPos_of HI3.out,iterPos_of HIT.out];omega
  ·have hnx:=fun ty=>Lib.run_next_end_at (P:=Tryz.prog) wr (w.heap.size+1+1) s p ty hit hlt
   have HE:Hid (Dec.Ends s k):=⟨by rw[←HP.out];omega,HJ.out⟩;have hbsz:=HB.out.size;clear hit;by_cases hs0:0<s.size
   ·have hs1:(0:Int)<(s.size:Int):=by omega
    have HO2:=hide (HO.out.alloc (.cells #[.int .i64 s.size] 3));go_wp2_with (at_builtin;refine wpList_append_own _ rfl _ _ 32 rfl w.heap.size 3 i0 _ 1 8 Tryz.underlying32 hi hz0 hz1 hz2 rfl (by decide) _ _ _ rfl HO2.out ⟨wr.heap.size,0,none⟩ 1 1 [.int .i64 s.size] rfl rfl (cell_one_new _ _ _) (one_cell _) (by unfold maxLen;omega) (by omega) (by simp;omega) ?_);intro v' w2 own2 hgrow hnil;have HO4:Hid (w2.ownsRow w.heap.size 3 1 v' (bnd s k).length (ints64 (bnd s k))):=by
     rw[bnd,if_pos hs0,len_snoc,←ints_snoc];exact hide own2
    have HB4:=hide ((HB.out.alloc (by omega) (.cells #[.int .i64 s.size] 3)).grown hgrow (by simp;omega) (by intro x hx;exact(HO.out.lt x hx).1));clear own2 hgrow hnil HO2;go_wp2;go_ret;exact⟨k,_,HE.out,rfl,HO4.out,HB4.out⟩
   ·have hs1:¬(0:Int)<(s.size:Int):=by omega
    go_wp2;go_ret;exact⟨k,HE.out,_,rfl,(by rw[bnd,if_neg hs0];exact HO.out),HB.out⟩
end Go.Proofs.YtnakejhohdbfdacGreatDoor.Cls
namespace Go.Proofs.YtnakejhohdbfdacGreatDoor.Lay
def turnA (p:Nat→Bool):List Nat→List Nat→List Nat
 | acc,[]=>acc
 | acc,x :: l=>if p x then turnA p (x :: acc) l else acc++x :: turnA p [] l
def turn (p:Nat→Bool)(l:List Nat):List Nat:=turnA p [] l
theorem turnA_all (p:Nat→Bool):∀(l acc:List Nat),(∀x∈l,p x=true)→turnA p acc l=l.reverse++acc
 | [],acc,_=>rfl
 | x :: l,acc,h=>by
   rw[turnA,if_pos (h x (by simp)),turnA_all p l _ (fun y hy=>h y (by simp[hy]))];simp
theorem turnA_stop (p:Nat→Bool)(x:Nat)(b:List Nat)(hx:p x=false):∀(a acc:List Nat),turnA p acc (a++x :: b)=turnA p acc a++x :: turn p b
 | [],acc=>by show turnA p acc (x :: b)=acc++x :: turnA p [] b;rw[turnA.eq_2,if_neg (by rw[hx];exact Bool.false_ne_true)]
 | y :: a,acc=>by
   rw[List.cons_append,turnA,turnA];by_cases hy:p y=true
   ·rw[if_pos hy,if_pos hy];exact turnA_stop p x b hx a _
   ·rw[if_neg hy,if_neg hy,turnA_stop p x b hx a []];simp
theorem turn_stop (p:Nat→Bool)(x:Nat)(a b:List Nat)(hx:p x=false):turn p (a++x :: b)=turn p a++x :: turn p b:=turnA_stop p x b hx a []
theorem turn_all (p:Nat→Bool)(l:List Nat)(h:∀x∈l,p x=true):turn p l=l.reverse:=by rw[turn,turnA_all p l [] h];simp
theorem turn_snoc (p:Nat→Bool)(x:Nat)(a:List Nat)(hx:p x=false):turn p (a++[x])=turn p a++[x]:=by
 rw[turn_stop p x a [] hx];rfl
def shut (p:Nat→Bool)(a:List Nat):Prop:=a=[]∨∃b x,a=b++[x]∧p x=false
theorem turn_run (p:Nat→Bool)(a r:List Nat)(ha:shut p a)(hr:∀x∈r,p x=true):turn p (a++r)=turn p a++r.reverse:=by
 rcases ha with rfl | ⟨b,x,rfl,hx⟩
 ·rw[List.nil_append,turn_all p r hr];rfl
 ·rw[List.append_assoc,List.singleton_append,turn_stop p x b r hx,turn_snoc p x b hx,turn_all p r hr];simp
theorem turn_turnA (p:Nat→Bool):∀(l acc:List Nat),(∀x∈acc,p x=true)→turn p (turnA p acc l)=acc.reverse++l
 | [],acc,h=>by rw[turnA,turn_all p acc h];simp
 | x :: l,acc,h=>by
   rw[turnA];by_cases hx:p x=true
   ·rw[if_pos hx,turn_turnA p l (x :: acc) (fun y hy=>by rcases List.mem_cons.1 hy with e | hy <;> first | exact e ▸ hx | exact h y hy)];simp
   ·have hx':p x=false:=by simpa using hx
    rw[if_neg hx,turn_stop p x _ _ hx',turn_all p acc h,turn_turnA p l [] (fun y hy=>by cases hy)];simp
theorem turn_turn (p:Nat→Bool)(l:List Nat):turn p (turn p l)=l:=by
 have:=turn_turnA p l [] (fun y hy=>by cases hy);simpa[turn] using this
theorem turnA_perm (p:Nat→Bool):∀(l acc:List Nat),(turnA p acc l).Perm (acc++l)
 | [],acc=>by rw[turnA,List.append_nil]
 | x :: l,acc=>by
   rw[turnA];split
   ·refine(turnA_perm p l (x :: acc)).trans ?_
    rw[List.cons_append];exact(List.perm_middle (a:=x) (l₁:=acc) (l₂:=l)).symm
   ·refine List.Perm.append_left acc ?_
    exact List.Perm.cons x (by simpa using turnA_perm p l [])
theorem turn_perm (p:Nat→Bool)(l:List Nat):(turn p l).Perm l:=by simpa[turn] using turnA_perm p l []
theorem turnA_map (p:Nat→Bool)(f:Nat→Nat):∀(l acc:List Nat),turnA p (acc.map f) (l.map f)=(turnA (fun x=>p (f x)) acc l).map f
 | [],acc=>rfl
 | x :: l,acc=>by
   rw[List.map_cons,turnA,turnA];by_cases hx:p (f x)=true
   ·rw[if_pos hx,if_pos hx];exact turnA_map p f l (x :: acc)
   ·rw[if_neg hx,if_neg hx,List.map_append,List.map_cons];exact congrArg _ (congrArg _ (turnA_map p f l []))
theorem turn_map (p:Nat→Bool)(f:Nat→Nat)(l:List Nat):turn p (l.map f)=(turn (fun x=>p (f x)) l).map f:=turnA_map p f l []
theorem turnA_congr {p q:Nat→Bool}:∀(l acc:List Nat),(∀x∈l,p x=q x)→turnA p acc l=turnA q acc l
 | [],acc,_=>rfl
 | x :: l,acc,h=>by
   rw[turnA,turnA,h x (by simp),turnA_congr l _ (fun y hy=>h y (by simp[hy])),turnA_congr l _ (fun y hy=>h y (by simp[hy]))]
theorem turn_congr {p q:Nat→Bool}(l:List Nat)(h:∀x∈l,p x=q x):turn p l=turn q l:=turnA_congr l [] h
def deep (V:Nat→Int)(l:Nat)(x:Nat):Bool:=decide ((l:Int)≤V x)
def tds (V:Nat→Int)(m:Nat):Nat→List Nat→List Nat
 | 0,l=>l
 | k+1,l=>tds V m k (turn (deep V (m+k)) l)
theorem tds_perm (V:Nat→Int)(m:Nat):∀(k:Nat) (l:List Nat),(tds V m k l).Perm l
 | 0,_=>List.Perm.refl _
 | k+1,l=>(tds_perm V m k _).trans (turn_perm _ l)
theorem tds_app (V:Nat→Int)(m j:Nat):∀(k:Nat) (l:List Nat),tds V m (j+k) l=tds V m j (tds V (m+j) k l)
 | 0,l=>rfl
 | k+1,l=>by
   rw[←Nat.add_assoc,tds,tds_app V m j k,tds,Nat.add_assoc m j k]
theorem tds_even (V:Nat→Int):∀(q:Nat) (l:List Nat),(∀x∈l,∀j:Nat,j<q→V x≠2 * (j:Int)+1)→tds V 1 (2 * q) l=l
 | 0,l,_=>rfl
 | q+1,l,h=>by
   rw[show 2 * (q+1)=(2 * q+1)+1 by omega,tds,tds];have e:turn (deep V (1+2 * q)) (turn (deep V (1+(2 * q+1))) l)=l:=by
    rw[turn_congr (q:=deep V (1+(2 * q+1))) (turn (deep V (1+(2 * q+1))) l) ?_,turn_turn];intro x hx;have hm:x∈l:=(turn_perm _ l).mem_iff.1 hx;have:=h x hm q (by omega);unfold deep;exact decide_eq_decide.2 (by omega)
   rw[e];exact tds_even V q l fun x hx j hj=>h x hx j (by omega)
theorem tds_least (V:Nat→Int)(l:List Nat)(top q:Nat)(hq:2 * q+1≤top)(ho:∀x∈l,∀j:Nat,j<q→V x≠2 * (j:Int)+1):tds V 1 top l=tds V (2 * q+1) (top - 2 * q) l:=by
 rw[show top=2 * q+(top - 2 * q) by omega,tds_app V 1 (2 * q) (top - 2 * q),show 2 * q+(top - 2 * q) - 2 * q=top - 2 * q by omega,Nat.add_comm 1 (2 * q)];exact tds_even V q _ fun x hx j hj=>ho x ((tds_perm V _ _ l).mem_iff.1 hx) j hj
theorem tds_none (V:Nat→Int)(l:List Nat)(top:Nat)(he:top % 2=0)(ho:∀x∈l,∀j:Nat,V x≠2 * (j:Int)+1):tds V 1 top l=l:=by
 rw[show top=2 * (top / 2) by omega];exact tds_even V _ l fun x hx j _=>ho x hx j
theorem tds_map (V:Nat→Int)(f:Nat→Nat)(m:Nat):∀(k:Nat) (l:List Nat),tds V m k (l.map f)=(tds (fun x=>V (f x)) m k l).map f
 | 0,l=>rfl
 | k+1,l=>by rw[tds,turn_map,tds_map V f m k];rfl
theorem tds_congr {V U:Nat→Int}(m:Nat):∀(k:Nat) (l:List Nat),(∀x∈l,V x=U x)→tds V m k l=tds U m k l
 | 0,l,_=>rfl
 | k+1,l,h=>by
   rw[tds,tds,turn_congr (q:=deep U (m+k)) l (fun x hx=>by unfold deep;rw[h x hx])];exact tds_congr m k _ fun x hx=>h x ((turn_perm _ l).mem_iff.1 hx)
def revR (l:List Nat)(a b:Nat):List Nat:=l.take a++((l.take b).drop a).reverse++l.drop b
def partsTo (p:Nat→Bool)(l:List Nat):Nat→List (Nat × Nat) × Nat
 | 0=>([],0)
 | g+1 =>
   if g<l.length∧p (l[g]?.getD 0)=true then partsTo p l g
   else(if(partsTo p l g).2<g then(partsTo p l g).1++[((partsTo p l g).2,g)]else(partsTo p l g).1,g+1)
def parts (p:Nat→Bool)(l:List Nat):List (Nat × Nat):=(partsTo p l (l.length+1)).1
def revs (l:List Nat)(m:List (Nat × Nat)):List Nat:=m.foldl (fun l x=>revR l x.1 x.2) l
theorem revs_snoc (l:List Nat)(m:List (Nat × Nat))(x:Nat × Nat):revs l (m++[x])=revR (revs l m) x.1 x.2:=by simp[revs]
theorem revR_length (l:List Nat)(a b:Nat)(h:a≤b)(hb:b≤l.length):(revR l a b).length=l.length:=by
 simp[revR];omega
theorem revR_mid (x r y:List Nat):revR (x++(r++y)) x.length (x.length+r.length)=x++(r.reverse++y):=by
 unfold revR;rw[List.take_left,←List.append_assoc,List.take_append_of_le_length (by simp),show x.length+r.length=(x++r).length by simp,List.drop_left,List.take_length,List.drop_left,List.append_assoc]
structure PartsOk (p:Nat→Bool)(l:List Nat)(g:Nat):Prop where
 le:(partsTo p l g).2≤g
 mid:∀x∈(l.take g).drop (partsTo p l g).2,p x=true
 sh:shut p (l.take (partsTo p l g).2)
 bound:∀x∈(partsTo p l g).1,x.1<x.2∧x.2<(partsTo p l g).2
 is:revs l (partsTo p l g).1=turn p (l.take (partsTo p l g).2)++l.drop (partsTo p l g).2
theorem take_split (l:List Nat)(a b:Nat)(h:a≤b):l.take b=l.take a++(l.take b).drop a:=by
 have:=(List.take_append_drop a (l.take b)).symm
 rwa [List.take_take,Nat.min_eq_left h]at this
theorem take_next (l:List Nat)(g:Nat)(h:g<l.length):l.take (g+1)=l.take g++[l[g]?.getD 0]:=by
 rw[List.take_add_one,List.getElem?_eq_getElem h];rfl
theorem drop_next (l:List Nat)(g:Nat)(h:g<l.length):l.drop g=(l[g]?.getD 0) :: l.drop (g+1):=by
 rw[List.drop_eq_getElem_cons h,List.getElem?_eq_getElem h];rfl
theorem parts_ok (p:Nat→Bool)(l:List Nat):∀g,g≤l.length→PartsOk p l g
 | 0,_=>⟨Nat.le_refl _,by simp,.inl (by simp[partsTo]),by simp[partsTo],by simp[partsTo,revs,turn,turnA]⟩
 | g+1,h=>by
   have ih:=parts_ok p l g (by omega);by_cases hp:p (l[g]?.getD 0)=true
   ·have e:partsTo p l (g+1)=partsTo p l g:=by rw[partsTo,if_pos ⟨by omega,hp⟩]
    refine⟨by rw[e];have:=ih.le;omega,?_,by rw[e];exact ih.sh,by rw[e];exact ih.bound,by rw[e];exact ih.is⟩;rw[e,take_next l g (by omega),List.drop_append_of_le_length (by rw[List.length_take];have:=ih.le;omega)];intro x hx;rw[List.mem_append,List.mem_singleton]at hx
    rcases hx with hx | rfl
    ·exact ih.mid x hx
    ·exact hp
   ·have hp':p (l[g]?.getD 0)=false:=by simpa using hp
    have e2:(partsTo p l (g+1)).2=g+1:=by rw[partsTo,if_neg (fun h=>hp h.2)]
    have e1:(partsTo p l (g+1)).1=if(partsTo p l g).2<g then(partsTo p l g).1++[((partsTo p l g).2,g)]else(partsTo p l g).1:=by rw[partsTo,if_neg (fun h=>hp h.2)]
    have hle:=ih.le;refine⟨by omega,by rw[e2];simp,?_,?_,?_⟩
    ·rw[e2,take_next l g (by omega)];exact .inr ⟨_,_,rfl,hp'⟩
    ·rw[e1,e2]
     intro x hx;split at hx
     ·rw[List.mem_append,List.mem_singleton]at hx
      rcases hx with hx | rfl
      ·have:=ih.bound x hx;omega
      ·dsimp only;omega
     ·have:=ih.bound x hx;omega
    ·rw[e1,e2]
     have hs:=take_split l (partsTo p l g).2 g hle;have ht:=turn_run p _ _ ih.sh ih.mid;rw[←hs]at ht;have hd:l.drop (partsTo p l g).2=(l.take g).drop (partsTo p l g).2++l.drop g:=by
      have h3:=List.take_append_drop (g - (partsTo p l g).2) (l.drop (partsTo p l g).2);rw[List.drop_drop,show(partsTo p l g).2+(g - (partsTo p l g).2)=g by omega,←List.drop_take]at h3;exact h3.symm
     have hx:turn p (l.take (g+1))++l.drop (g+1)=turn p (l.take (partsTo p l g).2)++(((l.take g).drop (partsTo p l g).2).reverse++l.drop g):=by
      rw[take_next l g (by omega),turn_snoc p _ _ hp',ht,drop_next l g (by omega)];simp
     rw[hx];split
     ·rename_i hlt
      rw[revs_snoc,ih.is,hd];have h1:(turn p (l.take (partsTo p l g).2)).length=(partsTo p l g).2:=by rw[(turn_perm p _).length_eq,List.length_take];omega
      have h2:((l.take g).drop (partsTo p l g).2).length=g - (partsTo p l g).2:=by rw[List.length_drop,List.length_take];omega
      have h3:=revR_mid (turn p (l.take (partsTo p l g).2)) ((l.take g).drop (partsTo p l g).2) (l.drop g);rw[h1,h2,show(partsTo p l g).2+(g - (partsTo p l g).2)=g by omega]at h3;exact h3
     ·have:(partsTo p l g).2=g:=by omega
      rw[ih.is,this];simp
theorem parts_turn (p:Nat→Bool)(l:List Nat):revs l (parts p l)=turn p l:=by
 have ih:=parts_ok p l l.length (Nat.le_refl _);unfold parts;have e1:(partsTo p l (l.length+1)).1=if(partsTo p l l.length).2<l.length then(partsTo p l l.length).1++[((partsTo p l l.length).2,l.length)]else(partsTo p l l.length).1:=by rw[partsTo,if_neg (fun h=>by omega)]
 have hle:=ih.le;have ht:=turn_run p _ _ ih.sh ih.mid;rw[←take_split l _ _ hle,List.take_length]at ht;rw[e1];split
 ·rename_i hlt
  rw[revs_snoc,ih.is,ht];have h1:(turn p (l.take (partsTo p l l.length).2)).length=(partsTo p l l.length).2:=by rw[(turn_perm p _).length_eq,List.length_take];omega
  have h3:=revR_mid (turn p (l.take (partsTo p l l.length).2)) (l.drop (partsTo p l l.length).2) [];rw[h1,List.length_drop,show(partsTo p l l.length).2+(l.length - (partsTo p l l.length).2)=l.length by omega,List.append_nil,List.append_nil]at h3;exact h3
 ·have:(partsTo p l l.length).2=l.length:=by omega
  rw[ih.is,this];simp
theorem parts_bound (p:Nat→Bool)(l:List Nat):∀x∈parts p l,x.1<x.2∧x.2≤l.length:=by
 have ih:=parts_ok p l l.length (Nat.le_refl _);have hle:=ih.le;intro x hx;unfold parts at hx;rw[partsTo,if_neg (fun h=>by omega)]at hx;dsimp only at hx;split at hx
 ·rw[List.mem_append,List.mem_singleton]at hx
  rcases hx with hx | rfl
  ·have:=ih.bound x hx;omega
  ·dsimp only;omega
 ·have:=ih.bound x hx;omega
end Go.Proofs.YtnakejhohdbfdacGreatDoor.Lay

import Derived.Shelf.Unicode.DecodeAny
import Derived.Shelf.Slices.SearchI
import Derived.Test.YtnakejhohdbfdaaGreatDoorProg
import Derived.Test.YtnakejhohdbfdaaGreatDoorRows
import Derived.ProofKit
import Derived.Lib.LaidU8
import Derived.Lib.TrimU
import Derived.Lib.RuneCountTail
import Derived.Lib.QuoteLoop
import Derived.WalkKit
import Derived.WalkSpells
import Derived.WalkSmall
import Derived.Lib.OthersKept
import Derived.RegionTactic
import Derived.Deep.QuietTactic
import Derived.BigQuiet
import Derived.Test.YtnakejhohdbfdaaGreatDoorXMb
import Derived.Test.YtnakejhohdbfdaaGreatDoorXKin
namespace Go.Proofs
open Go.Shelf
def Tryz.lays260_ren:Go.Shelf.Ren:=⟨fun | 260=>159 | n=>n,fun | 9=>9 | 21=>21 | 3=>3 | 4=>4 | 5=>5 | 119=>282 | 0=>0 | 46=>283 | 139=>286 | 138=>285 | n=>n,fun | 3=>1 | 4=>2 | n=>n⟩
theorem Tryz.lays260:Go.Proofs.Lays.n260 Tryz.prog Tryz.lays260_ren:={
 mixed:=by kernel_rfl
 f260:=Tryz.func159.trans (congrArg some (by kernel_rfl))
 t0:=Tryz.underlying0
 a0:=Tryz.isAgg0
 z0:=Tryz.sizeOf0
 v0:=Tryz.zeroValue0
 t3:=Tryz.underlying3
 a3:=Tryz.isAgg3
 z3:=Tryz.sizeOf3
 v3:=Tryz.zeroValue3
 t4:=Tryz.underlying4
 a4:=Tryz.isAgg4
 z4:=Tryz.sizeOf4
 v4:=Tryz.zeroValue4
 t5:=Tryz.underlying5
 a5:=Tryz.isAgg5
 z5:=Tryz.sizeOf5
 v5:=Tryz.zeroValue5
 t9:=Tryz.underlying9
 a9:=Tryz.isAgg9
 z9:=Tryz.sizeOf9
 v9:=Tryz.zeroValue9
 t21:=Tryz.underlying21
 a21:=Tryz.isAgg21
 z21:=Tryz.sizeOf21
 v21:=Tryz.zeroValue21
 t46:=Tryz.underlying283
 a46:=Tryz.isAgg283
 z46:=Tryz.sizeOf283
 v46:=Tryz.zeroValue283
 t119:=Tryz.underlying282
 a119:=Tryz.isAgg282
 z119:=Tryz.sizeOf282
 t138:=Tryz.underlying285
 a138:=Tryz.isAgg285
 z138:=Tryz.sizeOf285
 v138:=Tryz.zeroValue285
 t139:=Tryz.underlying286
 a139:=Tryz.isAgg286
 z139:=Tryz.sizeOf286
 v139:=Tryz.zeroValue286
 g3:=by kernel_rfl
 g4:=by kernel_rfl }
def Tryz.lays197_ren:Go.Shelf.Ren:=⟨fun | 197=>82 | 260=>159 | n=>n,fun | 9=>9 | 21=>21 | 3=>3 | 4=>4 | 5=>5 | 105=>142 | 119=>282 | 0=>0 | 46=>283 | 139=>286 | 138=>285 | n=>n,fun | 3=>1 | 4=>2 | n=>n⟩
theorem Tryz.lays197:Go.Proofs.Lays.n197 Tryz.prog Tryz.lays197_ren:={
 mixed:=by kernel_rfl
 f197:=Tryz.func82.trans (congrArg some (by kernel_rfl))
 f260:=Tryz.func159.trans (congrArg some (by kernel_rfl))
 t0:=Tryz.underlying0
 a0:=Tryz.isAgg0
 z0:=Tryz.sizeOf0
 v0:=Tryz.zeroValue0
 t3:=Tryz.underlying3
 a3:=Tryz.isAgg3
 z3:=Tryz.sizeOf3
 v3:=Tryz.zeroValue3
 t4:=Tryz.underlying4
 a4:=Tryz.isAgg4
 z4:=Tryz.sizeOf4
 v4:=Tryz.zeroValue4
 t5:=Tryz.underlying5
 a5:=Tryz.isAgg5
 z5:=Tryz.sizeOf5
 v5:=Tryz.zeroValue5
 t9:=Tryz.underlying9
 a9:=Tryz.isAgg9
 z9:=Tryz.sizeOf9
 v9:=Tryz.zeroValue9
 t21:=Tryz.underlying21
 a21:=Tryz.isAgg21
 z21:=Tryz.sizeOf21
 v21:=Tryz.zeroValue21
 t46:=Tryz.underlying283
 a46:=Tryz.isAgg283
 z46:=Tryz.sizeOf283
 v46:=Tryz.zeroValue283
 t105:=Tryz.underlying142
 a105:=Tryz.isAgg142
 z105:=Tryz.sizeOf142
 v105:=Tryz.zeroValue142
 t119:=Tryz.underlying282
 a119:=Tryz.isAgg282
 z119:=Tryz.sizeOf282
 t138:=Tryz.underlying285
 a138:=Tryz.isAgg285
 z138:=Tryz.sizeOf285
 v138:=Tryz.zeroValue285
 t139:=Tryz.underlying286
 a139:=Tryz.isAgg286
 z139:=Tryz.sizeOf286
 v139:=Tryz.zeroValue286
 g3:=by kernel_rfl
 g4:=by kernel_rfl }
open Go.RowKit in
theorem Tryz.decode20 (s:ByteArray)(w:World)(hT:Lib.Utf8Tabs 1 2 w):Calls Tryz.prog 82 #[.string s] w fun e w'=>e=.returned (.tuple #[.int .i32 (Lib.decodeGo s).1,.int .i64 (Lib.decodeGo s).2])∧Below w.heap.size w w' :=
 Any.utf8_DecodeRuneInString Tryz.lays197 s w hT
end Go.Proofs
namespace Go.Proofs.YtnakejhohdbfdaaGreatDoor.Cls
open Go.Lib
theorem extra:U8Extra Tryz.prog Tryz.lays260_ren:=⟨by kernel_rfl,by kernel_rfl,by kernel_rfl,by kernel_rfl,by kernel_rfl,by kernel_rfl,by kernel_rfl⟩
theorem dataFirst:(Rows.laid_unicode_utf8_first:DataW Unit)=firstData:=by kernel_rfl
theorem dataAccept:(Rows.laid_unicode_utf8_acceptRanges:DataW Unit)=acceptData:=by kernel_rfl
def utfFirst:Array Value:=((List.range 256).map fun c=>Value.int .u8 (firstT c)).toArray
def utfAccept:Array Value:=((List.range 16).flatMap fun i=>[Value.int .u8 (accLo i),Value.int .u8 (accHi i)]).toArray
end Go.Proofs.YtnakejhohdbfdaaGreatDoor.Cls
namespace Go.Proofs.YtnakejhohdbfdaaGreatDoor.Dec
open Go
def pos (s:ByteArray):Nat→Nat
 | 0=>0
 | k+1=>pos s k+(Utf8.decode s (pos s k)).2
def rune (s:ByteArray)(k:Nat):Int:=((Utf8.decode s (pos s k)).1:Nat)
def row (s:ByteArray)(k:Nat):Int × Int × Int:=(rune s k,(pos s k:Nat),(pos s (k+1):Nat))
def lst (s:ByteArray):Nat→List (Int × Int × Int)
 | 0=>[]
 | k+1=>lst s k++[row s k]
def lstL (s:ByteArray):Nat→List (Int × Int × Int)
 | 0=>[]
 | k+1=>lst s k++[((rune s k,(pos s k:Nat),(s.size:Nat)):Int × Int × Int)]
def Ends (s:ByteArray)(n:Nat):Prop:=pos s n=s.size∧∀j,j<n→pos s j<s.size
theorem width_pos (s:ByteArray)(p:Nat):1≤(Utf8.decode s p).2:=Lib.width_pos s p
theorem width_le (s:ByteArray)(p:Nat)(h:p<s.size):p+(Utf8.decode s p).2≤s.size:=by
 have:(Utf8.decode s p).2≤s.size - p:=by rw[Lib.decode_at];exact Lib.decodeN_width_le _ _ _ _ _ (by omega)
 omega
theorem decodeGo_tail (s:ByteArray)(p:Nat):Utf8.decode (s.extract p s.size) 0=Utf8.decode s p:=by
 rw[Lib.tail_decode];rfl
theorem pos_lt_succ (s:ByteArray)(k:Nat):pos s k<pos s (k+1):=by
 have:=width_pos s (pos s k);show pos s k<pos s k+_;omega
theorem pos_mono (s:ByteArray):∀(a b:Nat),a<b→pos s a<pos s b
 | a,0,h=>by omega
 | a,b+1,h=>by
   have:=pos_lt_succ s b
   rcases Nat.lt_or_eq_of_le (Nat.le_of_lt_succ h)with h1 | h1
   ·have:=pos_mono s a b h1;omega
   ·subst h1;exact this
theorem le_pos (s:ByteArray):∀k,k≤pos s k
 | 0=>Nat.zero_le _
 | k+1=>by have:=le_pos s k;have:=pos_lt_succ s k;omega
theorem ends_unique {s:ByteArray}{n m:Nat}(h:Ends s n)(k:Ends s m):n=m:=by
 rcases Nat.lt_trichotomy n m with h1 | h1 | h1
 ·have:=k.2 n h1;have:=h.1;omega
 ·exact h1
 ·have:=h.2 m h1;have:=k.1;omega
theorem lst_length (s:ByteArray):∀k,(lst s k).length=k
 | 0=>rfl
 | k+1=>by simp[lst,lst_length s k]
theorem lst_at (s:ByteArray):∀(n k:Nat),k<n→(lst s n)[k]?=some (row s k)
 | 0,k,h=>by omega
 | n+1,k,h=>by
   rw[lst]
   rcases Nat.lt_or_eq_of_le (Nat.le_of_lt_succ h)with h1 | h1
   ·rw[List.getElem?_append_left (by rw[lst_length];exact h1)];exact lst_at s n k h1
   ·subst h1;rw[List.getElem?_append_right (by rw[lst_length];exact Nat.le_refl _),lst_length];simp
theorem lstL_last (s:ByteArray)(k:Nat):(lstL s (k+1))[k]?=some (rune s k,((pos s k:Nat):Int),((s.size:Nat):Int)):=by
 rw[lstL,List.getElem?_append_right (by rw[lst_length];exact Nat.le_refl _),lst_length];simp
theorem lstL_end {s:ByteArray}{n:Nat}(h:Ends s n):lstL s n=lst s n:=by
 cases n with
 | zero=>rfl
 | succ n=>rw[lst,lstL,row,h.1]
def cells:List (Int × Int × Int)→List Value
 | []=>[]
 | x :: l=>.int .i32 x.1 :: .int .i64 x.2.1 :: .int .i64 x.2.2 :: cells l
theorem cells_length:∀l:List (Int × Int × Int),(cells l).length=l.length * 3
 | []=>rfl
 | x :: l=>by have:=cells_length l;simp only[cells,List.length_cons,this];omega
theorem cells_append:∀l m:List (Int × Int × Int),cells l++cells m=cells (l++m)
 | [],_=>rfl
 | x :: l,m=>by simp only[cells,List.cons_append,cells_append l m]
theorem cells_at:∀(l:List (Int × Int × Int)) (i:Nat) (x:Int × Int × Int),l[i]?=some x →
 (cells l)[i * 3]?=some (.int .i32 x.1)∧(cells l)[i * 3+1]?=some (.int .i64 x.2.1)∧(cells l)[i * 3+2]?=some (.int .i64 x.2.2)
 | [],i,x,h=>by simp at h
 | y :: l,0,x,h=>by
   simp at h;subst h;exact⟨rfl,rfl,rfl⟩
 | y :: l,i+1,x,h=>by
   have ih:=cells_at l i x (by simpa using h);rw[show(i+1) * 3=i * 3+1+1+1 by omega];exact ih
theorem cells_snoc (s:ByteArray)(k:Nat):cells (lst s k)++[.int .i32 (rune s k),.int .i64 (pos s k:Nat),.int .i64 (pos s (k+1):Nat)]=cells (lst s (k+1)):=by
 rw[lst,←cells_append];rfl
theorem cells_snocL (s:ByteArray)(k:Nat):cells (lst s k)++[.int .i32 (rune s k),.int .i64 (pos s k:Nat),.int .i64 (s.size:Nat)]=cells (lstL s (k+1)):=by
 rw[lstL,←cells_append];rfl
theorem cells_set (s:ByteArray)(k:Nat):(cells (lstL s (k+1))).set (k * 3+2) (.int .i64 (pos s (k+1):Nat))=cells (lst s (k+1)):=by
 rw[lst,lstL,←cells_append,←cells_append,List.set_append_right _ _ (by rw[cells_length,lst_length];omega),cells_length,lst_length];have:k * 3+2 - k * 3=2:=by omega
 rw[this];rfl
theorem cells_one:∀(l:List (Int × Int × Int)),∀u∈cells l,u.oneCell'=true
 | [],u,hu=>by cases hu
 | x :: l,u,hu=>by
   simp only[cells,List.mem_cons]at hu
   rcases hu with rfl | rfl | rfl | hu
   ·rfl
   ·rfl
   ·rfl
   ·exact cells_one l u hu
theorem owns_below {w w':World}{base:Nat}{e:TypeId}{size:Nat}{v:Value}{n:Nat}{xs:List Value}(h:w.ownsRow base e size v n xs)(hb:RowKit.Below w.heap.size w w'):w'.ownsRow base e size v n xs:=by
 refine⟨h.1,?_⟩
 rcases h.2 with h1 | ⟨g,cap,cur,hv,hg,hh,r⟩
 ·exact .inl h1
 ·refine .inr ⟨g,cap,cur,hv,hg,?_,r⟩
  rw[hb.block g (Array.getElem?_eq_some_iff.1 hh).1];exact hh
theorem owns_low {w:World}{base base':Nat}{e:TypeId}{size:Nat}{v:Value}{n:Nat}{xs:List Value}(h:w.ownsRow base e size v n xs)(hb:base'≤base):w.ownsRow base' e size v n xs:=by
 refine⟨h.1,?_⟩
 rcases h.2 with h1 | ⟨g,cap,cur,hv,hg,r⟩
 ·exact .inl h1
 ·exact .inr ⟨g,cap,cur,hv,by omega,r⟩
theorem owns_shape {w:World}{base:Nat}{e:TypeId}{size:Nat}{v:Value}{n:Nat}{xs:List Value}(h:w.ownsRow base e size v (n+1) xs):∃g cap,v=.slice (some ⟨g,0,none⟩) (n+1) cap:=by
 rcases h.2 with⟨_,h1⟩ | ⟨g,cap,cur,hv,_⟩
 ·omega
 ·exact⟨g,cap,hv⟩
theorem owns_at {w:World}{base:Nat}{e:TypeId}{size:Nat}{n g cap:Nat}{xs:List Value}(h:w.ownsRow base e size (.slice (some ⟨g,0,none⟩) n cap) n xs):base≤g∧g<w.heap.size:=h.lt g rfl
end Go.Proofs.YtnakejhohdbfdaaGreatDoor.Dec
namespace Go.Proofs.YtnakejhohdbfdaaGreatDoor.Cls
open Go.RowKit Dec
theorem hid {p:Prop}(h:p):Hid p:=h
theorem tabs_below {g3 g4:Nat}{w w':World}(h:Lib.Utf8Tabs g3 g4 w)(hb:Below w.heap.size w w'):Lib.Utf8Tabs g3 g4 w':=by
 refine⟨fun c hc=>?_,fun i hi=>?_⟩
 ·have h1:=h.1 c hc
  exact(hb.cell (p:=⟨g3,c,none⟩) (World.block_lt_of_cell? _ _ h1)).trans h1
 ·have h1:=h.2 i hi
  exact⟨(hb.cell (p:=⟨g4,2 * i,none⟩) (World.block_lt_of_cell? _ _ h1.1)).trans h1.1,(hb.cell (p:=⟨g4,2 * i+1,none⟩) (World.block_lt_of_cell? _ _ h1.2)).trans h1.2⟩
theorem decode20_at (s:ByteArray)(p:Nat)(w:World)(h:p<s.size)(hT:Lib.Utf8Tabs 1 2 w) :
 Calls Tryz.prog 82 #[.string (s.extract p s.size)] w fun e w'=>e=.returned (.tuple #[.int .i32 ((Utf8.decode s p).1:Nat),.int .i64 ((Utf8.decode s p).2:Nat)])∧Below w.heap.size w w':=by
 have:=Tryz.decode20 (s.extract p s.size) w hT;have e:Lib.decodeGo (s.extract p s.size)=Utf8.decode s p:=by
  unfold Lib.decodeGo;rw[if_neg (by rw[Lib.tail_size];omega),decodeGo_tail]
 rwa [e]at this
theorem info25:(Tryz.prog.info? 94).map (fun i=>(i.zero,i.size,i.bytes))=some (some (.agg #[.int .i32 0,.int .i64 0,.int .i64 0]),3,24):=by kernel_rfl
theorem new3_cells (w:World)(a b c:Value)(t:TypeId):∀j u,[a,b,c][j]?=some u→(w.alloc (.cells #[a,b,c] t)).cell? ((⟨w.heap.size,0,none⟩:Addr).add j)=some u:=by
 intro j u hj;rw[Addr.add_lit,Nat.zero_add,World.cell?_alloc_at _ _ _ _ rfl];simpa using hj
theorem new3_one (r a b:Int):∀u∈[Value.int .i32 r,.int .i64 a,.int .i64 b],u.oneCell'=true:=by
 intro u hu;simp only[List.mem_cons,List.not_mem_nil,or_false]at hu
 rcases hu with rfl | rfl | rfl <;> rfl
set_option maxHeartbeats 2000000 in
theorem ref7_any (s:ByteArray)(w:World)(hs:s.size≤1000000)(hT:Lib.Utf8Tabs 1 2 w) :
 Calls Tryz.prog 39 #[.string s] w fun e w'=>∃n v,Dec.Ends s n∧e=.returned v∧w'.ownsRow w.heap.size 94 3 v n (Dec.cells (lst s n))∧Below w.heap.size w w'∧(n=0→v=.slice none 0 0):=by
 have TT:=hid hT;clear hT;obtain⟨i0,hi,hz0,hz1,hz2⟩:=info_parts info25;go_enter Tryz.func39,Tryz.ntmps39;go_wp2;go_loopw [3,4] (fun v i wr=>∃k p:Nat,p≤s.size∧k≤p∧i=.int .i64 p∧Hid (p=pos s k)∧Hid (∀j,j<k→pos s j<s.size)∧Hid (wr.ownsRow w.heap.size 94 3 v k (Dec.cells (lst s k)))∧Hid (Below w.heap.size w wr)∧Hid (k=0→v=.slice none 0 0)) (fun _ i _=>s.size - (intOf i).toNat)
 case atStart=>exact⟨0,0,Nat.zero_le _,Nat.le_refl _,rfl,hid rfl,hid (fun j hj=>absurd hj (Nat.not_lt_zero _)),hid (World.ownsRow_nil _ _ _ _),hid (Below.refl _ _),hid (fun _=>rfl)⟩
 case round =>
  obtain⟨k,p,hp,hkp,rfl,HP,HJ,HO,HB,HN⟩:=hrel;by_cases hlt:p<s.size
  ·have hw1:=width_pos s p
   have hw2:=width_le s p hlt;have HC:=hid (decode20_at s p _ hlt (tabs_below TT.out HB.out));have HR:Hid (((Utf8.decode s p).1:Nat)=rune s k):=by rw[HP.out];rfl
   have HQ:Hid (p+(Utf8.decode s p).2=pos s (k+1)):=by rw[HP.out];rfl
   generalize (Utf8.decode s p).1=r at HC HR;generalize (Utf8.decode s p).2=n at HC HQ hw1 hw2;go_wp2_with fail;refine HC.out.mono ?_;rintro e w1 ⟨rfl,hb1⟩;have HO1:=hid ((owns_below HO.out hb1).alloc (.cells #[.int .i32 r,.int .i64 p,.int .i64 ((p:Int)+n)] 94));have HB1:=hid ((HB.out.trans (hb1.mono HB.out.size)).alloc (by have:=HB.out.size;have:=hb1.size;omega) (.cells #[.int .i32 r,.int .i64 p,.int .i64 ((p:Int)+n)] 94));have hsz:w.heap.size≤w1.heap.size:=by have:=HB.out.size;have:=hb1.size;omega
   clear HC hb1;go_wp2_with (at_builtin;refine wpList_append_own _ rfl _ _ 29 rfl w.heap.size 94 i0 _ 3 24 Tryz.underlying29 hi hz0 hz1 hz2 rfl (by decide) _ _ _ rfl HO1.out ⟨w1.heap.size,0,none⟩ 1 1 [.int .i32 r,.int .i64 p,.int .i64 ((p:Int)+n)] rfl rfl (new3_cells _ _ _ _ _) (new3_one _ _ _) (by unfold maxLen;omega) (by omega) (by simp;omega) ?_);intro v' w2 own2 hgrow hnil;have HO2:Hid (w2.ownsRow w.heap.size 94 3 v' (k+1) (Dec.cells (lst s (k+1)))):=by
    rw[←cells_snoc,←HR.out,←HP.out,←HQ.out];exact hid (by simpa using own2)
   have HB2:Hid (Below w.heap.size w w2):=HB1.out.grown hgrow (by simp;omega) (by intro g hg;exact(HO1.out.lt g hg).1);clear own2 hgrow hnil HO1 HB1;go_wp2;go_roundw
   case rel =>
    refine⟨k+1,p+n,by omega,by omega,by go_num,HQ,?_,HO2,HB2,hid (fun h=>by omega)⟩;intro j hj
    rcases Nat.lt_or_eq_of_le (Nat.le_of_lt_succ hj)with h1 | h1
    ·exact HJ.out j h1
    ·rw[h1,←HP.out];exact hlt
   case measure=>simp[intOf];omega
  ·go_wp2
   go_ret;exact⟨k,_,⟨by rw[←HP.out];omega,HJ.out⟩,rfl,HO.out,HB.out,HN.out⟩
theorem new3_cells_at (w:World)(n:Nat)(h:w.heap.size=n)(a b c:Value)(t:TypeId):∀j u,[a,b,c][j]?=some u→(w.alloc (.cells #[a,b,c] t)).cell? ((⟨n,0,none⟩:Addr).add j)=some u:=by
 subst h;exact new3_cells w a b c t
theorem iter_setCell {w:World}{it g j:Nat}{s:ByteArray}{p:Nat}{v:Value}(h:w.heap[it]?=some (.stringIter s p))(hne:g≠it):(w.setCell ⟨g,j,none⟩ v).heap[it]?=some (.stringIter s p):=by
 rw[Below.heap_setCell _ _ _ _ (fun e=>hne e.symm)];exact h
end Go.Proofs.YtnakejhohdbfdaaGreatDoor.Cls
namespace Go.Proofs.YtnakejhohdbfdaaGreatDoor.Bnd
open Go Dec Kin
def kf (s:ByteArray)(k:Nat):Int:=Tabs.kindOf (rune s k)
def jn (s:ByteArray):Nat→Bool
 | 0=>true
 | m+1=>joinB (kf s m) (pref (kf s) m) (kf s (m+1))
def bndTo (s:ByteArray):Nat→List Int
 | 0=>[0]
 | k+1=>if jn s k then bndTo s k else bndTo s k++[((pos s k:Nat):Int)]
def bnd (s:ByteArray)(n:Nat):List Int:=if 0<s.size then bndTo s n++[((s.size:Nat):Int)]else bndTo s n
def kl (s:ByteArray):Nat→List Int
 | 0=>[]
 | k+1=>kl s k++[kf s k]
theorem bndTo_yes {s:ByteArray}{k:Nat}(h:jn s k=true):bndTo s (k+1)=bndTo s k:=by rw[bndTo,if_pos h]
theorem bndTo_no {s:ByteArray}{k:Nat}(h:jn s k=false):bndTo s (k+1)=bndTo s k++[((pos s k:Nat):Int)]:=by rw[bndTo,if_neg (by rw[h];exact Bool.false_ne_true)]
theorem parts_jn (s:ByteArray)(m:Nat):partsB (lastOf (pref (kf s) (m+1))) (pictOf (pref (kf s) (m+1))) (oddOf (pref (kf s) (m+1))) (kf s (m+1))=!jn s (m+1) :=
 parts_joined (kf s m) (pref (kf s) m) (kf s (m+1))
theorem kl_length (s:ByteArray):∀k,(kl s k).length=k
 | 0=>rfl
 | k+1=>by simp[kl,kl_length s k]
theorem kl_at (s:ByteArray):∀(n k:Nat),k<n→(kl s n)[k]?=some (kf s k)
 | 0,k,h=>by omega
 | n+1,k,h=>by
   rw[kl]
   rcases Nat.lt_or_eq_of_le (Nat.le_of_lt_succ h)with h1 | h1
   ·rw[List.getElem?_append_left (by rw[kl_length];exact h1)];exact kl_at s n k h1
   ·subst h1;rw[List.getElem?_append_right (by rw[kl_length];exact Nat.le_refl _),kl_length];simp
theorem bndTo_len (s:ByteArray):∀k,1≤(bndTo s k).length∧(bndTo s k).length≤k+1
 | 0=>⟨Nat.le_refl _,Nat.le_refl _⟩
 | k+1=>by
   have ih:=bndTo_len s k;cases h:jn s k
   ·rw[bndTo_no h,List.length_append,List.length_singleton];omega
   ·rw[bndTo_yes h];omega
theorem bnd_len (s:ByteArray)(n:Nat):1≤(bnd s n).length∧(bnd s n).length≤n+2:=by
 have h:=bndTo_len s n;unfold bnd;split
 ·rw[List.length_append,List.length_singleton];omega
 ·omega
theorem bndTo_head (s:ByteArray):∀k,(bndTo s k)[0]?=some 0
 | 0=>rfl
 | k+1=>by
   have ih:=bndTo_head s k;have hl:=(bndTo_len s k).1;cases h:jn s k
   ·rw[bndTo_no h,List.getElem?_append_left (by omega)];exact ih
   ·rw[bndTo_yes h];exact ih
theorem bnd_head (s:ByteArray)(n:Nat):(bnd s n)[0]?=some 0:=by
 have hl:=(bndTo_len s n).1;unfold bnd;split
 ·rw[List.getElem?_append_left (by omega)];exact bndTo_head s n
 ·exact bndTo_head s n
theorem bndTo_lt (s:ByteArray):∀k,∀x∈bndTo s (k+1),x<((pos s (k+1):Nat):Int)
 | 0,x,hx=>by
   rw[bndTo_yes (k:=0) rfl]at hx;simp only[bndTo,List.mem_singleton]at hx;have:=pos_lt_succ s 0;rw[hx];omega
 | k+1,x,hx=>by
   have h1:=pos_lt_succ s (k+1);cases h:jn s (k+1)
   ·rw[bndTo_no h,List.mem_append,List.mem_singleton]at hx
    rcases hx with hx | hx
    ·have:=bndTo_lt s k x hx;omega
    ·rw[hx];omega
   ·rw[bndTo_yes h]at hx
    have:=bndTo_lt s k x hx;omega
theorem bndTo_sorted (s:ByteArray):∀k,(bndTo s k).Pairwise (· < ·)
 | 0=>by simp[bndTo]
 | k+1=>by
   have ih:=bndTo_sorted s k;cases h:jn s k
   ·rw[bndTo_no h,List.pairwise_append]
    refine⟨ih,by simp,fun a ha b hb=>?_⟩;rw[List.mem_singleton]at hb;subst hb;cases k with
    | zero=>cases h
    | succ m=>exact bndTo_lt s m a ha
   ·rw[bndTo_yes h];exact ih
theorem bnd_sorted {s:ByteArray}{n:Nat}(h:Dec.Ends s n):(bnd s n).Pairwise (· < ·):=by
 unfold bnd;split
 ·rename_i hs
  rw[List.pairwise_append];refine⟨bndTo_sorted s n,by simp,fun a ha b hb=>?_⟩;rw[List.mem_singleton]at hb;subst hb;cases n with
  | zero=>have h1:=h.1;simp only[pos]at h1;omega
  | succ m=>have:=bndTo_lt s m a ha;rw[h.1]at this;exact this
 ·exact bndTo_sorted s n
theorem bnd_last {s:ByteArray}{n:Nat}(h:Dec.Ends s n):(bnd s n)[(bnd s n).length - 1]?=some ((s.size:Nat):Int):=by
 unfold bnd;split
 ·rw[List.length_append,List.length_singleton,Nat.add_sub_cancel,List.getElem?_append_right (Nat.le_refl _)];simp
 ·rename_i hs
  have hn:n=0:=by
   cases n with
   | zero=>rfl
   | succ m=>have:=h.2 0 (Nat.succ_pos _);omega
  subst hn;have:s.size=0:=by omega
  rw[this];rfl
def best (l:List Int)(x:Int):Nat→Int
 | 0=>0
 | i+1=>if l.getD i 0≤x then l.getD i 0 else best l x i
def Cut (l:List Int)(x:Int)(k:Nat):Prop:=k≤l.length∧(∀i,i<k→l.getD i 0<x)∧(∀i,k≤i→i<l.length→x≤l.getD i 0)
theorem cut_cons {y:Int}{l:List Int}{x:Int}{k:Nat}(h:Cut l x k)(hy:y<x):Cut (y :: l) x (k+1):=by
 refine⟨by have:=h.1;simp;omega,fun i hi=>?_,fun i h1 h2=>?_⟩
 ·cases i with
  | zero=>exact hy
  | succ i=>exact h.2.1 i (by omega)
 ·cases i with
  | zero=>omega
  | succ i=>exact h.2.2 i (by omega) (by simpa using h2)
theorem cut_exists (x:Int):∀l:List Int,l.Pairwise (· < ·)→∃k,Cut l x k
 | [],_=>⟨0,Nat.le_refl _,fun i h=>by omega,fun i _ h=>by simp at h⟩
 | y :: l,h=>by
   rw[List.pairwise_cons]at h;by_cases hy:y<x
   ·obtain⟨k,hk⟩:=cut_exists x l h.2
    exact⟨k+1,cut_cons hk hy⟩
   ·refine⟨0,Nat.zero_le _,fun i hi=>by omega,fun i _ h2=>?_⟩
    cases i with
    | zero=>show x≤y;omega
    | succ i =>
      have hi:i<l.length:=by simpa using h2
      have:l.getD i 0∈l:=by simp[List.getD,hi]
      have:=h.1 _ this;show x≤l.getD i 0;omega
theorem cut_count:∀ {l:List Int} {x:Int} {k:Nat},Cut l x k→l.countP (fun y=>decide (y<x))=k
 | [],x,k,h=>by have:=h.1;simp at this;simp[this]
 | y :: l,x,k,h=>by
   cases k with
   | zero =>
     rw[List.countP_eq_zero];intro z hz;obtain⟨i,hi,rfl⟩:=List.getElem_of_mem hz;have:=h.2.2 i (Nat.zero_le _) hi;rw[List.getD,List.getElem?_eq_getElem hi]at this;simp only[Option.getD_some]at this;simp;omega
   | succ k =>
     have hy:y<x:=h.2.1 0 (Nat.succ_pos _);have hc:Cut l x k:=⟨by have:=h.1;simp at this;omega,fun i hi=>h.2.1 (i+1) (by omega),fun i h1 h2=>h.2.2 (i+1) (by omega) (by simpa using h2)⟩;rw[List.countP_cons,cut_count hc];simp[hy]
theorem sorted_lt {l:List Int}(h:l.Pairwise (· < ·)){i j:Nat}(hij:i<j)(hj:j<l.length):l.getD i 0<l.getD j 0:=by
 rw[List.pairwise_iff_getElem]at h;have:=h i j (by omega) hj hij;simpa[List.getD,hj,show i<l.length by omega] using this
theorem contains_iff {l:List Int}(hs:l.Pairwise (· < ·)){x:Int}{k:Nat}(h:Cut l x k):l.contains x=true ↔ k<l.length∧l.getD k 0=x:=by
 rw[List.contains_iff_mem];constructor
 ·intro hm
  obtain⟨i,hi,e⟩:=List.getElem_of_mem hm;have e2:l.getD i 0=x:=by simp[List.getD,hi,e]
  rcases Nat.lt_trichotomy i k with h1 | h1 | h1
  ·have:=h.2.1 i h1;omega
  ·subst h1;exact⟨hi,e2⟩
  ·have:=sorted_lt hs h1 hi
   have:=h.2.2 k (Nat.le_refl _) (by omega);omega
 ·rintro ⟨h1,h2⟩
  rw[←h2];simp[List.getD,h1]
theorem best_low {l:List Int}{x:Int}:∀ {k:Nat},(∀i,i<k→l.getD i 0≤x)→best l x (k+1 - 1)=if k=0 then 0 else l.getD (k - 1) 0
 | 0,_=>rfl
 | k+1,h=>by
   show best l x (k+1)=_;rw[best,if_pos (h k (Nat.lt_succ_self _))];simp
theorem best_stay {l:List Int}{x:Int}{k:Nat}:∀d,(∀i,k≤i→i<k+d→x<l.getD i 0)→best l x (k+d)=best l x k
 | 0,_=>rfl
 | d+1,h=>by
   rw[show k+(d+1)=(k+d)+1 from rfl,best,if_neg (by have:=h (k+d) (by omega) (by omega);omega)];exact best_stay d fun i h1 h2=>h i h1 (by omega)
theorem best_found {l:List Int}(hs:l.Pairwise (· < ·)){x:Int}{k:Nat}(hk:k<l.length)(e:l.getD k 0=x):best l x l.length=x:=by
 have h1:best l x (k+1)=x:=by rw[best,if_pos (by omega),e]
 have h2:=best_stay (l:=l) (x:=x) (k:=k+1) (l.length - (k+1)) (fun i h3 h4=>by
  have:=sorted_lt hs (show k<i by omega) (by omega);omega)
 rw[show k+1+(l.length - (k+1))=l.length by omega]at h2;rw[h2,h1]
theorem best_below {l:List Int}{x:Int}{k:Nat}(h:Cut l x k)(hne:∀i,k≤i→i<l.length→l.getD i 0≠x):best l x l.length=if k=0 then 0 else l.getD (k - 1) 0:=by
 have h2:=best_stay (l:=l) (x:=x) (k:=k) (l.length - k) (fun i h3 h4=>by
  have:=h.2.2 i h3 (by omega)
  have:=hne i h3 (by omega)
  omega)
 rw[show k+(l.length - k)=l.length by have:=h.1;omega]at h2;rw[h2];exact best_low (k:=k) fun i hi=>by have:=h.2.1 i hi;omega
def snapL (l:List Int)(x:Int)(up:Bool)(k:Nat):Int:=if l.contains x || up then l.getD k 0 else l.getD (k - 1) 0
structure Rises (l:List Int)(z:Int):Prop where
 sorted:l.Pairwise (· < ·)
 head:l[0]?=some 0
 last:l[l.length - 1]?=some z
theorem rises_bnd {s:ByteArray}{n:Nat}(h:Dec.Ends s n):Rises (bnd s n) ((s.size:Nat):Int):=⟨bnd_sorted h,bnd_head s n,bnd_last h⟩
theorem Rises.head0 {l:List Int}{z:Int}(h:Rises l z):l.getD 0 0=0:=by rw[List.getD,h.head];rfl
theorem Rises.len {l:List Int}{z:Int}(h:Rises l z):0<l.length:=by
 have:=h.head;cases l with
 | nil=>cases this
 | cons _ _=>exact Nat.succ_pos _
theorem Rises.cut_lt {l:List Int}{z x:Int}{k:Nat}(h:Rises l z)(hc:Cut l x k)(hx:x≤z):k<l.length:=by
 rcases Nat.lt_or_eq_of_le hc.1 with h1 | h1
 ·exact h1
 ·have h0:=h.len
  have h2:=hc.2.1 (l.length - 1) (by omega);rw[List.getD,h.last]at h2;simp only[Option.getD_some]at h2;omega
theorem Rises.cut_pos {l:List Int}{z x:Int}{k:Nat}(h:Rises l z)(hc:Cut l x k)(hx:0≤x)(hn:l.contains x=false):0<k:=by
 rcases Nat.eq_zero_or_pos k with h1 | h1
 ·subst h1
  have h2:=hc.2.2 0 (Nat.le_refl _) h.len;have h3:=h.head0;have:l.contains x=true:=(contains_iff h.sorted hc).2 ⟨h.len,by omega⟩;rw[hn]at this;cases this
 ·exact h1
theorem not_there {l:List Int}{x:Int}{k:Nat}(hn:l.contains x=false):∀i,k≤i→i<l.length→l.getD i 0≠x:=fun i _ h2 e=>by
 have:l.contains x=true:=by
  rw[List.contains_iff_mem,←e];simp[List.getD,h2]
 rw[hn]at this;cases this
theorem snap_down {l:List Int}{z x:Int}{k:Nat}(h:Rises l z)(hc:Cut l x k)(hx:0≤x):best l x l.length=snapL l x false k:=by
 unfold snapL;rw[Bool.or_false];cases hn:l.contains x
 ·rw[best_below hc (not_there hn),if_neg (by have:=h.cut_pos hc hx hn;omega)]
  rfl
 ·obtain⟨h1,h2⟩:=(contains_iff h.sorted hc).1 hn
  rw[best_found h.sorted h1 h2,if_pos rfl,h2]
theorem snap_same {l:List Int}{z x:Int}{k:Nat}(h:Rises l z)(hc:Cut l x k)(hx:0≤x)(hb:best l x l.length=x):snapL l x true k=x:=by
 unfold snapL;rw[Bool.or_true,if_pos rfl];cases hn:l.contains x
 ·have hp:=h.cut_pos hc hx hn
  rw[best_below hc (not_there hn),if_neg (by omega)]at hb;have:=hc.2.1 (k - 1) (by omega);omega
 ·exact((contains_iff h.sorted hc).1 hn).2
theorem snap_up {l:List Int}{x:Int}{k:Nat}:snapL l x true k=l.getD k 0:=by
 unfold snapL;rw[Bool.or_true,if_pos rfl]
end Go.Proofs.YtnakejhohdbfdaaGreatDoor.Bnd

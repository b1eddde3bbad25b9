import Derived.Test.YtnakejhohdbfdacGreatDoorKDcS
import Derived.Test.YtnakejhohdbfdacGreatDoorKFtB
import Derived.WalkKit
import Derived.Deep.RegionHeldLaw
import Derived.Deep.RegionLawGrows
import Derived.Ground.Names2Prog
import Derived.Ground.SlgmProg
import Derived.Ground.SlgnProg
import Derived.Shelf.Slices.Cells
import Derived.Shelf.Slices.Clone
import Derived.Shelf.Slices.Empties
import Derived.Shelf.Slices.Reverse
import Derived.Shelf.Slices.SearchI
import Derived.Shelf.Slices.Turned
import Derived.Shelf.SlicesE.Clone
import Derived.Shelf.Unicode.DecodeSlow
import Derived.Shelf.Utf8.RuneCount
import Derived.Test.YtnakejhohdbfdacGreatDoorKLvLaw
import Derived.Test.YtnakejhohdbfdacGreatDoorKPwD
import Derived.Test.YtnakejhohdbfdacGreatDoorKMm
namespace Go.Proofs.YtnakejhohdbfdacGreatDoor.Cls.Dc
open Go.RowKit Dec Kin Bnd Lay Lev
def unsB (c:Int):Bool:=c == 8 || gone c || ini c || c == 22
theorem unseen_any (c:Int)(w:World):Calls Tryz.prog 153 #[.int .i64 c] w fun e w'=>e=.returned (.bool (unsB c))∧w'=w:=by
 have H1:=hide (fn76_any c w);have H2:=hide (fn89_any c w);obtain⟨r,hr⟩:∃r,r=unsB c:=⟨_,rfl⟩;rw[←hr];by_cases h8:c=8
 ·subst h8
  have HR:=hide (show r=true by rw[hr];rfl);clear hr H1 H2;go_enter Tryz.func153,Tryz.ntmps153;go_wp2;go_ret;rw[HR.out];exact⟨rfl,rfl⟩
 ·have h8b:(c == 8)=false:=by simpa using h8
  have hr2:r=(gone c || (ini c || c == 22)):=by rw[hr,unsB,h8b,Bool.false_or,Bool.or_assoc]
  have HR:=hide hr2;clear hr hr2;generalize gone c=g1 at *;generalize (ini c || c == 22)=g2 at *;cases g1 <;> cases g2
  all_goals (
   go_enter Tryz.func153,Tryz.ntmps153
   go_wp2_with (first
    | (go_at_call 196;refine H1.out.mono ?_;rintro e w' ⟨rfl,rfl⟩)
    | (go_at_call 198;refine H2.out.mono ?_;rintro e w' ⟨rfl,rfl⟩))
   go_ret
   rw[HR.out]
   exact⟨rfl,rfl⟩)
def wdOf (r na wi:Int):Int:=if unsB (Tabs.look Tabs.classTab r)then 0 else if 4352≤r then wi else na
theorem widthOf_any (r na wi:Int)(w:World)(h3:TabAt w 1 Tabs.lowTab)(h4:TabAt w 2 Tabs.highTab) :
 Calls Tryz.prog 122 #[.int .i32 r,.agg #[.int .i64 na,.int .i64 wi]] w fun e w'=>e=.returned (.int .i64 (wdOf r na wi))∧Below w.heap.size w w':=by
 obtain⟨w1,hw1⟩:∃w1,w1=w.alloc (.cells #[.int .i64 na,.int .i64 wi] 56):=⟨_,rfl⟩;have HB1:=hide (show Below w.heap.size w w1 by rw[hw1];exact(Below.refl _ w).alloc (Nat.le_refl _) _);have HO1:=hide (show w1.heap[w.heap.size]?=some (.cells #[.int .i64 na,.int .i64 wi] 56 (0,0)) by rw[hw1];exact World.alloc_heap_new w _);have H22:=hide (fn22_any r w1 (h3.below (h3.lt (by decide)) HB1.out) (h4.below (h4.lt (by decide)) HB1.out));obtain⟨x,hx⟩:∃x,x=wdOf r na wi:=⟨_,rfl⟩;rw[←hx];unfold wdOf at hx;generalize Tabs.look Tabs.classTab r=c at *;have H153:=hide (fun(Y:World)=>unseen_any c Y);have HX:=hide hx;clear hx h3 h4;go_enter Tryz.func122,Tryz.ntmps122;go_wp2_with fail;rw[←hw1];clear hw1;refine H22.out.mono ?_;rintro e w2 ⟨rfl,hb2⟩;have HB2:=hide (HB1.out.trans (hb2.mono HB1.out.size));have c0:w2.cell? ⟨w.heap.size,0,none⟩=some (.int .i64 na):=by
  have h:=(hb2.block w.heap.size (by have:=(Array.getElem?_eq_some_iff.1 HO1.out).1;exact this)).trans HO1.out;simp[World.cell?,h]
 have c1:w2.cell? ⟨w.heap.size,1,none⟩=some (.int .i64 wi):=by
  have h:=(hb2.block w.heap.size (by have:=(Array.getElem?_eq_some_iff.1 HO1.out).1;exact this)).trans HO1.out;simp[World.cell?,h]
 clear hb2 H22;go_wp2_with fail;refine(H153.out w2).mono ?_;rintro e w3 ⟨rfl,rfl⟩;generalize unsB c=u at *;cases u
 ·by_cases hr:4352≤r
  ·have hx:=HX.out
   rw[if_neg Bool.false_ne_true,if_pos hr]at hx;have HX2:=hide hx;clear hx HX;go_wp2;go_ret;rw[HX2.out];exact⟨rfl,HB2.out⟩
  ·have hx:=HX.out
   rw[if_neg Bool.false_ne_true,if_neg hr]at hx;have HX2:=hide hx;have hrd:decide (4352≤r)=false:=by simp;omega
   clear hx HX;go_wp2;go_ret;rw[HX2.out];exact⟨rfl,HB2.out⟩
 ·have hx:=HX.out
  rw[if_pos rfl]at hx;have HX2:=hide hx;clear hx HX;go_wp2;go_ret;rw[HX2.out];exact⟨rfl,HB2.out⟩
def wdL (s:ByteArray)(na wi:Int)(k:Nat):List Int:=(List.range k).map fun j=>wdOf (rune s j) na wi
theorem wdL_len (s:ByteArray)(na wi:Int)(k:Nat):(wdL s na wi k).length=k:=by simp[wdL]
theorem wdL_snoc (s:ByteArray)(na wi:Int)(k:Nat):ints64 (wdL s na wi k)++[.int .i64 (wdOf (rune s k) na wi)]=ints64 (wdL s na wi (k+1)):=by
 simp[wdL,ints64,List.range_succ]
set_option maxHeartbeats 4000000 in
theorem widthsOf_any (s:ByteArray)(na wi:Int)(w:World)(hs:s.size≤1000000)(h3:TabAt w 1 Tabs.lowTab)(h4:TabAt w 2 Tabs.highTab) :
 Calls Tryz.prog 85 #[.string s,.agg #[.int .i64 na,.int .i64 wi]] w fun e w'=>∃n v,Dec.Ends s n∧e=.returned v∧w'.ownsRow w.heap.size 3 1 v n (ints64 (wdL s na wi n))∧Below w.heap.size w w':=by
 obtain⟨i0,hi,hz0,hz1,hz2⟩:=info_parts info3;have HT3:=hide (fun(A:World) (hb:Below w.heap.size w A)=>h3.below (h3.lt (by decide)) hb);have HT4:=hide (fun(A:World) (hb:Below w.heap.size w A)=>h4.below (h4.lt (by decide)) hb);obtain⟨w1,hw1⟩:∃w1,w1=w.alloc (.cells #[.int .i64 na,.int .i64 wi] 56):=⟨_,rfl⟩;have HB1:=hide (show Below w.heap.size w w1 by rw[hw1];exact(Below.refl _ w).alloc (Nat.le_refl _) _);have HO1:=hide (show w1.heap[w.heap.size]?=some (.cells #[.int .i64 na,.int .i64 wi] 56 (0,0)) by rw[hw1];exact World.alloc_heap_new w _);have hsz1:w1.heap.size=w.heap.size+1:=by rw[hw1,World.size_alloc]
 have HSZ:=hide hsz1;have HW1:=hide hw1;clear h3 h4;go_enter Tryz.func85,Tryz.ntmps85;go_wp2_with fail;rw[←hw1];clear hw1 hsz1;go_loopw [5] (fun v wr=>∃k p:Nat,p≤s.size∧k≤p∧wr.heap[(w.heap.size+1)]?=some (.stringIter s p)∧Hid (p=pos s k)∧Hid (∀j,j<k→pos s j<s.size)∧Hid (wr.ownsRow ((w.heap.size+1)+1) 3 1 v k (ints64 (wdL s na wi k)))∧Hid (Below (w.heap.size+1) w1 wr)) (fun _ wr=>s.size - wr.iterPos (w.heap.size+1))
 case atStart=>exact⟨0,0,Nat.zero_le _,Nat.le_refl _,by have h:=World.iter_heap w1 s 0;rw[HSZ.out]at h;exact h,hide rfl,hide (fun j hj=>absurd hj (Nat.not_lt_zero _)),hide (World.ownsRow_nil _ _ _ _),hide ((Below.refl _ _).alloc (by rw[HSZ.out];exact Nat.le_refl _) _)⟩
 case round =>
  obtain⟨k,p,hp,hkp,hit,HP,HJ,HO,HB⟩:=hrel;by_cases hlt:p<s.size
  ·have hw1:=width_pos s p
   have hw2:=width_le s p hlt;have hnx:=fun ty=>Lib.run_next_any_at (P:=Tryz.prog) wr (w.heap.size+1) s p ty hit hlt
   have HR:Hid (((Utf8.decode s p).1:Nat)=rune s k):=by rw[HP.out];rfl
   have HQ:Hid (p+(Utf8.decode s p).2=pos s (k+1)):=by rw[HP.out];rfl
   generalize (Utf8.decode s p).1=r at hnx HR;generalize (Utf8.decode s p).2=n at hnx HQ hw1 hw2;have hJ2:Hid (∀j,j<k+1→pos s j<s.size):=by
    intro j hj
    rcases Nat.lt_or_eq_of_le (Nat.le_of_lt_succ hj)with h1 | h1
    ·exact HJ.out j h1
    ·rw[h1,←HP.out];exact hlt
   have HI:=hide (Lib.iterAt_heap wr (w.heap.size+1) s p (p+n) hit);have HBI:=hide (Lib.below_iterAt HB.out (Nat.le_refl _) s (p+n));have HOI:=hide (ownsRow_iterAt HO.out (Nat.lt_succ_self _) s (p+n));have HIT:=hide hit;generalize wr.iterAt (w.heap.size+1) s (p+n)=wi2 at hnx HI HBI HOI;have hwi:(w.heap.size+1)<wi2.heap.size:=(Array.getElem?_eq_some_iff.1 HI.out).1;have HOb:=hide ((HBI.out.block w.heap.size (by omega)).trans HO1.out);have d0:wi2.cell? ⟨w.heap.size,0,none⟩=some (.int .i64 na):=by have h:=HOb.out;simp[World.cell?,h]
   have d1:wi2.cell? ⟨w.heap.size,1,none⟩=some (.int .i64 wi):=by have h:=HOb.out;simp[World.cell?,h]
   have HBW:=hide (HB1.out.trans (HBI.out.mono (by omega)));have H122:=hide (widthOf_any (r:Nat) na wi wi2 (HT3.out wi2 HBW.out) (HT4.out wi2 HBW.out));obtain⟨y,hy⟩:∃y,y=wdOf ((r:Nat):Int) na wi:=⟨_,rfl⟩;rw[←hy]at H122;have HY:=hide hy;clear hit HO hy;go_wp2_with fail;refine H122.out.mono ?_;rintro e w4 ⟨rfl,hb4⟩;have HI4:=hide ((hb4.block (w.heap.size+1) hwi).trans HI.out);have HB4:=hide (HBI.out.trans (hb4.mono (by omega)));have HO4:=hide ((owns_below HOI.out hb4).alloc (.cells #[.int .i64 y] 3));have hsz4:(w.heap.size+1)<w4.heap.size:=Nat.lt_of_lt_of_le hwi hb4.size;have HBA:=hide (HB4.out.alloc (by omega) (.cells #[.int .i64 y] 3));clear hb4 H122 d0 d1;go_wp2_with (at_builtin;refine wpList_append_own _ rfl _ _ 32 rfl ((w.heap.size+1)+1) 3 i0 _ 1 8 Tryz.underlying32 hi hz0 hz1 hz2 rfl (by decide) _ _ _ rfl HO4.out ⟨w4.heap.size,0,none⟩ 1 1 [.int .i64 y] rfl rfl (cell_one_new _ _ _) (one_cell _) (by unfold maxLen;omega) (by omega) (by simp;omega) ?_);intro v' w5 own5 hgrow hnil;have HO5:Hid (w5.ownsRow ((w.heap.size+1)+1) 3 1 v' (k+1) (ints64 (wdL s na wi (k+1)))):=by
    rw[←wdL_snoc,←HR.out,←HY.out];exact own5
   have HB5:Hid (Below (w.heap.size+1) w1 w5):=HBA.out.grown hgrow (by simp;omega) (by intro g hg;have:=(HO4.out.lt g hg).1;omega);have HI5:Hid (w5.heap[(w.heap.size+1)]?=some (.stringIter s (p+n))):=by
    rw[hgrow.block _ (by simp;omega) (fun e=>by have:=(HO4.out.lt _ e.symm).1;omega)];exact(Lib.alloc_old _ _ _ hsz4).trans HI4.out
   clear own5 hgrow hnil HO4 HBA;go_wp2;go_roundw
   case rel=>exact⟨k+1,p+n,by omega,by omega,HI5.out,HQ,hJ2,HO5,HB5⟩
   case measure=>rw[iterPos_of HI5.out,iterPos_of HIT.out];omega
  ·have hnx:=fun ty=>Lib.run_next_end_at (P:=Tryz.prog) wr (w.heap.size+1) s p ty hit hlt
   have HE:Hid (Dec.Ends s k):=⟨by rw[←HP.out];omega,HJ.out⟩;have HO2:=hide (owns_low HO.out (show w.heap.size≤(w.heap.size+1)+1 by omega));have HB2:=hide (HB1.out.trans (HB.out.mono (by omega)));clear hit;go_wp2;go_ret;exact⟨k,_,HE.out,rfl,HO2.out,HB2.out⟩
theorem bld_below {T e:TypeId}{B b:Nat}{bs:List Value}{W W':World}(h:Lib.IsBuilderF T e B b bs W)(hb:Below W.heap.size W W'):Lib.IsBuilderF T e B b bs W':=by
 have key:∀ {p:Value},Lib.BuilderAtF T e B b p bs W→Lib.BuilderAtF T e B b p bs W':=fun h=>by
  have hlt:=h.lt;obtain⟨hB,v,hv,hown,hne⟩:=h;exact⟨hB,v,(hb.block b hlt).trans hv,hown.kept (row:=none) ⟨hb.os,hb.tape,hb.output,hb.size,fun k hk _=>hb.block k hk⟩ (Classical.em _),hne⟩
 exact h.elim (fun x=>.inl (key x)) (fun x=>.inr (key x))
def clr (r:Int):Int:=if Tabs.look Tabs.classTab r=10 then 32 else r
def clb (s:ByteArray):Nat→List UInt8
 | 0=>[]
 | k+1=>clb s k++Lib.encodeRune (clr (rune s k))
def cln (s:ByteArray)(n:Nat):ByteArray:=⟨(clb s n).toArray⟩
theorem rune_in (s:ByteArray)(p:Nat):((Utf8.decode s p).1:Int)≤2147483647:=by
 have:=decode_le s p;omega
set_option maxHeartbeats 4000000 in
theorem clean_any (s:ByteArray)(n:Nat)(w:World)(hs:s.size≤1000000)(hend:Dec.Ends s n)(h3:TabAt w 1 Tabs.lowTab)(h4:TabAt w 2 Tabs.highTab) :
 Calls Tryz.prog 43 #[.string s] w fun e w'=>e=.returned (.string (cln s n))∧Below w.heap.size w w':=by
 have HT3:=hide (fun(A:World) (hb:Below w.heap.size w A)=>h3.below (h3.lt (by decide)) hb);have HT4:=hide (fun(A:World) (hb:Below w.heap.size w A)=>h4.below (h4.lt (by decide)) hb);have HE:=hide hend;have HEJ:=hide (fun k (h:k<n)=>hend.2 k h);have HEN:=hide hend.1;clear h3 h4 hend;go_enter Tryz.func43,Tryz.ntmps43;go_wp2;go_loopw [] (fun wr=>∃k p:Nat,p≤s.size∧k≤p∧wr.heap[w.heap.size+1]?=some (.stringIter s p)∧Hid (p=pos s k)∧Hid (k≤n)∧Hid (Lib.IsBuilderF 172 5 w.heap.size w.heap.size (Lib.byteCells (clb s k)) wr)∧Hid (Below w.heap.size w wr)∧Hid ((clb s k).length≤4 * k)) (fun wr=>s.size - wr.iterPos (w.heap.size+1))
 case atStart =>
  refine⟨0,0,Nat.zero_le _,Nat.le_refl _,?_,hide rfl,hide (Nat.zero_le _),hide ((Lib.IsBuilderF.of (Lib.fresh_isBuilder 172 5 w)).alloc _),hide (((Below.refl _ w).alloc (Nat.le_refl _) _).alloc (by simp) _),hide (Nat.le_refl _)⟩;have:=World.iter_heap (w.alloc (.cells #[.pointer none,.slice none 0 0] 172)) s 0;simpa using this
 case round =>
  obtain⟨k,p,hp,hkp,hit,HP,HK,HI,HB,HL⟩:=hrel;have hszB:w.heap.size≤wr.heap.size:=HB.out.size;by_cases hlt:p<s.size
  ·have hw1:=width_pos s p
   have hw2:=width_le s p hlt;have hrb:=rune_in s p;have hnx:=fun ty=>Lib.run_next_any_at (P:=Tryz.prog) wr (w.heap.size+1) s p ty hit hlt
   have HR:Hid (((Utf8.decode s p).1:Nat)=rune s k):=by rw[HP.out];rfl
   have HQ:Hid (p+(Utf8.decode s p).2=pos s (k+1)):=by rw[HP.out];rfl
   have HKn:Hid (k<n):=by
    rcases Nat.lt_or_eq_of_le HK.out with h | h
    ·exact h
    ·have h1:=HP.out
     rw[h,HEN.out]at h1;omega
   generalize (Utf8.decode s p).1=r at hnx HR hrb;generalize (Utf8.decode s p).2=m at hnx HQ hw1 hw2;have HIt:=hide (Lib.iterAt_heap wr (w.heap.size+1) s p (p+m) hit);have HBI:=hide (Lib.below_iterAt HB.out (show w.heap.size≤w.heap.size+1 by omega) s (p+m));have HII:=hide (HI.out.iterAt hit (p+m));have HIT:=hide hit;generalize wr.iterAt (w.heap.size+1) s (p+m)=wi at hnx HIt HBI HII;have H22:=hide (fn22_any ((r:Nat):Int) wi (HT3.out wi HBI.out) (HT4.out wi HBI.out));have HCR:=hide (show clr ((r:Nat):Int)=if Tabs.look Tabs.classTab ((r:Nat):Int)=10 then 32 else((r:Nat):Int)from rfl);have hwi:w.heap.size+1<wi.heap.size:=(Array.getElem?_eq_some_iff.1 HIt.out).1;generalize Tabs.look Tabs.classTab ((r:Nat):Int)=c at *;clear hit;go_wp2_with fail;refine H22.out.mono ?_;rintro e w4 ⟨rfl,hb4⟩;have HI4:=hide (bld_below HII.out hb4);have HB4:=hide (HBI.out.trans (hb4.mono HBI.out.size));have HIt4:=hide ((hb4.block (w.heap.size+1) hwi).trans HIt.out);have hsz4:w.heap.size≤w4.heap.size:=by have:=hb4.size;omega
   clear hb4 H22;by_cases hc:c=10
   case' pos =>
    subst hc;have hcr:=HCR.out;rw[if_pos rfl]at hcr;have HC2:=hide hcr;have C81:=hide (Tryz.Builder_WriteRune_k w.heap.size w.heap.size _ 32 (by decide) (by decide) w4 HI4.out (by rw[Lib.byteCells_length];have:=HL.out;omega) hsz4);clear hcr HCR
   case' neg =>
    have hcb:(c == 10)=false:=by simpa using hc
    have hcr:=HCR.out;rw[if_neg hc]at hcr;have HC2:=hide hcr;have C81:=hide (Tryz.Builder_WriteRune_k w.heap.size w.heap.size _ ((r:Nat):Int) (by omega) hrb w4 HI4.out (by rw[Lib.byteCells_length];have:=HL.out;omega) hsz4);clear hcr HCR
   all_goals (
    go_wp2_with fail
    refine C81.out.mono ?_
    rintro e w5 ⟨rfl,h1,b1,k1⟩
    have HI5:=hide (show Lib.IsBuilderF 172 5 w.heap.size w.heap.size (Lib.byteCells (clb s (k+1))) w5 by
     rw[clb,←HR.out,HC2.out,Lib.byteCells_append,Lib.byteCells_encodeRune]
     exact .inr h1)
    have HB5:=hide (HB4.out.trans b1)
    have HIt5:=hide (k1.iter HIt4.out (by omega))
    have HL5:=hide (show(clb s (k+1)).length≤4 * (k+1) by
     have hl4:=Lib.runeCells_le (clr (rune s k))
     rw[Lib.runeCells_length]at hl4
     have:=HL.out
     rw[clb,List.length_append]
     omega)
    clear h1 b1 k1 C81
    go_wp2
    go_roundw
    case rel=>exact⟨k+1,p+m,by omega,by omega,HIt5.out,HQ,hide HKn.out,HI5,HB5,HL5⟩
    case measure=>rw[iterPos_of HIt5.out,iterPos_of HIT.out];omega)
  ·have hnx:=fun ty=>Lib.run_next_end_at (P:=Tryz.prog) wr (w.heap.size+1) s p ty hit hlt
   have HKE:Hid (k=n):=by
    rcases Nat.lt_or_eq_of_le HK.out with h | h
    ·have h1:=HEJ.out k h
     have h2:=HP.out;omega
    ·exact h
   have C82:=hide (Tryz.Builder_String_any_k w.heap.size w.heap.size (clb s k) wr HI.out hszB);clear hit;go_wp2_with fail;refine C82.out.mono ?_;rintro e w5 ⟨rfl,_,b1,_⟩;have HB5:=hide (HB.out.trans b1);clear b1 C82;go_wp2;go_ret;rw[←HKE.out];exact⟨rfl,HB5.out⟩
end Go.Proofs.YtnakejhohdbfdacGreatDoor.Cls.Dc
namespace Go.Proofs.YtnakejhohdbfdacGreatDoor.Bnd
open Go Dec Kin
def best (l:List Int)(x:Int):Nat→Int
 | 0=>0
 | i+1=>if l.getD i 0≤x then l.getD i 0 else best l x i
theorem best_low {l:List Int}{x:Int}:∀ {k:Nat},(∀i,i<k→l.getD i 0≤x)→best l x (k+1 - 1)=if k=0 then 0 else l.getD (k - 1) 0
 | 0,_=>rfl
 | k+1,h=>by
   show best l x (k+1)=_;rw[best,if_pos (h k (Nat.lt_succ_self _))];simp
theorem best_stay {l:List Int}{x:Int}{k:Nat}:∀d,(∀i,k≤i→i<k+d→x<l.getD i 0)→best l x (k+d)=best l x k
 | 0,_=>rfl
 | d+1,h=>by
   rw[show k+(d+1)=(k+d)+1 from rfl,best,if_neg (by have:=h (k+d) (by omega) (by omega);omega)];exact best_stay d fun i h1 h2=>h i h1 (by omega)
theorem best_found {l:List Int}(hs:l.Pairwise (· < ·)){x:Int}{k:Nat}(hk:k<l.length)(e:l.getD k 0=x):best l x l.length=x:=by
 have h1:best l x (k+1)=x:=by rw[best,if_pos (by omega),e]
 have h2:=best_stay (l:=l) (x:=x) (k:=k+1) (l.length - (k+1)) (fun i h3 h4=>by
  have:=sorted_lt hs (show k<i by omega) (by omega);omega)
 rw[show k+1+(l.length - (k+1))=l.length by omega]at h2;rw[h2,h1]
theorem best_below {l:List Int}{x:Int}{k:Nat}(h:Cut l x k)(hne:∀i,k≤i→i<l.length→l.getD i 0≠x):best l x l.length=if k=0 then 0 else l.getD (k - 1) 0:=by
 have h2:=best_stay (l:=l) (x:=x) (k:=k) (l.length - k) (fun i h3 h4=>by
  have:=h.2.2 i h3 (by omega)
  have:=hne i h3 (by omega)
  omega)
 rw[show k+(l.length - k)=l.length by have:=h.1;omega]at h2;rw[h2];exact best_low (k:=k) fun i hi=>by have:=h.2.1 i hi;omega
theorem not_there {l:List Int}{x:Int}{k:Nat}(hn:l.contains x=false):∀i,k≤i→i<l.length→l.getD i 0≠x:=fun i _ h2 e=>by
 have:l.contains x=true:=by
  rw[List.contains_iff_mem,←e];simp[List.getD,h2]
 rw[hn]at this;cases this
theorem snap_down {l:List Int}{z x:Int}{k:Nat}(h:Rises l z)(hc:Cut l x k)(hx:0≤x):best l x l.length=snapL l x false k:=by
 unfold snapL;rw[Bool.or_false];cases hn:l.contains x
 ·rw[best_below hc (not_there hn),if_neg (by have:=h.cut_pos hc hx hn;omega)]
  rfl
 ·obtain⟨h1,h2⟩:=(contains_iff h.sorted hc).1 hn
  rw[best_found h.sorted h1 h2,if_pos rfl,h2]
end Go.Proofs.YtnakejhohdbfdacGreatDoor.Bnd
namespace Go.Proofs
open Go.Shelf Go.RowKit
def Tryz.lays108_ren:Go.Shelf.Ren:=⟨fun | 108=>102 | n=>n,fun | 28=>32 | 3=>3 | 0=>0 | 4=>4 | n=>n,fun | n=>n⟩
theorem Tryz.lays108:Go.Proofs.Lays.n108 Tryz.prog Tryz.lays108_ren:={
 mixed:=by kernel_rfl
 f108:=Tryz.func102.trans (congrArg some (by kernel_rfl))
 t0:=Tryz.underlying0
 a0:=Tryz.isAgg0
 z0:=Tryz.sizeOf0
 v0:=Tryz.zeroValue0
 t3:=Tryz.underlying3
 a3:=Tryz.isAgg3
 z3:=Tryz.sizeOf3
 v3:=Tryz.zeroValue3
 t4:=Tryz.underlying4
 a4:=Tryz.isAgg4
 z4:=Tryz.sizeOf4
 v4:=Tryz.zeroValue4
 t28:=Tryz.underlying32
 a28:=Tryz.isAgg32
 z28:=Tryz.sizeOf32
 v28:=Tryz.zeroValue32 }
theorem Tryz.slices_Index_int (b off n c:Nat)(zs:List Int)(x:Int)(w:World)(hz:n≤zs.length)(hbig:n≤9223372036854775807)(hc:∀j,j<zs.length→w.cell? ⟨b,off+j,none⟩=some (.int .i64 (zs.getD j 0))) :
 Calls Tryz.prog 102 #[.slice (some ⟨b,off,none⟩) n c,.int .i64 x] w fun e w'=>e=.returned (.int .i64 (Lib.idxOf (zs.take n) x))∧w'=w:=Any.slices_Index_int Tryz.lays108 b off n c zs x w hz hbig hc
end Go.Proofs
namespace Go.Proofs.YtnakejhohdbfdacGreatDoor
open Go.RowKit Lev Lay
def clOf (P:Nat→Nat)(ri:Nat→Nat)(Ev:Nat→Int)(W:List Int)(k:Nat):Int × Int × Int × Int:=(((P (ri k):Nat):Int),((P (ri (k+1)):Nat):Int),Ev (ri k),wid W (ri k) (ri (k+1)))
def clst (P:Nat→Nat)(ri:Nat→Nat)(Ev:Nat→Int)(W:List Int)(m:Nat):List (Int × Int × Int × Int):=(List.range m).map (clOf P ri Ev W)
end Go.Proofs.YtnakejhohdbfdacGreatDoor
namespace Go.Proofs.YtnakejhohdbfdacGreatDoor
open Go.RowKit Lev Lay
def clP (B V X:List Int)(c:Nat):List (Int × Int × Int × Int):=(List.range c).map fun i=>(nth B i,nth B (i+1),nth V i,nth X i)
end Go.Proofs.YtnakejhohdbfdacGreatDoor
namespace Go.Proofs.YtnakejhohdbfdacGreatDoor
open Go.RowKit Lev Go.Maps
end Go.Proofs.YtnakejhohdbfdacGreatDoor
namespace Go.Proofs.YtnakejhohdbfdacGreatDoor
open Go.RowKit Lev Go.Maps
end Go.Proofs.YtnakejhohdbfdacGreatDoor
namespace Go.Proofs.YtnakejhohdbfdacGreatDoor
open Go.RowKit Lev Go.Maps
set_option maxRecDepth 10000 in
theorem part_nil (w:World):Calls Tryz.prog 163 #[.slice none 0 0] w fun e w'=>e=.returned (.map (some w.heap.size))∧w'=w.alloc (.map #[] 0):=by
 have hmm:=@run_makeMap Tryz.prog;go_enter Tryz.func163,Tryz.ntmps163;go_wp2;go_loopw [4,11] (fun v a wr=>v=.slice none 0 0∧a=.int .i64 0∧wr=w.alloc (.map #[] 0)) (fun _ _ _=>0)
 case atStart=>exact⟨rfl,rfl,rfl⟩
 case round =>
  obtain⟨rfl,rfl,rfl⟩:=hrel;go_wp2;go_ret;exact⟨rfl,rfl⟩
set_option linter.unusedSimpArgs false in
set_option maxRecDepth 10000 in
set_option maxHeartbeats 2000000 in
theorem read_nil (s:ByteArray)(w:World)(hs:s.size=0):Calls Tryz.prog 135 #[.string s] w fun e w'=>e=.returned (.pointer (some ⟨w.heap.size,0,none⟩))∧QN w' w.heap.size 0∧Fr [] w w':=by
 go_enter Tryz.func135,Tryz.ntmps135;go_wp2_with fail;go_loopw [5] (fun _ wr=>wr.heap[w.heap.size+1]?=some (.stringIter s 0)∧Hid (wr.heap[w.heap.size]?=some (.cells #[.slice none 0 0,.map none,.int .i64 0] 260 (0,0)))∧Hid (Fr [] w wr)) (fun _ _=>0)
 case atStart =>
  refine⟨?_,hid ?_,hid ?_⟩
  ·have e:(w.alloc (.cells #[.slice none 0 0,.map none,.int .i64 0] 260)).heap.size=w.heap.size+1:=by simp
   rw[←e];exact World.iter_heap _ _ _
  ·exact(Lib.alloc_old _ _ _ (by simp)).trans (heap_alloc_new _ _)
  ·exact((Fr.refl _ _).alloc _).alloc _
 case round =>
  obtain⟨hit,HA,HF⟩:=hrel;have hnx:=fun ty=>Lib.run_next_end_at (P:=Tryz.prog) wr (w.heap.size+1) s 0 ty hit (by omega)
  have g0:wr.cell? ⟨w.heap.size,0,none⟩=some (.slice none 0 0):=by rw[cell_of_row _ _ 0 _ 260 (0,0) HA.out];rfl
  have HA1:=hid ((Below.heap_alloc wr (.map #[] 0) w.heap.size (Array.getElem?_eq_some_iff.1 HA.out).1).trans HA.out);have g1:(wr.alloc (.map #[] 0)).cell? ⟨w.heap.size,1,none⟩=some (.map none):=by rw[cell_of_row _ _ 1 _ 260 (0,0) HA1.out];rfl
  have g2:=frozen_of_row (wr.alloc (.map #[] 0)) w.heap.size 1 _ 260 HA1.out;go_wp2_with (first | (go_at_call 163;refine(part_nil _).mono ?_;rintro e w1 ⟨rfl,rfl⟩));go_ret;refine⟨rfl,⟨wr.heap.size,?_⟩,?_⟩
  ·rw[heap_setCell_same _ _ 1 _ 260 _ HA1.out];rfl
  ·exact(HF.out.alloc _).behind (fr_set1 _ _ 1 _) (fun k hk=>by rw[List.mem_singleton.1 hk];exact Nat.le_refl _)
set_option maxRecDepth 10000 in
theorem starts_nil (P:Nat)(w:World):Calls Tryz.prog 164 #[.pointer (some ⟨P,0,none⟩),.int .i64 0,.int .i64 0] w fun e w'=>e=.returned (.bool false)∧w'=w:=by
 go_enter Tryz.func164,Tryz.ntmps164;go_wp2;go_loopw [7] (fun a wr=>a=.int .i64 0∧wr=w) (fun _ _=>0)
 case atStart=>exact⟨rfl,rfl⟩
 case round =>
  obtain⟨rfl,rfl⟩:=hrel;go_wp2;go_ret;exact⟨rfl,rfl⟩
set_option maxRecDepth 10000 in
set_option maxHeartbeats 2000000 in
theorem from_nil (P:Nat)(b:Int)(w:World)(h:QN w P 0)(hb:b=0∨b=1∨b=2):Calls Tryz.prog 136 #[.pointer (some ⟨P,0,none⟩),.int .i64 b] w fun e w'=>e=.returned (.int .i64 (baseOf [] b))∧w'=w:=by
 have c0:=h.c0;clear h
 rcases hb with rfl | rfl | rfl
 all_goals (
  go_enter Tryz.func136,Tryz.ntmps136
  go_wp2_with (first | (go_at_call 164;refine(starts_nil _ _).mono ?_;rintro e w1 ⟨rfl,rfl⟩) | (go_at_call 165;refine(fn45_any _ _).mono ?_;rintro e w1 ⟨rfl,rfl⟩))
  go_ret
  exact⟨rfl,rfl⟩)
set_option maxRecDepth 10000 in
set_option maxHeartbeats 2000000 in
theorem embed_nil (P:Nat)(lv:Int)(w:World)(h:QN w P lv):Calls Tryz.prog 137 #[.pointer (some ⟨P,0,none⟩)] w fun e w'=>e=.returned (.tuple #[])∧Fr [] w w':=by
 have c0:=h.c0;have c2:=h.c2;have hp:=World.block_lt_of_cell? _ _ c2;dsimp only at hp;clear h;go_enter Tryz.func137,Tryz.ntmps137;go_wp2;obtain⟨W,hW⟩:∃W,(w.alloc (.cells #[.int .i64 lv,.int .i64 (-1),.bool false] 284)).alloc (.cells #[.slice (some ⟨w.heap.size,0,none⟩) 1 1,.int .i64 0,.int .i64 0,.int .i64 0] 287)=W:=⟨_,rfl⟩;have HF:=hid (show Fr [] w W by rw[←hW];exact((Fr.refl _ _).alloc _).alloc _);rw[hW];clear hW;go_loopw [17] (fun a wr=>a=.int .i64 0∧wr=W) (fun _ _=>0)
 case atStart=>exact⟨rfl,rfl⟩
 case round =>
  obtain⟨rfl,rfl⟩:=hrel;go_wp2;go_end0;exact⟨rfl,HF.out⟩
set_option maxRecDepth 10000 in
set_option maxHeartbeats 2000000 in
theorem runs_nil (P:Nat)(lv:Int)(w:World)(h:QN w P lv):Calls Tryz.prog 172 #[.pointer (some ⟨P,0,none⟩)] w fun e w'=>e=.returned (.slice none 0 0)∧w'=w:=by
 have c0:=h.c0;clear h;go_enter Tryz.func172,Tryz.ntmps172;go_wp2;go_loopw [3,12] (fun v a wr=>v=.slice none 0 0∧a=.int .i64 0∧wr=w) (fun _ _ _=>0)
 case atStart=>exact⟨rfl,rfl,rfl⟩
 case round =>
  obtain⟨rfl,rfl,rfl⟩:=hrel;go_wp2;go_ret;exact⟨rfl,rfl⟩
set_option maxRecDepth 10000 in
set_option maxHeartbeats 2000000 in
theorem seqs_nil (P:Nat)(lv:Int)(w:World)(h:QN w P lv):Calls Tryz.prog 138 #[.pointer (some ⟨P,0,none⟩)] w fun e w'=>e=.returned (.slice none 0 0)∧w'=w.alloc (.map #[] 0):=by
 have hmm:=@run_makeMap Tryz.prog;have HR:=hid (runs_nil P lv w h);clear h;go_enter Tryz.func138,Tryz.ntmps138;go_wp2_with (first | (go_at_call 172;refine HR.out.mono ?_;rintro e w1 ⟨rfl,rfl⟩));go_loopw [4,17] (fun v a wr=>v=.slice none 0 0∧a=.int .i64 0∧wr=w1.alloc (.map #[] 0)) (fun _ _ _=>0)
 case atStart=>exact⟨rfl,rfl,rfl⟩
 case round =>
  obtain⟨rfl,rfl,rfl⟩:=hrel;go_wp2;go_ret;exact⟨rfl,rfl⟩
set_option maxRecDepth 10000 in
set_option maxHeartbeats 2000000 in
theorem pass_nil (P:Nat)(lv:Int)(w:World)(h:QN w P lv):Calls Tryz.prog 143 #[.pointer (some ⟨P,0,none⟩)] w fun e w'=>e=.returned (.tuple #[])∧w'=w:=by
 have c0:=h.c0;have c2:=h.c2;clear h;go_enter Tryz.func143,Tryz.ntmps143;go_wp2;go_loopw [2,13] (fun x a wr=>x=.int .i64 lv∧a=.int .i64 0∧wr=w) (fun _ _ _=>0)
 case atStart=>exact⟨rfl,rfl,rfl⟩
 case round =>
  obtain⟨rfl,rfl,rfl⟩:=hrel;go_wp2;go_end0;exact⟨rfl,rfl⟩
set_option maxRecDepth 10000 in
set_option maxHeartbeats 2000000 in
theorem levels_nil (P:Nat)(lv:Int)(w:World)(h:QN w P lv):Calls Tryz.prog 144 #[.pointer (some ⟨P,0,none⟩)] w fun e w'=>(∃g,e=.returned (.slice (some ⟨g,0,none⟩) 0 0))∧Fr [] w w':=by
 have c0:=h.c0;have hp:=World.block_lt_of_cell? _ _ c0;dsimp only at hp;obtain⟨i3,hi3,hz30,hz31,hz32⟩:=info_parts info3;obtain⟨ZL,hZL⟩:∃ZL,ZL=madeCells #[.int .i64 0] 0:=⟨_,rfl⟩;have hmk1:∀X:World,(Instr.makeSlice 32 (.int .i64 0) (.int .i64 0)).run Tryz.prog X=.ok (.slice (some ⟨X.heap.size,0,none⟩) 0 0) (X.alloc (.cells ZL 3)):=fun X=>by
  have:=run_make (P:=Tryz.prog) X 32 3 i3 _ Tryz.underlying32 hi3 hz30 .i64 .i64 0 0 (by omega) (Int.le_refl _) (by rw[hz32];omega) (by omega);rw[hz31]at this;rw[hZL];exact this
 clear h hZL;go_enter Tryz.func144,Tryz.ntmps144;go_wp2;go_loopw [17] (fun a wr=>a=.int .i64 0∧wr=w.alloc (.cells ZL 3)) (fun _ _=>0)
 case atStart=>exact⟨rfl,rfl⟩
 case round =>
  obtain⟨rfl,rfl⟩:=hrel;go_wp2;go_ret;exact⟨⟨_,rfl⟩,(Fr.refl _ _).alloc _⟩
set_option maxRecDepth 10000 in
set_option maxHeartbeats 4000000 in
theorem of_nil (s:ByteArray)(b:Int)(w:World)(hs:s.size=0)(hb:b=0∨b=1∨b=2) :
 Calls Tryz.prog 111 #[.string s,.int .i64 b] w fun e w'=>∃g,e=.returned (.tuple #[.slice (some ⟨g,0,none⟩) 0 0,.int .i64 (baseOf [] b)])∧Fr [] w w':=by
 have H65:=hid (read_nil s w hs);have H66:=hid (fun Y h=>from_nil w.heap.size b Y h hb);generalize baseOf [] b=lv at *;clear hs hb;go_enter Tryz.func111,Tryz.ntmps111;go_wp2_with fail;refine H65.out.mono ?_;rintro e w1 ⟨rfl,hq1,hf1⟩;have H66b:=hid (H66.out w1 hq1);have HQ1:=hid hq1;have HF1:=hid hf1;have c2:=hq1.c2;have f2:=hq1.f2;have hPl:=World.block_lt_of_cell? _ _ c2;dsimp only at hPl;clear H65 H66 hq1 hf1;go_wp2_with fail;refine H66b.out.mono ?_;rintro e w1 ⟨rfl,rfl⟩;have HQ2:=hid (HQ1.out.set lv);have HF2:=hid (show Fr [] w (w1.setCell ⟨w.heap.size,2,none⟩ (.int .i64 lv))from HF1.out.behind (fr_set1 w1 _ 2 _) (fun k hk=>by rw[List.mem_singleton.1 hk];exact Nat.le_refl _));have H67:=hid (embed_nil w.heap.size lv _ HQ2.out);clear H66b;go_wp2_with fail;refine H67.out.mono ?_;rintro e w3 ⟨rfl,hf3⟩;have HQ3:=hid (HQ2.out.fr hf3 List.not_mem_nil);have HF3:=hid (HF2.out.trans hf3);have H68:=hid (seqs_nil w.heap.size lv w3 HQ3.out);clear H67 hf3;go_wp2_with fail;refine H68.out.mono ?_;rintro e w4 ⟨rfl,rfl⟩;have HQ4:=hid (HQ3.out.fr ((Fr.refl [] w3).alloc (.map #[] 0)) List.not_mem_nil);have HF4:=hid (HF3.out.alloc (.map #[] 0));have H73:=hid (pass_nil w.heap.size lv _ HQ4.out);generalize w3.alloc (.map #[] 0)=w4 at *;clear H68;go_wp2;go_loopw [22] (fun a wr=>a=.int .i64 0∧wr=w4) (fun _ _=>0)
 case atStart=>exact⟨rfl,rfl⟩
 case round =>
  obtain⟨rfl,rfl⟩:=hrel;go_wp2_with fail;refine H73.out.mono ?_;rintro e w5 ⟨rfl,rfl⟩;have c3:=HQ4.out.c2;have H74:=hid (fun X (hf:Fr [] w5 X)=>levels_nil w.heap.size lv X (HQ4.out.fr hf List.not_mem_nil));clear H73;go_wp2;go_region_with (first | (go_at_call 144;refine(H74.out _ ?_).mono ?_;exact frz _ _ _ rfl rfl rfl rfl;rintro e w6 ⟨⟨g,rfl⟩,hf6⟩;have hf6':Fr [] w5 w6:=⟨hf6.os,hf6.tape,hf6.output,hf6.size,hf6.block⟩;have HF6:=hid (HF4.out.trans hf6');have c4:=hf6'.cell c3 List.not_mem_nil;clear hf6 hf6'))
  all_goals (
   go_wp2
   go_ret2
   exact⟨g,rfl,HF6.out⟩)
end Go.Proofs.YtnakejhohdbfdacGreatDoor

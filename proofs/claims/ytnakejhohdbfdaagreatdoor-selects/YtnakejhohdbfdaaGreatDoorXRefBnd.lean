import Derived.Test.YtnakejhohdbfdaaGreatDoorXDecLaw
import Derived.Test.YtnakejhohdbfdaaGreatDoorXKin
namespace Go.Proofs.YtnakejhohdbfdaaGreatDoor.Cls
open Go.RowKit Dec Kin Bnd
theorem owns_shape_pos {w:World}{base:Nat}{e:TypeId}{size:Nat}{v:Value}{n:Nat}{xs:List Value}(hn:0<n)(h:w.ownsRow base e size v n xs):∃g cap,v=.slice (some ⟨g,0,none⟩) n cap:=by
 rcases h.2 with⟨_,h1⟩ | ⟨g,cap,cur,hv,_⟩
 ·omega
 ·exact⟨g,cap,hv⟩
theorem kl_cells {s:ByteArray}{n t:Nat}(h:t<n):(ints64 (kl s n))[t]?=some (.int .i64 (kf s t)):=by
 rw[ints64,List.getElem?_map,kl_at s n t h];rfl
set_option maxRecDepth 10000 in
set_option maxHeartbeats 4000000 in
theorem ref15_nil (s:ByteArray)(w:World)(hs:s.size≤1000000)(hT:Lib.Utf8Tabs 1 2 w)(hend:Dec.Ends s 0) :
 Calls Tryz.prog 66 #[.string s] w fun e w'=>∃v,e=.returned v∧w'.ownsRow w.heap.size 3 1 v (bnd s 0).length (ints64 (bnd s 0))∧Below w.heap.size w w':=by
 have C7:=hide (ref7_any s w hs hT);have HE0:=hide hend;have hz:s.size=0:=hend.1.symm;have hz1:¬(0:Int)<(s.size:Int):=by omega
 have HZ:=hide hz;clear hT hend hz;go_enter Tryz.func66,Tryz.ntmps66;go_wp2_with fail;refine C7.out.mono ?_;rintro e w1 ⟨n1,vm,h1,rfl,own1,hb1,hn1⟩;obtain rfl:=ends_unique h1 HE0.out;obtain rfl:=hn1 rfl;have HB1:=hide hb1;clear h1 C7 hn1 own1 hb1;go_wp2_with fail;go_loopw [4,5] (fun v i wr=>v=.slice none 0 0∧i=.int .i64 0∧wr=w1) (fun _ _ _=>0)
 case atStart=>exact⟨rfl,rfl,rfl⟩
 case round =>
  obtain⟨rfl,rfl,rfl⟩:=hrel;go_wp2_with fail;go_loopw [7,8] (fun v i wx=>v=.slice (some ⟨wr.heap.size,0,none⟩) 1 1∧i=.int .i64 1∧wx=wr.alloc (.cells #[.int .i64 0] 3)) (fun _ _ _=>0)
  case atStart=>exact⟨rfl,rfl,rfl⟩
  case round =>
   obtain⟨rfl,rfl,rfl⟩:=hrel;go_wp2;go_ret;refine⟨_,rfl,?_,HB1.out.alloc HB1.out.size _⟩;rw[bnd,if_neg (by rw[HZ.out];omega)];exact World.ownsRow_lit (base:=w.heap.size) (e:=3) (size:=1) wr #[.int .i64 0] 1 HB1.out.size (by decide) rfl
set_option maxRecDepth 10000 in
set_option maxHeartbeats 4000000 in
theorem ref15_pos (s:ByteArray)(w:World)(hs:s.size≤1000000)(hT:Lib.Utf8Tabs 1 2 w)(m:Nat)(hm0:0<m)(hend:Dec.Ends s m) :
 Calls Tryz.prog 66 #[.string s] w fun e w'=>∃v,e=.returned v∧w'.ownsRow w.heap.size 3 1 v (bnd s m).length (ints64 (bnd s m))∧Below w.heap.size w w':=by
 obtain⟨i0,hi,hz0,hz1,hz2⟩:=info_parts info3;have C7:=hide (ref7_any s w hs hT);have HE0:=hide hend;have hms:m≤s.size:=by have:=le_pos s m;have:=hend.1;omega
 have hs0:(0:Int)<(s.size:Int):=by omega
 clear hT hend;go_enter Tryz.func66,Tryz.ntmps66;go_wp2_with fail;refine C7.out.mono ?_;rintro e w1 ⟨n1,vm,h1,rfl,own1,hb1,hn1⟩;obtain rfl:=ends_unique HE0.out h1;obtain⟨gl,cl,hvm⟩:=owns_shape_pos hm0 own1;subst hvm;have OM:=hide own1;have gll:=owns_at own1;have HB1:=hide hb1;clear h1 C7 hn1 own1 hb1;go_wp2_with fail;go_loopw [4,5] (fun v i wr=>∃j:Nat,j≤m∧i=.int .i64 j∧Hid (wr.ownsRow w1.heap.size 3 1 v j (ints64 (kl s j)))∧Hid (Below w1.heap.size w1 wr)) (fun _ i _=>m - (intOf i).toNat)
 case atStart=>exact⟨0,by omega,rfl,hide (World.ownsRow_nil _ _ _ _),hide (Below.refl _ _)⟩
 case round =>
  obtain⟨j,hj,rfl,HO,HB⟩:=hrel;by_cases hjm:j<m
  ·have cx:=((HB.out.cell (p:=⟨gl,j * 3,none⟩) gll.2).trans (OM.out.cellAt (j * 3) (by omega))).trans (cells_get (s:=s) hjm).1
   have HC:=hide (ref12_any (rune s j) wr);have HK:Hid (Tabs.kindOf (rune s j)=kf s j):=rfl;generalize rune s j=r at cx HC HK;rw[HK.out]at HC;generalize hkd:kf s j=kd at HC;have HKD:=hide hkd;clear hkd HK;go_wp2_with fail;refine HC.out.mono ?_;rintro e w2 ⟨rfl,hb2⟩;have HO2:=hide ((owns_below HO.out hb2).alloc (.cells #[.int .i64 kd] 3));have HB2:=hide ((HB.out.trans (hb2.mono HB.out.size)).alloc (by have:=HB.out.size;have:=hb2.size;omega) (.cells #[.int .i64 kd] 3));have hsz2:w1.heap.size≤w2.heap.size:=by have:=HB.out.size;have:=hb2.size;omega
   clear cx HC hb2;go_wp2_with (at_builtin;refine wpList_append_own _ rfl _ _ 22 rfl w1.heap.size 3 i0 _ 1 8 Tryz.underlying22 hi hz0 hz1 hz2 rfl (by decide) _ _ _ rfl HO2.out ⟨w2.heap.size,0,none⟩ 1 1 [.int .i64 kd] rfl rfl (cell_one_new _ _ _) (one_cell _) (by unfold maxLen;omega) (by omega) (by simp;omega) ?_);intro v' w3 own3 hgrow hnil;have HO3:Hid (w3.ownsRow w1.heap.size 3 1 v' (j+1) (ints64 (kl s (j+1)))):=by
    rw[kl,←ints_snoc,HKD.out];exact hide own3
   have HB3:=hide (HB2.out.grown hgrow (by simp;omega) (by intro x hx;exact(HO2.out.lt x hx).1));clear own3 hgrow hnil HO2 HB2;go_wp2;go_roundw
   case rel=>exact⟨j+1,by omega,by go_num,HO3,HB3⟩
   case measure=>simp[intOf];omega
  ·obtain rfl:m=j:=by omega
   obtain⟨gk,ck,hvk⟩:=owns_shape_pos hm0 HO.out;rw[hvk]at HO;subst hvk;have gkl:=owns_at HO.out;have hszr:=HB.out.size;go_wp2_with fail;go_loopw [7,8] (fun v i wx=>∃q:Nat,q+1≤m∧i=.int .i64 ((q:Int)+1)∧Hid (wx.ownsRow wr.heap.size 3 1 v (bndTo s (q+1)).length (ints64 (bndTo s (q+1))))∧Hid (Below wr.heap.size wr wx)) (fun _ i _=>m - (intOf i).toNat)
   case atStart=>exact⟨0,by omega,rfl,hide (World.ownsRow_lit (base:=wr.heap.size) (e:=3) (size:=1) wr #[.int .i64 0] 1 (Nat.le_refl _) (by decide) rfl),hide ((Below.refl _ _).alloc (Nat.le_refl _) _)⟩
   case round =>
    obtain⟨q,hq,rfl,HX,HY⟩:=hrel;have hlen:=bndTo_len s (q+1);have hszy:=HY.out.size;by_cases hqm:q+1<m
    ·have hqm1:(q:Int)+1<(m:Int):=by omega
     have HC:=hide (fn24_any (kf s) gk m ck q wr (by omega) (by omega) (fun t ht=>((HY.out.cell (p:=⟨gk,t,none⟩) gkl.2).trans (HO.out.cellAt t (by omega))).trans (kl_cells ht)));have HJ:Hid (joinB (kf s q) (pref (kf s) q) (kf s (q+1))=jn s (q+1)):=rfl;rw[HJ.out]at HC;cases hjn:jn s (q+1)
     ·rw[hjn]at HC
      have HJN:=hide hjn;clear hjn HJ;have cy:=(((HY.out.cell (p:=⟨gl,(q+1) * 3+1,none⟩) (Nat.lt_of_lt_of_le gll.2 hszr)).trans (HB.out.cell (p:=⟨gl,(q+1) * 3+1,none⟩) gll.2)).trans (OM.out.cellAt ((q+1) * 3+1) (by omega))).trans (cells_get (s:=s) (show q+1<m by omega)).2.1;generalize hps:((pos s (q+1):Nat):Int)=ps at cy;have HPS:=hide hps;clear hps;have HO2:=hide (HX.out.alloc (.cells #[.int .i64 ps] 3));go_wp2_with fail;refine HC.out.mono ?_;rintro e w2 ⟨rfl,rfl⟩;go_wp2_with (at_builtin;refine wpList_append_own _ rfl _ _ 22 rfl _ 3 i0 _ 1 8 Tryz.underlying22 hi hz0 hz1 hz2 rfl (by decide) _ _ _ rfl HO2.out ⟨w2.heap.size,0,none⟩ 1 1 [.int .i64 ps] rfl rfl (cell_one_new _ _ _) (one_cell _) (by unfold maxLen;omega) (by omega) (by simp;omega) ?_);intro v' w3 own3 hgrow hnil;have HO3:=hide own3;rw[HPS.out.symm]at HO3;have HB3:=hide ((HY.out.alloc hszy (.cells #[.int .i64 ps] 3)).grown hgrow (by simp;omega) (by intro x hx;exact(HX.out.lt x hx).1));clear own3 hgrow hnil HO2 cy HC;go_wp2;go_roundw
      case rel=>exact⟨q+1,by omega,by go_num,hide (by rw[bndTo_no HJN.out,len_snoc,←ints_snoc];exact HO3.out),HB3⟩
      case measure=>simp[intOf];omega
     ·rw[hjn]at HC
      have HJN:=hide hjn;clear hjn HJ;go_wp2_with fail;refine HC.out.mono ?_;rintro e w2 ⟨rfl,rfl⟩;clear HC;go_wp2;go_roundw
      case rel=>exact⟨q+1,by omega,by go_num,hide (by rw[bndTo_yes HJN.out];exact HX.out),HY⟩
      case measure=>simp[intOf];omega
    ·obtain rfl:m=q+1:=by omega
     have HO2:=hide (HX.out.alloc (.cells #[.int .i64 s.size] 3));go_wp2_with (at_builtin;refine wpList_append_own _ rfl _ _ 22 rfl _ 3 i0 _ 1 8 Tryz.underlying22 hi hz0 hz1 hz2 rfl (by decide) _ _ _ rfl HO2.out ⟨wr.heap.size,0,none⟩ 1 1 [.int .i64 s.size] rfl rfl (cell_one_new _ _ _) (one_cell _) (by unfold maxLen;omega) (by omega) (by simp;omega) ?_);intro v' w3 own3 hgrow hnil;have HO3:=hide own3;have HB3:=hide ((HY.out.alloc hszy (.cells #[.int .i64 s.size] 3)).grown hgrow (by simp;omega) (by intro x hx;exact(HX.out.lt x hx).1));clear own3 hgrow hnil HO2;go_wp2;go_ret;refine⟨_,rfl,?_,?_⟩
     ·rw[bnd,if_pos (by omega),len_snoc,←ints_snoc]
      exact owns_low HO3.out (by have:=HB1.out.size;omega)
     ·have h1:=HB1.out.size
      exact(HB1.out.trans (HB.out.mono h1)).trans (HB3.out.mono (by omega))
theorem ref15_any (s:ByteArray)(w:World)(hs:s.size≤1000000)(hT:Lib.Utf8Tabs 1 2 w)(n:Nat)(hend:Dec.Ends s n) :
 Calls Tryz.prog 66 #[.string s] w fun e w'=>∃v,e=.returned v∧w'.ownsRow w.heap.size 3 1 v (bnd s n).length (ints64 (bnd s n))∧Below w.heap.size w w':=by
 cases n with
 | zero=>exact ref15_nil s w hs hT hend
 | succ m=>exact ref15_pos s w hs hT (m+1) (Nat.succ_pos _) hend
end Go.Proofs.YtnakejhohdbfdaaGreatDoor.Cls

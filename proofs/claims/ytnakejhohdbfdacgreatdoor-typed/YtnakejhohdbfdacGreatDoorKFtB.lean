import Derived.Test.YtnakejhohdbfdacGreatDoorKFwE
import Derived.Test.YtnakejhohdbfdacGreatDoorKFtA
import Derived.Test.YtnakejhohdbfdacGreatDoorKLvLaw
import Derived.Test.YtnakejhohdbfdacGreatDoorKLdH
import Derived.Test.YtnakejhohdbfdacGreatDoorKDecWalkK
namespace Go.Proofs.YtnakejhohdbfdacGreatDoor.Cls.Wr
open Go.RowKit Dec Kin Bnd Lay Lev
theorem dec8 (s:ByteArray)(n:Nat)(w:World)(hend:Dec.Ends s n)(hs:s.size≤1000000):Calls Tryz.prog 8 #[.string s] w fun e w'=>∃a c,e=.returned (.slice a n c)∧w'.ownsRow w.heap.size 48 3 (.slice a n c) n (Dec.cells (lst s n))∧Below w.heap.size w w':=by
 have H:=hide (Cls.fn21_any s w hs);have HE:=hide hend;clear hend;go_enter Tryz.func8,Tryz.ntmps8;go_wp2_with fail;refine H.out.mono ?_;rintro e w1 ⟨n',v,he',rfl,own1,hb,_⟩;have e:=Dec.ends_unique he' HE.out;subst e;obtain⟨a,c,rfl,_⟩:=owns_any own1;have HO:=hide own1;have HB:=hide hb;clear own1 hb he' H;go_wp2;go_ret;exact⟨_,_,rfl,HO.out,HB.out⟩
theorem clus11 (s:ByteArray)(n:Nat)(w:World)(hend:Dec.Ends s n)(hs:s.size≤1000000)(ht:Cls.TabAt w 0 Tabs.kindTab) :
 Calls Tryz.prog 11 #[.string s] w fun e w'=>∃v,e=.returned v∧w'.ownsRow w.heap.size 3 1 v (bnd s n).length (ints64 (bnd s n))∧Below w.heap.size w w':=by
 have H:=hide (Cls.fn25_any s w hs ht);have HE:=hide hend;clear ht hend;go_enter Tryz.func11,Tryz.ntmps11;go_wp2_with fail;refine H.out.mono ?_;rintro e w1 ⟨n',v,he',rfl,own1,hb⟩;have e:=Dec.ends_unique he' HE.out;subst e;have HO:=hide own1;have HB:=hide hb;clear own1 hb he' H;go_wp2;go_ret;exact⟨_,rfl,HO.out,HB.out⟩
theorem class13 (r:Int)(w:World)(h3:TabAt w 1 Tabs.lowTab)(h4:TabAt w 2 Tabs.highTab) :
 Calls Tryz.prog 13 #[.int .i32 r] w fun e w'=>e=.returned (.int .i64 (Tabs.look Tabs.classTab r))∧Below w.heap.size w w':=by
 have H:=hide (Cls.fn22_any r w h3 h4);generalize Tabs.look Tabs.classTab r=c at *;clear h3 h4;go_enter Tryz.func13,Tryz.ntmps13;go_wp2_with fail;refine H.out.mono ?_;rintro e w1 ⟨rfl,hb⟩;have HB:=hide hb;clear hb H;go_wp2;go_ret;exact⟨rfl,HB.out⟩
theorem ints_get {l:List Int}{j:Nat}(h:j<l.length):(ints64 l)[j]?=some (.int .i64 (l.getD j 0)):=by simp[ints64,List.getD,h]
theorem snapL_own {l:List Int}{z x:Int}{k i:Nat}(hr:Rises l z)(hi:i<l.length)(hx:l.getD i 0=x)(hk:Cut l x k):snapL l x false k=x:=by
 have hki:k=i:=by
  rcases Nat.lt_trichotomy k i with h | h | h
  ·have h1:=sorted_lt hr.sorted h hi
   have h2:=hk.2.2 k (Nat.le_refl _) (by omega);omega
  ·exact h
  ·have h1:=hk.2.1 i h
   omega
 subst hki;have hm:l.contains x=true:=by
  rw[List.contains_iff_mem,←hx];simp[List.getD,hi]
 unfold snapL;rw[hm,Bool.true_or,if_pos rfl];exact hx
theorem snap21 (s:ByteArray)(n i:Nat)(w:World)(hend:Dec.Ends s n)(hs:s.size≤100000)(ht:Cls.TabAt w 0 Tabs.kindTab)(hi:i≤cn s n) :
 Calls Tryz.prog 21 #[.string s,.int .i64 ((pos s (nix (bix s n) i):Nat):Int),.bool false] w fun e w'=>e=.returned (.int .i64 ((pos s (nix (bix s n) i):Nat):Int))∧Below w.heap.size w w':=by
 have H:=hide (Cls.fn25_any s w (by omega) ht);have HE:=hide hend;have hbl:(bnd s n).length=cn s n+1:=by rw[bnd_bix hend,List.length_map];unfold cn;have:=(bix_len s n).2.1;omega
 have hpz:pos s (nix (bix s n) i)≤s.size:=by rw[←hend.1];exact pos_le s (ri_le hi)
 have hgd:(bnd s n).getD i 0=((pos s (nix (bix s n) i):Nat):Int):=bnd_get hend hi
 have HSN:=hide (fun(Y:World) (g cap:Nat) (hc:∀j,j<(bnd s n).length→Y.cell? ⟨g,j,none⟩=some (.int .i64 ((bnd s n).getD j 0)))=>show Calls Tryz.prog 40 #[.slice (some ⟨g,0,none⟩) (bnd s n).length cap,.int .i64 ((pos s (nix (bix s n) i):Nat):Int),.bool false] Y fun e w'=>e=.returned (.int .i64 ((pos s (nix (bix s n) i):Nat):Int))∧∃q,w'=Y.drewN q by
  have hr:=rises_bnd HE.out
  have hmm:min (max ((pos s (nix (bix s n) i):Nat):Int) 0) ((s.size:Nat):Int)=((pos s (nix (bix s n) i):Nat):Int):=by omega
  obtain⟨k,hk⟩:=cut_exists (min (max ((pos s (nix (bix s n) i):Nat):Int) 0) ((s.size:Nat):Int)) (bnd s n) hr.sorted
  have h1:=Cls.fn35_any (bnd s n) _ hr ((pos s (nix (bix s n) i):Nat):Int) false k g cap Y (by omega) hk (by rw[hbl];have:=(bix_len s n).1;have:=Dec.le_pos s n;have:=HE.out.1;unfold cn;omega) hc
  rw[hmm]at h1 hk
  rw[snapL_own hr (by omega) hgd hk]at h1
  exact h1)
 have HL:=hide (show 0<(bnd s n).length by omega);generalize pos s (nix (bix s n) i)=sn at *;clear ht hend hbl hgd hpz;go_enter Tryz.func21,Tryz.ntmps21;go_wp2_with fail;refine H.out.mono ?_;rintro e w1 ⟨n',v,he',rfl,own1,hb⟩;have e:=Dec.ends_unique he' HE.out;subst e;obtain⟨g,cap,hv⟩:=owns_shape_pos HL.out own1;subst hv;have HC:=hide (HSN.out w1 g cap (fun j hj=>by rw[own1.cellAt _ (by omega)];exact ints_get hj));have HB:=hide hb;clear own1 hb he' H HSN HL;generalize (bnd s n').length=l at *;go_wp2_with fail;refine HC.out.mono ?_;rintro e w2 ⟨rfl,q,rfl⟩;go_wp2;go_ret;exact⟨rfl,HB.out.trans ((below_drewN _ _ q).mono (Nat.le_refl _))⟩
theorem snap12 (s:ByteArray)(n i:Nat)(w:World)(hend:Dec.Ends s n)(hs:s.size≤100000)(ht:Cls.TabAt w 0 Tabs.kindTab)(hi:i≤cn s n) :
 Calls Tryz.prog 12 #[.string s,.int .i64 ((pos s (nix (bix s n) i):Nat):Int),.bool false] w fun e w'=>e=.returned (.int .i64 ((pos s (nix (bix s n) i):Nat):Int))∧Below w.heap.size w w':=by
 have H:=hide (snap21 s n i w hend hs ht hi);generalize pos s (nix (bix s n) i)=sn at *;clear ht hend hi;go_enter Tryz.func12,Tryz.ntmps12;go_wp2_with fail;refine H.out.mono ?_;rintro e w1 ⟨rfl,hb⟩;have HB:=hide hb;clear hb H;go_wp2;go_ret;exact⟨rfl,HB.out⟩
end Go.Proofs.YtnakejhohdbfdacGreatDoor.Cls.Wr

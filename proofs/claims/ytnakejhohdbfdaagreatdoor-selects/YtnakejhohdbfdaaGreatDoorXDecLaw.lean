import Derived.Test.YtnakejhohdbfdaaGreatDoorXDecWalkK
import Derived.Laws.StructEq
import Derived.Test.YtnakejhohdbfdaaGreatDoorXMb
import Derived.Test.YtnakejhohdbfdaaGreatDoorXKin
import Derived.Test.YtnakejhohdbfdaaGreatDoorXMc
import Derived.WalkSmall
import Derived.Lib.OthersKept
import Derived.Lib.Builder
namespace Go.Proofs.YtnakejhohdbfdaaGreatDoor.Cls
open Go.RowKit Dec
theorem cells_get {s:ByteArray}{n k:Nat}(h:k<n):(Dec.cells (lst s n))[k * 3]?=some (.int .i32 (rune s k))∧(Dec.cells (lst s n))[k * 3+1]?=some (.int .i64 (pos s k:Nat))∧(Dec.cells (lst s n))[k * 3+2]?=some (.int .i64 (pos s (k+1):Nat)):=cells_at _ _ _ (lst_at s n k h)
theorem runs:∀(s:ByteArray),∃n,Dec.Ends s n:=by
 intro s;have key:∀f k,s.size - pos s k≤f→pos s k≤s.size→(∀j,j<k→pos s j<s.size)→∃n,Dec.Ends s n:=by
  intro f
  induction f with
  | zero=>intro k h1 h2 h3;exact⟨k,by omega,h3⟩
  | succ f ih =>
    intro k h1 h2 h3;by_cases hlt:pos s k<s.size
    ·have h4:=pos_lt_succ s k
     have h5:=width_le s (pos s k) hlt;refine ih (k+1) (by omega) h5 (fun j hj=>?_)
     rcases Nat.lt_or_eq_of_le (Nat.le_of_lt_succ hj)with h | h
     ·exact h3 j h
     ·rw[h];exact hlt
    ·exact⟨k,by omega,h3⟩
 exact key s.size 0 (Nat.sub_le _ _) (Nat.zero_le _) (fun j hj=>absurd hj (Nat.not_lt_zero _))
end Go.Proofs.YtnakejhohdbfdaaGreatDoor.Cls
namespace Go.Proofs.YtnakejhohdbfdaaGreatDoor.Cls
open Go.RowKit Tabs
set_option maxHeartbeats 400000 in
theorem closure32 (i:Nat)(hi:i<33)(r z:Int)(b:Nat)(w:World)(hr:w.cell? ⟨b,0,none⟩=some (.int .i32 r))(hz:w.cell? ⟨9,i * 3+1,none⟩=some (.int .i32 z)) :
 Calls Tryz.prog 244 (#[.int .i64 i]++#[.pointer (some ⟨b,0,none⟩)]) w fun e w'=>e=.returned (.bool (decide (r≤z)))∧∃q,w'=w.drewN q:=by
 have hi1:(i:Int)<33:=by omega
 go_enter Tryz.func244,Tryz.ntmps244;go_wp2;go_quiet (fail);go_wp2;go_ret;exact⟨rfl,_,rfl⟩
theorem enters32 (args:Array Value)(w:World):(callFunc 244 args).run Tryz.prog w=.ok (.enter 244 args) w:=by kernel_rfl
theorem found23 (r:Int)(b:Nat)(w:World)(ht:TabAt w 9 kindTab)(hr:w.cell? ⟨b,0,none⟩=some (.int .i32 r)) :
 Calls Tryz.prog 213 #[.int .i64 33,.func (.func 244) #[] #[.pointer (some ⟨b,0,none⟩)]] w fun e w'=>∃k:Nat,k≤33∧(∀t,t<k→decide (r≤til kindTab t)=false)∧(∀t,k≤t→t<33→decide (r≤til kindTab t)=true)∧e=.returned (.int .i64 k)∧∃q,w'=w.drewN q :=
 search_any 244 #[.pointer (some ⟨b,0,none⟩)] 33 (fun i=>decide (r≤til kindTab i)) w enters32 (by decide)
  (fun m i hi=>closure32 i hi r (til kindTab i) b (w.drewN m) (by simpa using hr) (by simpa using (ht i (by rw[len_kind];exact hi)).2.1))
  (fun x y hxy hy h=>til_mono kindTab (-1) rise_kind r x y hxy (by rw[len_kind];exact hy) h)
set_option maxRecDepth 100000 in
theorem kinds_any (w:World) :
 Calls Tryz.prog 175 #[] w fun e w'=>e=.returned (.slice (some ⟨w.heap.size,0,none⟩) 33 33)∧w'=w.alloc (tabObj kindTab):=by
 refine calls_of_wp Tryz.func175 rfl ?_;refine wp_seq (wp_region_list (wpList_of_run (tab0 33) w (by kernel_rfl) ?_));refine wp_seq (wp_region_list (wpList_of_run (tabAct kindTab w.heap.size 33) (w.alloc (tabObj kindTab)) (by kernel_rfl) ?_));refine wp_ret ?_;exact bodyPost_ret (v:=Value.slice (some ⟨w.heap.size,0,none⟩) 33 33) (by kernel_rfl) (by kernel_rfl) ⟨rfl,rfl⟩
set_option maxHeartbeats 1000000 in
theorem ref12_tab (r:Int)(w:World)(hns:¬(44032≤r∧r≤55203)) :
 Calls Tryz.prog 111 #[.int .i32 r] w fun e w'=>e=.returned (.int .i64 (Tabs.look kindTab r))∧Below w.heap.size w w':=by
 generalize hv:Tabs.look kindTab r=v;have HV:Hid (Tabs.look kindTab r=v):=hv;clear hv;have HT:Hid (TabAt (w.alloc (tabObj kindTab)) w.heap.size kindTab):=tabObj_at w kindTab;have hbel:Below w.heap.size w (w.alloc (tabObj kindTab)):=(Below.refl _ _).alloc (Nat.le_refl _) _;by_cases hs1:44032≤r
 all_goals
  first
  | (have hs2:¬r≤55203:=fun h=>hns ⟨hs1,h⟩)
  | (have hs1':decide (44032≤r)=false:=by simpa using hs1)
  clear hns;go_enter Tryz.func111,Tryz.ntmps111;go_wp2_with (go_at_call 175;refine(kinds_any _).mono ?_;rintro e w' ⟨rfl,rfl⟩);go_loop [4] (fun s4=>∃k:Nat,k≤33∧s4=.int .i64 k∧Hid (∀t,t<k→hit r (frm kindTab t,til kindTab t,wht kindTab t)=false)) (fun s4=>33 - (intOf s4).toNat)
  case atStart=>exact⟨0,Nat.zero_le _,rfl,hide (fun t ht=>absurd ht (Nat.not_lt_zero _))⟩
  case round =>
   obtain⟨k,hk,rfl,HM⟩:=hrel;by_cases hlt:k<33
   ·obtain⟨c0,c1,c2⟩:=HT.out k (by rw[len_kind];exact hlt)
    by_cases h1:frm kindTab k≤r
    ·by_cases h2:r≤til kindTab k
     ·have E:wht kindTab k=v:=(look_mem kindTab (-1) r rise_kind _ (mem_of_lt kindTab k (by rw[len_kind];exact hlt)) (hit_true h1 h2)).symm.trans HV.out
      rw[E]at c2;clear E;generalize frm kindTab k=z0 at c0 h1;generalize til kindTab k=z1 at c1 h2;go_wp2;go_ret;exact⟨rfl,hbel⟩
     ·have HN:Hid _:=misses_succ HM.out (hit_false (k:=k) (.inr (by omega)))
      generalize frm kindTab k=z0 at c0 h1;generalize til kindTab k=z1 at c1 h2;clear c2;go_wp2;go_round
      case rel=>exact⟨k+1,by omega,by go_num,HN⟩
      case measure=>simp[intOf];omega
    ·have HN:Hid _:=misses_succ HM.out (hit_false (k:=k) (.inl (by omega)))
     have h1':decide (frm kindTab k≤r)=false:=by simpa using h1
     generalize frm kindTab k=z0 at c0 h1 h1';clear c1 c2;go_wp2;go_round
     case rel=>exact⟨k+1,by omega,by go_num,HN⟩
     case measure=>simp[intOf];omega
   ·obtain rfl:k=33:=by omega
    have E:(0:Int)=v:=(look_out (l:=kindTab) (by rw[len_kind];exact HM.out)).symm.trans HV.out;subst E;go_wp2;go_ret;exact⟨rfl,hbel⟩
set_option maxHeartbeats 400000 in
theorem fn30_any (r:Int)(w:World)(h1:44032≤r)(h2:r≤55203) :
 Calls Tryz.prog 243 #[.int .i32 r] w fun e w'=>e=.returned (.int .i64 (kindOf r))∧w'=w:=by
 cases hs:sylB r
 ·rw[kind_no h1 h2 hs]
  have hq:=syl_no hs;clear hs;go_enter Tryz.func243,Tryz.ntmps243;go_wp2;go_ret;exact⟨rfl,rfl⟩
 ·rw[kind_yes h1 h2 hs]
  have hq:=syl_yes hs;clear hs;go_enter Tryz.func243,Tryz.ntmps243;go_wp2;go_ret;exact⟨rfl,rfl⟩
set_option maxHeartbeats 400000 in
theorem ref12_syl (r:Int)(w:World)(h1:44032≤r)(h2:r≤55203) :
 Calls Tryz.prog 111 #[.int .i32 r] w fun e w'=>e=.returned (.int .i64 (kindOf r))∧w'=w:=by
 cases hs:sylB r
 ·rw[kind_no h1 h2 hs]
  have hq:=syl_no hs;clear hs;go_enter Tryz.func111,Tryz.ntmps111;go_wp2;go_ret;exact⟨rfl,rfl⟩
 ·rw[kind_yes h1 h2 hs]
  have hq:=syl_yes hs;clear hs;go_enter Tryz.func111,Tryz.ntmps111;go_wp2;go_ret;exact⟨rfl,rfl⟩
theorem ref12_any (r:Int)(w:World) :
 Calls Tryz.prog 111 #[.int .i32 r] w fun e w'=>e=.returned (.int .i64 (kindOf r))∧Below w.heap.size w w':=by
 by_cases h:44032≤r∧r≤55203
 ·exact(ref12_syl r w h.1 h.2).mono fun e w' h=>⟨h.1,h.2 ▸ Below.refl _ _⟩
 ·rw[kind_tab h];exact ref12_tab r w h
set_option maxHeartbeats 400000 in
theorem fn23_syl (r:Int)(w:World)(h1:44032≤r)(h2:r≤55203) :
 Calls Tryz.prog 223 #[.int .i32 r] w fun e w'=>e=.returned (.int .i64 (kindOf r))∧Below w.heap.size w w':=by
 have hc:=fun w=>fn30_any r w h1 h2
 generalize kindOf r=v at hc ⊢;go_enter Tryz.func223,Tryz.ntmps223;go_wp2_with (go_at_call 243;refine(hc _).mono ?_;rintro e w' ⟨rfl,rfl⟩);go_ret;exact⟨rfl,(Below.refl _ _).alloc (Nat.le_refl _) _⟩
set_option maxHeartbeats 1000000 in
theorem fn23_tab (r:Int)(w:World)(ht:TabAt w 9 kindTab)(hns:¬(44032≤r∧r≤55203)) :
 Calls Tryz.prog 223 #[.int .i32 r] w fun e w'=>e=.returned (.int .i64 (Tabs.look kindTab r))∧Below w.heap.size w w':=by
 have hg:=ht.lt (by rw[len_kind];decide);have hb1:Below w.heap.size w (w.alloc (.cells #[.int .i32 r] 21)):=(Below.refl _ _).alloc (Nat.le_refl _) _;have hs:=found23 r w.heap.size (w.alloc (.cells #[.int .i32 r] 21)) (ht.below hg hb1) (by simp);have HT:Hid (TabAt w 9 kindTab):=ht;clear ht;generalize hv:Tabs.look kindTab r=v;have HV:Hid (Tabs.look kindTab r=v):=hv;clear hv;by_cases hs1:44032≤r
 all_goals
  first
  | (have hs2:¬r≤55203:=fun h=>hns ⟨hs1,h⟩)
  | (have hs1':decide (44032≤r)=false:=by simpa using hs1)
  clear hns;go_enter Tryz.func223,Tryz.ntmps223;go_wp2_with (go_at_call 213;refine hs.mono ?_;rintro e w' ⟨k,hk,hlo,hhi,rfl,q,rfl⟩);have LO:Hid _:=hlo;clear hs hlo;by_cases hkn:k<33
  ·obtain⟨c0,c1,c2⟩:=(HT.out.below hg hb1) k (by rw[len_kind];exact hkn)
   clear c1;have hr2:=hhi k (Nat.le_refl _) hkn;clear hhi hb1;have hkn1:(k:Int)<33:=by omega
   have hd:decide ((k:Int)<33)=true:=by simpa using hkn1
   by_cases hfr:frm kindTab k≤r
   ·have E:wht kindTab k=v:=(look_yes kindTab (-1) rise_kind r k (by rw[len_kind];exact hkn) hfr hr2).symm.trans HV.out
    rw[E]at c2;clear E;generalize frm kindTab k=z at c0 hfr;clear hr2;go_quiet (fail);go_wp2;go_ret;exact⟨rfl,((Below.refl _ _).alloc (Nat.le_refl _) _).trans (below_drewN _ _ _)⟩
   ·have E:(0:Int)=v:=(look_no kindTab (-1) rise_kind r k LO.out (fun _=>by omega)).symm.trans HV.out
    have hfr2:decide (frm kindTab k≤r)=false:=by simpa using hfr
    subst E;generalize frm kindTab k=z at c0 hfr hfr2;clear hr2;go_quiet (fail);go_wp2;go_ret;exact⟨rfl,((Below.refl _ _).alloc (Nat.le_refl _) _).trans (below_drewN _ _ _)⟩
  ·have E:(0:Int)=v:=(look_no kindTab (-1) rise_kind r k LO.out (fun h=>by rw[len_kind]at h;omega)).symm.trans HV.out
   subst E;have hkn1:¬(k:Int)<33:=by omega
   have hd:decide ((k:Int)<33)=false:=by simpa using hkn1
   clear hhi hb1;go_quiet (fail);go_wp2;go_ret;exact⟨rfl,((Below.refl _ _).alloc (Nat.le_refl _) _).trans (below_drewN _ _ _)⟩
theorem fn23_any (r:Int)(w:World)(ht:TabAt w 9 kindTab) :
 Calls Tryz.prog 223 #[.int .i32 r] w fun e w'=>e=.returned (.int .i64 (kindOf r))∧Below w.heap.size w w':=by
 by_cases h:44032≤r∧r≤55203
 ·exact fn23_syl r w h.1 h.2
 ·rw[kind_tab h];exact fn23_tab r w ht h
end Go.Proofs.YtnakejhohdbfdaaGreatDoor.Cls
namespace Go.Proofs.YtnakejhohdbfdaaGreatDoor.Cls
open Go.RowKit Dec Kin Bnd
abbrev ints64 (l:List Int):List Value:=l.map (Value.int .i64)
theorem info3:(Tryz.prog.info? 3).map (fun i=>(i.zero,i.size,i.bytes))=some (some (.int .i64 0),1,8):=by kernel_rfl
theorem one_cell (x:Int):∀u∈[Value.int .i64 x],u.oneCell'=true:=by
 intro u hu;rw[List.mem_singleton]at hu;subst hu;rfl
theorem own_ne {w:World}{base:Nat}{e:TypeId}{size:Nat}{v:Value}{n:Nat}{xs:List Value}(h:w.ownsRow base e size v n xs){k:Nat}{o:Obj}(hk:w.heap[k]?=some o)(ho:∀c f,o≠.cells c e f):some k≠v.ownBlock:=by
 intro e1
 rcases h.2 with⟨h1,_⟩ | ⟨g,cap,cur,h1,_,hg,_⟩
 ·rw[h1]at e1;cases e1
 ·rw[h1]at e1
  simp only[Value.ownBlock,Option.some.injEq]at e1;subst e1;rw[hk]at hg;exact ho _ _ (Option.some.inj hg)
theorem own_iter {w:World}{base:Nat}{e:TypeId}{size:Nat}{v:Value}{n:Nat}{xs:List Value}(h:w.ownsRow base e size v n xs){k:Nat}{s:ByteArray}{p:Nat}(hk:w.heap[k]?=some (.stringIter s p))(q:Nat):(w.iterAt k s q).ownsRow base e size v n xs:=by
 refine⟨h.1,?_⟩
 rcases h.2 with h1 | ⟨g,cap,cur,hv,hg,hh,r⟩
 ·exact .inl h1
 ·refine .inr ⟨g,cap,cur,hv,hg,?_,r⟩
  rw[Lib.iterAt_other w k g s q (fun e=>by rw[e,hk]at hh;cases hh)];exact hh
theorem own_kept {w w':World}{base:Nat}{e:TypeId}{size:Nat}{v:Value}{n:Nat}{xs:List Value}(h:w.ownsRow base e size v n xs){k:Nat}(hg:w.grownBy w' (some k))(hk:some k≠v.ownBlock):w'.ownsRow base e size v n xs :=
 h.kept hg (.inr (fun e=>hk e.symm))
theorem start_iter (w:World)(o1 o2:Obj)(s:ByteArray):(((w.alloc o1).alloc o2).iter s 0).heap[w.heap.size+1+1]?=some (.stringIter s 0):=by
 have e:((w.alloc o1).alloc o2).heap.size=w.heap.size+1+1:=by simp
 rw[←e];exact World.iter_heap _ _ _
theorem start_ahead (w:World)(o1 o2:Obj)(s:ByteArray):(((w.alloc o1).alloc o2).iter s 0).heap[w.heap.size+1]?=some o2:=by
 have e:(w.alloc o1).heap.size=w.heap.size+1:=by simp
 refine(Lib.alloc_old _ _ _ (by simp)).trans ?_;rw[←e];exact heap_alloc_new _ _
theorem start_own (w:World)(o2:Obj)(s:ByteArray):(((w.alloc (.cells #[.int .i64 0] 3)).alloc o2).iter s 0).ownsRow w.heap.size 3 1 (.slice (some ⟨w.heap.size,0,none⟩) 1 1) 1 [.int .i64 0] :=
 ((World.ownsRow_lit (base:=w.heap.size) (e:=3) (size:=1) w #[.int .i64 0] 1 (Nat.le_refl _) (by decide) rfl).alloc o2).alloc _
theorem start_below (w:World)(o1 o2:Obj)(s:ByteArray):Below w.heap.size w (((w.alloc o1).alloc o2).iter s 0) :=
 (((Below.refl _ _).alloc (Nat.le_refl _) o1).alloc (by simp) o2).alloc (by simp;omega) _
theorem ints_snoc (l:List Int)(x:Int):ints64 l++[.int .i64 x]=ints64 (l++[x]):=by simp[ints64]
theorem len_snoc (l:List Int)(x:Int):(l++[x]).length=l.length+1:=by simp
set_option maxRecDepth 10000 in
set_option maxHeartbeats 4000000 in
theorem fn25_any (s:ByteArray)(w:World)(hs:s.size≤1000000)(ht:TabAt w 9 Tabs.kindTab) :
 Calls Tryz.prog 201 #[.string s] w fun e w'=>∃n v,Dec.Ends s n∧e=.returned v∧w'.ownsRow w.heap.size 3 1 v (bnd s n).length (ints64 (bnd s n))∧Below w.heap.size w w':=by
 obtain⟨i0,hi,hz0,hz1,hz2⟩:=info_parts info3;have HT:=hide ht;have h0:=ht.lt (by rw[Tabs.len_kind];decide);clear ht;go_enter Tryz.func201,Tryz.ntmps201;go_wp2_with fail
 go_loopw [3] (fun v wr=>∃k p:Nat,p≤s.size∧k≤p∧wr.heap[w.heap.size+1+1]?=some (.stringIter s p)∧Hid (p=pos s k)∧Hid (∀j,j<k→pos s j<s.size) ∧
  Hid (wr.heap[w.heap.size+1]?=some (.cells #[.int .i64 (lastOf (pref (kf s) k)),.int .i64 (pictOf (pref (kf s) k)),.bool (oddOf (pref (kf s) k))] 307 (0,0))) ∧
  Hid (wr.ownsRow w.heap.size 3 1 v (bndTo s k).length (ints64 (bndTo s k)))∧Hid (Below w.heap.size w wr)) (fun _ wr=>s.size - wr.iterPos (w.heap.size+1+1))
 case atStart=>exact⟨0,0,Nat.zero_le _,Nat.le_refl _,start_iter _ _ _ _,hide rfl,hide (fun j hj=>absurd hj (Nat.not_lt_zero _)),hide (start_ahead _ _ _ _),hide (start_own _ _ _),hide (start_below _ _ _ _)⟩
 case round =>
  obtain⟨k,p,hp,hkp,hit,HP,HJ,HA,HO,HB⟩:=hrel;have hlen:=bndTo_len s k;by_cases hlt:p<s.size
  ·have hw1:=width_pos s p
   have hw2:=width_le s p hlt;have hnx:=fun ty=>Lib.run_next_any_at (P:=Tryz.prog) wr (w.heap.size+1+1) s p ty hit hlt
   have HQ:Hid (p+(Utf8.decode s p).2=pos s (k+1)):=by rw[HP.out];rfl
   have HK:Hid (Tabs.kindOf ((Utf8.decode s p).1:Nat)=kf s k):=by rw[HP.out];rfl
   generalize (Utf8.decode s p).1=r at hnx HK;generalize (Utf8.decode s p).2=n at hnx HQ hw1 hw2;have hJ2:Hid (∀j,j<k+1→pos s j<s.size):=by
    intro j hj
    rcases Nat.lt_or_eq_of_le (Nat.le_of_lt_succ hj)with h1 | h1
    ·exact HJ.out j h1
    ·rw[h1,←HP.out];exact hlt
   have HI:=hide (Lib.iterAt_heap wr (w.heap.size+1+1) s p (p+n) hit);have HBI:=hide (Lib.below_iterAt HB.out (show w.heap.size≤w.heap.size+1+1 by omega) s (p+n));have HAI:=hide ((Lib.iterAt_other wr (w.heap.size+1+1) (w.heap.size+1) s (p+n) (by omega)).trans HA.out);have HOI:Hid ((wr.iterAt (w.heap.size+1+1) s (p+n)).ownsRow w.heap.size 3 1 u3 (bndTo s k).length (ints64 (bndTo s k))):=own_iter HO.out hit _;have HIT:=hide hit;generalize wr.iterAt (w.heap.size+1+1) s (p+n)=wi at hnx HI HBI HAI HOI;have HC:=hide (fn23_any r wi (HT.out.below h0 HBI.out));have HK2:=hide HK.out.symm;rw[HK.out]at HC;generalize hkd:kf s k=kd at HC;have HKD:=hide hkd;clear hkd hit HK HK2 HO HA;go_wp2_with fail;refine HC.out.mono ?_;rintro e w1 ⟨rfl,hb1⟩;have HI1:Hid (w1.heap[w.heap.size+1+1]?=some (.stringIter s (p+n))):=by
    rw[hb1.block _ (Array.getElem?_eq_some_iff.1 HI.out).1];exact HI
   have hA1:=hb1.block (w.heap.size+1) (Array.getElem?_eq_some_iff.1 HAI.out).1;rw[HAI.out]at hA1;have HA1:=hide hA1;have HO1:=hide (owns_below HOI.out hb1);have HB1:=hide (HBI.out.trans (hb1.mono HBI.out.size));clear hA1 hb1 HC HI HBI HAI HOI;cases k with
   | zero =>
     have hp0:p=0:=HP.out;have hpz:¬(0:Int)<(p:Int):=by omega
     have hpd:decide ((0:Int)<(p:Int))=false:=by simpa using hpz
     have HPA:=hide (fn34_any (w.heap.size+1) _ _ _ kd w1 HA1.out);have HNE:=hide (own_ne HO1.out HA1.out (by intro c f e;cases e));have hsz1:=HB1.out.size;have HH0:=hide hp0;clear hp0;go_wp2_with fail;refine HPA.out.mono ?_;rintro e w3 ⟨rfl,hA3,hg3⟩;have HO3:=hide (own_kept HO1.out hg3 HNE.out);have HB3:=hide (HB1.out.grown hg3 (by omega) (by intro x hx;cases hx;omega));have HI3:Hid (w3.heap[w.heap.size+1+1]?=some (.stringIter s (p+n))):=by
      rw[hg3.block _ (Array.getElem?_eq_some_iff.1 HI1.out).1 (by simp)];exact HI1.out
     have HA3:Hid (w3.heap[w.heap.size+1]?=some (.cells #[.int .i64 (lastOf (pref (kf s) (0+1))),.int .i64 (pictOf (pref (kf s) (0+1))),.bool (oddOf (pref (kf s) (0+1)))] 307 (0,0))):=by
      rw[pref,HKD.out];exact hide hA3
     clear hA3 hg3 HPA;go_wp2;go_roundw
     case rel=>exact⟨0+1,p+n,by omega,by omega,HI3.out,HQ,hJ2,HA3,hide (by rw[bndTo_yes rfl];exact HO3.out),HB3⟩
     case measure=>rw[iterPos_of HI3.out,iterPos_of HIT.out];omega
   | succ m =>
     have hpz:(0:Int)<(p:Int):=by omega
     have CP:=fn33_any (w.heap.size+1) _ _ _ kd w1 (cell_of_row w1 _ 0 _ _ _ HA1.out) (cell_of_row w1 _ 1 _ _ _ HA1.out) (cell_of_row w1 _ 2 _ _ _ HA1.out);rw[←HKD.out,parts_jn]at CP;have HNE:=hide (own_ne HO1.out HA1.out (by intro c f e;cases e));have HNI:=hide (own_ne HO1.out HI1.out (by intro c f e;cases e));have hsz1:=HB1.out.size;cases hjn:jn s (m+1)
     ·rw[hjn]at CP
      have HJN:=hide hjn;have HCP:=hide CP;clear hjn CP;rw[HKD.out]at HCP;have HO2:=hide (HO1.out.alloc (.cells #[.int .i64 p] 3));go_wp2_with fail;refine HCP.out.mono ?_;rintro e w1' ⟨rfl,rfl⟩;go_wp2_with (at_builtin;refine wpList_append_own _ rfl _ _ 22 rfl w.heap.size 3 i0 _ 1 8 Tryz.underlying22 hi hz0 hz1 hz2 rfl (by decide) _ _ _ rfl HO2.out ⟨w1'.heap.size,0,none⟩ 1 1 [.int .i64 p] rfl rfl (cell_one_new _ _ _) (one_cell _) (by unfold maxLen;omega) (by omega) (by simp;omega) ?_);intro v' w2 own2 hgrow hnil;have HO4:Hid (w2.ownsRow w.heap.size 3 1 v' (bndTo s (m+1+1)).length (ints64 (bndTo s (m+1+1)))):=by
       rw[bndTo_no HJN.out,len_snoc,←ints_snoc,←HP.out];exact hide own2
      have HB4:=hide ((HB1.out.alloc (by omega) (.cells #[.int .i64 p] 3)).grown hgrow (by simp;omega) (by intro x hx;exact(HO1.out.lt x hx).1));have HI4:Hid (w2.heap[w.heap.size+1+1]?=some (.stringIter s (p+n))):=by
       rw[hgrow.block _ (by have:=(Array.getElem?_eq_some_iff.1 HI1.out).1;simp;omega) HNI.out];exact(Lib.alloc_old _ _ _ (Array.getElem?_eq_some_iff.1 HI1.out).1).trans HI1.out
      have hA4:=hgrow.block (w.heap.size+1) (by have:=(Array.getElem?_eq_some_iff.1 HA1.out).1;simp;omega) HNE.out;rw[Lib.alloc_old _ _ _ (Array.getElem?_eq_some_iff.1 HA1.out).1,HA1.out]at hA4;have HPA:=hide (fn34_any (w.heap.size+1) _ _ _ kd w2 hA4);have HNE2:=hide (own_ne HO4.out hA4 (by intro c f e;cases e));have hsz2:=HB4.out.size;clear own2 hgrow hnil hA4 HO2 HNE HNI HO1;go_wp2_with fail;refine HPA.out.mono ?_;rintro e w3 ⟨rfl,hA3,hg3⟩;have HO3:=hide (own_kept HO4.out hg3 HNE2.out);have HB3:=hide (HB4.out.grown hg3 (by omega) (by intro x hx;cases hx;omega));have HI3:Hid (w3.heap[w.heap.size+1+1]?=some (.stringIter s (p+n))):=by
       rw[hg3.block _ (Array.getElem?_eq_some_iff.1 HI4.out).1 (by simp)];exact HI4.out
      have HA3:Hid (w3.heap[w.heap.size+1]?=some (.cells #[.int .i64 (lastOf (pref (kf s) (m+1+1))),.int .i64 (pictOf (pref (kf s) (m+1+1))),.bool (oddOf (pref (kf s) (m+1+1)))] 307 (0,0))):=by
       rw[pref,HKD.out];exact hide hA3
      clear hA3 hg3 HPA;go_wp2;go_roundw
      case rel=>exact⟨m+1+1,p+n,by omega,by omega,HI3.out,HQ,hJ2,HA3,hide (by rw[show bndTo s (m+1+1)=bndTo s (m+1+1)from rfl];exact HO3.out),HB3⟩
      case measure=>rw[iterPos_of HI3.out,iterPos_of HIT.out];omega
     ·rw[hjn]at CP
      have HJN:=hide hjn;have HCP:=hide CP;clear hjn CP;rw[HKD.out]at HCP;have HPA:=hide (fn34_any (w.heap.size+1) _ _ _ kd w1 HA1.out);go_wp2_with fail;refine HCP.out.mono ?_;rintro e w1' ⟨rfl,rfl⟩;go_wp2_with fail;refine HPA.out.mono ?_;rintro e w3 ⟨rfl,hA3,hg3⟩;have HO3:=hide (own_kept HO1.out hg3 HNE.out);have HB3:=hide (HB1.out.grown hg3 (by omega) (by intro x hx;cases hx;omega));have HI3:Hid (w3.heap[w.heap.size+1+1]?=some (.stringIter s (p+n))):=by
       rw[hg3.block _ (Array.getElem?_eq_some_iff.1 HI1.out).1 (by simp)];exact HI1.out
      have HA3:Hid (w3.heap[w.heap.size+1]?=some (.cells #[.int .i64 (lastOf (pref (kf s) (m+1+1))),.int .i64 (pictOf (pref (kf s) (m+1+1))),.bool (oddOf (pref (kf s) (m+1+1)))] 307 (0,0))):=by
       rw[pref,HKD.out];exact hide hA3
      clear hA3 hg3 HPA;go_wp2;go_roundw
      case rel=>exact⟨m+1+1,p+n,by omega,by omega,HI3.out,HQ,hJ2,HA3,hide (by rw[bndTo_yes HJN.out];exact HO3.out),HB3⟩
      case measure=>rw[iterPos_of HI3.out,iterPos_of HIT.out];omega
  ·have hnx:=fun ty=>Lib.run_next_end_at (P:=Tryz.prog) wr (w.heap.size+1+1) s p ty hit hlt
   have HE:Hid (Dec.Ends s k):=⟨by rw[←HP.out];omega,HJ.out⟩;have hbsz:=HB.out.size;clear hit;by_cases hs0:0<s.size
   ·have hs1:(0:Int)<(s.size:Int):=by omega
    have HO2:=hide (HO.out.alloc (.cells #[.int .i64 s.size] 3));go_wp2_with (at_builtin;refine wpList_append_own _ rfl _ _ 22 rfl w.heap.size 3 i0 _ 1 8 Tryz.underlying22 hi hz0 hz1 hz2 rfl (by decide) _ _ _ rfl HO2.out ⟨wr.heap.size,0,none⟩ 1 1 [.int .i64 s.size] rfl rfl (cell_one_new _ _ _) (one_cell _) (by unfold maxLen;omega) (by omega) (by simp;omega) ?_);intro v' w2 own2 hgrow hnil;have HO4:Hid (w2.ownsRow w.heap.size 3 1 v' (bnd s k).length (ints64 (bnd s k))):=by
     rw[bnd,if_pos hs0,len_snoc,←ints_snoc];exact hide own2
    have HB4:=hide ((HB.out.alloc (by omega) (.cells #[.int .i64 s.size] 3)).grown hgrow (by simp;omega) (by intro x hx;exact(HO.out.lt x hx).1));clear own2 hgrow hnil HO2;go_wp2;go_ret;exact⟨k,_,HE.out,rfl,HO4.out,HB4.out⟩
   ·have hs1:¬(0:Int)<(s.size:Int):=by omega
    go_wp2;go_ret;exact⟨k,HE.out,_,rfl,(by rw[bnd,if_neg hs0];exact HO.out),HB.out⟩
end Go.Proofs.YtnakejhohdbfdaaGreatDoor.Cls

import Derived.Shelf.Abstract
import Derived.Shelf.RegionOpen
import Derived.WalkKit
import Derived.OwnWalkIn
import Derived.TacticsInMore
import Derived.LoopNIn
import Derived.LoopIn
import Derived.Test.YtnakejhohdbfdacGreatDoorKMk
import Derived.Test.YtnakejhohdbfdacGreatDoorKMf
namespace Go.Proofs.YtnakejhohdbfdacGreatDoor
open Go.RowKit Lev Go.Shelf
attribute [local go_sem] Oper.semAt_some
structure VP (q:UH)(L:List Int)(S Q cQ:Nat)(s:Sq)(lv:Int)(bs bf ff:Nat)(C:List Int)(W:World):Prop where
 u:US W q C L
 s:SS W q S Q cQ s lv
 b1:W.cell? ⟨bs,0,none⟩=some (.pointer (some ⟨S,0,none⟩))
 b2:W.cell? ⟨bf,0,none⟩=some (.func (.func ff) #[] #[])
theorem VP.at {q:UH}{L:List Int}{S Q cQ:Nat}{s:Sq}{lv:Int}{bs bf ff:Nat}{C:List Int}{W:World}(h:VP q L S Q cQ s lv bs bf ff C W){k:Nat}(hk:k<s.I.length) :
 W.cell? ⟨Q,k,none⟩=some (.pointer (some ⟨q.U,nix s.I k * 4,none⟩))∧W.cell? ⟨q.U,nix s.I k * 4+2,none⟩=some (.int .i64 (cl s.I C k)):=⟨h.s.p k hk,h.u.c _ (h.s.lt k hk)⟩
theorem scan_fit {I:List Nat}{fit:Int→Bool}{act:Nat→Nat→List Int→List Int}{C0 C:List Int}{k fr:Nat}(h:scanTo I fit act k (0,C0)=(fr,C))(hf:fit (cl I C k)=true):scanTo I fit act (k+1) (0,C0)=(fr,C):=by
 rw[scanTo,h,scanStep];simp only[hf,if_true]
theorem scan_act {I:List Nat}{fit:Int→Bool}{act:Nat→Nat→List Int→List Int}{C0 C:List Int}{k fr:Nat}(h:scanTo I fit act k (0,C0)=(fr,C))(hf:fit (cl I C k)=false)(hl:fr<k):scanTo I fit act (k+1) (0,C0)=(k+1,act fr k C):=by
 rw[scanTo,h,scanStep];simp[hf,hl]
theorem scan_none {I:List Nat}{fit:Int→Bool}{act:Nat→Nat→List Int→List Int}{C0 C:List Int}{k fr:Nat}(h:scanTo I fit act k (0,C0)=(fr,C))(hf:fit (cl I C k)=false)(hl:¬fr<k):scanTo I fit act (k+1) (0,C0)=(k+1,C):=by
 rw[scanTo,h,scanStep];simp[hf,hl]
set_option maxRecDepth 100000 in
set_option maxHeartbeats 4000000 in
theorem stretch_in (q:UH)(L:List Int)(S Q cQ:Nat)(s:Sq)(lv:Int)(bs bf:Nat)(fit:Int→Bool)(act:Nat→Nat→List Int→List Int)(ff:Nat)(hff:ff=209∨ff=192)
 (hfit:∀c w,Calls Tryz.prog ff #[.int .i64 c] w fun e w'=>e=.returned (.bool (fit c))∧w'=w) (n l:Nat) (V':List Int→World→Prop) (hVP:∀C A,V' C A→VP q L S Q cQ s lv bs bf ff C A) (hfr:∀C A B,V' C A→Fr [] A B→V' C B)
 (hY:∀C (x:Nat × Nat) A,V' C A→(x.1<x.2∧x.2≤s.I.length)→YieldAt Fence.wide (n - 1) Tryz.prog l #[.int .i64 x.1,.int .i64 x.2] A fun e B=>e=.returned (.bool true)∧V' (act x.1 x.2 C) B) (C0:List Int) (W:World) (h0:V' C0 W) :
 CallsIn Fence.wide n Tryz.prog 219 (#[.func (.yield l) #[] #[]]++#[.pointer (some ⟨bs,0,none⟩),.pointer (some ⟨bf,0,none⟩)]) W fun e B=>(∃v,e=.returned v)∧V' (scan s.I fit act C0) B:=by
 obtain⟨Z,hZ⟩:∃Z,Z=scan s.I fit act C0:=⟨_,rfl⟩;rw[←hZ];have HZ:=hid hZ;have c0:=(hVP _ _ h0).s.c0;have b1:=(hVP _ _ h0).b1;have sm:=(hVP _ _ h0).s.sm;obtain⟨m,hm⟩:∃m,m=s.I.length:=⟨_,rfl⟩;have HM:=hid hm;rw[←hm]at c0 sm;have HVP:=hid hVP;have HFR:=hid hfr;have HFI:=hid hfit;have HY:=hid hY;have H0:=hid h0;clear hm hVP hfr hfit hY h0 hZ;refine callsIn_of_wp Tryz.func219 rfl trivial ?_ rfl;simp only[Tryz.ntmps219,List.size_toArray,List.length_cons,List.length_nil,Nat.reduceAdd,Nat.reduceSub,Array.replicate_succ,Array.replicate_zero,List.push_toArray,List.append_toArray,List.nil_append,List.cons_append];gi_wp2;clear c0 b1;gi_loopw [4,12] (fun f a wr=>∃(k fr:Nat) (C:List Int),f=.int .i64 fr∧a=.int .i64 k∧k≤m∧fr≤k∧Hid (scanTo s.I fit act k (0,C0)=(fr,C))∧Hid (V' C wr)) (fun _ a _=>m - (intOf a).toNat)
 case atStart=>exact⟨0,0,C0,rfl,rfl,Nat.zero_le _,Nat.le_refl _,hid rfl,H0⟩
 case round =>
  obtain⟨k,fr,C,rfl,rfl,hk,hfk,HSC,HV⟩:=hrel;have b2:=(HVP.out _ _ HV.out).b2;by_cases hlt:k<m
  ·obtain⟨p1,p2⟩:=(HVP.out _ _ HV.out).at (show k<s.I.length by rw[←HM.out];exact hlt)
   have HC:=hid (HFI.out (cl s.I C k));have HA:=hid (fun h=>scan_fit HSC.out (k:=k) h);have HB:=hid (fun h=>scan_act HSC.out (k:=k) h);have HN:=hid (fun h=>scan_none HSC.out (k:=k) h);generalize cl s.I C k=y at *;generalize nix s.I k=i at *;have hkI:(k:Int)<(m:Int):=by omega
   have hmx:Tryz.prog.follows .mixedOrders=true:=by kernel_rfl
   have HVD:=hid (HFR.out _ _ _ HV.out ((Fr.refl [] wr).drew));cases hy:fit y
   ·rw[hy]at HC
    by_cases hfr:fr<k
    ·have HNX:=hid (HB.out hy hfr)
     have hfI:(fr:Int)<(k:Int):=by omega
     obtain⟨fn,tmps,assign,body,hyy,hR⟩:=HY.out C (fr,k) wr.drew HVD.out ⟨hfr,by rw[←HM.out];omega⟩;dsimp only at hyy hR;clear HFI HVP HFR HY HA HB HN hy
     rcases hff with rfl | rfl
     all_goals (
      gi_wp2
      gi_region_with_o (refine⟨trivial,fun hd=>absurd hd (by decide),?_⟩;refine(callsIn_wide.2 (HC.out _)).mono ?_;rintro e w' ⟨rfl,rfl⟩))
     all_goals (
      gi_wp2
      refine⟨fun hd=>absurd hd (by decide),hR.mono ?_⟩
      rintro e W3 ⟨rfl,hV3⟩
      have HV3:=hid hV3
      clear hV3
      gi_wp2
      go_roundw)
     all_goals first
      | exact⟨k+1,k+1,_,by go_num,by go_num,by omega,Nat.le_refl _,HNX,HV3⟩
      | (simp[intOf];omega)
    ·have HNX:=hid (HN.out hy hfr)
     have hfI:¬(fr:Int)<(k:Int):=by omega
     have hfe:fr=k:=by omega
     clear HFI HVP HFR HY HA HB HN hy
     rcases hff with rfl | rfl
     all_goals (
      gi_wp2
      gi_region_with_o (refine⟨trivial,fun hd=>absurd hd (by decide),?_⟩;refine(callsIn_wide.2 (HC.out _)).mono ?_;rintro e w' ⟨rfl,rfl⟩))
     all_goals (
      gi_wp2
      refine⟨fun _ h=>(by cases h),?_⟩
      gi_wp2
      go_roundw)
     all_goals first
      | exact⟨k+1,k+1,_,by go_num,by go_num,by omega,Nat.le_refl _,HNX,HVD⟩
      | (simp[intOf];omega)
   ·rw[hy]at HC
    have HNX:=hid (HA.out hy);clear HFI HVP HFR HY HA HB HN hy
    rcases hff with rfl | rfl
    all_goals (
     gi_wp2
     gi_region_with_o (refine⟨trivial,fun hd=>absurd hd (by decide),?_⟩;refine(callsIn_wide.2 (HC.out _)).mono ?_;rintro e w' ⟨rfl,rfl⟩))
    all_goals (
     gi_wp2
     go_roundw)
    all_goals first
     | exact⟨k+1,fr,_,rfl,by go_num,by omega,by omega,HNX,HVD⟩
     | (simp[intOf];omega)
  ·have hkm:k=m:=by omega
   have hkI:¬(k:Int)<(m:Int):=by omega
   have c0:=(HVP.out _ _ HV.out).s.c0;have b1:=(HVP.out _ _ HV.out).b1;rw[←HM.out]at c0;by_cases hfr:fr<m
   ·have HNX:=hid (show Z=act fr m C by rw[HZ.out,scan,←HM.out,←hkm,HSC.out,scanEnd,if_pos (by rw[←HM.out];exact hfr),←HM.out,←hkm])
    have hfI:(fr:Int)<(m:Int):=by omega
    obtain⟨fn,tmps,assign,body,hyy,hR⟩:=HY.out C (fr,m) wr HV.out ⟨hfr,by rw[←HM.out];omega⟩;dsimp only at hyy hR;clear HFI HVP HFR HY;gi_wp2;refine⟨fun hd=>absurd hd (by decide),hR.mono ?_⟩;rintro e W3 ⟨rfl,hV3⟩;have HV3:=hid hV3;clear hV3;gi_wp2;go_end0;exact⟨⟨_,rfl⟩,by rw[HNX.out];exact HV3.out⟩
   ·have HNX:=hid (show Z=C by rw[HZ.out,scan,←HM.out,←hkm,HSC.out,scanEnd,if_neg (by rw[←HM.out];exact hfr)])
    have hfI:¬(fr:Int)<(m:Int):=by omega
    clear HFI HVP HFR HY;gi_wp2;go_end0;exact⟨⟨_,rfl⟩,by rw[HNX.out];exact HV.out⟩
end Go.Proofs.YtnakejhohdbfdacGreatDoor

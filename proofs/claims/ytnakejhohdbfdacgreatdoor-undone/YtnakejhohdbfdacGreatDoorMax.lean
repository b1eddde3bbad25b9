import Derived.Shelf.RegionOpen
import Derived.OwnWalkIn
import Derived.TacticsInMore
import Derived.LoopNIn
import Derived.LoopIn
import Derived.Test.YtnakejhohdbfdacGreatDoorMaw
import Derived.Test.YtnakejhohdbfdacGreatDoorMap
set_option maxHeartbeats 4000000
set_option maxRecDepth 100000
namespace Go.Proofs.YtnakejhohdbfdacGreatDoor
open Go.RowKit j9 Go.Shelf Go.Proofs.Tryz
attribute [local go_sem] gy
structure VP (q:UH)(L:List Int)(S Q cQ:Nat)(s:Sq)(lv:Int)(bs bf ff:Nat)(C:List Int)(W:World):Prop where
 u:US W q C L
 s:SS W q S Q cQ s lv
 b1:W.cell? ⟨bs,0,none⟩=some (.pointer (some ⟨S,0,none⟩))
 b2:W.cell? ⟨bf,0,none⟩=some (.func (.func ff) #[] #[])
theorem VP.at {q:UH}{L:List Int}{S Q cQ:Nat}{s:Sq}{lv:Int}{bs bf ff:Nat}{C:List Int}{W:World}(h:VP q L S Q cQ s lv bs bf ff C W){k:Nat}(hk:k<s.I.length) :
 W.cell? ⟨Q,k,none⟩=some (.pointer (some ⟨q.U,iP s.I k * 4,none⟩))/\W.cell? ⟨q.U,iP s.I k * 4+2,none⟩=some (.int .i64 (cl s.I C k)):=⟨h.s.p k hk,h.u.c _ (h.s.lt k hk)⟩
theorem Qf {I:List Nat}{fit:Int->Bool}{act:Nat->Nat->List Int->List Int}{C0 C:List Int}{k fr:Nat}(h:kU I fit act k (0,C0)=(fr,C))(hf:fit (cl I C k)=true):kU I fit act (k+1) (0,C0)=(fr,C):=by
 rw[kU,h,oz];simp only[hf,if_true]
theorem Qg {I:List Nat}{fit:Int->Bool}{act:Nat->Nat->List Int->List Int}{C0 C:List Int}{k fr:Nat}(h:kU I fit act k (0,C0)=(fr,C))(hf:fit (cl I C k)=false)(hl:fr<k):kU I fit act (k+1) (0,C0)=(k+1,act fr k C):=by
 rw[kU,h,oz];simp[hf,hl]
theorem Mx {I:List Nat}{fit:Int->Bool}{act:Nat->Nat->List Int->List Int}{C0 C:List Int}{k fr:Nat}(h:kU I fit act k (0,C0)=(fr,C))(hf:fit (cl I C k)=false)(hl:¬fr<k):kU I fit act (k+1) (0,C0)=(k+1,C):=by
 rw[kU,h,oz];simp[hf,hl]
theorem CJ (q:UH)(L:List Int)(S Q cQ:Nat)(s:Sq)(lv:Int)(bs bf:Nat)(fit:Int->Bool)(act:Nat->Nat->List Int->List Int)(ff:Nat)(hff:ff=209\/ff=192)
 (hfit:∀c w,Calls prog ff #[.int .i64 c] w fun e w'=>e=.returned (.bool (fit c))/\w'=w) (n l:Nat) (V':List Int->World->Prop) (hVP:∀C A,V' C A->VP q L S Q cQ s lv bs bf ff C A) (hfr:∀C A B,V' C A->Fr [] A B->V' C B)
 (hY:∀C (x:Nat × Nat) A,V' C A->(x.1<x.2/\x.2<=s.I.length)->YieldAt Fence.wide (n - 1) prog l #[.int .i64 x.1,.int .i64 x.2] A fun e B=>e=.returned (.bool true)/\V' (act x.1 x.2 C) B) (C0:List Int) (W:World) (h0:V' C0 W) :
 CallsIn Fence.wide n prog 219 (#[.func (.yield l) #[] #[]]++#[.pointer (some ⟨bs,0,none⟩),.pointer (some ⟨bf,0,none⟩)]) W fun e B=>(∃v,e=.returned v)/\V' (scan s.I fit act C0) B:=by
 obtain⟨Z,hZ⟩:∃Z,Z=scan s.I fit act C0:=⟨_,rfl⟩;rw[<-hZ];have HZ:=hid hZ;have c0:=(hVP _ _ h0).s.c0;have b1:=(hVP _ _ h0).b1;have sm:=(hVP _ _ h0).s.sm;obtain⟨m,hm⟩:∃m,m=s.I.length:=⟨_,rfl⟩;have HM:=hid hm;rw[<-hm]at c0 sm;have T3:=hid hVP;have Tu:=hid hfr;have NS:=hid hfit;have HY:=hid hY;have H0:=hid h0;clear hm hVP hfr hfit hY h0 hZ;refine callsIn_of_wp func219 rfl trivial ?_ rfl;simp only[ntmps219,cK,bg,List.length_nil,Nat.reduceAdd,Nat.reduceSub,bY,bZ,cN,b_,bT,bV];gi_wp2;clear c0 b1;gi_loopw [4,12] (fun f a wr=>∃(k fr:Nat) (C:List Int),f=.int .i64 fr/\a=.int .i64 k/\k<=m/\fr<=k/\Hid (kU s.I fit act k (0,C0)=(fr,C))/\Hid (V' C wr)) (fun _ a _=>m - (intOf a).toNat)
 case atStart=>exact⟨0,0,C0,rfl,rfl,aN _,au _,hid rfl,H0⟩
 case round =>
  obtain⟨k,fr,C,rfl,rfl,hk,hfk,wW,HV⟩:=hrel;have b2:=(T3.out _ _ HV.out).b2;by_cases hlt:k<m
  ·obtain⟨p1,p2⟩:=(T3.out _ _ HV.out).at (show k<s.I.length by rw[<-HM.out];exact hlt)
   have HC:=hid (NS.out (cl s.I C k));have HA:=hid (fun h=>Qf wW.out (k:=k) h);have HB:=hid (fun h=>Qg wW.out (k:=k) h);have HN:=hid (fun h=>Mx wW.out (k:=k) h);generalize cl s.I C k=y at *;generalize iP s.I k=i at *;have wX:(k:Int)<(m:Int):=by omega
   have hmx:Tryz.prog.follows .mixedOrders=true:=by kernel_rfl
   have HVD:=hid (Tu.out _ _ _ HV.out ((Fr.refl [] wr).drew));cases hy:fit y
   ·rw[hy]at HC
    by_cases hfr:fr<k
    ·have qP:=hid (HB.out hy hfr)
     have TA:(fr:Int)<(k:Int):=by omega
     obtain⟨fn,tmps,assign,body,Ss,hR⟩:=HY.out C (fr,k) wr.drew HVD.out ⟨hfr,by rw[<-HM.out];omega⟩;dsimp only at Ss hR;clear NS T3 Tu HY HA HB HN hy
     rcases hff with rfl | rfl
     all_goals (
      gi_wp2
      gi_region_with_o (refine⟨trivial,fun hd=>absurd hd (by decide),?_⟩;refine(fF.2 (HC.out _)).mono ?_;rintro e w' ⟨rfl,rfl⟩))
     all_goals (
      gi_wp2
      refine⟨fun hd=>absurd hd (by decide),hR.mono ?_⟩
      rintro e W3 ⟨rfl,Kw⟩
      have Ft:=hid Kw
      clear Kw
      gi_wp2
      go_roundw)
     all_goals first
      | exact⟨k+1,k+1,_,by go_num,by go_num,by omega,au _,qP,Ft⟩
      | (simp[intOf];omega)
    ·have qP:=hid (HN.out hy hfr)
     have TA:¬(fr:Int)<(k:Int):=by omega
     have hfe:fr=k:=by omega
     clear NS T3 Tu HY HA HB HN hy
     rcases hff with rfl | rfl
     all_goals (
      gi_wp2
      gi_region_with_o (refine⟨trivial,fun hd=>absurd hd (by decide),?_⟩;refine(fF.2 (HC.out _)).mono ?_;rintro e w' ⟨rfl,rfl⟩))
     all_goals (
      gi_wp2
      refine⟨fun _ h=>(by cases h),?_⟩
      gi_wp2
      go_roundw)
     all_goals first
      | exact⟨k+1,k+1,_,by go_num,by go_num,by omega,au _,qP,HVD⟩
      | (simp[intOf];omega)
   ·rw[hy]at HC
    have qP:=hid (HA.out hy);clear NS T3 Tu HY HA HB HN hy
    rcases hff with rfl | rfl
    all_goals (
     gi_wp2
     gi_region_with_o (refine⟨trivial,fun hd=>absurd hd (by decide),?_⟩;refine(fF.2 (HC.out _)).mono ?_;rintro e w' ⟨rfl,rfl⟩))
    all_goals (
     gi_wp2
     go_roundw)
    all_goals first
     | exact⟨k+1,fr,_,rfl,by go_num,by omega,by omega,qP,HVD⟩
     | (simp[intOf];omega)
  ·have hkm:k=m:=by omega
   have wX:¬(k:Int)<(m:Int):=by omega
   have c0:=(T3.out _ _ HV.out).s.c0;have b1:=(T3.out _ _ HV.out).b1;rw[<-HM.out]at c0;by_cases hfr:fr<m
   ·have qP:=hid (show Z=act fr m C by rw[HZ.out,scan,<-HM.out,<-hkm,wW.out,uK,aE (by rw[<-HM.out];exact hfr),<-HM.out,<-hkm])
    have TA:(fr:Int)<(m:Int):=by omega
    obtain⟨fn,tmps,assign,body,Ss,hR⟩:=HY.out C (fr,m) wr HV.out ⟨hfr,by rw[<-HM.out];omega⟩;dsimp only at Ss hR;clear NS T3 Tu HY;gi_wp2;refine⟨fun hd=>absurd hd (by decide),hR.mono ?_⟩;rintro e W3 ⟨rfl,Kw⟩;have Ft:=hid Kw;clear Kw;gi_wp2;go_end0;exact⟨⟨_,rfl⟩,by rw[qP.out];exact Ft.out⟩
   ·have qP:=hid (show Z=C by rw[HZ.out,scan,<-HM.out,<-hkm,wW.out,uK,ay (by rw[<-HM.out];exact hfr)])
    have TA:¬(fr:Int)<(m:Int):=by omega
    clear NS T3 Tu HY;gi_wp2;go_end0;exact⟨⟨_,rfl⟩,by rw[qP.out];exact HV.out⟩
end Go.Proofs.YtnakejhohdbfdacGreatDoor

import Derived.LoopIn
import Derived.LoopNIn
import Derived.OwnWalkIn
import Derived.RangeFuncBound
import Derived.RangeFuncCalls
import Derived.RangeFuncLeaves
import Derived.RangeFuncNested
import Derived.Shelf.Abstract
import Derived.Shelf.RegionOpen
import Derived.TacticsInMore
import Derived.WalkKit
import Derived.Test.YtnakejhohdbfdacGreatDoorKFwA
import Derived.Test.YtnakejhohdbfdacGreatDoorKMh
namespace Go.Proofs.YtnakejhohdbfdacGreatDoor.Cls.Wr
open Go.RowKit Dec Kin Bnd Lay Lev Go.Shelf
attribute [local go_sem] Oper.semAt_some
structure Kp (D:Nat)(A B:World):Prop where
 os:B.os=A.os
 tape:B.tape=A.tape
 output:B.output=A.output
 size:A.heap.size≤B.heap.size
 block:∀k,k<A.heap.size→k≠D→k≠D+1→B.heap[k]?=A.heap[k]?
theorem Kp.of_below {D:Nat}{A B:World}(h:Below A.heap.size A B):Kp D A B:=⟨h.os,h.tape,h.output,h.size,fun k hk _ _=>h.block k hk⟩
theorem kp_put {D l:Nat}{A:World}(hl:l=D∨l=D+1)(o:Obj):Kp D A (A.putObj l o) :=
 ⟨rfl,rfl,rfl,by simp,fun k _ h1 h2=>World.putObj_heap_other (by omega)⟩
def kpPost (D:Nat)(V:Nat→World→Prop)(Fg:World→Nat→Prop)(i:Nat)(A:World):Exit→Act→World→Prop
 | .normal,_,A'=>A'.heap[D]?=A.heap[D]?∧A'.heap[D+1]?=A.heap[D+1]?∧A.heap.size≤A'.heap.size∧V i A'∧∀k,k<A.heap.size→Fg A k→A'.heap[k]?=A.heap[k]?∧Fg A' k
 | _,_,_=>False
theorem wpIn_range_kp {α:Type}{F:Fence}{n:Nat}{P:Program}{g:Operand}{ps:Array Tmp}{assign body:Code}{Q:Exit→Act→World→Prop}{a:Act}{w:World}
 (hro:F.round=none) (h1:1≤n) {gf:Nat} {lb:Array Value} (hg:a.eval g=.func (.func gf) #[] lb) (hFg:F.fn gf) (eg:∀args w,(callFunc gf args).run P w=.ok (.enter gf args) w)
 {encs:α→Array Value} (hps:∀x,(encs x).size=ps.size)
 (V:Nat→World→Prop) (Fg:World→Nat→Prop) (hV:∀i A B,V i A→Kp w.heap.size A B→V i B) (hK:∀i A B k,V i A→Kp w.heap.size A B→Fg A k→Fg B k) (el:Nat→α) (c:Nat)
 (hseq:∀(l:Nat) (V':Nat→World→Prop) (W:World),(∀i A,V' i A→V i A)→(∀i A B,V' i A→Below A.heap.size A B→V' i B) →
   (∀i A,V' i A→i<c→YieldAt F (n - 1 - 1) P l (encs (el i)) A fun e B=>e=.returned (.bool true)∧V' (i+1) B∧∀k,k<A.heap.size→Fg A k→B.heap[k]?=A.heap[k]?∧Fg B k)→V' 0 W →
   CallsIn F (n - 1) P gf (#[.func (.yield l) #[] #[]]++lb) W fun e B=>(∃v,e=.returned v)∧V' c B)
 (a₁:α→Act) (h0:V 0 w)
 (hassign:∀(l:Nat) (x:α) (W:World) (K:Act→World→Prop),K (a₁ x) W →
   assign.wpIn (F.inRound l) (n - 1 - 1) P (Exit.then K (fun _ _ _=>False)) { tmps:=(ps.zip (encs x)).foldl (fun t (p,v)=>t.setIfInBounds p v) a.tmps,defers:=[] } W)
 (hbody:∀(l i:Nat) (A:World),V i A→i<c→w.heap.size+1<A.heap.size→body.wpIn (F.inRound l) (n - 1 - 1) P (kpPost w.heap.size V Fg (i+1) A) (a₁ (el i)) A)
 (hdone:∀(D:Nat) (A:World),V c A→D=w.heap.size→A.heap[D]?=some (.deferred (some []))→Q .normal { a with defers:={ target:=.collected D,args:=#[] } :: a.defers } A) :
 (Code.rangeFunc g ps assign body).wpIn F n P Q a w:=by
 refine wpIn_rangeFunc ?_;intro fn hfn;rw[hro];obtain⟨rec,hrec⟩:∃rec:LoopState→Option Code→Loop,rec=fun st pe=>{ state:=st,pending:=pe,fn,tmps:=a.tmps,params:=ps,assign,body,defers:=w.heap.size }:=⟨_,rfl⟩
 obtain⟨W1,hW1⟩:∃W1,(w.alloc (.deferred (some []))).alloc (.loop (rec .ready none))=W1:=⟨_,rfl⟩;have hL1:W1.heap[w.heap.size+1]?=some (.loop (rec .ready none)):=by
  rw[←hW1];have:=World.alloc_heap_new (w.alloc (.deferred (some []))) (.loop (rec .ready none));rwa [World.size_alloc]at this
 have hK1:W1.heap[w.heap.size]?=some (.deferred (some [])):=by
  rw[←hW1];exact(Below.heap_alloc _ _ _ (by simp)).trans (World.alloc_heap_new w _)
 have hI1:V 0 W1:=by
  rw[←hW1];exact hV _ _ _ h0 (Kp.of_below (((Below.refl _ w).alloc (Nat.le_refl _) _).alloc (by simp) _))
 let V':Nat→World→Prop:=fun i A=>V i A∧A.heap[w.heap.size+1]?=some (.loop (rec .ready none))∧A.heap[w.heap.size]?=some (.deferred (some []))
 refine⟨w.heap.size+1,[{ target:=.collected w.heap.size,args:=#[] }],W1,{ target:=.fn (.func gf) lb,args:=#[.func (.yield (w.heap.size+1)) #[] #[]] },W1,gf,
  #[.func (.yield (w.heap.size+1)) #[] #[]]++lb,W1,?_,?_,?_,?_,fun _=>h1,?_⟩
 ·rw[←hW1,hrec];exact run_enterLoop_outer _ _ _ _ _
 ·simp only[resolve,hg]
  simp[go_sem]
 ·intro f' hf';simp[Target.leads]at hf';subst hf';exact hFg
 ·simp[invoke,go_sem,eg]
 ·refine(hseq (w.heap.size+1) V' W1 (fun i A h=>h.1) (fun i A B h hf=>?_) ?_ ⟨hI1,hL1,hK1⟩).mono ?_
  ·obtain⟨k1,k2,k3⟩:=h
   exact⟨hV _ _ _ k1 (Kp.of_below hf),(hf.block _ (Array.getElem?_eq_some_iff.1 k2).1).trans k2,(hf.block _ (Array.getElem?_eq_some_iff.1 k3).1).trans k3⟩
  ·rintro i W ⟨hi,hl,hk⟩ hok
   have hlt:w.heap.size+1<W.heap.size:=(Array.getElem?_eq_some_iff.1 hl).1;have hy:=run_yield (P:=P) (args:=encs (el i)) hl (by rw[hrec];exact hps (el i));rw[hrec]at hy;refine⟨fn,_,assign,body,hy,roundIn_of_wpIn hfn (hassign _ (el i) W _ ⟨_,run_beginRound hl (by rw[hrec]),?_⟩)⟩;have hl2:(W.putObj (w.heap.size+1) (.loop { rec .ready none with state:=.busy })).heap[w.heap.size+1]?=some (.loop { rec .ready none with state:=.busy }):=World.putObj_heap_same hlt;have hk2:(W.putObj (w.heap.size+1) (.loop { rec .ready none with state:=.busy })).heap[w.heap.size]?=some (.deferred (some [])):=(World.putObj_heap_other (by omega)).trans hk;have hp2:Kp w.heap.size W (W.putObj (w.heap.size+1) (.loop { rec .ready none with state:=.busy })):=kp_put (.inr rfl) _;refine wpIn_mono (hbody _ i _ (hV _ _ _ hi hp2) hok (by rw[World.putObj_size];exact hlt)) ?_;rintro e a3 W3 hp;cases e with
   | normal =>
     obtain⟨hkD,hkL,hsz,hi3,hkp⟩:=hp;have hl3:=hkL.trans hl2;have hk3:=hkD.trans hk2;have hr:=run_endRound (P:=P) none hl3;rw[hrec]at hr hl3;have hp4:Kp w.heap.size W3 (W3.putObj (w.heap.size+1) (.loop (rec .ready none))):=kp_put (.inr rfl) _;rw[hrec]at hp4;refine⟨_,_,hr,rfl,⟨hV _ _ _ hi3 hp4,?_,(World.putObj_heap_other (by omega)).trans hk3⟩,fun k hkl hf=>?_⟩
     ·rw[hrec]
      exact World.putObj_heap_same (Array.getElem?_eq_some_iff.1 hl3).1
     ·obtain⟨q1,q2⟩:=hkp k (by rw[World.putObj_size];exact hkl) (hK _ _ _ _ hi hp2 hf)
      refine⟨?_,hK _ _ _ _ hi3 hp4 q2⟩;by_cases hkD1:k=w.heap.size+1
      ·rw[hkD1,hl,hrec]
       exact World.putObj_heap_same (Array.getElem?_eq_some_iff.1 hl3).1
      ·rw[World.putObj_heap_other (by omega),q1,World.putObj_heap_other (by omega)]
   | ret=>exact hp.elim
   | exit id=>exact hp.elim
   | goto t=>exact hp.elim
   | panic ch=>exact hp.elim
   | outgrown=>exact hp.elim
  ·rintro e W2 ⟨⟨v,rfl⟩,hi,hl,hk⟩
   exact⟨none,_,by have:=run_endLoop (P:=P) hl (by rw[hrec];simp);rw[hrec]at this;exact this,hdone _ _ (hV _ _ _ hi (kp_put (.inr rfl) _)) rfl ((World.putObj_heap_other (by omega)).trans hk)⟩
def clEnc (s:ByteArray)(n i:Nat):Array Value:=#[.int .i64 ((pos s (nix (bix s n) i):Nat):Int),.string (s.extract (pos s (nix (bix s n) i)) (pos s (nix (bix s n) (i+1))))]
set_option maxRecDepth 100000 in
set_option maxHeartbeats 4000000 in
theorem all1_in (s:ByteArray)(n bt:Nat)(hs:s.size≤1000000)(hend:Dec.Ends s n)(Fg:World→Nat→Prop)(m l:Nat)(V':Nat→World→Prop)
 (hc:∀i A,V' i A→A.cell? ⟨bt,0,none⟩=some (.string s)∧TabAt A 0 Tabs.kindTab) (hnew:∀i A B k,V' i A→Below A.heap.size A B→A.heap.size≤k→Fg B k) (hfr:∀i A B,V' i A→Below A.heap.size A B→V' i B) (hfd:∀i A k,V' i A→Fg A k→Fg A.drew k)
 (hY:∀i A,V' i A→i<cn s n→YieldAt Fence.wide (m - 1) Tryz.prog l (clEnc s n i) A fun e B=>e=.returned (.bool true)∧V' (i+1) B∧∀k,k<A.heap.size→Fg A k→B.heap[k]?=A.heap[k]?∧Fg B k) (W:World) (h0:V' 0 W) :
 CallsIn Fence.wide m Tryz.prog 115 (#[.func (.yield l) #[] #[]]++#[.pointer (some ⟨bt,0,none⟩)]) W fun e B=>(∃v,e=.returned v)∧V' (cn s n) B:=by
 have H28:=hid (fn25_any s W hs (hc _ _ h0).2);have b0:=(hc _ _ h0).1;have HC:=hid hc;have HNW:=hid hnew;have HFR:=hid hfr;have HFR2:=hid hfd;have HY:=hid hY;have H0:=hid h0;have HE:=hid hend;obtain⟨c,hcc⟩:∃c,c=cn s n:=⟨_,rfl⟩;have hcs:c≤1000000:=by
  have h1:=(bix_len s n).1;have h2:=le_pos s n;have h3:=hend.1;rw[hcc];unfold cn;omega
 rw[←hcc]at HY ⊢;have HCC:=hid hcc;clear hc hnew hfr hfd hY h0 hend hcc;refine callsIn_of_wp Tryz.func115 rfl trivial ?_ rfl;simp only[Tryz.ntmps115,List.size_toArray,List.length_cons,List.length_nil,Nat.reduceAdd,Nat.reduceSub,Array.replicate_succ,Array.replicate_zero,List.push_toArray,List.append_toArray,List.nil_append,List.cons_append];gi_wp2;refine⟨trivial,fun hd=>absurd hd (by decide),?_⟩;refine(callsIn_wide.2 H28.out).mono ?_;rintro e w1 ⟨n1,v,hn1,rfl,own1,hb1⟩;obtain rfl:=ends_unique HE.out hn1;rw[bnd_len HE.out,←HCC.out]at own1;obtain⟨gb,cb,hvb⟩:=owns_shape_pos (by omega) own1;subst hvb;have HO1:=hid own1;have HB1:=hid hb1;clear own1 hb1 hn1 H28;have hgb:=owns_at HO1.out;have HF1:=hid (HNW.out 0 W w1 gb H0.out HB1.out hgb.1);have HV1:=hid (HFR.out 0 W w1 H0.out HB1.out);have HCE:Hid (∀A:World,A.heap[gb]?=w1.heap[gb]?→∀j,j≤c→A.cell? ⟨gb,j,none⟩=some (.int .i64 ((pos s (nix (bix s n) j):Nat):Int))):=fun A hA j hj=>by
  have h:=(HO1.out.cellAt j (by omega)).trans (bnd_cells HE.out (by rw[←HCC.out];exact hj));rw[←h];unfold World.cell?;rw[hA]
 clear b0;have hcap:=owns_cap' HO1.out;by_cases hcb:cb=1
 ·obtain rfl:c=0:=by omega
  gi_wp2;gi_loopw [11] (fun a wr=>a=.int .i64 0∧wr=w1) (fun _ _=>0)
  case atStart=>exact⟨rfl,rfl⟩
  case round =>
   obtain⟨rfl,rfl⟩:=hrel;gi_wp2;go_end0;exact⟨⟨_,rfl⟩,HV1.out⟩
 gi_wp2;gi_loopw [11] (fun a wr=>∃k:Nat,a=.int .i64 k∧k≤c∧Hid (V' k wr)∧Hid (wr.heap[gb]?=w1.heap[gb]?)∧Hid (Fg wr gb)∧gb<wr.heap.size) (fun a _=>c - (intOf a).toNat)
 case atStart=>exact⟨0,rfl,Nat.zero_le _,HV1,hid rfl,HF1,hgb.2⟩
 case round =>
  obtain⟨k,rfl,hk,HV,HG,HF,hgl⟩:=hrel;by_cases hlt:k<c
  ·have hkI:(k:Int)<(c:Int):=by omega
   have c0:=HCE.out wr HG.out k hk;have c1:=HCE.out wr HG.out (1+k) (by omega);have b0:=(HC.out _ _ HV.out).1;have HVD:=hid (HFR.out _ _ wr.drew HV.out ⟨rfl,rfl,rfl,Nat.le_refl _,fun _ _=>rfl⟩);have HFD:=hid (HFR2.out k wr gb HV.out HF.out);have hmx:Tryz.prog.follows .mixedOrders=true:=by kernel_rfl
   obtain⟨fn,tmps,assign,body,hyy,hR⟩:=HY.out k wr.drew HVD.out hlt;unfold clEnc at hyy;have hp1:=ri_lt (s:=s) (n:=n) (i:=k) (by rw[←HCC.out];exact hlt);have hp2:=ri_le (s:=s) (n:=n) (i:=k+1) (by rw[←HCC.out];exact hlt);have hp3:=pos_le s (Nat.le_of_lt hp1);have hp4:=pos_le s hp2;have hp5:=HE.out.1;rw[Nat.add_comm 1 k]at c1;generalize pos s (nix (bix s n) k)=p0 at *;generalize pos s (nix (bix s n) (k+1))=p1 at *;rw[Nat.add_comm k 1]at c1;have hp6:p1≤s.size:=by omega
   clear hp1 hp2 hp4 hp5;gi_wp2;gi_region_with_o (refine⟨fun hd=>absurd hd (by decide),hR.mono ?_⟩;rintro e W3 ⟨rfl,hV3,hk3⟩;have HV3:=hid hV3;have HK3:=hid (hk3 gb hgl HFD.out);clear hV3 hk3)
   all_goals (
    gi_wp2
    go_roundw)
   all_goals first
    | exact⟨k+1,by go_num,by omega,HV3,hid (HK3.out.1.trans HG.out),hid HK3.out.2,by have h:=HK3.out.1;have:=(Array.getElem?_eq_some_iff.1 (h.trans (Array.getElem?_eq_getElem hgl))).1;exact this⟩
    | (simp[intOf];omega)
  ·have hkI:¬(k:Int)<(c:Int):=by omega
   obtain rfl:c=k:=by omega
   gi_wp2;go_end0;exact⟨⟨_,rfl⟩,HV.out⟩
end Go.Proofs.YtnakejhohdbfdacGreatDoor.Cls.Wr

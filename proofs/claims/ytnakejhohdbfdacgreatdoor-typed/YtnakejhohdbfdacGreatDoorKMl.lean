import Derived.Shelf.SlMaps.DeleteFunc
import Derived.Test.YtnakejhohdbfdacGreatDoorProg
import Derived.Test.YtnakejhohdbfdacGreatDoorKMh
import Derived.Test.YtnakejhohdbfdacGreatDoorKMa
import Derived.Maps.RangeWalk
import Derived.Maps.Ext
import Derived.Lib.SlKeysI
import Derived.Shelf.Abstract
import Derived.Test.YtnakejhohdbfdacGreatDoorKMf
namespace Go.Proofs
open Go.Shelf
def Tryz.delA_ren:Go.Shelf.Ren:=⟨fun | 5=>212 | n=>n,fun | 23=>323 | 26=>3 | 24=>21 | 27=>327 | 0=>0 | 4=>4 | n=>n,fun | n=>n⟩
theorem Tryz.delA:Go.Proofs.SlLaysDf.n5 Tryz.prog Tryz.delA_ren:={
 mixed:=by kernel_rfl
 f5:=⟨Tryz.f212.name,by decide,Tryz.func212.trans (congrArg some (by kernel_rfl))⟩
 t0:=Tryz.underlying0
 a0:=Tryz.isAgg0
 z0:=Tryz.sizeOf0
 v0:=Tryz.zeroValue0
 t4:=Tryz.underlying4
 a4:=Tryz.isAgg4
 z4:=Tryz.sizeOf4
 v4:=Tryz.zeroValue4
 t23:=Tryz.underlying323
 a23:=Tryz.isAgg323
 z23:=Tryz.sizeOf323
 v23:=Tryz.zeroValue323
 a24:=Tryz.isAgg21
 z24:=Tryz.sizeOf21
 a26:=Tryz.isAgg3
 z26:=Tryz.sizeOf3
 t27:=Tryz.underlying327
 a27:=Tryz.isAgg327
 z27:=Tryz.sizeOf327
 v27:=Tryz.zeroValue327 }
end Go.Proofs
namespace Go.Proofs.YtnakejhohdbfdacGreatDoor
open Go.RowKit Lev Go.Maps
structure mapSt (D:DataW Unit)(st:List Nat)(f:Nat→Int):Prop where
 m:IsMap D
 k:∀kl,Maps.has D kl=true→∃x∈st,kl=kN x
 h:∀x∈st,Maps.has D (kN x)=true∧∀z,D.atKey (kN x) z=.lit (.int .i32 (f x))
def lastIs (st:List Nat)(f:Nat→Int)(r Z:Int):Prop:=(Z=-1∧∀x∈st,f x≠r)∨∃x∈st,Z=x∧f x=r∧∀y∈st,f y=r→y≤x
structure lastTo (st:List Nat)(f:Nat→Int)(r:Int)(D:DataW Unit)(left:Lit→Bool)(z:Int):Prop where
 a:∀y∈st,left (kN y)=false→f y=r→(y:Int)≤z
 b:z=-1∨∃x∈st,z=x∧f x=r
 l:∀kl,left kl=true→Maps.has D kl=true
theorem same_kN (y x:Nat):(kN y).sameKey (kN x)=decide (y=x):=by
 simp[Lit.sameKey];omega
theorem lastTo.end {st:List Nat}{f:Nat→Int}{r z:Int}{D:DataW Unit}{left:Lit→Bool}(h:lastTo st f r D left z)(hl:∀kl,left kl=false):lastIs st f r z:=by
 rcases h.b with e | ⟨x,hx,e,hf⟩
 ·exact .inl ⟨e,fun x hx hf=>by have:=h.a x hx (hl _) hf;omega⟩
 ·exact .inr ⟨x,hx,e,hf,fun y hy hfy=>by have:=h.a y hy (hl _) hfy;omega⟩
theorem lastTo.step {st:List Nat}{f:Nat→Int}{r z:Int}{D:DataW Unit}{left:Lit→Bool}(h:lastTo st f r D left z){x:Nat}(hx:x∈st)(z':Int)(hz:z'=if f x=r then max z x else z):lastTo st f r D (fun k=>left k && !k.sameKey (kN x)) z':=by
 refine⟨fun y hy hl hf=>?_,?_,fun kl hl=>h.l kl (by simp at hl;exact hl.1)⟩
 ·rw[same_kN]at hl
  by_cases e:y=x
  ·subst e;rw[hz,if_pos hf];omega
  ·have h1:left (kN y)=false:=by simpa[e] using hl
   have:=h.a y hy h1 hf;rw[hz];split <;> omega
 ·rw[hz]
  by_cases e:f x=r
  ·rw[if_pos e]
   rcases h.b with e1 | ⟨x1,hx1,e1,hf1⟩
   ·exact .inr ⟨x,hx,by omega,e⟩
   ·by_cases e2:x1≤x
    ·exact .inr ⟨x,hx,by omega,e⟩
    ·exact .inr ⟨x1,hx1,by omega,hf1⟩
  ·rw[if_neg e];exact h.b
set_option maxRecDepth 100000 in
set_option maxHeartbeats 2000000 in
theorem last_any (b n:Nat)(D:DataW Unit)(st:List Nat)(f:Nat→Int)(r:Int)(w:World)(hown:w.ownsMap Tryz.prog 3 (plainElem Tryz.prog 21) b n D)(hm:mapSt D st f)(hb:∀x∈st,x≤1000000) :
 Calls Tryz.prog 211 #[.map (some b),.int .i32 r] w fun e w'=>∃z:Int,e=.returned (.int .i64 z)∧lastIs st f r z∧Fr [] w w':=by
 have HM:=hid hm;have HB:=hid hb;clear hm hb;go_enter Tryz.func211,Tryz.ntmps211
 go_wp2_with (first
  | (at_range;refine wpList_range_own _ rfl _ 323 rfl 3 21 law3 Tryz.underlying323 _ b n _ rfl hown ?_;intro w0 hrg0 hg0 hs0)
  | go_in)
 go_frame;go_loopw [5] (fun a wr=>∃(z:Int) (left:Lit→Bool) (cnt:Nat),a=.int .i64 z∧-1≤z∧z≤1000000∧wr.ranges Tryz.prog 3 (plainElem Tryz.prog 21) b w.heap.size n D left cnt∧Hid (lastTo st f r D left z)∧Hid (Fr [] w wr))
  (fun _ wr=>wr.rangeLeft b w.heap.size)
 case atStart=>exact⟨-1,_,_,rfl,by omega,by omega,hrg0,hid ⟨fun y hy hl=>(by rw[(HM.out.h y hy).1]at hl;cases hl),.inl rfl,fun _ h=>h⟩,hid ⟨hg0.os,hg0.tape,hg0.output,hg0.size,fun k hk _=>hg0.block k hk (by simp)⟩⟩
 case round =>
  obtain⟨z,left,cnt,rfl,hz0,hz1,hrg,HL,HF⟩:=hrel
  go_wp2_with (first
   | (at_next;refine wpList_next_ranges_ii _ rfl _ rfl 3 21 .i64 .i32 law3 Tryz.underlying3 Tryz.underlying21 b w.heap.size n _ _ _ rfl hrg ?_ ?_)
   | go_in)
  ·intro _ hl0
   go_wp2;go_ret;exact⟨z,rfl,HL.out.end hl0,HF.out⟩
  ·intro x c w1 cnt1 hwx hwc hlx hat hrg1 hlt hg1 hs1 hen
   obtain⟨i,hi,hik⟩:=HM.out.k _ (HL.out.l _ hlx);obtain rfl:x=(i:Int):=by simpa using hik
   obtain rfl:c=f i:=by have h5:=(hat (.lit (.int .i64 0))).symm.trans ((HM.out.h i hi).2 _);simpa using h5
   have HF1:=hid (HF.out.grown hg1 (fun j hj=>by cases hj;exact Nat.le_refl _));have hib:=HB.out i hi;have HST:=hid (fun z' h=>HL.out.step hi z' h);generalize f i=c at *;clear hik hat hwx hwc hlx;by_cases e:c=r
   ·have HST2:=hid (HST.out (max z i) (by rw[if_pos e]))
    subst e;have hmx:(if z<(i:Int)then(i:Int)else z)=max z i:=by split <;> omega
    clear HST;go_wp2;go_roundw
    case rel=>exact⟨max z i,_,cnt1,rfl,by omega,by omega,hrg1,HST2,HF1⟩
    case measure=>rw[hrg1.left_eq,hrg.left_eq];exact hlt
   ·have HST2:=hid (HST.out z (by rw[if_neg e]))
    have e':(c == r)=false:=by simp[e]
    clear HST;go_wp2;go_roundw
    case rel=>exact⟨z,_,cnt1,rfl,hz0,hz1,hrg1,HST2,HF1⟩
    case measure=>rw[hrg1.left_eq,hrg.left_eq];exact hlt
end Go.Proofs.YtnakejhohdbfdacGreatDoor
namespace Go.Proofs.YtnakejhohdbfdacGreatDoor
open Go.RowKit Lev Go.Maps
theorem key_of_has {es:List (Lit × DataW Unit)}{kl:Lit}(h:Maps.has (.map es) kl=true):∃p∈es,p.1=kl:=by
 rw[has_eq,List.any_eq_true]at h;obtain⟨p,hp,hs⟩:=h;exact⟨p,hp,WideAt.sameKey_eq hs⟩
theorem has_of_key {es:List (Lit × DataW Unit)}{p:Lit × DataW Unit}(hp:p∈es)(hk:WideAt.IsKeyLit p.1):Maps.has (.map es) p.1=true:=by
 rw[has_eq,List.any_eq_true];exact⟨p,hp,WideAt.sameKey_self hk⟩
theorem mapSt.put {D:DataW Unit}{st:List Nat}{f:Nat→Int}(h:mapSt D st f)(x:Nat):mapSt (D.put (kN x) (.lit (.int .i32 (f x)))) (st++[x]) f:=by
 refine⟨h.m.put _ _,fun kl hk=>?_,fun y hy=>?_⟩
 ·by_cases e:kl=kN x
  ·exact⟨x,by simp,e⟩
  ·rw[has_put_other e]at hk
   obtain⟨y,hy,e'⟩:=h.k kl hk;exact⟨y,by simp[hy],e'⟩
 ·by_cases e:y=x
  ·subst e
   exact⟨has_put_same (k:=kN y) h.m key_ok _,fun z=>atKey_put_same (k:=kN y) h.m key_ok _ z⟩
  ·have hy':y∈st:=by
    rcases List.mem_append.1 hy with h1 | h1
    ·exact h1
    ·exact absurd (List.mem_singleton.1 h1) e
   exact⟨by rw[has_put_other (kN_inj e)];exact(h.h y hy').1,fun z=>by rw[atKey_put_other (kN_inj e)];exact(h.h y hy').2 z⟩
def pdO (o:Nat):Lit→DataW Unit→Bool
 | .int _ x,_=>decide ((o:Int)≤x)
 | _,_=>false
theorem mapSt.del {D:DataW Unit}{st:List Nat}{f:Nat→Int}(h:mapSt D st f)(hc:Canon D)(o:Nat):mapSt (Lib.deleteFuncD (pdO o) D) (st.filter (fun x=>decide (x<o))) f:=by
 obtain⟨es,rfl,hr,hk⟩:=hc;have hap:=apart_of_rising hr;refine⟨⟨_,rfl⟩,fun kl hkl=>?_,fun x hx=>?_⟩
 ·obtain⟨p,hp,rfl⟩:=key_of_has hkl
  obtain⟨hp1,hp2⟩:=List.mem_filter.1 hp;obtain⟨x,hx,e⟩:=h.k _ (has_of_key hp1 (hk p hp1));refine⟨x,List.mem_filter.2 ⟨hx,?_⟩,e⟩;rw[e]at hp2;simp[pdO]at hp2;simp;omega
 ·obtain⟨hx1,hx2⟩:=List.mem_filter.1 hx
  obtain⟨a1,a2⟩:=h.h x hx1;obtain⟨p,hp,e⟩:=key_of_has a1
  have hp2:p∈es.filter fun p=>!pdO o p.1 p.2:=List.mem_filter.2 ⟨hp,by
   rw[e];simp[pdO];simp at hx2;omega⟩
  have hpe:(kN x,p.2)∈es.filter fun p=>!pdO o p.1 p.2:=by rw[←e];exact hp2
  have hpe':(kN x,p.2)∈es:=by rw[←e];exact hp
  refine⟨by have h5:=has_of_key hp2 (hk p hp);rw[e]at h5;exact h5,fun z=>?_⟩;rw[←a2 z];exact(WideAt.atKey_mem z key_ok (hap.filter _) hpe).trans (WideAt.atKey_mem z key_ok hap hpe').symm
theorem mapSt.size {D:DataW Unit}{st:List Nat}{f:Nat→Int}(h:mapSt D st f)(hc:Canon D)(hn:st.Pairwise (· < ·)):Maps.size D=st.length:=by
 obtain⟨es,rfl,hr,hk⟩:=hc;have hlt:(st.map (fun(x:Nat)=>(x:Int))).Pairwise (· < ·):=List.pairwise_map.2 (hn.imp (fun {a b} hab=>by omega))
 have hp:=perm_intKeys (ss:=st.map (fun(x:Nat)=>(x:Int))) (apart_of_rising hr) (fun p hp=>by
  obtain⟨x,_,e⟩:=h.k _ (has_of_key hp (hk p hp))
  exact⟨_,e⟩) (List.Pairwise.imp (fun {a b} (hab:a<b) (e:a=b)=>by omega) hlt) (fun x=>?_)
 ·have:=hp.length_eq
  rw[List.length_map]at this;rw[size_eq,this];simp[intKeys]
 ·rw[List.mem_map]
  constructor
  ·rintro ⟨y,hy,rfl⟩;exact(h.h y hy).1
  ·intro hx
   obtain⟨y,hy,e⟩:=h.k _ hx;exact⟨y,hy,by simpa using e.symm⟩
structure mapO (D:DataW Unit)(out:List (Nat × Nat)):Prop where
 m:IsMap D
 k:∀kl,Maps.has D kl=true→∃p∈out,kl=kN p.1
 h:∀p∈out,Maps.has D (kN p.1)=true∧∀z,D.atKey (kN p.1) z=.lit (.int .i64 (p.2:Nat))
theorem mapO.put {D:DataW Unit}{out:List (Nat × Nat)}(h:mapO D out)(a b:Nat)(hf:∀p∈out,p.1≠a):mapO (D.put (kN a) (.lit (.int .i64 (b:Nat)))) (insP (a,b) out):=by
 refine⟨h.m.put _ _,fun kl hk=>?_,fun p hp=>?_⟩
 ·by_cases e:kl=kN a
  ·exact⟨(a,b),(mem_insP _ _ _).2 (.inl rfl),e⟩
  ·rw[has_put_other e]at hk
   obtain⟨p,hp,e'⟩:=h.k kl hk;exact⟨p,(mem_insP _ _ _).2 (.inr hp),e'⟩
 ·rcases(mem_insP _ _ _).1 hp with rfl | hp
  ·exact⟨has_put_same (k:=kN a) h.m key_ok _,fun z=>atKey_put_same (k:=kN a) h.m key_ok _ z⟩
  ·have e:=hf p hp
   exact⟨by rw[has_put_other (kN_inj e)];exact(h.h p hp).1,fun z=>by rw[atKey_put_other (kN_inj e)];exact(h.h p hp).2 z⟩
theorem mapO.start:mapO (.map []) []:=⟨isMap_empty,fun kl h=>(by cases h),fun p h=>(by cases h)⟩
theorem mapSt.start (f:Nat→Int):mapSt (.map []) [] f:=⟨isMap_empty,fun kl h=>(by cases h),fun p h=>(by cases h)⟩
theorem mapO.keys {D:DataW Unit}{out:List (Nat × Nat)}(h:mapO D out)(hc:Canon D)(hs:out.Pairwise (fun a b=>a.1<b.1)){ss:List Int}(hp:ss.Perm (intKeys D)):ss.mergeSort (fun x y=>decide (x≤y))=out.map (fun p=>(p.1:Int))∧ss.length=out.length∧Maps.size D=out.length:=by
 obtain⟨es,rfl,hr,hk⟩:=hc;have hlt:(out.map (fun p=>(p.1:Int))).Pairwise (· < ·):=List.pairwise_map.2 (hs.imp (fun {a b} hab=>by omega))
 have hq:=perm_intKeys (ss:=out.map (fun(p:Nat × Nat)=>(p.1:Int))) (apart_of_rising hr) (fun p hp=>by
  obtain⟨x,_,e⟩:=h.k _ (has_of_key hp (hk p hp))
  exact⟨_,e⟩) (List.Pairwise.imp (fun {a b} (hab:a<b) (e:a=b)=>by omega) hlt) (fun x=>?_)
 ·have h1:ss.Perm (out.map (fun p=>(p.1:Int))):=hp.trans hq.symm
  refine⟨?_,by have:=h1.length_eq;rw[List.length_map]at this;exact this,?_⟩
  ·rw[mergeSort_of_perm_i h1]
   exact List.mergeSort_of_pairwise (hlt.imp (fun {a b} hab=>by simp;omega))
  ·have:=hq.length_eq
   rw[List.length_map]at this;rw[size_eq,this];simp[intKeys]
 ·rw[List.mem_map]
  constructor
  ·rintro ⟨y,hy,rfl⟩;exact(h.h y hy).1
  ·intro hx
   obtain⟨y,hy,e⟩:=h.k _ hx;exact⟨y,hy,by simpa using e.symm⟩
theorem fn186_any (x c:Int)(o bo:Nat)(w:World)(h:w.cell? ⟨bo,0,none⟩=some (.int .i64 (o:Nat))):Calls Tryz.prog 213 #[.int .i64 x,.int .i32 c,.pointer (some ⟨bo,0,none⟩)] w fun e w'=>e=.returned (.bool (decide ((o:Int)≤x)))∧w'=w:=by
 go_enter Tryz.func213,Tryz.ntmps213;go_wp2
 all_goals go_ret
 all_goals exact⟨retB rfl,rfl⟩
theorem del_any (b n bo o:Nat)(D:DataW Unit)(w:World)(hown:w.ownsMap Tryz.prog 3 (plainElem Tryz.prog 21) b n D)(h:w.cell? ⟨bo,0,none⟩=some (.int .i64 (o:Nat)))(hb:bo≠b) :
 Calls Tryz.prog 212 #[.map (some b),.func (.func 213) #[] #[.pointer (some ⟨bo,0,none⟩)]] w fun e w'=>e=.returned (.tuple #[])∧w'.ownsMap Tryz.prog 3 (plainElem Tryz.prog 21) b n (Lib.deleteFuncD (pdO o) D)∧w.grownBy w' (some b):=by
 refine AnyDf.maps_DeleteFunc (ρ:=Tryz.delA_ren) Tryz.delA law3 (plainElem Tryz.prog 21) (pdO o) 213 #[.pointer (some ⟨bo,0,none⟩)] b n D w (enters_of Tryz.func213 (by kernel_rfl) rfl) hown ?_;intro W key val kl yd yp hg hk hv;obtain⟨x,rfl,rfl,_⟩:=Maps.keyOf_int_inv Tryz.underlying3 hk;obtain⟨c,rfl,_,_⟩:=plainElem_int_inv Tryz.underlying21 hv;have hc:W.cell? ⟨bo,0,none⟩=some (.int .i64 (o:Nat)):=(Fr.of_grown hg).cell h (by simp[hb]);refine(fn186_any x c o bo W hc).mono ?_;rintro e w' ⟨rfl,rfl⟩;exact⟨rfl,⟨rfl,rfl,rfl,Nat.le_refl _,fun _ _ _=>rfl⟩⟩
end Go.Proofs.YtnakejhohdbfdacGreatDoor
namespace Go.Proofs.YtnakejhohdbfdacGreatDoor
open Go.RowKit Lev Go.Maps
theorem close_wf (r:Int):(Lit.int .i32 (closeOf r)).wf=true:=by
 unfold closeOf;split
 ·decide
 ·split
  ·decide
  ·split
   ·decide
   ·split
    ·decide
    ·split <;> decide
theorem map21_fr {T:List Nat}{w w':World}{b n:Nat}{D:DataW Unit}(h:w.ownsMap Tryz.prog 3 (plainElem Tryz.prog 21) b n D)(hf:Fr T w w')(hb:b ∉ T):w'.ownsMap Tryz.prog 3 (plainElem Tryz.prog 21) b n D:=by
 obtain⟨es,clock,hh,r⟩:=h;exact⟨es,clock,(hf.block b (Array.getElem?_eq_some_iff.1 hh).1 hb).trans hh,r⟩
theorem map3_fr {T:List Nat}{w w':World}{b n:Nat}{D:DataW Unit}(h:w.ownsMap Tryz.prog 3 (plainElem Tryz.prog 3) b n D)(hf:Fr T w w')(hb:b ∉ T):w'.ownsMap Tryz.prog 3 (plainElem Tryz.prog 3) b n D:=by
 obtain⟨es,clock,hh,r⟩:=h;exact⟨es,clock,(hf.block b (Array.getElem?_eq_some_iff.1 hh).1 hb).trans hh,r⟩
theorem pair_last {R:List Int}{I:List Nat}{C:List Int}{k:Nat}{p:Prs}(hv:PrsInv p k)(ho:∀x∈p.st,opens (cl I R x)=true)(hs:p.stop=false)(h13:cl I C k=13)(hop:opens (cl I R k)=false){z:Int}(hz:lastIs p.st (fun x=>closeOf (cl I R x)) (cl I R k) z) :
 (z=-1∧pairStep R I C k p=p)∨∃j,j<p.st.length∧z=(nix p.st j:Nat)∧pairStep R I C k p={ p with st:=p.st.take j,out:=insP (nix p.st j,k) p.out }:=by
 obtain⟨f1,f2,f3,f4,f5,f6⟩:=pair_facts R I C k p hs;obtain⟨l1,l2⟩:=last_open hv.up ho (cl I R k);by_cases h0:shuts (cl I R k)=0
 ·rcases hz with⟨e,_⟩ | ⟨x,hx,e,hf,_⟩
  ·exact .inl ⟨e,f4 h13 hop h0⟩
  ·exact absurd hf (l2 (by rw[if_pos h0]) x hx)
 ·rw[if_neg h0]at l1 l2
  cases hfd:findTo R I p.st (shuts (cl I R k)) p.st.length with
  | none =>
    rcases hz with⟨e,_⟩ | ⟨x,hx,e,hf,_⟩
    ·exact .inl ⟨e,f5 h13 hop h0 hfd⟩
    ·exact absurd hf (l2 hfd x hx)
  | some j =>
    obtain⟨a1,a2,a3⟩:=l1 j hfd;have hm:nix p.st j∈p.st:=by rw[nix_of_get a1];exact List.getElem_mem a1
    rcases hz with⟨_,e⟩ | ⟨x,hx,e,hf,hmx⟩
    ·exact absurd a2 (e _ hm)
    ·refine .inr ⟨j,a1,?_,f6 j h13 hop h0 hfd⟩
     have b1:=a3 x hx hf;have b2:=hmx _ hm a2;omega
set_option maxRecDepth 100000 in
set_option maxHeartbeats 8000000 in
theorem pairs_any (q:UH)(C L:List Int)(S Q cQ:Nat)(s:Sq)(lv:Int)(w:World)(hu:US w q C L)(hs:SS w q S Q cQ s lv) :
 Calls Tryz.prog 184 #[.pointer (some ⟨S,0,none⟩)] w fun e w'=>e=.returned (.map (some w.heap.size))∧(∃D,w'.ownsMap Tryz.prog 3 (plainElem Tryz.prog 3) w.heap.size s.I.length D∧mapO D (pairsTo q.R s.I C s.I.length).out)∧Fr [] w w':=by
 have hmm:=@run_makeMap Tryz.prog;have HU:=hid hu;have HS:=hid hs;have c0:=hs.c0;have sm:=hs.sm;obtain⟨m,hm⟩:∃m,m=s.I.length:=⟨_,rfl⟩;have HM:=hid hm;rw[←hm]at c0 sm;rw[←hm];obtain⟨Z,hZ⟩:∃Z,Z=(pairsTo q.R s.I C m).out:=⟨_,rfl⟩;rw[←hZ];have HZ:=hid hZ;have hSw:S<w.heap.size:=World.block_lt_of_cell? _ _ c0;clear hu hs hm hZ;go_enter Tryz.func184,Tryz.ntmps184;go_wp2;go_loopw [16] (fun a wr=>∃(k:Nat) (DP DO:DataW Unit),a=.int .i64 k∧k≤m∧Hid (wr.ownsMap Tryz.prog 3 (plainElem Tryz.prog 3) w.heap.size k DP)∧Hid (wr.ownsMap Tryz.prog 3 (plainElem Tryz.prog 21) (w.heap.size+1) k DO)∧Hid (mapO DP (pairsTo q.R s.I C k).out)∧Hid (mapSt DO (pairsTo q.R s.I C k).st (fun x=>closeOf (cl s.I q.R x)))∧Hid ((pairsTo q.R s.I C k).stop=false)∧Hid (Fr [] w wr)) (fun a _=>m - (Go.RowKit.intOf a).toNat)
 case atStart =>
  have h1:=World.ownsMap_made w Tryz.prog 3 (plainElem (H:=Unit) Tryz.prog 3);have h2:=World.ownsMap_made (w.alloc (.map #[] 0)) Tryz.prog 3 (plainElem (H:=Unit) Tryz.prog 21);rw[World.size_alloc]at h2;exact⟨0,_,_,rfl,Nat.zero_le _,hid (h1.alloc _),hid h2,hid mapO.start,hid (mapSt.start _),hid rfl,hid (((Fr.refl [] w).alloc _).alloc _)⟩
 case round =>
  obtain⟨k,DP,DO,rfl,hk,HP,HO,HMP,HMO,HSP,HF⟩:=hrel;by_cases hlt:k<m
  ·have HV:=hid (prs_inv q.R s.I C k)
   have HOP:=hid (open_opens q.R s.I C k);have HNX:=hid (show pairsTo q.R s.I C (k+1)=pairStep q.R s.I C k (pairsTo q.R s.I C k)from rfl);have HPF:=hid (pair_facts q.R s.I C k _ HSP.out);have HPL:=hid (fun h13 hop (z:Int) hz=>pair_last (C:=C) HV.out HOP.out HSP.out h13 hop (z:=z) hz);have HPS:=hid (fun h=>pairs_stop q.R s.I C (k+1) h (m - (k+1)));rw[←HNX.out]at HPF HPL;have hks:k<s.I.length:=by rw[←HM.out];exact hlt
   have p1:=(HS.out.fr HF.out List.not_mem_nil List.not_mem_nil).p k hks;have p2:=(HU.out.fr HF.out List.not_mem_nil).c _ (HS.out.lt k hks);have p3:=(HU.out.fr HF.out List.not_mem_nil).r _ (HS.out.lt k hks);have hkI:(k:Int)<(m:Int):=by omega
   have HCL:=hid (show nth q.R (nix s.I k)=cl s.I q.R k from rfl);have HCC:=hid (show nth C (nix s.I k)=cl s.I C k from rfl);have hwl:=HF.out.size;have hOl:=HO.out.lt;have hPl:=HP.out.lt;clear hks;generalize hp:pairsTo q.R s.I C k=p at *;have HP0:=hid hp;rw[HCL.out]at p3;rw[HCC.out]at p2;generalize nix s.I k=i at *;generalize hcr:cl s.I q.R k=r at *;have HCR:=hid hcr;generalize hcc:cl s.I C k=c at *;clear hp hcr hcc HCL HCC HNX;by_cases h13:c=13
   ·subst h13
    have HC:=hid (fn91_any r);by_cases hop:closeOf r=0
    ·have hopn:opens r=false:=by
      cases ho:opens r with
      | false=>rfl
      | true=>exact absurd hop ((close_opens r).2 ho)
     have HPL2:=hid (fun(z:Int) hz=>HPL.out rfl hopn z hz);have H184:=hid (fun Y (hf:Fr [] wr Y)=>last_any (w.heap.size+1) k DO p.st _ r Y (map21_fr HO.out hf List.not_mem_nil) HMO.out (fun x hx=>by have:=HV.out.st x hx;omega));rw[hop]at HC;clear HPF HPL HPS hop hopn;go_wp2_with (first | (go_at_call 210;refine(HC.out _).mono ?_;rintro e w' ⟨rfl,rfl⟩));refine(H184.out _ (Fr.refl _ _)).mono ?_;rintro e w1 ⟨z,rfl,hz,hf1⟩;have HF1:=hid (HF.out.trans hf1);have HP1:=hid (map3_fr HP.out hf1 List.not_mem_nil);have HO1:=hid (map21_fr HO.out hf1 List.not_mem_nil);have hw1:=hf1.size
     rcases HPL2.out z hz with⟨e1,e2⟩ | ⟨j,hj,e1,e2⟩
     ·have HN:=hid e2
      subst e1;clear hz hf1 HPL2 H184 e2;go_wp2;go_roundw
      case rel=>exact⟨k+1,DP,DO,by go_num,by omega,hid ((HP1.out.alloc _).mono (by omega)),hid ((HO1.out.alloc _).mono (by omega)),hid (by rw[HN.out];exact HMP.out),hid (by rw[HN.out];exact HMO.out),hid (by rw[HN.out];exact HSP.out),hid (HF1.out.alloc _)⟩
      case measure=>simp[Go.RowKit.intOf];omega
     ·have HN:=hid e2
      have hoj:nix p.st j∈p.st:=by rw[nix_of_get hj];exact List.getElem_mem hj
      have HPP:=hid (HMP.out.put (nix p.st j) k (fun x hx he=>HV.out.dj x hx (by rw[he];exact hoj)));have HDD:=hid (show mapSt (Lib.deleteFuncD (pdO (nix p.st j)) DO) (p.st.take j) (fun x=>closeOf (cl s.I q.R x)) by rw[←take_lt HV.out.up hj];exact HMO.out.del (HO.out.canon law3) _);have hob:nix p.st j<k:=HV.out.st _ hoj;subst e1;generalize nix p.st j=o at *;have ho0:(0:Int)≤(o:Int):=by omega
      obtain⟨w2,hw2⟩:∃w2,w2=w1.alloc (.cells #[.int .i64 (o:Nat)] 3):=⟨_,rfl⟩;have HP2:=hid (HP1.out.alloc (.cells #[.int .i64 (o:Nat)] 3));have HO2:=hid (HO1.out.alloc (.cells #[.int .i64 (o:Nat)] 3));have HF2:=hid (HF1.out.alloc (.cells #[.int .i64 (o:Nat)] 3));have hcb:w2.cell? ⟨w1.heap.size,0,none⟩=some (.int .i64 (o:Nat)):=by rw[hw2,World.cell?_alloc_at (hn:=rfl)];rfl
      rw[←hw2]at HP2 HO2 HF2;have HCB:=hid hcb;have HW2:=hid hw2;clear hz hf1 HPL2 H184 e2 hoj hcb hw2;go_wp2_with (first | (at_mapUpdate;refine wpList_mapUpdate_own _ rfl _ _ _ 258 rfl 3 3 law3 Tryz.underlying258 _ w.heap.size k DP rfl (by rw[←HW2.out];exact HP2.out) (by unfold maxLen;omega) _ _ (kN o) rfl rfl (keyOf_int_mk Tryz.underlying3 (WalkArith.wf_i64 (by omega))) (.lit (.int .i64 (k:Nat))) [] (plainElem_int Tryz.underlying3 (WalkArith.wf_i64 (by omega))) ?_));intro w3 hown3 hgrow3;rw[←HW2.out]at hgrow3;have HP3:=hid hown3;have HO3:=hid (map21_fr HO2.out (Fr.of_grown hgrow3) (by simp));have HF3:=hid (HF2.out.grown hgrow3 (fun j hj=>by cases hj;omega));have hc3:w3.cell? ⟨w1.heap.size,0,none⟩=some (.int .i64 (o:Nat)):=(Fr.of_grown hgrow3).cell HCB.out (by simp;omega);have H185:=hid (del_any (w.heap.size+1) k w1.heap.size o DO w3 HO3.out hc3 (by omega));clear hown3 hgrow3 hc3;go_wp2_with fail;refine H185.out.mono ?_;rintro e w4 ⟨rfl,hown4,hgrow4⟩;have HO4:=hid hown4;have HP4:=hid (map3_fr HP3.out (Fr.of_grown hgrow4) (by simp));have HF4:=hid (HF3.out.grown hgrow4 (fun j hj=>by cases hj;omega));clear hown4 hgrow4;go_wp2;go_roundw
      case rel=>exact⟨k+1,_,_,by go_num,by omega,HP4,hid (HO4.out.mono (by omega)),hid (by rw[HN.out];exact HPP.out),hid (by rw[HN.out];exact HDD.out),hid (by rw[HN.out];exact HSP.out),HF4⟩
      case measure=>simp[Go.RowKit.intOf];omega
    ·have hopn:opens r=true:=(close_opens r).1 hop
     have hszl:Maps.size DO=p.st.length:=HMO.out.size (HO.out.canon law3) HV.out.up;have hop':(closeOf r == 0)=false:=by simp[hop]
     by_cases h8:p.st.length=8
     ·have HN:=hid (HPF.out.2.1 rfl hopn h8)
      have HN2:=hid (show Z=p.out by rw[HZ.out,show m=k+1+(m - (k+1)) by omega,HPS.out (by rw[HN.out]),HN.out]);rw[h8]at hszl;generalize closeOf r=cr at *;clear HPF HPL HPS;go_wp2_with (first | (go_at_call 210;refine(HC.out _).mono ?_;rintro e w' ⟨rfl,rfl⟩) | (at_len;refine wpList_len_own _ rfl _ 323 rfl 3 21 Tryz.underlying323 _ (w.heap.size+1) k DO rfl HO.out ?_));go_ret;exact⟨rfl,⟨DP,HP.out.mono hk,by rw[HN2.out];exact HMP.out⟩,HF.out⟩
     ·have HN:=hid (HPF.out.2.2.1 rfl hopn h8)
      have HWF:=hid (close_wf r);have HPUT:=hid (HMO.out.put k);rw[HCR.out]at HPUT;have h8I:¬(p.st.length:Int)=8:=by omega
      have h8b:((p.st.length:Int) == 8)=false:=by simp;omega
      generalize p.st.length=l8 at *;generalize closeOf r=cr at *;clear HPF HPL HPS;go_wp2_with (first | (go_at_call 210;refine(HC.out _).mono ?_;rintro e w' ⟨rfl,rfl⟩) | (at_len;refine wpList_len_own _ rfl _ 323 rfl 3 21 Tryz.underlying323 _ (w.heap.size+1) k DO rfl HO.out ?_) | (at_mapUpdate;refine wpList_mapUpdate_own _ rfl _ _ _ 323 rfl 3 21 law3 Tryz.underlying323 _ (w.heap.size+1) k DO rfl HO.out (by unfold maxLen;omega) _ _ (kN k) rfl rfl (keyOf_int_mk Tryz.underlying3 (WalkArith.wf_i64 (by omega))) (.lit (.int .i32 cr)) [] (plainElem_int Tryz.underlying21 HWF.out) ?_));intro w3 hown3 hgrow3;have HO3:=hid hown3;have HP3:=hid (map3_fr HP.out (Fr.of_grown hgrow3) (by simp));have HF3:=hid (HF.out.grown hgrow3 (fun j hj=>by cases hj;omega));clear hown3 hgrow3;go_wp2;go_roundw
      case rel=>exact⟨k+1,DP,_,by go_num,by omega,hid (HP3.out.mono (by omega)),HO3,hid (by rw[HN.out];exact HMP.out),hid (by rw[HN.out];exact HPUT.out),hid (by rw[HN.out];exact HSP.out),HF3⟩
      case measure=>simp[Go.RowKit.intOf];omega
   ·have HN:=hid (HPF.out.1 h13)
    have h13':(c == 13)=false:=by simp[h13]
    clear HPF HPL HPS;go_wp2;go_roundw
    case rel=>exact⟨k+1,DP,DO,by go_num,by omega,hid (HP.out.mono (by omega)),hid (HO.out.mono (by omega)),hid (by rw[HN.out];exact HMP.out),hid (by rw[HN.out];exact HMO.out),hid (by rw[HN.out];exact HSP.out),HF⟩
    case measure=>simp[Go.RowKit.intOf];omega
  ·have hke:k=m:=by omega
   have HN2:=hid (show mapO DP Z by rw[HZ.out,←hke];exact HMP.out);have hkI:¬(k:Int)<(m:Int):=by omega
   clear hke;go_wp2;go_ret;exact⟨rfl,⟨DP,HP.out.mono hk,HN2.out⟩,HF.out⟩
end Go.Proofs.YtnakejhohdbfdacGreatDoor

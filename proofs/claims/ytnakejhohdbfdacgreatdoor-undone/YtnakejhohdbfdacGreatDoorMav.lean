import Derived.Shelf.SlMaps.DeleteFunc
import Derived.Test.YtnakejhohdbfdacGreatDoorMak
import Derived.Maps.RangeWalk
import Derived.Maps.Ext
import Derived.Lib.SlKeysI
import Derived.Test.YtnakejhohdbfdacGreatDoorMap
set_option maxHeartbeats 8000000
set_option maxRecDepth 100000
namespace Go.Proofs
open Go.Shelf Go.Proofs.Tryz
def Tryz.GR:Go.Shelf.Ren:=⟨fun | 5=>212 | n=>n,fun | 23=>323 | 26=>3 | 24=>21 | 27=>327 | 0=>0 | 4=>4 | n=>n,fun | n=>n⟩
theorem Tryz.aeM:Go.Proofs.SlLaysDf.n5 prog Tryz.GR:={
 mixed:=by kernel_rfl
 f5:=⟨Tryz.f212.name,by decide,Tryz.func212.trans (congrArg some (by kernel_rfl))⟩
 t0:=underlying0
 a0:=isAgg0
 z0:=sizeOf0
 v0:=zeroValue0
 t4:=underlying4
 a4:=isAgg4
 z4:=sizeOf4
 v4:=zeroValue4
 t23:=underlying323
 a23:=isAgg323
 z23:=sizeOf323
 v23:=zeroValue323
 a24:=isAgg21
 z24:=sizeOf21
 a26:=isAgg3
 z26:=sizeOf3
 t27:=underlying327
 a27:=isAgg327
 z27:=sizeOf327
 v27:=zeroValue327 }
end Go.Proofs
namespace Go.Proofs.YtnakejhohdbfdacGreatDoor
open Go.RowKit j9 Go.Maps Go.Proofs.Tryz
structure qF (D:DataW Unit)(st:List Nat)(f:Nat->Int):Prop where
 m:IsMap D
 k:∀kl,Maps.has D kl=true->∃x∈st,kl=kN x
 h:∀x∈st,Maps.has D (kN x)=true/\∀z,D.atKey (kN x) z=.lit (.int .i32 (f x))
def Jg (st:List Nat)(f:Nat->Int)(r Z:Int):Prop:=(Z=-1/\∀x∈st,f x≠r)\/∃x∈st,Z=x/\f x=r/\∀y∈st,f y=r->y<=x
structure zu (st:List Nat)(f:Nat->Int)(r:Int)(D:DataW Unit)(left:Lit->Bool)(z:Int):Prop where
 a:∀y∈st,left (kN y)=false->f y=r->(y:Int)<=z
 b:z=-1\/∃x∈st,z=x/\f x=r
 l:∀kl,left kl=true->Maps.has D kl=true
theorem TZ (y x:Nat):(kN y).sameKey (kN x)=decide (y=x):=by
 simp[Lit.sameKey];omega
theorem zu.end {st:List Nat}{f:Nat->Int}{r z:Int}{D:DataW Unit}{left:Lit->Bool}(h:zu st f r D left z)(hl:∀kl,left kl=false):Jg st f r z:=by
 rcases h.b with e | ⟨x,hx,e,hf⟩
 ·exact .inl ⟨e,fun x hx hf=>by have:=h.a x hx (hl _) hf;omega⟩
 ·exact .inr ⟨x,hx,e,hf,fun y hy hfy=>by have:=h.a y hy (hl _) hfy;omega⟩
theorem zu.step {st:List Nat}{f:Nat->Int}{r z:Int}{D:DataW Unit}{left:Lit->Bool}(h:zu st f r D left z){x:Nat}(hx:x∈st)(z':Int)(hz:z'=if f x=r then max z x else z):zu st f r D (fun k=>left k && !k.sameKey (kN x)) z':=by
 refine⟨fun y hy hl hf=>?_,?_,fun kl hl=>h.l kl (by simp at hl;exact hl.1)⟩
 ·rw[TZ]at hl
  by_cases e:y=x
  ·subst e;rw[hz,aE hf];omega
  ·have h1:left (kN y)=false:=by simpa[e] using hl
   have:=h.a y hy h1 hf;rw[hz];split <;> omega
 ·rw[hz]
  by_cases e:f x=r
  ·rw[aE e]
   rcases h.b with e1 | ⟨x1,hx1,e1,hf1⟩
   ·exact .inr ⟨x,hx,by omega,e⟩
   ·by_cases e2:x1<=x
    ·exact .inr ⟨x,hx,by omega,e⟩
    ·exact .inr ⟨x1,hx1,by omega,hf1⟩
  ·rw[ay e];exact h.b
theorem Qa (b n:Nat)(D:DataW Unit)(st:List Nat)(f:Nat->Int)(r:Int)(w:World)(hown:w.ownsMap prog 3 (plainElem prog 21) b n D)(hm:qF D st f)(hb:∀x∈st,x<=1000000) :
 Calls prog 211 #[.map (some b),.int .i32 r] w fun e w'=>∃z:Int,e=.returned (.int .i64 z)/\Jg st f r z/\Fr [] w w':=by
 have HM:=hid hm;have HB:=hid hb;clear hm hb;go_enter func211,ntmps211
 go_wp2_with (first
  | (at_range;refine wpList_range_own _ rfl _ 323 rfl 3 21 sX underlying323 _ b n _ rfl hown ?_;intro w0 hrg0 hg0 hs0)
  | go_in)
 go_frame;go_loopw [5] (fun a wr=>∃(z:Int) (left:Lit->Bool) (cnt:Nat),a=.int .i64 z/\-1<=z/\z<=1000000/\wr.ranges prog 3 (plainElem prog 21) b w.heap.size n D left cnt/\Hid (zu st f r D left z)/\Hid (Fr [] w wr))
  (fun _ wr=>wr.rangeLeft b w.heap.size)
 case atStart=>exact⟨-1,_,_,rfl,by omega,by omega,hrg0,hid ⟨fun y hy hl=>(by rw[(HM.out.h y hy).1]at hl;cases hl),.inl rfl,fun _ h=>h⟩,hid ⟨hg0.os,hg0.tape,hg0.output,hg0.size,fun k hk _=>hg0.block k hk (by simp)⟩⟩
 case round =>
  obtain⟨z,left,cnt,rfl,hz0,hz1,hrg,HL,HF⟩:=hrel
  go_wp2_with (first
   | (at_next;refine wpList_next_ranges_ii _ rfl _ rfl 3 21 .i64 .i32 sX underlying3 underlying21 b w.heap.size n _ _ _ rfl hrg ?_ ?_)
   | go_in)
  ·intro _ hl0
   go_wp2;go_ret;exact⟨z,rfl,HL.out.end hl0,HF.out⟩
  ·intro x c w1 cnt1 hwx hwc hlx hat hrg1 hlt hg1 hs1 hen
   obtain⟨i,hi,hik⟩:=HM.out.k _ (HL.out.l _ hlx);obtain rfl:x=(i:Int):=by simpa using hik
   obtain rfl:c=f i:=by have h5:=(hat (.lit (.int .i64 0))).symm.trans ((HM.out.h i hi).2 _);simpa using h5
   have jc:=hid (HF.out.grown hg1 (fun j hj=>by cases hj;exact au _));have hib:=HB.out i hi;have HST:=hid (fun z' h=>HL.out.step hi z' h);generalize f i=c at *;clear hik hat hwx hwc hlx;by_cases e:c=r
   ·have X6:=hid (HST.out (max z i) (by rw[aE e]))
    subst e;have hmx:(if z<(i:Int)then(i:Int)else z)=max z i:=by split <;> omega
    clear HST;go_wp2;go_roundw
    case rel=>exact⟨max z i,_,cnt1,rfl,by omega,by omega,hrg1,X6,jc⟩
    case measure=>rw[hrg1.left_eq,hrg.left_eq];exact hlt
   ·have X6:=hid (HST.out z (by rw[ay e]))
    have e':(c == r)=false:=by simp[e]
    clear HST;go_wp2;go_roundw
    case rel=>exact⟨z,_,cnt1,rfl,hz0,hz1,hrg1,X6,jc⟩
    case measure=>rw[hrg1.left_eq,hrg.left_eq];exact hlt
theorem CH {es:List (Lit × DataW Unit)}{kl:Lit}(h:Maps.has (.map es) kl=true):∃p∈es,p.1=kl:=by
 rw[has_eq,List.any_eq_true]at h;obtain⟨p,hp,hs⟩:=h;exact⟨p,hp,WideAt.sameKey_eq hs⟩
theorem sP {es:List (Lit × DataW Unit)}{p:Lit × DataW Unit}(hp:p∈es)(hk:WideAt.IsKeyLit p.1):Maps.has (.map es) p.1=true:=by
 rw[has_eq,List.any_eq_true];exact⟨p,hp,WideAt.sameKey_self hk⟩
theorem qF.put {D:DataW Unit}{st:List Nat}{f:Nat->Int}(h:qF D st f)(x:Nat):qF (D.put (kN x) (.lit (.int .i32 (f x)))) (st++[x]) f:=by
 refine⟨h.m.put _ _,fun kl hk=>?_,fun y hy=>?_⟩
 ·by_cases e:kl=kN x
  ·exact⟨x,by simp,e⟩
  ·rw[has_put_other e]at hk
   obtain⟨y,hy,e'⟩:=h.k kl hk;exact⟨y,by simp[hy],e'⟩
 ·by_cases e:y=x
  ·subst e
   exact⟨has_put_same (k:=kN y) h.m tV _,fun z=>atKey_put_same (k:=kN y) h.m tV _ z⟩
  ·have hy':y∈st:=by
    rcases a_.1 hy with h1 | h1
    ·exact h1
    ·exact absurd (ak.1 h1) e
   exact⟨by rw[has_put_other (ze e)];exact(h.h y hy').1,fun z=>by rw[atKey_put_other (ze e)];exact(h.h y hy').2 z⟩
def Wb (o:Nat):Lit->DataW Unit->Bool
 | .int _ x,_=>decide ((o:Int)<=x)
 | _,_=>false
theorem qF.del {D:DataW Unit}{st:List Nat}{f:Nat->Int}(h:qF D st f)(hc:Canon D)(o:Nat):qF (Lib.deleteFuncD (Wb o) D) (st.filter (fun x=>decide (x<o))) f:=by
 obtain⟨es,rfl,hr,hk⟩:=hc;have hap:=apart_of_rising hr;refine⟨⟨_,rfl⟩,fun kl hkl=>?_,fun x hx=>?_⟩
 ·obtain⟨p,hp,rfl⟩:=CH hkl
  obtain⟨hp1,hp2⟩:=dJ.1 hp;obtain⟨x,hx,e⟩:=h.k _ (sP hp1 (hk p hp1));refine⟨x,dJ.2 ⟨hx,?_⟩,e⟩;rw[e]at hp2;simp[Wb]at hp2;simp;omega
 ·obtain⟨hx1,hx2⟩:=dJ.1 hx
  obtain⟨a1,a2⟩:=h.h x hx1;obtain⟨p,hp,e⟩:=CH a1
  have hp2:p∈es.filter fun p=>!Wb o p.1 p.2:=dJ.2 ⟨hp,by
   rw[e];simp[Wb];simp at hx2;omega⟩
  have hpe:(kN x,p.2)∈es.filter fun p=>!Wb o p.1 p.2:=by rw[<-e];exact hp2
  have aeN:(kN x,p.2)∈es:=by rw[<-e];exact hp
  refine⟨by have h5:=sP hp2 (hk p hp);rw[e]at h5;exact h5,fun z=>?_⟩;rw[<-a2 z];exact(WideAt.atKey_mem z tV (hap.filter _) hpe).trans (WideAt.atKey_mem z tV hap aeN).symm
theorem qF.size {D:DataW Unit}{st:List Nat}{f:Nat->Int}(h:qF D st f)(hc:Canon D)(hn:st.Pairwise (· < ·)):Maps.size D=st.length:=by
 obtain⟨es,rfl,hr,hk⟩:=hc;have hlt:(st.map (fun(x:Nat)=>(x:Int))).Pairwise (· < ·):=List.pairwise_map.2 (hn.imp (fun {a b} hab=>by omega))
 have hp:=perm_intKeys (ss:=st.map (fun(x:Nat)=>(x:Int))) (apart_of_rising hr) (fun p hp=>by
  obtain⟨x,_,e⟩:=h.k _ (sP hp (hk p hp))
  exact⟨_,e⟩) (List.Pairwise.imp (fun {a b} (hab:a<b) (e:a=b)=>by omega) hlt) (fun x=>?_)
 ·have:=hp.length_eq
  rw[cP]at this;rw[size_eq,this];simp[intKeys]
 ·rw[dX]
  constructor
  ·rintro ⟨y,hy,rfl⟩;exact(h.h y hy).1
  ·intro hx
   obtain⟨y,hy,e⟩:=h.k _ hx;exact⟨y,hy,by simpa using e.symm⟩
structure AM (D:DataW Unit)(out:List (Nat × Nat)):Prop where
 m:IsMap D
 k:∀kl,Maps.has D kl=true->∃p∈out,kl=kN p.1
 h:∀p∈out,Maps.has D (kN p.1)=true/\∀z,D.atKey (kN p.1) z=.lit (.int .i64 (p.2:Nat))
theorem AM.put {D:DataW Unit}{out:List (Nat × Nat)}(h:AM D out)(a b:Nat)(hf:∀p∈out,p.1≠a):AM (D.put (kN a) (.lit (.int .i64 (b:Nat)))) (yQ (a,b) out):=by
 refine⟨h.m.put _ _,fun kl hk=>?_,fun p hp=>?_⟩
 ·by_cases e:kl=kN a
  ·exact⟨(a,b),(p_ _ _ _).2 (.inl rfl),e⟩
  ·rw[has_put_other e]at hk
   obtain⟨p,hp,e'⟩:=h.k kl hk;exact⟨p,(p_ _ _ _).2 (.inr hp),e'⟩
 ·rcases(p_ _ _ _).1 hp with rfl | hp
  ·exact⟨has_put_same (k:=kN a) h.m tV _,fun z=>atKey_put_same (k:=kN a) h.m tV _ z⟩
  ·have e:=hf p hp
   exact⟨by rw[has_put_other (ze e)];exact(h.h p hp).1,fun z=>by rw[atKey_put_other (ze e)];exact(h.h p hp).2 z⟩
theorem AM.start:AM (.map []) []:=⟨isMap_empty,fun kl h=>(by cases h),fun p h=>(by cases h)⟩
theorem qF.start (f:Nat->Int):qF (.map []) [] f:=⟨isMap_empty,fun kl h=>(by cases h),fun p h=>(by cases h)⟩
theorem AM.keys {D:DataW Unit}{out:List (Nat × Nat)}(h:AM D out)(hc:Canon D)(hs:out.Pairwise (fun a b=>a.1<b.1)){ss:List Int}(hp:ss.Perm (intKeys D)):ss.mergeSort (fun x y=>decide (x<=y))=out.map (fun p=>(p.1:Int))/\ss.length=out.length/\Maps.size D=out.length:=by
 obtain⟨es,rfl,hr,hk⟩:=hc;have hlt:(out.map (fun p=>(p.1:Int))).Pairwise (· < ·):=List.pairwise_map.2 (hs.imp (fun {a b} hab=>by omega))
 have hq:=perm_intKeys (ss:=out.map (fun(p:Nat × Nat)=>(p.1:Int))) (apart_of_rising hr) (fun p hp=>by
  obtain⟨x,_,e⟩:=h.k _ (sP hp (hk p hp))
  exact⟨_,e⟩) (List.Pairwise.imp (fun {a b} (hab:a<b) (e:a=b)=>by omega) hlt) (fun x=>?_)
 ·have h1:ss.Perm (out.map (fun p=>(p.1:Int))):=hp.trans hq.symm
  refine⟨?_,by have:=h1.length_eq;rw[cP]at this;exact this,?_⟩
  ·rw[mergeSort_of_perm_i h1]
   exact List.mergeSort_of_pairwise (hlt.imp (fun {a b} hab=>by simp;omega))
  ·have:=hq.length_eq
   rw[cP]at this;rw[size_eq,this];simp[intKeys]
 ·rw[dX]
  constructor
  ·rintro ⟨y,hy,rfl⟩;exact(h.h y hy).1
  ·intro hx
   obtain⟨y,hy,e⟩:=h.k _ hx;exact⟨y,hy,by simpa using e.symm⟩
theorem Mu (x c:Int)(o bo:Nat)(w:World)(h:w.cell? ⟨bo,0,none⟩=some (.int .i64 (o:Nat))):Calls prog 213 #[.int .i64 x,.int .i32 c,.pointer (some ⟨bo,0,none⟩)] w fun e w'=>e=.returned (.bool (decide ((o:Int)<=x)))/\w'=w:=by
 go_enter func213,ntmps213;go_wp2
 all_goals go_ret
 all_goals exact⟨tF rfl,rfl⟩
theorem T0 (b n bo o:Nat)(D:DataW Unit)(w:World)(hown:w.ownsMap prog 3 (plainElem prog 21) b n D)(h:w.cell? ⟨bo,0,none⟩=some (.int .i64 (o:Nat)))(hb:bo≠b) :
 Calls prog 212 #[.map (some b),.func (.func 213) #[] #[.pointer (some ⟨bo,0,none⟩)]] w fun e w'=>e=.returned (.tuple #[])/\w'.ownsMap prog 3 (plainElem prog 21) b n (Lib.deleteFuncD (Wb o) D)/\w.grownBy w' (some b):=by
 refine AnyDf.maps_DeleteFunc (ρ:=Tryz.GR) Tryz.aeM sX (plainElem prog 21) (Wb o) 213 #[.pointer (some ⟨bo,0,none⟩)] b n D w (g_ func213 (by kernel_rfl) rfl) hown ?_;intro W key val kl yd yp hg hk hv;obtain⟨x,rfl,rfl,_⟩:=Maps.keyOf_int_inv underlying3 hk;obtain⟨c,rfl,_,_⟩:=plainElem_int_inv underlying21 hv;have hc:W.cell? ⟨bo,0,none⟩=some (.int .i64 (o:Nat)):=(Fr.m8 hg).cell h (by simp[hb]);refine(Mu x c o bo W hc).mono ?_;rintro e w' ⟨rfl,rfl⟩;exact⟨rfl,⟨rfl,rfl,rfl,au _,fun _ _ _=>rfl⟩⟩
theorem Qb (r:Int):(Lit.int .i32 (j6 r)).wf=true:=by
 unfold j6;split
 ·decide
 ·split
  ·decide
  ·split
   ·decide
   ·split
    ·decide
    ·split <;> decide
theorem CI {T:List Nat}{w w':World}{b n:Nat}{D:DataW Unit}(h:w.ownsMap prog 3 (plainElem prog 21) b n D)(hf:Fr T w w')(hb:b ∉ T):w'.ownsMap prog 3 (plainElem prog 21) b n D:=by
 obtain⟨es,clock,hh,r⟩:=h;exact⟨es,clock,(hf.block b (aC.1 hh).1 hb).trans hh,r⟩
theorem uU {T:List Nat}{w w':World}{b n:Nat}{D:DataW Unit}(h:w.ownsMap prog 3 (plainElem prog 3) b n D)(hf:Fr T w w')(hb:b ∉ T):w'.ownsMap prog 3 (plainElem prog 3) b n D:=by
 obtain⟨es,clock,hh,r⟩:=h;exact⟨es,clock,(hf.block b (aC.1 hh).1 hb).trans hh,r⟩
theorem Mv {R:List Int}{I:List Nat}{C:List Int}{k:Nat}{p:W7}(hv:BK p k)(ho:∀x∈p.st,opens (cl I R x)=true)(hs:p.stop=false)(Qc:cl I C k=13)(hop:opens (cl I R k)=false){z:Int}(hz:Jg p.st (fun x=>j6 (cl I R x)) (cl I R k) z) :
 (z=-1/\jX R I C k p=p)\/∃j,j<p.st.length/\z=(iP p.st j:Nat)/\jX R I C k p={ p with st:=p.st.take j,out:=yQ (iP p.st j,k) p.out }:=by
 obtain⟨f1,f2,f3,f4,f5,f6⟩:=B8 R I C k p hs;obtain⟨l1,l2⟩:=LL hv.up ho (cl I R k);by_cases h0:shuts (cl I R k)=0
 ·rcases hz with⟨e,_⟩ | ⟨x,hx,e,hf,_⟩
  ·exact .inl ⟨e,f4 Qc hop h0⟩
  ·exact absurd hf (l2 (by rw[aE h0]) x hx)
 ·rw[ay h0]at l1 l2
  cases Kv:oA R I p.st (shuts (cl I R k)) p.st.length with
  | none =>
    rcases hz with⟨e,_⟩ | ⟨x,hx,e,hf,_⟩
    ·exact .inl ⟨e,f5 Qc hop h0 Kv⟩
    ·exact absurd hf (l2 Kv x hx)
  | some j =>
    obtain⟨a1,a2,a3⟩:=l1 j Kv;have hm:iP p.st j∈p.st:=by rw[jq a1];exact bB a1
    rcases hz with⟨_,e⟩ | ⟨x,hx,e,hf,hmx⟩
    ·exact absurd a2 (e _ hm)
    ·refine .inr ⟨j,a1,?_,f6 j Qc hop h0 Kv⟩
     have b1:=a3 x hx hf;have b2:=hmx _ hm a2;omega
theorem Mw (q:UH)(C L:List Int)(S Q cQ:Nat)(s:Sq)(lv:Int)(w:World)(hu:US w q C L)(hs:SS w q S Q cQ s lv) :
 Calls prog 184 #[.pointer (some ⟨S,0,none⟩)] w fun e w'=>e=.returned (.map (some w.heap.size))/\(∃D,w'.ownsMap prog 3 (plainElem prog 3) w.heap.size s.I.length D/\AM D (jm q.R s.I C s.I.length).out)/\Fr [] w w':=by
 have hmm:=@run_makeMap prog;have HU:=hid hu;have HS:=hid hs;have c0:=hs.c0;have sm:=hs.sm;obtain⟨m,hm⟩:∃m,m=s.I.length:=⟨_,rfl⟩;have HM:=hid hm;rw[<-hm]at c0 sm;rw[<-hm];obtain⟨Z,hZ⟩:∃Z,Z=(jm q.R s.I C m).out:=⟨_,rfl⟩;rw[<-hZ];have HZ:=hid hZ;have hSw:S<w.heap.size:=fC _ _ c0;clear hu hs hm hZ;go_enter func184,ntmps184;go_wp2;go_loopw [16] (fun a wr=>∃(k:Nat) (DP DO:DataW Unit),a=.int .i64 k/\k<=m/\Hid (wr.ownsMap prog 3 (plainElem prog 3) w.heap.size k DP)/\Hid (wr.ownsMap prog 3 (plainElem prog 21) (w.heap.size+1) k DO)/\Hid (AM DP (jm q.R s.I C k).out)/\Hid (qF DO (jm q.R s.I C k).st (fun x=>j6 (cl s.I q.R x)))/\Hid ((jm q.R s.I C k).stop=false)/\Hid (Fr [] w wr)) (fun a _=>m - (Go.RowKit.intOf a).toNat)
 case atStart =>
  have h1:=iE w prog 3 (plainElem (H:=Unit) prog 3);have h2:=iE (w.alloc (.map #[] 0)) prog 3 (plainElem (H:=Unit) prog 21);rw[fD]at h2;exact⟨0,_,_,rfl,aN _,hid (h1.alloc _),hid h2,hid AM.start,hid (qF.start _),hid rfl,hid (((Fr.refl [] w).alloc _).alloc _)⟩
 case round =>
  obtain⟨k,DP,DO,rfl,hk,HP,HO,ZF,T1,Fu,HF⟩:=hrel;by_cases hlt:k<m
  ·have HV:=hid (AY q.R s.I C k)
   have HOP:=hid (B6 q.R s.I C k);have qP:=hid (show jm q.R s.I C (k+1)=jX q.R s.I C k (jm q.R s.I C k)from rfl);have Gj:=hid (B8 q.R s.I C k _ Fu.out);have L3:=hid (fun Qc hop (z:Int) hz=>Mv (C:=C) HV.out HOP.out Fu.out Qc hop (z:=z) hz);have HPS:=hid (fun h=>B7 q.R s.I C (k+1) h (m - (k+1)));rw[<-qP.out]at Gj L3;have hks:k<s.I.length:=by rw[<-HM.out];exact hlt
   have p1:=(HS.out.fr HF.out aj aj).p k hks;have p2:=(HU.out.fr HF.out aj).c _ (HS.out.lt k hks);have p3:=(HU.out.fr HF.out aj).r _ (HS.out.lt k hks);have wX:(k:Int)<(m:Int):=by omega
   have Sv:=hid (show nth q.R (iP s.I k)=cl s.I q.R k from rfl);have Xk:=hid (show nth C (iP s.I k)=cl s.I C k from rfl);have hwl:=HF.out.size;have hOl:=HO.out.lt;have za:=HP.out.lt;clear hks;generalize hp:jm q.R s.I C k=p at *;have HP0:=hid hp;rw[Sv.out]at p3;rw[Xk.out]at p2;generalize iP s.I k=i at *;generalize hcr:cl s.I q.R k=r at *;have ZG:=hid hcr;generalize hcc:cl s.I C k=c at *;clear hp hcr hcc Sv Xk qP;by_cases Qc:c=13
   ·subst Qc
    have HC:=hid (Pb r);by_cases hop:j6 r=0
    ·have Mt:opens r=false:=by
      cases ho:opens r with
      | false=>rfl
      | true=>exact absurd hop ((zV r).2 ho)
     have X7:=hid (fun(z:Int) hz=>L3.out rfl Mt z hz);have X8:=hid (fun Y (hf:Fr [] wr Y)=>Qa (w.heap.size+1) k DO p.st _ r Y (CI HO.out hf aj) T1.out (fun x hx=>by have:=HV.out.st x hx;omega));rw[hop]at HC;clear Gj L3 HPS hop Mt;go_wp2_with (first | (go_at_call 210;refine(HC.out _).mono ?_;rintro e w' ⟨rfl,rfl⟩));refine(X8.out _ (Fr.refl _ _)).mono ?_;rintro e w1 ⟨z,rfl,hz,hf1⟩;have jc:=hid (HF.out.trans hf1);have PR:=hid (uU HP.out hf1 aj);have lT:=hid (CI HO.out hf1 aj);have hw1:=hf1.size
     rcases X7.out z hz with⟨e1,e2⟩ | ⟨j,hj,e1,e2⟩
     ·have HN:=hid e2
      subst e1;clear hz hf1 X7 X8 e2;go_wp2;go_roundw
      case rel=>exact⟨k+1,DP,DO,by go_num,by omega,hid ((PR.out.alloc _).mono (by omega)),hid ((lT.out.alloc _).mono (by omega)),hid (by rw[HN.out];exact ZF.out),hid (by rw[HN.out];exact T1.out),hid (by rw[HN.out];exact Fu.out),hid (jc.out.alloc _)⟩
      case measure=>simp[Go.RowKit.intOf];omega
     ·have HN:=hid e2
      have hoj:iP p.st j∈p.st:=by rw[jq hj];exact bB hj
      have HPP:=hid (ZF.out.put (iP p.st j) k (fun x hx he=>HV.out.dj x hx (by rw[he];exact hoj)));have HDD:=hid (show qF (Lib.deleteFuncD (Wb (iP p.st j)) DO) (p.st.take j) (fun x=>j6 (cl s.I q.R x)) by rw[<-Tc HV.out.up hj];exact T1.out.del (HO.out.canon sX) _);have GP:iP p.st j<k:=HV.out.st _ hoj;subst e1;generalize iP p.st j=o at *;have ho0:(0:Int)<=(o:Int):=by omega
      obtain⟨w2,hw2⟩:∃w2,w2=w1.alloc (.cells #[.int .i64 (o:Nat)] 3):=⟨_,rfl⟩;have ZH:=hid (PR.out.alloc (.cells #[.int .i64 (o:Nat)] 3));have jO:=hid (lT.out.alloc (.cells #[.int .i64 (o:Nat)] 3));have i_:=hid (jc.out.alloc (.cells #[.int .i64 (o:Nat)] 3));have hcb:w2.cell? ⟨w1.heap.size,0,none⟩=some (.int .i64 (o:Nat)):=by rw[hw2,fX (hn:=rfl)];rfl
      rw[<-hw2]at ZH jO i_;have HCB:=hid hcb;have HW2:=hid hw2;clear hz hf1 X7 X8 e2 hoj hcb hw2;go_wp2_with (first | (at_mapUpdate;refine iw _ rfl _ _ _ 258 rfl 3 3 sX underlying258 _ w.heap.size k DP rfl (by rw[<-HW2.out];exact ZH.out) (by unfold maxLen;omega) _ _ (kN o) rfl rfl (keyOf_int_mk underlying3 (f_ (by omega))) (.lit (.int .i64 (k:Nat))) [] (plainElem_int underlying3 (f_ (by omega))) ?_));intro w3 hown3 hgrow3;rw[<-HW2.out]at hgrow3;have E8:=hid hown3;have lD:=hid (CI jO.out (Fr.m8 hgrow3) (by simp));have jQ:=hid (i_.out.grown hgrow3 (fun j hj=>by cases hj;omega));have hc3:w3.cell? ⟨w1.heap.size,0,none⟩=some (.int .i64 (o:Nat)):=(Fr.m8 hgrow3).cell HCB.out (by simp;omega);have aeP:=hid (T0 (w.heap.size+1) k w1.heap.size o DO w3 lD.out hc3 (by omega));clear hown3 hgrow3 hc3;go_wp2_with fail;refine aeP.out.mono ?_;rintro e w4 ⟨rfl,xS,Jh⟩;have oI:=hid xS;have GS:=hid (uU E8.out (Fr.m8 Jh) (by simp));have jI:=hid (jQ.out.grown Jh (fun j hj=>by cases hj;omega));clear xS Jh;go_wp2;go_roundw
      case rel=>exact⟨k+1,_,_,by go_num,by omega,GS,hid (oI.out.mono (by omega)),hid (by rw[HN.out];exact HPP.out),hid (by rw[HN.out];exact HDD.out),hid (by rw[HN.out];exact Fu.out),jI⟩
      case measure=>simp[Go.RowKit.intOf];omega
    ·have Mt:opens r=true:=(zV r).1 hop
     have Qd:Maps.size DO=p.st.length:=T1.out.size (HO.out.canon sX) HV.out.up;have hop':(j6 r == 0)=false:=by simp[hop]
     by_cases h8:p.st.length=8
     ·have HN:=hid (Gj.out.2.1 rfl Mt h8)
      have qE:=hid (show Z=p.out by rw[HZ.out,show m=k+1+(m - (k+1)) by omega,HPS.out (by rw[HN.out]),HN.out]);rw[h8]at Qd;generalize j6 r=cr at *;clear Gj L3 HPS;go_wp2_with (first | (go_at_call 210;refine(HC.out _).mono ?_;rintro e w' ⟨rfl,rfl⟩) | (at_len;refine wpList_len_own _ rfl _ 323 rfl 3 21 underlying323 _ (w.heap.size+1) k DO rfl HO.out ?_));go_ret;exact⟨rfl,⟨DP,HP.out.mono hk,by rw[qE.out];exact ZF.out⟩,HF.out⟩
     ·have HN:=hid (Gj.out.2.2.1 rfl Mt h8)
      have HWF:=hid (Qb r);have aa9:=hid (T1.out.put k);rw[ZG.out]at aa9;have h8I:¬(p.st.length:Int)=8:=by omega
      have h8b:((p.st.length:Int) == 8)=false:=by simp;omega
      generalize p.st.length=l8 at *;generalize j6 r=cr at *;clear Gj L3 HPS;go_wp2_with (first | (go_at_call 210;refine(HC.out _).mono ?_;rintro e w' ⟨rfl,rfl⟩) | (at_len;refine wpList_len_own _ rfl _ 323 rfl 3 21 underlying323 _ (w.heap.size+1) k DO rfl HO.out ?_) | (at_mapUpdate;refine iw _ rfl _ _ _ 323 rfl 3 21 sX underlying323 _ (w.heap.size+1) k DO rfl HO.out (by unfold maxLen;omega) _ _ (kN k) rfl rfl (keyOf_int_mk underlying3 (f_ (by omega))) (.lit (.int .i32 cr)) [] (plainElem_int underlying21 HWF.out) ?_));intro w3 hown3 hgrow3;have lD:=hid hown3;have E8:=hid (uU HP.out (Fr.m8 hgrow3) (by simp));have jQ:=hid (HF.out.grown hgrow3 (fun j hj=>by cases hj;omega));clear hown3 hgrow3;go_wp2;go_roundw
      case rel=>exact⟨k+1,DP,_,by go_num,by omega,hid (E8.out.mono (by omega)),lD,hid (by rw[HN.out];exact ZF.out),hid (by rw[HN.out];exact aa9.out),hid (by rw[HN.out];exact Fu.out),jQ⟩
      case measure=>simp[Go.RowKit.intOf];omega
   ·have HN:=hid (Gj.out.1 Qc)
    have aiT:(c == 13)=false:=by simp[Qc]
    clear Gj L3 HPS;go_wp2;go_roundw
    case rel=>exact⟨k+1,DP,DO,by go_num,by omega,hid (HP.out.mono (by omega)),hid (HO.out.mono (by omega)),hid (by rw[HN.out];exact ZF.out),hid (by rw[HN.out];exact T1.out),hid (by rw[HN.out];exact Fu.out),HF⟩
    case measure=>simp[Go.RowKit.intOf];omega
  ·have hke:k=m:=by omega
   have qE:=hid (show AM DP Z by rw[HZ.out,<-hke];exact ZF.out);have wX:¬(k:Int)<(m:Int):=by omega
   clear hke;go_wp2;go_ret;exact⟨rfl,⟨DP,HP.out.mono hk,qE.out⟩,HF.out⟩
end Go.Proofs.YtnakejhohdbfdacGreatDoor

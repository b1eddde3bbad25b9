import Derived.Shelf.SlMaps.DeleteFunc
import Derived.Test.YtnakejhohdbfdaaGreatDoorVay
import Derived.Maps.RangeWalk
import Derived.Maps.Ext
import Derived.Lib.SlKeysI
import Derived.Test.YtnakejhohdbfdaaGreatDoorVao
set_option maxHeartbeats 8000000
set_option maxRecDepth 100000
namespace Go.Proofs
open Go.Shelf Go.Proofs.Tryz
def Tryz.Hr:Go.Shelf.Ren:=⟨fun | 5=>192 | n=>n,fun | 23=>273 | 26=>3 | 24=>21 | 27=>276 | 0=>0 | 4=>4 | n=>n,fun | n=>n⟩
theorem Tryz.aga:Go.Proofs.SlLaysDf.n5 prog Tryz.Hr:={
 mixed:=by kernel_rfl
 f5:=⟨Tryz.f192.name,by decide,Tryz.func192.trans (congrArg some (by kernel_rfl))⟩
 t0:=underlying0
 a0:=isAgg0
 z0:=sizeOf0
 v0:=zeroValue0
 t4:=underlying4
 a4:=isAgg4
 z4:=sizeOf4
 v4:=zeroValue4
 t23:=underlying273
 a23:=isAgg273
 z23:=sizeOf273
 v23:=zeroValue273
 a24:=isAgg21
 z24:=sizeOf21
 a26:=isAgg3
 z26:=sizeOf3
 t27:=underlying276
 a27:=isAgg276
 z27:=sizeOf276
 v27:=zeroValue276 }
end Go.Proofs
namespace Go.Proofs.YtnakejhohdbfdaaGreatDoor
open Go.RowKit jN Go.Maps Go.Proofs.Tryz
structure qP (D:DataW Unit)(st:List Nat)(f:Nat->Int):Prop where
 m:IsMap D
 k:∀kl,Maps.has D kl=true->∃x∈st,kl=kN x
 h:∀x∈st,Maps.has D (kN x)=true/\∀z,D.atKey (kN x) z=.lit (.int .i32 (f x))
def JQ (st:List Nat)(f:Nat->Int)(r Z:Int):Prop:=(Z=-1/\∀x∈st,f x≠r)\/∃x∈st,Z=x/\f x=r/\∀y∈st,f y=r->y<=x
structure zE (st:List Nat)(f:Nat->Int)(r:Int)(D:DataW Unit)(left:Lit->Bool)(z:Int):Prop where
 a:∀y∈st,left (kN y)=false->f y=r->(y:Int)<=z
 b:z=-1\/∃x∈st,z=x/\f x=r
 l:∀kl,left kl=true->Maps.has D kl=true
theorem U_ (y x:Nat):(kN y).sameKey (kN x)=decide (y=x):=by
 simp[Lit.sameKey];omega
theorem zE.end {st:List Nat}{f:Nat->Int}{r z:Int}{D:DataW Unit}{left:Lit->Bool}(h:zE st f r D left z)(hl:∀kl,left kl=false):JQ st f r z:=by
 rcases h.b with e | ⟨x,hx,e,hf⟩
 ·exact .inl ⟨e,fun x hx hf=>by have:=h.a x hx (hl _) hf;omega⟩
 ·exact .inr ⟨x,hx,e,hf,fun y hy hfy=>by have:=h.a y hy (hl _) hfy;omega⟩
theorem zE.step {st:List Nat}{f:Nat->Int}{r z:Int}{D:DataW Unit}{left:Lit->Bool}(h:zE st f r D left z){x:Nat}(hx:x∈st)(z':Int)(hz:z'=if f x=r then max z x else z):zE st f r D (fun k=>left k && !k.sameKey (kN x)) z':=by
 refine⟨fun y hy hl hf=>?_,?_,fun kl hl=>h.l kl (by simp at hl;exact hl.1)⟩
 ·rw[U_]at hl
  by_cases e:y=x
  ·subst e;rw[hz,ay hf];omega
  ·have h1:left (kN y)=false:=by simpa[e] using hl
   have:=h.a y hy h1 hf;rw[hz];split <;> omega
 ·rw[hz]
  by_cases e:f x=r
  ·rw[ay e]
   rcases h.b with e1 | ⟨x1,hx1,e1,hf1⟩
   ·exact .inr ⟨x,hx,by omega,e⟩
   ·by_cases e2:x1<=x
    ·exact .inr ⟨x,hx,by omega,e⟩
    ·exact .inr ⟨x1,hx1,by omega,hf1⟩
  ·rw[au e];exact h.b
theorem Rw (b n:Nat)(D:DataW Unit)(st:List Nat)(f:Nat->Int)(r:Int)(w:World)(hown:w.ownsMap prog 3 (plainElem prog 21) b n D)(hm:qP D st f)(hb:∀x∈st,x<=1000000) :
 Calls prog 191 #[.map (some b),.int .i32 r] w fun e w'=>∃z:Int,e=.returned (.int .i64 z)/\JQ st f r z/\Fr [] w w':=by
 have HM:=hid hm;have HB:=hid hb;clear hm hb;go_enter func191,ntmps191
 go_wp2_with (first
  | (at_range;refine wpList_range_own _ rfl _ 273 rfl 3 21 tB underlying273 _ b n _ rfl hown ?_;intro w0 hrg0 hg0 hs0)
  | go_in)
 go_frame;go_loopw [5] (fun a wr=>∃(z:Int) (left:Lit->Bool) (cnt:Nat),a=.int .i64 z/\-1<=z/\z<=1000000/\wr.ranges prog 3 (plainElem prog 21) b w.heap.size n D left cnt/\Hid (zE st f r D left z)/\Hid (Fr [] w wr))
  (fun _ wr=>wr.rangeLeft b w.heap.size)
 case atStart=>exact⟨-1,_,_,rfl,by omega,by omega,hrg0,hid ⟨fun y hy hl=>(by rw[(HM.out.h y hy).1]at hl;cases hl),.inl rfl,fun _ h=>h⟩,hid ⟨hg0.os,hg0.tape,hg0.output,hg0.size,fun k hk _=>hg0.block k hk (by simp)⟩⟩
 case round =>
  obtain⟨z,left,cnt,rfl,hz0,hz1,hrg,HL,HF⟩:=hrel
  go_wp2_with (first
   | (at_next;refine wpList_next_ranges_ii _ rfl _ rfl 3 21 .i64 .i32 tB underlying3 underlying21 b w.heap.size n _ _ _ rfl hrg ?_ ?_)
   | go_in)
  ·intro _ hl0
   go_wp2;go_ret;exact⟨z,rfl,HL.out.end hl0,HF.out⟩
  ·intro x c w1 cnt1 hwx hwc hlx hat hrg1 hlt hg1 hs1 hen
   obtain⟨i,hi,hik⟩:=HM.out.k _ (HL.out.l _ hlx);obtain rfl:x=(i:Int):=by simpa using hik
   obtain rfl:c=f i:=by have h5:=(hat (.lit (.int .i64 0))).symm.trans ((HM.out.h i hi).2 _);simpa using h5
   have iy:=hid (HF.out.grown hg1 (fun j hj=>by cases hj;exact ak _));have hib:=HB.out i hi;have HST:=hid (fun z' h=>HL.out.step hi z' h);generalize f i=c at *;clear hik hat hwx hwc hlx;by_cases e:c=r
   ·have vH:=hid (HST.out (max z i) (by rw[ay e]))
    subst e;have hmx:(if z<(i:Int)then(i:Int)else z)=max z i:=by split <;> omega
    clear HST;go_wp2;go_roundw
    case rel=>exact⟨max z i,_,cnt1,rfl,by omega,by omega,hrg1,vH,iy⟩
    case measure=>rw[hrg1.left_eq,hrg.left_eq];exact hlt
   ·have vH:=hid (HST.out z (by rw[au e]))
    have e':(c == r)=false:=by simp[e]
    clear HST;go_wp2;go_roundw
    case rel=>exact⟨z,_,cnt1,rfl,hz0,hz1,hrg1,vH,iy⟩
    case measure=>rw[hrg1.left_eq,hrg.left_eq];exact hlt
theorem CT {es:List (Lit × DataW Unit)}{kl:Lit}(h:Maps.has (.map es) kl=true):∃p∈es,p.1=kl:=by
 rw[has_eq,eI]at h;obtain⟨p,hp,hs⟩:=h;exact⟨p,hp,WideAt.sameKey_eq hs⟩
theorem sV {es:List (Lit × DataW Unit)}{p:Lit × DataW Unit}(hp:p∈es)(hk:WideAt.IsKeyLit p.1):Maps.has (.map es) p.1=true:=by
 rw[has_eq,eI];exact⟨p,hp,WideAt.sameKey_self hk⟩
theorem qP.put {D:DataW Unit}{st:List Nat}{f:Nat->Int}(h:qP D st f)(x:Nat):qP (D.put (kN x) (.lit (.int .i32 (f x)))) (st++[x]) f:=by
 refine⟨h.m.put _ _,fun kl hk=>?_,fun y hy=>?_⟩
 ·by_cases e:kl=kN x
  ·exact⟨x,by simp,e⟩
  ·rw[has_put_other e]at hk
   obtain⟨y,hy,e'⟩:=h.k kl hk;exact⟨y,by simp[hy],e'⟩
 ·by_cases e:y=x
  ·subst e
   exact⟨has_put_same (k:=kN y) h.m uz _,fun z=>atKey_put_same (k:=kN y) h.m uz _ z⟩
  ·have hy':y∈st:=by
    rcases bD.1 hy with h1 | h1
    ·exact h1
    ·exact absurd (aj.1 h1) e
   exact⟨by rw[has_put_other (zx e)];exact(h.h y hy').1,fun z=>by rw[atKey_put_other (zx e)];exact(h.h y hy').2 z⟩
def WY (o:Nat):Lit->DataW Unit->Bool
 | .int _ x,_=>decide ((o:Int)<=x)
 | _,_=>false
theorem qP.del {D:DataW Unit}{st:List Nat}{f:Nat->Int}(h:qP D st f)(hc:Canon D)(o:Nat):qP (Lib.deleteFuncD (WY o) D) (st.filter (fun x=>decide (x<o))) f:=by
 obtain⟨es,rfl,hr,hk⟩:=hc;have hap:=apart_of_rising hr;refine⟨⟨_,rfl⟩,fun kl hkl=>?_,fun x hx=>?_⟩
 ·obtain⟨p,hp,rfl⟩:=CT hkl
  obtain⟨hp1,hp2⟩:=dK.1 hp;obtain⟨x,hx,e⟩:=h.k _ (sV hp1 (hk p hp1));refine⟨x,dK.2 ⟨hx,?_⟩,e⟩;rw[e]at hp2;simp[WY]at hp2;simp;omega
 ·obtain⟨hx1,hx2⟩:=dK.1 hx
  obtain⟨a1,a2⟩:=h.h x hx1;obtain⟨p,hp,e⟩:=CT a1
  have hp2:p∈es.filter fun p=>!WY o p.1 p.2:=dK.2 ⟨hp,by
   rw[e];simp[WY];simp at hx2;omega⟩
  have hpe:(kN x,p.2)∈es.filter fun p=>!WY o p.1 p.2:=by rw[<-e];exact hp2
  have agb:(kN x,p.2)∈es:=by rw[<-e];exact hp
  refine⟨by have h5:=sV hp2 (hk p hp);rw[e]at h5;exact h5,fun z=>?_⟩;rw[<-a2 z];exact(WideAt.atKey_mem z uz (hap.filter _) hpe).trans (WideAt.atKey_mem z uz hap agb).symm
theorem qP.size {D:DataW Unit}{st:List Nat}{f:Nat->Int}(h:qP D st f)(hc:Canon D)(hn:st.Pairwise (· < ·)):Maps.size D=st.length:=by
 obtain⟨es,rfl,hr,hk⟩:=hc;have hlt:(st.map (fun(x:Nat)=>(x:Int))).Pairwise (· < ·):=List.pairwise_map.2 (hn.imp (fun {a b} hab=>by omega))
 have hp:=perm_intKeys (ss:=st.map (fun(x:Nat)=>(x:Int))) (apart_of_rising hr) (fun p hp=>by
  obtain⟨x,_,e⟩:=h.k _ (sV hp (hk p hp))
  exact⟨_,e⟩) (List.Pairwise.imp (fun {a b} (hab:a<b) (e:a=b)=>by omega) hlt) (fun x=>?_)
 ·have:=hp.length_eq
  rw[dm]at this;rw[size_eq,this];simp[intKeys]
 ·rw[dP]
  constructor
  ·rintro ⟨y,hy,rfl⟩;exact(h.h y hy).1
  ·intro hx
   obtain⟨y,hy,e⟩:=h.k _ hx;exact⟨y,hy,by simpa using e.symm⟩
structure AQ (D:DataW Unit)(out:List (Nat × Nat)):Prop where
 m:IsMap D
 k:∀kl,Maps.has D kl=true->∃p∈out,kl=kN p.1
 h:∀p∈out,Maps.has D (kN p.1)=true/\∀z,D.atKey (kN p.1) z=.lit (.int .i64 (p.2:Nat))
theorem AQ.put {D:DataW Unit}{out:List (Nat × Nat)}(h:AQ D out)(a b:Nat)(hf:∀p∈out,p.1≠a):AQ (D.put (kN a) (.lit (.int .i64 (b:Nat)))) (su (a,b) out):=by
 refine⟨h.m.put _ _,fun kl hk=>?_,fun p hp=>?_⟩
 ·by_cases e:kl=kN a
  ·exact⟨(a,b),(pX _ _ _).2 (.inl rfl),e⟩
  ·rw[has_put_other e]at hk
   obtain⟨p,hp,e'⟩:=h.k kl hk;exact⟨p,(pX _ _ _).2 (.inr hp),e'⟩
 ·rcases(pX _ _ _).1 hp with rfl | hp
  ·exact⟨has_put_same (k:=kN a) h.m uz _,fun z=>atKey_put_same (k:=kN a) h.m uz _ z⟩
  ·have e:=hf p hp
   exact⟨by rw[has_put_other (zx e)];exact(h.h p hp).1,fun z=>by rw[atKey_put_other (zx e)];exact(h.h p hp).2 z⟩
theorem AQ.start:AQ (.map []) []:=⟨isMap_empty,fun kl h=>(by cases h),fun p h=>(by cases h)⟩
theorem qP.start (f:Nat->Int):qP (.map []) [] f:=⟨isMap_empty,fun kl h=>(by cases h),fun p h=>(by cases h)⟩
theorem AQ.keys {D:DataW Unit}{out:List (Nat × Nat)}(h:AQ D out)(hc:Canon D)(hs:out.Pairwise (fun a b=>a.1<b.1)){ss:List Int}(hp:ss.Perm (intKeys D)):ss.mergeSort (fun x y=>decide (x<=y))=out.map (fun p=>(p.1:Int))/\ss.length=out.length/\Maps.size D=out.length:=by
 obtain⟨es,rfl,hr,hk⟩:=hc;have hlt:(out.map (fun p=>(p.1:Int))).Pairwise (· < ·):=List.pairwise_map.2 (hs.imp (fun {a b} hab=>by omega))
 have hq:=perm_intKeys (ss:=out.map (fun(p:Nat × Nat)=>(p.1:Int))) (apart_of_rising hr) (fun p hp=>by
  obtain⟨x,_,e⟩:=h.k _ (sV hp (hk p hp))
  exact⟨_,e⟩) (List.Pairwise.imp (fun {a b} (hab:a<b) (e:a=b)=>by omega) hlt) (fun x=>?_)
 ·have h1:ss.Perm (out.map (fun p=>(p.1:Int))):=hp.trans hq.symm
  refine⟨?_,by have:=h1.length_eq;rw[dm]at this;exact this,?_⟩
  ·rw[mergeSort_of_perm_i h1]
   exact List.mergeSort_of_pairwise (hlt.imp (fun {a b} hab=>by simp;omega))
  ·have:=hq.length_eq
   rw[dm]at this;rw[size_eq,this];simp[intKeys]
 ·rw[dP]
  constructor
  ·rintro ⟨y,hy,rfl⟩;exact(h.h y hy).1
  ·intro hx
   obtain⟨y,hy,e⟩:=h.k _ hx;exact⟨y,hy,by simpa using e.symm⟩
theorem Nn (x c:Int)(o bo:Nat)(w:World)(h:w.cell? ⟨bo,0,none⟩=some (.int .i64 (o:Nat))):Calls prog 193 #[.int .i64 x,.int .i32 c,.pointer (some ⟨bo,0,none⟩)] w fun e w'=>e=.returned (.bool (decide ((o:Int)<=x)))/\w'=w:=by
 go_enter func193,ntmps193;go_wp2
 all_goals go_ret
 all_goals exact⟨nF rfl,rfl⟩
theorem Va (b n bo o:Nat)(D:DataW Unit)(w:World)(hown:w.ownsMap prog 3 (plainElem prog 21) b n D)(h:w.cell? ⟨bo,0,none⟩=some (.int .i64 (o:Nat)))(hb:bo≠b) :
 Calls prog 192 #[.map (some b),.func (.func 193) #[] #[.pointer (some ⟨bo,0,none⟩)]] w fun e w'=>e=.returned (.tuple #[])/\w'.ownsMap prog 3 (plainElem prog 21) b n (Lib.deleteFuncD (WY o) D)/\w.grownBy w' (some b):=by
 refine AnyDf.maps_DeleteFunc (ρ:=Tryz.Hr) Tryz.aga tB (plainElem prog 21) (WY o) 193 #[.pointer (some ⟨bo,0,none⟩)] b n D w (enters_of func193 (by kernel_rfl) rfl) hown ?_;intro W key val kl yd yp hg hk hv;obtain⟨x,rfl,rfl,_⟩:=Maps.keyOf_int_inv underlying3 hk;obtain⟨c,rfl,_,_⟩:=plainElem_int_inv underlying21 hv;have hc:W.cell? ⟨bo,0,none⟩=some (.int .i64 (o:Nat)):=(Fr.kI hg).cell h (by simp[hb]);refine(Nn x c o bo W hc).mono ?_;rintro e w' ⟨rfl,rfl⟩;exact⟨rfl,⟨rfl,rfl,rfl,ak _,fun _ _ _=>rfl⟩⟩
theorem Rx (r:Int):(Lit.int .i32 (jB r)).wf=true:=by
 unfold jB;split
 ·decide
 ·split
  ·decide
  ·split
   ·decide
   ·split
    ·decide
    ·split <;> decide
theorem CU {T:List Nat}{w w':World}{b n:Nat}{D:DataW Unit}(h:w.ownsMap prog 3 (plainElem prog 21) b n D)(hf:Fr T w w')(hb:b ∉ T):w'.ownsMap prog 3 (plainElem prog 21) b n D:=by
 obtain⟨es,clock,hh,r⟩:=h;exact⟨es,clock,(hf.block b (aD.1 hh).1 hb).trans hh,r⟩
theorem vg {T:List Nat}{w w':World}{b n:Nat}{D:DataW Unit}(h:w.ownsMap prog 3 (plainElem prog 3) b n D)(hf:Fr T w w')(hb:b ∉ T):w'.ownsMap prog 3 (plainElem prog 3) b n D:=by
 obtain⟨es,clock,hh,r⟩:=h;exact⟨es,clock,(hf.block b (aD.1 hh).1 hb).trans hh,r⟩
theorem Np {R:List Int}{I:List Nat}{C:List Int}{k:Nat}{p:Xi}(hv:Bp p k)(ho:∀x∈p.st,opens (cl I R x)=true)(hs:p.stop=false)(Vb:cl I C k=13)(hop:opens (cl I R k)=false){z:Int}(hz:JQ p.st (fun x=>jB (cl I R x)) (cl I R k) z) :
 (z=-1/\jh R I C k p=p)\/∃j,j<p.st.length/\z=(fX p.st j:Nat)/\jh R I C k p={ p with st:=p.st.take j,out:=su (fX p.st j,k) p.out }:=by
 obtain⟨f1,f2,f3,f4,f5,f6⟩:=wF R I C k p hs;obtain⟨l1,l2⟩:=Lu hv.up ho (cl I R k);by_cases h0:shuts (cl I R k)=0
 ·rcases hz with⟨e,_⟩ | ⟨x,hx,e,hf,_⟩
  ·exact .inl ⟨e,f4 Vb hop h0⟩
  ·exact absurd hf (l2 (by rw[ay h0]) x hx)
 ·rw[au h0]at l1 l2
  cases Rr:lT R I p.st (shuts (cl I R k)) p.st.length with
  | none =>
    rcases hz with⟨e,_⟩ | ⟨x,hx,e,hf,_⟩
    ·exact .inl ⟨e,f5 Vb hop h0 Rr⟩
    ·exact absurd hf (l2 Rr x hx)
  | some j =>
    obtain⟨a1,a2,a3⟩:=l1 j Rr;have hm:fX p.st j∈p.st:=by rw[gZ a1];exact aT a1
    rcases hz with⟨_,e⟩ | ⟨x,hx,e,hf,hmx⟩
    ·exact absurd a2 (e _ hm)
    ·refine .inr ⟨j,a1,?_,f6 j Vb hop h0 Rr⟩
     have b1:=a3 x hx hf;have b2:=hmx _ hm a2;omega
theorem Nq (q:UH)(C L:List Int)(S Q cQ:Nat)(s:Sq)(lv:Int)(w:World)(hu:US w q C L)(hs:SS w q S Q cQ s lv) :
 Calls prog 146 #[.pointer (some ⟨S,0,none⟩)] w fun e w'=>e=.returned (.map (some w.heap.size))/\(∃D,w'.ownsMap prog 3 (plainElem prog 3) w.heap.size s.I.length D/\AQ D (gF q.R s.I C s.I.length).out)/\Fr [] w w':=by
 have hmm:=@run_makeMap prog;have HU:=hid hu;have HS:=hid hs;have c0:=hs.c0;have sm:=hs.sm;obtain⟨m,hm⟩:∃m,m=s.I.length:=⟨_,rfl⟩;have HM:=hid hm;rw[<-hm]at c0 sm;rw[<-hm];obtain⟨Z,hZ⟩:∃Z,Z=(gF q.R s.I C m).out:=⟨_,rfl⟩;rw[<-hZ];have HZ:=hid hZ;have hSw:S<w.heap.size:=eS _ _ c0;clear hu hs hm hZ;go_enter func146,ntmps146;go_wp2;go_loopw [16] (fun a wr=>∃(k:Nat) (DP DO:DataW Unit),a=.int .i64 k/\k<=m/\Hid (wr.ownsMap prog 3 (plainElem prog 3) w.heap.size k DP)/\Hid (wr.ownsMap prog 3 (plainElem prog 21) (w.heap.size+1) k DO)/\Hid (AQ DP (gF q.R s.I C k).out)/\Hid (qP DO (gF q.R s.I C k).st (fun x=>jB (cl s.I q.R x)))/\Hid ((gF q.R s.I C k).stop=false)/\Hid (Fr [] w wr)) (fun a _=>m - (Go.RowKit.intOf a).toNat)
 case atStart =>
  have h1:=World.ownsMap_made w prog 3 (plainElem (H:=Unit) prog 3);have h2:=World.ownsMap_made (w.alloc (.map #[] 0)) prog 3 (plainElem (H:=Unit) prog 21);rw[fI]at h2;exact⟨0,_,_,rfl,aH _,hid (h1.alloc _),hid h2,hid AQ.start,hid (qP.start _),hid rfl,hid (((Fr.refl [] w).alloc _).alloc _)⟩
 case round =>
  obtain⟨k,DP,DO,rfl,hk,HP,HO,Z2,Jq,Z3,HF⟩:=hrel;by_cases hlt:k<m
  ·have HV:=hid (uF q.R s.I C k)
   have HOP:=hid (BG q.R s.I C k);have mN:=hid (show gF q.R s.I C (k+1)=jh q.R s.I C k (gF q.R s.I C k)from rfl);have Ai:=hid (wF q.R s.I C k _ Z3.out);have KL:=hid (fun Vb hop (z:Int) hz=>Np (C:=C) HV.out HOP.out Z3.out Vb hop (z:=z) hz);have Ip:=hid (fun h=>wE q.R s.I C (k+1) h (m - (k+1)));rw[<-mN.out]at Ai KL;have hks:k<s.I.length:=by rw[<-HM.out];exact hlt
   have p1:=(HS.out.fr HF.out af af).p k hks;have p2:=(HU.out.fr HF.out af).c _ (HS.out.lt k hks);have p3:=(HU.out.fr HF.out af).r _ (HS.out.lt k hks);have sX:(k:Int)<(m:Int):=by omega
   have FV:=hid (show nth q.R (fX s.I k)=cl s.I q.R k from rfl);have Mg:=hid (show nth C (fX s.I k)=cl s.I C k from rfl);have hwl:=HF.out.size;have hOl:=HO.out.lt;have rW:=HP.out.lt;clear hks;generalize hp:gF q.R s.I C k=p at *;have HP0:=hid hp;rw[FV.out]at p3;rw[Mg.out]at p2;generalize fX s.I k=i at *;generalize hcr:cl s.I q.R k=r at *;have HCR:=hid hcr;generalize hcc:cl s.I C k=c at *;clear hp hcr hcc FV Mg mN;by_cases Vb:c=13
   ·subst Vb
    have HC:=hid (PC r);by_cases hop:jB r=0
    ·have JB:opens r=false:=by
      cases ho:opens r with
      | false=>rfl
      | true=>exact absurd hop ((zW r).2 ho)
     have YC:=hid (fun(z:Int) hz=>KL.out rfl JB z hz);have YD:=hid (fun Y (hf:Fr [] wr Y)=>Rw (w.heap.size+1) k DO p.st _ r Y (CU HO.out hf af) Jq.out (fun x hx=>by have:=HV.out.st x hx;omega));rw[hop]at HC;clear Ai KL Ip hop JB;go_wp2_with (first | (go_at_call 190;refine(HC.out _).mono ?_;rintro e w' ⟨rfl,rfl⟩));refine(YD.out _ (Fr.refl _ _)).mono ?_;rintro e w1 ⟨z,rfl,hz,hf1⟩;have iy:=hid (HF.out.trans hf1);have DD:=hid (vg HP.out hf1 af);have kT:=hid (CU HO.out hf1 af);have hw1:=hf1.size
     rcases YC.out z hz with⟨e1,e2⟩ | ⟨j,hj,e1,e2⟩
     ·have HN:=hid e2
      subst e1;clear hz hf1 YC YD e2;go_wp2;go_roundw
      case rel=>exact⟨k+1,DP,DO,by go_num,by omega,hid ((DD.out.alloc _).mono (by omega)),hid ((kT.out.alloc _).mono (by omega)),hid (by rw[HN.out];exact Z2.out),hid (by rw[HN.out];exact Jq.out),hid (by rw[HN.out];exact Z3.out),hid (iy.out.alloc _)⟩
      case measure=>simp[Go.RowKit.intOf];omega
     ·have HN:=hid e2
      have hoj:fX p.st j∈p.st:=by rw[gZ hj];exact aT hj
      have HPP:=hid (Z2.out.put (fX p.st j) k (fun x hx he=>HV.out.dj x hx (by rw[he];exact hoj)));have HDD:=hid (show qP (Lib.deleteFuncD (WY (fX p.st j)) DO) (p.st.take j) (fun x=>jB (cl s.I q.R x)) by rw[<-TC HV.out.up hj];exact Jq.out.del (HO.out.canon tB) _);have GV:fX p.st j<k:=HV.out.st _ hoj;subst e1;generalize fX p.st j=o at *;have ho0:(0:Int)<=(o:Int):=by omega
      obtain⟨w2,hw2⟩:∃w2,w2=w1.alloc (.cells #[.int .i64 (o:Nat)] 3):=⟨_,rfl⟩;have mO:=hid (DD.out.alloc (.cells #[.int .i64 (o:Nat)] 3));have iG:=hid (kT.out.alloc (.cells #[.int .i64 (o:Nat)] 3));have f_:=hid (iy.out.alloc (.cells #[.int .i64 (o:Nat)] 3));have hcb:w2.cell? ⟨w1.heap.size,0,none⟩=some (.int .i64 (o:Nat)):=by rw[hw2,eZ (hn:=rfl)];rfl
      rw[<-hw2]at mO iG f_;have Yd:=hid hcb;have HW2:=hid hw2;clear hz hf1 YC YD e2 hoj hcb hw2;go_wp2_with (first | (at_mapUpdate;refine wpList_mapUpdate_own _ rfl _ _ _ 135 rfl 3 3 tB underlying135 _ w.heap.size k DP rfl (by rw[<-HW2.out];exact mO.out) (by unfold maxLen;omega) _ _ (kN o) rfl rfl (keyOf_int_mk underlying3 (fB (by omega))) (.lit (.int .i64 (k:Nat))) [] (plainElem_int underlying3 (fB (by omega))) ?_));intro w3 hown3 hgrow3;rw[<-HW2.out]at hgrow3;have oO:=hid hown3;have k9:=hid (CU iG.out (Fr.kI hgrow3) (by simp));have iO:=hid (f_.out.grown hgrow3 (fun j hj=>by cases hj;omega));have hc3:w3.cell? ⟨w1.heap.size,0,none⟩=some (.int .i64 (o:Nat)):=(Fr.kI hgrow3).cell Yd.out (by simp;omega);have agd:=hid (Va (w.heap.size+1) k w1.heap.size o DO w3 k9.out hc3 (by omega));clear hown3 hgrow3 hc3;go_wp2_with fail;refine agd.out.mono ?_;rintro e w4 ⟨rfl,yB,JR⟩;have jD:=hid yB;have G2:=hid (vg oO.out (Fr.kI JR) (by simp));have gP:=hid (iO.out.grown JR (fun j hj=>by cases hj;omega));clear yB JR;go_wp2;go_roundw
      case rel=>exact⟨k+1,_,_,by go_num,by omega,G2,hid (jD.out.mono (by omega)),hid (by rw[HN.out];exact HPP.out),hid (by rw[HN.out];exact HDD.out),hid (by rw[HN.out];exact Z3.out),gP⟩
      case measure=>simp[Go.RowKit.intOf];omega
    ·have JB:opens r=true:=(zW r).1 hop
     have age:Maps.size DO=p.st.length:=Jq.out.size (HO.out.canon tB) HV.out.up;have hop':(jB r == 0)=false:=by simp[hop]
     by_cases h8:p.st.length=8
     ·have HN:=hid (Ai.out.2.1 rfl JB h8)
      have lQ:=hid (show Z=p.out by rw[HZ.out,show m=k+1+(m - (k+1)) by omega,Ip.out (by rw[HN.out]),HN.out]);rw[h8]at age;generalize jB r=cr at *;clear Ai KL Ip;go_wp2_with (first | (go_at_call 190;refine(HC.out _).mono ?_;rintro e w' ⟨rfl,rfl⟩) | (at_len;refine wpList_len_own _ rfl _ 273 rfl 3 21 underlying273 _ (w.heap.size+1) k DO rfl HO.out ?_));go_ret;exact⟨rfl,⟨DP,HP.out.mono hk,by rw[lQ.out];exact Z2.out⟩,HF.out⟩
     ·have HN:=hid (Ai.out.2.2.1 rfl JB h8)
      have HWF:=hid (Rx r);have ab0:=hid (Jq.out.put k);rw[HCR.out]at ab0;have h8I:¬(p.st.length:Int)=8:=by omega
      have h8b:((p.st.length:Int) == 8)=false:=by simp;omega
      generalize p.st.length=l8 at *;generalize jB r=cr at *;clear Ai KL Ip;go_wp2_with (first | (go_at_call 190;refine(HC.out _).mono ?_;rintro e w' ⟨rfl,rfl⟩) | (at_len;refine wpList_len_own _ rfl _ 273 rfl 3 21 underlying273 _ (w.heap.size+1) k DO rfl HO.out ?_) | (at_mapUpdate;refine wpList_mapUpdate_own _ rfl _ _ _ 273 rfl 3 21 tB underlying273 _ (w.heap.size+1) k DO rfl HO.out (by unfold maxLen;omega) _ _ (kN k) rfl rfl (keyOf_int_mk underlying3 (fB (by omega))) (.lit (.int .i32 cr)) [] (plainElem_int underlying21 HWF.out) ?_));intro w3 hown3 hgrow3;have k9:=hid hown3;have oO:=hid (vg HP.out (Fr.kI hgrow3) (by simp));have iO:=hid (HF.out.grown hgrow3 (fun j hj=>by cases hj;omega));clear hown3 hgrow3;go_wp2;go_roundw
      case rel=>exact⟨k+1,DP,_,by go_num,by omega,hid (oO.out.mono (by omega)),k9,hid (by rw[HN.out];exact Z2.out),hid (by rw[HN.out];exact ab0.out),hid (by rw[HN.out];exact Z3.out),iO⟩
      case measure=>simp[Go.RowKit.intOf];omega
   ·have HN:=hid (Ai.out.1 Vb)
    have alx:(c == 13)=false:=by simp[Vb]
    clear Ai KL Ip;go_wp2;go_roundw
    case rel=>exact⟨k+1,DP,DO,by go_num,by omega,hid (HP.out.mono (by omega)),hid (HO.out.mono (by omega)),hid (by rw[HN.out];exact Z2.out),hid (by rw[HN.out];exact Jq.out),hid (by rw[HN.out];exact Z3.out),HF⟩
    case measure=>simp[Go.RowKit.intOf];omega
  ·have hke:k=m:=by omega
   have lQ:=hid (show AQ DP Z by rw[HZ.out,<-hke];exact Z2.out);have sX:¬(k:Int)<(m:Int):=by omega
   clear hke;go_wp2;go_ret;exact⟨rfl,⟨DP,HP.out.mono hk,lQ.out⟩,HF.out⟩
end Go.Proofs.YtnakejhohdbfdaaGreatDoor

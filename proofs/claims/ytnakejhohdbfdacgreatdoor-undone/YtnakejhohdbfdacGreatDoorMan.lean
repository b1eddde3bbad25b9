import Derived.Deep.RegionHeldLaw
import Derived.Deep.RegionLawGrows
import Derived.Test.YtnakejhohdbfdacGreatDoorMaj
import Derived.Test.YtnakejhohdbfdacGreatDoorMah
set_option maxHeartbeats 4000000
set_option maxRecDepth 10000
namespace Go.Proofs.YtnakejhohdbfdacGreatDoor
open Go.RowKit j9 Lay Go.Proofs.Tryz
def mG:List (Nat × Nat)->List Value
 | []=>[]
 | x :: l=>.int .i64 (x.1:Nat) :: .int .i64 (x.2:Nat) :: mG l
theorem Ac:∀l m:List (Nat × Nat),mG l++mG m=mG (l++m)
 | [],_=>rfl
 | x :: l,m=>by simp only[mG,bV,Ac l m]
theorem sO:∀(l:List (Nat × Nat)) (i:Nat) (x:Nat × Nat),l[i]?=some x->(mG l)[i * 2]?=some (.int .i64 (x.1:Nat))/\(mG l)[i * 2+1]?=some (.int .i64 (x.2:Nat))
 | [],i,x,h=>by simp at h
 | y :: l,0,x,h=>by simp at h;subst h;exact⟨rfl,rfl⟩
 | y :: l,i+1,x,h=>by
   have ih:=sO l i x (by simpa using h);rw[show(i+1) * 2=i * 2+1+1 by omega];exact ih
theorem Ty (a b:Int):∀u∈[Value.int .i64 a,.int .i64 b],u.oneCell'=true:=by
 intro u hu;simp only[bA,aj,fB]at hu
 rcases hu with rfl | rfl <;> rfl
theorem Tz:(Tryz.prog.info? 249).map (fun i=>(i.zero,i.size,i.bytes))=some (some (.agg #[.int .i64 0,.int .i64 0]),2,16):=by kernel_rfl
theorem pq (p:Nat->Bool)(l:List Nat):∀g,(iN p l g).1.length<=g/\(iN p l g).2<=g
 | 0=>by simp[iN]
 | g+1=>by
   have ih:=pq p l g;rw[iN];split
   ·omega
   ·dsimp only
    split
    ·rw[aD,bq];omega
    ·omega
theorem jf (w:World)(q:Nat):Fr [] w (w.drewN q):=(Fr.refl [] w).drewN q
theorem D9 (F:Nat)(caps:Array Value)(p:Nat->Bool)(o:List Nat)(g c:Nat)(w:World)(hl:o.length<=1000)(hrow:EO w g o.length o)(eg:∀args w,(callFunc F args).run prog w=.ok (.enter F args) w)
 (hf:∀X,Fr [] w X->∀i,i<o.length->Calls prog F (#[.int .i64 (iP o i:Nat)]++caps) X fun e w'=>e=.returned (.bool (p (iP o i)))/\∃q,w'=X.drewN q) :
 Calls prog 106 #[.slice (some ⟨g,0,none⟩) o.length c,.func (.func F) #[] caps] w fun e w'=>∃v,e=.returned v/\w'.ownsRow w.heap.size 249 2 v (Lay.parts p o).length (mG (Lay.parts p o))/\Fr [] w w':=by
 obtain⟨i0,hi,hz0,hz1,hz2⟩:=fY Tz;have HR:=hid hrow;have HF:=hid hf;have L3:=hid (pq p o);have HST:=hid (fun k=>show iN p o (k+1)=if k<o.length/\p (iP o k)=true then iN p o k else(if(iN p o k).2<k then(iN p o k).1++[((iN p o k).2,k)]else(iN p o k).1,k+1)from rfl);obtain⟨R,hR⟩:∃R,R=Lay.parts p o:=⟨_,rfl⟩;rw[<-hR];obtain⟨n,hn⟩:∃n,n=o.length:=⟨_,rfl⟩;have HRR:=hid (show R=(iN p o (n+1)).1 by rw[hR,hn];rfl);rw[<-hn]at hl HR HF HST ⊢;clear hrow hf hR hn;go_enter func106,ntmps106;go_wp2_with fail;go_loopw [5,6,11] (fun vo ff gg wr=>∃(k:Nat),gg=.int .i64 k/\k<=n+1/\ff=.int .i64 ((iN p o k).2:Nat)/\Hid (wr.ownsRow w.heap.size 249 2 vo (iN p o k).1.length (mG (iN p o k).1))/\Hid (Fr [] w wr)) (fun _ _ gg _=>n+1 - (intOf gg).toNat)
 case atStart=>exact⟨0,rfl,aN _,rfl,hid (fQ _ _ _ _),hid (Fr.refl _ _)⟩
 case round =>
  obtain⟨k,rfl,hkn,rfl,HO,L4⟩:=hrel;by_cases hkl:k<n+1
  ·have wX:(k:Int)<(n:Int)+1:=by omega
   have HS:=hid (HST.out k);have hp1:=L3.out k;have hsz:=L4.out.size;by_cases hka:k<n/\p (iP o k)=true
   ·obtain⟨h1,h2⟩:=hka
    have HS2:=hid (show iN p o (k+1)=iN p o k by rw[HS.out,aE ⟨h1,h2⟩]);have d0:=HR.out.fr L4.out aj k h1;have HC:=hid (HF.out wr L4.out k h1);rw[h2]at HC;have V4:(k:Int)<(n:Int):=by omega
    clear h2 HS;generalize iP o k=x at *;obtain⟨f0,hf0⟩:∃f0,f0=(iN p o k).2:=⟨_,rfl⟩;rw[<-hf0];have Sw:=hid hf0;clear hf0;go_wp2_with (go_at_fn F;refine HC.out.mono ?_;rintro e w' ⟨rfl,mm,rfl⟩);go_roundw
    case rel=>exact⟨k+1,by go_num,by omega,by rw[HS2.out,Sw.out],hid (by rw[HS2.out];exact HO.out),hid (L4.out.drewN _)⟩
    case measure=>simp[intOf];omega
   ·have HS2:=hid (show(iN p o (k+1)).2=k+1/\(iN p o (k+1)).1=if(iN p o k).2<k then(iN p o k).1++[((iN p o k).2,k)]else(iN p o k).1 by rw[HS.out,ay hka];exact⟨rfl,rfl⟩)
    obtain⟨f0,hf0⟩:∃f0,f0=(iN p o k).2:=⟨_,rfl⟩;obtain⟨l0,hl0⟩:∃l0,l0=(iN p o k).1:=⟨_,rfl⟩;rw[<-hf0]at HS2 hp1 ⊢;rw[<-hl0]at HS2 hp1 HO;clear hf0 hl0 HS
    -- the test is false: two ways
    have hcs:(k<n/\p (iP o k)=false)\/¬k<n:=by
     by_cases h:k<n
     ·exact .inl ⟨h,by cases hh:p (iP o k);rfl;exact absurd ⟨h,hh⟩ hka⟩
     ·exact .inr h
    clear hka;obtain⟨ahZ,ah0⟩:=hp1;by_cases hfk:f0<k
    ·have TA:(f0:Int)<(k:Int):=by omega
     have Cu:=hid (show(iN p o (k+1)).1=l0++[(f0,k)] by rw[HS2.out.2,aE hfk])
     rcases hcs with⟨h1,h2⟩ | h1
     case' inl =>
      have d0:=HR.out.fr L4.out aj k h1;have HC:=hid (HF.out wr L4.out k h1);rw[h2]at HC;have V4:(k:Int)<(n:Int):=by omega
      clear h2;generalize iP o k=x at *
     case' inr =>
      have V4:¬(k:Int)<(n:Int):=by omega
      have h1J:decide ((k:Int)<(n:Int))=false:=bS V4;have HC:Hid True:=trivial
     all_goals (
      go_wp2_with (first | (go_at_fn F;refine HC.out.mono ?_;rintro e w' ⟨rfl,mm,rfl⟩) | (at_builtin;refine fV _ rfl _ _ 210 rfl w.heap.size 249 i0 _ 2 16 underlying210 hi hz0 hz1 hz2 rfl (by decide) _ l0.length (mG l0) rfl ?own _ 1 1 [.int .i64 (f0:Nat),.int .i64 (k:Nat)] rfl rfl (kM _ _ _ _ (by simp)) (Ty _ _) (by unfold maxLen;omega) (by omega) ?Gk ?_))
      case own=>exact iM HO.out (by first | exact(Fr.refl [] _).alloc _ | exact(jf _ _).alloc _)
      case Gk=>first | omega | (simp;omega)
      intro v' w3 lK hgrow hnil
      have jQ:=hid (Fr.grown (by first | exact L4.out.alloc _ | exact(L4.out.drewN _).alloc _) hgrow (fun x h=>(HO.out.lt x h).1))
      have lD:=hid lK
      clear lK hgrow hnil
      go_wp2
      go_roundw
      case rel=>exact⟨k+1,by go_num,by omega,by rw[HS2.out.1];go_num,hid (by rw[Cu.out,aD,<-Ac];exact lD.out),jQ⟩
      case measure=>simp[intOf];omega)
    ·have TA:¬(f0:Int)<(k:Int):=by omega
     have Cu:=hid (show(iN p o (k+1)).1=l0 by rw[HS2.out.2,ay hfk])
     rcases hcs with⟨h1,h2⟩ | h1
     case' inl =>
      have d0:=HR.out.fr L4.out aj k h1;have HC:=hid (HF.out wr L4.out k h1);rw[h2]at HC;have V4:(k:Int)<(n:Int):=by omega
      clear h2;generalize iP o k=x at *
     case' inr =>
      have V4:¬(k:Int)<(n:Int):=by omega
      have h1J:decide ((k:Int)<(n:Int))=false:=bS V4;have HC:Hid True:=trivial
     all_goals (
      go_wp2_with (first | (go_at_fn F;refine HC.out.mono ?_;rintro e w' ⟨rfl,mm,rfl⟩))
      go_roundw
      case rel=>exact⟨k+1,by go_num,by omega,by rw[HS2.out.1];go_num,hid (by rw[Cu.out];exact HO.out),by first | exact hid (L4.out.drewN _) | exact L4⟩
      case measure=>simp[intOf];omega)
  ·obtain rfl:k=n+1:=by omega
   generalize (iN p o (n+1)).2=f0 at *;have wX:¬((n+1:Nat):Int)<(n:Int)+1:=by omega
   have jO:=hid (show wr.ownsRow w.heap.size 249 2 u5 R.length (mG R) by rw[HRR.out];exact HO.out);go_wp2;go_ret;exact⟨_,rfl,jO.out,L4.out⟩
def rN (f:Nat->Int)(o:List Nat):Nat->Int
 | 0=>0
 | k+1=>rN f o k+f (iP o k)
def xs (f:Nat->Int)(o:List Nat)(k:Nat):List Int:=(List.range (k+1)).map (rN f o)
theorem TB (f:Nat->Int)(o:List Nat)(k:Nat):xs f o (k+1)=xs f o k++[rN f o k+f (iP o k)]:=by
 rw[xs,eS,dz];rfl
theorem zh (f:Nat->Int)(o:List Nat)(k:Nat):(xs f o k).length=k+1:=by simp[xs]
theorem Ky (f:Nat->Int)(o:List Nat){k j:Nat}(h:j<=k):nth (xs f o k) j=rN f o j:=by
 have:j<k+1:=by omega
 simp[nth,xs,this]
def EZ (P:Nat->Nat)(ri:Nat->Nat)(Ev:Nat->Int)(W:List Int)(a b:Nat):Ln :=
 let o:=(nY (fun t=>Ev (ri (a+t))) (b - a)).map (fun t=>t+a)
 ⟨((P (ri a):Nat):Int),((P (ri b):Nat):Int),o,xs (fun k=>wid W (ri k) (ri (k+1))) o (b - a)⟩
theorem Ad {V U:Nat->Int}:∀n,(∀i,i<n->V i=U i)->mA V n=mA U n
 | 0,_=>rfl
 | n+1,h=>by rw[mA,mA,Ad n (fun i hi=>h i (by omega)),h n (by omega)]
theorem I4 {V U:Nat->Int}{n:Nat}(h:∀i,i<n->V i=U i):nY V n=nY U n:=by
 rw[nY,nY,Ad n h];exact DT 1 _ _ (fun x hx=>h x (cE.1 hx))
theorem Kz {l:List Nat}{f:Nat->Nat}{t:Nat}(h:t<l.length):iP (l.map f) t=f (iP l t):=by simp[iP,h]
theorem Ae (f:Nat->Int)(M:Int)(o:List Nat):∀k:Nat,(∀j,j<k->0<=f (iP o j)/\f (iP o j)<=M)->0<=rN f o k/\rN f o k<=k * M
 | 0,_=>by simp[rN]
 | k+1,h=>by
   have ih:=Ae f M o k (fun j hj=>h j (by omega));have:=h k (by omega);have e:((k+1:Nat):Int) * M=k * M+M:=by rw[eA,Int.add_mul];simp
   rw[rN];omega
theorem cell_grown {w w':World}{b g i:Nat}{v:Value}(hg:w.grownBy w' (some g))(hc:w.cell? ⟨b,i,none⟩=some v)(hb:b≠g):w'.cell? ⟨b,i,none⟩=some v :=
 (gM (a:=⟨b,i,none⟩) (hg.block b (fC _ _ hc) (fun e=>hb (aZ e)))).trans hc
theorem Xw (w:World)(o:Obj):Fr [] w (w.alloc o).drew:=((Fr.refl [] w).alloc o).drew
theorem Gp (a b:Int)(c d:Option Addr)(e f g h:Nat):∀u∈[Value.int .i64 a,.int .i64 b,.slice c e f,.slice d g h],u.oneCell'=true:=by
 intro u hu;simp only[bA,aj,fB]at hu
 rcases hu with rfl | rfl | rfl | rfl <;> rfl
theorem Fr.iK {S:List Nat}{w w':World}(h:Fr S w w'){b i:Nat}{v:Value}(hb:w.heap.size<=b):Fr S w (w'.setCell ⟨b,i,none⟩ v) :=
 h.grown (row:=some b) rI (fun k e=>by cases e;exact hb)
def L5 (xs:List Value):Nat->List Value->List Value
 | _,[]=>xs
 | o,v :: r=>L5 (xs.set o v) (o+1) r
theorem KA:∀(vs xs:List Value) (o j:Nat),o+vs.length<=xs.length->(L5 xs o vs)[j]?=if o<=j/\j<o+vs.length then vs[j - o]? else xs[j]?
 | [],xs,o,j,_=>by rw[L5,ay (by simp)]
 | v :: r,xs,o,j,h=>by
   rw[bg]at h;rw[L5,KA r (xs.set o v) (o+1) j (by rw[bK];omega),bg];by_cases h1:o+1<=j/\j<o+1+r.length
   ·rw[aE h1,aE (by omega)]
    obtain⟨d,hd⟩:∃d,j - o=d+1:=⟨j - o - 1,by omega⟩;rw[hd,List.getElem?_cons_succ];congr 1;omega
   ·rw[ay h1]
    by_cases h2:j=o
    ·subst h2;rw[aE (by omega),dm,bn (by omega)];rfl
    ·rw[ay (by omega),bJ (fun e=>h2 e.symm)]
theorem Gq {B e g n c:Nat}:∀(vs xs:List Value) (o:Nat) (w:World),w.ownsRow B e 1 (.slice (some ⟨g,0,none⟩) n c) n xs->(w.setCells g o vs).ownsRow B e 1 (.slice (some ⟨g,0,none⟩) n c) n (L5 xs o vs)/\Fr [g] w (w.setCells g o vs)
 | [],xs,o,w,h=>⟨h,Fr.refl _ _⟩
 | v :: r,xs,o,w,h=>by
   obtain⟨h1,h2⟩:=Gq r (xs.set o v) (o+1) (w.setCell ⟨g,o,none⟩ v) (h.stored o v).1;exact⟨h1,(jT w g o v).trans h2⟩
theorem Pr (l:List Nat)(a b:Nat)(hab:a<=b)(hb:b<=l.length):L5 (jk l) a (jk ((l.take b).drop a).reverse)=jk (yM l a b):=by
 have hl:((l.take b).drop a).reverse.length=b - a:=by rw[eH,cJ,bH];omega
 apply eE;intro j;rw[KA _ _ _ _ (by rw[rE,rE,hl];omega),rE,hl];by_cases hj:j<l.length
 ·have e1:=o_ (l:=yM l a b) (j:=j) (by rw[tH l a b hab hb];exact hj)
  rw[e1,Tl l a b hab hb];by_cases h:a<=j/\j<b
  ·rw[aE (by omega),aE h,o_ (by rw[hl];omega)]
   congr 2
   rw[iP,iP,List.getElem?_reverse (by rw[cJ,bH];omega),cJ,bH,dG,dA (by omega)]
   congr 3;omega
  ·rw[ay (by omega),ay h,o_ hj]
 ·rw[ay (by omega),bN (by rw[rE];omega),bN (by rw[rE,tH l a b hab hb];omega)]
theorem I5 (l:List Nat):(l.map (fun x=>((x:Nat):Int))).map (Value.int .i64)=jk l:=by simp[jk]
theorem Pt {B n c:Nat}(l:List Nat)(g a b:Nat)(w:World)(hn:n=l.length)(hab:a<=b)(hb:b<=n)(hl:n<=1000)(cc:Nat)(ho:w.ownsRow B 3 1 (.slice (some ⟨g,0,none⟩) n c) n (jk l)) :
 Calls prog 221 #[.slice (some ⟨g,a,none⟩) (b - a) cc] w fun e w'=>e=.returned (.tuple #[])/\w'.ownsRow B 3 1 (.slice (some ⟨g,0,none⟩) n c) n (jk (yM l a b))/\Fr [g] w w':=by
 have hz:(((l.take b).drop a).map (fun x=>((x:Nat):Int))).length=b - a:=by rw[cP,cJ,bH];omega
 refine(Tryz.slices_Reverse_int_cells g a (b - a) cc (((l.take b).drop a).map (fun x=>((x:Nat):Int))) w (by omega) (by omega) (fun j hj=>?_) (fun j _=>ho.frozenAt (a+j))).mono ?_
 ·rw[hz]at hj
  rw[ho.cellAt (a+j) (by omega),o_ (by omega)]
  congr 2
  rw[List.getD,cA,dG,dA (by omega),iP,aA (show a+j<l.length by omega)];rfl
 ·rintro e w' ⟨rfl,q,rfl⟩
  have e1:((((l.take b).drop a).map (fun x=>((x:Nat):Int))).take (b - a)).reverse.map (Value.int .i64)=jk ((l.take b).drop a).reverse:=by
   rw[List.take_of_length_le (by omega),<-List.map_reverse,I5]
  rw[e1];obtain⟨h1,h2⟩:=Gq (jk ((l.take b).drop a).reverse) (jk l) a (w.drewN q) (show(w.drewN q).ownsRow B 3 1 (.slice (some ⟨g,0,none⟩) n c) n (jk l)from ho);rw[Pr l a b hab (by omega)]at h1;exact⟨rfl,h1,((Fr.refl [g] w).drewN q).trans h2⟩
theorem Pu (V:List Int)(gV nV cV sb lb x:Nat)(v0 v2:Value)(l:Int)(X:World)(hx:x<nV)(hV:rowAt X gV nV V)(hs:X.heap[sb]?=some (.cells #[v0,.slice (some ⟨gV,0,none⟩) nV cV,v2] 146 (0,0)))(hl:X.heap[lb]?=some (.cells #[.int .i64 l] 3 (0,0))) :
 Calls prog 220 (#[.int .i64 (x:Nat)]++#[.pointer (some ⟨sb,0,none⟩),.pointer (some ⟨lb,0,none⟩)]) X fun e w'=>e=.returned (.bool (decide (l<=nth V x)))/\∃q,w'=X.drewN q:=by
 have c1:=iG hs (i:=1) rfl;have c2:=iG hl (i:=0) rfl;have c3:=hV x hx;have hxI:(x:Int)<(nV:Int):=by omega
 generalize nth V x=y at *;clear hs hl hV;go_enter func220,ntmps220;go_wp2_with fail;go_quiet (fail);go_wp2;go_ret;exact⟨rfl,_,rfl⟩
theorem L6 (l:List Nat)(m:List (Nat × Nat)){k:Nat}{x:Nat × Nat}(h:m[k]?=some x):yN l (m.take (k+1))=yM (yN l (m.take k)) x.1 x.2:=by
 rw[eU,h];exact yO l _ x
theorem Gs:∀(m:List (Nat × Nat)) (l:List Nat),(∀x∈m,x.1<=x.2/\x.2<=l.length)->(yN l m).length=l.length
 | [],_,_=>rfl
 | x :: m,l,h=>by
   have h0:=h x (by simp);have e:=tH l x.1 x.2 h0.1 h0.2;have ih:=Gs m (yM l x.1 x.2) (fun y hy=>by rw[e];exact h y (by simp[hy]));rw[e]at ih;exact ih
theorem Cx (V:List Int)(gV nV cV:Nat)(v0 v2:Value)(l:Int)(o:List Nat)(B go co n:Nat)(w:World)(hn:n=o.length)(hn1:n<=1000)(hV:rowAt w gV nV V)(ho:∀i,i<n->iP o i<nV)(hO:w.ownsRow B 3 1 (.slice (some ⟨go,0,none⟩) n co) n (jk o)) :
 Calls prog 199 #[.agg #[v0,.slice (some ⟨gV,0,none⟩) nV cV,v2],.slice (some ⟨go,0,none⟩) n co,.int .i64 l] w fun e w'=>e=.returned (.tuple #[])/\w'.ownsRow B 3 1 (.slice (some ⟨go,0,none⟩) n co) n (jk (turn (fun x=>decide (l<=nth V x)) o))/\Fr [go] w w':=by
 obtain⟨w2,hw2⟩:∃w2,w2=(w.alloc (.cells #[v0,.slice (some ⟨gV,0,none⟩) nV cV,v2] 146)).alloc (.cells #[.int .i64 l] 3):=⟨_,rfl⟩;have i_:=hid (show Fr [] w w2 by rw[hw2];exact((Fr.refl [] w).alloc _).alloc _);have Gt:=hid (show w2.heap[w.heap.size]?=some (.cells #[v0,.slice (some ⟨gV,0,none⟩) nV cV,v2] 146 (0,0)) by rw[hw2];exact iJ (iL w _) ((Fr.refl [] _).alloc _) aj)
 have Xp:=hid (show w2.heap[w.heap.size+1]?=some (.cells #[.int .i64 l] 3 (0,0)) by
  have h:=iL (w.alloc (.cells #[v0,.slice (some ⟨gV,0,none⟩) nV cV,v2] 146)) (.cells #[.int .i64 l] 3)
  rw[fD]at h;rw[hw2];exact h)
 have HV:=hid hV;have HO:=hid hO;have E0:=hid ho;have HN:=hid hn;have Xx:=(ji hO).2;obtain⟨p,hp⟩:∃p:Nat->Bool,p=fun x=>decide (l<=nth V x):=⟨_,rfl⟩
 rw[<-hp]
 have AE:=hid (D9 220 #[.pointer (some ⟨w.heap.size,0,none⟩),.pointer (some ⟨w.heap.size+1,0,none⟩)] p o go co w2 (by omega) (by rw[<-hn];exact nF (iM hO i_.out) hn.symm) (fun args w=>by kernel_rfl) (fun X hf i hi=>by
  rw[hp]
  exact Pu V gV nV cV w.heap.size (w.heap.size+1) (iP o i) v0 v2 l X (ho i (by omega)) ((hV.fr i_.out aj).fr hf aj) (iJ Gt.out hf aj) (iJ Xp.out hf aj)))
 rw[<-hn]at AE;have HPB:=hid (FO p o);have hR0:(Lay.parts p o).length<=n+1:=by rw[hn];exact(pq p o (o.length+1)).1
 have Zx:=hid (Iu p o);obtain⟨T,hT⟩:∃T,T=turn p o:=⟨_,rfl⟩;rw[<-hT]at Zx ⊢;generalize Lay.parts p o=R at *;clear hV hO ho hp hT hn;go_enter func199,ntmps199;go_wp2_with fail;rw[<-hw2];clear hw2;refine AE.out.mono ?_;rintro e w3 ⟨v,rfl,lK,hf3⟩;have lD:=hid (iM (iM HO.out i_.out) hf3);have jQ:=hid (i_.out.trans hf3);have HR3:=hid lK;obtain⟨aR,cR,hv⟩:=iW lK;subst hv;obtain⟨nR,hnR⟩:∃nR,nR=R.length:=⟨_,rfl⟩;have hR4:nR<=2000:=by omega
 rw[<-hnR]at HR3 ⊢;have D3:=hid hnR;clear lK hf3 AE hnR hR0;go_wp2_with fail;go_loopw [14] (fun kk wr=>∃k:Nat,kk=.int .i64 k/\k<=nR/\Hid (wr.ownsRow B 3 1 (.slice (some ⟨go,0,none⟩) n co) n (jk (yN o (R.take k))))/\Hid (Fr [go] w3 wr)) (fun kk _=>nR - (intOf kk).toNat)
 case atStart=>exact⟨0,rfl,aN _,lD,hid (Fr.refl _ _)⟩
 case round =>
  obtain⟨k,rfl,hkn,HOk,HFk⟩:=hrel;by_cases hkl:k<nR
  ·have wX:(k:Int)<(nR:Int):=by omega
   obtain⟨gR,cR',Pv⟩:=iQ (by omega) HR3.out;cases Pv;have aaw:gR≠go:=j7 HR3.out lD.out (by decide) rfl rfl;have hx:R[k]?=some (R[k]'(by rw[<-D3.out];exact hkl)):=aA _;have hb:=HPB.out _ (bB (by rw[<-D3.out];exact hkl));have HRT:=hid (L6 o R hx);have e0:=HFk.out.cell (show w3.cell? ⟨gR,k * 2,none⟩=_ from(HR3.out.cellAt (k * 2) (by omega)).trans (sO R k _ hx).1) (fun h=>aaw (ak.1 h));have e1:=HFk.out.cell (show w3.cell? ⟨gR,k * 2+1,none⟩=_ from(HR3.out.cellAt (k * 2+1) (by omega)).trans (sO R k _ hx).2) (fun h=>aaw (ak.1 h));rw[<-HN.out]at hb;have D2:=hid (show n=(yN o (R.take k)).length by rw[Gs _ o (fun y hy=>by have:=HPB.out y (eB hy);omega)];exact HN.out);generalize R[k]'(by rw[<-D3.out];exact hkl)=x at *;obtain⟨xa,xb⟩:=x;dsimp only at e0 e1 hb HRT;have aax:=hid (fun(X:World) cc (hX:X.ownsRow B 3 1 (.slice (some ⟨go,0,none⟩) n co) n (jk (yN o (R.take k))))=>Pt (yN o (R.take k)) go xa xb X D2.out (by omega) hb.2 hn1 cc hX);have hco:n<=co:=by
    rcases HOk.out.2 with⟨h5,_⟩ | ⟨g5,c5,ah2,h5,_,_,h6,_⟩
    ·cases h5
    ·cases h5;exact h6
   obtain⟨hb1,hb2⟩:=hb;have hba:(xa:Int)<=(xb:Int):=by omega
   have hbc:(xb:Int)<=(co:Int):=by omega
   have AD:=hid (HOk.out.alloc (.cells #[.int .i64 (xa:Nat),.int .i64 (xb:Nat)] 249));have Dz:=hid (HFk.out.alloc (.cells #[.int .i64 (xa:Nat),.int .i64 (xb:Nat)] 249));clear hx;go_wp2_with fail;refine(aax.out _ _ AD.out).mono ?_;rintro e w5 ⟨rfl,qi,kK⟩;have rK:=hid qi;have pF:=hid (Dz.out.trans kK);clear qi kK aax;go_wp2;go_roundw
   case rel=>exact⟨k+1,by go_num,by omega,hid (by rw[HRT.out];exact rK.out),pF⟩
   case measure=>simp[intOf];omega
  ·obtain rfl:k=nR:=by omega
   have wX:¬(k:Int)<(k:Int):=by omega
   have HOZ:=hid (show wr.ownsRow B 3 1 (.slice (some ⟨go,0,none⟩) n co) n (jk T) by
    have h:=HOk.out
    rw[D3.out,c_,Zx.out]at h
    exact h)
   go_wp2;go_end0;exact⟨rfl,HOZ.out,((jQ.out.mono (fun _ h _=>absurd h aj):Fr [go] w w3)).trans HFk.out⟩
def lF (V:Nat->Int):Nat->Int
 | 0=>9223372036854775807
 | k+1=>if V k % 2=1 then min (lF V k) (V k)else lF V k
theorem Af (V:Nat->Int)(hV:∀i,0<=V i/\V i<=1000):∀n,(lF V n=9223372036854775807/\∀i,i<n->V i % 2≠1)\/∃q:Nat,lF V n=2 * (q:Int)+1/\(∃i,i<n/\V i=2 * (q:Int)+1)/\∀i,i<n->V i % 2=1->2 * (q:Int)+1<=V i
 | 0=>.inl ⟨rfl,fun i hi=>absurd hi (cu _)⟩
 | n+1=>by
   have hv:=hV n
   rcases Af V hV n with⟨h1,h2⟩ | ⟨q,h1,⟨i,h2,h3⟩,h4⟩
   ·by_cases h:V n % 2=1
    ·refine .inr ⟨(V n).toNat / 2,?_,⟨n,by omega,by omega⟩,fun i hi ho=>?_⟩
     ·rw[lF,aE h,h1];omega
     ·rcases aH (aP hi)with h5 | h5
      ·exact absurd ho (h2 i h5)
      ·rw[h5];omega
    ·refine .inl ⟨by rw[lF,ay h,h1],fun i hi=>?_⟩
     rcases aH (aP hi)with h5 | h5
     ·exact h2 i h5
     ·rw[h5];exact h
   ·by_cases h:V n % 2=1
    ·by_cases hlt:V n<2 * (q:Int)+1
     ·refine .inr ⟨(V n).toNat / 2,?_,⟨n,by omega,by omega⟩,fun j hj ho=>?_⟩
      ·rw[lF,aE h,h1];omega
      ·rcases aH (aP hj)with h5 | h5
       ·have:=h4 j h5 ho;omega
       ·rw[h5];omega
     ·refine .inr ⟨q,by rw[lF,aE h,h1];omega,⟨i,by omega,h3⟩,fun j hj ho=>?_⟩
      rcases aH (aP hj)with h5 | h5
      ·exact h4 j h5 ho
      ·rw[h5];omega
    ·refine .inr ⟨q,by rw[lF,ay h,h1],⟨i,by omega,h3⟩,fun j hj ho=>?_⟩
     rcases aH (aP hj)with h5 | h5
     ·exact h4 j h5 ho
     ·rw[h5]at ho;exact absurd ho h
theorem Gu (V:Nat->Int)(hV:∀i,0<=V i/\V i<=1000):∀n,(∀i,i<n->V i % 2≠1)->mA V n % 2=0
 | 0,_=>rfl
 | n+1,h=>by
   have ih:=Gu V hV n (fun i hi=>h i (by omega));have:=h n (by omega);have:=hV n;rw[mA]
   rcases Int.le_total (mA V n) (V n)with h5 | h5
   ·rw[Int.max_eq_right h5];omega
   ·rw[Int.max_eq_left h5];exact ih
def seg (a n:Nat):List Nat:=(List.range n).map (fun t=>t+a)
theorem A9 (a n:Nat):(seg a n).length=n:=by simp[seg]
theorem E1 {a n x:Nat}(h:x∈seg a n):∃t,t<n/\x=t+a:=by
 obtain⟨t,h1,h2⟩:=dX.1 h;exact⟨t,cE.1 h1,h2.symm⟩
theorem Gv (V:Nat->Int)(a n:Nat):(nY (fun t=>V (a+t)) n).map (fun t=>t+a)=yL V 1 (mA (fun t=>V (a+t)) n).toNat (seg a n):=by
 rw[nY,seg,Kb V (fun t=>t+a) 1];have e:(fun x=>V (x+a))=(fun t=>V (a+t)):=by funext x;rw[dR]
 rw[e]
theorem Pw (V:Nat->Int)(hV:∀i,0<=V i/\V i<=1000)(a n:Nat)(h:∀i,i<n->V (a+i) % 2≠1):(nY (fun t=>V (a+t)) n).map (fun t=>t+a)=seg a n:=by
 have ht:=Gu (fun t=>V (a+t)) (fun i=>hV _) n h;have h0:=Ce (fun t=>V (a+t)) 1000 (by omega) (fun k=>(hV _).2) n;rw[Gv];refine Ow V _ _ (by omega) (fun x hx j=>?_);obtain⟨t,h1,rfl⟩:=E1 hx;have:=h t h1;rw[dR t a];omega
theorem L7 (V:Nat->Int)(a n q:Nat)(h1:∃i,i<n/\V (a+i)=2 * (q:Int)+1)(h2:∀i,i<n->V (a+i) % 2=1->2 * (q:Int)+1<=V (a+i)):2 * q+1<=(mA (fun t=>V (a+t)) n).toNat/\(nY (fun t=>V (a+t)) n).map (fun t=>t+a)=yL V (2 * q+1) ((mA (fun t=>V (a+t)) n).toNat - 2 * q) (seg a n):=by
 obtain⟨i,hi,hv⟩:=h1;have hq:2 * q+1<=(mA (fun t=>V (a+t)) n).toNat:=by
  have:=F7 (fun t=>V (a+t)) n i hi;omega
 refine⟨hq,?_⟩;rw[Gv];refine LB V _ _ q hq (fun x hx j hj=>?_);obtain⟨t,h3,rfl⟩:=E1 hx;intro e;have:=h2 t h3 (by rw[dR a t];omega);rw[dR a t]at this;omega
theorem Cy (V:List Int)(gV nV cV x:Nat)(v0 v2:Value)(w:World)(hx:x<nV)(hV:rowAt w gV nV V)(h0:0<=nth V x) :
 Calls prog 103 #[.agg #[v0,.slice (some ⟨gV,0,none⟩) nV cV,v2],.int .i64 (x:Nat)] w fun e w'=>e=.returned (.bool (nth V x % 2 == 1))/\Fr [] w w':=by
 have c3:=hV x hx;have hgl:=fC _ _ c3;have hxI:(x:Int)<(nV:Int):=by omega
 generalize nth V x=y at *;clear hV;go_enter func103,ntmps103;go_wp2;go_ret;exact⟨rfl,by first | exact(Fr.refl [] w).alloc _ | exact Fr.refl _ _⟩
def qj (a N i:Nat):List Nat:=seg a i++List.replicate (N - i) 0
theorem L8 {a N i:Nat}(h:i<=N):(qj a N i).length=N:=by rw[qj,aD,A9,List.length_replicate];omega
theorem L9 {a N i:Nat}(h:i<N):(qj a N i).set i (a+i)=qj a N (i+1):=by
 rw[qj,List.set_append_right _ _ (by rw[A9];exact au _),A9,dm,show N - i=(N - (i+1))+1 by omega,List.replicate_succ,List.set_cons_zero,qj,seg,seg,eS,dz,dR a i];simp
theorem I6 (a N:Nat):qj a N 0=List.replicate N 0:=by simp[qj,seg]
theorem L_ (a N:Nat):qj a N N=seg a N:=by simp[qj]
theorem TC (V:List Int)(gV nV cV a N:Nat)(v0 v2:Value)(w:World)(hn:nV<=1000)(haN:a+N<=nV)(hV:rowAt w gV nV V)(hb:∀i,0<=nth V i/\nth V i<=1000) :
 Calls prog 147 #[.agg #[v0,.slice (some ⟨gV,0,none⟩) nV cV,v2],.int .i64 (a:Nat),.int .i64 (a+N:Nat)] w fun e w'=>∃go,e=.returned (.slice (some ⟨go,0,none⟩) N N)/\w'.ownsRow w.heap.size 3 1 (.slice (some ⟨go,0,none⟩) N N) N (jk ((nY (fun t=>nth V (a+t)) N).map (fun t=>t+a)))/\Fr [] w w':=by
 obtain⟨i3,hi3,Cp,Cq,hz32⟩:=fY info3;obtain⟨R,hR⟩:∃R,R=(nY (fun t=>nth V (a+t)) N).map (fun t=>t+a):=⟨_,rfl⟩;rw[<-hR];have HR:=hid hR;obtain⟨wb,hwb⟩:∃wb,wb=w.alloc (.cells #[v0,.slice (some ⟨gV,0,none⟩) nV cV,v2] 146):=⟨_,rfl⟩;have j8:=hid (show Fr [] w wb by rw[hwb];exact(Fr.refl [] w).alloc _);have AF:=hid (show wb.heap[w.heap.size]?=some (.cells #[v0,.slice (some ⟨gV,0,none⟩) nV cV,v2] 146 (0,0)) by rw[hwb];exact iL w _);have Gw:wb.heap.size=w.heap.size+1:=by rw[hwb];simp
 obtain⟨wm,hmk,hown,hgr⟩:=run_make_full (P:=prog) wb w.heap.size 32 3 i3 _ 1 underlying32 hi3 Cp Cq .i64 .i64 N (by rw[hz32];omega) (by unfold maxLen;omega) (by omega);rw[Gw]at hmk hown;rw[hwb]at hmk
 have HOM:=hid (show wm.ownsRow w.heap.size 3 1 (.slice (some ⟨w.heap.size+1,0,none⟩) N N) N (jk (qj a N 0)) by
  have e:(madeCells (Value.int .i64 0).cells (N * 1)).toList=jk (qj a N 0):=by
   rw[I6,Nat.mul_one]
   have:=toList_madeCells_one (.int .i64 0) N
   simpa[jk,Value.cells] using this
  rw[<-e];exact hown)
 have HFM:=hid (j8.out.trans (Fr.vF hgr));have aaz:=hid (iJ AF.out (Fr.vF hgr) aj);have HV:=hid hV;have HB:=hid hb;have hsub:((a+N:Nat):Int) - (a:Int)=(N:Int):=by omega
 have agd:IntKind.i64.wrap (((a+N:Nat):Int) - (a:Int))=(N:Int):=by rw[fM];omega
 have HTB:=hid (Ce (fun t=>nth V (a+t)) 1000 (by omega) (fun k=>(hb _).2));have HLC:=hid (Af (fun t=>nth V (a+t)) (fun i=>hb _));clear hown hgr hV hb hR;generalize hab:a+N=b at *;have HAB:=hid hab;clear hab;go_enter func147,ntmps147;go_wp2_with fail;go_loopw [8,9,19] (fun gg ll ii wr=>∃i:Nat,ii=.int .i64 i/\i<=N/\gg=.int .i64 (mA (fun t=>nth V (a+t)) i)/\ll=.int .i64 (lF (fun t=>nth V (a+t)) i)/\Hid (wr.ownsRow w.heap.size 3 1 (.slice (some ⟨w.heap.size+1,0,none⟩) N N) N (jk (qj a N i)))/\Hid (Fr [w.heap.size+1] wm wr)) (fun _ _ ii _=>N - (intOf ii).toNat)
 case atStart=>exact⟨0,rfl,aN _,rfl,rfl,HOM,hid (Fr.refl _ _)⟩
 case round =>
  obtain⟨i,rfl,hiN,rfl,rfl,HO,HF⟩:=hrel;have qQ:=hid (show Fr [] w wr from((HFM.out.mono (fun _ h _=>absurd h aj):Fr [w.heap.size+1] w wm).trans HF.out).mono (fun x hx hlt=>by have:=ak.1 hx;omega));have AG:=hid (iJ aaz.out HF.out (fun h=>by have:=ak.1 h;omega));by_cases hil:i<N
  ·have y_:(i:Int)<(N:Int):=by omega
   have c0:=HO.out.cellAt i (by omega);rw[o_ (by rw[L8 (by omega)];exact hil)]at c0;have f0:=HO.out.frozenAt i;have v1:=HV.out.fr qQ.out aj (a+i) (by have:=HAB.out;omega);have HST:=hid (L9 (a:=a) (N:=N) hil);have HL:=hid (fun(X:World) (hf:Fr [] w X)=>Cy V gV nV cV (a+i) v0 v2 X (by have:=HAB.out;omega) (HV.out.fr hf aj) (HB.out _).1);have HT1:=hid (show mA (fun t=>nth V (a+t)) (i+1)=max (mA (fun t=>nth V (a+t)) i) (nth V (a+i))from rfl);have Su:=hid (show lF (fun t=>nth V (a+t)) (i+1)=if nth V (a+i) % 2=1 then min (lF (fun t=>nth V (a+t)) i) (nth V (a+i))else lF (fun t=>nth V (a+t)) i from rfl);have hvb:=HB.out (a+i);have hai:a+i<nV:=by have:=HAB.out;omega
   have HYX:=hid (show nth V (a+i)=nth V (a+i)from rfl);generalize Ss:nth V (a+i)=y at *
   replace HYX:=hid Ss
   clear Ss;generalize mA (fun t=>nth V (a+t)) i=tt at *;generalize lF (fun t=>nth V (a+t)) i=ll at *;generalize iP (qj a N i) i=z at *;have hsum:(a:Int)+(i:Int)=((a+i:Nat):Int):=by omega
   obtain⟨x,hx⟩:∃x,x=a+i:=⟨_,rfl⟩;rw[<-hx]at v1 HST HL hai hsum HYX;clear hx;have hxI:(x:Int)<(nV:Int):=by omega
   have hgV:=fC _ _ v1;have ah5:gV≠w.heap.size+1:=by have h:=fC _ _ (HV.out 0 (by omega));dsimp only at h;omega
   have hne1:w.heap.size≠w.heap.size+1:=by omega
   have hst:=HO.out.stored i (.int .i64 (x:Nat));obtain⟨W',hW'⟩:∃W',W'=wr.setCell ⟨w.heap.size+1,i,none⟩ (.int .i64 (x:Nat)):=⟨_,rfl⟩;rw[<-hW']at hst;have HO':=hid (show W'.ownsRow w.heap.size 3 1 (.slice (some ⟨w.heap.size+1,0,none⟩) N N) N (jk (qj a N (i+1))) by rw[<-HST.out,<-LQ];exact hst.1);have HF':=hid (show Fr [w.heap.size+1] wm W' by rw[hW'];exact HF.out.set (ak.2 rfl) _);have Xy:=hid (show Fr [] w W' by rw[hW'];exact qQ.out.iK (by omega));have HLc:=hid (HL.out W' Xy.out);have aaC:=hid (iJ aaz.out HF'.out (fun h=>by have:=ak.1 h;omega));have s0:wr.cell? ⟨w.heap.size,0,none⟩=some v0:=iG AG.out (i:=0) rfl;have s1:wr.cell? ⟨w.heap.size,1,none⟩=some (.slice (some ⟨gV,0,none⟩) nV cV):=iG AG.out (i:=1) rfl;have s2:wr.cell? ⟨w.heap.size,2,none⟩=some v2:=iG AG.out (i:=2) rfl;have Zy:=hid (fun(X:World) (hf:Fr [] w X)=>HV.out.fr hf aj x hai);rw[HYX.out]at Zy;rw[hW']at HLc;have HW':=hid hW';clear hW' hst;by_cases hod:y % 2=1
   ·have Xz:(y % 2 == 1)=true:=by simp[hod]
    rw[aE hod]at Su;rw[Xz]at HLc;go_wp2_with (first | (go_at_call 103;refine HLc.out.mono ?_;rintro e w1 ⟨rfl,hf1⟩;rw[<-HW'.out]at hf1;have jc:=hid hf1;have s1b:w1.cell? ⟨w.heap.size,1,none⟩=some (.slice (some ⟨gV,0,none⟩) nV cV):=iG (iJ aaC.out hf1 aj) (i:=1) rfl;have v1b:=Zy.out w1 (Xy.out.trans hf1);clear hf1));have lT:=hid (iM HO'.out jc.out);have XA:=hid (HF'.out.trans (jc.out.mono (fun _ h _=>absurd h aj)));go_roundw
    case rel=>exact⟨i+1,by go_num,by omega,by rw[HT1.out],by rw[Su.out],lT,XA⟩
    case measure=>simp[intOf];omega
   ·have Xz:(y % 2 == 1)=false:=by simp[hod]
    rw[ay hod]at Su;rw[Xz]at HLc;go_wp2_with (first | (go_at_call 103;refine HLc.out.mono ?_;rintro e w1 ⟨rfl,hf1⟩;rw[<-HW'.out]at hf1;have jc:=hid hf1;have s1b:w1.cell? ⟨w.heap.size,1,none⟩=some (.slice (some ⟨gV,0,none⟩) nV cV):=iG (iJ aaC.out hf1 aj) (i:=1) rfl;have v1b:=Zy.out w1 (Xy.out.trans hf1);clear hf1));have lT:=hid (iM HO'.out jc.out);have XA:=hid (HF'.out.trans (jc.out.mono (fun _ h _=>absurd h aj)));go_roundw
    case rel=>exact⟨i+1,by go_num,by omega,by rw[HT1.out],by rw[Su.out],lT,XA⟩
    case measure=>simp[intOf];omega
  ·obtain rfl:i=N:=by omega
   have y_:¬(i:Int)<(i:Int):=by omega
   obtain⟨wk,hwk⟩:∃wk,wk=wr:=⟨_,rfl⟩;subst hwk;rw[L_]at HO;obtain⟨m,K,hm1,hT,hmL,hK,hRR⟩:∃m K:Nat,1<=m/\mA (fun t=>nth V (a+t)) i=(m:Int)+(K:Int) - 1/\(m:Int)<=lF (fun t=>nth V (a+t)) i/\(0<K->lF (fun t=>nth V (a+t)) i=(m:Int))/\yL (fun x=>nth V x) m K (seg a i)=R:=by
    have h0:=HTB.out i
    rcases HLC.out i with⟨h1,h2⟩ | ⟨q,h1,h2,h3⟩
    ·refine⟨(mA (fun t=>nth V (a+t)) i).toNat+1,0,by omega,by omega,by rw[h1];omega,fun h=>absurd h (by omega),?_⟩
     rw[HR.out,yL];exact(Pw (fun x=>nth V x) HB.out a i h2).symm
    ·obtain⟨h4,h5⟩:=L7 (fun x=>nth V x) a i q h2 h3
     refine⟨2 * q+1,(mA (fun t=>nth V (a+t)) i).toNat - 2 * q,by omega,by omega,by rw[h1];omega,fun _=>by rw[h1];omega,?_⟩;rw[HR.out];exact h5.symm
   have XB:=HTB.out i;rw[hT]at XB ⊢;generalize lF (fun t=>nth V (a+t)) i=L at *;have HRR:=hid hRR;have HK:=hid hK;clear hRR hK;have HT:=hid hT;clear hT;obtain⟨t0,ht0⟩:∃t0:Int,t0=(m:Int)+(K:Int) - 1:=⟨_,rfl⟩;rw[<-ht0]at XB ⊢;have HT0:=hid ht0;clear ht0;go_wp2_with fail;go_loopw [12] (fun ll wr=>∃(l:Int) (k:Nat) (o:List Nat),ll=.int .i64 l/\0<=l/\l<=1000/\k<=K/\Hid (l=(m:Int)+(k:Int) - 1)/\Hid (yL (fun x=>nth V x) m k o=R)/\Hid (o.Perm (seg a i))/\Hid (wr.ownsRow w.heap.size 3 1 (.slice (some ⟨w.heap.size+1,0,none⟩) i i) i (jk o))/\Hid (Fr [w.heap.size+1] wk wr)) (fun ll _=>(intOf ll).toNat)
   case atStart=>exact⟨t0,K,seg a i,rfl,XB.1,XB.2,au _,HT0,HRR,hid (List.Perm.refl _),HO,hid (Fr.refl _ _)⟩
   case round =>
    obtain⟨l,k,o,rfl,hl0,hl1,hkK,V5,HTD,Xf,jO,i_⟩:=hrel;have XC:=hid (iJ AG.out i_.out (fun h=>by have:=ak.1 h;omega));have TD:=hid (show Fr [] w wr from((qQ.out.mono (fun _ h _=>absurd h aj):Fr [w.heap.size+1] w wk).trans i_.out).mono (fun x hx hlt=>by have:=ak.1 hx;omega));by_cases hk0:k=0
    ·subst hk0
     have hlL:¬L<=l:=by have:=V5.out;omega
     have hlD:decide (L<=l)=false:=by simp[hlL]
     have wY:=hid (show wr.ownsRow w.heap.size 3 1 (.slice (some ⟨w.heap.size+1,0,none⟩) i i) i (jk R) by rw[<-HTD.out];exact jO.out);go_wp2;go_ret;exact⟨w.heap.size+1,rfl,wY.out,TD.out⟩
    ·have hLm:=HK.out (by omega)
     have hlL:L<=l:=by have:=V5.out;omega
     have hl2:1<=l:=by have:=V5.out;omega
     have Ia:=hid hLm;clear hLm;have s0:wr.cell? ⟨w.heap.size,0,none⟩=some v0:=iG XC.out (i:=0) rfl;have s1:wr.cell? ⟨w.heap.size,1,none⟩=some (.slice (some ⟨gV,0,none⟩) nV cV):=iG XC.out (i:=1) rfl;have s2:wr.cell? ⟨w.heap.size,2,none⟩=some v2:=iG XC.out (i:=2) rfl;have hol:=Xf.out.length_eq;rw[A9]at hol;have HOL:=hid hol;clear hol
     have DA:=hid (Cx V gV nV cV v0 v2 l o w.heap.size (w.heap.size+1) i i wr HOL.out.symm (by have:=HAB.out;omega) (HV.out.fr TD.out aj) (fun j hj=>by
      obtain⟨t,h1,h2⟩:=E1 (Xf.out.mem_iff.1 (qC (l:=o) (k:=j) (by rw[HOL.out];exact hj)))
      rw[h2];have:=HAB.out;omega) jO.out)
     go_wp2_with (first | (go_at_call 199;refine DA.out.mono ?_;rintro e w1 ⟨rfl,sY,hf1⟩;have lD:=hid sY;have jQ:=hid (i_.out.trans hf1);clear sY hf1));go_roundw
     case rel =>
      obtain⟨k',hk'⟩:∃k',k=k'+1:=⟨k - 1,by omega⟩;subst hk';refine⟨l - 1,k',_,rfl,by omega,by omega,by omega,hid (by have:=V5.out;omega),hid ?_,hid ((pT _ o).trans Xf.out),lD,jQ⟩;have h:=HTD.out;rw[yL]at h;rw[<-h];have e:(fun x=>decide (l<=nth V x))=deep (fun x=>nth V x) (m+k'):=by
       funext x;unfold deep;have:=V5.out
       rw[show((m+k':Nat):Int)=l by omega]
      rw[e]
     case measure=>simp[intOf];omega
theorem Px (Wd:List Int)(gW nW cW go co N:Nat)(o:List Nat)(v0 v1:Value)(w:World)(hN:N<=1000)(hW:rowAt w gW nW Wd)(hO:EO w go N o)(hin:∀t,t<N->iP o t<nW)(hb:∀k,k<nW->0<=nth Wd k/\nth Wd k<=429496729600) :
 Calls prog 148 #[.agg #[v0,v1,.slice (some ⟨gW,0,none⟩) nW cW],.slice (some ⟨go,0,none⟩) N co] w fun e w'=>∃gx cx,e=.returned (.slice (some ⟨gx,0,none⟩) (N+1) cx)/\w'.ownsRow w.heap.size 2 1 (.slice (some ⟨gx,0,none⟩) (N+1) cx) (N+1) (iS (xs (fun k=>nth Wd k) o N))/\Fr [] w w':=by
 obtain⟨i2,hi2,XD,XE,XF⟩:=fY VX;obtain⟨wb,hwb⟩:∃wb,wb=w.alloc (.cells #[v0,v1,.slice (some ⟨gW,0,none⟩) nW cW] 146):=⟨_,rfl⟩;have j8:=hid (show Fr [] w wb by rw[hwb];exact(Fr.refl [] w).alloc _);have AF:=hid (show wb.heap[w.heap.size]?=some (.cells #[v0,v1,.slice (some ⟨gW,0,none⟩) nW cW] 146 (0,0)) by rw[hwb];exact iL w _);have Gw:wb.heap.size=w.heap.size+1:=by rw[hwb];simp
 have V2:=hid hW;have wY:=hid hO;have Sy:=hid hin;have XG:=hid hb;have HX0:=hid (by simpa[Gw] using iq (base:=wb.heap.size) (e:=2) (size:=1) wb #[.int .i64 0] 1 (au _) (by decide) rfl);have Sw:=hid ((Fr.refl [] wb).alloc (.cells #[.int .i64 0] 2));obtain⟨f,hf⟩:∃f:Nat->Int,f=fun k=>nth Wd k:=⟨_,rfl⟩
 rw[<-hf];have DB:=hid (fun k=>show f k=nth Wd k by rw[hf]);clear hW hO hin hb hf;go_enter func148,ntmps148;go_wp2_with fail;rw[<-hwb];go_loopw [5,11] (fun vx kk wr=>∃(t gx cx:Nat),kk=.int .i64 t/\vx=.slice (some ⟨gx,0,none⟩) (t+1) cx/\t<=N/\Hid (Fr [] wb wr)/\Hid (wr.ownsRow (w.heap.size+1) 2 1 (.slice (some ⟨gx,0,none⟩) (t+1) cx) (t+1) (iS (xs f o t)))) (fun _ kk _=>N - (intOf kk).toNat)
 case atStart=>exact⟨0,w.heap.size+1,1,rfl,rfl,aN _,Sw,HX0⟩
 case round =>
  obtain⟨t,gx,cx,rfl,rfl,htN,KB,HXt⟩:=hrel;have qQ:=hid (j8.out.trans KB.out);by_cases htl:t<N
  ·have V6:(t:Int)<(N:Int):=by omega
   have q2:=wY.out.fr qQ.out aj t htl;have q1:wr.cell? ⟨w.heap.size,2,none⟩=some (.slice (some ⟨gW,0,none⟩) nW cW):=iG (iJ AF.out KB.out aj) (i:=2) rfl;have hyW:=Sy.out t htl;have q3:=V2.out.fr qQ.out aj _ hyW;have q4:=HXt.out.cellAt t (by omega);rw[k_ (by rw[zh];omega),Ky f o (au _)]at q4;have HXS:=hid (TB f o t);have HSX:=hid (Ky f o (au t));have hxb:=Ae f 429496729600 o t (fun j hj=>by rw[DB.out];exact XG.out _ (Sy.out j (by omega)));have hwd:=XG.out _ hyW;rw[<-DB.out]at hwd q3;have hxa:rN f o t<=429496729600000:=by
    have h5:(t:Int) * 429496729600<=1000 * 429496729600:=dW (by omega) (by omega);omega
   have hx0:=hxb.1;obtain⟨hw0,hw1⟩:=hwd;clear hxb;generalize rN f o t=sx at *;generalize f (iP o t)=wd at *;generalize iP o t=y at *;have hyI:(y:Int)<(nW:Int):=by omega
   have hgx:=ji HXt.out;have ah_:w.heap.size+1<=wr.heap.size:=by omega
   have TE:=fC _ _ (V2.out y hyW);have Xx:=fC _ _ (wY.out t htl);dsimp only at TE Xx;have aeb:gW≠gx:=by omega
   have aia:go≠gx:=by omega
   have hbn:w.heap.size≠gx:=by omega
   have htt:(t:Int)<(t:Int)+1:=by omega
   have aib:IntKind.i64.wrap (sx+wd)=sx+wd:=by rw[fM];omega
   have V7:=hid (fun(w1' w':World) (hf:Fr [] wr w1') (hg:w1'.grownBy w' (some gx)) (hk:∀j u,(iS (xs f o t))[j]?=some u->w'.cell? ⟨gx,j,none⟩=some u)=>show w'.cell? ⟨w.heap.size,2,none⟩=some (.slice (some ⟨gW,0,none⟩) nW cW)/\w'.cell? ⟨gW,y,none⟩=some (.int .i64 wd)/\w'.cell? ⟨gx,t,none⟩=some (.int .i64 sx)from
    ⟨cell_grown hg (hf.cell q1 aj) hbn,cell_grown hg (hf.cell q3 aj) aeb,hk t _ (by rw[k_ (by rw[zh];omega),HSX.out])⟩)
   clear TE Xx;have TE:=fC _ _ q3;have hbl:=fC _ _ q1;dsimp only at TE hbl;go_wp2_with fail;go_region_held_law (fun w'=>w'.cell? ⟨w.heap.size,2,none⟩=some (.slice (some ⟨gW,0,none⟩) nW cW)/\w'.cell? ⟨gW,y,none⟩=some (.int .i64 wd)/\w'.cell? ⟨gx,t,none⟩=some (.int .i64 sx)) (first | exact l9 | go_keep) ((refine LR rfl (.tmp 16) (.tmp 27) 67 rfl (w.heap.size+1) 2 i2 _ 1 8 underlying67 hi2 XD XE XF rfl (by decide) gx (t+1) cx (iS (xs f o t)) ?q1 ?q2 ⟨wr.heap.size,0,none⟩ 1 1 [.int .i64 (sx+wd)] ?q3 rfl ?q4 (one_cell _) (by unfold maxLen;omega) (by omega) ?q5 ?_;(case q1=>first | rfl | simp[Act.eval]);(case q2=>exact iM HXt.out (Xw _ _));(case q3=>first | rfl | simp[Act.eval]);(case q4=>exact kM _ _ _ _ (by simp));(case q5=>simp;omega);intro v' w' hown hgrow hkeep;obtain⟨g',c',hv'⟩:=iQ (by omega) hown;subst hv';have nH:=hid hown;have HG2:=hid hgrow;have l9:=V7.out _ _ (Xw _ _) hgrow hkeep;clear hown hgrow hkeep))
   all_goals (
    have DC:=hid (show Fr [] wb w' from(((KB.out.trans (Xw wr (.cells #[.int .i64 (sx+wd)] 2))).mono (fun _ h _=>absurd h aj):Fr [gx] wb _).trans (Fr.m8 HG2.out)).mono (fun x hx hlt=>by have:=ak.1 hx;omega))
    go_wp2
    go_roundw
    case rel=>exact⟨t+1,g',c',by go_num,rfl,by omega,DC,hid (by rw[HXS.out,<-tP];exact nH.out)⟩
    case measure=>simp[intOf];omega)
  ·obtain rfl:t=N:=by omega
   have V6:¬(t:Int)<(t:Int):=by omega
   go_wp2;go_ret;exact⟨gx,cx,rfl,iU HXt.out (by omega),qQ.out⟩
end Go.Proofs.YtnakejhohdbfdacGreatDoor

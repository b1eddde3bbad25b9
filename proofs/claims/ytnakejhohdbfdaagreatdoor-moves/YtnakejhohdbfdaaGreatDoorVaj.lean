import Derived.Test.YtnakejhohdbfdaaGreatDoorVai
set_option maxHeartbeats 4000000
set_option maxRecDepth 10000
namespace Go.Proofs.YtnakejhohdbfdaaGreatDoor
open Go.RowKit jN Lay Go.Proofs.Tryz
def Mi (xs:List Value):Nat->List Value->List Value
 | _,[]=>xs
 | o,v :: r=>Mi (xs.set o v) (o+1) r
theorem KP:∀(vs xs:List Value) (o j:Nat),o+vs.length<=xs.length->(Mi xs o vs)[j]?=if o<=j/\j<o+vs.length then vs[j - o]? else xs[j]?
 | [],xs,o,j,_=>by rw[Mi,au (by simp)]
 | v :: r,xs,o,j,h=>by
   rw[bO]at h;rw[Mi,KP r (xs.set o v) (o+1) j (by rw[aY];omega),bO];by_cases h1:o+1<=j/\j<o+1+r.length
   ·rw[ay h1,ay (by omega)]
    obtain⟨d,hd⟩:∃d,j - o=d+1:=⟨j - o - 1,by omega⟩;rw[hd,List.getElem?_cons_succ];congr 1;omega
   ·rw[au h1]
    by_cases h2:j=o
    ·subst h2;rw[ay (by omega),bY,aQ (by omega)];rfl
    ·rw[au (by omega),aU (fun e=>h2 e.symm)]
theorem GL {B e g n c:Nat}:∀(vs xs:List Value) (o:Nat) (w:World),w.ownsRow B e 1 (.slice (some ⟨g,0,none⟩) n c) n xs->(w.setCells g o vs).ownsRow B e 1 (.slice (some ⟨g,0,none⟩) n c) n (Mi xs o vs)/\Fr [g] w (w.setCells g o vs)
 | [],xs,o,w,h=>⟨h,Fr.refl _ _⟩
 | v :: r,xs,o,w,h=>by
   obtain⟨h1,h2⟩:=GL r (xs.set o v) (o+1) (w.setCell ⟨g,o,none⟩ v) (h.stored o v).1;exact⟨h1,(gH w g o v).trans h2⟩
theorem P4 (l:List Nat)(a b:Nat)(hab:a<=b)(hb:b<=l.length):Mi (gz l) a (gz ((l.take b).drop a).reverse)=gz (wM l a b):=by
 have hl:((l.take b).drop a).reverse.length=b - a:=by rw[dW,bu,aP];omega
 apply List.ext_getElem?;intro j;rw[KP _ _ _ _ (by rw[ou,ou,hl];omega),ou,hl];by_cases hj:j<l.length
 ·have e1:=kJ (l:=wM l a b) (j:=j) (by rw[qI l a b hab hb];exact hj)
  rw[e1,KD l a b hab hb];by_cases h:a<=j/\j<b
  ·rw[ay (by omega),ay h,kJ (by rw[hl];omega)]
   congr 2
   rw[fX,fX,List.getElem?_reverse (by rw[bu,aP];omega),bu,aP,b_,dG (by omega)]
   congr 3;omega
  ·rw[au (by omega),au h,kJ hj]
 ·rw[au (by omega),bq (by rw[ou];omega),bq (by rw[ou,qI l a b hab hb];omega)]
theorem Jk (l:List Nat):(l.map (fun x=>((x:Nat):Int))).map (Value.int .i64)=gz l:=by simp[gz]
theorem P5 {B n c:Nat}(l:List Nat)(g a b:Nat)(w:World)(hn:n=l.length)(hab:a<=b)(hb:b<=n)(hl:n<=1000)(cc:Nat)(ho:w.ownsRow B 3 1 (.slice (some ⟨g,0,none⟩) n c) n (gz l)) :
 Calls prog 256 #[.slice (some ⟨g,a,none⟩) (b - a) cc] w fun e w'=>e=.returned (.tuple #[])/\w'.ownsRow B 3 1 (.slice (some ⟨g,0,none⟩) n c) n (gz (wM l a b))/\Fr [g] w w':=by
 have hz:(((l.take b).drop a).map (fun x=>((x:Nat):Int))).length=b - a:=by rw[dm,bu,aP];omega
 refine(Tryz.slices_Reverse_int_cells g a (b - a) cc (((l.take b).drop a).map (fun x=>((x:Nat):Int))) w (by omega) (by omega) (fun j hj=>?_) (fun j _=>ho.frozenAt (a+j))).mono ?_
 ·rw[hz]at hj
  rw[ho.cellAt (a+j) (by omega),kJ (by omega)]
  congr 2
  rw[List.getD,bV,b_,dG (by omega),fX,az (show a+j<l.length by omega)];rfl
 ·rintro e w' ⟨rfl,q,rfl⟩
  have e1:((((l.take b).drop a).map (fun x=>((x:Nat):Int))).take (b - a)).reverse.map (Value.int .i64)=gz ((l.take b).drop a).reverse:=by
   rw[d_ (by omega),<-List.map_reverse,Jk]
  rw[e1];obtain⟨h1,h2⟩:=GL (gz ((l.take b).drop a).reverse) (gz l) a (w.drewN q) (show(w.drewN q).ownsRow B 3 1 (.slice (some ⟨g,0,none⟩) n c) n (gz l)from ho);rw[P4 l a b hab (by omega)]at h1;exact⟨rfl,h1,((Fr.refl [g] w).drewN q).trans h2⟩
theorem P6 (V:List Int)(gV nV cV sb lb x:Nat)(v0 v2:Value)(l:Int)(X:World)(hx:x<nV)(hV:rowAt X gV nV V)(hs:X.heap[sb]?=some (.cells #[v0,.slice (some ⟨gV,0,none⟩) nV cV,v2] 163 (0,0)))(hl:X.heap[lb]?=some (.cells #[.int .i64 l] 3 (0,0))) :
 Calls prog 255 (#[.int .i64 (x:Nat)]++#[.pointer (some ⟨sb,0,none⟩),.pointer (some ⟨lb,0,none⟩)]) X fun e w'=>e=.returned (.bool (decide (l<=nth V x)))/\∃q,w'=X.drewN q:=by
 have c1:=fN hs (i:=1) rfl;have c2:=fN hl (i:=0) rfl;have c3:=hV x hx;have Xm:(x:Int)<(nV:Int):=by omega
 generalize nth V x=y at *;clear hs hl hV;go_enter func255,ntmps255;go_wp2_with fail;go_quiet (fail);go_wp2;go_ret;exact⟨rfl,_,rfl⟩
theorem Mj (l:List Nat)(m:List (Nat × Nat)){k:Nat}{x:Nat × Nat}(h:m[k]?=some x):yX l (m.take (k+1))=wM (yX l (m.take k)) x.1 x.2:=by
 rw[List.take_add_one,h];exact yY l _ x
theorem GM:∀(m:List (Nat × Nat)) (l:List Nat),(∀x∈m,x.1<=x.2/\x.2<=l.length)->(yX l m).length=l.length
 | [],_,_=>rfl
 | x :: m,l,h=>by
   have h0:=h x (by simp);have e:=qI l x.1 x.2 h0.1 h0.2;have ih:=GM m (wM l x.1 x.2) (fun y hy=>by rw[e];exact h y (by simp[hy]));rw[e]at ih;exact ih
theorem P7 (V:List Int)(gV nV cV:Nat)(v0 v2:Value)(l:Int)(o:List Nat)(B go co n:Nat)(w:World)(hn:n=o.length)(hn1:n<=1000)(hV:rowAt w gV nV V)(ho:∀i,i<n->fX o i<nV)(hO:w.ownsRow B 3 1 (.slice (some ⟨go,0,none⟩) n co) n (gz o)) :
 Calls prog 249 #[.agg #[v0,.slice (some ⟨gV,0,none⟩) nV cV,v2],.slice (some ⟨go,0,none⟩) n co,.int .i64 l] w fun e w'=>e=.returned (.tuple #[])/\w'.ownsRow B 3 1 (.slice (some ⟨go,0,none⟩) n co) n (gz (turn (fun x=>decide (l<=nth V x)) o))/\Fr [go] w w':=by
 obtain⟨w2,hw2⟩:∃w2,w2=(w.alloc (.cells #[v0,.slice (some ⟨gV,0,none⟩) nV cV,v2] 163)).alloc (.cells #[.int .i64 l] 3):=⟨_,rfl⟩;have f_:=hid (show Fr [] w w2 by rw[hw2];exact((Fr.refl [] w).alloc _).alloc _);have HSB:=hid (show w2.heap[w.heap.size]?=some (.cells #[v0,.slice (some ⟨gV,0,none⟩) nV cV,v2] 163 (0,0)) by rw[hw2];exact fO (fU w _) ((Fr.refl [] _).alloc _) af)
 have Is:=hid (show w2.heap[w.heap.size+1]?=some (.cells #[.int .i64 l] 3 (0,0)) by
  have h:=fU (w.alloc (.cells #[v0,.slice (some ⟨gV,0,none⟩) nV cV,v2] 163)) (.cells #[.int .i64 l] 3)
  rw[fI]at h;rw[hw2];exact h)
 have HV:=hid hV;have HO:=hid hO;have Il:=hid ho;have HN:=hid hn;have XA:=(fZ hO).2;obtain⟨p,hp⟩:∃p:Nat->Bool,p=fun x=>decide (l<=nth V x):=⟨_,rfl⟩
 rw[<-hp]
 have AB:=hid (L8 255 #[.pointer (some ⟨w.heap.size,0,none⟩),.pointer (some ⟨w.heap.size+1,0,none⟩)] p o go co w2 (by omega) (by rw[<-hn];exact jJ (fS hO f_.out) hn.symm) (fun args w=>by kernel_rfl) (fun X hf i hi=>by
  rw[hp]
  exact P6 V gV nV cV w.heap.size (w.heap.size+1) (fX o i) v0 v2 l X (ho i (by omega)) ((hV.fr f_.out af).fr hf af) (fO HSB.out hf af) (fO Is.out hf af)))
 rw[<-hn]at AB;have Ti:=hid (Gj p o);have hR0:(Lay.parts p o).length<=n+1:=by rw[hn];exact(uf p o (o.length+1)).1
 have HPT:=hid (I4 p o);obtain⟨T,hT⟩:∃T,T=turn p o:=⟨_,rfl⟩;rw[<-hT]at HPT ⊢;generalize Lay.parts p o=R at *;clear hV hO ho hp hT hn;go_enter func249,ntmps249;go_wp2_with fail;rw[<-hw2];clear hw2;refine AB.out.mono ?_;rintro e w3 ⟨v,rfl,gM,hf3⟩;have k9:=hid (fS (fS HO.out f_.out) hf3);have iO:=hid (f_.out.trans hf3);have HR3:=hid gM;obtain⟨aR,cR,hv⟩:=gA gM;subst hv;obtain⟨nR,hnR⟩:∃nR,nR=R.length:=⟨_,rfl⟩;have hR4:nR<=2000:=by omega
 rw[<-hnR]at HR3 ⊢;have KQ:=hid hnR;clear gM hf3 AB hnR hR0;go_wp2_with fail;go_loopw [14] (fun kk wr=>∃k:Nat,kk=.int .i64 k/\k<=nR/\Hid (wr.ownsRow B 3 1 (.slice (some ⟨go,0,none⟩) n co) n (gz (yX o (R.take k))))/\Hid (Fr [go] w3 wr)) (fun kk _=>nR - (intOf kk).toNat)
 case atStart=>exact⟨0,rfl,aH _,k9,hid (Fr.refl _ _)⟩
 case round =>
  obtain⟨k,rfl,hkn,HOk,yl⟩:=hrel;by_cases hkl:k<nR
  ·have sX:(k:Int)<(nR:Int):=by omega
   obtain⟨gR,cR',hvR⟩:=fR (by omega) HR3.out;cases hvR;have aaO:gR≠go:=iT HR3.out k9.out (by decide) rfl rfl;have hx:R[k]?=some (R[k]'(by rw[<-KQ.out];exact hkl)):=az _;have hb:=Ti.out _ (aT (by rw[<-KQ.out];exact hkl));have HRT:=hid (Mj o R hx);have e0:=yl.out.cell (show w3.cell? ⟨gR,k * 2,none⟩=_ from(HR3.out.cellAt (k * 2) (by omega)).trans (wU R k _ hx).1) (fun h=>aaO (aj.1 h));have e1:=yl.out.cell (show w3.cell? ⟨gR,k * 2+1,none⟩=_ from(HR3.out.cellAt (k * 2+1) (by omega)).trans (wU R k _ hx).2) (fun h=>aaO (aj.1 h));rw[<-HN.out]at hb;have sZ:=hid (show n=(yX o (R.take k)).length by rw[GM _ o (fun y hy=>by have:=Ti.out y (eF hy);omega)];exact HN.out);generalize R[k]'(by rw[<-KQ.out];exact hkl)=x at *;obtain⟨xa,xb⟩:=x;dsimp only at e0 e1 hb HRT;have aaP:=hid (fun(X:World) cc (hX:X.ownsRow B 3 1 (.slice (some ⟨go,0,none⟩) n co) n (gz (yX o (R.take k))))=>P5 (yX o (R.take k)) go xa xb X sZ.out (by omega) hb.2 hn1 cc hX);have hco:n<=co:=by
    rcases HOk.out.2 with⟨h5,_⟩ | ⟨g5,c5,ajG,h5,_,_,h6,_⟩
    ·cases h5
    ·cases h5;exact h6
   obtain⟨hb1,hb2⟩:=hb;have hba:(xa:Int)<=(xb:Int):=by omega
   have hbc:(xb:Int)<=(co:Int):=by omega
   have AD:=hid (HOk.out.alloc (.cells #[.int .i64 (xa:Nat),.int .i64 (xb:Nat)] 250));have oC:=hid (yl.out.alloc (.cells #[.int .i64 (xa:Nat),.int .i64 (xb:Nat)] 250));clear hx;go_wp2_with fail;refine(aaP.out _ _ AD.out).mono ?_;rintro e w5 ⟨rfl,qx,jC⟩;have qZ:=hid qx;have jP:=hid (oC.out.trans jC);clear qx jC aaP;go_wp2;go_roundw
   case rel=>exact⟨k+1,by go_num,by omega,hid (by rw[HRT.out];exact qZ.out),jP⟩
   case measure=>simp[intOf];omega
  ·obtain rfl:k=nR:=by omega
   have sX:¬(k:Int)<(k:Int):=by omega
   have HOZ:=hid (show wr.ownsRow B 3 1 (.slice (some ⟨go,0,none⟩) n co) n (gz T) by
    have h:=HOk.out
    rw[KQ.out,cK,HPT.out]at h
    exact h)
   go_wp2;go_end0;exact⟨rfl,HOZ.out,((iO.out.mono (fun _ h _=>absurd h af):Fr [go] w w3)).trans yl.out⟩
def kM (V:Nat->Int):Nat->Int
 | 0=>9223372036854775807
 | k+1=>if V k % 2=1 then min (kM V k) (V k)else kM V k
theorem Ac (V:Nat->Int)(hV:∀i,0<=V i/\V i<=1000):∀n,(kM V n=9223372036854775807/\∀i,i<n->V i % 2≠1)\/∃q:Nat,kM V n=2 * (q:Int)+1/\(∃i,i<n/\V i=2 * (q:Int)+1)/\∀i,i<n->V i % 2=1->2 * (q:Int)+1<=V i
 | 0=>.inl ⟨rfl,fun i hi=>absurd hi (bE _)⟩
 | n+1=>by
   have hv:=hV n
   rcases Ac V hV n with⟨h1,h2⟩ | ⟨q,h1,⟨i,h2,h3⟩,h4⟩
   ·by_cases h:V n % 2=1
    ·refine .inr ⟨(V n).toNat / 2,?_,⟨n,by omega,by omega⟩,fun i hi ho=>?_⟩
     ·rw[kM,ay h,h1];omega
     ·rcases aA (aM hi)with h5 | h5
      ·exact absurd ho (h2 i h5)
      ·rw[h5];omega
    ·refine .inl ⟨by rw[kM,au h,h1],fun i hi=>?_⟩
     rcases aA (aM hi)with h5 | h5
     ·exact h2 i h5
     ·rw[h5];exact h
   ·by_cases h:V n % 2=1
    ·by_cases hlt:V n<2 * (q:Int)+1
     ·refine .inr ⟨(V n).toNat / 2,?_,⟨n,by omega,by omega⟩,fun j hj ho=>?_⟩
      ·rw[kM,ay h,h1];omega
      ·rcases aA (aM hj)with h5 | h5
       ·have:=h4 j h5 ho;omega
       ·rw[h5];omega
     ·refine .inr ⟨q,by rw[kM,ay h,h1];omega,⟨i,by omega,h3⟩,fun j hj ho=>?_⟩
      rcases aA (aM hj)with h5 | h5
      ·exact h4 j h5 ho
      ·rw[h5];omega
    ·refine .inr ⟨q,by rw[kM,au h,h1],⟨i,by omega,h3⟩,fun j hj ho=>?_⟩
     rcases aA (aM hj)with h5 | h5
     ·exact h4 j h5 ho
     ·rw[h5]at ho;exact absurd ho h
theorem GN (V:Nat->Int)(hV:∀i,0<=V i/\V i<=1000):∀n,(∀i,i<n->V i % 2≠1)->kD V n % 2=0
 | 0,_=>rfl
 | n+1,h=>by
   have ih:=GN V hV n (fun i hi=>h i (by omega));have:=h n (by omega);have:=hV n;rw[kD]
   rcases Int.le_total (kD V n) (V n)with h5 | h5
   ·rw[Int.max_eq_right h5];omega
   ·rw[Int.max_eq_left h5];exact ih
def seg (a n:Nat):List Nat:=(List.range n).map (fun t=>t+a)
theorem A7 (a n:Nat):(seg a n).length=n:=by simp[seg]
theorem Fv {a n x:Nat}(h:x∈seg a n):∃t,t<n/\x=t+a:=by
 obtain⟨t,h1,h2⟩:=dP.1 h;exact⟨t,bS.1 h1,h2.symm⟩
theorem GO (V:Nat->Int)(a n:Nat):(mG (fun t=>V (a+t)) n).map (fun t=>t+a)=wL V 1 (kD (fun t=>V (a+t)) n).toNat (seg a n):=by
 rw[mG,seg,KB V (fun t=>t+a) 1];have e:(fun x=>V (x+a))=(fun t=>V (a+t)):=by funext x;rw[eu]
 rw[e]
theorem P8 (V:Nat->Int)(hV:∀i,0<=V i/\V i<=1000)(a n:Nat)(h:∀i,i<n->V (a+i) % 2≠1):(mG (fun t=>V (a+t)) n).map (fun t=>t+a)=seg a n:=by
 have ht:=GN (fun t=>V (a+t)) (fun i=>hV _) n h;have h0:=xR (fun t=>V (a+t)) 1000 (by omega) (fun k=>(hV _).2) n;rw[GO];refine O9 V _ _ (by omega) (fun x hx j=>?_);obtain⟨t,h1,rfl⟩:=Fv hx;have:=h t h1;rw[eu t a];omega
theorem Mk (V:Nat->Int)(a n q:Nat)(h1:∃i,i<n/\V (a+i)=2 * (q:Int)+1)(h2:∀i,i<n->V (a+i) % 2=1->2 * (q:Int)+1<=V (a+i)):2 * q+1<=(kD (fun t=>V (a+t)) n).toNat/\(mG (fun t=>V (a+t)) n).map (fun t=>t+a)=wL V (2 * q+1) ((kD (fun t=>V (a+t)) n).toNat - 2 * q) (seg a n):=by
 obtain⟨i,hi,hv⟩:=h1;have hq:2 * q+1<=(kD (fun t=>V (a+t)) n).toNat:=by
  have:=Gl (fun t=>V (a+t)) n i hi;omega
 refine⟨hq,?_⟩;rw[GO];refine LA V _ _ q hq (fun x hx j hj=>?_);obtain⟨t,h3,rfl⟩:=Fv hx;intro e;have:=h2 t h3 (by rw[eu a t];omega);rw[eu a t]at this;omega
theorem Cm (V:List Int)(gV nV cV x:Nat)(v0 v2:Value)(w:World)(hx:x<nV)(hV:rowAt w gV nV V)(h0:0<=nth V x) :
 Calls prog 105 #[.agg #[v0,.slice (some ⟨gV,0,none⟩) nV cV,v2],.int .i64 (x:Nat)] w fun e w'=>e=.returned (.bool (nth V x % 2 == 1))/\Fr [] w w':=by
 have c3:=hV x hx;have hgl:=eS _ _ c3;have Xm:(x:Int)<(nV:Int):=by omega
 generalize nth V x=y at *;clear hV;go_enter func105,ntmps105;go_wp2;go_ret;exact⟨rfl,by first | exact(Fr.refl [] w).alloc _ | exact Fr.refl _ _⟩
def qd (a N i:Nat):List Nat:=seg a i++List.replicate (N - i) 0
theorem Mm {a N i:Nat}(h:i<=N):(qd a N i).length=N:=by rw[qd,aG,A7,List.length_replicate];omega
theorem Mn {a N i:Nat}(h:i<N):(qd a N i).set i (a+i)=qd a N (i+1):=by
 rw[qd,eE _ _ (by rw[A7];exact ak _),A7,bY,show N - i=(N - (i+1))+1 by omega,List.replicate_succ,List.set_cons_zero,qd,seg,seg,dA,cJ,eu a i];simp
theorem Jl (a N:Nat):qd a N 0=List.replicate N 0:=by simp[qd,seg]
theorem Mo (a N:Nat):qd a N N=seg a N:=by simp[qd]
theorem T_ (V:List Int)(gV nV cV a N:Nat)(v0 v2:Value)(w:World)(hn:nV<=1000)(haN:a+N<=nV)(hV:rowAt w gV nV V)(hb:∀i,0<=nth V i/\nth V i<=1000) :
 Calls prog 229 #[.agg #[v0,.slice (some ⟨gV,0,none⟩) nV cV,v2],.int .i64 (a:Nat),.int .i64 (a+N:Nat)] w fun e w'=>∃go,e=.returned (.slice (some ⟨go,0,none⟩) N N)/\w'.ownsRow w.heap.size 3 1 (.slice (some ⟨go,0,none⟩) N N) N (gz ((mG (fun t=>nth V (a+t)) N).map (fun t=>t+a)))/\Fr [] w w':=by
 obtain⟨i3,hi3,rQ,rS,hz32⟩:=e_ info3;obtain⟨R,hR⟩:∃R,R=(mG (fun t=>nth V (a+t)) N).map (fun t=>t+a):=⟨_,rfl⟩;rw[<-hR];have HR:=hid hR;obtain⟨wb,hwb⟩:∃wb,wb=w.alloc (.cells #[v0,.slice (some ⟨gV,0,none⟩) nV cV,v2] 163):=⟨_,rfl⟩;have nD:=hid (show Fr [] w wb by rw[hwb];exact(Fr.refl [] w).alloc _);have qy:=hid (show wb.heap[w.heap.size]?=some (.cells #[v0,.slice (some ⟨gV,0,none⟩) nV cV,v2] 163 (0,0)) by rw[hwb];exact fU w _);have Cn:wb.heap.size=w.heap.size+1:=by rw[hwb];simp
 obtain⟨wm,hmk,hown,hgr⟩:=run_make_full (P:=prog) wb w.heap.size 22 3 i3 _ 1 underlying22 hi3 rQ rS .i64 .i64 N (by rw[hz32];omega) (by unfold maxLen;omega) (by omega);rw[Cn]at hmk hown;rw[hwb]at hmk
 have Ua:=hid (show wm.ownsRow w.heap.size 3 1 (.slice (some ⟨w.heap.size+1,0,none⟩) N N) N (gz (qd a N 0)) by
  have e:(madeCells (Value.int .i64 0).cells (N * 1)).toList=gz (qd a N 0):=by
   rw[Jl,dS]
   have:=toList_madeCells_one (.int .i64 0) N
   simpa[gz,Value.cells] using this
  rw[<-e];exact hown)
 have HFM:=hid (nD.out.trans (Fr.qR hgr));have aaR:=hid (fO qy.out (Fr.qR hgr) af);have HV:=hid hV;have HB:=hid hb;have hsub:((a+N:Nat):Int) - (a:Int)=(N:Int):=by omega
 have ahB:IntKind.i64.wrap (((a+N:Nat):Int) - (a:Int))=(N:Int):=by rw[eT];omega
 have Md:=hid (xR (fun t=>nth V (a+t)) 1000 (by omega) (fun k=>(hb _).2));have HLC:=hid (Ac (fun t=>nth V (a+t)) (fun i=>hb _));clear hown hgr hV hb hR;generalize hab:a+N=b at *;have Ub:=hid hab;clear hab;go_enter func229,ntmps229;go_wp2_with fail;go_loopw [8,9,19] (fun gg ll ii wr=>∃i:Nat,ii=.int .i64 i/\i<=N/\gg=.int .i64 (kD (fun t=>nth V (a+t)) i)/\ll=.int .i64 (kM (fun t=>nth V (a+t)) i)/\Hid (wr.ownsRow w.heap.size 3 1 (.slice (some ⟨w.heap.size+1,0,none⟩) N N) N (gz (qd a N i)))/\Hid (Fr [w.heap.size+1] wm wr)) (fun _ _ ii _=>N - (intOf ii).toNat)
 case atStart=>exact⟨0,rfl,aH _,rfl,rfl,Ua,hid (Fr.refl _ _)⟩
 case round =>
  obtain⟨i,rfl,hiN,rfl,rfl,HO,HF⟩:=hrel;have Ad:=hid (show Fr [] w wr from((HFM.out.mono (fun _ h _=>absurd h af):Fr [w.heap.size+1] w wm).trans HF.out).mono (fun x hx hlt=>by have:=aj.1 hx;omega));have AE:=hid (fO aaR.out HF.out (fun h=>by have:=aj.1 h;omega));by_cases hil:i<N
  ·have sY:(i:Int)<(N:Int):=by omega
   have c0:=HO.out.cellAt i (by omega);rw[kJ (by rw[Mm (by omega)];exact hil)]at c0;have f0:=HO.out.frozenAt i;have v1:=HV.out.fr Ad.out af (a+i) (by have:=Ub.out;omega);have HST:=hid (Mn (a:=a) (N:=N) hil);have HL:=hid (fun(X:World) (hf:Fr [] w X)=>Cm V gV nV cV (a+i) v0 v2 X (by have:=Ub.out;omega) (HV.out.fr hf af) (HB.out _).1);have HT1:=hid (show kD (fun t=>nth V (a+t)) (i+1)=max (kD (fun t=>nth V (a+t)) i) (nth V (a+i))from rfl);have Ww:=hid (show kM (fun t=>nth V (a+t)) (i+1)=if nth V (a+i) % 2=1 then min (kM (fun t=>nth V (a+t)) i) (nth V (a+i))else kM (fun t=>nth V (a+t)) i from rfl);have hvb:=HB.out (a+i);have hai:a+i<nV:=by have:=Ub.out;omega
   have HYX:=hid (show nth V (a+i)=nth V (a+i)from rfl);generalize WC:nth V (a+i)=y at *
   replace HYX:=hid WC
   clear WC;generalize kD (fun t=>nth V (a+t)) i=tt at *;generalize kM (fun t=>nth V (a+t)) i=ll at *;generalize fX (qd a N i) i=z at *;have hsum:(a:Int)+(i:Int)=((a+i:Nat):Int):=by omega
   obtain⟨x,hx⟩:∃x,x=a+i:=⟨_,rfl⟩;rw[<-hx]at v1 HST HL hai hsum HYX;clear hx;have Xm:(x:Int)<(nV:Int):=by omega
   have hgV:=eS _ _ v1;have ajI:gV≠w.heap.size+1:=by have h:=eS _ _ (HV.out 0 (by omega));dsimp only at h;omega
   have hne1:w.heap.size≠w.heap.size+1:=by omega
   have hst:=HO.out.stored i (.int .i64 (x:Nat));obtain⟨W',hW'⟩:∃W',W'=wr.setCell ⟨w.heap.size+1,i,none⟩ (.int .i64 (x:Nat)):=⟨_,rfl⟩;rw[<-hW']at hst;have HO':=hid (show W'.ownsRow w.heap.size 3 1 (.slice (some ⟨w.heap.size+1,0,none⟩) N N) N (gz (qd a N (i+1))) by rw[<-HST.out,<-uO];exact hst.1);have Mp:=hid (show Fr [w.heap.size+1] wm W' by rw[hW'];exact HF.out.set (aj.2 rfl) _);have XB:=hid (show Fr [] w W' by rw[hW'];exact Ad.out.fQ (by omega));have HLc:=hid (HL.out W' XB.out);have aaT:=hid (fO aaR.out Mp.out (fun h=>by have:=aj.1 h;omega));have s0:wr.cell? ⟨w.heap.size,0,none⟩=some v0:=fN AE.out (i:=0) rfl;have s1:wr.cell? ⟨w.heap.size,1,none⟩=some (.slice (some ⟨gV,0,none⟩) nV cV):=fN AE.out (i:=1) rfl;have s2:wr.cell? ⟨w.heap.size,2,none⟩=some v2:=fN AE.out (i:=2) rfl;have ZH:=hid (fun(X:World) (hf:Fr [] w X)=>HV.out.fr hf af x hai);rw[HYX.out]at ZH;rw[hW']at HLc;have HW':=hid hW';clear hW' hst;by_cases hod:y % 2=1
   ·have XC:(y % 2 == 1)=true:=by simp[hod]
    rw[ay hod]at Ww;rw[XC]at HLc;go_wp2_with (first | (go_at_call 105;refine HLc.out.mono ?_;rintro e w1 ⟨rfl,hf1⟩;rw[<-HW'.out]at hf1;have iy:=hid hf1;have s1b:w1.cell? ⟨w.heap.size,1,none⟩=some (.slice (some ⟨gV,0,none⟩) nV cV):=fN (fO aaT.out hf1 af) (i:=1) rfl;have v1b:=ZH.out w1 (XB.out.trans hf1);clear hf1));have kT:=hid (fS HO'.out iy.out);have XD:=hid (Mp.out.trans (iy.out.mono (fun _ h _=>absurd h af)));go_roundw
    case rel=>exact⟨i+1,by go_num,by omega,by rw[HT1.out],by rw[Ww.out],kT,XD⟩
    case measure=>simp[intOf];omega
   ·have XC:(y % 2 == 1)=false:=by simp[hod]
    rw[au hod]at Ww;rw[XC]at HLc;go_wp2_with (first | (go_at_call 105;refine HLc.out.mono ?_;rintro e w1 ⟨rfl,hf1⟩;rw[<-HW'.out]at hf1;have iy:=hid hf1;have s1b:w1.cell? ⟨w.heap.size,1,none⟩=some (.slice (some ⟨gV,0,none⟩) nV cV):=fN (fO aaT.out hf1 af) (i:=1) rfl;have v1b:=ZH.out w1 (XB.out.trans hf1);clear hf1));have kT:=hid (fS HO'.out iy.out);have XD:=hid (Mp.out.trans (iy.out.mono (fun _ h _=>absurd h af)));go_roundw
    case rel=>exact⟨i+1,by go_num,by omega,by rw[HT1.out],by rw[Ww.out],kT,XD⟩
    case measure=>simp[intOf];omega
  ·obtain rfl:i=N:=by omega
   have sY:¬(i:Int)<(i:Int):=by omega
   obtain⟨wk,hwk⟩:∃wk,wk=wr:=⟨_,rfl⟩;subst hwk;rw[Mo]at HO;obtain⟨m,K,hm1,hT,hmL,hK,hRR⟩:∃m K:Nat,1<=m/\kD (fun t=>nth V (a+t)) i=(m:Int)+(K:Int) - 1/\(m:Int)<=kM (fun t=>nth V (a+t)) i/\(0<K->kM (fun t=>nth V (a+t)) i=(m:Int))/\wL (fun x=>nth V x) m K (seg a i)=R:=by
    have h0:=Md.out i
    rcases HLC.out i with⟨h1,h2⟩ | ⟨q,h1,h2,h3⟩
    ·refine⟨(kD (fun t=>nth V (a+t)) i).toNat+1,0,by omega,by omega,by rw[h1];omega,fun h=>absurd h (by omega),?_⟩
     rw[HR.out,wL];exact(P8 (fun x=>nth V x) HB.out a i h2).symm
    ·obtain⟨h4,h5⟩:=Mk (fun x=>nth V x) a i q h2 h3
     refine⟨2 * q+1,(kD (fun t=>nth V (a+t)) i).toNat - 2 * q,by omega,by omega,by rw[h1];omega,fun _=>by rw[h1];omega,?_⟩;rw[HR.out];exact h5.symm
   have XE:=Md.out i;rw[hT]at XE ⊢;generalize kM (fun t=>nth V (a+t)) i=L at *;have HRR:=hid hRR;have HK:=hid hK;clear hRR hK;have HT:=hid hT;clear hT;obtain⟨t0,ht0⟩:∃t0:Int,t0=(m:Int)+(K:Int) - 1:=⟨_,rfl⟩;rw[<-ht0]at XE ⊢;have HT0:=hid ht0;clear ht0;go_wp2_with fail;go_loopw [12] (fun ll wr=>∃(l:Int) (k:Nat) (o:List Nat),ll=.int .i64 l/\0<=l/\l<=1000/\k<=K/\Hid (l=(m:Int)+(k:Int) - 1)/\Hid (wL (fun x=>nth V x) m k o=R)/\Hid (o.Perm (seg a i))/\Hid (wr.ownsRow w.heap.size 3 1 (.slice (some ⟨w.heap.size+1,0,none⟩) i i) i (gz o))/\Hid (Fr [w.heap.size+1] wk wr)) (fun ll _=>(intOf ll).toNat)
   case atStart=>exact⟨t0,K,seg a i,rfl,XE.1,XE.2,ak _,HT0,HRR,hid (List.Perm.refl _),HO,hid (Fr.refl _ _)⟩
   case round =>
    obtain⟨l,k,o,rfl,hl0,hl1,hkK,WD,Ws,XF,iG,f_⟩:=hrel;have XG:=hid (fO AE.out f_.out (fun h=>by have:=aj.1 h;omega));have Uc:=hid (show Fr [] w wr from((Ad.out.mono (fun _ h _=>absurd h af):Fr [w.heap.size+1] w wk).trans f_.out).mono (fun x hx hlt=>by have:=aj.1 hx;omega));by_cases hk0:k=0
    ·subst hk0
     have hlL:¬L<=l:=by have:=WD.out;omega
     have hlD:decide (L<=l)=false:=by simp[hlL]
     have A6:=hid (show wr.ownsRow w.heap.size 3 1 (.slice (some ⟨w.heap.size+1,0,none⟩) i i) i (gz R) by rw[<-Ws.out];exact iG.out);go_wp2;go_ret;exact⟨w.heap.size+1,rfl,A6.out,Uc.out⟩
    ·have hLm:=HK.out (by omega)
     have hlL:L<=l:=by have:=WD.out;omega
     have hl2:1<=l:=by have:=WD.out;omega
     have tI:=hid hLm;clear hLm;have s0:wr.cell? ⟨w.heap.size,0,none⟩=some v0:=fN XG.out (i:=0) rfl;have s1:wr.cell? ⟨w.heap.size,1,none⟩=some (.slice (some ⟨gV,0,none⟩) nV cV):=fN XG.out (i:=1) rfl;have s2:wr.cell? ⟨w.heap.size,2,none⟩=some v2:=fN XG.out (i:=2) rfl;have hol:=XF.out.length_eq;rw[A7]at hol;have Ir:=hid hol;clear hol
     have HTA:=hid (P7 V gV nV cV v0 v2 l o w.heap.size (w.heap.size+1) i i wr Ir.out.symm (by have:=Ub.out;omega) (HV.out.fr Uc.out af) (fun j hj=>by
      obtain⟨t,h1,h2⟩:=Fv (XF.out.mem_iff.1 (kK (l:=o) (k:=j) (by rw[Ir.out];exact hj)))
      rw[h2];have:=Ub.out;omega) iG.out)
     go_wp2_with (first | (go_at_call 249;refine HTA.out.mono ?_;rintro e w1 ⟨rfl,og,hf1⟩;have k9:=hid og;have iO:=hid (f_.out.trans hf1);clear og hf1));go_roundw
     case rel =>
      obtain⟨k',hk'⟩:∃k',k=k'+1:=⟨k - 1,by omega⟩;subst hk';refine⟨l - 1,k',_,rfl,by omega,by omega,by omega,hid (by have:=WD.out;omega),hid ?_,hid ((kX _ o).trans XF.out),k9,iO⟩;have h:=Ws.out;rw[wL]at h;rw[<-h];have e:(fun x=>decide (l<=nth V x))=deep (fun x=>nth V x) (m+k'):=by
       funext x;unfold deep;have:=WD.out
       rw[show((m+k':Nat):Int)=l by omega]
      rw[e]
     case measure=>simp[intOf];omega
theorem P9 (Wd:List Int)(gW nW cW go co N:Nat)(o:List Nat)(v0 v1:Value)(w:World)(hN:N<=1000)(hW:rowAt w gW nW Wd)(hO:BH w go N o)(hin:∀t,t<N->fX o t<nW)(hb:∀k,k<nW->0<=nth Wd k/\nth Wd k<=429496729600) :
 Calls prog 230 #[.agg #[v0,v1,.slice (some ⟨gW,0,none⟩) nW cW],.slice (some ⟨go,0,none⟩) N co] w fun e w'=>∃gx cx,e=.returned (.slice (some ⟨gx,0,none⟩) (N+1) cx)/\w'.ownsRow w.heap.size 2 1 (.slice (some ⟨gx,0,none⟩) (N+1) cx) (N+1) (gu (xs (fun k=>nth Wd k) o N))/\Fr [] w w':=by
 obtain⟨i2,hi2,PM,PN,PO⟩:=e_ Pz;obtain⟨wb,hwb⟩:∃wb,wb=w.alloc (.cells #[v0,v1,.slice (some ⟨gW,0,none⟩) nW cW] 163):=⟨_,rfl⟩;have nD:=hid (show Fr [] w wb by rw[hwb];exact(Fr.refl [] w).alloc _);have qy:=hid (show wb.heap[w.heap.size]?=some (.cells #[v0,v1,.slice (some ⟨gW,0,none⟩) nW cW] 163 (0,0)) by rw[hwb];exact fU w _);have Cn:wb.heap.size=w.heap.size+1:=by rw[hwb];simp
 have HWR:=hid hW;have A6:=hid hO;have Dy:=hid hin;have HBD:=hid hb;have HX0:=hid (by simpa[Cn] using fE (base:=wb.heap.size) (e:=2) (size:=1) wb #[.int .i64 0] 1 (ak _) (by decide) rfl);have Ep:=hid ((Fr.refl [] wb).alloc (.cells #[.int .i64 0] 2));obtain⟨f,hf⟩:∃f:Nat->Int,f=fun k=>nth Wd k:=⟨_,rfl⟩
 rw[<-hf];have Ab:=hid (fun k=>show f k=nth Wd k by rw[hf]);clear hW hO hin hb hf;go_enter func230,ntmps230;go_wp2_with fail;rw[<-hwb];go_loopw [5,11] (fun vx kk wr=>∃(t gx cx:Nat),kk=.int .i64 t/\vx=.slice (some ⟨gx,0,none⟩) (t+1) cx/\t<=N/\Hid (Fr [] wb wr)/\Hid (wr.ownsRow (w.heap.size+1) 2 1 (.slice (some ⟨gx,0,none⟩) (t+1) cx) (t+1) (gu (xs f o t)))) (fun _ kk _=>N - (intOf kk).toNat)
 case atStart=>exact⟨0,w.heap.size+1,1,rfl,rfl,aH _,Ep,HX0⟩
 case round =>
  obtain⟨t,gx,cx,rfl,rfl,htN,XH,Wz⟩:=hrel;have Ad:=hid (nD.out.trans XH.out);by_cases htl:t<N
  ·have T5:(t:Int)<(N:Int):=by omega
   have q2:=A6.out.fr Ad.out af t htl;have q1:wr.cell? ⟨w.heap.size,2,none⟩=some (.slice (some ⟨gW,0,none⟩) nW cW):=fN (fO qy.out XH.out af) (i:=2) rfl;have hyW:=Dy.out t htl;have q3:=HWR.out.fr Ad.out af _ hyW;have q4:=Wz.out.cellAt t (by omega);rw[iJ (by rw[qU];omega),Es f o (ak _)]at q4;have HXS:=hid (KN f o t);have ZF:=hid (Es f o (ak t));have hxb:=uh f 429496729600 o t (fun j hj=>by rw[Ab.out];exact HBD.out _ (Dy.out j (by omega)));have hwd:=HBD.out _ hyW;rw[<-Ab.out]at hwd q3;have hxa:o_ f o t<=429496729600000:=by
    have h5:(t:Int) * 429496729600<=1000 * 429496729600:=b9 (by omega) (by omega);omega
   have hx0:=hxb.1;obtain⟨hw0,hw1⟩:=hwd;clear hxb;generalize o_ f o t=sx at *;generalize f (fX o t)=wd at *;generalize fX o t=y at *;have hyI:(y:Int)<(nW:Int):=by omega
   have hgx:=fZ Wz.out;have aaK:w.heap.size+1<=wr.heap.size:=by omega
   have Ud:=eS _ _ (HWR.out y hyW);have XA:=eS _ _ (A6.out t htl);dsimp only at Ud XA;have aaC:gW≠gx:=by omega
   have aaL:go≠gx:=by omega
   have hbn:w.heap.size≠gx:=by omega
   have htt:(t:Int)<(t:Int)+1:=by omega
   have aeC:IntKind.i64.wrap (sx+wd)=sx+wd:=by rw[eT];omega
   have HKP:=hid (fun(w1' w':World) (hf:Fr [] wr w1') (hg:w1'.grownBy w' (some gx)) (hk:∀j u,(gu (xs f o t))[j]?=some u->w'.cell? ⟨gx,j,none⟩=some u)=>show w'.cell? ⟨w.heap.size,2,none⟩=some (.slice (some ⟨gW,0,none⟩) nW cW)/\w'.cell? ⟨gW,y,none⟩=some (.int .i64 wd)/\w'.cell? ⟨gx,t,none⟩=some (.int .i64 sx)from
    ⟨cell_grown hg (hf.cell q1 af) hbn,cell_grown hg (hf.cell q3 af) aaC,hk t _ (by rw[iJ (by rw[qU];omega),ZF.out])⟩)
   clear Ud XA;have Ud:=eS _ _ q3;have hbl:=eS _ _ q1;dsimp only at Ud hbl;go_wp2_with fail;go_region_held_law (fun w'=>w'.cell? ⟨w.heap.size,2,none⟩=some (.slice (some ⟨gW,0,none⟩) nW cW)/\w'.cell? ⟨gW,y,none⟩=some (.int .i64 wd)/\w'.cell? ⟨gx,t,none⟩=some (.int .i64 sx)) (first | exact uj | go_keep) ((refine Eo rfl (.tmp 16) (.tmp 27) 49 rfl (w.heap.size+1) 2 i2 _ 1 8 underlying49 hi2 PM PN PO rfl (by decide) gx (t+1) cx (gu (xs f o t)) ?q1 ?q2 ⟨wr.heap.size,0,none⟩ 1 1 [.int .i64 (sx+wd)] ?q3 rfl ?q4 (one_cell _) (by unfold maxLen;omega) (by omega) ?q5 ?_;(case q1=>first | rfl | simp[Act.eval]);(case q2=>exact fS Wz.out (Om _ _));(case q3=>first | rfl | simp[Act.eval]);(case q4=>exact iC _ _ _ _ (by simp));(case q5=>simp;omega);intro v' w' hown hgrow hkeep;obtain⟨g',c',hv'⟩:=fR (by omega) hown;subst hv';have Fu:=hid hown;have HG2:=hid hgrow;have uj:=HKP.out _ _ (Om _ _) hgrow hkeep;clear hown hgrow hkeep))
   all_goals (
    have DM:=hid (show Fr [] wb w' from(((XH.out.trans (Om wr (.cells #[.int .i64 (sx+wd)] 2))).mono (fun _ h _=>absurd h af):Fr [gx] wb _).trans (Fr.kI HG2.out)).mono (fun x hx hlt=>by have:=aj.1 hx;omega))
    go_wp2
    go_roundw
    case rel=>exact⟨t+1,g',c',by go_num,rfl,by omega,DM,hid (by rw[HXS.out,<-mh];exact Fu.out)⟩
    case measure=>simp[intOf];omega)
  ·obtain rfl:t=N:=by omega
   have T5:¬(t:Int)<(t:Int):=by omega
   go_wp2;go_ret;exact⟨gx,cx,rfl,gY Wz.out (by omega),Ad.out⟩
open uS
theorem Ue (l:List Int)(x:Int)(g c:Nat)(w:World)(hl:l.length<=1000)(hr:rowAt w g l.length l) :
 Calls prog 95 #[.slice (some ⟨g,0,none⟩) l.length c,.int .i64 x] w fun e w'=>e=.returned (.bool (l.contains x))/\w'=w:=by
 have HR:=hid hr;obtain⟨R,hR⟩:∃R,R=l.contains x:=⟨_,rfl⟩;rw[<-hR];have HRR:=hid hR;obtain⟨n,hn⟩:∃n,n=l.length:=⟨_,rfl⟩;rw[<-hn]at hl HR ⊢;have HN:=hid hn;clear hr hR hn;go_enter func95,ntmps95;go_wp2_with fail;go_loop [5] (fun ii=>∃i:Nat,i<=n/\ii=.int .i64 i/\Hid (∀j,j<i->nth l j≠x)) (fun ii=>n - (intOf ii).toNat)
 case atStart=>exact⟨0,aH _,rfl,hid (fun j hj=>absurd hj (bE _))⟩
 case round =>
  obtain⟨i,hi,rfl,HM⟩:=hrel;by_cases hin:i<n
  ·have c1:=HR.out i hin
   have sY:(i:Int)<(n:Int):=by omega
   by_cases hx:nth l i=x
   ·have HT:=hid (show R=true by
     rw[HRR.out,dN,<-hx,nth,az (by rw[<-HN.out];exact hin)];exact aT _)
    rw[hx]at c1;clear hx;go_wp2;go_ret;exact⟨nF HT.out.symm,rfl⟩
   ·have HX:=hid hx
    have hx':(nth l i == x)=false:=by simp[hx]
    generalize hy:nth l i=y at *;have HY:=hid hy;clear hy;go_wp2;go_round
    case rel=>exact⟨i+1,by omega,by go_num,hid (fun j hj=>by
     rcases aA (aM hj)with h | h
     ·exact HM.out j h
     ·rw[h,HY.out];exact HX.out)⟩
    case measure=>simp[intOf];omega
  ·have HT:=hid (show R=false by
    rw[HRR.out]
    cases h:l.contains x
    ·rfl
    ·rw[dN]at h
     obtain⟨j,hj,e⟩:=bz h
     exact absurd (show nth l j=x by rw[nth,az hj];exact e) (HM.out j (by have:=HN.out;omega)))
   go_wp2;go_ret;exact⟨nF HT.out.symm,rfl⟩
end Go.Proofs.YtnakejhohdbfdaaGreatDoor
namespace Go.Proofs.YtnakejhohdbfdaaGreatDoor.Lay
open Go gJ uS jN Go.Proofs.Tryz
def Et (W:List Int)(n:Nat):Bool:=(List.range n).all fun i=>decide (0<=nth W i) && decide (nth W i<=1073741824)
def jH (B:List Int)(z:Int)(Br:List Int):Nat->Bool
 | 0=>true
 | k+1=>jH B z Br k && (decide ((if k=0 then 0 else nth Br (k - 1))<nth Br k) && (decide (nth Br k<z) && B.contains (nth Br k)))
def early (K:List Int)(P:Nat->Nat)(e:Int):Nat->Bool
 | 0=>false
 | k+1=>early K P e k || (nth K k == 10 && decide (((P k:Nat):Int)<e))
def tu (s:ByteArray)(n:Nat)(K:List Int)(base:Int)(W Br:List Int):Int :=
 if 400<s.size then 1 else if base<0\/2<base then 2 else if W.length≠n\/Et W n=false then 3
 else if jH (bnd s n) s.size Br Br.length=false then 4
 else if early K (pos s) (nth (bnd s n) ((bnd s n).length - 2)) n=true then 5 else 0
theorem Fw {W:List Int}{n:Nat}(h:Et W n=true){i:Nat}(hi:i<n):0<=nth W i/\nth W i<=1073741824:=by
 have:=List.all_eq_true.1 h i (bS.2 hi);simpa using this
theorem KR {W:List Int}{n i:Nat}(hi:i<n)(h:¬(0<=nth W i/\nth W i<=1073741824)):Et W n=false:=by
 cases hw:Et W n
 ·rfl
 ·exact absurd (Fw hw hi) h
theorem KS {W:List Int}{n:Nat}(h:∀i,i<n->0<=nth W i/\nth W i<=1073741824):Et W n=true:=by
 refine List.all_eq_true.2 fun i hi=>?_
 have:=h i (bS.1 hi);simp[this]
theorem zf {B:List Int}{z:Int}{Br:List Int}:∀ {k j:Nat},k<=j->jH B z Br k=false->jH B z Br j=false
 | k,0,h,hf=>by obtain rfl:k=0:=by omega
                exact hf
 | k,j+1,h,hf=>by
   rcases aA h with h1 | h1
   ·rw[jH,zf (by omega) hf,Bool.false_and]
   ·rw[<-h1];exact hf
theorem sS {B:List Int}{z:Int}{Br:List Int}:∀ {k:Nat},jH B z Br k=true->∀j,j<k->(if j=0 then 0 else nth Br (j - 1))<nth Br j/\nth Br j<z/\B.contains (nth Br j)=true
 | 0,_,j,hj=>by omega
 | k+1,h,j,hj=>by
   rw[jH,b7,b7,b7,dJ,dJ]at h
   rcases aA (aM hj)with h1 | h1
   ·exact sS h.1 j h1
   ·rw[h1];exact h.2
theorem Co {K:List Int}{P:Nat->Nat}{e:Int}:∀ {k j:Nat},k<=j->early K P e k=true->early K P e j=true
 | k,0,h,hf=>by obtain rfl:k=0:=by omega
                exact hf
 | k,j+1,h,hf=>by
   rcases aA h with h1 | h1
   ·rw[early,Co (by omega) hf,Bool.true_or]
   ·rw[<-h1];exact hf
end Go.Proofs.YtnakejhohdbfdaaGreatDoor.Lay

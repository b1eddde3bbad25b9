import Derived.Test.YtnakejhohdbfdaaGreatDoorV0

namespace Go.Proofs.YtnakejhohdbfdaaGreatDoor.jN
abbrev nth (xs:List Int)(i:Nat):Int:=xs[i]?.getD 0
abbrev fX (I:List Nat)(k:Nat):Nat:=I[k]?.getD 0
abbrev cl (I:List Nat)(C:List Int)(k:Nat):Int:=nth C (fX I k)
abbrev put (I:List Nat)(C:List Int)(k:Nat)(v:Int):List Int:=C.set (fX I k) v
def j6 (c:Int):Bool:=c == 19 || c == 20 || c == 21
def gone (c:Int):Bool:=c == 9 || c == 14 || c == 15 || c == 16 || c == 17 || c == 18
def dn (c:Int):Int:=if j6 c then 1 else if c=22 then -1 else 0
def mZ:List Int->Nat->Int->Option Nat
 | [],_,_=>none
 | x :: xs,p,n=>if n+dn x=0 then some p else mZ xs (p+1) (n+dn x)
def kP (c:List Int)(i:Nat):Option Nat:=mZ (c.drop i) i 0
def k_ (c:List Int)(to:Nat):Nat->Nat->Bool
 | 0,_=>false
 | f+1,i =>
   if to<=i then false
   else if nth c i=0 then false
   else if nth c i=1\/nth c i=2 then true
   else if j6 (nth c i)then
    match kP c i with
    | none=>false
    | some m=>if to<=m then false else k_ c to f (m+1)
   else k_ c to f (i+1)
def strong (c:List Int)(i to:Nat):Bool:=k_ c to (to - i) i
structure lZ where
 lv:Int
 ov:Int
 l7:Bool
 deriving Inhabited
structure wo where
 st:List lZ
 mi:Nat
 me:Nat
 op:Nat
 C:List Int
 L:List Int
def top (st:List lZ):lZ:=(st[st.length - 1]?).getD default
def jm (K:List Int)(i:Nat):Bool:=if nth K i=21 then strong K (i+1) ((kP K i).getD K.length)else nth K i == 16 || nth K i == 17 || nth K i == 20
def jG (l:Int)(odd:Bool):Int:=if((l+1) % 2 == 1) == odd then l+1 else l+2
def fits (e:wo)(nx:Int):Bool:=decide (nx<=9) && e.mi == 0 && e.me == 0
def hold (e:wo)(i:Nat):wo:={ e with L:=e.L.set i (top e.st).lv,C:=if(top e.st).ov=-1 then e.C else e.C.set i (top e.st).ov }
def DE (c:Int):Int:=if c=17 then 1 else if c=15 then 0 else -1
def lS:Nat->List lZ->List lZ
 | 0,st=>st
 | f+1,st=>if(top st).l7 then st.dropLast else lS f st.dropLast
def begins (c:Int):Bool:=c == 14 || c == 15 || c == 16 || c == 17
def iB (K:List Int)(base:Int)(i:Nat)(e:wo):wo :=
 if begins (nth K i)then
  if fits e (jG (top e.st).lv (jm K i))then { e with st:=e.st++[⟨jG (top e.st).lv (jm K i),DE (nth K i),false⟩] }
  else if e.mi=0 then { e with me:=e.me+1 } else e
 else if j6 (nth K i)then
  if fits e (jG (top e.st).lv (jm K i))then { hold e i with op:=e.op+1,st:=e.st++[⟨jG (top e.st).lv (jm K i),-1,true⟩] }
  else { hold e i with mi:=e.mi+1 }
 else if nth K i=22 then
  hold (if 0<e.mi then { e with mi:=e.mi - 1 } else if 0<e.op then { e with me:=0,st:=lS e.st.length e.st,op:=e.op - 1 } else e) i
 else if nth K i=18 then
  if 0<e.mi then e else if 0<e.me then { e with me:=e.me - 1 }
  else if !(top e.st).l7 && decide (1<e.st.length)then { e with st:=e.st.dropLast } else e
 else if nth K i=10 then { e with L:=e.L.set i base }
 else if nth K i=9 then e
 else hold e i
def gK (K:List Int)(base:Int):Nat->wo
 | 0=>⟨[⟨base,-1,false⟩],0,0,0,K,List.replicate K.length 0⟩
 | k+1=>iB K base k (gK K base k)
def gN (r:List Nat):Nat:=(r[r.length - 1]?).getD 0
def gq (r:List Nat):Nat:=(r[0]?).getD 0
def mU (K L:List Int)(i:Nat)(rs:List (List Nat)):List (List Nat) :=
 if gone (nth K i)then rs
 else if rs=[]then [[i]]
 else if nth L (gN ((rs[rs.length - 1]?).getD []))=nth L i then rs.set (rs.length - 1) ((rs[rs.length - 1]?).getD []++[i])
 else rs++[[i]]
def ig (K L:List Int):Nat->List (List Nat)
 | 0=>[]
 | k+1=>mU K L k (ig K L k)
def follows (K:List Int)(a b:List Nat):Bool:=j6 (nth K (gN a)) && (kP K (gN a) == some (gq b))
abbrev run (rs:List (List Nat))(j:Nat):List Nat:=(rs[j]?).getD []
def jQ (K:List Int)(rs:List (List Nat))(a:List Nat):Nat->Option Nat
 | 0=>none
 | j+1=>if follows K a (run rs j)then some j else jQ K rs a j
def oq (K:List Int)(rs:List (List Nat))(b:List Nat):Nat->Bool
 | 0=>true
 | j+1=>oq K rs b j && !follows K (run rs j) b
def chain (K:List Int)(rs:List (List Nat)):Nat->Nat->List Nat
 | 0,_=>[]
 | f+1,i=>run rs i++(match jQ K rs (run rs i) rs.length with | none=>[] | some j=>chain K rs f j)
def jZ (K:List Int)(rs:List (List Nat)):Nat->List (List Nat)
 | 0=>[]
 | i+1=>if oq K rs (run rs i) rs.length then jZ K rs i++[chain K rs rs.length i]else jZ K rs i
def ny (K:List Int)(rs:List (List Nat)):List (List Nat):=jZ K rs rs.length
structure Sq where
 I:List Nat
 own:Int
 iq:Int
 jR:Int
def way (l:Int):Int:=if l % 2=1 then 1 else 0
def nH (K L:List Int)(base:Int):Nat->Int
 | 0=>base
 | i+1=>if gone (nth K i)then nH K L base i else nth L i
def kr (K L:List Int)(base:Int):Nat->Nat->Int
 | 0,_=>base
 | f+1,j=>if j<K.length then if gone (nth K j)then kr K L base f (j+1)else nth L j else base
def lV (K L:List Int)(base:Int)(I:List Nat):Sq :=
 ⟨I,way (nth L (gq I)),way (max (nth L (gq I)) (nH K L base (gq I))),
  way (max (nth L (gq I)) (if j6 (nth K (gN I))then base else kr K L base K.length (gN I+1)))⟩
def ah (s:Sq)(C:List Int)(k:Nat):Int:=if k=0 then s.iq else cl s.I C (k - 1)
def tE (s:Sq)(C:List Int)(k:Nat):Int:=if k<s.I.length then cl s.I C k else s.jR
def iQ (K:List Int)(s:Sq)(C:List Int)(k:Nat):List Int :=
 if cl s.I C k=8 then put s.I C k (if 0<k/\(j6 (cl s.I K (k - 1))=true\/cl s.I K (k - 1)=22)then 13 else ah s C k)else C
def gQ (K:List Int)(s:Sq):Nat->List Int->List Int
 | 0,C=>C
 | k+1,C=>iQ K s (gQ K s k C) k
def iW (I:List Nat)(al:Bool)(letter to:Int)(q:Int × List Int)(k:Nat):Int × List Int :=
 if cl I q.2 k=0\/cl I q.2 k=1\/(al=true/\cl I q.2 k=2)then(cl I q.2 k,q.2)
 else if cl I q.2 k=3/\q.1=letter then(q.1,put I q.2 k to)else q
def iw (I:List Nat)(al:Bool)(letter to:Int):Nat->Int × List Int->Int × List Int
 | 0,q=>q
 | k+1,q=>iW I al letter to (iw I al letter to k q) k
def nJ (I:List Nat)(C:List Int)(k:Nat):List Int:=if cl I C k=2 then put I C k 1 else C
def mP (I:List Nat):Nat->List Int->List Int
 | 0,C=>C
 | k+1,C=>nJ I (mP I k C) k
def jX (s:Sq)(C:List Int)(k:Nat):List Int :=
 if ah s C k=tE s C (k+1)/\((ah s C k=3/\(cl s.I C k=4\/cl s.I C k=7))\/(ah s C k=6/\cl s.I C k=7))then put s.I C k (ah s C k)else C
def ku (s:Sq):Nat->List Int->List Int
 | 0,C=>C
 | k+1,C=>jX s (ku s k C) k
def iE (I:List Nat)(a:Nat)(v:Int):Nat->List Int->List Int
 | 0,C=>C
 | d+1,C=>put I (iE I a v d C) (a+d) v
def lD (I:List Nat)(fit:Int->Bool)(act:Nat->Nat->List Int->List Int)(q:Nat × List Int)(k:Nat):Nat × List Int :=
 if fit (cl I q.2 k)then q else(k+1,if q.1<k then act q.1 k q.2 else q.2)
def jg (I:List Nat)(fit:Int->Bool)(act:Nat->Nat->List Int->List Int):Nat->Nat × List Int->Nat × List Int
 | 0,q=>q
 | k+1,q=>lD I fit act (jg I fit act k q) k
def qF (I:List Nat)(act:Nat->Nat->List Int->List Int)(q:Nat × List Int):List Int:=if q.1<I.length then act q.1 I.length q.2 else q.2
def scan (I:List Nat)(fit:Int->Bool)(act:Nat->Nat->List Int->List Int)(C:List Int):List Int:=qF I act (jg I fit act I.length (0,C))
def qm (c:Int):Bool:=c == 5
def kA (s:Sq)(a b:Nat)(C:List Int):List Int:=if ah s C a=3\/tE s C b=3 then iE s.I a 3 (b - a) C else C
def jY (I:List Nat)(C:List Int)(k:Nat):List Int:=if cl I C k=4\/cl I C k=5\/cl I C k=7 then put I C k 13 else C
def iL (I:List Nat):Nat->List Int->List Int
 | 0,C=>C
 | k+1,C=>jY I (iL I k C) k
def weak (K:List Int)(s:Sq)(C:List Int):List Int :=
 (iw s.I false 0 0 s.I.length (s.iq,iL s.I s.I.length (scan s.I qm (kA s) (ku s s.I.length (mP s.I s.I.length
   (iw s.I true 2 6 s.I.length (s.iq,gQ K s s.I.length C)).2))))).2
def opens (r:Int):Bool:=r == 40 || r == 91 || r == 123 || r == 12296 || r == 12298
def shuts (r:Int):Int:=if r=41 then 40 else if r=93 then 91 else if r=125 then 123 else if r=12297 then 12296 else if r=12299 then 12298 else 0
def lT (R:List Int)(I:List Nat)(st:List Nat)(c:Int):Nat->Option Nat
 | 0=>none
 | j+1=>if cl I R (fX st j)=c then some j else lT R I st c j
structure Xi where
 st:List Nat
 out:List (Nat × Nat)
 stop:Bool
def su (p:Nat × Nat):List (Nat × Nat)->List (Nat × Nat)
 | []=>[p]
 | q :: r=>if q.1<p.1 then q :: su p r else p :: q :: r
def jh (R:List Int)(I:List Nat)(C:List Int)(k:Nat)(p:Xi):Xi :=
 if p.stop then p
 else if cl I C k≠13 then p
 else if opens (cl I R k)then if p.st.length=8 then { p with stop:=true } else { p with st:=p.st++[k] }
 else if shuts (cl I R k)=0 then p
 else match lT R I p.st (shuts (cl I R k)) p.st.length with
  | none=>p
  | some j=>{ p with st:=p.st.take j,out:=su (fX p.st j,k) p.out }
def gF (R:List Int)(I:List Nat)(C:List Int):Nat->Xi
 | 0=>⟨[],[],false⟩
 | k+1=>jh R I C k (gF R I C k)
def side (c:Int):Int:=if c=0 then 0 else if c=1\/c=3\/c=6 then 1 else -1
def je (f:Nat->Bool)(a:Nat):Nat->Bool
 | 0=>false
 | d+1=>je f a d || f (a+d)
def iH (s:Sq)(C:List Int):Nat->Int
 | 0=>side s.iq
 | k+1=>if 0<=side (cl s.I C k)then side (cl s.I C k)else iH s C k
def lW (K:List Int)(I:List Nat)(v:Int):Nat->Nat->List Int->List Int
 | 0,_,C=>C
 | f+1,j,C=>if j<I.length/\cl I K j=8 then lW K I v f (j+1) (put I C j v)else C
def become (K:List Int)(I:List Nat)(k:Nat)(v:Int)(C:List Int):List Int:=lW K I v I.length (k+1) (put I C k v)
def nK (K:List Int)(s:Sq)(p:Nat × Nat)(C:List Int):List Int :=
 if je (fun k=>side (cl s.I C k) == s.own) (p.1+1) (p.2 - (p.1+1))then become K s.I p.2 s.own (become K s.I p.1 s.own C)
 else if je (fun k=>decide (0<=side (cl s.I C k))) (p.1+1) (p.2 - (p.1+1))then become K s.I p.2 (iH s C p.1) (become K s.I p.1 (iH s C p.1) C)
 else C
def jH (K:List Int)(s:Sq)(ps:List (Nat × Nat)):Nat->List Int->List Int
 | 0,C=>C
 | i+1,C=>nK K s ((ps[i]?).getD (0,0)) (jH K s ps i C)
def brackets (R K:List Int)(s:Sq)(C:List Int):List Int:=jH K s (gF R s.I C s.I.length).out (gF R s.I C s.I.length).out.length C
def isNe (c:Int):Bool:=decide (side c<0)
def kH (s:Sq)(a b:Nat)(C:List Int):List Int:=iE s.I a (if side (ah s C a)=side (tE s C b)then side (ah s C a)else s.own) (b - a) C
def neutral (s:Sq)(C:List Int):List Int:=scan s.I isNe (kH s) C
def rules (R K:List Int)(s:Sq)(C:List Int):List Int:=neutral s (brackets R K s (weak K s C))
def iI (R K L:List Int)(base:Int)(ss:List (List Nat)):Nat->List Int->List Int
 | 0,C=>C
 | i+1,C=>rules R K (lV K L base (run ss i)) (iI R K L base ss i C)
def up (l c:Int):Int:=if l % 2=1 then(if c=0\/c=3\/c=6 then 1 else 0)else(if c=1 then 1 else if c=3\/c=6 then 2 else 0)
def gU (K C:List Int)(base:Int):Nat->List Int->Int × List Int
 | 0,L=>(base,L)
 | i+1,L =>
   let q:=gU K C base i L
   if gone (nth K i)then(q.1,q.2.set i q.1)else(nth q.2 i+up (nth q.2 i) (nth C i),q.2.set i (nth q.2 i+up (nth q.2 i) (nth C i)))
def gS (K:List Int)(b:Int):Int:=if b=2 then(if strong K 0 K.length then 1 else 0)else b
def levels (R K:List Int)(base:Int):List Int :=
 let e:=gK K base K.length
 let rs:=ig K e.L K.length
 (gU K (iI R K e.L base (ny K rs) (ny K rs).length e.C) base K.length e.L).2
end Go.Proofs.YtnakejhohdbfdaaGreatDoor.jN
namespace Go.Proofs.YtnakejhohdbfdaaGreatDoor.jN
def inj (I:List Nat):Prop:=∀j k,j<I.length->k<I.length->fX I j=fX I k->j=k
theorem pW (l:List Int)(i:Nat)(v:Int)(j:Nat):nth (l.set i v) j=if j=i/\i<l.length then v else nth l j:=by
 unfold nth;by_cases h:j=i
 ·subst h
  by_cases h2:j<l.length
  ·rw[ay ⟨rfl,h2⟩,aQ h2];rfl
  ·rw[au (fun x=>h2 x.2),bq (by simp;omega),bq (by omega)]
 ·rw[au (fun x=>h x.1),aU (fun e=>h e.symm)]
theorem pF {I:List Nat}(hI:inj I)(C:List Int){j k:Nat}(v:Int)(hj:j<I.length)(hk:k<I.length)(h:j≠k):cl I (put I C j v) k=cl I C k:=by
 unfold cl put;rw[pW,au];intro x;exact h (hI j k hj hk x.1.symm)
theorem mQ {I:List Nat}(hI:inj I)(a:Nat)(v:Int)(C:List Int){k:Nat}(hk:k<I.length):∀d,a+d<=I.length->(k<a\/a+d<=k)->cl I (iE I a v d C) k=cl I C k
 | 0,_,_=>rfl
 | d+1,hd,h=>by
   rw[iE,pF hI _ v (show a+d<I.length by omega) hk (by omega)];exact mQ hI a v C hk d (by omega) (by omega)
def qG (I:List Nat)(fit:Int->Bool)(act:Nat->Nat->List Int->List Int)(C0:List Int)(k:Nat)(C:List Int):Prop :=
 jg I fit act k (0,C0)=(k,C) \/
 ∃a Cp,a<k/\jg I fit act k (0,C0)=(a,Cp)/\C=act a k Cp/\(k=I.length\/fit (cl I Cp k)=false)
theorem F0 (I:List Nat)(fit:Int->Bool)(act:Nat->Nat->List Int->List Int)(C0:List Int):qG I fit act C0 0 C0:=.inl rfl
theorem Kn {I:List Nat}{fit:Int->Bool}{act:Nat->Nat->List Int->List Int}{C0 C:List Int}{k:Nat}(hk:k<I.length)(hf:fit (cl I C k)=false)(h:qG I fit act C0 k C):qG I fit act C0 (k+1) C:=by
 refine .inl ?_
 rcases h with h | ⟨a,Cp,ha,h,rfl,h2⟩
 ·rw[jg,h,lD,au (by rw[hf];exact aE),au (by omega)]
 ·have h3:fit (cl I Cp k)=false:=by rcases h2 with h2 | h2;omega;exact h2
  rw[jg,h,lD,au (by rw[h3];exact aE),ay ha]
theorem Ko (I:List Nat)(fit:Int->Bool)(act:Nat->Nat->List Int->List Int)(q:Nat × List Int)(a:Nat)(C:List Int)(k:Nat)(h:jg I fit act k q=(a,C)):∀d,(∀j,k<=j->j<k+d->fit (cl I C j)=true)->jg I fit act (k+d) q=(a,C)
 | 0,_=>h
 | d+1,hf=>by
   rw[<-eC,jg,Ko I fit act q a C k h d (fun j h1 h2=>hf j h1 (by omega)),lD,ay (hf (k+d) (by omega) (by omega))]
theorem E2 {I:List Nat}{fit:Int->Bool}{act:Nat->Nat->List Int->List Int}{C0 C:List Int}{k e:Nat}(hact:∀a k C,a<k->k<I.length->cl I (act a k C) k=cl I C k)
 (hk:k<e) (he:e<=I.length) (hf:∀j,k<=j->j<e->fit (cl I C j)=true) (hx:e=I.length\/fit (cl I C e)=false) (h:qG I fit act C0 k C):qG I fit act C0 e (act k e C):=by
 have h0:jg I fit act k (0,C0)=(k,C):=by
  rcases h with h | ⟨a,Cp,ha,h,rfl,h2⟩
  ·exact h
  ·exfalso
   have h3:fit (cl I Cp k)=false:=by rcases h2 with h2 | h2;omega;exact h2
   have h4:=hf k (ak _) hk;rw[hact a k Cp ha (by omega),h3]at h4;cases h4
 refine .inr ⟨k,C,hk,?_,rfl,hx⟩;have:=Ko I fit act (0,C0) k C k h0 (e - k) (fun j h1 h2=>hf j h1 (by omega))
 rwa [show k+(e - k)=e by omega]at this
theorem OC {I:List Nat}{fit:Int->Bool}{act:Nat->Nat->List Int->List Int}{C0 C:List Int}(h:qG I fit act C0 I.length C):scan I fit act C0=C:=by
 unfold scan
 rcases h with h | ⟨a,Cp,ha,h,rfl,h2⟩
 ·rw[h,qF,au (by simp)]
 ·rw[h,qF,ay ha]
theorem OD {s:Sq}(hI:inj s.I)(a k:Nat)(C:List Int)(hak:a<k)(hk:k<s.I.length):cl s.I (kA s a k C) k=cl s.I C k:=by
 unfold kA;by_cases h:ah s C a=3\/tE s C k=3
 ·rw[ay h];exact mQ hI a 3 C hk (k - a) (by omega) (by omega)
 ·rw[au h]
theorem F1 {s:Sq}(hI:inj s.I)(a k:Nat)(C:List Int)(hak:a<k)(hk:k<s.I.length):cl s.I (kH s a k C) k=cl s.I C k:=by
 unfold kH;exact mQ hI a _ C hk (k - a) (by omega) (by omega)
end Go.Proofs.YtnakejhohdbfdaaGreatDoor.jN
namespace Go.Proofs.YtnakejhohdbfdaaGreatDoor.jN
def gy (K:List Int):Nat->List Nat
 | 0=>[]
 | k+1=>if j6 (nth K k)then k :: gy K k else if nth K k=22 then(gy K k).tail else gy K k
def partAt (K:List Int):Nat->Nat->Option Nat
 | 0,_=>none
 | k+1,i=>if j6 (nth K k)=false/\nth K k=22/\(gy K k)[0]?=some i then some k else partAt K k i
theorem lg (K:List Int)(k:Nat)(n:Int)(h:k<K.length):mZ (K.drop k) k n=if n+dn (nth K k)=0 then some k else mZ (K.drop (k+1)) (k+1) (n+dn (nth K k)):=by
 rw[cA h,mZ];simp[nth,az h]
theorem oS:∀(c:List Int) (p:Nat) (n:Int) (m:Nat),mZ c p n=some m->p<=m
 | [],_,_,_,h=>by cases h
 | x :: xs,p,n,m,h=>by
   rw[mZ]at h;by_cases h0:n+dn x=0
   ·rw[ay h0]at h;cases h;exact ak _
   ·rw[au h0]at h;have:=oS xs (p+1) _ m h;omega
theorem Lm {c:Int}(h:j6 c=true):c≠22:=by intro e;subst e;cases h
structure Tw (K:List Int)(k:Nat):Prop where
 op:∀d i:Nat,(gy K k)[d]?=some i->j6 (nth K i)=true/\i<k/\kP K i=mZ (K.drop k) k ((d:Int)+1)/\partAt K k i=none
 cl:∀i,i<k->j6 (nth K i)=true->(∃d:Nat,(gy K k)[d]?=some i)\/(∃j,partAt K k i=some j/\kP K i=some j)
 no:∀i,partAt K k i≠none->i<k/\j6 (nth K i)=true
theorem xH (K:List Int):∀k,k<=K.length->Tw K k
 | 0,_=>⟨fun d i h=>by simp[gy]at h,fun i h=>by omega,fun i h=>absurd rfl h⟩
 | k+1,hk=>by
   have ih:=xH K k (by omega);have hkl:k<K.length:=by omega
   cases hi:j6 (nth K k)
   ·by_cases h22:nth K k=22
    · -- a PDI
      have hd:dn (nth K k)=-1:=by rw[dn,hi,h22];simp
      have ho:gy K (k+1)=(gy K k).tail:=by rw[gy,hi,au aE,ay h22]
      have hp:∀i,partAt K (k+1) i=if(gy K k)[0]?=some i then some k else partAt K k i:=by
       intro i;rw[partAt];by_cases h:(gy K k)[0]?=some i
       ·rw[ay ⟨hi,h22,h⟩,ay h]
       ·rw[au (fun x=>h x.2.2),au h]
      have hdist:∀d i:Nat,(gy K k)[d+1]?=some i->(gy K k)[0]?≠some i:=by
       intro d i h1 h0;have a:=(ih.op (d+1) i h1).2.2.1;have b:=(ih.op 0 i h0).2.2.1;rw[lg K k _ hkl,hd]at a b;rw[b]at a;rw[ay (by omega),au (by omega)]at a;have:=oS (K.drop (k+1)) (k+1) _ k a.symm;omega
      refine⟨fun d i h=>?_,fun i hik hin=>?_,fun i h=>?_⟩
      ·rw[ho,eA]at h
       obtain⟨h1,h2,h3,h4⟩:=ih.op (d+1) i h;refine⟨h1,by omega,?_,?_⟩
       ·rw[h3,lg K k _ hkl,hd,au (by omega)];congr 1;omega
       ·rw[hp,au (hdist d i h)];exact h4
      ·rcases aA (aM hik)with h | h
       ·rcases ih.cl i h hin with⟨d,hd'⟩ | ⟨j,hj1,hj2⟩
        ·cases d with
         | zero =>
           refine .inr ⟨k,by rw[hp,ay hd'],?_⟩;rw[(ih.op 0 i hd').2.2.1,lg K k _ hkl,hd,ay (by omega)]
         | succ d=>exact .inl ⟨d,by rw[ho,eA];exact hd'⟩
        ·refine .inr ⟨j,?_,hj2⟩
         rw[hp,au];exact hj1;intro h0;have:=(ih.op 0 i h0).2.2.2;rw[hj1]at this;cases this
       ·subst h;rw[hi]at hin;cases hin
      ·rw[hp]at h
       by_cases h0:(gy K k)[0]?=some i
       ·have:=ih.op 0 i h0;exact⟨by omega,this.1⟩
       ·rw[au h0]at h;have:=ih.no i h;exact⟨by omega,this.2⟩
    ·have hd:dn (nth K k)=0:=by rw[dn,hi,au aE,au h22]
     have ho:gy K (k+1)=gy K k:=by rw[gy,hi,au aE,au h22]
     have hp:∀i,partAt K (k+1) i=partAt K k i:=fun i=>by rw[partAt,au (fun x=>h22 x.2.1)]
     refine⟨fun d i h=>?_,fun i hik hin=>?_,fun i h=>?_⟩
     ·rw[ho]at h
      obtain⟨h1,h2,h3,h4⟩:=ih.op d i h;exact⟨h1,by omega,by rw[h3,lg K k _ hkl,hd,au (by omega)] <;> (congr 1 <;> omega),by rw[hp];exact h4⟩
     ·rcases aA (aM hik)with h | h
      ·rcases ih.cl i h hin with⟨d,hd'⟩ | ⟨j,hj1,hj2⟩
       ·exact .inl ⟨d,by rw[ho];exact hd'⟩
       ·exact .inr ⟨j,by rw[hp];exact hj1,hj2⟩
      ·subst h;rw[hi]at hin;cases hin
     ·rw[hp]at h;have:=ih.no i h;exact⟨by omega,this.2⟩
   ·have hd:dn (nth K k)=1:=by rw[dn,hi];rfl
    have ho:gy K (k+1)=k :: gy K k:=by rw[gy,hi];rfl
    have hp:∀i,partAt K (k+1) i=partAt K k i:=fun i=>by rw[partAt,au (fun x=>by rw[hi]at x;cases x.1)]
    have hk0:partAt K k k=none:=by
     cases h:partAt K k k with
     | none=>rfl
     | some j=>have:=ih.no k (by rw[h];simp);omega
    refine⟨fun d i h=>?_,fun i hik hin=>?_,fun i h=>?_⟩
    ·rw[ho]at h
     cases d with
     | zero =>
       simp at h;subst h;refine⟨hi,by omega,?_,by rw[hp];exact hk0⟩;rw[kP,lg K k _ hkl,hd,au (by omega)];congr 1
     | succ d =>
       simp at h;obtain⟨h1,h2,h3,h4⟩:=ih.op d i h;exact⟨h1,by omega,by rw[h3,lg K k _ hkl,hd,au (by omega)] <;> (congr 1 <;> omega),by rw[hp];exact h4⟩
    ·rcases aA (aM hik)with h | h
     ·rcases ih.cl i h hin with⟨d,hd'⟩ | ⟨j,hj1,hj2⟩
      ·exact .inl ⟨d+1,by rw[ho];simpa using hd'⟩
      ·exact .inr ⟨j,by rw[hp];exact hj1,hj2⟩
     ·subst h;exact .inl ⟨0,by rw[ho];rfl⟩
    ·rw[hp]at h;have:=ih.no i h;exact⟨by omega,this.2⟩
theorem pO (K:List Int)(i:Nat)(hi:i<K.length):partAt K K.length i=if j6 (nth K i)then kP K i else none:=by
 have h:=xH K K.length (ak _);cases hn:j6 (nth K i)
 ·rw[au aE]
  cases hp:partAt K K.length i with
  | none=>rfl
  | some j=>have:=(h.no i (by rw[hp];simp)).2;rw[hn]at this;cases this
 ·rw[ay rfl]
  rcases h.cl i hi hn with⟨d,hd⟩ | ⟨j,hj1,hj2⟩
  ·obtain⟨_,_,h3,h4⟩:=h.op d i hd
   rw[h4,h3,List.drop_length];rfl
  ·rw[hj1,hj2]
theorem pX (p q:Nat × Nat):∀l,q∈su p l ↔ q=p\/q∈l
 | []=>by simp[su]
 | x :: r=>by
   rw[su];by_cases h:x.1<p.1
   ·rw[ay h,bK,pX p q r,bK]
    constructor
    ·rintro (h | h | h)
     ·exact .inr (.inl h)
     ·exact .inl h
     ·exact .inr (.inr h)
    ·rintro (h | h | h)
     ·exact .inr (.inl h)
     ·exact .inl h
     ·exact .inr (.inr h)
   ·rw[au h,bK]
theorem Bo (p:Nat × Nat):∀l,(su p l).length=l.length+1
 | []=>rfl
 | x :: r=>by
   rw[su];by_cases h:x.1<p.1
   ·rw[ay h,bO,Bo p r,bO]
   ·rw[au h,bO]
theorem zR (p:Nat × Nat):∀l:List (Nat × Nat),l.Pairwise (fun a b=>a.1<b.1)->(∀q∈l,q.1≠p.1)->(su p l).Pairwise (fun a b=>a.1<b.1)
 | [],_,_=>by simp[su]
 | x :: r,hs,hn=>by
   rw[dQ]at hs;rw[su];by_cases h:x.1<p.1
   ·rw[ay h,dQ]
    refine⟨fun q hq=>?_,zR p r hs.2 (fun q hq=>hn q (cP _ hq))⟩
    rcases(pX p q r).1 hq with e | e
    ·subst e;exact h
    ·exact hs.1 q e
   ·rw[au h,dQ]
    have hx:=hn x bA;refine⟨fun q hq=>?_,dQ.2 hs⟩
    rcases bK.1 hq with e | e
    ·subst e;omega
    ·have:=hs.1 q e;omega
theorem D5 (R:List Int)(I:List Nat)(st:List Nat)(c:Int):∀m j,lT R I st c m=some j->j<m
 | 0,j,h=>by cases h
 | m+1,j,h=>by
   rw[lT]at h;by_cases h1:cl I R (fX st m)=c
   ·rw[ay h1]at h;cases h;omega
   ·rw[au h1]at h;have:=D5 R I st c m j h;omega
structure Bp (p:Xi)(k:Nat):Prop where
 st:∀x∈p.st,x<k
 up:p.st.Pairwise (· < ·)
 out:∀x∈p.out,x.1<x.2/\x.2<k
 so:p.out.Pairwise (fun a b=>a.1<b.1)
 dj:∀x∈p.out,x.1 ∉ p.st
 len:p.out.length<=k
 ln8:p.st.length<=8
theorem Bp.mono {p:Xi}{k:Nat}(h:Bp p k):Bp p (k+1) :=
 ⟨fun x hx=>Nat.lt_succ_of_lt (h.st x hx),h.up,fun x hx=>⟨(h.out x hx).1,Nat.lt_succ_of_lt (h.out x hx).2⟩,h.so,h.dj,Nat.le_succ_of_le h.len,h.ln8⟩
theorem gZ {st:List Nat}{j:Nat}(h:j<st.length):fX st j=st[j]:=by simp[fX,az h]
theorem uF (R:List Int)(I:List Nat)(C:List Int):∀k,Bp (gF R I C k) k
 | 0=>⟨by simp[gF],by simp[gF],by simp[gF],by simp[gF],by simp[gF],by simp[gF],by simp[gF]⟩
 | k+1=>by
   have ih:=uF R I C k;rw[gF];generalize gF R I C k=p at *;unfold jh;by_cases h1:p.stop=true
   ·rw[ay h1];exact ih.mono
   rw[au h1];by_cases h2:cl I C k≠13
   ·rw[ay h2];exact ih.mono
   rw[au h2];by_cases h3:opens (cl I R k)=true
   ·rw[ay h3]
    by_cases h4:p.st.length=8
    ·rw[ay h4]
     exact⟨ih.mono.st,ih.up,ih.mono.out,ih.so,ih.dj,ih.mono.len,ih.ln8⟩
    ·rw[au h4]
     refine⟨fun x hx=>?_,?_,ih.mono.out,ih.so,fun x hx=>?_,ih.mono.len,?_⟩
     ·rcases bD.1 hx with h | h
      ·exact Nat.lt_succ_of_lt (ih.st x h)
      ·rw[aj.1 h];exact bJ _
     ·rw[dI]
      exact⟨ih.up,by simp,fun a ha b hb=>by rw[aj.1 hb];exact ih.st a ha⟩
     ·intro hm
      rcases bD.1 hm with h | h
      ·exact ih.dj x hx h
      ·have:=ih.out x hx;have:=aj.1 h;omega
     ·have:=ih.ln8;simp;omega
   rw[au h3];by_cases h5:shuts (cl I R k)=0
   ·rw[ay h5];exact ih.mono
   rw[au h5];cases hf:lT R I p.st (shuts (cl I R k)) p.st.length with
   | none=>exact ih.mono
   | some j =>
     have hj:=D5 _ _ _ _ _ _ hf;have hjm:fX p.st j∈p.st:=by rw[gZ hj];exact aT hj
     refine⟨fun x hx=>Nat.lt_succ_of_lt (ih.st x (eF hx)),ih.up.sublist (List.take_sublist _ _),fun x hx=>?_,?_,fun x hx=>?_,?_,?_⟩
     ·rcases(pX _ x _).1 hx with e | e
      ·subst e;exact⟨ih.st _ hjm,bJ _⟩
      ·exact ih.mono.out x e
     ·refine zR _ _ ih.so (fun q hq e=>?_)
      have:=ih.dj q hq;rw[e]at this;exact this hjm
     ·intro hm
      rcases(pX _ x _).1 hx with e | e
      ·subst e
       -- the one that is shut does not stay
       obtain⟨t,ht,hte⟩:=bz hm;have ht2:t<j:=by rw[aP]at ht;omega
       rw[List.getElem_take]at hte;have:=bn.1 ih.up t j (by omega) hj ht2;rw[hte,<-gZ hj]at this;exact absurd this (Nat.lt_irrefl _)
      ·exact ih.dj x e (eF hm)
     ·rw[Bo];have:=ih.len;omega
     ·rw[aP];have:=ih.ln8;omega
theorem Bq (R:List Int)(I:List Nat)(C:List Int)(i:Nat)(h:i<(gF R I C I.length).out.length) :
 (((gF R I C I.length).out[i]?).getD (0,0)).1<(((gF R I C I.length).out[i]?).getD (0,0)).2/\(((gF R I C I.length).out[i]?).getD (0,0)).2<I.length:=by
 rw[az h];exact(uF R I C I.length).out _ (aT h)
end Go.Proofs.YtnakejhohdbfdaaGreatDoor.jN
namespace Go.Proofs.YtnakejhohdbfdaaGreatDoor.jN
def Among (P:Int->Prop)(I:List Nat)(C:List Int)(k:Nat):Prop:=∀j,j<k->P (cl I C j)
theorem E3 (I:List Nat)(C:List Int)(k j:Nat)(v:Int):cl I (put I C k v) j=v\/cl I (put I C k v) j=cl I C j:=by
 unfold cl put;rw[pW];by_cases h:fX I j=fX I k/\fX I k<C.length
 ·rw[ay h];exact .inl rfl
 ·rw[au h];exact .inr rfl
theorem Among.put {P:Int->Prop}{I:List Nat}{C:List Int}{n:Nat}(h:Among P I C n)(k:Nat){v:Int}(hv:P v):Among P I (put I C k v) n:=by
 intro j hj
 rcases E3 I C k j v with e | e
 ·rw[e];exact hv
 ·rw[e];exact h j hj
theorem Among.mono {P Q:Int->Prop}{I:List Nat}{C:List Int}{n:Nat}(h:Among P I C n)(hPQ:∀c,P c->Q c):Among Q I C n:=fun j hj=>hPQ _ (h j hj)
theorem lu (I:List Nat)(C:List Int)(k:Nat)(v:Int):(put I C k v).length=C.length:=by simp
theorem oU {I:List Nat}{C:List Int}{k:Nat}(v:Int)(h:fX I k<C.length):cl I (put I C k v) k=v:=by
 unfold cl put;rw[pW,ay ⟨rfl,h⟩]
def S0 (c:Int):Prop:=c=0\/c=1\/c=2\/c=3\/c=4\/c=5\/c=6\/c=7\/c=8\/c=10\/c=11\/c=12\/c=13\/c=19\/c=20\/c=21\/c=22
def S1 (c:Int):Prop:=S0 c/\c≠8
def S2 (c:Int):Prop:=S1 c/\c≠2
def S3 (c:Int):Prop:=S2 c/\c≠4/\c≠5/\c≠7
def within (I:List Nat)(C:List Int):Prop:=∀k,k<I.length->fX I k<C.length
theorem within.of {I:List Nat}{C C':List Int}(h:within I C)(e:C'.length=C.length):within I C':=fun k hk=>by rw[e];exact h k hk
theorem pP (K:List Int)(s:Sq)(C:List Int):∀k,(gQ K s k C).length=C.length
 | 0=>rfl
 | k+1=>by
   rw[gQ,iQ];split
   ·rw[lu];exact pP K s C k
   ·exact pP K s C k
theorem E4 {K:List Int}{s:Sq}{C:List Int}(hb:s.iq=0\/s.iq=1)(hw:within s.I C)(h:Among S0 s.I C s.I.length):∀k,k<=s.I.length->Among S0 s.I (gQ K s k C) s.I.length/\Among S1 s.I (gQ K s k C) k
 | 0,_=>⟨h,fun j hj=>by omega⟩
 | k+1,hk=>by
   obtain⟨h0,h1⟩:=E4 hb hw h k (by omega);rw[gQ,iQ];by_cases h8:cl s.I (gQ K s k C) k=8
   ·rw[ay h8]
    have hv:S1 (if 0<k/\(j6 (cl s.I K (k - 1))=true\/cl s.I K (k - 1)=22)then 13 else ah s (gQ K s k C) k):=by
     by_cases hc:0<k/\(j6 (cl s.I K (k - 1))=true\/cl s.I K (k - 1)=22)
     ·rw[ay hc];exact⟨by unfold S0;omega,by omega⟩
     ·rw[au hc,ah]
      by_cases hk0:k=0
      ·rw[ay hk0];exact⟨by unfold S0;omega,by omega⟩
      ·rw[au hk0];exact h1 (k - 1) (by omega)
    refine⟨h0.put k hv.1,fun j hj=>?_⟩
    rcases aA (aM hj)with hj2 | hj2
    ·rcases E3 s.I (gQ K s k C) k j _ with e | e
     ·rw[e];exact hv
     ·rw[e];exact h1 j hj2
    ·subst hj2
     rw[oU _ (by rw[pP];exact hw j (by omega))];exact hv
   ·rw[au h8]
    refine⟨h0,fun j hj=>?_⟩
    rcases aA (aM hj)with hj2 | hj2
    ·exact h1 j hj2
    ·subst hj2;exact⟨h0 j (by omega),h8⟩
theorem Bt {P:Int->Prop}{I:List Nat}{al:Bool}{letter v:Int}(hv:P v){q:Int × List Int}(h:Among P I q.2 I.length):∀k,Among P I (iw I al letter v k q).2 I.length
 | 0=>h
 | k+1=>by
   have ih:=Bt (al:=al) (letter:=letter) hv h k;rw[iw,iW];split
   ·exact ih
   ·split
    ·exact ih.put k hv
    ·exact ih
theorem q9 (I:List Nat)(al:Bool)(letter v:Int)(q:Int × List Int):∀k,(iw I al letter v k q).2.length=q.2.length
 | 0=>rfl
 | k+1=>by
   have ih:=q9 I al letter v q k;rw[iw,iW];split
   ·exact ih
   ·split
    ·rw[lu];exact ih
    ·exact ih
theorem Kq {I:List Nat}{letter v:Int}(hv:v≠2){q:Int × List Int}(h:Among (·≠2) I q.2 I.length):∀k,k<=I.length->iw I true letter v k q=iw I false letter v k q
 | 0,_=>rfl
 | k+1,hk=>by
   have ih:=Kq (letter:=letter) hv h k (by omega);have h2:=Bt (P:=(·≠2)) (al:=false) (letter:=letter) hv h k k (by omega);rw[iw,iw,ih];unfold iW;simp only[true_and,Bool.false_eq_true,false_and,eR];by_cases h0:cl I (iw I false letter v k q).2 k=0\/cl I (iw I false letter v k q).2 k=1
   ·rw[ay (by rcases h0 with h0 | h0;exact .inl h0;exact .inr (.inl h0)),ay h0]
   ·rw[au (fun x=>by rcases x with x | x | x;exact h0 (.inl x);exact h0 (.inr x);exact h2 x),au h0]
theorem yM (I:List Nat)(C:List Int):∀k,(mP I k C).length=C.length
 | 0=>rfl
 | k+1=>by
   rw[mP,nJ];split
   ·rw[lu];exact yM I C k
   ·exact yM I C k
theorem Xj {I:List Nat}{C:List Int}(hw:within I C)(h:Among S1 I C I.length):∀k,k<=I.length->Among S1 I (mP I k C) I.length/\Among S2 I (mP I k C) k
 | 0,_=>⟨h,fun j hj=>by omega⟩
 | k+1,hk=>by
   obtain⟨h0,h1⟩:=Xj hw h k (by omega);have hv:S2 1:=⟨⟨by unfold S0;omega,by omega⟩,by omega⟩;rw[mP,nJ];by_cases h2:cl I (mP I k C) k=2
   ·rw[ay h2]
    refine⟨h0.put k hv.1,fun j hj=>?_⟩
    rcases aA (aM hj)with hj2 | hj2
    ·rcases E3 I (mP I k C) k j 1 with e | e
     ·rw[e];exact hv
     ·rw[e];exact h1 j hj2
    ·subst hj2;rw[oU _ (by rw[yM];exact hw j (by omega))];exact hv
   ·rw[au h2]
    refine⟨h0,fun j hj=>?_⟩
    rcases aA (aM hj)with hj2 | hj2
    ·exact h1 j hj2
    ·subst hj2;exact⟨h0 j (by omega),h2⟩
theorem OE {s:Sq}{C:List Int}(h:Among S2 s.I C s.I.length):∀k,Among S2 s.I (ku s k C) s.I.length
 | 0=>h
 | k+1=>by
   have ih:=OE h k;rw[ku,jX];split
   ·rename_i hc
    refine ih.put k ?_
    rcases hc.2 with x | x
    ·rw[x.1];exact⟨⟨by unfold S0;omega,by omega⟩,by omega⟩
    ·rw[x.1];exact⟨⟨by unfold S0;omega,by omega⟩,by omega⟩
   ·exact ih
theorem xI (s:Sq)(C:List Int):∀k,(ku s k C).length=C.length
 | 0=>rfl
 | k+1=>by
   rw[ku,jX];split
   ·rw[lu];exact xI s C k
   ·exact xI s C k
theorem IM {P:Int->Prop}{I:List Nat}{C:List Int}{n:Nat}(h:Among P I C n)(a:Nat){v:Int}(hv:P v):∀d,Among P I (iE I a v d C) n
 | 0=>h
 | d+1=>(IM h a hv d).put _ hv
theorem tM (I:List Nat)(a:Nat)(v:Int)(C:List Int):∀d,(iE I a v d C).length=C.length
 | 0=>rfl
 | d+1=>by rw[iE,lu];exact tM I a v C d
theorem xJ {Q:List Int->Prop}{I:List Nat}{fit:Int->Bool}{act:Nat->Nat->List Int->List Int}(ha:∀a b C,Q C->Q (act a b C)){C:List Int}(h:Q C):∀k,Q (jg I fit act k (0,C)).2
 | 0=>h
 | k+1=>by
   have ih:=xJ (fit:=fit) (I:=I) ha h k;rw[jg,lD];split
   ·exact ih
   ·dsimp only
    split
    ·exact ha _ _ _ ih
    ·exact ih
theorem wu {Q:List Int->Prop}{I:List Nat}{fit:Int->Bool}{act:Nat->Nat->List Int->List Int}(ha:∀a b C,Q C->Q (act a b C)){C:List Int}(h:Q C):Q (scan I fit act C):=by
 have:=xJ (fit:=fit) (I:=I) ha h I.length;unfold scan qF;split
 ·exact ha _ _ _ this
 ·exact this
theorem aab {s:Sq}{C:List Int}(h:Among S2 s.I C s.I.length):Among S2 s.I (scan s.I qm (kA s) C) s.I.length:=by
 refine wu (Q:=fun C=>Among S2 s.I C s.I.length) ?_ h;intro a b C hC;unfold kA;split
 ·exact IM hC a ⟨⟨by unfold S0;omega,by omega⟩,by omega⟩ _
 ·exact hC
theorem IP (s:Sq)(C:List Int):(scan s.I qm (kA s) C).length=C.length:=by
 refine wu (Q:=fun D=>D.length=C.length) ?_ rfl;intro a b D hD;unfold kA;split
 ·rw[tM];exact hD
 ·exact hD
theorem q_ (I:List Nat)(C:List Int):∀k,(iL I k C).length=C.length
 | 0=>rfl
 | k+1=>by
   rw[iL,jY];split
   ·rw[lu];exact q_ I C k
   ·exact q_ I C k
theorem E5 {I:List Nat}{C:List Int}(hw:within I C)(h:Among S2 I C I.length):∀k,k<=I.length->Among S2 I (iL I k C) I.length/\Among S3 I (iL I k C) k
 | 0,_=>⟨h,fun j hj=>by omega⟩
 | k+1,hk=>by
   obtain⟨h0,h1⟩:=E5 hw h k (by omega);have hv:S3 13:=⟨⟨⟨by unfold S0;omega,by omega⟩,by omega⟩,by omega,by omega,by omega⟩;rw[iL,jY];by_cases h2:cl I (iL I k C) k=4\/cl I (iL I k C) k=5\/cl I (iL I k C) k=7
   ·rw[ay h2]
    refine⟨h0.put k hv.1,fun j hj=>?_⟩
    rcases aA (aM hj)with hj2 | hj2
    ·rcases E3 I (iL I k C) k j 13 with e | e
     ·rw[e];exact hv
     ·rw[e];exact h1 j hj2
    ·subst hj2;rw[oU _ (by rw[q_];exact hw j (by omega))];exact hv
   ·rw[au h2]
    refine⟨h0,fun j hj=>?_⟩
    rcases aA (aM hj)with hj2 | hj2
    ·exact h1 j hj2
    ·subst hj2;exact⟨h0 j (by omega),by omega,by omega,by omega⟩
theorem OG {K:List Int}{s:Sq}{C:List Int}(hb:s.iq=0\/s.iq=1)(hw:within s.I C)(h:Among S0 s.I C s.I.length):Among S3 s.I (weak K s C) s.I.length/\(weak K s C).length=C.length:=by
 have h1:=(E4 (K:=K) hb hw h s.I.length (ak _)).2;have l1:=pP K s C s.I.length;have h2:=Bt (P:=S1) (al:=true) (letter:=2) (v:=6) ⟨by unfold S0;omega,by omega⟩ (q:=(s.iq,gQ K s s.I.length C)) h1 s.I.length;have l2:=q9 s.I true 2 6 (s.iq,gQ K s s.I.length C) s.I.length;have h3:=(Xj (hw.of (by rw[l2];exact l1)) h2 s.I.length (ak _)).2;have l3:=yM s.I (iw s.I true 2 6 s.I.length (s.iq,gQ K s s.I.length C)).2 s.I.length;have h4:=OE h3 s.I.length;have l4:=xI s (mP s.I s.I.length (iw s.I true 2 6 s.I.length (s.iq,gQ K s s.I.length C)).2) s.I.length;have h5:=aab h4;have l5:=IP s (ku s s.I.length (mP s.I s.I.length (iw s.I true 2 6 s.I.length (s.iq,gQ K s s.I.length C)).2));have h6:=(E5 (hw.of (by rw[l5,l4,l3,l2];exact l1)) h5 s.I.length (ak _)).2;refine⟨Bt (P:=S3) ⟨⟨⟨by unfold S0;omega,by omega⟩,by omega⟩,by omega,by omega,by omega⟩ h6 _,?_⟩;unfold weak;rw[q9,q_,l5,l4,l3,l2];exact l1
end Go.Proofs.YtnakejhohdbfdaaGreatDoor.jN
namespace Go.Proofs.YtnakejhohdbfdaaGreatDoor.jN
def F4 (c:Int):Prop:=c=0\/c=1\/c=3\/c=6
def yN (c:Int):Bool:=c == 10 || c == 11 || c == 12 || c == 13 || c == 19 || c == 20 || c == 21 || c == 22
theorem F5 {v:Int}(h:v=0\/v=1):S3 v:=⟨⟨⟨by unfold S0;omega,by omega⟩,by omega⟩,by omega,by omega,by omega⟩
theorem sA (c:Int):side c=0\/side c=1\/side c=-1:=by
 unfold side;split
 ·exact .inl rfl
 ·split
  ·exact .inr (.inl rfl)
  ·exact .inr (.inr rfl)
theorem OH {c:Int}(h:S3 c):side c<0 ↔ yN c=true:=by
 obtain⟨⟨⟨h0,h8⟩,h2⟩,h4,h5,h7⟩:=h;unfold S0 at h0
 rcases h0 with h | h | h | h | h | h | h | h | h | h | h | h | h | h | h | h | h <;> subst h <;> simp[side,yN]at *
theorem aac {c:Int}(h:S3 c):yN c=isNe c:=by
 have:=OH h;unfold isNe;cases hd:yN c
 ·rw[hd]at this;exact(aK (by rw[this];exact aE)).symm
 ·rw[hd]at this;exact(aZ (this.2 rfl)).symm
theorem aad {c:Int}(h:S3 c)(hn:isNe c=false):F4 c:=by
 obtain⟨⟨⟨h0,h8⟩,h2⟩,h4,h5,h7⟩:=h;unfold S0 at h0;unfold F4
 rcases h0 with h | h | h | h | h | h | h | h | h | h | h | h | h | h | h | h | h <;> subst h <;> simp[isNe,side]at *
theorem Tx {c:Int}(h:F4 c):side c=0\/side c=1:=by
 rcases h with h | h | h | h <;> subst h <;> simp[side]
theorem Kr {c:Int}(h:c=0\/c=1):side c=c:=by rcases h with h | h <;> subst h <;> rfl
theorem Wo {P:Int->Prop}{K:List Int}{I:List Nat}{v:Int}(hv:P v):∀f j (C:List Int),Among P I C I.length->Among P I (lW K I v f j C) I.length
 | 0,_,_,h=>h
 | f+1,j,C,h=>by
   rw[lW];split
   ·exact Wo hv f (j+1) _ (h.put j hv)
   ·exact h
theorem xK {P:Int->Prop}{K:List Int}{I:List Nat}{v:Int}(hv:P v)(k:Nat)(C:List Int)(h:Among P I C I.length):Among P I (become K I k v C) I.length:=Wo hv _ _ _ (h.put k hv)
theorem Ks (K:List Int)(I:List Nat)(v:Int):∀f j (C:List Int),(lW K I v f j C).length=C.length
 | 0,_,_=>rfl
 | f+1,j,C=>by
   rw[lW];split
   ·rw[Ks K I v f (j+1)];exact lu I C j v
   ·rfl
theorem sB (K:List Int)(I:List Nat)(k:Nat)(v:Int)(C:List Int):(become K I k v C).length=C.length:=by rw[become,Ks];exact lu I C k v
theorem Bu {s:Sq}(hb:s.iq=0\/s.iq=1)(C:List Int):∀k,iH s C k=0\/iH s C k=1
 | 0=>by rw[iH,Kr hb];exact hb
 | k+1=>by
   rw[iH];split
   ·rename_i h
    rcases sA (cl s.I C k)with e | e | e
    ·exact .inl e
    ·exact .inr e
    ·omega
   ·exact Bu hb C k
theorem Xk {K:List Int}{s:Sq}(hb:s.iq=0\/s.iq=1)(ho:s.own=0\/s.own=1)(ps:List (Nat × Nat)){C:List Int}(h:Among S3 s.I C s.I.length):∀i,Among S3 s.I (jH K s ps i C) s.I.length
 | 0=>h
 | i+1=>by
   have ih:=Xk (K:=K) hb ho ps h i;rw[jH,nK];split
   ·exact xK (F5 ho) _ _ (xK (F5 ho) _ _ ih)
   ·split
    ·exact xK (F5 (Bu hb _ _)) _ _ (xK (F5 (Bu hb _ _)) _ _ ih)
    ·exact ih
theorem E6 (K:List Int)(s:Sq)(ps:List (Nat × Nat))(C:List Int):∀i,(jH K s ps i C).length=C.length
 | 0=>rfl
 | i+1=>by
   have ih:=E6 K s ps C i;rw[jH,nK];split
   ·rw[sB,sB];exact ih
   ·split
    ·rw[sB,sB];exact ih
    ·exact ih
theorem Kt {I:List Nat}(hI:inj I)(a:Nat)(v:Int){C:List Int}(hw:within I C):∀d,a+d<=I.length->∀j,a<=j->j<a+d->cl I (iE I a v d C) j=v
 | 0,_,j,h1,h2=>by omega
 | d+1,hd,j,h1,h2=>by
   rw[iE]
   rcases aA (show j<=a+d by omega)with h | h
   ·rw[pF hI _ v (show a+d<I.length by omega) (show j<I.length by omega) (by omega)]
    exact Kt hI a v hw d (by omega) j h1 h
   ·subst h
    exact oU v (by rw[tM];exact hw _ (by omega))
theorem OI (s:Sq)(C:List Int):(neutral s C).length=C.length:=by
 refine wu (Q:=fun D=>D.length=C.length) ?_ rfl;intro a b D hD;rw[kH,tM];exact hD
structure Wp (s:Sq)(C0:List Int)(k:Nat)(q:Nat × List Int):Prop where
 le:q.1<=k
 done:∀j,j<q.1->F4 (cl s.I q.2 j)
 pend:∀j,q.1<=j->j<k->isNe (cl s.I q.2 j)=true
 all:Among S3 s.I q.2 s.I.length
 len:q.2.length=C0.length
theorem OJ {s:Sq}{C0:List Int}(hI:inj s.I)(hw:within s.I C0)(ho:s.own=0\/s.own=1)(hb:s.iq=0\/s.iq=1){k:Nat}(hk:k<=s.I.length){q:Nat × List Int}(h:Wp s C0 k q)(hq:q.1<k) :
 (∀j,j<k->F4 (cl s.I (kH s q.1 k q.2) j))/\(∀j,k<=j->j<s.I.length->cl s.I (kH s q.1 k q.2) j=cl s.I q.2 j)/\Among S3 s.I (kH s q.1 k q.2) s.I.length/\(kH s q.1 k q.2).length=C0.length:=by
 have hv:(if side (ah s q.2 q.1)=side (tE s q.2 k)then side (ah s q.2 q.1)else s.own)=0\/(if side (ah s q.2 q.1)=side (tE s q.2 k)then side (ah s q.2 q.1)else s.own)=1:=by
  split
  ·rw[ah]
   by_cases h0:q.1=0
   ·rw[ay h0,Kr hb];exact hb
   ·rw[au h0];exact Tx (h.done _ (by omega))
  ·exact ho
 unfold kH;generalize (if side (ah s q.2 q.1)=side (tE s q.2 k)then side (ah s q.2 q.1)else s.own)=v at hv;refine⟨fun j hj=>?_,fun j h1 h2=>?_,IM h.all _ (F5 hv) _,by rw[tM];exact h.len⟩
 ·rcases bP j q.1 with h1 | h1
  ·rw[mQ hI q.1 v q.2 (show j<s.I.length by omega) _ (by omega) (.inl h1)];exact h.done j h1
  ·rw[Kt hI q.1 v (hw.of h.len) (k - q.1) (by omega) j h1 (by omega)]
   rcases hv with e | e <;> rw[e]
   ·exact .inl rfl
   ·exact .inr (.inl rfl)
 ·exact mQ hI q.1 v q.2 h2 _ (by omega) (.inr (by omega))
theorem IQ {s:Sq}{C:List Int}(hI:inj s.I)(hw:within s.I C)(ho:s.own=0\/s.own=1)(hb:s.iq=0\/s.iq=1)(h:Among S3 s.I C s.I.length):∀k,k<=s.I.length->Wp s C k (jg s.I isNe (kH s) k (0,C))
 | 0,_=>⟨ak _,fun j hj=>by exact absurd hj (bE _),fun j _ hj=>by omega,h,rfl⟩
 | k+1,hk=>by
   have ih:=IQ hI hw ho hb h k (by omega);rw[jg,lD];generalize jg s.I isNe (kH s) k (0,C)=q at *;by_cases hf:isNe (cl s.I q.2 k)=true
   ·rw[ay hf]
    refine⟨by have:=ih.le;omega,ih.done,fun j h1 h2=>?_,ih.all,ih.len⟩
    rcases aA (aM h2)with h3 | h3
    ·exact ih.pend j h1 h3
    ·subst h3;exact hf
   ·rw[au hf]
    have hk4:F4 (cl s.I q.2 k):=aad (ih.all k (by omega)) (by simpa using hf);by_cases hq:q.1<k
    ·obtain⟨a1,a2,a3,a4⟩:=OJ hI hw ho hb (by omega) ih hq
     rw[ay hq];refine⟨ak _,fun j hj=>?_,fun j h1 h2=>by dsimp only at h1;omega,a3,a4⟩;dsimp only at hj ⊢
     rcases aA (aM hj)with h3 | h3
     ·exact a1 j h3
     ·subst h3;rw[a2 j (ak _) (by omega)];exact hk4
    ·rw[au hq]
     refine⟨ak _,fun j hj=>?_,fun j h1 h2=>by dsimp only at h1;omega,ih.all,ih.len⟩;dsimp only at hj ⊢
     rcases aA (aM hj)with h3 | h3
     ·exact ih.done j (by omega)
     ·subst h3;exact hk4
theorem aae {s:Sq}{C:List Int}(hI:inj s.I)(hw:within s.I C)(ho:s.own=0\/s.own=1)(hb:s.iq=0\/s.iq=1)(h:Among S3 s.I C s.I.length):Among F4 s.I (neutral s C) s.I.length:=by
 have hi:=IQ hI hw ho hb h s.I.length (ak _);unfold neutral scan qF;generalize jg s.I isNe (kH s) s.I.length (0,C)=q at *;by_cases hq:q.1<s.I.length
 ·rw[ay hq];exact(OJ hI hw ho hb (ak _) hi hq).1
 ·rw[au hq];exact fun j hj=>hi.done j (by have:=hi.le;omega)
theorem OK {R K:List Int}{s:Sq}{C:List Int}(hI:inj s.I)(hw:within s.I C)(ho:s.own=0\/s.own=1)(hb:s.iq=0\/s.iq=1)(h:Among S0 s.I C s.I.length) :
 Among F4 s.I (rules R K s C) s.I.length/\(rules R K s C).length=C.length:=by
 obtain⟨h1,l1⟩:=OG (K:=K) hb hw h;have h2:=Xk (K:=K) hb ho (gF R s.I (weak K s C) s.I.length).out h1 (gF R s.I (weak K s C) s.I.length).out.length;have l2:=E6 K s (gF R s.I (weak K s C) s.I.length).out (weak K s C) (gF R s.I (weak K s C) s.I.length).out.length;exact⟨aae hI (hw.of (l2.trans l1)) ho hb h2,by rw[rules,OI,brackets,l2,l1]⟩
theorem Ty (l c:Int)(hc:F4 c):up l c=if l % 2=0/\(c=3\/c=6)then 2 else if c≠way l then 1 else 0:=by
 unfold up way
 rcases hc with h | h | h | h <;> subst h <;> (by_cases h1:l % 2=1 <;> simp[h1] <;> omega)
end Go.Proofs.YtnakejhohdbfdaaGreatDoor.jN
namespace Go.Proofs.YtnakejhohdbfdaaGreatDoor.jN
def ng (K:List Int)(k:Nat):List Nat:=(List.range k).filter (fun i=>!gone (nth K i))
theorem uG (K:List Int)(k:Nat):ng K (k+1)=if gone (nth K k)then ng K k else ng K k++[k]:=by
 unfold ng;rw[dA,dH];cases h:gone (nth K k) <;> simp[h]
theorem zS (K:List Int)(k x:Nat)(h:x∈ng K k):x<k/\gone (nth K x)=false:=by
 unfold ng at h;rw[dK,bS]at h;exact⟨h.1,by simpa using h.2⟩
theorem OL (K:List Int)(k x:Nat)(h:x<k)(hg:gone (nth K x)=false):x∈ng K k:=by
 unfold ng;rw[dK,bS];exact⟨h,by simp[hg]⟩
theorem uH (K:List Int)(k:Nat):(ng K k).Pairwise (· < ·):=List.Pairwise.filter _ List.pairwise_lt_range
structure qQ (K L:List Int)(k:Nat)(rs:List (List Nat)):Prop where
 flat:rs.flatten=ng K k
 ne:∀r∈rs,r≠[]
 Lo:∀r∈rs,∀x∈r,nth L x=nth L (gq r)
theorem ON (init:List (List Nat))(r:List Nat):((init++[r])[(init++[r]).length - 1]?).getD []=r:=by simp
theorem OO (init:List (List Nat))(r x:List Nat):(init++[r]).set ((init++[r]).length - 1) x=init++[x]:=by
 simp
theorem jI {r:List Nat}(h:r≠[]):gN r∈r:=by
 have hl:0<r.length:=bB.2 h;unfold gN;rw[az (by omega)];exact aT _
theorem kQ {r:List Nat}(h:r≠[]):gq r∈r:=by
 have hl:0<r.length:=bB.2 h;unfold gq;rw[az hl];exact aT _
theorem lK {r:List Nat}(h:r≠[])(x:List Nat):gq (r++x)=gq r:=by
 have hl:0<r.length:=bB.2 h;unfold gq;rw[aJ hl]
theorem oJ (K L:List Int):∀k,qQ K L k (ig K L k)
 | 0=>⟨rfl,fun r h=>(by cases h),fun r h=>(by cases h)⟩
 | k+1=>by
   have ih:=oJ K L k;rw[ig,mU];generalize ig K L k=rs at *;cases hg:gone (nth K k)
   ·rw[au aE]
    by_cases he:rs=[]
    ·subst he
     rw[ay rfl];have hf:ng K k=[]:=ih.flat.symm;exact⟨by rw[uG,hg,au aE,hf];rfl,fun r h=>by rw[aj.1 h];simp,fun r h x hx=>by rw[aj.1 h]at hx ⊢;rw[aj.1 hx];rfl⟩
    ·rw[au he]
     obtain⟨init,r,hr⟩:∃init r,rs=init++[r]:=⟨rs.dropLast,rs.getLast he,(List.dropLast_concat_getLast he).symm⟩;subst hr;rw[ON,OO];have hrm:r∈init++[r]:=by simp
     by_cases hl:nth L (gN r)=nth L k
     ·rw[ay hl]
      refine⟨?_,fun x hx=>?_,fun x hx y hy=>?_⟩
      ·rw[uG,hg,au aE,<-ih.flat];simp
      ·rcases bD.1 hx with h | h
       ·exact ih.ne x (dV _ h)
       ·rw[aj.1 h];simp
      ·rcases bD.1 hx with h | h
       ·exact ih.Lo x (dV _ h) y hy
       ·rw[aj.1 h]at hy ⊢
        rw[lK (ih.ne r hrm)]
        rcases bD.1 hy with h2 | h2
        ·exact ih.Lo r hrm y h2
        ·rw[aj.1 h2,<-hl]
         exact ih.Lo r hrm _ (jI (ih.ne r hrm))
     ·rw[au hl]
      refine⟨?_,fun x hx=>?_,fun x hx y hy=>?_⟩
      ·rw[uG,hg,au aE,<-ih.flat];simp
      ·rcases bD.1 hx with h | h
       ·exact ih.ne x h
       ·rw[aj.1 h];simp
      ·rcases bD.1 hx with h | h
       ·exact ih.Lo x h y hy
       ·rw[aj.1 h]at hy ⊢;rw[aj.1 hy];rfl
   ·rw[ay rfl]
    exact⟨by rw[uG,hg,ay rfl];exact ih.flat,ih.ne,ih.Lo⟩
structure jy (K:List Int)(rs:List (List Nat)):Prop where
 sorted:rs.flatten.Pairwise (· < ·)
 ne:∀i,i<rs.length->run rs i≠[]
 lt:∀x∈rs.flatten,x<K.length/\gone (nth K x)=false
theorem run_get {rs:List (List Nat)}{i:Nat}(h:i<rs.length):run rs i=rs[i]:=by simp[run,az h]
theorem kU {rs:List (List Nat)}{i:Nat}(h:i<rs.length):run rs i∈rs:=by rw[run_get h];exact aT h
theorem oK (K L:List Int):jy K (ig K L K.length):=by
 have h:=oJ K L K.length;refine⟨by rw[h.flat];exact uH K _,fun i hi=>h.ne _ (kU hi),fun x hx=>?_⟩;rw[h.flat]at hx;exact zS K _ x hx
theorem jy.before {K:List Int}{rs:List (List Nat)}(h:jy K rs){i j:Nat}(hij:i<j)(hj:j<rs.length){x y:Nat}(hx:x∈run rs i)(hy:y∈run rs j):x<y:=by
 have hs:=h.sorted;rw[List.pairwise_flatten]at hs;have:=bn.1 hs.2 i j (by omega) hj hij;rw[run_get (by omega)]at hx;rw[run_get hj]at hy;exact this x hx y hy
theorem jy.inside {K:List Int}{rs:List (List Nat)}(h:jy K rs){i:Nat}(hi:i<rs.length):(run rs i).Pairwise (· < ·):=by
 have hs:=h.sorted;rw[List.pairwise_flatten]at hs;rw[run_get hi];exact hs.1 _ (aT hi)
theorem jy.mem {K:List Int}{rs:List (List Nat)}(h:jy K rs){i x:Nat}(hi:i<rs.length)(hx:x∈run rs i):x<K.length/\gone (nth K x)=false :=
 h.lt x (eJ.2 ⟨_,kU hi,hx⟩)
theorem jy.later {K:List Int}{rs:List (List Nat)}(h:jy K rs){i j:Nat}(hi:i<rs.length)(hj:j<rs.length)(hf:follows K (run rs i) (run rs j)=true):i<j:=by
 unfold follows at hf;rw[b7,beq_iff_eq]at hf;have hm:=oS _ _ _ _ hf.2;have hne:gq (run rs j)≠gN (run rs i):=by
  intro e;have:=hf.2;rw[e,kP,lg K _ _ (h.mem hi (jI (h.ne i hi))).1,show dn (nth K (gN (run rs i)))=1 by rw[dn,hf.1];rfl,au (by omega)]at this;have:=oS _ _ _ _ this;omega
 rcases bT i j with h1 | h1 | h1
 ·exact h1
 ·subst h1
  -- the first of a run is no greater than its last
  exfalso;have hs:=h.inside hi;have hl:0<(run rs i).length:=bB.2 (h.ne i hi);have:gq (run rs i)<=gN (run rs i):=by
   unfold gq gN;rw[az hl,az (by omega)]
   rcases Nat.eq_or_lt_of_le (aH ((run rs i).length - 1))with e | e
   ·simp[<-e]
   ·exact bZ (bn.1 hs 0 ((run rs i).length - 1) hl (by omega) e)
  omega
 ·exfalso
  have:=h.before h1 hi (kQ (h.ne j hj)) (jI (h.ne i hi));omega
theorem jy.OP {K:List Int}{rs:List (List Nat)}(h:jy K rs){i j j':Nat}(hj:j<rs.length)(hj':j'<rs.length)(hf:follows K (run rs i) (run rs j)=true)(hf':follows K (run rs i) (run rs j')=true):j=j':=by
 unfold follows at hf hf';rw[b7,beq_iff_eq]at hf hf';have e:gq (run rs j)=gq (run rs j'):=by have:=hf.2.symm.trans hf'.2;exact bW this
 rcases bT j j' with h1 | h1 | h1
 ·have:=h.before h1 hj' (kQ (h.ne j hj)) (kQ (h.ne j' hj'));omega
 ·exact h1
 ·have:=h.before h1 hj (kQ (h.ne j' hj')) (kQ (h.ne j hj));omega
theorem jq {K:List Int}{rs:List (List Nat)}{a:List Nat}:∀m j,jQ K rs a m=some j->j<m/\follows K a (run rs j)=true
 | 0,j,h=>by cases h
 | m+1,j,h=>by
   rw[jQ]at h;by_cases h1:follows K a (run rs m)=true
   ·rw[ay h1]at h;cases h;exact⟨bJ _,h1⟩
   ·rw[au h1]at h;have:=jq m j h;exact⟨by omega,this.2⟩
theorem zT {K:List Int}{rs:List (List Nat)}{a:List Nat}:∀m,jQ K rs a m=none->∀j,j<m->follows K a (run rs j)=false
 | 0,_,j,h=>by omega
 | m+1,h,j,hj=>by
   rw[jQ]at h;by_cases h1:follows K a (run rs m)=true
   ·rw[ay h1]at h;cases h
   ·rw[au h1]at h
    rcases aA (aM hj)with h2 | h2
    ·exact zT m h j h2
    ·subst h2;simpa using h1
theorem jy.Ku {K:List Int}{rs:List (List Nat)}(h:jy K rs){i j:Nat}(hj:j<rs.length)(hf:follows K (run rs i) (run rs j)=true):jQ K rs (run rs i) rs.length=some j:=by
 cases hn:jQ K rs (run rs i) rs.length with
 | none=>have:=zT _ hn j hj;rw[hf]at this;cases this
 | some j'=>obtain⟨a,b⟩:=jq _ _ hn;rw[h.OP hj a hf b]
theorem uI {K:List Int}{rs:List (List Nat)}(h:jy K rs):∀f i,i<rs.length->∀x∈chain K rs f i,∃j,i<=j/\j<rs.length/\x∈run rs j
 | 0,_,_,x,hx=>by cases hx
 | f+1,i,hi,x,hx=>by
   rw[chain]at hx
   rcases bD.1 hx with h1 | h1
   ·exact⟨i,ak _,hi,h1⟩
   ·cases hn:jQ K rs (run rs i) rs.length with
    | none=>rw[hn]at h1;cases h1
    | some j =>
      rw[hn]at h1;obtain⟨a,b⟩:=jq _ _ hn;obtain⟨j',h2,h3,h4⟩:=uI h f j a x h1;exact⟨j',by have:=h.later hi a b;omega,h3,h4⟩
theorem sD {K:List Int}{rs:List (List Nat)}(h:jy K rs):∀f i,i<rs.length->(chain K rs f i).Pairwise (· < ·)
 | 0,_,_=>List.Pairwise.nil
 | f+1,i,hi=>by
   rw[chain,dI];refine⟨h.inside hi,?_,fun x hx y hy=>?_⟩
   ·cases hn:jQ K rs (run rs i) rs.length with
    | none=>exact List.Pairwise.nil
    | some j=>exact sD h f j (jq _ _ hn).1
   ·cases hn:jQ K rs (run rs i) rs.length with
    | none=>rw[hn]at hy;cases hy
    | some j =>
      rw[hn]at hy;obtain⟨a,b⟩:=jq _ _ hn;obtain⟨j',h2,h3,h4⟩:=uI h f j a y hy;exact h.before (by have:=h.later hi a b;omega) h3 hx h4
theorem sE {I:List Nat}(h:I.Pairwise (· < ·)):inj I:=by
 intro j k hj hk e;rw[gZ hj,gZ hk]at e
 rcases bT j k with h1 | h1 | h1
 ·have:=bn.1 h j k hj hk h1;omega
 ·exact h1
 ·have:=bn.1 h k j hk hj h1;omega
end Go.Proofs.YtnakejhohdbfdaaGreatDoor.jN
namespace Go.Proofs.YtnakejhohdbfdaaGreatDoor.jN
theorem rq (K:List Int)(i j:Nat):∀k,partAt K k i=some j->j<k/\(gy K j)[0]?=some i
 | 0,h=>by cases h
 | k+1,h=>by
   rw[partAt]at h;by_cases h1:j6 (nth K k)=false/\nth K k=22/\(gy K k)[0]?=some i
   ·rw[ay h1]at h;cases h;exact⟨bJ _,h1.2.2⟩
   ·rw[au h1]at h;have:=rq K i j k h;exact⟨by omega,this.2⟩
theorem OQ (K:List Int)(i i' p:Nat)(hi:i<K.length)(hi':i'<K.length)(hn:j6 (nth K i)=true)(hn':j6 (nth K i')=true)(h:kP K i=some p)(h':kP K i'=some p):i=i':=by
 have a:=pO K i hi;have b:=pO K i' hi';rw[hn,ay rfl,h]at a;rw[hn',ay rfl,h']at b;have a2:=(rq K i p _ a).2;have b2:=(rq K i' p _ b).2;exact bW (a2.symm.trans b2)
theorem Bv {K:List Int}{rs:List (List Nat)}(h:jy K rs):∀f g i,i<rs.length->rs.length<=i+f->rs.length<=i+g->chain K rs f i=chain K rs g i
 | 0,g,i,hi,hf,hg=>by omega
 | f+1,0,i,hi,hf,hg=>by omega
 | f+1,g+1,i,hi,hf,hg=>by
   rw[chain,chain];cases hn:jQ K rs (run rs i) rs.length with
   | none=>rfl
   | some j =>
     obtain⟨a,b⟩:=jq _ _ hn;have:=h.later hi a b;show run rs i++chain K rs f j=run rs i++chain K rs g j;rw[Bv h f g j a (by omega) (by omega)]
def ch (K:List Int)(rs:List (List Nat))(i:Nat):List Nat:=chain K rs rs.length i
def rest (K:List Int)(rs:List (List Nat))(t:Nat):List Nat:=match jQ K rs (run rs t) rs.length with | none=>[] | some j=>ch K rs j
theorem ch_eq {K:List Int}{rs:List (List Nat)}(h:jy K rs){i:Nat}(hi:i<rs.length):ch K rs i=run rs i++rest K rs i:=by
 unfold ch rest;obtain⟨f,hf⟩:∃f,rs.length=f+1:=⟨rs.length - 1,by omega⟩
 conv=>lhs;rw[hf,chain]
 cases hn:jQ K rs (run rs i) rs.length with
 | none=>rfl
 | some j =>
   obtain⟨a,b⟩:=jq _ _ hn;have:=h.later hi a b;show run rs i++chain K rs f j=run rs i++chain K rs rs.length j;rw[Bv h f rs.length j a (by omega) (by omega)]
theorem wA {K:List Int}{rs:List (List Nat)}{b:List Nat}:∀m,oq K rs b m=true ↔ ∀j,j<m->follows K (run rs j) b=false
 | 0=>by simp[oq]
 | m+1=>by
   rw[oq,b7,wA m];constructor
   ·rintro ⟨h1,h2⟩ j hj
    rcases aA (aM hj)with h | h
    ·exact h1 j h
    ·subst h;simpa using h2
   ·intro h
    exact⟨fun j hj=>h j (by omega),by simpa using h m (bJ _)⟩
structure Dv where
 all:List (List Nat)
 aw:Nat->Option Nat
 tl:List Nat
def leads (K:List Int)(r:List Nat):Option Nat:=if j6 (nth K (gN r))then kP K (gN r)else none
def yO (K:List Int)(r:List Nat)(a:Nat)(aw:Nat->Option Nat):Nat->Option Nat:=fun p=>if leads K r=some p then some a else aw p
def pY (K:List Int)(rs:List (List Nat))(k:Nat)(d:Dv):Dv :=
 match d.aw (gq (run rs k))with
 | some a=>⟨d.all.set a ((d.all[a]?).getD []++run rs k),yO K (run rs k) a d.aw,d.tl.set a k⟩
 | none=>⟨d.all++[run rs k],yO K (run rs k) d.all.length d.aw,d.tl++[k]⟩
def i_ (K:List Int)(rs:List (List Nat)):Nat->Dv
 | 0=>⟨[],fun _=>none,[]⟩
 | k+1=>pY K rs k (i_ K rs k)
structure aaf (K:List Int)(rs:List (List Nat))(k:Nat)(d:Dv):Prop where
 len:d.all.length=d.tl.length
 Tz:d.all.length=(jZ K rs k).length
 sq:∀s t:Nat,d.tl[s]?=some t->∃x,d.all[s]?=some x/\(jZ K rs k)[s]?=some (x++rest K rs t)
 lt:∀s t:Nat,d.tl[s]?=some t->t<k/\∀j,jQ K rs (run rs t) rs.length=some j->k<=j
 cov:∀t,t<k->(∃s:Nat,d.tl[s]?=some t)\/(∃j,jQ K rs (run rs t) rs.length=some j/\j<k)
 awS:∀p s,d.aw p=some s->∃t,t<k/\leads K (run rs t)=some p
 awT:∀s t p:Nat,d.tl[s]?=some t->leads K (run rs t)=some p->d.aw p=some s
theorem oL (K:List Int)(a b:List Nat):leads K a=some (gq b) ↔ follows K a b=true:=by
 unfold leads follows;cases j6 (nth K (gN a)) <;> simp
theorem D6 {K:List Int}{rs:List (List Nat)}(h:jy K rs){t t' p:Nat}(ht:t<rs.length)(ht':t'<rs.length)(e:leads K (run rs t)=some p)(e':leads K (run rs t')=some p):t=t':=by
 unfold leads at e e';cases hn:j6 (nth K (gN (run rs t)))
 ·rw[hn]at e;cases e
 cases hn':j6 (nth K (gN (run rs t')))
 ·rw[hn']at e';cases e'
 rw[hn,ay rfl]at e;rw[hn',ay rfl]at e';have m1:=jI (h.ne t ht);have m2:=jI (h.ne t' ht');have:=OQ K _ _ p (h.mem ht m1).1 (h.mem ht' m2).1 hn hn' e e'
 rcases bT t t' with h1 | h1 | h1
 ·have:=h.before h1 ht' m1 m2;omega
 ·exact h1
 ·have:=h.before h1 ht m2 m1;omega
theorem OR {K:List Int}{rs:List (List Nat)}(h:jy K rs):∀k,k<=rs.length->aaf K rs k (i_ K rs k)
 | 0,_=>⟨rfl,rfl,fun s t h=>by simp[i_]at h,fun s t h=>by simp[i_]at h,fun t h=>by omega,fun p s h=>by simp[i_]at h,fun s t p h=>by simp[i_]at h⟩
 | k+1,hk=>by
   have ih:=OR h k (by omega);have hkl:k<rs.length:=by omega
   rw[i_,pY];generalize i_ K rs k=d at *;have hnk:∀j,jQ K rs (run rs k) rs.length=some j->k+1<=j:=fun j hj=>by
    obtain⟨a,b⟩:=jq _ _ hj;exact h.later hkl a b
   cases ha:d.aw (gq (run rs k))with
   | some a =>
     obtain⟨t,ht,hl⟩:=ih.awS _ _ ha;have hf:=(oL K _ _).1 hl;have hnx:=h.Ku hkl hf;have hta:d.tl[a]?=some t:=by
      rcases ih.cov t ht with⟨s,hs⟩ | ⟨j,hj1,hj2⟩
      ·have:=ih.awT s t _ hs hl;rw[ha]at this;cases this;exact hs
      ·rw[hnx]at hj1;cases hj1;omega
     have hal:a<d.tl.length:=(bg.1 hta).1;have hfree:oq K rs (run rs k) rs.length≠true:=fun e=>by
      have:=(wA _).1 e t (by omega);rw[hf]at this;cases this
     have E7:jZ K rs (k+1)=jZ K rs k:=by rw[jZ,au hfree]
     obtain⟨x,hx1,hx2⟩:=ih.sq a t hta;have hrest:rest K rs t=run rs k++rest K rs k:=by rw[rest,hnx];exact ch_eq h hkl
     refine⟨by simp[ih.len],by rw[E7];simpa using ih.Tz,fun s t' hs=>?_,fun s t' hs=>?_,fun t' ht'=>?_,fun p s hp=>?_,fun s t' p hs hp=>?_⟩
     ·dsimp only at hs ⊢
      by_cases hsa:s=a
      ·subst hsa
       rw[aQ hal]at hs;cases hs;refine⟨x++run rs k,by rw[aQ (by rw[ih.len];exact hal),hx1];rfl,?_⟩;rw[E7,hx2,hrest,dx]
      ·rw[aU (fun e=>hsa e.symm)]at hs
       obtain⟨y,hy1,hy2⟩:=ih.sq s t' hs;exact⟨y,by rw[aU (fun e=>hsa e.symm)];exact hy1,by rw[E7];exact hy2⟩
     ·dsimp only at hs
      by_cases hsa:s=a
      ·subst hsa
       rw[aQ hal]at hs;cases hs;exact⟨bJ _,hnk⟩
      ·rw[aU (fun e=>hsa e.symm)]at hs
       obtain⟨h1,h2⟩:=ih.lt s t' hs;refine⟨by omega,fun j hj=>?_⟩;have h3:=h2 j hj
       rcases aA h3 with h4 | h4
       ·exact h4
       ·exfalso
        subst h4;have:=(oL K _ _).2 (jq _ _ hj).2;have:=ih.awT s t' _ hs this;rw[ha]at this;cases this;exact hsa rfl
     ·dsimp only
      rcases aA (aM ht')with h1 | h1
      ·rcases ih.cov t' h1 with⟨s,hs⟩ | ⟨j,hj1,hj2⟩
       ·by_cases hsa:s=a
        ·subst hsa
         rw[hta]at hs;cases hs;exact .inr ⟨k,hnx,bJ _⟩
        ·exact .inl ⟨s,by rw[aU (fun e=>hsa e.symm)];exact hs⟩
       ·exact .inr ⟨j,hj1,by omega⟩
      ·subst h1;exact .inl ⟨a,aQ hal⟩
     ·dsimp only[yO]at hp
      by_cases hlk:leads K (run rs k)=some p
      ·exact⟨k,bJ _,hlk⟩
      ·rw[au hlk]at hp;obtain⟨t',h1,h2⟩:=ih.awS p s hp;exact⟨t',by omega,h2⟩
     ·dsimp only[yO]at hs ⊢
      by_cases hsa:s=a
      ·subst hsa
       rw[aQ hal]at hs;cases hs;rw[ay hp]
      ·rw[aU (fun e=>hsa e.symm)]at hs
       rw[au (fun e=>by
        have h1:=(ih.lt s t' hs).1
        have:=D6 h hkl (by omega) e hp
        omega)]
       exact ih.awT s t' p hs hp
   | none =>
     have hno:∀t,t<k->follows K (run rs t) (run rs k)=false:=by
      intro t ht;cases hf:follows K (run rs t) (run rs k)with
      | false=>rfl
      | true =>
        have hl:=(oL K _ _).2 hf
        rcases ih.cov t ht with⟨s,hs⟩ | ⟨j,hj1,hj2⟩
        ·have:=ih.awT s t _ hs hl;rw[ha]at this;cases this
        ·have:=h.Ku hkl hf;rw[hj1]at this;cases this;omega
     have hfree:oq K rs (run rs k) rs.length=true:=(wA _).2 (fun j hj=>by
      cases hf:follows K (run rs j) (run rs k)with
      | false=>rfl
      | true=>have:=h.later hj hkl hf;rw[hno j this]at hf;cases hf)
     have E7:jZ K rs (k+1)=jZ K rs k++[ch K rs k]:=by rw[jZ,ay hfree];rfl
     have hlen:d.tl.length=(jZ K rs k).length:=by rw[<-ih.len];exact ih.Tz
     refine⟨by simp[ih.len],by rw[E7];simpa using ih.Tz,fun s t' hs=>?_,fun s t' hs=>?_,fun t' ht'=>?_,fun p s hp=>?_,fun s t' p hs hp=>?_⟩
     ·dsimp only at hs ⊢
      rcases bP s d.tl.length with h1 | h1
      ·rw[aJ h1]at hs
       obtain⟨y,hy1,hy2⟩:=ih.sq s t' hs;exact⟨y,by rw[aJ (by rw[ih.len];exact h1)];exact hy1,by rw[E7,aJ (by omega)];exact hy2⟩
      ·rw[aI h1]at hs
       have hs0:s - d.tl.length=0:=by
        have:=(bg.1 hs).1;simp at this;omega
       rw[hs0]at hs;simp at hs;subst hs;refine⟨run rs k,by rw[aI (by rw[ih.len];exact h1),ih.len,hs0];rfl,?_⟩;rw[E7,aI (by omega),<-hlen,hs0,<-ch_eq h hkl];rfl
     ·dsimp only at hs
      rcases bP s d.tl.length with h1 | h1
      ·rw[aJ h1]at hs
       obtain⟨h2,h3⟩:=ih.lt s t' hs;refine⟨by omega,fun j hj=>?_⟩;have h4:=h3 j hj
       rcases aA h4 with h5 | h5
       ·exact h5
       ·exfalso;subst h5
        have:=(jq _ _ hj).2;rw[hno t' h2]at this;cases this
      ·rw[aI h1]at hs
       have hs0:s - d.tl.length=0:=by
        have:=(bg.1 hs).1;simp at this;omega
       rw[hs0]at hs;simp at hs;subst hs;exact⟨bJ _,hnk⟩
     ·dsimp only
      rcases aA (aM ht')with h1 | h1
      ·rcases ih.cov t' h1 with⟨s,hs⟩ | ⟨j,hj1,hj2⟩
       ·exact .inl ⟨s,by rw[aJ (bg.1 hs).1];exact hs⟩
       ·exact .inr ⟨j,hj1,by omega⟩
      ·subst h1;exact .inl ⟨d.tl.length,by rw[aI (ak _),bY];rfl⟩
     ·dsimp only[yO]at hp
      by_cases hlk:leads K (run rs k)=some p
      ·exact⟨k,bJ _,hlk⟩
      ·rw[au hlk]at hp;obtain⟨t',h1,h2⟩:=ih.awS p s hp;exact⟨t',by omega,h2⟩
     ·dsimp only[yO]at hs ⊢
      rcases bP s d.tl.length with h1 | h1
      ·rw[aJ h1]at hs
       rw[au (fun e=>by
        have h1:=(ih.lt s t' hs).1
        have:=D6 h hkl (by omega) e hp
        omega)]
       exact ih.awT s t' p hs hp
      ·rw[aI h1]at hs
       have hs0:s - d.tl.length=0:=by
        have:=(bg.1 hs).1;simp at this;omega
       rw[hs0]at hs;simp at hs;subst hs;rw[ay hp,ih.len,show s=d.tl.length by omega]
theorem xL {K:List Int}{rs:List (List Nat)}(h:jy K rs):(i_ K rs rs.length).all=ny K rs:=by
 have hi:=OR h rs.length (ak _);refine List.ext_getElem? (fun s=>?_)
 rcases bP s (i_ K rs rs.length).tl.length with h1 | h1
 ·obtain⟨x,hx1,hx2⟩:=hi.sq s _ (az h1)
  have hr:rest K rs (i_ K rs rs.length).tl[s]=[]:=by
   unfold rest;cases hn:jQ K rs (run rs (i_ K rs rs.length).tl[s]) rs.length with
   | none=>rfl
   | some j =>
     have:=(hi.lt s _ (az h1)).2 j hn;have:=(jq _ _ hn).1;omega
  rw[hr,cD]at hx2;rw[hx1];exact hx2.symm
 ·rw[bq (by rw[hi.len];exact h1),ny,bq (by rw[<-hi.Tz,hi.len];exact h1)]
end Go.Proofs.YtnakejhohdbfdaaGreatDoor.jN
namespace Go.Proofs.YtnakejhohdbfdaaGreatDoor.jN
theorem Bw (K L:List Int)(base:Int):∀x,nH K L base x=match (ng K x).getLast? with | none=>base | some y=>nth L y
 | 0=>rfl
 | x+1=>by
   rw[nH,uG];cases h:gone (nth K x)
   ·rw[au aE,au aE,List.getLast?_concat]
   ·rw[ay rfl,ay rfl];exact Bw K L base x
theorem Lp (K:List Int)(n x:Nat)(h:x<=n):ng K x=(ng K n).filter (fun y=>decide (y<x)):=by
 induction n with
 | zero=>rw[show x=0 by omega];rfl
 | succ n ih =>
   rcases aA h with h1 | h1
   ·rw[uG,ih (by omega)]
    cases hg:gone (nth K n)
    ·rw[au aE,dH,List.filter_cons_of_neg (by simp;omega),List.filter_nil,cD]
    ·rw[ay rfl]
   ·subst h1
    symm
    rw[eM];intro y hy;exact aZ (zS K _ y hy).1
theorem Bx {rs:List (List Nat)}{i:Nat}(h:i<rs.length):rs.flatten=(rs.take i).flatten++(run rs i++(rs.drop (i+1)).flatten):=by
 conv=>lhs;rw[<-cu i rs,cA h]
 rw[eK,List.flatten_cons,run_get h]
theorem vN {rs:List (List Nat)}{i x:Nat}(h:x∈(rs.take i).flatten):∃j,j<i/\j<rs.length/\x∈run rs j:=by
 obtain⟨r,hr,hx⟩:=eJ.1 h;obtain⟨j,hj,he⟩:=bz hr;rw[aP]at hj;rw[List.getElem_take]at he;exact⟨j,by omega,by omega,by rw[run_get (by omega),he];exact hx⟩
theorem vP {rs:List (List Nat)}{i x:Nat}(h:x∈(rs.drop i).flatten):∃j,i<=j/\j<rs.length/\x∈run rs j:=by
 obtain⟨r,hr,hx⟩:=eJ.1 h;obtain⟨j,hj,he⟩:=bz hr;rw[bu]at hj;rw[List.getElem_drop]at he;exact⟨i+j,by omega,by omega,by rw[run_get (by omega),he];exact hx⟩
theorem OS {r:List Nat}(hs:r.Pairwise (· < ·)){x:Nat}(hx:x∈r):gq r<=x:=by
 obtain⟨j,hj,he⟩:=bz hx;unfold gq;rw[az (by omega)]
 rcases aS j with h | h
 ·subst h;rw[he];exact ak _
 ·have:=bn.1 hs 0 j (by omega) hj h
  simp only[dB];omega
theorem le_last {r:List Nat}(hs:r.Pairwise (· < ·)){x:Nat}(hx:x∈r):x<=gN r:=by
 obtain⟨j,hj,he⟩:=bz hx;unfold gN;rw[az (by omega)]
 rcases bP j (r.length - 1)with h | h
 ·have:=bn.1 hs j (r.length - 1) hj (by omega) h
  simp only[dB];omega
 ·have e:j=r.length - 1:=by omega
  subst e;simp only[dB];omega
theorem F6 {r:List Nat}(h:r≠[]):r.getLast?=some (gN r):=by
 rw[List.getLast?_eq_getElem?];have hl:0<r.length:=bB.2 h;unfold gN;rw[az (by omega)];rfl
theorem OT {r:List Nat}(h:r≠[]):r.head?=some (gq r):=by
 rw[List.head?_eq_getElem?];have hl:0<r.length:=bB.2 h;unfold gq;rw[az hl];rfl
theorem F7 {K L:List Int}{base:Int}{rs:List (List Nat)}(hr:qQ K L K.length rs){i:Nat}(hi:i<rs.length) :
 nH K L base (gq (run rs i))=if i=0 then base else nth L (gq (run rs (i - 1))):=by
 have ho:jy K rs:=⟨by rw[hr.flat];exact uH K _,fun i hi=>hr.ne _ (kU hi),fun x hx=>by rw[hr.flat]at hx;exact zS K _ x hx⟩;have hx:=(ho.mem hi (kQ (ho.ne i hi))).1;rw[Bw,Lp K K.length _ (bZ hx),<-hr.flat,Bx hi,dH,dH];have h1:(rs.take i).flatten.filter (fun y=>decide (y<gq (run rs i)))=(rs.take i).flatten:=by
  rw[eM];intro y hy;obtain⟨j,h2,h3,h4⟩:=vN hy;exact aZ (ho.before h2 hi h4 (kQ (ho.ne i hi)))
 have h2:(run rs i).filter (fun y=>decide (y<gq (run rs i)))=[]:=by
  rw[dh];intro y hy;have:=OS (ho.inside hi) hy;simp;omega
 have h3:(rs.drop (i+1)).flatten.filter (fun y=>decide (y<gq (run rs i)))=[]:=by
  rw[dh];intro y hy;obtain⟨j,h2,h3,h4⟩:=vP hy;have:=ho.before (show i<j by omega) h3 (kQ (ho.ne i hi)) h4;simp;omega
 rw[h1,h2,h3,cD,cD];cases i with
 | zero=>rfl
 | succ m =>
   have hm:m<rs.length:=by omega
   have e:(rs.take (m+1)).flatten=(rs.take m).flatten++run rs m:=by
    rw[dR hm,eK,run_get hm];simp
   rw[e,List.getLast?_append,F6 (ho.ne m hm),au (by omega),Option.some_or];exact hr.Lo _ (kU hm) _ (jI (ho.ne m hm))
theorem zU (K L:List Int)(base:Int):∀f j,K.length<=j+f->kr K L base f j=match ((ng K K.length).filter (fun y=>decide (j<=y))).head? with | none=>base | some y=>nth L y
 | 0,j,h=>by
   have:(ng K K.length).filter (fun y=>decide (j<=y))=[]:=by
    rw[dh];intro y hy;have:=(zS K _ y hy).1;simp;omega
   rw[this];rfl
 | f+1,j,h=>by
   rw[kr];by_cases hj:j<K.length
   ·rw[ay hj]
    cases hg:gone (nth K j)
    ·rw[au aE]
     -- j itself is the first
     have hs:=uH K K.length;have hm:=OL K K.length j hj hg;obtain⟨t,ht,he⟩:=bz hm;have:((ng K K.length).filter (fun y=>decide (j<=y))).head?=some j:=by
      have e:ng K K.length=(ng K K.length).take t++(j :: (ng K K.length).drop (t+1)):=by
       conv=>lhs;rw[<-cu t (ng K K.length),cA ht,he]
      rw[e,dH];have z:((ng K K.length).take t).filter (fun y=>decide (j<=y))=[]:=by
       rw[dh];intro y hy;obtain⟨u,hu,hu2⟩:=bz hy;rw[aP]at hu;rw[List.getElem_take]at hu2;have:=bn.1 hs u t (by omega) ht (by omega);rw[he,hu2]at this;simp;omega
      rw[z,bU,List.filter_cons_of_pos (by simp)];rfl
     rw[this]
    ·rw[ay rfl,zU K L base f (j+1) (by omega)]
     have:(ng K K.length).filter (fun y=>decide (j+1<=y))=(ng K K.length).filter (fun y=>decide (j<=y)):=by
      refine List.filter_congr (fun y hy=>?_);have hgy:=(zS K _ y hy).2;by_cases e:y=j
      ·subst e;rw[hg]at hgy;cases hgy
      ·rcases bP j y with h1 | h1
       ·rw[aZ (by omega),aZ (by omega)]
       ·rw[aK (by omega),aK (by omega)]
     rw[this]
   ·rw[au hj]
    have:(ng K K.length).filter (fun y=>decide (j<=y))=[]:=by
     rw[dh];intro y hy;have:=(zS K _ y hy).1;simp;omega
    rw[this];rfl
theorem E8 {K L:List Int}{base:Int}{rs:List (List Nat)}(hr:qQ K L K.length rs){i:Nat}(hi:i<rs.length) :
 kr K L base K.length (gN (run rs i)+1)=if i+1<rs.length then nth L (gq (run rs (i+1)))else base:=by
 have ho:jy K rs:=⟨by rw[hr.flat];exact uH K _,fun i hi=>hr.ne _ (kU hi),fun x hx=>by rw[hr.flat]at hx;exact zS K _ x hx⟩;rw[zU K L base K.length _ (by omega),<-hr.flat,Bx hi,dH,dH];have h1:(rs.take i).flatten.filter (fun y=>decide (gN (run rs i)+1<=y))=[]:=by
  rw[dh];intro y hy;obtain⟨j,h2,h3,h4⟩:=vN hy;have:=ho.before h2 hi h4 (jI (ho.ne i hi));simp;omega
 have h2:(run rs i).filter (fun y=>decide (gN (run rs i)+1<=y))=[]:=by
  rw[dh];intro y hy;have:=le_last (ho.inside hi) hy;simp;omega
 have h3:(rs.drop (i+1)).flatten.filter (fun y=>decide (gN (run rs i)+1<=y))=(rs.drop (i+1)).flatten:=by
  rw[eM];intro y hy;obtain⟨j,h2,h3,h4⟩:=vP hy;have:=ho.before (show i<j by omega) h3 (jI (ho.ne i hi)) h4;exact aZ (by omega)
 rw[h1,h2,h3,bU,bU];by_cases hn:i+1<rs.length
 ·rw[ay hn,cA hn,List.flatten_cons]
  have e:=ho.ne (i+1) hn;rw[<-run_get hn,List.head?_append,OT e,Option.some_or]
 ·rw[au hn,List.drop_eq_nil_of_le (by omega)];rfl
end Go.Proofs.YtnakejhohdbfdaaGreatDoor.jN
namespace Go.Proofs.YtnakejhohdbfdaaGreatDoor.jN
def ru:List lZ->List lZ
 | []=>[]
 | x :: r=>if x.l7 then r else ru r
def under:List lZ->Nat->Option Int
 | [],_=>none
 | x :: r,d=>if x.l7 then(match d with | 0=>r.head?.map (·.lv) | d+1=>under r d)else under r d
def mW:List lZ->Nat
 | []=>0
 | x :: r=>if x.l7 then mW r+1 else mW r
theorem AY (st:List lZ):top st=(st.reverse.head?).getD default:=by
 unfold top;rw[List.head?_reverse,List.getLast?_eq_getElem?]
theorem tO:∀f (st:List lZ),st.length<=f->(lS f st).reverse=ru st.reverse
 | 0,st,h=>by have:st=[]:=List.eq_nil_of_length_eq_zero (by omega);subst this;rfl
 | f+1,st,h=>by
   rw[lS,AY];cases hr:st.reverse with
   | nil =>
     have:st=[]:=by simpa using hr
     subst this;have h2:=tO f [] (by simp);simp[ru]at h2 ⊢;intro _;exact h2
   | cons x r =>
     have hd:st.dropLast.reverse=r:=by rw[show st=(x :: r).reverse by rw[<-hr,eG],List.dropLast_reverse,eG];rfl
     show(if x.l7=true then st.dropLast else lS f st.dropLast).reverse=if x.l7 then r else ru r
     cases hx:x.l7
     ·rw[au aE,au aE,tO f _ (by rw[eH];omega),hd]
     ·rw[ay rfl,ay rfl,hd]
theorem OU (x:lZ)(r:List lZ)(d:Nat)(h:x.l7=false):under (x :: r) d=under r d:=by cases d <;> simp[under,h]
theorem D7:∀r,(ru r).head?.map (·.lv)=under r 0
 | []=>rfl
 | x :: r=>by
   rw[ru,under];cases x.l7
   ·exact D7 r
   ·rfl
theorem Bz:∀r d,under (ru r) d=under r (d+1)
 | [],_=>rfl
 | x :: r,d=>by
   rw[ru,under];cases x.l7
   ·exact Bz r d
   ·rfl
theorem F8:∀r,0<mW r->mW (ru r)+1=mW r
 | [],h=>by simp[mW]at h
 | x :: r,h=>by
   rw[ru,mW];rw[mW]at h;cases hx:x.l7
   ·rw[hx]at h;exact F8 r (by simpa using h)
   ·rfl
def qH (x:lZ):Prop:=0<=x.lv/\x.lv<=9/\(x.ov=-1\/x.ov=0\/x.ov=1)
structure qo (r:List lZ):Prop where
 ne:r≠[]
 low:∀x,r.getLast?=some x->x.l7=false
 ok:∀x∈r,qH x
theorem qo.push {r:List lZ}(h:qo r){x:lZ}(hx:qH x):qo (x :: r) :=
 ⟨by simp,fun y hy=>h.low y (by rw[List.getLast?_cons_of_ne_nil h.ne]at hy;exact hy),fun y hy=>by
  rcases bK.1 hy with e | e
  ·subst e;exact hx
  ·exact h.ok y e⟩
theorem qo.pop {r:List lZ}{x:lZ}(h:qo (x :: r))(hr:r≠[]):qo r :=
 ⟨hr,fun y hy=>h.low y (by rw[List.getLast?_cons_of_ne_nil hr];exact hy),fun y hy=>h.ok y (cP _ hy)⟩
theorem qo.ru:∀ {r:List lZ},qo r->0<mW r->qo (ru r)
 | [],h,_=>absurd rfl h.ne
 | x :: r,h,hi=>by
   rw[jN.ru];rw[mW]at hi;cases hx:x.l7
   ·rw[hx]at hi
    have hi':0<mW r:=by simpa using hi
    have hr:r≠[]:=by intro e;subst e;simp[mW]at hi'
    exact(h.pop hr).ru hi'
   ·have hr:r≠[]:=by
     intro e;subst e;have:=h.low x rfl;rw[hx]at this;cases this
    exact h.pop hr
structure E9 (K:List Int)(base:Int)(k:Nat)(e:wo):Prop where
 st:qo e.st.reverse
 op:e.op=mW e.st.reverse
 cnt:(gy K k).length=e.mi+e.op
 over:∀d i:Nat,d<e.mi->(gy K k)[d]?=some i->nth e.L i=(top e.st).lv
 Du:∀d i:Nat,(gy K k)[e.mi+d]?=some i->under e.st.reverse d=some (nth e.L i)
 len:e.L.length=K.length/\e.C.length=K.length
 pair:∀i j,i<K.length->j6 (nth K i)=true->kP K i=some j->j<k->nth e.L j=nth e.L i
 small:∀i,0<=nth e.L i/\nth e.L i<=9
 sz:e.st.length<=k+1/\e.mi<=k/\e.me<=k
theorem Lq (K:List Int)(k:Nat)(hk:k<=K.length)(d i:Nat)(h:(gy K k)[d]?=some i):i<k:=((xH K k hk).op d i h).2.1
theorem OV (K:List Int)(i k:Nat)(hk:k<K.length)(hi:i<K.length)(hn:j6 (nth K i)=true)(hm:kP K i=some k):i<k/\(gy K k)[0]?=some i/\nth K k=22/\j6 (nth K k)=false:=by
 have hge:=oS _ _ _ _ hm;have hne:i≠k:=by
  intro e;subst e;rw[kP,lg K i _ hi,show dn (nth K i)=1 by rw[dn,hn];rfl,au (by omega)]at hm;have:=oS _ _ _ _ hm;omega
 have hik:i<k:=by omega
 have hp:=xH K k (by omega)
 rcases hp.cl i hik hn with⟨d,hd⟩ | ⟨j,hj1,hj2⟩
 ·have h3:=(hp.op d i hd).2.2.1
  rw[hm,lg K k _ hk]at h3;by_cases h0:(d:Int)+1+dn (nth K k)=0
  ·have hdn:dn (nth K k)=1\/dn (nth K k)=-1\/dn (nth K k)=0:=by unfold dn;split;exact .inl rfl;split;exact .inr (.inl rfl);exact .inr (.inr rfl)
   have hd0:d=0:=by omega
   have h1:dn (nth K k)=-1:=by omega
   subst hd0;unfold dn at h1;cases hin:j6 (nth K k)
   ·rw[hin,au aE]at h1
    by_cases h22:nth K k=22
    ·exact⟨hik,hd,h22,rfl⟩
    ·rw[au h22]at h1;omega
   ·rw[hin,ay rfl]at h1;omega
  ·rw[au h0]at h3
   have:=oS _ _ _ _ h3.symm;omega
 ·rw[hm]at hj2;cases hj2
  have:=(rq K i k k hj1).1;omega
theorem tQ {e:wo}(h:qo e.st.reverse):qH (top e.st):=by
 rw[AY];cases hr:e.st.reverse with
 | nil=>exact absurd hr h.ne
 | cons x r=>exact h.ok x (by rw[hr];simp)
theorem E_ (l:Int)(odd:Bool):jG l odd=l+1\/jG l odd=l+2:=by
 unfold jG;split
 ·exact .inl rfl
 ·exact .inr rfl
theorem iX {l:List Int}{k:Nat}(h:k<l.length)(v:Int)(i:Nat):nth (l.set k v) i=if i=k then v else nth l i:=by
 rw[pW];by_cases e:i=k
 ·rw[ay ⟨e,h⟩,ay e]
 ·rw[au (fun x=>e x.1),au e]
theorem mR {K:List Int}{base:Int}{k:Nat}{e e':wo}(hk:k<K.length)(ih:E9 K base k e)
 (hL:e'.L=e.L\/∃v,e'.L=e.L.set k v/\0<=v/\v<=9) (hC:e'.C.length=e.C.length)
 (hm:j6 (nth K k)=false->nth K k=22->∀i,(gy K k)[0]?=some i->nth e'.L k=nth e.L i) :
 (∀i,i<k->nth e'.L i=nth e.L i)/\(e'.L.length=K.length/\e'.C.length=K.length)/\(∀i j,i<K.length->j6 (nth K i)=true->kP K i=some j->j<k+1->nth e'.L j=nth e'.L i)/\(∀i,0<=nth e'.L i/\nth e'.L i<=9):=by
 have hl:k<e.L.length:=by rw[ih.len.1];exact hk
 have h1:∀i,i<k->nth e'.L i=nth e.L i:=by
  intro i hi
  rcases hL with h | ⟨v,h,_⟩
  ·rw[h]
  ·rw[h,iX hl,au (by omega)]
 refine⟨h1,⟨?_,hC.trans ih.len.2⟩,fun i j hi hn hmt hj=>?_,fun i=>?_⟩
 ·rcases hL with h | ⟨v,h,_⟩
  ·rw[h];exact ih.len.1
  ·rw[h,aY];exact ih.len.1
 ·rcases aA (aM hj)with h | h
  ·have hge:=oS _ _ _ _ hmt
   rw[h1 j h,h1 i (by omega)];exact ih.pair i j hi hn hmt h
  ·subst h
   obtain⟨a,b,c,d⟩:=OV K i j hk hi hn hmt;rw[hm d c i b,h1 i a]
 ·rcases hL with h | ⟨v,h,h2,h3⟩
  ·rw[h];exact ih.small i
  ·rw[h,iX hl]
   by_cases e1:i=k
   ·rw[ay e1];exact⟨h2,h3⟩
   ·rw[au e1];exact ih.small i
theorem ry (st:List lZ)(x:lZ):(st++[x]).reverse=x :: st.reverse:=by simp
theorem OW (st:List lZ):st.dropLast.reverse=st.reverse.tail:=by
 have h:=List.dropLast_reverse (l:=st.reverse);rw[eG]at h;rw[h,eG]
theorem Fa (e:wo)(i:Nat):(hold e i).L=e.L.set i (top e.st).lv:=rfl
theorem yP (e:wo)(i:Nat):(hold e i).C.length=e.C.length:=by
 unfold hold;dsimp only;split
 ·rfl
 ·exact aY
theorem IU {c:Int}(h:begins c=true):j6 c=false/\c≠22:=by
 unfold begins at h;simp only[Bool.or_eq_true,beq_iff_eq]at h
 rcases h with((h | h) | h) | h <;> subst h <;> exact⟨rfl,by omega⟩
theorem F9 {e:wo}(h:qo e.st.reverse):e.st.reverse.head?.map (·.lv)=some (top e.st).lv:=by
 rw[AY];cases hr:e.st.reverse with
 | nil=>exact absurd hr h.ne
 | cons x r=>rfl
theorem nM (K:List Int)(base:Int)(hb:base=0\/base=1):∀k,k<=K.length->E9 K base k (gK K base k)
 | 0,_=>by
   refine⟨⟨by simp[gK],fun x hx=>?_,fun x hx=>?_⟩,rfl,rfl,fun d i h=>by simp[gK]at h,fun d i h=>by simp[gy]at h,by simp[gK],fun i j _ _ _ h=>by omega,fun i=>?_,by simp[gK]⟩
   ·simp[gK]at hx;subst hx;rfl
   ·simp[gK]at hx;subst hx;exact⟨by dsimp only;omega,by dsimp only;omega,.inl rfl⟩
   ·have:nth (gK K base 0).L i=0:=by
     show nth (List.replicate K.length 0) i=0;unfold nth;rw[List.getElem?_replicate];split <;> rfl
    rw[this];omega
 | k+1,hk=>by
   have ih:=nM K base hb k (by omega);have hkl:k<K.length:=by omega
   rw[gK];generalize gK K base k=e at *;have hl:k<e.L.length:=by rw[ih.len.1];exact hkl
   have htop:=tQ ih.st;have hol:=Lq K k (by omega);have hone:j6 (nth K k)=false->nth K k≠22->gy K (k+1)=gy K k:=fun h1 h2=>by rw[gy,h1,au aE,au h2]
   have hin:j6 (nth K k)=true->gy K (k+1)=k :: gy K k:=fun h1=>by rw[gy,h1];rfl
   have hpd:j6 (nth K k)=false->nth K k=22->gy K (k+1)=(gy K k).tail:=fun h1 h2=>by rw[gy,h1,au aE,ay h2]
   unfold iB;by_cases c1:begins (nth K k)=true
   ·rw[ay c1]
    obtain⟨n1,n2⟩:=IU c1;have ho:=hone n1 n2;by_cases cf:fits e (jG (top e.st).lv (jm K k))=true
    ·rw[ay cf]
     have tR:e.mi=0:=by unfold fits at cf;simp at cf;omega
     have hnx:jG (top e.st).lv (jm K k)<=9:=by unfold fits at cf;simp at cf;omega
     obtain⟨k1,k2,k3,k4⟩:=mR (e':={ e with st:=e.st++[⟨jG (top e.st).lv (jm K k),DE (nth K k),false⟩] }) hkl ih (.inl rfl) rfl (fun _ h=>absurd h n2);have hx:qH ⟨jG (top e.st).lv (jm K k),DE (nth K k),false⟩:=⟨by rcases E_ (top e.st).lv (jm K k)with h | h <;> (have:=htop.1;dsimp only;omega),hnx,by unfold DE;dsimp only;split;exact .inr (.inr rfl);split;exact .inr (.inl rfl);exact .inl rfl⟩;refine⟨by rw[ry];exact ih.st.push hx,by rw[ry];exact ih.op,by rw[ho];exact ih.cnt,fun d i h=>by dsimp only at h;omega,fun d i h=>?_,k2,k3,k4,?_⟩
     ·rw[ho]at h;rw[ry];exact ih.Du d i h
     ·have:=ih.sz;simp;omega
    ·rw[au cf]
     by_cases cm:e.mi=0
     ·rw[ay cm]
      obtain⟨k1,k2,k3,k4⟩:=mR (e':={ e with me:=e.me+1 }) hkl ih (.inl rfl) rfl (fun _ h=>absurd h n2);exact⟨ih.st,ih.op,by rw[ho];exact ih.cnt,fun d i h1 h2=>by rw[ho]at h2;exact ih.over d i h1 h2,fun d i h=>by rw[ho]at h;exact ih.Du d i h,k2,k3,k4,by have:=ih.sz;dsimp only;omega⟩
     ·rw[au cm]
      obtain⟨k1,k2,k3,k4⟩:=mR (e':=e) hkl ih (.inl rfl) rfl (fun _ h=>absurd h n2);exact⟨ih.st,ih.op,by rw[ho];exact ih.cnt,fun d i h1 h2=>by rw[ho]at h2;exact ih.over d i h1 h2,fun d i h=>by rw[ho]at h;exact ih.Du d i h,k2,k3,k4,by have:=ih.sz;omega⟩
   rw[au c1];by_cases c2:j6 (nth K k)=true
   ·rw[ay c2]
    have ho:=hin c2;have n2:=Lm c2;have hLk:nth (e.L.set k (top e.st).lv) k=(top e.st).lv:=by rw[iX hl,ay rfl]
    by_cases cf:fits e (jG (top e.st).lv (jm K k))=true
    ·rw[ay cf]
     have tR:e.mi=0:=by unfold fits at cf;simp at cf;omega
     have hnx:jG (top e.st).lv (jm K k)<=9:=by unfold fits at cf;simp at cf;omega
     obtain⟨k1,k2,k3,k4⟩:=mR (e':={ hold e k with op:=e.op+1,st:=e.st++[⟨jG (top e.st).lv (jm K k),-1,true⟩] }) hkl ih (.inr ⟨_,rfl,htop.1,htop.2.1⟩) (yP e k) (fun h=>by rw[c2]at h;cases h);have hx:qH ⟨jG (top e.st).lv (jm K k),-1,true⟩:=⟨by rcases E_ (top e.st).lv (jm K k)with h | h <;> (have:=htop.1;dsimp only;omega),hnx,.inl rfl⟩;refine⟨by rw[ry];exact ih.st.push hx,by rw[ry];show e.op+1=mW _+1;rw[ih.op],?_,fun d i h=>?_,fun d i h=>?_,k2,k3,k4,?_⟩
     ·rw[ho];show(gy K k).length+1=e.mi+(e.op+1);have:=ih.cnt;omega
     ·exact absurd h (by show ¬d<e.mi;omega)
     ·rw[ho]at h
      replace h:(k :: gy K k)[e.mi+d]?=some i:=h
      rw[tR,c_]at h;rw[ry];cases d with
      | zero =>
        simp at h;subst h;show e.st.reverse.head?.map (·.lv)=some (nth (e.L.set k (top e.st).lv) k);rw[hLk];exact F9 ih.st
      | succ d =>
        simp at h;show under e.st.reverse d=some (nth (e.L.set k (top e.st).lv) i);rw[iX hl,au (by have:=hol d i h;omega)];exact ih.Du d i (by rw[tR,c_];exact h)
     ·have:=ih.sz;show(e.st++[_]).length<=_/\e.mi<=_/\e.me<=_;simp;omega
    ·rw[au cf]
     obtain⟨k1,k2,k3,k4⟩:=mR (e':={ hold e k with mi:=e.mi+1 }) hkl ih (.inr ⟨_,rfl,htop.1,htop.2.1⟩) (yP e k) (fun h=>by rw[c2]at h;cases h);refine⟨ih.st,ih.op,?_,fun d i h1 h2=>?_,fun d i h=>?_,k2,k3,k4,?_⟩
     ·rw[ho];show(gy K k).length+1=e.mi+1+e.op;have:=ih.cnt;omega
     ·rw[ho]at h2
      show nth (e.L.set k (top e.st).lv) i=(top e.st).lv;cases d with
      | zero=>simp at h2;subst h2;exact hLk
      | succ d =>
        simp at h2;rw[iX hl,au (by have:=hol d i h2;omega)];exact ih.over d i (by replace h1:d+1<e.mi+1:=h1;omega) h2
     ·rw[ho]at h
      replace h:(k :: gy K k)[e.mi+1+d]?=some i:=h
      rw[show e.mi+1+d=(e.mi+d)+1 by omega]at h;simp at h;show under e.st.reverse d=some (nth (e.L.set k (top e.st).lv) i);rw[iX hl,au (by have:=hol _ i h;omega)];exact ih.Du d i h
     ·have:=ih.sz;show e.st.length<=_/\e.mi+1<=_/\e.me<=_;omega
   rw[au c2];have c2':j6 (nth K k)=false:=by simpa using c2
   by_cases c3:nth K k=22
   ·rw[ay c3]
    have ho:=hpd c2' c3;by_cases cm:0<e.mi
    ·rw[ay cm]
     have hm0:∀i,(gy K k)[0]?=some i->nth e.L i=(top e.st).lv:=fun i h=>ih.over 0 i cm h
     obtain⟨k1,k2,k3,k4⟩:=mR (e':=hold { e with mi:=e.mi - 1 } k) hkl ih (.inr ⟨_,rfl,htop.1,htop.2.1⟩) (yP _ k) (fun _ _ i h=>by rw[Fa,iX hl,ay rfl];exact(hm0 i h).symm);refine⟨ih.st,ih.op,?_,fun d i h1 h2=>?_,fun d i h=>?_,k2,k3,k4,?_⟩
     ·rw[ho,List.length_tail];show _=e.mi - 1+e.op;have:=ih.cnt;omega
     ·rw[ho,eA]at h2
      replace h1:d<e.mi - 1:=h1
      show nth (e.L.set k (top e.st).lv) i=(top e.st).lv;rw[iX hl,au (by have:=hol _ i h2;omega)];exact ih.over (d+1) i (by omega) h2
     ·rw[ho,eA]at h
      replace h:(gy K k)[e.mi - 1+d+1]?=some i:=h
      rw[show e.mi - 1+d+1=e.mi+d by omega]at h;show under e.st.reverse d=some (nth (e.L.set k (top e.st).lv) i);rw[iX hl,au (by have:=hol _ i h;omega)];exact ih.Du d i h
     ·have:=ih.sz;show e.st.length<=_/\e.mi - 1<=_/\e.me<=_;omega
    ·rw[au cm]
     have tR:e.mi=0:=by omega
     by_cases cop:0<e.op
     ·rw[ay cop]
      have DF:0<mW e.st.reverse:=by rw[<-ih.op];exact cop
      have hpr:(lS e.st.length e.st).reverse=ru e.st.reverse:=tO _ _ (ak _);have hst:qo (lS e.st.length e.st).reverse:=by rw[hpr];exact ih.st.ru DF
      have htp:=tQ (e:={ e with me:=0,st:=lS e.st.length e.st,op:=e.op - 1 }) hst;have hm0:∀i,(gy K k)[0]?=some i->nth e.L i=(top (lS e.st.length e.st)).lv:=fun i h=>by
       have h1:=ih.Du 0 i (by rw[tR];exact h);rw[<-D7,<-hpr]at h1;have h2:=F9 (e:={ e with me:=0,st:=lS e.st.length e.st,op:=e.op - 1 }) hst;exact(bW (h2.symm.trans h1)).symm
      have hpl:(lS e.st.length e.st).length<=e.st.length:=by
       have:∀r:List lZ,(ru r).length<=r.length:=by
        intro r
        induction r with
        | nil=>exact ak _
        | cons x r ih2 =>
          rw[ru];split
          ·simp
          ·simp;omega
       have h1:=this e.st.reverse;rw[<-hpr,dW,dW]at h1;exact h1
      obtain⟨k1,k2,k3,k4⟩:=mR (e':=hold { e with me:=0,st:=lS e.st.length e.st,op:=e.op - 1 } k) hkl ih (.inr ⟨_,rfl,htp.1,htp.2.1⟩) (yP _ k) (fun _ _ i h=>by rw[Fa,iX hl,ay rfl];exact(hm0 i h).symm);refine⟨hst,?_,?_,fun d i h1 h2=>?_,fun d i h=>?_,k2,k3,k4,?_⟩
      ·show e.op - 1=mW (lS e.st.length e.st).reverse
       rw[hpr];have:=F8 _ DF;have:=ih.op;omega
      ·rw[ho,List.length_tail];show _=e.mi+(e.op - 1);have:=ih.cnt;omega
      ·exact absurd h1 (by show ¬d<e.mi;omega)
      ·rw[ho,eA]at h
       replace h:(gy K k)[e.mi+d+1]?=some i:=h
       show under (lS e.st.length e.st).reverse d=some (nth (e.L.set k (top (lS e.st.length e.st)).lv) i);rw[hpr,Bz,iX hl,au (by have:=hol _ i h;omega)];exact ih.Du (d+1) i (by rw[<-eC];exact h)
      ·have:=ih.sz;show(lS e.st.length e.st).length<=_/\e.mi<=_/\0<=_;omega
     ·rw[au cop]
      have hnil:gy K k=[]:=List.eq_nil_of_length_eq_zero (by have:=ih.cnt;omega);obtain⟨k1,k2,k3,k4⟩:=mR (e':=hold e k) hkl ih (.inr ⟨_,rfl,htop.1,htop.2.1⟩) (yP _ k) (fun _ _ i h=>by rw[hnil]at h;cases h);refine⟨ih.st,ih.op,by rw[ho,hnil];show 0=e.mi+e.op;omega,fun d i h1 h2=>(by rw[ho,hnil]at h2;cases h2),fun d i h=>(by rw[ho,hnil]at h;cases h),k2,k3,k4,by have:=ih.sz;show e.st.length<=_/\e.mi<=_/\e.me<=_;omega⟩
   rw[au c3];have ho:=hone c2' c3;have plain:∀e':wo,e'.st=e.st->e'.mi=e.mi->e'.op=e.op->e'.me<=e.me->(e'.L=e.L\/∃v,e'.L=e.L.set k v/\0<=v/\v<=9)->e'.C.length=e.C.length->E9 K base (k+1) e':=by
    intro e' s1 s2 s3 s4 hL hC;obtain⟨k1,k2,k3,k4⟩:=mR (e':=e') hkl ih hL hC (fun _ h=>absurd h c3);refine⟨by rw[s1];exact ih.st,by rw[s1,s3];exact ih.op,by rw[ho,s2,s3];exact ih.cnt,fun d i h1 h2=>?_,fun d i h=>?_,k2,k3,k4,by rw[s1,s2];have:=ih.sz;omega⟩
    ·rw[ho]at h2;rw[s1,k1 i (hol d i h2)];exact ih.over d i (by rw[<-s2];exact h1) h2
    ·rw[ho,s2]at h;rw[s1,k1 i (hol _ i h)];exact ih.Du d i h
   by_cases c4:nth K k=18
   ·rw[ay c4]
    by_cases cm:0<e.mi
    ·rw[ay cm];exact plain e rfl rfl rfl (ak _) (.inl rfl) rfl
    ·rw[au cm]
     by_cases ce:0<e.me
     ·rw[ay ce];exact plain _ rfl rfl rfl (by dsimp only;omega) (.inl rfl) rfl
     ·rw[au ce]
      by_cases ci:(!(top e.st).l7 && decide (1<e.st.length))=true
      ·rw[ay ci]
       rw[b7,dJ]at ci;obtain⟨k1,k2,k3,k4⟩:=mR (e':={ e with st:=e.st.dropLast }) hkl ih (.inl rfl) rfl (fun _ h=>absurd h c3);have tR:e.mi=0:=by omega
       cases hr:e.st.reverse with
       | nil=>exact absurd hr ih.st.ne
       | cons x r =>
         have hx:x.l7=false:=by have h:=ci.1;rw[AY,hr]at h;simpa using h
         have hrn:r≠[]:=by
          intro h2;subst h2;have:=congrArg List.length hr;simp at this;omega
         have hs:=ih.st;rw[hr]at hs;have hd:e.st.dropLast.reverse=r:=by rw[OW,hr];rfl
         refine⟨by rw[show({ e with st:=e.st.dropLast }:wo).st=e.st.dropLast from rfl,hd];exact hs.pop hrn,?_,by rw[ho];exact ih.cnt,fun d i h1=>absurd h1 (by show ¬d<e.mi;omega),fun d i h=>?_,k2,k3,k4,?_⟩
         ·show e.op=mW e.st.dropLast.reverse
          rw[hd,ih.op,hr,mW,hx];rfl
         ·rw[ho]at h
          show under e.st.dropLast.reverse d=some (nth e.L i);have:=ih.Du d i h;rw[hr,OU x r d hx]at this;rw[hd];exact this
         ·have:=ih.sz;show e.st.dropLast.length<=_/\_;rw[eH];show _/\e.mi<=_/\e.me<=_;omega
      ·rw[au ci];exact plain e rfl rfl rfl (ak _) (.inl rfl) rfl
   rw[au c4];by_cases c5:nth K k=10
   ·rw[ay c5];exact plain _ rfl rfl rfl (ak _) (.inr ⟨base,rfl,by omega,by omega⟩) rfl
   rw[au c5];by_cases c6:nth K k=9
   ·rw[ay c6];exact plain e rfl rfl rfl (ak _) (.inl rfl) rfl
   rw[au c6];exact plain _ rfl rfl rfl (ak _) (.inr ⟨_,rfl,htop.1,htop.2.1⟩) (yP e k)
theorem sF {K:List Int}{base:Int}(hb:base=0\/base=1){a b:List Nat}(ha:gN a<K.length)(hf:follows K a b=true):nth (gK K base K.length).L (gq b)=nth (gK K base K.length).L (gN a):=by
 unfold follows at hf;rw[b7,beq_iff_eq]at hf;have h:=nM K base hb K.length (ak _);have hlt:gq b<K.length:=by
  have hp:=pO K (gN a) ha;rw[hf.1,ay rfl,hf.2]at hp;exact(rq K _ _ _ hp).1
 exact h.pair _ _ ha hf.1 hf.2 hlt
end Go.Proofs.YtnakejhohdbfdaaGreatDoor.jN
namespace Go.Proofs.YtnakejhohdbfdaaGreatDoor.jN
theorem F_ (K:List Int)(rs:List (List Nat)):∀k p a,(i_ K rs k).aw p=some a->a<(i_ K rs k).all.length
 | 0,p,a,h=>by cases h
 | k+1,p,a,h=>by
   have ih:=F_ K rs k;rw[i_,pY]at h ⊢;cases hx:(i_ K rs k).aw (gq (run rs k))with
   | some b =>
     rw[hx]at h;dsimp only[yO]at h ⊢;rw[aY];by_cases hl:leads K (run rs k)=some p
     ·rw[ay hl]at h;cases h;exact ih _ _ hx
     ·rw[au hl]at h;exact ih _ _ h
   | none =>
     rw[hx]at h;dsimp only[yO]at h ⊢;rw[aG];by_cases hl:leads K (run rs k)=some p
     ·rw[ay hl]at h;cases h;simp
     ·rw[au hl]at h;have:=ih _ _ h;simp;omega
def ow (K:List Int)(rs:List (List Nat))(k:Nat):Nat:=match (i_ K rs k).aw (gq (run rs k))with | some a=>a | none=>(i_ K rs k).all.length
theorem xM (K:List Int)(rs:List (List Nat)):∀k s x,(∃y,(i_ K rs k).all[s]?=some y/\x∈y) ↔ ∃t,t<k/\ow K rs t=s/\x∈run rs t
 | 0,s,x=>by
   constructor
   ·rintro ⟨y,h,_⟩;simp[i_]at h
   ·rintro ⟨t,h,_⟩;omega
 | k+1,s,x=>by
   have ih:=xM K rs k s x;have split:(∃t,t<k+1/\ow K rs t=s/\x∈run rs t) ↔ (∃t,t<k/\ow K rs t=s/\x∈run rs t)\/(ow K rs k=s/\x∈run rs k):=by
    constructor
    ·rintro ⟨t,h1,h2⟩
     rcases aA (aM h1)with h | h
     ·exact .inl ⟨t,h,h2⟩
     ·subst h;exact .inr h2
    ·rintro (⟨t,h1,h2⟩ | h)
     ·exact⟨t,by omega,h2⟩
     ·exact⟨k,bJ _,h⟩
   rw[split,<-ih];rw[i_,pY];unfold ow;cases hx:(i_ K rs k).aw (gq (run rs k))with
   | some a =>
     have hal:=F_ K rs k _ _ hx;dsimp only;by_cases hs:a=s
     ·subst hs
      rw[aQ hal,az hal];constructor
      ·rintro ⟨y,h1,h2⟩
       cases h1
       rcases bD.1 h2 with h | h
       ·exact .inl ⟨_,rfl,h⟩
       ·exact .inr ⟨rfl,h⟩
      ·rintro (⟨y,h1,h2⟩ | ⟨_,h⟩)
       ·cases h1;exact⟨_,rfl,dV _ h2⟩
       ·exact⟨_,rfl,eD _ h⟩
     ·rw[aU hs]
      constructor
      ·intro h;exact .inl h
      ·rintro (h | ⟨h,_⟩)
       ·exact h
       ·exact absurd h hs
   | none =>
     dsimp only
     rcases bT s (i_ K rs k).all.length with h1 | h1 | h1
     ·rw[aJ h1]
      constructor
      ·intro h;exact .inl h
      ·rintro (h | ⟨h,_⟩)
       ·exact h
       ·omega
     ·subst h1
      rw[aI (ak _),bY,bq (ak _)];constructor
      ·rintro ⟨y,h2,h3⟩
       simp at h2;subst h2;exact .inr ⟨rfl,h3⟩
      ·rintro (⟨y,h2,_⟩ | ⟨_,h⟩)
       ·cases h2
       ·exact⟨_,rfl,h⟩
     ·rw[bq (by simp;omega),bq (by omega)]
      constructor
      ·rintro ⟨y,h2,_⟩;cases h2
      ·rintro (⟨y,h2,_⟩ | ⟨h,_⟩)
       ·cases h2
       ·omega
theorem IV {K:List Int}{rs:List (List Nat)}(h:jy K rs){s s' x:Nat}{I I':List Nat}(hI:(ny K rs)[s]?=some I)(hI':(ny K rs)[s']?=some I')(hx:x∈I)(hx':x∈I'):s=s':=by
 rw[<-xL h]at hI hI';obtain⟨t,h1,h2,h3⟩:=(xM K rs rs.length s x).1 ⟨I,hI,hx⟩;obtain⟨t',h1',h2',h3'⟩:=(xM K rs rs.length s' x).1 ⟨I',hI',hx'⟩;have:t=t':=by
  rcases bT t t' with e | e | e
  ·have:=h.before e h1' h3 h3';omega
  ·exact e
  ·have:=h.before e h1 h3' h3;omega
 subst this;omega
theorem OX {K:List Int}{rs:List (List Nat)}(h:jy K rs)(hf:rs.flatten=ng K K.length){x:Nat}(hx:x<K.length)(hg:gone (nth K x)=false):∃(s:Nat) (I:List Nat),(ny K rs)[s]?=some I/\x∈I:=by
 have hm:=OL K K.length x hx hg;rw[<-hf]at hm;obtain⟨r,hr,hxr⟩:=eJ.1 hm;obtain⟨t,ht,he⟩:=bz hr;obtain⟨y,h1,h2⟩:=(xM K rs rs.length (ow K rs t) x).2 ⟨t,ht,rfl,by rw[run_get ht,he];exact hxr⟩;exact⟨_,y,by rw[<-xL h];exact h1,h2⟩
theorem sH {K:List Int}{rs:List (List Nat)}:∀m,m<=rs.length->∀I∈jZ K rs m,∃i,i<rs.length/\I=ch K rs i
 | 0,_,I,h=>by cases h
 | m+1,hm,I,h=>by
   rw[jZ]at h;split at h
   ·rcases bD.1 h with h1 | h1
    ·exact sH m (by omega) I h1
    ·rw[aj.1 h1];exact⟨m,by omega,rfl⟩
   ·exact sH m (by omega) I h
theorem zV {K L:List Int}{rs:List (List Nat)}(hr:qQ K L K.length rs)(ho:jy K rs)
 (hf:∀a b:List Nat,gN a<K.length->follows K a b=true->nth L (gq b)=nth L (gN a)):∀f i,i<rs.length->∀x∈chain K rs f i,nth L x=nth L (gq (run rs i))
 | 0,_,_,x,h=>by cases h
 | f+1,i,hi,x,h=>by
   rw[chain]at h
   rcases bD.1 h with h1 | h1
   ·exact hr.Lo _ (kU hi) x h1
   ·cases hn:jQ K rs (run rs i) rs.length with
    | none=>rw[hn]at h1;cases h1
    | some j =>
      rw[hn]at h1;obtain⟨a,b⟩:=jq _ _ hn;have hl:=jI (ho.ne i hi);rw[zV hr ho hf f j a x h1,hf _ _ (ho.mem hi hl).1 b];exact hr.Lo _ (kU hi) _ hl
theorem pG {I:List Nat}{x:Nat}(hx:x ∉ I)(C:List Int){k:Nat}(hk:k<I.length)(v:Int):nth (put I C k v) x=nth C x:=by
 unfold put;rw[pW,au];intro h;apply hx;rw[h.1,gZ hk];exact aT hk
theorem yQ {K:List Int}{s:Sq}{x:Nat}(hx:x ∉ s.I)(C:List Int):∀k,k<=s.I.length->nth (gQ K s k C) x=nth C x
 | 0,_=>rfl
 | k+1,hk=>by
   rw[gQ,iQ];split
   ·rw[pG hx _ (by omega)];exact yQ hx C k (by omega)
   ·exact yQ hx C k (by omega)
theorem BA {I:List Nat}{x:Nat}(hx:x ∉ I)(al:Bool)(letter v:Int)(q:Int × List Int):∀k,k<=I.length->nth (iw I al letter v k q).2 x=nth q.2 x
 | 0,_=>rfl
 | k+1,hk=>by
   have ih:=BA hx al letter v q k (by omega);rw[iw,iW];split
   ·exact ih
   ·split
    ·rw[pG hx _ (by omega)];exact ih
    ·exact ih
theorem IW {I:List Nat}{x:Nat}(hx:x ∉ I)(C:List Int):∀k,k<=I.length->nth (mP I k C) x=nth C x
 | 0,_=>rfl
 | k+1,hk=>by
   rw[mP,nJ];split
   ·rw[pG hx _ (by omega)];exact IW hx C k (by omega)
   ·exact IW hx C k (by omega)
theorem Fb {s:Sq}{x:Nat}(hx:x ∉ s.I)(C:List Int):∀k,k<=s.I.length->nth (ku s k C) x=nth C x
 | 0,_=>rfl
 | k+1,hk=>by
   rw[ku,jX];split
   ·rw[pG hx _ (by omega)];exact Fb hx C k (by omega)
   ·exact Fb hx C k (by omega)
theorem yR {I:List Nat}{x:Nat}(hx:x ∉ I)(C:List Int):∀k,k<=I.length->nth (iL I k C) x=nth C x
 | 0,_=>rfl
 | k+1,hk=>by
   rw[iL,jY];split
   ·rw[pG hx _ (by omega)];exact yR hx C k (by omega)
   ·exact yR hx C k (by omega)
theorem BB {I:List Nat}{x:Nat}(hx:x ∉ I)(a:Nat)(v:Int)(C:List Int):∀d,a+d<=I.length->nth (iE I a v d C) x=nth C x
 | 0,_=>rfl
 | d+1,h=>by rw[iE,pG hx _ (by omega)];exact BB hx a v C d (by omega)
theorem BC {I:List Nat}{fit:Int->Bool}{act:Nat->Nat->List Int->List Int}{x:Nat}(ha:∀a b C,a<b->b<=I.length->nth (act a b C) x=nth C x)(C:List Int):∀k,k<=I.length->nth (jg I fit act k (0,C)).2 x=nth C x
 | 0,_=>rfl
 | k+1,hk=>by
   have ih:=BC (fit:=fit) ha C k (by omega);rw[jg,lD];split
   ·exact ih
   ·dsimp only
    split
    ·rename_i h;rw[ha _ _ _ h (by omega)];exact ih
    ·exact ih
theorem Ga {I:List Nat}{fit:Int->Bool}{act:Nat->Nat->List Int->List Int}{x:Nat}(ha:∀a b C,a<b->b<=I.length->nth (act a b C) x=nth C x)(C:List Int):nth (scan I fit act C) x=nth C x:=by
 have h:=BC (fit:=fit) ha C I.length (ak _);unfold scan qF;split
 ·rename_i h2;rw[ha _ _ _ h2 (ak _)];exact h
 ·exact h
theorem OY {K:List Int}{s:Sq}{x:Nat}(hx:x ∉ s.I)(C:List Int):nth (weak K s C) x=nth C x:=by
 unfold weak;rw[BA hx _ _ _ _ _ (ak _)];dsimp only;rw[yR hx _ _ (ak _),Ga,Fb hx _ _ (ak _),IW hx _ _ (ak _),BA hx _ _ _ _ _ (ak _)]
 ·exact yQ hx C _ (ak _)
 ·intro a b C h1 h2
  unfold kA;split
  ·exact BB hx a 3 C (b - a) (by omega)
  ·rfl
theorem Kv {K:List Int}{I:List Nat}{x:Nat}(hx:x ∉ I)(v:Int):∀f j (C:List Int),nth (lW K I v f j C) x=nth C x
 | 0,_,_=>rfl
 | f+1,j,C=>by
   rw[lW];split
   ·rename_i h;rw[Kv hx v f (j+1),pG hx _ h.1]
   ·rfl
theorem sI {K:List Int}{I:List Nat}{x:Nat}(hx:x ∉ I){k:Nat}(hk:k<I.length)(v:Int)(C:List Int):nth (become K I k v C) x=nth C x:=by
 rw[become,Kv hx,pG hx _ hk]
theorem OZ {K:List Int}{s:Sq}{x:Nat}(hx:x ∉ s.I)(ps:List (Nat × Nat))(hps:∀i,i<ps.length->((ps[i]?).getD (0,0)).1<((ps[i]?).getD (0,0)).2/\((ps[i]?).getD (0,0)).2<s.I.length)(C:List Int):∀i,i<=ps.length->nth (jH K s ps i C) x=nth C x
 | 0,_=>rfl
 | i+1,hi=>by
   have ih:=OZ (K:=K) hx ps hps C i (by omega);obtain⟨h1,h2⟩:=hps i (by omega);rw[jH,nK];split
   ·rw[sI hx h2,sI hx (by omega)];exact ih
   ·split
    ·rw[sI hx h2,sI hx (by omega)];exact ih
    ·exact ih
theorem Lr {R K:List Int}{s:Sq}{x:Nat}(hx:x ∉ s.I)(C:List Int):nth (rules R K s C) x=nth C x:=by
 unfold rules neutral brackets;rw[Ga,OZ hx _ (fun i hi=>Bq R s.I _ i hi) _ _ (ak _)]
 ·exact OY hx C
 ·intro a b C h1 h2
  unfold kH;exact BB hx a _ C (b - a) (by omega)
end Go.Proofs.YtnakejhohdbfdaaGreatDoor.jN
namespace Go.Proofs.YtnakejhohdbfdaaGreatDoor.jN
def jA (K:List Int)(base:Int):Nat->List Int->Int × List Int
 | 0,L=>(base,L)
 | i+1,L=>if gone (nth K i)then((jA K base i L).1,(jA K base i L).2.set i (jA K base i L).1)else(nth (jA K base i L).2 i,(jA K base i L).2)
theorem BD {K C L L':List Int}{base:Int}(hn:L.length=K.length)(hn':L'.length=K.length)
 (h:∀i,i<K.length->gone (nth K i)=false->nth L' i=nth L i+up (nth L i) (nth C i)):∀k,k<=K.length ->
 (gU K C base k L).1=(jA K base k L').1/\(gU K C base k L).2.length=K.length/\(jA K base k L').2.length=K.length /\
 (∀i,i<k->nth (gU K C base k L).2 i=nth (jA K base k L').2 i)/\(∀i,k<=i->nth (gU K C base k L).2 i=nth L i/\nth (jA K base k L').2 i=nth L' i)
 | 0,_=>⟨rfl,hn,hn',fun i hi=>by omega,fun i _=>⟨rfl,rfl⟩⟩
 | k+1,hk=>by
   obtain⟨a,b,c,d,e⟩:=BD hn hn' h k (by omega);rw[gU,jA];generalize gU K C base k L=q at *;generalize jA K base k L'=p at *;have lq:k<q.2.length:=by omega
   have lp:k<p.2.length:=by omega
   cases hg:gone (nth K k)
   ·rw[au aE]
    have e1:=(e k (ak _)).1;have e2:=(e k (ak _)).2;have h3:=h k (by omega) hg;refine⟨?_,by dsimp only;rw[aY];exact b,c,fun i hi=>?_,fun i hi=>?_⟩
    ·dsimp only;rw[au aE];dsimp only;rw[e2,h3,e1]
    ·dsimp only
     rw[au aE,iX lq];by_cases hik:i=k
     ·subst hik;rw[ay rfl,e2,h3,e1]
     ·rw[au hik];exact d i (by omega)
    ·dsimp only
     rw[au aE,iX lq,au (by omega)];exact e i (by omega)
   ·rw[ay rfl]
    refine⟨by simpa using a,by simpa using b,by simpa using c,fun i hi=>?_,fun i hi=>?_⟩
    ·dsimp only
     rw[ay rfl];dsimp only;rw[iX lq,iX lp];by_cases hik:i=k
     ·rw[ay hik,ay hik];exact a
     ·rw[au hik,au hik];exact d i (by omega)
    ·dsimp only
     rw[ay rfl];dsimp only;rw[iX lq,iX lp,au (by omega),au (by omega)];exact e i (by omega)
theorem xN {l l':List Int}(hl:l.length=l'.length)(h:∀i,i<l.length->nth l i=nth l' i):l=l':=by
 refine List.ext_getElem hl (fun i h1 h2=>?_);have:=h i h1;unfold nth at this;rw[az h1,az h2]at this;exact this
theorem DG {K C L L':List Int}{base:Int}(hn:L.length=K.length)(hn':L'.length=K.length)
 (h:∀i,i<K.length->gone (nth K i)=false->nth L' i=nth L i+up (nth L i) (nth C i)):(gU K C base K.length L).2=(jA K base K.length L').2:=by
 obtain⟨_,b,c,d,_⟩:=BD (C:=C) (base:=base) hn hn' h K.length (ak _);exact xN (b.trans c.symm) (fun i hi=>d i (by rw[<-b];exact hi))
def lift (lv c:Int):Int:=if lv % 2=0/\(c=3\/c=6)then 2 else if c≠way lv then 1 else 0
def lA (I:List Nat)(lv:Int)(C:List Int):Nat->List Int->List Int
 | 0,L=>L
 | k+1,L=>put I (lA I lv C k L) k (cl I (lA I lv C k L) k+lift lv (cl I C k))
theorem BE (I:List Nat)(lv:Int)(C L:List Int):∀k,(lA I lv C k L).length=L.length
 | 0=>rfl
 | k+1=>by rw[lA,lu];exact BE I lv C L k
theorem BF {I:List Nat}{x:Nat}(hx:x ∉ I)(lv:Int)(C L:List Int):∀k,k<=I.length->nth (lA I lv C k L) x=nth L x
 | 0,_=>rfl
 | k+1,hk=>by rw[lA,pG hx _ (by omega)];exact BF hx lv C L k (by omega)
theorem Fc {I:List Nat}(hI:inj I){L:List Int}(hw:within I L)(lv:Int)(C:List Int):∀k,k<=I.length->(∀j,j<k->cl I (lA I lv C k L) j=cl I L j+lift lv (cl I C j))/\(∀j,k<=j->j<I.length->cl I (lA I lv C k L) j=cl I L j)
 | 0,_=>⟨fun j hj=>by omega,fun j _ _=>rfl⟩
 | k+1,hk=>by
   obtain⟨a,b⟩:=Fc hI hw lv C k (by omega);rw[lA];refine⟨fun j hj=>?_,fun j h1 h2=>?_⟩
   ·rcases aA (aM hj)with h | h
    ·rw[pF hI _ _ (by omega) (by omega) (by omega)];exact a j h
    ·subst h
     rw[oU _ (by rw[BE];exact hw j (by omega)),b j (ak _) (by omega)]
   ·rw[pF hI _ _ (by omega) h2 (by omega)];exact b j (by omega) h2
def kV (R K L0:List Int)(base:Int)(ss:List (List Nat))(C0:List Int):Nat->List Int
 | 0=>L0
 | i+1=>lA (run ss i) (nth L0 (gq (run ss i))) (iI R K L0 base ss (i+1) C0) (run ss i).length (kV R K L0 base ss C0 i)
structure Xl (K L0:List Int)(ss:List (List Nat)):Prop where
 so:∀i,i<ss.length->(run ss i).Pairwise (· < ·)
 lt:∀i x,i<ss.length->x∈run ss i->x<K.length
 Lo:∀i x,i<ss.length->x∈run ss i->nth L0 x=nth L0 (gq (run ss i))
 ap:∀i j x,i<ss.length->j<ss.length->x∈run ss i->x∈run ss j->i=j
theorem tS {R K L0:List Int}{base:Int}{ss:List (List Nat)}{C0:List Int}:∀i,(kV R K L0 base ss C0 i).length=L0.length
 | 0=>rfl
 | i+1=>by rw[kV,BE];exact tS i
theorem oV {R K L0:List Int}{base:Int}{ss:List (List Nat)}{C0:List Int}{x:Nat}:∀i j,i<=j->(∀t,i<=t->t<j->x ∉ run ss t)->nth (iI R K L0 base ss j C0) x=nth (iI R K L0 base ss i C0) x
 | i,0,h,_=>by rw[show i=0 by omega]
 | i,j+1,h,hx=>by
   rcases aA h with h1 | h1
   ·rw[iI,Lr (s:=lV K L0 base (run ss j)) (show x ∉ run ss j from hx j (by omega) (bJ _))]
    exact oV i j (by omega) (fun t a b=>hx t a (by omega))
   ·rw[h1]
theorem wC {R K L0:List Int}{base:Int}{ss:List (List Nat)}{C0:List Int}(ho:Xl K L0 ss)(hl:L0.length=K.length):∀i,i<=ss.length ->
 (∀t x,t<i->x∈run ss t->nth (kV R K L0 base ss C0 i) x=nth L0 x+lift (nth L0 x) (nth (iI R K L0 base ss ss.length C0) x)) /\
 (∀x,(∀t,t<i->x ∉ run ss t)->nth (kV R K L0 base ss C0 i) x=nth L0 x)
 | 0,_=>⟨fun t x h=>by omega,fun x _=>rfl⟩
 | i+1,hi=>by
   obtain⟨a,b⟩:=wC (R:=R) (base:=base) (C0:=C0) ho hl i (by omega);have hsz:=tS (R:=R) (K:=K) (L0:=L0) (base:=base) (ss:=ss) (C0:=C0) i;have hw:within (run ss i) (kV R K L0 base ss C0 i):=fun k hk=>by
    rw[hsz,hl,gZ hk];exact ho.lt i _ (by omega) (aT hk)
   rw[kV];refine⟨fun t x ht hx=>?_,fun x hx=>?_⟩
   ·by_cases hti:t=i
    ·subst hti
     obtain⟨k,hk,he⟩:=bz hx;have g:=(Fc (sE (ho.so t (by omega))) hw (nth L0 (gq (run ss t))) (iI R K L0 base ss (t+1) C0) _ (ak _)).1 k hk;unfold cl at g;rw[gZ hk,he]at g;rw[g,b x (fun t' h1 h2=>by have:=ho.ap t' t x (by omega) (by omega) h2 hx;omega),ho.Lo t x (by omega) hx];rw[oV (t+1) ss.length hi (fun t' h1 h2 h3=>by have:=ho.ap t' t x h2 (by omega) h3 hx;omega)]
    ·rw[BF (fun h2=>hti (ho.ap t i x (by omega) (by omega) hx h2)) _ _ _ _ (ak _)]
     exact a t x (by omega) hx
   ·rw[BF (hx i (bJ _)) _ _ _ _ (ak _)]
    exact b x (fun t h=>hx t (by omega))
end Go.Proofs.YtnakejhohdbfdaaGreatDoor.jN
namespace Go.Proofs.YtnakejhohdbfdaaGreatDoor.jN
def ZC (K C:List Int):Prop:=∀i,nth C i=nth K i\/nth C i=0\/nth C i=1
theorem TA {K C:List Int}(h:ZC K C)(k:Nat){v:Int}(hv:v=0\/v=1):ZC K (C.set k v):=by
 intro i;rw[pW];split
 ·exact .inr hv
 ·exact h i
theorem rz {K:List Int}{e:wo}(h:ZC K e.C)(ht:qH (top e.st))(k:Nat):ZC K (hold e k).C:=by
 unfold hold;dsimp only;split
 ·exact h
 ·rename_i hn
  refine TA h k ?_
  rcases ht.2.2 with x | x | x
  ·exact absurd x hn
  ·exact .inl x
  ·exact .inr x
theorem O0 (K:List Int)(base:Int)(hb:base=0\/base=1):∀k,k<=K.length->ZC K (gK K base k).C
 | 0,_=>fun _=>.inl rfl
 | k+1,hk=>by
   have ih:=O0 K base hb k (by omega);have iv:=nM K base hb k (by omega);have ht:=tQ iv.st;rw[gK];generalize gK K base k=e at *;unfold iB;split
   ·split
    ·exact ih
    ·split
     ·exact ih
     ·exact ih
   ·split
    ·split
     ·exact rz ih ht k
     ·exact rz ih ht k
    ·split
     ·split
      ·exact rz (e:={ e with mi:=e.mi - 1 }) ih ht k
      ·split
       ·rename_i h1 h2
        have DF:0<mW e.st.reverse:=by rw[<-iv.op];exact h2
        refine rz (e:={ e with me:=0,st:=lS e.st.length e.st,op:=e.op - 1 }) ih ?_ k;refine tQ (e:={ e with me:=0,st:=lS e.st.length e.st,op:=e.op - 1 }) ?_;show qo (lS e.st.length e.st).reverse;rw[tO _ _ (ak _)];exact iv.st.ru DF
       ·exact rz ih ht k
     ·split
      ·split
       ·exact ih
       ·split
        ·exact ih
        ·split
         ·exact ih
         ·exact ih
      ·split
       ·exact ih
       ·split
        ·exact ih
        ·exact rz ih ht k
theorem Wq {K C:List Int}(h:ZC K C)(hK:∀i,0<=nth K i/\nth K i<=22){x:Nat}(hg:gone (nth K x)=false):S0 (nth C x):=by
 unfold S0
 rcases h x with e | e | e
 ·rw[e]
  have:=hK x;unfold gone at hg;simp at hg;omega
 ·rw[e];omega
 ·rw[e];omega
theorem Lt {K:List Int}{rs:List (List Nat)}(h:jy K rs){i:Nat}(hi:i<rs.length):gq (ch K rs i)=gq (run rs i):=by
 rw[ch_eq h hi,lK (h.ne i hi)]
theorem O1 (K:List Int)(base:Int)(hb:base=0\/base=1):Xl K (gK K base K.length).L (ny K (ig K (gK K base K.length).L K.length))/\(∀i x,i<(ny K (ig K (gK K base K.length).L K.length)).length->x∈run (ny K (ig K (gK K base K.length).L K.length)) i->gone (nth K x)=false):=by
 generalize hL:(gK K base K.length).L=L;have hr:=oJ K L K.length;have ho:=oK K L;have hf:∀a b:List Nat,gN a<K.length->follows K a b=true->nth L (gq b)=nth L (gN a):=fun a b h1 h2=>by rw[<-hL];exact sF hb h1 h2
 generalize ig K L K.length=rs at *;have hch:∀i,i<(ny K rs).length->∃j,j<rs.length/\run (ny K rs) i=ch K rs j:=fun i hi=>sH rs.length (ak _) _ (kU hi)
 have hmem:∀i x,i<(ny K rs).length->x∈run (ny K rs) i->x<K.length/\gone (nth K x)=false:=fun i x hi hx=>by
  obtain⟨j,h1,h2⟩:=hch i hi;rw[h2]at hx;obtain⟨j',_,h4,h5⟩:=uI ho _ j h1 x hx;exact ho.mem h4 h5
 refine⟨⟨fun i hi=>?_,fun i x hi hx=>(hmem i x hi hx).1,fun i x hi hx=>?_,fun i j x hi hj h1 h2=>?_⟩,fun i x hi hx=>(hmem i x hi hx).2⟩
 ·obtain⟨j,h1,h2⟩:=hch i hi
  rw[h2];exact sD ho _ j h1
 ·obtain⟨j,h1,h2⟩:=hch i hi
  rw[h2]at hx ⊢;rw[Lt ho h1];exact zV hr ho hf _ j h1 x hx
 ·exact IV ho (s:=i) (s':=j) (az hi) (az hj) (by rw[<-run_get hi];exact h1) (by rw[<-run_get hj];exact h2)
theorem wD (l:Int):way l=0\/way l=1:=by unfold way;split;exact .inr rfl;exact .inl rfl
theorem tT {R K L0:List Int}{base:Int}{ss:List (List Nat)}{C0:List Int}(h:∀i C,(rules R K (lV K L0 base (run ss i)) C).length=C.length):∀i,(iI R K L0 base ss i C0).length=C0.length
 | 0=>rfl
 | i+1=>by rw[iI,h i];exact tT h i
theorem D8 (R K:List Int)(s:Sq)(C:List Int):(rules R K s C).length=C.length:=by
 unfold rules;rw[OI,brackets,E6];unfold weak;rw[q9,q_,IP,xI,yM,q9];exact pP K s C _
theorem IX (R K:List Int)(base:Int)(hb:base=0\/base=1)(hK:∀i,0<=nth K i/\nth K i<=22) :
 levels R K base=(jA K base K.length (kV R K (gK K base K.length).L base (ny K (ig K (gK K base K.length).L K.length)) (gK K base K.length).C (ny K (ig K (gK K base K.length).L K.length)).length)).2:=by
 have hi:=nM K base hb K.length (ak _);have hc:=O0 K base hb K.length (ak _);obtain⟨ho,hng⟩:=O1 K base hb;have hrun:=oJ K (gK K base K.length).L K.length;have TB:=oK K (gK K base K.length).L;unfold levels;dsimp only;generalize gK K base K.length=e at *;generalize ig K e.L K.length=rs at *;generalize hss:ny K rs=ss at *;refine DG hi.len.1 (by rw[tS];exact hi.len.1) (fun x hx hg=>?_);obtain⟨s,I,hI,Xm⟩:=OX TB hrun.flat hx hg;rw[hss]at hI;have hs:s<ss.length:=(bg.1 hI).1;have hrs:run ss s=I:=by unfold run;rw[hI];rfl
 have hxr:x∈run ss s:=by rw[hrs];exact Xm
 rw[(wC (R:=R) (base:=base) (C0:=e.C) ho hi.len.1 ss.length (ak _)).1 s x hs hxr]
 -- the class at x in the end is one of four
 have hout:∀y,y∈run ss s->nth (iI R K e.L base ss s e.C) y=nth e.C y:=fun y hy=>by
  rw[oV 0 s (aH _) (fun t _ h2 h3=>by have:=ho.ap t s y (by omega) hs h3 hy;omega)];rfl
 have hlen:(iI R K e.L base ss s e.C).length=e.C.length:=tT (fun _ C=>D8 R K _ C) s;have hw:within (run ss s) (iI R K e.L base ss s e.C):=fun k hk=>by
  rw[hlen,hi.len.2,gZ hk];exact ho.lt s _ hs (aT hk)
 have hS:Among S0 (run ss s) (iI R K e.L base ss s e.C) (run ss s).length:=fun j hj=>by
  unfold cl;rw[gZ hj,hout _ (aT hj)];exact Wq hc hK (hng s _ hs (aT hj))
 have hF:=(OK (R:=R) (K:=K) (s:=lV K e.L base (run ss s)) (sE (ho.so s hs)) hw (wD _) (wD _) hS).1;obtain⟨k,hk,he⟩:=bz hxr;have h4:=hF k hk;unfold cl at h4;rw[show fX (lV K e.L base (run ss s)).I k=x by rw[show(lV K e.L base (run ss s)).I=run ss s from rfl,gZ hk];exact he]at h4;have hfin:nth (iI R K e.L base ss ss.length e.C) x=nth (rules R K (lV K e.L base (run ss s)) (iI R K e.L base ss s e.C)) x:=by
  rw[oV (s+1) ss.length (by omega) (fun t h1 h2 h3=>by have:=ho.ap t s x h2 hs h3 hxr;omega)];rfl
 rw[hfin];rw[Ty _ _ h4];rfl
end Go.Proofs.YtnakejhohdbfdaaGreatDoor.jN
namespace Go.Proofs.YtnakejhohdbfdaaGreatDoor.jN
def jB (r:Int):Int:=if r=40 then 41 else if r=91 then 93 else if r=123 then 125 else if r=12296 then 12297 else if r=12298 then 12299 else 0
theorem zW (r:Int):(jB r≠0) ↔ opens r=true:=by
 unfold jB opens;by_cases h1:r=40
 ·subst h1;simp
 by_cases h2:r=91
 ·subst h2;simp
 by_cases h3:r=123
 ·subst h3;simp
 by_cases h4:r=12296
 ·subst h4;simp
 by_cases h5:r=12298
 ·subst h5;simp
 simp[h1,h2,h3,h4,h5]
theorem tU {b:Int}(hb:opens b=true)(r:Int):jB b=r ↔ (shuts r≠0/\b=shuts r):=by
 have hb':b=40\/b=91\/b=123\/b=12296\/b=12298:=by unfold opens at hb;simp at hb;omega
 unfold shuts;by_cases h1:r=41
 ·subst h1;rcases hb' with h | h | h | h | h <;> subst h <;> simp[jB]
 by_cases h2:r=93
 ·subst h2;rcases hb' with h | h | h | h | h <;> subst h <;> simp[jB]
 by_cases h3:r=125
 ·subst h3;rcases hb' with h | h | h | h | h <;> subst h <;> simp[jB]
 by_cases h4:r=12297
 ·subst h4;rcases hb' with h | h | h | h | h <;> subst h <;> simp[jB]
 by_cases h5:r=12299
 ·subst h5;rcases hb' with h | h | h | h | h <;> subst h <;> simp[jB]
 rw[au h1,au h2,au h3,au h4,au h5];constructor
 ·intro e;exfalso
  rcases hb' with h | h | h | h | h <;> (rw[h]at e;simp[jB]at e;omega)
 ·rintro ⟨h,_⟩;exact absurd rfl h
theorem BG (R:List Int)(I:List Nat)(C:List Int):∀k,∀x∈(gF R I C k).st,opens (cl I R x)=true
 | 0,x,h=>by cases h
 | k+1,x,h=>by
   have ih:=BG R I C k;rw[gF]at h;generalize gF R I C k=p at *;unfold jh at h;split at h
   ·exact ih x h
   ·split at h
    ·exact ih x h
    ·split at h
     ·rename_i ho
      split at h
      ·exact ih x h
      ·rcases bD.1 h with h1 | h1
       ·exact ih x h1
       ·rw[aj.1 h1];exact ho
     ·split at h
      ·exact ih x h
      ·split at h
       ·exact ih x h
       ·exact ih x (eF h)
theorem zX (R:List Int)(I st:List Nat)(c:Int):∀m j,lT R I st c m=some j->j<m/\cl I R (fX st j)=c/\∀t,j<t->t<m->cl I R (fX st t)≠c
 | 0,j,h=>by cases h
 | m+1,j,h=>by
   rw[lT]at h;by_cases h1:cl I R (fX st m)=c
   ·rw[ay h1]at h;cases h;exact⟨bJ _,h1,fun t a b=>by omega⟩
   ·rw[au h1]at h
    obtain⟨a,b,d⟩:=zX R I st c m j h;refine⟨by omega,b,fun t h2 h3=>?_⟩
    rcases aA (aM h3)with h4 | h4
    ·exact d t h2 h4
    ·subst h4;exact h1
theorem zY (R:List Int)(I st:List Nat)(c:Int):∀m,lT R I st c m=none->∀t,t<m->cl I R (fX st t)≠c
 | 0,_,t,h=>by omega
 | m+1,h,t,ht=>by
   rw[lT]at h;by_cases h1:cl I R (fX st m)=c
   ·rw[ay h1]at h;cases h
   ·rw[au h1]at h
    rcases aA (aM ht)with h4 | h4
    ·exact zY R I st c m h t h4
    ·subst h4;exact h1
theorem TC {st:List Nat}(hs:st.Pairwise (· < ·)){j:Nat}(hj:j<st.length):st.filter (fun x=>decide (x<fX st j))=st.take j:=by
 have e:st=st.take j++(st[j] :: st.drop (j+1)):=by
  conv=>lhs;rw[<-cu j st,cA hj]
 have h1:(st.take j).filter (fun x=>decide (x<fX st j))=st.take j:=by
  rw[eM];intro x hx;obtain⟨t,ht,he⟩:=bz hx;rw[aP]at ht;rw[List.getElem_take]at he;have:=bn.1 hs t j (by omega) hj (by omega);rw[gZ hj];exact aZ (by omega)
 have h2:(st[j] :: st.drop (j+1)).filter (fun x=>decide (x<fX st j))=[]:=by
  rw[dh];intro x hx;rw[gZ hj]
  rcases bK.1 hx with h | h
  ·subst h;simp
  ·obtain⟨t,ht,he⟩:=bz h
   rw[bu]at ht;rw[List.getElem_drop]at he;have:=bn.1 hs j (j+1+t) hj (by omega) (by omega);simp;omega
 conv=>lhs;rw[e]
 rw[dH];rw[show fX (st.take j++st[j] :: st.drop (j+1)) j=fX st j by rw[<-e]];rw[h1,h2,cD]
theorem Lu {R:List Int}{I st:List Nat}(hs:st.Pairwise (· < ·))(ho:∀x∈st,opens (cl I R x)=true)(r:Int) :
 (∀j,(if shuts r=0 then none else lT R I st (shuts r) st.length)=some j->j<st.length/\jB (cl I R (fX st j))=r/\∀x∈st,jB (cl I R x)=r->x<=fX st j) /\
 ((if shuts r=0 then none else lT R I st (shuts r) st.length)=none->∀x∈st,jB (cl I R x)≠r):=by
 constructor
 ·intro j hj
  by_cases h0:shuts r=0
  ·rw[ay h0]at hj;cases hj
  ·rw[au h0]at hj
   obtain⟨a,b,c⟩:=zX _ _ _ _ _ _ hj;have hm:fX st j∈st:=by rw[gZ a];exact aT a
   refine⟨a,(tU (ho _ hm) r).2 ⟨h0,b⟩,fun x hx hc=>?_⟩;obtain⟨t,ht,he⟩:=bz hx
   rcases bP j t with h1 | h1
   ·exfalso
    refine c t h1 ht ?_;rw[gZ ht,he];exact((tU (ho x hx) r).1 hc).2
   ·rcases aA h1 with h2 | h2
    ·have:=bn.1 hs t j ht a h2
     rw[gZ a];omega
    ·subst h2;rw[gZ ht,he];exact ak _
 ·intro hn x hx hc
  obtain⟨h0,hb⟩:=(tU (ho x hx) r).1 hc;rw[au h0]at hn;obtain⟨t,ht,he⟩:=bz hx;refine zY _ _ _ _ _ hn t ht ?_;rw[gZ ht,he];exact hb
end Go.Proofs.YtnakejhohdbfdaaGreatDoor.jN
namespace Go.Proofs.YtnakejhohdbfdaaGreatDoor.jN
theorem wE (R:List Int)(I:List Nat)(C:List Int)(k:Nat)(h:(gF R I C k).stop=true):∀d,gF R I C (k+d)=gF R I C k
 | 0=>rfl
 | d+1=>by
   have ih:=wE R I C k h d;show jh R I C (k+d) (gF R I C (k+d))=_;rw[ih,jh,ay h]
theorem IY (p:Nat × Nat):∀(out:List (Nat × Nat)) (a:Nat),(∀t,t<a->((out[t]?).getD (0,0)).1<p.1)->a<=out.length->(a<out.length->¬((out[a]?).getD (0,0)).1<p.1)->su p out=out.take a++p :: out.drop a
 | [],a,_,ha,_=>by simp at ha;subst ha;rfl
 | q :: r,0,_,_,he=>by
   have:=he (by simp);simp at this;rw[su,au (by omega)];rfl
 | q :: r,a+1,h,ha,he=>by
   have h0:=h 0 (by omega);simp at h0;rw[su,ay h0,IY p r a (fun t ht=>by have:=h (t+1) (by omega);simpa using this) (by simp at ha;omega) (fun hl=>by have:=he (by simp;omega);simpa using this)];rfl
theorem wF (R:List Int)(I:List Nat)(C:List Int)(k:Nat)(p:Xi)(hs:p.stop=false) :
 (cl I C k≠13->jh R I C k p=p) /\
 (cl I C k=13->opens (cl I R k)=true->p.st.length=8->jh R I C k p={ p with stop:=true }) /\
 (cl I C k=13->opens (cl I R k)=true->p.st.length≠8->jh R I C k p={ p with st:=p.st++[k] }) /\
 (cl I C k=13->opens (cl I R k)=false->shuts (cl I R k)=0->jh R I C k p=p) /\
 (cl I C k=13->opens (cl I R k)=false->shuts (cl I R k)≠0->lT R I p.st (shuts (cl I R k)) p.st.length=none->jh R I C k p=p) /\
 (∀j,cl I C k=13->opens (cl I R k)=false->shuts (cl I R k)≠0->lT R I p.st (shuts (cl I R k)) p.st.length=some j->jh R I C k p={ p with st:=p.st.take j,out:=su (fX p.st j,k) p.out }):=by
 have h0:¬p.stop=true:=by rw[hs];exact aE
 refine⟨fun h=>?_,fun h h1 h2=>?_,fun h h1 h2=>?_,fun h h1 h2=>?_,fun h h1 h2 h3=>?_,fun j h h1 h2 h3=>?_⟩
 ·rw[jh,au h0,ay h]
 ·rw[jh,au h0,au (by omega),ay h1,ay h2]
 ·rw[jh,au h0,au (by omega),ay h1,au h2]
 ·rw[jh,au h0,au (by omega),au (by rw[h1];exact aE),ay h2]
 ·rw[jh,au h0,au (by omega),au (by rw[h1];exact aE),au h2,h3]
 ·rw[jh,au h0,au (by omega),au (by rw[h1];exact aE),au h2,h3]
theorem Gb {r:Int}(h:opens r=true):shuts r=0/\r≠0:=by
 unfold opens at h;simp at h;unfold shuts
 rcases h with(((h | h) | h) | h) | h <;> subst h <;> decide
end Go.Proofs.YtnakejhohdbfdaaGreatDoor.jN
namespace Go.Proofs.YtnakejhohdbfdaaGreatDoor.jN
def tV (K:List Int):Nat->List Bool
 | 0=>List.replicate K.length false
 | i+1=>if gone (nth K i)then(tV K i).set i true else tV K i
theorem AZ (K:List Int):∀i,(tV K i).length=K.length
 | 0=>by simp[tV]
 | i+1=>by rw[tV];split;rw[aY];exact AZ K i;exact AZ K i
theorem O2 (K:List Int):∀i,i<=K.length->∀j,j<K.length->((tV K i)[j]?).getD false=(decide (j<i) && gone (nth K j))
 | 0,_,j,hj=>by simp[tV,hj]
 | i+1,hi,j,hj=>by
   have ih:=O2 K i (by omega) j hj;rw[tV];by_cases hg:gone (nth K i)=true
   ·rw[ay hg]
    by_cases hji:j=i
    ·subst hji
     rw[aQ (by rw[AZ];exact hj),hg];simp
    ·rw[aU (fun h=>hji h.symm),ih,show decide (j<i)=decide (j<i+1) by simp;omega]
   ·rw[au hg,ih]
    by_cases hji:j=i
    ·subst hji
     simp only[Bool.not_eq_true]at hg;rw[hg];simp
    ·rw[show decide (j<i)=decide (j<i+1) by simp;omega]
theorem TD (K:List Int)(j:Nat)(hj:j<K.length):((tV K K.length)[j]?).getD false=gone (nth K j):=by
 rw[O2 K K.length (ak _) j hj];simp[hj]
theorem Kw {e:wo}(h:qH (top e.st))(i:Nat):(hold e i).C=if 0<=(top e.st).ov then e.C.set i (top e.st).ov else e.C:=by
 show(if(top e.st).ov=-1 then e.C else e.C.set i (top e.st).ov)=_
 rcases h.2.2 with h | h | h <;> rw[h] <;> rfl
theorem m5 {K:List Int}{base:Int}{i:Nat}{e:wo}{c nx:Int}(hc:nth K i=c)(hb:begins c=true)(hx:nx=jG (top e.st).lv (jm K i)) :
 (fits e nx=true->iB K base i e={ e with st:=e.st++[⟨nx,DE c,false⟩] }) /\
 (fits e nx=false->e.mi=0->iB K base i e={ e with me:=e.me+1 }) /\
 (fits e nx=false->e.mi≠0->iB K base i e=e):=by
 subst hc;subst hx;refine⟨fun h=>?_,fun h h1=>?_,fun h h1=>?_⟩
 ·rw[iB,ay hb,ay h]
 ·rw[iB,ay hb,au (by rw[h];exact aE),ay h1]
 ·rw[iB,ay hb,au (by rw[h];exact aE),au h1]
theorem TE {c:Int}(h:j6 c=true):begins c=false/\gone c=false/\c≠22:=by
 unfold j6 at h;simp at h
 rcases h with(h | h) | h <;> subst h <;> decide
theorem uJ {K:List Int}{base:Int}{i:Nat}{e:wo}{c nx:Int}(hc:nth K i=c)(hb:j6 c=true)(hx:nx=jG (top e.st).lv (jm K i)) :
 (fits e nx=true->iB K base i e={ hold e i with op:=e.op+1,st:=e.st++[⟨nx,-1,true⟩] }) /\
 (fits e nx=false->iB K base i e={ hold e i with mi:=e.mi+1 }):=by
 have hn:=(TE hb).1;subst hc;subst hx;refine⟨fun h=>?_,fun h=>?_⟩
 ·rw[iB,au (by rw[hn];exact aE),ay hb,ay h]
 ·rw[iB,au (by rw[hn];exact aE),ay hb,au (by rw[h];exact aE)]
theorem TF {K:List Int}{base:Int}{i:Nat}{e:wo}(hc:nth K i=22) :
 (0<e.mi->iB K base i e=hold { e with mi:=e.mi - 1 } i) /\
 (e.mi=0->0<e.op->iB K base i e=hold { e with me:=0,st:=lS e.st.length e.st,op:=e.op - 1 } i) /\
 (e.mi=0->e.op=0->iB K base i e=hold e i):=by
 have h1:begins (nth K i)=false:=by rw[hc];rfl
 have h2:j6 (nth K i)=false:=by rw[hc];rfl
 refine⟨fun h=>?_,fun h h'=>?_,fun h h'=>?_⟩
 ·rw[iB,h1,au aE,h2,au aE,ay hc,ay h]
 ·rw[iB,h1,au aE,h2,au aE,ay hc,au (by omega),ay h']
 ·rw[iB,h1,au aE,h2,au aE,ay hc,au (by omega),au (by omega)]
theorem Kx {K:List Int}{base:Int}{i:Nat}{e:wo}(hc:nth K i=18) :
 (0<e.mi->iB K base i e=e) /\
 (e.mi=0->0<e.me->iB K base i e={ e with me:=e.me - 1 }) /\
 (e.mi=0->e.me=0->(top e.st).l7=false->1<e.st.length->iB K base i e={ e with st:=e.st.dropLast }) /\
 (e.mi=0->e.me=0->((top e.st).l7=true\/e.st.length<=1)->iB K base i e=e):=by
 have h1:begins (nth K i)=false:=by rw[hc];rfl
 have h2:j6 (nth K i)=false:=by rw[hc];rfl
 have h3:¬nth K i=22:=by omega
 refine⟨fun h=>?_,fun h h'=>?_,fun h h' h4 h5=>?_,fun h h' h4=>?_⟩
 ·rw[iB,h1,au aE,h2,au aE,au h3,ay hc,ay h]
 ·rw[iB,h1,au aE,h2,au aE,au h3,ay hc,au (by omega),ay h']
 ·rw[iB,h1,au aE,h2,au aE,au h3,ay hc,au (by omega),au (by omega),ay (by rw[h4];simpa using h5)]
 ·rw[iB,h1,au aE,h2,au aE,au h3,ay hc,au (by omega),au (by omega),au (by
   rcases h4 with h4 | h4
   ·rw[h4];simp
   ·simp;omega)]
theorem Wr {K:List Int}{base:Int}{i:Nat}{e:wo}(hc:nth K i=10):iB K base i e={ e with L:=e.L.set i base }:=by
 rw[iB,hc];rfl
theorem O3 {K:List Int}{base:Int}{i:Nat}{e:wo}(hc:nth K i=9):iB K base i e=e:=by
 rw[iB,hc];rfl
theorem Gc {K:List Int}{base:Int}{i:Nat}{e:wo}(h1:begins (nth K i)=false)(h2:j6 (nth K i)=false)(h3:¬nth K i=22)(h4:¬nth K i=18)(h5:¬nth K i=10)(h6:¬nth K i=9):iB K base i e=hold e i:=by
 rw[iB,h1,au aE,h2,au aE,au h3,au h4,au h5,au h6]
theorem wG (K:List Int):∀k,(gy K k).length<=k
 | 0=>by simp[gy]
 | k+1=>by
   have ih:=wG K k;rw[gy];split
   ·simp;omega
   ·split
    ·simp;omega
    ·omega
theorem A3 (st:List lZ)(m:Nat)(h:st.length=m+1):st.dropLast=st.take m:=by rw[List.dropLast_eq_take,h];rfl
theorem Gd {st:List lZ}{m:Nat}(h:st.length=m+1):((top st).l7=true->lS st.length st=st.take m)/\((top st).l7=false->lS st.length st=lS (st.take m).length (st.take m)):=by
 have hl:(st.take m).length=m:=by rw[aP];omega
 refine⟨fun h1=>?_,fun h1=>?_⟩
 ·rw[h,lS,ay h1,A3 st m h]
 ·rw[h,lS,au (by rw[h1];exact aE),A3 st m h,hl]
theorem TG {st:List lZ}{m:Nat}(h:st.length=m+1):st.reverse=top st :: (st.take m).reverse:=by
 have hne:st≠[]:=by intro e;subst e;simp at h
 have:st=st.take m++[top st]:=by
  conv=>lhs;rw[<-cu m st]
  congr 1
  rw[top,h];simp only[bX];rw[cA (by omega),dZ (by omega),az (by omega)];rfl
 conv=>lhs;rw[this]
 rw[List.reverse_append];rfl
theorem Ge {st:List lZ}{m:Nat}(h:st.length=m+1)(h1:(top st).l7=false)(h2:0<mW st.reverse):0<mW (st.take m).reverse:=by
 rw[TG h,mW,h1]at h2;simpa using h2
theorem Ky {st:List lZ}(h:0<mW st.reverse):0<st.length:=by
 rcases st with _ | ⟨x,r⟩
 ·simp[mW]at h
 ·simp
theorem Fe {st:List lZ}(h:qo st.reverse):0<st.length:=by
 rcases st with _ | ⟨x,r⟩
 ·exact absurd rfl h.ne
 ·simp
theorem Kz {st:List lZ}(h:qo st.reverse)(hi:0<mW st.reverse):qo (lS st.length st).reverse:=by
 rw[tO _ _ (ak _)];exact h.ru hi
theorem TH {st:List lZ}(h:qo st.reverse):qH (top st):=tQ (e:=⟨st,0,0,0,[],[]⟩) h
end Go.Proofs.YtnakejhohdbfdaaGreatDoor.jN

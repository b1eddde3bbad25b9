import Derived.Test.YtnakejhohdbfdacGreatDoorM0


namespace Go.Proofs.YtnakejhohdbfdacGreatDoor.j9
abbrev nth (xs:List Int)(i:Nat):Int:=xs[i]?.getD 0
abbrev iP (I:List Nat)(k:Nat):Nat:=I[k]?.getD 0
abbrev cl (I:List Nat)(C:List Int)(k:Nat):Int:=nth C (iP I k)
abbrev put (I:List Nat)(C:List Int)(k:Nat)(v:Int):List Int:=C.set (iP I k) v
def mh (c:Int):Bool:=c == 19 || c == 20 || c == 21
def gone (c:Int):Bool:=c == 9 || c == 14 || c == 15 || c == 16 || c == 17 || c == 18
def dn (c:Int):Int:=if mh c then 1 else if c=22 then -1 else 0
def sW:List Int->Nat->Int->Option Nat
 | [],_,_=>none
 | x :: xs,p,n=>if n+dn x=0 then some p else sW xs (p+1) (n+dn x)
def nO (c:List Int)(i:Nat):Option Nat:=sW (c.drop i) i 0
def lW (c:List Int)(to:Nat):Nat->Nat->Bool
 | 0,_=>false
 | f+1,i =>
   if to<=i then false
   else if nth c i=0 then false
   else if nth c i=1\/nth c i=2 then true
   else if mh (nth c i)then
    match nO c i with
    | none=>false
    | some m=>if to<=m then false else lW c to f (m+1)
   else lW c to f (i+1)
def strong (c:List Int)(i to:Nat):Bool:=lW c to (to - i) i
structure nE where
 lv:Int
 ov:Int
 qw:Bool
 deriving Inhabited
structure xw where
 st:List nE
 mi:Nat
 me:Nat
 op:Nat
 C:List Int
 L:List Int
def top (st:List nE):nE:=(st[st.length - 1]?).getD default
def j_ (K:List Int)(i:Nat):Bool:=if nth K i=21 then strong K (i+1) ((nO K i).getD K.length)else nth K i == 16 || nth K i == 17 || nth K i == 20
def kT (l:Int)(odd:Bool):Int:=if((l+1) % 2 == 1) == odd then l+1 else l+2
def fits (e:xw)(nx:Int):Bool:=decide (nx<=9) && e.mi == 0 && e.me == 0
def hold (e:xw)(i:Nat):xw:={ e with L:=e.L.set i (top e.st).lv,C:=if(top e.st).ov=-1 then e.C else e.C.set i (top e.st).ov }
def Du (c:Int):Int:=if c=17 then 1 else if c=15 then 0 else -1
def mW:Nat->List nE->List nE
 | 0,st=>st
 | f+1,st=>if(top st).qw then st.dropLast else mW f st.dropLast
def begins (c:Int):Bool:=c == 14 || c == 15 || c == 16 || c == 17
def jE (K:List Int)(base:Int)(i:Nat)(e:xw):xw :=
 if begins (nth K i)then
  if fits e (kT (top e.st).lv (j_ K i))then { e with st:=e.st++[⟨kT (top e.st).lv (j_ K i),Du (nth K i),false⟩] }
  else if e.mi=0 then { e with me:=e.me+1 } else e
 else if mh (nth K i)then
  if fits e (kT (top e.st).lv (j_ K i))then { hold e i with op:=e.op+1,st:=e.st++[⟨kT (top e.st).lv (j_ K i),-1,true⟩] }
  else { hold e i with mi:=e.mi+1 }
 else if nth K i=22 then
  hold (if 0<e.mi then { e with mi:=e.mi - 1 } else if 0<e.op then { e with me:=0,st:=mW e.st.length e.st,op:=e.op - 1 } else e) i
 else if nth K i=18 then
  if 0<e.mi then e else if 0<e.me then { e with me:=e.me - 1 }
  else if !(top e.st).qw && decide (1<e.st.length)then { e with st:=e.st.dropLast } else e
 else if nth K i=10 then { e with L:=e.L.set i base }
 else if nth K i=9 then e
 else hold e i
def jy (K:List Int)(base:Int):Nat->xw
 | 0=>⟨[⟨base,-1,false⟩],0,0,0,K,List.replicate K.length 0⟩
 | k+1=>jE K base k (jy K base k)
def jw (r:List Nat):Nat:=(r[r.length - 1]?).getD 0
def iV (r:List Nat):Nat:=(r[0]?).getD 0
def oh (K L:List Int)(i:Nat)(rs:List (List Nat)):List (List Nat) :=
 if gone (nth K i)then rs
 else if rs=[]then [[i]]
 else if nth L (jw ((rs[rs.length - 1]?).getD []))=nth L i then rs.set (rs.length - 1) ((rs[rs.length - 1]?).getD []++[i])
 else rs++[[i]]
def jC (K L:List Int):Nat->List (List Nat)
 | 0=>[]
 | k+1=>oh K L k (jC K L k)
def follows (K:List Int)(a b:List Nat):Bool:=mh (nth K (jw a)) && (nO K (jw a) == some (iV b))
abbrev run (rs:List (List Nat))(j:Nat):List Nat:=(rs[j]?).getD []
def lX (K:List Int)(rs:List (List Nat))(a:List Nat):Nat->Option Nat
 | 0=>none
 | j+1=>if follows K a (run rs j)then some j else lX K rs a j
def wG (K:List Int)(rs:List (List Nat))(b:List Nat):Nat->Bool
 | 0=>true
 | j+1=>wG K rs b j && !follows K (run rs j) b
def chain (K:List Int)(rs:List (List Nat)):Nat->Nat->List Nat
 | 0,_=>[]
 | f+1,i=>run rs i++(match lX K rs (run rs i) rs.length with | none=>[] | some j=>chain K rs f j)
def om (K:List Int)(rs:List (List Nat)):Nat->List (List Nat)
 | 0=>[]
 | i+1=>if wG K rs (run rs i) rs.length then om K rs i++[chain K rs rs.length i]else om K rs i
def pI (K:List Int)(rs:List (List Nat)):List (List Nat):=om K rs rs.length
structure Sq where
 I:List Nat
 own:Int
 kE:Int
 qW:Int
def way (l:Int):Int:=if l % 2=1 then 1 else 0
def uJ (K L:List Int)(base:Int):Nat->Int
 | 0=>base
 | i+1=>if gone (nth K i)then uJ K L base i else nth L i
def qX (K L:List Int)(base:Int):Nat->Nat->Int
 | 0,_=>base
 | f+1,j=>if j<K.length then if gone (nth K j)then qX K L base f (j+1)else nth L j else base
def oq (K L:List Int)(base:Int)(I:List Nat):Sq :=
 ⟨I,way (nth L (iV I)),way (max (nth L (iV I)) (uJ K L base (iV I))),
  way (max (nth L (iV I)) (if mh (nth K (jw I))then base else qX K L base K.length (jw I+1)))⟩
def ah (s:Sq)(C:List Int)(k:Nat):Int:=if k=0 then s.kE else cl s.I C (k - 1)
def DU (s:Sq)(C:List Int)(k:Nat):Int:=if k<s.I.length then cl s.I C k else s.qW
def lQ (K:List Int)(s:Sq)(C:List Int)(k:Nat):List Int :=
 if cl s.I C k=8 then put s.I C k (if 0<k/\(mh (cl s.I K (k - 1))=true\/cl s.I K (k - 1)=22)then 13 else ah s C k)else C
def jD (K:List Int)(s:Sq):Nat->List Int->List Int
 | 0,C=>C
 | k+1,C=>lQ K s (jD K s k C) k
def mF (I:List Nat)(al:Bool)(letter to:Int)(q:Int × List Int)(k:Nat):Int × List Int :=
 if cl I q.2 k=0\/cl I q.2 k=1\/(al=true/\cl I q.2 k=2)then(cl I q.2 k,q.2)
 else if cl I q.2 k=3/\q.1=letter then(q.1,put I q.2 k to)else q
def jV (I:List Nat)(al:Bool)(letter to:Int):Nat->Int × List Int->Int × List Int
 | 0,q=>q
 | k+1,q=>mF I al letter to (jV I al letter to k q) k
def sD (I:List Nat)(C:List Int)(k:Nat):List Int:=if cl I C k=2 then put I C k 1 else C
def pJ (I:List Nat):Nat->List Int->List Int
 | 0,C=>C
 | k+1,C=>sD I (pJ I k C) k
def mQ (s:Sq)(C:List Int)(k:Nat):List Int :=
 if ah s C k=DU s C (k+1)/\((ah s C k=3/\(cl s.I C k=4\/cl s.I C k=7))\/(ah s C k=6/\cl s.I C k=7))then put s.I C k (ah s C k)else C
def ou (s:Sq):Nat->List Int->List Int
 | 0,C=>C
 | k+1,C=>mQ s (ou s k C) k
def kP (I:List Nat)(a:Nat)(v:Int):Nat->List Int->List Int
 | 0,C=>C
 | d+1,C=>put I (kP I a v d C) (a+d) v
def oz (I:List Nat)(fit:Int->Bool)(act:Nat->Nat->List Int->List Int)(q:Nat × List Int)(k:Nat):Nat × List Int :=
 if fit (cl I q.2 k)then q else(k+1,if q.1<k then act q.1 k q.2 else q.2)
def kU (I:List Nat)(fit:Int->Bool)(act:Nat->Nat->List Int->List Int):Nat->Nat × List Int->Nat × List Int
 | 0,q=>q
 | k+1,q=>oz I fit act (kU I fit act k q) k
def uK (I:List Nat)(act:Nat->Nat->List Int->List Int)(q:Nat × List Int):List Int:=if q.1<I.length then act q.1 I.length q.2 else q.2
def scan (I:List Nat)(fit:Int->Bool)(act:Nat->Nat->List Int->List Int)(C:List Int):List Int:=uK I act (kU I fit act I.length (0,C))
def ED (c:Int):Bool:=c == 5
def qz (s:Sq)(a b:Nat)(C:List Int):List Int:=if ah s C a=3\/DU s C b=3 then kP s.I a 3 (b - a) C else C
def mR (I:List Nat)(C:List Int)(k:Nat):List Int:=if cl I C k=4\/cl I C k=5\/cl I C k=7 then put I C k 13 else C
def kA (I:List Nat):Nat->List Int->List Int
 | 0,C=>C
 | k+1,C=>mR I (kA I k C) k
def weak (K:List Int)(s:Sq)(C:List Int):List Int :=
 (jV s.I false 0 0 s.I.length (s.kE,kA s.I s.I.length (scan s.I ED (qz s) (ou s s.I.length (pJ s.I s.I.length
   (jV s.I true 2 6 s.I.length (s.kE,jD K s s.I.length C)).2))))).2
def opens (r:Int):Bool:=r == 40 || r == 91 || r == 123 || r == 12296 || r == 12298
def shuts (r:Int):Int:=if r=41 then 40 else if r=93 then 91 else if r=125 then 123 else if r=12297 then 12296 else if r=12299 then 12298 else 0
def oA (R:List Int)(I:List Nat)(st:List Nat)(c:Int):Nat->Option Nat
 | 0=>none
 | j+1=>if cl I R (iP st j)=c then some j else oA R I st c j
structure W7 where
 st:List Nat
 out:List (Nat × Nat)
 stop:Bool
def yQ (p:Nat × Nat):List (Nat × Nat)->List (Nat × Nat)
 | []=>[p]
 | q :: r=>if q.1<p.1 then q :: yQ p r else p :: q :: r
def jX (R:List Int)(I:List Nat)(C:List Int)(k:Nat)(p:W7):W7 :=
 if p.stop then p
 else if cl I C k≠13 then p
 else if opens (cl I R k)then if p.st.length=8 then { p with stop:=true } else { p with st:=p.st++[k] }
 else if shuts (cl I R k)=0 then p
 else match oA R I p.st (shuts (cl I R k)) p.st.length with
  | none=>p
  | some j=>{ p with st:=p.st.take j,out:=yQ (iP p.st j,k) p.out }
def jm (R:List Int)(I:List Nat)(C:List Int):Nat->W7
 | 0=>⟨[],[],false⟩
 | k+1=>jX R I C k (jm R I C k)
def side (c:Int):Int:=if c=0 then 0 else if c=1\/c=3\/c=6 then 1 else -1
def mZ (f:Nat->Bool)(a:Nat):Nat->Bool
 | 0=>false
 | d+1=>mZ f a d || f (a+d)
def jS (s:Sq)(C:List Int):Nat->Int
 | 0=>side s.kE
 | k+1=>if 0<=side (cl s.I C k)then side (cl s.I C k)else jS s C k
def oK (K:List Int)(I:List Nat)(v:Int):Nat->Nat->List Int->List Int
 | 0,_,C=>C
 | f+1,j,C=>if j<I.length/\cl I K j=8 then oK K I v f (j+1) (put I C j v)else C
def become (K:List Int)(I:List Nat)(k:Nat)(v:Int)(C:List Int):List Int:=oK K I v I.length (k+1) (put I C k v)
def wH (K:List Int)(s:Sq)(p:Nat × Nat)(C:List Int):List Int :=
 if mZ (fun k=>side (cl s.I C k) == s.own) (p.1+1) (p.2 - (p.1+1))then become K s.I p.2 s.own (become K s.I p.1 s.own C)
 else if mZ (fun k=>decide (0<=side (cl s.I C k))) (p.1+1) (p.2 - (p.1+1))then become K s.I p.2 (jS s C p.1) (become K s.I p.1 (jS s C p.1) C)
 else C
def nX (K:List Int)(s:Sq)(ps:List (Nat × Nat)):Nat->List Int->List Int
 | 0,C=>C
 | i+1,C=>wH K s ((ps[i]?).getD (0,0)) (nX K s ps i C)
def brackets (R K:List Int)(s:Sq)(C:List Int):List Int:=nX K s (jm R s.I C s.I.length).out (jm R s.I C s.I.length).out.length C
def isNe (c:Int):Bool:=decide (side c<0)
def m5 (s:Sq)(a b:Nat)(C:List Int):List Int:=kP s.I a (if side (ah s C a)=side (DU s C b)then side (ah s C a)else s.own) (b - a) C
def neutral (s:Sq)(C:List Int):List Int:=scan s.I isNe (m5 s) C
def rules (R K:List Int)(s:Sq)(C:List Int):List Int:=neutral s (brackets R K s (weak K s C))
def jM (R K L:List Int)(base:Int)(ss:List (List Nat)):Nat->List Int->List Int
 | 0,C=>C
 | i+1,C=>rules R K (oq K L base (run ss i)) (jM R K L base ss i C)
def up (l c:Int):Int:=if l % 2=1 then(if c=0\/c=3\/c=6 then 1 else 0)else(if c=1 then 1 else if c=3\/c=6 then 2 else 0)
def jZ (K C:List Int)(base:Int):Nat->List Int->Int × List Int
 | 0,L=>(base,L)
 | i+1,L =>
   let q:=jZ K C base i L
   if gone (nth K i)then(q.1,q.2.set i q.1)else(nth q.2 i+up (nth q.2 i) (nth C i),q.2.set i (nth q.2 i+up (nth q.2 i) (nth C i)))
def j0 (K:List Int)(b:Int):Int:=if b=2 then(if strong K 0 K.length then 1 else 0)else b
def levels (R K:List Int)(base:Int):List Int :=
 let e:=jy K base K.length
 let rs:=jC K e.L K.length
 (jZ K (jM R K e.L base (pI K rs) (pI K rs).length e.C) base K.length e.L).2
end Go.Proofs.YtnakejhohdbfdacGreatDoor.j9
namespace Go.Proofs.YtnakejhohdbfdacGreatDoor.j9
def inj (I:List Nat):Prop:=∀j k,j<I.length->k<I.length->iP I j=iP I k->j=k
theorem p9 (l:List Int)(i:Nat)(v:Int)(j:Nat):nth (l.set i v) j=if j=i/\i<l.length then v else nth l j:=by
 unfold nth;by_cases h:j=i
 ·subst h
  by_cases h2:j<l.length
  ·rw[aE ⟨rfl,h2⟩,bn h2];rfl
  ·rw[ay (fun x=>h2 x.2),bN (by simp;omega),bN (by omega)]
 ·rw[ay (fun x=>h x.1),bJ (fun e=>h e.symm)]
theorem pK {I:List Nat}(hI:inj I)(C:List Int){j k:Nat}(v:Int)(hj:j<I.length)(hk:k<I.length)(h:j≠k):cl I (put I C j v) k=cl I C k:=by
 unfold cl put;rw[p9,ay];intro x;exact h (hI j k hj hk x.1.symm)
theorem qL {I:List Nat}(hI:inj I)(a:Nat)(v:Int)(C:List Int){k:Nat}(hk:k<I.length):∀d,a+d<=I.length->(k<a\/a+d<=k)->cl I (kP I a v d C) k=cl I C k
 | 0,_,_=>rfl
 | d+1,hd,h=>by
   rw[kP,pK hI _ v (show a+d<I.length by omega) hk (by omega)];exact qL hI a v C hk d (by omega) (by omega)
end Go.Proofs.YtnakejhohdbfdacGreatDoor.j9
namespace Go.Proofs.YtnakejhohdbfdacGreatDoor.j9
def iT (K:List Int):Nat->List Nat
 | 0=>[]
 | k+1=>if mh (nth K k)then k :: iT K k else if nth K k=22 then(iT K k).tail else iT K k
def partAt (K:List Int):Nat->Nat->Option Nat
 | 0,_=>none
 | k+1,i=>if mh (nth K k)=false/\nth K k=22/\(iT K k)[0]?=some i then some k else partAt K k i
theorem lY (K:List Int)(k:Nat)(n:Int)(h:k<K.length):sW (K.drop k) k n=if n+dn (nth K k)=0 then some k else sW (K.drop (k+1)) (k+1) (n+dn (nth K k)):=by
 rw[cZ h,sW];simp[nth,aA h]
theorem oZ:∀(c:List Int) (p:Nat) (n:Int) (m:Nat),sW c p n=some m->p<=m
 | [],_,_,_,h=>by cases h
 | x :: xs,p,n,m,h=>by
   rw[sW]at h;by_cases h0:n+dn x=0
   ·rw[aE h0]at h;cases h;exact au _
   ·rw[ay h0]at h;have:=oZ xs (p+1) _ m h;omega
theorem LD {c:Int}(h:mh c=true):c≠22:=by intro e;subst e;cases h
structure S7 (K:List Int)(k:Nat):Prop where
 op:∀d i:Nat,(iT K k)[d]?=some i->mh (nth K i)=true/\i<k/\nO K i=sW (K.drop k) k ((d:Int)+1)/\partAt K k i=none
 cl:∀i,i<k->mh (nth K i)=true->(∃d:Nat,(iT K k)[d]?=some i)\/(∃j,partAt K k i=some j/\nO K i=some j)
 no:∀i,partAt K k i≠none->i<k/\mh (nth K i)=true
theorem xA (K:List Int):∀k,k<=K.length->S7 K k
 | 0,_=>⟨fun d i h=>by simp[iT]at h,fun i h=>by omega,fun i h=>absurd rfl h⟩
 | k+1,hk=>by
   have ih:=xA K k (by omega);have hkl:k<K.length:=by omega
   cases hi:mh (nth K k)
   ·by_cases h22:nth K k=22
    · -- a PDI
      have hd:dn (nth K k)=-1:=by rw[dn,hi,h22];simp
      have ho:iT K (k+1)=(iT K k).tail:=by rw[iT,hi,ay aG,aE h22]
      have hp:∀i,partAt K (k+1) i=if(iT K k)[0]?=some i then some k else partAt K k i:=by
       intro i;rw[partAt];by_cases h:(iT K k)[0]?=some i
       ·rw[aE ⟨hi,h22,h⟩,aE h]
       ·rw[ay (fun x=>h x.2.2),ay h]
      have hdist:∀d i:Nat,(iT K k)[d+1]?=some i->(iT K k)[0]?≠some i:=by
       intro d i h1 h0;have a:=(ih.op (d+1) i h1).2.2.1;have b:=(ih.op 0 i h0).2.2.1;rw[lY K k _ hkl,hd]at a b;rw[b]at a;rw[aE (by omega),ay (by omega)]at a;have:=oZ (K.drop (k+1)) (k+1) _ k a.symm;omega
      refine⟨fun d i h=>?_,fun i hik hin=>?_,fun i h=>?_⟩
      ·rw[ho,eO]at h
       obtain⟨h1,h2,h3,h4⟩:=ih.op (d+1) i h;refine⟨h1,by omega,?_,?_⟩
       ·rw[h3,lY K k _ hkl,hd,ay (by omega)];congr 1;omega
       ·rw[hp,ay (hdist d i h)];exact h4
      ·rcases aH (aP hik)with h | h
       ·rcases ih.cl i h hin with⟨d,hd'⟩ | ⟨j,hj1,hj2⟩
        ·cases d with
         | zero =>
           refine .inr ⟨k,by rw[hp,aE hd'],?_⟩;rw[(ih.op 0 i hd').2.2.1,lY K k _ hkl,hd,aE (by omega)]
         | succ d=>exact .inl ⟨d,by rw[ho,eO];exact hd'⟩
        ·refine .inr ⟨j,?_,hj2⟩
         rw[hp,ay];exact hj1;intro h0;have:=(ih.op 0 i h0).2.2.2;rw[hj1]at this;cases this
       ·subst h;rw[hi]at hin;cases hin
      ·rw[hp]at h
       by_cases h0:(iT K k)[0]?=some i
       ·have:=ih.op 0 i h0;exact⟨by omega,this.1⟩
       ·rw[ay h0]at h;have:=ih.no i h;exact⟨by omega,this.2⟩
    ·have hd:dn (nth K k)=0:=by rw[dn,hi,ay aG,ay h22]
     have ho:iT K (k+1)=iT K k:=by rw[iT,hi,ay aG,ay h22]
     have hp:∀i,partAt K (k+1) i=partAt K k i:=fun i=>by rw[partAt,ay (fun x=>h22 x.2.1)]
     refine⟨fun d i h=>?_,fun i hik hin=>?_,fun i h=>?_⟩
     ·rw[ho]at h
      obtain⟨h1,h2,h3,h4⟩:=ih.op d i h;exact⟨h1,by omega,by rw[h3,lY K k _ hkl,hd,ay (by omega)] <;> (congr 1 <;> omega),by rw[hp];exact h4⟩
     ·rcases aH (aP hik)with h | h
      ·rcases ih.cl i h hin with⟨d,hd'⟩ | ⟨j,hj1,hj2⟩
       ·exact .inl ⟨d,by rw[ho];exact hd'⟩
       ·exact .inr ⟨j,by rw[hp];exact hj1,hj2⟩
      ·subst h;rw[hi]at hin;cases hin
     ·rw[hp]at h;have:=ih.no i h;exact⟨by omega,this.2⟩
   ·have hd:dn (nth K k)=1:=by rw[dn,hi];rfl
    have ho:iT K (k+1)=k :: iT K k:=by rw[iT,hi];rfl
    have hp:∀i,partAt K (k+1) i=partAt K k i:=fun i=>by rw[partAt,ay (fun x=>by rw[hi]at x;cases x.1)]
    have hk0:partAt K k k=none:=by
     cases h:partAt K k k with
     | none=>rfl
     | some j=>have:=ih.no k (by rw[h];simp);omega
    refine⟨fun d i h=>?_,fun i hik hin=>?_,fun i h=>?_⟩
    ·rw[ho]at h
     cases d with
     | zero =>
       simp at h;subst h;refine⟨hi,by omega,?_,by rw[hp];exact hk0⟩;rw[nO,lY K k _ hkl,hd,ay (by omega)];congr 1
     | succ d =>
       simp at h;obtain⟨h1,h2,h3,h4⟩:=ih.op d i h;exact⟨h1,by omega,by rw[h3,lY K k _ hkl,hd,ay (by omega)] <;> (congr 1 <;> omega),by rw[hp];exact h4⟩
    ·rcases aH (aP hik)with h | h
     ·rcases ih.cl i h hin with⟨d,hd'⟩ | ⟨j,hj1,hj2⟩
      ·exact .inl ⟨d+1,by rw[ho];simpa using hd'⟩
      ·exact .inr ⟨j,by rw[hp];exact hj1,hj2⟩
     ·subst h;exact .inl ⟨0,by rw[ho];rfl⟩
    ·rw[hp]at h;have:=ih.no i h;exact⟨by omega,this.2⟩
theorem pU (K:List Int)(i:Nat)(hi:i<K.length):partAt K K.length i=if mh (nth K i)then nO K i else none:=by
 have h:=xA K K.length (au _);cases hn:mh (nth K i)
 ·rw[ay aG]
  cases hp:partAt K K.length i with
  | none=>rfl
  | some j=>have:=(h.no i (by rw[hp];simp)).2;rw[hn]at this;cases this
 ·rw[aE rfl]
  rcases h.cl i hi hn with⟨d,hd⟩ | ⟨j,hj1,hj2⟩
  ·obtain⟨_,_,h3,h4⟩:=h.op d i hd
   rw[h4,h3,List.drop_length];rfl
  ·rw[hj1,hj2]
theorem p_ (p q:Nat × Nat):∀l,q∈yQ p l ↔ q=p\/q∈l
 | []=>by simp[yQ]
 | x :: r=>by
   rw[yQ];by_cases h:x.1<p.1
   ·rw[aE h,bA,p_ p q r,bA]
    constructor
    ·rintro (h | h | h)
     ·exact .inr (.inl h)
     ·exact .inl h
     ·exact .inr (.inr h)
    ·rintro (h | h | h)
     ·exact .inr (.inl h)
     ·exact .inl h
     ·exact .inr (.inr h)
   ·rw[ay h,bA]
theorem FP (p:Nat × Nat):∀l,(yQ p l).length=l.length+1
 | []=>rfl
 | x :: r=>by
   rw[yQ];by_cases h:x.1<p.1
   ·rw[aE h,bg,FP p r,bg]
   ·rw[ay h,bg]
theorem zR (p:Nat × Nat):∀l:List (Nat × Nat),l.Pairwise (fun a b=>a.1<b.1)->(∀q∈l,q.1≠p.1)->(yQ p l).Pairwise (fun a b=>a.1<b.1)
 | [],_,_=>by simp[yQ]
 | x :: r,hs,hn=>by
   rw[eP]at hs;rw[yQ];by_cases h:x.1<p.1
   ·rw[aE h,eP]
    refine⟨fun q hq=>?_,zR p r hs.2 (fun q hq=>hn q (dH _ hq))⟩
    rcases(p_ p q r).1 hq with e | e
    ·subst e;exact h
    ·exact hs.1 q e
   ·rw[ay h,eP]
    have hx:=hn x bX;refine⟨fun q hq=>?_,eP.2 hs⟩
    rcases bA.1 hq with e | e
    ·subst e;omega
    ·have:=hs.1 q e;omega
theorem DV (R:List Int)(I:List Nat)(st:List Nat)(c:Int):∀m j,oA R I st c m=some j->j<m
 | 0,j,h=>by cases h
 | m+1,j,h=>by
   rw[oA]at h;by_cases h1:cl I R (iP st m)=c
   ·rw[aE h1]at h;cases h;omega
   ·rw[ay h1]at h;have:=DV R I st c m j h;omega
structure BK (p:W7)(k:Nat):Prop where
 st:∀x∈p.st,x<k
 up:p.st.Pairwise (· < ·)
 out:∀x∈p.out,x.1<x.2/\x.2<k
 so:p.out.Pairwise (fun a b=>a.1<b.1)
 dj:∀x∈p.out,x.1 ∉ p.st
 len:p.out.length<=k
 ln8:p.st.length<=8
theorem BK.mono {p:W7}{k:Nat}(h:BK p k):BK p (k+1) :=
 ⟨fun x hx=>Nat.lt_succ_of_lt (h.st x hx),h.up,fun x hx=>⟨(h.out x hx).1,Nat.lt_succ_of_lt (h.out x hx).2⟩,h.so,h.dj,Nat.le_succ_of_le h.len,h.ln8⟩
theorem jq {st:List Nat}{j:Nat}(h:j<st.length):iP st j=st[j]:=by simp[iP,aA h]
theorem AY (R:List Int)(I:List Nat)(C:List Int):∀k,BK (jm R I C k) k
 | 0=>⟨by simp[jm],by simp[jm],by simp[jm],by simp[jm],by simp[jm],by simp[jm],by simp[jm]⟩
 | k+1=>by
   have ih:=AY R I C k;rw[jm];generalize jm R I C k=p at *;unfold jX;by_cases h1:p.stop=true
   ·rw[aE h1];exact ih.mono
   rw[ay h1];by_cases h2:cl I C k≠13
   ·rw[aE h2];exact ih.mono
   rw[ay h2];by_cases h3:opens (cl I R k)=true
   ·rw[aE h3]
    by_cases h4:p.st.length=8
    ·rw[aE h4]
     exact⟨ih.mono.st,ih.up,ih.mono.out,ih.so,ih.dj,ih.mono.len,ih.ln8⟩
    ·rw[ay h4]
     refine⟨fun x hx=>?_,?_,ih.mono.out,ih.so,fun x hx=>?_,ih.mono.len,?_⟩
     ·rcases a_.1 hx with h | h
      ·exact Nat.lt_succ_of_lt (ih.st x h)
      ·rw[ak.1 h];exact bP _
     ·rw[dI]
      exact⟨ih.up,by simp,fun a ha b hb=>by rw[ak.1 hb];exact ih.st a ha⟩
     ·intro hm
      rcases a_.1 hm with h | h
      ·exact ih.dj x hx h
      ·have:=ih.out x hx;have:=ak.1 h;omega
     ·have:=ih.ln8;simp;omega
   rw[ay h3];by_cases h5:shuts (cl I R k)=0
   ·rw[aE h5];exact ih.mono
   rw[ay h5];cases hf:oA R I p.st (shuts (cl I R k)) p.st.length with
   | none=>exact ih.mono
   | some j =>
     have hj:=DV _ _ _ _ _ _ hf;have hjm:iP p.st j∈p.st:=by rw[jq hj];exact bB hj
     refine⟨fun x hx=>Nat.lt_succ_of_lt (ih.st x (eB hx)),ih.up.sublist (List.take_sublist _ _),fun x hx=>?_,?_,fun x hx=>?_,?_,?_⟩
     ·rcases(p_ _ x _).1 hx with e | e
      ·subst e;exact⟨ih.st _ hjm,bP _⟩
      ·exact ih.mono.out x e
     ·refine zR _ _ ih.so (fun q hq e=>?_)
      have:=ih.dj q hq;rw[e]at this;exact this hjm
     ·intro hm
      rcases(p_ _ x _).1 hx with e | e
      ·subst e
       -- the one that is shut does not stay
       obtain⟨t,ht,hte⟩:=bU hm;have ht2:t<j:=by rw[bH]at ht;omega
       rw[List.getElem_take]at hte;have:=bE.1 ih.up t j (by omega) hj ht2;rw[hte,<-jq hj]at this;exact absurd this (eG _)
      ·exact ih.dj x e (eB hm)
     ·rw[FP];have:=ih.len;omega
     ·rw[bH];have:=ih.ln8;omega
theorem FQ (R:List Int)(I:List Nat)(C:List Int)(i:Nat)(h:i<(jm R I C I.length).out.length) :
 (((jm R I C I.length).out[i]?).getD (0,0)).1<(((jm R I C I.length).out[i]?).getD (0,0)).2/\(((jm R I C I.length).out[i]?).getD (0,0)).2<I.length:=by
 rw[aA h];exact(AY R I C I.length).out _ (bB h)
end Go.Proofs.YtnakejhohdbfdacGreatDoor.j9
namespace Go.Proofs.YtnakejhohdbfdacGreatDoor.j9
def Among (P:Int->Prop)(I:List Nat)(C:List Int)(k:Nat):Prop:=∀j,j<k->P (cl I C j)
theorem EE (I:List Nat)(C:List Int)(k j:Nat)(v:Int):cl I (put I C k v) j=v\/cl I (put I C k v) j=cl I C j:=by
 unfold cl put;rw[p9];by_cases h:iP I j=iP I k/\iP I k<C.length
 ·rw[aE h];exact .inl rfl
 ·rw[ay h];exact .inr rfl
theorem Among.put {P:Int->Prop}{I:List Nat}{C:List Int}{n:Nat}(h:Among P I C n)(k:Nat){v:Int}(hv:P v):Among P I (put I C k v) n:=by
 intro j hj
 rcases EE I C k j v with e | e
 ·rw[e];exact hv
 ·rw[e];exact h j hj
theorem Among.mono {P Q:Int->Prop}{I:List Nat}{C:List Int}{n:Nat}(h:Among P I C n)(hPQ:∀c,P c->Q c):Among Q I C n:=fun j hj=>hPQ _ (h j hj)
theorem lZ (I:List Nat)(C:List Int)(k:Nat)(v:Int):(put I C k v).length=C.length:=by simp
theorem o7 {I:List Nat}{C:List Int}{k:Nat}(v:Int)(h:iP I k<C.length):cl I (put I C k v) k=v:=by
 unfold cl put;rw[p9,aE ⟨rfl,h⟩]
def S0 (c:Int):Prop:=c=0\/c=1\/c=2\/c=3\/c=4\/c=5\/c=6\/c=7\/c=8\/c=10\/c=11\/c=12\/c=13\/c=19\/c=20\/c=21\/c=22
def S1 (c:Int):Prop:=S0 c/\c≠8
def S2 (c:Int):Prop:=S1 c/\c≠2
def S3 (c:Int):Prop:=S2 c/\c≠4/\c≠5/\c≠7
def within (I:List Nat)(C:List Int):Prop:=∀k,k<I.length->iP I k<C.length
theorem within.of {I:List Nat}{C C':List Int}(h:within I C)(e:C'.length=C.length):within I C':=fun k hk=>by rw[e];exact h k hk
theorem pV (K:List Int)(s:Sq)(C:List Int):∀k,(jD K s k C).length=C.length
 | 0=>rfl
 | k+1=>by
   rw[jD,lQ];split
   ·rw[lZ];exact pV K s C k
   ·exact pV K s C k
theorem EF {K:List Int}{s:Sq}{C:List Int}(hb:s.kE=0\/s.kE=1)(hw:within s.I C)(h:Among S0 s.I C s.I.length):∀k,k<=s.I.length->Among S0 s.I (jD K s k C) s.I.length/\Among S1 s.I (jD K s k C) k
 | 0,_=>⟨h,fun j hj=>by omega⟩
 | k+1,hk=>by
   obtain⟨h0,h1⟩:=EF hb hw h k (by omega);rw[jD,lQ];by_cases h8:cl s.I (jD K s k C) k=8
   ·rw[aE h8]
    have hv:S1 (if 0<k/\(mh (cl s.I K (k - 1))=true\/cl s.I K (k - 1)=22)then 13 else ah s (jD K s k C) k):=by
     by_cases hc:0<k/\(mh (cl s.I K (k - 1))=true\/cl s.I K (k - 1)=22)
     ·rw[aE hc];exact⟨by unfold S0;omega,by omega⟩
     ·rw[ay hc,ah]
      by_cases hk0:k=0
      ·rw[aE hk0];exact⟨by unfold S0;omega,by omega⟩
      ·rw[ay hk0];exact h1 (k - 1) (by omega)
    refine⟨h0.put k hv.1,fun j hj=>?_⟩
    rcases aH (aP hj)with hj2 | hj2
    ·rcases EE s.I (jD K s k C) k j _ with e | e
     ·rw[e];exact hv
     ·rw[e];exact h1 j hj2
    ·subst hj2
     rw[o7 _ (by rw[pV];exact hw j (by omega))];exact hv
   ·rw[ay h8]
    refine⟨h0,fun j hj=>?_⟩
    rcases aH (aP hj)with hj2 | hj2
    ·exact h1 j hj2
    ·subst hj2;exact⟨h0 j (by omega),h8⟩
theorem BL {P:Int->Prop}{I:List Nat}{al:Bool}{letter v:Int}(hv:P v){q:Int × List Int}(h:Among P I q.2 I.length):∀k,Among P I (jV I al letter v k q).2 I.length
 | 0=>h
 | k+1=>by
   have ih:=BL (al:=al) (letter:=letter) hv h k;rw[jV,mF];split
   ·exact ih
   ·split
    ·exact ih.put k hv
    ·exact ih
theorem qY (I:List Nat)(al:Bool)(letter v:Int)(q:Int × List Int):∀k,(jV I al letter v k q).2.length=q.2.length
 | 0=>rfl
 | k+1=>by
   have ih:=qY I al letter v q k;rw[jV,mF];split
   ·exact ih
   ·split
    ·rw[lZ];exact ih
    ·exact ih
theorem Kc {I:List Nat}{letter v:Int}(hv:v≠2){q:Int × List Int}(h:Among (·≠2) I q.2 I.length):∀k,k<=I.length->jV I true letter v k q=jV I false letter v k q
 | 0,_=>rfl
 | k+1,hk=>by
   have ih:=Kc (letter:=letter) hv h k (by omega);have h2:=BL (P:=(·≠2)) (al:=false) (letter:=letter) hv h k k (by omega);rw[jV,jV,ih];unfold mF;simp only[true_and,dV,false_and,fB];by_cases h0:cl I (jV I false letter v k q).2 k=0\/cl I (jV I false letter v k q).2 k=1
   ·rw[aE (by rcases h0 with h0 | h0;exact .inl h0;exact .inr (.inl h0)),aE h0]
   ·rw[ay (fun x=>by rcases x with x | x | x;exact h0 (.inl x);exact h0 (.inr x);exact h2 x),ay h0]
theorem yR (I:List Nat)(C:List Int):∀k,(pJ I k C).length=C.length
 | 0=>rfl
 | k+1=>by
   rw[pJ,sD];split
   ·rw[lZ];exact yR I C k
   ·exact yR I C k
theorem W8 {I:List Nat}{C:List Int}(hw:within I C)(h:Among S1 I C I.length):∀k,k<=I.length->Among S1 I (pJ I k C) I.length/\Among S2 I (pJ I k C) k
 | 0,_=>⟨h,fun j hj=>by omega⟩
 | k+1,hk=>by
   obtain⟨h0,h1⟩:=W8 hw h k (by omega);have hv:S2 1:=⟨⟨by unfold S0;omega,by omega⟩,by omega⟩;rw[pJ,sD];by_cases h2:cl I (pJ I k C) k=2
   ·rw[aE h2]
    refine⟨h0.put k hv.1,fun j hj=>?_⟩
    rcases aH (aP hj)with hj2 | hj2
    ·rcases EE I (pJ I k C) k j 1 with e | e
     ·rw[e];exact hv
     ·rw[e];exact h1 j hj2
    ·subst hj2;rw[o7 _ (by rw[yR];exact hw j (by omega))];exact hv
   ·rw[ay h2]
    refine⟨h0,fun j hj=>?_⟩
    rcases aH (aP hj)with hj2 | hj2
    ·exact h1 j hj2
    ·subst hj2;exact⟨h0 j (by omega),h2⟩
theorem Ox {s:Sq}{C:List Int}(h:Among S2 s.I C s.I.length):∀k,Among S2 s.I (ou s k C) s.I.length
 | 0=>h
 | k+1=>by
   have ih:=Ox h k;rw[ou,mQ];split
   ·rename_i hc
    refine ih.put k ?_
    rcases hc.2 with x | x
    ·rw[x.1];exact⟨⟨by unfold S0;omega,by omega⟩,by omega⟩
    ·rw[x.1];exact⟨⟨by unfold S0;omega,by omega⟩,by omega⟩
   ·exact ih
theorem xB (s:Sq)(C:List Int):∀k,(ou s k C).length=C.length
 | 0=>rfl
 | k+1=>by
   rw[ou,mQ];split
   ·rw[lZ];exact xB s C k
   ·exact xB s C k
theorem Iv {P:Int->Prop}{I:List Nat}{C:List Int}{n:Nat}(h:Among P I C n)(a:Nat){v:Int}(hv:P v):∀d,Among P I (kP I a v d C) n
 | 0=>h
 | d+1=>(Iv h a hv d).put _ hv
theorem tI (I:List Nat)(a:Nat)(v:Int)(C:List Int):∀d,(kP I a v d C).length=C.length
 | 0=>rfl
 | d+1=>by rw[kP,lZ];exact tI I a v C d
theorem xC {Q:List Int->Prop}{I:List Nat}{fit:Int->Bool}{act:Nat->Nat->List Int->List Int}(ha:∀a b C,Q C->Q (act a b C)){C:List Int}(h:Q C):∀k,Q (kU I fit act k (0,C)).2
 | 0=>h
 | k+1=>by
   have ih:=xC (fit:=fit) (I:=I) ha h k;rw[kU,oz];split
   ·exact ih
   ·dsimp only
    split
    ·exact ha _ _ _ ih
    ·exact ih
theorem wI {Q:List Int->Prop}{I:List Nat}{fit:Int->Bool}{act:Nat->Nat->List Int->List Int}(ha:∀a b C,Q C->Q (act a b C)){C:List Int}(h:Q C):Q (scan I fit act C):=by
 have:=xC (fit:=fit) (I:=I) ha h I.length;unfold scan uK;split
 ·exact ha _ _ _ this
 ·exact this
theorem Z7 {s:Sq}{C:List Int}(h:Among S2 s.I C s.I.length):Among S2 s.I (scan s.I ED (qz s) C) s.I.length:=by
 refine wI (Q:=fun C=>Among S2 s.I C s.I.length) ?_ h;intro a b C hC;unfold qz;split
 ·exact Iv hC a ⟨⟨by unfold S0;omega,by omega⟩,by omega⟩ _
 ·exact hC
theorem Iw (s:Sq)(C:List Int):(scan s.I ED (qz s) C).length=C.length:=by
 refine wI (Q:=fun D=>D.length=C.length) ?_ rfl;intro a b D hD;unfold qz;split
 ·rw[tI];exact hD
 ·exact hD
theorem qZ (I:List Nat)(C:List Int):∀k,(kA I k C).length=C.length
 | 0=>rfl
 | k+1=>by
   rw[kA,mR];split
   ·rw[lZ];exact qZ I C k
   ·exact qZ I C k
theorem EG {I:List Nat}{C:List Int}(hw:within I C)(h:Among S2 I C I.length):∀k,k<=I.length->Among S2 I (kA I k C) I.length/\Among S3 I (kA I k C) k
 | 0,_=>⟨h,fun j hj=>by omega⟩
 | k+1,hk=>by
   obtain⟨h0,h1⟩:=EG hw h k (by omega);have hv:S3 13:=⟨⟨⟨by unfold S0;omega,by omega⟩,by omega⟩,by omega,by omega,by omega⟩;rw[kA,mR];by_cases h2:cl I (kA I k C) k=4\/cl I (kA I k C) k=5\/cl I (kA I k C) k=7
   ·rw[aE h2]
    refine⟨h0.put k hv.1,fun j hj=>?_⟩
    rcases aH (aP hj)with hj2 | hj2
    ·rcases EE I (kA I k C) k j 13 with e | e
     ·rw[e];exact hv
     ·rw[e];exact h1 j hj2
    ·subst hj2;rw[o7 _ (by rw[qZ];exact hw j (by omega))];exact hv
   ·rw[ay h2]
    refine⟨h0,fun j hj=>?_⟩
    rcases aH (aP hj)with hj2 | hj2
    ·exact h1 j hj2
    ·subst hj2;exact⟨h0 j (by omega),by omega,by omega,by omega⟩
theorem Oy {K:List Int}{s:Sq}{C:List Int}(hb:s.kE=0\/s.kE=1)(hw:within s.I C)(h:Among S0 s.I C s.I.length):Among S3 s.I (weak K s C) s.I.length/\(weak K s C).length=C.length:=by
 have h1:=(EF (K:=K) hb hw h s.I.length (au _)).2;have l1:=pV K s C s.I.length;have h2:=BL (P:=S1) (al:=true) (letter:=2) (v:=6) ⟨by unfold S0;omega,by omega⟩ (q:=(s.kE,jD K s s.I.length C)) h1 s.I.length;have l2:=qY s.I true 2 6 (s.kE,jD K s s.I.length C) s.I.length;have h3:=(W8 (hw.of (by rw[l2];exact l1)) h2 s.I.length (au _)).2;have l3:=yR s.I (jV s.I true 2 6 s.I.length (s.kE,jD K s s.I.length C)).2 s.I.length;have h4:=Ox h3 s.I.length;have l4:=xB s (pJ s.I s.I.length (jV s.I true 2 6 s.I.length (s.kE,jD K s s.I.length C)).2) s.I.length;have h5:=Z7 h4;have l5:=Iw s (ou s s.I.length (pJ s.I s.I.length (jV s.I true 2 6 s.I.length (s.kE,jD K s s.I.length C)).2));have h6:=(EG (hw.of (by rw[l5,l4,l3,l2];exact l1)) h5 s.I.length (au _)).2;refine⟨BL (P:=S3) ⟨⟨⟨by unfold S0;omega,by omega⟩,by omega⟩,by omega,by omega,by omega⟩ h6 _,?_⟩;unfold weak;rw[qY,qZ,l5,l4,l3,l2];exact l1
end Go.Proofs.YtnakejhohdbfdacGreatDoor.j9
namespace Go.Proofs.YtnakejhohdbfdacGreatDoor.j9
def F4 (c:Int):Prop:=c=0\/c=1\/c=3\/c=6
def yS (c:Int):Bool:=c == 10 || c == 11 || c == 12 || c == 13 || c == 19 || c == 20 || c == 21 || c == 22
theorem FR {v:Int}(h:v=0\/v=1):S3 v:=⟨⟨⟨by unfold S0;omega,by omega⟩,by omega⟩,by omega,by omega,by omega⟩
theorem sE (c:Int):side c=0\/side c=1\/side c=-1:=by
 unfold side;split
 ·exact .inl rfl
 ·split
  ·exact .inr (.inl rfl)
  ·exact .inr (.inr rfl)
theorem Oz {c:Int}(h:S3 c):side c<0 ↔ yS c=true:=by
 obtain⟨⟨⟨h0,h8⟩,h2⟩,h4,h5,h7⟩:=h;unfold S0 at h0
 rcases h0 with h | h | h | h | h | h | h | h | h | h | h | h | h | h | h | h | h <;> subst h <;> simp[side,yS]at *
theorem Z8 {c:Int}(h:S3 c):yS c=isNe c:=by
 have:=Oz h;unfold isNe;cases hd:yS c
 ·rw[hd]at this;exact(bS (by rw[this];exact aG)).symm
 ·rw[hd]at this;exact(bQ (this.2 rfl)).symm
theorem Z9 {c:Int}(h:S3 c)(hn:isNe c=false):F4 c:=by
 obtain⟨⟨⟨h0,h8⟩,h2⟩,h4,h5,h7⟩:=h;unfold S0 at h0;unfold F4
 rcases h0 with h | h | h | h | h | h | h | h | h | h | h | h | h | h | h | h | h <;> subst h <;> simp[isNe,side]at *
theorem S8 {c:Int}(h:F4 c):side c=0\/side c=1:=by
 rcases h with h | h | h | h <;> subst h <;> simp[side]
theorem Ke {c:Int}(h:c=0\/c=1):side c=c:=by rcases h with h | h <;> subst h <;> rfl
theorem VO {P:Int->Prop}{K:List Int}{I:List Nat}{v:Int}(hv:P v):∀f j (C:List Int),Among P I C I.length->Among P I (oK K I v f j C) I.length
 | 0,_,_,h=>h
 | f+1,j,C,h=>by
   rw[oK];split
   ·exact VO hv f (j+1) _ (h.put j hv)
   ·exact h
theorem xD {P:Int->Prop}{K:List Int}{I:List Nat}{v:Int}(hv:P v)(k:Nat)(C:List Int)(h:Among P I C I.length):Among P I (become K I k v C) I.length:=VO hv _ _ _ (h.put k hv)
theorem Kf (K:List Int)(I:List Nat)(v:Int):∀f j (C:List Int),(oK K I v f j C).length=C.length
 | 0,_,_=>rfl
 | f+1,j,C=>by
   rw[oK];split
   ·rw[Kf K I v f (j+1)];exact lZ I C j v
   ·rfl
theorem sF (K:List Int)(I:List Nat)(k:Nat)(v:Int)(C:List Int):(become K I k v C).length=C.length:=by rw[become,Kf];exact lZ I C k v
theorem BM {s:Sq}(hb:s.kE=0\/s.kE=1)(C:List Int):∀k,jS s C k=0\/jS s C k=1
 | 0=>by rw[jS,Ke hb];exact hb
 | k+1=>by
   rw[jS];split
   ·rename_i h
    rcases sE (cl s.I C k)with e | e | e
    ·exact .inl e
    ·exact .inr e
    ·omega
   ·exact BM hb C k
theorem W9 {K:List Int}{s:Sq}(hb:s.kE=0\/s.kE=1)(ho:s.own=0\/s.own=1)(ps:List (Nat × Nat)){C:List Int}(h:Among S3 s.I C s.I.length):∀i,Among S3 s.I (nX K s ps i C) s.I.length
 | 0=>h
 | i+1=>by
   have ih:=W9 (K:=K) hb ho ps h i;rw[nX,wH];split
   ·exact xD (FR ho) _ _ (xD (FR ho) _ _ ih)
   ·split
    ·exact xD (FR (BM hb _ _)) _ _ (xD (FR (BM hb _ _)) _ _ ih)
    ·exact ih
theorem EH (K:List Int)(s:Sq)(ps:List (Nat × Nat))(C:List Int):∀i,(nX K s ps i C).length=C.length
 | 0=>rfl
 | i+1=>by
   have ih:=EH K s ps C i;rw[nX,wH];split
   ·rw[sF,sF];exact ih
   ·split
    ·rw[sF,sF];exact ih
    ·exact ih
theorem Kg {I:List Nat}(hI:inj I)(a:Nat)(v:Int){C:List Int}(hw:within I C):∀d,a+d<=I.length->∀j,a<=j->j<a+d->cl I (kP I a v d C) j=v
 | 0,_,j,h1,h2=>by omega
 | d+1,hd,j,h1,h2=>by
   rw[kP]
   rcases aH (show j<=a+d by omega)with h | h
   ·rw[pK hI _ v (show a+d<I.length by omega) (show j<I.length by omega) (by omega)]
    exact Kg hI a v hw d (by omega) j h1 h
   ·subst h
    exact o7 v (by rw[tI];exact hw _ (by omega))
theorem OA (s:Sq)(C:List Int):(neutral s C).length=C.length:=by
 refine wI (Q:=fun D=>D.length=C.length) ?_ rfl;intro a b D hD;rw[m5,tI];exact hD
structure VQ (s:Sq)(C0:List Int)(k:Nat)(q:Nat × List Int):Prop where
 le:q.1<=k
 done:∀j,j<q.1->F4 (cl s.I q.2 j)
 pend:∀j,q.1<=j->j<k->isNe (cl s.I q.2 j)=true
 all:Among S3 s.I q.2 s.I.length
 len:q.2.length=C0.length
theorem OB {s:Sq}{C0:List Int}(hI:inj s.I)(hw:within s.I C0)(ho:s.own=0\/s.own=1)(hb:s.kE=0\/s.kE=1){k:Nat}(hk:k<=s.I.length){q:Nat × List Int}(h:VQ s C0 k q)(hq:q.1<k) :
 (∀j,j<k->F4 (cl s.I (m5 s q.1 k q.2) j))/\(∀j,k<=j->j<s.I.length->cl s.I (m5 s q.1 k q.2) j=cl s.I q.2 j)/\Among S3 s.I (m5 s q.1 k q.2) s.I.length/\(m5 s q.1 k q.2).length=C0.length:=by
 have hv:(if side (ah s q.2 q.1)=side (DU s q.2 k)then side (ah s q.2 q.1)else s.own)=0\/(if side (ah s q.2 q.1)=side (DU s q.2 k)then side (ah s q.2 q.1)else s.own)=1:=by
  split
  ·rw[ah]
   by_cases h0:q.1=0
   ·rw[aE h0,Ke hb];exact hb
   ·rw[ay h0];exact S8 (h.done _ (by omega))
  ·exact ho
 unfold m5;generalize (if side (ah s q.2 q.1)=side (DU s q.2 k)then side (ah s q.2 q.1)else s.own)=v at hv;refine⟨fun j hj=>?_,fun j h1 h2=>?_,Iv h.all _ (FR hv) _,by rw[tI];exact h.len⟩
 ·rcases cH j q.1 with h1 | h1
  ·rw[qL hI q.1 v q.2 (show j<s.I.length by omega) _ (by omega) (.inl h1)];exact h.done j h1
  ·rw[Kg hI q.1 v (hw.of h.len) (k - q.1) (by omega) j h1 (by omega)]
   rcases hv with e | e <;> rw[e]
   ·exact .inl rfl
   ·exact .inr (.inl rfl)
 ·exact qL hI q.1 v q.2 h2 _ (by omega) (.inr (by omega))
theorem Iy {s:Sq}{C:List Int}(hI:inj s.I)(hw:within s.I C)(ho:s.own=0\/s.own=1)(hb:s.kE=0\/s.kE=1)(h:Among S3 s.I C s.I.length):∀k,k<=s.I.length->VQ s C k (kU s.I isNe (m5 s) k (0,C))
 | 0,_=>⟨au _,fun j hj=>by exact absurd hj (cu _),fun j _ hj=>by omega,h,rfl⟩
 | k+1,hk=>by
   have ih:=Iy hI hw ho hb h k (by omega);rw[kU,oz];generalize kU s.I isNe (m5 s) k (0,C)=q at *;by_cases hf:isNe (cl s.I q.2 k)=true
   ·rw[aE hf]
    refine⟨by have:=ih.le;omega,ih.done,fun j h1 h2=>?_,ih.all,ih.len⟩
    rcases aH (aP h2)with h3 | h3
    ·exact ih.pend j h1 h3
    ·subst h3;exact hf
   ·rw[ay hf]
    have hk4:F4 (cl s.I q.2 k):=Z9 (ih.all k (by omega)) (by simpa using hf);by_cases hq:q.1<k
    ·obtain⟨a1,a2,a3,a4⟩:=OB hI hw ho hb (by omega) ih hq
     rw[aE hq];refine⟨au _,fun j hj=>?_,fun j h1 h2=>by dsimp only at h1;omega,a3,a4⟩;dsimp only at hj ⊢
     rcases aH (aP hj)with h3 | h3
     ·exact a1 j h3
     ·subst h3;rw[a2 j (au _) (by omega)];exact hk4
    ·rw[ay hq]
     refine⟨au _,fun j hj=>?_,fun j h1 h2=>by dsimp only at h1;omega,ih.all,ih.len⟩;dsimp only at hj ⊢
     rcases aH (aP hj)with h3 | h3
     ·exact ih.done j (by omega)
     ·subst h3;exact hk4
theorem Z_ {s:Sq}{C:List Int}(hI:inj s.I)(hw:within s.I C)(ho:s.own=0\/s.own=1)(hb:s.kE=0\/s.kE=1)(h:Among S3 s.I C s.I.length):Among F4 s.I (neutral s C) s.I.length:=by
 have hi:=Iy hI hw ho hb h s.I.length (au _);unfold neutral scan uK;generalize kU s.I isNe (m5 s) s.I.length (0,C)=q at *;by_cases hq:q.1<s.I.length
 ·rw[aE hq];exact(OB hI hw ho hb (au _) hi hq).1
 ·rw[ay hq];exact fun j hj=>hi.done j (by have:=hi.le;omega)
theorem OC {R K:List Int}{s:Sq}{C:List Int}(hI:inj s.I)(hw:within s.I C)(ho:s.own=0\/s.own=1)(hb:s.kE=0\/s.kE=1)(h:Among S0 s.I C s.I.length) :
 Among F4 s.I (rules R K s C) s.I.length/\(rules R K s C).length=C.length:=by
 obtain⟨h1,l1⟩:=Oy (K:=K) hb hw h;have h2:=W9 (K:=K) hb ho (jm R s.I (weak K s C) s.I.length).out h1 (jm R s.I (weak K s C) s.I.length).out.length;have l2:=EH K s (jm R s.I (weak K s C) s.I.length).out (weak K s C) (jm R s.I (weak K s C) s.I.length).out.length;exact⟨Z_ hI (hw.of (l2.trans l1)) ho hb h2,by rw[rules,OA,brackets,l2,l1]⟩
theorem S9 (l c:Int)(hc:F4 c):up l c=if l % 2=0/\(c=3\/c=6)then 2 else if c≠way l then 1 else 0:=by
 unfold up way
 rcases hc with h | h | h | h <;> subst h <;> (by_cases h1:l % 2=1 <;> simp[h1] <;> omega)
end Go.Proofs.YtnakejhohdbfdacGreatDoor.j9
namespace Go.Proofs.YtnakejhohdbfdacGreatDoor.j9
def ng (K:List Int)(k:Nat):List Nat:=(List.range k).filter (fun i=>!gone (nth K i))
theorem uL (K:List Int)(k:Nat):ng K (k+1)=if gone (nth K k)then ng K k else ng K k++[k]:=by
 unfold ng;rw[eS,dN];cases h:gone (nth K k) <;> simp[h]
theorem BN (K:List Int)(k x:Nat)(h:x∈ng K k):x<k/\gone (nth K x)=false:=by
 unfold ng at h;rw[dJ,cE]at h;exact⟨h.1,by simpa using h.2⟩
theorem OD (K:List Int)(k x:Nat)(h:x<k)(hg:gone (nth K x)=false):x∈ng K k:=by
 unfold ng;rw[dJ,cE];exact⟨h,by simp[hg]⟩
theorem uM (K:List Int)(k:Nat):(ng K k).Pairwise (· < ·):=List.Pairwise.filter _ List.pairwise_lt_range
structure qM (K L:List Int)(k:Nat)(rs:List (List Nat)):Prop where
 flat:rs.flatten=ng K k
 ne:∀r∈rs,r≠[]
 LF:∀r∈rs,∀x∈r,nth L x=nth L (iV r)
theorem OE (init:List (List Nat))(r:List Nat):((init++[r])[(init++[r]).length - 1]?).getD []=r:=by simp
theorem OG (init:List (List Nat))(r x:List Nat):(init++[r]).set ((init++[r]).length - 1) x=init++[x]:=by
 simp
theorem kZ {r:List Nat}(h:r≠[]):jw r∈r:=by
 have hl:0<r.length:=bW.2 h;unfold jw;rw[aA (by omega)];exact bB _
theorem lH {r:List Nat}(h:r≠[]):iV r∈r:=by
 have hl:0<r.length:=bW.2 h;unfold iV;rw[aA hl];exact bB _
theorem mD {r:List Nat}(h:r≠[])(x:List Nat):iV (r++x)=iV r:=by
 have hl:0<r.length:=bW.2 h;unfold iV;rw[aJ hl]
theorem pL (K L:List Int):∀k,qM K L k (jC K L k)
 | 0=>⟨rfl,fun r h=>(by cases h),fun r h=>(by cases h)⟩
 | k+1=>by
   have ih:=pL K L k;rw[jC,oh];generalize jC K L k=rs at *;cases hg:gone (nth K k)
   ·rw[ay aG]
    by_cases he:rs=[]
    ·subst he
     rw[aE rfl];have hf:ng K k=[]:=ih.flat.symm;exact⟨by rw[uL,hg,ay aG,hf];rfl,fun r h=>by rw[ak.1 h];simp,fun r h x hx=>by rw[ak.1 h]at hx ⊢;rw[ak.1 hx];rfl⟩
    ·rw[ay he]
     obtain⟨init,r,hr⟩:∃init r,rs=init++[r]:=⟨rs.dropLast,rs.getLast he,(List.dropLast_concat_getLast he).symm⟩;subst hr;rw[OE,OG];have hrm:r∈init++[r]:=by simp
     by_cases hl:nth L (jw r)=nth L k
     ·rw[aE hl]
      refine⟨?_,fun x hx=>?_,fun x hx y hy=>?_⟩
      ·rw[uL,hg,ay aG,<-ih.flat];simp
      ·rcases a_.1 hx with h | h
       ·exact ih.ne x (dO _ h)
       ·rw[ak.1 h];simp
      ·rcases a_.1 hx with h | h
       ·exact ih.LF x (dO _ h) y hy
       ·rw[ak.1 h]at hy ⊢
        rw[mD (ih.ne r hrm)]
        rcases a_.1 hy with h2 | h2
        ·exact ih.LF r hrm y h2
        ·rw[ak.1 h2,<-hl]
         exact ih.LF r hrm _ (kZ (ih.ne r hrm))
     ·rw[ay hl]
      refine⟨?_,fun x hx=>?_,fun x hx y hy=>?_⟩
      ·rw[uL,hg,ay aG,<-ih.flat];simp
      ·rcases a_.1 hx with h | h
       ·exact ih.ne x h
       ·rw[ak.1 h];simp
      ·rcases a_.1 hx with h | h
       ·exact ih.LF x h y hy
       ·rw[ak.1 h]at hy ⊢;rw[ak.1 hy];rfl
   ·rw[aE rfl]
    exact⟨by rw[uL,hg,aE rfl];exact ih.flat,ih.ne,ih.LF⟩
structure kr (K:List Int)(rs:List (List Nat)):Prop where
 sorted:rs.flatten.Pairwise (· < ·)
 ne:∀i,i<rs.length->run rs i≠[]
 lt:∀x∈rs.flatten,x<K.length/\gone (nth K x)=false
theorem run_get {rs:List (List Nat)}{i:Nat}(h:i<rs.length):run rs i=rs[i]:=by simp[run,aA h]
theorem mS {rs:List (List Nat)}{i:Nat}(h:i<rs.length):run rs i∈rs:=by rw[run_get h];exact bB h
theorem sH (K L:List Int):kr K (jC K L K.length):=by
 have h:=pL K L K.length;refine⟨by rw[h.flat];exact uM K _,fun i hi=>h.ne _ (mS hi),fun x hx=>?_⟩;rw[h.flat]at hx;exact BN K _ x hx
theorem kr.before {K:List Int}{rs:List (List Nat)}(h:kr K rs){i j:Nat}(hij:i<j)(hj:j<rs.length){x y:Nat}(hx:x∈run rs i)(hy:y∈run rs j):x<y:=by
 have hs:=h.sorted;rw[List.pairwise_flatten]at hs;have:=bE.1 hs.2 i j (by omega) hj hij;rw[run_get (by omega)]at hx;rw[run_get hj]at hy;exact this x hx y hy
theorem kr.inside {K:List Int}{rs:List (List Nat)}(h:kr K rs){i:Nat}(hi:i<rs.length):(run rs i).Pairwise (· < ·):=by
 have hs:=h.sorted;rw[List.pairwise_flatten]at hs;rw[run_get hi];exact hs.1 _ (bB hi)
theorem kr.mem {K:List Int}{rs:List (List Nat)}(h:kr K rs){i x:Nat}(hi:i<rs.length)(hx:x∈run rs i):x<K.length/\gone (nth K x)=false :=
 h.lt x (List.mem_flatten.2 ⟨_,mS hi,hx⟩)
theorem kr.later {K:List Int}{rs:List (List Nat)}(h:kr K rs){i j:Nat}(hi:i<rs.length)(hj:j<rs.length)(hf:follows K (run rs i) (run rs j)=true):i<j:=by
 unfold follows at hf;rw[dK,eR]at hf;have hm:=oZ _ _ _ _ hf.2;have hne:iV (run rs j)≠jw (run rs i):=by
  intro e;have:=hf.2;rw[e,nO,lY K _ _ (h.mem hi (kZ (h.ne i hi))).1,show dn (nth K (jw (run rs i)))=1 by rw[dn,hf.1];rfl,ay (by omega)]at this;have:=oZ _ _ _ _ this;omega
 rcases b8 i j with h1 | h1 | h1
 ·exact h1
 ·subst h1
  -- the first of a run is no greater than its last
  exfalso;have hs:=h.inside hi;have hl:0<(run rs i).length:=bW.2 (h.ne i hi);have:iV (run rs i)<=jw (run rs i):=by
   unfold iV jw;rw[aA hl,aA (by omega)]
   rcases Nat.eq_or_lt_of_le (aN ((run rs i).length - 1))with e | e
   ·simp[<-e]
   ·exact b7 (bE.1 hs 0 ((run rs i).length - 1) hl (by omega) e)
  omega
 ·exfalso
  have:=h.before h1 hi (lH (h.ne j hj)) (kZ (h.ne i hi));omega
theorem kr.OH {K:List Int}{rs:List (List Nat)}(h:kr K rs){i j j':Nat}(hj:j<rs.length)(hj':j'<rs.length)(hf:follows K (run rs i) (run rs j)=true)(hf':follows K (run rs i) (run rs j')=true):j=j':=by
 unfold follows at hf hf';rw[dK,eR]at hf hf';have e:iV (run rs j)=iV (run rs j'):=by have:=hf.2.symm.trans hf'.2;exact aZ this
 rcases b8 j j' with h1 | h1 | h1
 ·have:=h.before h1 hj' (lH (h.ne j hj)) (lH (h.ne j' hj'));omega
 ·exact h1
 ·have:=h.before h1 hj (lH (h.ne j' hj')) (lH (h.ne j hj));omega
theorem kg {K:List Int}{rs:List (List Nat)}{a:List Nat}:∀m j,lX K rs a m=some j->j<m/\follows K a (run rs j)=true
 | 0,j,h=>by cases h
 | m+1,j,h=>by
   rw[lX]at h;by_cases h1:follows K a (run rs m)=true
   ·rw[aE h1]at h;cases h;exact⟨bP _,h1⟩
   ·rw[ay h1]at h;have:=kg m j h;exact⟨by omega,this.2⟩
theorem zS {K:List Int}{rs:List (List Nat)}{a:List Nat}:∀m,lX K rs a m=none->∀j,j<m->follows K a (run rs j)=false
 | 0,_,j,h=>by omega
 | m+1,h,j,hj=>by
   rw[lX]at h;by_cases h1:follows K a (run rs m)=true
   ·rw[aE h1]at h;cases h
   ·rw[ay h1]at h
    rcases aH (aP hj)with h2 | h2
    ·exact zS m h j h2
    ·subst h2;simpa using h1
theorem kr.Kh {K:List Int}{rs:List (List Nat)}(h:kr K rs){i j:Nat}(hj:j<rs.length)(hf:follows K (run rs i) (run rs j)=true):lX K rs (run rs i) rs.length=some j:=by
 cases hn:lX K rs (run rs i) rs.length with
 | none=>have:=zS _ hn j hj;rw[hf]at this;cases this
 | some j'=>obtain⟨a,b⟩:=kg _ _ hn;rw[h.OH hj a hf b]
theorem yT {K:List Int}{rs:List (List Nat)}(h:kr K rs):∀f i,i<rs.length->∀x∈chain K rs f i,∃j,i<=j/\j<rs.length/\x∈run rs j
 | 0,_,_,x,hx=>by cases hx
 | f+1,i,hi,x,hx=>by
   rw[chain]at hx
   rcases a_.1 hx with h1 | h1
   ·exact⟨i,au _,hi,h1⟩
   ·cases hn:lX K rs (run rs i) rs.length with
    | none=>rw[hn]at h1;cases h1
    | some j =>
      rw[hn]at h1;obtain⟨a,b⟩:=kg _ _ hn;obtain⟨j',h2,h3,h4⟩:=yT h f j a x h1;exact⟨j',by have:=h.later hi a b;omega,h3,h4⟩
theorem xE {K:List Int}{rs:List (List Nat)}(h:kr K rs):∀f i,i<rs.length->(chain K rs f i).Pairwise (· < ·)
 | 0,_,_=>List.Pairwise.nil
 | f+1,i,hi=>by
   rw[chain,dI];refine⟨h.inside hi,?_,fun x hx y hy=>?_⟩
   ·cases hn:lX K rs (run rs i) rs.length with
    | none=>exact List.Pairwise.nil
    | some j=>exact xE h f j (kg _ _ hn).1
   ·cases hn:lX K rs (run rs i) rs.length with
    | none=>rw[hn]at hy;cases hy
    | some j =>
      rw[hn]at hy;obtain⟨a,b⟩:=kg _ _ hn;obtain⟨j',h2,h3,h4⟩:=yT h f j a y hy;exact h.before (by have:=h.later hi a b;omega) h3 hx h4
theorem wJ {I:List Nat}(h:I.Pairwise (· < ·)):inj I:=by
 intro j k hj hk e;rw[jq hj,jq hk]at e
 rcases b8 j k with h1 | h1 | h1
 ·have:=bE.1 h j k hj hk h1;omega
 ·exact h1
 ·have:=bE.1 h k j hk hj h1;omega
end Go.Proofs.YtnakejhohdbfdacGreatDoor.j9
namespace Go.Proofs.YtnakejhohdbfdacGreatDoor.j9
theorem q_ (K:List Int)(i j:Nat):∀k,partAt K k i=some j->j<k/\(iT K j)[0]?=some i
 | 0,h=>by cases h
 | k+1,h=>by
   rw[partAt]at h;by_cases h1:mh (nth K k)=false/\nth K k=22/\(iT K k)[0]?=some i
   ·rw[aE h1]at h;cases h;exact⟨bP _,h1.2.2⟩
   ·rw[ay h1]at h;have:=q_ K i j k h;exact⟨by omega,this.2⟩
theorem OI (K:List Int)(i i' p:Nat)(hi:i<K.length)(hi':i'<K.length)(hn:mh (nth K i)=true)(hn':mh (nth K i')=true)(h:nO K i=some p)(h':nO K i'=some p):i=i':=by
 have a:=pU K i hi;have b:=pU K i' hi';rw[hn,aE rfl,h]at a;rw[hn',aE rfl,h']at b;have a2:=(q_ K i p _ a).2;have b2:=(q_ K i' p _ b).2;exact aZ (a2.symm.trans b2)
theorem BO {K:List Int}{rs:List (List Nat)}(h:kr K rs):∀f g i,i<rs.length->rs.length<=i+f->rs.length<=i+g->chain K rs f i=chain K rs g i
 | 0,g,i,hi,hf,hg=>by omega
 | f+1,0,i,hi,hf,hg=>by omega
 | f+1,g+1,i,hi,hf,hg=>by
   rw[chain,chain];cases hn:lX K rs (run rs i) rs.length with
   | none=>rfl
   | some j =>
     obtain⟨a,b⟩:=kg _ _ hn;have:=h.later hi a b;show run rs i++chain K rs f j=run rs i++chain K rs g j;rw[BO h f g j a (by omega) (by omega)]
def ch (K:List Int)(rs:List (List Nat))(i:Nat):List Nat:=chain K rs rs.length i
def rest (K:List Int)(rs:List (List Nat))(t:Nat):List Nat:=match lX K rs (run rs t) rs.length with | none=>[] | some j=>ch K rs j
theorem ch_eq {K:List Int}{rs:List (List Nat)}(h:kr K rs){i:Nat}(hi:i<rs.length):ch K rs i=run rs i++rest K rs i:=by
 unfold ch rest;obtain⟨f,hf⟩:∃f,rs.length=f+1:=⟨rs.length - 1,by omega⟩
 conv=>lhs;rw[hf,chain]
 cases hn:lX K rs (run rs i) rs.length with
 | none=>rfl
 | some j =>
   obtain⟨a,b⟩:=kg _ _ hn;have:=h.later hi a b;show run rs i++chain K rs f j=run rs i++chain K rs rs.length j;rw[BO h f rs.length j a (by omega) (by omega)]
theorem wK {K:List Int}{rs:List (List Nat)}{b:List Nat}:∀m,wG K rs b m=true ↔ ∀j,j<m->follows K (run rs j) b=false
 | 0=>by simp[wG]
 | m+1=>by
   rw[wG,dK,wK m];constructor
   ·rintro ⟨h1,h2⟩ j hj
    rcases aH (aP hj)with h | h
    ·exact h1 j h
    ·subst h;simpa using h2
   ·intro h
    exact⟨fun j hj=>h j (by omega),by simpa using h m (bP _)⟩
structure Dv where
 all:List (List Nat)
 aw:Nat->Option Nat
 tl:List Nat
def leads (K:List Int)(r:List Nat):Option Nat:=if mh (nth K (jw r))then nO K (jw r)else none
def yU (K:List Int)(r:List Nat)(a:Nat)(aw:Nat->Option Nat):Nat->Option Nat:=fun p=>if leads K r=some p then some a else aw p
def qg (K:List Int)(rs:List (List Nat))(k:Nat)(d:Dv):Dv :=
 match d.aw (iV (run rs k))with
 | some a=>⟨d.all.set a ((d.all[a]?).getD []++run rs k),yU K (run rs k) a d.aw,d.tl.set a k⟩
 | none=>⟨d.all++[run rs k],yU K (run rs k) d.all.length d.aw,d.tl++[k]⟩
def jL (K:List Int)(rs:List (List Nat)):Nat->Dv
 | 0=>⟨[],fun _=>none,[]⟩
 | k+1=>qg K rs k (jL K rs k)
structure aac (K:List Int)(rs:List (List Nat))(k:Nat)(d:Dv):Prop where
 len:d.all.length=d.tl.length
 S_:d.all.length=(om K rs k).length
 sq:∀s t:Nat,d.tl[s]?=some t->∃x,d.all[s]?=some x/\(om K rs k)[s]?=some (x++rest K rs t)
 lt:∀s t:Nat,d.tl[s]?=some t->t<k/\∀j,lX K rs (run rs t) rs.length=some j->k<=j
 cov:∀t,t<k->(∃s:Nat,d.tl[s]?=some t)\/(∃j,lX K rs (run rs t) rs.length=some j/\j<k)
 awS:∀p s,d.aw p=some s->∃t,t<k/\leads K (run rs t)=some p
 awT:∀s t p:Nat,d.tl[s]?=some t->leads K (run rs t)=some p->d.aw p=some s
theorem oQ (K:List Int)(a b:List Nat):leads K a=some (iV b) ↔ follows K a b=true:=by
 unfold leads follows;cases mh (nth K (jw a)) <;> simp
theorem DW {K:List Int}{rs:List (List Nat)}(h:kr K rs){t t' p:Nat}(ht:t<rs.length)(ht':t'<rs.length)(e:leads K (run rs t)=some p)(e':leads K (run rs t')=some p):t=t':=by
 unfold leads at e e';cases hn:mh (nth K (jw (run rs t)))
 ·rw[hn]at e;cases e
 cases hn':mh (nth K (jw (run rs t')))
 ·rw[hn']at e';cases e'
 rw[hn,aE rfl]at e;rw[hn',aE rfl]at e';have m1:=kZ (h.ne t ht);have m2:=kZ (h.ne t' ht');have:=OI K _ _ p (h.mem ht m1).1 (h.mem ht' m2).1 hn hn' e e'
 rcases b8 t t' with h1 | h1 | h1
 ·have:=h.before h1 ht' m1 m2;omega
 ·exact h1
 ·have:=h.before h1 ht m2 m1;omega
theorem OJ {K:List Int}{rs:List (List Nat)}(h:kr K rs):∀k,k<=rs.length->aac K rs k (jL K rs k)
 | 0,_=>⟨rfl,rfl,fun s t h=>by simp[jL]at h,fun s t h=>by simp[jL]at h,fun t h=>by omega,fun p s h=>by simp[jL]at h,fun s t p h=>by simp[jL]at h⟩
 | k+1,hk=>by
   have ih:=OJ h k (by omega);have hkl:k<rs.length:=by omega
   rw[jL,qg];generalize jL K rs k=d at *;have hnk:∀j,lX K rs (run rs k) rs.length=some j->k+1<=j:=fun j hj=>by
    obtain⟨a,b⟩:=kg _ _ hj;exact h.later hkl a b
   cases ha:d.aw (iV (run rs k))with
   | some a =>
     obtain⟨t,ht,hl⟩:=ih.awS _ _ ha;have hf:=(oQ K _ _).1 hl;have hnx:=h.Kh hkl hf;have hta:d.tl[a]?=some t:=by
      rcases ih.cov t ht with⟨s,hs⟩ | ⟨j,hj1,hj2⟩
      ·have:=ih.awT s t _ hs hl;rw[ha]at this;cases this;exact hs
      ·rw[hnx]at hj1;cases hj1;omega
     have hal:a<d.tl.length:=(aY.1 hta).1;have hfree:wG K rs (run rs k) rs.length≠true:=fun e=>by
      have:=(wK _).1 e t (by omega);rw[hf]at this;cases this
     have LG:om K rs (k+1)=om K rs k:=by rw[om,ay hfree]
     obtain⟨x,hx1,hx2⟩:=ih.sq a t hta;have hrest:rest K rs t=run rs k++rest K rs k:=by rw[rest,hnx];exact ch_eq h hkl
     refine⟨by simp[ih.len],by rw[LG];simpa using ih.S_,fun s t' hs=>?_,fun s t' hs=>?_,fun t' ht'=>?_,fun p s hp=>?_,fun s t' p hs hp=>?_⟩
     ·dsimp only at hs ⊢
      by_cases hsa:s=a
      ·subst hsa
       rw[bn hal]at hs;cases hs;refine⟨x++run rs k,by rw[bn (by rw[ih.len];exact hal),hx1];rfl,?_⟩;rw[LG,hx2,hrest,dF]
      ·rw[bJ (fun e=>hsa e.symm)]at hs
       obtain⟨y,hy1,hy2⟩:=ih.sq s t' hs;exact⟨y,by rw[bJ (fun e=>hsa e.symm)];exact hy1,by rw[LG];exact hy2⟩
     ·dsimp only at hs
      by_cases hsa:s=a
      ·subst hsa
       rw[bn hal]at hs;cases hs;exact⟨bP _,hnk⟩
      ·rw[bJ (fun e=>hsa e.symm)]at hs
       obtain⟨h1,h2⟩:=ih.lt s t' hs;refine⟨by omega,fun j hj=>?_⟩;have h3:=h2 j hj
       rcases aH h3 with h4 | h4
       ·exact h4
       ·exfalso
        subst h4;have:=(oQ K _ _).2 (kg _ _ hj).2;have:=ih.awT s t' _ hs this;rw[ha]at this;cases this;exact hsa rfl
     ·dsimp only
      rcases aH (aP ht')with h1 | h1
      ·rcases ih.cov t' h1 with⟨s,hs⟩ | ⟨j,hj1,hj2⟩
       ·by_cases hsa:s=a
        ·subst hsa
         rw[hta]at hs;cases hs;exact .inr ⟨k,hnx,bP _⟩
        ·exact .inl ⟨s,by rw[bJ (fun e=>hsa e.symm)];exact hs⟩
       ·exact .inr ⟨j,hj1,by omega⟩
      ·subst h1;exact .inl ⟨a,bn hal⟩
     ·dsimp only[yU]at hp
      by_cases hlk:leads K (run rs k)=some p
      ·exact⟨k,bP _,hlk⟩
      ·rw[ay hlk]at hp;obtain⟨t',h1,h2⟩:=ih.awS p s hp;exact⟨t',by omega,h2⟩
     ·dsimp only[yU]at hs ⊢
      by_cases hsa:s=a
      ·subst hsa
       rw[bn hal]at hs;cases hs;rw[aE hp]
      ·rw[bJ (fun e=>hsa e.symm)]at hs
       rw[ay (fun e=>by
        have h1:=(ih.lt s t' hs).1
        have:=DW h hkl (by omega) e hp
        omega)]
       exact ih.awT s t' p hs hp
   | none =>
     have hno:∀t,t<k->follows K (run rs t) (run rs k)=false:=by
      intro t ht;cases hf:follows K (run rs t) (run rs k)with
      | false=>rfl
      | true =>
        have hl:=(oQ K _ _).2 hf
        rcases ih.cov t ht with⟨s,hs⟩ | ⟨j,hj1,hj2⟩
        ·have:=ih.awT s t _ hs hl;rw[ha]at this;cases this
        ·have:=h.Kh hkl hf;rw[hj1]at this;cases this;omega
     have hfree:wG K rs (run rs k) rs.length=true:=(wK _).2 (fun j hj=>by
      cases hf:follows K (run rs j) (run rs k)with
      | false=>rfl
      | true=>have:=h.later hj hkl hf;rw[hno j this]at hf;cases hf)
     have LG:om K rs (k+1)=om K rs k++[ch K rs k]:=by rw[om,aE hfree];rfl
     have hlen:d.tl.length=(om K rs k).length:=by rw[<-ih.len];exact ih.S_
     refine⟨by simp[ih.len],by rw[LG];simpa using ih.S_,fun s t' hs=>?_,fun s t' hs=>?_,fun t' ht'=>?_,fun p s hp=>?_,fun s t' p hs hp=>?_⟩
     ·dsimp only at hs ⊢
      rcases cH s d.tl.length with h1 | h1
      ·rw[aJ h1]at hs
       obtain⟨y,hy1,hy2⟩:=ih.sq s t' hs;exact⟨y,by rw[aJ (by rw[ih.len];exact h1)];exact hy1,by rw[LG,aJ (by omega)];exact hy2⟩
      ·rw[aI h1]at hs
       have hs0:s - d.tl.length=0:=by
        have:=(aY.1 hs).1;simp at this;omega
       rw[hs0]at hs;simp at hs;subst hs;refine⟨run rs k,by rw[aI (by rw[ih.len];exact h1),ih.len,hs0];rfl,?_⟩;rw[LG,aI (by omega),<-hlen,hs0,<-ch_eq h hkl];rfl
     ·dsimp only at hs
      rcases cH s d.tl.length with h1 | h1
      ·rw[aJ h1]at hs
       obtain⟨h2,h3⟩:=ih.lt s t' hs;refine⟨by omega,fun j hj=>?_⟩;have h4:=h3 j hj
       rcases aH h4 with h5 | h5
       ·exact h5
       ·exfalso;subst h5
        have:=(kg _ _ hj).2;rw[hno t' h2]at this;cases this
      ·rw[aI h1]at hs
       have hs0:s - d.tl.length=0:=by
        have:=(aY.1 hs).1;simp at this;omega
       rw[hs0]at hs;simp at hs;subst hs;exact⟨bP _,hnk⟩
     ·dsimp only
      rcases aH (aP ht')with h1 | h1
      ·rcases ih.cov t' h1 with⟨s,hs⟩ | ⟨j,hj1,hj2⟩
       ·exact .inl ⟨s,by rw[aJ (aY.1 hs).1];exact hs⟩
       ·exact .inr ⟨j,hj1,by omega⟩
      ·subst h1;exact .inl ⟨d.tl.length,by rw[aI (au _),dm];rfl⟩
     ·dsimp only[yU]at hp
      by_cases hlk:leads K (run rs k)=some p
      ·exact⟨k,bP _,hlk⟩
      ·rw[ay hlk]at hp;obtain⟨t',h1,h2⟩:=ih.awS p s hp;exact⟨t',by omega,h2⟩
     ·dsimp only[yU]at hs ⊢
      rcases cH s d.tl.length with h1 | h1
      ·rw[aJ h1]at hs
       rw[ay (fun e=>by
        have h1:=(ih.lt s t' hs).1
        have:=DW h hkl (by omega) e hp
        omega)]
       exact ih.awT s t' p hs hp
      ·rw[aI h1]at hs
       have hs0:s - d.tl.length=0:=by
        have:=(aY.1 hs).1;simp at this;omega
       rw[hs0]at hs;simp at hs;subst hs;rw[aE hp,ih.len,show s=d.tl.length by omega]
theorem xF {K:List Int}{rs:List (List Nat)}(h:kr K rs):(jL K rs rs.length).all=pI K rs:=by
 have hi:=OJ h rs.length (au _);refine eE (fun s=>?_)
 rcases cH s (jL K rs rs.length).tl.length with h1 | h1
 ·obtain⟨x,hx1,hx2⟩:=hi.sq s _ (aA h1)
  have hr:rest K rs (jL K rs rs.length).tl[s]=[]:=by
   unfold rest;cases hn:lX K rs (run rs (jL K rs rs.length).tl[s]) rs.length with
   | none=>rfl
   | some j =>
     have:=(hi.lt s _ (aA h1)).2 j hn;have:=(kg _ _ hn).1;omega
  rw[hr,dh]at hx2;rw[hx1];exact hx2.symm
 ·rw[bN (by rw[hi.len];exact h1),pI,bN (by rw[<-hi.S_,hi.len];exact h1)]
end Go.Proofs.YtnakejhohdbfdacGreatDoor.j9
namespace Go.Proofs.YtnakejhohdbfdacGreatDoor.j9
theorem BP (K L:List Int)(base:Int):∀x,uJ K L base x=match (ng K x).getLast? with | none=>base | some y=>nth L y
 | 0=>rfl
 | x+1=>by
   rw[uJ,uL];cases h:gone (nth K x)
   ·rw[ay aG,ay aG,List.getLast?_concat]
   ·rw[aE rfl,aE rfl];exact BP K L base x
theorem LH (K:List Int)(n x:Nat)(h:x<=n):ng K x=(ng K n).filter (fun y=>decide (y<x)):=by
 induction n with
 | zero=>rw[show x=0 by omega];rfl
 | succ n ih =>
   rcases aH h with h1 | h1
   ·rw[uL,ih (by omega)]
    cases hg:gone (nth K n)
    ·rw[ay aG,dN,List.filter_cons_of_neg (by simp;omega),List.filter_nil,dh]
    ·rw[aE rfl]
   ·subst h1
    symm
    rw[eX];intro y hy;exact bQ (BN K _ y hy).1
theorem BQ {rs:List (List Nat)}{i:Nat}(h:i<rs.length):rs.flatten=(rs.take i).flatten++(run rs i++(rs.drop (i+1)).flatten):=by
 conv=>lhs;rw[<-cY i rs,cZ h]
 rw[eY,List.flatten_cons,run_get h]
theorem vD {rs:List (List Nat)}{i x:Nat}(h:x∈(rs.take i).flatten):∃j,j<i/\j<rs.length/\x∈run rs j:=by
 obtain⟨r,hr,hx⟩:=List.mem_flatten.1 h;obtain⟨j,hj,he⟩:=bU hr;rw[bH]at hj;rw[List.getElem_take]at he;exact⟨j,by omega,by omega,by rw[run_get (by omega),he];exact hx⟩
theorem vE {rs:List (List Nat)}{i x:Nat}(h:x∈(rs.drop i).flatten):∃j,i<=j/\j<rs.length/\x∈run rs j:=by
 obtain⟨r,hr,hx⟩:=List.mem_flatten.1 h;obtain⟨j,hj,he⟩:=bU hr;rw[cJ]at hj;rw[List.getElem_drop]at he;exact⟨i+j,by omega,by omega,by rw[run_get (by omega),he];exact hx⟩
theorem OK {r:List Nat}(hs:r.Pairwise (· < ·)){x:Nat}(hx:x∈r):iV r<=x:=by
 obtain⟨j,hj,he⟩:=bU hx;unfold iV;rw[aA (by omega)]
 rcases bO j with h | h
 ·subst h;rw[he];exact au _
 ·have:=bE.1 hs 0 j (by omega) hj h
  simp only[dZ];omega
theorem le_last {r:List Nat}(hs:r.Pairwise (· < ·)){x:Nat}(hx:x∈r):x<=jw r:=by
 obtain⟨j,hj,he⟩:=bU hx;unfold jw;rw[aA (by omega)]
 rcases cH j (r.length - 1)with h | h
 ·have:=bE.1 hs j (r.length - 1) hj (by omega) h
  simp only[dZ];omega
 ·have e:j=r.length - 1:=by omega
  subst e;simp only[dZ];omega
theorem FT {r:List Nat}(h:r≠[]):r.getLast?=some (jw r):=by
 rw[List.getLast?_eq_getElem?];have hl:0<r.length:=bW.2 h;unfold jw;rw[aA (by omega)];rfl
theorem OL {r:List Nat}(h:r≠[]):r.head?=some (iV r):=by
 rw[List.head?_eq_getElem?];have hl:0<r.length:=bW.2 h;unfold iV;rw[aA hl];rfl
theorem FU {K L:List Int}{base:Int}{rs:List (List Nat)}(hr:qM K L K.length rs){i:Nat}(hi:i<rs.length) :
 uJ K L base (iV (run rs i))=if i=0 then base else nth L (iV (run rs (i - 1))):=by
 have ho:kr K rs:=⟨by rw[hr.flat];exact uM K _,fun i hi=>hr.ne _ (mS hi),fun x hx=>by rw[hr.flat]at hx;exact BN K _ x hx⟩;have hx:=(ho.mem hi (lH (ho.ne i hi))).1;rw[BP,LH K K.length _ (b7 hx),<-hr.flat,BQ hi,dN,dN];have h1:(rs.take i).flatten.filter (fun y=>decide (y<iV (run rs i)))=(rs.take i).flatten:=by
  rw[eX];intro y hy;obtain⟨j,h2,h3,h4⟩:=vD hy;exact bQ (ho.before h2 hi h4 (lH (ho.ne i hi)))
 have h2:(run rs i).filter (fun y=>decide (y<iV (run rs i)))=[]:=by
  rw[dw];intro y hy;have:=OK (ho.inside hi) hy;simp;omega
 have h3:(rs.drop (i+1)).flatten.filter (fun y=>decide (y<iV (run rs i)))=[]:=by
  rw[dw];intro y hy;obtain⟨j,h2,h3,h4⟩:=vE hy;have:=ho.before (show i<j by omega) h3 (lH (ho.ne i hi)) h4;simp;omega
 rw[h1,h2,h3,dh,dh];cases i with
 | zero=>rfl
 | succ m =>
   have hm:m<rs.length:=by omega
   have e:(rs.take (m+1)).flatten=(rs.take m).flatten++run rs m:=by
    rw[eF hm,eY,run_get hm];simp
   rw[e,List.getLast?_append,FT (ho.ne m hm),ay (by omega),Option.some_or];exact hr.LF _ (mS hm) _ (kZ (ho.ne m hm))
theorem zT (K L:List Int)(base:Int):∀f j,K.length<=j+f->qX K L base f j=match ((ng K K.length).filter (fun y=>decide (j<=y))).head? with | none=>base | some y=>nth L y
 | 0,j,h=>by
   have:(ng K K.length).filter (fun y=>decide (j<=y))=[]:=by
    rw[dw];intro y hy;have:=(BN K _ y hy).1;simp;omega
   rw[this];rfl
 | f+1,j,h=>by
   rw[qX];by_cases hj:j<K.length
   ·rw[aE hj]
    cases hg:gone (nth K j)
    ·rw[ay aG]
     -- j itself is the first
     have hs:=uM K K.length;have hm:=OD K K.length j hj hg;obtain⟨t,ht,he⟩:=bU hm;have:((ng K K.length).filter (fun y=>decide (j<=y))).head?=some j:=by
      have e:ng K K.length=(ng K K.length).take t++(j :: (ng K K.length).drop (t+1)):=by
       conv=>lhs;rw[<-cY t (ng K K.length),cZ ht,he]
      rw[e,dN];have z:((ng K K.length).take t).filter (fun y=>decide (j<=y))=[]:=by
       rw[dw];intro y hy;obtain⟨u,hu,hu2⟩:=bU hy;rw[bH]at hu;rw[List.getElem_take]at hu2;have:=bE.1 hs u t (by omega) ht (by omega);rw[he,hu2]at this;simp;omega
      rw[z,bT,List.filter_cons_of_pos (by simp)];rfl
     rw[this]
    ·rw[aE rfl,zT K L base f (j+1) (by omega)]
     have:(ng K K.length).filter (fun y=>decide (j+1<=y))=(ng K K.length).filter (fun y=>decide (j<=y)):=by
      refine List.filter_congr (fun y hy=>?_);have hgy:=(BN K _ y hy).2;by_cases e:y=j
      ·subst e;rw[hg]at hgy;cases hgy
      ·rcases cH j y with h1 | h1
       ·rw[bQ (by omega),bQ (by omega)]
       ·rw[bS (by omega),bS (by omega)]
     rw[this]
   ·rw[ay hj]
    have:(ng K K.length).filter (fun y=>decide (j<=y))=[]:=by
     rw[dw];intro y hy;have:=(BN K _ y hy).1;simp;omega
    rw[this];rfl
theorem EI {K L:List Int}{base:Int}{rs:List (List Nat)}(hr:qM K L K.length rs){i:Nat}(hi:i<rs.length) :
 qX K L base K.length (jw (run rs i)+1)=if i+1<rs.length then nth L (iV (run rs (i+1)))else base:=by
 have ho:kr K rs:=⟨by rw[hr.flat];exact uM K _,fun i hi=>hr.ne _ (mS hi),fun x hx=>by rw[hr.flat]at hx;exact BN K _ x hx⟩;rw[zT K L base K.length _ (by omega),<-hr.flat,BQ hi,dN,dN];have h1:(rs.take i).flatten.filter (fun y=>decide (jw (run rs i)+1<=y))=[]:=by
  rw[dw];intro y hy;obtain⟨j,h2,h3,h4⟩:=vD hy;have:=ho.before h2 hi h4 (kZ (ho.ne i hi));simp;omega
 have h2:(run rs i).filter (fun y=>decide (jw (run rs i)+1<=y))=[]:=by
  rw[dw];intro y hy;have:=le_last (ho.inside hi) hy;simp;omega
 have h3:(rs.drop (i+1)).flatten.filter (fun y=>decide (jw (run rs i)+1<=y))=(rs.drop (i+1)).flatten:=by
  rw[eX];intro y hy;obtain⟨j,h2,h3,h4⟩:=vE hy;have:=ho.before (show i<j by omega) h3 (kZ (ho.ne i hi)) h4;exact bQ (by omega)
 rw[h1,h2,h3,bT,bT];by_cases hn:i+1<rs.length
 ·rw[aE hn,cZ hn,List.flatten_cons]
  have e:=ho.ne (i+1) hn;rw[<-run_get hn,List.head?_append,OL e,Option.some_or]
 ·rw[ay hn,List.drop_eq_nil_of_le (by omega)];rfl
end Go.Proofs.YtnakejhohdbfdacGreatDoor.j9
namespace Go.Proofs.YtnakejhohdbfdacGreatDoor.j9
def ru:List nE->List nE
 | []=>[]
 | x :: r=>if x.qw then r else ru r
def under:List nE->Nat->Option Int
 | [],_=>none
 | x :: r,d=>if x.qw then(match d with | 0=>r.head?.map (·.lv) | d+1=>under r d)else under r d
def oB:List nE->Nat
 | []=>0
 | x :: r=>if x.qw then oB r+1 else oB r
theorem AZ (st:List nE):top st=(st.reverse.head?).getD default:=by
 unfold top;rw[List.head?_reverse,List.getLast?_eq_getElem?]
theorem tJ:∀f (st:List nE),st.length<=f->(mW f st).reverse=ru st.reverse
 | 0,st,h=>by have:st=[]:=eM (by omega);subst this;rfl
 | f+1,st,h=>by
   rw[mW,AZ];cases hr:st.reverse with
   | nil =>
     have:st=[]:=by simpa using hr
     subst this;have h2:=tJ f [] (by simp);simp[ru]at h2 ⊢;intro _;exact h2
   | cons x r =>
     have hd:st.dropLast.reverse=r:=by rw[show st=(x :: r).reverse by rw[<-hr,List.reverse_reverse],List.dropLast_reverse,List.reverse_reverse];rfl
     show(if x.qw=true then st.dropLast else mW f st.dropLast).reverse=if x.qw then r else ru r
     cases hx:x.qw
     ·rw[ay aG,ay aG,tJ f _ (by rw[List.length_dropLast];omega),hd]
     ·rw[aE rfl,aE rfl,hd]
theorem OM (x:nE)(r:List nE)(d:Nat)(h:x.qw=false):under (x :: r) d=under r d:=by cases d <;> simp[under,h]
theorem DX:∀r,(ru r).head?.map (·.lv)=under r 0
 | []=>rfl
 | x :: r=>by
   rw[ru,under];cases x.qw
   ·exact DX r
   ·rfl
theorem BR:∀r d,under (ru r) d=under r (d+1)
 | [],_=>rfl
 | x :: r,d=>by
   rw[ru,under];cases x.qw
   ·exact BR r d
   ·rfl
theorem FV:∀r,0<oB r->oB (ru r)+1=oB r
 | [],h=>by simp[oB]at h
 | x :: r,h=>by
   rw[ru,oB];rw[oB]at h;cases hx:x.qw
   ·rw[hx]at h;exact FV r (by simpa using h)
   ·rfl
def tK (x:nE):Prop:=0<=x.lv/\x.lv<=9/\(x.ov=-1\/x.ov=0\/x.ov=1)
structure sI (r:List nE):Prop where
 ne:r≠[]
 low:∀x,r.getLast?=some x->x.qw=false
 ok:∀x∈r,tK x
theorem sI.push {r:List nE}(h:sI r){x:nE}(hx:tK x):sI (x :: r) :=
 ⟨by simp,fun y hy=>h.low y (by rw[List.getLast?_cons_of_ne_nil h.ne]at hy;exact hy),fun y hy=>by
  rcases bA.1 hy with e | e
  ·subst e;exact hx
  ·exact h.ok y e⟩
theorem sI.pop {r:List nE}{x:nE}(h:sI (x :: r))(hr:r≠[]):sI r :=
 ⟨hr,fun y hy=>h.low y (by rw[List.getLast?_cons_of_ne_nil hr];exact hy),fun y hy=>h.ok y (dH _ hy)⟩
theorem sI.ru:∀ {r:List nE},sI r->0<oB r->sI (ru r)
 | [],h,_=>absurd rfl h.ne
 | x :: r,h,hi=>by
   rw[j9.ru];rw[oB]at hi;cases hx:x.qw
   ·rw[hx]at hi
    have hi':0<oB r:=by simpa using hi
    have hr:r≠[]:=by intro e;subst e;simp[oB]at hi'
    exact(h.pop hr).ru hi'
   ·have hr:r≠[]:=by
     intro e;subst e;have:=h.low x rfl;rw[hx]at this;cases this
    exact h.pop hr
structure Iz (K:List Int)(base:Int)(k:Nat)(e:xw):Prop where
 st:sI e.st.reverse
 op:e.op=oB e.st.reverse
 cnt:(iT K k).length=e.mi+e.op
 over:∀d i:Nat,d<e.mi->(iT K k)[d]?=some i->nth e.L i=(top e.st).lv
 inn:∀d i:Nat,(iT K k)[e.mi+d]?=some i->under e.st.reverse d=some (nth e.L i)
 len:e.L.length=K.length/\e.C.length=K.length
 pair:∀i j,i<K.length->mh (nth K i)=true->nO K i=some j->j<k->nth e.L j=nth e.L i
 small:∀i,0<=nth e.L i/\nth e.L i<=9
 sz:e.st.length<=k+1/\e.mi<=k/\e.me<=k
theorem LI (K:List Int)(k:Nat)(hk:k<=K.length)(d i:Nat)(h:(iT K k)[d]?=some i):i<k:=((xA K k hk).op d i h).2.1
theorem ON (K:List Int)(i k:Nat)(hk:k<K.length)(hi:i<K.length)(hn:mh (nth K i)=true)(hm:nO K i=some k):i<k/\(iT K k)[0]?=some i/\nth K k=22/\mh (nth K k)=false:=by
 have hge:=oZ _ _ _ _ hm;have hne:i≠k:=by
  intro e;subst e;rw[nO,lY K i _ hi,show dn (nth K i)=1 by rw[dn,hn];rfl,ay (by omega)]at hm;have:=oZ _ _ _ _ hm;omega
 have hik:i<k:=by omega
 have hp:=xA K k (by omega)
 rcases hp.cl i hik hn with⟨d,hd⟩ | ⟨j,hj1,hj2⟩
 ·have h3:=(hp.op d i hd).2.2.1
  rw[hm,lY K k _ hk]at h3;by_cases h0:(d:Int)+1+dn (nth K k)=0
  ·have hdn:dn (nth K k)=1\/dn (nth K k)=-1\/dn (nth K k)=0:=by unfold dn;split;exact .inl rfl;split;exact .inr (.inl rfl);exact .inr (.inr rfl)
   have hd0:d=0:=by omega
   have h1:dn (nth K k)=-1:=by omega
   subst hd0;unfold dn at h1;cases hin:mh (nth K k)
   ·rw[hin,ay aG]at h1
    by_cases h22:nth K k=22
    ·exact⟨hik,hd,h22,rfl⟩
    ·rw[ay h22]at h1;omega
   ·rw[hin,aE rfl]at h1;omega
  ·rw[ay h0]at h3
   have:=oZ _ _ _ _ h3.symm;omega
 ·rw[hm]at hj2;cases hj2
  have:=(q_ K i k k hj1).1;omega
theorem yV {e:xw}(h:sI e.st.reverse):tK (top e.st):=by
 rw[AZ];cases hr:e.st.reverse with
 | nil=>exact absurd hr h.ne
 | cons x r=>exact h.ok x (by rw[hr];simp)
theorem Ki (l:Int)(odd:Bool):kT l odd=l+1\/kT l odd=l+2:=by
 unfold kT;split
 ·exact .inl rfl
 ·exact .inr rfl
theorem jK {l:List Int}{k:Nat}(h:k<l.length)(v:Int)(i:Nat):nth (l.set k v) i=if i=k then v else nth l i:=by
 rw[p9];by_cases e:i=k
 ·rw[aE ⟨e,h⟩,aE e]
 ·rw[ay (fun x=>e x.1),ay e]
theorem m6 {K:List Int}{base:Int}{k:Nat}{e e':xw}(hk:k<K.length)(ih:Iz K base k e)
 (hL:e'.L=e.L\/∃v,e'.L=e.L.set k v/\0<=v/\v<=9) (hC:e'.C.length=e.C.length)
 (hm:mh (nth K k)=false->nth K k=22->∀i,(iT K k)[0]?=some i->nth e'.L k=nth e.L i) :
 (∀i,i<k->nth e'.L i=nth e.L i)/\(e'.L.length=K.length/\e'.C.length=K.length)/\(∀i j,i<K.length->mh (nth K i)=true->nO K i=some j->j<k+1->nth e'.L j=nth e'.L i)/\(∀i,0<=nth e'.L i/\nth e'.L i<=9):=by
 have hl:k<e.L.length:=by rw[ih.len.1];exact hk
 have h1:∀i,i<k->nth e'.L i=nth e.L i:=by
  intro i hi
  rcases hL with h | ⟨v,h,_⟩
  ·rw[h]
  ·rw[h,jK hl,ay (by omega)]
 refine⟨h1,⟨?_,hC.trans ih.len.2⟩,fun i j hi hn hmt hj=>?_,fun i=>?_⟩
 ·rcases hL with h | ⟨v,h,_⟩
  ·rw[h];exact ih.len.1
  ·rw[h,bK];exact ih.len.1
 ·rcases aH (aP hj)with h | h
  ·have hge:=oZ _ _ _ _ hmt
   rw[h1 j h,h1 i (by omega)];exact ih.pair i j hi hn hmt h
  ·subst h
   obtain⟨a,b,c,d⟩:=ON K i j hk hi hn hmt;rw[hm d c i b,h1 i a]
 ·rcases hL with h | ⟨v,h,h2,h3⟩
  ·rw[h];exact ih.small i
  ·rw[h,jK hl]
   by_cases e1:i=k
   ·rw[aE e1];exact⟨h2,h3⟩
   ·rw[ay e1];exact ih.small i
theorem rz (st:List nE)(x:nE):(st++[x]).reverse=x :: st.reverse:=by simp
theorem OO (st:List nE):st.dropLast.reverse=st.reverse.tail:=by
 have h:=List.dropLast_reverse (l:=st.reverse);rw[List.reverse_reverse]at h;rw[h,List.reverse_reverse]
theorem IA (e:xw)(i:Nat):(hold e i).L=e.L.set i (top e.st).lv:=rfl
theorem yW (e:xw)(i:Nat):(hold e i).C.length=e.C.length:=by
 unfold hold;dsimp only;split
 ·rfl
 ·exact bK
theorem IB {c:Int}(h:begins c=true):mh c=false/\c≠22:=by
 unfold begins at h;simp only[Bool.or_eq_true,eR]at h
 rcases h with((h | h) | h) | h <;> subst h <;> exact⟨rfl,by omega⟩
theorem FW {e:xw}(h:sI e.st.reverse):e.st.reverse.head?.map (·.lv)=some (top e.st).lv:=by
 rw[AZ];cases hr:e.st.reverse with
 | nil=>exact absurd hr h.ne
 | cons x r=>rfl
theorem pM (K:List Int)(base:Int)(hb:base=0\/base=1):∀k,k<=K.length->Iz K base k (jy K base k)
 | 0,_=>by
   refine⟨⟨by simp[jy],fun x hx=>?_,fun x hx=>?_⟩,rfl,rfl,fun d i h=>by simp[jy]at h,fun d i h=>by simp[iT]at h,by simp[jy],fun i j _ _ _ h=>by omega,fun i=>?_,by simp[jy]⟩
   ·simp[jy]at hx;subst hx;rfl
   ·simp[jy]at hx;subst hx;exact⟨by dsimp only;omega,by dsimp only;omega,.inl rfl⟩
   ·have:nth (jy K base 0).L i=0:=by
     show nth (List.replicate K.length 0) i=0;unfold nth;rw[List.getElem?_replicate];split <;> rfl
    rw[this];omega
 | k+1,hk=>by
   have ih:=pM K base hb k (by omega);have hkl:k<K.length:=by omega
   rw[jy];generalize jy K base k=e at *;have hl:k<e.L.length:=by rw[ih.len.1];exact hkl
   have htop:=yV ih.st;have hol:=LI K k (by omega);have hone:mh (nth K k)=false->nth K k≠22->iT K (k+1)=iT K k:=fun h1 h2=>by rw[iT,h1,ay aG,ay h2]
   have hin:mh (nth K k)=true->iT K (k+1)=k :: iT K k:=fun h1=>by rw[iT,h1];rfl
   have hpd:mh (nth K k)=false->nth K k=22->iT K (k+1)=(iT K k).tail:=fun h1 h2=>by rw[iT,h1,ay aG,aE h2]
   unfold jE;by_cases c1:begins (nth K k)=true
   ·rw[aE c1]
    obtain⟨n1,n2⟩:=IB c1;have ho:=hone n1 n2;by_cases cf:fits e (kT (top e.st).lv (j_ K k))=true
    ·rw[aE cf]
     have H_:e.mi=0:=by unfold fits at cf;simp at cf;omega
     have hnx:kT (top e.st).lv (j_ K k)<=9:=by unfold fits at cf;simp at cf;omega
     obtain⟨k1,k2,k3,k4⟩:=m6 (e':={ e with st:=e.st++[⟨kT (top e.st).lv (j_ K k),Du (nth K k),false⟩] }) hkl ih (.inl rfl) rfl (fun _ h=>absurd h n2);have hx:tK ⟨kT (top e.st).lv (j_ K k),Du (nth K k),false⟩:=⟨by rcases Ki (top e.st).lv (j_ K k)with h | h <;> (have:=htop.1;dsimp only;omega),hnx,by unfold Du;dsimp only;split;exact .inr (.inr rfl);split;exact .inr (.inl rfl);exact .inl rfl⟩;refine⟨by rw[rz];exact ih.st.push hx,by rw[rz];exact ih.op,by rw[ho];exact ih.cnt,fun d i h=>by dsimp only at h;omega,fun d i h=>?_,k2,k3,k4,?_⟩
     ·rw[ho]at h;rw[rz];exact ih.inn d i h
     ·have:=ih.sz;simp;omega
    ·rw[ay cf]
     by_cases cm:e.mi=0
     ·rw[aE cm]
      obtain⟨k1,k2,k3,k4⟩:=m6 (e':={ e with me:=e.me+1 }) hkl ih (.inl rfl) rfl (fun _ h=>absurd h n2);exact⟨ih.st,ih.op,by rw[ho];exact ih.cnt,fun d i h1 h2=>by rw[ho]at h2;exact ih.over d i h1 h2,fun d i h=>by rw[ho]at h;exact ih.inn d i h,k2,k3,k4,by have:=ih.sz;dsimp only;omega⟩
     ·rw[ay cm]
      obtain⟨k1,k2,k3,k4⟩:=m6 (e':=e) hkl ih (.inl rfl) rfl (fun _ h=>absurd h n2);exact⟨ih.st,ih.op,by rw[ho];exact ih.cnt,fun d i h1 h2=>by rw[ho]at h2;exact ih.over d i h1 h2,fun d i h=>by rw[ho]at h;exact ih.inn d i h,k2,k3,k4,by have:=ih.sz;omega⟩
   rw[ay c1];by_cases c2:mh (nth K k)=true
   ·rw[aE c2]
    have ho:=hin c2;have n2:=LD c2;have hLk:nth (e.L.set k (top e.st).lv) k=(top e.st).lv:=by rw[jK hl,aE rfl]
    by_cases cf:fits e (kT (top e.st).lv (j_ K k))=true
    ·rw[aE cf]
     have H_:e.mi=0:=by unfold fits at cf;simp at cf;omega
     have hnx:kT (top e.st).lv (j_ K k)<=9:=by unfold fits at cf;simp at cf;omega
     obtain⟨k1,k2,k3,k4⟩:=m6 (e':={ hold e k with op:=e.op+1,st:=e.st++[⟨kT (top e.st).lv (j_ K k),-1,true⟩] }) hkl ih (.inr ⟨_,rfl,htop.1,htop.2.1⟩) (yW e k) (fun h=>by rw[c2]at h;cases h);have hx:tK ⟨kT (top e.st).lv (j_ K k),-1,true⟩:=⟨by rcases Ki (top e.st).lv (j_ K k)with h | h <;> (have:=htop.1;dsimp only;omega),hnx,.inl rfl⟩;refine⟨by rw[rz];exact ih.st.push hx,by rw[rz];show e.op+1=oB _+1;rw[ih.op],?_,fun d i h=>?_,fun d i h=>?_,k2,k3,k4,?_⟩
     ·rw[ho];show(iT K k).length+1=e.mi+(e.op+1);have:=ih.cnt;omega
     ·exact absurd h (by show ¬d<e.mi;omega)
     ·rw[ho]at h
      replace h:(k :: iT K k)[e.mi+d]?=some i:=h
      rw[H_,dL]at h;rw[rz];cases d with
      | zero =>
        simp at h;subst h;show e.st.reverse.head?.map (·.lv)=some (nth (e.L.set k (top e.st).lv) k);rw[hLk];exact FW ih.st
      | succ d =>
        simp at h;show under e.st.reverse d=some (nth (e.L.set k (top e.st).lv) i);rw[jK hl,ay (by have:=hol d i h;omega)];exact ih.inn d i (by rw[H_,dL];exact h)
     ·have:=ih.sz;show(e.st++[_]).length<=_/\e.mi<=_/\e.me<=_;simp;omega
    ·rw[ay cf]
     obtain⟨k1,k2,k3,k4⟩:=m6 (e':={ hold e k with mi:=e.mi+1 }) hkl ih (.inr ⟨_,rfl,htop.1,htop.2.1⟩) (yW e k) (fun h=>by rw[c2]at h;cases h);refine⟨ih.st,ih.op,?_,fun d i h1 h2=>?_,fun d i h=>?_,k2,k3,k4,?_⟩
     ·rw[ho];show(iT K k).length+1=e.mi+1+e.op;have:=ih.cnt;omega
     ·rw[ho]at h2
      show nth (e.L.set k (top e.st).lv) i=(top e.st).lv;cases d with
      | zero=>simp at h2;subst h2;exact hLk
      | succ d =>
        simp at h2;rw[jK hl,ay (by have:=hol d i h2;omega)];exact ih.over d i (by replace h1:d+1<e.mi+1:=h1;omega) h2
     ·rw[ho]at h
      replace h:(k :: iT K k)[e.mi+1+d]?=some i:=h
      rw[show e.mi+1+d=(e.mi+d)+1 by omega]at h;simp at h;show under e.st.reverse d=some (nth (e.L.set k (top e.st).lv) i);rw[jK hl,ay (by have:=hol _ i h;omega)];exact ih.inn d i h
     ·have:=ih.sz;show e.st.length<=_/\e.mi+1<=_/\e.me<=_;omega
   rw[ay c2];have c2':mh (nth K k)=false:=by simpa using c2
   by_cases c3:nth K k=22
   ·rw[aE c3]
    have ho:=hpd c2' c3;by_cases cm:0<e.mi
    ·rw[aE cm]
     have hm0:∀i,(iT K k)[0]?=some i->nth e.L i=(top e.st).lv:=fun i h=>ih.over 0 i cm h
     obtain⟨k1,k2,k3,k4⟩:=m6 (e':=hold { e with mi:=e.mi - 1 } k) hkl ih (.inr ⟨_,rfl,htop.1,htop.2.1⟩) (yW _ k) (fun _ _ i h=>by rw[IA,jK hl,aE rfl];exact(hm0 i h).symm);refine⟨ih.st,ih.op,?_,fun d i h1 h2=>?_,fun d i h=>?_,k2,k3,k4,?_⟩
     ·rw[ho,List.length_tail];show _=e.mi - 1+e.op;have:=ih.cnt;omega
     ·rw[ho,eO]at h2
      replace h1:d<e.mi - 1:=h1
      show nth (e.L.set k (top e.st).lv) i=(top e.st).lv;rw[jK hl,ay (by have:=hol _ i h2;omega)];exact ih.over (d+1) i (by omega) h2
     ·rw[ho,eO]at h
      replace h:(iT K k)[e.mi - 1+d+1]?=some i:=h
      rw[show e.mi - 1+d+1=e.mi+d by omega]at h;show under e.st.reverse d=some (nth (e.L.set k (top e.st).lv) i);rw[jK hl,ay (by have:=hol _ i h;omega)];exact ih.inn d i h
     ·have:=ih.sz;show e.st.length<=_/\e.mi - 1<=_/\e.me<=_;omega
    ·rw[ay cm]
     have H_:e.mi=0:=by omega
     by_cases cop:0<e.op
     ·rw[aE cop]
      have IC:0<oB e.st.reverse:=by rw[<-ih.op];exact cop
      have hpr:(mW e.st.length e.st).reverse=ru e.st.reverse:=tJ _ _ (au _);have hst:sI (mW e.st.length e.st).reverse:=by rw[hpr];exact ih.st.ru IC
      have htp:=yV (e:={ e with me:=0,st:=mW e.st.length e.st,op:=e.op - 1 }) hst;have hm0:∀i,(iT K k)[0]?=some i->nth e.L i=(top (mW e.st.length e.st)).lv:=fun i h=>by
       have h1:=ih.inn 0 i (by rw[H_];exact h);rw[<-DX,<-hpr]at h1;have h2:=FW (e:={ e with me:=0,st:=mW e.st.length e.st,op:=e.op - 1 }) hst;exact(aZ (h2.symm.trans h1)).symm
      have hpl:(mW e.st.length e.st).length<=e.st.length:=by
       have:∀r:List nE,(ru r).length<=r.length:=by
        intro r
        induction r with
        | nil=>exact au _
        | cons x r ih2 =>
          rw[ru];split
          ·simp
          ·simp;omega
       have h1:=this e.st.reverse;rw[<-hpr,eH,eH]at h1;exact h1
      obtain⟨k1,k2,k3,k4⟩:=m6 (e':=hold { e with me:=0,st:=mW e.st.length e.st,op:=e.op - 1 } k) hkl ih (.inr ⟨_,rfl,htp.1,htp.2.1⟩) (yW _ k) (fun _ _ i h=>by rw[IA,jK hl,aE rfl];exact(hm0 i h).symm);refine⟨hst,?_,?_,fun d i h1 h2=>?_,fun d i h=>?_,k2,k3,k4,?_⟩
      ·show e.op - 1=oB (mW e.st.length e.st).reverse
       rw[hpr];have:=FV _ IC;have:=ih.op;omega
      ·rw[ho,List.length_tail];show _=e.mi+(e.op - 1);have:=ih.cnt;omega
      ·exact absurd h1 (by show ¬d<e.mi;omega)
      ·rw[ho,eO]at h
       replace h:(iT K k)[e.mi+d+1]?=some i:=h
       show under (mW e.st.length e.st).reverse d=some (nth (e.L.set k (top (mW e.st.length e.st)).lv) i);rw[hpr,BR,jK hl,ay (by have:=hol _ i h;omega)];exact ih.inn (d+1) i (by rw[<-dQ];exact h)
      ·have:=ih.sz;show(mW e.st.length e.st).length<=_/\e.mi<=_/\0<=_;omega
     ·rw[ay cop]
      have hnil:iT K k=[]:=eM (by have:=ih.cnt;omega);obtain⟨k1,k2,k3,k4⟩:=m6 (e':=hold e k) hkl ih (.inr ⟨_,rfl,htop.1,htop.2.1⟩) (yW _ k) (fun _ _ i h=>by rw[hnil]at h;cases h);refine⟨ih.st,ih.op,by rw[ho,hnil];show 0=e.mi+e.op;omega,fun d i h1 h2=>(by rw[ho,hnil]at h2;cases h2),fun d i h=>(by rw[ho,hnil]at h;cases h),k2,k3,k4,by have:=ih.sz;show e.st.length<=_/\e.mi<=_/\e.me<=_;omega⟩
   rw[ay c3];have ho:=hone c2' c3;have plain:∀e':xw,e'.st=e.st->e'.mi=e.mi->e'.op=e.op->e'.me<=e.me->(e'.L=e.L\/∃v,e'.L=e.L.set k v/\0<=v/\v<=9)->e'.C.length=e.C.length->Iz K base (k+1) e':=by
    intro e' s1 s2 s3 s4 hL hC;obtain⟨k1,k2,k3,k4⟩:=m6 (e':=e') hkl ih hL hC (fun _ h=>absurd h c3);refine⟨by rw[s1];exact ih.st,by rw[s1,s3];exact ih.op,by rw[ho,s2,s3];exact ih.cnt,fun d i h1 h2=>?_,fun d i h=>?_,k2,k3,k4,by rw[s1,s2];have:=ih.sz;omega⟩
    ·rw[ho]at h2;rw[s1,k1 i (hol d i h2)];exact ih.over d i (by rw[<-s2];exact h1) h2
    ·rw[ho,s2]at h;rw[s1,k1 i (hol _ i h)];exact ih.inn d i h
   by_cases c4:nth K k=18
   ·rw[aE c4]
    by_cases cm:0<e.mi
    ·rw[aE cm];exact plain e rfl rfl rfl (au _) (.inl rfl) rfl
    ·rw[ay cm]
     by_cases ce:0<e.me
     ·rw[aE ce];exact plain _ rfl rfl rfl (by dsimp only;omega) (.inl rfl) rfl
     ·rw[ay ce]
      by_cases ci:(!(top e.st).qw && decide (1<e.st.length))=true
      ·rw[aE ci]
       rw[dK,decide_eq_true_eq]at ci;obtain⟨k1,k2,k3,k4⟩:=m6 (e':={ e with st:=e.st.dropLast }) hkl ih (.inl rfl) rfl (fun _ h=>absurd h c3);have H_:e.mi=0:=by omega
       cases hr:e.st.reverse with
       | nil=>exact absurd hr ih.st.ne
       | cons x r =>
         have hx:x.qw=false:=by have h:=ci.1;rw[AZ,hr]at h;simpa using h
         have hrn:r≠[]:=by
          intro h2;subst h2;have:=congrArg List.length hr;simp at this;omega
         have hs:=ih.st;rw[hr]at hs;have hd:e.st.dropLast.reverse=r:=by rw[OO,hr];rfl
         refine⟨by rw[show({ e with st:=e.st.dropLast }:xw).st=e.st.dropLast from rfl,hd];exact hs.pop hrn,?_,by rw[ho];exact ih.cnt,fun d i h1=>absurd h1 (by show ¬d<e.mi;omega),fun d i h=>?_,k2,k3,k4,?_⟩
         ·show e.op=oB e.st.dropLast.reverse
          rw[hd,ih.op,hr,oB,hx];rfl
         ·rw[ho]at h
          show under e.st.dropLast.reverse d=some (nth e.L i);have:=ih.inn d i h;rw[hr,OM x r d hx]at this;rw[hd];exact this
         ·have:=ih.sz;show e.st.dropLast.length<=_/\_;rw[List.length_dropLast];show _/\e.mi<=_/\e.me<=_;omega
      ·rw[ay ci];exact plain e rfl rfl rfl (au _) (.inl rfl) rfl
   rw[ay c4];by_cases c5:nth K k=10
   ·rw[aE c5];exact plain _ rfl rfl rfl (au _) (.inr ⟨base,rfl,by omega,by omega⟩) rfl
   rw[ay c5];by_cases c6:nth K k=9
   ·rw[aE c6];exact plain e rfl rfl rfl (au _) (.inl rfl) rfl
   rw[ay c6];exact plain _ rfl rfl rfl (au _) (.inr ⟨_,rfl,htop.1,htop.2.1⟩) (yW e k)
theorem sJ {K:List Int}{base:Int}(hb:base=0\/base=1){a b:List Nat}(ha:jw a<K.length)(hf:follows K a b=true):nth (jy K base K.length).L (iV b)=nth (jy K base K.length).L (jw a):=by
 unfold follows at hf;rw[dK,eR]at hf;have h:=pM K base hb K.length (au _);have hlt:iV b<K.length:=by
  have hp:=pU K (jw a) ha;rw[hf.1,aE rfl,hf.2]at hp;exact(q_ K _ _ _ hp).1
 exact h.pair _ _ ha hf.1 hf.2 hlt
end Go.Proofs.YtnakejhohdbfdacGreatDoor.j9
namespace Go.Proofs.YtnakejhohdbfdacGreatDoor.j9
theorem FX (K:List Int)(rs:List (List Nat)):∀k p a,(jL K rs k).aw p=some a->a<(jL K rs k).all.length
 | 0,p,a,h=>by cases h
 | k+1,p,a,h=>by
   have ih:=FX K rs k;rw[jL,qg]at h ⊢;cases hx:(jL K rs k).aw (iV (run rs k))with
   | some b =>
     rw[hx]at h;dsimp only[yU]at h ⊢;rw[bK];by_cases hl:leads K (run rs k)=some p
     ·rw[aE hl]at h;cases h;exact ih _ _ hx
     ·rw[ay hl]at h;exact ih _ _ h
   | none =>
     rw[hx]at h;dsimp only[yU]at h ⊢;rw[aD];by_cases hl:leads K (run rs k)=some p
     ·rw[aE hl]at h;cases h;simp
     ·rw[ay hl]at h;have:=ih _ _ h;simp;omega
def ow (K:List Int)(rs:List (List Nat))(k:Nat):Nat:=match (jL K rs k).aw (iV (run rs k))with | some a=>a | none=>(jL K rs k).all.length
theorem xG (K:List Int)(rs:List (List Nat)):∀k s x,(∃y,(jL K rs k).all[s]?=some y/\x∈y) ↔ ∃t,t<k/\ow K rs t=s/\x∈run rs t
 | 0,s,x=>by
   constructor
   ·rintro ⟨y,h,_⟩;simp[jL]at h
   ·rintro ⟨t,h,_⟩;omega
 | k+1,s,x=>by
   have ih:=xG K rs k s x;have split:(∃t,t<k+1/\ow K rs t=s/\x∈run rs t) ↔ (∃t,t<k/\ow K rs t=s/\x∈run rs t)\/(ow K rs k=s/\x∈run rs k):=by
    constructor
    ·rintro ⟨t,h1,h2⟩
     rcases aH (aP h1)with h | h
     ·exact .inl ⟨t,h,h2⟩
     ·subst h;exact .inr h2
    ·rintro (⟨t,h1,h2⟩ | h)
     ·exact⟨t,by omega,h2⟩
     ·exact⟨k,bP _,h⟩
   rw[split,<-ih];rw[jL,qg];unfold ow;cases hx:(jL K rs k).aw (iV (run rs k))with
   | some a =>
     have hal:=FX K rs k _ _ hx;dsimp only;by_cases hs:a=s
     ·subst hs
      rw[bn hal,aA hal];constructor
      ·rintro ⟨y,h1,h2⟩
       cases h1
       rcases a_.1 h2 with h | h
       ·exact .inl ⟨_,rfl,h⟩
       ·exact .inr ⟨rfl,h⟩
      ·rintro (⟨y,h1,h2⟩ | ⟨_,h⟩)
       ·cases h1;exact⟨_,rfl,dO _ h2⟩
       ·exact⟨_,rfl,eT _ h⟩
     ·rw[bJ hs]
      constructor
      ·intro h;exact .inl h
      ·rintro (h | ⟨h,_⟩)
       ·exact h
       ·exact absurd h hs
   | none =>
     dsimp only
     rcases b8 s (jL K rs k).all.length with h1 | h1 | h1
     ·rw[aJ h1]
      constructor
      ·intro h;exact .inl h
      ·rintro (h | ⟨h,_⟩)
       ·exact h
       ·omega
     ·subst h1
      rw[aI (au _),dm,bN (au _)];constructor
      ·rintro ⟨y,h2,h3⟩
       simp at h2;subst h2;exact .inr ⟨rfl,h3⟩
      ·rintro (⟨y,h2,_⟩ | ⟨_,h⟩)
       ·cases h2
       ·exact⟨_,rfl,h⟩
     ·rw[bN (by simp;omega),bN (by omega)]
      constructor
      ·rintro ⟨y,h2,_⟩;cases h2
      ·rintro (⟨y,h2,_⟩ | ⟨h,_⟩)
       ·cases h2
       ·omega
theorem ID {K:List Int}{rs:List (List Nat)}(h:kr K rs){s s' x:Nat}{I I':List Nat}(hI:(pI K rs)[s]?=some I)(hI':(pI K rs)[s']?=some I')(hx:x∈I)(hx':x∈I'):s=s':=by
 rw[<-xF h]at hI hI';obtain⟨t,h1,h2,h3⟩:=(xG K rs rs.length s x).1 ⟨I,hI,hx⟩;obtain⟨t',h1',h2',h3'⟩:=(xG K rs rs.length s' x).1 ⟨I',hI',hx'⟩;have:t=t':=by
  rcases b8 t t' with e | e | e
  ·have:=h.before e h1' h3 h3';omega
  ·exact e
  ·have:=h.before e h1 h3' h3;omega
 subst this;omega
theorem OQ {K:List Int}{rs:List (List Nat)}(h:kr K rs)(hf:rs.flatten=ng K K.length){x:Nat}(hx:x<K.length)(hg:gone (nth K x)=false):∃(s:Nat) (I:List Nat),(pI K rs)[s]?=some I/\x∈I:=by
 have hm:=OD K K.length x hx hg;rw[<-hf]at hm;obtain⟨r,hr,hxr⟩:=List.mem_flatten.1 hm;obtain⟨t,ht,he⟩:=bU hr;obtain⟨y,h1,h2⟩:=(xG K rs rs.length (ow K rs t) x).2 ⟨t,ht,rfl,by rw[run_get ht,he];exact hxr⟩;exact⟨_,y,by rw[<-xF h];exact h1,h2⟩
theorem wL {K:List Int}{rs:List (List Nat)}:∀m,m<=rs.length->∀I∈om K rs m,∃i,i<rs.length/\I=ch K rs i
 | 0,_,I,h=>by cases h
 | m+1,hm,I,h=>by
   rw[om]at h;split at h
   ·rcases a_.1 h with h1 | h1
    ·exact wL m (by omega) I h1
    ·rw[ak.1 h1];exact⟨m,by omega,rfl⟩
   ·exact wL m (by omega) I h
theorem zU {K L:List Int}{rs:List (List Nat)}(hr:qM K L K.length rs)(ho:kr K rs)
 (hf:∀a b:List Nat,jw a<K.length->follows K a b=true->nth L (iV b)=nth L (jw a)):∀f i,i<rs.length->∀x∈chain K rs f i,nth L x=nth L (iV (run rs i))
 | 0,_,_,x,h=>by cases h
 | f+1,i,hi,x,h=>by
   rw[chain]at h
   rcases a_.1 h with h1 | h1
   ·exact hr.LF _ (mS hi) x h1
   ·cases hn:lX K rs (run rs i) rs.length with
    | none=>rw[hn]at h1;cases h1
    | some j =>
      rw[hn]at h1;obtain⟨a,b⟩:=kg _ _ hn;have hl:=kZ (ho.ne i hi);rw[zU hr ho hf f j a x h1,hf _ _ (ho.mem hi hl).1 b];exact hr.LF _ (mS hi) _ hl
theorem pN {I:List Nat}{x:Nat}(hx:x ∉ I)(C:List Int){k:Nat}(hk:k<I.length)(v:Int):nth (put I C k v) x=nth C x:=by
 unfold put;rw[p9,ay];intro h;apply hx;rw[h.1,jq hk];exact bB hk
theorem yX {K:List Int}{s:Sq}{x:Nat}(hx:x ∉ s.I)(C:List Int):∀k,k<=s.I.length->nth (jD K s k C) x=nth C x
 | 0,_=>rfl
 | k+1,hk=>by
   rw[jD,lQ];split
   ·rw[pN hx _ (by omega)];exact yX hx C k (by omega)
   ·exact yX hx C k (by omega)
theorem BS {I:List Nat}{x:Nat}(hx:x ∉ I)(al:Bool)(letter v:Int)(q:Int × List Int):∀k,k<=I.length->nth (jV I al letter v k q).2 x=nth q.2 x
 | 0,_=>rfl
 | k+1,hk=>by
   have ih:=BS hx al letter v q k (by omega);rw[jV,mF];split
   ·exact ih
   ·split
    ·rw[pN hx _ (by omega)];exact ih
    ·exact ih
theorem IE {I:List Nat}{x:Nat}(hx:x ∉ I)(C:List Int):∀k,k<=I.length->nth (pJ I k C) x=nth C x
 | 0,_=>rfl
 | k+1,hk=>by
   rw[pJ,sD];split
   ·rw[pN hx _ (by omega)];exact IE hx C k (by omega)
   ·exact IE hx C k (by omega)
theorem EJ {s:Sq}{x:Nat}(hx:x ∉ s.I)(C:List Int):∀k,k<=s.I.length->nth (ou s k C) x=nth C x
 | 0,_=>rfl
 | k+1,hk=>by
   rw[ou,mQ];split
   ·rw[pN hx _ (by omega)];exact EJ hx C k (by omega)
   ·exact EJ hx C k (by omega)
theorem yY {I:List Nat}{x:Nat}(hx:x ∉ I)(C:List Int):∀k,k<=I.length->nth (kA I k C) x=nth C x
 | 0,_=>rfl
 | k+1,hk=>by
   rw[kA,mR];split
   ·rw[pN hx _ (by omega)];exact yY hx C k (by omega)
   ·exact yY hx C k (by omega)
theorem BU {I:List Nat}{x:Nat}(hx:x ∉ I)(a:Nat)(v:Int)(C:List Int):∀d,a+d<=I.length->nth (kP I a v d C) x=nth C x
 | 0,_=>rfl
 | d+1,h=>by rw[kP,pN hx _ (by omega)];exact BU hx a v C d (by omega)
theorem BV {I:List Nat}{fit:Int->Bool}{act:Nat->Nat->List Int->List Int}{x:Nat}(ha:∀a b C,a<b->b<=I.length->nth (act a b C) x=nth C x)(C:List Int):∀k,k<=I.length->nth (kU I fit act k (0,C)).2 x=nth C x
 | 0,_=>rfl
 | k+1,hk=>by
   have ih:=BV (fit:=fit) ha C k (by omega);rw[kU,oz];split
   ·exact ih
   ·dsimp only
    split
    ·rename_i h;rw[ha _ _ _ h (by omega)];exact ih
    ·exact ih
theorem FY {I:List Nat}{fit:Int->Bool}{act:Nat->Nat->List Int->List Int}{x:Nat}(ha:∀a b C,a<b->b<=I.length->nth (act a b C) x=nth C x)(C:List Int):nth (scan I fit act C) x=nth C x:=by
 have h:=BV (fit:=fit) ha C I.length (au _);unfold scan uK;split
 ·rename_i h2;rw[ha _ _ _ h2 (au _)];exact h
 ·exact h
theorem OR {K:List Int}{s:Sq}{x:Nat}(hx:x ∉ s.I)(C:List Int):nth (weak K s C) x=nth C x:=by
 unfold weak;rw[BS hx _ _ _ _ _ (au _)];dsimp only;rw[yY hx _ _ (au _),FY,EJ hx _ _ (au _),IE hx _ _ (au _),BS hx _ _ _ _ _ (au _)]
 ·exact yX hx C _ (au _)
 ·intro a b C h1 h2
  unfold qz;split
  ·exact BU hx a 3 C (b - a) (by omega)
  ·rfl
theorem Kj {K:List Int}{I:List Nat}{x:Nat}(hx:x ∉ I)(v:Int):∀f j (C:List Int),nth (oK K I v f j C) x=nth C x
 | 0,_,_=>rfl
 | f+1,j,C=>by
   rw[oK];split
   ·rename_i h;rw[Kj hx v f (j+1),pN hx _ h.1]
   ·rfl
theorem sK {K:List Int}{I:List Nat}{x:Nat}(hx:x ∉ I){k:Nat}(hk:k<I.length)(v:Int)(C:List Int):nth (become K I k v C) x=nth C x:=by
 rw[become,Kj hx,pN hx _ hk]
theorem OS {K:List Int}{s:Sq}{x:Nat}(hx:x ∉ s.I)(ps:List (Nat × Nat))(hps:∀i,i<ps.length->((ps[i]?).getD (0,0)).1<((ps[i]?).getD (0,0)).2/\((ps[i]?).getD (0,0)).2<s.I.length)(C:List Int):∀i,i<=ps.length->nth (nX K s ps i C) x=nth C x
 | 0,_=>rfl
 | i+1,hi=>by
   have ih:=OS (K:=K) hx ps hps C i (by omega);obtain⟨h1,h2⟩:=hps i (by omega);rw[nX,wH];split
   ·rw[sK hx h2,sK hx (by omega)];exact ih
   ·split
    ·rw[sK hx h2,sK hx (by omega)];exact ih
    ·exact ih
theorem LJ {R K:List Int}{s:Sq}{x:Nat}(hx:x ∉ s.I)(C:List Int):nth (rules R K s C) x=nth C x:=by
 unfold rules neutral brackets;rw[FY,OS hx _ (fun i hi=>FQ R s.I _ i hi) _ _ (au _)]
 ·exact OR hx C
 ·intro a b C h1 h2
  unfold m5;exact BU hx a _ C (b - a) (by omega)
end Go.Proofs.YtnakejhohdbfdacGreatDoor.j9
namespace Go.Proofs.YtnakejhohdbfdacGreatDoor.j9
def j5 (K:List Int)(base:Int):Nat->List Int->Int × List Int
 | 0,L=>(base,L)
 | i+1,L=>if gone (nth K i)then((j5 K base i L).1,(j5 K base i L).2.set i (j5 K base i L).1)else(nth (j5 K base i L).2 i,(j5 K base i L).2)
theorem BW {K C L L':List Int}{base:Int}(hn:L.length=K.length)(hn':L'.length=K.length)
 (h:∀i,i<K.length->gone (nth K i)=false->nth L' i=nth L i+up (nth L i) (nth C i)):∀k,k<=K.length ->
 (jZ K C base k L).1=(j5 K base k L').1/\(jZ K C base k L).2.length=K.length/\(j5 K base k L').2.length=K.length /\
 (∀i,i<k->nth (jZ K C base k L).2 i=nth (j5 K base k L').2 i)/\(∀i,k<=i->nth (jZ K C base k L).2 i=nth L i/\nth (j5 K base k L').2 i=nth L' i)
 | 0,_=>⟨rfl,hn,hn',fun i hi=>by omega,fun i _=>⟨rfl,rfl⟩⟩
 | k+1,hk=>by
   obtain⟨a,b,c,d,e⟩:=BW hn hn' h k (by omega);rw[jZ,j5];generalize jZ K C base k L=q at *;generalize j5 K base k L'=p at *;have lq:k<q.2.length:=by omega
   have lp:k<p.2.length:=by omega
   cases hg:gone (nth K k)
   ·rw[ay aG]
    have e1:=(e k (au _)).1;have e2:=(e k (au _)).2;have h3:=h k (by omega) hg;refine⟨?_,by dsimp only;rw[bK];exact b,c,fun i hi=>?_,fun i hi=>?_⟩
    ·dsimp only;rw[ay aG];dsimp only;rw[e2,h3,e1]
    ·dsimp only
     rw[ay aG,jK lq];by_cases hik:i=k
     ·subst hik;rw[aE rfl,e2,h3,e1]
     ·rw[ay hik];exact d i (by omega)
    ·dsimp only
     rw[ay aG,jK lq,ay (by omega)];exact e i (by omega)
   ·rw[aE rfl]
    refine⟨by simpa using a,by simpa using b,by simpa using c,fun i hi=>?_,fun i hi=>?_⟩
    ·dsimp only
     rw[aE rfl];dsimp only;rw[jK lq,jK lp];by_cases hik:i=k
     ·rw[aE hik,aE hik];exact a
     ·rw[ay hik,ay hik];exact d i (by omega)
    ·dsimp only
     rw[aE rfl];dsimp only;rw[jK lq,jK lp,ay (by omega),ay (by omega)];exact e i (by omega)
theorem xH {l l':List Int}(hl:l.length=l'.length)(h:∀i,i<l.length->nth l i=nth l' i):l=l':=by
 refine List.ext_getElem hl (fun i h1 h2=>?_);have:=h i h1;unfold nth at this;rw[aA h1,aA h2]at this;exact this
theorem Dw {K C L L':List Int}{base:Int}(hn:L.length=K.length)(hn':L'.length=K.length)
 (h:∀i,i<K.length->gone (nth K i)=false->nth L' i=nth L i+up (nth L i) (nth C i)):(jZ K C base K.length L).2=(j5 K base K.length L').2:=by
 obtain⟨_,b,c,d,_⟩:=BW (C:=C) (base:=base) hn hn' h K.length (au _);exact xH (b.trans c.symm) (fun i hi=>d i (by rw[<-b];exact hi))
def lift (lv c:Int):Int:=if lv % 2=0/\(c=3\/c=6)then 2 else if c≠way lv then 1 else 0
def l6 (I:List Nat)(lv:Int)(C:List Int):Nat->List Int->List Int
 | 0,L=>L
 | k+1,L=>put I (l6 I lv C k L) k (cl I (l6 I lv C k L) k+lift lv (cl I C k))
theorem BX (I:List Nat)(lv:Int)(C L:List Int):∀k,(l6 I lv C k L).length=L.length
 | 0=>rfl
 | k+1=>by rw[l6,lZ];exact BX I lv C L k
theorem BZ {I:List Nat}{x:Nat}(hx:x ∉ I)(lv:Int)(C L:List Int):∀k,k<=I.length->nth (l6 I lv C k L) x=nth L x
 | 0,_=>rfl
 | k+1,hk=>by rw[l6,pN hx _ (by omega)];exact BZ hx lv C L k (by omega)
theorem EK {I:List Nat}(hI:inj I){L:List Int}(hw:within I L)(lv:Int)(C:List Int):∀k,k<=I.length->(∀j,j<k->cl I (l6 I lv C k L) j=cl I L j+lift lv (cl I C j))/\(∀j,k<=j->j<I.length->cl I (l6 I lv C k L) j=cl I L j)
 | 0,_=>⟨fun j hj=>by omega,fun j _ _=>rfl⟩
 | k+1,hk=>by
   obtain⟨a,b⟩:=EK hI hw lv C k (by omega);rw[l6];refine⟨fun j hj=>?_,fun j h1 h2=>?_⟩
   ·rcases aH (aP hj)with h | h
    ·rw[pK hI _ _ (by omega) (by omega) (by omega)];exact a j h
    ·subst h
     rw[o7 _ (by rw[BX];exact hw j (by omega)),b j (au _) (by omega)]
   ·rw[pK hI _ _ (by omega) h2 (by omega)];exact b j (by omega) h2
def lN (R K L0:List Int)(base:Int)(ss:List (List Nat))(C0:List Int):Nat->List Int
 | 0=>L0
 | i+1=>l6 (run ss i) (nth L0 (iV (run ss i))) (jM R K L0 base ss (i+1) C0) (run ss i).length (lN R K L0 base ss C0 i)
structure aaf (K L0:List Int)(ss:List (List Nat)):Prop where
 so:∀i,i<ss.length->(run ss i).Pairwise (· < ·)
 lt:∀i x,i<ss.length->x∈run ss i->x<K.length
 LF:∀i x,i<ss.length->x∈run ss i->nth L0 x=nth L0 (iV (run ss i))
 ap:∀i j x,i<ss.length->j<ss.length->x∈run ss i->x∈run ss j->i=j
theorem tL {R K L0:List Int}{base:Int}{ss:List (List Nat)}{C0:List Int}:∀i,(lN R K L0 base ss C0 i).length=L0.length
 | 0=>rfl
 | i+1=>by rw[lN,BX];exact tL i
theorem o8 {R K L0:List Int}{base:Int}{ss:List (List Nat)}{C0:List Int}{x:Nat}:∀i j,i<=j->(∀t,i<=t->t<j->x ∉ run ss t)->nth (jM R K L0 base ss j C0) x=nth (jM R K L0 base ss i C0) x
 | i,0,h,_=>by rw[show i=0 by omega]
 | i,j+1,h,hx=>by
   rcases aH h with h1 | h1
   ·rw[jM,LJ (s:=oq K L0 base (run ss j)) (show x ∉ run ss j from hx j (by omega) (bP _))]
    exact o8 i j (by omega) (fun t a b=>hx t a (by omega))
   ·rw[h1]
theorem wM {R K L0:List Int}{base:Int}{ss:List (List Nat)}{C0:List Int}(ho:aaf K L0 ss)(hl:L0.length=K.length):∀i,i<=ss.length ->
 (∀t x,t<i->x∈run ss t->nth (lN R K L0 base ss C0 i) x=nth L0 x+lift (nth L0 x) (nth (jM R K L0 base ss ss.length C0) x)) /\
 (∀x,(∀t,t<i->x ∉ run ss t)->nth (lN R K L0 base ss C0 i) x=nth L0 x)
 | 0,_=>⟨fun t x h=>by omega,fun x _=>rfl⟩
 | i+1,hi=>by
   obtain⟨a,b⟩:=wM (R:=R) (base:=base) (C0:=C0) ho hl i (by omega);have hsz:=tL (R:=R) (K:=K) (L0:=L0) (base:=base) (ss:=ss) (C0:=C0) i;have hw:within (run ss i) (lN R K L0 base ss C0 i):=fun k hk=>by
    rw[hsz,hl,jq hk];exact ho.lt i _ (by omega) (bB hk)
   rw[lN];refine⟨fun t x ht hx=>?_,fun x hx=>?_⟩
   ·by_cases hti:t=i
    ·subst hti
     obtain⟨k,hk,he⟩:=bU hx;have g:=(EK (wJ (ho.so t (by omega))) hw (nth L0 (iV (run ss t))) (jM R K L0 base ss (t+1) C0) _ (au _)).1 k hk;unfold cl at g;rw[jq hk,he]at g;rw[g,b x (fun t' h1 h2=>by have:=ho.ap t' t x (by omega) (by omega) h2 hx;omega),ho.LF t x (by omega) hx];rw[o8 (t+1) ss.length hi (fun t' h1 h2 h3=>by have:=ho.ap t' t x h2 (by omega) h3 hx;omega)]
    ·rw[BZ (fun h2=>hti (ho.ap t i x (by omega) (by omega) hx h2)) _ _ _ _ (au _)]
     exact a t x (by omega) hx
   ·rw[BZ (hx i (bP _)) _ _ _ _ (au _)]
    exact b x (fun t h=>hx t (by omega))
end Go.Proofs.YtnakejhohdbfdacGreatDoor.j9
namespace Go.Proofs.YtnakejhohdbfdacGreatDoor.j9
def Zt (K C:List Int):Prop:=∀i,nth C i=nth K i\/nth C i=0\/nth C i=1
theorem Ta {K C:List Int}(h:Zt K C)(k:Nat){v:Int}(hv:v=0\/v=1):Zt K (C.set k v):=by
 intro i;rw[p9];split
 ·exact .inr hv
 ·exact h i
theorem rA {K:List Int}{e:xw}(h:Zt K e.C)(ht:tK (top e.st))(k:Nat):Zt K (hold e k).C:=by
 unfold hold;dsimp only;split
 ·exact h
 ·rename_i hn
  refine Ta h k ?_
  rcases ht.2.2 with x | x | x
  ·exact absurd x hn
  ·exact .inl x
  ·exact .inr x
theorem OT (K:List Int)(base:Int)(hb:base=0\/base=1):∀k,k<=K.length->Zt K (jy K base k).C
 | 0,_=>fun _=>.inl rfl
 | k+1,hk=>by
   have ih:=OT K base hb k (by omega);have iv:=pM K base hb k (by omega);have ht:=yV iv.st;rw[jy];generalize jy K base k=e at *;unfold jE;split
   ·split
    ·exact ih
    ·split
     ·exact ih
     ·exact ih
   ·split
    ·split
     ·exact rA ih ht k
     ·exact rA ih ht k
    ·split
     ·split
      ·exact rA (e:={ e with mi:=e.mi - 1 }) ih ht k
      ·split
       ·rename_i h1 h2
        have IC:0<oB e.st.reverse:=by rw[<-iv.op];exact h2
        refine rA (e:={ e with me:=0,st:=mW e.st.length e.st,op:=e.op - 1 }) ih ?_ k;refine yV (e:={ e with me:=0,st:=mW e.st.length e.st,op:=e.op - 1 }) ?_;show sI (mW e.st.length e.st).reverse;rw[tJ _ _ (au _)];exact iv.st.ru IC
       ·exact rA ih ht k
     ·split
      ·split
       ·exact ih
       ·split
        ·exact ih
        ·split
         ·exact ih
         ·exact ih
      ·split
       ·exact ih
       ·split
        ·exact ih
        ·exact rA ih ht k
theorem VR {K C:List Int}(h:Zt K C)(hK:∀i,0<=nth K i/\nth K i<=22){x:Nat}(hg:gone (nth K x)=false):S0 (nth C x):=by
 unfold S0
 rcases h x with e | e | e
 ·rw[e]
  have:=hK x;unfold gone at hg;simp at hg;omega
 ·rw[e];omega
 ·rw[e];omega
theorem LK {K:List Int}{rs:List (List Nat)}(h:kr K rs){i:Nat}(hi:i<rs.length):iV (ch K rs i)=iV (run rs i):=by
 rw[ch_eq h hi,mD (h.ne i hi)]
theorem VU (K:List Int)(base:Int)(hb:base=0\/base=1):aaf K (jy K base K.length).L (pI K (jC K (jy K base K.length).L K.length))/\(∀i x,i<(pI K (jC K (jy K base K.length).L K.length)).length->x∈run (pI K (jC K (jy K base K.length).L K.length)) i->gone (nth K x)=false):=by
 generalize hL:(jy K base K.length).L=L;have hr:=pL K L K.length;have ho:=sH K L;have hf:∀a b:List Nat,jw a<K.length->follows K a b=true->nth L (iV b)=nth L (jw a):=fun a b h1 h2=>by rw[<-hL];exact sJ hb h1 h2
 generalize jC K L K.length=rs at *;have hch:∀i,i<(pI K rs).length->∃j,j<rs.length/\run (pI K rs) i=ch K rs j:=fun i hi=>wL rs.length (au _) _ (mS hi)
 have hmem:∀i x,i<(pI K rs).length->x∈run (pI K rs) i->x<K.length/\gone (nth K x)=false:=fun i x hi hx=>by
  obtain⟨j,h1,h2⟩:=hch i hi;rw[h2]at hx;obtain⟨j',_,h4,h5⟩:=yT ho _ j h1 x hx;exact ho.mem h4 h5
 refine⟨⟨fun i hi=>?_,fun i x hi hx=>(hmem i x hi hx).1,fun i x hi hx=>?_,fun i j x hi hj h1 h2=>?_⟩,fun i x hi hx=>(hmem i x hi hx).2⟩
 ·obtain⟨j,h1,h2⟩:=hch i hi
  rw[h2];exact xE ho _ j h1
 ·obtain⟨j,h1,h2⟩:=hch i hi
  rw[h2]at hx ⊢;rw[LK ho h1];exact zU hr ho hf _ j h1 x hx
 ·exact ID ho (s:=i) (s':=j) (aA hi) (aA hj) (by rw[<-run_get hi];exact h1) (by rw[<-run_get hj];exact h2)
theorem B4 (l:Int):way l=0\/way l=1:=by unfold way;split;exact .inr rfl;exact .inl rfl
theorem tM {R K L0:List Int}{base:Int}{ss:List (List Nat)}{C0:List Int}(h:∀i C,(rules R K (oq K L0 base (run ss i)) C).length=C.length):∀i,(jM R K L0 base ss i C0).length=C0.length
 | 0=>rfl
 | i+1=>by rw[jM,h i];exact tM h i
theorem DY (R K:List Int)(s:Sq)(C:List Int):(rules R K s C).length=C.length:=by
 unfold rules;rw[OA,brackets,EH];unfold weak;rw[qY,qZ,Iw,xB,yR,qY];exact pV K s C _
theorem IF (R K:List Int)(base:Int)(hb:base=0\/base=1)(hK:∀i,0<=nth K i/\nth K i<=22) :
 levels R K base=(j5 K base K.length (lN R K (jy K base K.length).L base (pI K (jC K (jy K base K.length).L K.length)) (jy K base K.length).C (pI K (jC K (jy K base K.length).L K.length)).length)).2:=by
 have hi:=pM K base hb K.length (au _);have hc:=OT K base hb K.length (au _);obtain⟨ho,B5⟩:=VU K base hb;have hrun:=pL K (jy K base K.length).L K.length;have Tb:=sH K (jy K base K.length).L;unfold levels;dsimp only;generalize jy K base K.length=e at *;generalize jC K e.L K.length=rs at *;generalize hss:pI K rs=ss at *;refine Dw hi.len.1 (by rw[tL];exact hi.len.1) (fun x hx hg=>?_);obtain⟨s,I,hI,hxI⟩:=OQ Tb hrun.flat hx hg;rw[hss]at hI;have hs:s<ss.length:=(aY.1 hI).1;have hrs:run ss s=I:=by unfold run;rw[hI];rfl
 have hxr:x∈run ss s:=by rw[hrs];exact hxI
 rw[(wM (R:=R) (base:=base) (C0:=e.C) ho hi.len.1 ss.length (au _)).1 s x hs hxr]
 -- the class at x in the end is one of four
 have hout:∀y,y∈run ss s->nth (jM R K e.L base ss s e.C) y=nth e.C y:=fun y hy=>by
  rw[o8 0 s (aN _) (fun t _ h2 h3=>by have:=ho.ap t s y (by omega) hs h3 hy;omega)];rfl
 have hlen:(jM R K e.L base ss s e.C).length=e.C.length:=tM (fun _ C=>DY R K _ C) s;have hw:within (run ss s) (jM R K e.L base ss s e.C):=fun k hk=>by
  rw[hlen,hi.len.2,jq hk];exact ho.lt s _ hs (bB hk)
 have hS:Among S0 (run ss s) (jM R K e.L base ss s e.C) (run ss s).length:=fun j hj=>by
  unfold cl;rw[jq hj,hout _ (bB hj)];exact VR hc hK (B5 s _ hs (bB hj))
 have hF:=(OC (R:=R) (K:=K) (s:=oq K e.L base (run ss s)) (wJ (ho.so s hs)) hw (B4 _) (B4 _) hS).1;obtain⟨k,hk,he⟩:=bU hxr;have h4:=hF k hk;unfold cl at h4;rw[show iP (oq K e.L base (run ss s)).I k=x by rw[show(oq K e.L base (run ss s)).I=run ss s from rfl,jq hk];exact he]at h4;have hfin:nth (jM R K e.L base ss ss.length e.C) x=nth (rules R K (oq K e.L base (run ss s)) (jM R K e.L base ss s e.C)) x:=by
  rw[o8 (s+1) ss.length (by omega) (fun t h1 h2 h3=>by have:=ho.ap t s x h2 hs h3 hxr;omega)];rfl
 rw[hfin];rw[S9 _ _ h4];rfl
end Go.Proofs.YtnakejhohdbfdacGreatDoor.j9
namespace Go.Proofs.YtnakejhohdbfdacGreatDoor.j9
def j6 (r:Int):Int:=if r=40 then 41 else if r=91 then 93 else if r=123 then 125 else if r=12296 then 12297 else if r=12298 then 12299 else 0
theorem zV (r:Int):(j6 r≠0) ↔ opens r=true:=by
 unfold j6 opens;by_cases h1:r=40
 ·subst h1;simp
 by_cases h2:r=91
 ·subst h2;simp
 by_cases h3:r=123
 ·subst h3;simp
 by_cases h4:r=12296
 ·subst h4;simp
 by_cases h5:r=12298
 ·subst h5;simp
 simp[h1,h2,h3,h4,h5]
theorem tN {b:Int}(hb:opens b=true)(r:Int):j6 b=r ↔ (shuts r≠0/\b=shuts r):=by
 have hb':b=40\/b=91\/b=123\/b=12296\/b=12298:=by unfold opens at hb;simp at hb;omega
 unfold shuts;by_cases h1:r=41
 ·subst h1;rcases hb' with h | h | h | h | h <;> subst h <;> simp[j6]
 by_cases h2:r=93
 ·subst h2;rcases hb' with h | h | h | h | h <;> subst h <;> simp[j6]
 by_cases h3:r=125
 ·subst h3;rcases hb' with h | h | h | h | h <;> subst h <;> simp[j6]
 by_cases h4:r=12297
 ·subst h4;rcases hb' with h | h | h | h | h <;> subst h <;> simp[j6]
 by_cases h5:r=12299
 ·subst h5;rcases hb' with h | h | h | h | h <;> subst h <;> simp[j6]
 rw[ay h1,ay h2,ay h3,ay h4,ay h5];constructor
 ·intro e;exfalso
  rcases hb' with h | h | h | h | h <;> (rw[h]at e;simp[j6]at e;omega)
 ·rintro ⟨h,_⟩;exact absurd rfl h
theorem B6 (R:List Int)(I:List Nat)(C:List Int):∀k,∀x∈(jm R I C k).st,opens (cl I R x)=true
 | 0,x,h=>by cases h
 | k+1,x,h=>by
   have ih:=B6 R I C k;rw[jm]at h;generalize jm R I C k=p at *;unfold jX at h;split at h
   ·exact ih x h
   ·split at h
    ·exact ih x h
    ·split at h
     ·rename_i ho
      split at h
      ·exact ih x h
      ·rcases a_.1 h with h1 | h1
       ·exact ih x h1
       ·rw[ak.1 h1];exact ho
     ·split at h
      ·exact ih x h
      ·split at h
       ·exact ih x h
       ·exact ih x (eB h)
theorem zW (R:List Int)(I st:List Nat)(c:Int):∀m j,oA R I st c m=some j->j<m/\cl I R (iP st j)=c/\∀t,j<t->t<m->cl I R (iP st t)≠c
 | 0,j,h=>by cases h
 | m+1,j,h=>by
   rw[oA]at h;by_cases h1:cl I R (iP st m)=c
   ·rw[aE h1]at h;cases h;exact⟨bP _,h1,fun t a b=>by omega⟩
   ·rw[ay h1]at h
    obtain⟨a,b,d⟩:=zW R I st c m j h;refine⟨by omega,b,fun t h2 h3=>?_⟩
    rcases aH (aP h3)with h4 | h4
    ·exact d t h2 h4
    ·subst h4;exact h1
theorem zX (R:List Int)(I st:List Nat)(c:Int):∀m,oA R I st c m=none->∀t,t<m->cl I R (iP st t)≠c
 | 0,_,t,h=>by omega
 | m+1,h,t,ht=>by
   rw[oA]at h;by_cases h1:cl I R (iP st m)=c
   ·rw[aE h1]at h;cases h
   ·rw[ay h1]at h
    rcases aH (aP ht)with h4 | h4
    ·exact zX R I st c m h t h4
    ·subst h4;exact h1
theorem Tc {st:List Nat}(hs:st.Pairwise (· < ·)){j:Nat}(hj:j<st.length):st.filter (fun x=>decide (x<iP st j))=st.take j:=by
 have e:st=st.take j++(st[j] :: st.drop (j+1)):=by
  conv=>lhs;rw[<-cY j st,cZ hj]
 have h1:(st.take j).filter (fun x=>decide (x<iP st j))=st.take j:=by
  rw[eX];intro x hx;obtain⟨t,ht,he⟩:=bU hx;rw[bH]at ht;rw[List.getElem_take]at he;have:=bE.1 hs t j (by omega) hj (by omega);rw[jq hj];exact bQ (by omega)
 have h2:(st[j] :: st.drop (j+1)).filter (fun x=>decide (x<iP st j))=[]:=by
  rw[dw];intro x hx;rw[jq hj]
  rcases bA.1 hx with h | h
  ·subst h;simp
  ·obtain⟨t,ht,he⟩:=bU h
   rw[cJ]at ht;rw[List.getElem_drop]at he;have:=bE.1 hs j (j+1+t) hj (by omega) (by omega);simp;omega
 conv=>lhs;rw[e]
 rw[dN];rw[show iP (st.take j++st[j] :: st.drop (j+1)) j=iP st j by rw[<-e]];rw[h1,h2,dh]
theorem LL {R:List Int}{I st:List Nat}(hs:st.Pairwise (· < ·))(ho:∀x∈st,opens (cl I R x)=true)(r:Int) :
 (∀j,(if shuts r=0 then none else oA R I st (shuts r) st.length)=some j->j<st.length/\j6 (cl I R (iP st j))=r/\∀x∈st,j6 (cl I R x)=r->x<=iP st j) /\
 ((if shuts r=0 then none else oA R I st (shuts r) st.length)=none->∀x∈st,j6 (cl I R x)≠r):=by
 constructor
 ·intro j hj
  by_cases h0:shuts r=0
  ·rw[aE h0]at hj;cases hj
  ·rw[ay h0]at hj
   obtain⟨a,b,c⟩:=zW _ _ _ _ _ _ hj;have hm:iP st j∈st:=by rw[jq a];exact bB a
   refine⟨a,(tN (ho _ hm) r).2 ⟨h0,b⟩,fun x hx hc=>?_⟩;obtain⟨t,ht,he⟩:=bU hx
   rcases cH j t with h1 | h1
   ·exfalso
    refine c t h1 ht ?_;rw[jq ht,he];exact((tN (ho x hx) r).1 hc).2
   ·rcases aH h1 with h2 | h2
    ·have:=bE.1 hs t j ht a h2
     rw[jq a];omega
    ·subst h2;rw[jq ht,he];exact au _
 ·intro hn x hx hc
  obtain⟨h0,hb⟩:=(tN (ho x hx) r).1 hc;rw[ay h0]at hn;obtain⟨t,ht,he⟩:=bU hx;refine zX _ _ _ _ _ hn t ht ?_;rw[jq ht,he];exact hb
end Go.Proofs.YtnakejhohdbfdacGreatDoor.j9
namespace Go.Proofs.YtnakejhohdbfdacGreatDoor.j9
theorem B7 (R:List Int)(I:List Nat)(C:List Int)(k:Nat)(h:(jm R I C k).stop=true):∀d,jm R I C (k+d)=jm R I C k
 | 0=>rfl
 | d+1=>by
   have ih:=B7 R I C k h d;show jX R I C (k+d) (jm R I C (k+d))=_;rw[ih,jX,aE h]
theorem B8 (R:List Int)(I:List Nat)(C:List Int)(k:Nat)(p:W7)(hs:p.stop=false) :
 (cl I C k≠13->jX R I C k p=p) /\
 (cl I C k=13->opens (cl I R k)=true->p.st.length=8->jX R I C k p={ p with stop:=true }) /\
 (cl I C k=13->opens (cl I R k)=true->p.st.length≠8->jX R I C k p={ p with st:=p.st++[k] }) /\
 (cl I C k=13->opens (cl I R k)=false->shuts (cl I R k)=0->jX R I C k p=p) /\
 (cl I C k=13->opens (cl I R k)=false->shuts (cl I R k)≠0->oA R I p.st (shuts (cl I R k)) p.st.length=none->jX R I C k p=p) /\
 (∀j,cl I C k=13->opens (cl I R k)=false->shuts (cl I R k)≠0->oA R I p.st (shuts (cl I R k)) p.st.length=some j->jX R I C k p={ p with st:=p.st.take j,out:=yQ (iP p.st j,k) p.out }):=by
 have h0:¬p.stop=true:=by rw[hs];exact aG
 refine⟨fun h=>?_,fun h h1 h2=>?_,fun h h1 h2=>?_,fun h h1 h2=>?_,fun h h1 h2 h3=>?_,fun j h h1 h2 h3=>?_⟩
 ·rw[jX,ay h0,aE h]
 ·rw[jX,ay h0,ay (by omega),aE h1,aE h2]
 ·rw[jX,ay h0,ay (by omega),aE h1,ay h2]
 ·rw[jX,ay h0,ay (by omega),ay (by rw[h1];exact aG),aE h2]
 ·rw[jX,ay h0,ay (by omega),ay (by rw[h1];exact aG),ay h2,h3]
 ·rw[jX,ay h0,ay (by omega),ay (by rw[h1];exact aG),ay h2,h3]
end Go.Proofs.YtnakejhohdbfdacGreatDoor.j9
namespace Go.Proofs.YtnakejhohdbfdacGreatDoor.j9
theorem Td {e:xw}(h:tK (top e.st))(i:Nat):(hold e i).C=if 0<=(top e.st).ov then e.C.set i (top e.st).ov else e.C:=by
 show(if(top e.st).ov=-1 then e.C else e.C.set i (top e.st).ov)=_
 rcases h.2.2 with h | h | h <;> rw[h] <;> rfl
theorem uN {K:List Int}{base:Int}{i:Nat}{e:xw}{c nx:Int}(hc:nth K i=c)(hb:begins c=true)(hx:nx=kT (top e.st).lv (j_ K i)) :
 (fits e nx=true->jE K base i e={ e with st:=e.st++[⟨nx,Du c,false⟩] }) /\
 (fits e nx=false->e.mi=0->jE K base i e={ e with me:=e.me+1 }) /\
 (fits e nx=false->e.mi≠0->jE K base i e=e):=by
 subst hc;subst hx;refine⟨fun h=>?_,fun h h1=>?_,fun h h1=>?_⟩
 ·rw[jE,aE hb,aE h]
 ·rw[jE,aE hb,ay (by rw[h];exact aG),aE h1]
 ·rw[jE,aE hb,ay (by rw[h];exact aG),ay h1]
theorem Te {c:Int}(h:mh c=true):begins c=false/\gone c=false/\c≠22:=by
 unfold mh at h;simp at h
 rcases h with(h | h) | h <;> subst h <;> decide
theorem EL {K:List Int}{base:Int}{i:Nat}{e:xw}{c nx:Int}(hc:nth K i=c)(hb:mh c=true)(hx:nx=kT (top e.st).lv (j_ K i)) :
 (fits e nx=true->jE K base i e={ hold e i with op:=e.op+1,st:=e.st++[⟨nx,-1,true⟩] }) /\
 (fits e nx=false->jE K base i e={ hold e i with mi:=e.mi+1 }):=by
 have hn:=(Te hb).1;subst hc;subst hx;refine⟨fun h=>?_,fun h=>?_⟩
 ·rw[jE,ay (by rw[hn];exact aG),aE hb,aE h]
 ·rw[jE,ay (by rw[hn];exact aG),aE hb,ay (by rw[h];exact aG)]
theorem Tf {K:List Int}{base:Int}{i:Nat}{e:xw}(hc:nth K i=18) :
 (0<e.mi->jE K base i e=e) /\
 (e.mi=0->0<e.me->jE K base i e={ e with me:=e.me - 1 }) /\
 (e.mi=0->e.me=0->(top e.st).qw=false->1<e.st.length->jE K base i e={ e with st:=e.st.dropLast }) /\
 (e.mi=0->e.me=0->((top e.st).qw=true\/e.st.length<=1)->jE K base i e=e):=by
 have h1:begins (nth K i)=false:=by rw[hc];rfl
 have h2:mh (nth K i)=false:=by rw[hc];rfl
 have h3:¬nth K i=22:=by omega
 refine⟨fun h=>?_,fun h h'=>?_,fun h h' h4 h5=>?_,fun h h' h4=>?_⟩
 ·rw[jE,h1,ay aG,h2,ay aG,ay h3,aE hc,aE h]
 ·rw[jE,h1,ay aG,h2,ay aG,ay h3,aE hc,ay (by omega),aE h']
 ·rw[jE,h1,ay aG,h2,ay aG,ay h3,aE hc,ay (by omega),ay (by omega),aE (by rw[h4];simpa using h5)]
 ·rw[jE,h1,ay aG,h2,ay aG,ay h3,aE hc,ay (by omega),ay (by omega),ay (by
   rcases h4 with h4 | h4
   ·rw[h4];simp
   ·simp;omega)]
theorem aah {K:List Int}{base:Int}{i:Nat}{e:xw}(hc:nth K i=10):jE K base i e={ e with L:=e.L.set i base }:=by
 rw[jE,hc];rfl
theorem W_ {K:List Int}{base:Int}{i:Nat}{e:xw}(hc:nth K i=9):jE K base i e=e:=by
 rw[jE,hc];rfl
theorem OU {K:List Int}{base:Int}{i:Nat}{e:xw}(h1:begins (nth K i)=false)(h2:mh (nth K i)=false)(h3:¬nth K i=22)(h4:¬nth K i=18)(h5:¬nth K i=10)(h6:¬nth K i=9):jE K base i e=hold e i:=by
 rw[jE,h1,ay aG,h2,ay aG,ay h3,ay h4,ay h5,ay h6]
theorem B9 (K:List Int):∀k,(iT K k).length<=k
 | 0=>by simp[iT]
 | k+1=>by
   have ih:=B9 K k;rw[iT];split
   ·simp;omega
   ·split
    ·simp;omega
    ·omega
theorem EM (st:List nE)(m:Nat)(h:st.length=m+1):st.dropLast=st.take m:=by rw[List.dropLast_eq_take,h];rfl
theorem OV {st:List nE}{m:Nat}(h:st.length=m+1):((top st).qw=true->mW st.length st=st.take m)/\((top st).qw=false->mW st.length st=mW (st.take m).length (st.take m)):=by
 have hl:(st.take m).length=m:=by rw[bH];omega
 refine⟨fun h1=>?_,fun h1=>?_⟩
 ·rw[h,mW,aE h1,EM st m h]
 ·rw[h,mW,ay (by rw[h1];exact aG),EM st m h,hl]
theorem Tg {st:List nE}{m:Nat}(h:st.length=m+1):st.reverse=top st :: (st.take m).reverse:=by
 have hne:st≠[]:=by intro e;subst e;simp at h
 have:st=st.take m++[top st]:=by
  conv=>lhs;rw[<-cY m st]
  congr 1
  rw[top,h];simp only[dx];rw[cZ (by omega),List.drop_of_length_le (by omega),aA (by omega)];rfl
 conv=>lhs;rw[this]
 rw[List.reverse_append];rfl
theorem OW {st:List nE}{m:Nat}(h:st.length=m+1)(h1:(top st).qw=false)(h2:0<oB st.reverse):0<oB (st.take m).reverse:=by
 rw[Tg h,oB,h1]at h2;simpa using h2
theorem Th {st:List nE}(h:0<oB st.reverse):0<st.length:=by
 rcases st with _ | ⟨x,r⟩
 ·simp[oB]at h
 ·simp
theorem OX {st:List nE}(h:sI st.reverse):0<st.length:=by
 rcases st with _ | ⟨x,r⟩
 ·exact absurd rfl h.ne
 ·simp
theorem Ti {st:List nE}(h:sI st.reverse)(hi:0<oB st.reverse):sI (mW st.length st).reverse:=by
 rw[tJ _ _ (au _)];exact h.ru hi
end Go.Proofs.YtnakejhohdbfdacGreatDoor.j9

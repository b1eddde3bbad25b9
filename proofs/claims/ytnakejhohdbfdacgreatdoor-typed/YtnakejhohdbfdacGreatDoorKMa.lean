
namespace Go.Proofs.YtnakejhohdbfdacGreatDoor.Lev
abbrev nth (xs:List Int)(i:Nat):Int:=xs[i]?.getD 0
abbrev nix (I:List Nat)(k:Nat):Nat:=I[k]?.getD 0
abbrev cl (I:List Nat)(C:List Int)(k:Nat):Int:=nth C (nix I k)
abbrev put (I:List Nat)(C:List Int)(k:Nat)(v:Int):List Int:=C.set (nix I k) v
def ini (c:Int):Bool:=c == 19 || c == 20 || c == 21
def gone (c:Int):Bool:=c == 9 || c == 14 || c == 15 || c == 16 || c == 17 || c == 18
def dn (c:Int):Int:=if ini c then 1 else if c=22 then -1 else 0
def mateL:List Int→Nat→Int→Option Nat
 | [],_,_=>none
 | x :: xs,p,n=>if n+dn x=0 then some p else mateL xs (p+1) (n+dn x)
def mate (c:List Int)(i:Nat):Option Nat:=mateL (c.drop i) i 0
def strongA (c:List Int)(to:Nat):Nat→Nat→Bool
 | 0,_=>false
 | f+1,i =>
   if to≤i then false
   else if nth c i=0 then false
   else if nth c i=1∨nth c i=2 then true
   else if ini (nth c i)then
    match mate c i with
    | none=>false
    | some m=>if to≤m then false else strongA c to f (m+1)
   else strongA c to f (i+1)
def strong (c:List Int)(i to:Nat):Bool:=strongA c to (to - i) i
structure Ent where
 lv:Int
 ov:Int
 iso:Bool
 deriving Inhabited
structure Emb where
 st:List Ent
 mi:Nat
 me:Nat
 op:Nat
 C:List Int
 L:List Int
def top (st:List Ent):Ent:=(st[st.length - 1]?).getD default
def oddOf (K:List Int)(i:Nat):Bool:=if nth K i=21 then strong K (i+1) ((mate K i).getD K.length)else nth K i == 16 || nth K i == 17 || nth K i == 20
def nextOf (l:Int)(odd:Bool):Int:=if((l+1) % 2 == 1) == odd then l+1 else l+2
def fits (e:Emb)(nx:Int):Bool:=decide (nx≤9) && e.mi == 0 && e.me == 0
def hold (e:Emb)(i:Nat):Emb:={ e with L:=e.L.set i (top e.st).lv,C:=if(top e.st).ov=-1 then e.C else e.C.set i (top e.st).ov }
def ovOf (c:Int):Int:=if c=17 then 1 else if c=15 then 0 else -1
def popI:Nat→List Ent→List Ent
 | 0,st=>st
 | f+1,st=>if(top st).iso then st.dropLast else popI f st.dropLast
def begins (c:Int):Bool:=c == 14 || c == 15 || c == 16 || c == 17
def embStep (K:List Int)(base:Int)(i:Nat)(e:Emb):Emb :=
 if begins (nth K i)then
  if fits e (nextOf (top e.st).lv (oddOf K i))then { e with st:=e.st++[⟨nextOf (top e.st).lv (oddOf K i),ovOf (nth K i),false⟩] }
  else if e.mi=0 then { e with me:=e.me+1 } else e
 else if ini (nth K i)then
  if fits e (nextOf (top e.st).lv (oddOf K i))then { hold e i with op:=e.op+1,st:=e.st++[⟨nextOf (top e.st).lv (oddOf K i),-1,true⟩] }
  else { hold e i with mi:=e.mi+1 }
 else if nth K i=22 then
  hold (if 0<e.mi then { e with mi:=e.mi - 1 } else if 0<e.op then { e with me:=0,st:=popI e.st.length e.st,op:=e.op - 1 } else e) i
 else if nth K i=18 then
  if 0<e.mi then e else if 0<e.me then { e with me:=e.me - 1 }
  else if !(top e.st).iso && decide (1<e.st.length)then { e with st:=e.st.dropLast } else e
 else if nth K i=10 then { e with L:=e.L.set i base }
 else if nth K i=9 then e
 else hold e i
def embTo (K:List Int)(base:Int):Nat→Emb
 | 0=>⟨[⟨base,-1,false⟩],0,0,0,K,List.replicate K.length 0⟩
 | k+1=>embStep K base k (embTo K base k)
def lastN (r:List Nat):Nat:=(r[r.length - 1]?).getD 0
def firstN (r:List Nat):Nat:=(r[0]?).getD 0
def runStep (K L:List Int)(i:Nat)(rs:List (List Nat)):List (List Nat) :=
 if gone (nth K i)then rs
 else if rs=[]then [[i]]
 else if nth L (lastN ((rs[rs.length - 1]?).getD []))=nth L i then rs.set (rs.length - 1) ((rs[rs.length - 1]?).getD []++[i])
 else rs++[[i]]
def runsTo (K L:List Int):Nat→List (List Nat)
 | 0=>[]
 | k+1=>runStep K L k (runsTo K L k)
def follows (K:List Int)(a b:List Nat):Bool:=ini (nth K (lastN a)) && (mate K (lastN a) == some (firstN b))
abbrev run (rs:List (List Nat))(j:Nat):List Nat:=(rs[j]?).getD []
def nextTo (K:List Int)(rs:List (List Nat))(a:List Nat):Nat→Option Nat
 | 0=>none
 | j+1=>if follows K a (run rs j)then some j else nextTo K rs a j
def freeTo (K:List Int)(rs:List (List Nat))(b:List Nat):Nat→Bool
 | 0=>true
 | j+1=>freeTo K rs b j && !follows K (run rs j) b
def chain (K:List Int)(rs:List (List Nat)):Nat→Nat→List Nat
 | 0,_=>[]
 | f+1,i=>run rs i++(match nextTo K rs (run rs i) rs.length with | none=>[] | some j=>chain K rs f j)
def seqsTo (K:List Int)(rs:List (List Nat)):Nat→List (List Nat)
 | 0=>[]
 | i+1=>if freeTo K rs (run rs i) rs.length then seqsTo K rs i++[chain K rs rs.length i]else seqsTo K rs i
def seqs (K:List Int)(rs:List (List Nat)):List (List Nat):=seqsTo K rs rs.length
structure Sq where
 I:List Nat
 own:Int
 bef:Int
 aft:Int
def way (l:Int):Int:=if l % 2=1 then 1 else 0
def lvAhead (K L:List Int)(base:Int):Nat→Int
 | 0=>base
 | i+1=>if gone (nth K i)then lvAhead K L base i else nth L i
def lvBehind (K L:List Int)(base:Int):Nat→Nat→Int
 | 0,_=>base
 | f+1,j=>if j<K.length then if gone (nth K j)then lvBehind K L base f (j+1)else nth L j else base
def seqOf (K L:List Int)(base:Int)(I:List Nat):Sq :=
 ⟨I,way (nth L (firstN I)),way (max (nth L (firstN I)) (lvAhead K L base (firstN I))),
  way (max (nth L (firstN I)) (if ini (nth K (lastN I))then base else lvBehind K L base K.length (lastN I+1)))⟩
def ah (s:Sq)(C:List Int)(k:Nat):Int:=if k=0 then s.bef else cl s.I C (k - 1)
def att (s:Sq)(C:List Int)(k:Nat):Int:=if k<s.I.length then cl s.I C k else s.aft
def markStep (K:List Int)(s:Sq)(C:List Int)(k:Nat):List Int :=
 if cl s.I C k=8 then put s.I C k (if 0<k∧(ini (cl s.I K (k - 1))=true∨cl s.I K (k - 1)=22)then 13 else ah s C k)else C
def marksTo (K:List Int)(s:Sq):Nat→List Int→List Int
 | 0,C=>C
 | k+1,C=>markStep K s (marksTo K s k C) k
def numStep (I:List Nat)(al:Bool)(letter to:Int)(q:Int × List Int)(k:Nat):Int × List Int :=
 if cl I q.2 k=0∨cl I q.2 k=1∨(al=true∧cl I q.2 k=2)then(cl I q.2 k,q.2)
 else if cl I q.2 k=3∧q.1=letter then(q.1,put I q.2 k to)else q
def numsTo (I:List Nat)(al:Bool)(letter to:Int):Nat→Int × List Int→Int × List Int
 | 0,q=>q
 | k+1,q=>numStep I al letter to (numsTo I al letter to k q) k
def alStep (I:List Nat)(C:List Int)(k:Nat):List Int:=if cl I C k=2 then put I C k 1 else C
def alTo (I:List Nat):Nat→List Int→List Int
 | 0,C=>C
 | k+1,C=>alStep I (alTo I k C) k
def sepStep (s:Sq)(C:List Int)(k:Nat):List Int :=
 if ah s C k=att s C (k+1)∧((ah s C k=3∧(cl s.I C k=4∨cl s.I C k=7))∨(ah s C k=6∧cl s.I C k=7))then put s.I C k (ah s C k)else C
def sepTo (s:Sq):Nat→List Int→List Int
 | 0,C=>C
 | k+1,C=>sepStep s (sepTo s k C) k
def fillTo (I:List Nat)(a:Nat)(v:Int):Nat→List Int→List Int
 | 0,C=>C
 | d+1,C=>put I (fillTo I a v d C) (a+d) v
def scanStep (I:List Nat)(fit:Int→Bool)(act:Nat→Nat→List Int→List Int)(q:Nat × List Int)(k:Nat):Nat × List Int :=
 if fit (cl I q.2 k)then q else(k+1,if q.1<k then act q.1 k q.2 else q.2)
def scanTo (I:List Nat)(fit:Int→Bool)(act:Nat→Nat→List Int→List Int):Nat→Nat × List Int→Nat × List Int
 | 0,q=>q
 | k+1,q=>scanStep I fit act (scanTo I fit act k q) k
def scanEnd (I:List Nat)(act:Nat→Nat→List Int→List Int)(q:Nat × List Int):List Int:=if q.1<I.length then act q.1 I.length q.2 else q.2
def scan (I:List Nat)(fit:Int→Bool)(act:Nat→Nat→List Int→List Int)(C:List Int):List Int:=scanEnd I act (scanTo I fit act I.length (0,C))
def isET (c:Int):Bool:=c == 5
def etAct (s:Sq)(a b:Nat)(C:List Int):List Int:=if ah s C a=3∨att s C b=3 then fillTo s.I a 3 (b - a) C else C
def looseStep (I:List Nat)(C:List Int)(k:Nat):List Int:=if cl I C k=4∨cl I C k=5∨cl I C k=7 then put I C k 13 else C
def looseTo (I:List Nat):Nat→List Int→List Int
 | 0,C=>C
 | k+1,C=>looseStep I (looseTo I k C) k
def weak (K:List Int)(s:Sq)(C:List Int):List Int :=
 (numsTo s.I false 0 0 s.I.length (s.bef,looseTo s.I s.I.length (scan s.I isET (etAct s) (sepTo s s.I.length (alTo s.I s.I.length
   (numsTo s.I true 2 6 s.I.length (s.bef,marksTo K s s.I.length C)).2))))).2
def opens (r:Int):Bool:=r == 40 || r == 91 || r == 123 || r == 12296 || r == 12298
def shuts (r:Int):Int:=if r=41 then 40 else if r=93 then 91 else if r=125 then 123 else if r=12297 then 12296 else if r=12299 then 12298 else 0
def findTo (R:List Int)(I:List Nat)(st:List Nat)(c:Int):Nat→Option Nat
 | 0=>none
 | j+1=>if cl I R (nix st j)=c then some j else findTo R I st c j
structure Prs where
 st:List Nat
 out:List (Nat × Nat)
 stop:Bool
def insP (p:Nat × Nat):List (Nat × Nat)→List (Nat × Nat)
 | []=>[p]
 | q :: r=>if q.1<p.1 then q :: insP p r else p :: q :: r
def pairStep (R:List Int)(I:List Nat)(C:List Int)(k:Nat)(p:Prs):Prs :=
 if p.stop then p
 else if cl I C k≠13 then p
 else if opens (cl I R k)then if p.st.length=8 then { p with stop:=true } else { p with st:=p.st++[k] }
 else if shuts (cl I R k)=0 then p
 else match findTo R I p.st (shuts (cl I R k)) p.st.length with
  | none=>p
  | some j=>{ p with st:=p.st.take j,out:=insP (nix p.st j,k) p.out }
def pairsTo (R:List Int)(I:List Nat)(C:List Int):Nat→Prs
 | 0=>⟨[],[],false⟩
 | k+1=>pairStep R I C k (pairsTo R I C k)
def side (c:Int):Int:=if c=0 then 0 else if c=1∨c=3∨c=6 then 1 else -1
def anyTo (f:Nat→Bool)(a:Nat):Nat→Bool
 | 0=>false
 | d+1=>anyTo f a d || f (a+d)
def aheadTo (s:Sq)(C:List Int):Nat→Int
 | 0=>side s.bef
 | k+1=>if 0≤side (cl s.I C k)then side (cl s.I C k)else aheadTo s C k
def becTo (K:List Int)(I:List Nat)(v:Int):Nat→Nat→List Int→List Int
 | 0,_,C=>C
 | f+1,j,C=>if j<I.length∧cl I K j=8 then becTo K I v f (j+1) (put I C j v)else C
def become (K:List Int)(I:List Nat)(k:Nat)(v:Int)(C:List Int):List Int:=becTo K I v I.length (k+1) (put I C k v)
def brStep (K:List Int)(s:Sq)(p:Nat × Nat)(C:List Int):List Int :=
 if anyTo (fun k=>side (cl s.I C k) == s.own) (p.1+1) (p.2 - (p.1+1))then become K s.I p.2 s.own (become K s.I p.1 s.own C)
 else if anyTo (fun k=>decide (0≤side (cl s.I C k))) (p.1+1) (p.2 - (p.1+1))then become K s.I p.2 (aheadTo s C p.1) (become K s.I p.1 (aheadTo s C p.1) C)
 else C
def brTo (K:List Int)(s:Sq)(ps:List (Nat × Nat)):Nat→List Int→List Int
 | 0,C=>C
 | i+1,C=>brStep K s ((ps[i]?).getD (0,0)) (brTo K s ps i C)
def brackets (R K:List Int)(s:Sq)(C:List Int):List Int:=brTo K s (pairsTo R s.I C s.I.length).out (pairsTo R s.I C s.I.length).out.length C
def isNe (c:Int):Bool:=decide (side c<0)
def neAct (s:Sq)(a b:Nat)(C:List Int):List Int:=fillTo s.I a (if side (ah s C a)=side (att s C b)then side (ah s C a)else s.own) (b - a) C
def neutral (s:Sq)(C:List Int):List Int:=scan s.I isNe (neAct s) C
def rules (R K:List Int)(s:Sq)(C:List Int):List Int:=neutral s (brackets R K s (weak K s C))
def rulesTo (R K L:List Int)(base:Int)(ss:List (List Nat)):Nat→List Int→List Int
 | 0,C=>C
 | i+1,C=>rules R K (seqOf K L base (run ss i)) (rulesTo R K L base ss i C)
def up (l c:Int):Int:=if l % 2=1 then(if c=0∨c=3∨c=6 then 1 else 0)else(if c=1 then 1 else if c=3∨c=6 then 2 else 0)
def raiseTo (K C:List Int)(base:Int):Nat→List Int→Int × List Int
 | 0,L=>(base,L)
 | i+1,L =>
   let q:=raiseTo K C base i L
   if gone (nth K i)then(q.1,q.2.set i q.1)else(nth q.2 i+up (nth q.2 i) (nth C i),q.2.set i (nth q.2 i+up (nth q.2 i) (nth C i)))
def baseOf (K:List Int)(b:Int):Int:=if b=2 then(if strong K 0 K.length then 1 else 0)else b
def levels (R K:List Int)(base:Int):List Int :=
 let e:=embTo K base K.length
 let rs:=runsTo K e.L K.length
 (raiseTo K (rulesTo R K e.L base (seqs K rs) (seqs K rs).length e.C) base K.length e.L).2
end Go.Proofs.YtnakejhohdbfdacGreatDoor.Lev
namespace Go.Proofs.YtnakejhohdbfdacGreatDoor.Lev
def inj (I:List Nat):Prop:=∀j k,j<I.length→k<I.length→nix I j=nix I k→j=k
theorem nth_set' (l:List Int)(i:Nat)(v:Int)(j:Nat):nth (l.set i v) j=if j=i∧i<l.length then v else nth l j:=by
 unfold nth;by_cases h:j=i
 ·subst h
  by_cases h2:j<l.length
  ·rw[if_pos ⟨rfl,h2⟩,List.getElem?_set_self h2];rfl
  ·rw[if_neg (fun x=>h2 x.2),List.getElem?_eq_none (by simp;omega),List.getElem?_eq_none (by omega)]
 ·rw[if_neg (fun x=>h x.1),List.getElem?_set_ne (fun e=>h e.symm)]
theorem cl_put_other {I:List Nat}(hI:inj I)(C:List Int){j k:Nat}(v:Int)(hj:j<I.length)(hk:k<I.length)(h:j≠k):cl I (put I C j v) k=cl I C k:=by
 unfold cl put;rw[nth_set',if_neg];intro x;exact h (hI j k hj hk x.1.symm)
theorem cl_fill_other {I:List Nat}(hI:inj I)(a:Nat)(v:Int)(C:List Int){k:Nat}(hk:k<I.length):∀d,a+d≤I.length→(k<a∨a+d≤k)→cl I (fillTo I a v d C) k=cl I C k
 | 0,_,_=>rfl
 | d+1,hd,h=>by
   rw[fillTo,cl_put_other hI _ v (show a+d<I.length by omega) hk (by omega)];exact cl_fill_other hI a v C hk d (by omega) (by omega)
end Go.Proofs.YtnakejhohdbfdacGreatDoor.Lev
namespace Go.Proofs.YtnakejhohdbfdacGreatDoor.Lev
def openAt (K:List Int):Nat→List Nat
 | 0=>[]
 | k+1=>if ini (nth K k)then k :: openAt K k else if nth K k=22 then(openAt K k).tail else openAt K k
def partAt (K:List Int):Nat→Nat→Option Nat
 | 0,_=>none
 | k+1,i=>if ini (nth K k)=false∧nth K k=22∧(openAt K k)[0]?=some i then some k else partAt K k i
theorem mateL_step (K:List Int)(k:Nat)(n:Int)(h:k<K.length):mateL (K.drop k) k n=if n+dn (nth K k)=0 then some k else mateL (K.drop (k+1)) (k+1) (n+dn (nth K k)):=by
 rw[List.drop_eq_getElem_cons h,mateL];simp[nth,List.getElem?_eq_getElem h]
theorem mateL_gt:∀(c:List Int) (p:Nat) (n:Int) (m:Nat),mateL c p n=some m→p≤m
 | [],_,_,_,h=>by cases h
 | x :: xs,p,n,m,h=>by
   rw[mateL]at h;by_cases h0:n+dn x=0
   ·rw[if_pos h0]at h;cases h;exact Nat.le_refl _
   ·rw[if_neg h0]at h;have:=mateL_gt xs (p+1) _ m h;omega
theorem ini_not22 {c:Int}(h:ini c=true):c≠22:=by intro e;subst e;cases h
structure PartInv (K:List Int)(k:Nat):Prop where
 op:∀d i:Nat,(openAt K k)[d]?=some i→ini (nth K i)=true∧i<k∧mate K i=mateL (K.drop k) k ((d:Int)+1)∧partAt K k i=none
 cl:∀i,i<k→ini (nth K i)=true→(∃d:Nat,(openAt K k)[d]?=some i)∨(∃j,partAt K k i=some j∧mate K i=some j)
 no:∀i,partAt K k i≠none→i<k∧ini (nth K i)=true
theorem part_inv (K:List Int):∀k,k≤K.length→PartInv K k
 | 0,_=>⟨fun d i h=>by simp[openAt]at h,fun i h=>by omega,fun i h=>absurd rfl h⟩
 | k+1,hk=>by
   have ih:=part_inv K k (by omega);have hkl:k<K.length:=by omega
   cases hi:ini (nth K k)
   ·by_cases h22:nth K k=22
    · -- a PDI
      have hd:dn (nth K k)=-1:=by rw[dn,hi,h22];simp
      have ho:openAt K (k+1)=(openAt K k).tail:=by rw[openAt,hi,if_neg Bool.false_ne_true,if_pos h22]
      have hp:∀i,partAt K (k+1) i=if(openAt K k)[0]?=some i then some k else partAt K k i:=by
       intro i;rw[partAt];by_cases h:(openAt K k)[0]?=some i
       ·rw[if_pos ⟨hi,h22,h⟩,if_pos h]
       ·rw[if_neg (fun x=>h x.2.2),if_neg h]
      have hdist:∀d i:Nat,(openAt K k)[d+1]?=some i→(openAt K k)[0]?≠some i:=by
       intro d i h1 h0;have a:=(ih.op (d+1) i h1).2.2.1;have b:=(ih.op 0 i h0).2.2.1;rw[mateL_step K k _ hkl,hd]at a b;rw[b]at a;rw[if_pos (by omega),if_neg (by omega)]at a;have:=mateL_gt (K.drop (k+1)) (k+1) _ k a.symm;omega
      refine⟨fun d i h=>?_,fun i hik hin=>?_,fun i h=>?_⟩
      ·rw[ho,List.getElem?_tail]at h
       obtain⟨h1,h2,h3,h4⟩:=ih.op (d+1) i h;refine⟨h1,by omega,?_,?_⟩
       ·rw[h3,mateL_step K k _ hkl,hd,if_neg (by omega)];congr 1;omega
       ·rw[hp,if_neg (hdist d i h)];exact h4
      ·rcases Nat.lt_or_eq_of_le (Nat.le_of_lt_succ hik)with h | h
       ·rcases ih.cl i h hin with⟨d,hd'⟩ | ⟨j,hj1,hj2⟩
        ·cases d with
         | zero =>
           refine .inr ⟨k,by rw[hp,if_pos hd'],?_⟩;rw[(ih.op 0 i hd').2.2.1,mateL_step K k _ hkl,hd,if_pos (by omega)]
         | succ d=>exact .inl ⟨d,by rw[ho,List.getElem?_tail];exact hd'⟩
        ·refine .inr ⟨j,?_,hj2⟩
         rw[hp,if_neg];exact hj1;intro h0;have:=(ih.op 0 i h0).2.2.2;rw[hj1]at this;cases this
       ·subst h;rw[hi]at hin;cases hin
      ·rw[hp]at h
       by_cases h0:(openAt K k)[0]?=some i
       ·have:=ih.op 0 i h0;exact⟨by omega,this.1⟩
       ·rw[if_neg h0]at h;have:=ih.no i h;exact⟨by omega,this.2⟩
    ·have hd:dn (nth K k)=0:=by rw[dn,hi,if_neg Bool.false_ne_true,if_neg h22]
     have ho:openAt K (k+1)=openAt K k:=by rw[openAt,hi,if_neg Bool.false_ne_true,if_neg h22]
     have hp:∀i,partAt K (k+1) i=partAt K k i:=fun i=>by rw[partAt,if_neg (fun x=>h22 x.2.1)]
     refine⟨fun d i h=>?_,fun i hik hin=>?_,fun i h=>?_⟩
     ·rw[ho]at h
      obtain⟨h1,h2,h3,h4⟩:=ih.op d i h;exact⟨h1,by omega,by rw[h3,mateL_step K k _ hkl,hd,if_neg (by omega)] <;> (congr 1 <;> omega),by rw[hp];exact h4⟩
     ·rcases Nat.lt_or_eq_of_le (Nat.le_of_lt_succ hik)with h | h
      ·rcases ih.cl i h hin with⟨d,hd'⟩ | ⟨j,hj1,hj2⟩
       ·exact .inl ⟨d,by rw[ho];exact hd'⟩
       ·exact .inr ⟨j,by rw[hp];exact hj1,hj2⟩
      ·subst h;rw[hi]at hin;cases hin
     ·rw[hp]at h;have:=ih.no i h;exact⟨by omega,this.2⟩
   ·have hd:dn (nth K k)=1:=by rw[dn,hi];rfl
    have ho:openAt K (k+1)=k :: openAt K k:=by rw[openAt,hi];rfl
    have hp:∀i,partAt K (k+1) i=partAt K k i:=fun i=>by rw[partAt,if_neg (fun x=>by rw[hi]at x;cases x.1)]
    have hk0:partAt K k k=none:=by
     cases h:partAt K k k with
     | none=>rfl
     | some j=>have:=ih.no k (by rw[h];simp);omega
    refine⟨fun d i h=>?_,fun i hik hin=>?_,fun i h=>?_⟩
    ·rw[ho]at h
     cases d with
     | zero =>
       simp at h;subst h;refine⟨hi,by omega,?_,by rw[hp];exact hk0⟩;rw[mate,mateL_step K k _ hkl,hd,if_neg (by omega)];congr 1
     | succ d =>
       simp at h;obtain⟨h1,h2,h3,h4⟩:=ih.op d i h;exact⟨h1,by omega,by rw[h3,mateL_step K k _ hkl,hd,if_neg (by omega)] <;> (congr 1 <;> omega),by rw[hp];exact h4⟩
    ·rcases Nat.lt_or_eq_of_le (Nat.le_of_lt_succ hik)with h | h
     ·rcases ih.cl i h hin with⟨d,hd'⟩ | ⟨j,hj1,hj2⟩
      ·exact .inl ⟨d+1,by rw[ho];simpa using hd'⟩
      ·exact .inr ⟨j,by rw[hp];exact hj1,hj2⟩
     ·subst h;exact .inl ⟨0,by rw[ho];rfl⟩
    ·rw[hp]at h;have:=ih.no i h;exact⟨by omega,this.2⟩
theorem part_mate (K:List Int)(i:Nat)(hi:i<K.length):partAt K K.length i=if ini (nth K i)then mate K i else none:=by
 have h:=part_inv K K.length (Nat.le_refl _);cases hn:ini (nth K i)
 ·rw[if_neg Bool.false_ne_true]
  cases hp:partAt K K.length i with
  | none=>rfl
  | some j=>have:=(h.no i (by rw[hp];simp)).2;rw[hn]at this;cases this
 ·rw[if_pos rfl]
  rcases h.cl i hi hn with⟨d,hd⟩ | ⟨j,hj1,hj2⟩
  ·obtain⟨_,_,h3,h4⟩:=h.op d i hd
   rw[h4,h3,List.drop_length];rfl
  ·rw[hj1,hj2]
theorem mem_insP (p q:Nat × Nat):∀l,q∈insP p l ↔ q=p∨q∈l
 | []=>by simp[insP]
 | x :: r=>by
   rw[insP];by_cases h:x.1<p.1
   ·rw[if_pos h,List.mem_cons,mem_insP p q r,List.mem_cons]
    constructor
    ·rintro (h | h | h)
     ·exact .inr (.inl h)
     ·exact .inl h
     ·exact .inr (.inr h)
    ·rintro (h | h | h)
     ·exact .inr (.inl h)
     ·exact .inl h
     ·exact .inr (.inr h)
   ·rw[if_neg h,List.mem_cons]
theorem len_insP (p:Nat × Nat):∀l,(insP p l).length=l.length+1
 | []=>rfl
 | x :: r=>by
   rw[insP];by_cases h:x.1<p.1
   ·rw[if_pos h,List.length_cons,len_insP p r,List.length_cons]
   ·rw[if_neg h,List.length_cons]
theorem sorted_insP (p:Nat × Nat):∀l:List (Nat × Nat),l.Pairwise (fun a b=>a.1<b.1)→(∀q∈l,q.1≠p.1)→(insP p l).Pairwise (fun a b=>a.1<b.1)
 | [],_,_=>by simp[insP]
 | x :: r,hs,hn=>by
   rw[List.pairwise_cons]at hs;rw[insP];by_cases h:x.1<p.1
   ·rw[if_pos h,List.pairwise_cons]
    refine⟨fun q hq=>?_,sorted_insP p r hs.2 (fun q hq=>hn q (List.mem_cons_of_mem _ hq))⟩
    rcases(mem_insP p q r).1 hq with e | e
    ·subst e;exact h
    ·exact hs.1 q e
   ·rw[if_neg h,List.pairwise_cons]
    have hx:=hn x List.mem_cons_self;refine⟨fun q hq=>?_,List.pairwise_cons.2 hs⟩
    rcases List.mem_cons.1 hq with e | e
    ·subst e;omega
    ·have:=hs.1 q e;omega
theorem findTo_lt (R:List Int)(I:List Nat)(st:List Nat)(c:Int):∀m j,findTo R I st c m=some j→j<m
 | 0,j,h=>by cases h
 | m+1,j,h=>by
   rw[findTo]at h;by_cases h1:cl I R (nix st m)=c
   ·rw[if_pos h1]at h;cases h;omega
   ·rw[if_neg h1]at h;have:=findTo_lt R I st c m j h;omega
structure PrsInv (p:Prs)(k:Nat):Prop where
 st:∀x∈p.st,x<k
 up:p.st.Pairwise (· < ·)
 out:∀x∈p.out,x.1<x.2∧x.2<k
 so:p.out.Pairwise (fun a b=>a.1<b.1)
 dj:∀x∈p.out,x.1 ∉ p.st
 len:p.out.length≤k
 ln8:p.st.length≤8
theorem PrsInv.mono {p:Prs}{k:Nat}(h:PrsInv p k):PrsInv p (k+1) :=
 ⟨fun x hx=>Nat.lt_succ_of_lt (h.st x hx),h.up,fun x hx=>⟨(h.out x hx).1,Nat.lt_succ_of_lt (h.out x hx).2⟩,h.so,h.dj,Nat.le_succ_of_le h.len,h.ln8⟩
theorem nix_of_get {st:List Nat}{j:Nat}(h:j<st.length):nix st j=st[j]:=by simp[nix,List.getElem?_eq_getElem h]
theorem prs_inv (R:List Int)(I:List Nat)(C:List Int):∀k,PrsInv (pairsTo R I C k) k
 | 0=>⟨by simp[pairsTo],by simp[pairsTo],by simp[pairsTo],by simp[pairsTo],by simp[pairsTo],by simp[pairsTo],by simp[pairsTo]⟩
 | k+1=>by
   have ih:=prs_inv R I C k;rw[pairsTo];generalize pairsTo R I C k=p at *;unfold pairStep;by_cases h1:p.stop=true
   ·rw[if_pos h1];exact ih.mono
   rw[if_neg h1];by_cases h2:cl I C k≠13
   ·rw[if_pos h2];exact ih.mono
   rw[if_neg h2];by_cases h3:opens (cl I R k)=true
   ·rw[if_pos h3]
    by_cases h4:p.st.length=8
    ·rw[if_pos h4]
     exact⟨ih.mono.st,ih.up,ih.mono.out,ih.so,ih.dj,ih.mono.len,ih.ln8⟩
    ·rw[if_neg h4]
     refine⟨fun x hx=>?_,?_,ih.mono.out,ih.so,fun x hx=>?_,ih.mono.len,?_⟩
     ·rcases List.mem_append.1 hx with h | h
      ·exact Nat.lt_succ_of_lt (ih.st x h)
      ·rw[List.mem_singleton.1 h];exact Nat.lt_succ_self _
     ·rw[List.pairwise_append]
      exact⟨ih.up,by simp,fun a ha b hb=>by rw[List.mem_singleton.1 hb];exact ih.st a ha⟩
     ·intro hm
      rcases List.mem_append.1 hm with h | h
      ·exact ih.dj x hx h
      ·have:=ih.out x hx;have:=List.mem_singleton.1 h;omega
     ·have:=ih.ln8;simp;omega
   rw[if_neg h3];by_cases h5:shuts (cl I R k)=0
   ·rw[if_pos h5];exact ih.mono
   rw[if_neg h5];cases hf:findTo R I p.st (shuts (cl I R k)) p.st.length with
   | none=>exact ih.mono
   | some j =>
     have hj:=findTo_lt _ _ _ _ _ _ hf;have hjm:nix p.st j∈p.st:=by rw[nix_of_get hj];exact List.getElem_mem hj
     refine⟨fun x hx=>Nat.lt_succ_of_lt (ih.st x (List.mem_of_mem_take hx)),ih.up.sublist (List.take_sublist _ _),fun x hx=>?_,?_,fun x hx=>?_,?_,?_⟩
     ·rcases(mem_insP _ x _).1 hx with e | e
      ·subst e;exact⟨ih.st _ hjm,Nat.lt_succ_self _⟩
      ·exact ih.mono.out x e
     ·refine sorted_insP _ _ ih.so (fun q hq e=>?_)
      have:=ih.dj q hq;rw[e]at this;exact this hjm
     ·intro hm
      rcases(mem_insP _ x _).1 hx with e | e
      ·subst e
       -- the one that is shut does not stay
       obtain⟨t,ht,hte⟩:=List.getElem_of_mem hm;have ht2:t<j:=by rw[List.length_take]at ht;omega
       rw[List.getElem_take]at hte;have:=List.pairwise_iff_getElem.1 ih.up t j (by omega) hj ht2;rw[hte,←nix_of_get hj]at this;exact absurd this (Nat.lt_irrefl _)
      ·exact ih.dj x e (List.mem_of_mem_take hm)
     ·rw[len_insP];have:=ih.len;omega
     ·rw[List.length_take];have:=ih.ln8;omega
theorem pairs_ok (R:List Int)(I:List Nat)(C:List Int)(i:Nat)(h:i<(pairsTo R I C I.length).out.length) :
 (((pairsTo R I C I.length).out[i]?).getD (0,0)).1<(((pairsTo R I C I.length).out[i]?).getD (0,0)).2∧(((pairsTo R I C I.length).out[i]?).getD (0,0)).2<I.length:=by
 rw[List.getElem?_eq_getElem h];exact(prs_inv R I C I.length).out _ (List.getElem_mem h)
end Go.Proofs.YtnakejhohdbfdacGreatDoor.Lev
namespace Go.Proofs.YtnakejhohdbfdacGreatDoor.Lev
def Among (P:Int→Prop)(I:List Nat)(C:List Int)(k:Nat):Prop:=∀j,j<k→P (cl I C j)
theorem cl_put (I:List Nat)(C:List Int)(k j:Nat)(v:Int):cl I (put I C k v) j=v∨cl I (put I C k v) j=cl I C j:=by
 unfold cl put;rw[nth_set'];by_cases h:nix I j=nix I k∧nix I k<C.length
 ·rw[if_pos h];exact .inl rfl
 ·rw[if_neg h];exact .inr rfl
theorem Among.put {P:Int→Prop}{I:List Nat}{C:List Int}{n:Nat}(h:Among P I C n)(k:Nat){v:Int}(hv:P v):Among P I (put I C k v) n:=by
 intro j hj
 rcases cl_put I C k j v with e | e
 ·rw[e];exact hv
 ·rw[e];exact h j hj
theorem Among.mono {P Q:Int→Prop}{I:List Nat}{C:List Int}{n:Nat}(h:Among P I C n)(hPQ:∀c,P c→Q c):Among Q I C n:=fun j hj=>hPQ _ (h j hj)
theorem cl_put_len (I:List Nat)(C:List Int)(k:Nat)(v:Int):(put I C k v).length=C.length:=by simp
theorem cl_put_same {I:List Nat}{C:List Int}{k:Nat}(v:Int)(h:nix I k<C.length):cl I (put I C k v) k=v:=by
 unfold cl put;rw[nth_set',if_pos ⟨rfl,h⟩]
def S0 (c:Int):Prop:=c=0∨c=1∨c=2∨c=3∨c=4∨c=5∨c=6∨c=7∨c=8∨c=10∨c=11∨c=12∨c=13∨c=19∨c=20∨c=21∨c=22
def S1 (c:Int):Prop:=S0 c∧c≠8
def S2 (c:Int):Prop:=S1 c∧c≠2
def S3 (c:Int):Prop:=S2 c∧c≠4∧c≠5∧c≠7
def within (I:List Nat)(C:List Int):Prop:=∀k,k<I.length→nix I k<C.length
theorem within.of {I:List Nat}{C C':List Int}(h:within I C)(e:C'.length=C.length):within I C':=fun k hk=>by rw[e];exact h k hk
theorem marks_len (K:List Int)(s:Sq)(C:List Int):∀k,(marksTo K s k C).length=C.length
 | 0=>rfl
 | k+1=>by
   rw[marksTo,markStep];split
   ·rw[cl_put_len];exact marks_len K s C k
   ·exact marks_len K s C k
theorem marks_S {K:List Int}{s:Sq}{C:List Int}(hb:s.bef=0∨s.bef=1)(hw:within s.I C)(h:Among S0 s.I C s.I.length):∀k,k≤s.I.length→Among S0 s.I (marksTo K s k C) s.I.length∧Among S1 s.I (marksTo K s k C) k
 | 0,_=>⟨h,fun j hj=>by omega⟩
 | k+1,hk=>by
   obtain⟨h0,h1⟩:=marks_S hb hw h k (by omega);rw[marksTo,markStep];by_cases h8:cl s.I (marksTo K s k C) k=8
   ·rw[if_pos h8]
    have hv:S1 (if 0<k∧(ini (cl s.I K (k - 1))=true∨cl s.I K (k - 1)=22)then 13 else ah s (marksTo K s k C) k):=by
     by_cases hc:0<k∧(ini (cl s.I K (k - 1))=true∨cl s.I K (k - 1)=22)
     ·rw[if_pos hc];exact⟨by unfold S0;omega,by omega⟩
     ·rw[if_neg hc,ah]
      by_cases hk0:k=0
      ·rw[if_pos hk0];exact⟨by unfold S0;omega,by omega⟩
      ·rw[if_neg hk0];exact h1 (k - 1) (by omega)
    refine⟨h0.put k hv.1,fun j hj=>?_⟩
    rcases Nat.lt_or_eq_of_le (Nat.le_of_lt_succ hj)with hj2 | hj2
    ·rcases cl_put s.I (marksTo K s k C) k j _ with e | e
     ·rw[e];exact hv
     ·rw[e];exact h1 j hj2
    ·subst hj2
     rw[cl_put_same _ (by rw[marks_len];exact hw j (by omega))];exact hv
   ·rw[if_neg h8]
    refine⟨h0,fun j hj=>?_⟩
    rcases Nat.lt_or_eq_of_le (Nat.le_of_lt_succ hj)with hj2 | hj2
    ·exact h1 j hj2
    ·subst hj2;exact⟨h0 j (by omega),h8⟩
theorem nums_S {P:Int→Prop}{I:List Nat}{al:Bool}{letter v:Int}(hv:P v){q:Int × List Int}(h:Among P I q.2 I.length):∀k,Among P I (numsTo I al letter v k q).2 I.length
 | 0=>h
 | k+1=>by
   have ih:=nums_S (al:=al) (letter:=letter) hv h k;rw[numsTo,numStep];split
   ·exact ih
   ·split
    ·exact ih.put k hv
    ·exact ih
theorem nums_len (I:List Nat)(al:Bool)(letter v:Int)(q:Int × List Int):∀k,(numsTo I al letter v k q).2.length=q.2.length
 | 0=>rfl
 | k+1=>by
   have ih:=nums_len I al letter v q k;rw[numsTo,numStep];split
   ·exact ih
   ·split
    ·rw[cl_put_len];exact ih
    ·exact ih
theorem nums_al {I:List Nat}{letter v:Int}(hv:v≠2){q:Int × List Int}(h:Among (·≠2) I q.2 I.length):∀k,k≤I.length→numsTo I true letter v k q=numsTo I false letter v k q
 | 0,_=>rfl
 | k+1,hk=>by
   have ih:=nums_al (letter:=letter) hv h k (by omega);have h2:=nums_S (P:=(·≠2)) (al:=false) (letter:=letter) hv h k k (by omega);rw[numsTo,numsTo,ih];unfold numStep;simp only[true_and,Bool.false_eq_true,false_and,or_false];by_cases h0:cl I (numsTo I false letter v k q).2 k=0∨cl I (numsTo I false letter v k q).2 k=1
   ·rw[if_pos (by rcases h0 with h0 | h0;exact .inl h0;exact .inr (.inl h0)),if_pos h0]
   ·rw[if_neg (fun x=>by rcases x with x | x | x;exact h0 (.inl x);exact h0 (.inr x);exact h2 x),if_neg h0]
theorem al_len (I:List Nat)(C:List Int):∀k,(alTo I k C).length=C.length
 | 0=>rfl
 | k+1=>by
   rw[alTo,alStep];split
   ·rw[cl_put_len];exact al_len I C k
   ·exact al_len I C k
theorem al_S {I:List Nat}{C:List Int}(hw:within I C)(h:Among S1 I C I.length):∀k,k≤I.length→Among S1 I (alTo I k C) I.length∧Among S2 I (alTo I k C) k
 | 0,_=>⟨h,fun j hj=>by omega⟩
 | k+1,hk=>by
   obtain⟨h0,h1⟩:=al_S hw h k (by omega);have hv:S2 1:=⟨⟨by unfold S0;omega,by omega⟩,by omega⟩;rw[alTo,alStep];by_cases h2:cl I (alTo I k C) k=2
   ·rw[if_pos h2]
    refine⟨h0.put k hv.1,fun j hj=>?_⟩
    rcases Nat.lt_or_eq_of_le (Nat.le_of_lt_succ hj)with hj2 | hj2
    ·rcases cl_put I (alTo I k C) k j 1 with e | e
     ·rw[e];exact hv
     ·rw[e];exact h1 j hj2
    ·subst hj2;rw[cl_put_same _ (by rw[al_len];exact hw j (by omega))];exact hv
   ·rw[if_neg h2]
    refine⟨h0,fun j hj=>?_⟩
    rcases Nat.lt_or_eq_of_le (Nat.le_of_lt_succ hj)with hj2 | hj2
    ·exact h1 j hj2
    ·subst hj2;exact⟨h0 j (by omega),h2⟩
theorem sep_S {s:Sq}{C:List Int}(h:Among S2 s.I C s.I.length):∀k,Among S2 s.I (sepTo s k C) s.I.length
 | 0=>h
 | k+1=>by
   have ih:=sep_S h k;rw[sepTo,sepStep];split
   ·rename_i hc
    refine ih.put k ?_
    rcases hc.2 with x | x
    ·rw[x.1];exact⟨⟨by unfold S0;omega,by omega⟩,by omega⟩
    ·rw[x.1];exact⟨⟨by unfold S0;omega,by omega⟩,by omega⟩
   ·exact ih
theorem sep_len (s:Sq)(C:List Int):∀k,(sepTo s k C).length=C.length
 | 0=>rfl
 | k+1=>by
   rw[sepTo,sepStep];split
   ·rw[cl_put_len];exact sep_len s C k
   ·exact sep_len s C k
theorem fill_S {P:Int→Prop}{I:List Nat}{C:List Int}{n:Nat}(h:Among P I C n)(a:Nat){v:Int}(hv:P v):∀d,Among P I (fillTo I a v d C) n
 | 0=>h
 | d+1=>(fill_S h a hv d).put _ hv
theorem fill_len (I:List Nat)(a:Nat)(v:Int)(C:List Int):∀d,(fillTo I a v d C).length=C.length
 | 0=>rfl
 | d+1=>by rw[fillTo,cl_put_len];exact fill_len I a v C d
theorem scanTo_keeps {Q:List Int→Prop}{I:List Nat}{fit:Int→Bool}{act:Nat→Nat→List Int→List Int}(ha:∀a b C,Q C→Q (act a b C)){C:List Int}(h:Q C):∀k,Q (scanTo I fit act k (0,C)).2
 | 0=>h
 | k+1=>by
   have ih:=scanTo_keeps (fit:=fit) (I:=I) ha h k;rw[scanTo,scanStep];split
   ·exact ih
   ·dsimp only
    split
    ·exact ha _ _ _ ih
    ·exact ih
theorem scan_keeps {Q:List Int→Prop}{I:List Nat}{fit:Int→Bool}{act:Nat→Nat→List Int→List Int}(ha:∀a b C,Q C→Q (act a b C)){C:List Int}(h:Q C):Q (scan I fit act C):=by
 have:=scanTo_keeps (fit:=fit) (I:=I) ha h I.length;unfold scan scanEnd;split
 ·exact ha _ _ _ this
 ·exact this
theorem et_S {s:Sq}{C:List Int}(h:Among S2 s.I C s.I.length):Among S2 s.I (scan s.I isET (etAct s) C) s.I.length:=by
 refine scan_keeps (Q:=fun C=>Among S2 s.I C s.I.length) ?_ h;intro a b C hC;unfold etAct;split
 ·exact fill_S hC a ⟨⟨by unfold S0;omega,by omega⟩,by omega⟩ _
 ·exact hC
theorem et_len (s:Sq)(C:List Int):(scan s.I isET (etAct s) C).length=C.length:=by
 refine scan_keeps (Q:=fun D=>D.length=C.length) ?_ rfl;intro a b D hD;unfold etAct;split
 ·rw[fill_len];exact hD
 ·exact hD
theorem loose_len (I:List Nat)(C:List Int):∀k,(looseTo I k C).length=C.length
 | 0=>rfl
 | k+1=>by
   rw[looseTo,looseStep];split
   ·rw[cl_put_len];exact loose_len I C k
   ·exact loose_len I C k
theorem loose_S {I:List Nat}{C:List Int}(hw:within I C)(h:Among S2 I C I.length):∀k,k≤I.length→Among S2 I (looseTo I k C) I.length∧Among S3 I (looseTo I k C) k
 | 0,_=>⟨h,fun j hj=>by omega⟩
 | k+1,hk=>by
   obtain⟨h0,h1⟩:=loose_S hw h k (by omega);have hv:S3 13:=⟨⟨⟨by unfold S0;omega,by omega⟩,by omega⟩,by omega,by omega,by omega⟩;rw[looseTo,looseStep];by_cases h2:cl I (looseTo I k C) k=4∨cl I (looseTo I k C) k=5∨cl I (looseTo I k C) k=7
   ·rw[if_pos h2]
    refine⟨h0.put k hv.1,fun j hj=>?_⟩
    rcases Nat.lt_or_eq_of_le (Nat.le_of_lt_succ hj)with hj2 | hj2
    ·rcases cl_put I (looseTo I k C) k j 13 with e | e
     ·rw[e];exact hv
     ·rw[e];exact h1 j hj2
    ·subst hj2;rw[cl_put_same _ (by rw[loose_len];exact hw j (by omega))];exact hv
   ·rw[if_neg h2]
    refine⟨h0,fun j hj=>?_⟩
    rcases Nat.lt_or_eq_of_le (Nat.le_of_lt_succ hj)with hj2 | hj2
    ·exact h1 j hj2
    ·subst hj2;exact⟨h0 j (by omega),by omega,by omega,by omega⟩
theorem weak_S {K:List Int}{s:Sq}{C:List Int}(hb:s.bef=0∨s.bef=1)(hw:within s.I C)(h:Among S0 s.I C s.I.length):Among S3 s.I (weak K s C) s.I.length∧(weak K s C).length=C.length:=by
 have h1:=(marks_S (K:=K) hb hw h s.I.length (Nat.le_refl _)).2;have l1:=marks_len K s C s.I.length;have h2:=nums_S (P:=S1) (al:=true) (letter:=2) (v:=6) ⟨by unfold S0;omega,by omega⟩ (q:=(s.bef,marksTo K s s.I.length C)) h1 s.I.length;have l2:=nums_len s.I true 2 6 (s.bef,marksTo K s s.I.length C) s.I.length;have h3:=(al_S (hw.of (by rw[l2];exact l1)) h2 s.I.length (Nat.le_refl _)).2;have l3:=al_len s.I (numsTo s.I true 2 6 s.I.length (s.bef,marksTo K s s.I.length C)).2 s.I.length;have h4:=sep_S h3 s.I.length;have l4:=sep_len s (alTo s.I s.I.length (numsTo s.I true 2 6 s.I.length (s.bef,marksTo K s s.I.length C)).2) s.I.length;have h5:=et_S h4;have l5:=et_len s (sepTo s s.I.length (alTo s.I s.I.length (numsTo s.I true 2 6 s.I.length (s.bef,marksTo K s s.I.length C)).2));have h6:=(loose_S (hw.of (by rw[l5,l4,l3,l2];exact l1)) h5 s.I.length (Nat.le_refl _)).2;refine⟨nums_S (P:=S3) ⟨⟨⟨by unfold S0;omega,by omega⟩,by omega⟩,by omega,by omega,by omega⟩ h6 _,?_⟩;unfold weak;rw[nums_len,loose_len,l5,l4,l3,l2];exact l1
end Go.Proofs.YtnakejhohdbfdacGreatDoor.Lev
namespace Go.Proofs.YtnakejhohdbfdacGreatDoor.Lev
def F4 (c:Int):Prop:=c=0∨c=1∨c=3∨c=6
def isNd (c:Int):Bool:=c == 10 || c == 11 || c == 12 || c == 13 || c == 19 || c == 20 || c == 21 || c == 22
theorem S3_01 {v:Int}(h:v=0∨v=1):S3 v:=⟨⟨⟨by unfold S0;omega,by omega⟩,by omega⟩,by omega,by omega,by omega⟩
theorem side_cases (c:Int):side c=0∨side c=1∨side c=-1:=by
 unfold side;split
 ·exact .inl rfl
 ·split
  ·exact .inr (.inl rfl)
  ·exact .inr (.inr rfl)
theorem side_neg {c:Int}(h:S3 c):side c<0 ↔ isNd c=true:=by
 obtain⟨⟨⟨h0,h8⟩,h2⟩,h4,h5,h7⟩:=h;unfold S0 at h0
 rcases h0 with h | h | h | h | h | h | h | h | h | h | h | h | h | h | h | h | h <;> subst h <;> simp[side,isNd]at *
theorem nd_ne {c:Int}(h:S3 c):isNd c=isNe c:=by
 have:=side_neg h;unfold isNe;cases hd:isNd c
 ·rw[hd]at this;exact(decide_eq_false (by rw[this];exact Bool.false_ne_true)).symm
 ·rw[hd]at this;exact(decide_eq_true (this.2 rfl)).symm
theorem F4_of {c:Int}(h:S3 c)(hn:isNe c=false):F4 c:=by
 obtain⟨⟨⟨h0,h8⟩,h2⟩,h4,h5,h7⟩:=h;unfold S0 at h0;unfold F4
 rcases h0 with h | h | h | h | h | h | h | h | h | h | h | h | h | h | h | h | h <;> subst h <;> simp[isNe,side]at *
theorem side_F4 {c:Int}(h:F4 c):side c=0∨side c=1:=by
 rcases h with h | h | h | h <;> subst h <;> simp[side]
theorem side_01 {c:Int}(h:c=0∨c=1):side c=c:=by rcases h with h | h <;> subst h <;> rfl
theorem bec_S {P:Int→Prop}{K:List Int}{I:List Nat}{v:Int}(hv:P v):∀f j (C:List Int),Among P I C I.length→Among P I (becTo K I v f j C) I.length
 | 0,_,_,h=>h
 | f+1,j,C,h=>by
   rw[becTo];split
   ·exact bec_S hv f (j+1) _ (h.put j hv)
   ·exact h
theorem become_S {P:Int→Prop}{K:List Int}{I:List Nat}{v:Int}(hv:P v)(k:Nat)(C:List Int)(h:Among P I C I.length):Among P I (become K I k v C) I.length:=bec_S hv _ _ _ (h.put k hv)
theorem bec_len (K:List Int)(I:List Nat)(v:Int):∀f j (C:List Int),(becTo K I v f j C).length=C.length
 | 0,_,_=>rfl
 | f+1,j,C=>by
   rw[becTo];split
   ·rw[bec_len K I v f (j+1)];exact cl_put_len I C j v
   ·rfl
theorem become_len (K:List Int)(I:List Nat)(k:Nat)(v:Int)(C:List Int):(become K I k v C).length=C.length:=by rw[become,bec_len];exact cl_put_len I C k v
theorem ahead_01 {s:Sq}(hb:s.bef=0∨s.bef=1)(C:List Int):∀k,aheadTo s C k=0∨aheadTo s C k=1
 | 0=>by rw[aheadTo,side_01 hb];exact hb
 | k+1=>by
   rw[aheadTo];split
   ·rename_i h
    rcases side_cases (cl s.I C k)with e | e | e
    ·exact .inl e
    ·exact .inr e
    ·omega
   ·exact ahead_01 hb C k
theorem br_S {K:List Int}{s:Sq}(hb:s.bef=0∨s.bef=1)(ho:s.own=0∨s.own=1)(ps:List (Nat × Nat)){C:List Int}(h:Among S3 s.I C s.I.length):∀i,Among S3 s.I (brTo K s ps i C) s.I.length
 | 0=>h
 | i+1=>by
   have ih:=br_S (K:=K) hb ho ps h i;rw[brTo,brStep];split
   ·exact become_S (S3_01 ho) _ _ (become_S (S3_01 ho) _ _ ih)
   ·split
    ·exact become_S (S3_01 (ahead_01 hb _ _)) _ _ (become_S (S3_01 (ahead_01 hb _ _)) _ _ ih)
    ·exact ih
theorem br_len (K:List Int)(s:Sq)(ps:List (Nat × Nat))(C:List Int):∀i,(brTo K s ps i C).length=C.length
 | 0=>rfl
 | i+1=>by
   have ih:=br_len K s ps C i;rw[brTo,brStep];split
   ·rw[become_len,become_len];exact ih
   ·split
    ·rw[become_len,become_len];exact ih
    ·exact ih
theorem fill_in {I:List Nat}(hI:inj I)(a:Nat)(v:Int){C:List Int}(hw:within I C):∀d,a+d≤I.length→∀j,a≤j→j<a+d→cl I (fillTo I a v d C) j=v
 | 0,_,j,h1,h2=>by omega
 | d+1,hd,j,h1,h2=>by
   rw[fillTo]
   rcases Nat.lt_or_eq_of_le (show j≤a+d by omega)with h | h
   ·rw[cl_put_other hI _ v (show a+d<I.length by omega) (show j<I.length by omega) (by omega)]
    exact fill_in hI a v hw d (by omega) j h1 h
   ·subst h
    exact cl_put_same v (by rw[fill_len];exact hw _ (by omega))
theorem ne_len (s:Sq)(C:List Int):(neutral s C).length=C.length:=by
 refine scan_keeps (Q:=fun D=>D.length=C.length) ?_ rfl;intro a b D hD;rw[neAct,fill_len];exact hD
structure NeInv (s:Sq)(C0:List Int)(k:Nat)(q:Nat × List Int):Prop where
 le:q.1≤k
 done:∀j,j<q.1→F4 (cl s.I q.2 j)
 pend:∀j,q.1≤j→j<k→isNe (cl s.I q.2 j)=true
 all:Among S3 s.I q.2 s.I.length
 len:q.2.length=C0.length
theorem ne_act {s:Sq}{C0:List Int}(hI:inj s.I)(hw:within s.I C0)(ho:s.own=0∨s.own=1)(hb:s.bef=0∨s.bef=1){k:Nat}(hk:k≤s.I.length){q:Nat × List Int}(h:NeInv s C0 k q)(hq:q.1<k) :
 (∀j,j<k→F4 (cl s.I (neAct s q.1 k q.2) j))∧(∀j,k≤j→j<s.I.length→cl s.I (neAct s q.1 k q.2) j=cl s.I q.2 j)∧Among S3 s.I (neAct s q.1 k q.2) s.I.length∧(neAct s q.1 k q.2).length=C0.length:=by
 have hv:(if side (ah s q.2 q.1)=side (att s q.2 k)then side (ah s q.2 q.1)else s.own)=0∨(if side (ah s q.2 q.1)=side (att s q.2 k)then side (ah s q.2 q.1)else s.own)=1:=by
  split
  ·rw[ah]
   by_cases h0:q.1=0
   ·rw[if_pos h0,side_01 hb];exact hb
   ·rw[if_neg h0];exact side_F4 (h.done _ (by omega))
  ·exact ho
 unfold neAct;generalize (if side (ah s q.2 q.1)=side (att s q.2 k)then side (ah s q.2 q.1)else s.own)=v at hv;refine⟨fun j hj=>?_,fun j h1 h2=>?_,fill_S h.all _ (S3_01 hv) _,by rw[fill_len];exact h.len⟩
 ·rcases Nat.lt_or_ge j q.1 with h1 | h1
  ·rw[cl_fill_other hI q.1 v q.2 (show j<s.I.length by omega) _ (by omega) (.inl h1)];exact h.done j h1
  ·rw[fill_in hI q.1 v (hw.of h.len) (k - q.1) (by omega) j h1 (by omega)]
   rcases hv with e | e <;> rw[e]
   ·exact .inl rfl
   ·exact .inr (.inl rfl)
 ·exact cl_fill_other hI q.1 v q.2 h2 _ (by omega) (.inr (by omega))
theorem ne_inv {s:Sq}{C:List Int}(hI:inj s.I)(hw:within s.I C)(ho:s.own=0∨s.own=1)(hb:s.bef=0∨s.bef=1)(h:Among S3 s.I C s.I.length):∀k,k≤s.I.length→NeInv s C k (scanTo s.I isNe (neAct s) k (0,C))
 | 0,_=>⟨Nat.le_refl _,fun j hj=>by exact absurd hj (Nat.not_lt_zero _),fun j _ hj=>by omega,h,rfl⟩
 | k+1,hk=>by
   have ih:=ne_inv hI hw ho hb h k (by omega);rw[scanTo,scanStep];generalize scanTo s.I isNe (neAct s) k (0,C)=q at *;by_cases hf:isNe (cl s.I q.2 k)=true
   ·rw[if_pos hf]
    refine⟨by have:=ih.le;omega,ih.done,fun j h1 h2=>?_,ih.all,ih.len⟩
    rcases Nat.lt_or_eq_of_le (Nat.le_of_lt_succ h2)with h3 | h3
    ·exact ih.pend j h1 h3
    ·subst h3;exact hf
   ·rw[if_neg hf]
    have hk4:F4 (cl s.I q.2 k):=F4_of (ih.all k (by omega)) (by simpa using hf);by_cases hq:q.1<k
    ·obtain⟨a1,a2,a3,a4⟩:=ne_act hI hw ho hb (by omega) ih hq
     rw[if_pos hq];refine⟨Nat.le_refl _,fun j hj=>?_,fun j h1 h2=>by dsimp only at h1;omega,a3,a4⟩;dsimp only at hj ⊢
     rcases Nat.lt_or_eq_of_le (Nat.le_of_lt_succ hj)with h3 | h3
     ·exact a1 j h3
     ·subst h3;rw[a2 j (Nat.le_refl _) (by omega)];exact hk4
    ·rw[if_neg hq]
     refine⟨Nat.le_refl _,fun j hj=>?_,fun j h1 h2=>by dsimp only at h1;omega,ih.all,ih.len⟩;dsimp only at hj ⊢
     rcases Nat.lt_or_eq_of_le (Nat.le_of_lt_succ hj)with h3 | h3
     ·exact ih.done j (by omega)
     ·subst h3;exact hk4
theorem ne_F4 {s:Sq}{C:List Int}(hI:inj s.I)(hw:within s.I C)(ho:s.own=0∨s.own=1)(hb:s.bef=0∨s.bef=1)(h:Among S3 s.I C s.I.length):Among F4 s.I (neutral s C) s.I.length:=by
 have hi:=ne_inv hI hw ho hb h s.I.length (Nat.le_refl _);unfold neutral scan scanEnd;generalize scanTo s.I isNe (neAct s) s.I.length (0,C)=q at *;by_cases hq:q.1<s.I.length
 ·rw[if_pos hq];exact(ne_act hI hw ho hb (Nat.le_refl _) hi hq).1
 ·rw[if_neg hq];exact fun j hj=>hi.done j (by have:=hi.le;omega)
theorem rules_F4 {R K:List Int}{s:Sq}{C:List Int}(hI:inj s.I)(hw:within s.I C)(ho:s.own=0∨s.own=1)(hb:s.bef=0∨s.bef=1)(h:Among S0 s.I C s.I.length) :
 Among F4 s.I (rules R K s C) s.I.length∧(rules R K s C).length=C.length:=by
 obtain⟨h1,l1⟩:=weak_S (K:=K) hb hw h;have h2:=br_S (K:=K) hb ho (pairsTo R s.I (weak K s C) s.I.length).out h1 (pairsTo R s.I (weak K s C) s.I.length).out.length;have l2:=br_len K s (pairsTo R s.I (weak K s C) s.I.length).out (weak K s C) (pairsTo R s.I (weak K s C) s.I.length).out.length;exact⟨ne_F4 hI (hw.of (l2.trans l1)) ho hb h2,by rw[rules,ne_len,brackets,l2,l1]⟩
theorem up_grow (l c:Int)(hc:F4 c):up l c=if l % 2=0∧(c=3∨c=6)then 2 else if c≠way l then 1 else 0:=by
 unfold up way
 rcases hc with h | h | h | h <;> subst h <;> (by_cases h1:l % 2=1 <;> simp[h1] <;> omega)
end Go.Proofs.YtnakejhohdbfdacGreatDoor.Lev
namespace Go.Proofs.YtnakejhohdbfdacGreatDoor.Lev
def ng (K:List Int)(k:Nat):List Nat:=(List.range k).filter (fun i=>!gone (nth K i))
theorem ng_succ (K:List Int)(k:Nat):ng K (k+1)=if gone (nth K k)then ng K k else ng K k++[k]:=by
 unfold ng;rw[List.range_succ,List.filter_append];cases h:gone (nth K k) <;> simp[h]
theorem ng_lt (K:List Int)(k x:Nat)(h:x∈ng K k):x<k∧gone (nth K x)=false:=by
 unfold ng at h;rw[List.mem_filter,List.mem_range]at h;exact⟨h.1,by simpa using h.2⟩
theorem mem_ng (K:List Int)(k x:Nat)(h:x<k)(hg:gone (nth K x)=false):x∈ng K k:=by
 unfold ng;rw[List.mem_filter,List.mem_range];exact⟨h,by simp[hg]⟩
theorem ng_sorted (K:List Int)(k:Nat):(ng K k).Pairwise (· < ·):=List.Pairwise.filter _ List.pairwise_lt_range
structure RunInv (K L:List Int)(k:Nat)(rs:List (List Nat)):Prop where
 flat:rs.flatten=ng K k
 ne:∀r∈rs,r≠[]
 lev:∀r∈rs,∀x∈r,nth L x=nth L (firstN r)
theorem last_get (init:List (List Nat))(r:List Nat):((init++[r])[(init++[r]).length - 1]?).getD []=r:=by simp
theorem last_set (init:List (List Nat))(r x:List Nat):(init++[r]).set ((init++[r]).length - 1) x=init++[x]:=by
 simp
theorem lastN_mem {r:List Nat}(h:r≠[]):lastN r∈r:=by
 have hl:0<r.length:=List.length_pos_iff.2 h;unfold lastN;rw[List.getElem?_eq_getElem (by omega)];exact List.getElem_mem _
theorem firstN_mem {r:List Nat}(h:r≠[]):firstN r∈r:=by
 have hl:0<r.length:=List.length_pos_iff.2 h;unfold firstN;rw[List.getElem?_eq_getElem hl];exact List.getElem_mem _
theorem firstN_append {r:List Nat}(h:r≠[])(x:List Nat):firstN (r++x)=firstN r:=by
 have hl:0<r.length:=List.length_pos_iff.2 h;unfold firstN;rw[List.getElem?_append_left hl]
theorem run_inv (K L:List Int):∀k,RunInv K L k (runsTo K L k)
 | 0=>⟨rfl,fun r h=>(by cases h),fun r h=>(by cases h)⟩
 | k+1=>by
   have ih:=run_inv K L k;rw[runsTo,runStep];generalize runsTo K L k=rs at *;cases hg:gone (nth K k)
   ·rw[if_neg Bool.false_ne_true]
    by_cases he:rs=[]
    ·subst he
     rw[if_pos rfl];have hf:ng K k=[]:=ih.flat.symm;exact⟨by rw[ng_succ,hg,if_neg Bool.false_ne_true,hf];rfl,fun r h=>by rw[List.mem_singleton.1 h];simp,fun r h x hx=>by rw[List.mem_singleton.1 h]at hx ⊢;rw[List.mem_singleton.1 hx];rfl⟩
    ·rw[if_neg he]
     obtain⟨init,r,hr⟩:∃init r,rs=init++[r]:=⟨rs.dropLast,rs.getLast he,(List.dropLast_concat_getLast he).symm⟩;subst hr;rw[last_get,last_set];have hrm:r∈init++[r]:=by simp
     by_cases hl:nth L (lastN r)=nth L k
     ·rw[if_pos hl]
      refine⟨?_,fun x hx=>?_,fun x hx y hy=>?_⟩
      ·rw[ng_succ,hg,if_neg Bool.false_ne_true,←ih.flat];simp
      ·rcases List.mem_append.1 hx with h | h
       ·exact ih.ne x (List.mem_append_left _ h)
       ·rw[List.mem_singleton.1 h];simp
      ·rcases List.mem_append.1 hx with h | h
       ·exact ih.lev x (List.mem_append_left _ h) y hy
       ·rw[List.mem_singleton.1 h]at hy ⊢
        rw[firstN_append (ih.ne r hrm)]
        rcases List.mem_append.1 hy with h2 | h2
        ·exact ih.lev r hrm y h2
        ·rw[List.mem_singleton.1 h2,←hl]
         exact ih.lev r hrm _ (lastN_mem (ih.ne r hrm))
     ·rw[if_neg hl]
      refine⟨?_,fun x hx=>?_,fun x hx y hy=>?_⟩
      ·rw[ng_succ,hg,if_neg Bool.false_ne_true,←ih.flat];simp
      ·rcases List.mem_append.1 hx with h | h
       ·exact ih.ne x h
       ·rw[List.mem_singleton.1 h];simp
      ·rcases List.mem_append.1 hx with h | h
       ·exact ih.lev x h y hy
       ·rw[List.mem_singleton.1 h]at hy ⊢;rw[List.mem_singleton.1 hy];rfl
   ·rw[if_pos rfl]
    exact⟨by rw[ng_succ,hg,if_pos rfl];exact ih.flat,ih.ne,ih.lev⟩
structure RunsOk (K:List Int)(rs:List (List Nat)):Prop where
 sorted:rs.flatten.Pairwise (· < ·)
 ne:∀i,i<rs.length→run rs i≠[]
 lt:∀x∈rs.flatten,x<K.length∧gone (nth K x)=false
theorem run_get {rs:List (List Nat)}{i:Nat}(h:i<rs.length):run rs i=rs[i]:=by simp[run,List.getElem?_eq_getElem h]
theorem run_mem {rs:List (List Nat)}{i:Nat}(h:i<rs.length):run rs i∈rs:=by rw[run_get h];exact List.getElem_mem h
theorem runs_ok (K L:List Int):RunsOk K (runsTo K L K.length):=by
 have h:=run_inv K L K.length;refine⟨by rw[h.flat];exact ng_sorted K _,fun i hi=>h.ne _ (run_mem hi),fun x hx=>?_⟩;rw[h.flat]at hx;exact ng_lt K _ x hx
theorem RunsOk.before {K:List Int}{rs:List (List Nat)}(h:RunsOk K rs){i j:Nat}(hij:i<j)(hj:j<rs.length){x y:Nat}(hx:x∈run rs i)(hy:y∈run rs j):x<y:=by
 have hs:=h.sorted;rw[List.pairwise_flatten]at hs;have:=List.pairwise_iff_getElem.1 hs.2 i j (by omega) hj hij;rw[run_get (by omega)]at hx;rw[run_get hj]at hy;exact this x hx y hy
theorem RunsOk.inside {K:List Int}{rs:List (List Nat)}(h:RunsOk K rs){i:Nat}(hi:i<rs.length):(run rs i).Pairwise (· < ·):=by
 have hs:=h.sorted;rw[List.pairwise_flatten]at hs;rw[run_get hi];exact hs.1 _ (List.getElem_mem hi)
theorem RunsOk.mem {K:List Int}{rs:List (List Nat)}(h:RunsOk K rs){i x:Nat}(hi:i<rs.length)(hx:x∈run rs i):x<K.length∧gone (nth K x)=false :=
 h.lt x (List.mem_flatten.2 ⟨_,run_mem hi,hx⟩)
theorem RunsOk.later {K:List Int}{rs:List (List Nat)}(h:RunsOk K rs){i j:Nat}(hi:i<rs.length)(hj:j<rs.length)(hf:follows K (run rs i) (run rs j)=true):i<j:=by
 unfold follows at hf;rw[Bool.and_eq_true,beq_iff_eq]at hf;have hm:=mateL_gt _ _ _ _ hf.2;have hne:firstN (run rs j)≠lastN (run rs i):=by
  intro e;have:=hf.2;rw[e,mate,mateL_step K _ _ (h.mem hi (lastN_mem (h.ne i hi))).1,show dn (nth K (lastN (run rs i)))=1 by rw[dn,hf.1];rfl,if_neg (by omega)]at this;have:=mateL_gt _ _ _ _ this;omega
 rcases Nat.lt_trichotomy i j with h1 | h1 | h1
 ·exact h1
 ·subst h1
  -- the first of a run is no greater than its last
  exfalso;have hs:=h.inside hi;have hl:0<(run rs i).length:=List.length_pos_iff.2 (h.ne i hi);have:firstN (run rs i)≤lastN (run rs i):=by
   unfold firstN lastN;rw[List.getElem?_eq_getElem hl,List.getElem?_eq_getElem (by omega)]
   rcases Nat.eq_or_lt_of_le (Nat.zero_le ((run rs i).length - 1))with e | e
   ·simp[←e]
   ·exact Nat.le_of_lt (List.pairwise_iff_getElem.1 hs 0 ((run rs i).length - 1) hl (by omega) e)
  omega
 ·exfalso
  have:=h.before h1 hi (firstN_mem (h.ne j hj)) (lastN_mem (h.ne i hi));omega
theorem RunsOk.one_next {K:List Int}{rs:List (List Nat)}(h:RunsOk K rs){i j j':Nat}(hj:j<rs.length)(hj':j'<rs.length)(hf:follows K (run rs i) (run rs j)=true)(hf':follows K (run rs i) (run rs j')=true):j=j':=by
 unfold follows at hf hf';rw[Bool.and_eq_true,beq_iff_eq]at hf hf';have e:firstN (run rs j)=firstN (run rs j'):=by have:=hf.2.symm.trans hf'.2;exact Option.some.inj this
 rcases Nat.lt_trichotomy j j' with h1 | h1 | h1
 ·have:=h.before h1 hj' (firstN_mem (h.ne j hj)) (firstN_mem (h.ne j' hj'));omega
 ·exact h1
 ·have:=h.before h1 hj (firstN_mem (h.ne j' hj')) (firstN_mem (h.ne j hj));omega
theorem nextTo_some {K:List Int}{rs:List (List Nat)}{a:List Nat}:∀m j,nextTo K rs a m=some j→j<m∧follows K a (run rs j)=true
 | 0,j,h=>by cases h
 | m+1,j,h=>by
   rw[nextTo]at h;by_cases h1:follows K a (run rs m)=true
   ·rw[if_pos h1]at h;cases h;exact⟨Nat.lt_succ_self _,h1⟩
   ·rw[if_neg h1]at h;have:=nextTo_some m j h;exact⟨by omega,this.2⟩
theorem nextTo_none {K:List Int}{rs:List (List Nat)}{a:List Nat}:∀m,nextTo K rs a m=none→∀j,j<m→follows K a (run rs j)=false
 | 0,_,j,h=>by omega
 | m+1,h,j,hj=>by
   rw[nextTo]at h;by_cases h1:follows K a (run rs m)=true
   ·rw[if_pos h1]at h;cases h
   ·rw[if_neg h1]at h
    rcases Nat.lt_or_eq_of_le (Nat.le_of_lt_succ hj)with h2 | h2
    ·exact nextTo_none m h j h2
    ·subst h2;simpa using h1
theorem RunsOk.next_of {K:List Int}{rs:List (List Nat)}(h:RunsOk K rs){i j:Nat}(hj:j<rs.length)(hf:follows K (run rs i) (run rs j)=true):nextTo K rs (run rs i) rs.length=some j:=by
 cases hn:nextTo K rs (run rs i) rs.length with
 | none=>have:=nextTo_none _ hn j hj;rw[hf]at this;cases this
 | some j'=>obtain⟨a,b⟩:=nextTo_some _ _ hn;rw[h.one_next hj a hf b]
theorem chain_mem {K:List Int}{rs:List (List Nat)}(h:RunsOk K rs):∀f i,i<rs.length→∀x∈chain K rs f i,∃j,i≤j∧j<rs.length∧x∈run rs j
 | 0,_,_,x,hx=>by cases hx
 | f+1,i,hi,x,hx=>by
   rw[chain]at hx
   rcases List.mem_append.1 hx with h1 | h1
   ·exact⟨i,Nat.le_refl _,hi,h1⟩
   ·cases hn:nextTo K rs (run rs i) rs.length with
    | none=>rw[hn]at h1;cases h1
    | some j =>
      rw[hn]at h1;obtain⟨a,b⟩:=nextTo_some _ _ hn;obtain⟨j',h2,h3,h4⟩:=chain_mem h f j a x h1;exact⟨j',by have:=h.later hi a b;omega,h3,h4⟩
theorem chain_sorted {K:List Int}{rs:List (List Nat)}(h:RunsOk K rs):∀f i,i<rs.length→(chain K rs f i).Pairwise (· < ·)
 | 0,_,_=>List.Pairwise.nil
 | f+1,i,hi=>by
   rw[chain,List.pairwise_append];refine⟨h.inside hi,?_,fun x hx y hy=>?_⟩
   ·cases hn:nextTo K rs (run rs i) rs.length with
    | none=>exact List.Pairwise.nil
    | some j=>exact chain_sorted h f j (nextTo_some _ _ hn).1
   ·cases hn:nextTo K rs (run rs i) rs.length with
    | none=>rw[hn]at hy;cases hy
    | some j =>
      rw[hn]at hy;obtain⟨a,b⟩:=nextTo_some _ _ hn;obtain⟨j',h2,h3,h4⟩:=chain_mem h f j a y hy;exact h.before (by have:=h.later hi a b;omega) h3 hx h4
theorem sorted_inj {I:List Nat}(h:I.Pairwise (· < ·)):inj I:=by
 intro j k hj hk e;rw[nix_of_get hj,nix_of_get hk]at e
 rcases Nat.lt_trichotomy j k with h1 | h1 | h1
 ·have:=List.pairwise_iff_getElem.1 h j k hj hk h1;omega
 ·exact h1
 ·have:=List.pairwise_iff_getElem.1 h k j hk hj h1;omega
end Go.Proofs.YtnakejhohdbfdacGreatDoor.Lev
namespace Go.Proofs.YtnakejhohdbfdacGreatDoor.Lev
theorem part_from (K:List Int)(i j:Nat):∀k,partAt K k i=some j→j<k∧(openAt K j)[0]?=some i
 | 0,h=>by cases h
 | k+1,h=>by
   rw[partAt]at h;by_cases h1:ini (nth K k)=false∧nth K k=22∧(openAt K k)[0]?=some i
   ·rw[if_pos h1]at h;cases h;exact⟨Nat.lt_succ_self _,h1.2.2⟩
   ·rw[if_neg h1]at h;have:=part_from K i j k h;exact⟨by omega,this.2⟩
theorem mate_inj (K:List Int)(i i' p:Nat)(hi:i<K.length)(hi':i'<K.length)(hn:ini (nth K i)=true)(hn':ini (nth K i')=true)(h:mate K i=some p)(h':mate K i'=some p):i=i':=by
 have a:=part_mate K i hi;have b:=part_mate K i' hi';rw[hn,if_pos rfl,h]at a;rw[hn',if_pos rfl,h']at b;have a2:=(part_from K i p _ a).2;have b2:=(part_from K i' p _ b).2;exact Option.some.inj (a2.symm.trans b2)
theorem chain_fuel {K:List Int}{rs:List (List Nat)}(h:RunsOk K rs):∀f g i,i<rs.length→rs.length≤i+f→rs.length≤i+g→chain K rs f i=chain K rs g i
 | 0,g,i,hi,hf,hg=>by omega
 | f+1,0,i,hi,hf,hg=>by omega
 | f+1,g+1,i,hi,hf,hg=>by
   rw[chain,chain];cases hn:nextTo K rs (run rs i) rs.length with
   | none=>rfl
   | some j =>
     obtain⟨a,b⟩:=nextTo_some _ _ hn;have:=h.later hi a b;show run rs i++chain K rs f j=run rs i++chain K rs g j;rw[chain_fuel h f g j a (by omega) (by omega)]
def ch (K:List Int)(rs:List (List Nat))(i:Nat):List Nat:=chain K rs rs.length i
def rest (K:List Int)(rs:List (List Nat))(t:Nat):List Nat:=match nextTo K rs (run rs t) rs.length with | none=>[] | some j=>ch K rs j
theorem ch_eq {K:List Int}{rs:List (List Nat)}(h:RunsOk K rs){i:Nat}(hi:i<rs.length):ch K rs i=run rs i++rest K rs i:=by
 unfold ch rest;obtain⟨f,hf⟩:∃f,rs.length=f+1:=⟨rs.length - 1,by omega⟩
 conv=>lhs;rw[hf,chain]
 cases hn:nextTo K rs (run rs i) rs.length with
 | none=>rfl
 | some j =>
   obtain⟨a,b⟩:=nextTo_some _ _ hn;have:=h.later hi a b;show run rs i++chain K rs f j=run rs i++chain K rs rs.length j;rw[chain_fuel h f rs.length j a (by omega) (by omega)]
theorem freeTo_iff {K:List Int}{rs:List (List Nat)}{b:List Nat}:∀m,freeTo K rs b m=true ↔ ∀j,j<m→follows K (run rs j) b=false
 | 0=>by simp[freeTo]
 | m+1=>by
   rw[freeTo,Bool.and_eq_true,freeTo_iff m];constructor
   ·rintro ⟨h1,h2⟩ j hj
    rcases Nat.lt_or_eq_of_le (Nat.le_of_lt_succ hj)with h | h
    ·exact h1 j h
    ·subst h;simpa using h2
   ·intro h
    exact⟨fun j hj=>h j (by omega),by simpa using h m (Nat.lt_succ_self _)⟩
structure Dv where
 all:List (List Nat)
 aw:Nat→Option Nat
 tl:List Nat
def leads (K:List Int)(r:List Nat):Option Nat:=if ini (nth K (lastN r))then mate K (lastN r)else none
def dvAw (K:List Int)(r:List Nat)(a:Nat)(aw:Nat→Option Nat):Nat→Option Nat:=fun p=>if leads K r=some p then some a else aw p
def dvStep (K:List Int)(rs:List (List Nat))(k:Nat)(d:Dv):Dv :=
 match d.aw (firstN (run rs k))with
 | some a=>⟨d.all.set a ((d.all[a]?).getD []++run rs k),dvAw K (run rs k) a d.aw,d.tl.set a k⟩
 | none=>⟨d.all++[run rs k],dvAw K (run rs k) d.all.length d.aw,d.tl++[k]⟩
def dvTo (K:List Int)(rs:List (List Nat)):Nat→Dv
 | 0=>⟨[],fun _=>none,[]⟩
 | k+1=>dvStep K rs k (dvTo K rs k)
structure DvInv (K:List Int)(rs:List (List Nat))(k:Nat)(d:Dv):Prop where
 len:d.all.length=d.tl.length
 len2:d.all.length=(seqsTo K rs k).length
 sq:∀s t:Nat,d.tl[s]?=some t→∃x,d.all[s]?=some x∧(seqsTo K rs k)[s]?=some (x++rest K rs t)
 lt:∀s t:Nat,d.tl[s]?=some t→t<k∧∀j,nextTo K rs (run rs t) rs.length=some j→k≤j
 cov:∀t,t<k→(∃s:Nat,d.tl[s]?=some t)∨(∃j,nextTo K rs (run rs t) rs.length=some j∧j<k)
 awS:∀p s,d.aw p=some s→∃t,t<k∧leads K (run rs t)=some p
 awT:∀s t p:Nat,d.tl[s]?=some t→leads K (run rs t)=some p→d.aw p=some s
theorem leads_follows (K:List Int)(a b:List Nat):leads K a=some (firstN b) ↔ follows K a b=true:=by
 unfold leads follows;cases ini (nth K (lastN a)) <;> simp
theorem leads_inj {K:List Int}{rs:List (List Nat)}(h:RunsOk K rs){t t' p:Nat}(ht:t<rs.length)(ht':t'<rs.length)(e:leads K (run rs t)=some p)(e':leads K (run rs t')=some p):t=t':=by
 unfold leads at e e';cases hn:ini (nth K (lastN (run rs t)))
 ·rw[hn]at e;cases e
 cases hn':ini (nth K (lastN (run rs t')))
 ·rw[hn']at e';cases e'
 rw[hn,if_pos rfl]at e;rw[hn',if_pos rfl]at e';have m1:=lastN_mem (h.ne t ht);have m2:=lastN_mem (h.ne t' ht');have:=mate_inj K _ _ p (h.mem ht m1).1 (h.mem ht' m2).1 hn hn' e e'
 rcases Nat.lt_trichotomy t t' with h1 | h1 | h1
 ·have:=h.before h1 ht' m1 m2;omega
 ·exact h1
 ·have:=h.before h1 ht m2 m1;omega
theorem dv_inv {K:List Int}{rs:List (List Nat)}(h:RunsOk K rs):∀k,k≤rs.length→DvInv K rs k (dvTo K rs k)
 | 0,_=>⟨rfl,rfl,fun s t h=>by simp[dvTo]at h,fun s t h=>by simp[dvTo]at h,fun t h=>by omega,fun p s h=>by simp[dvTo]at h,fun s t p h=>by simp[dvTo]at h⟩
 | k+1,hk=>by
   have ih:=dv_inv h k (by omega);have hkl:k<rs.length:=by omega
   rw[dvTo,dvStep];generalize dvTo K rs k=d at *;have hnk:∀j,nextTo K rs (run rs k) rs.length=some j→k+1≤j:=fun j hj=>by
    obtain⟨a,b⟩:=nextTo_some _ _ hj;exact h.later hkl a b
   cases ha:d.aw (firstN (run rs k))with
   | some a =>
     obtain⟨t,ht,hl⟩:=ih.awS _ _ ha;have hf:=(leads_follows K _ _).1 hl;have hnx:=h.next_of hkl hf;have hta:d.tl[a]?=some t:=by
      rcases ih.cov t ht with⟨s,hs⟩ | ⟨j,hj1,hj2⟩
      ·have:=ih.awT s t _ hs hl;rw[ha]at this;cases this;exact hs
      ·rw[hnx]at hj1;cases hj1;omega
     have hal:a<d.tl.length:=(List.getElem?_eq_some_iff.1 hta).1;have hfree:freeTo K rs (run rs k) rs.length≠true:=fun e=>by
      have:=(freeTo_iff _).1 e t (by omega);rw[hf]at this;cases this
     have hsq:seqsTo K rs (k+1)=seqsTo K rs k:=by rw[seqsTo,if_neg hfree]
     obtain⟨x,hx1,hx2⟩:=ih.sq a t hta;have hrest:rest K rs t=run rs k++rest K rs k:=by rw[rest,hnx];exact ch_eq h hkl
     refine⟨by simp[ih.len],by rw[hsq];simpa using ih.len2,fun s t' hs=>?_,fun s t' hs=>?_,fun t' ht'=>?_,fun p s hp=>?_,fun s t' p hs hp=>?_⟩
     ·dsimp only at hs ⊢
      by_cases hsa:s=a
      ·subst hsa
       rw[List.getElem?_set_self hal]at hs;cases hs;refine⟨x++run rs k,by rw[List.getElem?_set_self (by rw[ih.len];exact hal),hx1];rfl,?_⟩;rw[hsq,hx2,hrest,List.append_assoc]
      ·rw[List.getElem?_set_ne (fun e=>hsa e.symm)]at hs
       obtain⟨y,hy1,hy2⟩:=ih.sq s t' hs;exact⟨y,by rw[List.getElem?_set_ne (fun e=>hsa e.symm)];exact hy1,by rw[hsq];exact hy2⟩
     ·dsimp only at hs
      by_cases hsa:s=a
      ·subst hsa
       rw[List.getElem?_set_self hal]at hs;cases hs;exact⟨Nat.lt_succ_self _,hnk⟩
      ·rw[List.getElem?_set_ne (fun e=>hsa e.symm)]at hs
       obtain⟨h1,h2⟩:=ih.lt s t' hs;refine⟨by omega,fun j hj=>?_⟩;have h3:=h2 j hj
       rcases Nat.lt_or_eq_of_le h3 with h4 | h4
       ·exact h4
       ·exfalso
        subst h4;have:=(leads_follows K _ _).2 (nextTo_some _ _ hj).2;have:=ih.awT s t' _ hs this;rw[ha]at this;cases this;exact hsa rfl
     ·dsimp only
      rcases Nat.lt_or_eq_of_le (Nat.le_of_lt_succ ht')with h1 | h1
      ·rcases ih.cov t' h1 with⟨s,hs⟩ | ⟨j,hj1,hj2⟩
       ·by_cases hsa:s=a
        ·subst hsa
         rw[hta]at hs;cases hs;exact .inr ⟨k,hnx,Nat.lt_succ_self _⟩
        ·exact .inl ⟨s,by rw[List.getElem?_set_ne (fun e=>hsa e.symm)];exact hs⟩
       ·exact .inr ⟨j,hj1,by omega⟩
      ·subst h1;exact .inl ⟨a,List.getElem?_set_self hal⟩
     ·dsimp only[dvAw]at hp
      by_cases hlk:leads K (run rs k)=some p
      ·exact⟨k,Nat.lt_succ_self _,hlk⟩
      ·rw[if_neg hlk]at hp;obtain⟨t',h1,h2⟩:=ih.awS p s hp;exact⟨t',by omega,h2⟩
     ·dsimp only[dvAw]at hs ⊢
      by_cases hsa:s=a
      ·subst hsa
       rw[List.getElem?_set_self hal]at hs;cases hs;rw[if_pos hp]
      ·rw[List.getElem?_set_ne (fun e=>hsa e.symm)]at hs
       rw[if_neg (fun e=>by
        have h1:=(ih.lt s t' hs).1
        have:=leads_inj h hkl (by omega) e hp
        omega)]
       exact ih.awT s t' p hs hp
   | none =>
     have hno:∀t,t<k→follows K (run rs t) (run rs k)=false:=by
      intro t ht;cases hf:follows K (run rs t) (run rs k)with
      | false=>rfl
      | true =>
        have hl:=(leads_follows K _ _).2 hf
        rcases ih.cov t ht with⟨s,hs⟩ | ⟨j,hj1,hj2⟩
        ·have:=ih.awT s t _ hs hl;rw[ha]at this;cases this
        ·have:=h.next_of hkl hf;rw[hj1]at this;cases this;omega
     have hfree:freeTo K rs (run rs k) rs.length=true:=(freeTo_iff _).2 (fun j hj=>by
      cases hf:follows K (run rs j) (run rs k)with
      | false=>rfl
      | true=>have:=h.later hj hkl hf;rw[hno j this]at hf;cases hf)
     have hsq:seqsTo K rs (k+1)=seqsTo K rs k++[ch K rs k]:=by rw[seqsTo,if_pos hfree];rfl
     have hlen:d.tl.length=(seqsTo K rs k).length:=by rw[←ih.len];exact ih.len2
     refine⟨by simp[ih.len],by rw[hsq];simpa using ih.len2,fun s t' hs=>?_,fun s t' hs=>?_,fun t' ht'=>?_,fun p s hp=>?_,fun s t' p hs hp=>?_⟩
     ·dsimp only at hs ⊢
      rcases Nat.lt_or_ge s d.tl.length with h1 | h1
      ·rw[List.getElem?_append_left h1]at hs
       obtain⟨y,hy1,hy2⟩:=ih.sq s t' hs;exact⟨y,by rw[List.getElem?_append_left (by rw[ih.len];exact h1)];exact hy1,by rw[hsq,List.getElem?_append_left (by omega)];exact hy2⟩
      ·rw[List.getElem?_append_right h1]at hs
       have hs0:s - d.tl.length=0:=by
        have:=(List.getElem?_eq_some_iff.1 hs).1;simp at this;omega
       rw[hs0]at hs;simp at hs;subst hs;refine⟨run rs k,by rw[List.getElem?_append_right (by rw[ih.len];exact h1),ih.len,hs0];rfl,?_⟩;rw[hsq,List.getElem?_append_right (by omega),←hlen,hs0,←ch_eq h hkl];rfl
     ·dsimp only at hs
      rcases Nat.lt_or_ge s d.tl.length with h1 | h1
      ·rw[List.getElem?_append_left h1]at hs
       obtain⟨h2,h3⟩:=ih.lt s t' hs;refine⟨by omega,fun j hj=>?_⟩;have h4:=h3 j hj
       rcases Nat.lt_or_eq_of_le h4 with h5 | h5
       ·exact h5
       ·exfalso;subst h5
        have:=(nextTo_some _ _ hj).2;rw[hno t' h2]at this;cases this
      ·rw[List.getElem?_append_right h1]at hs
       have hs0:s - d.tl.length=0:=by
        have:=(List.getElem?_eq_some_iff.1 hs).1;simp at this;omega
       rw[hs0]at hs;simp at hs;subst hs;exact⟨Nat.lt_succ_self _,hnk⟩
     ·dsimp only
      rcases Nat.lt_or_eq_of_le (Nat.le_of_lt_succ ht')with h1 | h1
      ·rcases ih.cov t' h1 with⟨s,hs⟩ | ⟨j,hj1,hj2⟩
       ·exact .inl ⟨s,by rw[List.getElem?_append_left (List.getElem?_eq_some_iff.1 hs).1];exact hs⟩
       ·exact .inr ⟨j,hj1,by omega⟩
      ·subst h1;exact .inl ⟨d.tl.length,by rw[List.getElem?_append_right (Nat.le_refl _),Nat.sub_self];rfl⟩
     ·dsimp only[dvAw]at hp
      by_cases hlk:leads K (run rs k)=some p
      ·exact⟨k,Nat.lt_succ_self _,hlk⟩
      ·rw[if_neg hlk]at hp;obtain⟨t',h1,h2⟩:=ih.awS p s hp;exact⟨t',by omega,h2⟩
     ·dsimp only[dvAw]at hs ⊢
      rcases Nat.lt_or_ge s d.tl.length with h1 | h1
      ·rw[List.getElem?_append_left h1]at hs
       rw[if_neg (fun e=>by
        have h1:=(ih.lt s t' hs).1
        have:=leads_inj h hkl (by omega) e hp
        omega)]
       exact ih.awT s t' p hs hp
      ·rw[List.getElem?_append_right h1]at hs
       have hs0:s - d.tl.length=0:=by
        have:=(List.getElem?_eq_some_iff.1 hs).1;simp at this;omega
       rw[hs0]at hs;simp at hs;subst hs;rw[if_pos hp,ih.len,show s=d.tl.length by omega]
theorem dv_seqs {K:List Int}{rs:List (List Nat)}(h:RunsOk K rs):(dvTo K rs rs.length).all=seqs K rs:=by
 have hi:=dv_inv h rs.length (Nat.le_refl _);refine List.ext_getElem? (fun s=>?_)
 rcases Nat.lt_or_ge s (dvTo K rs rs.length).tl.length with h1 | h1
 ·obtain⟨x,hx1,hx2⟩:=hi.sq s _ (List.getElem?_eq_getElem h1)
  have hr:rest K rs (dvTo K rs rs.length).tl[s]=[]:=by
   unfold rest;cases hn:nextTo K rs (run rs (dvTo K rs rs.length).tl[s]) rs.length with
   | none=>rfl
   | some j =>
     have:=(hi.lt s _ (List.getElem?_eq_getElem h1)).2 j hn;have:=(nextTo_some _ _ hn).1;omega
  rw[hr,List.append_nil]at hx2;rw[hx1];exact hx2.symm
 ·rw[List.getElem?_eq_none (by rw[hi.len];exact h1),seqs,List.getElem?_eq_none (by rw[←hi.len2,hi.len];exact h1)]
end Go.Proofs.YtnakejhohdbfdacGreatDoor.Lev
namespace Go.Proofs.YtnakejhohdbfdacGreatDoor.Lev
theorem lvAhead_ng (K L:List Int)(base:Int):∀x,lvAhead K L base x=match (ng K x).getLast? with | none=>base | some y=>nth L y
 | 0=>rfl
 | x+1=>by
   rw[lvAhead,ng_succ];cases h:gone (nth K x)
   ·rw[if_neg Bool.false_ne_true,if_neg Bool.false_ne_true,List.getLast?_concat]
   ·rw[if_pos rfl,if_pos rfl];exact lvAhead_ng K L base x
theorem ng_filter (K:List Int)(n x:Nat)(h:x≤n):ng K x=(ng K n).filter (fun y=>decide (y<x)):=by
 induction n with
 | zero=>rw[show x=0 by omega];rfl
 | succ n ih =>
   rcases Nat.lt_or_eq_of_le h with h1 | h1
   ·rw[ng_succ,ih (by omega)]
    cases hg:gone (nth K n)
    ·rw[if_neg Bool.false_ne_true,List.filter_append,List.filter_cons_of_neg (by simp;omega),List.filter_nil,List.append_nil]
    ·rw[if_pos rfl]
   ·subst h1
    symm
    rw[List.filter_eq_self];intro y hy;exact decide_eq_true (ng_lt K _ y hy).1
theorem flat_split {rs:List (List Nat)}{i:Nat}(h:i<rs.length):rs.flatten=(rs.take i).flatten++(run rs i++(rs.drop (i+1)).flatten):=by
 conv=>lhs;rw[←List.take_append_drop i rs,List.drop_eq_getElem_cons h]
 rw[List.flatten_append,List.flatten_cons,run_get h]
theorem mem_take_flat {rs:List (List Nat)}{i x:Nat}(h:x∈(rs.take i).flatten):∃j,j<i∧j<rs.length∧x∈run rs j:=by
 obtain⟨r,hr,hx⟩:=List.mem_flatten.1 h;obtain⟨j,hj,he⟩:=List.getElem_of_mem hr;rw[List.length_take]at hj;rw[List.getElem_take]at he;exact⟨j,by omega,by omega,by rw[run_get (by omega),he];exact hx⟩
theorem mem_drop_flat {rs:List (List Nat)}{i x:Nat}(h:x∈(rs.drop i).flatten):∃j,i≤j∧j<rs.length∧x∈run rs j:=by
 obtain⟨r,hr,hx⟩:=List.mem_flatten.1 h;obtain⟨j,hj,he⟩:=List.getElem_of_mem hr;rw[List.length_drop]at hj;rw[List.getElem_drop]at he;exact⟨i+j,by omega,by omega,by rw[run_get (by omega),he];exact hx⟩
theorem first_le {r:List Nat}(hs:r.Pairwise (· < ·)){x:Nat}(hx:x∈r):firstN r≤x:=by
 obtain⟨j,hj,he⟩:=List.getElem_of_mem hx;unfold firstN;rw[List.getElem?_eq_getElem (by omega)]
 rcases Nat.eq_zero_or_pos j with h | h
 ·subst h;rw[he];exact Nat.le_refl _
 ·have:=List.pairwise_iff_getElem.1 hs 0 j (by omega) hj h
  simp only[Option.getD_some];omega
theorem le_last {r:List Nat}(hs:r.Pairwise (· < ·)){x:Nat}(hx:x∈r):x≤lastN r:=by
 obtain⟨j,hj,he⟩:=List.getElem_of_mem hx;unfold lastN;rw[List.getElem?_eq_getElem (by omega)]
 rcases Nat.lt_or_ge j (r.length - 1)with h | h
 ·have:=List.pairwise_iff_getElem.1 hs j (r.length - 1) hj (by omega) h
  simp only[Option.getD_some];omega
 ·have e:j=r.length - 1:=by omega
  subst e;simp only[Option.getD_some];omega
theorem getLast_run {r:List Nat}(h:r≠[]):r.getLast?=some (lastN r):=by
 rw[List.getLast?_eq_getElem?];have hl:0<r.length:=List.length_pos_iff.2 h;unfold lastN;rw[List.getElem?_eq_getElem (by omega)];rfl
theorem head_run {r:List Nat}(h:r≠[]):r.head?=some (firstN r):=by
 rw[List.head?_eq_getElem?];have hl:0<r.length:=List.length_pos_iff.2 h;unfold firstN;rw[List.getElem?_eq_getElem hl];rfl
theorem lvAhead_run {K L:List Int}{base:Int}{rs:List (List Nat)}(hr:RunInv K L K.length rs){i:Nat}(hi:i<rs.length) :
 lvAhead K L base (firstN (run rs i))=if i=0 then base else nth L (firstN (run rs (i - 1))):=by
 have ho:RunsOk K rs:=⟨by rw[hr.flat];exact ng_sorted K _,fun i hi=>hr.ne _ (run_mem hi),fun x hx=>by rw[hr.flat]at hx;exact ng_lt K _ x hx⟩;have hx:=(ho.mem hi (firstN_mem (ho.ne i hi))).1;rw[lvAhead_ng,ng_filter K K.length _ (Nat.le_of_lt hx),←hr.flat,flat_split hi,List.filter_append,List.filter_append];have h1:(rs.take i).flatten.filter (fun y=>decide (y<firstN (run rs i)))=(rs.take i).flatten:=by
  rw[List.filter_eq_self];intro y hy;obtain⟨j,h2,h3,h4⟩:=mem_take_flat hy;exact decide_eq_true (ho.before h2 hi h4 (firstN_mem (ho.ne i hi)))
 have h2:(run rs i).filter (fun y=>decide (y<firstN (run rs i)))=[]:=by
  rw[List.filter_eq_nil_iff];intro y hy;have:=first_le (ho.inside hi) hy;simp;omega
 have h3:(rs.drop (i+1)).flatten.filter (fun y=>decide (y<firstN (run rs i)))=[]:=by
  rw[List.filter_eq_nil_iff];intro y hy;obtain⟨j,h2,h3,h4⟩:=mem_drop_flat hy;have:=ho.before (show i<j by omega) h3 (firstN_mem (ho.ne i hi)) h4;simp;omega
 rw[h1,h2,h3,List.append_nil,List.append_nil];cases i with
 | zero=>rfl
 | succ m =>
   have hm:m<rs.length:=by omega
   have e:(rs.take (m+1)).flatten=(rs.take m).flatten++run rs m:=by
    rw[List.take_succ_eq_append_getElem hm,List.flatten_append,run_get hm];simp
   rw[e,List.getLast?_append,getLast_run (ho.ne m hm),if_neg (by omega),Option.some_or];exact hr.lev _ (run_mem hm) _ (lastN_mem (ho.ne m hm))
theorem lvBehind_ng (K L:List Int)(base:Int):∀f j,K.length≤j+f→lvBehind K L base f j=match ((ng K K.length).filter (fun y=>decide (j≤y))).head? with | none=>base | some y=>nth L y
 | 0,j,h=>by
   have:(ng K K.length).filter (fun y=>decide (j≤y))=[]:=by
    rw[List.filter_eq_nil_iff];intro y hy;have:=(ng_lt K _ y hy).1;simp;omega
   rw[this];rfl
 | f+1,j,h=>by
   rw[lvBehind];by_cases hj:j<K.length
   ·rw[if_pos hj]
    cases hg:gone (nth K j)
    ·rw[if_neg Bool.false_ne_true]
     -- j itself is the first
     have hs:=ng_sorted K K.length;have hm:=mem_ng K K.length j hj hg;obtain⟨t,ht,he⟩:=List.getElem_of_mem hm;have:((ng K K.length).filter (fun y=>decide (j≤y))).head?=some j:=by
      have e:ng K K.length=(ng K K.length).take t++(j :: (ng K K.length).drop (t+1)):=by
       conv=>lhs;rw[←List.take_append_drop t (ng K K.length),List.drop_eq_getElem_cons ht,he]
      rw[e,List.filter_append];have z:((ng K K.length).take t).filter (fun y=>decide (j≤y))=[]:=by
       rw[List.filter_eq_nil_iff];intro y hy;obtain⟨u,hu,hu2⟩:=List.getElem_of_mem hy;rw[List.length_take]at hu;rw[List.getElem_take]at hu2;have:=List.pairwise_iff_getElem.1 hs u t (by omega) ht (by omega);rw[he,hu2]at this;simp;omega
      rw[z,List.nil_append,List.filter_cons_of_pos (by simp)];rfl
     rw[this]
    ·rw[if_pos rfl,lvBehind_ng K L base f (j+1) (by omega)]
     have:(ng K K.length).filter (fun y=>decide (j+1≤y))=(ng K K.length).filter (fun y=>decide (j≤y)):=by
      refine List.filter_congr (fun y hy=>?_);have hgy:=(ng_lt K _ y hy).2;by_cases e:y=j
      ·subst e;rw[hg]at hgy;cases hgy
      ·rcases Nat.lt_or_ge j y with h1 | h1
       ·rw[decide_eq_true (by omega),decide_eq_true (by omega)]
       ·rw[decide_eq_false (by omega),decide_eq_false (by omega)]
     rw[this]
   ·rw[if_neg hj]
    have:(ng K K.length).filter (fun y=>decide (j≤y))=[]:=by
     rw[List.filter_eq_nil_iff];intro y hy;have:=(ng_lt K _ y hy).1;simp;omega
    rw[this];rfl
theorem lvBehind_run {K L:List Int}{base:Int}{rs:List (List Nat)}(hr:RunInv K L K.length rs){i:Nat}(hi:i<rs.length) :
 lvBehind K L base K.length (lastN (run rs i)+1)=if i+1<rs.length then nth L (firstN (run rs (i+1)))else base:=by
 have ho:RunsOk K rs:=⟨by rw[hr.flat];exact ng_sorted K _,fun i hi=>hr.ne _ (run_mem hi),fun x hx=>by rw[hr.flat]at hx;exact ng_lt K _ x hx⟩;rw[lvBehind_ng K L base K.length _ (by omega),←hr.flat,flat_split hi,List.filter_append,List.filter_append];have h1:(rs.take i).flatten.filter (fun y=>decide (lastN (run rs i)+1≤y))=[]:=by
  rw[List.filter_eq_nil_iff];intro y hy;obtain⟨j,h2,h3,h4⟩:=mem_take_flat hy;have:=ho.before h2 hi h4 (lastN_mem (ho.ne i hi));simp;omega
 have h2:(run rs i).filter (fun y=>decide (lastN (run rs i)+1≤y))=[]:=by
  rw[List.filter_eq_nil_iff];intro y hy;have:=le_last (ho.inside hi) hy;simp;omega
 have h3:(rs.drop (i+1)).flatten.filter (fun y=>decide (lastN (run rs i)+1≤y))=(rs.drop (i+1)).flatten:=by
  rw[List.filter_eq_self];intro y hy;obtain⟨j,h2,h3,h4⟩:=mem_drop_flat hy;have:=ho.before (show i<j by omega) h3 (lastN_mem (ho.ne i hi)) h4;exact decide_eq_true (by omega)
 rw[h1,h2,h3,List.nil_append,List.nil_append];by_cases hn:i+1<rs.length
 ·rw[if_pos hn,List.drop_eq_getElem_cons hn,List.flatten_cons]
  have e:=ho.ne (i+1) hn;rw[←run_get hn,List.head?_append,head_run e,Option.some_or]
 ·rw[if_neg hn,List.drop_eq_nil_of_le (by omega)];rfl
end Go.Proofs.YtnakejhohdbfdacGreatDoor.Lev
namespace Go.Proofs.YtnakejhohdbfdacGreatDoor.Lev
def popR:List Ent→List Ent
 | []=>[]
 | x :: r=>if x.iso then r else popR r
def under:List Ent→Nat→Option Int
 | [],_=>none
 | x :: r,d=>if x.iso then(match d with | 0=>r.head?.map (·.lv) | d+1=>under r d)else under r d
def isoN:List Ent→Nat
 | []=>0
 | x :: r=>if x.iso then isoN r+1 else isoN r
theorem top_rev (st:List Ent):top st=(st.reverse.head?).getD default:=by
 unfold top;rw[List.head?_reverse,List.getLast?_eq_getElem?]
theorem popI_rev:∀f (st:List Ent),st.length≤f→(popI f st).reverse=popR st.reverse
 | 0,st,h=>by have:st=[]:=List.eq_nil_of_length_eq_zero (by omega);subst this;rfl
 | f+1,st,h=>by
   rw[popI,top_rev];cases hr:st.reverse with
   | nil =>
     have:st=[]:=by simpa using hr
     subst this;have h2:=popI_rev f [] (by simp);simp[popR]at h2 ⊢;intro _;exact h2
   | cons x r =>
     have hd:st.dropLast.reverse=r:=by rw[show st=(x :: r).reverse by rw[←hr,List.reverse_reverse],List.dropLast_reverse,List.reverse_reverse];rfl
     show(if x.iso=true then st.dropLast else popI f st.dropLast).reverse=if x.iso then r else popR r
     cases hx:x.iso
     ·rw[if_neg Bool.false_ne_true,if_neg Bool.false_ne_true,popI_rev f _ (by rw[List.length_dropLast];omega),hd]
     ·rw[if_pos rfl,if_pos rfl,hd]
theorem under_no (x:Ent)(r:List Ent)(d:Nat)(h:x.iso=false):under (x :: r) d=under r d:=by cases d <;> simp[under,h]
theorem under_pop:∀r,(popR r).head?.map (·.lv)=under r 0
 | []=>rfl
 | x :: r=>by
   rw[popR,under];cases x.iso
   ·exact under_pop r
   ·rfl
theorem under_next:∀r d,under (popR r) d=under r (d+1)
 | [],_=>rfl
 | x :: r,d=>by
   rw[popR,under];cases x.iso
   ·exact under_next r d
   ·rfl
theorem isoN_pop:∀r,0<isoN r→isoN (popR r)+1=isoN r
 | [],h=>by simp[isoN]at h
 | x :: r,h=>by
   rw[popR,isoN];rw[isoN]at h;cases hx:x.iso
   ·rw[hx]at h;exact isoN_pop r (by simpa using h)
   ·rfl
def EntOk (x:Ent):Prop:=0≤x.lv∧x.lv≤9∧(x.ov=-1∨x.ov=0∨x.ov=1)
structure StOk (r:List Ent):Prop where
 ne:r≠[]
 low:∀x,r.getLast?=some x→x.iso=false
 ok:∀x∈r,EntOk x
theorem StOk.push {r:List Ent}(h:StOk r){x:Ent}(hx:EntOk x):StOk (x :: r) :=
 ⟨by simp,fun y hy=>h.low y (by rw[List.getLast?_cons_of_ne_nil h.ne]at hy;exact hy),fun y hy=>by
  rcases List.mem_cons.1 hy with e | e
  ·subst e;exact hx
  ·exact h.ok y e⟩
theorem StOk.pop {r:List Ent}{x:Ent}(h:StOk (x :: r))(hr:r≠[]):StOk r :=
 ⟨hr,fun y hy=>h.low y (by rw[List.getLast?_cons_of_ne_nil hr];exact hy),fun y hy=>h.ok y (List.mem_cons_of_mem _ hy)⟩
theorem StOk.popR:∀ {r:List Ent},StOk r→0<isoN r→StOk (popR r)
 | [],h,_=>absurd rfl h.ne
 | x :: r,h,hi=>by
   rw[Lev.popR];rw[isoN]at hi;cases hx:x.iso
   ·rw[hx]at hi
    have hi':0<isoN r:=by simpa using hi
    have hr:r≠[]:=by intro e;subst e;simp[isoN]at hi'
    exact(h.pop hr).popR hi'
   ·have hr:r≠[]:=by
     intro e;subst e;have:=h.low x rfl;rw[hx]at this;cases this
    exact h.pop hr
structure EmbInv (K:List Int)(base:Int)(k:Nat)(e:Emb):Prop where
 st:StOk e.st.reverse
 op:e.op=isoN e.st.reverse
 cnt:(openAt K k).length=e.mi+e.op
 over:∀d i:Nat,d<e.mi→(openAt K k)[d]?=some i→nth e.L i=(top e.st).lv
 inn:∀d i:Nat,(openAt K k)[e.mi+d]?=some i→under e.st.reverse d=some (nth e.L i)
 len:e.L.length=K.length∧e.C.length=K.length
 pair:∀i j,i<K.length→ini (nth K i)=true→mate K i=some j→j<k→nth e.L j=nth e.L i
 small:∀i,0≤nth e.L i∧nth e.L i≤9
 sz:e.st.length≤k+1∧e.mi≤k∧e.me≤k
theorem openAt_lt (K:List Int)(k:Nat)(hk:k≤K.length)(d i:Nat)(h:(openAt K k)[d]?=some i):i<k:=((part_inv K k hk).op d i h).2.1
theorem mate_now (K:List Int)(i k:Nat)(hk:k<K.length)(hi:i<K.length)(hn:ini (nth K i)=true)(hm:mate K i=some k):i<k∧(openAt K k)[0]?=some i∧nth K k=22∧ini (nth K k)=false:=by
 have hge:=mateL_gt _ _ _ _ hm;have hne:i≠k:=by
  intro e;subst e;rw[mate,mateL_step K i _ hi,show dn (nth K i)=1 by rw[dn,hn];rfl,if_neg (by omega)]at hm;have:=mateL_gt _ _ _ _ hm;omega
 have hik:i<k:=by omega
 have hp:=part_inv K k (by omega)
 rcases hp.cl i hik hn with⟨d,hd⟩ | ⟨j,hj1,hj2⟩
 ·have h3:=(hp.op d i hd).2.2.1
  rw[hm,mateL_step K k _ hk]at h3;by_cases h0:(d:Int)+1+dn (nth K k)=0
  ·have hdn:dn (nth K k)=1∨dn (nth K k)=-1∨dn (nth K k)=0:=by unfold dn;split;exact .inl rfl;split;exact .inr (.inl rfl);exact .inr (.inr rfl)
   have hd0:d=0:=by omega
   have h1:dn (nth K k)=-1:=by omega
   subst hd0;unfold dn at h1;cases hin:ini (nth K k)
   ·rw[hin,if_neg Bool.false_ne_true]at h1
    by_cases h22:nth K k=22
    ·exact⟨hik,hd,h22,rfl⟩
    ·rw[if_neg h22]at h1;omega
   ·rw[hin,if_pos rfl]at h1;omega
  ·rw[if_neg h0]at h3
   have:=mateL_gt _ _ _ _ h3.symm;omega
 ·rw[hm]at hj2;cases hj2
  have:=(part_from K i k k hj1).1;omega
theorem top_ok {e:Emb}(h:StOk e.st.reverse):EntOk (top e.st):=by
 rw[top_rev];cases hr:e.st.reverse with
 | nil=>exact absurd hr h.ne
 | cons x r=>exact h.ok x (by rw[hr];simp)
theorem next_le (l:Int)(odd:Bool):nextOf l odd=l+1∨nextOf l odd=l+2:=by
 unfold nextOf;split
 ·exact .inl rfl
 ·exact .inr rfl
theorem nth_set_lt {l:List Int}{k:Nat}(h:k<l.length)(v:Int)(i:Nat):nth (l.set k v) i=if i=k then v else nth l i:=by
 rw[nth_set'];by_cases e:i=k
 ·rw[if_pos ⟨e,h⟩,if_pos e]
 ·rw[if_neg (fun x=>e x.1),if_neg e]
theorem emb_keep {K:List Int}{base:Int}{k:Nat}{e e':Emb}(hk:k<K.length)(ih:EmbInv K base k e)
 (hL:e'.L=e.L∨∃v,e'.L=e.L.set k v∧0≤v∧v≤9) (hC:e'.C.length=e.C.length)
 (hm:ini (nth K k)=false→nth K k=22→∀i,(openAt K k)[0]?=some i→nth e'.L k=nth e.L i) :
 (∀i,i<k→nth e'.L i=nth e.L i)∧(e'.L.length=K.length∧e'.C.length=K.length)∧(∀i j,i<K.length→ini (nth K i)=true→mate K i=some j→j<k+1→nth e'.L j=nth e'.L i)∧(∀i,0≤nth e'.L i∧nth e'.L i≤9):=by
 have hl:k<e.L.length:=by rw[ih.len.1];exact hk
 have h1:∀i,i<k→nth e'.L i=nth e.L i:=by
  intro i hi
  rcases hL with h | ⟨v,h,_⟩
  ·rw[h]
  ·rw[h,nth_set_lt hl,if_neg (by omega)]
 refine⟨h1,⟨?_,hC.trans ih.len.2⟩,fun i j hi hn hmt hj=>?_,fun i=>?_⟩
 ·rcases hL with h | ⟨v,h,_⟩
  ·rw[h];exact ih.len.1
  ·rw[h,List.length_set];exact ih.len.1
 ·rcases Nat.lt_or_eq_of_le (Nat.le_of_lt_succ hj)with h | h
  ·have hge:=mateL_gt _ _ _ _ hmt
   rw[h1 j h,h1 i (by omega)];exact ih.pair i j hi hn hmt h
  ·subst h
   obtain⟨a,b,c,d⟩:=mate_now K i j hk hi hn hmt;rw[hm d c i b,h1 i a]
 ·rcases hL with h | ⟨v,h,h2,h3⟩
  ·rw[h];exact ih.small i
  ·rw[h,nth_set_lt hl]
   by_cases e1:i=k
   ·rw[if_pos e1];exact⟨h2,h3⟩
   ·rw[if_neg e1];exact ih.small i
theorem rev_push (st:List Ent)(x:Ent):(st++[x]).reverse=x :: st.reverse:=by simp
theorem rev_drop (st:List Ent):st.dropLast.reverse=st.reverse.tail:=by
 have h:=List.dropLast_reverse (l:=st.reverse);rw[List.reverse_reverse]at h;rw[h,List.reverse_reverse]
theorem hold_L (e:Emb)(i:Nat):(hold e i).L=e.L.set i (top e.st).lv:=rfl
theorem hold_C (e:Emb)(i:Nat):(hold e i).C.length=e.C.length:=by
 unfold hold;dsimp only;split
 ·rfl
 ·exact List.length_set
theorem begins_not {c:Int}(h:begins c=true):ini c=false∧c≠22:=by
 unfold begins at h;simp only[Bool.or_eq_true,beq_iff_eq]at h
 rcases h with((h | h) | h) | h <;> subst h <;> exact⟨rfl,by omega⟩
theorem head_top {e:Emb}(h:StOk e.st.reverse):e.st.reverse.head?.map (·.lv)=some (top e.st).lv:=by
 rw[top_rev];cases hr:e.st.reverse with
 | nil=>exact absurd hr h.ne
 | cons x r=>rfl
theorem emb_inv (K:List Int)(base:Int)(hb:base=0∨base=1):∀k,k≤K.length→EmbInv K base k (embTo K base k)
 | 0,_=>by
   refine⟨⟨by simp[embTo],fun x hx=>?_,fun x hx=>?_⟩,rfl,rfl,fun d i h=>by simp[embTo]at h,fun d i h=>by simp[openAt]at h,by simp[embTo],fun i j _ _ _ h=>by omega,fun i=>?_,by simp[embTo]⟩
   ·simp[embTo]at hx;subst hx;rfl
   ·simp[embTo]at hx;subst hx;exact⟨by dsimp only;omega,by dsimp only;omega,.inl rfl⟩
   ·have:nth (embTo K base 0).L i=0:=by
     show nth (List.replicate K.length 0) i=0;unfold nth;rw[List.getElem?_replicate];split <;> rfl
    rw[this];omega
 | k+1,hk=>by
   have ih:=emb_inv K base hb k (by omega);have hkl:k<K.length:=by omega
   rw[embTo];generalize embTo K base k=e at *;have hl:k<e.L.length:=by rw[ih.len.1];exact hkl
   have htop:=top_ok ih.st;have hol:=openAt_lt K k (by omega);have hone:ini (nth K k)=false→nth K k≠22→openAt K (k+1)=openAt K k:=fun h1 h2=>by rw[openAt,h1,if_neg Bool.false_ne_true,if_neg h2]
   have hin:ini (nth K k)=true→openAt K (k+1)=k :: openAt K k:=fun h1=>by rw[openAt,h1];rfl
   have hpd:ini (nth K k)=false→nth K k=22→openAt K (k+1)=(openAt K k).tail:=fun h1 h2=>by rw[openAt,h1,if_neg Bool.false_ne_true,if_pos h2]
   unfold embStep;by_cases c1:begins (nth K k)=true
   ·rw[if_pos c1]
    obtain⟨n1,n2⟩:=begins_not c1;have ho:=hone n1 n2;by_cases cf:fits e (nextOf (top e.st).lv (oddOf K k))=true
    ·rw[if_pos cf]
     have hmi:e.mi=0:=by unfold fits at cf;simp at cf;omega
     have hnx:nextOf (top e.st).lv (oddOf K k)≤9:=by unfold fits at cf;simp at cf;omega
     obtain⟨k1,k2,k3,k4⟩:=emb_keep (e':={ e with st:=e.st++[⟨nextOf (top e.st).lv (oddOf K k),ovOf (nth K k),false⟩] }) hkl ih (.inl rfl) rfl (fun _ h=>absurd h n2);have hx:EntOk ⟨nextOf (top e.st).lv (oddOf K k),ovOf (nth K k),false⟩:=⟨by rcases next_le (top e.st).lv (oddOf K k)with h | h <;> (have:=htop.1;dsimp only;omega),hnx,by unfold ovOf;dsimp only;split;exact .inr (.inr rfl);split;exact .inr (.inl rfl);exact .inl rfl⟩;refine⟨by rw[rev_push];exact ih.st.push hx,by rw[rev_push];exact ih.op,by rw[ho];exact ih.cnt,fun d i h=>by dsimp only at h;omega,fun d i h=>?_,k2,k3,k4,?_⟩
     ·rw[ho]at h;rw[rev_push];exact ih.inn d i h
     ·have:=ih.sz;simp;omega
    ·rw[if_neg cf]
     by_cases cm:e.mi=0
     ·rw[if_pos cm]
      obtain⟨k1,k2,k3,k4⟩:=emb_keep (e':={ e with me:=e.me+1 }) hkl ih (.inl rfl) rfl (fun _ h=>absurd h n2);exact⟨ih.st,ih.op,by rw[ho];exact ih.cnt,fun d i h1 h2=>by rw[ho]at h2;exact ih.over d i h1 h2,fun d i h=>by rw[ho]at h;exact ih.inn d i h,k2,k3,k4,by have:=ih.sz;dsimp only;omega⟩
     ·rw[if_neg cm]
      obtain⟨k1,k2,k3,k4⟩:=emb_keep (e':=e) hkl ih (.inl rfl) rfl (fun _ h=>absurd h n2);exact⟨ih.st,ih.op,by rw[ho];exact ih.cnt,fun d i h1 h2=>by rw[ho]at h2;exact ih.over d i h1 h2,fun d i h=>by rw[ho]at h;exact ih.inn d i h,k2,k3,k4,by have:=ih.sz;omega⟩
   rw[if_neg c1];by_cases c2:ini (nth K k)=true
   ·rw[if_pos c2]
    have ho:=hin c2;have n2:=ini_not22 c2;have hLk:nth (e.L.set k (top e.st).lv) k=(top e.st).lv:=by rw[nth_set_lt hl,if_pos rfl]
    by_cases cf:fits e (nextOf (top e.st).lv (oddOf K k))=true
    ·rw[if_pos cf]
     have hmi:e.mi=0:=by unfold fits at cf;simp at cf;omega
     have hnx:nextOf (top e.st).lv (oddOf K k)≤9:=by unfold fits at cf;simp at cf;omega
     obtain⟨k1,k2,k3,k4⟩:=emb_keep (e':={ hold e k with op:=e.op+1,st:=e.st++[⟨nextOf (top e.st).lv (oddOf K k),-1,true⟩] }) hkl ih (.inr ⟨_,rfl,htop.1,htop.2.1⟩) (hold_C e k) (fun h=>by rw[c2]at h;cases h);have hx:EntOk ⟨nextOf (top e.st).lv (oddOf K k),-1,true⟩:=⟨by rcases next_le (top e.st).lv (oddOf K k)with h | h <;> (have:=htop.1;dsimp only;omega),hnx,.inl rfl⟩;refine⟨by rw[rev_push];exact ih.st.push hx,by rw[rev_push];show e.op+1=isoN _+1;rw[ih.op],?_,fun d i h=>?_,fun d i h=>?_,k2,k3,k4,?_⟩
     ·rw[ho];show(openAt K k).length+1=e.mi+(e.op+1);have:=ih.cnt;omega
     ·exact absurd h (by show ¬d<e.mi;omega)
     ·rw[ho]at h
      replace h:(k :: openAt K k)[e.mi+d]?=some i:=h
      rw[hmi,Nat.zero_add]at h;rw[rev_push];cases d with
      | zero =>
        simp at h;subst h;show e.st.reverse.head?.map (·.lv)=some (nth (e.L.set k (top e.st).lv) k);rw[hLk];exact head_top ih.st
      | succ d =>
        simp at h;show under e.st.reverse d=some (nth (e.L.set k (top e.st).lv) i);rw[nth_set_lt hl,if_neg (by have:=hol d i h;omega)];exact ih.inn d i (by rw[hmi,Nat.zero_add];exact h)
     ·have:=ih.sz;show(e.st++[_]).length≤_∧e.mi≤_∧e.me≤_;simp;omega
    ·rw[if_neg cf]
     obtain⟨k1,k2,k3,k4⟩:=emb_keep (e':={ hold e k with mi:=e.mi+1 }) hkl ih (.inr ⟨_,rfl,htop.1,htop.2.1⟩) (hold_C e k) (fun h=>by rw[c2]at h;cases h);refine⟨ih.st,ih.op,?_,fun d i h1 h2=>?_,fun d i h=>?_,k2,k3,k4,?_⟩
     ·rw[ho];show(openAt K k).length+1=e.mi+1+e.op;have:=ih.cnt;omega
     ·rw[ho]at h2
      show nth (e.L.set k (top e.st).lv) i=(top e.st).lv;cases d with
      | zero=>simp at h2;subst h2;exact hLk
      | succ d =>
        simp at h2;rw[nth_set_lt hl,if_neg (by have:=hol d i h2;omega)];exact ih.over d i (by replace h1:d+1<e.mi+1:=h1;omega) h2
     ·rw[ho]at h
      replace h:(k :: openAt K k)[e.mi+1+d]?=some i:=h
      rw[show e.mi+1+d=(e.mi+d)+1 by omega]at h;simp at h;show under e.st.reverse d=some (nth (e.L.set k (top e.st).lv) i);rw[nth_set_lt hl,if_neg (by have:=hol _ i h;omega)];exact ih.inn d i h
     ·have:=ih.sz;show e.st.length≤_∧e.mi+1≤_∧e.me≤_;omega
   rw[if_neg c2];have c2':ini (nth K k)=false:=by simpa using c2
   by_cases c3:nth K k=22
   ·rw[if_pos c3]
    have ho:=hpd c2' c3;by_cases cm:0<e.mi
    ·rw[if_pos cm]
     have hm0:∀i,(openAt K k)[0]?=some i→nth e.L i=(top e.st).lv:=fun i h=>ih.over 0 i cm h
     obtain⟨k1,k2,k3,k4⟩:=emb_keep (e':=hold { e with mi:=e.mi - 1 } k) hkl ih (.inr ⟨_,rfl,htop.1,htop.2.1⟩) (hold_C _ k) (fun _ _ i h=>by rw[hold_L,nth_set_lt hl,if_pos rfl];exact(hm0 i h).symm);refine⟨ih.st,ih.op,?_,fun d i h1 h2=>?_,fun d i h=>?_,k2,k3,k4,?_⟩
     ·rw[ho,List.length_tail];show _=e.mi - 1+e.op;have:=ih.cnt;omega
     ·rw[ho,List.getElem?_tail]at h2
      replace h1:d<e.mi - 1:=h1
      show nth (e.L.set k (top e.st).lv) i=(top e.st).lv;rw[nth_set_lt hl,if_neg (by have:=hol _ i h2;omega)];exact ih.over (d+1) i (by omega) h2
     ·rw[ho,List.getElem?_tail]at h
      replace h:(openAt K k)[e.mi - 1+d+1]?=some i:=h
      rw[show e.mi - 1+d+1=e.mi+d by omega]at h;show under e.st.reverse d=some (nth (e.L.set k (top e.st).lv) i);rw[nth_set_lt hl,if_neg (by have:=hol _ i h;omega)];exact ih.inn d i h
     ·have:=ih.sz;show e.st.length≤_∧e.mi - 1≤_∧e.me≤_;omega
    ·rw[if_neg cm]
     have hmi:e.mi=0:=by omega
     by_cases cop:0<e.op
     ·rw[if_pos cop]
      have hiso:0<isoN e.st.reverse:=by rw[←ih.op];exact cop
      have hpr:(popI e.st.length e.st).reverse=popR e.st.reverse:=popI_rev _ _ (Nat.le_refl _);have hst:StOk (popI e.st.length e.st).reverse:=by rw[hpr];exact ih.st.popR hiso
      have htp:=top_ok (e:={ e with me:=0,st:=popI e.st.length e.st,op:=e.op - 1 }) hst;have hm0:∀i,(openAt K k)[0]?=some i→nth e.L i=(top (popI e.st.length e.st)).lv:=fun i h=>by
       have h1:=ih.inn 0 i (by rw[hmi];exact h);rw[←under_pop,←hpr]at h1;have h2:=head_top (e:={ e with me:=0,st:=popI e.st.length e.st,op:=e.op - 1 }) hst;exact(Option.some.inj (h2.symm.trans h1)).symm
      have hpl:(popI e.st.length e.st).length≤e.st.length:=by
       have:∀r:List Ent,(popR r).length≤r.length:=by
        intro r
        induction r with
        | nil=>exact Nat.le_refl _
        | cons x r ih2 =>
          rw[popR];split
          ·simp
          ·simp;omega
       have h1:=this e.st.reverse;rw[←hpr,List.length_reverse,List.length_reverse]at h1;exact h1
      obtain⟨k1,k2,k3,k4⟩:=emb_keep (e':=hold { e with me:=0,st:=popI e.st.length e.st,op:=e.op - 1 } k) hkl ih (.inr ⟨_,rfl,htp.1,htp.2.1⟩) (hold_C _ k) (fun _ _ i h=>by rw[hold_L,nth_set_lt hl,if_pos rfl];exact(hm0 i h).symm);refine⟨hst,?_,?_,fun d i h1 h2=>?_,fun d i h=>?_,k2,k3,k4,?_⟩
      ·show e.op - 1=isoN (popI e.st.length e.st).reverse
       rw[hpr];have:=isoN_pop _ hiso;have:=ih.op;omega
      ·rw[ho,List.length_tail];show _=e.mi+(e.op - 1);have:=ih.cnt;omega
      ·exact absurd h1 (by show ¬d<e.mi;omega)
      ·rw[ho,List.getElem?_tail]at h
       replace h:(openAt K k)[e.mi+d+1]?=some i:=h
       show under (popI e.st.length e.st).reverse d=some (nth (e.L.set k (top (popI e.st.length e.st)).lv) i);rw[hpr,under_next,nth_set_lt hl,if_neg (by have:=hol _ i h;omega)];exact ih.inn (d+1) i (by rw[←Nat.add_assoc];exact h)
      ·have:=ih.sz;show(popI e.st.length e.st).length≤_∧e.mi≤_∧0≤_;omega
     ·rw[if_neg cop]
      have hnil:openAt K k=[]:=List.eq_nil_of_length_eq_zero (by have:=ih.cnt;omega);obtain⟨k1,k2,k3,k4⟩:=emb_keep (e':=hold e k) hkl ih (.inr ⟨_,rfl,htop.1,htop.2.1⟩) (hold_C _ k) (fun _ _ i h=>by rw[hnil]at h;cases h);refine⟨ih.st,ih.op,by rw[ho,hnil];show 0=e.mi+e.op;omega,fun d i h1 h2=>(by rw[ho,hnil]at h2;cases h2),fun d i h=>(by rw[ho,hnil]at h;cases h),k2,k3,k4,by have:=ih.sz;show e.st.length≤_∧e.mi≤_∧e.me≤_;omega⟩
   rw[if_neg c3];have ho:=hone c2' c3;have plain:∀e':Emb,e'.st=e.st→e'.mi=e.mi→e'.op=e.op→e'.me≤e.me→(e'.L=e.L∨∃v,e'.L=e.L.set k v∧0≤v∧v≤9)→e'.C.length=e.C.length→EmbInv K base (k+1) e':=by
    intro e' s1 s2 s3 s4 hL hC;obtain⟨k1,k2,k3,k4⟩:=emb_keep (e':=e') hkl ih hL hC (fun _ h=>absurd h c3);refine⟨by rw[s1];exact ih.st,by rw[s1,s3];exact ih.op,by rw[ho,s2,s3];exact ih.cnt,fun d i h1 h2=>?_,fun d i h=>?_,k2,k3,k4,by rw[s1,s2];have:=ih.sz;omega⟩
    ·rw[ho]at h2;rw[s1,k1 i (hol d i h2)];exact ih.over d i (by rw[←s2];exact h1) h2
    ·rw[ho,s2]at h;rw[s1,k1 i (hol _ i h)];exact ih.inn d i h
   by_cases c4:nth K k=18
   ·rw[if_pos c4]
    by_cases cm:0<e.mi
    ·rw[if_pos cm];exact plain e rfl rfl rfl (Nat.le_refl _) (.inl rfl) rfl
    ·rw[if_neg cm]
     by_cases ce:0<e.me
     ·rw[if_pos ce];exact plain _ rfl rfl rfl (by dsimp only;omega) (.inl rfl) rfl
     ·rw[if_neg ce]
      by_cases ci:(!(top e.st).iso && decide (1<e.st.length))=true
      ·rw[if_pos ci]
       rw[Bool.and_eq_true,decide_eq_true_eq]at ci;obtain⟨k1,k2,k3,k4⟩:=emb_keep (e':={ e with st:=e.st.dropLast }) hkl ih (.inl rfl) rfl (fun _ h=>absurd h c3);have hmi:e.mi=0:=by omega
       cases hr:e.st.reverse with
       | nil=>exact absurd hr ih.st.ne
       | cons x r =>
         have hx:x.iso=false:=by have h:=ci.1;rw[top_rev,hr]at h;simpa using h
         have hrn:r≠[]:=by
          intro h2;subst h2;have:=congrArg List.length hr;simp at this;omega
         have hs:=ih.st;rw[hr]at hs;have hd:e.st.dropLast.reverse=r:=by rw[rev_drop,hr];rfl
         refine⟨by rw[show({ e with st:=e.st.dropLast }:Emb).st=e.st.dropLast from rfl,hd];exact hs.pop hrn,?_,by rw[ho];exact ih.cnt,fun d i h1=>absurd h1 (by show ¬d<e.mi;omega),fun d i h=>?_,k2,k3,k4,?_⟩
         ·show e.op=isoN e.st.dropLast.reverse
          rw[hd,ih.op,hr,isoN,hx];rfl
         ·rw[ho]at h
          show under e.st.dropLast.reverse d=some (nth e.L i);have:=ih.inn d i h;rw[hr,under_no x r d hx]at this;rw[hd];exact this
         ·have:=ih.sz;show e.st.dropLast.length≤_∧_;rw[List.length_dropLast];show _∧e.mi≤_∧e.me≤_;omega
      ·rw[if_neg ci];exact plain e rfl rfl rfl (Nat.le_refl _) (.inl rfl) rfl
   rw[if_neg c4];by_cases c5:nth K k=10
   ·rw[if_pos c5];exact plain _ rfl rfl rfl (Nat.le_refl _) (.inr ⟨base,rfl,by omega,by omega⟩) rfl
   rw[if_neg c5];by_cases c6:nth K k=9
   ·rw[if_pos c6];exact plain e rfl rfl rfl (Nat.le_refl _) (.inl rfl) rfl
   rw[if_neg c6];exact plain _ rfl rfl rfl (Nat.le_refl _) (.inr ⟨_,rfl,htop.1,htop.2.1⟩) (hold_C e k)
theorem follow_level {K:List Int}{base:Int}(hb:base=0∨base=1){a b:List Nat}(ha:lastN a<K.length)(hf:follows K a b=true):nth (embTo K base K.length).L (firstN b)=nth (embTo K base K.length).L (lastN a):=by
 unfold follows at hf;rw[Bool.and_eq_true,beq_iff_eq]at hf;have h:=emb_inv K base hb K.length (Nat.le_refl _);have hlt:firstN b<K.length:=by
  have hp:=part_mate K (lastN a) ha;rw[hf.1,if_pos rfl,hf.2]at hp;exact(part_from K _ _ _ hp).1
 exact h.pair _ _ ha hf.1 hf.2 hlt
end Go.Proofs.YtnakejhohdbfdacGreatDoor.Lev
namespace Go.Proofs.YtnakejhohdbfdacGreatDoor.Lev
theorem aw_lt (K:List Int)(rs:List (List Nat)):∀k p a,(dvTo K rs k).aw p=some a→a<(dvTo K rs k).all.length
 | 0,p,a,h=>by cases h
 | k+1,p,a,h=>by
   have ih:=aw_lt K rs k;rw[dvTo,dvStep]at h ⊢;cases hx:(dvTo K rs k).aw (firstN (run rs k))with
   | some b =>
     rw[hx]at h;dsimp only[dvAw]at h ⊢;rw[List.length_set];by_cases hl:leads K (run rs k)=some p
     ·rw[if_pos hl]at h;cases h;exact ih _ _ hx
     ·rw[if_neg hl]at h;exact ih _ _ h
   | none =>
     rw[hx]at h;dsimp only[dvAw]at h ⊢;rw[List.length_append];by_cases hl:leads K (run rs k)=some p
     ·rw[if_pos hl]at h;cases h;simp
     ·rw[if_neg hl]at h;have:=ih _ _ h;simp;omega
def ow (K:List Int)(rs:List (List Nat))(k:Nat):Nat:=match (dvTo K rs k).aw (firstN (run rs k))with | some a=>a | none=>(dvTo K rs k).all.length
theorem mem_all (K:List Int)(rs:List (List Nat)):∀k s x,(∃y,(dvTo K rs k).all[s]?=some y∧x∈y) ↔ ∃t,t<k∧ow K rs t=s∧x∈run rs t
 | 0,s,x=>by
   constructor
   ·rintro ⟨y,h,_⟩;simp[dvTo]at h
   ·rintro ⟨t,h,_⟩;omega
 | k+1,s,x=>by
   have ih:=mem_all K rs k s x;have split:(∃t,t<k+1∧ow K rs t=s∧x∈run rs t) ↔ (∃t,t<k∧ow K rs t=s∧x∈run rs t)∨(ow K rs k=s∧x∈run rs k):=by
    constructor
    ·rintro ⟨t,h1,h2⟩
     rcases Nat.lt_or_eq_of_le (Nat.le_of_lt_succ h1)with h | h
     ·exact .inl ⟨t,h,h2⟩
     ·subst h;exact .inr h2
    ·rintro (⟨t,h1,h2⟩ | h)
     ·exact⟨t,by omega,h2⟩
     ·exact⟨k,Nat.lt_succ_self _,h⟩
   rw[split,←ih];rw[dvTo,dvStep];unfold ow;cases hx:(dvTo K rs k).aw (firstN (run rs k))with
   | some a =>
     have hal:=aw_lt K rs k _ _ hx;dsimp only;by_cases hs:a=s
     ·subst hs
      rw[List.getElem?_set_self hal,List.getElem?_eq_getElem hal];constructor
      ·rintro ⟨y,h1,h2⟩
       cases h1
       rcases List.mem_append.1 h2 with h | h
       ·exact .inl ⟨_,rfl,h⟩
       ·exact .inr ⟨rfl,h⟩
      ·rintro (⟨y,h1,h2⟩ | ⟨_,h⟩)
       ·cases h1;exact⟨_,rfl,List.mem_append_left _ h2⟩
       ·exact⟨_,rfl,List.mem_append_right _ h⟩
     ·rw[List.getElem?_set_ne hs]
      constructor
      ·intro h;exact .inl h
      ·rintro (h | ⟨h,_⟩)
       ·exact h
       ·exact absurd h hs
   | none =>
     dsimp only
     rcases Nat.lt_trichotomy s (dvTo K rs k).all.length with h1 | h1 | h1
     ·rw[List.getElem?_append_left h1]
      constructor
      ·intro h;exact .inl h
      ·rintro (h | ⟨h,_⟩)
       ·exact h
       ·omega
     ·subst h1
      rw[List.getElem?_append_right (Nat.le_refl _),Nat.sub_self,List.getElem?_eq_none (Nat.le_refl _)];constructor
      ·rintro ⟨y,h2,h3⟩
       simp at h2;subst h2;exact .inr ⟨rfl,h3⟩
      ·rintro (⟨y,h2,_⟩ | ⟨_,h⟩)
       ·cases h2
       ·exact⟨_,rfl,h⟩
     ·rw[List.getElem?_eq_none (by simp;omega),List.getElem?_eq_none (by omega)]
      constructor
      ·rintro ⟨y,h2,_⟩;cases h2
      ·rintro (⟨y,h2,_⟩ | ⟨h,_⟩)
       ·cases h2
       ·omega
theorem seqs_apart {K:List Int}{rs:List (List Nat)}(h:RunsOk K rs){s s' x:Nat}{I I':List Nat}(hI:(seqs K rs)[s]?=some I)(hI':(seqs K rs)[s']?=some I')(hx:x∈I)(hx':x∈I'):s=s':=by
 rw[←dv_seqs h]at hI hI';obtain⟨t,h1,h2,h3⟩:=(mem_all K rs rs.length s x).1 ⟨I,hI,hx⟩;obtain⟨t',h1',h2',h3'⟩:=(mem_all K rs rs.length s' x).1 ⟨I',hI',hx'⟩;have:t=t':=by
  rcases Nat.lt_trichotomy t t' with e | e | e
  ·have:=h.before e h1' h3 h3';omega
  ·exact e
  ·have:=h.before e h1 h3' h3;omega
 subst this;omega
theorem seqs_all {K:List Int}{rs:List (List Nat)}(h:RunsOk K rs)(hf:rs.flatten=ng K K.length){x:Nat}(hx:x<K.length)(hg:gone (nth K x)=false):∃(s:Nat) (I:List Nat),(seqs K rs)[s]?=some I∧x∈I:=by
 have hm:=mem_ng K K.length x hx hg;rw[←hf]at hm;obtain⟨r,hr,hxr⟩:=List.mem_flatten.1 hm;obtain⟨t,ht,he⟩:=List.getElem_of_mem hr;obtain⟨y,h1,h2⟩:=(mem_all K rs rs.length (ow K rs t) x).2 ⟨t,ht,rfl,by rw[run_get ht,he];exact hxr⟩;exact⟨_,y,by rw[←dv_seqs h];exact h1,h2⟩
theorem seqs_chain {K:List Int}{rs:List (List Nat)}:∀m,m≤rs.length→∀I∈seqsTo K rs m,∃i,i<rs.length∧I=ch K rs i
 | 0,_,I,h=>by cases h
 | m+1,hm,I,h=>by
   rw[seqsTo]at h;split at h
   ·rcases List.mem_append.1 h with h1 | h1
    ·exact seqs_chain m (by omega) I h1
    ·rw[List.mem_singleton.1 h1];exact⟨m,by omega,rfl⟩
   ·exact seqs_chain m (by omega) I h
theorem chain_level {K L:List Int}{rs:List (List Nat)}(hr:RunInv K L K.length rs)(ho:RunsOk K rs)
 (hf:∀a b:List Nat,lastN a<K.length→follows K a b=true→nth L (firstN b)=nth L (lastN a)):∀f i,i<rs.length→∀x∈chain K rs f i,nth L x=nth L (firstN (run rs i))
 | 0,_,_,x,h=>by cases h
 | f+1,i,hi,x,h=>by
   rw[chain]at h
   rcases List.mem_append.1 h with h1 | h1
   ·exact hr.lev _ (run_mem hi) x h1
   ·cases hn:nextTo K rs (run rs i) rs.length with
    | none=>rw[hn]at h1;cases h1
    | some j =>
      rw[hn]at h1;obtain⟨a,b⟩:=nextTo_some _ _ hn;have hl:=lastN_mem (ho.ne i hi);rw[chain_level hr ho hf f j a x h1,hf _ _ (ho.mem hi hl).1 b];exact hr.lev _ (run_mem hi) _ hl
theorem put_out {I:List Nat}{x:Nat}(hx:x ∉ I)(C:List Int){k:Nat}(hk:k<I.length)(v:Int):nth (put I C k v) x=nth C x:=by
 unfold put;rw[nth_set',if_neg];intro h;apply hx;rw[h.1,nix_of_get hk];exact List.getElem_mem hk
theorem marks_out {K:List Int}{s:Sq}{x:Nat}(hx:x ∉ s.I)(C:List Int):∀k,k≤s.I.length→nth (marksTo K s k C) x=nth C x
 | 0,_=>rfl
 | k+1,hk=>by
   rw[marksTo,markStep];split
   ·rw[put_out hx _ (by omega)];exact marks_out hx C k (by omega)
   ·exact marks_out hx C k (by omega)
theorem nums_out {I:List Nat}{x:Nat}(hx:x ∉ I)(al:Bool)(letter v:Int)(q:Int × List Int):∀k,k≤I.length→nth (numsTo I al letter v k q).2 x=nth q.2 x
 | 0,_=>rfl
 | k+1,hk=>by
   have ih:=nums_out hx al letter v q k (by omega);rw[numsTo,numStep];split
   ·exact ih
   ·split
    ·rw[put_out hx _ (by omega)];exact ih
    ·exact ih
theorem al_out {I:List Nat}{x:Nat}(hx:x ∉ I)(C:List Int):∀k,k≤I.length→nth (alTo I k C) x=nth C x
 | 0,_=>rfl
 | k+1,hk=>by
   rw[alTo,alStep];split
   ·rw[put_out hx _ (by omega)];exact al_out hx C k (by omega)
   ·exact al_out hx C k (by omega)
theorem sep_out {s:Sq}{x:Nat}(hx:x ∉ s.I)(C:List Int):∀k,k≤s.I.length→nth (sepTo s k C) x=nth C x
 | 0,_=>rfl
 | k+1,hk=>by
   rw[sepTo,sepStep];split
   ·rw[put_out hx _ (by omega)];exact sep_out hx C k (by omega)
   ·exact sep_out hx C k (by omega)
theorem loose_out {I:List Nat}{x:Nat}(hx:x ∉ I)(C:List Int):∀k,k≤I.length→nth (looseTo I k C) x=nth C x
 | 0,_=>rfl
 | k+1,hk=>by
   rw[looseTo,looseStep];split
   ·rw[put_out hx _ (by omega)];exact loose_out hx C k (by omega)
   ·exact loose_out hx C k (by omega)
theorem fill_out {I:List Nat}{x:Nat}(hx:x ∉ I)(a:Nat)(v:Int)(C:List Int):∀d,a+d≤I.length→nth (fillTo I a v d C) x=nth C x
 | 0,_=>rfl
 | d+1,h=>by rw[fillTo,put_out hx _ (by omega)];exact fill_out hx a v C d (by omega)
theorem scanTo_out {I:List Nat}{fit:Int→Bool}{act:Nat→Nat→List Int→List Int}{x:Nat}(ha:∀a b C,a<b→b≤I.length→nth (act a b C) x=nth C x)(C:List Int):∀k,k≤I.length→nth (scanTo I fit act k (0,C)).2 x=nth C x
 | 0,_=>rfl
 | k+1,hk=>by
   have ih:=scanTo_out (fit:=fit) ha C k (by omega);rw[scanTo,scanStep];split
   ·exact ih
   ·dsimp only
    split
    ·rename_i h;rw[ha _ _ _ h (by omega)];exact ih
    ·exact ih
theorem scan_out {I:List Nat}{fit:Int→Bool}{act:Nat→Nat→List Int→List Int}{x:Nat}(ha:∀a b C,a<b→b≤I.length→nth (act a b C) x=nth C x)(C:List Int):nth (scan I fit act C) x=nth C x:=by
 have h:=scanTo_out (fit:=fit) ha C I.length (Nat.le_refl _);unfold scan scanEnd;split
 ·rename_i h2;rw[ha _ _ _ h2 (Nat.le_refl _)];exact h
 ·exact h
theorem weak_out {K:List Int}{s:Sq}{x:Nat}(hx:x ∉ s.I)(C:List Int):nth (weak K s C) x=nth C x:=by
 unfold weak;rw[nums_out hx _ _ _ _ _ (Nat.le_refl _)];dsimp only;rw[loose_out hx _ _ (Nat.le_refl _),scan_out,sep_out hx _ _ (Nat.le_refl _),al_out hx _ _ (Nat.le_refl _),nums_out hx _ _ _ _ _ (Nat.le_refl _)]
 ·exact marks_out hx C _ (Nat.le_refl _)
 ·intro a b C h1 h2
  unfold etAct;split
  ·exact fill_out hx a 3 C (b - a) (by omega)
  ·rfl
theorem bec_out {K:List Int}{I:List Nat}{x:Nat}(hx:x ∉ I)(v:Int):∀f j (C:List Int),nth (becTo K I v f j C) x=nth C x
 | 0,_,_=>rfl
 | f+1,j,C=>by
   rw[becTo];split
   ·rename_i h;rw[bec_out hx v f (j+1),put_out hx _ h.1]
   ·rfl
theorem become_out {K:List Int}{I:List Nat}{x:Nat}(hx:x ∉ I){k:Nat}(hk:k<I.length)(v:Int)(C:List Int):nth (become K I k v C) x=nth C x:=by
 rw[become,bec_out hx,put_out hx _ hk]
theorem br_out {K:List Int}{s:Sq}{x:Nat}(hx:x ∉ s.I)(ps:List (Nat × Nat))(hps:∀i,i<ps.length→((ps[i]?).getD (0,0)).1<((ps[i]?).getD (0,0)).2∧((ps[i]?).getD (0,0)).2<s.I.length)(C:List Int):∀i,i≤ps.length→nth (brTo K s ps i C) x=nth C x
 | 0,_=>rfl
 | i+1,hi=>by
   have ih:=br_out (K:=K) hx ps hps C i (by omega);obtain⟨h1,h2⟩:=hps i (by omega);rw[brTo,brStep];split
   ·rw[become_out hx h2,become_out hx (by omega)];exact ih
   ·split
    ·rw[become_out hx h2,become_out hx (by omega)];exact ih
    ·exact ih
theorem rules_out {R K:List Int}{s:Sq}{x:Nat}(hx:x ∉ s.I)(C:List Int):nth (rules R K s C) x=nth C x:=by
 unfold rules neutral brackets;rw[scan_out,br_out hx _ (fun i hi=>pairs_ok R s.I _ i hi) _ _ (Nat.le_refl _)]
 ·exact weak_out hx C
 ·intro a b C h1 h2
  unfold neAct;exact fill_out hx a _ C (b - a) (by omega)
end Go.Proofs.YtnakejhohdbfdacGreatDoor.Lev
namespace Go.Proofs.YtnakejhohdbfdacGreatDoor.Lev
def passTo (K:List Int)(base:Int):Nat→List Int→Int × List Int
 | 0,L=>(base,L)
 | i+1,L=>if gone (nth K i)then((passTo K base i L).1,(passTo K base i L).2.set i (passTo K base i L).1)else(nth (passTo K base i L).2 i,(passTo K base i L).2)
theorem raise_pass {K C L L':List Int}{base:Int}(hn:L.length=K.length)(hn':L'.length=K.length)
 (h:∀i,i<K.length→gone (nth K i)=false→nth L' i=nth L i+up (nth L i) (nth C i)):∀k,k≤K.length →
 (raiseTo K C base k L).1=(passTo K base k L').1∧(raiseTo K C base k L).2.length=K.length∧(passTo K base k L').2.length=K.length ∧
 (∀i,i<k→nth (raiseTo K C base k L).2 i=nth (passTo K base k L').2 i)∧(∀i,k≤i→nth (raiseTo K C base k L).2 i=nth L i∧nth (passTo K base k L').2 i=nth L' i)
 | 0,_=>⟨rfl,hn,hn',fun i hi=>by omega,fun i _=>⟨rfl,rfl⟩⟩
 | k+1,hk=>by
   obtain⟨a,b,c,d,e⟩:=raise_pass hn hn' h k (by omega);rw[raiseTo,passTo];generalize raiseTo K C base k L=q at *;generalize passTo K base k L'=p at *;have lq:k<q.2.length:=by omega
   have lp:k<p.2.length:=by omega
   cases hg:gone (nth K k)
   ·rw[if_neg Bool.false_ne_true]
    have e1:=(e k (Nat.le_refl _)).1;have e2:=(e k (Nat.le_refl _)).2;have h3:=h k (by omega) hg;refine⟨?_,by dsimp only;rw[List.length_set];exact b,c,fun i hi=>?_,fun i hi=>?_⟩
    ·dsimp only;rw[if_neg Bool.false_ne_true];dsimp only;rw[e2,h3,e1]
    ·dsimp only
     rw[if_neg Bool.false_ne_true,nth_set_lt lq];by_cases hik:i=k
     ·subst hik;rw[if_pos rfl,e2,h3,e1]
     ·rw[if_neg hik];exact d i (by omega)
    ·dsimp only
     rw[if_neg Bool.false_ne_true,nth_set_lt lq,if_neg (by omega)];exact e i (by omega)
   ·rw[if_pos rfl]
    refine⟨by simpa using a,by simpa using b,by simpa using c,fun i hi=>?_,fun i hi=>?_⟩
    ·dsimp only
     rw[if_pos rfl];dsimp only;rw[nth_set_lt lq,nth_set_lt lp];by_cases hik:i=k
     ·rw[if_pos hik,if_pos hik];exact a
     ·rw[if_neg hik,if_neg hik];exact d i (by omega)
    ·dsimp only
     rw[if_pos rfl];dsimp only;rw[nth_set_lt lq,nth_set_lt lp,if_neg (by omega),if_neg (by omega)];exact e i (by omega)
theorem list_ext_nth {l l':List Int}(hl:l.length=l'.length)(h:∀i,i<l.length→nth l i=nth l' i):l=l':=by
 refine List.ext_getElem hl (fun i h1 h2=>?_);have:=h i h1;unfold nth at this;rw[List.getElem?_eq_getElem h1,List.getElem?_eq_getElem h2]at this;exact this
theorem raise_eq_pass {K C L L':List Int}{base:Int}(hn:L.length=K.length)(hn':L'.length=K.length)
 (h:∀i,i<K.length→gone (nth K i)=false→nth L' i=nth L i+up (nth L i) (nth C i)):(raiseTo K C base K.length L).2=(passTo K base K.length L').2:=by
 obtain⟨_,b,c,d,_⟩:=raise_pass (C:=C) (base:=base) hn hn' h K.length (Nat.le_refl _);exact list_ext_nth (b.trans c.symm) (fun i hi=>d i (by rw[←b];exact hi))
def lift (lv c:Int):Int:=if lv % 2=0∧(c=3∨c=6)then 2 else if c≠way lv then 1 else 0
def growTo (I:List Nat)(lv:Int)(C:List Int):Nat→List Int→List Int
 | 0,L=>L
 | k+1,L=>put I (growTo I lv C k L) k (cl I (growTo I lv C k L) k+lift lv (cl I C k))
theorem grow_len (I:List Nat)(lv:Int)(C L:List Int):∀k,(growTo I lv C k L).length=L.length
 | 0=>rfl
 | k+1=>by rw[growTo,cl_put_len];exact grow_len I lv C L k
theorem grow_out {I:List Nat}{x:Nat}(hx:x ∉ I)(lv:Int)(C L:List Int):∀k,k≤I.length→nth (growTo I lv C k L) x=nth L x
 | 0,_=>rfl
 | k+1,hk=>by rw[growTo,put_out hx _ (by omega)];exact grow_out hx lv C L k (by omega)
theorem grow_in {I:List Nat}(hI:inj I){L:List Int}(hw:within I L)(lv:Int)(C:List Int):∀k,k≤I.length→(∀j,j<k→cl I (growTo I lv C k L) j=cl I L j+lift lv (cl I C j))∧(∀j,k≤j→j<I.length→cl I (growTo I lv C k L) j=cl I L j)
 | 0,_=>⟨fun j hj=>by omega,fun j _ _=>rfl⟩
 | k+1,hk=>by
   obtain⟨a,b⟩:=grow_in hI hw lv C k (by omega);rw[growTo];refine⟨fun j hj=>?_,fun j h1 h2=>?_⟩
   ·rcases Nat.lt_or_eq_of_le (Nat.le_of_lt_succ hj)with h | h
    ·rw[cl_put_other hI _ _ (by omega) (by omega) (by omega)];exact a j h
    ·subst h
     rw[cl_put_same _ (by rw[grow_len];exact hw j (by omega)),b j (Nat.le_refl _) (by omega)]
   ·rw[cl_put_other hI _ _ (by omega) h2 (by omega)];exact b j (by omega) h2
def growAll (R K L0:List Int)(base:Int)(ss:List (List Nat))(C0:List Int):Nat→List Int
 | 0=>L0
 | i+1=>growTo (run ss i) (nth L0 (firstN (run ss i))) (rulesTo R K L0 base ss (i+1) C0) (run ss i).length (growAll R K L0 base ss C0 i)
structure SsOk (K L0:List Int)(ss:List (List Nat)):Prop where
 so:∀i,i<ss.length→(run ss i).Pairwise (· < ·)
 lt:∀i x,i<ss.length→x∈run ss i→x<K.length
 lev:∀i x,i<ss.length→x∈run ss i→nth L0 x=nth L0 (firstN (run ss i))
 ap:∀i j x,i<ss.length→j<ss.length→x∈run ss i→x∈run ss j→i=j
theorem growAll_len {R K L0:List Int}{base:Int}{ss:List (List Nat)}{C0:List Int}:∀i,(growAll R K L0 base ss C0 i).length=L0.length
 | 0=>rfl
 | i+1=>by rw[growAll,grow_len];exact growAll_len i
theorem rulesTo_out {R K L0:List Int}{base:Int}{ss:List (List Nat)}{C0:List Int}{x:Nat}:∀i j,i≤j→(∀t,i≤t→t<j→x ∉ run ss t)→nth (rulesTo R K L0 base ss j C0) x=nth (rulesTo R K L0 base ss i C0) x
 | i,0,h,_=>by rw[show i=0 by omega]
 | i,j+1,h,hx=>by
   rcases Nat.lt_or_eq_of_le h with h1 | h1
   ·rw[rulesTo,rules_out (s:=seqOf K L0 base (run ss j)) (show x ∉ run ss j from hx j (by omega) (Nat.lt_succ_self _))]
    exact rulesTo_out i j (by omega) (fun t a b=>hx t a (by omega))
   ·rw[h1]
theorem growAll_at {R K L0:List Int}{base:Int}{ss:List (List Nat)}{C0:List Int}(ho:SsOk K L0 ss)(hl:L0.length=K.length):∀i,i≤ss.length →
 (∀t x,t<i→x∈run ss t→nth (growAll R K L0 base ss C0 i) x=nth L0 x+lift (nth L0 x) (nth (rulesTo R K L0 base ss ss.length C0) x)) ∧
 (∀x,(∀t,t<i→x ∉ run ss t)→nth (growAll R K L0 base ss C0 i) x=nth L0 x)
 | 0,_=>⟨fun t x h=>by omega,fun x _=>rfl⟩
 | i+1,hi=>by
   obtain⟨a,b⟩:=growAll_at (R:=R) (base:=base) (C0:=C0) ho hl i (by omega);have hsz:=growAll_len (R:=R) (K:=K) (L0:=L0) (base:=base) (ss:=ss) (C0:=C0) i;have hw:within (run ss i) (growAll R K L0 base ss C0 i):=fun k hk=>by
    rw[hsz,hl,nix_of_get hk];exact ho.lt i _ (by omega) (List.getElem_mem hk)
   rw[growAll];refine⟨fun t x ht hx=>?_,fun x hx=>?_⟩
   ·by_cases hti:t=i
    ·subst hti
     obtain⟨k,hk,he⟩:=List.getElem_of_mem hx;have g:=(grow_in (sorted_inj (ho.so t (by omega))) hw (nth L0 (firstN (run ss t))) (rulesTo R K L0 base ss (t+1) C0) _ (Nat.le_refl _)).1 k hk;unfold cl at g;rw[nix_of_get hk,he]at g;rw[g,b x (fun t' h1 h2=>by have:=ho.ap t' t x (by omega) (by omega) h2 hx;omega),ho.lev t x (by omega) hx];rw[rulesTo_out (t+1) ss.length hi (fun t' h1 h2 h3=>by have:=ho.ap t' t x h2 (by omega) h3 hx;omega)]
    ·rw[grow_out (fun h2=>hti (ho.ap t i x (by omega) (by omega) hx h2)) _ _ _ _ (Nat.le_refl _)]
     exact a t x (by omega) hx
   ·rw[grow_out (hx i (Nat.lt_succ_self _)) _ _ _ _ (Nat.le_refl _)]
    exact b x (fun t h=>hx t (by omega))
end Go.Proofs.YtnakejhohdbfdacGreatDoor.Lev
namespace Go.Proofs.YtnakejhohdbfdacGreatDoor.Lev
def ofK (K C:List Int):Prop:=∀i,nth C i=nth K i∨nth C i=0∨nth C i=1
theorem ofK_set {K C:List Int}(h:ofK K C)(k:Nat){v:Int}(hv:v=0∨v=1):ofK K (C.set k v):=by
 intro i;rw[nth_set'];split
 ·exact .inr hv
 ·exact h i
theorem hold_ofK {K:List Int}{e:Emb}(h:ofK K e.C)(ht:EntOk (top e.st))(k:Nat):ofK K (hold e k).C:=by
 unfold hold;dsimp only;split
 ·exact h
 ·rename_i hn
  refine ofK_set h k ?_
  rcases ht.2.2 with x | x | x
  ·exact absurd x hn
  ·exact .inl x
  ·exact .inr x
theorem emb_C (K:List Int)(base:Int)(hb:base=0∨base=1):∀k,k≤K.length→ofK K (embTo K base k).C
 | 0,_=>fun _=>.inl rfl
 | k+1,hk=>by
   have ih:=emb_C K base hb k (by omega);have iv:=emb_inv K base hb k (by omega);have ht:=top_ok iv.st;rw[embTo];generalize embTo K base k=e at *;unfold embStep;split
   ·split
    ·exact ih
    ·split
     ·exact ih
     ·exact ih
   ·split
    ·split
     ·exact hold_ofK ih ht k
     ·exact hold_ofK ih ht k
    ·split
     ·split
      ·exact hold_ofK (e:={ e with mi:=e.mi - 1 }) ih ht k
      ·split
       ·rename_i h1 h2
        have hiso:0<isoN e.st.reverse:=by rw[←iv.op];exact h2
        refine hold_ofK (e:={ e with me:=0,st:=popI e.st.length e.st,op:=e.op - 1 }) ih ?_ k;refine top_ok (e:={ e with me:=0,st:=popI e.st.length e.st,op:=e.op - 1 }) ?_;show StOk (popI e.st.length e.st).reverse;rw[popI_rev _ _ (Nat.le_refl _)];exact iv.st.popR hiso
       ·exact hold_ofK ih ht k
     ·split
      ·split
       ·exact ih
       ·split
        ·exact ih
        ·split
         ·exact ih
         ·exact ih
      ·split
       ·exact ih
       ·split
        ·exact ih
        ·exact hold_ofK ih ht k
theorem S0_of {K C:List Int}(h:ofK K C)(hK:∀i,0≤nth K i∧nth K i≤22){x:Nat}(hg:gone (nth K x)=false):S0 (nth C x):=by
 unfold S0
 rcases h x with e | e | e
 ·rw[e]
  have:=hK x;unfold gone at hg;simp at hg;omega
 ·rw[e];omega
 ·rw[e];omega
theorem firstN_ch {K:List Int}{rs:List (List Nat)}(h:RunsOk K rs){i:Nat}(hi:i<rs.length):firstN (ch K rs i)=firstN (run rs i):=by
 rw[ch_eq h hi,firstN_append (h.ne i hi)]
theorem ss_ok (K:List Int)(base:Int)(hb:base=0∨base=1):SsOk K (embTo K base K.length).L (seqs K (runsTo K (embTo K base K.length).L K.length))∧(∀i x,i<(seqs K (runsTo K (embTo K base K.length).L K.length)).length→x∈run (seqs K (runsTo K (embTo K base K.length).L K.length)) i→gone (nth K x)=false):=by
 generalize hL:(embTo K base K.length).L=L;have hr:=run_inv K L K.length;have ho:=runs_ok K L;have hf:∀a b:List Nat,lastN a<K.length→follows K a b=true→nth L (firstN b)=nth L (lastN a):=fun a b h1 h2=>by rw[←hL];exact follow_level hb h1 h2
 generalize runsTo K L K.length=rs at *;have hch:∀i,i<(seqs K rs).length→∃j,j<rs.length∧run (seqs K rs) i=ch K rs j:=fun i hi=>seqs_chain rs.length (Nat.le_refl _) _ (run_mem hi)
 have hmem:∀i x,i<(seqs K rs).length→x∈run (seqs K rs) i→x<K.length∧gone (nth K x)=false:=fun i x hi hx=>by
  obtain⟨j,h1,h2⟩:=hch i hi;rw[h2]at hx;obtain⟨j',_,h4,h5⟩:=chain_mem ho _ j h1 x hx;exact ho.mem h4 h5
 refine⟨⟨fun i hi=>?_,fun i x hi hx=>(hmem i x hi hx).1,fun i x hi hx=>?_,fun i j x hi hj h1 h2=>?_⟩,fun i x hi hx=>(hmem i x hi hx).2⟩
 ·obtain⟨j,h1,h2⟩:=hch i hi
  rw[h2];exact chain_sorted ho _ j h1
 ·obtain⟨j,h1,h2⟩:=hch i hi
  rw[h2]at hx ⊢;rw[firstN_ch ho h1];exact chain_level hr ho hf _ j h1 x hx
 ·exact seqs_apart ho (s:=i) (s':=j) (List.getElem?_eq_getElem hi) (List.getElem?_eq_getElem hj) (by rw[←run_get hi];exact h1) (by rw[←run_get hj];exact h2)
theorem way_01 (l:Int):way l=0∨way l=1:=by unfold way;split;exact .inr rfl;exact .inl rfl
theorem rulesTo_len {R K L0:List Int}{base:Int}{ss:List (List Nat)}{C0:List Int}(h:∀i C,(rules R K (seqOf K L0 base (run ss i)) C).length=C.length):∀i,(rulesTo R K L0 base ss i C0).length=C0.length
 | 0=>rfl
 | i+1=>by rw[rulesTo,h i];exact rulesTo_len h i
theorem rules_len (R K:List Int)(s:Sq)(C:List Int):(rules R K s C).length=C.length:=by
 unfold rules;rw[ne_len,brackets,br_len];unfold weak;rw[nums_len,loose_len,et_len,sep_len,al_len,nums_len];exact marks_len K s C _
theorem levels_dev (R K:List Int)(base:Int)(hb:base=0∨base=1)(hK:∀i,0≤nth K i∧nth K i≤22) :
 levels R K base=(passTo K base K.length (growAll R K (embTo K base K.length).L base (seqs K (runsTo K (embTo K base K.length).L K.length)) (embTo K base K.length).C (seqs K (runsTo K (embTo K base K.length).L K.length)).length)).2:=by
 have hi:=emb_inv K base hb K.length (Nat.le_refl _);have hc:=emb_C K base hb K.length (Nat.le_refl _);obtain⟨ho,hng⟩:=ss_ok K base hb;have hrun:=run_inv K (embTo K base K.length).L K.length;have hrok:=runs_ok K (embTo K base K.length).L;unfold levels;dsimp only;generalize embTo K base K.length=e at *;generalize runsTo K e.L K.length=rs at *;generalize hss:seqs K rs=ss at *;refine raise_eq_pass hi.len.1 (by rw[growAll_len];exact hi.len.1) (fun x hx hg=>?_);obtain⟨s,I,hI,hxI⟩:=seqs_all hrok hrun.flat hx hg;rw[hss]at hI;have hs:s<ss.length:=(List.getElem?_eq_some_iff.1 hI).1;have hrs:run ss s=I:=by unfold run;rw[hI];rfl
 have hxr:x∈run ss s:=by rw[hrs];exact hxI
 rw[(growAll_at (R:=R) (base:=base) (C0:=e.C) ho hi.len.1 ss.length (Nat.le_refl _)).1 s x hs hxr]
 -- the class at x in the end is one of four
 have hout:∀y,y∈run ss s→nth (rulesTo R K e.L base ss s e.C) y=nth e.C y:=fun y hy=>by
  rw[rulesTo_out 0 s (Nat.zero_le _) (fun t _ h2 h3=>by have:=ho.ap t s y (by omega) hs h3 hy;omega)];rfl
 have hlen:(rulesTo R K e.L base ss s e.C).length=e.C.length:=rulesTo_len (fun _ C=>rules_len R K _ C) s;have hw:within (run ss s) (rulesTo R K e.L base ss s e.C):=fun k hk=>by
  rw[hlen,hi.len.2,nix_of_get hk];exact ho.lt s _ hs (List.getElem_mem hk)
 have hS:Among S0 (run ss s) (rulesTo R K e.L base ss s e.C) (run ss s).length:=fun j hj=>by
  unfold cl;rw[nix_of_get hj,hout _ (List.getElem_mem hj)];exact S0_of hc hK (hng s _ hs (List.getElem_mem hj))
 have hF:=(rules_F4 (R:=R) (K:=K) (s:=seqOf K e.L base (run ss s)) (sorted_inj (ho.so s hs)) hw (way_01 _) (way_01 _) hS).1;obtain⟨k,hk,he⟩:=List.getElem_of_mem hxr;have h4:=hF k hk;unfold cl at h4;rw[show nix (seqOf K e.L base (run ss s)).I k=x by rw[show(seqOf K e.L base (run ss s)).I=run ss s from rfl,nix_of_get hk];exact he]at h4;have hfin:nth (rulesTo R K e.L base ss ss.length e.C) x=nth (rules R K (seqOf K e.L base (run ss s)) (rulesTo R K e.L base ss s e.C)) x:=by
  rw[rulesTo_out (s+1) ss.length (by omega) (fun t h1 h2 h3=>by have:=ho.ap t s x h2 hs h3 hxr;omega)];rfl
 rw[hfin];rw[up_grow _ _ h4];rfl
end Go.Proofs.YtnakejhohdbfdacGreatDoor.Lev
namespace Go.Proofs.YtnakejhohdbfdacGreatDoor.Lev
def closeOf (r:Int):Int:=if r=40 then 41 else if r=91 then 93 else if r=123 then 125 else if r=12296 then 12297 else if r=12298 then 12299 else 0
theorem close_opens (r:Int):(closeOf r≠0) ↔ opens r=true:=by
 unfold closeOf opens;by_cases h1:r=40
 ·subst h1;simp
 by_cases h2:r=91
 ·subst h2;simp
 by_cases h3:r=123
 ·subst h3;simp
 by_cases h4:r=12296
 ·subst h4;simp
 by_cases h5:r=12298
 ·subst h5;simp
 simp[h1,h2,h3,h4,h5]
theorem close_shuts {b:Int}(hb:opens b=true)(r:Int):closeOf b=r ↔ (shuts r≠0∧b=shuts r):=by
 have hb':b=40∨b=91∨b=123∨b=12296∨b=12298:=by unfold opens at hb;simp at hb;omega
 unfold shuts;by_cases h1:r=41
 ·subst h1;rcases hb' with h | h | h | h | h <;> subst h <;> simp[closeOf]
 by_cases h2:r=93
 ·subst h2;rcases hb' with h | h | h | h | h <;> subst h <;> simp[closeOf]
 by_cases h3:r=125
 ·subst h3;rcases hb' with h | h | h | h | h <;> subst h <;> simp[closeOf]
 by_cases h4:r=12297
 ·subst h4;rcases hb' with h | h | h | h | h <;> subst h <;> simp[closeOf]
 by_cases h5:r=12299
 ·subst h5;rcases hb' with h | h | h | h | h <;> subst h <;> simp[closeOf]
 rw[if_neg h1,if_neg h2,if_neg h3,if_neg h4,if_neg h5];constructor
 ·intro e;exfalso
  rcases hb' with h | h | h | h | h <;> (rw[h]at e;simp[closeOf]at e;omega)
 ·rintro ⟨h,_⟩;exact absurd rfl h
theorem open_opens (R:List Int)(I:List Nat)(C:List Int):∀k,∀x∈(pairsTo R I C k).st,opens (cl I R x)=true
 | 0,x,h=>by cases h
 | k+1,x,h=>by
   have ih:=open_opens R I C k;rw[pairsTo]at h;generalize pairsTo R I C k=p at *;unfold pairStep at h;split at h
   ·exact ih x h
   ·split at h
    ·exact ih x h
    ·split at h
     ·rename_i ho
      split at h
      ·exact ih x h
      ·rcases List.mem_append.1 h with h1 | h1
       ·exact ih x h1
       ·rw[List.mem_singleton.1 h1];exact ho
     ·split at h
      ·exact ih x h
      ·split at h
       ·exact ih x h
       ·exact ih x (List.mem_of_mem_take h)
theorem findTo_some (R:List Int)(I st:List Nat)(c:Int):∀m j,findTo R I st c m=some j→j<m∧cl I R (nix st j)=c∧∀t,j<t→t<m→cl I R (nix st t)≠c
 | 0,j,h=>by cases h
 | m+1,j,h=>by
   rw[findTo]at h;by_cases h1:cl I R (nix st m)=c
   ·rw[if_pos h1]at h;cases h;exact⟨Nat.lt_succ_self _,h1,fun t a b=>by omega⟩
   ·rw[if_neg h1]at h
    obtain⟨a,b,d⟩:=findTo_some R I st c m j h;refine⟨by omega,b,fun t h2 h3=>?_⟩
    rcases Nat.lt_or_eq_of_le (Nat.le_of_lt_succ h3)with h4 | h4
    ·exact d t h2 h4
    ·subst h4;exact h1
theorem findTo_none (R:List Int)(I st:List Nat)(c:Int):∀m,findTo R I st c m=none→∀t,t<m→cl I R (nix st t)≠c
 | 0,_,t,h=>by omega
 | m+1,h,t,ht=>by
   rw[findTo]at h;by_cases h1:cl I R (nix st m)=c
   ·rw[if_pos h1]at h;cases h
   ·rw[if_neg h1]at h
    rcases Nat.lt_or_eq_of_le (Nat.le_of_lt_succ ht)with h4 | h4
    ·exact findTo_none R I st c m h t h4
    ·subst h4;exact h1
theorem take_lt {st:List Nat}(hs:st.Pairwise (· < ·)){j:Nat}(hj:j<st.length):st.filter (fun x=>decide (x<nix st j))=st.take j:=by
 have e:st=st.take j++(st[j] :: st.drop (j+1)):=by
  conv=>lhs;rw[←List.take_append_drop j st,List.drop_eq_getElem_cons hj]
 have h1:(st.take j).filter (fun x=>decide (x<nix st j))=st.take j:=by
  rw[List.filter_eq_self];intro x hx;obtain⟨t,ht,he⟩:=List.getElem_of_mem hx;rw[List.length_take]at ht;rw[List.getElem_take]at he;have:=List.pairwise_iff_getElem.1 hs t j (by omega) hj (by omega);rw[nix_of_get hj];exact decide_eq_true (by omega)
 have h2:(st[j] :: st.drop (j+1)).filter (fun x=>decide (x<nix st j))=[]:=by
  rw[List.filter_eq_nil_iff];intro x hx;rw[nix_of_get hj]
  rcases List.mem_cons.1 hx with h | h
  ·subst h;simp
  ·obtain⟨t,ht,he⟩:=List.getElem_of_mem h
   rw[List.length_drop]at ht;rw[List.getElem_drop]at he;have:=List.pairwise_iff_getElem.1 hs j (j+1+t) hj (by omega) (by omega);simp;omega
 conv=>lhs;rw[e]
 rw[List.filter_append];rw[show nix (st.take j++st[j] :: st.drop (j+1)) j=nix st j by rw[←e]];rw[h1,h2,List.append_nil]
theorem last_open {R:List Int}{I st:List Nat}(hs:st.Pairwise (· < ·))(ho:∀x∈st,opens (cl I R x)=true)(r:Int) :
 (∀j,(if shuts r=0 then none else findTo R I st (shuts r) st.length)=some j→j<st.length∧closeOf (cl I R (nix st j))=r∧∀x∈st,closeOf (cl I R x)=r→x≤nix st j) ∧
 ((if shuts r=0 then none else findTo R I st (shuts r) st.length)=none→∀x∈st,closeOf (cl I R x)≠r):=by
 constructor
 ·intro j hj
  by_cases h0:shuts r=0
  ·rw[if_pos h0]at hj;cases hj
  ·rw[if_neg h0]at hj
   obtain⟨a,b,c⟩:=findTo_some _ _ _ _ _ _ hj;have hm:nix st j∈st:=by rw[nix_of_get a];exact List.getElem_mem a
   refine⟨a,(close_shuts (ho _ hm) r).2 ⟨h0,b⟩,fun x hx hc=>?_⟩;obtain⟨t,ht,he⟩:=List.getElem_of_mem hx
   rcases Nat.lt_or_ge j t with h1 | h1
   ·exfalso
    refine c t h1 ht ?_;rw[nix_of_get ht,he];exact((close_shuts (ho x hx) r).1 hc).2
   ·rcases Nat.lt_or_eq_of_le h1 with h2 | h2
    ·have:=List.pairwise_iff_getElem.1 hs t j ht a h2
     rw[nix_of_get a];omega
    ·subst h2;rw[nix_of_get ht,he];exact Nat.le_refl _
 ·intro hn x hx hc
  obtain⟨h0,hb⟩:=(close_shuts (ho x hx) r).1 hc;rw[if_neg h0]at hn;obtain⟨t,ht,he⟩:=List.getElem_of_mem hx;refine findTo_none _ _ _ _ _ hn t ht ?_;rw[nix_of_get ht,he];exact hb
end Go.Proofs.YtnakejhohdbfdacGreatDoor.Lev
namespace Go.Proofs.YtnakejhohdbfdacGreatDoor.Lev
theorem pairs_stop (R:List Int)(I:List Nat)(C:List Int)(k:Nat)(h:(pairsTo R I C k).stop=true):∀d,pairsTo R I C (k+d)=pairsTo R I C k
 | 0=>rfl
 | d+1=>by
   have ih:=pairs_stop R I C k h d;show pairStep R I C (k+d) (pairsTo R I C (k+d))=_;rw[ih,pairStep,if_pos h]
theorem pair_facts (R:List Int)(I:List Nat)(C:List Int)(k:Nat)(p:Prs)(hs:p.stop=false) :
 (cl I C k≠13→pairStep R I C k p=p) ∧
 (cl I C k=13→opens (cl I R k)=true→p.st.length=8→pairStep R I C k p={ p with stop:=true }) ∧
 (cl I C k=13→opens (cl I R k)=true→p.st.length≠8→pairStep R I C k p={ p with st:=p.st++[k] }) ∧
 (cl I C k=13→opens (cl I R k)=false→shuts (cl I R k)=0→pairStep R I C k p=p) ∧
 (cl I C k=13→opens (cl I R k)=false→shuts (cl I R k)≠0→findTo R I p.st (shuts (cl I R k)) p.st.length=none→pairStep R I C k p=p) ∧
 (∀j,cl I C k=13→opens (cl I R k)=false→shuts (cl I R k)≠0→findTo R I p.st (shuts (cl I R k)) p.st.length=some j→pairStep R I C k p={ p with st:=p.st.take j,out:=insP (nix p.st j,k) p.out }):=by
 have h0:¬p.stop=true:=by rw[hs];exact Bool.false_ne_true
 refine⟨fun h=>?_,fun h h1 h2=>?_,fun h h1 h2=>?_,fun h h1 h2=>?_,fun h h1 h2 h3=>?_,fun j h h1 h2 h3=>?_⟩
 ·rw[pairStep,if_neg h0,if_pos h]
 ·rw[pairStep,if_neg h0,if_neg (by omega),if_pos h1,if_pos h2]
 ·rw[pairStep,if_neg h0,if_neg (by omega),if_pos h1,if_neg h2]
 ·rw[pairStep,if_neg h0,if_neg (by omega),if_neg (by rw[h1];exact Bool.false_ne_true),if_pos h2]
 ·rw[pairStep,if_neg h0,if_neg (by omega),if_neg (by rw[h1];exact Bool.false_ne_true),if_neg h2,h3]
 ·rw[pairStep,if_neg h0,if_neg (by omega),if_neg (by rw[h1];exact Bool.false_ne_true),if_neg h2,h3]
end Go.Proofs.YtnakejhohdbfdacGreatDoor.Lev
namespace Go.Proofs.YtnakejhohdbfdacGreatDoor.Lev
theorem hold_C' {e:Emb}(h:EntOk (top e.st))(i:Nat):(hold e i).C=if 0≤(top e.st).ov then e.C.set i (top e.st).ov else e.C:=by
 show(if(top e.st).ov=-1 then e.C else e.C.set i (top e.st).ov)=_
 rcases h.2.2 with h | h | h <;> rw[h] <;> rfl
theorem emb_begin {K:List Int}{base:Int}{i:Nat}{e:Emb}{c nx:Int}(hc:nth K i=c)(hb:begins c=true)(hx:nx=nextOf (top e.st).lv (oddOf K i)) :
 (fits e nx=true→embStep K base i e={ e with st:=e.st++[⟨nx,ovOf c,false⟩] }) ∧
 (fits e nx=false→e.mi=0→embStep K base i e={ e with me:=e.me+1 }) ∧
 (fits e nx=false→e.mi≠0→embStep K base i e=e):=by
 subst hc;subst hx;refine⟨fun h=>?_,fun h h1=>?_,fun h h1=>?_⟩
 ·rw[embStep,if_pos hb,if_pos h]
 ·rw[embStep,if_pos hb,if_neg (by rw[h];exact Bool.false_ne_true),if_pos h1]
 ·rw[embStep,if_pos hb,if_neg (by rw[h];exact Bool.false_ne_true),if_neg h1]
theorem ini_not {c:Int}(h:ini c=true):begins c=false∧gone c=false∧c≠22:=by
 unfold ini at h;simp at h
 rcases h with(h | h) | h <;> subst h <;> decide
theorem emb_ini {K:List Int}{base:Int}{i:Nat}{e:Emb}{c nx:Int}(hc:nth K i=c)(hb:ini c=true)(hx:nx=nextOf (top e.st).lv (oddOf K i)) :
 (fits e nx=true→embStep K base i e={ hold e i with op:=e.op+1,st:=e.st++[⟨nx,-1,true⟩] }) ∧
 (fits e nx=false→embStep K base i e={ hold e i with mi:=e.mi+1 }):=by
 have hn:=(ini_not hb).1;subst hc;subst hx;refine⟨fun h=>?_,fun h=>?_⟩
 ·rw[embStep,if_neg (by rw[hn];exact Bool.false_ne_true),if_pos hb,if_pos h]
 ·rw[embStep,if_neg (by rw[hn];exact Bool.false_ne_true),if_pos hb,if_neg (by rw[h];exact Bool.false_ne_true)]
theorem emb_pdf {K:List Int}{base:Int}{i:Nat}{e:Emb}(hc:nth K i=18) :
 (0<e.mi→embStep K base i e=e) ∧
 (e.mi=0→0<e.me→embStep K base i e={ e with me:=e.me - 1 }) ∧
 (e.mi=0→e.me=0→(top e.st).iso=false→1<e.st.length→embStep K base i e={ e with st:=e.st.dropLast }) ∧
 (e.mi=0→e.me=0→((top e.st).iso=true∨e.st.length≤1)→embStep K base i e=e):=by
 have h1:begins (nth K i)=false:=by rw[hc];rfl
 have h2:ini (nth K i)=false:=by rw[hc];rfl
 have h3:¬nth K i=22:=by omega
 refine⟨fun h=>?_,fun h h'=>?_,fun h h' h4 h5=>?_,fun h h' h4=>?_⟩
 ·rw[embStep,h1,if_neg Bool.false_ne_true,h2,if_neg Bool.false_ne_true,if_neg h3,if_pos hc,if_pos h]
 ·rw[embStep,h1,if_neg Bool.false_ne_true,h2,if_neg Bool.false_ne_true,if_neg h3,if_pos hc,if_neg (by omega),if_pos h']
 ·rw[embStep,h1,if_neg Bool.false_ne_true,h2,if_neg Bool.false_ne_true,if_neg h3,if_pos hc,if_neg (by omega),if_neg (by omega),if_pos (by rw[h4];simpa using h5)]
 ·rw[embStep,h1,if_neg Bool.false_ne_true,h2,if_neg Bool.false_ne_true,if_neg h3,if_pos hc,if_neg (by omega),if_neg (by omega),if_neg (by
   rcases h4 with h4 | h4
   ·rw[h4];simp
   ·simp;omega)]
theorem emb_b {K:List Int}{base:Int}{i:Nat}{e:Emb}(hc:nth K i=10):embStep K base i e={ e with L:=e.L.set i base }:=by
 rw[embStep,hc];rfl
theorem emb_bn {K:List Int}{base:Int}{i:Nat}{e:Emb}(hc:nth K i=9):embStep K base i e=e:=by
 rw[embStep,hc];rfl
theorem emb_else {K:List Int}{base:Int}{i:Nat}{e:Emb}(h1:begins (nth K i)=false)(h2:ini (nth K i)=false)(h3:¬nth K i=22)(h4:¬nth K i=18)(h5:¬nth K i=10)(h6:¬nth K i=9):embStep K base i e=hold e i:=by
 rw[embStep,h1,if_neg Bool.false_ne_true,h2,if_neg Bool.false_ne_true,if_neg h3,if_neg h4,if_neg h5,if_neg h6]
theorem openAt_len (K:List Int):∀k,(openAt K k).length≤k
 | 0=>by simp[openAt]
 | k+1=>by
   have ih:=openAt_len K k;rw[openAt];split
   ·simp;omega
   ·split
    ·simp;omega
    ·omega
theorem dl_take (st:List Ent)(m:Nat)(h:st.length=m+1):st.dropLast=st.take m:=by rw[List.dropLast_eq_take,h];rfl
theorem pop_step {st:List Ent}{m:Nat}(h:st.length=m+1):((top st).iso=true→popI st.length st=st.take m)∧((top st).iso=false→popI st.length st=popI (st.take m).length (st.take m)):=by
 have hl:(st.take m).length=m:=by rw[List.length_take];omega
 refine⟨fun h1=>?_,fun h1=>?_⟩
 ·rw[h,popI,if_pos h1,dl_take st m h]
 ·rw[h,popI,if_neg (by rw[h1];exact Bool.false_ne_true),dl_take st m h,hl]
theorem rev_top {st:List Ent}{m:Nat}(h:st.length=m+1):st.reverse=top st :: (st.take m).reverse:=by
 have hne:st≠[]:=by intro e;subst e;simp at h
 have:st=st.take m++[top st]:=by
  conv=>lhs;rw[←List.take_append_drop m st]
  congr 1
  rw[top,h];simp only[Nat.add_sub_cancel];rw[List.drop_eq_getElem_cons (by omega),List.drop_of_length_le (by omega),List.getElem?_eq_getElem (by omega)];rfl
 conv=>lhs;rw[this]
 rw[List.reverse_append];rfl
theorem iso_take {st:List Ent}{m:Nat}(h:st.length=m+1)(h1:(top st).iso=false)(h2:0<isoN st.reverse):0<isoN (st.take m).reverse:=by
 rw[rev_top h,isoN,h1]at h2;simpa using h2
theorem iso_pos {st:List Ent}(h:0<isoN st.reverse):0<st.length:=by
 rcases st with _ | ⟨x,r⟩
 ·simp[isoN]at h
 ·simp
theorem st_pos {st:List Ent}(h:StOk st.reverse):0<st.length:=by
 rcases st with _ | ⟨x,r⟩
 ·exact absurd rfl h.ne
 ·simp
theorem pop_pos {st:List Ent}(h:StOk st.reverse)(hi:0<isoN st.reverse):StOk (popI st.length st).reverse:=by
 rw[popI_rev _ _ (Nat.le_refl _)];exact h.popR hi
end Go.Proofs.YtnakejhohdbfdacGreatDoor.Lev

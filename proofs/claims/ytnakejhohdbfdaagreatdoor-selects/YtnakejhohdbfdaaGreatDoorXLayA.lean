import Derived.Test.YtnakejhohdbfdaaGreatDoorXMa
import Derived.Test.YtnakejhohdbfdaaGreatDoorXMd
namespace Go.Proofs.YtnakejhohdbfdaaGreatDoor.Lay
def turnA (p:Nat→Bool):List Nat→List Nat→List Nat
 | acc,[]=>acc
 | acc,x :: l=>if p x then turnA p (x :: acc) l else acc++x :: turnA p [] l
def turn (p:Nat→Bool)(l:List Nat):List Nat:=turnA p [] l
theorem turnA_all (p:Nat→Bool):∀(l acc:List Nat),(∀x∈l,p x=true)→turnA p acc l=l.reverse++acc
 | [],acc,_=>rfl
 | x :: l,acc,h=>by
   rw[turnA,if_pos (h x (by simp)),turnA_all p l _ (fun y hy=>h y (by simp[hy]))];simp
theorem turnA_stop (p:Nat→Bool)(x:Nat)(b:List Nat)(hx:p x=false):∀(a acc:List Nat),turnA p acc (a++x :: b)=turnA p acc a++x :: turn p b
 | [],acc=>by show turnA p acc (x :: b)=acc++x :: turnA p [] b;rw[turnA.eq_2,if_neg (by rw[hx];exact Bool.false_ne_true)]
 | y :: a,acc=>by
   rw[List.cons_append,turnA,turnA];by_cases hy:p y=true
   ·rw[if_pos hy,if_pos hy];exact turnA_stop p x b hx a _
   ·rw[if_neg hy,if_neg hy,turnA_stop p x b hx a []];simp
theorem turn_stop (p:Nat→Bool)(x:Nat)(a b:List Nat)(hx:p x=false):turn p (a++x :: b)=turn p a++x :: turn p b:=turnA_stop p x b hx a []
theorem turn_all (p:Nat→Bool)(l:List Nat)(h:∀x∈l,p x=true):turn p l=l.reverse:=by rw[turn,turnA_all p l [] h];simp
theorem turn_snoc (p:Nat→Bool)(x:Nat)(a:List Nat)(hx:p x=false):turn p (a++[x])=turn p a++[x]:=by
 rw[turn_stop p x a [] hx];rfl
def shut (p:Nat→Bool)(a:List Nat):Prop:=a=[]∨∃b x,a=b++[x]∧p x=false
theorem turn_run (p:Nat→Bool)(a r:List Nat)(ha:shut p a)(hr:∀x∈r,p x=true):turn p (a++r)=turn p a++r.reverse:=by
 rcases ha with rfl | ⟨b,x,rfl,hx⟩
 ·rw[List.nil_append,turn_all p r hr];rfl
 ·rw[List.append_assoc,List.singleton_append,turn_stop p x b r hx,turn_snoc p x b hx,turn_all p r hr];simp
theorem turn_turnA (p:Nat→Bool):∀(l acc:List Nat),(∀x∈acc,p x=true)→turn p (turnA p acc l)=acc.reverse++l
 | [],acc,h=>by rw[turnA,turn_all p acc h];simp
 | x :: l,acc,h=>by
   rw[turnA];by_cases hx:p x=true
   ·rw[if_pos hx,turn_turnA p l (x :: acc) (fun y hy=>by rcases List.mem_cons.1 hy with e | hy <;> first | exact e ▸ hx | exact h y hy)];simp
   ·have hx':p x=false:=by simpa using hx
    rw[if_neg hx,turn_stop p x _ _ hx',turn_all p acc h,turn_turnA p l [] (fun y hy=>by cases hy)];simp
theorem turn_turn (p:Nat→Bool)(l:List Nat):turn p (turn p l)=l:=by
 have:=turn_turnA p l [] (fun y hy=>by cases hy);simpa[turn] using this
theorem turnA_perm (p:Nat→Bool):∀(l acc:List Nat),(turnA p acc l).Perm (acc++l)
 | [],acc=>by rw[turnA,List.append_nil]
 | x :: l,acc=>by
   rw[turnA];split
   ·refine(turnA_perm p l (x :: acc)).trans ?_
    rw[List.cons_append];exact(List.perm_middle (a:=x) (l₁:=acc) (l₂:=l)).symm
   ·refine List.Perm.append_left acc ?_
    exact List.Perm.cons x (by simpa using turnA_perm p l [])
theorem turn_perm (p:Nat→Bool)(l:List Nat):(turn p l).Perm l:=by simpa[turn] using turnA_perm p l []
theorem turnA_map (p:Nat→Bool)(f:Nat→Nat):∀(l acc:List Nat),turnA p (acc.map f) (l.map f)=(turnA (fun x=>p (f x)) acc l).map f
 | [],acc=>rfl
 | x :: l,acc=>by
   rw[List.map_cons,turnA,turnA];by_cases hx:p (f x)=true
   ·rw[if_pos hx,if_pos hx];exact turnA_map p f l (x :: acc)
   ·rw[if_neg hx,if_neg hx,List.map_append,List.map_cons];exact congrArg _ (congrArg _ (turnA_map p f l []))
theorem turn_map (p:Nat→Bool)(f:Nat→Nat)(l:List Nat):turn p (l.map f)=(turn (fun x=>p (f x)) l).map f:=turnA_map p f l []
theorem turnA_congr {p q:Nat→Bool}:∀(l acc:List Nat),(∀x∈l,p x=q x)→turnA p acc l=turnA q acc l
 | [],acc,_=>rfl
 | x :: l,acc,h=>by
   rw[turnA,turnA,h x (by simp),turnA_congr l _ (fun y hy=>h y (by simp[hy])),turnA_congr l _ (fun y hy=>h y (by simp[hy]))]
theorem turn_congr {p q:Nat→Bool}(l:List Nat)(h:∀x∈l,p x=q x):turn p l=turn q l:=turnA_congr l [] h
def deep (V:Nat→Int)(l:Nat)(x:Nat):Bool:=decide ((l:Int)≤V x)
def tds (V:Nat→Int)(m:Nat):Nat→List Nat→List Nat
 | 0,l=>l
 | k+1,l=>tds V m k (turn (deep V (m+k)) l)
theorem tds_perm (V:Nat→Int)(m:Nat):∀(k:Nat) (l:List Nat),(tds V m k l).Perm l
 | 0,_=>List.Perm.refl _
 | k+1,l=>(tds_perm V m k _).trans (turn_perm _ l)
theorem tds_app (V:Nat→Int)(m j:Nat):∀(k:Nat) (l:List Nat),tds V m (j+k) l=tds V m j (tds V (m+j) k l)
 | 0,l=>rfl
 | k+1,l=>by
   rw[←Nat.add_assoc,tds,tds_app V m j k,tds,Nat.add_assoc m j k]
theorem tds_even (V:Nat→Int):∀(q:Nat) (l:List Nat),(∀x∈l,∀j:Nat,j<q→V x≠2 * (j:Int)+1)→tds V 1 (2 * q) l=l
 | 0,l,_=>rfl
 | q+1,l,h=>by
   rw[show 2 * (q+1)=(2 * q+1)+1 by omega,tds,tds];have e:turn (deep V (1+2 * q)) (turn (deep V (1+(2 * q+1))) l)=l:=by
    rw[turn_congr (q:=deep V (1+(2 * q+1))) (turn (deep V (1+(2 * q+1))) l) ?_,turn_turn];intro x hx;have hm:x∈l:=(turn_perm _ l).mem_iff.1 hx;have:=h x hm q (by omega);unfold deep;exact decide_eq_decide.2 (by omega)
   rw[e];exact tds_even V q l fun x hx j hj=>h x hx j (by omega)
theorem tds_least (V:Nat→Int)(l:List Nat)(top q:Nat)(hq:2 * q+1≤top)(ho:∀x∈l,∀j:Nat,j<q→V x≠2 * (j:Int)+1):tds V 1 top l=tds V (2 * q+1) (top - 2 * q) l:=by
 rw[show top=2 * q+(top - 2 * q) by omega,tds_app V 1 (2 * q) (top - 2 * q),show 2 * q+(top - 2 * q) - 2 * q=top - 2 * q by omega,Nat.add_comm 1 (2 * q)];exact tds_even V q _ fun x hx j hj=>ho x ((tds_perm V _ _ l).mem_iff.1 hx) j hj
theorem tds_none (V:Nat→Int)(l:List Nat)(top:Nat)(he:top % 2=0)(ho:∀x∈l,∀j:Nat,V x≠2 * (j:Int)+1):tds V 1 top l=l:=by
 rw[show top=2 * (top / 2) by omega];exact tds_even V _ l fun x hx j _=>ho x hx j
theorem tds_map (V:Nat→Int)(f:Nat→Nat)(m:Nat):∀(k:Nat) (l:List Nat),tds V m k (l.map f)=(tds (fun x=>V (f x)) m k l).map f
 | 0,l=>rfl
 | k+1,l=>by rw[tds,turn_map,tds_map V f m k];rfl
theorem tds_congr {V U:Nat→Int}(m:Nat):∀(k:Nat) (l:List Nat),(∀x∈l,V x=U x)→tds V m k l=tds U m k l
 | 0,l,_=>rfl
 | k+1,l,h=>by
   rw[tds,tds,turn_congr (q:=deep U (m+k)) l (fun x hx=>by unfold deep;rw[h x hx])];exact tds_congr m k _ fun x hx=>h x ((turn_perm _ l).mem_iff.1 hx)
def revR (l:List Nat)(a b:Nat):List Nat:=l.take a++((l.take b).drop a).reverse++l.drop b
def partsTo (p:Nat→Bool)(l:List Nat):Nat→List (Nat × Nat) × Nat
 | 0=>([],0)
 | g+1 =>
   if g<l.length∧p (l[g]?.getD 0)=true then partsTo p l g
   else(if(partsTo p l g).2<g then(partsTo p l g).1++[((partsTo p l g).2,g)]else(partsTo p l g).1,g+1)
def parts (p:Nat→Bool)(l:List Nat):List (Nat × Nat):=(partsTo p l (l.length+1)).1
def revs (l:List Nat)(m:List (Nat × Nat)):List Nat:=m.foldl (fun l x=>revR l x.1 x.2) l
theorem revs_snoc (l:List Nat)(m:List (Nat × Nat))(x:Nat × Nat):revs l (m++[x])=revR (revs l m) x.1 x.2:=by simp[revs]
theorem revR_length (l:List Nat)(a b:Nat)(h:a≤b)(hb:b≤l.length):(revR l a b).length=l.length:=by
 simp[revR];omega
theorem revR_mid (x r y:List Nat):revR (x++(r++y)) x.length (x.length+r.length)=x++(r.reverse++y):=by
 unfold revR;rw[List.take_left,←List.append_assoc,List.take_append_of_le_length (by simp),show x.length+r.length=(x++r).length by simp,List.drop_left,List.take_length,List.drop_left,List.append_assoc]
structure PartsOk (p:Nat→Bool)(l:List Nat)(g:Nat):Prop where
 le:(partsTo p l g).2≤g
 mid:∀x∈(l.take g).drop (partsTo p l g).2,p x=true
 sh:shut p (l.take (partsTo p l g).2)
 bound:∀x∈(partsTo p l g).1,x.1<x.2∧x.2<(partsTo p l g).2
 is:revs l (partsTo p l g).1=turn p (l.take (partsTo p l g).2)++l.drop (partsTo p l g).2
theorem take_split (l:List Nat)(a b:Nat)(h:a≤b):l.take b=l.take a++(l.take b).drop a:=by
 have:=(List.take_append_drop a (l.take b)).symm
 rwa [List.take_take,Nat.min_eq_left h]at this
theorem take_next (l:List Nat)(g:Nat)(h:g<l.length):l.take (g+1)=l.take g++[l[g]?.getD 0]:=by
 rw[List.take_add_one,List.getElem?_eq_getElem h];rfl
theorem drop_next (l:List Nat)(g:Nat)(h:g<l.length):l.drop g=(l[g]?.getD 0) :: l.drop (g+1):=by
 rw[List.drop_eq_getElem_cons h,List.getElem?_eq_getElem h];rfl
theorem parts_ok (p:Nat→Bool)(l:List Nat):∀g,g≤l.length→PartsOk p l g
 | 0,_=>⟨Nat.le_refl _,by simp,.inl (by simp[partsTo]),by simp[partsTo],by simp[partsTo,revs,turn,turnA]⟩
 | g+1,h=>by
   have ih:=parts_ok p l g (by omega);by_cases hp:p (l[g]?.getD 0)=true
   ·have e:partsTo p l (g+1)=partsTo p l g:=by rw[partsTo,if_pos ⟨by omega,hp⟩]
    refine⟨by rw[e];have:=ih.le;omega,?_,by rw[e];exact ih.sh,by rw[e];exact ih.bound,by rw[e];exact ih.is⟩;rw[e,take_next l g (by omega),List.drop_append_of_le_length (by rw[List.length_take];have:=ih.le;omega)];intro x hx;rw[List.mem_append,List.mem_singleton]at hx
    rcases hx with hx | rfl
    ·exact ih.mid x hx
    ·exact hp
   ·have hp':p (l[g]?.getD 0)=false:=by simpa using hp
    have e2:(partsTo p l (g+1)).2=g+1:=by rw[partsTo,if_neg (fun h=>hp h.2)]
    have e1:(partsTo p l (g+1)).1=if(partsTo p l g).2<g then(partsTo p l g).1++[((partsTo p l g).2,g)]else(partsTo p l g).1:=by rw[partsTo,if_neg (fun h=>hp h.2)]
    have hle:=ih.le;refine⟨by omega,by rw[e2];simp,?_,?_,?_⟩
    ·rw[e2,take_next l g (by omega)];exact .inr ⟨_,_,rfl,hp'⟩
    ·rw[e1,e2]
     intro x hx;split at hx
     ·rw[List.mem_append,List.mem_singleton]at hx
      rcases hx with hx | rfl
      ·have:=ih.bound x hx;omega
      ·dsimp only;omega
     ·have:=ih.bound x hx;omega
    ·rw[e1,e2]
     have hs:=take_split l (partsTo p l g).2 g hle;have ht:=turn_run p _ _ ih.sh ih.mid;rw[←hs]at ht;have hd:l.drop (partsTo p l g).2=(l.take g).drop (partsTo p l g).2++l.drop g:=by
      have h3:=List.take_append_drop (g - (partsTo p l g).2) (l.drop (partsTo p l g).2);rw[List.drop_drop,show(partsTo p l g).2+(g - (partsTo p l g).2)=g by omega,←List.drop_take]at h3;exact h3.symm
     have hx:turn p (l.take (g+1))++l.drop (g+1)=turn p (l.take (partsTo p l g).2)++(((l.take g).drop (partsTo p l g).2).reverse++l.drop g):=by
      rw[take_next l g (by omega),turn_snoc p _ _ hp',ht,drop_next l g (by omega)];simp
     rw[hx];split
     ·rename_i hlt
      rw[revs_snoc,ih.is,hd];have h1:(turn p (l.take (partsTo p l g).2)).length=(partsTo p l g).2:=by rw[(turn_perm p _).length_eq,List.length_take];omega
      have h2:((l.take g).drop (partsTo p l g).2).length=g - (partsTo p l g).2:=by rw[List.length_drop,List.length_take];omega
      have h3:=revR_mid (turn p (l.take (partsTo p l g).2)) ((l.take g).drop (partsTo p l g).2) (l.drop g);rw[h1,h2,show(partsTo p l g).2+(g - (partsTo p l g).2)=g by omega]at h3;exact h3
     ·have:(partsTo p l g).2=g:=by omega
      rw[ih.is,this];simp
theorem parts_turn (p:Nat→Bool)(l:List Nat):revs l (parts p l)=turn p l:=by
 have ih:=parts_ok p l l.length (Nat.le_refl _);unfold parts;have e1:(partsTo p l (l.length+1)).1=if(partsTo p l l.length).2<l.length then(partsTo p l l.length).1++[((partsTo p l l.length).2,l.length)]else(partsTo p l l.length).1:=by rw[partsTo,if_neg (fun h=>by omega)]
 have hle:=ih.le;have ht:=turn_run p _ _ ih.sh ih.mid;rw[←take_split l _ _ hle,List.take_length]at ht;rw[e1];split
 ·rename_i hlt
  rw[revs_snoc,ih.is,ht];have h1:(turn p (l.take (partsTo p l l.length).2)).length=(partsTo p l l.length).2:=by rw[(turn_perm p _).length_eq,List.length_take];omega
  have h3:=revR_mid (turn p (l.take (partsTo p l l.length).2)) (l.drop (partsTo p l l.length).2) [];rw[h1,List.length_drop,show(partsTo p l l.length).2+(l.length - (partsTo p l l.length).2)=l.length by omega,List.append_nil,List.append_nil]at h3;exact h3
 ·have:(partsTo p l l.length).2=l.length:=by omega
  rw[ih.is,this];simp
theorem parts_bound (p:Nat→Bool)(l:List Nat):∀x∈parts p l,x.1<x.2∧x.2≤l.length:=by
 have ih:=parts_ok p l l.length (Nat.le_refl _);have hle:=ih.le;intro x hx;unfold parts at hx;rw[partsTo,if_neg (fun h=>by omega)]at hx;dsimp only at hx;split at hx
 ·rw[List.mem_append,List.mem_singleton]at hx
  rcases hx with hx | rfl
  ·have:=ih.bound x hx;omega
  ·dsimp only;omega
 ·have:=ih.bound x hx;omega
def runEnd (p:Nat→Bool):List Nat→Nat
 | []=>0
 | x :: l=>if p x then runEnd p l+1 else 0
theorem runEnd_le (p:Nat→Bool):∀l,runEnd p l≤l.length
 | []=>Nat.le_refl _
 | x :: l=>by rw[runEnd];split <;> simp;exact runEnd_le p l
theorem runEnd_all (p:Nat→Bool):∀l:List Nat,∀x∈l.take (runEnd p l),p x=true
 | [],x,h=>by cases h
 | y :: l,x,h=>by
   rw[runEnd]at h;split at h
   ·rename_i hy
    rw[List.take_succ_cons,List.mem_cons]at h
    rcases h with rfl | h
    ·exact hy
    ·exact runEnd_all p l x h
   ·cases h
theorem runEnd_next (p:Nat→Bool):∀l,runEnd p l<l.length→p (l[runEnd p l]?.getD 0)=false
 | [],h=>by cases h
 | y :: l,h=>by
   rw[runEnd]at h ⊢;by_cases hy:p y=true
   ·rw[if_pos hy]at h ⊢
    rw[List.getElem?_cons_succ];exact runEnd_next p l (by simpa using h)
   ·rw[if_neg hy];simpa using hy
theorem turn_place (p:Nat→Bool)(l:List Nat)(i:Nat)(hi:i≤l.length)(hs:shut p (l.take i)∨runEnd p (l.drop i)=0) :
 revR (turn p (l.take i)++l.drop i) i (i+runEnd p (l.drop i))=turn p (l.take (i+runEnd p (l.drop i)))++l.drop (i+runEnd p (l.drop i)):=by
 have hr:=runEnd_le p (l.drop i);rw[List.length_drop]at hr;have h1:(turn p (l.take i)).length=i:=by rw[(turn_perm p _).length_eq,List.length_take];omega
 have h2:((l.drop i).take (runEnd p (l.drop i))).length=runEnd p (l.drop i):=by rw[List.length_take,List.length_drop];omega
 have h3:=revR_mid (turn p (l.take i)) ((l.drop i).take (runEnd p (l.drop i))) (l.drop (i+runEnd p (l.drop i)));rw[h1,h2,←List.drop_drop,List.take_append_drop]at h3;rw[h3,List.drop_drop,←List.append_assoc]
 congr 1
 rcases hs with hs | h0
 ·rw[List.take_add,turn_run p _ _ hs (runEnd_all p _)]
 ·rw[h0];simp
theorem shut_next (p:Nat→Bool)(l:List Nat)(i:Nat)(hi:i<l.length)(hp:p (l[i]?.getD 0)=false):shut p (l.take (i+1))∧turn p (l.take (i+1))++l.drop (i+1)=turn p (l.take i)++l.drop i:=by
 refine⟨.inr ⟨_,_,take_next l i hi,hp⟩,?_⟩;rw[take_next l i hi,turn_snoc p _ _ hp,drop_next l i hi];simp
end Go.Proofs.YtnakejhohdbfdaaGreatDoor.Lay
namespace Go.Proofs.YtnakejhohdbfdaaGreatDoor.Lay
open Lev
def swp (l:List Nat)(a b:Nat):List Nat:=(l.set a (nix l b)).set b (nix l a)
def revTo (l:List Nat)(i j:Nat):Nat→List Nat
 | 0=>l
 | t+1=>swp (revTo l i j t) (i+t) (j - 1 - t)
theorem swp_len (l:List Nat)(a b:Nat):(swp l a b).length=l.length:=by simp[swp]
theorem revTo_len (l:List Nat)(i j:Nat):∀t,(revTo l i j t).length=l.length
 | 0=>rfl
 | t+1=>by rw[revTo,swp_len,revTo_len l i j t]
theorem nix_set {l:List Nat}{a x:Nat}(h:a<l.length)(k:Nat):nix (l.set a x) k=if k=a then x else nix l k:=by
 by_cases e:k=a
 ·subst e;rw[if_pos rfl,nix,List.getElem?_set_self h];rfl
 ·rw[if_neg e,nix,List.getElem?_set_ne (fun h=>e h.symm)]
theorem revTo_at (l:List Nat)(i j:Nat)(hj:j≤l.length):∀t,i+2 * t≤j→∀k,nix (revTo l i j t) k=if(i≤k∧k<i+t)∨(j - t≤k∧k<j)then nix l (i+j - 1 - k)else nix l k
 | 0,_,k=>by rw[if_neg (by omega)];rfl
 | t+1,ht,k=>by
   have ih:=revTo_at l i j hj t (by omega);have hl:=revTo_len l i j t;rw[revTo,swp,nix_set (by rw[List.length_set];omega),nix_set (by omega),ih,ih,ih];by_cases h1:k=j - 1 - t
   ·subst h1
    rw[if_pos rfl,if_neg (by omega),if_pos (by omega)]
    congr 1;omega
   ·rw[if_neg h1]
    by_cases h2:k=i+t
    ·subst h2
     rw[if_pos rfl,if_neg (by omega),if_pos (by omega)]
     congr 1;omega
    ·rw[if_neg h2]
     by_cases h3:(i≤k∧k<i+t)∨(j - t≤k∧k<j)
     ·rw[if_pos h3,if_pos (by omega)]
     ·rw[if_neg h3,if_neg (by omega)]
theorem revR_at (l:List Nat)(i j:Nat)(hij:i≤j)(hj:j≤l.length)(k:Nat):nix (revR l i j) k=if i≤k∧k<j then nix l (i+j - 1 - k)else nix l k:=by
 unfold revR nix;by_cases h1:k<i
 ·rw[if_neg (by omega),List.append_assoc,List.getElem?_append_left (by rw[List.length_take];omega),List.getElem?_take_of_lt h1]
 ·have hl1:(l.take i).length=i:=by rw[List.length_take];omega
  have hl2:((l.take j).drop i).reverse.length=j - i:=by rw[List.length_reverse,List.length_drop,List.length_take];omega
  by_cases h2:k<j
  ·rw[if_pos (by omega),List.append_assoc,List.getElem?_append_right (by omega),hl1,List.getElem?_append_left (by omega),List.getElem?_reverse (by rw[List.length_drop,List.length_take];omega),List.length_drop,List.length_take,List.getElem?_drop,List.getElem?_take_of_lt (by omega)]
   congr 2;omega
  ·rw[if_neg (by omega),List.getElem?_append_right (by rw[List.length_append];omega),List.length_append,hl1,hl2,List.getElem?_drop]
   congr 2;omega
theorem nix_ext {a b:List Nat}(hl:a.length=b.length)(h:∀k,k<a.length→nix a k=nix b k):a=b:=by
 apply List.ext_getElem hl;intro k h1 h2;have:=h k h1;simpa[nix,h1,h2] using this
theorem revTo_done (l:List Nat)(i j t:Nat)(hij:i≤j)(hj:j≤l.length)(h1:i+2 * t≤j)(h2:j≤i+2 * t+1):revTo l i j t=revR l i j:=by
 refine nix_ext (by rw[revTo_len,revR_length l i j hij hj]) fun k hk=>?_
 rw[revTo_at l i j hj t h1,revR_at l i j hij hj];by_cases h3:(i≤k∧k<i+t)∨(j - t≤k∧k<j)
 ·rw[if_pos h3,if_pos (by omega)]
 ·rw[if_neg h3]
  split
  ·congr 1;omega
  ·rfl
def topTo (V:Nat→Int):Nat→Int
 | 0=>0
 | k+1=>max (topTo V k) (V k)
theorem topTo_le (V:Nat→Int)(M:Int)(hM:0≤M)(h:∀k,V k≤M):∀k,0≤topTo V k∧topTo V k≤M
 | 0=>⟨Int.le_refl _,hM⟩
 | k+1=>by have:=topTo_le V M hM h k;have:=h k;rw[topTo];omega
theorem topTo_ge (V:Nat→Int):∀k i,i<k→V i≤topTo V k
 | 0,i,h=>by omega
 | k+1,i,h=>by
   rw[topTo]
   rcases Nat.lt_or_eq_of_le (Nat.le_of_lt_succ h)with h1 | h1
   ·have:=topTo_ge V k i h1;omega
   ·subst h1;omega
def ordD (V:Nat→Int)(n:Nat):List Nat:=tds V 1 (topTo V n).toNat (List.range n)
theorem ordD_perm (V:Nat→Int)(n:Nat):(ordD V n).Perm (List.range n):=tds_perm V 1 _ _
theorem ordD_len (V:Nat→Int)(n:Nat):(ordD V n).length=n:=by rw[(ordD_perm V n).length_eq,List.length_range]
theorem ordD_lt (V:Nat→Int)(n:Nat):∀x∈ordD V n,x<n:=fun _ hx=>List.mem_range.1 ((ordD_perm V n).mem_iff.1 hx)
theorem range_snoc (k:Nat):List.range (k+1)=List.range k++[k]:=List.range_succ
theorem nix_mem {l:List Nat}{k:Nat}(h:k<l.length):nix l k∈l:=by rw[nix,List.getElem?_eq_getElem h];exact List.getElem_mem _
end Go.Proofs.YtnakejhohdbfdaaGreatDoor.Lay
namespace Go.Proofs.YtnakejhohdbfdaaGreatDoor
open Go.RowKit Lev Lay
theorem intsN_set (l:List Nat)(a x:Nat):(intsN l).set a (.int .i64 (x:Nat))=intsN (l.set a x):=by simp[intsN,List.map_set]
theorem runEnd_drop (p:Nat→Bool)(X:List Nat)(i:Nat):runEnd p (X.drop (i+runEnd p (X.drop i)))=0:=by
 by_cases h:runEnd p (X.drop i)<(X.drop i).length
 ·have h1:=runEnd_next p _ h
  rw[List.getElem?_drop]at h1;rw[List.length_drop]at h;rw[drop_next X _ (by omega),runEnd,if_neg (by rw[h1];exact Bool.false_ne_true)]
 ·rw[List.length_drop]at h
  rw[List.drop_of_length_le (by omega)];rfl
theorem runEnd_in (p:Nat→Bool)(X:List Nat)(i d:Nat)(h:d<runEnd p (X.drop i)):p (nix X (i+d))=true:=by
 have hl:=runEnd_le p (X.drop i);rw[List.length_drop]at hl;refine runEnd_all p (X.drop i) _ ?_;have e:nix X (i+d)=nix ((X.drop i).take (runEnd p (X.drop i))) d:=by rw[nix,nix,List.getElem?_take_of_lt h,List.getElem?_drop]
 rw[e];exact nix_mem (by rw[List.length_take,List.length_drop];omega)
theorem runEnd_out (p:Nat→Bool)(X:List Nat)(i:Nat)(h:i+runEnd p (X.drop i)<X.length):p (nix X (i+runEnd p (X.drop i)))=false:=by
 have:=runEnd_next p (X.drop i) (by rw[List.length_drop];omega)
 rwa [List.getElem?_drop]at this
theorem placed_at (p:Nat→Bool)(X:List Nat)(i j:Nat)(hi:i≤j)(hj:j<X.length):nix (turn p (X.take i)++X.drop i) j=nix X j:=by
 have h1:(turn p (X.take i)).length=i:=by rw[(turn_perm p _).length_eq,List.length_take];omega
 rw[nix,List.getElem?_append_right (by omega),h1,List.getElem?_drop,show i+(j - i)=j by omega]
set_option maxRecDepth 10000 in
set_option maxHeartbeats 4000000 in
theorem ord_any (V:List Int)(n g cap:Nat)(w:World)(hn0:0<n)(hn:n≤1000)(hV:rowAt w g n V)(hb:∀i,0≤nth V i∧nth V i≤1000) :
 Calls Tryz.prog 165 #[.slice (some ⟨g,0,none⟩) n cap] w fun e w'=>∃go c,e=.returned (.slice (some ⟨go,0,none⟩) n c)∧w'.ownsRow w.heap.size 3 1 (.slice (some ⟨go,0,none⟩) n c) n (intsN (ordD (nth V) n))∧Fr [] w w':=by
 obtain⟨i0,hi,hz0,hz1,hz2⟩:=info_parts info3;have HV:=hid hV;have HB:=hid hb;have HT:=hid (topTo_le (nth V) 1000 (by omega) (fun k=>(hb k).2));obtain⟨R,hR⟩:∃R,R=ordD (nth V) n:=⟨_,rfl⟩;rw[←hR];have HR:=hid hR;clear hV hb hR;go_enter Tryz.func165,Tryz.ntmps165;go_wp2_with fail;go_loopw [3,4,5] (fun v t i wr=>∃k:Nat,k≤n∧i=.int .i64 k∧t=.int .i64 (topTo (nth V) k)∧Hid (wr.ownsRow w.heap.size 3 1 v k (intsN (List.range k)))∧Hid (Fr [] w wr)) (fun _ _ i _=>n - (intOf i).toNat)
 case atStart=>exact⟨0,Nat.zero_le _,rfl,rfl,hid (World.ownsRow_nil _ _ _ _),hid (Fr.refl _ _)⟩
 case round =>
  obtain⟨k,hk,rfl,rfl,HO,HF⟩:=hrel;by_cases hkn:k<n
  ·have c1:=(HV.out.fr HF.out List.not_mem_nil) k hkn
   have hkI:(k:Int)<(n:Int):=by omega
   have HT1:=hid (show topTo (nth V) (k+1)=max (topTo (nth V) k) (nth V k)from rfl);generalize topTo (nth V) k=t at HT1;have HO2:=hid (HO.out.alloc (.cells #[.int .i64 (k:Nat)] 3));have hsz:=HF.out.size;have HVk:=hid (fun(w':World) (hf:Fr [] w w')=>(HV.out.fr hf List.not_mem_nil) k hkn);generalize nth V k=y at c1 HT1 HVk;go_wp2_with (at_builtin;refine wpList_append_own _ rfl _ _ 22 rfl w.heap.size 3 i0 _ 1 8 Tryz.underlying22 hi hz0 hz1 hz2 rfl (by decide) _ _ _ rfl HO2.out _ 1 1 [.int .i64 k] rfl rfl (news_at _ _ _ _ (by simp)) (one_cell _) (by unfold maxLen;omega) (by omega) (by simp;omega) ?_);intro v' w3 own3 hgrow hnil;have HF3:=hid ((HF.out.alloc _).grown hgrow (fun x h=>(HO2.out.lt x h).1));have c3:=HVk.out w3 HF3.out;have HO3:=hid (show w3.ownsRow w.heap.size 3 1 v' (k+1) (intsN (List.range (k+1))) by rw[range_snoc,←intsN_snoc];exact own3);clear own3 hgrow hnil c1 HVk;go_wp2_with (go_at_call 87;refine(ref35_any _ _ _).mono ?_;rintro e w' ⟨rfl,rfl⟩);go_roundw
   case rel=>exact⟨k+1,by omega,by go_num,by rw[HT1.out],HO3,HF3⟩
   case measure=>simp[intOf];omega
  ·obtain rfl:k=n:=by omega
   obtain⟨go,co,hvo⟩:=owns_shape hn0 HO.out;subst hvo;have ht:=HT.out k;have HR1:=hid (show R=tds (nth V) 1 (topTo (nth V) k).toNat (List.range k)from HR.out);generalize topTo (nth V) k=tt at ht HR1;obtain⟨t,rfl⟩:=Int.eq_ofNat_of_zero_le ht.1;rw[Int.toNat_natCast]at HR1;have ht2:t≤1000:=by omega
   clear ht HR HT;go_wp2_with fail;go_loopw [6] (fun l wx=>∃(m:Nat) (X:List Nat),l=.int .i64 m∧m≤t∧Hid (wx.ownsRow w.heap.size 3 1 (.slice (some ⟨go,0,none⟩) k co) k (intsN X))∧Hid (Fr [] w wx)∧Hid (X.Perm (List.range k))∧Hid (tds (nth V) 1 m X=R)) (fun l _=>(intOf l).toNat)
   case atStart=>exact⟨t,List.range k,rfl,Nat.le_refl _,HO,HF,hid (List.Perm.refl _),hid HR1.out.symm⟩
   case round =>
    obtain⟨m,X,rfl,hm,HX,HFX,HP,HTD⟩:=hrel;have hXl:X.length=k:=by rw[HP.out.length_eq,List.length_range]
    have HXL:=hid hXl;have HXlt:=hid (fun j (hj:j<k)=>List.mem_range.1 (HP.out.mem_iff.1 (nix_mem (l:=X) (k:=j) (by omega))));clear hXl;by_cases hm0:0<m
    ·have hmI:(1:Int)≤(m:Int):=by omega
     obtain⟨p,hp⟩:∃p,p=deep (nth V) m:=⟨_,rfl⟩;have HPp:=hid (fun x=>show p x=decide ((m:Int)≤nth V x) by rw[hp];rfl)
     have HTD1:=hid (show tds (nth V) 1 (m - 1) (turn p X)=R by
      have h:=HTD.out
      rw[show m=(m - 1)+1 by omega,tds,show 1+(m - 1)=m by omega,←hp]at h
      exact h)
     clear hp HTD;go_wp2_with fail;go_loopw [7] (fun ii wy=>∃(i:Nat),ii=.int .i64 i∧i≤k∧Hid (wy.ownsRow w.heap.size 3 1 (.slice (some ⟨go,0,none⟩) k co) k (intsN (turn p (X.take i)++X.drop i)))∧Hid (Fr [] w wy)∧Hid (shut p (X.take i)∨runEnd p (X.drop i)=0)) (fun ii _=>k - (intOf ii).toNat)
     case atStart=>exact⟨0,rfl,Nat.zero_le _,HX,HFX,hid (.inl (.inl rfl))⟩
     case round =>
      obtain⟨i,rfl,hik,HY,HFY,HSH⟩:=hrel;by_cases hikn:i<k
      ·have hikI:(i:Int)<(k:Int):=by omega
       obtain⟨r,hr⟩:∃r,r=runEnd p (X.drop i):=⟨_,rfl⟩;have hrk:i+r≤k:=by have h:=runEnd_le p (X.drop i);rw[List.length_drop,HXL.out]at h;omega
       have HRR:=hid hr;clear hr
       have HYc:=hid (fun j (h1:i≤j) (h2:j<k)=>show wr.cell? ⟨go,j,none⟩=some (.int .i64 (nix X j:Nat)) by
        have hl:(turn p (X.take i)++X.drop i).length=k:=by rw[List.length_append,(turn_perm p _).length_eq,←List.length_append,List.take_append_drop,HXL.out]
        rw[HY.out.cellAt j (by omega),intsN_at (by omega),placed_at p X i j h1 (by rw[HXL.out];exact h2)])
       go_wp2_with fail;go_loop [8] (fun jj=>∃d:Nat,d≤r∧jj=.int .i64 (i+d:Nat)) (fun jj=>i+r - (intOf jj).toNat)
       case atStart=>exact⟨0,Nat.zero_le _,rfl⟩
       case round =>
        obtain⟨d,hd,rfl⟩:=hrel;by_cases hdr:d<r
        ·have hpx:=HPp.out (nix X (i+d))
         rw[runEnd_in p X i d (by rw[←HRR.out];exact hdr)]at hpx;have c1:=HYc.out (i+d) (by omega) (by omega);have hxk:=HXlt.out (i+d) (by omega);have c2:=(HV.out.fr HFY.out List.not_mem_nil) (nix X (i+d)) hxk;have hjI:((i+d:Nat):Int)<(k:Int):=by omega
         have hmx:(m:Int)≤nth V (nix X (i+d)):=of_decide_eq_true hpx.symm;clear hpx;generalize nth V (nix X (i+d))=y at c2 hmx;generalize nix X (i+d)=x at c1 c2 hxk;generalize hj:i+d=j at *;have HJ:=hid hj;have hxI:(x:Int)<(k:Int):=by omega
         clear hj;go_wp2;go_round
         case rel=>exact⟨d+1,by omega,by rw[←Nat.add_assoc,HJ.out];go_num⟩
         case measure=>simp[intOf];have:=HJ.out;omega
        ·obtain rfl:d=r:=by omega
         have hdl:=hid (turn_place p X i (by rw[HXL.out];omega) HSH.out);rw[←HRR.out]at hdl;have HZ0:=HY;have HYL:=hid (show(turn p (X.take i)++X.drop i).length=k by rw[List.length_append,(turn_perm p _).length_eq,←List.length_append,List.take_append_drop,HXL.out]);generalize turn p (X.take i)++X.drop i=Y at HZ0 hdl HYL;by_cases hjk:i+d<k
         all_goals (
          first
          | (have c1:=HYc.out (i+d) (by omega) hjk
             have hpx:=HPp.out (nix X (i+d))
             have hpo:=runEnd_out p X i (by rw[←HRR.out,HXL.out];exact hjk)
             rw[←HRR.out]at hpo
             rw[hpo]at hpx
             have hmx:¬(m:Int)≤nth V (nix X (i+d)):=of_decide_eq_false hpx.symm
             have hxk:=HXlt.out (i+d) hjk
             have c2:=(HV.out.fr HFY.out List.not_mem_nil) (nix X (i+d)) hxk
             have HNP:=hid hpo
             clear hpx hpo
             generalize nth V (nix X (i+d))=y at c2 hmx
             generalize hxx:nix X (i+d)=x at c1 c2 hxk
             clear hxx
             have hxI:(x:Int)<(k:Int):=by omega
             have hjI:((i+d:Nat):Int)<(k:Int):=by omega)
          | (have hjI:¬((i+d:Nat):Int)<(k:Int):=by omega
             have hjI2:decide (((i+d:Nat):Int)<(k:Int))=false:=decide_eq_false hjI
             have HNP:Hid True:=trivial)
          generalize hj:i+d=j at *
          have HJ:=hid hj
          clear hj
          go_wp2_with fail
          have hjL:j≤k:=by omega
          have hij:i≤j:=by have:=HJ.out;omega
          go_loopw [9,10] (fun aa bb wz=>∃q:Nat,aa=.int .i64 (i+q:Nat)∧bb=.int .i64 ((j:Int) - 1 - q)∧i+2 * q≤j∧Hid (wz.ownsRow w.heap.size 3 1 (.slice (some ⟨go,0,none⟩) k co) k (intsN (revTo Y i j q)))∧Hid (Fr [] w wz)) (fun aa bb _=>(intOf bb - intOf aa+1).toNat)
          case atStart=>exact⟨0,rfl,by simp,by omega,HZ0,HFY⟩
          case round =>
               obtain⟨q,rfl,rfl,hq,HZ,HFZ⟩:=hrel
               by_cases hab:i+2 * q+1<j
               ·have hl:=revTo_len Y i j q
                rw[HYL.out]at hl
                have c1:=HZ.out.cellAt (i+q) (by omega)
                have c2:=HZ.out.cellAt (j - 1 - q) (by omega)
                rw[intsN_at (by omega)]at c1 c2
                have f1:=HZ.out.frozenAt (i+q)
                have f2:=HZ.out.frozenAt (j - 1 - q)
                have HS:=hid (show revTo Y i j (q+1)=((revTo Y i j q).set (i+q) (nix (revTo Y i j q) (j - 1 - q))).set (j - 1 - q) (nix (revTo Y i j q) (i+q))from rfl)
                generalize nix (revTo Y i j q) (i+q)=xa at *
                generalize nix (revTo Y i j q) (j - 1 - q)=xb at *
                have hbI:(j:Int) - 1 - q=((j - 1 - q:Nat):Int):=by omega
                have h1:((i+q:Nat):Int)<((j - 1 - q:Nat):Int):=by omega
                have h2:((i+q:Nat):Int)<(k:Int):=by omega
                have h3:((j - 1 - q:Nat):Int)<(k:Int):=by omega
                have hne:i+q≠j - 1 - q:=by omega
                rw[hbI]
                have HQ:=hid (show(i+(q+1)=(i+q)+1)∧((j:Int) - 1 - ((q+1:Nat):Int)=((j - 1 - q:Nat):Int) - 1)∧i+2 * (q+1)≤j from⟨by omega,by omega,by omega⟩)
                generalize i+q=aN at *
                generalize j - 1 - q=bN at *
                clear hbI
                go_wp2_with fail
                go_region
                go_wp2
                go_roundw
                case rel =>
                 refine⟨q+1,by rw[HQ.out.1];go_num,by rw[HQ.out.2.1],HQ.out.2.2,?_,?_⟩
                 ·rw[HS.out,←intsN_set,←intsN_set]
                  exact hid ((HZ.out.stored aN _).1.stored bN _).1
                 ·have e1:=(HZ.out.stored aN (.int .i64 (xb:Nat)))
                  have e2:=(e1.1.stored bN (.int .i64 (xa:Nat)))
                  exact hid (((HFZ.out.grown e1.2 (fun x h=>by cases h;exact(owns_at HZ.out).1)).grown e2.2 (fun x h=>by cases h;exact(owns_at HZ.out).1)).drew)
                case measure=>simp[intOf];have:=HQ.out;omega
               ·have HD:=hid (revTo_done Y i j q hij (by rw[HYL.out];exact hjL) hq (by omega))
                have hbI:¬((i+q:Nat):Int)<(j:Int) - 1 - q:=by omega
                have HW:=hid (show wr.ownsRow w.heap.size 3 1 (.slice (some ⟨go,0,none⟩) k co) k (intsN (turn p (X.take j)++X.drop j)) by rw[←hdl.out,←HD.out];exact HZ.out)
                by_cases hji:i<j
                ·have hjiI:(i:Int)<(j:Int):=by omega
                 have hj1:(j:Int) - 1+1=j:=by omega
                 generalize ((i+q:Nat):Int)=aa at *
                 generalize (j:Int) - 1 - q=bb at *
                 go_wp2
                 go_roundw
                 case rel=>exact⟨j,by first | rfl | (rw[hj1];rfl) | go_num,by omega,HW,HFZ,hid (.inr (by rw[←HJ.out,HRR.out];exact runEnd_drop p X i))⟩
                 case measure=>simp[intOf];omega
                ·have hje:j=i:=by omega
                 have hjiI:¬(i:Int)<(j:Int):=by omega
                 have hpi:p (X[i]?.getD 0)=false:=by
                  have h0:=runEnd_out p X i (by rw[←HRR.out,HXL.out];have:=HJ.out;omega)
                  rw[←HRR.out,HJ.out,hje]at h0
                  exact h0
                 have hsn:=shut_next p X i (by rw[HXL.out];omega) hpi
                 have HW2:=hid (show wr.ownsRow w.heap.size 3 1 (.slice (some ⟨go,0,none⟩) k co) k (intsN (turn p (X.take (i+1))++X.drop (i+1))) by rw[hsn.2,←hje];exact HW.out)
                 have HSN:=hid hsn.1
                 clear hsn hpi hje
                 generalize ((i+q:Nat):Int)=aa at *
                 generalize (j:Int) - 1 - q=bb at *
                 go_wp2
                 go_roundw
                 case rel=>exact⟨i+1,by go_num,by omega,HW2,HFZ,hid (.inl HSN.out)⟩
                 case measure=>simp[intOf];omega)
      ·obtain rfl:i=k:=by omega
       have HW:=hid (show wr.ownsRow w.heap.size 3 1 (.slice (some ⟨go,0,none⟩) i co) i (intsN (turn p X)) by
        have h:=HY.out
        rw[List.take_of_length_le (by rw[HXL.out];exact Nat.le_refl _),List.drop_of_length_le (by rw[HXL.out];exact Nat.le_refl _),List.append_nil]at h
        exact h)
       have hm1:(m:Int) - 1=((m - 1:Nat):Int):=by omega
       go_wp2;go_roundw
       case rel=>exact⟨m - 1,turn p X,by first | rfl | rw[hm1],by omega,HW,HFY,hid ((turn_perm p X).trans HP.out),HTD1⟩
       case measure=>simp[intOf];omega
    ·obtain rfl:m=0:=by omega
     go_wp2;go_ret;exact⟨go,co,rfl,by rw[←HTD.out];exact HX.out,HFX.out⟩
end Go.Proofs.YtnakejhohdbfdaaGreatDoor

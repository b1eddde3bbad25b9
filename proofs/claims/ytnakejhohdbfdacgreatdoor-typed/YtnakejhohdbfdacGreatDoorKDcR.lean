import Derived.Test.YtnakejhohdbfdacGreatDoorKDcL
namespace Go.Proofs.YtnakejhohdbfdacGreatDoor.Cls.Dc
open Go.RowKit Dec Kin Bnd Lay Lev
theorem get_appL (a b:ByteArray){i:Nat}(h:i<a.size):(a++b).get! i=a.get! i:=by
 show((a++b).data[i]!)=(a.data[i]!);rw[ByteArray.data_append];have h':i<a.data.size:=h;rw[getElem!_pos (a.data++b.data) i (by rw[Array.size_append];omega),getElem!_pos a.data i h'];exact Array.getElem_append_left h'
theorem get_appR (a b:ByteArray){i:Nat}(h:i<b.size):(a++b).get! (a.size+i)=b.get! i:=by
 show((a++b).data[a.data.size+i]!)=(b.data[i]!);rw[ByteArray.data_append];have h':i<b.data.size:=h;rw[getElem!_pos (a.data++b.data) (a.data.size+i) (by rw[Array.size_append];omega),getElem!_pos b.data i h',Array.getElem_append_right (by omega)]
 congr 1
 omega
def ltr (q:Nat):ByteArray:=if q=1 then⟨#[215,144]⟩else if q=2 then⟨#[49]⟩else⟨#[97]⟩
def rn (q:Nat):Nat:=if q=1 then 1488 else if q=2 then 49 else 97
def tx:List Nat→ByteArray
 | []=>⟨#[]⟩
 | q :: l=>tx l++ltr q
theorem q3 (q:Nat):(ltr q=⟨#[215,144]⟩∧rn q=1488)∨(ltr q=⟨#[49]⟩∧rn q=49)∨(ltr q=⟨#[97]⟩∧rn q=97):=by
 unfold ltr rn;split
 ·exact .inl ⟨rfl,rfl⟩
 ·split
  ·exact .inr (.inl ⟨rfl,rfl⟩)
  ·exact .inr (.inr ⟨rfl,rfl⟩)
theorem ltr_size (q:Nat):1≤(ltr q).size∧(ltr q).size≤2:=by
 rcases q3 q with⟨e,_⟩ | ⟨e,_⟩ | ⟨e,_⟩ <;> rw[e] <;> decide
structure LT (s:ByteArray)(n:Nat)(p q:Nat→Nat):Prop where
 z:p 0=0
 e:p n=s.size
 st:∀k,k<n→p (k+1)=p k+(ltr (q k)).size
 b:∀k,k<n→∀i,i<(ltr (q k)).size→s.get! (p k+i)=(ltr (q k)).get! i
theorem LT.le {s:ByteArray}{n:Nat}{p q:Nat→Nat}(h:LT s n p q):∀d k,k+d=n→p k+d≤s.size
 | 0,k,e=>by rw[←h.e,←e];exact Nat.le_refl _
 | d+1,k,e=>by
   have h1:=LT.le h d (k+1) (by omega);have h2:=h.st k (by omega);have h3:=(ltr_size (q k)).1;omega
theorem LT.dec {s:ByteArray}{n:Nat}{p q:Nat→Nat}(h:LT s n p q){k:Nat}(hk:k<n):Utf8.decode s (p k)=(rn (q k),(ltr (q k)).size):=by
 have hst:=h.st k hk;have hle:=LT.le h (n - (k+1)) (k+1) (by omega);have hb:=h.b k hk;generalize p k=x at *
 rcases q3 (q k)with⟨e,e2⟩ | ⟨e,e2⟩ | ⟨e,e2⟩ <;> rw[e]at hb hst <;> rw[e,e2]
 ·have b0:(s.get! x).toNat=215:=by rw[show s.get! x=_ from hb 0 (by decide)];rfl
  have b1:(s.get! (x+1)).toNat=144:=by rw[hb 1 (by decide)];rfl
  have hsz:(ByteArray.mk #[215,144]).size=2:=rfl;rw[hsz]at hst ⊢;have h1:144 / 64=2:=rfl;simp only[Utf8.decode,Nat.add_zero,b0,b1,h1];rw[if_neg (by omega),if_pos (by simp;omega),if_pos (by omega)]
 ·have b0:(s.get! x).toNat=49:=by rw[show s.get! x=_ from hb 0 (by decide)];rfl
  simp only[Utf8.decode,Nat.add_zero,b0];exact if_pos (by omega)
 ·have b0:(s.get! x).toNat=97:=by rw[show s.get! x=_ from hb 0 (by decide)];rfl
  simp only[Utf8.decode,Nat.add_zero,b0];exact if_pos (by omega)
theorem LT.pos {s:ByteArray}{n:Nat}{p q:Nat→Nat}(h:LT s n p q):∀k,k≤n→Dec.pos s k=p k
 | 0,_=>h.z.symm
 | k+1,hk=>by rw[Dec.pos,LT.pos h k (by omega),LT.dec h (by omega),h.st k (by omega)]
theorem LT.ends {s:ByteArray}{n:Nat}{p q:Nat→Nat}(h:LT s n p q):Dec.Ends s n:=by
 refine⟨by rw[LT.pos h n (Nat.le_refl _),h.e],fun j hj=>?_⟩;rw[LT.pos h j (by omega)];have:=LT.le h (n - j) j (by omega);omega
theorem LT.rune {s:ByteArray}{n:Nat}{p q:Nat→Nat}(h:LT s n p q){k:Nat}(hk:k<n):Dec.rune s k=((rn (q k):Nat):Int):=by
 rw[Dec.rune,LT.pos h k (by omega),LT.dec h hk]
theorem tx_lt:∀l,∃p q,LT (tx l) l.length p q∧∀a m,l=a :: m→p m.length=(tx m).size
 | []=>⟨fun _=>0,fun _=>0,⟨rfl,rfl,fun k hk=>absurd hk (Nat.not_lt_zero _),fun k hk=>absurd hk (Nat.not_lt_zero _)⟩,fun a m e=>by cases e⟩
 | a :: l=>by
   obtain⟨p,q,h,_⟩:=tx_lt l;have hsz:(tx (a :: l)).size=(tx l).size+(ltr a).size:=by rw[tx,ByteArray.size_append]
   have hle:=fun k (hk:k<l.length)=>LT.le h (l.length - (k+1)) (k+1) (by omega)
   refine⟨fun k=>if k≤l.length then p k else(tx (a :: l)).size,fun k=>if k<l.length then q k else a,⟨?_,?_,?_,?_⟩,?_⟩
   ·rw[if_pos (Nat.zero_le _)];exact h.z
   ·rw[if_neg (by simp)]
   ·intro k hk
    rcases Nat.lt_or_ge k l.length with h1 | h1
    ·rw[if_pos (by omega),if_pos (by omega),if_pos h1];exact h.st k h1
    ·obtain rfl:k=l.length:=by simp at hk;omega
     rw[if_neg (by omega),if_pos (Nat.le_refl _),if_neg (by omega),hsz,h.e]
   ·intro k hk i hi
    rcases Nat.lt_or_ge k l.length with h1 | h1
    ·rw[if_pos h1]at hi ⊢
     rw[if_pos (by omega),tx,get_appL _ _ (by have:=hle k h1;have:=h.st k h1;omega)];exact h.b k h1 i hi
    ·obtain rfl:k=l.length:=by simp at hk;omega
     rw[if_neg (Nat.lt_irrefl _)]at hi;rw[if_pos (Nat.le_refl _),if_neg (Nat.lt_irrefl _),h.e,tx];exact get_appR _ _ hi
   ·intro b m e
    cases e;dsimp only;rw[if_pos (Nat.le_refl _)];exact h.e
theorem rn_tab (q:Nat):Tabs.kindOf ((rn q:Nat):Int)=0∧Tabs.look Tabs.classTab ((rn q:Nat):Int)≠10:=by
 rcases q3 q with⟨_,e⟩ | ⟨_,e⟩ | ⟨_,e⟩ <;> rw[e] <;> decide
theorem tx_size:∀l,(tx l).size≤2 * l.length
 | []=>Nat.le_refl _
 | q :: l=>by
   have h1:=tx_size l;have h2:=(ltr_size q).2;rw[tx,ByteArray.size_append,List.length_cons];omega
theorem tx_txt {l:List Nat}(hl:l.length≤60):Txt (tx l) l.length:=by
 obtain⟨p,q,h,_⟩:=tx_lt l;have:=tx_size l;exact⟨LT.ends h,by omega,fun k hk=>by rw[LT.rune h hk];exact(rn_tab _).2⟩
theorem tx_pos (a:Nat)(l:List Nat):Dec.pos (tx (a :: l)) l.length=(tx l).size:=by
 obtain⟨p,q,h,h2⟩:=tx_lt (a :: l);rw[LT.pos h _ (by simp),h2 a l rfl]
theorem tx_kf {l:List Nat}{k:Nat}(hk:k<l.length):kf (tx l) k=0:=by
 obtain⟨p,q,h,_⟩:=tx_lt l;rw[kf,LT.rune h hk];exact(rn_tab _).1
theorem beg_ltr {s:ByteArray}{n:Nat}(h:∀k,k<n→kf s k=0):∀k,k<n→beg s k=true
 | 0,_=>rfl
 | k+1,hk=>by
   rw[beg,jn,h k (by omega),h (k+1) hk];rfl
theorem begs_ltr {s:ByteArray}{n:Nat}(h:∀k,k<n→kf s k=0):∀k,k≤n→begs s k=List.range k
 | 0,_=>rfl
 | k+1,hk=>by rw[begs_yes (beg_ltr h k hk),begs_ltr h k (by omega),List.range_succ]
theorem bix_ltr {s:ByteArray}{n:Nat}(h:∀k,k<n→kf s k=0):bix s n=List.range (n+1):=by
 unfold bix;split
 ·rename_i h0;rw[h0];rfl
 ·rw[begs_ltr h n (Nat.le_refl _),List.range_succ]
theorem tx_prv (a:Nat)(l:List Nat):prv (tx (a :: l)) (a :: l).length=((tx l).size:Nat):=by
 obtain⟨p,q,h,_⟩:=tx_lt (a :: l);have he:=LT.ends h;have hsz:(tx (a :: l)).size=(tx l).size+(ltr a).size:=by rw[tx,ByteArray.size_append]
 have h1:=(ltr_size a).1;have hb:bnd (tx (a :: l)) (a :: l).length=(List.range ((a :: l).length+1)).map (fun j=>((Dec.pos (tx (a :: l)) j:Nat):Int)):=by
  rw[bnd_bix he,bix_ltr (fun k hk=>tx_kf hk)]
 have g1:(bnd (tx (a :: l)) (a :: l).length).getD (l.length+1) 0=(((tx (a :: l)).size:Nat):Int):=by
  rw[hb,←he.1];simp
 have g2:(bnd (tx (a :: l)) (a :: l).length).getD l.length 0=(((tx l).size:Nat):Int):=by
  rw[hb,←tx_pos a l,List.getD_eq_getElem?_getD,List.getElem?_map,List.getElem?_range (by simp;omega)];rfl
 unfold prv;rw[show(bnd (tx (a :: l)) (a :: l).length).length=l.length+1+1 by rw[hb];simp,best,g1,if_neg (by omega),best,g2,if_pos (by omega)]
theorem ltr_ends (q:Nat):Dec.Ends (ltr q) 1:=by
 have h1:∀s:ByteArray,Dec.pos s 1=s.size→0<s.size→Dec.Ends s 1:=fun s e h=>⟨e,fun j hj=>by
  obtain rfl:j=0:=by omega
  exact h⟩
 rcases q3 q with⟨e,_⟩ | ⟨e,_⟩ | ⟨e,_⟩ <;> rw[e] <;> exact h1 _ (by kernel_rfl) (by decide)
theorem ltr_cln (q:Nat):cln (ltr q) 1=ltr q:=by
 rcases q3 q with⟨e,_⟩ | ⟨e,_⟩ | ⟨e,_⟩ <;> rw[e] <;> kernel_rfl
theorem cut_tx (q:Nat)(l:List Nat):(tx (q :: l)).extract 0 (tx l).size++⟨#[]⟩++(tx (q :: l)).extract (tx (q :: l)).size (tx (q :: l)).size=tx l:=by
 rw[show(tx (q :: l)).extract 0 (tx l).size=tx l from ByteArray.extract_append_eq_left rfl,show(tx (q :: l)).extract (tx (q :: l)).size (tx (q :: l)).size=ByteArray.empty by simp];show tx l++ByteArray.empty++ByteArray.empty=tx l;simp
theorem ins_step (Q D B lo q:Nat)(R:Int)(l:List Nat)(w:World)(hQ:w.heap[Q]?=some (.cells #[.pointer (some ⟨D,0,none⟩)] 59 (0,0)))(hQD:Q≠D)(h:Doc w B D R (tx l) l.length lo)(hl:l.length<60) :
 Calls Tryz.prog 7 #[.pointer (some ⟨Q,0,none⟩),.agg (opC 11 false 0 0 false (ltr q))] w fun e w'=>Pg (tx (q :: l)) true e∧Doc w' B D R (tx (q :: l)) (q :: l).length w.heap.size∧Chg w w' B D:=by
 have hDw:D<w.heap.size:=by
  obtain⟨vB,Z,P,Bl,Bd,V,Ls,vU,nU,xs,L,hD,_⟩:=h.x;exact obj_lt hD
 have hq:=ltr_size q;refine doC_change Q D B (q :: l).length R 11 0 0 false false (tx (q :: l)) (ltr q) w hQ h.bw hQD hDw h.b9 (fun Y hf=>?_);refine do_change B D l.length (q :: l).length (tx l).size (tx l).size lo R 11 0 0 false false true true (tx l) (tx (q :: l)) (ltr q) (ltr q) Y (h.fr hf) (fun Z hz=>?_) (fun Z hz=>?_)
 ·refine deed_ins D false false 0 0 (ltr q) _ Z (fun Z' hz'=>?_)
  have k:=insertion_any B D l.length 1 lo R (tx l) (ltr q) Z' (((h.fr hf).fr hz).fr hz') (by omega) (ltr_ends q);rw[ltr_cln]at k;exact k
 ·refine change_any B D l.length (q :: l).length (tx l).size (tx l).size lo R (tx l) (ltr q) (tx (q :: l)) true Z ((h.fr hf).fr hz) (Nat.le_refl _) (Nat.le_refl _) (by rw[tx];simp) (by rw[tx,ByteArray.size_append]) (tx_txt (by rw[List.length_cons];omega)) (by omega)
theorem era_step (Q D B lo q:Nat)(R:Int)(l:List Nat)(w:World)(hQ:w.heap[Q]?=some (.cells #[.pointer (some ⟨D,0,none⟩)] 59 (0,0)))(hQD:Q≠D)(h:Doc w B D R (tx (q :: l)) (q :: l).length lo)(hl:l.length≤60) :
 Calls Tryz.prog 7 #[.pointer (some ⟨Q,0,none⟩),.agg (opC 12 false 0 0 false ⟨#[]⟩)] w fun e w'=>Pg (tx l) true e∧Doc w' B D R (tx l) l.length w.heap.size∧Chg w w' B D:=by
 have hDw:D<w.heap.size:=by
  obtain⟨vB,Z,P,Bl,Bd,V,Ls,vU,nU,xs,L,hD,_⟩:=h.x;exact obj_lt hD
 have hsz:(tx (q :: l)).size=(tx l).size+(ltr q).size:=by rw[tx,ByteArray.size_append]
 have h1:=(ltr_size q).1;refine doC_change Q D B l.length R 12 0 0 false false (tx l) ⟨#[]⟩ w hQ h.bw hQD hDw h.b9 (fun Y hf=>?_);refine do_change B D (q :: l).length l.length (tx l).size (tx (q :: l)).size lo R 12 0 0 false false false true (tx (q :: l)) (tx l) ⟨#[]⟩ ⟨#[]⟩ Y (h.fr hf) (fun Z hz=>?_) (fun Z hz=>?_)
 ·exact deed_era D false false 0 0 ⟨#[]⟩ _ Z (fun Z' hz'=>erasure_yes B D (q :: l).length (tx l).size lo R (tx (q :: l)) Z' (((h.fr hf).fr hz).fr hz') (by omega) (tx_prv q l) (by omega))
 ·exact change_any B D (q :: l).length l.length (tx l).size (tx (q :: l)).size lo R (tx (q :: l)) ⟨#[]⟩ (tx l) false Z ((h.fr hf).fr hz) (by omega) (Nat.le_refl _) (cut_tx _ _).symm rfl (tx_txt hl) (Nat.zero_le _)
theorem era_none (Q D B lo:Nat)(R:Int)(w:World)(hQ:w.heap[Q]?=some (.cells #[.pointer (some ⟨D,0,none⟩)] 59 (0,0)))(h:Doc w B D R (tx []) 0 lo) :
 Calls Tryz.prog 7 #[.pointer (some ⟨Q,0,none⟩),.agg (opC 12 false 0 0 false ⟨#[]⟩)] w fun e w'=>Pg (tx []) false e∧Doc w' B D R (tx []) 0 lo∧Chg w w' B D:=by
 refine doC_nil Q D B 0 lo R 12 0 0 false false (tx []) ⟨#[]⟩ w hQ h (fun Y hf=>?_);refine(do_nil B D 0 lo R 12 0 0 false false (tx []) ⟨#[]⟩ Y (h.fr hf) (fun Z hz=>?_)).mono fun e w' ⟨h1,_,h3⟩=>⟨h1,h3⟩
 exact deed_era D false false 0 0 ⟨#[]⟩ _ Z (fun Z' hz'=>erasure_no B D 0 lo R (tx []) Z' (((h.fr hf).fr hz).fr hz') rfl)
end Go.Proofs.YtnakejhohdbfdacGreatDoor.Cls.Dc

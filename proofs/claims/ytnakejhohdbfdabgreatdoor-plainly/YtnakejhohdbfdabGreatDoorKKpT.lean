import Derived.Test.YtnakejhohdbfdabGreatDoorKQcI
namespace Go.Proofs.YtnakejhohdbfdabGreatDoor
open Go.RowKit Lev Lay Bnd
theorem turnA_keep (p:Nat→Bool)(x y:Nat)(z:List Nat):∀(B E:List Nat),∃C D,turnA p (E++x :: y :: z) B=C++x :: y :: D
 | [],E=>⟨E,z,rfl⟩
 | b :: B,E=>by
   rw[turnA];split
   ·exact turnA_keep p x y z B (b :: E)
   ·exact⟨E,z++b :: turnA p [] B,by simp⟩
theorem turnA_both (p:Nat→Bool)(x y:Nat)(hx:p x=true)(hy:p y=true):∀(A acc B:List Nat),∃C D,turnA p acc (A++x :: y :: B)=C++y :: x :: D
 | [],acc,B=>by
   rw[List.nil_append,turnA,if_pos hx,turnA,if_pos hy];exact turnA_keep p y x acc B []
 | a :: A,acc,B=>by
   rw[List.cons_append,turnA];split
   ·exact turnA_both p x y hx hy A (a :: acc) B
   ·obtain⟨C,D,h⟩:=turnA_both p x y hx hy A [] B
    exact⟨acc++a :: C,D,by rw[h];simp⟩
theorem turn_none (p:Nat→Bool)(x y:Nat)(hx:p x=false)(hy:p y=false)(A B:List Nat):∃C D,turn p (A++x :: y :: B)=C++x :: y :: D:=by
 refine⟨turn p A,turn p B,?_⟩;have h2:turn p (y :: B)=y :: turn p B:=by
  have:=turn_stop p y [] B hy;simpa[turn,turnA] using this
 rw[turn_stop p x A (y :: B) hx,h2]
theorem tds_adj (V:Nat→Int)(v:Nat):∀(k x y:Nat) (A B:List Nat),V x=v→V y=v→∃C D,tds V 1 k (A++x :: y :: B)=(if(min k v) % 2=0 then C++x :: y :: D else C++y :: x :: D)
 | 0,x,y,A,B,_,_=>⟨A,B,by simp[tds]⟩
 | k+1,x,y,A,B,hx,hy=>by
   rw[tds];by_cases h:k+1≤v
   ·have dx:deep V (1+k) x=true:=by rw[deep,hx];simp;omega
    have dy:deep V (1+k) y=true:=by rw[deep,hy];simp;omega
    obtain⟨C,D,h1⟩:=turnA_both _ x y dx dy A [] B;rw[show turn (deep V (1+k)) (A++x :: y :: B)=C++y :: x :: D from h1];obtain⟨C2,D2,h2⟩:=tds_adj V v k y x C D hy hx;refine⟨C2,D2,?_⟩;rw[h2,show min k v=k by omega,show min (k+1) v=k+1 by omega];by_cases hk:k % 2=0
    ·rw[if_pos hk,if_neg (by omega)]
    ·rw[if_neg hk,if_pos (by omega)]
   ·have dx:deep V (1+k) x=false:=by rw[deep,hx];simp;omega
    have dy:deep V (1+k) y=false:=by rw[deep,hy];simp;omega
    obtain⟨C,D,h1⟩:=turn_none _ x y dx dy A B;rw[h1];obtain⟨C2,D2,h2⟩:=tds_adj V v k x y C D hx hy;refine⟨C2,D2,?_⟩;rw[h2,show min k v=v by omega,show min (k+1) v=v by omega]
theorem idx_adj {l C D:List Nat}{x y:Nat}(hn:l.Nodup)(h:l=C++x :: y :: D):l.idxOf y=l.idxOf x+1:=by
 subst h;rw[List.nodup_append]at hn;obtain⟨h1,h2,h3⟩:=hn;have hx:x ∉ C:=fun hc=>h3 x hc x (by simp) rfl
 have hy:y ∉ C:=fun hc=>h3 y hc y (by simp) rfl
 have hxy:x≠y:=by
  have:=List.nodup_cons.1 h2;intro e;exact this.1 (by rw[e];simp)
 rw[List.idxOf_append,if_neg hy,List.idxOf_append,if_neg hx];simp[List.idxOf_cons,beq_eq_false_iff_ne.2 hxy];omega
theorem ord_adj (V:Nat→Int)(n t:Nat)(ht:t+1<n)(h0:0≤V t)(he:V t=V (t+1)) :
 (V t % 2=0→(ordD V n).idxOf (t+1)=(ordD V n).idxOf t+1)∧(V t % 2=1→(ordD V n).idxOf t=(ordD V n).idxOf (t+1)+1):=by
 obtain⟨v,hv⟩:∃v:Nat,V t=v:=⟨(V t).toNat,by omega⟩;have hs:List.range n=List.range t++t :: (t+1) :: (List.range' (t+2) (n - t - 2)):=by
  have e:n=t+(1+(1+(n - t - 2))):=by omega
  rw[List.range_eq_range',List.range_eq_range']
  conv=>lhs;rw[e]
  rw[←List.range'_append_1,Nat.zero_add,←List.range'_append_1,←List.range'_append_1];simp
 obtain⟨C,D,h⟩:=tds_adj V v (topTo V n).toNat t (t+1) (List.range t) (List.range' (t+2) (n - t - 2)) hv (by rw[←he];exact hv);rw[←hs]at h;have htop:v≤(topTo V n).toNat:=by have:=topTo_ge V n t (by omega);omega
 rw[show min (topTo V n).toNat v=v by omega]at h;have hnd:(ordD V n).Nodup:=(ordD_perm V n).symm.nodup (List.nodup_range);constructor
 ·intro hp
  rw[if_pos (by omega)]at h;exact idx_adj hnd h
 ·intro hp
  rw[if_neg (by omega)]at h;exact idx_adj hnd h
theorem idx_map (a:Nat):∀(l:List Nat) (x:Nat),(l.map (fun t=>t+a)).idxOf (x+a)=l.idxOf x
 | [],_=>rfl
 | y :: l,x=>by
   rw[List.map_cons,List.idxOf_cons,List.idxOf_cons,idx_map a l x];by_cases h:y=x
   ·subst h;simp
   ·have h2:¬y+a=x+a:=by omega
    rw[beq_eq_false_iff_ne.2 h,beq_eq_false_iff_ne.2 h2]
theorem lvE_ev {s:ByteArray}{n:Nat}(h:Dec.Ends s n)(hn:0<n){bs:Int}(hb:bs=0∨bs=1)(W Br:List Int){k:Nat}(hk:k<cn s n):nth (lvE s n bs Br) k=evOf s n bs Br (nix (bix s n) k):=by
 have e:(clP (bnd s n) (lvE s n bs Br) (wl s W n) (cn s n))[k]?=(clst (Dec.pos s) (nix (bix s n)) (evOf s n bs Br) W (cn s n))[k]?:=by rw[cls_same h hn hb W Br]
 rw[clP_at _ _ _ hk,clst_at _ _ _ _ hk]at e;exact congrArg (fun p=>p.2.2.1) (Option.some.inj e)
theorem line_f {s:ByteArray}{n:Nat}(hend:Dec.Ends s n){bs:Int}{W Br:List Int}(E:Edges s n Br){k:Nat}(hk:k<Br.length+1):(lnN (lns s n bs W Br (Br.length+1)) k).f=nth (bnd s n) (eiOf s n Br k):=by
 have hbl:(bnd s n).length=cn s n+1:=by have:=(bix_len s n).2.1;rw[bnd_length hend];unfold cn;omega
 have h1:eiOf s n Br k≤cn s n:=E.le k (by omega);rw[lns_at hk,bnd_nth hend (by rw[←bnd_length hend,hbl];omega)];rfl
theorem twins_plain {s:ByteArray}{n:Nat}(hend:Dec.Ends s n)(hn:0<n){bs:Int}(hb:bs=0∨bs=1){W Br:List Int}(E:Edges s n Br)(T:Tame (bnd s n) (lvE s n bs Br) (lns s n bs W Br (Br.length+1))){i:Nat}(h1:1≤i)(hi:i<(lvE s n bs Br).length) :
 ∃j g h,j<Br.length+1∧gapL (bnd s n) (lvE s n bs Br) (s.size:Nat) (lns s n bs W Br (Br.length+1)) (nth (bnd s n) i) true=(j,g) ∧
  (((∃k,0<k∧k<Br.length+1∧(lnN (lns s n bs W Br (Br.length+1)) k).f=nth (bnd s n) i)∧gapL (bnd s n) (lvE s n bs Br) (s.size:Nat) (lns s n bs W Br (Br.length+1)) (nth (bnd s n) i) false=(j+1,h)) ∨
   ((∀k,0<k→k<Br.length+1→(lnN (lns s n bs W Br (Br.length+1)) k).f≠nth (bnd s n) i)∧gapL (bnd s n) (lvE s n bs Br) (s.size:Nat) (lns s n bs W Br (Br.length+1)) (nth (bnd s n) i) false=(j,h) ∧
     (nth (lvE s n bs Br) (i - 1)=nth (lvE s n bs Br) i→g=h)∧(nth (lvE s n bs Br) (i - 1) % 2≠nth (lvE s n bs Br) i % 2→g≠h))):=by
 have F:=fine_pos (bs:=bs) (W:=W) hend hn E;have hvl:(lvE s n bs Br).length=cn s n:=by rw[lvE,lvs_len,←cn_begs hn]
 have hbl:(bnd s n).length=cn s n+1:=by have:=(bix_len s n).2.1;rw[bnd_length hend];unfold cn;omega
 have hr:=F.rs;have hmo:∀i j,i<j→j≤Br.length+1→eiOf s n Br i<eiOf s n Br j:=E.mono;have hmo':∀i j,i≤j→j≤Br.length+1→eiOf s n Br i≤eiOf s n Br j:=fun i j h h'=>by
  rcases Nat.lt_or_eq_of_le h with h2 | h2
  ·exact Nat.le_of_lt (hmo i j h2 h')
  ·rw[h2];exact Nat.le_refl _
 have hpl:∀bk,placeL (bnd s n) (s.size:Nat) (nth (bnd s n) i) bk=(nth (bnd s n) i,bk):=fun bk=>by
  rw[place_bd hr (by omega),if_neg (by omega),if_neg (by omega)]
 have h0:0<(lvE s n bs Br).length:=by omega
 obtain⟨j,hj,hm⟩:=F.has (i - 1) (by omega);rw[lns_len]at hj;have hm2:=hm;rw[lns_at hj,lnOf_mem]at hm2;obtain⟨k1,hk1⟩:=stands_of hm;have hg:=gapL_eq (z:=(s.size:Nat)) (off:=nth (bnd s n) i) (back:=true) h0 (by rw[hpl,cidx_of hr (by omega),if_pos rfl];omega) (F.on j (by rw[lns_len];exact hj) _ hm).2 hk1;rw[hpl]at hg;simp only at hg;by_cases hlt:i<eiOf s n Br (j+1)
 ·have hmi:i∈(lnN (lns s n bs W Br (Br.length+1)) j).o:=by rw[lns_at hj,lnOf_mem];omega
  obtain⟨k2,hk2⟩:=stands_of hmi;have hh:=gapL_eq (z:=(s.size:Nat)) (off:=nth (bnd s n) i) (back:=false) h0 (by rw[hpl,cidx_of hr (by omega),if_neg Bool.false_ne_true]) (F.on j (by rw[lns_len];exact hj) _ hmi).2 hk2;rw[hpl]at hh;simp only at hh;refine⟨j,_,_,hj,hg,.inr ⟨fun k hk hkB he=>?_,hh,fun he=>?_,fun hp=>?_⟩⟩
  ·rw[line_f hend E hkB]at he
   have h2:eiOf s n Br k≤cn s n:=E.le k (by omega);have h3:=rises_inj hr (by omega) (by omega) he
   rcases Nat.lt_or_ge j k with h4 | h4
   ·have:=hmo' (j+1) k h4 (by omega);omega
   ·have:=hmo' k j h4 (by omega);omega
  ·have hx1:=stands_idx hk1
   have hx2:=stands_idx hk2;have ho:(lnN (lns s n bs W Br (Br.length+1)) j).o=(ordD (fun t=>evOf s n bs Br (nix (bix s n) (eiOf s n Br j+t))) (eiOf s n Br (j+1) - eiOf s n Br j)).map (fun t=>t+eiOf s n Br j):=by rw[lns_at hj];rfl
   have e1:i - 1=(i - 1 - eiOf s n Br j)+eiOf s n Br j:=by omega
   have e2:i=(i - 1 - eiOf s n Br j+1)+eiOf s n Br j:=by omega
   have v1:evOf s n bs Br (nix (bix s n) (eiOf s n Br j+(i - 1 - eiOf s n Br j)))=nth (lvE s n bs Br) (i - 1):=by rw[lvE_ev hend hn hb W Br (by omega)];congr 2;omega
   have v2:evOf s n bs Br (nix (bix s n) (eiOf s n Br j+(i - 1 - eiOf s n Br j+1)))=nth (lvE s n bs Br) i:=by rw[lvE_ev hend hn hb W Br (by omega)];congr 2;omega
   have ha:=ord_adj (fun t=>evOf s n bs Br (nix (bix s n) (eiOf s n Br j+t))) (eiOf s n Br (j+1) - eiOf s n Br j) (i - 1 - eiOf s n Br j) (by omega) (by rw[v1];exact(T.vb _).1) (by rw[v1,v2];exact he);rw[v1]at ha;rw[ho]at hx1 hx2;rw[e1,idx_map]at hx1
   conv at hx2=>lhs;rw[e2,idx_map]
   rw[hx1,hx2]at ha;have hv:=(T.vb (i - 1)).1;rw[←he]
   rcases(show nth (lvE s n bs Br) (i - 1) % 2=0∨nth (lvE s n bs Br) (i - 1) % 2=1 by omega)with h2 | h2
   ·rw[h2];have:=ha.1 h2;simp;omega
   ·rw[h2];have:=ha.2 h2;simp;omega
  ·have hne:k1≠k2:=fun e=>by
    have a1:=hk1.yes;have a2:=hk2.yes;rw[e,a2]at a1;omega
   have hv:=(T.vb (i - 1)).1;have hv2:=(T.vb i).1
   rcases(show nth (lvE s n bs Br) (i - 1) % 2=0∨nth (lvE s n bs Br) (i - 1) % 2=1 by omega)with h2 | h2 <;> rcases(show nth (lvE s n bs Br) i % 2=0∨nth (lvE s n bs Br) i % 2=1 by omega)with h3 | h3
   ·omega
   ·rw[h2,h3];simp;omega
   ·rw[h2,h3];simp;omega
   ·omega
 ·have hei:eiOf s n Br (j+1)=i:=by omega
  have hjB:j+1<Br.length+1:=by
   rcases Nat.lt_or_eq_of_le (show j+1≤Br.length+1 from hj)with h | h
   ·exact h
   ·rw[h,show eiOf s n Br (Br.length+1)=cn s n from E.eN]at hei;omega
  have hmi:i∈(lnN (lns s n bs W Br (Br.length+1)) (j+1)).o:=by
   rw[lns_at hjB,lnOf_mem];have:=hmo (j+1) (j+1+1) (by omega) (by omega);exact⟨by omega,by omega⟩
  obtain⟨k2,hk2⟩:=stands_of hmi;have hh:=gapL_eq (z:=(s.size:Nat)) (off:=nth (bnd s n) i) (back:=false) h0 (by rw[hpl,cidx_of hr (by omega),if_neg Bool.false_ne_true]) (F.on (j+1) (by rw[lns_len];exact hjB) _ hmi).2 hk2;refine⟨j,_,_,hj,hg,.inl ⟨⟨j+1,by omega,hjB,by rw[line_f hend E hjB,hei]⟩,hh⟩⟩
end Go.Proofs.YtnakejhohdbfdabGreatDoor

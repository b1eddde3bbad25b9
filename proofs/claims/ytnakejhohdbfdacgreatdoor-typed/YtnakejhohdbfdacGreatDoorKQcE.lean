import Derived.Test.YtnakejhohdbfdacGreatDoorKTyC
import Derived.Laws.StructEq
import Derived.Test.YtnakejhohdbfdacGreatDoorKLvLaw
import Derived.Test.YtnakejhohdbfdacGreatDoorKDcA
import Derived.Test.YtnakejhohdbfdacGreatDoorKPvA
import Derived.Test.YtnakejhohdbfdacGreatDoorKLdH
namespace Go.Proofs.YtnakejhohdbfdacGreatDoor
open Go.RowKit Lev Lay Bnd
structure Holds (Ls:List Ln)(x:Int)(i:Nat):Prop where
 lt:i<Ls.length
 yes:x<(lnN Ls i).t
 no:∀j,j<i→¬x<(lnN Ls j).t
set_option maxRecDepth 10000 in
theorem holds_one (f t x:Int)(vO vX:Value)(b:Nat)(w:World)(hb:w.cell? ⟨b,0,none⟩=some (.int .i64 x)) :
 Calls Tryz.prog 132 #[.agg #[.int .i64 f,.int .i64 t,vO,vX],.pointer (some ⟨b,0,none⟩)] w fun e w'=>e=.returned (.bool (decide (x<t)))∧Fr [] w w':=by
 have hbl:=World.block_lt_of_cell? _ _ hb;dsimp only at hbl;go_enter Tryz.func132,Tryz.ntmps132;go_wp2;go_ret;exact⟨rfl,by(repeat(first | refine Fr.set_new ?_ (by omega) | refine Fr.drewN ?_ _ | refine Fr.drew ?_ | with_reducible exact Fr.refl _ _ | refine Fr.alloc ?_ _))⟩
set_option maxRecDepth 10000 in
set_option maxHeartbeats 4000000 in
theorem holds_func (Ls:List Ln)(x:Int)(i b B U gL cL K:Nat)(hs:List Value)(w:World)(hi:Holds Ls x i)(hK:K=Ls.length)(hK4:K≤400)(hl:w.ownsRow B 69 4 (.slice (some ⟨gL,0,none⟩) K cL) K hs)(hn:lnsAt w B U hs Ls)(hb:w.cell? ⟨b,0,none⟩=some (.int .i64 x)) :
 Calls Tryz.prog 131 #[.slice (some ⟨gL,0,none⟩) K cL,.func (.func 132) #[] #[.pointer (some ⟨b,0,none⟩)]] w fun e w'=>e=.returned (.int .i64 (i:Nat))∧Fr [] w w':=by
 have HH:=hid hi
 have HL:=hid (fun j (hj:j<K)=>show ∃f vO vX,w.cell? ⟨gL,j * 4,none⟩=some (.int .i64 f)∧w.cell? ⟨gL,j * 4+1,none⟩=some (.int .i64 (lnN Ls j).t)∧w.cell? ⟨gL,j * 4+2,none⟩=some vO∧w.cell? ⟨gL,j * 4+3,none⟩=some vX by
  obtain⟨vO,vX,a1,a2,a3,a4,_⟩:=hn j _ (lnN_get (by omega))
  exact⟨_,vO,vX,by rw[hl.cellAt _ (by omega)];exact a1,by rw[hl.cellAt _ (by omega)];exact a2,by rw[hl.cellAt _ (by omega)];exact a3,by rw[hl.cellAt _ (by omega)];exact a4⟩)
 have HB:=hid hb;have hiK:i<K:=by have:=hi.lt;omega
 clear hi hl hn hb hK;go_enter Tryz.func131,Tryz.ntmps131;go_wp2_with fail;go_loopw [8] (fun vk wr=>∃k:Nat,vk=.int .i64 k∧k≤i∧Hid (Fr [] w wr)) (fun vk _=>K - (intOf vk).toNat)
 case atStart=>exact⟨0,rfl,Nat.zero_le _,hid (Fr.refl [] w)⟩
 case round =>
  obtain⟨k,rfl,hk,HF⟩:=hrel;obtain⟨f,vO,vX,a1,a2,a3,a4⟩:=HL.out k (by omega);have c1:=HF.out.cell a1 List.not_mem_nil;have c2:=HF.out.cell a2 List.not_mem_nil;have c3:=HF.out.cell a3 List.not_mem_nil;have c4:=HF.out.cell a4 List.not_mem_nil;have HY:=hid (HH.out.yes);have HN:=hid (HH.out.no k);have hkI:(k:Int)<(K:Int):=by omega
  have H172:=hid (fun(Y:World) (hf:Fr [] w Y)=>holds_one f (lnN Ls k).t x vO vX b Y (hf.cell HB.out List.not_mem_nil));by_cases hki:k=i
  ·subst hki
   have hx:decide (x<(lnN Ls k).t)=true:=by simpa using HY.out
   rw[hx]at H172;clear hx a1 a2 a3 a4;generalize (lnN Ls k).t=t at *;go_wp2_with (first | (go_at_call 132;refine(H172.out _ HF.out).mono ?_;rintro e w4 ⟨rfl,hf4⟩;have HF4:=hid (HF.out.trans hf4);clear hf4));go_ret;exact⟨rfl,HF4.out⟩
  ·have hx:decide (x<(lnN Ls k).t)=false:=by simpa using HN.out (by omega)
   rw[hx]at H172;clear hx a1 a2 a3 a4;generalize (lnN Ls k).t=t at *;go_wp2_with (first | (go_at_call 132;refine(H172.out _ HF.out).mono ?_;rintro e w4 ⟨rfl,hf4⟩;have HF4:=hid (HF.out.trans hf4);clear hf4));go_roundw
   case rel=>exact⟨k+1,by go_num,by omega,HF4⟩
   case measure=>simp[intOf];omega
set_option maxRecDepth 10000 in
theorem holds_any (Ls:List Ln)(x:Int)(i B U gL cL K:Nat)(hs:List Value)(w:World)(hi:Holds Ls x i)(hK:K=Ls.length)(hK4:K≤400)(hl:w.ownsRow B 69 4 (.slice (some ⟨gL,0,none⟩) K cL) K hs)(hn:lnsAt w B U hs Ls) :
 Calls Tryz.prog 101 #[.slice (some ⟨gL,0,none⟩) K cL,.int .i64 x] w fun e w'=>e=.returned (.int .i64 (i:Nat))∧Fr [] w w':=by
 have HF2:=hid (show Fr [] w (w.alloc (.cells #[.int .i64 x] 3)) by(repeat(first | refine Fr.set_new ?_ (by omega) | refine Fr.drewN ?_ _ | refine Fr.drew ?_ | with_reducible exact Fr.refl _ _ | refine Fr.alloc ?_ _)));have H171:=hid (holds_func Ls x i w.heap.size B U gL cL K hs (w.alloc (.cells #[.int .i64 x] 3)) hi hK hK4 (owns_fr0 hl HF2.out) (hn.fr (fun _ _ _ _ _ _ h=>owns_fr0 h HF2.out)) (obj_cell (obj_new w (.cells #[.int .i64 x] 3)) (i:=0) rfl));clear hi hK hl hn;go_enter Tryz.func101,Tryz.ntmps101;go_wp2_with (first | (go_at_call 131;refine H171.out.mono ?_;rintro e w4 ⟨rfl,hf4⟩;have HF4:=hid (HF2.out.trans hf4);clear hf4));go_ret;exact⟨rfl,HF4.out⟩
structure Stands (O:List Nat)(c k:Nat):Prop where
 lt:k<O.length
 yes:nix O k=c
 no:∀j,j<k→nix O j≠c
theorem nat_getD (O:List Nat)(j:Nat):(O.map fun x:Nat=>(x:Int)).getD j 0=(nix O j:Nat):=by
 simp only[List.getD,List.getElem?_map,nix];cases O[j]? <;> simp
theorem index_any (O:List Nat)(c k go n cap:Nat)(w:World)(hn:n=O.length)(hk:Stands O c k)(hb:n≤1000)(hO:rowN w go n O) :
 Calls Tryz.prog 102 #[.slice (some ⟨go,0,none⟩) n cap,.int .i64 (c:Nat)] w fun e w'=>e=.returned (.int .i64 (k:Nat))∧w'=w:=by
 subst hn
 have h:=Tryz.slices_Index_int go 0 O.length cap (O.map fun x:Nat=>(x:Int)) (c:Nat) w (by simp) (by omega) (fun j hj=>by
  rw[nat_getD,Nat.zero_add];exact hO j (by simpa using hj))
 have e:Lib.idxOf ((O.map fun x:Nat=>(x:Int)).take O.length) (c:Nat)=(k:Nat):=by
  rw[List.take_of_length_le (by simp)]
  have:=Lib.idxFrom_hit (c:Nat) (O.map fun x:Nat=>(x:Int)) k 0 (by simpa using hk.lt) (by rw[nat_getD,hk.yes]) (fun j hj=>by
   rw[nat_getD];intro h;exact hk.no j hj (by omega))
  simpa[Lib.idxOf] using this
 rw[e]at h;exact h
theorem rises_lt {l:List Int}{z:Int}(h:Rises l z){i j:Nat}(hij:i<j)(hj:j<l.length):nth l i<nth l j:=by
 have:=List.pairwise_iff_getElem.1 h.sorted i j (by omega) hj hij;rw[nth,nth,List.getElem?_eq_getElem (show i<l.length by omega),List.getElem?_eq_getElem hj];exact this
theorem rises_inj {l:List Int}{z:Int}(h:Rises l z){i j:Nat}(hi:i<l.length)(hj:j<l.length)(e:nth l i=nth l j):i=j:=by
 rcases Nat.lt_trichotomy i j with h1 | h1 | h1
 ·have:=rises_lt h h1 hj;omega
 ·exact h1
 ·have:=rises_lt h h1 hi;omega
theorem rises_first {l:List Int}{z:Int}(h:Rises l z):nth l 0=0:=by rw[nth,h.head];rfl
theorem rises_last {l:List Int}{z:Int}(h:Rises l z):nth l (l.length - 1)=z:=by rw[nth,h.last];rfl
theorem best_mem {l:List Int}{z:Int}(h:Rises l z)(x:Int):∀k,k≤l.length→∃j,j<l.length∧nth l j=best l x k
 | 0,_=>⟨0,h.len,rises_first h⟩
 | k+1,hk=>by
   rw[best];split
   ·exact⟨k,hk,nth_getD l k⟩
   ·exact best_mem h x k (by omega)
theorem cidx_of {l:List Int}{z:Int}(h:Rises l z){j:Nat}(hj:j<l.length):cidx l (nth l j)=j:=by
 have hm:l.contains (nth l j)=true:=by
  rw[List.contains_iff_mem,nth,List.getElem?_eq_getElem hj];exact List.getElem_mem _
 obtain⟨h1,h2⟩:=cidx_at h hm;rw[←nth_getD]at h2;exact rises_inj h h1 hj h2
theorem place_spec {Bd:List Int}{z:Int}(h:Rises Bd z)(h1:1<Bd.length)(off:Int)(back:Bool) :
 ∃c,c+1<Bd.length∧cidx Bd (placeL Bd z off back).1=(if(placeL Bd z off back).2=true then c+1 else c)∧nth Bd (if(placeL Bd z off back).2=true then c+1 else c)=(placeL Bd z off back).1:=by
 obtain⟨j,hj,e⟩:=best_mem h (min (max off 0) z) Bd.length (Nat.le_refl _);have hp:placeL Bd z off back=(nth Bd j,if nth Bd j=0 then false else if nth Bd j=z then true else back):=by rw[e];rfl
 have hci:=cidx_of h hj;rw[hp];dsimp only;rw[hci];by_cases h0:nth Bd j=0
 ·obtain rfl:j=0:=rises_inj h hj (by omega) (by rw[h0,rises_first h])
  rw[if_pos h0];exact⟨0,h1,rfl,rfl⟩
 ·rw[if_neg h0]
  have hj0:j≠0:=fun hz=>h0 (by rw[hz];exact rises_first h)
  by_cases h2:nth Bd j=z
  ·rw[if_pos h2]
   exact⟨j - 1,by omega,by simp;omega,by simp;rw[show j - 1+1=j by omega]⟩
  ·rw[if_neg h2]
   have hjl:j≠Bd.length - 1:=fun hz=>h2 (by rw[hz];exact rises_last h)
   cases back
   ·exact⟨j,by omega,rfl,rfl⟩
   ·exact⟨j - 1,by omega,by simp;omega,by simp;rw[show j - 1+1=j by omega]⟩
structure Fine (Bd V:List Int)(z:Int)(Ls:List Ln):Prop where
 rs:Rises Bd z
 bd:Bd.length=V.length+1
 on:∀i,i<Ls.length→∀c∈(lnN Ls i).o,c<V.length∧Holds Ls (nth Bd c) i
 has:∀c,c<V.length→∃i,i<Ls.length∧c∈(lnN Ls i).o
 nd:∀i,i<Ls.length→(lnN Ls i).o.Nodup
 ne:0<V.length→∀i,i<Ls.length→0<(lnN Ls i).o.length
theorem nix_eq {O:List Nat}{j:Nat}(h:j<O.length):nix O j=O[j]:=by rw[nix,List.getElem?_eq_getElem h];rfl
theorem stands_of {O:List Nat}{c:Nat}(h:c∈O):∃k,Stands O c k:=by
 refine⟨O.idxOf c,List.idxOf_lt_length_iff.2 h,?_,fun j hj e=>?_⟩
 ·rw[nix_eq (List.idxOf_lt_length_iff.2 h)];exact List.getElem_idxOf _
 ·have hl:j<O.length:=Nat.lt_trans hj (List.idxOf_lt_length_iff.2 h)
  rw[nix_eq hl]at e;have:=List.not_of_lt_findIdx (p:=(· == c)) (xs:=O) hj;simp[e]at this
theorem Fine.gap {Bd V:List Int}{z:Int}{Ls:List Ln}(F:Fine Bd V z Ls)(h0:0<V.length)(off:Int)(back:Bool) :
 ∃c i k,c<V.length∧cidx Bd (placeL Bd z off back).1=(if(placeL Bd z off back).2=true then c+1 else c)∧nth Bd (if(placeL Bd z off back).2=true then c+1 else c)=(placeL Bd z off back).1∧Holds Ls (nth Bd c) i∧Stands (lnN Ls i).o c k:=by
 have hb:=F.bd;obtain⟨c,hc,e1,e2⟩:=place_spec F.rs (by omega) off back;obtain⟨i,hi,hm⟩:=F.has c (by omega);obtain⟨k,hk⟩:=stands_of hm;exact⟨c,i,k,by omega,e1,e2,(F.on i hi c hm).2,hk⟩
def gapL (Bd V:List Int)(z:Int)(Ls:List Ln)(off:Int)(back:Bool):Nat × Nat :=
 if V.length=0 then(0,0)else
 let p:=placeL Bd z off back
 let c:=if p.2=true then cidx Bd p.1 - 1 else cidx Bd p.1
 let i:=Ls.findIdx (fun l=>decide (nth Bd c<l.t))
 let k:=(lnN Ls i).o.idxOf c
 (i,if p.2=(nth V c % 2 == 1)then k else k+1)
theorem holds_idx {Ls:List Ln}{x:Int}{i:Nat}(h:Holds Ls x i):Ls.findIdx (fun l=>decide (x<l.t))=i:=by
 have hl:∀j (hj:j<Ls.length),lnN Ls j=Ls[j]:=fun j hj=>by rw[lnN,List.getElem?_eq_getElem hj];rfl
 refine(List.findIdx_eq h.lt).2 ⟨?_,fun j hj=>?_⟩
 ·have:=h.yes
  rw[hl i h.lt]at this;exact decide_eq_true this
 ·have:=h.no j hj
  rw[hl j (Nat.lt_trans hj h.lt)]at this;exact decide_eq_false this
theorem stands_idx {O:List Nat}{c k:Nat}(h:Stands O c k):O.idxOf c=k:=by
 refine(List.findIdx_eq h.lt).2 ⟨?_,fun j hj=>?_⟩
 ·have:=h.yes
  rw[nix_eq h.lt]at this;simp[this]
 ·have:=h.no j hj
  rw[nix_eq (Nat.lt_trans hj h.lt)]at this;simpa using this
theorem gapL_eq {Bd V:List Int}{z:Int}{Ls:List Ln}{off:Int}{back:Bool}{c i k:Nat}(h0:0<V.length)(hc:cidx Bd (placeL Bd z off back).1=(if(placeL Bd z off back).2=true then c+1 else c))(hi:Holds Ls (nth Bd c) i)(hk:Stands (lnN Ls i).o c k) :
 gapL Bd V z Ls off back=(i,if(placeL Bd z off back).2=(nth V c % 2 == 1)then k else k+1):=by
 have hcc:(if(placeL Bd z off back).2=true then cidx Bd (placeL Bd z off back).1 - 1 else cidx Bd (placeL Bd z off back).1)=c:=by
  rw[hc];by_cases hb:(placeL Bd z off back).2=true
  ·rw[if_pos hb,if_pos hb];omega
  ·rw[if_neg hb,if_neg hb]
 unfold gapL;rw[if_neg (by omega)];dsimp only;rw[hcc,holds_idx hi,stands_idx hk]
theorem lns_at {s:ByteArray}{n:Nat}{bs:Int}{W Br:List Int}{k j:Nat}(hj:j<k):lnN (lns s n bs W Br k) j=lnOf (Dec.pos s) (nix (bix s n)) (evOf s n bs Br) W (eiOf s n Br j) (eiOf s n Br (j+1)):=by
 rw[lnN,lns,List.getElem?_map,List.getElem?_range hj];rfl
theorem lnOf_mem {P ri:Nat→Nat}{Ev:Nat→Int}{W:List Int}{a b c:Nat}:c∈(lnOf P ri Ev W a b).o ↔ a≤c∧c<b:=by
 show c∈(ordD _ (b - a)).map _ ↔ _;rw[List.mem_map];constructor
 ·rintro ⟨t,ht,rfl⟩
  have:=ordD_lt _ _ t ht;omega
 ·intro h
  exact⟨c - a,(ordD_perm _ _).mem_iff.2 (List.mem_range.2 (by omega)),by omega⟩
theorem lnOf_nodup {P ri:Nat→Nat}{Ev:Nat→Int}{W:List Int}{a b:Nat}:(lnOf P ri Ev W a b).o.Nodup:=by
 show((ordD _ (b - a)).map _).Nodup;have h1:(ordD (fun t=>Ev (ri (a+t))) (b - a)).Nodup:=(ordD_perm _ _).nodup_iff.2 List.nodup_range;unfold List.Nodup at *;rw[List.pairwise_map];exact h1.imp (fun hne he=>hne (by omega))
theorem fine_pos {s:ByteArray}{n:Nat}(hend:Dec.Ends s n)(hn:0<n){bs:Int}{W Br:List Int}(E:Edges s n Br):Fine (bnd s n) (lvE s n bs Br) (s.size:Nat) (lns s n bs W Br (Br.length+1)):=by
 have hr:=rises_bnd hend;have hvl:(lvE s n bs Br).length=cn s n:=by rw[lvE,lvs_len,←cn_begs hn]
 have hbl:(bnd s n).length=cn s n+1:=by have:=(bix_len s n).2.1;rw[bnd_length hend];unfold cn;omega
 have hle:∀j,j≤Br.length+1→eiOf s n Br j≤cn s n:=E.le;have ht:∀j,j<Br.length+1→(lnN (lns s n bs W Br (Br.length+1)) j).t=nth (bnd s n) (eiOf s n Br (j+1)):=fun j hj=>by
  have:=hle (j+1) (by omega);rw[lns_at hj,bnd_nth hend (by rw[←bnd_length hend,hbl];omega)];rfl
 have hmo:∀i j,i<j→j≤Br.length+1→eiOf s n Br i<eiOf s n Br j:=E.mono;refine⟨hr,by omega,fun i hi c hc=>?_,fun c hc=>?_,fun i hi=>?_,fun _ i hi=>?_⟩
 ·rw[lns_len]at hi
  rw[lns_at hi,lnOf_mem]at hc;have h1:=hle (i+1) (by omega);refine⟨by omega,by rw[lns_len];exact hi,by rw[ht i hi];exact rises_lt hr hc.2 (by omega),fun j hj=>?_⟩;rw[ht j (by omega)];have h2:eiOf s n Br (j+1)≤eiOf s n Br i:=by
   rcases Nat.lt_or_eq_of_le (show j+1≤i from hj)with h | h
   ·exact Nat.le_of_lt (hmo _ _ h (by omega))
   ·rw[h];exact Nat.le_refl _
  rcases Nat.lt_or_eq_of_le (Nat.le_trans h2 hc.1)with h3 | h3
  ·have:=rises_lt hr h3 (by omega);omega
  ·rw[h3];omega
 ·rw[hvl]at hc
  have key:∀k,k≤Br.length+1→c<eiOf s n Br k→∃i,i<Br.length+1∧eiOf s n Br i≤c∧c<eiOf s n Br (i+1):=by
   intro k
   induction k with
   | zero=>intro _ h;rw[show eiOf s n Br 0=0 from E.e0]at h;omega
   | succ k ih =>
     intro hk h
     rcases Nat.lt_or_ge c (eiOf s n Br k)with h1 | h1
     ·exact ih (by omega) h1
     ·exact⟨k,by omega,h1,h⟩
  obtain⟨i,hi,h1,h2⟩:=key (Br.length+1) (Nat.le_refl _) (by rw[show eiOf s n Br (Br.length+1)=cn s n from E.eN];exact hc);exact⟨i,by rw[lns_len];exact hi,by rw[lns_at hi,lnOf_mem];exact⟨h1,h2⟩⟩
 ·rw[lns_len]at hi
  rw[lns_at hi];exact lnOf_nodup
 ·rw[lns_len]at hi
  rw[lns_at hi];exact List.length_pos_of_mem (lnOf_mem.2 ⟨Nat.le_refl _,hmo i (i+1) (by omega) (by omega)⟩)
theorem fine_nil:Fine [0] [] 0 [ln0]:=by
 refine⟨⟨by simp,rfl,rfl⟩,rfl,fun i hi c hc=>?_,fun c hc=>absurd hc (Nat.not_lt_zero _),fun i hi=>?_,fun h=>absurd h (Nat.lt_irrefl 0)⟩
 ·obtain rfl:i=0:=by simpa using hi
  exact absurd hc List.not_mem_nil
 ·obtain rfl:i=0:=by simpa using hi
  exact List.nodup_nil
set_option maxRecDepth 10000 in
set_option maxHeartbeats 4000000 in
theorem gapP_any (B P:Nat)(Bd V X:List Int)(r z:Int)(Ls:List Ln)(v0 v1 v2 vL:Value)(hs:List Value)(off o:Int)(back bk:Bool)(c i k:Nat)(w:World)(h:LP w B P Bd V X r Ls v0 v1 v2 vL hs)(hr:Rises Bd z)(hz:0≤z)(T:Tame Bd V Ls)(hbd:Bd.length=V.length+1)(hv4:V.length≤400)(hK:Ls.length≤400)(hlo:∀l∈Ls,l.o.length≤1000)(hp:placeL Bd z off back=(o,bk))(hc:c<V.length)(hcc:cidx Bd o=if bk=true then c+1 else c)(hi:Holds Ls (nth Bd c) i)(hk:Stands (lnN Ls i).o c k) :
 Calls Tryz.prog 62 #[.pointer (some ⟨P,0,none⟩),.agg #[.int .i64 off,.bool back]] w fun e w'=>e=.returned (.agg #[.int .i64 (i:Nat),.int .i64 ((if bk=(nth V c % 2 == 1)then k else k+1:Nat):Int)])∧Fr [] w w':=by
 obtain⟨gB,cB,hvB,_,HRB⟩:=h.b.row (by omega);obtain⟨gV,cV,hvV,_,HRV⟩:=h.v.row (by omega);have hil:=hi.lt;have hmem:=lnN_mem hil;obtain⟨U,hU,hn⟩:=h.n;obtain⟨gL,cL,hvL⟩:=owns_shape (by omega) h.l;obtain⟨vO,vX,_,_,a3,_,a5,_,_⟩:=hn i _ (lnN_get hil);have hkl:=hk.lt;obtain⟨gO,cO,hvO⟩:=owns_shape (by omega) a5;subst hvB hvV hvL hvO;have HRO:=hid (owns_rowN a5 rfl);have H57:=hid (fun(Y:World) (hf:Fr [] w Y)=>placeP_any B P Bd V X r z Ls _ _ v2 _ hs off back Y (h.fr hf (fun k hk=>absurd hk List.not_mem_nil)) hr hz (by omega));rw[hp]at H57;have H102:=hid (fun(Y:World) (hf:Fr [] w Y)=>at_any Bd z hr o gB cB Bd.length (.slice (some ⟨gV,0,none⟩) V.length cV) v2 Y rfl (by omega) (HRB.fr hf List.not_mem_nil));have H103:=hid (fun(Y:World) (hf:Fr [] w Y)=>holds_any Ls (nth Bd c) i B U gL cL Ls.length hs Y hi rfl hK (owns_fr0 h.l hf) (hn.fr (fun _ _ _ _ _ _ h=>owns_fr0 h hf)));have H104:=hid (fun(Y:World) (hf:Fr [] w Y)=>index_any (lnN Ls i).o c k gO (lnN Ls i).o.length cO Y rfl hk (hlo _ hmem) (HRO.out.fr hf List.not_mem_nil));have H105:=hid (fun(Y:World) (hf:Fr [] w Y)=>left_any V gV V.length cV c (.slice (some ⟨gB,0,none⟩) Bd.length cB) v2 Y hc (HRV.fr hf List.not_mem_nil) (T.vb c).1);have p0:=obj_cell h.o (i:=0) (v:=.slice (some ⟨gB,0,none⟩) Bd.length cB) rfl;have p1:=obj_cell h.o (i:=1) (v:=.slice (some ⟨gV,0,none⟩) V.length cV) rfl;have p2:=obj_cell h.o (i:=2) (v:=v2) rfl;have p3:=obj_cell h.o (i:=3) (v:=.slice (some ⟨gL,0,none⟩) Ls.length cL) rfl;have c2:w.cell? ⟨gL,i * 4+2,none⟩=some (.slice (some ⟨gO,0,none⟩) (lnN Ls i).o.length cO):=by rw[h.l.cellAt _ (by omega)];exact a3
 have cb:=HRB c (by omega);have hPl:P<w.heap.size:=World.block_lt_of_cell? _ _ p3;have e1:=World.block_lt_of_cell? _ _ c2;have e2:=World.block_lt_of_cell? _ _ cb;dsimp only at e1 e2;rw[hcc]at H102;obtain⟨m,hm⟩:∃m:Nat,m=if bk=true then c+1 else c:=⟨_,rfl⟩
 rw[←hm]at H102;have HM:=hid hm;obtain⟨lf,hlf⟩:∃lf,lf=(nth V c % 2 == 1):=⟨_,rfl⟩;rw[←hlf]at H105 ⊢;obtain⟨gp,hgp⟩:∃gp:Nat,gp=(if bk=lf then k else k+1:Nat):=⟨_,rfl⟩;rw[←hgp];have HGP:=hid hgp;have hV0:0<V.length:=by omega
 have hcI:(c:Int)<(Bd.length:Int):=by omega
 have hiI:(i:Int)<(Ls.length:Int):=by omega
 have hkb:k≤1000:=by have:=hlo _ hmem;omega
 generalize nth Bd c=y at *;generalize (lnN Ls i).o.length=lo at *;generalize Ls.length=K at *;generalize Bd.length=nB at *;generalize V.length=nV at *;have hV0b:(((nV:Nat):Int) == 0)=false:=by simp;omega
 have hmb:m≤1000:=by rw[hm];split <;> omega
 clear h hr T hp hcc hi hk hn a3 a5 hlo HRB HRV HRO hlf hgp hmem hm hbd;obtain⟨w2,hw2⟩:∃w2,w2=(w.alloc (.cells #[.int .i64 off,.bool back] 26)).alloc (.cells #[.int .i64 0,.int .i64 0] 28):=⟨_,rfl⟩;have HF2:=hid (show Fr [] w w2 by rw[hw2];exact((Fr.refl _ _).alloc _).alloc _);have HO2:=hid (show w2.heap[w.heap.size]?=some (.cells #[.int .i64 off,.bool back] 26 (0,0)) by rw[hw2];exact obj_fr (obj_new w _) ((Fr.refl [] _).alloc _) List.not_mem_nil)
 have HR2:=hid (show w2.heap[w.heap.size+1]?=some (.cells #[.int .i64 0,.int .i64 0] 28 (0,0)) by
  have hs:(w.alloc (.cells #[.int .i64 off,.bool back] 26)).heap.size=w.heap.size+1:=by simp
  have h0:=obj_new (w.alloc (.cells #[.int .i64 off,.bool back] 26)) (.cells #[.int .i64 0,.int .i64 0] 28)
  rw[hs]at h0
  rw[hw2];exact h0)
 go_enter Tryz.func62,Tryz.ntmps62;have HW2:=hid hw2;clear hw2;go_wp2_with fail;rw[←HW2.out];refine(H57.out _ HF2.out).mono ?_;rintro e w3 ⟨rfl,hf3⟩;have HO3:=hid (obj_fr HO2.out hf3 List.not_mem_nil);have HR3:=hid (obj_fr HR2.out hf3 List.not_mem_nil);have HF3:=hid (HF2.out.trans hf3);have z0:=obj_cell HO3.out (i:=0) (v:=.int .i64 off) rfl;have z1:=obj_cell HO3.out (i:=1) (v:=.bool back) rfl;have f0:=obj_froz HO3.out 0;have f1:=obj_froz HO3.out 1;have P0:=hid p0;have P1:=hid p1;have P2:=hid p2;have P3:=hid p3;have C2:=hid c2;have CB:=hid cb;clear hf3 p0 p1 p2 p3 c2 cb;have q0:=HF3.out.cell P0.out List.not_mem_nil;have q1:=HF3.out.cell P1.out List.not_mem_nil;have q2:=HF3.out.cell P2.out List.not_mem_nil;have hnP:P≠w.heap.size:=by omega
 go_wp2_with fail;obtain⟨w4,hw4⟩:∃w4,w4=(w3.setCell ⟨w.heap.size,0,none⟩ (.int .i64 o)).setCell ⟨w.heap.size,1,none⟩ (.bool bk):=⟨_,rfl⟩;have HO4:=hid (show w4.heap[w.heap.size]?=some (.cells #[.int .i64 o,.bool bk] 26 (0,0)) by rw[hw4];exact obj_set (obj_set HO3.out 0 _) 1 _);have HR4:=hid (show w4.heap[w.heap.size+1]?=some (.cells #[.int .i64 0,.int .i64 0] 28 (0,0)) by rw[hw4];exact obj_fr HR3.out (show Fr [w.heap.size] w3 _ by(repeat(first | refine Fr.set ?_ (List.mem_singleton.2 rfl) _ | refine Fr.drewN ?_ _ | refine Fr.drew ?_ | with_reducible exact Fr.refl _ _ | refine Fr.alloc ?_ _))) (by simp));have HF4:=hid (show Fr [] w w4 by rw[hw4];exact Fr.set_new (Fr.set_new HF3.out (by omega)) (by omega));rw[←hw4];clear hw4 z0 z1 f0 f1 q0 q1 q2;have q0:=HF4.out.cell P0.out List.not_mem_nil;have q1:=HF4.out.cell P1.out List.not_mem_nil;have q2:=HF4.out.cell P2.out List.not_mem_nil;have s3:=obj_cell HO4.out (i:=0) (v:=.int .i64 o) rfl;go_cut [5]from 8 to 99 (fun v wx=>v=.int .i64 (m:Nat)∧Hid (Fr [] w4 wx))
 case first =>
  go_region_with (first
   | (go_at_call 100;refine(H102.out _ ?fa).mono ?_;(case fa=>exact⟨HF4.out.os,HF4.out.tape,HF4.out.output,HF4.out.size,HF4.out.block⟩);rintro e w5 ⟨rfl,hf5⟩;have HG5:=hid (show Fr [] w4 w5 from⟨hf5.os,hf5.tape,hf5.output,hf5.size,hf5.block⟩);clear hf5))
  all_goals (
   go_wp2
   go_meet
   exact⟨rfl,HG5⟩)
 case rest =>
  obtain⟨rfl,HG5⟩:=hcut;obtain⟨w5,hw5⟩:∃w5,w5=wc:=⟨_,rfl⟩;rw[←hw5]at HG5 ⊢;have HO5:=hid (obj_fr HO4.out HG5.out List.not_mem_nil);have HR5:=hid (obj_fr HR4.out HG5.out List.not_mem_nil);have HF5:=hid (HF4.out.trans HG5.out);clear q0 q1 q2 s3 hw5;have t1:=obj_cell HO5.out (i:=1) (v:=.bool bk) rfl;have q0:=HF5.out.cell P0.out List.not_mem_nil;have q3:=HF5.out.cell P3.out List.not_mem_nil;have qb:=HF5.out.cell CB.out List.not_mem_nil;have H103b:=hid (fun(Y:World) (hf:Fr [] w5 Y)=>H103.out Y (HF5.out.trans hf));have hwm:bk=true→IntKind.i64.wrap ((m:Int) - 1)=(c:Int):=by have h:=HM.out;intro hb;rw[if_pos hb]at h;rw[IntKind.wrap_i64];omega
  have hwf:bk=false→m=c:=by have h:=HM.out;intro hb;rw[hb]at h;simpa using h
  have HWM:=hid hwm;have HWF:=hid hwf;clear hwm hwf;go_upto_if 27 with fail
  go_cut [5]from 8 to 99 (fun v wx=>v=.int .i64 (c:Nat)∧wx=w5)
  case first =>
   cases bk
   ·obtain rfl:=HWF.out rfl
    go_wp2;go_meet;exact⟨rfl,rfl⟩
   ·have hwm:=HWM.out rfl
    go_wp2;go_meet;exact⟨rfl,rfl⟩
  case rest =>
   obtain⟨rfl,hwc⟩:=hcut;obtain rfl:=hwc;clear t1;go_wp2_with fail;go_cut [6]from 8 to 99 (fun v wx=>v=.int .i64 (i:Nat)∧Hid (Fr [] wc wx))
   case first =>
    go_region_with (first
     | (go_at_call 101;refine(H103b.out _ ?fb).mono ?_;(case fb=>exact⟨rfl,rfl,rfl,Nat.le_refl _,fun _ _ _=>rfl⟩);rintro e w6 ⟨rfl,hf6⟩;have HG6:=hid (show Fr [] wc w6 from⟨hf6.os,hf6.tape,hf6.output,hf6.size,hf6.block⟩);clear hf6))
    all_goals (
     go_wp2
     go_meet
     exact⟨rfl,HG6⟩)
   case rest =>
    obtain⟨rfl,HG6⟩:=hcut;obtain⟨w6,hw6⟩:∃w6,w6=wc:=⟨_,rfl⟩;rw[←hw6]at HG6 ⊢;have HO6:=hid (obj_fr HO5.out HG6.out List.not_mem_nil);have HR6:=hid (obj_fr HR5.out HG6.out List.not_mem_nil);have HF6:=hid (HF5.out.trans HG6.out);clear q0 q3 qb hw6;have t1:=obj_cell HO6.out (i:=1) (v:=.bool bk) rfl;have q0:=HF6.out.cell P0.out List.not_mem_nil;have q1:=HF6.out.cell P1.out List.not_mem_nil;have q2:=HF6.out.cell P2.out List.not_mem_nil;have q3:=HF6.out.cell P3.out List.not_mem_nil;have qc:=HF6.out.cell C2.out List.not_mem_nil;have H104b:=hid (H104.out w6 HF6.out);have H105b:=hid (fun(Y:World) (hf:Fr [] w6 Y)=>H105.out Y (HF6.out.trans hf));go_wp2_with (first | (go_at_call 102;refine H104b.out.mono ?_;rintro e wz ⟨rfl,hwz⟩;obtain rfl:w6=wz:=hwz.symm));go_cut [61]from 8 to 99 (fun v wx=>v=.bool (bk != lf)∧Hid (Fr [] w6 wx))
    case first =>
     go_region_with (first
      | (go_at_call 103;refine(H105b.out _ ?fc).mono ?_;(case fc=>exact⟨rfl,rfl,rfl,Nat.le_refl _,fun _ _ _=>rfl⟩);rintro e w7 ⟨rfl,hf7⟩;have HG7:=hid (show Fr [] w6 w7 from⟨hf7.os,hf7.tape,hf7.output,hf7.size,hf7.block⟩);have t2:=obj_cell (obj_fr HO6.out HG7.out List.not_mem_nil) (i:=1) (v:=.bool bk) rfl;clear hf7))
     all_goals (
      go_wp2
      go_meet
      exact⟨rfl,HG7⟩)
    case rest =>
     obtain⟨rfl,HG7⟩:=hcut;obtain⟨w7,hw7⟩:∃w7,w7=wc:=⟨_,rfl⟩;rw[←hw7]at HG7 ⊢;have HR7:=hid (obj_fr HR6.out HG7.out List.not_mem_nil);have HF7:=hid (HF6.out.trans HG7.out);clear q0 q1 q2 q3 qc t1 hw7;have r0:=obj_cell HR7.out (i:=0) (v:=.int .i64 0) rfl;have r1:=obj_cell HR7.out (i:=1) (v:=.int .i64 0) rfl;have g0:=obj_froz HR7.out 0;have g1:=obj_froz HR7.out 1;by_cases hbl:bk=lf
     ·subst hbl
      have hgp:=HGP.out;rw[if_pos rfl]at hgp;subst hgp;have hb0:(bk != bk)=false:=by simp
      rw[hb0];clear hb0;go_wp2;refine bodyPost_ret (results_cell_row (t:=28) (fr:=(0,0)) rfl _ _ (w.heap.size+1) _ _ rfl (obj_set (obj_set HR7.out 0 _) 1 _) Tryz.underlying28 rfl (by kernel_rfl)) rfl ?_;exact⟨rfl,Fr.set_new (Fr.set_new HF7.out (by omega)) (by omega)⟩
     ·have hgp:=HGP.out
      rw[if_neg hbl]at hgp;have hb0:(bk != lf)=true:=by simpa using hbl
      rw[hb0];clear hb0;have hwk:IntKind.i64.wrap ((k:Int)+1)=((gp:Nat):Int):=by rw[IntKind.wrap_i64];omega
      clear hgp;go_wp2;refine bodyPost_ret (results_cell_row (t:=28) (fr:=(0,0)) rfl _ _ (w.heap.size+1) _ _ rfl (obj_set (obj_set HR7.out 0 _) 1 _) Tryz.underlying28 rfl (by kernel_rfl)) rfl ?_;exact⟨rfl,Fr.set_new (Fr.set_new HF7.out (by omega)) (by omega)⟩
set_option maxRecDepth 10000 in
theorem gapP_nil (B P:Nat)(Bd V X:List Int)(r:Int)(Ls:List Ln)(v0 v1 v2 vL:Value)(hs:List Value)(off:Int)(back:Bool)(w:World)(h:LP w B P Bd V X r Ls v0 v1 v2 vL hs)(hV:V.length=0) :
 Calls Tryz.prog 62 #[.pointer (some ⟨P,0,none⟩),.agg #[.int .i64 off,.bool back]] w fun e w'=>e=.returned (.agg #[.int .i64 0,.int .i64 0])∧Fr [] w w':=by
 obtain⟨a,c,hv,_⟩:=h.v;rw[hV]at hv;subst hv;have p1:=obj_cell h.o (i:=1) (v:=.slice a 0 c) rfl;have hPl:P<w.heap.size:=World.block_lt_of_cell? _ _ p1;obtain⟨w2,hw2⟩:∃w2,w2=(w.alloc (.cells #[.int .i64 off,.bool back] 26)).alloc (.cells #[.int .i64 0,.int .i64 0] 28):=⟨_,rfl⟩;have HF2:=hid (show Fr [] w w2 by rw[hw2];exact((Fr.refl _ _).alloc _).alloc _)
 have HR2:=hid (show w2.heap[w.heap.size+1]?=some (.cells #[.int .i64 0,.int .i64 0] 28 (0,0)) by
  have hs:(w.alloc (.cells #[.int .i64 off,.bool back] 26)).heap.size=w.heap.size+1:=by simp
  have h0:=obj_new (w.alloc (.cells #[.int .i64 off,.bool back] 26)) (.cells #[.int .i64 0,.int .i64 0] 28)
  rw[hs]at h0
  rw[hw2];exact h0)
 have HW2:=hid hw2;clear h hV hw2;go_enter Tryz.func62,Tryz.ntmps62;go_wp2;rw[←HW2.out];refine bodyPost_ret (results_cell_row (t:=28) (fr:=(0,0)) rfl _ _ (w.heap.size+1) _ _ rfl HR2.out Tryz.underlying28 rfl (by kernel_rfl)) rfl ?_;exact⟨rfl,HF2.out⟩
theorem gapP_all (B P:Nat)(Bd V X:List Int)(r z:Int)(Ls:List Ln)(v0 v1 v2 vL:Value)(hs:List Value)(off:Int)(back:Bool)(w:World)(h:LP w B P Bd V X r Ls v0 v1 v2 vL hs)(F:Fine Bd V z Ls)(hz:0≤z)(T:Tame Bd V Ls)(hv4:V.length≤400)(hK:Ls.length≤400)(hlo:∀l∈Ls,l.o.length≤1000) :
 Calls Tryz.prog 62 #[.pointer (some ⟨P,0,none⟩),.agg #[.int .i64 off,.bool back]] w fun e w'=>e=.returned (.agg #[.int .i64 ((gapL Bd V z Ls off back).1:Nat),.int .i64 ((gapL Bd V z Ls off back).2:Nat)])∧Fr [] w w':=by
 by_cases hV:V.length=0
 ·rw[show gapL Bd V z Ls off back=(0,0) by unfold gapL;rw[if_pos hV]]
  exact gapP_nil B P Bd V X r Ls v0 v1 v2 vL hs off back w h hV
 ·obtain⟨c,i,k,hc,e1,e2,hi,hk⟩:=F.gap (by omega) off back
  rw[gapL_eq (by omega) e1 hi hk];exact gapP_any B P Bd V X r z Ls v0 v1 v2 vL hs off _ back _ c i k w h F.rs hz T F.bd hv4 hK hlo rfl hc e1 hi hk
theorem keep_all (s:ByteArray)(b:Int)(W Br:List Int)(n:Nat)(hend:Dec.Ends s n)(hBl:Br.length≤5000)(hck:chk s n (clsOf s n) b W Br=0):∃Bd V X r bs Cs Ls,Twin s b W Br Bd V X r bs Cs Ls∧Tame Bd V Ls∧Fine Bd V (s.size:Nat) Ls∧(V.length=0→Ls.length=1)∧(0<V.length→Edges s n Br∧0<n∧(bs=0∨bs=1)∧Bd=bnd s n∧V=lvE s n bs Br∧Ls=lns s n bs W Br (Br.length+1)):=by
 obtain⟨hs,hb⟩:=chk_zero' hck;obtain⟨hWl,hw,hbr⟩:=chk_zero hend hs hb hck;by_cases hn:0<n
 ·have hE:=edges_ok hend hn Br hbr
  have hn4:n≤400:=by have:=Dec.le_pos s n;have:=hend.1;omega
  have hcn:cn s n≤400:=by have:=bix_len s n;unfold cn;omega
  have hB4:Br.length+1≤400:=by
   have h1:=ei_ge hE (Br.length+1) (Nat.le_refl _);have h2:=hE.le (Br.length+1) (Nat.le_refl _);unfold eiOf at h1;omega
  have hvl:(lvE s n (baseOf (Kl s n) b) Br).length=cn s n:=by rw[lvE,lvs_len,←cn_begs hn]
  have hc0:0<cn s n:=by
   have h1:=ei_ge hE (Br.length+1) (Nat.le_refl _);have h2:=hE.le (Br.length+1) (Nat.le_refl _);unfold eiOf at h1;omega
  have hWB:∀i,0≤nth W i∧nth W i≤1073741824:=fun i=>by
   by_cases hi:i<n
   ·exact wOk_at hw hi
   ·rw[nth_over (by omega)];decide
  refine⟨bnd s n,lvE s n (baseOf (Kl s n) b) Br,wl s W n,1 - 2 * baseOf (Kl s n) b,baseOf (Kl s n) b,clst (Dec.pos s) (nix (bix s n)) (evOf s n (baseOf (Kl s n) b) Br) W (cn s n),lns s n (baseOf (Kl s n) b) W Br (Br.length+1),?_,tame_pos hn hn4 (base_01 hb) hWB hE hcn,fine_pos hend hn hE,fun h=>by omega,fun _=>⟨hE,hn,base_01 hb,rfl,rfl,rfl⟩⟩
  exact {
   vx:=by rw[hvl,wl_len,←cn_begs hn]
   bd:=by have:=(bix_len s n).2.1;rw[hvl,bnd_length hend];unfold cn;omega
   vl:=by rw[hvl];exact hcn
   cs:=by rw[hvl];exact cls_same hend hn (base_01 hb) W Br
   l0:=by rw[lns_len];omega
   l1:=by rw[lns_len];exact hB4
   ll:=lns_small hE hcn _ W
   p:=fun w vW vB hF h1 h2=>layP_pos s b vW vB W Br n w hs hb hF hend hn h1 h2 hBl hck }
 ·obtain rfl:n=0:=by omega
  have hs0:s.size=0:=hend.1.symm;have hbr0:=br_nil hs0 hbr;subst hbr0;refine⟨[0],[],[],1 - 2 * baseOf [] b,baseOf [] b,[],[ln0],?_,tame_nil,by rw[hs0];exact fine_nil,fun _=>rfl,fun h=>absurd h (by decide)⟩
  exact {
   vx:=rfl
   bd:=rfl
   vl:=by decide
   cs:=rfl
   l0:=by decide
   l1:=by decide
   ll:=fun l hl=>by rw[List.mem_singleton.1 hl];decide
   p:=fun w vW vB hF h1 h2=>layP_nil s b vW vB W [] w hs0 hb hF h1 h2 hck }
end Go.Proofs.YtnakejhohdbfdacGreatDoor
namespace Go.Proofs.YtnakejhohdbfdacGreatDoor
open Go.RowKit Lev Lay
theorem partsTo_step (p:Nat→Bool)(o:List Nat)(k:Nat):partsTo p o (k+1)=if k<o.length∧p (nix o k)=true then partsTo p o k else(if(partsTo p o k).2<k then(partsTo p o k).1++[((partsTo p o k).2,k)]else(partsTo p o k).1,k+1):=rfl
structure PrtOk (f:Nat→Bool)(o:List Nat)(g:Nat)(L:List (Nat × Nat))(fr:Nat):Prop where
 le:fr≤g
 run:∀k,fr≤k→k<g→k<o.length∧f (nix o k)=true
 inn:∀p∈L,p.1<p.2∧p.2<fr
 adj:L.Pairwise (fun p q=>p.2<q.1)
 has:∀k,k<fr→k<o.length→((∃p∈L,p.1≤k∧k<p.2) ↔ f (nix o k)=true)
theorem prt_ok (f:Nat→Bool)(o:List Nat):∀g,PrtOk f o g (partsTo f o g).1 (partsTo f o g).2
 | 0=>by
   refine⟨Nat.le_refl _,fun k _ h=>absurd h (Nat.not_lt_zero _),fun p hp=>absurd hp List.not_mem_nil,List.Pairwise.nil,fun k h=>absurd h (Nat.not_lt_zero _)⟩
 | g+1=>by
   have ih:=prt_ok f o g;rw[partsTo_step];split
   ·rename_i h
    refine⟨Nat.le_succ_of_le ih.le,fun k h1 h2=>?_,ih.inn,ih.adj,ih.has⟩
    rcases Nat.lt_or_eq_of_le (Nat.le_of_lt_succ h2)with h3 | rfl
    ·exact ih.run k h1 h3
    ·exact h
   ·rename_i h
    generalize (partsTo f o g).1=L at *;generalize (partsTo f o g).2=fr at *;have hg:g<o.length→¬f (nix o g)=true:=fun h1 h2=>h ⟨h1,h2⟩
    split
    ·rename_i hlt
     refine⟨Nat.le_refl _,fun k h1 h2=>by omega,fun p hp=>?_,?_,fun k hk hkl=>?_⟩
     ·rcases List.mem_append.1 hp with hp | hp
      ·have:=ih.inn p hp;have:=ih.le;dsimp only;omega
      ·rw[List.mem_singleton.1 hp];dsimp only;omega
     ·rw[List.pairwise_append]
      refine⟨ih.adj,List.pairwise_singleton _ _,fun p hp q hq=>?_⟩;rw[List.mem_singleton.1 hq];exact(ih.inn p hp).2
     ·dsimp only at hk
      by_cases h1:k<fr
      ·rw[←ih.has k h1 hkl]
       constructor
       ·rintro ⟨p,hp,h2,h3⟩
        rcases List.mem_append.1 hp with hp | hp
        ·exact⟨p,hp,h2,h3⟩
        ·rw[List.mem_singleton.1 hp]at h2;dsimp only at h2;omega
       ·rintro ⟨p,hp,h2,h3⟩
        exact⟨p,List.mem_append.2 (.inl hp),h2,h3⟩
      ·by_cases h4:k<g
       ·exact⟨fun _=>(ih.run k (by omega) h4).2,fun _=>⟨(fr,g),List.mem_append.2 (.inr (List.mem_singleton.2 rfl)),by dsimp only;omega,h4⟩⟩
       ·obtain rfl:k=g:=by omega
        refine⟨fun hh=>?_,fun hh=>absurd hh (hg hkl)⟩;obtain⟨p,hp,h2,h3⟩:=hh
        rcases List.mem_append.1 hp with hp | hp
        ·have:=ih.inn p hp;omega
        ·rw[List.mem_singleton.1 hp]at h3;dsimp only at h3;omega
    ·rename_i hlt
     obtain rfl:fr=g:=by have:=ih.le;omega
     refine⟨Nat.le_refl _,fun k h1 h2=>by omega,fun p hp=>?_,ih.adj,fun k hk hkl=>?_⟩
     ·have:=ih.inn p hp;dsimp only;omega
     ·dsimp only at hk
      by_cases h1:k<fr
      ·exact ih.has k h1 hkl
      ·obtain rfl:k=fr:=by omega
       refine⟨fun hh=>?_,fun hh=>absurd hh (hg hkl)⟩;obtain⟨p,hp,h2,h3⟩:=hh;have:=ih.inn p hp;omega
theorem prtL_ok (f:Nat→Bool)(o:List Nat):PrtOk f o (o.length+1) (Lay.parts f o) (o.length+1):=by
 have h:=prt_ok f o (o.length+1);rw[show(partsTo f o (o.length+1)).2=o.length+1 by rw[partsTo_step,if_neg (fun h=>Nat.lt_irrefl _ h.1)]]at h;exact h
structure Spn where
 l:Nat
 f:Nat
 t:Nat
 a:Int
 b:Int
def spL (i:Nat)(x:List Int)(L:List (Nat × Nat)):List Spn:=L.map (fun p=>⟨i,p.1,p.2,nth x p.1,nth x p.2⟩)
def spCells:List Spn→List Value
 | []=>[]
 | x :: l=>.int .i64 (x.l:Nat) :: .int .i64 (x.f:Nat) :: .int .i64 (x.t:Nat) :: .int .i64 x.a :: .int .i64 x.b :: spCells l
theorem spCells_app:∀l m:List Spn,spCells l++spCells m=spCells (l++m)
 | [],_=>rfl
 | x :: l,m=>by simp only[spCells,List.cons_append,spCells_app l m]
theorem five_one (a b c d e:Int):∀u∈[Value.int .i64 a,.int .i64 b,.int .i64 c,.int .i64 d,.int .i64 e],u.oneCell'=true:=by
 intro u hu;simp only[List.mem_cons,List.not_mem_nil,or_false]at hu
 rcases hu with rfl | rfl | rfl | rfl | rfl <;> rfl
theorem spCells_one:∀l:List Spn,∀u∈spCells l,u.oneCell'=true
 | [],u,h=>by simp[spCells]at h
 | x :: l,u,h=>by
   simp only[spCells,List.mem_cons]at h
   rcases h with rfl | rfl | rfl | rfl | rfl | h <;> first | rfl | exact spCells_one l u h
theorem info251:(Tryz.prog.info? 251).map (fun i=>(i.zero,i.size,i.bytes))=some (some (.agg #[.int .i64 0,.int .i64 0,.int .i64 0,.int .i64 0,.int .i64 0]),5,40):=by kernel_rfl
set_option maxRecDepth 10000 in
set_option maxHeartbeats 4000000 in
theorem spans_any (j:Nat)(lf lt:Int)(vO:Value)(gX cX:Nat)(x:List Int)(L:List (Nat × Nat))(vS:Value)(B:Nat)(w:World)(hX:∀t,t<x.length→w.cell? ⟨gX,t,none⟩=some (.int .i64 (nth x t)))(hS:w.ownsRow B 249 2 vS L.length (ptCells L))(hL:∀p∈L,p.1<p.2∧p.2<x.length)(hn:L.length≤10000) :
 Calls Tryz.prog 105 #[.int .i64 j,.agg #[.int .i64 lf,.int .i64 lt,vO,.slice (some ⟨gX,0,none⟩) x.length cX],vS] w fun e w'=>∃v,e=.returned v∧w'.ownsRow w.heap.size 251 5 v (spL j x L).length (spCells (spL j x L))∧Fr [] w w':=by
 obtain⟨i0,hi,hz0,hz1,hz2⟩:=info_parts info251;obtain⟨aS,cS,rfl⟩:=owns_slice hS;obtain⟨n,hnn⟩:∃n,n=L.length:=⟨_,rfl⟩;obtain⟨lx,hlx⟩:∃lx,lx=x.length:=⟨_,rfl⟩;have HX:=hid hX;have HS:=hid hS;have HL:=hid hL;have HN:=hid hnn;have HLX:=hid hlx;rw[←hnn]at hn ⊢;rw[←hlx];obtain⟨wb,hwb⟩:∃wb,wb=w.alloc (.cells #[.int .i64 lf,.int .i64 lt,vO,.slice (some ⟨gX,0,none⟩) lx cX] 69):=⟨_,rfl⟩;have HFb:=hid (show Fr [] w wb by rw[hwb];exact(Fr.refl [] w).alloc _);have HOb:=hid (show wb.heap[w.heap.size]?=some (.cells #[.int .i64 lf,.int .i64 lt,vO,.slice (some ⟨gX,0,none⟩) lx cX] 69 (0,0)) by rw[hwb];exact obj_new w _);obtain⟨R,hR⟩:∃R,R=spL j x L:=⟨_,rfl⟩;rw[←hR];have HR:=hid hR;clear hX hS hL hnn hlx hR;go_enter Tryz.func105,Tryz.ntmps105;go_wp2_with fail;rw[←hwb];have hwbs:wb.heap.size=w.heap.size+1:=by rw[hwb];simp
 clear hwb;go_loopw [7,12] (fun vo kk wr=>∃t:Nat,kk=.int .i64 t∧t≤n∧Hid (Fr [] wb wr)∧Hid (wr.ownsRow (w.heap.size+1) 251 5 vo t (spCells (spL j x (L.take t))))) (fun _ kk _=>n - (intOf kk).toNat)
 case atStart=>exact⟨0,rfl,Nat.zero_le _,hid (Fr.refl _ _),hid (World.ownsRow_nil _ _ _ _)⟩
 case round =>
  obtain⟨t,rfl,htn,HFt,HOt⟩:=hrel;have HFw:=hid (HFb.out.trans HFt.out);by_cases htl:t<n
  ·have htI:(t:Int)<(n:Int):=by omega
   obtain⟨p,hp⟩:∃p,L[t]?=some p:=⟨_,List.getElem?_eq_getElem (by have:=HN.out;omega)⟩;obtain⟨hp1,hp2⟩:=HL.out p (List.mem_of_getElem? hp);rw[←HLX.out]at hp2;obtain⟨gS,cS',hvS⟩:=owns_shape (by have:=HN.out;omega) HS.out;cases hvS;have hown:=owns_fr0 HS.out HFw.out;obtain⟨a1,a2⟩:=ptCells_at L t p hp;have c0:wr.cell? ⟨gS,t * 2,none⟩=some (.int .i64 (p.1:Nat)):=by rw[hown.cellAt _ (by have:=HN.out;omega)];exact a1
   have c1:wr.cell? ⟨gS,t * 2+1,none⟩=some (.int .i64 (p.2:Nat)):=by rw[hown.cellAt _ (by have:=HN.out;omega)];exact a2
   have q1:wr.cell? ⟨w.heap.size,3,none⟩=some (.slice (some ⟨gX,0,none⟩) lx cX):=obj_cell (obj_fr HOb.out HFt.out List.not_mem_nil) (i:=3) rfl;have q2:=HFw.out.cell (HX.out p.1 (by have:=HLX.out;omega)) List.not_mem_nil;have q3:=HFw.out.cell (HX.out p.2 (by have:=HLX.out;omega)) List.not_mem_nil
   have HSN:=hid (show spL j x (L.take (t+1))=spL j x (L.take t)++[⟨j,p.1,p.2,nth x p.1,nth x p.2⟩] by
    unfold spL
    rw[List.take_add_one,hp,List.map_append];rfl)
   have HXL:=hid (HX.out p.1 (by have:=HLX.out;omega));generalize nth x p.1=xa at *;generalize nth x p.2=xb at *;generalize p.1=f0 at *;generalize p.2=k0 at *;have hfI:(f0:Int)<(lx:Int):=by omega
   have hkI:(k0:Int)<(lx:Int):=by omega
   clear hown a1 a2 hp;have hgXl:=World.block_lt_of_cell? _ _ HXL.out;dsimp only at hgXl;go_wp2_with fail;clear c0 c1;obtain⟨w1,hw1⟩:∃w1,w1=wr.alloc (.cells #[.int .i64 f0,.int .i64 k0] 249):=⟨_,rfl⟩;obtain⟨gP,hgP⟩:∃gP,gP=wr.heap.size:=⟨_,rfl⟩;have HF1:=hid (show Fr [] wr w1 by rw[hw1];exact(Fr.refl [] wr).alloc _);have HP1:=hid (show w1.heap[gP]?=some (.cells #[.int .i64 f0,.int .i64 k0] 249 (0,0)) by rw[hw1,hgP];exact obj_new wr _);have hw1s:w1.heap.size=gP+1:=by rw[hw1,hgP];simp
   have hgt:=HFt.out.size;have HLT:=hid (fun g (hg:u7.ownBlock=some g)=>show w.heap.size+1≤g∧g<gP by rw[hgP];exact HOt.out.lt g hg);rw[←hw1,←hgP];rw[←hgP]at hgt;have s0:=obj_cell HP1.out (i:=0) rfl;have s1:=obj_cell HP1.out (i:=1) rfl;have s2:=HF1.out.cell q1 List.not_mem_nil;have s3:=HF1.out.cell q2 List.not_mem_nil;have s4:=HF1.out.cell q3 List.not_mem_nil;have HO1:=hid (owns_fr0 HOt.out HF1.out);clear q1 q2 q3 hw1 hgP
   have HKP:=hid (fun(w1' w':World) (hf:Fr [] w1 w1') (hg:w1'.grownBy w' u7.ownBlock)=>show w'.cell? ⟨gP,0,none⟩=some (.int .i64 f0)∧w'.cell? ⟨gP,1,none⟩=some (.int .i64 k0)∧w'.cell? ⟨w.heap.size,3,none⟩=some (.slice (some ⟨gX,0,none⟩) lx cX)∧w'.cell? ⟨gX,f0,none⟩=some (.int .i64 xa)∧w'.cell? ⟨gX,k0,none⟩=some (.int .i64 xb)from by
    have hs:=hf.size
    have K:∀(b o:Nat) (v:Value),b<gP+1→(∀g,u7.ownBlock=some g→g≠b)→w1.cell? ⟨b,o,none⟩=some v→w'.cell? ⟨b,o,none⟩=some v:=fun b o v hb hne hc =>
     (World.cell?_of_block (a:=⟨b,o,none⟩) (hg.block b (by omega) (fun e=>hne b e.symm rfl))).trans (hf.cell hc List.not_mem_nil)
    have h1:∀g,u7.ownBlock=some g→g≠gP:=fun g hg=>by have:=HLT.out g hg;omega
    have h2:∀g,u7.ownBlock=some g→g≠w.heap.size:=fun g hg=>by have:=HLT.out g hg;omega
    have h3:∀g,u7.ownBlock=some g→g≠gX:=fun g hg=>by have:=HLT.out g hg;omega
    exact⟨K _ _ _ (by omega) h1 s0,K _ _ _ (by omega) h1 s1,K _ _ _ (by omega) h2 s2,K _ _ _ (by omega) h3 s3,K _ _ _ (by omega) h3 s4⟩)
   have hb0:gP<w1.heap.size:=by omega
   have hb1:w.heap.size<w1.heap.size:=by omega
   have hb2:gX<w1.heap.size:=by omega
   go_region_held_law (fun w'=>w'.cell? ⟨gP,0,none⟩=some (.int .i64 f0)∧w'.cell? ⟨gP,1,none⟩=some (.int .i64 k0)∧w'.cell? ⟨w.heap.size,3,none⟩=some (.slice (some ⟨gX,0,none⟩) lx cX)∧w'.cell? ⟨gX,f0,none⟩=some (.int .i64 xa)∧w'.cell? ⟨gX,k0,none⟩=some (.int .i64 xb)) (first | exact HS1 | go_keep) ((refine step_app rfl (.tmp 16) (.tmp 35) 29 rfl (w.heap.size+1) 251 i0 _ 5 40 Tryz.underlying29 hi hz0 hz1 hz2 rfl (by decide) u7 t (spCells (spL j x (L.take t))) ?q1 ?q2 ⟨w1.heap.size,0,none⟩ 1 1 [.int .i64 j,.int .i64 f0,.int .i64 k0,.int .i64 xa,.int .i64 xb] ?q3 rfl ?q4 (five_one _ _ _ _ _) (by unfold maxLen;omega) (by omega) ?q5 ?_;(case q1=>first | rfl | simp[Act.eval]);(case q2=>exact owns_fr0 HO1.out (frA _ _));(case q3=>first | rfl | simp[Act.eval]);(case q4=>exact news_at _ _ _ _ (by simp));(case q5=>simp;omega);intro v' w' hown hgrow;have HG1:=hid hown;have HG2:=hid hgrow;have HS1:=HKP.out _ _ (frA _ _) hgrow;clear hown hgrow))
   all_goals (
    have HF9:=hid (show Fr [] wb w' from Fr.grown ((HFt.out.trans HF1.out).trans (frA w1 (.cells #[.int .i64 j,.int .i64 f0,.int .i64 k0,.int .i64 xa,.int .i64 xb] 251))) HG2.out (fun g hg=>by have:=HLT.out g hg;omega))
    have HO9:=hid (show w'.ownsRow (w.heap.size+1) 251 5 v' (t+1) (spCells (spL j x (L.take (t+1)))) by rw[HSN.out,←spCells_app];exact HG1.out)
    go_wp2
    go_roundw
    case rel=>exact⟨t+1,by go_num,by omega,HF9,HO9⟩
    case measure=>simp[intOf];omega)
  ·obtain rfl:t=n:=by omega
   have htI:¬(t:Int)<(t:Int):=by omega
   have HFin:=hid (show wr.ownsRow w.heap.size 251 5 u7 R.length (spCells R) by
    have h:=HOt.out
    rw[show L.take t=L by rw[HN.out,List.take_length],←HR.out]at h
    have e:R.length=t:=by rw[HR.out,spL,List.length_map,HN.out]
    rw[e]
    exact owns_low h (by omega))
   go_wp2;go_ret;exact⟨_,rfl,HFin.out,HFw.out⟩
theorem step_appo {P:Program}{ops:Array Oper}{o:Oper}{a:Act}{w:World}{K:Act→World→Prop}{Q:Exit→Act→World→Prop}{X:Prop}
 (hg:o.guard=none) (s x:Operand) (t:TypeId) (hop:o.op=Op.call { callee:=Callee.builtin Builtin.append,args:=#[s,x],argTypes:=#[t,t] })
 (base:Nat) (e:TypeId) (i:TypeInfo) (z:Value) (size bytes:Nat) (h1:P.underlying t=some (.slice e)) (h2:P.info? e=some i) (h3:i.zero=some z) (h4:i.size=size) (h5:i.bytes=bytes) (h6:z.cells.size=size) (h7:0<size)
 (v:Value) (n:Nat) (xs:List Value) (hs:a.eval s=v) (hown:w.ownsRow base e size v n xs)
 (B':Nat) (vx:Value) (m:Nat) (news:List Value) (hx:a.eval x=vx) (hnx:w.ownsRow B' e size vx m news) (h1c:∀u∈news,u.oneCell'=true)
 (b1:n+m≤maxLen) (b2:(n+m) * bytes≤140737488355328) (b3:base≤w.heap.size)
 (hK:∀v' w',w'.ownsRow base e size v' (n+m) (xs++news)→w.grownBy w' v.ownBlock→K (a.put o.dst v') w') :
 if Region.wanted o (yielded ops a.tmps)=true then Oper.wp P o a w K Q else X:=by
 have hl:=hnx.1
 rcases hnx.2 with⟨hv,hm⟩ | ⟨g,cap,cur,hv,_⟩
 ·have hw:Region.wanted o (yielded ops a.tmps)=true:=by simp[Region.wanted,hg]
  rw[if_pos hw];have hnil:news=[]:=List.length_eq_zero_iff.1 (by rw[hl,hm,Nat.zero_mul]);have hrun:=run_append_owned_none (P:=P) (w:=w) base t o.type e i size h1 h2 v n xs hown;subst hnil;subst hm;have hk:=hK v w (by simpa using hown) ⟨rfl,rfl,rfl,Nat.le_refl _,fun _ _ _=>rfl⟩;unfold Oper.wp;simp[execOp,hop,resolve,invoke,builtin,hs,hx,hv,hrun,Result.andThen];exact hk
 ·exact step_app hg s x t hop base e i z size bytes h1 h2 h3 h4 h5 h6 h7 v n xs hs hown ⟨g,0,none⟩ m cap news (hx.trans hv) hl (fun j u hu=>by
   rw[hv]at hnx
   have hj:j<news.length:=(List.getElem?_eq_some_iff.1 hu).1
   have h:=hnx.cellAt j (by omega)
   rw[hu]at h
   rcases Nat.eq_zero_or_pos j with h9 | h9
   ·subst h9;exact h
   ·simpa[Addr.add,show ¬j=0 by omega] using h) h1c b1 b2 b3 hK
set_option maxHeartbeats 1000000 in
theorem parts_nil (F:Nat)(caps:Array Value)(w:World) :
 Calls Tryz.prog 106 #[.slice none 0 0,.func (.func F) #[] caps] w fun e w'=>e=.returned (.slice none 0 0)∧w'=w:=by
 go_enter Tryz.func106,Tryz.ntmps106;go_wp2_with fail;go_loopw [5,6,11] (fun vo ff gg wr=>∃k:Nat,gg=.int .i64 k∧k≤1∧ff=.int .i64 k∧vo=.slice none 0 0∧wr=w) (fun _ _ gg _=>1 - (intOf gg).toNat)
 case atStart=>exact⟨0,rfl,Nat.zero_le _,rfl,by simp⟩
 case round =>
  obtain⟨k,rfl,hk,rfl,rfl,rfl⟩:=hrel;by_cases h:k<1
  ·obtain rfl:k=0:=by omega
   go_wp2;go_roundw
   case rel=>exact⟨1,rfl,Nat.le_refl _,rfl,by simp⟩
   case measure=>simp[intOf]
  ·obtain rfl:k=1:=by omega
   go_wp2;go_ret;exact⟨rfl,rfl⟩
theorem parts_gen (F:Nat)(caps:Array Value)(p:Nat→Bool)(o:List Nat)(B:Nat)(v:Value)(w:World)(hl:o.length≤1000)(hO:w.ownsRow B 3 1 v o.length (intsN o))(eg:∀args w,(callFunc F args).run Tryz.prog w=.ok (.enter F args) w)
 (hf:∀X,Fr [] w X→∀i,i<o.length→Calls Tryz.prog F (#[.int .i64 (nix o i:Nat)]++caps) X fun e w'=>e=.returned (.bool (p (nix o i)))∧∃q,w'=X.drewN q) :
 Calls Tryz.prog 106 #[v,.func (.func F) #[] caps] w fun e w'=>∃v,e=.returned v∧w'.ownsRow w.heap.size 249 2 v (Lay.parts p o).length (ptCells (Lay.parts p o))∧Fr [] w w':=by
 rcases hO.2 with⟨hv,h0⟩ | ⟨g,cap,cur,hv,_⟩
 ·rw[hv]
  refine(parts_nil F caps w).mono ?_;rintro e w' ⟨rfl,rfl⟩;have:Lay.parts p o=[]:=by rw[List.length_eq_zero_iff.1 h0];rfl
  rw[this];exact⟨_,rfl,World.ownsRow_nil _ _ _ _,Fr.refl _ _⟩
 ·rw[hv]at hO ⊢
  exact parts_any F caps p o g cap w hl (owns_rowN hO rfl) eg hf
end Go.Proofs.YtnakejhohdbfdacGreatDoor

import Derived.Test.YtnakejhohdbfdacGreatDoorKMd
import Derived.Test.YtnakejhohdbfdacGreatDoorKMb
import Derived.Deep.RegionHeldLaw
import Derived.Deep.RegionLawGrows
import Derived.Test.YtnakejhohdbfdacGreatDoorKMe
import Derived.Test.YtnakejhohdbfdacGreatDoorKLdG
namespace Go.Proofs.YtnakejhohdbfdacGreatDoor
open Go.RowKit Lev Lay
def ptCells:List (Nat × Nat)→List Value
 | []=>[]
 | x :: l=>.int .i64 (x.1:Nat) :: .int .i64 (x.2:Nat) :: ptCells l
theorem ptCells_app:∀l m:List (Nat × Nat),ptCells l++ptCells m=ptCells (l++m)
 | [],_=>rfl
 | x :: l,m=>by simp only[ptCells,List.cons_append,ptCells_app l m]
theorem ptCells_at:∀(l:List (Nat × Nat)) (i:Nat) (x:Nat × Nat),l[i]?=some x→(ptCells l)[i * 2]?=some (.int .i64 (x.1:Nat))∧(ptCells l)[i * 2+1]?=some (.int .i64 (x.2:Nat))
 | [],i,x,h=>by simp at h
 | y :: l,0,x,h=>by simp at h;subst h;exact⟨rfl,rfl⟩
 | y :: l,i+1,x,h=>by
   have ih:=ptCells_at l i x (by simpa using h);rw[show(i+1) * 2=i * 2+1+1 by omega];exact ih
theorem two_one (a b:Int):∀u∈[Value.int .i64 a,.int .i64 b],u.oneCell'=true:=by
 intro u hu;simp only[List.mem_cons,List.not_mem_nil,or_false]at hu
 rcases hu with rfl | rfl <;> rfl
theorem info249:(Tryz.prog.info? 249).map (fun i=>(i.zero,i.size,i.bytes))=some (some (.agg #[.int .i64 0,.int .i64 0]),2,16):=by kernel_rfl
theorem partsTo_len (p:Nat→Bool)(l:List Nat):∀g,(partsTo p l g).1.length≤g∧(partsTo p l g).2≤g
 | 0=>by simp[partsTo]
 | g+1=>by
   have ih:=partsTo_len p l g;rw[partsTo];split
   ·omega
   ·dsimp only
    split
    ·rw[List.length_append,List.length_singleton];omega
    ·omega
theorem fr_drewN (w:World)(q:Nat):Fr [] w (w.drewN q):=(Fr.refl [] w).drewN q
set_option maxRecDepth 10000 in
set_option maxHeartbeats 4000000 in
theorem parts_any (F:Nat)(caps:Array Value)(p:Nat→Bool)(o:List Nat)(g c:Nat)(w:World)(hl:o.length≤1000)(hrow:rowN w g o.length o)(eg:∀args w,(callFunc F args).run Tryz.prog w=.ok (.enter F args) w)
 (hf:∀X,Fr [] w X→∀i,i<o.length→Calls Tryz.prog F (#[.int .i64 (nix o i:Nat)]++caps) X fun e w'=>e=.returned (.bool (p (nix o i)))∧∃q,w'=X.drewN q) :
 Calls Tryz.prog 106 #[.slice (some ⟨g,0,none⟩) o.length c,.func (.func F) #[] caps] w fun e w'=>∃v,e=.returned v∧w'.ownsRow w.heap.size 249 2 v (Lay.parts p o).length (ptCells (Lay.parts p o))∧Fr [] w w':=by
 obtain⟨i0,hi,hz0,hz1,hz2⟩:=info_parts info249;have HR:=hid hrow;have HF:=hid hf;have HPL:=hid (partsTo_len p o);have HST:=hid (fun k=>show partsTo p o (k+1)=if k<o.length∧p (nix o k)=true then partsTo p o k else(if(partsTo p o k).2<k then(partsTo p o k).1++[((partsTo p o k).2,k)]else(partsTo p o k).1,k+1)from rfl);obtain⟨R,hR⟩:∃R,R=Lay.parts p o:=⟨_,rfl⟩;rw[←hR];obtain⟨n,hn⟩:∃n,n=o.length:=⟨_,rfl⟩;have HRR:=hid (show R=(partsTo p o (n+1)).1 by rw[hR,hn];rfl);rw[←hn]at hl HR HF HST ⊢;clear hrow hf hR hn;go_enter Tryz.func106,Tryz.ntmps106;go_wp2_with fail;go_loopw [5,6,11] (fun vo ff gg wr=>∃(k:Nat),gg=.int .i64 k∧k≤n+1∧ff=.int .i64 ((partsTo p o k).2:Nat)∧Hid (wr.ownsRow w.heap.size 249 2 vo (partsTo p o k).1.length (ptCells (partsTo p o k).1))∧Hid (Fr [] w wr)) (fun _ _ gg _=>n+1 - (intOf gg).toNat)
 case atStart=>exact⟨0,rfl,Nat.zero_le _,rfl,hid (World.ownsRow_nil _ _ _ _),hid (Fr.refl _ _)⟩
 case round =>
  obtain⟨k,rfl,hkn,rfl,HO,HFr⟩:=hrel;by_cases hkl:k<n+1
  ·have hkI:(k:Int)<(n:Int)+1:=by omega
   have HS:=hid (HST.out k);have hp1:=HPL.out k;have hsz:=HFr.out.size;by_cases hka:k<n∧p (nix o k)=true
   ·obtain⟨h1,h2⟩:=hka
    have HS2:=hid (show partsTo p o (k+1)=partsTo p o k by rw[HS.out,if_pos ⟨h1,h2⟩]);have d0:=HR.out.fr HFr.out List.not_mem_nil k h1;have HC:=hid (HF.out wr HFr.out k h1);rw[h2]at HC;have h1I:(k:Int)<(n:Int):=by omega
    clear h2 HS;generalize nix o k=x at *;obtain⟨f0,hf0⟩:∃f0,f0=(partsTo p o k).2:=⟨_,rfl⟩;rw[←hf0];have HF0:=hid hf0;clear hf0;go_wp2_with (go_at_fn F;refine HC.out.mono ?_;rintro e w' ⟨rfl,mm,rfl⟩);go_roundw
    case rel=>exact⟨k+1,by go_num,by omega,by rw[HS2.out,HF0.out],hid (by rw[HS2.out];exact HO.out),hid (HFr.out.drewN _)⟩
    case measure=>simp[intOf];omega
   ·have HS2:=hid (show(partsTo p o (k+1)).2=k+1∧(partsTo p o (k+1)).1=if(partsTo p o k).2<k then(partsTo p o k).1++[((partsTo p o k).2,k)]else(partsTo p o k).1 by rw[HS.out,if_neg hka];exact⟨rfl,rfl⟩)
    obtain⟨f0,hf0⟩:∃f0,f0=(partsTo p o k).2:=⟨_,rfl⟩;obtain⟨l0,hl0⟩:∃l0,l0=(partsTo p o k).1:=⟨_,rfl⟩;rw[←hf0]at HS2 hp1 ⊢;rw[←hl0]at HS2 hp1 HO;clear hf0 hl0 HS
    -- the test is false: two ways
    have hcs:(k<n∧p (nix o k)=false)∨¬k<n:=by
     by_cases h:k<n
     ·exact .inl ⟨h,by cases hh:p (nix o k);rfl;exact absurd ⟨h,hh⟩ hka⟩
     ·exact .inr h
    clear hka;obtain⟨hp10,hp11⟩:=hp1;by_cases hfk:f0<k
    ·have hfI:(f0:Int)<(k:Int):=by omega
     have HS3:=hid (show(partsTo p o (k+1)).1=l0++[(f0,k)] by rw[HS2.out.2,if_pos hfk])
     rcases hcs with⟨h1,h2⟩ | h1
     case' inl =>
      have d0:=HR.out.fr HFr.out List.not_mem_nil k h1;have HC:=hid (HF.out wr HFr.out k h1);rw[h2]at HC;have h1I:(k:Int)<(n:Int):=by omega
      clear h2;generalize nix o k=x at *
     case' inr =>
      have h1I:¬(k:Int)<(n:Int):=by omega
      have h1J:decide ((k:Int)<(n:Int))=false:=decide_eq_false h1I;have HC:Hid True:=trivial
     all_goals (
      go_wp2_with (first | (go_at_fn F;refine HC.out.mono ?_;rintro e w' ⟨rfl,mm,rfl⟩) | (at_builtin;refine wpList_append_own _ rfl _ _ 210 rfl w.heap.size 249 i0 _ 2 16 Tryz.underlying210 hi hz0 hz1 hz2 rfl (by decide) _ l0.length (ptCells l0) rfl ?own _ 1 1 [.int .i64 (f0:Nat),.int .i64 (k:Nat)] rfl rfl (news_at _ _ _ _ (by simp)) (two_one _ _) (by unfold maxLen;omega) (by omega) ?szz ?_))
      case own=>exact owns_fr0 HO.out (by first | exact(Fr.refl [] _).alloc _ | exact(fr_drewN _ _).alloc _)
      case szz=>first | omega | (simp;omega)
      intro v' w3 own3 hgrow hnil
      have HF3:=hid (Fr.grown (by first | exact HFr.out.alloc _ | exact(HFr.out.drewN _).alloc _) hgrow (fun x h=>(HO.out.lt x h).1))
      have HO3:=hid own3
      clear own3 hgrow hnil
      go_wp2
      go_roundw
      case rel=>exact⟨k+1,by go_num,by omega,by rw[HS2.out.1];go_num,hid (by rw[HS3.out,List.length_append,←ptCells_app];exact HO3.out),HF3⟩
      case measure=>simp[intOf];omega)
    ·have hfI:¬(f0:Int)<(k:Int):=by omega
     have HS3:=hid (show(partsTo p o (k+1)).1=l0 by rw[HS2.out.2,if_neg hfk])
     rcases hcs with⟨h1,h2⟩ | h1
     case' inl =>
      have d0:=HR.out.fr HFr.out List.not_mem_nil k h1;have HC:=hid (HF.out wr HFr.out k h1);rw[h2]at HC;have h1I:(k:Int)<(n:Int):=by omega
      clear h2;generalize nix o k=x at *
     case' inr =>
      have h1I:¬(k:Int)<(n:Int):=by omega
      have h1J:decide ((k:Int)<(n:Int))=false:=decide_eq_false h1I;have HC:Hid True:=trivial
     all_goals (
      go_wp2_with (first | (go_at_fn F;refine HC.out.mono ?_;rintro e w' ⟨rfl,mm,rfl⟩))
      go_roundw
      case rel=>exact⟨k+1,by go_num,by omega,by rw[HS2.out.1];go_num,hid (by rw[HS3.out];exact HO.out),by first | exact hid (HFr.out.drewN _) | exact HFr⟩
      case measure=>simp[intOf];omega)
  ·obtain rfl:k=n+1:=by omega
   generalize (partsTo p o (n+1)).2=f0 at *;have hkI:¬((n+1:Nat):Int)<(n:Int)+1:=by omega
   have HO2:=hid (show wr.ownsRow w.heap.size 249 2 u5 R.length (ptCells R) by rw[HRR.out];exact HO.out);go_wp2;go_ret;exact⟨_,rfl,HO2.out,HFr.out⟩
def xsum (f:Nat→Int)(o:List Nat):Nat→Int
 | 0=>0
 | k+1=>xsum f o k+f (nix o k)
def xs (f:Nat→Int)(o:List Nat)(k:Nat):List Int:=(List.range (k+1)).map (xsum f o)
theorem xs_snoc (f:Nat→Int)(o:List Nat)(k:Nat):xs f o (k+1)=xs f o k++[xsum f o k+f (nix o k)]:=by
 rw[xs,List.range_succ,List.map_append];rfl
theorem xs_len (f:Nat→Int)(o:List Nat)(k:Nat):(xs f o k).length=k+1:=by simp[xs]
theorem xs_at (f:Nat→Int)(o:List Nat){k j:Nat}(h:j≤k):nth (xs f o k) j=xsum f o j:=by
 have:j<k+1:=by omega
 simp[nth,xs,this]
def lnOf (P:Nat→Nat)(ri:Nat→Nat)(Ev:Nat→Int)(W:List Int)(a b:Nat):Ln :=
 let o:=(ordD (fun t=>Ev (ri (a+t))) (b - a)).map (fun t=>t+a)
 ⟨((P (ri a):Nat):Int),((P (ri b):Nat):Int),o,xs (fun k=>wid W (ri k) (ri (k+1))) o (b - a)⟩
theorem topTo_congr {V U:Nat→Int}:∀n,(∀i,i<n→V i=U i)→topTo V n=topTo U n
 | 0,_=>rfl
 | n+1,h=>by rw[topTo,topTo,topTo_congr n (fun i hi=>h i (by omega)),h n (by omega)]
theorem ordD_congr {V U:Nat→Int}{n:Nat}(h:∀i,i<n→V i=U i):ordD V n=ordD U n:=by
 rw[ordD,ordD,topTo_congr n h];exact tds_congr 1 _ _ (fun x hx=>h x (List.mem_range.1 hx))
theorem nix_map {l:List Nat}{f:Nat→Nat}{t:Nat}(h:t<l.length):nix (l.map f) t=f (nix l t):=by simp[nix,h]
theorem xsum_bound2 (f:Nat→Int)(M:Int)(o:List Nat):∀k:Nat,(∀j,j<k→0≤f (nix o j)∧f (nix o j)≤M)→0≤xsum f o k∧xsum f o k≤k * M
 | 0,_=>by simp[xsum]
 | k+1,h=>by
   have ih:=xsum_bound2 f M o k (fun j hj=>h j (by omega));have:=h k (by omega);have e:((k+1:Nat):Int) * M=k * M+M:=by rw[Int.natCast_add,Int.add_mul];simp
   rw[xsum];omega
theorem cell_grown {w w':World}{b g i:Nat}{v:Value}(hg:w.grownBy w' (some g))(hc:w.cell? ⟨b,i,none⟩=some v)(hb:b≠g):w'.cell? ⟨b,i,none⟩=some v :=
 (World.cell?_of_block (a:=⟨b,i,none⟩) (hg.block b (World.block_lt_of_cell? _ _ hc) (fun e=>hb (Option.some.inj e)))).trans hc
theorem frA (w:World)(o:Obj):Fr [] w (w.alloc o).drew:=((Fr.refl [] w).alloc o).drew
theorem line_one (a b:Int)(c d:Option Addr)(e f g h:Nat):∀u∈[Value.int .i64 a,.int .i64 b,.slice c e f,.slice d g h],u.oneCell'=true:=by
 intro u hu;simp only[List.mem_cons,List.not_mem_nil,or_false]at hu
 rcases hu with rfl | rfl | rfl | rfl <;> rfl
theorem Fr.set_new {S:List Nat}{w w':World}(h:Fr S w w'){b i:Nat}{v:Value}(hb:w.heap.size≤b):Fr S w (w'.setCell ⟨b,i,none⟩ v) :=
 h.grown (row:=some b) grown_set (fun k e=>by cases e;exact hb)
def putL (xs:List Value):Nat→List Value→List Value
 | _,[]=>xs
 | o,v :: r=>putL (xs.set o v) (o+1) r
theorem putL_at:∀(vs xs:List Value) (o j:Nat),o+vs.length≤xs.length→(putL xs o vs)[j]?=if o≤j∧j<o+vs.length then vs[j - o]? else xs[j]?
 | [],xs,o,j,_=>by rw[putL,if_neg (by simp)]
 | v :: r,xs,o,j,h=>by
   rw[List.length_cons]at h;rw[putL,putL_at r (xs.set o v) (o+1) j (by rw[List.length_set];omega),List.length_cons];by_cases h1:o+1≤j∧j<o+1+r.length
   ·rw[if_pos h1,if_pos (by omega)]
    obtain⟨d,hd⟩:∃d,j - o=d+1:=⟨j - o - 1,by omega⟩;rw[hd,List.getElem?_cons_succ];congr 1;omega
   ·rw[if_neg h1]
    by_cases h2:j=o
    ·subst h2;rw[if_pos (by omega),Nat.sub_self,List.getElem?_set_self (by omega)];rfl
    ·rw[if_neg (by omega),List.getElem?_set_ne (fun e=>h2 e.symm)]
theorem owns_put {B e g n c:Nat}:∀(vs xs:List Value) (o:Nat) (w:World),w.ownsRow B e 1 (.slice (some ⟨g,0,none⟩) n c) n xs→(w.setCells g o vs).ownsRow B e 1 (.slice (some ⟨g,0,none⟩) n c) n (putL xs o vs)∧Fr [g] w (w.setCells g o vs)
 | [],xs,o,w,h=>⟨h,Fr.refl _ _⟩
 | v :: r,xs,o,w,h=>by
   obtain⟨h1,h2⟩:=owns_put r (xs.set o v) (o+1) (w.setCell ⟨g,o,none⟩ v) (h.stored o v).1;exact⟨h1,(fr_set1 w g o v).trans h2⟩
theorem putL_rev (l:List Nat)(a b:Nat)(hab:a≤b)(hb:b≤l.length):putL (intsN l) a (intsN ((l.take b).drop a).reverse)=intsN (revR l a b):=by
 have hl:((l.take b).drop a).reverse.length=b - a:=by rw[List.length_reverse,List.length_drop,List.length_take];omega
 apply List.ext_getElem?;intro j;rw[putL_at _ _ _ _ (by rw[intsN_len,intsN_len,hl];omega),intsN_len,hl];by_cases hj:j<l.length
 ·have e1:=intsN_at (l:=revR l a b) (j:=j) (by rw[revR_length l a b hab hb];exact hj)
  rw[e1,revR_at l a b hab hb];by_cases h:a≤j∧j<b
  ·rw[if_pos (by omega),if_pos h,intsN_at (by rw[hl];omega)]
   congr 2
   rw[nix,nix,List.getElem?_reverse (by rw[List.length_drop,List.length_take];omega),List.length_drop,List.length_take,List.getElem?_drop,List.getElem?_take_of_lt (by omega)]
   congr 3;omega
  ·rw[if_neg (by omega),if_neg h,intsN_at hj]
 ·rw[if_neg (by omega),List.getElem?_eq_none (by rw[intsN_len];omega),List.getElem?_eq_none (by rw[intsN_len,revR_length l a b hab hb];omega)]
theorem intsN_ints (l:List Nat):(l.map (fun x=>((x:Nat):Int))).map (Value.int .i64)=intsN l:=by simp[intsN]
theorem rev_part {B n c:Nat}(l:List Nat)(g a b:Nat)(w:World)(hn:n=l.length)(hab:a≤b)(hb:b≤n)(hl:n≤1000)(cc:Nat)(ho:w.ownsRow B 3 1 (.slice (some ⟨g,0,none⟩) n c) n (intsN l)) :
 Calls Tryz.prog 221 #[.slice (some ⟨g,a,none⟩) (b - a) cc] w fun e w'=>e=.returned (.tuple #[])∧w'.ownsRow B 3 1 (.slice (some ⟨g,0,none⟩) n c) n (intsN (revR l a b))∧Fr [g] w w':=by
 have hz:(((l.take b).drop a).map (fun x=>((x:Nat):Int))).length=b - a:=by rw[List.length_map,List.length_drop,List.length_take];omega
 refine(Tryz.slices_Reverse_int_cells g a (b - a) cc (((l.take b).drop a).map (fun x=>((x:Nat):Int))) w (by omega) (by omega) (fun j hj=>?_) (fun j _=>ho.frozenAt (a+j))).mono ?_
 ·rw[hz]at hj
  rw[ho.cellAt (a+j) (by omega),intsN_at (by omega)]
  congr 2
  rw[List.getD,List.getElem?_map,List.getElem?_drop,List.getElem?_take_of_lt (by omega),nix,List.getElem?_eq_getElem (show a+j<l.length by omega)];rfl
 ·rintro e w' ⟨rfl,q,rfl⟩
  have e1:((((l.take b).drop a).map (fun x=>((x:Nat):Int))).take (b - a)).reverse.map (Value.int .i64)=intsN ((l.take b).drop a).reverse:=by
   rw[List.take_of_length_le (by omega),←List.map_reverse,intsN_ints]
  rw[e1];obtain⟨h1,h2⟩:=owns_put (intsN ((l.take b).drop a).reverse) (intsN l) a (w.drewN q) (show(w.drewN q).ownsRow B 3 1 (.slice (some ⟨g,0,none⟩) n c) n (intsN l)from ho);rw[putL_rev l a b hab (by omega)]at h1;exact⟨rfl,h1,((Fr.refl [g] w).drewN q).trans h2⟩
set_option maxHeartbeats 2000000 in
theorem deep_clo (V:List Int)(gV nV cV sb lb x:Nat)(v0 v2:Value)(l:Int)(X:World)(hx:x<nV)(hV:rowAt X gV nV V)(hs:X.heap[sb]?=some (.cells #[v0,.slice (some ⟨gV,0,none⟩) nV cV,v2] 146 (0,0)))(hl:X.heap[lb]?=some (.cells #[.int .i64 l] 3 (0,0))) :
 Calls Tryz.prog 220 (#[.int .i64 (x:Nat)]++#[.pointer (some ⟨sb,0,none⟩),.pointer (some ⟨lb,0,none⟩)]) X fun e w'=>e=.returned (.bool (decide (l≤nth V x)))∧∃q,w'=X.drewN q:=by
 have c1:=obj_cell hs (i:=1) rfl;have c2:=obj_cell hl (i:=0) rfl;have c3:=hV x hx;have hxI:(x:Int)<(nV:Int):=by omega
 generalize nth V x=y at *;clear hs hl hV;go_enter Tryz.func220,Tryz.ntmps220;go_wp2_with fail;go_quiet (fail);go_wp2;go_ret;exact⟨rfl,_,rfl⟩
theorem revs_take (l:List Nat)(m:List (Nat × Nat)){k:Nat}{x:Nat × Nat}(h:m[k]?=some x):revs l (m.take (k+1))=revR (revs l (m.take k)) x.1 x.2:=by
 rw[List.take_add_one,h];exact revs_snoc l _ x
theorem revs_len:∀(m:List (Nat × Nat)) (l:List Nat),(∀x∈m,x.1≤x.2∧x.2≤l.length)→(revs l m).length=l.length
 | [],_,_=>rfl
 | x :: m,l,h=>by
   have h0:=h x (by simp);have e:=revR_length l x.1 x.2 h0.1 h0.2;have ih:=revs_len m (revR l x.1 x.2) (fun y hy=>by rw[e];exact h y (by simp[hy]));rw[e]at ih;exact ih
set_option maxRecDepth 10000 in
set_option maxHeartbeats 4000000 in
theorem turn_any (V:List Int)(gV nV cV:Nat)(v0 v2:Value)(l:Int)(o:List Nat)(B go co n:Nat)(w:World)(hn:n=o.length)(hn1:n≤1000)(hV:rowAt w gV nV V)(ho:∀i,i<n→nix o i<nV)(hO:w.ownsRow B 3 1 (.slice (some ⟨go,0,none⟩) n co) n (intsN o)) :
 Calls Tryz.prog 199 #[.agg #[v0,.slice (some ⟨gV,0,none⟩) nV cV,v2],.slice (some ⟨go,0,none⟩) n co,.int .i64 l] w fun e w'=>e=.returned (.tuple #[])∧w'.ownsRow B 3 1 (.slice (some ⟨go,0,none⟩) n co) n (intsN (turn (fun x=>decide (l≤nth V x)) o))∧Fr [go] w w':=by
 obtain⟨w2,hw2⟩:∃w2,w2=(w.alloc (.cells #[v0,.slice (some ⟨gV,0,none⟩) nV cV,v2] 146)).alloc (.cells #[.int .i64 l] 3):=⟨_,rfl⟩;have HF2:=hid (show Fr [] w w2 by rw[hw2];exact((Fr.refl [] w).alloc _).alloc _);have HSB:=hid (show w2.heap[w.heap.size]?=some (.cells #[v0,.slice (some ⟨gV,0,none⟩) nV cV,v2] 146 (0,0)) by rw[hw2];exact obj_fr (obj_new w _) ((Fr.refl [] _).alloc _) List.not_mem_nil)
 have HLB:=hid (show w2.heap[w.heap.size+1]?=some (.cells #[.int .i64 l] 3 (0,0)) by
  have h:=obj_new (w.alloc (.cells #[v0,.slice (some ⟨gV,0,none⟩) nV cV,v2] 146)) (.cells #[.int .i64 l] 3)
  rw[World.size_alloc]at h;rw[hw2];exact h)
 have HV:=hid hV;have HO:=hid hO;have HLT:=hid ho;have HN:=hid hn;have hgol:=(owns_at hO).2;obtain⟨p,hp⟩:∃p:Nat→Bool,p=fun x=>decide (l≤nth V x):=⟨_,rfl⟩
 rw[←hp]
 have H108:=hid (parts_any 220 #[.pointer (some ⟨w.heap.size,0,none⟩),.pointer (some ⟨w.heap.size+1,0,none⟩)] p o go co w2 (by omega) (by rw[←hn];exact owns_rowN (owns_fr0 hO HF2.out) hn.symm) (fun args w=>by kernel_rfl) (fun X hf i hi=>by
  rw[hp]
  exact deep_clo V gV nV cV w.heap.size (w.heap.size+1) (nix o i) v0 v2 l X (ho i (by omega)) ((hV.fr HF2.out List.not_mem_nil).fr hf List.not_mem_nil) (obj_fr HSB.out hf List.not_mem_nil) (obj_fr HLB.out hf List.not_mem_nil)))
 rw[←hn]at H108;have HPB:=hid (parts_bound p o);have hR0:(Lay.parts p o).length≤n+1:=by rw[hn];exact(partsTo_len p o (o.length+1)).1
 have HPT:=hid (parts_turn p o);obtain⟨T,hT⟩:∃T,T=turn p o:=⟨_,rfl⟩;rw[←hT]at HPT ⊢;generalize Lay.parts p o=R at *;clear hV hO ho hp hT hn;go_enter Tryz.func199,Tryz.ntmps199;go_wp2_with fail;rw[←hw2];clear hw2;refine H108.out.mono ?_;rintro e w3 ⟨v,rfl,own3,hf3⟩;have HO3:=hid (owns_fr0 (owns_fr0 HO.out HF2.out) hf3);have HF3:=hid (HF2.out.trans hf3);have HR3:=hid own3;obtain⟨aR,cR,hv⟩:=owns_slice own3;subst hv;obtain⟨nR,hnR⟩:∃nR,nR=R.length:=⟨_,rfl⟩;have hR4:nR≤2000:=by omega
 rw[←hnR]at HR3 ⊢;have HNR:=hid hnR;clear own3 hf3 H108 hnR hR0;go_wp2_with fail;go_loopw [14] (fun kk wr=>∃k:Nat,kk=.int .i64 k∧k≤nR∧Hid (wr.ownsRow B 3 1 (.slice (some ⟨go,0,none⟩) n co) n (intsN (revs o (R.take k))))∧Hid (Fr [go] w3 wr)) (fun kk _=>nR - (intOf kk).toNat)
 case atStart=>exact⟨0,rfl,Nat.zero_le _,HO3,hid (Fr.refl _ _)⟩
 case round =>
  obtain⟨k,rfl,hkn,HOk,HFk⟩:=hrel;by_cases hkl:k<nR
  ·have hkI:(k:Int)<(nR:Int):=by omega
   obtain⟨gR,cR',hvR⟩:=owns_shape (by omega) HR3.out;cases hvR;have hgRn:gR≠go:=owns_apart HR3.out HO3.out (by decide) rfl rfl;have hx:R[k]?=some (R[k]'(by rw[←HNR.out];exact hkl)):=List.getElem?_eq_getElem _;have hb:=HPB.out _ (List.getElem_mem (by rw[←HNR.out];exact hkl));have HRT:=hid (revs_take o R hx);have e0:=HFk.out.cell (show w3.cell? ⟨gR,k * 2,none⟩=_ from(HR3.out.cellAt (k * 2) (by omega)).trans (ptCells_at R k _ hx).1) (fun h=>hgRn (List.mem_singleton.1 h));have e1:=HFk.out.cell (show w3.cell? ⟨gR,k * 2+1,none⟩=_ from(HR3.out.cellAt (k * 2+1) (by omega)).trans (ptCells_at R k _ hx).2) (fun h=>hgRn (List.mem_singleton.1 h));rw[←HN.out]at hb;have HLN:=hid (show n=(revs o (R.take k)).length by rw[revs_len _ o (fun y hy=>by have:=HPB.out y (List.mem_of_mem_take hy);omega)];exact HN.out);generalize R[k]'(by rw[←HNR.out];exact hkl)=x at *;obtain⟨xa,xb⟩:=x;dsimp only at e0 e1 hb HRT;have HREV:=hid (fun(X:World) cc (hX:X.ownsRow B 3 1 (.slice (some ⟨go,0,none⟩) n co) n (intsN (revs o (R.take k))))=>rev_part (revs o (R.take k)) go xa xb X HLN.out (by omega) hb.2 hn1 cc hX);have hco:n≤co:=by
    rcases HOk.out.2 with⟨h5,_⟩ | ⟨g5,c5,cur5,h5,_,_,h6,_⟩
    ·cases h5
    ·cases h5;exact h6
   obtain⟨hb1,hb2⟩:=hb;have hba:(xa:Int)≤(xb:Int):=by omega
   have hbc:(xb:Int)≤(co:Int):=by omega
   have HOA:=hid (HOk.out.alloc (.cells #[.int .i64 (xa:Nat),.int .i64 (xb:Nat)] 249));have HFA:=hid (HFk.out.alloc (.cells #[.int .i64 (xa:Nat),.int .i64 (xb:Nat)] 249));clear hx;go_wp2_with fail;refine(HREV.out _ _ HOA.out).mono ?_;rintro e w5 ⟨rfl,own5,hf5⟩;have HO5:=hid own5;have HF5:=hid (HFA.out.trans hf5);clear own5 hf5 HREV;go_wp2;go_roundw
   case rel=>exact⟨k+1,by go_num,by omega,hid (by rw[HRT.out];exact HO5.out),HF5⟩
   case measure=>simp[intOf];omega
  ·obtain rfl:k=nR:=by omega
   have hkI:¬(k:Int)<(k:Int):=by omega
   have HOZ:=hid (show wr.ownsRow B 3 1 (.slice (some ⟨go,0,none⟩) n co) n (intsN T) by
    have h:=HOk.out
    rw[HNR.out,List.take_length,HPT.out]at h
    exact h)
   go_wp2;go_end0;exact⟨rfl,HOZ.out,((HF3.out.mono (fun _ h _=>absurd h List.not_mem_nil):Fr [go] w w3)).trans HFk.out⟩
def leastTo (V:Nat→Int):Nat→Int
 | 0=>9223372036854775807
 | k+1=>if V k % 2=1 then min (leastTo V k) (V k)else leastTo V k
theorem least_cases (V:Nat→Int)(hV:∀i,0≤V i∧V i≤1000):∀n,(leastTo V n=9223372036854775807∧∀i,i<n→V i % 2≠1)∨∃q:Nat,leastTo V n=2 * (q:Int)+1∧(∃i,i<n∧V i=2 * (q:Int)+1)∧∀i,i<n→V i % 2=1→2 * (q:Int)+1≤V i
 | 0=>.inl ⟨rfl,fun i hi=>absurd hi (Nat.not_lt_zero _)⟩
 | n+1=>by
   have hv:=hV n
   rcases least_cases V hV n with⟨h1,h2⟩ | ⟨q,h1,⟨i,h2,h3⟩,h4⟩
   ·by_cases h:V n % 2=1
    ·refine .inr ⟨(V n).toNat / 2,?_,⟨n,by omega,by omega⟩,fun i hi ho=>?_⟩
     ·rw[leastTo,if_pos h,h1];omega
     ·rcases Nat.lt_or_eq_of_le (Nat.le_of_lt_succ hi)with h5 | h5
      ·exact absurd ho (h2 i h5)
      ·rw[h5];omega
    ·refine .inl ⟨by rw[leastTo,if_neg h,h1],fun i hi=>?_⟩
     rcases Nat.lt_or_eq_of_le (Nat.le_of_lt_succ hi)with h5 | h5
     ·exact h2 i h5
     ·rw[h5];exact h
   ·by_cases h:V n % 2=1
    ·by_cases hlt:V n<2 * (q:Int)+1
     ·refine .inr ⟨(V n).toNat / 2,?_,⟨n,by omega,by omega⟩,fun j hj ho=>?_⟩
      ·rw[leastTo,if_pos h,h1];omega
      ·rcases Nat.lt_or_eq_of_le (Nat.le_of_lt_succ hj)with h5 | h5
       ·have:=h4 j h5 ho;omega
       ·rw[h5];omega
     ·refine .inr ⟨q,by rw[leastTo,if_pos h,h1];omega,⟨i,by omega,h3⟩,fun j hj ho=>?_⟩
      rcases Nat.lt_or_eq_of_le (Nat.le_of_lt_succ hj)with h5 | h5
      ·exact h4 j h5 ho
      ·rw[h5];omega
    ·refine .inr ⟨q,by rw[leastTo,if_neg h,h1],⟨i,by omega,h3⟩,fun j hj ho=>?_⟩
     rcases Nat.lt_or_eq_of_le (Nat.le_of_lt_succ hj)with h5 | h5
     ·exact h4 j h5 ho
     ·rw[h5]at ho;exact absurd ho h
theorem top_even (V:Nat→Int)(hV:∀i,0≤V i∧V i≤1000):∀n,(∀i,i<n→V i % 2≠1)→topTo V n % 2=0
 | 0,_=>rfl
 | n+1,h=>by
   have ih:=top_even V hV n (fun i hi=>h i (by omega));have:=h n (by omega);have:=hV n;rw[topTo]
   rcases Int.le_total (topTo V n) (V n)with h5 | h5
   ·rw[Int.max_eq_right h5];omega
   ·rw[Int.max_eq_left h5];exact ih
def seg (a n:Nat):List Nat:=(List.range n).map (fun t=>t+a)
theorem seg_len (a n:Nat):(seg a n).length=n:=by simp[seg]
theorem seg_mem {a n x:Nat}(h:x∈seg a n):∃t,t<n∧x=t+a:=by
 obtain⟨t,h1,h2⟩:=List.mem_map.1 h;exact⟨t,List.mem_range.1 h1,h2.symm⟩
theorem ordD_seg (V:Nat→Int)(a n:Nat):(ordD (fun t=>V (a+t)) n).map (fun t=>t+a)=tds V 1 (topTo (fun t=>V (a+t)) n).toNat (seg a n):=by
 rw[ordD,seg,tds_map V (fun t=>t+a) 1];have e:(fun x=>V (x+a))=(fun t=>V (a+t)):=by funext x;rw[Nat.add_comm]
 rw[e]
theorem ord_none (V:Nat→Int)(hV:∀i,0≤V i∧V i≤1000)(a n:Nat)(h:∀i,i<n→V (a+i) % 2≠1):(ordD (fun t=>V (a+t)) n).map (fun t=>t+a)=seg a n:=by
 have ht:=top_even (fun t=>V (a+t)) (fun i=>hV _) n h;have h0:=topTo_le (fun t=>V (a+t)) 1000 (by omega) (fun k=>(hV _).2) n;rw[ordD_seg];refine tds_none V _ _ (by omega) (fun x hx j=>?_);obtain⟨t,h1,rfl⟩:=seg_mem hx;have:=h t h1;rw[Nat.add_comm t a];omega
theorem ord_least (V:Nat→Int)(a n q:Nat)(h1:∃i,i<n∧V (a+i)=2 * (q:Int)+1)(h2:∀i,i<n→V (a+i) % 2=1→2 * (q:Int)+1≤V (a+i)):2 * q+1≤(topTo (fun t=>V (a+t)) n).toNat∧(ordD (fun t=>V (a+t)) n).map (fun t=>t+a)=tds V (2 * q+1) ((topTo (fun t=>V (a+t)) n).toNat - 2 * q) (seg a n):=by
 obtain⟨i,hi,hv⟩:=h1;have hq:2 * q+1≤(topTo (fun t=>V (a+t)) n).toNat:=by
  have:=topTo_ge (fun t=>V (a+t)) n i hi;omega
 refine⟨hq,?_⟩;rw[ordD_seg];refine tds_least V _ _ q hq (fun x hx j hj=>?_);obtain⟨t,h3,rfl⟩:=seg_mem hx;intro e;have:=h2 t h3 (by rw[Nat.add_comm a t];omega);rw[Nat.add_comm a t]at this;omega
theorem left_any (V:List Int)(gV nV cV x:Nat)(v0 v2:Value)(w:World)(hx:x<nV)(hV:rowAt w gV nV V)(h0:0≤nth V x) :
 Calls Tryz.prog 103 #[.agg #[v0,.slice (some ⟨gV,0,none⟩) nV cV,v2],.int .i64 (x:Nat)] w fun e w'=>e=.returned (.bool (nth V x % 2 == 1))∧Fr [] w w':=by
 have c3:=hV x hx;have hgl:=World.block_lt_of_cell? _ _ c3;have hxI:(x:Int)<(nV:Int):=by omega
 generalize nth V x=y at *;clear hV;go_enter Tryz.func103,Tryz.ntmps103;go_wp2;go_ret;exact⟨rfl,by first | exact(Fr.refl [] w).alloc _ | exact Fr.refl _ _⟩
def segTo (a N i:Nat):List Nat:=seg a i++List.replicate (N - i) 0
theorem segTo_len {a N i:Nat}(h:i≤N):(segTo a N i).length=N:=by rw[segTo,List.length_append,seg_len,List.length_replicate];omega
theorem segTo_set {a N i:Nat}(h:i<N):(segTo a N i).set i (a+i)=segTo a N (i+1):=by
 rw[segTo,List.set_append_right _ _ (by rw[seg_len];exact Nat.le_refl _),seg_len,Nat.sub_self,show N - i=(N - (i+1))+1 by omega,List.replicate_succ,List.set_cons_zero,segTo,seg,seg,List.range_succ,List.map_append,Nat.add_comm a i];simp
theorem segTo_zero (a N:Nat):segTo a N 0=List.replicate N 0:=by simp[segTo,seg]
theorem segTo_all (a N:Nat):segTo a N N=seg a N:=by simp[segTo]
set_option maxRecDepth 10000 in
set_option maxHeartbeats 4000000 in
theorem vis_any (V:List Int)(gV nV cV a N:Nat)(v0 v2:Value)(w:World)(hn:nV≤1000)(haN:a+N≤nV)(hV:rowAt w gV nV V)(hb:∀i,0≤nth V i∧nth V i≤1000) :
 Calls Tryz.prog 147 #[.agg #[v0,.slice (some ⟨gV,0,none⟩) nV cV,v2],.int .i64 (a:Nat),.int .i64 (a+N:Nat)] w fun e w'=>∃go,e=.returned (.slice (some ⟨go,0,none⟩) N N)∧w'.ownsRow w.heap.size 3 1 (.slice (some ⟨go,0,none⟩) N N) N (intsN ((ordD (fun t=>nth V (a+t)) N).map (fun t=>t+a)))∧Fr [] w w':=by
 obtain⟨i3,hi3,hz30,hz31,hz32⟩:=info_parts info3;obtain⟨R,hR⟩:∃R,R=(ordD (fun t=>nth V (a+t)) N).map (fun t=>t+a):=⟨_,rfl⟩;rw[←hR];have HR:=hid hR;obtain⟨wb,hwb⟩:∃wb,wb=w.alloc (.cells #[v0,.slice (some ⟨gV,0,none⟩) nV cV,v2] 146):=⟨_,rfl⟩;have HFb:=hid (show Fr [] w wb by rw[hwb];exact(Fr.refl [] w).alloc _);have HOB:=hid (show wb.heap[w.heap.size]?=some (.cells #[v0,.slice (some ⟨gV,0,none⟩) nV cV,v2] 146 (0,0)) by rw[hwb];exact obj_new w _);have hwbs:wb.heap.size=w.heap.size+1:=by rw[hwb];simp
 obtain⟨wm,hmk,hown,hgr⟩:=run_make_full (P:=Tryz.prog) wb w.heap.size 32 3 i3 _ 1 Tryz.underlying32 hi3 hz30 hz31 .i64 .i64 N (by rw[hz32];omega) (by unfold maxLen;omega) (by omega);rw[hwbs]at hmk hown;rw[hwb]at hmk
 have HOM:=hid (show wm.ownsRow w.heap.size 3 1 (.slice (some ⟨w.heap.size+1,0,none⟩) N N) N (intsN (segTo a N 0)) by
  have e:(madeCells (Value.int .i64 0).cells (N * 1)).toList=intsN (segTo a N 0):=by
   rw[segTo_zero,Nat.mul_one]
   have:=toList_madeCells_one (.int .i64 0) N
   simpa[intsN,Value.cells] using this
  rw[←e];exact hown)
 have HFM:=hid (HFb.out.trans (Fr.of_grown_none hgr));have HOBm:=hid (obj_fr HOB.out (Fr.of_grown_none hgr) List.not_mem_nil);have HV:=hid hV;have HB:=hid hb;have hsub:((a+N:Nat):Int) - (a:Int)=(N:Int):=by omega
 have hsubw:IntKind.i64.wrap (((a+N:Nat):Int) - (a:Int))=(N:Int):=by rw[IntKind.wrap_i64];omega
 have HTB:=hid (topTo_le (fun t=>nth V (a+t)) 1000 (by omega) (fun k=>(hb _).2));have HLC:=hid (least_cases (fun t=>nth V (a+t)) (fun i=>hb _));clear hown hgr hV hb hR;generalize hab:a+N=b at *;have HAB:=hid hab;clear hab;go_enter Tryz.func147,Tryz.ntmps147;go_wp2_with fail;go_loopw [8,9,19] (fun gg ll ii wr=>∃i:Nat,ii=.int .i64 i∧i≤N∧gg=.int .i64 (topTo (fun t=>nth V (a+t)) i)∧ll=.int .i64 (leastTo (fun t=>nth V (a+t)) i)∧Hid (wr.ownsRow w.heap.size 3 1 (.slice (some ⟨w.heap.size+1,0,none⟩) N N) N (intsN (segTo a N i)))∧Hid (Fr [w.heap.size+1] wm wr)) (fun _ _ ii _=>N - (intOf ii).toNat)
 case atStart=>exact⟨0,rfl,Nat.zero_le _,rfl,rfl,HOM,hid (Fr.refl _ _)⟩
 case round =>
  obtain⟨i,rfl,hiN,rfl,rfl,HO,HF⟩:=hrel;have HFw:=hid (show Fr [] w wr from((HFM.out.mono (fun _ h _=>absurd h List.not_mem_nil):Fr [w.heap.size+1] w wm).trans HF.out).mono (fun x hx hlt=>by have:=List.mem_singleton.1 hx;omega));have HOBr:=hid (obj_fr HOBm.out HF.out (fun h=>by have:=List.mem_singleton.1 h;omega));by_cases hil:i<N
  ·have hiI:(i:Int)<(N:Int):=by omega
   have c0:=HO.out.cellAt i (by omega);rw[intsN_at (by rw[segTo_len (by omega)];exact hil)]at c0;have f0:=HO.out.frozenAt i;have v1:=HV.out.fr HFw.out List.not_mem_nil (a+i) (by have:=HAB.out;omega);have HST:=hid (segTo_set (a:=a) (N:=N) hil);have HL:=hid (fun(X:World) (hf:Fr [] w X)=>left_any V gV nV cV (a+i) v0 v2 X (by have:=HAB.out;omega) (HV.out.fr hf List.not_mem_nil) (HB.out _).1);have HT1:=hid (show topTo (fun t=>nth V (a+t)) (i+1)=max (topTo (fun t=>nth V (a+t)) i) (nth V (a+i))from rfl);have HL1:=hid (show leastTo (fun t=>nth V (a+t)) (i+1)=if nth V (a+i) % 2=1 then min (leastTo (fun t=>nth V (a+t)) i) (nth V (a+i))else leastTo (fun t=>nth V (a+t)) i from rfl);have hvb:=HB.out (a+i);have hai:a+i<nV:=by have:=HAB.out;omega
   have HYX:=hid (show nth V (a+i)=nth V (a+i)from rfl);generalize hyy:nth V (a+i)=y at *
   replace HYX:=hid hyy
   clear hyy;generalize topTo (fun t=>nth V (a+t)) i=tt at *;generalize leastTo (fun t=>nth V (a+t)) i=ll at *;generalize nix (segTo a N i) i=z at *;have hsum:(a:Int)+(i:Int)=((a+i:Nat):Int):=by omega
   obtain⟨x,hx⟩:∃x,x=a+i:=⟨_,rfl⟩;rw[←hx]at v1 HST HL hai hsum HYX;clear hx;have hxI:(x:Int)<(nV:Int):=by omega
   have hgV:=World.block_lt_of_cell? _ _ v1;have hgVn:gV≠w.heap.size+1:=by have h:=World.block_lt_of_cell? _ _ (HV.out 0 (by omega));dsimp only at h;omega
   have hne1:w.heap.size≠w.heap.size+1:=by omega
   have hst:=HO.out.stored i (.int .i64 (x:Nat));obtain⟨W',hW'⟩:∃W',W'=wr.setCell ⟨w.heap.size+1,i,none⟩ (.int .i64 (x:Nat)):=⟨_,rfl⟩;rw[←hW']at hst;have HO':=hid (show W'.ownsRow w.heap.size 3 1 (.slice (some ⟨w.heap.size+1,0,none⟩) N N) N (intsN (segTo a N (i+1))) by rw[←HST.out,←intsN_set];exact hst.1);have HF':=hid (show Fr [w.heap.size+1] wm W' by rw[hW'];exact HF.out.set (List.mem_singleton.2 rfl) _);have HFw':=hid (show Fr [] w W' by rw[hW'];exact HFw.out.set_new (by omega));have HLc:=hid (HL.out W' HFw'.out);have HOB':=hid (obj_fr HOBm.out HF'.out (fun h=>by have:=List.mem_singleton.1 h;omega));have s0:wr.cell? ⟨w.heap.size,0,none⟩=some v0:=obj_cell HOBr.out (i:=0) rfl;have s1:wr.cell? ⟨w.heap.size,1,none⟩=some (.slice (some ⟨gV,0,none⟩) nV cV):=obj_cell HOBr.out (i:=1) rfl;have s2:wr.cell? ⟨w.heap.size,2,none⟩=some v2:=obj_cell HOBr.out (i:=2) rfl;have hVx:=hid (fun(X:World) (hf:Fr [] w X)=>HV.out.fr hf List.not_mem_nil x hai);rw[HYX.out]at hVx;rw[hW']at HLc;have HW':=hid hW';clear hW' hst;by_cases hod:y % 2=1
   ·have hodb:(y % 2 == 1)=true:=by simp[hod]
    rw[if_pos hod]at HL1;rw[hodb]at HLc;go_wp2_with (first | (go_at_call 103;refine HLc.out.mono ?_;rintro e w1 ⟨rfl,hf1⟩;rw[←HW'.out]at hf1;have HF1:=hid hf1;have s1b:w1.cell? ⟨w.heap.size,1,none⟩=some (.slice (some ⟨gV,0,none⟩) nV cV):=obj_cell (obj_fr HOB'.out hf1 List.not_mem_nil) (i:=1) rfl;have v1b:=hVx.out w1 (HFw'.out.trans hf1);clear hf1));have HO1:=hid (owns_fr0 HO'.out HF1.out);have HF1b:=hid (HF'.out.trans (HF1.out.mono (fun _ h _=>absurd h List.not_mem_nil)));go_roundw
    case rel=>exact⟨i+1,by go_num,by omega,by rw[HT1.out],by rw[HL1.out],HO1,HF1b⟩
    case measure=>simp[intOf];omega
   ·have hodb:(y % 2 == 1)=false:=by simp[hod]
    rw[if_neg hod]at HL1;rw[hodb]at HLc;go_wp2_with (first | (go_at_call 103;refine HLc.out.mono ?_;rintro e w1 ⟨rfl,hf1⟩;rw[←HW'.out]at hf1;have HF1:=hid hf1;have s1b:w1.cell? ⟨w.heap.size,1,none⟩=some (.slice (some ⟨gV,0,none⟩) nV cV):=obj_cell (obj_fr HOB'.out hf1 List.not_mem_nil) (i:=1) rfl;have v1b:=hVx.out w1 (HFw'.out.trans hf1);clear hf1));have HO1:=hid (owns_fr0 HO'.out HF1.out);have HF1b:=hid (HF'.out.trans (HF1.out.mono (fun _ h _=>absurd h List.not_mem_nil)));go_roundw
    case rel=>exact⟨i+1,by go_num,by omega,by rw[HT1.out],by rw[HL1.out],HO1,HF1b⟩
    case measure=>simp[intOf];omega
  ·obtain rfl:i=N:=by omega
   have hiI:¬(i:Int)<(i:Int):=by omega
   obtain⟨wk,hwk⟩:∃wk,wk=wr:=⟨_,rfl⟩;subst hwk;rw[segTo_all]at HO;obtain⟨m,K,hm1,hT,hmL,hK,hRR⟩:∃m K:Nat,1≤m∧topTo (fun t=>nth V (a+t)) i=(m:Int)+(K:Int) - 1∧(m:Int)≤leastTo (fun t=>nth V (a+t)) i∧(0<K→leastTo (fun t=>nth V (a+t)) i=(m:Int))∧tds (fun x=>nth V x) m K (seg a i)=R:=by
    have h0:=HTB.out i
    rcases HLC.out i with⟨h1,h2⟩ | ⟨q,h1,h2,h3⟩
    ·refine⟨(topTo (fun t=>nth V (a+t)) i).toNat+1,0,by omega,by omega,by rw[h1];omega,fun h=>absurd h (by omega),?_⟩
     rw[HR.out,tds];exact(ord_none (fun x=>nth V x) HB.out a i h2).symm
    ·obtain⟨h4,h5⟩:=ord_least (fun x=>nth V x) a i q h2 h3
     refine⟨2 * q+1,(topTo (fun t=>nth V (a+t)) i).toNat - 2 * q,by omega,by omega,by rw[h1];omega,fun _=>by rw[h1];omega,?_⟩;rw[HR.out];exact h5.symm
   have hTB:=HTB.out i;rw[hT]at hTB ⊢;generalize leastTo (fun t=>nth V (a+t)) i=L at *;have HRR:=hid hRR;have HK:=hid hK;clear hRR hK;have HT:=hid hT;clear hT;obtain⟨t0,ht0⟩:∃t0:Int,t0=(m:Int)+(K:Int) - 1:=⟨_,rfl⟩;rw[←ht0]at hTB ⊢;have HT0:=hid ht0;clear ht0;go_wp2_with fail;go_loopw [12] (fun ll wr=>∃(l:Int) (k:Nat) (o:List Nat),ll=.int .i64 l∧0≤l∧l≤1000∧k≤K∧Hid (l=(m:Int)+(k:Int) - 1)∧Hid (tds (fun x=>nth V x) m k o=R)∧Hid (o.Perm (seg a i))∧Hid (wr.ownsRow w.heap.size 3 1 (.slice (some ⟨w.heap.size+1,0,none⟩) i i) i (intsN o))∧Hid (Fr [w.heap.size+1] wk wr)) (fun ll _=>(intOf ll).toNat)
   case atStart=>exact⟨t0,K,seg a i,rfl,hTB.1,hTB.2,Nat.le_refl _,HT0,HRR,hid (List.Perm.refl _),HO,hid (Fr.refl _ _)⟩
   case round =>
    obtain⟨l,k,o,rfl,hl0,hl1,hkK,HLK,HTD,HPM,HO2,HF2⟩:=hrel;have HOBk:=hid (obj_fr HOBr.out HF2.out (fun h=>by have:=List.mem_singleton.1 h;omega));have HFw2:=hid (show Fr [] w wr from((HFw.out.mono (fun _ h _=>absurd h List.not_mem_nil):Fr [w.heap.size+1] w wk).trans HF2.out).mono (fun x hx hlt=>by have:=List.mem_singleton.1 hx;omega));by_cases hk0:k=0
    ·subst hk0
     have hlL:¬L≤l:=by have:=HLK.out;omega
     have hlD:decide (L≤l)=false:=by simp[hlL]
     have HOR:=hid (show wr.ownsRow w.heap.size 3 1 (.slice (some ⟨w.heap.size+1,0,none⟩) i i) i (intsN R) by rw[←HTD.out];exact HO2.out);go_wp2;go_ret;exact⟨w.heap.size+1,rfl,HOR.out,HFw2.out⟩
    ·have hLm:=HK.out (by omega)
     have hlL:L≤l:=by have:=HLK.out;omega
     have hl2:1≤l:=by have:=HLK.out;omega
     have HLL:=hid hLm;clear hLm;have s0:wr.cell? ⟨w.heap.size,0,none⟩=some v0:=obj_cell HOBk.out (i:=0) rfl;have s1:wr.cell? ⟨w.heap.size,1,none⟩=some (.slice (some ⟨gV,0,none⟩) nV cV):=obj_cell HOBk.out (i:=1) rfl;have s2:wr.cell? ⟨w.heap.size,2,none⟩=some v2:=obj_cell HOBk.out (i:=2) rfl;have hol:=HPM.out.length_eq;rw[seg_len]at hol;have HOL:=hid hol;clear hol
     have HTA:=hid (turn_any V gV nV cV v0 v2 l o w.heap.size (w.heap.size+1) i i wr HOL.out.symm (by have:=HAB.out;omega) (HV.out.fr HFw2.out List.not_mem_nil) (fun j hj=>by
      obtain⟨t,h1,h2⟩:=seg_mem (HPM.out.mem_iff.1 (nix_mem (l:=o) (k:=j) (by rw[HOL.out];exact hj)))
      rw[h2];have:=HAB.out;omega) HO2.out)
     go_wp2_with (first | (go_at_call 199;refine HTA.out.mono ?_;rintro e w1 ⟨rfl,own1,hf1⟩;have HO3:=hid own1;have HF3:=hid (HF2.out.trans hf1);clear own1 hf1));go_roundw
     case rel =>
      obtain⟨k',hk'⟩:∃k',k=k'+1:=⟨k - 1,by omega⟩;subst hk';refine⟨l - 1,k',_,rfl,by omega,by omega,by omega,hid (by have:=HLK.out;omega),hid ?_,hid ((turn_perm _ o).trans HPM.out),HO3,HF3⟩;have h:=HTD.out;rw[tds]at h;rw[←h];have e:(fun x=>decide (l≤nth V x))=deep (fun x=>nth V x) (m+k'):=by
       funext x;unfold deep;have:=HLK.out
       rw[show((m+k':Nat):Int)=l by omega]
      rw[e]
     case measure=>simp[intOf];omega
set_option maxRecDepth 10000 in
set_option maxHeartbeats 4000000 in
theorem gaps_any (Wd:List Int)(gW nW cW go co N:Nat)(o:List Nat)(v0 v1:Value)(w:World)(hN:N≤1000)(hW:rowAt w gW nW Wd)(hO:rowN w go N o)(hin:∀t,t<N→nix o t<nW)(hb:∀k,k<nW→0≤nth Wd k∧nth Wd k≤429496729600) :
 Calls Tryz.prog 148 #[.agg #[v0,v1,.slice (some ⟨gW,0,none⟩) nW cW],.slice (some ⟨go,0,none⟩) N co] w fun e w'=>∃gx cx,e=.returned (.slice (some ⟨gx,0,none⟩) (N+1) cx)∧w'.ownsRow w.heap.size 2 1 (.slice (some ⟨gx,0,none⟩) (N+1) cx) (N+1) (ints64 (xs (fun k=>nth Wd k) o N))∧Fr [] w w':=by
 obtain⟨i2,hi2,hz20,hz21,hz22⟩:=info_parts info2;obtain⟨wb,hwb⟩:∃wb,wb=w.alloc (.cells #[v0,v1,.slice (some ⟨gW,0,none⟩) nW cW] 146):=⟨_,rfl⟩;have HFb:=hid (show Fr [] w wb by rw[hwb];exact(Fr.refl [] w).alloc _);have HOB:=hid (show wb.heap[w.heap.size]?=some (.cells #[v0,v1,.slice (some ⟨gW,0,none⟩) nW cW] 146 (0,0)) by rw[hwb];exact obj_new w _);have hwbs:wb.heap.size=w.heap.size+1:=by rw[hwb];simp
 have HWR:=hid hW;have HOR:=hid hO;have HIN:=hid hin;have HBD:=hid hb;have HX0:=hid (by simpa[hwbs] using World.ownsRow_lit (base:=wb.heap.size) (e:=2) (size:=1) wb #[.int .i64 0] 1 (Nat.le_refl _) (by decide) rfl);have HF0:=hid ((Fr.refl [] wb).alloc (.cells #[.int .i64 0] 2));obtain⟨f,hf⟩:∃f:Nat→Int,f=fun k=>nth Wd k:=⟨_,rfl⟩
 rw[←hf];have HFF:=hid (fun k=>show f k=nth Wd k by rw[hf]);clear hW hO hin hb hf;go_enter Tryz.func148,Tryz.ntmps148;go_wp2_with fail;rw[←hwb];go_loopw [5,11] (fun vx kk wr=>∃(t gx cx:Nat),kk=.int .i64 t∧vx=.slice (some ⟨gx,0,none⟩) (t+1) cx∧t≤N∧Hid (Fr [] wb wr)∧Hid (wr.ownsRow (w.heap.size+1) 2 1 (.slice (some ⟨gx,0,none⟩) (t+1) cx) (t+1) (ints64 (xs f o t)))) (fun _ kk _=>N - (intOf kk).toNat)
 case atStart=>exact⟨0,w.heap.size+1,1,rfl,rfl,Nat.zero_le _,HF0,HX0⟩
 case round =>
  obtain⟨t,gx,cx,rfl,rfl,htN,HFt,HXt⟩:=hrel;have HFw:=hid (HFb.out.trans HFt.out);by_cases htl:t<N
  ·have htI:(t:Int)<(N:Int):=by omega
   have q2:=HOR.out.fr HFw.out List.not_mem_nil t htl;have q1:wr.cell? ⟨w.heap.size,2,none⟩=some (.slice (some ⟨gW,0,none⟩) nW cW):=obj_cell (obj_fr HOB.out HFt.out List.not_mem_nil) (i:=2) rfl;have hyW:=HIN.out t htl;have q3:=HWR.out.fr HFw.out List.not_mem_nil _ hyW;have q4:=HXt.out.cellAt t (by omega);rw[ints64_at (by rw[xs_len];omega),xs_at f o (Nat.le_refl _)]at q4;have HXS:=hid (xs_snoc f o t);have HSX:=hid (xs_at f o (Nat.le_refl t));have hxb:=xsum_bound2 f 429496729600 o t (fun j hj=>by rw[HFF.out];exact HBD.out _ (HIN.out j (by omega)));have hwd:=HBD.out _ hyW;rw[←HFF.out]at hwd q3;have hxa:xsum f o t≤429496729600000:=by
    have h5:(t:Int) * 429496729600≤1000 * 429496729600:=Int.mul_le_mul_of_nonneg_right (by omega) (by omega);omega
   have hx0:=hxb.1;obtain⟨hw0,hw1⟩:=hwd;clear hxb;generalize xsum f o t=sx at *;generalize f (nix o t)=wd at *;generalize nix o t=y at *;have hyI:(y:Int)<(nW:Int):=by omega
   have hgx:=owns_at HXt.out;have hszt:w.heap.size+1≤wr.heap.size:=by omega
   have hgWl:=World.block_lt_of_cell? _ _ (HWR.out y hyW);have hgol:=World.block_lt_of_cell? _ _ (HOR.out t htl);dsimp only at hgWl hgol;have hgWn:gW≠gx:=by omega
   have hgon:go≠gx:=by omega
   have hbn:w.heap.size≠gx:=by omega
   have htt:(t:Int)<(t:Int)+1:=by omega
   have hwrp:IntKind.i64.wrap (sx+wd)=sx+wd:=by rw[IntKind.wrap_i64];omega
   have HKP:=hid (fun(w1' w':World) (hf:Fr [] wr w1') (hg:w1'.grownBy w' (some gx)) (hk:∀j u,(ints64 (xs f o t))[j]?=some u→w'.cell? ⟨gx,j,none⟩=some u)=>show w'.cell? ⟨w.heap.size,2,none⟩=some (.slice (some ⟨gW,0,none⟩) nW cW)∧w'.cell? ⟨gW,y,none⟩=some (.int .i64 wd)∧w'.cell? ⟨gx,t,none⟩=some (.int .i64 sx)from
    ⟨cell_grown hg (hf.cell q1 List.not_mem_nil) hbn,cell_grown hg (hf.cell q3 List.not_mem_nil) hgWn,hk t _ (by rw[ints64_at (by rw[xs_len];omega),HSX.out])⟩)
   clear hgWl hgol;have hgWl:=World.block_lt_of_cell? _ _ q3;have hbl:=World.block_lt_of_cell? _ _ q1;dsimp only at hgWl hbl;go_wp2_with fail;go_region_held_law (fun w'=>w'.cell? ⟨w.heap.size,2,none⟩=some (.slice (some ⟨gW,0,none⟩) nW cW)∧w'.cell? ⟨gW,y,none⟩=some (.int .i64 wd)∧w'.cell? ⟨gx,t,none⟩=some (.int .i64 sx)) (first | exact HS1 | go_keep) ((refine step_keep rfl (.tmp 16) (.tmp 27) 67 rfl (w.heap.size+1) 2 i2 _ 1 8 Tryz.underlying67 hi2 hz20 hz21 hz22 rfl (by decide) gx (t+1) cx (ints64 (xs f o t)) ?q1 ?q2 ⟨wr.heap.size,0,none⟩ 1 1 [.int .i64 (sx+wd)] ?q3 rfl ?q4 (one_cell _) (by unfold maxLen;omega) (by omega) ?q5 ?_;(case q1=>first | rfl | simp[Act.eval]);(case q2=>exact owns_fr0 HXt.out (frA _ _));(case q3=>first | rfl | simp[Act.eval]);(case q4=>exact news_at _ _ _ _ (by simp));(case q5=>simp;omega);intro v' w' hown hgrow hkeep;obtain⟨g',c',hv'⟩:=owns_shape (by omega) hown;subst hv';have HG1:=hid hown;have HG2:=hid hgrow;have HS1:=HKP.out _ _ (frA _ _) hgrow hkeep;clear hown hgrow hkeep))
   all_goals (
    have HF9:=hid (show Fr [] wb w' from(((HFt.out.trans (frA wr (.cells #[.int .i64 (sx+wd)] 2))).mono (fun _ h _=>absurd h List.not_mem_nil):Fr [gx] wb _).trans (Fr.of_grown HG2.out)).mono (fun x hx hlt=>by have:=List.mem_singleton.1 hx;omega))
    go_wp2
    go_roundw
    case rel=>exact⟨t+1,g',c',by go_num,rfl,by omega,HF9,hid (by rw[HXS.out,←ints64_snoc];exact HG1.out)⟩
    case measure=>simp[intOf];omega)
  ·obtain rfl:t=N:=by omega
   have htI:¬(t:Int)<(t:Int):=by omega
   go_wp2;go_ret;exact⟨gx,cx,rfl,owns_low HXt.out (by omega),HFw.out⟩
end Go.Proofs.YtnakejhohdbfdacGreatDoor

import Derived.Test.YtnakejhohdbfdabGreatDoorKMd
import Derived.Test.YtnakejhohdbfdabGreatDoorKMa
namespace Go.Proofs.YtnakejhohdbfdabGreatDoor
open Go.RowKit Lev
structure RW (W wr:World)(v:Value)(rs:List (List Nat))(hs:List Value)(B:Nat):Prop where
 fr:Fr [] W wr
 own:wr.ownsRow W.heap.size 41 1 v rs.length hs
 b0:W.heap.size≤B∧B≤wr.heap.size
 old:∀j,j+1<rs.length→∃g c,hs[j]?=some (.slice (some ⟨g,0,none⟩) (run rs j).length c)∧g<B∧wr.ownsRow W.heap.size 3 1 (.slice (some ⟨g,0,none⟩) (run rs j).length c) (run rs j).length (intsN (run rs j))
 last:∀j,j+1=rs.length→∃g c,hs[j]?=some (.slice (some ⟨g,0,none⟩) (run rs j).length c)∧wr.ownsRow B 3 1 (.slice (some ⟨g,0,none⟩) (run rs j).length c) (run rs j).length (intsN (run rs j))
 nl:rs.length=0→v=.slice none 0 0
theorem RW.fr0 {W wr w':World}{v:Value}{rs:List (List Nat)}{hs:List Value}{B:Nat}(h:RW W wr v rs hs B)(hf:Fr [] wr w'):RW W w' v rs hs B :=
 ⟨h.fr.trans hf,owns_fr0 h.own hf,⟨h.b0.1,Nat.le_trans h.b0.2 hf.size⟩,
  fun j hj=>by obtain⟨g,c,a1,a2,a3⟩:=h.old j hj;exact⟨g,c,a1,a2,owns_fr0 a3 hf⟩,
  fun j hj=>by obtain⟨g,c,a1,a2⟩:=h.last j hj;exact⟨g,c,a1,owns_fr0 a2 hf⟩,h.nl⟩
theorem RW.start (W:World):RW W W (.slice none 0 0) [] [] W.heap.size :=
 ⟨Fr.refl _ _,World.ownsRow_nil _ _ _ _,⟨Nat.le_refl _,Nat.le_refl _⟩,fun j h=>absurd h (by simp),fun j h=>absurd h (by simp),fun _=>rfl⟩
theorem RW.len {W wr:World}{v:Value}{rs:List (List Nat)}{hs:List Value}{B:Nat}(h:RW W wr v rs hs B):hs.length=rs.length:=by have:=h.own.1;omega
theorem run_set {rs:List (List Nat)}{m:Nat}(hm:m<rs.length)(r:List Nat)(j:Nat):run (rs.set m r) j=if j=m then r else run rs j:=by
 unfold run;by_cases h:j=m
 ·subst h;rw[List.getElem?_set_self hm,if_pos rfl];rfl
 ·rw[List.getElem?_set_ne (fun e=>h e.symm),if_neg h]
theorem run_snoc (rs:List (List Nat))(r:List Nat)(j:Nat)(hj:j≤rs.length):run (rs++[r]) j=if j=rs.length then r else run rs j:=by
 unfold run;by_cases h:j=rs.length
 ·subst h;rw[if_pos rfl];simp
 ·rw[if_neg h,List.getElem?_append_left (by omega)]
theorem RW.grow {W wr w1 w2:World}{rs:List (List Nat)}{hs:List Value}{B n m o cap g c l i:Nat}{r:List Nat}{v':Value}(h:RW W wr (.slice (some ⟨o,0,none⟩) n cap) rs hs B)(hn:n=rs.length)(hm:n=m+1)
 (ho0:wr.ownsRow B 3 1 (.slice (some ⟨g,0,none⟩) l c) l (intsN r)) (hl:l=r.length) (hf:Fr [] wr w1)
 (ho:w2.ownsRow B 3 1 v' (l+1) (intsN r++[.int .i64 (i:Nat)])) (hg:w1.grownBy w2 (some g)):RW W (w2.setCell ⟨o,m,none⟩ v') (.slice (some ⟨o,0,none⟩) n cap) (rs.set m (r++[i])) (hs.set m v') B:=by
 have h1:=h.fr0 hf;have hB:=(owns_at ho0).1;have hml:m<rs.length:=by omega
 have hao:o≠g:=owns_apart h1.own (owns_fr0 ho0 hf) (by decide) rfl rfl;have hown:=h1.own;rw[←hn]at hown;have hown2:=owns_grown hown hg (fun x hx e=>hao (by cases hx;cases e;rfl));obtain⟨hst,hgr⟩:=hown2.stored m v';have hfo:W.heap.size≤o:=(owns_at hown).1;have hvs:=owns_shape (by omega) ho;obtain⟨g',c',rfl⟩:=hvs;have hog':o≠g':=owns_apart hown2 ho (by decide) rfl rfl;refine⟨(h1.fr.grown hg (fun k e=>by cases e;have:=h1.b0.1;omega)).grown hgr (fun k e=>by cases e;exact hfo),?_,⟨h1.b0.1,?_⟩,fun j hj=>?_,fun j hj=>?_,fun h0=>?_⟩
 ·rw[List.length_set,←hn];exact hst
 ·have:=h1.b0.2;have:=hg.size;have:=hgr.size;omega
 ·rw[List.length_set]at hj
  obtain⟨gj,cj,a1,a2,a3⟩:=h1.old j hj;refine⟨gj,cj,?_,a2,?_⟩
  ·rw[run_set hml,if_neg (by omega),List.getElem?_set_ne (by omega)];exact a1
  ·rw[run_set hml,if_neg (by omega)]
   have hoj:o≠gj:=owns_apart h1.own a3 (by decide) rfl rfl;exact owns_grown (owns_grown a3 hg (fun x hx e=>by cases hx;have:gj=g:=Option.some.inj e;omega)) hgr (fun x hx e=>by cases hx;cases e;exact hoj rfl)
 ·rw[List.length_set]at hj
  have hjm:j=m:=by omega
  subst hjm;refine⟨g',c',?_,?_⟩
  ·rw[List.getElem?_set_self (by rw[h.len];omega),run_set hml,if_pos rfl,List.length_append,hl];rfl
  ·rw[run_set hml,if_pos rfl,List.length_append,←intsN_snoc]
   rw[hl]at ho;exact owns_grown ho hgr (fun x hx e=>by cases hx;cases e;exact hog' rfl)
 ·rw[List.length_set]at h0;omega
theorem RW.new {W wr w2 w3:World}{v v':Value}{rs:List (List Nat)}{hs:List Value}{B b l c:Nat}{r:List Nat}(h:RW W wr v rs hs B)(hf:Fr [] wr w2)(hl:l=r.length)(hb:w2.ownsRow wr.heap.size 3 1 (.slice (some ⟨b,0,none⟩) l c) l (intsN r))
 (ho:w3.ownsRow W.heap.size 41 1 v' (rs.length+1) (hs++[.slice (some ⟨b,0,none⟩) l c])) (hg:w2.grownBy w3 v.ownBlock):RW W w3 v' (rs++[r]) (hs++[.slice (some ⟨b,0,none⟩) l c]) wr.heap.size:=by
 have h1:=h.fr0 hf;refine⟨h1.fr.grown hg (fun k e=>(h1.own.lt k e).1),?_,⟨Nat.le_trans h.b0.1 h.b0.2,?_⟩,fun j hj=>?_,fun j hj=>?_,fun h0=>?_⟩
 ·rw[List.length_append];exact ho
 ·have:=hf.size;have:=hg.size;omega
 ·rw[List.length_append]at hj
  simp only[List.length_singleton]at hj;rw[run_snoc _ _ _ (by omega),if_neg (by omega),List.getElem?_append_left (by rw[h.len];omega)]
  rcases Nat.lt_or_ge (j+1) rs.length with hlt | hge
  ·obtain⟨gj,cj,a1,a2,a3⟩:=h1.old j hlt
   exact⟨gj,cj,a1,by have:=h.b0.2;omega,owns_grown a3 hg (fun x hx e=>owns_apart a3 h1.own (by decide) hx e.symm rfl)⟩
  ·obtain⟨gj,cj,a1,a2⟩:=h1.last j (by omega)
   obtain⟨gk,ck,b1,b2⟩:=h.last j (by omega);rw[a1]at b1;cases b1;exact⟨gj,cj,a1,(owns_at b2).2,owns_grown (owns_low a2 h.b0.1) hg (fun x hx e=>owns_apart a2 h1.own (by decide) hx e.symm rfl)⟩
 ·rw[List.length_append]at hj
  simp only[List.length_singleton]at hj;have hje:j=rs.length:=by omega
  subst hje;rw[run_snoc _ _ _ (by omega),if_pos rfl];subst hl;refine⟨b,c,by rw[←h.len];simp,owns_grown hb hg (fun x hx e=>owns_apart hb h1.own (by decide) hx e.symm rfl)⟩
 ·simp at h0
def rowsAt (w:World)(B:Nat)(v:Value)(rs:List (List Nat)):Prop :=
 (rs.length=0→v=.slice none 0 0)∧(0<rs.length→∃o cap,v=.slice (some ⟨o,0,none⟩) rs.length cap∧B≤o) ∧
 ∀o cap,v=.slice (some ⟨o,0,none⟩) rs.length cap→∀j,j<rs.length→∃g c,w.cell? ⟨o,j,none⟩=some (.slice (some ⟨g,0,none⟩) (run rs j).length c)∧B≤g∧w.ownsRow B 3 1 (.slice (some ⟨g,0,none⟩) (run rs j).length c) (run rs j).length (intsN (run rs j))
theorem RW.rows {W wr:World}{v:Value}{rs:List (List Nat)}{hs:List Value}{B:Nat}(h:RW W wr v rs hs B):rowsAt wr W.heap.size v rs:=by
 refine⟨h.nl,fun hp=>?_,fun o cap hv j hj=>?_⟩
 ·obtain⟨o,cap,rfl⟩:=owns_shape hp h.own
  exact⟨o,cap,rfl,(owns_at h.own).1⟩
 ·subst hv
  have hc:=h.own.cellAt j (by omega)
  rcases Nat.lt_or_ge (j+1) rs.length with hlt | hge
  ·obtain⟨g,c,a1,a2,a3⟩:=h.old j hlt
   exact⟨g,c,by rw[hc,a1],(owns_at a3).1,a3⟩
  ·obtain⟨g,c,a1,a2⟩:=h.last j (by omega)
   have:=owns_low a2 h.b0.1;exact⟨g,c,by rw[hc,a1],(owns_at this).1,this⟩
theorem run_facts (K L:List Int)(i:Nat)(rs:List (List Nat)) :
 (gone (nth K i)=true→runStep K L i rs=rs) ∧
 (gone (nth K i)=false→rs.length=0→runStep K L i rs=rs++[[i]]) ∧
 (∀m,gone (nth K i)=false→rs.length=m+1→nth L (lastN (run rs m))=nth L i→runStep K L i rs=rs.set m (run rs m++[i])) ∧
 (∀m,gone (nth K i)=false→rs.length=m+1→¬nth L (lastN (run rs m))=nth L i→runStep K L i rs=rs++[[i]]):=by
 refine⟨fun h=>?_,fun h h0=>?_,fun m h h0 h1=>?_,fun m h h0 h1=>?_⟩
 ·rw[runStep,if_pos h]
 ·have:rs=[]:=List.length_eq_zero_iff.1 h0
  subst this;rw[runStep,if_neg (by rw[h];exact Bool.false_ne_true),if_pos rfl];rfl
 ·have hne:rs≠[]:=by intro e;subst e;simp at h0
  rw[runStep,if_neg (by rw[h];exact Bool.false_ne_true),if_neg hne,h0];simp only[Nat.add_sub_cancel];rw[if_pos h1]
 ·have hne:rs≠[]:=by intro e;subst e;simp at h0
  rw[runStep,if_neg (by rw[h];exact Bool.false_ne_true),if_neg hne,h0];simp only[Nat.add_sub_cancel];rw[if_neg h1]
theorem runs_short (K L:List Int)(k:Nat):(runsTo K L k).length≤k∧∀r∈runsTo K L k,r.length≤k:=by
 have h:=run_inv K L k;have hf:(runsTo K L k).flatten.length≤k:=by
  rw[h.flat,ng];exact Nat.le_trans (List.length_filter_le _ _) (by simp)
 refine⟨?_,fun r hr=>?_⟩
 ·have:∀l:List (List Nat),(∀r∈l,r≠[])→l.length≤l.flatten.length:=by
   intro l
   induction l with
   | nil=>simp
   | cons a l ih =>
     intro hl;have h1:=ih (fun r hr=>hl r (List.mem_cons_of_mem _ hr));have h2:0<a.length:=List.length_pos_iff.2 (hl a List.mem_cons_self);rw[List.length_cons,List.flatten_cons,List.length_append];omega
  have:=this _ h.ne;omega
 ·have:r.length≤(runsTo K L k).flatten.length:=(List.sublist_flatten_of_mem hr).length_le
  omega
end Go.Proofs.YtnakejhohdbfdabGreatDoor

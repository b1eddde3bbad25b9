import Derived.Test.YtnakejhohdbfdaaGreatDoorZMd
import Derived.Test.YtnakejhohdbfdaaGreatDoorZMa
namespace Go.Proofs.YtnakejhohdbfdaaGreatDoor
open Go.RowKit Lev
structure RW (W wr:World) (v:Value) (rs:List (List Nat)) (hs:List Value) (B:Nat):Prop where
 fr:Fr [] W wr
 own:wr.ownsRow W.heap.size 22 1 v rs.length hs
 b0:W.heap.size ≤ B∧B ≤ wr.heap.size
 old:∀ j,j + 1 < rs.length→∃ g c,hs[j]?=some (.slice (some ⟨g,0,none⟩) (run rs j).length c)∧g < B∧wr.ownsRow W.heap.size 3 1 (.slice (some ⟨g,0,none⟩) (run rs j).length c) (run rs j).length (intsN (run rs j))
 last:∀ j,j + 1=rs.length→∃ g c,hs[j]?=some (.slice (some ⟨g,0,none⟩) (run rs j).length c)∧wr.ownsRow B 3 1 (.slice (some ⟨g,0,none⟩) (run rs j).length c) (run rs j).length (intsN (run rs j))
 nl:rs.length=0→v=.slice none 0 0
theorem RW.fr0 {W wr w':World} {v:Value} {rs:List (List Nat)} {hs:List Value} {B:Nat} (h:RW W wr v rs hs B) (hf:Fr [] wr w'):RW W w' v rs hs B :=
 ⟨h.fr.trans hf,owns_fr0 h.own hf,⟨h.b0.1,Nat.le_trans h.b0.2 hf.size⟩,
  fun j hj=>by obtain ⟨g,c,a1,a2,a3⟩:=h.old j hj;exact ⟨g,c,a1,a2,owns_fr0 a3 hf⟩,
  fun j hj=>by obtain ⟨g,c,a1,a2⟩:=h.last j hj;exact ⟨g,c,a1,owns_fr0 a2 hf⟩,h.nl⟩
theorem RW.start (W:World):RW W W (.slice none 0 0) [] [] W.heap.size :=
 ⟨Fr.refl _ _,World.ownsRow_nil _ _ _ _,⟨Nat.le_refl _,Nat.le_refl _⟩,fun j h=>absurd h (by simp),fun j h=>absurd h (by simp),fun _=>rfl⟩
theorem RW.len {W wr:World} {v:Value} {rs:List (List Nat)} {hs:List Value} {B:Nat} (h:RW W wr v rs hs B):hs.length=rs.length:=by have:=h.own.1;omega
theorem run_set {rs:List (List Nat)} {m:Nat} (hm:m < rs.length) (r:List Nat) (j:Nat):run (rs.set m r) j=if j=m then r else run rs j:=by
 unfold run
 by_cases h:j=m
 ·subst h;rw [List.getElem?_set_self hm,if_pos rfl];rfl
 ·rw [List.getElem?_set_ne (fun e=>h e.symm),if_neg h]
theorem run_snoc (rs:List (List Nat)) (r:List Nat) (j:Nat) (hj:j ≤ rs.length):run (rs ++ [r]) j=if j=rs.length then r else run rs j:=by
 unfold run
 by_cases h:j=rs.length
 ·subst h;rw [if_pos rfl];simp
 ·rw [if_neg h,List.getElem?_append_left (by omega)]
theorem RW.grow {W wr w1 w2:World} {rs:List (List Nat)} {hs:List Value} {B n m o cap g c l i:Nat} {r:List Nat} {v':Value} (h:RW W wr (.slice (some ⟨o,0,none⟩) n cap) rs hs B) (hn:n=rs.length) (hm:n=m + 1)
 (ho0:wr.ownsRow B 3 1 (.slice (some ⟨g,0,none⟩) l c) l (intsN r)) (hl:l=r.length) (hf:Fr [] wr w1)
 (ho:w2.ownsRow B 3 1 v' (l + 1) (intsN r ++ [.int .i64 (i:Nat)])) (hg:w1.grownBy w2 (some g)):RW W (w2.setCell ⟨o,m,none⟩ v') (.slice (some ⟨o,0,none⟩) n cap) (rs.set m (r ++ [i])) (hs.set m v') B:=by
 have h1:=h.fr0 hf
 have hB:=(owns_at ho0).1
 have hml:m < rs.length:=by omega
 have hao:o ≠ g:=owns_apart h1.own (owns_fr0 ho0 hf) (by decide) rfl rfl
 have hown:=h1.own
 rw [← hn] at hown
 have hown2:=owns_grown hown hg (fun x hx e=>hao (by cases hx;cases e;rfl))
 obtain ⟨hst,hgr⟩:=hown2.stored m v'
 have hfo:W.heap.size ≤ o:=(owns_at hown).1
 have hvs:=owns_shape (by omega) ho
 obtain ⟨g',c',rfl⟩:=hvs
 have hog':o ≠ g':=owns_apart hown2 ho (by decide) rfl rfl
 refine ⟨(h1.fr.grown hg (fun k e=>by cases e;have:=h1.b0.1;omega)).grown hgr (fun k e=>by cases e;exact hfo),?_,⟨h1.b0.1,?_⟩,fun j hj=>?_,fun j hj=>?_,fun h0=>?_⟩
 ·rw [List.length_set,← hn];exact hst
 ·have:=h1.b0.2;have:=hg.size;have:=hgr.size;omega
 ·rw [List.length_set] at hj
  obtain ⟨gj,cj,a1,a2,a3⟩:=h1.old j hj
  refine ⟨gj,cj,?_,a2,?_⟩
  ·rw [run_set hml,if_neg (by omega),List.getElem?_set_ne (by omega)];exact a1
  ·rw [run_set hml,if_neg (by omega)]
   have hoj:o ≠ gj:=owns_apart h1.own a3 (by decide) rfl rfl
   exact owns_grown (owns_grown a3 hg (fun x hx e=>by cases hx;have:gj=g:=Option.some.inj e;omega)) hgr (fun x hx e=>by cases hx;cases e;exact hoj rfl)
 ·rw [List.length_set] at hj
  have hjm:j=m:=by omega
  subst hjm
  refine ⟨g',c',?_,?_⟩
  ·rw [List.getElem?_set_self (by rw [h.len];omega),run_set hml,if_pos rfl,List.length_append,hl];rfl
  ·rw [run_set hml,if_pos rfl,List.length_append,← intsN_snoc]
   rw [hl] at ho
   exact owns_grown ho hgr (fun x hx e=>by cases hx;cases e;exact hog' rfl)
 ·rw [List.length_set] at h0;omega
theorem RW.new {W wr w2 w3:World} {v v':Value} {rs:List (List Nat)} {hs:List Value} {B b l c:Nat} {r:List Nat} (h:RW W wr v rs hs B) (hf:Fr [] wr w2) (hl:l=r.length) (hb:w2.ownsRow wr.heap.size 3 1 (.slice (some ⟨b,0,none⟩) l c) l (intsN r))
 (ho:w3.ownsRow W.heap.size 22 1 v' (rs.length + 1) (hs ++ [.slice (some ⟨b,0,none⟩) l c])) (hg:w2.grownBy w3 v.ownBlock):RW W w3 v' (rs ++ [r]) (hs ++ [.slice (some ⟨b,0,none⟩) l c]) wr.heap.size:=by
 have h1:=h.fr0 hf
 refine ⟨h1.fr.grown hg (fun k e=>(h1.own.lt k e).1),?_,⟨Nat.le_trans h.b0.1 h.b0.2,?_⟩,fun j hj=>?_,fun j hj=>?_,fun h0=>?_⟩
 ·rw [List.length_append];exact ho
 ·have:=hf.size;have:=hg.size;omega
 ·rw [List.length_append] at hj
  simp only [List.length_singleton] at hj
  rw [run_snoc _ _ _ (by omega),if_neg (by omega),List.getElem?_append_left (by rw [h.len];omega)]
  rcases Nat.lt_or_ge (j + 1) rs.length with hlt | hge
  ·obtain ⟨gj,cj,a1,a2,a3⟩:=h1.old j hlt
   exact ⟨gj,cj,a1,by have:=h.b0.2;omega,owns_grown a3 hg (fun x hx e=>owns_apart a3 h1.own (by decide) hx e.symm rfl)⟩
  ·obtain ⟨gj,cj,a1,a2⟩:=h1.last j (by omega)
   obtain ⟨gk,ck,b1,b2⟩:=h.last j (by omega)
   rw [a1] at b1
   cases b1
   exact ⟨gj,cj,a1,(owns_at b2).2,owns_grown (owns_low a2 h.b0.1) hg (fun x hx e=>owns_apart a2 h1.own (by decide) hx e.symm rfl)⟩
 ·rw [List.length_append] at hj
  simp only [List.length_singleton] at hj
  have hje:j=rs.length:=by omega
  subst hje
  rw [run_snoc _ _ _ (by omega),if_pos rfl]
  subst hl
  refine ⟨b,c,by rw [← h.len];simp,owns_grown hb hg (fun x hx e=>owns_apart hb h1.own (by decide) hx e.symm rfl)⟩
 ·simp at h0
def rowsAt (w:World) (B:Nat) (v:Value) (rs:List (List Nat)):Prop :=
 (rs.length=0→v=.slice none 0 0)∧(0 < rs.length→∃ o cap,v=.slice (some ⟨o,0,none⟩) rs.length cap∧B ≤ o) ∧
 ∀ o cap,v=.slice (some ⟨o,0,none⟩) rs.length cap→∀ j,j < rs.length→∃ g c,w.cell? ⟨o,j,none⟩=some (.slice (some ⟨g,0,none⟩) (run rs j).length c)∧B ≤ g∧w.ownsRow B 3 1 (.slice (some ⟨g,0,none⟩) (run rs j).length c) (run rs j).length (intsN (run rs j))
theorem RW.rows {W wr:World} {v:Value} {rs:List (List Nat)} {hs:List Value} {B:Nat} (h:RW W wr v rs hs B):rowsAt wr W.heap.size v rs:=by
 refine ⟨h.nl,fun hp=>?_,fun o cap hv j hj=>?_⟩
 ·obtain ⟨o,cap,rfl⟩:=owns_shape hp h.own
  exact ⟨o,cap,rfl,(owns_at h.own).1⟩
 ·subst hv
  have hc:=h.own.cellAt j (by omega)
  rcases Nat.lt_or_ge (j + 1) rs.length with hlt | hge
  ·obtain ⟨g,c,a1,a2,a3⟩:=h.old j hlt
   exact ⟨g,c,by rw [hc,a1],(owns_at a3).1,a3⟩
  ·obtain ⟨g,c,a1,a2⟩:=h.last j (by omega)
   have:=owns_low a2 h.b0.1
   exact ⟨g,c,by rw [hc,a1],(owns_at this).1,this⟩
theorem run_facts (K L:List Int) (i:Nat) (rs:List (List Nat)) :
 (gone (nth K i)=true→runStep K L i rs=rs) ∧
 (gone (nth K i)=false→rs.length=0→runStep K L i rs=rs ++ [[i]]) ∧
 (∀ m,gone (nth K i)=false→rs.length=m + 1→nth L (lastN (run rs m))=nth L i→runStep K L i rs=rs.set m (run rs m ++ [i])) ∧
 (∀ m,gone (nth K i)=false→rs.length=m + 1→¬ nth L (lastN (run rs m))=nth L i→runStep K L i rs=rs ++ [[i]]):=by
 refine ⟨fun h=>?_,fun h h0=>?_,fun m h h0 h1=>?_,fun m h h0 h1=>?_⟩
 ·rw [runStep,if_pos h]
 ·have:rs=[]:=List.length_eq_zero_iff.1 h0
  subst this
  rw [runStep,if_neg (by rw [h];exact Bool.false_ne_true),if_pos rfl];rfl
 ·have hne:rs ≠ []:=by intro e;subst e;simp at h0
  rw [runStep,if_neg (by rw [h];exact Bool.false_ne_true),if_neg hne,h0]
  simp only [Nat.add_sub_cancel]
  rw [if_pos h1]
 ·have hne:rs ≠ []:=by intro e;subst e;simp at h0
  rw [runStep,if_neg (by rw [h];exact Bool.false_ne_true),if_neg hne,h0]
  simp only [Nat.add_sub_cancel]
  rw [if_neg h1]
theorem hdr_one (v:Value) (h:v.oneCell'=true):∀ u ∈ [v],u.oneCell'=true:=by
 intro u hu
 rw [List.mem_singleton] at hu
 subst hu;exact h
theorem runs_short (K L:List Int) (k:Nat):(runsTo K L k).length ≤ k∧∀ r ∈ runsTo K L k,r.length ≤ k:=by
 have h:=run_inv K L k
 have hf:(runsTo K L k).flatten.length ≤ k:=by
  rw [h.flat,ng]
  exact Nat.le_trans (List.length_filter_le _ _) (by simp)
 refine ⟨?_,fun r hr=>?_⟩
 ·have:∀ l:List (List Nat),(∀ r ∈ l,r ≠ [])→l.length ≤ l.flatten.length:=by
   intro l
   induction l with
   | nil=>simp
   | cons a l ih =>
     intro hl
     have h1:=ih (fun r hr=>hl r (List.mem_cons_of_mem _ hr))
     have h2:0 < a.length:=List.length_pos_iff.2 (hl a List.mem_cons_self)
     rw [List.length_cons,List.flatten_cons,List.length_append];omega
  have:=this _ h.ne
  omega
 ·have:r.length ≤ (runsTo K L k).flatten.length:=(List.sublist_flatten_of_mem hr).length_le
  omega
set_option linter.unusedSimpArgs false in
set_option maxRecDepth 10000 in
set_option maxHeartbeats 4000000 in
theorem ref33_any (q:PH) (C L:List Int) (w:World) (hK:q.K.length=q.n) (hn:q.n ≤ 1000000) (G:List Bool) (hG:∀ i,i < q.n→(G[i]?).getD false=gone (nth q.K i)) (hs:PS w q C L G) :
 Calls Tryz.prog 85 #[.pointer (some ⟨q.p,0,none⟩)] w fun e w'=>∃ v,e=.returned v∧rowsAt w' w.heap.size v (runsTo q.K L q.K.length)∧Fr [] w w':=by
 obtain ⟨i0,hi,hz0,hz1,hz2⟩:=info_parts info3
 obtain ⟨i1,hi1,hy0,hy1,hy2⟩:=info_parts info22
 have hlp:=hs.lt
 have HS:=hid hs
 have HG:=hid hG
 have HK:=hid hK
 obtain ⟨Z,hZ⟩:∃ Z,Z=runsTo q.K L q.K.length:=⟨_,rfl⟩
 rw [← hZ]
 have HZ:=hid hZ
 clear hs hG hK hZ
 go_enter Tryz.func85,Tryz.ntmps85
 go_wp2
 go_loopw [3,4] (fun v ii wr=>∃ (i B:Nat) (hs:List Value),ii=.int .i64 i∧i ≤ q.n∧Hid (RW w wr v (runsTo q.K L i) hs B)) (fun _ ii _=>q.n - (intOf ii).toNat)
 case atStart=>exact ⟨0,_,_,rfl,Nat.zero_le _,hid (RW.start w)⟩
 case round =>
  obtain ⟨i,B,hs,rfl,hin,HR⟩:=hrel
  have HP:=hid (HS.out.fr0 HR.out.fr)
  have d2:=HP.out.c2
  by_cases hlt:i < q.n
  ·have d5:=HP.out.c5
   have e5:=HP.out.rG i hlt
   rw [HG.out i hlt] at e5
   have HFA:=hid (run_facts q.K L i (runsTo q.K L i))
   have HNX:=hid (show runsTo q.K L (i + 1)=runStep q.K L i (runsTo q.K L i) from rfl)
   rw [← HNX.out] at HFA
   have HINV:=hid (run_inv q.K L i)
   have hshort:=runs_short q.K L i
   have HSH:=hid hshort.2
   have hsh:=hshort.1
   clear hshort
   generalize runsTo q.K L i=rs at *
   cases hg:gone (nth q.K i)
   ·rw [hg] at e5
    obtain ⟨a1,c1,hv1⟩:=owns_slice HR.out.own
    obtain ⟨n,hn'⟩:∃ n,n=rs.length:=⟨_,rfl⟩
    rw [← hn'] at hv1 hsh
    have HN:=hid hn'
    subst hv1
    clear hn'
    rcases Nat.eq_zero_or_pos n with h0 | h0
    ·subst h0
     have hnil:=HR.out.nl HN.out.symm
     cases hnil
     have HNN:=hid (HFA.out.2.1 hg HN.out.symm)
     clear HFA hg
     go_wp2_with (at_builtin;refine wpList_append_own _ rfl _ _ 98 rfl w.heap.size 22 i1 _ 1 24 Tryz.underlying98 hi1 hy0 hy1 hy2 rfl (by decide) _ 0 hs rfl ?own _ 1 1 [.slice (some ⟨wr.heap.size,0,none⟩) 1 1] rfl rfl (news_at _ _ _ _ (by simp)) (hdr_one _ rfl) (by unfold maxLen;omega) (by omega) ?szz ?_)
     case own=>exact owns_fr0 (by have:=HR.out.own;rw [← HN.out] at this;exact this) (((Fr.refl [] wr).alloc _).alloc _)
     case szz=>have:=HR.out.fr.size;simp;omega
     intro v' w3 own3 hgrow hnil
     have HR3:=hid (HR.out.new (r:=[i]) (((Fr.refl [] wr).alloc _).alloc _) rfl ((World.ownsRow_lit (base:=wr.heap.size) (e:=3) (size:=1) wr #[.int .i64 i] 1 (Nat.le_refl _) (by decide) rfl).alloc _) (by rw [← HN.out];exact own3) hgrow)
     clear own3 hgrow hnil
     go_wp2
     go_roundw
     case rel=>exact ⟨i + 1,_,_,by go_num,by omega,hid (by rw [HNN.out];exact HR3.out)⟩
     case measure=>simp [intOf];omega
    ·obtain ⟨m,hm⟩:∃ m,n=m + 1:=⟨n - 1,by omega⟩
     have hown:=HR.out.own
     rw [← HN.out] at hown
     obtain ⟨o,cap,hsh2⟩:=owns_shape h0 hown
     cases hsh2
     obtain ⟨g,c,hh,hlown⟩:=HR.out.last m (by rw [← HN.out,hm])
     have e1:wr.cell? ⟨o,m,none⟩=some (.slice (some ⟨g,0,none⟩) (run rs m).length c):=by rw [hown.cellAt m (by omega),hh]
     have hrm:run rs m ∈ rs:=run_mem (by rw [← HN.out];omega)
     have hne:=HINV.out.ne _ hrm
     have hl0:0 < (run rs m).length:=List.length_pos_iff.2 hne
     have hlm:=lastN_mem hne
     have hlq:lastN (run rs m) < q.n:=by
      have h2:lastN (run rs m) ∈ rs.flatten:=List.mem_flatten.2 ⟨_,hrm,hlm⟩
      rw [HINV.out.flat] at h2
      have:=(ng_lt _ _ _ h2).1;omega
     have hrl:=HSH.out _ hrm
     obtain ⟨l,hl⟩:∃ l,l=(run rs m).length:=⟨_,rfl⟩
     obtain ⟨l',hl'⟩:∃ l',l=l' + 1:=⟨l - 1,by omega⟩
     rw [← hl] at e1 hlown hh hrl
     have e2:wr.cell? ⟨g,l',none⟩=some (.int .i64 (lastN (run rs m):Nat)):=by
      rw [owns_rowN hlown hl.symm l' (by omega),lastN,← hl,hl'];rfl
     have e3:=HP.out.rL _ hlq
     have e4:=HP.out.rL i hlt
     have d3:=HP.out.c3
     have HF3:=hid (HFA.out.2.2.1 m hg (by rw [← HN.out,hm]))
     have HF4:=hid (HFA.out.2.2.2 m hg (by rw [← HN.out,hm]))
     have HOW:=hid hown
     have HLO:=hid hlown
     have HL:=hid hl
     have HMM:=hid hm
     have hnm:(n:Int) - 1=(m:Int):=by omega
     have hmn:(m:Int) < (n:Int):=by omega
     have hlI:(l:Int) - 1=(l':Int):=by omega
     have hlI2:(l':Int) < (l:Int):=by omega
     have hnI:(0:Int) < (n:Int):=by omega
     clear hown hlown hg HFA hm hl hl' hh hl0 hrm hne hlm
     generalize run rs m=r at *
     generalize lastN r=lr at *
     by_cases heq:nth L lr=nth L i
     ·have HNN:=hid (HF3.out heq)
      rw [heq] at e3
      generalize nth L i=y at *
      clear HF3 HF4 heq
      go_wp2
      go_quiet (fail)
      go_wp2_with (at_builtin;refine wpList_append_own _ rfl _ _ 22 rfl B 3 i0 _ 1 8 Tryz.underlying22 hi hz0 hz1 hz2 rfl (by decide) _ l (intsN r) rfl ?own _ 1 1 [.int .i64 i] rfl rfl (news_at _ _ _ _ (by simp)) (one_cell _) (by unfold maxLen;omega) (by omega) ?szz ?_)
      case own=>exact owns_fr0 HLO.out (((Fr.refl [] wr).drewN _).alloc _)
      case szz=>have:=HR.out.b0.2;simp;omega
      intro v' w3 own3 hgrow hnil
      obtain ⟨g',c',hv'⟩:=owns_shape (by omega) own3
      subst hv'
      have hap:o ≠ g:=owns_apart HOW.out HLO.out (by decide) rfl rfl
      have HOW3:=hid (owns_grown (owns_fr0 HOW.out (((Fr.refl [] wr).drewN _).alloc _)) hgrow (fun x hx e=>hap (by cases hx;cases e;rfl)))
      have f1:∃ u,w3.cell? ⟨o,m,none⟩=some u:=by rw [HOW3.out.cellAt m (by have:=HMM.out;omega),List.getElem?_eq_getElem (by rw [HR.out.len,← HN.out];have:=HMM.out;omega)];exact ⟨_,rfl⟩
      obtain ⟨u,f1⟩:=f1
      have f2:=HOW3.out.frozenAt m
      have HR3:=hid (HR.out.grow HN.out HMM.out HLO.out HL.out (((Fr.refl [] wr).drewN _).alloc _) own3 hgrow)
      clear own3 hgrow hnil e1 e2 e3 e4 d2 d3 d5
      go_wp2
      go_roundw
      case rel=>exact ⟨i + 1,_,_,by go_num,by omega,hid (by rw [HNN.out];exact HR3.out)⟩
      case measure=>simp [intOf];omega
     ·have HNN:=hid (HF4.out heq)
      generalize nth L i=y at *
      generalize nth L lr=y' at *
      clear HF3 HF4
      go_wp2
      go_quiet (fail)
      go_wp2_with (at_builtin;refine wpList_append_own _ rfl _ _ 98 rfl w.heap.size 22 i1 _ 1 24 Tryz.underlying98 hi1 hy0 hy1 hy2 rfl (by decide) _ n hs rfl ?own _ 1 1 [.slice (some ⟨wr.heap.size,0,none⟩) 1 1] rfl rfl (news_at _ _ _ _ (by simp)) (hdr_one _ rfl) (by unfold maxLen;omega) (by omega) ?szz ?_)
      case own=>exact owns_fr0 HOW.out ((((Fr.refl [] wr).drewN _).alloc _).alloc _)
      case szz=>have:=HR.out.fr.size;simp;omega
      intro v' w3 own3 hgrow hnil
      have HR3:=hid (HR.out.new (r:=[i]) ((((Fr.refl [] wr).drewN _).alloc _).alloc _) rfl ((World.ownsRow_lit (base:=wr.heap.size) (e:=3) (size:=1) (wr.drewN _) #[.int .i64 i] 1 (Nat.le_refl _) (by decide) rfl).alloc _) (by rw [← HN.out];exact own3) hgrow)
      clear own3 hgrow hnil
      go_wp2
      go_roundw
      case rel=>exact ⟨i + 1,_,_,by go_num,by omega,hid (by rw [HNN.out];exact HR3.out)⟩
      case measure=>simp [intOf];omega
   ·rw [hg] at e5
    have HNN:=hid (HFA.out.1 hg)
    clear HFA hg
    go_wp2
    go_roundw
    case rel=>exact ⟨i + 1,_,_,by go_num,by omega,hid (by rw [HNN.out];exact HR.out)⟩
    case measure=>simp [intOf];omega
  ·have hie:i=q.n:=by omega
   have HRZ:=hid (show RW w wr _ Z hs B by rw [HZ.out,HK.out,← hie];exact HR.out)
   clear hie HR
   go_wp2
   go_ret
   exact ⟨_,rfl,HRZ.out.rows,HRZ.out.fr⟩
end Go.Proofs.YtnakejhohdbfdaaGreatDoor

import Derived.Test.YtnakejhohdbfdacGreatDoorKMh
import Derived.Test.YtnakejhohdbfdacGreatDoorKMf
namespace Go.Proofs.YtnakejhohdbfdacGreatDoor
open Go.RowKit Lev
theorem info225:(Tryz.prog.info? 294).map (fun i=>(i.zero,i.size,i.bytes))=some (some (.agg #[.int .i64 0,.slice none 0 0]),2,32):=by kernel_rfl
def zc:List Int→List Value→List Value
 | l :: ls,h :: hs=>.int .i64 l :: h :: zc ls hs
 | _,_=>[]
theorem zc_at:∀(ls:List Int) (hs:List Value) (i:Nat),ls.length=hs.length→i<hs.length→(zc ls hs)[i * 2]?=some (.int .i64 (nth ls i))∧(zc ls hs)[i * 2+1]?=hs[i]?
 | [],[],i,_,h=>absurd h (by simp)
 | [],_ :: _,_,h,_=>absurd h (by simp)
 | _ :: _,[],_,h,_=>absurd h (by simp)
 | l :: ls,h :: hs,0,_,_=>by simp[zc,nth]
 | l :: ls,h :: hs,i+1,he,hi=>by
   have:=zc_at ls hs i (by simpa using he) (by simpa using hi);rw[show(i+1) * 2=i * 2+1+1 by omega];simpa[zc,nth] using this
theorem zc_len:∀(ls:List Int) (hs:List Value) {n:Nat},ls.length=n∧hs.length=n→(zc ls hs).length=n * 2
 | [],[],_,h=>by rw[←h.1];rfl
 | [],_ :: _,_,h=>absurd (h.1.trans h.2.symm) (by simp)
 | _ :: _,[],_,h=>absurd (h.1.trans h.2.symm) (by simp)
 | _ :: ls,_ :: hs,n,h=>by
   obtain⟨h1,h2⟩:=h;have:=zc_len ls hs (n:=n - 1) ⟨by simp at h1;omega,by simp at h2;omega⟩;simp at h1;simp[zc,this];omega
theorem pair2 (y:Int):∀u∈[Value.int .i64 y,.slice none 0 0],u.oneCell'=true:=by
 intro u hu;simp at hu
 rcases hu with rfl | rfl <;> rfl
theorem zc_snoc:∀(ls:List Int) (hs:List Value) (l:Int) (h:Value),ls.length=hs.length→zc ls hs++[.int .i64 l,h]=zc (ls++[l]) (hs++[h])
 | [],[],_,_,_=>rfl
 | [],_ :: _,_,_,h=>absurd h (by simp)
 | _ :: _,[],_,_,h=>absurd h (by simp)
 | x :: ls,y :: hs,l,h,he=>by
   have:=zc_snoc ls hs l h (by simpa using he);simp[zc,this]
theorem zc_set:∀(ls:List Int) (hs:List Value) (m:Nat) (v:Value),ls.length=hs.length→m<hs.length→(zc ls hs).set (m * 2+1) v=zc ls (hs.set m v)
 | [],[],m,_,_,h=>absurd h (by simp)
 | [],_ :: _,_,_,h,_=>absurd h (by simp)
 | _ :: _,[],_,_,h,_=>absurd h (by simp)
 | l :: ls,h :: hs,0,v,_,_=>by simp[zc]
 | l :: ls,h :: hs,m+1,v,he,hm=>by
   have:=zc_set ls hs m v (by simpa using he) (by simpa using hm);rw[show(m+1) * 2+1=m * 2+1+1+1 by omega];simp[zc,this]
structure RP (W wr:World)(v:Value)(rs:List (List Nat))(ls:List Int)(hs:List Value)(B:Nat):Prop where
 fr:Fr [] W wr
 ll:ls.length=rs.length∧hs.length=rs.length
 own:wr.ownsRow W.heap.size 294 2 v rs.length (zc ls hs)
 b0:W.heap.size≤B∧B≤wr.heap.size
 old:∀j,j+1<rs.length→∃g c,hs[j]?=some (.slice (some ⟨g,0,none⟩) (run rs j).length c)∧g<B∧wr.ownsRow W.heap.size 3 1 (.slice (some ⟨g,0,none⟩) (run rs j).length c) (run rs j).length (intsN (run rs j))
 last:∀j,j+1=rs.length→∃h,hs[j]?=some h∧wr.ownsRow B 3 1 h (run rs j).length (intsN (run rs j))
 nl:rs.length=0→v=.slice none 0 0
theorem RP.fr0 {W wr w':World}{v:Value}{rs:List (List Nat)}{ls:List Int}{hs:List Value}{B:Nat}(h:RP W wr v rs ls hs B)(hf:Fr [] wr w'):RP W w' v rs ls hs B :=
 ⟨h.fr.trans hf,h.ll,owns_fr0 h.own hf,⟨h.b0.1,Nat.le_trans h.b0.2 hf.size⟩,
  fun j hj=>by obtain⟨g,c,a1,a2,a3⟩:=h.old j hj;exact⟨g,c,a1,a2,owns_fr0 a3 hf⟩,
  fun j hj=>by obtain⟨g,a1,a2⟩:=h.last j hj;exact⟨g,a1,owns_fr0 a2 hf⟩,h.nl⟩
theorem RP.start (W:World):RP W W (.slice none 0 0) [] [] [] W.heap.size :=
 ⟨Fr.refl _ _,⟨rfl,rfl⟩,World.ownsRow_nil _ _ _ _,⟨Nat.le_refl _,Nat.le_refl _⟩,fun j h=>absurd h (by simp),fun j h=>absurd h (by simp),fun _=>rfl⟩
theorem RP.grow {W wr w1 w2:World}{rs:List (List Nat)}{ls:List Int}{hs:List Value}{B n m o cap l i:Nat}{r:List Nat}{h0 v':Value}(h:RP W wr (.slice (some ⟨o,0,none⟩) n cap) rs ls hs B)(hn:n=rs.length)(hm:n=m+1)
 (ho0:wr.ownsRow B 3 1 h0 l (intsN r)) (hl:l=r.length) (hf:Fr [] wr w1)
 (ho:w2.ownsRow B 3 1 v' (l+1) (intsN r++[.int .i64 (i:Nat)])) (hg:w1.grownBy w2 h0.ownBlock):RP W (w2.setCell ⟨o,m * 2+1,none⟩ v') (.slice (some ⟨o,0,none⟩) n cap) (rs.set m (r++[i])) ls (hs.set m v') B∧w2.ownsRow W.heap.size 294 2 (.slice (some ⟨o,0,none⟩) n cap) n (zc ls hs):=by
 have h1:=h.fr0 hf;have hml:m<rs.length:=by omega
 have hown:=h1.own;rw[←hn]at hown;have hown2:=owns_grown hown hg (fun x hx e=>by cases hx;exact owns_apart hown (owns_fr0 ho0 hf) (by decide) rfl e.symm rfl);obtain⟨hst,hgr⟩:=hown2.stored (m * 2+1) v';have hfo:W.heap.size≤o:=(owns_at hown).1;obtain⟨g',c',rfl⟩:=owns_shape (by omega) ho;have hog':o≠g':=owns_apart hown2 ho (by decide) rfl rfl;have hll:=h.ll;rw[zc_set ls hs m _ (by omega) (by omega)]at hst;refine⟨⟨(h1.fr.grown hg (fun k e=>by have h5:=(ho0.lt k e).1;have:=h1.b0.1;omega)).grown hgr (fun k e=>by cases e;exact hfo),?_,?_,⟨h1.b0.1,?_⟩,fun j hj=>?_,fun j hj=>?_,fun h0=>?_⟩,hown2⟩
 ·rw[List.length_set,List.length_set];exact hll
 ·rw[List.length_set,←hn];exact hst
 ·have:=h1.b0.2;have:=hg.size;have:=hgr.size;omega
 ·rw[List.length_set]at hj
  obtain⟨gj,cj,a1,a2,a3⟩:=h1.old j hj;refine⟨gj,cj,?_,a2,?_⟩
  ·rw[run_set hml,if_neg (by omega),List.getElem?_set_ne (by omega)];exact a1
  ·rw[run_set hml,if_neg (by omega)]
   have hoj:o≠gj:=owns_apart h1.own a3 (by decide) rfl rfl;exact owns_grown (owns_grown a3 hg (fun x hx e=>by cases hx;have h5:=(ho0.lt _ e.symm).1;dsimp only at h5;omega)) hgr (fun x hx e=>by cases hx;cases e;exact hoj rfl)
 ·rw[List.length_set]at hj
  have hjm:j=m:=by omega
  subst hjm;refine⟨_,List.getElem?_set_self (by omega),?_⟩;rw[run_set hml,if_pos rfl,List.length_append,←intsN_snoc];rw[hl]at ho;exact owns_grown (by rw[hl];exact ho) hgr (fun x hx e=>by cases hx;cases e;exact hog' rfl)
 ·rw[List.length_set]at h0;omega
theorem RP.new {W wr w2 w3:World}{v v':Value}{rs:List (List Nat)}{ls:List Int}{hs:List Value}{B:Nat}{lv:Int}(h:RP W wr v rs ls hs B)(hne:∀j,j<rs.length→0<(run rs j).length)(hf:Fr [] wr w2)
 (ho:w3.ownsRow W.heap.size 294 2 v' (rs.length+1) (zc ls hs++[.int .i64 lv,.slice none 0 0])) (hg:w2.grownBy w3 v.ownBlock):RP W w3 v' (rs++[[]]) (ls++[lv]) (hs++[.slice none 0 0]) wr.heap.size:=by
 have h1:=h.fr0 hf;have hll:=h.ll;refine⟨h1.fr.grown hg (fun k e=>(h1.own.lt k e).1),?_,?_,⟨Nat.le_trans h.b0.1 h.b0.2,?_⟩,fun j hj=>?_,fun j hj=>?_,fun h0=>?_⟩
 ·simp;omega
 ·rw[List.length_append,←zc_snoc ls hs lv _ (by omega)];exact ho
 ·have:=hf.size;have:=hg.size;omega
 ·rw[List.length_append]at hj
  simp only[List.length_singleton]at hj;rw[run_snoc _ _ _ (by omega),if_neg (by omega),List.getElem?_append_left (by omega)]
  rcases Nat.lt_or_ge (j+1) rs.length with hlt | hge
  ·obtain⟨gj,cj,a1,a2,a3⟩:=h1.old j hlt
   exact⟨gj,cj,a1,by have:=h.b0.2;omega,owns_grown a3 hg (fun x hx e=>owns_apart a3 h1.own (by decide) hx e.symm rfl)⟩
  ·obtain⟨hh,a1,a2⟩:=h.last j (by omega)
   obtain⟨gj,cj,rfl⟩:=owns_shape (hne j (by omega)) a2;exact⟨gj,cj,a1,(owns_at a2).2,owns_grown (owns_low (owns_fr0 a2 hf) h.b0.1) hg (fun x hx e=>owns_apart (owns_fr0 a2 hf) h1.own (by decide) hx e.symm rfl)⟩
 ·rw[List.length_append]at hj
  simp only[List.length_singleton]at hj;have hje:j=rs.length:=by omega
  subst hje;rw[run_snoc _ _ _ (by omega),if_pos rfl];exact⟨_,by rw[←hll.2];simp,World.ownsRow_nil _ _ _ _⟩
 ·simp at h0
def lvOk (L:List Int)(rs:List (List Nat))(ls:List Int):Prop:=∀j,j<rs.length→nth ls j=nth L (firstN (run rs j))
theorem lvOk.set {L:List Int}{rs:List (List Nat)}{ls:List Int}(h:lvOk L rs ls){m i:Nat}(hm:m<rs.length)(hr:run rs m≠[]):lvOk L (rs.set m (run rs m++[i])) ls:=fun j hj=>by
 rw[List.length_set]at hj;rw[run_set hm];by_cases e:j=m
 ·subst e;rw[if_pos rfl,firstN_append hr];exact h j hj
 ·rw[if_neg e];exact h j hj
theorem lvOk.snoc {L:List Int}{rs:List (List Nat)}{ls:List Int}(h:lvOk L rs ls)(hl:ls.length=rs.length)(i:Nat):lvOk L (rs++[[i]]) (ls++[nth L i]):=fun j hj=>by
 rw[List.length_append]at hj;simp only[List.length_singleton]at hj;rw[run_snoc _ _ _ (by omega)];by_cases e:j=rs.length
 ·subst e;rw[if_pos rfl]
  rw[←hl];simp[nth,firstN]
 ·rw[if_neg e,←h j (by omega)]
  unfold nth;rw[List.getElem?_append_left (by omega)]
def runsR (w w':World)(v:Value)(rs:List (List Nat))(L:List Int):Prop:=∃ls hs B,RP w w' v rs ls hs B∧lvOk L rs ls
theorem snoc_set (rs:List (List Nat))(x y:List Nat):(rs++[x]).set rs.length y=rs++[y]:=by simp
theorem RP.cells {W wr:World}{rs:List (List Nat)}{ls:List Int}{hs:List Value}{B n o cap:Nat}(h:RP W wr (.slice (some ⟨o,0,none⟩) n cap) rs ls hs B)(hn:n=rs.length){j:Nat}(hj:j<n):wr.cell? ⟨o,j * 2,none⟩=some (.int .i64 (nth ls j))∧wr.cell? ⟨o,j * 2+1,none⟩=hs[j]?:=by
 have ho:=h.own;rw[←hn]at ho;have hl:=h.ll;obtain⟨a1,a2⟩:=zc_at ls hs j (by omega) (by omega);exact⟨by rw[ho.cellAt _ (by omega),a1],by rw[ho.cellAt _ (by omega),a2]⟩
set_option linter.unusedSimpArgs false in
set_option maxRecDepth 10000 in
set_option maxHeartbeats 8000000 in
theorem fn52_any (q:UH)(C L:List Int)(P cU:Nat)(lv:Int)(w:World)(hu:US w q C L)(hq:QS w q P cU lv)(hK:q.K.length=q.n)(hn:q.n≤1000000)(hn0:0<q.n) :
 Calls Tryz.prog 172 #[.pointer (some ⟨P,0,none⟩)] w fun e w'=>∃v,e=.returned v∧runsR w w' v (runsTo q.K L q.K.length) L:=by
 obtain⟨i0,hi,hz0,hz1,hz2⟩:=info_parts info3;obtain⟨i1,hi1,hy0,hy1,hy2⟩:=info_parts info225;have c0:=hq.c0;have HU:=hid hu;have HK:=hid hK;have hUl:q.U<w.heap.size:=World.block_lt_of_cell? _ _ (hu.r 0 hn0);obtain⟨Z,hZ⟩:∃Z,Z=runsTo q.K L q.K.length:=⟨_,rfl⟩;rw[←hZ];have HZ:=hid hZ;clear hu hq hZ hK;go_enter Tryz.func172,Tryz.ntmps172;go_wp2;go_loopw [3,12] (fun v a wr=>∃(i B:Nat) (ls:List Int) (hs:List Value),a=.int .i64 i∧i≤q.n∧Hid (RP w wr v (runsTo q.K L i) ls hs B)∧Hid (lvOk L (runsTo q.K L i) ls)) (fun _ a _=>q.n - (intOf a).toNat)
 case atStart=>exact⟨0,_,_,_,rfl,Nat.zero_le _,hid (RP.start w),hid (fun j hj=>absurd hj (by simp[runsTo]))⟩
 case round =>
  obtain⟨i,B,ls,hs,rfl,hin,HR,HLV⟩:=hrel;by_cases hlt:i<q.n
  ·have HUX:=hid (HU.out.fr HR.out.fr List.not_mem_nil)
   have p0:=HUX.out.r i hlt;have p1:=HUX.out.k i hlt;have p2:=HUX.out.c i hlt;have p3:=HUX.out.l i hlt;have hiI:(i:Int)<(q.n:Int):=by omega
   have HFA:=hid (run_facts q.K L i (runsTo q.K L i));have HNX:=hid (show runsTo q.K L (i+1)=runStep q.K L i (runsTo q.K L i)from rfl);rw[←HNX.out]at HFA;have HINV:=hid (run_inv q.K L i);have hshort:=runs_short q.K L i;have HSH:=hid hshort.2;have hsh:=hshort.1;have HNE:=hid (show ∀j,j<(runsTo q.K L i).length→0<(run (runsTo q.K L i) j).length from fun j hj=>List.length_pos_iff.2 (HINV.out.ne _ (run_mem hj)));clear hshort;generalize runsTo q.K L i=rs at *;have HC:=hid (fn76_any (nth q.K i));obtain⟨bx,hbx⟩:∃bx:Obj,bx=.cells #[.int .i32 (nth q.R i),.int .i64 (nth q.K i),.int .i64 (nth C i),.int .i64 (nth L i)] 280:=⟨_,rfl⟩;have HRA:=hid (HR.out.fr0 ((Fr.refl [] wr).alloc bx));have hUw:q.U<wr.heap.size:=by have:=HR.out.fr.size;omega
   rw[hbx]at HRA;obtain⟨a1,c1,hv1⟩:=owns_slice HR.out.own;obtain⟨n,hn'⟩:∃n,n=rs.length:=⟨_,rfl⟩;rw[←hn']at hv1 hsh;have HN:=hid hn';subst hv1;generalize hr1:nth q.R i=r1 at *;generalize hr3:nth C i=r3 at *;clear hbx hn' hr1 hr3;cases hg:gone (nth q.K i)
   ·rw[hg]at HC
    have HF0:=hid (HFA.out.2.1 hg);have HF3:=hid (fun m=>HFA.out.2.2.1 m hg);have HF4:=hid (fun m=>HFA.out.2.2.2 m hg);have HOA:=hid (show _ from HRA.out.own);rw[←HN.out]at HOA;generalize nth q.K i=kk at *;generalize hy:nth L i=y at *;have HY:=hid hy;clear HFA hg hy
    rcases Nat.eq_zero_or_pos n with h0 | h0
    ·subst h0
     have hnil:=HR.out.nl HN.out.symm;cases hnil;have HNN:=hid (HF0.out HN.out.symm);clear HF0 HF3 HF4;go_wp2_with (first | (go_at_call 196;refine(HC.out _).mono ?_;rintro e w' ⟨rfl,rfl⟩));go_quiet (fail);go_wp2_with (at_builtin;refine wpList_append_own _ rfl _ _ 291 rfl w.heap.size 294 i1 _ 2 32 Tryz.underlying291 hi1 hy0 hy1 hy2 rfl (by decide) _ 0 (zc ls hs) rfl ?own _ 1 1 [.int .i64 y,.slice none 0 0] rfl rfl (news_at _ _ _ _ (by simp)) (pair2 _) (by unfold maxLen;omega) (by omega) ?szz ?_)
     case own=>exact owns_fr0 HOA.out ((((Fr.refl [] _).drewN _)).alloc _)
     case szz=>have:=HRA.out.fr.size;simp at this ⊢;omega
     intro v3 w3 own3 grow3 nil3;obtain⟨o3,cap3,hv3⟩:=owns_shape (by omega) own3;subst hv3;have hr3:=HRA.out.new (lv:=y) HNE.out ((((Fr.refl [] _).drewN _)).alloc _) (by rw[←HN.out];exact own3) grow3;rw[show(wr.alloc (.cells #[.int .i32 r1,.int .i64 kk,.int .i64 r3,.int .i64 y] 280)).heap.size=wr.heap.size+1 by simp]at hr3;have HR3:=hid hr3;clear hr3;have HL3:=hid (show(rs++[[]]).length=0+1 by rw[List.length_append,←HN.out];rfl);have HB3:=hid (HR3.out.cells HL3.out.symm (Nat.lt_succ_self 0));have g1:=HB3.out.2;rw[List.getElem?_append_right (by rw[HRA.out.ll.2,←HN.out];exact Nat.le_refl _),HRA.out.ll.2,←HN.out,Nat.sub_self]at g1;have ho3:o3<w3.heap.size:=(owns_at own3).2;have hb3:=HR3.out.b0.2;have hnI:((0:Nat):Int)<((0+1:Nat):Int):=by omega
     clear own3 grow3 nil3;go_wp2_with (at_builtin;refine wpList_append_own _ rfl _ _ 32 rfl (wr.heap.size+1) 3 i0 _ 1 8 Tryz.underlying32 hi hz0 hz1 hz2 rfl (by decide) _ 0 [] rfl ?own2 _ 1 1 [.int .i64 i] rfl rfl (news_at _ _ _ _ (by simp)) (one_cell _) (by unfold maxLen;omega) (by omega) ?szz2 ?_)
     case own2=>exact World.ownsRow_nil _ _ _ _
     case szz2=>simp at hb3 ⊢;omega
     intro v4 w4 own4 grow4 nil4;obtain⟨g4,c4,hv4⟩:=owns_shape (by omega) own4;subst hv4;obtain⟨hgr,how⟩:=HR3.out.grow (r:=[]) (l:=0) (i:=i) HL3.out.symm rfl (World.ownsRow_nil _ _ _ _) rfl ((Fr.refl [] w3).alloc _) own4 grow4;rw[HN.out,snoc_set]at hgr;have HR4:=hid hgr;have hcc:∃u,w4.cell? ⟨o3,0 * 2+1,none⟩=some u:=by
      rw[how.cellAt _ (by omega),←zc_snoc _ _ _ _ (by have:=HRA.out.ll;omega),List.getElem?_append_right (by rw[zc_len _ _ HRA.out.ll,←HN.out];omega),zc_len _ _ HRA.out.ll,←HN.out,show 0 * 2+1 - 0 * 2=1 by omega];exact⟨_,rfl⟩
     obtain⟨u,f1⟩:=hcc;have f2:=how.frozenAt (0 * 2+1);rw[←HN.out]at HR4;clear own4 grow4 nil4 hgr how g1;go_wp2;go_roundw
     case rel=>exact⟨i+1,_,_,_,by go_num,by omega,hid (by rw[HNN.out];exact HR4.out),hid (by rw[HNN.out];have h5:=HLV.out.snoc HRA.out.ll.1 i;rw[HY.out]at h5;exact h5)⟩
     case measure=>simp[intOf];omega
    ·obtain⟨m,hm⟩:∃m,n=m+1:=⟨n - 1,by omega⟩
     have hown:=HR.out.own;rw[←HN.out]at hown;obtain⟨o,cap,hsh2⟩:=owns_shape h0 hown;cases hsh2;have hml:m<rs.length:=by rw[←HN.out];omega
     obtain⟨h0',hh1,hh2⟩:=HRA.out.last m (by rw[←HN.out,hm]);have hrm:=run_mem hml;have hne:=HINV.out.ne _ hrm;have hrl:=HSH.out _ hrm;have hr0:0<(run rs m).length:=List.length_pos_iff.2 hne;obtain⟨g,c,hgs⟩:=owns_shape hr0 hh2;subst hgs;have hcl:=HRA.out.cells HN.out (show m<n by omega);have k1:=hcl.1;have k2:=hcl.2;rw[hh1]at k2;have HLM:=hid (HLV.out m hml);have HLL:=hid (HINV.out.lev _ hrm _ (lastN_mem hne));have hol:=(owns_at HOA.out).2;have HH2:=hid hh2;have HNEM:=hid hne;have hnm:(n:Int) - 1=(m:Int):=by omega
     have hmn:(m:Int)<(n:Int):=by omega
     have hm0:¬(m:Int)<0:=by omega
     have hm0d:decide ((m:Int)<0)=false:=decide_eq_false hm0;have HF3m:=hid (HF3.out m (by rw[←HN.out,hm]));have HF4m:=hid (HF4.out m (by rw[←HN.out,hm]));have HMM:=hid hm;have HML:=hid hml;clear hcl hh1 hh2 hown hrm hne HF0 HF3 HF4 hm hml;obtain⟨r,hr⟩:∃r,r=run rs m:=⟨_,rfl⟩;have HRR:=hid hr;rw[←hr]at HH2 HNEM hrl hr0 k2 HLM HLL HF3m HF4m;obtain⟨l,hl⟩:∃l,l=r.length:=⟨_,rfl⟩;rw[←hl]at HH2 hrl hr0 k2;have HL:=hid hl;generalize hlm:nth ls m=lm at *;clear hr hl hlm;by_cases heq:lm=y
     ·have HNN:=hid (HF3m.out (by rw[HLL.out,←HLM.out];exact heq))
      subst heq;clear HF3m HF4m;go_wp2_with (first | (go_at_call 196;refine(HC.out _).mono ?_;rintro e w' ⟨rfl,rfl⟩));go_quiet (fail);go_wp2_with (at_builtin;refine wpList_append_own _ rfl _ _ 32 rfl B 3 i0 _ 1 8 Tryz.underlying32 hi hz0 hz1 hz2 rfl (by decide) _ l (intsN r) rfl ?own2 _ 1 1 [.int .i64 i] rfl rfl (news_at _ _ _ _ (by simp)) (one_cell _) (by unfold maxLen;omega) (by omega) ?szz2 ?_)
      case own2=>exact owns_fr0 HH2.out (((Fr.refl [] _).drewN _).alloc _)
      case szz2=>have:=HRA.out.b0.2;simp at this ⊢;omega
      intro v4 w4 own4 grow4 nil4;obtain⟨g4,c4,hv4⟩:=owns_shape (by omega) own4;subst hv4;obtain⟨hgr,how⟩:=HRA.out.grow (i:=i) HN.out HMM.out HH2.out HL.out (((Fr.refl [] _).drewN _).alloc _) own4 grow4;have HR4:=hid hgr;have hcc:∃u,w4.cell? ⟨o,m * 2+1,none⟩=some u:=by
       rw[how.cellAt _ (by have:=HMM.out;omega),(zc_at ls hs m (by have:=HRA.out.ll;omega) (by rw[HRA.out.ll.2];exact HML.out)).2,List.getElem?_eq_getElem (by rw[HRA.out.ll.2];exact HML.out)];exact⟨_,rfl⟩
      obtain⟨u,f1⟩:=hcc;have f2:=how.frozenAt (m * 2+1);clear own4 grow4 nil4 hgr how;go_wp2;go_roundw
      case rel=>exact⟨i+1,_,_,_,by go_num,by omega,hid (by rw[HNN.out];exact HR4.out),hid (by rw[HNN.out,HRR.out];exact HLV.out.set HML.out (by rw[←HRR.out];exact HNEM.out))⟩
      case measure=>simp[intOf];omega
     ·have HNN:=hid (HF4m.out (by rw[HLL.out,←HLM.out];exact heq))
      have heb:(lm == y)=false:=by simp[heq]
      have hm1:(m:Int)+1=(n:Int):=by omega
      clear HF3m HF4m;go_wp2_with (first | (go_at_call 196;refine(HC.out _).mono ?_;rintro e w' ⟨rfl,rfl⟩));go_quiet (fail);go_wp2_with (at_builtin;refine wpList_append_own _ rfl _ _ 291 rfl w.heap.size 294 i1 _ 2 32 Tryz.underlying291 hi1 hy0 hy1 hy2 rfl (by decide) _ n (zc ls hs) rfl ?own _ 1 1 [.int .i64 y,.slice none 0 0] rfl rfl (news_at _ _ _ _ (by simp)) (pair2 _) (by unfold maxLen;omega) (by omega) ?szz ?_)
      case own=>exact owns_fr0 HOA.out ((((Fr.refl [] _).drewN _)).alloc _)
      case szz=>have:=HRA.out.fr.size;simp at this ⊢;omega
      intro v3 w3 own3 grow3 nil3;obtain⟨o3,cap3,hv3⟩:=owns_shape (by omega) own3;subst hv3;have hr3:=HRA.out.new (lv:=y) HNE.out ((((Fr.refl [] _).drewN _)).alloc _) (by rw[←HN.out];exact own3) grow3;rw[show(wr.alloc (.cells #[.int .i32 r1,.int .i64 kk,.int .i64 r3,.int .i64 y] 280)).heap.size=wr.heap.size+1 by simp]at hr3;have HR3:=hid hr3;clear hr3;have HL3:=hid (show(rs++[[]]).length=n+1 by rw[List.length_append,←HN.out];rfl);have HB3:=hid (HR3.out.cells HL3.out.symm (Nat.lt_succ_self n));have g1:=HB3.out.2;rw[List.getElem?_append_right (by rw[HRA.out.ll.2,←HN.out];exact Nat.le_refl _),HRA.out.ll.2,←HN.out,Nat.sub_self]at g1;have ho3:o3<w3.heap.size:=(owns_at own3).2;have hb3:=HR3.out.b0.2;have hnI:((0:Nat):Int)<((0+1:Nat):Int):=by omega
      clear own3 grow3 nil3;go_wp2_with (at_builtin;refine wpList_append_own _ rfl _ _ 32 rfl (wr.heap.size+1) 3 i0 _ 1 8 Tryz.underlying32 hi hz0 hz1 hz2 rfl (by decide) _ 0 [] rfl ?own2 _ 1 1 [.int .i64 i] rfl rfl (news_at _ _ _ _ (by simp)) (one_cell _) (by unfold maxLen;omega) (by omega) ?szz2 ?_)
      case own2=>exact World.ownsRow_nil _ _ _ _
      case szz2=>simp at hb3 ⊢;omega
      intro v4 w4 own4 grow4 nil4;obtain⟨g4,c4,hv4⟩:=owns_shape (by omega) own4;subst hv4;obtain⟨hgr,how⟩:=HR3.out.grow (r:=[]) (l:=0) (i:=i) HL3.out.symm rfl (World.ownsRow_nil _ _ _ _) rfl ((Fr.refl [] w3).alloc _) own4 grow4;rw[HN.out,snoc_set]at hgr;have HR4:=hid hgr;have hcc:∃u,w4.cell? ⟨o3,n * 2+1,none⟩=some u:=by
       rw[how.cellAt _ (by omega),←zc_snoc _ _ _ _ (by have:=HRA.out.ll;omega),List.getElem?_append_right (by rw[zc_len _ _ HRA.out.ll,←HN.out];omega),zc_len _ _ HRA.out.ll,←HN.out,show n * 2+1 - n * 2=1 by omega];exact⟨_,rfl⟩
      obtain⟨u,f1⟩:=hcc;have f2:=how.frozenAt (n * 2+1);rw[←HN.out]at HR4;clear own4 grow4 nil4 hgr how g1;go_wp2;go_roundw
      case rel=>exact⟨i+1,_,_,_,by go_num,by omega,hid (by rw[HNN.out];exact HR4.out),hid (by rw[HNN.out];have h5:=HLV.out.snoc HRA.out.ll.1 i;rw[HY.out]at h5;exact h5)⟩
      case measure=>simp[intOf];omega
   ·have HNN:=hid (HFA.out.1 hg)
    rw[hg]at HC;generalize nth q.K i=kk at *;generalize nth L i=y at *;clear HFA hg;go_wp2_with (first | (go_at_call 196;refine(HC.out _).mono ?_;rintro e w' ⟨rfl,rfl⟩));go_roundw
    case rel=>exact⟨i+1,_,_,_,by go_num,by omega,hid (by rw[HNN.out];exact HRA.out),hid (by rw[HNN.out];exact HLV.out)⟩
    case measure=>simp[intOf];omega
  ·have hie:i=q.n:=by omega
   have HRZ:=hid (show RP w wr _ Z ls hs B by rw[HZ.out,HK.out,←hie];exact HR.out);have HLZ:=hid (show lvOk L Z ls by rw[HZ.out,HK.out,←hie];exact HLV.out);have hiI:¬(i:Int)<(q.n:Int):=by omega
   clear hie HR HLV;go_wp2;go_ret;exact⟨_,rfl,ls,hs,B,HRZ.out,HLZ.out⟩
end Go.Proofs.YtnakejhohdbfdacGreatDoor
namespace Go.Proofs.YtnakejhohdbfdacGreatDoor
open Go.RowKit Lev
set_option maxRecDepth 10000 in
set_option maxHeartbeats 2000000 in
theorem fn57_any (lv:Int)(g l c B:Nat)(r:List Nat)(w:World)(h:w.ownsRow B 3 1 (.slice (some ⟨g,0,none⟩) l c) l (intsN r))(hl:l=r.length)(h0:0<l)(h1:l≤1000000) :
 Calls Tryz.prog 177 #[.agg #[.int .i64 lv,.slice (some ⟨g,0,none⟩) l c]] w fun e w'=>e=.returned (.int .i64 (lastN r:Nat))∧Fr [] w w':=by
 obtain⟨m,hm⟩:∃m,l=m+1:=⟨l - 1,by omega⟩;have e1:w.cell? ⟨g,m,none⟩=some (.int .i64 (lastN r:Nat)):=by
  rw[owns_rowN h hl.symm m (by omega),lastN,←hl,hm];rfl
 have hg:=(owns_at h).2;generalize lastN r=x at *;have hnm:(l:Int) - 1=(m:Int):=by omega
 have hml:(m:Int)<(l:Int):=by omega
 clear h hl hm;go_enter Tryz.func177,Tryz.ntmps177;go_wp2;go_ret;exact⟨rfl,(Fr.refl [] w).alloc _⟩
def lvOf (ls:List Int)(n:Nat)(lv:Int)(x:Int):Int:=if x<0∨(n:Int)≤x then lv else nth ls x.toNat
set_option maxRecDepth 10000 in
set_option maxHeartbeats 2000000 in
theorem fn54_any (q:UH)(P cU:Nat)(lv:Int)(W w:World)(o n cap B:Nat)(rs:List (List Nat))(ls:List Int)(hs:List Value)(x:Int)(hq:QS w q P cU lv)(h:RP W w (.slice (some ⟨o,0,none⟩) n cap) rs ls hs B)(hn:n=rs.length) :
 Calls Tryz.prog 174 #[.pointer (some ⟨P,0,none⟩),.slice (some ⟨o,0,none⟩) n cap,.int .i64 x] w fun e w'=>e=.returned (.int .i64 (lvOf ls n lv x))∧w'=w:=by
 have c2:=hq.c2;by_cases hx:x<0
 ·rw[show lvOf ls n lv x=lv by rw[lvOf,if_pos (.inl hx)]]
  have hxd:decide (x<0)=true:=decide_eq_true hx;clear h hq hn;go_enter Tryz.func174,Tryz.ntmps174;go_wp2;go_ret;exact⟨rfl,rfl⟩
 ·have hxd:decide (x<0)=false:=decide_eq_false hx
  by_cases hx2:(n:Int)≤x
  ·rw[show lvOf ls n lv x=lv by rw[lvOf,if_pos (.inr hx2)]]
   clear h hq hn;go_enter Tryz.func174,Tryz.ntmps174;go_wp2;go_ret;exact⟨rfl,rfl⟩
  ·obtain⟨j,rfl⟩:∃j:Nat,x=j:=⟨x.toNat,by omega⟩
   have k1:=(h.cells hn (show j<n by omega)).1;rw[show lvOf ls n lv (j:Int)=nth ls j by rw[lvOf,if_neg (by omega)];rfl];generalize nth ls j=y at *;have hjI:(j:Int)<(n:Int):=by omega
   have hd2:decide ((n:Int)≤(j:Int))=false:=decide_eq_false hx2;have hd3:decide (n≤j)=false:=decide_eq_false (by omega);clear h hq hn;go_enter Tryz.func174,Tryz.ntmps174;go_wp2;go_ret;exact⟨rfl,rfl⟩
set_option linter.unusedSimpArgs false in
set_option maxRecDepth 10000 in
set_option maxHeartbeats 4000000 in
theorem fn55_any (q:UH)(C L:List Int)(P cU:Nat)(lv:Int)(W w:World)(o n cap B:Nat)(rs:List (List Nat))(ls:List Int)(hs:List Value)(j g c:Nat)(hu:US w q C L)(hq:QS w q P cU lv)(h:RP W w (.slice (some ⟨o,0,none⟩) n cap) rs ls hs B)(hn:n=rs.length)(hj:j<n)(hnb:n≤1000000)
 (hh:hs[j]?=some (.slice (some ⟨g,0,none⟩) (run rs j).length c)) (hr:w.ownsRow W.heap.size 3 1 (.slice (some ⟨g,0,none⟩) (run rs j).length c) (run rs j).length (intsN (run rs j))) (h0:0<(run rs j).length) (h1:(run rs j).length≤1000000) (hlt:lastN (run rs j)<q.n) :
 Calls Tryz.prog 175 #[.pointer (some ⟨P,0,none⟩),.slice (some ⟨o,0,none⟩) n cap,.int .i64 j] w fun e w'=>e=.returned (.int .i64 (if ini (nth q.K (lastN (run rs j)))then lv else lvOf ls n lv ((j:Int)+1)))∧Fr [] w w':=by
 have c0:=hq.c0;have c2:=hq.c2;have hcl:=h.cells hn hj;have k1:=hcl.1;have k2:=hcl.2;rw[hh]at k2;have HU:=hid hu;have HQ:=hid hq;have HH:=hid h;have HN:=hid hn;have p1:=hu.k _ hlt;have hln:((lastN (run rs j):Nat):Int)<(q.n:Int):=by omega
 have HC112:=hid (fun(X:World) (hf:Fr [] w X)=>fn57_any (nth ls j) g _ c _ (run rs j) X (owns_fr0 hr hf) rfl h0 h1);have HP1:=hid p1;have HC0:=hid c0;obtain⟨V,hV⟩:∃V,V=if ini (nth q.K (lastN (run rs j)))then lv else lvOf ls n lv ((j:Int)+1):=⟨_,rfl⟩
 rw[←hV];have HV:=hid hV;generalize lastN (run rs j)=x at *;generalize (run rs j).length=l at *;generalize nth q.K x=kk at *;generalize nth ls j=lj at *;have HC154:=hid (fn82_any kk);have hjI:(j:Int)<(n:Int):=by omega
 have hol:=World.block_lt_of_cell? _ _ k1;have hUl:=World.block_lt_of_cell? _ _ p1;have hPl:=World.block_lt_of_cell? _ _ c2;dsimp only at hol hUl hPl;clear hu hq h hn hh hr hcl hV;go_enter Tryz.func175,Tryz.ntmps175;go_upto_region 1 with fail
 go_cut [19]from 7 to 19 (fun a wx=>a=.bool (ini kk)∧Hid (Fr [] w wx))
 case first =>
  go_region_with (first | (go_at_call 177;refine(HC112.out _ ?_).mono ?_;exact frz _ _ _ rfl rfl rfl rfl;rintro e w1 ⟨rfl,hf1⟩;have hf1':Fr [] w w1:=⟨hf1.os,hf1.tape,hf1.output,hf1.size,hf1.block⟩;have HF1:=hid hf1';have m0:=hf1'.cell HP1.out List.not_mem_nil;have m1:=hf1'.cell HC0.out List.not_mem_nil;clear hf1 hf1') | (go_at_call 202;refine(HC154.out _).mono ?_;rintro e w2 ⟨rfl,rfl⟩))
  all_goals (
   go_wp2
   go_meet
   exact⟨rfl,HF1⟩)
 case rest =>
  obtain⟨rfl,HF⟩:=hcut;have d2:=(HQ.out.fr HF.out List.not_mem_nil).c2;have HC109:=hid (fn54_any q P cU lv W wc o n cap B rs ls hs ((j:Int)+1) (HQ.out.fr HF.out List.not_mem_nil) (HH.out.fr0 HF.out) HN.out);clear c0 c2 k1 k2 p1;cases hk:ini kk
  ·have HV2:=hid (show V=lvOf ls n lv ((j:Int)+1) by rw[HV.out,hk];rfl)
   clear hk;go_wp2_with (first | (go_at_call 174;refine HC109.out.mono ?_;rintro e w' ⟨rfl,rfl⟩));go_ret;exact⟨retI HV2.out.symm,HF.out⟩
  ·have HV2:=hid (show V=lv by rw[HV.out,hk];rfl)
   clear hk;go_wp2;go_ret;exact⟨retI HV2.out.symm,HF.out⟩
end Go.Proofs.YtnakejhohdbfdacGreatDoor

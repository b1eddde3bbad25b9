import Derived.Shelf.Utf8.RuneCount
import Derived.Test.YtnakejhohdbfdacGreatDoorKFwC
import Derived.Test.YtnakejhohdbfdacGreatDoorKLdG
namespace Go.Proofs.YtnakejhohdbfdacGreatDoor.Cls.Wr
open Go.RowKit Dec Kin Bnd Lay Lev Go.Shelf
attribute [local go_sem] Oper.semAt_some
theorem count_any (t:ByteArray)(w:World)(ht:t.size≤4096):Calls Tryz.prog 34 #[.string t] w fun e w'=>e=.returned (.int .i64 (Lib.runeCount t:Nat))∧Below w.heap.size w w' :=
 (Tryz.utf8_RuneCountInString t w (by omega)).mono (by
   rintro e w' ⟨rfl,q,rfl⟩
   exact⟨rfl,(Below.refl _ w).alloc (Nat.le_refl _) _⟩)
def pc (s:ByteArray)(n g o cW i:Nat):List Value:=[.int .i64 ((pos s (nix (bix s n) i):Nat):Int),.bool (blk s n i),.slice (some ⟨g,o+nix (bix s n) i,none⟩) (nix (bix s n) (i+1) - nix (bix s n) i) (cW - nix (bix s n) i)]
def pcl (s:ByteArray)(n g o cW:Nat):Nat→List Value
 | 0=>[]
 | i+1=>pcl s n g o cW i++pc s n g o cW i
theorem pcl_len (s:ByteArray)(n g o cW:Nat):∀i,(pcl s n g o cW i).length=i * 3
 | 0=>rfl
 | i+1=>by rw[pcl,List.length_append,pcl_len s n g o cW i];simp[pc];omega
theorem pcl_at (s:ByteArray)(n g o cW:Nat):∀c i,i<c→∀j,j<3→(pcl s n g o cW c)[i * 3+j]?=(pc s n g o cW i)[j]?
 | 0,i,h,_,_=>absurd h (Nat.not_lt_zero _)
 | c+1,i,h,j,hj=>by
   have hl:=pcl_len s n g o cW c;rw[pcl]
   rcases Nat.lt_or_eq_of_le (Nat.le_of_lt_succ h)with h1 | h1
   ·rw[List.getElem?_append_left (by omega)]
    exact pcl_at s n g o cW c i h1 j hj
   ·subst h1
    rw[List.getElem?_append_right (by omega),hl,show i * 3+j - i * 3=j by omega]
structure PS (w:World)(s:ByteArray)(n g o cW i:Nat)(A:World):Prop where
 b:Below w.heap.size w A
 t:A.heap[w.heap.size+1+1]?=some (.cells #[.string s] 9 (0,0))
 a:∃aw,A.heap[w.heap.size]?=some (.cells #[.slice aw (n - nix (bix s n) i) (cW - nix (bix s n) i)] 32 (0,0))∧(nix (bix s n) i<n→aw=some ⟨g,o+nix (bix s n) i,none⟩)
 v:∃v,A.heap[w.heap.size+1]?=some (.cells #[v] 100 (0,0))∧A.ownsRow w.heap.size 104 3 v i (pcl s n g o cW i)∧∀g',v.ownBlock=some g'→g'≠w.heap.size+3∧g'≠w.heap.size+3+1
def Fgn (w A:World)(k:Nat):Prop:=k≠w.heap.size∧k≠w.heap.size+1∧∀v,A.heap[w.heap.size+1]?=some (.cells #[v] 100 (0,0))→v.ownBlock≠some k
theorem PS.kp {w A B:World}{s:ByteArray}{n g o cW i:Nat}(h:PS w s n g o cW i A)(hk:Kp (w.heap.size+3) A B):PS w s n g o cW i B:=by
 obtain⟨v,v1,v2,v3⟩:=h.v;obtain⟨aw,a1,a2⟩:=h.a;have hA:=lt_of_blk h.t;refine⟨⟨hk.os.trans h.b.os,hk.tape.trans h.b.tape,hk.output.trans h.b.output,Nat.le_trans h.b.size hk.size,fun k hk1=>(hk.block k (by omega) (by omega) (by omega)).trans (h.b.block k hk1)⟩,?_,⟨aw,?_,a2⟩,v,?_,?_,v3⟩
 ·rw[hk.block _ (by omega) (by omega) (by omega)];exact h.t
 ·rw[hk.block _ (by omega) (by omega) (by omega)];exact a1
 ·rw[hk.block _ (by omega) (by omega) (by omega)];exact v1
 ·exact own_blk v2 (fun g hg=>hk.block g (v2.lt g hg).2 (v3 g hg).1 (v3 g hg).2)
theorem Fgn.kp {w A B:World}{s:ByteArray}{n g o cW i k:Nat}(h:PS w s n g o cW i A)(hk:Kp (w.heap.size+3) A B)(hf:Fgn w A k):Fgn w B k:=by
 have hA:=lt_of_blk h.t;refine⟨hf.1,hf.2.1,fun v hv=>hf.2.2 v ?_⟩;rw[hk.block _ (by omega) (by omega) (by omega)]at hv;exact hv
theorem Fgn.new {w A B:World}{s:ByteArray}{n g o cW i k:Nat}(h:PS w s n g o cW i A)(hb:Below A.heap.size A B)(hk:A.heap.size≤k):Fgn w B k:=by
 have hA:=lt_of_blk h.t;obtain⟨v,v1,v2,_⟩:=h.v;refine⟨by omega,by omega,fun u hu e=>?_⟩;rw[hb.block _ (by omega),v1]at hu;cases hu;have:=(v2.lt k e).2;omega
theorem ps_add {w A A1 A2:World}{s:ByteArray}{n g o cW i:Nat}{v v':Value}{ob:Obj}(act:Act)(h:PS w s n g o cW i A)(hb:Below A.heap.size A A1)(hv:A.heap[w.heap.size+1]?=some (.cells #[v] 100 (0,0)))(hown:A.ownsRow w.heap.size 104 3 v i (pcl s n g o cW i))(hv3:∀g,v.ownBlock=some g→g≠w.heap.size+3∧g≠w.heap.size+3+1)
 (hg:(A1.alloc ob).grownBy A2 v.ownBlock) (own:A2.ownsRow w.heap.size 104 3 v' (i+1) (pcl s n g o cW (i+1))) (hor:v'.ownBlock=v.ownBlock∨v'.ownBlock=some (A1.alloc ob).heap.size) (hsz:w.heap.size+3+1<A.heap.size) (aw:Option Addr) (haw:nix (bix s n) (i+1)<n→aw=some ⟨g,o+nix (bix s n) (i+1),none⟩) :
 kpPost (w.heap.size+3) (PS w s n g o cW) (Fgn w) (i+1) A .normal act ((A2.setCell ⟨w.heap.size+1,0,none⟩ v').setCell ⟨w.heap.size,0,none⟩ (.slice aw (n - nix (bix s n) (i+1)) (cW - nix (bix s n) (i+1)))):=by
 have hs1:=hb.size;have hs2:=hg.size;rw[World.size_alloc]at hs2 hor;obtain⟨aw0,a1,_⟩:=h.a;generalize hva:Value.slice aw (n - nix (bix s n) (i+1)) (cW - nix (bix s n) (i+1))=va;have h2:∀k,k<A.heap.size→v.ownBlock≠some k→A2.heap[k]?=A.heap[k]?:=fun k hk hne=>((hg.block k (by rw[World.size_alloc];omega) (fun e=>hne e.symm)).trans (Below.heap_alloc _ _ _ (by omega))).trans (hb.block k hk)
 have ho:∀k,k<A.heap.size→v.ownBlock≠some k→k≠w.heap.size+1→k≠w.heap.size→((A2.setCell ⟨w.heap.size+1,0,none⟩ v').setCell ⟨w.heap.size,0,none⟩ va).heap[k]?=A.heap[k]?:=fun k q1 q2 q3 q4=>((Below.heap_setCell _ _ _ _ q4).trans (Below.heap_setCell _ _ _ _ q3)).trans (h2 k q1 q2)
 have n1:v.ownBlock≠some (w.heap.size+1):=fun e=>own_ne hown hv (fun c f hc=>by cases hc) e.symm
 have n2:v.ownBlock≠some w.heap.size:=fun e=>own_ne hown a1 (fun c f hc=>by cases hc) e.symm
 have n3:v.ownBlock≠some (w.heap.size+1+1):=fun e=>own_ne hown h.t (fun c f hc=>by cases hc) e.symm
 have n4:v.ownBlock≠some (w.heap.size+3):=fun e=>(hv3 _ e).1 rfl
 have n5:v.ownBlock≠some (w.heap.size+3+1):=fun e=>(hv3 _ e).2 rfl
 have hlow:∀k,k<w.heap.size→v.ownBlock≠some k:=fun k hk e=>by have:=(hown.lt k e).1;omega
 have m1:∀g,v'.ownBlock=some g→g≠w.heap.size+1∧g≠w.heap.size∧g≠w.heap.size+3∧g≠w.heap.size+3+1:=fun g hgb=>by
  rcases hor with e | e
  ·rw[e]at hgb
   exact⟨fun q=>n1 (q ▸ hgb),fun q=>n2 (q ▸ hgb),fun q=>n4 (q ▸ hgb),fun q=>n5 (q ▸ hgb)⟩
  ·rw[hgb]at e
   have:=Option.some.inj e;omega
 have k1:=heap_setCell_same A2 (w.heap.size+1) 0 _ 100 v' ((h2 _ (by omega) n1).trans hv);have k2:=heap_setCell_same (A2.setCell ⟨w.heap.size+1,0,none⟩ v') w.heap.size 0 _ 32 va (((Below.heap_setCell _ _ _ _ (by show w.heap.size≠w.heap.size+1;omega)).trans (h2 _ (by omega) n2)).trans a1);have hbx:((A2.setCell ⟨w.heap.size+1,0,none⟩ v').setCell ⟨w.heap.size,0,none⟩ va).heap[w.heap.size+1]?=some (.cells #[v'] 100 (0,0)):=(Below.heap_setCell _ _ _ _ (by show w.heap.size+1≠w.heap.size;omega)).trans k1;refine⟨ho _ (by omega) n4 (by omega) (by omega),ho _ (by omega) n5 (by omega) (by omega),by rw[World.size_setCell,World.size_setCell];omega,⟨?_,?_,⟨aw,by rw[hva];exact k2,haw⟩,v',hbx,?_,fun g hgb=>(m1 g hgb).2.2⟩,fun k hk hf=>⟨ho k hk (hf.2.2 v hv) hf.2.1 hf.1,hf.1,hf.2.1,fun u hu e=>?_⟩⟩
 ·exact⟨(hg.os.trans hb.os).trans h.b.os,(hg.tape.trans hb.tape).trans h.b.tape,(hg.output.trans hb.output).trans h.b.output,by rw[World.size_setCell,World.size_setCell];have:=h.b.size;omega,fun k hk=>(ho k (by omega) (hlow k hk) (by omega) (by omega)).trans (h.b.block k hk)⟩
 ·rw[ho _ (by omega) n3 (by omega) (by omega)];exact h.t
 ·exact own_blk own (fun g hgb=>(Below.heap_setCell _ _ _ _ (m1 g hgb).2.1).trans (Below.heap_setCell _ _ _ _ (m1 g hgb).1))
 ·rw[hbx]at hu
  cases hu
  rcases hor with q | q
  ·exact hf.2.2 v hv (q ▸ e)
  ·rw[e]at q
   have:=Option.some.inj q;omega
theorem info104:(Tryz.prog.info? 104).map (fun i=>(i.zero,i.size,i.bytes))=some (some (.agg #[.int .i64 0,.bool false,.slice none 0 0]),3,40):=by kernel_rfl
theorem info40_parts:∃i,Tryz.prog.info? 104=some i∧i.zero=some (.agg #[.int .i64 0,.bool false,.slice none 0 0])∧i.size=3∧i.bytes=40:=by
 have h:=info104;cases e:Tryz.prog.info? 104 with
 | none=>rw[e]at h;cases h
 | some i =>
   rw[e]at h;simp at h;exact⟨i,rfl,h.1,h.2.1,h.2.2⟩
theorem pc_one (a:Int)(b:Bool)(x:Option Addr)(m c:Nat):∀u∈[Value.int .i64 a,.bool b,.slice x m c],u.oneCell'=true:=by
 intro u hu;simp only[List.mem_cons,List.not_mem_nil,or_false]at hu
 rcases hu with rfl | rfl | rfl <;> rfl
def noDefer (ops:Array Oper):Bool:=ops.all fun o=>match o.op with | .defer _=>false | _=>true
theorem noDefer_spec {ops:Array Oper}(h:noDefer ops=true){i:Nat}{o:Oper}(ho:ops[i]?=some o):∀c,o.op≠.defer c:=by
 intro c hc;have h1:=Array.all_eq_true_iff_forall_mem.1 h o (Array.mem_of_getElem? ho);rw[hc]at h1;cases h1
theorem op_round {n:Nat}{P:Program}{ops:Array Oper}{Q:Exit→Act→World→Prop}(l:Nat)(hnd:noDefer ops=true){i:Nat}{K:Act→World→Prop}{a:Act}{w:World}(h:wpOpIn Fence.wide n P ops Q i K a w):wpOpIn (Fence.wide.inRound l) n P ops Q i K a w:=by
 unfold wpOpIn at h ⊢;cases ho:ops[i]? with
 | none=>rw[ho]at h;exact h
 | some o =>
   rw[ho]at h;dsimp only at h ⊢;split
   ·rename_i hw
    rw[if_pos hw]at h;unfold Oper.wpIn at h ⊢;refine⟨fun _ _=>trivial,?_⟩;have h2:=h.2;rw[Oper.semAt_plain _ _ _ (noDefer_spec hnd ho)]at h2 ⊢;generalize (execOp a.eval o).run P w=r at *;cases r with
    | ok x w'=>cases x <;> exact h2
    | halt x w'=>cases x <;> exact h2
   ·rename_i hw
    rw[if_neg hw]at h;exact⟨fun _ _=>trivial,h.2⟩
theorem any_round {n:Nat}{P:Program}{ops:Array Oper}{Q:Exit→Act→World→Prop}{md:Region.Mode}(l:Nat)(hnd:noDefer ops=true):∀(fuel:Nat) (listed:Array Bool) (a:Act) (w:World),wpAnyIn Fence.wide n P md ops Q fuel listed a w→wpAnyIn (Fence.wide.inRound l) n P md ops Q fuel listed a w
 | 0,_,_,_,h=>h
 | fuel+1,_,_,_,h=>⟨h.1,fun i hi=>op_round l hnd (wpOpIn_mono (fun a w h=>any_round l hnd fuel _ a w h) (h.2 i hi))⟩
theorem stepIn_append_at {F:Fence}{n:Nat}{P:Program}(w:World){ops:Array Oper}{o:Oper}{a:Act}{K:Act→World→Prop}{Q:Exit→Act→World→Prop}{X:Prop}
 (hg:o.guard=none) (s x:Operand) (t:TypeId) (hop:o.op=Op.call { callee:=Callee.builtin Builtin.append,args:=#[s,x],argTypes:=#[t,t] })
 (base:Nat) (e:TypeId) (i:TypeInfo) (z:Value) (size bytes:Nat) (h1:P.underlying t=some (.slice e)) (h2:P.info? e=some i) (h3:i.zero=some z) (h4:i.size=size) (h5:i.bytes=bytes) (h6:z.cells.size=size) (h7:0<size)
 (v:Value) (k:Nat) (xs:List Value) (hs:a.eval s=v) (hown:w.ownsRow base e size v k xs) (ad:Addr) (m c:Nat) (news:List Value) (hx:a.eval x=.slice (some ad) m c) (hn:news.length=m * size)
 (hc:∀j u,news[j]?=some u→w.cell? (ad.add j)=some u) (h1c:∀u∈news,u.oneCell'=true) (b1:k+m≤maxLen) (b2:(k+m) * bytes≤140737488355328) (b3:base≤w.heap.size)
 (hK:∀v' w',w'.ownsRow base e size v' (k+m) (xs++news)→w.grownBy w' v.ownBlock→(v'.ownBlock=v.ownBlock∨v'.ownBlock=some w.heap.size)→K (a.put o.dst v') w') :
 if Region.wanted o (yielded ops a.tmps)=true then Oper.wpIn F n P o a w K Q else X:=by
 have hw:Region.wanted o (yielded ops a.tmps)=true:=by simp[Region.wanted,hg]
 rw[if_pos hw];obtain⟨v',w',hrun,r1,r2,_,r4⟩:=run_append_own_at (P:=P) (w:=w) base t o.type e i z size bytes h1 h2 h3 h4 h5 h6 h7 v k xs hown ad m c news hn hc h1c b1 b2 b3;unfold Oper.wpIn;refine⟨?_,?_⟩
 ·simp[Oper.about,hop,resolve,Target.leads,Sem.run_pure]
 ·rw[Oper.semAt_plain F _ _ (by rw[hop];intro c hc';cases hc')]
  simp[execOp,hop,resolve,invoke,builtin,hs,hx,hrun,Result.andThen];exact hK v' w' r1 r2 r4
theorem slice_head (g q m len cp:Nat)(h0:0<m)(h:m≤cp):∀X:World,(Instr.slice 32 (.slice (some ⟨g,q,none⟩) len cp) none (some (.int .i64 m)) none).run Tryz.prog X=.ok (.slice (some ⟨g,q,none⟩) m cp) X:=fun X=>by
 have hc0:¬cp=0:=by omega
 have hmI:(m:Int)≤(cp:Int):=by omega
 go_simp
theorem slice_tail (g q m len cp:Nat)(h:m≤len):∀X:World,(Instr.slice 32 (.slice (some ⟨g,q,none⟩) len cp) (some (.int .i64 m)) none none).run Tryz.prog X=.ok (.slice (if cp=m then some (⟨g,q,none⟩:Addr)else some ⟨g,q+m,none⟩) (len - m) (cp - m)) X:=fun X=>by
 have hmI:(m:Int)≤(len:Int):=by omega
 go_simp
set_option maxRecDepth 100000 in
set_option maxHeartbeats 4000000 in
theorem pieces_any (s:ByteArray)(w:World)(hs:s.size≤4096)(n:Nat)(hend:Dec.Ends s n)(hT:Lib.Utf8Tabs 8 9 w)(h0:TabAt w 0 Tabs.kindTab)(h3:TabAt w 1 Tabs.lowTab)(h4:TabAt w 2 Tabs.highTab)(a:Option Addr)(g o cW:Nat)(ha:0<n→a=some ⟨g,o,none⟩)(hcW:n≤cW) :
 Calls Tryz.prog 35 #[.string s,.slice a n cW] w fun e w'=>∃v,e=.returned v∧w'.ownsRow w.heap.size 104 3 v (cn s n) (pcl s n g o cW (cn s n))∧Below w.heap.size w w':=by
 obtain⟨i0,hi,hz0,hz1,hz2⟩:=info40_parts;have H42:=hid (fun w=>fn42_any s w);have HE:=hid hend;have HT0:=hid (fun(A:World) (hb:Below w.heap.size w A)=>h0.below (h0.lt (by decide)) hb);have HT3:=hid (fun(A:World) (hb:Below w.heap.size w A)=>h3.below (h3.lt (by decide)) hb);have HT4:=hid (fun(A:World) (hb:Below w.heap.size w A)=>h4.below (h4.lt (by decide)) hb);have HTU:=hid (fun(A:World) (hb:Below w.heap.size w A)=>tabs_below hT hb);have hcs:cn s n≤1000000:=by
  have h1:=(bix_len s n).1;have h2:=le_pos s n;have h3:=hend.1;unfold cn;omega
 clear hend hT h0 h3 h4;refine(callsIn_wide (n:=3)).1 ?_;refine callsIn_of_wp_marks Tryz.func35 rfl trivial ?_ rfl;simp only[Tryz.ntmps35,List.size_toArray,List.length_cons,List.length_nil,Nat.reduceAdd,Nat.reduceSub,Array.replicate_succ,Array.replicate_zero,List.push_toArray,List.append_toArray,List.nil_append,List.cons_append];gi_wp2_with (refine⟨trivial,?_⟩;gi_at_call 69;refine(callsIn_wide.2 (H42.out _)).mono ?_;rintro e w' ⟨rfl,rfl⟩);obtain⟨W0,hW0⟩:∃W0,((w.alloc (.cells #[.slice a n cW] 32)).alloc (.cells #[.slice none 0 0] 100)).alloc (.cells #[.string s] 9)=W0:=⟨_,rfl⟩;have hsz:W0.heap.size=w.heap.size+3:=by rw[←hW0];simp only[World.size_alloc]
 have hV0:PS w s n g o cW 0 W0:=by
  rw[←hW0];refine⟨(((Below.refl _ w).alloc (Nat.le_refl _) _).alloc (by simp only[World.size_alloc];omega) _).alloc (by simp only[World.size_alloc];omega) _,?_,⟨a,?_,?_⟩,.slice none 0 0,?_,?_,?_⟩
  ·have h:=World.alloc_heap_new ((w.alloc (.cells #[.slice a n cW] 32)).alloc (.cells #[.slice none 0 0] 100)) (.cells #[.string s] 9)
   simp only[World.size_alloc]at h;exact h
  ·have h:=World.alloc_heap_new w (.cells #[.slice a n cW] 32)
   rw[Below.heap_alloc _ _ _ (by simp only[World.size_alloc];omega),Below.heap_alloc _ _ _ (by simp only[World.size_alloc];omega)];rw[bix_zero,Nat.sub_zero,Nat.sub_zero];exact h
  ·rw[bix_zero];exact ha
  ·have h:=World.alloc_heap_new (w.alloc (.cells #[.slice a n cW] 32)) (.cells #[.slice none 0 0] 100)
   rw[Below.heap_alloc _ _ _ (by simp only[World.size_alloc];omega)];simp only[World.size_alloc]at h;exact h
  ·exact World.ownsRow_nil _ _ _ _
  ·intro g hg
   cases hg
 rw[hW0];refine wpIn_range_kp rfl (by omega) (gf:=115) (lb:=#[.pointer (some ⟨w.heap.size+1+1,0,none⟩)]) rfl trivial (enters_of Tryz.func115 (by kernel_rfl) rfl)
  (encs:=fun x:Nat=>#[.int .i64 ((pos s (nix (bix s n) x):Nat):Int),.string (s.extract (pos s (nix (bix s n) x)) (pos s (nix (bix s n) (x+1))))]) (fun _=>rfl)
  (PS w s n g o cW) (Fgn w) (fun i A B h hk=>h.kp (by rw[hsz]at hk;exact hk)) (fun i A B k h hk hf=>Fgn.kp h (by rw[hsz]at hk;exact hk) hf) id (cn s n)
  (fun l V' W q1 q2 q3 q4=>all1_in s n (w.heap.size+1+1) (by omega) HE.out (Fgn w) _ l V' (fun i A h=>⟨cell_of_obj (q1 i A h).t,HT0.out A (q1 i A h).b⟩) (fun i A B k h hb hk=>Fgn.new (q1 i A h) hb hk) q2 (fun i A k _ hf=>hf) q3 W q4)
  (fun x=>{ tmps:=#[.string s,.slice a n cW,undef,.pointer (some ⟨w.heap.size,0,none⟩),.slice none 0 0,.pointer (some ⟨w.heap.size+1,0,none⟩),.int .i64 ((pos s (nix (bix s n) x):Nat):Int),.string (s.extract (pos s (nix (bix s n) x)) (pos s (nix (bix s n) (x+1)))),undef,.string s,.func (.func 115) #[] #[.pointer (some ⟨w.heap.size+1+1,0,none⟩)],.int .i64 ((pos s (nix (bix s n) x):Nat):Int),.string (s.extract (pos s (nix (bix s n) x)) (pos s (nix (bix s n) (x+1)))),undef,undef,undef,undef,undef,undef,undef,undef,undef,undef,undef,undef,undef,undef,undef,undef,undef],defers:=[] })
  hV0 ?assign ?body ?done
 case assign =>
  intro l x W K hK;gi_wp2;exact hK
 case body =>
  intro l i A hV hic hAs;rw[hsz]at hAs ⊢;obtain⟨v,v1,v2,v3⟩:=hV.v;obtain⟨aw,a1,a2⟩:=hV.a;have HV:=hid hV;have HV1:=hid v1;have HV2:=hid v2;have HV3:=hid v3;have HA1:=hid a1;have h1:=ri_lt (s:=s) (n:=n) hic;have h2:=ri_le (s:=s) (n:=n) (i:=i+1) hic;have haw:=a2 (by omega);subst haw;have hp3:=pos_le s (Nat.le_of_lt h1);have hp4:=pos_le s h2;have hp5:=HE.out.1
  have H13:=hid (show Calls Tryz.prog 34 #[.string (s.extract (pos s (nix (bix s n) i)) (pos s (nix (bix s n) (i+1))))] A fun e w'=>e=.returned (.int .i64 (nix (bix s n) (i+1) - nix (bix s n) i:Nat))∧Below A.heap.size A w' by
   have h:=count_any (s.extract (pos s (nix (bix s n) i)) (pos s (nix (bix s n) (i+1)))) A (by rw[cut_size _ _ _ (by omega)];omega)
   rw[cut_count HE.out (Nat.le_of_lt h1) h2]at h
   exact h)
  have H22:=hid (fun(Y:World) (hb:Below A.heap.size A Y)=>show Calls Tryz.prog 70 #[.string (s.extract (pos s (nix (bix s n) i)) (pos s (nix (bix s n) (i+1))))] Y fun e w'=>e=.returned (.int .i64 (kc s n i))∧Below Y.heap.size Y w' by
   have hb':=HV.out.b.trans (hb.mono HV.out.b.size)
   have h:=fn51_any (s.extract (pos s (nix (bix s n) i)) (pos s (nix (bix s n) (i+1)))) Y (HTU.out Y hb') (HT3.out Y hb') (HT4.out Y hb')
   rw[cluster_first HE.out hic]at h
   exact h)
  have HPC:=hid (show pcl s n g o cW (i+1)=pcl s n g o cW i++pc s n g o cW i from rfl);have HPD:=hid (show pc s n g o cW i=[.int .i64 ((pos s (nix (bix s n) i):Nat):Int),.bool (kc s n i == 12),.slice (some ⟨g,o+nix (bix s n) i,none⟩) (nix (bix s n) (i+1) - nix (bix s n) i) (cW - nix (bix s n) i)]from rfl);have hs1:=hV.b.size;dsimp only[id];generalize s.extract (pos s (nix (bix s n) i)) (pos s (nix (bix s n) (i+1)))=sub at *;generalize pos s (nix (bix s n) i)=p at *;generalize kc s n i=kd at *;obtain⟨m,hm⟩:∃m,m=nix (bix s n) (i+1) - nix (bix s n) i:=⟨_,rfl⟩;obtain⟨len,hlen⟩:∃len,len=n - nix (bix s n) i:=⟨_,rfl⟩;obtain⟨cp,hcp⟩:∃cp,cp=cW - nix (bix s n) i:=⟨_,rfl⟩;obtain⟨q,hq⟩:∃q,q=o+nix (bix s n) i:=⟨_,rfl⟩;rw[←hm]at H13 HPD;rw[←hlen,←hcp,←hq]at a1 HA1;rw[←hcp,←hq]at HPD;have hml:m≤len:=by omega
  have hmc:len≤cp:=by omega
  have hm0:0<m:=by omega
  obtain⟨aw',haw'⟩:∃aw',aw'=if cp=m then some (⟨g,q,none⟩:Addr)else some ⟨g,q+m,none⟩:=⟨_,rfl⟩
  have HAW:=hid (show nix (bix s n) (i+1)<n→aw'=some ⟨g,o+nix (bix s n) (i+1),none⟩from fun h=>by
   rw[haw',if_neg (by omega),hq,hm,show o+nix (bix s n) i+(nix (bix s n) (i+1) - nix (bix s n) i)=o+nix (bix s n) (i+1) by omega])
  have HLN:=hid (show n - nix (bix s n) (i+1)=len - m∧cW - nix (bix s n) (i+1)=cp - m by omega);have hsl1:=slice_head g q m len cp hm0 (by omega);have hsl2:=slice_tail g q m len cp hml;rw[←haw']at hsl2;clear hV v1 v2 v3 hV0 hW0 hm hlen hcp hq haw' a1 a2 h1 h2 hp3 hp4 hp5;gi_wp2_with (refine⟨trivial,?_⟩;gi_at_call 34;refine(CallsIn.inRound l (callsIn_wide.2 H13.out)).mono ?_;rintro e A1 ⟨rfl,hb1⟩;have HB1:=hid hb1;clear hb1);have hsA:A.heap.size≤A1.heap.size:=HB1.out.size;have hmx:Tryz.prog.follows .mixedOrders=true:=by kernel_rfl
  have K0:=hid ((HB1.out.block w.heap.size (by omega)).trans HA1.out);have K1:=hid ((HB1.out.block (w.heap.size+1) (by omega)).trans HV1.out);have a0:A1.cell? ⟨w.heap.size,0,none⟩=some (.slice (some ⟨g,q,none⟩) len cp):=cell_of_row A1 w.heap.size 0 _ _ _ K0.out;have b0:A1.cell? ⟨w.heap.size+1,0,none⟩=some v:=cell_of_row A1 (w.heap.size+1) 0 _ _ _ K1.out;have H22b:=hid (H22.out A1.drew (HB1.out.trans ⟨rfl,rfl,rfl,Nat.le_refl _,fun _ _=>rfl⟩));refine wpIn_region_any hmx ?_;refine any_round l (by kernel_rfl) _ _ _ _ ?_
  change wpAnyIn _ _ _ _ _ _ _ _ _ (World.drew _)
  refine wpAnyIn_take (i:=1) (v:=.int .i64 p) rfl rfl (by kernel_rfl) (by kernel_rfl) (by kernel_rfl) (fun _ _ _ h=>h) ⟨Or.inl ⟨by rfl,by intro w;go_simp⟩,fun _=>rfl⟩ ?_;refine wpAnyIn_take (i:=2) (v:=.string sub) rfl rfl (by kernel_rfl) (by kernel_rfl) (by kernel_rfl) (fun _ _ _ h=>h) ⟨Or.inl ⟨by rfl,by intro w;go_simp⟩,fun _=>rfl⟩ ?_;refine wpAnyIn_take (i:=6) (v:=.int .i64 m) rfl rfl (by kernel_rfl) (by kernel_rfl) (by kernel_rfl) (fun _ _ _ h=>h) ⟨Or.inl ⟨by rfl,by intro w;go_simp⟩,fun _=>rfl⟩ ?_;refine wpAnyIn_ready (rs:=[0,3,5]) (by kernel_rfl) (by simp) ?_;refine AllReadyIn.cons rfl (fun K hK=>?_) ?_
  (go_simp;refine hK _ _ ?_;clear hK K)
  refine wpAnyIn_ready (rs:=[3,5]) (by kernel_rfl) (by simp) ?_;refine AllReadyIn.cons rfl (fun K hK=>?_) ?_
  (go_simp;refine⟨trivial,(callsIn_wide.2 H22b.out).mono ?_⟩;rintro e A2 ⟨rfl,hb2⟩;have HB2:=hid hb2;have hsB:A1.heap.size≤A2.heap.size:=hb2.size;have L0:=hid ((hb2.block w.heap.size (by show _<A1.heap.size;omega)).trans K0.out);have L1:=hid ((hb2.block (w.heap.size+1) (by show _<A1.heap.size;omega)).trans K1.out);have c0:A2.cell? ⟨w.heap.size,0,none⟩=some (.slice (some ⟨g,q,none⟩) len cp):=cell_of_row A2 w.heap.size 0 _ _ _ L0.out;have d0:A2.cell? ⟨w.heap.size+1,0,none⟩=some v:=cell_of_row A2 (w.heap.size+1) 0 _ _ _ L1.out;have d1:∀ob,(A2.alloc ob).cell? ⟨w.heap.size+1,0,none⟩=some v:=fun ob=>(((Below.refl A2.heap.size A2).alloc (Nat.le_refl _) ob).cell (p:=⟨w.heap.size+1,0,none⟩) (by show w.heap.size+1<A2.heap.size;omega)).trans (cell_of_row A2 (w.heap.size+1) 0 _ _ _ L1.out);clear hb2;refine hK _ _ ?_;clear hK K)
  refine wpAnyIn_take (i:=4) (v:=.bool (kd == 12)) rfl rfl (by kernel_rfl) (by kernel_rfl) (by kernel_rfl) (fun _ _ _ h=>h) ⟨Or.inl ⟨by rfl,by intro w;go_simp⟩,fun _=>rfl⟩ ?_;refine wpAnyIn_ready (rs:=[5]) (by kernel_rfl) (by simp) ?_;refine AllReadyIn.cons rfl (fun K hK=>?_) ?_
  (go_simp;refine hK _ _ ?_;clear hK K)
  refine wpAnyIn_ready (rs:=[7]) (by kernel_rfl) (by simp) ?_;refine AllReadyIn.cons rfl (fun K hK=>?_) ?_
  (go_simp;refine hK _ _ ?_;clear hK K)
  refine wpAnyIn_take (i:=8) (v:=.agg #[.int .i64 p,.bool (kd == 12),.slice (some ⟨g,q,none⟩) m cp]) rfl rfl (by kernel_rfl) (by kernel_rfl) (by kernel_rfl) (fun _ _ _ h=>h) ⟨Or.inl ⟨by rfl,by intro w;go_simp⟩,fun _=>rfl⟩ ?_;refine wpAnyIn_ready (rs:=[9]) (by kernel_rfl) (by simp) ?_;refine AllReadyIn.cons rfl (fun K hK=>?_) ?_
  (go_simp;refine hK _ _ ?_;clear hK K)
  rotate_left
  exact AllReadyIn.nil;exact AllReadyIn.nil;exact AllReadyIn.nil;refine AllReadyIn.cons rfl (fun K hK=>?_) ?_
  (go_simp;refine hK _ _ ?_;clear hK K)
  refine wpAnyIn_ready (rs:=[3,7]) (by kernel_rfl) (by simp) ?_;refine AllReadyIn.cons rfl (fun K hK=>?_) ?_
  (go_simp;refine⟨trivial,(callsIn_wide.2 H22b.out).mono ?_⟩;rintro e A2 ⟨rfl,hb2⟩;have HB2:=hid hb2;have hsB:A1.heap.size≤A2.heap.size:=hb2.size;have L0:=hid ((hb2.block w.heap.size (by show _<A1.heap.size;omega)).trans K0.out);have L1:=hid ((hb2.block (w.heap.size+1) (by show _<A1.heap.size;omega)).trans K1.out);have c0:A2.cell? ⟨w.heap.size,0,none⟩=some (.slice (some ⟨g,q,none⟩) len cp):=cell_of_row A2 w.heap.size 0 _ _ _ L0.out;have d0:A2.cell? ⟨w.heap.size+1,0,none⟩=some v:=cell_of_row A2 (w.heap.size+1) 0 _ _ _ L1.out;have d1:∀ob,(A2.alloc ob).cell? ⟨w.heap.size+1,0,none⟩=some v:=fun ob=>(((Below.refl A2.heap.size A2).alloc (Nat.le_refl _) ob).cell (p:=⟨w.heap.size+1,0,none⟩) (by show w.heap.size+1<A2.heap.size;omega)).trans (cell_of_row A2 (w.heap.size+1) 0 _ _ _ L1.out);clear hb2;refine hK _ _ ?_;clear hK K)
  refine wpAnyIn_take (i:=4) (v:=.bool (kd == 12)) rfl rfl (by kernel_rfl) (by kernel_rfl) (by kernel_rfl) (fun _ _ _ h=>h) ⟨Or.inl ⟨by rfl,by intro w;go_simp⟩,fun _=>rfl⟩ ?_;refine wpAnyIn_ready (rs:=[7]) (by kernel_rfl) (by simp) ?_;refine AllReadyIn.cons rfl (fun K hK=>?_) ?_
  (go_simp;refine hK _ _ ?_;clear hK K)
  refine wpAnyIn_take (i:=8) (v:=.agg #[.int .i64 p,.bool (kd == 12),.slice (some ⟨g,q,none⟩) m cp]) rfl rfl (by kernel_rfl) (by kernel_rfl) (by kernel_rfl) (fun _ _ _ h=>h) ⟨Or.inl ⟨by rfl,by intro w;go_simp⟩,fun _=>rfl⟩ ?_;refine wpAnyIn_ready (rs:=[9]) (by kernel_rfl) (by simp) ?_;refine AllReadyIn.cons rfl (fun K hK=>?_) ?_
  (go_simp;refine hK _ _ ?_;clear hK K)
  rotate_left
  exact AllReadyIn.nil;exact AllReadyIn.nil;refine AllReadyIn.cons rfl (fun K hK=>?_) ?_
  (go_simp;refine hK _ _ ?_;clear hK K)
  refine wpAnyIn_ready (rs:=[3]) (by kernel_rfl) (by simp) ?_;refine AllReadyIn.cons rfl (fun K hK=>?_) ?_
  (go_simp;refine⟨trivial,(callsIn_wide.2 H22b.out).mono ?_⟩;rintro e A2 ⟨rfl,hb2⟩;have HB2:=hid hb2;have hsB:A1.heap.size≤A2.heap.size:=hb2.size;have L0:=hid ((hb2.block w.heap.size (by show _<A1.heap.size;omega)).trans K0.out);have L1:=hid ((hb2.block (w.heap.size+1) (by show _<A1.heap.size;omega)).trans K1.out);have c0:A2.cell? ⟨w.heap.size,0,none⟩=some (.slice (some ⟨g,q,none⟩) len cp):=cell_of_row A2 w.heap.size 0 _ _ _ L0.out;have d0:A2.cell? ⟨w.heap.size+1,0,none⟩=some v:=cell_of_row A2 (w.heap.size+1) 0 _ _ _ L1.out;have d1:∀ob,(A2.alloc ob).cell? ⟨w.heap.size+1,0,none⟩=some v:=fun ob=>(((Below.refl A2.heap.size A2).alloc (Nat.le_refl _) ob).cell (p:=⟨w.heap.size+1,0,none⟩) (by show w.heap.size+1<A2.heap.size;omega)).trans (cell_of_row A2 (w.heap.size+1) 0 _ _ _ L1.out);clear hb2;refine hK _ _ ?_;clear hK K)
  refine wpAnyIn_take (i:=4) (v:=.bool (kd == 12)) rfl rfl (by kernel_rfl) (by kernel_rfl) (by kernel_rfl) (fun _ _ _ h=>h) ⟨Or.inl ⟨by rfl,by intro w;go_simp⟩,fun _=>rfl⟩ ?_;refine wpAnyIn_take (i:=8) (v:=.agg #[.int .i64 p,.bool (kd == 12),.slice (some ⟨g,q,none⟩) m cp]) rfl rfl (by kernel_rfl) (by kernel_rfl) (by kernel_rfl) (fun _ _ _ h=>h) ⟨Or.inl ⟨by rfl,by intro w;go_simp⟩,fun _=>rfl⟩ ?_;refine wpAnyIn_ready (rs:=[9]) (by kernel_rfl) (by simp) ?_;refine AllReadyIn.cons rfl (fun K hK=>?_) ?_
  (go_simp;refine hK _ _ ?_;clear hK K)
  rotate_left
  exact AllReadyIn.nil;exact AllReadyIn.nil;exact AllReadyIn.nil;exact AllReadyIn.nil;refine AllReadyIn.cons rfl (fun K hK=>?_) ?_
  (go_simp;refine⟨trivial,(callsIn_wide.2 H22b.out).mono ?_⟩;rintro e A2 ⟨rfl,hb2⟩;have HB2:=hid hb2;have hsB:A1.heap.size≤A2.heap.size:=hb2.size;have L0:=hid ((hb2.block w.heap.size (by show _<A1.heap.size;omega)).trans K0.out);have L1:=hid ((hb2.block (w.heap.size+1) (by show _<A1.heap.size;omega)).trans K1.out);have c0:A2.cell? ⟨w.heap.size,0,none⟩=some (.slice (some ⟨g,q,none⟩) len cp):=cell_of_row A2 w.heap.size 0 _ _ _ L0.out;have d0:A2.cell? ⟨w.heap.size+1,0,none⟩=some v:=cell_of_row A2 (w.heap.size+1) 0 _ _ _ L1.out;have d1:∀ob,(A2.alloc ob).cell? ⟨w.heap.size+1,0,none⟩=some v:=fun ob=>(((Below.refl A2.heap.size A2).alloc (Nat.le_refl _) ob).cell (p:=⟨w.heap.size+1,0,none⟩) (by show w.heap.size+1<A2.heap.size;omega)).trans (cell_of_row A2 (w.heap.size+1) 0 _ _ _ L1.out);clear hb2;refine hK _ _ ?_;clear hK K)
  refine wpAnyIn_take (i:=4) (v:=.bool (kd == 12)) rfl rfl (by kernel_rfl) (by kernel_rfl) (by kernel_rfl) (fun _ _ _ h=>h) ⟨Or.inl ⟨by rfl,by intro w;go_simp⟩,fun _=>rfl⟩ ?_;refine wpAnyIn_ready (rs:=[0,5]) (by kernel_rfl) (by simp) ?_;refine AllReadyIn.cons rfl (fun K hK=>?_) ?_
  (go_simp;refine hK _ _ ?_;clear hK K)
  refine wpAnyIn_ready (rs:=[5]) (by kernel_rfl) (by simp) ?_;refine AllReadyIn.cons rfl (fun K hK=>?_) ?_
  (go_simp;refine hK _ _ ?_;clear hK K)
  refine wpAnyIn_ready (rs:=[7]) (by kernel_rfl) (by simp) ?_;refine AllReadyIn.cons rfl (fun K hK=>?_) ?_
  (go_simp;refine hK _ _ ?_;clear hK K)
  refine wpAnyIn_take (i:=8) (v:=.agg #[.int .i64 p,.bool (kd == 12),.slice (some ⟨g,q,none⟩) m cp]) rfl rfl (by kernel_rfl) (by kernel_rfl) (by kernel_rfl) (fun _ _ _ h=>h) ⟨Or.inl ⟨by rfl,by intro w;go_simp⟩,fun _=>rfl⟩ ?_;refine wpAnyIn_ready (rs:=[9]) (by kernel_rfl) (by simp) ?_;refine AllReadyIn.cons rfl (fun K hK=>?_) ?_
  (go_simp;refine hK _ _ ?_;clear hK K)
  rotate_left
  exact AllReadyIn.nil;exact AllReadyIn.nil;exact AllReadyIn.nil;refine AllReadyIn.cons rfl (fun K hK=>?_) ?_
  (go_simp;refine hK _ _ ?_;clear hK K)
  refine wpAnyIn_ready (rs:=[0,7]) (by kernel_rfl) (by simp) ?_;refine AllReadyIn.cons rfl (fun K hK=>?_) ?_
  (go_simp;refine hK _ _ ?_;clear hK K)
  refine wpAnyIn_ready (rs:=[7]) (by kernel_rfl) (by simp) ?_;refine AllReadyIn.cons rfl (fun K hK=>?_) ?_
  (go_simp;refine hK _ _ ?_;clear hK K)
  refine wpAnyIn_take (i:=8) (v:=.agg #[.int .i64 p,.bool (kd == 12),.slice (some ⟨g,q,none⟩) m cp]) rfl rfl (by kernel_rfl) (by kernel_rfl) (by kernel_rfl) (fun _ _ _ h=>h) ⟨Or.inl ⟨by rfl,by intro w;go_simp⟩,fun _=>rfl⟩ ?_;refine wpAnyIn_ready (rs:=[9]) (by kernel_rfl) (by simp) ?_;refine AllReadyIn.cons rfl (fun K hK=>?_) ?_
  (go_simp;refine hK _ _ ?_;clear hK K)
  rotate_left
  exact AllReadyIn.nil;exact AllReadyIn.nil;refine AllReadyIn.cons rfl (fun K hK=>?_) ?_
  (go_simp;refine hK _ _ ?_;clear hK K)
  refine wpAnyIn_take (i:=8) (v:=.agg #[.int .i64 p,.bool (kd == 12),.slice (some ⟨g,q,none⟩) m cp]) rfl rfl (by kernel_rfl) (by kernel_rfl) (by kernel_rfl) (fun _ _ _ h=>h) ⟨Or.inl ⟨by rfl,by intro w;go_simp⟩,fun _=>rfl⟩ ?_;refine wpAnyIn_ready (rs:=[0,9]) (by kernel_rfl) (by simp) ?_;refine AllReadyIn.cons rfl (fun K hK=>?_) ?_
  (go_simp;refine hK _ _ ?_;clear hK K)
  refine wpAnyIn_ready (rs:=[9]) (by kernel_rfl) (by simp) ?_;refine AllReadyIn.cons rfl (fun K hK=>?_) ?_
  (go_simp;refine hK _ _ ?_;clear hK K)
  rotate_left
  exact AllReadyIn.nil;refine AllReadyIn.cons rfl (fun K hK=>?_) ?_
  (go_simp;refine hK _ _ ?_;clear hK K)
  refine wpAnyIn_ready (rs:=[0]) (by kernel_rfl) (by simp) ?_;refine AllReadyIn.cons rfl (fun K hK=>?_) ?_
  (go_simp;refine hK _ _ ?_;clear hK K)
  rotate_left
  exact AllReadyIn.nil;exact AllReadyIn.nil;exact AllReadyIn.nil;exact AllReadyIn.nil;refine AllReadyIn.cons rfl (fun K hK=>?_) ?_
  (go_simp;refine hK _ _ ?_;clear hK K)
  refine wpAnyIn_ready (rs:=[0,3,7]) (by kernel_rfl) (by simp) ?_;refine AllReadyIn.cons rfl (fun K hK=>?_) ?_
  (go_simp;refine hK _ _ ?_;clear hK K)
  refine wpAnyIn_ready (rs:=[3,7]) (by kernel_rfl) (by simp) ?_;refine AllReadyIn.cons rfl (fun K hK=>?_) ?_
  (go_simp;refine⟨trivial,(callsIn_wide.2 H22b.out).mono ?_⟩;rintro e A2 ⟨rfl,hb2⟩;have HB2:=hid hb2;have hsB:A1.heap.size≤A2.heap.size:=hb2.size;have L0:=hid ((hb2.block w.heap.size (by show _<A1.heap.size;omega)).trans K0.out);have L1:=hid ((hb2.block (w.heap.size+1) (by show _<A1.heap.size;omega)).trans K1.out);have c0:A2.cell? ⟨w.heap.size,0,none⟩=some (.slice (some ⟨g,q,none⟩) len cp):=cell_of_row A2 w.heap.size 0 _ _ _ L0.out;have d0:A2.cell? ⟨w.heap.size+1,0,none⟩=some v:=cell_of_row A2 (w.heap.size+1) 0 _ _ _ L1.out;have d1:∀ob,(A2.alloc ob).cell? ⟨w.heap.size+1,0,none⟩=some v:=fun ob=>(((Below.refl A2.heap.size A2).alloc (Nat.le_refl _) ob).cell (p:=⟨w.heap.size+1,0,none⟩) (by show w.heap.size+1<A2.heap.size;omega)).trans (cell_of_row A2 (w.heap.size+1) 0 _ _ _ L1.out);clear hb2;refine hK _ _ ?_;clear hK K)
  refine wpAnyIn_take (i:=4) (v:=.bool (kd == 12)) rfl rfl (by kernel_rfl) (by kernel_rfl) (by kernel_rfl) (fun _ _ _ h=>h) ⟨Or.inl ⟨by rfl,by intro w;go_simp⟩,fun _=>rfl⟩ ?_;refine wpAnyIn_ready (rs:=[7]) (by kernel_rfl) (by simp) ?_;refine AllReadyIn.cons rfl (fun K hK=>?_) ?_
  (go_simp;refine hK _ _ ?_;clear hK K)
  refine wpAnyIn_take (i:=8) (v:=.agg #[.int .i64 p,.bool (kd == 12),.slice (some ⟨g,q,none⟩) m cp]) rfl rfl (by kernel_rfl) (by kernel_rfl) (by kernel_rfl) (fun _ _ _ h=>h) ⟨Or.inl ⟨by rfl,by intro w;go_simp⟩,fun _=>rfl⟩ ?_;refine wpAnyIn_ready (rs:=[9]) (by kernel_rfl) (by simp) ?_;refine AllReadyIn.cons rfl (fun K hK=>?_) ?_
  (go_simp;refine hK _ _ ?_;clear hK K)
  rotate_left
  exact AllReadyIn.nil;exact AllReadyIn.nil;refine AllReadyIn.cons rfl (fun K hK=>?_) ?_
  (go_simp;refine hK _ _ ?_;clear hK K)
  refine wpAnyIn_ready (rs:=[3]) (by kernel_rfl) (by simp) ?_;refine AllReadyIn.cons rfl (fun K hK=>?_) ?_
  (go_simp;refine⟨trivial,(callsIn_wide.2 H22b.out).mono ?_⟩;rintro e A2 ⟨rfl,hb2⟩;have HB2:=hid hb2;have hsB:A1.heap.size≤A2.heap.size:=hb2.size;have L0:=hid ((hb2.block w.heap.size (by show _<A1.heap.size;omega)).trans K0.out);have L1:=hid ((hb2.block (w.heap.size+1) (by show _<A1.heap.size;omega)).trans K1.out);have c0:A2.cell? ⟨w.heap.size,0,none⟩=some (.slice (some ⟨g,q,none⟩) len cp):=cell_of_row A2 w.heap.size 0 _ _ _ L0.out;have d0:A2.cell? ⟨w.heap.size+1,0,none⟩=some v:=cell_of_row A2 (w.heap.size+1) 0 _ _ _ L1.out;have d1:∀ob,(A2.alloc ob).cell? ⟨w.heap.size+1,0,none⟩=some v:=fun ob=>(((Below.refl A2.heap.size A2).alloc (Nat.le_refl _) ob).cell (p:=⟨w.heap.size+1,0,none⟩) (by show w.heap.size+1<A2.heap.size;omega)).trans (cell_of_row A2 (w.heap.size+1) 0 _ _ _ L1.out);clear hb2;refine hK _ _ ?_;clear hK K)
  refine wpAnyIn_take (i:=4) (v:=.bool (kd == 12)) rfl rfl (by kernel_rfl) (by kernel_rfl) (by kernel_rfl) (fun _ _ _ h=>h) ⟨Or.inl ⟨by rfl,by intro w;go_simp⟩,fun _=>rfl⟩ ?_;refine wpAnyIn_take (i:=8) (v:=.agg #[.int .i64 p,.bool (kd == 12),.slice (some ⟨g,q,none⟩) m cp]) rfl rfl (by kernel_rfl) (by kernel_rfl) (by kernel_rfl) (fun _ _ _ h=>h) ⟨Or.inl ⟨by rfl,by intro w;go_simp⟩,fun _=>rfl⟩ ?_;refine wpAnyIn_ready (rs:=[9]) (by kernel_rfl) (by simp) ?_;refine AllReadyIn.cons rfl (fun K hK=>?_) ?_
  (go_simp;refine hK _ _ ?_;clear hK K)
  rotate_left
  exact AllReadyIn.nil;exact AllReadyIn.nil;exact AllReadyIn.nil;refine AllReadyIn.cons rfl (fun K hK=>?_) ?_
  (go_simp;refine⟨trivial,(callsIn_wide.2 H22b.out).mono ?_⟩;rintro e A2 ⟨rfl,hb2⟩;have HB2:=hid hb2;have hsB:A1.heap.size≤A2.heap.size:=hb2.size;have L0:=hid ((hb2.block w.heap.size (by show _<A1.heap.size;omega)).trans K0.out);have L1:=hid ((hb2.block (w.heap.size+1) (by show _<A1.heap.size;omega)).trans K1.out);have c0:A2.cell? ⟨w.heap.size,0,none⟩=some (.slice (some ⟨g,q,none⟩) len cp):=cell_of_row A2 w.heap.size 0 _ _ _ L0.out;have d0:A2.cell? ⟨w.heap.size+1,0,none⟩=some v:=cell_of_row A2 (w.heap.size+1) 0 _ _ _ L1.out;have d1:∀ob,(A2.alloc ob).cell? ⟨w.heap.size+1,0,none⟩=some v:=fun ob=>(((Below.refl A2.heap.size A2).alloc (Nat.le_refl _) ob).cell (p:=⟨w.heap.size+1,0,none⟩) (by show w.heap.size+1<A2.heap.size;omega)).trans (cell_of_row A2 (w.heap.size+1) 0 _ _ _ L1.out);clear hb2;refine hK _ _ ?_;clear hK K)
  refine wpAnyIn_take (i:=4) (v:=.bool (kd == 12)) rfl rfl (by kernel_rfl) (by kernel_rfl) (by kernel_rfl) (fun _ _ _ h=>h) ⟨Or.inl ⟨by rfl,by intro w;go_simp⟩,fun _=>rfl⟩ ?_;refine wpAnyIn_ready (rs:=[0,7]) (by kernel_rfl) (by simp) ?_;refine AllReadyIn.cons rfl (fun K hK=>?_) ?_
  (go_simp;refine hK _ _ ?_;clear hK K)
  refine wpAnyIn_ready (rs:=[7]) (by kernel_rfl) (by simp) ?_;refine AllReadyIn.cons rfl (fun K hK=>?_) ?_
  (go_simp;refine hK _ _ ?_;clear hK K)
  refine wpAnyIn_take (i:=8) (v:=.agg #[.int .i64 p,.bool (kd == 12),.slice (some ⟨g,q,none⟩) m cp]) rfl rfl (by kernel_rfl) (by kernel_rfl) (by kernel_rfl) (fun _ _ _ h=>h) ⟨Or.inl ⟨by rfl,by intro w;go_simp⟩,fun _=>rfl⟩ ?_;refine wpAnyIn_ready (rs:=[9]) (by kernel_rfl) (by simp) ?_;refine AllReadyIn.cons rfl (fun K hK=>?_) ?_
  (go_simp;refine hK _ _ ?_;clear hK K)
  rotate_left
  exact AllReadyIn.nil;exact AllReadyIn.nil;refine AllReadyIn.cons rfl (fun K hK=>?_) ?_
  (go_simp;refine hK _ _ ?_;clear hK K)
  refine wpAnyIn_take (i:=8) (v:=.agg #[.int .i64 p,.bool (kd == 12),.slice (some ⟨g,q,none⟩) m cp]) rfl rfl (by kernel_rfl) (by kernel_rfl) (by kernel_rfl) (fun _ _ _ h=>h) ⟨Or.inl ⟨by rfl,by intro w;go_simp⟩,fun _=>rfl⟩ ?_;refine wpAnyIn_ready (rs:=[0,9]) (by kernel_rfl) (by simp) ?_;refine AllReadyIn.cons rfl (fun K hK=>?_) ?_
  (go_simp;refine hK _ _ ?_;clear hK K)
  refine wpAnyIn_ready (rs:=[9]) (by kernel_rfl) (by simp) ?_;refine AllReadyIn.cons rfl (fun K hK=>?_) ?_
  (go_simp;refine hK _ _ ?_;clear hK K)
  rotate_left
  exact AllReadyIn.nil;refine AllReadyIn.cons rfl (fun K hK=>?_) ?_
  (go_simp;refine hK _ _ ?_;clear hK K)
  refine wpAnyIn_ready (rs:=[0]) (by kernel_rfl) (by simp) ?_;refine AllReadyIn.cons rfl (fun K hK=>?_) ?_
  (go_simp;refine hK _ _ ?_;clear hK K)
  rotate_left
  exact AllReadyIn.nil;exact AllReadyIn.nil;exact AllReadyIn.nil;refine AllReadyIn.cons rfl (fun K hK=>?_) ?_
  (go_simp;refine hK _ _ ?_;clear hK K)
  refine wpAnyIn_ready (rs:=[0,3]) (by kernel_rfl) (by simp) ?_;refine AllReadyIn.cons rfl (fun K hK=>?_) ?_
  (go_simp;refine hK _ _ ?_;clear hK K)
  refine wpAnyIn_ready (rs:=[3]) (by kernel_rfl) (by simp) ?_;refine AllReadyIn.cons rfl (fun K hK=>?_) ?_
  (go_simp;refine⟨trivial,(callsIn_wide.2 H22b.out).mono ?_⟩;rintro e A2 ⟨rfl,hb2⟩;have HB2:=hid hb2;have hsB:A1.heap.size≤A2.heap.size:=hb2.size;have L0:=hid ((hb2.block w.heap.size (by show _<A1.heap.size;omega)).trans K0.out);have L1:=hid ((hb2.block (w.heap.size+1) (by show _<A1.heap.size;omega)).trans K1.out);have c0:A2.cell? ⟨w.heap.size,0,none⟩=some (.slice (some ⟨g,q,none⟩) len cp):=cell_of_row A2 w.heap.size 0 _ _ _ L0.out;have d0:A2.cell? ⟨w.heap.size+1,0,none⟩=some v:=cell_of_row A2 (w.heap.size+1) 0 _ _ _ L1.out;have d1:∀ob,(A2.alloc ob).cell? ⟨w.heap.size+1,0,none⟩=some v:=fun ob=>(((Below.refl A2.heap.size A2).alloc (Nat.le_refl _) ob).cell (p:=⟨w.heap.size+1,0,none⟩) (by show w.heap.size+1<A2.heap.size;omega)).trans (cell_of_row A2 (w.heap.size+1) 0 _ _ _ L1.out);clear hb2;refine hK _ _ ?_;clear hK K)
  refine wpAnyIn_take (i:=4) (v:=.bool (kd == 12)) rfl rfl (by kernel_rfl) (by kernel_rfl) (by kernel_rfl) (fun _ _ _ h=>h) ⟨Or.inl ⟨by rfl,by intro w;go_simp⟩,fun _=>rfl⟩ ?_;refine wpAnyIn_take (i:=8) (v:=.agg #[.int .i64 p,.bool (kd == 12),.slice (some ⟨g,q,none⟩) m cp]) rfl rfl (by kernel_rfl) (by kernel_rfl) (by kernel_rfl) (fun _ _ _ h=>h) ⟨Or.inl ⟨by rfl,by intro w;go_simp⟩,fun _=>rfl⟩ ?_;refine wpAnyIn_ready (rs:=[9]) (by kernel_rfl) (by simp) ?_;refine AllReadyIn.cons rfl (fun K hK=>?_) ?_
  (go_simp;refine hK _ _ ?_;clear hK K)
  rotate_left
  exact AllReadyIn.nil;exact AllReadyIn.nil;refine AllReadyIn.cons rfl (fun K hK=>?_) ?_
  (go_simp;refine⟨trivial,(callsIn_wide.2 H22b.out).mono ?_⟩;rintro e A2 ⟨rfl,hb2⟩;have HB2:=hid hb2;have hsB:A1.heap.size≤A2.heap.size:=hb2.size;have L0:=hid ((hb2.block w.heap.size (by show _<A1.heap.size;omega)).trans K0.out);have L1:=hid ((hb2.block (w.heap.size+1) (by show _<A1.heap.size;omega)).trans K1.out);have c0:A2.cell? ⟨w.heap.size,0,none⟩=some (.slice (some ⟨g,q,none⟩) len cp):=cell_of_row A2 w.heap.size 0 _ _ _ L0.out;have d0:A2.cell? ⟨w.heap.size+1,0,none⟩=some v:=cell_of_row A2 (w.heap.size+1) 0 _ _ _ L1.out;have d1:∀ob,(A2.alloc ob).cell? ⟨w.heap.size+1,0,none⟩=some v:=fun ob=>(((Below.refl A2.heap.size A2).alloc (Nat.le_refl _) ob).cell (p:=⟨w.heap.size+1,0,none⟩) (by show w.heap.size+1<A2.heap.size;omega)).trans (cell_of_row A2 (w.heap.size+1) 0 _ _ _ L1.out);clear hb2;refine hK _ _ ?_;clear hK K)
  refine wpAnyIn_take (i:=4) (v:=.bool (kd == 12)) rfl rfl (by kernel_rfl) (by kernel_rfl) (by kernel_rfl) (fun _ _ _ h=>h) ⟨Or.inl ⟨by rfl,by intro w;go_simp⟩,fun _=>rfl⟩ ?_;refine wpAnyIn_take (i:=8) (v:=.agg #[.int .i64 p,.bool (kd == 12),.slice (some ⟨g,q,none⟩) m cp]) rfl rfl (by kernel_rfl) (by kernel_rfl) (by kernel_rfl) (fun _ _ _ h=>h) ⟨Or.inl ⟨by rfl,by intro w;go_simp⟩,fun _=>rfl⟩ ?_;refine wpAnyIn_ready (rs:=[0,9]) (by kernel_rfl) (by simp) ?_;refine AllReadyIn.cons rfl (fun K hK=>?_) ?_
  (go_simp;refine hK _ _ ?_;clear hK K)
  refine wpAnyIn_ready (rs:=[9]) (by kernel_rfl) (by simp) ?_;refine AllReadyIn.cons rfl (fun K hK=>?_) ?_
  (go_simp;refine hK _ _ ?_;clear hK K)
  rotate_left
  exact AllReadyIn.nil;refine AllReadyIn.cons rfl (fun K hK=>?_) ?_
  (go_simp;refine hK _ _ ?_;clear hK K)
  refine wpAnyIn_ready (rs:=[0]) (by kernel_rfl) (by simp) ?_;refine AllReadyIn.cons rfl (fun K hK=>?_) ?_
  (go_simp;refine hK _ _ ?_;clear hK K)
  rotate_left
  exact AllReadyIn.nil;exact AllReadyIn.nil;exact AllReadyIn.nil;exact AllReadyIn.nil;exact AllReadyIn.nil
  all_goals (
   refine wpAnyIn_ready (rs:=[10]) (by kernel_rfl) (by simp) ?_
   refine AllReadyIn.cons rfl (fun K hK=>?_) AllReadyIn.nil
   have HBA:=hid (HB1.out.trans (show Below A.heap.size A1 A2 from⟨HB2.out.os,HB2.out.tape,HB2.out.output,HB2.out.size,fun k hk=>HB2.out.block k (by show k<A1.heap.size;omega)⟩))
   refine stepIn_append_at _ rfl (.tmp 15) (.tmp 24) 100 rfl w.heap.size 104 i0 _ 3 40 Tryz.underlying100 hi hz0 hz1 hz2 rfl (by decide) v i (pcl s n g o cW i) rfl ((owns_below HV2.out HBA.out).alloc _) ⟨A2.heap.size,0,none⟩ 1 1 [.int .i64 p,.bool (kd == 12),.slice (some ⟨g,q,none⟩) m cp] rfl rfl (new3_cells _ _ _ _ _) (pc_one _ _ _ _ _) (by unfold maxLen;omega) (by omega) (by rw[World.size_alloc];omega) ?_
   intro v' A3 own3 hgr hor
   have NE1:=own_ne HV2.out HV1.out (fun c f hc=>by cases hc)
   have NE0:=own_ne HV2.out HA1.out (fun c f hc=>by cases hc)
   have M1:=hid ((hgr.block (w.heap.size+1) (by rw[World.size_alloc];omega) NE1).trans ((Below.heap_alloc _ _ _ (by omega)).trans L1.out))
   have M0:=hid ((hgr.block w.heap.size (by rw[World.size_alloc];omega) NE0).trans ((Below.heap_alloc _ _ _ (by omega)).trans L0.out))
   have e1:A3.cell? ⟨w.heap.size+1,0,none⟩=some v:=cell_of_row A3 (w.heap.size+1) 0 _ _ _ M1.out
   have g1:A3.frozen? ⟨w.heap.size+1,0,none⟩=false:=frozen_of_row A3 (w.heap.size+1) 0 _ _ M1.out
   have e0:A3.cell? ⟨w.heap.size,0,none⟩=some (.slice (some ⟨g,q,none⟩) len cp):=cell_of_row A3 w.heap.size 0 _ _ _ M0.out
   have g0:A3.frozen? ⟨w.heap.size,0,none⟩=false:=frozen_of_row A3 w.heap.size 0 _ _ M0.out
   have HO3:=hid own3
   have HG3:=hid hgr
   have HOR:=hid hor
   obtain⟨g2,c2,hv2⟩:=owns_shape_pos (by omega) own3
   subst hv2
   clear own3 hgr hor NE1 NE0 a0 b0 c0 d0 d1
   refine hK _ _ ?_
   clear hK K
   refine wpAnyIn_ready (rs:=[11]) (by kernel_rfl) (by simp) ?_
   refine AllReadyIn.cons rfl (fun K hK=>?_) AllReadyIn.nil
   go_simp
   refine hK _ _ ?_
   clear hK K
   refine wpAnyIn_done (by kernel_rfl) ?_ _
   gi_wp2
   have h:=ps_add (aw:=aw') { tmps:=#[],defers:=[] } HV.out HBA.out HV1.out HV2.out HV3.out HG3.out (by rw[HPC.out,HPD.out];exact HO3.out) HOR.out hAs HAW.out
   rw[HLN.out.1,HLN.out.2]at h
   exact h)
 case done =>
  intro D A hV hD hK;rw[hsz]at hD;obtain⟨v,v1,v2,v3⟩:=hV.v;have HV:=hid hV;have HV2:=hid v2;have HV3:=hid v3;have b0:A.cell? ⟨w.heap.size+1,0,none⟩=some v:=cell_of_row A (w.heap.size+1) 0 _ _ _ v1;clear hV v1 v2 v3 hV0 hW0;gi_wp2;subst hD;refine⟨by simp,.inl ⟨_,_,rfl,run_takeDeferred hK,?_⟩⟩;have hk:=HV.out.kp (kp_put (A:=A) (.inl rfl) (.deferred none));refine⟨_,results_tmp rfl _ _ _,_,rfl,?_,hk.b⟩;exact own_blk HV2.out (fun g hg=>World.putObj_heap_other (HV3.out g hg).1)
end Go.Proofs.YtnakejhohdbfdacGreatDoor.Cls.Wr

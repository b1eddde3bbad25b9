import Derived.Test.YtnakejhohdbfdacGreatDoorKMd
import Derived.Test.YtnakejhohdbfdacGreatDoorKMa
import Derived.Test.YtnakejhohdbfdacGreatDoorKMh
import Derived.Deep.RegionLaw
namespace Go.Proofs.YtnakejhohdbfdacGreatDoor
open Go.RowKit Lev
theorem owns_cap {w:World}{B g n cap size:Nat}{e:TypeId}{xs:List Value}(h:w.ownsRow B e size (.slice (some ⟨g,0,none⟩) n cap) n xs):n≤cap:=by
 rcases h.2 with⟨h0,_⟩ | ⟨g',cap',cur,hv,hg,hh,hn,_⟩
 ·cases h0
 ·cases hv;exact hn
def ecells:List Ent→List Value
 | []=>[]
 | x :: l=>.int .i64 x.lv :: .int .i64 x.ov :: .bool x.iso :: ecells l
theorem ecells_app:∀l m,ecells l++ecells m=ecells (l++m)
 | [],m=>rfl
 | p :: l,m=>by simp[ecells,ecells_app l m]
theorem ecells_take:∀l a,(ecells l).take (a * 3)=ecells (l.take a)
 | [],a=>by simp[ecells]
 | p :: l,0=>rfl
 | p :: l,a+1=>by rw[show(a+1) * 3=a * 3+1+1+1 by omega];simp[ecells,ecells_take l a]
theorem ecells_at:∀(l:List Ent) (i:Nat),i<l.length→(ecells l)[i * 3]?=some (.int .i64 ((l[i]?).getD default).lv)∧(ecells l)[i * 3+1]?=some (.int .i64 ((l[i]?).getD default).ov)∧(ecells l)[i * 3+2]?=some (.bool ((l[i]?).getD default).iso)
 | [],_,h=>absurd h (by simp)
 | p :: l,0,_=>by simp[ecells]
 | p :: l,i+1,h=>by
   have:=ecells_at l i (by simp at h;omega);rw[show(i+1) * 3=i * 3+1+1+1 by omega];simpa[ecells] using this
theorem ent_one (a b:Int)(c:Bool):∀u∈[Value.int .i64 a,.int .i64 b,.bool c],u.oneCell'=true:=by
 intro u hu;simp at hu
 rcases hu with rfl | rfl | rfl <;> rfl
def slLen:Value→Nat
 | .slice _ n _=>n
 | _=>0
def entAt (w:World)(b:Nat)(x:Ent):Prop:=w.cell? ⟨b,0,none⟩=some (.int .i64 x.lv)∧w.cell? ⟨b,1,none⟩=some (.int .i64 x.ov)∧w.cell? ⟨b,2,none⟩=some (.bool x.iso)
theorem entAt.fr {S:List Nat}{w w':World}{b:Nat}{x:Ent}(h:entAt w b x)(hf:Fr S w w')(hb:b ∉ S):entAt w' b x:=⟨hf.cell h.1 hb,hf.cell h.2.1 hb,hf.cell h.2.2 hb⟩
theorem info187:(Tryz.prog.info? 284).map (fun i=>(i.zero,i.size,i.bytes))=some (some (.agg #[.int .i64 0,.int .i64 0,.bool false]),3,24):=by kernel_rfl
theorem step_append_own {P:Program}{ops:Array Oper}{o:Oper}{a:Act}{w:World}{K:Act→World→Prop}{Q:Exit→Act→World→Prop}{X:Prop}
 (hg:o.guard=none) (s x:Operand) (t:TypeId) (hop:o.op=Op.call { callee:=Callee.builtin Builtin.append,args:=#[s,x],argTypes:=#[t,t] })
 (base:Nat) (e:TypeId) (i:TypeInfo) (z:Value) (size bytes:Nat) (h1:P.underlying t=some (.slice e)) (h2:P.info? e=some i) (h3:i.zero=some z) (h4:i.size=size) (h5:i.bytes=bytes) (h6:z.cells.size=size) (h7:0<size)
 (v:Value) (n:Nat) (xs:List Value) (hs:a.eval s=v) (hown:w.ownsRow base e size v n xs)
 (ad:Addr) (m c:Nat) (news:List Value) (hx:a.eval x=.slice (some ad) m c) (hn:news.length=m * size) (hc:∀j u,news[j]?=some u→w.cell? (ad.add j)=some u) (h1c:∀u∈news,u.oneCell'=true)
 (b1:n+m≤maxLen) (b2:(n+m) * bytes≤140737488355328) (b3:base≤w.heap.size)
 (hK:∀v' w',w'.ownsRow base e size v' (n+m) (xs++news)→w.grownBy w' v.ownBlock→K (a.put o.dst v') w') :
 if Region.wanted o (yielded ops a.tmps)=true then Oper.wp P o a w K Q else X:=by
 have hw:Region.wanted o (yielded ops a.tmps)=true:=by simp[Region.wanted,hg]
 rw[if_pos hw];exact wp_append_own w s x t hop base e i z size bytes h1 h2 h3 h4 h5 h6 h7 v n xs hs hown ad m c news hx hn hc h1c b1 b2 b3 (fun v' w' k2 k3 _=>hK v' w' k2 k3)
structure ES (w:World)(B E g cap:Nat)(st:List Ent)(mi me op:Nat):Prop where
 o:w.heap[E]?=some (.cells #[.slice (some ⟨g,0,none⟩) st.length cap,.int .i64 mi,.int .i64 me,.int .i64 op] 287 (0,0))
 r:w.ownsRow B 284 3 (.slice (some ⟨g,0,none⟩) st.length cap) st.length (ecells st)
 le:B≤E
theorem ES.cell {w:World}{B E g cap:Nat}{st:List Ent}{mi me op:Nat}(h:ES w B E g cap st mi me op){i:Nat}{v:Value}(hv:(#[.slice (some ⟨g,0,none⟩) st.length cap,.int .i64 mi,.int .i64 me,.int .i64 op]:Array Value)[i]?=some v):w.cell? ⟨E,i,none⟩=some v:=by
 rw[cell_of_row w E i _ 287 (0,0) h.o];exact hv
theorem ES.c0 {w:World}{B E g cap:Nat}{st:List Ent}{mi me op:Nat}(h:ES w B E g cap st mi me op):w.cell? ⟨E,0,none⟩=some (.slice (some ⟨g,0,none⟩) st.length cap):=h.cell rfl
theorem ES.c1 {w:World}{B E g cap:Nat}{st:List Ent}{mi me op:Nat}(h:ES w B E g cap st mi me op):w.cell? ⟨E,1,none⟩=some (.int .i64 mi):=h.cell rfl
theorem ES.c2 {w:World}{B E g cap:Nat}{st:List Ent}{mi me op:Nat}(h:ES w B E g cap st mi me op):w.cell? ⟨E,2,none⟩=some (.int .i64 me):=h.cell rfl
theorem ES.c3 {w:World}{B E g cap:Nat}{st:List Ent}{mi me op:Nat}(h:ES w B E g cap st mi me op):w.cell? ⟨E,3,none⟩=some (.int .i64 op):=h.cell rfl
theorem ES.froz {w:World}{B E g cap:Nat}{st:List Ent}{mi me op:Nat}(h:ES w B E g cap st mi me op)(i:Nat):w.frozen? ⟨E,i,none⟩=false:=frozen_of_row w E i _ 287 h.o
theorem ES.fr0 {w w':World}{B E g cap:Nat}{st:List Ent}{mi me op:Nat}(h:ES w B E g cap st mi me op)(hf:Fr [] w w'):ES w' B E g cap st mi me op :=
 ⟨(hf.block E (Array.getElem?_eq_some_iff.1 h.o).1 List.not_mem_nil).trans h.o,owns_fr0 h.r hf,h.le⟩
theorem ES.lt {w:World}{B E g cap:Nat}{st:List Ent}{mi me op:Nat}(h:ES w B E g cap st mi me op):E<w.heap.size:=(Array.getElem?_eq_some_iff.1 h.o).1
theorem ES.ne {w:World}{B E g cap:Nat}{st:List Ent}{mi me op:Nat}(h:ES w B E g cap st mi me op):E≠g:=fun e=>by
 have h1:=h.o
 rcases h.r.2 with⟨h0,_⟩ | ⟨g',c',cur,hv,_,hg,_⟩
 ·cases h0
 ·cases hv
  rw[e,hg]at h1;cases h1
theorem ES.take {w:World}{B E g cap:Nat}{st:List Ent}{mi me op m:Nat}(h:ES w B E g cap st mi me op)(hm:m≤st.length):ES (w.setCell ⟨E,0,none⟩ (.slice (some ⟨g,0,none⟩) m cap)) B E g cap (st.take m) mi me op:=by
 have hl:(st.take m).length=m:=by rw[List.length_take];omega
 refine⟨?_,?_,h.le⟩
 ·rw[heap_setCell_same w E 0 _ 287 _ h.o,hl];rfl
 ·have:=ownsRow_take h.r hm
  rw[ecells_take]at this;rw[hl];exact owns_fr this (fr_set1 w E 0 _) (fun x hx hm=>by cases hx;exact h.ne (List.mem_singleton.1 hm).symm)
theorem ES.num {w:World}{B E g cap:Nat}{st:List Ent}{mi me op:Nat}(h:ES w B E g cap st mi me op)(i:Nat)(x:Nat)(mi' me' op':Nat)(hs:(#[.slice (some ⟨g,0,none⟩) st.length cap,.int .i64 mi,.int .i64 me,.int .i64 op]:Array Value).setIfInBounds i (.int .i64 x)=#[.slice (some ⟨g,0,none⟩) st.length cap,.int .i64 mi',.int .i64 me',.int .i64 op']):ES (w.setCell ⟨E,i,none⟩ (.int .i64 x)) B E g cap st mi' me' op':=by
 refine⟨?_,owns_fr h.r (fr_set1 w E i _) (fun x hx hm=>by cases hx;exact h.ne (List.mem_singleton.1 hm).symm),h.le⟩;rw[heap_setCell_same w E i _ 287 _ h.o,hs]
theorem below_set {w w':World}{B E i:Nat}{v:Value}(h:Below B w w')(hE:B≤E):Below B w (w'.setCell ⟨E,i,none⟩ v) :=
 ⟨h.os,h.tape,h.output,Nat.le_trans h.size (by simp),fun k hk=>by rw[heap_setCell_other _ _ _ _ (by dsimp only;omega)];exact h.block k hk⟩
theorem below_of_fr {w w':World}{B:Nat}(h:Fr [] w w')(hB:B≤w.heap.size):Below B w w':=h.below hB (fun _ hk=>absurd hk List.not_mem_nil)
set_option linter.unusedSimpArgs false in
set_option maxHeartbeats 2000000 in
theorem fn87_any (w:World)(B E g cap:Nat)(st:List Ent)(mi me op:Nat)(h:ES w B E g cap st mi me op)(h0:0<st.length)(h1:st.length≤1000002) :
 Calls Tryz.prog 207 #[.pointer (some ⟨E,0,none⟩)] w fun e w'=>e=.returned (.agg #[.int .i64 (top st).lv,.int .i64 (top st).ov,.bool (top st).iso])∧Fr [] w w':=by
 have c0:=h.c0;obtain⟨n,hn⟩:∃n,n=st.length:=⟨_,rfl⟩;obtain⟨m,hm⟩:∃m,n=m+1:=⟨n - 1,by omega⟩;have hr:=h.r;rw[←hn]at c0 hr;have htop:w.cell? ⟨g,m * 3,none⟩=some (.int .i64 (top st).lv)∧w.cell? ⟨g,m * 3+1,none⟩=some (.int .i64 (top st).ov)∧w.cell? ⟨g,m * 3+2,none⟩=some (.bool (top st).iso):=by
  obtain⟨a1,a2,a3⟩:=ecells_at st m (by omega);have ht:(st[m]?).getD default=top st:=by rw[top,←hn,hm];rfl
  rw[ht]at a1 a2 a3;exact⟨by rw[hr.cellAt _ (by omega),a1],by rw[hr.cellAt _ (by omega),a2],by rw[hr.cellAt _ (by omega),a3]⟩
 obtain⟨t0,t1,t2⟩:=htop;have hE:=h.lt;have hg:=(owns_at hr).2;have hnm:(n:Int) - 1=(m:Int):=by omega
 have hmn:(m:Int)<(n:Int):=by omega
 have hnb:n≤1000002:=by omega
 generalize top st=T at *;obtain⟨lv,ov,iso⟩:=T;dsimp only at *;clear h hr hn hm;go_enter Tryz.func207,Tryz.ntmps207;go_wp2;go_region;go_wp2
 (try simp only[Exit.inBlock,Exit.then])
 refine bodyPost_ret (results_cell_row (t:=284) (fr:=(0,0)) rfl _ _ w.heap.size _ _ rfl (heap_alloc_new _ _) Tryz.underlying284 rfl (by kernel_rfl)) rfl ?_;exact⟨rfl,((Fr.refl [] w).alloc _).drew⟩
set_option linter.unusedSimpArgs false in
set_option maxHeartbeats 2000000 in
theorem fn88_any (w:World)(B E g cap:Nat)(st:List Ent)(mi me op m:Nat)(h:ES w B E g cap st mi me op)(hm:st.length=m+1)(h1:st.length≤1000002) :
 Calls Tryz.prog 208 #[.pointer (some ⟨E,0,none⟩)] w fun e w'=>e=.returned (.tuple #[])∧ES w' B E g cap (st.take m) mi me op∧Fr [E] w w':=by
 have c0:=h.c0;have f0:=h.froz 0;have HT:=hid (h.take (m:=m) (by omega));obtain⟨n,hn⟩:∃n,n=st.length:=⟨_,rfl⟩;have hcap:=owns_cap h.r;rw[←hn]at c0 hm h1 hcap;have hnm:(n:Int) - 1=(m:Int):=by omega
 have hmc:(m:Int)≤(cap:Int):=by omega
 have hE:=h.lt;clear h hn hm;go_enter Tryz.func208,Tryz.ntmps208;go_region;go_wp2;go_end0;exact⟨rfl,HT.out.fr0 (frz _ _ _ rfl rfl rfl rfl),((Fr.refl [E] w).set (List.mem_singleton.2 rfl) _).trans (frz _ _ _ rfl rfl rfl rfl)⟩
theorem below_grown {w w1 w2:World}{B:Nat}{row:Option Nat}(h:Below B w w1)(hB:B≤w.heap.size)(hg:w1.grownBy w2 row)(hr:∀k,row=some k→B≤k):Below B w w2 :=
 ⟨hg.os.trans h.os,hg.tape.trans h.tape,hg.output.trans h.output,Nat.le_trans h.size hg.size,fun k hk=>(hg.block k (by have:=h.size;omega) (fun e=>by have:=hr k e.symm;omega)).trans (h.block k hk)⟩
theorem below_frz {w w1 w2:World}{B:Nat}(h:Below B w w1)(h1:w2.os=w1.os)(h2:w2.tape=w1.tape)(h3:w2.output=w1.output)(h4:w2.heap=w1.heap):Below B w w2 :=
 ⟨h1.trans h.os,h2.trans h.tape,h3.trans h.output,by rw[h4];exact h.size,fun k hk=>by rw[h4];exact h.block k hk⟩
theorem below_trans {w w1 w2:World}{B:Nat}(h:Below B w w1)(k:Below B w1 w2):Below B w w2 :=
 ⟨k.os.trans h.os,k.tape.trans h.tape,k.output.trans h.output,Nat.le_trans h.size k.size,fun b hb=>(k.block b hb).trans (h.block b hb)⟩
theorem ES.push {w w1 w2:World}{B E g cap g' cap':Nat}{st:List Ent}{mi me op n:Nat}{x:Ent}(h:ES w B E g cap st mi me op)(hn:n=st.length)(hf:Fr [] w w1)(ho:w2.ownsRow B 284 3 (.slice (some ⟨g',0,none⟩) (n+1) cap') (n+1) (ecells st++[.int .i64 x.lv,.int .i64 x.ov,.bool x.iso]))(hg:w1.grownBy w2 (some g)) :
 ES (w2.setCell ⟨E,0,none⟩ (.slice (some ⟨g',0,none⟩) (n+1) cap')) B E g' cap' (st++[x]) mi me op∧w2.heap[E]?=some (.cells #[.slice (some ⟨g,0,none⟩) st.length cap,.int .i64 mi,.int .i64 me,.int .i64 op] 287 (0,0))∧E≠g':=by
 have h1:=h.fr0 hf;have hE:w2.heap[E]?=some (.cells #[.slice (some ⟨g,0,none⟩) st.length cap,.int .i64 mi,.int .i64 me,.int .i64 op] 287 (0,0)):=(hg.block E h1.lt (fun e=>h.ne (Option.some.inj e))).trans h1.o;have hne:E≠g':=fun e=>by
  rcases ho.2 with⟨h0,_⟩ | ⟨g2,c2,cur,hv,_,hg2,_⟩
  ·cases h0
  ·cases hv
   rw[e,hg2]at hE;cases hE
 have hl:(st++[x]).length=n+1:=by rw[List.length_append,hn];rfl
 refine⟨⟨?_,?_,h.le⟩,hE,hne⟩
 ·rw[heap_setCell_same w2 E 0 _ 287 _ hE,hl];rfl
 ·rw[hl,←ecells_app]
  exact owns_fr ho (fr_set1 w2 E 0 _) (fun y hy hm=>by cases hy;exact hne (List.mem_singleton.1 hm).symm)
set_option linter.unusedSimpArgs false in
set_option maxRecDepth 10000 in
set_option maxHeartbeats 2000000 in
theorem fn85_any (w:World)(B E g cap:Nat)(st:List Ent)(mi me op:Nat)(lv ov:Int)(iso:Bool)(h:ES w B E g cap st mi me op)(h1:st.length≤1000002)(hB:B≤w.heap.size) :
 Calls Tryz.prog 205 #[.pointer (some ⟨E,0,none⟩),.agg #[.int .i64 lv,.int .i64 ov,.bool iso]] w fun e w'=>e=.returned (.tuple #[])∧(∃g' cap',ES w' B E g' cap' (st++[⟨lv,ov,iso⟩]) mi me op)∧Below B w w':=by
 have c0:=h.c0;have f0:=h.froz 0;have hE:=h.lt;have hg:=owns_at h.r;have hne:=h.ne;have hBE:=h.le;have HH:=hid h;obtain⟨n,hn⟩:∃n,n=st.length:=⟨_,rfl⟩;have HN:=hid hn;have hr:=h.r;rw[←hn]at c0 h1 hr;have HR:=hid hr;obtain⟨i0,hi,hz0,hz1,hz2⟩:=info_parts info187;clear h hn hr;go_enter Tryz.func205,Tryz.ntmps205;go_wp2;go_region_law (refine step_append_own rfl (.tmp 8) (.tmp 10) 285 rfl B 284 i0 _ 3 24 Tryz.underlying285 hi hz0 hz1 hz2 rfl (by decide) (.slice (some ⟨g,0,none⟩) n cap) n (ecells st) ?q1 ?q2 ⟨w.heap.size+1,0,none⟩ 1 1 [.int .i64 lv,.int .i64 ov,.bool iso] ?q3 rfl ?q4 (ent_one _ _ _) (by unfold maxLen;omega) (by omega) ?q5 ?_;(case q1=>simp[Act.eval,Act.put]);(case q2=>exact owns_fr0 HR.out ((((Fr.refl [] w).alloc _).drew).alloc _));(case q3=>simp[Act.eval,Act.put]);(case q4=>exact news_at _ _ _ _ (by simp));(case q5=>simp;omega);intro v' w' hown hgrow;obtain⟨g',c',hv'⟩:=owns_shape (by omega) hown;subst hv';have HX1:=hid hown;have HX2:=hid hgrow;have HX3:=hid (HH.out.push (x:=⟨lv,ov,iso⟩) HN.out ((((Fr.refl [] w).alloc _).drew).alloc _) hown hgrow);have g1:w'.cell? ⟨E,0,none⟩=some (.slice (some ⟨g,0,none⟩) st.length cap):=(by rw[cell_of_row w' E 0 _ 287 (0,0) HX3.out.2.1];rfl);have g2:=frozen_of_row w' E 0 _ 287 HX3.out.2.1;clear hown hgrow)
 all_goals (
  go_wp2
  go_end0
  refine⟨rfl,⟨g',c',HX3.out.1.fr0 (frz _ _ _ rfl rfl rfl rfl)⟩,?_⟩
  exact below_frz (below_set (below_grown (below_of_fr ((((Fr.refl [] w).alloc _).drew).alloc _) hB) hB HX2.out (fun k hk=>by cases hk;exact hg.1)) hBE) rfl rfl rfl rfl)
theorem field0 (a b:Int)(c:Bool):∀w:World,(Instr.field 284 (.agg #[.int .i64 a,.int .i64 b,.bool c]) 0).run Tryz.prog w=.ok (.int .i64 a) w:=fun _=>by kernel_rfl
theorem field2 (a b:Int)(c:Bool):∀w:World,(Instr.field 284 (.agg #[.int .i64 a,.int .i64 b,.bool c]) 2).run Tryz.prog w=.ok (.bool c) w:=fun _=>by kernel_rfl
theorem next_facts (lv:Int)(odd:Bool):nextOf lv odd=if(lv+1) % 2=(if odd then 1 else 0)then lv+1 else lv+2:=by
 unfold nextOf;have h:(lv+1) % 2=0∨(lv+1) % 2=1:=by omega
 cases odd <;> rcases h with h | h <;> simp[h]
set_option linter.unusedSimpArgs false in
set_option maxRecDepth 10000 in
set_option maxHeartbeats 2000000 in
theorem fn83_any (w:World)(B E g cap:Nat)(st:List Ent)(mi me op:Nat)(odd:Bool)(h:ES w B E g cap st mi me op)(h0:0<st.length)(h1:st.length≤1000002)(hT:EntOk (top st)) :
 Calls Tryz.prog 203 #[.pointer (some ⟨E,0,none⟩),.bool odd] w fun e w'=>e=.returned (.int .i64 (nextOf (top st).lv odd))∧Fr [] w w':=by
 have HC:=hid (fn87_any w B E g cap st mi me op h h0 h1);have HN:=hid (next_facts (top st).lv odd);have hl0:=hT.1;have hl9:=hT.2.1;generalize hx:nextOf (top st).lv odd=x at *;clear hx;generalize (top st).lv=lv at *;generalize (top st).ov=ov at *;generalize (top st).iso=iso at *;have HB:=hid (fun w=>fn45_any odd w);clear h hT;obtain⟨l1,hl1⟩:∃l1,lv+1=l1:=⟨_,rfl⟩;have h12:lv+2=l1+1:=by omega
 have hl1b:1≤l1∧l1≤10:=by omega
 rw[h12,hl1]at HN;clear h12;have hr:l1 % 2=0∨l1 % 2=1:=by omega
 cases odd <;> rcases hr with hr | hr
 all_goals (
  have HX:=hid HN.out
  rw[hr]at HX
  have hfd:=field0 lv ov iso
  (try simp only[Bool.false_eq_true,↓reduceIte]at HX)
  (try simp only[Bool.false_eq_true,↓reduceIte]at HB)
  go_enter Tryz.func203,Tryz.ntmps203
  go_wp2_with (first | (go_at_call 207;refine HC.out.mono ?_;rintro e w1 ⟨rfl,hf1⟩) | (go_at_call 165;refine(HB.out _).mono ?_;rintro e w' ⟨rfl,rfl⟩))
  go_ret
  exact⟨by rw[HX.out] <;> first | rfl | (congr 1;congr 1;simp;omega) | (simp;omega),hf1⟩)
theorem fn84_any (w:World)(B E g cap:Nat)(st:List Ent)(mi me op:Nat)(nx:Int)(h:ES w B E g cap st mi me op) :
 Calls Tryz.prog 204 #[.pointer (some ⟨E,0,none⟩),.int .i64 nx] w fun e w'=>e=.returned (.bool (decide (nx≤9) && mi == 0 && me == 0))∧w'=w:=by
 have c1:=h.c1;have c2:=h.c2;clear h;by_cases h9:nx≤9
 ·have h9b:decide (nx≤9)=true:=decide_eq_true h9
  by_cases hmi:mi=0
  ·subst hmi
   by_cases hme:me=0
   ·subst hme
    go_enter Tryz.func204,Tryz.ntmps204;go_wp2;go_ret;exact⟨by rw[h9b];rfl,rfl⟩
   ·have hmb:((me:Int) == 0)=false:=by simp;omega
    have hmi':¬(me:Int)=0:=by omega
    go_enter Tryz.func204,Tryz.ntmps204;go_wp2;go_ret;exact⟨by rw[h9b];simp[hme],rfl⟩
  ·have hmb:((mi:Int) == 0)=false:=by simp;omega
   have hmi':¬(mi:Int)=0:=by omega
   go_enter Tryz.func204,Tryz.ntmps204;go_wp2;go_ret;exact⟨by rw[h9b];simp[hmi],rfl⟩
 ·have h9b:decide (nx≤9)=false:=decide_eq_false h9
  go_enter Tryz.func204,Tryz.ntmps204;go_wp2;go_ret;exact⟨by first | rfl | (rw[h9b];rfl) | simp,rfl⟩
theorem ES.sizeB {w:World}{B E g cap:Nat}{st:List Ent}{mi me op:Nat}(h:ES w B E g cap st mi me op):B≤w.heap.size:=by have:=h.le;have:=h.lt;omega
set_option linter.unusedSimpArgs false in
set_option maxRecDepth 10000 in
set_option maxHeartbeats 2000000 in
theorem fn46_any (w:World)(B E g cap:Nat)(st:List Ent)(mi me op:Nat)(c nx:Int)(F:Bool)(h:ES w B E g cap st mi me op)(h0:0<st.length)(h1:st.length≤1000000)(hme:me≤1000000)(hT:EntOk (top st))
 (hc:c=14∨c=15∨c=16∨c=17) (hnx:nx=nextOf (top st).lv (c == 16 || c == 17)) (hF:F=(decide (nx≤9) && mi == 0 && me == 0)) :
 Calls Tryz.prog 166 #[.pointer (some ⟨E,0,none⟩),.int .i64 c] w fun e w'=>e=.returned (.tuple #[])∧(∃g' cap' st' me',ES w' B E g' cap' st' mi me' op∧((F=true∧st'=st++[⟨nx,ovOf c,false⟩]∧me'=me)∨(F=false∧mi=0∧st'=st∧me'=me+1)∨(F=false∧mi≠0∧st'=st∧me'=me)))∧Below B w w':=by
 have HN:=hid (fn83_any w B E g cap st mi me op (c == 16 || c == 17) h h0 (by omega) hT);rw[←hnx]at HN;have HH:=hid h;have hB:=h.sizeB;have HC84:=hid (fun w' (hf:Fr [] w w')=>fn84_any w' B E g cap st mi me op nx (HH.out.fr0 hf));rw[←hF]at HC84;have HC85:=hid (fun w' (hf:Fr [] w w')=>fn85_any w' B E g cap st mi me op nx (ovOf c) false (HH.out.fr0 hf) (by omega) (Nat.le_trans hB hf.size));have HC86:=hid (fun w=>fn86_any c w);clear hnx hF hT h;generalize ovOf c=oc at *;have HNC:Hid (∀b:Bool,b=(c == 16 || c == 17)→Calls Tryz.prog 203 #[.pointer (some ⟨E,0,none⟩),.bool b] w fun e w'=>e=.returned (.int .i64 nx)∧Fr [] w w'):=hid (fun b hb=>by rw[hb];exact HN.out);clear HN;cases F
 ·by_cases hmi:mi=0
  ·subst hmi
   rcases hc with rfl | rfl | rfl | rfl
   all_goals (
    go_enter Tryz.func166,Tryz.ntmps166
    go_wp2_with (first | (go_at_call 203;refine(HNC.out _ (by decide)).mono ?_;rintro e w1 ⟨rfl,hf1⟩;have HF1:=hid hf1;have HE1:=hid (HH.out.fr0 hf1);have k1:=HE1.out.c1;have k2:=HE1.out.c2;have k3:=HE1.out.froz 2;clear hf1) | (go_at_call 204;refine(HC84.out _ HF1.out).mono ?_;rintro e w' ⟨rfl,rfl⟩))
    go_end0
    refine⟨rfl,⟨g,cap,st,me+1,HE1.out.num 2 (me+1) 0 (me+1) op rfl,by simp⟩,below_set (below_of_fr HF1.out hB) HH.out.le⟩)
  ·have hmb:((mi:Int) == 0)=false:=by simp;omega
   have hmi':¬(mi:Int)=0:=by omega
   rcases hc with rfl | rfl | rfl | rfl
   all_goals (
    go_enter Tryz.func166,Tryz.ntmps166
    go_wp2_with (first | (go_at_call 203;refine(HNC.out _ (by decide)).mono ?_;rintro e w1 ⟨rfl,hf1⟩;have HF1:=hid hf1;have HE1:=hid (HH.out.fr0 hf1);have k1:=HE1.out.c1;have k2:=HE1.out.c2;clear hf1) | (go_at_call 204;refine(HC84.out _ HF1.out).mono ?_;rintro e w' ⟨rfl,rfl⟩))
    go_end0
    refine⟨rfl,⟨g,cap,st,me,HE1.out,by simp[hmi]⟩,below_of_fr HF1.out hB⟩)
 ·rcases hc with rfl | rfl | rfl | rfl
  all_goals (
   go_enter Tryz.func166,Tryz.ntmps166
   go_wp2_with (first | (go_at_call 203;refine(HNC.out _ (by decide)).mono ?_;rintro e w1 ⟨rfl,hf1⟩;have HF1:=hid hf1;clear hf1) | (go_at_call 204;refine(HC84.out _ HF1.out).mono ?_;rintro e w' ⟨rfl,rfl⟩) | (go_at_call 206;refine(HC86.out _).mono ?_;rintro e w' ⟨rfl,rfl⟩) | (go_at_call 205;refine(HC85.out _ HF1.out).mono ?_;rintro e w2 ⟨rfl,hx2,hb2⟩))
   go_end0
   obtain⟨g',cap',hes⟩:=hx2
   exact⟨rfl,⟨g',cap',_,me,hes,by simp⟩,below_trans (below_of_fr HF1.out hB) hb2⟩)
set_option linter.unusedSimpArgs false in
set_option maxRecDepth 10000 in
set_option maxHeartbeats 2000000 in
theorem fn49_any (w:World)(B E g cap:Nat)(st:List Ent)(mi me op:Nat)(odd:Bool)(nx:Int)(F:Bool)(h:ES w B E g cap st mi me op)(h0:0<st.length)(h1:st.length≤1000000)(hmi:mi≤1000000)(hop:op≤1000000)(hT:EntOk (top st))
 (hnx:nx=nextOf (top st).lv odd) (hF:F=(decide (nx≤9) && mi == 0 && me == 0)) :
 Calls Tryz.prog 169 #[.pointer (some ⟨E,0,none⟩),.bool odd] w fun e w'=>e=.returned (.tuple #[])∧(∃g' cap' st' mi' op',ES w' B E g' cap' st' mi' me op'∧((F=true∧st'=st++[⟨nx,-1,true⟩]∧mi'=mi∧op'=op+1)∨(F=false∧st'=st∧mi'=mi+1∧op'=op)))∧Below B w w':=by
 have HN:=hid (fn83_any w B E g cap st mi me op odd h h0 (by omega) hT);rw[←hnx]at HN;have HH:=hid h;have hB:=h.sizeB;have HC84:=hid (fun w' (hf:Fr [] w w')=>fn84_any w' B E g cap st mi me op nx (HH.out.fr0 hf));rw[←hF]at HC84;clear hnx hF hT h;cases F
 ·go_enter Tryz.func169,Tryz.ntmps169
  go_wp2_with (first | (go_at_call 203;refine HN.out.mono ?_;rintro e w1 ⟨rfl,hf1⟩;have HF1:=hid hf1;have HE1:=hid (HH.out.fr0 hf1);have k1:=HE1.out.c1;have k3:=HE1.out.froz 1;clear hf1) | (go_at_call 204;refine(HC84.out _ HF1.out).mono ?_;rintro e w' ⟨rfl,rfl⟩))
  (try simp only[Exit.inBlock,Exit.then])
  refine bodyPost_ret (results_none rfl _ _ _) rfl ?_;exact⟨rfl,⟨g,cap,st,mi+1,op,HE1.out.num 1 (mi+1) (mi+1) me op rfl,by simp⟩,below_set (below_of_fr HF1.out hB) HH.out.le⟩
 ·go_enter Tryz.func169,Tryz.ntmps169
  go_wp2_with (first | (go_at_call 203;refine HN.out.mono ?_;rintro e w1 ⟨rfl,hf1⟩;have HF1:=hid hf1;have HE1:=hid (HH.out.fr0 hf1);have k1:=HE1.out.c3;have k3:=HE1.out.froz 3;have HE2:=hid (HE1.out.num 3 (op+1) mi me (op+1) rfl);have hB1:=HE1.out.sizeB;clear hf1) | (go_at_call 204;refine(HC84.out _ HF1.out).mono ?_;rintro e w' ⟨rfl,rfl⟩) | (go_at_call 205;refine(fn85_any _ B E g cap st mi me (op+1) nx (-1) true ?_ (by omega) ?_).mono ?_;exact HE2.out;(simp;omega);rintro e w2 ⟨rfl,hx2,hb2⟩));go_end0;obtain⟨g',cap',hes⟩:=hx2;exact⟨rfl,⟨g',cap',_,mi,op+1,hes,by simp⟩,below_trans (below_set (below_of_fr HF1.out hB) HH.out.le) hb2⟩
theorem ES.fr {T:List Nat}{w w':World}{B E g cap:Nat}{st:List Ent}{mi me op:Nat}(h:ES w B E g cap st mi me op)(hf:Fr T w w')(hT:∀k∈T,k<B):ES w' B E g cap st mi me op :=
 ⟨(hf.block E h.lt (fun hm=>by have:=hT E hm;have:=h.le;omega)).trans h.o,owns_fr h.r hf (fun x hx hm=>by have:=(h.r.lt x hx).1;have:=hT x hm;omega),h.le⟩
set_option linter.unusedSimpArgs false in
set_option maxRecDepth 10000 in
set_option maxHeartbeats 2000000 in
theorem fn47_any (w:World)(B E g cap:Nat)(st:List Ent)(mi me op m:Nat)(h:ES w B E g cap st mi me op)(hm:st.length=m+1)(h1:st.length≤1000000)(hme:me≤1000000) :
 Calls Tryz.prog 167 #[.pointer (some ⟨E,0,none⟩)] w fun e w'=>e=.returned (.tuple #[])∧(∃st' me',ES w' B E g cap st' mi me' op∧((0<mi∧st'=st∧me'=me)∨(mi=0∧0<me∧st'=st∧me'=me - 1)∨(mi=0∧me=0∧(top st).iso=false∧1<st.length∧st'=st.take m∧me'=me)∨(mi=0∧me=0∧((top st).iso=true∨st.length≤1)∧st'=st∧me'=me)))∧Below B w w':=by
 have HH:=hid h;have hB:=h.sizeB;have k1:=h.c1;have k2:=h.c2;have f2:=h.froz 2;have HL:=hid (fn87_any w B E g cap st mi me op h (by omega) (by omega));have HT:=hid (fun w' (hf:Fr [] w w')=>fn88_any w' B E g cap st mi me op m (HH.out.fr0 hf) hm (by omega));generalize hT:top st=T at *;obtain⟨lv,ov,iso⟩:=T;dsimp only at HL;have hfd:=field2 lv ov iso;clear h hT;by_cases hmi:mi=0
 ·subst hmi
  by_cases hm0:me=0
  ·subst hm0
   obtain⟨n,hn⟩:∃n,n=st.length:=⟨_,rfl⟩;have HN:=hid hn;have hn1:n≤1000000:=by omega
   clear hn;cases iso
   ·by_cases h2:1<n
    ·have h2I:(1:Int)<(n:Int):=by omega
     go_enter Tryz.func167,Tryz.ntmps167;go_wp2_with (first | (go_at_call 207;refine HL.out.mono ?_;rintro e w1 ⟨rfl,hf1⟩;have HF1:=hid hf1;have HE1:=hid (HH.out.fr0 hf1);have k3:=HE1.out.c0;rw[←HN.out]at k3;clear hf1) | (go_at_call 208;refine(HT.out _ HF1.out).mono ?_;rintro e w2 ⟨rfl,he2,hf2⟩));go_end0;exact⟨rfl,⟨_,0,he2,by have h3:=HN.out;simp;omega⟩,below_trans (below_of_fr HF1.out hB) (hf2.below HE1.out.sizeB (fun k hk=>by have h5:=List.mem_singleton.1 hk;rw[h5];exact HH.out.le))⟩
    ·have h2I:¬(1:Int)<(n:Int):=by omega
     have h2d:decide ((1:Int)<(n:Int))=false:=decide_eq_false h2I;have h2e:decide (1<n)=false:=decide_eq_false h2;go_enter Tryz.func167,Tryz.ntmps167;go_wp2_with (first | (go_at_call 207;refine HL.out.mono ?_;rintro e w1 ⟨rfl,hf1⟩;have HF1:=hid hf1;have HE1:=hid (HH.out.fr0 hf1);have k3:=HE1.out.c0;rw[←HN.out]at k3;clear hf1));go_end0;exact⟨rfl,⟨_,0,HE1.out,by have h3:=HN.out;simp;omega⟩,below_of_fr HF1.out hB⟩
   ·go_enter Tryz.func167,Tryz.ntmps167
    go_wp2_with (first | (go_at_call 207;refine HL.out.mono ?_;rintro e w1 ⟨rfl,hf1⟩;have HF1:=hid hf1;have HE1:=hid (HH.out.fr0 hf1);clear hf1));go_end0;exact⟨rfl,⟨_,0,HE1.out,by simp⟩,below_of_fr HF1.out hB⟩
  ·have hmp:(0:Int)<(me:Int):=by omega
   have hmc:(me:Int) - 1=((me - 1:Nat):Int):=by omega
   have HE2:=hid (HH.out.num 2 (me - 1) 0 (me - 1) op rfl);go_enter Tryz.func167,Tryz.ntmps167;go_wp2;go_end0;exact⟨rfl,⟨_,me - 1,HE2.out,by simp;omega⟩,below_set (Below.refl _ _) HH.out.le⟩
 ·have hmp:(0:Int)<(mi:Int):=by omega
  go_enter Tryz.func167,Tryz.ntmps167;go_wp2;go_end0;exact⟨rfl,⟨_,me,HH.out,by simp;omega⟩,Below.refl _ _⟩
set_option linter.unusedSimpArgs false in
set_option maxRecDepth 10000 in
set_option maxHeartbeats 2000000 in
theorem fn48_any (q:UH)(C L:List Int)(w:World)(B E g cap:Nat)(e:Emb)(i:Nat)(hC:e.C=C)(hL:e.L=L)(h:ES w B E g cap e.st e.mi e.me e.op)(h0:0<e.st.length)(h1:e.st.length≤1000000)(hT:EntOk (top e.st))(hu:US w q C L)(hi:i<q.n)(hU:q.U<B) :
 Calls Tryz.prog 168 #[.pointer (some ⟨E,0,none⟩),.pointer (some ⟨q.U,i * 4,none⟩)] w fun x w'=>x=.returned (.tuple #[])∧US w' q (hold e i).C (hold e i).L∧ES w' B E g cap e.st e.mi e.me e.op∧Fr [q.U] w w':=by
 have HH:=hid h;have HU:=hid hu;have HHC:=hid (hold_C' hT i);have HHL:=hid (hold_L e i);have HL:=hid (fn87_any w B E g cap e.st e.mi e.me e.op h h0 (by omega));have hov:=hT.2.2;rw[hC]at HHC;rw[hL]at HHL;generalize hTT:top e.st=T at *;obtain⟨lv,ov,iso⟩:=T;dsimp only at HL HHC HHL hov;have hUw:q.U<w.heap.size:=World.block_lt_of_cell? _ _ (hu.r 0 (by omega));clear h hu hTT hC hL;obtain⟨Zc,hZc⟩:∃Zc,Zc=(hold e i).C:=⟨_,rfl⟩;obtain⟨Zl,hZl⟩:∃Zl,Zl=(hold e i).L:=⟨_,rfl⟩;rw[←hZc]at HHC ⊢;rw[←hZl]at HHL ⊢;clear hZc hZl;by_cases ho:ov=-1
 ·subst ho
  go_enter Tryz.func168,Tryz.ntmps168;go_wp2_with (first | (go_at_call 207;refine HL.out.mono ?_;rintro x w1 ⟨rfl,hf1⟩;have HF1:=hid hf1;have HE1:=hid (HH.out.fr0 hf1);have HU1:=hid (HU.out.fr hf1 List.not_mem_nil);have k1:=HU1.out.l i hi;have k2:=HU1.out.soft (i * 4+3) (by omega);have hU1:q.U<w1.heap.size:=Nat.lt_of_lt_of_le hUw hf1.size;clear hf1));go_end0;refine⟨rfl,?_,?_,?_⟩
  ·rw[HHC.out,HHL.out,if_neg (by omega)]
   exact(HU1.out.setL hi lv).fr (T:=[]) ((Fr.refl _ _).alloc _) List.not_mem_nil
  ·exact(HE1.out.fr (T:=[q.U]) (fr_set1 _ _ _ _) (fun k hk=>by rw[List.mem_singleton.1 hk];exact hU)).fr0 ((Fr.refl _ _).alloc _)
  ·exact((HF1.out.mono (fun _ h _=>absurd h List.not_mem_nil)).set (List.mem_singleton.2 rfl) _).alloc _
 ·have hob:(ov == -1)=false:=by simp[ho]
  have HZ2:=hid (show Zc=C.set i ov by rw[HHC.out,if_pos (by omega)]);clear hov;go_enter Tryz.func168,Tryz.ntmps168;go_wp2_with (first | (go_at_call 207;refine HL.out.mono ?_;rintro x w1 ⟨rfl,hf1⟩;have HF1:=hid hf1;have HE1:=hid (HH.out.fr0 hf1);have HU1:=hid (HU.out.fr hf1 List.not_mem_nil);have k1:=HU1.out.l i hi;have k2:=HU1.out.soft (i * 4+3) (by omega);have k3:=HU1.out.c i hi;have k4:=HU1.out.soft (i * 4+2) (by omega);have hU1:q.U<w1.heap.size:=Nat.lt_of_lt_of_le hUw hf1.size;clear hf1));go_end0;refine⟨rfl,?_,?_,?_⟩
  ·rw[HZ2.out,HHL.out]
   exact((HU1.out.setL hi lv).setC hi ov).fr (T:=[]) ((Fr.refl _ _).alloc _) List.not_mem_nil
  ·exact((HE1.out.fr (T:=[q.U]) (fr_set1 _ _ _ _) (fun k hk=>by rw[List.mem_singleton.1 hk];exact hU)).fr (T:=[q.U]) (fr_set1 _ _ _ _) (fun k hk=>by rw[List.mem_singleton.1 hk];exact hU)).fr0 ((Fr.refl _ _).alloc _)
  ·exact(((HF1.out.mono (fun _ h _=>absurd h List.not_mem_nil)).set (List.mem_singleton.2 rfl) _).set (List.mem_singleton.2 rfl) _).alloc _
def muE (E:Nat)(w:World):Nat:=slLen ((w.cell? ⟨E,0,none⟩).getD undef)
theorem muE_at {w:World}{B E g cap:Nat}{st:List Ent}{mi me op:Nat}(h:ES w B E g cap st mi me op):muE E w=st.length:=by rw[muE,h.c0];rfl
set_option linter.unusedSimpArgs false in
set_option maxRecDepth 10000 in
set_option maxHeartbeats 2000000 in
theorem fn51_any (w:World)(B E g cap:Nat)(st:List Ent)(mi me op:Nat)(h:ES w B E g cap st mi me op)(h1:st.length≤1000000)(hmi:mi≤1000000)(hop:op≤1000000)(hiso:0<op→0<isoN st.reverse) :
 Calls Tryz.prog 171 #[.pointer (some ⟨E,0,none⟩)] w fun e w'=>e=.returned (.tuple #[])∧(∃st' mi' me' op',ES w' B E g cap st' mi' me' op'∧((0<mi∧st'=st∧mi'=mi - 1∧me'=me∧op'=op)∨(mi=0∧0<op∧st'=popI st.length st∧mi'=0∧me'=0∧op'=op - 1)∨(mi=0∧op=0∧st'=st∧mi'=0∧me'=me∧op'=0)))∧Below B w w':=by
 have HH:=hid h;have hB:=h.sizeB;have k1:=h.c1;have k3:=h.c3;have f1:=h.froz 1;have f2:=h.froz 2;have k2:=h.c2;have HISO:=hid hiso;clear h hiso;by_cases hm0:mi=0
 ·subst hm0
  by_cases ho0:op=0
  ·subst ho0
   go_enter Tryz.func171,Tryz.ntmps171;go_wp2;go_end0;exact⟨rfl,⟨_,_,_,_,HH.out,by simp⟩,Below.refl _ _⟩
  ·have hoI:(0:Int)<(op:Int):=by omega
   have hopN:0<op:=by omega
   have k1':w.cell? ⟨E,1,none⟩=some (.int .i64 0):=k1;clear k1;have HE0:=hid (HH.out.num 2 0 0 0 op rfl);have HIS0:=hid (HISO.out (by omega));have HB0:=hid (below_set (i:=2) (v:=.int .i64 0) (Below.refl B w) HH.out.le);clear f1 HISO;go_enter Tryz.func171,Tryz.ntmps171;go_wp2;go_loopw [24] (fun _ wr=>∃t:Nat,t≤st.length∧Hid (popI (st.take t).length (st.take t)=popI st.length st)∧Hid (0<isoN (st.take t).reverse)∧Hid (ES wr B E g cap (st.take t) 0 0 op)∧Hid (Below B w wr)) (fun _ wr=>muE E wr)
   case atStart=>exact⟨st.length,Nat.le_refl _,hid (by rw[List.take_length]),hid (by rw[List.take_length];exact HIS0.out),hid (by rw[List.take_length];exact HE0.out),HB0⟩
   case round =>
    obtain⟨t,htn,HPOP,HIS,HEX,HBX⟩:=hrel;have htl:(st.take t).length=t:=by rw[List.length_take];omega
    have ht0:0<t:=by have:=iso_pos HIS.out;omega
    obtain⟨m',hm'⟩:∃m',t=m'+1:=⟨t - 1,by omega⟩;have HPS2:=hid (pop_step (htl.trans hm'));have HTT2:=hid (show(st.take t).take m'=st.take m' by rw[List.take_take,Nat.min_eq_left (by omega)]);rw[HTT2.out]at HPS2;have HIT:=hid (fun hh=>iso_take (htl.trans hm') hh HIS.out);rw[HTT2.out]at HIT;have HL:=hid (fn87_any wr B E g cap (st.take t) 0 0 op HEX.out (by omega) (by omega));have HT:=hid (fun w' (hf:Fr [] wr w')=>fn88_any w' B E g cap (st.take t) 0 0 op m' (HEX.out.fr0 hf) (htl.trans hm') (by omega));rw[HTT2.out]at HT;have HMU:=hid (show muE E wr=t by rw[muE_at HEX.out,htl]);have hm'l:(st.take m').length=m':=by rw[List.length_take];omega
    have HML:=hid hm'l;have HM':=hid hm';generalize hT:top (st.take t)=T at *;obtain⟨lv,ov,iso⟩:=T;dsimp only at HL HPS2 HIT;have hfd:=field2 lv ov iso;clear hT htl hm' hm'l;cases iso
    ·have HPQ:=hid ((HPS2.out.2 rfl).symm.trans HPOP.out)
     have HIQ:=hid (HIT.out rfl);clear HPS2 HIT;go_wp2_with (first | (go_at_call 207;refine HL.out.mono ?_;rintro e w1 ⟨rfl,hf1⟩;have HF1:=hid hf1;clear hf1) | (go_at_call 208;refine(HT.out _ HF1.out).mono ?_;rintro e w2 ⟨rfl,he2,hf2⟩;have HE2:=hid he2;have HF2:=hid hf2;clear he2 hf2));go_roundw
     case rel=>exact⟨m',by have:=HM'.out;omega,HPQ,HIQ,HE2,hid (below_trans HBX.out (below_trans (below_of_fr HF1.out HEX.out.sizeB) (HF2.out.below (HEX.out.fr0 HF1.out).sizeB (fun k hk=>by rw[List.mem_singleton.1 hk];exact HH.out.le))))⟩
     case measure=>have h5:=HM'.out;rw[HMU.out,muE_at HE2.out,HML.out];omega
    ·have HPQ:=hid (show st.take m'=popI st.length st by rw[←HPOP.out];exact(HPS2.out.1 rfl).symm)
     have hopc:(op:Int) - 1=((op - 1:Nat):Int):=by omega
     clear HPS2 HIT;go_wp2_with (first | (go_at_call 207;refine HL.out.mono ?_;rintro e w1 ⟨rfl,hf1⟩;have HF1:=hid hf1;clear hf1) | (go_at_call 208;refine(HT.out _ HF1.out).mono ?_;rintro e w2 ⟨rfl,he2,hf2⟩;have HE2:=hid he2;have HF2:=hid hf2;have r3:=HE2.out.c3;have r4:=HE2.out.froz 3;clear he2 hf2));go_end0;exact⟨rfl,⟨_,_,_,_,HE2.out.num 3 (op - 1) 0 0 (op - 1) rfl,by rw[HPQ.out];simp;omega⟩,below_set (below_trans HBX.out (below_trans (below_of_fr HF1.out HEX.out.sizeB) (HF2.out.below (HEX.out.fr0 HF1.out).sizeB (fun k hk=>by rw[List.mem_singleton.1 hk];exact HH.out.le)))) HH.out.le⟩
 ·have hmp:(0:Int)<(mi:Int):=by omega
  have hmc:(mi:Int) - 1=((mi - 1:Nat):Int):=by omega
  have HE2:=hid (HH.out.num 1 (mi - 1) (mi - 1) me op rfl);go_enter Tryz.func171,Tryz.ntmps171;go_wp2;go_end0;exact⟨rfl,⟨_,_,_,_,HE2.out,by simp;omega⟩,below_set (Below.refl _ _) HH.out.le⟩
end Go.Proofs.YtnakejhohdbfdacGreatDoor

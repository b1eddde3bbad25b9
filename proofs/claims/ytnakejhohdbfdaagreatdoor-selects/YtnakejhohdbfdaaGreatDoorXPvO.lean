import Derived.Test.YtnakejhohdbfdaaGreatDoorXPvJ
import Derived.Test.YtnakejhohdbfdaaGreatDoorXLdB
import Derived.Test.YtnakejhohdbfdaaGreatDoorXMm
import Derived.Test.YtnakejhohdbfdaaGreatDoorXRsO
import Derived.Test.YtnakejhohdbfdaaGreatDoorXMf
import Derived.Test.YtnakejhohdbfdaaGreatDoorXMd
namespace Go.Proofs.YtnakejhohdbfdaaGreatDoor
open Go.RowKit Go.Shelf
theorem wpIn_range_al {σ α:Type}{F:Fence}{n:Nat}{P:Program}{g:Operand}{ps:Array Tmp}{assign body:Code}{Q:Exit→Act→World→Prop}{a:Act}{w:World}
 (hro:F.round=none) (h1:1≤n) {gf:Nat} {lb:Array Value} (hg:a.eval g=.func (.func gf) #[] lb) (hFg:F.fn gf) (eg:∀args w,(callFunc gf args).run P w=.ok (.enter gf args) w)
 {encs:α→Array Value} (hps:∀x,(encs x).size=ps.size)
 (V:σ→World→Prop) (hVs:∀s A,V s A→w.heap.size≤A.heap.size) (hV:∀s A B,V s A→Below w.heap.size A B→V s B) (ok:σ→α→Prop) (nx:σ→α→σ) (s0 s1:σ)
 (hseq:∀(l:Nat) (V':σ→World→Prop) (W:World),(∀s A,V' s A→V s A)→(∀s A B,V' s A→Fr [] A B→V' s B) →
   (∀s x A,V' s A→ok s x→YieldAt F (n - 1 - 1) P l (encs x) A fun e B=>e=.returned (.bool true)∧V' (nx s x) B)→V' s0 W →
   CallsIn F (n - 1) P gf (#[.func (.yield l) #[] #[]]++lb) W fun e B=>(∃v,e=.returned v)∧V' s1 B)
 (o:α→Obj) (a₁:α→Nat→Act) (h0:V s0 w)
 (hassign:∀(l:Nat) (x:α) (W:World) (K:Act→World→Prop),K (a₁ x W.heap.size) (W.alloc (o x)) →
   assign.wpIn (F.inRound l) (n - 1 - 1) P (Exit.then K (fun _ _ _=>False)) { tmps:=(ps.zip (encs x)).foldl (fun t (p,v)=>t.setIfInBounds p v) a.tmps,defers:=[] } W)
 (hbody:∀(l:Nat) (s:σ) (x:α) (A:World) (b:Nat),V s A→ok s x→A.heap[b]?=some (o x)→w.heap.size+2≤b→body.wpIn (F.inRound l) (n - 1 - 1) P (stPost w.heap.size V (nx s x) A) (a₁ x b) A)
 (hdone:∀(D:Nat) (A:World),V s1 A→w.heap.size≤D→A.heap[D]?=some (.deferred (some []))→Q .normal { a with defers:={ target:=.collected D,args:=#[] } :: a.defers } A) :
 (Code.rangeFunc g ps assign body).wpIn F n P Q a w:=by
 refine wpIn_rangeFunc ?_;intro fn hfn;rw[hro];obtain⟨rec,hrec⟩:∃rec:LoopState→Option Code→Loop,rec=fun st pe=>{ state:=st,pending:=pe,fn,tmps:=a.tmps,params:=ps,assign,body,defers:=w.heap.size }:=⟨_,rfl⟩
 obtain⟨W1,hW1⟩:∃W1,(w.alloc (.deferred (some []))).alloc (.loop (rec .ready none))=W1:=⟨_,rfl⟩;have hL1:W1.heap[w.heap.size+1]?=some (.loop (rec .ready none)):=by
  rw[←hW1];have:=World.alloc_heap_new (w.alloc (.deferred (some []))) (.loop (rec .ready none));rwa [World.size_alloc]at this
 have hK1:W1.heap[w.heap.size]?=some (.deferred (some [])):=by
  rw[←hW1];exact(Below.heap_alloc _ _ _ (by simp)).trans (World.alloc_heap_new w _)
 have hI1:V s0 W1:=by
  rw[←hW1];exact hV _ _ _ h0 (((Below.refl _ w).alloc (Nat.le_refl _) _).alloc (by simp) _)
 let V':σ→World→Prop:=fun s A=>V s A∧A.heap[w.heap.size+1]?=some (.loop (rec .ready none))∧A.heap[w.heap.size]?=some (.deferred (some []))
 refine⟨w.heap.size+1,[{ target:=.collected w.heap.size,args:=#[] }],W1,{ target:=.fn (.func gf) lb,args:=#[.func (.yield (w.heap.size+1)) #[] #[]] },W1,gf,
  #[.func (.yield (w.heap.size+1)) #[] #[]]++lb,W1,?_,?_,?_,?_,fun _=>h1,?_⟩
 ·rw[←hW1,hrec];exact run_enterLoop_outer _ _ _ _ _
 ·simp only[resolve,hg]
  simp[go_sem]
 ·intro f' hf';simp[Target.leads]at hf';subst hf';exact hFg
 ·simp[invoke,go_sem,eg]
 ·refine(hseq (w.heap.size+1) V' W1 (fun s A h=>h.1) (fun s A B h hf=>?_) ?_ ⟨hI1,hL1,hK1⟩).mono ?_
  ·obtain⟨k1,k2,k3⟩:=h
   exact⟨hV _ _ _ k1 (fr0_below hf (hVs _ _ k1)),(hf.block _ (Array.getElem?_eq_some_iff.1 k2).1 List.not_mem_nil).trans k2,(hf.block _ (Array.getElem?_eq_some_iff.1 k3).1 List.not_mem_nil).trans k3⟩
  ·rintro s x W ⟨hi,hl,hk⟩ hok
   have hlt:w.heap.size+1<W.heap.size:=(Array.getElem?_eq_some_iff.1 hl).1;have hy:=run_yield (P:=P) (args:=encs x) hl (by rw[hrec];exact hps x);rw[hrec]at hy;have hla:(W.alloc (o x)).heap[w.heap.size+1]?=some (.loop (rec .ready none)):=(Below.heap_alloc _ _ _ hlt).trans hl;refine⟨fn,_,assign,body,hy,roundIn_of_wpIn hfn (hassign _ x W _ ⟨_,run_beginRound hla (by rw[hrec]),?_⟩)⟩;have hlt2:w.heap.size+1<(W.alloc (o x)).heap.size:=by rw[World.size_alloc];omega
   have hl2:((W.alloc (o x)).putObj (w.heap.size+1) (.loop { rec .ready none with state:=.busy })).heap[w.heap.size+1]?=some (.loop { rec .ready none with state:=.busy }):=World.putObj_heap_same hlt2;have hk2:((W.alloc (o x)).putObj (w.heap.size+1) (.loop { rec .ready none with state:=.busy })).heap[w.heap.size]?=some (.deferred (some [])):=(World.putObj_heap_other (by omega)).trans ((Below.heap_alloc _ _ _ (by omega)).trans hk);have hb2:((W.alloc (o x)).putObj (w.heap.size+1) (.loop { rec .ready none with state:=.busy })).heap[W.heap.size]?=some (o x):=(World.putObj_heap_other (by omega)).trans (World.alloc_heap_new W _);refine wpIn_mono (hbody _ s x _ W.heap.size (hV _ _ _ (hV _ _ _ hi ((Below.refl _ W).alloc (by omega) _)) (below_put (by omega) _)) hok hb2 (by omega)) ?_;rintro e a3 W3 hp;cases e with
   | normal =>
     obtain⟨hkeep,hi3⟩:=hp;have hl3:=(hkeep (w.heap.size+1) (by omega) (by rw[World.putObj_size];exact hlt2)).trans hl2;have hk3:=(hkeep w.heap.size (by omega) (by rw[World.putObj_size];omega)).trans hk2;have hr:=run_endRound (P:=P) none hl3;rw[hrec]at hr hl3;refine⟨_,_,hr,rfl,hV _ _ _ hi3 (below_put (by omega) _),?_,(World.putObj_heap_other (by omega)).trans hk3⟩;rw[hrec];exact World.putObj_heap_same (Array.getElem?_eq_some_iff.1 hl3).1
   | ret=>exact hp.elim
   | exit id=>exact hp.elim
   | goto t=>exact hp.elim
   | panic ch=>exact hp.elim
   | outgrown=>exact hp.elim
  ·rintro e W2 ⟨⟨v,rfl⟩,hi,hl,hk⟩
   exact⟨none,_,by have:=run_endLoop (P:=P) hl (by rw[hrec];simp);rw[hrec]at this;exact this,hdone _ _ (hV _ _ _ hi (below_put (by omega) _)) (Nat.le_refl _) ((World.putObj_heap_other (by omega)).trans hk)⟩
end Go.Proofs.YtnakejhohdbfdaaGreatDoor
namespace Go.Proofs.YtnakejhohdbfdaaGreatDoor
open Go.RowKit Lev Lay Bnd Go.Shelf
def mixL (K LV:List Int)(bs:Int)(ed:Nat→Bool)(j:Nat):List Int:=(List.range LV.length).map (fun i=>if j≤i then elv K LV bs ed i else nth LV i)
theorem mixL_len (K LV:List Int)(bs:Int)(ed:Nat→Bool)(j:Nat):(mixL K LV bs ed j).length=LV.length:=by simp[mixL]
theorem mixL_at {K LV:List Int}{bs:Int}{ed:Nat→Bool}{j i:Nat}(h:i<LV.length):nth (mixL K LV bs ed j) i=if j≤i then elv K LV bs ed i else nth LV i:=by simp[nth,mixL,h]
theorem nth_ext {a b:List Int}(hl:a.length=b.length)(h:∀i,i<a.length→nth a i=nth b i):a=b:=by
 refine List.ext_getElem? (fun i=>?_);by_cases hi:i<a.length
 ·have h1:=h i hi
  rw[nth,nth,List.getElem?_eq_getElem hi,List.getElem?_eq_getElem (by omega)]at h1;rw[List.getElem?_eq_getElem hi,List.getElem?_eq_getElem (by omega)];exact congrArg some h1
 ·rw[List.getElem?_eq_none (by omega),List.getElem?_eq_none (by omega)]
theorem mixL_start (K LV:List Int)(bs:Int)(ed:Nat→Bool):mixL K LV bs ed LV.length=LV:=by
 refine nth_ext (mixL_len _ _ _ _ _) (fun i hi=>?_);rw[mixL_len]at hi;rw[mixL_at hi,if_neg (by omega)]
theorem mixL_all {K LV:List Int}{bs:Int}{ed:Nat→Bool}{i:Nat}(h:i<LV.length):nth (mixL K LV bs ed 0) i=elv K LV bs ed i:=by rw[mixL_at h,if_pos (Nat.zero_le _)]
theorem mixL_yes {K LV:List Int}{bs:Int}{ed:Nat→Bool}{j:Nat}(he:endAt K ed j=true):(mixL K LV bs ed (j+1)).set j bs=mixL K LV bs ed j:=by
 refine nth_ext (by rw[List.length_set,mixL_len,mixL_len]) (fun i hi=>?_);rw[List.length_set,mixL_len]at hi;rw[mixL_at hi];by_cases hij:i=j
 ·subst hij
  rw[if_pos (Nat.le_refl _),elv,if_pos he,nth,List.getElem?_set_self (by rw[mixL_len];exact hi)];rfl
 ·rw[nth,List.getElem?_set_ne (fun e=>hij e.symm),←nth,mixL_at hi]
  by_cases h1:j≤i
  ·rw[if_pos h1,if_pos (by omega)]
  ·rw[if_neg h1,if_neg (by omega)]
theorem mixL_no {K LV:List Int}{bs:Int}{ed:Nat→Bool}{j:Nat}(he:endAt K ed j=false):mixL K LV bs ed (j+1)=mixL K LV bs ed j:=by
 refine nth_ext (by rw[mixL_len,mixL_len]) (fun i hi=>?_);rw[mixL_len]at hi;rw[mixL_at hi,mixL_at hi];by_cases hij:i=j
 ·subst hij
  rw[if_pos (Nat.le_refl _),if_neg (by omega),elv,if_neg (by rw[he];exact Bool.false_ne_true)]
 ·by_cases h1:j≤i
  ·rw[if_pos h1,if_pos (by omega)]
  ·rw[if_neg h1,if_neg (by omega)]
structure VE (w:World)(N gT n cT:Nat)(R:List Int)(p:Nat→Nat)(gL cL:Nat)(bs:Int)(ge m ce:Nat)(Ed K LV:List Int)(ed:Nat→Bool)(j:Nat)(A:World):Prop where
 v:VT gT n cT R p (w.heap.size+4) A
 b0:A.cell? ⟨w.heap.size,0,none⟩=some (.slice (some ⟨gL,0,none⟩) n cL)
 b1:A.cell? ⟨w.heap.size+1,0,none⟩=some (.int .i64 bs)
 b2:A.cell? ⟨w.heap.size+2,0,none⟩=some (.slice (some ⟨ge,0,none⟩) m ce)
 b3:A.cell? ⟨w.heap.size+3,0,none⟩=some (.bool (endAt K ed j))
 f3:A.frozen? ⟨w.heap.size+3,0,none⟩=false
 e:rowAt A ge m Ed
 l:rowAt A gL n (mixL K LV bs ed j)
 lf:soft A gL n
 f:Fr [gL] w A
 n:N≤A.heap.size
theorem VE.below {w:World}{N gT n cT:Nat}{R:List Int}{p:Nat→Nat}{gL cL:Nat}{bs:Int}{ge m ce:Nat}{Ed K LV:List Int}{ed:Nat→Bool}{j:Nat}{A B:World}(h:VE w N gT n cT R p gL cL bs ge m ce Ed K LV ed j A)(hN:N=w.heap.size+5)(hT:gT<w.heap.size)(hL:gL<w.heap.size)(hE:ge<w.heap.size)(hb:Below N A B):VE w N gT n cT R p gL cL bs ge m ce Ed K LV ed j B:=by
 have hf:=fr_of_below hb;have z:∀ {k},k<N→k ∉ (List.range A.heap.size).filter (fun k=>decide (N≤k)):=fun hk=>not_late (by omega)
 refine⟨⟨h.v.t.fr hf (z (by omega)),hf.cell h.v.b (z (by omega))⟩,hf.cell h.b0 (z (by omega)),hf.cell h.b1 (z (by omega)),hf.cell h.b2 (z (by omega)),hf.cell h.b3 (z (by omega)),hf.froz h.b3 (z (by omega)) h.f3,h.e.fr hf (z (by omega)),h.l.fr hf (z (by omega)),fun i hi=>hf.froz (h.l i hi) (z (by omega)) (h.lf i hi),?_,by have:=h.n;have:=hb.size;omega⟩;exact⟨hb.os.trans h.f.os,hb.tape.trans h.f.tape,hb.output.trans h.f.output,Nat.le_trans h.f.size hb.size,fun k hk hm=>(hb.block k (by omega)).trans (h.f.block k hk hm)⟩
theorem VE.no {w:World}{N gT n cT:Nat}{R:List Int}{p:Nat→Nat}{gL cL:Nat}{bs:Int}{ge m ce:Nat}{Ed K LV:List Int}{ed:Nat→Bool}{x:Nat}{A B:World}(h:VE w N gT n cT R p gL cL bs ge m ce Ed K LV ed (x+1) A)(hN:N=w.heap.size+5)(hT:gT<w.heap.size)(hL:gL<w.heap.size)(hE:ge<w.heap.size)(he:endAt K ed x=false)(hG:Fr [] A B) :
 (∀k,N≤k→k<A.heap.size→(B.setCell ⟨w.heap.size+3,0,none⟩ (.bool false)).heap[k]?=A.heap[k]?)∧VE w N gT n cT R p gL cL bs ge m ce Ed K LV ed x (B.setCell ⟨w.heap.size+3,0,none⟩ (.bool false)):=by
 have hf:Fr [w.heap.size+3] A (B.setCell ⟨w.heap.size+3,0,none⟩ (.bool false)):=(hG.mono (fun _ h _=>absurd h List.not_mem_nil):Fr [w.heap.size+3] A B).set (List.mem_singleton.2 rfl) _;have z:∀ {k},k≠w.heap.size+3→k ∉ [w.heap.size+3]:=fun hk hm=>hk (List.mem_singleton.1 hm)
 have c3:=hG.cell h.b3 List.not_mem_nil;have f3:=hG.froz h.b3 List.not_mem_nil h.f3;refine⟨fun k hk hk2=>hf.block k hk2 (z (by omega)),⟨h.v.t.fr hf (z (by omega)),hf.cell h.v.b (z (by omega))⟩,hf.cell h.b0 (z (by omega)),hf.cell h.b1 (z (by omega)),hf.cell h.b2 (z (by omega)),?_,?_,h.e.fr hf (z (by omega)),?_,fun i hi=>hf.froz (h.l i hi) (z (by omega)) (h.lf i hi),?_,by have:=h.n;have:=hf.size;omega⟩
 ·rw[he];exact World.cell?_setCell_same' _ _ _ (by rw[c3];rfl)
 ·simpa using f3
 ·rw[←mixL_no he];exact h.l.fr hf (z (by omega))
 ·exact((h.f.mono (fun a ha _=>List.mem_append_left [w.heap.size+3] ha):Fr ([gL]++[w.heap.size+3]) w A).trans (hf.mono (fun a ha _=>List.mem_append_right [gL] ha))).mono (fun a ha hlt=>by rcases List.mem_append.1 ha with h1 | h1;exact h1;have:=List.mem_singleton.1 h1;omega)
theorem VE.yes {w:World}{N gT n cT:Nat}{R:List Int}{p:Nat→Nat}{gL cL:Nat}{bs:Int}{ge m ce:Nat}{Ed K LV:List Int}{ed:Nat→Bool}{x:Nat}{A B:World}(h:VE w N gT n cT R p gL cL bs ge m ce Ed K LV ed (x+1) A)(hx:x<n)(hLV:LV.length=n)(hN:N=w.heap.size+5)(hT:gT<w.heap.size)(hL:gL<w.heap.size)(hE:ge<w.heap.size)(hgE:ge≠gL)(hgT:gT≠gL)(he:endAt K ed x=true)(hG:Fr [] A B) :
 (∀k,N≤k→k<A.heap.size→((B.setCell ⟨w.heap.size+3,0,none⟩ (.bool true)).setCell ⟨gL,x,none⟩ (.int .i64 bs)).heap[k]?=A.heap[k]?)∧VE w N gT n cT R p gL cL bs ge m ce Ed K LV ed x ((B.setCell ⟨w.heap.size+3,0,none⟩ (.bool true)).setCell ⟨gL,x,none⟩ (.int .i64 bs)):=by
 have hf1:Fr [w.heap.size+3] A (B.setCell ⟨w.heap.size+3,0,none⟩ (.bool true)):=(hG.mono (fun _ h _=>absurd h List.not_mem_nil):Fr [w.heap.size+3] A B).set (List.mem_singleton.2 rfl) _;have hf:Fr [w.heap.size+3,gL] A ((B.setCell ⟨w.heap.size+3,0,none⟩ (.bool true)).setCell ⟨gL,x,none⟩ (.int .i64 bs)):=(hf1.mono (fun a ha _=>by simp at ha;simp[ha])).set (by simp) _;have z1:∀ {k},k≠w.heap.size+3→k ∉ [w.heap.size+3]:=fun hk hm=>hk (List.mem_singleton.1 hm)
 have z:∀ {k},k≠w.heap.size+3→k≠gL→k ∉ [w.heap.size+3,gL]:=fun hk hk2 hm=>by simp at hm;omega
 have c3:=hG.cell h.b3 List.not_mem_nil;have f3:=hG.froz h.b3 List.not_mem_nil h.f3;have g2:Fr [gL] (B.setCell ⟨w.heap.size+3,0,none⟩ (.bool true)) ((B.setCell ⟨w.heap.size+3,0,none⟩ (.bool true)).setCell ⟨gL,x,none⟩ (.int .i64 bs)):=(Fr.refl [gL] _).set (List.mem_singleton.2 rfl) _;have n3:w.heap.size+3 ∉ [gL]:=fun hm=>by have:=List.mem_singleton.1 hm;omega
 have c3':(B.setCell ⟨w.heap.size+3,0,none⟩ (.bool true)).cell? ⟨w.heap.size+3,0,none⟩=some (.bool true):=World.cell?_setCell_same' _ _ _ (by rw[c3];rfl);have hl1:rowAt (B.setCell ⟨w.heap.size+3,0,none⟩ (.bool true)) gL n (mixL K LV bs ed (x+1)):=h.l.fr hf1 (z1 (by omega));refine⟨fun k hk hk2=>hf.block k hk2 (z (by omega) (by omega)),⟨h.v.t.fr hf (z (by omega) hgT),hf.cell h.v.b (z (by omega) (by omega))⟩,hf.cell h.b0 (z (by omega) (by omega)),hf.cell h.b1 (z (by omega) (by omega)),hf.cell h.b2 (z (by omega) (by omega)),?_,?_,h.e.fr hf (z (by omega) hgE),?_,?_,?_,by have:=h.n;have:=hf.size;omega⟩
 ·rw[he];exact g2.cell c3' n3
 ·exact g2.froz c3' n3 (by simpa using f3)
 ·rw[←mixL_yes he];exact hl1.set hx (by rw[mixL_len];exact hLV) bs
 ·intro i hi
  have hfz:=hf1.froz (h.l i hi) (z1 (by omega)) (h.lf i hi);simpa using hfz
 ·exact((h.f.mono (fun a ha _=>List.mem_append_left [w.heap.size+3,gL] ha):Fr ([gL]++[w.heap.size+3,gL]) w A).trans (hf.mono (fun a ha _=>List.mem_append_right [gL] ha))).mono (fun a ha hlt=>by simp at ha ⊢;omega)
attribute [local go_sem] Oper.semAt_some
set_option maxRecDepth 100000 in
set_option maxHeartbeats 4000000 in
theorem ends_any (gT n cT:Nat)(R:List Int)(p:Nat→Nat)(gL cL ge m ce:Nat)(bs z:Int)(Ed K LV:List Int)(ed:Nat→Bool)(w:World)(hn0:0<n)(hn:n≤1000)(hK:K.length=n)(hLV:LV.length=n)(hm0:0<m)(hm:m=Ed.length)(hm1:m≤1000)(hr:Rises Ed z)
 (hT:rnAt w gT n R p) (hL:rowAt w gL n LV) (hLf:soft w gL n) (hE:rowAt w ge m Ed) (hgE:ge≠gL) (hgT:gT≠gL)
 (H113:∀x,x<n→∀X:World,Fr [gL] w X→Calls Tryz.prog 124 #[.int .i32 (nth R x)] X fun e w'=>e=.returned (.int .i64 (nth K x))∧Fr [] X w')
 (hed:∀x,x<n→Ed.contains ((p (x+1):Nat):Int)=ed (x+1)) (hed0:endAt K ed n=false) :
 Calls Tryz.prog 206 #[.slice (some ⟨gT,0,none⟩) n cT,.slice (some ⟨gL,0,none⟩) n cL,.int .i64 bs,.slice (some ⟨ge,0,none⟩) m ce] w fun e w'=>e=.returned (.tuple #[])∧rowAt w' gL n (mixL K LV bs ed 0)∧Fr [gL] w w':=by
 have hTw:gT<w.heap.size:=World.block_lt_of_cell? _ _ (hT 0 hn0).1;have hLw:gL<w.heap.size:=World.block_lt_of_cell? _ _ (hL 0 hn0);have hEw:ge<w.heap.size:=World.block_lt_of_cell? _ _ (hE 0 hm0);have HST:=hid (fun w=>fn198_any gT n cT w);have H159:=hid (fun(y:Int) (X:World) (h:rowAt X ge m Ed)=>by have h5:=search_l Ed z hr y ge ce X (by omega) (by rw[←hm];exact h);rw[←hm]at h5;exact h5);have HC:=hid H113;have HED:=hid hed;have HKL:=hid hK;have HT:=hid hT;have HL:=hid (show rowAt w gL n (mixL K LV bs ed n) by rw[←hLV,mixL_start,hLV];exact hL);have HLF:=hid hLf;have HE:=hid hE;have HE0:=hid hed0;have HLV:=hid hLV;clear hT hL hLf hE H113 hed hr hed0 hm hK hLV;refine(callsIn_wide (n:=3)).1 ?_;refine callsIn_of_wp_marks Tryz.func206 rfl trivial ?_ rfl;simp only[Tryz.ntmps206,List.size_toArray,List.length_cons,List.length_nil,Nat.reduceAdd,Nat.reduceSub,Array.replicate_succ,Array.replicate_zero,List.push_toArray,List.append_toArray,List.nil_append,List.cons_append];gi_wp2_with (refine⟨trivial,?_⟩;gi_at_call 227;refine(callsIn_wide.2 (HST.out _)).mono ?_;rintro e w' ⟨rfl,rfl⟩);obtain⟨W0,hW0⟩:∃W0,((((w.alloc (.cells #[.slice (some ⟨gL,0,none⟩) n cL] 22)).alloc (.cells #[.int .i64 bs] 3)).alloc (.cells #[.slice (some ⟨ge,0,none⟩) m ce] 22)).alloc (.cells #[.bool false] 4)).alloc (.cells #[.slice (some ⟨gT,0,none⟩) n cT] 29)=W0:=⟨_,rfl⟩;have hsz:W0.heap.size=w.heap.size+5:=by rw[←hW0];simp
 have hV0:VE w W0.heap.size gT n cT R p gL cL bs ge m ce Ed K LV ed n W0:=by
  have hf:Fr [] w W0:=by rw[←hW0];exact(((((Fr.refl [] w).alloc _).alloc _).alloc _).alloc _).alloc _
  have k0:W0.heap[w.heap.size]?=some (.cells #[.slice (some ⟨gL,0,none⟩) n cL] 22 (0,0)):=by
   rw[←hW0];exact obj_fr (obj_new w _) (((((Fr.refl [] _).alloc _).alloc _).alloc _).alloc _) List.not_mem_nil
  have k1:W0.heap[w.heap.size+1]?=some (.cells #[.int .i64 bs] 3 (0,0)):=by
   have h:=obj_fr (obj_new (w.alloc (.cells #[.slice (some ⟨gL,0,none⟩) n cL] 22)) (.cells #[.int .i64 bs] 3)) ((((Fr.refl [] _).alloc (.cells #[.slice (some ⟨ge,0,none⟩) m ce] 22)).alloc (.cells #[.bool false] 4)).alloc (.cells #[.slice (some ⟨gT,0,none⟩) n cT] 29)) List.not_mem_nil;rw[hW0]at h;simpa using h
  have k2:W0.heap[w.heap.size+2]?=some (.cells #[.slice (some ⟨ge,0,none⟩) m ce] 22 (0,0)):=by
   have h:=obj_fr (obj_new ((w.alloc (.cells #[.slice (some ⟨gL,0,none⟩) n cL] 22)).alloc (.cells #[.int .i64 bs] 3)) (.cells #[.slice (some ⟨ge,0,none⟩) m ce] 22)) (((Fr.refl [] _).alloc (.cells #[.bool false] 4)).alloc (.cells #[.slice (some ⟨gT,0,none⟩) n cT] 29)) List.not_mem_nil;rw[hW0]at h;simpa using h
  have k3:W0.heap[w.heap.size+3]?=some (.cells #[.bool false] 4 (0,0)):=by
   have h:=obj_fr (obj_new (((w.alloc (.cells #[.slice (some ⟨gL,0,none⟩) n cL] 22)).alloc (.cells #[.int .i64 bs] 3)).alloc (.cells #[.slice (some ⟨ge,0,none⟩) m ce] 22)) (.cells #[.bool false] 4)) ((Fr.refl [] _).alloc (.cells #[.slice (some ⟨gT,0,none⟩) n cT] 29)) List.not_mem_nil;rw[hW0]at h;simpa using h
  have k4:W0.heap[w.heap.size+4]?=some (.cells #[.slice (some ⟨gT,0,none⟩) n cT] 29 (0,0)):=by
   have h:=obj_new ((((w.alloc (.cells #[.slice (some ⟨gL,0,none⟩) n cL] 22)).alloc (.cells #[.int .i64 bs] 3)).alloc (.cells #[.slice (some ⟨ge,0,none⟩) m ce] 22)).alloc (.cells #[.bool false] 4)) (.cells #[.slice (some ⟨gT,0,none⟩) n cT] 29);rw[hW0]at h;simpa using h
  exact⟨⟨HT.out.fr hf List.not_mem_nil,obj_cell k4 (i:=0) rfl⟩,obj_cell k0 (i:=0) rfl,obj_cell k1 (i:=0) rfl,obj_cell k2 (i:=0) rfl,by rw[HE0.out];exact obj_cell k3 (i:=0) rfl,obj_froz k3 0,HE.out.fr hf List.not_mem_nil,HL.out.fr hf List.not_mem_nil,fun i hi=>hf.froz (HL.out i hi) List.not_mem_nil (HLF.out i hi),hf.mono (fun _ h _=>absurd h List.not_mem_nil),Nat.le_refl _⟩
 rw[hW0];refine wpIn_range_al rfl (by omega) (gf:=248) (lb:=#[.pointer (some ⟨w.heap.size+4,0,none⟩)]) rfl trivial (enters_of Tryz.func248 (by kernel_rfl) rfl)
  (encs:=fun x:Nat=>#[.int .i64 x,.agg #[.int .i32 (nth R x),.int .i64 (p x:Nat),.int .i64 (p (x+1):Nat)]]) (fun _=>rfl)
  (VE w W0.heap.size gT n cT R p gL cL bs ge m ce Ed K LV ed) (fun _ _ h=>h.n) (fun _ _ _ h hb=>h.below hsz hTw hLw hEw hb)
  (fun j x=>j=x+1∧x<n) (fun _ x=>x) n 0
  (fun l V' W h1 h2 h3 h4=>back_rn gT n cT R p _ (by omega) _ l V' (fun C A h=>(h1 C A h).v) h3 W h4)
  (fun x=>.cells #[.int .i32 (nth R x),.int .i64 (p x:Nat),.int .i64 (p (x+1):Nat)] 94)
  (fun x b=>{ tmps:=#[.slice (some ⟨gT,0,none⟩) n cT,.slice (some ⟨gL,0,none⟩) n cL,.int .i64 bs,.slice (some ⟨ge,0,none⟩) m ce,undef,.pointer (some ⟨w.heap.size,0,none⟩),.pointer (some ⟨w.heap.size+1,0,none⟩),.pointer (some ⟨w.heap.size+2,0,none⟩),.pointer (some ⟨w.heap.size+3,0,none⟩),.int .i64 x,.pointer (some ⟨b,0,none⟩),undef,undef,undef,.slice (some ⟨gT,0,none⟩) n cT,.func (.func 248) #[] #[.pointer (some ⟨w.heap.size+4,0,none⟩)],.int .i64 x,.agg #[.int .i32 (nth R x),.int .i64 (p x:Nat),.int .i64 (p (x+1):Nat)],undef,undef,undef,undef,undef,undef,undef,undef,undef,undef,undef,undef,undef,undef,undef,undef,undef,undef,undef,undef,undef,undef,undef,undef,undef,undef,undef,undef,undef,undef,undef],defers:=[] })
  hV0 ?assign ?body ?done
 case assign =>
  intro l x W K hK;gi_wp2;exact hK
 case body =>
  rintro l j x A b hV ⟨rfl,hx⟩ hob hb;have r0:=obj_cell hob (i:=0) rfl;have HOB:=hid hob;have HV:=hid hV;have H1:=hid (HC.out x hx A hV.f);have HS2:=hid (endAt_step K ed (i:=x) (by rw[HKL.out];exact hx));have HDD:=hid (HED.out x hx);have hxI:(x:Int)<(n:Int):=by omega
  have HTR:=hid (fun X:World=>trails_any (nth K x) X);generalize nth K x=c at *;clear hV0 hW0 HST hob;have R2:=hid (obj_cell HOB.out (i:=2) rfl);have B0:=hid HV.out.b0;have B1:=hid HV.out.b1;have B2:=hid HV.out.b2;have B3:=hid HV.out.b3;have F3:=hid HV.out.f3;have L0:=hid (HV.out.l x hx);have L1:=hid (HV.out.lf x hx);clear hV;have H2:=hid (fun(X:World) (h:rowAt X ge m Ed)=>by have h5:=H159.out ((p (x+1):Nat):Int) X h;rw[HDD.out]at h5;exact h5);generalize cidx Ed ((p (x+1):Nat):Int)=ci at *;have HYES:=hid (fun(B:World) (he:endAt K ed x=true) (hG:Fr [] A B)=>HV.out.yes hx HLV.out hsz hTw hLw hEw hgE hgT he hG);have HNO:=hid (fun(B:World) (he:endAt K ed x=false) (hG:Fr [] A B)=>HV.out.no hsz hTw hLw hEw he hG);by_cases h11:c=11
  ·subst h11
   have HEE:=hid (show endAt K ed x=true by rw[HS2.out];simp[stops]);generalize ed (x+1)=dd at *;generalize endAt K ed (x+1)=e1 at *;gi_wp2_with (first | (refine⟨trivial,?_⟩;gi_at_call 124;refine(CallsIn.inRound l (callsIn_wide.2 H1.out)).mono ?_;rintro e w1 ⟨rfl,hf1⟩;have HF1:=hid hf1;have r2:=hf1.cell R2.out List.not_mem_nil;have d2:=hf1.cell B2.out List.not_mem_nil;have d3:=hf1.cell B3.out List.not_mem_nil;have d4:=hf1.froz B3.out List.not_mem_nil F3.out;have d0:=hf1.cell B0.out List.not_mem_nil;have d1:=hf1.cell B1.out List.not_mem_nil;have l0:=hf1.cell L0.out List.not_mem_nil;have l1:=hf1.froz L0.out List.not_mem_nil L1.out;have HE1:=hid (HV.out.e.fr hf1 List.not_mem_nil);clear hf1) | (refine⟨trivial,?_⟩;gi_at_call 166;refine(CallsIn.inRound l (callsIn_wide.2 (H2.out _ HE1.out))).mono ?_;rintro e w2 ⟨rfl,q,rfl⟩) | (refine⟨trivial,?_⟩;gi_at_call 228;refine(CallsIn.inRound l (callsIn_wide.2 (HTR.out _))).mono ?_;rintro e w3 ⟨rfl,rfl⟩) | (refine⟨trivial,?_⟩));exact HYES.out _ HEE.out (HF1.out.trans (fr_drewN _ _))
  ·by_cases h10:c=10
   ·subst h10
    have HEE:=hid (show endAt K ed x=true by rw[HS2.out];simp[stops]);generalize ed (x+1)=dd at *;generalize endAt K ed (x+1)=e1 at *;gi_wp2_with (first | (refine⟨trivial,?_⟩;gi_at_call 124;refine(CallsIn.inRound l (callsIn_wide.2 H1.out)).mono ?_;rintro e w1 ⟨rfl,hf1⟩;have HF1:=hid hf1;have r2:=hf1.cell R2.out List.not_mem_nil;have d2:=hf1.cell B2.out List.not_mem_nil;have d3:=hf1.cell B3.out List.not_mem_nil;have d4:=hf1.froz B3.out List.not_mem_nil F3.out;have d0:=hf1.cell B0.out List.not_mem_nil;have d1:=hf1.cell B1.out List.not_mem_nil;have l0:=hf1.cell L0.out List.not_mem_nil;have l1:=hf1.froz L0.out List.not_mem_nil L1.out;have HE1:=hid (HV.out.e.fr hf1 List.not_mem_nil);clear hf1) | (refine⟨trivial,?_⟩;gi_at_call 166;refine(CallsIn.inRound l (callsIn_wide.2 (H2.out _ HE1.out))).mono ?_;rintro e w2 ⟨rfl,q,rfl⟩) | (refine⟨trivial,?_⟩;gi_at_call 228;refine(CallsIn.inRound l (callsIn_wide.2 (HTR.out _))).mono ?_;rintro e w3 ⟨rfl,rfl⟩) | (refine⟨trivial,?_⟩));exact HYES.out _ HEE.out (HF1.out.trans (fr_drewN _ _))
   ·have hb11:(c == 11)=false:=by simp[h11]
    have hb10:(c == 10)=false:=by simp[h10]
    have HEE:=hid (show endAt K ed x=(trail c && (endAt K ed (x+1) || ed (x+1))) by rw[HS2.out];simp[stops,h11,h10]);generalize ed (x+1)=dd at *;generalize endAt K ed (x+1)=e1 at *;generalize trail c=tr at *;cases tr
    ·gi_wp2_with (first | (refine⟨trivial,?_⟩;gi_at_call 124;refine(CallsIn.inRound l (callsIn_wide.2 H1.out)).mono ?_;rintro e w1 ⟨rfl,hf1⟩;have HF1:=hid hf1;have r2:=hf1.cell R2.out List.not_mem_nil;have d2:=hf1.cell B2.out List.not_mem_nil;have d3:=hf1.cell B3.out List.not_mem_nil;have d4:=hf1.froz B3.out List.not_mem_nil F3.out;have d0:=hf1.cell B0.out List.not_mem_nil;have d1:=hf1.cell B1.out List.not_mem_nil;have l0:=hf1.cell L0.out List.not_mem_nil;have l1:=hf1.froz L0.out List.not_mem_nil L1.out;have HE1:=hid (HV.out.e.fr hf1 List.not_mem_nil);clear hf1) | (refine⟨trivial,?_⟩;gi_at_call 166;refine(CallsIn.inRound l (callsIn_wide.2 (H2.out _ HE1.out))).mono ?_;rintro e w2 ⟨rfl,q,rfl⟩) | (refine⟨trivial,?_⟩;gi_at_call 228;refine(CallsIn.inRound l (callsIn_wide.2 (HTR.out _))).mono ?_;rintro e w3 ⟨rfl,rfl⟩) | (refine⟨trivial,?_⟩))
     exact HNO.out _ (by rw[HEE.out];rfl) (HF1.out.trans (fr_drewN _ _))
    ·cases e1
     ·cases dd
      ·gi_wp2_with (first | (refine⟨trivial,?_⟩;gi_at_call 124;refine(CallsIn.inRound l (callsIn_wide.2 H1.out)).mono ?_;rintro e w1 ⟨rfl,hf1⟩;have HF1:=hid hf1;have r2:=hf1.cell R2.out List.not_mem_nil;have d2:=hf1.cell B2.out List.not_mem_nil;have d3:=hf1.cell B3.out List.not_mem_nil;have d4:=hf1.froz B3.out List.not_mem_nil F3.out;have d0:=hf1.cell B0.out List.not_mem_nil;have d1:=hf1.cell B1.out List.not_mem_nil;have l0:=hf1.cell L0.out List.not_mem_nil;have l1:=hf1.froz L0.out List.not_mem_nil L1.out;have HE1:=hid (HV.out.e.fr hf1 List.not_mem_nil);clear hf1) | (refine⟨trivial,?_⟩;gi_at_call 166;refine(CallsIn.inRound l (callsIn_wide.2 (H2.out _ HE1.out))).mono ?_;rintro e w2 ⟨rfl,q,rfl⟩) | (refine⟨trivial,?_⟩;gi_at_call 228;refine(CallsIn.inRound l (callsIn_wide.2 (HTR.out _))).mono ?_;rintro e w3 ⟨rfl,rfl⟩) | (refine⟨trivial,?_⟩))
       exact HNO.out _ (by rw[HEE.out];rfl) (HF1.out.trans (fr_drewN _ _))
      ·gi_wp2_with (first | (refine⟨trivial,?_⟩;gi_at_call 124;refine(CallsIn.inRound l (callsIn_wide.2 H1.out)).mono ?_;rintro e w1 ⟨rfl,hf1⟩;have HF1:=hid hf1;have r2:=hf1.cell R2.out List.not_mem_nil;have d2:=hf1.cell B2.out List.not_mem_nil;have d3:=hf1.cell B3.out List.not_mem_nil;have d4:=hf1.froz B3.out List.not_mem_nil F3.out;have d0:=hf1.cell B0.out List.not_mem_nil;have d1:=hf1.cell B1.out List.not_mem_nil;have l0:=hf1.cell L0.out List.not_mem_nil;have l1:=hf1.froz L0.out List.not_mem_nil L1.out;have HE1:=hid (HV.out.e.fr hf1 List.not_mem_nil);clear hf1) | (refine⟨trivial,?_⟩;gi_at_call 166;refine(CallsIn.inRound l (callsIn_wide.2 (H2.out _ HE1.out))).mono ?_;rintro e w2 ⟨rfl,q,rfl⟩) | (refine⟨trivial,?_⟩;gi_at_call 228;refine(CallsIn.inRound l (callsIn_wide.2 (HTR.out _))).mono ?_;rintro e w3 ⟨rfl,rfl⟩) | (refine⟨trivial,?_⟩))
       exact HYES.out _ (by rw[HEE.out];rfl) (HF1.out.trans (fr_drewN _ _))
     ·gi_wp2_with (first | (refine⟨trivial,?_⟩;gi_at_call 124;refine(CallsIn.inRound l (callsIn_wide.2 H1.out)).mono ?_;rintro e w1 ⟨rfl,hf1⟩;have HF1:=hid hf1;have r2:=hf1.cell R2.out List.not_mem_nil;have d2:=hf1.cell B2.out List.not_mem_nil;have d3:=hf1.cell B3.out List.not_mem_nil;have d4:=hf1.froz B3.out List.not_mem_nil F3.out;have d0:=hf1.cell B0.out List.not_mem_nil;have d1:=hf1.cell B1.out List.not_mem_nil;have l0:=hf1.cell L0.out List.not_mem_nil;have l1:=hf1.froz L0.out List.not_mem_nil L1.out;have HE1:=hid (HV.out.e.fr hf1 List.not_mem_nil);clear hf1) | (refine⟨trivial,?_⟩;gi_at_call 166;refine(CallsIn.inRound l (callsIn_wide.2 (H2.out _ HE1.out))).mono ?_;rintro e w2 ⟨rfl,q,rfl⟩) | (refine⟨trivial,?_⟩;gi_at_call 228;refine(CallsIn.inRound l (callsIn_wide.2 (HTR.out _))).mono ?_;rintro e w3 ⟨rfl,rfl⟩) | (refine⟨trivial,?_⟩))
      exact HYES.out _ (by rw[HEE.out];rfl) (HF1.out.trans (fr_drewN _ _))
 case done =>
  rintro D A hV hD hKd;have HV:=hid hV;clear hV hV0 hW0;gi_wp2;refine⟨by simp,.inl ⟨_,_,rfl,run_takeDeferred hKd,?_⟩⟩;refine⟨_,results_none rfl _ _ _,rfl,?_,?_⟩
  ·exact(HV.out.below hsz hTw hLw hEw (below_put hD _)).l
  ·exact(HV.out.below hsz hTw hLw hEw (below_put hD _)).f
end Go.Proofs.YtnakejhohdbfdaaGreatDoor
namespace Go.Proofs
open Go.Shelf
namespace YtnakejhohdbfdaaGreatDoor
open Go.RowKit
end YtnakejhohdbfdaaGreatDoor
end Go.Proofs
namespace Go.Proofs.YtnakejhohdbfdaaGreatDoor
open Go.RowKit Lev Lay
def sl0 (w:World)(B:Nat)(v:Value)(l:List Int):Prop:=∃a c,v=.slice a l.length c∧(l.length=0∨∃g,a=some ⟨g,0,none⟩∧B≤g∧rowAt w g l.length l)
theorem sl0.fr {S:List Nat}{w w':World}{B:Nat}{v:Value}{l:List Int}(h:sl0 w B v l)(hf:Fr S w w')(hS:∀k∈S,k<B):sl0 w' B v l:=by
 obtain⟨a,c,h1,h2⟩:=h;refine⟨a,c,h1,h2.imp id ?_⟩;rintro ⟨g,h3,h4,h5⟩;exact⟨g,h3,h4,h5.fr hf (fun hm=>by have:=hS g hm;omega)⟩
def clP (B V X:List Int)(c:Nat):List (Int × Int × Int × Int):=(List.range c).map fun i=>(nth B i,nth B (i+1),nth V i,nth X i)
theorem clP_len (B V X:List Int)(c:Nat):(clP B V X c).length=c:=by simp[clP]
theorem clP_at (B V X:List Int){c i:Nat}(h:i<c):(clP B V X c)[i]?=some (nth B i,nth B (i+1),nth V i,nth X i):=by simp[clP,h]
theorem sl0.row {w:World}{B:Nat}{v:Value}{l:List Int}(h:sl0 w B v l)(h0:0<l.length):∃g c,v=.slice (some ⟨g,0,none⟩) l.length c∧B≤g∧rowAt w g l.length l:=by
 obtain⟨a,c,h1,h2⟩:=h
 rcases h2 with h3 | ⟨g,rfl,h4,h5⟩
 ·omega
 ·exact⟨g,c,h1,h4,h5⟩
end Go.Proofs.YtnakejhohdbfdaaGreatDoor
namespace Go.Proofs.YtnakejhohdbfdaaGreatDoor
open Go.RowKit Lev
theorem look_in (P:Int→Prop)(h0:P 0):∀(l:List (Int × Int × Int)) (r:Int),(∀x∈l,P x.2.2)→P (Tabs.look l r)
 | [],_,_=>h0
 | x :: l,r,h=>by
   rw[Tabs.look];split
   ·exact h x List.mem_cons_self
   ·exact look_in P h0 l r (fun y hy=>h y (List.mem_cons_of_mem _ hy))
theorem class_in (r:Int):0≤Tabs.look Tabs.classTab r∧Tabs.look Tabs.classTab r≤22 :=
 look_in (fun c=>0≤c∧c≤22) (by decide) Tabs.classTab r (by decide)
theorem Kl_in (s:ByteArray)(n:Nat):∀i,0≤nth (Kl s n) i∧nth (Kl s n) i≤22:=fun i=>by
 by_cases h:i<n
 ·have e:nth (Kl s n) i=Tabs.look Tabs.classTab (Dec.rune s i):=by simp[nth,Kl,h]
  rw[e];exact class_in _
 ·have e:nth (Kl s n) i=0:=by simp[nth,Kl,h]
  rw[e];decide
structure Ground (w:World):Prop where
 u:Lib.Utf8Tabs 1 2 w
 t3:Cls.TabAt w 3 Tabs.lowTab
 t4:Cls.TabAt w 4 Tabs.highTab
 e:w.cell? ⟨0,0,none⟩=some (As.rty 86)
end Go.Proofs.YtnakejhohdbfdaaGreatDoor

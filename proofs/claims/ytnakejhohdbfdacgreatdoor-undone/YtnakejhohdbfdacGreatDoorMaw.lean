import Derived.RangeFuncNested
import Derived.RangeFuncBound
import Derived.RangeFuncCalls
import Derived.RangeFuncLeaves
import Derived.Test.YtnakejhohdbfdacGreatDoorMag
namespace Go.Proofs.YtnakejhohdbfdacGreatDoor
open Go.RowKit
def Qe {σ:Type}(B:Nat)(V:σ->World->Prop)(s:σ)(A:World):Exit->Act->World->Prop
 | .normal,_,A'=>(∀k,B<=k->k<A.heap.size->A'.heap[k]?=A.heap[k]?)/\V s A'
 | _,_,_=>False
theorem jB {B l:Nat}{A:World}(hl:B<=l)(o:Obj):Below B A (A.putObj l o) :=
 ⟨rfl,rfl,rfl,by simp,fun k hk=>fK (by omega)⟩
theorem zw {B:Nat}{A A':World}(h:Fr [] A A')(hB:B<=A.heap.size):Below B A A':=h.below hB (fun _ hk=>absurd hk aj)
theorem vK {σ α:Type}{F:Fence}{n:Nat}{P:Program}{g:Operand}{ps:Array Tmp}{assign body:Code}{Q:Exit->Act->World->Prop}{a:Act}{w:World}
 (hro:F.round=none) (h1:1<=n) {gf:Nat} {lb:Array Value} (hg:a.eval g=.func (.func gf) #[] lb) (hFg:F.fn gf) (eg:∀args w,(callFunc gf args).run P w=.ok (.enter gf args) w)
 {encs:α->Array Value} (hps:∀x,(encs x).size=ps.size)
 (V:σ->World->Prop) (hVs:∀s A,V s A->w.heap.size<=A.heap.size) (hV:∀s A B,V s A->Below w.heap.size A B->V s B) (ok:σ->α->Prop) (nx:σ->α->σ) (s0 s1:σ)
 (hseq:∀(l:Nat) (V':σ->World->Prop) (W:World),(∀s A,V' s A->V s A)->(∀s A B,V' s A->Fr [] A B->V' s B) ->
   (∀s x A,V' s A->ok s x->YieldAt F (n - 1 - 1) P l (encs x) A fun e B=>e=.returned (.bool true)/\V' (nx s x) B)->V' s0 W ->
   CallsIn F (n - 1) P gf (#[.func (.yield l) #[] #[]]++lb) W fun e B=>(∃v,e=.returned v)/\V' s1 B)
 (a₁:α->Act) (h0:V s0 w)
 (hassign:∀(l:Nat) (x:α) (W:World) (K:Act->World->Prop),K (a₁ x) W ->
   assign.wpIn (F.inRound l) (n - 1 - 1) P (Exit.then K (fun _ _ _=>False)) { tmps:=(ps.zip (encs x)).foldl (fun t (p,v)=>t.setIfInBounds p v) a.tmps,defers:=[] } W)
 (hbody:∀(l:Nat) (s:σ) (x:α) (A:World),V s A->ok s x->body.wpIn (F.inRound l) (n - 1 - 1) P (Qe w.heap.size V (nx s x) A) (a₁ x) A)
 (hdone:∀(D:Nat) (A:World),V s1 A->w.heap.size<=D->A.heap[D]?=some (.deferred (some []))->Q .normal { a with defers:={ target:=.collected D,args:=#[] } :: a.defers } A) :
 (Code.rangeFunc g ps assign body).wpIn F n P Q a w:=by
 refine wpIn_rangeFunc ?_;intro fn hfn;rw[hro];obtain⟨rec,hrec⟩:∃rec:LoopState->Option Code->Loop,rec=fun st pe=>{ state:=st,pending:=pe,fn,tmps:=a.tmps,params:=ps,assign,body,defers:=w.heap.size }:=⟨_,rfl⟩
 obtain⟨W1,hW1⟩:∃W1,(w.alloc (.deferred (some []))).alloc (.loop (rec .ready none))=W1:=⟨_,rfl⟩;have hL1:W1.heap[w.heap.size+1]?=some (.loop (rec .ready none)):=by
  rw[<-hW1];have:=fR (w.alloc (.deferred (some []))) (.loop (rec .ready none));rwa [fD]at this
 have hK1:W1.heap[w.heap.size]?=some (.deferred (some [])):=by
  rw[<-hW1];exact(fS _ _ _ (by simp)).trans (fR w _)
 have hI1:V s0 W1:=by
  rw[<-hW1];exact hV _ _ _ h0 (((fN _ w).alloc (au _) _).alloc (by simp) _)
 let V':σ->World->Prop:=fun s A=>V s A/\A.heap[w.heap.size+1]?=some (.loop (rec .ready none))/\A.heap[w.heap.size]?=some (.deferred (some []))
 refine⟨w.heap.size+1,[{ target:=.collected w.heap.size,args:=#[] }],W1,{ target:=.fn (.func gf) lb,args:=#[.func (.yield (w.heap.size+1)) #[] #[]] },W1,gf,
  #[.func (.yield (w.heap.size+1)) #[] #[]]++lb,W1,?_,?_,?_,?_,fun _=>h1,?_⟩
 ·rw[<-hW1,hrec];exact iC _ _ _ _ _
 ·simp only[resolve,hg]
  simp[go_sem]
 ·intro f' hf';simp[Target.leads]at hf';subst hf';exact hFg
 ·simp[invoke,go_sem,eg]
 ·refine(hseq (w.heap.size+1) V' W1 (fun s A h=>h.1) (fun s A B h hf=>?_) ?_ ⟨hI1,hL1,hK1⟩).mono ?_
  ·obtain⟨k1,k2,k3⟩:=h
   exact⟨hV _ _ _ k1 (zw hf (hVs _ _ k1)),(hf.block _ (aC.1 k2).1 aj).trans k2,(hf.block _ (aC.1 k3).1 aj).trans k3⟩
  ·rintro s x W ⟨hi,hl,hk⟩ hok
   have hlt:w.heap.size+1<W.heap.size:=(aC.1 hl).1;have hy:=run_yield (P:=P) (args:=encs x) hl (by rw[hrec];exact hps x);rw[hrec]at hy;refine⟨fn,_,assign,body,hy,roundIn_of_wpIn hfn (hassign _ x W _ ⟨_,run_beginRound hl (by rw[hrec]),?_⟩)⟩;have hl2:(W.putObj (w.heap.size+1) (.loop { rec .ready none with state:=.busy })).heap[w.heap.size+1]?=some (.loop { rec .ready none with state:=.busy }):=fZ hlt;have hk2:(W.putObj (w.heap.size+1) (.loop { rec .ready none with state:=.busy })).heap[w.heap.size]?=some (.deferred (some [])):=(fK (by omega)).trans hk;refine wpIn_mono (hbody _ s x _ (hV _ _ _ hi (jB (by omega) _)) hok) ?_;rintro e a3 W3 hp;cases e with
   | normal =>
     obtain⟨hkeep,hi3⟩:=hp;have hl3:=(hkeep (w.heap.size+1) (by omega) (by rw[gA];exact hlt)).trans hl2;have hk3:=(hkeep w.heap.size (by omega) (by rw[gA];omega)).trans hk2;have hr:=run_endRound (P:=P) none hl3;rw[hrec]at hr hl3;refine⟨_,_,hr,rfl,hV _ _ _ hi3 (jB (by omega) _),?_,(fK (by omega)).trans hk3⟩;rw[hrec];exact fZ (aC.1 hl3).1
   | ret=>exact hp.elim
   | exit id=>exact hp.elim
   | goto t=>exact hp.elim
   | panic ch=>exact hp.elim
   | outgrown=>exact hp.elim
  ·rintro e W2 ⟨⟨v,rfl⟩,hi,hl,hk⟩
   exact⟨none,_,by have:=run_endLoop (P:=P) hl (by rw[hrec];simp);rw[hrec]at this;exact this,hdone _ _ (hV _ _ _ hi (jB (by omega) _)) (au _) ((fK (by omega)).trans hk)⟩
def X9 {σ:Type}(B:Nat)(V:σ->World->Prop)(Vx:World->Prop)(s:σ)(A:World):Exit->Act->World->Prop
 | .normal,_,A'=>(∀k,B<=k->k<A.heap.size->A'.heap[k]?=A.heap[k]?)/\V s A'
 | .ret,_,A'=>(∀k,B<=k->k<A.heap.size->A'.heap[k]?=A.heap[k]?)/\Vx A'
 | _,_,_=>False
theorem DF {σ α:Type}{F:Fence}{n:Nat}{P:Program}{g:Operand}{ps:Array Tmp}{assign body:Code}{Q:Exit->Act->World->Prop}{a:Act}{w:World}
 (hro:F.round=none) (h1:1<=n) {gf:Nat} {lb:Array Value} (hg:a.eval g=.func (.func gf) #[] lb) (hFg:F.fn gf) (eg:∀args w,(callFunc gf args).run P w=.ok (.enter gf args) w)
 {encs:α->Array Value} (hps:∀x,(encs x).size=ps.size)
 (V:σ->World->Prop) (Vx:World->Prop) (hVs:∀s A,V s A->w.heap.size<=A.heap.size) (hV:∀s A B,V s A->Below w.heap.size A B->V s B) (Zy:∀A B,Vx A->Below w.heap.size A B->Vx B) (ok:σ->α->Prop) (nx:σ->α->σ) (s0 s1:σ)
 (hseq:∀(l:Nat) (V':σ->World->Prop) (T2:World->Prop) (W:World),(∀s A,V' s A->V s A)->(∀s A B,V' s A->Fr [] A B->V' s B) ->
   (∀s x A,V' s A->ok s x->YieldAt F (n - 1 - 1) P l (encs x) A fun e B=>(e=.returned (.bool true)/\V' (nx s x) B)\/(e=.returned (.bool false)/\T2 B))->V' s0 W ->
   CallsIn F (n - 1) P gf (#[.func (.yield l) #[] #[]]++lb) W fun e B=>(∃v,e=.returned v)/\(V' s1 B\/T2 B))
 (a₁:α->Act) (h0:V s0 w)
 (hassign:∀(l:Nat) (x:α) (W:World) (K:Act->World->Prop),K (a₁ x) W ->
   assign.wpIn (F.inRound l) (n - 1 - 1) P (Exit.then K (fun _ _ _=>False)) { tmps:=(ps.zip (encs x)).foldl (fun t (p,v)=>t.setIfInBounds p v) a.tmps,defers:=[] } W)
 (hbody:∀(l:Nat) (s:σ) (x:α) (A:World),V s A->ok s x->body.wpIn (F.inRound l) (n - 1 - 1) P (X9 w.heap.size V Vx (nx s x) A) (a₁ x) A)
 (hdone:∀(D:Nat) (A:World),V s1 A->w.heap.size<=D->A.heap[D]?=some (.deferred (some []))->Q .normal { a with defers:={ target:=.collected D,args:=#[] } :: a.defers } A)
 (hstop:∀(D:Nat) (A:World),Vx A->w.heap.size<=D->A.heap[D]?=some (.deferred (some []))->Code.ret.wpIn F n P Q { a with defers:={ target:=.collected D,args:=#[] } :: a.defers } A) :
 (Code.rangeFunc g ps assign body).wpIn F n P Q a w:=by
 refine wpIn_rangeFunc ?_;intro fn hfn;rw[hro];obtain⟨rec,hrec⟩:∃rec:LoopState->Option Code->Loop,rec=fun st pe=>{ state:=st,pending:=pe,fn,tmps:=a.tmps,params:=ps,assign,body,defers:=w.heap.size }:=⟨_,rfl⟩
 obtain⟨W1,hW1⟩:∃W1,(w.alloc (.deferred (some []))).alloc (.loop (rec .ready none))=W1:=⟨_,rfl⟩;have hL1:W1.heap[w.heap.size+1]?=some (.loop (rec .ready none)):=by
  rw[<-hW1];have:=fR (w.alloc (.deferred (some []))) (.loop (rec .ready none));rwa [fD]at this
 have hK1:W1.heap[w.heap.size]?=some (.deferred (some [])):=by
  rw[<-hW1];exact(fS _ _ _ (by simp)).trans (fR w _)
 have hI1:V s0 W1:=by
  rw[<-hW1];exact hV _ _ _ h0 (((fN _ w).alloc (au _) _).alloc (by simp) _)
 let V':σ->World->Prop:=fun s A=>V s A/\A.heap[w.heap.size+1]?=some (.loop (rec .ready none))/\A.heap[w.heap.size]?=some (.deferred (some []))
 let T2:World->Prop:=fun A=>Vx A/\A.heap[w.heap.size+1]?=some (.loop (rec .done (some .ret)))/\A.heap[w.heap.size]?=some (.deferred (some []))
 refine⟨w.heap.size+1,[{ target:=.collected w.heap.size,args:=#[] }],W1,{ target:=.fn (.func gf) lb,args:=#[.func (.yield (w.heap.size+1)) #[] #[]] },W1,gf,
  #[.func (.yield (w.heap.size+1)) #[] #[]]++lb,W1,?_,?_,?_,?_,fun _=>h1,?_⟩
 ·rw[<-hW1,hrec];exact iC _ _ _ _ _
 ·simp only[resolve,hg]
  simp[go_sem]
 ·intro f' hf';simp[Target.leads]at hf';subst hf';exact hFg
 ·simp[invoke,go_sem,eg]
 ·refine(hseq (w.heap.size+1) V' T2 W1 (fun s A h=>h.1) (fun s A B h hf=>?_) ?_ ⟨hI1,hL1,hK1⟩).mono ?_
  ·obtain⟨k1,k2,k3⟩:=h
   exact⟨hV _ _ _ k1 (zw hf (hVs _ _ k1)),(hf.block _ (aC.1 k2).1 aj).trans k2,(hf.block _ (aC.1 k3).1 aj).trans k3⟩
  ·rintro s x W ⟨hi,hl,hk⟩ hok
   have hlt:w.heap.size+1<W.heap.size:=(aC.1 hl).1;have hy:=run_yield (P:=P) (args:=encs x) hl (by rw[hrec];exact hps x);rw[hrec]at hy;refine⟨fn,_,assign,body,hy,roundIn_of_wpIn hfn (hassign _ x W _ ⟨_,run_beginRound hl (by rw[hrec]),?_⟩)⟩;have hl2:(W.putObj (w.heap.size+1) (.loop { rec .ready none with state:=.busy })).heap[w.heap.size+1]?=some (.loop { rec .ready none with state:=.busy }):=fZ hlt;have hk2:(W.putObj (w.heap.size+1) (.loop { rec .ready none with state:=.busy })).heap[w.heap.size]?=some (.deferred (some [])):=(fK (by omega)).trans hk;refine wpIn_mono (hbody _ s x _ (hV _ _ _ hi (jB (by omega) _)) hok) ?_;rintro e a3 W3 hp;cases e with
   | normal =>
     obtain⟨hkeep,hi3⟩:=hp;have hl3:=(hkeep (w.heap.size+1) (by omega) (by rw[gA];exact hlt)).trans hl2;have hk3:=(hkeep w.heap.size (by omega) (by rw[gA];omega)).trans hk2;have hr:=run_endRound (P:=P) none hl3;rw[hrec]at hr hl3;refine⟨_,_,hr,.inl ⟨rfl,hV _ _ _ hi3 (jB (by omega) _),?_,(fK (by omega)).trans hk3⟩⟩;rw[hrec];exact fZ (aC.1 hl3).1
   | ret =>
     obtain⟨hkeep,hi3⟩:=hp;have hl3:=(hkeep (w.heap.size+1) (by omega) (by rw[gA];exact hlt)).trans hl2;have hk3:=(hkeep w.heap.size (by omega) (by rw[gA];omega)).trans hk2;have hr:=run_endRound (P:=P) (some .ret) hl3;rw[hrec]at hr hl3;refine⟨_,_,hr,.inr ⟨rfl,Zy _ _ hi3 (jB (by omega) _),?_,(fK (by omega)).trans hk3⟩⟩;rw[hrec];exact fZ (aC.1 hl3).1
   | exit id=>exact hp.elim
   | goto t=>exact hp.elim
   | panic ch=>exact hp.elim
   | outgrown=>exact hp.elim
  ·rintro e W2 ⟨⟨v,rfl⟩,(⟨hi,hl,hk⟩ | ⟨hi,hl,hk⟩)⟩
   ·exact⟨none,_,by have:=run_endLoop (P:=P) hl (by rw[hrec];simp);rw[hrec]at this;exact this,hdone _ _ (hV _ _ _ hi (jB (by omega) _)) (au _) ((fK (by omega)).trans hk)⟩
   ·exact⟨some .ret,_,by have:=run_endLoop (P:=P) hl (by rw[hrec];simp);rw[hrec]at this;exact this,hstop _ _ (Zy _ _ hi (jB (by omega) _)) (au _) ((fK (by omega)).trans hk)⟩
end Go.Proofs.YtnakejhohdbfdacGreatDoor

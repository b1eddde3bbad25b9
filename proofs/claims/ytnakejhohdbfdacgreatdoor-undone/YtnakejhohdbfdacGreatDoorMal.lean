import Derived.LoopIn
import Derived.LoopNIn
import Derived.OwnWalkIn
import Derived.RangeFuncBound
import Derived.RangeFuncCalls
import Derived.RangeFuncLeaves
import Derived.RangeFuncNested
import Derived.Shelf.RegionOpen
import Derived.TacticsInMore
import Derived.Test.YtnakejhohdbfdacGreatDoorMai
import Derived.Test.YtnakejhohdbfdacGreatDoorMak
set_option maxHeartbeats 4000000
set_option maxRecDepth 100000
namespace Go.Proofs.YtnakejhohdbfdacGreatDoor.Cls.Wr
open Go.RowKit Dec BA pS Lay j9 Go.Shelf Go.Proofs.Tryz
attribute [local go_sem] gy
structure Kp (D:Nat)(A B:World):Prop where
 os:B.os=A.os
 tape:B.tape=A.tape
 output:B.output=A.output
 size:A.heap.size<=B.heap.size
 block:∀k,k<A.heap.size->k≠D->k≠D+1->B.heap[k]?=A.heap[k]?
theorem Kp.of_below {D:Nat}{A B:World}(h:Below A.heap.size A B):Kp D A B:=⟨h.os,h.tape,h.output,h.size,fun k hk _ _=>h.block k hk⟩
theorem Cw {D l:Nat}{A:World}(hl:l=D\/l=D+1)(o:Obj):Kp D A (A.putObj l o) :=
 ⟨rfl,rfl,rfl,by simp,fun k _ h1 h2=>fK (by omega)⟩
def ET (D:Nat)(V:Nat->World->Prop)(Fg:World->Nat->Prop)(i:Nat)(A:World):Exit->Act->World->Prop
 | .normal,_,A'=>A'.heap[D]?=A.heap[D]?/\A'.heap[D+1]?=A.heap[D+1]?/\A.heap.size<=A'.heap.size/\V i A'/\∀k,k<A.heap.size->Fg A k->A'.heap[k]?=A.heap[k]?/\Fg A' k
 | _,_,_=>False
theorem vH {α:Type}{F:Fence}{n:Nat}{P:Program}{g:Operand}{ps:Array Tmp}{assign body:Code}{Q:Exit->Act->World->Prop}{a:Act}{w:World}
 (hro:F.round=none) (h1:1<=n) {gf:Nat} {lb:Array Value} (hg:a.eval g=.func (.func gf) #[] lb) (hFg:F.fn gf) (eg:∀args w,(callFunc gf args).run P w=.ok (.enter gf args) w)
 {encs:α->Array Value} (hps:∀x,(encs x).size=ps.size)
 (V:Nat->World->Prop) (Fg:World->Nat->Prop) (hV:∀i A B,V i A->Kp w.heap.size A B->V i B) (hK:∀i A B k,V i A->Kp w.heap.size A B->Fg A k->Fg B k) (el:Nat->α) (c:Nat)
 (hseq:∀(l:Nat) (V':Nat->World->Prop) (W:World),(∀i A,V' i A->V i A)->(∀i A B,V' i A->Below A.heap.size A B->V' i B) ->
   (∀i A,V' i A->i<c->YieldAt F (n - 1 - 1) P l (encs (el i)) A fun e B=>e=.returned (.bool true)/\V' (i+1) B/\∀k,k<A.heap.size->Fg A k->B.heap[k]?=A.heap[k]?/\Fg B k)->V' 0 W ->
   CallsIn F (n - 1) P gf (#[.func (.yield l) #[] #[]]++lb) W fun e B=>(∃v,e=.returned v)/\V' c B)
 (a₁:α->Act) (h0:V 0 w)
 (hassign:∀(l:Nat) (x:α) (W:World) (K:Act->World->Prop),K (a₁ x) W ->
   assign.wpIn (F.inRound l) (n - 1 - 1) P (Exit.then K (fun _ _ _=>False)) { tmps:=(ps.zip (encs x)).foldl (fun t (p,v)=>t.setIfInBounds p v) a.tmps,defers:=[] } W)
 (hbody:∀(l i:Nat) (A:World),V i A->i<c->w.heap.size+1<A.heap.size->body.wpIn (F.inRound l) (n - 1 - 1) P (ET w.heap.size V Fg (i+1) A) (a₁ (el i)) A)
 (hdone:∀(D:Nat) (A:World),V c A->D=w.heap.size->A.heap[D]?=some (.deferred (some []))->Q .normal { a with defers:={ target:=.collected D,args:=#[] } :: a.defers } A) :
 (Code.rangeFunc g ps assign body).wpIn F n P Q a w:=by
 refine wpIn_rangeFunc ?_;intro fn hfn;rw[hro];obtain⟨rec,hrec⟩:∃rec:LoopState->Option Code->Loop,rec=fun st pe=>{ state:=st,pending:=pe,fn,tmps:=a.tmps,params:=ps,assign,body,defers:=w.heap.size }:=⟨_,rfl⟩
 obtain⟨W1,hW1⟩:∃W1,(w.alloc (.deferred (some []))).alloc (.loop (rec .ready none))=W1:=⟨_,rfl⟩;have hL1:W1.heap[w.heap.size+1]?=some (.loop (rec .ready none)):=by
  rw[<-hW1];have:=fR (w.alloc (.deferred (some []))) (.loop (rec .ready none));rwa [fD]at this
 have hK1:W1.heap[w.heap.size]?=some (.deferred (some [])):=by
  rw[<-hW1];exact(fS _ _ _ (by simp)).trans (fR w _)
 have hI1:V 0 W1:=by
  rw[<-hW1];exact hV _ _ _ h0 (Kp.of_below (((fN _ w).alloc (au _) _).alloc (by simp) _))
 let V':Nat->World->Prop:=fun i A=>V i A/\A.heap[w.heap.size+1]?=some (.loop (rec .ready none))/\A.heap[w.heap.size]?=some (.deferred (some []))
 refine⟨w.heap.size+1,[{ target:=.collected w.heap.size,args:=#[] }],W1,{ target:=.fn (.func gf) lb,args:=#[.func (.yield (w.heap.size+1)) #[] #[]] },W1,gf,
  #[.func (.yield (w.heap.size+1)) #[] #[]]++lb,W1,?_,?_,?_,?_,fun _=>h1,?_⟩
 ·rw[<-hW1,hrec];exact iC _ _ _ _ _
 ·simp only[resolve,hg]
  simp[go_sem]
 ·intro f' hf';simp[Target.leads]at hf';subst hf';exact hFg
 ·simp[invoke,go_sem,eg]
 ·refine(hseq (w.heap.size+1) V' W1 (fun i A h=>h.1) (fun i A B h hf=>?_) ?_ ⟨hI1,hL1,hK1⟩).mono ?_
  ·obtain⟨k1,k2,k3⟩:=h
   exact⟨hV _ _ _ k1 (Kp.of_below hf),(hf.block _ (aC.1 k2).1).trans k2,(hf.block _ (aC.1 k3).1).trans k3⟩
  ·rintro i W ⟨hi,hl,hk⟩ hok
   have hlt:w.heap.size+1<W.heap.size:=(aC.1 hl).1;have hy:=run_yield (P:=P) (args:=encs (el i)) hl (by rw[hrec];exact hps (el i));rw[hrec]at hy;refine⟨fn,_,assign,body,hy,roundIn_of_wpIn hfn (hassign _ (el i) W _ ⟨_,run_beginRound hl (by rw[hrec]),?_⟩)⟩;have hl2:(W.putObj (w.heap.size+1) (.loop { rec .ready none with state:=.busy })).heap[w.heap.size+1]?=some (.loop { rec .ready none with state:=.busy }):=fZ hlt;have hk2:(W.putObj (w.heap.size+1) (.loop { rec .ready none with state:=.busy })).heap[w.heap.size]?=some (.deferred (some [])):=(fK (by omega)).trans hk;have hp2:Kp w.heap.size W (W.putObj (w.heap.size+1) (.loop { rec .ready none with state:=.busy })):=Cw (.inr rfl) _;refine wpIn_mono (hbody _ i _ (hV _ _ _ hi hp2) hok (by rw[gA];exact hlt)) ?_;rintro e a3 W3 hp;cases e with
   | normal =>
     obtain⟨D4,hkL,hsz,hi3,hkp⟩:=hp;have hl3:=hkL.trans hl2;have hk3:=D4.trans hk2;have hr:=run_endRound (P:=P) none hl3;rw[hrec]at hr hl3;have Xj:Kp w.heap.size W3 (W3.putObj (w.heap.size+1) (.loop (rec .ready none))):=Cw (.inr rfl) _;rw[hrec]at Xj;refine⟨_,_,hr,rfl,⟨hV _ _ _ hi3 Xj,?_,(fK (by omega)).trans hk3⟩,fun k hkl hf=>?_⟩
     ·rw[hrec]
      exact fZ (aC.1 hl3).1
     ·obtain⟨q1,q2⟩:=hkp k (by rw[gA];exact hkl) (hK _ _ _ _ hi hp2 hf)
      refine⟨?_,hK _ _ _ _ hi3 Xj q2⟩;by_cases adO:k=w.heap.size+1
      ·rw[adO,hl,hrec]
       exact fZ (aC.1 hl3).1
      ·rw[fK (by omega),q1,fK (by omega)]
   | ret=>exact hp.elim
   | exit id=>exact hp.elim
   | goto t=>exact hp.elim
   | panic ch=>exact hp.elim
   | outgrown=>exact hp.elim
  ·rintro e W2 ⟨⟨v,rfl⟩,hi,hl,hk⟩
   exact⟨none,_,by have:=run_endLoop (P:=P) hl (by rw[hrec];simp);rw[hrec]at this;exact this,hdone _ _ (hV _ _ _ hi (Cw (.inr rfl) _)) rfl ((fK (by omega)).trans hk)⟩
def V1 (s:ByteArray)(n i:Nat):Array Value:=#[.int .i64 ((pos s (iP (jd s n) i):Nat):Int),.string (s.extract (pos s (iP (jd s n) i)) (pos s (iP (jd s n) (i+1))))]
theorem Ku (s:ByteArray)(n bt:Nat)(hs:s.size<=1000000)(hend:Dec.Ends s n)(Fg:World->Nat->Prop)(m l:Nat)(V':Nat->World->Prop)
 (hc:∀i A,V' i A->A.cell? ⟨bt,0,none⟩=some (.string s)/\TabAt A 0 jg.jr) (hnew:∀i A B k,V' i A->Below A.heap.size A B->A.heap.size<=k->Fg B k) (hfr:∀i A B,V' i A->Below A.heap.size A B->V' i B) (Kv:∀i A k,V' i A->Fg A k->Fg A.drew k)
 (hY:∀i A,V' i A->i<cn s n->YieldAt Fence.wide (m - 1) prog l (V1 s n i) A fun e B=>e=.returned (.bool true)/\V' (i+1) B/\∀k,k<A.heap.size->Fg A k->B.heap[k]?=A.heap[k]?/\Fg B k) (W:World) (h0:V' 0 W) :
 CallsIn Fence.wide m prog 115 (#[.func (.yield l) #[] #[]]++#[.pointer (some ⟨bt,0,none⟩)]) W fun e B=>(∃v,e=.returned v)/\V' (cn s n) B:=by
 have Pg:=hid (qV s W hs (hc _ _ h0).2);have b0:=(hc _ _ h0).1;have HC:=hid hc;have HNW:=hid hnew;have Tu:=hid hfr;have adQ:=hid Kv;have HY:=hid hY;have H0:=hid h0;have HE:=hid hend;obtain⟨c,hcc⟩:∃c,c=cn s n:=⟨_,rfl⟩;have hcs:c<=1000000:=by
  have h1:=(jA s n).1;have h2:=lV s n;have h3:=hend.1;rw[hcc];unfold cn;omega
 rw[<-hcc]at HY ⊢;have Xk:=hid hcc;clear hc hnew hfr Kv hY h0 hend hcc;refine callsIn_of_wp func115 rfl trivial ?_ rfl;simp only[ntmps115,cK,bg,List.length_nil,Nat.reduceAdd,Nat.reduceSub,bY,bZ,cN,b_,bT,bV];gi_wp2;refine⟨trivial,fun hd=>absurd hd (by decide),?_⟩;refine(fF.2 Pg.out).mono ?_;rintro e w1 ⟨n1,v,hn1,rfl,sY,hb1⟩;obtain rfl:=kW HE.out hn1;rw[mO HE.out,<-Xk.out]at sY;obtain⟨gb,cb,hvb⟩:=jl (by omega) sY;subst hvb;have lT:=hid sY;have HB1:=hid hb1;clear sY hb1 hn1 Pg;have hgb:=ji lT.out;have jc:=hid (HNW.out 0 W w1 gb H0.out HB1.out hgb.1);have D5:=hid (Tu.out 0 W w1 H0.out HB1.out);have HCE:Hid (∀A:World,A.heap[gb]?=w1.heap[gb]?->∀j,j<=c->A.cell? ⟨gb,j,none⟩=some (.int .i64 ((pos s (iP (jd s n) j):Nat):Int))):=fun A hA j hj=>by
  have h:=(lT.out.cellAt j (by omega)).trans (LU HE.out (by rw[<-Xk.out];exact hj));rw[<-h];unfold World.cell?;rw[hA]
 clear b0;have hcap:=uR lT.out;by_cases hcb:cb=1
 ·obtain rfl:c=0:=by omega
  gi_wp2;gi_loopw [11] (fun a wr=>a=.int .i64 0/\wr=w1) (fun _ _=>0)
  case atStart=>exact⟨rfl,rfl⟩
  case round =>
   obtain⟨rfl,rfl⟩:=hrel;gi_wp2;go_end0;exact⟨⟨_,rfl⟩,D5.out⟩
 gi_wp2;gi_loopw [11] (fun a wr=>∃k:Nat,a=.int .i64 k/\k<=c/\Hid (V' k wr)/\Hid (wr.heap[gb]?=w1.heap[gb]?)/\Hid (Fg wr gb)/\gb<wr.heap.size) (fun a _=>c - (intOf a).toNat)
 case atStart=>exact⟨0,rfl,aN _,D5,hid rfl,jc,hgb.2⟩
 case round =>
  obtain⟨k,rfl,hk,HV,HG,HF,hgl⟩:=hrel;by_cases hlt:k<c
  ·have wX:(k:Int)<(c:Int):=by omega
   have c0:=HCE.out wr HG.out k hk;have c1:=HCE.out wr HG.out (1+k) (by omega);have b0:=(HC.out _ _ HV.out).1;have HVD:=hid (Tu.out _ _ wr.drew HV.out ⟨rfl,rfl,rfl,au _,fun _ _=>rfl⟩);have HFD:=hid (adQ.out k wr gb HV.out HF.out);have hmx:Tryz.prog.follows .mixedOrders=true:=by kernel_rfl
   obtain⟨fn,tmps,assign,body,Ss,hR⟩:=HY.out k wr.drew HVD.out hlt;unfold V1 at Ss;have hp1:=Kn (s:=s) (n:=n) (i:=k) (by rw[<-Xk.out];exact hlt);have hp2:=Ga (s:=s) (n:=n) (i:=k+1) (by rw[<-Xk.out];exact hlt);have hp3:=tS s (b7 hp1);have Xj:=tS s hp2;have hp5:=HE.out.1;rw[dR 1 k]at c1;generalize pos s (iP (jd s n) k)=p0 at *;generalize pos s (iP (jd s n) (k+1))=p1 at *;rw[dR k 1]at c1;have hp6:p1<=s.size:=by omega
   clear hp1 hp2 Xj hp5;gi_wp2;gi_region_with_o (refine⟨fun hd=>absurd hd (by decide),hR.mono ?_⟩;rintro e W3 ⟨rfl,Kw,hk3⟩;have Ft:=hid Kw;have HK3:=hid (hk3 gb hgl HFD.out);clear Kw hk3)
   all_goals (
    gi_wp2
    go_roundw)
   all_goals first
    | exact⟨k+1,by go_num,by omega,Ft,hid (HK3.out.1.trans HG.out),hid HK3.out.2,by have h:=HK3.out.1;have:=(aC.1 (h.trans (Array.getElem?_eq_getElem hgl))).1;exact this⟩
    | (simp[intOf];omega)
  ·have wX:¬(k:Int)<(c:Int):=by omega
   obtain rfl:c=k:=by omega
   gi_wp2;go_end0;exact⟨⟨_,rfl⟩,HV.out⟩
attribute [local go_sem] gy
theorem xR (t:ByteArray)(w:World)(hT:Lib.Utf8Tabs 8 9 w)(h3:TabAt w 1 jg.jv)(h4:TabAt w 2 jg.jh) :
 Calls prog 70 #[.string t] w fun e w'=>e=.returned (.int .i64 (jg.look jg.iY ((Lib.decodeGo t).1:Nat)))/\Below w.heap.size w w':=by
 have LZ:=hid (Tryz.Og t w hT);have hl3:=h3.lt (by decide);have hl4:=h4.lt (by decide);have Gm:=hid (fun(Y:World) (hb:Below w.heap.size w Y)=>tD ((Lib.decodeGo t).1:Nat) Y (h3.below hl3 hb) (h4.below hl4 hb));generalize ((Lib.decodeGo t).1:Nat)=r at *;generalize (Lib.decodeGo t).2=m at *;generalize jg.look jg.iY (r:Int)=c at *;clear hT h3 h4;go_enter func70,ntmps70;go_wp2_with fail;refine LZ.out.mono ?_;rintro e w1 ⟨rfl,hb1⟩;have aao:=hid (Gm.out w1 hb1);have HB1:=hid hb1;clear hb1 LZ Gm;go_wp2_with fail;refine aao.out.mono ?_;rintro e w2 ⟨rfl,hb2⟩;have HB2:=hid (HB1.out.trans (hb2.mono HB1.out.size));clear hb2 aao;go_wp2;go_ret;exact⟨rfl,HB2.out⟩
theorem qh {F:Fence}{n:Nat}{P:Program}(w:World){ops:Array Oper}{rest:List Oper}{o:Oper}{a:Act}{Q:Exit->Act->World->Prop}
 (hg:o.guard=none) (s x:Operand) (t:TypeId) (hop:o.op=Op.call { callee:=Callee.builtin Builtin.append,args:=#[s,x],argTypes:=#[t,t] })
 (base:Nat) (e:TypeId) (i:TypeInfo) (z:Value) (size bytes:Nat) (h1:P.underlying t=some (.slice e)) (h2:P.info? e=some i) (h3:i.zero=some z) (h4:i.size=size) (h5:i.bytes=bytes) (h6:z.cells.size=size) (h7:0<size)
 (v:Value) (k:Nat) (xs:List Value) (hs:a.eval s=v) (hown:w.ownsRow base e size v k xs) (ad:Addr) (m c:Nat) (news:List Value) (hx:a.eval x=.slice (some ad) m c) (hn:news.length=m * size)
 (hc:∀j u,news[j]?=some u->w.cell? (ad.add j)=some u) (h1c:∀u∈news,u.oneCell'=true) (b1:k+m<=maxLen) (b2:(k+m) * bytes<=140737488355328) (b3:base<=w.heap.size)
 (hK:∀v' w',w'.ownsRow base e size v' (k+m) (xs++news)->w.grownBy w' v.ownBlock->(v'.ownBlock=v.ownBlock\/v'.ownBlock=some w.heap.size)->wpListIn F n P ops Q rest (a.put o.dst v') w') :
 wpListIn F n P ops Q (o :: rest) a w:=by
 refine wpListIn_plain hg fun K hK'=>?_
 obtain⟨v',w',hrun,r1,r2,_,r4⟩:=run_append_own_at (P:=P) (w:=w) base t o.type e i z size bytes h1 h2 h3 h4 h5 h6 h7 v k xs hown ad m c news hn hc h1c b1 b2 b3;unfold Oper.wpIn;refine⟨?_,?_⟩
 ·simp[Oper.about,hop,resolve,Target.leads,Sem.run_pure]
 ·rw[Oper.semAt_plain F _ _ (by rw[hop];intro c hc';cases hc')]
  simp[execOp,hop,resolve,invoke,builtin,hs,hx,hrun,Result.andThen];exact hK' _ _ (hK v' w' r1 r2 r4)
theorem jU {w w':World}{base:Nat}{e:TypeId}{size:Nat}{v:Value}{n:Nat}{xs:List Value}(h:w.ownsRow base e size v n xs)(hb:∀g,v.ownBlock=some g->w'.heap[g]?=w.heap[g]?):w'.ownsRow base e size v n xs:=by
 refine⟨h.1,?_⟩
 rcases h.2 with h1 | ⟨g,cap,cur,hv,hg,hh,r⟩
 ·exact .inl h1
 ·exact .inr ⟨g,cap,cur,hv,hg,by rw[hb g (by rw[hv];rfl)];exact hh,r⟩
theorem nG {A:World}{k:Nat}{o:Obj}(h:A.heap[k]?=some o):k<A.heap.size:=(aC.1 h).1
theorem Gn (s:ByteArray)(w:World):Calls prog 69 #[.string s] w fun e w' =>
 e=.returned (.func (.func 115) #[] #[.pointer (some ⟨w.heap.size,0,none⟩)])/\w'=w.alloc (.cells #[.string s] 9):=by
 go_enter func69,ntmps69;go_wp2;go_ret;exact⟨by simp,rfl⟩
theorem z_ {A:World}{b:Nat}{x:Value}{t:TypeId}(h:A.heap[b]?=some (.cells #[x] t (0,0))):A.cell? ⟨b,0,none⟩=some x:=by simp[World.cell?,h]
theorem Ph {R x:Int}(hx:0<=x)(hR:-1<=R/\R<=9223372036854775807):-1<=D1 R x/\D1 R x<=9223372036854775807:=by unfold D1;split <;> omega
theorem aap (x:Int):min (max x 0) 1073741824=bw x:=by unfold bw;split <;> (try split) <;> omega
theorem IV (W:List Int)(q m cp g o:Nat)(fr:Int)(b:Bool)(L:Int)(w:World)(hL:-1<=L/\L<=9223372036854775807)(hm:0<m)(hm2:m<=4096)
 (hc:∀Y,Below w.heap.size w Y->∀i,i<m->Y.cell? ⟨g,o+i,none⟩=some (.int .i64 (nth W (q+i)))) :
 Calls prog 71 #[.agg #[.int .i64 fr,.bool b,.slice (some ⟨g,o,none⟩) m cp],.int .i64 L] w fun e w'=>e=.returned (.int .i64 (D1 L (sw W q m)))/\Below w.heap.size w w':=by
 have HC:=hide hc;clear hc;obtain⟨w1,hw1⟩:∃w1,w1=w.alloc (.cells #[.int .i64 fr,.bool b,.slice (some ⟨g,o,none⟩) m cp] 104):=⟨_,rfl⟩;have HB1:=hide (show Below w.heap.size w w1 by rw[hw1];exact(fN _ w).alloc (au _) _);have ho:w1.heap[w.heap.size]?=some (.cells #[.int .i64 fr,.bool b,.slice (some ⟨g,o,none⟩) m cp] 104 (0,0)):=by rw[hw1];exact fR w _
 have b0:w1.cell? ⟨w.heap.size,2,none⟩=some (.slice (some ⟨g,o,none⟩) m cp):=by simp[World.cell?,ho]
 clear ho;obtain⟨res,hres⟩:∃res,res=D1 L (sw W q m):=⟨_,rfl⟩;rw[<-hres];have HRS:=hide hres;clear hres;go_enter func71,ntmps71;go_wp2_with fail;rw[<-hw1];clear hw1;go_wp2_with fail;clear b0;go_loopw [1,10] (fun lv iv wr=>∃(i:Nat) (x:Int),i<=m/\iv=.int .i64 i/\lv=.int .i64 x/\Hid (x=L - sw W q i)/\(-1<=x/\x<=9223372036854775807)/\wr=w1) (fun _ iv _=>m - (intOf iv).toNat)
 case atStart=>exact⟨0,L,aN _,rfl,rfl,hide (by simp[sw]),hL,rfl⟩
 case round =>
  obtain⟨i,x,him,rfl,rfl,HX,hx,rfl⟩:=hrel;by_cases hi:i<m
  ·have y_:(i:Int)<(m:Int):=by omega
   have c0:=HC.out wr HB1.out i hi;have HS:=hide (show sw W q (i+1)=sw W q i+bw (nth W (q+i))from rfl);have HM:=hide (show sw W q (i+1)<=sw W q m by have:=Kq W q (i+1) (m - (i+1));rwa [show i+1+(m - (i+1))=m by omega]at this);have hy:=O4 (nth W (q+i));have hmm:=aap (nth W (q+i));generalize bw (nth W (q+i))=y at *;generalize nth W (q+i)=z at *;by_cases hgt:x<y
   ·have HR:=hide (show res=-1 by
     rw[HRS.out]
     unfold D1
     have:=HX.out;have:=HS.out;have:=HM.out
     rw[aE (by omega)])
    go_wp2;go_ret;rw[HR.out];exact⟨rfl,HB1.out⟩
   ·have hgt2:¬x<y:=hgt
    go_wp2;exact⟨⟨i+1,x - y,by omega,by go_num,rfl,hide (by have:=HX.out;have:=HS.out;omega),by omega,trivial⟩,by simp[intOf];omega⟩
  ·obtain rfl:i=m:=by omega
   have y_:¬(i:Int)<(i:Int):=by omega
   have HR:=hide (show res=x by
    rw[HRS.out]
    unfold D1
    have:=HX.out
    split <;> omega)
   go_wp2;go_ret;rw[HR.out];exact⟨rfl,HB1.out⟩
theorem Pj {R:Int}(h:-1<=R):D1 R 0=R:=by unfold D1;split <;> omega
theorem Pk {R x:Int}(hx:0<=x):(D1 (max R (-1)) x=-1) ↔ R<x:=by unfold D1;split <;> omega
theorem Pm (B:Nat->Bool)(X P:Nat->Int)(aw:Nat->Option Addr)(mw cp:Nat->Nat)(R:Int)(c f gp o cr:Nat)(w:World)(hc:c<=4096)(hf:f<=c)(a:Option Addr)(ha:f<c->a=some ⟨gp,o,none⟩)
 (hX:∀i,i<c->0<=X i/\X i<=4398046511104) (hR:-9223372036854775808<=R/\R<=9223372036854775807)
 (hP:∀Y,Below w.heap.size w Y->∀d,f+d<c->Y.cell? ⟨gp,o+d * 3,none⟩=some (.int .i64 (P (f+d)))/\Y.cell? ⟨gp,o+d * 3+1,none⟩=some (.bool (B (f+d)))/\Y.cell? ⟨gp,o+d * 3+2,none⟩=some (.slice (aw (f+d)) (mw (f+d)) (cp (f+d))))
 (hV:∀Y,Below w.heap.size w Y->∀i,i<c->∀L,-1<=L/\L<=9223372036854775807->Calls prog 71 #[.agg #[.int .i64 (P i),.bool (B i),.slice (aw i) (mw i) (cp i)],.int .i64 L] Y fun e w'=>e=.returned (.int .i64 (D1 L (X i)))/\Below Y.heap.size Y w') :
 Calls prog 36 #[.slice a (c - f) cr,.int .i64 R] w fun e w'=>e=.returned (.int .i64 (IP B X R c f:Nat))/\Below w.heap.size w w':=by
 have HX:=hide hX;have HP:=hide hP;have HV:=hide hV;have HA:=hide ha;obtain⟨r,hr⟩:∃r,r=IP B X R c f:=⟨_,rfl⟩;rw[<-hr];have HRS:=hide hr;obtain⟨R1,hR1⟩:∃R1,R1=max R (-1):=⟨_,rfl⟩;have Xl:-1<=R1/\R1<=9223372036854775807:=by omega
 have HOV:=hide (fun(x:Int) (hx:0<=x)=>Pk (R:=R) hx);rw[<-hR1]at HOV;have hmx:max R (-1)=R1:=hR1.symm;obtain⟨k,hk⟩:∃k,k=c - f:=⟨_,rfl⟩;rw[<-hk];have HK:=hide hk;have hk4:k<=4096:=by omega
 clear hX hP hV ha hr hR1 hk;go_enter func36,ntmps36;go_wp2_with fail;clear hmx;go_loopw [5,6,13] (fun lv bv iv wr=>∃d:Nat,d<=k/\iv=.int .i64 d/\lv=.int .i64 (D1 R1 (sm X f d))/\bv=.int .i64 (lb B f d)/\Hid (Kr B X R c f (c - f - d) d=r)/\Hid (Below w.heap.size w wr)) (fun _ _ iv _=>k - (intOf iv).toNat)
 case atStart=>exact⟨0,aN _,rfl,by rw[show sm X f 0=0 from rfl,Pj Xl.1],rfl,hide (by rw[HRS.out];rfl),hide (fN _ _)⟩
 case round =>
  obtain⟨d,hd,rfl,rfl,rfl,HN,HB⟩:=hrel;have hsm:=V0 HX.out f d (by have:=HK.out;omega);have hlf:=Ph hsm.1 Xl;have hlb:=O5 B f d;by_cases hdk:d<k
  ·have hdI:(d:Int)<(k:Int):=by omega
   have hfc:f+d<c:=by have:=HK.out;omega
   have haa:=HA.out (by omega);subst haa;obtain⟨p0,p1,p2⟩:=HP.out wr HB.out d hfc;have hxb:=HX.out (f+d) hfc;have hsz:=HB.out.size;obtain⟨wq,hwq⟩:∃wq,wq=(wr.alloc (.cells #[.int .i64 (P (f+d)),.bool (B (f+d)),.slice (aw (f+d)) (mw (f+d)) (cp (f+d))] 104)):=⟨_,rfl⟩;have HQ:=hide (show Below w.heap.size w wq by rw[hwq];exact HB.out.alloc hsz _);have HO:=hide (show wq.heap[wr.heap.size]?=some (.cells #[.int .i64 (P (f+d)),.bool (B (f+d)),.slice (aw (f+d)) (mw (f+d)) (cp (f+d))] 104 (0,0)) by rw[hwq];exact fR wr _);have Xm:=hide (show sm X f (d+1)=sm X f d+X (f+d)from rfl);have Ia:=hide (Tr (R:=R1) (x:=sm X f d) (y:=X (f+d)) hxb.1);have HST:=hide (fun(h:VZ B X R f d=false)=>(Gb (B:=B) (X:=X) (R:=R) (c:=c) (f:=f) (d:=d) hfc h).symm.trans HN.out);have Fu:=hide (fun(h:VZ B X R f d=true)=>(O6 (B:=B) (X:=X) (R:=R) (c:=c) (f:=f) (d:=d) hfc h).symm.trans HN.out);have Xn:=hide (HOV.out (sm X f (d+1)) (by rw[Xm.out];omega));have Xo:=hide (show VZ B X R f d=(decide (0<d) && !B (f+d) && decide (R<sm X f (d+1)))from rfl);have Xp:=hide (show lb B f (d+1)=if B (f+d)then d+1 else lb B f d from rfl);have LZ:=hide (HV.out wq HQ.out (f+d) hfc _ hlf);rw[Ia.out,<-Xm.out]at LZ;have adV:=Ph (R:=R1) (x:=sm X f (d+1)) (by rw[Xm.out];omega) Xl;obtain⟨l1,hl1⟩:∃l1,l1=D1 R1 (sm X f (d+1)):=⟨_,rfl⟩;rw[<-hl1]at LZ adV Xn;have Su:=hide hl1;clear hl1;generalize D1 R1 (sm X f d)=l0 at *;generalize B (f+d)=b at *;generalize P (f+d)=pp at *;generalize aw (f+d)=aa at *;generalize mw (f+d)=mm at *;generalize cp (f+d)=cc at *;clear Ia Xm hsm hxb;go_wp2_with fail;rw[<-hwq];clear hwq p0 p1 p2;refine LZ.out.mono ?_;rintro e w2 ⟨rfl,hb2⟩;have HB2:=hide (HQ.out.trans (hb2.mono HQ.out.size));have q1:w2.cell? ⟨wr.heap.size,1,none⟩=some (.bool b):=by
    have h:=(hb2.block wr.heap.size (by have:=(aC.1 HO.out).1;exact this)).trans HO.out;simp[World.cell?,h]
   clear hb2 LZ HO;cases b
   ·by_cases hd0:0<d
    ·have ahU:(0:Int)<(d:Int):=by omega
     by_cases hov:l1=-1
     ·subst hov
      have Pn:=hide (Fu.out (by rw[Xo.out];simp;exact⟨hd0,Xn.out.1 rfl⟩));by_cases hl0:0<lb B f d
      ·have HR:=hide (show r=lb B f d by rw[<-Pn.out,aE hl0])
       generalize lb B f d=z at *;have ahV:(0:Int)<(z:Int):=by omega
       go_wp2;go_ret;rw[HR.out];exact⟨rfl,HB2.out⟩
      ·have HR:=hide (show r=d by rw[<-Pn.out,ay hl0])
       have hz:lb B f d=0:=by omega
       rw[hz];clear hz hl0 hlb;go_wp2;go_ret;rw[HR.out];exact⟨rfl,HB2.out⟩
     ·have ahW:(l1 == -1)=false:=by simpa using hov
      have qP:=hide (HST.out (by rw[Xo.out];simp;intro _;have:=mt Xn.out.2 hov;omega));generalize lb B f d=z at *;go_wp2;exact⟨⟨d+1,by omega,by go_num,by rw[Su.out],by rw[Xp.out];rfl,hide qP.out,HB2⟩,by simp[intOf];omega⟩
    ·obtain rfl:d=0:=by omega
     have qP:=hide (HST.out (by rw[Xo.out];simp));generalize lb B f 0=z at *;go_wp2;exact⟨⟨0+1,by omega,by go_num,by rw[Su.out],by rw[Xp.out];rfl,hide qP.out,HB2⟩,by simp[intOf];omega⟩
   ·have qP:=hide (HST.out (by rw[Xo.out];simp))
    generalize lb B f d=z at *;go_wp2;exact⟨⟨d+1,by omega,by go_num,by rw[Su.out],by rw[Xp.out];go_num,hide qP.out,HB2⟩,by simp[intOf];omega⟩
  ·obtain rfl:d=k:=by omega
   have hdI:¬(d:Int)<(d:Int):=by omega
   have HR:=hide (show r=d by rw[<-HN.out,Ts (by have:=HK.out;omega)]);go_wp2;go_ret;rw[HR.out];exact⟨rfl,HB.out⟩
end Go.Proofs.YtnakejhohdbfdacGreatDoor.Cls.Wr

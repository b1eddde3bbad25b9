import Derived.Test.YtnakejhohdbfdacGreatDoorMal
set_option maxHeartbeats 8000000
set_option maxRecDepth 100000
namespace Go.Proofs.YtnakejhohdbfdacGreatDoor.Cls.Wr
open Go.RowKit Dec BA pS Lay j9 Go.Shelf Go.Proofs.Tryz
attribute [local go_sem] gy
theorem D7 (t:ByteArray)(w:World)(ht:t.size<=4096):Calls prog 34 #[.string t] w fun e w'=>e=.returned (.int .i64 (Lib.runeCount t:Nat))/\Below w.heap.size w w' :=
 (Tryz.utf8_RuneCountInString t w (by omega)).mono (by
   rintro e w' ⟨rfl,q,rfl⟩
   exact⟨rfl,(fN _ w).alloc (au _) _⟩)
def pc (s:ByteArray)(n g o cW i:Nat):List Value:=[.int .i64 ((pos s (iP (jd s n) i):Nat):Int),.bool (blk s n i),.slice (some ⟨g,o+iP (jd s n) i,none⟩) (iP (jd s n) (i+1) - iP (jd s n) i) (cW - iP (jd s n) i)]
def IW (s:ByteArray)(n g o cW:Nat):Nat->List Value
 | 0=>[]
 | i+1=>IW s n g o cW i++pc s n g o cW i
theorem Kx (s:ByteArray)(n g o cW:Nat):∀i,(IW s n g o cW i).length=i * 3
 | 0=>rfl
 | i+1=>by rw[IW,aD,Kx s n g o cW i];simp[pc];omega
theorem EU (s:ByteArray)(n g o cW:Nat):∀c i,i<c->∀j,j<3->(IW s n g o cW c)[i * 3+j]?=(pc s n g o cW i)[j]?
 | 0,i,h,_,_=>absurd h (cu _)
 | c+1,i,h,j,hj=>by
   have hl:=Kx s n g o cW c;rw[IW]
   rcases aH (aP h)with h1 | h1
   ·rw[aJ (by omega)]
    exact EU s n g o cW c i h1 j hj
   ·subst h1
    rw[aI (by omega),hl,show i * 3+j - i * 3=j by omega]
structure PS (w:World)(s:ByteArray)(n g o cW i:Nat)(A:World):Prop where
 b:Below w.heap.size w A
 t:A.heap[w.heap.size+1+1]?=some (.cells #[.string s] 9 (0,0))
 a:∃aw,A.heap[w.heap.size]?=some (.cells #[.slice aw (n - iP (jd s n) i) (cW - iP (jd s n) i)] 32 (0,0))/\(iP (jd s n) i<n->aw=some ⟨g,o+iP (jd s n) i,none⟩)
 v:∃v,A.heap[w.heap.size+1]?=some (.cells #[v] 100 (0,0))/\A.ownsRow w.heap.size 104 3 v i (IW s n g o cW i)/\∀g',v.ownBlock=some g'->g'≠w.heap.size+3/\g'≠w.heap.size+3+1
def Dq (w A:World)(k:Nat):Prop:=k≠w.heap.size/\k≠w.heap.size+1/\∀v,A.heap[w.heap.size+1]?=some (.cells #[v] 100 (0,0))->v.ownBlock≠some k
theorem PS.kp {w A B:World}{s:ByteArray}{n g o cW i:Nat}(h:PS w s n g o cW i A)(hk:Kp (w.heap.size+3) A B):PS w s n g o cW i B:=by
 obtain⟨v,v1,v2,v3⟩:=h.v;obtain⟨aw,a1,a2⟩:=h.a;have hA:=nG h.t;refine⟨⟨hk.os.trans h.b.os,hk.tape.trans h.b.tape,hk.output.trans h.b.output,aK h.b.size hk.size,fun k hk1=>(hk.block k (by omega) (by omega) (by omega)).trans (h.b.block k hk1)⟩,?_,⟨aw,?_,a2⟩,v,?_,?_,v3⟩
 ·rw[hk.block _ (by omega) (by omega) (by omega)];exact h.t
 ·rw[hk.block _ (by omega) (by omega) (by omega)];exact a1
 ·rw[hk.block _ (by omega) (by omega) (by omega)];exact v1
 ·exact jU v2 (fun g hg=>hk.block g (v2.lt g hg).2 (v3 g hg).1 (v3 g hg).2)
theorem Dq.kp {w A B:World}{s:ByteArray}{n g o cW i k:Nat}(h:PS w s n g o cW i A)(hk:Kp (w.heap.size+3) A B)(hf:Dq w A k):Dq w B k:=by
 have hA:=nG h.t;refine⟨hf.1,hf.2.1,fun v hv=>hf.2.2 v ?_⟩;rw[hk.block _ (by omega) (by omega) (by omega)]at hv;exact hv
theorem Dq.new {w A B:World}{s:ByteArray}{n g o cW i k:Nat}(h:PS w s n g o cW i A)(hb:Below A.heap.size A B)(hk:A.heap.size<=k):Dq w B k:=by
 have hA:=nG h.t;obtain⟨v,v1,v2,_⟩:=h.v;refine⟨by omega,by omega,fun u hu e=>?_⟩;rw[hb.block _ (by omega),v1]at hu;cases hu;have:=(v2.lt k e).2;omega
theorem Xq {w A A1 A2:World}{s:ByteArray}{n g o cW i:Nat}{v v':Value}{ob:Obj}(act:Act)(h:PS w s n g o cW i A)(hb:Below A.heap.size A A1)(hv:A.heap[w.heap.size+1]?=some (.cells #[v] 100 (0,0)))(hown:A.ownsRow w.heap.size 104 3 v i (IW s n g o cW i))(hv3:∀g,v.ownBlock=some g->g≠w.heap.size+3/\g≠w.heap.size+3+1)
 (hg:(A1.alloc ob).grownBy A2 v.ownBlock) (own:A2.ownsRow w.heap.size 104 3 v' (i+1) (IW s n g o cW (i+1))) (hor:v'.ownBlock=v.ownBlock\/v'.ownBlock=some (A1.alloc ob).heap.size) (hsz:w.heap.size+3+1<A.heap.size) (aw:Option Addr) (haw:iP (jd s n) (i+1)<n->aw=some ⟨g,o+iP (jd s n) (i+1),none⟩) :
 ET (w.heap.size+3) (PS w s n g o cW) (Dq w) (i+1) A .normal act ((A2.setCell ⟨w.heap.size+1,0,none⟩ v').setCell ⟨w.heap.size,0,none⟩ (.slice aw (n - iP (jd s n) (i+1)) (cW - iP (jd s n) (i+1)))):=by
 have hs1:=hb.size;have hs2:=hg.size;rw[fD]at hs2 hor;obtain⟨aw0,a1,_⟩:=h.a;generalize hva:Value.slice aw (n - iP (jd s n) (i+1)) (cW - iP (jd s n) (i+1))=va;have h2:∀k,k<A.heap.size->v.ownBlock≠some k->A2.heap[k]?=A.heap[k]?:=fun k hk hne=>((hg.block k (by rw[fD];omega) (fun e=>hne e.symm)).trans (fS _ _ _ (by omega))).trans (hb.block k hk)
 have ho:∀k,k<A.heap.size->v.ownBlock≠some k->k≠w.heap.size+1->k≠w.heap.size->((A2.setCell ⟨w.heap.size+1,0,none⟩ v').setCell ⟨w.heap.size,0,none⟩ va).heap[k]?=A.heap[k]?:=fun k q1 q2 q3 q4=>((fP _ _ _ _ q4).trans (fP _ _ _ _ q3)).trans (h2 k q1 q2)
 have n1:v.ownBlock≠some (w.heap.size+1):=fun e=>own_ne hown hv (fun c f hc=>by cases hc) e.symm
 have n2:v.ownBlock≠some w.heap.size:=fun e=>own_ne hown a1 (fun c f hc=>by cases hc) e.symm
 have n3:v.ownBlock≠some (w.heap.size+1+1):=fun e=>own_ne hown h.t (fun c f hc=>by cases hc) e.symm
 have n4:v.ownBlock≠some (w.heap.size+3):=fun e=>(hv3 _ e).1 rfl
 have n5:v.ownBlock≠some (w.heap.size+3+1):=fun e=>(hv3 _ e).2 rfl
 have hlow:∀k,k<w.heap.size->v.ownBlock≠some k:=fun k hk e=>by have:=(hown.lt k e).1;omega
 have m1:∀g,v'.ownBlock=some g->g≠w.heap.size+1/\g≠w.heap.size/\g≠w.heap.size+3/\g≠w.heap.size+3+1:=fun g hgb=>by
  rcases hor with e | e
  ·rw[e]at hgb
   exact⟨fun q=>n1 (q ▸ hgb),fun q=>n2 (q ▸ hgb),fun q=>n4 (q ▸ hgb),fun q=>n5 (q ▸ hgb)⟩
  ·rw[hgb]at e
   have:=aZ e;omega
 have k1:=fU A2 (w.heap.size+1) 0 _ 100 v' ((h2 _ (by omega) n1).trans hv);have k2:=fU (A2.setCell ⟨w.heap.size+1,0,none⟩ v') w.heap.size 0 _ 32 va (((fP _ _ _ _ (by show w.heap.size≠w.heap.size+1;omega)).trans (h2 _ (by omega) n2)).trans a1);have hbx:((A2.setCell ⟨w.heap.size+1,0,none⟩ v').setCell ⟨w.heap.size,0,none⟩ va).heap[w.heap.size+1]?=some (.cells #[v'] 100 (0,0)):=(fP _ _ _ _ (by show w.heap.size+1≠w.heap.size;omega)).trans k1;refine⟨ho _ (by omega) n4 (by omega) (by omega),ho _ (by omega) n5 (by omega) (by omega),by rw[gq,gq];omega,⟨?_,?_,⟨aw,by rw[hva];exact k2,haw⟩,v',hbx,?_,fun g hgb=>(m1 g hgb).2.2⟩,fun k hk hf=>⟨ho k hk (hf.2.2 v hv) hf.2.1 hf.1,hf.1,hf.2.1,fun u hu e=>?_⟩⟩
 ·exact⟨(hg.os.trans hb.os).trans h.b.os,(hg.tape.trans hb.tape).trans h.b.tape,(hg.output.trans hb.output).trans h.b.output,by rw[gq,gq];have:=h.b.size;omega,fun k hk=>(ho k (by omega) (hlow k hk) (by omega) (by omega)).trans (h.b.block k hk)⟩
 ·rw[ho _ (by omega) n3 (by omega) (by omega)];exact h.t
 ·exact jU own (fun g hgb=>(fP _ _ _ _ (m1 g hgb).2.1).trans (fP _ _ _ _ (m1 g hgb).1))
 ·rw[hbx]at hu
  cases hu
  rcases hor with q | q
  ·exact hf.2.2 v hv (q ▸ e)
  ·rw[e]at q
   have:=aZ q;omega
theorem Tv:(Tryz.prog.info? 104).map (fun i=>(i.zero,i.size,i.bytes))=some (some (.agg #[.int .i64 0,.bool false,.slice none 0 0]),3,40):=by kernel_rfl
theorem EV:∃i,Tryz.prog.info? 104=some i/\i.zero=some (.agg #[.int .i64 0,.bool false,.slice none 0 0])/\i.size=3/\i.bytes=40:=by
 have h:=Tv;cases e:Tryz.prog.info? 104 with
 | none=>rw[e]at h;cases h
 | some i =>
   rw[e]at h;simp at h;exact⟨i,rfl,h.1,h.2.1,h.2.2⟩
theorem Xr (a:Int)(b:Bool)(x:Option Addr)(m c:Nat):∀u∈[Value.int .i64 a,.bool b,.slice x m c],u.oneCell'=true:=by
 intro u hu;simp only[bA,aj,fB]at hu
 rcases hu with rfl | rfl | rfl <;> rfl
def EW (ops:Array Oper):Bool:=ops.all fun o=>match o.op with | .defer _=>false | _=>true
theorem EX {ops:Array Oper}(h:EW ops=true){i:Nat}{o:Oper}(ho:ops[i]?=some o):∀c,o.op≠.defer c:=by
 intro c hc;have h1:=Array.all_eq_true_iff_forall_mem.1 h o (Array.mem_of_getElem? ho);rw[hc]at h1;cases h1
theorem Po {n:Nat}{P:Program}{ops:Array Oper}{Q:Exit->Act->World->Prop}(l:Nat)(hnd:EW ops=true){i:Nat}{K:Act->World->Prop}{a:Act}{w:World}(h:wpOpIn Fence.wide n P ops Q i K a w):wpOpIn (Fence.wide.inRound l) n P ops Q i K a w:=by
 unfold wpOpIn at h ⊢;cases ho:ops[i]? with
 | none=>rw[ho]at h;exact h
 | some o =>
   rw[ho]at h;dsimp only at h ⊢;split
   ·rename_i hw
    rw[aE hw]at h;unfold Oper.wpIn at h ⊢;refine⟨fun _ _=>trivial,?_⟩;have h2:=h.2;rw[Oper.semAt_plain _ _ _ (EX hnd ho)]at h2 ⊢;generalize (execOp a.eval o).run P w=r at *;cases r with
    | ok x w'=>cases x <;> exact h2
    | halt x w'=>cases x <;> exact h2
   ·rename_i hw
    rw[ay hw]at h;exact⟨fun _ _=>trivial,h.2⟩
theorem D8 {n:Nat}{P:Program}{ops:Array Oper}{Q:Exit->Act->World->Prop}{md:Region.Mode}(l:Nat)(hnd:EW ops=true):∀(fuel:Nat) (listed:Array Bool) (a:Act) (w:World),wpAnyIn Fence.wide n P md ops Q fuel listed a w->wpAnyIn (Fence.wide.inRound l) n P md ops Q fuel listed a w
 | 0,_,_,_,h=>h
 | fuel+1,_,_,_,h=>⟨h.1,fun i hi=>Po l hnd (wpOpIn_mono (fun a w h=>D8 l hnd fuel _ a w h) (h.2 i hi))⟩
theorem zf {F:Fence}{n:Nat}{P:Program}(w:World){ops:Array Oper}{o:Oper}{a:Act}{K:Act->World->Prop}{Q:Exit->Act->World->Prop}{X:Prop}
 (hg:o.guard=none) (s x:Operand) (t:TypeId) (hop:o.op=Op.call { callee:=Callee.builtin Builtin.append,args:=#[s,x],argTypes:=#[t,t] })
 (base:Nat) (e:TypeId) (i:TypeInfo) (z:Value) (size bytes:Nat) (h1:P.underlying t=some (.slice e)) (h2:P.info? e=some i) (h3:i.zero=some z) (h4:i.size=size) (h5:i.bytes=bytes) (h6:z.cells.size=size) (h7:0<size)
 (v:Value) (k:Nat) (xs:List Value) (hs:a.eval s=v) (hown:w.ownsRow base e size v k xs) (ad:Addr) (m c:Nat) (news:List Value) (hx:a.eval x=.slice (some ad) m c) (hn:news.length=m * size)
 (hc:∀j u,news[j]?=some u->w.cell? (ad.add j)=some u) (h1c:∀u∈news,u.oneCell'=true) (b1:k+m<=maxLen) (b2:(k+m) * bytes<=140737488355328) (b3:base<=w.heap.size)
 (hK:∀v' w',w'.ownsRow base e size v' (k+m) (xs++news)->w.grownBy w' v.ownBlock->(v'.ownBlock=v.ownBlock\/v'.ownBlock=some w.heap.size)->K (a.put o.dst v') w') :
 if Region.wanted o (yielded ops a.tmps)=true then Oper.wpIn F n P o a w K Q else X:=by
 have hw:Region.wanted o (yielded ops a.tmps)=true:=by simp[Region.wanted,hg]
 rw[aE hw];obtain⟨v',w',hrun,r1,r2,_,r4⟩:=run_append_own_at (P:=P) (w:=w) base t o.type e i z size bytes h1 h2 h3 h4 h5 h6 h7 v k xs hown ad m c news hn hc h1c b1 b2 b3;unfold Oper.wpIn;refine⟨?_,?_⟩
 ·simp[Oper.about,hop,resolve,Target.leads,Sem.run_pure]
 ·rw[Oper.semAt_plain F _ _ (by rw[hop];intro c hc';cases hc')]
  simp[execOp,hop,resolve,invoke,builtin,hs,hx,hrun,Result.andThen];exact hK v' w' r1 r2 r4
theorem slice_head (g q m len cp:Nat)(h0:0<m)(h:m<=cp):∀X:World,(Instr.slice 32 (.slice (some ⟨g,q,none⟩) len cp) none (some (.int .i64 m)) none).run prog X=.ok (.slice (some ⟨g,q,none⟩) m cp) X:=fun X=>by
 have hc0:¬cp=0:=by omega
 have hmI:(m:Int)<=(cp:Int):=by omega
 go_simp
theorem IX (g q m len cp:Nat)(h:m<=len):∀X:World,(Instr.slice 32 (.slice (some ⟨g,q,none⟩) len cp) (some (.int .i64 m)) none none).run prog X=.ok (.slice (if cp=m then some (⟨g,q,none⟩:Addr)else some ⟨g,q+m,none⟩) (len - m) (cp - m)) X:=fun X=>by
 have hmI:(m:Int)<=(len:Int):=by omega
 go_simp
theorem IY (s:ByteArray)(w:World)(hs:s.size<=4096)(n:Nat)(hend:Dec.Ends s n)(hT:Lib.Utf8Tabs 8 9 w)(h0:TabAt w 0 jg.jr)(h3:TabAt w 1 jg.jv)(h4:TabAt w 2 jg.jh)(a:Option Addr)(g o cW:Nat)(ha:0<n->a=some ⟨g,o,none⟩)(hcW:n<=cW) :
 Calls prog 35 #[.string s,.slice a n cW] w fun e w'=>∃v,e=.returned v/\w'.ownsRow w.heap.size 104 3 v (cn s n) (IW s n g o cW (cn s n))/\Below w.heap.size w w':=by
 obtain⟨i0,hi,hz0,hz1,hz2⟩:=EV;have H42:=hid (fun w=>Gn s w);have HE:=hid hend;have HT0:=hid (fun(A:World) (hb:Below w.heap.size w A)=>h0.below (h0.lt (by decide)) hb);have HT3:=hid (fun(A:World) (hb:Below w.heap.size w A)=>h3.below (h3.lt (by decide)) hb);have A8:=hid (fun(A:World) (hb:Below w.heap.size w A)=>h4.below (h4.lt (by decide)) hb);have HTU:=hid (fun(A:World) (hb:Below w.heap.size w A)=>wu hT hb);have hcs:cn s n<=1000000:=by
  have h1:=(jA s n).1;have h2:=lV s n;have h3:=hend.1;unfold cn;omega
 clear hend hT h0 h3 h4;refine(fF (n:=3)).1 ?_;refine gI func35 rfl trivial ?_ rfl;simp only[ntmps35,cK,bg,List.length_nil,Nat.reduceAdd,Nat.reduceSub,bY,bZ,cN,b_,bT,bV];gi_wp2_with (refine⟨trivial,?_⟩;gi_at_call 69;refine(fF.2 (H42.out _)).mono ?_;rintro e w' ⟨rfl,rfl⟩);obtain⟨W0,hW0⟩:∃W0,((w.alloc (.cells #[.slice a n cW] 32)).alloc (.cells #[.slice none 0 0] 100)).alloc (.cells #[.string s] 9)=W0:=⟨_,rfl⟩;have hsz:W0.heap.size=w.heap.size+3:=by rw[<-hW0];simp only[fD]
 have Aa:PS w s n g o cW 0 W0:=by
  rw[<-hW0];refine⟨(((fN _ w).alloc (au _) _).alloc (by simp only[fD];omega) _).alloc (by simp only[fD];omega) _,?_,⟨a,?_,?_⟩,.slice none 0 0,?_,?_,?_⟩
  ·have h:=fR ((w.alloc (.cells #[.slice a n cW] 32)).alloc (.cells #[.slice none 0 0] 100)) (.cells #[.string s] 9)
   simp only[fD]at h;exact h
  ·have h:=fR w (.cells #[.slice a n cW] 32)
   rw[fS _ _ _ (by simp only[fD];omega),fS _ _ _ (by simp only[fD];omega)];rw[rD,e_,e_];exact h
  ·rw[rD];exact ha
  ·have h:=fR (w.alloc (.cells #[.slice a n cW] 32)) (.cells #[.slice none 0 0] 100)
   rw[fS _ _ _ (by simp only[fD];omega)];simp only[fD]at h;exact h
  ·exact fQ _ _ _ _
  ·intro g hg
   cases hg
 rw[hW0];refine vH rfl (by omega) (gf:=115) (lb:=#[.pointer (some ⟨w.heap.size+1+1,0,none⟩)]) rfl trivial (g_ func115 (by kernel_rfl) rfl)
  (encs:=fun x:Nat=>#[.int .i64 ((pos s (iP (jd s n) x):Nat):Int),.string (s.extract (pos s (iP (jd s n) x)) (pos s (iP (jd s n) (x+1))))]) (fun _=>rfl)
  (PS w s n g o cW) (Dq w) (fun i A B h hk=>h.kp (by rw[hsz]at hk;exact hk)) (fun i A B k h hk hf=>Dq.kp h (by rw[hsz]at hk;exact hk) hf) id (cn s n)
  (fun l V' W q1 q2 q3 q4=>Ku s n (w.heap.size+1+1) (by omega) HE.out (Dq w) _ l V' (fun i A h=>⟨z_ (q1 i A h).t,HT0.out A (q1 i A h).b⟩) (fun i A B k h hb hk=>Dq.new (q1 i A h) hb hk) q2 (fun i A k _ hf=>hf) q3 W q4)
  (fun x=>{ tmps:=#[.string s,.slice a n cW,undef,.pointer (some ⟨w.heap.size,0,none⟩),.slice none 0 0,.pointer (some ⟨w.heap.size+1,0,none⟩),.int .i64 ((pos s (iP (jd s n) x):Nat):Int),.string (s.extract (pos s (iP (jd s n) x)) (pos s (iP (jd s n) (x+1)))),undef,.string s,.func (.func 115) #[] #[.pointer (some ⟨w.heap.size+1+1,0,none⟩)],.int .i64 ((pos s (iP (jd s n) x):Nat):Int),.string (s.extract (pos s (iP (jd s n) x)) (pos s (iP (jd s n) (x+1)))),undef,undef,undef,undef,undef,undef,undef,undef,undef,undef,undef,undef,undef,undef,undef,undef,undef],defers:=[] })
  Aa ?assign ?body ?done
 case assign =>
  intro l x W K hK;gi_wp2;exact hK
 case body =>
  intro l i A hV hic hAs;rw[hsz]at hAs ⊢;obtain⟨v,v1,v2,v3⟩:=hV.v;obtain⟨aw,a1,a2⟩:=hV.a;have HV:=hid hV;have D5:=hid v1;have Ab:=hid v2;have Ft:=hid v3;have HA1:=hid a1;have h1:=Kn (s:=s) (n:=n) hic;have h2:=Ga (s:=s) (n:=n) (i:=i+1) hic;have haw:=a2 (by omega);subst haw;have hp3:=tS s (b7 h1);have Xj:=tS s h2;have hp5:=HE.out.1
  have H13:=hid (show Calls prog 34 #[.string (s.extract (pos s (iP (jd s n) i)) (pos s (iP (jd s n) (i+1))))] A fun e w'=>e=.returned (.int .i64 (iP (jd s n) (i+1) - iP (jd s n) i:Nat))/\Below A.heap.size A w' by
   have h:=D7 (s.extract (pos s (iP (jd s n) i)) (pos s (iP (jd s n) (i+1)))) A (by rw[rJ _ _ _ (by omega)];omega)
   rw[mP HE.out (b7 h1) h2]at h
   exact h)
  have Xt:=hid (fun(Y:World) (hb:Below A.heap.size A Y)=>show Calls prog 70 #[.string (s.extract (pos s (iP (jd s n) i)) (pos s (iP (jd s n) (i+1))))] Y fun e w'=>e=.returned (.int .i64 (kc s n i))/\Below Y.heap.size Y w' by
   have hb':=HV.out.b.trans (hb.mono HV.out.b.size)
   have h:=xR (s.extract (pos s (iP (jd s n) i)) (pos s (iP (jd s n) (i+1)))) Y (HTU.out Y hb') (HT3.out Y hb') (A8.out Y hb')
   rw[vG HE.out hic]at h
   exact h)
  have HPC:=hid (show IW s n g o cW (i+1)=IW s n g o cW i++pc s n g o cW i from rfl);have HPD:=hid (show pc s n g o cW i=[.int .i64 ((pos s (iP (jd s n) i):Nat):Int),.bool (kc s n i == 12),.slice (some ⟨g,o+iP (jd s n) i,none⟩) (iP (jd s n) (i+1) - iP (jd s n) i) (cW - iP (jd s n) i)]from rfl);have hs1:=hV.b.size;dsimp only[id];generalize s.extract (pos s (iP (jd s n) i)) (pos s (iP (jd s n) (i+1)))=sub at *;generalize pos s (iP (jd s n) i)=p at *;generalize kc s n i=kd at *;obtain⟨m,hm⟩:∃m,m=iP (jd s n) (i+1) - iP (jd s n) i:=⟨_,rfl⟩;obtain⟨len,hlen⟩:∃len,len=n - iP (jd s n) i:=⟨_,rfl⟩;obtain⟨cp,hcp⟩:∃cp,cp=cW - iP (jd s n) i:=⟨_,rfl⟩;obtain⟨q,hq⟩:∃q,q=o+iP (jd s n) i:=⟨_,rfl⟩;rw[<-hm]at H13 HPD;rw[<-hlen,<-hcp,<-hq]at a1 HA1;rw[<-hcp,<-hq]at HPD;have hml:m<=len:=by omega
  have hmc:len<=cp:=by omega
  have hm0:0<m:=by omega
  obtain⟨aw',Xu⟩:∃aw',aw'=if cp=m then some (⟨g,q,none⟩:Addr)else some ⟨g,q+m,none⟩:=⟨_,rfl⟩
  have HAW:=hid (show iP (jd s n) (i+1)<n->aw'=some ⟨g,o+iP (jd s n) (i+1),none⟩from fun h=>by
   rw[Xu,ay (by omega),hq,hm,show o+iP (jd s n) i+(iP (jd s n) (i+1) - iP (jd s n) i)=o+iP (jd s n) (i+1) by omega])
  have D2:=hid (show n - iP (jd s n) (i+1)=len - m/\cW - iP (jd s n) (i+1)=cp - m by omega);have hsl1:=slice_head g q m len cp hm0 (by omega);have hsl2:=IX g q m len cp hml;rw[<-Xu]at hsl2;clear hV v1 v2 v3 Aa hW0 hm hlen hcp hq Xu a1 a2 h1 h2 hp3 Xj hp5;gi_wp2_with (refine⟨trivial,?_⟩;gi_at_call 34;refine(fJ l (fF.2 H13.out)).mono ?_;rintro e A1 ⟨rfl,hb1⟩;have HB1:=hid hb1;clear hb1);have hsA:A.heap.size<=A1.heap.size:=HB1.out.size;have hmx:Tryz.prog.follows .mixedOrders=true:=by kernel_rfl
  have K0:=hid ((HB1.out.block w.heap.size (by omega)).trans HA1.out);have K1:=hid ((HB1.out.block (w.heap.size+1) (by omega)).trans D5.out);have a0:A1.cell? ⟨w.heap.size,0,none⟩=some (.slice (some ⟨g,q,none⟩) len cp):=fI A1 w.heap.size 0 _ _ _ K0.out;have b0:A1.cell? ⟨w.heap.size+1,0,none⟩=some v:=fI A1 (w.heap.size+1) 0 _ _ _ K1.out;have EY:=hid (Xt.out A1.drew (HB1.out.trans ⟨rfl,rfl,rfl,au _,fun _ _=>rfl⟩));refine wpIn_region_any hmx ?_;refine D8 l (by kernel_rfl) _ _ _ _ ?_
  change wpAnyIn _ _ _ _ _ _ _ _ _ (World.drew _)
  refine fW (i:=1) (v:=.int .i64 p) rfl rfl (by kernel_rfl) (by kernel_rfl) (by kernel_rfl) (fun _ _ _ h=>h) ⟨Or.inl ⟨by rfl,by intro w;go_simp⟩,fun _=>rfl⟩ ?_;refine fW (i:=2) (v:=.string sub) rfl rfl (by kernel_rfl) (by kernel_rfl) (by kernel_rfl) (fun _ _ _ h=>h) ⟨Or.inl ⟨by rfl,by intro w;go_simp⟩,fun _=>rfl⟩ ?_;refine fW (i:=6) (v:=.int .i64 m) rfl rfl (by kernel_rfl) (by kernel_rfl) (by kernel_rfl) (fun _ _ _ h=>h) ⟨Or.inl ⟨by rfl,by intro w;go_simp⟩,fun _=>rfl⟩ ?_;refine fO (rs:=[0,3,5]) (by kernel_rfl) (by simp) ?_;refine fG rfl (fun K hK=>?_) ?_
  (go_simp;refine hK _ _ ?_;clear hK K)
  refine fO (rs:=[3,5]) (by kernel_rfl) (by simp) ?_;refine fG rfl (fun K hK=>?_) ?_
  (go_simp;refine⟨trivial,(fF.2 EY.out).mono ?_⟩;rintro e A2 ⟨rfl,hb2⟩;have HB2:=hid hb2;have hsB:A1.heap.size<=A2.heap.size:=hb2.size;have L0:=hid ((hb2.block w.heap.size (by show _<A1.heap.size;omega)).trans K0.out);have L1:=hid ((hb2.block (w.heap.size+1) (by show _<A1.heap.size;omega)).trans K1.out);have c0:A2.cell? ⟨w.heap.size,0,none⟩=some (.slice (some ⟨g,q,none⟩) len cp):=fI A2 w.heap.size 0 _ _ _ L0.out;have d0:A2.cell? ⟨w.heap.size+1,0,none⟩=some v:=fI A2 (w.heap.size+1) 0 _ _ _ L1.out;have d1:∀ob,(A2.alloc ob).cell? ⟨w.heap.size+1,0,none⟩=some v:=fun ob=>(((fN A2.heap.size A2).alloc (au _) ob).cell (p:=⟨w.heap.size+1,0,none⟩) (by show w.heap.size+1<A2.heap.size;omega)).trans (fI A2 (w.heap.size+1) 0 _ _ _ L1.out);clear hb2;refine hK _ _ ?_;clear hK K)
  refine fW (i:=4) (v:=.bool (kd == 12)) rfl rfl (by kernel_rfl) (by kernel_rfl) (by kernel_rfl) (fun _ _ _ h=>h) ⟨Or.inl ⟨by rfl,by intro w;go_simp⟩,fun _=>rfl⟩ ?_;refine fO (rs:=[5]) (by kernel_rfl) (by simp) ?_;refine fG rfl (fun K hK=>?_) ?_
  (go_simp;refine hK _ _ ?_;clear hK K)
  refine fO (rs:=[7]) (by kernel_rfl) (by simp) ?_;refine fG rfl (fun K hK=>?_) ?_
  (go_simp;refine hK _ _ ?_;clear hK K)
  refine fW (i:=8) (v:=.agg #[.int .i64 p,.bool (kd == 12),.slice (some ⟨g,q,none⟩) m cp]) rfl rfl (by kernel_rfl) (by kernel_rfl) (by kernel_rfl) (fun _ _ _ h=>h) ⟨Or.inl ⟨by rfl,by intro w;go_simp⟩,fun _=>rfl⟩ ?_;refine fO (rs:=[9]) (by kernel_rfl) (by simp) ?_;refine fG rfl (fun K hK=>?_) ?_
  (go_simp;refine hK _ _ ?_;clear hK K)
  rotate_left
  exact fL;exact fL;exact fL;refine fG rfl (fun K hK=>?_) ?_
  (go_simp;refine hK _ _ ?_;clear hK K)
  refine fO (rs:=[3,7]) (by kernel_rfl) (by simp) ?_;refine fG rfl (fun K hK=>?_) ?_
  (go_simp;refine⟨trivial,(fF.2 EY.out).mono ?_⟩;rintro e A2 ⟨rfl,hb2⟩;have HB2:=hid hb2;have hsB:A1.heap.size<=A2.heap.size:=hb2.size;have L0:=hid ((hb2.block w.heap.size (by show _<A1.heap.size;omega)).trans K0.out);have L1:=hid ((hb2.block (w.heap.size+1) (by show _<A1.heap.size;omega)).trans K1.out);have c0:A2.cell? ⟨w.heap.size,0,none⟩=some (.slice (some ⟨g,q,none⟩) len cp):=fI A2 w.heap.size 0 _ _ _ L0.out;have d0:A2.cell? ⟨w.heap.size+1,0,none⟩=some v:=fI A2 (w.heap.size+1) 0 _ _ _ L1.out;have d1:∀ob,(A2.alloc ob).cell? ⟨w.heap.size+1,0,none⟩=some v:=fun ob=>(((fN A2.heap.size A2).alloc (au _) ob).cell (p:=⟨w.heap.size+1,0,none⟩) (by show w.heap.size+1<A2.heap.size;omega)).trans (fI A2 (w.heap.size+1) 0 _ _ _ L1.out);clear hb2;refine hK _ _ ?_;clear hK K)
  refine fW (i:=4) (v:=.bool (kd == 12)) rfl rfl (by kernel_rfl) (by kernel_rfl) (by kernel_rfl) (fun _ _ _ h=>h) ⟨Or.inl ⟨by rfl,by intro w;go_simp⟩,fun _=>rfl⟩ ?_;refine fO (rs:=[7]) (by kernel_rfl) (by simp) ?_;refine fG rfl (fun K hK=>?_) ?_
  (go_simp;refine hK _ _ ?_;clear hK K)
  refine fW (i:=8) (v:=.agg #[.int .i64 p,.bool (kd == 12),.slice (some ⟨g,q,none⟩) m cp]) rfl rfl (by kernel_rfl) (by kernel_rfl) (by kernel_rfl) (fun _ _ _ h=>h) ⟨Or.inl ⟨by rfl,by intro w;go_simp⟩,fun _=>rfl⟩ ?_;refine fO (rs:=[9]) (by kernel_rfl) (by simp) ?_;refine fG rfl (fun K hK=>?_) ?_
  (go_simp;refine hK _ _ ?_;clear hK K)
  rotate_left
  exact fL;exact fL;refine fG rfl (fun K hK=>?_) ?_
  (go_simp;refine hK _ _ ?_;clear hK K)
  refine fO (rs:=[3]) (by kernel_rfl) (by simp) ?_;refine fG rfl (fun K hK=>?_) ?_
  (go_simp;refine⟨trivial,(fF.2 EY.out).mono ?_⟩;rintro e A2 ⟨rfl,hb2⟩;have HB2:=hid hb2;have hsB:A1.heap.size<=A2.heap.size:=hb2.size;have L0:=hid ((hb2.block w.heap.size (by show _<A1.heap.size;omega)).trans K0.out);have L1:=hid ((hb2.block (w.heap.size+1) (by show _<A1.heap.size;omega)).trans K1.out);have c0:A2.cell? ⟨w.heap.size,0,none⟩=some (.slice (some ⟨g,q,none⟩) len cp):=fI A2 w.heap.size 0 _ _ _ L0.out;have d0:A2.cell? ⟨w.heap.size+1,0,none⟩=some v:=fI A2 (w.heap.size+1) 0 _ _ _ L1.out;have d1:∀ob,(A2.alloc ob).cell? ⟨w.heap.size+1,0,none⟩=some v:=fun ob=>(((fN A2.heap.size A2).alloc (au _) ob).cell (p:=⟨w.heap.size+1,0,none⟩) (by show w.heap.size+1<A2.heap.size;omega)).trans (fI A2 (w.heap.size+1) 0 _ _ _ L1.out);clear hb2;refine hK _ _ ?_;clear hK K)
  refine fW (i:=4) (v:=.bool (kd == 12)) rfl rfl (by kernel_rfl) (by kernel_rfl) (by kernel_rfl) (fun _ _ _ h=>h) ⟨Or.inl ⟨by rfl,by intro w;go_simp⟩,fun _=>rfl⟩ ?_;refine fW (i:=8) (v:=.agg #[.int .i64 p,.bool (kd == 12),.slice (some ⟨g,q,none⟩) m cp]) rfl rfl (by kernel_rfl) (by kernel_rfl) (by kernel_rfl) (fun _ _ _ h=>h) ⟨Or.inl ⟨by rfl,by intro w;go_simp⟩,fun _=>rfl⟩ ?_;refine fO (rs:=[9]) (by kernel_rfl) (by simp) ?_;refine fG rfl (fun K hK=>?_) ?_
  (go_simp;refine hK _ _ ?_;clear hK K)
  rotate_left
  exact fL;exact fL;exact fL;exact fL;refine fG rfl (fun K hK=>?_) ?_
  (go_simp;refine⟨trivial,(fF.2 EY.out).mono ?_⟩;rintro e A2 ⟨rfl,hb2⟩;have HB2:=hid hb2;have hsB:A1.heap.size<=A2.heap.size:=hb2.size;have L0:=hid ((hb2.block w.heap.size (by show _<A1.heap.size;omega)).trans K0.out);have L1:=hid ((hb2.block (w.heap.size+1) (by show _<A1.heap.size;omega)).trans K1.out);have c0:A2.cell? ⟨w.heap.size,0,none⟩=some (.slice (some ⟨g,q,none⟩) len cp):=fI A2 w.heap.size 0 _ _ _ L0.out;have d0:A2.cell? ⟨w.heap.size+1,0,none⟩=some v:=fI A2 (w.heap.size+1) 0 _ _ _ L1.out;have d1:∀ob,(A2.alloc ob).cell? ⟨w.heap.size+1,0,none⟩=some v:=fun ob=>(((fN A2.heap.size A2).alloc (au _) ob).cell (p:=⟨w.heap.size+1,0,none⟩) (by show w.heap.size+1<A2.heap.size;omega)).trans (fI A2 (w.heap.size+1) 0 _ _ _ L1.out);clear hb2;refine hK _ _ ?_;clear hK K)
  refine fW (i:=4) (v:=.bool (kd == 12)) rfl rfl (by kernel_rfl) (by kernel_rfl) (by kernel_rfl) (fun _ _ _ h=>h) ⟨Or.inl ⟨by rfl,by intro w;go_simp⟩,fun _=>rfl⟩ ?_;refine fO (rs:=[0,5]) (by kernel_rfl) (by simp) ?_;refine fG rfl (fun K hK=>?_) ?_
  (go_simp;refine hK _ _ ?_;clear hK K)
  refine fO (rs:=[5]) (by kernel_rfl) (by simp) ?_;refine fG rfl (fun K hK=>?_) ?_
  (go_simp;refine hK _ _ ?_;clear hK K)
  refine fO (rs:=[7]) (by kernel_rfl) (by simp) ?_;refine fG rfl (fun K hK=>?_) ?_
  (go_simp;refine hK _ _ ?_;clear hK K)
  refine fW (i:=8) (v:=.agg #[.int .i64 p,.bool (kd == 12),.slice (some ⟨g,q,none⟩) m cp]) rfl rfl (by kernel_rfl) (by kernel_rfl) (by kernel_rfl) (fun _ _ _ h=>h) ⟨Or.inl ⟨by rfl,by intro w;go_simp⟩,fun _=>rfl⟩ ?_;refine fO (rs:=[9]) (by kernel_rfl) (by simp) ?_;refine fG rfl (fun K hK=>?_) ?_
  (go_simp;refine hK _ _ ?_;clear hK K)
  rotate_left
  exact fL;exact fL;exact fL;refine fG rfl (fun K hK=>?_) ?_
  (go_simp;refine hK _ _ ?_;clear hK K)
  refine fO (rs:=[0,7]) (by kernel_rfl) (by simp) ?_;refine fG rfl (fun K hK=>?_) ?_
  (go_simp;refine hK _ _ ?_;clear hK K)
  refine fO (rs:=[7]) (by kernel_rfl) (by simp) ?_;refine fG rfl (fun K hK=>?_) ?_
  (go_simp;refine hK _ _ ?_;clear hK K)
  refine fW (i:=8) (v:=.agg #[.int .i64 p,.bool (kd == 12),.slice (some ⟨g,q,none⟩) m cp]) rfl rfl (by kernel_rfl) (by kernel_rfl) (by kernel_rfl) (fun _ _ _ h=>h) ⟨Or.inl ⟨by rfl,by intro w;go_simp⟩,fun _=>rfl⟩ ?_;refine fO (rs:=[9]) (by kernel_rfl) (by simp) ?_;refine fG rfl (fun K hK=>?_) ?_
  (go_simp;refine hK _ _ ?_;clear hK K)
  rotate_left
  exact fL;exact fL;refine fG rfl (fun K hK=>?_) ?_
  (go_simp;refine hK _ _ ?_;clear hK K)
  refine fW (i:=8) (v:=.agg #[.int .i64 p,.bool (kd == 12),.slice (some ⟨g,q,none⟩) m cp]) rfl rfl (by kernel_rfl) (by kernel_rfl) (by kernel_rfl) (fun _ _ _ h=>h) ⟨Or.inl ⟨by rfl,by intro w;go_simp⟩,fun _=>rfl⟩ ?_;refine fO (rs:=[0,9]) (by kernel_rfl) (by simp) ?_;refine fG rfl (fun K hK=>?_) ?_
  (go_simp;refine hK _ _ ?_;clear hK K)
  refine fO (rs:=[9]) (by kernel_rfl) (by simp) ?_;refine fG rfl (fun K hK=>?_) ?_
  (go_simp;refine hK _ _ ?_;clear hK K)
  rotate_left
  exact fL;refine fG rfl (fun K hK=>?_) ?_
  (go_simp;refine hK _ _ ?_;clear hK K)
  refine fO (rs:=[0]) (by kernel_rfl) (by simp) ?_;refine fG rfl (fun K hK=>?_) ?_
  (go_simp;refine hK _ _ ?_;clear hK K)
  rotate_left
  exact fL;exact fL;exact fL;exact fL;refine fG rfl (fun K hK=>?_) ?_
  (go_simp;refine hK _ _ ?_;clear hK K)
  refine fO (rs:=[0,3,7]) (by kernel_rfl) (by simp) ?_;refine fG rfl (fun K hK=>?_) ?_
  (go_simp;refine hK _ _ ?_;clear hK K)
  refine fO (rs:=[3,7]) (by kernel_rfl) (by simp) ?_;refine fG rfl (fun K hK=>?_) ?_
  (go_simp;refine⟨trivial,(fF.2 EY.out).mono ?_⟩;rintro e A2 ⟨rfl,hb2⟩;have HB2:=hid hb2;have hsB:A1.heap.size<=A2.heap.size:=hb2.size;have L0:=hid ((hb2.block w.heap.size (by show _<A1.heap.size;omega)).trans K0.out);have L1:=hid ((hb2.block (w.heap.size+1) (by show _<A1.heap.size;omega)).trans K1.out);have c0:A2.cell? ⟨w.heap.size,0,none⟩=some (.slice (some ⟨g,q,none⟩) len cp):=fI A2 w.heap.size 0 _ _ _ L0.out;have d0:A2.cell? ⟨w.heap.size+1,0,none⟩=some v:=fI A2 (w.heap.size+1) 0 _ _ _ L1.out;have d1:∀ob,(A2.alloc ob).cell? ⟨w.heap.size+1,0,none⟩=some v:=fun ob=>(((fN A2.heap.size A2).alloc (au _) ob).cell (p:=⟨w.heap.size+1,0,none⟩) (by show w.heap.size+1<A2.heap.size;omega)).trans (fI A2 (w.heap.size+1) 0 _ _ _ L1.out);clear hb2;refine hK _ _ ?_;clear hK K)
  refine fW (i:=4) (v:=.bool (kd == 12)) rfl rfl (by kernel_rfl) (by kernel_rfl) (by kernel_rfl) (fun _ _ _ h=>h) ⟨Or.inl ⟨by rfl,by intro w;go_simp⟩,fun _=>rfl⟩ ?_;refine fO (rs:=[7]) (by kernel_rfl) (by simp) ?_;refine fG rfl (fun K hK=>?_) ?_
  (go_simp;refine hK _ _ ?_;clear hK K)
  refine fW (i:=8) (v:=.agg #[.int .i64 p,.bool (kd == 12),.slice (some ⟨g,q,none⟩) m cp]) rfl rfl (by kernel_rfl) (by kernel_rfl) (by kernel_rfl) (fun _ _ _ h=>h) ⟨Or.inl ⟨by rfl,by intro w;go_simp⟩,fun _=>rfl⟩ ?_;refine fO (rs:=[9]) (by kernel_rfl) (by simp) ?_;refine fG rfl (fun K hK=>?_) ?_
  (go_simp;refine hK _ _ ?_;clear hK K)
  rotate_left
  exact fL;exact fL;refine fG rfl (fun K hK=>?_) ?_
  (go_simp;refine hK _ _ ?_;clear hK K)
  refine fO (rs:=[3]) (by kernel_rfl) (by simp) ?_;refine fG rfl (fun K hK=>?_) ?_
  (go_simp;refine⟨trivial,(fF.2 EY.out).mono ?_⟩;rintro e A2 ⟨rfl,hb2⟩;have HB2:=hid hb2;have hsB:A1.heap.size<=A2.heap.size:=hb2.size;have L0:=hid ((hb2.block w.heap.size (by show _<A1.heap.size;omega)).trans K0.out);have L1:=hid ((hb2.block (w.heap.size+1) (by show _<A1.heap.size;omega)).trans K1.out);have c0:A2.cell? ⟨w.heap.size,0,none⟩=some (.slice (some ⟨g,q,none⟩) len cp):=fI A2 w.heap.size 0 _ _ _ L0.out;have d0:A2.cell? ⟨w.heap.size+1,0,none⟩=some v:=fI A2 (w.heap.size+1) 0 _ _ _ L1.out;have d1:∀ob,(A2.alloc ob).cell? ⟨w.heap.size+1,0,none⟩=some v:=fun ob=>(((fN A2.heap.size A2).alloc (au _) ob).cell (p:=⟨w.heap.size+1,0,none⟩) (by show w.heap.size+1<A2.heap.size;omega)).trans (fI A2 (w.heap.size+1) 0 _ _ _ L1.out);clear hb2;refine hK _ _ ?_;clear hK K)
  refine fW (i:=4) (v:=.bool (kd == 12)) rfl rfl (by kernel_rfl) (by kernel_rfl) (by kernel_rfl) (fun _ _ _ h=>h) ⟨Or.inl ⟨by rfl,by intro w;go_simp⟩,fun _=>rfl⟩ ?_;refine fW (i:=8) (v:=.agg #[.int .i64 p,.bool (kd == 12),.slice (some ⟨g,q,none⟩) m cp]) rfl rfl (by kernel_rfl) (by kernel_rfl) (by kernel_rfl) (fun _ _ _ h=>h) ⟨Or.inl ⟨by rfl,by intro w;go_simp⟩,fun _=>rfl⟩ ?_;refine fO (rs:=[9]) (by kernel_rfl) (by simp) ?_;refine fG rfl (fun K hK=>?_) ?_
  (go_simp;refine hK _ _ ?_;clear hK K)
  rotate_left
  exact fL;exact fL;exact fL;refine fG rfl (fun K hK=>?_) ?_
  (go_simp;refine⟨trivial,(fF.2 EY.out).mono ?_⟩;rintro e A2 ⟨rfl,hb2⟩;have HB2:=hid hb2;have hsB:A1.heap.size<=A2.heap.size:=hb2.size;have L0:=hid ((hb2.block w.heap.size (by show _<A1.heap.size;omega)).trans K0.out);have L1:=hid ((hb2.block (w.heap.size+1) (by show _<A1.heap.size;omega)).trans K1.out);have c0:A2.cell? ⟨w.heap.size,0,none⟩=some (.slice (some ⟨g,q,none⟩) len cp):=fI A2 w.heap.size 0 _ _ _ L0.out;have d0:A2.cell? ⟨w.heap.size+1,0,none⟩=some v:=fI A2 (w.heap.size+1) 0 _ _ _ L1.out;have d1:∀ob,(A2.alloc ob).cell? ⟨w.heap.size+1,0,none⟩=some v:=fun ob=>(((fN A2.heap.size A2).alloc (au _) ob).cell (p:=⟨w.heap.size+1,0,none⟩) (by show w.heap.size+1<A2.heap.size;omega)).trans (fI A2 (w.heap.size+1) 0 _ _ _ L1.out);clear hb2;refine hK _ _ ?_;clear hK K)
  refine fW (i:=4) (v:=.bool (kd == 12)) rfl rfl (by kernel_rfl) (by kernel_rfl) (by kernel_rfl) (fun _ _ _ h=>h) ⟨Or.inl ⟨by rfl,by intro w;go_simp⟩,fun _=>rfl⟩ ?_;refine fO (rs:=[0,7]) (by kernel_rfl) (by simp) ?_;refine fG rfl (fun K hK=>?_) ?_
  (go_simp;refine hK _ _ ?_;clear hK K)
  refine fO (rs:=[7]) (by kernel_rfl) (by simp) ?_;refine fG rfl (fun K hK=>?_) ?_
  (go_simp;refine hK _ _ ?_;clear hK K)
  refine fW (i:=8) (v:=.agg #[.int .i64 p,.bool (kd == 12),.slice (some ⟨g,q,none⟩) m cp]) rfl rfl (by kernel_rfl) (by kernel_rfl) (by kernel_rfl) (fun _ _ _ h=>h) ⟨Or.inl ⟨by rfl,by intro w;go_simp⟩,fun _=>rfl⟩ ?_;refine fO (rs:=[9]) (by kernel_rfl) (by simp) ?_;refine fG rfl (fun K hK=>?_) ?_
  (go_simp;refine hK _ _ ?_;clear hK K)
  rotate_left
  exact fL;exact fL;refine fG rfl (fun K hK=>?_) ?_
  (go_simp;refine hK _ _ ?_;clear hK K)
  refine fW (i:=8) (v:=.agg #[.int .i64 p,.bool (kd == 12),.slice (some ⟨g,q,none⟩) m cp]) rfl rfl (by kernel_rfl) (by kernel_rfl) (by kernel_rfl) (fun _ _ _ h=>h) ⟨Or.inl ⟨by rfl,by intro w;go_simp⟩,fun _=>rfl⟩ ?_;refine fO (rs:=[0,9]) (by kernel_rfl) (by simp) ?_;refine fG rfl (fun K hK=>?_) ?_
  (go_simp;refine hK _ _ ?_;clear hK K)
  refine fO (rs:=[9]) (by kernel_rfl) (by simp) ?_;refine fG rfl (fun K hK=>?_) ?_
  (go_simp;refine hK _ _ ?_;clear hK K)
  rotate_left
  exact fL;refine fG rfl (fun K hK=>?_) ?_
  (go_simp;refine hK _ _ ?_;clear hK K)
  refine fO (rs:=[0]) (by kernel_rfl) (by simp) ?_;refine fG rfl (fun K hK=>?_) ?_
  (go_simp;refine hK _ _ ?_;clear hK K)
  rotate_left
  exact fL;exact fL;exact fL;refine fG rfl (fun K hK=>?_) ?_
  (go_simp;refine hK _ _ ?_;clear hK K)
  refine fO (rs:=[0,3]) (by kernel_rfl) (by simp) ?_;refine fG rfl (fun K hK=>?_) ?_
  (go_simp;refine hK _ _ ?_;clear hK K)
  refine fO (rs:=[3]) (by kernel_rfl) (by simp) ?_;refine fG rfl (fun K hK=>?_) ?_
  (go_simp;refine⟨trivial,(fF.2 EY.out).mono ?_⟩;rintro e A2 ⟨rfl,hb2⟩;have HB2:=hid hb2;have hsB:A1.heap.size<=A2.heap.size:=hb2.size;have L0:=hid ((hb2.block w.heap.size (by show _<A1.heap.size;omega)).trans K0.out);have L1:=hid ((hb2.block (w.heap.size+1) (by show _<A1.heap.size;omega)).trans K1.out);have c0:A2.cell? ⟨w.heap.size,0,none⟩=some (.slice (some ⟨g,q,none⟩) len cp):=fI A2 w.heap.size 0 _ _ _ L0.out;have d0:A2.cell? ⟨w.heap.size+1,0,none⟩=some v:=fI A2 (w.heap.size+1) 0 _ _ _ L1.out;have d1:∀ob,(A2.alloc ob).cell? ⟨w.heap.size+1,0,none⟩=some v:=fun ob=>(((fN A2.heap.size A2).alloc (au _) ob).cell (p:=⟨w.heap.size+1,0,none⟩) (by show w.heap.size+1<A2.heap.size;omega)).trans (fI A2 (w.heap.size+1) 0 _ _ _ L1.out);clear hb2;refine hK _ _ ?_;clear hK K)
  refine fW (i:=4) (v:=.bool (kd == 12)) rfl rfl (by kernel_rfl) (by kernel_rfl) (by kernel_rfl) (fun _ _ _ h=>h) ⟨Or.inl ⟨by rfl,by intro w;go_simp⟩,fun _=>rfl⟩ ?_;refine fW (i:=8) (v:=.agg #[.int .i64 p,.bool (kd == 12),.slice (some ⟨g,q,none⟩) m cp]) rfl rfl (by kernel_rfl) (by kernel_rfl) (by kernel_rfl) (fun _ _ _ h=>h) ⟨Or.inl ⟨by rfl,by intro w;go_simp⟩,fun _=>rfl⟩ ?_;refine fO (rs:=[9]) (by kernel_rfl) (by simp) ?_;refine fG rfl (fun K hK=>?_) ?_
  (go_simp;refine hK _ _ ?_;clear hK K)
  rotate_left
  exact fL;exact fL;refine fG rfl (fun K hK=>?_) ?_
  (go_simp;refine⟨trivial,(fF.2 EY.out).mono ?_⟩;rintro e A2 ⟨rfl,hb2⟩;have HB2:=hid hb2;have hsB:A1.heap.size<=A2.heap.size:=hb2.size;have L0:=hid ((hb2.block w.heap.size (by show _<A1.heap.size;omega)).trans K0.out);have L1:=hid ((hb2.block (w.heap.size+1) (by show _<A1.heap.size;omega)).trans K1.out);have c0:A2.cell? ⟨w.heap.size,0,none⟩=some (.slice (some ⟨g,q,none⟩) len cp):=fI A2 w.heap.size 0 _ _ _ L0.out;have d0:A2.cell? ⟨w.heap.size+1,0,none⟩=some v:=fI A2 (w.heap.size+1) 0 _ _ _ L1.out;have d1:∀ob,(A2.alloc ob).cell? ⟨w.heap.size+1,0,none⟩=some v:=fun ob=>(((fN A2.heap.size A2).alloc (au _) ob).cell (p:=⟨w.heap.size+1,0,none⟩) (by show w.heap.size+1<A2.heap.size;omega)).trans (fI A2 (w.heap.size+1) 0 _ _ _ L1.out);clear hb2;refine hK _ _ ?_;clear hK K)
  refine fW (i:=4) (v:=.bool (kd == 12)) rfl rfl (by kernel_rfl) (by kernel_rfl) (by kernel_rfl) (fun _ _ _ h=>h) ⟨Or.inl ⟨by rfl,by intro w;go_simp⟩,fun _=>rfl⟩ ?_;refine fW (i:=8) (v:=.agg #[.int .i64 p,.bool (kd == 12),.slice (some ⟨g,q,none⟩) m cp]) rfl rfl (by kernel_rfl) (by kernel_rfl) (by kernel_rfl) (fun _ _ _ h=>h) ⟨Or.inl ⟨by rfl,by intro w;go_simp⟩,fun _=>rfl⟩ ?_;refine fO (rs:=[0,9]) (by kernel_rfl) (by simp) ?_;refine fG rfl (fun K hK=>?_) ?_
  (go_simp;refine hK _ _ ?_;clear hK K)
  refine fO (rs:=[9]) (by kernel_rfl) (by simp) ?_;refine fG rfl (fun K hK=>?_) ?_
  (go_simp;refine hK _ _ ?_;clear hK K)
  rotate_left
  exact fL;refine fG rfl (fun K hK=>?_) ?_
  (go_simp;refine hK _ _ ?_;clear hK K)
  refine fO (rs:=[0]) (by kernel_rfl) (by simp) ?_;refine fG rfl (fun K hK=>?_) ?_
  (go_simp;refine hK _ _ ?_;clear hK K)
  rotate_left
  exact fL;exact fL;exact fL;exact fL;exact fL
  all_goals (
   refine fO (rs:=[10]) (by kernel_rfl) (by simp) ?_
   refine fG rfl (fun K hK=>?_) fL
   have HBA:=hid (HB1.out.trans (show Below A.heap.size A1 A2 from⟨HB2.out.os,HB2.out.tape,HB2.out.output,HB2.out.size,fun k hk=>HB2.out.block k (by show k<A1.heap.size;omega)⟩))
   refine zf _ rfl (.tmp 15) (.tmp 24) 100 rfl w.heap.size 104 i0 _ 3 40 underlying100 hi hz0 hz1 hz2 rfl (by decide) v i (IW s n g o cW i) rfl ((oM Ab.out HBA.out).alloc _) ⟨A2.heap.size,0,none⟩ 1 1 [.int .i64 p,.bool (kd == 12),.slice (some ⟨g,q,none⟩) m cp] rfl rfl (wA _ _ _ _ _) (Xr _ _ _ _ _) (by unfold maxLen;omega) (by omega) (by rw[fD];omega) ?_
   intro v' A3 lK hgr hor
   have Xv:=own_ne Ab.out D5.out (fun c f hc=>by cases hc)
   have NE0:=own_ne Ab.out HA1.out (fun c f hc=>by cases hc)
   have M1:=hid ((hgr.block (w.heap.size+1) (by rw[fD];omega) Xv).trans ((fS _ _ _ (by omega)).trans L1.out))
   have M0:=hid ((hgr.block w.heap.size (by rw[fD];omega) NE0).trans ((fS _ _ _ (by omega)).trans L0.out))
   have e1:A3.cell? ⟨w.heap.size+1,0,none⟩=some v:=fI A3 (w.heap.size+1) 0 _ _ _ M1.out
   have g1:A3.frozen? ⟨w.heap.size+1,0,none⟩=false:=fT A3 (w.heap.size+1) 0 _ _ M1.out
   have e0:A3.cell? ⟨w.heap.size,0,none⟩=some (.slice (some ⟨g,q,none⟩) len cp):=fI A3 w.heap.size 0 _ _ _ M0.out
   have g0:A3.frozen? ⟨w.heap.size,0,none⟩=false:=fT A3 w.heap.size 0 _ _ M0.out
   have lD:=hid lK
   have n_:=hid hgr
   have wY:=hid hor
   obtain⟨g2,c2,hv2⟩:=jl (by omega) lK
   subst hv2
   clear lK hgr hor Xv NE0 a0 b0 c0 d0 d1
   refine hK _ _ ?_
   clear hK K
   refine fO (rs:=[11]) (by kernel_rfl) (by simp) ?_
   refine fG rfl (fun K hK=>?_) fL
   go_simp
   refine hK _ _ ?_
   clear hK K
   refine wpAnyIn_done (by kernel_rfl) ?_ _
   gi_wp2
   have h:=Xq (aw:=aw') { tmps:=#[],defers:=[] } HV.out HBA.out D5.out Ab.out Ft.out n_.out (by rw[HPC.out,HPD.out];exact lD.out) wY.out hAs HAW.out
   rw[D2.out.1,D2.out.2]at h
   exact h)
 case done =>
  intro D A hV hD hK;rw[hsz]at hD;obtain⟨v,v1,v2,v3⟩:=hV.v;have HV:=hid hV;have Ab:=hid v2;have Ft:=hid v3;have b0:A.cell? ⟨w.heap.size+1,0,none⟩=some v:=fI A (w.heap.size+1) 0 _ _ _ v1;clear hV v1 v2 v3 Aa hW0;gi_wp2;subst hD;refine⟨by simp,.inl ⟨_,_,rfl,gG hK,?_⟩⟩;have hk:=HV.out.kp (Cw (A:=A) (.inl rfl) (.deferred none));refine⟨_,results_tmp rfl _ _ _,_,rfl,?_,hk.b⟩;exact jU Ab.out (fun g hg=>fK (Ft.out g hg).1)
attribute [local go_sem] gy
theorem L2 (s:ByteArray)(n g o cW:Nat){c i:Nat}(h:i<c):(IW s n g o cW c)[i * 3]?=some (.int .i64 ((pos s (iP (jd s n) i):Nat):Int))/\(IW s n g o cW c)[i * 3+1]?=some (.bool (blk s n i))/\(IW s n g o cW c)[i * 3+2]?=some (.slice (some ⟨g,o+iP (jd s n) i,none⟩) (iP (jd s n) (i+1) - iP (jd s n) i) (cW - iP (jd s n) i)) :=
 ⟨by have:=EU s n g o cW c i h 0 (by decide);simpa[pc] using this,by have:=EU s n g o cW c i h 1 (by decide);simpa[pc] using this,by have:=EU s n g o cW c i h 2 (by decide);simpa[pc] using this⟩
theorem IZ (gp f k c cr:Nat)(h:f+k<=c):∀X:World,(Instr.slice 100 (.slice (some ⟨gp,f * 3,none⟩) (c - f) (cr - f)) (some (.int .i64 k)) none none).run prog X=.ok (.slice (if cr - f=k then some (⟨gp,f * 3,none⟩:Addr)else some ⟨gp,f * 3+k * 3,none⟩) (c - f - k) (cr - f - k)) X:=fun X=>by
 have hmI:(k:Int)<=((c - f:Nat):Int):=by omega
 generalize c - f=len at *;generalize cr - f=cp at *;generalize f * 3=q at *;clear h;go_simp
theorem I0 (s:ByteArray)(w:World)(hs:s.size<=4096)(n:Nat)(hend:Dec.Ends s n)(hT:Lib.Utf8Tabs 8 9 w)(h0:TabAt w 0 jg.jr)(h3:TabAt w 1 jg.jv)(h4:TabAt w 2 jg.jh)(W:List Int)(a:Option Addr)(g o cW:Nat)(hW:W.length=n)(ha:0<n->a=some ⟨g,o,none⟩)(hcW:n<=cW)
 (hc:∀Y,Below w.heap.size w Y->∀i,i<n->Y.cell? ⟨g,o+i,none⟩=some (.int .i64 (nth W i))) (R:Int) (hR:-9223372036854775808<=R/\R<=9223372036854775807) :
 Calls prog 19 #[.string s,.slice a n cW,.int .i64 R] w fun e w'=>∃v,e=.returned v/\w'.ownsRow w.heap.size 3 1 v (Gd s n W R).length (iS (Gd s n W R))/\Below w.heap.size w w':=by
 obtain⟨i0,hi,hz0,hz1,hz2⟩:=fY info3;have C13:=hide (D7 s w hs);rw[Ch hend]at C13;have C14:=hide (fun(Y:World) (hb:Below w.heap.size w Y)=>IY s Y hs n hend (wu hT hb) (h0.below (h0.lt (by decide)) hb) (h3.below (h3.lt (by decide)) hb) (h4.below (h4.lt (by decide)) hb) a g o cW ha hcW);have HE:=hide hend;have Sv:=hide hc;have hns:n<=s.size:=by have:=lV s n;have:=hend.1;omega
 have hcn:cn s n<=n:=by have:=(jA s n).1;unfold cn;omega
 have V2:=hide (show Gd s n W R=LW s n (brk (IP (blk s n) (cw s n W) R (cn s n)) (cn s n) 0)from rfl);have HX:=hide (fun i (h:i<cn s n)=>aaj (s:=s) (n:=n) (W:=W) (by omega) i h);have Tt:=hide (fun i (h:i<cn s n)=>Kn (s:=s) (n:=n) h);have HRJ:=hide (fun i (h:i<cn s n)=>Ga (s:=s) (n:=n) (i:=i+1) h);obtain⟨c,hcc⟩:∃c,c=cn s n:=⟨_,rfl⟩;rw[<-hcc]at C14 hcn V2 HX Tt HRJ;clear hT h0 h3 h4 hend hc hcc ha hW;go_enter func19,ntmps19;go_wp2_with fail;refine C13.out.mono ?_;rintro e w1 ⟨rfl,hb1⟩;have HB1:=hide hb1;have aat:=hide (C14.out w1 hb1);clear hb1 C13 C14;go_wp2_with fail;refine aat.out.mono ?_;rintro e w2 ⟨vp,rfl,jR,hb2⟩;have HB2:=hide (HB1.out.trans (hb2.mono HB1.out.size));have OP:=hide jR;obtain⟨ap,cr,hvp⟩:∃ap cr,vp=.slice ap c cr:=by
  rcases jR.2 with⟨h,h0⟩ | ⟨g,cap,cur,h,_⟩
  ·exact⟨_,_,by rw[h,h0]⟩
  ·exact⟨_,_,h⟩
 subst hvp;have hcr:c<=cr:=by
  rcases jR.2 with⟨h,h0⟩ | ⟨g',cap',cur,hv,hg,hh,hn,_⟩
  ·cases h;omega
  ·cases hv;exact hn
 obtain⟨gp,I3⟩:∃gp,0<c->ap=some ⟨gp,0,none⟩/\gp<w2.heap.size:=by
  rcases bO c with h | h
  ·exact⟨0,fun h'=>by omega⟩
  ·obtain⟨gp,cp,hv⟩:=jl h jR
   cases hv;exact⟨gp,fun _=>⟨rfl,(ji jR).2⟩⟩
 have Tw:=hide I3;have HPC:Hid (∀Y,Below w2.heap.size w2 Y->∀i,i<c->Y.cell? ⟨gp,i * 3,none⟩=some (.int .i64 ((pos s (iP (jd s n) i):Nat):Int))/\Y.cell? ⟨gp,i * 3+1,none⟩=some (.bool (blk s n i))/\Y.cell? ⟨gp,i * 3+2,none⟩=some (.slice (some ⟨g,o+iP (jd s n) i,none⟩) (iP (jd s n) (i+1) - iP (jd s n) i) (cW - iP (jd s n) i))):=fun Y hY i hi=>by
  obtain⟨h1,h2⟩:=Tw.out (by omega);have h:=OP.out;rw[h1]at h;obtain⟨p0,p1,p2⟩:=L2 s n g o cW hi;exact⟨((hY.cell (p:=⟨gp,i * 3,none⟩) h2).trans (h.cellAt _ (by omega))).trans p0,((hY.cell (p:=⟨gp,i * 3+1,none⟩) h2).trans (h.cellAt _ (by omega))).trans p1,((hY.cell (p:=⟨gp,i * 3+2,none⟩) h2).trans (h.cellAt _ (by omega))).trans p2⟩
 have Fv:Hid (∀Y,Below w2.heap.size w2 Y->∀i,i<c->∀L,-1<=L/\L<=9223372036854775807->Calls prog 71 #[.agg #[.int .i64 ((pos s (iP (jd s n) i):Nat):Int),.bool (blk s n i),.slice (some ⟨g,o+iP (jd s n) i,none⟩) (iP (jd s n) (i+1) - iP (jd s n) i) (cW - iP (jd s n) i)],.int .i64 L] Y fun e w'=>e=.returned (.int .i64 (D1 L (cw s n W i)))/\Below Y.heap.size Y w'):=fun Y hY i hi L hL=>by
  have h1:=Tt.out i hi;have h2:=HRJ.out i hi;refine IV W (iP (jd s n) i) _ _ g (o+iP (jd s n) i) _ _ L Y hL (by omega) (by omega) (fun Z hZ j hj=>?_);rw[dQ];exact Sv.out Z (HB2.out.trans ((hY.trans (hZ.mono hY.size)).mono HB2.out.size)) _ (by omega)
 have D2:Hid (∀Y,Below w2.heap.size w2 Y->∀f,f<=c->∀a' cp',(f<c->a'=some ⟨gp,f * 3,none⟩)->Calls prog 36 #[.slice a' (c - f) cp',.int .i64 R] Y fun e w'=>e=.returned (.int .i64 (IP (blk s n) (cw s n W) R c f:Nat))/\Below Y.heap.size Y w'):=fun Y hY f hf a' cp' ha' =>
  Pm (blk s n) (cw s n W) (fun i=>((pos s (iP (jd s n) i):Nat):Int)) (fun i=>some ⟨g,o+iP (jd s n) i,none⟩) (fun i=>iP (jd s n) (i+1) - iP (jd s n) i) (fun i=>cW - iP (jd s n) i) R c f gp (f * 3) cp' Y (by omega) hf a' ha' HX.out hR
   (fun Z hZ d hd=>by
     have h:=HPC.out Z (hY.trans (hZ.mono hY.size)) (f+d) hd
     rw[show f * 3+d * 3=(f+d) * 3 by omega]
     exact h)
   (fun Z hZ i hi L hL=>Fv.out Z (hY.trans (hZ.mono hY.size)) i hi L hL)
 obtain⟨oo,hoo⟩:∃oo,oo=IP (blk s n) (cw s n W) R c:=⟨_,rfl⟩;have sj:=hide (show(∀f,f<c->0<oo f/\f+oo f<=c)/\oo c=0 from⟨fun f hf=>by rw[hoo];exact O8 hf,by rw[hoo];unfold IP;rw[dm];rfl⟩);rw[<-hoo]at V2 D2;clear jR hb2 I3 aat hoo;go_wp2_with fail;go_loopw [7,8] (fun bv rv wr=>∃(f:Nat) (l:List Nat) (a':Option Addr),f<=c/\rv=.slice a' (c - f) (cr - f)/\(f<c->a'=some ⟨gp,f * 3,none⟩)/\l.length<=f/\(f=c->c=0)/\Hid (LW s n (l++brk oo c f)=Gd s n W R)/\Hid (wr.ownsRow w2.heap.size 3 1 bv l.length (iS (LW s n l)))/\Hid (Below w2.heap.size w2 wr)) (fun _ rv _=>match rv with | .slice _ k _=>k | _=>0)
 case atStart=>exact⟨0,[],ap,aN _,by simp,fun h=>(Tw.out h).1,au _,fun h=>h.symm,hide V2.out.symm,hide (fQ _ _ _ _),hide (fN _ _)⟩
 case round =>
  obtain⟨f,l,a',hf,rfl,ha',hlf,aau,HL,HO,HB⟩:=hrel;have V3:=hide (D2.out wr HB.out f hf a' (cr - f) ha');by_cases hfc:f<c
  ·have haa:=ha' hfc
   subst haa;obtain⟨h1,h2⟩:=sj.out.1 f hfc;have hsl:=IZ gp f (oo f) c cr h2;obtain⟨a2,ha2⟩:∃a2,a2=if cr - f=oo f then some (⟨gp,f * 3,none⟩:Addr)else some ⟨gp,f * 3+oo f * 3,none⟩:=⟨_,rfl⟩
   rw[<-ha2]at hsl;obtain⟨t1,ht1⟩:∃t1,t1=f+oo f:=⟨_,rfl⟩;have HT1:=hide ht1;rw[show c - f - oo f=c - t1 by omega,show cr - f - oo f=cr - t1 by omega]at hsl;have HA2:=hide (show t1<c->a2=some ⟨gp,t1 * 3,none⟩from fun h=>by rw[ha2,ay (by omega),show f * 3+oo f * 3=t1 * 3 by omega]);have HOP:=hide h1;generalize oo f=k at V3 hsl;have hcf:c - f<=4096:=by omega
   clear ha2 ht1 h1 ha' aau;go_wp2_with fail;refine V3.out.mono ?_;rintro e w3 ⟨rfl,hb3⟩;have HB3:=hide (HB.out.trans (hb3.mono HB.out.size));have lD:=hide (oM HO.out hb3);clear hb3 V3;by_cases ht:t1<c
   ·have haa:=HA2.out ht
    subst haa;have hlz:((c - t1:Nat):Int)≠0:=by omega
    have ad3:(((c - t1:Nat):Int) == 0)=false:=by simp;omega
    have hlp:0<c - t1:=by omega
    have ad4:(0:Int)<((c - t1:Nat):Int):=by omega
    obtain⟨p0,_,_⟩:=HPC.out w3 HB3.out t1 ht;obtain⟨y,hy⟩:∃y:Int,y=((pos s (iP (jd s n) t1):Nat):Int):=⟨_,rfl⟩;rw[<-hy]at p0;have HYE:=hide hy;obtain⟨lr,hlr⟩:∃lr,lr=c - t1:=⟨_,rfl⟩;rw[<-hlr]at hsl hlz ad3 hlp ad4;have Zv:=hide hlr;have ad5:=HB3.out.size;have oI:=hide (lD.out.alloc (.cells #[.int .i64 y] 3));have FL:=hide (HB3.out.alloc ad5 (.cells #[.int .i64 y] 3));clear hy hlr;go_wp2_with (at_builtin;refine fV _ rfl _ _ 32 rfl w2.heap.size 3 i0 _ 1 8 underlying32 hi hz0 hz1 hz2 rfl (by decide) _ _ _ rfl oI.out ⟨w3.heap.size,0,none⟩ 1 1 [.int .i64 y] rfl rfl (iF _ _ _) (one_cell _) (by unfold maxLen;omega) (by omega) (by simp;omega) ?_);intro v' w4 sZ hgrow hnil;have rK:=hide sZ;have NP:=hide (FL.out.grown hgrow (by simp;omega) (by intro x hx;exact(oI.out.lt x hx).1));clear sZ hgrow hnil oI FL;go_wp2;exact⟨⟨t1,l++[t1],_,by omega,by rw[Zv.out],fun _=>rfl,by rw[aD,bq];have:=HT1.out;have:=HOP.out;omega,fun h=>absurd h (by omega),hide (by rw[<-HL.out,dF,Gc HOP.out (by rw[<-HT1.out];exact ht),<-HT1.out];rfl),hide (by rw[O9,aD,bq,<-qU,<-HYE.out];exact rK.out),NP⟩,by show lr<c - f;have:=Zv.out;have:=HT1.out;have:=HOP.out;omega⟩
   ·have hlz:c - t1=0:=by omega
    rw[hlz]at hsl;have Pp:=hide (show brk oo c f=[]from tT (by have:=HT1.out;omega));go_wp2;go_ret;have hL:=HL.out;rw[Pp.out,dh]at hL;refine⟨_,rfl,?_,HB2.out.trans (HB3.out.mono HB2.out.size)⟩;rw[<-hL,show(LW s n l).length=l.length by simp[LW]];exact iU lD.out HB2.out.size
  ·obtain rfl:f=c:=by omega
   have hc0:f=0:=aau rfl;subst hc0;have Pp:=hide (show brk oo 0 0=[]from tT (aN _));rw[sj.out.2]at V3;have hl0:l=[]:=dY.1 (by omega);subst hl0;go_wp2_with fail;refine V3.out.mono ?_;rintro e w3 ⟨rfl,hb3⟩;have HB3:=hide (HB.out.trans (hb3.mono HB.out.size));have lD:=hide (oM HO.out hb3);clear hb3 V3;go_wp2;go_ret;have hL:=HL.out;rw[Pp.out,dh]at hL;refine⟨_,rfl,?_,HB2.out.trans (HB3.out.mono HB2.out.size)⟩;rw[<-hL];exact iU lD.out HB2.out.size
def ad6 (w:World)(a:Option Addr)(l:List Int):Prop:=∀j,j<l.length->∃g o,a=some ⟨g,o,none⟩/\w.cell? ⟨g,o+j,none⟩=some (.int .i64 (nth l j))
theorem Pq {l:List Int}{j:Nat}(h:j<l.length):(iS l)[j]?=some (.int .i64 (nth l j)):=by simp[iS,nth,h]
theorem Tx {w:World}{B:Nat}{a:Option Addr}{n c:Nat}{l:List Int}(h:w.ownsRow B 3 1 (.slice a n c) n (iS l))(hl:l.length=n):ad6 w a l:=fun j hj=>by
 obtain⟨g,cap,hv⟩:=jl (by omega) h;cases hv;exact⟨g,0,rfl,by rw[dL];exact(h.cellAt j (by omega)).trans (Pq hj)⟩
theorem jo {w:World}{B:Nat}{e:TypeId}{v:Value}{n:Nat}{xs:List Value}{k:Nat}(h:w.ownsRow B e k v n xs):∃a c,v=.slice a n c/\n<=c:=by
 rcases h.2 with⟨h1,h0⟩ | ⟨g,cap,cur,h1,_,_,h2,_⟩
 ·exact⟨_,_,by rw[h1,h0],by omega⟩
 ·exact⟨_,_,h1,h2⟩
end Go.Proofs.YtnakejhohdbfdacGreatDoor.Cls.Wr

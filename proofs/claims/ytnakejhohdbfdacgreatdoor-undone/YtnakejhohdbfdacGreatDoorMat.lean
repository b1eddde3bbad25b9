import Derived.Test.YtnakejhohdbfdacGreatDoorMak
import Derived.Deep.RegionLaw
set_option maxHeartbeats 2000000
set_option maxRecDepth 10000
set_option linter.unusedSimpArgs false
namespace Go.Proofs.YtnakejhohdbfdacGreatDoor
open Go.RowKit j9 Go.Proofs.Tryz
theorem GJ {w:World}{B g n cap size:Nat}{e:TypeId}{xs:List Value}(h:w.ownsRow B e size (.slice (some ⟨g,0,none⟩) n cap) n xs):n<=cap:=by
 rcases h.2 with⟨h0,_⟩ | ⟨g',cap',cur,hv,hg,hh,hn,_⟩
 ·cases h0
 ·cases hv;exact hn
def mK:List nE->List Value
 | []=>[]
 | x :: l=>.int .i64 x.lv :: .int .i64 x.ov :: .bool x.qw :: mK l
theorem CF:∀l m,mK l++mK m=mK (l++m)
 | [],m=>rfl
 | p :: l,m=>by simp[mK,CF l m]
theorem Ak:∀l a,(mK l).take (a * 3)=mK (l.take a)
 | [],a=>by simp[mK]
 | p :: l,0=>rfl
 | p :: l,a+1=>by rw[show(a+1) * 3=a * 3+1+1+1 by omega];simp[mK,Ak l a]
theorem Ec:∀(l:List nE) (i:Nat),i<l.length->(mK l)[i * 3]?=some (.int .i64 ((l[i]?).getD default).lv)/\(mK l)[i * 3+1]?=some (.int .i64 ((l[i]?).getD default).ov)/\(mK l)[i * 3+2]?=some (.bool ((l[i]?).getD default).qw)
 | [],_,h=>absurd h (by simp)
 | p :: l,0,_=>by simp[mK]
 | p :: l,i+1,h=>by
   have:=Ec l i (by simp at h;omega);rw[show(i+1) * 3=i * 3+1+1+1 by omega];simpa[mK] using this
theorem TW (a b:Int)(c:Bool):∀u∈[Value.int .i64 a,.int .i64 b,.bool c],u.oneCell'=true:=by
 intro u hu;simp at hu
 rcases hu with rfl | rfl | rfl <;> rfl
def aaX:Value->Nat
 | .slice _ n _=>n
 | _=>0
def P6 (w:World)(b:Nat)(x:nE):Prop:=w.cell? ⟨b,0,none⟩=some (.int .i64 x.lv)/\w.cell? ⟨b,1,none⟩=some (.int .i64 x.ov)/\w.cell? ⟨b,2,none⟩=some (.bool x.qw)
theorem P6.fr {S:List Nat}{w w':World}{b:Nat}{x:nE}(h:P6 w b x)(hf:Fr S w w')(hb:b ∉ S):P6 w' b x:=⟨hf.cell h.1 hb,hf.cell h.2.1 hb,hf.cell h.2.2 hb⟩
theorem TX:(Tryz.prog.info? 284).map (fun i=>(i.zero,i.size,i.bytes))=some (some (.agg #[.int .i64 0,.int .i64 0,.bool false]),3,24):=by kernel_rfl
theorem AK {P:Program}{ops:Array Oper}{o:Oper}{a:Act}{w:World}{K:Act->World->Prop}{Q:Exit->Act->World->Prop}{X:Prop}
 (hg:o.guard=none) (s x:Operand) (t:TypeId) (hop:o.op=Op.call { callee:=Callee.builtin Builtin.append,args:=#[s,x],argTypes:=#[t,t] })
 (base:Nat) (e:TypeId) (i:TypeInfo) (z:Value) (size bytes:Nat) (h1:P.underlying t=some (.slice e)) (h2:P.info? e=some i) (h3:i.zero=some z) (h4:i.size=size) (h5:i.bytes=bytes) (h6:z.cells.size=size) (h7:0<size)
 (v:Value) (n:Nat) (xs:List Value) (hs:a.eval s=v) (hown:w.ownsRow base e size v n xs)
 (ad:Addr) (m c:Nat) (news:List Value) (hx:a.eval x=.slice (some ad) m c) (hn:news.length=m * size) (hc:∀j u,news[j]?=some u->w.cell? (ad.add j)=some u) (h1c:∀u∈news,u.oneCell'=true)
 (b1:n+m<=maxLen) (b2:(n+m) * bytes<=140737488355328) (b3:base<=w.heap.size)
 (hK:∀v' w',w'.ownsRow base e size v' (n+m) (xs++news)->w.grownBy w' v.ownBlock->K (a.put o.dst v') w') :
 if Region.wanted o (yielded ops a.tmps)=true then Oper.wp P o a w K Q else X:=by
 have hw:Region.wanted o (yielded ops a.tmps)=true:=by simp[Region.wanted,hg]
 rw[aE hw];exact wp_append_own w s x t hop base e i z size bytes h1 h2 h3 h4 h5 h6 h7 v n xs hs hown ad m c news hx hn hc h1c b1 b2 b3 (fun v' w' k2 k3 _=>hK v' w' k2 k3)
structure ES (w:World)(B E g cap:Nat)(st:List nE)(mi me op:Nat):Prop where
 o:w.heap[E]?=some (.cells #[.slice (some ⟨g,0,none⟩) st.length cap,.int .i64 mi,.int .i64 me,.int .i64 op] 287 (0,0))
 r:w.ownsRow B 284 3 (.slice (some ⟨g,0,none⟩) st.length cap) st.length (mK st)
 le:B<=E
theorem ES.cell {w:World}{B E g cap:Nat}{st:List nE}{mi me op:Nat}(h:ES w B E g cap st mi me op){i:Nat}{v:Value}(hv:(#[.slice (some ⟨g,0,none⟩) st.length cap,.int .i64 mi,.int .i64 me,.int .i64 op]:Array Value)[i]?=some v):w.cell? ⟨E,i,none⟩=some v:=by
 rw[fI w E i _ 287 (0,0) h.o];exact hv
theorem ES.c0 {w:World}{B E g cap:Nat}{st:List nE}{mi me op:Nat}(h:ES w B E g cap st mi me op):w.cell? ⟨E,0,none⟩=some (.slice (some ⟨g,0,none⟩) st.length cap):=h.cell rfl
theorem ES.c1 {w:World}{B E g cap:Nat}{st:List nE}{mi me op:Nat}(h:ES w B E g cap st mi me op):w.cell? ⟨E,1,none⟩=some (.int .i64 mi):=h.cell rfl
theorem ES.c2 {w:World}{B E g cap:Nat}{st:List nE}{mi me op:Nat}(h:ES w B E g cap st mi me op):w.cell? ⟨E,2,none⟩=some (.int .i64 me):=h.cell rfl
theorem ES.c3 {w:World}{B E g cap:Nat}{st:List nE}{mi me op:Nat}(h:ES w B E g cap st mi me op):w.cell? ⟨E,3,none⟩=some (.int .i64 op):=h.cell rfl
theorem ES.mq {w:World}{B E g cap:Nat}{st:List nE}{mi me op:Nat}(h:ES w B E g cap st mi me op)(i:Nat):w.frozen? ⟨E,i,none⟩=false:=fT w E i _ 287 h.o
theorem ES.oN {w w':World}{B E g cap:Nat}{st:List nE}{mi me op:Nat}(h:ES w B E g cap st mi me op)(hf:Fr [] w w'):ES w' B E g cap st mi me op :=
 ⟨(hf.block E (aC.1 h.o).1 aj).trans h.o,iM h.r hf,h.le⟩
theorem ES.lt {w:World}{B E g cap:Nat}{st:List nE}{mi me op:Nat}(h:ES w B E g cap st mi me op):E<w.heap.size:=(aC.1 h.o).1
theorem ES.ne {w:World}{B E g cap:Nat}{st:List nE}{mi me op:Nat}(h:ES w B E g cap st mi me op):E≠g:=fun e=>by
 have h1:=h.o
 rcases h.r.2 with⟨h0,_⟩ | ⟨g',c',cur,hv,_,hg,_⟩
 ·cases h0
 ·cases hv
  rw[e,hg]at h1;cases h1
theorem ES.take {w:World}{B E g cap:Nat}{st:List nE}{mi me op m:Nat}(h:ES w B E g cap st mi me op)(hm:m<=st.length):ES (w.setCell ⟨E,0,none⟩ (.slice (some ⟨g,0,none⟩) m cap)) B E g cap (st.take m) mi me op:=by
 have hl:(st.take m).length=m:=by rw[bH];omega
 refine⟨?_,?_,h.le⟩
 ·rw[fU w E 0 _ 287 _ h.o,hl];rfl
 ·have:=xL h.r hm
  rw[Ak]at this;rw[hl];exact kC this (jT w E 0 _) (fun x hx hm=>by cases hx;exact h.ne (ak.1 hm).symm)
theorem ES.num {w:World}{B E g cap:Nat}{st:List nE}{mi me op:Nat}(h:ES w B E g cap st mi me op)(i:Nat)(x:Nat)(Ee me' op':Nat)(hs:(#[.slice (some ⟨g,0,none⟩) st.length cap,.int .i64 mi,.int .i64 me,.int .i64 op]:Array Value).setIfInBounds i (.int .i64 x)=#[.slice (some ⟨g,0,none⟩) st.length cap,.int .i64 Ee,.int .i64 me',.int .i64 op']):ES (w.setCell ⟨E,i,none⟩ (.int .i64 x)) B E g cap st Ee me' op':=by
 refine⟨?_,kC h.r (jT w E i _) (fun x hx hm=>by cases hx;exact h.ne (ak.1 hm).symm),h.le⟩;rw[fU w E i _ 287 _ h.o,hs]
theorem nI {w w':World}{B E i:Nat}{v:Value}(h:Below B w w')(hE:B<=E):Below B w (w'.setCell ⟨E,i,none⟩ v) :=
 ⟨h.os,h.tape,h.output,aK h.size (by simp),fun k hk=>by rw[gF _ _ _ _ (by dsimp only;omega)];exact h.block k hk⟩
theorem kI {w w':World}{B:Nat}(h:Fr [] w w')(hB:B<=w.heap.size):Below B w w':=h.below hB (fun _ hk=>absurd hk aj)
theorem xU (w:World)(B E g cap:Nat)(st:List nE)(mi me op:Nat)(h:ES w B E g cap st mi me op)(h0:0<st.length)(h1:st.length<=1000002) :
 Calls prog 207 #[.pointer (some ⟨E,0,none⟩)] w fun e w'=>e=.returned (.agg #[.int .i64 (top st).lv,.int .i64 (top st).ov,.bool (top st).qw])/\Fr [] w w':=by
 have c0:=h.c0;obtain⟨n,hn⟩:∃n,n=st.length:=⟨_,rfl⟩;obtain⟨m,hm⟩:∃m,n=m+1:=⟨n - 1,by omega⟩;have hr:=h.r;rw[<-hn]at c0 hr;have htop:w.cell? ⟨g,m * 3,none⟩=some (.int .i64 (top st).lv)/\w.cell? ⟨g,m * 3+1,none⟩=some (.int .i64 (top st).ov)/\w.cell? ⟨g,m * 3+2,none⟩=some (.bool (top st).qw):=by
  obtain⟨a1,a2,a3⟩:=Ec st m (by omega);have ht:(st[m]?).getD default=top st:=by rw[top,<-hn,hm];rfl
  rw[ht]at a1 a2 a3;exact⟨by rw[hr.cellAt _ (by omega),a1],by rw[hr.cellAt _ (by omega),a2],by rw[hr.cellAt _ (by omega),a3]⟩
 obtain⟨t0,t1,t2⟩:=htop;have hE:=h.lt;have hg:=(ji hr).2;have hnm:(n:Int) - 1=(m:Int):=by omega
 have hmn:(m:Int)<(n:Int):=by omega
 have hnb:n<=1000002:=by omega
 generalize top st=T at *;obtain⟨lv,ov,qw⟩:=T;dsimp only at *;clear h hr hn hm;go_enter func207,ntmps207;go_wp2;go_region;go_wp2
 (try simp only[Exit.inBlock,Exit.then])
 refine fE (fH (t:=284) (fr:=(0,0)) rfl _ _ w.heap.size _ _ rfl (gQ _ _) underlying284 rfl (by kernel_rfl)) rfl ?_;exact⟨rfl,((Fr.refl [] w).alloc _).drew⟩
theorem GK (w:World)(B E g cap:Nat)(st:List nE)(mi me op m:Nat)(h:ES w B E g cap st mi me op)(hm:st.length=m+1)(h1:st.length<=1000002) :
 Calls prog 208 #[.pointer (some ⟨E,0,none⟩)] w fun e w'=>e=.returned (.tuple #[])/\ES w' B E g cap (st.take m) mi me op/\Fr [E] w w':=by
 have c0:=h.c0;have f0:=h.mq 0;have HT:=hid (h.take (m:=m) (by omega));obtain⟨n,hn⟩:∃n,n=st.length:=⟨_,rfl⟩;have hcap:=GJ h.r;rw[<-hn]at c0 hm h1 hcap;have hnm:(n:Int) - 1=(m:Int):=by omega
 have hmc:(m:Int)<=(cap:Int):=by omega
 have hE:=h.lt;clear h hn hm;go_enter func208,ntmps208;go_region;go_wp2;go_end0;exact⟨rfl,HT.out.oN (s_ _ _ _ rfl rfl rfl rfl),((Fr.refl [E] w).set (ak.2 rfl) _).trans (s_ _ _ _ rfl rfl rfl rfl)⟩
theorem below_grown {w w1 w2:World}{B:Nat}{row:Option Nat}(h:Below B w w1)(hB:B<=w.heap.size)(hg:w1.grownBy w2 row)(hr:∀k,row=some k->B<=k):Below B w w2 :=
 ⟨hg.os.trans h.os,hg.tape.trans h.tape,hg.output.trans h.output,aK h.size hg.size,fun k hk=>(hg.block k (by have:=h.size;omega) (fun e=>by have:=hr k e.symm;omega)).trans (h.block k hk)⟩
theorem Mn {w w1 w2:World}{B:Nat}(h:Below B w w1)(h1:w2.os=w1.os)(h2:w2.tape=w1.tape)(h3:w2.output=w1.output)(h4:w2.heap=w1.heap):Below B w w2 :=
 ⟨h1.trans h.os,h2.trans h.tape,h3.trans h.output,by rw[h4];exact h.size,fun k hk=>by rw[h4];exact h.block k hk⟩
theorem mL {w w1 w2:World}{B:Nat}(h:Below B w w1)(k:Below B w1 w2):Below B w w2 :=
 ⟨k.os.trans h.os,k.tape.trans h.tape,k.output.trans h.output,aK h.size k.size,fun b hb=>(k.block b hb).trans (h.block b hb)⟩
theorem ES.push {w w1 w2:World}{B E g cap g' cap':Nat}{st:List nE}{mi me op n:Nat}{x:nE}(h:ES w B E g cap st mi me op)(hn:n=st.length)(hf:Fr [] w w1)(ho:w2.ownsRow B 284 3 (.slice (some ⟨g',0,none⟩) (n+1) cap') (n+1) (mK st++[.int .i64 x.lv,.int .i64 x.ov,.bool x.qw]))(hg:w1.grownBy w2 (some g)) :
 ES (w2.setCell ⟨E,0,none⟩ (.slice (some ⟨g',0,none⟩) (n+1) cap')) B E g' cap' (st++[x]) mi me op/\w2.heap[E]?=some (.cells #[.slice (some ⟨g,0,none⟩) st.length cap,.int .i64 mi,.int .i64 me,.int .i64 op] 287 (0,0))/\E≠g':=by
 have h1:=h.oN hf;have hE:w2.heap[E]?=some (.cells #[.slice (some ⟨g,0,none⟩) st.length cap,.int .i64 mi,.int .i64 me,.int .i64 op] 287 (0,0)):=(hg.block E h1.lt (fun e=>h.ne (aZ e))).trans h1.o;have hne:E≠g':=fun e=>by
  rcases ho.2 with⟨h0,_⟩ | ⟨g2,c2,cur,hv,_,hg2,_⟩
  ·cases h0
  ·cases hv
   rw[e,hg2]at hE;cases hE
 have hl:(st++[x]).length=n+1:=by rw[aD,hn];rfl
 refine⟨⟨?_,?_,h.le⟩,hE,hne⟩
 ·rw[fU w2 E 0 _ 287 _ hE,hl];rfl
 ·rw[hl,<-CF]
  exact kC ho (jT w2 E 0 _) (fun y hy hm=>by cases hy;exact hne (ak.1 hm).symm)
theorem GL (w:World)(B E g cap:Nat)(st:List nE)(mi me op:Nat)(lv ov:Int)(qw:Bool)(h:ES w B E g cap st mi me op)(h1:st.length<=1000002)(hB:B<=w.heap.size) :
 Calls prog 205 #[.pointer (some ⟨E,0,none⟩),.agg #[.int .i64 lv,.int .i64 ov,.bool qw]] w fun e w'=>e=.returned (.tuple #[])/\(∃g' cap',ES w' B E g' cap' (st++[⟨lv,ov,qw⟩]) mi me op)/\Below B w w':=by
 have c0:=h.c0;have f0:=h.mq 0;have hE:=h.lt;have hg:=ji h.r;have hne:=h.ne;have hBE:=h.le;have HH:=hid h;obtain⟨n,hn⟩:∃n,n=st.length:=⟨_,rfl⟩;have HN:=hid hn;have hr:=h.r;rw[<-hn]at c0 h1 hr;have HR:=hid hr;obtain⟨i0,hi,hz0,hz1,hz2⟩:=fY TX;clear h hn hr;go_enter func205,ntmps205;go_wp2;go_region_law (refine AK rfl (.tmp 8) (.tmp 10) 285 rfl B 284 i0 _ 3 24 underlying285 hi hz0 hz1 hz2 rfl (by decide) (.slice (some ⟨g,0,none⟩) n cap) n (mK st) ?q1 ?q2 ⟨w.heap.size+1,0,none⟩ 1 1 [.int .i64 lv,.int .i64 ov,.bool qw] ?q3 rfl ?q4 (TW _ _ _) (by unfold maxLen;omega) (by omega) ?q5 ?_;(case q1=>simp[Act.eval,Act.put]);(case q2=>exact iM HR.out ((((Fr.refl [] w).alloc _).drew).alloc _));(case q3=>simp[Act.eval,Act.put]);(case q4=>exact kM _ _ _ _ (by simp));(case q5=>simp;omega);intro v' w' hown hgrow;obtain⟨g',c',hv'⟩:=iQ (by omega) hown;subst hv';have KE:=hid hown;have vI:=hid hgrow;have Cz:=hid (HH.out.push (x:=⟨lv,ov,qw⟩) HN.out ((((Fr.refl [] w).alloc _).drew).alloc _) hown hgrow);have g1:w'.cell? ⟨E,0,none⟩=some (.slice (some ⟨g,0,none⟩) st.length cap):=(by rw[fI w' E 0 _ 287 (0,0) Cz.out.2.1];rfl);have g2:=fT w' E 0 _ 287 Cz.out.2.1;clear hown hgrow)
 all_goals (
  go_wp2
  go_end0
  refine⟨rfl,⟨g',c',Cz.out.1.oN (s_ _ _ _ rfl rfl rfl rfl)⟩,?_⟩
  exact Mn (nI (below_grown (kI ((((Fr.refl [] w).alloc _).drew).alloc _) hB) hB vI.out (fun k hk=>by cases hk;exact hg.1)) hBE) rfl rfl rfl rfl)
theorem XY (a b:Int)(c:Bool):∀w:World,(Instr.field 284 (.agg #[.int .i64 a,.int .i64 b,.bool c]) 0).run prog w=.ok (.int .i64 a) w:=fun _=>by kernel_rfl
theorem field2 (a b:Int)(c:Bool):∀w:World,(Instr.field 284 (.agg #[.int .i64 a,.int .i64 b,.bool c]) 2).run prog w=.ok (.bool c) w:=fun _=>by kernel_rfl
theorem Jc (lv:Int)(odd:Bool):kT lv odd=if(lv+1) % 2=(if odd then 1 else 0)then lv+1 else lv+2:=by
 unfold kT;have h:(lv+1) % 2=0\/(lv+1) % 2=1:=by omega
 cases odd <;> rcases h with h | h <;> simp[h]
theorem GM (w:World)(B E g cap:Nat)(st:List nE)(mi me op:Nat)(odd:Bool)(h:ES w B E g cap st mi me op)(h0:0<st.length)(h1:st.length<=1000002)(hT:tK (top st)) :
 Calls prog 203 #[.pointer (some ⟨E,0,none⟩),.bool odd] w fun e w'=>e=.returned (.int .i64 (kT (top st).lv odd))/\Fr [] w w':=by
 have HC:=hid (xU w B E g cap st mi me op h h0 h1);have HN:=hid (Jc (top st).lv odd);have hl0:=hT.1;have hl9:=hT.2.1;generalize hx:kT (top st).lv odd=x at *;clear hx;generalize (top st).lv=lv at *;generalize (top st).ov=ov at *;generalize (top st).qw=qw at *;have HB:=hid (fun w=>Cj odd w);clear h hT;obtain⟨l1,hl1⟩:∃l1,lv+1=l1:=⟨_,rfl⟩;have h12:lv+2=l1+1:=by omega
 have aiJ:1<=l1/\l1<=10:=by omega
 rw[h12,hl1]at HN;clear h12;have hr:l1 % 2=0\/l1 % 2=1:=by omega
 cases odd <;> rcases hr with hr | hr
 all_goals (
  have HX:=hid HN.out
  rw[hr]at HX
  have Kv:=XY lv ov qw
  (try simp only[dV,↓reduceIte]at HX)
  (try simp only[dV,↓reduceIte]at HB)
  go_enter func203,ntmps203
  go_wp2_with (first | (go_at_call 207;refine HC.out.mono ?_;rintro e w1 ⟨rfl,hf1⟩) | (go_at_call 165;refine(HB.out _).mono ?_;rintro e w' ⟨rfl,rfl⟩))
  go_ret
  exact⟨by rw[HX.out] <;> first | rfl | (congr 1;congr 1;simp;omega) | (simp;omega),hf1⟩)
theorem GN (w:World)(B E g cap:Nat)(st:List nE)(mi me op:Nat)(nx:Int)(h:ES w B E g cap st mi me op) :
 Calls prog 204 #[.pointer (some ⟨E,0,none⟩),.int .i64 nx] w fun e w'=>e=.returned (.bool (decide (nx<=9) && mi == 0 && me == 0))/\w'=w:=by
 have c1:=h.c1;have c2:=h.c2;clear h;by_cases h9:nx<=9
 ·have h9b:decide (nx<=9)=true:=bQ h9
  by_cases H_:mi=0
  ·subst H_
   by_cases hme:me=0
   ·subst hme
    go_enter func204,ntmps204;go_wp2;go_ret;exact⟨by rw[h9b];rfl,rfl⟩
   ·have hmb:((me:Int) == 0)=false:=by simp;omega
    have aaZ:¬(me:Int)=0:=by omega
    go_enter func204,ntmps204;go_wp2;go_ret;exact⟨by rw[h9b];simp[hme],rfl⟩
  ·have hmb:((mi:Int) == 0)=false:=by simp;omega
   have aaZ:¬(mi:Int)=0:=by omega
   go_enter func204,ntmps204;go_wp2;go_ret;exact⟨by rw[h9b];simp[H_],rfl⟩
 ·have h9b:decide (nx<=9)=false:=bS h9
  go_enter func204,ntmps204;go_wp2;go_ret;exact⟨by first | rfl | (rw[h9b];rfl) | simp,rfl⟩
theorem ES.tY {w:World}{B E g cap:Nat}{st:List nE}{mi me op:Nat}(h:ES w B E g cap st mi me op):B<=w.heap.size:=by have:=h.le;have:=h.lt;omega
theorem xV (w:World)(B E g cap:Nat)(st:List nE)(mi me op:Nat)(c nx:Int)(F:Bool)(h:ES w B E g cap st mi me op)(h0:0<st.length)(h1:st.length<=1000000)(hme:me<=1000000)(hT:tK (top st))
 (hc:c=14\/c=15\/c=16\/c=17) (hnx:nx=kT (top st).lv (c == 16 || c == 17)) (hF:F=(decide (nx<=9) && mi == 0 && me == 0)) :
 Calls prog 166 #[.pointer (some ⟨E,0,none⟩),.int .i64 c] w fun e w'=>e=.returned (.tuple #[])/\(∃g' cap' st' me',ES w' B E g' cap' st' mi me' op/\((F=true/\st'=st++[⟨nx,Du c,false⟩]/\me'=me)\/(F=false/\mi=0/\st'=st/\me'=me+1)\/(F=false/\mi≠0/\st'=st/\me'=me)))/\Below B w w':=by
 have HN:=hid (GM w B E g cap st mi me op (c == 16 || c == 17) h h0 (by omega) hT);rw[<-hnx]at HN;have HH:=hid h;have hB:=h.tY;have GO:=hid (fun w' (hf:Fr [] w w')=>GN w' B E g cap st mi me op nx (HH.out.oN hf));rw[<-hF]at GO;have aeD:=hid (fun w' (hf:Fr [] w w')=>GL w' B E g cap st mi me op nx (Du c) false (HH.out.oN hf) (by omega) (aK hB hf.size));have aeE:=hid (fun w=>Pc c w);clear hnx hF hT h;generalize Du c=oc at *;have XZ:Hid (∀b:Bool,b=(c == 16 || c == 17)->Calls prog 203 #[.pointer (some ⟨E,0,none⟩),.bool b] w fun e w'=>e=.returned (.int .i64 nx)/\Fr [] w w'):=hid (fun b hb=>by rw[hb];exact HN.out);clear HN;cases F
 ·by_cases H_:mi=0
  ·subst H_
   rcases hc with rfl | rfl | rfl | rfl
   all_goals (
    go_enter func166,ntmps166
    go_wp2_with (first | (go_at_call 203;refine(XZ.out _ (by decide)).mono ?_;rintro e w1 ⟨rfl,hf1⟩;have jc:=hid hf1;have kX:=hid (HH.out.oN hf1);have k1:=kX.out.c1;have k2:=kX.out.c2;have k3:=kX.out.mq 2;clear hf1) | (go_at_call 204;refine(GO.out _ jc.out).mono ?_;rintro e w' ⟨rfl,rfl⟩))
    go_end0
    refine⟨rfl,⟨g,cap,st,me+1,kX.out.num 2 (me+1) 0 (me+1) op rfl,by simp⟩,nI (kI jc.out hB) HH.out.le⟩)
  ·have hmb:((mi:Int) == 0)=false:=by simp;omega
   have aaZ:¬(mi:Int)=0:=by omega
   rcases hc with rfl | rfl | rfl | rfl
   all_goals (
    go_enter func166,ntmps166
    go_wp2_with (first | (go_at_call 203;refine(XZ.out _ (by decide)).mono ?_;rintro e w1 ⟨rfl,hf1⟩;have jc:=hid hf1;have kX:=hid (HH.out.oN hf1);have k1:=kX.out.c1;have k2:=kX.out.c2;clear hf1) | (go_at_call 204;refine(GO.out _ jc.out).mono ?_;rintro e w' ⟨rfl,rfl⟩))
    go_end0
    refine⟨rfl,⟨g,cap,st,me,kX.out,by simp[H_]⟩,kI jc.out hB⟩)
 ·rcases hc with rfl | rfl | rfl | rfl
  all_goals (
   go_enter func166,ntmps166
   go_wp2_with (first | (go_at_call 203;refine(XZ.out _ (by decide)).mono ?_;rintro e w1 ⟨rfl,hf1⟩;have jc:=hid hf1;clear hf1) | (go_at_call 204;refine(GO.out _ jc.out).mono ?_;rintro e w' ⟨rfl,rfl⟩) | (go_at_call 206;refine(aeE.out _).mono ?_;rintro e w' ⟨rfl,rfl⟩) | (go_at_call 205;refine(aeD.out _ jc.out).mono ?_;rintro e w2 ⟨rfl,hx2,hb2⟩))
   go_end0
   obtain⟨g',cap',hes⟩:=hx2
   exact⟨rfl,⟨g',cap',_,me,hes,by simp⟩,mL (kI jc.out hB) hb2⟩)
theorem CG (w:World)(B E g cap:Nat)(st:List nE)(mi me op:Nat)(odd:Bool)(nx:Int)(F:Bool)(h:ES w B E g cap st mi me op)(h0:0<st.length)(h1:st.length<=1000000)(H_:mi<=1000000)(hop:op<=1000000)(hT:tK (top st))
 (hnx:nx=kT (top st).lv odd) (hF:F=(decide (nx<=9) && mi == 0 && me == 0)) :
 Calls prog 169 #[.pointer (some ⟨E,0,none⟩),.bool odd] w fun e w'=>e=.returned (.tuple #[])/\(∃g' cap' st' Ee op',ES w' B E g' cap' st' Ee me op'/\((F=true/\st'=st++[⟨nx,-1,true⟩]/\Ee=mi/\op'=op+1)\/(F=false/\st'=st/\Ee=mi+1/\op'=op)))/\Below B w w':=by
 have HN:=hid (GM w B E g cap st mi me op odd h h0 (by omega) hT);rw[<-hnx]at HN;have HH:=hid h;have hB:=h.tY;have GO:=hid (fun w' (hf:Fr [] w w')=>GN w' B E g cap st mi me op nx (HH.out.oN hf));rw[<-hF]at GO;clear hnx hF hT h;cases F
 ·go_enter func169,ntmps169
  go_wp2_with (first | (go_at_call 203;refine HN.out.mono ?_;rintro e w1 ⟨rfl,hf1⟩;have jc:=hid hf1;have kX:=hid (HH.out.oN hf1);have k1:=kX.out.c1;have k3:=kX.out.mq 1;clear hf1) | (go_at_call 204;refine(GO.out _ jc.out).mono ?_;rintro e w' ⟨rfl,rfl⟩))
  (try simp only[Exit.inBlock,Exit.then])
  refine fE (iA rfl _ _ _) rfl ?_;exact⟨rfl,⟨g,cap,st,mi+1,op,kX.out.num 1 (mi+1) (mi+1) me op rfl,by simp⟩,nI (kI jc.out hB) HH.out.le⟩
 ·go_enter func169,ntmps169
  go_wp2_with (first | (go_at_call 203;refine HN.out.mono ?_;rintro e w1 ⟨rfl,hf1⟩;have jc:=hid hf1;have kX:=hid (HH.out.oN hf1);have k1:=kX.out.c3;have k3:=kX.out.mq 3;have HE2:=hid (kX.out.num 3 (op+1) mi me (op+1) rfl);have hB1:=kX.out.tY;clear hf1) | (go_at_call 204;refine(GO.out _ jc.out).mono ?_;rintro e w' ⟨rfl,rfl⟩) | (go_at_call 205;refine(GL _ B E g cap st mi me (op+1) nx (-1) true ?_ (by omega) ?_).mono ?_;exact HE2.out;(simp;omega);rintro e w2 ⟨rfl,hx2,hb2⟩));go_end0;obtain⟨g',cap',hes⟩:=hx2;exact⟨rfl,⟨g',cap',_,mi,op+1,hes,by simp⟩,mL (nI (kI jc.out hB) HH.out.le) hb2⟩
theorem ES.fr {T:List Nat}{w w':World}{B E g cap:Nat}{st:List nE}{mi me op:Nat}(h:ES w B E g cap st mi me op)(hf:Fr T w w')(hT:∀k∈T,k<B):ES w' B E g cap st mi me op :=
 ⟨(hf.block E h.lt (fun hm=>by have:=hT E hm;have:=h.le;omega)).trans h.o,kC h.r hf (fun x hx hm=>by have:=(h.r.lt x hx).1;have:=hT x hm;omega),h.le⟩
theorem P7 (w:World)(B E g cap:Nat)(st:List nE)(mi me op m:Nat)(h:ES w B E g cap st mi me op)(hm:st.length=m+1)(h1:st.length<=1000000)(hme:me<=1000000) :
 Calls prog 167 #[.pointer (some ⟨E,0,none⟩)] w fun e w'=>e=.returned (.tuple #[])/\(∃st' me',ES w' B E g cap st' mi me' op/\((0<mi/\st'=st/\me'=me)\/(mi=0/\0<me/\st'=st/\me'=me - 1)\/(mi=0/\me=0/\(top st).qw=false/\1<st.length/\st'=st.take m/\me'=me)\/(mi=0/\me=0/\((top st).qw=true\/st.length<=1)/\st'=st/\me'=me)))/\Below B w w':=by
 have HH:=hid h;have hB:=h.tY;have k1:=h.c1;have k2:=h.c2;have f2:=h.mq 2;have HL:=hid (xU w B E g cap st mi me op h (by omega) (by omega));have HT:=hid (fun w' (hf:Fr [] w w')=>GK w' B E g cap st mi me op m (HH.out.oN hf) hm (by omega));generalize hT:top st=T at *;obtain⟨lv,ov,qw⟩:=T;dsimp only at HL;have Kv:=field2 lv ov qw;clear h hT;by_cases H_:mi=0
 ·subst H_
  by_cases hm0:me=0
  ·subst hm0
   obtain⟨n,hn⟩:∃n,n=st.length:=⟨_,rfl⟩;have HN:=hid hn;have hn1:n<=1000000:=by omega
   clear hn;cases qw
   ·by_cases h2:1<n
    ·have h2I:(1:Int)<(n:Int):=by omega
     go_enter func167,ntmps167;go_wp2_with (first | (go_at_call 207;refine HL.out.mono ?_;rintro e w1 ⟨rfl,hf1⟩;have jc:=hid hf1;have kX:=hid (HH.out.oN hf1);have k3:=kX.out.c0;rw[<-HN.out]at k3;clear hf1) | (go_at_call 208;refine(HT.out _ jc.out).mono ?_;rintro e w2 ⟨rfl,he2,hf2⟩));go_end0;exact⟨rfl,⟨_,0,he2,by have h3:=HN.out;simp;omega⟩,mL (kI jc.out hB) (hf2.below kX.out.tY (fun k hk=>by have h5:=ak.1 hk;rw[h5];exact HH.out.le))⟩
    ·have h2I:¬(1:Int)<(n:Int):=by omega
     have h2d:decide ((1:Int)<(n:Int))=false:=bS h2I;have h2e:decide (1<n)=false:=bS h2;go_enter func167,ntmps167;go_wp2_with (first | (go_at_call 207;refine HL.out.mono ?_;rintro e w1 ⟨rfl,hf1⟩;have jc:=hid hf1;have kX:=hid (HH.out.oN hf1);have k3:=kX.out.c0;rw[<-HN.out]at k3;clear hf1));go_end0;exact⟨rfl,⟨_,0,kX.out,by have h3:=HN.out;simp;omega⟩,kI jc.out hB⟩
   ·go_enter func167,ntmps167
    go_wp2_with (first | (go_at_call 207;refine HL.out.mono ?_;rintro e w1 ⟨rfl,hf1⟩;have jc:=hid hf1;have kX:=hid (HH.out.oN hf1);clear hf1));go_end0;exact⟨rfl,⟨_,0,kX.out,by simp⟩,kI jc.out hB⟩
  ·have hmp:(0:Int)<(me:Int):=by omega
   have hmc:(me:Int) - 1=((me - 1:Nat):Int):=by omega
   have HE2:=hid (HH.out.num 2 (me - 1) 0 (me - 1) op rfl);go_enter func167,ntmps167;go_wp2;go_end0;exact⟨rfl,⟨_,me - 1,HE2.out,by simp;omega⟩,nI (fN _ _) HH.out.le⟩
 ·have hmp:(0:Int)<(mi:Int):=by omega
  go_enter func167,ntmps167;go_wp2;go_end0;exact⟨rfl,⟨_,me,HH.out,by simp;omega⟩,fN _ _⟩
theorem tZ (q:UH)(C L:List Int)(w:World)(B E g cap:Nat)(e:xw)(i:Nat)(hC:e.C=C)(hL:e.L=L)(h:ES w B E g cap e.st e.mi e.me e.op)(h0:0<e.st.length)(h1:e.st.length<=1000000)(hT:tK (top e.st))(hu:US w q C L)(hi:i<q.n)(hU:q.U<B) :
 Calls prog 168 #[.pointer (some ⟨E,0,none⟩),.pointer (some ⟨q.U,i * 4,none⟩)] w fun x w'=>x=.returned (.tuple #[])/\US w' q (hold e i).C (hold e i).L/\ES w' B E g cap e.st e.mi e.me e.op/\Fr [q.U] w w':=by
 have HH:=hid h;have HU:=hid hu;have HHC:=hid (Td hT i);have HHL:=hid (IA e i);have HL:=hid (xU w B E g cap e.st e.mi e.me e.op h h0 (by omega));have hov:=hT.2.2;rw[hC]at HHC;rw[hL]at HHL;generalize hTT:top e.st=T at *;obtain⟨lv,ov,qw⟩:=T;dsimp only at HL HHC HHL hov;have A6:q.U<w.heap.size:=fC _ _ (hu.r 0 (by omega));clear h hu hTT hC hL;obtain⟨Zc,hZc⟩:∃Zc,Zc=(hold e i).C:=⟨_,rfl⟩;obtain⟨Zl,Mp⟩:∃Zl,Zl=(hold e i).L:=⟨_,rfl⟩;rw[<-hZc]at HHC ⊢;rw[<-Mp]at HHL ⊢;clear hZc Mp;by_cases ho:ov=-1
 ·subst ho
  go_enter func168,ntmps168;go_wp2_with (first | (go_at_call 207;refine HL.out.mono ?_;rintro x w1 ⟨rfl,hf1⟩;have jc:=hid hf1;have kX:=hid (HH.out.oN hf1);have pO:=hid (HU.out.fr hf1 aj);have k1:=pO.out.l i hi;have k2:=pO.out.soft (i * 4+3) (by omega);have hU1:q.U<w1.heap.size:=aM A6 hf1.size;clear hf1));go_end0;refine⟨rfl,?_,?_,?_⟩
  ·rw[HHC.out,HHL.out,ay (by omega)]
   exact(pO.out.LN hi lv).fr (T:=[]) ((Fr.refl _ _).alloc _) aj
  ·exact(kX.out.fr (T:=[q.U]) (jT _ _ _ _) (fun k hk=>by rw[ak.1 hk];exact hU)).oN ((Fr.refl _ _).alloc _)
  ·exact((jc.out.mono (fun _ h _=>absurd h aj)).set (ak.2 rfl) _).alloc _
 ·have GP:(ov == -1)=false:=by simp[ho]
  have HZ2:=hid (show Zc=C.set i ov by rw[HHC.out,aE (by omega)]);clear hov;go_enter func168,ntmps168;go_wp2_with (first | (go_at_call 207;refine HL.out.mono ?_;rintro x w1 ⟨rfl,hf1⟩;have jc:=hid hf1;have kX:=hid (HH.out.oN hf1);have pO:=hid (HU.out.fr hf1 aj);have k1:=pO.out.l i hi;have k2:=pO.out.soft (i * 4+3) (by omega);have k3:=pO.out.c i hi;have k4:=pO.out.soft (i * 4+2) (by omega);have hU1:q.U<w1.heap.size:=aM A6 hf1.size;clear hf1));go_end0;refine⟨rfl,?_,?_,?_⟩
  ·rw[HZ2.out,HHL.out]
   exact((pO.out.LN hi lv).Cc hi ov).fr (T:=[]) ((Fr.refl _ _).alloc _) aj
  ·exact((kX.out.fr (T:=[q.U]) (jT _ _ _ _) (fun k hk=>by rw[ak.1 hk];exact hU)).fr (T:=[q.U]) (jT _ _ _ _) (fun k hk=>by rw[ak.1 hk];exact hU)).oN ((Fr.refl _ _).alloc _)
  ·exact(((jc.out.mono (fun _ h _=>absurd h aj)).set (ak.2 rfl) _).set (ak.2 rfl) _).alloc _
def muE (E:Nat)(w:World):Nat:=aaX ((w.cell? ⟨E,0,none⟩).getD undef)
theorem P8 {w:World}{B E g cap:Nat}{st:List nE}{mi me op:Nat}(h:ES w B E g cap st mi me op):muE E w=st.length:=by rw[muE,h.c0];rfl
theorem xR (w:World)(B E g cap:Nat)(st:List nE)(mi me op:Nat)(h:ES w B E g cap st mi me op)(h1:st.length<=1000000)(H_:mi<=1000000)(hop:op<=1000000)(IC:0<op->0<oB st.reverse) :
 Calls prog 171 #[.pointer (some ⟨E,0,none⟩)] w fun e w'=>e=.returned (.tuple #[])/\(∃st' Ee me' op',ES w' B E g cap st' Ee me' op'/\((0<mi/\st'=st/\Ee=mi - 1/\me'=me/\op'=op)\/(mi=0/\0<op/\st'=mW st.length st/\Ee=0/\me'=0/\op'=op - 1)\/(mi=0/\op=0/\st'=st/\Ee=0/\me'=me/\op'=0)))/\Below B w w':=by
 have HH:=hid h;have hB:=h.tY;have k1:=h.c1;have k3:=h.c3;have f1:=h.mq 1;have f2:=h.mq 2;have k2:=h.c2;have aa2:=hid IC;clear h IC;by_cases hm0:mi=0
 ·subst hm0
  by_cases ho0:op=0
  ·subst ho0
   go_enter func171,ntmps171;go_wp2;go_end0;exact⟨rfl,⟨_,_,_,_,HH.out,by simp⟩,fN _ _⟩
  ·have hoI:(0:Int)<(op:Int):=by omega
   have aiM:0<op:=by omega
   have k1':w.cell? ⟨E,1,none⟩=some (.int .i64 0):=k1;clear k1;have HE0:=hid (HH.out.num 2 0 0 0 op rfl);have aeF:=hid (aa2.out (by omega));have HB0:=hid (nI (i:=2) (v:=.int .i64 0) (fN B w) HH.out.le);clear f1 aa2;go_enter func171,ntmps171;go_wp2;go_loopw [24] (fun _ wr=>∃t:Nat,t<=st.length/\Hid (mW (st.take t).length (st.take t)=mW st.length st)/\Hid (0<oB (st.take t).reverse)/\Hid (ES wr B E g cap (st.take t) 0 0 op)/\Hid (Below B w wr)) (fun _ wr=>muE E wr)
   case atStart=>exact⟨st.length,au _,hid (by rw[c_]),hid (by rw[c_];exact aeF.out),hid (by rw[c_];exact HE0.out),HB0⟩
   case round =>
    obtain⟨t,htn,aa4,HIS,X0,HBX⟩:=hrel;have htl:(st.take t).length=t:=by rw[bH];omega
    have ht0:0<t:=by have:=Th HIS.out;omega
    obtain⟨m',hm'⟩:∃m',t=m'+1:=⟨t - 1,by omega⟩;have Mq:=hid (OV (htl.trans hm'));have X1:=hid (show(st.take t).take m'=st.take m' by rw[fq,Nat.min_eq_left (by omega)]);rw[X1.out]at Mq;have HIT:=hid (fun hh=>OW (htl.trans hm') hh HIS.out);rw[X1.out]at HIT;have HL:=hid (xU wr B E g cap (st.take t) 0 0 op X0.out (by omega) (by omega));have HT:=hid (fun w' (hf:Fr [] wr w')=>GK w' B E g cap (st.take t) 0 0 op m' (X0.out.oN hf) (htl.trans hm') (by omega));rw[X1.out]at HT;have ZE:=hid (show muE E wr=t by rw[P8 X0.out,htl]);have aa5:(st.take m').length=m':=by rw[bH];omega
    have TO:=hid aa5;have HM':=hid hm';generalize hT:top (st.take t)=T at *;obtain⟨lv,ov,qw⟩:=T;dsimp only at HL Mq HIT;have Kv:=field2 lv ov qw;clear hT htl hm' aa5;cases qw
    ·have HPQ:=hid ((Mq.out.2 rfl).symm.trans aa4.out)
     have HIQ:=hid (HIT.out rfl);clear Mq HIT;go_wp2_with (first | (go_at_call 207;refine HL.out.mono ?_;rintro e w1 ⟨rfl,hf1⟩;have jc:=hid hf1;clear hf1) | (go_at_call 208;refine(HT.out _ jc.out).mono ?_;rintro e w2 ⟨rfl,he2,hf2⟩;have HE2:=hid he2;have i_:=hid hf2;clear he2 hf2));go_roundw
     case rel=>exact⟨m',by have:=HM'.out;omega,HPQ,HIQ,HE2,hid (mL HBX.out (mL (kI jc.out X0.out.tY) (i_.out.below (X0.out.oN jc.out).tY (fun k hk=>by rw[ak.1 hk];exact HH.out.le))))⟩
     case measure=>have h5:=HM'.out;rw[ZE.out,P8 HE2.out,TO.out];omega
    ·have HPQ:=hid (show st.take m'=mW st.length st by rw[<-aa4.out];exact(Mq.out.1 rfl).symm)
     have aiO:(op:Int) - 1=((op - 1:Nat):Int):=by omega
     clear Mq HIT;go_wp2_with (first | (go_at_call 207;refine HL.out.mono ?_;rintro e w1 ⟨rfl,hf1⟩;have jc:=hid hf1;clear hf1) | (go_at_call 208;refine(HT.out _ jc.out).mono ?_;rintro e w2 ⟨rfl,he2,hf2⟩;have HE2:=hid he2;have i_:=hid hf2;have r3:=HE2.out.c3;have r4:=HE2.out.mq 3;clear he2 hf2));go_end0;exact⟨rfl,⟨_,_,_,_,HE2.out.num 3 (op - 1) 0 0 (op - 1) rfl,by rw[HPQ.out];simp;omega⟩,nI (mL HBX.out (mL (kI jc.out X0.out.tY) (i_.out.below (X0.out.oN jc.out).tY (fun k hk=>by rw[ak.1 hk];exact HH.out.le)))) HH.out.le⟩
 ·have hmp:(0:Int)<(mi:Int):=by omega
  have hmc:(mi:Int) - 1=((mi - 1:Nat):Int):=by omega
  have HE2:=hid (HH.out.num 1 (mi - 1) (mi - 1) me op rfl);go_enter func171,ntmps171;go_wp2;go_end0;exact⟨rfl,⟨_,_,_,_,HE2.out,by simp;omega⟩,nI (fN _ _) HH.out.le⟩
end Go.Proofs.YtnakejhohdbfdacGreatDoor

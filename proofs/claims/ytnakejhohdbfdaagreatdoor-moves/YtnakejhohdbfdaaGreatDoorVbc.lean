import Derived.Test.YtnakejhohdbfdaaGreatDoorVay
import Derived.Test.YtnakejhohdbfdaaGreatDoorVar
import Derived.Deep.RegionLaw
set_option maxHeartbeats 16000000
set_option maxRecDepth 10000
set_option linter.unusedSimpArgs false
namespace Go.Proofs.YtnakejhohdbfdaaGreatDoor
open Go.RowKit jN Go.Proofs.Tryz
theorem U8:(Tryz.prog.info? 207).map (fun i=>(i.zero,i.size,i.bytes))=some (some (.agg #[.int .i64 0,.int .i64 0,.bool false]),3,24):=by kernel_rfl
theorem AP {P:Program}{ops:Array Oper}{o:Oper}{a:Act}{w:World}{K:Act->World->Prop}{Q:Exit->Act->World->Prop}{X:Prop}
 (hg:o.guard=none) (s x:Operand) (t:TypeId) (hop:o.op=Op.call { callee:=Callee.builtin Builtin.append,args:=#[s,x],argTypes:=#[t,t] })
 (base:Nat) (e:TypeId) (i:TypeInfo) (z:Value) (size bytes:Nat) (h1:P.underlying t=some (.slice e)) (h2:P.info? e=some i) (h3:i.zero=some z) (h4:i.size=size) (h5:i.bytes=bytes) (h6:z.cells.size=size) (h7:0<size)
 (v:Value) (n:Nat) (xs:List Value) (hs:a.eval s=v) (hown:w.ownsRow base e size v n xs)
 (ad:Addr) (m c:Nat) (news:List Value) (hx:a.eval x=.slice (some ad) m c) (hn:news.length=m * size) (hc:∀j u,news[j]?=some u->w.cell? (ad.add j)=some u) (h1c:∀u∈news,u.oneCell'=true)
 (b1:n+m<=maxLen) (b2:(n+m) * bytes<=140737488355328) (b3:base<=w.heap.size)
 (hK:∀v' w',w'.ownsRow base e size v' (n+m) (xs++news)->w.grownBy w' v.ownBlock->K (a.put o.dst v') w') :
 if Region.wanted o (yielded ops a.tmps)=true then Oper.wp P o a w K Q else X:=by
 have hw:Region.wanted o (yielded ops a.tmps)=true:=by simp[Region.wanted,hg]
 rw[ay hw];exact wp_append_own w s x t hop base e i z size bytes h1 h2 h3 h4 h5 h6 h7 v n xs hs hown ad m c news hx hn hc h1c b1 b2 b3 (fun v' w' k2 k3 _=>hK v' w' k2 k3)
structure ES (w:World)(B E g cap:Nat)(st:List lZ)(mi me op:Nat):Prop where
 o:w.heap[E]?=some (.cells #[.slice (some ⟨g,0,none⟩) st.length cap,.int .i64 mi,.int .i64 me,.int .i64 op] 210 (0,0))
 r:w.ownsRow B 207 3 (.slice (some ⟨g,0,none⟩) st.length cap) st.length (jL st)
 le:B<=E
theorem ES.cell {w:World}{B E g cap:Nat}{st:List lZ}{mi me op:Nat}(h:ES w B E g cap st mi me op){i:Nat}{v:Value}(hv:(#[.slice (some ⟨g,0,none⟩) st.length cap,.int .i64 mi,.int .i64 me,.int .i64 op]:Array Value)[i]?=some v):w.cell? ⟨E,i,none⟩=some v:=by
 rw[fu w E i _ 210 (0,0) h.o];exact hv
theorem ES.c0 {w:World}{B E g cap:Nat}{st:List lZ}{mi me op:Nat}(h:ES w B E g cap st mi me op):w.cell? ⟨E,0,none⟩=some (.slice (some ⟨g,0,none⟩) st.length cap):=h.cell rfl
theorem ES.c1 {w:World}{B E g cap:Nat}{st:List lZ}{mi me op:Nat}(h:ES w B E g cap st mi me op):w.cell? ⟨E,1,none⟩=some (.int .i64 mi):=h.cell rfl
theorem ES.c2 {w:World}{B E g cap:Nat}{st:List lZ}{mi me op:Nat}(h:ES w B E g cap st mi me op):w.cell? ⟨E,2,none⟩=some (.int .i64 me):=h.cell rfl
theorem ES.c3 {w:World}{B E g cap:Nat}{st:List lZ}{mi me op:Nat}(h:ES w B E g cap st mi me op):w.cell? ⟨E,3,none⟩=some (.int .i64 op):=h.cell rfl
theorem ES.j8 {w:World}{B E g cap:Nat}{st:List lZ}{mi me op:Nat}(h:ES w B E g cap st mi me op)(i:Nat):w.frozen? ⟨E,i,none⟩=false:=fF w E i _ 210 h.o
theorem ES.iS {w w':World}{B E g cap:Nat}{st:List lZ}{mi me op:Nat}(h:ES w B E g cap st mi me op)(hf:Fr [] w w'):ES w' B E g cap st mi me op :=
 ⟨(hf.block E (aD.1 h.o).1 af).trans h.o,fS h.r hf,h.le⟩
theorem ES.lt {w:World}{B E g cap:Nat}{st:List lZ}{mi me op:Nat}(h:ES w B E g cap st mi me op):E<w.heap.size:=(aD.1 h.o).1
theorem ES.ne {w:World}{B E g cap:Nat}{st:List lZ}{mi me op:Nat}(h:ES w B E g cap st mi me op):E≠g:=fun e=>by
 have h1:=h.o
 rcases h.r.2 with⟨h0,_⟩ | ⟨g',c',cur,hv,_,hg,_⟩
 ·cases h0
 ·cases hv
  rw[e,hg]at h1;cases h1
theorem ES.take {w:World}{B E g cap:Nat}{st:List lZ}{mi me op m:Nat}(h:ES w B E g cap st mi me op)(hm:m<=st.length):ES (w.setCell ⟨E,0,none⟩ (.slice (some ⟨g,0,none⟩) m cap)) B E g cap (st.take m) mi me op:=by
 have hl:(st.take m).length=m:=by rw[aP];omega
 refine⟨?_,?_,h.le⟩
 ·rw[fA w E 0 _ 210 _ h.o,hl];rfl
 ·have:=pH h.r hm
  rw[uq]at this;rw[hl];exact j_ this (gH w E 0 _) (fun x hx hm=>by cases hx;exact h.ne (aj.1 hm).symm)
theorem ES.num {w:World}{B E g cap:Nat}{st:List lZ}{mi me op:Nat}(h:ES w B E g cap st mi me op)(i:Nat)(x:Nat)(EL me' op':Nat)(hs:(#[.slice (some ⟨g,0,none⟩) st.length cap,.int .i64 mi,.int .i64 me,.int .i64 op]:Array Value).setIfInBounds i (.int .i64 x)=#[.slice (some ⟨g,0,none⟩) st.length cap,.int .i64 EL,.int .i64 me',.int .i64 op']):ES (w.setCell ⟨E,i,none⟩ (.int .i64 x)) B E g cap st EL me' op':=by
 refine⟨?_,j_ h.r (gH w E i _) (fun x hx hm=>by cases hx;exact h.ne (aj.1 hm).symm),h.le⟩;rw[fA w E i _ 210 _ h.o,hs]
theorem ni {w w':World}{B E i:Nat}{v:Value}(h:Below B w w')(hE:B<=E):Below B w (w'.setCell ⟨E,i,none⟩ v) :=
 ⟨h.os,h.tape,h.output,a_ h.size (by simp),fun k hk=>by rw[fK _ _ _ _ (by dsimp only;omega)];exact h.block k hk⟩
theorem jU {w w':World}{B:Nat}(h:Fr [] w w')(hB:B<=w.heap.size):Below B w w':=h.below hB (fun _ hk=>absurd hk af)
theorem yC (w:World)(B E g cap:Nat)(st:List lZ)(mi me op:Nat)(h:ES w B E g cap st mi me op)(h0:0<st.length)(h1:st.length<=1000002) :
 Calls prog 186 #[.pointer (some ⟨E,0,none⟩)] w fun e w'=>e=.returned (.agg #[.int .i64 (top st).lv,.int .i64 (top st).ov,.bool (top st).l7])/\Fr [] w w':=by
 have c0:=h.c0;obtain⟨n,hn⟩:∃n,n=st.length:=⟨_,rfl⟩;obtain⟨m,hm⟩:∃m,n=m+1:=⟨n - 1,by omega⟩;have hr:=h.r;rw[<-hn]at c0 hr;have htop:w.cell? ⟨g,m * 3,none⟩=some (.int .i64 (top st).lv)/\w.cell? ⟨g,m * 3+1,none⟩=some (.int .i64 (top st).ov)/\w.cell? ⟨g,m * 3+2,none⟩=some (.bool (top st).l7):=by
  obtain⟨a1,a2,a3⟩:=zu st m (by omega);have ht:(st[m]?).getD default=top st:=by rw[top,<-hn,hm];rfl
  rw[ht]at a1 a2 a3;exact⟨by rw[hr.cellAt _ (by omega),a1],by rw[hr.cellAt _ (by omega),a2],by rw[hr.cellAt _ (by omega),a3]⟩
 obtain⟨t0,t1,t2⟩:=htop;have hE:=h.lt;have hg:=(fZ hr).2;have hnm:(n:Int) - 1=(m:Int):=by omega
 have hmn:(m:Int)<(n:Int):=by omega
 have hnb:n<=1000002:=by omega
 generalize top st=T at *;obtain⟨lv,ov,l7⟩:=T;dsimp only at *;clear h hr hn hm;go_enter func186,ntmps186;go_wp2;go_region;go_wp2
 (try simp only[Exit.inBlock,Exit.then])
 refine eU (eW (t:=207) (fr:=(0,0)) rfl _ _ w.heap.size _ _ rfl (fH _ _) underlying207 rfl (by kernel_rfl)) rfl ?_;exact⟨rfl,((Fr.refl [] w).alloc _).drew⟩
theorem Hi (w:World)(B E g cap:Nat)(st:List lZ)(mi me op m:Nat)(h:ES w B E g cap st mi me op)(hm:st.length=m+1)(h1:st.length<=1000002) :
 Calls prog 187 #[.pointer (some ⟨E,0,none⟩)] w fun e w'=>e=.returned (.tuple #[])/\ES w' B E g cap (st.take m) mi me op/\Fr [E] w w':=by
 have c0:=h.c0;have f0:=h.j8 0;have HT:=hid (h.take (m:=m) (by omega));obtain⟨n,hn⟩:∃n,n=st.length:=⟨_,rfl⟩;have hcap:=qh h.r;rw[<-hn]at c0 hm h1 hcap;have hnm:(n:Int) - 1=(m:Int):=by omega
 have hmc:(m:Int)<=(cap:Int):=by omega
 have hE:=h.lt;clear h hn hm;go_enter func187,ntmps187;go_region;go_wp2;go_end0;exact⟨rfl,HT.out.iS (iD _ _ _ rfl rfl rfl rfl),((Fr.refl [E] w).set (aj.2 rfl) _).trans (iD _ _ _ rfl rfl rfl rfl)⟩
theorem below_grown {w w1 w2:World}{B:Nat}{row:Option Nat}(h:Below B w w1)(hB:B<=w.heap.size)(hg:w1.grownBy w2 row)(hr:∀k,row=some k->B<=k):Below B w w2 :=
 ⟨hg.os.trans h.os,hg.tape.trans h.tape,hg.output.trans h.output,a_ h.size hg.size,fun k hk=>(hg.block k (by have:=h.size;omega) (fun e=>by have:=hr k e.symm;omega)).trans (h.block k hk)⟩
theorem Nj {w w1 w2:World}{B:Nat}(h:Below B w w1)(h1:w2.os=w1.os)(h2:w2.tape=w1.tape)(h3:w2.output=w1.output)(h4:w2.heap=w1.heap):Below B w w2 :=
 ⟨h1.trans h.os,h2.trans h.tape,h3.trans h.output,by rw[h4];exact h.size,fun k hk=>by rw[h4];exact h.block k hk⟩
theorem mB {w w1 w2:World}{B:Nat}(h:Below B w w1)(k:Below B w1 w2):Below B w w2 :=
 ⟨k.os.trans h.os,k.tape.trans h.tape,k.output.trans h.output,a_ h.size k.size,fun b hb=>(k.block b hb).trans (h.block b hb)⟩
theorem ES.push {w w1 w2:World}{B E g cap g' cap':Nat}{st:List lZ}{mi me op n:Nat}{x:lZ}(h:ES w B E g cap st mi me op)(hn:n=st.length)(hf:Fr [] w w1)(ho:w2.ownsRow B 207 3 (.slice (some ⟨g',0,none⟩) (n+1) cap') (n+1) (jL st++[.int .i64 x.lv,.int .i64 x.ov,.bool x.l7]))(hg:w1.grownBy w2 (some g)) :
 ES (w2.setCell ⟨E,0,none⟩ (.slice (some ⟨g',0,none⟩) (n+1) cap')) B E g' cap' (st++[x]) mi me op/\w2.heap[E]?=some (.cells #[.slice (some ⟨g,0,none⟩) st.length cap,.int .i64 mi,.int .i64 me,.int .i64 op] 210 (0,0))/\E≠g':=by
 have h1:=h.iS hf;have hE:w2.heap[E]?=some (.cells #[.slice (some ⟨g,0,none⟩) st.length cap,.int .i64 mi,.int .i64 me,.int .i64 op] 210 (0,0)):=(hg.block E h1.lt (fun e=>h.ne (bW e))).trans h1.o;have hne:E≠g':=fun e=>by
  rcases ho.2 with⟨h0,_⟩ | ⟨g2,c2,cur,hv,_,hg2,_⟩
  ·cases h0
  ·cases hv
   rw[e,hg2]at hE;cases hE
 have hl:(st++[x]).length=n+1:=by rw[aG,hn];rfl
 refine⟨⟨?_,?_,h.le⟩,hE,hne⟩
 ·rw[fA w2 E 0 _ 210 _ hE,hl];rfl
 ·rw[hl,<-w_]
  exact j_ ho (gH w2 E 0 _) (fun y hy hm=>by cases hy;exact hne (aj.1 hm).symm)
theorem Hj (w:World)(B E g cap:Nat)(st:List lZ)(mi me op:Nat)(lv ov:Int)(l7:Bool)(h:ES w B E g cap st mi me op)(h1:st.length<=1000002)(hB:B<=w.heap.size) :
 Calls prog 184 #[.pointer (some ⟨E,0,none⟩),.agg #[.int .i64 lv,.int .i64 ov,.bool l7]] w fun e w'=>e=.returned (.tuple #[])/\(∃g' cap',ES w' B E g' cap' (st++[⟨lv,ov,l7⟩]) mi me op)/\Below B w w':=by
 have c0:=h.c0;have f0:=h.j8 0;have hE:=h.lt;have hg:=fZ h.r;have hne:=h.ne;have hBE:=h.le;have HH:=hid h;obtain⟨n,hn⟩:∃n,n=st.length:=⟨_,rfl⟩;have HN:=hid hn;have hr:=h.r;rw[<-hn]at c0 h1 hr;have HR:=hid hr;obtain⟨i0,hi,hz0,hz1,hz2⟩:=e_ U8;clear h hn hr;go_enter func184,ntmps184;go_wp2;go_region_law (refine AP rfl (.tmp 8) (.tmp 10) 208 rfl B 207 i0 _ 3 24 underlying208 hi hz0 hz1 hz2 rfl (by decide) (.slice (some ⟨g,0,none⟩) n cap) n (jL st) ?q1 ?q2 ⟨w.heap.size+1,0,none⟩ 1 1 [.int .i64 lv,.int .i64 ov,.bool l7] ?q3 rfl ?q4 (qO _ _ _) (by unfold maxLen;omega) (by omega) ?q5 ?_;(case q1=>simp[Act.eval,Act.put]);(case q2=>exact fS HR.out ((((Fr.refl [] w).alloc _).drew).alloc _));(case q3=>simp[Act.eval,Act.put]);(case q4=>exact iC _ _ _ _ (by simp));(case q5=>simp;omega);intro v' w' hown hgrow;obtain⟨g',c',hv'⟩:=fR (by omega) hown;subst hv';have ZQ:=hid hown;have qV:=hid hgrow;have oD:=hid (HH.out.push (x:=⟨lv,ov,l7⟩) HN.out ((((Fr.refl [] w).alloc _).drew).alloc _) hown hgrow);have g1:w'.cell? ⟨E,0,none⟩=some (.slice (some ⟨g,0,none⟩) st.length cap):=(by rw[fu w' E 0 _ 210 (0,0) oD.out.2.1];rfl);have g2:=fF w' E 0 _ 210 oD.out.2.1;clear hown hgrow)
 all_goals (
  go_wp2
  go_end0
  refine⟨rfl,⟨g',c',oD.out.1.iS (iD _ _ _ rfl rfl rfl rfl)⟩,?_⟩
  exact Nj (ni (below_grown (jU ((((Fr.refl [] w).alloc _).drew).alloc _) hB) hB qV.out (fun k hk=>by cases hk;exact hg.1)) hBE) rfl rfl rfl rfl)
theorem Yy (a b:Int)(c:Bool):∀w:World,(Instr.field 207 (.agg #[.int .i64 a,.int .i64 b,.bool c]) 0).run prog w=.ok (.int .i64 a) w:=fun _=>by kernel_rfl
theorem Rq (a b:Int)(c:Bool):∀w:World,(Instr.field 207 (.agg #[.int .i64 a,.int .i64 b,.bool c]) 2).run prog w=.ok (.bool c) w:=fun _=>by kernel_rfl
theorem JM (lv:Int)(odd:Bool):jG lv odd=if(lv+1) % 2=(if odd then 1 else 0)then lv+1 else lv+2:=by
 unfold jG;have h:(lv+1) % 2=0\/(lv+1) % 2=1:=by omega
 cases odd <;> rcases h with h | h <;> simp[h]
theorem Hl (w:World)(B E g cap:Nat)(st:List lZ)(mi me op:Nat)(odd:Bool)(h:ES w B E g cap st mi me op)(h0:0<st.length)(h1:st.length<=1000002)(hT:qH (top st)) :
 Calls prog 182 #[.pointer (some ⟨E,0,none⟩),.bool odd] w fun e w'=>e=.returned (.int .i64 (jG (top st).lv odd))/\Fr [] w w':=by
 have HC:=hid (yC w B E g cap st mi me op h h0 h1);have HN:=hid (JM (top st).lv odd);have hl0:=hT.1;have hl9:=hT.2.1;generalize hx:jG (top st).lv odd=x at *;clear hx;generalize (top st).lv=lv at *;generalize (top st).ov=ov at *;generalize (top st).l7=l7 at *;have HB:=hid (fun w=>Cf odd w);clear h hT;obtain⟨l1,hl1⟩:∃l1,lv+1=l1:=⟨_,rfl⟩;have h12:lv+2=l1+1:=by omega
 have alk:1<=l1/\l1<=10:=by omega
 rw[h12,hl1]at HN;clear h12;have hr:l1 % 2=0\/l1 % 2=1:=by omega
 cases odd <;> rcases hr with hr | hr
 all_goals (
  have HX:=hid HN.out
  rw[hr]at HX
  have Rr:=Yy lv ov l7
  (try simp only[Bool.false_eq_true,↓reduceIte]at HX)
  (try simp only[Bool.false_eq_true,↓reduceIte]at HB)
  go_enter func182,ntmps182
  go_wp2_with (first | (go_at_call 186;refine HC.out.mono ?_;rintro e w1 ⟨rfl,hf1⟩) | (go_at_call 127;refine(HB.out _).mono ?_;rintro e w' ⟨rfl,rfl⟩))
  go_ret
  exact⟨by rw[HX.out] <;> first | rfl | (congr 1;congr 1;simp;omega) | (simp;omega),hf1⟩)
theorem Ho (w:World)(B E g cap:Nat)(st:List lZ)(mi me op:Nat)(nx:Int)(h:ES w B E g cap st mi me op) :
 Calls prog 183 #[.pointer (some ⟨E,0,none⟩),.int .i64 nx] w fun e w'=>e=.returned (.bool (decide (nx<=9) && mi == 0 && me == 0))/\w'=w:=by
 have c1:=h.c1;have c2:=h.c2;clear h;by_cases h9:nx<=9
 ·have QJ:decide (nx<=9)=true:=aZ h9
  by_cases tR:mi=0
  ·subst tR
   by_cases hme:me=0
   ·subst hme
    go_enter func183,ntmps183;go_wp2;go_ret;exact⟨by rw[QJ];rfl,rfl⟩
   ·have hmb:((me:Int) == 0)=false:=by simp;omega
    have FF:¬(me:Int)=0:=by omega
    go_enter func183,ntmps183;go_wp2;go_ret;exact⟨by rw[QJ];simp[hme],rfl⟩
  ·have hmb:((mi:Int) == 0)=false:=by simp;omega
   have FF:¬(mi:Int)=0:=by omega
   go_enter func183,ntmps183;go_wp2;go_ret;exact⟨by rw[QJ];simp[tR],rfl⟩
 ·have QJ:decide (nx<=9)=false:=aK h9
  go_enter func183,ntmps183;go_wp2;go_ret;exact⟨by first | rfl | (rw[QJ];rfl) | simp,rfl⟩
theorem ES.uC {w:World}{B E g cap:Nat}{st:List lZ}{mi me op:Nat}(h:ES w B E g cap st mi me op):B<=w.heap.size:=by have:=h.le;have:=h.lt;omega
theorem yD (w:World)(B E g cap:Nat)(st:List lZ)(mi me op:Nat)(c nx:Int)(F:Bool)(h:ES w B E g cap st mi me op)(h0:0<st.length)(h1:st.length<=1000000)(hme:me<=1000000)(hT:qH (top st))
 (hc:c=14\/c=15\/c=16\/c=17) (hnx:nx=jG (top st).lv (c == 16 || c == 17)) (hF:F=(decide (nx<=9) && mi == 0 && me == 0)) :
 Calls prog 128 #[.pointer (some ⟨E,0,none⟩),.int .i64 c] w fun e w'=>e=.returned (.tuple #[])/\(∃g' cap' st' me',ES w' B E g' cap' st' mi me' op/\((F=true/\st'=st++[⟨nx,DE c,false⟩]/\me'=me)\/(F=false/\mi=0/\st'=st/\me'=me+1)\/(F=false/\mi≠0/\st'=st/\me'=me)))/\Below B w w':=by
 have HN:=hid (Hl w B E g cap st mi me op (c == 16 || c == 17) h h0 (by omega) hT);rw[<-hnx]at HN;have HH:=hid h;have hB:=h.uC;have Hp:=hid (fun w' (hf:Fr [] w w')=>Ho w' B E g cap st mi me op nx (HH.out.iS hf));rw[<-hF]at Hp;have af3:=hid (fun w' (hf:Fr [] w w')=>Hj w' B E g cap st mi me op nx (DE c) false (HH.out.iS hf) (by omega) (a_ hB hf.size));have af4:=hid (fun w=>PD c w);clear hnx hF hT h;generalize DE c=oc at *;have Wy:Hid (∀b:Bool,b=(c == 16 || c == 17)->Calls prog 182 #[.pointer (some ⟨E,0,none⟩),.bool b] w fun e w'=>e=.returned (.int .i64 nx)/\Fr [] w w'):=hid (fun b hb=>by rw[hb];exact HN.out);clear HN;cases F
 ·by_cases tR:mi=0
  ·subst tR
   rcases hc with rfl | rfl | rfl | rfl
   all_goals (
    go_enter func128,ntmps128
    go_wp2_with (first | (go_at_call 182;refine(Wy.out _ (by decide)).mono ?_;rintro e w1 ⟨rfl,hf1⟩;have iy:=hid hf1;have jK:=hid (HH.out.iS hf1);have k1:=jK.out.c1;have k2:=jK.out.c2;have k3:=jK.out.j8 2;clear hf1) | (go_at_call 183;refine(Hp.out _ iy.out).mono ?_;rintro e w' ⟨rfl,rfl⟩))
    go_end0
    refine⟨rfl,⟨g,cap,st,me+1,jK.out.num 2 (me+1) 0 (me+1) op rfl,by simp⟩,ni (jU iy.out hB) HH.out.le⟩)
  ·have hmb:((mi:Int) == 0)=false:=by simp;omega
   have FF:¬(mi:Int)=0:=by omega
   rcases hc with rfl | rfl | rfl | rfl
   all_goals (
    go_enter func128,ntmps128
    go_wp2_with (first | (go_at_call 182;refine(Wy.out _ (by decide)).mono ?_;rintro e w1 ⟨rfl,hf1⟩;have iy:=hid hf1;have jK:=hid (HH.out.iS hf1);have k1:=jK.out.c1;have k2:=jK.out.c2;clear hf1) | (go_at_call 183;refine(Hp.out _ iy.out).mono ?_;rintro e w' ⟨rfl,rfl⟩))
    go_end0
    refine⟨rfl,⟨g,cap,st,me,jK.out,by simp[tR]⟩,jU iy.out hB⟩)
 ·rcases hc with rfl | rfl | rfl | rfl
  all_goals (
   go_enter func128,ntmps128
   go_wp2_with (first | (go_at_call 182;refine(Wy.out _ (by decide)).mono ?_;rintro e w1 ⟨rfl,hf1⟩;have iy:=hid hf1;clear hf1) | (go_at_call 183;refine(Hp.out _ iy.out).mono ?_;rintro e w' ⟨rfl,rfl⟩) | (go_at_call 185;refine(af4.out _).mono ?_;rintro e w' ⟨rfl,rfl⟩) | (go_at_call 184;refine(af3.out _ iy.out).mono ?_;rintro e w2 ⟨rfl,hx2,hb2⟩))
   go_end0
   obtain⟨g',cap',hes⟩:=hx2
   exact⟨rfl,⟨g',cap',_,me,hes,by simp⟩,mB (jU iy.out hB) hb2⟩)
theorem CS (w:World)(B E g cap:Nat)(st:List lZ)(mi me op:Nat)(odd:Bool)(nx:Int)(F:Bool)(h:ES w B E g cap st mi me op)(h0:0<st.length)(h1:st.length<=1000000)(tR:mi<=1000000)(hop:op<=1000000)(hT:qH (top st))
 (hnx:nx=jG (top st).lv odd) (hF:F=(decide (nx<=9) && mi == 0 && me == 0)) :
 Calls prog 131 #[.pointer (some ⟨E,0,none⟩),.bool odd] w fun e w'=>e=.returned (.tuple #[])/\(∃g' cap' st' EL op',ES w' B E g' cap' st' EL me op'/\((F=true/\st'=st++[⟨nx,-1,true⟩]/\EL=mi/\op'=op+1)\/(F=false/\st'=st/\EL=mi+1/\op'=op)))/\Below B w w':=by
 have HN:=hid (Hl w B E g cap st mi me op odd h h0 (by omega) hT);rw[<-hnx]at HN;have HH:=hid h;have hB:=h.uC;have Hp:=hid (fun w' (hf:Fr [] w w')=>Ho w' B E g cap st mi me op nx (HH.out.iS hf));rw[<-hF]at Hp;clear hnx hF hT h;cases F
 ·go_enter func131,ntmps131
  go_wp2_with (first | (go_at_call 182;refine HN.out.mono ?_;rintro e w1 ⟨rfl,hf1⟩;have iy:=hid hf1;have jK:=hid (HH.out.iS hf1);have k1:=jK.out.c1;have k3:=jK.out.j8 1;clear hf1) | (go_at_call 183;refine(Hp.out _ iy.out).mono ?_;rintro e w' ⟨rfl,rfl⟩))
  (try simp only[Exit.inBlock,Exit.then])
  refine eU (results_none rfl _ _ _) rfl ?_;exact⟨rfl,⟨g,cap,st,mi+1,op,jK.out.num 1 (mi+1) (mi+1) me op rfl,by simp⟩,ni (jU iy.out hB) HH.out.le⟩
 ·go_enter func131,ntmps131
  go_wp2_with (first | (go_at_call 182;refine HN.out.mono ?_;rintro e w1 ⟨rfl,hf1⟩;have iy:=hid hf1;have jK:=hid (HH.out.iS hf1);have k1:=jK.out.c3;have k3:=jK.out.j8 3;have HE2:=hid (jK.out.num 3 (op+1) mi me (op+1) rfl);have hB1:=jK.out.uC;clear hf1) | (go_at_call 183;refine(Hp.out _ iy.out).mono ?_;rintro e w' ⟨rfl,rfl⟩) | (go_at_call 184;refine(Hj _ B E g cap st mi me (op+1) nx (-1) true ?_ (by omega) ?_).mono ?_;exact HE2.out;(simp;omega);rintro e w2 ⟨rfl,hx2,hb2⟩));go_end0;obtain⟨g',cap',hes⟩:=hx2;exact⟨rfl,⟨g',cap',_,mi,op+1,hes,by simp⟩,mB (ni (jU iy.out hB) HH.out.le) hb2⟩
theorem ES.fr {T:List Nat}{w w':World}{B E g cap:Nat}{st:List lZ}{mi me op:Nat}(h:ES w B E g cap st mi me op)(hf:Fr T w w')(hT:∀k∈T,k<B):ES w' B E g cap st mi me op :=
 ⟨(hf.block E h.lt (fun hm=>by have:=hT E hm;have:=h.le;omega)).trans h.o,j_ h.r hf (fun x hx hm=>by have:=(h.r.lt x hx).1;have:=hT x hm;omega),h.le⟩
theorem Rs (w:World)(B E g cap:Nat)(st:List lZ)(mi me op m:Nat)(h:ES w B E g cap st mi me op)(hm:st.length=m+1)(h1:st.length<=1000000)(hme:me<=1000000) :
 Calls prog 129 #[.pointer (some ⟨E,0,none⟩)] w fun e w'=>e=.returned (.tuple #[])/\(∃st' me',ES w' B E g cap st' mi me' op/\((0<mi/\st'=st/\me'=me)\/(mi=0/\0<me/\st'=st/\me'=me - 1)\/(mi=0/\me=0/\(top st).l7=false/\1<st.length/\st'=st.take m/\me'=me)\/(mi=0/\me=0/\((top st).l7=true\/st.length<=1)/\st'=st/\me'=me)))/\Below B w w':=by
 have HH:=hid h;have hB:=h.uC;have k1:=h.c1;have k2:=h.c2;have f2:=h.j8 2;have HL:=hid (yC w B E g cap st mi me op h (by omega) (by omega));have HT:=hid (fun w' (hf:Fr [] w w')=>Hi w' B E g cap st mi me op m (HH.out.iS hf) hm (by omega));generalize hT:top st=T at *;obtain⟨lv,ov,l7⟩:=T;dsimp only at HL;have Rr:=Rq lv ov l7;clear h hT;by_cases tR:mi=0
 ·subst tR
  by_cases hm0:me=0
  ·subst hm0
   obtain⟨n,hn⟩:∃n,n=st.length:=⟨_,rfl⟩;have HN:=hid hn;have hn1:n<=1000000:=by omega
   clear hn;cases l7
   ·by_cases h2:1<n
    ·have h2I:(1:Int)<(n:Int):=by omega
     go_enter func129,ntmps129;go_wp2_with (first | (go_at_call 186;refine HL.out.mono ?_;rintro e w1 ⟨rfl,hf1⟩;have iy:=hid hf1;have jK:=hid (HH.out.iS hf1);have k3:=jK.out.c0;rw[<-HN.out]at k3;clear hf1) | (go_at_call 187;refine(HT.out _ iy.out).mono ?_;rintro e w2 ⟨rfl,he2,hf2⟩));go_end0;exact⟨rfl,⟨_,0,he2,by have h3:=HN.out;simp;omega⟩,mB (jU iy.out hB) (hf2.below jK.out.uC (fun k hk=>by have h5:=aj.1 hk;rw[h5];exact HH.out.le))⟩
    ·have h2I:¬(1:Int)<(n:Int):=by omega
     have h2d:decide ((1:Int)<(n:Int))=false:=aK h2I;have h2e:decide (1<n)=false:=aK h2;go_enter func129,ntmps129;go_wp2_with (first | (go_at_call 186;refine HL.out.mono ?_;rintro e w1 ⟨rfl,hf1⟩;have iy:=hid hf1;have jK:=hid (HH.out.iS hf1);have k3:=jK.out.c0;rw[<-HN.out]at k3;clear hf1));go_end0;exact⟨rfl,⟨_,0,jK.out,by have h3:=HN.out;simp;omega⟩,jU iy.out hB⟩
   ·go_enter func129,ntmps129
    go_wp2_with (first | (go_at_call 186;refine HL.out.mono ?_;rintro e w1 ⟨rfl,hf1⟩;have iy:=hid hf1;have jK:=hid (HH.out.iS hf1);clear hf1));go_end0;exact⟨rfl,⟨_,0,jK.out,by simp⟩,jU iy.out hB⟩
  ·have hmp:(0:Int)<(me:Int):=by omega
   have hmc:(me:Int) - 1=((me - 1:Nat):Int):=by omega
   have HE2:=hid (HH.out.num 2 (me - 1) 0 (me - 1) op rfl);go_enter func129,ntmps129;go_wp2;go_end0;exact⟨rfl,⟨_,me - 1,HE2.out,by simp;omega⟩,ni (fq _ _) HH.out.le⟩
 ·have hmp:(0:Int)<(mi:Int):=by omega
  go_enter func129,ntmps129;go_wp2;go_end0;exact⟨rfl,⟨_,me,HH.out,by simp;omega⟩,fq _ _⟩
theorem uD (q:UH)(C L:List Int)(w:World)(B E g cap:Nat)(e:wo)(i:Nat)(hC:e.C=C)(hL:e.L=L)(h:ES w B E g cap e.st e.mi e.me e.op)(h0:0<e.st.length)(h1:e.st.length<=1000000)(hT:qH (top e.st))(hu:US w q C L)(hi:i<q.n)(hU:q.U<B) :
 Calls prog 130 #[.pointer (some ⟨E,0,none⟩),.pointer (some ⟨q.U,i * 4,none⟩)] w fun x w'=>x=.returned (.tuple #[])/\US w' q (hold e i).C (hold e i).L/\ES w' B E g cap e.st e.mi e.me e.op/\Fr [q.U] w w':=by
 have HH:=hid h;have HU:=hid hu;have HHC:=hid (Kw hT i);have HHL:=hid (Fa e i);have HL:=hid (yC w B E g cap e.st e.mi e.me e.op h h0 (by omega));have hov:=hT.2.2;rw[hC]at HHC;rw[hL]at HHL;generalize hTT:top e.st=T at *;obtain⟨lv,ov,l7⟩:=T;dsimp only at HL HHC HHL hov;have Ba:q.U<w.heap.size:=eS _ _ (hu.r 0 (by omega));clear h hu hTT hC hL;obtain⟨Zc,hZc⟩:∃Zc,Zc=(hold e i).C:=⟨_,rfl⟩;obtain⟨Zl,hZl⟩:∃Zl,Zl=(hold e i).L:=⟨_,rfl⟩;rw[<-hZc]at HHC ⊢;rw[<-hZl]at HHL ⊢;clear hZc hZl;by_cases ho:ov=-1
 ·subst ho
  go_enter func130,ntmps130;go_wp2_with (first | (go_at_call 186;refine HL.out.mono ?_;rintro x w1 ⟨rfl,hf1⟩;have iy:=hid hf1;have jK:=hid (HH.out.iS hf1);have qB:=hid (HU.out.fr hf1 af);have k1:=qB.out.l i hi;have k2:=qB.out.soft (i * 4+3) (by omega);have hU1:q.U<w1.heap.size:=bQ Ba hf1.size;clear hf1));go_end0;refine⟨rfl,?_,?_,?_⟩
  ·rw[HHC.out,HHL.out,au (by omega)]
   exact(qB.out.DH hi lv).fr (T:=[]) ((Fr.refl _ _).alloc _) af
  ·exact(jK.out.fr (T:=[q.U]) (gH _ _ _ _) (fun k hk=>by rw[aj.1 hk];exact hU)).iS ((Fr.refl _ _).alloc _)
  ·exact((iy.out.mono (fun _ h _=>absurd h af)).set (aj.2 rfl) _).alloc _
 ·have GV:(ov == -1)=false:=by simp[ho]
  have HZ2:=hid (show Zc=C.set i ov by rw[HHC.out,ay (by omega)]);clear hov;go_enter func130,ntmps130;go_wp2_with (first | (go_at_call 186;refine HL.out.mono ?_;rintro x w1 ⟨rfl,hf1⟩;have iy:=hid hf1;have jK:=hid (HH.out.iS hf1);have qB:=hid (HU.out.fr hf1 af);have k1:=qB.out.l i hi;have k2:=qB.out.soft (i * 4+3) (by omega);have k3:=qB.out.c i hi;have k4:=qB.out.soft (i * 4+2) (by omega);have hU1:q.U<w1.heap.size:=bQ Ba hf1.size;clear hf1));go_end0;refine⟨rfl,?_,?_,?_⟩
  ·rw[HZ2.out,HHL.out]
   exact((qB.out.DH hi lv).oX hi ov).fr (T:=[]) ((Fr.refl _ _).alloc _) af
  ·exact((jK.out.fr (T:=[q.U]) (gH _ _ _ _) (fun k hk=>by rw[aj.1 hk];exact hU)).fr (T:=[q.U]) (gH _ _ _ _) (fun k hk=>by rw[aj.1 hk];exact hU)).iS ((Fr.refl _ _).alloc _)
  ·exact(((iy.out.mono (fun _ h _=>absurd h af)).set (aj.2 rfl) _).set (aj.2 rfl) _).alloc _
def muE (E:Nat)(w:World):Nat:=QH ((w.cell? ⟨E,0,none⟩).getD undef)
theorem Rt {w:World}{B E g cap:Nat}{st:List lZ}{mi me op:Nat}(h:ES w B E g cap st mi me op):muE E w=st.length:=by rw[muE,h.c0];rfl
theorem Ru (w:World)(B E g cap:Nat)(st:List lZ)(mi me op:Nat)(h:ES w B E g cap st mi me op)(h1:st.length<=1000000)(tR:mi<=1000000)(hop:op<=1000000)(DF:0<op->0<mW st.reverse) :
 Calls prog 133 #[.pointer (some ⟨E,0,none⟩)] w fun e w'=>e=.returned (.tuple #[])/\(∃st' EL me' op',ES w' B E g cap st' EL me' op'/\((0<mi/\st'=st/\EL=mi - 1/\me'=me/\op'=op)\/(mi=0/\0<op/\st'=lS st.length st/\EL=0/\me'=0/\op'=op - 1)\/(mi=0/\op=0/\st'=st/\EL=0/\me'=me/\op'=0)))/\Below B w w':=by
 have HH:=hid h;have hB:=h.uC;have k1:=h.c1;have k3:=h.c3;have f1:=h.j8 1;have f2:=h.j8 2;have k2:=h.c2;have QI:=hid DF;clear h DF;by_cases hm0:mi=0
 ·subst hm0
  by_cases ho0:op=0
  ·subst ho0
   go_enter func133,ntmps133;go_wp2;go_end0;exact⟨rfl,⟨_,_,_,_,HH.out,by simp⟩,fq _ _⟩
  ·have hoI:(0:Int)<(op:Int):=by omega
   have alo:0<op:=by omega
   have k1':w.cell? ⟨E,1,none⟩=some (.int .i64 0):=k1;clear k1;have PV:=hid (HH.out.num 2 0 0 0 op rfl);have af5:=hid (QI.out (by omega));have HB0:=hid (ni (i:=2) (v:=.int .i64 0) (fq B w) HH.out.le);clear f1 QI;go_enter func133,ntmps133;go_wp2;go_loopw [24] (fun _ wr=>∃t:Nat,t<=st.length/\Hid (lS (st.take t).length (st.take t)=lS st.length st)/\Hid (0<mW (st.take t).reverse)/\Hid (ES wr B E g cap (st.take t) 0 0 op)/\Hid (Below B w wr)) (fun _ wr=>muE E wr)
   case atStart=>exact⟨st.length,ak _,hid (by rw[cK]),hid (by rw[cK];exact af5.out),hid (by rw[cK];exact PV.out),HB0⟩
   case round =>
    obtain⟨t,htn,QO,HIS,Tm,X5⟩:=hrel;have htl:(st.take t).length=t:=by rw[aP];omega
    have ht0:0<t:=by have:=Ky HIS.out;omega
    obtain⟨m',hm'⟩:∃m',t=m'+1:=⟨t - 1,by omega⟩;have AH:=hid (Gd (htl.trans hm'));have MT:=hid (show(st.take t).take m'=st.take m' by rw[List.take_take,eB (by omega)]);rw[MT.out]at AH;have HIT:=hid (fun hh=>Ge (htl.trans hm') hh HIS.out);rw[MT.out]at HIT;have HL:=hid (yC wr B E g cap (st.take t) 0 0 op Tm.out (by omega) (by omega));have HT:=hid (fun w' (hf:Fr [] wr w')=>Hi w' B E g cap (st.take t) 0 0 op m' (Tm.out.iS hf) (htl.trans hm') (by omega));rw[MT.out]at HT;have Z1:=hid (show muE E wr=t by rw[Rt Tm.out,htl]);have abX:(st.take m').length=m':=by rw[aP];omega
    have Tn:=hid abX;have HM':=hid hm';generalize hT:top (st.take t)=T at *;obtain⟨lv,ov,l7⟩:=T;dsimp only at HL AH HIT;have Rr:=Rq lv ov l7;clear hT htl hm' abX;cases l7
    ·have WI:=hid ((AH.out.2 rfl).symm.trans QO.out)
     have HIQ:=hid (HIT.out rfl);clear AH HIT;go_wp2_with (first | (go_at_call 186;refine HL.out.mono ?_;rintro e w1 ⟨rfl,hf1⟩;have iy:=hid hf1;clear hf1) | (go_at_call 187;refine(HT.out _ iy.out).mono ?_;rintro e w2 ⟨rfl,he2,hf2⟩;have HE2:=hid he2;have f_:=hid hf2;clear he2 hf2));go_roundw
     case rel=>exact⟨m',by have:=HM'.out;omega,WI,HIQ,HE2,hid (mB X5.out (mB (jU iy.out Tm.out.uC) (f_.out.below (Tm.out.iS iy.out).uC (fun k hk=>by rw[aj.1 hk];exact HH.out.le))))⟩
     case measure=>have h5:=HM'.out;rw[Z1.out,Rt HE2.out,Tn.out];omega
    ·have WI:=hid (show st.take m'=lS st.length st by rw[<-QO.out];exact(AH.out.1 rfl).symm)
     have afe:(op:Int) - 1=((op - 1:Nat):Int):=by omega
     clear AH HIT;go_wp2_with (first | (go_at_call 186;refine HL.out.mono ?_;rintro e w1 ⟨rfl,hf1⟩;have iy:=hid hf1;clear hf1) | (go_at_call 187;refine(HT.out _ iy.out).mono ?_;rintro e w2 ⟨rfl,he2,hf2⟩;have HE2:=hid he2;have f_:=hid hf2;have r3:=HE2.out.c3;have r4:=HE2.out.j8 3;clear he2 hf2));go_end0;exact⟨rfl,⟨_,_,_,_,HE2.out.num 3 (op - 1) 0 0 (op - 1) rfl,by rw[WI.out];simp;omega⟩,ni (mB X5.out (mB (jU iy.out Tm.out.uC) (f_.out.below (Tm.out.iS iy.out).uC (fun k hk=>by rw[aj.1 hk];exact HH.out.le)))) HH.out.le⟩
 ·have hmp:(0:Int)<(mi:Int):=by omega
  have hmc:(mi:Int) - 1=((mi - 1:Nat):Int):=by omega
  have HE2:=hid (HH.out.num 1 (mi - 1) (mi - 1) me op rfl);go_enter func133,ntmps133;go_wp2;go_end0;exact⟨rfl,⟨_,_,_,_,HE2.out,by simp;omega⟩,ni (fq _ _) HH.out.le⟩
open Go.Maps
theorem n9 {T:List Nat}{w wr w':World}(h:Fr T w wr)(hb:Below w.heap.size wr w'):Fr T w w' :=
 ⟨hb.os.trans h.os,hb.tape.trans h.tape,hb.output.trans h.output,a_ h.size hb.size,fun k hk hs=>(hb.block k hk).trans (h.block k hk hs)⟩
theorem US.below {w w':World}{q:UH}{C L:List Int}{B:Nat}(h:US w q C L)(hb:Below B w w')(hU:q.U<B):US w' q C L :=
 ⟨fun i hi=>(hb.cell (p:=⟨q.U,i * 4,none⟩) hU).trans (h.r i hi),fun i hi=>(hb.cell (p:=⟨q.U,i * 4+1,none⟩) hU).trans (h.k i hi),fun i hi=>(hb.cell (p:=⟨q.U,i * 4+2,none⟩) hU).trans (h.c i hi),fun i hi=>(hb.cell (p:=⟨q.U,i * 4+3,none⟩) hU).trans (h.l i hi),fun j hj=>(hb.frozen (p:=⟨q.U,j,none⟩) hU).trans (h.soft j hj),h.lC,h.lL⟩
def xw (e:wo):wo:=if 0<e.mi then { e with mi:=e.mi - 1 } else if 0<e.op then { e with me:=0,st:=lS e.st.length e.st,op:=e.op - 1 } else e
theorem Rv {K:List Int}{base:Int}{i:Nat}{e:wo}(hc:nth K i=22):iB K base i e=hold (xw e) i:=by
 have h1:begins (nth K i)=false:=by rw[hc];rfl
 have h2:j6 (nth K i)=false:=by rw[hc];rfl
 rw[iB,h1,au aE,h2,au aE,ay hc];rfl
theorem Yz {w:World}{B E g cap:Nat}{e:wo}(h:∃st' EL me' op',ES w B E g cap st' EL me' op'/\((0<e.mi/\st'=e.st/\EL=e.mi - 1/\me'=e.me/\op'=e.op)\/(e.mi=0/\0<e.op/\st'=lS e.st.length e.st/\EL=0/\me'=0/\op'=e.op - 1)\/(e.mi=0/\e.op=0/\st'=e.st/\EL=0/\me'=e.me/\op'=0))):ES w B E g cap (xw e).st (xw e).mi (xw e).me (xw e).op:=by
 obtain⟨st',EL,me',op',hes,h | h | h⟩:=h
 ·obtain⟨k1,rfl,rfl,rfl,rfl⟩:=h
  rw[xw,ay k1];exact hes
 ·obtain⟨k1,k2,rfl,rfl,rfl,rfl⟩:=h
  rw[xw,au (by omega),ay k2];dsimp only;rw[k1];exact hes
 ·obtain⟨k1,k2,rfl,rfl,rfl,rfl⟩:=h
  rw[xw,au (by omega),au (by omega),k1,k2];exact hes
theorem YA (e:wo):(xw e).C=e.C/\(xw e).L=e.L:=by unfold xw;split;exact⟨rfl,rfl⟩;split <;> exact⟨rfl,rfl⟩
theorem Hq:∀f (st:List lZ),(lS f st).length<=st.length
 | 0,st=>ak _
 | f+1,st=>by
   rw[lS];split
   ·rw[eH];omega
   ·have:=Hq f st.dropLast;rw[eH]at this;omega
theorem YB {e:wo}(h:qo e.st.reverse)(hi:0<e.op->0<mW e.st.reverse):qo (xw e).st.reverse/\(xw e).st.length<=e.st.length:=by
 unfold xw;split
 ·exact⟨h,ak _⟩
 ·split
  ·next h2=>exact⟨Kz h (hi h2),Hq _ _⟩
  ·exact⟨h,ak _⟩
theorem Nk (q:UH)(P cU mb n:Nat)(lv:Int)(D:DataW Unit)(w:World)(hu:US w q q.K (List.replicate q.K.length 0))(hq:QM w q P cU mb n lv D)(hmU:mb≠q.U)(hK:q.K.length=q.n)(hn:q.n<=1000000)(hn0:0<q.n)(hb:lv=0\/lv=1) :
 Calls prog 74 #[.pointer (some ⟨P,0,none⟩)] w fun e w'=>e=.returned (.tuple #[])/\US w' q (gK q.K lv q.n).C (gK q.K lv q.n).L/\Fr [q.U] w w':=by
 have c2:=hq.s.c2;have c0:=hq.s.c0;have HU:=hid hu;have HQ:=hid hq;have HK:=hid hK;have Iq:=hid hb;have CN:q.U<w.heap.size:=eS _ _ (hu.r 0 hn0);have rW:P<w.heap.size:=eS _ _ c2;have HPU:=hid (show P ∉ [q.U]from fun h=>hq.s.ne (aj.1 h));have Z1:=hid (show mb ∉ [q.U]from fun h=>hmU (aj.1 h));obtain⟨Z,hZ⟩:∃Z,Z=gK q.K lv q.n:=⟨_,rfl⟩;rw[<-hZ];have HZ:=hid hZ;clear hu hq hK hb hZ hmU;go_enter func74,ntmps74;go_wp2;go_loopw [17] (fun a wr=>∃(i g cap:Nat),a=.int .i64 i/\i<=q.n/\Hid (US wr q (gK q.K lv i).C (gK q.K lv i).L)/\Hid (ES wr w.heap.size (w.heap.size+1) g cap (gK q.K lv i).st (gK q.K lv i).mi (gK q.K lv i).me (gK q.K lv i).op)/\Hid (Fr [q.U] w wr)) (fun a _=>q.n - (intOf a).toNat)
 case atStart =>
  refine⟨0,w.heap.size,1,rfl,aH _,hid (HU.out.fr (T:=[]) (((Fr.refl _ _).alloc _).alloc _) af),hid ⟨?_,?_,by omega⟩,hid (((Fr.refl _ _).alloc _).alloc _)⟩
  ·have:=fH (w.alloc (.cells #[.int .i64 lv,.int .i64 (-1),.bool false] 207)) (.cells #[.slice (some ⟨w.heap.size,0,none⟩) 1 1,.int .i64 0,.int .i64 0,.int .i64 0] 210)
   rw[show(w.alloc (.cells #[.int .i64 lv,.int .i64 (-1),.bool false] 207)).heap.size=w.heap.size+1 by simp]at this;exact this
  ·exact(fE (base:=w.heap.size) (e:=207) (size:=3) w #[.int .i64 lv,.int .i64 (-1),.bool false] 1 (ak _) (by decide) rfl).alloc _
 case round =>
  obtain⟨i,g,cap,rfl,hin,HP,Nl,HF⟩:=hrel;by_cases hlt:i<q.n
  ·have oh:=hid (nM q.K lv Iq.out i (by rw[HK.out];exact hin))
   have mN:=hid (show gK q.K lv (i+1)=iB q.K lv i (gK q.K lv i)from rfl);have hz:=oh.out.sz;have HT:=hid (tQ oh.out.st);have hpos:=Fe oh.out.st;have JB:(gK q.K lv i).op<=i:=by have h1:=oh.out.cnt;have h2:=wG q.K i;omega
   have HQR:=hid (HQ.out.fr HF.out HPU.out Z1.out);have d0:=HQR.out.s.c0;have d2:=HQR.out.s.c2;have p1:=HP.out.k i hlt;have sY:(i:Int)<(q.n:Int):=by omega
   have HIS:=hid (show 0<(gK q.K lv i).op->0<mW (gK q.K lv i).st.reverse from fun h=>by have h1:=oh.out.op;omega);obtain⟨c,hc⟩:∃c,c=nth q.K i:=⟨_,rfl⟩;obtain⟨nx,hnx⟩:∃x,x=jG (top (gK q.K lv i).st).lv (jm q.K i):=⟨_,rfl⟩;obtain⟨F,hF⟩:∃F,F=fits (gK q.K lv i) nx:=⟨_,rfl⟩;have pL:=hid hnx;have Ab:=hid hF;rw[<-hc]at p1;have HC:=hid hc;have X0:=hid oh.out.st;generalize gK q.K lv i=e at *;have hsz:=HF.out.size;have alp:=Nl.out.uC;have hs1:=hz.1;have hs2:=hz.2.1;have hs3:=hz.2.2;clear hnx hF hc oh hz;have hcl:c=16\/c=14\/c=17\/c=15\/c=19\/c=20\/c=21\/c=22\/c=18\/c=10\/c=9\/(begins c=false/\j6 c=false/\c≠22/\c≠18/\c≠10/\c≠9):=by
    simp only[begins,j6,Bool.or_eq_false_iff,aF];omega
   rcases hcl with h | h | h | h | h | h | h | h | h | h | h | h
   ·skip
    as_aux_lemma =>
     subst h;have HB:=hid (m5 (base:=lv) (e:=e) HC.out.symm (by decide) pL.out);rw[<-mN.out,<-Ab.out]at HB;have Ft:=hid (show jm q.K i=(((16:Int) == 16) || ((16:Int) == 17)) by rw[jm,<-HC.out];rfl);have JN:=hid (yD wr w.heap.size (w.heap.size+1) g cap e.st e.mi e.me e.op 16 nx F Nl.out hpos (by omega) (by omega) HT.out (by decide) (by rw[pL.out,Ft.out]) Ab.out);go_wp2_with (first | (go_at_call 128;refine JN.out.mono ?_;rintro e' w1 ⟨rfl,hx,hb1⟩));obtain⟨g',cap',st',me',hes,hcase⟩:=hx;have qB:=hid (HP.out.below hb1 CN);have iy:=hid (n9 HF.out hb1);have jK:=hid hes;have JO:=hid hcase;clear hes hb1 hcase;go_roundw
     case rel =>
      rcases JO.out with⟨k1,k2,k3⟩ | ⟨k1,k2,k3,k4⟩ | ⟨k1,k2,k3,k4⟩
      ·have HN:=HB.out.1 k1
       refine⟨i+1,g',cap',by go_num,by omega,hid (by rw[HN];exact qB.out),hid (by rw[HN];dsimp only;rw[k2,k3]at jK;exact jK.out),iy⟩
      ·have HN:=HB.out.2.1 k1 k2
       refine⟨i+1,g',cap',by go_num,by omega,hid (by rw[HN];exact qB.out),hid (by rw[HN];dsimp only;rw[k3,k4]at jK;exact jK.out),iy⟩
      ·have HN:=HB.out.2.2 k1 k2
       refine⟨i+1,g',cap',by go_num,by omega,hid (by rw[HN];exact qB.out),hid (by rw[HN];rw[k3,k4]at jK;exact jK.out),iy⟩
     case measure=>simp[intOf];omega
   ·skip
    as_aux_lemma =>
     subst h;have HB:=hid (m5 (base:=lv) (e:=e) HC.out.symm (by decide) pL.out);rw[<-mN.out,<-Ab.out]at HB;have Ft:=hid (show jm q.K i=(((14:Int) == 16) || ((14:Int) == 17)) by rw[jm,<-HC.out];rfl);have JN:=hid (yD wr w.heap.size (w.heap.size+1) g cap e.st e.mi e.me e.op 14 nx F Nl.out hpos (by omega) (by omega) HT.out (by decide) (by rw[pL.out,Ft.out]) Ab.out);go_wp2_with (first | (go_at_call 128;refine JN.out.mono ?_;rintro e' w1 ⟨rfl,hx,hb1⟩));obtain⟨g',cap',st',me',hes,hcase⟩:=hx;have qB:=hid (HP.out.below hb1 CN);have iy:=hid (n9 HF.out hb1);have jK:=hid hes;have JO:=hid hcase;clear hes hb1 hcase;go_roundw
     case rel =>
      rcases JO.out with⟨k1,k2,k3⟩ | ⟨k1,k2,k3,k4⟩ | ⟨k1,k2,k3,k4⟩
      ·have HN:=HB.out.1 k1
       refine⟨i+1,g',cap',by go_num,by omega,hid (by rw[HN];exact qB.out),hid (by rw[HN];dsimp only;rw[k2,k3]at jK;exact jK.out),iy⟩
      ·have HN:=HB.out.2.1 k1 k2
       refine⟨i+1,g',cap',by go_num,by omega,hid (by rw[HN];exact qB.out),hid (by rw[HN];dsimp only;rw[k3,k4]at jK;exact jK.out),iy⟩
      ·have HN:=HB.out.2.2 k1 k2
       refine⟨i+1,g',cap',by go_num,by omega,hid (by rw[HN];exact qB.out),hid (by rw[HN];rw[k3,k4]at jK;exact jK.out),iy⟩
     case measure=>simp[intOf];omega
   ·skip
    as_aux_lemma =>
     subst h;have HB:=hid (m5 (base:=lv) (e:=e) HC.out.symm (by decide) pL.out);rw[<-mN.out,<-Ab.out]at HB;have Ft:=hid (show jm q.K i=(((17:Int) == 16) || ((17:Int) == 17)) by rw[jm,<-HC.out];rfl);have JN:=hid (yD wr w.heap.size (w.heap.size+1) g cap e.st e.mi e.me e.op 17 nx F Nl.out hpos (by omega) (by omega) HT.out (by decide) (by rw[pL.out,Ft.out]) Ab.out);go_wp2_with (first | (go_at_call 128;refine JN.out.mono ?_;rintro e' w1 ⟨rfl,hx,hb1⟩));obtain⟨g',cap',st',me',hes,hcase⟩:=hx;have qB:=hid (HP.out.below hb1 CN);have iy:=hid (n9 HF.out hb1);have jK:=hid hes;have JO:=hid hcase;clear hes hb1 hcase;go_roundw
     case rel =>
      rcases JO.out with⟨k1,k2,k3⟩ | ⟨k1,k2,k3,k4⟩ | ⟨k1,k2,k3,k4⟩
      ·have HN:=HB.out.1 k1
       refine⟨i+1,g',cap',by go_num,by omega,hid (by rw[HN];exact qB.out),hid (by rw[HN];dsimp only;rw[k2,k3]at jK;exact jK.out),iy⟩
      ·have HN:=HB.out.2.1 k1 k2
       refine⟨i+1,g',cap',by go_num,by omega,hid (by rw[HN];exact qB.out),hid (by rw[HN];dsimp only;rw[k3,k4]at jK;exact jK.out),iy⟩
      ·have HN:=HB.out.2.2 k1 k2
       refine⟨i+1,g',cap',by go_num,by omega,hid (by rw[HN];exact qB.out),hid (by rw[HN];rw[k3,k4]at jK;exact jK.out),iy⟩
     case measure=>simp[intOf];omega
   ·skip
    as_aux_lemma =>
     subst h;have HB:=hid (m5 (base:=lv) (e:=e) HC.out.symm (by decide) pL.out);rw[<-mN.out,<-Ab.out]at HB;have Ft:=hid (show jm q.K i=(((15:Int) == 16) || ((15:Int) == 17)) by rw[jm,<-HC.out];rfl);have JN:=hid (yD wr w.heap.size (w.heap.size+1) g cap e.st e.mi e.me e.op 15 nx F Nl.out hpos (by omega) (by omega) HT.out (by decide) (by rw[pL.out,Ft.out]) Ab.out);go_wp2_with (first | (go_at_call 128;refine JN.out.mono ?_;rintro e' w1 ⟨rfl,hx,hb1⟩));obtain⟨g',cap',st',me',hes,hcase⟩:=hx;have qB:=hid (HP.out.below hb1 CN);have iy:=hid (n9 HF.out hb1);have jK:=hid hes;have JO:=hid hcase;clear hes hb1 hcase;go_roundw
     case rel =>
      rcases JO.out with⟨k1,k2,k3⟩ | ⟨k1,k2,k3,k4⟩ | ⟨k1,k2,k3,k4⟩
      ·have HN:=HB.out.1 k1
       refine⟨i+1,g',cap',by go_num,by omega,hid (by rw[HN];exact qB.out),hid (by rw[HN];dsimp only;rw[k2,k3]at jK;exact jK.out),iy⟩
      ·have HN:=HB.out.2.1 k1 k2
       refine⟨i+1,g',cap',by go_num,by omega,hid (by rw[HN];exact qB.out),hid (by rw[HN];dsimp only;rw[k3,k4]at jK;exact jK.out),iy⟩
      ·have HN:=HB.out.2.2 k1 k2
       refine⟨i+1,g',cap',by go_num,by omega,hid (by rw[HN];exact qB.out),hid (by rw[HN];rw[k3,k4]at jK;exact jK.out),iy⟩
     case measure=>simp[intOf];omega
   ·skip
    as_aux_lemma =>
     subst h;have HB:=hid (uJ (base:=lv) (e:=e) HC.out.symm (by decide) pL.out);rw[<-mN.out,<-Ab.out]at HB;have JP:=hid (uD q e.C e.L wr w.heap.size (w.heap.size+1) g cap e i rfl rfl Nl.out hpos (by omega) HT.out HP.out hlt CN);have Dy:=hid (show j6 (nth q.K i)=true by rw[<-HC.out];decide);go_wp2_with (first | (go_at_call 130;refine JP.out.mono ?_;rintro e' w1 ⟨rfl,hu1,he1,hf1⟩;have qB:=hid hu1;have jK:=hid he1;have iy:=hid (HF.out.trans hf1);have U9:=hid (HQR.out.fr hf1 HPU.out Z1.out);clear hu1 he1 hf1) | (go_at_call 132;refine(CQ q _ _ P cU mb n lv D i _ qB.out U9.out HK.out hn hlt Dy.out).mono ?_;rintro e' w' ⟨rfl,rfl⟩) | (go_at_call 131;refine(CS _ w.heap.size (w.heap.size+1) g cap e.st e.mi e.me e.op _ nx F jK.out hpos (by omega) (by omega) (by omega) HT.out pL.out Ab.out).mono ?_;rintro e' w2 ⟨rfl,hx,hb2⟩));obtain⟨g',cap',st',EL,op',hes,hcase⟩:=hx;have AF:=hid (qB.out.below hb2 CN);have f_:=hid (n9 iy.out hb2);have HE2:=hid hes;have JO:=hid hcase;clear hes hb2 hcase;go_roundw
     case rel =>
      rcases JO.out with⟨k1,k2,k3,k4⟩ | ⟨k1,k2,k3,k4⟩
      ·have HN:=HB.out.1 k1
       refine⟨i+1,g',cap',by go_num,by omega,hid (by rw[HN];exact AF.out),hid (by rw[HN];dsimp only;rw[k2,k3,k4]at HE2;exact HE2.out),f_⟩
      ·have HN:=HB.out.2 k1
       refine⟨i+1,g',cap',by go_num,by omega,hid (by rw[HN];exact AF.out),hid (by rw[HN];dsimp only;rw[k2,k3,k4]at HE2;exact HE2.out),f_⟩
     case measure=>simp[intOf];omega
   ·skip
    as_aux_lemma =>
     subst h;have HB:=hid (uJ (base:=lv) (e:=e) HC.out.symm (by decide) pL.out);rw[<-mN.out,<-Ab.out]at HB;have JP:=hid (uD q e.C e.L wr w.heap.size (w.heap.size+1) g cap e i rfl rfl Nl.out hpos (by omega) HT.out HP.out hlt CN);have Dy:=hid (show j6 (nth q.K i)=true by rw[<-HC.out];decide);go_wp2_with (first | (go_at_call 130;refine JP.out.mono ?_;rintro e' w1 ⟨rfl,hu1,he1,hf1⟩;have qB:=hid hu1;have jK:=hid he1;have iy:=hid (HF.out.trans hf1);have U9:=hid (HQR.out.fr hf1 HPU.out Z1.out);clear hu1 he1 hf1) | (go_at_call 132;refine(CQ q _ _ P cU mb n lv D i _ qB.out U9.out HK.out hn hlt Dy.out).mono ?_;rintro e' w' ⟨rfl,rfl⟩) | (go_at_call 131;refine(CS _ w.heap.size (w.heap.size+1) g cap e.st e.mi e.me e.op _ nx F jK.out hpos (by omega) (by omega) (by omega) HT.out pL.out Ab.out).mono ?_;rintro e' w2 ⟨rfl,hx,hb2⟩));obtain⟨g',cap',st',EL,op',hes,hcase⟩:=hx;have AF:=hid (qB.out.below hb2 CN);have f_:=hid (n9 iy.out hb2);have HE2:=hid hes;have JO:=hid hcase;clear hes hb2 hcase;go_roundw
     case rel =>
      rcases JO.out with⟨k1,k2,k3,k4⟩ | ⟨k1,k2,k3,k4⟩
      ·have HN:=HB.out.1 k1
       refine⟨i+1,g',cap',by go_num,by omega,hid (by rw[HN];exact AF.out),hid (by rw[HN];dsimp only;rw[k2,k3,k4]at HE2;exact HE2.out),f_⟩
      ·have HN:=HB.out.2 k1
       refine⟨i+1,g',cap',by go_num,by omega,hid (by rw[HN];exact AF.out),hid (by rw[HN];dsimp only;rw[k2,k3,k4]at HE2;exact HE2.out),f_⟩
     case measure=>simp[intOf];omega
   ·skip
    as_aux_lemma =>
     subst h;have HB:=hid (uJ (base:=lv) (e:=e) HC.out.symm (by decide) pL.out);rw[<-mN.out,<-Ab.out]at HB;have JP:=hid (uD q e.C e.L wr w.heap.size (w.heap.size+1) g cap e i rfl rfl Nl.out hpos (by omega) HT.out HP.out hlt CN);have Dy:=hid (show j6 (nth q.K i)=true by rw[<-HC.out];decide);go_wp2_with (first | (go_at_call 130;refine JP.out.mono ?_;rintro e' w1 ⟨rfl,hu1,he1,hf1⟩;have qB:=hid hu1;have jK:=hid he1;have iy:=hid (HF.out.trans hf1);have U9:=hid (HQR.out.fr hf1 HPU.out Z1.out);clear hu1 he1 hf1) | (go_at_call 132;refine(CQ q _ _ P cU mb n lv D i _ qB.out U9.out HK.out hn hlt Dy.out).mono ?_;rintro e' w' ⟨rfl,rfl⟩) | (go_at_call 131;refine(CS _ w.heap.size (w.heap.size+1) g cap e.st e.mi e.me e.op _ nx F jK.out hpos (by omega) (by omega) (by omega) HT.out pL.out Ab.out).mono ?_;rintro e' w2 ⟨rfl,hx,hb2⟩));obtain⟨g',cap',st',EL,op',hes,hcase⟩:=hx;have AF:=hid (qB.out.below hb2 CN);have f_:=hid (n9 iy.out hb2);have HE2:=hid hes;have JO:=hid hcase;clear hes hb2 hcase;go_roundw
     case rel =>
      rcases JO.out with⟨k1,k2,k3,k4⟩ | ⟨k1,k2,k3,k4⟩
      ·have HN:=HB.out.1 k1
       refine⟨i+1,g',cap',by go_num,by omega,hid (by rw[HN];exact AF.out),hid (by rw[HN];dsimp only;rw[k2,k3,k4]at HE2;exact HE2.out),f_⟩
      ·have HN:=HB.out.2 k1
       refine⟨i+1,g',cap',by go_num,by omega,hid (by rw[HN];exact AF.out),hid (by rw[HN];dsimp only;rw[k2,k3,k4]at HE2;exact HE2.out),f_⟩
     case measure=>simp[intOf];omega
   ·skip
    as_aux_lemma =>
     subst h;have HN:=hid (mN.out.trans (Rv HC.out.symm));have af6:=hid (Ru wr w.heap.size (w.heap.size+1) g cap e.st e.mi e.me e.op Nl.out (by omega) (by omega) (by omega) HIS.out);have Fy:=hid (YB X0.out HIS.out);have FV:=hid (YA e);have hl5:=Fy.out.2;have hl6:=Fe Fy.out.1;have HT5:=hid (tQ Fy.out.1);have af8:=hid (fun(X:World) hx=>Yz (w:=X) (B:=w.heap.size) (E:=w.heap.size+1) (g:=g) (cap:=cap) (e:=e) hx);generalize xw e=e5 at *;go_wp2_with (first | (go_at_call 133;refine af6.out.mono ?_;rintro e' w1 ⟨rfl,hx,hb1⟩;have jK:=hid (af8.out w1 hx);have qB:=hid (HP.out.below hb1 CN);have iy:=hid (n9 HF.out hb1);clear hx hb1) | (go_at_call 130;refine(uD q e.C e.L _ w.heap.size (w.heap.size+1) g cap e5 i FV.out.1 FV.out.2 jK.out hl6 (by omega) HT5.out qB.out hlt CN).mono ?_;rintro e' w2 ⟨rfl,hu2,he2,hf2⟩;have AF:=hid hu2;have HE2:=hid he2;have f_:=hid (iy.out.trans hf2);clear hu2 he2 hf2));go_roundw
     case rel=>exact⟨i+1,g,cap,by go_num,by omega,hid (by rw[HN.out];exact AF.out),hid (by rw[HN.out];exact HE2.out),f_⟩
     case measure=>simp[intOf];omega
   ·skip
    as_aux_lemma =>
     subst h;have HB:=hid (Kx (base:=lv) (e:=e) HC.out.symm);rw[<-mN.out]at HB;obtain⟨m,hm⟩:∃m,e.st.length=m+1:=⟨e.st.length - 1,by omega⟩;have HM:=hid hm;have af9:=hid (Rs wr w.heap.size (w.heap.size+1) g cap e.st e.mi e.me e.op m Nl.out hm (by omega) (by omega));clear hm;go_wp2_with (first | (go_at_call 129;refine af9.out.mono ?_;rintro e' w1 ⟨rfl,hx,hb1⟩));obtain⟨st',me',hes,hcase⟩:=hx;have qB:=hid (HP.out.below hb1 CN);have iy:=hid (n9 HF.out hb1);have jK:=hid hes;have JO:=hid hcase;clear hes hb1 hcase;go_roundw
     case rel =>
      rcases JO.out with⟨k1,k2,k3⟩ | ⟨k1,k2,k3,k4⟩ | ⟨k1,k2,k3,k4,k5,k6⟩ | ⟨k1,k2,k3,k4,k5⟩
      ·have HN:=HB.out.1 k1
       refine⟨i+1,g,cap,by go_num,by omega,hid (by rw[HN];exact qB.out),hid (by rw[HN];rw[k2,k3]at jK;exact jK.out),iy⟩
      ·have HN:=HB.out.2.1 k1 k2
       refine⟨i+1,g,cap,by go_num,by omega,hid (by rw[HN];exact qB.out),hid (by rw[HN];dsimp only;rw[k3,k4]at jK;exact jK.out),iy⟩
      ·have HN:=HB.out.2.2.1 k1 k2 k3 k4
       refine⟨i+1,g,cap,by go_num,by omega,hid (by rw[HN];exact qB.out),hid (by rw[HN];dsimp only;rw[k5,k6,<-A3 e.st m HM.out]at jK;exact jK.out),iy⟩
      ·have HN:=HB.out.2.2.2 k1 k2 k3
       refine⟨i+1,g,cap,by go_num,by omega,hid (by rw[HN];exact qB.out),hid (by rw[HN];rw[k4,k5]at jK;exact jK.out),iy⟩
     case measure=>simp[intOf];omega
   ·skip
    as_aux_lemma =>
     subst h;have HN:=hid (mN.out.trans (Wr HC.out.symm));have p2:=HP.out.l i hlt;have p3:=HP.out.soft (i * 4+3) (by omega);have IB:=hid (HP.out.DH hlt lv);have af_:=hid (Nl.out.fr (T:=[q.U]) (gH wr q.U (i * 4+3) (.int .i64 lv)) (fun k hk=>by rw[aj.1 hk];exact CN));go_wp2;go_roundw
     case rel=>exact⟨i+1,g,cap,by go_num,by omega,hid (by rw[HN.out];exact IB.out),hid (by rw[HN.out];exact af_.out),hid (HF.out.set (aj.2 rfl) _)⟩
     case measure=>simp[intOf];omega
   ·skip
    as_aux_lemma =>
     subst h;have HN:=hid (mN.out.trans (O3 HC.out.symm));go_wp2;go_roundw
     case rel=>exact⟨i+1,g,cap,by go_num,by omega,hid (by rw[HN.out];exact HP.out),hid (by rw[HN.out];exact Nl.out),HF⟩
     case measure=>simp[intOf];omega
   ·skip
    as_aux_lemma =>
     obtain⟨hb1,hb2,hb3,hb4,hb5,hb6⟩:=h;have HN:=hid (mN.out.trans (Gc (by rw[<-HC.out];exact hb1) (by rw[<-HC.out];exact hb2) (by rw[<-HC.out];exact hb3) (by rw[<-HC.out];exact hb4) (by rw[<-HC.out];exact hb5) (by rw[<-HC.out];exact hb6)));have hq:¬c=16/\¬c=14/\¬c=17/\¬c=15:=by unfold begins at hb1;simp at hb1;omega
     have hq2:¬c=19/\¬c=20/\¬c=21:=by unfold j6 at hb2;simp at hb2;omega
     obtain⟨q1,q2,q3,q4⟩:=hq;obtain⟨q5,q6,q7⟩:=hq2;have JP:=hid (uD q e.C e.L wr w.heap.size (w.heap.size+1) g cap e i rfl rfl Nl.out hpos (by omega) HT.out HP.out hlt CN);clear hb1 hb2;go_wp2_with (first | (go_at_call 130;refine JP.out.mono ?_;rintro e' w1 ⟨rfl,hu1,he1,hf1⟩;have qB:=hid hu1;have jK:=hid he1;have iy:=hid (HF.out.trans hf1);clear hu1 he1 hf1));go_roundw
     case rel=>exact⟨i+1,g,cap,by go_num,by omega,hid (by rw[HN.out];exact qB.out),hid (by rw[HN.out];exact jK.out),iy⟩
     case measure=>simp[intOf];omega
  ·have hie:i=q.n:=by omega
   have tH:=hid (show US wr q Z.C Z.L by rw[HZ.out,<-hie];exact HP.out);have sY:¬(i:Int)<(q.n:Int):=by omega
   clear hie;go_wp2;go_end0;exact⟨rfl,tH.out,HF.out⟩
end Go.Proofs.YtnakejhohdbfdaaGreatDoor

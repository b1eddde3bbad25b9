import Derived.Test.YtnakejhohdbfdaaGreatDoorVay
import Derived.Test.YtnakejhohdbfdaaGreatDoorVap
set_option maxHeartbeats 8000000
set_option maxRecDepth 10000
set_option linter.unusedSimpArgs false
namespace Go.Proofs.YtnakejhohdbfdaaGreatDoor
open Go.RowKit jN Go.Proofs.Tryz
theorem U0:(Tryz.prog.info? 217).map (fun i=>(i.zero,i.size,i.bytes))=some (some (.agg #[.int .i64 0,.slice none 0 0]),2,32):=by kernel_rfl
def zc:List Int->List Value->List Value
 | l :: ls,h :: hs=>.int .i64 l :: h :: zc ls hs
 | _,_=>[]
theorem Rb:∀(ls:List Int) (hs:List Value) (i:Nat),ls.length=hs.length->i<hs.length->(zc ls hs)[i * 2]?=some (.int .i64 (nth ls i))/\(zc ls hs)[i * 2+1]?=hs[i]?
 | [],[],i,_,h=>absurd h (by simp)
 | [],_ :: _,_,h,_=>absurd h (by simp)
 | _ :: _,[],_,h,_=>absurd h (by simp)
 | l :: ls,h :: hs,0,_,_=>by simp[zc,nth]
 | l :: ls,h :: hs,i+1,he,hi=>by
   have:=Rb ls hs i (by simpa using he) (by simpa using hi);rw[show(i+1) * 2=i * 2+1+1 by omega];simpa[zc,nth] using this
theorem CR:∀(ls:List Int) (hs:List Value) {n:Nat},ls.length=n/\hs.length=n->(zc ls hs).length=n * 2
 | [],[],_,h=>by rw[<-h.1];rfl
 | [],_ :: _,_,h=>absurd (h.1.trans h.2.symm) (by simp)
 | _ :: _,[],_,h=>absurd (h.1.trans h.2.symm) (by simp)
 | _ :: ls,_ :: hs,n,h=>by
   obtain⟨h1,h2⟩:=h;have:=CR ls hs (n:=n - 1) ⟨by simp at h1;omega,by simp at h2;omega⟩;simp at h1;simp[zc,this];omega
theorem WV (y:Int):∀u∈[Value.int .i64 y,.slice none 0 0],u.oneCell'=true:=by
 intro u hu;simp at hu
 rcases hu with rfl | rfl <;> rfl
theorem Bc:∀(ls:List Int) (hs:List Value) (l:Int) (h:Value),ls.length=hs.length->zc ls hs++[.int .i64 l,h]=zc (ls++[l]) (hs++[h])
 | [],[],_,_,_=>rfl
 | [],_ :: _,_,_,h=>absurd h (by simp)
 | _ :: _,[],_,_,h=>absurd h (by simp)
 | x :: ls,y :: hs,l,h,he=>by
   have:=Bc ls hs l h (by simpa using he);simp[zc,this]
theorem Rc:∀(ls:List Int) (hs:List Value) (m:Nat) (v:Value),ls.length=hs.length->m<hs.length->(zc ls hs).set (m * 2+1) v=zc ls (hs.set m v)
 | [],[],m,_,_,h=>absurd h (by simp)
 | [],_ :: _,_,_,h,_=>absurd h (by simp)
 | _ :: _,[],_,_,h,_=>absurd h (by simp)
 | l :: ls,h :: hs,0,v,_,_=>by simp[zc]
 | l :: ls,h :: hs,m+1,v,he,hm=>by
   have:=Rc ls hs m v (by simpa using he) (by simpa using hm);rw[show(m+1) * 2+1=m * 2+1+1+1 by omega];simp[zc,this]
structure RP (W wr:World)(v:Value)(rs:List (List Nat))(ls:List Int)(hs:List Value)(B:Nat):Prop where
 fr:Fr [] W wr
 ll:ls.length=rs.length/\hs.length=rs.length
 own:wr.ownsRow W.heap.size 217 2 v rs.length (zc ls hs)
 b0:W.heap.size<=B/\B<=wr.heap.size
 old:∀j,j+1<rs.length->∃g c,hs[j]?=some (.slice (some ⟨g,0,none⟩) (run rs j).length c)/\g<B/\wr.ownsRow W.heap.size 3 1 (.slice (some ⟨g,0,none⟩) (run rs j).length c) (run rs j).length (gz (run rs j))
 last:∀j,j+1=rs.length->∃h,hs[j]?=some h/\wr.ownsRow B 3 1 h (run rs j).length (gz (run rs j))
 nl:rs.length=0->v=.slice none 0 0
theorem RP.iS {W wr w':World}{v:Value}{rs:List (List Nat)}{ls:List Int}{hs:List Value}{B:Nat}(h:RP W wr v rs ls hs B)(hf:Fr [] wr w'):RP W w' v rs ls hs B :=
 ⟨h.fr.trans hf,h.ll,fS h.own hf,⟨h.b0.1,a_ h.b0.2 hf.size⟩,
  fun j hj=>by obtain⟨g,c,a1,a2,a3⟩:=h.old j hj;exact⟨g,c,a1,a2,fS a3 hf⟩,
  fun j hj=>by obtain⟨g,a1,a2⟩:=h.last j hj;exact⟨g,a1,fS a2 hf⟩,h.nl⟩
theorem RP.start (W:World):RP W W (.slice none 0 0) [] [] [] W.heap.size :=
 ⟨Fr.refl _ _,⟨rfl,rfl⟩,eY _ _ _ _,⟨ak _,ak _⟩,fun j h=>absurd h (by simp),fun j h=>absurd h (by simp),fun _=>rfl⟩
theorem RP.grow {W wr w1 w2:World}{rs:List (List Nat)}{ls:List Int}{hs:List Value}{B n m o cap l i:Nat}{r:List Nat}{h0 v':Value}(h:RP W wr (.slice (some ⟨o,0,none⟩) n cap) rs ls hs B)(hn:n=rs.length)(hm:n=m+1)
 (ho0:wr.ownsRow B 3 1 h0 l (gz r)) (hl:l=r.length) (hf:Fr [] wr w1)
 (ho:w2.ownsRow B 3 1 v' (l+1) (gz r++[.int .i64 (i:Nat)])) (hg:w1.grownBy w2 h0.ownBlock):RP W (w2.setCell ⟨o,m * 2+1,none⟩ v') (.slice (some ⟨o,0,none⟩) n cap) (rs.set m (r++[i])) ls (hs.set m v') B/\w2.ownsRow W.heap.size 217 2 (.slice (some ⟨o,0,none⟩) n cap) n (zc ls hs):=by
 have h1:=h.iS hf;have hml:m<rs.length:=by omega
 have hown:=h1.own;rw[<-hn]at hown;have hown2:=iF hown hg (fun x hx e=>by cases hx;exact iT hown (fS ho0 hf) (by decide) rfl e.symm rfl);obtain⟨hst,hgr⟩:=hown2.stored (m * 2+1) v';have hfo:W.heap.size<=o:=(fZ hown).1;obtain⟨g',c',rfl⟩:=fR (by omega) ho;have XU:o≠g':=iT hown2 ho (by decide) rfl rfl;have hll:=h.ll;rw[Rc ls hs m _ (by omega) (by omega)]at hst;refine⟨⟨(h1.fr.grown hg (fun k e=>by have h5:=(ho0.lt k e).1;have:=h1.b0.1;omega)).grown hgr (fun k e=>by cases e;exact hfo),?_,?_,⟨h1.b0.1,?_⟩,fun j hj=>?_,fun j hj=>?_,fun h0=>?_⟩,hown2⟩
 ·rw[aY,aY];exact hll
 ·rw[aY,<-hn];exact hst
 ·have:=h1.b0.2;have:=hg.size;have:=hgr.size;omega
 ·rw[aY]at hj
  obtain⟨gj,cj,a1,a2,a3⟩:=h1.old j hj;refine⟨gj,cj,?_,a2,?_⟩
  ·rw[run_set hml,au (by omega),aU (by omega)];exact a1
  ·rw[run_set hml,au (by omega)]
   have hoj:o≠gj:=iT h1.own a3 (by decide) rfl rfl;exact iF (iF a3 hg (fun x hx e=>by cases hx;have h5:=(ho0.lt _ e.symm).1;dsimp only at h5;omega)) hgr (fun x hx e=>by cases hx;cases e;exact hoj rfl)
 ·rw[aY]at hj
  have hjm:j=m:=by omega
  subst hjm;refine⟨_,aQ (by omega),?_⟩;rw[run_set hml,ay rfl,aG,<-oz];rw[hl]at ho;exact iF (by rw[hl];exact ho) hgr (fun x hx e=>by cases hx;cases e;exact XU rfl)
 ·rw[aY]at h0;omega
theorem RP.new {W wr w2 w3:World}{v v':Value}{rs:List (List Nat)}{ls:List Int}{hs:List Value}{B:Nat}{lv:Int}(h:RP W wr v rs ls hs B)(hne:∀j,j<rs.length->0<(run rs j).length)(hf:Fr [] wr w2)
 (ho:w3.ownsRow W.heap.size 217 2 v' (rs.length+1) (zc ls hs++[.int .i64 lv,.slice none 0 0])) (hg:w2.grownBy w3 v.ownBlock):RP W w3 v' (rs++[[]]) (ls++[lv]) (hs++[.slice none 0 0]) wr.heap.size:=by
 have h1:=h.iS hf;have hll:=h.ll;refine⟨h1.fr.grown hg (fun k e=>(h1.own.lt k e).1),?_,?_,⟨a_ h.b0.1 h.b0.2,?_⟩,fun j hj=>?_,fun j hj=>?_,fun h0=>?_⟩
 ·simp;omega
 ·rw[aG,<-Bc ls hs lv _ (by omega)];exact ho
 ·have:=hf.size;have:=hg.size;omega
 ·rw[aG]at hj
  simp only[bH]at hj;rw[uo _ _ _ (by omega),au (by omega),aJ (by omega)]
  rcases bP (j+1) rs.length with hlt | hge
  ·obtain⟨gj,cj,a1,a2,a3⟩:=h1.old j hlt
   exact⟨gj,cj,a1,by have:=h.b0.2;omega,iF a3 hg (fun x hx e=>iT a3 h1.own (by decide) hx e.symm rfl)⟩
  ·obtain⟨hh,a1,a2⟩:=h.last j (by omega)
   obtain⟨gj,cj,rfl⟩:=fR (hne j (by omega)) a2;exact⟨gj,cj,a1,(fZ a2).2,iF (gY (fS a2 hf) h.b0.1) hg (fun x hx e=>iT (fS a2 hf) h1.own (by decide) hx e.symm rfl)⟩
 ·rw[aG]at hj
  simp only[bH]at hj;have DI:j=rs.length:=by omega
  subst DI;rw[uo _ _ _ (by omega),ay rfl];exact⟨_,by rw[<-hll.2];simp,eY _ _ _ _⟩
 ·simp at h0
def zA (L:List Int)(rs:List (List Nat))(ls:List Int):Prop:=∀j,j<rs.length->nth ls j=nth L (gq (run rs j))
theorem zA.set {L:List Int}{rs:List (List Nat)}{ls:List Int}(h:zA L rs ls){m i:Nat}(hm:m<rs.length)(hr:run rs m≠[]):zA L (rs.set m (run rs m++[i])) ls:=fun j hj=>by
 rw[aY]at hj;rw[run_set hm];by_cases e:j=m
 ·subst e;rw[ay rfl,lK hr];exact h j hj
 ·rw[au e];exact h j hj
theorem zA.snoc {L:List Int}{rs:List (List Nat)}{ls:List Int}(h:zA L rs ls)(hl:ls.length=rs.length)(i:Nat):zA L (rs++[[i]]) (ls++[nth L i]):=fun j hj=>by
 rw[aG]at hj;simp only[bH]at hj;rw[uo _ _ _ (by omega)];by_cases e:j=rs.length
 ·subst e;rw[ay rfl]
  rw[<-hl];simp[nth,gq]
 ·rw[au e,<-h j (by omega)]
  unfold nth;rw[aJ (by omega)]
def abK (w w':World)(v:Value)(rs:List (List Nat))(L:List Int):Prop:=∃ls hs B,RP w w' v rs ls hs B/\zA L rs ls
theorem He (rs:List (List Nat))(x y:List Nat):(rs++[x]).set rs.length y=rs++[y]:=by simp
theorem RP.cells {W wr:World}{rs:List (List Nat)}{ls:List Int}{hs:List Value}{B n o cap:Nat}(h:RP W wr (.slice (some ⟨o,0,none⟩) n cap) rs ls hs B)(hn:n=rs.length){j:Nat}(hj:j<n):wr.cell? ⟨o,j * 2,none⟩=some (.int .i64 (nth ls j))/\wr.cell? ⟨o,j * 2+1,none⟩=hs[j]?:=by
 have ho:=h.own;rw[<-hn]at ho;have hl:=h.ll;obtain⟨a1,a2⟩:=Rb ls hs j (by omega) (by omega);exact⟨by rw[ho.cellAt _ (by omega),a1],by rw[ho.cellAt _ (by omega),a2]⟩
theorem Rd (q:UH)(C L:List Int)(P cU:Nat)(lv:Int)(w:World)(hu:US w q C L)(hq:QS w q P cU lv)(hK:q.K.length=q.n)(hn:q.n<=1000000)(hn0:0<q.n) :
 Calls prog 134 #[.pointer (some ⟨P,0,none⟩)] w fun e w'=>∃v,e=.returned v/\abK w w' v (ig q.K L q.K.length) L:=by
 obtain⟨i0,hi,hz0,hz1,hz2⟩:=e_ info3;obtain⟨i1,hi1,hy0,hy1,hy2⟩:=e_ U0;have c0:=hq.c0;have HU:=hid hu;have HK:=hid hK;have CN:q.U<w.heap.size:=eS _ _ (hu.r 0 hn0);obtain⟨Z,hZ⟩:∃Z,Z=ig q.K L q.K.length:=⟨_,rfl⟩;rw[<-hZ];have HZ:=hid hZ;clear hu hq hZ hK;go_enter func134,ntmps134;go_wp2;go_loopw [3,12] (fun v a wr=>∃(i B:Nat) (ls:List Int) (hs:List Value),a=.int .i64 i/\i<=q.n/\Hid (RP w wr v (ig q.K L i) ls hs B)/\Hid (zA L (ig q.K L i) ls)) (fun _ a _=>q.n - (intOf a).toNat)
 case atStart=>exact⟨0,_,_,_,rfl,aH _,hid (RP.start w),hid (fun j hj=>absurd hj (by simp[ig]))⟩
 case round =>
  obtain⟨i,B,ls,hs,rfl,hin,HR,IE⟩:=hrel;by_cases hlt:i<q.n
  ·have K2:=hid (HU.out.fr HR.out.fr af)
   have p0:=K2.out.r i hlt;have p1:=K2.out.k i hlt;have p2:=K2.out.c i hlt;have p3:=K2.out.l i hlt;have sY:(i:Int)<(q.n:Int):=by omega
   have oC:=hid (EC q.K L i (ig q.K L i));have mN:=hid (show ig q.K L (i+1)=mU q.K L i (ig q.K L i)from rfl);rw[<-mN.out]at oC;have oh:=hid (oJ q.K L i);have hshort:=oF q.K L i;have Te:=hid hshort.2;have hsh:=hshort.1;have yg:=hid (show ∀j,j<(ig q.K L i).length->0<(run (ig q.K L i) j).length from fun j hj=>bB.2 (oh.out.ne _ (kU hj)));clear hshort;generalize ig q.K L i=rs at *;have HC:=hid (Ce (nth q.K i));obtain⟨bx,hbx⟩:∃bx:Obj,bx=.cells #[.int .i32 (nth q.R i),.int .i64 (nth q.K i),.int .i64 (nth C i),.int .i64 (nth L i)] 202:=⟨_,rfl⟩;have Ap:=hid (HR.out.iS ((Fr.refl [] wr).alloc bx));have Ba:q.U<wr.heap.size:=by have:=HR.out.fr.size;omega
   rw[hbx]at Ap;obtain⟨a1,c1,hv1⟩:=gA HR.out.own;obtain⟨n,hn'⟩:∃n,n=rs.length:=⟨_,rfl⟩;rw[<-hn']at hv1 hsh;have HN:=hid hn';subst hv1;generalize hr1:nth q.R i=r1 at *;generalize hr3:nth C i=r3 at *;clear hbx hn' hr1 hr3;cases hg:gone (nth q.K i)
   ·rw[hg]at HC
    have Ep:=hid (oC.out.2.1 hg);have iO:=hid (fun m=>oC.out.2.2.1 m hg);have gP:=hid (fun m=>oC.out.2.2.2 m hg);have AD:=hid (show _ from Ap.out.own);rw[<-HN.out]at AD;generalize nth q.K i=kk at *;generalize hy:nth L i=y at *;have HY:=hid hy;clear oC hg hy
    rcases aS n with h0 | h0
    ·subst h0
     have hnil:=HR.out.nl HN.out.symm;cases hnil;have iA:=hid (Ep.out HN.out.symm);clear Ep iO gP;go_wp2_with (first | (go_at_call 158;refine(HC.out _).mono ?_;rintro e w' ⟨rfl,rfl⟩));go_quiet (fail);go_wp2_with (at_builtin;refine eV _ rfl _ _ 214 rfl w.heap.size 217 i1 _ 2 32 underlying214 hi1 hy0 hy1 hy2 rfl (by decide) _ 0 (zc ls hs) rfl ?own _ 1 1 [.int .i64 y,.slice none 0 0] rfl rfl (iC _ _ _ _ (by simp)) (WV _) (by unfold maxLen;omega) (by omega) ?nY ?_)
     case own=>exact fS AD.out ((((Fr.refl [] _).drewN _)).alloc _)
     case nY=>have:=Ap.out.fr.size;simp at this ⊢;omega
     intro v3 w3 gM Am Q3;obtain⟨o3,afS,hv3⟩:=fR (by omega) gM;subst hv3;have hr3:=Ap.out.new (lv:=y) yg.out ((((Fr.refl [] _).drewN _)).alloc _) (by rw[<-HN.out];exact gM) Am;rw[show(wr.alloc (.cells #[.int .i32 r1,.int .i64 kk,.int .i64 r3,.int .i64 y] 202)).heap.size=wr.heap.size+1 by simp]at hr3;have HR3:=hid hr3;clear hr3;have Iz:=hid (show(rs++[[]]).length=0+1 by rw[aG,<-HN.out];rfl);have HB3:=hid (HR3.out.cells Iz.out.symm (bJ 0));have g1:=HB3.out.2;rw[aI (by rw[Ap.out.ll.2,<-HN.out];exact ak _),Ap.out.ll.2,<-HN.out,bY]at g1;have ho3:o3<w3.heap.size:=(fZ gM).2;have hb3:=HR3.out.b0.2;have hnI:((0:Nat):Int)<((0+1:Nat):Int):=by omega
     clear gM Am Q3;go_wp2_with (at_builtin;refine eV _ rfl _ _ 22 rfl (wr.heap.size+1) 3 i0 _ 1 8 underlying22 hi hz0 hz1 hz2 rfl (by decide) _ 0 [] rfl ?mM _ 1 1 [.int .i64 i] rfl rfl (iC _ _ _ _ (by simp)) (one_cell _) (by unfold maxLen;omega) (by omega) ?Re ?_)
     case mM=>exact eY _ _ _ _
     case Re=>simp at hb3 ⊢;omega
     intro v4 w4 yh Aq Rf;obtain⟨g4,c4,hv4⟩:=fR (by omega) yh;subst hv4;obtain⟨hgr,how⟩:=HR3.out.grow (r:=[]) (l:=0) (i:=i) Iz.out.symm rfl (eY _ _ _ _) rfl ((Fr.refl [] w3).alloc _) yh Aq;rw[HN.out,He]at hgr;have HR4:=hid hgr;have hcc:∃u,w4.cell? ⟨o3,0 * 2+1,none⟩=some u:=by
      rw[how.cellAt _ (by omega),<-Bc _ _ _ _ (by have:=Ap.out.ll;omega),aI (by rw[CR _ _ Ap.out.ll,<-HN.out];omega),CR _ _ Ap.out.ll,<-HN.out,show 0 * 2+1 - 0 * 2=1 by omega];exact⟨_,rfl⟩
     obtain⟨u,f1⟩:=hcc;have f2:=how.frozenAt (0 * 2+1);rw[<-HN.out]at HR4;clear yh Aq Rf hgr how g1;go_wp2;go_roundw
     case rel=>exact⟨i+1,_,_,_,by go_num,by omega,hid (by rw[iA.out];exact HR4.out),hid (by rw[iA.out];have h5:=IE.out.snoc Ap.out.ll.1 i;rw[HY.out]at h5;exact h5)⟩
     case measure=>simp[intOf];omega
    ·obtain⟨m,hm⟩:∃m,n=m+1:=⟨n - 1,by omega⟩
     have hown:=HR.out.own;rw[<-HN.out]at hown;obtain⟨o,cap,FE⟩:=fR h0 hown;cases FE;have hml:m<rs.length:=by rw[<-HN.out];omega
     obtain⟨h0',ZZ,hh2⟩:=Ap.out.last m (by rw[<-HN.out,hm]);have hrm:=kU hml;have hne:=oh.out.ne _ hrm;have hrl:=Te.out _ hrm;have hr0:0<(run rs m).length:=bB.2 hne;obtain⟨g,c,hgs⟩:=fR hr0 hh2;subst hgs;have hcl:=Ap.out.cells HN.out (show m<n by omega);have k1:=hcl.1;have k2:=hcl.2;rw[ZZ]at k2;have HLM:=hid (IE.out m hml);have tI:=hid (oh.out.Lo _ hrm _ (jI hne));have hol:=(fZ AD.out).2;have HH2:=hid hh2;have abM:=hid hne;have hnm:(n:Int) - 1=(m:Int):=by omega
     have hmn:(m:Int)<(n:Int):=by omega
     have hm0:¬(m:Int)<0:=by omega
     have ak4:decide ((m:Int)<0)=false:=aK hm0;have U1:=hid (iO.out m (by rw[<-HN.out,hm]));have U2:=hid (gP.out m (by rw[<-HN.out,hm]));have QC:=hid hm;have Tn:=hid hml;clear hcl ZZ hh2 hown hrm hne Ep iO gP hm hml;obtain⟨r,hr⟩:∃r,r=run rs m:=⟨_,rfl⟩;have HRR:=hid hr;rw[<-hr]at HH2 abM hrl hr0 k2 HLM tI U1 U2;obtain⟨l,hl⟩:∃l,l=r.length:=⟨_,rfl⟩;rw[<-hl]at HH2 hrl hr0 k2;have HL:=hid hl;generalize hlm:nth ls m=lm at *;clear hr hl hlm;by_cases heq:lm=y
     ·have iA:=hid (U1.out (by rw[tI.out,<-HLM.out];exact heq))
      subst heq;clear U1 U2;go_wp2_with (first | (go_at_call 158;refine(HC.out _).mono ?_;rintro e w' ⟨rfl,rfl⟩));go_quiet (fail);go_wp2_with (at_builtin;refine eV _ rfl _ _ 22 rfl B 3 i0 _ 1 8 underlying22 hi hz0 hz1 hz2 rfl (by decide) _ l (gz r) rfl ?mM _ 1 1 [.int .i64 i] rfl rfl (iC _ _ _ _ (by simp)) (one_cell _) (by unfold maxLen;omega) (by omega) ?Re ?_)
      case mM=>exact fS HH2.out (((Fr.refl [] _).drewN _).alloc _)
      case Re=>have:=Ap.out.b0.2;simp at this ⊢;omega
      intro v4 w4 yh Aq Rf;obtain⟨g4,c4,hv4⟩:=fR (by omega) yh;subst hv4;obtain⟨hgr,how⟩:=Ap.out.grow (i:=i) HN.out QC.out HH2.out HL.out (((Fr.refl [] _).drewN _).alloc _) yh Aq;have HR4:=hid hgr;have hcc:∃u,w4.cell? ⟨o,m * 2+1,none⟩=some u:=by
       rw[how.cellAt _ (by have:=QC.out;omega),(Rb ls hs m (by have:=Ap.out.ll;omega) (by rw[Ap.out.ll.2];exact Tn.out)).2,az (by rw[Ap.out.ll.2];exact Tn.out)];exact⟨_,rfl⟩
      obtain⟨u,f1⟩:=hcc;have f2:=how.frozenAt (m * 2+1);clear yh Aq Rf hgr how;go_wp2;go_roundw
      case rel=>exact⟨i+1,_,_,_,by go_num,by omega,hid (by rw[iA.out];exact HR4.out),hid (by rw[iA.out,HRR.out];exact IE.out.set Tn.out (by rw[<-HRR.out];exact abM.out))⟩
      case measure=>simp[intOf];omega
     ·have iA:=hid (U2.out (by rw[tI.out,<-HLM.out];exact heq))
      have heb:(lm == y)=false:=by simp[heq]
      have hm1:(m:Int)+1=(n:Int):=by omega
      clear U1 U2;go_wp2_with (first | (go_at_call 158;refine(HC.out _).mono ?_;rintro e w' ⟨rfl,rfl⟩));go_quiet (fail);go_wp2_with (at_builtin;refine eV _ rfl _ _ 214 rfl w.heap.size 217 i1 _ 2 32 underlying214 hi1 hy0 hy1 hy2 rfl (by decide) _ n (zc ls hs) rfl ?own _ 1 1 [.int .i64 y,.slice none 0 0] rfl rfl (iC _ _ _ _ (by simp)) (WV _) (by unfold maxLen;omega) (by omega) ?nY ?_)
      case own=>exact fS AD.out ((((Fr.refl [] _).drewN _)).alloc _)
      case nY=>have:=Ap.out.fr.size;simp at this ⊢;omega
      intro v3 w3 gM Am Q3;obtain⟨o3,afS,hv3⟩:=fR (by omega) gM;subst hv3;have hr3:=Ap.out.new (lv:=y) yg.out ((((Fr.refl [] _).drewN _)).alloc _) (by rw[<-HN.out];exact gM) Am;rw[show(wr.alloc (.cells #[.int .i32 r1,.int .i64 kk,.int .i64 r3,.int .i64 y] 202)).heap.size=wr.heap.size+1 by simp]at hr3;have HR3:=hid hr3;clear hr3;have Iz:=hid (show(rs++[[]]).length=n+1 by rw[aG,<-HN.out];rfl);have HB3:=hid (HR3.out.cells Iz.out.symm (bJ n));have g1:=HB3.out.2;rw[aI (by rw[Ap.out.ll.2,<-HN.out];exact ak _),Ap.out.ll.2,<-HN.out,bY]at g1;have ho3:o3<w3.heap.size:=(fZ gM).2;have hb3:=HR3.out.b0.2;have hnI:((0:Nat):Int)<((0+1:Nat):Int):=by omega
      clear gM Am Q3;go_wp2_with (at_builtin;refine eV _ rfl _ _ 22 rfl (wr.heap.size+1) 3 i0 _ 1 8 underlying22 hi hz0 hz1 hz2 rfl (by decide) _ 0 [] rfl ?mM _ 1 1 [.int .i64 i] rfl rfl (iC _ _ _ _ (by simp)) (one_cell _) (by unfold maxLen;omega) (by omega) ?Re ?_)
      case mM=>exact eY _ _ _ _
      case Re=>simp at hb3 ⊢;omega
      intro v4 w4 yh Aq Rf;obtain⟨g4,c4,hv4⟩:=fR (by omega) yh;subst hv4;obtain⟨hgr,how⟩:=HR3.out.grow (r:=[]) (l:=0) (i:=i) Iz.out.symm rfl (eY _ _ _ _) rfl ((Fr.refl [] w3).alloc _) yh Aq;rw[HN.out,He]at hgr;have HR4:=hid hgr;have hcc:∃u,w4.cell? ⟨o3,n * 2+1,none⟩=some u:=by
       rw[how.cellAt _ (by omega),<-Bc _ _ _ _ (by have:=Ap.out.ll;omega),aI (by rw[CR _ _ Ap.out.ll,<-HN.out];omega),CR _ _ Ap.out.ll,<-HN.out,show n * 2+1 - n * 2=1 by omega];exact⟨_,rfl⟩
      obtain⟨u,f1⟩:=hcc;have f2:=how.frozenAt (n * 2+1);rw[<-HN.out]at HR4;clear yh Aq Rf hgr how g1;go_wp2;go_roundw
      case rel=>exact⟨i+1,_,_,_,by go_num,by omega,hid (by rw[iA.out];exact HR4.out),hid (by rw[iA.out];have h5:=IE.out.snoc Ap.out.ll.1 i;rw[HY.out]at h5;exact h5)⟩
      case measure=>simp[intOf];omega
   ·have iA:=hid (oC.out.1 hg)
    rw[hg]at HC;generalize nth q.K i=kk at *;generalize nth L i=y at *;clear oC hg;go_wp2_with (first | (go_at_call 158;refine(HC.out _).mono ?_;rintro e w' ⟨rfl,rfl⟩));go_roundw
    case rel=>exact⟨i+1,_,_,_,by go_num,by omega,hid (by rw[iA.out];exact Ap.out),hid (by rw[iA.out];exact IE.out)⟩
    case measure=>simp[intOf];omega
  ·have hie:i=q.n:=by omega
   have zq:=hid (show RP w wr _ Z ls hs B by rw[HZ.out,HK.out,<-hie];exact HR.out);have HLZ:=hid (show zA L Z ls by rw[HZ.out,HK.out,<-hie];exact IE.out);have sY:¬(i:Int)<(q.n:Int):=by omega
   clear hie HR IE;go_wp2;go_ret;exact⟨_,rfl,ls,hs,B,zq.out,HLZ.out⟩
theorem Hf (lv:Int)(g l c B:Nat)(r:List Nat)(w:World)(h:w.ownsRow B 3 1 (.slice (some ⟨g,0,none⟩) l c) l (gz r))(hl:l=r.length)(h0:0<l)(h1:l<=1000000) :
 Calls prog 139 #[.agg #[.int .i64 lv,.slice (some ⟨g,0,none⟩) l c]] w fun e w'=>e=.returned (.int .i64 (gN r:Nat))/\Fr [] w w':=by
 obtain⟨m,hm⟩:∃m,l=m+1:=⟨l - 1,by omega⟩;have e1:w.cell? ⟨g,m,none⟩=some (.int .i64 (gN r:Nat)):=by
  rw[jJ h hl.symm m (by omega),gN,<-hl,hm];rfl
 have hg:=(fZ h).2;generalize gN r=x at *;have hnm:(l:Int) - 1=(m:Int):=by omega
 have hml:(m:Int)<(l:Int):=by omega
 clear h hl hm;go_enter func139,ntmps139;go_wp2;go_ret;exact⟨rfl,(Fr.refl [] w).alloc _⟩
def qA (ls:List Int)(n:Nat)(lv:Int)(x:Int):Int:=if x<0\/(n:Int)<=x then lv else nth ls x.toNat
theorem Hg (q:UH)(P cU:Nat)(lv:Int)(W w:World)(o n cap B:Nat)(rs:List (List Nat))(ls:List Int)(hs:List Value)(x:Int)(hq:QS w q P cU lv)(h:RP W w (.slice (some ⟨o,0,none⟩) n cap) rs ls hs B)(hn:n=rs.length) :
 Calls prog 136 #[.pointer (some ⟨P,0,none⟩),.slice (some ⟨o,0,none⟩) n cap,.int .i64 x] w fun e w'=>e=.returned (.int .i64 (qA ls n lv x))/\w'=w:=by
 have c2:=hq.c2;by_cases hx:x<0
 ·rw[show qA ls n lv x=lv by rw[qA,ay (.inl hx)]]
  have hxd:decide (x<0)=true:=aZ hx;clear h hq hn;go_enter func136,ntmps136;go_wp2;go_ret;exact⟨rfl,rfl⟩
 ·have hxd:decide (x<0)=false:=aK hx
  by_cases hx2:(n:Int)<=x
  ·rw[show qA ls n lv x=lv by rw[qA,ay (.inr hx2)]]
   clear h hq hn;go_enter func136,ntmps136;go_wp2;go_ret;exact⟨rfl,rfl⟩
  ·obtain⟨j,rfl⟩:∃j:Nat,x=j:=⟨x.toNat,by omega⟩
   have k1:=(h.cells hn (show j<n by omega)).1;rw[show qA ls n lv (j:Int)=nth ls j by rw[qA,au (by omega)];rfl];generalize nth ls j=y at *;have Io:(j:Int)<(n:Int):=by omega
   have hd2:decide ((n:Int)<=(j:Int))=false:=aK hx2;have hd3:decide (n<=j)=false:=aK (by omega);clear h hq hn;go_enter func136,ntmps136;go_wp2;go_ret;exact⟨rfl,rfl⟩
theorem Rg (q:UH)(C L:List Int)(P cU:Nat)(lv:Int)(W w:World)(o n cap B:Nat)(rs:List (List Nat))(ls:List Int)(hs:List Value)(j g c:Nat)(hu:US w q C L)(hq:QS w q P cU lv)(h:RP W w (.slice (some ⟨o,0,none⟩) n cap) rs ls hs B)(hn:n=rs.length)(hj:j<n)(hnb:n<=1000000)
 (hh:hs[j]?=some (.slice (some ⟨g,0,none⟩) (run rs j).length c)) (hr:w.ownsRow W.heap.size 3 1 (.slice (some ⟨g,0,none⟩) (run rs j).length c) (run rs j).length (gz (run rs j))) (h0:0<(run rs j).length) (h1:(run rs j).length<=1000000) (hlt:gN (run rs j)<q.n) :
 Calls prog 137 #[.pointer (some ⟨P,0,none⟩),.slice (some ⟨o,0,none⟩) n cap,.int .i64 j] w fun e w'=>e=.returned (.int .i64 (if j6 (nth q.K (gN (run rs j)))then lv else qA ls n lv ((j:Int)+1)))/\Fr [] w w':=by
 have c0:=hq.c0;have c2:=hq.c2;have hcl:=h.cells hn hj;have k1:=hcl.1;have k2:=hcl.2;rw[hh]at k2;have HU:=hid hu;have HQ:=hid hq;have HH:=hid h;have HN:=hid hn;have p1:=hu.k _ hlt;have hln:((gN (run rs j):Nat):Int)<(q.n:Int):=by omega
 have abN:=hid (fun(X:World) (hf:Fr [] w X)=>Hf (nth ls j) g _ c _ (run rs j) X (fS hr hf) rfl h0 h1);have DD:=hid p1;have Ol:=hid c0;obtain⟨V,hV⟩:∃V,V=if j6 (nth q.K (gN (run rs j)))then lv else qA ls n lv ((j:Int)+1):=⟨_,rfl⟩
 rw[<-hV];have HV:=hid hV;generalize gN (run rs j)=x at *;generalize (run rs j).length=l at *;generalize nth q.K x=kk at *;generalize nth ls j=lj at *;have abO:=hid (xY kk);have Io:(j:Int)<(n:Int):=by omega
 have hol:=eS _ _ k1;have CN:=eS _ _ p1;have rW:=eS _ _ c2;dsimp only at hol CN rW;clear hu hq h hn hh hr hcl hV;go_enter func137,ntmps137;go_upto_region 1 with fail
 go_cut [19]from 7 to 19 (fun a wx=>a=.bool (j6 kk)/\Hid (Fr [] w wx))
 case first =>
  go_region_with (first | (go_at_call 139;refine(abN.out _ ?_).mono ?_;exact iD _ _ _ rfl rfl rfl rfl;rintro e w1 ⟨rfl,hf1⟩;have vI:Fr [] w w1:=⟨hf1.os,hf1.tape,hf1.output,hf1.size,hf1.block⟩;have iy:=hid vI;have m0:=vI.cell DD.out af;have m1:=vI.cell Ol.out af;clear hf1 vI) | (go_at_call 181;refine(abO.out _).mono ?_;rintro e w2 ⟨rfl,rfl⟩))
  all_goals (
   go_wp2
   go_meet
   exact⟨rfl,iy⟩)
 case rest =>
  obtain⟨rfl,HF⟩:=hcut;have d2:=(HQ.out.fr HF.out af).c2;have abP:=hid (Hg q P cU lv W wc o n cap B rs ls hs ((j:Int)+1) (HQ.out.fr HF.out af) (HH.out.iS HF.out) HN.out);clear c0 c2 k1 k2 p1;cases hk:j6 kk
  ·have HV2:=hid (show V=qA ls n lv ((j:Int)+1) by rw[HV.out,hk];rfl)
   clear hk;go_wp2_with (first | (go_at_call 136;refine abP.out.mono ?_;rintro e w' ⟨rfl,rfl⟩));go_ret;exact⟨pE HV2.out.symm,HF.out⟩
  ·have HV2:=hid (show V=lv by rw[HV.out,hk];rfl)
   clear hk;go_wp2;go_ret;exact⟨pE HV2.out.symm,HF.out⟩
end Go.Proofs.YtnakejhohdbfdaaGreatDoor

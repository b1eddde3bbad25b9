import Derived.Test.YtnakejhohdbfdacGreatDoorMak
import Derived.Test.YtnakejhohdbfdacGreatDoorMap
set_option maxHeartbeats 8000000
set_option maxRecDepth 10000
set_option linter.unusedSimpArgs false
namespace Go.Proofs.YtnakejhohdbfdacGreatDoor
open Go.RowKit j9 Go.Proofs.Tryz
theorem TL:(Tryz.prog.info? 294).map (fun i=>(i.zero,i.size,i.bytes))=some (some (.agg #[.int .i64 0,.slice none 0 0]),2,32):=by kernel_rfl
def zc:List Int->List Value->List Value
 | l :: ls,h :: hs=>.int .i64 l :: h :: zc ls hs
 | _,_=>[]
theorem PJ:∀(ls:List Int) (hs:List Value) (i:Nat),ls.length=hs.length->i<hs.length->(zc ls hs)[i * 2]?=some (.int .i64 (nth ls i))/\(zc ls hs)[i * 2+1]?=hs[i]?
 | [],[],i,_,h=>absurd h (by simp)
 | [],_ :: _,_,h,_=>absurd h (by simp)
 | _ :: _,[],_,h,_=>absurd h (by simp)
 | l :: ls,h :: hs,0,_,_=>by simp[zc,nth]
 | l :: ls,h :: hs,i+1,he,hi=>by
   have:=PJ ls hs i (by simpa using he) (by simpa using hi);rw[show(i+1) * 2=i * 2+1+1 by omega];simpa[zc,nth] using this
theorem CD:∀(ls:List Int) (hs:List Value) {n:Nat},ls.length=n/\hs.length=n->(zc ls hs).length=n * 2
 | [],[],_,h=>by rw[<-h.1];rfl
 | [],_ :: _,_,h=>absurd (h.1.trans h.2.symm) (by simp)
 | _ :: _,[],_,h=>absurd (h.1.trans h.2.symm) (by simp)
 | _ :: ls,_ :: hs,n,h=>by
   obtain⟨h1,h2⟩:=h;have:=CD ls hs (n:=n - 1) ⟨by simp at h1;omega,by simp at h2;omega⟩;simp at h1;simp[zc,this];omega
theorem V_ (y:Int):∀u∈[Value.int .i64 y,.slice none 0 0],u.oneCell'=true:=by
 intro u hu;simp at hu
 rcases hu with rfl | rfl <;> rfl
theorem Ba:∀(ls:List Int) (hs:List Value) (l:Int) (h:Value),ls.length=hs.length->zc ls hs++[.int .i64 l,h]=zc (ls++[l]) (hs++[h])
 | [],[],_,_,_=>rfl
 | [],_ :: _,_,_,h=>absurd h (by simp)
 | _ :: _,[],_,_,h=>absurd h (by simp)
 | x :: ls,y :: hs,l,h,he=>by
   have:=Ba ls hs l h (by simpa using he);simp[zc,this]
theorem PK:∀(ls:List Int) (hs:List Value) (m:Nat) (v:Value),ls.length=hs.length->m<hs.length->(zc ls hs).set (m * 2+1) v=zc ls (hs.set m v)
 | [],[],m,_,_,h=>absurd h (by simp)
 | [],_ :: _,_,_,h,_=>absurd h (by simp)
 | _ :: _,[],_,_,h,_=>absurd h (by simp)
 | l :: ls,h :: hs,0,v,_,_=>by simp[zc]
 | l :: ls,h :: hs,m+1,v,he,hm=>by
   have:=PK ls hs m v (by simpa using he) (by simpa using hm);rw[show(m+1) * 2+1=m * 2+1+1+1 by omega];simp[zc,this]
structure RP (W wr:World)(v:Value)(rs:List (List Nat))(ls:List Int)(hs:List Value)(B:Nat):Prop where
 fr:Fr [] W wr
 ll:ls.length=rs.length/\hs.length=rs.length
 own:wr.ownsRow W.heap.size 294 2 v rs.length (zc ls hs)
 b0:W.heap.size<=B/\B<=wr.heap.size
 old:∀j,j+1<rs.length->∃g c,hs[j]?=some (.slice (some ⟨g,0,none⟩) (run rs j).length c)/\g<B/\wr.ownsRow W.heap.size 3 1 (.slice (some ⟨g,0,none⟩) (run rs j).length c) (run rs j).length (jk (run rs j))
 last:∀j,j+1=rs.length->∃h,hs[j]?=some h/\wr.ownsRow B 3 1 h (run rs j).length (jk (run rs j))
 nl:rs.length=0->v=.slice none 0 0
theorem RP.oN {W wr w':World}{v:Value}{rs:List (List Nat)}{ls:List Int}{hs:List Value}{B:Nat}(h:RP W wr v rs ls hs B)(hf:Fr [] wr w'):RP W w' v rs ls hs B :=
 ⟨h.fr.trans hf,h.ll,iM h.own hf,⟨h.b0.1,aK h.b0.2 hf.size⟩,
  fun j hj=>by obtain⟨g,c,a1,a2,a3⟩:=h.old j hj;exact⟨g,c,a1,a2,iM a3 hf⟩,
  fun j hj=>by obtain⟨g,a1,a2⟩:=h.last j hj;exact⟨g,a1,iM a2 hf⟩,h.nl⟩
theorem RP.start (W:World):RP W W (.slice none 0 0) [] [] [] W.heap.size :=
 ⟨Fr.refl _ _,⟨rfl,rfl⟩,fQ _ _ _ _,⟨au _,au _⟩,fun j h=>absurd h (by simp),fun j h=>absurd h (by simp),fun _=>rfl⟩
theorem RP.grow {W wr w1 w2:World}{rs:List (List Nat)}{ls:List Int}{hs:List Value}{B n m o cap l i:Nat}{r:List Nat}{h0 v':Value}(h:RP W wr (.slice (some ⟨o,0,none⟩) n cap) rs ls hs B)(hn:n=rs.length)(hm:n=m+1)
 (ho0:wr.ownsRow B 3 1 h0 l (jk r)) (hl:l=r.length) (hf:Fr [] wr w1)
 (ho:w2.ownsRow B 3 1 v' (l+1) (jk r++[.int .i64 (i:Nat)])) (hg:w1.grownBy w2 h0.ownBlock):RP W (w2.setCell ⟨o,m * 2+1,none⟩ v') (.slice (some ⟨o,0,none⟩) n cap) (rs.set m (r++[i])) ls (hs.set m v') B/\w2.ownsRow W.heap.size 294 2 (.slice (some ⟨o,0,none⟩) n cap) n (zc ls hs):=by
 have h1:=h.oN hf;have hml:m<rs.length:=by omega
 have hown:=h1.own;rw[<-hn]at hown;have hown2:=jP hown hg (fun x hx e=>by cases hx;exact j7 hown (iM ho0 hf) (by decide) rfl e.symm rfl);obtain⟨hst,hgr⟩:=hown2.stored (m * 2+1) v';have hfo:W.heap.size<=o:=(ji hown).1;obtain⟨g',c',rfl⟩:=iQ (by omega) ho;have XL:o≠g':=j7 hown2 ho (by decide) rfl rfl;have hll:=h.ll;rw[PK ls hs m _ (by omega) (by omega)]at hst;refine⟨⟨(h1.fr.grown hg (fun k e=>by have h5:=(ho0.lt k e).1;have:=h1.b0.1;omega)).grown hgr (fun k e=>by cases e;exact hfo),?_,?_,⟨h1.b0.1,?_⟩,fun j hj=>?_,fun j hj=>?_,fun h0=>?_⟩,hown2⟩
 ·rw[bK,bK];exact hll
 ·rw[bK,<-hn];exact hst
 ·have:=h1.b0.2;have:=hg.size;have:=hgr.size;omega
 ·rw[bK]at hj
  obtain⟨gj,cj,a1,a2,a3⟩:=h1.old j hj;refine⟨gj,cj,?_,a2,?_⟩
  ·rw[run_set hml,ay (by omega),bJ (by omega)];exact a1
  ·rw[run_set hml,ay (by omega)]
   have hoj:o≠gj:=j7 h1.own a3 (by decide) rfl rfl;exact jP (jP a3 hg (fun x hx e=>by cases hx;have h5:=(ho0.lt _ e.symm).1;dsimp only at h5;omega)) hgr (fun x hx e=>by cases hx;cases e;exact hoj rfl)
 ·rw[bK]at hj
  have hjm:j=m:=by omega
  subst hjm;refine⟨_,bn (by omega),?_⟩;rw[run_set hml,aE rfl,aD,<-sM];rw[hl]at ho;exact jP (by rw[hl];exact ho) hgr (fun x hx e=>by cases hx;cases e;exact XL rfl)
 ·rw[bK]at h0;omega
theorem RP.new {W wr w2 w3:World}{v v':Value}{rs:List (List Nat)}{ls:List Int}{hs:List Value}{B:Nat}{lv:Int}(h:RP W wr v rs ls hs B)(hne:∀j,j<rs.length->0<(run rs j).length)(hf:Fr [] wr w2)
 (ho:w3.ownsRow W.heap.size 294 2 v' (rs.length+1) (zc ls hs++[.int .i64 lv,.slice none 0 0])) (hg:w2.grownBy w3 v.ownBlock):RP W w3 v' (rs++[[]]) (ls++[lv]) (hs++[.slice none 0 0]) wr.heap.size:=by
 have h1:=h.oN hf;have hll:=h.ll;refine⟨h1.fr.grown hg (fun k e=>(h1.own.lt k e).1),?_,?_,⟨aK h.b0.1 h.b0.2,?_⟩,fun j hj=>?_,fun j hj=>?_,fun h0=>?_⟩
 ·simp;omega
 ·rw[aD,<-Ba ls hs lv _ (by omega)];exact ho
 ·have:=hf.size;have:=hg.size;omega
 ·rw[aD]at hj
  simp only[bq]at hj;rw[tW _ _ _ (by omega),ay (by omega),aJ (by omega)]
  rcases cH (j+1) rs.length with hlt | hge
  ·obtain⟨gj,cj,a1,a2,a3⟩:=h1.old j hlt
   exact⟨gj,cj,a1,by have:=h.b0.2;omega,jP a3 hg (fun x hx e=>j7 a3 h1.own (by decide) hx e.symm rfl)⟩
  ·obtain⟨hh,a1,a2⟩:=h.last j (by omega)
   obtain⟨gj,cj,rfl⟩:=iQ (hne j (by omega)) a2;exact⟨gj,cj,a1,(ji a2).2,jP (iU (iM a2 hf) h.b0.1) hg (fun x hx e=>j7 (iM a2 hf) h1.own (by decide) hx e.symm rfl)⟩
 ·rw[aD]at hj
  simp only[bq]at hj;have hje:j=rs.length:=by omega
  subst hje;rw[tW _ _ _ (by omega),aE rfl];exact⟨_,by rw[<-hll.2];simp,fQ _ _ _ _⟩
 ·simp at h0
def zm (L:List Int)(rs:List (List Nat))(ls:List Int):Prop:=∀j,j<rs.length->nth ls j=nth L (iV (run rs j))
theorem zm.set {L:List Int}{rs:List (List Nat)}{ls:List Int}(h:zm L rs ls){m i:Nat}(hm:m<rs.length)(hr:run rs m≠[]):zm L (rs.set m (run rs m++[i])) ls:=fun j hj=>by
 rw[bK]at hj;rw[run_set hm];by_cases e:j=m
 ·subst e;rw[aE rfl,mD hr];exact h j hj
 ·rw[ay e];exact h j hj
theorem zm.snoc {L:List Int}{rs:List (List Nat)}{ls:List Int}(h:zm L rs ls)(hl:ls.length=rs.length)(i:Nat):zm L (rs++[[i]]) (ls++[nth L i]):=fun j hj=>by
 rw[aD]at hj;simp only[bq]at hj;rw[tW _ _ _ (by omega)];by_cases e:j=rs.length
 ·subst e;rw[aE rfl]
  rw[<-hl];simp[nth,iV]
 ·rw[ay e,<-h j (by omega)]
  unfold nth;rw[aJ (by omega)]
def aaI (w w':World)(v:Value)(rs:List (List Nat))(L:List Int):Prop:=∃ls hs B,RP w w' v rs ls hs B/\zm L rs ls
theorem GD (rs:List (List Nat))(x y:List Nat):(rs++[x]).set rs.length y=rs++[y]:=by simp
theorem RP.cells {W wr:World}{rs:List (List Nat)}{ls:List Int}{hs:List Value}{B n o cap:Nat}(h:RP W wr (.slice (some ⟨o,0,none⟩) n cap) rs ls hs B)(hn:n=rs.length){j:Nat}(hj:j<n):wr.cell? ⟨o,j * 2,none⟩=some (.int .i64 (nth ls j))/\wr.cell? ⟨o,j * 2+1,none⟩=hs[j]?:=by
 have ho:=h.own;rw[<-hn]at ho;have hl:=h.ll;obtain⟨a1,a2⟩:=PJ ls hs j (by omega) (by omega);exact⟨by rw[ho.cellAt _ (by omega),a1],by rw[ho.cellAt _ (by omega),a2]⟩
theorem PL (q:UH)(C L:List Int)(P cU:Nat)(lv:Int)(w:World)(hu:US w q C L)(hq:QS w q P cU lv)(hK:q.K.length=q.n)(hn:q.n<=1000000)(hn0:0<q.n) :
 Calls prog 172 #[.pointer (some ⟨P,0,none⟩)] w fun e w'=>∃v,e=.returned v/\aaI w w' v (jC q.K L q.K.length) L:=by
 obtain⟨i0,hi,hz0,hz1,hz2⟩:=fY info3;obtain⟨i1,hi1,hy0,hy1,hy2⟩:=fY TL;have c0:=hq.c0;have HU:=hid hu;have HK:=hid hK;have Co:q.U<w.heap.size:=fC _ _ (hu.r 0 hn0);obtain⟨Z,hZ⟩:∃Z,Z=jC q.K L q.K.length:=⟨_,rfl⟩;rw[<-hZ];have HZ:=hid hZ;clear hu hq hZ hK;go_enter func172,ntmps172;go_wp2;go_loopw [3,12] (fun v a wr=>∃(i B:Nat) (ls:List Int) (hs:List Value),a=.int .i64 i/\i<=q.n/\Hid (RP w wr v (jC q.K L i) ls hs B)/\Hid (zm L (jC q.K L i) ls)) (fun _ a _=>q.n - (intOf a).toNat)
 case atStart=>exact⟨0,_,_,_,rfl,aN _,hid (RP.start w),hid (fun j hj=>absurd hj (by simp[jC]))⟩
 case round =>
  obtain⟨i,B,ls,hs,rfl,hin,HR,Fv⟩:=hrel;by_cases hlt:i<q.n
  ·have Kt:=hid (HU.out.fr HR.out.fr aj)
   have p0:=Kt.out.r i hlt;have p1:=Kt.out.k i hlt;have p2:=Kt.out.c i hlt;have p3:=Kt.out.l i hlt;have y_:(i:Int)<(q.n:Int):=by omega
   have Dz:=hid (Mg q.K L i (jC q.K L i));have qP:=hid (show jC q.K L (i+1)=oh q.K L i (jC q.K L i)from rfl);rw[<-qP.out]at Dz;have CE:=hid (pL q.K L i);have hshort:=wP q.K L i;have HSH:=hid hshort.2;have hsh:=hshort.1;have Fq:=hid (show ∀j,j<(jC q.K L i).length->0<(run (jC q.K L i) j).length from fun j hj=>bW.2 (CE.out.ne _ (mS hj)));clear hshort;generalize jC q.K L i=rs at *;have HC:=hid (xO (nth q.K i));obtain⟨bx,hbx⟩:∃bx:Obj,bx=.cells #[.int .i32 (nth q.R i),.int .i64 (nth q.K i),.int .i64 (nth C i),.int .i64 (nth L i)] 280:=⟨_,rfl⟩;have Ai:=hid (HR.out.oN ((Fr.refl [] wr).alloc bx));have A6:q.U<wr.heap.size:=by have:=HR.out.fr.size;omega
   rw[hbx]at Ai;obtain⟨a1,c1,hv1⟩:=iW HR.out.own;obtain⟨n,hn'⟩:∃n,n=rs.length:=⟨_,rfl⟩;rw[<-hn']at hv1 hsh;have HN:=hid hn';subst hv1;generalize hr1:nth q.R i=r1 at *;generalize hr3:nth C i=r3 at *;clear hbx hn' hr1 hr3;cases hg:gone (nth q.K i)
   ·rw[hg]at HC
    have Sw:=hid (Dz.out.2.1 hg);have jQ:=hid (fun m=>Dz.out.2.2.1 m hg);have jI:=hid (fun m=>Dz.out.2.2.2 m hg);have AD:=hid (show _ from Ai.out.own);rw[<-HN.out]at AD;generalize nth q.K i=kk at *;generalize hy:nth L i=y at *;have HY:=hid hy;clear Dz hg hy
    rcases bO n with h0 | h0
    ·subst h0
     have hnil:=HR.out.nl HN.out.symm;cases hnil;have Fx:=hid (Sw.out HN.out.symm);clear Sw jQ jI;go_wp2_with (first | (go_at_call 196;refine(HC.out _).mono ?_;rintro e w' ⟨rfl,rfl⟩));go_quiet (fail);go_wp2_with (at_builtin;refine fV _ rfl _ _ 291 rfl w.heap.size 294 i1 _ 2 32 underlying291 hi1 hy0 hy1 hy2 rfl (by decide) _ 0 (zc ls hs) rfl ?own _ 1 1 [.int .i64 y,.slice none 0 0] rfl rfl (kM _ _ _ _ (by simp)) (V_ _) (by unfold maxLen;omega) (by omega) ?Gk ?_)
     case own=>exact iM AD.out ((((Fr.refl [] _).drewN _)).alloc _)
     case Gk=>have:=Ai.out.fr.size;simp at this ⊢;omega
     intro v3 w3 lK GF XM;obtain⟨o3,aep,hv3⟩:=iQ (by omega) lK;subst hv3;have hr3:=Ai.out.new (lv:=y) Fq.out ((((Fr.refl [] _).drewN _)).alloc _) (by rw[<-HN.out];exact lK) GF;rw[show(wr.alloc (.cells #[.int .i32 r1,.int .i64 kk,.int .i64 r3,.int .i64 y] 280)).heap.size=wr.heap.size+1 by simp]at hr3;have HR3:=hid hr3;clear hr3;have Md:=hid (show(rs++[[]]).length=0+1 by rw[aD,<-HN.out];rfl);have HB3:=hid (HR3.out.cells Md.out.symm (bP 0));have g1:=HB3.out.2;rw[aI (by rw[Ai.out.ll.2,<-HN.out];exact au _),Ai.out.ll.2,<-HN.out,dm]at g1;have ho3:o3<w3.heap.size:=(ji lK).2;have hb3:=HR3.out.b0.2;have hnI:((0:Nat):Int)<((0+1:Nat):Int):=by omega
     clear lK GF XM;go_wp2_with (at_builtin;refine fV _ rfl _ _ 32 rfl (wr.heap.size+1) 3 i0 _ 1 8 underlying32 hi hz0 hz1 hz2 rfl (by decide) _ 0 [] rfl ?jR _ 1 1 [.int .i64 i] rfl rfl (kM _ _ _ _ (by simp)) (one_cell _) (by unfold maxLen;omega) (by omega) ?PM ?_)
     case jR=>exact fQ _ _ _ _
     case PM=>simp at hb3 ⊢;omega
     intro v4 w4 sZ Aj PN;obtain⟨g4,c4,hv4⟩:=iQ (by omega) sZ;subst hv4;obtain⟨hgr,how⟩:=HR3.out.grow (r:=[]) (l:=0) (i:=i) Md.out.symm rfl (fQ _ _ _ _) rfl ((Fr.refl [] w3).alloc _) sZ Aj;rw[HN.out,GD]at hgr;have HR4:=hid hgr;have hcc:∃u,w4.cell? ⟨o3,0 * 2+1,none⟩=some u:=by
      rw[how.cellAt _ (by omega),<-Ba _ _ _ _ (by have:=Ai.out.ll;omega),aI (by rw[CD _ _ Ai.out.ll,<-HN.out];omega),CD _ _ Ai.out.ll,<-HN.out,show 0 * 2+1 - 0 * 2=1 by omega];exact⟨_,rfl⟩
     obtain⟨u,f1⟩:=hcc;have f2:=how.frozenAt (0 * 2+1);rw[<-HN.out]at HR4;clear sZ Aj PN hgr how g1;go_wp2;go_roundw
     case rel=>exact⟨i+1,_,_,_,by go_num,by omega,hid (by rw[Fx.out];exact HR4.out),hid (by rw[Fx.out];have h5:=Fv.out.snoc Ai.out.ll.1 i;rw[HY.out]at h5;exact h5)⟩
     case measure=>simp[intOf];omega
    ·obtain⟨m,hm⟩:∃m,n=m+1:=⟨n - 1,by omega⟩
     have hown:=HR.out.own;rw[<-HN.out]at hown;obtain⟨o,cap,XN⟩:=iQ h0 hown;cases XN;have hml:m<rs.length:=by rw[<-HN.out];omega
     obtain⟨h0',Ib,hh2⟩:=Ai.out.last m (by rw[<-HN.out,hm]);have hrm:=mS hml;have hne:=CE.out.ne _ hrm;have hrl:=HSH.out _ hrm;have hr0:0<(run rs m).length:=bW.2 hne;obtain⟨g,c,hgs⟩:=iQ hr0 hh2;subst hgs;have hcl:=Ai.out.cells HN.out (show m<n by omega);have k1:=hcl.1;have k2:=hcl.2;rw[Ib]at k2;have HLM:=hid (Fv.out m hml);have Ia:=hid (CE.out.LF _ hrm _ (kZ hne));have hol:=(ji AD.out).2;have HH2:=hid hh2;have aaK:=hid hne;have hnm:(n:Int) - 1=(m:Int):=by omega
     have hmn:(m:Int)<(n:Int):=by omega
     have hm0:¬(m:Int)<0:=by omega
     have aip:decide ((m:Int)<0)=false:=bS hm0;have TM:=hid (jQ.out m (by rw[<-HN.out,hm]));have TN:=hid (jI.out m (by rw[<-HN.out,hm]));have HMM:=hid hm;have TO:=hid hml;clear hcl Ib hh2 hown hrm hne Sw jQ jI hm hml;obtain⟨r,hr⟩:∃r,r=run rs m:=⟨_,rfl⟩;have HRR:=hid hr;rw[<-hr]at HH2 aaK hrl hr0 k2 HLM Ia TM TN;obtain⟨l,hl⟩:∃l,l=r.length:=⟨_,rfl⟩;rw[<-hl]at HH2 hrl hr0 k2;have HL:=hid hl;generalize hlm:nth ls m=lm at *;clear hr hl hlm;by_cases heq:lm=y
     ·have Fx:=hid (TM.out (by rw[Ia.out,<-HLM.out];exact heq))
      subst heq;clear TM TN;go_wp2_with (first | (go_at_call 196;refine(HC.out _).mono ?_;rintro e w' ⟨rfl,rfl⟩));go_quiet (fail);go_wp2_with (at_builtin;refine fV _ rfl _ _ 32 rfl B 3 i0 _ 1 8 underlying32 hi hz0 hz1 hz2 rfl (by decide) _ l (jk r) rfl ?jR _ 1 1 [.int .i64 i] rfl rfl (kM _ _ _ _ (by simp)) (one_cell _) (by unfold maxLen;omega) (by omega) ?PM ?_)
      case jR=>exact iM HH2.out (((Fr.refl [] _).drewN _).alloc _)
      case PM=>have:=Ai.out.b0.2;simp at this ⊢;omega
      intro v4 w4 sZ Aj PN;obtain⟨g4,c4,hv4⟩:=iQ (by omega) sZ;subst hv4;obtain⟨hgr,how⟩:=Ai.out.grow (i:=i) HN.out HMM.out HH2.out HL.out (((Fr.refl [] _).drewN _).alloc _) sZ Aj;have HR4:=hid hgr;have hcc:∃u,w4.cell? ⟨o,m * 2+1,none⟩=some u:=by
       rw[how.cellAt _ (by have:=HMM.out;omega),(PJ ls hs m (by have:=Ai.out.ll;omega) (by rw[Ai.out.ll.2];exact TO.out)).2,aA (by rw[Ai.out.ll.2];exact TO.out)];exact⟨_,rfl⟩
      obtain⟨u,f1⟩:=hcc;have f2:=how.frozenAt (m * 2+1);clear sZ Aj PN hgr how;go_wp2;go_roundw
      case rel=>exact⟨i+1,_,_,_,by go_num,by omega,hid (by rw[Fx.out];exact HR4.out),hid (by rw[Fx.out,HRR.out];exact Fv.out.set TO.out (by rw[<-HRR.out];exact aaK.out))⟩
      case measure=>simp[intOf];omega
     ·have Fx:=hid (TN.out (by rw[Ia.out,<-HLM.out];exact heq))
      have heb:(lm == y)=false:=by simp[heq]
      have hm1:(m:Int)+1=(n:Int):=by omega
      clear TM TN;go_wp2_with (first | (go_at_call 196;refine(HC.out _).mono ?_;rintro e w' ⟨rfl,rfl⟩));go_quiet (fail);go_wp2_with (at_builtin;refine fV _ rfl _ _ 291 rfl w.heap.size 294 i1 _ 2 32 underlying291 hi1 hy0 hy1 hy2 rfl (by decide) _ n (zc ls hs) rfl ?own _ 1 1 [.int .i64 y,.slice none 0 0] rfl rfl (kM _ _ _ _ (by simp)) (V_ _) (by unfold maxLen;omega) (by omega) ?Gk ?_)
      case own=>exact iM AD.out ((((Fr.refl [] _).drewN _)).alloc _)
      case Gk=>have:=Ai.out.fr.size;simp at this ⊢;omega
      intro v3 w3 lK GF XM;obtain⟨o3,aep,hv3⟩:=iQ (by omega) lK;subst hv3;have hr3:=Ai.out.new (lv:=y) Fq.out ((((Fr.refl [] _).drewN _)).alloc _) (by rw[<-HN.out];exact lK) GF;rw[show(wr.alloc (.cells #[.int .i32 r1,.int .i64 kk,.int .i64 r3,.int .i64 y] 280)).heap.size=wr.heap.size+1 by simp]at hr3;have HR3:=hid hr3;clear hr3;have Md:=hid (show(rs++[[]]).length=n+1 by rw[aD,<-HN.out];rfl);have HB3:=hid (HR3.out.cells Md.out.symm (bP n));have g1:=HB3.out.2;rw[aI (by rw[Ai.out.ll.2,<-HN.out];exact au _),Ai.out.ll.2,<-HN.out,dm]at g1;have ho3:o3<w3.heap.size:=(ji lK).2;have hb3:=HR3.out.b0.2;have hnI:((0:Nat):Int)<((0+1:Nat):Int):=by omega
      clear lK GF XM;go_wp2_with (at_builtin;refine fV _ rfl _ _ 32 rfl (wr.heap.size+1) 3 i0 _ 1 8 underlying32 hi hz0 hz1 hz2 rfl (by decide) _ 0 [] rfl ?jR _ 1 1 [.int .i64 i] rfl rfl (kM _ _ _ _ (by simp)) (one_cell _) (by unfold maxLen;omega) (by omega) ?PM ?_)
      case jR=>exact fQ _ _ _ _
      case PM=>simp at hb3 ⊢;omega
      intro v4 w4 sZ Aj PN;obtain⟨g4,c4,hv4⟩:=iQ (by omega) sZ;subst hv4;obtain⟨hgr,how⟩:=HR3.out.grow (r:=[]) (l:=0) (i:=i) Md.out.symm rfl (fQ _ _ _ _) rfl ((Fr.refl [] w3).alloc _) sZ Aj;rw[HN.out,GD]at hgr;have HR4:=hid hgr;have hcc:∃u,w4.cell? ⟨o3,n * 2+1,none⟩=some u:=by
       rw[how.cellAt _ (by omega),<-Ba _ _ _ _ (by have:=Ai.out.ll;omega),aI (by rw[CD _ _ Ai.out.ll,<-HN.out];omega),CD _ _ Ai.out.ll,<-HN.out,show n * 2+1 - n * 2=1 by omega];exact⟨_,rfl⟩
      obtain⟨u,f1⟩:=hcc;have f2:=how.frozenAt (n * 2+1);rw[<-HN.out]at HR4;clear sZ Aj PN hgr how g1;go_wp2;go_roundw
      case rel=>exact⟨i+1,_,_,_,by go_num,by omega,hid (by rw[Fx.out];exact HR4.out),hid (by rw[Fx.out];have h5:=Fv.out.snoc Ai.out.ll.1 i;rw[HY.out]at h5;exact h5)⟩
      case measure=>simp[intOf];omega
   ·have Fx:=hid (Dz.out.1 hg)
    rw[hg]at HC;generalize nth q.K i=kk at *;generalize nth L i=y at *;clear Dz hg;go_wp2_with (first | (go_at_call 196;refine(HC.out _).mono ?_;rintro e w' ⟨rfl,rfl⟩));go_roundw
    case rel=>exact⟨i+1,_,_,_,by go_num,by omega,hid (by rw[Fx.out];exact Ai.out),hid (by rw[Fx.out];exact Fv.out)⟩
    case measure=>simp[intOf];omega
  ·have hie:i=q.n:=by omega
   have HRZ:=hid (show RP w wr _ Z ls hs B by rw[HZ.out,HK.out,<-hie];exact HR.out);have HLZ:=hid (show zm L Z ls by rw[HZ.out,HK.out,<-hie];exact Fv.out);have y_:¬(i:Int)<(q.n:Int):=by omega
   clear hie HR Fv;go_wp2;go_ret;exact⟨_,rfl,ls,hs,B,HRZ.out,HLZ.out⟩
theorem GG (lv:Int)(g l c B:Nat)(r:List Nat)(w:World)(h:w.ownsRow B 3 1 (.slice (some ⟨g,0,none⟩) l c) l (jk r))(hl:l=r.length)(h0:0<l)(h1:l<=1000000) :
 Calls prog 177 #[.agg #[.int .i64 lv,.slice (some ⟨g,0,none⟩) l c]] w fun e w'=>e=.returned (.int .i64 (jw r:Nat))/\Fr [] w w':=by
 obtain⟨m,hm⟩:∃m,l=m+1:=⟨l - 1,by omega⟩;have e1:w.cell? ⟨g,m,none⟩=some (.int .i64 (jw r:Nat)):=by
  rw[nF h hl.symm m (by omega),jw,<-hl,hm];rfl
 have hg:=(ji h).2;generalize jw r=x at *;have hnm:(l:Int) - 1=(m:Int):=by omega
 have hml:(m:Int)<(l:Int):=by omega
 clear h hl hm;go_enter func177,ntmps177;go_wp2;go_ret;exact⟨rfl,(Fr.refl [] w).alloc _⟩
def qx (ls:List Int)(n:Nat)(lv:Int)(x:Int):Int:=if x<0\/(n:Int)<=x then lv else nth ls x.toNat
theorem GH (q:UH)(P cU:Nat)(lv:Int)(W w:World)(o n cap B:Nat)(rs:List (List Nat))(ls:List Int)(hs:List Value)(x:Int)(hq:QS w q P cU lv)(h:RP W w (.slice (some ⟨o,0,none⟩) n cap) rs ls hs B)(hn:n=rs.length) :
 Calls prog 174 #[.pointer (some ⟨P,0,none⟩),.slice (some ⟨o,0,none⟩) n cap,.int .i64 x] w fun e w'=>e=.returned (.int .i64 (qx ls n lv x))/\w'=w:=by
 have c2:=hq.c2;by_cases hx:x<0
 ·rw[show qx ls n lv x=lv by rw[qx,aE (.inl hx)]]
  have hxd:decide (x<0)=true:=bQ hx;clear h hq hn;go_enter func174,ntmps174;go_wp2;go_ret;exact⟨rfl,rfl⟩
 ·have hxd:decide (x<0)=false:=bS hx
  by_cases hx2:(n:Int)<=x
  ·rw[show qx ls n lv x=lv by rw[qx,aE (.inr hx2)]]
   clear h hq hn;go_enter func174,ntmps174;go_wp2;go_ret;exact⟨rfl,rfl⟩
  ·obtain⟨j,rfl⟩:∃j:Nat,x=j:=⟨x.toNat,by omega⟩
   have k1:=(h.cells hn (show j<n by omega)).1;rw[show qx ls n lv (j:Int)=nth ls j by rw[qx,ay (by omega)];rfl];generalize nth ls j=y at *;have hjI:(j:Int)<(n:Int):=by omega
   have hd2:decide ((n:Int)<=(j:Int))=false:=bS hx2;have hd3:decide (n<=j)=false:=bS (by omega);clear h hq hn;go_enter func174,ntmps174;go_wp2;go_ret;exact⟨rfl,rfl⟩
theorem PO (q:UH)(C L:List Int)(P cU:Nat)(lv:Int)(W w:World)(o n cap B:Nat)(rs:List (List Nat))(ls:List Int)(hs:List Value)(j g c:Nat)(hu:US w q C L)(hq:QS w q P cU lv)(h:RP W w (.slice (some ⟨o,0,none⟩) n cap) rs ls hs B)(hn:n=rs.length)(hj:j<n)(hnb:n<=1000000)
 (hh:hs[j]?=some (.slice (some ⟨g,0,none⟩) (run rs j).length c)) (hr:w.ownsRow W.heap.size 3 1 (.slice (some ⟨g,0,none⟩) (run rs j).length c) (run rs j).length (jk (run rs j))) (h0:0<(run rs j).length) (h1:(run rs j).length<=1000000) (hlt:jw (run rs j)<q.n) :
 Calls prog 175 #[.pointer (some ⟨P,0,none⟩),.slice (some ⟨o,0,none⟩) n cap,.int .i64 j] w fun e w'=>e=.returned (.int .i64 (if mh (nth q.K (jw (run rs j)))then lv else qx ls n lv ((j:Int)+1)))/\Fr [] w w':=by
 have c0:=hq.c0;have c2:=hq.c2;have hcl:=h.cells hn hj;have k1:=hcl.1;have k2:=hcl.2;rw[hh]at k2;have HU:=hid hu;have HQ:=hid hq;have HH:=hid h;have HN:=hid hn;have p1:=hu.k _ hlt;have hln:((jw (run rs j):Nat):Int)<(q.n:Int):=by omega
 have aaL:=hid (fun(X:World) (hf:Fr [] w X)=>GG (nth ls j) g _ c _ (run rs j) X (iM hr hf) rfl h0 h1);have PR:=hid p1;have HC0:=hid c0;obtain⟨V,hV⟩:∃V,V=if mh (nth q.K (jw (run rs j)))then lv else qx ls n lv ((j:Int)+1):=⟨_,rfl⟩
 rw[<-hV];have HV:=hid hV;generalize jw (run rs j)=x at *;generalize (run rs j).length=l at *;generalize nth q.K x=kk at *;generalize nth ls j=lj at *;have aaM:=hid (xN kk);have hjI:(j:Int)<(n:Int):=by omega
 have hol:=fC _ _ k1;have Co:=fC _ _ p1;have za:=fC _ _ c2;dsimp only at hol Co za;clear hu hq h hn hh hr hcl hV;go_enter func175,ntmps175;go_upto_region 1 with fail
 go_cut [19]from 7 to 19 (fun a wx=>a=.bool (mh kk)/\Hid (Fr [] w wx))
 case first =>
  go_region_with (first | (go_at_call 177;refine(aaL.out _ ?_).mono ?_;exact s_ _ _ _ rfl rfl rfl rfl;rintro e w1 ⟨rfl,hf1⟩;have u_:Fr [] w w1:=⟨hf1.os,hf1.tape,hf1.output,hf1.size,hf1.block⟩;have jc:=hid u_;have m0:=u_.cell PR.out aj;have m1:=u_.cell HC0.out aj;clear hf1 u_) | (go_at_call 202;refine(aaM.out _).mono ?_;rintro e w2 ⟨rfl,rfl⟩))
  all_goals (
   go_wp2
   go_meet
   exact⟨rfl,jc⟩)
 case rest =>
  obtain⟨rfl,HF⟩:=hcut;have d2:=(HQ.out.fr HF.out aj).c2;have aaN:=hid (GH q P cU lv W wc o n cap B rs ls hs ((j:Int)+1) (HQ.out.fr HF.out aj) (HH.out.oN HF.out) HN.out);clear c0 c2 k1 k2 p1;cases hk:mh kk
  ·have Ab:=hid (show V=qx ls n lv ((j:Int)+1) by rw[HV.out,hk];rfl)
   clear hk;go_wp2_with (first | (go_at_call 174;refine aaN.out.mono ?_;rintro e w' ⟨rfl,rfl⟩));go_ret;exact⟨BC Ab.out.symm,HF.out⟩
  ·have Ab:=hid (show V=lv by rw[HV.out,hk];rfl)
   clear hk;go_wp2;go_ret;exact⟨BC Ab.out.symm,HF.out⟩
end Go.Proofs.YtnakejhohdbfdacGreatDoor
